/-
  QuotAlike returns true for all words a and b, every factor and count: the digits of a and b, both times the factor, are the digits of a and b.
-/
import Derived.Test.YtflfgchnlcnibaaRows
import Derived.WalkKit
import Derived.ProofKit
import Derived.OpenShut
import Derived.Test.YtflfgchnlcnibaaFrame6
import Derived.Test.YtflfgchnlcnibaaQuot4
import Derived.Test.YtflfgchnlcnibaaQuot5
namespace Go.Proofs.Ytflfgchnlcnibaa.quotAlike
open WMath
open Go.ChangeShapes Go.WideShapes Go.ChangeAt Go.RowKit
set_option linter.unusedVariables false

theorem own : ownKnob Try.prog.godebug = none := by kernel_rfl

theorem nat_u32 {a : Int} (h : (Lit.int .u32 a).wf = true) : ∃ n : Nat, n < 4294967296 ∧ a = (n : Int) := by
  have h1 := bounds_u32 h
  exact ⟨a.toNat, by omega, by omega⟩
theorem and127_any (a : Int) : ∃ k : Nat, k < 128 ∧ bits .and .i64 a 127 = (k : Int) := by
  refine ⟨(BitVec.ofInt 64 a).toNat % 128, Nat.mod_lt _ (by decide), ?_⟩
  show IntKind.i64.wrap ((BitVec.ofInt 64 a &&& BitVec.ofInt 64 127).toNat : Int) = _
  have h1 : (BitVec.ofInt 64 127).toNat = 2 ^ 7 - 1 := by decide
  rw [BitVec.toNat_and, h1, Nat.and_two_pow_sub_one_eq_mod]
  exact wrap_i64_is _ (by omega) (by omega)
theorem small_prod (a c k : Nat) (ha : a < 18446744073709551616) (hc : c < 4294967296) (hk : k < 128) : a * c < Q ∧ a * c * 2 ^ k < Q := by
  obtain ⟨L, hL, hQ⟩ := Qq384
  have e1 : a * c ≤ 2 ^ 64 * 2 ^ 32 := Nat.mul_le_mul (by omega) (by omega)
  have e2 : a * c * 2 ^ k ≤ 2 ^ 64 * 2 ^ 32 * 2 ^ 128 := Nat.mul_le_mul e1 (Nat.pow_le_pow_right (by decide) (by omega))
  rw [← Nat.pow_add, ← Nat.pow_add] at e2
  have e3 : 2 ^ (64 + 32 + 128) < 2 ^ L := Nat.pow_lt_pow_right (by decide) (by omega)
  rw [hQ]
  have e4 : a * c * 1 ≤ a * c * 2 ^ k := Nat.mul_le_mul_left _ (Nat.two_pow_pos k)
  omega
theorem digits_alike (a b c k : Nat) (hc : c ≠ 0) : a * c * 2 ^ k / (b * c) = a * 2 ^ k / b ∧ (a * c * 2 ^ k % (b * c) = 0 ↔ a * 2 ^ k % b = 0) := by
  have e : a * c * 2 ^ k = a * 2 ^ k * c := by rw [Nat.mul_assoc, Nat.mul_comm c, ← Nat.mul_assoc]
  have hp : 0 < c := by omega
  rw [e, Nat.mul_div_mul_right _ _ hp, Nat.mul_mod_mul_right]
  refine ⟨rfl, fun h => ?_, fun h => by rw [h, Nat.zero_mul]⟩
  rcases Nat.mul_eq_zero.1 h with h | h
  · exact h
  · exact absurd h hc

set_option maxRecDepth 100000 in
set_option maxHeartbeats 4000000 in
theorem walk (a0 : Int) (a1 : Int) (a2 : Int) (a3 : Int) (h0 : (Lit.int .u64 a0).wf = true) (h1 : (Lit.int .u64 a1).wf = true) (h2 : (Lit.int .u32 a2).wf = true) (h3 : (Lit.int .i64 a3).wf = true) (w : World) :
    Calls Try.prog 8 #[.int .u64 a0, .int .u64 a1, .int .u32 a2, .int .i64 a3] w fun e w' => e = .returned (.bool true) ∧ Below w.heap.size w w' := by
  obtain ⟨a, ha, rfl⟩ := nat_u64 h0
  obtain ⟨b, hb, rfl⟩ := nat_u64 h1
  obtain ⟨c, hc, rfl⟩ := nat_u32 h2
  obtain ⟨k, hk, HK⟩ := and127_any a3
  have hcw : IntKind.u64.wrap (c : Int) = (c : Int) := by rw [IntKind.wrap_u64]; omega
  have hc64 : c < 18446744073709551616 := by omega
  obtain ⟨x, hx⟩ : ∃ x, a * c = x := ⟨_, rfl⟩
  obtain ⟨y, hy⟩ : ∃ y, b * c = y := ⟨_, rfl⟩
  obtain ⟨s1, s2⟩ := small_prod a c k ha hc hk
  obtain ⟨s3, s4⟩ := small_prod b c k hb hc hk
  obtain ⟨s5, s6⟩ := small_prod a 1 k ha (by decide) hk
  obtain ⟨s7, s8⟩ := small_prod b 1 k hb (by decide) hk
  rw [Nat.mul_one] at s5 s6 s7 s8
  rw [hx] at s1 s2
  rw [hy] at s3 s4
  have X1 : Box (a * c % Q = x) := box (by rw [hx, Nat.mod_eq_of_lt s1])
  have Y1 : Box (b * c % Q = y) := box (by rw [hy, Nat.mod_eq_of_lt s3])
  have cQ : c < Q := by have := (small_prod c 1 0 hc64 (by decide) (by decide)).1; omega
  have hat := cw_at 6
  have hz := cw6z
  have hf := cw6f
  have hs0 := st0
  have hs1 := st1
  have hcs : ∀ x, ((cw 6 x).size = 6) = True := fun x => eq_true (cw_size 6 x)
  have heq := eq6
  have hg := eqg6
  clear h0 h1 h2 h3
  by_cases hb0 : b = 0
  · have z1 : (((b : Nat) : Int) == 0) = true := by rw [hb0]; rfl
    clear hx hy hb0 s2 s4 s6 s8
    go_enter Try.func8, Try.ntmps8
    have B0 : Below w.heap.size w w := (Below.refl _ _)
    go_wp2_with fail
    refine (wof_al a ha _).mono ?_
    rintro e w1 ⟨rfl, hb1⟩
    have C1 : Below w.heap.size w w1 := B0.trans (hb1.mono B0.size)
    have y1 := C1.size
    clear hb1 B0 
    have B1 : Below w.heap.size w w1 := C1
    clear C1 
    clear y1
    go_wp2_with fail
    refine (wof_al c hc64 _).mono ?_
    rintro e w2 ⟨rfl, hb2⟩
    have C2 : Below w.heap.size w w2 := B1.trans (hb2.mono B1.size)
    have y2 := C2.size
    clear hb2 B1 
    have B2 : Below w.heap.size w w2 := C2
    clear C2 
    clear y2
    go_wp2_with fail
    refine (wmul_is a c x _ s5 cQ X1.out rfl _).mono ?_
    rintro e w3 ⟨rfl, hb3⟩
    have C3 : Below w.heap.size w w3 := B2.trans (hb3.mono B2.size)
    have y3 := C3.size
    clear hb3 B2 
    have R3_0 : (w3.alloc (Obj.cells (cw 6 x) 24)).heap[w3.heap.size]? = some (Obj.cells (cw 6 x) 24) := by have := heap_alloc_last w3 (Obj.cells (cw 6 x) 24); simpa only [size_al] using this
    have B3 : Below w.heap.size w (w3.alloc (Obj.cells (cw 6 x) 24)) := (C3.alloc (by first | omega | (simp only [size_al]; omega)) _)
    clear C3 
    clear y3
    have c3_0 := row_cell R3_0
    go_wp2_with fail
    refine (wof_al b hb _).mono ?_
    rintro e w4 ⟨rfl, hb4⟩
    have P4_0 : w4.heap[w3.heap.size]? = some (Obj.cells (cw 6 x) 24) := heap_of hb4 _ _ _ R3_0
    have z4_0 : w3.heap.size < w4.heap.size := (Array.getElem?_eq_some_iff.1 P4_0).1
    have C4 : Below w.heap.size w w4 := B3.trans (hb4.mono B3.size)
    have y4 := C4.size
    clear hb4 B3 R3_0 c3_0
    have R4_0 : w4.heap[w3.heap.size]? = some (Obj.cells (cw 6 x) 24) := P4_0
    have B4 : Below w.heap.size w w4 := C4
    clear C4 P4_0 z4_0
    clear y4
    have c4_0 := row_cell R4_0
    go_wp2_with fail
    refine (wof_al c hc64 _).mono ?_
    rintro e w5 ⟨rfl, hb5⟩
    have P5_0 : w5.heap[w3.heap.size]? = some (Obj.cells (cw 6 x) 24) := heap_of hb5 _ _ _ R4_0
    have z5_0 : w3.heap.size < w5.heap.size := (Array.getElem?_eq_some_iff.1 P5_0).1
    have C5 : Below w.heap.size w w5 := B4.trans (hb5.mono B4.size)
    have y5 := C5.size
    clear hb5 B4 R4_0 c4_0
    have R5_0 : w5.heap[w3.heap.size]? = some (Obj.cells (cw 6 x) 24) := P5_0
    have B5 : Below w.heap.size w w5 := C5
    clear C5 P5_0 z5_0
    clear y5
    have c5_0 := row_cell R5_0
    go_wp2_with fail
    refine (wmul_is b c y _ s7 cQ Y1.out rfl _).mono ?_
    rintro e w6 ⟨rfl, hb6⟩
    have P6_0 : w6.heap[w3.heap.size]? = some (Obj.cells (cw 6 x) 24) := heap_of hb6 _ _ _ R5_0
    have z6_0 : w3.heap.size < w6.heap.size := (Array.getElem?_eq_some_iff.1 P6_0).1
    have C6 : Below w.heap.size w w6 := B5.trans (hb6.mono B5.size)
    have y6 := C6.size
    clear hb6 B5 R5_0 c5_0
    have R6_0 : (w6.alloc (Obj.cells (cw 6 y) 24)).heap[w3.heap.size]? = some (Obj.cells (cw 6 x) 24) := by rw [heap_below _ _ _ (by omega)]; exact P6_0
    have R6_1 : (w6.alloc (Obj.cells (cw 6 y) 24)).heap[w6.heap.size]? = some (Obj.cells (cw 6 y) 24) := by have := heap_alloc_last w6 (Obj.cells (cw 6 y) 24); simpa only [size_al] using this
    have B6 : Below w.heap.size w (w6.alloc (Obj.cells (cw 6 y) 24)) := (C6.alloc (by first | omega | (simp only [size_al]; omega)) _)
    clear C6 P6_0 z6_0
    clear y6
    have c6_0 := row_cell R6_0
    have c6_1 := row_cell R6_1
    go_wp2_with fail
    refine (qalive_any _).mono ?_
    rintro e wz ⟨rfl, hbz⟩
    go_wp2
    go_ret
    exact ⟨rfl, B6.trans (hbz.mono B6.size)⟩
  by_cases hc0 : c = 0
  · have z1 : (((b : Nat) : Int) == 0) = false := by simp; omega
    have z2 : (((c : Nat) : Int) == 0) = true := by rw [hc0]; rfl
    clear hx hy hb0 hc0 s2 s4 s6 s8
    go_enter Try.func8, Try.ntmps8
    have B0 : Below w.heap.size w w := (Below.refl _ _)
    go_wp2_with fail
    refine (wof_al a ha _).mono ?_
    rintro e w1 ⟨rfl, hb1⟩
    have C1 : Below w.heap.size w w1 := B0.trans (hb1.mono B0.size)
    have y1 := C1.size
    clear hb1 B0 
    have B1 : Below w.heap.size w w1 := C1
    clear C1 
    clear y1
    go_wp2_with fail
    refine (wof_al c hc64 _).mono ?_
    rintro e w2 ⟨rfl, hb2⟩
    have C2 : Below w.heap.size w w2 := B1.trans (hb2.mono B1.size)
    have y2 := C2.size
    clear hb2 B1 
    have B2 : Below w.heap.size w w2 := C2
    clear C2 
    clear y2
    go_wp2_with fail
    refine (wmul_is a c x _ s5 cQ X1.out rfl _).mono ?_
    rintro e w3 ⟨rfl, hb3⟩
    have C3 : Below w.heap.size w w3 := B2.trans (hb3.mono B2.size)
    have y3 := C3.size
    clear hb3 B2 
    have R3_0 : (w3.alloc (Obj.cells (cw 6 x) 24)).heap[w3.heap.size]? = some (Obj.cells (cw 6 x) 24) := by have := heap_alloc_last w3 (Obj.cells (cw 6 x) 24); simpa only [size_al] using this
    have B3 : Below w.heap.size w (w3.alloc (Obj.cells (cw 6 x) 24)) := (C3.alloc (by first | omega | (simp only [size_al]; omega)) _)
    clear C3 
    clear y3
    have c3_0 := row_cell R3_0
    go_wp2_with fail
    refine (wof_al b hb _).mono ?_
    rintro e w4 ⟨rfl, hb4⟩
    have P4_0 : w4.heap[w3.heap.size]? = some (Obj.cells (cw 6 x) 24) := heap_of hb4 _ _ _ R3_0
    have z4_0 : w3.heap.size < w4.heap.size := (Array.getElem?_eq_some_iff.1 P4_0).1
    have C4 : Below w.heap.size w w4 := B3.trans (hb4.mono B3.size)
    have y4 := C4.size
    clear hb4 B3 R3_0 c3_0
    have R4_0 : w4.heap[w3.heap.size]? = some (Obj.cells (cw 6 x) 24) := P4_0
    have B4 : Below w.heap.size w w4 := C4
    clear C4 P4_0 z4_0
    clear y4
    have c4_0 := row_cell R4_0
    go_wp2_with fail
    refine (wof_al c hc64 _).mono ?_
    rintro e w5 ⟨rfl, hb5⟩
    have P5_0 : w5.heap[w3.heap.size]? = some (Obj.cells (cw 6 x) 24) := heap_of hb5 _ _ _ R4_0
    have z5_0 : w3.heap.size < w5.heap.size := (Array.getElem?_eq_some_iff.1 P5_0).1
    have C5 : Below w.heap.size w w5 := B4.trans (hb5.mono B4.size)
    have y5 := C5.size
    clear hb5 B4 R4_0 c4_0
    have R5_0 : w5.heap[w3.heap.size]? = some (Obj.cells (cw 6 x) 24) := P5_0
    have B5 : Below w.heap.size w w5 := C5
    clear C5 P5_0 z5_0
    clear y5
    have c5_0 := row_cell R5_0
    go_wp2_with fail
    refine (wmul_is b c y _ s7 cQ Y1.out rfl _).mono ?_
    rintro e w6 ⟨rfl, hb6⟩
    have P6_0 : w6.heap[w3.heap.size]? = some (Obj.cells (cw 6 x) 24) := heap_of hb6 _ _ _ R5_0
    have z6_0 : w3.heap.size < w6.heap.size := (Array.getElem?_eq_some_iff.1 P6_0).1
    have C6 : Below w.heap.size w w6 := B5.trans (hb6.mono B5.size)
    have y6 := C6.size
    clear hb6 B5 R5_0 c5_0
    have R6_0 : (w6.alloc (Obj.cells (cw 6 y) 24)).heap[w3.heap.size]? = some (Obj.cells (cw 6 x) 24) := by rw [heap_below _ _ _ (by omega)]; exact P6_0
    have R6_1 : (w6.alloc (Obj.cells (cw 6 y) 24)).heap[w6.heap.size]? = some (Obj.cells (cw 6 y) 24) := by have := heap_alloc_last w6 (Obj.cells (cw 6 y) 24); simpa only [size_al] using this
    have B6 : Below w.heap.size w (w6.alloc (Obj.cells (cw 6 y) 24)) := (C6.alloc (by first | omega | (simp only [size_al]; omega)) _)
    clear C6 P6_0 z6_0
    clear y6
    have c6_0 := row_cell R6_0
    have c6_1 := row_cell R6_1
    go_wp2_with fail
    refine (qalive_any _).mono ?_
    rintro e wz ⟨rfl, hbz⟩
    go_wp2
    go_ret
    exact ⟨rfl, B6.trans (hbz.mono B6.size)⟩
  · have z1 : (((b : Nat) : Int) == 0) = false := by simp; omega
    have z2 : (((c : Nat) : Int) == 0) = false := by simp; omega
    have al := digits_alike a b c k hc0
    rw [hx, hy] at al
    have y0 : y ≠ 0 := by rw [← hy]; exact Nat.mul_ne_zero hb0 hc0
    obtain ⟨q, hq⟩ : ∃ q, a * 2 ^ k / b = q := ⟨_, rfl⟩
    obtain ⟨m, hm⟩ : ∃ m, (!decide (a * 2 ^ k % b = 0)) = m := ⟨_, rfl⟩
    have qQ : q < Q := by rw [← hq]; exact Nat.lt_of_le_of_lt (Nat.div_le_self _ _) s6
    have hc6 : cnt6 (k : Int) = k := by unfold cnt6; omega
    have Q1 := box hq
    have Q2 : Box (x * 2 ^ k / y = q) := box (by rw [al.1]; exact hq)
    have M1 : Box (decide (a * 2 ^ k % b = 0) = !m) := box (by rw [← hm]; cases decide (a * 2 ^ k % b = 0) <;> rfl)
    have M2 : Box (decide (x * 2 ^ k % y = 0) = !m) := box (by rw [← M1.out]; exact decide_eq_decide.2 al.2)
    have C6 : ∀ n : Nat, Box (n * 2 ^ cnt6 (k : Int) = n * 2 ^ k) := fun n => box (by rw [hc6])
    have S2 := box s2
    have S6 := box s6
    have BN0 := box hb0
    have YN0 := box y0
    clear hx hy hb0 hc0 s2 s4 s6 s8 al hq hm hc6 y0
    go_enter Try.func8, Try.ntmps8
    have B0 : Below w.heap.size w w := (Below.refl _ _)
    go_wp2_with fail
    refine (wof_al a ha _).mono ?_
    rintro e w1 ⟨rfl, hb1⟩
    have C1 : Below w.heap.size w w1 := B0.trans (hb1.mono B0.size)
    have y1 := C1.size
    clear hb1 B0 
    have B1 : Below w.heap.size w w1 := C1
    clear C1 
    clear y1
    go_wp2_with fail
    refine (wof_al c hc64 _).mono ?_
    rintro e w2 ⟨rfl, hb2⟩
    have C2 : Below w.heap.size w w2 := B1.trans (hb2.mono B1.size)
    have y2 := C2.size
    clear hb2 B1 
    have B2 : Below w.heap.size w w2 := C2
    clear C2 
    clear y2
    go_wp2_with fail
    refine (wmul_is a c x _ s5 cQ X1.out rfl _).mono ?_
    rintro e w3 ⟨rfl, hb3⟩
    have C3 : Below w.heap.size w w3 := B2.trans (hb3.mono B2.size)
    have y3 := C3.size
    clear hb3 B2 
    have R3_0 : (w3.alloc (Obj.cells (cw 6 x) 24)).heap[w3.heap.size]? = some (Obj.cells (cw 6 x) 24) := by have := heap_alloc_last w3 (Obj.cells (cw 6 x) 24); simpa only [size_al] using this
    have B3 : Below w.heap.size w (w3.alloc (Obj.cells (cw 6 x) 24)) := (C3.alloc (by first | omega | (simp only [size_al]; omega)) _)
    clear C3 
    clear y3
    have c3_0 := row_cell R3_0
    go_wp2_with fail
    refine (wof_al b hb _).mono ?_
    rintro e w4 ⟨rfl, hb4⟩
    have P4_0 : w4.heap[w3.heap.size]? = some (Obj.cells (cw 6 x) 24) := heap_of hb4 _ _ _ R3_0
    have z4_0 : w3.heap.size < w4.heap.size := (Array.getElem?_eq_some_iff.1 P4_0).1
    have C4 : Below w.heap.size w w4 := B3.trans (hb4.mono B3.size)
    have y4 := C4.size
    clear hb4 B3 R3_0 c3_0
    have R4_0 : w4.heap[w3.heap.size]? = some (Obj.cells (cw 6 x) 24) := P4_0
    have B4 : Below w.heap.size w w4 := C4
    clear C4 P4_0 z4_0
    clear y4
    have c4_0 := row_cell R4_0
    go_wp2_with fail
    refine (wof_al c hc64 _).mono ?_
    rintro e w5 ⟨rfl, hb5⟩
    have P5_0 : w5.heap[w3.heap.size]? = some (Obj.cells (cw 6 x) 24) := heap_of hb5 _ _ _ R4_0
    have z5_0 : w3.heap.size < w5.heap.size := (Array.getElem?_eq_some_iff.1 P5_0).1
    have C5 : Below w.heap.size w w5 := B4.trans (hb5.mono B4.size)
    have y5 := C5.size
    clear hb5 B4 R4_0 c4_0
    have R5_0 : w5.heap[w3.heap.size]? = some (Obj.cells (cw 6 x) 24) := P5_0
    have B5 : Below w.heap.size w w5 := C5
    clear C5 P5_0 z5_0
    clear y5
    have c5_0 := row_cell R5_0
    go_wp2_with fail
    refine (wmul_is b c y _ s7 cQ Y1.out rfl _).mono ?_
    rintro e w6 ⟨rfl, hb6⟩
    have P6_0 : w6.heap[w3.heap.size]? = some (Obj.cells (cw 6 x) 24) := heap_of hb6 _ _ _ R5_0
    have z6_0 : w3.heap.size < w6.heap.size := (Array.getElem?_eq_some_iff.1 P6_0).1
    have C6 : Below w.heap.size w w6 := B5.trans (hb6.mono B5.size)
    have y6 := C6.size
    clear hb6 B5 R5_0 c5_0
    have R6_0 : (w6.alloc (Obj.cells (cw 6 y) 24)).heap[w3.heap.size]? = some (Obj.cells (cw 6 x) 24) := by rw [heap_below _ _ _ (by omega)]; exact P6_0
    have R6_1 : (w6.alloc (Obj.cells (cw 6 y) 24)).heap[w6.heap.size]? = some (Obj.cells (cw 6 y) 24) := by have := heap_alloc_last w6 (Obj.cells (cw 6 y) 24); simpa only [size_al] using this
    have B6 : Below w.heap.size w (w6.alloc (Obj.cells (cw 6 y) 24)) := (C6.alloc (by first | omega | (simp only [size_al]; omega)) _)
    clear C6 P6_0 z6_0
    clear y6
    have c6_0 := row_cell R6_0
    have c6_1 := row_cell R6_1
    go_wp2_with fail
    refine (wof_al a ha _).mono ?_
    rintro e w7 ⟨rfl, hb7⟩
    have P7_0 : w7.heap[w3.heap.size]? = some (Obj.cells (cw 6 x) 24) := heap_of hb7 _ _ _ R6_0
    have z7_0 : w3.heap.size < w7.heap.size := (Array.getElem?_eq_some_iff.1 P7_0).1
    have P7_1 : w7.heap[w6.heap.size]? = some (Obj.cells (cw 6 y) 24) := heap_of hb7 _ _ _ R6_1
    have z7_1 : w6.heap.size < w7.heap.size := (Array.getElem?_eq_some_iff.1 P7_1).1
    have C7 : Below w.heap.size w w7 := B6.trans (hb7.mono B6.size)
    have y7 := C7.size
    clear hb7 B6 R6_0 c6_0 R6_1 c6_1
    have R7_0 : w7.heap[w3.heap.size]? = some (Obj.cells (cw 6 x) 24) := P7_0
    have R7_1 : w7.heap[w6.heap.size]? = some (Obj.cells (cw 6 y) 24) := P7_1
    have B7 : Below w.heap.size w w7 := C7
    clear C7 P7_0 z7_0 P7_1 z7_1
    clear y7
    have c7_0 := row_cell R7_0
    have c7_1 := row_cell R7_1
    go_wp2_with fail
    refine (wof_al b hb _).mono ?_
    rintro e w8 ⟨rfl, hb8⟩
    have P8_0 : w8.heap[w3.heap.size]? = some (Obj.cells (cw 6 x) 24) := heap_of hb8 _ _ _ R7_0
    have z8_0 : w3.heap.size < w8.heap.size := (Array.getElem?_eq_some_iff.1 P8_0).1
    have P8_1 : w8.heap[w6.heap.size]? = some (Obj.cells (cw 6 y) 24) := heap_of hb8 _ _ _ R7_1
    have z8_1 : w6.heap.size < w8.heap.size := (Array.getElem?_eq_some_iff.1 P8_1).1
    have C8 : Below w.heap.size w w8 := B7.trans (hb8.mono B7.size)
    have y8 := C8.size
    clear hb8 B7 R7_0 c7_0 R7_1 c7_1
    have R8_0 : w8.heap[w3.heap.size]? = some (Obj.cells (cw 6 x) 24) := P8_0
    have R8_1 : w8.heap[w6.heap.size]? = some (Obj.cells (cw 6 y) 24) := P8_1
    have B8 : Below w.heap.size w w8 := C8
    clear C8 P8_0 z8_0 P8_1 z8_1
    clear y8
    have c8_0 := row_cell R8_0
    have c8_1 := row_cell R8_1
    go_wp2_with fail
    refine (qdigits_is a b (a * 2 ^ k) q (k : Int) m s5 s7 BN0.out (by omega) (by omega) (C6 a).out S6.out Q1.out M1.out _).mono ?_
    rintro e w9 ⟨rfl, hb9⟩
    have P9_0 : w9.heap[w3.heap.size]? = some (Obj.cells (cw 6 x) 24) := heap_of hb9 _ _ _ R8_0
    have z9_0 : w3.heap.size < w9.heap.size := (Array.getElem?_eq_some_iff.1 P9_0).1
    have P9_1 : w9.heap[w6.heap.size]? = some (Obj.cells (cw 6 y) 24) := heap_of hb9 _ _ _ R8_1
    have z9_1 : w6.heap.size < w9.heap.size := (Array.getElem?_eq_some_iff.1 P9_1).1
    have C9 : Below w.heap.size w w9 := B8.trans (hb9.mono B8.size)
    have y9 := C9.size
    clear hb9 B8 R8_0 c8_0 R8_1 c8_1
    have R9_0 : (w9.alloc (Obj.cells (cw 6 q) 24)).heap[w3.heap.size]? = some (Obj.cells (cw 6 x) 24) := by rw [heap_below _ _ _ (by omega)]; exact P9_0
    have R9_1 : (w9.alloc (Obj.cells (cw 6 q) 24)).heap[w6.heap.size]? = some (Obj.cells (cw 6 y) 24) := by rw [heap_below _ _ _ (by omega)]; exact P9_1
    have R9_2 : (w9.alloc (Obj.cells (cw 6 q) 24)).heap[w9.heap.size]? = some (Obj.cells (cw 6 q) 24) := by have := heap_alloc_last w9 (Obj.cells (cw 6 q) 24); simpa only [size_al] using this
    have B9 : Below w.heap.size w (w9.alloc (Obj.cells (cw 6 q) 24)) := (C9.alloc (by first | omega | (simp only [size_al]; omega)) _)
    clear C9 P9_0 z9_0 P9_1 z9_1
    clear y9
    have c9_0 := row_cell R9_0
    have c9_1 := row_cell R9_1
    have c9_2 := row_cell R9_2
    go_wp2_with fail
    refine (qdigits_is x y (x * 2 ^ k) q (k : Int) m s1 s3 YN0.out (by omega) (by omega) (C6 x).out S2.out Q2.out M2.out _).mono ?_
    rintro e w10 ⟨rfl, hb10⟩
    have P10_0 : w10.heap[w3.heap.size]? = some (Obj.cells (cw 6 x) 24) := heap_of hb10 _ _ _ R9_0
    have z10_0 : w3.heap.size < w10.heap.size := (Array.getElem?_eq_some_iff.1 P10_0).1
    have P10_1 : w10.heap[w6.heap.size]? = some (Obj.cells (cw 6 y) 24) := heap_of hb10 _ _ _ R9_1
    have z10_1 : w6.heap.size < w10.heap.size := (Array.getElem?_eq_some_iff.1 P10_1).1
    have P10_2 : w10.heap[w9.heap.size]? = some (Obj.cells (cw 6 q) 24) := heap_of hb10 _ _ _ R9_2
    have z10_2 : w9.heap.size < w10.heap.size := (Array.getElem?_eq_some_iff.1 P10_2).1
    have C10 : Below w.heap.size w w10 := B9.trans (hb10.mono B9.size)
    have y10 := C10.size
    clear hb10 B9 R9_0 c9_0 R9_1 c9_1 R9_2 c9_2
    have R10_0 : (w10.alloc (Obj.cells (cw 6 q) 24)).heap[w3.heap.size]? = some (Obj.cells (cw 6 x) 24) := by rw [heap_below _ _ _ (by omega)]; exact P10_0
    have R10_1 : (w10.alloc (Obj.cells (cw 6 q) 24)).heap[w6.heap.size]? = some (Obj.cells (cw 6 y) 24) := by rw [heap_below _ _ _ (by omega)]; exact P10_1
    have R10_2 : (w10.alloc (Obj.cells (cw 6 q) 24)).heap[w9.heap.size]? = some (Obj.cells (cw 6 q) 24) := by rw [heap_below _ _ _ (by omega)]; exact P10_2
    have R10_3 : (w10.alloc (Obj.cells (cw 6 q) 24)).heap[w10.heap.size]? = some (Obj.cells (cw 6 q) 24) := by have := heap_alloc_last w10 (Obj.cells (cw 6 q) 24); simpa only [size_al] using this
    have B10 : Below w.heap.size w (w10.alloc (Obj.cells (cw 6 q) 24)) := (C10.alloc (by first | omega | (simp only [size_al]; omega)) _)
    clear C10 P10_0 z10_0 P10_1 z10_1 P10_2 z10_2
    clear y10
    have c10_0 := row_cell R10_0
    have c10_1 := row_cell R10_1
    have c10_2 := row_cell R10_2
    have c10_3 := row_cell R10_3
    go_wp2_with fail
    refine (qalive_any _).mono ?_
    rintro e wz ⟨rfl, hbz⟩
    go_wp2
    go_ret
    exact ⟨rfl, B10.trans (hbz.mono B10.size)⟩

set_option maxRecDepth 100000 in
theorem lifted (os : Os) (started : os.Started) (H : Type) (enc : TypeId × Value → H) :
    ReturnsInHanded {} Try.checked os 8 .any (Rows.quotAlikeSpec.pre6 enc Try.prog Try.f8 Rows.quotAlikeRow.domain false) (Rows.quotAlikeSpec.post enc Try.prog Try.f8 false true false false) := by
  refine returnsInHanded_of_change (C := Try.checked) own started (by kernel_rfl) Try.func8
    (ChangeSpec.witness6 (enc := enc) (C := Try.checked) false ⟨#[], #[.int .u64 0, .int .u64 0, .int .u32 0, .int .i64 0], []⟩ 8 (by kernel_rfl) (by kernel_rfl) (by kernel_rfl) (by kernel_rfl)) ?_
  intro W base args ds gs before hval0 hW hcnd _
  have hval : ∀ (j : Nat) t v, Try.f8.params[j]? = some t → args[j]? = some v → Value.okWide Try.prog W .any base t v := hval0
  have hW' := hW
  obtain ⟨p, q, hA0, hV, rfl, hfz, hnd⟩ := hW
  have hA : DataW.TrodAll enc Try.prog W 0 (fun _ => true) true Try.f8.params.toList args.toList ds p := hA0
  rw [Try.params8] at hA hval
  obtain ⟨v0, vs0, d0, ds0, p0, q0, hargs, rfl, rfl, k0, r0⟩ := trodAll_cons hA
  obtain ⟨v1, vs1, d1, ds1, p1, q1, rfl, rfl, rfl, k1, r1⟩ := trodAll_cons r0
  obtain ⟨v2, vs2, d2, ds2, p2, q2, rfl, rfl, rfl, k2, r2⟩ := trodAll_cons r1
  obtain ⟨v3, vs3, d3, ds3, p3, q3, rfl, rfl, rfl, k3, r3⟩ := trodAll_cons r2
  obtain ⟨rfl, rfl, rfl⟩ := trodAll_nil r3
  obtain rfl : args = #[v0, v1, v2, v3] := by cases args; simp_all
  obtain ⟨rfl, rfl⟩ := trodVars_none hV
  obtain ⟨a0, rfl, rfl, rfl, h0⟩ := open_int Try.underlying22 (hval 0 22 v0 rfl rfl) k0
  obtain ⟨a1, rfl, rfl, rfl, h1⟩ := open_int Try.underlying22 (hval 1 22 v1 rfl rfl) k1
  obtain ⟨a2, rfl, rfl, rfl, h2⟩ := open_int Try.underlying43 (hval 2 43 v2 rfl rfl) k2
  obtain ⟨a3, rfl, rfl, rfl, h3⟩ := open_int Try.underlying3 (hval 3 3 v3 rfl rfl) k3
  clear hA0 hval0
  simp only [List.append_nil] at hW'
  refine (walk a0 a1 a2 a3 h0 h1 h2 h3 W).mono fun e W' ⟨he, hg⟩ => ?_
  subst he
  exact ⟨_, rfl, post_plain hW' (fun _ _ _ => (trodAll_cons_mk (shut_bool Try.underlying4 _) trodAll_mk0)) (fun sp => (trodAll_cons_mk (shut_int Try.underlying22 h0) (trodAll_cons_mk (shut_int Try.underlying22 h1) (trodAll_cons_mk (shut_int Try.underlying43 h2) (trodAll_cons_mk (shut_int Try.underlying3 h3) trodAll_mk0))))) (fun _ => rfl) hg (ok_one (by kernel_rfl) rfl (okWide_bool_mk Try.underlying4 _))⟩

theorem over : Rows.quotAlikeRow.holds Try.pinned (OpenSpec.ofChange Rows.quotAlikeSpec) :=
  OpenClaim.holds_of_wide 8 Try.f8 rfl rfl rfl rfl rfl rfl rfl ⟨rfl, rfl, rfl, rfl, rfl⟩ rfl rfl rfl rfl rfl (by kernel_rfl) Try.func8 (by kernel_rfl)
    (of_decide_eq_true (by kernel_rfl)) (by unfold Func.isWrapper; first | (rw [if_pos (by decide +kernel)]; kernel_rfl) | (rw [if_neg (by decide +kernel)]; exact ⟨rfl, rfl⟩))
    (fun os started H enc _ => lifted os started H enc)

theorem proved : Rows.QuotAlikeSaid :=
  over
#print axioms proved
end Go.Proofs.Ytflfgchnlcnibaa.quotAlike
