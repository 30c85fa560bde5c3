/-
  JamParts returns true for every number of 384 bits and every count: what is kept and what is left are the number, and the half is told rightly.
-/
import Derived.Test.YtgiehfecljampaaRows
import Derived.WalkKit
import Derived.ProofKit
import Derived.OpenShut
import Derived.Test.YtgiehfecljampaaFrame6
import Derived.Test.YtgiehfecljampaaJam3
namespace Go.Proofs.Ytgiehfecljampaa.jamParts
open WMath
open Go.ChangeShapes Go.WideShapes Go.ChangeAt Go.RowKit
set_option linter.unusedVariables false

theorem own : ownKnob Try.prog.godebug = none := by kernel_rfl

theorem and511_any (a : Int) : ∃ k : Nat, k < 512 ∧ bits .and .i64 a 511 = (k : Int) := by
  refine ⟨(BitVec.ofInt 64 a).toNat % 512, Nat.mod_lt _ (by decide), ?_⟩
  show IntKind.i64.wrap ((BitVec.ofInt 64 a &&& BitVec.ofInt 64 511).toNat : Int) = _
  have h1 : (BitVec.ofInt 64 511).toNat = 2 ^ 9 - 1 := by decide
  rw [BitVec.toNat_and, h1, Nat.and_two_pow_sub_one_eq_mod]
  exact wrap_i64_is _ (by omega) (by omega)

set_option maxRecDepth 100000 in
set_option maxHeartbeats 4000000 in
theorem walk (a0 : Nat) (a1 : Int) (h0 : a0 < Q) (h1 : (Lit.int .i64 a1).wf = true) (w : World) :
    Calls Try.prog 7 #[.agg (cw 6 a0), .int .i64 a1] w fun e w' => e = .returned (.bool true) ∧ Below w.heap.size w w' := by
  have hQ := Q_pos
  obtain ⟨n, n5, HN⟩ := and511_any a1
  obtain ⟨k, hk⟩ : ∃ k, n % 384 = k := ⟨_, rfl⟩
  have k6 : k < 384 := by rw [← hk]; exact Nat.mod_lt _ (by decide)
  have t1 : (n : Int) % 384 = (k : Int) := by omega
  have e6 : cnt6 (k : Int) = k := by unfold cnt6; omega
  have e5 : cnt5 (k : Int) = k := by unfold cnt5; omega
  obtain ⟨q, hq⟩ : ∃ q, a0 / 2 ^ k = q := ⟨_, rfl⟩
  obtain ⟨b, hb⟩ : ∃ b, q * 2 ^ k = b := ⟨_, rfl⟩
  obtain ⟨r, hr⟩ : ∃ r, a0 % 2 ^ k = r := ⟨_, rfl⟩
  obtain ⟨l, hl⟩ : ∃ l, blen r = l := ⟨_, rfl⟩
  have hs := split_sub a0 k h0
  rw [hq, hb, hr] at hs
  have hba : b ≤ a0 := by rw [← hb, ← hq]; exact Nat.div_mul_le_self _ _
  have rlt : r < 2 ^ k := by rw [← hr]; exact Nat.mod_lt _ (Nat.two_pow_pos k)
  have lk : l ≤ k := by rw [← hl]; exact blen_le_of r k rlt
  have qQ : q < Q := by rw [← hq]; exact Nat.lt_of_le_of_lt (Nat.div_le_self _ _) h0
  have bQ : b < Q := by omega
  have rQ : r < Q := by rw [← hr]; exact Nat.lt_of_le_of_lt (Nat.mod_le _ _) h0
  obtain ⟨o, ho⟩ : ∃ o, decide (r = 0) = o := ⟨_, rfl⟩
  have HV : Box (a0 / 2 ^ cnt6 (k : Int) = q) := box (by rw [e6]; exact hq)
  have HO : Box (decide (a0 % 2 ^ cnt6 (k : Int) = 0) = o) := box (by rw [e6, hr]; exact ho)
  have HB : Box (q * 2 ^ cnt6 (k : Int) % Q = b) := box (by rw [e6, hb, Nat.mod_eq_of_lt bQ])
  have HBO : Box (decide (Q ≤ q * 2 ^ cnt6 (k : Int)) = false) := box (by rw [e6, hb]; exact decide_eq_false (by omega))
  have HS := box hs
  have HSO : Box (decide (a0 < b) = false) := box (decide_eq_false (by omega))
  have HL := box hl
  have d1 : decide ((k : Int) < (l : Int)) = false := by rw [decide_eq_false_iff_not]; omega
  have HR := box hr
  have E5 := box e5
  have L6 : Box (l ≤ 384) := box (by omega)
  have hat := cw_at 6
  have hz := cw6z
  have hf := cw6f
  have hs0 := st0
  have hs1 := st1
  have hcs : ∀ x, ((cw 6 x).size = 6) = True := fun x => eq_true (cw_size 6 x)
  have heq := eq6
  have hg := eqg6
  by_cases hk0 : k = 0
  · have z0 : ((k : Int) == 0) = true := by rw [hk0]; rfl
    have HH : Box (halfv a0 (cnt5 (k : Int)) = -1) := box (by rw [e5, hk0]; unfold halfv; rw [if_pos (Or.inl rfl)])
    have r0 : r = 0 := by rw [hk0, Nat.pow_zero] at rlt; omega
    obtain rfl : o = true := by rw [← ho]; exact decide_eq_true r0
    clear hk hq hb hr hl hs hk0 e6 e5 rlt hba r0
    go_enter Try.func7, Try.ntmps7
    have R0_0 : (w.alloc (Obj.cells (cw 6 a0) 24)).heap[w.heap.size]? = some (Obj.cells (cw 6 a0) 24) := by have := heap_alloc_last w (Obj.cells (cw 6 a0) 24); simpa only [size_al] using this
    have B0 : Below w.heap.size w (w.alloc (Obj.cells (cw 6 a0) 24)) := ((Below.refl _ _).alloc (by first | omega | (simp only [size_al]; omega)) _)
    have c0_0 := row_cell R0_0
    go_wp2_with fail
    refine (jcut_is a0 q (k : Int) (-1) true h0 HV.out HH.out HO.out _).mono ?_
    rintro e w1 ⟨rfl, hb1⟩
    have P1_0 : w1.heap[w.heap.size]? = some (Obj.cells (cw 6 a0) 24) := heap_of hb1 _ _ _ R0_0
    have z1_0 : w.heap.size < w1.heap.size := (Array.getElem?_eq_some_iff.1 P1_0).1
    have C1 : Below w.heap.size w w1 := B0.trans (hb1.mono B0.size)
    have y1 := C1.size
    clear hb1 B0 R0_0 c0_0
    have R1_0 : (w1.alloc (Obj.cells (cw 6 q) 24)).heap[w.heap.size]? = some (Obj.cells (cw 6 a0) 24) := by rw [heap_below _ _ _ (by omega)]; exact P1_0
    have R1_1 : (w1.alloc (Obj.cells (cw 6 q) 24)).heap[w1.heap.size]? = some (Obj.cells (cw 6 q) 24) := by have := heap_alloc_last w1 (Obj.cells (cw 6 q) 24); simpa only [size_al] using this
    have B1 : Below w.heap.size w (w1.alloc (Obj.cells (cw 6 q) 24)) := (C1.alloc (by first | omega | (simp only [size_al]; omega)) _)
    clear C1 P1_0 z1_0
    clear y1
    have c1_0 := row_cell R1_0
    have c1_1 := row_cell R1_1
    go_wp2_with fail
    refine (wleft_is q b (k : Int) false qQ HB.out HBO.out _).mono ?_
    rintro e w2 ⟨rfl, hb2⟩
    have P2_0 : w2.heap[w.heap.size]? = some (Obj.cells (cw 6 a0) 24) := heap_of hb2 _ _ _ R1_0
    have z2_0 : w.heap.size < w2.heap.size := (Array.getElem?_eq_some_iff.1 P2_0).1
    have P2_1 : w2.heap[w1.heap.size]? = some (Obj.cells (cw 6 q) 24) := heap_of hb2 _ _ _ R1_1
    have z2_1 : w1.heap.size < w2.heap.size := (Array.getElem?_eq_some_iff.1 P2_1).1
    have C2 : Below w.heap.size w w2 := B1.trans (hb2.mono B1.size)
    have y2 := C2.size
    clear hb2 B1 R1_0 c1_0 R1_1 c1_1
    have R2_0 : (w2.alloc (Obj.cells (cw 6 b) 24)).heap[w.heap.size]? = some (Obj.cells (cw 6 a0) 24) := by rw [heap_below _ _ _ (by omega)]; exact P2_0
    have R2_1 : (w2.alloc (Obj.cells (cw 6 b) 24)).heap[w1.heap.size]? = some (Obj.cells (cw 6 q) 24) := by rw [heap_below _ _ _ (by omega)]; exact P2_1
    have R2_2 : (w2.alloc (Obj.cells (cw 6 b) 24)).heap[w2.heap.size]? = some (Obj.cells (cw 6 b) 24) := by have := heap_alloc_last w2 (Obj.cells (cw 6 b) 24); simpa only [size_al] using this
    have B2 : Below w.heap.size w (w2.alloc (Obj.cells (cw 6 b) 24)) := (C2.alloc (by first | omega | (simp only [size_al]; omega)) _)
    clear C2 P2_0 z2_0 P2_1 z2_1
    clear y2
    have c2_0 := row_cell R2_0
    have c2_1 := row_cell R2_1
    have c2_2 := row_cell R2_2
    go_wp2_with fail
    refine (wsub_is a0 b r false h0 bQ HS.out HSO.out _).mono ?_
    rintro e w3 ⟨rfl, hb3⟩
    have P3_0 : w3.heap[w.heap.size]? = some (Obj.cells (cw 6 a0) 24) := heap_of hb3 _ _ _ R2_0
    have z3_0 : w.heap.size < w3.heap.size := (Array.getElem?_eq_some_iff.1 P3_0).1
    have P3_1 : w3.heap[w1.heap.size]? = some (Obj.cells (cw 6 q) 24) := heap_of hb3 _ _ _ R2_1
    have z3_1 : w1.heap.size < w3.heap.size := (Array.getElem?_eq_some_iff.1 P3_1).1
    have P3_2 : w3.heap[w2.heap.size]? = some (Obj.cells (cw 6 b) 24) := heap_of hb3 _ _ _ R2_2
    have z3_2 : w2.heap.size < w3.heap.size := (Array.getElem?_eq_some_iff.1 P3_2).1
    have C3 : Below w.heap.size w w3 := B2.trans (hb3.mono B2.size)
    have y3 := C3.size
    clear hb3 B2 R2_0 c2_0 R2_1 c2_1 R2_2 c2_2
    have R3_0 : (w3.alloc (Obj.cells (cw 6 r) 24)).heap[w.heap.size]? = some (Obj.cells (cw 6 a0) 24) := by rw [heap_below _ _ _ (by omega)]; exact P3_0
    have R3_1 : (w3.alloc (Obj.cells (cw 6 r) 24)).heap[w1.heap.size]? = some (Obj.cells (cw 6 q) 24) := by rw [heap_below _ _ _ (by omega)]; exact P3_1
    have R3_2 : (w3.alloc (Obj.cells (cw 6 r) 24)).heap[w2.heap.size]? = some (Obj.cells (cw 6 b) 24) := by rw [heap_below _ _ _ (by omega)]; exact P3_2
    have R3_3 : (w3.alloc (Obj.cells (cw 6 r) 24)).heap[w3.heap.size]? = some (Obj.cells (cw 6 r) 24) := by have := heap_alloc_last w3 (Obj.cells (cw 6 r) 24); simpa only [size_al] using this
    have B3 : Below w.heap.size w (w3.alloc (Obj.cells (cw 6 r) 24)) := (C3.alloc (by first | omega | (simp only [size_al]; omega)) _)
    clear C3 P3_0 z3_0 P3_1 z3_1 P3_2 z3_2
    clear y3
    have c3_0 := row_cell R3_0
    have c3_1 := row_cell R3_1
    have c3_2 := row_cell R3_2
    have c3_3 := row_cell R3_3
    go_wp2_with fail
    refine (wlen_is r l rQ HL.out _).mono ?_
    rintro e w4 ⟨rfl, hb4⟩
    have P4_0 : w4.heap[w.heap.size]? = some (Obj.cells (cw 6 a0) 24) := heap_of hb4 _ _ _ R3_0
    have z4_0 : w.heap.size < w4.heap.size := (Array.getElem?_eq_some_iff.1 P4_0).1
    have P4_1 : w4.heap[w1.heap.size]? = some (Obj.cells (cw 6 q) 24) := heap_of hb4 _ _ _ R3_1
    have z4_1 : w1.heap.size < w4.heap.size := (Array.getElem?_eq_some_iff.1 P4_1).1
    have P4_2 : w4.heap[w2.heap.size]? = some (Obj.cells (cw 6 b) 24) := heap_of hb4 _ _ _ R3_2
    have z4_2 : w2.heap.size < w4.heap.size := (Array.getElem?_eq_some_iff.1 P4_2).1
    have P4_3 : w4.heap[w3.heap.size]? = some (Obj.cells (cw 6 r) 24) := heap_of hb4 _ _ _ R3_3
    have z4_3 : w3.heap.size < w4.heap.size := (Array.getElem?_eq_some_iff.1 P4_3).1
    have C4 : Below w.heap.size w w4 := B3.trans (hb4.mono B3.size)
    have y4 := C4.size
    clear hb4 B3 R3_0 c3_0 R3_1 c3_1 R3_2 c3_2 R3_3 c3_3
    have R4_0 : w4.heap[w.heap.size]? = some (Obj.cells (cw 6 a0) 24) := P4_0
    have R4_1 : w4.heap[w1.heap.size]? = some (Obj.cells (cw 6 q) 24) := P4_1
    have R4_2 : w4.heap[w2.heap.size]? = some (Obj.cells (cw 6 b) 24) := P4_2
    have R4_3 : w4.heap[w3.heap.size]? = some (Obj.cells (cw 6 r) 24) := P4_3
    have B4 : Below w.heap.size w w4 := C4
    clear C4 P4_0 z4_0 P4_1 z4_1 P4_2 z4_2 P4_3 z4_3
    clear y4
    have c4_0 := row_cell R4_0
    have c4_1 := row_cell R4_1
    have c4_2 := row_cell R4_2
    have c4_3 := row_cell R4_3
    go_wp2_with fail
    refine (jalive_any _).mono ?_
    rintro e wz ⟨rfl, hbz⟩
    go_wp2
    go_ret
    exact ⟨rfl, B4.trans (hbz.mono B4.size)⟩
  · have z0 : ((k : Int) == 0) = false := by simp only [beq_eq_false_iff_ne]; omega
    obtain ⟨j, hj⟩ : ∃ j, k = j + 1 := ⟨k - 1, by omega⟩
    obtain ⟨p, hp⟩ : ∃ p, 2 ^ j = p := ⟨_, rfl⟩
    obtain ⟨h, hh⟩ : ∃ h, cmpv r p = h := ⟨_, rfl⟩
    have pQ : p < Q := by rw [← hp]; exact pow_ltQ j (by omega)
    have q1 : 1 < Q := by have := Q_big; omega
    have n1 : IntKind.i64.wrap ((k : Int) - 1) = (j : Int) := by rw [wrap_i64_is _ (by omega) (by omega)]; omega
    have HP : Box (1 * 2 ^ cnt6 (j : Int) % Q = p) := box (by rw [show cnt6 (j : Int) = j by unfold cnt6; omega, Nat.one_mul, hp, Nat.mod_eq_of_lt pQ])
    have HH : Box (halfv a0 (cnt5 (k : Int)) = h) := box (by rw [e5]; unfold halfv; rw [if_neg (by omega), hr, show k - 1 = j by omega, hp, hh])
    have HC := box hh
    clear hk hq hb hr hl hs hk0 e6 e5 rlt hba hj hp hh
    go_enter Try.func7, Try.ntmps7
    have R0_0 : (w.alloc (Obj.cells (cw 6 a0) 24)).heap[w.heap.size]? = some (Obj.cells (cw 6 a0) 24) := by have := heap_alloc_last w (Obj.cells (cw 6 a0) 24); simpa only [size_al] using this
    have B0 : Below w.heap.size w (w.alloc (Obj.cells (cw 6 a0) 24)) := ((Below.refl _ _).alloc (by first | omega | (simp only [size_al]; omega)) _)
    have c0_0 := row_cell R0_0
    go_wp2_with fail
    refine (jcut_is a0 q (k : Int) h o h0 HV.out HH.out HO.out _).mono ?_
    rintro e w1 ⟨rfl, hb1⟩
    have P1_0 : w1.heap[w.heap.size]? = some (Obj.cells (cw 6 a0) 24) := heap_of hb1 _ _ _ R0_0
    have z1_0 : w.heap.size < w1.heap.size := (Array.getElem?_eq_some_iff.1 P1_0).1
    have C1 : Below w.heap.size w w1 := B0.trans (hb1.mono B0.size)
    have y1 := C1.size
    clear hb1 B0 R0_0 c0_0
    have R1_0 : (w1.alloc (Obj.cells (cw 6 q) 24)).heap[w.heap.size]? = some (Obj.cells (cw 6 a0) 24) := by rw [heap_below _ _ _ (by omega)]; exact P1_0
    have R1_1 : (w1.alloc (Obj.cells (cw 6 q) 24)).heap[w1.heap.size]? = some (Obj.cells (cw 6 q) 24) := by have := heap_alloc_last w1 (Obj.cells (cw 6 q) 24); simpa only [size_al] using this
    have B1 : Below w.heap.size w (w1.alloc (Obj.cells (cw 6 q) 24)) := (C1.alloc (by first | omega | (simp only [size_al]; omega)) _)
    clear C1 P1_0 z1_0
    clear y1
    have c1_0 := row_cell R1_0
    have c1_1 := row_cell R1_1
    go_wp2_with fail
    refine (wleft_is q b (k : Int) false qQ HB.out HBO.out _).mono ?_
    rintro e w2 ⟨rfl, hb2⟩
    have P2_0 : w2.heap[w.heap.size]? = some (Obj.cells (cw 6 a0) 24) := heap_of hb2 _ _ _ R1_0
    have z2_0 : w.heap.size < w2.heap.size := (Array.getElem?_eq_some_iff.1 P2_0).1
    have P2_1 : w2.heap[w1.heap.size]? = some (Obj.cells (cw 6 q) 24) := heap_of hb2 _ _ _ R1_1
    have z2_1 : w1.heap.size < w2.heap.size := (Array.getElem?_eq_some_iff.1 P2_1).1
    have C2 : Below w.heap.size w w2 := B1.trans (hb2.mono B1.size)
    have y2 := C2.size
    clear hb2 B1 R1_0 c1_0 R1_1 c1_1
    have R2_0 : (w2.alloc (Obj.cells (cw 6 b) 24)).heap[w.heap.size]? = some (Obj.cells (cw 6 a0) 24) := by rw [heap_below _ _ _ (by omega)]; exact P2_0
    have R2_1 : (w2.alloc (Obj.cells (cw 6 b) 24)).heap[w1.heap.size]? = some (Obj.cells (cw 6 q) 24) := by rw [heap_below _ _ _ (by omega)]; exact P2_1
    have R2_2 : (w2.alloc (Obj.cells (cw 6 b) 24)).heap[w2.heap.size]? = some (Obj.cells (cw 6 b) 24) := by have := heap_alloc_last w2 (Obj.cells (cw 6 b) 24); simpa only [size_al] using this
    have B2 : Below w.heap.size w (w2.alloc (Obj.cells (cw 6 b) 24)) := (C2.alloc (by first | omega | (simp only [size_al]; omega)) _)
    clear C2 P2_0 z2_0 P2_1 z2_1
    clear y2
    have c2_0 := row_cell R2_0
    have c2_1 := row_cell R2_1
    have c2_2 := row_cell R2_2
    go_wp2_with fail
    refine (wsub_is a0 b r false h0 bQ HS.out HSO.out _).mono ?_
    rintro e w3 ⟨rfl, hb3⟩
    have P3_0 : w3.heap[w.heap.size]? = some (Obj.cells (cw 6 a0) 24) := heap_of hb3 _ _ _ R2_0
    have z3_0 : w.heap.size < w3.heap.size := (Array.getElem?_eq_some_iff.1 P3_0).1
    have P3_1 : w3.heap[w1.heap.size]? = some (Obj.cells (cw 6 q) 24) := heap_of hb3 _ _ _ R2_1
    have z3_1 : w1.heap.size < w3.heap.size := (Array.getElem?_eq_some_iff.1 P3_1).1
    have P3_2 : w3.heap[w2.heap.size]? = some (Obj.cells (cw 6 b) 24) := heap_of hb3 _ _ _ R2_2
    have z3_2 : w2.heap.size < w3.heap.size := (Array.getElem?_eq_some_iff.1 P3_2).1
    have C3 : Below w.heap.size w w3 := B2.trans (hb3.mono B2.size)
    have y3 := C3.size
    clear hb3 B2 R2_0 c2_0 R2_1 c2_1 R2_2 c2_2
    have R3_0 : (w3.alloc (Obj.cells (cw 6 r) 24)).heap[w.heap.size]? = some (Obj.cells (cw 6 a0) 24) := by rw [heap_below _ _ _ (by omega)]; exact P3_0
    have R3_1 : (w3.alloc (Obj.cells (cw 6 r) 24)).heap[w1.heap.size]? = some (Obj.cells (cw 6 q) 24) := by rw [heap_below _ _ _ (by omega)]; exact P3_1
    have R3_2 : (w3.alloc (Obj.cells (cw 6 r) 24)).heap[w2.heap.size]? = some (Obj.cells (cw 6 b) 24) := by rw [heap_below _ _ _ (by omega)]; exact P3_2
    have R3_3 : (w3.alloc (Obj.cells (cw 6 r) 24)).heap[w3.heap.size]? = some (Obj.cells (cw 6 r) 24) := by have := heap_alloc_last w3 (Obj.cells (cw 6 r) 24); simpa only [size_al] using this
    have B3 : Below w.heap.size w (w3.alloc (Obj.cells (cw 6 r) 24)) := (C3.alloc (by first | omega | (simp only [size_al]; omega)) _)
    clear C3 P3_0 z3_0 P3_1 z3_1 P3_2 z3_2
    clear y3
    have c3_0 := row_cell R3_0
    have c3_1 := row_cell R3_1
    have c3_2 := row_cell R3_2
    have c3_3 := row_cell R3_3
    go_wp2_with fail
    refine (wlen_is r l rQ HL.out _).mono ?_
    rintro e w4 ⟨rfl, hb4⟩
    have P4_0 : w4.heap[w.heap.size]? = some (Obj.cells (cw 6 a0) 24) := heap_of hb4 _ _ _ R3_0
    have z4_0 : w.heap.size < w4.heap.size := (Array.getElem?_eq_some_iff.1 P4_0).1
    have P4_1 : w4.heap[w1.heap.size]? = some (Obj.cells (cw 6 q) 24) := heap_of hb4 _ _ _ R3_1
    have z4_1 : w1.heap.size < w4.heap.size := (Array.getElem?_eq_some_iff.1 P4_1).1
    have P4_2 : w4.heap[w2.heap.size]? = some (Obj.cells (cw 6 b) 24) := heap_of hb4 _ _ _ R3_2
    have z4_2 : w2.heap.size < w4.heap.size := (Array.getElem?_eq_some_iff.1 P4_2).1
    have P4_3 : w4.heap[w3.heap.size]? = some (Obj.cells (cw 6 r) 24) := heap_of hb4 _ _ _ R3_3
    have z4_3 : w3.heap.size < w4.heap.size := (Array.getElem?_eq_some_iff.1 P4_3).1
    have C4 : Below w.heap.size w w4 := B3.trans (hb4.mono B3.size)
    have y4 := C4.size
    clear hb4 B3 R3_0 c3_0 R3_1 c3_1 R3_2 c3_2 R3_3 c3_3
    have R4_0 : w4.heap[w.heap.size]? = some (Obj.cells (cw 6 a0) 24) := P4_0
    have R4_1 : w4.heap[w1.heap.size]? = some (Obj.cells (cw 6 q) 24) := P4_1
    have R4_2 : w4.heap[w2.heap.size]? = some (Obj.cells (cw 6 b) 24) := P4_2
    have R4_3 : w4.heap[w3.heap.size]? = some (Obj.cells (cw 6 r) 24) := P4_3
    have B4 : Below w.heap.size w w4 := C4
    clear C4 P4_0 z4_0 P4_1 z4_1 P4_2 z4_2 P4_3 z4_3
    clear y4
    have c4_0 := row_cell R4_0
    have c4_1 := row_cell R4_1
    have c4_2 := row_cell R4_2
    have c4_3 := row_cell R4_3
    go_wp2_with fail
    refine (wof_al 1 (by decide) _).mono ?_
    rintro e w5 ⟨rfl, hb5⟩
    have P5_0 : w5.heap[w.heap.size]? = some (Obj.cells (cw 6 a0) 24) := heap_of hb5 _ _ _ R4_0
    have z5_0 : w.heap.size < w5.heap.size := (Array.getElem?_eq_some_iff.1 P5_0).1
    have P5_1 : w5.heap[w1.heap.size]? = some (Obj.cells (cw 6 q) 24) := heap_of hb5 _ _ _ R4_1
    have z5_1 : w1.heap.size < w5.heap.size := (Array.getElem?_eq_some_iff.1 P5_1).1
    have P5_2 : w5.heap[w2.heap.size]? = some (Obj.cells (cw 6 b) 24) := heap_of hb5 _ _ _ R4_2
    have z5_2 : w2.heap.size < w5.heap.size := (Array.getElem?_eq_some_iff.1 P5_2).1
    have P5_3 : w5.heap[w3.heap.size]? = some (Obj.cells (cw 6 r) 24) := heap_of hb5 _ _ _ R4_3
    have z5_3 : w3.heap.size < w5.heap.size := (Array.getElem?_eq_some_iff.1 P5_3).1
    have C5 : Below w.heap.size w w5 := B4.trans (hb5.mono B4.size)
    have y5 := C5.size
    clear hb5 B4 R4_0 c4_0 R4_1 c4_1 R4_2 c4_2 R4_3 c4_3
    have R5_0 : w5.heap[w.heap.size]? = some (Obj.cells (cw 6 a0) 24) := P5_0
    have R5_1 : w5.heap[w1.heap.size]? = some (Obj.cells (cw 6 q) 24) := P5_1
    have R5_2 : w5.heap[w2.heap.size]? = some (Obj.cells (cw 6 b) 24) := P5_2
    have R5_3 : w5.heap[w3.heap.size]? = some (Obj.cells (cw 6 r) 24) := P5_3
    have B5 : Below w.heap.size w w5 := C5
    clear C5 P5_0 z5_0 P5_1 z5_1 P5_2 z5_2 P5_3 z5_3
    clear y5
    have c5_0 := row_cell R5_0
    have c5_1 := row_cell R5_1
    have c5_2 := row_cell R5_2
    have c5_3 := row_cell R5_3
    go_wp2_with fail
    refine (wleft_is 1 p (j : Int) _ q1 HP.out rfl _).mono ?_
    rintro e w6 ⟨rfl, hb6⟩
    have P6_0 : w6.heap[w.heap.size]? = some (Obj.cells (cw 6 a0) 24) := heap_of hb6 _ _ _ R5_0
    have z6_0 : w.heap.size < w6.heap.size := (Array.getElem?_eq_some_iff.1 P6_0).1
    have P6_1 : w6.heap[w1.heap.size]? = some (Obj.cells (cw 6 q) 24) := heap_of hb6 _ _ _ R5_1
    have z6_1 : w1.heap.size < w6.heap.size := (Array.getElem?_eq_some_iff.1 P6_1).1
    have P6_2 : w6.heap[w2.heap.size]? = some (Obj.cells (cw 6 b) 24) := heap_of hb6 _ _ _ R5_2
    have z6_2 : w2.heap.size < w6.heap.size := (Array.getElem?_eq_some_iff.1 P6_2).1
    have P6_3 : w6.heap[w3.heap.size]? = some (Obj.cells (cw 6 r) 24) := heap_of hb6 _ _ _ R5_3
    have z6_3 : w3.heap.size < w6.heap.size := (Array.getElem?_eq_some_iff.1 P6_3).1
    have C6 : Below w.heap.size w w6 := B5.trans (hb6.mono B5.size)
    have y6 := C6.size
    clear hb6 B5 R5_0 c5_0 R5_1 c5_1 R5_2 c5_2 R5_3 c5_3
    have R6_0 : (w6.alloc (Obj.cells (cw 6 p) 24)).heap[w.heap.size]? = some (Obj.cells (cw 6 a0) 24) := by rw [heap_below _ _ _ (by omega)]; exact P6_0
    have R6_1 : (w6.alloc (Obj.cells (cw 6 p) 24)).heap[w1.heap.size]? = some (Obj.cells (cw 6 q) 24) := by rw [heap_below _ _ _ (by omega)]; exact P6_1
    have R6_2 : (w6.alloc (Obj.cells (cw 6 p) 24)).heap[w2.heap.size]? = some (Obj.cells (cw 6 b) 24) := by rw [heap_below _ _ _ (by omega)]; exact P6_2
    have R6_3 : (w6.alloc (Obj.cells (cw 6 p) 24)).heap[w3.heap.size]? = some (Obj.cells (cw 6 r) 24) := by rw [heap_below _ _ _ (by omega)]; exact P6_3
    have R6_4 : (w6.alloc (Obj.cells (cw 6 p) 24)).heap[w6.heap.size]? = some (Obj.cells (cw 6 p) 24) := by have := heap_alloc_last w6 (Obj.cells (cw 6 p) 24); simpa only [size_al] using this
    have B6 : Below w.heap.size w (w6.alloc (Obj.cells (cw 6 p) 24)) := (C6.alloc (by first | omega | (simp only [size_al]; omega)) _)
    clear C6 P6_0 z6_0 P6_1 z6_1 P6_2 z6_2 P6_3 z6_3
    clear y6
    have c6_0 := row_cell R6_0
    have c6_1 := row_cell R6_1
    have c6_2 := row_cell R6_2
    have c6_3 := row_cell R6_3
    have c6_4 := row_cell R6_4
    go_wp2_with fail
    refine (wcmp_is r p h rQ pQ HC.out _).mono ?_
    rintro e w7 ⟨rfl, hb7⟩
    have P7_0 : w7.heap[w.heap.size]? = some (Obj.cells (cw 6 a0) 24) := heap_of hb7 _ _ _ R6_0
    have z7_0 : w.heap.size < w7.heap.size := (Array.getElem?_eq_some_iff.1 P7_0).1
    have P7_1 : w7.heap[w1.heap.size]? = some (Obj.cells (cw 6 q) 24) := heap_of hb7 _ _ _ R6_1
    have z7_1 : w1.heap.size < w7.heap.size := (Array.getElem?_eq_some_iff.1 P7_1).1
    have P7_2 : w7.heap[w2.heap.size]? = some (Obj.cells (cw 6 b) 24) := heap_of hb7 _ _ _ R6_2
    have z7_2 : w2.heap.size < w7.heap.size := (Array.getElem?_eq_some_iff.1 P7_2).1
    have P7_3 : w7.heap[w3.heap.size]? = some (Obj.cells (cw 6 r) 24) := heap_of hb7 _ _ _ R6_3
    have z7_3 : w3.heap.size < w7.heap.size := (Array.getElem?_eq_some_iff.1 P7_3).1
    have P7_4 : w7.heap[w6.heap.size]? = some (Obj.cells (cw 6 p) 24) := heap_of hb7 _ _ _ R6_4
    have z7_4 : w6.heap.size < w7.heap.size := (Array.getElem?_eq_some_iff.1 P7_4).1
    have C7 : Below w.heap.size w w7 := B6.trans (hb7.mono B6.size)
    have y7 := C7.size
    clear hb7 B6 R6_0 c6_0 R6_1 c6_1 R6_2 c6_2 R6_3 c6_3 R6_4 c6_4
    have R7_0 : w7.heap[w.heap.size]? = some (Obj.cells (cw 6 a0) 24) := P7_0
    have R7_1 : w7.heap[w1.heap.size]? = some (Obj.cells (cw 6 q) 24) := P7_1
    have R7_2 : w7.heap[w2.heap.size]? = some (Obj.cells (cw 6 b) 24) := P7_2
    have R7_3 : w7.heap[w3.heap.size]? = some (Obj.cells (cw 6 r) 24) := P7_3
    have R7_4 : w7.heap[w6.heap.size]? = some (Obj.cells (cw 6 p) 24) := P7_4
    have B7 : Below w.heap.size w w7 := C7
    clear C7 P7_0 z7_0 P7_1 z7_1 P7_2 z7_2 P7_3 z7_3 P7_4 z7_4
    clear y7
    have c7_0 := row_cell R7_0
    have c7_1 := row_cell R7_1
    have c7_2 := row_cell R7_2
    have c7_3 := row_cell R7_3
    have c7_4 := row_cell R7_4
    go_wp2_with fail
    refine (jalive_any _).mono ?_
    rintro e wz ⟨rfl, hbz⟩
    go_wp2
    go_ret
    exact ⟨rfl, B7.trans (hbz.mono B7.size)⟩

set_option maxRecDepth 100000 in
theorem lifted (os : Os) (started : os.Started) (H : Type) (enc : TypeId × Value → H) :
    ReturnsInHanded {} Try.checked os 7 .any (Rows.jamPartsSpec.pre6 enc Try.prog Try.f7 Rows.jamPartsRow.domain false) (Rows.jamPartsSpec.post enc Try.prog Try.f7 false true false false) := by
  refine returnsInHanded_of_change (C := Try.checked) own started (by kernel_rfl) Try.func7
    (ChangeSpec.witness6 (enc := enc) (C := Try.checked) false ⟨#[], #[.agg #[.int .u64 0, .int .u64 0, .int .u64 0, .int .u64 0, .int .u64 0, .int .u64 0], .int .i64 0], []⟩ 8 (by kernel_rfl) (by kernel_rfl) (by kernel_rfl) (by kernel_rfl)) ?_
  intro W base args ds gs before hval0 hW hcnd _
  have hval : ∀ (j : Nat) t v, Try.f7.params[j]? = some t → args[j]? = some v → Value.okWide Try.prog W .any base t v := hval0
  have hW' := hW
  obtain ⟨p, q, hA0, hV, rfl, hfz, hnd⟩ := hW
  have hA : DataW.TrodAll enc Try.prog W 0 (fun _ => true) true Try.f7.params.toList args.toList ds p := hA0
  rw [Try.params7] at hA hval
  obtain ⟨v0, vs0, d0, ds0, p0, q0, hargs, rfl, rfl, k0, r0⟩ := trodAll_cons hA
  obtain ⟨v1, vs1, d1, ds1, p1, q1, rfl, rfl, rfl, k1, r1⟩ := trodAll_cons r0
  obtain ⟨rfl, rfl, rfl⟩ := trodAll_nil r1
  obtain rfl : args = #[v0, v1] := by cases args; simp_all
  obtain ⟨rfl, rfl⟩ := trodVars_none hV
  obtain ⟨a0, h0, rfl, rfl, rfl⟩ := open_w6 (hval 0 24 v0 rfl rfl) k0
  obtain ⟨a1, rfl, rfl, rfl, h1⟩ := open_int Try.underlying3 (hval 1 3 v1 rfl rfl) k1
  clear hA0 hval0
  simp only [List.append_nil] at hW'
  refine (walk a0 a1 h0 h1 W).mono fun e W' ⟨he, hg⟩ => ?_
  subst he
  exact ⟨_, rfl, post_plain hW' (fun _ _ _ => (trodAll_cons_mk (shut_bool Try.underlying4 _) trodAll_mk0)) (fun sp => (trodAll_cons_mk (shut_w6 a0) (trodAll_cons_mk (shut_int Try.underlying3 h1) trodAll_mk0))) (fun _ => rfl) hg (ok_one (by kernel_rfl) rfl (okWide_bool_mk Try.underlying4 _))⟩

theorem over : Rows.jamPartsRow.holds Try.pinned (OpenSpec.ofChange Rows.jamPartsSpec) :=
  OpenClaim.holds_of_wide 7 Try.f7 rfl rfl rfl rfl rfl rfl rfl ⟨rfl, rfl, rfl, rfl, rfl⟩ rfl rfl rfl rfl rfl (by kernel_rfl) Try.func7 (by kernel_rfl)
    (of_decide_eq_true (by kernel_rfl)) (by unfold Func.isWrapper; first | (rw [if_pos (by decide +kernel)]; kernel_rfl) | (rw [if_neg (by decide +kernel)]; exact ⟨rfl, rfl⟩))
    (fun os started H enc _ => lifted os started H enc)

theorem proved : Rows.JamPartsSaid :=
  over
#print axioms proved
end Go.Proofs.Ytgiehfecljampaa.jamParts
