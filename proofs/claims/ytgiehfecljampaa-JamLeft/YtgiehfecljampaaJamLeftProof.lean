/-
  JamLeft returns true for every number of 384 bits and every place: the highest bit stands where it was wanted, and what is moved to the left is moved back.
-/
import Derived.Test.YtgiehfecljampaaRows
import Derived.WalkKit
import Derived.ProofKit
import Derived.OpenShut
import Derived.Test.YtgiehfecljampaaFrame6
import Derived.Test.YtgiehfecljampaaJam3
namespace Go.Proofs.Ytgiehfecljampaa.jamLeft
open WMath
open Go.ChangeShapes Go.WideShapes Go.ChangeAt Go.RowKit
set_option linter.unusedVariables false

theorem own : ownKnob Try.prog.godebug = none := by kernel_rfl

theorem and511_any (a : Int) : ∃ k : Nat, k < 512 ∧ bits .and .i64 a 511 = (k : Int) := by
  refine ⟨(BitVec.ofInt 64 a).toNat % 512, Nat.mod_lt _ (by decide), ?_⟩
  show IntKind.i64.wrap ((BitVec.ofInt 64 a &&& BitVec.ofInt 64 511).toNat : Int) = _
  have h1 : (BitVec.ofInt 64 511).toNat = 2 ^ 9 - 1 := by decide
  rw [BitVec.toNat_and, h1, Nat.and_two_pow_sub_one_eq_mod]
  exact wrap_i64_is _ (by omega) (by omega)

set_option maxRecDepth 100000 in
set_option maxHeartbeats 4000000 in
theorem walk (a0 : Nat) (a1 : Int) (h0 : a0 < Q) (h1 : (Lit.int .i64 a1).wf = true) (w : World) :
    Calls Try.prog 8 #[.agg (cw 6 a0), .int .i64 a1] w fun e w' => e = .returned (.bool true) ∧ Below w.heap.size w w' := by
  have hQ := Q_pos
  obtain ⟨n, n5, HN⟩ := and511_any a1
  obtain ⟨p, hp⟩ : ∃ p, n % 384 = p := ⟨_, rfl⟩
  have p6 : p < 384 := by rw [← hp]; exact Nat.mod_lt _ (by decide)
  have t1 : (n : Int) % 384 = (p : Int) := by omega
  obtain ⟨p1, hp1⟩ : ∃ p1 : Nat, p + 1 = p1 := ⟨_, rfl⟩
  have n1 : IntKind.i64.wrap ((p : Int) + 1) = (p1 : Int) := by rw [wrap_i64_is _ (by omega) (by omega)]; omega
  have hat := cw_at 6
  have hz := cw6z
  have hf := cw6f
  have hs0 := st0
  have hs1 := st1
  have hcs : ∀ x, ((cw 6 x).size = 6) = True := fun x => eq_true (cw_size 6 x)
  have heq := eq6
  have hg := eqg6
  by_cases ha : a0 = 0
  · have z0 : decide (a0 = 0) = true := decide_eq_true ha
    have HB : Box (a0 = 0 ∨ (p : Int) < 0 ∨ 384 ≤ (p : Int)) := box (Or.inl ha)
    clear ha hp hp1
    go_enter Try.func8, Try.ntmps8
    have R0_0 : (w.alloc (Obj.cells (cw 6 a0) 24)).heap[w.heap.size]? = some (Obj.cells (cw 6 a0) 24) := by have := heap_alloc_last w (Obj.cells (cw 6 a0) 24); simpa only [size_al] using this
    have B0 : Below w.heap.size w (w.alloc (Obj.cells (cw 6 a0) 24)) := ((Below.refl _ _).alloc (by first | omega | (simp only [size_al]; omega)) _)
    have c0_0 := row_cell R0_0
    go_wp2_with fail
    refine (jtop_bad a0 (p : Int) h0 HB.out _).mono ?_
    rintro e w1 ⟨rfl, hb1⟩
    have P1_0 : w1.heap[w.heap.size]? = some (Obj.cells (cw 6 a0) 24) := heap_of hb1 _ _ _ R0_0
    have z1_0 : w.heap.size < w1.heap.size := (Array.getElem?_eq_some_iff.1 P1_0).1
    have C1 : Below w.heap.size w w1 := B0.trans (hb1.mono B0.size)
    have y1 := C1.size
    clear hb1 B0 R0_0 c0_0
    have R1_0 : (w1.alloc (Obj.cells (cw 6 0) 24)).heap[w.heap.size]? = some (Obj.cells (cw 6 a0) 24) := by rw [heap_below _ _ _ (by omega)]; exact P1_0
    have R1_1 : (w1.alloc (Obj.cells (cw 6 0) 24)).heap[w1.heap.size]? = some (Obj.cells (cw 6 0) 24) := by have := heap_alloc_last w1 (Obj.cells (cw 6 0) 24); simpa only [size_al] using this
    have B1 : Below w.heap.size w (w1.alloc (Obj.cells (cw 6 0) 24)) := (C1.alloc (by first | omega | (simp only [size_al]; omega)) _)
    clear C1 P1_0 z1_0
    clear y1
    have c1_0 := row_cell R1_0
    have c1_1 := row_cell R1_1
    go_wp2_with fail
    refine (jalive_any _).mono ?_
    rintro e wz ⟨rfl, hbz⟩
    go_wp2
    go_ret
    exact ⟨rfl, B1.trans (hbz.mono B1.size)⟩
  obtain ⟨l, hl⟩ : ∃ l, blen a0 = l := ⟨_, rfl⟩
  have l6 := blen_le384 a0 h0
  rw [hl] at l6
  have z0 : decide (a0 = 0) = false := decide_eq_false ha
  have HA := box ha
  have HL := box hl
  by_cases hlt : p + 1 < l
  · obtain ⟨k, hk⟩ : ∃ k, l - (p + 1) = k := ⟨_, rfl⟩
    obtain ⟨v, hv⟩ : ∃ v, jr a0 k = v := ⟨_, rfl⟩
    obtain ⟨m, hm⟩ : ∃ m : Int, (p : Int) + 1 - (l : Int) = m := ⟨_, rfl⟩
    have vQ : v < Q := by rw [← hv]; exact jr_ltQ _ _ h0
    have hb : blen v = p1 := by rw [← hv, ← hk, ← hp1]; exact top_right a0 l p ha hl hlt
    have n2 : IntKind.i64.wrap ((p1 : Int) - (l : Int)) = m := by rw [wrap_i64_is _ (by omega) (by omega)]; omega
    have d1 : decide (m < 0) = true := by rw [decide_eq_true_iff]; omega
    have HV := box hv
    have HM := box hm
    have HK : Box (m = -(k : Int) ∧ 0 < k) := box (by omega)
    have HB := box hb
    clear ha hl hlt hk hv hm hb hp hp1 l6
    go_enter Try.func8, Try.ntmps8
    have R0_0 : (w.alloc (Obj.cells (cw 6 a0) 24)).heap[w.heap.size]? = some (Obj.cells (cw 6 a0) 24) := by have := heap_alloc_last w (Obj.cells (cw 6 a0) 24); simpa only [size_al] using this
    have B0 : Below w.heap.size w (w.alloc (Obj.cells (cw 6 a0) 24)) := ((Below.refl _ _).alloc (by first | omega | (simp only [size_al]; omega)) _)
    have c0_0 := row_cell R0_0
    go_wp2_with fail
    refine (jtop_right a0 v p l k m h0 HA.out p6 HL.out HM.out HK.out.1 HK.out.2 HV.out _).mono ?_
    rintro e w1 ⟨rfl, hb1⟩
    have P1_0 : w1.heap[w.heap.size]? = some (Obj.cells (cw 6 a0) 24) := heap_of hb1 _ _ _ R0_0
    have z1_0 : w.heap.size < w1.heap.size := (Array.getElem?_eq_some_iff.1 P1_0).1
    have C1 : Below w.heap.size w w1 := B0.trans (hb1.mono B0.size)
    have y1 := C1.size
    clear hb1 B0 R0_0 c0_0
    have R1_0 : (w1.alloc (Obj.cells (cw 6 v) 24)).heap[w.heap.size]? = some (Obj.cells (cw 6 a0) 24) := by rw [heap_below _ _ _ (by omega)]; exact P1_0
    have R1_1 : (w1.alloc (Obj.cells (cw 6 v) 24)).heap[w1.heap.size]? = some (Obj.cells (cw 6 v) 24) := by have := heap_alloc_last w1 (Obj.cells (cw 6 v) 24); simpa only [size_al] using this
    have B1 : Below w.heap.size w (w1.alloc (Obj.cells (cw 6 v) 24)) := (C1.alloc (by first | omega | (simp only [size_al]; omega)) _)
    clear C1 P1_0 z1_0
    clear y1
    have c1_0 := row_cell R1_0
    have c1_1 := row_cell R1_1
    go_wp2_with fail
    refine (wlen_is v p1 vQ HB.out _).mono ?_
    rintro e w2 ⟨rfl, hb2⟩
    have P2_0 : w2.heap[w.heap.size]? = some (Obj.cells (cw 6 a0) 24) := heap_of hb2 _ _ _ R1_0
    have z2_0 : w.heap.size < w2.heap.size := (Array.getElem?_eq_some_iff.1 P2_0).1
    have P2_1 : w2.heap[w1.heap.size]? = some (Obj.cells (cw 6 v) 24) := heap_of hb2 _ _ _ R1_1
    have z2_1 : w1.heap.size < w2.heap.size := (Array.getElem?_eq_some_iff.1 P2_1).1
    have C2 : Below w.heap.size w w2 := B1.trans (hb2.mono B1.size)
    have y2 := C2.size
    clear hb2 B1 R1_0 c1_0 R1_1 c1_1
    have R2_0 : w2.heap[w.heap.size]? = some (Obj.cells (cw 6 a0) 24) := P2_0
    have R2_1 : w2.heap[w1.heap.size]? = some (Obj.cells (cw 6 v) 24) := P2_1
    have B2 : Below w.heap.size w w2 := C2
    clear C2 P2_0 z2_0 P2_1 z2_1
    clear y2
    have c2_0 := row_cell R2_0
    have c2_1 := row_cell R2_1
    go_wp2_with fail
    refine (wlen_is a0 l h0 HL.out _).mono ?_
    rintro e w3 ⟨rfl, hb3⟩
    have P3_0 : w3.heap[w.heap.size]? = some (Obj.cells (cw 6 a0) 24) := heap_of hb3 _ _ _ R2_0
    have z3_0 : w.heap.size < w3.heap.size := (Array.getElem?_eq_some_iff.1 P3_0).1
    have P3_1 : w3.heap[w1.heap.size]? = some (Obj.cells (cw 6 v) 24) := heap_of hb3 _ _ _ R2_1
    have z3_1 : w1.heap.size < w3.heap.size := (Array.getElem?_eq_some_iff.1 P3_1).1
    have C3 : Below w.heap.size w w3 := B2.trans (hb3.mono B2.size)
    have y3 := C3.size
    clear hb3 B2 R2_0 c2_0 R2_1 c2_1
    have R3_0 : w3.heap[w.heap.size]? = some (Obj.cells (cw 6 a0) 24) := P3_0
    have R3_1 : w3.heap[w1.heap.size]? = some (Obj.cells (cw 6 v) 24) := P3_1
    have B3 : Below w.heap.size w w3 := C3
    clear C3 P3_0 z3_0 P3_1 z3_1
    clear y3
    have c3_0 := row_cell R3_0
    have c3_1 := row_cell R3_1
    go_wp2_with fail
    refine (jalive_any _).mono ?_
    rintro e wz ⟨rfl, hbz⟩
    go_wp2
    go_ret
    exact ⟨rfl, B3.trans (hbz.mono B3.size)⟩
  · obtain ⟨k, hk⟩ : ∃ k, p + 1 - l = k := ⟨_, rfl⟩
    obtain ⟨v, hv⟩ : ∃ v, a0 * 2 ^ k = v := ⟨_, rfl⟩
    have ht := top_left a0 l p ha hl (by omega) p6
    rw [hk, hv, hp1] at ht
    have vQ : v < Q := ht.1
    have n2 : IntKind.i64.wrap ((p1 : Int) - (l : Int)) = (k : Int) := by rw [wrap_i64_is _ (by omega) (by omega)]; omega
    have HV := box hv
    have HK : Box (p + 1 = l + k) := box (by omega)
    have HB := box ht.2
    have HR : Box (v / 2 ^ cnt6 (k : Int) = a0) := box (by rw [show cnt6 (k : Int) = k by unfold cnt6; omega, ← hv, Nat.mul_div_cancel _ (Nat.two_pow_pos k)])
    clear ha hl hlt hk hv hp hp1 l6 ht
    go_enter Try.func8, Try.ntmps8
    have R0_0 : (w.alloc (Obj.cells (cw 6 a0) 24)).heap[w.heap.size]? = some (Obj.cells (cw 6 a0) 24) := by have := heap_alloc_last w (Obj.cells (cw 6 a0) 24); simpa only [size_al] using this
    have B0 : Below w.heap.size w (w.alloc (Obj.cells (cw 6 a0) 24)) := ((Below.refl _ _).alloc (by first | omega | (simp only [size_al]; omega)) _)
    have c0_0 := row_cell R0_0
    go_wp2_with fail
    refine (jtop_left a0 v p l k h0 HA.out p6 HL.out HK.out HV.out vQ _).mono ?_
    rintro e w1 ⟨rfl, hb1⟩
    have P1_0 : w1.heap[w.heap.size]? = some (Obj.cells (cw 6 a0) 24) := heap_of hb1 _ _ _ R0_0
    have z1_0 : w.heap.size < w1.heap.size := (Array.getElem?_eq_some_iff.1 P1_0).1
    have C1 : Below w.heap.size w w1 := B0.trans (hb1.mono B0.size)
    have y1 := C1.size
    clear hb1 B0 R0_0 c0_0
    have R1_0 : (w1.alloc (Obj.cells (cw 6 v) 24)).heap[w.heap.size]? = some (Obj.cells (cw 6 a0) 24) := by rw [heap_below _ _ _ (by omega)]; exact P1_0
    have R1_1 : (w1.alloc (Obj.cells (cw 6 v) 24)).heap[w1.heap.size]? = some (Obj.cells (cw 6 v) 24) := by have := heap_alloc_last w1 (Obj.cells (cw 6 v) 24); simpa only [size_al] using this
    have B1 : Below w.heap.size w (w1.alloc (Obj.cells (cw 6 v) 24)) := (C1.alloc (by first | omega | (simp only [size_al]; omega)) _)
    clear C1 P1_0 z1_0
    clear y1
    have c1_0 := row_cell R1_0
    have c1_1 := row_cell R1_1
    go_wp2_with fail
    refine (wlen_is v p1 vQ HB.out _).mono ?_
    rintro e w2 ⟨rfl, hb2⟩
    have P2_0 : w2.heap[w.heap.size]? = some (Obj.cells (cw 6 a0) 24) := heap_of hb2 _ _ _ R1_0
    have z2_0 : w.heap.size < w2.heap.size := (Array.getElem?_eq_some_iff.1 P2_0).1
    have P2_1 : w2.heap[w1.heap.size]? = some (Obj.cells (cw 6 v) 24) := heap_of hb2 _ _ _ R1_1
    have z2_1 : w1.heap.size < w2.heap.size := (Array.getElem?_eq_some_iff.1 P2_1).1
    have C2 : Below w.heap.size w w2 := B1.trans (hb2.mono B1.size)
    have y2 := C2.size
    clear hb2 B1 R1_0 c1_0 R1_1 c1_1
    have R2_0 : w2.heap[w.heap.size]? = some (Obj.cells (cw 6 a0) 24) := P2_0
    have R2_1 : w2.heap[w1.heap.size]? = some (Obj.cells (cw 6 v) 24) := P2_1
    have B2 : Below w.heap.size w w2 := C2
    clear C2 P2_0 z2_0 P2_1 z2_1
    clear y2
    have c2_0 := row_cell R2_0
    have c2_1 := row_cell R2_1
    go_wp2_with fail
    refine (wlen_is a0 l h0 HL.out _).mono ?_
    rintro e w3 ⟨rfl, hb3⟩
    have P3_0 : w3.heap[w.heap.size]? = some (Obj.cells (cw 6 a0) 24) := heap_of hb3 _ _ _ R2_0
    have z3_0 : w.heap.size < w3.heap.size := (Array.getElem?_eq_some_iff.1 P3_0).1
    have P3_1 : w3.heap[w1.heap.size]? = some (Obj.cells (cw 6 v) 24) := heap_of hb3 _ _ _ R2_1
    have z3_1 : w1.heap.size < w3.heap.size := (Array.getElem?_eq_some_iff.1 P3_1).1
    have C3 : Below w.heap.size w w3 := B2.trans (hb3.mono B2.size)
    have y3 := C3.size
    clear hb3 B2 R2_0 c2_0 R2_1 c2_1
    have R3_0 : w3.heap[w.heap.size]? = some (Obj.cells (cw 6 a0) 24) := P3_0
    have R3_1 : w3.heap[w1.heap.size]? = some (Obj.cells (cw 6 v) 24) := P3_1
    have B3 : Below w.heap.size w w3 := C3
    clear C3 P3_0 z3_0 P3_1 z3_1
    clear y3
    have c3_0 := row_cell R3_0
    have c3_1 := row_cell R3_1
    go_wp2_with fail
    refine (wright_is v a0 (k : Int) _ vQ HR.out rfl _).mono ?_
    rintro e w4 ⟨rfl, hb4⟩
    have P4_0 : w4.heap[w.heap.size]? = some (Obj.cells (cw 6 a0) 24) := heap_of hb4 _ _ _ R3_0
    have z4_0 : w.heap.size < w4.heap.size := (Array.getElem?_eq_some_iff.1 P4_0).1
    have P4_1 : w4.heap[w1.heap.size]? = some (Obj.cells (cw 6 v) 24) := heap_of hb4 _ _ _ R3_1
    have z4_1 : w1.heap.size < w4.heap.size := (Array.getElem?_eq_some_iff.1 P4_1).1
    have C4 : Below w.heap.size w w4 := B3.trans (hb4.mono B3.size)
    have y4 := C4.size
    clear hb4 B3 R3_0 c3_0 R3_1 c3_1
    have R4_0 : (w4.alloc (Obj.cells (cw 6 a0) 24)).heap[w.heap.size]? = some (Obj.cells (cw 6 a0) 24) := by rw [heap_below _ _ _ (by omega)]; exact P4_0
    have R4_1 : (w4.alloc (Obj.cells (cw 6 a0) 24)).heap[w1.heap.size]? = some (Obj.cells (cw 6 v) 24) := by rw [heap_below _ _ _ (by omega)]; exact P4_1
    have R4_2 : (w4.alloc (Obj.cells (cw 6 a0) 24)).heap[w4.heap.size]? = some (Obj.cells (cw 6 a0) 24) := by have := heap_alloc_last w4 (Obj.cells (cw 6 a0) 24); simpa only [size_al] using this
    have B4 : Below w.heap.size w (w4.alloc (Obj.cells (cw 6 a0) 24)) := (C4.alloc (by first | omega | (simp only [size_al]; omega)) _)
    clear C4 P4_0 z4_0 P4_1 z4_1
    clear y4
    have c4_0 := row_cell R4_0
    have c4_1 := row_cell R4_1
    have c4_2 := row_cell R4_2
    go_wp2_with fail
    refine (jalive_any _).mono ?_
    rintro e wz ⟨rfl, hbz⟩
    go_wp2
    go_ret
    exact ⟨rfl, B4.trans (hbz.mono B4.size)⟩

set_option maxRecDepth 100000 in
theorem lifted (os : Os) (started : os.Started) (H : Type) (enc : TypeId × Value → H) :
    ReturnsInHanded {} Try.checked os 8 .any (Rows.jamLeftSpec.pre6 enc Try.prog Try.f8 Rows.jamLeftRow.domain false) (Rows.jamLeftSpec.post enc Try.prog Try.f8 false true false false) := by
  refine returnsInHanded_of_change (C := Try.checked) own started (by kernel_rfl) Try.func8
    (ChangeSpec.witness6 (enc := enc) (C := Try.checked) false ⟨#[], #[.agg #[.int .u64 0, .int .u64 0, .int .u64 0, .int .u64 0, .int .u64 0, .int .u64 0], .int .i64 0], []⟩ 8 (by kernel_rfl) (by kernel_rfl) (by kernel_rfl) (by kernel_rfl)) ?_
  intro W base args ds gs before hval0 hW hcnd _
  have hval : ∀ (j : Nat) t v, Try.f8.params[j]? = some t → args[j]? = some v → Value.okWide Try.prog W .any base t v := hval0
  have hW' := hW
  obtain ⟨p, q, hA0, hV, rfl, hfz, hnd⟩ := hW
  have hA : DataW.TrodAll enc Try.prog W 0 (fun _ => true) true Try.f8.params.toList args.toList ds p := hA0
  rw [Try.params8] at hA hval
  obtain ⟨v0, vs0, d0, ds0, p0, q0, hargs, rfl, rfl, k0, r0⟩ := trodAll_cons hA
  obtain ⟨v1, vs1, d1, ds1, p1, q1, rfl, rfl, rfl, k1, r1⟩ := trodAll_cons r0
  obtain ⟨rfl, rfl, rfl⟩ := trodAll_nil r1
  obtain rfl : args = #[v0, v1] := by cases args; simp_all
  obtain ⟨rfl, rfl⟩ := trodVars_none hV
  obtain ⟨a0, h0, rfl, rfl, rfl⟩ := open_w6 (hval 0 24 v0 rfl rfl) k0
  obtain ⟨a1, rfl, rfl, rfl, h1⟩ := open_int Try.underlying3 (hval 1 3 v1 rfl rfl) k1
  clear hA0 hval0
  simp only [List.append_nil] at hW'
  refine (walk a0 a1 h0 h1 W).mono fun e W' ⟨he, hg⟩ => ?_
  subst he
  exact ⟨_, rfl, post_plain hW' (fun _ _ _ => (trodAll_cons_mk (shut_bool Try.underlying4 _) trodAll_mk0)) (fun sp => (trodAll_cons_mk (shut_w6 a0) (trodAll_cons_mk (shut_int Try.underlying3 h1) trodAll_mk0))) (fun _ => rfl) hg (ok_one (by kernel_rfl) rfl (okWide_bool_mk Try.underlying4 _))⟩

theorem over : Rows.jamLeftRow.holds Try.pinned (OpenSpec.ofChange Rows.jamLeftSpec) :=
  OpenClaim.holds_of_wide 8 Try.f8 rfl rfl rfl rfl rfl rfl rfl ⟨rfl, rfl, rfl, rfl, rfl⟩ rfl rfl rfl rfl rfl (by kernel_rfl) Try.func8 (by kernel_rfl)
    (of_decide_eq_true (by kernel_rfl)) (by unfold Func.isWrapper; first | (rw [if_pos (by decide +kernel)]; kernel_rfl) | (rw [if_neg (by decide +kernel)]; exact ⟨rfl, rfl⟩))
    (fun os started H enc _ => lifted os started H enc)

theorem proved : Rows.JamLeftSaid :=
  over
#print axioms proved
end Go.Proofs.Ytgiehfecljampaa.jamLeft
