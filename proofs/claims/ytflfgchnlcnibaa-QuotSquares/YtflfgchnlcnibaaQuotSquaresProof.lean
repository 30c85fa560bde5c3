/-
  QuotSquares returns true for every number of 384 bits: the square of its root, and what is left, is the number; what is left is at most twice the root.
-/
import Derived.Test.YtflfgchnlcnibaaRows
import Derived.WalkKit
import Derived.ProofKit
import Derived.OpenShut
import Derived.Test.YtflfgchnlcnibaaFrame6
import Derived.Test.YtflfgchnlcnibaaQuot5
namespace Go.Proofs.Ytflfgchnlcnibaa.quotSquares
open WMath
open Go.ChangeShapes Go.WideShapes Go.ChangeAt Go.RowKit
set_option linter.unusedVariables false

theorem own : ownKnob Try.prog.godebug = none := by kernel_rfl

set_option maxRecDepth 100000 in
set_option maxHeartbeats 4000000 in
theorem walk (a0 : Nat) (h0 : a0 < Q) (w : World) :
    Calls Try.prog 7 #[.agg (cw 6 a0)] w fun e w' => e = .returned (.bool true) ∧ Below w.heap.size w w' := by
  have hat := cw_at 6
  have hz := cw6z
  have hf := cw6f
  have hs0 := st0
  have hs1 := st1
  have hcs : ∀ x, ((cw 6 x).size = 6) = True := fun x => eq_true (cw_size 6 x)
  have heq := eq6
  have hg := eqg6
  have hQ := Q_pos
  obtain ⟨q, hq⟩ := root_any a0
  obtain ⟨r, hr⟩ : ∃ r, a0 - q * q = r := ⟨_, rfl⟩
  obtain ⟨p, hp⟩ : ∃ p, q * q = p := ⟨_, rfl⟩
  have hq1 := hq.1
  have hq2 := hq.2
  have hsq := sq_add q 1
  rw [hp] at hq1
  rw [hsq, hp] at hq2
  have hs : p + r = a0 := by omega
  have hle : r ≤ q + q := by omega
  have qQ : q < Q := Nat.lt_of_le_of_lt (Nat.le_trans (Nat.le_mul_self q) hq.1) h0
  have rQ : r < Q := by omega
  have pQ : p < Q := by omega
  have tQ : q + q < Q := root_twice a0 q h0 hq
  obtain ⟨t, ht⟩ : ∃ t, q + q = t := ⟨_, rfl⟩
  obtain ⟨c, hc⟩ : ∃ c, cmpv r t = c := ⟨_, rfl⟩
  have hc2 : decide (c ≤ 0) = true := by
    rw [← hc]; unfold cmpv
    by_cases e : r = t
    · rw [if_pos e]; rfl
    · rw [if_neg e, if_pos (by omega)]; rfl
  have HQ := box hq
  have HR := box hr
  have HP : Box (q * q % Q = p) := box (by rw [hp, Nat.mod_eq_of_lt pQ])
  have HPO : Box (decide (Q ≤ q * q) = false) := box (decide_eq_false (by omega))
  have HS : Box ((p + r) % Q = a0) := box (by rw [hs, Nat.mod_eq_of_lt h0])
  have HSO : Box (decide (Q ≤ p + r) = false) := box (decide_eq_false (by omega))
  have HT : Box ((q + q) % Q = t) := box (by rw [Nat.mod_eq_of_lt tQ, ht])
  have HC := box hc
  have ttQ : t < Q := by omega
  clear hq hr hp hs ht hc hq1 hq2 hsq hle tQ
  go_enter Try.func7, Try.ntmps7
  have R0_0 : (w.alloc (Obj.cells (cw 6 a0) 24)).heap[w.heap.size]? = some (Obj.cells (cw 6 a0) 24) := by have := heap_alloc_last w (Obj.cells (cw 6 a0) 24); simpa only [size_al] using this
  have B0 : Below w.heap.size w (w.alloc (Obj.cells (cw 6 a0) 24)) := ((Below.refl _ _).alloc (by first | omega | (simp only [size_al]; omega)) _)
  have c0_0 := row_cell R0_0
  go_wp2_with fail
  refine (qsqrt_is a0 q r h0 HQ.out HR.out _).mono ?_
  rintro e w1 ⟨rfl, hb1⟩
  have P1_0 : w1.heap[w.heap.size]? = some (Obj.cells (cw 6 a0) 24) := heap_of hb1 _ _ _ R0_0
  have z1_0 : w.heap.size < w1.heap.size := (Array.getElem?_eq_some_iff.1 P1_0).1
  have C1 : Below w.heap.size w w1 := B0.trans (hb1.mono B0.size)
  have y1 := C1.size
  clear hb1 B0 R0_0 c0_0
  have R1_0 : ((w1.alloc (Obj.cells (cw 6 q) 24)).alloc (Obj.cells (cw 6 r) 24)).heap[w.heap.size]? = some (Obj.cells (cw 6 a0) 24) := by rw [heap_below _ _ _ (by simp only [size_al]; omega), heap_below _ _ _ (by omega)]; exact P1_0
  have R1_1 : ((w1.alloc (Obj.cells (cw 6 q) 24)).alloc (Obj.cells (cw 6 r) 24)).heap[w1.heap.size]? = some (Obj.cells (cw 6 q) 24) := by rw [heap_below _ _ _ (by simp only [size_al]; omega)]; have := heap_alloc_last w1 (Obj.cells (cw 6 q) 24); simpa only [size_al] using this
  have R1_2 : ((w1.alloc (Obj.cells (cw 6 q) 24)).alloc (Obj.cells (cw 6 r) 24)).heap[w1.heap.size + 1]? = some (Obj.cells (cw 6 r) 24) := by have := heap_alloc_last (w1.alloc (Obj.cells (cw 6 q) 24)) (Obj.cells (cw 6 r) 24); simpa only [size_al] using this
  have B1 : Below w.heap.size w ((w1.alloc (Obj.cells (cw 6 q) 24)).alloc (Obj.cells (cw 6 r) 24)) := ((C1.alloc (by first | omega | (simp only [size_al]; omega)) _).alloc (by first | omega | (simp only [size_al]; omega)) _)
  clear C1 P1_0 z1_0
  clear y1
  have c1_0 := row_cell R1_0
  have c1_1 := row_cell R1_1
  have c1_2 := row_cell R1_2
  go_wp2_with fail
  refine (wmul_is q q p false qQ qQ HP.out HPO.out _).mono ?_
  rintro e w2 ⟨rfl, hb2⟩
  have P2_0 : w2.heap[w.heap.size]? = some (Obj.cells (cw 6 a0) 24) := heap_of hb2 _ _ _ R1_0
  have z2_0 : w.heap.size < w2.heap.size := (Array.getElem?_eq_some_iff.1 P2_0).1
  have P2_1 : w2.heap[w1.heap.size]? = some (Obj.cells (cw 6 q) 24) := heap_of hb2 _ _ _ R1_1
  have z2_1 : w1.heap.size < w2.heap.size := (Array.getElem?_eq_some_iff.1 P2_1).1
  have P2_2 : w2.heap[w1.heap.size + 1]? = some (Obj.cells (cw 6 r) 24) := heap_of hb2 _ _ _ R1_2
  have z2_2 : w1.heap.size + 1 < w2.heap.size := (Array.getElem?_eq_some_iff.1 P2_2).1
  have C2 : Below w.heap.size w w2 := B1.trans (hb2.mono B1.size)
  have y2 := C2.size
  clear hb2 B1 R1_0 c1_0 R1_1 c1_1 R1_2 c1_2
  have R2_0 : (w2.alloc (Obj.cells (cw 6 p) 24)).heap[w.heap.size]? = some (Obj.cells (cw 6 a0) 24) := by rw [heap_below _ _ _ (by omega)]; exact P2_0
  have R2_1 : (w2.alloc (Obj.cells (cw 6 p) 24)).heap[w1.heap.size]? = some (Obj.cells (cw 6 q) 24) := by rw [heap_below _ _ _ (by omega)]; exact P2_1
  have R2_2 : (w2.alloc (Obj.cells (cw 6 p) 24)).heap[w1.heap.size + 1]? = some (Obj.cells (cw 6 r) 24) := by rw [heap_below _ _ _ (by omega)]; exact P2_2
  have R2_3 : (w2.alloc (Obj.cells (cw 6 p) 24)).heap[w2.heap.size]? = some (Obj.cells (cw 6 p) 24) := by have := heap_alloc_last w2 (Obj.cells (cw 6 p) 24); simpa only [size_al] using this
  have B2 : Below w.heap.size w (w2.alloc (Obj.cells (cw 6 p) 24)) := (C2.alloc (by first | omega | (simp only [size_al]; omega)) _)
  clear C2 P2_0 z2_0 P2_1 z2_1 P2_2 z2_2
  clear y2
  have c2_0 := row_cell R2_0
  have c2_1 := row_cell R2_1
  have c2_2 := row_cell R2_2
  have c2_3 := row_cell R2_3
  go_wp2_with fail
  refine (wadd_is p r a0 false pQ rQ HS.out HSO.out _).mono ?_
  rintro e w3 ⟨rfl, hb3⟩
  have P3_0 : w3.heap[w.heap.size]? = some (Obj.cells (cw 6 a0) 24) := heap_of hb3 _ _ _ R2_0
  have z3_0 : w.heap.size < w3.heap.size := (Array.getElem?_eq_some_iff.1 P3_0).1
  have P3_1 : w3.heap[w1.heap.size]? = some (Obj.cells (cw 6 q) 24) := heap_of hb3 _ _ _ R2_1
  have z3_1 : w1.heap.size < w3.heap.size := (Array.getElem?_eq_some_iff.1 P3_1).1
  have P3_2 : w3.heap[w1.heap.size + 1]? = some (Obj.cells (cw 6 r) 24) := heap_of hb3 _ _ _ R2_2
  have z3_2 : w1.heap.size + 1 < w3.heap.size := (Array.getElem?_eq_some_iff.1 P3_2).1
  have P3_3 : w3.heap[w2.heap.size]? = some (Obj.cells (cw 6 p) 24) := heap_of hb3 _ _ _ R2_3
  have z3_3 : w2.heap.size < w3.heap.size := (Array.getElem?_eq_some_iff.1 P3_3).1
  have C3 : Below w.heap.size w w3 := B2.trans (hb3.mono B2.size)
  have y3 := C3.size
  clear hb3 B2 R2_0 c2_0 R2_1 c2_1 R2_2 c2_2 R2_3 c2_3
  have R3_0 : (w3.alloc (Obj.cells (cw 6 a0) 24)).heap[w.heap.size]? = some (Obj.cells (cw 6 a0) 24) := by rw [heap_below _ _ _ (by omega)]; exact P3_0
  have R3_1 : (w3.alloc (Obj.cells (cw 6 a0) 24)).heap[w1.heap.size]? = some (Obj.cells (cw 6 q) 24) := by rw [heap_below _ _ _ (by omega)]; exact P3_1
  have R3_2 : (w3.alloc (Obj.cells (cw 6 a0) 24)).heap[w1.heap.size + 1]? = some (Obj.cells (cw 6 r) 24) := by rw [heap_below _ _ _ (by omega)]; exact P3_2
  have R3_3 : (w3.alloc (Obj.cells (cw 6 a0) 24)).heap[w2.heap.size]? = some (Obj.cells (cw 6 p) 24) := by rw [heap_below _ _ _ (by omega)]; exact P3_3
  have R3_4 : (w3.alloc (Obj.cells (cw 6 a0) 24)).heap[w3.heap.size]? = some (Obj.cells (cw 6 a0) 24) := by have := heap_alloc_last w3 (Obj.cells (cw 6 a0) 24); simpa only [size_al] using this
  have B3 : Below w.heap.size w (w3.alloc (Obj.cells (cw 6 a0) 24)) := (C3.alloc (by first | omega | (simp only [size_al]; omega)) _)
  clear C3 P3_0 z3_0 P3_1 z3_1 P3_2 z3_2 P3_3 z3_3
  clear y3
  have c3_0 := row_cell R3_0
  have c3_1 := row_cell R3_1
  have c3_2 := row_cell R3_2
  have c3_3 := row_cell R3_3
  have c3_4 := row_cell R3_4
  go_wp2_with fail
  refine (wadd_is q q t _ qQ qQ HT.out rfl _).mono ?_
  rintro e w4 ⟨rfl, hb4⟩
  have P4_0 : w4.heap[w.heap.size]? = some (Obj.cells (cw 6 a0) 24) := heap_of hb4 _ _ _ R3_0
  have z4_0 : w.heap.size < w4.heap.size := (Array.getElem?_eq_some_iff.1 P4_0).1
  have P4_1 : w4.heap[w1.heap.size]? = some (Obj.cells (cw 6 q) 24) := heap_of hb4 _ _ _ R3_1
  have z4_1 : w1.heap.size < w4.heap.size := (Array.getElem?_eq_some_iff.1 P4_1).1
  have P4_2 : w4.heap[w1.heap.size + 1]? = some (Obj.cells (cw 6 r) 24) := heap_of hb4 _ _ _ R3_2
  have z4_2 : w1.heap.size + 1 < w4.heap.size := (Array.getElem?_eq_some_iff.1 P4_2).1
  have P4_3 : w4.heap[w2.heap.size]? = some (Obj.cells (cw 6 p) 24) := heap_of hb4 _ _ _ R3_3
  have z4_3 : w2.heap.size < w4.heap.size := (Array.getElem?_eq_some_iff.1 P4_3).1
  have P4_4 : w4.heap[w3.heap.size]? = some (Obj.cells (cw 6 a0) 24) := heap_of hb4 _ _ _ R3_4
  have z4_4 : w3.heap.size < w4.heap.size := (Array.getElem?_eq_some_iff.1 P4_4).1
  have C4 : Below w.heap.size w w4 := B3.trans (hb4.mono B3.size)
  have y4 := C4.size
  clear hb4 B3 R3_0 c3_0 R3_1 c3_1 R3_2 c3_2 R3_3 c3_3 R3_4 c3_4
  have R4_0 : (w4.alloc (Obj.cells (cw 6 t) 24)).heap[w.heap.size]? = some (Obj.cells (cw 6 a0) 24) := by rw [heap_below _ _ _ (by omega)]; exact P4_0
  have R4_1 : (w4.alloc (Obj.cells (cw 6 t) 24)).heap[w1.heap.size]? = some (Obj.cells (cw 6 q) 24) := by rw [heap_below _ _ _ (by omega)]; exact P4_1
  have R4_2 : (w4.alloc (Obj.cells (cw 6 t) 24)).heap[w1.heap.size + 1]? = some (Obj.cells (cw 6 r) 24) := by rw [heap_below _ _ _ (by omega)]; exact P4_2
  have R4_3 : (w4.alloc (Obj.cells (cw 6 t) 24)).heap[w2.heap.size]? = some (Obj.cells (cw 6 p) 24) := by rw [heap_below _ _ _ (by omega)]; exact P4_3
  have R4_4 : (w4.alloc (Obj.cells (cw 6 t) 24)).heap[w3.heap.size]? = some (Obj.cells (cw 6 a0) 24) := by rw [heap_below _ _ _ (by omega)]; exact P4_4
  have R4_5 : (w4.alloc (Obj.cells (cw 6 t) 24)).heap[w4.heap.size]? = some (Obj.cells (cw 6 t) 24) := by have := heap_alloc_last w4 (Obj.cells (cw 6 t) 24); simpa only [size_al] using this
  have B4 : Below w.heap.size w (w4.alloc (Obj.cells (cw 6 t) 24)) := (C4.alloc (by first | omega | (simp only [size_al]; omega)) _)
  clear C4 P4_0 z4_0 P4_1 z4_1 P4_2 z4_2 P4_3 z4_3 P4_4 z4_4
  clear y4
  have c4_0 := row_cell R4_0
  have c4_1 := row_cell R4_1
  have c4_2 := row_cell R4_2
  have c4_3 := row_cell R4_3
  have c4_4 := row_cell R4_4
  have c4_5 := row_cell R4_5
  go_wp2_with fail
  refine (wcmp_is r t c rQ ttQ HC.out _).mono ?_
  rintro e w5 ⟨rfl, hb5⟩
  have P5_0 : w5.heap[w.heap.size]? = some (Obj.cells (cw 6 a0) 24) := heap_of hb5 _ _ _ R4_0
  have z5_0 : w.heap.size < w5.heap.size := (Array.getElem?_eq_some_iff.1 P5_0).1
  have P5_1 : w5.heap[w1.heap.size]? = some (Obj.cells (cw 6 q) 24) := heap_of hb5 _ _ _ R4_1
  have z5_1 : w1.heap.size < w5.heap.size := (Array.getElem?_eq_some_iff.1 P5_1).1
  have P5_2 : w5.heap[w1.heap.size + 1]? = some (Obj.cells (cw 6 r) 24) := heap_of hb5 _ _ _ R4_2
  have z5_2 : w1.heap.size + 1 < w5.heap.size := (Array.getElem?_eq_some_iff.1 P5_2).1
  have P5_3 : w5.heap[w2.heap.size]? = some (Obj.cells (cw 6 p) 24) := heap_of hb5 _ _ _ R4_3
  have z5_3 : w2.heap.size < w5.heap.size := (Array.getElem?_eq_some_iff.1 P5_3).1
  have P5_4 : w5.heap[w3.heap.size]? = some (Obj.cells (cw 6 a0) 24) := heap_of hb5 _ _ _ R4_4
  have z5_4 : w3.heap.size < w5.heap.size := (Array.getElem?_eq_some_iff.1 P5_4).1
  have P5_5 : w5.heap[w4.heap.size]? = some (Obj.cells (cw 6 t) 24) := heap_of hb5 _ _ _ R4_5
  have z5_5 : w4.heap.size < w5.heap.size := (Array.getElem?_eq_some_iff.1 P5_5).1
  have C5 : Below w.heap.size w w5 := B4.trans (hb5.mono B4.size)
  have y5 := C5.size
  clear hb5 B4 R4_0 c4_0 R4_1 c4_1 R4_2 c4_2 R4_3 c4_3 R4_4 c4_4 R4_5 c4_5
  have R5_0 : w5.heap[w.heap.size]? = some (Obj.cells (cw 6 a0) 24) := P5_0
  have R5_1 : w5.heap[w1.heap.size]? = some (Obj.cells (cw 6 q) 24) := P5_1
  have R5_2 : w5.heap[w1.heap.size + 1]? = some (Obj.cells (cw 6 r) 24) := P5_2
  have R5_3 : w5.heap[w2.heap.size]? = some (Obj.cells (cw 6 p) 24) := P5_3
  have R5_4 : w5.heap[w3.heap.size]? = some (Obj.cells (cw 6 a0) 24) := P5_4
  have R5_5 : w5.heap[w4.heap.size]? = some (Obj.cells (cw 6 t) 24) := P5_5
  have B5 : Below w.heap.size w w5 := C5
  clear C5 P5_0 z5_0 P5_1 z5_1 P5_2 z5_2 P5_3 z5_3 P5_4 z5_4 P5_5 z5_5
  clear y5
  have c5_0 := row_cell R5_0
  have c5_1 := row_cell R5_1
  have c5_2 := row_cell R5_2
  have c5_3 := row_cell R5_3
  have c5_4 := row_cell R5_4
  have c5_5 := row_cell R5_5
  go_wp2_with fail
  refine (qalive_any _).mono ?_
  rintro e wz ⟨rfl, hbz⟩
  go_wp2
  go_ret
  exact ⟨rfl, B5.trans (hbz.mono B5.size)⟩

set_option maxRecDepth 100000 in
theorem lifted (os : Os) (started : os.Started) (H : Type) (enc : TypeId × Value → H) :
    ReturnsInHanded {} Try.checked os 7 .any (Rows.quotSquaresSpec.pre6 enc Try.prog Try.f7 Rows.quotSquaresRow.domain false) (Rows.quotSquaresSpec.post enc Try.prog Try.f7 false true false false) := by
  refine returnsInHanded_of_change (C := Try.checked) own started (by kernel_rfl) Try.func7
    (ChangeSpec.witness6 (enc := enc) (C := Try.checked) false ⟨#[], #[.agg #[.int .u64 0, .int .u64 0, .int .u64 0, .int .u64 0, .int .u64 0, .int .u64 0]], []⟩ 8 (by kernel_rfl) (by kernel_rfl) (by kernel_rfl) (by kernel_rfl)) ?_
  intro W base args ds gs before hval0 hW hcnd _
  have hval : ∀ (j : Nat) t v, Try.f7.params[j]? = some t → args[j]? = some v → Value.okWide Try.prog W .any base t v := hval0
  have hW' := hW
  obtain ⟨p, q, hA0, hV, rfl, hfz, hnd⟩ := hW
  have hA : DataW.TrodAll enc Try.prog W 0 (fun _ => true) true Try.f7.params.toList args.toList ds p := hA0
  rw [Try.params7] at hA hval
  obtain ⟨v0, vs0, d0, ds0, p0, q0, hargs, rfl, rfl, k0, r0⟩ := trodAll_cons hA
  obtain ⟨rfl, rfl, rfl⟩ := trodAll_nil r0
  obtain rfl : args = #[v0] := by cases args; simp_all
  obtain ⟨rfl, rfl⟩ := trodVars_none hV
  obtain ⟨a0, h0, rfl, rfl, rfl⟩ := open_w6 (hval 0 24 v0 rfl rfl) k0
  clear hA0 hval0
  simp only [List.append_nil] at hW'
  refine (walk a0 h0 W).mono fun e W' ⟨he, hg⟩ => ?_
  subst he
  exact ⟨_, rfl, post_plain hW' (fun _ _ _ => (trodAll_cons_mk (shut_bool Try.underlying4 _) trodAll_mk0)) (fun sp => (trodAll_cons_mk (shut_w6 a0) trodAll_mk0)) (fun _ => rfl) hg (ok_one (by kernel_rfl) rfl (okWide_bool_mk Try.underlying4 _))⟩

theorem over : Rows.quotSquaresRow.holds Try.pinned (OpenSpec.ofChange Rows.quotSquaresSpec) :=
  OpenClaim.holds_of_wide 7 Try.f7 rfl rfl rfl rfl rfl rfl rfl ⟨rfl, rfl, rfl, rfl, rfl⟩ rfl rfl rfl rfl rfl (by kernel_rfl) Try.func7 (by kernel_rfl)
    (of_decide_eq_true (by kernel_rfl)) (by unfold Func.isWrapper; first | (rw [if_pos (by decide +kernel)]; kernel_rfl) | (rw [if_neg (by decide +kernel)]; exact ⟨rfl, rfl⟩))
    (fun os started H enc _ => lifted os started H enc)

theorem proved : Rows.QuotSquaresSaid :=
  over
#print axioms proved
end Go.Proofs.Ytflfgchnlcnibaa.quotSquares
