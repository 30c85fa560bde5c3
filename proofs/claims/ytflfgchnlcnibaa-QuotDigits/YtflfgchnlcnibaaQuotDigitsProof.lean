/-
  QuotDigits returns true for every two numbers of 384 bits and every count: the digits, whether more is left, and the error are the document's.
-/
import Derived.Test.YtflfgchnlcnibaaRows
import Derived.WalkKit
import Derived.ProofKit
import Derived.OpenShut
import Derived.Test.YtflfgchnlcnibaaFrame6
import Derived.Test.YtflfgchnlcnibaaQuot5
import Derived.Test.YtflfgchnlcnibaaRquot3
namespace Go.Proofs.Ytflfgchnlcnibaa.quotDigits
open WMath
open Go.ChangeShapes Go.WideShapes Go.ChangeAt Go.RowKit
set_option linter.unusedVariables false

theorem own : ownKnob Try.prog.godebug = none := by kernel_rfl

set_option maxRecDepth 100000 in
set_option maxHeartbeats 4000000 in
theorem walk (a0 : Nat) (a1 : Nat) (a2 : Int) (h0 : a0 < Q) (h1 : a1 < Q) (h2 : (Lit.int .i64 a2).wf = true) (w : World) :
    Calls Try.prog 5 #[.agg (cw 6 a0), .agg (cw 6 a1), .int .i64 a2] w fun e w' => e = .returned (.bool true) ∧ Below w.heap.size w w' := by
  obtain ⟨q, m, f, qQ, T1, T2⟩ : ∃ (q : Nat) (m : Bool) (f : Int), q < Q ∧ (∀ w : World, Calls Try.prog 14 #[.agg (cw 6 a0), .agg (cw 6 a1), .int .i64 a2] w fun e w' => e = .returned (.tuple #[.agg (cw 6 q), .bool m, .int .i64 f]) ∧ Below w.heap.size w w') ∧ (∀ w : World, Calls Try.prog 15 #[.agg (cw 6 a0), .agg (cw 6 a1), .int .i64 a2] w fun e w' => e = .returned (.tuple #[.agg (cw 6 q), .bool m, .int .i64 f]) ∧ Below w.heap.size w w') := by
    by_cases hz : a1 = 0 ∨ a2 < 0 ∨ 384 < a2
    · exact ⟨0, false, 2, Q_pos, fun w => qdigits_bad a0 a1 a2 h1 hz w, fun w => rdigits_bad a0 a1 a2 h1 hz w⟩
    · have g0 : a1 ≠ 0 := fun h => hz (Or.inl h)
      have g1 : 0 ≤ a2 := Int.not_lt.1 (fun h => hz (Or.inr (Or.inl h)))
      have g2 : a2 ≤ 384 := Int.not_lt.1 (fun h => hz (Or.inr (Or.inr h)))
      by_cases hl : Q ≤ a0 * 2 ^ cnt6 a2
      · exact ⟨0, false, 4, Q_pos, fun w => qdigits_long a0 a1 a2 h0 h1 g0 g1 g2 hl w, fun w => rdigits_long a0 a1 a2 h0 h1 g0 g1 g2 hl w⟩
      · obtain ⟨x, hx⟩ : ∃ x, a0 * 2 ^ cnt6 a2 = x := ⟨_, rfl⟩
        have xQ : x < Q := by omega
        have hm : decide (x % a1 = 0) = !(!decide (x % a1 = 0)) := by cases decide (x % a1 = 0) <;> rfl
        exact ⟨x / a1, _, 0, Nat.lt_of_le_of_lt (Nat.div_le_self _ _) xQ, fun w => qdigits_is a0 a1 x _ a2 _ h0 h1 g0 g1 g2 hx xQ rfl hm w, fun w => rdigits_is a0 a1 x _ a2 _ h0 h1 g0 g1 g2 hx xQ rfl hm w⟩
  have U1 := box T1
  have U2 := box T2
  clear T1 T2
  have hat := cw_at 6
  have hz := cw6z
  have hf := cw6f
  have hs0 := st0
  have hs1 := st1
  have hcs : ∀ x, ((cw 6 x).size = 6) = True := fun x => eq_true (cw_size 6 x)
  have heq := eq6
  have hg := eqg6
  go_enter Try.func5, Try.ntmps5
  have R0_0 : ((w.alloc (Obj.cells (cw 6 a0) 24)).alloc (Obj.cells (cw 6 a1) 24)).heap[w.heap.size]? = some (Obj.cells (cw 6 a0) 24) := by rw [heap_below _ _ _ (by simp only [size_al]; omega)]; have := heap_alloc_last w (Obj.cells (cw 6 a0) 24); simpa only [size_al] using this
  have R0_1 : ((w.alloc (Obj.cells (cw 6 a0) 24)).alloc (Obj.cells (cw 6 a1) 24)).heap[w.heap.size + 1]? = some (Obj.cells (cw 6 a1) 24) := by have := heap_alloc_last (w.alloc (Obj.cells (cw 6 a0) 24)) (Obj.cells (cw 6 a1) 24); simpa only [size_al] using this
  have B0 : Below w.heap.size w ((w.alloc (Obj.cells (cw 6 a0) 24)).alloc (Obj.cells (cw 6 a1) 24)) := (((Below.refl _ _).alloc (by first | omega | (simp only [size_al]; omega)) _).alloc (by first | omega | (simp only [size_al]; omega)) _)
  have c0_0 := row_cell R0_0
  have c0_1 := row_cell R0_1
  go_wp2_with fail
  refine (U1.out _).mono ?_
  rintro e w1 ⟨rfl, hb1⟩
  have P1_0 : w1.heap[w.heap.size]? = some (Obj.cells (cw 6 a0) 24) := heap_of hb1 _ _ _ R0_0
  have z1_0 : w.heap.size < w1.heap.size := (Array.getElem?_eq_some_iff.1 P1_0).1
  have P1_1 : w1.heap[w.heap.size + 1]? = some (Obj.cells (cw 6 a1) 24) := heap_of hb1 _ _ _ R0_1
  have z1_1 : w.heap.size + 1 < w1.heap.size := (Array.getElem?_eq_some_iff.1 P1_1).1
  have C1 : Below w.heap.size w w1 := B0.trans (hb1.mono B0.size)
  have y1 := C1.size
  clear hb1 B0 R0_0 c0_0 R0_1 c0_1
  have R1_0 : (w1.alloc (Obj.cells (cw 6 q) 24)).heap[w.heap.size]? = some (Obj.cells (cw 6 a0) 24) := by rw [heap_below _ _ _ (by omega)]; exact P1_0
  have R1_1 : (w1.alloc (Obj.cells (cw 6 q) 24)).heap[w.heap.size + 1]? = some (Obj.cells (cw 6 a1) 24) := by rw [heap_below _ _ _ (by omega)]; exact P1_1
  have R1_2 : (w1.alloc (Obj.cells (cw 6 q) 24)).heap[w1.heap.size]? = some (Obj.cells (cw 6 q) 24) := by have := heap_alloc_last w1 (Obj.cells (cw 6 q) 24); simpa only [size_al] using this
  have B1 : Below w.heap.size w (w1.alloc (Obj.cells (cw 6 q) 24)) := (C1.alloc (by first | omega | (simp only [size_al]; omega)) _)
  clear C1 P1_0 z1_0 P1_1 z1_1
  clear y1
  have c1_0 := row_cell R1_0
  have c1_1 := row_cell R1_1
  have c1_2 := row_cell R1_2
  go_wp2_with fail
  refine (U2.out _).mono ?_
  rintro e w2 ⟨rfl, hb2⟩
  have P2_0 : w2.heap[w.heap.size]? = some (Obj.cells (cw 6 a0) 24) := heap_of hb2 _ _ _ R1_0
  have z2_0 : w.heap.size < w2.heap.size := (Array.getElem?_eq_some_iff.1 P2_0).1
  have P2_1 : w2.heap[w.heap.size + 1]? = some (Obj.cells (cw 6 a1) 24) := heap_of hb2 _ _ _ R1_1
  have z2_1 : w.heap.size + 1 < w2.heap.size := (Array.getElem?_eq_some_iff.1 P2_1).1
  have P2_2 : w2.heap[w1.heap.size]? = some (Obj.cells (cw 6 q) 24) := heap_of hb2 _ _ _ R1_2
  have z2_2 : w1.heap.size < w2.heap.size := (Array.getElem?_eq_some_iff.1 P2_2).1
  have C2 : Below w.heap.size w w2 := B1.trans (hb2.mono B1.size)
  have y2 := C2.size
  clear hb2 B1 R1_0 c1_0 R1_1 c1_1 R1_2 c1_2
  have R2_0 : (w2.alloc (Obj.cells (cw 6 q) 24)).heap[w.heap.size]? = some (Obj.cells (cw 6 a0) 24) := by rw [heap_below _ _ _ (by omega)]; exact P2_0
  have R2_1 : (w2.alloc (Obj.cells (cw 6 q) 24)).heap[w.heap.size + 1]? = some (Obj.cells (cw 6 a1) 24) := by rw [heap_below _ _ _ (by omega)]; exact P2_1
  have R2_2 : (w2.alloc (Obj.cells (cw 6 q) 24)).heap[w1.heap.size]? = some (Obj.cells (cw 6 q) 24) := by rw [heap_below _ _ _ (by omega)]; exact P2_2
  have R2_3 : (w2.alloc (Obj.cells (cw 6 q) 24)).heap[w2.heap.size]? = some (Obj.cells (cw 6 q) 24) := by have := heap_alloc_last w2 (Obj.cells (cw 6 q) 24); simpa only [size_al] using this
  have B2 : Below w.heap.size w (w2.alloc (Obj.cells (cw 6 q) 24)) := (C2.alloc (by first | omega | (simp only [size_al]; omega)) _)
  clear C2 P2_0 z2_0 P2_1 z2_1 P2_2 z2_2
  clear y2
  have c2_0 := row_cell R2_0
  have c2_1 := row_cell R2_1
  have c2_2 := row_cell R2_2
  have c2_3 := row_cell R2_3
  go_wp2_with fail
  refine (qalive_any _).mono ?_
  rintro e wz ⟨rfl, hbz⟩
  go_wp2
  go_ret
  exact ⟨rfl, B2.trans (hbz.mono B2.size)⟩

set_option maxRecDepth 100000 in
theorem lifted (os : Os) (started : os.Started) (H : Type) (enc : TypeId × Value → H) :
    ReturnsInHanded {} Try.checked os 5 .any (Rows.quotDigitsSpec.pre6 enc Try.prog Try.f5 Rows.quotDigitsRow.domain false) (Rows.quotDigitsSpec.post enc Try.prog Try.f5 false true false false) := by
  refine returnsInHanded_of_change (C := Try.checked) own started (by kernel_rfl) Try.func5
    (ChangeSpec.witness6 (enc := enc) (C := Try.checked) false ⟨#[], #[.agg #[.int .u64 0, .int .u64 0, .int .u64 0, .int .u64 0, .int .u64 0, .int .u64 0], .agg #[.int .u64 0, .int .u64 0, .int .u64 0, .int .u64 0, .int .u64 0, .int .u64 0], .int .i64 0], []⟩ 8 (by kernel_rfl) (by kernel_rfl) (by kernel_rfl) (by kernel_rfl)) ?_
  intro W base args ds gs before hval0 hW hcnd _
  have hval : ∀ (j : Nat) t v, Try.f5.params[j]? = some t → args[j]? = some v → Value.okWide Try.prog W .any base t v := hval0
  have hW' := hW
  obtain ⟨p, q, hA0, hV, rfl, hfz, hnd⟩ := hW
  have hA : DataW.TrodAll enc Try.prog W 0 (fun _ => true) true Try.f5.params.toList args.toList ds p := hA0
  rw [Try.params5] at hA hval
  obtain ⟨v0, vs0, d0, ds0, p0, q0, hargs, rfl, rfl, k0, r0⟩ := trodAll_cons hA
  obtain ⟨v1, vs1, d1, ds1, p1, q1, rfl, rfl, rfl, k1, r1⟩ := trodAll_cons r0
  obtain ⟨v2, vs2, d2, ds2, p2, q2, rfl, rfl, rfl, k2, r2⟩ := trodAll_cons r1
  obtain ⟨rfl, rfl, rfl⟩ := trodAll_nil r2
  obtain rfl : args = #[v0, v1, v2] := by cases args; simp_all
  obtain ⟨rfl, rfl⟩ := trodVars_none hV
  obtain ⟨a0, h0, rfl, rfl, rfl⟩ := open_w6 (hval 0 24 v0 rfl rfl) k0
  obtain ⟨a1, h1, rfl, rfl, rfl⟩ := open_w6 (hval 1 24 v1 rfl rfl) k1
  obtain ⟨a2, rfl, rfl, rfl, h2⟩ := open_int Try.underlying3 (hval 2 3 v2 rfl rfl) k2
  clear hA0 hval0
  simp only [List.append_nil] at hW'
  refine (walk a0 a1 a2 h0 h1 h2 W).mono fun e W' ⟨he, hg⟩ => ?_
  subst he
  exact ⟨_, rfl, post_plain hW' (fun _ _ _ => (trodAll_cons_mk (shut_bool Try.underlying4 _) trodAll_mk0)) (fun sp => (trodAll_cons_mk (shut_w6 a0) (trodAll_cons_mk (shut_w6 a1) (trodAll_cons_mk (shut_int Try.underlying3 h2) trodAll_mk0)))) (fun _ => rfl) hg (ok_one (by kernel_rfl) rfl (okWide_bool_mk Try.underlying4 _))⟩

theorem over : Rows.quotDigitsRow.holds Try.pinned (OpenSpec.ofChange Rows.quotDigitsSpec) :=
  OpenClaim.holds_of_wide 5 Try.f5 rfl rfl rfl rfl rfl rfl rfl ⟨rfl, rfl, rfl, rfl, rfl⟩ rfl rfl rfl rfl rfl (by kernel_rfl) Try.func5 (by kernel_rfl)
    (of_decide_eq_true (by kernel_rfl)) (by unfold Func.isWrapper; first | (rw [if_pos (by decide +kernel)]; kernel_rfl) | (rw [if_neg (by decide +kernel)]; exact ⟨rfl, rfl⟩))
    (fun os started H enc _ => lifted os started H enc)

theorem proved : Rows.QuotDigitsSaid :=
  over
#print axioms proved
end Go.Proofs.Ytflfgchnlcnibaa.quotDigits
