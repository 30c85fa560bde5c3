/-
  JamRights returns true for every number of 384 bits and every count: Right and Align are the document's.
-/
import Derived.Test.YtgiehfecljampaaRows
import Derived.WalkKit
import Derived.ProofKit
import Derived.OpenShut
import Derived.Test.YtgiehfecljampaaFrame6
import Derived.Test.YtgiehfecljampaaJam3
import Derived.Test.YtgiehfecljampaaRjam2
namespace Go.Proofs.Ytgiehfecljampaa.jamRights
open WMath
open Go.ChangeShapes Go.WideShapes Go.ChangeAt Go.RowKit
set_option linter.unusedVariables false

theorem own : ownKnob Try.prog.godebug = none := by kernel_rfl

set_option maxRecDepth 100000 in
set_option maxHeartbeats 4000000 in
theorem walk (a0 : Nat) (a1 : Int) (h0 : a0 < Q) (h1 : (Lit.int .i64 a1).wf = true) (w : World) :
    Calls Try.prog 3 #[.agg (cw 6 a0), .int .i64 a1] w fun e w' => e = .returned (.bool true) ∧ Below w.heap.size w w' := by
  obtain ⟨v, hv⟩ : ∃ v, a0 / 2 ^ cnt6 a1 = v := ⟨_, rfl⟩
  obtain ⟨x, hx⟩ : ∃ x, jr a0 (cnt6 a1) = x := ⟨_, rfl⟩
  obtain ⟨o, ho⟩ : ∃ o, decide (a0 % 2 ^ cnt6 a1 ≠ 0) = o := ⟨_, rfl⟩
  have vQ : v < Q := by rw [← hv]; exact Nat.lt_of_le_of_lt (Nat.div_le_self _ _) h0
  have xQ : x < Q := by rw [← hx]; exact jr_ltQ _ _ h0
  have HV := box hv
  have HX := box hx
  have HO := box ho
  clear hv hx ho
  have hat := cw_at 6
  have hz := cw6z
  have hf := cw6f
  have hs0 := st0
  have hs1 := st1
  have hcs : ∀ x, ((cw 6 x).size = 6) = True := fun x => eq_true (cw_size 6 x)
  have heq := eq6
  have hg := eqg6
  go_enter Try.func3, Try.ntmps3
  have R0_0 : (w.alloc (Obj.cells (cw 6 a0) 24)).heap[w.heap.size]? = some (Obj.cells (cw 6 a0) 24) := by have := heap_alloc_last w (Obj.cells (cw 6 a0) 24); simpa only [size_al] using this
  have B0 : Below w.heap.size w (w.alloc (Obj.cells (cw 6 a0) 24)) := ((Below.refl _ _).alloc (by first | omega | (simp only [size_al]; omega)) _)
  have c0_0 := row_cell R0_0
  go_wp2_with fail
  refine (jalign_is a0 v a1 o h0 HV.out HO.out _).mono ?_
  rintro e w1 ⟨rfl, hb1⟩
  have P1_0 : w1.heap[w.heap.size]? = some (Obj.cells (cw 6 a0) 24) := heap_of hb1 _ _ _ R0_0
  have z1_0 : w.heap.size < w1.heap.size := (Array.getElem?_eq_some_iff.1 P1_0).1
  have C1 : Below w.heap.size w w1 := B0.trans (hb1.mono B0.size)
  have y1 := C1.size
  clear hb1 B0 R0_0 c0_0
  have R1_0 : (w1.alloc (Obj.cells (cw 6 v) 24)).heap[w.heap.size]? = some (Obj.cells (cw 6 a0) 24) := by rw [heap_below _ _ _ (by omega)]; exact P1_0
  have R1_1 : (w1.alloc (Obj.cells (cw 6 v) 24)).heap[w1.heap.size]? = some (Obj.cells (cw 6 v) 24) := by have := heap_alloc_last w1 (Obj.cells (cw 6 v) 24); simpa only [size_al] using this
  have B1 : Below w.heap.size w (w1.alloc (Obj.cells (cw 6 v) 24)) := (C1.alloc (by first | omega | (simp only [size_al]; omega)) _)
  clear C1 P1_0 z1_0
  clear y1
  have c1_0 := row_cell R1_0
  have c1_1 := row_cell R1_1
  go_wp2_with fail
  refine (rjalign_is a0 v a1 o h0 HV.out HO.out _).mono ?_
  rintro e w2 ⟨rfl, hb2⟩
  have P2_0 : w2.heap[w.heap.size]? = some (Obj.cells (cw 6 a0) 24) := heap_of hb2 _ _ _ R1_0
  have z2_0 : w.heap.size < w2.heap.size := (Array.getElem?_eq_some_iff.1 P2_0).1
  have P2_1 : w2.heap[w1.heap.size]? = some (Obj.cells (cw 6 v) 24) := heap_of hb2 _ _ _ R1_1
  have z2_1 : w1.heap.size < w2.heap.size := (Array.getElem?_eq_some_iff.1 P2_1).1
  have C2 : Below w.heap.size w w2 := B1.trans (hb2.mono B1.size)
  have y2 := C2.size
  clear hb2 B1 R1_0 c1_0 R1_1 c1_1
  have R2_0 : (w2.alloc (Obj.cells (cw 6 v) 24)).heap[w.heap.size]? = some (Obj.cells (cw 6 a0) 24) := by rw [heap_below _ _ _ (by omega)]; exact P2_0
  have R2_1 : (w2.alloc (Obj.cells (cw 6 v) 24)).heap[w1.heap.size]? = some (Obj.cells (cw 6 v) 24) := by rw [heap_below _ _ _ (by omega)]; exact P2_1
  have R2_2 : (w2.alloc (Obj.cells (cw 6 v) 24)).heap[w2.heap.size]? = some (Obj.cells (cw 6 v) 24) := by have := heap_alloc_last w2 (Obj.cells (cw 6 v) 24); simpa only [size_al] using this
  have B2 : Below w.heap.size w (w2.alloc (Obj.cells (cw 6 v) 24)) := (C2.alloc (by first | omega | (simp only [size_al]; omega)) _)
  clear C2 P2_0 z2_0 P2_1 z2_1
  clear y2
  have c2_0 := row_cell R2_0
  have c2_1 := row_cell R2_1
  have c2_2 := row_cell R2_2
  obtain ⟨V, hV⟩ : ∃ V, (w2.alloc (Obj.cells (cw 6 v) 24)) = V := ⟨_, rfl⟩
  rw [hV] at B2 R2_0 R2_1 R2_2
  go_wp2
  clear hV
  obtain ⟨F, hF1, hF2⟩ := below_fun V
  have f0 : ∀ u o, o < 6 → (F u).cell? ⟨w.heap.size, o, none⟩ = some (.int .u64 (wd a0 o : Nat)) := fun u => row_cell (heap_of (hF1 u) _ _ _ R2_0)
  have f1 : ∀ u o, o < 6 → (F u).cell? ⟨w1.heap.size, o, none⟩ = some (.int .u64 (wd v o : Nat)) := fun u => row_cell (heap_of (hF1 u) _ _ _ R2_1)
  have f2 : ∀ u o, o < 6 → (F u).cell? ⟨w2.heap.size, o, none⟩ = some (.int .u64 (wd v o : Nat)) := fun u => row_cell (heap_of (hF1 u) _ _ _ R2_2)
  refine wp_region_below F hF2 (by kernel_rfl) (by kernel_rfl) ?_
  repeat quiet_step (first | (go_at_call 11; exact quietF hF1 hF2 (jright_is a0 x a1 h0 HX.out _)) | (go_at_call 12; exact quietF hF1 hF2 (rjright_is a0 x a1 h0 HX.out _)) | (go_at_call 13; exact quietF hF1 hF2 (jalive_any _)))
  refine wpQuiet_nil ?_
  rintro _ ⟨u, rfl⟩
  go_wp2
  go_ret
  exact ⟨rfl, B2.trans ((hF1 u).mono B2.size)⟩

set_option maxRecDepth 100000 in
theorem lifted (os : Os) (started : os.Started) (H : Type) (enc : TypeId × Value → H) :
    ReturnsInHanded {} Try.checked os 3 .any (Rows.jamRightsSpec.pre6 enc Try.prog Try.f3 Rows.jamRightsRow.domain false) (Rows.jamRightsSpec.post enc Try.prog Try.f3 false true false false) := by
  refine returnsInHanded_of_change (C := Try.checked) own started (by kernel_rfl) Try.func3
    (ChangeSpec.witness6 (enc := enc) (C := Try.checked) false ⟨#[], #[.agg #[.int .u64 0, .int .u64 0, .int .u64 0, .int .u64 0, .int .u64 0, .int .u64 0], .int .i64 0], []⟩ 8 (by kernel_rfl) (by kernel_rfl) (by kernel_rfl) (by kernel_rfl)) ?_
  intro W base args ds gs before hval0 hW hcnd _
  have hval : ∀ (j : Nat) t v, Try.f3.params[j]? = some t → args[j]? = some v → Value.okWide Try.prog W .any base t v := hval0
  have hW' := hW
  obtain ⟨p, q, hA0, hV, rfl, hfz, hnd⟩ := hW
  have hA : DataW.TrodAll enc Try.prog W 0 (fun _ => true) true Try.f3.params.toList args.toList ds p := hA0
  rw [Try.params3] at hA hval
  obtain ⟨v0, vs0, d0, ds0, p0, q0, hargs, rfl, rfl, k0, r0⟩ := trodAll_cons hA
  obtain ⟨v1, vs1, d1, ds1, p1, q1, rfl, rfl, rfl, k1, r1⟩ := trodAll_cons r0
  obtain ⟨rfl, rfl, rfl⟩ := trodAll_nil r1
  obtain rfl : args = #[v0, v1] := by cases args; simp_all
  obtain ⟨rfl, rfl⟩ := trodVars_none hV
  obtain ⟨a0, h0, rfl, rfl, rfl⟩ := open_w6 (hval 0 24 v0 rfl rfl) k0
  obtain ⟨a1, rfl, rfl, rfl, h1⟩ := open_int Try.underlying3 (hval 1 3 v1 rfl rfl) k1
  clear hA0 hval0
  simp only [List.append_nil] at hW'
  refine (walk a0 a1 h0 h1 W).mono fun e W' ⟨he, hg⟩ => ?_
  subst he
  exact ⟨_, rfl, post_plain hW' (fun _ _ _ => (trodAll_cons_mk (shut_bool Try.underlying4 _) trodAll_mk0)) (fun sp => (trodAll_cons_mk (shut_w6 a0) (trodAll_cons_mk (shut_int Try.underlying3 h1) trodAll_mk0))) (fun _ => rfl) hg (ok_one (by kernel_rfl) rfl (okWide_bool_mk Try.underlying4 _))⟩

theorem over : Rows.jamRightsRow.holds Try.pinned (OpenSpec.ofChange Rows.jamRightsSpec) :=
  OpenClaim.holds_of_wide 3 Try.f3 rfl rfl rfl rfl rfl rfl rfl ⟨rfl, rfl, rfl, rfl, rfl⟩ rfl rfl rfl rfl rfl (by kernel_rfl) Try.func3 (by kernel_rfl)
    (of_decide_eq_true (by kernel_rfl)) (by unfold Func.isWrapper; first | (rw [if_pos (by decide +kernel)]; kernel_rfl) | (rw [if_neg (by decide +kernel)]; exact ⟨rfl, rfl⟩))
    (fun os started H enc _ => lifted os started H enc)

theorem proved : Rows.JamRightsSaid :=
  over
#print axioms proved
end Go.Proofs.Ytgiehfecljampaa.jamRights
