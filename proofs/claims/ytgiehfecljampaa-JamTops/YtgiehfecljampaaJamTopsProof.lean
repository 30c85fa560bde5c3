/-
  JamTops returns true for every number of 384 bits and every place: what is moved, by how much and the error are the document's.
-/
import Derived.Test.YtgiehfecljampaaRows
import Derived.WalkKit
import Derived.ProofKit
import Derived.OpenShut
import Derived.Test.YtgiehfecljampaaFrame6
import Derived.Test.YtgiehfecljampaaJam3
import Derived.Test.YtgiehfecljampaaRjam2
namespace Go.Proofs.Ytgiehfecljampaa.jamTops
open WMath
open Go.ChangeShapes Go.WideShapes Go.ChangeAt Go.RowKit
set_option linter.unusedVariables false

theorem own : ownKnob Try.prog.godebug = none := by kernel_rfl

set_option maxRecDepth 100000 in
set_option maxHeartbeats 4000000 in
theorem walk (a0 : Nat) (a1 : Int) (h0 : a0 < Q) (h1 : (Lit.int .i64 a1).wf = true) (w : World) :
    Calls Try.prog 5 #[.agg (cw 6 a0), .int .i64 a1] w fun e w' => e = .returned (.bool true) ∧ Below w.heap.size w w' := by
  obtain ⟨b, m, f, bQ, T1, T2⟩ : ∃ (b : Nat) (m f : Int), b < Q ∧ (∀ w : World, Calls Try.prog 16 #[.agg (cw 6 a0), .int .i64 a1] w fun e w' => e = .returned (.tuple #[.agg (cw 6 b), .int .i64 m, .int .i64 f]) ∧ Below w.heap.size w w') ∧ (∀ w : World, Calls Try.prog 17 #[.agg (cw 6 a0), .int .i64 a1] w fun e w' => e = .returned (.tuple #[.agg (cw 6 b), .int .i64 m, .int .i64 f]) ∧ Below w.heap.size w w') := by
    by_cases hb : a0 = 0 ∨ a1 < 0 ∨ 384 ≤ a1
    · exact ⟨0, 0, 2, Q_pos, fun w => jtop_bad a0 a1 h0 hb w, fun w => rjtop_bad a0 a1 h0 hb w⟩
    · obtain ⟨p, rfl⟩ : ∃ p : Nat, a1 = (p : Int) := ⟨a1.toNat, by omega⟩
      have hn : a0 ≠ 0 := by omega
      have hp : p < 384 := by omega
      obtain ⟨l, hl⟩ : ∃ l, blen a0 = l := ⟨_, rfl⟩
      by_cases hlt : p + 1 < l
      · exact ⟨jr a0 (l - (p + 1)), (p : Int) + 1 - (l : Int), 0, jr_ltQ _ _ h0, fun w => jtop_right a0 _ p l (l - (p + 1)) _ h0 hn hp hl rfl (by omega) (by omega) rfl w, fun w => rjtop_right a0 _ p l (l - (p + 1)) _ h0 hn hp hl rfl (by omega) (by omega) rfl w⟩
      · have hq := (top_left a0 l p hn hl (by omega) hp).1
        exact ⟨a0 * 2 ^ (p + 1 - l), ((p + 1 - l : Nat) : Int), 0, hq, fun w => jtop_left a0 _ p l (p + 1 - l) h0 hn hp hl (by omega) rfl hq w, fun w => rjtop_left a0 _ p l (p + 1 - l) h0 hn hp hl (by omega) rfl hq w⟩
  have U1 := box T1
  have U2 := box T2
  clear T1 T2
  have hat := cw_at 6
  have hz := cw6z
  have hf := cw6f
  have hs0 := st0
  have hs1 := st1
  have hcs : ∀ x, ((cw 6 x).size = 6) = True := fun x => eq_true (cw_size 6 x)
  have heq := eq6
  have hg := eqg6
  go_enter Try.func5, Try.ntmps5
  have R0_0 : (w.alloc (Obj.cells (cw 6 a0) 24)).heap[w.heap.size]? = some (Obj.cells (cw 6 a0) 24) := by have := heap_alloc_last w (Obj.cells (cw 6 a0) 24); simpa only [size_al] using this
  have B0 : Below w.heap.size w (w.alloc (Obj.cells (cw 6 a0) 24)) := ((Below.refl _ _).alloc (by first | omega | (simp only [size_al]; omega)) _)
  have c0_0 := row_cell R0_0
  go_wp2_with fail
  refine (U1.out _).mono ?_
  rintro e w1 ⟨rfl, hb1⟩
  have P1_0 : w1.heap[w.heap.size]? = some (Obj.cells (cw 6 a0) 24) := heap_of hb1 _ _ _ R0_0
  have z1_0 : w.heap.size < w1.heap.size := (Array.getElem?_eq_some_iff.1 P1_0).1
  have C1 : Below w.heap.size w w1 := B0.trans (hb1.mono B0.size)
  have y1 := C1.size
  clear hb1 B0 R0_0 c0_0
  have R1_0 : (w1.alloc (Obj.cells (cw 6 b) 24)).heap[w.heap.size]? = some (Obj.cells (cw 6 a0) 24) := by rw [heap_below _ _ _ (by omega)]; exact P1_0
  have R1_1 : (w1.alloc (Obj.cells (cw 6 b) 24)).heap[w1.heap.size]? = some (Obj.cells (cw 6 b) 24) := by have := heap_alloc_last w1 (Obj.cells (cw 6 b) 24); simpa only [size_al] using this
  have B1 : Below w.heap.size w (w1.alloc (Obj.cells (cw 6 b) 24)) := (C1.alloc (by first | omega | (simp only [size_al]; omega)) _)
  clear C1 P1_0 z1_0
  clear y1
  have c1_0 := row_cell R1_0
  have c1_1 := row_cell R1_1
  go_wp2_with fail
  refine (U2.out _).mono ?_
  rintro e w2 ⟨rfl, hb2⟩
  have P2_0 : w2.heap[w.heap.size]? = some (Obj.cells (cw 6 a0) 24) := heap_of hb2 _ _ _ R1_0
  have z2_0 : w.heap.size < w2.heap.size := (Array.getElem?_eq_some_iff.1 P2_0).1
  have P2_1 : w2.heap[w1.heap.size]? = some (Obj.cells (cw 6 b) 24) := heap_of hb2 _ _ _ R1_1
  have z2_1 : w1.heap.size < w2.heap.size := (Array.getElem?_eq_some_iff.1 P2_1).1
  have C2 : Below w.heap.size w w2 := B1.trans (hb2.mono B1.size)
  have y2 := C2.size
  clear hb2 B1 R1_0 c1_0 R1_1 c1_1
  have R2_0 : (w2.alloc (Obj.cells (cw 6 b) 24)).heap[w.heap.size]? = some (Obj.cells (cw 6 a0) 24) := by rw [heap_below _ _ _ (by omega)]; exact P2_0
  have R2_1 : (w2.alloc (Obj.cells (cw 6 b) 24)).heap[w1.heap.size]? = some (Obj.cells (cw 6 b) 24) := by rw [heap_below _ _ _ (by omega)]; exact P2_1
  have R2_2 : (w2.alloc (Obj.cells (cw 6 b) 24)).heap[w2.heap.size]? = some (Obj.cells (cw 6 b) 24) := by have := heap_alloc_last w2 (Obj.cells (cw 6 b) 24); simpa only [size_al] using this
  have B2 : Below w.heap.size w (w2.alloc (Obj.cells (cw 6 b) 24)) := (C2.alloc (by first | omega | (simp only [size_al]; omega)) _)
  clear C2 P2_0 z2_0 P2_1 z2_1
  clear y2
  have c2_0 := row_cell R2_0
  have c2_1 := row_cell R2_1
  have c2_2 := row_cell R2_2
  go_wp2_with fail
  refine (jalive_any _).mono ?_
  rintro e wz ⟨rfl, hbz⟩
  go_wp2
  go_ret
  exact ⟨rfl, B2.trans (hbz.mono B2.size)⟩

set_option maxRecDepth 100000 in
theorem lifted (os : Os) (started : os.Started) (H : Type) (enc : TypeId × Value → H) :
    ReturnsInHanded {} Try.checked os 5 .any (Rows.jamTopsSpec.pre6 enc Try.prog Try.f5 Rows.jamTopsRow.domain false) (Rows.jamTopsSpec.post enc Try.prog Try.f5 false true false false) := by
  refine returnsInHanded_of_change (C := Try.checked) own started (by kernel_rfl) Try.func5
    (ChangeSpec.witness6 (enc := enc) (C := Try.checked) false ⟨#[], #[.agg #[.int .u64 0, .int .u64 0, .int .u64 0, .int .u64 0, .int .u64 0, .int .u64 0], .int .i64 0], []⟩ 8 (by kernel_rfl) (by kernel_rfl) (by kernel_rfl) (by kernel_rfl)) ?_
  intro W base args ds gs before hval0 hW hcnd _
  have hval : ∀ (j : Nat) t v, Try.f5.params[j]? = some t → args[j]? = some v → Value.okWide Try.prog W .any base t v := hval0
  have hW' := hW
  obtain ⟨p, q, hA0, hV, rfl, hfz, hnd⟩ := hW
  have hA : DataW.TrodAll enc Try.prog W 0 (fun _ => true) true Try.f5.params.toList args.toList ds p := hA0
  rw [Try.params5] at hA hval
  obtain ⟨v0, vs0, d0, ds0, p0, q0, hargs, rfl, rfl, k0, r0⟩ := trodAll_cons hA
  obtain ⟨v1, vs1, d1, ds1, p1, q1, rfl, rfl, rfl, k1, r1⟩ := trodAll_cons r0
  obtain ⟨rfl, rfl, rfl⟩ := trodAll_nil r1
  obtain rfl : args = #[v0, v1] := by cases args; simp_all
  obtain ⟨rfl, rfl⟩ := trodVars_none hV
  obtain ⟨a0, h0, rfl, rfl, rfl⟩ := open_w6 (hval 0 24 v0 rfl rfl) k0
  obtain ⟨a1, rfl, rfl, rfl, h1⟩ := open_int Try.underlying3 (hval 1 3 v1 rfl rfl) k1
  clear hA0 hval0
  simp only [List.append_nil] at hW'
  refine (walk a0 a1 h0 h1 W).mono fun e W' ⟨he, hg⟩ => ?_
  subst he
  exact ⟨_, rfl, post_plain hW' (fun _ _ _ => (trodAll_cons_mk (shut_bool Try.underlying4 _) trodAll_mk0)) (fun sp => (trodAll_cons_mk (shut_w6 a0) (trodAll_cons_mk (shut_int Try.underlying3 h1) trodAll_mk0))) (fun _ => rfl) hg (ok_one (by kernel_rfl) rfl (okWide_bool_mk Try.underlying4 _))⟩

theorem over : Rows.jamTopsRow.holds Try.pinned (OpenSpec.ofChange Rows.jamTopsSpec) :=
  OpenClaim.holds_of_wide 5 Try.f5 rfl rfl rfl rfl rfl rfl rfl ⟨rfl, rfl, rfl, rfl, rfl⟩ rfl rfl rfl rfl rfl (by kernel_rfl) Try.func5 (by kernel_rfl)
    (of_decide_eq_true (by kernel_rfl)) (by unfold Func.isWrapper; first | (rw [if_pos (by decide +kernel)]; kernel_rfl) | (rw [if_neg (by decide +kernel)]; exact ⟨rfl, rfl⟩))
    (fun os started H enc _ => lifted os started H enc)

theorem proved : Rows.JamTopsSaid :=
  over
#print axioms proved
end Go.Proofs.Ytgiehfecljampaa.jamTops
