/-
  WideMakes returns true for every word, all 128 bits and every two numbers of 384 bits: what is made out of words and bits, made bits again and compared is the document's.
-/
import Derived.Test.YtfofonnoheijjaaRows
import Derived.WalkKit
import Derived.ProofKit
import Derived.OpenShut
import Derived.Test.YtfofonnoheijjaaFrame6
import Derived.Test.YtfofonnoheijjaaFrameB
import Derived.Test.YtfofonnoheijjaaWide8
import Derived.Test.YtfofonnoheijjaaWide9
namespace Go.Proofs.Ytfofonnoheijjaa.wideMakes
open WMath
open Go.ChangeShapes Go.WideShapes Go.ChangeAt Go.RowKit
set_option linter.unusedVariables false

theorem own : ownKnob Try.prog.godebug = none := by kernel_rfl

set_option maxRecDepth 100000 in
set_option maxHeartbeats 4000000 in
theorem walk (a0 : Int) (a1 : Nat × Nat) (a2 : Nat) (a3 : Nat) (h0 : (Lit.int .u64 a0).wf = true) (h1 : a1.1 < 18446744073709551616 ∧ a1.2 < 18446744073709551616) (h2 : a2 < Q) (h3 : a3 < Q) (w : World) :
    Calls Try.prog 3 #[.int .u64 a0, bitsV a1, .agg (cw 6 a2), .agg (cw 6 a3)] w fun e w' => e = .returned (.bool true) ∧ Below w.heap.size w w' := by
  obtain ⟨x, hx, rfl⟩ := nat_u64 h0
  obtain ⟨hi, lo⟩ := a1
  obtain ⟨hh, hl⟩ := h1
  unfold bitsV
  simp only at hh hl ⊢
  obtain ⟨p, q, o, T1, T2⟩ : ∃ (p q : Nat) (o : Bool), (∀ w : World, Calls Try.prog 8 #[.agg (cw 6 a2)] w fun e w' => e = .returned (.tuple #[.agg #[.int .u64 p, .int .u64 q], .bool o]) ∧ Below w.heap.size w w') ∧ (∀ w : World, Calls Try.prog 9 #[.agg (cw 6 a2)] w fun e w' => e = .returned (.tuple #[.agg #[.int .u64 p, .int .u64 q], .bool o]) ∧ Below w.heap.size w w') := by
    by_cases hv : wd a2 0 + 18446744073709551616 * wd a2 1 = a2
    · exact ⟨_, _, _, fun w => wtobits_yes a2 h2 hv w, fun w => rwtobits_yes a2 h2 hv w⟩
    · exact ⟨0, 0, _, fun w => wtobits_no a2 h2 hv w, fun w => rwtobits_no a2 h2 hv w⟩
  have U1 := box T1
  have U2 := box T2
  clear T1 T2
  obtain ⟨v, hv⟩ : ∃ v, v = lo + 18446744073709551616 * hi := ⟨_, rfl⟩
  have vQ : v < Q := by rw [hv]; exact bits_ltQ lo hi hl hh
  have xQ : x < Q := by have := bits_ltQ x 0 hx (by decide); omega
  have V := box hv.symm
  obtain ⟨c, hc⟩ : ∃ c, cmpv a2 a3 = c := ⟨_, rfl⟩
  have CM := box hc
  clear hv hc
  have hat := cw_at 6
  have hz := cw6z
  have hf := cw6f
  have heq := eq6
  have hg := eqg6
  have heqB := eqB
  have hgB := eqgB
  go_enter Try.func3, Try.ntmps3
  go_wp2_with fail
  refine (U1.out _).mono ?_
  rintro e w1 ⟨rfl, hb1⟩
  have q0 : w1.heap[w.heap.size]? = some (.cells #[.int .u64 hi, .int .u64 lo] 24) := heap_of hb1 _ _ _ (by rw [heap_below _ _ _ (by simp only [size_al]; omega), heap_below _ _ _ (by simp only [size_al]; omega)]; exact heap_alloc_last _ _)
  have q1 : w1.heap[w.heap.size + 1]? = some (.cells (cw 6 a2) 26) := heap_of hb1 _ _ _ (by rw [heap_below _ _ _ (by simp only [size_al]; omega)]; have := heap_alloc_last (w.alloc (.cells #[.int .u64 hi, .int .u64 lo] 24)) (.cells (cw 6 a2) 26); simpa only [size_al] using this)
  have q2 : w1.heap[w.heap.size + 1 + 1]? = some (.cells (cw 6 a3) 26) := heap_of hb1 _ _ _ (by have := heap_alloc_last ((w.alloc (.cells #[.int .u64 hi, .int .u64 lo] 24)).alloc (.cells (cw 6 a2) 26)) (.cells (cw 6 a3) 26); simpa only [size_al] using this)
  have s2 : w.heap.size + 1 + 1 < w1.heap.size := (Array.getElem?_eq_some_iff.1 q2).1
  have s1 : w.heap.size + 1 < w1.heap.size := by omega
  have s0 : w.heap.size < w1.heap.size := by omega
  have b1 : Below w.heap.size w w1 := ((((Below.refl _ _).alloc (Nat.le_refl _) _).alloc (by simp only [size_al]; omega) _).alloc (by simp only [size_al]; omega) _).trans (hb1.mono (by simp only [size_al]; omega))
  have c1 := row_cell q1
  clear hb1
  go_wp2_with fail
  refine (U2.out _).mono ?_
  rintro e w2 ⟨rfl, hb2⟩
  have r0 : w2.heap[w.heap.size]? = some (.cells #[.int .u64 hi, .int .u64 lo] 24) := heap_of hb2 _ _ _ (by rw [heap_below _ _ _ s0]; exact q0)
  have r1 : w2.heap[w.heap.size + 1]? = some (.cells (cw 6 a2) 26) := heap_of hb2 _ _ _ (by rw [heap_below _ _ _ s1]; exact q1)
  have r2 : w2.heap[w.heap.size + 1 + 1]? = some (.cells (cw 6 a3) 26) := heap_of hb2 _ _ _ (by rw [heap_below _ _ _ s2]; exact q2)
  have r3 : w2.heap[w1.heap.size]? = some (.cells #[.int .u64 p, .int .u64 q] 24) := heap_of hb2 _ _ _ (heap_alloc_last _ _)
  have b2 : Below w.heap.size w w2 := (b1.alloc b1.size _).trans (hb2.mono (by simp only [size_al]; omega))
  have t3 : w1.heap.size < w2.heap.size := (Array.getElem?_eq_some_iff.1 r3).1
  clear hb2 q0 q1 q2 c1
  obtain ⟨W, hW⟩ : ∃ W, W = w2.alloc (.cells #[.int .u64 p, .int .u64 q] 24) := ⟨_, rfl⟩
  have k0 : W.heap[w.heap.size]? = some (.cells #[.int .u64 hi, .int .u64 lo] 24) := by rw [hW, heap_below _ _ _ (by omega)]; exact r0
  have k1 : W.heap[w.heap.size + 1]? = some (.cells (cw 6 a2) 26) := by rw [hW, heap_below _ _ _ (by omega)]; exact r1
  have k2 : W.heap[w.heap.size + 1 + 1]? = some (.cells (cw 6 a3) 26) := by rw [hW, heap_below _ _ _ (by omega)]; exact r2
  have k3 : W.heap[w1.heap.size]? = some (.cells #[.int .u64 p, .int .u64 q] 24) := by rw [hW, heap_below _ _ _ t3]; exact r3
  have k4 : W.heap[w2.heap.size]? = some (.cells #[.int .u64 p, .int .u64 q] 24) := by rw [hW]; exact heap_alloc_last _ _
  have bW : Below w.heap.size w W := by rw [hW]; exact b2.alloc b2.size _
  go_wp2
  rw [← hW]
  clear hW r0 r1 r2 r3 b1 b2
  obtain ⟨F, hF1, hF2⟩ := below_fun W
  have f1 : ∀ u o, o < 6 → (F u).cell? ⟨w.heap.size + 1, o, none⟩ = some (.int .u64 (wd a2 o : Nat)) := fun u => row_cell (heap_of (hF1 u) _ _ _ k1)
  have f2 : ∀ u o, o < 6 → (F u).cell? ⟨w.heap.size + 1 + 1, o, none⟩ = some (.int .u64 (wd a3 o : Nat)) := fun u => row_cell (heap_of (hF1 u) _ _ _ k2)
  have f3 : ∀ u, (F u).cell? ⟨w.heap.size, 0, none⟩ = some (.int .u64 (hi : Nat)) := fun u => by rw [cell_of_row _ _ _ _ _ _ (heap_of (hF1 u) _ _ _ k0)]; rfl
  have f4 : ∀ u, (F u).cell? ⟨w.heap.size, 1, none⟩ = some (.int .u64 (lo : Nat)) := fun u => by rw [cell_of_row _ _ _ _ _ _ (heap_of (hF1 u) _ _ _ k0)]; rfl
  have f5 : ∀ u, (F u).cell? ⟨w1.heap.size, 0, none⟩ = some (.int .u64 (p : Nat)) := fun u => by rw [cell_of_row _ _ _ _ _ _ (heap_of (hF1 u) _ _ _ k3)]; rfl
  have f6 : ∀ u, (F u).cell? ⟨w1.heap.size, 1, none⟩ = some (.int .u64 (q : Nat)) := fun u => by rw [cell_of_row _ _ _ _ _ _ (heap_of (hF1 u) _ _ _ k3)]; rfl
  have f7 : ∀ u, (F u).cell? ⟨w2.heap.size, 0, none⟩ = some (.int .u64 (p : Nat)) := fun u => by rw [cell_of_row _ _ _ _ _ _ (heap_of (hF1 u) _ _ _ k4)]; rfl
  have f8 : ∀ u, (F u).cell? ⟨w2.heap.size, 1, none⟩ = some (.int .u64 (q : Nat)) := fun u => by rw [cell_of_row _ _ _ _ _ _ (heap_of (hF1 u) _ _ _ k4)]; rfl
  have cself : cmpv a2 a2 = 0 := by unfold cmpv; simp
  have CS := box cself
  clear cself
  refine wp_region_below F hF2 (by kernel_rfl) (by kernel_rfl) ?_
  repeat quiet_step (first | (go_at_call 10; exact quietF hF1 hF2 (wof_al x hx _)) | (go_at_call 11; exact quietF hF1 hF2 (rwof_any x hx _)) | (go_at_call 12; exact quietF hF1 hF2 (wofbits_is hi lo v hh hl V.out _)) | (go_at_call 13; exact quietF hF1 hF2 (rwofbits_is hi lo v hh hl V.out _)) | (go_at_call 14; exact quietF hF1 hF2 (wcmp_is _ _ _ (by assumption) (by assumption) (by first | exact CS.out | exact CM.out) _)) | (go_at_call 15; exact quietF hF1 hF2 (rwcmp_is a2 a3 c h2 h3 CM.out _)) | (go_at_call 16; exact quietF hF1 hF2 (walive_any _)))
  refine wpQuiet_nil ?_
  rintro _ ⟨u, rfl⟩
  go_wp2
  go_ret
  exact ⟨rfl, bW.trans ((hF1 u).mono bW.size)⟩

set_option maxRecDepth 100000 in
theorem lifted (os : Os) (started : os.Started) (H : Type) (enc : TypeId × Value → H) :
    ReturnsInHanded {} Try.checked os 3 .any (Rows.wideMakesSpec.pre6 enc Try.prog Try.f3 Rows.wideMakesRow.domain false) (Rows.wideMakesSpec.post enc Try.prog Try.f3 false true false false) := by
  refine returnsInHanded_of_change (C := Try.checked) own started (by kernel_rfl) Try.func3
    (ChangeSpec.witness6 (enc := enc) (C := Try.checked) false ⟨#[], #[.int .u64 0, .agg #[.int .u64 0, .int .u64 0], .agg #[.int .u64 0, .int .u64 0, .int .u64 0, .int .u64 0, .int .u64 0, .int .u64 0], .agg #[.int .u64 0, .int .u64 0, .int .u64 0, .int .u64 0, .int .u64 0, .int .u64 0]], []⟩ 8 (by kernel_rfl) (by kernel_rfl) (by kernel_rfl) (by kernel_rfl)) ?_
  intro W base args ds gs before hval0 hW hcnd _
  have hval : ∀ (j : Nat) t v, Try.f3.params[j]? = some t → args[j]? = some v → Value.okWide Try.prog W .any base t v := hval0
  have hW' := hW
  obtain ⟨p, q, hA0, hV, rfl, hfz, hnd⟩ := hW
  have hA : DataW.TrodAll enc Try.prog W 0 (fun _ => true) true Try.f3.params.toList args.toList ds p := hA0
  rw [Try.params3] at hA hval
  obtain ⟨v0, vs0, d0, ds0, p0, q0, hargs, rfl, rfl, k0, r0⟩ := trodAll_cons hA
  obtain ⟨v1, vs1, d1, ds1, p1, q1, rfl, rfl, rfl, k1, r1⟩ := trodAll_cons r0
  obtain ⟨v2, vs2, d2, ds2, p2, q2, rfl, rfl, rfl, k2, r2⟩ := trodAll_cons r1
  obtain ⟨v3, vs3, d3, ds3, p3, q3, rfl, rfl, rfl, k3, r3⟩ := trodAll_cons r2
  obtain ⟨rfl, rfl, rfl⟩ := trodAll_nil r3
  obtain rfl : args = #[v0, v1, v2, v3] := by cases args; simp_all
  obtain ⟨rfl, rfl⟩ := trodVars_none hV
  obtain ⟨a0, rfl, rfl, rfl, h0⟩ := open_int Try.underlying22 (hval 0 22 v0 rfl rfl) k0
  obtain ⟨a1, h1, rfl, rfl, rfl⟩ := open_bits (hval 1 24 v1 rfl rfl) k1
  obtain ⟨a2, h2, rfl, rfl, rfl⟩ := open_w6 (hval 2 26 v2 rfl rfl) k2
  obtain ⟨a3, h3, rfl, rfl, rfl⟩ := open_w6 (hval 3 26 v3 rfl rfl) k3
  clear hA0 hval0
  simp only [List.append_nil] at hW'
  refine (walk a0 a1 a2 a3 h0 h1 h2 h3 W).mono fun e W' ⟨he, hg⟩ => ?_
  subst he
  exact ⟨_, rfl, post_plain hW' (fun _ _ _ => (trodAll_cons_mk (shut_bool Try.underlying4 _) trodAll_mk0)) (fun sp => (trodAll_cons_mk (shut_int Try.underlying22 h0) (trodAll_cons_mk (shut_bits a1 h1) (trodAll_cons_mk (shut_w6 a2) (trodAll_cons_mk (shut_w6 a3) trodAll_mk0))))) (fun _ => rfl) hg (ok_one (by kernel_rfl) rfl (okWide_bool_mk Try.underlying4 _))⟩

theorem over : Rows.wideMakesRow.holds Try.pinned (OpenSpec.ofChange Rows.wideMakesSpec) :=
  OpenClaim.holds_of_wide 3 Try.f3 rfl rfl rfl rfl rfl rfl rfl ⟨rfl, rfl, rfl, rfl, rfl⟩ rfl rfl rfl rfl rfl (by kernel_rfl) Try.func3 (by kernel_rfl)
    (of_decide_eq_true (by kernel_rfl)) (by unfold Func.isWrapper; first | (rw [if_pos (by decide +kernel)]; kernel_rfl) | (rw [if_neg (by decide +kernel)]; exact ⟨rfl, rfl⟩))
    (fun os started H enc _ => lifted os started H enc)

theorem proved : Rows.WideMakesSaid :=
  over
#print axioms proved
end Go.Proofs.Ytfofonnoheijjaa.wideMakes
