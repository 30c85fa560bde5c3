/-
  WideTexts returns true for every number of 384 bits and every text: the number's text, and what is read out of the text, are the document's.
-/
import Derived.Test.YtfofonnoheijjaaRows
import Derived.WalkKit
import Derived.ProofKit
import Derived.OpenShut
import Derived.Test.YtfofonnoheijjaaFrame6
import Derived.Test.YtfofonnoheijjaaWide8
import Derived.Test.YtfofonnoheijjaaRwide5
import Derived.ChangeMaps5
namespace Go.Proofs.Ytfofonnoheijjaa.wideTexts
open WMath
open Go.ChangeShapes Go.WideShapes Go.ChangeAt Go.RowKit
open Go.ChangeMaps (open_string shut_string)
set_option linter.unusedVariables false

theorem own : ownKnob Try.prog.godebug = none := by kernel_rfl

set_option maxRecDepth 100000 in
set_option maxHeartbeats 4000000 in
theorem walk (a0 : Nat) (a1 : ByteArray) (h0 : a0 < Q) (h1 : a1.size ≤ maxLen) (w : World) :
    Calls Try.prog 7 #[.agg (cw 6 a0), .string a1] w fun e w' => e = .returned (.bool true) ∧ Below w.heap.size w w' := by
  have hsz : a1.size ≤ 9223372036854775807 := h1
  obtain ⟨l, hl⟩ : ∃ l, a1.data.toList = l := ⟨_, rfl⟩
  obtain ⟨V, E1, hr⟩ : ∃ V E1, rd l = (V, E1) := ⟨(rd l).1, (rd l).2, rfl⟩
  have VQ : V < Q := by
    have hQ := Q_pos
    unfold rd at hr
    split at hr
    · rename_i h96
      split at hr
      · rename_i v hv
        split at hr
        · injection hr with hr _
          rw [← hr]
          exact Nat.lt_of_lt_of_le (vals_lt l.length l v rfl hv) (pow96 l.length h96)
        · injection hr with hr _
          omega
      · injection hr with hr _
        omega
    · injection hr with hr _
      omega
  have HL := box hl
  have HR := box hr
  clear hl hr h1
  have heq := eq6
  have hg := eqg6
  go_enter Try.func7, Try.ntmps7
  have hat := cw_at 6
  have hz := cw6z
  have hf := cw6f
  have hs0 := st0
  have hcs : ∀ x, ((cw 6 x).size = 6) = True := fun x => eq_true (cw_size 6 x)
  go_wp2_with fail
  have R0_0 : (w.alloc (Obj.cells (cw 6 a0) 26)).heap[w.heap.size]? = some (Obj.cells (cw 6 a0) 26) := by have := heap_alloc_last w (Obj.cells (cw 6 a0) 26); simpa only [size_al] using this
  have B0 : Below w.heap.size w (w.alloc (Obj.cells (cw 6 a0) 26)) := ((Below.refl _ _).alloc (Nat.le_refl _) _)
  refine (wread_is a1 l V E1 hsz HL.out HR.out _).mono ?_
  rintro e w1 ⟨rfl, hb1⟩
  have Q1_0 : w1.heap[w.heap.size]? = some (Obj.cells (cw 6 a0) 26) := heap_of hb1 _ _ _ R0_0
  have C1 : Below w.heap.size w w1 := B0.trans (hb1.mono B0.size)
  clear hb1 B0 R0_0
  have c1_0 := row_cell Q1_0
  have s1_0 : w.heap.size < w1.heap.size := (Array.getElem?_eq_some_iff.1 Q1_0).1
  go_wp2_with fail
  have R1_0 : (w1.alloc (Obj.cells (cw 6 V) 26)).heap[w.heap.size]? = some (Obj.cells (cw 6 a0) 26) := by rw [heap_below _ _ _ s1_0]; exact Q1_0
  have R1_1 : (w1.alloc (Obj.cells (cw 6 V) 26)).heap[w1.heap.size]? = some (Obj.cells (cw 6 V) 26) := heap_alloc_last _ _
  have B1 : Below w.heap.size w (w1.alloc (Obj.cells (cw 6 V) 26)) := C1.alloc C1.size _
  clear C1 Q1_0
  refine (rwread_is a1 l V E1 hsz HL.out HR.out _).mono ?_
  rintro e w2 ⟨rfl, hb2⟩
  have Q2_0 : w2.heap[w.heap.size]? = some (Obj.cells (cw 6 a0) 26) := heap_of hb2 _ _ _ R1_0
  have Q2_1 : w2.heap[w1.heap.size]? = some (Obj.cells (cw 6 V) 26) := heap_of hb2 _ _ _ R1_1
  have C2 : Below w.heap.size w w2 := B1.trans (hb2.mono B1.size)
  clear hb2 B1 R1_0 R1_1
  clear c1_0 s1_0
  have c2_0 := row_cell Q2_0
  have s2_0 : w.heap.size < w2.heap.size := (Array.getElem?_eq_some_iff.1 Q2_0).1
  have c2_1 := row_cell Q2_1
  have s2_1 : w1.heap.size < w2.heap.size := (Array.getElem?_eq_some_iff.1 Q2_1).1
  go_wp2_with fail
  have R2_0 : (w2.alloc (Obj.cells (cw 6 V) 26)).heap[w.heap.size]? = some (Obj.cells (cw 6 a0) 26) := by rw [heap_below _ _ _ s2_0]; exact Q2_0
  have R2_1 : (w2.alloc (Obj.cells (cw 6 V) 26)).heap[w1.heap.size]? = some (Obj.cells (cw 6 V) 26) := by rw [heap_below _ _ _ s2_1]; exact Q2_1
  have R2_2 : (w2.alloc (Obj.cells (cw 6 V) 26)).heap[w2.heap.size]? = some (Obj.cells (cw 6 V) 26) := heap_alloc_last _ _
  have B2 : Below w.heap.size w (w2.alloc (Obj.cells (cw 6 V) 26)) := C2.alloc C2.size _
  clear C2 Q2_0 Q2_1
  obtain ⟨W, hW⟩ : ∃ W, W = w2.alloc (Obj.cells (cw 6 V) 26) := ⟨_, rfl⟩
  rw [← hW] at R2_0 R2_1 R2_2 B2 ⊢
  clear hW
  obtain ⟨F, hF1, hF2⟩ := below_fun W
  have f0 : ∀ u o, o < 6 → (F u).cell? ⟨w.heap.size, o, none⟩ = some (.int .u64 (wd a0 o : Nat)) := fun u => row_cell (heap_of (hF1 u) _ _ _ R2_0)
  have f1 : ∀ u o, o < 6 → (F u).cell? ⟨w1.heap.size, o, none⟩ = some (.int .u64 (wd V o : Nat)) := fun u => row_cell (heap_of (hF1 u) _ _ _ R2_1)
  have f2 : ∀ u o, o < 6 → (F u).cell? ⟨w2.heap.size, o, none⟩ = some (.int .u64 (wd V o : Nat)) := fun u => row_cell (heap_of (hF1 u) _ _ _ R2_2)
  refine wp_region_below F hF2 (by kernel_rfl) (by kernel_rfl) ?_
  repeat quiet_step (first | (go_at_call 29; exact quietF hF1 hF2 (wtext_any a0 h0 _)) | (go_at_call 30; exact quietF hF1 hF2 (rtext_any a0 h0 _)) | (go_at_call 16; exact quietF hF1 hF2 (walive_any _)))
  refine wpQuiet_nil ?_
  rintro _ ⟨u, rfl⟩
  go_wp2
  go_ret
  exact ⟨rfl, B2.trans ((hF1 u).mono B2.size)⟩

set_option maxRecDepth 100000 in
theorem lifted (os : Os) (started : os.Started) (H : Type) (enc : TypeId × Value → H) :
    ReturnsInHanded {} Try.checked os 7 .any (Rows.wideTextsSpec.pre6 enc Try.prog Try.f7 Rows.wideTextsRow.domain false) (Rows.wideTextsSpec.post enc Try.prog Try.f7 false true false false) := by
  refine returnsInHanded_of_change (C := Try.checked) own started (by kernel_rfl) Try.func7
    (ChangeSpec.witness6 (enc := enc) (C := Try.checked) false ⟨#[], #[.agg #[.int .u64 0, .int .u64 0, .int .u64 0, .int .u64 0, .int .u64 0, .int .u64 0], .string ⟨#[]⟩], []⟩ 8 (by kernel_rfl) (by kernel_rfl) (by kernel_rfl) (by kernel_rfl)) ?_
  intro W base args ds gs before hval0 hW hcnd _
  have hval : ∀ (j : Nat) t v, Try.f7.params[j]? = some t → args[j]? = some v → Value.okWide Try.prog W .any base t v := hval0
  have hW' := hW
  obtain ⟨p, q, hA0, hV, rfl, hfz, hnd⟩ := hW
  have hA : DataW.TrodAll enc Try.prog W 0 (fun _ => true) true Try.f7.params.toList args.toList ds p := hA0
  rw [Try.params7] at hA hval
  obtain ⟨v0, vs0, d0, ds0, p0, q0, hargs, rfl, rfl, k0, r0⟩ := trodAll_cons hA
  obtain ⟨v1, vs1, d1, ds1, p1, q1, rfl, rfl, rfl, k1, r1⟩ := trodAll_cons r0
  obtain ⟨rfl, rfl, rfl⟩ := trodAll_nil r1
  obtain rfl : args = #[v0, v1] := by cases args; simp_all
  obtain ⟨rfl, rfl⟩ := trodVars_none hV
  obtain ⟨a0, h0, rfl, rfl, rfl⟩ := open_w6 (hval 0 26 v0 rfl rfl) k0
  obtain ⟨a1, rfl, rfl, rfl, h1⟩ := open_string Try.underlying9 (hval 1 9 v1 rfl rfl) k1
  clear hA0 hval0
  simp only [List.append_nil] at hW'
  refine (walk a0 a1 h0 h1 W).mono fun e W' ⟨he, hg⟩ => ?_
  subst he
  exact ⟨_, rfl, post_plain hW' (fun _ _ _ => (trodAll_cons_mk (shut_bool Try.underlying4 _) trodAll_mk0)) (fun sp => (trodAll_cons_mk (shut_w6 a0) (trodAll_cons_mk (shut_string Try.underlying9 h1) trodAll_mk0))) (fun _ => rfl) hg (ok_one (by kernel_rfl) rfl (okWide_bool_mk Try.underlying4 _))⟩

theorem over : Rows.wideTextsRow.holds Try.pinned (OpenSpec.ofChange Rows.wideTextsSpec) :=
  OpenClaim.holds_of_wide 7 Try.f7 rfl rfl rfl rfl rfl rfl rfl ⟨rfl, rfl, rfl, rfl, rfl⟩ rfl rfl rfl rfl rfl (by kernel_rfl) Try.func7 (by kernel_rfl)
    (of_decide_eq_true (by kernel_rfl)) (by unfold Func.isWrapper; first | (rw [if_pos (by decide +kernel)]; kernel_rfl) | (rw [if_neg (by decide +kernel)]; exact ⟨rfl, rfl⟩))
    (fun os started H enc _ => lifted os started H enc)

theorem proved : Rows.WideTextsSaid :=
  over
#print axioms proved
end Go.Proofs.Ytfofonnoheijjaa.wideTexts
