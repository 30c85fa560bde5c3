/-
  WideShifts returns true for every number of 384 bits and every count: the shifts of package wide, and what they lose, are the document's.
-/
import Derived.Test.YtfofonnoheijjaaRows
import Derived.WalkKit
import Derived.ProofKit
import Derived.OpenShut
import Derived.Test.YtfofonnoheijjaaFrame6
import Derived.Test.YtfofonnoheijjaaWide4
import Derived.Test.YtfofonnoheijjaaWide8
import Derived.Test.YtfofonnoheijjaaRwide2
namespace Go.Proofs.Ytfofonnoheijjaa.wideShifts
open WMath
open Go.ChangeShapes Go.WideShapes Go.ChangeAt Go.RowKit
set_option linter.unusedVariables false

theorem own : ownKnob Try.prog.godebug = none := by kernel_rfl

set_option maxRecDepth 100000 in
set_option maxHeartbeats 4000000 in
theorem walk (a0 : Nat) (a1 : Int) (h0 : a0 < Q) (h1 : (Lit.int .i64 a1).wf = true) (w : World) :
    Calls Try.prog 6 #[.agg (cw 6 a0), .int .i64 a1] w fun e w' => e = .returned (.bool true) ∧ Below w.heap.size w w' := by
  obtain ⟨s, e1⟩ : ∃ x, a0 * 2 ^ cnt6 a1 % Q = x := ⟨_, rfl⟩
  obtain ⟨o, e2⟩ : ∃ x, decide (Q ≤ a0 * 2 ^ cnt6 a1) = x := ⟨_, rfl⟩
  obtain ⟨d, e3⟩ : ∃ x, a0 / 2 ^ cnt6 a1 = x := ⟨_, rfl⟩
  obtain ⟨u, e4⟩ : ∃ x, decide (a0 % 2 ^ cnt6 a1 ≠ 0) = x := ⟨_, rfl⟩
  have l1 : s < Q := by rw [← e1]; exact Nat.mod_lt _ Q_pos
  have l2 : d < Q := by rw [← e3]; exact Nat.lt_of_le_of_lt (Nat.div_le_self _ _) h0
  have E1 := box e1
  have E2 := box e2
  have E3 := box e3
  have E4 := box e4
  clear e1 e2 e3 e4
  have heq := eq6
  have hg := eqg6
  go_enter Try.func6, Try.ntmps6
  have hat := cw_at 6
  have hz := cw6z
  have hf := cw6f
  have hs0 := st0
  have hcs : ∀ x, ((cw 6 x).size = 6) = True := fun x => eq_true (cw_size 6 x)
  go_wp2_with fail
  have R0_0 : (w.alloc (Obj.cells (cw 6 a0) 26)).heap[w.heap.size]? = some (Obj.cells (cw 6 a0) 26) := by have := heap_alloc_last w (Obj.cells (cw 6 a0) 26); simpa only [size_al] using this
  have B0 : Below w.heap.size w (w.alloc (Obj.cells (cw 6 a0) 26)) := ((Below.refl _ _).alloc (Nat.le_refl _) _)
  refine (wleft_is a0 s a1 o h0 E1.out E2.out _).mono ?_
  rintro e w1 ⟨rfl, hb1⟩
  have Q1_0 : w1.heap[w.heap.size]? = some (Obj.cells (cw 6 a0) 26) := heap_of hb1 _ _ _ R0_0
  have C1 : Below w.heap.size w w1 := B0.trans (hb1.mono B0.size)
  clear hb1 B0 R0_0
  have c1_0 := row_cell Q1_0
  have s1_0 : w.heap.size < w1.heap.size := (Array.getElem?_eq_some_iff.1 Q1_0).1
  go_wp2_with fail
  have R1_0 : (w1.alloc (Obj.cells (cw 6 s) 26)).heap[w.heap.size]? = some (Obj.cells (cw 6 a0) 26) := by rw [heap_below _ _ _ s1_0]; exact Q1_0
  have R1_1 : (w1.alloc (Obj.cells (cw 6 s) 26)).heap[w1.heap.size]? = some (Obj.cells (cw 6 s) 26) := heap_alloc_last _ _
  have B1 : Below w.heap.size w (w1.alloc (Obj.cells (cw 6 s) 26)) := C1.alloc C1.size _
  clear C1 Q1_0
  refine (rwleft_is a0 s a1 o h0 E1.out E2.out _).mono ?_
  rintro e w2 ⟨rfl, hb2⟩
  have Q2_0 : w2.heap[w.heap.size]? = some (Obj.cells (cw 6 a0) 26) := heap_of hb2 _ _ _ R1_0
  have Q2_1 : w2.heap[w1.heap.size]? = some (Obj.cells (cw 6 s) 26) := heap_of hb2 _ _ _ R1_1
  have C2 : Below w.heap.size w w2 := B1.trans (hb2.mono B1.size)
  clear hb2 B1 R1_0 R1_1
  clear c1_0 s1_0
  have c2_0 := row_cell Q2_0
  have s2_0 : w.heap.size < w2.heap.size := (Array.getElem?_eq_some_iff.1 Q2_0).1
  have c2_1 := row_cell Q2_1
  have s2_1 : w1.heap.size < w2.heap.size := (Array.getElem?_eq_some_iff.1 Q2_1).1
  go_wp2_with fail
  have R2_0 : (w2.alloc (Obj.cells (cw 6 s) 26)).heap[w.heap.size]? = some (Obj.cells (cw 6 a0) 26) := by rw [heap_below _ _ _ s2_0]; exact Q2_0
  have R2_1 : (w2.alloc (Obj.cells (cw 6 s) 26)).heap[w1.heap.size]? = some (Obj.cells (cw 6 s) 26) := by rw [heap_below _ _ _ s2_1]; exact Q2_1
  have R2_2 : (w2.alloc (Obj.cells (cw 6 s) 26)).heap[w2.heap.size]? = some (Obj.cells (cw 6 s) 26) := heap_alloc_last _ _
  have B2 : Below w.heap.size w (w2.alloc (Obj.cells (cw 6 s) 26)) := C2.alloc C2.size _
  clear C2 Q2_0 Q2_1
  refine (wright_is a0 d a1 u h0 E3.out E4.out _).mono ?_
  rintro e w3 ⟨rfl, hb3⟩
  have Q3_0 : w3.heap[w.heap.size]? = some (Obj.cells (cw 6 a0) 26) := heap_of hb3 _ _ _ R2_0
  have Q3_1 : w3.heap[w1.heap.size]? = some (Obj.cells (cw 6 s) 26) := heap_of hb3 _ _ _ R2_1
  have Q3_2 : w3.heap[w2.heap.size]? = some (Obj.cells (cw 6 s) 26) := heap_of hb3 _ _ _ R2_2
  have C3 : Below w.heap.size w w3 := B2.trans (hb3.mono B2.size)
  clear hb3 B2 R2_0 R2_1 R2_2
  clear c2_0 s2_0 c2_1 s2_1
  have c3_0 := row_cell Q3_0
  have s3_0 : w.heap.size < w3.heap.size := (Array.getElem?_eq_some_iff.1 Q3_0).1
  have c3_1 := row_cell Q3_1
  have s3_1 : w1.heap.size < w3.heap.size := (Array.getElem?_eq_some_iff.1 Q3_1).1
  have c3_2 := row_cell Q3_2
  have s3_2 : w2.heap.size < w3.heap.size := (Array.getElem?_eq_some_iff.1 Q3_2).1
  go_wp2_with fail
  have R3_0 : (w3.alloc (Obj.cells (cw 6 d) 26)).heap[w.heap.size]? = some (Obj.cells (cw 6 a0) 26) := by rw [heap_below _ _ _ s3_0]; exact Q3_0
  have R3_1 : (w3.alloc (Obj.cells (cw 6 d) 26)).heap[w1.heap.size]? = some (Obj.cells (cw 6 s) 26) := by rw [heap_below _ _ _ s3_1]; exact Q3_1
  have R3_2 : (w3.alloc (Obj.cells (cw 6 d) 26)).heap[w2.heap.size]? = some (Obj.cells (cw 6 s) 26) := by rw [heap_below _ _ _ s3_2]; exact Q3_2
  have R3_3 : (w3.alloc (Obj.cells (cw 6 d) 26)).heap[w3.heap.size]? = some (Obj.cells (cw 6 d) 26) := heap_alloc_last _ _
  have B3 : Below w.heap.size w (w3.alloc (Obj.cells (cw 6 d) 26)) := C3.alloc C3.size _
  clear C3 Q3_0 Q3_1 Q3_2
  refine (rwright_is a0 d a1 u h0 E3.out E4.out _).mono ?_
  rintro e w4 ⟨rfl, hb4⟩
  have Q4_0 : w4.heap[w.heap.size]? = some (Obj.cells (cw 6 a0) 26) := heap_of hb4 _ _ _ R3_0
  have Q4_1 : w4.heap[w1.heap.size]? = some (Obj.cells (cw 6 s) 26) := heap_of hb4 _ _ _ R3_1
  have Q4_2 : w4.heap[w2.heap.size]? = some (Obj.cells (cw 6 s) 26) := heap_of hb4 _ _ _ R3_2
  have Q4_3 : w4.heap[w3.heap.size]? = some (Obj.cells (cw 6 d) 26) := heap_of hb4 _ _ _ R3_3
  have C4 : Below w.heap.size w w4 := B3.trans (hb4.mono B3.size)
  clear hb4 B3 R3_0 R3_1 R3_2 R3_3
  clear c3_0 s3_0 c3_1 s3_1 c3_2 s3_2
  have c4_0 := row_cell Q4_0
  have s4_0 : w.heap.size < w4.heap.size := (Array.getElem?_eq_some_iff.1 Q4_0).1
  have c4_1 := row_cell Q4_1
  have s4_1 : w1.heap.size < w4.heap.size := (Array.getElem?_eq_some_iff.1 Q4_1).1
  have c4_2 := row_cell Q4_2
  have s4_2 : w2.heap.size < w4.heap.size := (Array.getElem?_eq_some_iff.1 Q4_2).1
  have c4_3 := row_cell Q4_3
  have s4_3 : w3.heap.size < w4.heap.size := (Array.getElem?_eq_some_iff.1 Q4_3).1
  go_wp2_with fail
  have R4_0 : (w4.alloc (Obj.cells (cw 6 d) 26)).heap[w.heap.size]? = some (Obj.cells (cw 6 a0) 26) := by rw [heap_below _ _ _ s4_0]; exact Q4_0
  have R4_1 : (w4.alloc (Obj.cells (cw 6 d) 26)).heap[w1.heap.size]? = some (Obj.cells (cw 6 s) 26) := by rw [heap_below _ _ _ s4_1]; exact Q4_1
  have R4_2 : (w4.alloc (Obj.cells (cw 6 d) 26)).heap[w2.heap.size]? = some (Obj.cells (cw 6 s) 26) := by rw [heap_below _ _ _ s4_2]; exact Q4_2
  have R4_3 : (w4.alloc (Obj.cells (cw 6 d) 26)).heap[w3.heap.size]? = some (Obj.cells (cw 6 d) 26) := by rw [heap_below _ _ _ s4_3]; exact Q4_3
  have R4_4 : (w4.alloc (Obj.cells (cw 6 d) 26)).heap[w4.heap.size]? = some (Obj.cells (cw 6 d) 26) := heap_alloc_last _ _
  have B4 : Below w.heap.size w (w4.alloc (Obj.cells (cw 6 d) 26)) := C4.alloc C4.size _
  clear C4 Q4_0 Q4_1 Q4_2 Q4_3
  refine (walive_any _).mono ?_
  rintro e wz ⟨rfl, hbz⟩
  go_wp2
  go_ret
  exact ⟨rfl, B4.trans (hbz.mono B4.size)⟩

set_option maxRecDepth 100000 in
theorem lifted (os : Os) (started : os.Started) (H : Type) (enc : TypeId × Value → H) :
    ReturnsInHanded {} Try.checked os 6 .any (Rows.wideShiftsSpec.pre6 enc Try.prog Try.f6 Rows.wideShiftsRow.domain false) (Rows.wideShiftsSpec.post enc Try.prog Try.f6 false true false false) := by
  refine returnsInHanded_of_change (C := Try.checked) own started (by kernel_rfl) Try.func6
    (ChangeSpec.witness6 (enc := enc) (C := Try.checked) false ⟨#[], #[.agg #[.int .u64 0, .int .u64 0, .int .u64 0, .int .u64 0, .int .u64 0, .int .u64 0], .int .i64 0], []⟩ 8 (by kernel_rfl) (by kernel_rfl) (by kernel_rfl) (by kernel_rfl)) ?_
  intro W base args ds gs before hval0 hW hcnd _
  have hval : ∀ (j : Nat) t v, Try.f6.params[j]? = some t → args[j]? = some v → Value.okWide Try.prog W .any base t v := hval0
  have hW' := hW
  obtain ⟨p, q, hA0, hV, rfl, hfz, hnd⟩ := hW
  have hA : DataW.TrodAll enc Try.prog W 0 (fun _ => true) true Try.f6.params.toList args.toList ds p := hA0
  rw [Try.params6] at hA hval
  obtain ⟨v0, vs0, d0, ds0, p0, q0, hargs, rfl, rfl, k0, r0⟩ := trodAll_cons hA
  obtain ⟨v1, vs1, d1, ds1, p1, q1, rfl, rfl, rfl, k1, r1⟩ := trodAll_cons r0
  obtain ⟨rfl, rfl, rfl⟩ := trodAll_nil r1
  obtain rfl : args = #[v0, v1] := by cases args; simp_all
  obtain ⟨rfl, rfl⟩ := trodVars_none hV
  obtain ⟨a0, h0, rfl, rfl, rfl⟩ := open_w6 (hval 0 26 v0 rfl rfl) k0
  obtain ⟨a1, rfl, rfl, rfl, h1⟩ := open_int Try.underlying3 (hval 1 3 v1 rfl rfl) k1
  clear hA0 hval0
  simp only [List.append_nil] at hW'
  refine (walk a0 a1 h0 h1 W).mono fun e W' ⟨he, hg⟩ => ?_
  subst he
  exact ⟨_, rfl, post_plain hW' (fun _ _ _ => (trodAll_cons_mk (shut_bool Try.underlying4 _) trodAll_mk0)) (fun sp => (trodAll_cons_mk (shut_w6 a0) (trodAll_cons_mk (shut_int Try.underlying3 h1) trodAll_mk0))) (fun _ => rfl) hg (ok_one (by kernel_rfl) rfl (okWide_bool_mk Try.underlying4 _))⟩

theorem over : Rows.wideShiftsRow.holds Try.pinned (OpenSpec.ofChange Rows.wideShiftsSpec) :=
  OpenClaim.holds_of_wide 6 Try.f6 rfl rfl rfl rfl rfl rfl rfl ⟨rfl, rfl, rfl, rfl, rfl⟩ rfl rfl rfl rfl rfl (by kernel_rfl) Try.func6 (by kernel_rfl)
    (of_decide_eq_true (by kernel_rfl)) (by unfold Func.isWrapper; first | (rw [if_pos (by decide +kernel)]; kernel_rfl) | (rw [if_neg (by decide +kernel)]; exact ⟨rfl, rfl⟩))
    (fun os started H enc _ => lifted os started H enc)

theorem proved : Rows.WideShiftsSaid :=
  over
#print axioms proved
end Go.Proofs.Ytfofonnoheijjaa.wideShifts
