/-
  WideBack returns true for every number of 384 bits and every count: its text read again is the number, and what was moved without loss is moved back.
-/
import Derived.Test.YtfofonnoheijjabRows
import Derived.WalkKit
import Derived.ProofKit
import Derived.OpenShut
import Derived.Test.YtfofonnoheijjabFrame6
import Derived.Test.YtfofonnoheijjabWide4
import Derived.Test.YtfofonnoheijjabWide8
import Derived.Test.YtfofonnoheijjabWide10
namespace Go.Proofs.Ytfofonnoheijjab.wideBack
open WMath
open Go.ChangeShapes Go.WideShapes Go.ChangeAt Go.RowKit
set_option linter.unusedVariables false

theorem own : ownKnob Try.prog.godebug = none := by kernel_rfl

set_option maxRecDepth 100000 in
set_option maxHeartbeats 4000000 in
theorem walk (a0 : Nat) (a1 : Int) (h0 : a0 < Q) (h1 : (Lit.int .i64 a1).wf = true) (w : World) :
    Calls Try.prog 4 #[.agg (cw 6 a0), .int .i64 a1] w fun e w' => e = .returned (.bool true) ∧ Below w.heap.size w w' := by
  have L1 : Box ((⟨(tx a0).toArray⟩ : ByteArray).size ≤ 9223372036854775807) := box (by
    have := tx_len a0 h0
    show (tx a0).toArray.size ≤ _
    simp
    omega)
  have L3 : Box (rd (tx a0) = (a0, 0)) := box (rd_good _ a0 (tx_len a0 h0) (vals_tx a0) rfl)
  obtain ⟨s, e1⟩ : ∃ x, a0 * 2 ^ cnt6 a1 % Q = x := ⟨_, rfl⟩
  have l1 : s < Q := by rw [← e1]; exact Nat.mod_lt _ Q_pos
  have E1 := box e1
  obtain ⟨u, e4⟩ : ∃ x, decide (s % 2 ^ cnt6 a1 ≠ 0) = x := ⟨_, rfl⟩
  have E4 := box e4
  clear e4
  have heq := eq6
  have hg := eqg6
  by_cases hlost : Q ≤ a0 * 2 ^ cnt6 a1
  · have E2 : Box (decide (Q ≤ a0 * 2 ^ cnt6 a1) = true) := box (decide_eq_true hlost)
    obtain ⟨c, e3⟩ : ∃ x, s / 2 ^ cnt6 a1 = x := ⟨_, rfl⟩
    have l2 : c < Q := by rw [← e3]; exact Nat.lt_of_le_of_lt (Nat.div_le_self _ _) l1
    have E3 := box e3
    clear e1 e3 hlost
    go_enter Try.func4, Try.ntmps4
    have hat := cw_at 6
    have hz := cw6z
    have hf := cw6f
    have hs0 := st0
    have hcs : ∀ x, ((cw 6 x).size = 6) = True := fun x => eq_true (cw_size 6 x)
    go_wp2_with fail
    have R0_0 : (w.alloc (Obj.cells (cw 6 a0) 24)).heap[w.heap.size]? = some (Obj.cells (cw 6 a0) 24) := by have := heap_alloc_last w (Obj.cells (cw 6 a0) 24); simpa only [size_al] using this
    have B0 : Below w.heap.size w (w.alloc (Obj.cells (cw 6 a0) 24)) := ((Below.refl _ _).alloc (Nat.le_refl _) _)
    refine (wtext_any a0 h0 _).mono ?_
    rintro e w1 ⟨rfl, hb1⟩
    have Q1_0 : w1.heap[w.heap.size]? = some (Obj.cells (cw 6 a0) 24) := heap_of hb1 _ _ _ R0_0
    have C1 : Below w.heap.size w w1 := B0.trans (hb1.mono B0.size)
    clear hb1 B0 R0_0
    have c1_0 := row_cell Q1_0
    have s1_0 : w.heap.size < w1.heap.size := (Array.getElem?_eq_some_iff.1 Q1_0).1
    go_wp2_with fail
    have R1_0 := Q1_0
    have B1 := C1
    clear C1 Q1_0
    refine (wread_is ⟨(tx a0).toArray⟩ (tx a0) a0 0 L1.out (by simp) L3.out _).mono ?_
    rintro e w2 ⟨rfl, hb2⟩
    have Q2_0 : w2.heap[w.heap.size]? = some (Obj.cells (cw 6 a0) 24) := heap_of hb2 _ _ _ R1_0
    have C2 : Below w.heap.size w w2 := B1.trans (hb2.mono B1.size)
    clear hb2 B1 R1_0
    clear c1_0 s1_0
    have c2_0 := row_cell Q2_0
    have s2_0 : w.heap.size < w2.heap.size := (Array.getElem?_eq_some_iff.1 Q2_0).1
    go_wp2_with fail
    have R2_0 : (w2.alloc (Obj.cells (cw 6 a0) 24)).heap[w.heap.size]? = some (Obj.cells (cw 6 a0) 24) := by rw [heap_below _ _ _ s2_0]; exact Q2_0
    have R2_1 : (w2.alloc (Obj.cells (cw 6 a0) 24)).heap[w2.heap.size]? = some (Obj.cells (cw 6 a0) 24) := heap_alloc_last _ _
    have B2 : Below w.heap.size w (w2.alloc (Obj.cells (cw 6 a0) 24)) := C2.alloc C2.size _
    clear C2 Q2_0
    refine (wleft_is a0 s a1 true h0 E1.out E2.out _).mono ?_
    rintro e w3 ⟨rfl, hb3⟩
    have Q3_0 : w3.heap[w.heap.size]? = some (Obj.cells (cw 6 a0) 24) := heap_of hb3 _ _ _ R2_0
    have Q3_1 : w3.heap[w2.heap.size]? = some (Obj.cells (cw 6 a0) 24) := heap_of hb3 _ _ _ R2_1
    have C3 : Below w.heap.size w w3 := B2.trans (hb3.mono B2.size)
    clear hb3 B2 R2_0 R2_1
    clear c2_0 s2_0
    have c3_0 := row_cell Q3_0
    have s3_0 : w.heap.size < w3.heap.size := (Array.getElem?_eq_some_iff.1 Q3_0).1
    have c3_1 := row_cell Q3_1
    have s3_1 : w2.heap.size < w3.heap.size := (Array.getElem?_eq_some_iff.1 Q3_1).1
    go_wp2_with fail
    have R3_0 : (w3.alloc (Obj.cells (cw 6 s) 24)).heap[w.heap.size]? = some (Obj.cells (cw 6 a0) 24) := by rw [heap_below _ _ _ s3_0]; exact Q3_0
    have R3_1 : (w3.alloc (Obj.cells (cw 6 s) 24)).heap[w2.heap.size]? = some (Obj.cells (cw 6 a0) 24) := by rw [heap_below _ _ _ s3_1]; exact Q3_1
    have R3_2 : (w3.alloc (Obj.cells (cw 6 s) 24)).heap[w3.heap.size]? = some (Obj.cells (cw 6 s) 24) := heap_alloc_last _ _
    have B3 : Below w.heap.size w (w3.alloc (Obj.cells (cw 6 s) 24)) := C3.alloc C3.size _
    clear C3 Q3_0 Q3_1
    refine (wright_is s c a1 u l1 E3.out E4.out _).mono ?_
    rintro e w4 ⟨rfl, hb4⟩
    have Q4_0 : w4.heap[w.heap.size]? = some (Obj.cells (cw 6 a0) 24) := heap_of hb4 _ _ _ R3_0
    have Q4_1 : w4.heap[w2.heap.size]? = some (Obj.cells (cw 6 a0) 24) := heap_of hb4 _ _ _ R3_1
    have Q4_2 : w4.heap[w3.heap.size]? = some (Obj.cells (cw 6 s) 24) := heap_of hb4 _ _ _ R3_2
    have C4 : Below w.heap.size w w4 := B3.trans (hb4.mono B3.size)
    clear hb4 B3 R3_0 R3_1 R3_2
    clear c3_0 s3_0 c3_1 s3_1
    have c4_0 := row_cell Q4_0
    have s4_0 : w.heap.size < w4.heap.size := (Array.getElem?_eq_some_iff.1 Q4_0).1
    have c4_1 := row_cell Q4_1
    have s4_1 : w2.heap.size < w4.heap.size := (Array.getElem?_eq_some_iff.1 Q4_1).1
    have c4_2 := row_cell Q4_2
    have s4_2 : w3.heap.size < w4.heap.size := (Array.getElem?_eq_some_iff.1 Q4_2).1
    go_wp2_with fail
    have R4_0 : (w4.alloc (Obj.cells (cw 6 c) 24)).heap[w.heap.size]? = some (Obj.cells (cw 6 a0) 24) := by rw [heap_below _ _ _ s4_0]; exact Q4_0
    have R4_1 : (w4.alloc (Obj.cells (cw 6 c) 24)).heap[w2.heap.size]? = some (Obj.cells (cw 6 a0) 24) := by rw [heap_below _ _ _ s4_1]; exact Q4_1
    have R4_2 : (w4.alloc (Obj.cells (cw 6 c) 24)).heap[w3.heap.size]? = some (Obj.cells (cw 6 s) 24) := by rw [heap_below _ _ _ s4_2]; exact Q4_2
    have R4_3 : (w4.alloc (Obj.cells (cw 6 c) 24)).heap[w4.heap.size]? = some (Obj.cells (cw 6 c) 24) := heap_alloc_last _ _
    have B4 : Below w.heap.size w (w4.alloc (Obj.cells (cw 6 c) 24)) := C4.alloc C4.size _
    clear C4 Q4_0 Q4_1 Q4_2
    refine (walive_any _).mono ?_
    rintro e wz ⟨rfl, hbz⟩
    go_wp2
    go_ret
    exact ⟨rfl, B4.trans (hbz.mono B4.size)⟩
  · have E2 : Box (decide (Q ≤ a0 * 2 ^ cnt6 a1) = false) := box (decide_eq_false hlost)
    have E3 : Box (s / 2 ^ cnt6 a1 = a0) := box (by rw [← e1, Nat.mod_eq_of_lt (by omega), Nat.mul_div_cancel _ (Nat.two_pow_pos _)])
    clear e1 hlost
    go_enter Try.func4, Try.ntmps4
    have hat := cw_at 6
    have hz := cw6z
    have hf := cw6f
    have hs0 := st0
    have hcs : ∀ x, ((cw 6 x).size = 6) = True := fun x => eq_true (cw_size 6 x)
    go_wp2_with fail
    have R0_0 : (w.alloc (Obj.cells (cw 6 a0) 24)).heap[w.heap.size]? = some (Obj.cells (cw 6 a0) 24) := by have := heap_alloc_last w (Obj.cells (cw 6 a0) 24); simpa only [size_al] using this
    have B0 : Below w.heap.size w (w.alloc (Obj.cells (cw 6 a0) 24)) := ((Below.refl _ _).alloc (Nat.le_refl _) _)
    refine (wtext_any a0 h0 _).mono ?_
    rintro e w1 ⟨rfl, hb1⟩
    have Q1_0 : w1.heap[w.heap.size]? = some (Obj.cells (cw 6 a0) 24) := heap_of hb1 _ _ _ R0_0
    have C1 : Below w.heap.size w w1 := B0.trans (hb1.mono B0.size)
    clear hb1 B0 R0_0
    have c1_0 := row_cell Q1_0
    have s1_0 : w.heap.size < w1.heap.size := (Array.getElem?_eq_some_iff.1 Q1_0).1
    go_wp2_with fail
    have R1_0 := Q1_0
    have B1 := C1
    clear C1 Q1_0
    refine (wread_is ⟨(tx a0).toArray⟩ (tx a0) a0 0 L1.out (by simp) L3.out _).mono ?_
    rintro e w2 ⟨rfl, hb2⟩
    have Q2_0 : w2.heap[w.heap.size]? = some (Obj.cells (cw 6 a0) 24) := heap_of hb2 _ _ _ R1_0
    have C2 : Below w.heap.size w w2 := B1.trans (hb2.mono B1.size)
    clear hb2 B1 R1_0
    clear c1_0 s1_0
    have c2_0 := row_cell Q2_0
    have s2_0 : w.heap.size < w2.heap.size := (Array.getElem?_eq_some_iff.1 Q2_0).1
    go_wp2_with fail
    have R2_0 : (w2.alloc (Obj.cells (cw 6 a0) 24)).heap[w.heap.size]? = some (Obj.cells (cw 6 a0) 24) := by rw [heap_below _ _ _ s2_0]; exact Q2_0
    have R2_1 : (w2.alloc (Obj.cells (cw 6 a0) 24)).heap[w2.heap.size]? = some (Obj.cells (cw 6 a0) 24) := heap_alloc_last _ _
    have B2 : Below w.heap.size w (w2.alloc (Obj.cells (cw 6 a0) 24)) := C2.alloc C2.size _
    clear C2 Q2_0
    refine (wleft_is a0 s a1 false h0 E1.out E2.out _).mono ?_
    rintro e w3 ⟨rfl, hb3⟩
    have Q3_0 : w3.heap[w.heap.size]? = some (Obj.cells (cw 6 a0) 24) := heap_of hb3 _ _ _ R2_0
    have Q3_1 : w3.heap[w2.heap.size]? = some (Obj.cells (cw 6 a0) 24) := heap_of hb3 _ _ _ R2_1
    have C3 : Below w.heap.size w w3 := B2.trans (hb3.mono B2.size)
    clear hb3 B2 R2_0 R2_1
    clear c2_0 s2_0
    have c3_0 := row_cell Q3_0
    have s3_0 : w.heap.size < w3.heap.size := (Array.getElem?_eq_some_iff.1 Q3_0).1
    have c3_1 := row_cell Q3_1
    have s3_1 : w2.heap.size < w3.heap.size := (Array.getElem?_eq_some_iff.1 Q3_1).1
    go_wp2_with fail
    have R3_0 : (w3.alloc (Obj.cells (cw 6 s) 24)).heap[w.heap.size]? = some (Obj.cells (cw 6 a0) 24) := by rw [heap_below _ _ _ s3_0]; exact Q3_0
    have R3_1 : (w3.alloc (Obj.cells (cw 6 s) 24)).heap[w2.heap.size]? = some (Obj.cells (cw 6 a0) 24) := by rw [heap_below _ _ _ s3_1]; exact Q3_1
    have R3_2 : (w3.alloc (Obj.cells (cw 6 s) 24)).heap[w3.heap.size]? = some (Obj.cells (cw 6 s) 24) := heap_alloc_last _ _
    have B3 : Below w.heap.size w (w3.alloc (Obj.cells (cw 6 s) 24)) := C3.alloc C3.size _
    clear C3 Q3_0 Q3_1
    refine (wright_is s a0 a1 u l1 E3.out E4.out _).mono ?_
    rintro e w4 ⟨rfl, hb4⟩
    have Q4_0 : w4.heap[w.heap.size]? = some (Obj.cells (cw 6 a0) 24) := heap_of hb4 _ _ _ R3_0
    have Q4_1 : w4.heap[w2.heap.size]? = some (Obj.cells (cw 6 a0) 24) := heap_of hb4 _ _ _ R3_1
    have Q4_2 : w4.heap[w3.heap.size]? = some (Obj.cells (cw 6 s) 24) := heap_of hb4 _ _ _ R3_2
    have C4 : Below w.heap.size w w4 := B3.trans (hb4.mono B3.size)
    clear hb4 B3 R3_0 R3_1 R3_2
    clear c3_0 s3_0 c3_1 s3_1
    have c4_0 := row_cell Q4_0
    have s4_0 : w.heap.size < w4.heap.size := (Array.getElem?_eq_some_iff.1 Q4_0).1
    have c4_1 := row_cell Q4_1
    have s4_1 : w2.heap.size < w4.heap.size := (Array.getElem?_eq_some_iff.1 Q4_1).1
    have c4_2 := row_cell Q4_2
    have s4_2 : w3.heap.size < w4.heap.size := (Array.getElem?_eq_some_iff.1 Q4_2).1
    go_wp2_with fail
    have R4_0 : (w4.alloc (Obj.cells (cw 6 a0) 24)).heap[w.heap.size]? = some (Obj.cells (cw 6 a0) 24) := by rw [heap_below _ _ _ s4_0]; exact Q4_0
    have R4_1 : (w4.alloc (Obj.cells (cw 6 a0) 24)).heap[w2.heap.size]? = some (Obj.cells (cw 6 a0) 24) := by rw [heap_below _ _ _ s4_1]; exact Q4_1
    have R4_2 : (w4.alloc (Obj.cells (cw 6 a0) 24)).heap[w3.heap.size]? = some (Obj.cells (cw 6 s) 24) := by rw [heap_below _ _ _ s4_2]; exact Q4_2
    have R4_3 : (w4.alloc (Obj.cells (cw 6 a0) 24)).heap[w4.heap.size]? = some (Obj.cells (cw 6 a0) 24) := heap_alloc_last _ _
    have B4 : Below w.heap.size w (w4.alloc (Obj.cells (cw 6 a0) 24)) := C4.alloc C4.size _
    clear C4 Q4_0 Q4_1 Q4_2
    refine (walive_any _).mono ?_
    rintro e wz ⟨rfl, hbz⟩
    go_wp2
    go_ret
    exact ⟨rfl, B4.trans (hbz.mono B4.size)⟩

set_option maxRecDepth 100000 in
theorem lifted (os : Os) (started : os.Started) (H : Type) (enc : TypeId × Value → H) :
    ReturnsInHanded {} Try.checked os 4 .any (Rows.wideBackSpec.pre6 enc Try.prog Try.f4 Rows.wideBackRow.domain false) (Rows.wideBackSpec.post enc Try.prog Try.f4 false true false false) := by
  refine returnsInHanded_of_change (C := Try.checked) own started (by kernel_rfl) Try.func4
    (ChangeSpec.witness6 (enc := enc) (C := Try.checked) false ⟨#[], #[.agg #[.int .u64 0, .int .u64 0, .int .u64 0, .int .u64 0, .int .u64 0, .int .u64 0], .int .i64 0], []⟩ 8 (by kernel_rfl) (by kernel_rfl) (by kernel_rfl) (by kernel_rfl)) ?_
  intro W base args ds gs before hval0 hW hcnd _
  have hval : ∀ (j : Nat) t v, Try.f4.params[j]? = some t → args[j]? = some v → Value.okWide Try.prog W .any base t v := hval0
  have hW' := hW
  obtain ⟨p, q, hA0, hV, rfl, hfz, hnd⟩ := hW
  have hA : DataW.TrodAll enc Try.prog W 0 (fun _ => true) true Try.f4.params.toList args.toList ds p := hA0
  rw [Try.params4] at hA hval
  obtain ⟨v0, vs0, d0, ds0, p0, q0, hargs, rfl, rfl, k0, r0⟩ := trodAll_cons hA
  obtain ⟨v1, vs1, d1, ds1, p1, q1, rfl, rfl, rfl, k1, r1⟩ := trodAll_cons r0
  obtain ⟨rfl, rfl, rfl⟩ := trodAll_nil r1
  obtain rfl : args = #[v0, v1] := by cases args; simp_all
  obtain ⟨rfl, rfl⟩ := trodVars_none hV
  obtain ⟨a0, h0, rfl, rfl, rfl⟩ := open_w6 (hval 0 24 v0 rfl rfl) k0
  obtain ⟨a1, rfl, rfl, rfl, h1⟩ := open_int Try.underlying3 (hval 1 3 v1 rfl rfl) k1
  clear hA0 hval0
  simp only [List.append_nil] at hW'
  refine (walk a0 a1 h0 h1 W).mono fun e W' ⟨he, hg⟩ => ?_
  subst he
  exact ⟨_, rfl, post_plain hW' (fun _ _ _ => (trodAll_cons_mk (shut_bool Try.underlying4 _) trodAll_mk0)) (fun sp => (trodAll_cons_mk (shut_w6 a0) (trodAll_cons_mk (shut_int Try.underlying3 h1) trodAll_mk0))) (fun _ => rfl) hg (ok_one (by kernel_rfl) rfl (okWide_bool_mk Try.underlying4 _))⟩

theorem over : Rows.wideBackRow.holds Try.pinned (OpenSpec.ofChange Rows.wideBackSpec) :=
  OpenClaim.holds_of_wide 4 Try.f4 rfl rfl rfl rfl rfl rfl rfl ⟨rfl, rfl, rfl, rfl, rfl⟩ rfl rfl rfl rfl rfl (by kernel_rfl) Try.func4 (by kernel_rfl)
    (of_decide_eq_true (by kernel_rfl)) (by unfold Func.isWrapper; first | (rw [if_pos (by decide +kernel)]; kernel_rfl) | (rw [if_neg (by decide +kernel)]; exact ⟨rfl, rfl⟩))
    (fun os started H enc _ => lifted os started H enc)

theorem proved : Rows.WideBackSaid :=
  over
#print axioms proved
end Go.Proofs.Ytfofonnoheijjab.wideBack
