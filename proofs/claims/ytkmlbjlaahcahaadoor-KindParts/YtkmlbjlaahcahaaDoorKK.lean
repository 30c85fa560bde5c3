/-
  The document's Pack.
-/
import Derived.Test.YtkmlbjlaahcahaaDoorKJ
namespace Go.Proofs.YtkmlbjlaahcahaaDoor
open Go.RowKit WMath
set_option linter.unusedSimpArgs false
set_option linter.unusedVariables false

set_option maxRecDepth 100000 in
set_option maxHeartbeats 2000000 in
theorem rpack_i0 (f q X Y : Int) (c s rr u v C S R : Nat) (E : Bool) (w : World)
    (KP : Box (∀ w, Calls Tryd.prog 20 #[.int .u8 f] w fun r w' => r = .returned (.int .i64 q) ∧ w' = w))
    (KU : Box (∀ w, Calls Tryd.prog 8 #[.int .u8 f, .agg #[.int .u64 (u : Nat), .int .u64 (v : Nat)]] w fun r w' => r = .returned (.agg (pt C S Y R)) ∧ Below w.heap.size w w'))
    (ls : S < Q) (lr : R < Q) (hs : s < Q) (hr : rr < Q) (hE : (decide (C = c) && (decide (S = s) && (decide (Y = X) && decide (R = rr)))) = E)
    (KI : Box (∀ w, Calls Tryd.prog 29 #[.int .u8 f, .bool true] w fun r w' => r = .returned (.agg #[.int .u64 (u : Nat), .int .u64 (v : Nat)]) ∧ Below w.heap.size w w'))
    (hc : c = 0) : Calls Tryd.prog 12 #[.int .u8 f, .agg (pt c s X rr)] w fun r w' => r = .returned (.tuple #[.agg #[.int .u64 (if E then (u : Int) else 0), .int .u64 (if E then (v : Int) else 0)], .int .i64 (if E then 0 else 80)]) ∧ Below w.heap.size w w' := by
  have hat := cw_at 6
  have hz := cw6z
  have hff := cw6f
  have hs0 := st0
  have hcs : ∀ x, ((cw 6 x).size = 6) = True := fun x => eq_true (cw_size 6 x)
  have hp1 := ptf
  have hp3 := ptz
  have hp4 := st_p0
  have hp5 : ∀ (c s : Nat) (x : Int) (r : Nat), ((pt c s x r).size = 14) = True := fun _ _ _ _ => eq_true rfl
  have heq := eqp
  have hg := eqgp
  have ha0 := pt_at0
  have ha1 := pt_at1
  have ha2 := pt_at2
  have ha3 := pt_at3
  have ha4 := pt_at4
  have ha5 := pt_at5
  have ha6 := pt_at6
  have ha7 := pt_at7
  have ha8 := pt_at8
  have ha9 := pt_at9
  have ha10 := pt_at10
  have ha11 := pt_at11
  have ha12 := pt_at12
  have ha13 := pt_at13
  have hb0 := pt_q0
  have hb1 := pt_q1
  have hb2 := pt_q2
  have hb3 := pt_q3
  have hb4 := pt_q4
  have hb5 := pt_q5
  have hb6 := pt_q6
  have hb7 := pt_q7
  have hb8 := pt_q8
  have hb9 := pt_q9
  have hb10 := pt_q10
  have hb11 := pt_q11
  have hb12 := pt_q12
  have hb13 := pt_q13
  · have f0 : ((c : Int) == 0) = true := by rw [hc]; rfl
    clear hc
    cases E
    · simp only [Bool.false_eq_true, if_false, if_true]
      obtain ⟨Rp_0, Rz_0, Rb_0, B0⟩ := kopn3 w (Obj.cells (pt c s X rr) 30) (Obj.cells #[.int .u64 0, .int .u64 0] 25) (Obj.cells #[.int .u64 0, .int .u64 0] 25)
      go_enter Tryd.func12, Tryd.ntmps12
      go_wp2_with fail
      refine (KP.out _).mono ?_
      rintro r w' ⟨rfl, hw'⟩
      obtain rfl := hw'.symm
      go_wp2_with fail
      refine (KI.out _).mono ?_
      rintro r w1 ⟨rfl, b1⟩
      have B1 : Below w.heap.size w w1 := btr7 B0 b1
      have Rp_1 := heap_of b1 _ _ _ Rp_0
      have Rz_1 := heap_of b1 _ _ _ Rz_0
      have Rb_1 := heap_of b1 _ _ _ Rb_0
      clear b1 B0 Rp_0 Rz_0 Rb_0
      obtain ⟨cp_1_0, cp_1_1, cp_1_2, cp_1_3, cp_1_4, cp_1_5, cp_1_6, cp_1_7, cp_1_8, cp_1_9, cp_1_10, cp_1_11, cp_1_12, cp_1_13⟩ := pt_cells Rp_1
      obtain ⟨cz_1_0, cz_1_1⟩ := cell7t Rz_1
      obtain ⟨cb_1_0, cb_1_1⟩ := cell7t Rb_1
      have q0_2 := fz (k := 0) Rb_1
      have q1_2 := fz (k := 1) Rb_1
      have B2 := set2_below B1 (show w.heap.size ≤ w.heap.size + 1 + 1 by first | exact Nat.le_refl _ | omega | (skip; omega)) (.int .u64 (u : Nat)) (.int .u64 (v : Nat))
      have Rb_2 : ((w1.setCell ⟨w.heap.size + 1 + 1, 0, none⟩ (.int .u64 (u : Nat))).setCell ⟨w.heap.size + 1 + 1, 1, none⟩ (.int .u64 (v : Nat))).heap[w.heap.size + 1 + 1]? = some (Obj.cells #[.int .u64 (u : Nat), .int .u64 (v : Nat)] 25) := set2_row Rb_1 _ _
      have Rp_2 : ((w1.setCell ⟨w.heap.size + 1 + 1, 0, none⟩ (.int .u64 (u : Nat))).setCell ⟨w.heap.size + 1 + 1, 1, none⟩ (.int .u64 (v : Nat))).heap[w.heap.size]? = some (Obj.cells (pt c s X rr) 30) := (setCell_other (by first | omega | (skip; omega))).trans ((setCell_other (by first | omega | (skip; omega))).trans Rp_1)
      have Rz_2 : ((w1.setCell ⟨w.heap.size + 1 + 1, 0, none⟩ (.int .u64 (u : Nat))).setCell ⟨w.heap.size + 1 + 1, 1, none⟩ (.int .u64 (v : Nat))).heap[w.heap.size + 1]? = some (Obj.cells #[.int .u64 0, .int .u64 0] 25) := (setCell_other (by first | omega | (skip; omega))).trans ((setCell_other (by first | omega | (skip; omega))).trans Rz_1)
      obtain ⟨cp_2_0, cp_2_1, cp_2_2, cp_2_3, cp_2_4, cp_2_5, cp_2_6, cp_2_7, cp_2_8, cp_2_9, cp_2_10, cp_2_11, cp_2_12, cp_2_13⟩ := pt_cells Rp_2
      obtain ⟨cz_2_0, cz_2_1⟩ := cell7t Rz_2
      obtain ⟨cb_2_0, cb_2_1⟩ := cell7t Rb_2
      go_wp2_with fail
      obtain ⟨F, hF1, hF2⟩ := below_fun ((w1.setCell ⟨w.heap.size + 1 + 1, 0, none⟩ (.int .u64 (u : Nat))).setCell ⟨w.heap.size + 1 + 1, 1, none⟩ (.int .u64 (v : Nat)))
      have fp_0 := fun u => cell7 (heap_of (hF1 u) _ _ _ Rp_2) 0 _ rfl
      have fp_1 := fun u => cell7 (heap_of (hF1 u) _ _ _ Rp_2) 1 _ rfl
      have fp_2 := fun u => cell7 (heap_of (hF1 u) _ _ _ Rp_2) 2 _ rfl
      have fp_3 := fun u => cell7 (heap_of (hF1 u) _ _ _ Rp_2) 3 _ rfl
      have fp_4 := fun u => cell7 (heap_of (hF1 u) _ _ _ Rp_2) 4 _ rfl
      have fp_5 := fun u => cell7 (heap_of (hF1 u) _ _ _ Rp_2) 5 _ rfl
      have fp_6 := fun u => cell7 (heap_of (hF1 u) _ _ _ Rp_2) 6 _ rfl
      have fp_7 := fun u => cell7 (heap_of (hF1 u) _ _ _ Rp_2) 7 _ rfl
      have fp_8 := fun u => cell7 (heap_of (hF1 u) _ _ _ Rp_2) 8 _ rfl
      have fp_9 := fun u => cell7 (heap_of (hF1 u) _ _ _ Rp_2) 9 _ rfl
      have fp_10 := fun u => cell7 (heap_of (hF1 u) _ _ _ Rp_2) 10 _ rfl
      have fp_11 := fun u => cell7 (heap_of (hF1 u) _ _ _ Rp_2) 11 _ rfl
      have fp_12 := fun u => cell7 (heap_of (hF1 u) _ _ _ Rp_2) 12 _ rfl
      have fp_13 := fun u => cell7 (heap_of (hF1 u) _ _ _ Rp_2) 13 _ rfl
      have fz_0 := fun u => cell7 (heap_of (hF1 u) _ _ _ Rz_2) 0 _ rfl
      have fz_1 := fun u => cell7 (heap_of (hF1 u) _ _ _ Rz_2) 1 _ rfl
      have fb_0 := fun u => cell7 (heap_of (hF1 u) _ _ _ Rb_2) 0 _ rfl
      have fb_1 := fun u => cell7 (heap_of (hF1 u) _ _ _ Rb_2) 1 _ rfl
      refine wp_region_below F hF2 (by kernel_rfl) (by kernel_rfl) ?_
      repeat first | go_big_quiet_step (first | (go_at_call 8; exact quietF hF1 hF2 (KU.out _)) | fail) | quiet_step (first | (go_at_call 8; exact quietF hF1 hF2 (KU.out _)) | fail)
      refine wpQuiet_nil ?_
      rintro _ ⟨uW, rfl⟩
      have B3 := btr7 B2 (hF1 uW)
      have Rp_3 := heap_of (hF1 uW) _ _ _ Rp_2
      have Rz_3 := heap_of (hF1 uW) _ _ _ Rz_2
      have Rb_3 := heap_of (hF1 uW) _ _ _ Rb_2
      obtain ⟨w3, hw⟩ : ∃ V, F uW = V := ⟨_, rfl⟩
      rw [hw] at B3 Rp_3 Rz_3 Rb_3
      try rw [hw]
      clear hw hF1 hF2 B2 fp_0 fp_1 fp_2 fp_3 fp_4 fp_5 fp_6 fp_7 fp_8 fp_9 fp_10 fp_11 fp_12 fp_13 fz_0 fz_1 fb_0 fb_1 Rp_2 cp_2_0 cp_2_1 cp_2_2 cp_2_3 cp_2_4 cp_2_5 cp_2_6 cp_2_7 cp_2_8 cp_2_9 cp_2_10 cp_2_11 cp_2_12 cp_2_13 Rz_2 cz_2_0 cz_2_1 Rb_2 cb_2_0 cb_2_1
      clear F
      obtain ⟨cp_3_0, cp_3_1, cp_3_2, cp_3_3, cp_3_4, cp_3_5, cp_3_6, cp_3_7, cp_3_8, cp_3_9, cp_3_10, cp_3_11, cp_3_12, cp_3_13⟩ := pt_cells Rp_3
      obtain ⟨cz_3_0, cz_3_1⟩ := cell7t Rz_3
      obtain ⟨cb_3_0, cb_3_1⟩ := cell7t Rb_3
      have q0 := fz (k := 0) Rz_3
      have q1 := fz (k := 1) Rz_3
      obtain ⟨E0, E1⟩ := set2_cells Rz_3 (.int .u64 0) (.int .u64 0)
      go_wp2
      exact bodyPost_ret (v := .tuple #[.agg #[.int .u64 0, .int .u64 0], .int .i64 80]) (by simp [results, Tryd.results12, go_sem, E0, E1]) rfl ⟨rfl, set2_below B3 (by first | exact Nat.le_refl _ | omega | (skip; omega)) _ _⟩
    · simp only [Bool.false_eq_true, if_false, if_true]
      obtain ⟨Rp_0, Rz_0, Rb_0, B0⟩ := kopn3 w (Obj.cells (pt c s X rr) 30) (Obj.cells #[.int .u64 0, .int .u64 0] 25) (Obj.cells #[.int .u64 0, .int .u64 0] 25)
      go_enter Tryd.func12, Tryd.ntmps12
      go_wp2_with fail
      refine (KP.out _).mono ?_
      rintro r w' ⟨rfl, hw'⟩
      obtain rfl := hw'.symm
      go_wp2_with fail
      refine (KI.out _).mono ?_
      rintro r w1 ⟨rfl, b1⟩
      have B1 : Below w.heap.size w w1 := btr7 B0 b1
      have Rp_1 := heap_of b1 _ _ _ Rp_0
      have Rz_1 := heap_of b1 _ _ _ Rz_0
      have Rb_1 := heap_of b1 _ _ _ Rb_0
      clear b1 B0 Rp_0 Rz_0 Rb_0
      obtain ⟨cp_1_0, cp_1_1, cp_1_2, cp_1_3, cp_1_4, cp_1_5, cp_1_6, cp_1_7, cp_1_8, cp_1_9, cp_1_10, cp_1_11, cp_1_12, cp_1_13⟩ := pt_cells Rp_1
      obtain ⟨cz_1_0, cz_1_1⟩ := cell7t Rz_1
      obtain ⟨cb_1_0, cb_1_1⟩ := cell7t Rb_1
      have q0_2 := fz (k := 0) Rb_1
      have q1_2 := fz (k := 1) Rb_1
      have B2 := set2_below B1 (show w.heap.size ≤ w.heap.size + 1 + 1 by first | exact Nat.le_refl _ | omega | (skip; omega)) (.int .u64 (u : Nat)) (.int .u64 (v : Nat))
      have Rb_2 : ((w1.setCell ⟨w.heap.size + 1 + 1, 0, none⟩ (.int .u64 (u : Nat))).setCell ⟨w.heap.size + 1 + 1, 1, none⟩ (.int .u64 (v : Nat))).heap[w.heap.size + 1 + 1]? = some (Obj.cells #[.int .u64 (u : Nat), .int .u64 (v : Nat)] 25) := set2_row Rb_1 _ _
      have Rp_2 : ((w1.setCell ⟨w.heap.size + 1 + 1, 0, none⟩ (.int .u64 (u : Nat))).setCell ⟨w.heap.size + 1 + 1, 1, none⟩ (.int .u64 (v : Nat))).heap[w.heap.size]? = some (Obj.cells (pt c s X rr) 30) := (setCell_other (by first | omega | (skip; omega))).trans ((setCell_other (by first | omega | (skip; omega))).trans Rp_1)
      have Rz_2 : ((w1.setCell ⟨w.heap.size + 1 + 1, 0, none⟩ (.int .u64 (u : Nat))).setCell ⟨w.heap.size + 1 + 1, 1, none⟩ (.int .u64 (v : Nat))).heap[w.heap.size + 1]? = some (Obj.cells #[.int .u64 0, .int .u64 0] 25) := (setCell_other (by first | omega | (skip; omega))).trans ((setCell_other (by first | omega | (skip; omega))).trans Rz_1)
      obtain ⟨cp_2_0, cp_2_1, cp_2_2, cp_2_3, cp_2_4, cp_2_5, cp_2_6, cp_2_7, cp_2_8, cp_2_9, cp_2_10, cp_2_11, cp_2_12, cp_2_13⟩ := pt_cells Rp_2
      obtain ⟨cz_2_0, cz_2_1⟩ := cell7t Rz_2
      obtain ⟨cb_2_0, cb_2_1⟩ := cell7t Rb_2
      go_wp2_with fail
      obtain ⟨F, hF1, hF2⟩ := below_fun ((w1.setCell ⟨w.heap.size + 1 + 1, 0, none⟩ (.int .u64 (u : Nat))).setCell ⟨w.heap.size + 1 + 1, 1, none⟩ (.int .u64 (v : Nat)))
      have fp_0 := fun u => cell7 (heap_of (hF1 u) _ _ _ Rp_2) 0 _ rfl
      have fp_1 := fun u => cell7 (heap_of (hF1 u) _ _ _ Rp_2) 1 _ rfl
      have fp_2 := fun u => cell7 (heap_of (hF1 u) _ _ _ Rp_2) 2 _ rfl
      have fp_3 := fun u => cell7 (heap_of (hF1 u) _ _ _ Rp_2) 3 _ rfl
      have fp_4 := fun u => cell7 (heap_of (hF1 u) _ _ _ Rp_2) 4 _ rfl
      have fp_5 := fun u => cell7 (heap_of (hF1 u) _ _ _ Rp_2) 5 _ rfl
      have fp_6 := fun u => cell7 (heap_of (hF1 u) _ _ _ Rp_2) 6 _ rfl
      have fp_7 := fun u => cell7 (heap_of (hF1 u) _ _ _ Rp_2) 7 _ rfl
      have fp_8 := fun u => cell7 (heap_of (hF1 u) _ _ _ Rp_2) 8 _ rfl
      have fp_9 := fun u => cell7 (heap_of (hF1 u) _ _ _ Rp_2) 9 _ rfl
      have fp_10 := fun u => cell7 (heap_of (hF1 u) _ _ _ Rp_2) 10 _ rfl
      have fp_11 := fun u => cell7 (heap_of (hF1 u) _ _ _ Rp_2) 11 _ rfl
      have fp_12 := fun u => cell7 (heap_of (hF1 u) _ _ _ Rp_2) 12 _ rfl
      have fp_13 := fun u => cell7 (heap_of (hF1 u) _ _ _ Rp_2) 13 _ rfl
      have fz_0 := fun u => cell7 (heap_of (hF1 u) _ _ _ Rz_2) 0 _ rfl
      have fz_1 := fun u => cell7 (heap_of (hF1 u) _ _ _ Rz_2) 1 _ rfl
      have fb_0 := fun u => cell7 (heap_of (hF1 u) _ _ _ Rb_2) 0 _ rfl
      have fb_1 := fun u => cell7 (heap_of (hF1 u) _ _ _ Rb_2) 1 _ rfl
      refine wp_region_below F hF2 (by kernel_rfl) (by kernel_rfl) ?_
      repeat first | go_big_quiet_step (first | (go_at_call 8; exact quietF hF1 hF2 (KU.out _)) | fail) | quiet_step (first | (go_at_call 8; exact quietF hF1 hF2 (KU.out _)) | fail)
      refine wpQuiet_nil ?_
      rintro _ ⟨uW, rfl⟩
      have B3 := btr7 B2 (hF1 uW)
      have Rp_3 := heap_of (hF1 uW) _ _ _ Rp_2
      have Rz_3 := heap_of (hF1 uW) _ _ _ Rz_2
      have Rb_3 := heap_of (hF1 uW) _ _ _ Rb_2
      obtain ⟨w3, hw⟩ : ∃ V, F uW = V := ⟨_, rfl⟩
      rw [hw] at B3 Rp_3 Rz_3 Rb_3
      try rw [hw]
      clear hw hF1 hF2 B2 fp_0 fp_1 fp_2 fp_3 fp_4 fp_5 fp_6 fp_7 fp_8 fp_9 fp_10 fp_11 fp_12 fp_13 fz_0 fz_1 fb_0 fb_1 Rp_2 cp_2_0 cp_2_1 cp_2_2 cp_2_3 cp_2_4 cp_2_5 cp_2_6 cp_2_7 cp_2_8 cp_2_9 cp_2_10 cp_2_11 cp_2_12 cp_2_13 Rz_2 cz_2_0 cz_2_1 Rb_2 cb_2_0 cb_2_1
      clear F
      obtain ⟨cp_3_0, cp_3_1, cp_3_2, cp_3_3, cp_3_4, cp_3_5, cp_3_6, cp_3_7, cp_3_8, cp_3_9, cp_3_10, cp_3_11, cp_3_12, cp_3_13⟩ := pt_cells Rp_3
      obtain ⟨cz_3_0, cz_3_1⟩ := cell7t Rz_3
      obtain ⟨cb_3_0, cb_3_1⟩ := cell7t Rb_3
      have q0 := fz (k := 0) Rz_3
      have q1 := fz (k := 1) Rz_3
      obtain ⟨E0, E1⟩ := set2_cells Rz_3 (.int .u64 (u : Nat)) (.int .u64 (v : Nat))
      go_wp2
      exact bodyPost_ret (v := .tuple #[.agg #[.int .u64 (u : Nat), .int .u64 (v : Nat)], .int .i64 0]) (by simp [results, Tryd.results12, go_sem, E0, E1]) rfl ⟨rfl, set2_below B3 (by first | exact Nat.le_refl _ | omega | (skip; omega)) _ _⟩
set_option maxRecDepth 100000 in
set_option maxHeartbeats 2000000 in
theorem rpack_i7 (f q X Y : Int) (c s rr u v C S R : Nat) (E : Bool) (w : World)
    (KP : Box (∀ w, Calls Tryd.prog 20 #[.int .u8 f] w fun r w' => r = .returned (.int .i64 q) ∧ w' = w))
    (KU : Box (∀ w, Calls Tryd.prog 8 #[.int .u8 f, .agg #[.int .u64 (u : Nat), .int .u64 (v : Nat)]] w fun r w' => r = .returned (.agg (pt C S Y R)) ∧ Below w.heap.size w w'))
    (ls : S < Q) (lr : R < Q) (hs : s < Q) (hr : rr < Q) (hE : (decide (C = c) && (decide (S = s) && (decide (Y = X) && decide (R = rr)))) = E)
    (KI : Box (∀ w, Calls Tryd.prog 29 #[.int .u8 f, .bool false] w fun r w' => r = .returned (.agg #[.int .u64 (u : Nat), .int .u64 (v : Nat)]) ∧ Below w.heap.size w w'))
    (hc : c = 7) : Calls Tryd.prog 12 #[.int .u8 f, .agg (pt c s X rr)] w fun r w' => r = .returned (.tuple #[.agg #[.int .u64 (if E then (u : Int) else 0), .int .u64 (if E then (v : Int) else 0)], .int .i64 (if E then 0 else 80)]) ∧ Below w.heap.size w w' := by
  have hat := cw_at 6
  have hz := cw6z
  have hff := cw6f
  have hs0 := st0
  have hcs : ∀ x, ((cw 6 x).size = 6) = True := fun x => eq_true (cw_size 6 x)
  have hp1 := ptf
  have hp3 := ptz
  have hp4 := st_p0
  have hp5 : ∀ (c s : Nat) (x : Int) (r : Nat), ((pt c s x r).size = 14) = True := fun _ _ _ _ => eq_true rfl
  have heq := eqp
  have hg := eqgp
  have ha0 := pt_at0
  have ha1 := pt_at1
  have ha2 := pt_at2
  have ha3 := pt_at3
  have ha4 := pt_at4
  have ha5 := pt_at5
  have ha6 := pt_at6
  have ha7 := pt_at7
  have ha8 := pt_at8
  have ha9 := pt_at9
  have ha10 := pt_at10
  have ha11 := pt_at11
  have ha12 := pt_at12
  have ha13 := pt_at13
  have hb0 := pt_q0
  have hb1 := pt_q1
  have hb2 := pt_q2
  have hb3 := pt_q3
  have hb4 := pt_q4
  have hb5 := pt_q5
  have hb6 := pt_q6
  have hb7 := pt_q7
  have hb8 := pt_q8
  have hb9 := pt_q9
  have hb10 := pt_q10
  have hb11 := pt_q11
  have hb12 := pt_q12
  have hb13 := pt_q13
  · have f0 : ((c : Int) == 0) = false := by rw [hc]; rfl
    have f7 : ((c : Int) == 7) = true := by rw [hc]; rfl
    clear hc
    cases E
    · simp only [Bool.false_eq_true, if_false, if_true]
      obtain ⟨Rp_0, Rz_0, Rb_0, B0⟩ := kopn3 w (Obj.cells (pt c s X rr) 30) (Obj.cells #[.int .u64 0, .int .u64 0] 25) (Obj.cells #[.int .u64 0, .int .u64 0] 25)
      go_enter Tryd.func12, Tryd.ntmps12
      go_wp2_with fail
      refine (KP.out _).mono ?_
      rintro r w' ⟨rfl, hw'⟩
      obtain rfl := hw'.symm
      go_wp2_with fail
      refine (KI.out _).mono ?_
      rintro r w1 ⟨rfl, b1⟩
      have B1 : Below w.heap.size w w1 := btr7 B0 b1
      have Rp_1 := heap_of b1 _ _ _ Rp_0
      have Rz_1 := heap_of b1 _ _ _ Rz_0
      have Rb_1 := heap_of b1 _ _ _ Rb_0
      clear b1 B0 Rp_0 Rz_0 Rb_0
      obtain ⟨cp_1_0, cp_1_1, cp_1_2, cp_1_3, cp_1_4, cp_1_5, cp_1_6, cp_1_7, cp_1_8, cp_1_9, cp_1_10, cp_1_11, cp_1_12, cp_1_13⟩ := pt_cells Rp_1
      obtain ⟨cz_1_0, cz_1_1⟩ := cell7t Rz_1
      obtain ⟨cb_1_0, cb_1_1⟩ := cell7t Rb_1
      have q0_2 := fz (k := 0) Rb_1
      have q1_2 := fz (k := 1) Rb_1
      have B2 := set2_below B1 (show w.heap.size ≤ w.heap.size + 1 + 1 by first | exact Nat.le_refl _ | omega | (skip; omega)) (.int .u64 (u : Nat)) (.int .u64 (v : Nat))
      have Rb_2 : ((w1.setCell ⟨w.heap.size + 1 + 1, 0, none⟩ (.int .u64 (u : Nat))).setCell ⟨w.heap.size + 1 + 1, 1, none⟩ (.int .u64 (v : Nat))).heap[w.heap.size + 1 + 1]? = some (Obj.cells #[.int .u64 (u : Nat), .int .u64 (v : Nat)] 25) := set2_row Rb_1 _ _
      have Rp_2 : ((w1.setCell ⟨w.heap.size + 1 + 1, 0, none⟩ (.int .u64 (u : Nat))).setCell ⟨w.heap.size + 1 + 1, 1, none⟩ (.int .u64 (v : Nat))).heap[w.heap.size]? = some (Obj.cells (pt c s X rr) 30) := (setCell_other (by first | omega | (skip; omega))).trans ((setCell_other (by first | omega | (skip; omega))).trans Rp_1)
      have Rz_2 : ((w1.setCell ⟨w.heap.size + 1 + 1, 0, none⟩ (.int .u64 (u : Nat))).setCell ⟨w.heap.size + 1 + 1, 1, none⟩ (.int .u64 (v : Nat))).heap[w.heap.size + 1]? = some (Obj.cells #[.int .u64 0, .int .u64 0] 25) := (setCell_other (by first | omega | (skip; omega))).trans ((setCell_other (by first | omega | (skip; omega))).trans Rz_1)
      obtain ⟨cp_2_0, cp_2_1, cp_2_2, cp_2_3, cp_2_4, cp_2_5, cp_2_6, cp_2_7, cp_2_8, cp_2_9, cp_2_10, cp_2_11, cp_2_12, cp_2_13⟩ := pt_cells Rp_2
      obtain ⟨cz_2_0, cz_2_1⟩ := cell7t Rz_2
      obtain ⟨cb_2_0, cb_2_1⟩ := cell7t Rb_2
      go_wp2_with fail
      obtain ⟨F, hF1, hF2⟩ := below_fun ((w1.setCell ⟨w.heap.size + 1 + 1, 0, none⟩ (.int .u64 (u : Nat))).setCell ⟨w.heap.size + 1 + 1, 1, none⟩ (.int .u64 (v : Nat)))
      have fp_0 := fun u => cell7 (heap_of (hF1 u) _ _ _ Rp_2) 0 _ rfl
      have fp_1 := fun u => cell7 (heap_of (hF1 u) _ _ _ Rp_2) 1 _ rfl
      have fp_2 := fun u => cell7 (heap_of (hF1 u) _ _ _ Rp_2) 2 _ rfl
      have fp_3 := fun u => cell7 (heap_of (hF1 u) _ _ _ Rp_2) 3 _ rfl
      have fp_4 := fun u => cell7 (heap_of (hF1 u) _ _ _ Rp_2) 4 _ rfl
      have fp_5 := fun u => cell7 (heap_of (hF1 u) _ _ _ Rp_2) 5 _ rfl
      have fp_6 := fun u => cell7 (heap_of (hF1 u) _ _ _ Rp_2) 6 _ rfl
      have fp_7 := fun u => cell7 (heap_of (hF1 u) _ _ _ Rp_2) 7 _ rfl
      have fp_8 := fun u => cell7 (heap_of (hF1 u) _ _ _ Rp_2) 8 _ rfl
      have fp_9 := fun u => cell7 (heap_of (hF1 u) _ _ _ Rp_2) 9 _ rfl
      have fp_10 := fun u => cell7 (heap_of (hF1 u) _ _ _ Rp_2) 10 _ rfl
      have fp_11 := fun u => cell7 (heap_of (hF1 u) _ _ _ Rp_2) 11 _ rfl
      have fp_12 := fun u => cell7 (heap_of (hF1 u) _ _ _ Rp_2) 12 _ rfl
      have fp_13 := fun u => cell7 (heap_of (hF1 u) _ _ _ Rp_2) 13 _ rfl
      have fz_0 := fun u => cell7 (heap_of (hF1 u) _ _ _ Rz_2) 0 _ rfl
      have fz_1 := fun u => cell7 (heap_of (hF1 u) _ _ _ Rz_2) 1 _ rfl
      have fb_0 := fun u => cell7 (heap_of (hF1 u) _ _ _ Rb_2) 0 _ rfl
      have fb_1 := fun u => cell7 (heap_of (hF1 u) _ _ _ Rb_2) 1 _ rfl
      refine wp_region_below F hF2 (by kernel_rfl) (by kernel_rfl) ?_
      repeat first | go_big_quiet_step (first | (go_at_call 8; exact quietF hF1 hF2 (KU.out _)) | fail) | quiet_step (first | (go_at_call 8; exact quietF hF1 hF2 (KU.out _)) | fail)
      refine wpQuiet_nil ?_
      rintro _ ⟨uW, rfl⟩
      have B3 := btr7 B2 (hF1 uW)
      have Rp_3 := heap_of (hF1 uW) _ _ _ Rp_2
      have Rz_3 := heap_of (hF1 uW) _ _ _ Rz_2
      have Rb_3 := heap_of (hF1 uW) _ _ _ Rb_2
      obtain ⟨w3, hw⟩ : ∃ V, F uW = V := ⟨_, rfl⟩
      rw [hw] at B3 Rp_3 Rz_3 Rb_3
      try rw [hw]
      clear hw hF1 hF2 B2 fp_0 fp_1 fp_2 fp_3 fp_4 fp_5 fp_6 fp_7 fp_8 fp_9 fp_10 fp_11 fp_12 fp_13 fz_0 fz_1 fb_0 fb_1 Rp_2 cp_2_0 cp_2_1 cp_2_2 cp_2_3 cp_2_4 cp_2_5 cp_2_6 cp_2_7 cp_2_8 cp_2_9 cp_2_10 cp_2_11 cp_2_12 cp_2_13 Rz_2 cz_2_0 cz_2_1 Rb_2 cb_2_0 cb_2_1
      clear F
      obtain ⟨cp_3_0, cp_3_1, cp_3_2, cp_3_3, cp_3_4, cp_3_5, cp_3_6, cp_3_7, cp_3_8, cp_3_9, cp_3_10, cp_3_11, cp_3_12, cp_3_13⟩ := pt_cells Rp_3
      obtain ⟨cz_3_0, cz_3_1⟩ := cell7t Rz_3
      obtain ⟨cb_3_0, cb_3_1⟩ := cell7t Rb_3
      have q0 := fz (k := 0) Rz_3
      have q1 := fz (k := 1) Rz_3
      obtain ⟨E0, E1⟩ := set2_cells Rz_3 (.int .u64 0) (.int .u64 0)
      go_wp2
      exact bodyPost_ret (v := .tuple #[.agg #[.int .u64 0, .int .u64 0], .int .i64 80]) (by simp [results, Tryd.results12, go_sem, E0, E1]) rfl ⟨rfl, set2_below B3 (by first | exact Nat.le_refl _ | omega | (skip; omega)) _ _⟩
    · simp only [Bool.false_eq_true, if_false, if_true]
      obtain ⟨Rp_0, Rz_0, Rb_0, B0⟩ := kopn3 w (Obj.cells (pt c s X rr) 30) (Obj.cells #[.int .u64 0, .int .u64 0] 25) (Obj.cells #[.int .u64 0, .int .u64 0] 25)
      go_enter Tryd.func12, Tryd.ntmps12
      go_wp2_with fail
      refine (KP.out _).mono ?_
      rintro r w' ⟨rfl, hw'⟩
      obtain rfl := hw'.symm
      go_wp2_with fail
      refine (KI.out _).mono ?_
      rintro r w1 ⟨rfl, b1⟩
      have B1 : Below w.heap.size w w1 := btr7 B0 b1
      have Rp_1 := heap_of b1 _ _ _ Rp_0
      have Rz_1 := heap_of b1 _ _ _ Rz_0
      have Rb_1 := heap_of b1 _ _ _ Rb_0
      clear b1 B0 Rp_0 Rz_0 Rb_0
      obtain ⟨cp_1_0, cp_1_1, cp_1_2, cp_1_3, cp_1_4, cp_1_5, cp_1_6, cp_1_7, cp_1_8, cp_1_9, cp_1_10, cp_1_11, cp_1_12, cp_1_13⟩ := pt_cells Rp_1
      obtain ⟨cz_1_0, cz_1_1⟩ := cell7t Rz_1
      obtain ⟨cb_1_0, cb_1_1⟩ := cell7t Rb_1
      have q0_2 := fz (k := 0) Rb_1
      have q1_2 := fz (k := 1) Rb_1
      have B2 := set2_below B1 (show w.heap.size ≤ w.heap.size + 1 + 1 by first | exact Nat.le_refl _ | omega | (skip; omega)) (.int .u64 (u : Nat)) (.int .u64 (v : Nat))
      have Rb_2 : ((w1.setCell ⟨w.heap.size + 1 + 1, 0, none⟩ (.int .u64 (u : Nat))).setCell ⟨w.heap.size + 1 + 1, 1, none⟩ (.int .u64 (v : Nat))).heap[w.heap.size + 1 + 1]? = some (Obj.cells #[.int .u64 (u : Nat), .int .u64 (v : Nat)] 25) := set2_row Rb_1 _ _
      have Rp_2 : ((w1.setCell ⟨w.heap.size + 1 + 1, 0, none⟩ (.int .u64 (u : Nat))).setCell ⟨w.heap.size + 1 + 1, 1, none⟩ (.int .u64 (v : Nat))).heap[w.heap.size]? = some (Obj.cells (pt c s X rr) 30) := (setCell_other (by first | omega | (skip; omega))).trans ((setCell_other (by first | omega | (skip; omega))).trans Rp_1)
      have Rz_2 : ((w1.setCell ⟨w.heap.size + 1 + 1, 0, none⟩ (.int .u64 (u : Nat))).setCell ⟨w.heap.size + 1 + 1, 1, none⟩ (.int .u64 (v : Nat))).heap[w.heap.size + 1]? = some (Obj.cells #[.int .u64 0, .int .u64 0] 25) := (setCell_other (by first | omega | (skip; omega))).trans ((setCell_other (by first | omega | (skip; omega))).trans Rz_1)
      obtain ⟨cp_2_0, cp_2_1, cp_2_2, cp_2_3, cp_2_4, cp_2_5, cp_2_6, cp_2_7, cp_2_8, cp_2_9, cp_2_10, cp_2_11, cp_2_12, cp_2_13⟩ := pt_cells Rp_2
      obtain ⟨cz_2_0, cz_2_1⟩ := cell7t Rz_2
      obtain ⟨cb_2_0, cb_2_1⟩ := cell7t Rb_2
      go_wp2_with fail
      obtain ⟨F, hF1, hF2⟩ := below_fun ((w1.setCell ⟨w.heap.size + 1 + 1, 0, none⟩ (.int .u64 (u : Nat))).setCell ⟨w.heap.size + 1 + 1, 1, none⟩ (.int .u64 (v : Nat)))
      have fp_0 := fun u => cell7 (heap_of (hF1 u) _ _ _ Rp_2) 0 _ rfl
      have fp_1 := fun u => cell7 (heap_of (hF1 u) _ _ _ Rp_2) 1 _ rfl
      have fp_2 := fun u => cell7 (heap_of (hF1 u) _ _ _ Rp_2) 2 _ rfl
      have fp_3 := fun u => cell7 (heap_of (hF1 u) _ _ _ Rp_2) 3 _ rfl
      have fp_4 := fun u => cell7 (heap_of (hF1 u) _ _ _ Rp_2) 4 _ rfl
      have fp_5 := fun u => cell7 (heap_of (hF1 u) _ _ _ Rp_2) 5 _ rfl
      have fp_6 := fun u => cell7 (heap_of (hF1 u) _ _ _ Rp_2) 6 _ rfl
      have fp_7 := fun u => cell7 (heap_of (hF1 u) _ _ _ Rp_2) 7 _ rfl
      have fp_8 := fun u => cell7 (heap_of (hF1 u) _ _ _ Rp_2) 8 _ rfl
      have fp_9 := fun u => cell7 (heap_of (hF1 u) _ _ _ Rp_2) 9 _ rfl
      have fp_10 := fun u => cell7 (heap_of (hF1 u) _ _ _ Rp_2) 10 _ rfl
      have fp_11 := fun u => cell7 (heap_of (hF1 u) _ _ _ Rp_2) 11 _ rfl
      have fp_12 := fun u => cell7 (heap_of (hF1 u) _ _ _ Rp_2) 12 _ rfl
      have fp_13 := fun u => cell7 (heap_of (hF1 u) _ _ _ Rp_2) 13 _ rfl
      have fz_0 := fun u => cell7 (heap_of (hF1 u) _ _ _ Rz_2) 0 _ rfl
      have fz_1 := fun u => cell7 (heap_of (hF1 u) _ _ _ Rz_2) 1 _ rfl
      have fb_0 := fun u => cell7 (heap_of (hF1 u) _ _ _ Rb_2) 0 _ rfl
      have fb_1 := fun u => cell7 (heap_of (hF1 u) _ _ _ Rb_2) 1 _ rfl
      refine wp_region_below F hF2 (by kernel_rfl) (by kernel_rfl) ?_
      repeat first | go_big_quiet_step (first | (go_at_call 8; exact quietF hF1 hF2 (KU.out _)) | fail) | quiet_step (first | (go_at_call 8; exact quietF hF1 hF2 (KU.out _)) | fail)
      refine wpQuiet_nil ?_
      rintro _ ⟨uW, rfl⟩
      have B3 := btr7 B2 (hF1 uW)
      have Rp_3 := heap_of (hF1 uW) _ _ _ Rp_2
      have Rz_3 := heap_of (hF1 uW) _ _ _ Rz_2
      have Rb_3 := heap_of (hF1 uW) _ _ _ Rb_2
      obtain ⟨w3, hw⟩ : ∃ V, F uW = V := ⟨_, rfl⟩
      rw [hw] at B3 Rp_3 Rz_3 Rb_3
      try rw [hw]
      clear hw hF1 hF2 B2 fp_0 fp_1 fp_2 fp_3 fp_4 fp_5 fp_6 fp_7 fp_8 fp_9 fp_10 fp_11 fp_12 fp_13 fz_0 fz_1 fb_0 fb_1 Rp_2 cp_2_0 cp_2_1 cp_2_2 cp_2_3 cp_2_4 cp_2_5 cp_2_6 cp_2_7 cp_2_8 cp_2_9 cp_2_10 cp_2_11 cp_2_12 cp_2_13 Rz_2 cz_2_0 cz_2_1 Rb_2 cb_2_0 cb_2_1
      clear F
      obtain ⟨cp_3_0, cp_3_1, cp_3_2, cp_3_3, cp_3_4, cp_3_5, cp_3_6, cp_3_7, cp_3_8, cp_3_9, cp_3_10, cp_3_11, cp_3_12, cp_3_13⟩ := pt_cells Rp_3
      obtain ⟨cz_3_0, cz_3_1⟩ := cell7t Rz_3
      obtain ⟨cb_3_0, cb_3_1⟩ := cell7t Rb_3
      have q0 := fz (k := 0) Rz_3
      have q1 := fz (k := 1) Rz_3
      obtain ⟨E0, E1⟩ := set2_cells Rz_3 (.int .u64 (u : Nat)) (.int .u64 (v : Nat))
      go_wp2
      exact bodyPost_ret (v := .tuple #[.agg #[.int .u64 (u : Nat), .int .u64 (v : Nat)], .int .i64 0]) (by simp [results, Tryd.results12, go_sem, E0, E1]) rfl ⟨rfl, set2_below B3 (by first | exact Nat.le_refl _ | omega | (skip; omega)) _ _⟩
set_option maxRecDepth 100000 in
set_option maxHeartbeats 2000000 in
theorem rpack_z3 (f q X Y : Int) (c s rr u v C S R : Nat) (E : Bool) (w : World)
    (KP : Box (∀ w, Calls Tryd.prog 20 #[.int .u8 f] w fun r w' => r = .returned (.int .i64 q) ∧ w' = w))
    (KU : Box (∀ w, Calls Tryd.prog 8 #[.int .u8 f, .agg #[.int .u64 (u : Nat), .int .u64 (v : Nat)]] w fun r w' => r = .returned (.agg (pt C S Y R)) ∧ Below w.heap.size w w'))
    (ls : S < Q) (lr : R < Q) (hs : s < Q) (hr : rr < Q) (hE : (decide (C = c) && (decide (S = s) && (decide (Y = X) && decide (R = rr)))) = E)
    (KI : Box (∀ w, Calls Tryd.prog 30 #[.int .u8 f, .bool true] w fun r w' => r = .returned (.agg #[.int .u64 (u : Nat), .int .u64 (v : Nat)]) ∧ Below w.heap.size w w'))
    (hc : c = 3) : Calls Tryd.prog 12 #[.int .u8 f, .agg (pt c s X rr)] w fun r w' => r = .returned (.tuple #[.agg #[.int .u64 (if E then (u : Int) else 0), .int .u64 (if E then (v : Int) else 0)], .int .i64 (if E then 0 else 80)]) ∧ Below w.heap.size w w' := by
  have hat := cw_at 6
  have hz := cw6z
  have hff := cw6f
  have hs0 := st0
  have hcs : ∀ x, ((cw 6 x).size = 6) = True := fun x => eq_true (cw_size 6 x)
  have hp1 := ptf
  have hp3 := ptz
  have hp4 := st_p0
  have hp5 : ∀ (c s : Nat) (x : Int) (r : Nat), ((pt c s x r).size = 14) = True := fun _ _ _ _ => eq_true rfl
  have heq := eqp
  have hg := eqgp
  have ha0 := pt_at0
  have ha1 := pt_at1
  have ha2 := pt_at2
  have ha3 := pt_at3
  have ha4 := pt_at4
  have ha5 := pt_at5
  have ha6 := pt_at6
  have ha7 := pt_at7
  have ha8 := pt_at8
  have ha9 := pt_at9
  have ha10 := pt_at10
  have ha11 := pt_at11
  have ha12 := pt_at12
  have ha13 := pt_at13
  have hb0 := pt_q0
  have hb1 := pt_q1
  have hb2 := pt_q2
  have hb3 := pt_q3
  have hb4 := pt_q4
  have hb5 := pt_q5
  have hb6 := pt_q6
  have hb7 := pt_q7
  have hb8 := pt_q8
  have hb9 := pt_q9
  have hb10 := pt_q10
  have hb11 := pt_q11
  have hb12 := pt_q12
  have hb13 := pt_q13
  · have f0 : ((c : Int) == 0) = false := by rw [hc]; rfl
    have f7 : ((c : Int) == 7) = false := by rw [hc]; rfl
    have f3 : ((c : Int) == 3) = true := by rw [hc]; rfl
    clear hc
    cases E
    · simp only [Bool.false_eq_true, if_false, if_true]
      obtain ⟨Rp_0, Rz_0, Rb_0, B0⟩ := kopn3 w (Obj.cells (pt c s X rr) 30) (Obj.cells #[.int .u64 0, .int .u64 0] 25) (Obj.cells #[.int .u64 0, .int .u64 0] 25)
      go_enter Tryd.func12, Tryd.ntmps12
      go_wp2_with fail
      refine (KP.out _).mono ?_
      rintro r w' ⟨rfl, hw'⟩
      obtain rfl := hw'.symm
      go_wp2_with fail
      refine (KI.out _).mono ?_
      rintro r w1 ⟨rfl, b1⟩
      have B1 : Below w.heap.size w w1 := btr7 B0 b1
      have Rp_1 := heap_of b1 _ _ _ Rp_0
      have Rz_1 := heap_of b1 _ _ _ Rz_0
      have Rb_1 := heap_of b1 _ _ _ Rb_0
      clear b1 B0 Rp_0 Rz_0 Rb_0
      obtain ⟨cp_1_0, cp_1_1, cp_1_2, cp_1_3, cp_1_4, cp_1_5, cp_1_6, cp_1_7, cp_1_8, cp_1_9, cp_1_10, cp_1_11, cp_1_12, cp_1_13⟩ := pt_cells Rp_1
      obtain ⟨cz_1_0, cz_1_1⟩ := cell7t Rz_1
      obtain ⟨cb_1_0, cb_1_1⟩ := cell7t Rb_1
      have q0_2 := fz (k := 0) Rb_1
      have q1_2 := fz (k := 1) Rb_1
      have B2 := set2_below B1 (show w.heap.size ≤ w.heap.size + 1 + 1 by first | exact Nat.le_refl _ | omega | (skip; omega)) (.int .u64 (u : Nat)) (.int .u64 (v : Nat))
      have Rb_2 : ((w1.setCell ⟨w.heap.size + 1 + 1, 0, none⟩ (.int .u64 (u : Nat))).setCell ⟨w.heap.size + 1 + 1, 1, none⟩ (.int .u64 (v : Nat))).heap[w.heap.size + 1 + 1]? = some (Obj.cells #[.int .u64 (u : Nat), .int .u64 (v : Nat)] 25) := set2_row Rb_1 _ _
      have Rp_2 : ((w1.setCell ⟨w.heap.size + 1 + 1, 0, none⟩ (.int .u64 (u : Nat))).setCell ⟨w.heap.size + 1 + 1, 1, none⟩ (.int .u64 (v : Nat))).heap[w.heap.size]? = some (Obj.cells (pt c s X rr) 30) := (setCell_other (by first | omega | (skip; omega))).trans ((setCell_other (by first | omega | (skip; omega))).trans Rp_1)
      have Rz_2 : ((w1.setCell ⟨w.heap.size + 1 + 1, 0, none⟩ (.int .u64 (u : Nat))).setCell ⟨w.heap.size + 1 + 1, 1, none⟩ (.int .u64 (v : Nat))).heap[w.heap.size + 1]? = some (Obj.cells #[.int .u64 0, .int .u64 0] 25) := (setCell_other (by first | omega | (skip; omega))).trans ((setCell_other (by first | omega | (skip; omega))).trans Rz_1)
      obtain ⟨cp_2_0, cp_2_1, cp_2_2, cp_2_3, cp_2_4, cp_2_5, cp_2_6, cp_2_7, cp_2_8, cp_2_9, cp_2_10, cp_2_11, cp_2_12, cp_2_13⟩ := pt_cells Rp_2
      obtain ⟨cz_2_0, cz_2_1⟩ := cell7t Rz_2
      obtain ⟨cb_2_0, cb_2_1⟩ := cell7t Rb_2
      go_wp2_with fail
      obtain ⟨F, hF1, hF2⟩ := below_fun ((w1.setCell ⟨w.heap.size + 1 + 1, 0, none⟩ (.int .u64 (u : Nat))).setCell ⟨w.heap.size + 1 + 1, 1, none⟩ (.int .u64 (v : Nat)))
      have fp_0 := fun u => cell7 (heap_of (hF1 u) _ _ _ Rp_2) 0 _ rfl
      have fp_1 := fun u => cell7 (heap_of (hF1 u) _ _ _ Rp_2) 1 _ rfl
      have fp_2 := fun u => cell7 (heap_of (hF1 u) _ _ _ Rp_2) 2 _ rfl
      have fp_3 := fun u => cell7 (heap_of (hF1 u) _ _ _ Rp_2) 3 _ rfl
      have fp_4 := fun u => cell7 (heap_of (hF1 u) _ _ _ Rp_2) 4 _ rfl
      have fp_5 := fun u => cell7 (heap_of (hF1 u) _ _ _ Rp_2) 5 _ rfl
      have fp_6 := fun u => cell7 (heap_of (hF1 u) _ _ _ Rp_2) 6 _ rfl
      have fp_7 := fun u => cell7 (heap_of (hF1 u) _ _ _ Rp_2) 7 _ rfl
      have fp_8 := fun u => cell7 (heap_of (hF1 u) _ _ _ Rp_2) 8 _ rfl
      have fp_9 := fun u => cell7 (heap_of (hF1 u) _ _ _ Rp_2) 9 _ rfl
      have fp_10 := fun u => cell7 (heap_of (hF1 u) _ _ _ Rp_2) 10 _ rfl
      have fp_11 := fun u => cell7 (heap_of (hF1 u) _ _ _ Rp_2) 11 _ rfl
      have fp_12 := fun u => cell7 (heap_of (hF1 u) _ _ _ Rp_2) 12 _ rfl
      have fp_13 := fun u => cell7 (heap_of (hF1 u) _ _ _ Rp_2) 13 _ rfl
      have fz_0 := fun u => cell7 (heap_of (hF1 u) _ _ _ Rz_2) 0 _ rfl
      have fz_1 := fun u => cell7 (heap_of (hF1 u) _ _ _ Rz_2) 1 _ rfl
      have fb_0 := fun u => cell7 (heap_of (hF1 u) _ _ _ Rb_2) 0 _ rfl
      have fb_1 := fun u => cell7 (heap_of (hF1 u) _ _ _ Rb_2) 1 _ rfl
      refine wp_region_below F hF2 (by kernel_rfl) (by kernel_rfl) ?_
      repeat first | go_big_quiet_step (first | (go_at_call 8; exact quietF hF1 hF2 (KU.out _)) | fail) | quiet_step (first | (go_at_call 8; exact quietF hF1 hF2 (KU.out _)) | fail)
      refine wpQuiet_nil ?_
      rintro _ ⟨uW, rfl⟩
      have B3 := btr7 B2 (hF1 uW)
      have Rp_3 := heap_of (hF1 uW) _ _ _ Rp_2
      have Rz_3 := heap_of (hF1 uW) _ _ _ Rz_2
      have Rb_3 := heap_of (hF1 uW) _ _ _ Rb_2
      obtain ⟨w3, hw⟩ : ∃ V, F uW = V := ⟨_, rfl⟩
      rw [hw] at B3 Rp_3 Rz_3 Rb_3
      try rw [hw]
      clear hw hF1 hF2 B2 fp_0 fp_1 fp_2 fp_3 fp_4 fp_5 fp_6 fp_7 fp_8 fp_9 fp_10 fp_11 fp_12 fp_13 fz_0 fz_1 fb_0 fb_1 Rp_2 cp_2_0 cp_2_1 cp_2_2 cp_2_3 cp_2_4 cp_2_5 cp_2_6 cp_2_7 cp_2_8 cp_2_9 cp_2_10 cp_2_11 cp_2_12 cp_2_13 Rz_2 cz_2_0 cz_2_1 Rb_2 cb_2_0 cb_2_1
      clear F
      obtain ⟨cp_3_0, cp_3_1, cp_3_2, cp_3_3, cp_3_4, cp_3_5, cp_3_6, cp_3_7, cp_3_8, cp_3_9, cp_3_10, cp_3_11, cp_3_12, cp_3_13⟩ := pt_cells Rp_3
      obtain ⟨cz_3_0, cz_3_1⟩ := cell7t Rz_3
      obtain ⟨cb_3_0, cb_3_1⟩ := cell7t Rb_3
      have q0 := fz (k := 0) Rz_3
      have q1 := fz (k := 1) Rz_3
      obtain ⟨E0, E1⟩ := set2_cells Rz_3 (.int .u64 0) (.int .u64 0)
      go_wp2
      exact bodyPost_ret (v := .tuple #[.agg #[.int .u64 0, .int .u64 0], .int .i64 80]) (by simp [results, Tryd.results12, go_sem, E0, E1]) rfl ⟨rfl, set2_below B3 (by first | exact Nat.le_refl _ | omega | (skip; omega)) _ _⟩
    · simp only [Bool.false_eq_true, if_false, if_true]
      obtain ⟨Rp_0, Rz_0, Rb_0, B0⟩ := kopn3 w (Obj.cells (pt c s X rr) 30) (Obj.cells #[.int .u64 0, .int .u64 0] 25) (Obj.cells #[.int .u64 0, .int .u64 0] 25)
      go_enter Tryd.func12, Tryd.ntmps12
      go_wp2_with fail
      refine (KP.out _).mono ?_
      rintro r w' ⟨rfl, hw'⟩
      obtain rfl := hw'.symm
      go_wp2_with fail
      refine (KI.out _).mono ?_
      rintro r w1 ⟨rfl, b1⟩
      have B1 : Below w.heap.size w w1 := btr7 B0 b1
      have Rp_1 := heap_of b1 _ _ _ Rp_0
      have Rz_1 := heap_of b1 _ _ _ Rz_0
      have Rb_1 := heap_of b1 _ _ _ Rb_0
      clear b1 B0 Rp_0 Rz_0 Rb_0
      obtain ⟨cp_1_0, cp_1_1, cp_1_2, cp_1_3, cp_1_4, cp_1_5, cp_1_6, cp_1_7, cp_1_8, cp_1_9, cp_1_10, cp_1_11, cp_1_12, cp_1_13⟩ := pt_cells Rp_1
      obtain ⟨cz_1_0, cz_1_1⟩ := cell7t Rz_1
      obtain ⟨cb_1_0, cb_1_1⟩ := cell7t Rb_1
      have q0_2 := fz (k := 0) Rb_1
      have q1_2 := fz (k := 1) Rb_1
      have B2 := set2_below B1 (show w.heap.size ≤ w.heap.size + 1 + 1 by first | exact Nat.le_refl _ | omega | (skip; omega)) (.int .u64 (u : Nat)) (.int .u64 (v : Nat))
      have Rb_2 : ((w1.setCell ⟨w.heap.size + 1 + 1, 0, none⟩ (.int .u64 (u : Nat))).setCell ⟨w.heap.size + 1 + 1, 1, none⟩ (.int .u64 (v : Nat))).heap[w.heap.size + 1 + 1]? = some (Obj.cells #[.int .u64 (u : Nat), .int .u64 (v : Nat)] 25) := set2_row Rb_1 _ _
      have Rp_2 : ((w1.setCell ⟨w.heap.size + 1 + 1, 0, none⟩ (.int .u64 (u : Nat))).setCell ⟨w.heap.size + 1 + 1, 1, none⟩ (.int .u64 (v : Nat))).heap[w.heap.size]? = some (Obj.cells (pt c s X rr) 30) := (setCell_other (by first | omega | (skip; omega))).trans ((setCell_other (by first | omega | (skip; omega))).trans Rp_1)
      have Rz_2 : ((w1.setCell ⟨w.heap.size + 1 + 1, 0, none⟩ (.int .u64 (u : Nat))).setCell ⟨w.heap.size + 1 + 1, 1, none⟩ (.int .u64 (v : Nat))).heap[w.heap.size + 1]? = some (Obj.cells #[.int .u64 0, .int .u64 0] 25) := (setCell_other (by first | omega | (skip; omega))).trans ((setCell_other (by first | omega | (skip; omega))).trans Rz_1)
      obtain ⟨cp_2_0, cp_2_1, cp_2_2, cp_2_3, cp_2_4, cp_2_5, cp_2_6, cp_2_7, cp_2_8, cp_2_9, cp_2_10, cp_2_11, cp_2_12, cp_2_13⟩ := pt_cells Rp_2
      obtain ⟨cz_2_0, cz_2_1⟩ := cell7t Rz_2
      obtain ⟨cb_2_0, cb_2_1⟩ := cell7t Rb_2
      go_wp2_with fail
      obtain ⟨F, hF1, hF2⟩ := below_fun ((w1.setCell ⟨w.heap.size + 1 + 1, 0, none⟩ (.int .u64 (u : Nat))).setCell ⟨w.heap.size + 1 + 1, 1, none⟩ (.int .u64 (v : Nat)))
      have fp_0 := fun u => cell7 (heap_of (hF1 u) _ _ _ Rp_2) 0 _ rfl
      have fp_1 := fun u => cell7 (heap_of (hF1 u) _ _ _ Rp_2) 1 _ rfl
      have fp_2 := fun u => cell7 (heap_of (hF1 u) _ _ _ Rp_2) 2 _ rfl
      have fp_3 := fun u => cell7 (heap_of (hF1 u) _ _ _ Rp_2) 3 _ rfl
      have fp_4 := fun u => cell7 (heap_of (hF1 u) _ _ _ Rp_2) 4 _ rfl
      have fp_5 := fun u => cell7 (heap_of (hF1 u) _ _ _ Rp_2) 5 _ rfl
      have fp_6 := fun u => cell7 (heap_of (hF1 u) _ _ _ Rp_2) 6 _ rfl
      have fp_7 := fun u => cell7 (heap_of (hF1 u) _ _ _ Rp_2) 7 _ rfl
      have fp_8 := fun u => cell7 (heap_of (hF1 u) _ _ _ Rp_2) 8 _ rfl
      have fp_9 := fun u => cell7 (heap_of (hF1 u) _ _ _ Rp_2) 9 _ rfl
      have fp_10 := fun u => cell7 (heap_of (hF1 u) _ _ _ Rp_2) 10 _ rfl
      have fp_11 := fun u => cell7 (heap_of (hF1 u) _ _ _ Rp_2) 11 _ rfl
      have fp_12 := fun u => cell7 (heap_of (hF1 u) _ _ _ Rp_2) 12 _ rfl
      have fp_13 := fun u => cell7 (heap_of (hF1 u) _ _ _ Rp_2) 13 _ rfl
      have fz_0 := fun u => cell7 (heap_of (hF1 u) _ _ _ Rz_2) 0 _ rfl
      have fz_1 := fun u => cell7 (heap_of (hF1 u) _ _ _ Rz_2) 1 _ rfl
      have fb_0 := fun u => cell7 (heap_of (hF1 u) _ _ _ Rb_2) 0 _ rfl
      have fb_1 := fun u => cell7 (heap_of (hF1 u) _ _ _ Rb_2) 1 _ rfl
      refine wp_region_below F hF2 (by kernel_rfl) (by kernel_rfl) ?_
      repeat first | go_big_quiet_step (first | (go_at_call 8; exact quietF hF1 hF2 (KU.out _)) | fail) | quiet_step (first | (go_at_call 8; exact quietF hF1 hF2 (KU.out _)) | fail)
      refine wpQuiet_nil ?_
      rintro _ ⟨uW, rfl⟩
      have B3 := btr7 B2 (hF1 uW)
      have Rp_3 := heap_of (hF1 uW) _ _ _ Rp_2
      have Rz_3 := heap_of (hF1 uW) _ _ _ Rz_2
      have Rb_3 := heap_of (hF1 uW) _ _ _ Rb_2
      obtain ⟨w3, hw⟩ : ∃ V, F uW = V := ⟨_, rfl⟩
      rw [hw] at B3 Rp_3 Rz_3 Rb_3
      try rw [hw]
      clear hw hF1 hF2 B2 fp_0 fp_1 fp_2 fp_3 fp_4 fp_5 fp_6 fp_7 fp_8 fp_9 fp_10 fp_11 fp_12 fp_13 fz_0 fz_1 fb_0 fb_1 Rp_2 cp_2_0 cp_2_1 cp_2_2 cp_2_3 cp_2_4 cp_2_5 cp_2_6 cp_2_7 cp_2_8 cp_2_9 cp_2_10 cp_2_11 cp_2_12 cp_2_13 Rz_2 cz_2_0 cz_2_1 Rb_2 cb_2_0 cb_2_1
      clear F
      obtain ⟨cp_3_0, cp_3_1, cp_3_2, cp_3_3, cp_3_4, cp_3_5, cp_3_6, cp_3_7, cp_3_8, cp_3_9, cp_3_10, cp_3_11, cp_3_12, cp_3_13⟩ := pt_cells Rp_3
      obtain ⟨cz_3_0, cz_3_1⟩ := cell7t Rz_3
      obtain ⟨cb_3_0, cb_3_1⟩ := cell7t Rb_3
      have q0 := fz (k := 0) Rz_3
      have q1 := fz (k := 1) Rz_3
      obtain ⟨E0, E1⟩ := set2_cells Rz_3 (.int .u64 (u : Nat)) (.int .u64 (v : Nat))
      go_wp2
      exact bodyPost_ret (v := .tuple #[.agg #[.int .u64 (u : Nat), .int .u64 (v : Nat)], .int .i64 0]) (by simp [results, Tryd.results12, go_sem, E0, E1]) rfl ⟨rfl, set2_below B3 (by first | exact Nat.le_refl _ | omega | (skip; omega)) _ _⟩
set_option maxRecDepth 100000 in
set_option maxHeartbeats 2000000 in
theorem rpack_z4 (f q X Y : Int) (c s rr u v C S R : Nat) (E : Bool) (w : World)
    (KP : Box (∀ w, Calls Tryd.prog 20 #[.int .u8 f] w fun r w' => r = .returned (.int .i64 q) ∧ w' = w))
    (KU : Box (∀ w, Calls Tryd.prog 8 #[.int .u8 f, .agg #[.int .u64 (u : Nat), .int .u64 (v : Nat)]] w fun r w' => r = .returned (.agg (pt C S Y R)) ∧ Below w.heap.size w w'))
    (ls : S < Q) (lr : R < Q) (hs : s < Q) (hr : rr < Q) (hE : (decide (C = c) && (decide (S = s) && (decide (Y = X) && decide (R = rr)))) = E)
    (KI : Box (∀ w, Calls Tryd.prog 30 #[.int .u8 f, .bool false] w fun r w' => r = .returned (.agg #[.int .u64 (u : Nat), .int .u64 (v : Nat)]) ∧ Below w.heap.size w w'))
    (hc : c = 4) : Calls Tryd.prog 12 #[.int .u8 f, .agg (pt c s X rr)] w fun r w' => r = .returned (.tuple #[.agg #[.int .u64 (if E then (u : Int) else 0), .int .u64 (if E then (v : Int) else 0)], .int .i64 (if E then 0 else 80)]) ∧ Below w.heap.size w w' := by
  have hat := cw_at 6
  have hz := cw6z
  have hff := cw6f
  have hs0 := st0
  have hcs : ∀ x, ((cw 6 x).size = 6) = True := fun x => eq_true (cw_size 6 x)
  have hp1 := ptf
  have hp3 := ptz
  have hp4 := st_p0
  have hp5 : ∀ (c s : Nat) (x : Int) (r : Nat), ((pt c s x r).size = 14) = True := fun _ _ _ _ => eq_true rfl
  have heq := eqp
  have hg := eqgp
  have ha0 := pt_at0
  have ha1 := pt_at1
  have ha2 := pt_at2
  have ha3 := pt_at3
  have ha4 := pt_at4
  have ha5 := pt_at5
  have ha6 := pt_at6
  have ha7 := pt_at7
  have ha8 := pt_at8
  have ha9 := pt_at9
  have ha10 := pt_at10
  have ha11 := pt_at11
  have ha12 := pt_at12
  have ha13 := pt_at13
  have hb0 := pt_q0
  have hb1 := pt_q1
  have hb2 := pt_q2
  have hb3 := pt_q3
  have hb4 := pt_q4
  have hb5 := pt_q5
  have hb6 := pt_q6
  have hb7 := pt_q7
  have hb8 := pt_q8
  have hb9 := pt_q9
  have hb10 := pt_q10
  have hb11 := pt_q11
  have hb12 := pt_q12
  have hb13 := pt_q13
  · have f0 : ((c : Int) == 0) = false := by rw [hc]; rfl
    have f7 : ((c : Int) == 7) = false := by rw [hc]; rfl
    have f3 : ((c : Int) == 3) = false := by rw [hc]; rfl
    have f4 : ((c : Int) == 4) = true := by rw [hc]; rfl
    clear hc
    cases E
    · simp only [Bool.false_eq_true, if_false, if_true]
      obtain ⟨Rp_0, Rz_0, Rb_0, B0⟩ := kopn3 w (Obj.cells (pt c s X rr) 30) (Obj.cells #[.int .u64 0, .int .u64 0] 25) (Obj.cells #[.int .u64 0, .int .u64 0] 25)
      go_enter Tryd.func12, Tryd.ntmps12
      go_wp2_with fail
      refine (KP.out _).mono ?_
      rintro r w' ⟨rfl, hw'⟩
      obtain rfl := hw'.symm
      go_wp2_with fail
      refine (KI.out _).mono ?_
      rintro r w1 ⟨rfl, b1⟩
      have B1 : Below w.heap.size w w1 := btr7 B0 b1
      have Rp_1 := heap_of b1 _ _ _ Rp_0
      have Rz_1 := heap_of b1 _ _ _ Rz_0
      have Rb_1 := heap_of b1 _ _ _ Rb_0
      clear b1 B0 Rp_0 Rz_0 Rb_0
      obtain ⟨cp_1_0, cp_1_1, cp_1_2, cp_1_3, cp_1_4, cp_1_5, cp_1_6, cp_1_7, cp_1_8, cp_1_9, cp_1_10, cp_1_11, cp_1_12, cp_1_13⟩ := pt_cells Rp_1
      obtain ⟨cz_1_0, cz_1_1⟩ := cell7t Rz_1
      obtain ⟨cb_1_0, cb_1_1⟩ := cell7t Rb_1
      have q0_2 := fz (k := 0) Rb_1
      have q1_2 := fz (k := 1) Rb_1
      have B2 := set2_below B1 (show w.heap.size ≤ w.heap.size + 1 + 1 by first | exact Nat.le_refl _ | omega | (skip; omega)) (.int .u64 (u : Nat)) (.int .u64 (v : Nat))
      have Rb_2 : ((w1.setCell ⟨w.heap.size + 1 + 1, 0, none⟩ (.int .u64 (u : Nat))).setCell ⟨w.heap.size + 1 + 1, 1, none⟩ (.int .u64 (v : Nat))).heap[w.heap.size + 1 + 1]? = some (Obj.cells #[.int .u64 (u : Nat), .int .u64 (v : Nat)] 25) := set2_row Rb_1 _ _
      have Rp_2 : ((w1.setCell ⟨w.heap.size + 1 + 1, 0, none⟩ (.int .u64 (u : Nat))).setCell ⟨w.heap.size + 1 + 1, 1, none⟩ (.int .u64 (v : Nat))).heap[w.heap.size]? = some (Obj.cells (pt c s X rr) 30) := (setCell_other (by first | omega | (skip; omega))).trans ((setCell_other (by first | omega | (skip; omega))).trans Rp_1)
      have Rz_2 : ((w1.setCell ⟨w.heap.size + 1 + 1, 0, none⟩ (.int .u64 (u : Nat))).setCell ⟨w.heap.size + 1 + 1, 1, none⟩ (.int .u64 (v : Nat))).heap[w.heap.size + 1]? = some (Obj.cells #[.int .u64 0, .int .u64 0] 25) := (setCell_other (by first | omega | (skip; omega))).trans ((setCell_other (by first | omega | (skip; omega))).trans Rz_1)
      obtain ⟨cp_2_0, cp_2_1, cp_2_2, cp_2_3, cp_2_4, cp_2_5, cp_2_6, cp_2_7, cp_2_8, cp_2_9, cp_2_10, cp_2_11, cp_2_12, cp_2_13⟩ := pt_cells Rp_2
      obtain ⟨cz_2_0, cz_2_1⟩ := cell7t Rz_2
      obtain ⟨cb_2_0, cb_2_1⟩ := cell7t Rb_2
      go_wp2_with fail
      obtain ⟨F, hF1, hF2⟩ := below_fun ((w1.setCell ⟨w.heap.size + 1 + 1, 0, none⟩ (.int .u64 (u : Nat))).setCell ⟨w.heap.size + 1 + 1, 1, none⟩ (.int .u64 (v : Nat)))
      have fp_0 := fun u => cell7 (heap_of (hF1 u) _ _ _ Rp_2) 0 _ rfl
      have fp_1 := fun u => cell7 (heap_of (hF1 u) _ _ _ Rp_2) 1 _ rfl
      have fp_2 := fun u => cell7 (heap_of (hF1 u) _ _ _ Rp_2) 2 _ rfl
      have fp_3 := fun u => cell7 (heap_of (hF1 u) _ _ _ Rp_2) 3 _ rfl
      have fp_4 := fun u => cell7 (heap_of (hF1 u) _ _ _ Rp_2) 4 _ rfl
      have fp_5 := fun u => cell7 (heap_of (hF1 u) _ _ _ Rp_2) 5 _ rfl
      have fp_6 := fun u => cell7 (heap_of (hF1 u) _ _ _ Rp_2) 6 _ rfl
      have fp_7 := fun u => cell7 (heap_of (hF1 u) _ _ _ Rp_2) 7 _ rfl
      have fp_8 := fun u => cell7 (heap_of (hF1 u) _ _ _ Rp_2) 8 _ rfl
      have fp_9 := fun u => cell7 (heap_of (hF1 u) _ _ _ Rp_2) 9 _ rfl
      have fp_10 := fun u => cell7 (heap_of (hF1 u) _ _ _ Rp_2) 10 _ rfl
      have fp_11 := fun u => cell7 (heap_of (hF1 u) _ _ _ Rp_2) 11 _ rfl
      have fp_12 := fun u => cell7 (heap_of (hF1 u) _ _ _ Rp_2) 12 _ rfl
      have fp_13 := fun u => cell7 (heap_of (hF1 u) _ _ _ Rp_2) 13 _ rfl
      have fz_0 := fun u => cell7 (heap_of (hF1 u) _ _ _ Rz_2) 0 _ rfl
      have fz_1 := fun u => cell7 (heap_of (hF1 u) _ _ _ Rz_2) 1 _ rfl
      have fb_0 := fun u => cell7 (heap_of (hF1 u) _ _ _ Rb_2) 0 _ rfl
      have fb_1 := fun u => cell7 (heap_of (hF1 u) _ _ _ Rb_2) 1 _ rfl
      refine wp_region_below F hF2 (by kernel_rfl) (by kernel_rfl) ?_
      repeat first | go_big_quiet_step (first | (go_at_call 8; exact quietF hF1 hF2 (KU.out _)) | fail) | quiet_step (first | (go_at_call 8; exact quietF hF1 hF2 (KU.out _)) | fail)
      refine wpQuiet_nil ?_
      rintro _ ⟨uW, rfl⟩
      have B3 := btr7 B2 (hF1 uW)
      have Rp_3 := heap_of (hF1 uW) _ _ _ Rp_2
      have Rz_3 := heap_of (hF1 uW) _ _ _ Rz_2
      have Rb_3 := heap_of (hF1 uW) _ _ _ Rb_2
      obtain ⟨w3, hw⟩ : ∃ V, F uW = V := ⟨_, rfl⟩
      rw [hw] at B3 Rp_3 Rz_3 Rb_3
      try rw [hw]
      clear hw hF1 hF2 B2 fp_0 fp_1 fp_2 fp_3 fp_4 fp_5 fp_6 fp_7 fp_8 fp_9 fp_10 fp_11 fp_12 fp_13 fz_0 fz_1 fb_0 fb_1 Rp_2 cp_2_0 cp_2_1 cp_2_2 cp_2_3 cp_2_4 cp_2_5 cp_2_6 cp_2_7 cp_2_8 cp_2_9 cp_2_10 cp_2_11 cp_2_12 cp_2_13 Rz_2 cz_2_0 cz_2_1 Rb_2 cb_2_0 cb_2_1
      clear F
      obtain ⟨cp_3_0, cp_3_1, cp_3_2, cp_3_3, cp_3_4, cp_3_5, cp_3_6, cp_3_7, cp_3_8, cp_3_9, cp_3_10, cp_3_11, cp_3_12, cp_3_13⟩ := pt_cells Rp_3
      obtain ⟨cz_3_0, cz_3_1⟩ := cell7t Rz_3
      obtain ⟨cb_3_0, cb_3_1⟩ := cell7t Rb_3
      have q0 := fz (k := 0) Rz_3
      have q1 := fz (k := 1) Rz_3
      obtain ⟨E0, E1⟩ := set2_cells Rz_3 (.int .u64 0) (.int .u64 0)
      go_wp2
      exact bodyPost_ret (v := .tuple #[.agg #[.int .u64 0, .int .u64 0], .int .i64 80]) (by simp [results, Tryd.results12, go_sem, E0, E1]) rfl ⟨rfl, set2_below B3 (by first | exact Nat.le_refl _ | omega | (skip; omega)) _ _⟩
    · simp only [Bool.false_eq_true, if_false, if_true]
      obtain ⟨Rp_0, Rz_0, Rb_0, B0⟩ := kopn3 w (Obj.cells (pt c s X rr) 30) (Obj.cells #[.int .u64 0, .int .u64 0] 25) (Obj.cells #[.int .u64 0, .int .u64 0] 25)
      go_enter Tryd.func12, Tryd.ntmps12
      go_wp2_with fail
      refine (KP.out _).mono ?_
      rintro r w' ⟨rfl, hw'⟩
      obtain rfl := hw'.symm
      go_wp2_with fail
      refine (KI.out _).mono ?_
      rintro r w1 ⟨rfl, b1⟩
      have B1 : Below w.heap.size w w1 := btr7 B0 b1
      have Rp_1 := heap_of b1 _ _ _ Rp_0
      have Rz_1 := heap_of b1 _ _ _ Rz_0
      have Rb_1 := heap_of b1 _ _ _ Rb_0
      clear b1 B0 Rp_0 Rz_0 Rb_0
      obtain ⟨cp_1_0, cp_1_1, cp_1_2, cp_1_3, cp_1_4, cp_1_5, cp_1_6, cp_1_7, cp_1_8, cp_1_9, cp_1_10, cp_1_11, cp_1_12, cp_1_13⟩ := pt_cells Rp_1
      obtain ⟨cz_1_0, cz_1_1⟩ := cell7t Rz_1
      obtain ⟨cb_1_0, cb_1_1⟩ := cell7t Rb_1
      have q0_2 := fz (k := 0) Rb_1
      have q1_2 := fz (k := 1) Rb_1
      have B2 := set2_below B1 (show w.heap.size ≤ w.heap.size + 1 + 1 by first | exact Nat.le_refl _ | omega | (skip; omega)) (.int .u64 (u : Nat)) (.int .u64 (v : Nat))
      have Rb_2 : ((w1.setCell ⟨w.heap.size + 1 + 1, 0, none⟩ (.int .u64 (u : Nat))).setCell ⟨w.heap.size + 1 + 1, 1, none⟩ (.int .u64 (v : Nat))).heap[w.heap.size + 1 + 1]? = some (Obj.cells #[.int .u64 (u : Nat), .int .u64 (v : Nat)] 25) := set2_row Rb_1 _ _
      have Rp_2 : ((w1.setCell ⟨w.heap.size + 1 + 1, 0, none⟩ (.int .u64 (u : Nat))).setCell ⟨w.heap.size + 1 + 1, 1, none⟩ (.int .u64 (v : Nat))).heap[w.heap.size]? = some (Obj.cells (pt c s X rr) 30) := (setCell_other (by first | omega | (skip; omega))).trans ((setCell_other (by first | omega | (skip; omega))).trans Rp_1)
      have Rz_2 : ((w1.setCell ⟨w.heap.size + 1 + 1, 0, none⟩ (.int .u64 (u : Nat))).setCell ⟨w.heap.size + 1 + 1, 1, none⟩ (.int .u64 (v : Nat))).heap[w.heap.size + 1]? = some (Obj.cells #[.int .u64 0, .int .u64 0] 25) := (setCell_other (by first | omega | (skip; omega))).trans ((setCell_other (by first | omega | (skip; omega))).trans Rz_1)
      obtain ⟨cp_2_0, cp_2_1, cp_2_2, cp_2_3, cp_2_4, cp_2_5, cp_2_6, cp_2_7, cp_2_8, cp_2_9, cp_2_10, cp_2_11, cp_2_12, cp_2_13⟩ := pt_cells Rp_2
      obtain ⟨cz_2_0, cz_2_1⟩ := cell7t Rz_2
      obtain ⟨cb_2_0, cb_2_1⟩ := cell7t Rb_2
      go_wp2_with fail
      obtain ⟨F, hF1, hF2⟩ := below_fun ((w1.setCell ⟨w.heap.size + 1 + 1, 0, none⟩ (.int .u64 (u : Nat))).setCell ⟨w.heap.size + 1 + 1, 1, none⟩ (.int .u64 (v : Nat)))
      have fp_0 := fun u => cell7 (heap_of (hF1 u) _ _ _ Rp_2) 0 _ rfl
      have fp_1 := fun u => cell7 (heap_of (hF1 u) _ _ _ Rp_2) 1 _ rfl
      have fp_2 := fun u => cell7 (heap_of (hF1 u) _ _ _ Rp_2) 2 _ rfl
      have fp_3 := fun u => cell7 (heap_of (hF1 u) _ _ _ Rp_2) 3 _ rfl
      have fp_4 := fun u => cell7 (heap_of (hF1 u) _ _ _ Rp_2) 4 _ rfl
      have fp_5 := fun u => cell7 (heap_of (hF1 u) _ _ _ Rp_2) 5 _ rfl
      have fp_6 := fun u => cell7 (heap_of (hF1 u) _ _ _ Rp_2) 6 _ rfl
      have fp_7 := fun u => cell7 (heap_of (hF1 u) _ _ _ Rp_2) 7 _ rfl
      have fp_8 := fun u => cell7 (heap_of (hF1 u) _ _ _ Rp_2) 8 _ rfl
      have fp_9 := fun u => cell7 (heap_of (hF1 u) _ _ _ Rp_2) 9 _ rfl
      have fp_10 := fun u => cell7 (heap_of (hF1 u) _ _ _ Rp_2) 10 _ rfl
      have fp_11 := fun u => cell7 (heap_of (hF1 u) _ _ _ Rp_2) 11 _ rfl
      have fp_12 := fun u => cell7 (heap_of (hF1 u) _ _ _ Rp_2) 12 _ rfl
      have fp_13 := fun u => cell7 (heap_of (hF1 u) _ _ _ Rp_2) 13 _ rfl
      have fz_0 := fun u => cell7 (heap_of (hF1 u) _ _ _ Rz_2) 0 _ rfl
      have fz_1 := fun u => cell7 (heap_of (hF1 u) _ _ _ Rz_2) 1 _ rfl
      have fb_0 := fun u => cell7 (heap_of (hF1 u) _ _ _ Rb_2) 0 _ rfl
      have fb_1 := fun u => cell7 (heap_of (hF1 u) _ _ _ Rb_2) 1 _ rfl
      refine wp_region_below F hF2 (by kernel_rfl) (by kernel_rfl) ?_
      repeat first | go_big_quiet_step (first | (go_at_call 8; exact quietF hF1 hF2 (KU.out _)) | fail) | quiet_step (first | (go_at_call 8; exact quietF hF1 hF2 (KU.out _)) | fail)
      refine wpQuiet_nil ?_
      rintro _ ⟨uW, rfl⟩
      have B3 := btr7 B2 (hF1 uW)
      have Rp_3 := heap_of (hF1 uW) _ _ _ Rp_2
      have Rz_3 := heap_of (hF1 uW) _ _ _ Rz_2
      have Rb_3 := heap_of (hF1 uW) _ _ _ Rb_2
      obtain ⟨w3, hw⟩ : ∃ V, F uW = V := ⟨_, rfl⟩
      rw [hw] at B3 Rp_3 Rz_3 Rb_3
      try rw [hw]
      clear hw hF1 hF2 B2 fp_0 fp_1 fp_2 fp_3 fp_4 fp_5 fp_6 fp_7 fp_8 fp_9 fp_10 fp_11 fp_12 fp_13 fz_0 fz_1 fb_0 fb_1 Rp_2 cp_2_0 cp_2_1 cp_2_2 cp_2_3 cp_2_4 cp_2_5 cp_2_6 cp_2_7 cp_2_8 cp_2_9 cp_2_10 cp_2_11 cp_2_12 cp_2_13 Rz_2 cz_2_0 cz_2_1 Rb_2 cb_2_0 cb_2_1
      clear F
      obtain ⟨cp_3_0, cp_3_1, cp_3_2, cp_3_3, cp_3_4, cp_3_5, cp_3_6, cp_3_7, cp_3_8, cp_3_9, cp_3_10, cp_3_11, cp_3_12, cp_3_13⟩ := pt_cells Rp_3
      obtain ⟨cz_3_0, cz_3_1⟩ := cell7t Rz_3
      obtain ⟨cb_3_0, cb_3_1⟩ := cell7t Rb_3
      have q0 := fz (k := 0) Rz_3
      have q1 := fz (k := 1) Rz_3
      obtain ⟨E0, E1⟩ := set2_cells Rz_3 (.int .u64 (u : Nat)) (.int .u64 (v : Nat))
      go_wp2
      exact bodyPost_ret (v := .tuple #[.agg #[.int .u64 (u : Nat), .int .u64 (v : Nat)], .int .i64 0]) (by simp [results, Tryd.results12, go_sem, E0, E1]) rfl ⟨rfl, set2_below B3 (by first | exact Nat.le_refl _ | omega | (skip; omega)) _ _⟩
end Go.Proofs.YtkmlbjlaahcahaaDoor
