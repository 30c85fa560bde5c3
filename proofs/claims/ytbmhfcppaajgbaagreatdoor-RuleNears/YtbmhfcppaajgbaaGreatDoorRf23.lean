/-
  What the functions that the statement reaches return: part 23 (R20, R21).
-/
import Derived.Test.YtbmhfcppaajgbaaGreatDoorRf22
namespace Go.Proofs.YtbmhfcppaajgbaaGreatDoor
set_option maxRecDepth 100000
open Go.RowKit WMath
set_option linter.unusedSimpArgs false
set_option linter.unusedVariables false

theorem dr_cell {V : World} {a : Addr} {x : Value} (h : V.cell? a = some x) : V.drew.cell? a = some x := h
theorem two_boxes {n : Nat} {w W : World} {ga gb : Nat} {T T' : TypeId} {a0 a1 b0 b1 : Value} (hB : Below n w W) (RA : W.heap[ga]? = some (.cells #[a0, a1] T)) (RB : W.heap[gb]? = some (.cells #[b0, b1] T')) (hne : ga ≠ gb) (h1 : n ≤ ga) (h2 : n ≤ gb) (v0 v1 u0 u1 : Value) :
    ((((W.setCell ⟨ga, 0, none⟩ v0).setCell ⟨ga, 1, none⟩ v1).setCell ⟨gb, 0, none⟩ u0).setCell ⟨gb, 1, none⟩ u1).drew.cell? ⟨ga, 0, none⟩ = some v0 ∧
    ((((W.setCell ⟨ga, 0, none⟩ v0).setCell ⟨ga, 1, none⟩ v1).setCell ⟨gb, 0, none⟩ u0).setCell ⟨gb, 1, none⟩ u1).drew.cell? ⟨ga, 1, none⟩ = some v1 ∧
    ((((W.setCell ⟨ga, 0, none⟩ v0).setCell ⟨ga, 1, none⟩ v1).setCell ⟨gb, 0, none⟩ u0).setCell ⟨gb, 1, none⟩ u1).drew.cell? ⟨gb, 0, none⟩ = some u0 ∧
    ((((W.setCell ⟨ga, 0, none⟩ v0).setCell ⟨ga, 1, none⟩ v1).setCell ⟨gb, 0, none⟩ u0).setCell ⟨gb, 1, none⟩ u1).drew.cell? ⟨gb, 1, none⟩ = some u1 ∧
    Below n w ((((W.setCell ⟨ga, 0, none⟩ v0).setCell ⟨ga, 1, none⟩ v1).setCell ⟨gb, 0, none⟩ u0).setCell ⟨gb, 1, none⟩ u1).drew := by
  have r1 := set2_row RA v0 v1
  have r2 : ((W.setCell ⟨ga, 0, none⟩ v0).setCell ⟨ga, 1, none⟩ v1).heap[gb]? = some (.cells #[b0, b1] T') := by rw [setCell_other (by omega), setCell_other (by omega)]; exact RB
  have r3 := set2_row r2 u0 u1
  have r4 : ((((W.setCell ⟨ga, 0, none⟩ v0).setCell ⟨ga, 1, none⟩ v1).setCell ⟨gb, 0, none⟩ u0).setCell ⟨gb, 1, none⟩ u1).heap[ga]? = some (.cells #[v0, v1] T) := by rw [setCell_other (by omega), setCell_other (by omega)]; exact r1
  exact ⟨dr_cell (cells4 r4 0 _ rfl), dr_cell (cells4 r4 1 _ rfl), dr_cell (cells4 r3 0 _ rfl), dr_cell (cells4 r3 1 _ rfl), (set2_below (set2_below hB h1 v0 v1) h2 u0 u1).drew⟩
set_option maxRecDepth 100000 in
set_option maxHeartbeats 4000000 in
theorem ru_Near_eq (f : Int) (b : Bool) (s t : ByteArray) (e : Int) (nb : Bool) (T La : Int) (ws : ByteArray) (more : Bool) (u1 v1 u2 v2 zu zv : Nat) (f1 f2 : Int) (w : World)
    (KC : Box (∀ w, TabAt w → Calls Tryz.prog 65 #[.int .u8 f, .int .u8 2, .agg #[.bool b, .string s, .string t, .int .i64 e]] w fun r w' => r = .returned (.int .i64 0) ∧ Below w.heap.size w w'))
    (KX : Box (∀ w, FAt w → TabAt w → Calls Tryz.prog 67 #[.int .u8 f, .agg #[.bool b, .string s, .string t, .int .i64 e]] w fun r w' => r = .returned (.agg #[.bool nb, .int .i64 T, .int .i64 La, .string ws, .bool more]) ∧ Below w.heap.size w w'))
    (K1 : Box (∀ w, FAt w → TabAt w → Calls Tryz.prog 66 #[.int .u8 f, .int .u8 2, .agg #[.bool nb, .int .i64 T, .int .i64 La, .string ws, .bool more]] w fun r w' => r = .returned (.tuple #[.agg #[.int .u64 (u1 : Nat), .int .u64 (v1 : Nat)], .int .u8 f1]) ∧ Below w.heap.size w w'))
    (K2 : Box (∀ w, FAt w → TabAt w → Calls Tryz.prog 66 #[.int .u8 f, .int .u8 3, .agg #[.bool nb, .int .i64 T, .int .i64 La, .string ws, .bool more]] w fun r w' => r = .returned (.tuple #[.agg #[.int .u64 (u2 : Nat), .int .u64 (v2 : Nat)], .int .u8 f2]) ∧ Below w.heap.size w w'))
    (KZ : Box (∀ w, FAt w → Calls Tryz.prog 74 #[.int .u8 f, .bool true] w fun r w' => r = .returned (.agg #[.int .u64 (zu : Nat), .int .u64 (zv : Nat)]) ∧ Below w.heap.size w w'))
    (K0 : Box (∀ w, FAt w → Calls Tryz.prog 74 #[.int .u8 f, .bool false] w fun r w' => r = .returned (.agg #[.int .u64 0, .int .u64 0]) ∧ Below w.heap.size w w')) (hu : u2 = zu) (hv : v2 = zv)
    (hT : FAt w) (hT2 : TabAt w) : Calls Tryz.prog 28 #[.int .u8 f, .agg #[.bool b, .string s, .string t, .int .i64 e]] w fun r w' => r = .returned (.tuple #[.agg #[.int .u64 (u1 : Nat), .int .u64 (v1 : Nat)], .agg #[.int .u64 0, .int .u64 0], .int .i64 0]) ∧ Below w.heap.size w w' := by
  have FF := box hT
  have TT := box hT2
  clear hT hT2
  subst hu hv
  obtain ⟨Rx_0, Rl_0, Rh_0, B0⟩ := opn3 w (Obj.cells #[.bool b, .string s, .string t, .int .i64 e] 41) (Obj.cells #[.int .u64 0, .int .u64 0] 25) (Obj.cells #[.int .u64 0, .int .u64 0] 25)
  go_enter Tryz.func28, Tryz.ntmps28
  go_wp2_with fail
  refine (KC.out _ (tabB TT.out B0)).mono ?_
  rintro r w1 ⟨rfl, b1⟩
  have B1 : Below w.heap.size w w1 := btr B0 b1
  have Rx_1 := heap_of b1 _ _ _ Rx_0
  have Rl_1 := heap_of b1 _ _ _ Rl_0
  have Rh_1 := heap_of b1 _ _ _ Rh_0
  clear b1 B0 Rx_0 Rl_0 Rh_0
  obtain ⟨cx_1_0, cx_1_1, cx_1_2, cx_1_3⟩ := cells4s Rx_1
  obtain ⟨cl_1_0, cl_1_1⟩ := cells2s Rl_1
  obtain ⟨ch_1_0, ch_1_1⟩ := cells2s Rh_1
  go_wp2_with fail
  refine (KX.out _ (fatB FF.out B1) (tabB TT.out B1)).mono ?_
  rintro r w2 ⟨rfl, b2⟩
  have B2 : Below w.heap.size w w2 := btr B1 b2
  have Rx_2 := heap_of b2 _ _ _ Rx_1
  have Rl_2 := heap_of b2 _ _ _ Rl_1
  have Rh_2 := heap_of b2 _ _ _ Rh_1
  clear b2 B1 Rx_1 cx_1_0 cx_1_1 cx_1_2 cx_1_3 Rl_1 cl_1_0 cl_1_1 Rh_1 ch_1_0 ch_1_1
  obtain ⟨cx_2_0, cx_2_1, cx_2_2, cx_2_3⟩ := cells4s Rx_2
  obtain ⟨cl_2_0, cl_2_1⟩ := cells2s Rl_2
  obtain ⟨ch_2_0, ch_2_1⟩ := cells2s Rh_2
  have S3 := box B2.size
  have Lx_3 : Box (w.heap.size < w2.heap.size) := box (Array.getElem?_eq_some_iff.1 Rx_2).1
  have Ll_3 : Box (w.heap.size + 1 < w2.heap.size) := box (Array.getElem?_eq_some_iff.1 Rl_2).1
  have Lh_3 : Box (w.heap.size + 1 + 1 < w2.heap.size) := box (Array.getElem?_eq_some_iff.1 Rh_2).1
  have Rn_3 := heap_alloc_last w2 (Obj.cells #[.bool nb, .int .i64 T, .int .i64 La, .string ws, .bool more] 106)
  have B3 := btr B2 (bal w2 (Obj.cells #[.bool nb, .int .i64 T, .int .i64 La, .string ws, .bool more] 106))
  have Rx_3 := heap_of (bal w2 (Obj.cells #[.bool nb, .int .i64 T, .int .i64 La, .string ws, .bool more] 106)) _ _ _ Rx_2
  have Rl_3 := heap_of (bal w2 (Obj.cells #[.bool nb, .int .i64 T, .int .i64 La, .string ws, .bool more] 106)) _ _ _ Rl_2
  have Rh_3 := heap_of (bal w2 (Obj.cells #[.bool nb, .int .i64 T, .int .i64 La, .string ws, .bool more] 106)) _ _ _ Rh_2
  clear B2 Rx_2 cx_2_0 cx_2_1 cx_2_2 cx_2_3 Rl_2 cl_2_0 cl_2_1 Rh_2 ch_2_0 ch_2_1
  obtain ⟨cx_3_0, cx_3_1, cx_3_2, cx_3_3⟩ := cells4s Rx_3
  obtain ⟨cl_3_0, cl_3_1⟩ := cells2s Rl_3
  obtain ⟨ch_3_0, ch_3_1⟩ := cells2s Rh_3
  have cn_3_0 := cells4 Rn_3 0 _ rfl
  have cn_3_1 := cells4 Rn_3 1 _ rfl
  have cn_3_2 := cells4 Rn_3 2 _ rfl
  have cn_3_3 := cells4 Rn_3 3 _ rfl
  have cn_3_4 := cells4 Rn_3 4 _ rfl
  go_wp2_with fail
  refine (K1.out _ (fatB FF.out B3) (tabB TT.out B3)).mono ?_
  rintro r w4 ⟨rfl, b4⟩
  have B4 : Below w.heap.size w w4 := btr B3 b4
  have Rx_4 := heap_of b4 _ _ _ Rx_3
  have Rl_4 := heap_of b4 _ _ _ Rl_3
  have Rh_4 := heap_of b4 _ _ _ Rh_3
  have Rn_4 := heap_of b4 _ _ _ Rn_3
  clear b4 B3 Rx_3 cx_3_0 cx_3_1 cx_3_2 cx_3_3 Rl_3 cl_3_0 cl_3_1 Rh_3 ch_3_0 ch_3_1 Rn_3 cn_3_0 cn_3_1 cn_3_2 cn_3_3 cn_3_4
  obtain ⟨cx_4_0, cx_4_1, cx_4_2, cx_4_3⟩ := cells4s Rx_4
  obtain ⟨cl_4_0, cl_4_1⟩ := cells2s Rl_4
  obtain ⟨ch_4_0, ch_4_1⟩ := cells2s Rh_4
  have cn_4_0 := cells4 Rn_4 0 _ rfl
  have cn_4_1 := cells4 Rn_4 1 _ rfl
  have cn_4_2 := cells4 Rn_4 2 _ rfl
  have cn_4_3 := cells4 Rn_4 3 _ rfl
  have cn_4_4 := cells4 Rn_4 4 _ rfl
  have q0_5 := fz (k := 0) Rl_4
  have q1_5 := fz (k := 1) Rl_4
  have B5 := set2_below B4 (show w.heap.size ≤ w.heap.size + 1 by first | exact Nat.le_refl _ | omega | (have := S3.out; have := Lx_3.out; have := Ll_3.out; have := Lh_3.out; omega)) (.int .u64 (u1 : Nat)) (.int .u64 (v1 : Nat))
  have Rl_5 : ((w4.setCell ⟨w.heap.size + 1, 0, none⟩ (.int .u64 (u1 : Nat))).setCell ⟨w.heap.size + 1, 1, none⟩ (.int .u64 (v1 : Nat))).heap[w.heap.size + 1]? = some (Obj.cells #[.int .u64 (u1 : Nat), .int .u64 (v1 : Nat)] 25) := set2_row Rl_4 _ _
  have Rx_5 : ((w4.setCell ⟨w.heap.size + 1, 0, none⟩ (.int .u64 (u1 : Nat))).setCell ⟨w.heap.size + 1, 1, none⟩ (.int .u64 (v1 : Nat))).heap[w.heap.size]? = some (Obj.cells #[.bool b, .string s, .string t, .int .i64 e] 41) := (setCell_other (by first | omega | (have := S3.out; have := Lx_3.out; have := Ll_3.out; have := Lh_3.out; omega))).trans ((setCell_other (by first | omega | (have := S3.out; have := Lx_3.out; have := Ll_3.out; have := Lh_3.out; omega))).trans Rx_4)
  have Rh_5 : ((w4.setCell ⟨w.heap.size + 1, 0, none⟩ (.int .u64 (u1 : Nat))).setCell ⟨w.heap.size + 1, 1, none⟩ (.int .u64 (v1 : Nat))).heap[w.heap.size + 1 + 1]? = some (Obj.cells #[.int .u64 0, .int .u64 0] 25) := (setCell_other (by first | omega | (have := S3.out; have := Lx_3.out; have := Ll_3.out; have := Lh_3.out; omega))).trans ((setCell_other (by first | omega | (have := S3.out; have := Lx_3.out; have := Ll_3.out; have := Lh_3.out; omega))).trans Rh_4)
  have Rn_5 : ((w4.setCell ⟨w.heap.size + 1, 0, none⟩ (.int .u64 (u1 : Nat))).setCell ⟨w.heap.size + 1, 1, none⟩ (.int .u64 (v1 : Nat))).heap[w2.heap.size]? = some (Obj.cells #[.bool nb, .int .i64 T, .int .i64 La, .string ws, .bool more] 106) := (setCell_other (by first | omega | (have := S3.out; have := Lx_3.out; have := Ll_3.out; have := Lh_3.out; omega))).trans ((setCell_other (by first | omega | (have := S3.out; have := Lx_3.out; have := Ll_3.out; have := Lh_3.out; omega))).trans Rn_4)
  obtain ⟨cx_5_0, cx_5_1, cx_5_2, cx_5_3⟩ := cells4s Rx_5
  obtain ⟨cl_5_0, cl_5_1⟩ := cells2s Rl_5
  obtain ⟨ch_5_0, ch_5_1⟩ := cells2s Rh_5
  have cn_5_0 := cells4 Rn_5 0 _ rfl
  have cn_5_1 := cells4 Rn_5 1 _ rfl
  have cn_5_2 := cells4 Rn_5 2 _ rfl
  have cn_5_3 := cells4 Rn_5 3 _ rfl
  have cn_5_4 := cells4 Rn_5 4 _ rfl
  go_wp2_with fail
  refine (K2.out _ (fatB FF.out B5) (tabB TT.out B5)).mono ?_
  rintro r w6 ⟨rfl, b6⟩
  have B6 : Below w.heap.size w w6 := btr B5 b6
  have Rx_6 := heap_of b6 _ _ _ Rx_5
  have Rl_6 := heap_of b6 _ _ _ Rl_5
  have Rh_6 := heap_of b6 _ _ _ Rh_5
  have Rn_6 := heap_of b6 _ _ _ Rn_5
  clear b6 B5 Rx_5 cx_5_0 cx_5_1 cx_5_2 cx_5_3 Rl_5 cl_5_0 cl_5_1 Rh_5 ch_5_0 ch_5_1 Rn_5 cn_5_0 cn_5_1 cn_5_2 cn_5_3 cn_5_4
  obtain ⟨cx_6_0, cx_6_1, cx_6_2, cx_6_3⟩ := cells4s Rx_6
  obtain ⟨cl_6_0, cl_6_1⟩ := cells2s Rl_6
  obtain ⟨ch_6_0, ch_6_1⟩ := cells2s Rh_6
  have cn_6_0 := cells4 Rn_6 0 _ rfl
  have cn_6_1 := cells4 Rn_6 1 _ rfl
  have cn_6_2 := cells4 Rn_6 2 _ rfl
  have cn_6_3 := cells4 Rn_6 3 _ rfl
  have cn_6_4 := cells4 Rn_6 4 _ rfl
  have q0_7 := fz (k := 0) Rh_6
  have q1_7 := fz (k := 1) Rh_6
  have B7 := set2_below B6 (show w.heap.size ≤ w.heap.size + 1 + 1 by first | exact Nat.le_refl _ | omega | (have := S3.out; have := Lx_3.out; have := Ll_3.out; have := Lh_3.out; omega)) (.int .u64 (u2 : Nat)) (.int .u64 (v2 : Nat))
  have Rh_7 : ((w6.setCell ⟨w.heap.size + 1 + 1, 0, none⟩ (.int .u64 (u2 : Nat))).setCell ⟨w.heap.size + 1 + 1, 1, none⟩ (.int .u64 (v2 : Nat))).heap[w.heap.size + 1 + 1]? = some (Obj.cells #[.int .u64 (u2 : Nat), .int .u64 (v2 : Nat)] 25) := set2_row Rh_6 _ _
  have Rx_7 : ((w6.setCell ⟨w.heap.size + 1 + 1, 0, none⟩ (.int .u64 (u2 : Nat))).setCell ⟨w.heap.size + 1 + 1, 1, none⟩ (.int .u64 (v2 : Nat))).heap[w.heap.size]? = some (Obj.cells #[.bool b, .string s, .string t, .int .i64 e] 41) := (setCell_other (by first | omega | (have := S3.out; have := Lx_3.out; have := Ll_3.out; have := Lh_3.out; omega))).trans ((setCell_other (by first | omega | (have := S3.out; have := Lx_3.out; have := Ll_3.out; have := Lh_3.out; omega))).trans Rx_6)
  have Rl_7 : ((w6.setCell ⟨w.heap.size + 1 + 1, 0, none⟩ (.int .u64 (u2 : Nat))).setCell ⟨w.heap.size + 1 + 1, 1, none⟩ (.int .u64 (v2 : Nat))).heap[w.heap.size + 1]? = some (Obj.cells #[.int .u64 (u1 : Nat), .int .u64 (v1 : Nat)] 25) := (setCell_other (by first | omega | (have := S3.out; have := Lx_3.out; have := Ll_3.out; have := Lh_3.out; omega))).trans ((setCell_other (by first | omega | (have := S3.out; have := Lx_3.out; have := Ll_3.out; have := Lh_3.out; omega))).trans Rl_6)
  have Rn_7 : ((w6.setCell ⟨w.heap.size + 1 + 1, 0, none⟩ (.int .u64 (u2 : Nat))).setCell ⟨w.heap.size + 1 + 1, 1, none⟩ (.int .u64 (v2 : Nat))).heap[w2.heap.size]? = some (Obj.cells #[.bool nb, .int .i64 T, .int .i64 La, .string ws, .bool more] 106) := (setCell_other (by first | omega | (have := S3.out; have := Lx_3.out; have := Ll_3.out; have := Lh_3.out; omega))).trans ((setCell_other (by first | omega | (have := S3.out; have := Lx_3.out; have := Ll_3.out; have := Lh_3.out; omega))).trans Rn_6)
  obtain ⟨cx_7_0, cx_7_1, cx_7_2, cx_7_3⟩ := cells4s Rx_7
  obtain ⟨cl_7_0, cl_7_1⟩ := cells2s Rl_7
  obtain ⟨ch_7_0, ch_7_1⟩ := cells2s Rh_7
  have cn_7_0 := cells4 Rn_7 0 _ rfl
  have cn_7_1 := cells4 Rn_7 1 _ rfl
  have cn_7_2 := cells4 Rn_7 2 _ rfl
  have cn_7_3 := cells4 Rn_7 3 _ rfl
  have cn_7_4 := cells4 Rn_7 4 _ rfl
  go_wp2_with fail
  obtain ⟨F, hF1, hF2⟩ := below_fun ((w6.setCell ⟨w.heap.size + 1 + 1, 0, none⟩ (.int .u64 (u2 : Nat))).setCell ⟨w.heap.size + 1 + 1, 1, none⟩ (.int .u64 (v2 : Nat)))
  have fx_0 := fun u => cells4 (heap_of (hF1 u) _ _ _ Rx_7) 0 _ rfl
  have fx_1 := fun u => cells4 (heap_of (hF1 u) _ _ _ Rx_7) 1 _ rfl
  have fx_2 := fun u => cells4 (heap_of (hF1 u) _ _ _ Rx_7) 2 _ rfl
  have fx_3 := fun u => cells4 (heap_of (hF1 u) _ _ _ Rx_7) 3 _ rfl
  have fl_0 := fun u => cells4 (heap_of (hF1 u) _ _ _ Rl_7) 0 _ rfl
  have fl_1 := fun u => cells4 (heap_of (hF1 u) _ _ _ Rl_7) 1 _ rfl
  have fh_0 := fun u => cells4 (heap_of (hF1 u) _ _ _ Rh_7) 0 _ rfl
  have fh_1 := fun u => cells4 (heap_of (hF1 u) _ _ _ Rh_7) 1 _ rfl
  have fn_0 := fun u => cells4 (heap_of (hF1 u) _ _ _ Rn_7) 0 _ rfl
  have fn_1 := fun u => cells4 (heap_of (hF1 u) _ _ _ Rn_7) 1 _ rfl
  have fn_2 := fun u => cells4 (heap_of (hF1 u) _ _ _ Rn_7) 2 _ rfl
  have fn_3 := fun u => cells4 (heap_of (hF1 u) _ _ _ Rn_7) 3 _ rfl
  have fn_4 := fun u => cells4 (heap_of (hF1 u) _ _ _ Rn_7) 4 _ rfl
  have FG : Box (∀ u, FAt (F u)) := box (fun u => fatB FF.out (btr B7 (hF1 u)))
  refine wp_region_below F hF2 (by kernel_rfl) (by kernel_rfl) ?_
  repeat first | go_big_quiet_step (first | (go_at_call 74; exact quietF hF1 hF2 (KZ.out _ (FG.out _))) | fail) | quiet_step (first | (go_at_call 74; exact quietF hF1 hF2 (KZ.out _ (FG.out _))) | fail)
  refine wpQuiet_nil ?_
  rintro _ ⟨uW, rfl⟩
  have B8 := btr B7 (hF1 uW)
  have Rx_8 := heap_of (hF1 uW) _ _ _ Rx_7
  have Rl_8 := heap_of (hF1 uW) _ _ _ Rl_7
  have Rh_8 := heap_of (hF1 uW) _ _ _ Rh_7
  have Rn_8 := heap_of (hF1 uW) _ _ _ Rn_7
  obtain ⟨w8, hw⟩ : ∃ V, F uW = V := ⟨_, rfl⟩
  rw [hw] at B8 Rx_8 Rl_8 Rh_8 Rn_8
  try rw [hw]
  clear hw hF1 hF2 B7 fx_0 fx_1 fx_2 fx_3 fl_0 fl_1 fh_0 fh_1 fn_0 fn_1 fn_2 fn_3 fn_4 Rx_7 cx_7_0 cx_7_1 cx_7_2 cx_7_3 Rl_7 cl_7_0 cl_7_1 Rh_7 ch_7_0 ch_7_1 Rn_7 cn_7_0 cn_7_1 cn_7_2 cn_7_3 cn_7_4
  clear FG
  clear F
  obtain ⟨cx_8_0, cx_8_1, cx_8_2, cx_8_3⟩ := cells4s Rx_8
  obtain ⟨cl_8_0, cl_8_1⟩ := cells2s Rl_8
  obtain ⟨ch_8_0, ch_8_1⟩ := cells2s Rh_8
  have cn_8_0 := cells4 Rn_8 0 _ rfl
  have cn_8_1 := cells4 Rn_8 1 _ rfl
  have cn_8_2 := cells4 Rn_8 2 _ rfl
  have cn_8_3 := cells4 Rn_8 3 _ rfl
  have cn_8_4 := cells4 Rn_8 4 _ rfl
  go_wp2_with fail
  refine (K0.out _ (fatB FF.out B8)).mono ?_
  rintro r w9 ⟨rfl, b9⟩
  have B9 : Below w.heap.size w w9 := btr B8 b9
  have Rx_9 := heap_of b9 _ _ _ Rx_8
  have Rl_9 := heap_of b9 _ _ _ Rl_8
  have Rh_9 := heap_of b9 _ _ _ Rh_8
  have Rn_9 := heap_of b9 _ _ _ Rn_8
  clear b9 B8 Rx_8 cx_8_0 cx_8_1 cx_8_2 cx_8_3 Rl_8 cl_8_0 cl_8_1 Rh_8 ch_8_0 ch_8_1 Rn_8 cn_8_0 cn_8_1 cn_8_2 cn_8_3 cn_8_4
  obtain ⟨cx_9_0, cx_9_1, cx_9_2, cx_9_3⟩ := cells4s Rx_9
  obtain ⟨cl_9_0, cl_9_1⟩ := cells2s Rl_9
  obtain ⟨ch_9_0, ch_9_1⟩ := cells2s Rh_9
  have cn_9_0 := cells4 Rn_9 0 _ rfl
  have cn_9_1 := cells4 Rn_9 1 _ rfl
  have cn_9_2 := cells4 Rn_9 2 _ rfl
  have cn_9_3 := cells4 Rn_9 3 _ rfl
  have cn_9_4 := cells4 Rn_9 4 _ rfl
  have q0_10 := fz (k := 0) Rh_9
  have q1_10 := fz (k := 1) Rh_9
  have B10 := set2_below B9 (show w.heap.size ≤ w.heap.size + 1 + 1 by first | exact Nat.le_refl _ | omega | (have := S3.out; have := Lx_3.out; have := Ll_3.out; have := Lh_3.out; omega)) (.int .u64 0) (.int .u64 0)
  have Rh_10 : ((w9.setCell ⟨w.heap.size + 1 + 1, 0, none⟩ (.int .u64 0)).setCell ⟨w.heap.size + 1 + 1, 1, none⟩ (.int .u64 0)).heap[w.heap.size + 1 + 1]? = some (Obj.cells #[.int .u64 0, .int .u64 0] 25) := set2_row Rh_9 _ _
  have Rx_10 : ((w9.setCell ⟨w.heap.size + 1 + 1, 0, none⟩ (.int .u64 0)).setCell ⟨w.heap.size + 1 + 1, 1, none⟩ (.int .u64 0)).heap[w.heap.size]? = some (Obj.cells #[.bool b, .string s, .string t, .int .i64 e] 41) := (setCell_other (by first | omega | (have := S3.out; have := Lx_3.out; have := Ll_3.out; have := Lh_3.out; omega))).trans ((setCell_other (by first | omega | (have := S3.out; have := Lx_3.out; have := Ll_3.out; have := Lh_3.out; omega))).trans Rx_9)
  have Rl_10 : ((w9.setCell ⟨w.heap.size + 1 + 1, 0, none⟩ (.int .u64 0)).setCell ⟨w.heap.size + 1 + 1, 1, none⟩ (.int .u64 0)).heap[w.heap.size + 1]? = some (Obj.cells #[.int .u64 (u1 : Nat), .int .u64 (v1 : Nat)] 25) := (setCell_other (by first | omega | (have := S3.out; have := Lx_3.out; have := Ll_3.out; have := Lh_3.out; omega))).trans ((setCell_other (by first | omega | (have := S3.out; have := Lx_3.out; have := Ll_3.out; have := Lh_3.out; omega))).trans Rl_9)
  have Rn_10 : ((w9.setCell ⟨w.heap.size + 1 + 1, 0, none⟩ (.int .u64 0)).setCell ⟨w.heap.size + 1 + 1, 1, none⟩ (.int .u64 0)).heap[w2.heap.size]? = some (Obj.cells #[.bool nb, .int .i64 T, .int .i64 La, .string ws, .bool more] 106) := (setCell_other (by first | omega | (have := S3.out; have := Lx_3.out; have := Ll_3.out; have := Lh_3.out; omega))).trans ((setCell_other (by first | omega | (have := S3.out; have := Lx_3.out; have := Ll_3.out; have := Lh_3.out; omega))).trans Rn_9)
  obtain ⟨cx_10_0, cx_10_1, cx_10_2, cx_10_3⟩ := cells4s Rx_10
  obtain ⟨cl_10_0, cl_10_1⟩ := cells2s Rl_10
  obtain ⟨ch_10_0, ch_10_1⟩ := cells2s Rh_10
  have cn_10_0 := cells4 Rn_10 0 _ rfl
  have cn_10_1 := cells4 Rn_10 1 _ rfl
  have cn_10_2 := cells4 Rn_10 2 _ rfl
  have cn_10_3 := cells4 Rn_10 3 _ rfl
  have cn_10_4 := cells4 Rn_10 4 _ rfl
  go_wp2_with fail
  obtain ⟨w11, hw11⟩ : ∃ V, ((w9.setCell ⟨w.heap.size + 1 + 1, 0, none⟩ (.int .u64 0)).setCell ⟨w.heap.size + 1 + 1, 1, none⟩ (.int .u64 0)) = V := ⟨_, rfl⟩
  have Rx_11 := Rx_10
  have Rl_11 := Rl_10
  have Rh_11 := Rh_10
  have Rn_11 := Rn_10
  have B11 := B10
  rw [hw11] at B11 Rx_11 Rl_11 Rh_11 Rn_11 ⊢
  clear hw11 B10 Rx_10 cx_10_0 cx_10_1 cx_10_2 cx_10_3 Rl_10 cl_10_0 cl_10_1 Rh_10 ch_10_0 ch_10_1 Rn_10 cn_10_0 cn_10_1 cn_10_2 cn_10_3 cn_10_4
  obtain ⟨cx_11_0, cx_11_1, cx_11_2, cx_11_3⟩ := cells4s Rx_11
  obtain ⟨cl_11_0, cl_11_1⟩ := cells2s Rl_11
  obtain ⟨ch_11_0, ch_11_1⟩ := cells2s Rh_11
  have cn_11_0 := cells4 Rn_11 0 _ rfl
  have cn_11_1 := cells4 Rn_11 1 _ rfl
  have cn_11_2 := cells4 Rn_11 2 _ rfl
  have cn_11_3 := cells4 Rn_11 3 _ rfl
  have cn_11_4 := cells4 Rn_11 4 _ rfl
  have sTA : Box (∀ W : World, (Below w.heap.size w W ∧ W.heap[w.heap.size + 1]? = some (Obj.cells #[.int .u64 (u1 : Nat), .int .u64 (v1 : Nat)] 25) ∧ W.heap[w.heap.size + 1 + 1]? = some (Obj.cells #[.int .u64 0, .int .u64 0] 25) ∧ W.cell? ⟨w.heap.size + 1, 0, none⟩ = some (.int .u64 (u1 : Nat)) ∧ W.cell? ⟨w.heap.size + 1, 1, none⟩ = some (.int .u64 (v1 : Nat)) ∧ W.cell? ⟨w.heap.size + 1 + 1, 0, none⟩ = some (.int .u64 0) ∧ W.cell? ⟨w.heap.size + 1 + 1, 1, none⟩ = some (.int .u64 0) ∧ W.frozen? ⟨w.heap.size + 1, 0, none⟩ = false ∧ W.frozen? ⟨w.heap.size + 1, 1, none⟩ = false ∧ W.frozen? ⟨w.heap.size + 1 + 1, 0, none⟩ = false ∧ W.frozen? ⟨w.heap.size + 1 + 1, 1, none⟩ = false) → (Below w.heap.size w ((W.setCell ⟨w.heap.size + 1, 0, none⟩ (.int .u64 (u1 : Nat))).setCell ⟨w.heap.size + 1, 1, none⟩ (.int .u64 (v1 : Nat))) ∧ ((W.setCell ⟨w.heap.size + 1, 0, none⟩ (.int .u64 (u1 : Nat))).setCell ⟨w.heap.size + 1, 1, none⟩ (.int .u64 (v1 : Nat))).heap[w.heap.size + 1]? = some (Obj.cells #[.int .u64 (u1 : Nat), .int .u64 (v1 : Nat)] 25) ∧ ((W.setCell ⟨w.heap.size + 1, 0, none⟩ (.int .u64 (u1 : Nat))).setCell ⟨w.heap.size + 1, 1, none⟩ (.int .u64 (v1 : Nat))).heap[w.heap.size + 1 + 1]? = some (Obj.cells #[.int .u64 0, .int .u64 0] 25) ∧ ((W.setCell ⟨w.heap.size + 1, 0, none⟩ (.int .u64 (u1 : Nat))).setCell ⟨w.heap.size + 1, 1, none⟩ (.int .u64 (v1 : Nat))).cell? ⟨w.heap.size + 1, 0, none⟩ = some (.int .u64 (u1 : Nat)) ∧ ((W.setCell ⟨w.heap.size + 1, 0, none⟩ (.int .u64 (u1 : Nat))).setCell ⟨w.heap.size + 1, 1, none⟩ (.int .u64 (v1 : Nat))).cell? ⟨w.heap.size + 1, 1, none⟩ = some (.int .u64 (v1 : Nat)) ∧ ((W.setCell ⟨w.heap.size + 1, 0, none⟩ (.int .u64 (u1 : Nat))).setCell ⟨w.heap.size + 1, 1, none⟩ (.int .u64 (v1 : Nat))).cell? ⟨w.heap.size + 1 + 1, 0, none⟩ = some (.int .u64 0) ∧ ((W.setCell ⟨w.heap.size + 1, 0, none⟩ (.int .u64 (u1 : Nat))).setCell ⟨w.heap.size + 1, 1, none⟩ (.int .u64 (v1 : Nat))).cell? ⟨w.heap.size + 1 + 1, 1, none⟩ = some (.int .u64 0) ∧ ((W.setCell ⟨w.heap.size + 1, 0, none⟩ (.int .u64 (u1 : Nat))).setCell ⟨w.heap.size + 1, 1, none⟩ (.int .u64 (v1 : Nat))).frozen? ⟨w.heap.size + 1, 0, none⟩ = false ∧ ((W.setCell ⟨w.heap.size + 1, 0, none⟩ (.int .u64 (u1 : Nat))).setCell ⟨w.heap.size + 1, 1, none⟩ (.int .u64 (v1 : Nat))).frozen? ⟨w.heap.size + 1, 1, none⟩ = false ∧ ((W.setCell ⟨w.heap.size + 1, 0, none⟩ (.int .u64 (u1 : Nat))).setCell ⟨w.heap.size + 1, 1, none⟩ (.int .u64 (v1 : Nat))).frozen? ⟨w.heap.size + 1 + 1, 0, none⟩ = false ∧ ((W.setCell ⟨w.heap.size + 1, 0, none⟩ (.int .u64 (u1 : Nat))).setCell ⟨w.heap.size + 1, 1, none⟩ (.int .u64 (v1 : Nat))).frozen? ⟨w.heap.size + 1 + 1, 1, none⟩ = false)) := box (fun W h => ⟨set2_below h.1 (show w.heap.size ≤ w.heap.size + 1 by first | exact Nat.le_refl _ | omega | (have := S3.out; have := Lx_3.out; have := Ll_3.out; have := Lh_3.out; omega)) _ _, set2_row h.2.1 (.int .u64 (u1 : Nat)) (.int .u64 (v1 : Nat)), (setCell_other (by first | omega | (have := S3.out; have := Lx_3.out; have := Ll_3.out; have := Lh_3.out; omega))).trans ((setCell_other (by first | omega | (have := S3.out; have := Lx_3.out; have := Ll_3.out; have := Lh_3.out; omega))).trans h.2.2.1), cell7 (set2_row h.2.1 (.int .u64 (u1 : Nat)) (.int .u64 (v1 : Nat))) 0 _ rfl, cell7 (set2_row h.2.1 (.int .u64 (u1 : Nat)) (.int .u64 (v1 : Nat))) 1 _ rfl, cell7 ((setCell_other (by first | omega | (have := S3.out; have := Lx_3.out; have := Ll_3.out; have := Lh_3.out; omega))).trans ((setCell_other (by first | omega | (have := S3.out; have := Lx_3.out; have := Ll_3.out; have := Lh_3.out; omega))).trans h.2.2.1)) 0 _ rfl, cell7 ((setCell_other (by first | omega | (have := S3.out; have := Lx_3.out; have := Ll_3.out; have := Lh_3.out; omega))).trans ((setCell_other (by first | omega | (have := S3.out; have := Lx_3.out; have := Ll_3.out; have := Lh_3.out; omega))).trans h.2.2.1)) 1 _ rfl, fz (k := 0) (set2_row h.2.1 (.int .u64 (u1 : Nat)) (.int .u64 (v1 : Nat))), fz (k := 1) (set2_row h.2.1 (.int .u64 (u1 : Nat)) (.int .u64 (v1 : Nat))), fz (k := 0) ((setCell_other (by first | omega | (have := S3.out; have := Lx_3.out; have := Ll_3.out; have := Lh_3.out; omega))).trans ((setCell_other (by first | omega | (have := S3.out; have := Lx_3.out; have := Ll_3.out; have := Lh_3.out; omega))).trans h.2.2.1)), fz (k := 1) ((setCell_other (by first | omega | (have := S3.out; have := Lx_3.out; have := Ll_3.out; have := Lh_3.out; omega))).trans ((setCell_other (by first | omega | (have := S3.out; have := Lx_3.out; have := Ll_3.out; have := Lh_3.out; omega))).trans h.2.2.1))⟩)
  have sTB : Box (∀ W : World, (Below w.heap.size w W ∧ W.heap[w.heap.size + 1]? = some (Obj.cells #[.int .u64 (u1 : Nat), .int .u64 (v1 : Nat)] 25) ∧ W.heap[w.heap.size + 1 + 1]? = some (Obj.cells #[.int .u64 0, .int .u64 0] 25) ∧ W.cell? ⟨w.heap.size + 1, 0, none⟩ = some (.int .u64 (u1 : Nat)) ∧ W.cell? ⟨w.heap.size + 1, 1, none⟩ = some (.int .u64 (v1 : Nat)) ∧ W.cell? ⟨w.heap.size + 1 + 1, 0, none⟩ = some (.int .u64 0) ∧ W.cell? ⟨w.heap.size + 1 + 1, 1, none⟩ = some (.int .u64 0) ∧ W.frozen? ⟨w.heap.size + 1, 0, none⟩ = false ∧ W.frozen? ⟨w.heap.size + 1, 1, none⟩ = false ∧ W.frozen? ⟨w.heap.size + 1 + 1, 0, none⟩ = false ∧ W.frozen? ⟨w.heap.size + 1 + 1, 1, none⟩ = false) → (Below w.heap.size w ((W.setCell ⟨w.heap.size + 1 + 1, 0, none⟩ (.int .u64 0)).setCell ⟨w.heap.size + 1 + 1, 1, none⟩ (.int .u64 0)) ∧ ((W.setCell ⟨w.heap.size + 1 + 1, 0, none⟩ (.int .u64 0)).setCell ⟨w.heap.size + 1 + 1, 1, none⟩ (.int .u64 0)).heap[w.heap.size + 1]? = some (Obj.cells #[.int .u64 (u1 : Nat), .int .u64 (v1 : Nat)] 25) ∧ ((W.setCell ⟨w.heap.size + 1 + 1, 0, none⟩ (.int .u64 0)).setCell ⟨w.heap.size + 1 + 1, 1, none⟩ (.int .u64 0)).heap[w.heap.size + 1 + 1]? = some (Obj.cells #[.int .u64 0, .int .u64 0] 25) ∧ ((W.setCell ⟨w.heap.size + 1 + 1, 0, none⟩ (.int .u64 0)).setCell ⟨w.heap.size + 1 + 1, 1, none⟩ (.int .u64 0)).cell? ⟨w.heap.size + 1, 0, none⟩ = some (.int .u64 (u1 : Nat)) ∧ ((W.setCell ⟨w.heap.size + 1 + 1, 0, none⟩ (.int .u64 0)).setCell ⟨w.heap.size + 1 + 1, 1, none⟩ (.int .u64 0)).cell? ⟨w.heap.size + 1, 1, none⟩ = some (.int .u64 (v1 : Nat)) ∧ ((W.setCell ⟨w.heap.size + 1 + 1, 0, none⟩ (.int .u64 0)).setCell ⟨w.heap.size + 1 + 1, 1, none⟩ (.int .u64 0)).cell? ⟨w.heap.size + 1 + 1, 0, none⟩ = some (.int .u64 0) ∧ ((W.setCell ⟨w.heap.size + 1 + 1, 0, none⟩ (.int .u64 0)).setCell ⟨w.heap.size + 1 + 1, 1, none⟩ (.int .u64 0)).cell? ⟨w.heap.size + 1 + 1, 1, none⟩ = some (.int .u64 0) ∧ ((W.setCell ⟨w.heap.size + 1 + 1, 0, none⟩ (.int .u64 0)).setCell ⟨w.heap.size + 1 + 1, 1, none⟩ (.int .u64 0)).frozen? ⟨w.heap.size + 1, 0, none⟩ = false ∧ ((W.setCell ⟨w.heap.size + 1 + 1, 0, none⟩ (.int .u64 0)).setCell ⟨w.heap.size + 1 + 1, 1, none⟩ (.int .u64 0)).frozen? ⟨w.heap.size + 1, 1, none⟩ = false ∧ ((W.setCell ⟨w.heap.size + 1 + 1, 0, none⟩ (.int .u64 0)).setCell ⟨w.heap.size + 1 + 1, 1, none⟩ (.int .u64 0)).frozen? ⟨w.heap.size + 1 + 1, 0, none⟩ = false ∧ ((W.setCell ⟨w.heap.size + 1 + 1, 0, none⟩ (.int .u64 0)).setCell ⟨w.heap.size + 1 + 1, 1, none⟩ (.int .u64 0)).frozen? ⟨w.heap.size + 1 + 1, 1, none⟩ = false)) := box (fun W h => ⟨set2_below h.1 (show w.heap.size ≤ w.heap.size + 1 + 1 by first | exact Nat.le_refl _ | omega | (have := S3.out; have := Lx_3.out; have := Ll_3.out; have := Lh_3.out; omega)) _ _, (setCell_other (by first | omega | (have := S3.out; have := Lx_3.out; have := Ll_3.out; have := Lh_3.out; omega))).trans ((setCell_other (by first | omega | (have := S3.out; have := Lx_3.out; have := Ll_3.out; have := Lh_3.out; omega))).trans h.2.1), set2_row h.2.2.1 (.int .u64 0) (.int .u64 0), cell7 ((setCell_other (by first | omega | (have := S3.out; have := Lx_3.out; have := Ll_3.out; have := Lh_3.out; omega))).trans ((setCell_other (by first | omega | (have := S3.out; have := Lx_3.out; have := Ll_3.out; have := Lh_3.out; omega))).trans h.2.1)) 0 _ rfl, cell7 ((setCell_other (by first | omega | (have := S3.out; have := Lx_3.out; have := Ll_3.out; have := Lh_3.out; omega))).trans ((setCell_other (by first | omega | (have := S3.out; have := Lx_3.out; have := Ll_3.out; have := Lh_3.out; omega))).trans h.2.1)) 1 _ rfl, cell7 (set2_row h.2.2.1 (.int .u64 0) (.int .u64 0)) 0 _ rfl, cell7 (set2_row h.2.2.1 (.int .u64 0) (.int .u64 0)) 1 _ rfl, fz (k := 0) ((setCell_other (by first | omega | (have := S3.out; have := Lx_3.out; have := Ll_3.out; have := Lh_3.out; omega))).trans ((setCell_other (by first | omega | (have := S3.out; have := Lx_3.out; have := Ll_3.out; have := Lh_3.out; omega))).trans h.2.1)), fz (k := 1) ((setCell_other (by first | omega | (have := S3.out; have := Lx_3.out; have := Ll_3.out; have := Lh_3.out; omega))).trans ((setCell_other (by first | omega | (have := S3.out; have := Lx_3.out; have := Ll_3.out; have := Lh_3.out; omega))).trans h.2.1)), fz (k := 0) (set2_row h.2.2.1 (.int .u64 0) (.int .u64 0)), fz (k := 1) (set2_row h.2.2.1 (.int .u64 0) (.int .u64 0))⟩)
  have s0 : Below w.heap.size w (w11).drew ∧ (w11).drew.heap[w.heap.size + 1]? = some (Obj.cells #[.int .u64 (u1 : Nat), .int .u64 (v1 : Nat)] 25) ∧ (w11).drew.heap[w.heap.size + 1 + 1]? = some (Obj.cells #[.int .u64 0, .int .u64 0] 25) ∧ (w11).drew.cell? ⟨w.heap.size + 1, 0, none⟩ = some (.int .u64 (u1 : Nat)) ∧ (w11).drew.cell? ⟨w.heap.size + 1, 1, none⟩ = some (.int .u64 (v1 : Nat)) ∧ (w11).drew.cell? ⟨w.heap.size + 1 + 1, 0, none⟩ = some (.int .u64 0) ∧ (w11).drew.cell? ⟨w.heap.size + 1 + 1, 1, none⟩ = some (.int .u64 0) ∧ (w11).drew.frozen? ⟨w.heap.size + 1, 0, none⟩ = false ∧ (w11).drew.frozen? ⟨w.heap.size + 1, 1, none⟩ = false ∧ (w11).drew.frozen? ⟨w.heap.size + 1 + 1, 0, none⟩ = false ∧ (w11).drew.frozen? ⟨w.heap.size + 1 + 1, 1, none⟩ = false := ⟨B11.drew, Rl_11, Rh_11, cell7 (Rl_11) 0 _ rfl, cell7 (Rl_11) 1 _ rfl, cell7 (Rh_11) 0 _ rfl, cell7 (Rh_11) 1 _ rfl, fz (k := 0) (Rl_11), fz (k := 1) (Rl_11), fz (k := 0) (Rh_11), fz (k := 1) (Rh_11)⟩
  have s1 := sTA.out _ s0
  have s2 := sTB.out _ s1
  have hA0 := fz (k := 0) (s0.2.1)
  have hA1 := fz (k := 1) (s0.2.1)
  have hB0 := fz (k := 0) (s1.2.2.1)
  have hB1 := fz (k := 1) (s1.2.2.1)
  have il0 := fz (k := 0) Rl_11
  have il1 := fz (k := 1) Rl_11
  have ih0 := fz (k := 0) Rh_11
  have ih1 := fz (k := 1) Rh_11
  go_wp2_with fail
  go_region_held3 (fun W => Below w.heap.size w W ∧ W.heap[w.heap.size + 1]? = some (Obj.cells #[.int .u64 (u1 : Nat), .int .u64 (v1 : Nat)] 25) ∧ W.heap[w.heap.size + 1 + 1]? = some (Obj.cells #[.int .u64 0, .int .u64 0] 25) ∧ W.cell? ⟨w.heap.size + 1, 0, none⟩ = some (.int .u64 (u1 : Nat)) ∧ W.cell? ⟨w.heap.size + 1, 1, none⟩ = some (.int .u64 (v1 : Nat)) ∧ W.cell? ⟨w.heap.size + 1 + 1, 0, none⟩ = some (.int .u64 0) ∧ W.cell? ⟨w.heap.size + 1 + 1, 1, none⟩ = some (.int .u64 0) ∧ W.frozen? ⟨w.heap.size + 1, 0, none⟩ = false ∧ W.frozen? ⟨w.heap.size + 1, 1, none⟩ = false ∧ W.frozen? ⟨w.heap.size + 1 + 1, 0, none⟩ = false ∧ W.frozen? ⟨w.heap.size + 1 + 1, 1, none⟩ = false) (first | exact s0 | exact s1 | exact s2)
    (fail)
  obtain ⟨D0, D1, D2, D3, BV9⟩ := two_boxes B11 Rl_11 Rh_11 (by first | omega | (have := S3.out; have := Lx_3.out; have := Ll_3.out; have := Lh_3.out; omega)) (show w.heap.size ≤ w.heap.size + 1 by first | exact Nat.le_refl _ | omega | (have := S3.out; have := Lx_3.out; have := Ll_3.out; have := Lh_3.out; omega)) (show w.heap.size ≤ w.heap.size + 1 + 1 by first | exact Nat.le_refl _ | omega | (have := S3.out; have := Lx_3.out; have := Ll_3.out; have := Lh_3.out; omega)) (.int .u64 (u1 : Nat)) (.int .u64 (v1 : Nat)) (.int .u64 0) (.int .u64 0)
  obtain ⟨V9, hV9⟩ : ∃ V, ((((w11.setCell ⟨w.heap.size + 1, 0, none⟩ (.int .u64 (u1 : Nat))).setCell ⟨w.heap.size + 1, 1, none⟩ (.int .u64 (v1 : Nat))).setCell ⟨w.heap.size + 1 + 1, 0, none⟩ (.int .u64 0)).setCell ⟨w.heap.size + 1 + 1, 1, none⟩ (.int .u64 0)).drew = V := ⟨_, rfl⟩
  rw [hV9] at D0 D1 D2 D3 BV9 ⊢
  clear s0 s1 s2 sTA sTB hA0 hA1 hB0 hB1 hV9 il0 il1 ih0 ih1
  go_wp2
  exact bodyPost_ret (v := .tuple #[.agg #[.int .u64 (u1 : Nat), .int .u64 (v1 : Nat)], .agg #[.int .u64 0, .int .u64 0], .int .i64 0]) (by simp [results, Tryz.results28, go_sem, D0, D1, D2, D3]) rfl ⟨rfl, BV9⟩
set_option maxRecDepth 100000 in
set_option maxHeartbeats 4000000 in
theorem ru_Near_ne (f : Int) (b : Bool) (s t : ByteArray) (e : Int) (nb : Bool) (T La : Int) (ws : ByteArray) (more : Bool) (u1 v1 u2 v2 zu zv : Nat) (f1 f2 : Int) (w : World)
    (KC : Box (∀ w, TabAt w → Calls Tryz.prog 65 #[.int .u8 f, .int .u8 2, .agg #[.bool b, .string s, .string t, .int .i64 e]] w fun r w' => r = .returned (.int .i64 0) ∧ Below w.heap.size w w'))
    (KX : Box (∀ w, FAt w → TabAt w → Calls Tryz.prog 67 #[.int .u8 f, .agg #[.bool b, .string s, .string t, .int .i64 e]] w fun r w' => r = .returned (.agg #[.bool nb, .int .i64 T, .int .i64 La, .string ws, .bool more]) ∧ Below w.heap.size w w'))
    (K1 : Box (∀ w, FAt w → TabAt w → Calls Tryz.prog 66 #[.int .u8 f, .int .u8 2, .agg #[.bool nb, .int .i64 T, .int .i64 La, .string ws, .bool more]] w fun r w' => r = .returned (.tuple #[.agg #[.int .u64 (u1 : Nat), .int .u64 (v1 : Nat)], .int .u8 f1]) ∧ Below w.heap.size w w'))
    (K2 : Box (∀ w, FAt w → TabAt w → Calls Tryz.prog 66 #[.int .u8 f, .int .u8 3, .agg #[.bool nb, .int .i64 T, .int .i64 La, .string ws, .bool more]] w fun r w' => r = .returned (.tuple #[.agg #[.int .u64 (u2 : Nat), .int .u64 (v2 : Nat)], .int .u8 f2]) ∧ Below w.heap.size w w'))
    (KZ : Box (∀ w, FAt w → Calls Tryz.prog 74 #[.int .u8 f, .bool true] w fun r w' => r = .returned (.agg #[.int .u64 (zu : Nat), .int .u64 (zv : Nat)]) ∧ Below w.heap.size w w'))
    (hx : (((u2 : Nat) : Int) == ((zu : Nat) : Int)) = false ∧ decide (u2 = zu) = false ∨ u2 = zu ∧ ((((v2 : Nat) : Int) == ((zv : Nat) : Int)) = false ∧ decide (v2 = zv) = false))
    (hT : FAt w) (hT2 : TabAt w) : Calls Tryz.prog 28 #[.int .u8 f, .agg #[.bool b, .string s, .string t, .int .i64 e]] w fun r w' => r = .returned (.tuple #[.agg #[.int .u64 (u1 : Nat), .int .u64 (v1 : Nat)], .agg #[.int .u64 (u2 : Nat), .int .u64 (v2 : Nat)], .int .i64 0]) ∧ Below w.heap.size w w' := by
  have FF := box hT
  have TT := box hT2
  clear hT hT2
  rcases hx with ⟨x1, x2⟩ | ⟨rfl, x1, x2⟩
  all_goals
    obtain ⟨Rx_0, Rl_0, Rh_0, B0⟩ := opn3 w (Obj.cells #[.bool b, .string s, .string t, .int .i64 e] 41) (Obj.cells #[.int .u64 0, .int .u64 0] 25) (Obj.cells #[.int .u64 0, .int .u64 0] 25)
    go_enter Tryz.func28, Tryz.ntmps28
    go_wp2_with fail
    refine (KC.out _ (tabB TT.out B0)).mono ?_
    rintro r w1 ⟨rfl, b1⟩
    have B1 : Below w.heap.size w w1 := btr B0 b1
    have Rx_1 := heap_of b1 _ _ _ Rx_0
    have Rl_1 := heap_of b1 _ _ _ Rl_0
    have Rh_1 := heap_of b1 _ _ _ Rh_0
    clear b1 B0 Rx_0 Rl_0 Rh_0
    obtain ⟨cx_1_0, cx_1_1, cx_1_2, cx_1_3⟩ := cells4s Rx_1
    obtain ⟨cl_1_0, cl_1_1⟩ := cells2s Rl_1
    obtain ⟨ch_1_0, ch_1_1⟩ := cells2s Rh_1
    go_wp2_with fail
    refine (KX.out _ (fatB FF.out B1) (tabB TT.out B1)).mono ?_
    rintro r w2 ⟨rfl, b2⟩
    have B2 : Below w.heap.size w w2 := btr B1 b2
    have Rx_2 := heap_of b2 _ _ _ Rx_1
    have Rl_2 := heap_of b2 _ _ _ Rl_1
    have Rh_2 := heap_of b2 _ _ _ Rh_1
    clear b2 B1 Rx_1 cx_1_0 cx_1_1 cx_1_2 cx_1_3 Rl_1 cl_1_0 cl_1_1 Rh_1 ch_1_0 ch_1_1
    obtain ⟨cx_2_0, cx_2_1, cx_2_2, cx_2_3⟩ := cells4s Rx_2
    obtain ⟨cl_2_0, cl_2_1⟩ := cells2s Rl_2
    obtain ⟨ch_2_0, ch_2_1⟩ := cells2s Rh_2
    have S3 := box B2.size
    have Lx_3 : Box (w.heap.size < w2.heap.size) := box (Array.getElem?_eq_some_iff.1 Rx_2).1
    have Ll_3 : Box (w.heap.size + 1 < w2.heap.size) := box (Array.getElem?_eq_some_iff.1 Rl_2).1
    have Lh_3 : Box (w.heap.size + 1 + 1 < w2.heap.size) := box (Array.getElem?_eq_some_iff.1 Rh_2).1
    have Rn_3 := heap_alloc_last w2 (Obj.cells #[.bool nb, .int .i64 T, .int .i64 La, .string ws, .bool more] 106)
    have B3 := btr B2 (bal w2 (Obj.cells #[.bool nb, .int .i64 T, .int .i64 La, .string ws, .bool more] 106))
    have Rx_3 := heap_of (bal w2 (Obj.cells #[.bool nb, .int .i64 T, .int .i64 La, .string ws, .bool more] 106)) _ _ _ Rx_2
    have Rl_3 := heap_of (bal w2 (Obj.cells #[.bool nb, .int .i64 T, .int .i64 La, .string ws, .bool more] 106)) _ _ _ Rl_2
    have Rh_3 := heap_of (bal w2 (Obj.cells #[.bool nb, .int .i64 T, .int .i64 La, .string ws, .bool more] 106)) _ _ _ Rh_2
    clear B2 Rx_2 cx_2_0 cx_2_1 cx_2_2 cx_2_3 Rl_2 cl_2_0 cl_2_1 Rh_2 ch_2_0 ch_2_1
    obtain ⟨cx_3_0, cx_3_1, cx_3_2, cx_3_3⟩ := cells4s Rx_3
    obtain ⟨cl_3_0, cl_3_1⟩ := cells2s Rl_3
    obtain ⟨ch_3_0, ch_3_1⟩ := cells2s Rh_3
    have cn_3_0 := cells4 Rn_3 0 _ rfl
    have cn_3_1 := cells4 Rn_3 1 _ rfl
    have cn_3_2 := cells4 Rn_3 2 _ rfl
    have cn_3_3 := cells4 Rn_3 3 _ rfl
    have cn_3_4 := cells4 Rn_3 4 _ rfl
    go_wp2_with fail
    refine (K1.out _ (fatB FF.out B3) (tabB TT.out B3)).mono ?_
    rintro r w4 ⟨rfl, b4⟩
    have B4 : Below w.heap.size w w4 := btr B3 b4
    have Rx_4 := heap_of b4 _ _ _ Rx_3
    have Rl_4 := heap_of b4 _ _ _ Rl_3
    have Rh_4 := heap_of b4 _ _ _ Rh_3
    have Rn_4 := heap_of b4 _ _ _ Rn_3
    clear b4 B3 Rx_3 cx_3_0 cx_3_1 cx_3_2 cx_3_3 Rl_3 cl_3_0 cl_3_1 Rh_3 ch_3_0 ch_3_1 Rn_3 cn_3_0 cn_3_1 cn_3_2 cn_3_3 cn_3_4
    obtain ⟨cx_4_0, cx_4_1, cx_4_2, cx_4_3⟩ := cells4s Rx_4
    obtain ⟨cl_4_0, cl_4_1⟩ := cells2s Rl_4
    obtain ⟨ch_4_0, ch_4_1⟩ := cells2s Rh_4
    have cn_4_0 := cells4 Rn_4 0 _ rfl
    have cn_4_1 := cells4 Rn_4 1 _ rfl
    have cn_4_2 := cells4 Rn_4 2 _ rfl
    have cn_4_3 := cells4 Rn_4 3 _ rfl
    have cn_4_4 := cells4 Rn_4 4 _ rfl
    have q0_5 := fz (k := 0) Rl_4
    have q1_5 := fz (k := 1) Rl_4
    have B5 := set2_below B4 (show w.heap.size ≤ w.heap.size + 1 by first | exact Nat.le_refl _ | omega | (have := S3.out; have := Lx_3.out; have := Ll_3.out; have := Lh_3.out; omega)) (.int .u64 (u1 : Nat)) (.int .u64 (v1 : Nat))
    have Rl_5 : ((w4.setCell ⟨w.heap.size + 1, 0, none⟩ (.int .u64 (u1 : Nat))).setCell ⟨w.heap.size + 1, 1, none⟩ (.int .u64 (v1 : Nat))).heap[w.heap.size + 1]? = some (Obj.cells #[.int .u64 (u1 : Nat), .int .u64 (v1 : Nat)] 25) := set2_row Rl_4 _ _
    have Rx_5 : ((w4.setCell ⟨w.heap.size + 1, 0, none⟩ (.int .u64 (u1 : Nat))).setCell ⟨w.heap.size + 1, 1, none⟩ (.int .u64 (v1 : Nat))).heap[w.heap.size]? = some (Obj.cells #[.bool b, .string s, .string t, .int .i64 e] 41) := (setCell_other (by first | omega | (have := S3.out; have := Lx_3.out; have := Ll_3.out; have := Lh_3.out; omega))).trans ((setCell_other (by first | omega | (have := S3.out; have := Lx_3.out; have := Ll_3.out; have := Lh_3.out; omega))).trans Rx_4)
    have Rh_5 : ((w4.setCell ⟨w.heap.size + 1, 0, none⟩ (.int .u64 (u1 : Nat))).setCell ⟨w.heap.size + 1, 1, none⟩ (.int .u64 (v1 : Nat))).heap[w.heap.size + 1 + 1]? = some (Obj.cells #[.int .u64 0, .int .u64 0] 25) := (setCell_other (by first | omega | (have := S3.out; have := Lx_3.out; have := Ll_3.out; have := Lh_3.out; omega))).trans ((setCell_other (by first | omega | (have := S3.out; have := Lx_3.out; have := Ll_3.out; have := Lh_3.out; omega))).trans Rh_4)
    have Rn_5 : ((w4.setCell ⟨w.heap.size + 1, 0, none⟩ (.int .u64 (u1 : Nat))).setCell ⟨w.heap.size + 1, 1, none⟩ (.int .u64 (v1 : Nat))).heap[w2.heap.size]? = some (Obj.cells #[.bool nb, .int .i64 T, .int .i64 La, .string ws, .bool more] 106) := (setCell_other (by first | omega | (have := S3.out; have := Lx_3.out; have := Ll_3.out; have := Lh_3.out; omega))).trans ((setCell_other (by first | omega | (have := S3.out; have := Lx_3.out; have := Ll_3.out; have := Lh_3.out; omega))).trans Rn_4)
    obtain ⟨cx_5_0, cx_5_1, cx_5_2, cx_5_3⟩ := cells4s Rx_5
    obtain ⟨cl_5_0, cl_5_1⟩ := cells2s Rl_5
    obtain ⟨ch_5_0, ch_5_1⟩ := cells2s Rh_5
    have cn_5_0 := cells4 Rn_5 0 _ rfl
    have cn_5_1 := cells4 Rn_5 1 _ rfl
    have cn_5_2 := cells4 Rn_5 2 _ rfl
    have cn_5_3 := cells4 Rn_5 3 _ rfl
    have cn_5_4 := cells4 Rn_5 4 _ rfl
    go_wp2_with fail
    refine (K2.out _ (fatB FF.out B5) (tabB TT.out B5)).mono ?_
    rintro r w6 ⟨rfl, b6⟩
    have B6 : Below w.heap.size w w6 := btr B5 b6
    have Rx_6 := heap_of b6 _ _ _ Rx_5
    have Rl_6 := heap_of b6 _ _ _ Rl_5
    have Rh_6 := heap_of b6 _ _ _ Rh_5
    have Rn_6 := heap_of b6 _ _ _ Rn_5
    clear b6 B5 Rx_5 cx_5_0 cx_5_1 cx_5_2 cx_5_3 Rl_5 cl_5_0 cl_5_1 Rh_5 ch_5_0 ch_5_1 Rn_5 cn_5_0 cn_5_1 cn_5_2 cn_5_3 cn_5_4
    obtain ⟨cx_6_0, cx_6_1, cx_6_2, cx_6_3⟩ := cells4s Rx_6
    obtain ⟨cl_6_0, cl_6_1⟩ := cells2s Rl_6
    obtain ⟨ch_6_0, ch_6_1⟩ := cells2s Rh_6
    have cn_6_0 := cells4 Rn_6 0 _ rfl
    have cn_6_1 := cells4 Rn_6 1 _ rfl
    have cn_6_2 := cells4 Rn_6 2 _ rfl
    have cn_6_3 := cells4 Rn_6 3 _ rfl
    have cn_6_4 := cells4 Rn_6 4 _ rfl
    have q0_7 := fz (k := 0) Rh_6
    have q1_7 := fz (k := 1) Rh_6
    have B7 := set2_below B6 (show w.heap.size ≤ w.heap.size + 1 + 1 by first | exact Nat.le_refl _ | omega | (have := S3.out; have := Lx_3.out; have := Ll_3.out; have := Lh_3.out; omega)) (.int .u64 (u2 : Nat)) (.int .u64 (v2 : Nat))
    have Rh_7 : ((w6.setCell ⟨w.heap.size + 1 + 1, 0, none⟩ (.int .u64 (u2 : Nat))).setCell ⟨w.heap.size + 1 + 1, 1, none⟩ (.int .u64 (v2 : Nat))).heap[w.heap.size + 1 + 1]? = some (Obj.cells #[.int .u64 (u2 : Nat), .int .u64 (v2 : Nat)] 25) := set2_row Rh_6 _ _
    have Rx_7 : ((w6.setCell ⟨w.heap.size + 1 + 1, 0, none⟩ (.int .u64 (u2 : Nat))).setCell ⟨w.heap.size + 1 + 1, 1, none⟩ (.int .u64 (v2 : Nat))).heap[w.heap.size]? = some (Obj.cells #[.bool b, .string s, .string t, .int .i64 e] 41) := (setCell_other (by first | omega | (have := S3.out; have := Lx_3.out; have := Ll_3.out; have := Lh_3.out; omega))).trans ((setCell_other (by first | omega | (have := S3.out; have := Lx_3.out; have := Ll_3.out; have := Lh_3.out; omega))).trans Rx_6)
    have Rl_7 : ((w6.setCell ⟨w.heap.size + 1 + 1, 0, none⟩ (.int .u64 (u2 : Nat))).setCell ⟨w.heap.size + 1 + 1, 1, none⟩ (.int .u64 (v2 : Nat))).heap[w.heap.size + 1]? = some (Obj.cells #[.int .u64 (u1 : Nat), .int .u64 (v1 : Nat)] 25) := (setCell_other (by first | omega | (have := S3.out; have := Lx_3.out; have := Ll_3.out; have := Lh_3.out; omega))).trans ((setCell_other (by first | omega | (have := S3.out; have := Lx_3.out; have := Ll_3.out; have := Lh_3.out; omega))).trans Rl_6)
    have Rn_7 : ((w6.setCell ⟨w.heap.size + 1 + 1, 0, none⟩ (.int .u64 (u2 : Nat))).setCell ⟨w.heap.size + 1 + 1, 1, none⟩ (.int .u64 (v2 : Nat))).heap[w2.heap.size]? = some (Obj.cells #[.bool nb, .int .i64 T, .int .i64 La, .string ws, .bool more] 106) := (setCell_other (by first | omega | (have := S3.out; have := Lx_3.out; have := Ll_3.out; have := Lh_3.out; omega))).trans ((setCell_other (by first | omega | (have := S3.out; have := Lx_3.out; have := Ll_3.out; have := Lh_3.out; omega))).trans Rn_6)
    obtain ⟨cx_7_0, cx_7_1, cx_7_2, cx_7_3⟩ := cells4s Rx_7
    obtain ⟨cl_7_0, cl_7_1⟩ := cells2s Rl_7
    obtain ⟨ch_7_0, ch_7_1⟩ := cells2s Rh_7
    have cn_7_0 := cells4 Rn_7 0 _ rfl
    have cn_7_1 := cells4 Rn_7 1 _ rfl
    have cn_7_2 := cells4 Rn_7 2 _ rfl
    have cn_7_3 := cells4 Rn_7 3 _ rfl
    have cn_7_4 := cells4 Rn_7 4 _ rfl
    go_wp2_with fail
    obtain ⟨F, hF1, hF2⟩ := below_fun ((w6.setCell ⟨w.heap.size + 1 + 1, 0, none⟩ (.int .u64 (u2 : Nat))).setCell ⟨w.heap.size + 1 + 1, 1, none⟩ (.int .u64 (v2 : Nat)))
    have fx_0 := fun u => cells4 (heap_of (hF1 u) _ _ _ Rx_7) 0 _ rfl
    have fx_1 := fun u => cells4 (heap_of (hF1 u) _ _ _ Rx_7) 1 _ rfl
    have fx_2 := fun u => cells4 (heap_of (hF1 u) _ _ _ Rx_7) 2 _ rfl
    have fx_3 := fun u => cells4 (heap_of (hF1 u) _ _ _ Rx_7) 3 _ rfl
    have fl_0 := fun u => cells4 (heap_of (hF1 u) _ _ _ Rl_7) 0 _ rfl
    have fl_1 := fun u => cells4 (heap_of (hF1 u) _ _ _ Rl_7) 1 _ rfl
    have fh_0 := fun u => cells4 (heap_of (hF1 u) _ _ _ Rh_7) 0 _ rfl
    have fh_1 := fun u => cells4 (heap_of (hF1 u) _ _ _ Rh_7) 1 _ rfl
    have fn_0 := fun u => cells4 (heap_of (hF1 u) _ _ _ Rn_7) 0 _ rfl
    have fn_1 := fun u => cells4 (heap_of (hF1 u) _ _ _ Rn_7) 1 _ rfl
    have fn_2 := fun u => cells4 (heap_of (hF1 u) _ _ _ Rn_7) 2 _ rfl
    have fn_3 := fun u => cells4 (heap_of (hF1 u) _ _ _ Rn_7) 3 _ rfl
    have fn_4 := fun u => cells4 (heap_of (hF1 u) _ _ _ Rn_7) 4 _ rfl
    have FG : Box (∀ u, FAt (F u)) := box (fun u => fatB FF.out (btr B7 (hF1 u)))
    refine wp_region_below F hF2 (by kernel_rfl) (by kernel_rfl) ?_
    repeat first | go_big_quiet_step (first | (go_at_call 74; exact quietF hF1 hF2 (KZ.out _ (FG.out _))) | fail) | quiet_step (first | (go_at_call 74; exact quietF hF1 hF2 (KZ.out _ (FG.out _))) | fail)
    refine wpQuiet_nil ?_
    rintro _ ⟨uW, rfl⟩
    have B8 := btr B7 (hF1 uW)
    have Rx_8 := heap_of (hF1 uW) _ _ _ Rx_7
    have Rl_8 := heap_of (hF1 uW) _ _ _ Rl_7
    have Rh_8 := heap_of (hF1 uW) _ _ _ Rh_7
    have Rn_8 := heap_of (hF1 uW) _ _ _ Rn_7
    obtain ⟨w8, hw⟩ : ∃ V, F uW = V := ⟨_, rfl⟩
    rw [hw] at B8 Rx_8 Rl_8 Rh_8 Rn_8
    try rw [hw]
    clear hw hF1 hF2 B7 fx_0 fx_1 fx_2 fx_3 fl_0 fl_1 fh_0 fh_1 fn_0 fn_1 fn_2 fn_3 fn_4 Rx_7 cx_7_0 cx_7_1 cx_7_2 cx_7_3 Rl_7 cl_7_0 cl_7_1 Rh_7 ch_7_0 ch_7_1 Rn_7 cn_7_0 cn_7_1 cn_7_2 cn_7_3 cn_7_4
    clear FG
    clear F
    obtain ⟨cx_8_0, cx_8_1, cx_8_2, cx_8_3⟩ := cells4s Rx_8
    obtain ⟨cl_8_0, cl_8_1⟩ := cells2s Rl_8
    obtain ⟨ch_8_0, ch_8_1⟩ := cells2s Rh_8
    have cn_8_0 := cells4 Rn_8 0 _ rfl
    have cn_8_1 := cells4 Rn_8 1 _ rfl
    have cn_8_2 := cells4 Rn_8 2 _ rfl
    have cn_8_3 := cells4 Rn_8 3 _ rfl
    have cn_8_4 := cells4 Rn_8 4 _ rfl
    have sTA : Box (∀ W : World, (Below w.heap.size w W ∧ W.heap[w.heap.size + 1]? = some (Obj.cells #[.int .u64 (u1 : Nat), .int .u64 (v1 : Nat)] 25) ∧ W.heap[w.heap.size + 1 + 1]? = some (Obj.cells #[.int .u64 (u2 : Nat), .int .u64 (v2 : Nat)] 25) ∧ W.cell? ⟨w.heap.size + 1, 0, none⟩ = some (.int .u64 (u1 : Nat)) ∧ W.cell? ⟨w.heap.size + 1, 1, none⟩ = some (.int .u64 (v1 : Nat)) ∧ W.cell? ⟨w.heap.size + 1 + 1, 0, none⟩ = some (.int .u64 (u2 : Nat)) ∧ W.cell? ⟨w.heap.size + 1 + 1, 1, none⟩ = some (.int .u64 (v2 : Nat)) ∧ W.frozen? ⟨w.heap.size + 1, 0, none⟩ = false ∧ W.frozen? ⟨w.heap.size + 1, 1, none⟩ = false ∧ W.frozen? ⟨w.heap.size + 1 + 1, 0, none⟩ = false ∧ W.frozen? ⟨w.heap.size + 1 + 1, 1, none⟩ = false) → (Below w.heap.size w ((W.setCell ⟨w.heap.size + 1, 0, none⟩ (.int .u64 (u1 : Nat))).setCell ⟨w.heap.size + 1, 1, none⟩ (.int .u64 (v1 : Nat))) ∧ ((W.setCell ⟨w.heap.size + 1, 0, none⟩ (.int .u64 (u1 : Nat))).setCell ⟨w.heap.size + 1, 1, none⟩ (.int .u64 (v1 : Nat))).heap[w.heap.size + 1]? = some (Obj.cells #[.int .u64 (u1 : Nat), .int .u64 (v1 : Nat)] 25) ∧ ((W.setCell ⟨w.heap.size + 1, 0, none⟩ (.int .u64 (u1 : Nat))).setCell ⟨w.heap.size + 1, 1, none⟩ (.int .u64 (v1 : Nat))).heap[w.heap.size + 1 + 1]? = some (Obj.cells #[.int .u64 (u2 : Nat), .int .u64 (v2 : Nat)] 25) ∧ ((W.setCell ⟨w.heap.size + 1, 0, none⟩ (.int .u64 (u1 : Nat))).setCell ⟨w.heap.size + 1, 1, none⟩ (.int .u64 (v1 : Nat))).cell? ⟨w.heap.size + 1, 0, none⟩ = some (.int .u64 (u1 : Nat)) ∧ ((W.setCell ⟨w.heap.size + 1, 0, none⟩ (.int .u64 (u1 : Nat))).setCell ⟨w.heap.size + 1, 1, none⟩ (.int .u64 (v1 : Nat))).cell? ⟨w.heap.size + 1, 1, none⟩ = some (.int .u64 (v1 : Nat)) ∧ ((W.setCell ⟨w.heap.size + 1, 0, none⟩ (.int .u64 (u1 : Nat))).setCell ⟨w.heap.size + 1, 1, none⟩ (.int .u64 (v1 : Nat))).cell? ⟨w.heap.size + 1 + 1, 0, none⟩ = some (.int .u64 (u2 : Nat)) ∧ ((W.setCell ⟨w.heap.size + 1, 0, none⟩ (.int .u64 (u1 : Nat))).setCell ⟨w.heap.size + 1, 1, none⟩ (.int .u64 (v1 : Nat))).cell? ⟨w.heap.size + 1 + 1, 1, none⟩ = some (.int .u64 (v2 : Nat)) ∧ ((W.setCell ⟨w.heap.size + 1, 0, none⟩ (.int .u64 (u1 : Nat))).setCell ⟨w.heap.size + 1, 1, none⟩ (.int .u64 (v1 : Nat))).frozen? ⟨w.heap.size + 1, 0, none⟩ = false ∧ ((W.setCell ⟨w.heap.size + 1, 0, none⟩ (.int .u64 (u1 : Nat))).setCell ⟨w.heap.size + 1, 1, none⟩ (.int .u64 (v1 : Nat))).frozen? ⟨w.heap.size + 1, 1, none⟩ = false ∧ ((W.setCell ⟨w.heap.size + 1, 0, none⟩ (.int .u64 (u1 : Nat))).setCell ⟨w.heap.size + 1, 1, none⟩ (.int .u64 (v1 : Nat))).frozen? ⟨w.heap.size + 1 + 1, 0, none⟩ = false ∧ ((W.setCell ⟨w.heap.size + 1, 0, none⟩ (.int .u64 (u1 : Nat))).setCell ⟨w.heap.size + 1, 1, none⟩ (.int .u64 (v1 : Nat))).frozen? ⟨w.heap.size + 1 + 1, 1, none⟩ = false)) := box (fun W h => ⟨set2_below h.1 (show w.heap.size ≤ w.heap.size + 1 by first | exact Nat.le_refl _ | omega | (have := S3.out; have := Lx_3.out; have := Ll_3.out; have := Lh_3.out; omega)) _ _, set2_row h.2.1 (.int .u64 (u1 : Nat)) (.int .u64 (v1 : Nat)), (setCell_other (by first | omega | (have := S3.out; have := Lx_3.out; have := Ll_3.out; have := Lh_3.out; omega))).trans ((setCell_other (by first | omega | (have := S3.out; have := Lx_3.out; have := Ll_3.out; have := Lh_3.out; omega))).trans h.2.2.1), cell7 (set2_row h.2.1 (.int .u64 (u1 : Nat)) (.int .u64 (v1 : Nat))) 0 _ rfl, cell7 (set2_row h.2.1 (.int .u64 (u1 : Nat)) (.int .u64 (v1 : Nat))) 1 _ rfl, cell7 ((setCell_other (by first | omega | (have := S3.out; have := Lx_3.out; have := Ll_3.out; have := Lh_3.out; omega))).trans ((setCell_other (by first | omega | (have := S3.out; have := Lx_3.out; have := Ll_3.out; have := Lh_3.out; omega))).trans h.2.2.1)) 0 _ rfl, cell7 ((setCell_other (by first | omega | (have := S3.out; have := Lx_3.out; have := Ll_3.out; have := Lh_3.out; omega))).trans ((setCell_other (by first | omega | (have := S3.out; have := Lx_3.out; have := Ll_3.out; have := Lh_3.out; omega))).trans h.2.2.1)) 1 _ rfl, fz (k := 0) (set2_row h.2.1 (.int .u64 (u1 : Nat)) (.int .u64 (v1 : Nat))), fz (k := 1) (set2_row h.2.1 (.int .u64 (u1 : Nat)) (.int .u64 (v1 : Nat))), fz (k := 0) ((setCell_other (by first | omega | (have := S3.out; have := Lx_3.out; have := Ll_3.out; have := Lh_3.out; omega))).trans ((setCell_other (by first | omega | (have := S3.out; have := Lx_3.out; have := Ll_3.out; have := Lh_3.out; omega))).trans h.2.2.1)), fz (k := 1) ((setCell_other (by first | omega | (have := S3.out; have := Lx_3.out; have := Ll_3.out; have := Lh_3.out; omega))).trans ((setCell_other (by first | omega | (have := S3.out; have := Lx_3.out; have := Ll_3.out; have := Lh_3.out; omega))).trans h.2.2.1))⟩)
    have sTB : Box (∀ W : World, (Below w.heap.size w W ∧ W.heap[w.heap.size + 1]? = some (Obj.cells #[.int .u64 (u1 : Nat), .int .u64 (v1 : Nat)] 25) ∧ W.heap[w.heap.size + 1 + 1]? = some (Obj.cells #[.int .u64 (u2 : Nat), .int .u64 (v2 : Nat)] 25) ∧ W.cell? ⟨w.heap.size + 1, 0, none⟩ = some (.int .u64 (u1 : Nat)) ∧ W.cell? ⟨w.heap.size + 1, 1, none⟩ = some (.int .u64 (v1 : Nat)) ∧ W.cell? ⟨w.heap.size + 1 + 1, 0, none⟩ = some (.int .u64 (u2 : Nat)) ∧ W.cell? ⟨w.heap.size + 1 + 1, 1, none⟩ = some (.int .u64 (v2 : Nat)) ∧ W.frozen? ⟨w.heap.size + 1, 0, none⟩ = false ∧ W.frozen? ⟨w.heap.size + 1, 1, none⟩ = false ∧ W.frozen? ⟨w.heap.size + 1 + 1, 0, none⟩ = false ∧ W.frozen? ⟨w.heap.size + 1 + 1, 1, none⟩ = false) → (Below w.heap.size w ((W.setCell ⟨w.heap.size + 1 + 1, 0, none⟩ (.int .u64 (u2 : Nat))).setCell ⟨w.heap.size + 1 + 1, 1, none⟩ (.int .u64 (v2 : Nat))) ∧ ((W.setCell ⟨w.heap.size + 1 + 1, 0, none⟩ (.int .u64 (u2 : Nat))).setCell ⟨w.heap.size + 1 + 1, 1, none⟩ (.int .u64 (v2 : Nat))).heap[w.heap.size + 1]? = some (Obj.cells #[.int .u64 (u1 : Nat), .int .u64 (v1 : Nat)] 25) ∧ ((W.setCell ⟨w.heap.size + 1 + 1, 0, none⟩ (.int .u64 (u2 : Nat))).setCell ⟨w.heap.size + 1 + 1, 1, none⟩ (.int .u64 (v2 : Nat))).heap[w.heap.size + 1 + 1]? = some (Obj.cells #[.int .u64 (u2 : Nat), .int .u64 (v2 : Nat)] 25) ∧ ((W.setCell ⟨w.heap.size + 1 + 1, 0, none⟩ (.int .u64 (u2 : Nat))).setCell ⟨w.heap.size + 1 + 1, 1, none⟩ (.int .u64 (v2 : Nat))).cell? ⟨w.heap.size + 1, 0, none⟩ = some (.int .u64 (u1 : Nat)) ∧ ((W.setCell ⟨w.heap.size + 1 + 1, 0, none⟩ (.int .u64 (u2 : Nat))).setCell ⟨w.heap.size + 1 + 1, 1, none⟩ (.int .u64 (v2 : Nat))).cell? ⟨w.heap.size + 1, 1, none⟩ = some (.int .u64 (v1 : Nat)) ∧ ((W.setCell ⟨w.heap.size + 1 + 1, 0, none⟩ (.int .u64 (u2 : Nat))).setCell ⟨w.heap.size + 1 + 1, 1, none⟩ (.int .u64 (v2 : Nat))).cell? ⟨w.heap.size + 1 + 1, 0, none⟩ = some (.int .u64 (u2 : Nat)) ∧ ((W.setCell ⟨w.heap.size + 1 + 1, 0, none⟩ (.int .u64 (u2 : Nat))).setCell ⟨w.heap.size + 1 + 1, 1, none⟩ (.int .u64 (v2 : Nat))).cell? ⟨w.heap.size + 1 + 1, 1, none⟩ = some (.int .u64 (v2 : Nat)) ∧ ((W.setCell ⟨w.heap.size + 1 + 1, 0, none⟩ (.int .u64 (u2 : Nat))).setCell ⟨w.heap.size + 1 + 1, 1, none⟩ (.int .u64 (v2 : Nat))).frozen? ⟨w.heap.size + 1, 0, none⟩ = false ∧ ((W.setCell ⟨w.heap.size + 1 + 1, 0, none⟩ (.int .u64 (u2 : Nat))).setCell ⟨w.heap.size + 1 + 1, 1, none⟩ (.int .u64 (v2 : Nat))).frozen? ⟨w.heap.size + 1, 1, none⟩ = false ∧ ((W.setCell ⟨w.heap.size + 1 + 1, 0, none⟩ (.int .u64 (u2 : Nat))).setCell ⟨w.heap.size + 1 + 1, 1, none⟩ (.int .u64 (v2 : Nat))).frozen? ⟨w.heap.size + 1 + 1, 0, none⟩ = false ∧ ((W.setCell ⟨w.heap.size + 1 + 1, 0, none⟩ (.int .u64 (u2 : Nat))).setCell ⟨w.heap.size + 1 + 1, 1, none⟩ (.int .u64 (v2 : Nat))).frozen? ⟨w.heap.size + 1 + 1, 1, none⟩ = false)) := box (fun W h => ⟨set2_below h.1 (show w.heap.size ≤ w.heap.size + 1 + 1 by first | exact Nat.le_refl _ | omega | (have := S3.out; have := Lx_3.out; have := Ll_3.out; have := Lh_3.out; omega)) _ _, (setCell_other (by first | omega | (have := S3.out; have := Lx_3.out; have := Ll_3.out; have := Lh_3.out; omega))).trans ((setCell_other (by first | omega | (have := S3.out; have := Lx_3.out; have := Ll_3.out; have := Lh_3.out; omega))).trans h.2.1), set2_row h.2.2.1 (.int .u64 (u2 : Nat)) (.int .u64 (v2 : Nat)), cell7 ((setCell_other (by first | omega | (have := S3.out; have := Lx_3.out; have := Ll_3.out; have := Lh_3.out; omega))).trans ((setCell_other (by first | omega | (have := S3.out; have := Lx_3.out; have := Ll_3.out; have := Lh_3.out; omega))).trans h.2.1)) 0 _ rfl, cell7 ((setCell_other (by first | omega | (have := S3.out; have := Lx_3.out; have := Ll_3.out; have := Lh_3.out; omega))).trans ((setCell_other (by first | omega | (have := S3.out; have := Lx_3.out; have := Ll_3.out; have := Lh_3.out; omega))).trans h.2.1)) 1 _ rfl, cell7 (set2_row h.2.2.1 (.int .u64 (u2 : Nat)) (.int .u64 (v2 : Nat))) 0 _ rfl, cell7 (set2_row h.2.2.1 (.int .u64 (u2 : Nat)) (.int .u64 (v2 : Nat))) 1 _ rfl, fz (k := 0) ((setCell_other (by first | omega | (have := S3.out; have := Lx_3.out; have := Ll_3.out; have := Lh_3.out; omega))).trans ((setCell_other (by first | omega | (have := S3.out; have := Lx_3.out; have := Ll_3.out; have := Lh_3.out; omega))).trans h.2.1)), fz (k := 1) ((setCell_other (by first | omega | (have := S3.out; have := Lx_3.out; have := Ll_3.out; have := Lh_3.out; omega))).trans ((setCell_other (by first | omega | (have := S3.out; have := Lx_3.out; have := Ll_3.out; have := Lh_3.out; omega))).trans h.2.1)), fz (k := 0) (set2_row h.2.2.1 (.int .u64 (u2 : Nat)) (.int .u64 (v2 : Nat))), fz (k := 1) (set2_row h.2.2.1 (.int .u64 (u2 : Nat)) (.int .u64 (v2 : Nat)))⟩)
    have s0 : Below w.heap.size w (w8).drew ∧ (w8).drew.heap[w.heap.size + 1]? = some (Obj.cells #[.int .u64 (u1 : Nat), .int .u64 (v1 : Nat)] 25) ∧ (w8).drew.heap[w.heap.size + 1 + 1]? = some (Obj.cells #[.int .u64 (u2 : Nat), .int .u64 (v2 : Nat)] 25) ∧ (w8).drew.cell? ⟨w.heap.size + 1, 0, none⟩ = some (.int .u64 (u1 : Nat)) ∧ (w8).drew.cell? ⟨w.heap.size + 1, 1, none⟩ = some (.int .u64 (v1 : Nat)) ∧ (w8).drew.cell? ⟨w.heap.size + 1 + 1, 0, none⟩ = some (.int .u64 (u2 : Nat)) ∧ (w8).drew.cell? ⟨w.heap.size + 1 + 1, 1, none⟩ = some (.int .u64 (v2 : Nat)) ∧ (w8).drew.frozen? ⟨w.heap.size + 1, 0, none⟩ = false ∧ (w8).drew.frozen? ⟨w.heap.size + 1, 1, none⟩ = false ∧ (w8).drew.frozen? ⟨w.heap.size + 1 + 1, 0, none⟩ = false ∧ (w8).drew.frozen? ⟨w.heap.size + 1 + 1, 1, none⟩ = false := ⟨B8.drew, Rl_8, Rh_8, cell7 (Rl_8) 0 _ rfl, cell7 (Rl_8) 1 _ rfl, cell7 (Rh_8) 0 _ rfl, cell7 (Rh_8) 1 _ rfl, fz (k := 0) (Rl_8), fz (k := 1) (Rl_8), fz (k := 0) (Rh_8), fz (k := 1) (Rh_8)⟩
    have s1 := sTA.out _ s0
    have s2 := sTB.out _ s1
    have hA0 := fz (k := 0) (s0.2.1)
    have hA1 := fz (k := 1) (s0.2.1)
    have hB0 := fz (k := 0) (s1.2.2.1)
    have hB1 := fz (k := 1) (s1.2.2.1)
    have il0 := fz (k := 0) Rl_8
    have il1 := fz (k := 1) Rl_8
    have ih0 := fz (k := 0) Rh_8
    have ih1 := fz (k := 1) Rh_8
    go_wp2_with fail
    go_region_held3 (fun W => Below w.heap.size w W ∧ W.heap[w.heap.size + 1]? = some (Obj.cells #[.int .u64 (u1 : Nat), .int .u64 (v1 : Nat)] 25) ∧ W.heap[w.heap.size + 1 + 1]? = some (Obj.cells #[.int .u64 (u2 : Nat), .int .u64 (v2 : Nat)] 25) ∧ W.cell? ⟨w.heap.size + 1, 0, none⟩ = some (.int .u64 (u1 : Nat)) ∧ W.cell? ⟨w.heap.size + 1, 1, none⟩ = some (.int .u64 (v1 : Nat)) ∧ W.cell? ⟨w.heap.size + 1 + 1, 0, none⟩ = some (.int .u64 (u2 : Nat)) ∧ W.cell? ⟨w.heap.size + 1 + 1, 1, none⟩ = some (.int .u64 (v2 : Nat)) ∧ W.frozen? ⟨w.heap.size + 1, 0, none⟩ = false ∧ W.frozen? ⟨w.heap.size + 1, 1, none⟩ = false ∧ W.frozen? ⟨w.heap.size + 1 + 1, 0, none⟩ = false ∧ W.frozen? ⟨w.heap.size + 1 + 1, 1, none⟩ = false) (first | exact s0 | exact s1 | exact s2)
      (fail)
    obtain ⟨D0, D1, D2, D3, BV9⟩ := two_boxes B8 Rl_8 Rh_8 (by first | omega | (have := S3.out; have := Lx_3.out; have := Ll_3.out; have := Lh_3.out; omega)) (show w.heap.size ≤ w.heap.size + 1 by first | exact Nat.le_refl _ | omega | (have := S3.out; have := Lx_3.out; have := Ll_3.out; have := Lh_3.out; omega)) (show w.heap.size ≤ w.heap.size + 1 + 1 by first | exact Nat.le_refl _ | omega | (have := S3.out; have := Lx_3.out; have := Ll_3.out; have := Lh_3.out; omega)) (.int .u64 (u1 : Nat)) (.int .u64 (v1 : Nat)) (.int .u64 (u2 : Nat)) (.int .u64 (v2 : Nat))
    obtain ⟨V9, hV9⟩ : ∃ V, ((((w8.setCell ⟨w.heap.size + 1, 0, none⟩ (.int .u64 (u1 : Nat))).setCell ⟨w.heap.size + 1, 1, none⟩ (.int .u64 (v1 : Nat))).setCell ⟨w.heap.size + 1 + 1, 0, none⟩ (.int .u64 (u2 : Nat))).setCell ⟨w.heap.size + 1 + 1, 1, none⟩ (.int .u64 (v2 : Nat))).drew = V := ⟨_, rfl⟩
    rw [hV9] at D0 D1 D2 D3 BV9 ⊢
    clear s0 s1 s2 sTA sTB hA0 hA1 hB0 hB1 hV9 il0 il1 ih0 ih1
    go_wp2
    exact bodyPost_ret (v := .tuple #[.agg #[.int .u64 (u1 : Nat), .int .u64 (v1 : Nat)], .agg #[.int .u64 (u2 : Nat), .int .u64 (v2 : Nat)], .int .i64 0]) (by simp [results, Tryz.results28, go_sem, D0, D1, D2, D3]) rfl ⟨rfl, BV9⟩
end Go.Proofs.YtbmhfcppaajgbaaGreatDoor
namespace Go.Proofs.YtbmhfcppaajgbaaGreatDoor
set_option maxRecDepth 100000
open Go.RowKit WMath XMath
set_option linter.unusedSimpArgs false
set_option linter.unusedVariables false

/-- A zero is told as the one whose sign is 0. -/
def nzB (f : Int) (M : Nat) : Nat := if M = eZero f true then 0 else M
theorem kC_null {f : Int} (hf : Is4 f) (neg : Bool) (e t : Nat) (he : e ≤ oV f) (ht : t < 2 ^ pV f) : (kC f (enc7 f neg e t) = 3 ∨ kC f (enc7 f neg e t) = 4) ↔ (e = 0 ∧ t = 0) := by
  obtain ⟨a, b, c, d⟩ := enc_k hf neg he ht
  have o := (nm8 hf).2.1
  unfold kC
  rw [b, c, d]
  constructor
  · intro h
    by_cases c1 : e = oV f
    · rw [if_pos c1] at h
      exfalso
      revert h
      (repeat' split) <;> omega
    · rw [if_neg c1] at h
      by_cases c2 : e = 0
      · rw [if_neg (by omega)] at h
        by_cases c3 : t = 0
        · exact ⟨c2, c3⟩
        · rw [if_pos c3] at h
          exfalso
          revert h
          split <;> omega
      · rw [if_pos c2] at h
        exfalso
        revert h
        split <;> omega
  · rintro ⟨rfl, rfl⟩
    rw [if_neg (by omega), if_neg (by omega), if_neg (by omega)]
    cases neg <;> simp
theorem nz_enc {f : Int} (hf : Is4 f) (neg : Bool) (e t : Nat) (he : e ≤ oV f) (ht : t < 2 ^ pV f) : nzB f (enc7 f neg e t) = (if e = 0 ∧ t = 0 then 0 else enc7 f neg e t) := by
  unfold nzB
  by_cases h : e = 0 ∧ t = 0
  · rw [if_pos h]
    obtain ⟨rfl, rfl⟩ := h
    cases neg
    · split
      · rfl
      · unfold enc7
        simp
    · rw [if_pos (show enc7 f true 0 0 = eZero f true from rfl)]
  · rw [if_neg h, if_neg]
    intro q
    unfold eZero at q
    obtain ⟨a, b, c, d⟩ := enc_k hf neg he ht
    obtain ⟨a', b', c', d'⟩ := enc_k hf true (e := 0) (t := 0) (by omega) (Nat.two_pow_pos _)
    rw [q] at c d
    exact h ⟨by omega, by omega⟩
/-- The lower neighbour is never the zero below 0. -/
theorem low_ne {f : Int} (hf : Is4 f) {W : Nat} (hW : Wok f W) (neg : Bool) (T : Int) (more : Bool) : (dlv f 2 neg T W more).1 ≠ eZero f true := by
  obtain ⟨e, t, fl, h1, h2, h2b, h3, h4⟩ := dlv_enc hf hW 2 neg T more
  intro q
  rw [h3] at q
  have q : enc7 f neg e t = eZero f true := q
  unfold eZero at q
  obtain ⟨a, b, c, d⟩ := enc_k hf neg h1 h2
  obtain ⟨a', b', c', d'⟩ := enc_k hf true (e := 0) (t := 0) (by omega) (Nat.two_pow_pos _)
  rw [q] at b c d
  obtain rfl : true = neg := by rw [← b', b]
  obtain rfl : 0 = e := by rw [← c', c]
  obtain rfl : 0 = t := by rw [← d', d]
  have lim := rG_lim hW 2 true (dK f T) more
  unfold dlv at h3
  split at h3
  · injection h3 with h5 h6
    have o := (nm8 hf).2.1
    unfold ovB at h5
    split at h5
    · obtain ⟨_, _, x, _⟩ := enc_k hf true (e := oV f) (t := 0) (Nat.le_refl _) (Nat.two_pow_pos _)
      unfold eInf at h5
      rw [h5] at x
      omega
    · obtain ⟨_, _, x, y⟩ := enc_k hf true (e := oV f - 1) (t := 2 ^ pV f - 1) (by omega) (by have := Nat.two_pow_pos (pV f); omega)
      unfold eGreatest at h5
      rw [h5] at x y
      have := (fm hf).2.2.2.1
      have := (fm hf).2.2.1
      omega
  · injection h3 with h5 h6
    unfold eS enc7 at h5
    have s0 : rG 2 true W (dK f T) more = 0 := by omega
    obtain ⟨k3, kl⟩ := null_lim hf hW 2 true (dK f T) more s0
    unfold rG at s0
    rw [if_pos] at s0
    · omega
    · unfold gO
      rw [if_neg (by decide), if_neg (by decide), if_pos rfl, kl]
      rfl
end Go.Proofs.YtbmhfcppaajgbaaGreatDoor
