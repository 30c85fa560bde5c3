/-
  What the functions that the statement reaches return: part 31 (F8).
-/
import Derived.Test.YtapikkbifdldfaaGreatDoorFt30
namespace Go.Proofs.YtapikkbifdldfaaGreatDoor
set_option maxRecDepth 100000
set_option maxHeartbeats 40000000
set_option maxRecDepth 100000
open Go.RowKit WMath
set_option linter.unusedSimpArgs false
set_option linter.unusedVariables false
set_option maxRecDepth 100000 in
set_option maxHeartbeats 8000000 in
theorem ft_law (f m : Int) (x1 y1 x2 y2 x3 y3 : Nat) (u1 v1 : Nat) (fl1 e1 : Int) (he1 : IntKind.i64.wrap e1 = e1) (u2 v2 : Nat) (fl2 e2 : Int) (he2 : IntKind.i64.wrap e2 = e2) (u3 v3 : Nat) (fl3 e3 : Int) (he3 : IntKind.i64.wrap e3 = e3) (w : World)
    (K1 : Box (∀ w, FAt w → Calls Tryz.prog 15 #[.int .u8 f, .int .u8 m, .agg #[.int .u64 (x1 : Nat), .int .u64 (y1 : Nat)], .agg #[.int .u64 (x2 : Nat), .int .u64 (y2 : Nat)], .agg #[.int .u64 (x3 : Nat), .int .u64 (y3 : Nat)]] w fun r w' => r = .returned (.tuple #[.agg #[.int .u64 (u1 : Nat), .int .u64 (v1 : Nat)], .int .u8 fl1, .int .i64 e1]) ∧ Below w.heap.size w w'))
    (R1 : Box (∀ w, Calls Tryz.prog 16 #[.int .u8 f, .int .u8 m, .agg #[.int .u64 (x1 : Nat), .int .u64 (y1 : Nat)], .agg #[.int .u64 (x2 : Nat), .int .u64 (y2 : Nat)], .agg #[.int .u64 (x3 : Nat), .int .u64 (y3 : Nat)], .bool false, .bool true] w fun r w' => r = .returned (.tuple #[.agg #[.int .u64 (u1 : Nat), .int .u64 (v1 : Nat)], .int .u8 fl1, .int .i64 e1]) ∧ Below w.heap.size w w'))
    (K2 : Box (∀ w, FAt w → Calls Tryz.prog 17 #[.int .u8 f, .int .u8 m, .agg #[.int .u64 (x1 : Nat), .int .u64 (y1 : Nat)], .agg #[.int .u64 (x2 : Nat), .int .u64 (y2 : Nat)], .agg #[.int .u64 (x3 : Nat), .int .u64 (y3 : Nat)]] w fun r w' => r = .returned (.tuple #[.agg #[.int .u64 (u2 : Nat), .int .u64 (v2 : Nat)], .int .u8 fl2, .int .i64 e2]) ∧ Below w.heap.size w w'))
    (R2 : Box (∀ w, Calls Tryz.prog 16 #[.int .u8 f, .int .u8 m, .agg #[.int .u64 (x1 : Nat), .int .u64 (y1 : Nat)], .agg #[.int .u64 (x2 : Nat), .int .u64 (y2 : Nat)], .agg #[.int .u64 (x3 : Nat), .int .u64 (y3 : Nat)], .bool true, .bool false] w fun r w' => r = .returned (.tuple #[.agg #[.int .u64 (u2 : Nat), .int .u64 (v2 : Nat)], .int .u8 fl2, .int .i64 e2]) ∧ Below w.heap.size w w'))
    (K3 : Box (∀ w, FAt w → Calls Tryz.prog 18 #[.int .u8 f, .int .u8 m, .agg #[.int .u64 (x1 : Nat), .int .u64 (y1 : Nat)], .agg #[.int .u64 (x2 : Nat), .int .u64 (y2 : Nat)], .agg #[.int .u64 (x3 : Nat), .int .u64 (y3 : Nat)]] w fun r w' => r = .returned (.tuple #[.agg #[.int .u64 (u3 : Nat), .int .u64 (v3 : Nat)], .int .u8 fl3, .int .i64 e3]) ∧ Below w.heap.size w w'))
    (R3 : Box (∀ w, Calls Tryz.prog 16 #[.int .u8 f, .int .u8 m, .agg #[.int .u64 (x1 : Nat), .int .u64 (y1 : Nat)], .agg #[.int .u64 (x2 : Nat), .int .u64 (y2 : Nat)], .agg #[.int .u64 (x3 : Nat), .int .u64 (y3 : Nat)], .bool true, .bool true] w fun r w' => r = .returned (.tuple #[.agg #[.int .u64 (u3 : Nat), .int .u64 (v3 : Nat)], .int .u8 fl3, .int .i64 e3]) ∧ Below w.heap.size w w'))
    (KA : Box (∀ w, FAt w → Calls Tryz.prog 14 #[] w fun r w' => r = .returned (.bool true) ∧ Below w.heap.size w w')) (hT : FAt w) : Calls Tryz.prog 5 #[.int .u8 f, .int .u8 m, .agg #[.int .u64 (x1 : Nat), .int .u64 (y1 : Nat)], .agg #[.int .u64 (x2 : Nat), .int .u64 (y2 : Nat)], .agg #[.int .u64 (x3 : Nat), .int .u64 (y3 : Nat)]] w fun r w' => r = .returned (.bool true) ∧ Below w.heap.size w w' := by
  have FF := box hT
  clear hT
  obtain ⟨Ra_0, Rb_0, Rc_0, B0⟩ := opn3 w (Obj.cells #[.int .u64 (x1 : Nat), .int .u64 (y1 : Nat)] 26) (Obj.cells #[.int .u64 (x2 : Nat), .int .u64 (y2 : Nat)] 26) (Obj.cells #[.int .u64 (x3 : Nat), .int .u64 (y3 : Nat)] 26)
  go_enter Tryz.func5, Tryz.ntmps5
  obtain ⟨ca_0_0, ca_0_1⟩ := cells2s Ra_0
  obtain ⟨cb_0_0, cb_0_1⟩ := cells2s Rb_0
  obtain ⟨cc_0_0, cc_0_1⟩ := cells2s Rc_0
  go_wp2_with fail
  refine (K1.out _ (fatB FF.out B0)).mono ?_
  rintro r w1 ⟨rfl, b1⟩
  have B1 : Below w.heap.size w w1 := btr B0 b1
  have Ra_1 := heap_of b1 _ _ _ Ra_0
  have Rb_1 := heap_of b1 _ _ _ Rb_0
  have Rc_1 := heap_of b1 _ _ _ Rc_0
  clear b1 B0 Ra_0 ca_0_0 ca_0_1 Rb_0 cb_0_0 cb_0_1 Rc_0 cc_0_0 cc_0_1
  obtain ⟨ca_1_0, ca_1_1⟩ := cells2s Ra_1
  obtain ⟨cb_1_0, cb_1_1⟩ := cells2s Rb_1
  obtain ⟨cc_1_0, cc_1_1⟩ := cells2s Rc_1
  have S2 := box B1.size
  have La_2 : Box (w.heap.size < w1.heap.size) := box (Array.getElem?_eq_some_iff.1 Ra_1).1
  have Lb_2 : Box (w.heap.size + 1 < w1.heap.size) := box (Array.getElem?_eq_some_iff.1 Rb_1).1
  have Lc_2 : Box (w.heap.size + 1 + 1 < w1.heap.size) := box (Array.getElem?_eq_some_iff.1 Rc_1).1
  have Rx_2 := heap_alloc_last w1 (Obj.cells #[.int .u64 (u1 : Nat), .int .u64 (v1 : Nat)] 26)
  have B2 := btr B1 (bal w1 (Obj.cells #[.int .u64 (u1 : Nat), .int .u64 (v1 : Nat)] 26))
  have Ra_2 := heap_of (bal w1 (Obj.cells #[.int .u64 (u1 : Nat), .int .u64 (v1 : Nat)] 26)) _ _ _ Ra_1
  have Rb_2 := heap_of (bal w1 (Obj.cells #[.int .u64 (u1 : Nat), .int .u64 (v1 : Nat)] 26)) _ _ _ Rb_1
  have Rc_2 := heap_of (bal w1 (Obj.cells #[.int .u64 (u1 : Nat), .int .u64 (v1 : Nat)] 26)) _ _ _ Rc_1
  clear B1 Ra_1 ca_1_0 ca_1_1 Rb_1 cb_1_0 cb_1_1 Rc_1 cc_1_0 cc_1_1
  obtain ⟨ca_2_0, ca_2_1⟩ := cells2s Ra_2
  obtain ⟨cb_2_0, cb_2_1⟩ := cells2s Rb_2
  obtain ⟨cc_2_0, cc_2_1⟩ := cells2s Rc_2
  obtain ⟨cx_2_0, cx_2_1⟩ := cells2s Rx_2
  go_wp2_with fail
  refine (R1.out _).mono ?_
  rintro r w3 ⟨rfl, b3⟩
  have B3 : Below w.heap.size w w3 := btr B2 b3
  have Ra_3 := heap_of b3 _ _ _ Ra_2
  have Rb_3 := heap_of b3 _ _ _ Rb_2
  have Rc_3 := heap_of b3 _ _ _ Rc_2
  have Rx_3 := heap_of b3 _ _ _ Rx_2
  clear b3 B2 Ra_2 ca_2_0 ca_2_1 Rb_2 cb_2_0 cb_2_1 Rc_2 cc_2_0 cc_2_1 Rx_2 cx_2_0 cx_2_1
  obtain ⟨ca_3_0, ca_3_1⟩ := cells2s Ra_3
  obtain ⟨cb_3_0, cb_3_1⟩ := cells2s Rb_3
  obtain ⟨cc_3_0, cc_3_1⟩ := cells2s Rc_3
  obtain ⟨cx_3_0, cx_3_1⟩ := cells2s Rx_3
  have S4 := box B3.size
  have La_4 : Box (w.heap.size < w3.heap.size) := box (Array.getElem?_eq_some_iff.1 Ra_3).1
  have Lb_4 : Box (w.heap.size + 1 < w3.heap.size) := box (Array.getElem?_eq_some_iff.1 Rb_3).1
  have Lc_4 : Box (w.heap.size + 1 + 1 < w3.heap.size) := box (Array.getElem?_eq_some_iff.1 Rc_3).1
  have Lx_4 : Box (w1.heap.size < w3.heap.size) := box (Array.getElem?_eq_some_iff.1 Rx_3).1
  have Ry_4 := heap_alloc_last w3 (Obj.cells #[.int .u64 (u1 : Nat), .int .u64 (v1 : Nat)] 26)
  have B4 := btr B3 (bal w3 (Obj.cells #[.int .u64 (u1 : Nat), .int .u64 (v1 : Nat)] 26))
  have Ra_4 := heap_of (bal w3 (Obj.cells #[.int .u64 (u1 : Nat), .int .u64 (v1 : Nat)] 26)) _ _ _ Ra_3
  have Rb_4 := heap_of (bal w3 (Obj.cells #[.int .u64 (u1 : Nat), .int .u64 (v1 : Nat)] 26)) _ _ _ Rb_3
  have Rc_4 := heap_of (bal w3 (Obj.cells #[.int .u64 (u1 : Nat), .int .u64 (v1 : Nat)] 26)) _ _ _ Rc_3
  have Rx_4 := heap_of (bal w3 (Obj.cells #[.int .u64 (u1 : Nat), .int .u64 (v1 : Nat)] 26)) _ _ _ Rx_3
  clear B3 Ra_3 ca_3_0 ca_3_1 Rb_3 cb_3_0 cb_3_1 Rc_3 cc_3_0 cc_3_1 Rx_3 cx_3_0 cx_3_1
  obtain ⟨ca_4_0, ca_4_1⟩ := cells2s Ra_4
  obtain ⟨cb_4_0, cb_4_1⟩ := cells2s Rb_4
  obtain ⟨cc_4_0, cc_4_1⟩ := cells2s Rc_4
  obtain ⟨cx_4_0, cx_4_1⟩ := cells2s Rx_4
  obtain ⟨cy_4_0, cy_4_1⟩ := cells2s Ry_4
  go_wp2_with fail
  refine (K2.out _ (fatB FF.out B4)).mono ?_
  rintro r w5 ⟨rfl, b5⟩
  have B5 : Below w.heap.size w w5 := btr B4 b5
  have Ra_5 := heap_of b5 _ _ _ Ra_4
  have Rb_5 := heap_of b5 _ _ _ Rb_4
  have Rc_5 := heap_of b5 _ _ _ Rc_4
  have Rx_5 := heap_of b5 _ _ _ Rx_4
  have Ry_5 := heap_of b5 _ _ _ Ry_4
  clear b5 B4 Ra_4 ca_4_0 ca_4_1 Rb_4 cb_4_0 cb_4_1 Rc_4 cc_4_0 cc_4_1 Rx_4 cx_4_0 cx_4_1 Ry_4 cy_4_0 cy_4_1
  obtain ⟨ca_5_0, ca_5_1⟩ := cells2s Ra_5
  obtain ⟨cb_5_0, cb_5_1⟩ := cells2s Rb_5
  obtain ⟨cc_5_0, cc_5_1⟩ := cells2s Rc_5
  obtain ⟨cx_5_0, cx_5_1⟩ := cells2s Rx_5
  obtain ⟨cy_5_0, cy_5_1⟩ := cells2s Ry_5
  have q0_6 := fz (k := 0) Rx_5
  have q1_6 := fz (k := 1) Rx_5
  have B6 := set2_below B5 (show w.heap.size ≤ w1.heap.size by first | exact Nat.le_refl _ | omega | (have := S2.out; have := La_2.out; have := Lb_2.out; have := Lc_2.out; have := S4.out; have := La_4.out; have := Lb_4.out; have := Lc_4.out; have := Lx_4.out; omega)) (.int .u64 (u2 : Nat)) (.int .u64 (v2 : Nat))
  have Rx_6 : ((w5.setCell ⟨w1.heap.size, 0, none⟩ (.int .u64 (u2 : Nat))).setCell ⟨w1.heap.size, 1, none⟩ (.int .u64 (v2 : Nat))).heap[w1.heap.size]? = some (Obj.cells #[.int .u64 (u2 : Nat), .int .u64 (v2 : Nat)] 26) := set2_row Rx_5 _ _
  have Ra_6 : ((w5.setCell ⟨w1.heap.size, 0, none⟩ (.int .u64 (u2 : Nat))).setCell ⟨w1.heap.size, 1, none⟩ (.int .u64 (v2 : Nat))).heap[w.heap.size]? = some (Obj.cells #[.int .u64 (x1 : Nat), .int .u64 (y1 : Nat)] 26) := (setCell_other (by first | omega | (have := S2.out; have := La_2.out; have := Lb_2.out; have := Lc_2.out; have := S4.out; have := La_4.out; have := Lb_4.out; have := Lc_4.out; have := Lx_4.out; omega))).trans ((setCell_other (by first | omega | (have := S2.out; have := La_2.out; have := Lb_2.out; have := Lc_2.out; have := S4.out; have := La_4.out; have := Lb_4.out; have := Lc_4.out; have := Lx_4.out; omega))).trans Ra_5)
  have Rb_6 : ((w5.setCell ⟨w1.heap.size, 0, none⟩ (.int .u64 (u2 : Nat))).setCell ⟨w1.heap.size, 1, none⟩ (.int .u64 (v2 : Nat))).heap[w.heap.size + 1]? = some (Obj.cells #[.int .u64 (x2 : Nat), .int .u64 (y2 : Nat)] 26) := (setCell_other (by first | omega | (have := S2.out; have := La_2.out; have := Lb_2.out; have := Lc_2.out; have := S4.out; have := La_4.out; have := Lb_4.out; have := Lc_4.out; have := Lx_4.out; omega))).trans ((setCell_other (by first | omega | (have := S2.out; have := La_2.out; have := Lb_2.out; have := Lc_2.out; have := S4.out; have := La_4.out; have := Lb_4.out; have := Lc_4.out; have := Lx_4.out; omega))).trans Rb_5)
  have Rc_6 : ((w5.setCell ⟨w1.heap.size, 0, none⟩ (.int .u64 (u2 : Nat))).setCell ⟨w1.heap.size, 1, none⟩ (.int .u64 (v2 : Nat))).heap[w.heap.size + 1 + 1]? = some (Obj.cells #[.int .u64 (x3 : Nat), .int .u64 (y3 : Nat)] 26) := (setCell_other (by first | omega | (have := S2.out; have := La_2.out; have := Lb_2.out; have := Lc_2.out; have := S4.out; have := La_4.out; have := Lb_4.out; have := Lc_4.out; have := Lx_4.out; omega))).trans ((setCell_other (by first | omega | (have := S2.out; have := La_2.out; have := Lb_2.out; have := Lc_2.out; have := S4.out; have := La_4.out; have := Lb_4.out; have := Lc_4.out; have := Lx_4.out; omega))).trans Rc_5)
  have Ry_6 : ((w5.setCell ⟨w1.heap.size, 0, none⟩ (.int .u64 (u2 : Nat))).setCell ⟨w1.heap.size, 1, none⟩ (.int .u64 (v2 : Nat))).heap[w3.heap.size]? = some (Obj.cells #[.int .u64 (u1 : Nat), .int .u64 (v1 : Nat)] 26) := (setCell_other (by first | omega | (have := S2.out; have := La_2.out; have := Lb_2.out; have := Lc_2.out; have := S4.out; have := La_4.out; have := Lb_4.out; have := Lc_4.out; have := Lx_4.out; omega))).trans ((setCell_other (by first | omega | (have := S2.out; have := La_2.out; have := Lb_2.out; have := Lc_2.out; have := S4.out; have := La_4.out; have := Lb_4.out; have := Lc_4.out; have := Lx_4.out; omega))).trans Ry_5)
  obtain ⟨ca_6_0, ca_6_1⟩ := cells2s Ra_6
  obtain ⟨cb_6_0, cb_6_1⟩ := cells2s Rb_6
  obtain ⟨cc_6_0, cc_6_1⟩ := cells2s Rc_6
  obtain ⟨cx_6_0, cx_6_1⟩ := cells2s Rx_6
  obtain ⟨cy_6_0, cy_6_1⟩ := cells2s Ry_6
  go_wp2_with fail
  refine (R2.out _).mono ?_
  rintro r w7 ⟨rfl, b7⟩
  have B7 : Below w.heap.size w w7 := btr B6 b7
  have Ra_7 := heap_of b7 _ _ _ Ra_6
  have Rb_7 := heap_of b7 _ _ _ Rb_6
  have Rc_7 := heap_of b7 _ _ _ Rc_6
  have Rx_7 := heap_of b7 _ _ _ Rx_6
  have Ry_7 := heap_of b7 _ _ _ Ry_6
  clear b7 B6 Ra_6 ca_6_0 ca_6_1 Rb_6 cb_6_0 cb_6_1 Rc_6 cc_6_0 cc_6_1 Rx_6 cx_6_0 cx_6_1 Ry_6 cy_6_0 cy_6_1
  obtain ⟨ca_7_0, ca_7_1⟩ := cells2s Ra_7
  obtain ⟨cb_7_0, cb_7_1⟩ := cells2s Rb_7
  obtain ⟨cc_7_0, cc_7_1⟩ := cells2s Rc_7
  obtain ⟨cx_7_0, cx_7_1⟩ := cells2s Rx_7
  obtain ⟨cy_7_0, cy_7_1⟩ := cells2s Ry_7
  have q0_8 := fz (k := 0) Ry_7
  have q1_8 := fz (k := 1) Ry_7
  have B8 := set2_below B7 (show w.heap.size ≤ w3.heap.size by first | exact Nat.le_refl _ | omega | (have := S2.out; have := La_2.out; have := Lb_2.out; have := Lc_2.out; have := S4.out; have := La_4.out; have := Lb_4.out; have := Lc_4.out; have := Lx_4.out; omega)) (.int .u64 (u2 : Nat)) (.int .u64 (v2 : Nat))
  have Ry_8 : ((w7.setCell ⟨w3.heap.size, 0, none⟩ (.int .u64 (u2 : Nat))).setCell ⟨w3.heap.size, 1, none⟩ (.int .u64 (v2 : Nat))).heap[w3.heap.size]? = some (Obj.cells #[.int .u64 (u2 : Nat), .int .u64 (v2 : Nat)] 26) := set2_row Ry_7 _ _
  have Ra_8 : ((w7.setCell ⟨w3.heap.size, 0, none⟩ (.int .u64 (u2 : Nat))).setCell ⟨w3.heap.size, 1, none⟩ (.int .u64 (v2 : Nat))).heap[w.heap.size]? = some (Obj.cells #[.int .u64 (x1 : Nat), .int .u64 (y1 : Nat)] 26) := (setCell_other (by first | omega | (have := S2.out; have := La_2.out; have := Lb_2.out; have := Lc_2.out; have := S4.out; have := La_4.out; have := Lb_4.out; have := Lc_4.out; have := Lx_4.out; omega))).trans ((setCell_other (by first | omega | (have := S2.out; have := La_2.out; have := Lb_2.out; have := Lc_2.out; have := S4.out; have := La_4.out; have := Lb_4.out; have := Lc_4.out; have := Lx_4.out; omega))).trans Ra_7)
  have Rb_8 : ((w7.setCell ⟨w3.heap.size, 0, none⟩ (.int .u64 (u2 : Nat))).setCell ⟨w3.heap.size, 1, none⟩ (.int .u64 (v2 : Nat))).heap[w.heap.size + 1]? = some (Obj.cells #[.int .u64 (x2 : Nat), .int .u64 (y2 : Nat)] 26) := (setCell_other (by first | omega | (have := S2.out; have := La_2.out; have := Lb_2.out; have := Lc_2.out; have := S4.out; have := La_4.out; have := Lb_4.out; have := Lc_4.out; have := Lx_4.out; omega))).trans ((setCell_other (by first | omega | (have := S2.out; have := La_2.out; have := Lb_2.out; have := Lc_2.out; have := S4.out; have := La_4.out; have := Lb_4.out; have := Lc_4.out; have := Lx_4.out; omega))).trans Rb_7)
  have Rc_8 : ((w7.setCell ⟨w3.heap.size, 0, none⟩ (.int .u64 (u2 : Nat))).setCell ⟨w3.heap.size, 1, none⟩ (.int .u64 (v2 : Nat))).heap[w.heap.size + 1 + 1]? = some (Obj.cells #[.int .u64 (x3 : Nat), .int .u64 (y3 : Nat)] 26) := (setCell_other (by first | omega | (have := S2.out; have := La_2.out; have := Lb_2.out; have := Lc_2.out; have := S4.out; have := La_4.out; have := Lb_4.out; have := Lc_4.out; have := Lx_4.out; omega))).trans ((setCell_other (by first | omega | (have := S2.out; have := La_2.out; have := Lb_2.out; have := Lc_2.out; have := S4.out; have := La_4.out; have := Lb_4.out; have := Lc_4.out; have := Lx_4.out; omega))).trans Rc_7)
  have Rx_8 : ((w7.setCell ⟨w3.heap.size, 0, none⟩ (.int .u64 (u2 : Nat))).setCell ⟨w3.heap.size, 1, none⟩ (.int .u64 (v2 : Nat))).heap[w1.heap.size]? = some (Obj.cells #[.int .u64 (u2 : Nat), .int .u64 (v2 : Nat)] 26) := (setCell_other (by first | omega | (have := S2.out; have := La_2.out; have := Lb_2.out; have := Lc_2.out; have := S4.out; have := La_4.out; have := Lb_4.out; have := Lc_4.out; have := Lx_4.out; omega))).trans ((setCell_other (by first | omega | (have := S2.out; have := La_2.out; have := Lb_2.out; have := Lc_2.out; have := S4.out; have := La_4.out; have := Lb_4.out; have := Lc_4.out; have := Lx_4.out; omega))).trans Rx_7)
  obtain ⟨ca_8_0, ca_8_1⟩ := cells2s Ra_8
  obtain ⟨cb_8_0, cb_8_1⟩ := cells2s Rb_8
  obtain ⟨cc_8_0, cc_8_1⟩ := cells2s Rc_8
  obtain ⟨cx_8_0, cx_8_1⟩ := cells2s Rx_8
  obtain ⟨cy_8_0, cy_8_1⟩ := cells2s Ry_8
  go_wp2_with fail
  refine (K3.out _ (fatB FF.out B8)).mono ?_
  rintro r w9 ⟨rfl, b9⟩
  have B9 : Below w.heap.size w w9 := btr B8 b9
  have Ra_9 := heap_of b9 _ _ _ Ra_8
  have Rb_9 := heap_of b9 _ _ _ Rb_8
  have Rc_9 := heap_of b9 _ _ _ Rc_8
  have Rx_9 := heap_of b9 _ _ _ Rx_8
  have Ry_9 := heap_of b9 _ _ _ Ry_8
  clear b9 B8 Ra_8 ca_8_0 ca_8_1 Rb_8 cb_8_0 cb_8_1 Rc_8 cc_8_0 cc_8_1 Rx_8 cx_8_0 cx_8_1 Ry_8 cy_8_0 cy_8_1
  obtain ⟨ca_9_0, ca_9_1⟩ := cells2s Ra_9
  obtain ⟨cb_9_0, cb_9_1⟩ := cells2s Rb_9
  obtain ⟨cc_9_0, cc_9_1⟩ := cells2s Rc_9
  obtain ⟨cx_9_0, cx_9_1⟩ := cells2s Rx_9
  obtain ⟨cy_9_0, cy_9_1⟩ := cells2s Ry_9
  have q0_10 := fz (k := 0) Rx_9
  have q1_10 := fz (k := 1) Rx_9
  have B10 := set2_below B9 (show w.heap.size ≤ w1.heap.size by first | exact Nat.le_refl _ | omega | (have := S2.out; have := La_2.out; have := Lb_2.out; have := Lc_2.out; have := S4.out; have := La_4.out; have := Lb_4.out; have := Lc_4.out; have := Lx_4.out; omega)) (.int .u64 (u3 : Nat)) (.int .u64 (v3 : Nat))
  have Rx_10 : ((w9.setCell ⟨w1.heap.size, 0, none⟩ (.int .u64 (u3 : Nat))).setCell ⟨w1.heap.size, 1, none⟩ (.int .u64 (v3 : Nat))).heap[w1.heap.size]? = some (Obj.cells #[.int .u64 (u3 : Nat), .int .u64 (v3 : Nat)] 26) := set2_row Rx_9 _ _
  have Ra_10 : ((w9.setCell ⟨w1.heap.size, 0, none⟩ (.int .u64 (u3 : Nat))).setCell ⟨w1.heap.size, 1, none⟩ (.int .u64 (v3 : Nat))).heap[w.heap.size]? = some (Obj.cells #[.int .u64 (x1 : Nat), .int .u64 (y1 : Nat)] 26) := (setCell_other (by first | omega | (have := S2.out; have := La_2.out; have := Lb_2.out; have := Lc_2.out; have := S4.out; have := La_4.out; have := Lb_4.out; have := Lc_4.out; have := Lx_4.out; omega))).trans ((setCell_other (by first | omega | (have := S2.out; have := La_2.out; have := Lb_2.out; have := Lc_2.out; have := S4.out; have := La_4.out; have := Lb_4.out; have := Lc_4.out; have := Lx_4.out; omega))).trans Ra_9)
  have Rb_10 : ((w9.setCell ⟨w1.heap.size, 0, none⟩ (.int .u64 (u3 : Nat))).setCell ⟨w1.heap.size, 1, none⟩ (.int .u64 (v3 : Nat))).heap[w.heap.size + 1]? = some (Obj.cells #[.int .u64 (x2 : Nat), .int .u64 (y2 : Nat)] 26) := (setCell_other (by first | omega | (have := S2.out; have := La_2.out; have := Lb_2.out; have := Lc_2.out; have := S4.out; have := La_4.out; have := Lb_4.out; have := Lc_4.out; have := Lx_4.out; omega))).trans ((setCell_other (by first | omega | (have := S2.out; have := La_2.out; have := Lb_2.out; have := Lc_2.out; have := S4.out; have := La_4.out; have := Lb_4.out; have := Lc_4.out; have := Lx_4.out; omega))).trans Rb_9)
  have Rc_10 : ((w9.setCell ⟨w1.heap.size, 0, none⟩ (.int .u64 (u3 : Nat))).setCell ⟨w1.heap.size, 1, none⟩ (.int .u64 (v3 : Nat))).heap[w.heap.size + 1 + 1]? = some (Obj.cells #[.int .u64 (x3 : Nat), .int .u64 (y3 : Nat)] 26) := (setCell_other (by first | omega | (have := S2.out; have := La_2.out; have := Lb_2.out; have := Lc_2.out; have := S4.out; have := La_4.out; have := Lb_4.out; have := Lc_4.out; have := Lx_4.out; omega))).trans ((setCell_other (by first | omega | (have := S2.out; have := La_2.out; have := Lb_2.out; have := Lc_2.out; have := S4.out; have := La_4.out; have := Lb_4.out; have := Lc_4.out; have := Lx_4.out; omega))).trans Rc_9)
  have Ry_10 : ((w9.setCell ⟨w1.heap.size, 0, none⟩ (.int .u64 (u3 : Nat))).setCell ⟨w1.heap.size, 1, none⟩ (.int .u64 (v3 : Nat))).heap[w3.heap.size]? = some (Obj.cells #[.int .u64 (u2 : Nat), .int .u64 (v2 : Nat)] 26) := (setCell_other (by first | omega | (have := S2.out; have := La_2.out; have := Lb_2.out; have := Lc_2.out; have := S4.out; have := La_4.out; have := Lb_4.out; have := Lc_4.out; have := Lx_4.out; omega))).trans ((setCell_other (by first | omega | (have := S2.out; have := La_2.out; have := Lb_2.out; have := Lc_2.out; have := S4.out; have := La_4.out; have := Lb_4.out; have := Lc_4.out; have := Lx_4.out; omega))).trans Ry_9)
  obtain ⟨ca_10_0, ca_10_1⟩ := cells2s Ra_10
  obtain ⟨cb_10_0, cb_10_1⟩ := cells2s Rb_10
  obtain ⟨cc_10_0, cc_10_1⟩ := cells2s Rc_10
  obtain ⟨cx_10_0, cx_10_1⟩ := cells2s Rx_10
  obtain ⟨cy_10_0, cy_10_1⟩ := cells2s Ry_10
  go_wp2_with fail
  refine (R3.out _).mono ?_
  rintro r w11 ⟨rfl, b11⟩
  have B11 : Below w.heap.size w w11 := btr B10 b11
  have Ra_11 := heap_of b11 _ _ _ Ra_10
  have Rb_11 := heap_of b11 _ _ _ Rb_10
  have Rc_11 := heap_of b11 _ _ _ Rc_10
  have Rx_11 := heap_of b11 _ _ _ Rx_10
  have Ry_11 := heap_of b11 _ _ _ Ry_10
  clear b11 B10 Ra_10 ca_10_0 ca_10_1 Rb_10 cb_10_0 cb_10_1 Rc_10 cc_10_0 cc_10_1 Rx_10 cx_10_0 cx_10_1 Ry_10 cy_10_0 cy_10_1
  obtain ⟨ca_11_0, ca_11_1⟩ := cells2s Ra_11
  obtain ⟨cb_11_0, cb_11_1⟩ := cells2s Rb_11
  obtain ⟨cc_11_0, cc_11_1⟩ := cells2s Rc_11
  obtain ⟨cx_11_0, cx_11_1⟩ := cells2s Rx_11
  obtain ⟨cy_11_0, cy_11_1⟩ := cells2s Ry_11
  have q0_12 := fz (k := 0) Ry_11
  have q1_12 := fz (k := 1) Ry_11
  have B12 := set2_below B11 (show w.heap.size ≤ w3.heap.size by first | exact Nat.le_refl _ | omega | (have := S2.out; have := La_2.out; have := Lb_2.out; have := Lc_2.out; have := S4.out; have := La_4.out; have := Lb_4.out; have := Lc_4.out; have := Lx_4.out; omega)) (.int .u64 (u3 : Nat)) (.int .u64 (v3 : Nat))
  have Ry_12 : ((w11.setCell ⟨w3.heap.size, 0, none⟩ (.int .u64 (u3 : Nat))).setCell ⟨w3.heap.size, 1, none⟩ (.int .u64 (v3 : Nat))).heap[w3.heap.size]? = some (Obj.cells #[.int .u64 (u3 : Nat), .int .u64 (v3 : Nat)] 26) := set2_row Ry_11 _ _
  have Ra_12 : ((w11.setCell ⟨w3.heap.size, 0, none⟩ (.int .u64 (u3 : Nat))).setCell ⟨w3.heap.size, 1, none⟩ (.int .u64 (v3 : Nat))).heap[w.heap.size]? = some (Obj.cells #[.int .u64 (x1 : Nat), .int .u64 (y1 : Nat)] 26) := (setCell_other (by first | omega | (have := S2.out; have := La_2.out; have := Lb_2.out; have := Lc_2.out; have := S4.out; have := La_4.out; have := Lb_4.out; have := Lc_4.out; have := Lx_4.out; omega))).trans ((setCell_other (by first | omega | (have := S2.out; have := La_2.out; have := Lb_2.out; have := Lc_2.out; have := S4.out; have := La_4.out; have := Lb_4.out; have := Lc_4.out; have := Lx_4.out; omega))).trans Ra_11)
  have Rb_12 : ((w11.setCell ⟨w3.heap.size, 0, none⟩ (.int .u64 (u3 : Nat))).setCell ⟨w3.heap.size, 1, none⟩ (.int .u64 (v3 : Nat))).heap[w.heap.size + 1]? = some (Obj.cells #[.int .u64 (x2 : Nat), .int .u64 (y2 : Nat)] 26) := (setCell_other (by first | omega | (have := S2.out; have := La_2.out; have := Lb_2.out; have := Lc_2.out; have := S4.out; have := La_4.out; have := Lb_4.out; have := Lc_4.out; have := Lx_4.out; omega))).trans ((setCell_other (by first | omega | (have := S2.out; have := La_2.out; have := Lb_2.out; have := Lc_2.out; have := S4.out; have := La_4.out; have := Lb_4.out; have := Lc_4.out; have := Lx_4.out; omega))).trans Rb_11)
  have Rc_12 : ((w11.setCell ⟨w3.heap.size, 0, none⟩ (.int .u64 (u3 : Nat))).setCell ⟨w3.heap.size, 1, none⟩ (.int .u64 (v3 : Nat))).heap[w.heap.size + 1 + 1]? = some (Obj.cells #[.int .u64 (x3 : Nat), .int .u64 (y3 : Nat)] 26) := (setCell_other (by first | omega | (have := S2.out; have := La_2.out; have := Lb_2.out; have := Lc_2.out; have := S4.out; have := La_4.out; have := Lb_4.out; have := Lc_4.out; have := Lx_4.out; omega))).trans ((setCell_other (by first | omega | (have := S2.out; have := La_2.out; have := Lb_2.out; have := Lc_2.out; have := S4.out; have := La_4.out; have := Lb_4.out; have := Lc_4.out; have := Lx_4.out; omega))).trans Rc_11)
  have Rx_12 : ((w11.setCell ⟨w3.heap.size, 0, none⟩ (.int .u64 (u3 : Nat))).setCell ⟨w3.heap.size, 1, none⟩ (.int .u64 (v3 : Nat))).heap[w1.heap.size]? = some (Obj.cells #[.int .u64 (u3 : Nat), .int .u64 (v3 : Nat)] 26) := (setCell_other (by first | omega | (have := S2.out; have := La_2.out; have := Lb_2.out; have := Lc_2.out; have := S4.out; have := La_4.out; have := Lb_4.out; have := Lc_4.out; have := Lx_4.out; omega))).trans ((setCell_other (by first | omega | (have := S2.out; have := La_2.out; have := Lb_2.out; have := Lc_2.out; have := S4.out; have := La_4.out; have := Lb_4.out; have := Lc_4.out; have := Lx_4.out; omega))).trans Rx_11)
  obtain ⟨ca_12_0, ca_12_1⟩ := cells2s Ra_12
  obtain ⟨cb_12_0, cb_12_1⟩ := cells2s Rb_12
  obtain ⟨cc_12_0, cc_12_1⟩ := cells2s Rc_12
  obtain ⟨cx_12_0, cx_12_1⟩ := cells2s Rx_12
  obtain ⟨cy_12_0, cy_12_1⟩ := cells2s Ry_12
  go_wp2_with fail
  refine (KA.out _ (fatB FF.out B12)).mono ?_
  rintro r w13 ⟨rfl, b13⟩
  have B13 : Below w.heap.size w w13 := btr B12 b13
  have Ra_13 := heap_of b13 _ _ _ Ra_12
  have Rb_13 := heap_of b13 _ _ _ Rb_12
  have Rc_13 := heap_of b13 _ _ _ Rc_12
  have Rx_13 := heap_of b13 _ _ _ Rx_12
  have Ry_13 := heap_of b13 _ _ _ Ry_12
  clear b13 B12 Ra_12 ca_12_0 ca_12_1 Rb_12 cb_12_0 cb_12_1 Rc_12 cc_12_0 cc_12_1 Rx_12 cx_12_0 cx_12_1 Ry_12 cy_12_0 cy_12_1
  obtain ⟨ca_13_0, ca_13_1⟩ := cells2s Ra_13
  obtain ⟨cb_13_0, cb_13_1⟩ := cells2s Rb_13
  obtain ⟨cc_13_0, cc_13_1⟩ := cells2s Rc_13
  obtain ⟨cx_13_0, cx_13_1⟩ := cells2s Rx_13
  obtain ⟨cy_13_0, cy_13_1⟩ := cells2s Ry_13
  go_wp2
  go_ret
  exact ⟨rfl, B13⟩
end Go.Proofs.YtapikkbifdldfaaGreatDoor
