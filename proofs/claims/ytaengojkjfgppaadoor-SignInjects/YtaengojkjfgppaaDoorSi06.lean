/-
  What the functions that the statement reaches return: part 6 (G3).
-/
import Derived.Test.YtaengojkjfgppaaDoorSi05
namespace Go.Proofs.YtaengojkjfgppaaDoor
set_option maxRecDepth 100000
set_option maxHeartbeats 40000000
set_option maxRecDepth 100000
open Go.RowKit WMath
set_option linter.unusedSimpArgs false
set_option linter.unusedVariables false
theorem ebb_sf (a b : Int) : ebb a b a b = true := by unfold ebb; simp
set_option maxRecDepth 100000 in
set_option maxHeartbeats 8000000 in
theorem si_no1 (f : Int) (x1 y1 x2 y2 : Nat) (w : World) (K1 : Box (∀ w, FAt w → Calls Tryd.prog 6 #[.int .u8 f, .agg #[.int .u64 (x1 : Nat), .int .u64 (y1 : Nat)], .agg #[.int .u64 (x2 : Nat), .int .u64 (y2 : Nat)]] w fun r w' => r = .returned (.tuple #[.agg #[.int .u64 0, .int .u64 0], .int .i64 2]) ∧ Below w.heap.size w w')) (K2 : Box (∀ w, FAt w → Calls Tryd.prog 7 #[.int .u8 f, .agg #[.int .u64 (x1 : Nat), .int .u64 (y1 : Nat)], .agg #[.int .u64 (x2 : Nat), .int .u64 (y2 : Nat)]] w fun r w' => r = .returned (.tuple #[.agg #[.int .u64 0, .int .u64 0], .int .i64 2]) ∧ Below w.heap.size w w')) (K3 : Box (∀ w, FAt w → Calls Tryd.prog 8 #[.int .u8 f, .agg #[.int .u64 (x1 : Nat), .int .u64 (y1 : Nat)], .agg #[.int .u64 (x2 : Nat), .int .u64 (y2 : Nat)]] w fun r w' => r = .returned (.tuple #[.agg #[.int .u64 0, .int .u64 0], .int .i64 2]) ∧ Below w.heap.size w w')) (KF1 : Box (∀ w, Calls Tryd.prog 9 #[.int .u8 f, .agg #[.int .u64 (x1 : Nat), .int .u64 (y1 : Nat)]] w fun r w' => r = .returned (.bool false) ∧ Below w.heap.size w w')) (KA : Box (∀ w, FAt w → Calls Tryd.prog 10 #[] w fun r w' => r = .returned (.bool true) ∧ Below w.heap.size w w')) (hT : FAt w) : Calls Tryd.prog 3 #[.int .u8 f, .agg #[.int .u64 (x1 : Nat), .int .u64 (y1 : Nat)], .agg #[.int .u64 (x2 : Nat), .int .u64 (y2 : Nat)]] w fun r w' => r = .returned (.bool true) ∧ Below w.heap.size w w' := by
  have FF := box hT
  clear hT
  obtain ⟨Ra_0, Rb_0, B0⟩ := opn2 w (Obj.cells #[.int .u64 (x1 : Nat), .int .u64 (y1 : Nat)] 25) (Obj.cells #[.int .u64 (x2 : Nat), .int .u64 (y2 : Nat)] 25)
  go_enter Tryd.func3, Tryd.ntmps3
  obtain ⟨ca_0_0, ca_0_1⟩ := cells2s Ra_0
  obtain ⟨cb_0_0, cb_0_1⟩ := cells2s Rb_0
  go_wp2_with fail
  refine (K1.out _ (fatB FF.out B0)).mono ?_
  rintro r w1 ⟨rfl, b1⟩
  have B1 : Below w.heap.size w w1 := btr B0 b1
  have Ra_1 := heap_of b1 _ _ _ Ra_0
  have Rb_1 := heap_of b1 _ _ _ Rb_0
  clear b1 B0 Ra_0 ca_0_0 ca_0_1 Rb_0 cb_0_0 cb_0_1
  obtain ⟨ca_1_0, ca_1_1⟩ := cells2s Ra_1
  obtain ⟨cb_1_0, cb_1_1⟩ := cells2s Rb_1
  have S2 := box B1.size
  have La_2 : Box (w.heap.size < w1.heap.size) := box (Array.getElem?_eq_some_iff.1 Ra_1).1
  have Lb_2 : Box (w.heap.size + 1 < w1.heap.size) := box (Array.getElem?_eq_some_iff.1 Rb_1).1
  have Rx_2 := heap_alloc_last w1 (Obj.cells #[.int .u64 0, .int .u64 0] 25)
  have B2 := btr B1 (bal w1 (Obj.cells #[.int .u64 0, .int .u64 0] 25))
  have Ra_2 := heap_of (bal w1 (Obj.cells #[.int .u64 0, .int .u64 0] 25)) _ _ _ Ra_1
  have Rb_2 := heap_of (bal w1 (Obj.cells #[.int .u64 0, .int .u64 0] 25)) _ _ _ Rb_1
  clear B1 Ra_1 ca_1_0 ca_1_1 Rb_1 cb_1_0 cb_1_1
  obtain ⟨ca_2_0, ca_2_1⟩ := cells2s Ra_2
  obtain ⟨cb_2_0, cb_2_1⟩ := cells2s Rb_2
  obtain ⟨cx_2_0, cx_2_1⟩ := cells2s Rx_2
  go_wp2_with fail
  refine (K2.out _ (fatB FF.out B2)).mono ?_
  rintro r w3 ⟨rfl, b3⟩
  have B3 : Below w.heap.size w w3 := btr B2 b3
  have Ra_3 := heap_of b3 _ _ _ Ra_2
  have Rb_3 := heap_of b3 _ _ _ Rb_2
  have Rx_3 := heap_of b3 _ _ _ Rx_2
  clear b3 B2 Ra_2 ca_2_0 ca_2_1 Rb_2 cb_2_0 cb_2_1 Rx_2 cx_2_0 cx_2_1
  obtain ⟨ca_3_0, ca_3_1⟩ := cells2s Ra_3
  obtain ⟨cb_3_0, cb_3_1⟩ := cells2s Rb_3
  obtain ⟨cx_3_0, cx_3_1⟩ := cells2s Rx_3
  have S4 := box B3.size
  have La_4 : Box (w.heap.size < w3.heap.size) := box (Array.getElem?_eq_some_iff.1 Ra_3).1
  have Lb_4 : Box (w.heap.size + 1 < w3.heap.size) := box (Array.getElem?_eq_some_iff.1 Rb_3).1
  have Lx_4 : Box (w1.heap.size < w3.heap.size) := box (Array.getElem?_eq_some_iff.1 Rx_3).1
  have Ry_4 := heap_alloc_last w3 (Obj.cells #[.int .u64 0, .int .u64 0] 25)
  have B4 := btr B3 (bal w3 (Obj.cells #[.int .u64 0, .int .u64 0] 25))
  have Ra_4 := heap_of (bal w3 (Obj.cells #[.int .u64 0, .int .u64 0] 25)) _ _ _ Ra_3
  have Rb_4 := heap_of (bal w3 (Obj.cells #[.int .u64 0, .int .u64 0] 25)) _ _ _ Rb_3
  have Rx_4 := heap_of (bal w3 (Obj.cells #[.int .u64 0, .int .u64 0] 25)) _ _ _ Rx_3
  clear B3 Ra_3 ca_3_0 ca_3_1 Rb_3 cb_3_0 cb_3_1 Rx_3 cx_3_0 cx_3_1
  obtain ⟨ca_4_0, ca_4_1⟩ := cells2s Ra_4
  obtain ⟨cb_4_0, cb_4_1⟩ := cells2s Rb_4
  obtain ⟨cx_4_0, cx_4_1⟩ := cells2s Rx_4
  obtain ⟨cy_4_0, cy_4_1⟩ := cells2s Ry_4
  go_wp2_with fail
  refine (K3.out _ (fatB FF.out B4)).mono ?_
  rintro r w5 ⟨rfl, b5⟩
  have B5 : Below w.heap.size w w5 := btr B4 b5
  have Ra_5 := heap_of b5 _ _ _ Ra_4
  have Rb_5 := heap_of b5 _ _ _ Rb_4
  have Rx_5 := heap_of b5 _ _ _ Rx_4
  have Ry_5 := heap_of b5 _ _ _ Ry_4
  clear b5 B4 Ra_4 ca_4_0 ca_4_1 Rb_4 cb_4_0 cb_4_1 Rx_4 cx_4_0 cx_4_1 Ry_4 cy_4_0 cy_4_1
  obtain ⟨ca_5_0, ca_5_1⟩ := cells2s Ra_5
  obtain ⟨cb_5_0, cb_5_1⟩ := cells2s Rb_5
  obtain ⟨cx_5_0, cx_5_1⟩ := cells2s Rx_5
  obtain ⟨cy_5_0, cy_5_1⟩ := cells2s Ry_5
  have S6 := box B5.size
  have La_6 : Box (w.heap.size < w5.heap.size) := box (Array.getElem?_eq_some_iff.1 Ra_5).1
  have Lb_6 : Box (w.heap.size + 1 < w5.heap.size) := box (Array.getElem?_eq_some_iff.1 Rb_5).1
  have Lx_6 : Box (w1.heap.size < w5.heap.size) := box (Array.getElem?_eq_some_iff.1 Rx_5).1
  have Ly_6 : Box (w3.heap.size < w5.heap.size) := box (Array.getElem?_eq_some_iff.1 Ry_5).1
  have Rz_6 := heap_alloc_last w5 (Obj.cells #[.int .u64 0, .int .u64 0] 25)
  have B6 := btr B5 (bal w5 (Obj.cells #[.int .u64 0, .int .u64 0] 25))
  have Ra_6 := heap_of (bal w5 (Obj.cells #[.int .u64 0, .int .u64 0] 25)) _ _ _ Ra_5
  have Rb_6 := heap_of (bal w5 (Obj.cells #[.int .u64 0, .int .u64 0] 25)) _ _ _ Rb_5
  have Rx_6 := heap_of (bal w5 (Obj.cells #[.int .u64 0, .int .u64 0] 25)) _ _ _ Rx_5
  have Ry_6 := heap_of (bal w5 (Obj.cells #[.int .u64 0, .int .u64 0] 25)) _ _ _ Ry_5
  clear B5 Ra_5 ca_5_0 ca_5_1 Rb_5 cb_5_0 cb_5_1 Rx_5 cx_5_0 cx_5_1 Ry_5 cy_5_0 cy_5_1
  obtain ⟨ca_6_0, ca_6_1⟩ := cells2s Ra_6
  obtain ⟨cb_6_0, cb_6_1⟩ := cells2s Rb_6
  obtain ⟨cx_6_0, cx_6_1⟩ := cells2s Rx_6
  obtain ⟨cy_6_0, cy_6_1⟩ := cells2s Ry_6
  obtain ⟨cz_6_0, cz_6_1⟩ := cells2s Rz_6
  go_wp2_with fail
  refine (KF1.out _).mono ?_
  rintro r w7 ⟨rfl, b7⟩
  have B7 : Below w.heap.size w w7 := btr B6 b7
  have Ra_7 := heap_of b7 _ _ _ Ra_6
  have Rb_7 := heap_of b7 _ _ _ Rb_6
  have Rx_7 := heap_of b7 _ _ _ Rx_6
  have Ry_7 := heap_of b7 _ _ _ Ry_6
  have Rz_7 := heap_of b7 _ _ _ Rz_6
  clear b7 B6 Ra_6 ca_6_0 ca_6_1 Rb_6 cb_6_0 cb_6_1 Rx_6 cx_6_0 cx_6_1 Ry_6 cy_6_0 cy_6_1 Rz_6 cz_6_0 cz_6_1
  obtain ⟨ca_7_0, ca_7_1⟩ := cells2s Ra_7
  obtain ⟨cb_7_0, cb_7_1⟩ := cells2s Rb_7
  obtain ⟨cx_7_0, cx_7_1⟩ := cells2s Rx_7
  obtain ⟨cy_7_0, cy_7_1⟩ := cells2s Ry_7
  obtain ⟨cz_7_0, cz_7_1⟩ := cells2s Rz_7
  have S8 := box B7.size
  have La_8 : Box (w.heap.size < w7.heap.size) := box (Array.getElem?_eq_some_iff.1 Ra_7).1
  have Lb_8 : Box (w.heap.size + 1 < w7.heap.size) := box (Array.getElem?_eq_some_iff.1 Rb_7).1
  have Lx_8 : Box (w1.heap.size < w7.heap.size) := box (Array.getElem?_eq_some_iff.1 Rx_7).1
  have Ly_8 : Box (w3.heap.size < w7.heap.size) := box (Array.getElem?_eq_some_iff.1 Ry_7).1
  have Lz_8 : Box (w5.heap.size < w7.heap.size) := box (Array.getElem?_eq_some_iff.1 Rz_7).1
  have Rn_8 := heap_alloc_last w7 (Obj.cells #[.int .u64 0, .int .u64 0] 25)
  have B8 := btr B7 (bal w7 (Obj.cells #[.int .u64 0, .int .u64 0] 25))
  have Ra_8 := heap_of (bal w7 (Obj.cells #[.int .u64 0, .int .u64 0] 25)) _ _ _ Ra_7
  have Rb_8 := heap_of (bal w7 (Obj.cells #[.int .u64 0, .int .u64 0] 25)) _ _ _ Rb_7
  have Rx_8 := heap_of (bal w7 (Obj.cells #[.int .u64 0, .int .u64 0] 25)) _ _ _ Rx_7
  have Ry_8 := heap_of (bal w7 (Obj.cells #[.int .u64 0, .int .u64 0] 25)) _ _ _ Ry_7
  have Rz_8 := heap_of (bal w7 (Obj.cells #[.int .u64 0, .int .u64 0] 25)) _ _ _ Rz_7
  clear B7 Ra_7 ca_7_0 ca_7_1 Rb_7 cb_7_0 cb_7_1 Rx_7 cx_7_0 cx_7_1 Ry_7 cy_7_0 cy_7_1 Rz_7 cz_7_0 cz_7_1
  obtain ⟨ca_8_0, ca_8_1⟩ := cells2s Ra_8
  obtain ⟨cb_8_0, cb_8_1⟩ := cells2s Rb_8
  obtain ⟨cx_8_0, cx_8_1⟩ := cells2s Rx_8
  obtain ⟨cy_8_0, cy_8_1⟩ := cells2s Ry_8
  obtain ⟨cz_8_0, cz_8_1⟩ := cells2s Rz_8
  obtain ⟨cn_8_0, cn_8_1⟩ := cells2s Rn_8
  go_wp2_with fail
  refine (KA.out _ (fatB FF.out B8)).mono ?_
  rintro r w9 ⟨rfl, b9⟩
  have B9 : Below w.heap.size w w9 := btr B8 b9
  have Ra_9 := heap_of b9 _ _ _ Ra_8
  have Rb_9 := heap_of b9 _ _ _ Rb_8
  have Rx_9 := heap_of b9 _ _ _ Rx_8
  have Ry_9 := heap_of b9 _ _ _ Ry_8
  have Rz_9 := heap_of b9 _ _ _ Rz_8
  have Rn_9 := heap_of b9 _ _ _ Rn_8
  clear b9 B8 Ra_8 ca_8_0 ca_8_1 Rb_8 cb_8_0 cb_8_1 Rx_8 cx_8_0 cx_8_1 Ry_8 cy_8_0 cy_8_1 Rz_8 cz_8_0 cz_8_1 Rn_8 cn_8_0 cn_8_1
  obtain ⟨ca_9_0, ca_9_1⟩ := cells2s Ra_9
  obtain ⟨cb_9_0, cb_9_1⟩ := cells2s Rb_9
  obtain ⟨cx_9_0, cx_9_1⟩ := cells2s Rx_9
  obtain ⟨cy_9_0, cy_9_1⟩ := cells2s Ry_9
  obtain ⟨cz_9_0, cz_9_1⟩ := cells2s Rz_9
  obtain ⟨cn_9_0, cn_9_1⟩ := cells2s Rn_9
  go_wp2
  go_ret
  exact ⟨rfl, B9⟩
set_option maxRecDepth 100000 in
set_option maxHeartbeats 8000000 in
theorem si_no2 (f : Int) (x1 y1 x2 y2 : Nat) (w : World) (K1 : Box (∀ w, FAt w → Calls Tryd.prog 6 #[.int .u8 f, .agg #[.int .u64 (x1 : Nat), .int .u64 (y1 : Nat)], .agg #[.int .u64 (x2 : Nat), .int .u64 (y2 : Nat)]] w fun r w' => r = .returned (.tuple #[.agg #[.int .u64 0, .int .u64 0], .int .i64 2]) ∧ Below w.heap.size w w')) (K2 : Box (∀ w, FAt w → Calls Tryd.prog 7 #[.int .u8 f, .agg #[.int .u64 (x1 : Nat), .int .u64 (y1 : Nat)], .agg #[.int .u64 (x2 : Nat), .int .u64 (y2 : Nat)]] w fun r w' => r = .returned (.tuple #[.agg #[.int .u64 0, .int .u64 0], .int .i64 2]) ∧ Below w.heap.size w w')) (K3 : Box (∀ w, FAt w → Calls Tryd.prog 8 #[.int .u8 f, .agg #[.int .u64 (x1 : Nat), .int .u64 (y1 : Nat)], .agg #[.int .u64 (x2 : Nat), .int .u64 (y2 : Nat)]] w fun r w' => r = .returned (.tuple #[.agg #[.int .u64 0, .int .u64 0], .int .i64 2]) ∧ Below w.heap.size w w')) (KF1 : Box (∀ w, Calls Tryd.prog 9 #[.int .u8 f, .agg #[.int .u64 (x1 : Nat), .int .u64 (y1 : Nat)]] w fun r w' => r = .returned (.bool true) ∧ Below w.heap.size w w')) (KF2 : Box (∀ w, Calls Tryd.prog 9 #[.int .u8 f, .agg #[.int .u64 (x2 : Nat), .int .u64 (y2 : Nat)]] w fun r w' => r = .returned (.bool false) ∧ Below w.heap.size w w')) (KA : Box (∀ w, FAt w → Calls Tryd.prog 10 #[] w fun r w' => r = .returned (.bool true) ∧ Below w.heap.size w w')) (hT : FAt w) : Calls Tryd.prog 3 #[.int .u8 f, .agg #[.int .u64 (x1 : Nat), .int .u64 (y1 : Nat)], .agg #[.int .u64 (x2 : Nat), .int .u64 (y2 : Nat)]] w fun r w' => r = .returned (.bool true) ∧ Below w.heap.size w w' := by
  have FF := box hT
  clear hT
  obtain ⟨Ra_0, Rb_0, B0⟩ := opn2 w (Obj.cells #[.int .u64 (x1 : Nat), .int .u64 (y1 : Nat)] 25) (Obj.cells #[.int .u64 (x2 : Nat), .int .u64 (y2 : Nat)] 25)
  go_enter Tryd.func3, Tryd.ntmps3
  obtain ⟨ca_0_0, ca_0_1⟩ := cells2s Ra_0
  obtain ⟨cb_0_0, cb_0_1⟩ := cells2s Rb_0
  go_wp2_with fail
  refine (K1.out _ (fatB FF.out B0)).mono ?_
  rintro r w1 ⟨rfl, b1⟩
  have B1 : Below w.heap.size w w1 := btr B0 b1
  have Ra_1 := heap_of b1 _ _ _ Ra_0
  have Rb_1 := heap_of b1 _ _ _ Rb_0
  clear b1 B0 Ra_0 ca_0_0 ca_0_1 Rb_0 cb_0_0 cb_0_1
  obtain ⟨ca_1_0, ca_1_1⟩ := cells2s Ra_1
  obtain ⟨cb_1_0, cb_1_1⟩ := cells2s Rb_1
  have S2 := box B1.size
  have La_2 : Box (w.heap.size < w1.heap.size) := box (Array.getElem?_eq_some_iff.1 Ra_1).1
  have Lb_2 : Box (w.heap.size + 1 < w1.heap.size) := box (Array.getElem?_eq_some_iff.1 Rb_1).1
  have Rx_2 := heap_alloc_last w1 (Obj.cells #[.int .u64 0, .int .u64 0] 25)
  have B2 := btr B1 (bal w1 (Obj.cells #[.int .u64 0, .int .u64 0] 25))
  have Ra_2 := heap_of (bal w1 (Obj.cells #[.int .u64 0, .int .u64 0] 25)) _ _ _ Ra_1
  have Rb_2 := heap_of (bal w1 (Obj.cells #[.int .u64 0, .int .u64 0] 25)) _ _ _ Rb_1
  clear B1 Ra_1 ca_1_0 ca_1_1 Rb_1 cb_1_0 cb_1_1
  obtain ⟨ca_2_0, ca_2_1⟩ := cells2s Ra_2
  obtain ⟨cb_2_0, cb_2_1⟩ := cells2s Rb_2
  obtain ⟨cx_2_0, cx_2_1⟩ := cells2s Rx_2
  go_wp2_with fail
  refine (K2.out _ (fatB FF.out B2)).mono ?_
  rintro r w3 ⟨rfl, b3⟩
  have B3 : Below w.heap.size w w3 := btr B2 b3
  have Ra_3 := heap_of b3 _ _ _ Ra_2
  have Rb_3 := heap_of b3 _ _ _ Rb_2
  have Rx_3 := heap_of b3 _ _ _ Rx_2
  clear b3 B2 Ra_2 ca_2_0 ca_2_1 Rb_2 cb_2_0 cb_2_1 Rx_2 cx_2_0 cx_2_1
  obtain ⟨ca_3_0, ca_3_1⟩ := cells2s Ra_3
  obtain ⟨cb_3_0, cb_3_1⟩ := cells2s Rb_3
  obtain ⟨cx_3_0, cx_3_1⟩ := cells2s Rx_3
  have S4 := box B3.size
  have La_4 : Box (w.heap.size < w3.heap.size) := box (Array.getElem?_eq_some_iff.1 Ra_3).1
  have Lb_4 : Box (w.heap.size + 1 < w3.heap.size) := box (Array.getElem?_eq_some_iff.1 Rb_3).1
  have Lx_4 : Box (w1.heap.size < w3.heap.size) := box (Array.getElem?_eq_some_iff.1 Rx_3).1
  have Ry_4 := heap_alloc_last w3 (Obj.cells #[.int .u64 0, .int .u64 0] 25)
  have B4 := btr B3 (bal w3 (Obj.cells #[.int .u64 0, .int .u64 0] 25))
  have Ra_4 := heap_of (bal w3 (Obj.cells #[.int .u64 0, .int .u64 0] 25)) _ _ _ Ra_3
  have Rb_4 := heap_of (bal w3 (Obj.cells #[.int .u64 0, .int .u64 0] 25)) _ _ _ Rb_3
  have Rx_4 := heap_of (bal w3 (Obj.cells #[.int .u64 0, .int .u64 0] 25)) _ _ _ Rx_3
  clear B3 Ra_3 ca_3_0 ca_3_1 Rb_3 cb_3_0 cb_3_1 Rx_3 cx_3_0 cx_3_1
  obtain ⟨ca_4_0, ca_4_1⟩ := cells2s Ra_4
  obtain ⟨cb_4_0, cb_4_1⟩ := cells2s Rb_4
  obtain ⟨cx_4_0, cx_4_1⟩ := cells2s Rx_4
  obtain ⟨cy_4_0, cy_4_1⟩ := cells2s Ry_4
  go_wp2_with fail
  refine (K3.out _ (fatB FF.out B4)).mono ?_
  rintro r w5 ⟨rfl, b5⟩
  have B5 : Below w.heap.size w w5 := btr B4 b5
  have Ra_5 := heap_of b5 _ _ _ Ra_4
  have Rb_5 := heap_of b5 _ _ _ Rb_4
  have Rx_5 := heap_of b5 _ _ _ Rx_4
  have Ry_5 := heap_of b5 _ _ _ Ry_4
  clear b5 B4 Ra_4 ca_4_0 ca_4_1 Rb_4 cb_4_0 cb_4_1 Rx_4 cx_4_0 cx_4_1 Ry_4 cy_4_0 cy_4_1
  obtain ⟨ca_5_0, ca_5_1⟩ := cells2s Ra_5
  obtain ⟨cb_5_0, cb_5_1⟩ := cells2s Rb_5
  obtain ⟨cx_5_0, cx_5_1⟩ := cells2s Rx_5
  obtain ⟨cy_5_0, cy_5_1⟩ := cells2s Ry_5
  have S6 := box B5.size
  have La_6 : Box (w.heap.size < w5.heap.size) := box (Array.getElem?_eq_some_iff.1 Ra_5).1
  have Lb_6 : Box (w.heap.size + 1 < w5.heap.size) := box (Array.getElem?_eq_some_iff.1 Rb_5).1
  have Lx_6 : Box (w1.heap.size < w5.heap.size) := box (Array.getElem?_eq_some_iff.1 Rx_5).1
  have Ly_6 : Box (w3.heap.size < w5.heap.size) := box (Array.getElem?_eq_some_iff.1 Ry_5).1
  have Rz_6 := heap_alloc_last w5 (Obj.cells #[.int .u64 0, .int .u64 0] 25)
  have B6 := btr B5 (bal w5 (Obj.cells #[.int .u64 0, .int .u64 0] 25))
  have Ra_6 := heap_of (bal w5 (Obj.cells #[.int .u64 0, .int .u64 0] 25)) _ _ _ Ra_5
  have Rb_6 := heap_of (bal w5 (Obj.cells #[.int .u64 0, .int .u64 0] 25)) _ _ _ Rb_5
  have Rx_6 := heap_of (bal w5 (Obj.cells #[.int .u64 0, .int .u64 0] 25)) _ _ _ Rx_5
  have Ry_6 := heap_of (bal w5 (Obj.cells #[.int .u64 0, .int .u64 0] 25)) _ _ _ Ry_5
  clear B5 Ra_5 ca_5_0 ca_5_1 Rb_5 cb_5_0 cb_5_1 Rx_5 cx_5_0 cx_5_1 Ry_5 cy_5_0 cy_5_1
  obtain ⟨ca_6_0, ca_6_1⟩ := cells2s Ra_6
  obtain ⟨cb_6_0, cb_6_1⟩ := cells2s Rb_6
  obtain ⟨cx_6_0, cx_6_1⟩ := cells2s Rx_6
  obtain ⟨cy_6_0, cy_6_1⟩ := cells2s Ry_6
  obtain ⟨cz_6_0, cz_6_1⟩ := cells2s Rz_6
  go_wp2_with fail
  refine (KF1.out _).mono ?_
  rintro r w7 ⟨rfl, b7⟩
  have B7 : Below w.heap.size w w7 := btr B6 b7
  have Ra_7 := heap_of b7 _ _ _ Ra_6
  have Rb_7 := heap_of b7 _ _ _ Rb_6
  have Rx_7 := heap_of b7 _ _ _ Rx_6
  have Ry_7 := heap_of b7 _ _ _ Ry_6
  have Rz_7 := heap_of b7 _ _ _ Rz_6
  clear b7 B6 Ra_6 ca_6_0 ca_6_1 Rb_6 cb_6_0 cb_6_1 Rx_6 cx_6_0 cx_6_1 Ry_6 cy_6_0 cy_6_1 Rz_6 cz_6_0 cz_6_1
  obtain ⟨ca_7_0, ca_7_1⟩ := cells2s Ra_7
  obtain ⟨cb_7_0, cb_7_1⟩ := cells2s Rb_7
  obtain ⟨cx_7_0, cx_7_1⟩ := cells2s Rx_7
  obtain ⟨cy_7_0, cy_7_1⟩ := cells2s Ry_7
  obtain ⟨cz_7_0, cz_7_1⟩ := cells2s Rz_7
  go_wp2_with fail
  refine (KF2.out _).mono ?_
  rintro r w8 ⟨rfl, b8⟩
  have B8 : Below w.heap.size w w8 := btr B7 b8
  have Ra_8 := heap_of b8 _ _ _ Ra_7
  have Rb_8 := heap_of b8 _ _ _ Rb_7
  have Rx_8 := heap_of b8 _ _ _ Rx_7
  have Ry_8 := heap_of b8 _ _ _ Ry_7
  have Rz_8 := heap_of b8 _ _ _ Rz_7
  clear b8 B7 Ra_7 ca_7_0 ca_7_1 Rb_7 cb_7_0 cb_7_1 Rx_7 cx_7_0 cx_7_1 Ry_7 cy_7_0 cy_7_1 Rz_7 cz_7_0 cz_7_1
  obtain ⟨ca_8_0, ca_8_1⟩ := cells2s Ra_8
  obtain ⟨cb_8_0, cb_8_1⟩ := cells2s Rb_8
  obtain ⟨cx_8_0, cx_8_1⟩ := cells2s Rx_8
  obtain ⟨cy_8_0, cy_8_1⟩ := cells2s Ry_8
  obtain ⟨cz_8_0, cz_8_1⟩ := cells2s Rz_8
  have S9 := box B8.size
  have La_9 : Box (w.heap.size < w8.heap.size) := box (Array.getElem?_eq_some_iff.1 Ra_8).1
  have Lb_9 : Box (w.heap.size + 1 < w8.heap.size) := box (Array.getElem?_eq_some_iff.1 Rb_8).1
  have Lx_9 : Box (w1.heap.size < w8.heap.size) := box (Array.getElem?_eq_some_iff.1 Rx_8).1
  have Ly_9 : Box (w3.heap.size < w8.heap.size) := box (Array.getElem?_eq_some_iff.1 Ry_8).1
  have Lz_9 : Box (w5.heap.size < w8.heap.size) := box (Array.getElem?_eq_some_iff.1 Rz_8).1
  have Rn_9 := heap_alloc_last w8 (Obj.cells #[.int .u64 0, .int .u64 0] 25)
  have B9 := btr B8 (bal w8 (Obj.cells #[.int .u64 0, .int .u64 0] 25))
  have Ra_9 := heap_of (bal w8 (Obj.cells #[.int .u64 0, .int .u64 0] 25)) _ _ _ Ra_8
  have Rb_9 := heap_of (bal w8 (Obj.cells #[.int .u64 0, .int .u64 0] 25)) _ _ _ Rb_8
  have Rx_9 := heap_of (bal w8 (Obj.cells #[.int .u64 0, .int .u64 0] 25)) _ _ _ Rx_8
  have Ry_9 := heap_of (bal w8 (Obj.cells #[.int .u64 0, .int .u64 0] 25)) _ _ _ Ry_8
  have Rz_9 := heap_of (bal w8 (Obj.cells #[.int .u64 0, .int .u64 0] 25)) _ _ _ Rz_8
  clear B8 Ra_8 ca_8_0 ca_8_1 Rb_8 cb_8_0 cb_8_1 Rx_8 cx_8_0 cx_8_1 Ry_8 cy_8_0 cy_8_1 Rz_8 cz_8_0 cz_8_1
  obtain ⟨ca_9_0, ca_9_1⟩ := cells2s Ra_9
  obtain ⟨cb_9_0, cb_9_1⟩ := cells2s Rb_9
  obtain ⟨cx_9_0, cx_9_1⟩ := cells2s Rx_9
  obtain ⟨cy_9_0, cy_9_1⟩ := cells2s Ry_9
  obtain ⟨cz_9_0, cz_9_1⟩ := cells2s Rz_9
  obtain ⟨cn_9_0, cn_9_1⟩ := cells2s Rn_9
  go_wp2_with fail
  refine (KA.out _ (fatB FF.out B9)).mono ?_
  rintro r w10 ⟨rfl, b10⟩
  have B10 : Below w.heap.size w w10 := btr B9 b10
  have Ra_10 := heap_of b10 _ _ _ Ra_9
  have Rb_10 := heap_of b10 _ _ _ Rb_9
  have Rx_10 := heap_of b10 _ _ _ Rx_9
  have Ry_10 := heap_of b10 _ _ _ Ry_9
  have Rz_10 := heap_of b10 _ _ _ Rz_9
  have Rn_10 := heap_of b10 _ _ _ Rn_9
  clear b10 B9 Ra_9 ca_9_0 ca_9_1 Rb_9 cb_9_0 cb_9_1 Rx_9 cx_9_0 cx_9_1 Ry_9 cy_9_0 cy_9_1 Rz_9 cz_9_0 cz_9_1 Rn_9 cn_9_0 cn_9_1
  obtain ⟨ca_10_0, ca_10_1⟩ := cells2s Ra_10
  obtain ⟨cb_10_0, cb_10_1⟩ := cells2s Rb_10
  obtain ⟨cx_10_0, cx_10_1⟩ := cells2s Rx_10
  obtain ⟨cy_10_0, cy_10_1⟩ := cells2s Ry_10
  obtain ⟨cz_10_0, cz_10_1⟩ := cells2s Rz_10
  obtain ⟨cn_10_0, cn_10_1⟩ := cells2s Rn_10
  go_wp2
  go_ret
  exact ⟨rfl, B10⟩
set_option maxRecDepth 100000 in
set_option maxHeartbeats 8000000 in
theorem si_yes00 (f : Int) (x1 y1 x2 y2 ut vt uf vf : Nat) (w : World) (K1 : Box (∀ w, FAt w → Calls Tryd.prog 6 #[.int .u8 f, .agg #[.int .u64 (x1 : Nat), .int .u64 (y1 : Nat)], .agg #[.int .u64 (x2 : Nat), .int .u64 (y2 : Nat)]] w fun r w' => r = .returned (.tuple #[.agg #[.int .u64 (uf : Nat), .int .u64 (vf : Nat)], .int .i64 0]) ∧ Below w.heap.size w w')) (K2 : Box (∀ w, FAt w → Calls Tryd.prog 7 #[.int .u8 f, .agg #[.int .u64 (x1 : Nat), .int .u64 (y1 : Nat)], .agg #[.int .u64 (x2 : Nat), .int .u64 (y2 : Nat)]] w fun r w' => r = .returned (.tuple #[.agg #[.int .u64 (ut : Nat), .int .u64 (vt : Nat)], .int .i64 0]) ∧ Below w.heap.size w w')) (K3 : Box (∀ w, FAt w → Calls Tryd.prog 8 #[.int .u8 f, .agg #[.int .u64 (x1 : Nat), .int .u64 (y1 : Nat)], .agg #[.int .u64 (x2 : Nat), .int .u64 (y2 : Nat)]] w fun r w' => r = .returned (.tuple #[.agg #[.int .u64 (uf : Nat), .int .u64 (vf : Nat)], .int .i64 0]) ∧ Below w.heap.size w w')) (KF1 : Box (∀ w, Calls Tryd.prog 9 #[.int .u8 f, .agg #[.int .u64 (x1 : Nat), .int .u64 (y1 : Nat)]] w fun r w' => r = .returned (.bool true) ∧ Below w.heap.size w w')) (KF2 : Box (∀ w, Calls Tryd.prog 9 #[.int .u8 f, .agg #[.int .u64 (x2 : Nat), .int .u64 (y2 : Nat)]] w fun r w' => r = .returned (.bool true) ∧ Below w.heap.size w w')) (KS1 : Box (∀ w, Calls Tryd.prog 11 #[.int .u8 f, .agg #[.int .u64 (x1 : Nat), .int .u64 (y1 : Nat)]] w fun r w' => r = .returned (.bool false) ∧ Below w.heap.size w w')) (KS2 : Box (∀ w, Calls Tryd.prog 11 #[.int .u8 f, .agg #[.int .u64 (x2 : Nat), .int .u64 (y2 : Nat)]] w fun r w' => r = .returned (.bool false) ∧ Below w.heap.size w w')) (RF : Box (∀ w, Calls Tryd.prog 12 #[.int .u8 f, .agg #[.int .u64 (x1 : Nat), .int .u64 (y1 : Nat)], .bool false] w fun r w' => r = .returned (.agg #[.int .u64 (uf : Nat), .int .u64 (vf : Nat)]) ∧ Below w.heap.size w w')) (RT : Box (∀ w, Calls Tryd.prog 12 #[.int .u8 f, .agg #[.int .u64 (x1 : Nat), .int .u64 (y1 : Nat)], .bool true] w fun r w' => r = .returned (.agg #[.int .u64 (ut : Nat), .int .u64 (vt : Nat)]) ∧ Below w.heap.size w w')) (KA : Box (∀ w, FAt w → Calls Tryd.prog 10 #[] w fun r w' => r = .returned (.bool true) ∧ Below w.heap.size w w')) (hT : FAt w) : Calls Tryd.prog 3 #[.int .u8 f, .agg #[.int .u64 (x1 : Nat), .int .u64 (y1 : Nat)], .agg #[.int .u64 (x2 : Nat), .int .u64 (y2 : Nat)]] w fun r w' => r = .returned (.bool true) ∧ Below w.heap.size w w' := by
  have FF := box hT
  clear hT
  have hE := eqb
  have e1 := ebb_sf (ut : Nat) (vt : Nat)
  have e2 := ebb_sf (uf : Nat) (vf : Nat)
  obtain ⟨Ra_0, Rb_0, B0⟩ := opn2 w (Obj.cells #[.int .u64 (x1 : Nat), .int .u64 (y1 : Nat)] 25) (Obj.cells #[.int .u64 (x2 : Nat), .int .u64 (y2 : Nat)] 25)
  go_enter Tryd.func3, Tryd.ntmps3
  obtain ⟨ca_0_0, ca_0_1⟩ := cells2s Ra_0
  obtain ⟨cb_0_0, cb_0_1⟩ := cells2s Rb_0
  go_wp2_with fail
  refine (K1.out _ (fatB FF.out B0)).mono ?_
  rintro r w1 ⟨rfl, b1⟩
  have B1 : Below w.heap.size w w1 := btr B0 b1
  have Ra_1 := heap_of b1 _ _ _ Ra_0
  have Rb_1 := heap_of b1 _ _ _ Rb_0
  clear b1 B0 Ra_0 ca_0_0 ca_0_1 Rb_0 cb_0_0 cb_0_1
  obtain ⟨ca_1_0, ca_1_1⟩ := cells2s Ra_1
  obtain ⟨cb_1_0, cb_1_1⟩ := cells2s Rb_1
  have S2 := box B1.size
  have La_2 : Box (w.heap.size < w1.heap.size) := box (Array.getElem?_eq_some_iff.1 Ra_1).1
  have Lb_2 : Box (w.heap.size + 1 < w1.heap.size) := box (Array.getElem?_eq_some_iff.1 Rb_1).1
  have Rx_2 := heap_alloc_last w1 (Obj.cells #[.int .u64 (uf : Nat), .int .u64 (vf : Nat)] 25)
  have B2 := btr B1 (bal w1 (Obj.cells #[.int .u64 (uf : Nat), .int .u64 (vf : Nat)] 25))
  have Ra_2 := heap_of (bal w1 (Obj.cells #[.int .u64 (uf : Nat), .int .u64 (vf : Nat)] 25)) _ _ _ Ra_1
  have Rb_2 := heap_of (bal w1 (Obj.cells #[.int .u64 (uf : Nat), .int .u64 (vf : Nat)] 25)) _ _ _ Rb_1
  clear B1 Ra_1 ca_1_0 ca_1_1 Rb_1 cb_1_0 cb_1_1
  obtain ⟨ca_2_0, ca_2_1⟩ := cells2s Ra_2
  obtain ⟨cb_2_0, cb_2_1⟩ := cells2s Rb_2
  obtain ⟨cx_2_0, cx_2_1⟩ := cells2s Rx_2
  go_wp2_with fail
  refine (K2.out _ (fatB FF.out B2)).mono ?_
  rintro r w3 ⟨rfl, b3⟩
  have B3 : Below w.heap.size w w3 := btr B2 b3
  have Ra_3 := heap_of b3 _ _ _ Ra_2
  have Rb_3 := heap_of b3 _ _ _ Rb_2
  have Rx_3 := heap_of b3 _ _ _ Rx_2
  clear b3 B2 Ra_2 ca_2_0 ca_2_1 Rb_2 cb_2_0 cb_2_1 Rx_2 cx_2_0 cx_2_1
  obtain ⟨ca_3_0, ca_3_1⟩ := cells2s Ra_3
  obtain ⟨cb_3_0, cb_3_1⟩ := cells2s Rb_3
  obtain ⟨cx_3_0, cx_3_1⟩ := cells2s Rx_3
  have S4 := box B3.size
  have La_4 : Box (w.heap.size < w3.heap.size) := box (Array.getElem?_eq_some_iff.1 Ra_3).1
  have Lb_4 : Box (w.heap.size + 1 < w3.heap.size) := box (Array.getElem?_eq_some_iff.1 Rb_3).1
  have Lx_4 : Box (w1.heap.size < w3.heap.size) := box (Array.getElem?_eq_some_iff.1 Rx_3).1
  have Ry_4 := heap_alloc_last w3 (Obj.cells #[.int .u64 (ut : Nat), .int .u64 (vt : Nat)] 25)
  have B4 := btr B3 (bal w3 (Obj.cells #[.int .u64 (ut : Nat), .int .u64 (vt : Nat)] 25))
  have Ra_4 := heap_of (bal w3 (Obj.cells #[.int .u64 (ut : Nat), .int .u64 (vt : Nat)] 25)) _ _ _ Ra_3
  have Rb_4 := heap_of (bal w3 (Obj.cells #[.int .u64 (ut : Nat), .int .u64 (vt : Nat)] 25)) _ _ _ Rb_3
  have Rx_4 := heap_of (bal w3 (Obj.cells #[.int .u64 (ut : Nat), .int .u64 (vt : Nat)] 25)) _ _ _ Rx_3
  clear B3 Ra_3 ca_3_0 ca_3_1 Rb_3 cb_3_0 cb_3_1 Rx_3 cx_3_0 cx_3_1
  obtain ⟨ca_4_0, ca_4_1⟩ := cells2s Ra_4
  obtain ⟨cb_4_0, cb_4_1⟩ := cells2s Rb_4
  obtain ⟨cx_4_0, cx_4_1⟩ := cells2s Rx_4
  obtain ⟨cy_4_0, cy_4_1⟩ := cells2s Ry_4
  go_wp2_with fail
  refine (K3.out _ (fatB FF.out B4)).mono ?_
  rintro r w5 ⟨rfl, b5⟩
  have B5 : Below w.heap.size w w5 := btr B4 b5
  have Ra_5 := heap_of b5 _ _ _ Ra_4
  have Rb_5 := heap_of b5 _ _ _ Rb_4
  have Rx_5 := heap_of b5 _ _ _ Rx_4
  have Ry_5 := heap_of b5 _ _ _ Ry_4
  clear b5 B4 Ra_4 ca_4_0 ca_4_1 Rb_4 cb_4_0 cb_4_1 Rx_4 cx_4_0 cx_4_1 Ry_4 cy_4_0 cy_4_1
  obtain ⟨ca_5_0, ca_5_1⟩ := cells2s Ra_5
  obtain ⟨cb_5_0, cb_5_1⟩ := cells2s Rb_5
  obtain ⟨cx_5_0, cx_5_1⟩ := cells2s Rx_5
  obtain ⟨cy_5_0, cy_5_1⟩ := cells2s Ry_5
  have S6 := box B5.size
  have La_6 : Box (w.heap.size < w5.heap.size) := box (Array.getElem?_eq_some_iff.1 Ra_5).1
  have Lb_6 : Box (w.heap.size + 1 < w5.heap.size) := box (Array.getElem?_eq_some_iff.1 Rb_5).1
  have Lx_6 : Box (w1.heap.size < w5.heap.size) := box (Array.getElem?_eq_some_iff.1 Rx_5).1
  have Ly_6 : Box (w3.heap.size < w5.heap.size) := box (Array.getElem?_eq_some_iff.1 Ry_5).1
  have Rz_6 := heap_alloc_last w5 (Obj.cells #[.int .u64 (uf : Nat), .int .u64 (vf : Nat)] 25)
  have B6 := btr B5 (bal w5 (Obj.cells #[.int .u64 (uf : Nat), .int .u64 (vf : Nat)] 25))
  have Ra_6 := heap_of (bal w5 (Obj.cells #[.int .u64 (uf : Nat), .int .u64 (vf : Nat)] 25)) _ _ _ Ra_5
  have Rb_6 := heap_of (bal w5 (Obj.cells #[.int .u64 (uf : Nat), .int .u64 (vf : Nat)] 25)) _ _ _ Rb_5
  have Rx_6 := heap_of (bal w5 (Obj.cells #[.int .u64 (uf : Nat), .int .u64 (vf : Nat)] 25)) _ _ _ Rx_5
  have Ry_6 := heap_of (bal w5 (Obj.cells #[.int .u64 (uf : Nat), .int .u64 (vf : Nat)] 25)) _ _ _ Ry_5
  clear B5 Ra_5 ca_5_0 ca_5_1 Rb_5 cb_5_0 cb_5_1 Rx_5 cx_5_0 cx_5_1 Ry_5 cy_5_0 cy_5_1
  obtain ⟨ca_6_0, ca_6_1⟩ := cells2s Ra_6
  obtain ⟨cb_6_0, cb_6_1⟩ := cells2s Rb_6
  obtain ⟨cx_6_0, cx_6_1⟩ := cells2s Rx_6
  obtain ⟨cy_6_0, cy_6_1⟩ := cells2s Ry_6
  obtain ⟨cz_6_0, cz_6_1⟩ := cells2s Rz_6
  go_wp2_with fail
  refine (KF1.out _).mono ?_
  rintro r w7 ⟨rfl, b7⟩
  have B7 : Below w.heap.size w w7 := btr B6 b7
  have Ra_7 := heap_of b7 _ _ _ Ra_6
  have Rb_7 := heap_of b7 _ _ _ Rb_6
  have Rx_7 := heap_of b7 _ _ _ Rx_6
  have Ry_7 := heap_of b7 _ _ _ Ry_6
  have Rz_7 := heap_of b7 _ _ _ Rz_6
  clear b7 B6 Ra_6 ca_6_0 ca_6_1 Rb_6 cb_6_0 cb_6_1 Rx_6 cx_6_0 cx_6_1 Ry_6 cy_6_0 cy_6_1 Rz_6 cz_6_0 cz_6_1
  obtain ⟨ca_7_0, ca_7_1⟩ := cells2s Ra_7
  obtain ⟨cb_7_0, cb_7_1⟩ := cells2s Rb_7
  obtain ⟨cx_7_0, cx_7_1⟩ := cells2s Rx_7
  obtain ⟨cy_7_0, cy_7_1⟩ := cells2s Ry_7
  obtain ⟨cz_7_0, cz_7_1⟩ := cells2s Rz_7
  go_wp2_with fail
  refine (KF2.out _).mono ?_
  rintro r w8 ⟨rfl, b8⟩
  have B8 : Below w.heap.size w w8 := btr B7 b8
  have Ra_8 := heap_of b8 _ _ _ Ra_7
  have Rb_8 := heap_of b8 _ _ _ Rb_7
  have Rx_8 := heap_of b8 _ _ _ Rx_7
  have Ry_8 := heap_of b8 _ _ _ Ry_7
  have Rz_8 := heap_of b8 _ _ _ Rz_7
  clear b8 B7 Ra_7 ca_7_0 ca_7_1 Rb_7 cb_7_0 cb_7_1 Rx_7 cx_7_0 cx_7_1 Ry_7 cy_7_0 cy_7_1 Rz_7 cz_7_0 cz_7_1
  obtain ⟨ca_8_0, ca_8_1⟩ := cells2s Ra_8
  obtain ⟨cb_8_0, cb_8_1⟩ := cells2s Rb_8
  obtain ⟨cx_8_0, cx_8_1⟩ := cells2s Rx_8
  obtain ⟨cy_8_0, cy_8_1⟩ := cells2s Ry_8
  obtain ⟨cz_8_0, cz_8_1⟩ := cells2s Rz_8
  have sS : Box (∀ W W1 : World, (Below w.heap.size w W ∧ W.heap[w.heap.size]? = some (Obj.cells #[.int .u64 (x1 : Nat), .int .u64 (y1 : Nat)] 25) ∧ W.heap[w.heap.size + 1]? = some (Obj.cells #[.int .u64 (x2 : Nat), .int .u64 (y2 : Nat)] 25) ∧ W.heap[w1.heap.size]? = some (Obj.cells #[.int .u64 (uf : Nat), .int .u64 (vf : Nat)] 25) ∧ W.heap[w3.heap.size]? = some (Obj.cells #[.int .u64 (ut : Nat), .int .u64 (vt : Nat)] 25) ∧ W.heap[w5.heap.size]? = some (Obj.cells #[.int .u64 (uf : Nat), .int .u64 (vf : Nat)] 25) ∧ W.cell? ⟨w.heap.size, 0, none⟩ = some (.int .u64 (x1 : Nat)) ∧ W.cell? ⟨w.heap.size, 1, none⟩ = some (.int .u64 (y1 : Nat)) ∧ W.cell? ⟨w.heap.size + 1, 0, none⟩ = some (.int .u64 (x2 : Nat)) ∧ W.cell? ⟨w.heap.size + 1, 1, none⟩ = some (.int .u64 (y2 : Nat)) ∧ W.cell? ⟨w1.heap.size, 0, none⟩ = some (.int .u64 (uf : Nat)) ∧ W.cell? ⟨w1.heap.size, 1, none⟩ = some (.int .u64 (vf : Nat)) ∧ W.cell? ⟨w3.heap.size, 0, none⟩ = some (.int .u64 (ut : Nat)) ∧ W.cell? ⟨w3.heap.size, 1, none⟩ = some (.int .u64 (vt : Nat)) ∧ W.cell? ⟨w5.heap.size, 0, none⟩ = some (.int .u64 (uf : Nat)) ∧ W.cell? ⟨w5.heap.size, 1, none⟩ = some (.int .u64 (vf : Nat))) → Below W.heap.size W W1 → (Below w.heap.size w W1 ∧ W1.heap[w.heap.size]? = some (Obj.cells #[.int .u64 (x1 : Nat), .int .u64 (y1 : Nat)] 25) ∧ W1.heap[w.heap.size + 1]? = some (Obj.cells #[.int .u64 (x2 : Nat), .int .u64 (y2 : Nat)] 25) ∧ W1.heap[w1.heap.size]? = some (Obj.cells #[.int .u64 (uf : Nat), .int .u64 (vf : Nat)] 25) ∧ W1.heap[w3.heap.size]? = some (Obj.cells #[.int .u64 (ut : Nat), .int .u64 (vt : Nat)] 25) ∧ W1.heap[w5.heap.size]? = some (Obj.cells #[.int .u64 (uf : Nat), .int .u64 (vf : Nat)] 25) ∧ W1.cell? ⟨w.heap.size, 0, none⟩ = some (.int .u64 (x1 : Nat)) ∧ W1.cell? ⟨w.heap.size, 1, none⟩ = some (.int .u64 (y1 : Nat)) ∧ W1.cell? ⟨w.heap.size + 1, 0, none⟩ = some (.int .u64 (x2 : Nat)) ∧ W1.cell? ⟨w.heap.size + 1, 1, none⟩ = some (.int .u64 (y2 : Nat)) ∧ W1.cell? ⟨w1.heap.size, 0, none⟩ = some (.int .u64 (uf : Nat)) ∧ W1.cell? ⟨w1.heap.size, 1, none⟩ = some (.int .u64 (vf : Nat)) ∧ W1.cell? ⟨w3.heap.size, 0, none⟩ = some (.int .u64 (ut : Nat)) ∧ W1.cell? ⟨w3.heap.size, 1, none⟩ = some (.int .u64 (vt : Nat)) ∧ W1.cell? ⟨w5.heap.size, 0, none⟩ = some (.int .u64 (uf : Nat)) ∧ W1.cell? ⟨w5.heap.size, 1, none⟩ = some (.int .u64 (vf : Nat)))) := box (fun W W1 h b => ⟨btr h.1 b, heap_of b _ _ _ h.2.1, heap_of b _ _ _ h.2.2.1, heap_of b _ _ _ h.2.2.2.1, heap_of b _ _ _ h.2.2.2.2.1, heap_of b _ _ _ h.2.2.2.2.2.1, cell7 (heap_of b _ _ _ h.2.1) 0 _ rfl, cell7 (heap_of b _ _ _ h.2.1) 1 _ rfl, cell7 (heap_of b _ _ _ h.2.2.1) 0 _ rfl, cell7 (heap_of b _ _ _ h.2.2.1) 1 _ rfl, cell7 (heap_of b _ _ _ h.2.2.2.1) 0 _ rfl, cell7 (heap_of b _ _ _ h.2.2.2.1) 1 _ rfl, cell7 (heap_of b _ _ _ h.2.2.2.2.1) 0 _ rfl, cell7 (heap_of b _ _ _ h.2.2.2.2.1) 1 _ rfl, cell7 (heap_of b _ _ _ h.2.2.2.2.2.1) 0 _ rfl, cell7 (heap_of b _ _ _ h.2.2.2.2.2.1) 1 _ rfl⟩)
  have s0 : Below w.heap.size w (w8).drew ∧ (w8).drew.heap[w.heap.size]? = some (Obj.cells #[.int .u64 (x1 : Nat), .int .u64 (y1 : Nat)] 25) ∧ (w8).drew.heap[w.heap.size + 1]? = some (Obj.cells #[.int .u64 (x2 : Nat), .int .u64 (y2 : Nat)] 25) ∧ (w8).drew.heap[w1.heap.size]? = some (Obj.cells #[.int .u64 (uf : Nat), .int .u64 (vf : Nat)] 25) ∧ (w8).drew.heap[w3.heap.size]? = some (Obj.cells #[.int .u64 (ut : Nat), .int .u64 (vt : Nat)] 25) ∧ (w8).drew.heap[w5.heap.size]? = some (Obj.cells #[.int .u64 (uf : Nat), .int .u64 (vf : Nat)] 25) ∧ (w8).drew.cell? ⟨w.heap.size, 0, none⟩ = some (.int .u64 (x1 : Nat)) ∧ (w8).drew.cell? ⟨w.heap.size, 1, none⟩ = some (.int .u64 (y1 : Nat)) ∧ (w8).drew.cell? ⟨w.heap.size + 1, 0, none⟩ = some (.int .u64 (x2 : Nat)) ∧ (w8).drew.cell? ⟨w.heap.size + 1, 1, none⟩ = some (.int .u64 (y2 : Nat)) ∧ (w8).drew.cell? ⟨w1.heap.size, 0, none⟩ = some (.int .u64 (uf : Nat)) ∧ (w8).drew.cell? ⟨w1.heap.size, 1, none⟩ = some (.int .u64 (vf : Nat)) ∧ (w8).drew.cell? ⟨w3.heap.size, 0, none⟩ = some (.int .u64 (ut : Nat)) ∧ (w8).drew.cell? ⟨w3.heap.size, 1, none⟩ = some (.int .u64 (vt : Nat)) ∧ (w8).drew.cell? ⟨w5.heap.size, 0, none⟩ = some (.int .u64 (uf : Nat)) ∧ (w8).drew.cell? ⟨w5.heap.size, 1, none⟩ = some (.int .u64 (vf : Nat)) := ⟨B8.drew, Ra_8, Rb_8, Rx_8, Ry_8, Rz_8, cell7 (Ra_8) 0 _ rfl, cell7 (Ra_8) 1 _ rfl, cell7 (Rb_8) 0 _ rfl, cell7 (Rb_8) 1 _ rfl, cell7 (Rx_8) 0 _ rfl, cell7 (Rx_8) 1 _ rfl, cell7 (Ry_8) 0 _ rfl, cell7 (Ry_8) 1 _ rfl, cell7 (Rz_8) 0 _ rfl, cell7 (Rz_8) 1 _ rfl⟩
  go_wp2_with fail
  go_region_held3 (fun W => Below w.heap.size w W ∧ W.heap[w.heap.size]? = some (Obj.cells #[.int .u64 (x1 : Nat), .int .u64 (y1 : Nat)] 25) ∧ W.heap[w.heap.size + 1]? = some (Obj.cells #[.int .u64 (x2 : Nat), .int .u64 (y2 : Nat)] 25) ∧ W.heap[w1.heap.size]? = some (Obj.cells #[.int .u64 (uf : Nat), .int .u64 (vf : Nat)] 25) ∧ W.heap[w3.heap.size]? = some (Obj.cells #[.int .u64 (ut : Nat), .int .u64 (vt : Nat)] 25) ∧ W.heap[w5.heap.size]? = some (Obj.cells #[.int .u64 (uf : Nat), .int .u64 (vf : Nat)] 25) ∧ W.cell? ⟨w.heap.size, 0, none⟩ = some (.int .u64 (x1 : Nat)) ∧ W.cell? ⟨w.heap.size, 1, none⟩ = some (.int .u64 (y1 : Nat)) ∧ W.cell? ⟨w.heap.size + 1, 0, none⟩ = some (.int .u64 (x2 : Nat)) ∧ W.cell? ⟨w.heap.size + 1, 1, none⟩ = some (.int .u64 (y2 : Nat)) ∧ W.cell? ⟨w1.heap.size, 0, none⟩ = some (.int .u64 (uf : Nat)) ∧ W.cell? ⟨w1.heap.size, 1, none⟩ = some (.int .u64 (vf : Nat)) ∧ W.cell? ⟨w3.heap.size, 0, none⟩ = some (.int .u64 (ut : Nat)) ∧ W.cell? ⟨w3.heap.size, 1, none⟩ = some (.int .u64 (vt : Nat)) ∧ W.cell? ⟨w5.heap.size, 0, none⟩ = some (.int .u64 (uf : Nat)) ∧ W.cell? ⟨w5.heap.size, 1, none⟩ = some (.int .u64 (vf : Nat))) (first | exact s1 | exact s0)
    (first | (go_at_call_of 11 (Value.agg #[Value.int IntKind.u64 (x1 : Int), Value.int IntKind.u64 (y1 : Int)]); (first | refine (KS1.out _).mono ?_ | refine (KS1.out _).mono ?_); rintro r wq ⟨rfl, bq⟩; have s1 := (by first | exact sS.out _ _ s1 bq | exact sS.out _ _ s0 bq); clear bq) | (go_at_call_of 11 (Value.agg #[Value.int IntKind.u64 (x2 : Int), Value.int IntKind.u64 (y2 : Int)]); (first | refine (KS2.out _).mono ?_ | refine (KS2.out _).mono ?_); rintro r wq ⟨rfl, bq⟩; have s1 := (by first | exact sS.out _ _ s1 bq | exact sS.out _ _ s0 bq); clear bq) | fail)
  have B9 := (And.left s1)
  have Ra_9 := s1.2.1
  have Rb_9 := s1.2.2.1
  have Rx_9 := s1.2.2.2.1
  have Ry_9 := s1.2.2.2.2.1
  have Rz_9 := s1.2.2.2.2.2.1
  clear s0 s1 sS B8 Ra_8 ca_8_0 ca_8_1 Rb_8 cb_8_0 cb_8_1 Rx_8 cx_8_0 cx_8_1 Ry_8 cy_8_0 cy_8_1 Rz_8 cz_8_0 cz_8_1
  obtain ⟨ca_9_0, ca_9_1⟩ := cells2s Ra_9
  obtain ⟨cb_9_0, cb_9_1⟩ := cells2s Rb_9
  obtain ⟨cx_9_0, cx_9_1⟩ := cells2s Rx_9
  obtain ⟨cy_9_0, cy_9_1⟩ := cells2s Ry_9
  obtain ⟨cz_9_0, cz_9_1⟩ := cells2s Rz_9
  go_wp2_with fail
  obtain ⟨F, hF1, hF2⟩ := below_fun wq
  have fa_0 := fun u => cells4 (heap_of (hF1 u) _ _ _ Ra_9) 0 _ rfl
  have fa_1 := fun u => cells4 (heap_of (hF1 u) _ _ _ Ra_9) 1 _ rfl
  have fb_0 := fun u => cells4 (heap_of (hF1 u) _ _ _ Rb_9) 0 _ rfl
  have fb_1 := fun u => cells4 (heap_of (hF1 u) _ _ _ Rb_9) 1 _ rfl
  have fx_0 := fun u => cells4 (heap_of (hF1 u) _ _ _ Rx_9) 0 _ rfl
  have fx_1 := fun u => cells4 (heap_of (hF1 u) _ _ _ Rx_9) 1 _ rfl
  have fy_0 := fun u => cells4 (heap_of (hF1 u) _ _ _ Ry_9) 0 _ rfl
  have fy_1 := fun u => cells4 (heap_of (hF1 u) _ _ _ Ry_9) 1 _ rfl
  have fz_0 := fun u => cells4 (heap_of (hF1 u) _ _ _ Rz_9) 0 _ rfl
  have fz_1 := fun u => cells4 (heap_of (hF1 u) _ _ _ Rz_9) 1 _ rfl
  have FG : Box (∀ u, FAt (F u)) := box (fun u => fatB FF.out (btr B9 (hF1 u)))
  refine wp_region_below F hF2 (by kernel_rfl) (by kernel_rfl) ?_
  repeat first | go_big_quiet_step (first | (go_at_call_of 12 (Value.bool true); exact quietF hF1 hF2 (RT.out _)) | (go_at_call_of 12 (Value.bool false); exact quietF hF1 hF2 (RF.out _)) | (go_at_call 10; exact quietF hF1 hF2 (KA.out _ (FG.out _))) | fail) | quiet_step (first | (go_at_call_of 12 (Value.bool true); exact quietF hF1 hF2 (RT.out _)) | (go_at_call_of 12 (Value.bool false); exact quietF hF1 hF2 (RF.out _)) | (go_at_call 10; exact quietF hF1 hF2 (KA.out _ (FG.out _))) | fail)
  refine wpQuiet_nil ?_
  rintro _ ⟨uW, rfl⟩
  have B10 := btr B9 (hF1 uW)
  have Ra_10 := heap_of (hF1 uW) _ _ _ Ra_9
  have Rb_10 := heap_of (hF1 uW) _ _ _ Rb_9
  have Rx_10 := heap_of (hF1 uW) _ _ _ Rx_9
  have Ry_10 := heap_of (hF1 uW) _ _ _ Ry_9
  have Rz_10 := heap_of (hF1 uW) _ _ _ Rz_9
  obtain ⟨w10, hw⟩ : ∃ V, F uW = V := ⟨_, rfl⟩
  rw [hw] at B10 Ra_10 Rb_10 Rx_10 Ry_10 Rz_10
  try rw [hw]
  clear hw hF1 hF2 B9 fa_0 fa_1 fb_0 fb_1 fx_0 fx_1 fy_0 fy_1 fz_0 fz_1 Ra_9 ca_9_0 ca_9_1 Rb_9 cb_9_0 cb_9_1 Rx_9 cx_9_0 cx_9_1 Ry_9 cy_9_0 cy_9_1 Rz_9 cz_9_0 cz_9_1
  clear FG
  clear F
  obtain ⟨ca_10_0, ca_10_1⟩ := cells2s Ra_10
  obtain ⟨cb_10_0, cb_10_1⟩ := cells2s Rb_10
  obtain ⟨cx_10_0, cx_10_1⟩ := cells2s Rx_10
  obtain ⟨cy_10_0, cy_10_1⟩ := cells2s Ry_10
  obtain ⟨cz_10_0, cz_10_1⟩ := cells2s Rz_10
  go_wp2
  go_ret
  exact ⟨rfl, B10⟩
set_option maxRecDepth 100000 in
set_option maxHeartbeats 8000000 in
theorem si_yes01 (f : Int) (x1 y1 x2 y2 ut vt uf vf : Nat) (w : World) (K1 : Box (∀ w, FAt w → Calls Tryd.prog 6 #[.int .u8 f, .agg #[.int .u64 (x1 : Nat), .int .u64 (y1 : Nat)], .agg #[.int .u64 (x2 : Nat), .int .u64 (y2 : Nat)]] w fun r w' => r = .returned (.tuple #[.agg #[.int .u64 (ut : Nat), .int .u64 (vt : Nat)], .int .i64 0]) ∧ Below w.heap.size w w')) (K2 : Box (∀ w, FAt w → Calls Tryd.prog 7 #[.int .u8 f, .agg #[.int .u64 (x1 : Nat), .int .u64 (y1 : Nat)], .agg #[.int .u64 (x2 : Nat), .int .u64 (y2 : Nat)]] w fun r w' => r = .returned (.tuple #[.agg #[.int .u64 (uf : Nat), .int .u64 (vf : Nat)], .int .i64 0]) ∧ Below w.heap.size w w')) (K3 : Box (∀ w, FAt w → Calls Tryd.prog 8 #[.int .u8 f, .agg #[.int .u64 (x1 : Nat), .int .u64 (y1 : Nat)], .agg #[.int .u64 (x2 : Nat), .int .u64 (y2 : Nat)]] w fun r w' => r = .returned (.tuple #[.agg #[.int .u64 (ut : Nat), .int .u64 (vt : Nat)], .int .i64 0]) ∧ Below w.heap.size w w')) (KF1 : Box (∀ w, Calls Tryd.prog 9 #[.int .u8 f, .agg #[.int .u64 (x1 : Nat), .int .u64 (y1 : Nat)]] w fun r w' => r = .returned (.bool true) ∧ Below w.heap.size w w')) (KF2 : Box (∀ w, Calls Tryd.prog 9 #[.int .u8 f, .agg #[.int .u64 (x2 : Nat), .int .u64 (y2 : Nat)]] w fun r w' => r = .returned (.bool true) ∧ Below w.heap.size w w')) (KS1 : Box (∀ w, Calls Tryd.prog 11 #[.int .u8 f, .agg #[.int .u64 (x1 : Nat), .int .u64 (y1 : Nat)]] w fun r w' => r = .returned (.bool false) ∧ Below w.heap.size w w')) (KS2 : Box (∀ w, Calls Tryd.prog 11 #[.int .u8 f, .agg #[.int .u64 (x2 : Nat), .int .u64 (y2 : Nat)]] w fun r w' => r = .returned (.bool true) ∧ Below w.heap.size w w')) (RF : Box (∀ w, Calls Tryd.prog 12 #[.int .u8 f, .agg #[.int .u64 (x1 : Nat), .int .u64 (y1 : Nat)], .bool false] w fun r w' => r = .returned (.agg #[.int .u64 (uf : Nat), .int .u64 (vf : Nat)]) ∧ Below w.heap.size w w')) (RT : Box (∀ w, Calls Tryd.prog 12 #[.int .u8 f, .agg #[.int .u64 (x1 : Nat), .int .u64 (y1 : Nat)], .bool true] w fun r w' => r = .returned (.agg #[.int .u64 (ut : Nat), .int .u64 (vt : Nat)]) ∧ Below w.heap.size w w')) (KA : Box (∀ w, FAt w → Calls Tryd.prog 10 #[] w fun r w' => r = .returned (.bool true) ∧ Below w.heap.size w w')) (hT : FAt w) : Calls Tryd.prog 3 #[.int .u8 f, .agg #[.int .u64 (x1 : Nat), .int .u64 (y1 : Nat)], .agg #[.int .u64 (x2 : Nat), .int .u64 (y2 : Nat)]] w fun r w' => r = .returned (.bool true) ∧ Below w.heap.size w w' := by
  have FF := box hT
  clear hT
  have hE := eqb
  have e1 := ebb_sf (ut : Nat) (vt : Nat)
  have e2 := ebb_sf (uf : Nat) (vf : Nat)
  obtain ⟨Ra_0, Rb_0, B0⟩ := opn2 w (Obj.cells #[.int .u64 (x1 : Nat), .int .u64 (y1 : Nat)] 25) (Obj.cells #[.int .u64 (x2 : Nat), .int .u64 (y2 : Nat)] 25)
  go_enter Tryd.func3, Tryd.ntmps3
  obtain ⟨ca_0_0, ca_0_1⟩ := cells2s Ra_0
  obtain ⟨cb_0_0, cb_0_1⟩ := cells2s Rb_0
  go_wp2_with fail
  refine (K1.out _ (fatB FF.out B0)).mono ?_
  rintro r w1 ⟨rfl, b1⟩
  have B1 : Below w.heap.size w w1 := btr B0 b1
  have Ra_1 := heap_of b1 _ _ _ Ra_0
  have Rb_1 := heap_of b1 _ _ _ Rb_0
  clear b1 B0 Ra_0 ca_0_0 ca_0_1 Rb_0 cb_0_0 cb_0_1
  obtain ⟨ca_1_0, ca_1_1⟩ := cells2s Ra_1
  obtain ⟨cb_1_0, cb_1_1⟩ := cells2s Rb_1
  have S2 := box B1.size
  have La_2 : Box (w.heap.size < w1.heap.size) := box (Array.getElem?_eq_some_iff.1 Ra_1).1
  have Lb_2 : Box (w.heap.size + 1 < w1.heap.size) := box (Array.getElem?_eq_some_iff.1 Rb_1).1
  have Rx_2 := heap_alloc_last w1 (Obj.cells #[.int .u64 (ut : Nat), .int .u64 (vt : Nat)] 25)
  have B2 := btr B1 (bal w1 (Obj.cells #[.int .u64 (ut : Nat), .int .u64 (vt : Nat)] 25))
  have Ra_2 := heap_of (bal w1 (Obj.cells #[.int .u64 (ut : Nat), .int .u64 (vt : Nat)] 25)) _ _ _ Ra_1
  have Rb_2 := heap_of (bal w1 (Obj.cells #[.int .u64 (ut : Nat), .int .u64 (vt : Nat)] 25)) _ _ _ Rb_1
  clear B1 Ra_1 ca_1_0 ca_1_1 Rb_1 cb_1_0 cb_1_1
  obtain ⟨ca_2_0, ca_2_1⟩ := cells2s Ra_2
  obtain ⟨cb_2_0, cb_2_1⟩ := cells2s Rb_2
  obtain ⟨cx_2_0, cx_2_1⟩ := cells2s Rx_2
  go_wp2_with fail
  refine (K2.out _ (fatB FF.out B2)).mono ?_
  rintro r w3 ⟨rfl, b3⟩
  have B3 : Below w.heap.size w w3 := btr B2 b3
  have Ra_3 := heap_of b3 _ _ _ Ra_2
  have Rb_3 := heap_of b3 _ _ _ Rb_2
  have Rx_3 := heap_of b3 _ _ _ Rx_2
  clear b3 B2 Ra_2 ca_2_0 ca_2_1 Rb_2 cb_2_0 cb_2_1 Rx_2 cx_2_0 cx_2_1
  obtain ⟨ca_3_0, ca_3_1⟩ := cells2s Ra_3
  obtain ⟨cb_3_0, cb_3_1⟩ := cells2s Rb_3
  obtain ⟨cx_3_0, cx_3_1⟩ := cells2s Rx_3
  have S4 := box B3.size
  have La_4 : Box (w.heap.size < w3.heap.size) := box (Array.getElem?_eq_some_iff.1 Ra_3).1
  have Lb_4 : Box (w.heap.size + 1 < w3.heap.size) := box (Array.getElem?_eq_some_iff.1 Rb_3).1
  have Lx_4 : Box (w1.heap.size < w3.heap.size) := box (Array.getElem?_eq_some_iff.1 Rx_3).1
  have Ry_4 := heap_alloc_last w3 (Obj.cells #[.int .u64 (uf : Nat), .int .u64 (vf : Nat)] 25)
  have B4 := btr B3 (bal w3 (Obj.cells #[.int .u64 (uf : Nat), .int .u64 (vf : Nat)] 25))
  have Ra_4 := heap_of (bal w3 (Obj.cells #[.int .u64 (uf : Nat), .int .u64 (vf : Nat)] 25)) _ _ _ Ra_3
  have Rb_4 := heap_of (bal w3 (Obj.cells #[.int .u64 (uf : Nat), .int .u64 (vf : Nat)] 25)) _ _ _ Rb_3
  have Rx_4 := heap_of (bal w3 (Obj.cells #[.int .u64 (uf : Nat), .int .u64 (vf : Nat)] 25)) _ _ _ Rx_3
  clear B3 Ra_3 ca_3_0 ca_3_1 Rb_3 cb_3_0 cb_3_1 Rx_3 cx_3_0 cx_3_1
  obtain ⟨ca_4_0, ca_4_1⟩ := cells2s Ra_4
  obtain ⟨cb_4_0, cb_4_1⟩ := cells2s Rb_4
  obtain ⟨cx_4_0, cx_4_1⟩ := cells2s Rx_4
  obtain ⟨cy_4_0, cy_4_1⟩ := cells2s Ry_4
  go_wp2_with fail
  refine (K3.out _ (fatB FF.out B4)).mono ?_
  rintro r w5 ⟨rfl, b5⟩
  have B5 : Below w.heap.size w w5 := btr B4 b5
  have Ra_5 := heap_of b5 _ _ _ Ra_4
  have Rb_5 := heap_of b5 _ _ _ Rb_4
  have Rx_5 := heap_of b5 _ _ _ Rx_4
  have Ry_5 := heap_of b5 _ _ _ Ry_4
  clear b5 B4 Ra_4 ca_4_0 ca_4_1 Rb_4 cb_4_0 cb_4_1 Rx_4 cx_4_0 cx_4_1 Ry_4 cy_4_0 cy_4_1
  obtain ⟨ca_5_0, ca_5_1⟩ := cells2s Ra_5
  obtain ⟨cb_5_0, cb_5_1⟩ := cells2s Rb_5
  obtain ⟨cx_5_0, cx_5_1⟩ := cells2s Rx_5
  obtain ⟨cy_5_0, cy_5_1⟩ := cells2s Ry_5
  have S6 := box B5.size
  have La_6 : Box (w.heap.size < w5.heap.size) := box (Array.getElem?_eq_some_iff.1 Ra_5).1
  have Lb_6 : Box (w.heap.size + 1 < w5.heap.size) := box (Array.getElem?_eq_some_iff.1 Rb_5).1
  have Lx_6 : Box (w1.heap.size < w5.heap.size) := box (Array.getElem?_eq_some_iff.1 Rx_5).1
  have Ly_6 : Box (w3.heap.size < w5.heap.size) := box (Array.getElem?_eq_some_iff.1 Ry_5).1
  have Rz_6 := heap_alloc_last w5 (Obj.cells #[.int .u64 (ut : Nat), .int .u64 (vt : Nat)] 25)
  have B6 := btr B5 (bal w5 (Obj.cells #[.int .u64 (ut : Nat), .int .u64 (vt : Nat)] 25))
  have Ra_6 := heap_of (bal w5 (Obj.cells #[.int .u64 (ut : Nat), .int .u64 (vt : Nat)] 25)) _ _ _ Ra_5
  have Rb_6 := heap_of (bal w5 (Obj.cells #[.int .u64 (ut : Nat), .int .u64 (vt : Nat)] 25)) _ _ _ Rb_5
  have Rx_6 := heap_of (bal w5 (Obj.cells #[.int .u64 (ut : Nat), .int .u64 (vt : Nat)] 25)) _ _ _ Rx_5
  have Ry_6 := heap_of (bal w5 (Obj.cells #[.int .u64 (ut : Nat), .int .u64 (vt : Nat)] 25)) _ _ _ Ry_5
  clear B5 Ra_5 ca_5_0 ca_5_1 Rb_5 cb_5_0 cb_5_1 Rx_5 cx_5_0 cx_5_1 Ry_5 cy_5_0 cy_5_1
  obtain ⟨ca_6_0, ca_6_1⟩ := cells2s Ra_6
  obtain ⟨cb_6_0, cb_6_1⟩ := cells2s Rb_6
  obtain ⟨cx_6_0, cx_6_1⟩ := cells2s Rx_6
  obtain ⟨cy_6_0, cy_6_1⟩ := cells2s Ry_6
  obtain ⟨cz_6_0, cz_6_1⟩ := cells2s Rz_6
  go_wp2_with fail
  refine (KF1.out _).mono ?_
  rintro r w7 ⟨rfl, b7⟩
  have B7 : Below w.heap.size w w7 := btr B6 b7
  have Ra_7 := heap_of b7 _ _ _ Ra_6
  have Rb_7 := heap_of b7 _ _ _ Rb_6
  have Rx_7 := heap_of b7 _ _ _ Rx_6
  have Ry_7 := heap_of b7 _ _ _ Ry_6
  have Rz_7 := heap_of b7 _ _ _ Rz_6
  clear b7 B6 Ra_6 ca_6_0 ca_6_1 Rb_6 cb_6_0 cb_6_1 Rx_6 cx_6_0 cx_6_1 Ry_6 cy_6_0 cy_6_1 Rz_6 cz_6_0 cz_6_1
  obtain ⟨ca_7_0, ca_7_1⟩ := cells2s Ra_7
  obtain ⟨cb_7_0, cb_7_1⟩ := cells2s Rb_7
  obtain ⟨cx_7_0, cx_7_1⟩ := cells2s Rx_7
  obtain ⟨cy_7_0, cy_7_1⟩ := cells2s Ry_7
  obtain ⟨cz_7_0, cz_7_1⟩ := cells2s Rz_7
  go_wp2_with fail
  refine (KF2.out _).mono ?_
  rintro r w8 ⟨rfl, b8⟩
  have B8 : Below w.heap.size w w8 := btr B7 b8
  have Ra_8 := heap_of b8 _ _ _ Ra_7
  have Rb_8 := heap_of b8 _ _ _ Rb_7
  have Rx_8 := heap_of b8 _ _ _ Rx_7
  have Ry_8 := heap_of b8 _ _ _ Ry_7
  have Rz_8 := heap_of b8 _ _ _ Rz_7
  clear b8 B7 Ra_7 ca_7_0 ca_7_1 Rb_7 cb_7_0 cb_7_1 Rx_7 cx_7_0 cx_7_1 Ry_7 cy_7_0 cy_7_1 Rz_7 cz_7_0 cz_7_1
  obtain ⟨ca_8_0, ca_8_1⟩ := cells2s Ra_8
  obtain ⟨cb_8_0, cb_8_1⟩ := cells2s Rb_8
  obtain ⟨cx_8_0, cx_8_1⟩ := cells2s Rx_8
  obtain ⟨cy_8_0, cy_8_1⟩ := cells2s Ry_8
  obtain ⟨cz_8_0, cz_8_1⟩ := cells2s Rz_8
  have sS : Box (∀ W W1 : World, (Below w.heap.size w W ∧ W.heap[w.heap.size]? = some (Obj.cells #[.int .u64 (x1 : Nat), .int .u64 (y1 : Nat)] 25) ∧ W.heap[w.heap.size + 1]? = some (Obj.cells #[.int .u64 (x2 : Nat), .int .u64 (y2 : Nat)] 25) ∧ W.heap[w1.heap.size]? = some (Obj.cells #[.int .u64 (ut : Nat), .int .u64 (vt : Nat)] 25) ∧ W.heap[w3.heap.size]? = some (Obj.cells #[.int .u64 (uf : Nat), .int .u64 (vf : Nat)] 25) ∧ W.heap[w5.heap.size]? = some (Obj.cells #[.int .u64 (ut : Nat), .int .u64 (vt : Nat)] 25) ∧ W.cell? ⟨w.heap.size, 0, none⟩ = some (.int .u64 (x1 : Nat)) ∧ W.cell? ⟨w.heap.size, 1, none⟩ = some (.int .u64 (y1 : Nat)) ∧ W.cell? ⟨w.heap.size + 1, 0, none⟩ = some (.int .u64 (x2 : Nat)) ∧ W.cell? ⟨w.heap.size + 1, 1, none⟩ = some (.int .u64 (y2 : Nat)) ∧ W.cell? ⟨w1.heap.size, 0, none⟩ = some (.int .u64 (ut : Nat)) ∧ W.cell? ⟨w1.heap.size, 1, none⟩ = some (.int .u64 (vt : Nat)) ∧ W.cell? ⟨w3.heap.size, 0, none⟩ = some (.int .u64 (uf : Nat)) ∧ W.cell? ⟨w3.heap.size, 1, none⟩ = some (.int .u64 (vf : Nat)) ∧ W.cell? ⟨w5.heap.size, 0, none⟩ = some (.int .u64 (ut : Nat)) ∧ W.cell? ⟨w5.heap.size, 1, none⟩ = some (.int .u64 (vt : Nat))) → Below W.heap.size W W1 → (Below w.heap.size w W1 ∧ W1.heap[w.heap.size]? = some (Obj.cells #[.int .u64 (x1 : Nat), .int .u64 (y1 : Nat)] 25) ∧ W1.heap[w.heap.size + 1]? = some (Obj.cells #[.int .u64 (x2 : Nat), .int .u64 (y2 : Nat)] 25) ∧ W1.heap[w1.heap.size]? = some (Obj.cells #[.int .u64 (ut : Nat), .int .u64 (vt : Nat)] 25) ∧ W1.heap[w3.heap.size]? = some (Obj.cells #[.int .u64 (uf : Nat), .int .u64 (vf : Nat)] 25) ∧ W1.heap[w5.heap.size]? = some (Obj.cells #[.int .u64 (ut : Nat), .int .u64 (vt : Nat)] 25) ∧ W1.cell? ⟨w.heap.size, 0, none⟩ = some (.int .u64 (x1 : Nat)) ∧ W1.cell? ⟨w.heap.size, 1, none⟩ = some (.int .u64 (y1 : Nat)) ∧ W1.cell? ⟨w.heap.size + 1, 0, none⟩ = some (.int .u64 (x2 : Nat)) ∧ W1.cell? ⟨w.heap.size + 1, 1, none⟩ = some (.int .u64 (y2 : Nat)) ∧ W1.cell? ⟨w1.heap.size, 0, none⟩ = some (.int .u64 (ut : Nat)) ∧ W1.cell? ⟨w1.heap.size, 1, none⟩ = some (.int .u64 (vt : Nat)) ∧ W1.cell? ⟨w3.heap.size, 0, none⟩ = some (.int .u64 (uf : Nat)) ∧ W1.cell? ⟨w3.heap.size, 1, none⟩ = some (.int .u64 (vf : Nat)) ∧ W1.cell? ⟨w5.heap.size, 0, none⟩ = some (.int .u64 (ut : Nat)) ∧ W1.cell? ⟨w5.heap.size, 1, none⟩ = some (.int .u64 (vt : Nat)))) := box (fun W W1 h b => ⟨btr h.1 b, heap_of b _ _ _ h.2.1, heap_of b _ _ _ h.2.2.1, heap_of b _ _ _ h.2.2.2.1, heap_of b _ _ _ h.2.2.2.2.1, heap_of b _ _ _ h.2.2.2.2.2.1, cell7 (heap_of b _ _ _ h.2.1) 0 _ rfl, cell7 (heap_of b _ _ _ h.2.1) 1 _ rfl, cell7 (heap_of b _ _ _ h.2.2.1) 0 _ rfl, cell7 (heap_of b _ _ _ h.2.2.1) 1 _ rfl, cell7 (heap_of b _ _ _ h.2.2.2.1) 0 _ rfl, cell7 (heap_of b _ _ _ h.2.2.2.1) 1 _ rfl, cell7 (heap_of b _ _ _ h.2.2.2.2.1) 0 _ rfl, cell7 (heap_of b _ _ _ h.2.2.2.2.1) 1 _ rfl, cell7 (heap_of b _ _ _ h.2.2.2.2.2.1) 0 _ rfl, cell7 (heap_of b _ _ _ h.2.2.2.2.2.1) 1 _ rfl⟩)
  have s0 : Below w.heap.size w (w8).drew ∧ (w8).drew.heap[w.heap.size]? = some (Obj.cells #[.int .u64 (x1 : Nat), .int .u64 (y1 : Nat)] 25) ∧ (w8).drew.heap[w.heap.size + 1]? = some (Obj.cells #[.int .u64 (x2 : Nat), .int .u64 (y2 : Nat)] 25) ∧ (w8).drew.heap[w1.heap.size]? = some (Obj.cells #[.int .u64 (ut : Nat), .int .u64 (vt : Nat)] 25) ∧ (w8).drew.heap[w3.heap.size]? = some (Obj.cells #[.int .u64 (uf : Nat), .int .u64 (vf : Nat)] 25) ∧ (w8).drew.heap[w5.heap.size]? = some (Obj.cells #[.int .u64 (ut : Nat), .int .u64 (vt : Nat)] 25) ∧ (w8).drew.cell? ⟨w.heap.size, 0, none⟩ = some (.int .u64 (x1 : Nat)) ∧ (w8).drew.cell? ⟨w.heap.size, 1, none⟩ = some (.int .u64 (y1 : Nat)) ∧ (w8).drew.cell? ⟨w.heap.size + 1, 0, none⟩ = some (.int .u64 (x2 : Nat)) ∧ (w8).drew.cell? ⟨w.heap.size + 1, 1, none⟩ = some (.int .u64 (y2 : Nat)) ∧ (w8).drew.cell? ⟨w1.heap.size, 0, none⟩ = some (.int .u64 (ut : Nat)) ∧ (w8).drew.cell? ⟨w1.heap.size, 1, none⟩ = some (.int .u64 (vt : Nat)) ∧ (w8).drew.cell? ⟨w3.heap.size, 0, none⟩ = some (.int .u64 (uf : Nat)) ∧ (w8).drew.cell? ⟨w3.heap.size, 1, none⟩ = some (.int .u64 (vf : Nat)) ∧ (w8).drew.cell? ⟨w5.heap.size, 0, none⟩ = some (.int .u64 (ut : Nat)) ∧ (w8).drew.cell? ⟨w5.heap.size, 1, none⟩ = some (.int .u64 (vt : Nat)) := ⟨B8.drew, Ra_8, Rb_8, Rx_8, Ry_8, Rz_8, cell7 (Ra_8) 0 _ rfl, cell7 (Ra_8) 1 _ rfl, cell7 (Rb_8) 0 _ rfl, cell7 (Rb_8) 1 _ rfl, cell7 (Rx_8) 0 _ rfl, cell7 (Rx_8) 1 _ rfl, cell7 (Ry_8) 0 _ rfl, cell7 (Ry_8) 1 _ rfl, cell7 (Rz_8) 0 _ rfl, cell7 (Rz_8) 1 _ rfl⟩
  go_wp2_with fail
  go_region_held3 (fun W => Below w.heap.size w W ∧ W.heap[w.heap.size]? = some (Obj.cells #[.int .u64 (x1 : Nat), .int .u64 (y1 : Nat)] 25) ∧ W.heap[w.heap.size + 1]? = some (Obj.cells #[.int .u64 (x2 : Nat), .int .u64 (y2 : Nat)] 25) ∧ W.heap[w1.heap.size]? = some (Obj.cells #[.int .u64 (ut : Nat), .int .u64 (vt : Nat)] 25) ∧ W.heap[w3.heap.size]? = some (Obj.cells #[.int .u64 (uf : Nat), .int .u64 (vf : Nat)] 25) ∧ W.heap[w5.heap.size]? = some (Obj.cells #[.int .u64 (ut : Nat), .int .u64 (vt : Nat)] 25) ∧ W.cell? ⟨w.heap.size, 0, none⟩ = some (.int .u64 (x1 : Nat)) ∧ W.cell? ⟨w.heap.size, 1, none⟩ = some (.int .u64 (y1 : Nat)) ∧ W.cell? ⟨w.heap.size + 1, 0, none⟩ = some (.int .u64 (x2 : Nat)) ∧ W.cell? ⟨w.heap.size + 1, 1, none⟩ = some (.int .u64 (y2 : Nat)) ∧ W.cell? ⟨w1.heap.size, 0, none⟩ = some (.int .u64 (ut : Nat)) ∧ W.cell? ⟨w1.heap.size, 1, none⟩ = some (.int .u64 (vt : Nat)) ∧ W.cell? ⟨w3.heap.size, 0, none⟩ = some (.int .u64 (uf : Nat)) ∧ W.cell? ⟨w3.heap.size, 1, none⟩ = some (.int .u64 (vf : Nat)) ∧ W.cell? ⟨w5.heap.size, 0, none⟩ = some (.int .u64 (ut : Nat)) ∧ W.cell? ⟨w5.heap.size, 1, none⟩ = some (.int .u64 (vt : Nat))) (first | exact s1 | exact s0)
    (first | (go_at_call_of 11 (Value.agg #[Value.int IntKind.u64 (x1 : Int), Value.int IntKind.u64 (y1 : Int)]); (first | refine (KS1.out _).mono ?_ | refine (KS1.out _).mono ?_); rintro r wq ⟨rfl, bq⟩; have s1 := (by first | exact sS.out _ _ s1 bq | exact sS.out _ _ s0 bq); clear bq) | (go_at_call_of 11 (Value.agg #[Value.int IntKind.u64 (x2 : Int), Value.int IntKind.u64 (y2 : Int)]); (first | refine (KS2.out _).mono ?_ | refine (KS2.out _).mono ?_); rintro r wq ⟨rfl, bq⟩; have s1 := (by first | exact sS.out _ _ s1 bq | exact sS.out _ _ s0 bq); clear bq) | fail)
  have B9 := (And.left s1)
  have Ra_9 := s1.2.1
  have Rb_9 := s1.2.2.1
  have Rx_9 := s1.2.2.2.1
  have Ry_9 := s1.2.2.2.2.1
  have Rz_9 := s1.2.2.2.2.2.1
  clear s0 s1 sS B8 Ra_8 ca_8_0 ca_8_1 Rb_8 cb_8_0 cb_8_1 Rx_8 cx_8_0 cx_8_1 Ry_8 cy_8_0 cy_8_1 Rz_8 cz_8_0 cz_8_1
  obtain ⟨ca_9_0, ca_9_1⟩ := cells2s Ra_9
  obtain ⟨cb_9_0, cb_9_1⟩ := cells2s Rb_9
  obtain ⟨cx_9_0, cx_9_1⟩ := cells2s Rx_9
  obtain ⟨cy_9_0, cy_9_1⟩ := cells2s Ry_9
  obtain ⟨cz_9_0, cz_9_1⟩ := cells2s Rz_9
  go_wp2_with fail
  obtain ⟨F, hF1, hF2⟩ := below_fun wq
  have fa_0 := fun u => cells4 (heap_of (hF1 u) _ _ _ Ra_9) 0 _ rfl
  have fa_1 := fun u => cells4 (heap_of (hF1 u) _ _ _ Ra_9) 1 _ rfl
  have fb_0 := fun u => cells4 (heap_of (hF1 u) _ _ _ Rb_9) 0 _ rfl
  have fb_1 := fun u => cells4 (heap_of (hF1 u) _ _ _ Rb_9) 1 _ rfl
  have fx_0 := fun u => cells4 (heap_of (hF1 u) _ _ _ Rx_9) 0 _ rfl
  have fx_1 := fun u => cells4 (heap_of (hF1 u) _ _ _ Rx_9) 1 _ rfl
  have fy_0 := fun u => cells4 (heap_of (hF1 u) _ _ _ Ry_9) 0 _ rfl
  have fy_1 := fun u => cells4 (heap_of (hF1 u) _ _ _ Ry_9) 1 _ rfl
  have fz_0 := fun u => cells4 (heap_of (hF1 u) _ _ _ Rz_9) 0 _ rfl
  have fz_1 := fun u => cells4 (heap_of (hF1 u) _ _ _ Rz_9) 1 _ rfl
  have FG : Box (∀ u, FAt (F u)) := box (fun u => fatB FF.out (btr B9 (hF1 u)))
  refine wp_region_below F hF2 (by kernel_rfl) (by kernel_rfl) ?_
  repeat first | go_big_quiet_step (first | (go_at_call_of 12 (Value.bool true); exact quietF hF1 hF2 (RT.out _)) | (go_at_call_of 12 (Value.bool false); exact quietF hF1 hF2 (RF.out _)) | (go_at_call 10; exact quietF hF1 hF2 (KA.out _ (FG.out _))) | fail) | quiet_step (first | (go_at_call_of 12 (Value.bool true); exact quietF hF1 hF2 (RT.out _)) | (go_at_call_of 12 (Value.bool false); exact quietF hF1 hF2 (RF.out _)) | (go_at_call 10; exact quietF hF1 hF2 (KA.out _ (FG.out _))) | fail)
  refine wpQuiet_nil ?_
  rintro _ ⟨uW, rfl⟩
  have B10 := btr B9 (hF1 uW)
  have Ra_10 := heap_of (hF1 uW) _ _ _ Ra_9
  have Rb_10 := heap_of (hF1 uW) _ _ _ Rb_9
  have Rx_10 := heap_of (hF1 uW) _ _ _ Rx_9
  have Ry_10 := heap_of (hF1 uW) _ _ _ Ry_9
  have Rz_10 := heap_of (hF1 uW) _ _ _ Rz_9
  obtain ⟨w10, hw⟩ : ∃ V, F uW = V := ⟨_, rfl⟩
  rw [hw] at B10 Ra_10 Rb_10 Rx_10 Ry_10 Rz_10
  try rw [hw]
  clear hw hF1 hF2 B9 fa_0 fa_1 fb_0 fb_1 fx_0 fx_1 fy_0 fy_1 fz_0 fz_1 Ra_9 ca_9_0 ca_9_1 Rb_9 cb_9_0 cb_9_1 Rx_9 cx_9_0 cx_9_1 Ry_9 cy_9_0 cy_9_1 Rz_9 cz_9_0 cz_9_1
  clear FG
  clear F
  obtain ⟨ca_10_0, ca_10_1⟩ := cells2s Ra_10
  obtain ⟨cb_10_0, cb_10_1⟩ := cells2s Rb_10
  obtain ⟨cx_10_0, cx_10_1⟩ := cells2s Rx_10
  obtain ⟨cy_10_0, cy_10_1⟩ := cells2s Ry_10
  obtain ⟨cz_10_0, cz_10_1⟩ := cells2s Rz_10
  go_wp2
  go_ret
  exact ⟨rfl, B10⟩
set_option maxRecDepth 100000 in
set_option maxHeartbeats 8000000 in
theorem si_yes10 (f : Int) (x1 y1 x2 y2 ut vt uf vf : Nat) (w : World) (K1 : Box (∀ w, FAt w → Calls Tryd.prog 6 #[.int .u8 f, .agg #[.int .u64 (x1 : Nat), .int .u64 (y1 : Nat)], .agg #[.int .u64 (x2 : Nat), .int .u64 (y2 : Nat)]] w fun r w' => r = .returned (.tuple #[.agg #[.int .u64 (uf : Nat), .int .u64 (vf : Nat)], .int .i64 0]) ∧ Below w.heap.size w w')) (K2 : Box (∀ w, FAt w → Calls Tryd.prog 7 #[.int .u8 f, .agg #[.int .u64 (x1 : Nat), .int .u64 (y1 : Nat)], .agg #[.int .u64 (x2 : Nat), .int .u64 (y2 : Nat)]] w fun r w' => r = .returned (.tuple #[.agg #[.int .u64 (ut : Nat), .int .u64 (vt : Nat)], .int .i64 0]) ∧ Below w.heap.size w w')) (K3 : Box (∀ w, FAt w → Calls Tryd.prog 8 #[.int .u8 f, .agg #[.int .u64 (x1 : Nat), .int .u64 (y1 : Nat)], .agg #[.int .u64 (x2 : Nat), .int .u64 (y2 : Nat)]] w fun r w' => r = .returned (.tuple #[.agg #[.int .u64 (ut : Nat), .int .u64 (vt : Nat)], .int .i64 0]) ∧ Below w.heap.size w w')) (KF1 : Box (∀ w, Calls Tryd.prog 9 #[.int .u8 f, .agg #[.int .u64 (x1 : Nat), .int .u64 (y1 : Nat)]] w fun r w' => r = .returned (.bool true) ∧ Below w.heap.size w w')) (KF2 : Box (∀ w, Calls Tryd.prog 9 #[.int .u8 f, .agg #[.int .u64 (x2 : Nat), .int .u64 (y2 : Nat)]] w fun r w' => r = .returned (.bool true) ∧ Below w.heap.size w w')) (KS1 : Box (∀ w, Calls Tryd.prog 11 #[.int .u8 f, .agg #[.int .u64 (x1 : Nat), .int .u64 (y1 : Nat)]] w fun r w' => r = .returned (.bool true) ∧ Below w.heap.size w w')) (KS2 : Box (∀ w, Calls Tryd.prog 11 #[.int .u8 f, .agg #[.int .u64 (x2 : Nat), .int .u64 (y2 : Nat)]] w fun r w' => r = .returned (.bool false) ∧ Below w.heap.size w w')) (RF : Box (∀ w, Calls Tryd.prog 12 #[.int .u8 f, .agg #[.int .u64 (x1 : Nat), .int .u64 (y1 : Nat)], .bool false] w fun r w' => r = .returned (.agg #[.int .u64 (uf : Nat), .int .u64 (vf : Nat)]) ∧ Below w.heap.size w w')) (RT : Box (∀ w, Calls Tryd.prog 12 #[.int .u8 f, .agg #[.int .u64 (x1 : Nat), .int .u64 (y1 : Nat)], .bool true] w fun r w' => r = .returned (.agg #[.int .u64 (ut : Nat), .int .u64 (vt : Nat)]) ∧ Below w.heap.size w w')) (KA : Box (∀ w, FAt w → Calls Tryd.prog 10 #[] w fun r w' => r = .returned (.bool true) ∧ Below w.heap.size w w')) (hT : FAt w) : Calls Tryd.prog 3 #[.int .u8 f, .agg #[.int .u64 (x1 : Nat), .int .u64 (y1 : Nat)], .agg #[.int .u64 (x2 : Nat), .int .u64 (y2 : Nat)]] w fun r w' => r = .returned (.bool true) ∧ Below w.heap.size w w' := by
  have FF := box hT
  clear hT
  have hE := eqb
  have e1 := ebb_sf (ut : Nat) (vt : Nat)
  have e2 := ebb_sf (uf : Nat) (vf : Nat)
  obtain ⟨Ra_0, Rb_0, B0⟩ := opn2 w (Obj.cells #[.int .u64 (x1 : Nat), .int .u64 (y1 : Nat)] 25) (Obj.cells #[.int .u64 (x2 : Nat), .int .u64 (y2 : Nat)] 25)
  go_enter Tryd.func3, Tryd.ntmps3
  obtain ⟨ca_0_0, ca_0_1⟩ := cells2s Ra_0
  obtain ⟨cb_0_0, cb_0_1⟩ := cells2s Rb_0
  go_wp2_with fail
  refine (K1.out _ (fatB FF.out B0)).mono ?_
  rintro r w1 ⟨rfl, b1⟩
  have B1 : Below w.heap.size w w1 := btr B0 b1
  have Ra_1 := heap_of b1 _ _ _ Ra_0
  have Rb_1 := heap_of b1 _ _ _ Rb_0
  clear b1 B0 Ra_0 ca_0_0 ca_0_1 Rb_0 cb_0_0 cb_0_1
  obtain ⟨ca_1_0, ca_1_1⟩ := cells2s Ra_1
  obtain ⟨cb_1_0, cb_1_1⟩ := cells2s Rb_1
  have S2 := box B1.size
  have La_2 : Box (w.heap.size < w1.heap.size) := box (Array.getElem?_eq_some_iff.1 Ra_1).1
  have Lb_2 : Box (w.heap.size + 1 < w1.heap.size) := box (Array.getElem?_eq_some_iff.1 Rb_1).1
  have Rx_2 := heap_alloc_last w1 (Obj.cells #[.int .u64 (uf : Nat), .int .u64 (vf : Nat)] 25)
  have B2 := btr B1 (bal w1 (Obj.cells #[.int .u64 (uf : Nat), .int .u64 (vf : Nat)] 25))
  have Ra_2 := heap_of (bal w1 (Obj.cells #[.int .u64 (uf : Nat), .int .u64 (vf : Nat)] 25)) _ _ _ Ra_1
  have Rb_2 := heap_of (bal w1 (Obj.cells #[.int .u64 (uf : Nat), .int .u64 (vf : Nat)] 25)) _ _ _ Rb_1
  clear B1 Ra_1 ca_1_0 ca_1_1 Rb_1 cb_1_0 cb_1_1
  obtain ⟨ca_2_0, ca_2_1⟩ := cells2s Ra_2
  obtain ⟨cb_2_0, cb_2_1⟩ := cells2s Rb_2
  obtain ⟨cx_2_0, cx_2_1⟩ := cells2s Rx_2
  go_wp2_with fail
  refine (K2.out _ (fatB FF.out B2)).mono ?_
  rintro r w3 ⟨rfl, b3⟩
  have B3 : Below w.heap.size w w3 := btr B2 b3
  have Ra_3 := heap_of b3 _ _ _ Ra_2
  have Rb_3 := heap_of b3 _ _ _ Rb_2
  have Rx_3 := heap_of b3 _ _ _ Rx_2
  clear b3 B2 Ra_2 ca_2_0 ca_2_1 Rb_2 cb_2_0 cb_2_1 Rx_2 cx_2_0 cx_2_1
  obtain ⟨ca_3_0, ca_3_1⟩ := cells2s Ra_3
  obtain ⟨cb_3_0, cb_3_1⟩ := cells2s Rb_3
  obtain ⟨cx_3_0, cx_3_1⟩ := cells2s Rx_3
  have S4 := box B3.size
  have La_4 : Box (w.heap.size < w3.heap.size) := box (Array.getElem?_eq_some_iff.1 Ra_3).1
  have Lb_4 : Box (w.heap.size + 1 < w3.heap.size) := box (Array.getElem?_eq_some_iff.1 Rb_3).1
  have Lx_4 : Box (w1.heap.size < w3.heap.size) := box (Array.getElem?_eq_some_iff.1 Rx_3).1
  have Ry_4 := heap_alloc_last w3 (Obj.cells #[.int .u64 (ut : Nat), .int .u64 (vt : Nat)] 25)
  have B4 := btr B3 (bal w3 (Obj.cells #[.int .u64 (ut : Nat), .int .u64 (vt : Nat)] 25))
  have Ra_4 := heap_of (bal w3 (Obj.cells #[.int .u64 (ut : Nat), .int .u64 (vt : Nat)] 25)) _ _ _ Ra_3
  have Rb_4 := heap_of (bal w3 (Obj.cells #[.int .u64 (ut : Nat), .int .u64 (vt : Nat)] 25)) _ _ _ Rb_3
  have Rx_4 := heap_of (bal w3 (Obj.cells #[.int .u64 (ut : Nat), .int .u64 (vt : Nat)] 25)) _ _ _ Rx_3
  clear B3 Ra_3 ca_3_0 ca_3_1 Rb_3 cb_3_0 cb_3_1 Rx_3 cx_3_0 cx_3_1
  obtain ⟨ca_4_0, ca_4_1⟩ := cells2s Ra_4
  obtain ⟨cb_4_0, cb_4_1⟩ := cells2s Rb_4
  obtain ⟨cx_4_0, cx_4_1⟩ := cells2s Rx_4
  obtain ⟨cy_4_0, cy_4_1⟩ := cells2s Ry_4
  go_wp2_with fail
  refine (K3.out _ (fatB FF.out B4)).mono ?_
  rintro r w5 ⟨rfl, b5⟩
  have B5 : Below w.heap.size w w5 := btr B4 b5
  have Ra_5 := heap_of b5 _ _ _ Ra_4
  have Rb_5 := heap_of b5 _ _ _ Rb_4
  have Rx_5 := heap_of b5 _ _ _ Rx_4
  have Ry_5 := heap_of b5 _ _ _ Ry_4
  clear b5 B4 Ra_4 ca_4_0 ca_4_1 Rb_4 cb_4_0 cb_4_1 Rx_4 cx_4_0 cx_4_1 Ry_4 cy_4_0 cy_4_1
  obtain ⟨ca_5_0, ca_5_1⟩ := cells2s Ra_5
  obtain ⟨cb_5_0, cb_5_1⟩ := cells2s Rb_5
  obtain ⟨cx_5_0, cx_5_1⟩ := cells2s Rx_5
  obtain ⟨cy_5_0, cy_5_1⟩ := cells2s Ry_5
  have S6 := box B5.size
  have La_6 : Box (w.heap.size < w5.heap.size) := box (Array.getElem?_eq_some_iff.1 Ra_5).1
  have Lb_6 : Box (w.heap.size + 1 < w5.heap.size) := box (Array.getElem?_eq_some_iff.1 Rb_5).1
  have Lx_6 : Box (w1.heap.size < w5.heap.size) := box (Array.getElem?_eq_some_iff.1 Rx_5).1
  have Ly_6 : Box (w3.heap.size < w5.heap.size) := box (Array.getElem?_eq_some_iff.1 Ry_5).1
  have Rz_6 := heap_alloc_last w5 (Obj.cells #[.int .u64 (ut : Nat), .int .u64 (vt : Nat)] 25)
  have B6 := btr B5 (bal w5 (Obj.cells #[.int .u64 (ut : Nat), .int .u64 (vt : Nat)] 25))
  have Ra_6 := heap_of (bal w5 (Obj.cells #[.int .u64 (ut : Nat), .int .u64 (vt : Nat)] 25)) _ _ _ Ra_5
  have Rb_6 := heap_of (bal w5 (Obj.cells #[.int .u64 (ut : Nat), .int .u64 (vt : Nat)] 25)) _ _ _ Rb_5
  have Rx_6 := heap_of (bal w5 (Obj.cells #[.int .u64 (ut : Nat), .int .u64 (vt : Nat)] 25)) _ _ _ Rx_5
  have Ry_6 := heap_of (bal w5 (Obj.cells #[.int .u64 (ut : Nat), .int .u64 (vt : Nat)] 25)) _ _ _ Ry_5
  clear B5 Ra_5 ca_5_0 ca_5_1 Rb_5 cb_5_0 cb_5_1 Rx_5 cx_5_0 cx_5_1 Ry_5 cy_5_0 cy_5_1
  obtain ⟨ca_6_0, ca_6_1⟩ := cells2s Ra_6
  obtain ⟨cb_6_0, cb_6_1⟩ := cells2s Rb_6
  obtain ⟨cx_6_0, cx_6_1⟩ := cells2s Rx_6
  obtain ⟨cy_6_0, cy_6_1⟩ := cells2s Ry_6
  obtain ⟨cz_6_0, cz_6_1⟩ := cells2s Rz_6
  go_wp2_with fail
  refine (KF1.out _).mono ?_
  rintro r w7 ⟨rfl, b7⟩
  have B7 : Below w.heap.size w w7 := btr B6 b7
  have Ra_7 := heap_of b7 _ _ _ Ra_6
  have Rb_7 := heap_of b7 _ _ _ Rb_6
  have Rx_7 := heap_of b7 _ _ _ Rx_6
  have Ry_7 := heap_of b7 _ _ _ Ry_6
  have Rz_7 := heap_of b7 _ _ _ Rz_6
  clear b7 B6 Ra_6 ca_6_0 ca_6_1 Rb_6 cb_6_0 cb_6_1 Rx_6 cx_6_0 cx_6_1 Ry_6 cy_6_0 cy_6_1 Rz_6 cz_6_0 cz_6_1
  obtain ⟨ca_7_0, ca_7_1⟩ := cells2s Ra_7
  obtain ⟨cb_7_0, cb_7_1⟩ := cells2s Rb_7
  obtain ⟨cx_7_0, cx_7_1⟩ := cells2s Rx_7
  obtain ⟨cy_7_0, cy_7_1⟩ := cells2s Ry_7
  obtain ⟨cz_7_0, cz_7_1⟩ := cells2s Rz_7
  go_wp2_with fail
  refine (KF2.out _).mono ?_
  rintro r w8 ⟨rfl, b8⟩
  have B8 : Below w.heap.size w w8 := btr B7 b8
  have Ra_8 := heap_of b8 _ _ _ Ra_7
  have Rb_8 := heap_of b8 _ _ _ Rb_7
  have Rx_8 := heap_of b8 _ _ _ Rx_7
  have Ry_8 := heap_of b8 _ _ _ Ry_7
  have Rz_8 := heap_of b8 _ _ _ Rz_7
  clear b8 B7 Ra_7 ca_7_0 ca_7_1 Rb_7 cb_7_0 cb_7_1 Rx_7 cx_7_0 cx_7_1 Ry_7 cy_7_0 cy_7_1 Rz_7 cz_7_0 cz_7_1
  obtain ⟨ca_8_0, ca_8_1⟩ := cells2s Ra_8
  obtain ⟨cb_8_0, cb_8_1⟩ := cells2s Rb_8
  obtain ⟨cx_8_0, cx_8_1⟩ := cells2s Rx_8
  obtain ⟨cy_8_0, cy_8_1⟩ := cells2s Ry_8
  obtain ⟨cz_8_0, cz_8_1⟩ := cells2s Rz_8
  have sS : Box (∀ W W1 : World, (Below w.heap.size w W ∧ W.heap[w.heap.size]? = some (Obj.cells #[.int .u64 (x1 : Nat), .int .u64 (y1 : Nat)] 25) ∧ W.heap[w.heap.size + 1]? = some (Obj.cells #[.int .u64 (x2 : Nat), .int .u64 (y2 : Nat)] 25) ∧ W.heap[w1.heap.size]? = some (Obj.cells #[.int .u64 (uf : Nat), .int .u64 (vf : Nat)] 25) ∧ W.heap[w3.heap.size]? = some (Obj.cells #[.int .u64 (ut : Nat), .int .u64 (vt : Nat)] 25) ∧ W.heap[w5.heap.size]? = some (Obj.cells #[.int .u64 (ut : Nat), .int .u64 (vt : Nat)] 25) ∧ W.cell? ⟨w.heap.size, 0, none⟩ = some (.int .u64 (x1 : Nat)) ∧ W.cell? ⟨w.heap.size, 1, none⟩ = some (.int .u64 (y1 : Nat)) ∧ W.cell? ⟨w.heap.size + 1, 0, none⟩ = some (.int .u64 (x2 : Nat)) ∧ W.cell? ⟨w.heap.size + 1, 1, none⟩ = some (.int .u64 (y2 : Nat)) ∧ W.cell? ⟨w1.heap.size, 0, none⟩ = some (.int .u64 (uf : Nat)) ∧ W.cell? ⟨w1.heap.size, 1, none⟩ = some (.int .u64 (vf : Nat)) ∧ W.cell? ⟨w3.heap.size, 0, none⟩ = some (.int .u64 (ut : Nat)) ∧ W.cell? ⟨w3.heap.size, 1, none⟩ = some (.int .u64 (vt : Nat)) ∧ W.cell? ⟨w5.heap.size, 0, none⟩ = some (.int .u64 (ut : Nat)) ∧ W.cell? ⟨w5.heap.size, 1, none⟩ = some (.int .u64 (vt : Nat))) → Below W.heap.size W W1 → (Below w.heap.size w W1 ∧ W1.heap[w.heap.size]? = some (Obj.cells #[.int .u64 (x1 : Nat), .int .u64 (y1 : Nat)] 25) ∧ W1.heap[w.heap.size + 1]? = some (Obj.cells #[.int .u64 (x2 : Nat), .int .u64 (y2 : Nat)] 25) ∧ W1.heap[w1.heap.size]? = some (Obj.cells #[.int .u64 (uf : Nat), .int .u64 (vf : Nat)] 25) ∧ W1.heap[w3.heap.size]? = some (Obj.cells #[.int .u64 (ut : Nat), .int .u64 (vt : Nat)] 25) ∧ W1.heap[w5.heap.size]? = some (Obj.cells #[.int .u64 (ut : Nat), .int .u64 (vt : Nat)] 25) ∧ W1.cell? ⟨w.heap.size, 0, none⟩ = some (.int .u64 (x1 : Nat)) ∧ W1.cell? ⟨w.heap.size, 1, none⟩ = some (.int .u64 (y1 : Nat)) ∧ W1.cell? ⟨w.heap.size + 1, 0, none⟩ = some (.int .u64 (x2 : Nat)) ∧ W1.cell? ⟨w.heap.size + 1, 1, none⟩ = some (.int .u64 (y2 : Nat)) ∧ W1.cell? ⟨w1.heap.size, 0, none⟩ = some (.int .u64 (uf : Nat)) ∧ W1.cell? ⟨w1.heap.size, 1, none⟩ = some (.int .u64 (vf : Nat)) ∧ W1.cell? ⟨w3.heap.size, 0, none⟩ = some (.int .u64 (ut : Nat)) ∧ W1.cell? ⟨w3.heap.size, 1, none⟩ = some (.int .u64 (vt : Nat)) ∧ W1.cell? ⟨w5.heap.size, 0, none⟩ = some (.int .u64 (ut : Nat)) ∧ W1.cell? ⟨w5.heap.size, 1, none⟩ = some (.int .u64 (vt : Nat)))) := box (fun W W1 h b => ⟨btr h.1 b, heap_of b _ _ _ h.2.1, heap_of b _ _ _ h.2.2.1, heap_of b _ _ _ h.2.2.2.1, heap_of b _ _ _ h.2.2.2.2.1, heap_of b _ _ _ h.2.2.2.2.2.1, cell7 (heap_of b _ _ _ h.2.1) 0 _ rfl, cell7 (heap_of b _ _ _ h.2.1) 1 _ rfl, cell7 (heap_of b _ _ _ h.2.2.1) 0 _ rfl, cell7 (heap_of b _ _ _ h.2.2.1) 1 _ rfl, cell7 (heap_of b _ _ _ h.2.2.2.1) 0 _ rfl, cell7 (heap_of b _ _ _ h.2.2.2.1) 1 _ rfl, cell7 (heap_of b _ _ _ h.2.2.2.2.1) 0 _ rfl, cell7 (heap_of b _ _ _ h.2.2.2.2.1) 1 _ rfl, cell7 (heap_of b _ _ _ h.2.2.2.2.2.1) 0 _ rfl, cell7 (heap_of b _ _ _ h.2.2.2.2.2.1) 1 _ rfl⟩)
  have s0 : Below w.heap.size w (w8).drew ∧ (w8).drew.heap[w.heap.size]? = some (Obj.cells #[.int .u64 (x1 : Nat), .int .u64 (y1 : Nat)] 25) ∧ (w8).drew.heap[w.heap.size + 1]? = some (Obj.cells #[.int .u64 (x2 : Nat), .int .u64 (y2 : Nat)] 25) ∧ (w8).drew.heap[w1.heap.size]? = some (Obj.cells #[.int .u64 (uf : Nat), .int .u64 (vf : Nat)] 25) ∧ (w8).drew.heap[w3.heap.size]? = some (Obj.cells #[.int .u64 (ut : Nat), .int .u64 (vt : Nat)] 25) ∧ (w8).drew.heap[w5.heap.size]? = some (Obj.cells #[.int .u64 (ut : Nat), .int .u64 (vt : Nat)] 25) ∧ (w8).drew.cell? ⟨w.heap.size, 0, none⟩ = some (.int .u64 (x1 : Nat)) ∧ (w8).drew.cell? ⟨w.heap.size, 1, none⟩ = some (.int .u64 (y1 : Nat)) ∧ (w8).drew.cell? ⟨w.heap.size + 1, 0, none⟩ = some (.int .u64 (x2 : Nat)) ∧ (w8).drew.cell? ⟨w.heap.size + 1, 1, none⟩ = some (.int .u64 (y2 : Nat)) ∧ (w8).drew.cell? ⟨w1.heap.size, 0, none⟩ = some (.int .u64 (uf : Nat)) ∧ (w8).drew.cell? ⟨w1.heap.size, 1, none⟩ = some (.int .u64 (vf : Nat)) ∧ (w8).drew.cell? ⟨w3.heap.size, 0, none⟩ = some (.int .u64 (ut : Nat)) ∧ (w8).drew.cell? ⟨w3.heap.size, 1, none⟩ = some (.int .u64 (vt : Nat)) ∧ (w8).drew.cell? ⟨w5.heap.size, 0, none⟩ = some (.int .u64 (ut : Nat)) ∧ (w8).drew.cell? ⟨w5.heap.size, 1, none⟩ = some (.int .u64 (vt : Nat)) := ⟨B8.drew, Ra_8, Rb_8, Rx_8, Ry_8, Rz_8, cell7 (Ra_8) 0 _ rfl, cell7 (Ra_8) 1 _ rfl, cell7 (Rb_8) 0 _ rfl, cell7 (Rb_8) 1 _ rfl, cell7 (Rx_8) 0 _ rfl, cell7 (Rx_8) 1 _ rfl, cell7 (Ry_8) 0 _ rfl, cell7 (Ry_8) 1 _ rfl, cell7 (Rz_8) 0 _ rfl, cell7 (Rz_8) 1 _ rfl⟩
  go_wp2_with fail
  go_region_held3 (fun W => Below w.heap.size w W ∧ W.heap[w.heap.size]? = some (Obj.cells #[.int .u64 (x1 : Nat), .int .u64 (y1 : Nat)] 25) ∧ W.heap[w.heap.size + 1]? = some (Obj.cells #[.int .u64 (x2 : Nat), .int .u64 (y2 : Nat)] 25) ∧ W.heap[w1.heap.size]? = some (Obj.cells #[.int .u64 (uf : Nat), .int .u64 (vf : Nat)] 25) ∧ W.heap[w3.heap.size]? = some (Obj.cells #[.int .u64 (ut : Nat), .int .u64 (vt : Nat)] 25) ∧ W.heap[w5.heap.size]? = some (Obj.cells #[.int .u64 (ut : Nat), .int .u64 (vt : Nat)] 25) ∧ W.cell? ⟨w.heap.size, 0, none⟩ = some (.int .u64 (x1 : Nat)) ∧ W.cell? ⟨w.heap.size, 1, none⟩ = some (.int .u64 (y1 : Nat)) ∧ W.cell? ⟨w.heap.size + 1, 0, none⟩ = some (.int .u64 (x2 : Nat)) ∧ W.cell? ⟨w.heap.size + 1, 1, none⟩ = some (.int .u64 (y2 : Nat)) ∧ W.cell? ⟨w1.heap.size, 0, none⟩ = some (.int .u64 (uf : Nat)) ∧ W.cell? ⟨w1.heap.size, 1, none⟩ = some (.int .u64 (vf : Nat)) ∧ W.cell? ⟨w3.heap.size, 0, none⟩ = some (.int .u64 (ut : Nat)) ∧ W.cell? ⟨w3.heap.size, 1, none⟩ = some (.int .u64 (vt : Nat)) ∧ W.cell? ⟨w5.heap.size, 0, none⟩ = some (.int .u64 (ut : Nat)) ∧ W.cell? ⟨w5.heap.size, 1, none⟩ = some (.int .u64 (vt : Nat))) (first | exact s1 | exact s0)
    (first | (go_at_call_of 11 (Value.agg #[Value.int IntKind.u64 (x1 : Int), Value.int IntKind.u64 (y1 : Int)]); (first | refine (KS1.out _).mono ?_ | refine (KS1.out _).mono ?_); rintro r wq ⟨rfl, bq⟩; have s1 := (by first | exact sS.out _ _ s1 bq | exact sS.out _ _ s0 bq); clear bq) | (go_at_call_of 11 (Value.agg #[Value.int IntKind.u64 (x2 : Int), Value.int IntKind.u64 (y2 : Int)]); (first | refine (KS2.out _).mono ?_ | refine (KS2.out _).mono ?_); rintro r wq ⟨rfl, bq⟩; have s1 := (by first | exact sS.out _ _ s1 bq | exact sS.out _ _ s0 bq); clear bq) | fail)
  have B9 := (And.left s1)
  have Ra_9 := s1.2.1
  have Rb_9 := s1.2.2.1
  have Rx_9 := s1.2.2.2.1
  have Ry_9 := s1.2.2.2.2.1
  have Rz_9 := s1.2.2.2.2.2.1
  clear s0 s1 sS B8 Ra_8 ca_8_0 ca_8_1 Rb_8 cb_8_0 cb_8_1 Rx_8 cx_8_0 cx_8_1 Ry_8 cy_8_0 cy_8_1 Rz_8 cz_8_0 cz_8_1
  obtain ⟨ca_9_0, ca_9_1⟩ := cells2s Ra_9
  obtain ⟨cb_9_0, cb_9_1⟩ := cells2s Rb_9
  obtain ⟨cx_9_0, cx_9_1⟩ := cells2s Rx_9
  obtain ⟨cy_9_0, cy_9_1⟩ := cells2s Ry_9
  obtain ⟨cz_9_0, cz_9_1⟩ := cells2s Rz_9
  go_wp2_with fail
  obtain ⟨F, hF1, hF2⟩ := below_fun wq
  have fa_0 := fun u => cells4 (heap_of (hF1 u) _ _ _ Ra_9) 0 _ rfl
  have fa_1 := fun u => cells4 (heap_of (hF1 u) _ _ _ Ra_9) 1 _ rfl
  have fb_0 := fun u => cells4 (heap_of (hF1 u) _ _ _ Rb_9) 0 _ rfl
  have fb_1 := fun u => cells4 (heap_of (hF1 u) _ _ _ Rb_9) 1 _ rfl
  have fx_0 := fun u => cells4 (heap_of (hF1 u) _ _ _ Rx_9) 0 _ rfl
  have fx_1 := fun u => cells4 (heap_of (hF1 u) _ _ _ Rx_9) 1 _ rfl
  have fy_0 := fun u => cells4 (heap_of (hF1 u) _ _ _ Ry_9) 0 _ rfl
  have fy_1 := fun u => cells4 (heap_of (hF1 u) _ _ _ Ry_9) 1 _ rfl
  have fz_0 := fun u => cells4 (heap_of (hF1 u) _ _ _ Rz_9) 0 _ rfl
  have fz_1 := fun u => cells4 (heap_of (hF1 u) _ _ _ Rz_9) 1 _ rfl
  have FG : Box (∀ u, FAt (F u)) := box (fun u => fatB FF.out (btr B9 (hF1 u)))
  refine wp_region_below F hF2 (by kernel_rfl) (by kernel_rfl) ?_
  repeat first | go_big_quiet_step (first | (go_at_call_of 12 (Value.bool true); exact quietF hF1 hF2 (RT.out _)) | (go_at_call_of 12 (Value.bool false); exact quietF hF1 hF2 (RF.out _)) | (go_at_call 10; exact quietF hF1 hF2 (KA.out _ (FG.out _))) | fail) | quiet_step (first | (go_at_call_of 12 (Value.bool true); exact quietF hF1 hF2 (RT.out _)) | (go_at_call_of 12 (Value.bool false); exact quietF hF1 hF2 (RF.out _)) | (go_at_call 10; exact quietF hF1 hF2 (KA.out _ (FG.out _))) | fail)
  refine wpQuiet_nil ?_
  rintro _ ⟨uW, rfl⟩
  have B10 := btr B9 (hF1 uW)
  have Ra_10 := heap_of (hF1 uW) _ _ _ Ra_9
  have Rb_10 := heap_of (hF1 uW) _ _ _ Rb_9
  have Rx_10 := heap_of (hF1 uW) _ _ _ Rx_9
  have Ry_10 := heap_of (hF1 uW) _ _ _ Ry_9
  have Rz_10 := heap_of (hF1 uW) _ _ _ Rz_9
  obtain ⟨w10, hw⟩ : ∃ V, F uW = V := ⟨_, rfl⟩
  rw [hw] at B10 Ra_10 Rb_10 Rx_10 Ry_10 Rz_10
  try rw [hw]
  clear hw hF1 hF2 B9 fa_0 fa_1 fb_0 fb_1 fx_0 fx_1 fy_0 fy_1 fz_0 fz_1 Ra_9 ca_9_0 ca_9_1 Rb_9 cb_9_0 cb_9_1 Rx_9 cx_9_0 cx_9_1 Ry_9 cy_9_0 cy_9_1 Rz_9 cz_9_0 cz_9_1
  clear FG
  clear F
  obtain ⟨ca_10_0, ca_10_1⟩ := cells2s Ra_10
  obtain ⟨cb_10_0, cb_10_1⟩ := cells2s Rb_10
  obtain ⟨cx_10_0, cx_10_1⟩ := cells2s Rx_10
  obtain ⟨cy_10_0, cy_10_1⟩ := cells2s Ry_10
  obtain ⟨cz_10_0, cz_10_1⟩ := cells2s Rz_10
  go_wp2
  go_ret
  exact ⟨rfl, B10⟩
set_option maxRecDepth 100000 in
set_option maxHeartbeats 8000000 in
theorem si_yes11 (f : Int) (x1 y1 x2 y2 ut vt uf vf : Nat) (w : World) (K1 : Box (∀ w, FAt w → Calls Tryd.prog 6 #[.int .u8 f, .agg #[.int .u64 (x1 : Nat), .int .u64 (y1 : Nat)], .agg #[.int .u64 (x2 : Nat), .int .u64 (y2 : Nat)]] w fun r w' => r = .returned (.tuple #[.agg #[.int .u64 (ut : Nat), .int .u64 (vt : Nat)], .int .i64 0]) ∧ Below w.heap.size w w')) (K2 : Box (∀ w, FAt w → Calls Tryd.prog 7 #[.int .u8 f, .agg #[.int .u64 (x1 : Nat), .int .u64 (y1 : Nat)], .agg #[.int .u64 (x2 : Nat), .int .u64 (y2 : Nat)]] w fun r w' => r = .returned (.tuple #[.agg #[.int .u64 (uf : Nat), .int .u64 (vf : Nat)], .int .i64 0]) ∧ Below w.heap.size w w')) (K3 : Box (∀ w, FAt w → Calls Tryd.prog 8 #[.int .u8 f, .agg #[.int .u64 (x1 : Nat), .int .u64 (y1 : Nat)], .agg #[.int .u64 (x2 : Nat), .int .u64 (y2 : Nat)]] w fun r w' => r = .returned (.tuple #[.agg #[.int .u64 (uf : Nat), .int .u64 (vf : Nat)], .int .i64 0]) ∧ Below w.heap.size w w')) (KF1 : Box (∀ w, Calls Tryd.prog 9 #[.int .u8 f, .agg #[.int .u64 (x1 : Nat), .int .u64 (y1 : Nat)]] w fun r w' => r = .returned (.bool true) ∧ Below w.heap.size w w')) (KF2 : Box (∀ w, Calls Tryd.prog 9 #[.int .u8 f, .agg #[.int .u64 (x2 : Nat), .int .u64 (y2 : Nat)]] w fun r w' => r = .returned (.bool true) ∧ Below w.heap.size w w')) (KS1 : Box (∀ w, Calls Tryd.prog 11 #[.int .u8 f, .agg #[.int .u64 (x1 : Nat), .int .u64 (y1 : Nat)]] w fun r w' => r = .returned (.bool true) ∧ Below w.heap.size w w')) (KS2 : Box (∀ w, Calls Tryd.prog 11 #[.int .u8 f, .agg #[.int .u64 (x2 : Nat), .int .u64 (y2 : Nat)]] w fun r w' => r = .returned (.bool true) ∧ Below w.heap.size w w')) (RF : Box (∀ w, Calls Tryd.prog 12 #[.int .u8 f, .agg #[.int .u64 (x1 : Nat), .int .u64 (y1 : Nat)], .bool false] w fun r w' => r = .returned (.agg #[.int .u64 (uf : Nat), .int .u64 (vf : Nat)]) ∧ Below w.heap.size w w')) (RT : Box (∀ w, Calls Tryd.prog 12 #[.int .u8 f, .agg #[.int .u64 (x1 : Nat), .int .u64 (y1 : Nat)], .bool true] w fun r w' => r = .returned (.agg #[.int .u64 (ut : Nat), .int .u64 (vt : Nat)]) ∧ Below w.heap.size w w')) (KA : Box (∀ w, FAt w → Calls Tryd.prog 10 #[] w fun r w' => r = .returned (.bool true) ∧ Below w.heap.size w w')) (hT : FAt w) : Calls Tryd.prog 3 #[.int .u8 f, .agg #[.int .u64 (x1 : Nat), .int .u64 (y1 : Nat)], .agg #[.int .u64 (x2 : Nat), .int .u64 (y2 : Nat)]] w fun r w' => r = .returned (.bool true) ∧ Below w.heap.size w w' := by
  have FF := box hT
  clear hT
  have hE := eqb
  have e1 := ebb_sf (ut : Nat) (vt : Nat)
  have e2 := ebb_sf (uf : Nat) (vf : Nat)
  obtain ⟨Ra_0, Rb_0, B0⟩ := opn2 w (Obj.cells #[.int .u64 (x1 : Nat), .int .u64 (y1 : Nat)] 25) (Obj.cells #[.int .u64 (x2 : Nat), .int .u64 (y2 : Nat)] 25)
  go_enter Tryd.func3, Tryd.ntmps3
  obtain ⟨ca_0_0, ca_0_1⟩ := cells2s Ra_0
  obtain ⟨cb_0_0, cb_0_1⟩ := cells2s Rb_0
  go_wp2_with fail
  refine (K1.out _ (fatB FF.out B0)).mono ?_
  rintro r w1 ⟨rfl, b1⟩
  have B1 : Below w.heap.size w w1 := btr B0 b1
  have Ra_1 := heap_of b1 _ _ _ Ra_0
  have Rb_1 := heap_of b1 _ _ _ Rb_0
  clear b1 B0 Ra_0 ca_0_0 ca_0_1 Rb_0 cb_0_0 cb_0_1
  obtain ⟨ca_1_0, ca_1_1⟩ := cells2s Ra_1
  obtain ⟨cb_1_0, cb_1_1⟩ := cells2s Rb_1
  have S2 := box B1.size
  have La_2 : Box (w.heap.size < w1.heap.size) := box (Array.getElem?_eq_some_iff.1 Ra_1).1
  have Lb_2 : Box (w.heap.size + 1 < w1.heap.size) := box (Array.getElem?_eq_some_iff.1 Rb_1).1
  have Rx_2 := heap_alloc_last w1 (Obj.cells #[.int .u64 (ut : Nat), .int .u64 (vt : Nat)] 25)
  have B2 := btr B1 (bal w1 (Obj.cells #[.int .u64 (ut : Nat), .int .u64 (vt : Nat)] 25))
  have Ra_2 := heap_of (bal w1 (Obj.cells #[.int .u64 (ut : Nat), .int .u64 (vt : Nat)] 25)) _ _ _ Ra_1
  have Rb_2 := heap_of (bal w1 (Obj.cells #[.int .u64 (ut : Nat), .int .u64 (vt : Nat)] 25)) _ _ _ Rb_1
  clear B1 Ra_1 ca_1_0 ca_1_1 Rb_1 cb_1_0 cb_1_1
  obtain ⟨ca_2_0, ca_2_1⟩ := cells2s Ra_2
  obtain ⟨cb_2_0, cb_2_1⟩ := cells2s Rb_2
  obtain ⟨cx_2_0, cx_2_1⟩ := cells2s Rx_2
  go_wp2_with fail
  refine (K2.out _ (fatB FF.out B2)).mono ?_
  rintro r w3 ⟨rfl, b3⟩
  have B3 : Below w.heap.size w w3 := btr B2 b3
  have Ra_3 := heap_of b3 _ _ _ Ra_2
  have Rb_3 := heap_of b3 _ _ _ Rb_2
  have Rx_3 := heap_of b3 _ _ _ Rx_2
  clear b3 B2 Ra_2 ca_2_0 ca_2_1 Rb_2 cb_2_0 cb_2_1 Rx_2 cx_2_0 cx_2_1
  obtain ⟨ca_3_0, ca_3_1⟩ := cells2s Ra_3
  obtain ⟨cb_3_0, cb_3_1⟩ := cells2s Rb_3
  obtain ⟨cx_3_0, cx_3_1⟩ := cells2s Rx_3
  have S4 := box B3.size
  have La_4 : Box (w.heap.size < w3.heap.size) := box (Array.getElem?_eq_some_iff.1 Ra_3).1
  have Lb_4 : Box (w.heap.size + 1 < w3.heap.size) := box (Array.getElem?_eq_some_iff.1 Rb_3).1
  have Lx_4 : Box (w1.heap.size < w3.heap.size) := box (Array.getElem?_eq_some_iff.1 Rx_3).1
  have Ry_4 := heap_alloc_last w3 (Obj.cells #[.int .u64 (uf : Nat), .int .u64 (vf : Nat)] 25)
  have B4 := btr B3 (bal w3 (Obj.cells #[.int .u64 (uf : Nat), .int .u64 (vf : Nat)] 25))
  have Ra_4 := heap_of (bal w3 (Obj.cells #[.int .u64 (uf : Nat), .int .u64 (vf : Nat)] 25)) _ _ _ Ra_3
  have Rb_4 := heap_of (bal w3 (Obj.cells #[.int .u64 (uf : Nat), .int .u64 (vf : Nat)] 25)) _ _ _ Rb_3
  have Rx_4 := heap_of (bal w3 (Obj.cells #[.int .u64 (uf : Nat), .int .u64 (vf : Nat)] 25)) _ _ _ Rx_3
  clear B3 Ra_3 ca_3_0 ca_3_1 Rb_3 cb_3_0 cb_3_1 Rx_3 cx_3_0 cx_3_1
  obtain ⟨ca_4_0, ca_4_1⟩ := cells2s Ra_4
  obtain ⟨cb_4_0, cb_4_1⟩ := cells2s Rb_4
  obtain ⟨cx_4_0, cx_4_1⟩ := cells2s Rx_4
  obtain ⟨cy_4_0, cy_4_1⟩ := cells2s Ry_4
  go_wp2_with fail
  refine (K3.out _ (fatB FF.out B4)).mono ?_
  rintro r w5 ⟨rfl, b5⟩
  have B5 : Below w.heap.size w w5 := btr B4 b5
  have Ra_5 := heap_of b5 _ _ _ Ra_4
  have Rb_5 := heap_of b5 _ _ _ Rb_4
  have Rx_5 := heap_of b5 _ _ _ Rx_4
  have Ry_5 := heap_of b5 _ _ _ Ry_4
  clear b5 B4 Ra_4 ca_4_0 ca_4_1 Rb_4 cb_4_0 cb_4_1 Rx_4 cx_4_0 cx_4_1 Ry_4 cy_4_0 cy_4_1
  obtain ⟨ca_5_0, ca_5_1⟩ := cells2s Ra_5
  obtain ⟨cb_5_0, cb_5_1⟩ := cells2s Rb_5
  obtain ⟨cx_5_0, cx_5_1⟩ := cells2s Rx_5
  obtain ⟨cy_5_0, cy_5_1⟩ := cells2s Ry_5
  have S6 := box B5.size
  have La_6 : Box (w.heap.size < w5.heap.size) := box (Array.getElem?_eq_some_iff.1 Ra_5).1
  have Lb_6 : Box (w.heap.size + 1 < w5.heap.size) := box (Array.getElem?_eq_some_iff.1 Rb_5).1
  have Lx_6 : Box (w1.heap.size < w5.heap.size) := box (Array.getElem?_eq_some_iff.1 Rx_5).1
  have Ly_6 : Box (w3.heap.size < w5.heap.size) := box (Array.getElem?_eq_some_iff.1 Ry_5).1
  have Rz_6 := heap_alloc_last w5 (Obj.cells #[.int .u64 (uf : Nat), .int .u64 (vf : Nat)] 25)
  have B6 := btr B5 (bal w5 (Obj.cells #[.int .u64 (uf : Nat), .int .u64 (vf : Nat)] 25))
  have Ra_6 := heap_of (bal w5 (Obj.cells #[.int .u64 (uf : Nat), .int .u64 (vf : Nat)] 25)) _ _ _ Ra_5
  have Rb_6 := heap_of (bal w5 (Obj.cells #[.int .u64 (uf : Nat), .int .u64 (vf : Nat)] 25)) _ _ _ Rb_5
  have Rx_6 := heap_of (bal w5 (Obj.cells #[.int .u64 (uf : Nat), .int .u64 (vf : Nat)] 25)) _ _ _ Rx_5
  have Ry_6 := heap_of (bal w5 (Obj.cells #[.int .u64 (uf : Nat), .int .u64 (vf : Nat)] 25)) _ _ _ Ry_5
  clear B5 Ra_5 ca_5_0 ca_5_1 Rb_5 cb_5_0 cb_5_1 Rx_5 cx_5_0 cx_5_1 Ry_5 cy_5_0 cy_5_1
  obtain ⟨ca_6_0, ca_6_1⟩ := cells2s Ra_6
  obtain ⟨cb_6_0, cb_6_1⟩ := cells2s Rb_6
  obtain ⟨cx_6_0, cx_6_1⟩ := cells2s Rx_6
  obtain ⟨cy_6_0, cy_6_1⟩ := cells2s Ry_6
  obtain ⟨cz_6_0, cz_6_1⟩ := cells2s Rz_6
  go_wp2_with fail
  refine (KF1.out _).mono ?_
  rintro r w7 ⟨rfl, b7⟩
  have B7 : Below w.heap.size w w7 := btr B6 b7
  have Ra_7 := heap_of b7 _ _ _ Ra_6
  have Rb_7 := heap_of b7 _ _ _ Rb_6
  have Rx_7 := heap_of b7 _ _ _ Rx_6
  have Ry_7 := heap_of b7 _ _ _ Ry_6
  have Rz_7 := heap_of b7 _ _ _ Rz_6
  clear b7 B6 Ra_6 ca_6_0 ca_6_1 Rb_6 cb_6_0 cb_6_1 Rx_6 cx_6_0 cx_6_1 Ry_6 cy_6_0 cy_6_1 Rz_6 cz_6_0 cz_6_1
  obtain ⟨ca_7_0, ca_7_1⟩ := cells2s Ra_7
  obtain ⟨cb_7_0, cb_7_1⟩ := cells2s Rb_7
  obtain ⟨cx_7_0, cx_7_1⟩ := cells2s Rx_7
  obtain ⟨cy_7_0, cy_7_1⟩ := cells2s Ry_7
  obtain ⟨cz_7_0, cz_7_1⟩ := cells2s Rz_7
  go_wp2_with fail
  refine (KF2.out _).mono ?_
  rintro r w8 ⟨rfl, b8⟩
  have B8 : Below w.heap.size w w8 := btr B7 b8
  have Ra_8 := heap_of b8 _ _ _ Ra_7
  have Rb_8 := heap_of b8 _ _ _ Rb_7
  have Rx_8 := heap_of b8 _ _ _ Rx_7
  have Ry_8 := heap_of b8 _ _ _ Ry_7
  have Rz_8 := heap_of b8 _ _ _ Rz_7
  clear b8 B7 Ra_7 ca_7_0 ca_7_1 Rb_7 cb_7_0 cb_7_1 Rx_7 cx_7_0 cx_7_1 Ry_7 cy_7_0 cy_7_1 Rz_7 cz_7_0 cz_7_1
  obtain ⟨ca_8_0, ca_8_1⟩ := cells2s Ra_8
  obtain ⟨cb_8_0, cb_8_1⟩ := cells2s Rb_8
  obtain ⟨cx_8_0, cx_8_1⟩ := cells2s Rx_8
  obtain ⟨cy_8_0, cy_8_1⟩ := cells2s Ry_8
  obtain ⟨cz_8_0, cz_8_1⟩ := cells2s Rz_8
  have sS : Box (∀ W W1 : World, (Below w.heap.size w W ∧ W.heap[w.heap.size]? = some (Obj.cells #[.int .u64 (x1 : Nat), .int .u64 (y1 : Nat)] 25) ∧ W.heap[w.heap.size + 1]? = some (Obj.cells #[.int .u64 (x2 : Nat), .int .u64 (y2 : Nat)] 25) ∧ W.heap[w1.heap.size]? = some (Obj.cells #[.int .u64 (ut : Nat), .int .u64 (vt : Nat)] 25) ∧ W.heap[w3.heap.size]? = some (Obj.cells #[.int .u64 (uf : Nat), .int .u64 (vf : Nat)] 25) ∧ W.heap[w5.heap.size]? = some (Obj.cells #[.int .u64 (uf : Nat), .int .u64 (vf : Nat)] 25) ∧ W.cell? ⟨w.heap.size, 0, none⟩ = some (.int .u64 (x1 : Nat)) ∧ W.cell? ⟨w.heap.size, 1, none⟩ = some (.int .u64 (y1 : Nat)) ∧ W.cell? ⟨w.heap.size + 1, 0, none⟩ = some (.int .u64 (x2 : Nat)) ∧ W.cell? ⟨w.heap.size + 1, 1, none⟩ = some (.int .u64 (y2 : Nat)) ∧ W.cell? ⟨w1.heap.size, 0, none⟩ = some (.int .u64 (ut : Nat)) ∧ W.cell? ⟨w1.heap.size, 1, none⟩ = some (.int .u64 (vt : Nat)) ∧ W.cell? ⟨w3.heap.size, 0, none⟩ = some (.int .u64 (uf : Nat)) ∧ W.cell? ⟨w3.heap.size, 1, none⟩ = some (.int .u64 (vf : Nat)) ∧ W.cell? ⟨w5.heap.size, 0, none⟩ = some (.int .u64 (uf : Nat)) ∧ W.cell? ⟨w5.heap.size, 1, none⟩ = some (.int .u64 (vf : Nat))) → Below W.heap.size W W1 → (Below w.heap.size w W1 ∧ W1.heap[w.heap.size]? = some (Obj.cells #[.int .u64 (x1 : Nat), .int .u64 (y1 : Nat)] 25) ∧ W1.heap[w.heap.size + 1]? = some (Obj.cells #[.int .u64 (x2 : Nat), .int .u64 (y2 : Nat)] 25) ∧ W1.heap[w1.heap.size]? = some (Obj.cells #[.int .u64 (ut : Nat), .int .u64 (vt : Nat)] 25) ∧ W1.heap[w3.heap.size]? = some (Obj.cells #[.int .u64 (uf : Nat), .int .u64 (vf : Nat)] 25) ∧ W1.heap[w5.heap.size]? = some (Obj.cells #[.int .u64 (uf : Nat), .int .u64 (vf : Nat)] 25) ∧ W1.cell? ⟨w.heap.size, 0, none⟩ = some (.int .u64 (x1 : Nat)) ∧ W1.cell? ⟨w.heap.size, 1, none⟩ = some (.int .u64 (y1 : Nat)) ∧ W1.cell? ⟨w.heap.size + 1, 0, none⟩ = some (.int .u64 (x2 : Nat)) ∧ W1.cell? ⟨w.heap.size + 1, 1, none⟩ = some (.int .u64 (y2 : Nat)) ∧ W1.cell? ⟨w1.heap.size, 0, none⟩ = some (.int .u64 (ut : Nat)) ∧ W1.cell? ⟨w1.heap.size, 1, none⟩ = some (.int .u64 (vt : Nat)) ∧ W1.cell? ⟨w3.heap.size, 0, none⟩ = some (.int .u64 (uf : Nat)) ∧ W1.cell? ⟨w3.heap.size, 1, none⟩ = some (.int .u64 (vf : Nat)) ∧ W1.cell? ⟨w5.heap.size, 0, none⟩ = some (.int .u64 (uf : Nat)) ∧ W1.cell? ⟨w5.heap.size, 1, none⟩ = some (.int .u64 (vf : Nat)))) := box (fun W W1 h b => ⟨btr h.1 b, heap_of b _ _ _ h.2.1, heap_of b _ _ _ h.2.2.1, heap_of b _ _ _ h.2.2.2.1, heap_of b _ _ _ h.2.2.2.2.1, heap_of b _ _ _ h.2.2.2.2.2.1, cell7 (heap_of b _ _ _ h.2.1) 0 _ rfl, cell7 (heap_of b _ _ _ h.2.1) 1 _ rfl, cell7 (heap_of b _ _ _ h.2.2.1) 0 _ rfl, cell7 (heap_of b _ _ _ h.2.2.1) 1 _ rfl, cell7 (heap_of b _ _ _ h.2.2.2.1) 0 _ rfl, cell7 (heap_of b _ _ _ h.2.2.2.1) 1 _ rfl, cell7 (heap_of b _ _ _ h.2.2.2.2.1) 0 _ rfl, cell7 (heap_of b _ _ _ h.2.2.2.2.1) 1 _ rfl, cell7 (heap_of b _ _ _ h.2.2.2.2.2.1) 0 _ rfl, cell7 (heap_of b _ _ _ h.2.2.2.2.2.1) 1 _ rfl⟩)
  have s0 : Below w.heap.size w (w8).drew ∧ (w8).drew.heap[w.heap.size]? = some (Obj.cells #[.int .u64 (x1 : Nat), .int .u64 (y1 : Nat)] 25) ∧ (w8).drew.heap[w.heap.size + 1]? = some (Obj.cells #[.int .u64 (x2 : Nat), .int .u64 (y2 : Nat)] 25) ∧ (w8).drew.heap[w1.heap.size]? = some (Obj.cells #[.int .u64 (ut : Nat), .int .u64 (vt : Nat)] 25) ∧ (w8).drew.heap[w3.heap.size]? = some (Obj.cells #[.int .u64 (uf : Nat), .int .u64 (vf : Nat)] 25) ∧ (w8).drew.heap[w5.heap.size]? = some (Obj.cells #[.int .u64 (uf : Nat), .int .u64 (vf : Nat)] 25) ∧ (w8).drew.cell? ⟨w.heap.size, 0, none⟩ = some (.int .u64 (x1 : Nat)) ∧ (w8).drew.cell? ⟨w.heap.size, 1, none⟩ = some (.int .u64 (y1 : Nat)) ∧ (w8).drew.cell? ⟨w.heap.size + 1, 0, none⟩ = some (.int .u64 (x2 : Nat)) ∧ (w8).drew.cell? ⟨w.heap.size + 1, 1, none⟩ = some (.int .u64 (y2 : Nat)) ∧ (w8).drew.cell? ⟨w1.heap.size, 0, none⟩ = some (.int .u64 (ut : Nat)) ∧ (w8).drew.cell? ⟨w1.heap.size, 1, none⟩ = some (.int .u64 (vt : Nat)) ∧ (w8).drew.cell? ⟨w3.heap.size, 0, none⟩ = some (.int .u64 (uf : Nat)) ∧ (w8).drew.cell? ⟨w3.heap.size, 1, none⟩ = some (.int .u64 (vf : Nat)) ∧ (w8).drew.cell? ⟨w5.heap.size, 0, none⟩ = some (.int .u64 (uf : Nat)) ∧ (w8).drew.cell? ⟨w5.heap.size, 1, none⟩ = some (.int .u64 (vf : Nat)) := ⟨B8.drew, Ra_8, Rb_8, Rx_8, Ry_8, Rz_8, cell7 (Ra_8) 0 _ rfl, cell7 (Ra_8) 1 _ rfl, cell7 (Rb_8) 0 _ rfl, cell7 (Rb_8) 1 _ rfl, cell7 (Rx_8) 0 _ rfl, cell7 (Rx_8) 1 _ rfl, cell7 (Ry_8) 0 _ rfl, cell7 (Ry_8) 1 _ rfl, cell7 (Rz_8) 0 _ rfl, cell7 (Rz_8) 1 _ rfl⟩
  go_wp2_with fail
  go_region_held3 (fun W => Below w.heap.size w W ∧ W.heap[w.heap.size]? = some (Obj.cells #[.int .u64 (x1 : Nat), .int .u64 (y1 : Nat)] 25) ∧ W.heap[w.heap.size + 1]? = some (Obj.cells #[.int .u64 (x2 : Nat), .int .u64 (y2 : Nat)] 25) ∧ W.heap[w1.heap.size]? = some (Obj.cells #[.int .u64 (ut : Nat), .int .u64 (vt : Nat)] 25) ∧ W.heap[w3.heap.size]? = some (Obj.cells #[.int .u64 (uf : Nat), .int .u64 (vf : Nat)] 25) ∧ W.heap[w5.heap.size]? = some (Obj.cells #[.int .u64 (uf : Nat), .int .u64 (vf : Nat)] 25) ∧ W.cell? ⟨w.heap.size, 0, none⟩ = some (.int .u64 (x1 : Nat)) ∧ W.cell? ⟨w.heap.size, 1, none⟩ = some (.int .u64 (y1 : Nat)) ∧ W.cell? ⟨w.heap.size + 1, 0, none⟩ = some (.int .u64 (x2 : Nat)) ∧ W.cell? ⟨w.heap.size + 1, 1, none⟩ = some (.int .u64 (y2 : Nat)) ∧ W.cell? ⟨w1.heap.size, 0, none⟩ = some (.int .u64 (ut : Nat)) ∧ W.cell? ⟨w1.heap.size, 1, none⟩ = some (.int .u64 (vt : Nat)) ∧ W.cell? ⟨w3.heap.size, 0, none⟩ = some (.int .u64 (uf : Nat)) ∧ W.cell? ⟨w3.heap.size, 1, none⟩ = some (.int .u64 (vf : Nat)) ∧ W.cell? ⟨w5.heap.size, 0, none⟩ = some (.int .u64 (uf : Nat)) ∧ W.cell? ⟨w5.heap.size, 1, none⟩ = some (.int .u64 (vf : Nat))) (first | exact s1 | exact s0)
    (first | (go_at_call_of 11 (Value.agg #[Value.int IntKind.u64 (x1 : Int), Value.int IntKind.u64 (y1 : Int)]); (first | refine (KS1.out _).mono ?_ | refine (KS1.out _).mono ?_); rintro r wq ⟨rfl, bq⟩; have s1 := (by first | exact sS.out _ _ s1 bq | exact sS.out _ _ s0 bq); clear bq) | (go_at_call_of 11 (Value.agg #[Value.int IntKind.u64 (x2 : Int), Value.int IntKind.u64 (y2 : Int)]); (first | refine (KS2.out _).mono ?_ | refine (KS2.out _).mono ?_); rintro r wq ⟨rfl, bq⟩; have s1 := (by first | exact sS.out _ _ s1 bq | exact sS.out _ _ s0 bq); clear bq) | fail)
  have B9 := (And.left s1)
  have Ra_9 := s1.2.1
  have Rb_9 := s1.2.2.1
  have Rx_9 := s1.2.2.2.1
  have Ry_9 := s1.2.2.2.2.1
  have Rz_9 := s1.2.2.2.2.2.1
  clear s0 s1 sS B8 Ra_8 ca_8_0 ca_8_1 Rb_8 cb_8_0 cb_8_1 Rx_8 cx_8_0 cx_8_1 Ry_8 cy_8_0 cy_8_1 Rz_8 cz_8_0 cz_8_1
  obtain ⟨ca_9_0, ca_9_1⟩ := cells2s Ra_9
  obtain ⟨cb_9_0, cb_9_1⟩ := cells2s Rb_9
  obtain ⟨cx_9_0, cx_9_1⟩ := cells2s Rx_9
  obtain ⟨cy_9_0, cy_9_1⟩ := cells2s Ry_9
  obtain ⟨cz_9_0, cz_9_1⟩ := cells2s Rz_9
  go_wp2_with fail
  obtain ⟨F, hF1, hF2⟩ := below_fun wq
  have fa_0 := fun u => cells4 (heap_of (hF1 u) _ _ _ Ra_9) 0 _ rfl
  have fa_1 := fun u => cells4 (heap_of (hF1 u) _ _ _ Ra_9) 1 _ rfl
  have fb_0 := fun u => cells4 (heap_of (hF1 u) _ _ _ Rb_9) 0 _ rfl
  have fb_1 := fun u => cells4 (heap_of (hF1 u) _ _ _ Rb_9) 1 _ rfl
  have fx_0 := fun u => cells4 (heap_of (hF1 u) _ _ _ Rx_9) 0 _ rfl
  have fx_1 := fun u => cells4 (heap_of (hF1 u) _ _ _ Rx_9) 1 _ rfl
  have fy_0 := fun u => cells4 (heap_of (hF1 u) _ _ _ Ry_9) 0 _ rfl
  have fy_1 := fun u => cells4 (heap_of (hF1 u) _ _ _ Ry_9) 1 _ rfl
  have fz_0 := fun u => cells4 (heap_of (hF1 u) _ _ _ Rz_9) 0 _ rfl
  have fz_1 := fun u => cells4 (heap_of (hF1 u) _ _ _ Rz_9) 1 _ rfl
  have FG : Box (∀ u, FAt (F u)) := box (fun u => fatB FF.out (btr B9 (hF1 u)))
  refine wp_region_below F hF2 (by kernel_rfl) (by kernel_rfl) ?_
  repeat first | go_big_quiet_step (first | (go_at_call_of 12 (Value.bool true); exact quietF hF1 hF2 (RT.out _)) | (go_at_call_of 12 (Value.bool false); exact quietF hF1 hF2 (RF.out _)) | (go_at_call 10; exact quietF hF1 hF2 (KA.out _ (FG.out _))) | fail) | quiet_step (first | (go_at_call_of 12 (Value.bool true); exact quietF hF1 hF2 (RT.out _)) | (go_at_call_of 12 (Value.bool false); exact quietF hF1 hF2 (RF.out _)) | (go_at_call 10; exact quietF hF1 hF2 (KA.out _ (FG.out _))) | fail)
  refine wpQuiet_nil ?_
  rintro _ ⟨uW, rfl⟩
  have B10 := btr B9 (hF1 uW)
  have Ra_10 := heap_of (hF1 uW) _ _ _ Ra_9
  have Rb_10 := heap_of (hF1 uW) _ _ _ Rb_9
  have Rx_10 := heap_of (hF1 uW) _ _ _ Rx_9
  have Ry_10 := heap_of (hF1 uW) _ _ _ Ry_9
  have Rz_10 := heap_of (hF1 uW) _ _ _ Rz_9
  obtain ⟨w10, hw⟩ : ∃ V, F uW = V := ⟨_, rfl⟩
  rw [hw] at B10 Ra_10 Rb_10 Rx_10 Ry_10 Rz_10
  try rw [hw]
  clear hw hF1 hF2 B9 fa_0 fa_1 fb_0 fb_1 fx_0 fx_1 fy_0 fy_1 fz_0 fz_1 Ra_9 ca_9_0 ca_9_1 Rb_9 cb_9_0 cb_9_1 Rx_9 cx_9_0 cx_9_1 Ry_9 cy_9_0 cy_9_1 Rz_9 cz_9_0 cz_9_1
  clear FG
  clear F
  obtain ⟨ca_10_0, ca_10_1⟩ := cells2s Ra_10
  obtain ⟨cb_10_0, cb_10_1⟩ := cells2s Rb_10
  obtain ⟨cx_10_0, cx_10_1⟩ := cells2s Rx_10
  obtain ⟨cy_10_0, cy_10_1⟩ := cells2s Ry_10
  obtain ⟨cz_10_0, cz_10_1⟩ := cells2s Rz_10
  go_wp2
  go_ret
  exact ⟨rfl, B10⟩
end Go.Proofs.YtaengojkjfgppaaDoor
