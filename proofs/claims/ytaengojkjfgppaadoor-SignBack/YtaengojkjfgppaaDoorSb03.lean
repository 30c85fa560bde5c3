/-
  What the functions that the statement reaches return: part 3 (G4, GF, GD).
-/
import Derived.Test.YtaengojkjfgppaaDoorSb02
namespace Go.Proofs.YtaengojkjfgppaaDoor
set_option maxRecDepth 100000
set_option maxHeartbeats 40000000
set_option maxRecDepth 100000
open Go.RowKit WMath
set_option linter.unusedSimpArgs false
set_option linter.unusedVariables false
theorem ebb_sg (a b : Int) : ebb a b a b = true := by unfold ebb; simp
set_option maxRecDepth 100000 in
set_option maxHeartbeats 8000000 in
theorem sb_e1 (f : Int) (x1 y1 x2 y2 u v u2 v2 u3 v3 : Nat) (g h : Int) (w : World) (K1 : Box (∀ w, FAt w → Calls Tryd.prog 6 #[.int .u8 f, .agg #[.int .u64 (x1 : Nat), .int .u64 (y1 : Nat)], .agg #[.int .u64 (x1 : Nat), .int .u64 (y1 : Nat)]] w fun r w' => r = .returned (.tuple #[.agg #[.int .u64 (u : Nat), .int .u64 (v : Nat)], .int .i64 2]) ∧ Below w.heap.size w w')) (K2 : Box (∀ w, FAt w → Calls Tryd.prog 7 #[.int .u8 f, .agg #[.int .u64 (x1 : Nat), .int .u64 (y1 : Nat)], .agg #[.int .u64 (x1 : Nat), .int .u64 (y1 : Nat)]] w fun r w' => r = .returned (.tuple #[.agg #[.int .u64 (u2 : Nat), .int .u64 (v2 : Nat)], .int .i64 g]) ∧ Below w.heap.size w w')) (K3 : Box (∀ w, FAt w → Calls Tryd.prog 8 #[.int .u8 f, .agg #[.int .u64 (x1 : Nat), .int .u64 (y1 : Nat)], .agg #[.int .u64 (x2 : Nat), .int .u64 (y2 : Nat)]] w fun r w' => r = .returned (.tuple #[.agg #[.int .u64 (u3 : Nat), .int .u64 (v3 : Nat)], .int .i64 h]) ∧ Below w.heap.size w w')) (KA : Box (∀ w, FAt w → Calls Tryd.prog 10 #[] w fun r w' => r = .returned (.bool true) ∧ Below w.heap.size w w')) (hT : FAt w) : Calls Tryd.prog 5 #[.int .u8 f, .agg #[.int .u64 (x1 : Nat), .int .u64 (y1 : Nat)], .agg #[.int .u64 (x2 : Nat), .int .u64 (y2 : Nat)]] w fun r w' => r = .returned (.bool true) ∧ Below w.heap.size w w' := by
  have FF := box hT
  clear hT
  obtain ⟨Ra_0, Rb_0, B0⟩ := opn2 w (Obj.cells #[.int .u64 (x1 : Nat), .int .u64 (y1 : Nat)] 25) (Obj.cells #[.int .u64 (x2 : Nat), .int .u64 (y2 : Nat)] 25)
  go_enter Tryd.func5, Tryd.ntmps5
  obtain ⟨ca_0_0, ca_0_1⟩ := cells2s Ra_0
  obtain ⟨cb_0_0, cb_0_1⟩ := cells2s Rb_0
  go_wp2_with fail
  refine (K1.out _ (fatB FF.out B0)).mono ?_
  rintro r w1 ⟨rfl, b1⟩
  have B1 : Below w.heap.size w w1 := btr B0 b1
  have Ra_1 := heap_of b1 _ _ _ Ra_0
  have Rb_1 := heap_of b1 _ _ _ Rb_0
  clear b1 B0 Ra_0 ca_0_0 ca_0_1 Rb_0 cb_0_0 cb_0_1
  obtain ⟨ca_1_0, ca_1_1⟩ := cells2s Ra_1
  obtain ⟨cb_1_0, cb_1_1⟩ := cells2s Rb_1
  have S2 := box B1.size
  have La_2 : Box (w.heap.size < w1.heap.size) := box (Array.getElem?_eq_some_iff.1 Ra_1).1
  have Lb_2 : Box (w.heap.size + 1 < w1.heap.size) := box (Array.getElem?_eq_some_iff.1 Rb_1).1
  have Rx_2 := heap_alloc_last w1 (Obj.cells #[.int .u64 (u : Nat), .int .u64 (v : Nat)] 25)
  have B2 := btr B1 (bal w1 (Obj.cells #[.int .u64 (u : Nat), .int .u64 (v : Nat)] 25))
  have Ra_2 := heap_of (bal w1 (Obj.cells #[.int .u64 (u : Nat), .int .u64 (v : Nat)] 25)) _ _ _ Ra_1
  have Rb_2 := heap_of (bal w1 (Obj.cells #[.int .u64 (u : Nat), .int .u64 (v : Nat)] 25)) _ _ _ Rb_1
  clear B1 Ra_1 ca_1_0 ca_1_1 Rb_1 cb_1_0 cb_1_1
  obtain ⟨ca_2_0, ca_2_1⟩ := cells2s Ra_2
  obtain ⟨cb_2_0, cb_2_1⟩ := cells2s Rb_2
  obtain ⟨cx_2_0, cx_2_1⟩ := cells2s Rx_2
  go_wp2_with fail
  refine (K2.out _ (fatB FF.out B2)).mono ?_
  rintro r w3 ⟨rfl, b3⟩
  have B3 : Below w.heap.size w w3 := btr B2 b3
  have Ra_3 := heap_of b3 _ _ _ Ra_2
  have Rb_3 := heap_of b3 _ _ _ Rb_2
  have Rx_3 := heap_of b3 _ _ _ Rx_2
  clear b3 B2 Ra_2 ca_2_0 ca_2_1 Rb_2 cb_2_0 cb_2_1 Rx_2 cx_2_0 cx_2_1
  obtain ⟨ca_3_0, ca_3_1⟩ := cells2s Ra_3
  obtain ⟨cb_3_0, cb_3_1⟩ := cells2s Rb_3
  obtain ⟨cx_3_0, cx_3_1⟩ := cells2s Rx_3
  have S4 := box B3.size
  have La_4 : Box (w.heap.size < w3.heap.size) := box (Array.getElem?_eq_some_iff.1 Ra_3).1
  have Lb_4 : Box (w.heap.size + 1 < w3.heap.size) := box (Array.getElem?_eq_some_iff.1 Rb_3).1
  have Lx_4 : Box (w1.heap.size < w3.heap.size) := box (Array.getElem?_eq_some_iff.1 Rx_3).1
  have Ry_4 := heap_alloc_last w3 (Obj.cells #[.int .u64 (u2 : Nat), .int .u64 (v2 : Nat)] 25)
  have B4 := btr B3 (bal w3 (Obj.cells #[.int .u64 (u2 : Nat), .int .u64 (v2 : Nat)] 25))
  have Ra_4 := heap_of (bal w3 (Obj.cells #[.int .u64 (u2 : Nat), .int .u64 (v2 : Nat)] 25)) _ _ _ Ra_3
  have Rb_4 := heap_of (bal w3 (Obj.cells #[.int .u64 (u2 : Nat), .int .u64 (v2 : Nat)] 25)) _ _ _ Rb_3
  have Rx_4 := heap_of (bal w3 (Obj.cells #[.int .u64 (u2 : Nat), .int .u64 (v2 : Nat)] 25)) _ _ _ Rx_3
  clear B3 Ra_3 ca_3_0 ca_3_1 Rb_3 cb_3_0 cb_3_1 Rx_3 cx_3_0 cx_3_1
  obtain ⟨ca_4_0, ca_4_1⟩ := cells2s Ra_4
  obtain ⟨cb_4_0, cb_4_1⟩ := cells2s Rb_4
  obtain ⟨cx_4_0, cx_4_1⟩ := cells2s Rx_4
  obtain ⟨cy_4_0, cy_4_1⟩ := cells2s Ry_4
  go_wp2_with fail
  refine (K3.out _ (fatB FF.out B4)).mono ?_
  rintro r w5 ⟨rfl, b5⟩
  have B5 : Below w.heap.size w w5 := btr B4 b5
  have Ra_5 := heap_of b5 _ _ _ Ra_4
  have Rb_5 := heap_of b5 _ _ _ Rb_4
  have Rx_5 := heap_of b5 _ _ _ Rx_4
  have Ry_5 := heap_of b5 _ _ _ Ry_4
  clear b5 B4 Ra_4 ca_4_0 ca_4_1 Rb_4 cb_4_0 cb_4_1 Rx_4 cx_4_0 cx_4_1 Ry_4 cy_4_0 cy_4_1
  obtain ⟨ca_5_0, ca_5_1⟩ := cells2s Ra_5
  obtain ⟨cb_5_0, cb_5_1⟩ := cells2s Rb_5
  obtain ⟨cx_5_0, cx_5_1⟩ := cells2s Rx_5
  obtain ⟨cy_5_0, cy_5_1⟩ := cells2s Ry_5
  have S6 := box B5.size
  have La_6 : Box (w.heap.size < w5.heap.size) := box (Array.getElem?_eq_some_iff.1 Ra_5).1
  have Lb_6 : Box (w.heap.size + 1 < w5.heap.size) := box (Array.getElem?_eq_some_iff.1 Rb_5).1
  have Lx_6 : Box (w1.heap.size < w5.heap.size) := box (Array.getElem?_eq_some_iff.1 Rx_5).1
  have Ly_6 : Box (w3.heap.size < w5.heap.size) := box (Array.getElem?_eq_some_iff.1 Ry_5).1
  have Rz_6 := heap_alloc_last w5 (Obj.cells #[.int .u64 (u3 : Nat), .int .u64 (v3 : Nat)] 25)
  have B6 := btr B5 (bal w5 (Obj.cells #[.int .u64 (u3 : Nat), .int .u64 (v3 : Nat)] 25))
  have Ra_6 := heap_of (bal w5 (Obj.cells #[.int .u64 (u3 : Nat), .int .u64 (v3 : Nat)] 25)) _ _ _ Ra_5
  have Rb_6 := heap_of (bal w5 (Obj.cells #[.int .u64 (u3 : Nat), .int .u64 (v3 : Nat)] 25)) _ _ _ Rb_5
  have Rx_6 := heap_of (bal w5 (Obj.cells #[.int .u64 (u3 : Nat), .int .u64 (v3 : Nat)] 25)) _ _ _ Rx_5
  have Ry_6 := heap_of (bal w5 (Obj.cells #[.int .u64 (u3 : Nat), .int .u64 (v3 : Nat)] 25)) _ _ _ Ry_5
  clear B5 Ra_5 ca_5_0 ca_5_1 Rb_5 cb_5_0 cb_5_1 Rx_5 cx_5_0 cx_5_1 Ry_5 cy_5_0 cy_5_1
  obtain ⟨ca_6_0, ca_6_1⟩ := cells2s Ra_6
  obtain ⟨cb_6_0, cb_6_1⟩ := cells2s Rb_6
  obtain ⟨cx_6_0, cx_6_1⟩ := cells2s Rx_6
  obtain ⟨cy_6_0, cy_6_1⟩ := cells2s Ry_6
  obtain ⟨cz_6_0, cz_6_1⟩ := cells2s Rz_6
  go_wp2_with fail
  refine (KA.out _ (fatB FF.out B6)).mono ?_
  rintro r w7 ⟨rfl, b7⟩
  have B7 : Below w.heap.size w w7 := btr B6 b7
  have Ra_7 := heap_of b7 _ _ _ Ra_6
  have Rb_7 := heap_of b7 _ _ _ Rb_6
  have Rx_7 := heap_of b7 _ _ _ Rx_6
  have Ry_7 := heap_of b7 _ _ _ Ry_6
  have Rz_7 := heap_of b7 _ _ _ Rz_6
  clear b7 B6 Ra_6 ca_6_0 ca_6_1 Rb_6 cb_6_0 cb_6_1 Rx_6 cx_6_0 cx_6_1 Ry_6 cy_6_0 cy_6_1 Rz_6 cz_6_0 cz_6_1
  obtain ⟨ca_7_0, ca_7_1⟩ := cells2s Ra_7
  obtain ⟨cb_7_0, cb_7_1⟩ := cells2s Rb_7
  obtain ⟨cx_7_0, cx_7_1⟩ := cells2s Rx_7
  obtain ⟨cy_7_0, cy_7_1⟩ := cells2s Ry_7
  obtain ⟨cz_7_0, cz_7_1⟩ := cells2s Rz_7
  go_wp2
  go_ret
  exact ⟨rfl, B7⟩
set_option maxRecDepth 100000 in
set_option maxHeartbeats 8000000 in
theorem sb_e2 (f : Int) (x1 y1 x2 y2 u v u2 v2 u3 v3 : Nat) (g h : Int) (w : World) (K1 : Box (∀ w, FAt w → Calls Tryd.prog 6 #[.int .u8 f, .agg #[.int .u64 (x1 : Nat), .int .u64 (y1 : Nat)], .agg #[.int .u64 (x1 : Nat), .int .u64 (y1 : Nat)]] w fun r w' => r = .returned (.tuple #[.agg #[.int .u64 (u : Nat), .int .u64 (v : Nat)], .int .i64 0]) ∧ Below w.heap.size w w')) (K2 : Box (∀ w, FAt w → Calls Tryd.prog 7 #[.int .u8 f, .agg #[.int .u64 (x1 : Nat), .int .u64 (y1 : Nat)], .agg #[.int .u64 (x1 : Nat), .int .u64 (y1 : Nat)]] w fun r w' => r = .returned (.tuple #[.agg #[.int .u64 (u2 : Nat), .int .u64 (v2 : Nat)], .int .i64 g]) ∧ Below w.heap.size w w')) (K3 : Box (∀ w, FAt w → Calls Tryd.prog 8 #[.int .u8 f, .agg #[.int .u64 (x1 : Nat), .int .u64 (y1 : Nat)], .agg #[.int .u64 (x2 : Nat), .int .u64 (y2 : Nat)]] w fun r w' => r = .returned (.tuple #[.agg #[.int .u64 (u3 : Nat), .int .u64 (v3 : Nat)], .int .i64 2]) ∧ Below w.heap.size w w')) (KA : Box (∀ w, FAt w → Calls Tryd.prog 10 #[] w fun r w' => r = .returned (.bool true) ∧ Below w.heap.size w w')) (hT : FAt w) : Calls Tryd.prog 5 #[.int .u8 f, .agg #[.int .u64 (x1 : Nat), .int .u64 (y1 : Nat)], .agg #[.int .u64 (x2 : Nat), .int .u64 (y2 : Nat)]] w fun r w' => r = .returned (.bool true) ∧ Below w.heap.size w w' := by
  have FF := box hT
  clear hT
  obtain ⟨Ra_0, Rb_0, B0⟩ := opn2 w (Obj.cells #[.int .u64 (x1 : Nat), .int .u64 (y1 : Nat)] 25) (Obj.cells #[.int .u64 (x2 : Nat), .int .u64 (y2 : Nat)] 25)
  go_enter Tryd.func5, Tryd.ntmps5
  obtain ⟨ca_0_0, ca_0_1⟩ := cells2s Ra_0
  obtain ⟨cb_0_0, cb_0_1⟩ := cells2s Rb_0
  go_wp2_with fail
  refine (K1.out _ (fatB FF.out B0)).mono ?_
  rintro r w1 ⟨rfl, b1⟩
  have B1 : Below w.heap.size w w1 := btr B0 b1
  have Ra_1 := heap_of b1 _ _ _ Ra_0
  have Rb_1 := heap_of b1 _ _ _ Rb_0
  clear b1 B0 Ra_0 ca_0_0 ca_0_1 Rb_0 cb_0_0 cb_0_1
  obtain ⟨ca_1_0, ca_1_1⟩ := cells2s Ra_1
  obtain ⟨cb_1_0, cb_1_1⟩ := cells2s Rb_1
  have S2 := box B1.size
  have La_2 : Box (w.heap.size < w1.heap.size) := box (Array.getElem?_eq_some_iff.1 Ra_1).1
  have Lb_2 : Box (w.heap.size + 1 < w1.heap.size) := box (Array.getElem?_eq_some_iff.1 Rb_1).1
  have Rx_2 := heap_alloc_last w1 (Obj.cells #[.int .u64 (u : Nat), .int .u64 (v : Nat)] 25)
  have B2 := btr B1 (bal w1 (Obj.cells #[.int .u64 (u : Nat), .int .u64 (v : Nat)] 25))
  have Ra_2 := heap_of (bal w1 (Obj.cells #[.int .u64 (u : Nat), .int .u64 (v : Nat)] 25)) _ _ _ Ra_1
  have Rb_2 := heap_of (bal w1 (Obj.cells #[.int .u64 (u : Nat), .int .u64 (v : Nat)] 25)) _ _ _ Rb_1
  clear B1 Ra_1 ca_1_0 ca_1_1 Rb_1 cb_1_0 cb_1_1
  obtain ⟨ca_2_0, ca_2_1⟩ := cells2s Ra_2
  obtain ⟨cb_2_0, cb_2_1⟩ := cells2s Rb_2
  obtain ⟨cx_2_0, cx_2_1⟩ := cells2s Rx_2
  go_wp2_with fail
  refine (K2.out _ (fatB FF.out B2)).mono ?_
  rintro r w3 ⟨rfl, b3⟩
  have B3 : Below w.heap.size w w3 := btr B2 b3
  have Ra_3 := heap_of b3 _ _ _ Ra_2
  have Rb_3 := heap_of b3 _ _ _ Rb_2
  have Rx_3 := heap_of b3 _ _ _ Rx_2
  clear b3 B2 Ra_2 ca_2_0 ca_2_1 Rb_2 cb_2_0 cb_2_1 Rx_2 cx_2_0 cx_2_1
  obtain ⟨ca_3_0, ca_3_1⟩ := cells2s Ra_3
  obtain ⟨cb_3_0, cb_3_1⟩ := cells2s Rb_3
  obtain ⟨cx_3_0, cx_3_1⟩ := cells2s Rx_3
  have S4 := box B3.size
  have La_4 : Box (w.heap.size < w3.heap.size) := box (Array.getElem?_eq_some_iff.1 Ra_3).1
  have Lb_4 : Box (w.heap.size + 1 < w3.heap.size) := box (Array.getElem?_eq_some_iff.1 Rb_3).1
  have Lx_4 : Box (w1.heap.size < w3.heap.size) := box (Array.getElem?_eq_some_iff.1 Rx_3).1
  have Ry_4 := heap_alloc_last w3 (Obj.cells #[.int .u64 (u2 : Nat), .int .u64 (v2 : Nat)] 25)
  have B4 := btr B3 (bal w3 (Obj.cells #[.int .u64 (u2 : Nat), .int .u64 (v2 : Nat)] 25))
  have Ra_4 := heap_of (bal w3 (Obj.cells #[.int .u64 (u2 : Nat), .int .u64 (v2 : Nat)] 25)) _ _ _ Ra_3
  have Rb_4 := heap_of (bal w3 (Obj.cells #[.int .u64 (u2 : Nat), .int .u64 (v2 : Nat)] 25)) _ _ _ Rb_3
  have Rx_4 := heap_of (bal w3 (Obj.cells #[.int .u64 (u2 : Nat), .int .u64 (v2 : Nat)] 25)) _ _ _ Rx_3
  clear B3 Ra_3 ca_3_0 ca_3_1 Rb_3 cb_3_0 cb_3_1 Rx_3 cx_3_0 cx_3_1
  obtain ⟨ca_4_0, ca_4_1⟩ := cells2s Ra_4
  obtain ⟨cb_4_0, cb_4_1⟩ := cells2s Rb_4
  obtain ⟨cx_4_0, cx_4_1⟩ := cells2s Rx_4
  obtain ⟨cy_4_0, cy_4_1⟩ := cells2s Ry_4
  go_wp2_with fail
  refine (K3.out _ (fatB FF.out B4)).mono ?_
  rintro r w5 ⟨rfl, b5⟩
  have B5 : Below w.heap.size w w5 := btr B4 b5
  have Ra_5 := heap_of b5 _ _ _ Ra_4
  have Rb_5 := heap_of b5 _ _ _ Rb_4
  have Rx_5 := heap_of b5 _ _ _ Rx_4
  have Ry_5 := heap_of b5 _ _ _ Ry_4
  clear b5 B4 Ra_4 ca_4_0 ca_4_1 Rb_4 cb_4_0 cb_4_1 Rx_4 cx_4_0 cx_4_1 Ry_4 cy_4_0 cy_4_1
  obtain ⟨ca_5_0, ca_5_1⟩ := cells2s Ra_5
  obtain ⟨cb_5_0, cb_5_1⟩ := cells2s Rb_5
  obtain ⟨cx_5_0, cx_5_1⟩ := cells2s Rx_5
  obtain ⟨cy_5_0, cy_5_1⟩ := cells2s Ry_5
  have S6 := box B5.size
  have La_6 : Box (w.heap.size < w5.heap.size) := box (Array.getElem?_eq_some_iff.1 Ra_5).1
  have Lb_6 : Box (w.heap.size + 1 < w5.heap.size) := box (Array.getElem?_eq_some_iff.1 Rb_5).1
  have Lx_6 : Box (w1.heap.size < w5.heap.size) := box (Array.getElem?_eq_some_iff.1 Rx_5).1
  have Ly_6 : Box (w3.heap.size < w5.heap.size) := box (Array.getElem?_eq_some_iff.1 Ry_5).1
  have Rz_6 := heap_alloc_last w5 (Obj.cells #[.int .u64 (u3 : Nat), .int .u64 (v3 : Nat)] 25)
  have B6 := btr B5 (bal w5 (Obj.cells #[.int .u64 (u3 : Nat), .int .u64 (v3 : Nat)] 25))
  have Ra_6 := heap_of (bal w5 (Obj.cells #[.int .u64 (u3 : Nat), .int .u64 (v3 : Nat)] 25)) _ _ _ Ra_5
  have Rb_6 := heap_of (bal w5 (Obj.cells #[.int .u64 (u3 : Nat), .int .u64 (v3 : Nat)] 25)) _ _ _ Rb_5
  have Rx_6 := heap_of (bal w5 (Obj.cells #[.int .u64 (u3 : Nat), .int .u64 (v3 : Nat)] 25)) _ _ _ Rx_5
  have Ry_6 := heap_of (bal w5 (Obj.cells #[.int .u64 (u3 : Nat), .int .u64 (v3 : Nat)] 25)) _ _ _ Ry_5
  clear B5 Ra_5 ca_5_0 ca_5_1 Rb_5 cb_5_0 cb_5_1 Rx_5 cx_5_0 cx_5_1 Ry_5 cy_5_0 cy_5_1
  obtain ⟨ca_6_0, ca_6_1⟩ := cells2s Ra_6
  obtain ⟨cb_6_0, cb_6_1⟩ := cells2s Rb_6
  obtain ⟨cx_6_0, cx_6_1⟩ := cells2s Rx_6
  obtain ⟨cy_6_0, cy_6_1⟩ := cells2s Ry_6
  obtain ⟨cz_6_0, cz_6_1⟩ := cells2s Rz_6
  go_wp2_with fail
  refine (KA.out _ (fatB FF.out B6)).mono ?_
  rintro r w7 ⟨rfl, b7⟩
  have B7 : Below w.heap.size w w7 := btr B6 b7
  have Ra_7 := heap_of b7 _ _ _ Ra_6
  have Rb_7 := heap_of b7 _ _ _ Rb_6
  have Rx_7 := heap_of b7 _ _ _ Rx_6
  have Ry_7 := heap_of b7 _ _ _ Ry_6
  have Rz_7 := heap_of b7 _ _ _ Rz_6
  clear b7 B6 Ra_6 ca_6_0 ca_6_1 Rb_6 cb_6_0 cb_6_1 Rx_6 cx_6_0 cx_6_1 Ry_6 cy_6_0 cy_6_1 Rz_6 cz_6_0 cz_6_1
  obtain ⟨ca_7_0, ca_7_1⟩ := cells2s Ra_7
  obtain ⟨cb_7_0, cb_7_1⟩ := cells2s Rb_7
  obtain ⟨cx_7_0, cx_7_1⟩ := cells2s Rx_7
  obtain ⟨cy_7_0, cy_7_1⟩ := cells2s Ry_7
  obtain ⟨cz_7_0, cz_7_1⟩ := cells2s Rz_7
  go_wp2
  go_ret
  exact ⟨rfl, B7⟩
set_option maxRecDepth 100000 in
set_option maxHeartbeats 8000000 in
theorem sb_q (f : Int) (h3 : (f == 3) = true) (x1 y1 x2 y2 u2 v2 u3 v3 t n rr ss : Nat) (j l k : Int) (n0 : ((n : Int) == 0) = false) (n1 : bits .and .u64 (n : Int) (IntKind.u64.wrap ((n : Int) - 1)) = 0) (n2 : decide (512 < (n : Int)) = false) (w : World) (K1 : Box (∀ w, FAt w → Calls Tryd.prog 6 #[.int .u8 f, .agg #[.int .u64 (x1 : Nat), .int .u64 (y1 : Nat)], .agg #[.int .u64 (x1 : Nat), .int .u64 (y1 : Nat)]] w fun r w' => r = .returned (.tuple #[.agg #[.int .u64 (x1 : Nat), .int .u64 (y1 : Nat)], .int .i64 0]) ∧ Below w.heap.size w w')) (K2 : Box (∀ w, FAt w → Calls Tryd.prog 7 #[.int .u8 f, .agg #[.int .u64 (x1 : Nat), .int .u64 (y1 : Nat)], .agg #[.int .u64 (x1 : Nat), .int .u64 (y1 : Nat)]] w fun r w' => r = .returned (.tuple #[.agg #[.int .u64 (u2 : Nat), .int .u64 (v2 : Nat)], .int .i64 0]) ∧ Below w.heap.size w w')) (K3 : Box (∀ w, FAt w → Calls Tryd.prog 8 #[.int .u8 f, .agg #[.int .u64 (x1 : Nat), .int .u64 (y1 : Nat)], .agg #[.int .u64 (x2 : Nat), .int .u64 (y2 : Nat)]] w fun r w' => r = .returned (.tuple #[.agg #[.int .u64 (u3 : Nat), .int .u64 (v3 : Nat)], .int .i64 0]) ∧ Below w.heap.size w w')) (K4 : Box (∀ w, FAt w → Calls Tryd.prog 8 #[.int .u8 f, .agg #[.int .u64 (u3 : Nat), .int .u64 (v3 : Nat)], .agg #[.int .u64 (x2 : Nat), .int .u64 (y2 : Nat)]] w fun r w' => r = .returned (.tuple #[.agg #[.int .u64 (x1 : Nat), .int .u64 (y1 : Nat)], .int .i64 j]) ∧ Below w.heap.size w w')) (K5 : Box (∀ w, FAt w → Calls Tryd.prog 13 #[.int .u8 f, .agg #[.int .u64 (x1 : Nat), .int .u64 (y1 : Nat)]] w fun r w' => r = .returned (.tuple #[.int .u64 (n : Nat), .int .i64 l]) ∧ Below w.heap.size w w')) (K6 : Box (∀ w, FAt w → Calls Tryd.prog 15 #[.int .u8 f, .agg #[.int .u64 (x1 : Nat), .int .u64 (y1 : Nat)]] w fun r w' => r = .returned (.tuple #[.int .u64 (t : Nat), .int .i64 2]) ∧ Below w.heap.size w w')) (K7 : Box (∀ w, FAt w → Calls Tryd.prog 17 #[.int .u8 f, .int .u64 (t : Nat)] w fun r w' => r = .returned (.tuple #[.agg #[.int .u64 (rr : Nat), .int .u64 (ss : Nat)], .int .i64 k]) ∧ Below w.heap.size w w')) (K8 : Box (∀ w, FAt w → Calls Tryd.prog 19 #[.int .u8 f, .agg #[.int .u64 (x1 : Nat), .int .u64 (y1 : Nat)]] w fun r w' => r = .returned (.agg #[.int .u64 (u2 : Nat), .int .u64 (v2 : Nat)]) ∧ Below w.heap.size w w')) (KA : Box (∀ w, FAt w → Calls Tryd.prog 10 #[] w fun r w' => r = .returned (.bool true) ∧ Below w.heap.size w w')) (hT : FAt w) : Calls Tryd.prog 5 #[.int .u8 f, .agg #[.int .u64 (x1 : Nat), .int .u64 (y1 : Nat)], .agg #[.int .u64 (x2 : Nat), .int .u64 (y2 : Nat)]] w fun r w' => r = .returned (.bool true) ∧ Below w.heap.size w w' := by
  have FF := box hT
  clear hT
  have hE := eqb
  have e1 := ebb_sg (x1 : Nat) (y1 : Nat)
  have e2 := ebb_sg (u2 : Nat) (v2 : Nat)
  obtain ⟨Ra_0, Rb_0, B0⟩ := opn2 w (Obj.cells #[.int .u64 (x1 : Nat), .int .u64 (y1 : Nat)] 25) (Obj.cells #[.int .u64 (x2 : Nat), .int .u64 (y2 : Nat)] 25)
  go_enter Tryd.func5, Tryd.ntmps5
  obtain ⟨ca_0_0, ca_0_1⟩ := cells2s Ra_0
  obtain ⟨cb_0_0, cb_0_1⟩ := cells2s Rb_0
  go_wp2_with fail
  refine (K1.out _ (fatB FF.out B0)).mono ?_
  rintro r w1 ⟨rfl, b1⟩
  have B1 : Below w.heap.size w w1 := btr B0 b1
  have Ra_1 := heap_of b1 _ _ _ Ra_0
  have Rb_1 := heap_of b1 _ _ _ Rb_0
  clear b1 B0 Ra_0 ca_0_0 ca_0_1 Rb_0 cb_0_0 cb_0_1
  obtain ⟨ca_1_0, ca_1_1⟩ := cells2s Ra_1
  obtain ⟨cb_1_0, cb_1_1⟩ := cells2s Rb_1
  have S2 := box B1.size
  have La_2 : Box (w.heap.size < w1.heap.size) := box (Array.getElem?_eq_some_iff.1 Ra_1).1
  have Lb_2 : Box (w.heap.size + 1 < w1.heap.size) := box (Array.getElem?_eq_some_iff.1 Rb_1).1
  have Rx_2 := heap_alloc_last w1 (Obj.cells #[.int .u64 (x1 : Nat), .int .u64 (y1 : Nat)] 25)
  have B2 := btr B1 (bal w1 (Obj.cells #[.int .u64 (x1 : Nat), .int .u64 (y1 : Nat)] 25))
  have Ra_2 := heap_of (bal w1 (Obj.cells #[.int .u64 (x1 : Nat), .int .u64 (y1 : Nat)] 25)) _ _ _ Ra_1
  have Rb_2 := heap_of (bal w1 (Obj.cells #[.int .u64 (x1 : Nat), .int .u64 (y1 : Nat)] 25)) _ _ _ Rb_1
  clear B1 Ra_1 ca_1_0 ca_1_1 Rb_1 cb_1_0 cb_1_1
  obtain ⟨ca_2_0, ca_2_1⟩ := cells2s Ra_2
  obtain ⟨cb_2_0, cb_2_1⟩ := cells2s Rb_2
  obtain ⟨cx_2_0, cx_2_1⟩ := cells2s Rx_2
  go_wp2_with fail
  refine (K2.out _ (fatB FF.out B2)).mono ?_
  rintro r w3 ⟨rfl, b3⟩
  have B3 : Below w.heap.size w w3 := btr B2 b3
  have Ra_3 := heap_of b3 _ _ _ Ra_2
  have Rb_3 := heap_of b3 _ _ _ Rb_2
  have Rx_3 := heap_of b3 _ _ _ Rx_2
  clear b3 B2 Ra_2 ca_2_0 ca_2_1 Rb_2 cb_2_0 cb_2_1 Rx_2 cx_2_0 cx_2_1
  obtain ⟨ca_3_0, ca_3_1⟩ := cells2s Ra_3
  obtain ⟨cb_3_0, cb_3_1⟩ := cells2s Rb_3
  obtain ⟨cx_3_0, cx_3_1⟩ := cells2s Rx_3
  have S4 := box B3.size
  have La_4 : Box (w.heap.size < w3.heap.size) := box (Array.getElem?_eq_some_iff.1 Ra_3).1
  have Lb_4 : Box (w.heap.size + 1 < w3.heap.size) := box (Array.getElem?_eq_some_iff.1 Rb_3).1
  have Lx_4 : Box (w1.heap.size < w3.heap.size) := box (Array.getElem?_eq_some_iff.1 Rx_3).1
  have Ry_4 := heap_alloc_last w3 (Obj.cells #[.int .u64 (u2 : Nat), .int .u64 (v2 : Nat)] 25)
  have B4 := btr B3 (bal w3 (Obj.cells #[.int .u64 (u2 : Nat), .int .u64 (v2 : Nat)] 25))
  have Ra_4 := heap_of (bal w3 (Obj.cells #[.int .u64 (u2 : Nat), .int .u64 (v2 : Nat)] 25)) _ _ _ Ra_3
  have Rb_4 := heap_of (bal w3 (Obj.cells #[.int .u64 (u2 : Nat), .int .u64 (v2 : Nat)] 25)) _ _ _ Rb_3
  have Rx_4 := heap_of (bal w3 (Obj.cells #[.int .u64 (u2 : Nat), .int .u64 (v2 : Nat)] 25)) _ _ _ Rx_3
  clear B3 Ra_3 ca_3_0 ca_3_1 Rb_3 cb_3_0 cb_3_1 Rx_3 cx_3_0 cx_3_1
  obtain ⟨ca_4_0, ca_4_1⟩ := cells2s Ra_4
  obtain ⟨cb_4_0, cb_4_1⟩ := cells2s Rb_4
  obtain ⟨cx_4_0, cx_4_1⟩ := cells2s Rx_4
  obtain ⟨cy_4_0, cy_4_1⟩ := cells2s Ry_4
  go_wp2_with fail
  refine (K3.out _ (fatB FF.out B4)).mono ?_
  rintro r w5 ⟨rfl, b5⟩
  have B5 : Below w.heap.size w w5 := btr B4 b5
  have Ra_5 := heap_of b5 _ _ _ Ra_4
  have Rb_5 := heap_of b5 _ _ _ Rb_4
  have Rx_5 := heap_of b5 _ _ _ Rx_4
  have Ry_5 := heap_of b5 _ _ _ Ry_4
  clear b5 B4 Ra_4 ca_4_0 ca_4_1 Rb_4 cb_4_0 cb_4_1 Rx_4 cx_4_0 cx_4_1 Ry_4 cy_4_0 cy_4_1
  obtain ⟨ca_5_0, ca_5_1⟩ := cells2s Ra_5
  obtain ⟨cb_5_0, cb_5_1⟩ := cells2s Rb_5
  obtain ⟨cx_5_0, cx_5_1⟩ := cells2s Rx_5
  obtain ⟨cy_5_0, cy_5_1⟩ := cells2s Ry_5
  have S6 := box B5.size
  have La_6 : Box (w.heap.size < w5.heap.size) := box (Array.getElem?_eq_some_iff.1 Ra_5).1
  have Lb_6 : Box (w.heap.size + 1 < w5.heap.size) := box (Array.getElem?_eq_some_iff.1 Rb_5).1
  have Lx_6 : Box (w1.heap.size < w5.heap.size) := box (Array.getElem?_eq_some_iff.1 Rx_5).1
  have Ly_6 : Box (w3.heap.size < w5.heap.size) := box (Array.getElem?_eq_some_iff.1 Ry_5).1
  have Rz_6 := heap_alloc_last w5 (Obj.cells #[.int .u64 (u3 : Nat), .int .u64 (v3 : Nat)] 25)
  have B6 := btr B5 (bal w5 (Obj.cells #[.int .u64 (u3 : Nat), .int .u64 (v3 : Nat)] 25))
  have Ra_6 := heap_of (bal w5 (Obj.cells #[.int .u64 (u3 : Nat), .int .u64 (v3 : Nat)] 25)) _ _ _ Ra_5
  have Rb_6 := heap_of (bal w5 (Obj.cells #[.int .u64 (u3 : Nat), .int .u64 (v3 : Nat)] 25)) _ _ _ Rb_5
  have Rx_6 := heap_of (bal w5 (Obj.cells #[.int .u64 (u3 : Nat), .int .u64 (v3 : Nat)] 25)) _ _ _ Rx_5
  have Ry_6 := heap_of (bal w5 (Obj.cells #[.int .u64 (u3 : Nat), .int .u64 (v3 : Nat)] 25)) _ _ _ Ry_5
  clear B5 Ra_5 ca_5_0 ca_5_1 Rb_5 cb_5_0 cb_5_1 Rx_5 cx_5_0 cx_5_1 Ry_5 cy_5_0 cy_5_1
  obtain ⟨ca_6_0, ca_6_1⟩ := cells2s Ra_6
  obtain ⟨cb_6_0, cb_6_1⟩ := cells2s Rb_6
  obtain ⟨cx_6_0, cx_6_1⟩ := cells2s Rx_6
  obtain ⟨cy_6_0, cy_6_1⟩ := cells2s Ry_6
  obtain ⟨cz_6_0, cz_6_1⟩ := cells2s Rz_6
  go_wp2_with fail
  refine (K4.out _ (fatB FF.out B6)).mono ?_
  rintro r w7 ⟨rfl, b7⟩
  have B7 : Below w.heap.size w w7 := btr B6 b7
  have Ra_7 := heap_of b7 _ _ _ Ra_6
  have Rb_7 := heap_of b7 _ _ _ Rb_6
  have Rx_7 := heap_of b7 _ _ _ Rx_6
  have Ry_7 := heap_of b7 _ _ _ Ry_6
  have Rz_7 := heap_of b7 _ _ _ Rz_6
  clear b7 B6 Ra_6 ca_6_0 ca_6_1 Rb_6 cb_6_0 cb_6_1 Rx_6 cx_6_0 cx_6_1 Ry_6 cy_6_0 cy_6_1 Rz_6 cz_6_0 cz_6_1
  obtain ⟨ca_7_0, ca_7_1⟩ := cells2s Ra_7
  obtain ⟨cb_7_0, cb_7_1⟩ := cells2s Rb_7
  obtain ⟨cx_7_0, cx_7_1⟩ := cells2s Rx_7
  obtain ⟨cy_7_0, cy_7_1⟩ := cells2s Ry_7
  obtain ⟨cz_7_0, cz_7_1⟩ := cells2s Rz_7
  have S8 := box B7.size
  have La_8 : Box (w.heap.size < w7.heap.size) := box (Array.getElem?_eq_some_iff.1 Ra_7).1
  have Lb_8 : Box (w.heap.size + 1 < w7.heap.size) := box (Array.getElem?_eq_some_iff.1 Rb_7).1
  have Lx_8 : Box (w1.heap.size < w7.heap.size) := box (Array.getElem?_eq_some_iff.1 Rx_7).1
  have Ly_8 : Box (w3.heap.size < w7.heap.size) := box (Array.getElem?_eq_some_iff.1 Ry_7).1
  have Lz_8 : Box (w5.heap.size < w7.heap.size) := box (Array.getElem?_eq_some_iff.1 Rz_7).1
  have Ru_8 := heap_alloc_last w7 (Obj.cells #[.int .u64 (x1 : Nat), .int .u64 (y1 : Nat)] 25)
  have B8 := btr B7 (bal w7 (Obj.cells #[.int .u64 (x1 : Nat), .int .u64 (y1 : Nat)] 25))
  have Ra_8 := heap_of (bal w7 (Obj.cells #[.int .u64 (x1 : Nat), .int .u64 (y1 : Nat)] 25)) _ _ _ Ra_7
  have Rb_8 := heap_of (bal w7 (Obj.cells #[.int .u64 (x1 : Nat), .int .u64 (y1 : Nat)] 25)) _ _ _ Rb_7
  have Rx_8 := heap_of (bal w7 (Obj.cells #[.int .u64 (x1 : Nat), .int .u64 (y1 : Nat)] 25)) _ _ _ Rx_7
  have Ry_8 := heap_of (bal w7 (Obj.cells #[.int .u64 (x1 : Nat), .int .u64 (y1 : Nat)] 25)) _ _ _ Ry_7
  have Rz_8 := heap_of (bal w7 (Obj.cells #[.int .u64 (x1 : Nat), .int .u64 (y1 : Nat)] 25)) _ _ _ Rz_7
  clear B7 Ra_7 ca_7_0 ca_7_1 Rb_7 cb_7_0 cb_7_1 Rx_7 cx_7_0 cx_7_1 Ry_7 cy_7_0 cy_7_1 Rz_7 cz_7_0 cz_7_1
  obtain ⟨ca_8_0, ca_8_1⟩ := cells2s Ra_8
  obtain ⟨cb_8_0, cb_8_1⟩ := cells2s Rb_8
  obtain ⟨cx_8_0, cx_8_1⟩ := cells2s Rx_8
  obtain ⟨cy_8_0, cy_8_1⟩ := cells2s Ry_8
  obtain ⟨cz_8_0, cz_8_1⟩ := cells2s Rz_8
  obtain ⟨cu_8_0, cu_8_1⟩ := cells2s Ru_8
  go_wp2_with fail
  refine (K5.out _ (fatB FF.out B8)).mono ?_
  rintro r w9 ⟨rfl, b9⟩
  have B9 : Below w.heap.size w w9 := btr B8 b9
  have Ra_9 := heap_of b9 _ _ _ Ra_8
  have Rb_9 := heap_of b9 _ _ _ Rb_8
  have Rx_9 := heap_of b9 _ _ _ Rx_8
  have Ry_9 := heap_of b9 _ _ _ Ry_8
  have Rz_9 := heap_of b9 _ _ _ Rz_8
  have Ru_9 := heap_of b9 _ _ _ Ru_8
  clear b9 B8 Ra_8 ca_8_0 ca_8_1 Rb_8 cb_8_0 cb_8_1 Rx_8 cx_8_0 cx_8_1 Ry_8 cy_8_0 cy_8_1 Rz_8 cz_8_0 cz_8_1 Ru_8 cu_8_0 cu_8_1
  obtain ⟨ca_9_0, ca_9_1⟩ := cells2s Ra_9
  obtain ⟨cb_9_0, cb_9_1⟩ := cells2s Rb_9
  obtain ⟨cx_9_0, cx_9_1⟩ := cells2s Rx_9
  obtain ⟨cy_9_0, cy_9_1⟩ := cells2s Ry_9
  obtain ⟨cz_9_0, cz_9_1⟩ := cells2s Rz_9
  obtain ⟨cu_9_0, cu_9_1⟩ := cells2s Ru_9
  go_wp2_with fail
  obtain ⟨F, hF1, hF2⟩ := below_fun w9
  have fa_0 := fun u => cells4 (heap_of (hF1 u) _ _ _ Ra_9) 0 _ rfl
  have fa_1 := fun u => cells4 (heap_of (hF1 u) _ _ _ Ra_9) 1 _ rfl
  have fb_0 := fun u => cells4 (heap_of (hF1 u) _ _ _ Rb_9) 0 _ rfl
  have fb_1 := fun u => cells4 (heap_of (hF1 u) _ _ _ Rb_9) 1 _ rfl
  have fx_0 := fun u => cells4 (heap_of (hF1 u) _ _ _ Rx_9) 0 _ rfl
  have fx_1 := fun u => cells4 (heap_of (hF1 u) _ _ _ Rx_9) 1 _ rfl
  have fy_0 := fun u => cells4 (heap_of (hF1 u) _ _ _ Ry_9) 0 _ rfl
  have fy_1 := fun u => cells4 (heap_of (hF1 u) _ _ _ Ry_9) 1 _ rfl
  have fz_0 := fun u => cells4 (heap_of (hF1 u) _ _ _ Rz_9) 0 _ rfl
  have fz_1 := fun u => cells4 (heap_of (hF1 u) _ _ _ Rz_9) 1 _ rfl
  have fu_0 := fun u => cells4 (heap_of (hF1 u) _ _ _ Ru_9) 0 _ rfl
  have fu_1 := fun u => cells4 (heap_of (hF1 u) _ _ _ Ru_9) 1 _ rfl
  have FG : Box (∀ u, FAt (F u)) := box (fun u => fatB FF.out (btr B9 (hF1 u)))
  refine wp_region_below F hF2 (by kernel_rfl) (by kernel_rfl) ?_
  repeat first | go_big_quiet_step (first | (go_at_call 19; exact quietF hF1 hF2 (K8.out _ (FG.out _))) | fail) | quiet_step (first | (go_at_call 19; exact quietF hF1 hF2 (K8.out _ (FG.out _))) | fail)
  refine wpQuiet_nil ?_
  rintro _ ⟨uW, rfl⟩
  have B10 := btr B9 (hF1 uW)
  have Ra_10 := heap_of (hF1 uW) _ _ _ Ra_9
  have Rb_10 := heap_of (hF1 uW) _ _ _ Rb_9
  have Rx_10 := heap_of (hF1 uW) _ _ _ Rx_9
  have Ry_10 := heap_of (hF1 uW) _ _ _ Ry_9
  have Rz_10 := heap_of (hF1 uW) _ _ _ Rz_9
  have Ru_10 := heap_of (hF1 uW) _ _ _ Ru_9
  obtain ⟨w10, hw⟩ : ∃ V, F uW = V := ⟨_, rfl⟩
  rw [hw] at B10 Ra_10 Rb_10 Rx_10 Ry_10 Rz_10 Ru_10
  try rw [hw]
  clear hw hF1 hF2 B9 fa_0 fa_1 fb_0 fb_1 fx_0 fx_1 fy_0 fy_1 fz_0 fz_1 fu_0 fu_1 Ra_9 ca_9_0 ca_9_1 Rb_9 cb_9_0 cb_9_1 Rx_9 cx_9_0 cx_9_1 Ry_9 cy_9_0 cy_9_1 Rz_9 cz_9_0 cz_9_1 Ru_9 cu_9_0 cu_9_1
  clear FG
  clear F
  obtain ⟨ca_10_0, ca_10_1⟩ := cells2s Ra_10
  obtain ⟨cb_10_0, cb_10_1⟩ := cells2s Rb_10
  obtain ⟨cx_10_0, cx_10_1⟩ := cells2s Rx_10
  obtain ⟨cy_10_0, cy_10_1⟩ := cells2s Ry_10
  obtain ⟨cz_10_0, cz_10_1⟩ := cells2s Rz_10
  obtain ⟨cu_10_0, cu_10_1⟩ := cells2s Ru_10
  go_wp2_with fail
  refine (K6.out _ (fatB FF.out B10)).mono ?_
  rintro r w11 ⟨rfl, b11⟩
  have B11 : Below w.heap.size w w11 := btr B10 b11
  have Ra_11 := heap_of b11 _ _ _ Ra_10
  have Rb_11 := heap_of b11 _ _ _ Rb_10
  have Rx_11 := heap_of b11 _ _ _ Rx_10
  have Ry_11 := heap_of b11 _ _ _ Ry_10
  have Rz_11 := heap_of b11 _ _ _ Rz_10
  have Ru_11 := heap_of b11 _ _ _ Ru_10
  clear b11 B10 Ra_10 ca_10_0 ca_10_1 Rb_10 cb_10_0 cb_10_1 Rx_10 cx_10_0 cx_10_1 Ry_10 cy_10_0 cy_10_1 Rz_10 cz_10_0 cz_10_1 Ru_10 cu_10_0 cu_10_1
  obtain ⟨ca_11_0, ca_11_1⟩ := cells2s Ra_11
  obtain ⟨cb_11_0, cb_11_1⟩ := cells2s Rb_11
  obtain ⟨cx_11_0, cx_11_1⟩ := cells2s Rx_11
  obtain ⟨cy_11_0, cy_11_1⟩ := cells2s Ry_11
  obtain ⟨cz_11_0, cz_11_1⟩ := cells2s Rz_11
  obtain ⟨cu_11_0, cu_11_1⟩ := cells2s Ru_11
  go_wp2_with fail
  refine (K7.out _ (fatB FF.out B11)).mono ?_
  rintro r w12 ⟨rfl, b12⟩
  have B12 : Below w.heap.size w w12 := btr B11 b12
  have Ra_12 := heap_of b12 _ _ _ Ra_11
  have Rb_12 := heap_of b12 _ _ _ Rb_11
  have Rx_12 := heap_of b12 _ _ _ Rx_11
  have Ry_12 := heap_of b12 _ _ _ Ry_11
  have Rz_12 := heap_of b12 _ _ _ Rz_11
  have Ru_12 := heap_of b12 _ _ _ Ru_11
  clear b12 B11 Ra_11 ca_11_0 ca_11_1 Rb_11 cb_11_0 cb_11_1 Rx_11 cx_11_0 cx_11_1 Ry_11 cy_11_0 cy_11_1 Rz_11 cz_11_0 cz_11_1 Ru_11 cu_11_0 cu_11_1
  obtain ⟨ca_12_0, ca_12_1⟩ := cells2s Ra_12
  obtain ⟨cb_12_0, cb_12_1⟩ := cells2s Rb_12
  obtain ⟨cx_12_0, cx_12_1⟩ := cells2s Rx_12
  obtain ⟨cy_12_0, cy_12_1⟩ := cells2s Ry_12
  obtain ⟨cz_12_0, cz_12_1⟩ := cells2s Rz_12
  obtain ⟨cu_12_0, cu_12_1⟩ := cells2s Ru_12
  have S13 := box B12.size
  have La_13 : Box (w.heap.size < w12.heap.size) := box (Array.getElem?_eq_some_iff.1 Ra_12).1
  have Lb_13 : Box (w.heap.size + 1 < w12.heap.size) := box (Array.getElem?_eq_some_iff.1 Rb_12).1
  have Lx_13 : Box (w1.heap.size < w12.heap.size) := box (Array.getElem?_eq_some_iff.1 Rx_12).1
  have Ly_13 : Box (w3.heap.size < w12.heap.size) := box (Array.getElem?_eq_some_iff.1 Ry_12).1
  have Lz_13 : Box (w5.heap.size < w12.heap.size) := box (Array.getElem?_eq_some_iff.1 Rz_12).1
  have Lu_13 : Box (w7.heap.size < w12.heap.size) := box (Array.getElem?_eq_some_iff.1 Ru_12).1
  have Rc_13 := heap_alloc_last w12 (Obj.cells #[.int .u64 (rr : Nat), .int .u64 (ss : Nat)] 25)
  have B13 := btr B12 (bal w12 (Obj.cells #[.int .u64 (rr : Nat), .int .u64 (ss : Nat)] 25))
  have Ra_13 := heap_of (bal w12 (Obj.cells #[.int .u64 (rr : Nat), .int .u64 (ss : Nat)] 25)) _ _ _ Ra_12
  have Rb_13 := heap_of (bal w12 (Obj.cells #[.int .u64 (rr : Nat), .int .u64 (ss : Nat)] 25)) _ _ _ Rb_12
  have Rx_13 := heap_of (bal w12 (Obj.cells #[.int .u64 (rr : Nat), .int .u64 (ss : Nat)] 25)) _ _ _ Rx_12
  have Ry_13 := heap_of (bal w12 (Obj.cells #[.int .u64 (rr : Nat), .int .u64 (ss : Nat)] 25)) _ _ _ Ry_12
  have Rz_13 := heap_of (bal w12 (Obj.cells #[.int .u64 (rr : Nat), .int .u64 (ss : Nat)] 25)) _ _ _ Rz_12
  have Ru_13 := heap_of (bal w12 (Obj.cells #[.int .u64 (rr : Nat), .int .u64 (ss : Nat)] 25)) _ _ _ Ru_12
  clear B12 Ra_12 ca_12_0 ca_12_1 Rb_12 cb_12_0 cb_12_1 Rx_12 cx_12_0 cx_12_1 Ry_12 cy_12_0 cy_12_1 Rz_12 cz_12_0 cz_12_1 Ru_12 cu_12_0 cu_12_1
  obtain ⟨ca_13_0, ca_13_1⟩ := cells2s Ra_13
  obtain ⟨cb_13_0, cb_13_1⟩ := cells2s Rb_13
  obtain ⟨cx_13_0, cx_13_1⟩ := cells2s Rx_13
  obtain ⟨cy_13_0, cy_13_1⟩ := cells2s Ry_13
  obtain ⟨cz_13_0, cz_13_1⟩ := cells2s Rz_13
  obtain ⟨cu_13_0, cu_13_1⟩ := cells2s Ru_13
  obtain ⟨cc_13_0, cc_13_1⟩ := cells2s Rc_13
  go_wp2_with fail
  refine (KA.out _ (fatB FF.out B13)).mono ?_
  rintro r w14 ⟨rfl, b14⟩
  have B14 : Below w.heap.size w w14 := btr B13 b14
  have Ra_14 := heap_of b14 _ _ _ Ra_13
  have Rb_14 := heap_of b14 _ _ _ Rb_13
  have Rx_14 := heap_of b14 _ _ _ Rx_13
  have Ry_14 := heap_of b14 _ _ _ Ry_13
  have Rz_14 := heap_of b14 _ _ _ Rz_13
  have Ru_14 := heap_of b14 _ _ _ Ru_13
  have Rc_14 := heap_of b14 _ _ _ Rc_13
  clear b14 B13 Ra_13 ca_13_0 ca_13_1 Rb_13 cb_13_0 cb_13_1 Rx_13 cx_13_0 cx_13_1 Ry_13 cy_13_0 cy_13_1 Rz_13 cz_13_0 cz_13_1 Ru_13 cu_13_0 cu_13_1 Rc_13 cc_13_0 cc_13_1
  obtain ⟨ca_14_0, ca_14_1⟩ := cells2s Ra_14
  obtain ⟨cb_14_0, cb_14_1⟩ := cells2s Rb_14
  obtain ⟨cx_14_0, cx_14_1⟩ := cells2s Rx_14
  obtain ⟨cy_14_0, cy_14_1⟩ := cells2s Ry_14
  obtain ⟨cz_14_0, cz_14_1⟩ := cells2s Rz_14
  obtain ⟨cu_14_0, cu_14_1⟩ := cells2s Ru_14
  obtain ⟨cc_14_0, cc_14_1⟩ := cells2s Rc_14
  go_wp2
  go_ret
  exact ⟨rfl, B14⟩
set_option maxRecDepth 100000 in
set_option maxHeartbeats 8000000 in
theorem sb_ok (f : Int) (h3 : (f == 3) = false) (x1 y1 x2 y2 u2 v2 u3 v3 t n rr ss : Nat) (j l k : Int) (n0 : ((n : Int) == 0) = false) (n1 : bits .and .u64 (n : Int) (IntKind.u64.wrap ((n : Int) - 1)) = 0) (n2 : decide (512 < (n : Int)) = false) (w : World) (K1 : Box (∀ w, FAt w → Calls Tryd.prog 6 #[.int .u8 f, .agg #[.int .u64 (x1 : Nat), .int .u64 (y1 : Nat)], .agg #[.int .u64 (x1 : Nat), .int .u64 (y1 : Nat)]] w fun r w' => r = .returned (.tuple #[.agg #[.int .u64 (x1 : Nat), .int .u64 (y1 : Nat)], .int .i64 0]) ∧ Below w.heap.size w w')) (K2 : Box (∀ w, FAt w → Calls Tryd.prog 7 #[.int .u8 f, .agg #[.int .u64 (x1 : Nat), .int .u64 (y1 : Nat)], .agg #[.int .u64 (x1 : Nat), .int .u64 (y1 : Nat)]] w fun r w' => r = .returned (.tuple #[.agg #[.int .u64 (u2 : Nat), .int .u64 (v2 : Nat)], .int .i64 0]) ∧ Below w.heap.size w w')) (K3 : Box (∀ w, FAt w → Calls Tryd.prog 8 #[.int .u8 f, .agg #[.int .u64 (x1 : Nat), .int .u64 (y1 : Nat)], .agg #[.int .u64 (x2 : Nat), .int .u64 (y2 : Nat)]] w fun r w' => r = .returned (.tuple #[.agg #[.int .u64 (u3 : Nat), .int .u64 (v3 : Nat)], .int .i64 0]) ∧ Below w.heap.size w w')) (K4 : Box (∀ w, FAt w → Calls Tryd.prog 8 #[.int .u8 f, .agg #[.int .u64 (u3 : Nat), .int .u64 (v3 : Nat)], .agg #[.int .u64 (x2 : Nat), .int .u64 (y2 : Nat)]] w fun r w' => r = .returned (.tuple #[.agg #[.int .u64 (x1 : Nat), .int .u64 (y1 : Nat)], .int .i64 j]) ∧ Below w.heap.size w w')) (K5 : Box (∀ w, FAt w → Calls Tryd.prog 13 #[.int .u8 f, .agg #[.int .u64 (x1 : Nat), .int .u64 (y1 : Nat)]] w fun r w' => r = .returned (.tuple #[.int .u64 (n : Nat), .int .i64 l]) ∧ Below w.heap.size w w')) (K6 : Box (∀ w, FAt w → Calls Tryd.prog 15 #[.int .u8 f, .agg #[.int .u64 (x1 : Nat), .int .u64 (y1 : Nat)]] w fun r w' => r = .returned (.tuple #[.int .u64 (t : Nat), .int .i64 0]) ∧ Below w.heap.size w w')) (K7 : Box (∀ w, FAt w → Calls Tryd.prog 17 #[.int .u8 f, .int .u64 (t : Nat)] w fun r w' => r = .returned (.tuple #[.agg #[.int .u64 (x1 : Nat), .int .u64 (y1 : Nat)], .int .i64 0]) ∧ Below w.heap.size w w')) (K8 : Box (∀ w, FAt w → Calls Tryd.prog 19 #[.int .u8 f, .agg #[.int .u64 (x1 : Nat), .int .u64 (y1 : Nat)]] w fun r w' => r = .returned (.agg #[.int .u64 (u2 : Nat), .int .u64 (v2 : Nat)]) ∧ Below w.heap.size w w')) (KA : Box (∀ w, FAt w → Calls Tryd.prog 10 #[] w fun r w' => r = .returned (.bool true) ∧ Below w.heap.size w w')) (hT : FAt w) : Calls Tryd.prog 5 #[.int .u8 f, .agg #[.int .u64 (x1 : Nat), .int .u64 (y1 : Nat)], .agg #[.int .u64 (x2 : Nat), .int .u64 (y2 : Nat)]] w fun r w' => r = .returned (.bool true) ∧ Below w.heap.size w w' := by
  have FF := box hT
  clear hT
  have hE := eqb
  have e1 := ebb_sg (x1 : Nat) (y1 : Nat)
  have e2 := ebb_sg (u2 : Nat) (v2 : Nat)
  obtain ⟨Ra_0, Rb_0, B0⟩ := opn2 w (Obj.cells #[.int .u64 (x1 : Nat), .int .u64 (y1 : Nat)] 25) (Obj.cells #[.int .u64 (x2 : Nat), .int .u64 (y2 : Nat)] 25)
  go_enter Tryd.func5, Tryd.ntmps5
  obtain ⟨ca_0_0, ca_0_1⟩ := cells2s Ra_0
  obtain ⟨cb_0_0, cb_0_1⟩ := cells2s Rb_0
  go_wp2_with fail
  refine (K1.out _ (fatB FF.out B0)).mono ?_
  rintro r w1 ⟨rfl, b1⟩
  have B1 : Below w.heap.size w w1 := btr B0 b1
  have Ra_1 := heap_of b1 _ _ _ Ra_0
  have Rb_1 := heap_of b1 _ _ _ Rb_0
  clear b1 B0 Ra_0 ca_0_0 ca_0_1 Rb_0 cb_0_0 cb_0_1
  obtain ⟨ca_1_0, ca_1_1⟩ := cells2s Ra_1
  obtain ⟨cb_1_0, cb_1_1⟩ := cells2s Rb_1
  have S2 := box B1.size
  have La_2 : Box (w.heap.size < w1.heap.size) := box (Array.getElem?_eq_some_iff.1 Ra_1).1
  have Lb_2 : Box (w.heap.size + 1 < w1.heap.size) := box (Array.getElem?_eq_some_iff.1 Rb_1).1
  have Rx_2 := heap_alloc_last w1 (Obj.cells #[.int .u64 (x1 : Nat), .int .u64 (y1 : Nat)] 25)
  have B2 := btr B1 (bal w1 (Obj.cells #[.int .u64 (x1 : Nat), .int .u64 (y1 : Nat)] 25))
  have Ra_2 := heap_of (bal w1 (Obj.cells #[.int .u64 (x1 : Nat), .int .u64 (y1 : Nat)] 25)) _ _ _ Ra_1
  have Rb_2 := heap_of (bal w1 (Obj.cells #[.int .u64 (x1 : Nat), .int .u64 (y1 : Nat)] 25)) _ _ _ Rb_1
  clear B1 Ra_1 ca_1_0 ca_1_1 Rb_1 cb_1_0 cb_1_1
  obtain ⟨ca_2_0, ca_2_1⟩ := cells2s Ra_2
  obtain ⟨cb_2_0, cb_2_1⟩ := cells2s Rb_2
  obtain ⟨cx_2_0, cx_2_1⟩ := cells2s Rx_2
  go_wp2_with fail
  refine (K2.out _ (fatB FF.out B2)).mono ?_
  rintro r w3 ⟨rfl, b3⟩
  have B3 : Below w.heap.size w w3 := btr B2 b3
  have Ra_3 := heap_of b3 _ _ _ Ra_2
  have Rb_3 := heap_of b3 _ _ _ Rb_2
  have Rx_3 := heap_of b3 _ _ _ Rx_2
  clear b3 B2 Ra_2 ca_2_0 ca_2_1 Rb_2 cb_2_0 cb_2_1 Rx_2 cx_2_0 cx_2_1
  obtain ⟨ca_3_0, ca_3_1⟩ := cells2s Ra_3
  obtain ⟨cb_3_0, cb_3_1⟩ := cells2s Rb_3
  obtain ⟨cx_3_0, cx_3_1⟩ := cells2s Rx_3
  have S4 := box B3.size
  have La_4 : Box (w.heap.size < w3.heap.size) := box (Array.getElem?_eq_some_iff.1 Ra_3).1
  have Lb_4 : Box (w.heap.size + 1 < w3.heap.size) := box (Array.getElem?_eq_some_iff.1 Rb_3).1
  have Lx_4 : Box (w1.heap.size < w3.heap.size) := box (Array.getElem?_eq_some_iff.1 Rx_3).1
  have Ry_4 := heap_alloc_last w3 (Obj.cells #[.int .u64 (u2 : Nat), .int .u64 (v2 : Nat)] 25)
  have B4 := btr B3 (bal w3 (Obj.cells #[.int .u64 (u2 : Nat), .int .u64 (v2 : Nat)] 25))
  have Ra_4 := heap_of (bal w3 (Obj.cells #[.int .u64 (u2 : Nat), .int .u64 (v2 : Nat)] 25)) _ _ _ Ra_3
  have Rb_4 := heap_of (bal w3 (Obj.cells #[.int .u64 (u2 : Nat), .int .u64 (v2 : Nat)] 25)) _ _ _ Rb_3
  have Rx_4 := heap_of (bal w3 (Obj.cells #[.int .u64 (u2 : Nat), .int .u64 (v2 : Nat)] 25)) _ _ _ Rx_3
  clear B3 Ra_3 ca_3_0 ca_3_1 Rb_3 cb_3_0 cb_3_1 Rx_3 cx_3_0 cx_3_1
  obtain ⟨ca_4_0, ca_4_1⟩ := cells2s Ra_4
  obtain ⟨cb_4_0, cb_4_1⟩ := cells2s Rb_4
  obtain ⟨cx_4_0, cx_4_1⟩ := cells2s Rx_4
  obtain ⟨cy_4_0, cy_4_1⟩ := cells2s Ry_4
  go_wp2_with fail
  refine (K3.out _ (fatB FF.out B4)).mono ?_
  rintro r w5 ⟨rfl, b5⟩
  have B5 : Below w.heap.size w w5 := btr B4 b5
  have Ra_5 := heap_of b5 _ _ _ Ra_4
  have Rb_5 := heap_of b5 _ _ _ Rb_4
  have Rx_5 := heap_of b5 _ _ _ Rx_4
  have Ry_5 := heap_of b5 _ _ _ Ry_4
  clear b5 B4 Ra_4 ca_4_0 ca_4_1 Rb_4 cb_4_0 cb_4_1 Rx_4 cx_4_0 cx_4_1 Ry_4 cy_4_0 cy_4_1
  obtain ⟨ca_5_0, ca_5_1⟩ := cells2s Ra_5
  obtain ⟨cb_5_0, cb_5_1⟩ := cells2s Rb_5
  obtain ⟨cx_5_0, cx_5_1⟩ := cells2s Rx_5
  obtain ⟨cy_5_0, cy_5_1⟩ := cells2s Ry_5
  have S6 := box B5.size
  have La_6 : Box (w.heap.size < w5.heap.size) := box (Array.getElem?_eq_some_iff.1 Ra_5).1
  have Lb_6 : Box (w.heap.size + 1 < w5.heap.size) := box (Array.getElem?_eq_some_iff.1 Rb_5).1
  have Lx_6 : Box (w1.heap.size < w5.heap.size) := box (Array.getElem?_eq_some_iff.1 Rx_5).1
  have Ly_6 : Box (w3.heap.size < w5.heap.size) := box (Array.getElem?_eq_some_iff.1 Ry_5).1
  have Rz_6 := heap_alloc_last w5 (Obj.cells #[.int .u64 (u3 : Nat), .int .u64 (v3 : Nat)] 25)
  have B6 := btr B5 (bal w5 (Obj.cells #[.int .u64 (u3 : Nat), .int .u64 (v3 : Nat)] 25))
  have Ra_6 := heap_of (bal w5 (Obj.cells #[.int .u64 (u3 : Nat), .int .u64 (v3 : Nat)] 25)) _ _ _ Ra_5
  have Rb_6 := heap_of (bal w5 (Obj.cells #[.int .u64 (u3 : Nat), .int .u64 (v3 : Nat)] 25)) _ _ _ Rb_5
  have Rx_6 := heap_of (bal w5 (Obj.cells #[.int .u64 (u3 : Nat), .int .u64 (v3 : Nat)] 25)) _ _ _ Rx_5
  have Ry_6 := heap_of (bal w5 (Obj.cells #[.int .u64 (u3 : Nat), .int .u64 (v3 : Nat)] 25)) _ _ _ Ry_5
  clear B5 Ra_5 ca_5_0 ca_5_1 Rb_5 cb_5_0 cb_5_1 Rx_5 cx_5_0 cx_5_1 Ry_5 cy_5_0 cy_5_1
  obtain ⟨ca_6_0, ca_6_1⟩ := cells2s Ra_6
  obtain ⟨cb_6_0, cb_6_1⟩ := cells2s Rb_6
  obtain ⟨cx_6_0, cx_6_1⟩ := cells2s Rx_6
  obtain ⟨cy_6_0, cy_6_1⟩ := cells2s Ry_6
  obtain ⟨cz_6_0, cz_6_1⟩ := cells2s Rz_6
  go_wp2_with fail
  refine (K4.out _ (fatB FF.out B6)).mono ?_
  rintro r w7 ⟨rfl, b7⟩
  have B7 : Below w.heap.size w w7 := btr B6 b7
  have Ra_7 := heap_of b7 _ _ _ Ra_6
  have Rb_7 := heap_of b7 _ _ _ Rb_6
  have Rx_7 := heap_of b7 _ _ _ Rx_6
  have Ry_7 := heap_of b7 _ _ _ Ry_6
  have Rz_7 := heap_of b7 _ _ _ Rz_6
  clear b7 B6 Ra_6 ca_6_0 ca_6_1 Rb_6 cb_6_0 cb_6_1 Rx_6 cx_6_0 cx_6_1 Ry_6 cy_6_0 cy_6_1 Rz_6 cz_6_0 cz_6_1
  obtain ⟨ca_7_0, ca_7_1⟩ := cells2s Ra_7
  obtain ⟨cb_7_0, cb_7_1⟩ := cells2s Rb_7
  obtain ⟨cx_7_0, cx_7_1⟩ := cells2s Rx_7
  obtain ⟨cy_7_0, cy_7_1⟩ := cells2s Ry_7
  obtain ⟨cz_7_0, cz_7_1⟩ := cells2s Rz_7
  have S8 := box B7.size
  have La_8 : Box (w.heap.size < w7.heap.size) := box (Array.getElem?_eq_some_iff.1 Ra_7).1
  have Lb_8 : Box (w.heap.size + 1 < w7.heap.size) := box (Array.getElem?_eq_some_iff.1 Rb_7).1
  have Lx_8 : Box (w1.heap.size < w7.heap.size) := box (Array.getElem?_eq_some_iff.1 Rx_7).1
  have Ly_8 : Box (w3.heap.size < w7.heap.size) := box (Array.getElem?_eq_some_iff.1 Ry_7).1
  have Lz_8 : Box (w5.heap.size < w7.heap.size) := box (Array.getElem?_eq_some_iff.1 Rz_7).1
  have Ru_8 := heap_alloc_last w7 (Obj.cells #[.int .u64 (x1 : Nat), .int .u64 (y1 : Nat)] 25)
  have B8 := btr B7 (bal w7 (Obj.cells #[.int .u64 (x1 : Nat), .int .u64 (y1 : Nat)] 25))
  have Ra_8 := heap_of (bal w7 (Obj.cells #[.int .u64 (x1 : Nat), .int .u64 (y1 : Nat)] 25)) _ _ _ Ra_7
  have Rb_8 := heap_of (bal w7 (Obj.cells #[.int .u64 (x1 : Nat), .int .u64 (y1 : Nat)] 25)) _ _ _ Rb_7
  have Rx_8 := heap_of (bal w7 (Obj.cells #[.int .u64 (x1 : Nat), .int .u64 (y1 : Nat)] 25)) _ _ _ Rx_7
  have Ry_8 := heap_of (bal w7 (Obj.cells #[.int .u64 (x1 : Nat), .int .u64 (y1 : Nat)] 25)) _ _ _ Ry_7
  have Rz_8 := heap_of (bal w7 (Obj.cells #[.int .u64 (x1 : Nat), .int .u64 (y1 : Nat)] 25)) _ _ _ Rz_7
  clear B7 Ra_7 ca_7_0 ca_7_1 Rb_7 cb_7_0 cb_7_1 Rx_7 cx_7_0 cx_7_1 Ry_7 cy_7_0 cy_7_1 Rz_7 cz_7_0 cz_7_1
  obtain ⟨ca_8_0, ca_8_1⟩ := cells2s Ra_8
  obtain ⟨cb_8_0, cb_8_1⟩ := cells2s Rb_8
  obtain ⟨cx_8_0, cx_8_1⟩ := cells2s Rx_8
  obtain ⟨cy_8_0, cy_8_1⟩ := cells2s Ry_8
  obtain ⟨cz_8_0, cz_8_1⟩ := cells2s Rz_8
  obtain ⟨cu_8_0, cu_8_1⟩ := cells2s Ru_8
  go_wp2_with fail
  refine (K5.out _ (fatB FF.out B8)).mono ?_
  rintro r w9 ⟨rfl, b9⟩
  have B9 : Below w.heap.size w w9 := btr B8 b9
  have Ra_9 := heap_of b9 _ _ _ Ra_8
  have Rb_9 := heap_of b9 _ _ _ Rb_8
  have Rx_9 := heap_of b9 _ _ _ Rx_8
  have Ry_9 := heap_of b9 _ _ _ Ry_8
  have Rz_9 := heap_of b9 _ _ _ Rz_8
  have Ru_9 := heap_of b9 _ _ _ Ru_8
  clear b9 B8 Ra_8 ca_8_0 ca_8_1 Rb_8 cb_8_0 cb_8_1 Rx_8 cx_8_0 cx_8_1 Ry_8 cy_8_0 cy_8_1 Rz_8 cz_8_0 cz_8_1 Ru_8 cu_8_0 cu_8_1
  obtain ⟨ca_9_0, ca_9_1⟩ := cells2s Ra_9
  obtain ⟨cb_9_0, cb_9_1⟩ := cells2s Rb_9
  obtain ⟨cx_9_0, cx_9_1⟩ := cells2s Rx_9
  obtain ⟨cy_9_0, cy_9_1⟩ := cells2s Ry_9
  obtain ⟨cz_9_0, cz_9_1⟩ := cells2s Rz_9
  obtain ⟨cu_9_0, cu_9_1⟩ := cells2s Ru_9
  go_wp2_with fail
  obtain ⟨F, hF1, hF2⟩ := below_fun w9
  have fa_0 := fun u => cells4 (heap_of (hF1 u) _ _ _ Ra_9) 0 _ rfl
  have fa_1 := fun u => cells4 (heap_of (hF1 u) _ _ _ Ra_9) 1 _ rfl
  have fb_0 := fun u => cells4 (heap_of (hF1 u) _ _ _ Rb_9) 0 _ rfl
  have fb_1 := fun u => cells4 (heap_of (hF1 u) _ _ _ Rb_9) 1 _ rfl
  have fx_0 := fun u => cells4 (heap_of (hF1 u) _ _ _ Rx_9) 0 _ rfl
  have fx_1 := fun u => cells4 (heap_of (hF1 u) _ _ _ Rx_9) 1 _ rfl
  have fy_0 := fun u => cells4 (heap_of (hF1 u) _ _ _ Ry_9) 0 _ rfl
  have fy_1 := fun u => cells4 (heap_of (hF1 u) _ _ _ Ry_9) 1 _ rfl
  have fz_0 := fun u => cells4 (heap_of (hF1 u) _ _ _ Rz_9) 0 _ rfl
  have fz_1 := fun u => cells4 (heap_of (hF1 u) _ _ _ Rz_9) 1 _ rfl
  have fu_0 := fun u => cells4 (heap_of (hF1 u) _ _ _ Ru_9) 0 _ rfl
  have fu_1 := fun u => cells4 (heap_of (hF1 u) _ _ _ Ru_9) 1 _ rfl
  have FG : Box (∀ u, FAt (F u)) := box (fun u => fatB FF.out (btr B9 (hF1 u)))
  refine wp_region_below F hF2 (by kernel_rfl) (by kernel_rfl) ?_
  repeat first | go_big_quiet_step (first | (go_at_call 19; exact quietF hF1 hF2 (K8.out _ (FG.out _))) | fail) | quiet_step (first | (go_at_call 19; exact quietF hF1 hF2 (K8.out _ (FG.out _))) | fail)
  refine wpQuiet_nil ?_
  rintro _ ⟨uW, rfl⟩
  have B10 := btr B9 (hF1 uW)
  have Ra_10 := heap_of (hF1 uW) _ _ _ Ra_9
  have Rb_10 := heap_of (hF1 uW) _ _ _ Rb_9
  have Rx_10 := heap_of (hF1 uW) _ _ _ Rx_9
  have Ry_10 := heap_of (hF1 uW) _ _ _ Ry_9
  have Rz_10 := heap_of (hF1 uW) _ _ _ Rz_9
  have Ru_10 := heap_of (hF1 uW) _ _ _ Ru_9
  obtain ⟨w10, hw⟩ : ∃ V, F uW = V := ⟨_, rfl⟩
  rw [hw] at B10 Ra_10 Rb_10 Rx_10 Ry_10 Rz_10 Ru_10
  try rw [hw]
  clear hw hF1 hF2 B9 fa_0 fa_1 fb_0 fb_1 fx_0 fx_1 fy_0 fy_1 fz_0 fz_1 fu_0 fu_1 Ra_9 ca_9_0 ca_9_1 Rb_9 cb_9_0 cb_9_1 Rx_9 cx_9_0 cx_9_1 Ry_9 cy_9_0 cy_9_1 Rz_9 cz_9_0 cz_9_1 Ru_9 cu_9_0 cu_9_1
  clear FG
  clear F
  obtain ⟨ca_10_0, ca_10_1⟩ := cells2s Ra_10
  obtain ⟨cb_10_0, cb_10_1⟩ := cells2s Rb_10
  obtain ⟨cx_10_0, cx_10_1⟩ := cells2s Rx_10
  obtain ⟨cy_10_0, cy_10_1⟩ := cells2s Ry_10
  obtain ⟨cz_10_0, cz_10_1⟩ := cells2s Rz_10
  obtain ⟨cu_10_0, cu_10_1⟩ := cells2s Ru_10
  go_wp2_with fail
  refine (K6.out _ (fatB FF.out B10)).mono ?_
  rintro r w11 ⟨rfl, b11⟩
  have B11 : Below w.heap.size w w11 := btr B10 b11
  have Ra_11 := heap_of b11 _ _ _ Ra_10
  have Rb_11 := heap_of b11 _ _ _ Rb_10
  have Rx_11 := heap_of b11 _ _ _ Rx_10
  have Ry_11 := heap_of b11 _ _ _ Ry_10
  have Rz_11 := heap_of b11 _ _ _ Rz_10
  have Ru_11 := heap_of b11 _ _ _ Ru_10
  clear b11 B10 Ra_10 ca_10_0 ca_10_1 Rb_10 cb_10_0 cb_10_1 Rx_10 cx_10_0 cx_10_1 Ry_10 cy_10_0 cy_10_1 Rz_10 cz_10_0 cz_10_1 Ru_10 cu_10_0 cu_10_1
  obtain ⟨ca_11_0, ca_11_1⟩ := cells2s Ra_11
  obtain ⟨cb_11_0, cb_11_1⟩ := cells2s Rb_11
  obtain ⟨cx_11_0, cx_11_1⟩ := cells2s Rx_11
  obtain ⟨cy_11_0, cy_11_1⟩ := cells2s Ry_11
  obtain ⟨cz_11_0, cz_11_1⟩ := cells2s Rz_11
  obtain ⟨cu_11_0, cu_11_1⟩ := cells2s Ru_11
  go_wp2_with fail
  refine (K7.out _ (fatB FF.out B11)).mono ?_
  rintro r w12 ⟨rfl, b12⟩
  have B12 : Below w.heap.size w w12 := btr B11 b12
  have Ra_12 := heap_of b12 _ _ _ Ra_11
  have Rb_12 := heap_of b12 _ _ _ Rb_11
  have Rx_12 := heap_of b12 _ _ _ Rx_11
  have Ry_12 := heap_of b12 _ _ _ Ry_11
  have Rz_12 := heap_of b12 _ _ _ Rz_11
  have Ru_12 := heap_of b12 _ _ _ Ru_11
  clear b12 B11 Ra_11 ca_11_0 ca_11_1 Rb_11 cb_11_0 cb_11_1 Rx_11 cx_11_0 cx_11_1 Ry_11 cy_11_0 cy_11_1 Rz_11 cz_11_0 cz_11_1 Ru_11 cu_11_0 cu_11_1
  obtain ⟨ca_12_0, ca_12_1⟩ := cells2s Ra_12
  obtain ⟨cb_12_0, cb_12_1⟩ := cells2s Rb_12
  obtain ⟨cx_12_0, cx_12_1⟩ := cells2s Rx_12
  obtain ⟨cy_12_0, cy_12_1⟩ := cells2s Ry_12
  obtain ⟨cz_12_0, cz_12_1⟩ := cells2s Rz_12
  obtain ⟨cu_12_0, cu_12_1⟩ := cells2s Ru_12
  have S13 := box B12.size
  have La_13 : Box (w.heap.size < w12.heap.size) := box (Array.getElem?_eq_some_iff.1 Ra_12).1
  have Lb_13 : Box (w.heap.size + 1 < w12.heap.size) := box (Array.getElem?_eq_some_iff.1 Rb_12).1
  have Lx_13 : Box (w1.heap.size < w12.heap.size) := box (Array.getElem?_eq_some_iff.1 Rx_12).1
  have Ly_13 : Box (w3.heap.size < w12.heap.size) := box (Array.getElem?_eq_some_iff.1 Ry_12).1
  have Lz_13 : Box (w5.heap.size < w12.heap.size) := box (Array.getElem?_eq_some_iff.1 Rz_12).1
  have Lu_13 : Box (w7.heap.size < w12.heap.size) := box (Array.getElem?_eq_some_iff.1 Ru_12).1
  have Rc_13 := heap_alloc_last w12 (Obj.cells #[.int .u64 (x1 : Nat), .int .u64 (y1 : Nat)] 25)
  have B13 := btr B12 (bal w12 (Obj.cells #[.int .u64 (x1 : Nat), .int .u64 (y1 : Nat)] 25))
  have Ra_13 := heap_of (bal w12 (Obj.cells #[.int .u64 (x1 : Nat), .int .u64 (y1 : Nat)] 25)) _ _ _ Ra_12
  have Rb_13 := heap_of (bal w12 (Obj.cells #[.int .u64 (x1 : Nat), .int .u64 (y1 : Nat)] 25)) _ _ _ Rb_12
  have Rx_13 := heap_of (bal w12 (Obj.cells #[.int .u64 (x1 : Nat), .int .u64 (y1 : Nat)] 25)) _ _ _ Rx_12
  have Ry_13 := heap_of (bal w12 (Obj.cells #[.int .u64 (x1 : Nat), .int .u64 (y1 : Nat)] 25)) _ _ _ Ry_12
  have Rz_13 := heap_of (bal w12 (Obj.cells #[.int .u64 (x1 : Nat), .int .u64 (y1 : Nat)] 25)) _ _ _ Rz_12
  have Ru_13 := heap_of (bal w12 (Obj.cells #[.int .u64 (x1 : Nat), .int .u64 (y1 : Nat)] 25)) _ _ _ Ru_12
  clear B12 Ra_12 ca_12_0 ca_12_1 Rb_12 cb_12_0 cb_12_1 Rx_12 cx_12_0 cx_12_1 Ry_12 cy_12_0 cy_12_1 Rz_12 cz_12_0 cz_12_1 Ru_12 cu_12_0 cu_12_1
  obtain ⟨ca_13_0, ca_13_1⟩ := cells2s Ra_13
  obtain ⟨cb_13_0, cb_13_1⟩ := cells2s Rb_13
  obtain ⟨cx_13_0, cx_13_1⟩ := cells2s Rx_13
  obtain ⟨cy_13_0, cy_13_1⟩ := cells2s Ry_13
  obtain ⟨cz_13_0, cz_13_1⟩ := cells2s Rz_13
  obtain ⟨cu_13_0, cu_13_1⟩ := cells2s Ru_13
  obtain ⟨cc_13_0, cc_13_1⟩ := cells2s Rc_13
  go_wp2_with fail
  refine (KA.out _ (fatB FF.out B13)).mono ?_
  rintro r w14 ⟨rfl, b14⟩
  have B14 : Below w.heap.size w w14 := btr B13 b14
  have Ra_14 := heap_of b14 _ _ _ Ra_13
  have Rb_14 := heap_of b14 _ _ _ Rb_13
  have Rx_14 := heap_of b14 _ _ _ Rx_13
  have Ry_14 := heap_of b14 _ _ _ Ry_13
  have Rz_14 := heap_of b14 _ _ _ Rz_13
  have Ru_14 := heap_of b14 _ _ _ Ru_13
  have Rc_14 := heap_of b14 _ _ _ Rc_13
  clear b14 B13 Ra_13 ca_13_0 ca_13_1 Rb_13 cb_13_0 cb_13_1 Rx_13 cx_13_0 cx_13_1 Ry_13 cy_13_0 cy_13_1 Rz_13 cz_13_0 cz_13_1 Ru_13 cu_13_0 cu_13_1 Rc_13 cc_13_0 cc_13_1
  obtain ⟨ca_14_0, ca_14_1⟩ := cells2s Ra_14
  obtain ⟨cb_14_0, cb_14_1⟩ := cells2s Rb_14
  obtain ⟨cx_14_0, cx_14_1⟩ := cells2s Rx_14
  obtain ⟨cy_14_0, cy_14_1⟩ := cells2s Ry_14
  obtain ⟨cz_14_0, cz_14_1⟩ := cells2s Rz_14
  obtain ⟨cu_14_0, cu_14_1⟩ := cells2s Ru_14
  obtain ⟨cc_14_0, cc_14_1⟩ := cells2s Rc_14
  go_wp2
  go_ret
  exact ⟨rfl, B14⟩
theorem al17 : wiB 2 15360 (kN 2 32768) = 48128 ∧ 2 ^ kC 2 32256 = 512 ∧ okB 2 15360 = true ∧ okB 2 32768 = true ∧ okB 2 32256 = true := by decide +kernel
set_option maxRecDepth 100000 in
set_option maxHeartbeats 8000000 in
theorem r17alive0 (K1 : Box (∀ w, FAt w → Calls Tryd.prog 6 #[.int .u8 2, .agg #[.int .u64 0, .int .u64 15360], .agg #[.int .u64 0, .int .u64 32768]] w fun r w' => r = .returned (.tuple #[.agg #[.int .u64 0, .int .u64 48128], .int .i64 0]) ∧ Below w.heap.size w w')) (K2 : Box (∀ w, FAt w → Calls Tryd.prog 13 #[.int .u8 2, .agg #[.int .u64 0, .int .u64 32256]] w fun r w' => r = .returned (.tuple #[.int .u64 512, .int .i64 0]) ∧ Below w.heap.size w w')) (w : World) (hT : FAt w) : Calls Tryd.prog 10 #[] w fun r w' => r = .returned (.bool true) ∧ Below w.heap.size w w' := by
  have FF := box hT
  clear hT
  have B0 : Below w.heap.size w w := (Below.refl _ _)
  go_enter Tryd.func10, Tryd.ntmps10
  go_wp2_with fail
  refine (K1.out _ (fatB FF.out B0)).mono ?_
  rintro r w1 ⟨rfl, b1⟩
  have B1 : Below w.heap.size w w1 := btr B0 b1
  clear b1 B0 
  have S2 := box B1.size
  have Rb_2 := heap_alloc_last w1 (Obj.cells #[.int .u64 0, .int .u64 48128] 25)
  have B2 := btr B1 (bal w1 (Obj.cells #[.int .u64 0, .int .u64 48128] 25))
  clear B1 
  obtain ⟨cb_2_0, cb_2_1⟩ := cells2s Rb_2
  go_wp2_with fail
  refine (K2.out _ (fatB FF.out B2)).mono ?_
  rintro r w3 ⟨rfl, b3⟩
  have B3 : Below w.heap.size w w3 := btr B2 b3
  have Rb_3 := heap_of b3 _ _ _ Rb_2
  clear b3 B2 Rb_2 cb_2_0 cb_2_1
  obtain ⟨cb_3_0, cb_3_1⟩ := cells2s Rb_3
  go_wp2
  go_ret
  exact ⟨rfl, B3⟩
theorem bv7_of {n u v : Nat} (h : bv7 n = (u, v)) (hn : n < 340282366920938463463374607431768211456) : u < 18446744073709551616 ∧ v < 18446744073709551616 ∧ v + 18446744073709551616 * u = n := by
  unfold bv7 at h
  cases h
  omega
theorem bv7_to {n x y : Nat} (hy : y < 18446744073709551616) (h : y + 18446744073709551616 * x = n) : bv7 n = (x, y) := by
  unfold bv7
  subst h
  congr 1 <;> omega
theorem fit_16 {f : Int} (hf : Is4 f) {n : Nat} (h : Fit f n) : n < 340282366920938463463374607431768211456 := by
  unfold Fit at h
  have : wV f ≤ 127 := by rcases hf with rfl | rfl | rfl | rfl <;> decide
  have := Nat.pow_le_pow_right (show 0 < 2 by decide) this
  have e : (2 : Nat) ^ 127 = 170141183460469231731687303715884105728 := by decide
  omega
theorem one_of10 (k : Nat) (h : k < 10) : (((2 ^ k : Nat) : Int) == 0) = false ∧ bits .and .u64 ((2 ^ k : Nat) : Int) (IntKind.u64.wrap (((2 ^ k : Nat) : Int) - 1)) = 0 ∧ decide (512 < ((2 ^ k : Nat) : Int)) = false := by
  rcases (by omega : k = 0 ∨ k = 1 ∨ k = 2 ∨ k = 3 ∨ k = 4 ∨ k = 5 ∨ k = 6 ∨ k = 7 ∨ k = 8 ∨ k = 9) with rfl | rfl | rfl | rfl | rfl | rfl | rfl | rfl | rfl | rfl <;> decide +kernel
theorem toW_lt {f : Int} (hf : Is4 f) (h3 : f ≠ 3) {n : Nat} (fit : Fit f n) : toW f n < 18446744073709551616 := by
  have := (w64_lim hf h3).1
  unfold Fit at fit
  unfold toW
  split <;> omega
theorem sback_all (f : Int) (h0 : 0 ≤ f) (x1 y1 a x2 y2 b : Nat) (hx1 : x1 < 18446744073709551616) (hy1 : y1 < 18446744073709551616) (ha : y1 + 18446744073709551616 * x1 = a) (hx2 : x2 < 18446744073709551616) (hy2 : y2 < 18446744073709551616) (hb : y2 + 18446744073709551616 * x2 = b)
    (SC : ∀ x1 y1 a x2 y2 b : Nat, x1 < 18446744073709551616 → y1 < 18446744073709551616 → y1 + 18446744073709551616 * x1 = a → x2 < 18446744073709551616 → y2 < 18446744073709551616 → y2 + 18446744073709551616 * x2 = b → okB f a = true → okB f b = true → ∀ u v, bv7 (wiB f a (kN f b)) = (u, v) → Box (∀ w, FAt w → Calls Tryd.prog 6 #[.int .u8 f, .agg #[.int .u64 (x1 : Nat), .int .u64 (y1 : Nat)], .agg #[.int .u64 (x2 : Nat), .int .u64 (y2 : Nat)]] w fun r w' => r = .returned (.tuple #[.agg #[.int .u64 (u : Nat), .int .u64 (v : Nat)], .int .i64 0]) ∧ Below w.heap.size w w'))
    (SN : ∀ x1 y1 a x2 y2 b : Nat, x1 < 18446744073709551616 → y1 < 18446744073709551616 → y1 + 18446744073709551616 * x1 = a → x2 < 18446744073709551616 → y2 < 18446744073709551616 → y2 + 18446744073709551616 * x2 = b → okB f a = true → okB f b = true → ∀ u v, bv7 (wiB f a (!kN f b)) = (u, v) → Box (∀ w, FAt w → Calls Tryd.prog 7 #[.int .u8 f, .agg #[.int .u64 (x1 : Nat), .int .u64 (y1 : Nat)], .agg #[.int .u64 (x2 : Nat), .int .u64 (y2 : Nat)]] w fun r w' => r = .returned (.tuple #[.agg #[.int .u64 (u : Nat), .int .u64 (v : Nat)], .int .i64 0]) ∧ Below w.heap.size w w'))
    (SX : ∀ x1 y1 a x2 y2 b : Nat, x1 < 18446744073709551616 → y1 < 18446744073709551616 → y1 + 18446744073709551616 * x1 = a → x2 < 18446744073709551616 → y2 < 18446744073709551616 → y2 + 18446744073709551616 * x2 = b → okB f a = true → okB f b = true → ∀ u v, bv7 (wiB f a (kN f a != kN f b)) = (u, v) → Box (∀ w, FAt w → Calls Tryd.prog 8 #[.int .u8 f, .agg #[.int .u64 (x1 : Nat), .int .u64 (y1 : Nat)], .agg #[.int .u64 (x2 : Nat), .int .u64 (y2 : Nat)]] w fun r w' => r = .returned (.tuple #[.agg #[.int .u64 (u : Nat), .int .u64 (v : Nat)], .int .i64 0]) ∧ Below w.heap.size w w'))
    (KE : ∀ x1 y1 a x2 y2 b : Nat, x1 < 18446744073709551616 → y1 < 18446744073709551616 → y1 + 18446744073709551616 * x1 = a → x2 < 18446744073709551616 → y2 < 18446744073709551616 → y2 + 18446744073709551616 * x2 = b → ¬ (okB f a = true ∧ okB f b = true) → Box (∀ w, FAt w → Calls Tryd.prog 6 #[.int .u8 f, .agg #[.int .u64 (x1 : Nat), .int .u64 (y1 : Nat)], .agg #[.int .u64 (x2 : Nat), .int .u64 (y2 : Nat)]] w fun r w' => r = .returned (.tuple #[.agg #[.int .u64 ((0 : Nat) : Int), .int .u64 ((0 : Nat) : Int)], .int .i64 2]) ∧ Below w.heap.size w w') ∧ Box (∀ w, FAt w → Calls Tryd.prog 7 #[.int .u8 f, .agg #[.int .u64 (x1 : Nat), .int .u64 (y1 : Nat)], .agg #[.int .u64 (x2 : Nat), .int .u64 (y2 : Nat)]] w fun r w' => r = .returned (.tuple #[.agg #[.int .u64 ((0 : Nat) : Int), .int .u64 ((0 : Nat) : Int)], .int .i64 2]) ∧ Below w.heap.size w w') ∧ Box (∀ w, FAt w → Calls Tryd.prog 8 #[.int .u8 f, .agg #[.int .u64 (x1 : Nat), .int .u64 (y1 : Nat)], .agg #[.int .u64 (x2 : Nat), .int .u64 (y2 : Nat)]] w fun r w' => r = .returned (.tuple #[.agg #[.int .u64 ((0 : Nat) : Int), .int .u64 ((0 : Nat) : Int)], .int .i64 2]) ∧ Below w.heap.size w w'))
    (C1 : okB f a = true → Box (∀ w, FAt w → Calls Tryd.prog 13 #[.int .u8 f, .agg #[.int .u64 (x1 : Nat), .int .u64 (y1 : Nat)]] w fun r w' => r = .returned (.tuple #[.int .u64 ((2 ^ kC f a : Nat) : Int), .int .i64 0]) ∧ Below w.heap.size w w'))
    (T1 : okB f a = true → f ≠ 3 → Box (∀ w, FAt w → Calls Tryd.prog 15 #[.int .u8 f, .agg #[.int .u64 (x1 : Nat), .int .u64 (y1 : Nat)]] w fun r w' => r = .returned (.tuple #[.int .u64 ((toW f a : Nat) : Int), .int .i64 0]) ∧ Below w.heap.size w w')) (T0 : f = 3 → Box (∀ w, FAt w → Calls Tryd.prog 15 #[.int .u8 f, .agg #[.int .u64 (x1 : Nat), .int .u64 (y1 : Nat)]] w fun r w' => r = .returned (.tuple #[.int .u64 ((0 : Nat) : Int), .int .i64 2]) ∧ Below w.heap.size w w'))
    (O1 : Is4 f → f ≠ 3 → ∀ x : Nat, x < 18446744073709551616 → Box (∀ w, FAt w → Calls Tryd.prog 17 #[.int .u8 f, .int .u64 (x : Nat)] w fun r w' => r = .returned (.tuple #[.agg #[.int .u64 ((0 : Nat) : Int), .int .u64 ((ofW f x : Nat) : Int)], .int .i64 0]) ∧ Below w.heap.size w w')) (O0 : f = 3 → ∀ x : Nat, x < 18446744073709551616 → Box (∀ w, FAt w → Calls Tryd.prog 17 #[.int .u8 f, .int .u64 (x : Nat)] w fun r w' => r = .returned (.tuple #[.agg #[.int .u64 ((0 : Nat) : Int), .int .u64 ((0 : Nat) : Int)], .int .i64 2]) ∧ Below w.heap.size w w'))
    (KF : okB f a = true → ∀ u v, bv7 (sgB f a true) = (u, v) → Box (∀ w, FAt w → Calls Tryd.prog 19 #[.int .u8 f, .agg #[.int .u64 (x1 : Nat), .int .u64 (y1 : Nat)]] w fun r w' => r = .returned (.agg #[.int .u64 (u : Nat), .int .u64 (v : Nat)]) ∧ Below w.heap.size w w'))
    (KA : Box (∀ w, FAt w → Calls Tryd.prog 10 #[] w fun r w' => r = .returned (.bool true) ∧ Below w.heap.size w w')) (w : World) (hT : FAt w) : Calls Tryd.prog 5 #[.int .u8 f, .agg #[.int .u64 (x1 : Nat), .int .u64 (y1 : Nat)], .agg #[.int .u64 (x2 : Nat), .int .u64 (y2 : Nat)]] w fun r w' => r = .returned (.bool true) ∧ Below w.heap.size w w' := by
  by_cases oa : okB f a = true
  · obtain ⟨hf, fit⟩ := okB_yes h0 oa
    obtain ⟨u2, v2, e2⟩ : ∃ u v, bv7 (wiB f a (!kN f a)) = (u, v) := ⟨_, _, rfl⟩
    have K1 := SC x1 y1 a x1 y1 a hx1 hy1 ha hx1 hy1 ha oa oa x1 y1 (by rw [wi_own]; exact bv7_to hy1 ha)
    have K2 := SN x1 y1 a x1 y1 a hx1 hy1 ha hx1 hy1 ha oa oa u2 v2 e2
    by_cases ob : okB f b = true
    · obtain ⟨u3, v3, e3⟩ : ∃ u v, bv7 (wiB f a (kN f a != kN f b)) = (u, v) := ⟨_, _, rfl⟩
      have K3 := SX x1 y1 a x2 y2 b hx1 hy1 ha hx2 hy2 hb oa ob u3 v3 e3
      have wf := wi_fit fit (kN f a != kN f b)
      obtain ⟨b1, b2, b3⟩ := bv7_of e3 (fit_16 hf wf.1)
      have oz : okB f (wiB f a (kN f a != kN f b)) = true := by
        unfold okB
        exact decide_eq_true ⟨by rcases hf with rfl | rfl | rfl | rfl <;> decide, wf.1⟩
      have K4 := SX u3 v3 _ x2 y2 b b1 b2 b3 hx2 hy2 hb oz ob x1 y1 (by rw [wi_xor fit]; exact bv7_to hy1 ha)
      have K8 := KF oa u2 v2 (by rw [← wi_not]; exact e2)
      obtain ⟨n0, n1, n2⟩ := one_of10 (kC f a) (kC_lt f a)
      by_cases h3 : f = 3
      · exact sb_q f (beq_iff_eq.2 h3) x1 y1 x2 y2 u2 v2 u3 v3 0 (2 ^ kC f a) 0 0 0 0 2 n0 n1 n2 w K1 K2 K3 K4 (C1 oa) (T0 h3) (O0 h3 0 (by decide)) K8 KA hT
      · have back := of_to hf h3 fit
        have lim := (w64_lim hf h3).1
        have az : x1 = 0 ∧ y1 = a := by
          have f1 : a < 2 * 2 ^ wV f := fit
          omega
        have O := O1 hf h3 (toW f a) (toW_lt hf h3 fit)
        rw [back] at O
        obtain ⟨rfl, rfl⟩ := az
        exact sb_ok f (beq_eq_false_iff_ne.2 h3) 0 y1 x2 y2 u2 v2 u3 v3 (toW f y1) (2 ^ kC f y1) 0 0 0 0 0 n0 n1 n2 w K1 K2 K3 K4 (C1 oa) (T1 oa h3) O K8 KA hT
    · obtain ⟨_, _, k3⟩ := KE x1 y1 a x2 y2 b hx1 hy1 ha hx2 hy2 hb (fun q => ob q.2)
      exact sb_e2 f x1 y1 x2 y2 x1 y1 u2 v2 0 0 0 0 w K1 K2 k3 KA hT
  · obtain ⟨k1, k2, _⟩ := KE x1 y1 a x1 y1 a hx1 hy1 ha hx1 hy1 ha (fun q => oa q.1)
    obtain ⟨_, _, k3⟩ := KE x1 y1 a x2 y2 b hx1 hy1 ha hx2 hy2 hb (fun q => oa q.1)
    exact sb_e1 f x1 y1 x2 y2 0 0 0 0 0 0 2 2 w k1 k2 k3 KA hT
end Go.Proofs.YtaengojkjfgppaaDoor
