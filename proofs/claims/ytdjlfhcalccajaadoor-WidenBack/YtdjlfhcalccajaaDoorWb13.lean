/-
  What the functions that the statement reaches return: part 13 (G9, GC).
-/
import Derived.Test.YtdjlfhcalccajaaDoorWb12
namespace Go.Proofs.YtdjlfhcalccajaaDoor
set_option maxRecDepth 100000
set_option maxHeartbeats 40000000
set_option maxRecDepth 100000
open Go.RowKit WMath
set_option linter.unusedSimpArgs false
set_option linter.unusedVariables false
theorem ebb_sh (a b : Int) : ebb a b a b = true := by unfold ebb; simp
set_option maxRecDepth 100000 in
set_option maxHeartbeats 8000000 in
theorem wb_e (t g m n : Int) (x1 y1 u v : Nat) (fl : Int) (w : World) (K1 : Box (∀ w, FAt w → Calls Tryd.prog 4 #[.int .u8 t, .int .u8 g, .int .u8 m, .agg #[.int .u64 (x1 : Nat), .int .u64 (y1 : Nat)]] w fun r w' => r = .returned (.tuple #[.agg #[.int .u64 (u : Nat), .int .u64 (v : Nat)], .int .u8 fl, .int .i64 2]) ∧ Below w.heap.size w w')) (KA : Box (∀ w, FAt w → Calls Tryd.prog 6 #[] w fun r w' => r = .returned (.bool true) ∧ Below w.heap.size w w')) (hT : FAt w) : Calls Tryd.prog 3 #[.int .u8 t, .int .u8 g, .int .u8 m, .int .u8 n, .agg #[.int .u64 (x1 : Nat), .int .u64 (y1 : Nat)]] w fun r w' => r = .returned (.bool true) ∧ Below w.heap.size w w' := by
  have FF := box hT
  clear hT
  obtain ⟨Ra_0, B0⟩ := opn1 w (Obj.cells #[.int .u64 (x1 : Nat), .int .u64 (y1 : Nat)] 26)
  go_enter Tryd.func3, Tryd.ntmps3
  obtain ⟨ca_0_0, ca_0_1⟩ := cells2s Ra_0
  go_wp2_with fail
  refine (K1.out _ (fatB FF.out B0)).mono ?_
  rintro r w1 ⟨rfl, b1⟩
  have B1 : Below w.heap.size w w1 := btr B0 b1
  have Ra_1 := heap_of b1 _ _ _ Ra_0
  clear b1 B0 Ra_0 ca_0_0 ca_0_1
  obtain ⟨ca_1_0, ca_1_1⟩ := cells2s Ra_1
  have S2 := box B1.size
  have La_2 : Box (w.heap.size < w1.heap.size) := box (Array.getElem?_eq_some_iff.1 Ra_1).1
  have Rx_2 := heap_alloc_last w1 (Obj.cells #[.int .u64 (u : Nat), .int .u64 (v : Nat)] 26)
  have B2 := btr B1 (bal w1 (Obj.cells #[.int .u64 (u : Nat), .int .u64 (v : Nat)] 26))
  have Ra_2 := heap_of (bal w1 (Obj.cells #[.int .u64 (u : Nat), .int .u64 (v : Nat)] 26)) _ _ _ Ra_1
  clear B1 Ra_1 ca_1_0 ca_1_1
  obtain ⟨ca_2_0, ca_2_1⟩ := cells2s Ra_2
  obtain ⟨cx_2_0, cx_2_1⟩ := cells2s Rx_2
  go_wp2_with fail
  refine (KA.out _ (fatB FF.out B2)).mono ?_
  rintro r w3 ⟨rfl, b3⟩
  have B3 : Below w.heap.size w w3 := btr B2 b3
  have Ra_3 := heap_of b3 _ _ _ Ra_2
  have Rx_3 := heap_of b3 _ _ _ Rx_2
  clear b3 B2 Ra_2 ca_2_0 ca_2_1 Rx_2 cx_2_0 cx_2_1
  obtain ⟨ca_3_0, ca_3_1⟩ := cells2s Ra_3
  obtain ⟨cx_3_0, cx_3_1⟩ := cells2s Rx_3
  go_wp2
  go_ret
  exact ⟨rfl, B3⟩
set_option maxRecDepth 100000 in
set_option maxHeartbeats 8000000 in
theorem wb_n (t g m n : Int) (x1 y1 u v : Nat) (fl : Int) (w : World) (K1 : Box (∀ w, FAt w → Calls Tryd.prog 4 #[.int .u8 t, .int .u8 g, .int .u8 m, .agg #[.int .u64 (x1 : Nat), .int .u64 (y1 : Nat)]] w fun r w' => r = .returned (.tuple #[.agg #[.int .u64 (u : Nat), .int .u64 (v : Nat)], .int .u8 fl, .int .i64 0]) ∧ Below w.heap.size w w')) (KM : Box (∀ w : World, Calls Tryd.prog 5 #[.int .u8 n] w fun r w' => r = .returned (.int .i64 2) ∧ w' = w)) (KA : Box (∀ w, FAt w → Calls Tryd.prog 6 #[] w fun r w' => r = .returned (.bool true) ∧ Below w.heap.size w w')) (hT : FAt w) : Calls Tryd.prog 3 #[.int .u8 t, .int .u8 g, .int .u8 m, .int .u8 n, .agg #[.int .u64 (x1 : Nat), .int .u64 (y1 : Nat)]] w fun r w' => r = .returned (.bool true) ∧ Below w.heap.size w w' := by
  have FF := box hT
  clear hT
  obtain ⟨Ra_0, B0⟩ := opn1 w (Obj.cells #[.int .u64 (x1 : Nat), .int .u64 (y1 : Nat)] 26)
  go_enter Tryd.func3, Tryd.ntmps3
  obtain ⟨ca_0_0, ca_0_1⟩ := cells2s Ra_0
  go_wp2_with fail
  refine (K1.out _ (fatB FF.out B0)).mono ?_
  rintro r w1 ⟨rfl, b1⟩
  have B1 : Below w.heap.size w w1 := btr B0 b1
  have Ra_1 := heap_of b1 _ _ _ Ra_0
  clear b1 B0 Ra_0 ca_0_0 ca_0_1
  obtain ⟨ca_1_0, ca_1_1⟩ := cells2s Ra_1
  have S2 := box B1.size
  have La_2 : Box (w.heap.size < w1.heap.size) := box (Array.getElem?_eq_some_iff.1 Ra_1).1
  have Rx_2 := heap_alloc_last w1 (Obj.cells #[.int .u64 (u : Nat), .int .u64 (v : Nat)] 26)
  have B2 := btr B1 (bal w1 (Obj.cells #[.int .u64 (u : Nat), .int .u64 (v : Nat)] 26))
  have Ra_2 := heap_of (bal w1 (Obj.cells #[.int .u64 (u : Nat), .int .u64 (v : Nat)] 26)) _ _ _ Ra_1
  clear B1 Ra_1 ca_1_0 ca_1_1
  obtain ⟨ca_2_0, ca_2_1⟩ := cells2s Ra_2
  obtain ⟨cx_2_0, cx_2_1⟩ := cells2s Rx_2
  go_wp2_with fail
  refine (KM.out _).mono ?_
  rintro r w' ⟨rfl, rfl⟩
  go_wp2_with fail
  refine (KA.out _ (fatB FF.out B2)).mono ?_
  rintro r w3 ⟨rfl, b3⟩
  have B3 : Below w.heap.size w w3 := btr B2 b3
  have Ra_3 := heap_of b3 _ _ _ Ra_2
  have Rx_3 := heap_of b3 _ _ _ Rx_2
  clear b3 B2 Ra_2 ca_2_0 ca_2_1 Rx_2 cx_2_0 cx_2_1
  obtain ⟨ca_3_0, ca_3_1⟩ := cells2s Ra_3
  obtain ⟨cx_3_0, cx_3_1⟩ := cells2s Rx_3
  go_wp2
  go_ret
  exact ⟨rfl, B3⟩
set_option maxRecDepth 100000 in
set_option maxHeartbeats 8000000 in
theorem wb_narrow_t (t g m n : Int) (x1 y1 u v u5 v5 c : Nat) (fl zl W1 W2 : Int) (hc : decide ((c : Int) < 8) = true) (hc2 : decide (8 ≤ (c : Int)) = false) (hw : decide (W1 < W2) = true) (w : World) (K1 : Box (∀ w, FAt w → Calls Tryd.prog 4 #[.int .u8 t, .int .u8 g, .int .u8 m, .agg #[.int .u64 (x1 : Nat), .int .u64 (y1 : Nat)]] w fun r w' => r = .returned (.tuple #[.agg #[.int .u64 (u : Nat), .int .u64 (v : Nat)], .int .u8 fl, .int .i64 0]) ∧ Below w.heap.size w w')) (KM : Box (∀ w : World, Calls Tryd.prog 5 #[.int .u8 n] w fun r w' => r = .returned (.int .i64 0) ∧ w' = w)) (KC : Box (∀ w, FAt w → Calls Tryd.prog 7 #[.int .u8 g, .agg #[.int .u64 (x1 : Nat), .int .u64 (y1 : Nat)]] w fun r w' => r = .returned (.tuple #[.int .u8 (c : Nat), .int .i64 0]) ∧ Below w.heap.size w w')) (KF : Box (∀ w, FAt w → Calls Tryd.prog 8 #[.int .u8 t, .int .u8 g, .agg #[.int .u64 (x1 : Nat), .int .u64 (y1 : Nat)]] w fun r w' => r = .returned (.tuple #[.bool true, .int .i64 0]) ∧ Below w.heap.size w w')) (K5 : Box (∀ w, FAt w → Calls Tryd.prog 4 #[.int .u8 t, .int .u8 g, .int .u8 1, .agg #[.int .u64 (x1 : Nat), .int .u64 (y1 : Nat)]] w fun r w' => r = .returned (.tuple #[.agg #[.int .u64 (u5 : Nat), .int .u64 (v5 : Nat)], .int .u8 0, .int .i64 0]) ∧ Below w.heap.size w w')) (KW1 : Box (∀ w, FAt w → Calls Tryd.prog 9 #[.int .u8 t] w fun r w' => r = .returned (.int .i64 W1) ∧ Below w.heap.size w w')) (KW2 : Box (∀ w, FAt w → Calls Tryd.prog 9 #[.int .u8 g] w fun r w' => r = .returned (.int .i64 W2) ∧ Below w.heap.size w w')) (KA : Box (∀ w, FAt w → Calls Tryd.prog 6 #[] w fun r w' => r = .returned (.bool true) ∧ Below w.heap.size w w')) (hT : FAt w) : Calls Tryd.prog 3 #[.int .u8 t, .int .u8 g, .int .u8 m, .int .u8 n, .agg #[.int .u64 (x1 : Nat), .int .u64 (y1 : Nat)]] w fun r w' => r = .returned (.bool true) ∧ Below w.heap.size w w' := by
  have FF := box hT
  clear hT
  obtain ⟨Ra_0, B0⟩ := opn1 w (Obj.cells #[.int .u64 (x1 : Nat), .int .u64 (y1 : Nat)] 26)
  go_enter Tryd.func3, Tryd.ntmps3
  obtain ⟨ca_0_0, ca_0_1⟩ := cells2s Ra_0
  go_wp2_with fail
  refine (K1.out _ (fatB FF.out B0)).mono ?_
  rintro r w1 ⟨rfl, b1⟩
  have B1 : Below w.heap.size w w1 := btr B0 b1
  have Ra_1 := heap_of b1 _ _ _ Ra_0
  clear b1 B0 Ra_0 ca_0_0 ca_0_1
  obtain ⟨ca_1_0, ca_1_1⟩ := cells2s Ra_1
  have S2 := box B1.size
  have La_2 : Box (w.heap.size < w1.heap.size) := box (Array.getElem?_eq_some_iff.1 Ra_1).1
  have Rx_2 := heap_alloc_last w1 (Obj.cells #[.int .u64 (u : Nat), .int .u64 (v : Nat)] 26)
  have B2 := btr B1 (bal w1 (Obj.cells #[.int .u64 (u : Nat), .int .u64 (v : Nat)] 26))
  have Ra_2 := heap_of (bal w1 (Obj.cells #[.int .u64 (u : Nat), .int .u64 (v : Nat)] 26)) _ _ _ Ra_1
  clear B1 Ra_1 ca_1_0 ca_1_1
  obtain ⟨ca_2_0, ca_2_1⟩ := cells2s Ra_2
  obtain ⟨cx_2_0, cx_2_1⟩ := cells2s Rx_2
  go_wp2_with fail
  refine (KM.out _).mono ?_
  rintro r w' ⟨rfl, rfl⟩
  go_wp2_with fail
  refine (KC.out _ (fatB FF.out B2)).mono ?_
  rintro r w3 ⟨rfl, b3⟩
  have B3 : Below w.heap.size w w3 := btr B2 b3
  have Ra_3 := heap_of b3 _ _ _ Ra_2
  have Rx_3 := heap_of b3 _ _ _ Rx_2
  clear b3 B2 Ra_2 ca_2_0 ca_2_1 Rx_2 cx_2_0 cx_2_1
  obtain ⟨ca_3_0, ca_3_1⟩ := cells2s Ra_3
  obtain ⟨cx_3_0, cx_3_1⟩ := cells2s Rx_3
  go_wp2_with fail
  refine (KF.out _ (fatB FF.out B3)).mono ?_
  rintro r w4 ⟨rfl, b4⟩
  have B4 : Below w.heap.size w w4 := btr B3 b4
  have Ra_4 := heap_of b4 _ _ _ Ra_3
  have Rx_4 := heap_of b4 _ _ _ Rx_3
  clear b4 B3 Ra_3 ca_3_0 ca_3_1 Rx_3 cx_3_0 cx_3_1
  obtain ⟨ca_4_0, ca_4_1⟩ := cells2s Ra_4
  obtain ⟨cx_4_0, cx_4_1⟩ := cells2s Rx_4
  go_wp2_with fail
  refine (K5.out _ (fatB FF.out B4)).mono ?_
  rintro r w5 ⟨rfl, b5⟩
  have B5 : Below w.heap.size w w5 := btr B4 b5
  have Ra_5 := heap_of b5 _ _ _ Ra_4
  have Rx_5 := heap_of b5 _ _ _ Rx_4
  clear b5 B4 Ra_4 ca_4_0 ca_4_1 Rx_4 cx_4_0 cx_4_1
  obtain ⟨ca_5_0, ca_5_1⟩ := cells2s Ra_5
  obtain ⟨cx_5_0, cx_5_1⟩ := cells2s Rx_5
  have S6 := box B5.size
  have La_6 : Box (w.heap.size < w5.heap.size) := box (Array.getElem?_eq_some_iff.1 Ra_5).1
  have Lx_6 : Box (w1.heap.size < w5.heap.size) := box (Array.getElem?_eq_some_iff.1 Rx_5).1
  have Rq_6 := heap_alloc_last w5 (Obj.cells #[.int .u64 (u5 : Nat), .int .u64 (v5 : Nat)] 26)
  have B6 := btr B5 (bal w5 (Obj.cells #[.int .u64 (u5 : Nat), .int .u64 (v5 : Nat)] 26))
  have Ra_6 := heap_of (bal w5 (Obj.cells #[.int .u64 (u5 : Nat), .int .u64 (v5 : Nat)] 26)) _ _ _ Ra_5
  have Rx_6 := heap_of (bal w5 (Obj.cells #[.int .u64 (u5 : Nat), .int .u64 (v5 : Nat)] 26)) _ _ _ Rx_5
  clear B5 Ra_5 ca_5_0 ca_5_1 Rx_5 cx_5_0 cx_5_1
  obtain ⟨ca_6_0, ca_6_1⟩ := cells2s Ra_6
  obtain ⟨cx_6_0, cx_6_1⟩ := cells2s Rx_6
  obtain ⟨cq_6_0, cq_6_1⟩ := cells2s Rq_6
  go_wp2_with fail
  refine (KW1.out _ (fatB FF.out B6)).mono ?_
  rintro r w7 ⟨rfl, b7⟩
  have B7 : Below w.heap.size w w7 := btr B6 b7
  have Ra_7 := heap_of b7 _ _ _ Ra_6
  have Rx_7 := heap_of b7 _ _ _ Rx_6
  have Rq_7 := heap_of b7 _ _ _ Rq_6
  clear b7 B6 Ra_6 ca_6_0 ca_6_1 Rx_6 cx_6_0 cx_6_1 Rq_6 cq_6_0 cq_6_1
  obtain ⟨ca_7_0, ca_7_1⟩ := cells2s Ra_7
  obtain ⟨cx_7_0, cx_7_1⟩ := cells2s Rx_7
  obtain ⟨cq_7_0, cq_7_1⟩ := cells2s Rq_7
  go_wp2_with fail
  refine (KW2.out _ (fatB FF.out B7)).mono ?_
  rintro r w8 ⟨rfl, b8⟩
  have B8 : Below w.heap.size w w8 := btr B7 b8
  have Ra_8 := heap_of b8 _ _ _ Ra_7
  have Rx_8 := heap_of b8 _ _ _ Rx_7
  have Rq_8 := heap_of b8 _ _ _ Rq_7
  clear b8 B7 Ra_7 ca_7_0 ca_7_1 Rx_7 cx_7_0 cx_7_1 Rq_7 cq_7_0 cq_7_1
  obtain ⟨ca_8_0, ca_8_1⟩ := cells2s Ra_8
  obtain ⟨cx_8_0, cx_8_1⟩ := cells2s Rx_8
  obtain ⟨cq_8_0, cq_8_1⟩ := cells2s Rq_8
  go_wp2_with fail
  refine (KA.out _ (fatB FF.out B8)).mono ?_
  rintro r w9 ⟨rfl, b9⟩
  have B9 : Below w.heap.size w w9 := btr B8 b9
  have Ra_9 := heap_of b9 _ _ _ Ra_8
  have Rx_9 := heap_of b9 _ _ _ Rx_8
  have Rq_9 := heap_of b9 _ _ _ Rq_8
  clear b9 B8 Ra_8 ca_8_0 ca_8_1 Rx_8 cx_8_0 cx_8_1 Rq_8 cq_8_0 cq_8_1
  obtain ⟨ca_9_0, ca_9_1⟩ := cells2s Ra_9
  obtain ⟨cx_9_0, cx_9_1⟩ := cells2s Rx_9
  obtain ⟨cq_9_0, cq_9_1⟩ := cells2s Rq_9
  go_wp2
  go_ret
  exact ⟨rfl, B9⟩
set_option maxRecDepth 100000 in
set_option maxHeartbeats 8000000 in
theorem wb_narrow_f (t g m n : Int) (x1 y1 u v u5 v5 c : Nat) (fl zl W1 W2 : Int) (hc : decide ((c : Int) < 8) = true) (hc2 : decide (8 ≤ (c : Int)) = false) (hz : (zl == 0) = false) (hw : decide (W1 < W2) = true) (w : World) (K1 : Box (∀ w, FAt w → Calls Tryd.prog 4 #[.int .u8 t, .int .u8 g, .int .u8 m, .agg #[.int .u64 (x1 : Nat), .int .u64 (y1 : Nat)]] w fun r w' => r = .returned (.tuple #[.agg #[.int .u64 (u : Nat), .int .u64 (v : Nat)], .int .u8 fl, .int .i64 0]) ∧ Below w.heap.size w w')) (KM : Box (∀ w : World, Calls Tryd.prog 5 #[.int .u8 n] w fun r w' => r = .returned (.int .i64 0) ∧ w' = w)) (KC : Box (∀ w, FAt w → Calls Tryd.prog 7 #[.int .u8 g, .agg #[.int .u64 (x1 : Nat), .int .u64 (y1 : Nat)]] w fun r w' => r = .returned (.tuple #[.int .u8 (c : Nat), .int .i64 0]) ∧ Below w.heap.size w w')) (KF : Box (∀ w, FAt w → Calls Tryd.prog 8 #[.int .u8 t, .int .u8 g, .agg #[.int .u64 (x1 : Nat), .int .u64 (y1 : Nat)]] w fun r w' => r = .returned (.tuple #[.bool false, .int .i64 0]) ∧ Below w.heap.size w w')) (K5 : Box (∀ w, FAt w → Calls Tryd.prog 4 #[.int .u8 t, .int .u8 g, .int .u8 1, .agg #[.int .u64 (x1 : Nat), .int .u64 (y1 : Nat)]] w fun r w' => r = .returned (.tuple #[.agg #[.int .u64 (u5 : Nat), .int .u64 (v5 : Nat)], .int .u8 zl, .int .i64 0]) ∧ Below w.heap.size w w')) (KW1 : Box (∀ w, FAt w → Calls Tryd.prog 9 #[.int .u8 t] w fun r w' => r = .returned (.int .i64 W1) ∧ Below w.heap.size w w')) (KW2 : Box (∀ w, FAt w → Calls Tryd.prog 9 #[.int .u8 g] w fun r w' => r = .returned (.int .i64 W2) ∧ Below w.heap.size w w')) (KA : Box (∀ w, FAt w → Calls Tryd.prog 6 #[] w fun r w' => r = .returned (.bool true) ∧ Below w.heap.size w w')) (hT : FAt w) : Calls Tryd.prog 3 #[.int .u8 t, .int .u8 g, .int .u8 m, .int .u8 n, .agg #[.int .u64 (x1 : Nat), .int .u64 (y1 : Nat)]] w fun r w' => r = .returned (.bool true) ∧ Below w.heap.size w w' := by
  have FF := box hT
  clear hT
  obtain ⟨Ra_0, B0⟩ := opn1 w (Obj.cells #[.int .u64 (x1 : Nat), .int .u64 (y1 : Nat)] 26)
  go_enter Tryd.func3, Tryd.ntmps3
  obtain ⟨ca_0_0, ca_0_1⟩ := cells2s Ra_0
  go_wp2_with fail
  refine (K1.out _ (fatB FF.out B0)).mono ?_
  rintro r w1 ⟨rfl, b1⟩
  have B1 : Below w.heap.size w w1 := btr B0 b1
  have Ra_1 := heap_of b1 _ _ _ Ra_0
  clear b1 B0 Ra_0 ca_0_0 ca_0_1
  obtain ⟨ca_1_0, ca_1_1⟩ := cells2s Ra_1
  have S2 := box B1.size
  have La_2 : Box (w.heap.size < w1.heap.size) := box (Array.getElem?_eq_some_iff.1 Ra_1).1
  have Rx_2 := heap_alloc_last w1 (Obj.cells #[.int .u64 (u : Nat), .int .u64 (v : Nat)] 26)
  have B2 := btr B1 (bal w1 (Obj.cells #[.int .u64 (u : Nat), .int .u64 (v : Nat)] 26))
  have Ra_2 := heap_of (bal w1 (Obj.cells #[.int .u64 (u : Nat), .int .u64 (v : Nat)] 26)) _ _ _ Ra_1
  clear B1 Ra_1 ca_1_0 ca_1_1
  obtain ⟨ca_2_0, ca_2_1⟩ := cells2s Ra_2
  obtain ⟨cx_2_0, cx_2_1⟩ := cells2s Rx_2
  go_wp2_with fail
  refine (KM.out _).mono ?_
  rintro r w' ⟨rfl, rfl⟩
  go_wp2_with fail
  refine (KC.out _ (fatB FF.out B2)).mono ?_
  rintro r w3 ⟨rfl, b3⟩
  have B3 : Below w.heap.size w w3 := btr B2 b3
  have Ra_3 := heap_of b3 _ _ _ Ra_2
  have Rx_3 := heap_of b3 _ _ _ Rx_2
  clear b3 B2 Ra_2 ca_2_0 ca_2_1 Rx_2 cx_2_0 cx_2_1
  obtain ⟨ca_3_0, ca_3_1⟩ := cells2s Ra_3
  obtain ⟨cx_3_0, cx_3_1⟩ := cells2s Rx_3
  go_wp2_with fail
  refine (KF.out _ (fatB FF.out B3)).mono ?_
  rintro r w4 ⟨rfl, b4⟩
  have B4 : Below w.heap.size w w4 := btr B3 b4
  have Ra_4 := heap_of b4 _ _ _ Ra_3
  have Rx_4 := heap_of b4 _ _ _ Rx_3
  clear b4 B3 Ra_3 ca_3_0 ca_3_1 Rx_3 cx_3_0 cx_3_1
  obtain ⟨ca_4_0, ca_4_1⟩ := cells2s Ra_4
  obtain ⟨cx_4_0, cx_4_1⟩ := cells2s Rx_4
  go_wp2_with fail
  refine (K5.out _ (fatB FF.out B4)).mono ?_
  rintro r w5 ⟨rfl, b5⟩
  have B5 : Below w.heap.size w w5 := btr B4 b5
  have Ra_5 := heap_of b5 _ _ _ Ra_4
  have Rx_5 := heap_of b5 _ _ _ Rx_4
  clear b5 B4 Ra_4 ca_4_0 ca_4_1 Rx_4 cx_4_0 cx_4_1
  obtain ⟨ca_5_0, ca_5_1⟩ := cells2s Ra_5
  obtain ⟨cx_5_0, cx_5_1⟩ := cells2s Rx_5
  have S6 := box B5.size
  have La_6 : Box (w.heap.size < w5.heap.size) := box (Array.getElem?_eq_some_iff.1 Ra_5).1
  have Lx_6 : Box (w1.heap.size < w5.heap.size) := box (Array.getElem?_eq_some_iff.1 Rx_5).1
  have Rq_6 := heap_alloc_last w5 (Obj.cells #[.int .u64 (u5 : Nat), .int .u64 (v5 : Nat)] 26)
  have B6 := btr B5 (bal w5 (Obj.cells #[.int .u64 (u5 : Nat), .int .u64 (v5 : Nat)] 26))
  have Ra_6 := heap_of (bal w5 (Obj.cells #[.int .u64 (u5 : Nat), .int .u64 (v5 : Nat)] 26)) _ _ _ Ra_5
  have Rx_6 := heap_of (bal w5 (Obj.cells #[.int .u64 (u5 : Nat), .int .u64 (v5 : Nat)] 26)) _ _ _ Rx_5
  clear B5 Ra_5 ca_5_0 ca_5_1 Rx_5 cx_5_0 cx_5_1
  obtain ⟨ca_6_0, ca_6_1⟩ := cells2s Ra_6
  obtain ⟨cx_6_0, cx_6_1⟩ := cells2s Rx_6
  obtain ⟨cq_6_0, cq_6_1⟩ := cells2s Rq_6
  go_wp2_with fail
  refine (KW1.out _ (fatB FF.out B6)).mono ?_
  rintro r w7 ⟨rfl, b7⟩
  have B7 : Below w.heap.size w w7 := btr B6 b7
  have Ra_7 := heap_of b7 _ _ _ Ra_6
  have Rx_7 := heap_of b7 _ _ _ Rx_6
  have Rq_7 := heap_of b7 _ _ _ Rq_6
  clear b7 B6 Ra_6 ca_6_0 ca_6_1 Rx_6 cx_6_0 cx_6_1 Rq_6 cq_6_0 cq_6_1
  obtain ⟨ca_7_0, ca_7_1⟩ := cells2s Ra_7
  obtain ⟨cx_7_0, cx_7_1⟩ := cells2s Rx_7
  obtain ⟨cq_7_0, cq_7_1⟩ := cells2s Rq_7
  go_wp2_with fail
  refine (KW2.out _ (fatB FF.out B7)).mono ?_
  rintro r w8 ⟨rfl, b8⟩
  have B8 : Below w.heap.size w w8 := btr B7 b8
  have Ra_8 := heap_of b8 _ _ _ Ra_7
  have Rx_8 := heap_of b8 _ _ _ Rx_7
  have Rq_8 := heap_of b8 _ _ _ Rq_7
  clear b8 B7 Ra_7 ca_7_0 ca_7_1 Rx_7 cx_7_0 cx_7_1 Rq_7 cq_7_0 cq_7_1
  obtain ⟨ca_8_0, ca_8_1⟩ := cells2s Ra_8
  obtain ⟨cx_8_0, cx_8_1⟩ := cells2s Rx_8
  obtain ⟨cq_8_0, cq_8_1⟩ := cells2s Rq_8
  go_wp2_with fail
  refine (KA.out _ (fatB FF.out B8)).mono ?_
  rintro r w9 ⟨rfl, b9⟩
  have B9 : Below w.heap.size w w9 := btr B8 b9
  have Ra_9 := heap_of b9 _ _ _ Ra_8
  have Rx_9 := heap_of b9 _ _ _ Rx_8
  have Rq_9 := heap_of b9 _ _ _ Rq_8
  clear b9 B8 Ra_8 ca_8_0 ca_8_1 Rx_8 cx_8_0 cx_8_1 Rq_8 cq_8_0 cq_8_1
  obtain ⟨ca_9_0, ca_9_1⟩ := cells2s Ra_9
  obtain ⟨cx_9_0, cx_9_1⟩ := cells2s Rx_9
  obtain ⟨cq_9_0, cq_9_1⟩ := cells2s Rq_9
  go_wp2
  go_ret
  exact ⟨rfl, B9⟩
set_option maxRecDepth 100000 in
set_option maxHeartbeats 8000000 in
theorem wb_narrow_n (t g m n : Int) (x1 y1 u v u5 v5 c : Nat) (fl zl W1 W2 : Int) (hc : decide ((c : Int) < 8) = false) (hc2 : decide (8 ≤ (c : Int)) = true) (hw : decide (W1 < W2) = true) (w : World) (K1 : Box (∀ w, FAt w → Calls Tryd.prog 4 #[.int .u8 t, .int .u8 g, .int .u8 m, .agg #[.int .u64 (x1 : Nat), .int .u64 (y1 : Nat)]] w fun r w' => r = .returned (.tuple #[.agg #[.int .u64 (u : Nat), .int .u64 (v : Nat)], .int .u8 fl, .int .i64 0]) ∧ Below w.heap.size w w')) (KM : Box (∀ w : World, Calls Tryd.prog 5 #[.int .u8 n] w fun r w' => r = .returned (.int .i64 0) ∧ w' = w)) (KC : Box (∀ w, FAt w → Calls Tryd.prog 7 #[.int .u8 g, .agg #[.int .u64 (x1 : Nat), .int .u64 (y1 : Nat)]] w fun r w' => r = .returned (.tuple #[.int .u8 (c : Nat), .int .i64 0]) ∧ Below w.heap.size w w')) (KF : Box (∀ w, FAt w → Calls Tryd.prog 8 #[.int .u8 t, .int .u8 g, .agg #[.int .u64 (x1 : Nat), .int .u64 (y1 : Nat)]] w fun r w' => r = .returned (.tuple #[.bool false, .int .i64 0]) ∧ Below w.heap.size w w')) (K5 : Box (∀ w, FAt w → Calls Tryd.prog 4 #[.int .u8 t, .int .u8 g, .int .u8 1, .agg #[.int .u64 (x1 : Nat), .int .u64 (y1 : Nat)]] w fun r w' => r = .returned (.tuple #[.agg #[.int .u64 (u5 : Nat), .int .u64 (v5 : Nat)], .int .u8 zl, .int .i64 0]) ∧ Below w.heap.size w w')) (KW1 : Box (∀ w, FAt w → Calls Tryd.prog 9 #[.int .u8 t] w fun r w' => r = .returned (.int .i64 W1) ∧ Below w.heap.size w w')) (KW2 : Box (∀ w, FAt w → Calls Tryd.prog 9 #[.int .u8 g] w fun r w' => r = .returned (.int .i64 W2) ∧ Below w.heap.size w w')) (KA : Box (∀ w, FAt w → Calls Tryd.prog 6 #[] w fun r w' => r = .returned (.bool true) ∧ Below w.heap.size w w')) (hT : FAt w) : Calls Tryd.prog 3 #[.int .u8 t, .int .u8 g, .int .u8 m, .int .u8 n, .agg #[.int .u64 (x1 : Nat), .int .u64 (y1 : Nat)]] w fun r w' => r = .returned (.bool true) ∧ Below w.heap.size w w' := by
  have FF := box hT
  clear hT
  obtain ⟨Ra_0, B0⟩ := opn1 w (Obj.cells #[.int .u64 (x1 : Nat), .int .u64 (y1 : Nat)] 26)
  go_enter Tryd.func3, Tryd.ntmps3
  obtain ⟨ca_0_0, ca_0_1⟩ := cells2s Ra_0
  go_wp2_with fail
  refine (K1.out _ (fatB FF.out B0)).mono ?_
  rintro r w1 ⟨rfl, b1⟩
  have B1 : Below w.heap.size w w1 := btr B0 b1
  have Ra_1 := heap_of b1 _ _ _ Ra_0
  clear b1 B0 Ra_0 ca_0_0 ca_0_1
  obtain ⟨ca_1_0, ca_1_1⟩ := cells2s Ra_1
  have S2 := box B1.size
  have La_2 : Box (w.heap.size < w1.heap.size) := box (Array.getElem?_eq_some_iff.1 Ra_1).1
  have Rx_2 := heap_alloc_last w1 (Obj.cells #[.int .u64 (u : Nat), .int .u64 (v : Nat)] 26)
  have B2 := btr B1 (bal w1 (Obj.cells #[.int .u64 (u : Nat), .int .u64 (v : Nat)] 26))
  have Ra_2 := heap_of (bal w1 (Obj.cells #[.int .u64 (u : Nat), .int .u64 (v : Nat)] 26)) _ _ _ Ra_1
  clear B1 Ra_1 ca_1_0 ca_1_1
  obtain ⟨ca_2_0, ca_2_1⟩ := cells2s Ra_2
  obtain ⟨cx_2_0, cx_2_1⟩ := cells2s Rx_2
  go_wp2_with fail
  refine (KM.out _).mono ?_
  rintro r w' ⟨rfl, rfl⟩
  go_wp2_with fail
  refine (KC.out _ (fatB FF.out B2)).mono ?_
  rintro r w3 ⟨rfl, b3⟩
  have B3 : Below w.heap.size w w3 := btr B2 b3
  have Ra_3 := heap_of b3 _ _ _ Ra_2
  have Rx_3 := heap_of b3 _ _ _ Rx_2
  clear b3 B2 Ra_2 ca_2_0 ca_2_1 Rx_2 cx_2_0 cx_2_1
  obtain ⟨ca_3_0, ca_3_1⟩ := cells2s Ra_3
  obtain ⟨cx_3_0, cx_3_1⟩ := cells2s Rx_3
  go_wp2_with fail
  refine (KF.out _ (fatB FF.out B3)).mono ?_
  rintro r w4 ⟨rfl, b4⟩
  have B4 : Below w.heap.size w w4 := btr B3 b4
  have Ra_4 := heap_of b4 _ _ _ Ra_3
  have Rx_4 := heap_of b4 _ _ _ Rx_3
  clear b4 B3 Ra_3 ca_3_0 ca_3_1 Rx_3 cx_3_0 cx_3_1
  obtain ⟨ca_4_0, ca_4_1⟩ := cells2s Ra_4
  obtain ⟨cx_4_0, cx_4_1⟩ := cells2s Rx_4
  go_wp2_with fail
  refine (K5.out _ (fatB FF.out B4)).mono ?_
  rintro r w5 ⟨rfl, b5⟩
  have B5 : Below w.heap.size w w5 := btr B4 b5
  have Ra_5 := heap_of b5 _ _ _ Ra_4
  have Rx_5 := heap_of b5 _ _ _ Rx_4
  clear b5 B4 Ra_4 ca_4_0 ca_4_1 Rx_4 cx_4_0 cx_4_1
  obtain ⟨ca_5_0, ca_5_1⟩ := cells2s Ra_5
  obtain ⟨cx_5_0, cx_5_1⟩ := cells2s Rx_5
  have S6 := box B5.size
  have La_6 : Box (w.heap.size < w5.heap.size) := box (Array.getElem?_eq_some_iff.1 Ra_5).1
  have Lx_6 : Box (w1.heap.size < w5.heap.size) := box (Array.getElem?_eq_some_iff.1 Rx_5).1
  have Rq_6 := heap_alloc_last w5 (Obj.cells #[.int .u64 (u5 : Nat), .int .u64 (v5 : Nat)] 26)
  have B6 := btr B5 (bal w5 (Obj.cells #[.int .u64 (u5 : Nat), .int .u64 (v5 : Nat)] 26))
  have Ra_6 := heap_of (bal w5 (Obj.cells #[.int .u64 (u5 : Nat), .int .u64 (v5 : Nat)] 26)) _ _ _ Ra_5
  have Rx_6 := heap_of (bal w5 (Obj.cells #[.int .u64 (u5 : Nat), .int .u64 (v5 : Nat)] 26)) _ _ _ Rx_5
  clear B5 Ra_5 ca_5_0 ca_5_1 Rx_5 cx_5_0 cx_5_1
  obtain ⟨ca_6_0, ca_6_1⟩ := cells2s Ra_6
  obtain ⟨cx_6_0, cx_6_1⟩ := cells2s Rx_6
  obtain ⟨cq_6_0, cq_6_1⟩ := cells2s Rq_6
  go_wp2_with fail
  refine (KW1.out _ (fatB FF.out B6)).mono ?_
  rintro r w7 ⟨rfl, b7⟩
  have B7 : Below w.heap.size w w7 := btr B6 b7
  have Ra_7 := heap_of b7 _ _ _ Ra_6
  have Rx_7 := heap_of b7 _ _ _ Rx_6
  have Rq_7 := heap_of b7 _ _ _ Rq_6
  clear b7 B6 Ra_6 ca_6_0 ca_6_1 Rx_6 cx_6_0 cx_6_1 Rq_6 cq_6_0 cq_6_1
  obtain ⟨ca_7_0, ca_7_1⟩ := cells2s Ra_7
  obtain ⟨cx_7_0, cx_7_1⟩ := cells2s Rx_7
  obtain ⟨cq_7_0, cq_7_1⟩ := cells2s Rq_7
  go_wp2_with fail
  refine (KW2.out _ (fatB FF.out B7)).mono ?_
  rintro r w8 ⟨rfl, b8⟩
  have B8 : Below w.heap.size w w8 := btr B7 b8
  have Ra_8 := heap_of b8 _ _ _ Ra_7
  have Rx_8 := heap_of b8 _ _ _ Rx_7
  have Rq_8 := heap_of b8 _ _ _ Rq_7
  clear b8 B7 Ra_7 ca_7_0 ca_7_1 Rx_7 cx_7_0 cx_7_1 Rq_7 cq_7_0 cq_7_1
  obtain ⟨ca_8_0, ca_8_1⟩ := cells2s Ra_8
  obtain ⟨cx_8_0, cx_8_1⟩ := cells2s Rx_8
  obtain ⟨cq_8_0, cq_8_1⟩ := cells2s Rq_8
  go_wp2_with fail
  refine (KA.out _ (fatB FF.out B8)).mono ?_
  rintro r w9 ⟨rfl, b9⟩
  have B9 : Below w.heap.size w w9 := btr B8 b9
  have Ra_9 := heap_of b9 _ _ _ Ra_8
  have Rx_9 := heap_of b9 _ _ _ Rx_8
  have Rq_9 := heap_of b9 _ _ _ Rq_8
  clear b9 B8 Ra_8 ca_8_0 ca_8_1 Rx_8 cx_8_0 cx_8_1 Rq_8 cq_8_0 cq_8_1
  obtain ⟨ca_9_0, ca_9_1⟩ := cells2s Ra_9
  obtain ⟨cx_9_0, cx_9_1⟩ := cells2s Rx_9
  obtain ⟨cq_9_0, cq_9_1⟩ := cells2s Rq_9
  go_wp2
  go_ret
  exact ⟨rfl, B9⟩
set_option maxRecDepth 100000 in
set_option maxHeartbeats 8000000 in
theorem wb_num (t g m n : Int) (x1 y1 u v u5 v5 c : Nat) (fl zl W1 W2 : Int) (hc : decide ((c : Int) < 8) = true) (hc2 : decide (8 ≤ (c : Int)) = false) (hc8 : ((c : Int) == 8) = false) (hw : decide (W1 < W2) = false) (w : World) (K1 : Box (∀ w, FAt w → Calls Tryd.prog 4 #[.int .u8 t, .int .u8 g, .int .u8 m, .agg #[.int .u64 (x1 : Nat), .int .u64 (y1 : Nat)]] w fun r w' => r = .returned (.tuple #[.agg #[.int .u64 (u : Nat), .int .u64 (v : Nat)], .int .u8 0, .int .i64 0]) ∧ Below w.heap.size w w')) (KM : Box (∀ w : World, Calls Tryd.prog 5 #[.int .u8 n] w fun r w' => r = .returned (.int .i64 0) ∧ w' = w)) (KC : Box (∀ w, FAt w → Calls Tryd.prog 7 #[.int .u8 g, .agg #[.int .u64 (x1 : Nat), .int .u64 (y1 : Nat)]] w fun r w' => r = .returned (.tuple #[.int .u8 (c : Nat), .int .i64 0]) ∧ Below w.heap.size w w')) (KF : Box (∀ w, FAt w → Calls Tryd.prog 8 #[.int .u8 t, .int .u8 g, .agg #[.int .u64 (x1 : Nat), .int .u64 (y1 : Nat)]] w fun r w' => r = .returned (.tuple #[.bool true, .int .i64 0]) ∧ Below w.heap.size w w')) (K5 : Box (∀ w, FAt w → Calls Tryd.prog 4 #[.int .u8 t, .int .u8 g, .int .u8 1, .agg #[.int .u64 (x1 : Nat), .int .u64 (y1 : Nat)]] w fun r w' => r = .returned (.tuple #[.agg #[.int .u64 (u5 : Nat), .int .u64 (v5 : Nat)], .int .u8 0, .int .i64 0]) ∧ Below w.heap.size w w')) (KW1 : Box (∀ w, FAt w → Calls Tryd.prog 9 #[.int .u8 t] w fun r w' => r = .returned (.int .i64 W1) ∧ Below w.heap.size w w')) (KW2 : Box (∀ w, FAt w → Calls Tryd.prog 9 #[.int .u8 g] w fun r w' => r = .returned (.int .i64 W2) ∧ Below w.heap.size w w')) (K9 : Box (∀ w, FAt w → Calls Tryd.prog 4 #[.int .u8 g, .int .u8 t, .int .u8 n, .agg #[.int .u64 (u : Nat), .int .u64 (v : Nat)]] w fun r w' => r = .returned (.tuple #[.agg #[.int .u64 (x1 : Nat), .int .u64 (y1 : Nat)], .int .u8 0, .int .i64 0]) ∧ Below w.heap.size w w')) (KA : Box (∀ w, FAt w → Calls Tryd.prog 6 #[] w fun r w' => r = .returned (.bool true) ∧ Below w.heap.size w w')) (hT : FAt w) : Calls Tryd.prog 3 #[.int .u8 t, .int .u8 g, .int .u8 m, .int .u8 n, .agg #[.int .u64 (x1 : Nat), .int .u64 (y1 : Nat)]] w fun r w' => r = .returned (.bool true) ∧ Below w.heap.size w w' := by
  have FF := box hT
  clear hT
  have hE := eqb
  have e1 := ebb_sh (x1 : Nat) (y1 : Nat)
  obtain ⟨Ra_0, B0⟩ := opn1 w (Obj.cells #[.int .u64 (x1 : Nat), .int .u64 (y1 : Nat)] 26)
  go_enter Tryd.func3, Tryd.ntmps3
  obtain ⟨ca_0_0, ca_0_1⟩ := cells2s Ra_0
  go_wp2_with fail
  refine (K1.out _ (fatB FF.out B0)).mono ?_
  rintro r w1 ⟨rfl, b1⟩
  have B1 : Below w.heap.size w w1 := btr B0 b1
  have Ra_1 := heap_of b1 _ _ _ Ra_0
  clear b1 B0 Ra_0 ca_0_0 ca_0_1
  obtain ⟨ca_1_0, ca_1_1⟩ := cells2s Ra_1
  have S2 := box B1.size
  have La_2 : Box (w.heap.size < w1.heap.size) := box (Array.getElem?_eq_some_iff.1 Ra_1).1
  have Rx_2 := heap_alloc_last w1 (Obj.cells #[.int .u64 (u : Nat), .int .u64 (v : Nat)] 26)
  have B2 := btr B1 (bal w1 (Obj.cells #[.int .u64 (u : Nat), .int .u64 (v : Nat)] 26))
  have Ra_2 := heap_of (bal w1 (Obj.cells #[.int .u64 (u : Nat), .int .u64 (v : Nat)] 26)) _ _ _ Ra_1
  clear B1 Ra_1 ca_1_0 ca_1_1
  obtain ⟨ca_2_0, ca_2_1⟩ := cells2s Ra_2
  obtain ⟨cx_2_0, cx_2_1⟩ := cells2s Rx_2
  go_wp2_with fail
  refine (KM.out _).mono ?_
  rintro r w' ⟨rfl, rfl⟩
  go_wp2_with fail
  refine (KC.out _ (fatB FF.out B2)).mono ?_
  rintro r w3 ⟨rfl, b3⟩
  have B3 : Below w.heap.size w w3 := btr B2 b3
  have Ra_3 := heap_of b3 _ _ _ Ra_2
  have Rx_3 := heap_of b3 _ _ _ Rx_2
  clear b3 B2 Ra_2 ca_2_0 ca_2_1 Rx_2 cx_2_0 cx_2_1
  obtain ⟨ca_3_0, ca_3_1⟩ := cells2s Ra_3
  obtain ⟨cx_3_0, cx_3_1⟩ := cells2s Rx_3
  go_wp2_with fail
  refine (KF.out _ (fatB FF.out B3)).mono ?_
  rintro r w4 ⟨rfl, b4⟩
  have B4 : Below w.heap.size w w4 := btr B3 b4
  have Ra_4 := heap_of b4 _ _ _ Ra_3
  have Rx_4 := heap_of b4 _ _ _ Rx_3
  clear b4 B3 Ra_3 ca_3_0 ca_3_1 Rx_3 cx_3_0 cx_3_1
  obtain ⟨ca_4_0, ca_4_1⟩ := cells2s Ra_4
  obtain ⟨cx_4_0, cx_4_1⟩ := cells2s Rx_4
  go_wp2_with fail
  refine (K5.out _ (fatB FF.out B4)).mono ?_
  rintro r w5 ⟨rfl, b5⟩
  have B5 : Below w.heap.size w w5 := btr B4 b5
  have Ra_5 := heap_of b5 _ _ _ Ra_4
  have Rx_5 := heap_of b5 _ _ _ Rx_4
  clear b5 B4 Ra_4 ca_4_0 ca_4_1 Rx_4 cx_4_0 cx_4_1
  obtain ⟨ca_5_0, ca_5_1⟩ := cells2s Ra_5
  obtain ⟨cx_5_0, cx_5_1⟩ := cells2s Rx_5
  have S6 := box B5.size
  have La_6 : Box (w.heap.size < w5.heap.size) := box (Array.getElem?_eq_some_iff.1 Ra_5).1
  have Lx_6 : Box (w1.heap.size < w5.heap.size) := box (Array.getElem?_eq_some_iff.1 Rx_5).1
  have Rq_6 := heap_alloc_last w5 (Obj.cells #[.int .u64 (u5 : Nat), .int .u64 (v5 : Nat)] 26)
  have B6 := btr B5 (bal w5 (Obj.cells #[.int .u64 (u5 : Nat), .int .u64 (v5 : Nat)] 26))
  have Ra_6 := heap_of (bal w5 (Obj.cells #[.int .u64 (u5 : Nat), .int .u64 (v5 : Nat)] 26)) _ _ _ Ra_5
  have Rx_6 := heap_of (bal w5 (Obj.cells #[.int .u64 (u5 : Nat), .int .u64 (v5 : Nat)] 26)) _ _ _ Rx_5
  clear B5 Ra_5 ca_5_0 ca_5_1 Rx_5 cx_5_0 cx_5_1
  obtain ⟨ca_6_0, ca_6_1⟩ := cells2s Ra_6
  obtain ⟨cx_6_0, cx_6_1⟩ := cells2s Rx_6
  obtain ⟨cq_6_0, cq_6_1⟩ := cells2s Rq_6
  go_wp2_with fail
  refine (KW1.out _ (fatB FF.out B6)).mono ?_
  rintro r w7 ⟨rfl, b7⟩
  have B7 : Below w.heap.size w w7 := btr B6 b7
  have Ra_7 := heap_of b7 _ _ _ Ra_6
  have Rx_7 := heap_of b7 _ _ _ Rx_6
  have Rq_7 := heap_of b7 _ _ _ Rq_6
  clear b7 B6 Ra_6 ca_6_0 ca_6_1 Rx_6 cx_6_0 cx_6_1 Rq_6 cq_6_0 cq_6_1
  obtain ⟨ca_7_0, ca_7_1⟩ := cells2s Ra_7
  obtain ⟨cx_7_0, cx_7_1⟩ := cells2s Rx_7
  obtain ⟨cq_7_0, cq_7_1⟩ := cells2s Rq_7
  go_wp2_with fail
  refine (KW2.out _ (fatB FF.out B7)).mono ?_
  rintro r w8 ⟨rfl, b8⟩
  have B8 : Below w.heap.size w w8 := btr B7 b8
  have Ra_8 := heap_of b8 _ _ _ Ra_7
  have Rx_8 := heap_of b8 _ _ _ Rx_7
  have Rq_8 := heap_of b8 _ _ _ Rq_7
  clear b8 B7 Ra_7 ca_7_0 ca_7_1 Rx_7 cx_7_0 cx_7_1 Rq_7 cq_7_0 cq_7_1
  obtain ⟨ca_8_0, ca_8_1⟩ := cells2s Ra_8
  obtain ⟨cx_8_0, cx_8_1⟩ := cells2s Rx_8
  obtain ⟨cq_8_0, cq_8_1⟩ := cells2s Rq_8
  go_wp2_with fail
  refine (K9.out _ (fatB FF.out B8)).mono ?_
  rintro r w9 ⟨rfl, b9⟩
  have B9 : Below w.heap.size w w9 := btr B8 b9
  have Ra_9 := heap_of b9 _ _ _ Ra_8
  have Rx_9 := heap_of b9 _ _ _ Rx_8
  have Rq_9 := heap_of b9 _ _ _ Rq_8
  clear b9 B8 Ra_8 ca_8_0 ca_8_1 Rx_8 cx_8_0 cx_8_1 Rq_8 cq_8_0 cq_8_1
  obtain ⟨ca_9_0, ca_9_1⟩ := cells2s Ra_9
  obtain ⟨cx_9_0, cx_9_1⟩ := cells2s Rx_9
  obtain ⟨cq_9_0, cq_9_1⟩ := cells2s Rq_9
  have S10 := box B9.size
  have La_10 : Box (w.heap.size < w9.heap.size) := box (Array.getElem?_eq_some_iff.1 Ra_9).1
  have Lx_10 : Box (w1.heap.size < w9.heap.size) := box (Array.getElem?_eq_some_iff.1 Rx_9).1
  have Lq_10 : Box (w5.heap.size < w9.heap.size) := box (Array.getElem?_eq_some_iff.1 Rq_9).1
  have Ry_10 := heap_alloc_last w9 (Obj.cells #[.int .u64 (x1 : Nat), .int .u64 (y1 : Nat)] 26)
  have B10 := btr B9 (bal w9 (Obj.cells #[.int .u64 (x1 : Nat), .int .u64 (y1 : Nat)] 26))
  have Ra_10 := heap_of (bal w9 (Obj.cells #[.int .u64 (x1 : Nat), .int .u64 (y1 : Nat)] 26)) _ _ _ Ra_9
  have Rx_10 := heap_of (bal w9 (Obj.cells #[.int .u64 (x1 : Nat), .int .u64 (y1 : Nat)] 26)) _ _ _ Rx_9
  have Rq_10 := heap_of (bal w9 (Obj.cells #[.int .u64 (x1 : Nat), .int .u64 (y1 : Nat)] 26)) _ _ _ Rq_9
  clear B9 Ra_9 ca_9_0 ca_9_1 Rx_9 cx_9_0 cx_9_1 Rq_9 cq_9_0 cq_9_1
  obtain ⟨ca_10_0, ca_10_1⟩ := cells2s Ra_10
  obtain ⟨cx_10_0, cx_10_1⟩ := cells2s Rx_10
  obtain ⟨cq_10_0, cq_10_1⟩ := cells2s Rq_10
  obtain ⟨cy_10_0, cy_10_1⟩ := cells2s Ry_10
  go_wp2_with fail
  obtain ⟨F, hF1, hF2⟩ := below_fun (w9.alloc (Obj.cells #[.int .u64 (x1 : Nat), .int .u64 (y1 : Nat)] 26))
  have fa_0 := fun u => cells4 (heap_of (hF1 u) _ _ _ Ra_10) 0 _ rfl
  have fa_1 := fun u => cells4 (heap_of (hF1 u) _ _ _ Ra_10) 1 _ rfl
  have fx_0 := fun u => cells4 (heap_of (hF1 u) _ _ _ Rx_10) 0 _ rfl
  have fx_1 := fun u => cells4 (heap_of (hF1 u) _ _ _ Rx_10) 1 _ rfl
  have fq_0 := fun u => cells4 (heap_of (hF1 u) _ _ _ Rq_10) 0 _ rfl
  have fq_1 := fun u => cells4 (heap_of (hF1 u) _ _ _ Rq_10) 1 _ rfl
  have fy_0 := fun u => cells4 (heap_of (hF1 u) _ _ _ Ry_10) 0 _ rfl
  have fy_1 := fun u => cells4 (heap_of (hF1 u) _ _ _ Ry_10) 1 _ rfl
  have FG : Box (∀ u, FAt (F u)) := box (fun u => fatB FF.out (btr B10 (hF1 u)))
  refine wp_region_below F hF2 (by kernel_rfl) (by kernel_rfl) ?_
  repeat first | go_big_quiet_step (first | (go_at_call 6; exact quietF hF1 hF2 (KA.out _ (FG.out _))) | fail) | quiet_step (first | (go_at_call 6; exact quietF hF1 hF2 (KA.out _ (FG.out _))) | fail)
  refine wpQuiet_nil ?_
  rintro _ ⟨uW, rfl⟩
  have B11 := btr B10 (hF1 uW)
  have Ra_11 := heap_of (hF1 uW) _ _ _ Ra_10
  have Rx_11 := heap_of (hF1 uW) _ _ _ Rx_10
  have Rq_11 := heap_of (hF1 uW) _ _ _ Rq_10
  have Ry_11 := heap_of (hF1 uW) _ _ _ Ry_10
  obtain ⟨w11, hw⟩ : ∃ V, F uW = V := ⟨_, rfl⟩
  rw [hw] at B11 Ra_11 Rx_11 Rq_11 Ry_11
  try rw [hw]
  clear hw hF1 hF2 B10 fa_0 fa_1 fx_0 fx_1 fq_0 fq_1 fy_0 fy_1 Ra_10 ca_10_0 ca_10_1 Rx_10 cx_10_0 cx_10_1 Rq_10 cq_10_0 cq_10_1 Ry_10 cy_10_0 cy_10_1
  clear FG
  clear F
  obtain ⟨ca_11_0, ca_11_1⟩ := cells2s Ra_11
  obtain ⟨cx_11_0, cx_11_1⟩ := cells2s Rx_11
  obtain ⟨cq_11_0, cq_11_1⟩ := cells2s Rq_11
  obtain ⟨cy_11_0, cy_11_1⟩ := cells2s Ry_11
  go_wp2
  go_ret
  exact ⟨rfl, B11⟩
set_option maxRecDepth 100000 in
set_option maxHeartbeats 8000000 in
theorem wb_sn (t g m n : Int) (x1 y1 u v u5 v5 c : Nat) (fl zl W1 W2 : Int) (hc : decide ((c : Int) < 8) = false) (hc2 : decide (8 ≤ (c : Int)) = true) (hc8 : ((c : Int) == 8) = true) (hw : decide (W1 < W2) = false) (w : World) (K1 : Box (∀ w, FAt w → Calls Tryd.prog 4 #[.int .u8 t, .int .u8 g, .int .u8 m, .agg #[.int .u64 (x1 : Nat), .int .u64 (y1 : Nat)]] w fun r w' => r = .returned (.tuple #[.agg #[.int .u64 (u : Nat), .int .u64 (v : Nat)], .int .u8 16, .int .i64 0]) ∧ Below w.heap.size w w')) (KM : Box (∀ w : World, Calls Tryd.prog 5 #[.int .u8 n] w fun r w' => r = .returned (.int .i64 0) ∧ w' = w)) (KC : Box (∀ w, FAt w → Calls Tryd.prog 7 #[.int .u8 g, .agg #[.int .u64 (x1 : Nat), .int .u64 (y1 : Nat)]] w fun r w' => r = .returned (.tuple #[.int .u8 (c : Nat), .int .i64 0]) ∧ Below w.heap.size w w')) (KF : Box (∀ w, FAt w → Calls Tryd.prog 8 #[.int .u8 t, .int .u8 g, .agg #[.int .u64 (x1 : Nat), .int .u64 (y1 : Nat)]] w fun r w' => r = .returned (.tuple #[.bool false, .int .i64 0]) ∧ Below w.heap.size w w')) (K5 : Box (∀ w, FAt w → Calls Tryd.prog 4 #[.int .u8 t, .int .u8 g, .int .u8 1, .agg #[.int .u64 (x1 : Nat), .int .u64 (y1 : Nat)]] w fun r w' => r = .returned (.tuple #[.agg #[.int .u64 (u5 : Nat), .int .u64 (v5 : Nat)], .int .u8 zl, .int .i64 0]) ∧ Below w.heap.size w w')) (KW1 : Box (∀ w, FAt w → Calls Tryd.prog 9 #[.int .u8 t] w fun r w' => r = .returned (.int .i64 W1) ∧ Below w.heap.size w w')) (KW2 : Box (∀ w, FAt w → Calls Tryd.prog 9 #[.int .u8 g] w fun r w' => r = .returned (.int .i64 W2) ∧ Below w.heap.size w w')) (KD : Box (∀ w, FAt w → Calls Tryd.prog 10 #[.int .u8 t] w fun r w' => r = .returned (.agg #[.int .u64 (u : Nat), .int .u64 (v : Nat)]) ∧ Below w.heap.size w w')) (KA : Box (∀ w, FAt w → Calls Tryd.prog 6 #[] w fun r w' => r = .returned (.bool true) ∧ Below w.heap.size w w')) (hT : FAt w) : Calls Tryd.prog 3 #[.int .u8 t, .int .u8 g, .int .u8 m, .int .u8 n, .agg #[.int .u64 (x1 : Nat), .int .u64 (y1 : Nat)]] w fun r w' => r = .returned (.bool true) ∧ Below w.heap.size w w' := by
  have FF := box hT
  clear hT
  have hE := eqb
  have e1 := ebb_sh (u : Nat) (v : Nat)
  obtain ⟨Ra_0, B0⟩ := opn1 w (Obj.cells #[.int .u64 (x1 : Nat), .int .u64 (y1 : Nat)] 26)
  go_enter Tryd.func3, Tryd.ntmps3
  obtain ⟨ca_0_0, ca_0_1⟩ := cells2s Ra_0
  go_wp2_with fail
  refine (K1.out _ (fatB FF.out B0)).mono ?_
  rintro r w1 ⟨rfl, b1⟩
  have B1 : Below w.heap.size w w1 := btr B0 b1
  have Ra_1 := heap_of b1 _ _ _ Ra_0
  clear b1 B0 Ra_0 ca_0_0 ca_0_1
  obtain ⟨ca_1_0, ca_1_1⟩ := cells2s Ra_1
  have S2 := box B1.size
  have La_2 : Box (w.heap.size < w1.heap.size) := box (Array.getElem?_eq_some_iff.1 Ra_1).1
  have Rx_2 := heap_alloc_last w1 (Obj.cells #[.int .u64 (u : Nat), .int .u64 (v : Nat)] 26)
  have B2 := btr B1 (bal w1 (Obj.cells #[.int .u64 (u : Nat), .int .u64 (v : Nat)] 26))
  have Ra_2 := heap_of (bal w1 (Obj.cells #[.int .u64 (u : Nat), .int .u64 (v : Nat)] 26)) _ _ _ Ra_1
  clear B1 Ra_1 ca_1_0 ca_1_1
  obtain ⟨ca_2_0, ca_2_1⟩ := cells2s Ra_2
  obtain ⟨cx_2_0, cx_2_1⟩ := cells2s Rx_2
  go_wp2_with fail
  refine (KM.out _).mono ?_
  rintro r w' ⟨rfl, rfl⟩
  go_wp2_with fail
  refine (KC.out _ (fatB FF.out B2)).mono ?_
  rintro r w3 ⟨rfl, b3⟩
  have B3 : Below w.heap.size w w3 := btr B2 b3
  have Ra_3 := heap_of b3 _ _ _ Ra_2
  have Rx_3 := heap_of b3 _ _ _ Rx_2
  clear b3 B2 Ra_2 ca_2_0 ca_2_1 Rx_2 cx_2_0 cx_2_1
  obtain ⟨ca_3_0, ca_3_1⟩ := cells2s Ra_3
  obtain ⟨cx_3_0, cx_3_1⟩ := cells2s Rx_3
  go_wp2_with fail
  refine (KF.out _ (fatB FF.out B3)).mono ?_
  rintro r w4 ⟨rfl, b4⟩
  have B4 : Below w.heap.size w w4 := btr B3 b4
  have Ra_4 := heap_of b4 _ _ _ Ra_3
  have Rx_4 := heap_of b4 _ _ _ Rx_3
  clear b4 B3 Ra_3 ca_3_0 ca_3_1 Rx_3 cx_3_0 cx_3_1
  obtain ⟨ca_4_0, ca_4_1⟩ := cells2s Ra_4
  obtain ⟨cx_4_0, cx_4_1⟩ := cells2s Rx_4
  go_wp2_with fail
  refine (K5.out _ (fatB FF.out B4)).mono ?_
  rintro r w5 ⟨rfl, b5⟩
  have B5 : Below w.heap.size w w5 := btr B4 b5
  have Ra_5 := heap_of b5 _ _ _ Ra_4
  have Rx_5 := heap_of b5 _ _ _ Rx_4
  clear b5 B4 Ra_4 ca_4_0 ca_4_1 Rx_4 cx_4_0 cx_4_1
  obtain ⟨ca_5_0, ca_5_1⟩ := cells2s Ra_5
  obtain ⟨cx_5_0, cx_5_1⟩ := cells2s Rx_5
  have S6 := box B5.size
  have La_6 : Box (w.heap.size < w5.heap.size) := box (Array.getElem?_eq_some_iff.1 Ra_5).1
  have Lx_6 : Box (w1.heap.size < w5.heap.size) := box (Array.getElem?_eq_some_iff.1 Rx_5).1
  have Rq_6 := heap_alloc_last w5 (Obj.cells #[.int .u64 (u5 : Nat), .int .u64 (v5 : Nat)] 26)
  have B6 := btr B5 (bal w5 (Obj.cells #[.int .u64 (u5 : Nat), .int .u64 (v5 : Nat)] 26))
  have Ra_6 := heap_of (bal w5 (Obj.cells #[.int .u64 (u5 : Nat), .int .u64 (v5 : Nat)] 26)) _ _ _ Ra_5
  have Rx_6 := heap_of (bal w5 (Obj.cells #[.int .u64 (u5 : Nat), .int .u64 (v5 : Nat)] 26)) _ _ _ Rx_5
  clear B5 Ra_5 ca_5_0 ca_5_1 Rx_5 cx_5_0 cx_5_1
  obtain ⟨ca_6_0, ca_6_1⟩ := cells2s Ra_6
  obtain ⟨cx_6_0, cx_6_1⟩ := cells2s Rx_6
  obtain ⟨cq_6_0, cq_6_1⟩ := cells2s Rq_6
  go_wp2_with fail
  refine (KW1.out _ (fatB FF.out B6)).mono ?_
  rintro r w7 ⟨rfl, b7⟩
  have B7 : Below w.heap.size w w7 := btr B6 b7
  have Ra_7 := heap_of b7 _ _ _ Ra_6
  have Rx_7 := heap_of b7 _ _ _ Rx_6
  have Rq_7 := heap_of b7 _ _ _ Rq_6
  clear b7 B6 Ra_6 ca_6_0 ca_6_1 Rx_6 cx_6_0 cx_6_1 Rq_6 cq_6_0 cq_6_1
  obtain ⟨ca_7_0, ca_7_1⟩ := cells2s Ra_7
  obtain ⟨cx_7_0, cx_7_1⟩ := cells2s Rx_7
  obtain ⟨cq_7_0, cq_7_1⟩ := cells2s Rq_7
  go_wp2_with fail
  refine (KW2.out _ (fatB FF.out B7)).mono ?_
  rintro r w8 ⟨rfl, b8⟩
  have B8 : Below w.heap.size w w8 := btr B7 b8
  have Ra_8 := heap_of b8 _ _ _ Ra_7
  have Rx_8 := heap_of b8 _ _ _ Rx_7
  have Rq_8 := heap_of b8 _ _ _ Rq_7
  clear b8 B7 Ra_7 ca_7_0 ca_7_1 Rx_7 cx_7_0 cx_7_1 Rq_7 cq_7_0 cq_7_1
  obtain ⟨ca_8_0, ca_8_1⟩ := cells2s Ra_8
  obtain ⟨cx_8_0, cx_8_1⟩ := cells2s Rx_8
  obtain ⟨cq_8_0, cq_8_1⟩ := cells2s Rq_8
  go_wp2_with fail
  obtain ⟨F, hF1, hF2⟩ := below_fun w8
  have fa_0 := fun u => cells4 (heap_of (hF1 u) _ _ _ Ra_8) 0 _ rfl
  have fa_1 := fun u => cells4 (heap_of (hF1 u) _ _ _ Ra_8) 1 _ rfl
  have fx_0 := fun u => cells4 (heap_of (hF1 u) _ _ _ Rx_8) 0 _ rfl
  have fx_1 := fun u => cells4 (heap_of (hF1 u) _ _ _ Rx_8) 1 _ rfl
  have fq_0 := fun u => cells4 (heap_of (hF1 u) _ _ _ Rq_8) 0 _ rfl
  have fq_1 := fun u => cells4 (heap_of (hF1 u) _ _ _ Rq_8) 1 _ rfl
  have FG : Box (∀ u, FAt (F u)) := box (fun u => fatB FF.out (btr B8 (hF1 u)))
  refine wp_region_below F hF2 (by kernel_rfl) (by kernel_rfl) ?_
  repeat first | go_big_quiet_step (first | (go_at_call 10; exact quietF hF1 hF2 (KD.out _ (FG.out _))) | (go_at_call 6; exact quietF hF1 hF2 (KA.out _ (FG.out _))) | fail) | quiet_step (first | (go_at_call 10; exact quietF hF1 hF2 (KD.out _ (FG.out _))) | (go_at_call 6; exact quietF hF1 hF2 (KA.out _ (FG.out _))) | fail)
  refine wpQuiet_nil ?_
  rintro _ ⟨uW, rfl⟩
  have B9 := btr B8 (hF1 uW)
  have Ra_9 := heap_of (hF1 uW) _ _ _ Ra_8
  have Rx_9 := heap_of (hF1 uW) _ _ _ Rx_8
  have Rq_9 := heap_of (hF1 uW) _ _ _ Rq_8
  obtain ⟨w9, hw⟩ : ∃ V, F uW = V := ⟨_, rfl⟩
  rw [hw] at B9 Ra_9 Rx_9 Rq_9
  try rw [hw]
  clear hw hF1 hF2 B8 fa_0 fa_1 fx_0 fx_1 fq_0 fq_1 Ra_8 ca_8_0 ca_8_1 Rx_8 cx_8_0 cx_8_1 Rq_8 cq_8_0 cq_8_1
  clear FG
  clear F
  obtain ⟨ca_9_0, ca_9_1⟩ := cells2s Ra_9
  obtain ⟨cx_9_0, cx_9_1⟩ := cells2s Rx_9
  obtain ⟨cq_9_0, cq_9_1⟩ := cells2s Rq_9
  go_wp2
  go_ret
  exact ⟨rfl, B9⟩
set_option maxRecDepth 100000 in
set_option maxHeartbeats 8000000 in
theorem wb_qns (t g m n : Int) (x1 y1 u v u5 v5 p q c : Nat) (fl zl W1 W2 : Int) (hc : decide ((c : Int) < 8) = false) (hc2 : decide (8 ≤ (c : Int)) = true) (hc8 : ((c : Int) == 8) = false) (hc9 : ((c : Int) == 9) = true) (hw : decide (W1 < W2) = false) (he : ebb (p : Nat) (q : Nat) (x1 : Nat) (y1 : Nat) = true) (w : World) (K1 : Box (∀ w, FAt w → Calls Tryd.prog 4 #[.int .u8 t, .int .u8 g, .int .u8 m, .agg #[.int .u64 (x1 : Nat), .int .u64 (y1 : Nat)]] w fun r w' => r = .returned (.tuple #[.agg #[.int .u64 (u : Nat), .int .u64 (v : Nat)], .int .u8 0, .int .i64 0]) ∧ Below w.heap.size w w')) (KM : Box (∀ w : World, Calls Tryd.prog 5 #[.int .u8 n] w fun r w' => r = .returned (.int .i64 0) ∧ w' = w)) (KC : Box (∀ w, FAt w → Calls Tryd.prog 7 #[.int .u8 g, .agg #[.int .u64 (x1 : Nat), .int .u64 (y1 : Nat)]] w fun r w' => r = .returned (.tuple #[.int .u8 (c : Nat), .int .i64 0]) ∧ Below w.heap.size w w')) (KF : Box (∀ w, FAt w → Calls Tryd.prog 8 #[.int .u8 t, .int .u8 g, .agg #[.int .u64 (x1 : Nat), .int .u64 (y1 : Nat)]] w fun r w' => r = .returned (.tuple #[.bool false, .int .i64 0]) ∧ Below w.heap.size w w')) (K5 : Box (∀ w, FAt w → Calls Tryd.prog 4 #[.int .u8 t, .int .u8 g, .int .u8 1, .agg #[.int .u64 (x1 : Nat), .int .u64 (y1 : Nat)]] w fun r w' => r = .returned (.tuple #[.agg #[.int .u64 (u5 : Nat), .int .u64 (v5 : Nat)], .int .u8 zl, .int .i64 0]) ∧ Below w.heap.size w w')) (KW1 : Box (∀ w, FAt w → Calls Tryd.prog 9 #[.int .u8 t] w fun r w' => r = .returned (.int .i64 W1) ∧ Below w.heap.size w w')) (KW2 : Box (∀ w, FAt w → Calls Tryd.prog 9 #[.int .u8 g] w fun r w' => r = .returned (.int .i64 W2) ∧ Below w.heap.size w w')) (K9 : Box (∀ w, FAt w → Calls Tryd.prog 4 #[.int .u8 g, .int .u8 t, .int .u8 n, .agg #[.int .u64 (u : Nat), .int .u64 (v : Nat)]] w fun r w' => r = .returned (.tuple #[.agg #[.int .u64 (p : Nat), .int .u64 (q : Nat)], .int .u8 0, .int .i64 0]) ∧ Below w.heap.size w w')) (KD : Box (∀ w, FAt w → Calls Tryd.prog 10 #[.int .u8 g] w fun r w' => r = .returned (.agg #[.int .u64 (p : Nat), .int .u64 (q : Nat)]) ∧ Below w.heap.size w w')) (KA : Box (∀ w, FAt w → Calls Tryd.prog 6 #[] w fun r w' => r = .returned (.bool true) ∧ Below w.heap.size w w')) (hT : FAt w) : Calls Tryd.prog 3 #[.int .u8 t, .int .u8 g, .int .u8 m, .int .u8 n, .agg #[.int .u64 (x1 : Nat), .int .u64 (y1 : Nat)]] w fun r w' => r = .returned (.bool true) ∧ Below w.heap.size w w' := by
  have FF := box hT
  clear hT
  have hE := eqb
  have e1 := ebb_sh (p : Nat) (q : Nat)
  obtain ⟨Ra_0, B0⟩ := opn1 w (Obj.cells #[.int .u64 (x1 : Nat), .int .u64 (y1 : Nat)] 26)
  go_enter Tryd.func3, Tryd.ntmps3
  obtain ⟨ca_0_0, ca_0_1⟩ := cells2s Ra_0
  go_wp2_with fail
  refine (K1.out _ (fatB FF.out B0)).mono ?_
  rintro r w1 ⟨rfl, b1⟩
  have B1 : Below w.heap.size w w1 := btr B0 b1
  have Ra_1 := heap_of b1 _ _ _ Ra_0
  clear b1 B0 Ra_0 ca_0_0 ca_0_1
  obtain ⟨ca_1_0, ca_1_1⟩ := cells2s Ra_1
  have S2 := box B1.size
  have La_2 : Box (w.heap.size < w1.heap.size) := box (Array.getElem?_eq_some_iff.1 Ra_1).1
  have Rx_2 := heap_alloc_last w1 (Obj.cells #[.int .u64 (u : Nat), .int .u64 (v : Nat)] 26)
  have B2 := btr B1 (bal w1 (Obj.cells #[.int .u64 (u : Nat), .int .u64 (v : Nat)] 26))
  have Ra_2 := heap_of (bal w1 (Obj.cells #[.int .u64 (u : Nat), .int .u64 (v : Nat)] 26)) _ _ _ Ra_1
  clear B1 Ra_1 ca_1_0 ca_1_1
  obtain ⟨ca_2_0, ca_2_1⟩ := cells2s Ra_2
  obtain ⟨cx_2_0, cx_2_1⟩ := cells2s Rx_2
  go_wp2_with fail
  refine (KM.out _).mono ?_
  rintro r w' ⟨rfl, rfl⟩
  go_wp2_with fail
  refine (KC.out _ (fatB FF.out B2)).mono ?_
  rintro r w3 ⟨rfl, b3⟩
  have B3 : Below w.heap.size w w3 := btr B2 b3
  have Ra_3 := heap_of b3 _ _ _ Ra_2
  have Rx_3 := heap_of b3 _ _ _ Rx_2
  clear b3 B2 Ra_2 ca_2_0 ca_2_1 Rx_2 cx_2_0 cx_2_1
  obtain ⟨ca_3_0, ca_3_1⟩ := cells2s Ra_3
  obtain ⟨cx_3_0, cx_3_1⟩ := cells2s Rx_3
  go_wp2_with fail
  refine (KF.out _ (fatB FF.out B3)).mono ?_
  rintro r w4 ⟨rfl, b4⟩
  have B4 : Below w.heap.size w w4 := btr B3 b4
  have Ra_4 := heap_of b4 _ _ _ Ra_3
  have Rx_4 := heap_of b4 _ _ _ Rx_3
  clear b4 B3 Ra_3 ca_3_0 ca_3_1 Rx_3 cx_3_0 cx_3_1
  obtain ⟨ca_4_0, ca_4_1⟩ := cells2s Ra_4
  obtain ⟨cx_4_0, cx_4_1⟩ := cells2s Rx_4
  go_wp2_with fail
  refine (K5.out _ (fatB FF.out B4)).mono ?_
  rintro r w5 ⟨rfl, b5⟩
  have B5 : Below w.heap.size w w5 := btr B4 b5
  have Ra_5 := heap_of b5 _ _ _ Ra_4
  have Rx_5 := heap_of b5 _ _ _ Rx_4
  clear b5 B4 Ra_4 ca_4_0 ca_4_1 Rx_4 cx_4_0 cx_4_1
  obtain ⟨ca_5_0, ca_5_1⟩ := cells2s Ra_5
  obtain ⟨cx_5_0, cx_5_1⟩ := cells2s Rx_5
  have S6 := box B5.size
  have La_6 : Box (w.heap.size < w5.heap.size) := box (Array.getElem?_eq_some_iff.1 Ra_5).1
  have Lx_6 : Box (w1.heap.size < w5.heap.size) := box (Array.getElem?_eq_some_iff.1 Rx_5).1
  have Rqq_6 := heap_alloc_last w5 (Obj.cells #[.int .u64 (u5 : Nat), .int .u64 (v5 : Nat)] 26)
  have B6 := btr B5 (bal w5 (Obj.cells #[.int .u64 (u5 : Nat), .int .u64 (v5 : Nat)] 26))
  have Ra_6 := heap_of (bal w5 (Obj.cells #[.int .u64 (u5 : Nat), .int .u64 (v5 : Nat)] 26)) _ _ _ Ra_5
  have Rx_6 := heap_of (bal w5 (Obj.cells #[.int .u64 (u5 : Nat), .int .u64 (v5 : Nat)] 26)) _ _ _ Rx_5
  clear B5 Ra_5 ca_5_0 ca_5_1 Rx_5 cx_5_0 cx_5_1
  obtain ⟨ca_6_0, ca_6_1⟩ := cells2s Ra_6
  obtain ⟨cx_6_0, cx_6_1⟩ := cells2s Rx_6
  obtain ⟨cqq_6_0, cqq_6_1⟩ := cells2s Rqq_6
  go_wp2_with fail
  refine (KW1.out _ (fatB FF.out B6)).mono ?_
  rintro r w7 ⟨rfl, b7⟩
  have B7 : Below w.heap.size w w7 := btr B6 b7
  have Ra_7 := heap_of b7 _ _ _ Ra_6
  have Rx_7 := heap_of b7 _ _ _ Rx_6
  have Rqq_7 := heap_of b7 _ _ _ Rqq_6
  clear b7 B6 Ra_6 ca_6_0 ca_6_1 Rx_6 cx_6_0 cx_6_1 Rqq_6 cqq_6_0 cqq_6_1
  obtain ⟨ca_7_0, ca_7_1⟩ := cells2s Ra_7
  obtain ⟨cx_7_0, cx_7_1⟩ := cells2s Rx_7
  obtain ⟨cqq_7_0, cqq_7_1⟩ := cells2s Rqq_7
  go_wp2_with fail
  refine (KW2.out _ (fatB FF.out B7)).mono ?_
  rintro r w8 ⟨rfl, b8⟩
  have B8 : Below w.heap.size w w8 := btr B7 b8
  have Ra_8 := heap_of b8 _ _ _ Ra_7
  have Rx_8 := heap_of b8 _ _ _ Rx_7
  have Rqq_8 := heap_of b8 _ _ _ Rqq_7
  clear b8 B7 Ra_7 ca_7_0 ca_7_1 Rx_7 cx_7_0 cx_7_1 Rqq_7 cqq_7_0 cqq_7_1
  obtain ⟨ca_8_0, ca_8_1⟩ := cells2s Ra_8
  obtain ⟨cx_8_0, cx_8_1⟩ := cells2s Rx_8
  obtain ⟨cqq_8_0, cqq_8_1⟩ := cells2s Rqq_8
  go_wp2_with fail
  refine (K9.out _ (fatB FF.out B8)).mono ?_
  rintro r w9 ⟨rfl, b9⟩
  have B9 : Below w.heap.size w w9 := btr B8 b9
  have Ra_9 := heap_of b9 _ _ _ Ra_8
  have Rx_9 := heap_of b9 _ _ _ Rx_8
  have Rqq_9 := heap_of b9 _ _ _ Rqq_8
  clear b9 B8 Ra_8 ca_8_0 ca_8_1 Rx_8 cx_8_0 cx_8_1 Rqq_8 cqq_8_0 cqq_8_1
  obtain ⟨ca_9_0, ca_9_1⟩ := cells2s Ra_9
  obtain ⟨cx_9_0, cx_9_1⟩ := cells2s Rx_9
  obtain ⟨cqq_9_0, cqq_9_1⟩ := cells2s Rqq_9
  have S10 := box B9.size
  have La_10 : Box (w.heap.size < w9.heap.size) := box (Array.getElem?_eq_some_iff.1 Ra_9).1
  have Lx_10 : Box (w1.heap.size < w9.heap.size) := box (Array.getElem?_eq_some_iff.1 Rx_9).1
  have Lqq_10 : Box (w5.heap.size < w9.heap.size) := box (Array.getElem?_eq_some_iff.1 Rqq_9).1
  have Ry_10 := heap_alloc_last w9 (Obj.cells #[.int .u64 (p : Nat), .int .u64 (q : Nat)] 26)
  have B10 := btr B9 (bal w9 (Obj.cells #[.int .u64 (p : Nat), .int .u64 (q : Nat)] 26))
  have Ra_10 := heap_of (bal w9 (Obj.cells #[.int .u64 (p : Nat), .int .u64 (q : Nat)] 26)) _ _ _ Ra_9
  have Rx_10 := heap_of (bal w9 (Obj.cells #[.int .u64 (p : Nat), .int .u64 (q : Nat)] 26)) _ _ _ Rx_9
  have Rqq_10 := heap_of (bal w9 (Obj.cells #[.int .u64 (p : Nat), .int .u64 (q : Nat)] 26)) _ _ _ Rqq_9
  clear B9 Ra_9 ca_9_0 ca_9_1 Rx_9 cx_9_0 cx_9_1 Rqq_9 cqq_9_0 cqq_9_1
  obtain ⟨ca_10_0, ca_10_1⟩ := cells2s Ra_10
  obtain ⟨cx_10_0, cx_10_1⟩ := cells2s Rx_10
  obtain ⟨cqq_10_0, cqq_10_1⟩ := cells2s Rqq_10
  obtain ⟨cy_10_0, cy_10_1⟩ := cells2s Ry_10
  go_wp2_with fail
  obtain ⟨F, hF1, hF2⟩ := below_fun (w9.alloc (Obj.cells #[.int .u64 (p : Nat), .int .u64 (q : Nat)] 26))
  have fa_0 := fun u => cells4 (heap_of (hF1 u) _ _ _ Ra_10) 0 _ rfl
  have fa_1 := fun u => cells4 (heap_of (hF1 u) _ _ _ Ra_10) 1 _ rfl
  have fx_0 := fun u => cells4 (heap_of (hF1 u) _ _ _ Rx_10) 0 _ rfl
  have fx_1 := fun u => cells4 (heap_of (hF1 u) _ _ _ Rx_10) 1 _ rfl
  have fqq_0 := fun u => cells4 (heap_of (hF1 u) _ _ _ Rqq_10) 0 _ rfl
  have fqq_1 := fun u => cells4 (heap_of (hF1 u) _ _ _ Rqq_10) 1 _ rfl
  have fy_0 := fun u => cells4 (heap_of (hF1 u) _ _ _ Ry_10) 0 _ rfl
  have fy_1 := fun u => cells4 (heap_of (hF1 u) _ _ _ Ry_10) 1 _ rfl
  have FG : Box (∀ u, FAt (F u)) := box (fun u => fatB FF.out (btr B10 (hF1 u)))
  refine wp_region_below F hF2 (by kernel_rfl) (by kernel_rfl) ?_
  repeat first | go_big_quiet_step (first | (go_at_call 10; exact quietF hF1 hF2 (KD.out _ (FG.out _))) | (go_at_call 6; exact quietF hF1 hF2 (KA.out _ (FG.out _))) | fail) | quiet_step (first | (go_at_call 10; exact quietF hF1 hF2 (KD.out _ (FG.out _))) | (go_at_call 6; exact quietF hF1 hF2 (KA.out _ (FG.out _))) | fail)
  refine wpQuiet_nil ?_
  rintro _ ⟨uW, rfl⟩
  have B11 := btr B10 (hF1 uW)
  have Ra_11 := heap_of (hF1 uW) _ _ _ Ra_10
  have Rx_11 := heap_of (hF1 uW) _ _ _ Rx_10
  have Rqq_11 := heap_of (hF1 uW) _ _ _ Rqq_10
  have Ry_11 := heap_of (hF1 uW) _ _ _ Ry_10
  obtain ⟨w11, hw⟩ : ∃ V, F uW = V := ⟨_, rfl⟩
  rw [hw] at B11 Ra_11 Rx_11 Rqq_11 Ry_11
  try rw [hw]
  clear hw hF1 hF2 B10 fa_0 fa_1 fx_0 fx_1 fqq_0 fqq_1 fy_0 fy_1 Ra_10 ca_10_0 ca_10_1 Rx_10 cx_10_0 cx_10_1 Rqq_10 cqq_10_0 cqq_10_1 Ry_10 cy_10_0 cy_10_1
  clear FG
  clear F
  obtain ⟨ca_11_0, ca_11_1⟩ := cells2s Ra_11
  obtain ⟨cx_11_0, cx_11_1⟩ := cells2s Rx_11
  obtain ⟨cqq_11_0, cqq_11_1⟩ := cells2s Rqq_11
  obtain ⟨cy_11_0, cy_11_1⟩ := cells2s Ry_11
  go_wp2
  go_ret
  exact ⟨rfl, B11⟩
set_option maxRecDepth 100000 in
set_option maxHeartbeats 8000000 in
theorem wb_qnd (t g m n : Int) (x1 y1 u v u5 v5 p q c : Nat) (fl zl W1 W2 : Int) (hc : decide ((c : Int) < 8) = false) (hc2 : decide (8 ≤ (c : Int)) = true) (hc8 : ((c : Int) == 8) = false) (hc9 : ((c : Int) == 9) = true) (hw : decide (W1 < W2) = false) (he : ebb (p : Nat) (q : Nat) (x1 : Nat) (y1 : Nat) = false) (w : World) (K1 : Box (∀ w, FAt w → Calls Tryd.prog 4 #[.int .u8 t, .int .u8 g, .int .u8 m, .agg #[.int .u64 (x1 : Nat), .int .u64 (y1 : Nat)]] w fun r w' => r = .returned (.tuple #[.agg #[.int .u64 (u : Nat), .int .u64 (v : Nat)], .int .u8 0, .int .i64 0]) ∧ Below w.heap.size w w')) (KM : Box (∀ w : World, Calls Tryd.prog 5 #[.int .u8 n] w fun r w' => r = .returned (.int .i64 0) ∧ w' = w)) (KC : Box (∀ w, FAt w → Calls Tryd.prog 7 #[.int .u8 g, .agg #[.int .u64 (x1 : Nat), .int .u64 (y1 : Nat)]] w fun r w' => r = .returned (.tuple #[.int .u8 (c : Nat), .int .i64 0]) ∧ Below w.heap.size w w')) (KF : Box (∀ w, FAt w → Calls Tryd.prog 8 #[.int .u8 t, .int .u8 g, .agg #[.int .u64 (x1 : Nat), .int .u64 (y1 : Nat)]] w fun r w' => r = .returned (.tuple #[.bool false, .int .i64 0]) ∧ Below w.heap.size w w')) (K5 : Box (∀ w, FAt w → Calls Tryd.prog 4 #[.int .u8 t, .int .u8 g, .int .u8 1, .agg #[.int .u64 (x1 : Nat), .int .u64 (y1 : Nat)]] w fun r w' => r = .returned (.tuple #[.agg #[.int .u64 (u5 : Nat), .int .u64 (v5 : Nat)], .int .u8 zl, .int .i64 0]) ∧ Below w.heap.size w w')) (KW1 : Box (∀ w, FAt w → Calls Tryd.prog 9 #[.int .u8 t] w fun r w' => r = .returned (.int .i64 W1) ∧ Below w.heap.size w w')) (KW2 : Box (∀ w, FAt w → Calls Tryd.prog 9 #[.int .u8 g] w fun r w' => r = .returned (.int .i64 W2) ∧ Below w.heap.size w w')) (K9 : Box (∀ w, FAt w → Calls Tryd.prog 4 #[.int .u8 g, .int .u8 t, .int .u8 n, .agg #[.int .u64 (u : Nat), .int .u64 (v : Nat)]] w fun r w' => r = .returned (.tuple #[.agg #[.int .u64 (p : Nat), .int .u64 (q : Nat)], .int .u8 0, .int .i64 0]) ∧ Below w.heap.size w w')) (KD : Box (∀ w, FAt w → Calls Tryd.prog 10 #[.int .u8 g] w fun r w' => r = .returned (.agg #[.int .u64 (p : Nat), .int .u64 (q : Nat)]) ∧ Below w.heap.size w w')) (KA : Box (∀ w, FAt w → Calls Tryd.prog 6 #[] w fun r w' => r = .returned (.bool true) ∧ Below w.heap.size w w')) (hT : FAt w) : Calls Tryd.prog 3 #[.int .u8 t, .int .u8 g, .int .u8 m, .int .u8 n, .agg #[.int .u64 (x1 : Nat), .int .u64 (y1 : Nat)]] w fun r w' => r = .returned (.bool true) ∧ Below w.heap.size w w' := by
  have FF := box hT
  clear hT
  have hE := eqb
  have e1 := ebb_sh (p : Nat) (q : Nat)
  obtain ⟨Ra_0, B0⟩ := opn1 w (Obj.cells #[.int .u64 (x1 : Nat), .int .u64 (y1 : Nat)] 26)
  go_enter Tryd.func3, Tryd.ntmps3
  obtain ⟨ca_0_0, ca_0_1⟩ := cells2s Ra_0
  go_wp2_with fail
  refine (K1.out _ (fatB FF.out B0)).mono ?_
  rintro r w1 ⟨rfl, b1⟩
  have B1 : Below w.heap.size w w1 := btr B0 b1
  have Ra_1 := heap_of b1 _ _ _ Ra_0
  clear b1 B0 Ra_0 ca_0_0 ca_0_1
  obtain ⟨ca_1_0, ca_1_1⟩ := cells2s Ra_1
  have S2 := box B1.size
  have La_2 : Box (w.heap.size < w1.heap.size) := box (Array.getElem?_eq_some_iff.1 Ra_1).1
  have Rx_2 := heap_alloc_last w1 (Obj.cells #[.int .u64 (u : Nat), .int .u64 (v : Nat)] 26)
  have B2 := btr B1 (bal w1 (Obj.cells #[.int .u64 (u : Nat), .int .u64 (v : Nat)] 26))
  have Ra_2 := heap_of (bal w1 (Obj.cells #[.int .u64 (u : Nat), .int .u64 (v : Nat)] 26)) _ _ _ Ra_1
  clear B1 Ra_1 ca_1_0 ca_1_1
  obtain ⟨ca_2_0, ca_2_1⟩ := cells2s Ra_2
  obtain ⟨cx_2_0, cx_2_1⟩ := cells2s Rx_2
  go_wp2_with fail
  refine (KM.out _).mono ?_
  rintro r w' ⟨rfl, rfl⟩
  go_wp2_with fail
  refine (KC.out _ (fatB FF.out B2)).mono ?_
  rintro r w3 ⟨rfl, b3⟩
  have B3 : Below w.heap.size w w3 := btr B2 b3
  have Ra_3 := heap_of b3 _ _ _ Ra_2
  have Rx_3 := heap_of b3 _ _ _ Rx_2
  clear b3 B2 Ra_2 ca_2_0 ca_2_1 Rx_2 cx_2_0 cx_2_1
  obtain ⟨ca_3_0, ca_3_1⟩ := cells2s Ra_3
  obtain ⟨cx_3_0, cx_3_1⟩ := cells2s Rx_3
  go_wp2_with fail
  refine (KF.out _ (fatB FF.out B3)).mono ?_
  rintro r w4 ⟨rfl, b4⟩
  have B4 : Below w.heap.size w w4 := btr B3 b4
  have Ra_4 := heap_of b4 _ _ _ Ra_3
  have Rx_4 := heap_of b4 _ _ _ Rx_3
  clear b4 B3 Ra_3 ca_3_0 ca_3_1 Rx_3 cx_3_0 cx_3_1
  obtain ⟨ca_4_0, ca_4_1⟩ := cells2s Ra_4
  obtain ⟨cx_4_0, cx_4_1⟩ := cells2s Rx_4
  go_wp2_with fail
  refine (K5.out _ (fatB FF.out B4)).mono ?_
  rintro r w5 ⟨rfl, b5⟩
  have B5 : Below w.heap.size w w5 := btr B4 b5
  have Ra_5 := heap_of b5 _ _ _ Ra_4
  have Rx_5 := heap_of b5 _ _ _ Rx_4
  clear b5 B4 Ra_4 ca_4_0 ca_4_1 Rx_4 cx_4_0 cx_4_1
  obtain ⟨ca_5_0, ca_5_1⟩ := cells2s Ra_5
  obtain ⟨cx_5_0, cx_5_1⟩ := cells2s Rx_5
  have S6 := box B5.size
  have La_6 : Box (w.heap.size < w5.heap.size) := box (Array.getElem?_eq_some_iff.1 Ra_5).1
  have Lx_6 : Box (w1.heap.size < w5.heap.size) := box (Array.getElem?_eq_some_iff.1 Rx_5).1
  have Rqq_6 := heap_alloc_last w5 (Obj.cells #[.int .u64 (u5 : Nat), .int .u64 (v5 : Nat)] 26)
  have B6 := btr B5 (bal w5 (Obj.cells #[.int .u64 (u5 : Nat), .int .u64 (v5 : Nat)] 26))
  have Ra_6 := heap_of (bal w5 (Obj.cells #[.int .u64 (u5 : Nat), .int .u64 (v5 : Nat)] 26)) _ _ _ Ra_5
  have Rx_6 := heap_of (bal w5 (Obj.cells #[.int .u64 (u5 : Nat), .int .u64 (v5 : Nat)] 26)) _ _ _ Rx_5
  clear B5 Ra_5 ca_5_0 ca_5_1 Rx_5 cx_5_0 cx_5_1
  obtain ⟨ca_6_0, ca_6_1⟩ := cells2s Ra_6
  obtain ⟨cx_6_0, cx_6_1⟩ := cells2s Rx_6
  obtain ⟨cqq_6_0, cqq_6_1⟩ := cells2s Rqq_6
  go_wp2_with fail
  refine (KW1.out _ (fatB FF.out B6)).mono ?_
  rintro r w7 ⟨rfl, b7⟩
  have B7 : Below w.heap.size w w7 := btr B6 b7
  have Ra_7 := heap_of b7 _ _ _ Ra_6
  have Rx_7 := heap_of b7 _ _ _ Rx_6
  have Rqq_7 := heap_of b7 _ _ _ Rqq_6
  clear b7 B6 Ra_6 ca_6_0 ca_6_1 Rx_6 cx_6_0 cx_6_1 Rqq_6 cqq_6_0 cqq_6_1
  obtain ⟨ca_7_0, ca_7_1⟩ := cells2s Ra_7
  obtain ⟨cx_7_0, cx_7_1⟩ := cells2s Rx_7
  obtain ⟨cqq_7_0, cqq_7_1⟩ := cells2s Rqq_7
  go_wp2_with fail
  refine (KW2.out _ (fatB FF.out B7)).mono ?_
  rintro r w8 ⟨rfl, b8⟩
  have B8 : Below w.heap.size w w8 := btr B7 b8
  have Ra_8 := heap_of b8 _ _ _ Ra_7
  have Rx_8 := heap_of b8 _ _ _ Rx_7
  have Rqq_8 := heap_of b8 _ _ _ Rqq_7
  clear b8 B7 Ra_7 ca_7_0 ca_7_1 Rx_7 cx_7_0 cx_7_1 Rqq_7 cqq_7_0 cqq_7_1
  obtain ⟨ca_8_0, ca_8_1⟩ := cells2s Ra_8
  obtain ⟨cx_8_0, cx_8_1⟩ := cells2s Rx_8
  obtain ⟨cqq_8_0, cqq_8_1⟩ := cells2s Rqq_8
  go_wp2_with fail
  refine (K9.out _ (fatB FF.out B8)).mono ?_
  rintro r w9 ⟨rfl, b9⟩
  have B9 : Below w.heap.size w w9 := btr B8 b9
  have Ra_9 := heap_of b9 _ _ _ Ra_8
  have Rx_9 := heap_of b9 _ _ _ Rx_8
  have Rqq_9 := heap_of b9 _ _ _ Rqq_8
  clear b9 B8 Ra_8 ca_8_0 ca_8_1 Rx_8 cx_8_0 cx_8_1 Rqq_8 cqq_8_0 cqq_8_1
  obtain ⟨ca_9_0, ca_9_1⟩ := cells2s Ra_9
  obtain ⟨cx_9_0, cx_9_1⟩ := cells2s Rx_9
  obtain ⟨cqq_9_0, cqq_9_1⟩ := cells2s Rqq_9
  have S10 := box B9.size
  have La_10 : Box (w.heap.size < w9.heap.size) := box (Array.getElem?_eq_some_iff.1 Ra_9).1
  have Lx_10 : Box (w1.heap.size < w9.heap.size) := box (Array.getElem?_eq_some_iff.1 Rx_9).1
  have Lqq_10 : Box (w5.heap.size < w9.heap.size) := box (Array.getElem?_eq_some_iff.1 Rqq_9).1
  have Ry_10 := heap_alloc_last w9 (Obj.cells #[.int .u64 (p : Nat), .int .u64 (q : Nat)] 26)
  have B10 := btr B9 (bal w9 (Obj.cells #[.int .u64 (p : Nat), .int .u64 (q : Nat)] 26))
  have Ra_10 := heap_of (bal w9 (Obj.cells #[.int .u64 (p : Nat), .int .u64 (q : Nat)] 26)) _ _ _ Ra_9
  have Rx_10 := heap_of (bal w9 (Obj.cells #[.int .u64 (p : Nat), .int .u64 (q : Nat)] 26)) _ _ _ Rx_9
  have Rqq_10 := heap_of (bal w9 (Obj.cells #[.int .u64 (p : Nat), .int .u64 (q : Nat)] 26)) _ _ _ Rqq_9
  clear B9 Ra_9 ca_9_0 ca_9_1 Rx_9 cx_9_0 cx_9_1 Rqq_9 cqq_9_0 cqq_9_1
  obtain ⟨ca_10_0, ca_10_1⟩ := cells2s Ra_10
  obtain ⟨cx_10_0, cx_10_1⟩ := cells2s Rx_10
  obtain ⟨cqq_10_0, cqq_10_1⟩ := cells2s Rqq_10
  obtain ⟨cy_10_0, cy_10_1⟩ := cells2s Ry_10
  go_wp2_with fail
  obtain ⟨F, hF1, hF2⟩ := below_fun (w9.alloc (Obj.cells #[.int .u64 (p : Nat), .int .u64 (q : Nat)] 26))
  have fa_0 := fun u => cells4 (heap_of (hF1 u) _ _ _ Ra_10) 0 _ rfl
  have fa_1 := fun u => cells4 (heap_of (hF1 u) _ _ _ Ra_10) 1 _ rfl
  have fx_0 := fun u => cells4 (heap_of (hF1 u) _ _ _ Rx_10) 0 _ rfl
  have fx_1 := fun u => cells4 (heap_of (hF1 u) _ _ _ Rx_10) 1 _ rfl
  have fqq_0 := fun u => cells4 (heap_of (hF1 u) _ _ _ Rqq_10) 0 _ rfl
  have fqq_1 := fun u => cells4 (heap_of (hF1 u) _ _ _ Rqq_10) 1 _ rfl
  have fy_0 := fun u => cells4 (heap_of (hF1 u) _ _ _ Ry_10) 0 _ rfl
  have fy_1 := fun u => cells4 (heap_of (hF1 u) _ _ _ Ry_10) 1 _ rfl
  have FG : Box (∀ u, FAt (F u)) := box (fun u => fatB FF.out (btr B10 (hF1 u)))
  refine wp_region_below F hF2 (by kernel_rfl) (by kernel_rfl) ?_
  repeat first | go_big_quiet_step (first | (go_at_call 10; exact quietF hF1 hF2 (KD.out _ (FG.out _))) | (go_at_call 6; exact quietF hF1 hF2 (KA.out _ (FG.out _))) | fail) | quiet_step (first | (go_at_call 10; exact quietF hF1 hF2 (KD.out _ (FG.out _))) | (go_at_call 6; exact quietF hF1 hF2 (KA.out _ (FG.out _))) | fail)
  refine wpQuiet_nil ?_
  rintro _ ⟨uW, rfl⟩
  have B11 := btr B10 (hF1 uW)
  have Ra_11 := heap_of (hF1 uW) _ _ _ Ra_10
  have Rx_11 := heap_of (hF1 uW) _ _ _ Rx_10
  have Rqq_11 := heap_of (hF1 uW) _ _ _ Rqq_10
  have Ry_11 := heap_of (hF1 uW) _ _ _ Ry_10
  obtain ⟨w11, hw⟩ : ∃ V, F uW = V := ⟨_, rfl⟩
  rw [hw] at B11 Ra_11 Rx_11 Rqq_11 Ry_11
  try rw [hw]
  clear hw hF1 hF2 B10 fa_0 fa_1 fx_0 fx_1 fqq_0 fqq_1 fy_0 fy_1 Ra_10 ca_10_0 ca_10_1 Rx_10 cx_10_0 cx_10_1 Rqq_10 cqq_10_0 cqq_10_1 Ry_10 cy_10_0 cy_10_1
  clear FG
  clear F
  obtain ⟨ca_11_0, ca_11_1⟩ := cells2s Ra_11
  obtain ⟨cx_11_0, cx_11_1⟩ := cells2s Rx_11
  obtain ⟨cqq_11_0, cqq_11_1⟩ := cells2s Rqq_11
  obtain ⟨cy_11_0, cy_11_1⟩ := cells2s Ry_11
  go_wp2
  go_ret
  exact ⟨rfl, B11⟩
theorem cvR_nan {t g : Int} (m : Int) {n : Nat} (h : kC g n = 9) : cvR t g m n = (eNaN t, 0) := by unfold cvR; rw [if_neg (by omega), if_pos h]
theorem cvR_sig {t g : Int} (m : Int) {n : Nat} (h : kC g n = 8) : cvR t g m n = (eNaN t, 16) := by unfold cvR; rw [if_pos h]
theorem ftR_nan {t g : Int} {n : Nat} (h : 8 ≤ kC g n) : ftR t g n = false := by unfold ftR; rw [if_pos h]
theorem bv7_parts {n u v : Nat} (h : bv7 n = (u, v)) (hn : n < 340282366920938463463374607431768211456) : u < 18446744073709551616 ∧ v < 18446744073709551616 ∧ v + 18446744073709551616 * u = n := by
  unfold bv7 at h
  cases h
  omega
theorem bv7_made {n x y : Nat} (hy : y < 18446744073709551616) (h : y + 18446744073709551616 * x = n) : bv7 n = (x, y) := by
  unfold bv7
  subst h
  congr 1 <;> omega
theorem fit_128 {f : Int} (hf : Is4 f) {n : Nat} (h : Fit f n) : n < 340282366920938463463374607431768211456 := by
  unfold Fit at h
  have : wV f ≤ 127 := by rcases hf with rfl | rfl | rfl | rfl <;> decide
  have := Nat.pow_le_pow_right (show 0 < 2 by decide) this
  have e : (2 : Nat) ^ 127 = 170141183460469231731687303715884105728 := by decide
  omega
theorem back_all (t g m n : Int) (h0t : 0 ≤ t) (h0g : 0 ≤ g) (h0m : 0 ≤ m) (h0n : 0 ≤ n) (x1 y1 a : Nat) (hx1 : x1 < 18446744073709551616) (hy1 : y1 < 18446744073709551616) (ha : y1 + 18446744073709551616 * x1 = a)
    (KY : ∀ t g m : Int, Is4 t → Is4 g → 0 ≤ m ∧ m ≤ 4 → ∀ x1 y1 a : Nat, x1 < 18446744073709551616 → y1 < 18446744073709551616 → y1 + 18446744073709551616 * x1 = a → okB g a = true → ∀ M fl, cvR t g m a = (M, fl) → ∀ u v, bv7 M = (u, v) → Box (∀ w, FAt w → Calls Tryd.prog 4 #[.int .u8 t, .int .u8 g, .int .u8 m, .agg #[.int .u64 (x1 : Nat), .int .u64 (y1 : Nat)]] w fun r w' => r = .returned (.tuple #[.agg #[.int .u64 (u : Nat), .int .u64 (v : Nat)], .int .u8 fl, .int .i64 0]) ∧ Below w.heap.size w w'))
    (KN : ¬ (Is4 t ∧ okB g a = true ∧ m ≤ 4) → Box (∀ w, FAt w → Calls Tryd.prog 4 #[.int .u8 t, .int .u8 g, .int .u8 m, .agg #[.int .u64 (x1 : Nat), .int .u64 (y1 : Nat)]] w fun r w' => r = .returned (.tuple #[.agg #[.int .u64 ((0 : Nat) : Int), .int .u64 ((0 : Nat) : Int)], .int .u8 0, .int .i64 2]) ∧ Below w.heap.size w w'))
    (FY : Is4 t → okB g a = true → ∀ o, ftR t g a = o → Box (∀ w, FAt w → Calls Tryd.prog 8 #[.int .u8 t, .int .u8 g, .agg #[.int .u64 (x1 : Nat), .int .u64 (y1 : Nat)]] w fun r w' => r = .returned (.tuple #[.bool o, .int .i64 0]) ∧ Below w.heap.size w w'))
    (M1 : n ≤ 4 → Box (∀ w : World, Calls Tryd.prog 5 #[.int .u8 n] w fun r w' => r = .returned (.int .i64 0) ∧ w' = w)) (M0 : ¬ n ≤ 4 → Box (∀ w : World, Calls Tryd.prog 5 #[.int .u8 n] w fun r w' => r = .returned (.int .i64 2) ∧ w' = w))
    (CC : okB g a = true → Box (∀ w, FAt w → Calls Tryd.prog 7 #[.int .u8 g, .agg #[.int .u64 (x1 : Nat), .int .u64 (y1 : Nat)]] w fun r w' => r = .returned (.tuple #[.int .u8 (kC g a : Nat), .int .i64 0]) ∧ Below w.heap.size w w'))
    (KW : ∀ f, Is4 f → Box (∀ w, FAt w → Calls Tryd.prog 9 #[.int .u8 f] w fun r w' => r = .returned (.int .i64 (fW f)) ∧ Below w.heap.size w w'))
    (KD : ∀ f, Is4 f → ∀ u v, bv7 (eNaN f) = (u, v) → Box (∀ w, FAt w → Calls Tryd.prog 10 #[.int .u8 f] w fun r w' => r = .returned (.agg #[.int .u64 (u : Nat), .int .u64 (v : Nat)]) ∧ Below w.heap.size w w'))
    (KA : Box (∀ w, FAt w → Calls Tryd.prog 6 #[] w fun r w' => r = .returned (.bool true) ∧ Below w.heap.size w w')) (w : World) (hT : FAt w) : Calls Tryd.prog 3 #[.int .u8 t, .int .u8 g, .int .u8 m, .int .u8 n, .agg #[.int .u64 (x1 : Nat), .int .u64 (y1 : Nat)]] w fun r w' => r = .returned (.bool true) ∧ Below w.heap.size w w' := by
  by_cases hyp : Is4 t ∧ okB g a = true ∧ m ≤ 4
  · obtain ⟨ht, ok, hm⟩ := hyp
    obtain ⟨hg, fit⟩ := okB_yes h0g ok
    obtain ⟨M, fl, e1⟩ : ∃ M fl, cvR t g m a = (M, fl) := ⟨_, _, rfl⟩
    obtain ⟨u, v, e2⟩ : ∃ u v, bv7 M = (u, v) := ⟨_, _, rfl⟩
    have K1 := KY t g m ht hg ⟨h0m, hm⟩ x1 y1 a hx1 hy1 ha ok M fl e1 u v e2
    by_cases hn : n ≤ 4
    · have KM := M1 hn
      obtain ⟨M5, zl, e5⟩ : ∃ M fl, cvR t g 1 a = (M, fl) := ⟨_, _, rfl⟩
      obtain ⟨u5, v5, e6⟩ : ∃ u v, bv7 M5 = (u, v) := ⟨_, _, rfl⟩
      have K5 := KY t g 1 ht hg (by decide) x1 y1 a hx1 hy1 ha ok M5 zl e5 u5 v5 e6
      have KC := CC ok
      have W1 := KW t ht
      have W2 := KW g hg
      by_cases hw : fW t < fW g
      · have hw' : decide (fW t < fW g) = true := decide_eq_true hw
        by_cases hc : kC g a < 8
        · have d1 : decide (((kC g a : Nat) : Int) < 8) = true := decide_eq_true (by omega)
          have d2 : decide (8 ≤ ((kC g a : Nat) : Int)) = false := decide_eq_false (by omega)
          have ff := ft_cv ht hg fit 1 hc
          rw [e5] at ff
          by_cases hz : zl = 0
          · subst hz
            exact wb_narrow_t t g m n x1 y1 u v u5 v5 (kC g a) fl 0 _ _ d1 d2 hw' w K1 KM KC (FY ht ok true (by rw [ff]; rfl)) K5 W1 W2 KA hT
          · exact wb_narrow_f t g m n x1 y1 u v u5 v5 (kC g a) fl zl _ _ d1 d2 (beq_eq_false_iff_ne.2 hz) hw' w K1 KM KC (FY ht ok false (by rw [ff]; exact decide_eq_false hz)) K5 W1 W2 KA hT
        · exact wb_narrow_n t g m n x1 y1 u v u5 v5 (kC g a) fl zl _ _ (decide_eq_false (by omega)) (decide_eq_true (by omega)) hw' w K1 KM KC (FY ht ok false (ftR_nan (by omega))) K5 W1 W2 KA hT
      · have hw' : decide (fW t < fW g) = false := decide_eq_false hw
        by_cases h8 : kC g a = 8
        · rw [cvR_sig m h8] at e1
          cases e1
          exact wb_sn t g m n x1 y1 u v u5 v5 (kC g a) 0 zl _ _ (decide_eq_false (by omega)) (decide_eq_true (by omega)) (beq_iff_eq.2 (by omega)) hw' w K1 KM KC (FY ht ok false (ftR_nan (by omega))) K5 W1 W2 (KD t ht u v e2) KA hT
        · obtain ⟨M', y, c1, fm, c2, c3⟩ := cv_back ht hg (by omega) fit m n h8
          rw [e1] at c1
          cases c1
          obtain ⟨p, q, e9⟩ : ∃ u v, bv7 y = (u, v) := ⟨_, _, rfl⟩
          obtain ⟨bu, bv, bs⟩ := bv7_parts e2 (fit_128 ht fm)
          have K9 := KY g t n hg ht ⟨h0n, hn⟩ u v M bu bv bs (by unfold okB; exact decide_eq_true ⟨by rcases ht with rfl | rfl | rfl | rfl <;> decide, fm⟩) y 0 c2 p q e9
          by_cases hc : kC g a < 8
          · obtain ⟨M6, y6, c4, _, _, _⟩ := cv_back ht hg (by omega) fit 1 n h8
            rw [e5] at c4
            cases c4
            have ff := ft_cv ht hg fit 1 hc
            rw [e5] at ff
            have hy : y = a := by
              rcases c3 with h | h
              · exact h
              · omega
            subst hy
            rw [bv7_made hy1 ha] at e9
            cases e9
            exact wb_num t g m n x1 y1 u v u5 v5 (kC g y) 0 0 _ _ (decide_eq_true (by omega)) (decide_eq_false (by omega)) (beq_eq_false_iff_ne.2 (by omega)) hw' w K1 KM KC (FY ht ok true (by rw [ff]; rfl)) K5 W1 W2 K9 KA hT
          · have h9 : kC g a = 9 := by have := kC_lt g a; omega
            have hM : M = eNaN t := by
              rw [cvR_nan m h9] at e1
              exact (congrArg Prod.fst e1).symm
            have hy : y = eNaN g := by
              subst hM
              rw [cvR_nan n (kC_made ht true).1] at c2
              exact (congrArg Prod.fst c2).symm
            rw [hy] at e9
            have D := KD g hg p q e9
            cases he : ebb (p : Nat) (q : Nat) (x1 : Nat) (y1 : Nat)
            · exact wb_qnd t g m n x1 y1 u v u5 v5 p q (kC g a) 0 zl _ _ (decide_eq_false (by omega)) (decide_eq_true (by omega)) (beq_eq_false_iff_ne.2 (by omega)) (beq_iff_eq.2 (by omega)) hw' he w K1 KM KC (FY ht ok false (ftR_nan (by omega))) K5 W1 W2 K9 D KA hT
            · exact wb_qns t g m n x1 y1 u v u5 v5 p q (kC g a) 0 zl _ _ (decide_eq_false (by omega)) (decide_eq_true (by omega)) (beq_eq_false_iff_ne.2 (by omega)) (beq_iff_eq.2 (by omega)) hw' he w K1 KM KC (FY ht ok false (ftR_nan (by omega))) K5 W1 W2 K9 D KA hT
    · exact wb_n t g m n x1 y1 u v fl w K1 (M0 hn) KA hT
  · exact wb_e t g m n x1 y1 0 0 0 w (KN hyp) KA hT
end Go.Proofs.YtdjlfhcalccajaaDoor
