/-
  What the functions that the statement reaches return: part 3 (H7).
-/
import Derived.Test.YtmndjhcmomejjaaDoorOt02
namespace Go.Proofs.YtmndjhcmomejjaaDoor
set_option maxRecDepth 100000
set_option maxHeartbeats 40000000
set_option maxRecDepth 100000
open Go.RowKit WMath
set_option linter.unusedSimpArgs false
set_option linter.unusedVariables false
set_option maxRecDepth 100000 in
set_option maxHeartbeats 8000000 in
theorem ot_err1 (f : Int) (x1 y1 x2 y2 x3 y3 : Nat) (p q zz ww h i : Int) (w : World)
    (K1 : Box (∀ w, FAt w → Calls Tryd.prog 22 #[.int .u8 f, .agg #[.int .u64 (x1 : Nat), .int .u64 (y1 : Nat)], .agg #[.int .u64 (x2 : Nat), .int .u64 (y2 : Nat)]] w fun r w' => r = .returned (.tuple #[.int .i64 p, .int .i64 2]) ∧ Below w.heap.size w w'))
    (K2 : Box (∀ w, FAt w → Calls Tryd.prog 22 #[.int .u8 f, .agg #[.int .u64 (x2 : Nat), .int .u64 (y2 : Nat)], .agg #[.int .u64 (x1 : Nat), .int .u64 (y1 : Nat)]] w fun r w' => r = .returned (.tuple #[.int .i64 q, .int .i64 2]) ∧ Below w.heap.size w w'))
    (K3 : Box (∀ w, FAt w → Calls Tryd.prog 22 #[.int .u8 f, .agg #[.int .u64 (x2 : Nat), .int .u64 (y2 : Nat)], .agg #[.int .u64 (x3 : Nat), .int .u64 (y3 : Nat)]] w fun r w' => r = .returned (.tuple #[.int .i64 zz, .int .i64 h]) ∧ Below w.heap.size w w'))
    (K4 : Box (∀ w, FAt w → Calls Tryd.prog 22 #[.int .u8 f, .agg #[.int .u64 (x1 : Nat), .int .u64 (y1 : Nat)], .agg #[.int .u64 (x3 : Nat), .int .u64 (y3 : Nat)]] w fun r w' => r = .returned (.tuple #[.int .i64 ww, .int .i64 i]) ∧ Below w.heap.size w w'))
    (KA : Box (∀ w, FAt w → Calls Tryd.prog 13 #[] w fun r w' => r = .returned (.bool true) ∧ Below w.heap.size w w'))
    (hT : FAt w) : Calls Tryd.prog 6 #[.int .u8 f, .agg #[.int .u64 (x1 : Nat), .int .u64 (y1 : Nat)], .agg #[.int .u64 (x2 : Nat), .int .u64 (y2 : Nat)], .agg #[.int .u64 (x3 : Nat), .int .u64 (y3 : Nat)]] w fun r w' => r = .returned (.bool true) ∧ Below w.heap.size w w' := by
  have FF := box hT
  clear hT
  obtain ⟨Ra_0, Rb_0, Rc_0, B0⟩ := opn3 w (Obj.cells #[.int .u64 (x1 : Nat), .int .u64 (y1 : Nat)] 25) (Obj.cells #[.int .u64 (x2 : Nat), .int .u64 (y2 : Nat)] 25) (Obj.cells #[.int .u64 (x3 : Nat), .int .u64 (y3 : Nat)] 25)
  go_enter Tryd.func6, Tryd.ntmps6
  obtain ⟨ca_0_0, ca_0_1⟩ := cells2s Ra_0
  obtain ⟨cb_0_0, cb_0_1⟩ := cells2s Rb_0
  obtain ⟨cc_0_0, cc_0_1⟩ := cells2s Rc_0
  go_wp2_with fail
  refine (K1.out _ (fatB FF.out B0)).mono ?_
  rintro r w1 ⟨rfl, b1⟩
  have B1 : Below w.heap.size w w1 := btr B0 b1
  have Ra_1 := heap_of b1 _ _ _ Ra_0
  have Rb_1 := heap_of b1 _ _ _ Rb_0
  have Rc_1 := heap_of b1 _ _ _ Rc_0
  clear b1 B0 Ra_0 ca_0_0 ca_0_1 Rb_0 cb_0_0 cb_0_1 Rc_0 cc_0_0 cc_0_1
  obtain ⟨ca_1_0, ca_1_1⟩ := cells2s Ra_1
  obtain ⟨cb_1_0, cb_1_1⟩ := cells2s Rb_1
  obtain ⟨cc_1_0, cc_1_1⟩ := cells2s Rc_1
  go_wp2_with fail
  refine (K2.out _ (fatB FF.out B1)).mono ?_
  rintro r w2 ⟨rfl, b2⟩
  have B2 : Below w.heap.size w w2 := btr B1 b2
  have Ra_2 := heap_of b2 _ _ _ Ra_1
  have Rb_2 := heap_of b2 _ _ _ Rb_1
  have Rc_2 := heap_of b2 _ _ _ Rc_1
  clear b2 B1 Ra_1 ca_1_0 ca_1_1 Rb_1 cb_1_0 cb_1_1 Rc_1 cc_1_0 cc_1_1
  obtain ⟨ca_2_0, ca_2_1⟩ := cells2s Ra_2
  obtain ⟨cb_2_0, cb_2_1⟩ := cells2s Rb_2
  obtain ⟨cc_2_0, cc_2_1⟩ := cells2s Rc_2
  go_wp2_with fail
  refine (K3.out _ (fatB FF.out B2)).mono ?_
  rintro r w3 ⟨rfl, b3⟩
  have B3 : Below w.heap.size w w3 := btr B2 b3
  have Ra_3 := heap_of b3 _ _ _ Ra_2
  have Rb_3 := heap_of b3 _ _ _ Rb_2
  have Rc_3 := heap_of b3 _ _ _ Rc_2
  clear b3 B2 Ra_2 ca_2_0 ca_2_1 Rb_2 cb_2_0 cb_2_1 Rc_2 cc_2_0 cc_2_1
  obtain ⟨ca_3_0, ca_3_1⟩ := cells2s Ra_3
  obtain ⟨cb_3_0, cb_3_1⟩ := cells2s Rb_3
  obtain ⟨cc_3_0, cc_3_1⟩ := cells2s Rc_3
  go_wp2_with fail
  refine (K4.out _ (fatB FF.out B3)).mono ?_
  rintro r w4 ⟨rfl, b4⟩
  have B4 : Below w.heap.size w w4 := btr B3 b4
  have Ra_4 := heap_of b4 _ _ _ Ra_3
  have Rb_4 := heap_of b4 _ _ _ Rb_3
  have Rc_4 := heap_of b4 _ _ _ Rc_3
  clear b4 B3 Ra_3 ca_3_0 ca_3_1 Rb_3 cb_3_0 cb_3_1 Rc_3 cc_3_0 cc_3_1
  obtain ⟨ca_4_0, ca_4_1⟩ := cells2s Ra_4
  obtain ⟨cb_4_0, cb_4_1⟩ := cells2s Rb_4
  obtain ⟨cc_4_0, cc_4_1⟩ := cells2s Rc_4
  go_wp2_with fail
  refine (KA.out _ (fatB FF.out B4)).mono ?_
  rintro r w5 ⟨rfl, b5⟩
  have B5 : Below w.heap.size w w5 := btr B4 b5
  have Ra_5 := heap_of b5 _ _ _ Ra_4
  have Rb_5 := heap_of b5 _ _ _ Rb_4
  have Rc_5 := heap_of b5 _ _ _ Rc_4
  clear b5 B4 Ra_4 ca_4_0 ca_4_1 Rb_4 cb_4_0 cb_4_1 Rc_4 cc_4_0 cc_4_1
  obtain ⟨ca_5_0, ca_5_1⟩ := cells2s Ra_5
  obtain ⟨cb_5_0, cb_5_1⟩ := cells2s Rb_5
  obtain ⟨cc_5_0, cc_5_1⟩ := cells2s Rc_5
  go_wp2
  go_ret
  exact ⟨rfl, B5⟩
set_option maxRecDepth 100000 in
set_option maxHeartbeats 8000000 in
theorem ot_err2 (f : Int) (x1 y1 x2 y2 x3 y3 : Nat) (p q zz ww : Int) (w : World)
    (K1 : Box (∀ w, FAt w → Calls Tryd.prog 22 #[.int .u8 f, .agg #[.int .u64 (x1 : Nat), .int .u64 (y1 : Nat)], .agg #[.int .u64 (x2 : Nat), .int .u64 (y2 : Nat)]] w fun r w' => r = .returned (.tuple #[.int .i64 p, .int .i64 0]) ∧ Below w.heap.size w w'))
    (K2 : Box (∀ w, FAt w → Calls Tryd.prog 22 #[.int .u8 f, .agg #[.int .u64 (x2 : Nat), .int .u64 (y2 : Nat)], .agg #[.int .u64 (x1 : Nat), .int .u64 (y1 : Nat)]] w fun r w' => r = .returned (.tuple #[.int .i64 q, .int .i64 0]) ∧ Below w.heap.size w w'))
    (K3 : Box (∀ w, FAt w → Calls Tryd.prog 22 #[.int .u8 f, .agg #[.int .u64 (x2 : Nat), .int .u64 (y2 : Nat)], .agg #[.int .u64 (x3 : Nat), .int .u64 (y3 : Nat)]] w fun r w' => r = .returned (.tuple #[.int .i64 zz, .int .i64 2]) ∧ Below w.heap.size w w'))
    (K4 : Box (∀ w, FAt w → Calls Tryd.prog 22 #[.int .u8 f, .agg #[.int .u64 (x1 : Nat), .int .u64 (y1 : Nat)], .agg #[.int .u64 (x3 : Nat), .int .u64 (y3 : Nat)]] w fun r w' => r = .returned (.tuple #[.int .i64 ww, .int .i64 2]) ∧ Below w.heap.size w w'))
    (KA : Box (∀ w, FAt w → Calls Tryd.prog 13 #[] w fun r w' => r = .returned (.bool true) ∧ Below w.heap.size w w'))
    (hT : FAt w) : Calls Tryd.prog 6 #[.int .u8 f, .agg #[.int .u64 (x1 : Nat), .int .u64 (y1 : Nat)], .agg #[.int .u64 (x2 : Nat), .int .u64 (y2 : Nat)], .agg #[.int .u64 (x3 : Nat), .int .u64 (y3 : Nat)]] w fun r w' => r = .returned (.bool true) ∧ Below w.heap.size w w' := by
  have FF := box hT
  clear hT
  obtain ⟨Ra_0, Rb_0, Rc_0, B0⟩ := opn3 w (Obj.cells #[.int .u64 (x1 : Nat), .int .u64 (y1 : Nat)] 25) (Obj.cells #[.int .u64 (x2 : Nat), .int .u64 (y2 : Nat)] 25) (Obj.cells #[.int .u64 (x3 : Nat), .int .u64 (y3 : Nat)] 25)
  go_enter Tryd.func6, Tryd.ntmps6
  obtain ⟨ca_0_0, ca_0_1⟩ := cells2s Ra_0
  obtain ⟨cb_0_0, cb_0_1⟩ := cells2s Rb_0
  obtain ⟨cc_0_0, cc_0_1⟩ := cells2s Rc_0
  go_wp2_with fail
  refine (K1.out _ (fatB FF.out B0)).mono ?_
  rintro r w1 ⟨rfl, b1⟩
  have B1 : Below w.heap.size w w1 := btr B0 b1
  have Ra_1 := heap_of b1 _ _ _ Ra_0
  have Rb_1 := heap_of b1 _ _ _ Rb_0
  have Rc_1 := heap_of b1 _ _ _ Rc_0
  clear b1 B0 Ra_0 ca_0_0 ca_0_1 Rb_0 cb_0_0 cb_0_1 Rc_0 cc_0_0 cc_0_1
  obtain ⟨ca_1_0, ca_1_1⟩ := cells2s Ra_1
  obtain ⟨cb_1_0, cb_1_1⟩ := cells2s Rb_1
  obtain ⟨cc_1_0, cc_1_1⟩ := cells2s Rc_1
  go_wp2_with fail
  refine (K2.out _ (fatB FF.out B1)).mono ?_
  rintro r w2 ⟨rfl, b2⟩
  have B2 : Below w.heap.size w w2 := btr B1 b2
  have Ra_2 := heap_of b2 _ _ _ Ra_1
  have Rb_2 := heap_of b2 _ _ _ Rb_1
  have Rc_2 := heap_of b2 _ _ _ Rc_1
  clear b2 B1 Ra_1 ca_1_0 ca_1_1 Rb_1 cb_1_0 cb_1_1 Rc_1 cc_1_0 cc_1_1
  obtain ⟨ca_2_0, ca_2_1⟩ := cells2s Ra_2
  obtain ⟨cb_2_0, cb_2_1⟩ := cells2s Rb_2
  obtain ⟨cc_2_0, cc_2_1⟩ := cells2s Rc_2
  go_wp2_with fail
  refine (K3.out _ (fatB FF.out B2)).mono ?_
  rintro r w3 ⟨rfl, b3⟩
  have B3 : Below w.heap.size w w3 := btr B2 b3
  have Ra_3 := heap_of b3 _ _ _ Ra_2
  have Rb_3 := heap_of b3 _ _ _ Rb_2
  have Rc_3 := heap_of b3 _ _ _ Rc_2
  clear b3 B2 Ra_2 ca_2_0 ca_2_1 Rb_2 cb_2_0 cb_2_1 Rc_2 cc_2_0 cc_2_1
  obtain ⟨ca_3_0, ca_3_1⟩ := cells2s Ra_3
  obtain ⟨cb_3_0, cb_3_1⟩ := cells2s Rb_3
  obtain ⟨cc_3_0, cc_3_1⟩ := cells2s Rc_3
  go_wp2_with fail
  refine (K4.out _ (fatB FF.out B3)).mono ?_
  rintro r w4 ⟨rfl, b4⟩
  have B4 : Below w.heap.size w w4 := btr B3 b4
  have Ra_4 := heap_of b4 _ _ _ Ra_3
  have Rb_4 := heap_of b4 _ _ _ Rb_3
  have Rc_4 := heap_of b4 _ _ _ Rc_3
  clear b4 B3 Ra_3 ca_3_0 ca_3_1 Rb_3 cb_3_0 cb_3_1 Rc_3 cc_3_0 cc_3_1
  obtain ⟨ca_4_0, ca_4_1⟩ := cells2s Ra_4
  obtain ⟨cb_4_0, cb_4_1⟩ := cells2s Rb_4
  obtain ⟨cc_4_0, cc_4_1⟩ := cells2s Rc_4
  go_wp2_with fail
  refine (KA.out _ (fatB FF.out B4)).mono ?_
  rintro r w5 ⟨rfl, b5⟩
  have B5 : Below w.heap.size w w5 := btr B4 b5
  have Ra_5 := heap_of b5 _ _ _ Ra_4
  have Rb_5 := heap_of b5 _ _ _ Rb_4
  have Rc_5 := heap_of b5 _ _ _ Rc_4
  clear b5 B4 Ra_4 ca_4_0 ca_4_1 Rb_4 cb_4_0 cb_4_1 Rc_4 cc_4_0 cc_4_1
  obtain ⟨ca_5_0, ca_5_1⟩ := cells2s Ra_5
  obtain ⟨cb_5_0, cb_5_1⟩ := cells2s Rb_5
  obtain ⟨cc_5_0, cc_5_1⟩ := cells2s Rc_5
  go_wp2
  go_ret
  exact ⟨rfl, B5⟩
set_option maxRecDepth 100000 in
set_option maxHeartbeats 8000000 in
theorem ot_yes_p_a0 (f : Int) (x1 y1 x2 y2 x3 y3 : Nat) (zz ww : Int)  (he : ebb (x1 : Nat) (y1 : Nat) (x2 : Nat) (y2 : Nat) = false) (w : World)
    (K1 : Box (∀ w, FAt w → Calls Tryd.prog 22 #[.int .u8 f, .agg #[.int .u64 (x1 : Nat), .int .u64 (y1 : Nat)], .agg #[.int .u64 (x2 : Nat), .int .u64 (y2 : Nat)]] w fun r w' => r = .returned (.tuple #[.int .i64 1, .int .i64 0]) ∧ Below w.heap.size w w'))
    (K2 : Box (∀ w, FAt w → Calls Tryd.prog 22 #[.int .u8 f, .agg #[.int .u64 (x2 : Nat), .int .u64 (y2 : Nat)], .agg #[.int .u64 (x1 : Nat), .int .u64 (y1 : Nat)]] w fun r w' => r = .returned (.tuple #[.int .i64 (-1), .int .i64 0]) ∧ Below w.heap.size w w'))
    (K3 : Box (∀ w, FAt w → Calls Tryd.prog 22 #[.int .u8 f, .agg #[.int .u64 (x2 : Nat), .int .u64 (y2 : Nat)], .agg #[.int .u64 (x3 : Nat), .int .u64 (y3 : Nat)]] w fun r w' => r = .returned (.tuple #[.int .i64 zz, .int .i64 0]) ∧ Below w.heap.size w w'))
    (K4 : Box (∀ w, FAt w → Calls Tryd.prog 22 #[.int .u8 f, .agg #[.int .u64 (x1 : Nat), .int .u64 (y1 : Nat)], .agg #[.int .u64 (x3 : Nat), .int .u64 (y3 : Nat)]] w fun r w' => r = .returned (.tuple #[.int .i64 ww, .int .i64 0]) ∧ Below w.heap.size w w'))
    (K5 : Box (∀ w, FAt w → Calls Tryd.prog 8 #[.int .u8 f, .agg #[.int .u64 (x1 : Nat), .int .u64 (y1 : Nat)], .agg #[.int .u64 (x2 : Nat), .int .u64 (y2 : Nat)]] w fun r w' => r = .returned (.tuple #[.int .u8 0, .int .i64 0]) ∧ Below w.heap.size w w'))
    (KA : Box (∀ w, FAt w → Calls Tryd.prog 13 #[] w fun r w' => r = .returned (.bool true) ∧ Below w.heap.size w w'))
    (hT : FAt w) : Calls Tryd.prog 6 #[.int .u8 f, .agg #[.int .u64 (x1 : Nat), .int .u64 (y1 : Nat)], .agg #[.int .u64 (x2 : Nat), .int .u64 (y2 : Nat)], .agg #[.int .u64 (x3 : Nat), .int .u64 (y3 : Nat)]] w fun r w' => r = .returned (.bool true) ∧ Below w.heap.size w w' := by
  have FF := box hT
  clear hT
  obtain ⟨Ra_0, Rb_0, Rc_0, B0⟩ := opn3 w (Obj.cells #[.int .u64 (x1 : Nat), .int .u64 (y1 : Nat)] 25) (Obj.cells #[.int .u64 (x2 : Nat), .int .u64 (y2 : Nat)] 25) (Obj.cells #[.int .u64 (x3 : Nat), .int .u64 (y3 : Nat)] 25)
  go_enter Tryd.func6, Tryd.ntmps6
  obtain ⟨ca_0_0, ca_0_1⟩ := cells2s Ra_0
  obtain ⟨cb_0_0, cb_0_1⟩ := cells2s Rb_0
  obtain ⟨cc_0_0, cc_0_1⟩ := cells2s Rc_0
  have hE := eqb
  go_wp2_with fail
  refine (K1.out _ (fatB FF.out B0)).mono ?_
  rintro r w1 ⟨rfl, b1⟩
  have B1 : Below w.heap.size w w1 := btr B0 b1
  have Ra_1 := heap_of b1 _ _ _ Ra_0
  have Rb_1 := heap_of b1 _ _ _ Rb_0
  have Rc_1 := heap_of b1 _ _ _ Rc_0
  clear b1 B0 Ra_0 ca_0_0 ca_0_1 Rb_0 cb_0_0 cb_0_1 Rc_0 cc_0_0 cc_0_1
  obtain ⟨ca_1_0, ca_1_1⟩ := cells2s Ra_1
  obtain ⟨cb_1_0, cb_1_1⟩ := cells2s Rb_1
  obtain ⟨cc_1_0, cc_1_1⟩ := cells2s Rc_1
  go_wp2_with fail
  refine (K2.out _ (fatB FF.out B1)).mono ?_
  rintro r w2 ⟨rfl, b2⟩
  have B2 : Below w.heap.size w w2 := btr B1 b2
  have Ra_2 := heap_of b2 _ _ _ Ra_1
  have Rb_2 := heap_of b2 _ _ _ Rb_1
  have Rc_2 := heap_of b2 _ _ _ Rc_1
  clear b2 B1 Ra_1 ca_1_0 ca_1_1 Rb_1 cb_1_0 cb_1_1 Rc_1 cc_1_0 cc_1_1
  obtain ⟨ca_2_0, ca_2_1⟩ := cells2s Ra_2
  obtain ⟨cb_2_0, cb_2_1⟩ := cells2s Rb_2
  obtain ⟨cc_2_0, cc_2_1⟩ := cells2s Rc_2
  go_wp2_with fail
  refine (K3.out _ (fatB FF.out B2)).mono ?_
  rintro r w3 ⟨rfl, b3⟩
  have B3 : Below w.heap.size w w3 := btr B2 b3
  have Ra_3 := heap_of b3 _ _ _ Ra_2
  have Rb_3 := heap_of b3 _ _ _ Rb_2
  have Rc_3 := heap_of b3 _ _ _ Rc_2
  clear b3 B2 Ra_2 ca_2_0 ca_2_1 Rb_2 cb_2_0 cb_2_1 Rc_2 cc_2_0 cc_2_1
  obtain ⟨ca_3_0, ca_3_1⟩ := cells2s Ra_3
  obtain ⟨cb_3_0, cb_3_1⟩ := cells2s Rb_3
  obtain ⟨cc_3_0, cc_3_1⟩ := cells2s Rc_3
  go_wp2_with fail
  refine (K4.out _ (fatB FF.out B3)).mono ?_
  rintro r w4 ⟨rfl, b4⟩
  have B4 : Below w.heap.size w w4 := btr B3 b4
  have Ra_4 := heap_of b4 _ _ _ Ra_3
  have Rb_4 := heap_of b4 _ _ _ Rb_3
  have Rc_4 := heap_of b4 _ _ _ Rc_3
  clear b4 B3 Ra_3 ca_3_0 ca_3_1 Rb_3 cb_3_0 cb_3_1 Rc_3 cc_3_0 cc_3_1
  obtain ⟨ca_4_0, ca_4_1⟩ := cells2s Ra_4
  obtain ⟨cb_4_0, cb_4_1⟩ := cells2s Rb_4
  obtain ⟨cc_4_0, cc_4_1⟩ := cells2s Rc_4
  go_wp2_with fail
  refine (K5.out _ (fatB FF.out B4)).mono ?_
  rintro r w5 ⟨rfl, b5⟩
  have B5 : Below w.heap.size w w5 := btr B4 b5
  have Ra_5 := heap_of b5 _ _ _ Ra_4
  have Rb_5 := heap_of b5 _ _ _ Rb_4
  have Rc_5 := heap_of b5 _ _ _ Rc_4
  clear b5 B4 Ra_4 ca_4_0 ca_4_1 Rb_4 cb_4_0 cb_4_1 Rc_4 cc_4_0 cc_4_1
  obtain ⟨ca_5_0, ca_5_1⟩ := cells2s Ra_5
  obtain ⟨cb_5_0, cb_5_1⟩ := cells2s Rb_5
  obtain ⟨cc_5_0, cc_5_1⟩ := cells2s Rc_5
  go_wp2_with fail
  refine (KA.out _ (fatB FF.out B5)).mono ?_
  rintro r w6 ⟨rfl, b6⟩
  have B6 : Below w.heap.size w w6 := btr B5 b6
  have Ra_6 := heap_of b6 _ _ _ Ra_5
  have Rb_6 := heap_of b6 _ _ _ Rb_5
  have Rc_6 := heap_of b6 _ _ _ Rc_5
  clear b6 B5 Ra_5 ca_5_0 ca_5_1 Rb_5 cb_5_0 cb_5_1 Rc_5 cc_5_0 cc_5_1
  obtain ⟨ca_6_0, ca_6_1⟩ := cells2s Ra_6
  obtain ⟨cb_6_0, cb_6_1⟩ := cells2s Rb_6
  obtain ⟨cc_6_0, cc_6_1⟩ := cells2s Rc_6
  go_wp2
  go_ret
  exact ⟨rfl, B6⟩
set_option maxRecDepth 100000 in
set_option maxHeartbeats 8000000 in
theorem ot_yes_p_a2 (f : Int) (x1 y1 x2 y2 x3 y3 : Nat) (zz ww : Int)  (he : ebb (x1 : Nat) (y1 : Nat) (x2 : Nat) (y2 : Nat) = false) (w : World)
    (K1 : Box (∀ w, FAt w → Calls Tryd.prog 22 #[.int .u8 f, .agg #[.int .u64 (x1 : Nat), .int .u64 (y1 : Nat)], .agg #[.int .u64 (x2 : Nat), .int .u64 (y2 : Nat)]] w fun r w' => r = .returned (.tuple #[.int .i64 1, .int .i64 0]) ∧ Below w.heap.size w w'))
    (K2 : Box (∀ w, FAt w → Calls Tryd.prog 22 #[.int .u8 f, .agg #[.int .u64 (x2 : Nat), .int .u64 (y2 : Nat)], .agg #[.int .u64 (x1 : Nat), .int .u64 (y1 : Nat)]] w fun r w' => r = .returned (.tuple #[.int .i64 (-1), .int .i64 0]) ∧ Below w.heap.size w w'))
    (K3 : Box (∀ w, FAt w → Calls Tryd.prog 22 #[.int .u8 f, .agg #[.int .u64 (x2 : Nat), .int .u64 (y2 : Nat)], .agg #[.int .u64 (x3 : Nat), .int .u64 (y3 : Nat)]] w fun r w' => r = .returned (.tuple #[.int .i64 zz, .int .i64 0]) ∧ Below w.heap.size w w'))
    (K4 : Box (∀ w, FAt w → Calls Tryd.prog 22 #[.int .u8 f, .agg #[.int .u64 (x1 : Nat), .int .u64 (y1 : Nat)], .agg #[.int .u64 (x3 : Nat), .int .u64 (y3 : Nat)]] w fun r w' => r = .returned (.tuple #[.int .i64 ww, .int .i64 0]) ∧ Below w.heap.size w w'))
    (K5 : Box (∀ w, FAt w → Calls Tryd.prog 8 #[.int .u8 f, .agg #[.int .u64 (x1 : Nat), .int .u64 (y1 : Nat)], .agg #[.int .u64 (x2 : Nat), .int .u64 (y2 : Nat)]] w fun r w' => r = .returned (.tuple #[.int .u8 2, .int .i64 0]) ∧ Below w.heap.size w w'))
    (KA : Box (∀ w, FAt w → Calls Tryd.prog 13 #[] w fun r w' => r = .returned (.bool true) ∧ Below w.heap.size w w'))
    (hT : FAt w) : Calls Tryd.prog 6 #[.int .u8 f, .agg #[.int .u64 (x1 : Nat), .int .u64 (y1 : Nat)], .agg #[.int .u64 (x2 : Nat), .int .u64 (y2 : Nat)], .agg #[.int .u64 (x3 : Nat), .int .u64 (y3 : Nat)]] w fun r w' => r = .returned (.bool true) ∧ Below w.heap.size w w' := by
  have FF := box hT
  clear hT
  obtain ⟨Ra_0, Rb_0, Rc_0, B0⟩ := opn3 w (Obj.cells #[.int .u64 (x1 : Nat), .int .u64 (y1 : Nat)] 25) (Obj.cells #[.int .u64 (x2 : Nat), .int .u64 (y2 : Nat)] 25) (Obj.cells #[.int .u64 (x3 : Nat), .int .u64 (y3 : Nat)] 25)
  go_enter Tryd.func6, Tryd.ntmps6
  obtain ⟨ca_0_0, ca_0_1⟩ := cells2s Ra_0
  obtain ⟨cb_0_0, cb_0_1⟩ := cells2s Rb_0
  obtain ⟨cc_0_0, cc_0_1⟩ := cells2s Rc_0
  have hE := eqb
  go_wp2_with fail
  refine (K1.out _ (fatB FF.out B0)).mono ?_
  rintro r w1 ⟨rfl, b1⟩
  have B1 : Below w.heap.size w w1 := btr B0 b1
  have Ra_1 := heap_of b1 _ _ _ Ra_0
  have Rb_1 := heap_of b1 _ _ _ Rb_0
  have Rc_1 := heap_of b1 _ _ _ Rc_0
  clear b1 B0 Ra_0 ca_0_0 ca_0_1 Rb_0 cb_0_0 cb_0_1 Rc_0 cc_0_0 cc_0_1
  obtain ⟨ca_1_0, ca_1_1⟩ := cells2s Ra_1
  obtain ⟨cb_1_0, cb_1_1⟩ := cells2s Rb_1
  obtain ⟨cc_1_0, cc_1_1⟩ := cells2s Rc_1
  go_wp2_with fail
  refine (K2.out _ (fatB FF.out B1)).mono ?_
  rintro r w2 ⟨rfl, b2⟩
  have B2 : Below w.heap.size w w2 := btr B1 b2
  have Ra_2 := heap_of b2 _ _ _ Ra_1
  have Rb_2 := heap_of b2 _ _ _ Rb_1
  have Rc_2 := heap_of b2 _ _ _ Rc_1
  clear b2 B1 Ra_1 ca_1_0 ca_1_1 Rb_1 cb_1_0 cb_1_1 Rc_1 cc_1_0 cc_1_1
  obtain ⟨ca_2_0, ca_2_1⟩ := cells2s Ra_2
  obtain ⟨cb_2_0, cb_2_1⟩ := cells2s Rb_2
  obtain ⟨cc_2_0, cc_2_1⟩ := cells2s Rc_2
  go_wp2_with fail
  refine (K3.out _ (fatB FF.out B2)).mono ?_
  rintro r w3 ⟨rfl, b3⟩
  have B3 : Below w.heap.size w w3 := btr B2 b3
  have Ra_3 := heap_of b3 _ _ _ Ra_2
  have Rb_3 := heap_of b3 _ _ _ Rb_2
  have Rc_3 := heap_of b3 _ _ _ Rc_2
  clear b3 B2 Ra_2 ca_2_0 ca_2_1 Rb_2 cb_2_0 cb_2_1 Rc_2 cc_2_0 cc_2_1
  obtain ⟨ca_3_0, ca_3_1⟩ := cells2s Ra_3
  obtain ⟨cb_3_0, cb_3_1⟩ := cells2s Rb_3
  obtain ⟨cc_3_0, cc_3_1⟩ := cells2s Rc_3
  go_wp2_with fail
  refine (K4.out _ (fatB FF.out B3)).mono ?_
  rintro r w4 ⟨rfl, b4⟩
  have B4 : Below w.heap.size w w4 := btr B3 b4
  have Ra_4 := heap_of b4 _ _ _ Ra_3
  have Rb_4 := heap_of b4 _ _ _ Rb_3
  have Rc_4 := heap_of b4 _ _ _ Rc_3
  clear b4 B3 Ra_3 ca_3_0 ca_3_1 Rb_3 cb_3_0 cb_3_1 Rc_3 cc_3_0 cc_3_1
  obtain ⟨ca_4_0, ca_4_1⟩ := cells2s Ra_4
  obtain ⟨cb_4_0, cb_4_1⟩ := cells2s Rb_4
  obtain ⟨cc_4_0, cc_4_1⟩ := cells2s Rc_4
  go_wp2_with fail
  refine (K5.out _ (fatB FF.out B4)).mono ?_
  rintro r w5 ⟨rfl, b5⟩
  have B5 : Below w.heap.size w w5 := btr B4 b5
  have Ra_5 := heap_of b5 _ _ _ Ra_4
  have Rb_5 := heap_of b5 _ _ _ Rb_4
  have Rc_5 := heap_of b5 _ _ _ Rc_4
  clear b5 B4 Ra_4 ca_4_0 ca_4_1 Rb_4 cb_4_0 cb_4_1 Rc_4 cc_4_0 cc_4_1
  obtain ⟨ca_5_0, ca_5_1⟩ := cells2s Ra_5
  obtain ⟨cb_5_0, cb_5_1⟩ := cells2s Rb_5
  obtain ⟨cc_5_0, cc_5_1⟩ := cells2s Rc_5
  go_wp2_with fail
  refine (KA.out _ (fatB FF.out B5)).mono ?_
  rintro r w6 ⟨rfl, b6⟩
  have B6 : Below w.heap.size w w6 := btr B5 b6
  have Ra_6 := heap_of b6 _ _ _ Ra_5
  have Rb_6 := heap_of b6 _ _ _ Rb_5
  have Rc_6 := heap_of b6 _ _ _ Rc_5
  clear b6 B5 Ra_5 ca_5_0 ca_5_1 Rb_5 cb_5_0 cb_5_1 Rc_5 cc_5_0 cc_5_1
  obtain ⟨ca_6_0, ca_6_1⟩ := cells2s Ra_6
  obtain ⟨cb_6_0, cb_6_1⟩ := cells2s Rb_6
  obtain ⟨cc_6_0, cc_6_1⟩ := cells2s Rc_6
  go_wp2
  go_ret
  exact ⟨rfl, B6⟩
set_option maxRecDepth 100000 in
set_option maxHeartbeats 8000000 in
theorem ot_yes_p_a3 (f : Int) (x1 y1 x2 y2 x3 y3 : Nat) (zz ww : Int)  (he : ebb (x1 : Nat) (y1 : Nat) (x2 : Nat) (y2 : Nat) = false) (w : World)
    (K1 : Box (∀ w, FAt w → Calls Tryd.prog 22 #[.int .u8 f, .agg #[.int .u64 (x1 : Nat), .int .u64 (y1 : Nat)], .agg #[.int .u64 (x2 : Nat), .int .u64 (y2 : Nat)]] w fun r w' => r = .returned (.tuple #[.int .i64 1, .int .i64 0]) ∧ Below w.heap.size w w'))
    (K2 : Box (∀ w, FAt w → Calls Tryd.prog 22 #[.int .u8 f, .agg #[.int .u64 (x2 : Nat), .int .u64 (y2 : Nat)], .agg #[.int .u64 (x1 : Nat), .int .u64 (y1 : Nat)]] w fun r w' => r = .returned (.tuple #[.int .i64 (-1), .int .i64 0]) ∧ Below w.heap.size w w'))
    (K3 : Box (∀ w, FAt w → Calls Tryd.prog 22 #[.int .u8 f, .agg #[.int .u64 (x2 : Nat), .int .u64 (y2 : Nat)], .agg #[.int .u64 (x3 : Nat), .int .u64 (y3 : Nat)]] w fun r w' => r = .returned (.tuple #[.int .i64 zz, .int .i64 0]) ∧ Below w.heap.size w w'))
    (K4 : Box (∀ w, FAt w → Calls Tryd.prog 22 #[.int .u8 f, .agg #[.int .u64 (x1 : Nat), .int .u64 (y1 : Nat)], .agg #[.int .u64 (x3 : Nat), .int .u64 (y3 : Nat)]] w fun r w' => r = .returned (.tuple #[.int .i64 ww, .int .i64 0]) ∧ Below w.heap.size w w'))
    (K5 : Box (∀ w, FAt w → Calls Tryd.prog 8 #[.int .u8 f, .agg #[.int .u64 (x1 : Nat), .int .u64 (y1 : Nat)], .agg #[.int .u64 (x2 : Nat), .int .u64 (y2 : Nat)]] w fun r w' => r = .returned (.tuple #[.int .u8 3, .int .i64 0]) ∧ Below w.heap.size w w'))
    (KA : Box (∀ w, FAt w → Calls Tryd.prog 13 #[] w fun r w' => r = .returned (.bool true) ∧ Below w.heap.size w w'))
    (hT : FAt w) : Calls Tryd.prog 6 #[.int .u8 f, .agg #[.int .u64 (x1 : Nat), .int .u64 (y1 : Nat)], .agg #[.int .u64 (x2 : Nat), .int .u64 (y2 : Nat)], .agg #[.int .u64 (x3 : Nat), .int .u64 (y3 : Nat)]] w fun r w' => r = .returned (.bool true) ∧ Below w.heap.size w w' := by
  have FF := box hT
  clear hT
  obtain ⟨Ra_0, Rb_0, Rc_0, B0⟩ := opn3 w (Obj.cells #[.int .u64 (x1 : Nat), .int .u64 (y1 : Nat)] 25) (Obj.cells #[.int .u64 (x2 : Nat), .int .u64 (y2 : Nat)] 25) (Obj.cells #[.int .u64 (x3 : Nat), .int .u64 (y3 : Nat)] 25)
  go_enter Tryd.func6, Tryd.ntmps6
  obtain ⟨ca_0_0, ca_0_1⟩ := cells2s Ra_0
  obtain ⟨cb_0_0, cb_0_1⟩ := cells2s Rb_0
  obtain ⟨cc_0_0, cc_0_1⟩ := cells2s Rc_0
  have hE := eqb
  go_wp2_with fail
  refine (K1.out _ (fatB FF.out B0)).mono ?_
  rintro r w1 ⟨rfl, b1⟩
  have B1 : Below w.heap.size w w1 := btr B0 b1
  have Ra_1 := heap_of b1 _ _ _ Ra_0
  have Rb_1 := heap_of b1 _ _ _ Rb_0
  have Rc_1 := heap_of b1 _ _ _ Rc_0
  clear b1 B0 Ra_0 ca_0_0 ca_0_1 Rb_0 cb_0_0 cb_0_1 Rc_0 cc_0_0 cc_0_1
  obtain ⟨ca_1_0, ca_1_1⟩ := cells2s Ra_1
  obtain ⟨cb_1_0, cb_1_1⟩ := cells2s Rb_1
  obtain ⟨cc_1_0, cc_1_1⟩ := cells2s Rc_1
  go_wp2_with fail
  refine (K2.out _ (fatB FF.out B1)).mono ?_
  rintro r w2 ⟨rfl, b2⟩
  have B2 : Below w.heap.size w w2 := btr B1 b2
  have Ra_2 := heap_of b2 _ _ _ Ra_1
  have Rb_2 := heap_of b2 _ _ _ Rb_1
  have Rc_2 := heap_of b2 _ _ _ Rc_1
  clear b2 B1 Ra_1 ca_1_0 ca_1_1 Rb_1 cb_1_0 cb_1_1 Rc_1 cc_1_0 cc_1_1
  obtain ⟨ca_2_0, ca_2_1⟩ := cells2s Ra_2
  obtain ⟨cb_2_0, cb_2_1⟩ := cells2s Rb_2
  obtain ⟨cc_2_0, cc_2_1⟩ := cells2s Rc_2
  go_wp2_with fail
  refine (K3.out _ (fatB FF.out B2)).mono ?_
  rintro r w3 ⟨rfl, b3⟩
  have B3 : Below w.heap.size w w3 := btr B2 b3
  have Ra_3 := heap_of b3 _ _ _ Ra_2
  have Rb_3 := heap_of b3 _ _ _ Rb_2
  have Rc_3 := heap_of b3 _ _ _ Rc_2
  clear b3 B2 Ra_2 ca_2_0 ca_2_1 Rb_2 cb_2_0 cb_2_1 Rc_2 cc_2_0 cc_2_1
  obtain ⟨ca_3_0, ca_3_1⟩ := cells2s Ra_3
  obtain ⟨cb_3_0, cb_3_1⟩ := cells2s Rb_3
  obtain ⟨cc_3_0, cc_3_1⟩ := cells2s Rc_3
  go_wp2_with fail
  refine (K4.out _ (fatB FF.out B3)).mono ?_
  rintro r w4 ⟨rfl, b4⟩
  have B4 : Below w.heap.size w w4 := btr B3 b4
  have Ra_4 := heap_of b4 _ _ _ Ra_3
  have Rb_4 := heap_of b4 _ _ _ Rb_3
  have Rc_4 := heap_of b4 _ _ _ Rc_3
  clear b4 B3 Ra_3 ca_3_0 ca_3_1 Rb_3 cb_3_0 cb_3_1 Rc_3 cc_3_0 cc_3_1
  obtain ⟨ca_4_0, ca_4_1⟩ := cells2s Ra_4
  obtain ⟨cb_4_0, cb_4_1⟩ := cells2s Rb_4
  obtain ⟨cc_4_0, cc_4_1⟩ := cells2s Rc_4
  go_wp2_with fail
  refine (K5.out _ (fatB FF.out B4)).mono ?_
  rintro r w5 ⟨rfl, b5⟩
  have B5 : Below w.heap.size w w5 := btr B4 b5
  have Ra_5 := heap_of b5 _ _ _ Ra_4
  have Rb_5 := heap_of b5 _ _ _ Rb_4
  have Rc_5 := heap_of b5 _ _ _ Rc_4
  clear b5 B4 Ra_4 ca_4_0 ca_4_1 Rb_4 cb_4_0 cb_4_1 Rc_4 cc_4_0 cc_4_1
  obtain ⟨ca_5_0, ca_5_1⟩ := cells2s Ra_5
  obtain ⟨cb_5_0, cb_5_1⟩ := cells2s Rb_5
  obtain ⟨cc_5_0, cc_5_1⟩ := cells2s Rc_5
  go_wp2_with fail
  refine (KA.out _ (fatB FF.out B5)).mono ?_
  rintro r w6 ⟨rfl, b6⟩
  have B6 : Below w.heap.size w w6 := btr B5 b6
  have Ra_6 := heap_of b6 _ _ _ Ra_5
  have Rb_6 := heap_of b6 _ _ _ Rb_5
  have Rc_6 := heap_of b6 _ _ _ Rc_5
  clear b6 B5 Ra_5 ca_5_0 ca_5_1 Rb_5 cb_5_0 cb_5_1 Rc_5 cc_5_0 cc_5_1
  obtain ⟨ca_6_0, ca_6_1⟩ := cells2s Ra_6
  obtain ⟨cb_6_0, cb_6_1⟩ := cells2s Rb_6
  obtain ⟨cc_6_0, cc_6_1⟩ := cells2s Rc_6
  go_wp2
  go_ret
  exact ⟨rfl, B6⟩
set_option maxRecDepth 100000 in
set_option maxHeartbeats 8000000 in
theorem ot_yes_m_z0 (f : Int) (x1 y1 x2 y2 x3 y3 : Nat) (zz ww : Int) (hz : decide (zz ≤ 0) = false) (he : ebb (x1 : Nat) (y1 : Nat) (x2 : Nat) (y2 : Nat) = false) (w : World)
    (K1 : Box (∀ w, FAt w → Calls Tryd.prog 22 #[.int .u8 f, .agg #[.int .u64 (x1 : Nat), .int .u64 (y1 : Nat)], .agg #[.int .u64 (x2 : Nat), .int .u64 (y2 : Nat)]] w fun r w' => r = .returned (.tuple #[.int .i64 (-1), .int .i64 0]) ∧ Below w.heap.size w w'))
    (K2 : Box (∀ w, FAt w → Calls Tryd.prog 22 #[.int .u8 f, .agg #[.int .u64 (x2 : Nat), .int .u64 (y2 : Nat)], .agg #[.int .u64 (x1 : Nat), .int .u64 (y1 : Nat)]] w fun r w' => r = .returned (.tuple #[.int .i64 1, .int .i64 0]) ∧ Below w.heap.size w w'))
    (K3 : Box (∀ w, FAt w → Calls Tryd.prog 22 #[.int .u8 f, .agg #[.int .u64 (x2 : Nat), .int .u64 (y2 : Nat)], .agg #[.int .u64 (x3 : Nat), .int .u64 (y3 : Nat)]] w fun r w' => r = .returned (.tuple #[.int .i64 zz, .int .i64 0]) ∧ Below w.heap.size w w'))
    (K4 : Box (∀ w, FAt w → Calls Tryd.prog 22 #[.int .u8 f, .agg #[.int .u64 (x1 : Nat), .int .u64 (y1 : Nat)], .agg #[.int .u64 (x3 : Nat), .int .u64 (y3 : Nat)]] w fun r w' => r = .returned (.tuple #[.int .i64 ww, .int .i64 0]) ∧ Below w.heap.size w w'))
    (K5 : Box (∀ w, FAt w → Calls Tryd.prog 8 #[.int .u8 f, .agg #[.int .u64 (x1 : Nat), .int .u64 (y1 : Nat)], .agg #[.int .u64 (x2 : Nat), .int .u64 (y2 : Nat)]] w fun r w' => r = .returned (.tuple #[.int .u8 0, .int .i64 0]) ∧ Below w.heap.size w w'))
    (KA : Box (∀ w, FAt w → Calls Tryd.prog 13 #[] w fun r w' => r = .returned (.bool true) ∧ Below w.heap.size w w'))
    (hT : FAt w) : Calls Tryd.prog 6 #[.int .u8 f, .agg #[.int .u64 (x1 : Nat), .int .u64 (y1 : Nat)], .agg #[.int .u64 (x2 : Nat), .int .u64 (y2 : Nat)], .agg #[.int .u64 (x3 : Nat), .int .u64 (y3 : Nat)]] w fun r w' => r = .returned (.bool true) ∧ Below w.heap.size w w' := by
  have FF := box hT
  clear hT
  obtain ⟨Ra_0, Rb_0, Rc_0, B0⟩ := opn3 w (Obj.cells #[.int .u64 (x1 : Nat), .int .u64 (y1 : Nat)] 25) (Obj.cells #[.int .u64 (x2 : Nat), .int .u64 (y2 : Nat)] 25) (Obj.cells #[.int .u64 (x3 : Nat), .int .u64 (y3 : Nat)] 25)
  go_enter Tryd.func6, Tryd.ntmps6
  obtain ⟨ca_0_0, ca_0_1⟩ := cells2s Ra_0
  obtain ⟨cb_0_0, cb_0_1⟩ := cells2s Rb_0
  obtain ⟨cc_0_0, cc_0_1⟩ := cells2s Rc_0
  have hE := eqb
  go_wp2_with fail
  refine (K1.out _ (fatB FF.out B0)).mono ?_
  rintro r w1 ⟨rfl, b1⟩
  have B1 : Below w.heap.size w w1 := btr B0 b1
  have Ra_1 := heap_of b1 _ _ _ Ra_0
  have Rb_1 := heap_of b1 _ _ _ Rb_0
  have Rc_1 := heap_of b1 _ _ _ Rc_0
  clear b1 B0 Ra_0 ca_0_0 ca_0_1 Rb_0 cb_0_0 cb_0_1 Rc_0 cc_0_0 cc_0_1
  obtain ⟨ca_1_0, ca_1_1⟩ := cells2s Ra_1
  obtain ⟨cb_1_0, cb_1_1⟩ := cells2s Rb_1
  obtain ⟨cc_1_0, cc_1_1⟩ := cells2s Rc_1
  go_wp2_with fail
  refine (K2.out _ (fatB FF.out B1)).mono ?_
  rintro r w2 ⟨rfl, b2⟩
  have B2 : Below w.heap.size w w2 := btr B1 b2
  have Ra_2 := heap_of b2 _ _ _ Ra_1
  have Rb_2 := heap_of b2 _ _ _ Rb_1
  have Rc_2 := heap_of b2 _ _ _ Rc_1
  clear b2 B1 Ra_1 ca_1_0 ca_1_1 Rb_1 cb_1_0 cb_1_1 Rc_1 cc_1_0 cc_1_1
  obtain ⟨ca_2_0, ca_2_1⟩ := cells2s Ra_2
  obtain ⟨cb_2_0, cb_2_1⟩ := cells2s Rb_2
  obtain ⟨cc_2_0, cc_2_1⟩ := cells2s Rc_2
  go_wp2_with fail
  refine (K3.out _ (fatB FF.out B2)).mono ?_
  rintro r w3 ⟨rfl, b3⟩
  have B3 : Below w.heap.size w w3 := btr B2 b3
  have Ra_3 := heap_of b3 _ _ _ Ra_2
  have Rb_3 := heap_of b3 _ _ _ Rb_2
  have Rc_3 := heap_of b3 _ _ _ Rc_2
  clear b3 B2 Ra_2 ca_2_0 ca_2_1 Rb_2 cb_2_0 cb_2_1 Rc_2 cc_2_0 cc_2_1
  obtain ⟨ca_3_0, ca_3_1⟩ := cells2s Ra_3
  obtain ⟨cb_3_0, cb_3_1⟩ := cells2s Rb_3
  obtain ⟨cc_3_0, cc_3_1⟩ := cells2s Rc_3
  go_wp2_with fail
  refine (K4.out _ (fatB FF.out B3)).mono ?_
  rintro r w4 ⟨rfl, b4⟩
  have B4 : Below w.heap.size w w4 := btr B3 b4
  have Ra_4 := heap_of b4 _ _ _ Ra_3
  have Rb_4 := heap_of b4 _ _ _ Rb_3
  have Rc_4 := heap_of b4 _ _ _ Rc_3
  clear b4 B3 Ra_3 ca_3_0 ca_3_1 Rb_3 cb_3_0 cb_3_1 Rc_3 cc_3_0 cc_3_1
  obtain ⟨ca_4_0, ca_4_1⟩ := cells2s Ra_4
  obtain ⟨cb_4_0, cb_4_1⟩ := cells2s Rb_4
  obtain ⟨cc_4_0, cc_4_1⟩ := cells2s Rc_4
  go_wp2_with fail
  refine (K5.out _ (fatB FF.out B4)).mono ?_
  rintro r w5 ⟨rfl, b5⟩
  have B5 : Below w.heap.size w w5 := btr B4 b5
  have Ra_5 := heap_of b5 _ _ _ Ra_4
  have Rb_5 := heap_of b5 _ _ _ Rb_4
  have Rc_5 := heap_of b5 _ _ _ Rc_4
  clear b5 B4 Ra_4 ca_4_0 ca_4_1 Rb_4 cb_4_0 cb_4_1 Rc_4 cc_4_0 cc_4_1
  obtain ⟨ca_5_0, ca_5_1⟩ := cells2s Ra_5
  obtain ⟨cb_5_0, cb_5_1⟩ := cells2s Rb_5
  obtain ⟨cc_5_0, cc_5_1⟩ := cells2s Rc_5
  go_wp2_with fail
  refine (KA.out _ (fatB FF.out B5)).mono ?_
  rintro r w6 ⟨rfl, b6⟩
  have B6 : Below w.heap.size w w6 := btr B5 b6
  have Ra_6 := heap_of b6 _ _ _ Ra_5
  have Rb_6 := heap_of b6 _ _ _ Rb_5
  have Rc_6 := heap_of b6 _ _ _ Rc_5
  clear b6 B5 Ra_5 ca_5_0 ca_5_1 Rb_5 cb_5_0 cb_5_1 Rc_5 cc_5_0 cc_5_1
  obtain ⟨ca_6_0, ca_6_1⟩ := cells2s Ra_6
  obtain ⟨cb_6_0, cb_6_1⟩ := cells2s Rb_6
  obtain ⟨cc_6_0, cc_6_1⟩ := cells2s Rc_6
  go_wp2
  go_ret
  exact ⟨rfl, B6⟩
set_option maxRecDepth 100000 in
set_option maxHeartbeats 8000000 in
theorem ot_yes_m_z1 (f : Int) (x1 y1 x2 y2 x3 y3 : Nat) (zz ww : Int) (hz : decide (zz ≤ 0) = false) (he : ebb (x1 : Nat) (y1 : Nat) (x2 : Nat) (y2 : Nat) = false) (w : World)
    (K1 : Box (∀ w, FAt w → Calls Tryd.prog 22 #[.int .u8 f, .agg #[.int .u64 (x1 : Nat), .int .u64 (y1 : Nat)], .agg #[.int .u64 (x2 : Nat), .int .u64 (y2 : Nat)]] w fun r w' => r = .returned (.tuple #[.int .i64 (-1), .int .i64 0]) ∧ Below w.heap.size w w'))
    (K2 : Box (∀ w, FAt w → Calls Tryd.prog 22 #[.int .u8 f, .agg #[.int .u64 (x2 : Nat), .int .u64 (y2 : Nat)], .agg #[.int .u64 (x1 : Nat), .int .u64 (y1 : Nat)]] w fun r w' => r = .returned (.tuple #[.int .i64 1, .int .i64 0]) ∧ Below w.heap.size w w'))
    (K3 : Box (∀ w, FAt w → Calls Tryd.prog 22 #[.int .u8 f, .agg #[.int .u64 (x2 : Nat), .int .u64 (y2 : Nat)], .agg #[.int .u64 (x3 : Nat), .int .u64 (y3 : Nat)]] w fun r w' => r = .returned (.tuple #[.int .i64 zz, .int .i64 0]) ∧ Below w.heap.size w w'))
    (K4 : Box (∀ w, FAt w → Calls Tryd.prog 22 #[.int .u8 f, .agg #[.int .u64 (x1 : Nat), .int .u64 (y1 : Nat)], .agg #[.int .u64 (x3 : Nat), .int .u64 (y3 : Nat)]] w fun r w' => r = .returned (.tuple #[.int .i64 ww, .int .i64 0]) ∧ Below w.heap.size w w'))
    (K5 : Box (∀ w, FAt w → Calls Tryd.prog 8 #[.int .u8 f, .agg #[.int .u64 (x1 : Nat), .int .u64 (y1 : Nat)], .agg #[.int .u64 (x2 : Nat), .int .u64 (y2 : Nat)]] w fun r w' => r = .returned (.tuple #[.int .u8 1, .int .i64 0]) ∧ Below w.heap.size w w'))
    (KA : Box (∀ w, FAt w → Calls Tryd.prog 13 #[] w fun r w' => r = .returned (.bool true) ∧ Below w.heap.size w w'))
    (hT : FAt w) : Calls Tryd.prog 6 #[.int .u8 f, .agg #[.int .u64 (x1 : Nat), .int .u64 (y1 : Nat)], .agg #[.int .u64 (x2 : Nat), .int .u64 (y2 : Nat)], .agg #[.int .u64 (x3 : Nat), .int .u64 (y3 : Nat)]] w fun r w' => r = .returned (.bool true) ∧ Below w.heap.size w w' := by
  have FF := box hT
  clear hT
  obtain ⟨Ra_0, Rb_0, Rc_0, B0⟩ := opn3 w (Obj.cells #[.int .u64 (x1 : Nat), .int .u64 (y1 : Nat)] 25) (Obj.cells #[.int .u64 (x2 : Nat), .int .u64 (y2 : Nat)] 25) (Obj.cells #[.int .u64 (x3 : Nat), .int .u64 (y3 : Nat)] 25)
  go_enter Tryd.func6, Tryd.ntmps6
  obtain ⟨ca_0_0, ca_0_1⟩ := cells2s Ra_0
  obtain ⟨cb_0_0, cb_0_1⟩ := cells2s Rb_0
  obtain ⟨cc_0_0, cc_0_1⟩ := cells2s Rc_0
  have hE := eqb
  go_wp2_with fail
  refine (K1.out _ (fatB FF.out B0)).mono ?_
  rintro r w1 ⟨rfl, b1⟩
  have B1 : Below w.heap.size w w1 := btr B0 b1
  have Ra_1 := heap_of b1 _ _ _ Ra_0
  have Rb_1 := heap_of b1 _ _ _ Rb_0
  have Rc_1 := heap_of b1 _ _ _ Rc_0
  clear b1 B0 Ra_0 ca_0_0 ca_0_1 Rb_0 cb_0_0 cb_0_1 Rc_0 cc_0_0 cc_0_1
  obtain ⟨ca_1_0, ca_1_1⟩ := cells2s Ra_1
  obtain ⟨cb_1_0, cb_1_1⟩ := cells2s Rb_1
  obtain ⟨cc_1_0, cc_1_1⟩ := cells2s Rc_1
  go_wp2_with fail
  refine (K2.out _ (fatB FF.out B1)).mono ?_
  rintro r w2 ⟨rfl, b2⟩
  have B2 : Below w.heap.size w w2 := btr B1 b2
  have Ra_2 := heap_of b2 _ _ _ Ra_1
  have Rb_2 := heap_of b2 _ _ _ Rb_1
  have Rc_2 := heap_of b2 _ _ _ Rc_1
  clear b2 B1 Ra_1 ca_1_0 ca_1_1 Rb_1 cb_1_0 cb_1_1 Rc_1 cc_1_0 cc_1_1
  obtain ⟨ca_2_0, ca_2_1⟩ := cells2s Ra_2
  obtain ⟨cb_2_0, cb_2_1⟩ := cells2s Rb_2
  obtain ⟨cc_2_0, cc_2_1⟩ := cells2s Rc_2
  go_wp2_with fail
  refine (K3.out _ (fatB FF.out B2)).mono ?_
  rintro r w3 ⟨rfl, b3⟩
  have B3 : Below w.heap.size w w3 := btr B2 b3
  have Ra_3 := heap_of b3 _ _ _ Ra_2
  have Rb_3 := heap_of b3 _ _ _ Rb_2
  have Rc_3 := heap_of b3 _ _ _ Rc_2
  clear b3 B2 Ra_2 ca_2_0 ca_2_1 Rb_2 cb_2_0 cb_2_1 Rc_2 cc_2_0 cc_2_1
  obtain ⟨ca_3_0, ca_3_1⟩ := cells2s Ra_3
  obtain ⟨cb_3_0, cb_3_1⟩ := cells2s Rb_3
  obtain ⟨cc_3_0, cc_3_1⟩ := cells2s Rc_3
  go_wp2_with fail
  refine (K4.out _ (fatB FF.out B3)).mono ?_
  rintro r w4 ⟨rfl, b4⟩
  have B4 : Below w.heap.size w w4 := btr B3 b4
  have Ra_4 := heap_of b4 _ _ _ Ra_3
  have Rb_4 := heap_of b4 _ _ _ Rb_3
  have Rc_4 := heap_of b4 _ _ _ Rc_3
  clear b4 B3 Ra_3 ca_3_0 ca_3_1 Rb_3 cb_3_0 cb_3_1 Rc_3 cc_3_0 cc_3_1
  obtain ⟨ca_4_0, ca_4_1⟩ := cells2s Ra_4
  obtain ⟨cb_4_0, cb_4_1⟩ := cells2s Rb_4
  obtain ⟨cc_4_0, cc_4_1⟩ := cells2s Rc_4
  go_wp2_with fail
  refine (K5.out _ (fatB FF.out B4)).mono ?_
  rintro r w5 ⟨rfl, b5⟩
  have B5 : Below w.heap.size w w5 := btr B4 b5
  have Ra_5 := heap_of b5 _ _ _ Ra_4
  have Rb_5 := heap_of b5 _ _ _ Rb_4
  have Rc_5 := heap_of b5 _ _ _ Rc_4
  clear b5 B4 Ra_4 ca_4_0 ca_4_1 Rb_4 cb_4_0 cb_4_1 Rc_4 cc_4_0 cc_4_1
  obtain ⟨ca_5_0, ca_5_1⟩ := cells2s Ra_5
  obtain ⟨cb_5_0, cb_5_1⟩ := cells2s Rb_5
  obtain ⟨cc_5_0, cc_5_1⟩ := cells2s Rc_5
  go_wp2_with fail
  refine (KA.out _ (fatB FF.out B5)).mono ?_
  rintro r w6 ⟨rfl, b6⟩
  have B6 : Below w.heap.size w w6 := btr B5 b6
  have Ra_6 := heap_of b6 _ _ _ Ra_5
  have Rb_6 := heap_of b6 _ _ _ Rb_5
  have Rc_6 := heap_of b6 _ _ _ Rc_5
  clear b6 B5 Ra_5 ca_5_0 ca_5_1 Rb_5 cb_5_0 cb_5_1 Rc_5 cc_5_0 cc_5_1
  obtain ⟨ca_6_0, ca_6_1⟩ := cells2s Ra_6
  obtain ⟨cb_6_0, cb_6_1⟩ := cells2s Rb_6
  obtain ⟨cc_6_0, cc_6_1⟩ := cells2s Rc_6
  go_wp2
  go_ret
  exact ⟨rfl, B6⟩
set_option maxRecDepth 100000 in
set_option maxHeartbeats 8000000 in
theorem ot_yes_m_z2 (f : Int) (x1 y1 x2 y2 x3 y3 : Nat) (zz ww : Int) (hz : decide (zz ≤ 0) = false) (he : ebb (x1 : Nat) (y1 : Nat) (x2 : Nat) (y2 : Nat) = false) (w : World)
    (K1 : Box (∀ w, FAt w → Calls Tryd.prog 22 #[.int .u8 f, .agg #[.int .u64 (x1 : Nat), .int .u64 (y1 : Nat)], .agg #[.int .u64 (x2 : Nat), .int .u64 (y2 : Nat)]] w fun r w' => r = .returned (.tuple #[.int .i64 (-1), .int .i64 0]) ∧ Below w.heap.size w w'))
    (K2 : Box (∀ w, FAt w → Calls Tryd.prog 22 #[.int .u8 f, .agg #[.int .u64 (x2 : Nat), .int .u64 (y2 : Nat)], .agg #[.int .u64 (x1 : Nat), .int .u64 (y1 : Nat)]] w fun r w' => r = .returned (.tuple #[.int .i64 1, .int .i64 0]) ∧ Below w.heap.size w w'))
    (K3 : Box (∀ w, FAt w → Calls Tryd.prog 22 #[.int .u8 f, .agg #[.int .u64 (x2 : Nat), .int .u64 (y2 : Nat)], .agg #[.int .u64 (x3 : Nat), .int .u64 (y3 : Nat)]] w fun r w' => r = .returned (.tuple #[.int .i64 zz, .int .i64 0]) ∧ Below w.heap.size w w'))
    (K4 : Box (∀ w, FAt w → Calls Tryd.prog 22 #[.int .u8 f, .agg #[.int .u64 (x1 : Nat), .int .u64 (y1 : Nat)], .agg #[.int .u64 (x3 : Nat), .int .u64 (y3 : Nat)]] w fun r w' => r = .returned (.tuple #[.int .i64 ww, .int .i64 0]) ∧ Below w.heap.size w w'))
    (K5 : Box (∀ w, FAt w → Calls Tryd.prog 8 #[.int .u8 f, .agg #[.int .u64 (x1 : Nat), .int .u64 (y1 : Nat)], .agg #[.int .u64 (x2 : Nat), .int .u64 (y2 : Nat)]] w fun r w' => r = .returned (.tuple #[.int .u8 2, .int .i64 0]) ∧ Below w.heap.size w w'))
    (KA : Box (∀ w, FAt w → Calls Tryd.prog 13 #[] w fun r w' => r = .returned (.bool true) ∧ Below w.heap.size w w'))
    (hT : FAt w) : Calls Tryd.prog 6 #[.int .u8 f, .agg #[.int .u64 (x1 : Nat), .int .u64 (y1 : Nat)], .agg #[.int .u64 (x2 : Nat), .int .u64 (y2 : Nat)], .agg #[.int .u64 (x3 : Nat), .int .u64 (y3 : Nat)]] w fun r w' => r = .returned (.bool true) ∧ Below w.heap.size w w' := by
  have FF := box hT
  clear hT
  obtain ⟨Ra_0, Rb_0, Rc_0, B0⟩ := opn3 w (Obj.cells #[.int .u64 (x1 : Nat), .int .u64 (y1 : Nat)] 25) (Obj.cells #[.int .u64 (x2 : Nat), .int .u64 (y2 : Nat)] 25) (Obj.cells #[.int .u64 (x3 : Nat), .int .u64 (y3 : Nat)] 25)
  go_enter Tryd.func6, Tryd.ntmps6
  obtain ⟨ca_0_0, ca_0_1⟩ := cells2s Ra_0
  obtain ⟨cb_0_0, cb_0_1⟩ := cells2s Rb_0
  obtain ⟨cc_0_0, cc_0_1⟩ := cells2s Rc_0
  have hE := eqb
  go_wp2_with fail
  refine (K1.out _ (fatB FF.out B0)).mono ?_
  rintro r w1 ⟨rfl, b1⟩
  have B1 : Below w.heap.size w w1 := btr B0 b1
  have Ra_1 := heap_of b1 _ _ _ Ra_0
  have Rb_1 := heap_of b1 _ _ _ Rb_0
  have Rc_1 := heap_of b1 _ _ _ Rc_0
  clear b1 B0 Ra_0 ca_0_0 ca_0_1 Rb_0 cb_0_0 cb_0_1 Rc_0 cc_0_0 cc_0_1
  obtain ⟨ca_1_0, ca_1_1⟩ := cells2s Ra_1
  obtain ⟨cb_1_0, cb_1_1⟩ := cells2s Rb_1
  obtain ⟨cc_1_0, cc_1_1⟩ := cells2s Rc_1
  go_wp2_with fail
  refine (K2.out _ (fatB FF.out B1)).mono ?_
  rintro r w2 ⟨rfl, b2⟩
  have B2 : Below w.heap.size w w2 := btr B1 b2
  have Ra_2 := heap_of b2 _ _ _ Ra_1
  have Rb_2 := heap_of b2 _ _ _ Rb_1
  have Rc_2 := heap_of b2 _ _ _ Rc_1
  clear b2 B1 Ra_1 ca_1_0 ca_1_1 Rb_1 cb_1_0 cb_1_1 Rc_1 cc_1_0 cc_1_1
  obtain ⟨ca_2_0, ca_2_1⟩ := cells2s Ra_2
  obtain ⟨cb_2_0, cb_2_1⟩ := cells2s Rb_2
  obtain ⟨cc_2_0, cc_2_1⟩ := cells2s Rc_2
  go_wp2_with fail
  refine (K3.out _ (fatB FF.out B2)).mono ?_
  rintro r w3 ⟨rfl, b3⟩
  have B3 : Below w.heap.size w w3 := btr B2 b3
  have Ra_3 := heap_of b3 _ _ _ Ra_2
  have Rb_3 := heap_of b3 _ _ _ Rb_2
  have Rc_3 := heap_of b3 _ _ _ Rc_2
  clear b3 B2 Ra_2 ca_2_0 ca_2_1 Rb_2 cb_2_0 cb_2_1 Rc_2 cc_2_0 cc_2_1
  obtain ⟨ca_3_0, ca_3_1⟩ := cells2s Ra_3
  obtain ⟨cb_3_0, cb_3_1⟩ := cells2s Rb_3
  obtain ⟨cc_3_0, cc_3_1⟩ := cells2s Rc_3
  go_wp2_with fail
  refine (K4.out _ (fatB FF.out B3)).mono ?_
  rintro r w4 ⟨rfl, b4⟩
  have B4 : Below w.heap.size w w4 := btr B3 b4
  have Ra_4 := heap_of b4 _ _ _ Ra_3
  have Rb_4 := heap_of b4 _ _ _ Rb_3
  have Rc_4 := heap_of b4 _ _ _ Rc_3
  clear b4 B3 Ra_3 ca_3_0 ca_3_1 Rb_3 cb_3_0 cb_3_1 Rc_3 cc_3_0 cc_3_1
  obtain ⟨ca_4_0, ca_4_1⟩ := cells2s Ra_4
  obtain ⟨cb_4_0, cb_4_1⟩ := cells2s Rb_4
  obtain ⟨cc_4_0, cc_4_1⟩ := cells2s Rc_4
  go_wp2_with fail
  refine (K5.out _ (fatB FF.out B4)).mono ?_
  rintro r w5 ⟨rfl, b5⟩
  have B5 : Below w.heap.size w w5 := btr B4 b5
  have Ra_5 := heap_of b5 _ _ _ Ra_4
  have Rb_5 := heap_of b5 _ _ _ Rb_4
  have Rc_5 := heap_of b5 _ _ _ Rc_4
  clear b5 B4 Ra_4 ca_4_0 ca_4_1 Rb_4 cb_4_0 cb_4_1 Rc_4 cc_4_0 cc_4_1
  obtain ⟨ca_5_0, ca_5_1⟩ := cells2s Ra_5
  obtain ⟨cb_5_0, cb_5_1⟩ := cells2s Rb_5
  obtain ⟨cc_5_0, cc_5_1⟩ := cells2s Rc_5
  go_wp2_with fail
  refine (KA.out _ (fatB FF.out B5)).mono ?_
  rintro r w6 ⟨rfl, b6⟩
  have B6 : Below w.heap.size w w6 := btr B5 b6
  have Ra_6 := heap_of b6 _ _ _ Ra_5
  have Rb_6 := heap_of b6 _ _ _ Rb_5
  have Rc_6 := heap_of b6 _ _ _ Rc_5
  clear b6 B5 Ra_5 ca_5_0 ca_5_1 Rb_5 cb_5_0 cb_5_1 Rc_5 cc_5_0 cc_5_1
  obtain ⟨ca_6_0, ca_6_1⟩ := cells2s Ra_6
  obtain ⟨cb_6_0, cb_6_1⟩ := cells2s Rb_6
  obtain ⟨cc_6_0, cc_6_1⟩ := cells2s Rc_6
  go_wp2
  go_ret
  exact ⟨rfl, B6⟩
set_option maxRecDepth 100000 in
set_option maxHeartbeats 8000000 in
theorem ot_yes_m_w0 (f : Int) (x1 y1 x2 y2 x3 y3 : Nat) (zz ww : Int) (hz : decide (zz ≤ 0) = true) (hw : decide (0 < ww) = false) (he : ebb (x1 : Nat) (y1 : Nat) (x2 : Nat) (y2 : Nat) = false) (w : World)
    (K1 : Box (∀ w, FAt w → Calls Tryd.prog 22 #[.int .u8 f, .agg #[.int .u64 (x1 : Nat), .int .u64 (y1 : Nat)], .agg #[.int .u64 (x2 : Nat), .int .u64 (y2 : Nat)]] w fun r w' => r = .returned (.tuple #[.int .i64 (-1), .int .i64 0]) ∧ Below w.heap.size w w'))
    (K2 : Box (∀ w, FAt w → Calls Tryd.prog 22 #[.int .u8 f, .agg #[.int .u64 (x2 : Nat), .int .u64 (y2 : Nat)], .agg #[.int .u64 (x1 : Nat), .int .u64 (y1 : Nat)]] w fun r w' => r = .returned (.tuple #[.int .i64 1, .int .i64 0]) ∧ Below w.heap.size w w'))
    (K3 : Box (∀ w, FAt w → Calls Tryd.prog 22 #[.int .u8 f, .agg #[.int .u64 (x2 : Nat), .int .u64 (y2 : Nat)], .agg #[.int .u64 (x3 : Nat), .int .u64 (y3 : Nat)]] w fun r w' => r = .returned (.tuple #[.int .i64 zz, .int .i64 0]) ∧ Below w.heap.size w w'))
    (K4 : Box (∀ w, FAt w → Calls Tryd.prog 22 #[.int .u8 f, .agg #[.int .u64 (x1 : Nat), .int .u64 (y1 : Nat)], .agg #[.int .u64 (x3 : Nat), .int .u64 (y3 : Nat)]] w fun r w' => r = .returned (.tuple #[.int .i64 ww, .int .i64 0]) ∧ Below w.heap.size w w'))
    (K5 : Box (∀ w, FAt w → Calls Tryd.prog 8 #[.int .u8 f, .agg #[.int .u64 (x1 : Nat), .int .u64 (y1 : Nat)], .agg #[.int .u64 (x2 : Nat), .int .u64 (y2 : Nat)]] w fun r w' => r = .returned (.tuple #[.int .u8 0, .int .i64 0]) ∧ Below w.heap.size w w'))
    (KA : Box (∀ w, FAt w → Calls Tryd.prog 13 #[] w fun r w' => r = .returned (.bool true) ∧ Below w.heap.size w w'))
    (hT : FAt w) : Calls Tryd.prog 6 #[.int .u8 f, .agg #[.int .u64 (x1 : Nat), .int .u64 (y1 : Nat)], .agg #[.int .u64 (x2 : Nat), .int .u64 (y2 : Nat)], .agg #[.int .u64 (x3 : Nat), .int .u64 (y3 : Nat)]] w fun r w' => r = .returned (.bool true) ∧ Below w.heap.size w w' := by
  have FF := box hT
  clear hT
  obtain ⟨Ra_0, Rb_0, Rc_0, B0⟩ := opn3 w (Obj.cells #[.int .u64 (x1 : Nat), .int .u64 (y1 : Nat)] 25) (Obj.cells #[.int .u64 (x2 : Nat), .int .u64 (y2 : Nat)] 25) (Obj.cells #[.int .u64 (x3 : Nat), .int .u64 (y3 : Nat)] 25)
  go_enter Tryd.func6, Tryd.ntmps6
  obtain ⟨ca_0_0, ca_0_1⟩ := cells2s Ra_0
  obtain ⟨cb_0_0, cb_0_1⟩ := cells2s Rb_0
  obtain ⟨cc_0_0, cc_0_1⟩ := cells2s Rc_0
  have hE := eqb
  go_wp2_with fail
  refine (K1.out _ (fatB FF.out B0)).mono ?_
  rintro r w1 ⟨rfl, b1⟩
  have B1 : Below w.heap.size w w1 := btr B0 b1
  have Ra_1 := heap_of b1 _ _ _ Ra_0
  have Rb_1 := heap_of b1 _ _ _ Rb_0
  have Rc_1 := heap_of b1 _ _ _ Rc_0
  clear b1 B0 Ra_0 ca_0_0 ca_0_1 Rb_0 cb_0_0 cb_0_1 Rc_0 cc_0_0 cc_0_1
  obtain ⟨ca_1_0, ca_1_1⟩ := cells2s Ra_1
  obtain ⟨cb_1_0, cb_1_1⟩ := cells2s Rb_1
  obtain ⟨cc_1_0, cc_1_1⟩ := cells2s Rc_1
  go_wp2_with fail
  refine (K2.out _ (fatB FF.out B1)).mono ?_
  rintro r w2 ⟨rfl, b2⟩
  have B2 : Below w.heap.size w w2 := btr B1 b2
  have Ra_2 := heap_of b2 _ _ _ Ra_1
  have Rb_2 := heap_of b2 _ _ _ Rb_1
  have Rc_2 := heap_of b2 _ _ _ Rc_1
  clear b2 B1 Ra_1 ca_1_0 ca_1_1 Rb_1 cb_1_0 cb_1_1 Rc_1 cc_1_0 cc_1_1
  obtain ⟨ca_2_0, ca_2_1⟩ := cells2s Ra_2
  obtain ⟨cb_2_0, cb_2_1⟩ := cells2s Rb_2
  obtain ⟨cc_2_0, cc_2_1⟩ := cells2s Rc_2
  go_wp2_with fail
  refine (K3.out _ (fatB FF.out B2)).mono ?_
  rintro r w3 ⟨rfl, b3⟩
  have B3 : Below w.heap.size w w3 := btr B2 b3
  have Ra_3 := heap_of b3 _ _ _ Ra_2
  have Rb_3 := heap_of b3 _ _ _ Rb_2
  have Rc_3 := heap_of b3 _ _ _ Rc_2
  clear b3 B2 Ra_2 ca_2_0 ca_2_1 Rb_2 cb_2_0 cb_2_1 Rc_2 cc_2_0 cc_2_1
  obtain ⟨ca_3_0, ca_3_1⟩ := cells2s Ra_3
  obtain ⟨cb_3_0, cb_3_1⟩ := cells2s Rb_3
  obtain ⟨cc_3_0, cc_3_1⟩ := cells2s Rc_3
  go_wp2_with fail
  refine (K4.out _ (fatB FF.out B3)).mono ?_
  rintro r w4 ⟨rfl, b4⟩
  have B4 : Below w.heap.size w w4 := btr B3 b4
  have Ra_4 := heap_of b4 _ _ _ Ra_3
  have Rb_4 := heap_of b4 _ _ _ Rb_3
  have Rc_4 := heap_of b4 _ _ _ Rc_3
  clear b4 B3 Ra_3 ca_3_0 ca_3_1 Rb_3 cb_3_0 cb_3_1 Rc_3 cc_3_0 cc_3_1
  obtain ⟨ca_4_0, ca_4_1⟩ := cells2s Ra_4
  obtain ⟨cb_4_0, cb_4_1⟩ := cells2s Rb_4
  obtain ⟨cc_4_0, cc_4_1⟩ := cells2s Rc_4
  go_wp2_with fail
  refine (K5.out _ (fatB FF.out B4)).mono ?_
  rintro r w5 ⟨rfl, b5⟩
  have B5 : Below w.heap.size w w5 := btr B4 b5
  have Ra_5 := heap_of b5 _ _ _ Ra_4
  have Rb_5 := heap_of b5 _ _ _ Rb_4
  have Rc_5 := heap_of b5 _ _ _ Rc_4
  clear b5 B4 Ra_4 ca_4_0 ca_4_1 Rb_4 cb_4_0 cb_4_1 Rc_4 cc_4_0 cc_4_1
  obtain ⟨ca_5_0, ca_5_1⟩ := cells2s Ra_5
  obtain ⟨cb_5_0, cb_5_1⟩ := cells2s Rb_5
  obtain ⟨cc_5_0, cc_5_1⟩ := cells2s Rc_5
  go_wp2_with fail
  refine (KA.out _ (fatB FF.out B5)).mono ?_
  rintro r w6 ⟨rfl, b6⟩
  have B6 : Below w.heap.size w w6 := btr B5 b6
  have Ra_6 := heap_of b6 _ _ _ Ra_5
  have Rb_6 := heap_of b6 _ _ _ Rb_5
  have Rc_6 := heap_of b6 _ _ _ Rc_5
  clear b6 B5 Ra_5 ca_5_0 ca_5_1 Rb_5 cb_5_0 cb_5_1 Rc_5 cc_5_0 cc_5_1
  obtain ⟨ca_6_0, ca_6_1⟩ := cells2s Ra_6
  obtain ⟨cb_6_0, cb_6_1⟩ := cells2s Rb_6
  obtain ⟨cc_6_0, cc_6_1⟩ := cells2s Rc_6
  go_wp2
  go_ret
  exact ⟨rfl, B6⟩
set_option maxRecDepth 100000 in
set_option maxHeartbeats 8000000 in
theorem ot_yes_m_w1 (f : Int) (x1 y1 x2 y2 x3 y3 : Nat) (zz ww : Int) (hz : decide (zz ≤ 0) = true) (hw : decide (0 < ww) = false) (he : ebb (x1 : Nat) (y1 : Nat) (x2 : Nat) (y2 : Nat) = false) (w : World)
    (K1 : Box (∀ w, FAt w → Calls Tryd.prog 22 #[.int .u8 f, .agg #[.int .u64 (x1 : Nat), .int .u64 (y1 : Nat)], .agg #[.int .u64 (x2 : Nat), .int .u64 (y2 : Nat)]] w fun r w' => r = .returned (.tuple #[.int .i64 (-1), .int .i64 0]) ∧ Below w.heap.size w w'))
    (K2 : Box (∀ w, FAt w → Calls Tryd.prog 22 #[.int .u8 f, .agg #[.int .u64 (x2 : Nat), .int .u64 (y2 : Nat)], .agg #[.int .u64 (x1 : Nat), .int .u64 (y1 : Nat)]] w fun r w' => r = .returned (.tuple #[.int .i64 1, .int .i64 0]) ∧ Below w.heap.size w w'))
    (K3 : Box (∀ w, FAt w → Calls Tryd.prog 22 #[.int .u8 f, .agg #[.int .u64 (x2 : Nat), .int .u64 (y2 : Nat)], .agg #[.int .u64 (x3 : Nat), .int .u64 (y3 : Nat)]] w fun r w' => r = .returned (.tuple #[.int .i64 zz, .int .i64 0]) ∧ Below w.heap.size w w'))
    (K4 : Box (∀ w, FAt w → Calls Tryd.prog 22 #[.int .u8 f, .agg #[.int .u64 (x1 : Nat), .int .u64 (y1 : Nat)], .agg #[.int .u64 (x3 : Nat), .int .u64 (y3 : Nat)]] w fun r w' => r = .returned (.tuple #[.int .i64 ww, .int .i64 0]) ∧ Below w.heap.size w w'))
    (K5 : Box (∀ w, FAt w → Calls Tryd.prog 8 #[.int .u8 f, .agg #[.int .u64 (x1 : Nat), .int .u64 (y1 : Nat)], .agg #[.int .u64 (x2 : Nat), .int .u64 (y2 : Nat)]] w fun r w' => r = .returned (.tuple #[.int .u8 1, .int .i64 0]) ∧ Below w.heap.size w w'))
    (KA : Box (∀ w, FAt w → Calls Tryd.prog 13 #[] w fun r w' => r = .returned (.bool true) ∧ Below w.heap.size w w'))
    (hT : FAt w) : Calls Tryd.prog 6 #[.int .u8 f, .agg #[.int .u64 (x1 : Nat), .int .u64 (y1 : Nat)], .agg #[.int .u64 (x2 : Nat), .int .u64 (y2 : Nat)], .agg #[.int .u64 (x3 : Nat), .int .u64 (y3 : Nat)]] w fun r w' => r = .returned (.bool true) ∧ Below w.heap.size w w' := by
  have FF := box hT
  clear hT
  obtain ⟨Ra_0, Rb_0, Rc_0, B0⟩ := opn3 w (Obj.cells #[.int .u64 (x1 : Nat), .int .u64 (y1 : Nat)] 25) (Obj.cells #[.int .u64 (x2 : Nat), .int .u64 (y2 : Nat)] 25) (Obj.cells #[.int .u64 (x3 : Nat), .int .u64 (y3 : Nat)] 25)
  go_enter Tryd.func6, Tryd.ntmps6
  obtain ⟨ca_0_0, ca_0_1⟩ := cells2s Ra_0
  obtain ⟨cb_0_0, cb_0_1⟩ := cells2s Rb_0
  obtain ⟨cc_0_0, cc_0_1⟩ := cells2s Rc_0
  have hE := eqb
  go_wp2_with fail
  refine (K1.out _ (fatB FF.out B0)).mono ?_
  rintro r w1 ⟨rfl, b1⟩
  have B1 : Below w.heap.size w w1 := btr B0 b1
  have Ra_1 := heap_of b1 _ _ _ Ra_0
  have Rb_1 := heap_of b1 _ _ _ Rb_0
  have Rc_1 := heap_of b1 _ _ _ Rc_0
  clear b1 B0 Ra_0 ca_0_0 ca_0_1 Rb_0 cb_0_0 cb_0_1 Rc_0 cc_0_0 cc_0_1
  obtain ⟨ca_1_0, ca_1_1⟩ := cells2s Ra_1
  obtain ⟨cb_1_0, cb_1_1⟩ := cells2s Rb_1
  obtain ⟨cc_1_0, cc_1_1⟩ := cells2s Rc_1
  go_wp2_with fail
  refine (K2.out _ (fatB FF.out B1)).mono ?_
  rintro r w2 ⟨rfl, b2⟩
  have B2 : Below w.heap.size w w2 := btr B1 b2
  have Ra_2 := heap_of b2 _ _ _ Ra_1
  have Rb_2 := heap_of b2 _ _ _ Rb_1
  have Rc_2 := heap_of b2 _ _ _ Rc_1
  clear b2 B1 Ra_1 ca_1_0 ca_1_1 Rb_1 cb_1_0 cb_1_1 Rc_1 cc_1_0 cc_1_1
  obtain ⟨ca_2_0, ca_2_1⟩ := cells2s Ra_2
  obtain ⟨cb_2_0, cb_2_1⟩ := cells2s Rb_2
  obtain ⟨cc_2_0, cc_2_1⟩ := cells2s Rc_2
  go_wp2_with fail
  refine (K3.out _ (fatB FF.out B2)).mono ?_
  rintro r w3 ⟨rfl, b3⟩
  have B3 : Below w.heap.size w w3 := btr B2 b3
  have Ra_3 := heap_of b3 _ _ _ Ra_2
  have Rb_3 := heap_of b3 _ _ _ Rb_2
  have Rc_3 := heap_of b3 _ _ _ Rc_2
  clear b3 B2 Ra_2 ca_2_0 ca_2_1 Rb_2 cb_2_0 cb_2_1 Rc_2 cc_2_0 cc_2_1
  obtain ⟨ca_3_0, ca_3_1⟩ := cells2s Ra_3
  obtain ⟨cb_3_0, cb_3_1⟩ := cells2s Rb_3
  obtain ⟨cc_3_0, cc_3_1⟩ := cells2s Rc_3
  go_wp2_with fail
  refine (K4.out _ (fatB FF.out B3)).mono ?_
  rintro r w4 ⟨rfl, b4⟩
  have B4 : Below w.heap.size w w4 := btr B3 b4
  have Ra_4 := heap_of b4 _ _ _ Ra_3
  have Rb_4 := heap_of b4 _ _ _ Rb_3
  have Rc_4 := heap_of b4 _ _ _ Rc_3
  clear b4 B3 Ra_3 ca_3_0 ca_3_1 Rb_3 cb_3_0 cb_3_1 Rc_3 cc_3_0 cc_3_1
  obtain ⟨ca_4_0, ca_4_1⟩ := cells2s Ra_4
  obtain ⟨cb_4_0, cb_4_1⟩ := cells2s Rb_4
  obtain ⟨cc_4_0, cc_4_1⟩ := cells2s Rc_4
  go_wp2_with fail
  refine (K5.out _ (fatB FF.out B4)).mono ?_
  rintro r w5 ⟨rfl, b5⟩
  have B5 : Below w.heap.size w w5 := btr B4 b5
  have Ra_5 := heap_of b5 _ _ _ Ra_4
  have Rb_5 := heap_of b5 _ _ _ Rb_4
  have Rc_5 := heap_of b5 _ _ _ Rc_4
  clear b5 B4 Ra_4 ca_4_0 ca_4_1 Rb_4 cb_4_0 cb_4_1 Rc_4 cc_4_0 cc_4_1
  obtain ⟨ca_5_0, ca_5_1⟩ := cells2s Ra_5
  obtain ⟨cb_5_0, cb_5_1⟩ := cells2s Rb_5
  obtain ⟨cc_5_0, cc_5_1⟩ := cells2s Rc_5
  go_wp2_with fail
  refine (KA.out _ (fatB FF.out B5)).mono ?_
  rintro r w6 ⟨rfl, b6⟩
  have B6 : Below w.heap.size w w6 := btr B5 b6
  have Ra_6 := heap_of b6 _ _ _ Ra_5
  have Rb_6 := heap_of b6 _ _ _ Rb_5
  have Rc_6 := heap_of b6 _ _ _ Rc_5
  clear b6 B5 Ra_5 ca_5_0 ca_5_1 Rb_5 cb_5_0 cb_5_1 Rc_5 cc_5_0 cc_5_1
  obtain ⟨ca_6_0, ca_6_1⟩ := cells2s Ra_6
  obtain ⟨cb_6_0, cb_6_1⟩ := cells2s Rb_6
  obtain ⟨cc_6_0, cc_6_1⟩ := cells2s Rc_6
  go_wp2
  go_ret
  exact ⟨rfl, B6⟩
set_option maxRecDepth 100000 in
set_option maxHeartbeats 8000000 in
theorem ot_yes_m_w2 (f : Int) (x1 y1 x2 y2 x3 y3 : Nat) (zz ww : Int) (hz : decide (zz ≤ 0) = true) (hw : decide (0 < ww) = false) (he : ebb (x1 : Nat) (y1 : Nat) (x2 : Nat) (y2 : Nat) = false) (w : World)
    (K1 : Box (∀ w, FAt w → Calls Tryd.prog 22 #[.int .u8 f, .agg #[.int .u64 (x1 : Nat), .int .u64 (y1 : Nat)], .agg #[.int .u64 (x2 : Nat), .int .u64 (y2 : Nat)]] w fun r w' => r = .returned (.tuple #[.int .i64 (-1), .int .i64 0]) ∧ Below w.heap.size w w'))
    (K2 : Box (∀ w, FAt w → Calls Tryd.prog 22 #[.int .u8 f, .agg #[.int .u64 (x2 : Nat), .int .u64 (y2 : Nat)], .agg #[.int .u64 (x1 : Nat), .int .u64 (y1 : Nat)]] w fun r w' => r = .returned (.tuple #[.int .i64 1, .int .i64 0]) ∧ Below w.heap.size w w'))
    (K3 : Box (∀ w, FAt w → Calls Tryd.prog 22 #[.int .u8 f, .agg #[.int .u64 (x2 : Nat), .int .u64 (y2 : Nat)], .agg #[.int .u64 (x3 : Nat), .int .u64 (y3 : Nat)]] w fun r w' => r = .returned (.tuple #[.int .i64 zz, .int .i64 0]) ∧ Below w.heap.size w w'))
    (K4 : Box (∀ w, FAt w → Calls Tryd.prog 22 #[.int .u8 f, .agg #[.int .u64 (x1 : Nat), .int .u64 (y1 : Nat)], .agg #[.int .u64 (x3 : Nat), .int .u64 (y3 : Nat)]] w fun r w' => r = .returned (.tuple #[.int .i64 ww, .int .i64 0]) ∧ Below w.heap.size w w'))
    (K5 : Box (∀ w, FAt w → Calls Tryd.prog 8 #[.int .u8 f, .agg #[.int .u64 (x1 : Nat), .int .u64 (y1 : Nat)], .agg #[.int .u64 (x2 : Nat), .int .u64 (y2 : Nat)]] w fun r w' => r = .returned (.tuple #[.int .u8 2, .int .i64 0]) ∧ Below w.heap.size w w'))
    (KA : Box (∀ w, FAt w → Calls Tryd.prog 13 #[] w fun r w' => r = .returned (.bool true) ∧ Below w.heap.size w w'))
    (hT : FAt w) : Calls Tryd.prog 6 #[.int .u8 f, .agg #[.int .u64 (x1 : Nat), .int .u64 (y1 : Nat)], .agg #[.int .u64 (x2 : Nat), .int .u64 (y2 : Nat)], .agg #[.int .u64 (x3 : Nat), .int .u64 (y3 : Nat)]] w fun r w' => r = .returned (.bool true) ∧ Below w.heap.size w w' := by
  have FF := box hT
  clear hT
  obtain ⟨Ra_0, Rb_0, Rc_0, B0⟩ := opn3 w (Obj.cells #[.int .u64 (x1 : Nat), .int .u64 (y1 : Nat)] 25) (Obj.cells #[.int .u64 (x2 : Nat), .int .u64 (y2 : Nat)] 25) (Obj.cells #[.int .u64 (x3 : Nat), .int .u64 (y3 : Nat)] 25)
  go_enter Tryd.func6, Tryd.ntmps6
  obtain ⟨ca_0_0, ca_0_1⟩ := cells2s Ra_0
  obtain ⟨cb_0_0, cb_0_1⟩ := cells2s Rb_0
  obtain ⟨cc_0_0, cc_0_1⟩ := cells2s Rc_0
  have hE := eqb
  go_wp2_with fail
  refine (K1.out _ (fatB FF.out B0)).mono ?_
  rintro r w1 ⟨rfl, b1⟩
  have B1 : Below w.heap.size w w1 := btr B0 b1
  have Ra_1 := heap_of b1 _ _ _ Ra_0
  have Rb_1 := heap_of b1 _ _ _ Rb_0
  have Rc_1 := heap_of b1 _ _ _ Rc_0
  clear b1 B0 Ra_0 ca_0_0 ca_0_1 Rb_0 cb_0_0 cb_0_1 Rc_0 cc_0_0 cc_0_1
  obtain ⟨ca_1_0, ca_1_1⟩ := cells2s Ra_1
  obtain ⟨cb_1_0, cb_1_1⟩ := cells2s Rb_1
  obtain ⟨cc_1_0, cc_1_1⟩ := cells2s Rc_1
  go_wp2_with fail
  refine (K2.out _ (fatB FF.out B1)).mono ?_
  rintro r w2 ⟨rfl, b2⟩
  have B2 : Below w.heap.size w w2 := btr B1 b2
  have Ra_2 := heap_of b2 _ _ _ Ra_1
  have Rb_2 := heap_of b2 _ _ _ Rb_1
  have Rc_2 := heap_of b2 _ _ _ Rc_1
  clear b2 B1 Ra_1 ca_1_0 ca_1_1 Rb_1 cb_1_0 cb_1_1 Rc_1 cc_1_0 cc_1_1
  obtain ⟨ca_2_0, ca_2_1⟩ := cells2s Ra_2
  obtain ⟨cb_2_0, cb_2_1⟩ := cells2s Rb_2
  obtain ⟨cc_2_0, cc_2_1⟩ := cells2s Rc_2
  go_wp2_with fail
  refine (K3.out _ (fatB FF.out B2)).mono ?_
  rintro r w3 ⟨rfl, b3⟩
  have B3 : Below w.heap.size w w3 := btr B2 b3
  have Ra_3 := heap_of b3 _ _ _ Ra_2
  have Rb_3 := heap_of b3 _ _ _ Rb_2
  have Rc_3 := heap_of b3 _ _ _ Rc_2
  clear b3 B2 Ra_2 ca_2_0 ca_2_1 Rb_2 cb_2_0 cb_2_1 Rc_2 cc_2_0 cc_2_1
  obtain ⟨ca_3_0, ca_3_1⟩ := cells2s Ra_3
  obtain ⟨cb_3_0, cb_3_1⟩ := cells2s Rb_3
  obtain ⟨cc_3_0, cc_3_1⟩ := cells2s Rc_3
  go_wp2_with fail
  refine (K4.out _ (fatB FF.out B3)).mono ?_
  rintro r w4 ⟨rfl, b4⟩
  have B4 : Below w.heap.size w w4 := btr B3 b4
  have Ra_4 := heap_of b4 _ _ _ Ra_3
  have Rb_4 := heap_of b4 _ _ _ Rb_3
  have Rc_4 := heap_of b4 _ _ _ Rc_3
  clear b4 B3 Ra_3 ca_3_0 ca_3_1 Rb_3 cb_3_0 cb_3_1 Rc_3 cc_3_0 cc_3_1
  obtain ⟨ca_4_0, ca_4_1⟩ := cells2s Ra_4
  obtain ⟨cb_4_0, cb_4_1⟩ := cells2s Rb_4
  obtain ⟨cc_4_0, cc_4_1⟩ := cells2s Rc_4
  go_wp2_with fail
  refine (K5.out _ (fatB FF.out B4)).mono ?_
  rintro r w5 ⟨rfl, b5⟩
  have B5 : Below w.heap.size w w5 := btr B4 b5
  have Ra_5 := heap_of b5 _ _ _ Ra_4
  have Rb_5 := heap_of b5 _ _ _ Rb_4
  have Rc_5 := heap_of b5 _ _ _ Rc_4
  clear b5 B4 Ra_4 ca_4_0 ca_4_1 Rb_4 cb_4_0 cb_4_1 Rc_4 cc_4_0 cc_4_1
  obtain ⟨ca_5_0, ca_5_1⟩ := cells2s Ra_5
  obtain ⟨cb_5_0, cb_5_1⟩ := cells2s Rb_5
  obtain ⟨cc_5_0, cc_5_1⟩ := cells2s Rc_5
  go_wp2_with fail
  refine (KA.out _ (fatB FF.out B5)).mono ?_
  rintro r w6 ⟨rfl, b6⟩
  have B6 : Below w.heap.size w w6 := btr B5 b6
  have Ra_6 := heap_of b6 _ _ _ Ra_5
  have Rb_6 := heap_of b6 _ _ _ Rb_5
  have Rc_6 := heap_of b6 _ _ _ Rc_5
  clear b6 B5 Ra_5 ca_5_0 ca_5_1 Rb_5 cb_5_0 cb_5_1 Rc_5 cc_5_0 cc_5_1
  obtain ⟨ca_6_0, ca_6_1⟩ := cells2s Ra_6
  obtain ⟨cb_6_0, cb_6_1⟩ := cells2s Rb_6
  obtain ⟨cc_6_0, cc_6_1⟩ := cells2s Rc_6
  go_wp2
  go_ret
  exact ⟨rfl, B6⟩
set_option maxRecDepth 100000 in
set_option maxHeartbeats 8000000 in
theorem ot_yes_n_z0 (f : Int) (x1 y1 x2 y2 x3 y3 : Nat) (zz ww : Int) (hz : decide (zz ≤ 0) = false) (he : ebb (x1 : Nat) (y1 : Nat) (x2 : Nat) (y2 : Nat) = true) (w : World)
    (K1 : Box (∀ w, FAt w → Calls Tryd.prog 22 #[.int .u8 f, .agg #[.int .u64 (x1 : Nat), .int .u64 (y1 : Nat)], .agg #[.int .u64 (x2 : Nat), .int .u64 (y2 : Nat)]] w fun r w' => r = .returned (.tuple #[.int .i64 0, .int .i64 0]) ∧ Below w.heap.size w w'))
    (K2 : Box (∀ w, FAt w → Calls Tryd.prog 22 #[.int .u8 f, .agg #[.int .u64 (x2 : Nat), .int .u64 (y2 : Nat)], .agg #[.int .u64 (x1 : Nat), .int .u64 (y1 : Nat)]] w fun r w' => r = .returned (.tuple #[.int .i64 0, .int .i64 0]) ∧ Below w.heap.size w w'))
    (K3 : Box (∀ w, FAt w → Calls Tryd.prog 22 #[.int .u8 f, .agg #[.int .u64 (x2 : Nat), .int .u64 (y2 : Nat)], .agg #[.int .u64 (x3 : Nat), .int .u64 (y3 : Nat)]] w fun r w' => r = .returned (.tuple #[.int .i64 zz, .int .i64 0]) ∧ Below w.heap.size w w'))
    (K4 : Box (∀ w, FAt w → Calls Tryd.prog 22 #[.int .u8 f, .agg #[.int .u64 (x1 : Nat), .int .u64 (y1 : Nat)], .agg #[.int .u64 (x3 : Nat), .int .u64 (y3 : Nat)]] w fun r w' => r = .returned (.tuple #[.int .i64 ww, .int .i64 0]) ∧ Below w.heap.size w w'))
    (K5 : Box (∀ w, FAt w → Calls Tryd.prog 8 #[.int .u8 f, .agg #[.int .u64 (x1 : Nat), .int .u64 (y1 : Nat)], .agg #[.int .u64 (x2 : Nat), .int .u64 (y2 : Nat)]] w fun r w' => r = .returned (.tuple #[.int .u8 0, .int .i64 0]) ∧ Below w.heap.size w w'))
    (KA : Box (∀ w, FAt w → Calls Tryd.prog 13 #[] w fun r w' => r = .returned (.bool true) ∧ Below w.heap.size w w'))
    (hT : FAt w) : Calls Tryd.prog 6 #[.int .u8 f, .agg #[.int .u64 (x1 : Nat), .int .u64 (y1 : Nat)], .agg #[.int .u64 (x2 : Nat), .int .u64 (y2 : Nat)], .agg #[.int .u64 (x3 : Nat), .int .u64 (y3 : Nat)]] w fun r w' => r = .returned (.bool true) ∧ Below w.heap.size w w' := by
  have FF := box hT
  clear hT
  obtain ⟨Ra_0, Rb_0, Rc_0, B0⟩ := opn3 w (Obj.cells #[.int .u64 (x1 : Nat), .int .u64 (y1 : Nat)] 25) (Obj.cells #[.int .u64 (x2 : Nat), .int .u64 (y2 : Nat)] 25) (Obj.cells #[.int .u64 (x3 : Nat), .int .u64 (y3 : Nat)] 25)
  go_enter Tryd.func6, Tryd.ntmps6
  obtain ⟨ca_0_0, ca_0_1⟩ := cells2s Ra_0
  obtain ⟨cb_0_0, cb_0_1⟩ := cells2s Rb_0
  obtain ⟨cc_0_0, cc_0_1⟩ := cells2s Rc_0
  have hE := eqb
  go_wp2_with fail
  refine (K1.out _ (fatB FF.out B0)).mono ?_
  rintro r w1 ⟨rfl, b1⟩
  have B1 : Below w.heap.size w w1 := btr B0 b1
  have Ra_1 := heap_of b1 _ _ _ Ra_0
  have Rb_1 := heap_of b1 _ _ _ Rb_0
  have Rc_1 := heap_of b1 _ _ _ Rc_0
  clear b1 B0 Ra_0 ca_0_0 ca_0_1 Rb_0 cb_0_0 cb_0_1 Rc_0 cc_0_0 cc_0_1
  obtain ⟨ca_1_0, ca_1_1⟩ := cells2s Ra_1
  obtain ⟨cb_1_0, cb_1_1⟩ := cells2s Rb_1
  obtain ⟨cc_1_0, cc_1_1⟩ := cells2s Rc_1
  go_wp2_with fail
  refine (K2.out _ (fatB FF.out B1)).mono ?_
  rintro r w2 ⟨rfl, b2⟩
  have B2 : Below w.heap.size w w2 := btr B1 b2
  have Ra_2 := heap_of b2 _ _ _ Ra_1
  have Rb_2 := heap_of b2 _ _ _ Rb_1
  have Rc_2 := heap_of b2 _ _ _ Rc_1
  clear b2 B1 Ra_1 ca_1_0 ca_1_1 Rb_1 cb_1_0 cb_1_1 Rc_1 cc_1_0 cc_1_1
  obtain ⟨ca_2_0, ca_2_1⟩ := cells2s Ra_2
  obtain ⟨cb_2_0, cb_2_1⟩ := cells2s Rb_2
  obtain ⟨cc_2_0, cc_2_1⟩ := cells2s Rc_2
  go_wp2_with fail
  refine (K3.out _ (fatB FF.out B2)).mono ?_
  rintro r w3 ⟨rfl, b3⟩
  have B3 : Below w.heap.size w w3 := btr B2 b3
  have Ra_3 := heap_of b3 _ _ _ Ra_2
  have Rb_3 := heap_of b3 _ _ _ Rb_2
  have Rc_3 := heap_of b3 _ _ _ Rc_2
  clear b3 B2 Ra_2 ca_2_0 ca_2_1 Rb_2 cb_2_0 cb_2_1 Rc_2 cc_2_0 cc_2_1
  obtain ⟨ca_3_0, ca_3_1⟩ := cells2s Ra_3
  obtain ⟨cb_3_0, cb_3_1⟩ := cells2s Rb_3
  obtain ⟨cc_3_0, cc_3_1⟩ := cells2s Rc_3
  go_wp2_with fail
  refine (K4.out _ (fatB FF.out B3)).mono ?_
  rintro r w4 ⟨rfl, b4⟩
  have B4 : Below w.heap.size w w4 := btr B3 b4
  have Ra_4 := heap_of b4 _ _ _ Ra_3
  have Rb_4 := heap_of b4 _ _ _ Rb_3
  have Rc_4 := heap_of b4 _ _ _ Rc_3
  clear b4 B3 Ra_3 ca_3_0 ca_3_1 Rb_3 cb_3_0 cb_3_1 Rc_3 cc_3_0 cc_3_1
  obtain ⟨ca_4_0, ca_4_1⟩ := cells2s Ra_4
  obtain ⟨cb_4_0, cb_4_1⟩ := cells2s Rb_4
  obtain ⟨cc_4_0, cc_4_1⟩ := cells2s Rc_4
  go_wp2_with fail
  refine (K5.out _ (fatB FF.out B4)).mono ?_
  rintro r w5 ⟨rfl, b5⟩
  have B5 : Below w.heap.size w w5 := btr B4 b5
  have Ra_5 := heap_of b5 _ _ _ Ra_4
  have Rb_5 := heap_of b5 _ _ _ Rb_4
  have Rc_5 := heap_of b5 _ _ _ Rc_4
  clear b5 B4 Ra_4 ca_4_0 ca_4_1 Rb_4 cb_4_0 cb_4_1 Rc_4 cc_4_0 cc_4_1
  obtain ⟨ca_5_0, ca_5_1⟩ := cells2s Ra_5
  obtain ⟨cb_5_0, cb_5_1⟩ := cells2s Rb_5
  obtain ⟨cc_5_0, cc_5_1⟩ := cells2s Rc_5
  go_wp2_with fail
  refine (KA.out _ (fatB FF.out B5)).mono ?_
  rintro r w6 ⟨rfl, b6⟩
  have B6 : Below w.heap.size w w6 := btr B5 b6
  have Ra_6 := heap_of b6 _ _ _ Ra_5
  have Rb_6 := heap_of b6 _ _ _ Rb_5
  have Rc_6 := heap_of b6 _ _ _ Rc_5
  clear b6 B5 Ra_5 ca_5_0 ca_5_1 Rb_5 cb_5_0 cb_5_1 Rc_5 cc_5_0 cc_5_1
  obtain ⟨ca_6_0, ca_6_1⟩ := cells2s Ra_6
  obtain ⟨cb_6_0, cb_6_1⟩ := cells2s Rb_6
  obtain ⟨cc_6_0, cc_6_1⟩ := cells2s Rc_6
  go_wp2
  go_ret
  exact ⟨rfl, B6⟩
set_option maxRecDepth 100000 in
set_option maxHeartbeats 8000000 in
theorem ot_yes_n_z2 (f : Int) (x1 y1 x2 y2 x3 y3 : Nat) (zz ww : Int) (hz : decide (zz ≤ 0) = false) (he : ebb (x1 : Nat) (y1 : Nat) (x2 : Nat) (y2 : Nat) = true) (w : World)
    (K1 : Box (∀ w, FAt w → Calls Tryd.prog 22 #[.int .u8 f, .agg #[.int .u64 (x1 : Nat), .int .u64 (y1 : Nat)], .agg #[.int .u64 (x2 : Nat), .int .u64 (y2 : Nat)]] w fun r w' => r = .returned (.tuple #[.int .i64 0, .int .i64 0]) ∧ Below w.heap.size w w'))
    (K2 : Box (∀ w, FAt w → Calls Tryd.prog 22 #[.int .u8 f, .agg #[.int .u64 (x2 : Nat), .int .u64 (y2 : Nat)], .agg #[.int .u64 (x1 : Nat), .int .u64 (y1 : Nat)]] w fun r w' => r = .returned (.tuple #[.int .i64 0, .int .i64 0]) ∧ Below w.heap.size w w'))
    (K3 : Box (∀ w, FAt w → Calls Tryd.prog 22 #[.int .u8 f, .agg #[.int .u64 (x2 : Nat), .int .u64 (y2 : Nat)], .agg #[.int .u64 (x3 : Nat), .int .u64 (y3 : Nat)]] w fun r w' => r = .returned (.tuple #[.int .i64 zz, .int .i64 0]) ∧ Below w.heap.size w w'))
    (K4 : Box (∀ w, FAt w → Calls Tryd.prog 22 #[.int .u8 f, .agg #[.int .u64 (x1 : Nat), .int .u64 (y1 : Nat)], .agg #[.int .u64 (x3 : Nat), .int .u64 (y3 : Nat)]] w fun r w' => r = .returned (.tuple #[.int .i64 ww, .int .i64 0]) ∧ Below w.heap.size w w'))
    (K5 : Box (∀ w, FAt w → Calls Tryd.prog 8 #[.int .u8 f, .agg #[.int .u64 (x1 : Nat), .int .u64 (y1 : Nat)], .agg #[.int .u64 (x2 : Nat), .int .u64 (y2 : Nat)]] w fun r w' => r = .returned (.tuple #[.int .u8 2, .int .i64 0]) ∧ Below w.heap.size w w'))
    (KA : Box (∀ w, FAt w → Calls Tryd.prog 13 #[] w fun r w' => r = .returned (.bool true) ∧ Below w.heap.size w w'))
    (hT : FAt w) : Calls Tryd.prog 6 #[.int .u8 f, .agg #[.int .u64 (x1 : Nat), .int .u64 (y1 : Nat)], .agg #[.int .u64 (x2 : Nat), .int .u64 (y2 : Nat)], .agg #[.int .u64 (x3 : Nat), .int .u64 (y3 : Nat)]] w fun r w' => r = .returned (.bool true) ∧ Below w.heap.size w w' := by
  have FF := box hT
  clear hT
  obtain ⟨Ra_0, Rb_0, Rc_0, B0⟩ := opn3 w (Obj.cells #[.int .u64 (x1 : Nat), .int .u64 (y1 : Nat)] 25) (Obj.cells #[.int .u64 (x2 : Nat), .int .u64 (y2 : Nat)] 25) (Obj.cells #[.int .u64 (x3 : Nat), .int .u64 (y3 : Nat)] 25)
  go_enter Tryd.func6, Tryd.ntmps6
  obtain ⟨ca_0_0, ca_0_1⟩ := cells2s Ra_0
  obtain ⟨cb_0_0, cb_0_1⟩ := cells2s Rb_0
  obtain ⟨cc_0_0, cc_0_1⟩ := cells2s Rc_0
  have hE := eqb
  go_wp2_with fail
  refine (K1.out _ (fatB FF.out B0)).mono ?_
  rintro r w1 ⟨rfl, b1⟩
  have B1 : Below w.heap.size w w1 := btr B0 b1
  have Ra_1 := heap_of b1 _ _ _ Ra_0
  have Rb_1 := heap_of b1 _ _ _ Rb_0
  have Rc_1 := heap_of b1 _ _ _ Rc_0
  clear b1 B0 Ra_0 ca_0_0 ca_0_1 Rb_0 cb_0_0 cb_0_1 Rc_0 cc_0_0 cc_0_1
  obtain ⟨ca_1_0, ca_1_1⟩ := cells2s Ra_1
  obtain ⟨cb_1_0, cb_1_1⟩ := cells2s Rb_1
  obtain ⟨cc_1_0, cc_1_1⟩ := cells2s Rc_1
  go_wp2_with fail
  refine (K2.out _ (fatB FF.out B1)).mono ?_
  rintro r w2 ⟨rfl, b2⟩
  have B2 : Below w.heap.size w w2 := btr B1 b2
  have Ra_2 := heap_of b2 _ _ _ Ra_1
  have Rb_2 := heap_of b2 _ _ _ Rb_1
  have Rc_2 := heap_of b2 _ _ _ Rc_1
  clear b2 B1 Ra_1 ca_1_0 ca_1_1 Rb_1 cb_1_0 cb_1_1 Rc_1 cc_1_0 cc_1_1
  obtain ⟨ca_2_0, ca_2_1⟩ := cells2s Ra_2
  obtain ⟨cb_2_0, cb_2_1⟩ := cells2s Rb_2
  obtain ⟨cc_2_0, cc_2_1⟩ := cells2s Rc_2
  go_wp2_with fail
  refine (K3.out _ (fatB FF.out B2)).mono ?_
  rintro r w3 ⟨rfl, b3⟩
  have B3 : Below w.heap.size w w3 := btr B2 b3
  have Ra_3 := heap_of b3 _ _ _ Ra_2
  have Rb_3 := heap_of b3 _ _ _ Rb_2
  have Rc_3 := heap_of b3 _ _ _ Rc_2
  clear b3 B2 Ra_2 ca_2_0 ca_2_1 Rb_2 cb_2_0 cb_2_1 Rc_2 cc_2_0 cc_2_1
  obtain ⟨ca_3_0, ca_3_1⟩ := cells2s Ra_3
  obtain ⟨cb_3_0, cb_3_1⟩ := cells2s Rb_3
  obtain ⟨cc_3_0, cc_3_1⟩ := cells2s Rc_3
  go_wp2_with fail
  refine (K4.out _ (fatB FF.out B3)).mono ?_
  rintro r w4 ⟨rfl, b4⟩
  have B4 : Below w.heap.size w w4 := btr B3 b4
  have Ra_4 := heap_of b4 _ _ _ Ra_3
  have Rb_4 := heap_of b4 _ _ _ Rb_3
  have Rc_4 := heap_of b4 _ _ _ Rc_3
  clear b4 B3 Ra_3 ca_3_0 ca_3_1 Rb_3 cb_3_0 cb_3_1 Rc_3 cc_3_0 cc_3_1
  obtain ⟨ca_4_0, ca_4_1⟩ := cells2s Ra_4
  obtain ⟨cb_4_0, cb_4_1⟩ := cells2s Rb_4
  obtain ⟨cc_4_0, cc_4_1⟩ := cells2s Rc_4
  go_wp2_with fail
  refine (K5.out _ (fatB FF.out B4)).mono ?_
  rintro r w5 ⟨rfl, b5⟩
  have B5 : Below w.heap.size w w5 := btr B4 b5
  have Ra_5 := heap_of b5 _ _ _ Ra_4
  have Rb_5 := heap_of b5 _ _ _ Rb_4
  have Rc_5 := heap_of b5 _ _ _ Rc_4
  clear b5 B4 Ra_4 ca_4_0 ca_4_1 Rb_4 cb_4_0 cb_4_1 Rc_4 cc_4_0 cc_4_1
  obtain ⟨ca_5_0, ca_5_1⟩ := cells2s Ra_5
  obtain ⟨cb_5_0, cb_5_1⟩ := cells2s Rb_5
  obtain ⟨cc_5_0, cc_5_1⟩ := cells2s Rc_5
  go_wp2_with fail
  refine (KA.out _ (fatB FF.out B5)).mono ?_
  rintro r w6 ⟨rfl, b6⟩
  have B6 : Below w.heap.size w w6 := btr B5 b6
  have Ra_6 := heap_of b6 _ _ _ Ra_5
  have Rb_6 := heap_of b6 _ _ _ Rb_5
  have Rc_6 := heap_of b6 _ _ _ Rc_5
  clear b6 B5 Ra_5 ca_5_0 ca_5_1 Rb_5 cb_5_0 cb_5_1 Rc_5 cc_5_0 cc_5_1
  obtain ⟨ca_6_0, ca_6_1⟩ := cells2s Ra_6
  obtain ⟨cb_6_0, cb_6_1⟩ := cells2s Rb_6
  obtain ⟨cc_6_0, cc_6_1⟩ := cells2s Rc_6
  go_wp2
  go_ret
  exact ⟨rfl, B6⟩
set_option maxRecDepth 100000 in
set_option maxHeartbeats 8000000 in
theorem ot_yes_n_w0 (f : Int) (x1 y1 x2 y2 x3 y3 : Nat) (zz ww : Int) (hz : decide (zz ≤ 0) = true) (hw : decide (0 < ww) = false) (he : ebb (x1 : Nat) (y1 : Nat) (x2 : Nat) (y2 : Nat) = true) (w : World)
    (K1 : Box (∀ w, FAt w → Calls Tryd.prog 22 #[.int .u8 f, .agg #[.int .u64 (x1 : Nat), .int .u64 (y1 : Nat)], .agg #[.int .u64 (x2 : Nat), .int .u64 (y2 : Nat)]] w fun r w' => r = .returned (.tuple #[.int .i64 0, .int .i64 0]) ∧ Below w.heap.size w w'))
    (K2 : Box (∀ w, FAt w → Calls Tryd.prog 22 #[.int .u8 f, .agg #[.int .u64 (x2 : Nat), .int .u64 (y2 : Nat)], .agg #[.int .u64 (x1 : Nat), .int .u64 (y1 : Nat)]] w fun r w' => r = .returned (.tuple #[.int .i64 0, .int .i64 0]) ∧ Below w.heap.size w w'))
    (K3 : Box (∀ w, FAt w → Calls Tryd.prog 22 #[.int .u8 f, .agg #[.int .u64 (x2 : Nat), .int .u64 (y2 : Nat)], .agg #[.int .u64 (x3 : Nat), .int .u64 (y3 : Nat)]] w fun r w' => r = .returned (.tuple #[.int .i64 zz, .int .i64 0]) ∧ Below w.heap.size w w'))
    (K4 : Box (∀ w, FAt w → Calls Tryd.prog 22 #[.int .u8 f, .agg #[.int .u64 (x1 : Nat), .int .u64 (y1 : Nat)], .agg #[.int .u64 (x3 : Nat), .int .u64 (y3 : Nat)]] w fun r w' => r = .returned (.tuple #[.int .i64 ww, .int .i64 0]) ∧ Below w.heap.size w w'))
    (K5 : Box (∀ w, FAt w → Calls Tryd.prog 8 #[.int .u8 f, .agg #[.int .u64 (x1 : Nat), .int .u64 (y1 : Nat)], .agg #[.int .u64 (x2 : Nat), .int .u64 (y2 : Nat)]] w fun r w' => r = .returned (.tuple #[.int .u8 0, .int .i64 0]) ∧ Below w.heap.size w w'))
    (KA : Box (∀ w, FAt w → Calls Tryd.prog 13 #[] w fun r w' => r = .returned (.bool true) ∧ Below w.heap.size w w'))
    (hT : FAt w) : Calls Tryd.prog 6 #[.int .u8 f, .agg #[.int .u64 (x1 : Nat), .int .u64 (y1 : Nat)], .agg #[.int .u64 (x2 : Nat), .int .u64 (y2 : Nat)], .agg #[.int .u64 (x3 : Nat), .int .u64 (y3 : Nat)]] w fun r w' => r = .returned (.bool true) ∧ Below w.heap.size w w' := by
  have FF := box hT
  clear hT
  obtain ⟨Ra_0, Rb_0, Rc_0, B0⟩ := opn3 w (Obj.cells #[.int .u64 (x1 : Nat), .int .u64 (y1 : Nat)] 25) (Obj.cells #[.int .u64 (x2 : Nat), .int .u64 (y2 : Nat)] 25) (Obj.cells #[.int .u64 (x3 : Nat), .int .u64 (y3 : Nat)] 25)
  go_enter Tryd.func6, Tryd.ntmps6
  obtain ⟨ca_0_0, ca_0_1⟩ := cells2s Ra_0
  obtain ⟨cb_0_0, cb_0_1⟩ := cells2s Rb_0
  obtain ⟨cc_0_0, cc_0_1⟩ := cells2s Rc_0
  have hE := eqb
  go_wp2_with fail
  refine (K1.out _ (fatB FF.out B0)).mono ?_
  rintro r w1 ⟨rfl, b1⟩
  have B1 : Below w.heap.size w w1 := btr B0 b1
  have Ra_1 := heap_of b1 _ _ _ Ra_0
  have Rb_1 := heap_of b1 _ _ _ Rb_0
  have Rc_1 := heap_of b1 _ _ _ Rc_0
  clear b1 B0 Ra_0 ca_0_0 ca_0_1 Rb_0 cb_0_0 cb_0_1 Rc_0 cc_0_0 cc_0_1
  obtain ⟨ca_1_0, ca_1_1⟩ := cells2s Ra_1
  obtain ⟨cb_1_0, cb_1_1⟩ := cells2s Rb_1
  obtain ⟨cc_1_0, cc_1_1⟩ := cells2s Rc_1
  go_wp2_with fail
  refine (K2.out _ (fatB FF.out B1)).mono ?_
  rintro r w2 ⟨rfl, b2⟩
  have B2 : Below w.heap.size w w2 := btr B1 b2
  have Ra_2 := heap_of b2 _ _ _ Ra_1
  have Rb_2 := heap_of b2 _ _ _ Rb_1
  have Rc_2 := heap_of b2 _ _ _ Rc_1
  clear b2 B1 Ra_1 ca_1_0 ca_1_1 Rb_1 cb_1_0 cb_1_1 Rc_1 cc_1_0 cc_1_1
  obtain ⟨ca_2_0, ca_2_1⟩ := cells2s Ra_2
  obtain ⟨cb_2_0, cb_2_1⟩ := cells2s Rb_2
  obtain ⟨cc_2_0, cc_2_1⟩ := cells2s Rc_2
  go_wp2_with fail
  refine (K3.out _ (fatB FF.out B2)).mono ?_
  rintro r w3 ⟨rfl, b3⟩
  have B3 : Below w.heap.size w w3 := btr B2 b3
  have Ra_3 := heap_of b3 _ _ _ Ra_2
  have Rb_3 := heap_of b3 _ _ _ Rb_2
  have Rc_3 := heap_of b3 _ _ _ Rc_2
  clear b3 B2 Ra_2 ca_2_0 ca_2_1 Rb_2 cb_2_0 cb_2_1 Rc_2 cc_2_0 cc_2_1
  obtain ⟨ca_3_0, ca_3_1⟩ := cells2s Ra_3
  obtain ⟨cb_3_0, cb_3_1⟩ := cells2s Rb_3
  obtain ⟨cc_3_0, cc_3_1⟩ := cells2s Rc_3
  go_wp2_with fail
  refine (K4.out _ (fatB FF.out B3)).mono ?_
  rintro r w4 ⟨rfl, b4⟩
  have B4 : Below w.heap.size w w4 := btr B3 b4
  have Ra_4 := heap_of b4 _ _ _ Ra_3
  have Rb_4 := heap_of b4 _ _ _ Rb_3
  have Rc_4 := heap_of b4 _ _ _ Rc_3
  clear b4 B3 Ra_3 ca_3_0 ca_3_1 Rb_3 cb_3_0 cb_3_1 Rc_3 cc_3_0 cc_3_1
  obtain ⟨ca_4_0, ca_4_1⟩ := cells2s Ra_4
  obtain ⟨cb_4_0, cb_4_1⟩ := cells2s Rb_4
  obtain ⟨cc_4_0, cc_4_1⟩ := cells2s Rc_4
  go_wp2_with fail
  refine (K5.out _ (fatB FF.out B4)).mono ?_
  rintro r w5 ⟨rfl, b5⟩
  have B5 : Below w.heap.size w w5 := btr B4 b5
  have Ra_5 := heap_of b5 _ _ _ Ra_4
  have Rb_5 := heap_of b5 _ _ _ Rb_4
  have Rc_5 := heap_of b5 _ _ _ Rc_4
  clear b5 B4 Ra_4 ca_4_0 ca_4_1 Rb_4 cb_4_0 cb_4_1 Rc_4 cc_4_0 cc_4_1
  obtain ⟨ca_5_0, ca_5_1⟩ := cells2s Ra_5
  obtain ⟨cb_5_0, cb_5_1⟩ := cells2s Rb_5
  obtain ⟨cc_5_0, cc_5_1⟩ := cells2s Rc_5
  go_wp2_with fail
  refine (KA.out _ (fatB FF.out B5)).mono ?_
  rintro r w6 ⟨rfl, b6⟩
  have B6 : Below w.heap.size w w6 := btr B5 b6
  have Ra_6 := heap_of b6 _ _ _ Ra_5
  have Rb_6 := heap_of b6 _ _ _ Rb_5
  have Rc_6 := heap_of b6 _ _ _ Rc_5
  clear b6 B5 Ra_5 ca_5_0 ca_5_1 Rb_5 cb_5_0 cb_5_1 Rc_5 cc_5_0 cc_5_1
  obtain ⟨ca_6_0, ca_6_1⟩ := cells2s Ra_6
  obtain ⟨cb_6_0, cb_6_1⟩ := cells2s Rb_6
  obtain ⟨cc_6_0, cc_6_1⟩ := cells2s Rc_6
  go_wp2
  go_ret
  exact ⟨rfl, B6⟩
set_option maxRecDepth 100000 in
set_option maxHeartbeats 8000000 in
theorem ot_yes_n_w2 (f : Int) (x1 y1 x2 y2 x3 y3 : Nat) (zz ww : Int) (hz : decide (zz ≤ 0) = true) (hw : decide (0 < ww) = false) (he : ebb (x1 : Nat) (y1 : Nat) (x2 : Nat) (y2 : Nat) = true) (w : World)
    (K1 : Box (∀ w, FAt w → Calls Tryd.prog 22 #[.int .u8 f, .agg #[.int .u64 (x1 : Nat), .int .u64 (y1 : Nat)], .agg #[.int .u64 (x2 : Nat), .int .u64 (y2 : Nat)]] w fun r w' => r = .returned (.tuple #[.int .i64 0, .int .i64 0]) ∧ Below w.heap.size w w'))
    (K2 : Box (∀ w, FAt w → Calls Tryd.prog 22 #[.int .u8 f, .agg #[.int .u64 (x2 : Nat), .int .u64 (y2 : Nat)], .agg #[.int .u64 (x1 : Nat), .int .u64 (y1 : Nat)]] w fun r w' => r = .returned (.tuple #[.int .i64 0, .int .i64 0]) ∧ Below w.heap.size w w'))
    (K3 : Box (∀ w, FAt w → Calls Tryd.prog 22 #[.int .u8 f, .agg #[.int .u64 (x2 : Nat), .int .u64 (y2 : Nat)], .agg #[.int .u64 (x3 : Nat), .int .u64 (y3 : Nat)]] w fun r w' => r = .returned (.tuple #[.int .i64 zz, .int .i64 0]) ∧ Below w.heap.size w w'))
    (K4 : Box (∀ w, FAt w → Calls Tryd.prog 22 #[.int .u8 f, .agg #[.int .u64 (x1 : Nat), .int .u64 (y1 : Nat)], .agg #[.int .u64 (x3 : Nat), .int .u64 (y3 : Nat)]] w fun r w' => r = .returned (.tuple #[.int .i64 ww, .int .i64 0]) ∧ Below w.heap.size w w'))
    (K5 : Box (∀ w, FAt w → Calls Tryd.prog 8 #[.int .u8 f, .agg #[.int .u64 (x1 : Nat), .int .u64 (y1 : Nat)], .agg #[.int .u64 (x2 : Nat), .int .u64 (y2 : Nat)]] w fun r w' => r = .returned (.tuple #[.int .u8 2, .int .i64 0]) ∧ Below w.heap.size w w'))
    (KA : Box (∀ w, FAt w → Calls Tryd.prog 13 #[] w fun r w' => r = .returned (.bool true) ∧ Below w.heap.size w w'))
    (hT : FAt w) : Calls Tryd.prog 6 #[.int .u8 f, .agg #[.int .u64 (x1 : Nat), .int .u64 (y1 : Nat)], .agg #[.int .u64 (x2 : Nat), .int .u64 (y2 : Nat)], .agg #[.int .u64 (x3 : Nat), .int .u64 (y3 : Nat)]] w fun r w' => r = .returned (.bool true) ∧ Below w.heap.size w w' := by
  have FF := box hT
  clear hT
  obtain ⟨Ra_0, Rb_0, Rc_0, B0⟩ := opn3 w (Obj.cells #[.int .u64 (x1 : Nat), .int .u64 (y1 : Nat)] 25) (Obj.cells #[.int .u64 (x2 : Nat), .int .u64 (y2 : Nat)] 25) (Obj.cells #[.int .u64 (x3 : Nat), .int .u64 (y3 : Nat)] 25)
  go_enter Tryd.func6, Tryd.ntmps6
  obtain ⟨ca_0_0, ca_0_1⟩ := cells2s Ra_0
  obtain ⟨cb_0_0, cb_0_1⟩ := cells2s Rb_0
  obtain ⟨cc_0_0, cc_0_1⟩ := cells2s Rc_0
  have hE := eqb
  go_wp2_with fail
  refine (K1.out _ (fatB FF.out B0)).mono ?_
  rintro r w1 ⟨rfl, b1⟩
  have B1 : Below w.heap.size w w1 := btr B0 b1
  have Ra_1 := heap_of b1 _ _ _ Ra_0
  have Rb_1 := heap_of b1 _ _ _ Rb_0
  have Rc_1 := heap_of b1 _ _ _ Rc_0
  clear b1 B0 Ra_0 ca_0_0 ca_0_1 Rb_0 cb_0_0 cb_0_1 Rc_0 cc_0_0 cc_0_1
  obtain ⟨ca_1_0, ca_1_1⟩ := cells2s Ra_1
  obtain ⟨cb_1_0, cb_1_1⟩ := cells2s Rb_1
  obtain ⟨cc_1_0, cc_1_1⟩ := cells2s Rc_1
  go_wp2_with fail
  refine (K2.out _ (fatB FF.out B1)).mono ?_
  rintro r w2 ⟨rfl, b2⟩
  have B2 : Below w.heap.size w w2 := btr B1 b2
  have Ra_2 := heap_of b2 _ _ _ Ra_1
  have Rb_2 := heap_of b2 _ _ _ Rb_1
  have Rc_2 := heap_of b2 _ _ _ Rc_1
  clear b2 B1 Ra_1 ca_1_0 ca_1_1 Rb_1 cb_1_0 cb_1_1 Rc_1 cc_1_0 cc_1_1
  obtain ⟨ca_2_0, ca_2_1⟩ := cells2s Ra_2
  obtain ⟨cb_2_0, cb_2_1⟩ := cells2s Rb_2
  obtain ⟨cc_2_0, cc_2_1⟩ := cells2s Rc_2
  go_wp2_with fail
  refine (K3.out _ (fatB FF.out B2)).mono ?_
  rintro r w3 ⟨rfl, b3⟩
  have B3 : Below w.heap.size w w3 := btr B2 b3
  have Ra_3 := heap_of b3 _ _ _ Ra_2
  have Rb_3 := heap_of b3 _ _ _ Rb_2
  have Rc_3 := heap_of b3 _ _ _ Rc_2
  clear b3 B2 Ra_2 ca_2_0 ca_2_1 Rb_2 cb_2_0 cb_2_1 Rc_2 cc_2_0 cc_2_1
  obtain ⟨ca_3_0, ca_3_1⟩ := cells2s Ra_3
  obtain ⟨cb_3_0, cb_3_1⟩ := cells2s Rb_3
  obtain ⟨cc_3_0, cc_3_1⟩ := cells2s Rc_3
  go_wp2_with fail
  refine (K4.out _ (fatB FF.out B3)).mono ?_
  rintro r w4 ⟨rfl, b4⟩
  have B4 : Below w.heap.size w w4 := btr B3 b4
  have Ra_4 := heap_of b4 _ _ _ Ra_3
  have Rb_4 := heap_of b4 _ _ _ Rb_3
  have Rc_4 := heap_of b4 _ _ _ Rc_3
  clear b4 B3 Ra_3 ca_3_0 ca_3_1 Rb_3 cb_3_0 cb_3_1 Rc_3 cc_3_0 cc_3_1
  obtain ⟨ca_4_0, ca_4_1⟩ := cells2s Ra_4
  obtain ⟨cb_4_0, cb_4_1⟩ := cells2s Rb_4
  obtain ⟨cc_4_0, cc_4_1⟩ := cells2s Rc_4
  go_wp2_with fail
  refine (K5.out _ (fatB FF.out B4)).mono ?_
  rintro r w5 ⟨rfl, b5⟩
  have B5 : Below w.heap.size w w5 := btr B4 b5
  have Ra_5 := heap_of b5 _ _ _ Ra_4
  have Rb_5 := heap_of b5 _ _ _ Rb_4
  have Rc_5 := heap_of b5 _ _ _ Rc_4
  clear b5 B4 Ra_4 ca_4_0 ca_4_1 Rb_4 cb_4_0 cb_4_1 Rc_4 cc_4_0 cc_4_1
  obtain ⟨ca_5_0, ca_5_1⟩ := cells2s Ra_5
  obtain ⟨cb_5_0, cb_5_1⟩ := cells2s Rb_5
  obtain ⟨cc_5_0, cc_5_1⟩ := cells2s Rc_5
  go_wp2_with fail
  refine (KA.out _ (fatB FF.out B5)).mono ?_
  rintro r w6 ⟨rfl, b6⟩
  have B6 : Below w.heap.size w w6 := btr B5 b6
  have Ra_6 := heap_of b6 _ _ _ Ra_5
  have Rb_6 := heap_of b6 _ _ _ Rb_5
  have Rc_6 := heap_of b6 _ _ _ Rc_5
  clear b6 B5 Ra_5 ca_5_0 ca_5_1 Rb_5 cb_5_0 cb_5_1 Rc_5 cc_5_0 cc_5_1
  obtain ⟨ca_6_0, ca_6_1⟩ := cells2s Ra_6
  obtain ⟨cb_6_0, cb_6_1⟩ := cells2s Rb_6
  obtain ⟨cc_6_0, cc_6_1⟩ := cells2s Rc_6
  go_wp2
  go_ret
  exact ⟨rfl, B6⟩
end Go.Proofs.YtmndjhcmomejjaaDoor
