/-
  What the functions that the statement reaches return: part 14 (F9).
-/
import Derived.Test.YtapikkbifdldfaaGreatDoorFi13
namespace Go.Proofs.YtapikkbifdldfaaGreatDoor
set_option maxRecDepth 100000
set_option maxHeartbeats 40000000
set_option maxRecDepth 100000
open Go.RowKit WMath
set_option linter.unusedSimpArgs false
set_option linter.unusedVariables false
set_option maxRecDepth 100000 in
set_option maxHeartbeats 8000000 in
theorem fi_e1_f (f m : Int) (neg too : Bool) (x3 y3 p q i j : Nat) (u v : Nat) (fl : Int)  (w : World)
    (KI : Box (∀ w, FAt w → Calls Tryz.prog 26 #[.int .u8 f, .bool neg] w fun r w' => r = .returned (.agg #[.int .u64 (p : Nat), .int .u64 (q : Nat)]) ∧ Below w.heap.size w w'))
    (KZ : Box (∀ w, FAt w → Calls Tryz.prog 21 #[.int .u8 f, .bool too] w fun r w' => r = .returned (.agg #[.int .u64 (i : Nat), .int .u64 (j : Nat)]) ∧ Below w.heap.size w w'))
    (K1 : Box (∀ w, FAt w → Calls Tryz.prog 12 #[.int .u8 f, .int .u8 m, .agg #[.int .u64 (p : Nat), .int .u64 (q : Nat)], .agg #[.int .u64 (i : Nat), .int .u64 (j : Nat)], .agg #[.int .u64 (x3 : Nat), .int .u64 (y3 : Nat)]] w fun r w' => r = .returned (.tuple #[.agg #[.int .u64 (u : Nat), .int .u64 (v : Nat)], .int .u8 fl, .int .i64 2]) ∧ Below w.heap.size w w'))
    (KC : Box (∀ w, FAt w → Calls Tryz.prog 27 #[.int .u8 f] w fun r w' => r = .returned (.int .i64 2) ∧ Below w.heap.size w w'))
    (KA : Box (∀ w, FAt w → Calls Tryz.prog 14 #[] w fun r w' => r = .returned (.bool true) ∧ Below w.heap.size w w')) (hT : FAt w) : Calls Tryz.prog 8 #[.int .u8 f, .int .u8 m, .bool neg, .bool too, .bool false, .agg #[.int .u64 (x3 : Nat), .int .u64 (y3 : Nat)]] w fun r w' => r = .returned (.bool true) ∧ Below w.heap.size w w' := by
  have FF := box hT
  clear hT
  obtain ⟨Rc_0, B0⟩ := opn1 w (Obj.cells #[.int .u64 (x3 : Nat), .int .u64 (y3 : Nat)] 26)
  go_enter Tryz.func8, Tryz.ntmps8
  obtain ⟨cc_0_0, cc_0_1⟩ := cells2s Rc_0
  go_wp2_with fail
  refine (KI.out _ (fatB FF.out B0)).mono ?_
  rintro r w1 ⟨rfl, b1⟩
  have B1 : Below w.heap.size w w1 := btr B0 b1
  have Rc_1 := heap_of b1 _ _ _ Rc_0
  clear b1 B0 Rc_0 cc_0_0 cc_0_1
  obtain ⟨cc_1_0, cc_1_1⟩ := cells2s Rc_1
  go_wp2_with fail
  refine (KZ.out _ (fatB FF.out B1)).mono ?_
  rintro r w2 ⟨rfl, b2⟩
  have B2 : Below w.heap.size w w2 := btr B1 b2
  have Rc_2 := heap_of b2 _ _ _ Rc_1
  clear b2 B1 Rc_1 cc_1_0 cc_1_1
  obtain ⟨cc_2_0, cc_2_1⟩ := cells2s Rc_2
  have S3 := box B2.size
  have Lc_3 : Box (w.heap.size < w2.heap.size) := box (Array.getElem?_eq_some_iff.1 Rc_2).1
  have Ra_3 := heap_alloc_last w2 (Obj.cells #[.int .u64 (p : Nat), .int .u64 (q : Nat)] 26)
  have B3 := btr B2 (bal w2 (Obj.cells #[.int .u64 (p : Nat), .int .u64 (q : Nat)] 26))
  have Rc_3 := heap_of (bal w2 (Obj.cells #[.int .u64 (p : Nat), .int .u64 (q : Nat)] 26)) _ _ _ Rc_2
  clear B2 Rc_2 cc_2_0 cc_2_1
  obtain ⟨cc_3_0, cc_3_1⟩ := cells2s Rc_3
  obtain ⟨ca_3_0, ca_3_1⟩ := cells2s Ra_3
  have S4 := box B3.size
  have Lc_4 : Box (w.heap.size < (w2.alloc (Obj.cells #[.int .u64 (p : Nat), .int .u64 (q : Nat)] 26)).heap.size) := box (Array.getElem?_eq_some_iff.1 Rc_3).1
  have La_4 : Box (w2.heap.size < (w2.alloc (Obj.cells #[.int .u64 (p : Nat), .int .u64 (q : Nat)] 26)).heap.size) := box (Array.getElem?_eq_some_iff.1 Ra_3).1
  have Z4 := box (size_al w2 (Obj.cells #[.int .u64 (p : Nat), .int .u64 (q : Nat)] 26))
  have Rb_4 : ((w2.alloc (Obj.cells #[.int .u64 (p : Nat), .int .u64 (q : Nat)] 26)).alloc (Obj.cells #[.int .u64 (i : Nat), .int .u64 (j : Nat)] 26)).heap[w2.heap.size + 1]? = some (Obj.cells #[.int .u64 (i : Nat), .int .u64 (j : Nat)] 26) := by have := heap_alloc_last (w2.alloc (Obj.cells #[.int .u64 (p : Nat), .int .u64 (q : Nat)] 26)) (Obj.cells #[.int .u64 (i : Nat), .int .u64 (j : Nat)] 26); simpa only [size_al] using this
  have B4 := btr B3 (bal (w2.alloc (Obj.cells #[.int .u64 (p : Nat), .int .u64 (q : Nat)] 26)) (Obj.cells #[.int .u64 (i : Nat), .int .u64 (j : Nat)] 26))
  have Rc_4 := heap_of (bal (w2.alloc (Obj.cells #[.int .u64 (p : Nat), .int .u64 (q : Nat)] 26)) (Obj.cells #[.int .u64 (i : Nat), .int .u64 (j : Nat)] 26)) _ _ _ Rc_3
  have Ra_4 := heap_of (bal (w2.alloc (Obj.cells #[.int .u64 (p : Nat), .int .u64 (q : Nat)] 26)) (Obj.cells #[.int .u64 (i : Nat), .int .u64 (j : Nat)] 26)) _ _ _ Ra_3
  clear B3 Rc_3 cc_3_0 cc_3_1 Ra_3 ca_3_0 ca_3_1
  obtain ⟨cc_4_0, cc_4_1⟩ := cells2s Rc_4
  obtain ⟨ca_4_0, ca_4_1⟩ := cells2s Ra_4
  obtain ⟨cb_4_0, cb_4_1⟩ := cells2s Rb_4
  go_wp2_with fail
  refine (K1.out _ (fatB FF.out B4)).mono ?_
  rintro r w5 ⟨rfl, b5⟩
  have B5 : Below w.heap.size w w5 := btr B4 b5
  have Rc_5 := heap_of b5 _ _ _ Rc_4
  have Ra_5 := heap_of b5 _ _ _ Ra_4
  have Rb_5 := heap_of b5 _ _ _ Rb_4
  clear b5 B4 Rc_4 cc_4_0 cc_4_1 Ra_4 ca_4_0 ca_4_1 Rb_4 cb_4_0 cb_4_1
  obtain ⟨cc_5_0, cc_5_1⟩ := cells2s Rc_5
  obtain ⟨ca_5_0, ca_5_1⟩ := cells2s Ra_5
  obtain ⟨cb_5_0, cb_5_1⟩ := cells2s Rb_5
  have S6 := box B5.size
  have Lc_6 : Box (w.heap.size < w5.heap.size) := box (Array.getElem?_eq_some_iff.1 Rc_5).1
  have La_6 : Box (w2.heap.size < w5.heap.size) := box (Array.getElem?_eq_some_iff.1 Ra_5).1
  have Lb_6 : Box (w2.heap.size + 1 < w5.heap.size) := box (Array.getElem?_eq_some_iff.1 Rb_5).1
  have Rx_6 := heap_alloc_last w5 (Obj.cells #[.int .u64 (u : Nat), .int .u64 (v : Nat)] 26)
  have B6 := btr B5 (bal w5 (Obj.cells #[.int .u64 (u : Nat), .int .u64 (v : Nat)] 26))
  have Rc_6 := heap_of (bal w5 (Obj.cells #[.int .u64 (u : Nat), .int .u64 (v : Nat)] 26)) _ _ _ Rc_5
  have Ra_6 := heap_of (bal w5 (Obj.cells #[.int .u64 (u : Nat), .int .u64 (v : Nat)] 26)) _ _ _ Ra_5
  have Rb_6 := heap_of (bal w5 (Obj.cells #[.int .u64 (u : Nat), .int .u64 (v : Nat)] 26)) _ _ _ Rb_5
  clear B5 Rc_5 cc_5_0 cc_5_1 Ra_5 ca_5_0 ca_5_1 Rb_5 cb_5_0 cb_5_1
  obtain ⟨cc_6_0, cc_6_1⟩ := cells2s Rc_6
  obtain ⟨ca_6_0, ca_6_1⟩ := cells2s Ra_6
  obtain ⟨cb_6_0, cb_6_1⟩ := cells2s Rb_6
  obtain ⟨cx_6_0, cx_6_1⟩ := cells2s Rx_6
  go_wp2_with fail
  refine (KC.out _ (fatB FF.out B6)).mono ?_
  rintro r w7 ⟨rfl, b7⟩
  have B7 : Below w.heap.size w w7 := btr B6 b7
  have Rc_7 := heap_of b7 _ _ _ Rc_6
  have Ra_7 := heap_of b7 _ _ _ Ra_6
  have Rb_7 := heap_of b7 _ _ _ Rb_6
  have Rx_7 := heap_of b7 _ _ _ Rx_6
  clear b7 B6 Rc_6 cc_6_0 cc_6_1 Ra_6 ca_6_0 ca_6_1 Rb_6 cb_6_0 cb_6_1 Rx_6 cx_6_0 cx_6_1
  obtain ⟨cc_7_0, cc_7_1⟩ := cells2s Rc_7
  obtain ⟨ca_7_0, ca_7_1⟩ := cells2s Ra_7
  obtain ⟨cb_7_0, cb_7_1⟩ := cells2s Rb_7
  obtain ⟨cx_7_0, cx_7_1⟩ := cells2s Rx_7
  go_wp2_with fail
  refine (KA.out _ (fatB FF.out B7)).mono ?_
  rintro r w8 ⟨rfl, b8⟩
  have B8 : Below w.heap.size w w8 := btr B7 b8
  have Rc_8 := heap_of b8 _ _ _ Rc_7
  have Ra_8 := heap_of b8 _ _ _ Ra_7
  have Rb_8 := heap_of b8 _ _ _ Rb_7
  have Rx_8 := heap_of b8 _ _ _ Rx_7
  clear b8 B7 Rc_7 cc_7_0 cc_7_1 Ra_7 ca_7_0 ca_7_1 Rb_7 cb_7_0 cb_7_1 Rx_7 cx_7_0 cx_7_1
  obtain ⟨cc_8_0, cc_8_1⟩ := cells2s Rc_8
  obtain ⟨ca_8_0, ca_8_1⟩ := cells2s Ra_8
  obtain ⟨cb_8_0, cb_8_1⟩ := cells2s Rb_8
  obtain ⟨cx_8_0, cx_8_1⟩ := cells2s Rx_8
  go_wp2
  go_ret
  exact ⟨rfl, B8⟩
set_option maxRecDepth 100000 in
set_option maxHeartbeats 8000000 in
theorem fi_e1_t (f m : Int) (neg too : Bool) (x3 y3 p q i j : Nat) (u v : Nat) (fl : Int)  (w : World)
    (KI : Box (∀ w, FAt w → Calls Tryz.prog 26 #[.int .u8 f, .bool neg] w fun r w' => r = .returned (.agg #[.int .u64 (p : Nat), .int .u64 (q : Nat)]) ∧ Below w.heap.size w w'))
    (KZ : Box (∀ w, FAt w → Calls Tryz.prog 21 #[.int .u8 f, .bool too] w fun r w' => r = .returned (.agg #[.int .u64 (i : Nat), .int .u64 (j : Nat)]) ∧ Below w.heap.size w w'))
    (K1 : Box (∀ w, FAt w → Calls Tryz.prog 12 #[.int .u8 f, .int .u8 m, .agg #[.int .u64 (i : Nat), .int .u64 (j : Nat)], .agg #[.int .u64 (p : Nat), .int .u64 (q : Nat)], .agg #[.int .u64 (x3 : Nat), .int .u64 (y3 : Nat)]] w fun r w' => r = .returned (.tuple #[.agg #[.int .u64 (u : Nat), .int .u64 (v : Nat)], .int .u8 fl, .int .i64 2]) ∧ Below w.heap.size w w'))
    (KC : Box (∀ w, FAt w → Calls Tryz.prog 27 #[.int .u8 f] w fun r w' => r = .returned (.int .i64 2) ∧ Below w.heap.size w w'))
    (KA : Box (∀ w, FAt w → Calls Tryz.prog 14 #[] w fun r w' => r = .returned (.bool true) ∧ Below w.heap.size w w')) (hT : FAt w) : Calls Tryz.prog 8 #[.int .u8 f, .int .u8 m, .bool neg, .bool too, .bool true, .agg #[.int .u64 (x3 : Nat), .int .u64 (y3 : Nat)]] w fun r w' => r = .returned (.bool true) ∧ Below w.heap.size w w' := by
  have FF := box hT
  clear hT
  obtain ⟨Rc_0, B0⟩ := opn1 w (Obj.cells #[.int .u64 (x3 : Nat), .int .u64 (y3 : Nat)] 26)
  go_enter Tryz.func8, Tryz.ntmps8
  obtain ⟨cc_0_0, cc_0_1⟩ := cells2s Rc_0
  go_wp2_with fail
  refine (KI.out _ (fatB FF.out B0)).mono ?_
  rintro r w1 ⟨rfl, b1⟩
  have B1 : Below w.heap.size w w1 := btr B0 b1
  have Rc_1 := heap_of b1 _ _ _ Rc_0
  clear b1 B0 Rc_0 cc_0_0 cc_0_1
  obtain ⟨cc_1_0, cc_1_1⟩ := cells2s Rc_1
  go_wp2_with fail
  refine (KZ.out _ (fatB FF.out B1)).mono ?_
  rintro r w2 ⟨rfl, b2⟩
  have B2 : Below w.heap.size w w2 := btr B1 b2
  have Rc_2 := heap_of b2 _ _ _ Rc_1
  clear b2 B1 Rc_1 cc_1_0 cc_1_1
  obtain ⟨cc_2_0, cc_2_1⟩ := cells2s Rc_2
  have S3 := box B2.size
  have Lc_3 : Box (w.heap.size < w2.heap.size) := box (Array.getElem?_eq_some_iff.1 Rc_2).1
  have Ra_3 := heap_alloc_last w2 (Obj.cells #[.int .u64 (i : Nat), .int .u64 (j : Nat)] 26)
  have B3 := btr B2 (bal w2 (Obj.cells #[.int .u64 (i : Nat), .int .u64 (j : Nat)] 26))
  have Rc_3 := heap_of (bal w2 (Obj.cells #[.int .u64 (i : Nat), .int .u64 (j : Nat)] 26)) _ _ _ Rc_2
  clear B2 Rc_2 cc_2_0 cc_2_1
  obtain ⟨cc_3_0, cc_3_1⟩ := cells2s Rc_3
  obtain ⟨ca_3_0, ca_3_1⟩ := cells2s Ra_3
  have S4 := box B3.size
  have Lc_4 : Box (w.heap.size < (w2.alloc (Obj.cells #[.int .u64 (i : Nat), .int .u64 (j : Nat)] 26)).heap.size) := box (Array.getElem?_eq_some_iff.1 Rc_3).1
  have La_4 : Box (w2.heap.size < (w2.alloc (Obj.cells #[.int .u64 (i : Nat), .int .u64 (j : Nat)] 26)).heap.size) := box (Array.getElem?_eq_some_iff.1 Ra_3).1
  have Z4 := box (size_al w2 (Obj.cells #[.int .u64 (i : Nat), .int .u64 (j : Nat)] 26))
  have Rb_4 : ((w2.alloc (Obj.cells #[.int .u64 (i : Nat), .int .u64 (j : Nat)] 26)).alloc (Obj.cells #[.int .u64 (p : Nat), .int .u64 (q : Nat)] 26)).heap[w2.heap.size + 1]? = some (Obj.cells #[.int .u64 (p : Nat), .int .u64 (q : Nat)] 26) := by have := heap_alloc_last (w2.alloc (Obj.cells #[.int .u64 (i : Nat), .int .u64 (j : Nat)] 26)) (Obj.cells #[.int .u64 (p : Nat), .int .u64 (q : Nat)] 26); simpa only [size_al] using this
  have B4 := btr B3 (bal (w2.alloc (Obj.cells #[.int .u64 (i : Nat), .int .u64 (j : Nat)] 26)) (Obj.cells #[.int .u64 (p : Nat), .int .u64 (q : Nat)] 26))
  have Rc_4 := heap_of (bal (w2.alloc (Obj.cells #[.int .u64 (i : Nat), .int .u64 (j : Nat)] 26)) (Obj.cells #[.int .u64 (p : Nat), .int .u64 (q : Nat)] 26)) _ _ _ Rc_3
  have Ra_4 := heap_of (bal (w2.alloc (Obj.cells #[.int .u64 (i : Nat), .int .u64 (j : Nat)] 26)) (Obj.cells #[.int .u64 (p : Nat), .int .u64 (q : Nat)] 26)) _ _ _ Ra_3
  clear B3 Rc_3 cc_3_0 cc_3_1 Ra_3 ca_3_0 ca_3_1
  obtain ⟨cc_4_0, cc_4_1⟩ := cells2s Rc_4
  obtain ⟨ca_4_0, ca_4_1⟩ := cells2s Ra_4
  obtain ⟨cb_4_0, cb_4_1⟩ := cells2s Rb_4
  go_wp2_with fail
  refine (K1.out _ (fatB FF.out B4)).mono ?_
  rintro r w5 ⟨rfl, b5⟩
  have B5 : Below w.heap.size w w5 := btr B4 b5
  have Rc_5 := heap_of b5 _ _ _ Rc_4
  have Ra_5 := heap_of b5 _ _ _ Ra_4
  have Rb_5 := heap_of b5 _ _ _ Rb_4
  clear b5 B4 Rc_4 cc_4_0 cc_4_1 Ra_4 ca_4_0 ca_4_1 Rb_4 cb_4_0 cb_4_1
  obtain ⟨cc_5_0, cc_5_1⟩ := cells2s Rc_5
  obtain ⟨ca_5_0, ca_5_1⟩ := cells2s Ra_5
  obtain ⟨cb_5_0, cb_5_1⟩ := cells2s Rb_5
  have S6 := box B5.size
  have Lc_6 : Box (w.heap.size < w5.heap.size) := box (Array.getElem?_eq_some_iff.1 Rc_5).1
  have La_6 : Box (w2.heap.size < w5.heap.size) := box (Array.getElem?_eq_some_iff.1 Ra_5).1
  have Lb_6 : Box (w2.heap.size + 1 < w5.heap.size) := box (Array.getElem?_eq_some_iff.1 Rb_5).1
  have Rx_6 := heap_alloc_last w5 (Obj.cells #[.int .u64 (u : Nat), .int .u64 (v : Nat)] 26)
  have B6 := btr B5 (bal w5 (Obj.cells #[.int .u64 (u : Nat), .int .u64 (v : Nat)] 26))
  have Rc_6 := heap_of (bal w5 (Obj.cells #[.int .u64 (u : Nat), .int .u64 (v : Nat)] 26)) _ _ _ Rc_5
  have Ra_6 := heap_of (bal w5 (Obj.cells #[.int .u64 (u : Nat), .int .u64 (v : Nat)] 26)) _ _ _ Ra_5
  have Rb_6 := heap_of (bal w5 (Obj.cells #[.int .u64 (u : Nat), .int .u64 (v : Nat)] 26)) _ _ _ Rb_5
  clear B5 Rc_5 cc_5_0 cc_5_1 Ra_5 ca_5_0 ca_5_1 Rb_5 cb_5_0 cb_5_1
  obtain ⟨cc_6_0, cc_6_1⟩ := cells2s Rc_6
  obtain ⟨ca_6_0, ca_6_1⟩ := cells2s Ra_6
  obtain ⟨cb_6_0, cb_6_1⟩ := cells2s Rb_6
  obtain ⟨cx_6_0, cx_6_1⟩ := cells2s Rx_6
  go_wp2_with fail
  refine (KC.out _ (fatB FF.out B6)).mono ?_
  rintro r w7 ⟨rfl, b7⟩
  have B7 : Below w.heap.size w w7 := btr B6 b7
  have Rc_7 := heap_of b7 _ _ _ Rc_6
  have Ra_7 := heap_of b7 _ _ _ Ra_6
  have Rb_7 := heap_of b7 _ _ _ Rb_6
  have Rx_7 := heap_of b7 _ _ _ Rx_6
  clear b7 B6 Rc_6 cc_6_0 cc_6_1 Ra_6 ca_6_0 ca_6_1 Rb_6 cb_6_0 cb_6_1 Rx_6 cx_6_0 cx_6_1
  obtain ⟨cc_7_0, cc_7_1⟩ := cells2s Rc_7
  obtain ⟨ca_7_0, ca_7_1⟩ := cells2s Ra_7
  obtain ⟨cb_7_0, cb_7_1⟩ := cells2s Rb_7
  obtain ⟨cx_7_0, cx_7_1⟩ := cells2s Rx_7
  go_wp2_with fail
  refine (KA.out _ (fatB FF.out B7)).mono ?_
  rintro r w8 ⟨rfl, b8⟩
  have B8 : Below w.heap.size w w8 := btr B7 b8
  have Rc_8 := heap_of b8 _ _ _ Rc_7
  have Ra_8 := heap_of b8 _ _ _ Ra_7
  have Rb_8 := heap_of b8 _ _ _ Rb_7
  have Rx_8 := heap_of b8 _ _ _ Rx_7
  clear b8 B7 Rc_7 cc_7_0 cc_7_1 Ra_7 ca_7_0 ca_7_1 Rb_7 cb_7_0 cb_7_1 Rx_7 cx_7_0 cx_7_1
  obtain ⟨cc_8_0, cc_8_1⟩ := cells2s Rc_8
  obtain ⟨ca_8_0, ca_8_1⟩ := cells2s Ra_8
  obtain ⟨cb_8_0, cb_8_1⟩ := cells2s Rb_8
  obtain ⟨cx_8_0, cx_8_1⟩ := cells2s Rx_8
  go_wp2
  go_ret
  exact ⟨rfl, B8⟩
set_option maxRecDepth 100000 in
set_option maxHeartbeats 8000000 in
theorem fi_e2_f (f m : Int) (neg too : Bool) (x3 y3 p q i j : Nat) (u v : Nat) (fl : Int)  (w : World)
    (KI : Box (∀ w, FAt w → Calls Tryz.prog 26 #[.int .u8 f, .bool neg] w fun r w' => r = .returned (.agg #[.int .u64 (p : Nat), .int .u64 (q : Nat)]) ∧ Below w.heap.size w w'))
    (KZ : Box (∀ w, FAt w → Calls Tryz.prog 21 #[.int .u8 f, .bool too] w fun r w' => r = .returned (.agg #[.int .u64 (i : Nat), .int .u64 (j : Nat)]) ∧ Below w.heap.size w w'))
    (K1 : Box (∀ w, FAt w → Calls Tryz.prog 12 #[.int .u8 f, .int .u8 m, .agg #[.int .u64 (p : Nat), .int .u64 (q : Nat)], .agg #[.int .u64 (i : Nat), .int .u64 (j : Nat)], .agg #[.int .u64 (x3 : Nat), .int .u64 (y3 : Nat)]] w fun r w' => r = .returned (.tuple #[.agg #[.int .u64 (u : Nat), .int .u64 (v : Nat)], .int .u8 fl, .int .i64 2]) ∧ Below w.heap.size w w'))
    (KC : Box (∀ w, FAt w → Calls Tryz.prog 27 #[.int .u8 f] w fun r w' => r = .returned (.int .i64 0) ∧ Below w.heap.size w w'))
    (KM : Box (∀ w, FAt w → Calls Tryz.prog 28 #[.int .u8 m] w fun r w' => r = .returned (.int .i64 2) ∧ Below w.heap.size w w'))
    (KA : Box (∀ w, FAt w → Calls Tryz.prog 14 #[] w fun r w' => r = .returned (.bool true) ∧ Below w.heap.size w w')) (hT : FAt w) : Calls Tryz.prog 8 #[.int .u8 f, .int .u8 m, .bool neg, .bool too, .bool false, .agg #[.int .u64 (x3 : Nat), .int .u64 (y3 : Nat)]] w fun r w' => r = .returned (.bool true) ∧ Below w.heap.size w w' := by
  have FF := box hT
  clear hT
  obtain ⟨Rc_0, B0⟩ := opn1 w (Obj.cells #[.int .u64 (x3 : Nat), .int .u64 (y3 : Nat)] 26)
  go_enter Tryz.func8, Tryz.ntmps8
  obtain ⟨cc_0_0, cc_0_1⟩ := cells2s Rc_0
  go_wp2_with fail
  refine (KI.out _ (fatB FF.out B0)).mono ?_
  rintro r w1 ⟨rfl, b1⟩
  have B1 : Below w.heap.size w w1 := btr B0 b1
  have Rc_1 := heap_of b1 _ _ _ Rc_0
  clear b1 B0 Rc_0 cc_0_0 cc_0_1
  obtain ⟨cc_1_0, cc_1_1⟩ := cells2s Rc_1
  go_wp2_with fail
  refine (KZ.out _ (fatB FF.out B1)).mono ?_
  rintro r w2 ⟨rfl, b2⟩
  have B2 : Below w.heap.size w w2 := btr B1 b2
  have Rc_2 := heap_of b2 _ _ _ Rc_1
  clear b2 B1 Rc_1 cc_1_0 cc_1_1
  obtain ⟨cc_2_0, cc_2_1⟩ := cells2s Rc_2
  have S3 := box B2.size
  have Lc_3 : Box (w.heap.size < w2.heap.size) := box (Array.getElem?_eq_some_iff.1 Rc_2).1
  have Ra_3 := heap_alloc_last w2 (Obj.cells #[.int .u64 (p : Nat), .int .u64 (q : Nat)] 26)
  have B3 := btr B2 (bal w2 (Obj.cells #[.int .u64 (p : Nat), .int .u64 (q : Nat)] 26))
  have Rc_3 := heap_of (bal w2 (Obj.cells #[.int .u64 (p : Nat), .int .u64 (q : Nat)] 26)) _ _ _ Rc_2
  clear B2 Rc_2 cc_2_0 cc_2_1
  obtain ⟨cc_3_0, cc_3_1⟩ := cells2s Rc_3
  obtain ⟨ca_3_0, ca_3_1⟩ := cells2s Ra_3
  have S4 := box B3.size
  have Lc_4 : Box (w.heap.size < (w2.alloc (Obj.cells #[.int .u64 (p : Nat), .int .u64 (q : Nat)] 26)).heap.size) := box (Array.getElem?_eq_some_iff.1 Rc_3).1
  have La_4 : Box (w2.heap.size < (w2.alloc (Obj.cells #[.int .u64 (p : Nat), .int .u64 (q : Nat)] 26)).heap.size) := box (Array.getElem?_eq_some_iff.1 Ra_3).1
  have Z4 := box (size_al w2 (Obj.cells #[.int .u64 (p : Nat), .int .u64 (q : Nat)] 26))
  have Rb_4 : ((w2.alloc (Obj.cells #[.int .u64 (p : Nat), .int .u64 (q : Nat)] 26)).alloc (Obj.cells #[.int .u64 (i : Nat), .int .u64 (j : Nat)] 26)).heap[w2.heap.size + 1]? = some (Obj.cells #[.int .u64 (i : Nat), .int .u64 (j : Nat)] 26) := by have := heap_alloc_last (w2.alloc (Obj.cells #[.int .u64 (p : Nat), .int .u64 (q : Nat)] 26)) (Obj.cells #[.int .u64 (i : Nat), .int .u64 (j : Nat)] 26); simpa only [size_al] using this
  have B4 := btr B3 (bal (w2.alloc (Obj.cells #[.int .u64 (p : Nat), .int .u64 (q : Nat)] 26)) (Obj.cells #[.int .u64 (i : Nat), .int .u64 (j : Nat)] 26))
  have Rc_4 := heap_of (bal (w2.alloc (Obj.cells #[.int .u64 (p : Nat), .int .u64 (q : Nat)] 26)) (Obj.cells #[.int .u64 (i : Nat), .int .u64 (j : Nat)] 26)) _ _ _ Rc_3
  have Ra_4 := heap_of (bal (w2.alloc (Obj.cells #[.int .u64 (p : Nat), .int .u64 (q : Nat)] 26)) (Obj.cells #[.int .u64 (i : Nat), .int .u64 (j : Nat)] 26)) _ _ _ Ra_3
  clear B3 Rc_3 cc_3_0 cc_3_1 Ra_3 ca_3_0 ca_3_1
  obtain ⟨cc_4_0, cc_4_1⟩ := cells2s Rc_4
  obtain ⟨ca_4_0, ca_4_1⟩ := cells2s Ra_4
  obtain ⟨cb_4_0, cb_4_1⟩ := cells2s Rb_4
  go_wp2_with fail
  refine (K1.out _ (fatB FF.out B4)).mono ?_
  rintro r w5 ⟨rfl, b5⟩
  have B5 : Below w.heap.size w w5 := btr B4 b5
  have Rc_5 := heap_of b5 _ _ _ Rc_4
  have Ra_5 := heap_of b5 _ _ _ Ra_4
  have Rb_5 := heap_of b5 _ _ _ Rb_4
  clear b5 B4 Rc_4 cc_4_0 cc_4_1 Ra_4 ca_4_0 ca_4_1 Rb_4 cb_4_0 cb_4_1
  obtain ⟨cc_5_0, cc_5_1⟩ := cells2s Rc_5
  obtain ⟨ca_5_0, ca_5_1⟩ := cells2s Ra_5
  obtain ⟨cb_5_0, cb_5_1⟩ := cells2s Rb_5
  have S6 := box B5.size
  have Lc_6 : Box (w.heap.size < w5.heap.size) := box (Array.getElem?_eq_some_iff.1 Rc_5).1
  have La_6 : Box (w2.heap.size < w5.heap.size) := box (Array.getElem?_eq_some_iff.1 Ra_5).1
  have Lb_6 : Box (w2.heap.size + 1 < w5.heap.size) := box (Array.getElem?_eq_some_iff.1 Rb_5).1
  have Rx_6 := heap_alloc_last w5 (Obj.cells #[.int .u64 (u : Nat), .int .u64 (v : Nat)] 26)
  have B6 := btr B5 (bal w5 (Obj.cells #[.int .u64 (u : Nat), .int .u64 (v : Nat)] 26))
  have Rc_6 := heap_of (bal w5 (Obj.cells #[.int .u64 (u : Nat), .int .u64 (v : Nat)] 26)) _ _ _ Rc_5
  have Ra_6 := heap_of (bal w5 (Obj.cells #[.int .u64 (u : Nat), .int .u64 (v : Nat)] 26)) _ _ _ Ra_5
  have Rb_6 := heap_of (bal w5 (Obj.cells #[.int .u64 (u : Nat), .int .u64 (v : Nat)] 26)) _ _ _ Rb_5
  clear B5 Rc_5 cc_5_0 cc_5_1 Ra_5 ca_5_0 ca_5_1 Rb_5 cb_5_0 cb_5_1
  obtain ⟨cc_6_0, cc_6_1⟩ := cells2s Rc_6
  obtain ⟨ca_6_0, ca_6_1⟩ := cells2s Ra_6
  obtain ⟨cb_6_0, cb_6_1⟩ := cells2s Rb_6
  obtain ⟨cx_6_0, cx_6_1⟩ := cells2s Rx_6
  go_wp2_with fail
  refine (KC.out _ (fatB FF.out B6)).mono ?_
  rintro r w7 ⟨rfl, b7⟩
  have B7 : Below w.heap.size w w7 := btr B6 b7
  have Rc_7 := heap_of b7 _ _ _ Rc_6
  have Ra_7 := heap_of b7 _ _ _ Ra_6
  have Rb_7 := heap_of b7 _ _ _ Rb_6
  have Rx_7 := heap_of b7 _ _ _ Rx_6
  clear b7 B6 Rc_6 cc_6_0 cc_6_1 Ra_6 ca_6_0 ca_6_1 Rb_6 cb_6_0 cb_6_1 Rx_6 cx_6_0 cx_6_1
  obtain ⟨cc_7_0, cc_7_1⟩ := cells2s Rc_7
  obtain ⟨ca_7_0, ca_7_1⟩ := cells2s Ra_7
  obtain ⟨cb_7_0, cb_7_1⟩ := cells2s Rb_7
  obtain ⟨cx_7_0, cx_7_1⟩ := cells2s Rx_7
  go_wp2_with fail
  refine (KM.out _ (fatB FF.out B7)).mono ?_
  rintro r w8 ⟨rfl, b8⟩
  have B8 : Below w.heap.size w w8 := btr B7 b8
  have Rc_8 := heap_of b8 _ _ _ Rc_7
  have Ra_8 := heap_of b8 _ _ _ Ra_7
  have Rb_8 := heap_of b8 _ _ _ Rb_7
  have Rx_8 := heap_of b8 _ _ _ Rx_7
  clear b8 B7 Rc_7 cc_7_0 cc_7_1 Ra_7 ca_7_0 ca_7_1 Rb_7 cb_7_0 cb_7_1 Rx_7 cx_7_0 cx_7_1
  obtain ⟨cc_8_0, cc_8_1⟩ := cells2s Rc_8
  obtain ⟨ca_8_0, ca_8_1⟩ := cells2s Ra_8
  obtain ⟨cb_8_0, cb_8_1⟩ := cells2s Rb_8
  obtain ⟨cx_8_0, cx_8_1⟩ := cells2s Rx_8
  go_wp2_with fail
  refine (KA.out _ (fatB FF.out B8)).mono ?_
  rintro r w9 ⟨rfl, b9⟩
  have B9 : Below w.heap.size w w9 := btr B8 b9
  have Rc_9 := heap_of b9 _ _ _ Rc_8
  have Ra_9 := heap_of b9 _ _ _ Ra_8
  have Rb_9 := heap_of b9 _ _ _ Rb_8
  have Rx_9 := heap_of b9 _ _ _ Rx_8
  clear b9 B8 Rc_8 cc_8_0 cc_8_1 Ra_8 ca_8_0 ca_8_1 Rb_8 cb_8_0 cb_8_1 Rx_8 cx_8_0 cx_8_1
  obtain ⟨cc_9_0, cc_9_1⟩ := cells2s Rc_9
  obtain ⟨ca_9_0, ca_9_1⟩ := cells2s Ra_9
  obtain ⟨cb_9_0, cb_9_1⟩ := cells2s Rb_9
  obtain ⟨cx_9_0, cx_9_1⟩ := cells2s Rx_9
  go_wp2
  go_ret
  exact ⟨rfl, B9⟩
set_option maxRecDepth 100000 in
set_option maxHeartbeats 8000000 in
theorem fi_e2_t (f m : Int) (neg too : Bool) (x3 y3 p q i j : Nat) (u v : Nat) (fl : Int)  (w : World)
    (KI : Box (∀ w, FAt w → Calls Tryz.prog 26 #[.int .u8 f, .bool neg] w fun r w' => r = .returned (.agg #[.int .u64 (p : Nat), .int .u64 (q : Nat)]) ∧ Below w.heap.size w w'))
    (KZ : Box (∀ w, FAt w → Calls Tryz.prog 21 #[.int .u8 f, .bool too] w fun r w' => r = .returned (.agg #[.int .u64 (i : Nat), .int .u64 (j : Nat)]) ∧ Below w.heap.size w w'))
    (K1 : Box (∀ w, FAt w → Calls Tryz.prog 12 #[.int .u8 f, .int .u8 m, .agg #[.int .u64 (i : Nat), .int .u64 (j : Nat)], .agg #[.int .u64 (p : Nat), .int .u64 (q : Nat)], .agg #[.int .u64 (x3 : Nat), .int .u64 (y3 : Nat)]] w fun r w' => r = .returned (.tuple #[.agg #[.int .u64 (u : Nat), .int .u64 (v : Nat)], .int .u8 fl, .int .i64 2]) ∧ Below w.heap.size w w'))
    (KC : Box (∀ w, FAt w → Calls Tryz.prog 27 #[.int .u8 f] w fun r w' => r = .returned (.int .i64 0) ∧ Below w.heap.size w w'))
    (KM : Box (∀ w, FAt w → Calls Tryz.prog 28 #[.int .u8 m] w fun r w' => r = .returned (.int .i64 2) ∧ Below w.heap.size w w'))
    (KA : Box (∀ w, FAt w → Calls Tryz.prog 14 #[] w fun r w' => r = .returned (.bool true) ∧ Below w.heap.size w w')) (hT : FAt w) : Calls Tryz.prog 8 #[.int .u8 f, .int .u8 m, .bool neg, .bool too, .bool true, .agg #[.int .u64 (x3 : Nat), .int .u64 (y3 : Nat)]] w fun r w' => r = .returned (.bool true) ∧ Below w.heap.size w w' := by
  have FF := box hT
  clear hT
  obtain ⟨Rc_0, B0⟩ := opn1 w (Obj.cells #[.int .u64 (x3 : Nat), .int .u64 (y3 : Nat)] 26)
  go_enter Tryz.func8, Tryz.ntmps8
  obtain ⟨cc_0_0, cc_0_1⟩ := cells2s Rc_0
  go_wp2_with fail
  refine (KI.out _ (fatB FF.out B0)).mono ?_
  rintro r w1 ⟨rfl, b1⟩
  have B1 : Below w.heap.size w w1 := btr B0 b1
  have Rc_1 := heap_of b1 _ _ _ Rc_0
  clear b1 B0 Rc_0 cc_0_0 cc_0_1
  obtain ⟨cc_1_0, cc_1_1⟩ := cells2s Rc_1
  go_wp2_with fail
  refine (KZ.out _ (fatB FF.out B1)).mono ?_
  rintro r w2 ⟨rfl, b2⟩
  have B2 : Below w.heap.size w w2 := btr B1 b2
  have Rc_2 := heap_of b2 _ _ _ Rc_1
  clear b2 B1 Rc_1 cc_1_0 cc_1_1
  obtain ⟨cc_2_0, cc_2_1⟩ := cells2s Rc_2
  have S3 := box B2.size
  have Lc_3 : Box (w.heap.size < w2.heap.size) := box (Array.getElem?_eq_some_iff.1 Rc_2).1
  have Ra_3 := heap_alloc_last w2 (Obj.cells #[.int .u64 (i : Nat), .int .u64 (j : Nat)] 26)
  have B3 := btr B2 (bal w2 (Obj.cells #[.int .u64 (i : Nat), .int .u64 (j : Nat)] 26))
  have Rc_3 := heap_of (bal w2 (Obj.cells #[.int .u64 (i : Nat), .int .u64 (j : Nat)] 26)) _ _ _ Rc_2
  clear B2 Rc_2 cc_2_0 cc_2_1
  obtain ⟨cc_3_0, cc_3_1⟩ := cells2s Rc_3
  obtain ⟨ca_3_0, ca_3_1⟩ := cells2s Ra_3
  have S4 := box B3.size
  have Lc_4 : Box (w.heap.size < (w2.alloc (Obj.cells #[.int .u64 (i : Nat), .int .u64 (j : Nat)] 26)).heap.size) := box (Array.getElem?_eq_some_iff.1 Rc_3).1
  have La_4 : Box (w2.heap.size < (w2.alloc (Obj.cells #[.int .u64 (i : Nat), .int .u64 (j : Nat)] 26)).heap.size) := box (Array.getElem?_eq_some_iff.1 Ra_3).1
  have Z4 := box (size_al w2 (Obj.cells #[.int .u64 (i : Nat), .int .u64 (j : Nat)] 26))
  have Rb_4 : ((w2.alloc (Obj.cells #[.int .u64 (i : Nat), .int .u64 (j : Nat)] 26)).alloc (Obj.cells #[.int .u64 (p : Nat), .int .u64 (q : Nat)] 26)).heap[w2.heap.size + 1]? = some (Obj.cells #[.int .u64 (p : Nat), .int .u64 (q : Nat)] 26) := by have := heap_alloc_last (w2.alloc (Obj.cells #[.int .u64 (i : Nat), .int .u64 (j : Nat)] 26)) (Obj.cells #[.int .u64 (p : Nat), .int .u64 (q : Nat)] 26); simpa only [size_al] using this
  have B4 := btr B3 (bal (w2.alloc (Obj.cells #[.int .u64 (i : Nat), .int .u64 (j : Nat)] 26)) (Obj.cells #[.int .u64 (p : Nat), .int .u64 (q : Nat)] 26))
  have Rc_4 := heap_of (bal (w2.alloc (Obj.cells #[.int .u64 (i : Nat), .int .u64 (j : Nat)] 26)) (Obj.cells #[.int .u64 (p : Nat), .int .u64 (q : Nat)] 26)) _ _ _ Rc_3
  have Ra_4 := heap_of (bal (w2.alloc (Obj.cells #[.int .u64 (i : Nat), .int .u64 (j : Nat)] 26)) (Obj.cells #[.int .u64 (p : Nat), .int .u64 (q : Nat)] 26)) _ _ _ Ra_3
  clear B3 Rc_3 cc_3_0 cc_3_1 Ra_3 ca_3_0 ca_3_1
  obtain ⟨cc_4_0, cc_4_1⟩ := cells2s Rc_4
  obtain ⟨ca_4_0, ca_4_1⟩ := cells2s Ra_4
  obtain ⟨cb_4_0, cb_4_1⟩ := cells2s Rb_4
  go_wp2_with fail
  refine (K1.out _ (fatB FF.out B4)).mono ?_
  rintro r w5 ⟨rfl, b5⟩
  have B5 : Below w.heap.size w w5 := btr B4 b5
  have Rc_5 := heap_of b5 _ _ _ Rc_4
  have Ra_5 := heap_of b5 _ _ _ Ra_4
  have Rb_5 := heap_of b5 _ _ _ Rb_4
  clear b5 B4 Rc_4 cc_4_0 cc_4_1 Ra_4 ca_4_0 ca_4_1 Rb_4 cb_4_0 cb_4_1
  obtain ⟨cc_5_0, cc_5_1⟩ := cells2s Rc_5
  obtain ⟨ca_5_0, ca_5_1⟩ := cells2s Ra_5
  obtain ⟨cb_5_0, cb_5_1⟩ := cells2s Rb_5
  have S6 := box B5.size
  have Lc_6 : Box (w.heap.size < w5.heap.size) := box (Array.getElem?_eq_some_iff.1 Rc_5).1
  have La_6 : Box (w2.heap.size < w5.heap.size) := box (Array.getElem?_eq_some_iff.1 Ra_5).1
  have Lb_6 : Box (w2.heap.size + 1 < w5.heap.size) := box (Array.getElem?_eq_some_iff.1 Rb_5).1
  have Rx_6 := heap_alloc_last w5 (Obj.cells #[.int .u64 (u : Nat), .int .u64 (v : Nat)] 26)
  have B6 := btr B5 (bal w5 (Obj.cells #[.int .u64 (u : Nat), .int .u64 (v : Nat)] 26))
  have Rc_6 := heap_of (bal w5 (Obj.cells #[.int .u64 (u : Nat), .int .u64 (v : Nat)] 26)) _ _ _ Rc_5
  have Ra_6 := heap_of (bal w5 (Obj.cells #[.int .u64 (u : Nat), .int .u64 (v : Nat)] 26)) _ _ _ Ra_5
  have Rb_6 := heap_of (bal w5 (Obj.cells #[.int .u64 (u : Nat), .int .u64 (v : Nat)] 26)) _ _ _ Rb_5
  clear B5 Rc_5 cc_5_0 cc_5_1 Ra_5 ca_5_0 ca_5_1 Rb_5 cb_5_0 cb_5_1
  obtain ⟨cc_6_0, cc_6_1⟩ := cells2s Rc_6
  obtain ⟨ca_6_0, ca_6_1⟩ := cells2s Ra_6
  obtain ⟨cb_6_0, cb_6_1⟩ := cells2s Rb_6
  obtain ⟨cx_6_0, cx_6_1⟩ := cells2s Rx_6
  go_wp2_with fail
  refine (KC.out _ (fatB FF.out B6)).mono ?_
  rintro r w7 ⟨rfl, b7⟩
  have B7 : Below w.heap.size w w7 := btr B6 b7
  have Rc_7 := heap_of b7 _ _ _ Rc_6
  have Ra_7 := heap_of b7 _ _ _ Ra_6
  have Rb_7 := heap_of b7 _ _ _ Rb_6
  have Rx_7 := heap_of b7 _ _ _ Rx_6
  clear b7 B6 Rc_6 cc_6_0 cc_6_1 Ra_6 ca_6_0 ca_6_1 Rb_6 cb_6_0 cb_6_1 Rx_6 cx_6_0 cx_6_1
  obtain ⟨cc_7_0, cc_7_1⟩ := cells2s Rc_7
  obtain ⟨ca_7_0, ca_7_1⟩ := cells2s Ra_7
  obtain ⟨cb_7_0, cb_7_1⟩ := cells2s Rb_7
  obtain ⟨cx_7_0, cx_7_1⟩ := cells2s Rx_7
  go_wp2_with fail
  refine (KM.out _ (fatB FF.out B7)).mono ?_
  rintro r w8 ⟨rfl, b8⟩
  have B8 : Below w.heap.size w w8 := btr B7 b8
  have Rc_8 := heap_of b8 _ _ _ Rc_7
  have Ra_8 := heap_of b8 _ _ _ Ra_7
  have Rb_8 := heap_of b8 _ _ _ Rb_7
  have Rx_8 := heap_of b8 _ _ _ Rx_7
  clear b8 B7 Rc_7 cc_7_0 cc_7_1 Ra_7 ca_7_0 ca_7_1 Rb_7 cb_7_0 cb_7_1 Rx_7 cx_7_0 cx_7_1
  obtain ⟨cc_8_0, cc_8_1⟩ := cells2s Rc_8
  obtain ⟨ca_8_0, ca_8_1⟩ := cells2s Ra_8
  obtain ⟨cb_8_0, cb_8_1⟩ := cells2s Rb_8
  obtain ⟨cx_8_0, cx_8_1⟩ := cells2s Rx_8
  go_wp2_with fail
  refine (KA.out _ (fatB FF.out B8)).mono ?_
  rintro r w9 ⟨rfl, b9⟩
  have B9 : Below w.heap.size w w9 := btr B8 b9
  have Rc_9 := heap_of b9 _ _ _ Rc_8
  have Ra_9 := heap_of b9 _ _ _ Ra_8
  have Rb_9 := heap_of b9 _ _ _ Rb_8
  have Rx_9 := heap_of b9 _ _ _ Rx_8
  clear b9 B8 Rc_8 cc_8_0 cc_8_1 Ra_8 ca_8_0 ca_8_1 Rb_8 cb_8_0 cb_8_1 Rx_8 cx_8_0 cx_8_1
  obtain ⟨cc_9_0, cc_9_1⟩ := cells2s Rc_9
  obtain ⟨ca_9_0, ca_9_1⟩ := cells2s Ra_9
  obtain ⟨cb_9_0, cb_9_1⟩ := cells2s Rb_9
  obtain ⟨cx_9_0, cx_9_1⟩ := cells2s Rx_9
  go_wp2
  go_ret
  exact ⟨rfl, B9⟩
set_option maxRecDepth 100000 in
set_option maxHeartbeats 8000000 in
theorem fi_e3_f (f m : Int) (neg too : Bool) (x3 y3 p q i j : Nat) (u v : Nat) (fl : Int)  (w : World)
    (KI : Box (∀ w, FAt w → Calls Tryz.prog 26 #[.int .u8 f, .bool neg] w fun r w' => r = .returned (.agg #[.int .u64 (p : Nat), .int .u64 (q : Nat)]) ∧ Below w.heap.size w w'))
    (KZ : Box (∀ w, FAt w → Calls Tryz.prog 21 #[.int .u8 f, .bool too] w fun r w' => r = .returned (.agg #[.int .u64 (i : Nat), .int .u64 (j : Nat)]) ∧ Below w.heap.size w w'))
    (K1 : Box (∀ w, FAt w → Calls Tryz.prog 12 #[.int .u8 f, .int .u8 m, .agg #[.int .u64 (p : Nat), .int .u64 (q : Nat)], .agg #[.int .u64 (i : Nat), .int .u64 (j : Nat)], .agg #[.int .u64 (x3 : Nat), .int .u64 (y3 : Nat)]] w fun r w' => r = .returned (.tuple #[.agg #[.int .u64 (u : Nat), .int .u64 (v : Nat)], .int .u8 fl, .int .i64 2]) ∧ Below w.heap.size w w'))
    (KC : Box (∀ w, FAt w → Calls Tryz.prog 27 #[.int .u8 f] w fun r w' => r = .returned (.int .i64 0) ∧ Below w.heap.size w w'))
    (KM : Box (∀ w, FAt w → Calls Tryz.prog 28 #[.int .u8 m] w fun r w' => r = .returned (.int .i64 0) ∧ Below w.heap.size w w'))
    (KF : Box (∀ w, FAt w → Calls Tryz.prog 29 #[.int .u8 f, .agg #[.int .u64 (x3 : Nat), .int .u64 (y3 : Nat)]] w fun r w' => r = .returned (.bool false) ∧ Below w.heap.size w w'))
    (KA : Box (∀ w, FAt w → Calls Tryz.prog 14 #[] w fun r w' => r = .returned (.bool true) ∧ Below w.heap.size w w')) (hT : FAt w) : Calls Tryz.prog 8 #[.int .u8 f, .int .u8 m, .bool neg, .bool too, .bool false, .agg #[.int .u64 (x3 : Nat), .int .u64 (y3 : Nat)]] w fun r w' => r = .returned (.bool true) ∧ Below w.heap.size w w' := by
  have FF := box hT
  clear hT
  obtain ⟨Rc_0, B0⟩ := opn1 w (Obj.cells #[.int .u64 (x3 : Nat), .int .u64 (y3 : Nat)] 26)
  go_enter Tryz.func8, Tryz.ntmps8
  obtain ⟨cc_0_0, cc_0_1⟩ := cells2s Rc_0
  go_wp2_with fail
  refine (KI.out _ (fatB FF.out B0)).mono ?_
  rintro r w1 ⟨rfl, b1⟩
  have B1 : Below w.heap.size w w1 := btr B0 b1
  have Rc_1 := heap_of b1 _ _ _ Rc_0
  clear b1 B0 Rc_0 cc_0_0 cc_0_1
  obtain ⟨cc_1_0, cc_1_1⟩ := cells2s Rc_1
  go_wp2_with fail
  refine (KZ.out _ (fatB FF.out B1)).mono ?_
  rintro r w2 ⟨rfl, b2⟩
  have B2 : Below w.heap.size w w2 := btr B1 b2
  have Rc_2 := heap_of b2 _ _ _ Rc_1
  clear b2 B1 Rc_1 cc_1_0 cc_1_1
  obtain ⟨cc_2_0, cc_2_1⟩ := cells2s Rc_2
  have S3 := box B2.size
  have Lc_3 : Box (w.heap.size < w2.heap.size) := box (Array.getElem?_eq_some_iff.1 Rc_2).1
  have Ra_3 := heap_alloc_last w2 (Obj.cells #[.int .u64 (p : Nat), .int .u64 (q : Nat)] 26)
  have B3 := btr B2 (bal w2 (Obj.cells #[.int .u64 (p : Nat), .int .u64 (q : Nat)] 26))
  have Rc_3 := heap_of (bal w2 (Obj.cells #[.int .u64 (p : Nat), .int .u64 (q : Nat)] 26)) _ _ _ Rc_2
  clear B2 Rc_2 cc_2_0 cc_2_1
  obtain ⟨cc_3_0, cc_3_1⟩ := cells2s Rc_3
  obtain ⟨ca_3_0, ca_3_1⟩ := cells2s Ra_3
  have S4 := box B3.size
  have Lc_4 : Box (w.heap.size < (w2.alloc (Obj.cells #[.int .u64 (p : Nat), .int .u64 (q : Nat)] 26)).heap.size) := box (Array.getElem?_eq_some_iff.1 Rc_3).1
  have La_4 : Box (w2.heap.size < (w2.alloc (Obj.cells #[.int .u64 (p : Nat), .int .u64 (q : Nat)] 26)).heap.size) := box (Array.getElem?_eq_some_iff.1 Ra_3).1
  have Z4 := box (size_al w2 (Obj.cells #[.int .u64 (p : Nat), .int .u64 (q : Nat)] 26))
  have Rb_4 : ((w2.alloc (Obj.cells #[.int .u64 (p : Nat), .int .u64 (q : Nat)] 26)).alloc (Obj.cells #[.int .u64 (i : Nat), .int .u64 (j : Nat)] 26)).heap[w2.heap.size + 1]? = some (Obj.cells #[.int .u64 (i : Nat), .int .u64 (j : Nat)] 26) := by have := heap_alloc_last (w2.alloc (Obj.cells #[.int .u64 (p : Nat), .int .u64 (q : Nat)] 26)) (Obj.cells #[.int .u64 (i : Nat), .int .u64 (j : Nat)] 26); simpa only [size_al] using this
  have B4 := btr B3 (bal (w2.alloc (Obj.cells #[.int .u64 (p : Nat), .int .u64 (q : Nat)] 26)) (Obj.cells #[.int .u64 (i : Nat), .int .u64 (j : Nat)] 26))
  have Rc_4 := heap_of (bal (w2.alloc (Obj.cells #[.int .u64 (p : Nat), .int .u64 (q : Nat)] 26)) (Obj.cells #[.int .u64 (i : Nat), .int .u64 (j : Nat)] 26)) _ _ _ Rc_3
  have Ra_4 := heap_of (bal (w2.alloc (Obj.cells #[.int .u64 (p : Nat), .int .u64 (q : Nat)] 26)) (Obj.cells #[.int .u64 (i : Nat), .int .u64 (j : Nat)] 26)) _ _ _ Ra_3
  clear B3 Rc_3 cc_3_0 cc_3_1 Ra_3 ca_3_0 ca_3_1
  obtain ⟨cc_4_0, cc_4_1⟩ := cells2s Rc_4
  obtain ⟨ca_4_0, ca_4_1⟩ := cells2s Ra_4
  obtain ⟨cb_4_0, cb_4_1⟩ := cells2s Rb_4
  go_wp2_with fail
  refine (K1.out _ (fatB FF.out B4)).mono ?_
  rintro r w5 ⟨rfl, b5⟩
  have B5 : Below w.heap.size w w5 := btr B4 b5
  have Rc_5 := heap_of b5 _ _ _ Rc_4
  have Ra_5 := heap_of b5 _ _ _ Ra_4
  have Rb_5 := heap_of b5 _ _ _ Rb_4
  clear b5 B4 Rc_4 cc_4_0 cc_4_1 Ra_4 ca_4_0 ca_4_1 Rb_4 cb_4_0 cb_4_1
  obtain ⟨cc_5_0, cc_5_1⟩ := cells2s Rc_5
  obtain ⟨ca_5_0, ca_5_1⟩ := cells2s Ra_5
  obtain ⟨cb_5_0, cb_5_1⟩ := cells2s Rb_5
  have S6 := box B5.size
  have Lc_6 : Box (w.heap.size < w5.heap.size) := box (Array.getElem?_eq_some_iff.1 Rc_5).1
  have La_6 : Box (w2.heap.size < w5.heap.size) := box (Array.getElem?_eq_some_iff.1 Ra_5).1
  have Lb_6 : Box (w2.heap.size + 1 < w5.heap.size) := box (Array.getElem?_eq_some_iff.1 Rb_5).1
  have Rx_6 := heap_alloc_last w5 (Obj.cells #[.int .u64 (u : Nat), .int .u64 (v : Nat)] 26)
  have B6 := btr B5 (bal w5 (Obj.cells #[.int .u64 (u : Nat), .int .u64 (v : Nat)] 26))
  have Rc_6 := heap_of (bal w5 (Obj.cells #[.int .u64 (u : Nat), .int .u64 (v : Nat)] 26)) _ _ _ Rc_5
  have Ra_6 := heap_of (bal w5 (Obj.cells #[.int .u64 (u : Nat), .int .u64 (v : Nat)] 26)) _ _ _ Ra_5
  have Rb_6 := heap_of (bal w5 (Obj.cells #[.int .u64 (u : Nat), .int .u64 (v : Nat)] 26)) _ _ _ Rb_5
  clear B5 Rc_5 cc_5_0 cc_5_1 Ra_5 ca_5_0 ca_5_1 Rb_5 cb_5_0 cb_5_1
  obtain ⟨cc_6_0, cc_6_1⟩ := cells2s Rc_6
  obtain ⟨ca_6_0, ca_6_1⟩ := cells2s Ra_6
  obtain ⟨cb_6_0, cb_6_1⟩ := cells2s Rb_6
  obtain ⟨cx_6_0, cx_6_1⟩ := cells2s Rx_6
  go_wp2_with fail
  refine (KC.out _ (fatB FF.out B6)).mono ?_
  rintro r w7 ⟨rfl, b7⟩
  have B7 : Below w.heap.size w w7 := btr B6 b7
  have Rc_7 := heap_of b7 _ _ _ Rc_6
  have Ra_7 := heap_of b7 _ _ _ Ra_6
  have Rb_7 := heap_of b7 _ _ _ Rb_6
  have Rx_7 := heap_of b7 _ _ _ Rx_6
  clear b7 B6 Rc_6 cc_6_0 cc_6_1 Ra_6 ca_6_0 ca_6_1 Rb_6 cb_6_0 cb_6_1 Rx_6 cx_6_0 cx_6_1
  obtain ⟨cc_7_0, cc_7_1⟩ := cells2s Rc_7
  obtain ⟨ca_7_0, ca_7_1⟩ := cells2s Ra_7
  obtain ⟨cb_7_0, cb_7_1⟩ := cells2s Rb_7
  obtain ⟨cx_7_0, cx_7_1⟩ := cells2s Rx_7
  go_wp2_with fail
  refine (KM.out _ (fatB FF.out B7)).mono ?_
  rintro r w8 ⟨rfl, b8⟩
  have B8 : Below w.heap.size w w8 := btr B7 b8
  have Rc_8 := heap_of b8 _ _ _ Rc_7
  have Ra_8 := heap_of b8 _ _ _ Ra_7
  have Rb_8 := heap_of b8 _ _ _ Rb_7
  have Rx_8 := heap_of b8 _ _ _ Rx_7
  clear b8 B7 Rc_7 cc_7_0 cc_7_1 Ra_7 ca_7_0 ca_7_1 Rb_7 cb_7_0 cb_7_1 Rx_7 cx_7_0 cx_7_1
  obtain ⟨cc_8_0, cc_8_1⟩ := cells2s Rc_8
  obtain ⟨ca_8_0, ca_8_1⟩ := cells2s Ra_8
  obtain ⟨cb_8_0, cb_8_1⟩ := cells2s Rb_8
  obtain ⟨cx_8_0, cx_8_1⟩ := cells2s Rx_8
  go_wp2_with fail
  refine (KF.out _ (fatB FF.out B8)).mono ?_
  rintro r w9 ⟨rfl, b9⟩
  have B9 : Below w.heap.size w w9 := btr B8 b9
  have Rc_9 := heap_of b9 _ _ _ Rc_8
  have Ra_9 := heap_of b9 _ _ _ Ra_8
  have Rb_9 := heap_of b9 _ _ _ Rb_8
  have Rx_9 := heap_of b9 _ _ _ Rx_8
  clear b9 B8 Rc_8 cc_8_0 cc_8_1 Ra_8 ca_8_0 ca_8_1 Rb_8 cb_8_0 cb_8_1 Rx_8 cx_8_0 cx_8_1
  obtain ⟨cc_9_0, cc_9_1⟩ := cells2s Rc_9
  obtain ⟨ca_9_0, ca_9_1⟩ := cells2s Ra_9
  obtain ⟨cb_9_0, cb_9_1⟩ := cells2s Rb_9
  obtain ⟨cx_9_0, cx_9_1⟩ := cells2s Rx_9
  go_wp2_with fail
  refine (KA.out _ (fatB FF.out B9)).mono ?_
  rintro r w10 ⟨rfl, b10⟩
  have B10 : Below w.heap.size w w10 := btr B9 b10
  have Rc_10 := heap_of b10 _ _ _ Rc_9
  have Ra_10 := heap_of b10 _ _ _ Ra_9
  have Rb_10 := heap_of b10 _ _ _ Rb_9
  have Rx_10 := heap_of b10 _ _ _ Rx_9
  clear b10 B9 Rc_9 cc_9_0 cc_9_1 Ra_9 ca_9_0 ca_9_1 Rb_9 cb_9_0 cb_9_1 Rx_9 cx_9_0 cx_9_1
  obtain ⟨cc_10_0, cc_10_1⟩ := cells2s Rc_10
  obtain ⟨ca_10_0, ca_10_1⟩ := cells2s Ra_10
  obtain ⟨cb_10_0, cb_10_1⟩ := cells2s Rb_10
  obtain ⟨cx_10_0, cx_10_1⟩ := cells2s Rx_10
  go_wp2
  go_ret
  exact ⟨rfl, B10⟩
set_option maxRecDepth 100000 in
set_option maxHeartbeats 8000000 in
theorem fi_e3_t (f m : Int) (neg too : Bool) (x3 y3 p q i j : Nat) (u v : Nat) (fl : Int)  (w : World)
    (KI : Box (∀ w, FAt w → Calls Tryz.prog 26 #[.int .u8 f, .bool neg] w fun r w' => r = .returned (.agg #[.int .u64 (p : Nat), .int .u64 (q : Nat)]) ∧ Below w.heap.size w w'))
    (KZ : Box (∀ w, FAt w → Calls Tryz.prog 21 #[.int .u8 f, .bool too] w fun r w' => r = .returned (.agg #[.int .u64 (i : Nat), .int .u64 (j : Nat)]) ∧ Below w.heap.size w w'))
    (K1 : Box (∀ w, FAt w → Calls Tryz.prog 12 #[.int .u8 f, .int .u8 m, .agg #[.int .u64 (i : Nat), .int .u64 (j : Nat)], .agg #[.int .u64 (p : Nat), .int .u64 (q : Nat)], .agg #[.int .u64 (x3 : Nat), .int .u64 (y3 : Nat)]] w fun r w' => r = .returned (.tuple #[.agg #[.int .u64 (u : Nat), .int .u64 (v : Nat)], .int .u8 fl, .int .i64 2]) ∧ Below w.heap.size w w'))
    (KC : Box (∀ w, FAt w → Calls Tryz.prog 27 #[.int .u8 f] w fun r w' => r = .returned (.int .i64 0) ∧ Below w.heap.size w w'))
    (KM : Box (∀ w, FAt w → Calls Tryz.prog 28 #[.int .u8 m] w fun r w' => r = .returned (.int .i64 0) ∧ Below w.heap.size w w'))
    (KF : Box (∀ w, FAt w → Calls Tryz.prog 29 #[.int .u8 f, .agg #[.int .u64 (x3 : Nat), .int .u64 (y3 : Nat)]] w fun r w' => r = .returned (.bool false) ∧ Below w.heap.size w w'))
    (KA : Box (∀ w, FAt w → Calls Tryz.prog 14 #[] w fun r w' => r = .returned (.bool true) ∧ Below w.heap.size w w')) (hT : FAt w) : Calls Tryz.prog 8 #[.int .u8 f, .int .u8 m, .bool neg, .bool too, .bool true, .agg #[.int .u64 (x3 : Nat), .int .u64 (y3 : Nat)]] w fun r w' => r = .returned (.bool true) ∧ Below w.heap.size w w' := by
  have FF := box hT
  clear hT
  obtain ⟨Rc_0, B0⟩ := opn1 w (Obj.cells #[.int .u64 (x3 : Nat), .int .u64 (y3 : Nat)] 26)
  go_enter Tryz.func8, Tryz.ntmps8
  obtain ⟨cc_0_0, cc_0_1⟩ := cells2s Rc_0
  go_wp2_with fail
  refine (KI.out _ (fatB FF.out B0)).mono ?_
  rintro r w1 ⟨rfl, b1⟩
  have B1 : Below w.heap.size w w1 := btr B0 b1
  have Rc_1 := heap_of b1 _ _ _ Rc_0
  clear b1 B0 Rc_0 cc_0_0 cc_0_1
  obtain ⟨cc_1_0, cc_1_1⟩ := cells2s Rc_1
  go_wp2_with fail
  refine (KZ.out _ (fatB FF.out B1)).mono ?_
  rintro r w2 ⟨rfl, b2⟩
  have B2 : Below w.heap.size w w2 := btr B1 b2
  have Rc_2 := heap_of b2 _ _ _ Rc_1
  clear b2 B1 Rc_1 cc_1_0 cc_1_1
  obtain ⟨cc_2_0, cc_2_1⟩ := cells2s Rc_2
  have S3 := box B2.size
  have Lc_3 : Box (w.heap.size < w2.heap.size) := box (Array.getElem?_eq_some_iff.1 Rc_2).1
  have Ra_3 := heap_alloc_last w2 (Obj.cells #[.int .u64 (i : Nat), .int .u64 (j : Nat)] 26)
  have B3 := btr B2 (bal w2 (Obj.cells #[.int .u64 (i : Nat), .int .u64 (j : Nat)] 26))
  have Rc_3 := heap_of (bal w2 (Obj.cells #[.int .u64 (i : Nat), .int .u64 (j : Nat)] 26)) _ _ _ Rc_2
  clear B2 Rc_2 cc_2_0 cc_2_1
  obtain ⟨cc_3_0, cc_3_1⟩ := cells2s Rc_3
  obtain ⟨ca_3_0, ca_3_1⟩ := cells2s Ra_3
  have S4 := box B3.size
  have Lc_4 : Box (w.heap.size < (w2.alloc (Obj.cells #[.int .u64 (i : Nat), .int .u64 (j : Nat)] 26)).heap.size) := box (Array.getElem?_eq_some_iff.1 Rc_3).1
  have La_4 : Box (w2.heap.size < (w2.alloc (Obj.cells #[.int .u64 (i : Nat), .int .u64 (j : Nat)] 26)).heap.size) := box (Array.getElem?_eq_some_iff.1 Ra_3).1
  have Z4 := box (size_al w2 (Obj.cells #[.int .u64 (i : Nat), .int .u64 (j : Nat)] 26))
  have Rb_4 : ((w2.alloc (Obj.cells #[.int .u64 (i : Nat), .int .u64 (j : Nat)] 26)).alloc (Obj.cells #[.int .u64 (p : Nat), .int .u64 (q : Nat)] 26)).heap[w2.heap.size + 1]? = some (Obj.cells #[.int .u64 (p : Nat), .int .u64 (q : Nat)] 26) := by have := heap_alloc_last (w2.alloc (Obj.cells #[.int .u64 (i : Nat), .int .u64 (j : Nat)] 26)) (Obj.cells #[.int .u64 (p : Nat), .int .u64 (q : Nat)] 26); simpa only [size_al] using this
  have B4 := btr B3 (bal (w2.alloc (Obj.cells #[.int .u64 (i : Nat), .int .u64 (j : Nat)] 26)) (Obj.cells #[.int .u64 (p : Nat), .int .u64 (q : Nat)] 26))
  have Rc_4 := heap_of (bal (w2.alloc (Obj.cells #[.int .u64 (i : Nat), .int .u64 (j : Nat)] 26)) (Obj.cells #[.int .u64 (p : Nat), .int .u64 (q : Nat)] 26)) _ _ _ Rc_3
  have Ra_4 := heap_of (bal (w2.alloc (Obj.cells #[.int .u64 (i : Nat), .int .u64 (j : Nat)] 26)) (Obj.cells #[.int .u64 (p : Nat), .int .u64 (q : Nat)] 26)) _ _ _ Ra_3
  clear B3 Rc_3 cc_3_0 cc_3_1 Ra_3 ca_3_0 ca_3_1
  obtain ⟨cc_4_0, cc_4_1⟩ := cells2s Rc_4
  obtain ⟨ca_4_0, ca_4_1⟩ := cells2s Ra_4
  obtain ⟨cb_4_0, cb_4_1⟩ := cells2s Rb_4
  go_wp2_with fail
  refine (K1.out _ (fatB FF.out B4)).mono ?_
  rintro r w5 ⟨rfl, b5⟩
  have B5 : Below w.heap.size w w5 := btr B4 b5
  have Rc_5 := heap_of b5 _ _ _ Rc_4
  have Ra_5 := heap_of b5 _ _ _ Ra_4
  have Rb_5 := heap_of b5 _ _ _ Rb_4
  clear b5 B4 Rc_4 cc_4_0 cc_4_1 Ra_4 ca_4_0 ca_4_1 Rb_4 cb_4_0 cb_4_1
  obtain ⟨cc_5_0, cc_5_1⟩ := cells2s Rc_5
  obtain ⟨ca_5_0, ca_5_1⟩ := cells2s Ra_5
  obtain ⟨cb_5_0, cb_5_1⟩ := cells2s Rb_5
  have S6 := box B5.size
  have Lc_6 : Box (w.heap.size < w5.heap.size) := box (Array.getElem?_eq_some_iff.1 Rc_5).1
  have La_6 : Box (w2.heap.size < w5.heap.size) := box (Array.getElem?_eq_some_iff.1 Ra_5).1
  have Lb_6 : Box (w2.heap.size + 1 < w5.heap.size) := box (Array.getElem?_eq_some_iff.1 Rb_5).1
  have Rx_6 := heap_alloc_last w5 (Obj.cells #[.int .u64 (u : Nat), .int .u64 (v : Nat)] 26)
  have B6 := btr B5 (bal w5 (Obj.cells #[.int .u64 (u : Nat), .int .u64 (v : Nat)] 26))
  have Rc_6 := heap_of (bal w5 (Obj.cells #[.int .u64 (u : Nat), .int .u64 (v : Nat)] 26)) _ _ _ Rc_5
  have Ra_6 := heap_of (bal w5 (Obj.cells #[.int .u64 (u : Nat), .int .u64 (v : Nat)] 26)) _ _ _ Ra_5
  have Rb_6 := heap_of (bal w5 (Obj.cells #[.int .u64 (u : Nat), .int .u64 (v : Nat)] 26)) _ _ _ Rb_5
  clear B5 Rc_5 cc_5_0 cc_5_1 Ra_5 ca_5_0 ca_5_1 Rb_5 cb_5_0 cb_5_1
  obtain ⟨cc_6_0, cc_6_1⟩ := cells2s Rc_6
  obtain ⟨ca_6_0, ca_6_1⟩ := cells2s Ra_6
  obtain ⟨cb_6_0, cb_6_1⟩ := cells2s Rb_6
  obtain ⟨cx_6_0, cx_6_1⟩ := cells2s Rx_6
  go_wp2_with fail
  refine (KC.out _ (fatB FF.out B6)).mono ?_
  rintro r w7 ⟨rfl, b7⟩
  have B7 : Below w.heap.size w w7 := btr B6 b7
  have Rc_7 := heap_of b7 _ _ _ Rc_6
  have Ra_7 := heap_of b7 _ _ _ Ra_6
  have Rb_7 := heap_of b7 _ _ _ Rb_6
  have Rx_7 := heap_of b7 _ _ _ Rx_6
  clear b7 B6 Rc_6 cc_6_0 cc_6_1 Ra_6 ca_6_0 ca_6_1 Rb_6 cb_6_0 cb_6_1 Rx_6 cx_6_0 cx_6_1
  obtain ⟨cc_7_0, cc_7_1⟩ := cells2s Rc_7
  obtain ⟨ca_7_0, ca_7_1⟩ := cells2s Ra_7
  obtain ⟨cb_7_0, cb_7_1⟩ := cells2s Rb_7
  obtain ⟨cx_7_0, cx_7_1⟩ := cells2s Rx_7
  go_wp2_with fail
  refine (KM.out _ (fatB FF.out B7)).mono ?_
  rintro r w8 ⟨rfl, b8⟩
  have B8 : Below w.heap.size w w8 := btr B7 b8
  have Rc_8 := heap_of b8 _ _ _ Rc_7
  have Ra_8 := heap_of b8 _ _ _ Ra_7
  have Rb_8 := heap_of b8 _ _ _ Rb_7
  have Rx_8 := heap_of b8 _ _ _ Rx_7
  clear b8 B7 Rc_7 cc_7_0 cc_7_1 Ra_7 ca_7_0 ca_7_1 Rb_7 cb_7_0 cb_7_1 Rx_7 cx_7_0 cx_7_1
  obtain ⟨cc_8_0, cc_8_1⟩ := cells2s Rc_8
  obtain ⟨ca_8_0, ca_8_1⟩ := cells2s Ra_8
  obtain ⟨cb_8_0, cb_8_1⟩ := cells2s Rb_8
  obtain ⟨cx_8_0, cx_8_1⟩ := cells2s Rx_8
  go_wp2_with fail
  refine (KF.out _ (fatB FF.out B8)).mono ?_
  rintro r w9 ⟨rfl, b9⟩
  have B9 : Below w.heap.size w w9 := btr B8 b9
  have Rc_9 := heap_of b9 _ _ _ Rc_8
  have Ra_9 := heap_of b9 _ _ _ Ra_8
  have Rb_9 := heap_of b9 _ _ _ Rb_8
  have Rx_9 := heap_of b9 _ _ _ Rx_8
  clear b9 B8 Rc_8 cc_8_0 cc_8_1 Ra_8 ca_8_0 ca_8_1 Rb_8 cb_8_0 cb_8_1 Rx_8 cx_8_0 cx_8_1
  obtain ⟨cc_9_0, cc_9_1⟩ := cells2s Rc_9
  obtain ⟨ca_9_0, ca_9_1⟩ := cells2s Ra_9
  obtain ⟨cb_9_0, cb_9_1⟩ := cells2s Rb_9
  obtain ⟨cx_9_0, cx_9_1⟩ := cells2s Rx_9
  go_wp2_with fail
  refine (KA.out _ (fatB FF.out B9)).mono ?_
  rintro r w10 ⟨rfl, b10⟩
  have B10 : Below w.heap.size w w10 := btr B9 b10
  have Rc_10 := heap_of b10 _ _ _ Rc_9
  have Ra_10 := heap_of b10 _ _ _ Ra_9
  have Rb_10 := heap_of b10 _ _ _ Rb_9
  have Rx_10 := heap_of b10 _ _ _ Rx_9
  clear b10 B9 Rc_9 cc_9_0 cc_9_1 Ra_9 ca_9_0 ca_9_1 Rb_9 cb_9_0 cb_9_1 Rx_9 cx_9_0 cx_9_1
  obtain ⟨cc_10_0, cc_10_1⟩ := cells2s Rc_10
  obtain ⟨ca_10_0, ca_10_1⟩ := cells2s Ra_10
  obtain ⟨cb_10_0, cb_10_1⟩ := cells2s Rb_10
  obtain ⟨cx_10_0, cx_10_1⟩ := cells2s Rx_10
  go_wp2
  go_ret
  exact ⟨rfl, B10⟩
set_option maxRecDepth 100000 in
set_option maxHeartbeats 8000000 in
theorem fi_yes_f (f m : Int) (neg too : Bool) (x3 y3 p q i j : Nat) (u v : Nat)   (w : World)
    (KI : Box (∀ w, FAt w → Calls Tryz.prog 26 #[.int .u8 f, .bool neg] w fun r w' => r = .returned (.agg #[.int .u64 (p : Nat), .int .u64 (q : Nat)]) ∧ Below w.heap.size w w'))
    (KZ : Box (∀ w, FAt w → Calls Tryz.prog 21 #[.int .u8 f, .bool too] w fun r w' => r = .returned (.agg #[.int .u64 (i : Nat), .int .u64 (j : Nat)]) ∧ Below w.heap.size w w'))
    (K1 : Box (∀ w, FAt w → Calls Tryz.prog 12 #[.int .u8 f, .int .u8 m, .agg #[.int .u64 (p : Nat), .int .u64 (q : Nat)], .agg #[.int .u64 (i : Nat), .int .u64 (j : Nat)], .agg #[.int .u64 (x3 : Nat), .int .u64 (y3 : Nat)]] w fun r w' => r = .returned (.tuple #[.agg #[.int .u64 (u : Nat), .int .u64 (v : Nat)], .int .u8 16, .int .i64 0]) ∧ Below w.heap.size w w'))
    (KN : Box (∀ w, FAt w → Calls Tryz.prog 30 #[.int .u8 f] w fun r w' => r = .returned (.agg #[.int .u64 (u : Nat), .int .u64 (v : Nat)]) ∧ Below w.heap.size w w'))
    (KX : Box (∀ w, Calls Tryz.prog 31 #[.int .u8 f, .agg #[.int .u64 (u : Nat), .int .u64 (v : Nat)]] w fun r w' => r = .returned (.bool false) ∧ Below w.heap.size w w'))
    (KA : Box (∀ w, FAt w → Calls Tryz.prog 14 #[] w fun r w' => r = .returned (.bool true) ∧ Below w.heap.size w w')) (hT : FAt w) : Calls Tryz.prog 8 #[.int .u8 f, .int .u8 m, .bool neg, .bool too, .bool false, .agg #[.int .u64 (x3 : Nat), .int .u64 (y3 : Nat)]] w fun r w' => r = .returned (.bool true) ∧ Below w.heap.size w w' := by
  have FF := box hT
  clear hT
  obtain ⟨Rc_0, B0⟩ := opn1 w (Obj.cells #[.int .u64 (x3 : Nat), .int .u64 (y3 : Nat)] 26)
  go_enter Tryz.func8, Tryz.ntmps8
  obtain ⟨cc_0_0, cc_0_1⟩ := cells2s Rc_0
  go_wp2_with fail
  refine (KI.out _ (fatB FF.out B0)).mono ?_
  rintro r w1 ⟨rfl, b1⟩
  have B1 : Below w.heap.size w w1 := btr B0 b1
  have Rc_1 := heap_of b1 _ _ _ Rc_0
  clear b1 B0 Rc_0 cc_0_0 cc_0_1
  obtain ⟨cc_1_0, cc_1_1⟩ := cells2s Rc_1
  go_wp2_with fail
  refine (KZ.out _ (fatB FF.out B1)).mono ?_
  rintro r w2 ⟨rfl, b2⟩
  have B2 : Below w.heap.size w w2 := btr B1 b2
  have Rc_2 := heap_of b2 _ _ _ Rc_1
  clear b2 B1 Rc_1 cc_1_0 cc_1_1
  obtain ⟨cc_2_0, cc_2_1⟩ := cells2s Rc_2
  have S3 := box B2.size
  have Lc_3 : Box (w.heap.size < w2.heap.size) := box (Array.getElem?_eq_some_iff.1 Rc_2).1
  have Ra_3 := heap_alloc_last w2 (Obj.cells #[.int .u64 (p : Nat), .int .u64 (q : Nat)] 26)
  have B3 := btr B2 (bal w2 (Obj.cells #[.int .u64 (p : Nat), .int .u64 (q : Nat)] 26))
  have Rc_3 := heap_of (bal w2 (Obj.cells #[.int .u64 (p : Nat), .int .u64 (q : Nat)] 26)) _ _ _ Rc_2
  clear B2 Rc_2 cc_2_0 cc_2_1
  obtain ⟨cc_3_0, cc_3_1⟩ := cells2s Rc_3
  obtain ⟨ca_3_0, ca_3_1⟩ := cells2s Ra_3
  have S4 := box B3.size
  have Lc_4 : Box (w.heap.size < (w2.alloc (Obj.cells #[.int .u64 (p : Nat), .int .u64 (q : Nat)] 26)).heap.size) := box (Array.getElem?_eq_some_iff.1 Rc_3).1
  have La_4 : Box (w2.heap.size < (w2.alloc (Obj.cells #[.int .u64 (p : Nat), .int .u64 (q : Nat)] 26)).heap.size) := box (Array.getElem?_eq_some_iff.1 Ra_3).1
  have Z4 := box (size_al w2 (Obj.cells #[.int .u64 (p : Nat), .int .u64 (q : Nat)] 26))
  have Rb_4 : ((w2.alloc (Obj.cells #[.int .u64 (p : Nat), .int .u64 (q : Nat)] 26)).alloc (Obj.cells #[.int .u64 (i : Nat), .int .u64 (j : Nat)] 26)).heap[w2.heap.size + 1]? = some (Obj.cells #[.int .u64 (i : Nat), .int .u64 (j : Nat)] 26) := by have := heap_alloc_last (w2.alloc (Obj.cells #[.int .u64 (p : Nat), .int .u64 (q : Nat)] 26)) (Obj.cells #[.int .u64 (i : Nat), .int .u64 (j : Nat)] 26); simpa only [size_al] using this
  have B4 := btr B3 (bal (w2.alloc (Obj.cells #[.int .u64 (p : Nat), .int .u64 (q : Nat)] 26)) (Obj.cells #[.int .u64 (i : Nat), .int .u64 (j : Nat)] 26))
  have Rc_4 := heap_of (bal (w2.alloc (Obj.cells #[.int .u64 (p : Nat), .int .u64 (q : Nat)] 26)) (Obj.cells #[.int .u64 (i : Nat), .int .u64 (j : Nat)] 26)) _ _ _ Rc_3
  have Ra_4 := heap_of (bal (w2.alloc (Obj.cells #[.int .u64 (p : Nat), .int .u64 (q : Nat)] 26)) (Obj.cells #[.int .u64 (i : Nat), .int .u64 (j : Nat)] 26)) _ _ _ Ra_3
  clear B3 Rc_3 cc_3_0 cc_3_1 Ra_3 ca_3_0 ca_3_1
  obtain ⟨cc_4_0, cc_4_1⟩ := cells2s Rc_4
  obtain ⟨ca_4_0, ca_4_1⟩ := cells2s Ra_4
  obtain ⟨cb_4_0, cb_4_1⟩ := cells2s Rb_4
  go_wp2_with fail
  refine (K1.out _ (fatB FF.out B4)).mono ?_
  rintro r w5 ⟨rfl, b5⟩
  have B5 : Below w.heap.size w w5 := btr B4 b5
  have Rc_5 := heap_of b5 _ _ _ Rc_4
  have Ra_5 := heap_of b5 _ _ _ Ra_4
  have Rb_5 := heap_of b5 _ _ _ Rb_4
  clear b5 B4 Rc_4 cc_4_0 cc_4_1 Ra_4 ca_4_0 ca_4_1 Rb_4 cb_4_0 cb_4_1
  obtain ⟨cc_5_0, cc_5_1⟩ := cells2s Rc_5
  obtain ⟨ca_5_0, ca_5_1⟩ := cells2s Ra_5
  obtain ⟨cb_5_0, cb_5_1⟩ := cells2s Rb_5
  have S6 := box B5.size
  have Lc_6 : Box (w.heap.size < w5.heap.size) := box (Array.getElem?_eq_some_iff.1 Rc_5).1
  have La_6 : Box (w2.heap.size < w5.heap.size) := box (Array.getElem?_eq_some_iff.1 Ra_5).1
  have Lb_6 : Box (w2.heap.size + 1 < w5.heap.size) := box (Array.getElem?_eq_some_iff.1 Rb_5).1
  have Rx_6 := heap_alloc_last w5 (Obj.cells #[.int .u64 (u : Nat), .int .u64 (v : Nat)] 26)
  have B6 := btr B5 (bal w5 (Obj.cells #[.int .u64 (u : Nat), .int .u64 (v : Nat)] 26))
  have Rc_6 := heap_of (bal w5 (Obj.cells #[.int .u64 (u : Nat), .int .u64 (v : Nat)] 26)) _ _ _ Rc_5
  have Ra_6 := heap_of (bal w5 (Obj.cells #[.int .u64 (u : Nat), .int .u64 (v : Nat)] 26)) _ _ _ Ra_5
  have Rb_6 := heap_of (bal w5 (Obj.cells #[.int .u64 (u : Nat), .int .u64 (v : Nat)] 26)) _ _ _ Rb_5
  clear B5 Rc_5 cc_5_0 cc_5_1 Ra_5 ca_5_0 ca_5_1 Rb_5 cb_5_0 cb_5_1
  obtain ⟨cc_6_0, cc_6_1⟩ := cells2s Rc_6
  obtain ⟨ca_6_0, ca_6_1⟩ := cells2s Ra_6
  obtain ⟨cb_6_0, cb_6_1⟩ := cells2s Rb_6
  obtain ⟨cx_6_0, cx_6_1⟩ := cells2s Rx_6
  have sS : Box (∀ W W1 : World, (Below w.heap.size w W ∧ W.heap[w.heap.size]? = some (Obj.cells #[.int .u64 (x3 : Nat), .int .u64 (y3 : Nat)] 26) ∧ W.heap[w2.heap.size]? = some (Obj.cells #[.int .u64 (p : Nat), .int .u64 (q : Nat)] 26) ∧ W.heap[w2.heap.size + 1]? = some (Obj.cells #[.int .u64 (i : Nat), .int .u64 (j : Nat)] 26) ∧ W.heap[w5.heap.size]? = some (Obj.cells #[.int .u64 (u : Nat), .int .u64 (v : Nat)] 26) ∧ W.cell? ⟨w5.heap.size, 0, none⟩ = some (.int .u64 (u : Nat)) ∧ W.cell? ⟨w5.heap.size, 1, none⟩ = some (.int .u64 (v : Nat))) → Below W.heap.size W W1 → (Below w.heap.size w W1 ∧ W1.heap[w.heap.size]? = some (Obj.cells #[.int .u64 (x3 : Nat), .int .u64 (y3 : Nat)] 26) ∧ W1.heap[w2.heap.size]? = some (Obj.cells #[.int .u64 (p : Nat), .int .u64 (q : Nat)] 26) ∧ W1.heap[w2.heap.size + 1]? = some (Obj.cells #[.int .u64 (i : Nat), .int .u64 (j : Nat)] 26) ∧ W1.heap[w5.heap.size]? = some (Obj.cells #[.int .u64 (u : Nat), .int .u64 (v : Nat)] 26) ∧ W1.cell? ⟨w5.heap.size, 0, none⟩ = some (.int .u64 (u : Nat)) ∧ W1.cell? ⟨w5.heap.size, 1, none⟩ = some (.int .u64 (v : Nat)))) := box (fun W W1 h b => ⟨btr h.1 b, heap_of b _ _ _ h.2.1, heap_of b _ _ _ h.2.2.1, heap_of b _ _ _ h.2.2.2.1, heap_of b _ _ _ h.2.2.2.2.1, cell7 (heap_of b _ _ _ h.2.2.2.2.1) 0 _ rfl, cell7 (heap_of b _ _ _ h.2.2.2.2.1) 1 _ rfl⟩)
  have s0 : Below w.heap.size w ((w5.alloc (Obj.cells #[.int .u64 (u : Nat), .int .u64 (v : Nat)] 26))).drew ∧ ((w5.alloc (Obj.cells #[.int .u64 (u : Nat), .int .u64 (v : Nat)] 26))).drew.heap[w.heap.size]? = some (Obj.cells #[.int .u64 (x3 : Nat), .int .u64 (y3 : Nat)] 26) ∧ ((w5.alloc (Obj.cells #[.int .u64 (u : Nat), .int .u64 (v : Nat)] 26))).drew.heap[w2.heap.size]? = some (Obj.cells #[.int .u64 (p : Nat), .int .u64 (q : Nat)] 26) ∧ ((w5.alloc (Obj.cells #[.int .u64 (u : Nat), .int .u64 (v : Nat)] 26))).drew.heap[w2.heap.size + 1]? = some (Obj.cells #[.int .u64 (i : Nat), .int .u64 (j : Nat)] 26) ∧ ((w5.alloc (Obj.cells #[.int .u64 (u : Nat), .int .u64 (v : Nat)] 26))).drew.heap[w5.heap.size]? = some (Obj.cells #[.int .u64 (u : Nat), .int .u64 (v : Nat)] 26) ∧ ((w5.alloc (Obj.cells #[.int .u64 (u : Nat), .int .u64 (v : Nat)] 26))).drew.cell? ⟨w5.heap.size, 0, none⟩ = some (.int .u64 (u : Nat)) ∧ ((w5.alloc (Obj.cells #[.int .u64 (u : Nat), .int .u64 (v : Nat)] 26))).drew.cell? ⟨w5.heap.size, 1, none⟩ = some (.int .u64 (v : Nat)) := ⟨B6.drew, Rc_6, Ra_6, Rb_6, Rx_6, cell7 (Rx_6) 0 _ rfl, cell7 (Rx_6) 1 _ rfl⟩
  go_wp2_with fail
  go_region_held3 (fun W => Below w.heap.size w W ∧ W.heap[w.heap.size]? = some (Obj.cells #[.int .u64 (x3 : Nat), .int .u64 (y3 : Nat)] 26) ∧ W.heap[w2.heap.size]? = some (Obj.cells #[.int .u64 (p : Nat), .int .u64 (q : Nat)] 26) ∧ W.heap[w2.heap.size + 1]? = some (Obj.cells #[.int .u64 (i : Nat), .int .u64 (j : Nat)] 26) ∧ W.heap[w5.heap.size]? = some (Obj.cells #[.int .u64 (u : Nat), .int .u64 (v : Nat)] 26) ∧ W.cell? ⟨w5.heap.size, 0, none⟩ = some (.int .u64 (u : Nat)) ∧ W.cell? ⟨w5.heap.size, 1, none⟩ = some (.int .u64 (v : Nat))) (first | exact s1 | exact s0)
    (first | (go_at_call 30; (first | refine (KN.out _ (fatB FF.out (And.left s1))).mono ?_ | refine (KN.out _ (fatB FF.out (And.left s0))).mono ?_); rintro r wq ⟨rfl, bq⟩; (first | have s1 := sS.out _ _ s1 bq | have s1 := sS.out _ _ s0 bq); clear bq) | (go_at_call 31; refine (KX.out _).mono ?_; rintro r wq ⟨rfl, bq⟩; (first | have s1 := sS.out _ _ s1 bq | have s1 := sS.out _ _ s0 bq); clear bq) | (go_at_call 14; (first | refine (KA.out _ (fatB FF.out (And.left s1))).mono ?_ | refine (KA.out _ (fatB FF.out (And.left s0))).mono ?_); rintro r wq ⟨rfl, bq⟩; (first | have s1 := sS.out _ _ s1 bq | have s1 := sS.out _ _ s0 bq); clear bq) | fail)
  have B7 := (And.left s1)
  have Rc_7 := s1.2.1
  have Ra_7 := s1.2.2.1
  have Rb_7 := s1.2.2.2.1
  have Rx_7 := s1.2.2.2.2.1
  clear s0 s1 sS B6 Rc_6 cc_6_0 cc_6_1 Ra_6 ca_6_0 ca_6_1 Rb_6 cb_6_0 cb_6_1 Rx_6 cx_6_0 cx_6_1
  obtain ⟨cc_7_0, cc_7_1⟩ := cells2s Rc_7
  obtain ⟨ca_7_0, ca_7_1⟩ := cells2s Ra_7
  obtain ⟨cb_7_0, cb_7_1⟩ := cells2s Rb_7
  obtain ⟨cx_7_0, cx_7_1⟩ := cells2s Rx_7
  go_wp2
  go_ret
  exact ⟨rfl, B7⟩
set_option maxRecDepth 100000 in
set_option maxHeartbeats 8000000 in
theorem fi_yes_t (f m : Int) (neg too : Bool) (x3 y3 p q i j : Nat) (u v : Nat)   (w : World)
    (KI : Box (∀ w, FAt w → Calls Tryz.prog 26 #[.int .u8 f, .bool neg] w fun r w' => r = .returned (.agg #[.int .u64 (p : Nat), .int .u64 (q : Nat)]) ∧ Below w.heap.size w w'))
    (KZ : Box (∀ w, FAt w → Calls Tryz.prog 21 #[.int .u8 f, .bool too] w fun r w' => r = .returned (.agg #[.int .u64 (i : Nat), .int .u64 (j : Nat)]) ∧ Below w.heap.size w w'))
    (K1 : Box (∀ w, FAt w → Calls Tryz.prog 12 #[.int .u8 f, .int .u8 m, .agg #[.int .u64 (i : Nat), .int .u64 (j : Nat)], .agg #[.int .u64 (p : Nat), .int .u64 (q : Nat)], .agg #[.int .u64 (x3 : Nat), .int .u64 (y3 : Nat)]] w fun r w' => r = .returned (.tuple #[.agg #[.int .u64 (u : Nat), .int .u64 (v : Nat)], .int .u8 16, .int .i64 0]) ∧ Below w.heap.size w w'))
    (KN : Box (∀ w, FAt w → Calls Tryz.prog 30 #[.int .u8 f] w fun r w' => r = .returned (.agg #[.int .u64 (u : Nat), .int .u64 (v : Nat)]) ∧ Below w.heap.size w w'))
    (KX : Box (∀ w, Calls Tryz.prog 31 #[.int .u8 f, .agg #[.int .u64 (u : Nat), .int .u64 (v : Nat)]] w fun r w' => r = .returned (.bool false) ∧ Below w.heap.size w w'))
    (KA : Box (∀ w, FAt w → Calls Tryz.prog 14 #[] w fun r w' => r = .returned (.bool true) ∧ Below w.heap.size w w')) (hT : FAt w) : Calls Tryz.prog 8 #[.int .u8 f, .int .u8 m, .bool neg, .bool too, .bool true, .agg #[.int .u64 (x3 : Nat), .int .u64 (y3 : Nat)]] w fun r w' => r = .returned (.bool true) ∧ Below w.heap.size w w' := by
  have FF := box hT
  clear hT
  obtain ⟨Rc_0, B0⟩ := opn1 w (Obj.cells #[.int .u64 (x3 : Nat), .int .u64 (y3 : Nat)] 26)
  go_enter Tryz.func8, Tryz.ntmps8
  obtain ⟨cc_0_0, cc_0_1⟩ := cells2s Rc_0
  go_wp2_with fail
  refine (KI.out _ (fatB FF.out B0)).mono ?_
  rintro r w1 ⟨rfl, b1⟩
  have B1 : Below w.heap.size w w1 := btr B0 b1
  have Rc_1 := heap_of b1 _ _ _ Rc_0
  clear b1 B0 Rc_0 cc_0_0 cc_0_1
  obtain ⟨cc_1_0, cc_1_1⟩ := cells2s Rc_1
  go_wp2_with fail
  refine (KZ.out _ (fatB FF.out B1)).mono ?_
  rintro r w2 ⟨rfl, b2⟩
  have B2 : Below w.heap.size w w2 := btr B1 b2
  have Rc_2 := heap_of b2 _ _ _ Rc_1
  clear b2 B1 Rc_1 cc_1_0 cc_1_1
  obtain ⟨cc_2_0, cc_2_1⟩ := cells2s Rc_2
  have S3 := box B2.size
  have Lc_3 : Box (w.heap.size < w2.heap.size) := box (Array.getElem?_eq_some_iff.1 Rc_2).1
  have Ra_3 := heap_alloc_last w2 (Obj.cells #[.int .u64 (i : Nat), .int .u64 (j : Nat)] 26)
  have B3 := btr B2 (bal w2 (Obj.cells #[.int .u64 (i : Nat), .int .u64 (j : Nat)] 26))
  have Rc_3 := heap_of (bal w2 (Obj.cells #[.int .u64 (i : Nat), .int .u64 (j : Nat)] 26)) _ _ _ Rc_2
  clear B2 Rc_2 cc_2_0 cc_2_1
  obtain ⟨cc_3_0, cc_3_1⟩ := cells2s Rc_3
  obtain ⟨ca_3_0, ca_3_1⟩ := cells2s Ra_3
  have S4 := box B3.size
  have Lc_4 : Box (w.heap.size < (w2.alloc (Obj.cells #[.int .u64 (i : Nat), .int .u64 (j : Nat)] 26)).heap.size) := box (Array.getElem?_eq_some_iff.1 Rc_3).1
  have La_4 : Box (w2.heap.size < (w2.alloc (Obj.cells #[.int .u64 (i : Nat), .int .u64 (j : Nat)] 26)).heap.size) := box (Array.getElem?_eq_some_iff.1 Ra_3).1
  have Z4 := box (size_al w2 (Obj.cells #[.int .u64 (i : Nat), .int .u64 (j : Nat)] 26))
  have Rb_4 : ((w2.alloc (Obj.cells #[.int .u64 (i : Nat), .int .u64 (j : Nat)] 26)).alloc (Obj.cells #[.int .u64 (p : Nat), .int .u64 (q : Nat)] 26)).heap[w2.heap.size + 1]? = some (Obj.cells #[.int .u64 (p : Nat), .int .u64 (q : Nat)] 26) := by have := heap_alloc_last (w2.alloc (Obj.cells #[.int .u64 (i : Nat), .int .u64 (j : Nat)] 26)) (Obj.cells #[.int .u64 (p : Nat), .int .u64 (q : Nat)] 26); simpa only [size_al] using this
  have B4 := btr B3 (bal (w2.alloc (Obj.cells #[.int .u64 (i : Nat), .int .u64 (j : Nat)] 26)) (Obj.cells #[.int .u64 (p : Nat), .int .u64 (q : Nat)] 26))
  have Rc_4 := heap_of (bal (w2.alloc (Obj.cells #[.int .u64 (i : Nat), .int .u64 (j : Nat)] 26)) (Obj.cells #[.int .u64 (p : Nat), .int .u64 (q : Nat)] 26)) _ _ _ Rc_3
  have Ra_4 := heap_of (bal (w2.alloc (Obj.cells #[.int .u64 (i : Nat), .int .u64 (j : Nat)] 26)) (Obj.cells #[.int .u64 (p : Nat), .int .u64 (q : Nat)] 26)) _ _ _ Ra_3
  clear B3 Rc_3 cc_3_0 cc_3_1 Ra_3 ca_3_0 ca_3_1
  obtain ⟨cc_4_0, cc_4_1⟩ := cells2s Rc_4
  obtain ⟨ca_4_0, ca_4_1⟩ := cells2s Ra_4
  obtain ⟨cb_4_0, cb_4_1⟩ := cells2s Rb_4
  go_wp2_with fail
  refine (K1.out _ (fatB FF.out B4)).mono ?_
  rintro r w5 ⟨rfl, b5⟩
  have B5 : Below w.heap.size w w5 := btr B4 b5
  have Rc_5 := heap_of b5 _ _ _ Rc_4
  have Ra_5 := heap_of b5 _ _ _ Ra_4
  have Rb_5 := heap_of b5 _ _ _ Rb_4
  clear b5 B4 Rc_4 cc_4_0 cc_4_1 Ra_4 ca_4_0 ca_4_1 Rb_4 cb_4_0 cb_4_1
  obtain ⟨cc_5_0, cc_5_1⟩ := cells2s Rc_5
  obtain ⟨ca_5_0, ca_5_1⟩ := cells2s Ra_5
  obtain ⟨cb_5_0, cb_5_1⟩ := cells2s Rb_5
  have S6 := box B5.size
  have Lc_6 : Box (w.heap.size < w5.heap.size) := box (Array.getElem?_eq_some_iff.1 Rc_5).1
  have La_6 : Box (w2.heap.size < w5.heap.size) := box (Array.getElem?_eq_some_iff.1 Ra_5).1
  have Lb_6 : Box (w2.heap.size + 1 < w5.heap.size) := box (Array.getElem?_eq_some_iff.1 Rb_5).1
  have Rx_6 := heap_alloc_last w5 (Obj.cells #[.int .u64 (u : Nat), .int .u64 (v : Nat)] 26)
  have B6 := btr B5 (bal w5 (Obj.cells #[.int .u64 (u : Nat), .int .u64 (v : Nat)] 26))
  have Rc_6 := heap_of (bal w5 (Obj.cells #[.int .u64 (u : Nat), .int .u64 (v : Nat)] 26)) _ _ _ Rc_5
  have Ra_6 := heap_of (bal w5 (Obj.cells #[.int .u64 (u : Nat), .int .u64 (v : Nat)] 26)) _ _ _ Ra_5
  have Rb_6 := heap_of (bal w5 (Obj.cells #[.int .u64 (u : Nat), .int .u64 (v : Nat)] 26)) _ _ _ Rb_5
  clear B5 Rc_5 cc_5_0 cc_5_1 Ra_5 ca_5_0 ca_5_1 Rb_5 cb_5_0 cb_5_1
  obtain ⟨cc_6_0, cc_6_1⟩ := cells2s Rc_6
  obtain ⟨ca_6_0, ca_6_1⟩ := cells2s Ra_6
  obtain ⟨cb_6_0, cb_6_1⟩ := cells2s Rb_6
  obtain ⟨cx_6_0, cx_6_1⟩ := cells2s Rx_6
  have sS : Box (∀ W W1 : World, (Below w.heap.size w W ∧ W.heap[w.heap.size]? = some (Obj.cells #[.int .u64 (x3 : Nat), .int .u64 (y3 : Nat)] 26) ∧ W.heap[w2.heap.size]? = some (Obj.cells #[.int .u64 (i : Nat), .int .u64 (j : Nat)] 26) ∧ W.heap[w2.heap.size + 1]? = some (Obj.cells #[.int .u64 (p : Nat), .int .u64 (q : Nat)] 26) ∧ W.heap[w5.heap.size]? = some (Obj.cells #[.int .u64 (u : Nat), .int .u64 (v : Nat)] 26) ∧ W.cell? ⟨w5.heap.size, 0, none⟩ = some (.int .u64 (u : Nat)) ∧ W.cell? ⟨w5.heap.size, 1, none⟩ = some (.int .u64 (v : Nat))) → Below W.heap.size W W1 → (Below w.heap.size w W1 ∧ W1.heap[w.heap.size]? = some (Obj.cells #[.int .u64 (x3 : Nat), .int .u64 (y3 : Nat)] 26) ∧ W1.heap[w2.heap.size]? = some (Obj.cells #[.int .u64 (i : Nat), .int .u64 (j : Nat)] 26) ∧ W1.heap[w2.heap.size + 1]? = some (Obj.cells #[.int .u64 (p : Nat), .int .u64 (q : Nat)] 26) ∧ W1.heap[w5.heap.size]? = some (Obj.cells #[.int .u64 (u : Nat), .int .u64 (v : Nat)] 26) ∧ W1.cell? ⟨w5.heap.size, 0, none⟩ = some (.int .u64 (u : Nat)) ∧ W1.cell? ⟨w5.heap.size, 1, none⟩ = some (.int .u64 (v : Nat)))) := box (fun W W1 h b => ⟨btr h.1 b, heap_of b _ _ _ h.2.1, heap_of b _ _ _ h.2.2.1, heap_of b _ _ _ h.2.2.2.1, heap_of b _ _ _ h.2.2.2.2.1, cell7 (heap_of b _ _ _ h.2.2.2.2.1) 0 _ rfl, cell7 (heap_of b _ _ _ h.2.2.2.2.1) 1 _ rfl⟩)
  have s0 : Below w.heap.size w ((w5.alloc (Obj.cells #[.int .u64 (u : Nat), .int .u64 (v : Nat)] 26))).drew ∧ ((w5.alloc (Obj.cells #[.int .u64 (u : Nat), .int .u64 (v : Nat)] 26))).drew.heap[w.heap.size]? = some (Obj.cells #[.int .u64 (x3 : Nat), .int .u64 (y3 : Nat)] 26) ∧ ((w5.alloc (Obj.cells #[.int .u64 (u : Nat), .int .u64 (v : Nat)] 26))).drew.heap[w2.heap.size]? = some (Obj.cells #[.int .u64 (i : Nat), .int .u64 (j : Nat)] 26) ∧ ((w5.alloc (Obj.cells #[.int .u64 (u : Nat), .int .u64 (v : Nat)] 26))).drew.heap[w2.heap.size + 1]? = some (Obj.cells #[.int .u64 (p : Nat), .int .u64 (q : Nat)] 26) ∧ ((w5.alloc (Obj.cells #[.int .u64 (u : Nat), .int .u64 (v : Nat)] 26))).drew.heap[w5.heap.size]? = some (Obj.cells #[.int .u64 (u : Nat), .int .u64 (v : Nat)] 26) ∧ ((w5.alloc (Obj.cells #[.int .u64 (u : Nat), .int .u64 (v : Nat)] 26))).drew.cell? ⟨w5.heap.size, 0, none⟩ = some (.int .u64 (u : Nat)) ∧ ((w5.alloc (Obj.cells #[.int .u64 (u : Nat), .int .u64 (v : Nat)] 26))).drew.cell? ⟨w5.heap.size, 1, none⟩ = some (.int .u64 (v : Nat)) := ⟨B6.drew, Rc_6, Ra_6, Rb_6, Rx_6, cell7 (Rx_6) 0 _ rfl, cell7 (Rx_6) 1 _ rfl⟩
  go_wp2_with fail
  go_region_held3 (fun W => Below w.heap.size w W ∧ W.heap[w.heap.size]? = some (Obj.cells #[.int .u64 (x3 : Nat), .int .u64 (y3 : Nat)] 26) ∧ W.heap[w2.heap.size]? = some (Obj.cells #[.int .u64 (i : Nat), .int .u64 (j : Nat)] 26) ∧ W.heap[w2.heap.size + 1]? = some (Obj.cells #[.int .u64 (p : Nat), .int .u64 (q : Nat)] 26) ∧ W.heap[w5.heap.size]? = some (Obj.cells #[.int .u64 (u : Nat), .int .u64 (v : Nat)] 26) ∧ W.cell? ⟨w5.heap.size, 0, none⟩ = some (.int .u64 (u : Nat)) ∧ W.cell? ⟨w5.heap.size, 1, none⟩ = some (.int .u64 (v : Nat))) (first | exact s1 | exact s0)
    (first | (go_at_call 30; (first | refine (KN.out _ (fatB FF.out (And.left s1))).mono ?_ | refine (KN.out _ (fatB FF.out (And.left s0))).mono ?_); rintro r wq ⟨rfl, bq⟩; (first | have s1 := sS.out _ _ s1 bq | have s1 := sS.out _ _ s0 bq); clear bq) | (go_at_call 31; refine (KX.out _).mono ?_; rintro r wq ⟨rfl, bq⟩; (first | have s1 := sS.out _ _ s1 bq | have s1 := sS.out _ _ s0 bq); clear bq) | (go_at_call 14; (first | refine (KA.out _ (fatB FF.out (And.left s1))).mono ?_ | refine (KA.out _ (fatB FF.out (And.left s0))).mono ?_); rintro r wq ⟨rfl, bq⟩; (first | have s1 := sS.out _ _ s1 bq | have s1 := sS.out _ _ s0 bq); clear bq) | fail)
  have B7 := (And.left s1)
  have Rc_7 := s1.2.1
  have Ra_7 := s1.2.2.1
  have Rb_7 := s1.2.2.2.1
  have Rx_7 := s1.2.2.2.2.1
  clear s0 s1 sS B6 Rc_6 cc_6_0 cc_6_1 Ra_6 ca_6_0 ca_6_1 Rb_6 cb_6_0 cb_6_1 Rx_6 cx_6_0 cx_6_1
  obtain ⟨cc_7_0, cc_7_1⟩ := cells2s Rc_7
  obtain ⟨ca_7_0, ca_7_1⟩ := cells2s Ra_7
  obtain ⟨cb_7_0, cb_7_1⟩ := cells2s Rb_7
  obtain ⟨cx_7_0, cx_7_1⟩ := cells2s Rx_7
  go_wp2
  go_ret
  exact ⟨rfl, B7⟩
end Go.Proofs.YtapikkbifdldfaaGreatDoor
