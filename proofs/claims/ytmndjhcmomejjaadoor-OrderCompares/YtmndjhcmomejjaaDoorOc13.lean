/-
  What the functions that the statement reaches return: part 13 (H2).
-/
import Derived.Test.YtmndjhcmomejjaaDoorOc12
namespace Go.Proofs.YtmndjhcmomejjaaDoor
set_option maxRecDepth 100000
set_option maxHeartbeats 40000000
set_option maxRecDepth 100000
open Go.RowKit WMath
set_option linter.unusedSimpArgs false
set_option linter.unusedVariables false
set_option maxRecDepth 100000 in
set_option maxHeartbeats 8000000 in
theorem rrk_no (f : Int) (x1 y1 : Nat) (w : World) (KI : Box (∀ w, Calls Tryd.prog 52 #[.int .u8 f, .agg #[.int .u64 (x1 : Nat), .int .u64 (y1 : Nat)]] w fun r w' => r = .returned (.bool false) ∧ Below w.heap.size w w')) : Calls Tryd.prog 32 #[.int .u8 f, .agg #[.int .u64 (x1 : Nat), .int .u64 (y1 : Nat)]] w fun r w' => r = .returned (.int .i64 0) ∧ Below w.heap.size w w' := by
  obtain ⟨Ra_0, B0⟩ := opn1 w (Obj.cells #[.int .u64 (x1 : Nat), .int .u64 (y1 : Nat)] 25)
  go_enter Tryd.func32, Tryd.ntmps32
  obtain ⟨ca_0_0, ca_0_1⟩ := cells2s Ra_0
  go_wp2_with fail
  refine (KI.out _).mono ?_
  rintro r w1 ⟨rfl, b1⟩
  have B1 : Below w.heap.size w w1 := btr B0 b1
  have Ra_1 := heap_of b1 _ _ _ Ra_0
  clear b1 B0 Ra_0 ca_0_0 ca_0_1
  obtain ⟨ca_1_0, ca_1_1⟩ := cells2s Ra_1
  go_wp2
  go_ret
  exact ⟨rfl, B1⟩
set_option maxRecDepth 100000 in
set_option maxHeartbeats 8000000 in
theorem rrk_neg (f : Int) (x1 y1 : Nat) (w : World) (KI : Box (∀ w, Calls Tryd.prog 52 #[.int .u8 f, .agg #[.int .u64 (x1 : Nat), .int .u64 (y1 : Nat)]] w fun r w' => r = .returned (.bool true) ∧ Below w.heap.size w w')) (KS : Box (∀ w, Calls Tryd.prog 41 #[.int .u8 f, .agg #[.int .u64 (x1 : Nat), .int .u64 (y1 : Nat)]] w fun r w' => r = .returned (.bool true) ∧ Below w.heap.size w w')) : Calls Tryd.prog 32 #[.int .u8 f, .agg #[.int .u64 (x1 : Nat), .int .u64 (y1 : Nat)]] w fun r w' => r = .returned (.int .i64 (-1)) ∧ Below w.heap.size w w' := by
  obtain ⟨Ra_0, B0⟩ := opn1 w (Obj.cells #[.int .u64 (x1 : Nat), .int .u64 (y1 : Nat)] 25)
  go_enter Tryd.func32, Tryd.ntmps32
  obtain ⟨ca_0_0, ca_0_1⟩ := cells2s Ra_0
  go_wp2_with fail
  refine (KI.out _).mono ?_
  rintro r w1 ⟨rfl, b1⟩
  have B1 : Below w.heap.size w w1 := btr B0 b1
  have Ra_1 := heap_of b1 _ _ _ Ra_0
  clear b1 B0 Ra_0 ca_0_0 ca_0_1
  obtain ⟨ca_1_0, ca_1_1⟩ := cells2s Ra_1
  go_wp2_with fail
  refine (KS.out _).mono ?_
  rintro r w2 ⟨rfl, b2⟩
  have B2 : Below w.heap.size w w2 := btr B1 b2
  have Ra_2 := heap_of b2 _ _ _ Ra_1
  clear b2 B1 Ra_1 ca_1_0 ca_1_1
  obtain ⟨ca_2_0, ca_2_1⟩ := cells2s Ra_2
  go_wp2
  go_ret
  exact ⟨rfl, B2⟩
set_option maxRecDepth 100000 in
set_option maxHeartbeats 8000000 in
theorem rrk_pos (f : Int) (x1 y1 : Nat) (w : World) (KI : Box (∀ w, Calls Tryd.prog 52 #[.int .u8 f, .agg #[.int .u64 (x1 : Nat), .int .u64 (y1 : Nat)]] w fun r w' => r = .returned (.bool true) ∧ Below w.heap.size w w')) (KS : Box (∀ w, Calls Tryd.prog 41 #[.int .u8 f, .agg #[.int .u64 (x1 : Nat), .int .u64 (y1 : Nat)]] w fun r w' => r = .returned (.bool false) ∧ Below w.heap.size w w')) : Calls Tryd.prog 32 #[.int .u8 f, .agg #[.int .u64 (x1 : Nat), .int .u64 (y1 : Nat)]] w fun r w' => r = .returned (.int .i64 1) ∧ Below w.heap.size w w' := by
  obtain ⟨Ra_0, B0⟩ := opn1 w (Obj.cells #[.int .u64 (x1 : Nat), .int .u64 (y1 : Nat)] 25)
  go_enter Tryd.func32, Tryd.ntmps32
  obtain ⟨ca_0_0, ca_0_1⟩ := cells2s Ra_0
  go_wp2_with fail
  refine (KI.out _).mono ?_
  rintro r w1 ⟨rfl, b1⟩
  have B1 : Below w.heap.size w w1 := btr B0 b1
  have Ra_1 := heap_of b1 _ _ _ Ra_0
  clear b1 B0 Ra_0 ca_0_0 ca_0_1
  obtain ⟨ca_1_0, ca_1_1⟩ := cells2s Ra_1
  go_wp2_with fail
  refine (KS.out _).mono ?_
  rintro r w2 ⟨rfl, b2⟩
  have B2 : Below w.heap.size w w2 := btr B1 b2
  have Ra_2 := heap_of b2 _ _ _ Ra_1
  clear b2 B1 Ra_1 ca_1_0 ca_1_1
  obtain ⟨ca_2_0, ca_2_1⟩ := cells2s Ra_2
  go_wp2
  go_ret
  exact ⟨rfl, B2⟩
set_option maxRecDepth 100000 in
set_option maxHeartbeats 8000000 in
theorem rloud_a (f : Int) (x1 y1 x2 y2 : Nat) (w : World) (K1 : Box (∀ w, Calls Tryd.prog 35 #[.int .u8 f, .agg #[.int .u64 (x1 : Nat), .int .u64 (y1 : Nat)]] w fun r w' => r = .returned (.bool true) ∧ Below w.heap.size w w')) : Calls Tryd.prog 16 #[.int .u8 f, .agg #[.int .u64 (x1 : Nat), .int .u64 (y1 : Nat)], .agg #[.int .u64 (x2 : Nat), .int .u64 (y2 : Nat)]] w fun r w' => r = .returned (.int .u8 16) ∧ Below w.heap.size w w' := by
  obtain ⟨Ra_0, Rb_0, B0⟩ := opn2 w (Obj.cells #[.int .u64 (x1 : Nat), .int .u64 (y1 : Nat)] 25) (Obj.cells #[.int .u64 (x2 : Nat), .int .u64 (y2 : Nat)] 25)
  go_enter Tryd.func16, Tryd.ntmps16
  obtain ⟨ca_0_0, ca_0_1⟩ := cells2s Ra_0
  obtain ⟨cb_0_0, cb_0_1⟩ := cells2s Rb_0
  go_wp2_with fail
  refine (K1.out _).mono ?_
  rintro r w1 ⟨rfl, b1⟩
  have B1 : Below w.heap.size w w1 := btr B0 b1
  have Ra_1 := heap_of b1 _ _ _ Ra_0
  have Rb_1 := heap_of b1 _ _ _ Rb_0
  clear b1 B0 Ra_0 ca_0_0 ca_0_1 Rb_0 cb_0_0 cb_0_1
  obtain ⟨ca_1_0, ca_1_1⟩ := cells2s Ra_1
  obtain ⟨cb_1_0, cb_1_1⟩ := cells2s Rb_1
  go_wp2
  go_ret
  exact ⟨rfl, B1⟩
set_option maxRecDepth 100000 in
set_option maxHeartbeats 8000000 in
theorem rloud_b (f : Int) (x1 y1 x2 y2 : Nat) (w : World) (K1 : Box (∀ w, Calls Tryd.prog 35 #[.int .u8 f, .agg #[.int .u64 (x1 : Nat), .int .u64 (y1 : Nat)]] w fun r w' => r = .returned (.bool false) ∧ Below w.heap.size w w')) (K2 : Box (∀ w, Calls Tryd.prog 35 #[.int .u8 f, .agg #[.int .u64 (x2 : Nat), .int .u64 (y2 : Nat)]] w fun r w' => r = .returned (.bool true) ∧ Below w.heap.size w w')) : Calls Tryd.prog 16 #[.int .u8 f, .agg #[.int .u64 (x1 : Nat), .int .u64 (y1 : Nat)], .agg #[.int .u64 (x2 : Nat), .int .u64 (y2 : Nat)]] w fun r w' => r = .returned (.int .u8 16) ∧ Below w.heap.size w w' := by
  obtain ⟨Ra_0, Rb_0, B0⟩ := opn2 w (Obj.cells #[.int .u64 (x1 : Nat), .int .u64 (y1 : Nat)] 25) (Obj.cells #[.int .u64 (x2 : Nat), .int .u64 (y2 : Nat)] 25)
  go_enter Tryd.func16, Tryd.ntmps16
  obtain ⟨ca_0_0, ca_0_1⟩ := cells2s Ra_0
  obtain ⟨cb_0_0, cb_0_1⟩ := cells2s Rb_0
  go_wp2_with fail
  refine (K1.out _).mono ?_
  rintro r w1 ⟨rfl, b1⟩
  have B1 : Below w.heap.size w w1 := btr B0 b1
  have Ra_1 := heap_of b1 _ _ _ Ra_0
  have Rb_1 := heap_of b1 _ _ _ Rb_0
  clear b1 B0 Ra_0 ca_0_0 ca_0_1 Rb_0 cb_0_0 cb_0_1
  obtain ⟨ca_1_0, ca_1_1⟩ := cells2s Ra_1
  obtain ⟨cb_1_0, cb_1_1⟩ := cells2s Rb_1
  go_wp2_with fail
  refine (K2.out _).mono ?_
  rintro r w2 ⟨rfl, b2⟩
  have B2 : Below w.heap.size w w2 := btr B1 b2
  have Ra_2 := heap_of b2 _ _ _ Ra_1
  have Rb_2 := heap_of b2 _ _ _ Rb_1
  clear b2 B1 Ra_1 ca_1_0 ca_1_1 Rb_1 cb_1_0 cb_1_1
  obtain ⟨ca_2_0, ca_2_1⟩ := cells2s Ra_2
  obtain ⟨cb_2_0, cb_2_1⟩ := cells2s Rb_2
  go_wp2
  go_ret
  exact ⟨rfl, B2⟩
set_option maxRecDepth 100000 in
set_option maxHeartbeats 8000000 in
theorem rloud_n (f : Int) (x1 y1 x2 y2 : Nat) (w : World) (K1 : Box (∀ w, Calls Tryd.prog 35 #[.int .u8 f, .agg #[.int .u64 (x1 : Nat), .int .u64 (y1 : Nat)]] w fun r w' => r = .returned (.bool false) ∧ Below w.heap.size w w')) (K2 : Box (∀ w, Calls Tryd.prog 35 #[.int .u8 f, .agg #[.int .u64 (x2 : Nat), .int .u64 (y2 : Nat)]] w fun r w' => r = .returned (.bool false) ∧ Below w.heap.size w w')) : Calls Tryd.prog 16 #[.int .u8 f, .agg #[.int .u64 (x1 : Nat), .int .u64 (y1 : Nat)], .agg #[.int .u64 (x2 : Nat), .int .u64 (y2 : Nat)]] w fun r w' => r = .returned (.int .u8 0) ∧ Below w.heap.size w w' := by
  obtain ⟨Ra_0, Rb_0, B0⟩ := opn2 w (Obj.cells #[.int .u64 (x1 : Nat), .int .u64 (y1 : Nat)] 25) (Obj.cells #[.int .u64 (x2 : Nat), .int .u64 (y2 : Nat)] 25)
  go_enter Tryd.func16, Tryd.ntmps16
  obtain ⟨ca_0_0, ca_0_1⟩ := cells2s Ra_0
  obtain ⟨cb_0_0, cb_0_1⟩ := cells2s Rb_0
  go_wp2_with fail
  refine (K1.out _).mono ?_
  rintro r w1 ⟨rfl, b1⟩
  have B1 : Below w.heap.size w w1 := btr B0 b1
  have Ra_1 := heap_of b1 _ _ _ Ra_0
  have Rb_1 := heap_of b1 _ _ _ Rb_0
  clear b1 B0 Ra_0 ca_0_0 ca_0_1 Rb_0 cb_0_0 cb_0_1
  obtain ⟨ca_1_0, ca_1_1⟩ := cells2s Ra_1
  obtain ⟨cb_1_0, cb_1_1⟩ := cells2s Rb_1
  go_wp2_with fail
  refine (K2.out _).mono ?_
  rintro r w2 ⟨rfl, b2⟩
  have B2 : Below w.heap.size w w2 := btr B1 b2
  have Ra_2 := heap_of b2 _ _ _ Ra_1
  have Rb_2 := heap_of b2 _ _ _ Rb_1
  clear b2 B1 Ra_1 ca_1_0 ca_1_1 Rb_1 cb_1_0 cb_1_1
  obtain ⟨ca_2_0, ca_2_1⟩ := cells2s Ra_2
  obtain ⟨cb_2_0, cb_2_1⟩ := cells2s Rb_2
  go_wp2
  go_ret
  exact ⟨rfl, B2⟩
set_option maxRecDepth 100000 in
set_option maxHeartbeats 8000000 in
theorem rsome_a (f : Int) (x1 y1 x2 y2 : Nat) (w : World) (K1 : Box (∀ w, Calls Tryd.prog 31 #[.int .u8 f, .agg #[.int .u64 (x1 : Nat), .int .u64 (y1 : Nat)]] w fun r w' => r = .returned (.bool true) ∧ Below w.heap.size w w')) : Calls Tryd.prog 15 #[.int .u8 f, .agg #[.int .u64 (x1 : Nat), .int .u64 (y1 : Nat)], .agg #[.int .u64 (x2 : Nat), .int .u64 (y2 : Nat)]] w fun r w' => r = .returned (.int .u8 16) ∧ Below w.heap.size w w' := by
  obtain ⟨Ra_0, Rb_0, B0⟩ := opn2 w (Obj.cells #[.int .u64 (x1 : Nat), .int .u64 (y1 : Nat)] 25) (Obj.cells #[.int .u64 (x2 : Nat), .int .u64 (y2 : Nat)] 25)
  go_enter Tryd.func15, Tryd.ntmps15
  obtain ⟨ca_0_0, ca_0_1⟩ := cells2s Ra_0
  obtain ⟨cb_0_0, cb_0_1⟩ := cells2s Rb_0
  go_wp2_with fail
  refine (K1.out _).mono ?_
  rintro r w1 ⟨rfl, b1⟩
  have B1 : Below w.heap.size w w1 := btr B0 b1
  have Ra_1 := heap_of b1 _ _ _ Ra_0
  have Rb_1 := heap_of b1 _ _ _ Rb_0
  clear b1 B0 Ra_0 ca_0_0 ca_0_1 Rb_0 cb_0_0 cb_0_1
  obtain ⟨ca_1_0, ca_1_1⟩ := cells2s Ra_1
  obtain ⟨cb_1_0, cb_1_1⟩ := cells2s Rb_1
  go_wp2
  go_ret
  exact ⟨rfl, B1⟩
set_option maxRecDepth 100000 in
set_option maxHeartbeats 8000000 in
theorem rsome_b (f : Int) (x1 y1 x2 y2 : Nat) (w : World) (K1 : Box (∀ w, Calls Tryd.prog 31 #[.int .u8 f, .agg #[.int .u64 (x1 : Nat), .int .u64 (y1 : Nat)]] w fun r w' => r = .returned (.bool false) ∧ Below w.heap.size w w')) (K2 : Box (∀ w, Calls Tryd.prog 31 #[.int .u8 f, .agg #[.int .u64 (x2 : Nat), .int .u64 (y2 : Nat)]] w fun r w' => r = .returned (.bool true) ∧ Below w.heap.size w w')) : Calls Tryd.prog 15 #[.int .u8 f, .agg #[.int .u64 (x1 : Nat), .int .u64 (y1 : Nat)], .agg #[.int .u64 (x2 : Nat), .int .u64 (y2 : Nat)]] w fun r w' => r = .returned (.int .u8 16) ∧ Below w.heap.size w w' := by
  obtain ⟨Ra_0, Rb_0, B0⟩ := opn2 w (Obj.cells #[.int .u64 (x1 : Nat), .int .u64 (y1 : Nat)] 25) (Obj.cells #[.int .u64 (x2 : Nat), .int .u64 (y2 : Nat)] 25)
  go_enter Tryd.func15, Tryd.ntmps15
  obtain ⟨ca_0_0, ca_0_1⟩ := cells2s Ra_0
  obtain ⟨cb_0_0, cb_0_1⟩ := cells2s Rb_0
  go_wp2_with fail
  refine (K1.out _).mono ?_
  rintro r w1 ⟨rfl, b1⟩
  have B1 : Below w.heap.size w w1 := btr B0 b1
  have Ra_1 := heap_of b1 _ _ _ Ra_0
  have Rb_1 := heap_of b1 _ _ _ Rb_0
  clear b1 B0 Ra_0 ca_0_0 ca_0_1 Rb_0 cb_0_0 cb_0_1
  obtain ⟨ca_1_0, ca_1_1⟩ := cells2s Ra_1
  obtain ⟨cb_1_0, cb_1_1⟩ := cells2s Rb_1
  go_wp2_with fail
  refine (K2.out _).mono ?_
  rintro r w2 ⟨rfl, b2⟩
  have B2 : Below w.heap.size w w2 := btr B1 b2
  have Ra_2 := heap_of b2 _ _ _ Ra_1
  have Rb_2 := heap_of b2 _ _ _ Rb_1
  clear b2 B1 Ra_1 ca_1_0 ca_1_1 Rb_1 cb_1_0 cb_1_1
  obtain ⟨ca_2_0, ca_2_1⟩ := cells2s Ra_2
  obtain ⟨cb_2_0, cb_2_1⟩ := cells2s Rb_2
  go_wp2
  go_ret
  exact ⟨rfl, B2⟩
set_option maxRecDepth 100000 in
set_option maxHeartbeats 8000000 in
theorem rsome_n (f : Int) (x1 y1 x2 y2 : Nat) (w : World) (K1 : Box (∀ w, Calls Tryd.prog 31 #[.int .u8 f, .agg #[.int .u64 (x1 : Nat), .int .u64 (y1 : Nat)]] w fun r w' => r = .returned (.bool false) ∧ Below w.heap.size w w')) (K2 : Box (∀ w, Calls Tryd.prog 31 #[.int .u8 f, .agg #[.int .u64 (x2 : Nat), .int .u64 (y2 : Nat)]] w fun r w' => r = .returned (.bool false) ∧ Below w.heap.size w w')) : Calls Tryd.prog 15 #[.int .u8 f, .agg #[.int .u64 (x1 : Nat), .int .u64 (y1 : Nat)], .agg #[.int .u64 (x2 : Nat), .int .u64 (y2 : Nat)]] w fun r w' => r = .returned (.int .u8 0) ∧ Below w.heap.size w w' := by
  obtain ⟨Ra_0, Rb_0, B0⟩ := opn2 w (Obj.cells #[.int .u64 (x1 : Nat), .int .u64 (y1 : Nat)] 25) (Obj.cells #[.int .u64 (x2 : Nat), .int .u64 (y2 : Nat)] 25)
  go_enter Tryd.func15, Tryd.ntmps15
  obtain ⟨ca_0_0, ca_0_1⟩ := cells2s Ra_0
  obtain ⟨cb_0_0, cb_0_1⟩ := cells2s Rb_0
  go_wp2_with fail
  refine (K1.out _).mono ?_
  rintro r w1 ⟨rfl, b1⟩
  have B1 : Below w.heap.size w w1 := btr B0 b1
  have Ra_1 := heap_of b1 _ _ _ Ra_0
  have Rb_1 := heap_of b1 _ _ _ Rb_0
  clear b1 B0 Ra_0 ca_0_0 ca_0_1 Rb_0 cb_0_0 cb_0_1
  obtain ⟨ca_1_0, ca_1_1⟩ := cells2s Ra_1
  obtain ⟨cb_1_0, cb_1_1⟩ := cells2s Rb_1
  go_wp2_with fail
  refine (K2.out _).mono ?_
  rintro r w2 ⟨rfl, b2⟩
  have B2 : Below w.heap.size w w2 := btr B1 b2
  have Ra_2 := heap_of b2 _ _ _ Ra_1
  have Rb_2 := heap_of b2 _ _ _ Rb_1
  clear b2 B1 Ra_1 ca_1_0 ca_1_1 Rb_1 cb_1_0 cb_1_1
  obtain ⟨ca_2_0, ca_2_1⟩ := cells2s Ra_2
  obtain ⟨cb_2_0, cb_2_1⟩ := cells2s Rb_2
  go_wp2
  go_ret
  exact ⟨rfl, B2⟩
set_option maxRecDepth 100000 in
set_option maxHeartbeats 8000000 in
theorem rcp_n1 (f : Int) (x1 y1 x2 y2 : Nat)  (w : World)
    (K1 : Box (∀ w, Calls Tryd.prog 31 #[.int .u8 f, .agg #[.int .u64 (x1 : Nat), .int .u64 (y1 : Nat)]] w fun r w' => r = .returned (.bool true) ∧ Below w.heap.size w w'))
    : Calls Tryd.prog 14 #[.int .u8 f, .agg #[.int .u64 (x1 : Nat), .int .u64 (y1 : Nat)], .agg #[.int .u64 (x2 : Nat), .int .u64 (y2 : Nat)]] w fun r w' => r = .returned (.int .u8 0) ∧ Below w.heap.size w w' := by
  obtain ⟨Ra_0, Rb_0, B0⟩ := opn2 w (Obj.cells #[.int .u64 (x1 : Nat), .int .u64 (y1 : Nat)] 25) (Obj.cells #[.int .u64 (x2 : Nat), .int .u64 (y2 : Nat)] 25)
  go_enter Tryd.func14, Tryd.ntmps14
  obtain ⟨ca_0_0, ca_0_1⟩ := cells2s Ra_0
  obtain ⟨cb_0_0, cb_0_1⟩ := cells2s Rb_0
  go_wp2_with fail
  refine (K1.out _).mono ?_
  rintro r w1 ⟨rfl, b1⟩
  have B1 : Below w.heap.size w w1 := btr B0 b1
  have Ra_1 := heap_of b1 _ _ _ Ra_0
  have Rb_1 := heap_of b1 _ _ _ Rb_0
  clear b1 B0 Ra_0 ca_0_0 ca_0_1 Rb_0 cb_0_0 cb_0_1
  obtain ⟨ca_1_0, ca_1_1⟩ := cells2s Ra_1
  obtain ⟨cb_1_0, cb_1_1⟩ := cells2s Rb_1
  go_wp2
  go_ret
  exact ⟨rfl, B1⟩
set_option maxRecDepth 100000 in
set_option maxHeartbeats 8000000 in
theorem rcp_n2 (f : Int) (x1 y1 x2 y2 : Nat)  (w : World)
    (K1 : Box (∀ w, Calls Tryd.prog 31 #[.int .u8 f, .agg #[.int .u64 (x1 : Nat), .int .u64 (y1 : Nat)]] w fun r w' => r = .returned (.bool false) ∧ Below w.heap.size w w')) (K2 : Box (∀ w, Calls Tryd.prog 31 #[.int .u8 f, .agg #[.int .u64 (x2 : Nat), .int .u64 (y2 : Nat)]] w fun r w' => r = .returned (.bool true) ∧ Below w.heap.size w w'))
    : Calls Tryd.prog 14 #[.int .u8 f, .agg #[.int .u64 (x1 : Nat), .int .u64 (y1 : Nat)], .agg #[.int .u64 (x2 : Nat), .int .u64 (y2 : Nat)]] w fun r w' => r = .returned (.int .u8 0) ∧ Below w.heap.size w w' := by
  obtain ⟨Ra_0, Rb_0, B0⟩ := opn2 w (Obj.cells #[.int .u64 (x1 : Nat), .int .u64 (y1 : Nat)] 25) (Obj.cells #[.int .u64 (x2 : Nat), .int .u64 (y2 : Nat)] 25)
  go_enter Tryd.func14, Tryd.ntmps14
  obtain ⟨ca_0_0, ca_0_1⟩ := cells2s Ra_0
  obtain ⟨cb_0_0, cb_0_1⟩ := cells2s Rb_0
  go_wp2_with fail
  refine (K1.out _).mono ?_
  rintro r w1 ⟨rfl, b1⟩
  have B1 : Below w.heap.size w w1 := btr B0 b1
  have Ra_1 := heap_of b1 _ _ _ Ra_0
  have Rb_1 := heap_of b1 _ _ _ Rb_0
  clear b1 B0 Ra_0 ca_0_0 ca_0_1 Rb_0 cb_0_0 cb_0_1
  obtain ⟨ca_1_0, ca_1_1⟩ := cells2s Ra_1
  obtain ⟨cb_1_0, cb_1_1⟩ := cells2s Rb_1
  go_wp2_with fail
  refine (K2.out _).mono ?_
  rintro r w2 ⟨rfl, b2⟩
  have B2 : Below w.heap.size w w2 := btr B1 b2
  have Ra_2 := heap_of b2 _ _ _ Ra_1
  have Rb_2 := heap_of b2 _ _ _ Rb_1
  clear b2 B1 Ra_1 ca_1_0 ca_1_1 Rb_1 cb_1_0 cb_1_1
  obtain ⟨ca_2_0, ca_2_1⟩ := cells2s Ra_2
  obtain ⟨cb_2_0, cb_2_1⟩ := cells2s Rb_2
  go_wp2
  go_ret
  exact ⟨rfl, B2⟩
set_option maxRecDepth 100000 in
set_option maxHeartbeats 8000000 in
theorem rcp_lt (f : Int) (x1 y1 x2 y2 : Nat) (p q : Int) (hne : (p == q) = false) (hl : decide (p < q) = true) (w : World)
    (K1 : Box (∀ w, Calls Tryd.prog 31 #[.int .u8 f, .agg #[.int .u64 (x1 : Nat), .int .u64 (y1 : Nat)]] w fun r w' => r = .returned (.bool false) ∧ Below w.heap.size w w')) (K2 : Box (∀ w, Calls Tryd.prog 31 #[.int .u8 f, .agg #[.int .u64 (x2 : Nat), .int .u64 (y2 : Nat)]] w fun r w' => r = .returned (.bool false) ∧ Below w.heap.size w w'))
    (R1 : Box (∀ w, Calls Tryd.prog 32 #[.int .u8 f, .agg #[.int .u64 (x1 : Nat), .int .u64 (y1 : Nat)]] w fun r w' => r = .returned (.int .i64 p) ∧ Below w.heap.size w w')) (R2 : Box (∀ w, Calls Tryd.prog 32 #[.int .u8 f, .agg #[.int .u64 (x2 : Nat), .int .u64 (y2 : Nat)]] w fun r w' => r = .returned (.int .i64 q) ∧ Below w.heap.size w w'))
    : Calls Tryd.prog 14 #[.int .u8 f, .agg #[.int .u64 (x1 : Nat), .int .u64 (y1 : Nat)], .agg #[.int .u64 (x2 : Nat), .int .u64 (y2 : Nat)]] w fun r w' => r = .returned (.int .u8 1) ∧ Below w.heap.size w w' := by
  obtain ⟨Ra_0, Rb_0, B0⟩ := opn2 w (Obj.cells #[.int .u64 (x1 : Nat), .int .u64 (y1 : Nat)] 25) (Obj.cells #[.int .u64 (x2 : Nat), .int .u64 (y2 : Nat)] 25)
  go_enter Tryd.func14, Tryd.ntmps14
  obtain ⟨ca_0_0, ca_0_1⟩ := cells2s Ra_0
  obtain ⟨cb_0_0, cb_0_1⟩ := cells2s Rb_0
  go_wp2_with fail
  refine (K1.out _).mono ?_
  rintro r w1 ⟨rfl, b1⟩
  have B1 : Below w.heap.size w w1 := btr B0 b1
  have Ra_1 := heap_of b1 _ _ _ Ra_0
  have Rb_1 := heap_of b1 _ _ _ Rb_0
  clear b1 B0 Ra_0 ca_0_0 ca_0_1 Rb_0 cb_0_0 cb_0_1
  obtain ⟨ca_1_0, ca_1_1⟩ := cells2s Ra_1
  obtain ⟨cb_1_0, cb_1_1⟩ := cells2s Rb_1
  go_wp2_with fail
  refine (K2.out _).mono ?_
  rintro r w2 ⟨rfl, b2⟩
  have B2 : Below w.heap.size w w2 := btr B1 b2
  have Ra_2 := heap_of b2 _ _ _ Ra_1
  have Rb_2 := heap_of b2 _ _ _ Rb_1
  clear b2 B1 Ra_1 ca_1_0 ca_1_1 Rb_1 cb_1_0 cb_1_1
  obtain ⟨ca_2_0, ca_2_1⟩ := cells2s Ra_2
  obtain ⟨cb_2_0, cb_2_1⟩ := cells2s Rb_2
  have sS : Box (∀ W W1 : World, (Below w.heap.size w W ∧ W.heap[w.heap.size]? = some (Obj.cells #[.int .u64 (x1 : Nat), .int .u64 (y1 : Nat)] 25) ∧ W.heap[w.heap.size + 1]? = some (Obj.cells #[.int .u64 (x2 : Nat), .int .u64 (y2 : Nat)] 25) ∧ W.cell? ⟨w.heap.size, 0, none⟩ = some (.int .u64 (x1 : Nat)) ∧ W.cell? ⟨w.heap.size, 1, none⟩ = some (.int .u64 (y1 : Nat)) ∧ W.cell? ⟨w.heap.size + 1, 0, none⟩ = some (.int .u64 (x2 : Nat)) ∧ W.cell? ⟨w.heap.size + 1, 1, none⟩ = some (.int .u64 (y2 : Nat))) → Below W.heap.size W W1 → (Below w.heap.size w W1 ∧ W1.heap[w.heap.size]? = some (Obj.cells #[.int .u64 (x1 : Nat), .int .u64 (y1 : Nat)] 25) ∧ W1.heap[w.heap.size + 1]? = some (Obj.cells #[.int .u64 (x2 : Nat), .int .u64 (y2 : Nat)] 25) ∧ W1.cell? ⟨w.heap.size, 0, none⟩ = some (.int .u64 (x1 : Nat)) ∧ W1.cell? ⟨w.heap.size, 1, none⟩ = some (.int .u64 (y1 : Nat)) ∧ W1.cell? ⟨w.heap.size + 1, 0, none⟩ = some (.int .u64 (x2 : Nat)) ∧ W1.cell? ⟨w.heap.size + 1, 1, none⟩ = some (.int .u64 (y2 : Nat)))) := box (fun W W1 h b => ⟨btr h.1 b, heap_of b _ _ _ h.2.1, heap_of b _ _ _ h.2.2.1, cell7 (heap_of b _ _ _ h.2.1) 0 _ rfl, cell7 (heap_of b _ _ _ h.2.1) 1 _ rfl, cell7 (heap_of b _ _ _ h.2.2.1) 0 _ rfl, cell7 (heap_of b _ _ _ h.2.2.1) 1 _ rfl⟩)
  have s0 : Below w.heap.size w (w2).drew ∧ (w2).drew.heap[w.heap.size]? = some (Obj.cells #[.int .u64 (x1 : Nat), .int .u64 (y1 : Nat)] 25) ∧ (w2).drew.heap[w.heap.size + 1]? = some (Obj.cells #[.int .u64 (x2 : Nat), .int .u64 (y2 : Nat)] 25) ∧ (w2).drew.cell? ⟨w.heap.size, 0, none⟩ = some (.int .u64 (x1 : Nat)) ∧ (w2).drew.cell? ⟨w.heap.size, 1, none⟩ = some (.int .u64 (y1 : Nat)) ∧ (w2).drew.cell? ⟨w.heap.size + 1, 0, none⟩ = some (.int .u64 (x2 : Nat)) ∧ (w2).drew.cell? ⟨w.heap.size + 1, 1, none⟩ = some (.int .u64 (y2 : Nat)) := ⟨B2.drew, Ra_2, Rb_2, cell7 (Ra_2) 0 _ rfl, cell7 (Ra_2) 1 _ rfl, cell7 (Rb_2) 0 _ rfl, cell7 (Rb_2) 1 _ rfl⟩
  go_wp2_with fail
  go_region_held3 (fun W => Below w.heap.size w W ∧ W.heap[w.heap.size]? = some (Obj.cells #[.int .u64 (x1 : Nat), .int .u64 (y1 : Nat)] 25) ∧ W.heap[w.heap.size + 1]? = some (Obj.cells #[.int .u64 (x2 : Nat), .int .u64 (y2 : Nat)] 25) ∧ W.cell? ⟨w.heap.size, 0, none⟩ = some (.int .u64 (x1 : Nat)) ∧ W.cell? ⟨w.heap.size, 1, none⟩ = some (.int .u64 (y1 : Nat)) ∧ W.cell? ⟨w.heap.size + 1, 0, none⟩ = some (.int .u64 (x2 : Nat)) ∧ W.cell? ⟨w.heap.size + 1, 1, none⟩ = some (.int .u64 (y2 : Nat))) (first | exact s1 | exact s0)
    (first | (go_at_call_of 32 (Value.agg #[.int .u64 (x1 : Nat), .int .u64 (y1 : Nat)]); refine (R1.out _).mono ?_; rintro r wq ⟨rfl, bq⟩; (first | have s1 := sS.out _ _ s1 bq | have s1 := sS.out _ _ s0 bq); clear bq) | (go_at_call_of 32 (Value.agg #[.int .u64 (x2 : Nat), .int .u64 (y2 : Nat)]); refine (R2.out _).mono ?_; rintro r wq ⟨rfl, bq⟩; (first | have s1 := sS.out _ _ s1 bq | have s1 := sS.out _ _ s0 bq); clear bq) | fail)
  have B3 := (And.left s1)
  have Ra_3 := s1.2.1
  have Rb_3 := s1.2.2.1
  clear s0 s1 sS B2 Ra_2 ca_2_0 ca_2_1 Rb_2 cb_2_0 cb_2_1
  obtain ⟨ca_3_0, ca_3_1⟩ := cells2s Ra_3
  obtain ⟨cb_3_0, cb_3_1⟩ := cells2s Rb_3
  go_wp2
  go_ret
  exact ⟨rfl, B3⟩
set_option maxRecDepth 100000 in
set_option maxHeartbeats 8000000 in
theorem rcp_gt (f : Int) (x1 y1 x2 y2 : Nat) (p q : Int) (hne : (p == q) = false) (hl : decide (p < q) = false) (w : World)
    (K1 : Box (∀ w, Calls Tryd.prog 31 #[.int .u8 f, .agg #[.int .u64 (x1 : Nat), .int .u64 (y1 : Nat)]] w fun r w' => r = .returned (.bool false) ∧ Below w.heap.size w w')) (K2 : Box (∀ w, Calls Tryd.prog 31 #[.int .u8 f, .agg #[.int .u64 (x2 : Nat), .int .u64 (y2 : Nat)]] w fun r w' => r = .returned (.bool false) ∧ Below w.heap.size w w'))
    (R1 : Box (∀ w, Calls Tryd.prog 32 #[.int .u8 f, .agg #[.int .u64 (x1 : Nat), .int .u64 (y1 : Nat)]] w fun r w' => r = .returned (.int .i64 p) ∧ Below w.heap.size w w')) (R2 : Box (∀ w, Calls Tryd.prog 32 #[.int .u8 f, .agg #[.int .u64 (x2 : Nat), .int .u64 (y2 : Nat)]] w fun r w' => r = .returned (.int .i64 q) ∧ Below w.heap.size w w'))
    : Calls Tryd.prog 14 #[.int .u8 f, .agg #[.int .u64 (x1 : Nat), .int .u64 (y1 : Nat)], .agg #[.int .u64 (x2 : Nat), .int .u64 (y2 : Nat)]] w fun r w' => r = .returned (.int .u8 3) ∧ Below w.heap.size w w' := by
  obtain ⟨Ra_0, Rb_0, B0⟩ := opn2 w (Obj.cells #[.int .u64 (x1 : Nat), .int .u64 (y1 : Nat)] 25) (Obj.cells #[.int .u64 (x2 : Nat), .int .u64 (y2 : Nat)] 25)
  go_enter Tryd.func14, Tryd.ntmps14
  obtain ⟨ca_0_0, ca_0_1⟩ := cells2s Ra_0
  obtain ⟨cb_0_0, cb_0_1⟩ := cells2s Rb_0
  go_wp2_with fail
  refine (K1.out _).mono ?_
  rintro r w1 ⟨rfl, b1⟩
  have B1 : Below w.heap.size w w1 := btr B0 b1
  have Ra_1 := heap_of b1 _ _ _ Ra_0
  have Rb_1 := heap_of b1 _ _ _ Rb_0
  clear b1 B0 Ra_0 ca_0_0 ca_0_1 Rb_0 cb_0_0 cb_0_1
  obtain ⟨ca_1_0, ca_1_1⟩ := cells2s Ra_1
  obtain ⟨cb_1_0, cb_1_1⟩ := cells2s Rb_1
  go_wp2_with fail
  refine (K2.out _).mono ?_
  rintro r w2 ⟨rfl, b2⟩
  have B2 : Below w.heap.size w w2 := btr B1 b2
  have Ra_2 := heap_of b2 _ _ _ Ra_1
  have Rb_2 := heap_of b2 _ _ _ Rb_1
  clear b2 B1 Ra_1 ca_1_0 ca_1_1 Rb_1 cb_1_0 cb_1_1
  obtain ⟨ca_2_0, ca_2_1⟩ := cells2s Ra_2
  obtain ⟨cb_2_0, cb_2_1⟩ := cells2s Rb_2
  have sS : Box (∀ W W1 : World, (Below w.heap.size w W ∧ W.heap[w.heap.size]? = some (Obj.cells #[.int .u64 (x1 : Nat), .int .u64 (y1 : Nat)] 25) ∧ W.heap[w.heap.size + 1]? = some (Obj.cells #[.int .u64 (x2 : Nat), .int .u64 (y2 : Nat)] 25) ∧ W.cell? ⟨w.heap.size, 0, none⟩ = some (.int .u64 (x1 : Nat)) ∧ W.cell? ⟨w.heap.size, 1, none⟩ = some (.int .u64 (y1 : Nat)) ∧ W.cell? ⟨w.heap.size + 1, 0, none⟩ = some (.int .u64 (x2 : Nat)) ∧ W.cell? ⟨w.heap.size + 1, 1, none⟩ = some (.int .u64 (y2 : Nat))) → Below W.heap.size W W1 → (Below w.heap.size w W1 ∧ W1.heap[w.heap.size]? = some (Obj.cells #[.int .u64 (x1 : Nat), .int .u64 (y1 : Nat)] 25) ∧ W1.heap[w.heap.size + 1]? = some (Obj.cells #[.int .u64 (x2 : Nat), .int .u64 (y2 : Nat)] 25) ∧ W1.cell? ⟨w.heap.size, 0, none⟩ = some (.int .u64 (x1 : Nat)) ∧ W1.cell? ⟨w.heap.size, 1, none⟩ = some (.int .u64 (y1 : Nat)) ∧ W1.cell? ⟨w.heap.size + 1, 0, none⟩ = some (.int .u64 (x2 : Nat)) ∧ W1.cell? ⟨w.heap.size + 1, 1, none⟩ = some (.int .u64 (y2 : Nat)))) := box (fun W W1 h b => ⟨btr h.1 b, heap_of b _ _ _ h.2.1, heap_of b _ _ _ h.2.2.1, cell7 (heap_of b _ _ _ h.2.1) 0 _ rfl, cell7 (heap_of b _ _ _ h.2.1) 1 _ rfl, cell7 (heap_of b _ _ _ h.2.2.1) 0 _ rfl, cell7 (heap_of b _ _ _ h.2.2.1) 1 _ rfl⟩)
  have s0 : Below w.heap.size w (w2).drew ∧ (w2).drew.heap[w.heap.size]? = some (Obj.cells #[.int .u64 (x1 : Nat), .int .u64 (y1 : Nat)] 25) ∧ (w2).drew.heap[w.heap.size + 1]? = some (Obj.cells #[.int .u64 (x2 : Nat), .int .u64 (y2 : Nat)] 25) ∧ (w2).drew.cell? ⟨w.heap.size, 0, none⟩ = some (.int .u64 (x1 : Nat)) ∧ (w2).drew.cell? ⟨w.heap.size, 1, none⟩ = some (.int .u64 (y1 : Nat)) ∧ (w2).drew.cell? ⟨w.heap.size + 1, 0, none⟩ = some (.int .u64 (x2 : Nat)) ∧ (w2).drew.cell? ⟨w.heap.size + 1, 1, none⟩ = some (.int .u64 (y2 : Nat)) := ⟨B2.drew, Ra_2, Rb_2, cell7 (Ra_2) 0 _ rfl, cell7 (Ra_2) 1 _ rfl, cell7 (Rb_2) 0 _ rfl, cell7 (Rb_2) 1 _ rfl⟩
  go_wp2_with fail
  go_region_held3 (fun W => Below w.heap.size w W ∧ W.heap[w.heap.size]? = some (Obj.cells #[.int .u64 (x1 : Nat), .int .u64 (y1 : Nat)] 25) ∧ W.heap[w.heap.size + 1]? = some (Obj.cells #[.int .u64 (x2 : Nat), .int .u64 (y2 : Nat)] 25) ∧ W.cell? ⟨w.heap.size, 0, none⟩ = some (.int .u64 (x1 : Nat)) ∧ W.cell? ⟨w.heap.size, 1, none⟩ = some (.int .u64 (y1 : Nat)) ∧ W.cell? ⟨w.heap.size + 1, 0, none⟩ = some (.int .u64 (x2 : Nat)) ∧ W.cell? ⟨w.heap.size + 1, 1, none⟩ = some (.int .u64 (y2 : Nat))) (first | exact s1 | exact s0)
    (first | (go_at_call_of 32 (Value.agg #[.int .u64 (x1 : Nat), .int .u64 (y1 : Nat)]); refine (R1.out _).mono ?_; rintro r wq ⟨rfl, bq⟩; (first | have s1 := sS.out _ _ s1 bq | have s1 := sS.out _ _ s0 bq); clear bq) | (go_at_call_of 32 (Value.agg #[.int .u64 (x2 : Nat), .int .u64 (y2 : Nat)]); refine (R2.out _).mono ?_; rintro r wq ⟨rfl, bq⟩; (first | have s1 := sS.out _ _ s1 bq | have s1 := sS.out _ _ s0 bq); clear bq) | fail)
  have B3 := (And.left s1)
  have Ra_3 := s1.2.1
  have Rb_3 := s1.2.2.1
  clear s0 s1 sS B2 Ra_2 ca_2_0 ca_2_1 Rb_2 cb_2_0 cb_2_1
  obtain ⟨ca_3_0, ca_3_1⟩ := cells2s Ra_3
  obtain ⟨cb_3_0, cb_3_1⟩ := cells2s Rb_3
  go_wp2
  go_ret
  exact ⟨rfl, B3⟩
set_option maxRecDepth 100000 in
set_option maxHeartbeats 8000000 in
theorem rcp_eq (f : Int) (x1 y1 x2 y2 : Nat) (p : Int) (hp : (p == 0) = false) (w : World)
    (K1 : Box (∀ w, Calls Tryd.prog 31 #[.int .u8 f, .agg #[.int .u64 (x1 : Nat), .int .u64 (y1 : Nat)]] w fun r w' => r = .returned (.bool false) ∧ Below w.heap.size w w')) (K2 : Box (∀ w, Calls Tryd.prog 31 #[.int .u8 f, .agg #[.int .u64 (x2 : Nat), .int .u64 (y2 : Nat)]] w fun r w' => r = .returned (.bool false) ∧ Below w.heap.size w w'))
    (R1 : Box (∀ w, Calls Tryd.prog 32 #[.int .u8 f, .agg #[.int .u64 (x1 : Nat), .int .u64 (y1 : Nat)]] w fun r w' => r = .returned (.int .i64 p) ∧ Below w.heap.size w w')) (R2 : Box (∀ w, Calls Tryd.prog 32 #[.int .u8 f, .agg #[.int .u64 (x2 : Nat), .int .u64 (y2 : Nat)]] w fun r w' => r = .returned (.int .i64 p) ∧ Below w.heap.size w w'))
    : Calls Tryd.prog 14 #[.int .u8 f, .agg #[.int .u64 (x1 : Nat), .int .u64 (y1 : Nat)], .agg #[.int .u64 (x2 : Nat), .int .u64 (y2 : Nat)]] w fun r w' => r = .returned (.int .u8 2) ∧ Below w.heap.size w w' := by
  obtain ⟨Ra_0, Rb_0, B0⟩ := opn2 w (Obj.cells #[.int .u64 (x1 : Nat), .int .u64 (y1 : Nat)] 25) (Obj.cells #[.int .u64 (x2 : Nat), .int .u64 (y2 : Nat)] 25)
  go_enter Tryd.func14, Tryd.ntmps14
  obtain ⟨ca_0_0, ca_0_1⟩ := cells2s Ra_0
  obtain ⟨cb_0_0, cb_0_1⟩ := cells2s Rb_0
  go_wp2_with fail
  refine (K1.out _).mono ?_
  rintro r w1 ⟨rfl, b1⟩
  have B1 : Below w.heap.size w w1 := btr B0 b1
  have Ra_1 := heap_of b1 _ _ _ Ra_0
  have Rb_1 := heap_of b1 _ _ _ Rb_0
  clear b1 B0 Ra_0 ca_0_0 ca_0_1 Rb_0 cb_0_0 cb_0_1
  obtain ⟨ca_1_0, ca_1_1⟩ := cells2s Ra_1
  obtain ⟨cb_1_0, cb_1_1⟩ := cells2s Rb_1
  go_wp2_with fail
  refine (K2.out _).mono ?_
  rintro r w2 ⟨rfl, b2⟩
  have B2 : Below w.heap.size w w2 := btr B1 b2
  have Ra_2 := heap_of b2 _ _ _ Ra_1
  have Rb_2 := heap_of b2 _ _ _ Rb_1
  clear b2 B1 Ra_1 ca_1_0 ca_1_1 Rb_1 cb_1_0 cb_1_1
  obtain ⟨ca_2_0, ca_2_1⟩ := cells2s Ra_2
  obtain ⟨cb_2_0, cb_2_1⟩ := cells2s Rb_2
  have sS : Box (∀ W W1 : World, (Below w.heap.size w W ∧ W.heap[w.heap.size]? = some (Obj.cells #[.int .u64 (x1 : Nat), .int .u64 (y1 : Nat)] 25) ∧ W.heap[w.heap.size + 1]? = some (Obj.cells #[.int .u64 (x2 : Nat), .int .u64 (y2 : Nat)] 25) ∧ W.cell? ⟨w.heap.size, 0, none⟩ = some (.int .u64 (x1 : Nat)) ∧ W.cell? ⟨w.heap.size, 1, none⟩ = some (.int .u64 (y1 : Nat)) ∧ W.cell? ⟨w.heap.size + 1, 0, none⟩ = some (.int .u64 (x2 : Nat)) ∧ W.cell? ⟨w.heap.size + 1, 1, none⟩ = some (.int .u64 (y2 : Nat))) → Below W.heap.size W W1 → (Below w.heap.size w W1 ∧ W1.heap[w.heap.size]? = some (Obj.cells #[.int .u64 (x1 : Nat), .int .u64 (y1 : Nat)] 25) ∧ W1.heap[w.heap.size + 1]? = some (Obj.cells #[.int .u64 (x2 : Nat), .int .u64 (y2 : Nat)] 25) ∧ W1.cell? ⟨w.heap.size, 0, none⟩ = some (.int .u64 (x1 : Nat)) ∧ W1.cell? ⟨w.heap.size, 1, none⟩ = some (.int .u64 (y1 : Nat)) ∧ W1.cell? ⟨w.heap.size + 1, 0, none⟩ = some (.int .u64 (x2 : Nat)) ∧ W1.cell? ⟨w.heap.size + 1, 1, none⟩ = some (.int .u64 (y2 : Nat)))) := box (fun W W1 h b => ⟨btr h.1 b, heap_of b _ _ _ h.2.1, heap_of b _ _ _ h.2.2.1, cell7 (heap_of b _ _ _ h.2.1) 0 _ rfl, cell7 (heap_of b _ _ _ h.2.1) 1 _ rfl, cell7 (heap_of b _ _ _ h.2.2.1) 0 _ rfl, cell7 (heap_of b _ _ _ h.2.2.1) 1 _ rfl⟩)
  have s0 : Below w.heap.size w (w2).drew ∧ (w2).drew.heap[w.heap.size]? = some (Obj.cells #[.int .u64 (x1 : Nat), .int .u64 (y1 : Nat)] 25) ∧ (w2).drew.heap[w.heap.size + 1]? = some (Obj.cells #[.int .u64 (x2 : Nat), .int .u64 (y2 : Nat)] 25) ∧ (w2).drew.cell? ⟨w.heap.size, 0, none⟩ = some (.int .u64 (x1 : Nat)) ∧ (w2).drew.cell? ⟨w.heap.size, 1, none⟩ = some (.int .u64 (y1 : Nat)) ∧ (w2).drew.cell? ⟨w.heap.size + 1, 0, none⟩ = some (.int .u64 (x2 : Nat)) ∧ (w2).drew.cell? ⟨w.heap.size + 1, 1, none⟩ = some (.int .u64 (y2 : Nat)) := ⟨B2.drew, Ra_2, Rb_2, cell7 (Ra_2) 0 _ rfl, cell7 (Ra_2) 1 _ rfl, cell7 (Rb_2) 0 _ rfl, cell7 (Rb_2) 1 _ rfl⟩
  go_wp2_with fail
  go_region_held3 (fun W => Below w.heap.size w W ∧ W.heap[w.heap.size]? = some (Obj.cells #[.int .u64 (x1 : Nat), .int .u64 (y1 : Nat)] 25) ∧ W.heap[w.heap.size + 1]? = some (Obj.cells #[.int .u64 (x2 : Nat), .int .u64 (y2 : Nat)] 25) ∧ W.cell? ⟨w.heap.size, 0, none⟩ = some (.int .u64 (x1 : Nat)) ∧ W.cell? ⟨w.heap.size, 1, none⟩ = some (.int .u64 (y1 : Nat)) ∧ W.cell? ⟨w.heap.size + 1, 0, none⟩ = some (.int .u64 (x2 : Nat)) ∧ W.cell? ⟨w.heap.size + 1, 1, none⟩ = some (.int .u64 (y2 : Nat))) (first | exact s1 | exact s0)
    (first | (go_at_call_of 32 (Value.agg #[.int .u64 (x1 : Nat), .int .u64 (y1 : Nat)]); refine (R1.out _).mono ?_; rintro r wq ⟨rfl, bq⟩; (first | have s1 := sS.out _ _ s1 bq | have s1 := sS.out _ _ s0 bq); clear bq) | (go_at_call_of 32 (Value.agg #[.int .u64 (x2 : Nat), .int .u64 (y2 : Nat)]); refine (R2.out _).mono ?_; rintro r wq ⟨rfl, bq⟩; (first | have s1 := sS.out _ _ s1 bq | have s1 := sS.out _ _ s0 bq); clear bq) | fail)
  have B3 := (And.left s1)
  have Ra_3 := s1.2.1
  have Rb_3 := s1.2.2.1
  clear s0 s1 sS B2 Ra_2 ca_2_0 ca_2_1 Rb_2 cb_2_0 cb_2_1
  obtain ⟨ca_3_0, ca_3_1⟩ := cells2s Ra_3
  obtain ⟨cb_3_0, cb_3_1⟩ := cells2s Rb_3
  go_wp2
  go_ret
  exact ⟨rfl, B3⟩
set_option maxRecDepth 100000 in
set_option maxHeartbeats 8000000 in
theorem rcp_vl (f : Int) (x1 y1 x2 y2 : Nat) (b1 : Bool) (n1 d1 : ByteArray) (e1 : Int) (b2 : Bool) (n2 d2 : ByteArray) (e2 : Int) (c : Int) (h1 : decide (c < 0) = true) (w : World)
    (K1 : Box (∀ w, Calls Tryd.prog 31 #[.int .u8 f, .agg #[.int .u64 (x1 : Nat), .int .u64 (y1 : Nat)]] w fun r w' => r = .returned (.bool false) ∧ Below w.heap.size w w')) (K2 : Box (∀ w, Calls Tryd.prog 31 #[.int .u8 f, .agg #[.int .u64 (x2 : Nat), .int .u64 (y2 : Nat)]] w fun r w' => r = .returned (.bool false) ∧ Below w.heap.size w w'))
    (R1 : Box (∀ w, Calls Tryd.prog 32 #[.int .u8 f, .agg #[.int .u64 (x1 : Nat), .int .u64 (y1 : Nat)]] w fun r w' => r = .returned (.int .i64 0) ∧ Below w.heap.size w w')) (R2 : Box (∀ w, Calls Tryd.prog 32 #[.int .u8 f, .agg #[.int .u64 (x2 : Nat), .int .u64 (y2 : Nat)]] w fun r w' => r = .returned (.int .i64 0) ∧ Below w.heap.size w w'))
    (KV1 : Box (∀ w, Calls Tryd.prog 33 #[.int .u8 f, .agg #[.int .u64 (x1 : Nat), .int .u64 (y1 : Nat)]] w fun r w' => r = .returned (.tuple #[.agg #[.bool b1, .string n1, .string d1, .int .i64 e1], .int .i64 0]) ∧ Below w.heap.size w w')) (KV2 : Box (∀ w, Calls Tryd.prog 33 #[.int .u8 f, .agg #[.int .u64 (x2 : Nat), .int .u64 (y2 : Nat)]] w fun r w' => r = .returned (.tuple #[.agg #[.bool b2, .string n2, .string d2, .int .i64 e2], .int .i64 0]) ∧ Below w.heap.size w w')) (KC : Box (∀ w, Calls Tryd.prog 34 #[.agg #[.bool b1, .string n1, .string d1, .int .i64 e1], .agg #[.bool b2, .string n2, .string d2, .int .i64 e2]] w fun r w' => r = .returned (.tuple #[.int .i64 c, .int .i64 0]) ∧ Below w.heap.size w w'))
    : Calls Tryd.prog 14 #[.int .u8 f, .agg #[.int .u64 (x1 : Nat), .int .u64 (y1 : Nat)], .agg #[.int .u64 (x2 : Nat), .int .u64 (y2 : Nat)]] w fun r w' => r = .returned (.int .u8 1) ∧ Below w.heap.size w w' := by
  obtain ⟨Ra_0, Rb_0, B0⟩ := opn2 w (Obj.cells #[.int .u64 (x1 : Nat), .int .u64 (y1 : Nat)] 25) (Obj.cells #[.int .u64 (x2 : Nat), .int .u64 (y2 : Nat)] 25)
  go_enter Tryd.func14, Tryd.ntmps14
  obtain ⟨ca_0_0, ca_0_1⟩ := cells2s Ra_0
  obtain ⟨cb_0_0, cb_0_1⟩ := cells2s Rb_0
  go_wp2_with fail
  refine (K1.out _).mono ?_
  rintro r w1 ⟨rfl, b1⟩
  have B1 : Below w.heap.size w w1 := btr B0 b1
  have Ra_1 := heap_of b1 _ _ _ Ra_0
  have Rb_1 := heap_of b1 _ _ _ Rb_0
  clear b1 B0 Ra_0 ca_0_0 ca_0_1 Rb_0 cb_0_0 cb_0_1
  obtain ⟨ca_1_0, ca_1_1⟩ := cells2s Ra_1
  obtain ⟨cb_1_0, cb_1_1⟩ := cells2s Rb_1
  go_wp2_with fail
  refine (K2.out _).mono ?_
  rintro r w2 ⟨rfl, b2⟩
  have B2 : Below w.heap.size w w2 := btr B1 b2
  have Ra_2 := heap_of b2 _ _ _ Ra_1
  have Rb_2 := heap_of b2 _ _ _ Rb_1
  clear b2 B1 Ra_1 ca_1_0 ca_1_1 Rb_1 cb_1_0 cb_1_1
  obtain ⟨ca_2_0, ca_2_1⟩ := cells2s Ra_2
  obtain ⟨cb_2_0, cb_2_1⟩ := cells2s Rb_2
  have sS : Box (∀ W W1 : World, (Below w.heap.size w W ∧ W.heap[w.heap.size]? = some (Obj.cells #[.int .u64 (x1 : Nat), .int .u64 (y1 : Nat)] 25) ∧ W.heap[w.heap.size + 1]? = some (Obj.cells #[.int .u64 (x2 : Nat), .int .u64 (y2 : Nat)] 25) ∧ W.cell? ⟨w.heap.size, 0, none⟩ = some (.int .u64 (x1 : Nat)) ∧ W.cell? ⟨w.heap.size, 1, none⟩ = some (.int .u64 (y1 : Nat)) ∧ W.cell? ⟨w.heap.size + 1, 0, none⟩ = some (.int .u64 (x2 : Nat)) ∧ W.cell? ⟨w.heap.size + 1, 1, none⟩ = some (.int .u64 (y2 : Nat))) → Below W.heap.size W W1 → (Below w.heap.size w W1 ∧ W1.heap[w.heap.size]? = some (Obj.cells #[.int .u64 (x1 : Nat), .int .u64 (y1 : Nat)] 25) ∧ W1.heap[w.heap.size + 1]? = some (Obj.cells #[.int .u64 (x2 : Nat), .int .u64 (y2 : Nat)] 25) ∧ W1.cell? ⟨w.heap.size, 0, none⟩ = some (.int .u64 (x1 : Nat)) ∧ W1.cell? ⟨w.heap.size, 1, none⟩ = some (.int .u64 (y1 : Nat)) ∧ W1.cell? ⟨w.heap.size + 1, 0, none⟩ = some (.int .u64 (x2 : Nat)) ∧ W1.cell? ⟨w.heap.size + 1, 1, none⟩ = some (.int .u64 (y2 : Nat)))) := box (fun W W1 h b => ⟨btr h.1 b, heap_of b _ _ _ h.2.1, heap_of b _ _ _ h.2.2.1, cell7 (heap_of b _ _ _ h.2.1) 0 _ rfl, cell7 (heap_of b _ _ _ h.2.1) 1 _ rfl, cell7 (heap_of b _ _ _ h.2.2.1) 0 _ rfl, cell7 (heap_of b _ _ _ h.2.2.1) 1 _ rfl⟩)
  have s0 : Below w.heap.size w (w2).drew ∧ (w2).drew.heap[w.heap.size]? = some (Obj.cells #[.int .u64 (x1 : Nat), .int .u64 (y1 : Nat)] 25) ∧ (w2).drew.heap[w.heap.size + 1]? = some (Obj.cells #[.int .u64 (x2 : Nat), .int .u64 (y2 : Nat)] 25) ∧ (w2).drew.cell? ⟨w.heap.size, 0, none⟩ = some (.int .u64 (x1 : Nat)) ∧ (w2).drew.cell? ⟨w.heap.size, 1, none⟩ = some (.int .u64 (y1 : Nat)) ∧ (w2).drew.cell? ⟨w.heap.size + 1, 0, none⟩ = some (.int .u64 (x2 : Nat)) ∧ (w2).drew.cell? ⟨w.heap.size + 1, 1, none⟩ = some (.int .u64 (y2 : Nat)) := ⟨B2.drew, Ra_2, Rb_2, cell7 (Ra_2) 0 _ rfl, cell7 (Ra_2) 1 _ rfl, cell7 (Rb_2) 0 _ rfl, cell7 (Rb_2) 1 _ rfl⟩
  go_wp2_with fail
  go_region_held3 (fun W => Below w.heap.size w W ∧ W.heap[w.heap.size]? = some (Obj.cells #[.int .u64 (x1 : Nat), .int .u64 (y1 : Nat)] 25) ∧ W.heap[w.heap.size + 1]? = some (Obj.cells #[.int .u64 (x2 : Nat), .int .u64 (y2 : Nat)] 25) ∧ W.cell? ⟨w.heap.size, 0, none⟩ = some (.int .u64 (x1 : Nat)) ∧ W.cell? ⟨w.heap.size, 1, none⟩ = some (.int .u64 (y1 : Nat)) ∧ W.cell? ⟨w.heap.size + 1, 0, none⟩ = some (.int .u64 (x2 : Nat)) ∧ W.cell? ⟨w.heap.size + 1, 1, none⟩ = some (.int .u64 (y2 : Nat))) (first | exact s1 | exact s0)
    (first | (go_at_call_of 32 (Value.agg #[.int .u64 (x1 : Nat), .int .u64 (y1 : Nat)]); refine (R1.out _).mono ?_; rintro r wq ⟨rfl, bq⟩; (first | have s1 := sS.out _ _ s1 bq | have s1 := sS.out _ _ s0 bq); clear bq) | (go_at_call_of 32 (Value.agg #[.int .u64 (x2 : Nat), .int .u64 (y2 : Nat)]); refine (R2.out _).mono ?_; rintro r wq ⟨rfl, bq⟩; (first | have s1 := sS.out _ _ s1 bq | have s1 := sS.out _ _ s0 bq); clear bq) | fail)
  have B3 := (And.left s1)
  have Ra_3 := s1.2.1
  have Rb_3 := s1.2.2.1
  clear s0 s1 sS B2 Ra_2 ca_2_0 ca_2_1 Rb_2 cb_2_0 cb_2_1
  obtain ⟨ca_3_0, ca_3_1⟩ := cells2s Ra_3
  obtain ⟨cb_3_0, cb_3_1⟩ := cells2s Rb_3
  go_wp2_with fail
  refine (KV1.out _).mono ?_
  rintro r w4 ⟨rfl, b4⟩
  have B4 : Below w.heap.size w w4 := btr B3 b4
  have Ra_4 := heap_of b4 _ _ _ Ra_3
  have Rb_4 := heap_of b4 _ _ _ Rb_3
  clear b4 B3 Ra_3 ca_3_0 ca_3_1 Rb_3 cb_3_0 cb_3_1
  obtain ⟨ca_4_0, ca_4_1⟩ := cells2s Ra_4
  obtain ⟨cb_4_0, cb_4_1⟩ := cells2s Rb_4
  have S5 := box B4.size
  have La_5 : Box (w.heap.size < w4.heap.size) := box (Array.getElem?_eq_some_iff.1 Ra_4).1
  have Lb_5 : Box (w.heap.size + 1 < w4.heap.size) := box (Array.getElem?_eq_some_iff.1 Rb_4).1
  have Rv_5 := heap_alloc_last w4 (Obj.cells #[.bool b1, .string n1, .string d1, .int .i64 e1] 60)
  have B5 := btr B4 (bal w4 (Obj.cells #[.bool b1, .string n1, .string d1, .int .i64 e1] 60))
  have Ra_5 := heap_of (bal w4 (Obj.cells #[.bool b1, .string n1, .string d1, .int .i64 e1] 60)) _ _ _ Ra_4
  have Rb_5 := heap_of (bal w4 (Obj.cells #[.bool b1, .string n1, .string d1, .int .i64 e1] 60)) _ _ _ Rb_4
  clear B4 Ra_4 ca_4_0 ca_4_1 Rb_4 cb_4_0 cb_4_1
  obtain ⟨ca_5_0, ca_5_1⟩ := cells2s Ra_5
  obtain ⟨cb_5_0, cb_5_1⟩ := cells2s Rb_5
  obtain ⟨cv_5_0, cv_5_1, cv_5_2, cv_5_3⟩ := cells4s Rv_5
  go_wp2_with fail
  refine (KV2.out _).mono ?_
  rintro r w6 ⟨rfl, b6⟩
  have B6 : Below w.heap.size w w6 := btr B5 b6
  have Ra_6 := heap_of b6 _ _ _ Ra_5
  have Rb_6 := heap_of b6 _ _ _ Rb_5
  have Rv_6 := heap_of b6 _ _ _ Rv_5
  clear b6 B5 Ra_5 ca_5_0 ca_5_1 Rb_5 cb_5_0 cb_5_1 Rv_5 cv_5_0 cv_5_1 cv_5_2 cv_5_3
  obtain ⟨ca_6_0, ca_6_1⟩ := cells2s Ra_6
  obtain ⟨cb_6_0, cb_6_1⟩ := cells2s Rb_6
  obtain ⟨cv_6_0, cv_6_1, cv_6_2, cv_6_3⟩ := cells4s Rv_6
  have S7 := box B6.size
  have La_7 : Box (w.heap.size < w6.heap.size) := box (Array.getElem?_eq_some_iff.1 Ra_6).1
  have Lb_7 : Box (w.heap.size + 1 < w6.heap.size) := box (Array.getElem?_eq_some_iff.1 Rb_6).1
  have Lv_7 : Box (w4.heap.size < w6.heap.size) := box (Array.getElem?_eq_some_iff.1 Rv_6).1
  have Ry_7 := heap_alloc_last w6 (Obj.cells #[.bool b2, .string n2, .string d2, .int .i64 e2] 60)
  have B7 := btr B6 (bal w6 (Obj.cells #[.bool b2, .string n2, .string d2, .int .i64 e2] 60))
  have Ra_7 := heap_of (bal w6 (Obj.cells #[.bool b2, .string n2, .string d2, .int .i64 e2] 60)) _ _ _ Ra_6
  have Rb_7 := heap_of (bal w6 (Obj.cells #[.bool b2, .string n2, .string d2, .int .i64 e2] 60)) _ _ _ Rb_6
  have Rv_7 := heap_of (bal w6 (Obj.cells #[.bool b2, .string n2, .string d2, .int .i64 e2] 60)) _ _ _ Rv_6
  clear B6 Ra_6 ca_6_0 ca_6_1 Rb_6 cb_6_0 cb_6_1 Rv_6 cv_6_0 cv_6_1 cv_6_2 cv_6_3
  obtain ⟨ca_7_0, ca_7_1⟩ := cells2s Ra_7
  obtain ⟨cb_7_0, cb_7_1⟩ := cells2s Rb_7
  obtain ⟨cv_7_0, cv_7_1, cv_7_2, cv_7_3⟩ := cells4s Rv_7
  obtain ⟨cy_7_0, cy_7_1, cy_7_2, cy_7_3⟩ := cells4s Ry_7
  go_wp2_with fail
  refine (KC.out _).mono ?_
  rintro r w8 ⟨rfl, b8⟩
  have B8 : Below w.heap.size w w8 := btr B7 b8
  have Ra_8 := heap_of b8 _ _ _ Ra_7
  have Rb_8 := heap_of b8 _ _ _ Rb_7
  have Rv_8 := heap_of b8 _ _ _ Rv_7
  have Ry_8 := heap_of b8 _ _ _ Ry_7
  clear b8 B7 Ra_7 ca_7_0 ca_7_1 Rb_7 cb_7_0 cb_7_1 Rv_7 cv_7_0 cv_7_1 cv_7_2 cv_7_3 Ry_7 cy_7_0 cy_7_1 cy_7_2 cy_7_3
  obtain ⟨ca_8_0, ca_8_1⟩ := cells2s Ra_8
  obtain ⟨cb_8_0, cb_8_1⟩ := cells2s Rb_8
  obtain ⟨cv_8_0, cv_8_1, cv_8_2, cv_8_3⟩ := cells4s Rv_8
  obtain ⟨cy_8_0, cy_8_1, cy_8_2, cy_8_3⟩ := cells4s Ry_8
  go_wp2
  go_ret
  exact ⟨rfl, B8⟩
set_option maxRecDepth 100000 in
set_option maxHeartbeats 8000000 in
theorem rcp_vg (f : Int) (x1 y1 x2 y2 : Nat) (b1 : Bool) (n1 d1 : ByteArray) (e1 : Int) (b2 : Bool) (n2 d2 : ByteArray) (e2 : Int) (c : Int) (h1 : decide (c < 0) = false) (h2 : decide (0 < c) = true) (w : World)
    (K1 : Box (∀ w, Calls Tryd.prog 31 #[.int .u8 f, .agg #[.int .u64 (x1 : Nat), .int .u64 (y1 : Nat)]] w fun r w' => r = .returned (.bool false) ∧ Below w.heap.size w w')) (K2 : Box (∀ w, Calls Tryd.prog 31 #[.int .u8 f, .agg #[.int .u64 (x2 : Nat), .int .u64 (y2 : Nat)]] w fun r w' => r = .returned (.bool false) ∧ Below w.heap.size w w'))
    (R1 : Box (∀ w, Calls Tryd.prog 32 #[.int .u8 f, .agg #[.int .u64 (x1 : Nat), .int .u64 (y1 : Nat)]] w fun r w' => r = .returned (.int .i64 0) ∧ Below w.heap.size w w')) (R2 : Box (∀ w, Calls Tryd.prog 32 #[.int .u8 f, .agg #[.int .u64 (x2 : Nat), .int .u64 (y2 : Nat)]] w fun r w' => r = .returned (.int .i64 0) ∧ Below w.heap.size w w'))
    (KV1 : Box (∀ w, Calls Tryd.prog 33 #[.int .u8 f, .agg #[.int .u64 (x1 : Nat), .int .u64 (y1 : Nat)]] w fun r w' => r = .returned (.tuple #[.agg #[.bool b1, .string n1, .string d1, .int .i64 e1], .int .i64 0]) ∧ Below w.heap.size w w')) (KV2 : Box (∀ w, Calls Tryd.prog 33 #[.int .u8 f, .agg #[.int .u64 (x2 : Nat), .int .u64 (y2 : Nat)]] w fun r w' => r = .returned (.tuple #[.agg #[.bool b2, .string n2, .string d2, .int .i64 e2], .int .i64 0]) ∧ Below w.heap.size w w')) (KC : Box (∀ w, Calls Tryd.prog 34 #[.agg #[.bool b1, .string n1, .string d1, .int .i64 e1], .agg #[.bool b2, .string n2, .string d2, .int .i64 e2]] w fun r w' => r = .returned (.tuple #[.int .i64 c, .int .i64 0]) ∧ Below w.heap.size w w'))
    : Calls Tryd.prog 14 #[.int .u8 f, .agg #[.int .u64 (x1 : Nat), .int .u64 (y1 : Nat)], .agg #[.int .u64 (x2 : Nat), .int .u64 (y2 : Nat)]] w fun r w' => r = .returned (.int .u8 3) ∧ Below w.heap.size w w' := by
  obtain ⟨Ra_0, Rb_0, B0⟩ := opn2 w (Obj.cells #[.int .u64 (x1 : Nat), .int .u64 (y1 : Nat)] 25) (Obj.cells #[.int .u64 (x2 : Nat), .int .u64 (y2 : Nat)] 25)
  go_enter Tryd.func14, Tryd.ntmps14
  obtain ⟨ca_0_0, ca_0_1⟩ := cells2s Ra_0
  obtain ⟨cb_0_0, cb_0_1⟩ := cells2s Rb_0
  go_wp2_with fail
  refine (K1.out _).mono ?_
  rintro r w1 ⟨rfl, b1⟩
  have B1 : Below w.heap.size w w1 := btr B0 b1
  have Ra_1 := heap_of b1 _ _ _ Ra_0
  have Rb_1 := heap_of b1 _ _ _ Rb_0
  clear b1 B0 Ra_0 ca_0_0 ca_0_1 Rb_0 cb_0_0 cb_0_1
  obtain ⟨ca_1_0, ca_1_1⟩ := cells2s Ra_1
  obtain ⟨cb_1_0, cb_1_1⟩ := cells2s Rb_1
  go_wp2_with fail
  refine (K2.out _).mono ?_
  rintro r w2 ⟨rfl, b2⟩
  have B2 : Below w.heap.size w w2 := btr B1 b2
  have Ra_2 := heap_of b2 _ _ _ Ra_1
  have Rb_2 := heap_of b2 _ _ _ Rb_1
  clear b2 B1 Ra_1 ca_1_0 ca_1_1 Rb_1 cb_1_0 cb_1_1
  obtain ⟨ca_2_0, ca_2_1⟩ := cells2s Ra_2
  obtain ⟨cb_2_0, cb_2_1⟩ := cells2s Rb_2
  have sS : Box (∀ W W1 : World, (Below w.heap.size w W ∧ W.heap[w.heap.size]? = some (Obj.cells #[.int .u64 (x1 : Nat), .int .u64 (y1 : Nat)] 25) ∧ W.heap[w.heap.size + 1]? = some (Obj.cells #[.int .u64 (x2 : Nat), .int .u64 (y2 : Nat)] 25) ∧ W.cell? ⟨w.heap.size, 0, none⟩ = some (.int .u64 (x1 : Nat)) ∧ W.cell? ⟨w.heap.size, 1, none⟩ = some (.int .u64 (y1 : Nat)) ∧ W.cell? ⟨w.heap.size + 1, 0, none⟩ = some (.int .u64 (x2 : Nat)) ∧ W.cell? ⟨w.heap.size + 1, 1, none⟩ = some (.int .u64 (y2 : Nat))) → Below W.heap.size W W1 → (Below w.heap.size w W1 ∧ W1.heap[w.heap.size]? = some (Obj.cells #[.int .u64 (x1 : Nat), .int .u64 (y1 : Nat)] 25) ∧ W1.heap[w.heap.size + 1]? = some (Obj.cells #[.int .u64 (x2 : Nat), .int .u64 (y2 : Nat)] 25) ∧ W1.cell? ⟨w.heap.size, 0, none⟩ = some (.int .u64 (x1 : Nat)) ∧ W1.cell? ⟨w.heap.size, 1, none⟩ = some (.int .u64 (y1 : Nat)) ∧ W1.cell? ⟨w.heap.size + 1, 0, none⟩ = some (.int .u64 (x2 : Nat)) ∧ W1.cell? ⟨w.heap.size + 1, 1, none⟩ = some (.int .u64 (y2 : Nat)))) := box (fun W W1 h b => ⟨btr h.1 b, heap_of b _ _ _ h.2.1, heap_of b _ _ _ h.2.2.1, cell7 (heap_of b _ _ _ h.2.1) 0 _ rfl, cell7 (heap_of b _ _ _ h.2.1) 1 _ rfl, cell7 (heap_of b _ _ _ h.2.2.1) 0 _ rfl, cell7 (heap_of b _ _ _ h.2.2.1) 1 _ rfl⟩)
  have s0 : Below w.heap.size w (w2).drew ∧ (w2).drew.heap[w.heap.size]? = some (Obj.cells #[.int .u64 (x1 : Nat), .int .u64 (y1 : Nat)] 25) ∧ (w2).drew.heap[w.heap.size + 1]? = some (Obj.cells #[.int .u64 (x2 : Nat), .int .u64 (y2 : Nat)] 25) ∧ (w2).drew.cell? ⟨w.heap.size, 0, none⟩ = some (.int .u64 (x1 : Nat)) ∧ (w2).drew.cell? ⟨w.heap.size, 1, none⟩ = some (.int .u64 (y1 : Nat)) ∧ (w2).drew.cell? ⟨w.heap.size + 1, 0, none⟩ = some (.int .u64 (x2 : Nat)) ∧ (w2).drew.cell? ⟨w.heap.size + 1, 1, none⟩ = some (.int .u64 (y2 : Nat)) := ⟨B2.drew, Ra_2, Rb_2, cell7 (Ra_2) 0 _ rfl, cell7 (Ra_2) 1 _ rfl, cell7 (Rb_2) 0 _ rfl, cell7 (Rb_2) 1 _ rfl⟩
  go_wp2_with fail
  go_region_held3 (fun W => Below w.heap.size w W ∧ W.heap[w.heap.size]? = some (Obj.cells #[.int .u64 (x1 : Nat), .int .u64 (y1 : Nat)] 25) ∧ W.heap[w.heap.size + 1]? = some (Obj.cells #[.int .u64 (x2 : Nat), .int .u64 (y2 : Nat)] 25) ∧ W.cell? ⟨w.heap.size, 0, none⟩ = some (.int .u64 (x1 : Nat)) ∧ W.cell? ⟨w.heap.size, 1, none⟩ = some (.int .u64 (y1 : Nat)) ∧ W.cell? ⟨w.heap.size + 1, 0, none⟩ = some (.int .u64 (x2 : Nat)) ∧ W.cell? ⟨w.heap.size + 1, 1, none⟩ = some (.int .u64 (y2 : Nat))) (first | exact s1 | exact s0)
    (first | (go_at_call_of 32 (Value.agg #[.int .u64 (x1 : Nat), .int .u64 (y1 : Nat)]); refine (R1.out _).mono ?_; rintro r wq ⟨rfl, bq⟩; (first | have s1 := sS.out _ _ s1 bq | have s1 := sS.out _ _ s0 bq); clear bq) | (go_at_call_of 32 (Value.agg #[.int .u64 (x2 : Nat), .int .u64 (y2 : Nat)]); refine (R2.out _).mono ?_; rintro r wq ⟨rfl, bq⟩; (first | have s1 := sS.out _ _ s1 bq | have s1 := sS.out _ _ s0 bq); clear bq) | fail)
  have B3 := (And.left s1)
  have Ra_3 := s1.2.1
  have Rb_3 := s1.2.2.1
  clear s0 s1 sS B2 Ra_2 ca_2_0 ca_2_1 Rb_2 cb_2_0 cb_2_1
  obtain ⟨ca_3_0, ca_3_1⟩ := cells2s Ra_3
  obtain ⟨cb_3_0, cb_3_1⟩ := cells2s Rb_3
  go_wp2_with fail
  refine (KV1.out _).mono ?_
  rintro r w4 ⟨rfl, b4⟩
  have B4 : Below w.heap.size w w4 := btr B3 b4
  have Ra_4 := heap_of b4 _ _ _ Ra_3
  have Rb_4 := heap_of b4 _ _ _ Rb_3
  clear b4 B3 Ra_3 ca_3_0 ca_3_1 Rb_3 cb_3_0 cb_3_1
  obtain ⟨ca_4_0, ca_4_1⟩ := cells2s Ra_4
  obtain ⟨cb_4_0, cb_4_1⟩ := cells2s Rb_4
  have S5 := box B4.size
  have La_5 : Box (w.heap.size < w4.heap.size) := box (Array.getElem?_eq_some_iff.1 Ra_4).1
  have Lb_5 : Box (w.heap.size + 1 < w4.heap.size) := box (Array.getElem?_eq_some_iff.1 Rb_4).1
  have Rv_5 := heap_alloc_last w4 (Obj.cells #[.bool b1, .string n1, .string d1, .int .i64 e1] 60)
  have B5 := btr B4 (bal w4 (Obj.cells #[.bool b1, .string n1, .string d1, .int .i64 e1] 60))
  have Ra_5 := heap_of (bal w4 (Obj.cells #[.bool b1, .string n1, .string d1, .int .i64 e1] 60)) _ _ _ Ra_4
  have Rb_5 := heap_of (bal w4 (Obj.cells #[.bool b1, .string n1, .string d1, .int .i64 e1] 60)) _ _ _ Rb_4
  clear B4 Ra_4 ca_4_0 ca_4_1 Rb_4 cb_4_0 cb_4_1
  obtain ⟨ca_5_0, ca_5_1⟩ := cells2s Ra_5
  obtain ⟨cb_5_0, cb_5_1⟩ := cells2s Rb_5
  obtain ⟨cv_5_0, cv_5_1, cv_5_2, cv_5_3⟩ := cells4s Rv_5
  go_wp2_with fail
  refine (KV2.out _).mono ?_
  rintro r w6 ⟨rfl, b6⟩
  have B6 : Below w.heap.size w w6 := btr B5 b6
  have Ra_6 := heap_of b6 _ _ _ Ra_5
  have Rb_6 := heap_of b6 _ _ _ Rb_5
  have Rv_6 := heap_of b6 _ _ _ Rv_5
  clear b6 B5 Ra_5 ca_5_0 ca_5_1 Rb_5 cb_5_0 cb_5_1 Rv_5 cv_5_0 cv_5_1 cv_5_2 cv_5_3
  obtain ⟨ca_6_0, ca_6_1⟩ := cells2s Ra_6
  obtain ⟨cb_6_0, cb_6_1⟩ := cells2s Rb_6
  obtain ⟨cv_6_0, cv_6_1, cv_6_2, cv_6_3⟩ := cells4s Rv_6
  have S7 := box B6.size
  have La_7 : Box (w.heap.size < w6.heap.size) := box (Array.getElem?_eq_some_iff.1 Ra_6).1
  have Lb_7 : Box (w.heap.size + 1 < w6.heap.size) := box (Array.getElem?_eq_some_iff.1 Rb_6).1
  have Lv_7 : Box (w4.heap.size < w6.heap.size) := box (Array.getElem?_eq_some_iff.1 Rv_6).1
  have Ry_7 := heap_alloc_last w6 (Obj.cells #[.bool b2, .string n2, .string d2, .int .i64 e2] 60)
  have B7 := btr B6 (bal w6 (Obj.cells #[.bool b2, .string n2, .string d2, .int .i64 e2] 60))
  have Ra_7 := heap_of (bal w6 (Obj.cells #[.bool b2, .string n2, .string d2, .int .i64 e2] 60)) _ _ _ Ra_6
  have Rb_7 := heap_of (bal w6 (Obj.cells #[.bool b2, .string n2, .string d2, .int .i64 e2] 60)) _ _ _ Rb_6
  have Rv_7 := heap_of (bal w6 (Obj.cells #[.bool b2, .string n2, .string d2, .int .i64 e2] 60)) _ _ _ Rv_6
  clear B6 Ra_6 ca_6_0 ca_6_1 Rb_6 cb_6_0 cb_6_1 Rv_6 cv_6_0 cv_6_1 cv_6_2 cv_6_3
  obtain ⟨ca_7_0, ca_7_1⟩ := cells2s Ra_7
  obtain ⟨cb_7_0, cb_7_1⟩ := cells2s Rb_7
  obtain ⟨cv_7_0, cv_7_1, cv_7_2, cv_7_3⟩ := cells4s Rv_7
  obtain ⟨cy_7_0, cy_7_1, cy_7_2, cy_7_3⟩ := cells4s Ry_7
  go_wp2_with fail
  refine (KC.out _).mono ?_
  rintro r w8 ⟨rfl, b8⟩
  have B8 : Below w.heap.size w w8 := btr B7 b8
  have Ra_8 := heap_of b8 _ _ _ Ra_7
  have Rb_8 := heap_of b8 _ _ _ Rb_7
  have Rv_8 := heap_of b8 _ _ _ Rv_7
  have Ry_8 := heap_of b8 _ _ _ Ry_7
  clear b8 B7 Ra_7 ca_7_0 ca_7_1 Rb_7 cb_7_0 cb_7_1 Rv_7 cv_7_0 cv_7_1 cv_7_2 cv_7_3 Ry_7 cy_7_0 cy_7_1 cy_7_2 cy_7_3
  obtain ⟨ca_8_0, ca_8_1⟩ := cells2s Ra_8
  obtain ⟨cb_8_0, cb_8_1⟩ := cells2s Rb_8
  obtain ⟨cv_8_0, cv_8_1, cv_8_2, cv_8_3⟩ := cells4s Rv_8
  obtain ⟨cy_8_0, cy_8_1, cy_8_2, cy_8_3⟩ := cells4s Ry_8
  go_wp2
  go_ret
  exact ⟨rfl, B8⟩
set_option maxRecDepth 100000 in
set_option maxHeartbeats 8000000 in
theorem rcp_ve (f : Int) (x1 y1 x2 y2 : Nat) (b1 : Bool) (n1 d1 : ByteArray) (e1 : Int) (b2 : Bool) (n2 d2 : ByteArray) (e2 : Int) (c : Int) (h1 : decide (c < 0) = false) (h2 : decide (0 < c) = false) (w : World)
    (K1 : Box (∀ w, Calls Tryd.prog 31 #[.int .u8 f, .agg #[.int .u64 (x1 : Nat), .int .u64 (y1 : Nat)]] w fun r w' => r = .returned (.bool false) ∧ Below w.heap.size w w')) (K2 : Box (∀ w, Calls Tryd.prog 31 #[.int .u8 f, .agg #[.int .u64 (x2 : Nat), .int .u64 (y2 : Nat)]] w fun r w' => r = .returned (.bool false) ∧ Below w.heap.size w w'))
    (R1 : Box (∀ w, Calls Tryd.prog 32 #[.int .u8 f, .agg #[.int .u64 (x1 : Nat), .int .u64 (y1 : Nat)]] w fun r w' => r = .returned (.int .i64 0) ∧ Below w.heap.size w w')) (R2 : Box (∀ w, Calls Tryd.prog 32 #[.int .u8 f, .agg #[.int .u64 (x2 : Nat), .int .u64 (y2 : Nat)]] w fun r w' => r = .returned (.int .i64 0) ∧ Below w.heap.size w w'))
    (KV1 : Box (∀ w, Calls Tryd.prog 33 #[.int .u8 f, .agg #[.int .u64 (x1 : Nat), .int .u64 (y1 : Nat)]] w fun r w' => r = .returned (.tuple #[.agg #[.bool b1, .string n1, .string d1, .int .i64 e1], .int .i64 0]) ∧ Below w.heap.size w w')) (KV2 : Box (∀ w, Calls Tryd.prog 33 #[.int .u8 f, .agg #[.int .u64 (x2 : Nat), .int .u64 (y2 : Nat)]] w fun r w' => r = .returned (.tuple #[.agg #[.bool b2, .string n2, .string d2, .int .i64 e2], .int .i64 0]) ∧ Below w.heap.size w w')) (KC : Box (∀ w, Calls Tryd.prog 34 #[.agg #[.bool b1, .string n1, .string d1, .int .i64 e1], .agg #[.bool b2, .string n2, .string d2, .int .i64 e2]] w fun r w' => r = .returned (.tuple #[.int .i64 c, .int .i64 0]) ∧ Below w.heap.size w w'))
    : Calls Tryd.prog 14 #[.int .u8 f, .agg #[.int .u64 (x1 : Nat), .int .u64 (y1 : Nat)], .agg #[.int .u64 (x2 : Nat), .int .u64 (y2 : Nat)]] w fun r w' => r = .returned (.int .u8 2) ∧ Below w.heap.size w w' := by
  obtain ⟨Ra_0, Rb_0, B0⟩ := opn2 w (Obj.cells #[.int .u64 (x1 : Nat), .int .u64 (y1 : Nat)] 25) (Obj.cells #[.int .u64 (x2 : Nat), .int .u64 (y2 : Nat)] 25)
  go_enter Tryd.func14, Tryd.ntmps14
  obtain ⟨ca_0_0, ca_0_1⟩ := cells2s Ra_0
  obtain ⟨cb_0_0, cb_0_1⟩ := cells2s Rb_0
  go_wp2_with fail
  refine (K1.out _).mono ?_
  rintro r w1 ⟨rfl, b1⟩
  have B1 : Below w.heap.size w w1 := btr B0 b1
  have Ra_1 := heap_of b1 _ _ _ Ra_0
  have Rb_1 := heap_of b1 _ _ _ Rb_0
  clear b1 B0 Ra_0 ca_0_0 ca_0_1 Rb_0 cb_0_0 cb_0_1
  obtain ⟨ca_1_0, ca_1_1⟩ := cells2s Ra_1
  obtain ⟨cb_1_0, cb_1_1⟩ := cells2s Rb_1
  go_wp2_with fail
  refine (K2.out _).mono ?_
  rintro r w2 ⟨rfl, b2⟩
  have B2 : Below w.heap.size w w2 := btr B1 b2
  have Ra_2 := heap_of b2 _ _ _ Ra_1
  have Rb_2 := heap_of b2 _ _ _ Rb_1
  clear b2 B1 Ra_1 ca_1_0 ca_1_1 Rb_1 cb_1_0 cb_1_1
  obtain ⟨ca_2_0, ca_2_1⟩ := cells2s Ra_2
  obtain ⟨cb_2_0, cb_2_1⟩ := cells2s Rb_2
  have sS : Box (∀ W W1 : World, (Below w.heap.size w W ∧ W.heap[w.heap.size]? = some (Obj.cells #[.int .u64 (x1 : Nat), .int .u64 (y1 : Nat)] 25) ∧ W.heap[w.heap.size + 1]? = some (Obj.cells #[.int .u64 (x2 : Nat), .int .u64 (y2 : Nat)] 25) ∧ W.cell? ⟨w.heap.size, 0, none⟩ = some (.int .u64 (x1 : Nat)) ∧ W.cell? ⟨w.heap.size, 1, none⟩ = some (.int .u64 (y1 : Nat)) ∧ W.cell? ⟨w.heap.size + 1, 0, none⟩ = some (.int .u64 (x2 : Nat)) ∧ W.cell? ⟨w.heap.size + 1, 1, none⟩ = some (.int .u64 (y2 : Nat))) → Below W.heap.size W W1 → (Below w.heap.size w W1 ∧ W1.heap[w.heap.size]? = some (Obj.cells #[.int .u64 (x1 : Nat), .int .u64 (y1 : Nat)] 25) ∧ W1.heap[w.heap.size + 1]? = some (Obj.cells #[.int .u64 (x2 : Nat), .int .u64 (y2 : Nat)] 25) ∧ W1.cell? ⟨w.heap.size, 0, none⟩ = some (.int .u64 (x1 : Nat)) ∧ W1.cell? ⟨w.heap.size, 1, none⟩ = some (.int .u64 (y1 : Nat)) ∧ W1.cell? ⟨w.heap.size + 1, 0, none⟩ = some (.int .u64 (x2 : Nat)) ∧ W1.cell? ⟨w.heap.size + 1, 1, none⟩ = some (.int .u64 (y2 : Nat)))) := box (fun W W1 h b => ⟨btr h.1 b, heap_of b _ _ _ h.2.1, heap_of b _ _ _ h.2.2.1, cell7 (heap_of b _ _ _ h.2.1) 0 _ rfl, cell7 (heap_of b _ _ _ h.2.1) 1 _ rfl, cell7 (heap_of b _ _ _ h.2.2.1) 0 _ rfl, cell7 (heap_of b _ _ _ h.2.2.1) 1 _ rfl⟩)
  have s0 : Below w.heap.size w (w2).drew ∧ (w2).drew.heap[w.heap.size]? = some (Obj.cells #[.int .u64 (x1 : Nat), .int .u64 (y1 : Nat)] 25) ∧ (w2).drew.heap[w.heap.size + 1]? = some (Obj.cells #[.int .u64 (x2 : Nat), .int .u64 (y2 : Nat)] 25) ∧ (w2).drew.cell? ⟨w.heap.size, 0, none⟩ = some (.int .u64 (x1 : Nat)) ∧ (w2).drew.cell? ⟨w.heap.size, 1, none⟩ = some (.int .u64 (y1 : Nat)) ∧ (w2).drew.cell? ⟨w.heap.size + 1, 0, none⟩ = some (.int .u64 (x2 : Nat)) ∧ (w2).drew.cell? ⟨w.heap.size + 1, 1, none⟩ = some (.int .u64 (y2 : Nat)) := ⟨B2.drew, Ra_2, Rb_2, cell7 (Ra_2) 0 _ rfl, cell7 (Ra_2) 1 _ rfl, cell7 (Rb_2) 0 _ rfl, cell7 (Rb_2) 1 _ rfl⟩
  go_wp2_with fail
  go_region_held3 (fun W => Below w.heap.size w W ∧ W.heap[w.heap.size]? = some (Obj.cells #[.int .u64 (x1 : Nat), .int .u64 (y1 : Nat)] 25) ∧ W.heap[w.heap.size + 1]? = some (Obj.cells #[.int .u64 (x2 : Nat), .int .u64 (y2 : Nat)] 25) ∧ W.cell? ⟨w.heap.size, 0, none⟩ = some (.int .u64 (x1 : Nat)) ∧ W.cell? ⟨w.heap.size, 1, none⟩ = some (.int .u64 (y1 : Nat)) ∧ W.cell? ⟨w.heap.size + 1, 0, none⟩ = some (.int .u64 (x2 : Nat)) ∧ W.cell? ⟨w.heap.size + 1, 1, none⟩ = some (.int .u64 (y2 : Nat))) (first | exact s1 | exact s0)
    (first | (go_at_call_of 32 (Value.agg #[.int .u64 (x1 : Nat), .int .u64 (y1 : Nat)]); refine (R1.out _).mono ?_; rintro r wq ⟨rfl, bq⟩; (first | have s1 := sS.out _ _ s1 bq | have s1 := sS.out _ _ s0 bq); clear bq) | (go_at_call_of 32 (Value.agg #[.int .u64 (x2 : Nat), .int .u64 (y2 : Nat)]); refine (R2.out _).mono ?_; rintro r wq ⟨rfl, bq⟩; (first | have s1 := sS.out _ _ s1 bq | have s1 := sS.out _ _ s0 bq); clear bq) | fail)
  have B3 := (And.left s1)
  have Ra_3 := s1.2.1
  have Rb_3 := s1.2.2.1
  clear s0 s1 sS B2 Ra_2 ca_2_0 ca_2_1 Rb_2 cb_2_0 cb_2_1
  obtain ⟨ca_3_0, ca_3_1⟩ := cells2s Ra_3
  obtain ⟨cb_3_0, cb_3_1⟩ := cells2s Rb_3
  go_wp2_with fail
  refine (KV1.out _).mono ?_
  rintro r w4 ⟨rfl, b4⟩
  have B4 : Below w.heap.size w w4 := btr B3 b4
  have Ra_4 := heap_of b4 _ _ _ Ra_3
  have Rb_4 := heap_of b4 _ _ _ Rb_3
  clear b4 B3 Ra_3 ca_3_0 ca_3_1 Rb_3 cb_3_0 cb_3_1
  obtain ⟨ca_4_0, ca_4_1⟩ := cells2s Ra_4
  obtain ⟨cb_4_0, cb_4_1⟩ := cells2s Rb_4
  have S5 := box B4.size
  have La_5 : Box (w.heap.size < w4.heap.size) := box (Array.getElem?_eq_some_iff.1 Ra_4).1
  have Lb_5 : Box (w.heap.size + 1 < w4.heap.size) := box (Array.getElem?_eq_some_iff.1 Rb_4).1
  have Rv_5 := heap_alloc_last w4 (Obj.cells #[.bool b1, .string n1, .string d1, .int .i64 e1] 60)
  have B5 := btr B4 (bal w4 (Obj.cells #[.bool b1, .string n1, .string d1, .int .i64 e1] 60))
  have Ra_5 := heap_of (bal w4 (Obj.cells #[.bool b1, .string n1, .string d1, .int .i64 e1] 60)) _ _ _ Ra_4
  have Rb_5 := heap_of (bal w4 (Obj.cells #[.bool b1, .string n1, .string d1, .int .i64 e1] 60)) _ _ _ Rb_4
  clear B4 Ra_4 ca_4_0 ca_4_1 Rb_4 cb_4_0 cb_4_1
  obtain ⟨ca_5_0, ca_5_1⟩ := cells2s Ra_5
  obtain ⟨cb_5_0, cb_5_1⟩ := cells2s Rb_5
  obtain ⟨cv_5_0, cv_5_1, cv_5_2, cv_5_3⟩ := cells4s Rv_5
  go_wp2_with fail
  refine (KV2.out _).mono ?_
  rintro r w6 ⟨rfl, b6⟩
  have B6 : Below w.heap.size w w6 := btr B5 b6
  have Ra_6 := heap_of b6 _ _ _ Ra_5
  have Rb_6 := heap_of b6 _ _ _ Rb_5
  have Rv_6 := heap_of b6 _ _ _ Rv_5
  clear b6 B5 Ra_5 ca_5_0 ca_5_1 Rb_5 cb_5_0 cb_5_1 Rv_5 cv_5_0 cv_5_1 cv_5_2 cv_5_3
  obtain ⟨ca_6_0, ca_6_1⟩ := cells2s Ra_6
  obtain ⟨cb_6_0, cb_6_1⟩ := cells2s Rb_6
  obtain ⟨cv_6_0, cv_6_1, cv_6_2, cv_6_3⟩ := cells4s Rv_6
  have S7 := box B6.size
  have La_7 : Box (w.heap.size < w6.heap.size) := box (Array.getElem?_eq_some_iff.1 Ra_6).1
  have Lb_7 : Box (w.heap.size + 1 < w6.heap.size) := box (Array.getElem?_eq_some_iff.1 Rb_6).1
  have Lv_7 : Box (w4.heap.size < w6.heap.size) := box (Array.getElem?_eq_some_iff.1 Rv_6).1
  have Ry_7 := heap_alloc_last w6 (Obj.cells #[.bool b2, .string n2, .string d2, .int .i64 e2] 60)
  have B7 := btr B6 (bal w6 (Obj.cells #[.bool b2, .string n2, .string d2, .int .i64 e2] 60))
  have Ra_7 := heap_of (bal w6 (Obj.cells #[.bool b2, .string n2, .string d2, .int .i64 e2] 60)) _ _ _ Ra_6
  have Rb_7 := heap_of (bal w6 (Obj.cells #[.bool b2, .string n2, .string d2, .int .i64 e2] 60)) _ _ _ Rb_6
  have Rv_7 := heap_of (bal w6 (Obj.cells #[.bool b2, .string n2, .string d2, .int .i64 e2] 60)) _ _ _ Rv_6
  clear B6 Ra_6 ca_6_0 ca_6_1 Rb_6 cb_6_0 cb_6_1 Rv_6 cv_6_0 cv_6_1 cv_6_2 cv_6_3
  obtain ⟨ca_7_0, ca_7_1⟩ := cells2s Ra_7
  obtain ⟨cb_7_0, cb_7_1⟩ := cells2s Rb_7
  obtain ⟨cv_7_0, cv_7_1, cv_7_2, cv_7_3⟩ := cells4s Rv_7
  obtain ⟨cy_7_0, cy_7_1, cy_7_2, cy_7_3⟩ := cells4s Ry_7
  go_wp2_with fail
  refine (KC.out _).mono ?_
  rintro r w8 ⟨rfl, b8⟩
  have B8 : Below w.heap.size w w8 := btr B7 b8
  have Ra_8 := heap_of b8 _ _ _ Ra_7
  have Rb_8 := heap_of b8 _ _ _ Rb_7
  have Rv_8 := heap_of b8 _ _ _ Rv_7
  have Ry_8 := heap_of b8 _ _ _ Ry_7
  clear b8 B7 Ra_7 ca_7_0 ca_7_1 Rb_7 cb_7_0 cb_7_1 Rv_7 cv_7_0 cv_7_1 cv_7_2 cv_7_3 Ry_7 cy_7_0 cy_7_1 cy_7_2 cy_7_3
  obtain ⟨ca_8_0, ca_8_1⟩ := cells2s Ra_8
  obtain ⟨cb_8_0, cb_8_1⟩ := cells2s Rb_8
  obtain ⟨cv_8_0, cv_8_1, cv_8_2, cv_8_3⟩ := cells4s Rv_8
  obtain ⟨cy_8_0, cy_8_1, cy_8_2, cy_8_3⟩ := cells4s Ry_8
  go_wp2
  go_ret
  exact ⟨rfl, B8⟩
end Go.Proofs.YtmndjhcmomejjaaDoor
