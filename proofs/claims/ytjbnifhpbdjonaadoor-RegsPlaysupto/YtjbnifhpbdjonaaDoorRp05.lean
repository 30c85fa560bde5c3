/-
  What the functions that the statement reaches return: part 5 (C3, C4, C5, C6).
-/
import Derived.Laws.AppendOwn
import Derived.OwnWalk
import Derived.Maps.AppendAt
import Derived.Test.YtjbnifhpbdjonaaDoorRp04
namespace Go.Proofs.YtjbnifhpbdjonaaDoor
set_option maxRecDepth 100000
set_option maxHeartbeats 40000000
set_option maxRecDepth 100000
open Go.RowKit WMath
set_option linter.unusedSimpArgs false
set_option linter.unusedVariables false
set_option maxRecDepth 100000 in
set_option maxHeartbeats 4000000 in
theorem r23_Get_n1 (R : Nat → Nat) (f n : Int) (w : World) (KI : Box (∀ w, Calls Tryd.prog 40 #[.int .i64 n] w fun r w' => r = .returned (.bool false) ∧ Below w.heap.size w w')) : Calls Tryd.prog 35 #[.agg (rf R), .int .u8 f, .int .i64 n] w fun r w' => r = .returned (.tuple #[.agg #[.int .u64 0, .int .u64 0], .int .i64 2]) ∧ Below w.heap.size w w' := by
  have hrz := rf_zero
  have hrs : ∀ R, ((rf R).size = 96) = True := fun R => eq_true (rf_size R)
  have hra := rf_at
  obtain ⟨Rx_0, Rz_0, B0⟩ := opn2 w (Obj.cells (rf R) 28) (Obj.cells #[.int .u64 0, .int .u64 0] 25)
  go_enter Tryd.func35, Tryd.ntmps35
  obtain ⟨cz_0_0, cz_0_1⟩ := cells2s Rz_0
  go_wp2_with fail
  refine (KI.out _).mono ?_
  rintro r w1 ⟨rfl, b1⟩
  have B1 : Below w.heap.size w w1 := btr B0 b1
  have Rx_1 := heap_of b1 _ _ _ Rx_0
  have Rz_1 := heap_of b1 _ _ _ Rz_0
  clear b1 B0 Rx_0 Rz_0 cz_0_0 cz_0_1
  obtain ⟨cz_1_0, cz_1_1⟩ := cells2s Rz_1
  have q0 := fz (k := 0) Rz_1
  have q1 := fz (k := 1) Rz_1
  obtain ⟨E0, E1⟩ := set2_cells Rz_1 (.int .u64 0) (.int .u64 0)
  go_wp2
  exact bodyPost_ret (v := .tuple #[.agg #[.int .u64 0, .int .u64 0], .int .i64 2]) (by simp [results, Tryd.results35, go_sem, E0, E1]) rfl ⟨rfl, set2_below B1 (by first | exact Nat.le_refl _ | omega | (skip; omega)) _ _⟩
set_option maxRecDepth 100000 in
set_option maxHeartbeats 4000000 in
theorem r23_Get_n2 (R : Nat → Nat) (f n : Int) (w : World) (KI : Box (∀ w, Calls Tryd.prog 40 #[.int .i64 n] w fun r w' => r = .returned (.bool true) ∧ Below w.heap.size w w')) (KW : Box (∀ w, Calls Tryd.prog 54 #[.int .u8 f] w fun r w' => r = .returned (.int .i64 0) ∧ Below w.heap.size w w')) : Calls Tryd.prog 35 #[.agg (rf R), .int .u8 f, .int .i64 n] w fun r w' => r = .returned (.tuple #[.agg #[.int .u64 0, .int .u64 0], .int .i64 2]) ∧ Below w.heap.size w w' := by
  have hrz := rf_zero
  have hrs : ∀ R, ((rf R).size = 96) = True := fun R => eq_true (rf_size R)
  have hra := rf_at
  obtain ⟨Rx_0, Rz_0, B0⟩ := opn2 w (Obj.cells (rf R) 28) (Obj.cells #[.int .u64 0, .int .u64 0] 25)
  go_enter Tryd.func35, Tryd.ntmps35
  obtain ⟨cz_0_0, cz_0_1⟩ := cells2s Rz_0
  go_wp2_with fail
  refine (KI.out _).mono ?_
  rintro r w1 ⟨rfl, b1⟩
  have B1 : Below w.heap.size w w1 := btr B0 b1
  have Rx_1 := heap_of b1 _ _ _ Rx_0
  have Rz_1 := heap_of b1 _ _ _ Rz_0
  clear b1 B0 Rx_0 Rz_0 cz_0_0 cz_0_1
  obtain ⟨cz_1_0, cz_1_1⟩ := cells2s Rz_1
  go_wp2_with fail
  refine (KW.out _).mono ?_
  rintro r w2 ⟨rfl, b2⟩
  have B2 : Below w.heap.size w w2 := btr B1 b2
  have Rx_2 := heap_of b2 _ _ _ Rx_1
  have Rz_2 := heap_of b2 _ _ _ Rz_1
  clear b2 B1 Rx_1 Rz_1 cz_1_0 cz_1_1
  obtain ⟨cz_2_0, cz_2_1⟩ := cells2s Rz_2
  have q0 := fz (k := 0) Rz_2
  have q1 := fz (k := 1) Rz_2
  obtain ⟨E0, E1⟩ := set2_cells Rz_2 (.int .u64 0) (.int .u64 0)
  go_wp2
  exact bodyPost_ret (v := .tuple #[.agg #[.int .u64 0, .int .u64 0], .int .i64 2]) (by simp [results, Tryd.results35, go_sem, E0, E1]) rfl ⟨rfl, set2_below B2 (by first | exact Nat.le_refl _ | omega | (skip; omega)) _ _⟩
set_option maxRecDepth 100000 in
set_option maxHeartbeats 4000000 in
theorem r23_Get_y (R : Nat → Nat) (f : Int) (k : Nat) (hk : k < 32) (W : Int) (hW : (W == 0) = false) (u v : Nat) (w : World) (KI : Box (∀ w, Calls Tryd.prog 40 #[.int .i64 (k : Nat)] w fun r w' => r = .returned (.bool true) ∧ Below w.heap.size w w')) (KW : Box (∀ w, Calls Tryd.prog 54 #[.int .u8 f] w fun r w' => r = .returned (.int .i64 W) ∧ Below w.heap.size w w')) (KU : Box (∀ w, Calls Tryd.prog 55 #[.int .u8 f, .agg #[.int .u64 (R (32 + k * 2) : Nat), .int .u64 (R (32 + k * 2 + 1) : Nat)]] w fun r w' => r = .returned (.agg #[.int .u64 (u : Nat), .int .u64 (v : Nat)]) ∧ Below w.heap.size w w')) : Calls Tryd.prog 35 #[.agg (rf R), .int .u8 f, .int .i64 (k : Nat)] w fun r w' => r = .returned (.tuple #[.agg #[.int .u64 (u : Nat), .int .u64 (v : Nat)], .int .i64 0]) ∧ Below w.heap.size w w' := by
  have hrz := rf_zero
  have hrs : ∀ R, ((rf R).size = 96) = True := fun R => eq_true (rf_size R)
  have hra := rf_at
  obtain ⟨Rx_0, Rz_0, B0⟩ := opn2 w (Obj.cells (rf R) 28) (Obj.cells #[.int .u64 0, .int .u64 0] 25)
  go_enter Tryd.func35, Tryd.ntmps35
  obtain ⟨cz_0_0, cz_0_1⟩ := cells2s Rz_0
  go_wp2_with fail
  refine (KI.out _).mono ?_
  rintro r w1 ⟨rfl, b1⟩
  have B1 : Below w.heap.size w w1 := btr B0 b1
  have Rx_1 := heap_of b1 _ _ _ Rx_0
  have Rz_1 := heap_of b1 _ _ _ Rz_0
  clear b1 B0 Rx_0 Rz_0 cz_0_0 cz_0_1
  obtain ⟨cz_1_0, cz_1_1⟩ := cells2s Rz_1
  go_wp2_with fail
  refine (KW.out _).mono ?_
  rintro r w2 ⟨rfl, b2⟩
  have B2 : Below w.heap.size w w2 := btr B1 b2
  have Rx_2 := heap_of b2 _ _ _ Rx_1
  have Rz_2 := heap_of b2 _ _ _ Rz_1
  clear b2 B1 Rx_1 Rz_1 cz_1_0 cz_1_1
  obtain ⟨cz_2_0, cz_2_1⟩ := cells2s Rz_2
  have cx := rf_cell Rx_2 (32 + k * 2) (by omega)
  have cx2 := rf_cell Rx_2 (32 + k * 2 + 1) (by omega)
  go_wp2_with fail
  refine (KU.out _).mono ?_
  rintro r w3 ⟨rfl, b3⟩
  have B3 : Below w.heap.size w w3 := btr B2 b3
  have Rx_3 := heap_of b3 _ _ _ Rx_2
  have Rz_3 := heap_of b3 _ _ _ Rz_2
  clear b3 B2 Rx_2 Rz_2 cz_2_0 cz_2_1
  obtain ⟨cz_3_0, cz_3_1⟩ := cells2s Rz_3
  have q0 := fz (k := 0) Rz_3
  have q1 := fz (k := 1) Rz_3
  obtain ⟨E0, E1⟩ := set2_cells Rz_3 (.int .u64 (u : Nat)) (.int .u64 (v : Nat))
  go_wp2
  exact bodyPost_ret (v := .tuple #[.agg #[.int .u64 (u : Nat), .int .u64 (v : Nat)], .int .i64 0]) (by simp [results, Tryd.results35, go_sem, E0, E1]) rfl ⟨rfl, set2_below B3 (by first | exact Nat.le_refl _ | omega | (skip; omega)) _ _⟩
set_option maxRecDepth 100000 in
set_option maxHeartbeats 4000000 in
theorem r23_Low_n1 (R : Nat → Nat) (f n : Int) (w : World) (KI : Box (∀ w, Calls Tryd.prog 40 #[.int .i64 n] w fun r w' => r = .returned (.bool false) ∧ Below w.heap.size w w')) : Calls Tryd.prog 36 #[.agg (rf R), .int .u8 f, .int .i64 n] w fun r w' => r = .returned (.tuple #[.agg #[.int .u64 0, .int .u64 0], .int .i64 2]) ∧ Below w.heap.size w w' := by
  have hrz := rf_zero
  have hrs : ∀ R, ((rf R).size = 96) = True := fun R => eq_true (rf_size R)
  have hra := rf_at
  obtain ⟨Rx_0, Rz_0, B0⟩ := opn2 w (Obj.cells (rf R) 28) (Obj.cells #[.int .u64 0, .int .u64 0] 25)
  go_enter Tryd.func36, Tryd.ntmps36
  obtain ⟨cz_0_0, cz_0_1⟩ := cells2s Rz_0
  go_wp2_with fail
  refine (KI.out _).mono ?_
  rintro r w1 ⟨rfl, b1⟩
  have B1 : Below w.heap.size w w1 := btr B0 b1
  have Rx_1 := heap_of b1 _ _ _ Rx_0
  have Rz_1 := heap_of b1 _ _ _ Rz_0
  clear b1 B0 Rx_0 Rz_0 cz_0_0 cz_0_1
  obtain ⟨cz_1_0, cz_1_1⟩ := cells2s Rz_1
  have q0 := fz (k := 0) Rz_1
  have q1 := fz (k := 1) Rz_1
  obtain ⟨E0, E1⟩ := set2_cells Rz_1 (.int .u64 0) (.int .u64 0)
  go_wp2
  exact bodyPost_ret (v := .tuple #[.agg #[.int .u64 0, .int .u64 0], .int .i64 2]) (by simp [results, Tryd.results36, go_sem, E0, E1]) rfl ⟨rfl, set2_below B1 (by first | exact Nat.le_refl _ | omega | (skip; omega)) _ _⟩
set_option maxRecDepth 100000 in
set_option maxHeartbeats 4000000 in
theorem r23_Low_n2 (R : Nat → Nat) (f n : Int) (w : World) (KI : Box (∀ w, Calls Tryd.prog 40 #[.int .i64 n] w fun r w' => r = .returned (.bool true) ∧ Below w.heap.size w w')) (KW : Box (∀ w, Calls Tryd.prog 54 #[.int .u8 f] w fun r w' => r = .returned (.int .i64 0) ∧ Below w.heap.size w w')) : Calls Tryd.prog 36 #[.agg (rf R), .int .u8 f, .int .i64 n] w fun r w' => r = .returned (.tuple #[.agg #[.int .u64 0, .int .u64 0], .int .i64 2]) ∧ Below w.heap.size w w' := by
  have hrz := rf_zero
  have hrs : ∀ R, ((rf R).size = 96) = True := fun R => eq_true (rf_size R)
  have hra := rf_at
  obtain ⟨Rx_0, Rz_0, B0⟩ := opn2 w (Obj.cells (rf R) 28) (Obj.cells #[.int .u64 0, .int .u64 0] 25)
  go_enter Tryd.func36, Tryd.ntmps36
  obtain ⟨cz_0_0, cz_0_1⟩ := cells2s Rz_0
  go_wp2_with fail
  refine (KI.out _).mono ?_
  rintro r w1 ⟨rfl, b1⟩
  have B1 : Below w.heap.size w w1 := btr B0 b1
  have Rx_1 := heap_of b1 _ _ _ Rx_0
  have Rz_1 := heap_of b1 _ _ _ Rz_0
  clear b1 B0 Rx_0 Rz_0 cz_0_0 cz_0_1
  obtain ⟨cz_1_0, cz_1_1⟩ := cells2s Rz_1
  go_wp2_with fail
  refine (KW.out _).mono ?_
  rintro r w2 ⟨rfl, b2⟩
  have B2 : Below w.heap.size w w2 := btr B1 b2
  have Rx_2 := heap_of b2 _ _ _ Rx_1
  have Rz_2 := heap_of b2 _ _ _ Rz_1
  clear b2 B1 Rx_1 Rz_1 cz_1_0 cz_1_1
  obtain ⟨cz_2_0, cz_2_1⟩ := cells2s Rz_2
  have q0 := fz (k := 0) Rz_2
  have q1 := fz (k := 1) Rz_2
  obtain ⟨E0, E1⟩ := set2_cells Rz_2 (.int .u64 0) (.int .u64 0)
  go_wp2
  exact bodyPost_ret (v := .tuple #[.agg #[.int .u64 0, .int .u64 0], .int .i64 2]) (by simp [results, Tryd.results36, go_sem, E0, E1]) rfl ⟨rfl, set2_below B2 (by first | exact Nat.le_refl _ | omega | (skip; omega)) _ _⟩
set_option maxRecDepth 100000 in
set_option maxHeartbeats 4000000 in
theorem r23_Low_y (R : Nat → Nat) (f : Int) (k : Nat) (hk : k < 32) (W : Int) (hW : (W == 0) = false) (u v : Nat) (w : World) (KI : Box (∀ w, Calls Tryd.prog 40 #[.int .i64 (k : Nat)] w fun r w' => r = .returned (.bool true) ∧ Below w.heap.size w w')) (KW : Box (∀ w, Calls Tryd.prog 54 #[.int .u8 f] w fun r w' => r = .returned (.int .i64 W) ∧ Below w.heap.size w w')) (KU : Box (∀ w, Calls Tryd.prog 56 #[.int .u8 f, .agg #[.int .u64 (R (32 + k * 2) : Nat), .int .u64 (R (32 + k * 2 + 1) : Nat)]] w fun r w' => r = .returned (.agg #[.int .u64 (u : Nat), .int .u64 (v : Nat)]) ∧ Below w.heap.size w w')) : Calls Tryd.prog 36 #[.agg (rf R), .int .u8 f, .int .i64 (k : Nat)] w fun r w' => r = .returned (.tuple #[.agg #[.int .u64 (u : Nat), .int .u64 (v : Nat)], .int .i64 0]) ∧ Below w.heap.size w w' := by
  have hrz := rf_zero
  have hrs : ∀ R, ((rf R).size = 96) = True := fun R => eq_true (rf_size R)
  have hra := rf_at
  obtain ⟨Rx_0, Rz_0, B0⟩ := opn2 w (Obj.cells (rf R) 28) (Obj.cells #[.int .u64 0, .int .u64 0] 25)
  go_enter Tryd.func36, Tryd.ntmps36
  obtain ⟨cz_0_0, cz_0_1⟩ := cells2s Rz_0
  go_wp2_with fail
  refine (KI.out _).mono ?_
  rintro r w1 ⟨rfl, b1⟩
  have B1 : Below w.heap.size w w1 := btr B0 b1
  have Rx_1 := heap_of b1 _ _ _ Rx_0
  have Rz_1 := heap_of b1 _ _ _ Rz_0
  clear b1 B0 Rx_0 Rz_0 cz_0_0 cz_0_1
  obtain ⟨cz_1_0, cz_1_1⟩ := cells2s Rz_1
  go_wp2_with fail
  refine (KW.out _).mono ?_
  rintro r w2 ⟨rfl, b2⟩
  have B2 : Below w.heap.size w w2 := btr B1 b2
  have Rx_2 := heap_of b2 _ _ _ Rx_1
  have Rz_2 := heap_of b2 _ _ _ Rz_1
  clear b2 B1 Rx_1 Rz_1 cz_1_0 cz_1_1
  obtain ⟨cz_2_0, cz_2_1⟩ := cells2s Rz_2
  have cx := rf_cell Rx_2 (32 + k * 2) (by omega)
  have cx2 := rf_cell Rx_2 (32 + k * 2 + 1) (by omega)
  go_wp2_with fail
  refine (KU.out _).mono ?_
  rintro r w3 ⟨rfl, b3⟩
  have B3 : Below w.heap.size w w3 := btr B2 b3
  have Rx_3 := heap_of b3 _ _ _ Rx_2
  have Rz_3 := heap_of b3 _ _ _ Rz_2
  clear b3 B2 Rx_2 Rz_2 cz_2_0 cz_2_1
  obtain ⟨cz_3_0, cz_3_1⟩ := cells2s Rz_3
  have q0 := fz (k := 0) Rz_3
  have q1 := fz (k := 1) Rz_3
  obtain ⟨E0, E1⟩ := set2_cells Rz_3 (.int .u64 (u : Nat)) (.int .u64 (v : Nat))
  go_wp2
  exact bodyPost_ret (v := .tuple #[.agg #[.int .u64 (u : Nat), .int .u64 (v : Nat)], .int .i64 0]) (by simp [results, Tryd.results36, go_sem, E0, E1]) rfl ⟨rfl, set2_below B3 (by first | exact Nat.le_refl _ | omega | (skip; omega)) _ _⟩
set_option maxRecDepth 100000 in
set_option maxHeartbeats 4000000 in
theorem r23_Put_n1 (R : Nat → Nat) (f n : Int) (x1 y1 : Nat) (w : World) (KI : Box (∀ w, Calls Tryd.prog 40 #[.int .i64 n] w fun r w' => r = .returned (.bool false) ∧ Below w.heap.size w w')) : Calls Tryd.prog 32 #[.agg (rf R), .int .u8 f, .int .i64 n, .agg #[.int .u64 (x1 : Nat), .int .u64 (y1 : Nat)]] w fun r w' => r = .returned (.tuple #[.agg (rf R), .int .i64 2]) ∧ Below w.heap.size w w' := by
  have hrz := rf_zero
  have hrs : ∀ R, ((rf R).size = 96) = True := fun R => eq_true (rf_size R)
  have hra := rf_at
  obtain ⟨Rx_0, Rb_0, Rz_0, B0⟩ := opn3 w (Obj.cells (rf R) 28) (Obj.cells #[.int .u64 (x1 : Nat), .int .u64 (y1 : Nat)] 25) (Obj.cells (rf fun _ => 0) 28)
  go_enter Tryd.func32, Tryd.ntmps32
  go_wp2_with fail
  refine (KI.out _).mono ?_
  rintro r w1 ⟨rfl, b1⟩
  have B1 : Below w.heap.size w w1 := btr B0 b1
  have Rx_1 := heap_of b1 _ _ _ Rx_0
  have Rb_1 := heap_of b1 _ _ _ Rb_0
  have Rz_1 := heap_of b1 _ _ _ Rz_0
  clear b1 B0 Rx_0 Rb_0 Rz_0
  have hst := rf_store (R := R) Rz_1
  go_wp2_with (first | ((with_reducible (refine wpl_rf rfl _ rfl ?_ Rx_1 ?_)); rfl) | ((with_reducible (refine wp_rf _ rfl ?_ Rx_1 ?_)); rfl))
  exact bodyPost_ret (v := .tuple #[.agg (rf R), .int .i64 2]) (res_rf2 Tryd.results32 (T := 28) rfl (setRow_row Rz_1)) rfl ⟨rfl, Below.setRow B1 (show w.heap.size ≤ w.heap.size + 1 + 1 by first | exact Nat.le_refl _ | omega | (skip; omega))⟩
set_option maxRecDepth 100000 in
set_option maxHeartbeats 4000000 in
theorem r23_Put_n2 (R : Nat → Nat) (f n : Int) (x1 y1 : Nat) (w : World) (KI : Box (∀ w, Calls Tryd.prog 40 #[.int .i64 n] w fun r w' => r = .returned (.bool true) ∧ Below w.heap.size w w')) (KF : Box (∀ w, Calls Tryd.prog 52 #[.int .u8 f, .agg #[.int .u64 (x1 : Nat), .int .u64 (y1 : Nat)]] w fun r w' => r = .returned (.bool false) ∧ Below w.heap.size w w')) : Calls Tryd.prog 32 #[.agg (rf R), .int .u8 f, .int .i64 n, .agg #[.int .u64 (x1 : Nat), .int .u64 (y1 : Nat)]] w fun r w' => r = .returned (.tuple #[.agg (rf R), .int .i64 2]) ∧ Below w.heap.size w w' := by
  have hrz := rf_zero
  have hrs : ∀ R, ((rf R).size = 96) = True := fun R => eq_true (rf_size R)
  have hra := rf_at
  obtain ⟨Rx_0, Rb_0, Rz_0, B0⟩ := opn3 w (Obj.cells (rf R) 28) (Obj.cells #[.int .u64 (x1 : Nat), .int .u64 (y1 : Nat)] 25) (Obj.cells (rf fun _ => 0) 28)
  go_enter Tryd.func32, Tryd.ntmps32
  obtain ⟨cb_0_0, cb_0_1⟩ := cells2s Rb_0
  go_wp2_with fail
  refine (KI.out _).mono ?_
  rintro r w1 ⟨rfl, b1⟩
  have B1 : Below w.heap.size w w1 := btr B0 b1
  have Rx_1 := heap_of b1 _ _ _ Rx_0
  have Rb_1 := heap_of b1 _ _ _ Rb_0
  have Rz_1 := heap_of b1 _ _ _ Rz_0
  clear b1 B0 Rx_0 Rb_0 cb_0_0 cb_0_1 Rz_0
  obtain ⟨cb_1_0, cb_1_1⟩ := cells2s Rb_1
  go_wp2_with fail
  refine (KF.out _).mono ?_
  rintro r w2 ⟨rfl, b2⟩
  have B2 : Below w.heap.size w w2 := btr B1 b2
  have Rx_2 := heap_of b2 _ _ _ Rx_1
  have Rb_2 := heap_of b2 _ _ _ Rb_1
  have Rz_2 := heap_of b2 _ _ _ Rz_1
  clear b2 B1 Rx_1 Rb_1 cb_1_0 cb_1_1 Rz_1
  obtain ⟨cb_2_0, cb_2_1⟩ := cells2s Rb_2
  have hst := rf_store (R := R) Rz_2
  go_wp2_with (first | ((with_reducible (refine wpl_rf rfl _ rfl ?_ Rx_2 ?_)); rfl) | ((with_reducible (refine wp_rf _ rfl ?_ Rx_2 ?_)); rfl))
  exact bodyPost_ret (v := .tuple #[.agg (rf R), .int .i64 2]) (res_rf2 Tryd.results32 (T := 28) rfl (setRow_row Rz_2)) rfl ⟨rfl, Below.setRow B2 (show w.heap.size ≤ w.heap.size + 1 + 1 by first | exact Nat.le_refl _ | omega | (skip; omega))⟩
set_option maxRecDepth 100000 in
set_option maxHeartbeats 4000000 in
theorem r23_Put_y (R : Nat → Nat) (f : Int) (n : Nat) (hn : n < 32) (x1 y1 u v : Nat) (w : World) (KI : Box (∀ w, Calls Tryd.prog 40 #[.int .i64 (n : Nat)] w fun r w' => r = .returned (.bool true) ∧ Below w.heap.size w w')) (KF : Box (∀ w, Calls Tryd.prog 52 #[.int .u8 f, .agg #[.int .u64 (x1 : Nat), .int .u64 (y1 : Nat)]] w fun r w' => r = .returned (.bool true) ∧ Below w.heap.size w w')) (KB : Box (∀ w, Calls Tryd.prog 53 #[.int .u8 f, .agg #[.int .u64 (x1 : Nat), .int .u64 (y1 : Nat)]] w fun r w' => r = .returned (.agg #[.int .u64 (u : Nat), .int .u64 (v : Nat)]) ∧ Below w.heap.size w w')) : Calls Tryd.prog 32 #[.agg (rf R), .int .u8 f, .int .i64 (n : Nat), .agg #[.int .u64 (x1 : Nat), .int .u64 (y1 : Nat)]] w fun r w' => r = .returned (.tuple #[.agg (rf (up (up R (32 + n * 2) u) (32 + n * 2 + 1) v)), .int .i64 0]) ∧ Below w.heap.size w w' := by
  have hrz := rf_zero
  have hrs : ∀ R, ((rf R).size = 96) = True := fun R => eq_true (rf_size R)
  have hra := rf_at
  obtain ⟨Rx_0, Rb_0, Rz_0, B0⟩ := opn3 w (Obj.cells (rf R) 28) (Obj.cells #[.int .u64 (x1 : Nat), .int .u64 (y1 : Nat)] 25) (Obj.cells (rf fun _ => 0) 28)
  go_enter Tryd.func32, Tryd.ntmps32
  obtain ⟨cb_0_0, cb_0_1⟩ := cells2s Rb_0
  go_wp2_with fail
  refine (KI.out _).mono ?_
  rintro r w1 ⟨rfl, b1⟩
  have B1 : Below w.heap.size w w1 := btr B0 b1
  have Rx_1 := heap_of b1 _ _ _ Rx_0
  have Rb_1 := heap_of b1 _ _ _ Rb_0
  have Rz_1 := heap_of b1 _ _ _ Rz_0
  clear b1 B0 Rx_0 Rb_0 cb_0_0 cb_0_1 Rz_0
  obtain ⟨cb_1_0, cb_1_1⟩ := cells2s Rb_1
  go_wp2_with fail
  refine (KF.out _).mono ?_
  rintro r w2 ⟨rfl, b2⟩
  have B2 : Below w.heap.size w w2 := btr B1 b2
  have Rx_2 := heap_of b2 _ _ _ Rx_1
  have Rb_2 := heap_of b2 _ _ _ Rb_1
  have Rz_2 := heap_of b2 _ _ _ Rz_1
  clear b2 B1 Rx_1 Rb_1 cb_1_0 cb_1_1 Rz_1
  obtain ⟨cb_2_0, cb_2_1⟩ := cells2s Rb_2
  go_wp2_with fail
  refine (KB.out _).mono ?_
  rintro r w3 ⟨rfl, b3⟩
  have B3 : Below w.heap.size w w3 := btr B2 b3
  have Rx_3 := heap_of b3 _ _ _ Rx_2
  have Rb_3 := heap_of b3 _ _ _ Rb_2
  have Rz_3 := heap_of b3 _ _ _ Rz_2
  clear b3 B2 Rx_2 Rb_2 cb_2_0 cb_2_1 Rz_2
  obtain ⟨cb_3_0, cb_3_1⟩ := cells2s Rb_3
  have q0_4 := fz (k := 32 + n * 2) Rx_3
  have c0_4 := rf_cell Rx_3 (32 + n * 2) (by omega)
  have Rm_4 : (w3.setCell ⟨w.heap.size, 32 + n * 2, none⟩ (.int .u64 (u : Nat))).heap[w.heap.size]? = some (Obj.cells (rf (up R (32 + n * 2) u)) 28) := by rw [setCell_row Rx_3, rf_set _ _ _ (by omega)]
  have q1_4 := fz (k := 32 + n * 2 + 1) Rm_4
  have c1_4 := rf_cell Rm_4 (32 + n * 2 + 1) (by omega)
  have B4 : Below w.heap.size w ((w3.setCell ⟨w.heap.size, 32 + n * 2, none⟩ (.int .u64 (u : Nat))).setCell ⟨w.heap.size, 32 + n * 2 + 1, none⟩ (.int .u64 (v : Nat))) := (B3.setCell (by first | exact Nat.le_refl _ | (skip; show w.heap.size ≤ w.heap.size; omega)) _).setCell (by first | exact Nat.le_refl _ | (skip; show w.heap.size ≤ w.heap.size; omega)) _
  have Rx_4 : ((w3.setCell ⟨w.heap.size, 32 + n * 2, none⟩ (.int .u64 (u : Nat))).setCell ⟨w.heap.size, 32 + n * 2 + 1, none⟩ (.int .u64 (v : Nat))).heap[w.heap.size]? = some (Obj.cells (rf (up (up R (32 + n * 2) u) (32 + n * 2 + 1) v)) 28) := by rw [setCell_row Rm_4, rf_set _ _ _ (by omega)]
  have Rb_4 : ((w3.setCell ⟨w.heap.size, 32 + n * 2, none⟩ (.int .u64 (u : Nat))).setCell ⟨w.heap.size, 32 + n * 2 + 1, none⟩ (.int .u64 (v : Nat))).heap[w.heap.size + 1]? = some (Obj.cells #[.int .u64 (x1 : Nat), .int .u64 (y1 : Nat)] 25) := (setCell_other (by first | omega | (skip; omega))).trans ((setCell_other (by first | omega | (skip; omega))).trans Rb_3)
  have Rz_4 : ((w3.setCell ⟨w.heap.size, 32 + n * 2, none⟩ (.int .u64 (u : Nat))).setCell ⟨w.heap.size, 32 + n * 2 + 1, none⟩ (.int .u64 (v : Nat))).heap[w.heap.size + 1 + 1]? = some (Obj.cells (rf fun _ => 0) 28) := (setCell_other (by first | omega | (skip; omega))).trans ((setCell_other (by first | omega | (skip; omega))).trans Rz_3)
  obtain ⟨cb_4_0, cb_4_1⟩ := cells2s Rb_4
  have hst := rf_store (R := (up (up R (32 + n * 2) u) (32 + n * 2 + 1) v)) Rz_4
  go_wp2_with (first | ((with_reducible (refine wpl_rf rfl _ rfl ?_ Rx_4 ?_)); rfl) | ((with_reducible (refine wp_rf _ rfl ?_ Rx_4 ?_)); rfl))
  exact bodyPost_ret (v := .tuple #[.agg (rf (up (up R (32 + n * 2) u) (32 + n * 2 + 1) v)), .int .i64 0]) (res_rf2 Tryd.results32 (T := 28) rfl (setRow_row Rz_4)) rfl ⟨rfl, Below.setRow B4 (show w.heap.size ≤ w.heap.size + 1 + 1 by first | exact Nat.le_refl _ | omega | (skip; omega))⟩
end Go.Proofs.YtjbnifhpbdjonaaDoor
namespace Go.Proofs.YtjbnifhpbdjonaaDoor
set_option maxRecDepth 100000
set_option maxHeartbeats 40000000
set_option maxRecDepth 100000
open Go.RowKit WMath
set_option linter.unusedSimpArgs false
set_option linter.unusedVariables false
structure Chg where
  fl : Bool
  n : Int
  wd : Nat
  hi : Nat
  lo : Nat
def chC (c : Chg) : List Value := [.bool c.fl, .int .i64 c.n, .int .u64 (c.wd : Nat), .int .u64 (c.hi : Nat), .int .u64 (c.lo : Nat)]
def chsC (l : List Chg) : List Value := l.flatMap chC
theorem chsC_len (l : List Chg) : (chsC l).length = l.length * 5 := by
  induction l with
  | nil => rfl
  | cons a t ih => simp only [chsC, List.flatMap_cons, List.length_append, List.length_cons] at *; rw [ih]; simp [chC]; omega
theorem len_one {α : Type} (l : List α) (x : α) : (l ++ [x]).length = l.length + 1 := by simp
theorem chsC_app (l m : List Chg) : chsC (l ++ m) = chsC l ++ chsC m := by simp [chsC]
def cxK (R S : Nat → Nat) : Nat → List Chg
  | 0 => []
  | k + 1 => cxK R S k ++ (if R k = S k then [] else [⟨false, (k : Int), S k, 0, 0⟩])
def cfK (R S : Nat → Nat) : Nat → List Chg
  | 0 => []
  | k + 1 => cfK R S k ++ (if R (32 + k * 2) = S (32 + k * 2) ∧ R (32 + k * 2 + 1) = S (32 + k * 2 + 1) then [] else [⟨true, (k : Int), 0, S (32 + k * 2), S (32 + k * 2 + 1)⟩])
theorem cxK_len (R S : Nat → Nat) : ∀ k, (cxK R S k).length ≤ k
  | 0 => Nat.le_refl _
  | k + 1 => by
    have := cxK_len R S k
    simp only [cxK, List.length_append]
    split <;> simp <;> omega
theorem cfK_len (R S : Nat → Nat) : ∀ k, (cfK R S k).length ≤ k
  | 0 => Nat.le_refl _
  | k + 1 => by
    have := cfK_len R S k
    simp only [cfK, List.length_append]
    split <;> simp <;> omega
def chgs (R S : Nat → Nat) : List Chg := cxK R S 32 ++ cfK R S 32
theorem new_cells (w : World) (l : List Value) (T : TypeId) : ∀ j u, l[j]? = some u → (w.alloc (.cells l.toArray T)).cell? ((⟨w.heap.size, 0, none⟩ : Addr).add j) = some u := fun j u h => by
  have hadd : (⟨w.heap.size, 0, none⟩ : Addr).add j = ⟨w.heap.size, j, none⟩ := by unfold Addr.add; split <;> simp_all
  rw [hadd]
  exact cell7 (last7 _ _) j u (by simpa using h)
set_option maxRecDepth 100000 in
set_option maxHeartbeats 4000000 in
theorem r23_changed (R S : Nat → Nat) (w : World) : Calls Tryd.prog 15 #[.agg (rf R), .agg (rf S)] w fun r w' => ∃ v, r = .returned v ∧ w'.ownsRow (w.heap.size + 2) 50 5 v (chgs R S).length (chsC (chgs R S)) ∧ Below w.heap.size w w' := by
  obtain ⟨i0, hi, hz0, hz1, hz2⟩ := info_parts (show (Tryd.prog.info? 50).map (fun i => (i.zero, i.size, i.bytes)) = some (some (.agg #[.bool false, .int .i64 0, .int .u64 0, .int .u64 0, .int .u64 0]), 5, 40) by kernel_rfl)
  have hrz := rf_zero
  have hrs : ∀ R, ((rf R).size = 96) = True := fun R => eq_true (rf_size R)
  have hra := rf_at
  obtain ⟨Rx_0, Ry_0, B0⟩ := opn2 w (Obj.cells (rf R) 28) (Obj.cells (rf S) 28)
  go_enter Tryd.func15, Tryd.ntmps15
  go_wp2
  go_loopw [5, 6] (fun v i wr => ∃ (k : Nat) (ao : Option Addr) (cv : Nat), k ≤ 32 ∧ i = .int .i64 (k : Int) ∧ v = .slice ao (cxK R S k).length cv ∧ wr.ownsRow (w.heap.size + 2) 50 5 v (cxK R S k).length (chsC (cxK R S k)) ∧ Below w.heap.size w wr ∧ wr.heap[w.heap.size]? = some (.cells (rf R) 28) ∧ wr.heap[w.heap.size + 1]? = some (.cells (rf S) 28))
    (fun _ i _ => 32 - (intOf i).toNat)
  case atStart => exact ⟨0, none, 0, Nat.zero_le _, rfl, rfl, World.ownsRow_nil _ _ _ _, B0, Rx_0, Ry_0⟩
  case round =>
    obtain ⟨k, ao, cv, hk, rfl, rfl, hown, hB, hR, hS⟩ := hrel
    by_cases hlt : k < 32
    · have dl : decide ((k : Int) < 32) = true := decide_eq_true (by omega)
      have hw1 : IntKind.i64.wrap ((k : Int) + 1) = ((k + 1 : Nat) : Int) := by rw [IntKind.wrap_i64]; omega
      have hpl := cxK_len R S k
      have c1 := rf_cell hR k (by omega)
      have c2 := rf_cell hS k (by omega)
      by_cases q : R k = S k
      · have d : (((R k : Nat) : Int) != ((S k : Nat) : Int)) = false := by rw [q]; simp
        have hpk : cxK R S (k + 1) = cxK R S k := by show cxK R S k ++ _ = _; rw [if_pos q, List.append_nil]
        clear q
        go_wp2_with fail
        go_quiet (fail)
        obtain ⟨w1, hw, B1, hh⟩ := quiet_world hB nq
        rw [hw]
        have hR1 : w1.heap[w.heap.size]? = some (.cells (rf R) 28) := by rw [hh]; exact hR
        have hS1 : w1.heap[w.heap.size + 1]? = some (.cells (rf S) 28) := by rw [hh]; exact hS
        have ho1 : w1.ownsRow (w.heap.size + 2) 50 5 (.slice ao (cxK R S k).length cv) (cxK R S k).length (chsC (cxK R S k)) := by
          refine ⟨hown.1, ?_⟩
          rcases hown.2 with q | ⟨g, cap, cur, h1, h2, h3, h4⟩
          · exact Or.inl q
          · exact Or.inr ⟨g, cap, cur, h1, h2, by rw [hh]; exact h3, h4⟩
        clear hw hh hB hR hS hown
        go_wp2
        go_roundw
        case rel => exact ⟨k + 1, ao, cv, by omega, by first | rfl | simp, by rw [hpk], by rw [hpk]; exact ho1, B1, hR1, hS1⟩
        case measure => simp [intOf]; omega
      · have d : (((R k : Nat) : Int) != ((S k : Nat) : Int)) = true := by simp; omega
        have hpk : cxK R S (k + 1) = cxK R S k ++ [⟨false, (k : Int), S k, 0, 0⟩] := by show cxK R S k ++ _ = _; rw [if_neg q]
        clear q
        go_wp2_with fail
        go_quiet (fail)
        obtain ⟨w1, hw, B1, hh⟩ := quiet_world hB nq
        rw [hw]
        have hR1 : w1.heap[w.heap.size]? = some (.cells (rf R) 28) := by rw [hh]; exact hR
        have hS1 : w1.heap[w.heap.size + 1]? = some (.cells (rf S) 28) := by rw [hh]; exact hS
        have ho1 : w1.ownsRow (w.heap.size + 2) 50 5 (.slice ao (cxK R S k).length cv) (cxK R S k).length (chsC (cxK R S k)) := by
          refine ⟨hown.1, ?_⟩
          rcases hown.2 with q | ⟨g, cap, cur, h1, h2, h3, h4⟩
          · exact Or.inl q
          · exact Or.inr ⟨g, cap, cur, h1, h2, by rw [hh]; exact h3, h4⟩
        clear hw hh hB hR hS hown
        have c1 := rf_cell hR1 k (by omega)
        have c2 := rf_cell hS1 k (by omega)
        have hs1 := B1.size
        go_wp2_with (first
          | (at_builtin; refine wpList_append_own _ rfl _ _ 37 rfl (w.heap.size + 2) 50 i0 (.agg #[.bool false, .int .i64 0, .int .u64 0, .int .u64 0, .int .u64 0]) 5 40 Tryd.underlying37 hi hz0 hz1 hz2 rfl (by decide) _ _ _ rfl (ho1.alloc _) ⟨w1.heap.size, 0, none⟩ 1 1 (chC ⟨false, (k : Int), S k, 0, 0⟩) rfl rfl (new_cells _ (chC ⟨false, (k : Int), S k, 0, 0⟩) _) (fun x hx => by simp [chC] at hx; rcases hx with rfl | rfl | rfl | rfl | rfl <;> rfl) (by unfold maxLen; omega) (by omega) (by simp only [size_al]; have := (Array.getElem?_eq_some_iff.1 hS1).1; omega) ?_; intro v' w3 hown' hgrow3 hnil3))
        go_roundw
        case rel =>
          obtain ⟨g3, cap3, hv3⟩ : ∃ g3 cap3, v' = .slice (some ⟨g3, 0, none⟩) ((cxK R S k).length + 1) cap3 := by
            rcases hown'.2 with ⟨_, h⟩ | ⟨g3, cap3, _, h, _⟩
            · omega
            · exact ⟨g3, cap3, h⟩
          have row : ∀ (b : Nat) (c : Array Value) (T : TypeId), b < w.heap.size + 2 → w1.heap[b]? = some (.cells c T) → w3.heap[b]? = some (.cells c T) := by
            intro b c T hb hc
            have l1 := (Array.getElem?_eq_some_iff.1 hc).1
            rw [hgrow3.block b (by simp only [size_al]; omega) (fun z => by have := (ho1.lt b z.symm).1; omega)]
            exact heap_of (bal w1 _) _ _ _ hc
          have RR : k + 1 ≤ 32 ∧ Value.int .i64 ((k : Int) + 1) = .int .i64 ((k + 1 : Nat) : Int) ∧ v' = .slice (some ⟨g3, 0, none⟩) (cxK R S (k + 1)).length cap3 ∧ w3.ownsRow (w.heap.size + 2) 50 5 v' (cxK R S (k + 1)).length (chsC (cxK R S (k + 1))) ∧ Below w.heap.size w w3 ∧ w3.heap[w.heap.size]? = some (.cells (rf R) 28) ∧ w3.heap[w.heap.size + 1]? = some (.cells (rf S) 28) :=
            ⟨by omega, by first | rfl | simp, by rw [hv3, hpk, len_one], by rw [hpk, chsC_app, len_one, show chsC [⟨false, (k : Int), S k, 0, 0⟩] = chC ⟨false, (k : Int), S k, 0, 0⟩ from by simp [chsC]]; exact hown', (B1.alloc hs1 _).grown hgrow3 (by simp only [size_al]; omega) (fun q hq => by have := (ho1.lt q hq).1; omega), row _ _ _ (by omega) hR1, row _ _ _ (by omega) hS1⟩
          first
            | exact ⟨k + 1, some ⟨g3, 0, none⟩, cap3, RR⟩
            | ((repeat apply Exists.intro); exact ⟨⟨k + 1, some ⟨g3, 0, none⟩, cap3, RR⟩, rfl⟩)
        case measure => simp [intOf]; omega

    · have k32 : k = 32 := by omega
      subst k32
      clear hlt hk Rx_0 Ry_0 B0
      go_wp2
      obtain ⟨wq, rfl⟩ : ∃ wq, wq = wr := ⟨_, rfl⟩
      have hBq := hB
      have hRq := hR
      have hSq := hS
      clear hB hR hS
      go_loopw [5, 7] (fun v i wr => ∃ (k : Nat) (ao : Option Addr) (cv : Nat), k ≤ 32 ∧ i = .int .i64 (k : Int) ∧ v = .slice ao (cxK R S 32 ++ cfK R S k).length cv ∧ wr.ownsRow (w.heap.size + 2) 50 5 v (cxK R S 32 ++ cfK R S k).length (chsC (cxK R S 32 ++ cfK R S k)) ∧ Below w.heap.size w wr ∧ wr.heap[w.heap.size]? = some (.cells (rf R) 28) ∧ wr.heap[w.heap.size + 1]? = some (.cells (rf S) 28))
        (fun _ i _ => 32 - (intOf i).toNat)
      case atStart => exact ⟨0, ao, cv, Nat.zero_le _, rfl, by simp [cfK], by simpa [cfK] using hown, hBq, hRq, hSq⟩
      case round =>
        obtain ⟨k, ao, cv, hk, rfl, rfl, hown, hB, hR, hS⟩ := hrel
        by_cases hlt : k < 32
        · have dl : decide ((k : Int) < 32) = true := decide_eq_true (by omega)
          have hw1 : IntKind.i64.wrap ((k : Int) + 1) = ((k + 1 : Nat) : Int) := by rw [IntKind.wrap_i64]; omega
          have hpl := cfK_len R S k
          have hpl2 := cxK_len R S 32
          have hpl3 : (cxK R S 32 ++ cfK R S k).length ≤ 64 := by rw [List.length_append]; omega
          have heq := eqb
          have c1 := rf_cell hR (32 + k * 2) (by omega)
          have c2 := rf_cell hS (32 + k * 2) (by omega)
          have c3 := rf_cell hR (32 + k * 2 + 1) (by omega)
          have c4 := rf_cell hS (32 + k * 2 + 1) (by omega)
          by_cases q : R (32 + k * 2) = S (32 + k * 2) ∧ R (32 + k * 2 + 1) = S (32 + k * 2 + 1)
          · have d : ebb ((R (32 + k * 2) : Nat) : Int) ((R (32 + k * 2 + 1) : Nat) : Int) ((S (32 + k * 2) : Nat) : Int) ((S (32 + k * 2 + 1) : Nat) : Int) = true := by rw [q.1, q.2]; simp [ebb]
            have hpk : cxK R S 32 ++ cfK R S (k + 1) = cxK R S 32 ++ cfK R S k := by show cxK R S 32 ++ (cfK R S k ++ _) = _; rw [if_pos q, List.append_nil]
            clear q
            go_wp2_with fail
            go_quiet (fail)
            obtain ⟨w1, hw, B1, hh⟩ := quiet_world hB nq
            rw [hw]
            have hR1 : w1.heap[w.heap.size]? = some (.cells (rf R) 28) := by rw [hh]; exact hR
            have hS1 : w1.heap[w.heap.size + 1]? = some (.cells (rf S) 28) := by rw [hh]; exact hS
            have ho1 : w1.ownsRow (w.heap.size + 2) 50 5 (.slice ao (cxK R S 32 ++ cfK R S k).length cv) (cxK R S 32 ++ cfK R S k).length (chsC (cxK R S 32 ++ cfK R S k)) := by
              refine ⟨hown.1, ?_⟩
              rcases hown.2 with q | ⟨g, cap, cur, h1, h2, h3, h4⟩
              · exact Or.inl q
              · exact Or.inr ⟨g, cap, cur, h1, h2, by rw [hh]; exact h3, h4⟩
            clear hw hh hB hR hS hown
            go_wp2
            go_roundw
            case rel => exact ⟨k + 1, ao, cv, by omega, by first | rfl | simp, by rw [hpk], by rw [hpk]; exact ho1, B1, hR1, hS1⟩
            case measure => simp [intOf]; omega
          · have d : ebb ((R (32 + k * 2) : Nat) : Int) ((R (32 + k * 2 + 1) : Nat) : Int) ((S (32 + k * 2) : Nat) : Int) ((S (32 + k * 2 + 1) : Nat) : Int) = false := by simp [ebb]; omega
            have hpk : cxK R S 32 ++ cfK R S (k + 1) = cxK R S 32 ++ cfK R S k ++ [⟨true, (k : Int), 0, S (32 + k * 2), S (32 + k * 2 + 1)⟩] := by show cxK R S 32 ++ (cfK R S k ++ _) = _; rw [if_neg q, List.append_assoc]
            clear q
            go_wp2_with fail
            go_quiet (fail)
            obtain ⟨w1, hw, B1, hh⟩ := quiet_world hB nq
            rw [hw]
            have hR1 : w1.heap[w.heap.size]? = some (.cells (rf R) 28) := by rw [hh]; exact hR
            have hS1 : w1.heap[w.heap.size + 1]? = some (.cells (rf S) 28) := by rw [hh]; exact hS
            have ho1 : w1.ownsRow (w.heap.size + 2) 50 5 (.slice ao (cxK R S 32 ++ cfK R S k).length cv) (cxK R S 32 ++ cfK R S k).length (chsC (cxK R S 32 ++ cfK R S k)) := by
              refine ⟨hown.1, ?_⟩
              rcases hown.2 with q | ⟨g, cap, cur, h1, h2, h3, h4⟩
              · exact Or.inl q
              · exact Or.inr ⟨g, cap, cur, h1, h2, by rw [hh]; exact h3, h4⟩
            clear hw hh hB hR hS hown
            have c1 := rf_cell hR1 (32 + k * 2) (by omega)
            have c2 := rf_cell hS1 (32 + k * 2) (by omega)
            have c3 := rf_cell hR1 (32 + k * 2 + 1) (by omega)
            have c4 := rf_cell hS1 (32 + k * 2 + 1) (by omega)
            have hs1 := B1.size
            go_wp2_with (first
              | (at_builtin; refine wpList_append_own _ rfl _ _ 37 rfl (w.heap.size + 2) 50 i0 (.agg #[.bool false, .int .i64 0, .int .u64 0, .int .u64 0, .int .u64 0]) 5 40 Tryd.underlying37 hi hz0 hz1 hz2 rfl (by decide) _ _ _ rfl (ho1.alloc _) ⟨w1.heap.size, 0, none⟩ 1 1 (chC ⟨true, (k : Int), 0, S (32 + k * 2), S (32 + k * 2 + 1)⟩) rfl rfl (new_cells _ (chC ⟨true, (k : Int), 0, S (32 + k * 2), S (32 + k * 2 + 1)⟩) _) (fun x hx => by simp [chC] at hx; rcases hx with rfl | rfl | rfl | rfl | rfl <;> rfl) (by unfold maxLen; omega) (by omega) (by simp only [size_al]; have := (Array.getElem?_eq_some_iff.1 hS1).1; omega) ?_; intro v' w3 hown' hgrow3 hnil3))
            go_roundw
            case rel =>
              obtain ⟨g3, cap3, hv3⟩ : ∃ g3 cap3, v' = .slice (some ⟨g3, 0, none⟩) ((cxK R S 32 ++ cfK R S k).length + 1) cap3 := by
                rcases hown'.2 with ⟨_, h⟩ | ⟨g3, cap3, _, h, _⟩
                · omega
                · exact ⟨g3, cap3, h⟩
              have row : ∀ (b : Nat) (c : Array Value) (T : TypeId), b < w.heap.size + 2 → w1.heap[b]? = some (.cells c T) → w3.heap[b]? = some (.cells c T) := by
                intro b c T hb hc
                have l1 := (Array.getElem?_eq_some_iff.1 hc).1
                rw [hgrow3.block b (by simp only [size_al]; omega) (fun z => by have := (ho1.lt b z.symm).1; omega)]
                exact heap_of (bal w1 _) _ _ _ hc
              have RR : k + 1 ≤ 32 ∧ Value.int .i64 ((k : Int) + 1) = .int .i64 ((k + 1 : Nat) : Int) ∧ v' = .slice (some ⟨g3, 0, none⟩) (cxK R S 32 ++ cfK R S (k + 1)).length cap3 ∧ w3.ownsRow (w.heap.size + 2) 50 5 v' (cxK R S 32 ++ cfK R S (k + 1)).length (chsC (cxK R S 32 ++ cfK R S (k + 1))) ∧ Below w.heap.size w w3 ∧ w3.heap[w.heap.size]? = some (.cells (rf R) 28) ∧ w3.heap[w.heap.size + 1]? = some (.cells (rf S) 28) :=
                ⟨by omega, by first | rfl | simp, by rw [hv3, hpk, len_one], by rw [hpk, chsC_app, len_one, show chsC [⟨true, (k : Int), 0, S (32 + k * 2), S (32 + k * 2 + 1)⟩] = chC ⟨true, (k : Int), 0, S (32 + k * 2), S (32 + k * 2 + 1)⟩ from by simp [chsC]]; exact hown', (B1.alloc hs1 _).grown hgrow3 (by simp only [size_al]; omega) (fun q hq => by have := (ho1.lt q hq).1; omega), row _ _ _ (by omega) hR1, row _ _ _ (by omega) hS1⟩
              first
                | exact ⟨k + 1, some ⟨g3, 0, none⟩, cap3, RR⟩
                | ((repeat apply Exists.intro); exact ⟨⟨k + 1, some ⟨g3, 0, none⟩, cap3, RR⟩, rfl⟩)
            case measure => simp [intOf]; omega
        · have k32 : k = 32 := by omega
          subst k32
          go_wp2
          go_ret
          exact ⟨_, rfl, hown, hB⟩
theorem chs_at (l : List Chg) (k i : Nat) (c : Chg) (h : l[k]? = some c) (hi : i < 5) : (chsC l)[k * 5 + i]? = (chC c)[i]? := by
  induction l generalizing k with
  | nil => simp at h
  | cons a t ih =>
    have e : chsC (a :: t) = chC a ++ chsC t := by simp [chsC]
    rw [e]
    cases k with
    | zero =>
      simp at h
      subst h
      rw [Nat.zero_mul, Nat.zero_add, List.getElem?_append_left (by simp [chC]; exact hi)]
    | succ k =>
      simp at h
      rw [List.getElem?_append_right (by simp [chC]; omega)]
      have : (k + 1) * 5 + i - (chC a).length = k * 5 + i := by simp [chC]; omega
      rw [this]
      exact ih k h
def CS (w : World) (v : Value) (l : List Chg) : Prop := ∃ (ao : Option Addr) (cv : Nat), v = .slice ao l.length cv ∧ (l ≠ [] → ∃ g z, ao = some ⟨g, z, none⟩ ∧ g < w.heap.size ∧ ∀ j u, (chsC l)[j]? = some u → w.cell? ⟨g, z + j, none⟩ = some u)
theorem below_cell {w w' : World} {g k : Nat} {u : Value} (hb : Below w.heap.size w w') (hg : g < w.heap.size) (h : w.cell? ⟨g, k, none⟩ = some u) : w'.cell? ⟨g, k, none⟩ = some u := by
  have e := hb.block g hg
  unfold World.cell? at h ⊢
  rw [e]
  exact h
theorem cs_mono {w w' : World} {v : Value} {l : List Chg} (h : CS w v l) (hb : Below w.heap.size w w') : CS w' v l := by
  obtain ⟨ao, cv, e, q⟩ := h
  refine ⟨ao, cv, e, fun n => ?_⟩
  obtain ⟨g, z, e2, hg, hc⟩ := q n
  exact ⟨g, z, e2, Nat.lt_of_lt_of_le hg hb.size, fun j u hj => below_cell hb hg (hc j u hj)⟩
def okC (c : Chg) : Bool := (decide (0 ≤ c.n) && decide (c.n < 32)) && !(c.fl && decide (c.wd ≠ 0)) && !(!c.fl && decide (c.hi ≠ 0 ∨ c.lo ≠ 0))
def apC (R : Nat → Nat) (c : Chg) : Nat → Nat := if c.fl = true then up (up R (32 + c.n.toNat * 2) c.hi) (32 + c.n.toNat * 2 + 1) c.lo else if c.n = 0 then R else up R c.n.toNat c.wd
def chgR (R : Nat → Nat) (l : List Chg) : (Nat → Nat) × Int := if l.all okC = true then (l.foldl apC R, 0) else (R, 2)
theorem chg_bad (R : Nat → Nat) {l : List Chg} {k : Nat} {c : Chg} (h : l[k]? = some c) (hc : okC c = false) : chgR R l = (R, 2) := by
  unfold chgR
  rw [if_neg]
  intro q
  have := List.all_eq_true.1 q c (List.mem_of_getElem? h)
  rw [hc] at this
  exact absurd this (by decide)
theorem take_next {l : List Chg} {k : Nat} {c : Chg} (h : l[k]? = some c) : l.take (k + 1) = l.take k ++ [c] := by
  rw [List.take_add_one, h]
  rfl
set_option maxRecDepth 100000 in
set_option maxHeartbeats 4000000 in
theorem r23_change (R : Nat → Nat) (l : List Chg) (v : Value) (L : Nat) (hL : l.length = L) (hL2 : L ≤ 1000000) (w : World) (hv : CS w v l)
    (KI : ∀ (n : Int) (o : Bool), (decide (0 ≤ n) && decide (n < 32)) = o → Box (∀ w, Calls Tryd.prog 40 #[.int .i64 n] w fun r w' => r = .returned (.bool o) ∧ Below w.heap.size w w'))
    (KX : ∀ (R : Nat → Nat) (n : Int) (x : Nat), okC ⟨false, n, x, 0, 0⟩ = true → Box (∀ w, Calls Tryd.prog 30 #[.agg (rf R), .int .i64 n, .int .u64 (x : Nat)] w fun r w' => r = .returned (.tuple #[.agg (rf (apC R ⟨false, n, x, 0, 0⟩)), .int .i64 0]) ∧ Below w.heap.size w w'))
    (KF : ∀ (R : Nat → Nat) (n : Int) (x y : Nat), okC ⟨true, n, 0, x, y⟩ = true → Box (∀ w, Calls Tryd.prog 31 #[.agg (rf R), .int .i64 n, .agg #[.int .u64 (x : Nat), .int .u64 (y : Nat)]] w fun r w' => r = .returned (.tuple #[.agg (rf (apC R ⟨true, n, 0, x, y⟩)), .int .i64 0]) ∧ Below w.heap.size w w')) :
    Calls Tryd.prog 37 #[.agg (rf R), v] w fun r w' => r = .returned (.tuple #[.agg (rf (chgR R l).1), .int .i64 (chgR R l).2]) ∧ Below w.heap.size w w' := by
  obtain ⟨ao, cv, rfl, hc⟩ := hv
  have HC := box hc
  have HL := box hL
  clear hc
  rw [hL]
  clear hL
  have hrz := rf_zero
  have hrs : ∀ R, ((rf R).size = 96) = True := fun R => eq_true (rf_size R)
  have hra := rf_at
  have hs3 := rf_st3
  obtain ⟨Rx_0, Rz_0, B0⟩ := opn2 w (Obj.cells (rf R) 28) (Obj.cells (rf fun _ => 0) 28)
  go_enter Tryd.func37, Tryd.ntmps37
  go_wp2_with (first | ((with_reducible (refine wpl_rf rfl _ rfl ?_ (row_al (row_al (last7 _ _) _) _) ?_)); rfl) | ((with_reducible (refine wp_rf _ rfl ?_ (row_al (row_al (last7 _ _) _) _) ?_)); rfl) | ((with_reducible (refine wpl_rf rfl _ rfl ?_ (row_al (last7 _ _) _) ?_)); rfl) | ((with_reducible (refine wp_rf _ rfl ?_ (row_al (last7 _ _) _) ?_)); rfl))
  have R1 : (((w.alloc (Obj.cells (rf R) 28)).alloc (Obj.cells (rf fun _ => 0) 28)).alloc (Obj.cells (rf R) 28)).heap[w.heap.size]? = some (.cells (rf R) 28) := row_al Rx_0 _
  have R2 : (((w.alloc (Obj.cells (rf R) 28)).alloc (Obj.cells (rf fun _ => 0) 28)).alloc (Obj.cells (rf R) 28)).heap[w.heap.size + 1]? = some (.cells (rf fun _ => 0) 28) := row_al Rz_0 _
  have R3 : (((w.alloc (Obj.cells (rf R) 28)).alloc (Obj.cells (rf fun _ => 0) 28)).alloc (Obj.cells (rf R) 28)).heap[w.heap.size + 1 + 1]? = some (.cells (rf R) 28) := row_last (by simp only [size_al])
  have B1 := bel_al B0 (Obj.cells (rf R) 28)
  clear Rx_0 Rz_0 B0
  go_loopw [7] (fun i wr => ∃ k : Nat, k ≤ L ∧ i = .int .i64 (k : Int) ∧ Box (∀ j c, j < k → l[j]? = some c → okC c = true) ∧ Below w.heap.size w wr ∧ wr.heap[w.heap.size]? = some (.cells (rf ((l.take k).foldl apC R)) 28) ∧ wr.heap[w.heap.size + 1]? = some (.cells (rf fun _ => 0) 28) ∧ wr.heap[w.heap.size + 1 + 1]? = some (.cells (rf R) 28))
    (fun i _ => L - (intOf i).toNat)
  case atStart => exact ⟨0, Nat.zero_le _, rfl, box (fun j c hj => absurd hj (by omega)), B1, by simpa using R1, R2, R3⟩
  case round =>
    obtain ⟨k, hk, rfl, HA, hB, hX, hZ, hW⟩ := hrel
    clear R1 R2 R3 B1
    by_cases hlt : k < L
    · obtain ⟨c, hs⟩ : ∃ c, l[k]? = some c := ⟨_, List.getElem?_eq_getElem (by rw [HL.out]; exact hlt)⟩
      obtain ⟨g, za, rfl, hg, hcell⟩ := HC.out (by rintro rfl; simp at hs)
      have hel := fun i (hi : i < 5) u (hu : (chC c)[i]? = some u) => below_cell hB hg (hcell (k * 5 + i) u ((chs_at l k i c hs hi).trans hu))
      obtain ⟨fl, n, x, y1, y2⟩ := c
      have e0 := hel 0 (by decide) _ rfl
      have e1 := hel 1 (by decide) _ rfl
      have e2 := hel 2 (by decide) _ rfl
      have e3 := hel 3 (by decide) _ rfl
      have e4 := hel 4 (by decide) _ rfl
      simp only [Nat.add_zero] at e0
      rw [← Nat.add_assoc] at e1 e2 e3 e4
      clear hel hcell
      have HS := box hs
      clear hs
      have dl : decide ((k : Int) < (L : Int)) = true := decide_eq_true (by omega)
      have hw1 : IntKind.i64.wrap ((k : Int) + 1) = ((k + 1 : Nat) : Int) := by rw [IntKind.wrap_i64]; omega
      obtain ⟨S, hS⟩ : ∃ S, (l.take k).foldl apC R = S := ⟨_, rfl⟩
      rw [hS] at hX
      have lt3 : w.heap.size + 1 + 1 < wr.heap.size := (Array.getElem?_eq_some_iff.1 hW).1
      have hgr : g < wr.heap.size := Nat.lt_of_lt_of_le hg hB.size
      obtain ⟨V, hV⟩ : ∃ V, wr.alloc (.cells #[.bool fl, .int .i64 n, .int .u64 (x : Nat), .int .u64 (y1 : Nat), .int .u64 (y2 : Nat)] 50) = V := ⟨_, rfl⟩
      have bV : Below w.heap.size w V := by rw [← hV]; exact btr hB (bal _ _)
      have xV : V.heap[w.heap.size]? = some (.cells (rf S) 28) := by rw [← hV]; exact row_al hX _
      have zV : V.heap[w.heap.size + 1]? = some (.cells (rf fun _ => 0) 28) := by rw [← hV]; exact row_al hZ _
      have wV : V.heap[w.heap.size + 1 + 1]? = some (.cells (rf R) 28) := by rw [← hV]; exact row_al hW _
      have cV : V.heap[wr.heap.size]? = some (.cells #[.bool fl, .int .i64 n, .int .u64 (x : Nat), .int .u64 (y1 : Nat), .int .u64 (y2 : Nat)] 50) := by rw [← hV]; exact last7 _ _
      have f0 := cell7 cV 0 _ rfl
      have f1 := cell7 cV 1 _ rfl
      have f2 := cell7 cV 2 _ rfl
      have f3 := cell7 cV 3 _ rfl
      have f4 := cell7 cV 4 _ rfl
      have sV : wr.heap.size < V.heap.size := (Array.getElem?_eq_some_iff.1 cV).1
      have heq := eqb
      have heb : ∀ a b : Int, ebb a b 0 0 = (a == 0 && b == 0) := fun _ _ => rfl
      cases oi : (decide (0 ≤ n) && decide (n < 32))
      · have hbad := chg_bad R HS.out (by simp [okC, oi])
        go_wp2_with fail
        (try rw [hV])
        refine (r23_is n _ oi _).mono ?_
        rintro r w' ⟨rfl, rfl⟩
        have hst := rf_store (R := R) zV
        go_wp2_with (first | ((with_reducible (refine wpl_rf rfl _ rfl ?_ (wV) ?_)); rfl) | ((with_reducible (refine wp_rf _ rfl ?_ (wV) ?_)); rfl))
        exact bodyPost_ret (v := .tuple #[.agg (rf R), .int .i64 2]) (res_rf2 Tryd.results37 (T := 28) rfl (setRow_row zV)) rfl ⟨by rw [hbad], Below.setRow bV (by omega)⟩
      · cases fl
        · by_cases q : y1 = 0 ∧ y2 = 0
          · have ok : okC ⟨false, n, x, y1, y2⟩ = true := by rw [q.1, q.2]; simp [okC, oi]
            have K := KX S n x (by simp [okC, oi])
            have hnx : (l.take (k + 1)).foldl apC R = apC S ⟨false, n, x, 0, 0⟩ := by rw [take_next HS.out, List.foldl_append, hS]; simp [apC]
            obtain ⟨Nx, hNx⟩ : ∃ Nx, apC S ⟨false, n, x, 0, 0⟩ = Nx := ⟨_, rfl⟩
            rw [hNx] at K hnx
            have hq2 : ebb ((y1 : Nat) : Int) ((y2 : Nat) : Int) 0 0 = true := by rw [q.1, q.2]; rfl
            clear heb q
            go_wp2_with fail
            (try rw [hV])
            refine (r23_is n _ oi _).mono ?_
            rintro r w' ⟨rfl, rfl⟩
            go_wp2_with (first | ((with_reducible (refine wpl_rf rfl _ rfl ?_ (xV) ?_)); rfl) | ((with_reducible (refine wp_rf _ rfl ?_ (xV) ?_)); rfl))
            refine (K.out _).mono ?_
            rintro r w3 ⟨rfl, b3⟩
            have x3 := heap_of b3 _ _ _ xV
            have z3 := heap_of b3 _ _ _ zV
            have v3 := heap_of b3 _ _ _ wV
            have B3 := btr bV b3
            have hst := rf_store (R := Nx) x3
            go_wp2
            go_roundw
            case rel => exact ⟨k + 1, by omega, by first | rfl | simp, box (fun j c hj hl => by
                rcases Nat.lt_or_eq_of_le (Nat.le_of_lt_succ hj) with h | h
                · exact HA.out j c h hl
                · subst h
                  have := HS.out
                  rw [hl] at this
                  cases this
                  exact ok), Below.setRow B3 (Nat.le_refl _), by rw [hnx]; exact setRow_row x3, (setRow_other (by omega)).trans z3, (setRow_other (by omega)).trans v3⟩
            case measure => simp [intOf]; omega
          · have hbad := chg_bad R HS.out (by simp [okC, oi]; omega)
            have hq : (((y1 : Nat) : Int) == 0 && ((y2 : Nat) : Int) == 0) = false := by rw [Bool.and_eq_false_iff, beq_eq_false_iff_ne, beq_eq_false_iff_ne]; omega
            have hq2 : ebb ((y1 : Nat) : Int) ((y2 : Nat) : Int) 0 0 = false := hq
            clear heb q
            go_wp2_with fail
            (try rw [hV])
            refine (r23_is n _ oi _).mono ?_
            rintro r w' ⟨rfl, rfl⟩
            have hst := rf_store (R := R) zV
            go_wp2_with (first | ((with_reducible (refine wpl_rf rfl _ rfl ?_ (wV) ?_)); rfl) | ((with_reducible (refine wp_rf _ rfl ?_ (wV) ?_)); rfl))
            exact bodyPost_ret (v := .tuple #[.agg (rf R), .int .i64 2]) (res_rf2 Tryd.results37 (T := 28) rfl (setRow_row zV)) rfl ⟨by rw [hbad], Below.setRow bV (by omega)⟩
        · by_cases q : x = 0
          · have ok : okC ⟨true, n, x, y1, y2⟩ = true := by rw [q]; simp [okC, oi]
            have K := KF S n y1 y2 (by simp [okC, oi])
            have hnx : (l.take (k + 1)).foldl apC R = apC S ⟨true, n, 0, y1, y2⟩ := by rw [take_next HS.out, List.foldl_append, hS]; simp [apC]
            obtain ⟨Nx, hNx⟩ : ∃ Nx, apC S ⟨true, n, 0, y1, y2⟩ = Nx := ⟨_, rfl⟩
            rw [hNx] at K hnx
            have hq : (((x : Nat) : Int) != 0) = false := by rw [q]; rfl
            clear q
            go_wp2_with fail
            (try rw [hV])
            refine (r23_is n _ oi _).mono ?_
            rintro r w' ⟨rfl, rfl⟩
            go_wp2_with (first | ((with_reducible (refine wpl_rf rfl _ rfl ?_ (xV) ?_)); rfl) | ((with_reducible (refine wp_rf _ rfl ?_ (xV) ?_)); rfl))
            refine (K.out _).mono ?_
            rintro r w3 ⟨rfl, b3⟩
            have x3 := heap_of b3 _ _ _ xV
            have z3 := heap_of b3 _ _ _ zV
            have v3 := heap_of b3 _ _ _ wV
            have B3 := btr bV b3
            have hst := rf_store (R := Nx) x3
            go_wp2
            go_roundw
            case rel => exact ⟨k + 1, by omega, by first | rfl | simp, box (fun j c hj hl => by
                rcases Nat.lt_or_eq_of_le (Nat.le_of_lt_succ hj) with h | h
                · exact HA.out j c h hl
                · subst h
                  have := HS.out
                  rw [hl] at this
                  cases this
                  exact ok), Below.setRow B3 (Nat.le_refl _), by rw [hnx]; exact setRow_row x3, (setRow_other (by omega)).trans z3, (setRow_other (by omega)).trans v3⟩
            case measure => simp [intOf]; omega
          · have hbad := chg_bad R HS.out (by simp [okC, oi]; omega)
            have hq : (((x : Nat) : Int) != 0) = true := by simp; omega
            go_wp2_with fail
            (try rw [hV])
            refine (r23_is n _ oi _).mono ?_
            rintro r w' ⟨rfl, rfl⟩
            have hst := rf_store (R := R) zV
            go_wp2_with (first | ((with_reducible (refine wpl_rf rfl _ rfl ?_ (wV) ?_)); rfl) | ((with_reducible (refine wp_rf _ rfl ?_ (wV) ?_)); rfl))
            exact bodyPost_ret (v := .tuple #[.agg (rf R), .int .i64 2]) (res_rf2 Tryd.results37 (T := 28) rfl (setRow_row zV)) rfl ⟨by rw [hbad], Below.setRow bV (by omega)⟩
    · have kL : k = L := by omega
      subst kL
      have hall : chgR R l = (l.foldl apC R, 0) := by
        unfold chgR
        rw [if_pos]
        rw [List.all_eq_true]
        intro c hc
        obtain ⟨j, hj⟩ := List.getElem?_of_mem hc
        exact HA.out j c (by rw [← HL.out]; exact (List.getElem?_eq_some_iff.1 hj).1) hj
      rw [List.take_of_length_le (by rw [HL.out]; exact Nat.le_refl _)] at hX
      have dl : decide ((k : Int) < (k : Int)) = false := decide_eq_false (by omega)
      have hst := rf_store (R := l.foldl apC R) hZ
      go_wp2_with (first | ((with_reducible (refine wpl_rf rfl _ rfl ?_ (hX) ?_)); rfl) | ((with_reducible (refine wp_rf _ rfl ?_ (hX) ?_)); rfl))
      exact bodyPost_ret (v := .tuple #[.agg (rf (l.foldl apC R)), .int .i64 0]) (res_rf2 Tryd.results37 (T := 28) rfl (setRow_row hZ)) rfl ⟨by rw [hall], Below.setRow hB (by omega)⟩
def dg (n : Nat) : UInt8 := UInt8.ofNat (48 + n)
def nuB (n : Nat) : ByteArray := if n < 10 then ⟨#[dg n]⟩ else ⟨#[dg (n / 10), dg (n % 10)]⟩
def nmB (fl : Bool) (n : Nat) : ByteArray := (if fl then ⟨#[102]⟩ else ⟨#[120]⟩) ++ nuB n
theorem nuB_size (n : Nat) : (nuB n).size ≤ 2 := by unfold nuB; split <;> simp [ByteArray.size]
theorem ba_ne {p s : ByteArray} (h : p ≠ s) : (p.toList == s.toList) = false := by
  rw [beq_eq_false_iff_ne, ByteArray.toList_eq, ByteArray.toList_eq]
  intro e
  apply h
  apply ByteArray.ext
  exact Array.toList_inj.1 e
def ndK (s : ByteArray) : Nat → Option (Bool × Nat)
  | 0 => none
  | k + 1 => (ndK s k).or (if nmB false k = s then some (false, k) else if nmB true k = s then some (true, k) else none)
def ndR (s : ByteArray) : Bool × Nat × Int := match ndK s 32 with
  | some (fl, n) => (fl, n, 0)
  | none => (false, 0, 230)
end Go.Proofs.YtjbnifhpbdjonaaDoor
