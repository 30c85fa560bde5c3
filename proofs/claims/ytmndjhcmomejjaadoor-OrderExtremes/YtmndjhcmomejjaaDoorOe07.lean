/-
  What the functions that the statement reaches return: part 7 (H2).
-/
import Derived.Test.YtmndjhcmomejjaaDoorOe06
namespace Go.Proofs.YtmndjhcmomejjaaDoor
set_option maxRecDepth 100000
set_option maxHeartbeats 40000000
set_option maxRecDepth 100000
open Go.RowKit WMath
set_option linter.unusedSimpArgs false
set_option linter.unusedVariables false
set_option maxRecDepth 100000 in
set_option maxHeartbeats 8000000 in
theorem rloud_a (f : Int) (x1 y1 x2 y2 : Nat) (w : World) (K1 : Box (∀ w, Calls Tryd.prog 35 #[.int .u8 f, .agg #[.int .u64 (x1 : Nat), .int .u64 (y1 : Nat)]] w fun r w' => r = .returned (.bool true) ∧ Below w.heap.size w w')) : Calls Tryd.prog 16 #[.int .u8 f, .agg #[.int .u64 (x1 : Nat), .int .u64 (y1 : Nat)], .agg #[.int .u64 (x2 : Nat), .int .u64 (y2 : Nat)]] w fun r w' => r = .returned (.int .u8 16) ∧ Below w.heap.size w w' := by
  obtain ⟨Ra_0, Rb_0, B0⟩ := opn2 w (Obj.cells #[.int .u64 (x1 : Nat), .int .u64 (y1 : Nat)] 25) (Obj.cells #[.int .u64 (x2 : Nat), .int .u64 (y2 : Nat)] 25)
  go_enter Tryd.func16, Tryd.ntmps16
  obtain ⟨ca_0_0, ca_0_1⟩ := cells2s Ra_0
  obtain ⟨cb_0_0, cb_0_1⟩ := cells2s Rb_0
  go_wp2_with fail
  refine (K1.out _).mono ?_
  rintro r w1 ⟨rfl, b1⟩
  have B1 : Below w.heap.size w w1 := btr B0 b1
  have Ra_1 := heap_of b1 _ _ _ Ra_0
  have Rb_1 := heap_of b1 _ _ _ Rb_0
  clear b1 B0 Ra_0 ca_0_0 ca_0_1 Rb_0 cb_0_0 cb_0_1
  obtain ⟨ca_1_0, ca_1_1⟩ := cells2s Ra_1
  obtain ⟨cb_1_0, cb_1_1⟩ := cells2s Rb_1
  go_wp2
  go_ret
  exact ⟨rfl, B1⟩
set_option maxRecDepth 100000 in
set_option maxHeartbeats 8000000 in
theorem rloud_b (f : Int) (x1 y1 x2 y2 : Nat) (w : World) (K1 : Box (∀ w, Calls Tryd.prog 35 #[.int .u8 f, .agg #[.int .u64 (x1 : Nat), .int .u64 (y1 : Nat)]] w fun r w' => r = .returned (.bool false) ∧ Below w.heap.size w w')) (K2 : Box (∀ w, Calls Tryd.prog 35 #[.int .u8 f, .agg #[.int .u64 (x2 : Nat), .int .u64 (y2 : Nat)]] w fun r w' => r = .returned (.bool true) ∧ Below w.heap.size w w')) : Calls Tryd.prog 16 #[.int .u8 f, .agg #[.int .u64 (x1 : Nat), .int .u64 (y1 : Nat)], .agg #[.int .u64 (x2 : Nat), .int .u64 (y2 : Nat)]] w fun r w' => r = .returned (.int .u8 16) ∧ Below w.heap.size w w' := by
  obtain ⟨Ra_0, Rb_0, B0⟩ := opn2 w (Obj.cells #[.int .u64 (x1 : Nat), .int .u64 (y1 : Nat)] 25) (Obj.cells #[.int .u64 (x2 : Nat), .int .u64 (y2 : Nat)] 25)
  go_enter Tryd.func16, Tryd.ntmps16
  obtain ⟨ca_0_0, ca_0_1⟩ := cells2s Ra_0
  obtain ⟨cb_0_0, cb_0_1⟩ := cells2s Rb_0
  go_wp2_with fail
  refine (K1.out _).mono ?_
  rintro r w1 ⟨rfl, b1⟩
  have B1 : Below w.heap.size w w1 := btr B0 b1
  have Ra_1 := heap_of b1 _ _ _ Ra_0
  have Rb_1 := heap_of b1 _ _ _ Rb_0
  clear b1 B0 Ra_0 ca_0_0 ca_0_1 Rb_0 cb_0_0 cb_0_1
  obtain ⟨ca_1_0, ca_1_1⟩ := cells2s Ra_1
  obtain ⟨cb_1_0, cb_1_1⟩ := cells2s Rb_1
  go_wp2_with fail
  refine (K2.out _).mono ?_
  rintro r w2 ⟨rfl, b2⟩
  have B2 : Below w.heap.size w w2 := btr B1 b2
  have Ra_2 := heap_of b2 _ _ _ Ra_1
  have Rb_2 := heap_of b2 _ _ _ Rb_1
  clear b2 B1 Ra_1 ca_1_0 ca_1_1 Rb_1 cb_1_0 cb_1_1
  obtain ⟨ca_2_0, ca_2_1⟩ := cells2s Ra_2
  obtain ⟨cb_2_0, cb_2_1⟩ := cells2s Rb_2
  go_wp2
  go_ret
  exact ⟨rfl, B2⟩
set_option maxRecDepth 100000 in
set_option maxHeartbeats 8000000 in
theorem rloud_n (f : Int) (x1 y1 x2 y2 : Nat) (w : World) (K1 : Box (∀ w, Calls Tryd.prog 35 #[.int .u8 f, .agg #[.int .u64 (x1 : Nat), .int .u64 (y1 : Nat)]] w fun r w' => r = .returned (.bool false) ∧ Below w.heap.size w w')) (K2 : Box (∀ w, Calls Tryd.prog 35 #[.int .u8 f, .agg #[.int .u64 (x2 : Nat), .int .u64 (y2 : Nat)]] w fun r w' => r = .returned (.bool false) ∧ Below w.heap.size w w')) : Calls Tryd.prog 16 #[.int .u8 f, .agg #[.int .u64 (x1 : Nat), .int .u64 (y1 : Nat)], .agg #[.int .u64 (x2 : Nat), .int .u64 (y2 : Nat)]] w fun r w' => r = .returned (.int .u8 0) ∧ Below w.heap.size w w' := by
  obtain ⟨Ra_0, Rb_0, B0⟩ := opn2 w (Obj.cells #[.int .u64 (x1 : Nat), .int .u64 (y1 : Nat)] 25) (Obj.cells #[.int .u64 (x2 : Nat), .int .u64 (y2 : Nat)] 25)
  go_enter Tryd.func16, Tryd.ntmps16
  obtain ⟨ca_0_0, ca_0_1⟩ := cells2s Ra_0
  obtain ⟨cb_0_0, cb_0_1⟩ := cells2s Rb_0
  go_wp2_with fail
  refine (K1.out _).mono ?_
  rintro r w1 ⟨rfl, b1⟩
  have B1 : Below w.heap.size w w1 := btr B0 b1
  have Ra_1 := heap_of b1 _ _ _ Ra_0
  have Rb_1 := heap_of b1 _ _ _ Rb_0
  clear b1 B0 Ra_0 ca_0_0 ca_0_1 Rb_0 cb_0_0 cb_0_1
  obtain ⟨ca_1_0, ca_1_1⟩ := cells2s Ra_1
  obtain ⟨cb_1_0, cb_1_1⟩ := cells2s Rb_1
  go_wp2_with fail
  refine (K2.out _).mono ?_
  rintro r w2 ⟨rfl, b2⟩
  have B2 : Below w.heap.size w w2 := btr B1 b2
  have Ra_2 := heap_of b2 _ _ _ Ra_1
  have Rb_2 := heap_of b2 _ _ _ Rb_1
  clear b2 B1 Ra_1 ca_1_0 ca_1_1 Rb_1 cb_1_0 cb_1_1
  obtain ⟨ca_2_0, ca_2_1⟩ := cells2s Ra_2
  obtain ⟨cb_2_0, cb_2_1⟩ := cells2s Rb_2
  go_wp2
  go_ret
  exact ⟨rfl, B2⟩
set_option maxRecDepth 100000 in
set_option maxHeartbeats 8000000 in
theorem rto_tf (f : Int) (x1 y1 x2 y2 : Nat)  (w : World)
    (K1 : Box (∀ w, Calls Tryd.prog 41 #[.int .u8 f, .agg #[.int .u64 (x1 : Nat), .int .u64 (y1 : Nat)]] w fun r w' => r = .returned (.bool true) ∧ Below w.heap.size w w')) (K2 : Box (∀ w, Calls Tryd.prog 41 #[.int .u8 f, .agg #[.int .u64 (x2 : Nat), .int .u64 (y2 : Nat)]] w fun r w' => r = .returned (.bool false) ∧ Below w.heap.size w w'))
    : Calls Tryd.prog 23 #[.int .u8 f, .agg #[.int .u64 (x1 : Nat), .int .u64 (y1 : Nat)], .agg #[.int .u64 (x2 : Nat), .int .u64 (y2 : Nat)]] w fun r w' => r = .returned (.int .i64 (-1)) ∧ Below w.heap.size w w' := by
  have hat := cw_at 6
  have hz := cw6z
  have hff := cw6f
  have hs0 := st0
  have hcs : ∀ x, ((cw 6 x).size = 6) = True := fun x => eq_true (cw_size 6 x)
  obtain ⟨Ra_0, Rb_0, B0⟩ := opn2 w (Obj.cells #[.int .u64 (x1 : Nat), .int .u64 (y1 : Nat)] 25) (Obj.cells #[.int .u64 (x2 : Nat), .int .u64 (y2 : Nat)] 25)
  go_enter Tryd.func23, Tryd.ntmps23
  obtain ⟨ca_0_0, ca_0_1⟩ := cells2s Ra_0
  obtain ⟨cb_0_0, cb_0_1⟩ := cells2s Rb_0
  have sS : Box (∀ W W1 : World, (Below w.heap.size w W ∧ W.heap[w.heap.size]? = some (Obj.cells #[.int .u64 (x1 : Nat), .int .u64 (y1 : Nat)] 25) ∧ W.heap[w.heap.size + 1]? = some (Obj.cells #[.int .u64 (x2 : Nat), .int .u64 (y2 : Nat)] 25) ∧ W.cell? ⟨w.heap.size, 0, none⟩ = some (.int .u64 (x1 : Nat)) ∧ W.cell? ⟨w.heap.size, 1, none⟩ = some (.int .u64 (y1 : Nat)) ∧ W.cell? ⟨w.heap.size + 1, 0, none⟩ = some (.int .u64 (x2 : Nat)) ∧ W.cell? ⟨w.heap.size + 1, 1, none⟩ = some (.int .u64 (y2 : Nat))) → Below W.heap.size W W1 → (Below w.heap.size w W1 ∧ W1.heap[w.heap.size]? = some (Obj.cells #[.int .u64 (x1 : Nat), .int .u64 (y1 : Nat)] 25) ∧ W1.heap[w.heap.size + 1]? = some (Obj.cells #[.int .u64 (x2 : Nat), .int .u64 (y2 : Nat)] 25) ∧ W1.cell? ⟨w.heap.size, 0, none⟩ = some (.int .u64 (x1 : Nat)) ∧ W1.cell? ⟨w.heap.size, 1, none⟩ = some (.int .u64 (y1 : Nat)) ∧ W1.cell? ⟨w.heap.size + 1, 0, none⟩ = some (.int .u64 (x2 : Nat)) ∧ W1.cell? ⟨w.heap.size + 1, 1, none⟩ = some (.int .u64 (y2 : Nat)))) := box (fun W W1 h b => ⟨btr h.1 b, heap_of b _ _ _ h.2.1, heap_of b _ _ _ h.2.2.1, cell7 (heap_of b _ _ _ h.2.1) 0 _ rfl, cell7 (heap_of b _ _ _ h.2.1) 1 _ rfl, cell7 (heap_of b _ _ _ h.2.2.1) 0 _ rfl, cell7 (heap_of b _ _ _ h.2.2.1) 1 _ rfl⟩)
  have s0 : Below w.heap.size w (((w.alloc (Obj.cells #[.int .u64 (x1 : Nat), .int .u64 (y1 : Nat)] 25)).alloc (Obj.cells #[.int .u64 (x2 : Nat), .int .u64 (y2 : Nat)] 25))).drew ∧ (((w.alloc (Obj.cells #[.int .u64 (x1 : Nat), .int .u64 (y1 : Nat)] 25)).alloc (Obj.cells #[.int .u64 (x2 : Nat), .int .u64 (y2 : Nat)] 25))).drew.heap[w.heap.size]? = some (Obj.cells #[.int .u64 (x1 : Nat), .int .u64 (y1 : Nat)] 25) ∧ (((w.alloc (Obj.cells #[.int .u64 (x1 : Nat), .int .u64 (y1 : Nat)] 25)).alloc (Obj.cells #[.int .u64 (x2 : Nat), .int .u64 (y2 : Nat)] 25))).drew.heap[w.heap.size + 1]? = some (Obj.cells #[.int .u64 (x2 : Nat), .int .u64 (y2 : Nat)] 25) ∧ (((w.alloc (Obj.cells #[.int .u64 (x1 : Nat), .int .u64 (y1 : Nat)] 25)).alloc (Obj.cells #[.int .u64 (x2 : Nat), .int .u64 (y2 : Nat)] 25))).drew.cell? ⟨w.heap.size, 0, none⟩ = some (.int .u64 (x1 : Nat)) ∧ (((w.alloc (Obj.cells #[.int .u64 (x1 : Nat), .int .u64 (y1 : Nat)] 25)).alloc (Obj.cells #[.int .u64 (x2 : Nat), .int .u64 (y2 : Nat)] 25))).drew.cell? ⟨w.heap.size, 1, none⟩ = some (.int .u64 (y1 : Nat)) ∧ (((w.alloc (Obj.cells #[.int .u64 (x1 : Nat), .int .u64 (y1 : Nat)] 25)).alloc (Obj.cells #[.int .u64 (x2 : Nat), .int .u64 (y2 : Nat)] 25))).drew.cell? ⟨w.heap.size + 1, 0, none⟩ = some (.int .u64 (x2 : Nat)) ∧ (((w.alloc (Obj.cells #[.int .u64 (x1 : Nat), .int .u64 (y1 : Nat)] 25)).alloc (Obj.cells #[.int .u64 (x2 : Nat), .int .u64 (y2 : Nat)] 25))).drew.cell? ⟨w.heap.size + 1, 1, none⟩ = some (.int .u64 (y2 : Nat)) := ⟨B0.drew, Ra_0, Rb_0, cell7 (Ra_0) 0 _ rfl, cell7 (Ra_0) 1 _ rfl, cell7 (Rb_0) 0 _ rfl, cell7 (Rb_0) 1 _ rfl⟩
  go_wp2_with fail
  go_region_held3 (fun W => Below w.heap.size w W ∧ W.heap[w.heap.size]? = some (Obj.cells #[.int .u64 (x1 : Nat), .int .u64 (y1 : Nat)] 25) ∧ W.heap[w.heap.size + 1]? = some (Obj.cells #[.int .u64 (x2 : Nat), .int .u64 (y2 : Nat)] 25) ∧ W.cell? ⟨w.heap.size, 0, none⟩ = some (.int .u64 (x1 : Nat)) ∧ W.cell? ⟨w.heap.size, 1, none⟩ = some (.int .u64 (y1 : Nat)) ∧ W.cell? ⟨w.heap.size + 1, 0, none⟩ = some (.int .u64 (x2 : Nat)) ∧ W.cell? ⟨w.heap.size + 1, 1, none⟩ = some (.int .u64 (y2 : Nat))) (first | exact s1 | exact s0)
    (first | (go_at_call_of 41 (Value.agg #[.int .u64 (x1 : Nat), .int .u64 (y1 : Nat)]); refine (K1.out _).mono ?_; rintro r wq ⟨rfl, bq⟩; (first | have s1 := sS.out _ _ s1 bq | have s1 := sS.out _ _ s0 bq); clear bq) | (go_at_call_of 41 (Value.agg #[.int .u64 (x2 : Nat), .int .u64 (y2 : Nat)]); refine (K2.out _).mono ?_; rintro r wq ⟨rfl, bq⟩; (first | have s1 := sS.out _ _ s1 bq | have s1 := sS.out _ _ s0 bq); clear bq) | fail)
  have B1 := (And.left s1)
  have Ra_1 := s1.2.1
  have Rb_1 := s1.2.2.1
  clear s0 s1 sS B0 Ra_0 ca_0_0 ca_0_1 Rb_0 cb_0_0 cb_0_1
  obtain ⟨ca_1_0, ca_1_1⟩ := cells2s Ra_1
  obtain ⟨cb_1_0, cb_1_1⟩ := cells2s Rb_1
  go_wp2
  go_ret
  exact ⟨rfl, B1⟩
set_option maxRecDepth 100000 in
set_option maxHeartbeats 8000000 in
theorem rto_ft (f : Int) (x1 y1 x2 y2 : Nat)  (w : World)
    (K1 : Box (∀ w, Calls Tryd.prog 41 #[.int .u8 f, .agg #[.int .u64 (x1 : Nat), .int .u64 (y1 : Nat)]] w fun r w' => r = .returned (.bool false) ∧ Below w.heap.size w w')) (K2 : Box (∀ w, Calls Tryd.prog 41 #[.int .u8 f, .agg #[.int .u64 (x2 : Nat), .int .u64 (y2 : Nat)]] w fun r w' => r = .returned (.bool true) ∧ Below w.heap.size w w'))
    : Calls Tryd.prog 23 #[.int .u8 f, .agg #[.int .u64 (x1 : Nat), .int .u64 (y1 : Nat)], .agg #[.int .u64 (x2 : Nat), .int .u64 (y2 : Nat)]] w fun r w' => r = .returned (.int .i64 1) ∧ Below w.heap.size w w' := by
  have hat := cw_at 6
  have hz := cw6z
  have hff := cw6f
  have hs0 := st0
  have hcs : ∀ x, ((cw 6 x).size = 6) = True := fun x => eq_true (cw_size 6 x)
  obtain ⟨Ra_0, Rb_0, B0⟩ := opn2 w (Obj.cells #[.int .u64 (x1 : Nat), .int .u64 (y1 : Nat)] 25) (Obj.cells #[.int .u64 (x2 : Nat), .int .u64 (y2 : Nat)] 25)
  go_enter Tryd.func23, Tryd.ntmps23
  obtain ⟨ca_0_0, ca_0_1⟩ := cells2s Ra_0
  obtain ⟨cb_0_0, cb_0_1⟩ := cells2s Rb_0
  have sS : Box (∀ W W1 : World, (Below w.heap.size w W ∧ W.heap[w.heap.size]? = some (Obj.cells #[.int .u64 (x1 : Nat), .int .u64 (y1 : Nat)] 25) ∧ W.heap[w.heap.size + 1]? = some (Obj.cells #[.int .u64 (x2 : Nat), .int .u64 (y2 : Nat)] 25) ∧ W.cell? ⟨w.heap.size, 0, none⟩ = some (.int .u64 (x1 : Nat)) ∧ W.cell? ⟨w.heap.size, 1, none⟩ = some (.int .u64 (y1 : Nat)) ∧ W.cell? ⟨w.heap.size + 1, 0, none⟩ = some (.int .u64 (x2 : Nat)) ∧ W.cell? ⟨w.heap.size + 1, 1, none⟩ = some (.int .u64 (y2 : Nat))) → Below W.heap.size W W1 → (Below w.heap.size w W1 ∧ W1.heap[w.heap.size]? = some (Obj.cells #[.int .u64 (x1 : Nat), .int .u64 (y1 : Nat)] 25) ∧ W1.heap[w.heap.size + 1]? = some (Obj.cells #[.int .u64 (x2 : Nat), .int .u64 (y2 : Nat)] 25) ∧ W1.cell? ⟨w.heap.size, 0, none⟩ = some (.int .u64 (x1 : Nat)) ∧ W1.cell? ⟨w.heap.size, 1, none⟩ = some (.int .u64 (y1 : Nat)) ∧ W1.cell? ⟨w.heap.size + 1, 0, none⟩ = some (.int .u64 (x2 : Nat)) ∧ W1.cell? ⟨w.heap.size + 1, 1, none⟩ = some (.int .u64 (y2 : Nat)))) := box (fun W W1 h b => ⟨btr h.1 b, heap_of b _ _ _ h.2.1, heap_of b _ _ _ h.2.2.1, cell7 (heap_of b _ _ _ h.2.1) 0 _ rfl, cell7 (heap_of b _ _ _ h.2.1) 1 _ rfl, cell7 (heap_of b _ _ _ h.2.2.1) 0 _ rfl, cell7 (heap_of b _ _ _ h.2.2.1) 1 _ rfl⟩)
  have s0 : Below w.heap.size w (((w.alloc (Obj.cells #[.int .u64 (x1 : Nat), .int .u64 (y1 : Nat)] 25)).alloc (Obj.cells #[.int .u64 (x2 : Nat), .int .u64 (y2 : Nat)] 25))).drew ∧ (((w.alloc (Obj.cells #[.int .u64 (x1 : Nat), .int .u64 (y1 : Nat)] 25)).alloc (Obj.cells #[.int .u64 (x2 : Nat), .int .u64 (y2 : Nat)] 25))).drew.heap[w.heap.size]? = some (Obj.cells #[.int .u64 (x1 : Nat), .int .u64 (y1 : Nat)] 25) ∧ (((w.alloc (Obj.cells #[.int .u64 (x1 : Nat), .int .u64 (y1 : Nat)] 25)).alloc (Obj.cells #[.int .u64 (x2 : Nat), .int .u64 (y2 : Nat)] 25))).drew.heap[w.heap.size + 1]? = some (Obj.cells #[.int .u64 (x2 : Nat), .int .u64 (y2 : Nat)] 25) ∧ (((w.alloc (Obj.cells #[.int .u64 (x1 : Nat), .int .u64 (y1 : Nat)] 25)).alloc (Obj.cells #[.int .u64 (x2 : Nat), .int .u64 (y2 : Nat)] 25))).drew.cell? ⟨w.heap.size, 0, none⟩ = some (.int .u64 (x1 : Nat)) ∧ (((w.alloc (Obj.cells #[.int .u64 (x1 : Nat), .int .u64 (y1 : Nat)] 25)).alloc (Obj.cells #[.int .u64 (x2 : Nat), .int .u64 (y2 : Nat)] 25))).drew.cell? ⟨w.heap.size, 1, none⟩ = some (.int .u64 (y1 : Nat)) ∧ (((w.alloc (Obj.cells #[.int .u64 (x1 : Nat), .int .u64 (y1 : Nat)] 25)).alloc (Obj.cells #[.int .u64 (x2 : Nat), .int .u64 (y2 : Nat)] 25))).drew.cell? ⟨w.heap.size + 1, 0, none⟩ = some (.int .u64 (x2 : Nat)) ∧ (((w.alloc (Obj.cells #[.int .u64 (x1 : Nat), .int .u64 (y1 : Nat)] 25)).alloc (Obj.cells #[.int .u64 (x2 : Nat), .int .u64 (y2 : Nat)] 25))).drew.cell? ⟨w.heap.size + 1, 1, none⟩ = some (.int .u64 (y2 : Nat)) := ⟨B0.drew, Ra_0, Rb_0, cell7 (Ra_0) 0 _ rfl, cell7 (Ra_0) 1 _ rfl, cell7 (Rb_0) 0 _ rfl, cell7 (Rb_0) 1 _ rfl⟩
  go_wp2_with fail
  go_region_held3 (fun W => Below w.heap.size w W ∧ W.heap[w.heap.size]? = some (Obj.cells #[.int .u64 (x1 : Nat), .int .u64 (y1 : Nat)] 25) ∧ W.heap[w.heap.size + 1]? = some (Obj.cells #[.int .u64 (x2 : Nat), .int .u64 (y2 : Nat)] 25) ∧ W.cell? ⟨w.heap.size, 0, none⟩ = some (.int .u64 (x1 : Nat)) ∧ W.cell? ⟨w.heap.size, 1, none⟩ = some (.int .u64 (y1 : Nat)) ∧ W.cell? ⟨w.heap.size + 1, 0, none⟩ = some (.int .u64 (x2 : Nat)) ∧ W.cell? ⟨w.heap.size + 1, 1, none⟩ = some (.int .u64 (y2 : Nat))) (first | exact s1 | exact s0)
    (first | (go_at_call_of 41 (Value.agg #[.int .u64 (x1 : Nat), .int .u64 (y1 : Nat)]); refine (K1.out _).mono ?_; rintro r wq ⟨rfl, bq⟩; (first | have s1 := sS.out _ _ s1 bq | have s1 := sS.out _ _ s0 bq); clear bq) | (go_at_call_of 41 (Value.agg #[.int .u64 (x2 : Nat), .int .u64 (y2 : Nat)]); refine (K2.out _).mono ?_; rintro r wq ⟨rfl, bq⟩; (first | have s1 := sS.out _ _ s1 bq | have s1 := sS.out _ _ s0 bq); clear bq) | fail)
  have B1 := (And.left s1)
  have Ra_1 := s1.2.1
  have Rb_1 := s1.2.2.1
  clear s0 s1 sS B0 Ra_0 ca_0_0 ca_0_1 Rb_0 cb_0_0 cb_0_1
  obtain ⟨ca_1_0, ca_1_1⟩ := cells2s Ra_1
  obtain ⟨cb_1_0, cb_1_1⟩ := cells2s Rb_1
  go_wp2
  go_ret
  exact ⟨rfl, B1⟩
set_option maxRecDepth 100000 in
set_option maxHeartbeats 8000000 in
theorem rto_tt (f : Int) (x1 y1 x2 y2 : Nat) (n1 n2 : Nat) (c d : Int) (hd : IntKind.i64.wrap (-c) = d) (w : World)
    (K1 : Box (∀ w, Calls Tryd.prog 41 #[.int .u8 f, .agg #[.int .u64 (x1 : Nat), .int .u64 (y1 : Nat)]] w fun r w' => r = .returned (.bool true) ∧ Below w.heap.size w w')) (K2 : Box (∀ w, Calls Tryd.prog 41 #[.int .u8 f, .agg #[.int .u64 (x2 : Nat), .int .u64 (y2 : Nat)]] w fun r w' => r = .returned (.bool true) ∧ Below w.heap.size w w'))
    (KO1 : Box (∀ w, Calls Tryd.prog 43 #[.agg #[.int .u64 (x1 : Nat), .int .u64 (y1 : Nat)]] w fun r w' => r = .returned (.agg (cw 6 n1)) ∧ Below w.heap.size w w')) (KO2 : Box (∀ w, Calls Tryd.prog 43 #[.agg #[.int .u64 (x2 : Nat), .int .u64 (y2 : Nat)]] w fun r w' => r = .returned (.agg (cw 6 n2)) ∧ Below w.heap.size w w')) (KC : Box (∀ w, Calls Tryd.prog 42 #[.agg (cw 6 n1), .agg (cw 6 n2)] w fun r w' => r = .returned (.int .i64 c) ∧ Below w.heap.size w w'))
    : Calls Tryd.prog 23 #[.int .u8 f, .agg #[.int .u64 (x1 : Nat), .int .u64 (y1 : Nat)], .agg #[.int .u64 (x2 : Nat), .int .u64 (y2 : Nat)]] w fun r w' => r = .returned (.int .i64 d) ∧ Below w.heap.size w w' := by
  have hat := cw_at 6
  have hz := cw6z
  have hff := cw6f
  have hs0 := st0
  have hcs : ∀ x, ((cw 6 x).size = 6) = True := fun x => eq_true (cw_size 6 x)
  obtain ⟨Ra_0, Rb_0, B0⟩ := opn2 w (Obj.cells #[.int .u64 (x1 : Nat), .int .u64 (y1 : Nat)] 25) (Obj.cells #[.int .u64 (x2 : Nat), .int .u64 (y2 : Nat)] 25)
  go_enter Tryd.func23, Tryd.ntmps23
  obtain ⟨ca_0_0, ca_0_1⟩ := cells2s Ra_0
  obtain ⟨cb_0_0, cb_0_1⟩ := cells2s Rb_0
  have sS : Box (∀ W W1 : World, (Below w.heap.size w W ∧ W.heap[w.heap.size]? = some (Obj.cells #[.int .u64 (x1 : Nat), .int .u64 (y1 : Nat)] 25) ∧ W.heap[w.heap.size + 1]? = some (Obj.cells #[.int .u64 (x2 : Nat), .int .u64 (y2 : Nat)] 25) ∧ W.cell? ⟨w.heap.size, 0, none⟩ = some (.int .u64 (x1 : Nat)) ∧ W.cell? ⟨w.heap.size, 1, none⟩ = some (.int .u64 (y1 : Nat)) ∧ W.cell? ⟨w.heap.size + 1, 0, none⟩ = some (.int .u64 (x2 : Nat)) ∧ W.cell? ⟨w.heap.size + 1, 1, none⟩ = some (.int .u64 (y2 : Nat))) → Below W.heap.size W W1 → (Below w.heap.size w W1 ∧ W1.heap[w.heap.size]? = some (Obj.cells #[.int .u64 (x1 : Nat), .int .u64 (y1 : Nat)] 25) ∧ W1.heap[w.heap.size + 1]? = some (Obj.cells #[.int .u64 (x2 : Nat), .int .u64 (y2 : Nat)] 25) ∧ W1.cell? ⟨w.heap.size, 0, none⟩ = some (.int .u64 (x1 : Nat)) ∧ W1.cell? ⟨w.heap.size, 1, none⟩ = some (.int .u64 (y1 : Nat)) ∧ W1.cell? ⟨w.heap.size + 1, 0, none⟩ = some (.int .u64 (x2 : Nat)) ∧ W1.cell? ⟨w.heap.size + 1, 1, none⟩ = some (.int .u64 (y2 : Nat)))) := box (fun W W1 h b => ⟨btr h.1 b, heap_of b _ _ _ h.2.1, heap_of b _ _ _ h.2.2.1, cell7 (heap_of b _ _ _ h.2.1) 0 _ rfl, cell7 (heap_of b _ _ _ h.2.1) 1 _ rfl, cell7 (heap_of b _ _ _ h.2.2.1) 0 _ rfl, cell7 (heap_of b _ _ _ h.2.2.1) 1 _ rfl⟩)
  have s0 : Below w.heap.size w (((w.alloc (Obj.cells #[.int .u64 (x1 : Nat), .int .u64 (y1 : Nat)] 25)).alloc (Obj.cells #[.int .u64 (x2 : Nat), .int .u64 (y2 : Nat)] 25))).drew ∧ (((w.alloc (Obj.cells #[.int .u64 (x1 : Nat), .int .u64 (y1 : Nat)] 25)).alloc (Obj.cells #[.int .u64 (x2 : Nat), .int .u64 (y2 : Nat)] 25))).drew.heap[w.heap.size]? = some (Obj.cells #[.int .u64 (x1 : Nat), .int .u64 (y1 : Nat)] 25) ∧ (((w.alloc (Obj.cells #[.int .u64 (x1 : Nat), .int .u64 (y1 : Nat)] 25)).alloc (Obj.cells #[.int .u64 (x2 : Nat), .int .u64 (y2 : Nat)] 25))).drew.heap[w.heap.size + 1]? = some (Obj.cells #[.int .u64 (x2 : Nat), .int .u64 (y2 : Nat)] 25) ∧ (((w.alloc (Obj.cells #[.int .u64 (x1 : Nat), .int .u64 (y1 : Nat)] 25)).alloc (Obj.cells #[.int .u64 (x2 : Nat), .int .u64 (y2 : Nat)] 25))).drew.cell? ⟨w.heap.size, 0, none⟩ = some (.int .u64 (x1 : Nat)) ∧ (((w.alloc (Obj.cells #[.int .u64 (x1 : Nat), .int .u64 (y1 : Nat)] 25)).alloc (Obj.cells #[.int .u64 (x2 : Nat), .int .u64 (y2 : Nat)] 25))).drew.cell? ⟨w.heap.size, 1, none⟩ = some (.int .u64 (y1 : Nat)) ∧ (((w.alloc (Obj.cells #[.int .u64 (x1 : Nat), .int .u64 (y1 : Nat)] 25)).alloc (Obj.cells #[.int .u64 (x2 : Nat), .int .u64 (y2 : Nat)] 25))).drew.cell? ⟨w.heap.size + 1, 0, none⟩ = some (.int .u64 (x2 : Nat)) ∧ (((w.alloc (Obj.cells #[.int .u64 (x1 : Nat), .int .u64 (y1 : Nat)] 25)).alloc (Obj.cells #[.int .u64 (x2 : Nat), .int .u64 (y2 : Nat)] 25))).drew.cell? ⟨w.heap.size + 1, 1, none⟩ = some (.int .u64 (y2 : Nat)) := ⟨B0.drew, Ra_0, Rb_0, cell7 (Ra_0) 0 _ rfl, cell7 (Ra_0) 1 _ rfl, cell7 (Rb_0) 0 _ rfl, cell7 (Rb_0) 1 _ rfl⟩
  go_wp2_with fail
  go_region_held3 (fun W => Below w.heap.size w W ∧ W.heap[w.heap.size]? = some (Obj.cells #[.int .u64 (x1 : Nat), .int .u64 (y1 : Nat)] 25) ∧ W.heap[w.heap.size + 1]? = some (Obj.cells #[.int .u64 (x2 : Nat), .int .u64 (y2 : Nat)] 25) ∧ W.cell? ⟨w.heap.size, 0, none⟩ = some (.int .u64 (x1 : Nat)) ∧ W.cell? ⟨w.heap.size, 1, none⟩ = some (.int .u64 (y1 : Nat)) ∧ W.cell? ⟨w.heap.size + 1, 0, none⟩ = some (.int .u64 (x2 : Nat)) ∧ W.cell? ⟨w.heap.size + 1, 1, none⟩ = some (.int .u64 (y2 : Nat))) (first | exact s1 | exact s0)
    (first | (go_at_call_of 41 (Value.agg #[.int .u64 (x1 : Nat), .int .u64 (y1 : Nat)]); refine (K1.out _).mono ?_; rintro r wq ⟨rfl, bq⟩; (first | have s1 := sS.out _ _ s1 bq | have s1 := sS.out _ _ s0 bq); clear bq) | (go_at_call_of 41 (Value.agg #[.int .u64 (x2 : Nat), .int .u64 (y2 : Nat)]); refine (K2.out _).mono ?_; rintro r wq ⟨rfl, bq⟩; (first | have s1 := sS.out _ _ s1 bq | have s1 := sS.out _ _ s0 bq); clear bq) | fail)
  have B1 := (And.left s1)
  have Ra_1 := s1.2.1
  have Rb_1 := s1.2.2.1
  clear s0 s1 sS B0 Ra_0 ca_0_0 ca_0_1 Rb_0 cb_0_0 cb_0_1
  obtain ⟨ca_1_0, ca_1_1⟩ := cells2s Ra_1
  obtain ⟨cb_1_0, cb_1_1⟩ := cells2s Rb_1
  have sS : Box (∀ W W1 : World, (Below w.heap.size w W ∧ W.heap[w.heap.size]? = some (Obj.cells #[.int .u64 (x1 : Nat), .int .u64 (y1 : Nat)] 25) ∧ W.heap[w.heap.size + 1]? = some (Obj.cells #[.int .u64 (x2 : Nat), .int .u64 (y2 : Nat)] 25) ∧ W.cell? ⟨w.heap.size, 0, none⟩ = some (.int .u64 (x1 : Nat)) ∧ W.cell? ⟨w.heap.size, 1, none⟩ = some (.int .u64 (y1 : Nat)) ∧ W.cell? ⟨w.heap.size + 1, 0, none⟩ = some (.int .u64 (x2 : Nat)) ∧ W.cell? ⟨w.heap.size + 1, 1, none⟩ = some (.int .u64 (y2 : Nat))) → Below W.heap.size W W1 → (Below w.heap.size w W1 ∧ W1.heap[w.heap.size]? = some (Obj.cells #[.int .u64 (x1 : Nat), .int .u64 (y1 : Nat)] 25) ∧ W1.heap[w.heap.size + 1]? = some (Obj.cells #[.int .u64 (x2 : Nat), .int .u64 (y2 : Nat)] 25) ∧ W1.cell? ⟨w.heap.size, 0, none⟩ = some (.int .u64 (x1 : Nat)) ∧ W1.cell? ⟨w.heap.size, 1, none⟩ = some (.int .u64 (y1 : Nat)) ∧ W1.cell? ⟨w.heap.size + 1, 0, none⟩ = some (.int .u64 (x2 : Nat)) ∧ W1.cell? ⟨w.heap.size + 1, 1, none⟩ = some (.int .u64 (y2 : Nat)))) := box (fun W W1 h b => ⟨btr h.1 b, heap_of b _ _ _ h.2.1, heap_of b _ _ _ h.2.2.1, cell7 (heap_of b _ _ _ h.2.1) 0 _ rfl, cell7 (heap_of b _ _ _ h.2.1) 1 _ rfl, cell7 (heap_of b _ _ _ h.2.2.1) 0 _ rfl, cell7 (heap_of b _ _ _ h.2.2.1) 1 _ rfl⟩)
  have s0 : Below w.heap.size w (wq).drew ∧ (wq).drew.heap[w.heap.size]? = some (Obj.cells #[.int .u64 (x1 : Nat), .int .u64 (y1 : Nat)] 25) ∧ (wq).drew.heap[w.heap.size + 1]? = some (Obj.cells #[.int .u64 (x2 : Nat), .int .u64 (y2 : Nat)] 25) ∧ (wq).drew.cell? ⟨w.heap.size, 0, none⟩ = some (.int .u64 (x1 : Nat)) ∧ (wq).drew.cell? ⟨w.heap.size, 1, none⟩ = some (.int .u64 (y1 : Nat)) ∧ (wq).drew.cell? ⟨w.heap.size + 1, 0, none⟩ = some (.int .u64 (x2 : Nat)) ∧ (wq).drew.cell? ⟨w.heap.size + 1, 1, none⟩ = some (.int .u64 (y2 : Nat)) := ⟨B1.drew, Ra_1, Rb_1, cell7 (Ra_1) 0 _ rfl, cell7 (Ra_1) 1 _ rfl, cell7 (Rb_1) 0 _ rfl, cell7 (Rb_1) 1 _ rfl⟩
  go_wp2_with fail
  go_region_held3 (fun W => Below w.heap.size w W ∧ W.heap[w.heap.size]? = some (Obj.cells #[.int .u64 (x1 : Nat), .int .u64 (y1 : Nat)] 25) ∧ W.heap[w.heap.size + 1]? = some (Obj.cells #[.int .u64 (x2 : Nat), .int .u64 (y2 : Nat)] 25) ∧ W.cell? ⟨w.heap.size, 0, none⟩ = some (.int .u64 (x1 : Nat)) ∧ W.cell? ⟨w.heap.size, 1, none⟩ = some (.int .u64 (y1 : Nat)) ∧ W.cell? ⟨w.heap.size + 1, 0, none⟩ = some (.int .u64 (x2 : Nat)) ∧ W.cell? ⟨w.heap.size + 1, 1, none⟩ = some (.int .u64 (y2 : Nat))) (first | exact s1 | exact s0)
    (first | (go_at_call_of 43 (Value.agg #[.int .u64 (x1 : Nat), .int .u64 (y1 : Nat)]); refine (KO1.out _).mono ?_; rintro r wq ⟨rfl, bq⟩; (first | have s1 := sS.out _ _ s1 bq | have s1 := sS.out _ _ s0 bq); clear bq) | (go_at_call_of 43 (Value.agg #[.int .u64 (x2 : Nat), .int .u64 (y2 : Nat)]); refine (KO2.out _).mono ?_; rintro r wq ⟨rfl, bq⟩; (first | have s1 := sS.out _ _ s1 bq | have s1 := sS.out _ _ s0 bq); clear bq) | (go_at_call 42; refine (KC.out _).mono ?_; rintro r wq ⟨rfl, bq⟩; (first | have s1 := sS.out _ _ s1 bq | have s1 := sS.out _ _ s0 bq); clear bq) | fail)
  have B2 := (And.left s1)
  have Ra_2 := s1.2.1
  have Rb_2 := s1.2.2.1
  clear s0 s1 sS B1 Ra_1 ca_1_0 ca_1_1 Rb_1 cb_1_0 cb_1_1
  obtain ⟨ca_2_0, ca_2_1⟩ := cells2s Ra_2
  obtain ⟨cb_2_0, cb_2_1⟩ := cells2s Rb_2
  go_wp2
  go_ret
  exact ⟨rfl, B2⟩
set_option maxRecDepth 100000 in
set_option maxHeartbeats 8000000 in
theorem rto_ff (f : Int) (x1 y1 x2 y2 : Nat) (n1 n2 : Nat) (c : Int) (w : World)
    (K1 : Box (∀ w, Calls Tryd.prog 41 #[.int .u8 f, .agg #[.int .u64 (x1 : Nat), .int .u64 (y1 : Nat)]] w fun r w' => r = .returned (.bool false) ∧ Below w.heap.size w w')) (K2 : Box (∀ w, Calls Tryd.prog 41 #[.int .u8 f, .agg #[.int .u64 (x2 : Nat), .int .u64 (y2 : Nat)]] w fun r w' => r = .returned (.bool false) ∧ Below w.heap.size w w'))
    (KO1 : Box (∀ w, Calls Tryd.prog 43 #[.agg #[.int .u64 (x1 : Nat), .int .u64 (y1 : Nat)]] w fun r w' => r = .returned (.agg (cw 6 n1)) ∧ Below w.heap.size w w')) (KO2 : Box (∀ w, Calls Tryd.prog 43 #[.agg #[.int .u64 (x2 : Nat), .int .u64 (y2 : Nat)]] w fun r w' => r = .returned (.agg (cw 6 n2)) ∧ Below w.heap.size w w')) (KC : Box (∀ w, Calls Tryd.prog 42 #[.agg (cw 6 n1), .agg (cw 6 n2)] w fun r w' => r = .returned (.int .i64 c) ∧ Below w.heap.size w w'))
    : Calls Tryd.prog 23 #[.int .u8 f, .agg #[.int .u64 (x1 : Nat), .int .u64 (y1 : Nat)], .agg #[.int .u64 (x2 : Nat), .int .u64 (y2 : Nat)]] w fun r w' => r = .returned (.int .i64 c) ∧ Below w.heap.size w w' := by
  have hat := cw_at 6
  have hz := cw6z
  have hff := cw6f
  have hs0 := st0
  have hcs : ∀ x, ((cw 6 x).size = 6) = True := fun x => eq_true (cw_size 6 x)
  obtain ⟨Ra_0, Rb_0, B0⟩ := opn2 w (Obj.cells #[.int .u64 (x1 : Nat), .int .u64 (y1 : Nat)] 25) (Obj.cells #[.int .u64 (x2 : Nat), .int .u64 (y2 : Nat)] 25)
  go_enter Tryd.func23, Tryd.ntmps23
  obtain ⟨ca_0_0, ca_0_1⟩ := cells2s Ra_0
  obtain ⟨cb_0_0, cb_0_1⟩ := cells2s Rb_0
  have sS : Box (∀ W W1 : World, (Below w.heap.size w W ∧ W.heap[w.heap.size]? = some (Obj.cells #[.int .u64 (x1 : Nat), .int .u64 (y1 : Nat)] 25) ∧ W.heap[w.heap.size + 1]? = some (Obj.cells #[.int .u64 (x2 : Nat), .int .u64 (y2 : Nat)] 25) ∧ W.cell? ⟨w.heap.size, 0, none⟩ = some (.int .u64 (x1 : Nat)) ∧ W.cell? ⟨w.heap.size, 1, none⟩ = some (.int .u64 (y1 : Nat)) ∧ W.cell? ⟨w.heap.size + 1, 0, none⟩ = some (.int .u64 (x2 : Nat)) ∧ W.cell? ⟨w.heap.size + 1, 1, none⟩ = some (.int .u64 (y2 : Nat))) → Below W.heap.size W W1 → (Below w.heap.size w W1 ∧ W1.heap[w.heap.size]? = some (Obj.cells #[.int .u64 (x1 : Nat), .int .u64 (y1 : Nat)] 25) ∧ W1.heap[w.heap.size + 1]? = some (Obj.cells #[.int .u64 (x2 : Nat), .int .u64 (y2 : Nat)] 25) ∧ W1.cell? ⟨w.heap.size, 0, none⟩ = some (.int .u64 (x1 : Nat)) ∧ W1.cell? ⟨w.heap.size, 1, none⟩ = some (.int .u64 (y1 : Nat)) ∧ W1.cell? ⟨w.heap.size + 1, 0, none⟩ = some (.int .u64 (x2 : Nat)) ∧ W1.cell? ⟨w.heap.size + 1, 1, none⟩ = some (.int .u64 (y2 : Nat)))) := box (fun W W1 h b => ⟨btr h.1 b, heap_of b _ _ _ h.2.1, heap_of b _ _ _ h.2.2.1, cell7 (heap_of b _ _ _ h.2.1) 0 _ rfl, cell7 (heap_of b _ _ _ h.2.1) 1 _ rfl, cell7 (heap_of b _ _ _ h.2.2.1) 0 _ rfl, cell7 (heap_of b _ _ _ h.2.2.1) 1 _ rfl⟩)
  have s0 : Below w.heap.size w (((w.alloc (Obj.cells #[.int .u64 (x1 : Nat), .int .u64 (y1 : Nat)] 25)).alloc (Obj.cells #[.int .u64 (x2 : Nat), .int .u64 (y2 : Nat)] 25))).drew ∧ (((w.alloc (Obj.cells #[.int .u64 (x1 : Nat), .int .u64 (y1 : Nat)] 25)).alloc (Obj.cells #[.int .u64 (x2 : Nat), .int .u64 (y2 : Nat)] 25))).drew.heap[w.heap.size]? = some (Obj.cells #[.int .u64 (x1 : Nat), .int .u64 (y1 : Nat)] 25) ∧ (((w.alloc (Obj.cells #[.int .u64 (x1 : Nat), .int .u64 (y1 : Nat)] 25)).alloc (Obj.cells #[.int .u64 (x2 : Nat), .int .u64 (y2 : Nat)] 25))).drew.heap[w.heap.size + 1]? = some (Obj.cells #[.int .u64 (x2 : Nat), .int .u64 (y2 : Nat)] 25) ∧ (((w.alloc (Obj.cells #[.int .u64 (x1 : Nat), .int .u64 (y1 : Nat)] 25)).alloc (Obj.cells #[.int .u64 (x2 : Nat), .int .u64 (y2 : Nat)] 25))).drew.cell? ⟨w.heap.size, 0, none⟩ = some (.int .u64 (x1 : Nat)) ∧ (((w.alloc (Obj.cells #[.int .u64 (x1 : Nat), .int .u64 (y1 : Nat)] 25)).alloc (Obj.cells #[.int .u64 (x2 : Nat), .int .u64 (y2 : Nat)] 25))).drew.cell? ⟨w.heap.size, 1, none⟩ = some (.int .u64 (y1 : Nat)) ∧ (((w.alloc (Obj.cells #[.int .u64 (x1 : Nat), .int .u64 (y1 : Nat)] 25)).alloc (Obj.cells #[.int .u64 (x2 : Nat), .int .u64 (y2 : Nat)] 25))).drew.cell? ⟨w.heap.size + 1, 0, none⟩ = some (.int .u64 (x2 : Nat)) ∧ (((w.alloc (Obj.cells #[.int .u64 (x1 : Nat), .int .u64 (y1 : Nat)] 25)).alloc (Obj.cells #[.int .u64 (x2 : Nat), .int .u64 (y2 : Nat)] 25))).drew.cell? ⟨w.heap.size + 1, 1, none⟩ = some (.int .u64 (y2 : Nat)) := ⟨B0.drew, Ra_0, Rb_0, cell7 (Ra_0) 0 _ rfl, cell7 (Ra_0) 1 _ rfl, cell7 (Rb_0) 0 _ rfl, cell7 (Rb_0) 1 _ rfl⟩
  go_wp2_with fail
  go_region_held3 (fun W => Below w.heap.size w W ∧ W.heap[w.heap.size]? = some (Obj.cells #[.int .u64 (x1 : Nat), .int .u64 (y1 : Nat)] 25) ∧ W.heap[w.heap.size + 1]? = some (Obj.cells #[.int .u64 (x2 : Nat), .int .u64 (y2 : Nat)] 25) ∧ W.cell? ⟨w.heap.size, 0, none⟩ = some (.int .u64 (x1 : Nat)) ∧ W.cell? ⟨w.heap.size, 1, none⟩ = some (.int .u64 (y1 : Nat)) ∧ W.cell? ⟨w.heap.size + 1, 0, none⟩ = some (.int .u64 (x2 : Nat)) ∧ W.cell? ⟨w.heap.size + 1, 1, none⟩ = some (.int .u64 (y2 : Nat))) (first | exact s1 | exact s0)
    (first | (go_at_call_of 41 (Value.agg #[.int .u64 (x1 : Nat), .int .u64 (y1 : Nat)]); refine (K1.out _).mono ?_; rintro r wq ⟨rfl, bq⟩; (first | have s1 := sS.out _ _ s1 bq | have s1 := sS.out _ _ s0 bq); clear bq) | (go_at_call_of 41 (Value.agg #[.int .u64 (x2 : Nat), .int .u64 (y2 : Nat)]); refine (K2.out _).mono ?_; rintro r wq ⟨rfl, bq⟩; (first | have s1 := sS.out _ _ s1 bq | have s1 := sS.out _ _ s0 bq); clear bq) | fail)
  have B1 := (And.left s1)
  have Ra_1 := s1.2.1
  have Rb_1 := s1.2.2.1
  clear s0 s1 sS B0 Ra_0 ca_0_0 ca_0_1 Rb_0 cb_0_0 cb_0_1
  obtain ⟨ca_1_0, ca_1_1⟩ := cells2s Ra_1
  obtain ⟨cb_1_0, cb_1_1⟩ := cells2s Rb_1
  have sS : Box (∀ W W1 : World, (Below w.heap.size w W ∧ W.heap[w.heap.size]? = some (Obj.cells #[.int .u64 (x1 : Nat), .int .u64 (y1 : Nat)] 25) ∧ W.heap[w.heap.size + 1]? = some (Obj.cells #[.int .u64 (x2 : Nat), .int .u64 (y2 : Nat)] 25) ∧ W.cell? ⟨w.heap.size, 0, none⟩ = some (.int .u64 (x1 : Nat)) ∧ W.cell? ⟨w.heap.size, 1, none⟩ = some (.int .u64 (y1 : Nat)) ∧ W.cell? ⟨w.heap.size + 1, 0, none⟩ = some (.int .u64 (x2 : Nat)) ∧ W.cell? ⟨w.heap.size + 1, 1, none⟩ = some (.int .u64 (y2 : Nat))) → Below W.heap.size W W1 → (Below w.heap.size w W1 ∧ W1.heap[w.heap.size]? = some (Obj.cells #[.int .u64 (x1 : Nat), .int .u64 (y1 : Nat)] 25) ∧ W1.heap[w.heap.size + 1]? = some (Obj.cells #[.int .u64 (x2 : Nat), .int .u64 (y2 : Nat)] 25) ∧ W1.cell? ⟨w.heap.size, 0, none⟩ = some (.int .u64 (x1 : Nat)) ∧ W1.cell? ⟨w.heap.size, 1, none⟩ = some (.int .u64 (y1 : Nat)) ∧ W1.cell? ⟨w.heap.size + 1, 0, none⟩ = some (.int .u64 (x2 : Nat)) ∧ W1.cell? ⟨w.heap.size + 1, 1, none⟩ = some (.int .u64 (y2 : Nat)))) := box (fun W W1 h b => ⟨btr h.1 b, heap_of b _ _ _ h.2.1, heap_of b _ _ _ h.2.2.1, cell7 (heap_of b _ _ _ h.2.1) 0 _ rfl, cell7 (heap_of b _ _ _ h.2.1) 1 _ rfl, cell7 (heap_of b _ _ _ h.2.2.1) 0 _ rfl, cell7 (heap_of b _ _ _ h.2.2.1) 1 _ rfl⟩)
  have s0 : Below w.heap.size w (wq).drew ∧ (wq).drew.heap[w.heap.size]? = some (Obj.cells #[.int .u64 (x1 : Nat), .int .u64 (y1 : Nat)] 25) ∧ (wq).drew.heap[w.heap.size + 1]? = some (Obj.cells #[.int .u64 (x2 : Nat), .int .u64 (y2 : Nat)] 25) ∧ (wq).drew.cell? ⟨w.heap.size, 0, none⟩ = some (.int .u64 (x1 : Nat)) ∧ (wq).drew.cell? ⟨w.heap.size, 1, none⟩ = some (.int .u64 (y1 : Nat)) ∧ (wq).drew.cell? ⟨w.heap.size + 1, 0, none⟩ = some (.int .u64 (x2 : Nat)) ∧ (wq).drew.cell? ⟨w.heap.size + 1, 1, none⟩ = some (.int .u64 (y2 : Nat)) := ⟨B1.drew, Ra_1, Rb_1, cell7 (Ra_1) 0 _ rfl, cell7 (Ra_1) 1 _ rfl, cell7 (Rb_1) 0 _ rfl, cell7 (Rb_1) 1 _ rfl⟩
  go_wp2_with fail
  go_region_held3 (fun W => Below w.heap.size w W ∧ W.heap[w.heap.size]? = some (Obj.cells #[.int .u64 (x1 : Nat), .int .u64 (y1 : Nat)] 25) ∧ W.heap[w.heap.size + 1]? = some (Obj.cells #[.int .u64 (x2 : Nat), .int .u64 (y2 : Nat)] 25) ∧ W.cell? ⟨w.heap.size, 0, none⟩ = some (.int .u64 (x1 : Nat)) ∧ W.cell? ⟨w.heap.size, 1, none⟩ = some (.int .u64 (y1 : Nat)) ∧ W.cell? ⟨w.heap.size + 1, 0, none⟩ = some (.int .u64 (x2 : Nat)) ∧ W.cell? ⟨w.heap.size + 1, 1, none⟩ = some (.int .u64 (y2 : Nat))) (first | exact s1 | exact s0)
    (first | (go_at_call_of 43 (Value.agg #[.int .u64 (x1 : Nat), .int .u64 (y1 : Nat)]); refine (KO1.out _).mono ?_; rintro r wq ⟨rfl, bq⟩; (first | have s1 := sS.out _ _ s1 bq | have s1 := sS.out _ _ s0 bq); clear bq) | (go_at_call_of 43 (Value.agg #[.int .u64 (x2 : Nat), .int .u64 (y2 : Nat)]); refine (KO2.out _).mono ?_; rintro r wq ⟨rfl, bq⟩; (first | have s1 := sS.out _ _ s1 bq | have s1 := sS.out _ _ s0 bq); clear bq) | (go_at_call 42; refine (KC.out _).mono ?_; rintro r wq ⟨rfl, bq⟩; (first | have s1 := sS.out _ _ s1 bq | have s1 := sS.out _ _ s0 bq); clear bq) | fail)
  have B2 := (And.left s1)
  have Ra_2 := s1.2.1
  have Rb_2 := s1.2.2.1
  clear s0 s1 sS B1 Ra_1 ca_1_0 ca_1_1 Rb_1 cb_1_0 cb_1_1
  obtain ⟨ca_2_0, ca_2_1⟩ := cells2s Ra_2
  obtain ⟨cb_2_0, cb_2_1⟩ := cells2s Rb_2
  go_wp2
  go_ret
  exact ⟨rfl, B2⟩
set_option maxRecDepth 100000 in
set_option maxHeartbeats 8000000 in
theorem rex_tt (f : Int) (x1 y1 x2 y2 : Nat) (g : Bool) (fl : Int) (u v : Nat) (w : World)
    (KL : Box (∀ w, Calls Tryd.prog 16 #[.int .u8 f, .agg #[.int .u64 (x1 : Nat), .int .u64 (y1 : Nat)], .agg #[.int .u64 (x2 : Nat), .int .u64 (y2 : Nat)]] w fun r w' => r = .returned (.int .u8 fl) ∧ Below w.heap.size w w'))
    (K1 : Box (∀ w, Calls Tryd.prog 31 #[.int .u8 f, .agg #[.int .u64 (x1 : Nat), .int .u64 (y1 : Nat)]] w fun r w' => r = .returned (.bool true) ∧ Below w.heap.size w w')) (K2 : Box (∀ w, Calls Tryd.prog 31 #[.int .u8 f, .agg #[.int .u64 (x2 : Nat), .int .u64 (y2 : Nat)]] w fun r w' => r = .returned (.bool true) ∧ Below w.heap.size w w'))
    (KN : Box (∀ w, Calls Tryd.prog 37 #[.int .u8 f] w fun r w' => r = .returned (.agg #[.int .u64 (u : Nat), .int .u64 (v : Nat)]) ∧ Below w.heap.size w w'))
    : Calls Tryd.prog 19 #[.int .u8 f, .agg #[.int .u64 (x1 : Nat), .int .u64 (y1 : Nat)], .agg #[.int .u64 (x2 : Nat), .int .u64 (y2 : Nat)], .bool g] w fun r w' => r = .returned (.tuple #[.agg #[.int .u64 (u : Nat), .int .u64 (v : Nat)], .int .u8 fl]) ∧ Below w.heap.size w w' := by
  obtain ⟨Ra_0, Rb_0, Rz_0, B0⟩ := opn3 w (Obj.cells #[.int .u64 (x1 : Nat), .int .u64 (y1 : Nat)] 25) (Obj.cells #[.int .u64 (x2 : Nat), .int .u64 (y2 : Nat)] 25) (Obj.cells #[.int .u64 0, .int .u64 0] 25)
  go_enter Tryd.func19, Tryd.ntmps19
  obtain ⟨ca_0_0, ca_0_1⟩ := cells2s Ra_0
  obtain ⟨cb_0_0, cb_0_1⟩ := cells2s Rb_0
  go_wp2_with fail
  refine (KL.out _).mono ?_
  rintro r w1 ⟨rfl, b1⟩
  have B1 : Below w.heap.size w w1 := btr B0 b1
  have Ra_1 := heap_of b1 _ _ _ Ra_0
  have Rb_1 := heap_of b1 _ _ _ Rb_0
  have Rz_1 := heap_of b1 _ _ _ Rz_0
  clear b1 B0 Ra_0 ca_0_0 ca_0_1 Rb_0 cb_0_0 cb_0_1 Rz_0
  obtain ⟨ca_1_0, ca_1_1⟩ := cells2s Ra_1
  obtain ⟨cb_1_0, cb_1_1⟩ := cells2s Rb_1
  have sS : Box (∀ W W1 : World, (Below w.heap.size w W ∧ W.heap[w.heap.size]? = some (Obj.cells #[.int .u64 (x1 : Nat), .int .u64 (y1 : Nat)] 25) ∧ W.heap[w.heap.size + 1]? = some (Obj.cells #[.int .u64 (x2 : Nat), .int .u64 (y2 : Nat)] 25) ∧ W.heap[w.heap.size + 1 + 1]? = some (Obj.cells #[.int .u64 0, .int .u64 0] 25) ∧ W.cell? ⟨w.heap.size, 0, none⟩ = some (.int .u64 (x1 : Nat)) ∧ W.cell? ⟨w.heap.size, 1, none⟩ = some (.int .u64 (y1 : Nat)) ∧ W.cell? ⟨w.heap.size + 1, 0, none⟩ = some (.int .u64 (x2 : Nat)) ∧ W.cell? ⟨w.heap.size + 1, 1, none⟩ = some (.int .u64 (y2 : Nat))) → Below W.heap.size W W1 → (Below w.heap.size w W1 ∧ W1.heap[w.heap.size]? = some (Obj.cells #[.int .u64 (x1 : Nat), .int .u64 (y1 : Nat)] 25) ∧ W1.heap[w.heap.size + 1]? = some (Obj.cells #[.int .u64 (x2 : Nat), .int .u64 (y2 : Nat)] 25) ∧ W1.heap[w.heap.size + 1 + 1]? = some (Obj.cells #[.int .u64 0, .int .u64 0] 25) ∧ W1.cell? ⟨w.heap.size, 0, none⟩ = some (.int .u64 (x1 : Nat)) ∧ W1.cell? ⟨w.heap.size, 1, none⟩ = some (.int .u64 (y1 : Nat)) ∧ W1.cell? ⟨w.heap.size + 1, 0, none⟩ = some (.int .u64 (x2 : Nat)) ∧ W1.cell? ⟨w.heap.size + 1, 1, none⟩ = some (.int .u64 (y2 : Nat)))) := box (fun W W1 h b => ⟨btr h.1 b, heap_of b _ _ _ h.2.1, heap_of b _ _ _ h.2.2.1, heap_of b _ _ _ h.2.2.2.1, cell7 (heap_of b _ _ _ h.2.1) 0 _ rfl, cell7 (heap_of b _ _ _ h.2.1) 1 _ rfl, cell7 (heap_of b _ _ _ h.2.2.1) 0 _ rfl, cell7 (heap_of b _ _ _ h.2.2.1) 1 _ rfl⟩)
  have s0 : Below w.heap.size w (w1).drew ∧ (w1).drew.heap[w.heap.size]? = some (Obj.cells #[.int .u64 (x1 : Nat), .int .u64 (y1 : Nat)] 25) ∧ (w1).drew.heap[w.heap.size + 1]? = some (Obj.cells #[.int .u64 (x2 : Nat), .int .u64 (y2 : Nat)] 25) ∧ (w1).drew.heap[w.heap.size + 1 + 1]? = some (Obj.cells #[.int .u64 0, .int .u64 0] 25) ∧ (w1).drew.cell? ⟨w.heap.size, 0, none⟩ = some (.int .u64 (x1 : Nat)) ∧ (w1).drew.cell? ⟨w.heap.size, 1, none⟩ = some (.int .u64 (y1 : Nat)) ∧ (w1).drew.cell? ⟨w.heap.size + 1, 0, none⟩ = some (.int .u64 (x2 : Nat)) ∧ (w1).drew.cell? ⟨w.heap.size + 1, 1, none⟩ = some (.int .u64 (y2 : Nat)) := ⟨B1.drew, Ra_1, Rb_1, Rz_1, cell7 (Ra_1) 0 _ rfl, cell7 (Ra_1) 1 _ rfl, cell7 (Rb_1) 0 _ rfl, cell7 (Rb_1) 1 _ rfl⟩
  go_wp2_with fail
  go_region_held3 (fun W => Below w.heap.size w W ∧ W.heap[w.heap.size]? = some (Obj.cells #[.int .u64 (x1 : Nat), .int .u64 (y1 : Nat)] 25) ∧ W.heap[w.heap.size + 1]? = some (Obj.cells #[.int .u64 (x2 : Nat), .int .u64 (y2 : Nat)] 25) ∧ W.heap[w.heap.size + 1 + 1]? = some (Obj.cells #[.int .u64 0, .int .u64 0] 25) ∧ W.cell? ⟨w.heap.size, 0, none⟩ = some (.int .u64 (x1 : Nat)) ∧ W.cell? ⟨w.heap.size, 1, none⟩ = some (.int .u64 (y1 : Nat)) ∧ W.cell? ⟨w.heap.size + 1, 0, none⟩ = some (.int .u64 (x2 : Nat)) ∧ W.cell? ⟨w.heap.size + 1, 1, none⟩ = some (.int .u64 (y2 : Nat))) (first | exact s1 | exact s0)
    (first | (go_at_call_of 31 (Value.agg #[.int .u64 (x1 : Nat), .int .u64 (y1 : Nat)]); refine (K1.out _).mono ?_; rintro r wq ⟨rfl, bq⟩; (first | have s1 := sS.out _ _ s1 bq | have s1 := sS.out _ _ s0 bq); clear bq) | (go_at_call_of 31 (Value.agg #[.int .u64 (x2 : Nat), .int .u64 (y2 : Nat)]); refine (K2.out _).mono ?_; rintro r wq ⟨rfl, bq⟩; (first | have s1 := sS.out _ _ s1 bq | have s1 := sS.out _ _ s0 bq); clear bq) | fail)
  have B2 := (And.left s1)
  have Ra_2 := s1.2.1
  have Rb_2 := s1.2.2.1
  have Rz_2 := s1.2.2.2.1
  clear s0 s1 sS B1 Ra_1 ca_1_0 ca_1_1 Rb_1 cb_1_0 cb_1_1 Rz_1
  obtain ⟨ca_2_0, ca_2_1⟩ := cells2s Ra_2
  obtain ⟨cb_2_0, cb_2_1⟩ := cells2s Rb_2
  go_wp2_with fail
  refine (KN.out _).mono ?_
  rintro r w3 ⟨rfl, b3⟩
  have B3 : Below w.heap.size w w3 := btr B2 b3
  have Ra_3 := heap_of b3 _ _ _ Ra_2
  have Rb_3 := heap_of b3 _ _ _ Rb_2
  have Rz_3 := heap_of b3 _ _ _ Rz_2
  clear b3 B2 Ra_2 ca_2_0 ca_2_1 Rb_2 cb_2_0 cb_2_1 Rz_2
  obtain ⟨ca_3_0, ca_3_1⟩ := cells2s Ra_3
  obtain ⟨cb_3_0, cb_3_1⟩ := cells2s Rb_3
  obtain ⟨cz_3_0, cz_3_1⟩ := cells2s Rz_3
  have q0 := fz (k := 0) Rz_3
  have q1 := fz (k := 1) Rz_3
  obtain ⟨E0, E1⟩ := set2_cells Rz_3 (.int .u64 (u : Nat)) (.int .u64 (v : Nat))
  go_wp2
  exact bodyPost_ret (v := .tuple #[.agg #[.int .u64 (u : Nat), .int .u64 (v : Nat)], .int .u8 fl]) (by simp [results, Tryd.results19, go_sem, E0, E1]) rfl ⟨rfl, set2_below B3 (by first | exact Nat.le_refl _ | omega | (skip; omega)) _ _⟩
set_option maxRecDepth 100000 in
set_option maxHeartbeats 8000000 in
theorem rex_tf (f : Int) (x1 y1 x2 y2 : Nat) (g : Bool) (fl : Int)  (w : World)
    (KL : Box (∀ w, Calls Tryd.prog 16 #[.int .u8 f, .agg #[.int .u64 (x1 : Nat), .int .u64 (y1 : Nat)], .agg #[.int .u64 (x2 : Nat), .int .u64 (y2 : Nat)]] w fun r w' => r = .returned (.int .u8 fl) ∧ Below w.heap.size w w'))
    (K1 : Box (∀ w, Calls Tryd.prog 31 #[.int .u8 f, .agg #[.int .u64 (x1 : Nat), .int .u64 (y1 : Nat)]] w fun r w' => r = .returned (.bool true) ∧ Below w.heap.size w w')) (K2 : Box (∀ w, Calls Tryd.prog 31 #[.int .u8 f, .agg #[.int .u64 (x2 : Nat), .int .u64 (y2 : Nat)]] w fun r w' => r = .returned (.bool false) ∧ Below w.heap.size w w'))
    : Calls Tryd.prog 19 #[.int .u8 f, .agg #[.int .u64 (x1 : Nat), .int .u64 (y1 : Nat)], .agg #[.int .u64 (x2 : Nat), .int .u64 (y2 : Nat)], .bool g] w fun r w' => r = .returned (.tuple #[.agg #[.int .u64 (x2 : Nat), .int .u64 (y2 : Nat)], .int .u8 fl]) ∧ Below w.heap.size w w' := by
  obtain ⟨Ra_0, Rb_0, Rz_0, B0⟩ := opn3 w (Obj.cells #[.int .u64 (x1 : Nat), .int .u64 (y1 : Nat)] 25) (Obj.cells #[.int .u64 (x2 : Nat), .int .u64 (y2 : Nat)] 25) (Obj.cells #[.int .u64 0, .int .u64 0] 25)
  go_enter Tryd.func19, Tryd.ntmps19
  obtain ⟨ca_0_0, ca_0_1⟩ := cells2s Ra_0
  obtain ⟨cb_0_0, cb_0_1⟩ := cells2s Rb_0
  go_wp2_with fail
  refine (KL.out _).mono ?_
  rintro r w1 ⟨rfl, b1⟩
  have B1 : Below w.heap.size w w1 := btr B0 b1
  have Ra_1 := heap_of b1 _ _ _ Ra_0
  have Rb_1 := heap_of b1 _ _ _ Rb_0
  have Rz_1 := heap_of b1 _ _ _ Rz_0
  clear b1 B0 Ra_0 ca_0_0 ca_0_1 Rb_0 cb_0_0 cb_0_1 Rz_0
  obtain ⟨ca_1_0, ca_1_1⟩ := cells2s Ra_1
  obtain ⟨cb_1_0, cb_1_1⟩ := cells2s Rb_1
  have sS : Box (∀ W W1 : World, (Below w.heap.size w W ∧ W.heap[w.heap.size]? = some (Obj.cells #[.int .u64 (x1 : Nat), .int .u64 (y1 : Nat)] 25) ∧ W.heap[w.heap.size + 1]? = some (Obj.cells #[.int .u64 (x2 : Nat), .int .u64 (y2 : Nat)] 25) ∧ W.heap[w.heap.size + 1 + 1]? = some (Obj.cells #[.int .u64 0, .int .u64 0] 25) ∧ W.cell? ⟨w.heap.size, 0, none⟩ = some (.int .u64 (x1 : Nat)) ∧ W.cell? ⟨w.heap.size, 1, none⟩ = some (.int .u64 (y1 : Nat)) ∧ W.cell? ⟨w.heap.size + 1, 0, none⟩ = some (.int .u64 (x2 : Nat)) ∧ W.cell? ⟨w.heap.size + 1, 1, none⟩ = some (.int .u64 (y2 : Nat))) → Below W.heap.size W W1 → (Below w.heap.size w W1 ∧ W1.heap[w.heap.size]? = some (Obj.cells #[.int .u64 (x1 : Nat), .int .u64 (y1 : Nat)] 25) ∧ W1.heap[w.heap.size + 1]? = some (Obj.cells #[.int .u64 (x2 : Nat), .int .u64 (y2 : Nat)] 25) ∧ W1.heap[w.heap.size + 1 + 1]? = some (Obj.cells #[.int .u64 0, .int .u64 0] 25) ∧ W1.cell? ⟨w.heap.size, 0, none⟩ = some (.int .u64 (x1 : Nat)) ∧ W1.cell? ⟨w.heap.size, 1, none⟩ = some (.int .u64 (y1 : Nat)) ∧ W1.cell? ⟨w.heap.size + 1, 0, none⟩ = some (.int .u64 (x2 : Nat)) ∧ W1.cell? ⟨w.heap.size + 1, 1, none⟩ = some (.int .u64 (y2 : Nat)))) := box (fun W W1 h b => ⟨btr h.1 b, heap_of b _ _ _ h.2.1, heap_of b _ _ _ h.2.2.1, heap_of b _ _ _ h.2.2.2.1, cell7 (heap_of b _ _ _ h.2.1) 0 _ rfl, cell7 (heap_of b _ _ _ h.2.1) 1 _ rfl, cell7 (heap_of b _ _ _ h.2.2.1) 0 _ rfl, cell7 (heap_of b _ _ _ h.2.2.1) 1 _ rfl⟩)
  have s0 : Below w.heap.size w (w1).drew ∧ (w1).drew.heap[w.heap.size]? = some (Obj.cells #[.int .u64 (x1 : Nat), .int .u64 (y1 : Nat)] 25) ∧ (w1).drew.heap[w.heap.size + 1]? = some (Obj.cells #[.int .u64 (x2 : Nat), .int .u64 (y2 : Nat)] 25) ∧ (w1).drew.heap[w.heap.size + 1 + 1]? = some (Obj.cells #[.int .u64 0, .int .u64 0] 25) ∧ (w1).drew.cell? ⟨w.heap.size, 0, none⟩ = some (.int .u64 (x1 : Nat)) ∧ (w1).drew.cell? ⟨w.heap.size, 1, none⟩ = some (.int .u64 (y1 : Nat)) ∧ (w1).drew.cell? ⟨w.heap.size + 1, 0, none⟩ = some (.int .u64 (x2 : Nat)) ∧ (w1).drew.cell? ⟨w.heap.size + 1, 1, none⟩ = some (.int .u64 (y2 : Nat)) := ⟨B1.drew, Ra_1, Rb_1, Rz_1, cell7 (Ra_1) 0 _ rfl, cell7 (Ra_1) 1 _ rfl, cell7 (Rb_1) 0 _ rfl, cell7 (Rb_1) 1 _ rfl⟩
  go_wp2_with fail
  go_region_held3 (fun W => Below w.heap.size w W ∧ W.heap[w.heap.size]? = some (Obj.cells #[.int .u64 (x1 : Nat), .int .u64 (y1 : Nat)] 25) ∧ W.heap[w.heap.size + 1]? = some (Obj.cells #[.int .u64 (x2 : Nat), .int .u64 (y2 : Nat)] 25) ∧ W.heap[w.heap.size + 1 + 1]? = some (Obj.cells #[.int .u64 0, .int .u64 0] 25) ∧ W.cell? ⟨w.heap.size, 0, none⟩ = some (.int .u64 (x1 : Nat)) ∧ W.cell? ⟨w.heap.size, 1, none⟩ = some (.int .u64 (y1 : Nat)) ∧ W.cell? ⟨w.heap.size + 1, 0, none⟩ = some (.int .u64 (x2 : Nat)) ∧ W.cell? ⟨w.heap.size + 1, 1, none⟩ = some (.int .u64 (y2 : Nat))) (first | exact s1 | exact s0)
    (first | (go_at_call_of 31 (Value.agg #[.int .u64 (x1 : Nat), .int .u64 (y1 : Nat)]); refine (K1.out _).mono ?_; rintro r wq ⟨rfl, bq⟩; (first | have s1 := sS.out _ _ s1 bq | have s1 := sS.out _ _ s0 bq); clear bq) | (go_at_call_of 31 (Value.agg #[.int .u64 (x2 : Nat), .int .u64 (y2 : Nat)]); refine (K2.out _).mono ?_; rintro r wq ⟨rfl, bq⟩; (first | have s1 := sS.out _ _ s1 bq | have s1 := sS.out _ _ s0 bq); clear bq) | fail)
  have B2 := (And.left s1)
  have Ra_2 := s1.2.1
  have Rb_2 := s1.2.2.1
  have Rz_2 := s1.2.2.2.1
  clear s0 s1 sS B1 Ra_1 ca_1_0 ca_1_1 Rb_1 cb_1_0 cb_1_1 Rz_1
  obtain ⟨ca_2_0, ca_2_1⟩ := cells2s Ra_2
  obtain ⟨cb_2_0, cb_2_1⟩ := cells2s Rb_2
  obtain ⟨cz_2_0, cz_2_1⟩ := cells2s Rz_2
  have q0 := fz (k := 0) Rz_2
  have q1 := fz (k := 1) Rz_2
  obtain ⟨E0, E1⟩ := set2_cells Rz_2 (.int .u64 (x2 : Nat)) (.int .u64 (y2 : Nat))
  go_wp2
  exact bodyPost_ret (v := .tuple #[.agg #[.int .u64 (x2 : Nat), .int .u64 (y2 : Nat)], .int .u8 fl]) (by simp [results, Tryd.results19, go_sem, E0, E1]) rfl ⟨rfl, set2_below B2 (by first | exact Nat.le_refl _ | omega | (skip; omega)) _ _⟩
set_option maxRecDepth 100000 in
set_option maxHeartbeats 8000000 in
theorem rex_ft (f : Int) (x1 y1 x2 y2 : Nat) (g : Bool) (fl : Int)  (w : World)
    (KL : Box (∀ w, Calls Tryd.prog 16 #[.int .u8 f, .agg #[.int .u64 (x1 : Nat), .int .u64 (y1 : Nat)], .agg #[.int .u64 (x2 : Nat), .int .u64 (y2 : Nat)]] w fun r w' => r = .returned (.int .u8 fl) ∧ Below w.heap.size w w'))
    (K1 : Box (∀ w, Calls Tryd.prog 31 #[.int .u8 f, .agg #[.int .u64 (x1 : Nat), .int .u64 (y1 : Nat)]] w fun r w' => r = .returned (.bool false) ∧ Below w.heap.size w w')) (K2 : Box (∀ w, Calls Tryd.prog 31 #[.int .u8 f, .agg #[.int .u64 (x2 : Nat), .int .u64 (y2 : Nat)]] w fun r w' => r = .returned (.bool true) ∧ Below w.heap.size w w'))
    : Calls Tryd.prog 19 #[.int .u8 f, .agg #[.int .u64 (x1 : Nat), .int .u64 (y1 : Nat)], .agg #[.int .u64 (x2 : Nat), .int .u64 (y2 : Nat)], .bool g] w fun r w' => r = .returned (.tuple #[.agg #[.int .u64 (x1 : Nat), .int .u64 (y1 : Nat)], .int .u8 fl]) ∧ Below w.heap.size w w' := by
  obtain ⟨Ra_0, Rb_0, Rz_0, B0⟩ := opn3 w (Obj.cells #[.int .u64 (x1 : Nat), .int .u64 (y1 : Nat)] 25) (Obj.cells #[.int .u64 (x2 : Nat), .int .u64 (y2 : Nat)] 25) (Obj.cells #[.int .u64 0, .int .u64 0] 25)
  go_enter Tryd.func19, Tryd.ntmps19
  obtain ⟨ca_0_0, ca_0_1⟩ := cells2s Ra_0
  obtain ⟨cb_0_0, cb_0_1⟩ := cells2s Rb_0
  go_wp2_with fail
  refine (KL.out _).mono ?_
  rintro r w1 ⟨rfl, b1⟩
  have B1 : Below w.heap.size w w1 := btr B0 b1
  have Ra_1 := heap_of b1 _ _ _ Ra_0
  have Rb_1 := heap_of b1 _ _ _ Rb_0
  have Rz_1 := heap_of b1 _ _ _ Rz_0
  clear b1 B0 Ra_0 ca_0_0 ca_0_1 Rb_0 cb_0_0 cb_0_1 Rz_0
  obtain ⟨ca_1_0, ca_1_1⟩ := cells2s Ra_1
  obtain ⟨cb_1_0, cb_1_1⟩ := cells2s Rb_1
  have sS : Box (∀ W W1 : World, (Below w.heap.size w W ∧ W.heap[w.heap.size]? = some (Obj.cells #[.int .u64 (x1 : Nat), .int .u64 (y1 : Nat)] 25) ∧ W.heap[w.heap.size + 1]? = some (Obj.cells #[.int .u64 (x2 : Nat), .int .u64 (y2 : Nat)] 25) ∧ W.heap[w.heap.size + 1 + 1]? = some (Obj.cells #[.int .u64 0, .int .u64 0] 25) ∧ W.cell? ⟨w.heap.size, 0, none⟩ = some (.int .u64 (x1 : Nat)) ∧ W.cell? ⟨w.heap.size, 1, none⟩ = some (.int .u64 (y1 : Nat)) ∧ W.cell? ⟨w.heap.size + 1, 0, none⟩ = some (.int .u64 (x2 : Nat)) ∧ W.cell? ⟨w.heap.size + 1, 1, none⟩ = some (.int .u64 (y2 : Nat))) → Below W.heap.size W W1 → (Below w.heap.size w W1 ∧ W1.heap[w.heap.size]? = some (Obj.cells #[.int .u64 (x1 : Nat), .int .u64 (y1 : Nat)] 25) ∧ W1.heap[w.heap.size + 1]? = some (Obj.cells #[.int .u64 (x2 : Nat), .int .u64 (y2 : Nat)] 25) ∧ W1.heap[w.heap.size + 1 + 1]? = some (Obj.cells #[.int .u64 0, .int .u64 0] 25) ∧ W1.cell? ⟨w.heap.size, 0, none⟩ = some (.int .u64 (x1 : Nat)) ∧ W1.cell? ⟨w.heap.size, 1, none⟩ = some (.int .u64 (y1 : Nat)) ∧ W1.cell? ⟨w.heap.size + 1, 0, none⟩ = some (.int .u64 (x2 : Nat)) ∧ W1.cell? ⟨w.heap.size + 1, 1, none⟩ = some (.int .u64 (y2 : Nat)))) := box (fun W W1 h b => ⟨btr h.1 b, heap_of b _ _ _ h.2.1, heap_of b _ _ _ h.2.2.1, heap_of b _ _ _ h.2.2.2.1, cell7 (heap_of b _ _ _ h.2.1) 0 _ rfl, cell7 (heap_of b _ _ _ h.2.1) 1 _ rfl, cell7 (heap_of b _ _ _ h.2.2.1) 0 _ rfl, cell7 (heap_of b _ _ _ h.2.2.1) 1 _ rfl⟩)
  have s0 : Below w.heap.size w (w1).drew ∧ (w1).drew.heap[w.heap.size]? = some (Obj.cells #[.int .u64 (x1 : Nat), .int .u64 (y1 : Nat)] 25) ∧ (w1).drew.heap[w.heap.size + 1]? = some (Obj.cells #[.int .u64 (x2 : Nat), .int .u64 (y2 : Nat)] 25) ∧ (w1).drew.heap[w.heap.size + 1 + 1]? = some (Obj.cells #[.int .u64 0, .int .u64 0] 25) ∧ (w1).drew.cell? ⟨w.heap.size, 0, none⟩ = some (.int .u64 (x1 : Nat)) ∧ (w1).drew.cell? ⟨w.heap.size, 1, none⟩ = some (.int .u64 (y1 : Nat)) ∧ (w1).drew.cell? ⟨w.heap.size + 1, 0, none⟩ = some (.int .u64 (x2 : Nat)) ∧ (w1).drew.cell? ⟨w.heap.size + 1, 1, none⟩ = some (.int .u64 (y2 : Nat)) := ⟨B1.drew, Ra_1, Rb_1, Rz_1, cell7 (Ra_1) 0 _ rfl, cell7 (Ra_1) 1 _ rfl, cell7 (Rb_1) 0 _ rfl, cell7 (Rb_1) 1 _ rfl⟩
  go_wp2_with fail
  go_region_held3 (fun W => Below w.heap.size w W ∧ W.heap[w.heap.size]? = some (Obj.cells #[.int .u64 (x1 : Nat), .int .u64 (y1 : Nat)] 25) ∧ W.heap[w.heap.size + 1]? = some (Obj.cells #[.int .u64 (x2 : Nat), .int .u64 (y2 : Nat)] 25) ∧ W.heap[w.heap.size + 1 + 1]? = some (Obj.cells #[.int .u64 0, .int .u64 0] 25) ∧ W.cell? ⟨w.heap.size, 0, none⟩ = some (.int .u64 (x1 : Nat)) ∧ W.cell? ⟨w.heap.size, 1, none⟩ = some (.int .u64 (y1 : Nat)) ∧ W.cell? ⟨w.heap.size + 1, 0, none⟩ = some (.int .u64 (x2 : Nat)) ∧ W.cell? ⟨w.heap.size + 1, 1, none⟩ = some (.int .u64 (y2 : Nat))) (first | exact s1 | exact s0)
    (first | (go_at_call_of 31 (Value.agg #[.int .u64 (x1 : Nat), .int .u64 (y1 : Nat)]); refine (K1.out _).mono ?_; rintro r wq ⟨rfl, bq⟩; (first | have s1 := sS.out _ _ s1 bq | have s1 := sS.out _ _ s0 bq); clear bq) | (go_at_call_of 31 (Value.agg #[.int .u64 (x2 : Nat), .int .u64 (y2 : Nat)]); refine (K2.out _).mono ?_; rintro r wq ⟨rfl, bq⟩; (first | have s1 := sS.out _ _ s1 bq | have s1 := sS.out _ _ s0 bq); clear bq) | fail)
  have B2 := (And.left s1)
  have Ra_2 := s1.2.1
  have Rb_2 := s1.2.2.1
  have Rz_2 := s1.2.2.2.1
  clear s0 s1 sS B1 Ra_1 ca_1_0 ca_1_1 Rb_1 cb_1_0 cb_1_1 Rz_1
  obtain ⟨ca_2_0, ca_2_1⟩ := cells2s Ra_2
  obtain ⟨cb_2_0, cb_2_1⟩ := cells2s Rb_2
  obtain ⟨cz_2_0, cz_2_1⟩ := cells2s Rz_2
  have q0 := fz (k := 0) Rz_2
  have q1 := fz (k := 1) Rz_2
  obtain ⟨E0, E1⟩ := set2_cells Rz_2 (.int .u64 (x1 : Nat)) (.int .u64 (y1 : Nat))
  go_wp2
  exact bodyPost_ret (v := .tuple #[.agg #[.int .u64 (x1 : Nat), .int .u64 (y1 : Nat)], .int .u8 fl]) (by simp [results, Tryd.results19, go_sem, E0, E1]) rfl ⟨rfl, set2_below B2 (by first | exact Nat.le_refl _ | omega | (skip; omega)) _ _⟩
set_option maxRecDepth 100000 in
set_option maxHeartbeats 8000000 in
theorem rex_a (f : Int) (x1 y1 x2 y2 : Nat) (g : Bool) (fl : Int) (c : Int) (o : Bool) (ho : decide (c < 0) = o) (hg : (!(o == g)) = true) (w : World)
    (KL : Box (∀ w, Calls Tryd.prog 16 #[.int .u8 f, .agg #[.int .u64 (x1 : Nat), .int .u64 (y1 : Nat)], .agg #[.int .u64 (x2 : Nat), .int .u64 (y2 : Nat)]] w fun r w' => r = .returned (.int .u8 fl) ∧ Below w.heap.size w w'))
    (K1 : Box (∀ w, Calls Tryd.prog 31 #[.int .u8 f, .agg #[.int .u64 (x1 : Nat), .int .u64 (y1 : Nat)]] w fun r w' => r = .returned (.bool false) ∧ Below w.heap.size w w')) (K2 : Box (∀ w, Calls Tryd.prog 31 #[.int .u8 f, .agg #[.int .u64 (x2 : Nat), .int .u64 (y2 : Nat)]] w fun r w' => r = .returned (.bool false) ∧ Below w.heap.size w w'))
    (KT : Box (∀ w, Calls Tryd.prog 23 #[.int .u8 f, .agg #[.int .u64 (x1 : Nat), .int .u64 (y1 : Nat)], .agg #[.int .u64 (x2 : Nat), .int .u64 (y2 : Nat)]] w fun r w' => r = .returned (.int .i64 c) ∧ Below w.heap.size w w'))
    : Calls Tryd.prog 19 #[.int .u8 f, .agg #[.int .u64 (x1 : Nat), .int .u64 (y1 : Nat)], .agg #[.int .u64 (x2 : Nat), .int .u64 (y2 : Nat)], .bool g] w fun r w' => r = .returned (.tuple #[.agg #[.int .u64 (x1 : Nat), .int .u64 (y1 : Nat)], .int .u8 fl]) ∧ Below w.heap.size w w' := by
  obtain ⟨Ra_0, Rb_0, Rz_0, B0⟩ := opn3 w (Obj.cells #[.int .u64 (x1 : Nat), .int .u64 (y1 : Nat)] 25) (Obj.cells #[.int .u64 (x2 : Nat), .int .u64 (y2 : Nat)] 25) (Obj.cells #[.int .u64 0, .int .u64 0] 25)
  go_enter Tryd.func19, Tryd.ntmps19
  obtain ⟨ca_0_0, ca_0_1⟩ := cells2s Ra_0
  obtain ⟨cb_0_0, cb_0_1⟩ := cells2s Rb_0
  go_wp2_with fail
  refine (KL.out _).mono ?_
  rintro r w1 ⟨rfl, b1⟩
  have B1 : Below w.heap.size w w1 := btr B0 b1
  have Ra_1 := heap_of b1 _ _ _ Ra_0
  have Rb_1 := heap_of b1 _ _ _ Rb_0
  have Rz_1 := heap_of b1 _ _ _ Rz_0
  clear b1 B0 Ra_0 ca_0_0 ca_0_1 Rb_0 cb_0_0 cb_0_1 Rz_0
  obtain ⟨ca_1_0, ca_1_1⟩ := cells2s Ra_1
  obtain ⟨cb_1_0, cb_1_1⟩ := cells2s Rb_1
  have sS : Box (∀ W W1 : World, (Below w.heap.size w W ∧ W.heap[w.heap.size]? = some (Obj.cells #[.int .u64 (x1 : Nat), .int .u64 (y1 : Nat)] 25) ∧ W.heap[w.heap.size + 1]? = some (Obj.cells #[.int .u64 (x2 : Nat), .int .u64 (y2 : Nat)] 25) ∧ W.heap[w.heap.size + 1 + 1]? = some (Obj.cells #[.int .u64 0, .int .u64 0] 25) ∧ W.cell? ⟨w.heap.size, 0, none⟩ = some (.int .u64 (x1 : Nat)) ∧ W.cell? ⟨w.heap.size, 1, none⟩ = some (.int .u64 (y1 : Nat)) ∧ W.cell? ⟨w.heap.size + 1, 0, none⟩ = some (.int .u64 (x2 : Nat)) ∧ W.cell? ⟨w.heap.size + 1, 1, none⟩ = some (.int .u64 (y2 : Nat))) → Below W.heap.size W W1 → (Below w.heap.size w W1 ∧ W1.heap[w.heap.size]? = some (Obj.cells #[.int .u64 (x1 : Nat), .int .u64 (y1 : Nat)] 25) ∧ W1.heap[w.heap.size + 1]? = some (Obj.cells #[.int .u64 (x2 : Nat), .int .u64 (y2 : Nat)] 25) ∧ W1.heap[w.heap.size + 1 + 1]? = some (Obj.cells #[.int .u64 0, .int .u64 0] 25) ∧ W1.cell? ⟨w.heap.size, 0, none⟩ = some (.int .u64 (x1 : Nat)) ∧ W1.cell? ⟨w.heap.size, 1, none⟩ = some (.int .u64 (y1 : Nat)) ∧ W1.cell? ⟨w.heap.size + 1, 0, none⟩ = some (.int .u64 (x2 : Nat)) ∧ W1.cell? ⟨w.heap.size + 1, 1, none⟩ = some (.int .u64 (y2 : Nat)))) := box (fun W W1 h b => ⟨btr h.1 b, heap_of b _ _ _ h.2.1, heap_of b _ _ _ h.2.2.1, heap_of b _ _ _ h.2.2.2.1, cell7 (heap_of b _ _ _ h.2.1) 0 _ rfl, cell7 (heap_of b _ _ _ h.2.1) 1 _ rfl, cell7 (heap_of b _ _ _ h.2.2.1) 0 _ rfl, cell7 (heap_of b _ _ _ h.2.2.1) 1 _ rfl⟩)
  have s0 : Below w.heap.size w (w1).drew ∧ (w1).drew.heap[w.heap.size]? = some (Obj.cells #[.int .u64 (x1 : Nat), .int .u64 (y1 : Nat)] 25) ∧ (w1).drew.heap[w.heap.size + 1]? = some (Obj.cells #[.int .u64 (x2 : Nat), .int .u64 (y2 : Nat)] 25) ∧ (w1).drew.heap[w.heap.size + 1 + 1]? = some (Obj.cells #[.int .u64 0, .int .u64 0] 25) ∧ (w1).drew.cell? ⟨w.heap.size, 0, none⟩ = some (.int .u64 (x1 : Nat)) ∧ (w1).drew.cell? ⟨w.heap.size, 1, none⟩ = some (.int .u64 (y1 : Nat)) ∧ (w1).drew.cell? ⟨w.heap.size + 1, 0, none⟩ = some (.int .u64 (x2 : Nat)) ∧ (w1).drew.cell? ⟨w.heap.size + 1, 1, none⟩ = some (.int .u64 (y2 : Nat)) := ⟨B1.drew, Ra_1, Rb_1, Rz_1, cell7 (Ra_1) 0 _ rfl, cell7 (Ra_1) 1 _ rfl, cell7 (Rb_1) 0 _ rfl, cell7 (Rb_1) 1 _ rfl⟩
  go_wp2_with fail
  go_region_held3 (fun W => Below w.heap.size w W ∧ W.heap[w.heap.size]? = some (Obj.cells #[.int .u64 (x1 : Nat), .int .u64 (y1 : Nat)] 25) ∧ W.heap[w.heap.size + 1]? = some (Obj.cells #[.int .u64 (x2 : Nat), .int .u64 (y2 : Nat)] 25) ∧ W.heap[w.heap.size + 1 + 1]? = some (Obj.cells #[.int .u64 0, .int .u64 0] 25) ∧ W.cell? ⟨w.heap.size, 0, none⟩ = some (.int .u64 (x1 : Nat)) ∧ W.cell? ⟨w.heap.size, 1, none⟩ = some (.int .u64 (y1 : Nat)) ∧ W.cell? ⟨w.heap.size + 1, 0, none⟩ = some (.int .u64 (x2 : Nat)) ∧ W.cell? ⟨w.heap.size + 1, 1, none⟩ = some (.int .u64 (y2 : Nat))) (first | exact s1 | exact s0)
    (first | (go_at_call_of 31 (Value.agg #[.int .u64 (x1 : Nat), .int .u64 (y1 : Nat)]); refine (K1.out _).mono ?_; rintro r wq ⟨rfl, bq⟩; (first | have s1 := sS.out _ _ s1 bq | have s1 := sS.out _ _ s0 bq); clear bq) | (go_at_call_of 31 (Value.agg #[.int .u64 (x2 : Nat), .int .u64 (y2 : Nat)]); refine (K2.out _).mono ?_; rintro r wq ⟨rfl, bq⟩; (first | have s1 := sS.out _ _ s1 bq | have s1 := sS.out _ _ s0 bq); clear bq) | fail)
  have B2 := (And.left s1)
  have Ra_2 := s1.2.1
  have Rb_2 := s1.2.2.1
  have Rz_2 := s1.2.2.2.1
  clear s0 s1 sS B1 Ra_1 ca_1_0 ca_1_1 Rb_1 cb_1_0 cb_1_1 Rz_1
  obtain ⟨ca_2_0, ca_2_1⟩ := cells2s Ra_2
  obtain ⟨cb_2_0, cb_2_1⟩ := cells2s Rb_2
  go_wp2_with fail
  refine (KT.out _).mono ?_
  rintro r w3 ⟨rfl, b3⟩
  have B3 : Below w.heap.size w w3 := btr B2 b3
  have Ra_3 := heap_of b3 _ _ _ Ra_2
  have Rb_3 := heap_of b3 _ _ _ Rb_2
  have Rz_3 := heap_of b3 _ _ _ Rz_2
  clear b3 B2 Ra_2 ca_2_0 ca_2_1 Rb_2 cb_2_0 cb_2_1 Rz_2
  obtain ⟨ca_3_0, ca_3_1⟩ := cells2s Ra_3
  obtain ⟨cb_3_0, cb_3_1⟩ := cells2s Rb_3
  obtain ⟨cz_3_0, cz_3_1⟩ := cells2s Rz_3
  have q0 := fz (k := 0) Rz_3
  have q1 := fz (k := 1) Rz_3
  obtain ⟨E0, E1⟩ := set2_cells Rz_3 (.int .u64 (x1 : Nat)) (.int .u64 (y1 : Nat))
  go_wp2
  exact bodyPost_ret (v := .tuple #[.agg #[.int .u64 (x1 : Nat), .int .u64 (y1 : Nat)], .int .u8 fl]) (by simp [results, Tryd.results19, go_sem, E0, E1]) rfl ⟨rfl, set2_below B3 (by first | exact Nat.le_refl _ | omega | (skip; omega)) _ _⟩
set_option maxRecDepth 100000 in
set_option maxHeartbeats 8000000 in
theorem rex_b (f : Int) (x1 y1 x2 y2 : Nat) (g : Bool) (fl : Int) (c : Int) (o : Bool) (ho : decide (c < 0) = o) (hg : (!(o == g)) = false) (w : World)
    (KL : Box (∀ w, Calls Tryd.prog 16 #[.int .u8 f, .agg #[.int .u64 (x1 : Nat), .int .u64 (y1 : Nat)], .agg #[.int .u64 (x2 : Nat), .int .u64 (y2 : Nat)]] w fun r w' => r = .returned (.int .u8 fl) ∧ Below w.heap.size w w'))
    (K1 : Box (∀ w, Calls Tryd.prog 31 #[.int .u8 f, .agg #[.int .u64 (x1 : Nat), .int .u64 (y1 : Nat)]] w fun r w' => r = .returned (.bool false) ∧ Below w.heap.size w w')) (K2 : Box (∀ w, Calls Tryd.prog 31 #[.int .u8 f, .agg #[.int .u64 (x2 : Nat), .int .u64 (y2 : Nat)]] w fun r w' => r = .returned (.bool false) ∧ Below w.heap.size w w'))
    (KT : Box (∀ w, Calls Tryd.prog 23 #[.int .u8 f, .agg #[.int .u64 (x1 : Nat), .int .u64 (y1 : Nat)], .agg #[.int .u64 (x2 : Nat), .int .u64 (y2 : Nat)]] w fun r w' => r = .returned (.int .i64 c) ∧ Below w.heap.size w w'))
    : Calls Tryd.prog 19 #[.int .u8 f, .agg #[.int .u64 (x1 : Nat), .int .u64 (y1 : Nat)], .agg #[.int .u64 (x2 : Nat), .int .u64 (y2 : Nat)], .bool g] w fun r w' => r = .returned (.tuple #[.agg #[.int .u64 (x2 : Nat), .int .u64 (y2 : Nat)], .int .u8 fl]) ∧ Below w.heap.size w w' := by
  obtain ⟨Ra_0, Rb_0, Rz_0, B0⟩ := opn3 w (Obj.cells #[.int .u64 (x1 : Nat), .int .u64 (y1 : Nat)] 25) (Obj.cells #[.int .u64 (x2 : Nat), .int .u64 (y2 : Nat)] 25) (Obj.cells #[.int .u64 0, .int .u64 0] 25)
  go_enter Tryd.func19, Tryd.ntmps19
  obtain ⟨ca_0_0, ca_0_1⟩ := cells2s Ra_0
  obtain ⟨cb_0_0, cb_0_1⟩ := cells2s Rb_0
  go_wp2_with fail
  refine (KL.out _).mono ?_
  rintro r w1 ⟨rfl, b1⟩
  have B1 : Below w.heap.size w w1 := btr B0 b1
  have Ra_1 := heap_of b1 _ _ _ Ra_0
  have Rb_1 := heap_of b1 _ _ _ Rb_0
  have Rz_1 := heap_of b1 _ _ _ Rz_0
  clear b1 B0 Ra_0 ca_0_0 ca_0_1 Rb_0 cb_0_0 cb_0_1 Rz_0
  obtain ⟨ca_1_0, ca_1_1⟩ := cells2s Ra_1
  obtain ⟨cb_1_0, cb_1_1⟩ := cells2s Rb_1
  have sS : Box (∀ W W1 : World, (Below w.heap.size w W ∧ W.heap[w.heap.size]? = some (Obj.cells #[.int .u64 (x1 : Nat), .int .u64 (y1 : Nat)] 25) ∧ W.heap[w.heap.size + 1]? = some (Obj.cells #[.int .u64 (x2 : Nat), .int .u64 (y2 : Nat)] 25) ∧ W.heap[w.heap.size + 1 + 1]? = some (Obj.cells #[.int .u64 0, .int .u64 0] 25) ∧ W.cell? ⟨w.heap.size, 0, none⟩ = some (.int .u64 (x1 : Nat)) ∧ W.cell? ⟨w.heap.size, 1, none⟩ = some (.int .u64 (y1 : Nat)) ∧ W.cell? ⟨w.heap.size + 1, 0, none⟩ = some (.int .u64 (x2 : Nat)) ∧ W.cell? ⟨w.heap.size + 1, 1, none⟩ = some (.int .u64 (y2 : Nat))) → Below W.heap.size W W1 → (Below w.heap.size w W1 ∧ W1.heap[w.heap.size]? = some (Obj.cells #[.int .u64 (x1 : Nat), .int .u64 (y1 : Nat)] 25) ∧ W1.heap[w.heap.size + 1]? = some (Obj.cells #[.int .u64 (x2 : Nat), .int .u64 (y2 : Nat)] 25) ∧ W1.heap[w.heap.size + 1 + 1]? = some (Obj.cells #[.int .u64 0, .int .u64 0] 25) ∧ W1.cell? ⟨w.heap.size, 0, none⟩ = some (.int .u64 (x1 : Nat)) ∧ W1.cell? ⟨w.heap.size, 1, none⟩ = some (.int .u64 (y1 : Nat)) ∧ W1.cell? ⟨w.heap.size + 1, 0, none⟩ = some (.int .u64 (x2 : Nat)) ∧ W1.cell? ⟨w.heap.size + 1, 1, none⟩ = some (.int .u64 (y2 : Nat)))) := box (fun W W1 h b => ⟨btr h.1 b, heap_of b _ _ _ h.2.1, heap_of b _ _ _ h.2.2.1, heap_of b _ _ _ h.2.2.2.1, cell7 (heap_of b _ _ _ h.2.1) 0 _ rfl, cell7 (heap_of b _ _ _ h.2.1) 1 _ rfl, cell7 (heap_of b _ _ _ h.2.2.1) 0 _ rfl, cell7 (heap_of b _ _ _ h.2.2.1) 1 _ rfl⟩)
  have s0 : Below w.heap.size w (w1).drew ∧ (w1).drew.heap[w.heap.size]? = some (Obj.cells #[.int .u64 (x1 : Nat), .int .u64 (y1 : Nat)] 25) ∧ (w1).drew.heap[w.heap.size + 1]? = some (Obj.cells #[.int .u64 (x2 : Nat), .int .u64 (y2 : Nat)] 25) ∧ (w1).drew.heap[w.heap.size + 1 + 1]? = some (Obj.cells #[.int .u64 0, .int .u64 0] 25) ∧ (w1).drew.cell? ⟨w.heap.size, 0, none⟩ = some (.int .u64 (x1 : Nat)) ∧ (w1).drew.cell? ⟨w.heap.size, 1, none⟩ = some (.int .u64 (y1 : Nat)) ∧ (w1).drew.cell? ⟨w.heap.size + 1, 0, none⟩ = some (.int .u64 (x2 : Nat)) ∧ (w1).drew.cell? ⟨w.heap.size + 1, 1, none⟩ = some (.int .u64 (y2 : Nat)) := ⟨B1.drew, Ra_1, Rb_1, Rz_1, cell7 (Ra_1) 0 _ rfl, cell7 (Ra_1) 1 _ rfl, cell7 (Rb_1) 0 _ rfl, cell7 (Rb_1) 1 _ rfl⟩
  go_wp2_with fail
  go_region_held3 (fun W => Below w.heap.size w W ∧ W.heap[w.heap.size]? = some (Obj.cells #[.int .u64 (x1 : Nat), .int .u64 (y1 : Nat)] 25) ∧ W.heap[w.heap.size + 1]? = some (Obj.cells #[.int .u64 (x2 : Nat), .int .u64 (y2 : Nat)] 25) ∧ W.heap[w.heap.size + 1 + 1]? = some (Obj.cells #[.int .u64 0, .int .u64 0] 25) ∧ W.cell? ⟨w.heap.size, 0, none⟩ = some (.int .u64 (x1 : Nat)) ∧ W.cell? ⟨w.heap.size, 1, none⟩ = some (.int .u64 (y1 : Nat)) ∧ W.cell? ⟨w.heap.size + 1, 0, none⟩ = some (.int .u64 (x2 : Nat)) ∧ W.cell? ⟨w.heap.size + 1, 1, none⟩ = some (.int .u64 (y2 : Nat))) (first | exact s1 | exact s0)
    (first | (go_at_call_of 31 (Value.agg #[.int .u64 (x1 : Nat), .int .u64 (y1 : Nat)]); refine (K1.out _).mono ?_; rintro r wq ⟨rfl, bq⟩; (first | have s1 := sS.out _ _ s1 bq | have s1 := sS.out _ _ s0 bq); clear bq) | (go_at_call_of 31 (Value.agg #[.int .u64 (x2 : Nat), .int .u64 (y2 : Nat)]); refine (K2.out _).mono ?_; rintro r wq ⟨rfl, bq⟩; (first | have s1 := sS.out _ _ s1 bq | have s1 := sS.out _ _ s0 bq); clear bq) | fail)
  have B2 := (And.left s1)
  have Ra_2 := s1.2.1
  have Rb_2 := s1.2.2.1
  have Rz_2 := s1.2.2.2.1
  clear s0 s1 sS B1 Ra_1 ca_1_0 ca_1_1 Rb_1 cb_1_0 cb_1_1 Rz_1
  obtain ⟨ca_2_0, ca_2_1⟩ := cells2s Ra_2
  obtain ⟨cb_2_0, cb_2_1⟩ := cells2s Rb_2
  go_wp2_with fail
  refine (KT.out _).mono ?_
  rintro r w3 ⟨rfl, b3⟩
  have B3 : Below w.heap.size w w3 := btr B2 b3
  have Ra_3 := heap_of b3 _ _ _ Ra_2
  have Rb_3 := heap_of b3 _ _ _ Rb_2
  have Rz_3 := heap_of b3 _ _ _ Rz_2
  clear b3 B2 Ra_2 ca_2_0 ca_2_1 Rb_2 cb_2_0 cb_2_1 Rz_2
  obtain ⟨ca_3_0, ca_3_1⟩ := cells2s Ra_3
  obtain ⟨cb_3_0, cb_3_1⟩ := cells2s Rb_3
  obtain ⟨cz_3_0, cz_3_1⟩ := cells2s Rz_3
  have q0 := fz (k := 0) Rz_3
  have q1 := fz (k := 1) Rz_3
  obtain ⟨E0, E1⟩ := set2_cells Rz_3 (.int .u64 (x2 : Nat)) (.int .u64 (y2 : Nat))
  go_wp2
  exact bodyPost_ret (v := .tuple #[.agg #[.int .u64 (x2 : Nat), .int .u64 (y2 : Nat)], .int .u8 fl]) (by simp [results, Tryd.results19, go_sem, E0, E1]) rfl ⟨rfl, set2_below B3 (by first | exact Nat.le_refl _ | omega | (skip; omega)) _ _⟩
end Go.Proofs.YtmndjhcmomejjaaDoor
