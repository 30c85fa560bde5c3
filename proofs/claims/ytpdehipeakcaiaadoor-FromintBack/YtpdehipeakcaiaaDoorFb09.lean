/-
  What the functions that the statement reaches return: part 9 (R14).
-/
import Derived.Test.YtpdehipeakcaiaaDoorFb08
namespace Go.Proofs.YtpdehipeakcaiaaDoor
set_option maxRecDepth 100000
set_option maxHeartbeats 40000000
set_option maxRecDepth 100000
open Go.RowKit WMath
set_option linter.unusedSimpArgs false
set_option linter.unusedVariables false
theorem cw_zip (K : Nat) : (cw 6 K).zipIdx = #[(.int .u64 (wd K 0 : Nat), 0), (.int .u64 (wd K 1 : Nat), 1), (.int .u64 (wd K 2 : Nat), 2), (.int .u64 (wd K 3 : Nat), 3), (.int .u64 (wd K 4 : Nat), 4), (.int .u64 (wd K 5 : Nat), 5)] := by kernel_rfl
theorem rg_sets (neg : Bool) (K : Nat) (st : Int) : ((((((((rg false 0 0 false).toList.set 0 (.bool neg)).set 1 (.int .u64 (wd K 0 : Nat))).set 2 (.int .u64 (wd K 1 : Nat))).set 3 (.int .u64 (wd K 2 : Nat))).set 4 (.int .u64 (wd K 3 : Nat))).set 5 (.int .u64 (wd K 4 : Nat))).set 6 (.int .u64 (wd K 5 : Nat))).set 7 (.int .i64 st) = (rg neg K st false).toList := rfl
set_option maxRecDepth 100000 in
set_option maxHeartbeats 4000000 in
theorem ro_grid_no (m st : Int) (neg : Bool) (s : Nat) (x : Int) (more : Bool) (R K : Nat) (lo : Bool) (A1 A2 h : Int) (ex od : Bool) (w : World) (hQ : Box (R < Q ∧ K < Q))
    (K1 : Box (∀ w, Calls Tryd.prog 35 #[.agg (cw 6 s), .int .i64 A1] w fun r w' => r = .returned (.tuple #[.agg (cw 6 R), .bool lo]) ∧ Below w.heap.size w w'))
    (K2 : Box (∀ w, Calls Tryd.prog 37 #[.agg (cw 6 R), .int .i64 A2] w fun r w' => r = .returned (.tuple #[.agg (cw 6 K), .int .i64 h, .bool ex]) ∧ Below w.heap.size w w'))
    (K3 : Box (∀ w, Calls Tryd.prog 39 #[.agg (cw 6 K), .int .i64 0] w fun r w' => r = .returned (.bool od) ∧ Below w.heap.size w w'))
    (K4 : Box (∀ w, Calls Tryd.prog 38 #[.int .u8 m, .bool neg, .bool od, .int .i64 h, .bool ex] w fun r w' => r = .returned (.bool false) ∧ Below w.heap.size w w'))
    (h1 : IntKind.i64.wrap (x - st) = A1) (h2 : IntKind.i64.wrap (st - x) = A2) : Calls Tryd.prog 24 #[.int .u8 m, .agg (rg neg s x more), .int .i64 st] w fun r w' => r = .returned (.tuple #[.agg (rg neg K st false), .bool ex]) ∧ Below w.heap.size w w' := by
  have hat := cw_at 6
  have hz := cw6z
  have hff := cw6f
  have hs0 := st0
  have hcs : ∀ x, ((cw 6 x).size = 6) = True := fun x => eq_true (cw_size 6 x)
  have hp1 := rgf
  have hp3 := rgz
  have hp4 := st_r0
  have hzi := cw_zip
  have hls := rg_sets
  have hp5 : ∀ (c : Bool) (s : Nat) (x : Int) (r : Bool), ((rg c s x r).size = 9) = True := fun _ _ _ _ => eq_true rfl
  obtain ⟨Rx_0, Rz_0, B0⟩ := opn2 w (Obj.cells (rg neg s x more) 45) (Obj.cells (rg false 0 0 false) 45)
  go_enter Tryd.func24, Tryd.ntmps24
  obtain ⟨cx_0_0, cx_0_1, cx_0_2, cx_0_3, cx_0_4, cx_0_5, cx_0_6, cx_0_7, cx_0_8⟩ := rg_cells Rx_0
  obtain ⟨cz_0_0, cz_0_1, cz_0_2, cz_0_3, cz_0_4, cz_0_5, cz_0_6, cz_0_7, cz_0_8⟩ := rg_cells Rz_0
  go_wp2_with fail
  refine (K1.out _).mono ?_
  rintro r w1 ⟨rfl, b1⟩
  have B1 : Below w.heap.size w w1 := btr B0 b1
  have Rx_1 := heap_of b1 _ _ _ Rx_0
  have Rz_1 := heap_of b1 _ _ _ Rz_0
  clear b1 B0 Rx_0 cx_0_0 cx_0_1 cx_0_2 cx_0_3 cx_0_4 cx_0_5 cx_0_6 cx_0_7 cx_0_8 Rz_0 cz_0_0 cz_0_1 cz_0_2 cz_0_3 cz_0_4 cz_0_5 cz_0_6 cz_0_7 cz_0_8
  obtain ⟨cx_1_0, cx_1_1, cx_1_2, cx_1_3, cx_1_4, cx_1_5, cx_1_6, cx_1_7, cx_1_8⟩ := rg_cells Rx_1
  obtain ⟨cz_1_0, cz_1_1, cz_1_2, cz_1_3, cz_1_4, cz_1_5, cz_1_6, cz_1_7, cz_1_8⟩ := rg_cells Rz_1
  have S2 := box B1.size
  have Lx_2 : Box (w.heap.size < w1.heap.size) := box (Array.getElem?_eq_some_iff.1 Rx_1).1
  have Lz_2 : Box (w.heap.size + 1 < w1.heap.size) := box (Array.getElem?_eq_some_iff.1 Rz_1).1
  have Ra_2 := heap_alloc_last w1 (Obj.cells (cw 6 R) 42)
  have B2 := btr B1 (bal w1 (Obj.cells (cw 6 R) 42))
  have Rx_2 := heap_of (bal w1 (Obj.cells (cw 6 R) 42)) _ _ _ Rx_1
  have Rz_2 := heap_of (bal w1 (Obj.cells (cw 6 R) 42)) _ _ _ Rz_1
  clear B1 Rx_1 cx_1_0 cx_1_1 cx_1_2 cx_1_3 cx_1_4 cx_1_5 cx_1_6 cx_1_7 cx_1_8 Rz_1 cz_1_0 cz_1_1 cz_1_2 cz_1_3 cz_1_4 cz_1_5 cz_1_6 cz_1_7 cz_1_8
  obtain ⟨cx_2_0, cx_2_1, cx_2_2, cx_2_3, cx_2_4, cx_2_5, cx_2_6, cx_2_7, cx_2_8⟩ := rg_cells Rx_2
  obtain ⟨cz_2_0, cz_2_1, cz_2_2, cz_2_3, cz_2_4, cz_2_5, cz_2_6, cz_2_7, cz_2_8⟩ := rg_cells Rz_2
  have ca_2_0 := row_cell Ra_2
  go_wp2_with fail
  refine (K2.out _).mono ?_
  rintro r w3 ⟨rfl, b3⟩
  have B3 : Below w.heap.size w w3 := btr B2 b3
  have Rx_3 := heap_of b3 _ _ _ Rx_2
  have Rz_3 := heap_of b3 _ _ _ Rz_2
  have Ra_3 := heap_of b3 _ _ _ Ra_2
  clear b3 B2 Rx_2 cx_2_0 cx_2_1 cx_2_2 cx_2_3 cx_2_4 cx_2_5 cx_2_6 cx_2_7 cx_2_8 Rz_2 cz_2_0 cz_2_1 cz_2_2 cz_2_3 cz_2_4 cz_2_5 cz_2_6 cz_2_7 cz_2_8 Ra_2 ca_2_0
  obtain ⟨cx_3_0, cx_3_1, cx_3_2, cx_3_3, cx_3_4, cx_3_5, cx_3_6, cx_3_7, cx_3_8⟩ := rg_cells Rx_3
  obtain ⟨cz_3_0, cz_3_1, cz_3_2, cz_3_3, cz_3_4, cz_3_5, cz_3_6, cz_3_7, cz_3_8⟩ := rg_cells Rz_3
  have ca_3_0 := row_cell Ra_3
  have S4 := box B3.size
  have Lx_4 : Box (w.heap.size < w3.heap.size) := box (Array.getElem?_eq_some_iff.1 Rx_3).1
  have Lz_4 : Box (w.heap.size + 1 < w3.heap.size) := box (Array.getElem?_eq_some_iff.1 Rz_3).1
  have La_4 : Box (w1.heap.size < w3.heap.size) := box (Array.getElem?_eq_some_iff.1 Ra_3).1
  have Rk_4 := heap_alloc_last w3 (Obj.cells (cw 6 K) 42)
  have B4 := btr B3 (bal w3 (Obj.cells (cw 6 K) 42))
  have Rx_4 := heap_of (bal w3 (Obj.cells (cw 6 K) 42)) _ _ _ Rx_3
  have Rz_4 := heap_of (bal w3 (Obj.cells (cw 6 K) 42)) _ _ _ Rz_3
  have Ra_4 := heap_of (bal w3 (Obj.cells (cw 6 K) 42)) _ _ _ Ra_3
  clear B3 Rx_3 cx_3_0 cx_3_1 cx_3_2 cx_3_3 cx_3_4 cx_3_5 cx_3_6 cx_3_7 cx_3_8 Rz_3 cz_3_0 cz_3_1 cz_3_2 cz_3_3 cz_3_4 cz_3_5 cz_3_6 cz_3_7 cz_3_8 Ra_3 ca_3_0
  obtain ⟨cx_4_0, cx_4_1, cx_4_2, cx_4_3, cx_4_4, cx_4_5, cx_4_6, cx_4_7, cx_4_8⟩ := rg_cells Rx_4
  obtain ⟨cz_4_0, cz_4_1, cz_4_2, cz_4_3, cz_4_4, cz_4_5, cz_4_6, cz_4_7, cz_4_8⟩ := rg_cells Rz_4
  have ca_4_0 := row_cell Ra_4
  have ck_4_0 := row_cell Rk_4
  clear Ra_4 ca_4_0
  have sS : Box (∀ W W1 : World, (Below w.heap.size w W ∧ W.heap[w.heap.size]? = some (Obj.cells (rg neg s x more) 45) ∧ W.heap[w.heap.size + 1]? = some (Obj.cells (rg false 0 0 false) 45) ∧ W.heap[w3.heap.size]? = some (Obj.cells (cw 6 K) 42) ∧ W.cell? ⟨w.heap.size, 0, none⟩ = some (.bool neg) ∧ W.cell? ⟨w.heap.size, 1, none⟩ = some (.int .u64 ((wd s 0 : Nat) : Int)) ∧ W.cell? ⟨w.heap.size, 2, none⟩ = some (.int .u64 ((wd s 1 : Nat) : Int)) ∧ W.cell? ⟨w.heap.size, 3, none⟩ = some (.int .u64 ((wd s 2 : Nat) : Int)) ∧ W.cell? ⟨w.heap.size, 4, none⟩ = some (.int .u64 ((wd s 3 : Nat) : Int)) ∧ W.cell? ⟨w.heap.size, 5, none⟩ = some (.int .u64 ((wd s 4 : Nat) : Int)) ∧ W.cell? ⟨w.heap.size, 6, none⟩ = some (.int .u64 ((wd s 5 : Nat) : Int)) ∧ W.cell? ⟨w.heap.size, 7, none⟩ = some (.int .i64 x) ∧ W.cell? ⟨w.heap.size, 8, none⟩ = some (.bool more) ∧ W.cell? ⟨w3.heap.size, 0, none⟩ = some (.int .u64 ((wd K 0 : Nat) : Int)) ∧ W.cell? ⟨w3.heap.size, 1, none⟩ = some (.int .u64 ((wd K 1 : Nat) : Int)) ∧ W.cell? ⟨w3.heap.size, 2, none⟩ = some (.int .u64 ((wd K 2 : Nat) : Int)) ∧ W.cell? ⟨w3.heap.size, 3, none⟩ = some (.int .u64 ((wd K 3 : Nat) : Int)) ∧ W.cell? ⟨w3.heap.size, 4, none⟩ = some (.int .u64 ((wd K 4 : Nat) : Int)) ∧ W.cell? ⟨w3.heap.size, 5, none⟩ = some (.int .u64 ((wd K 5 : Nat) : Int))) → Below W.heap.size W W1 → (Below w.heap.size w W1 ∧ W1.heap[w.heap.size]? = some (Obj.cells (rg neg s x more) 45) ∧ W1.heap[w.heap.size + 1]? = some (Obj.cells (rg false 0 0 false) 45) ∧ W1.heap[w3.heap.size]? = some (Obj.cells (cw 6 K) 42) ∧ W1.cell? ⟨w.heap.size, 0, none⟩ = some (.bool neg) ∧ W1.cell? ⟨w.heap.size, 1, none⟩ = some (.int .u64 ((wd s 0 : Nat) : Int)) ∧ W1.cell? ⟨w.heap.size, 2, none⟩ = some (.int .u64 ((wd s 1 : Nat) : Int)) ∧ W1.cell? ⟨w.heap.size, 3, none⟩ = some (.int .u64 ((wd s 2 : Nat) : Int)) ∧ W1.cell? ⟨w.heap.size, 4, none⟩ = some (.int .u64 ((wd s 3 : Nat) : Int)) ∧ W1.cell? ⟨w.heap.size, 5, none⟩ = some (.int .u64 ((wd s 4 : Nat) : Int)) ∧ W1.cell? ⟨w.heap.size, 6, none⟩ = some (.int .u64 ((wd s 5 : Nat) : Int)) ∧ W1.cell? ⟨w.heap.size, 7, none⟩ = some (.int .i64 x) ∧ W1.cell? ⟨w.heap.size, 8, none⟩ = some (.bool more) ∧ W1.cell? ⟨w3.heap.size, 0, none⟩ = some (.int .u64 ((wd K 0 : Nat) : Int)) ∧ W1.cell? ⟨w3.heap.size, 1, none⟩ = some (.int .u64 ((wd K 1 : Nat) : Int)) ∧ W1.cell? ⟨w3.heap.size, 2, none⟩ = some (.int .u64 ((wd K 2 : Nat) : Int)) ∧ W1.cell? ⟨w3.heap.size, 3, none⟩ = some (.int .u64 ((wd K 3 : Nat) : Int)) ∧ W1.cell? ⟨w3.heap.size, 4, none⟩ = some (.int .u64 ((wd K 4 : Nat) : Int)) ∧ W1.cell? ⟨w3.heap.size, 5, none⟩ = some (.int .u64 ((wd K 5 : Nat) : Int)))) := box (fun W W1 h b => ⟨btr h.1 b, heap_of b _ _ _ h.2.1, heap_of b _ _ _ h.2.2.1, heap_of b _ _ _ h.2.2.2.1, cell7 (heap_of b _ _ _ h.2.1) 0 _ rfl, cell7 (heap_of b _ _ _ h.2.1) 1 _ rfl, cell7 (heap_of b _ _ _ h.2.1) 2 _ rfl, cell7 (heap_of b _ _ _ h.2.1) 3 _ rfl, cell7 (heap_of b _ _ _ h.2.1) 4 _ rfl, cell7 (heap_of b _ _ _ h.2.1) 5 _ rfl, cell7 (heap_of b _ _ _ h.2.1) 6 _ rfl, cell7 (heap_of b _ _ _ h.2.1) 7 _ rfl, cell7 (heap_of b _ _ _ h.2.1) 8 _ rfl, row_cell (heap_of b _ _ _ h.2.2.2.1) 0 (by decide), row_cell (heap_of b _ _ _ h.2.2.2.1) 1 (by decide), row_cell (heap_of b _ _ _ h.2.2.2.1) 2 (by decide), row_cell (heap_of b _ _ _ h.2.2.2.1) 3 (by decide), row_cell (heap_of b _ _ _ h.2.2.2.1) 4 (by decide), row_cell (heap_of b _ _ _ h.2.2.2.1) 5 (by decide)⟩)
  have s0 : Below w.heap.size w ((w3.alloc (Obj.cells (cw 6 K) 42))).drew ∧ ((w3.alloc (Obj.cells (cw 6 K) 42))).drew.heap[w.heap.size]? = some (Obj.cells (rg neg s x more) 45) ∧ ((w3.alloc (Obj.cells (cw 6 K) 42))).drew.heap[w.heap.size + 1]? = some (Obj.cells (rg false 0 0 false) 45) ∧ ((w3.alloc (Obj.cells (cw 6 K) 42))).drew.heap[w3.heap.size]? = some (Obj.cells (cw 6 K) 42) ∧ ((w3.alloc (Obj.cells (cw 6 K) 42))).drew.cell? ⟨w.heap.size, 0, none⟩ = some (.bool neg) ∧ ((w3.alloc (Obj.cells (cw 6 K) 42))).drew.cell? ⟨w.heap.size, 1, none⟩ = some (.int .u64 ((wd s 0 : Nat) : Int)) ∧ ((w3.alloc (Obj.cells (cw 6 K) 42))).drew.cell? ⟨w.heap.size, 2, none⟩ = some (.int .u64 ((wd s 1 : Nat) : Int)) ∧ ((w3.alloc (Obj.cells (cw 6 K) 42))).drew.cell? ⟨w.heap.size, 3, none⟩ = some (.int .u64 ((wd s 2 : Nat) : Int)) ∧ ((w3.alloc (Obj.cells (cw 6 K) 42))).drew.cell? ⟨w.heap.size, 4, none⟩ = some (.int .u64 ((wd s 3 : Nat) : Int)) ∧ ((w3.alloc (Obj.cells (cw 6 K) 42))).drew.cell? ⟨w.heap.size, 5, none⟩ = some (.int .u64 ((wd s 4 : Nat) : Int)) ∧ ((w3.alloc (Obj.cells (cw 6 K) 42))).drew.cell? ⟨w.heap.size, 6, none⟩ = some (.int .u64 ((wd s 5 : Nat) : Int)) ∧ ((w3.alloc (Obj.cells (cw 6 K) 42))).drew.cell? ⟨w.heap.size, 7, none⟩ = some (.int .i64 x) ∧ ((w3.alloc (Obj.cells (cw 6 K) 42))).drew.cell? ⟨w.heap.size, 8, none⟩ = some (.bool more) ∧ ((w3.alloc (Obj.cells (cw 6 K) 42))).drew.cell? ⟨w3.heap.size, 0, none⟩ = some (.int .u64 ((wd K 0 : Nat) : Int)) ∧ ((w3.alloc (Obj.cells (cw 6 K) 42))).drew.cell? ⟨w3.heap.size, 1, none⟩ = some (.int .u64 ((wd K 1 : Nat) : Int)) ∧ ((w3.alloc (Obj.cells (cw 6 K) 42))).drew.cell? ⟨w3.heap.size, 2, none⟩ = some (.int .u64 ((wd K 2 : Nat) : Int)) ∧ ((w3.alloc (Obj.cells (cw 6 K) 42))).drew.cell? ⟨w3.heap.size, 3, none⟩ = some (.int .u64 ((wd K 3 : Nat) : Int)) ∧ ((w3.alloc (Obj.cells (cw 6 K) 42))).drew.cell? ⟨w3.heap.size, 4, none⟩ = some (.int .u64 ((wd K 4 : Nat) : Int)) ∧ ((w3.alloc (Obj.cells (cw 6 K) 42))).drew.cell? ⟨w3.heap.size, 5, none⟩ = some (.int .u64 ((wd K 5 : Nat) : Int)) := ⟨B4.drew, Rx_4, Rz_4, Rk_4, cell7 (Rx_4) 0 _ rfl, cell7 (Rx_4) 1 _ rfl, cell7 (Rx_4) 2 _ rfl, cell7 (Rx_4) 3 _ rfl, cell7 (Rx_4) 4 _ rfl, cell7 (Rx_4) 5 _ rfl, cell7 (Rx_4) 6 _ rfl, cell7 (Rx_4) 7 _ rfl, cell7 (Rx_4) 8 _ rfl, row_cell (Rk_4) 0 (by decide), row_cell (Rk_4) 1 (by decide), row_cell (Rk_4) 2 (by decide), row_cell (Rk_4) 3 (by decide), row_cell (Rk_4) 4 (by decide), row_cell (Rk_4) 5 (by decide)⟩
  go_wp2_with fail
  go_region_held3 (fun W => Below w.heap.size w W ∧ W.heap[w.heap.size]? = some (Obj.cells (rg neg s x more) 45) ∧ W.heap[w.heap.size + 1]? = some (Obj.cells (rg false 0 0 false) 45) ∧ W.heap[w3.heap.size]? = some (Obj.cells (cw 6 K) 42) ∧ W.cell? ⟨w.heap.size, 0, none⟩ = some (.bool neg) ∧ W.cell? ⟨w.heap.size, 1, none⟩ = some (.int .u64 ((wd s 0 : Nat) : Int)) ∧ W.cell? ⟨w.heap.size, 2, none⟩ = some (.int .u64 ((wd s 1 : Nat) : Int)) ∧ W.cell? ⟨w.heap.size, 3, none⟩ = some (.int .u64 ((wd s 2 : Nat) : Int)) ∧ W.cell? ⟨w.heap.size, 4, none⟩ = some (.int .u64 ((wd s 3 : Nat) : Int)) ∧ W.cell? ⟨w.heap.size, 5, none⟩ = some (.int .u64 ((wd s 4 : Nat) : Int)) ∧ W.cell? ⟨w.heap.size, 6, none⟩ = some (.int .u64 ((wd s 5 : Nat) : Int)) ∧ W.cell? ⟨w.heap.size, 7, none⟩ = some (.int .i64 x) ∧ W.cell? ⟨w.heap.size, 8, none⟩ = some (.bool more) ∧ W.cell? ⟨w3.heap.size, 0, none⟩ = some (.int .u64 ((wd K 0 : Nat) : Int)) ∧ W.cell? ⟨w3.heap.size, 1, none⟩ = some (.int .u64 ((wd K 1 : Nat) : Int)) ∧ W.cell? ⟨w3.heap.size, 2, none⟩ = some (.int .u64 ((wd K 2 : Nat) : Int)) ∧ W.cell? ⟨w3.heap.size, 3, none⟩ = some (.int .u64 ((wd K 3 : Nat) : Int)) ∧ W.cell? ⟨w3.heap.size, 4, none⟩ = some (.int .u64 ((wd K 4 : Nat) : Int)) ∧ W.cell? ⟨w3.heap.size, 5, none⟩ = some (.int .u64 ((wd K 5 : Nat) : Int))) (first | exact s1 | exact s0)
    (first | (go_at_call 39; refine (K3.out _).mono ?_; rintro r wq ⟨rfl, bq⟩; (first | have s1 := sS.out _ _ s1 bq | have s1 := sS.out _ _ s0 bq); clear bq) | (go_at_call 38; refine (K4.out _).mono ?_; rintro r wq ⟨rfl, bq⟩; (first | have s1 := sS.out _ _ s1 bq | have s1 := sS.out _ _ s0 bq); clear bq) | fail)
  have B5 := (And.left s1)
  have Rx_5 := s1.2.1
  have Rz_5 := s1.2.2.1
  have Rk_5 := s1.2.2.2.1
  clear s0 s1 sS B4 Rx_4 cx_4_0 cx_4_1 cx_4_2 cx_4_3 cx_4_4 cx_4_5 cx_4_6 cx_4_7 cx_4_8 Rz_4 cz_4_0 cz_4_1 cz_4_2 cz_4_3 cz_4_4 cz_4_5 cz_4_6 cz_4_7 cz_4_8 Rk_4 ck_4_0
  obtain ⟨cx_5_0, cx_5_1, cx_5_2, cx_5_3, cx_5_4, cx_5_5, cx_5_6, cx_5_7, cx_5_8⟩ := rg_cells Rx_5
  obtain ⟨cz_5_0, cz_5_1, cz_5_2, cz_5_3, cz_5_4, cz_5_5, cz_5_6, cz_5_7, cz_5_8⟩ := rg_cells Rz_5
  have ck_5_0 := row_cell Rk_5
  have hstz := st_r wq (w.heap.size + 1) neg K st false false 0 0 false Rz_5
  have RZ := setRow_row (c' := rg neg K st false) Rz_5
  obtain ⟨dz0, dz1, dz2, dz3, dz4, dz5, dz6, dz7, dz8⟩ := rg_cells RZ
  have bz := bel_set (c := rg neg K st false) B5 (show w.heap.size ≤ w.heap.size + 1 by first | exact Nat.le_refl _ | omega | (have := S2.out; have := Lx_2.out; have := Lz_2.out; have := S4.out; have := Lx_4.out; have := Lz_4.out; have := La_4.out; omega))
  go_wp2
  exact bodyPost_ret (v := .tuple #[.agg (rg neg K st false), .bool ex]) (by simp [results, Tryd.results24, go_sem, dz0, dz1, dz2, dz3, dz4, dz5, dz6, dz7, dz8, rgf] <;> rfl) rfl ⟨rfl, bz⟩
set_option maxRecDepth 100000 in
set_option maxHeartbeats 4000000 in
theorem ro_grid_up (m st : Int) (neg : Bool) (s : Nat) (x : Int) (more : Bool) (R K K' : Nat) (lo l2 : Bool) (A1 A2 h : Int) (ex od : Bool) (w : World)
    (K1 : Box (∀ w, Calls Tryd.prog 35 #[.agg (cw 6 s), .int .i64 A1] w fun r w' => r = .returned (.tuple #[.agg (cw 6 R), .bool lo]) ∧ Below w.heap.size w w'))
    (K2 : Box (∀ w, Calls Tryd.prog 37 #[.agg (cw 6 R), .int .i64 A2] w fun r w' => r = .returned (.tuple #[.agg (cw 6 K), .int .i64 h, .bool ex]) ∧ Below w.heap.size w w'))
    (K3 : Box (∀ w, Calls Tryd.prog 39 #[.agg (cw 6 K), .int .i64 0] w fun r w' => r = .returned (.bool od) ∧ Below w.heap.size w w'))
    (K4 : Box (∀ w, Calls Tryd.prog 38 #[.int .u8 m, .bool neg, .bool od, .int .i64 h, .bool ex] w fun r w' => r = .returned (.bool true) ∧ Below w.heap.size w w'))
    (K5 : Box (∀ w, Calls Tryd.prog 10 #[.int .u64 1] w fun r w' => r = .returned (.agg (cw 6 1)) ∧ Below w.heap.size w w'))
    (K6 : Box (∀ w, Calls Tryd.prog 40 #[.agg (cw 6 K), .agg (cw 6 1)] w fun r w' => r = .returned (.tuple #[.agg (cw 6 K'), .bool l2]) ∧ Below w.heap.size w w'))
    (h1 : IntKind.i64.wrap (x - st) = A1) (h2 : IntKind.i64.wrap (st - x) = A2) : Calls Tryd.prog 24 #[.int .u8 m, .agg (rg neg s x more), .int .i64 st] w fun r w' => r = .returned (.tuple #[.agg (rg neg K' st false), .bool ex]) ∧ Below w.heap.size w w' := by
  have hat := cw_at 6
  have hz := cw6z
  have hff := cw6f
  have hs0 := st0
  have hcs : ∀ x, ((cw 6 x).size = 6) = True := fun x => eq_true (cw_size 6 x)
  have hp1 := rgf
  have hp3 := rgz
  have hp4 := st_r0
  have hzi := cw_zip
  have hls := rg_sets
  have hp5 : ∀ (c : Bool) (s : Nat) (x : Int) (r : Bool), ((rg c s x r).size = 9) = True := fun _ _ _ _ => eq_true rfl
  obtain ⟨Rx_0, Rz_0, B0⟩ := opn2 w (Obj.cells (rg neg s x more) 45) (Obj.cells (rg false 0 0 false) 45)
  go_enter Tryd.func24, Tryd.ntmps24
  obtain ⟨cx_0_0, cx_0_1, cx_0_2, cx_0_3, cx_0_4, cx_0_5, cx_0_6, cx_0_7, cx_0_8⟩ := rg_cells Rx_0
  obtain ⟨cz_0_0, cz_0_1, cz_0_2, cz_0_3, cz_0_4, cz_0_5, cz_0_6, cz_0_7, cz_0_8⟩ := rg_cells Rz_0
  go_wp2_with fail
  refine (K1.out _).mono ?_
  rintro r w1 ⟨rfl, b1⟩
  have B1 : Below w.heap.size w w1 := btr B0 b1
  have Rx_1 := heap_of b1 _ _ _ Rx_0
  have Rz_1 := heap_of b1 _ _ _ Rz_0
  clear b1 B0 Rx_0 cx_0_0 cx_0_1 cx_0_2 cx_0_3 cx_0_4 cx_0_5 cx_0_6 cx_0_7 cx_0_8 Rz_0 cz_0_0 cz_0_1 cz_0_2 cz_0_3 cz_0_4 cz_0_5 cz_0_6 cz_0_7 cz_0_8
  obtain ⟨cx_1_0, cx_1_1, cx_1_2, cx_1_3, cx_1_4, cx_1_5, cx_1_6, cx_1_7, cx_1_8⟩ := rg_cells Rx_1
  obtain ⟨cz_1_0, cz_1_1, cz_1_2, cz_1_3, cz_1_4, cz_1_5, cz_1_6, cz_1_7, cz_1_8⟩ := rg_cells Rz_1
  have S2 := box B1.size
  have Lx_2 : Box (w.heap.size < w1.heap.size) := box (Array.getElem?_eq_some_iff.1 Rx_1).1
  have Lz_2 : Box (w.heap.size + 1 < w1.heap.size) := box (Array.getElem?_eq_some_iff.1 Rz_1).1
  have Ra_2 := heap_alloc_last w1 (Obj.cells (cw 6 R) 42)
  have B2 := btr B1 (bal w1 (Obj.cells (cw 6 R) 42))
  have Rx_2 := heap_of (bal w1 (Obj.cells (cw 6 R) 42)) _ _ _ Rx_1
  have Rz_2 := heap_of (bal w1 (Obj.cells (cw 6 R) 42)) _ _ _ Rz_1
  clear B1 Rx_1 cx_1_0 cx_1_1 cx_1_2 cx_1_3 cx_1_4 cx_1_5 cx_1_6 cx_1_7 cx_1_8 Rz_1 cz_1_0 cz_1_1 cz_1_2 cz_1_3 cz_1_4 cz_1_5 cz_1_6 cz_1_7 cz_1_8
  obtain ⟨cx_2_0, cx_2_1, cx_2_2, cx_2_3, cx_2_4, cx_2_5, cx_2_6, cx_2_7, cx_2_8⟩ := rg_cells Rx_2
  obtain ⟨cz_2_0, cz_2_1, cz_2_2, cz_2_3, cz_2_4, cz_2_5, cz_2_6, cz_2_7, cz_2_8⟩ := rg_cells Rz_2
  have ca_2_0 := row_cell Ra_2
  go_wp2_with fail
  refine (K2.out _).mono ?_
  rintro r w3 ⟨rfl, b3⟩
  have B3 : Below w.heap.size w w3 := btr B2 b3
  have Rx_3 := heap_of b3 _ _ _ Rx_2
  have Rz_3 := heap_of b3 _ _ _ Rz_2
  have Ra_3 := heap_of b3 _ _ _ Ra_2
  clear b3 B2 Rx_2 cx_2_0 cx_2_1 cx_2_2 cx_2_3 cx_2_4 cx_2_5 cx_2_6 cx_2_7 cx_2_8 Rz_2 cz_2_0 cz_2_1 cz_2_2 cz_2_3 cz_2_4 cz_2_5 cz_2_6 cz_2_7 cz_2_8 Ra_2 ca_2_0
  obtain ⟨cx_3_0, cx_3_1, cx_3_2, cx_3_3, cx_3_4, cx_3_5, cx_3_6, cx_3_7, cx_3_8⟩ := rg_cells Rx_3
  obtain ⟨cz_3_0, cz_3_1, cz_3_2, cz_3_3, cz_3_4, cz_3_5, cz_3_6, cz_3_7, cz_3_8⟩ := rg_cells Rz_3
  have ca_3_0 := row_cell Ra_3
  have S4 := box B3.size
  have Lx_4 : Box (w.heap.size < w3.heap.size) := box (Array.getElem?_eq_some_iff.1 Rx_3).1
  have Lz_4 : Box (w.heap.size + 1 < w3.heap.size) := box (Array.getElem?_eq_some_iff.1 Rz_3).1
  have La_4 : Box (w1.heap.size < w3.heap.size) := box (Array.getElem?_eq_some_iff.1 Ra_3).1
  have Rk_4 := heap_alloc_last w3 (Obj.cells (cw 6 K) 42)
  have B4 := btr B3 (bal w3 (Obj.cells (cw 6 K) 42))
  have Rx_4 := heap_of (bal w3 (Obj.cells (cw 6 K) 42)) _ _ _ Rx_3
  have Rz_4 := heap_of (bal w3 (Obj.cells (cw 6 K) 42)) _ _ _ Rz_3
  have Ra_4 := heap_of (bal w3 (Obj.cells (cw 6 K) 42)) _ _ _ Ra_3
  clear B3 Rx_3 cx_3_0 cx_3_1 cx_3_2 cx_3_3 cx_3_4 cx_3_5 cx_3_6 cx_3_7 cx_3_8 Rz_3 cz_3_0 cz_3_1 cz_3_2 cz_3_3 cz_3_4 cz_3_5 cz_3_6 cz_3_7 cz_3_8 Ra_3 ca_3_0
  obtain ⟨cx_4_0, cx_4_1, cx_4_2, cx_4_3, cx_4_4, cx_4_5, cx_4_6, cx_4_7, cx_4_8⟩ := rg_cells Rx_4
  obtain ⟨cz_4_0, cz_4_1, cz_4_2, cz_4_3, cz_4_4, cz_4_5, cz_4_6, cz_4_7, cz_4_8⟩ := rg_cells Rz_4
  have ca_4_0 := row_cell Ra_4
  have ck_4_0 := row_cell Rk_4
  clear Ra_4 ca_4_0
  have sS : Box (∀ W W1 : World, (Below w.heap.size w W ∧ W.heap[w.heap.size]? = some (Obj.cells (rg neg s x more) 45) ∧ W.heap[w.heap.size + 1]? = some (Obj.cells (rg false 0 0 false) 45) ∧ W.heap[w3.heap.size]? = some (Obj.cells (cw 6 K) 42) ∧ W.cell? ⟨w.heap.size, 0, none⟩ = some (.bool neg) ∧ W.cell? ⟨w.heap.size, 1, none⟩ = some (.int .u64 ((wd s 0 : Nat) : Int)) ∧ W.cell? ⟨w.heap.size, 2, none⟩ = some (.int .u64 ((wd s 1 : Nat) : Int)) ∧ W.cell? ⟨w.heap.size, 3, none⟩ = some (.int .u64 ((wd s 2 : Nat) : Int)) ∧ W.cell? ⟨w.heap.size, 4, none⟩ = some (.int .u64 ((wd s 3 : Nat) : Int)) ∧ W.cell? ⟨w.heap.size, 5, none⟩ = some (.int .u64 ((wd s 4 : Nat) : Int)) ∧ W.cell? ⟨w.heap.size, 6, none⟩ = some (.int .u64 ((wd s 5 : Nat) : Int)) ∧ W.cell? ⟨w.heap.size, 7, none⟩ = some (.int .i64 x) ∧ W.cell? ⟨w.heap.size, 8, none⟩ = some (.bool more) ∧ W.cell? ⟨w3.heap.size, 0, none⟩ = some (.int .u64 ((wd K 0 : Nat) : Int)) ∧ W.cell? ⟨w3.heap.size, 1, none⟩ = some (.int .u64 ((wd K 1 : Nat) : Int)) ∧ W.cell? ⟨w3.heap.size, 2, none⟩ = some (.int .u64 ((wd K 2 : Nat) : Int)) ∧ W.cell? ⟨w3.heap.size, 3, none⟩ = some (.int .u64 ((wd K 3 : Nat) : Int)) ∧ W.cell? ⟨w3.heap.size, 4, none⟩ = some (.int .u64 ((wd K 4 : Nat) : Int)) ∧ W.cell? ⟨w3.heap.size, 5, none⟩ = some (.int .u64 ((wd K 5 : Nat) : Int))) → Below W.heap.size W W1 → (Below w.heap.size w W1 ∧ W1.heap[w.heap.size]? = some (Obj.cells (rg neg s x more) 45) ∧ W1.heap[w.heap.size + 1]? = some (Obj.cells (rg false 0 0 false) 45) ∧ W1.heap[w3.heap.size]? = some (Obj.cells (cw 6 K) 42) ∧ W1.cell? ⟨w.heap.size, 0, none⟩ = some (.bool neg) ∧ W1.cell? ⟨w.heap.size, 1, none⟩ = some (.int .u64 ((wd s 0 : Nat) : Int)) ∧ W1.cell? ⟨w.heap.size, 2, none⟩ = some (.int .u64 ((wd s 1 : Nat) : Int)) ∧ W1.cell? ⟨w.heap.size, 3, none⟩ = some (.int .u64 ((wd s 2 : Nat) : Int)) ∧ W1.cell? ⟨w.heap.size, 4, none⟩ = some (.int .u64 ((wd s 3 : Nat) : Int)) ∧ W1.cell? ⟨w.heap.size, 5, none⟩ = some (.int .u64 ((wd s 4 : Nat) : Int)) ∧ W1.cell? ⟨w.heap.size, 6, none⟩ = some (.int .u64 ((wd s 5 : Nat) : Int)) ∧ W1.cell? ⟨w.heap.size, 7, none⟩ = some (.int .i64 x) ∧ W1.cell? ⟨w.heap.size, 8, none⟩ = some (.bool more) ∧ W1.cell? ⟨w3.heap.size, 0, none⟩ = some (.int .u64 ((wd K 0 : Nat) : Int)) ∧ W1.cell? ⟨w3.heap.size, 1, none⟩ = some (.int .u64 ((wd K 1 : Nat) : Int)) ∧ W1.cell? ⟨w3.heap.size, 2, none⟩ = some (.int .u64 ((wd K 2 : Nat) : Int)) ∧ W1.cell? ⟨w3.heap.size, 3, none⟩ = some (.int .u64 ((wd K 3 : Nat) : Int)) ∧ W1.cell? ⟨w3.heap.size, 4, none⟩ = some (.int .u64 ((wd K 4 : Nat) : Int)) ∧ W1.cell? ⟨w3.heap.size, 5, none⟩ = some (.int .u64 ((wd K 5 : Nat) : Int)))) := box (fun W W1 h b => ⟨btr h.1 b, heap_of b _ _ _ h.2.1, heap_of b _ _ _ h.2.2.1, heap_of b _ _ _ h.2.2.2.1, cell7 (heap_of b _ _ _ h.2.1) 0 _ rfl, cell7 (heap_of b _ _ _ h.2.1) 1 _ rfl, cell7 (heap_of b _ _ _ h.2.1) 2 _ rfl, cell7 (heap_of b _ _ _ h.2.1) 3 _ rfl, cell7 (heap_of b _ _ _ h.2.1) 4 _ rfl, cell7 (heap_of b _ _ _ h.2.1) 5 _ rfl, cell7 (heap_of b _ _ _ h.2.1) 6 _ rfl, cell7 (heap_of b _ _ _ h.2.1) 7 _ rfl, cell7 (heap_of b _ _ _ h.2.1) 8 _ rfl, row_cell (heap_of b _ _ _ h.2.2.2.1) 0 (by decide), row_cell (heap_of b _ _ _ h.2.2.2.1) 1 (by decide), row_cell (heap_of b _ _ _ h.2.2.2.1) 2 (by decide), row_cell (heap_of b _ _ _ h.2.2.2.1) 3 (by decide), row_cell (heap_of b _ _ _ h.2.2.2.1) 4 (by decide), row_cell (heap_of b _ _ _ h.2.2.2.1) 5 (by decide)⟩)
  have s0 : Below w.heap.size w ((w3.alloc (Obj.cells (cw 6 K) 42))).drew ∧ ((w3.alloc (Obj.cells (cw 6 K) 42))).drew.heap[w.heap.size]? = some (Obj.cells (rg neg s x more) 45) ∧ ((w3.alloc (Obj.cells (cw 6 K) 42))).drew.heap[w.heap.size + 1]? = some (Obj.cells (rg false 0 0 false) 45) ∧ ((w3.alloc (Obj.cells (cw 6 K) 42))).drew.heap[w3.heap.size]? = some (Obj.cells (cw 6 K) 42) ∧ ((w3.alloc (Obj.cells (cw 6 K) 42))).drew.cell? ⟨w.heap.size, 0, none⟩ = some (.bool neg) ∧ ((w3.alloc (Obj.cells (cw 6 K) 42))).drew.cell? ⟨w.heap.size, 1, none⟩ = some (.int .u64 ((wd s 0 : Nat) : Int)) ∧ ((w3.alloc (Obj.cells (cw 6 K) 42))).drew.cell? ⟨w.heap.size, 2, none⟩ = some (.int .u64 ((wd s 1 : Nat) : Int)) ∧ ((w3.alloc (Obj.cells (cw 6 K) 42))).drew.cell? ⟨w.heap.size, 3, none⟩ = some (.int .u64 ((wd s 2 : Nat) : Int)) ∧ ((w3.alloc (Obj.cells (cw 6 K) 42))).drew.cell? ⟨w.heap.size, 4, none⟩ = some (.int .u64 ((wd s 3 : Nat) : Int)) ∧ ((w3.alloc (Obj.cells (cw 6 K) 42))).drew.cell? ⟨w.heap.size, 5, none⟩ = some (.int .u64 ((wd s 4 : Nat) : Int)) ∧ ((w3.alloc (Obj.cells (cw 6 K) 42))).drew.cell? ⟨w.heap.size, 6, none⟩ = some (.int .u64 ((wd s 5 : Nat) : Int)) ∧ ((w3.alloc (Obj.cells (cw 6 K) 42))).drew.cell? ⟨w.heap.size, 7, none⟩ = some (.int .i64 x) ∧ ((w3.alloc (Obj.cells (cw 6 K) 42))).drew.cell? ⟨w.heap.size, 8, none⟩ = some (.bool more) ∧ ((w3.alloc (Obj.cells (cw 6 K) 42))).drew.cell? ⟨w3.heap.size, 0, none⟩ = some (.int .u64 ((wd K 0 : Nat) : Int)) ∧ ((w3.alloc (Obj.cells (cw 6 K) 42))).drew.cell? ⟨w3.heap.size, 1, none⟩ = some (.int .u64 ((wd K 1 : Nat) : Int)) ∧ ((w3.alloc (Obj.cells (cw 6 K) 42))).drew.cell? ⟨w3.heap.size, 2, none⟩ = some (.int .u64 ((wd K 2 : Nat) : Int)) ∧ ((w3.alloc (Obj.cells (cw 6 K) 42))).drew.cell? ⟨w3.heap.size, 3, none⟩ = some (.int .u64 ((wd K 3 : Nat) : Int)) ∧ ((w3.alloc (Obj.cells (cw 6 K) 42))).drew.cell? ⟨w3.heap.size, 4, none⟩ = some (.int .u64 ((wd K 4 : Nat) : Int)) ∧ ((w3.alloc (Obj.cells (cw 6 K) 42))).drew.cell? ⟨w3.heap.size, 5, none⟩ = some (.int .u64 ((wd K 5 : Nat) : Int)) := ⟨B4.drew, Rx_4, Rz_4, Rk_4, cell7 (Rx_4) 0 _ rfl, cell7 (Rx_4) 1 _ rfl, cell7 (Rx_4) 2 _ rfl, cell7 (Rx_4) 3 _ rfl, cell7 (Rx_4) 4 _ rfl, cell7 (Rx_4) 5 _ rfl, cell7 (Rx_4) 6 _ rfl, cell7 (Rx_4) 7 _ rfl, cell7 (Rx_4) 8 _ rfl, row_cell (Rk_4) 0 (by decide), row_cell (Rk_4) 1 (by decide), row_cell (Rk_4) 2 (by decide), row_cell (Rk_4) 3 (by decide), row_cell (Rk_4) 4 (by decide), row_cell (Rk_4) 5 (by decide)⟩
  go_wp2_with fail
  go_region_held3 (fun W => Below w.heap.size w W ∧ W.heap[w.heap.size]? = some (Obj.cells (rg neg s x more) 45) ∧ W.heap[w.heap.size + 1]? = some (Obj.cells (rg false 0 0 false) 45) ∧ W.heap[w3.heap.size]? = some (Obj.cells (cw 6 K) 42) ∧ W.cell? ⟨w.heap.size, 0, none⟩ = some (.bool neg) ∧ W.cell? ⟨w.heap.size, 1, none⟩ = some (.int .u64 ((wd s 0 : Nat) : Int)) ∧ W.cell? ⟨w.heap.size, 2, none⟩ = some (.int .u64 ((wd s 1 : Nat) : Int)) ∧ W.cell? ⟨w.heap.size, 3, none⟩ = some (.int .u64 ((wd s 2 : Nat) : Int)) ∧ W.cell? ⟨w.heap.size, 4, none⟩ = some (.int .u64 ((wd s 3 : Nat) : Int)) ∧ W.cell? ⟨w.heap.size, 5, none⟩ = some (.int .u64 ((wd s 4 : Nat) : Int)) ∧ W.cell? ⟨w.heap.size, 6, none⟩ = some (.int .u64 ((wd s 5 : Nat) : Int)) ∧ W.cell? ⟨w.heap.size, 7, none⟩ = some (.int .i64 x) ∧ W.cell? ⟨w.heap.size, 8, none⟩ = some (.bool more) ∧ W.cell? ⟨w3.heap.size, 0, none⟩ = some (.int .u64 ((wd K 0 : Nat) : Int)) ∧ W.cell? ⟨w3.heap.size, 1, none⟩ = some (.int .u64 ((wd K 1 : Nat) : Int)) ∧ W.cell? ⟨w3.heap.size, 2, none⟩ = some (.int .u64 ((wd K 2 : Nat) : Int)) ∧ W.cell? ⟨w3.heap.size, 3, none⟩ = some (.int .u64 ((wd K 3 : Nat) : Int)) ∧ W.cell? ⟨w3.heap.size, 4, none⟩ = some (.int .u64 ((wd K 4 : Nat) : Int)) ∧ W.cell? ⟨w3.heap.size, 5, none⟩ = some (.int .u64 ((wd K 5 : Nat) : Int))) (first | exact s1 | exact s0)
    (first | (go_at_call 39; refine (K3.out _).mono ?_; rintro r wq ⟨rfl, bq⟩; (first | have s1 := sS.out _ _ s1 bq | have s1 := sS.out _ _ s0 bq); clear bq) | (go_at_call 38; refine (K4.out _).mono ?_; rintro r wq ⟨rfl, bq⟩; (first | have s1 := sS.out _ _ s1 bq | have s1 := sS.out _ _ s0 bq); clear bq) | fail)
  have B5 := (And.left s1)
  have Rx_5 := s1.2.1
  have Rz_5 := s1.2.2.1
  have Rk_5 := s1.2.2.2.1
  clear s0 s1 sS B4 Rx_4 cx_4_0 cx_4_1 cx_4_2 cx_4_3 cx_4_4 cx_4_5 cx_4_6 cx_4_7 cx_4_8 Rz_4 cz_4_0 cz_4_1 cz_4_2 cz_4_3 cz_4_4 cz_4_5 cz_4_6 cz_4_7 cz_4_8 Rk_4 ck_4_0
  obtain ⟨cx_5_0, cx_5_1, cx_5_2, cx_5_3, cx_5_4, cx_5_5, cx_5_6, cx_5_7, cx_5_8⟩ := rg_cells Rx_5
  obtain ⟨cz_5_0, cz_5_1, cz_5_2, cz_5_3, cz_5_4, cz_5_5, cz_5_6, cz_5_7, cz_5_8⟩ := rg_cells Rz_5
  have ck_5_0 := row_cell Rk_5
  have qx : (wq).drew.heap[w.heap.size]? = some (Obj.cells (rg neg s x more) 45) := Rx_5
  have qz : (wq).drew.heap[w.heap.size + 1]? = some (Obj.cells (rg false 0 0 false) 45) := Rz_5
  have qk : (wq).drew.heap[w3.heap.size]? = some (Obj.cells (cw 6 K) 42) := Rk_5
  have qB := B5.drew
  have qc := row_cell qk
  go_wp2_with fail
  go_region_with (first | (go_at_call 10; refine (K5.out _).mono ?_; rintro r wq ⟨rfl, bq⟩; have qx := heap_of bq _ _ _ qx; have qz := heap_of bq _ _ _ qz; have qk := heap_of bq _ _ _ qk; have qB := btr qB bq; have qc := row_cell qk; have hst := st_any wq (w3.heap.size) K' K qk; clear bq) | (go_at_call 40; refine (K6.out _).mono ?_; rintro r wq ⟨rfl, bq⟩; have qx := heap_of bq _ _ _ qx; have qz := heap_of bq _ _ _ qz; have qk := heap_of bq _ _ _ qk; have qB := btr qB bq; have qc := row_cell qk; have hst := st_any wq (w3.heap.size) K' K qk; clear bq) | fail)
  all_goals
    have Rk_6 : (wq.setRow (w3.heap.size) (cw 6 K')).heap[w3.heap.size]? = some (Obj.cells (cw 6 K') 42) := setRow_row qk
    have B6 : Below w.heap.size w (wq.setRow (w3.heap.size) (cw 6 K')) := bel_set qB (show w.heap.size ≤ w3.heap.size by first | exact Nat.le_refl _ | omega | (have := S2.out; have := Lx_2.out; have := Lz_2.out; have := S4.out; have := Lx_4.out; have := Lz_4.out; have := La_4.out; omega))
    have Rx_6 : (wq.setRow (w3.heap.size) (cw 6 K')).heap[w.heap.size]? = some (Obj.cells (rg neg s x more) 45) := (setRow_other (by first | omega | (have := S2.out; have := Lx_2.out; have := Lz_2.out; have := S4.out; have := Lx_4.out; have := Lz_4.out; have := La_4.out; omega))).trans qx
    have Rz_6 : (wq.setRow (w3.heap.size) (cw 6 K')).heap[w.heap.size + 1]? = some (Obj.cells (rg false 0 0 false) 45) := (setRow_other (by first | omega | (have := S2.out; have := Lx_2.out; have := Lz_2.out; have := S4.out; have := Lx_4.out; have := Lz_4.out; have := La_4.out; omega))).trans qz
    obtain ⟨w6, hw6⟩ : ∃ V, (wq.setRow (w3.heap.size) (cw 6 K')) = V := ⟨_, rfl⟩
    rw [hw6] at B6 Rx_6 Rz_6 Rk_6 ⊢
    clear hw6 qB qc hst qx qz qk B5 Rx_5 cx_5_0 cx_5_1 cx_5_2 cx_5_3 cx_5_4 cx_5_5 cx_5_6 cx_5_7 cx_5_8 Rz_5 cz_5_0 cz_5_1 cz_5_2 cz_5_3 cz_5_4 cz_5_5 cz_5_6 cz_5_7 cz_5_8 Rk_5 ck_5_0
    obtain ⟨cx_6_0, cx_6_1, cx_6_2, cx_6_3, cx_6_4, cx_6_5, cx_6_6, cx_6_7, cx_6_8⟩ := rg_cells Rx_6
    obtain ⟨cz_6_0, cz_6_1, cz_6_2, cz_6_3, cz_6_4, cz_6_5, cz_6_6, cz_6_7, cz_6_8⟩ := rg_cells Rz_6
    have ck_6_0 := row_cell Rk_6
    have hstz := st_r w6 (w.heap.size + 1) neg K' st false false 0 0 false Rz_6
    have RZ := setRow_row (c' := rg neg K' st false) Rz_6
    obtain ⟨dz0, dz1, dz2, dz3, dz4, dz5, dz6, dz7, dz8⟩ := rg_cells RZ
    have bz := bel_set (c := rg neg K' st false) B6 (show w.heap.size ≤ w.heap.size + 1 by first | exact Nat.le_refl _ | omega | (have := S2.out; have := Lx_2.out; have := Lz_2.out; have := S4.out; have := Lx_4.out; have := Lz_4.out; have := La_4.out; omega))
    go_wp2
    exact bodyPost_ret (v := .tuple #[.agg (rg neg K' st false), .bool ex]) (by simp [results, Tryd.results24, go_sem, dz0, dz1, dz2, dz3, dz4, dz5, dz6, dz7, dz8, rgf] <;> rfl) rfl ⟨rfl, bz⟩
end Go.Proofs.YtpdehipeakcaiaaDoor
