/-
  What the functions that the statement reaches return: part 12 (YN).
-/
import Derived.Test.YtamlcgmipdcgjaaDoorRa11
namespace Go.Proofs.YtamlcgmipdcgjaaDoor
set_option maxRecDepth 100000
set_option maxHeartbeats 40000000
set_option maxRecDepth 100000
open Go.RowKit WMath
set_option linter.unusedSimpArgs false
set_option linter.unusedVariables false
set_option maxRecDepth 100000 in
set_option maxHeartbeats 8000000 in
theorem dc_rows_n0 {T : World → Prop} (FB : Box (∀ {w w' : World}, T w → Below w.heap.size w w' → T w')) (x : In) (v u : Nat) (tt rr qq : Rw) (st sr sq : ByteArray) (f : Int) (hf : (f == 0) = false) (hf2 : (f != 0) = true) (K1 : Box (∀ w, T w → Calls Tryd.prog 17 #[.agg (inC x)] w fun r w' => r = .returned (.tuple #[.int .u8 0, .int .i64 2]) ∧ Below w.heap.size w w')) (R1 : Box (∀ w, Calls Tryd.prog 18 #[.int .u8 (x.op : Nat), .int .u8 (x.form : Nat), .int .u8 (x.frm : Nat), .int .u8 (x.kind : Nat)] w fun r w' => r = .returned (.tuple #[.agg (ndC tt st), .int .i64 f]) ∧ Below w.heap.size w w')) (o2 : Bool) (K2 : Box (∀ w, T w → Calls Tryd.prog 19 #[.int .u32 (v : Nat), .int .u32 (u : Nat)] w fun r w' => r = .returned (.tuple #[.int .u32 0, .int .i64 250]) ∧ Below w.heap.size w w')) (R2 : Box (∀ w, Calls Tryd.prog 20 #[.int .u32 (v : Nat)] w fun r w' => r = .returned (.tuple #[.agg (ndC rr sr), .bool false]) ∧ Below w.heap.size w w')) (R3 : Box (∀ w, Calls Tryd.prog 20 #[.int .u32 (u : Nat)] w fun r w' => r = .returned (.tuple #[.agg (ndC qq sq), .bool o2]) ∧ Below w.heap.size w w')) (KL : Box (∀ w, T w → Calls Tryd.prog 13 #[] w fun r w' => r = .returned (.bool true) ∧ Below w.heap.size w w')) (w : World) (hT : T w) : Calls Tryd.prog 6 #[.agg (inC x), .int .u32 (v : Nat), .int .u32 (u : Nat)] w fun r w' => r = .returned (.bool true) ∧ Below w.heap.size w w' := by
  have FF := box hT
  clear hT
  have hin := inC_new
  have heq := eqr
  have hrf := rwC_fold
  have hnn := ndC_new
  obtain ⟨Rx_0, B0⟩ := opn1 w (Obj.cells (inC x) 28)
  go_enter Tryd.func6, Tryd.ntmps6
  obtain ⟨cx_0_0, cx_0_1, cx_0_2, cx_0_3, cx_0_4, cx_0_5, cx_0_6, cx_0_7, cx_0_8, cx_0_9, cx_0_10⟩ := inC_cells Rx_0
  go_wp2_with fail
  refine (K1.out _ (FB.out FF.out B0)).mono ?_
  rintro r w1 ⟨rfl, b1⟩
  have B1 : Below w.heap.size w w1 := btr B0 b1
  have Rx_1 := heap_of b1 _ _ _ Rx_0
  clear b1 B0 Rx_0 cx_0_0 cx_0_1 cx_0_2 cx_0_3 cx_0_4 cx_0_5 cx_0_6 cx_0_7 cx_0_8 cx_0_9 cx_0_10
  obtain ⟨cx_1_0, cx_1_1, cx_1_2, cx_1_3, cx_1_4, cx_1_5, cx_1_6, cx_1_7, cx_1_8, cx_1_9, cx_1_10⟩ := inC_cells Rx_1
  go_wp2_with fail
  refine (R1.out _).mono ?_
  rintro r w2 ⟨rfl, b2⟩
  have B2 : Below w.heap.size w w2 := btr B1 b2
  have Rx_2 := heap_of b2 _ _ _ Rx_1
  clear b2 B1 Rx_1 cx_1_0 cx_1_1 cx_1_2 cx_1_3 cx_1_4 cx_1_5 cx_1_6 cx_1_7 cx_1_8 cx_1_9 cx_1_10
  obtain ⟨cx_2_0, cx_2_1, cx_2_2, cx_2_3, cx_2_4, cx_2_5, cx_2_6, cx_2_7, cx_2_8, cx_2_9, cx_2_10⟩ := inC_cells Rx_2
  have S3 := box B2.size
  have Lx_3 : Box (w.heap.size < w2.heap.size) := box (Array.getElem?_eq_some_iff.1 Rx_2).1
  have Rt_3 := heap_alloc_last w2 (Obj.cells (ndC tt st) 56)
  have B3 := btr B2 (bal w2 (Obj.cells (ndC tt st) 56))
  have Rx_3 := heap_of (bal w2 (Obj.cells (ndC tt st) 56)) _ _ _ Rx_2
  clear B2 Rx_2 cx_2_0 cx_2_1 cx_2_2 cx_2_3 cx_2_4 cx_2_5 cx_2_6 cx_2_7 cx_2_8 cx_2_9 cx_2_10
  obtain ⟨cx_3_0, cx_3_1, cx_3_2, cx_3_3, cx_3_4, cx_3_5, cx_3_6, cx_3_7, cx_3_8, cx_3_9, cx_3_10⟩ := inC_cells Rx_3
  obtain ⟨ct_3_0, ct_3_1, ct_3_2, ct_3_3, ct_3_4, ct_3_5, ct_3_6, ct_3_7⟩ := ndC_cells Rt_3
  go_wp2_with fail
  refine (K2.out _ (FB.out FF.out B3)).mono ?_
  rintro r w4 ⟨rfl, b4⟩
  have B4 : Below w.heap.size w w4 := btr B3 b4
  have Rx_4 := heap_of b4 _ _ _ Rx_3
  have Rt_4 := heap_of b4 _ _ _ Rt_3
  clear b4 B3 Rx_3 cx_3_0 cx_3_1 cx_3_2 cx_3_3 cx_3_4 cx_3_5 cx_3_6 cx_3_7 cx_3_8 cx_3_9 cx_3_10 Rt_3 ct_3_0 ct_3_1 ct_3_2 ct_3_3 ct_3_4 ct_3_5 ct_3_6 ct_3_7
  obtain ⟨cx_4_0, cx_4_1, cx_4_2, cx_4_3, cx_4_4, cx_4_5, cx_4_6, cx_4_7, cx_4_8, cx_4_9, cx_4_10⟩ := inC_cells Rx_4
  obtain ⟨ct_4_0, ct_4_1, ct_4_2, ct_4_3, ct_4_4, ct_4_5, ct_4_6, ct_4_7⟩ := ndC_cells Rt_4
  go_wp2_with fail
  refine (R2.out _).mono ?_
  rintro r w5 ⟨rfl, b5⟩
  have B5 : Below w.heap.size w w5 := btr B4 b5
  have Rx_5 := heap_of b5 _ _ _ Rx_4
  have Rt_5 := heap_of b5 _ _ _ Rt_4
  clear b5 B4 Rx_4 cx_4_0 cx_4_1 cx_4_2 cx_4_3 cx_4_4 cx_4_5 cx_4_6 cx_4_7 cx_4_8 cx_4_9 cx_4_10 Rt_4 ct_4_0 ct_4_1 ct_4_2 ct_4_3 ct_4_4 ct_4_5 ct_4_6 ct_4_7
  obtain ⟨cx_5_0, cx_5_1, cx_5_2, cx_5_3, cx_5_4, cx_5_5, cx_5_6, cx_5_7, cx_5_8, cx_5_9, cx_5_10⟩ := inC_cells Rx_5
  obtain ⟨ct_5_0, ct_5_1, ct_5_2, ct_5_3, ct_5_4, ct_5_5, ct_5_6, ct_5_7⟩ := ndC_cells Rt_5
  have S6 := box B5.size
  have Lx_6 : Box (w.heap.size < w5.heap.size) := box (Array.getElem?_eq_some_iff.1 Rx_5).1
  have Lt_6 : Box (w2.heap.size < w5.heap.size) := box (Array.getElem?_eq_some_iff.1 Rt_5).1
  have Rr_6 := heap_alloc_last w5 (Obj.cells (ndC rr sr) 56)
  have B6 := btr B5 (bal w5 (Obj.cells (ndC rr sr) 56))
  have Rx_6 := heap_of (bal w5 (Obj.cells (ndC rr sr) 56)) _ _ _ Rx_5
  have Rt_6 := heap_of (bal w5 (Obj.cells (ndC rr sr) 56)) _ _ _ Rt_5
  clear B5 Rx_5 cx_5_0 cx_5_1 cx_5_2 cx_5_3 cx_5_4 cx_5_5 cx_5_6 cx_5_7 cx_5_8 cx_5_9 cx_5_10 Rt_5 ct_5_0 ct_5_1 ct_5_2 ct_5_3 ct_5_4 ct_5_5 ct_5_6 ct_5_7
  obtain ⟨cx_6_0, cx_6_1, cx_6_2, cx_6_3, cx_6_4, cx_6_5, cx_6_6, cx_6_7, cx_6_8, cx_6_9, cx_6_10⟩ := inC_cells Rx_6
  obtain ⟨ct_6_0, ct_6_1, ct_6_2, ct_6_3, ct_6_4, ct_6_5, ct_6_6, ct_6_7⟩ := ndC_cells Rt_6
  obtain ⟨cr_6_0, cr_6_1, cr_6_2, cr_6_3, cr_6_4, cr_6_5, cr_6_6, cr_6_7⟩ := ndC_cells Rr_6
  go_wp2_with fail
  refine (R3.out _).mono ?_
  rintro r w7 ⟨rfl, b7⟩
  have B7 : Below w.heap.size w w7 := btr B6 b7
  have Rx_7 := heap_of b7 _ _ _ Rx_6
  have Rt_7 := heap_of b7 _ _ _ Rt_6
  have Rr_7 := heap_of b7 _ _ _ Rr_6
  clear b7 B6 Rx_6 cx_6_0 cx_6_1 cx_6_2 cx_6_3 cx_6_4 cx_6_5 cx_6_6 cx_6_7 cx_6_8 cx_6_9 cx_6_10 Rt_6 ct_6_0 ct_6_1 ct_6_2 ct_6_3 ct_6_4 ct_6_5 ct_6_6 ct_6_7 Rr_6 cr_6_0 cr_6_1 cr_6_2 cr_6_3 cr_6_4 cr_6_5 cr_6_6 cr_6_7
  obtain ⟨cx_7_0, cx_7_1, cx_7_2, cx_7_3, cx_7_4, cx_7_5, cx_7_6, cx_7_7, cx_7_8, cx_7_9, cx_7_10⟩ := inC_cells Rx_7
  obtain ⟨ct_7_0, ct_7_1, ct_7_2, ct_7_3, ct_7_4, ct_7_5, ct_7_6, ct_7_7⟩ := ndC_cells Rt_7
  obtain ⟨cr_7_0, cr_7_1, cr_7_2, cr_7_3, cr_7_4, cr_7_5, cr_7_6, cr_7_7⟩ := ndC_cells Rr_7
  have S8 := box B7.size
  have Lx_8 : Box (w.heap.size < w7.heap.size) := box (Array.getElem?_eq_some_iff.1 Rx_7).1
  have Lt_8 : Box (w2.heap.size < w7.heap.size) := box (Array.getElem?_eq_some_iff.1 Rt_7).1
  have Lr_8 : Box (w5.heap.size < w7.heap.size) := box (Array.getElem?_eq_some_iff.1 Rr_7).1
  have Rq_8 := heap_alloc_last w7 (Obj.cells (ndC qq sq) 56)
  have B8 := btr B7 (bal w7 (Obj.cells (ndC qq sq) 56))
  have Rx_8 := heap_of (bal w7 (Obj.cells (ndC qq sq) 56)) _ _ _ Rx_7
  have Rt_8 := heap_of (bal w7 (Obj.cells (ndC qq sq) 56)) _ _ _ Rt_7
  have Rr_8 := heap_of (bal w7 (Obj.cells (ndC qq sq) 56)) _ _ _ Rr_7
  clear B7 Rx_7 cx_7_0 cx_7_1 cx_7_2 cx_7_3 cx_7_4 cx_7_5 cx_7_6 cx_7_7 cx_7_8 cx_7_9 cx_7_10 Rt_7 ct_7_0 ct_7_1 ct_7_2 ct_7_3 ct_7_4 ct_7_5 ct_7_6 ct_7_7 Rr_7 cr_7_0 cr_7_1 cr_7_2 cr_7_3 cr_7_4 cr_7_5 cr_7_6 cr_7_7
  obtain ⟨cx_8_0, cx_8_1, cx_8_2, cx_8_3, cx_8_4, cx_8_5, cx_8_6, cx_8_7, cx_8_8, cx_8_9, cx_8_10⟩ := inC_cells Rx_8
  obtain ⟨ct_8_0, ct_8_1, ct_8_2, ct_8_3, ct_8_4, ct_8_5, ct_8_6, ct_8_7⟩ := ndC_cells Rt_8
  obtain ⟨cr_8_0, cr_8_1, cr_8_2, cr_8_3, cr_8_4, cr_8_5, cr_8_6, cr_8_7⟩ := ndC_cells Rr_8
  obtain ⟨cq_8_0, cq_8_1, cq_8_2, cq_8_3, cq_8_4, cq_8_5, cq_8_6, cq_8_7⟩ := ndC_cells Rq_8
  go_wp2_with fail
  refine (KL.out _ (FB.out FF.out B8)).mono ?_
  rintro r w9 ⟨rfl, b9⟩
  have B9 : Below w.heap.size w w9 := btr B8 b9
  have Rx_9 := heap_of b9 _ _ _ Rx_8
  have Rt_9 := heap_of b9 _ _ _ Rt_8
  have Rr_9 := heap_of b9 _ _ _ Rr_8
  have Rq_9 := heap_of b9 _ _ _ Rq_8
  clear b9 B8 Rx_8 cx_8_0 cx_8_1 cx_8_2 cx_8_3 cx_8_4 cx_8_5 cx_8_6 cx_8_7 cx_8_8 cx_8_9 cx_8_10 Rt_8 ct_8_0 ct_8_1 ct_8_2 ct_8_3 ct_8_4 ct_8_5 ct_8_6 ct_8_7 Rr_8 cr_8_0 cr_8_1 cr_8_2 cr_8_3 cr_8_4 cr_8_5 cr_8_6 cr_8_7 Rq_8 cq_8_0 cq_8_1 cq_8_2 cq_8_3 cq_8_4 cq_8_5 cq_8_6 cq_8_7
  obtain ⟨cx_9_0, cx_9_1, cx_9_2, cx_9_3, cx_9_4, cx_9_5, cx_9_6, cx_9_7, cx_9_8, cx_9_9, cx_9_10⟩ := inC_cells Rx_9
  obtain ⟨ct_9_0, ct_9_1, ct_9_2, ct_9_3, ct_9_4, ct_9_5, ct_9_6, ct_9_7⟩ := ndC_cells Rt_9
  obtain ⟨cr_9_0, cr_9_1, cr_9_2, cr_9_3, cr_9_4, cr_9_5, cr_9_6, cr_9_7⟩ := ndC_cells Rr_9
  obtain ⟨cq_9_0, cq_9_1, cq_9_2, cq_9_3, cq_9_4, cq_9_5, cq_9_6, cq_9_7⟩ := ndC_cells Rq_9
  go_wp2
  go_ret
  exact ⟨rfl, B9⟩
set_option maxRecDepth 100000 in
set_option maxHeartbeats 8000000 in
theorem dc_rows_n1 {T : World → Prop} (FB : Box (∀ {w w' : World}, T w → Below w.heap.size w w' → T w')) (x : In) (v u : Nat) (tt rr qq : Rw) (st sr sq : ByteArray) (f : Int) (hf : (f == 0) = false) (hf2 : (f != 0) = true) (K1 : Box (∀ w, T w → Calls Tryd.prog 17 #[.agg (inC x)] w fun r w' => r = .returned (.tuple #[.int .u8 0, .int .i64 2]) ∧ Below w.heap.size w w')) (R1 : Box (∀ w, Calls Tryd.prog 18 #[.int .u8 (x.op : Nat), .int .u8 (x.form : Nat), .int .u8 (x.frm : Nat), .int .u8 (x.kind : Nat)] w fun r w' => r = .returned (.tuple #[.agg (ndC tt st), .int .i64 f]) ∧ Below w.heap.size w w')) (K2 : Box (∀ w, T w → Calls Tryd.prog 19 #[.int .u32 (v : Nat), .int .u32 (u : Nat)] w fun r w' => r = .returned (.tuple #[.int .u32 0, .int .i64 250]) ∧ Below w.heap.size w w')) (R2 : Box (∀ w, Calls Tryd.prog 20 #[.int .u32 (v : Nat)] w fun r w' => r = .returned (.tuple #[.agg (ndC rr sr), .bool true]) ∧ Below w.heap.size w w')) (R3 : Box (∀ w, Calls Tryd.prog 20 #[.int .u32 (u : Nat)] w fun r w' => r = .returned (.tuple #[.agg (ndC qq sq), .bool false]) ∧ Below w.heap.size w w')) (KL : Box (∀ w, T w → Calls Tryd.prog 13 #[] w fun r w' => r = .returned (.bool true) ∧ Below w.heap.size w w')) (w : World) (hT : T w) : Calls Tryd.prog 6 #[.agg (inC x), .int .u32 (v : Nat), .int .u32 (u : Nat)] w fun r w' => r = .returned (.bool true) ∧ Below w.heap.size w w' := by
  have FF := box hT
  clear hT
  have hin := inC_new
  have heq := eqr
  have hrf := rwC_fold
  have hnn := ndC_new
  obtain ⟨Rx_0, B0⟩ := opn1 w (Obj.cells (inC x) 28)
  go_enter Tryd.func6, Tryd.ntmps6
  obtain ⟨cx_0_0, cx_0_1, cx_0_2, cx_0_3, cx_0_4, cx_0_5, cx_0_6, cx_0_7, cx_0_8, cx_0_9, cx_0_10⟩ := inC_cells Rx_0
  go_wp2_with fail
  refine (K1.out _ (FB.out FF.out B0)).mono ?_
  rintro r w1 ⟨rfl, b1⟩
  have B1 : Below w.heap.size w w1 := btr B0 b1
  have Rx_1 := heap_of b1 _ _ _ Rx_0
  clear b1 B0 Rx_0 cx_0_0 cx_0_1 cx_0_2 cx_0_3 cx_0_4 cx_0_5 cx_0_6 cx_0_7 cx_0_8 cx_0_9 cx_0_10
  obtain ⟨cx_1_0, cx_1_1, cx_1_2, cx_1_3, cx_1_4, cx_1_5, cx_1_6, cx_1_7, cx_1_8, cx_1_9, cx_1_10⟩ := inC_cells Rx_1
  go_wp2_with fail
  refine (R1.out _).mono ?_
  rintro r w2 ⟨rfl, b2⟩
  have B2 : Below w.heap.size w w2 := btr B1 b2
  have Rx_2 := heap_of b2 _ _ _ Rx_1
  clear b2 B1 Rx_1 cx_1_0 cx_1_1 cx_1_2 cx_1_3 cx_1_4 cx_1_5 cx_1_6 cx_1_7 cx_1_8 cx_1_9 cx_1_10
  obtain ⟨cx_2_0, cx_2_1, cx_2_2, cx_2_3, cx_2_4, cx_2_5, cx_2_6, cx_2_7, cx_2_8, cx_2_9, cx_2_10⟩ := inC_cells Rx_2
  have S3 := box B2.size
  have Lx_3 : Box (w.heap.size < w2.heap.size) := box (Array.getElem?_eq_some_iff.1 Rx_2).1
  have Rt_3 := heap_alloc_last w2 (Obj.cells (ndC tt st) 56)
  have B3 := btr B2 (bal w2 (Obj.cells (ndC tt st) 56))
  have Rx_3 := heap_of (bal w2 (Obj.cells (ndC tt st) 56)) _ _ _ Rx_2
  clear B2 Rx_2 cx_2_0 cx_2_1 cx_2_2 cx_2_3 cx_2_4 cx_2_5 cx_2_6 cx_2_7 cx_2_8 cx_2_9 cx_2_10
  obtain ⟨cx_3_0, cx_3_1, cx_3_2, cx_3_3, cx_3_4, cx_3_5, cx_3_6, cx_3_7, cx_3_8, cx_3_9, cx_3_10⟩ := inC_cells Rx_3
  obtain ⟨ct_3_0, ct_3_1, ct_3_2, ct_3_3, ct_3_4, ct_3_5, ct_3_6, ct_3_7⟩ := ndC_cells Rt_3
  go_wp2_with fail
  refine (K2.out _ (FB.out FF.out B3)).mono ?_
  rintro r w4 ⟨rfl, b4⟩
  have B4 : Below w.heap.size w w4 := btr B3 b4
  have Rx_4 := heap_of b4 _ _ _ Rx_3
  have Rt_4 := heap_of b4 _ _ _ Rt_3
  clear b4 B3 Rx_3 cx_3_0 cx_3_1 cx_3_2 cx_3_3 cx_3_4 cx_3_5 cx_3_6 cx_3_7 cx_3_8 cx_3_9 cx_3_10 Rt_3 ct_3_0 ct_3_1 ct_3_2 ct_3_3 ct_3_4 ct_3_5 ct_3_6 ct_3_7
  obtain ⟨cx_4_0, cx_4_1, cx_4_2, cx_4_3, cx_4_4, cx_4_5, cx_4_6, cx_4_7, cx_4_8, cx_4_9, cx_4_10⟩ := inC_cells Rx_4
  obtain ⟨ct_4_0, ct_4_1, ct_4_2, ct_4_3, ct_4_4, ct_4_5, ct_4_6, ct_4_7⟩ := ndC_cells Rt_4
  go_wp2_with fail
  refine (R2.out _).mono ?_
  rintro r w5 ⟨rfl, b5⟩
  have B5 : Below w.heap.size w w5 := btr B4 b5
  have Rx_5 := heap_of b5 _ _ _ Rx_4
  have Rt_5 := heap_of b5 _ _ _ Rt_4
  clear b5 B4 Rx_4 cx_4_0 cx_4_1 cx_4_2 cx_4_3 cx_4_4 cx_4_5 cx_4_6 cx_4_7 cx_4_8 cx_4_9 cx_4_10 Rt_4 ct_4_0 ct_4_1 ct_4_2 ct_4_3 ct_4_4 ct_4_5 ct_4_6 ct_4_7
  obtain ⟨cx_5_0, cx_5_1, cx_5_2, cx_5_3, cx_5_4, cx_5_5, cx_5_6, cx_5_7, cx_5_8, cx_5_9, cx_5_10⟩ := inC_cells Rx_5
  obtain ⟨ct_5_0, ct_5_1, ct_5_2, ct_5_3, ct_5_4, ct_5_5, ct_5_6, ct_5_7⟩ := ndC_cells Rt_5
  have S6 := box B5.size
  have Lx_6 : Box (w.heap.size < w5.heap.size) := box (Array.getElem?_eq_some_iff.1 Rx_5).1
  have Lt_6 : Box (w2.heap.size < w5.heap.size) := box (Array.getElem?_eq_some_iff.1 Rt_5).1
  have Rr_6 := heap_alloc_last w5 (Obj.cells (ndC rr sr) 56)
  have B6 := btr B5 (bal w5 (Obj.cells (ndC rr sr) 56))
  have Rx_6 := heap_of (bal w5 (Obj.cells (ndC rr sr) 56)) _ _ _ Rx_5
  have Rt_6 := heap_of (bal w5 (Obj.cells (ndC rr sr) 56)) _ _ _ Rt_5
  clear B5 Rx_5 cx_5_0 cx_5_1 cx_5_2 cx_5_3 cx_5_4 cx_5_5 cx_5_6 cx_5_7 cx_5_8 cx_5_9 cx_5_10 Rt_5 ct_5_0 ct_5_1 ct_5_2 ct_5_3 ct_5_4 ct_5_5 ct_5_6 ct_5_7
  obtain ⟨cx_6_0, cx_6_1, cx_6_2, cx_6_3, cx_6_4, cx_6_5, cx_6_6, cx_6_7, cx_6_8, cx_6_9, cx_6_10⟩ := inC_cells Rx_6
  obtain ⟨ct_6_0, ct_6_1, ct_6_2, ct_6_3, ct_6_4, ct_6_5, ct_6_6, ct_6_7⟩ := ndC_cells Rt_6
  obtain ⟨cr_6_0, cr_6_1, cr_6_2, cr_6_3, cr_6_4, cr_6_5, cr_6_6, cr_6_7⟩ := ndC_cells Rr_6
  go_wp2_with fail
  refine (R3.out _).mono ?_
  rintro r w7 ⟨rfl, b7⟩
  have B7 : Below w.heap.size w w7 := btr B6 b7
  have Rx_7 := heap_of b7 _ _ _ Rx_6
  have Rt_7 := heap_of b7 _ _ _ Rt_6
  have Rr_7 := heap_of b7 _ _ _ Rr_6
  clear b7 B6 Rx_6 cx_6_0 cx_6_1 cx_6_2 cx_6_3 cx_6_4 cx_6_5 cx_6_6 cx_6_7 cx_6_8 cx_6_9 cx_6_10 Rt_6 ct_6_0 ct_6_1 ct_6_2 ct_6_3 ct_6_4 ct_6_5 ct_6_6 ct_6_7 Rr_6 cr_6_0 cr_6_1 cr_6_2 cr_6_3 cr_6_4 cr_6_5 cr_6_6 cr_6_7
  obtain ⟨cx_7_0, cx_7_1, cx_7_2, cx_7_3, cx_7_4, cx_7_5, cx_7_6, cx_7_7, cx_7_8, cx_7_9, cx_7_10⟩ := inC_cells Rx_7
  obtain ⟨ct_7_0, ct_7_1, ct_7_2, ct_7_3, ct_7_4, ct_7_5, ct_7_6, ct_7_7⟩ := ndC_cells Rt_7
  obtain ⟨cr_7_0, cr_7_1, cr_7_2, cr_7_3, cr_7_4, cr_7_5, cr_7_6, cr_7_7⟩ := ndC_cells Rr_7
  have S8 := box B7.size
  have Lx_8 : Box (w.heap.size < w7.heap.size) := box (Array.getElem?_eq_some_iff.1 Rx_7).1
  have Lt_8 : Box (w2.heap.size < w7.heap.size) := box (Array.getElem?_eq_some_iff.1 Rt_7).1
  have Lr_8 : Box (w5.heap.size < w7.heap.size) := box (Array.getElem?_eq_some_iff.1 Rr_7).1
  have Rq_8 := heap_alloc_last w7 (Obj.cells (ndC qq sq) 56)
  have B8 := btr B7 (bal w7 (Obj.cells (ndC qq sq) 56))
  have Rx_8 := heap_of (bal w7 (Obj.cells (ndC qq sq) 56)) _ _ _ Rx_7
  have Rt_8 := heap_of (bal w7 (Obj.cells (ndC qq sq) 56)) _ _ _ Rt_7
  have Rr_8 := heap_of (bal w7 (Obj.cells (ndC qq sq) 56)) _ _ _ Rr_7
  clear B7 Rx_7 cx_7_0 cx_7_1 cx_7_2 cx_7_3 cx_7_4 cx_7_5 cx_7_6 cx_7_7 cx_7_8 cx_7_9 cx_7_10 Rt_7 ct_7_0 ct_7_1 ct_7_2 ct_7_3 ct_7_4 ct_7_5 ct_7_6 ct_7_7 Rr_7 cr_7_0 cr_7_1 cr_7_2 cr_7_3 cr_7_4 cr_7_5 cr_7_6 cr_7_7
  obtain ⟨cx_8_0, cx_8_1, cx_8_2, cx_8_3, cx_8_4, cx_8_5, cx_8_6, cx_8_7, cx_8_8, cx_8_9, cx_8_10⟩ := inC_cells Rx_8
  obtain ⟨ct_8_0, ct_8_1, ct_8_2, ct_8_3, ct_8_4, ct_8_5, ct_8_6, ct_8_7⟩ := ndC_cells Rt_8
  obtain ⟨cr_8_0, cr_8_1, cr_8_2, cr_8_3, cr_8_4, cr_8_5, cr_8_6, cr_8_7⟩ := ndC_cells Rr_8
  obtain ⟨cq_8_0, cq_8_1, cq_8_2, cq_8_3, cq_8_4, cq_8_5, cq_8_6, cq_8_7⟩ := ndC_cells Rq_8
  go_wp2_with fail
  refine (KL.out _ (FB.out FF.out B8)).mono ?_
  rintro r w9 ⟨rfl, b9⟩
  have B9 : Below w.heap.size w w9 := btr B8 b9
  have Rx_9 := heap_of b9 _ _ _ Rx_8
  have Rt_9 := heap_of b9 _ _ _ Rt_8
  have Rr_9 := heap_of b9 _ _ _ Rr_8
  have Rq_9 := heap_of b9 _ _ _ Rq_8
  clear b9 B8 Rx_8 cx_8_0 cx_8_1 cx_8_2 cx_8_3 cx_8_4 cx_8_5 cx_8_6 cx_8_7 cx_8_8 cx_8_9 cx_8_10 Rt_8 ct_8_0 ct_8_1 ct_8_2 ct_8_3 ct_8_4 ct_8_5 ct_8_6 ct_8_7 Rr_8 cr_8_0 cr_8_1 cr_8_2 cr_8_3 cr_8_4 cr_8_5 cr_8_6 cr_8_7 Rq_8 cq_8_0 cq_8_1 cq_8_2 cq_8_3 cq_8_4 cq_8_5 cq_8_6 cq_8_7
  obtain ⟨cx_9_0, cx_9_1, cx_9_2, cx_9_3, cx_9_4, cx_9_5, cx_9_6, cx_9_7, cx_9_8, cx_9_9, cx_9_10⟩ := inC_cells Rx_9
  obtain ⟨ct_9_0, ct_9_1, ct_9_2, ct_9_3, ct_9_4, ct_9_5, ct_9_6, ct_9_7⟩ := ndC_cells Rt_9
  obtain ⟨cr_9_0, cr_9_1, cr_9_2, cr_9_3, cr_9_4, cr_9_5, cr_9_6, cr_9_7⟩ := ndC_cells Rr_9
  obtain ⟨cq_9_0, cq_9_1, cq_9_2, cq_9_3, cq_9_4, cq_9_5, cq_9_6, cq_9_7⟩ := ndC_cells Rq_9
  go_wp2
  go_ret
  exact ⟨rfl, B9⟩
set_option maxRecDepth 100000 in
set_option maxHeartbeats 8000000 in
theorem dc_rows_n2 {T : World → Prop} (FB : Box (∀ {w w' : World}, T w → Below w.heap.size w w' → T w')) (x : In) (v u : Nat) (tt rr qq : Rw) (st sr sq : ByteArray) (f : Int) (hf : (f == 0) = false) (hf2 : (f != 0) = true) (K1 : Box (∀ w, T w → Calls Tryd.prog 17 #[.agg (inC x)] w fun r w' => r = .returned (.tuple #[.int .u8 0, .int .i64 2]) ∧ Below w.heap.size w w')) (R1 : Box (∀ w, Calls Tryd.prog 18 #[.int .u8 (x.op : Nat), .int .u8 (x.form : Nat), .int .u8 (x.frm : Nat), .int .u8 (x.kind : Nat)] w fun r w' => r = .returned (.tuple #[.agg (ndC tt st), .int .i64 f]) ∧ Below w.heap.size w w')) (hrq : rwE rr qq = false) (K2 : Box (∀ w, T w → Calls Tryd.prog 19 #[.int .u32 (v : Nat), .int .u32 (u : Nat)] w fun r w' => r = .returned (.tuple #[.int .u32 0, .int .i64 2]) ∧ Below w.heap.size w w')) (R2 : Box (∀ w, Calls Tryd.prog 20 #[.int .u32 (v : Nat)] w fun r w' => r = .returned (.tuple #[.agg (ndC rr sr), .bool true]) ∧ Below w.heap.size w w')) (R3 : Box (∀ w, Calls Tryd.prog 20 #[.int .u32 (u : Nat)] w fun r w' => r = .returned (.tuple #[.agg (ndC qq sq), .bool true]) ∧ Below w.heap.size w w')) (KL : Box (∀ w, T w → Calls Tryd.prog 13 #[] w fun r w' => r = .returned (.bool true) ∧ Below w.heap.size w w')) (w : World) (hT : T w) : Calls Tryd.prog 6 #[.agg (inC x), .int .u32 (v : Nat), .int .u32 (u : Nat)] w fun r w' => r = .returned (.bool true) ∧ Below w.heap.size w w' := by
  have FF := box hT
  clear hT
  have hin := inC_new
  have heq := eqr
  have hrf := rwC_fold
  have hnn := ndC_new
  obtain ⟨Rx_0, B0⟩ := opn1 w (Obj.cells (inC x) 28)
  go_enter Tryd.func6, Tryd.ntmps6
  obtain ⟨cx_0_0, cx_0_1, cx_0_2, cx_0_3, cx_0_4, cx_0_5, cx_0_6, cx_0_7, cx_0_8, cx_0_9, cx_0_10⟩ := inC_cells Rx_0
  go_wp2_with fail
  refine (K1.out _ (FB.out FF.out B0)).mono ?_
  rintro r w1 ⟨rfl, b1⟩
  have B1 : Below w.heap.size w w1 := btr B0 b1
  have Rx_1 := heap_of b1 _ _ _ Rx_0
  clear b1 B0 Rx_0 cx_0_0 cx_0_1 cx_0_2 cx_0_3 cx_0_4 cx_0_5 cx_0_6 cx_0_7 cx_0_8 cx_0_9 cx_0_10
  obtain ⟨cx_1_0, cx_1_1, cx_1_2, cx_1_3, cx_1_4, cx_1_5, cx_1_6, cx_1_7, cx_1_8, cx_1_9, cx_1_10⟩ := inC_cells Rx_1
  go_wp2_with fail
  refine (R1.out _).mono ?_
  rintro r w2 ⟨rfl, b2⟩
  have B2 : Below w.heap.size w w2 := btr B1 b2
  have Rx_2 := heap_of b2 _ _ _ Rx_1
  clear b2 B1 Rx_1 cx_1_0 cx_1_1 cx_1_2 cx_1_3 cx_1_4 cx_1_5 cx_1_6 cx_1_7 cx_1_8 cx_1_9 cx_1_10
  obtain ⟨cx_2_0, cx_2_1, cx_2_2, cx_2_3, cx_2_4, cx_2_5, cx_2_6, cx_2_7, cx_2_8, cx_2_9, cx_2_10⟩ := inC_cells Rx_2
  have S3 := box B2.size
  have Lx_3 : Box (w.heap.size < w2.heap.size) := box (Array.getElem?_eq_some_iff.1 Rx_2).1
  have Rt_3 := heap_alloc_last w2 (Obj.cells (ndC tt st) 56)
  have B3 := btr B2 (bal w2 (Obj.cells (ndC tt st) 56))
  have Rx_3 := heap_of (bal w2 (Obj.cells (ndC tt st) 56)) _ _ _ Rx_2
  clear B2 Rx_2 cx_2_0 cx_2_1 cx_2_2 cx_2_3 cx_2_4 cx_2_5 cx_2_6 cx_2_7 cx_2_8 cx_2_9 cx_2_10
  obtain ⟨cx_3_0, cx_3_1, cx_3_2, cx_3_3, cx_3_4, cx_3_5, cx_3_6, cx_3_7, cx_3_8, cx_3_9, cx_3_10⟩ := inC_cells Rx_3
  obtain ⟨ct_3_0, ct_3_1, ct_3_2, ct_3_3, ct_3_4, ct_3_5, ct_3_6, ct_3_7⟩ := ndC_cells Rt_3
  go_wp2_with fail
  refine (K2.out _ (FB.out FF.out B3)).mono ?_
  rintro r w4 ⟨rfl, b4⟩
  have B4 : Below w.heap.size w w4 := btr B3 b4
  have Rx_4 := heap_of b4 _ _ _ Rx_3
  have Rt_4 := heap_of b4 _ _ _ Rt_3
  clear b4 B3 Rx_3 cx_3_0 cx_3_1 cx_3_2 cx_3_3 cx_3_4 cx_3_5 cx_3_6 cx_3_7 cx_3_8 cx_3_9 cx_3_10 Rt_3 ct_3_0 ct_3_1 ct_3_2 ct_3_3 ct_3_4 ct_3_5 ct_3_6 ct_3_7
  obtain ⟨cx_4_0, cx_4_1, cx_4_2, cx_4_3, cx_4_4, cx_4_5, cx_4_6, cx_4_7, cx_4_8, cx_4_9, cx_4_10⟩ := inC_cells Rx_4
  obtain ⟨ct_4_0, ct_4_1, ct_4_2, ct_4_3, ct_4_4, ct_4_5, ct_4_6, ct_4_7⟩ := ndC_cells Rt_4
  go_wp2_with fail
  refine (R2.out _).mono ?_
  rintro r w5 ⟨rfl, b5⟩
  have B5 : Below w.heap.size w w5 := btr B4 b5
  have Rx_5 := heap_of b5 _ _ _ Rx_4
  have Rt_5 := heap_of b5 _ _ _ Rt_4
  clear b5 B4 Rx_4 cx_4_0 cx_4_1 cx_4_2 cx_4_3 cx_4_4 cx_4_5 cx_4_6 cx_4_7 cx_4_8 cx_4_9 cx_4_10 Rt_4 ct_4_0 ct_4_1 ct_4_2 ct_4_3 ct_4_4 ct_4_5 ct_4_6 ct_4_7
  obtain ⟨cx_5_0, cx_5_1, cx_5_2, cx_5_3, cx_5_4, cx_5_5, cx_5_6, cx_5_7, cx_5_8, cx_5_9, cx_5_10⟩ := inC_cells Rx_5
  obtain ⟨ct_5_0, ct_5_1, ct_5_2, ct_5_3, ct_5_4, ct_5_5, ct_5_6, ct_5_7⟩ := ndC_cells Rt_5
  have S6 := box B5.size
  have Lx_6 : Box (w.heap.size < w5.heap.size) := box (Array.getElem?_eq_some_iff.1 Rx_5).1
  have Lt_6 : Box (w2.heap.size < w5.heap.size) := box (Array.getElem?_eq_some_iff.1 Rt_5).1
  have Rr_6 := heap_alloc_last w5 (Obj.cells (ndC rr sr) 56)
  have B6 := btr B5 (bal w5 (Obj.cells (ndC rr sr) 56))
  have Rx_6 := heap_of (bal w5 (Obj.cells (ndC rr sr) 56)) _ _ _ Rx_5
  have Rt_6 := heap_of (bal w5 (Obj.cells (ndC rr sr) 56)) _ _ _ Rt_5
  clear B5 Rx_5 cx_5_0 cx_5_1 cx_5_2 cx_5_3 cx_5_4 cx_5_5 cx_5_6 cx_5_7 cx_5_8 cx_5_9 cx_5_10 Rt_5 ct_5_0 ct_5_1 ct_5_2 ct_5_3 ct_5_4 ct_5_5 ct_5_6 ct_5_7
  obtain ⟨cx_6_0, cx_6_1, cx_6_2, cx_6_3, cx_6_4, cx_6_5, cx_6_6, cx_6_7, cx_6_8, cx_6_9, cx_6_10⟩ := inC_cells Rx_6
  obtain ⟨ct_6_0, ct_6_1, ct_6_2, ct_6_3, ct_6_4, ct_6_5, ct_6_6, ct_6_7⟩ := ndC_cells Rt_6
  obtain ⟨cr_6_0, cr_6_1, cr_6_2, cr_6_3, cr_6_4, cr_6_5, cr_6_6, cr_6_7⟩ := ndC_cells Rr_6
  go_wp2_with fail
  refine (R3.out _).mono ?_
  rintro r w7 ⟨rfl, b7⟩
  have B7 : Below w.heap.size w w7 := btr B6 b7
  have Rx_7 := heap_of b7 _ _ _ Rx_6
  have Rt_7 := heap_of b7 _ _ _ Rt_6
  have Rr_7 := heap_of b7 _ _ _ Rr_6
  clear b7 B6 Rx_6 cx_6_0 cx_6_1 cx_6_2 cx_6_3 cx_6_4 cx_6_5 cx_6_6 cx_6_7 cx_6_8 cx_6_9 cx_6_10 Rt_6 ct_6_0 ct_6_1 ct_6_2 ct_6_3 ct_6_4 ct_6_5 ct_6_6 ct_6_7 Rr_6 cr_6_0 cr_6_1 cr_6_2 cr_6_3 cr_6_4 cr_6_5 cr_6_6 cr_6_7
  obtain ⟨cx_7_0, cx_7_1, cx_7_2, cx_7_3, cx_7_4, cx_7_5, cx_7_6, cx_7_7, cx_7_8, cx_7_9, cx_7_10⟩ := inC_cells Rx_7
  obtain ⟨ct_7_0, ct_7_1, ct_7_2, ct_7_3, ct_7_4, ct_7_5, ct_7_6, ct_7_7⟩ := ndC_cells Rt_7
  obtain ⟨cr_7_0, cr_7_1, cr_7_2, cr_7_3, cr_7_4, cr_7_5, cr_7_6, cr_7_7⟩ := ndC_cells Rr_7
  have S8 := box B7.size
  have Lx_8 : Box (w.heap.size < w7.heap.size) := box (Array.getElem?_eq_some_iff.1 Rx_7).1
  have Lt_8 : Box (w2.heap.size < w7.heap.size) := box (Array.getElem?_eq_some_iff.1 Rt_7).1
  have Lr_8 : Box (w5.heap.size < w7.heap.size) := box (Array.getElem?_eq_some_iff.1 Rr_7).1
  have Rq_8 := heap_alloc_last w7 (Obj.cells (ndC qq sq) 56)
  have B8 := btr B7 (bal w7 (Obj.cells (ndC qq sq) 56))
  have Rx_8 := heap_of (bal w7 (Obj.cells (ndC qq sq) 56)) _ _ _ Rx_7
  have Rt_8 := heap_of (bal w7 (Obj.cells (ndC qq sq) 56)) _ _ _ Rt_7
  have Rr_8 := heap_of (bal w7 (Obj.cells (ndC qq sq) 56)) _ _ _ Rr_7
  clear B7 Rx_7 cx_7_0 cx_7_1 cx_7_2 cx_7_3 cx_7_4 cx_7_5 cx_7_6 cx_7_7 cx_7_8 cx_7_9 cx_7_10 Rt_7 ct_7_0 ct_7_1 ct_7_2 ct_7_3 ct_7_4 ct_7_5 ct_7_6 ct_7_7 Rr_7 cr_7_0 cr_7_1 cr_7_2 cr_7_3 cr_7_4 cr_7_5 cr_7_6 cr_7_7
  obtain ⟨cx_8_0, cx_8_1, cx_8_2, cx_8_3, cx_8_4, cx_8_5, cx_8_6, cx_8_7, cx_8_8, cx_8_9, cx_8_10⟩ := inC_cells Rx_8
  obtain ⟨ct_8_0, ct_8_1, ct_8_2, ct_8_3, ct_8_4, ct_8_5, ct_8_6, ct_8_7⟩ := ndC_cells Rt_8
  obtain ⟨cr_8_0, cr_8_1, cr_8_2, cr_8_3, cr_8_4, cr_8_5, cr_8_6, cr_8_7⟩ := ndC_cells Rr_8
  obtain ⟨cq_8_0, cq_8_1, cq_8_2, cq_8_3, cq_8_4, cq_8_5, cq_8_6, cq_8_7⟩ := ndC_cells Rq_8
  go_wp2_with fail
  refine (KL.out _ (FB.out FF.out B8)).mono ?_
  rintro r w9 ⟨rfl, b9⟩
  have B9 : Below w.heap.size w w9 := btr B8 b9
  have Rx_9 := heap_of b9 _ _ _ Rx_8
  have Rt_9 := heap_of b9 _ _ _ Rt_8
  have Rr_9 := heap_of b9 _ _ _ Rr_8
  have Rq_9 := heap_of b9 _ _ _ Rq_8
  clear b9 B8 Rx_8 cx_8_0 cx_8_1 cx_8_2 cx_8_3 cx_8_4 cx_8_5 cx_8_6 cx_8_7 cx_8_8 cx_8_9 cx_8_10 Rt_8 ct_8_0 ct_8_1 ct_8_2 ct_8_3 ct_8_4 ct_8_5 ct_8_6 ct_8_7 Rr_8 cr_8_0 cr_8_1 cr_8_2 cr_8_3 cr_8_4 cr_8_5 cr_8_6 cr_8_7 Rq_8 cq_8_0 cq_8_1 cq_8_2 cq_8_3 cq_8_4 cq_8_5 cq_8_6 cq_8_7
  obtain ⟨cx_9_0, cx_9_1, cx_9_2, cx_9_3, cx_9_4, cx_9_5, cx_9_6, cx_9_7, cx_9_8, cx_9_9, cx_9_10⟩ := inC_cells Rx_9
  obtain ⟨ct_9_0, ct_9_1, ct_9_2, ct_9_3, ct_9_4, ct_9_5, ct_9_6, ct_9_7⟩ := ndC_cells Rt_9
  obtain ⟨cr_9_0, cr_9_1, cr_9_2, cr_9_3, cr_9_4, cr_9_5, cr_9_6, cr_9_7⟩ := ndC_cells Rr_9
  obtain ⟨cq_9_0, cq_9_1, cq_9_2, cq_9_3, cq_9_4, cq_9_5, cq_9_6, cq_9_7⟩ := ndC_cells Rq_9
  go_wp2
  go_ret
  exact ⟨rfl, B9⟩
set_option maxRecDepth 100000 in
set_option maxHeartbeats 8000000 in
theorem dc_rows_n3 {T : World → Prop} (FB : Box (∀ {w w' : World}, T w → Below w.heap.size w w' → T w')) (x : In) (v u : Nat) (tt rr qq : Rw) (st sr sq : ByteArray) (f : Int) (hf : (f == 0) = false) (hf2 : (f != 0) = true) (K1 : Box (∀ w, T w → Calls Tryd.prog 17 #[.agg (inC x)] w fun r w' => r = .returned (.tuple #[.int .u8 0, .int .i64 2]) ∧ Below w.heap.size w w')) (R1 : Box (∀ w, Calls Tryd.prog 18 #[.int .u8 (x.op : Nat), .int .u8 (x.form : Nat), .int .u8 (x.frm : Nat), .int .u8 (x.kind : Nat)] w fun r w' => r = .returned (.tuple #[.agg (ndC tt st), .int .i64 f]) ∧ Below w.heap.size w w')) (hrq : rwE rr qq = true) (m z : Nat) (hz : bits .xor .u32 (v : Nat) (u : Nat) = (z : Nat)) (hn : bits .andNot .u32 (z : Nat) (m : Nat) = 0) (R4 : Box (∀ w, Calls Tryd.prog 21 #[.int .u8 (rr.lay : Nat)] w fun r w' => r = .returned (.int .u32 (m : Nat)) ∧ Below w.heap.size w w')) (K2 : Box (∀ w, T w → Calls Tryd.prog 19 #[.int .u32 (v : Nat), .int .u32 (u : Nat)] w fun r w' => r = .returned (.tuple #[.int .u32 (m : Nat), .int .i64 0]) ∧ Below w.heap.size w w')) (R2 : Box (∀ w, Calls Tryd.prog 20 #[.int .u32 (v : Nat)] w fun r w' => r = .returned (.tuple #[.agg (ndC rr sr), .bool true]) ∧ Below w.heap.size w w')) (R3 : Box (∀ w, Calls Tryd.prog 20 #[.int .u32 (u : Nat)] w fun r w' => r = .returned (.tuple #[.agg (ndC qq sq), .bool true]) ∧ Below w.heap.size w w')) (KL : Box (∀ w, T w → Calls Tryd.prog 13 #[] w fun r w' => r = .returned (.bool true) ∧ Below w.heap.size w w')) (w : World) (hT : T w) : Calls Tryd.prog 6 #[.agg (inC x), .int .u32 (v : Nat), .int .u32 (u : Nat)] w fun r w' => r = .returned (.bool true) ∧ Below w.heap.size w w' := by
  have FF := box hT
  clear hT
  have hin := inC_new
  have heq := eqr
  have hrf := rwC_fold
  have hnn := ndC_new
  obtain ⟨Rx_0, B0⟩ := opn1 w (Obj.cells (inC x) 28)
  go_enter Tryd.func6, Tryd.ntmps6
  obtain ⟨cx_0_0, cx_0_1, cx_0_2, cx_0_3, cx_0_4, cx_0_5, cx_0_6, cx_0_7, cx_0_8, cx_0_9, cx_0_10⟩ := inC_cells Rx_0
  go_wp2_with fail
  refine (K1.out _ (FB.out FF.out B0)).mono ?_
  rintro r w1 ⟨rfl, b1⟩
  have B1 : Below w.heap.size w w1 := btr B0 b1
  have Rx_1 := heap_of b1 _ _ _ Rx_0
  clear b1 B0 Rx_0 cx_0_0 cx_0_1 cx_0_2 cx_0_3 cx_0_4 cx_0_5 cx_0_6 cx_0_7 cx_0_8 cx_0_9 cx_0_10
  obtain ⟨cx_1_0, cx_1_1, cx_1_2, cx_1_3, cx_1_4, cx_1_5, cx_1_6, cx_1_7, cx_1_8, cx_1_9, cx_1_10⟩ := inC_cells Rx_1
  go_wp2_with fail
  refine (R1.out _).mono ?_
  rintro r w2 ⟨rfl, b2⟩
  have B2 : Below w.heap.size w w2 := btr B1 b2
  have Rx_2 := heap_of b2 _ _ _ Rx_1
  clear b2 B1 Rx_1 cx_1_0 cx_1_1 cx_1_2 cx_1_3 cx_1_4 cx_1_5 cx_1_6 cx_1_7 cx_1_8 cx_1_9 cx_1_10
  obtain ⟨cx_2_0, cx_2_1, cx_2_2, cx_2_3, cx_2_4, cx_2_5, cx_2_6, cx_2_7, cx_2_8, cx_2_9, cx_2_10⟩ := inC_cells Rx_2
  have S3 := box B2.size
  have Lx_3 : Box (w.heap.size < w2.heap.size) := box (Array.getElem?_eq_some_iff.1 Rx_2).1
  have Rt_3 := heap_alloc_last w2 (Obj.cells (ndC tt st) 56)
  have B3 := btr B2 (bal w2 (Obj.cells (ndC tt st) 56))
  have Rx_3 := heap_of (bal w2 (Obj.cells (ndC tt st) 56)) _ _ _ Rx_2
  clear B2 Rx_2 cx_2_0 cx_2_1 cx_2_2 cx_2_3 cx_2_4 cx_2_5 cx_2_6 cx_2_7 cx_2_8 cx_2_9 cx_2_10
  obtain ⟨cx_3_0, cx_3_1, cx_3_2, cx_3_3, cx_3_4, cx_3_5, cx_3_6, cx_3_7, cx_3_8, cx_3_9, cx_3_10⟩ := inC_cells Rx_3
  obtain ⟨ct_3_0, ct_3_1, ct_3_2, ct_3_3, ct_3_4, ct_3_5, ct_3_6, ct_3_7⟩ := ndC_cells Rt_3
  go_wp2_with fail
  refine (K2.out _ (FB.out FF.out B3)).mono ?_
  rintro r w4 ⟨rfl, b4⟩
  have B4 : Below w.heap.size w w4 := btr B3 b4
  have Rx_4 := heap_of b4 _ _ _ Rx_3
  have Rt_4 := heap_of b4 _ _ _ Rt_3
  clear b4 B3 Rx_3 cx_3_0 cx_3_1 cx_3_2 cx_3_3 cx_3_4 cx_3_5 cx_3_6 cx_3_7 cx_3_8 cx_3_9 cx_3_10 Rt_3 ct_3_0 ct_3_1 ct_3_2 ct_3_3 ct_3_4 ct_3_5 ct_3_6 ct_3_7
  obtain ⟨cx_4_0, cx_4_1, cx_4_2, cx_4_3, cx_4_4, cx_4_5, cx_4_6, cx_4_7, cx_4_8, cx_4_9, cx_4_10⟩ := inC_cells Rx_4
  obtain ⟨ct_4_0, ct_4_1, ct_4_2, ct_4_3, ct_4_4, ct_4_5, ct_4_6, ct_4_7⟩ := ndC_cells Rt_4
  go_wp2_with fail
  refine (R2.out _).mono ?_
  rintro r w5 ⟨rfl, b5⟩
  have B5 : Below w.heap.size w w5 := btr B4 b5
  have Rx_5 := heap_of b5 _ _ _ Rx_4
  have Rt_5 := heap_of b5 _ _ _ Rt_4
  clear b5 B4 Rx_4 cx_4_0 cx_4_1 cx_4_2 cx_4_3 cx_4_4 cx_4_5 cx_4_6 cx_4_7 cx_4_8 cx_4_9 cx_4_10 Rt_4 ct_4_0 ct_4_1 ct_4_2 ct_4_3 ct_4_4 ct_4_5 ct_4_6 ct_4_7
  obtain ⟨cx_5_0, cx_5_1, cx_5_2, cx_5_3, cx_5_4, cx_5_5, cx_5_6, cx_5_7, cx_5_8, cx_5_9, cx_5_10⟩ := inC_cells Rx_5
  obtain ⟨ct_5_0, ct_5_1, ct_5_2, ct_5_3, ct_5_4, ct_5_5, ct_5_6, ct_5_7⟩ := ndC_cells Rt_5
  have S6 := box B5.size
  have Lx_6 : Box (w.heap.size < w5.heap.size) := box (Array.getElem?_eq_some_iff.1 Rx_5).1
  have Lt_6 : Box (w2.heap.size < w5.heap.size) := box (Array.getElem?_eq_some_iff.1 Rt_5).1
  have Rr_6 := heap_alloc_last w5 (Obj.cells (ndC rr sr) 56)
  have B6 := btr B5 (bal w5 (Obj.cells (ndC rr sr) 56))
  have Rx_6 := heap_of (bal w5 (Obj.cells (ndC rr sr) 56)) _ _ _ Rx_5
  have Rt_6 := heap_of (bal w5 (Obj.cells (ndC rr sr) 56)) _ _ _ Rt_5
  clear B5 Rx_5 cx_5_0 cx_5_1 cx_5_2 cx_5_3 cx_5_4 cx_5_5 cx_5_6 cx_5_7 cx_5_8 cx_5_9 cx_5_10 Rt_5 ct_5_0 ct_5_1 ct_5_2 ct_5_3 ct_5_4 ct_5_5 ct_5_6 ct_5_7
  obtain ⟨cx_6_0, cx_6_1, cx_6_2, cx_6_3, cx_6_4, cx_6_5, cx_6_6, cx_6_7, cx_6_8, cx_6_9, cx_6_10⟩ := inC_cells Rx_6
  obtain ⟨ct_6_0, ct_6_1, ct_6_2, ct_6_3, ct_6_4, ct_6_5, ct_6_6, ct_6_7⟩ := ndC_cells Rt_6
  obtain ⟨cr_6_0, cr_6_1, cr_6_2, cr_6_3, cr_6_4, cr_6_5, cr_6_6, cr_6_7⟩ := ndC_cells Rr_6
  go_wp2_with fail
  refine (R3.out _).mono ?_
  rintro r w7 ⟨rfl, b7⟩
  have B7 : Below w.heap.size w w7 := btr B6 b7
  have Rx_7 := heap_of b7 _ _ _ Rx_6
  have Rt_7 := heap_of b7 _ _ _ Rt_6
  have Rr_7 := heap_of b7 _ _ _ Rr_6
  clear b7 B6 Rx_6 cx_6_0 cx_6_1 cx_6_2 cx_6_3 cx_6_4 cx_6_5 cx_6_6 cx_6_7 cx_6_8 cx_6_9 cx_6_10 Rt_6 ct_6_0 ct_6_1 ct_6_2 ct_6_3 ct_6_4 ct_6_5 ct_6_6 ct_6_7 Rr_6 cr_6_0 cr_6_1 cr_6_2 cr_6_3 cr_6_4 cr_6_5 cr_6_6 cr_6_7
  obtain ⟨cx_7_0, cx_7_1, cx_7_2, cx_7_3, cx_7_4, cx_7_5, cx_7_6, cx_7_7, cx_7_8, cx_7_9, cx_7_10⟩ := inC_cells Rx_7
  obtain ⟨ct_7_0, ct_7_1, ct_7_2, ct_7_3, ct_7_4, ct_7_5, ct_7_6, ct_7_7⟩ := ndC_cells Rt_7
  obtain ⟨cr_7_0, cr_7_1, cr_7_2, cr_7_3, cr_7_4, cr_7_5, cr_7_6, cr_7_7⟩ := ndC_cells Rr_7
  have S8 := box B7.size
  have Lx_8 : Box (w.heap.size < w7.heap.size) := box (Array.getElem?_eq_some_iff.1 Rx_7).1
  have Lt_8 : Box (w2.heap.size < w7.heap.size) := box (Array.getElem?_eq_some_iff.1 Rt_7).1
  have Lr_8 : Box (w5.heap.size < w7.heap.size) := box (Array.getElem?_eq_some_iff.1 Rr_7).1
  have Rq_8 := heap_alloc_last w7 (Obj.cells (ndC qq sq) 56)
  have B8 := btr B7 (bal w7 (Obj.cells (ndC qq sq) 56))
  have Rx_8 := heap_of (bal w7 (Obj.cells (ndC qq sq) 56)) _ _ _ Rx_7
  have Rt_8 := heap_of (bal w7 (Obj.cells (ndC qq sq) 56)) _ _ _ Rt_7
  have Rr_8 := heap_of (bal w7 (Obj.cells (ndC qq sq) 56)) _ _ _ Rr_7
  clear B7 Rx_7 cx_7_0 cx_7_1 cx_7_2 cx_7_3 cx_7_4 cx_7_5 cx_7_6 cx_7_7 cx_7_8 cx_7_9 cx_7_10 Rt_7 ct_7_0 ct_7_1 ct_7_2 ct_7_3 ct_7_4 ct_7_5 ct_7_6 ct_7_7 Rr_7 cr_7_0 cr_7_1 cr_7_2 cr_7_3 cr_7_4 cr_7_5 cr_7_6 cr_7_7
  obtain ⟨cx_8_0, cx_8_1, cx_8_2, cx_8_3, cx_8_4, cx_8_5, cx_8_6, cx_8_7, cx_8_8, cx_8_9, cx_8_10⟩ := inC_cells Rx_8
  obtain ⟨ct_8_0, ct_8_1, ct_8_2, ct_8_3, ct_8_4, ct_8_5, ct_8_6, ct_8_7⟩ := ndC_cells Rt_8
  obtain ⟨cr_8_0, cr_8_1, cr_8_2, cr_8_3, cr_8_4, cr_8_5, cr_8_6, cr_8_7⟩ := ndC_cells Rr_8
  obtain ⟨cq_8_0, cq_8_1, cq_8_2, cq_8_3, cq_8_4, cq_8_5, cq_8_6, cq_8_7⟩ := ndC_cells Rq_8
  go_wp2_with fail
  refine (R4.out _).mono ?_
  rintro r w9 ⟨rfl, b9⟩
  have B9 : Below w.heap.size w w9 := btr B8 b9
  have Rx_9 := heap_of b9 _ _ _ Rx_8
  have Rt_9 := heap_of b9 _ _ _ Rt_8
  have Rr_9 := heap_of b9 _ _ _ Rr_8
  have Rq_9 := heap_of b9 _ _ _ Rq_8
  clear b9 B8 Rx_8 cx_8_0 cx_8_1 cx_8_2 cx_8_3 cx_8_4 cx_8_5 cx_8_6 cx_8_7 cx_8_8 cx_8_9 cx_8_10 Rt_8 ct_8_0 ct_8_1 ct_8_2 ct_8_3 ct_8_4 ct_8_5 ct_8_6 ct_8_7 Rr_8 cr_8_0 cr_8_1 cr_8_2 cr_8_3 cr_8_4 cr_8_5 cr_8_6 cr_8_7 Rq_8 cq_8_0 cq_8_1 cq_8_2 cq_8_3 cq_8_4 cq_8_5 cq_8_6 cq_8_7
  obtain ⟨cx_9_0, cx_9_1, cx_9_2, cx_9_3, cx_9_4, cx_9_5, cx_9_6, cx_9_7, cx_9_8, cx_9_9, cx_9_10⟩ := inC_cells Rx_9
  obtain ⟨ct_9_0, ct_9_1, ct_9_2, ct_9_3, ct_9_4, ct_9_5, ct_9_6, ct_9_7⟩ := ndC_cells Rt_9
  obtain ⟨cr_9_0, cr_9_1, cr_9_2, cr_9_3, cr_9_4, cr_9_5, cr_9_6, cr_9_7⟩ := ndC_cells Rr_9
  obtain ⟨cq_9_0, cq_9_1, cq_9_2, cq_9_3, cq_9_4, cq_9_5, cq_9_6, cq_9_7⟩ := ndC_cells Rq_9
  go_wp2_with fail
  refine (KL.out _ (FB.out FF.out B9)).mono ?_
  rintro r w10 ⟨rfl, b10⟩
  have B10 : Below w.heap.size w w10 := btr B9 b10
  have Rx_10 := heap_of b10 _ _ _ Rx_9
  have Rt_10 := heap_of b10 _ _ _ Rt_9
  have Rr_10 := heap_of b10 _ _ _ Rr_9
  have Rq_10 := heap_of b10 _ _ _ Rq_9
  clear b10 B9 Rx_9 cx_9_0 cx_9_1 cx_9_2 cx_9_3 cx_9_4 cx_9_5 cx_9_6 cx_9_7 cx_9_8 cx_9_9 cx_9_10 Rt_9 ct_9_0 ct_9_1 ct_9_2 ct_9_3 ct_9_4 ct_9_5 ct_9_6 ct_9_7 Rr_9 cr_9_0 cr_9_1 cr_9_2 cr_9_3 cr_9_4 cr_9_5 cr_9_6 cr_9_7 Rq_9 cq_9_0 cq_9_1 cq_9_2 cq_9_3 cq_9_4 cq_9_5 cq_9_6 cq_9_7
  obtain ⟨cx_10_0, cx_10_1, cx_10_2, cx_10_3, cx_10_4, cx_10_5, cx_10_6, cx_10_7, cx_10_8, cx_10_9, cx_10_10⟩ := inC_cells Rx_10
  obtain ⟨ct_10_0, ct_10_1, ct_10_2, ct_10_3, ct_10_4, ct_10_5, ct_10_6, ct_10_7⟩ := ndC_cells Rt_10
  obtain ⟨cr_10_0, cr_10_1, cr_10_2, cr_10_3, cr_10_4, cr_10_5, cr_10_6, cr_10_7⟩ := ndC_cells Rr_10
  obtain ⟨cq_10_0, cq_10_1, cq_10_2, cq_10_3, cq_10_4, cq_10_5, cq_10_6, cq_10_7⟩ := ndC_cells Rq_10
  go_wp2
  go_ret
  exact ⟨rfl, B10⟩
set_option maxRecDepth 100000 in
set_option maxHeartbeats 8000000 in
theorem dc_rows_y0 {T : World → Prop} (FB : Box (∀ {w w' : World}, T w → Below w.heap.size w w' → T w')) (x : In) (v u : Nat) (tt rr qq : Rw) (st sr sq : ByteArray) (K1 : Box (∀ w, T w → Calls Tryd.prog 17 #[.agg (inC x)] w fun r w' => r = .returned (.tuple #[.int .u8 (tt.lay : Nat), .int .i64 0]) ∧ Below w.heap.size w w')) (R1 : Box (∀ w, Calls Tryd.prog 18 #[.int .u8 (x.op : Nat), .int .u8 (x.form : Nat), .int .u8 (x.frm : Nat), .int .u8 (x.kind : Nat)] w fun r w' => r = .returned (.tuple #[.agg (ndC tt st), .int .i64 0]) ∧ Below w.heap.size w w')) (o2 : Bool) (K2 : Box (∀ w, T w → Calls Tryd.prog 19 #[.int .u32 (v : Nat), .int .u32 (u : Nat)] w fun r w' => r = .returned (.tuple #[.int .u32 0, .int .i64 250]) ∧ Below w.heap.size w w')) (R2 : Box (∀ w, Calls Tryd.prog 20 #[.int .u32 (v : Nat)] w fun r w' => r = .returned (.tuple #[.agg (ndC rr sr), .bool false]) ∧ Below w.heap.size w w')) (R3 : Box (∀ w, Calls Tryd.prog 20 #[.int .u32 (u : Nat)] w fun r w' => r = .returned (.tuple #[.agg (ndC qq sq), .bool o2]) ∧ Below w.heap.size w w')) (KL : Box (∀ w, T w → Calls Tryd.prog 13 #[] w fun r w' => r = .returned (.bool true) ∧ Below w.heap.size w w')) (w : World) (hT : T w) : Calls Tryd.prog 6 #[.agg (inC x), .int .u32 (v : Nat), .int .u32 (u : Nat)] w fun r w' => r = .returned (.bool true) ∧ Below w.heap.size w w' := by
  have FF := box hT
  clear hT
  have hin := inC_new
  have heq := eqr
  have hrf := rwC_fold
  have hnn := ndC_new
  obtain ⟨Rx_0, B0⟩ := opn1 w (Obj.cells (inC x) 28)
  go_enter Tryd.func6, Tryd.ntmps6
  obtain ⟨cx_0_0, cx_0_1, cx_0_2, cx_0_3, cx_0_4, cx_0_5, cx_0_6, cx_0_7, cx_0_8, cx_0_9, cx_0_10⟩ := inC_cells Rx_0
  go_wp2_with fail
  refine (K1.out _ (FB.out FF.out B0)).mono ?_
  rintro r w1 ⟨rfl, b1⟩
  have B1 : Below w.heap.size w w1 := btr B0 b1
  have Rx_1 := heap_of b1 _ _ _ Rx_0
  clear b1 B0 Rx_0 cx_0_0 cx_0_1 cx_0_2 cx_0_3 cx_0_4 cx_0_5 cx_0_6 cx_0_7 cx_0_8 cx_0_9 cx_0_10
  obtain ⟨cx_1_0, cx_1_1, cx_1_2, cx_1_3, cx_1_4, cx_1_5, cx_1_6, cx_1_7, cx_1_8, cx_1_9, cx_1_10⟩ := inC_cells Rx_1
  go_wp2_with fail
  refine (R1.out _).mono ?_
  rintro r w2 ⟨rfl, b2⟩
  have B2 : Below w.heap.size w w2 := btr B1 b2
  have Rx_2 := heap_of b2 _ _ _ Rx_1
  clear b2 B1 Rx_1 cx_1_0 cx_1_1 cx_1_2 cx_1_3 cx_1_4 cx_1_5 cx_1_6 cx_1_7 cx_1_8 cx_1_9 cx_1_10
  obtain ⟨cx_2_0, cx_2_1, cx_2_2, cx_2_3, cx_2_4, cx_2_5, cx_2_6, cx_2_7, cx_2_8, cx_2_9, cx_2_10⟩ := inC_cells Rx_2
  have S3 := box B2.size
  have Lx_3 : Box (w.heap.size < w2.heap.size) := box (Array.getElem?_eq_some_iff.1 Rx_2).1
  have Rt_3 := heap_alloc_last w2 (Obj.cells (ndC tt st) 56)
  have B3 := btr B2 (bal w2 (Obj.cells (ndC tt st) 56))
  have Rx_3 := heap_of (bal w2 (Obj.cells (ndC tt st) 56)) _ _ _ Rx_2
  clear B2 Rx_2 cx_2_0 cx_2_1 cx_2_2 cx_2_3 cx_2_4 cx_2_5 cx_2_6 cx_2_7 cx_2_8 cx_2_9 cx_2_10
  obtain ⟨cx_3_0, cx_3_1, cx_3_2, cx_3_3, cx_3_4, cx_3_5, cx_3_6, cx_3_7, cx_3_8, cx_3_9, cx_3_10⟩ := inC_cells Rx_3
  obtain ⟨ct_3_0, ct_3_1, ct_3_2, ct_3_3, ct_3_4, ct_3_5, ct_3_6, ct_3_7⟩ := ndC_cells Rt_3
  go_wp2_with fail
  refine (K2.out _ (FB.out FF.out B3)).mono ?_
  rintro r w4 ⟨rfl, b4⟩
  have B4 : Below w.heap.size w w4 := btr B3 b4
  have Rx_4 := heap_of b4 _ _ _ Rx_3
  have Rt_4 := heap_of b4 _ _ _ Rt_3
  clear b4 B3 Rx_3 cx_3_0 cx_3_1 cx_3_2 cx_3_3 cx_3_4 cx_3_5 cx_3_6 cx_3_7 cx_3_8 cx_3_9 cx_3_10 Rt_3 ct_3_0 ct_3_1 ct_3_2 ct_3_3 ct_3_4 ct_3_5 ct_3_6 ct_3_7
  obtain ⟨cx_4_0, cx_4_1, cx_4_2, cx_4_3, cx_4_4, cx_4_5, cx_4_6, cx_4_7, cx_4_8, cx_4_9, cx_4_10⟩ := inC_cells Rx_4
  obtain ⟨ct_4_0, ct_4_1, ct_4_2, ct_4_3, ct_4_4, ct_4_5, ct_4_6, ct_4_7⟩ := ndC_cells Rt_4
  go_wp2_with fail
  refine (R2.out _).mono ?_
  rintro r w5 ⟨rfl, b5⟩
  have B5 : Below w.heap.size w w5 := btr B4 b5
  have Rx_5 := heap_of b5 _ _ _ Rx_4
  have Rt_5 := heap_of b5 _ _ _ Rt_4
  clear b5 B4 Rx_4 cx_4_0 cx_4_1 cx_4_2 cx_4_3 cx_4_4 cx_4_5 cx_4_6 cx_4_7 cx_4_8 cx_4_9 cx_4_10 Rt_4 ct_4_0 ct_4_1 ct_4_2 ct_4_3 ct_4_4 ct_4_5 ct_4_6 ct_4_7
  obtain ⟨cx_5_0, cx_5_1, cx_5_2, cx_5_3, cx_5_4, cx_5_5, cx_5_6, cx_5_7, cx_5_8, cx_5_9, cx_5_10⟩ := inC_cells Rx_5
  obtain ⟨ct_5_0, ct_5_1, ct_5_2, ct_5_3, ct_5_4, ct_5_5, ct_5_6, ct_5_7⟩ := ndC_cells Rt_5
  have S6 := box B5.size
  have Lx_6 : Box (w.heap.size < w5.heap.size) := box (Array.getElem?_eq_some_iff.1 Rx_5).1
  have Lt_6 : Box (w2.heap.size < w5.heap.size) := box (Array.getElem?_eq_some_iff.1 Rt_5).1
  have Rr_6 := heap_alloc_last w5 (Obj.cells (ndC rr sr) 56)
  have B6 := btr B5 (bal w5 (Obj.cells (ndC rr sr) 56))
  have Rx_6 := heap_of (bal w5 (Obj.cells (ndC rr sr) 56)) _ _ _ Rx_5
  have Rt_6 := heap_of (bal w5 (Obj.cells (ndC rr sr) 56)) _ _ _ Rt_5
  clear B5 Rx_5 cx_5_0 cx_5_1 cx_5_2 cx_5_3 cx_5_4 cx_5_5 cx_5_6 cx_5_7 cx_5_8 cx_5_9 cx_5_10 Rt_5 ct_5_0 ct_5_1 ct_5_2 ct_5_3 ct_5_4 ct_5_5 ct_5_6 ct_5_7
  obtain ⟨cx_6_0, cx_6_1, cx_6_2, cx_6_3, cx_6_4, cx_6_5, cx_6_6, cx_6_7, cx_6_8, cx_6_9, cx_6_10⟩ := inC_cells Rx_6
  obtain ⟨ct_6_0, ct_6_1, ct_6_2, ct_6_3, ct_6_4, ct_6_5, ct_6_6, ct_6_7⟩ := ndC_cells Rt_6
  obtain ⟨cr_6_0, cr_6_1, cr_6_2, cr_6_3, cr_6_4, cr_6_5, cr_6_6, cr_6_7⟩ := ndC_cells Rr_6
  go_wp2_with fail
  refine (R3.out _).mono ?_
  rintro r w7 ⟨rfl, b7⟩
  have B7 : Below w.heap.size w w7 := btr B6 b7
  have Rx_7 := heap_of b7 _ _ _ Rx_6
  have Rt_7 := heap_of b7 _ _ _ Rt_6
  have Rr_7 := heap_of b7 _ _ _ Rr_6
  clear b7 B6 Rx_6 cx_6_0 cx_6_1 cx_6_2 cx_6_3 cx_6_4 cx_6_5 cx_6_6 cx_6_7 cx_6_8 cx_6_9 cx_6_10 Rt_6 ct_6_0 ct_6_1 ct_6_2 ct_6_3 ct_6_4 ct_6_5 ct_6_6 ct_6_7 Rr_6 cr_6_0 cr_6_1 cr_6_2 cr_6_3 cr_6_4 cr_6_5 cr_6_6 cr_6_7
  obtain ⟨cx_7_0, cx_7_1, cx_7_2, cx_7_3, cx_7_4, cx_7_5, cx_7_6, cx_7_7, cx_7_8, cx_7_9, cx_7_10⟩ := inC_cells Rx_7
  obtain ⟨ct_7_0, ct_7_1, ct_7_2, ct_7_3, ct_7_4, ct_7_5, ct_7_6, ct_7_7⟩ := ndC_cells Rt_7
  obtain ⟨cr_7_0, cr_7_1, cr_7_2, cr_7_3, cr_7_4, cr_7_5, cr_7_6, cr_7_7⟩ := ndC_cells Rr_7
  have S8 := box B7.size
  have Lx_8 : Box (w.heap.size < w7.heap.size) := box (Array.getElem?_eq_some_iff.1 Rx_7).1
  have Lt_8 : Box (w2.heap.size < w7.heap.size) := box (Array.getElem?_eq_some_iff.1 Rt_7).1
  have Lr_8 : Box (w5.heap.size < w7.heap.size) := box (Array.getElem?_eq_some_iff.1 Rr_7).1
  have Rq_8 := heap_alloc_last w7 (Obj.cells (ndC qq sq) 56)
  have B8 := btr B7 (bal w7 (Obj.cells (ndC qq sq) 56))
  have Rx_8 := heap_of (bal w7 (Obj.cells (ndC qq sq) 56)) _ _ _ Rx_7
  have Rt_8 := heap_of (bal w7 (Obj.cells (ndC qq sq) 56)) _ _ _ Rt_7
  have Rr_8 := heap_of (bal w7 (Obj.cells (ndC qq sq) 56)) _ _ _ Rr_7
  clear B7 Rx_7 cx_7_0 cx_7_1 cx_7_2 cx_7_3 cx_7_4 cx_7_5 cx_7_6 cx_7_7 cx_7_8 cx_7_9 cx_7_10 Rt_7 ct_7_0 ct_7_1 ct_7_2 ct_7_3 ct_7_4 ct_7_5 ct_7_6 ct_7_7 Rr_7 cr_7_0 cr_7_1 cr_7_2 cr_7_3 cr_7_4 cr_7_5 cr_7_6 cr_7_7
  obtain ⟨cx_8_0, cx_8_1, cx_8_2, cx_8_3, cx_8_4, cx_8_5, cx_8_6, cx_8_7, cx_8_8, cx_8_9, cx_8_10⟩ := inC_cells Rx_8
  obtain ⟨ct_8_0, ct_8_1, ct_8_2, ct_8_3, ct_8_4, ct_8_5, ct_8_6, ct_8_7⟩ := ndC_cells Rt_8
  obtain ⟨cr_8_0, cr_8_1, cr_8_2, cr_8_3, cr_8_4, cr_8_5, cr_8_6, cr_8_7⟩ := ndC_cells Rr_8
  obtain ⟨cq_8_0, cq_8_1, cq_8_2, cq_8_3, cq_8_4, cq_8_5, cq_8_6, cq_8_7⟩ := ndC_cells Rq_8
  go_wp2_with fail
  refine (KL.out _ (FB.out FF.out B8)).mono ?_
  rintro r w9 ⟨rfl, b9⟩
  have B9 : Below w.heap.size w w9 := btr B8 b9
  have Rx_9 := heap_of b9 _ _ _ Rx_8
  have Rt_9 := heap_of b9 _ _ _ Rt_8
  have Rr_9 := heap_of b9 _ _ _ Rr_8
  have Rq_9 := heap_of b9 _ _ _ Rq_8
  clear b9 B8 Rx_8 cx_8_0 cx_8_1 cx_8_2 cx_8_3 cx_8_4 cx_8_5 cx_8_6 cx_8_7 cx_8_8 cx_8_9 cx_8_10 Rt_8 ct_8_0 ct_8_1 ct_8_2 ct_8_3 ct_8_4 ct_8_5 ct_8_6 ct_8_7 Rr_8 cr_8_0 cr_8_1 cr_8_2 cr_8_3 cr_8_4 cr_8_5 cr_8_6 cr_8_7 Rq_8 cq_8_0 cq_8_1 cq_8_2 cq_8_3 cq_8_4 cq_8_5 cq_8_6 cq_8_7
  obtain ⟨cx_9_0, cx_9_1, cx_9_2, cx_9_3, cx_9_4, cx_9_5, cx_9_6, cx_9_7, cx_9_8, cx_9_9, cx_9_10⟩ := inC_cells Rx_9
  obtain ⟨ct_9_0, ct_9_1, ct_9_2, ct_9_3, ct_9_4, ct_9_5, ct_9_6, ct_9_7⟩ := ndC_cells Rt_9
  obtain ⟨cr_9_0, cr_9_1, cr_9_2, cr_9_3, cr_9_4, cr_9_5, cr_9_6, cr_9_7⟩ := ndC_cells Rr_9
  obtain ⟨cq_9_0, cq_9_1, cq_9_2, cq_9_3, cq_9_4, cq_9_5, cq_9_6, cq_9_7⟩ := ndC_cells Rq_9
  go_wp2
  go_ret
  exact ⟨rfl, B9⟩
set_option maxRecDepth 100000 in
set_option maxHeartbeats 8000000 in
theorem dc_rows_y1 {T : World → Prop} (FB : Box (∀ {w w' : World}, T w → Below w.heap.size w w' → T w')) (x : In) (v u : Nat) (tt rr qq : Rw) (st sr sq : ByteArray) (K1 : Box (∀ w, T w → Calls Tryd.prog 17 #[.agg (inC x)] w fun r w' => r = .returned (.tuple #[.int .u8 (tt.lay : Nat), .int .i64 0]) ∧ Below w.heap.size w w')) (R1 : Box (∀ w, Calls Tryd.prog 18 #[.int .u8 (x.op : Nat), .int .u8 (x.form : Nat), .int .u8 (x.frm : Nat), .int .u8 (x.kind : Nat)] w fun r w' => r = .returned (.tuple #[.agg (ndC tt st), .int .i64 0]) ∧ Below w.heap.size w w')) (K2 : Box (∀ w, T w → Calls Tryd.prog 19 #[.int .u32 (v : Nat), .int .u32 (u : Nat)] w fun r w' => r = .returned (.tuple #[.int .u32 0, .int .i64 250]) ∧ Below w.heap.size w w')) (R2 : Box (∀ w, Calls Tryd.prog 20 #[.int .u32 (v : Nat)] w fun r w' => r = .returned (.tuple #[.agg (ndC rr sr), .bool true]) ∧ Below w.heap.size w w')) (R3 : Box (∀ w, Calls Tryd.prog 20 #[.int .u32 (u : Nat)] w fun r w' => r = .returned (.tuple #[.agg (ndC qq sq), .bool false]) ∧ Below w.heap.size w w')) (KL : Box (∀ w, T w → Calls Tryd.prog 13 #[] w fun r w' => r = .returned (.bool true) ∧ Below w.heap.size w w')) (w : World) (hT : T w) : Calls Tryd.prog 6 #[.agg (inC x), .int .u32 (v : Nat), .int .u32 (u : Nat)] w fun r w' => r = .returned (.bool true) ∧ Below w.heap.size w w' := by
  have FF := box hT
  clear hT
  have hin := inC_new
  have heq := eqr
  have hrf := rwC_fold
  have hnn := ndC_new
  obtain ⟨Rx_0, B0⟩ := opn1 w (Obj.cells (inC x) 28)
  go_enter Tryd.func6, Tryd.ntmps6
  obtain ⟨cx_0_0, cx_0_1, cx_0_2, cx_0_3, cx_0_4, cx_0_5, cx_0_6, cx_0_7, cx_0_8, cx_0_9, cx_0_10⟩ := inC_cells Rx_0
  go_wp2_with fail
  refine (K1.out _ (FB.out FF.out B0)).mono ?_
  rintro r w1 ⟨rfl, b1⟩
  have B1 : Below w.heap.size w w1 := btr B0 b1
  have Rx_1 := heap_of b1 _ _ _ Rx_0
  clear b1 B0 Rx_0 cx_0_0 cx_0_1 cx_0_2 cx_0_3 cx_0_4 cx_0_5 cx_0_6 cx_0_7 cx_0_8 cx_0_9 cx_0_10
  obtain ⟨cx_1_0, cx_1_1, cx_1_2, cx_1_3, cx_1_4, cx_1_5, cx_1_6, cx_1_7, cx_1_8, cx_1_9, cx_1_10⟩ := inC_cells Rx_1
  go_wp2_with fail
  refine (R1.out _).mono ?_
  rintro r w2 ⟨rfl, b2⟩
  have B2 : Below w.heap.size w w2 := btr B1 b2
  have Rx_2 := heap_of b2 _ _ _ Rx_1
  clear b2 B1 Rx_1 cx_1_0 cx_1_1 cx_1_2 cx_1_3 cx_1_4 cx_1_5 cx_1_6 cx_1_7 cx_1_8 cx_1_9 cx_1_10
  obtain ⟨cx_2_0, cx_2_1, cx_2_2, cx_2_3, cx_2_4, cx_2_5, cx_2_6, cx_2_7, cx_2_8, cx_2_9, cx_2_10⟩ := inC_cells Rx_2
  have S3 := box B2.size
  have Lx_3 : Box (w.heap.size < w2.heap.size) := box (Array.getElem?_eq_some_iff.1 Rx_2).1
  have Rt_3 := heap_alloc_last w2 (Obj.cells (ndC tt st) 56)
  have B3 := btr B2 (bal w2 (Obj.cells (ndC tt st) 56))
  have Rx_3 := heap_of (bal w2 (Obj.cells (ndC tt st) 56)) _ _ _ Rx_2
  clear B2 Rx_2 cx_2_0 cx_2_1 cx_2_2 cx_2_3 cx_2_4 cx_2_5 cx_2_6 cx_2_7 cx_2_8 cx_2_9 cx_2_10
  obtain ⟨cx_3_0, cx_3_1, cx_3_2, cx_3_3, cx_3_4, cx_3_5, cx_3_6, cx_3_7, cx_3_8, cx_3_9, cx_3_10⟩ := inC_cells Rx_3
  obtain ⟨ct_3_0, ct_3_1, ct_3_2, ct_3_3, ct_3_4, ct_3_5, ct_3_6, ct_3_7⟩ := ndC_cells Rt_3
  go_wp2_with fail
  refine (K2.out _ (FB.out FF.out B3)).mono ?_
  rintro r w4 ⟨rfl, b4⟩
  have B4 : Below w.heap.size w w4 := btr B3 b4
  have Rx_4 := heap_of b4 _ _ _ Rx_3
  have Rt_4 := heap_of b4 _ _ _ Rt_3
  clear b4 B3 Rx_3 cx_3_0 cx_3_1 cx_3_2 cx_3_3 cx_3_4 cx_3_5 cx_3_6 cx_3_7 cx_3_8 cx_3_9 cx_3_10 Rt_3 ct_3_0 ct_3_1 ct_3_2 ct_3_3 ct_3_4 ct_3_5 ct_3_6 ct_3_7
  obtain ⟨cx_4_0, cx_4_1, cx_4_2, cx_4_3, cx_4_4, cx_4_5, cx_4_6, cx_4_7, cx_4_8, cx_4_9, cx_4_10⟩ := inC_cells Rx_4
  obtain ⟨ct_4_0, ct_4_1, ct_4_2, ct_4_3, ct_4_4, ct_4_5, ct_4_6, ct_4_7⟩ := ndC_cells Rt_4
  go_wp2_with fail
  refine (R2.out _).mono ?_
  rintro r w5 ⟨rfl, b5⟩
  have B5 : Below w.heap.size w w5 := btr B4 b5
  have Rx_5 := heap_of b5 _ _ _ Rx_4
  have Rt_5 := heap_of b5 _ _ _ Rt_4
  clear b5 B4 Rx_4 cx_4_0 cx_4_1 cx_4_2 cx_4_3 cx_4_4 cx_4_5 cx_4_6 cx_4_7 cx_4_8 cx_4_9 cx_4_10 Rt_4 ct_4_0 ct_4_1 ct_4_2 ct_4_3 ct_4_4 ct_4_5 ct_4_6 ct_4_7
  obtain ⟨cx_5_0, cx_5_1, cx_5_2, cx_5_3, cx_5_4, cx_5_5, cx_5_6, cx_5_7, cx_5_8, cx_5_9, cx_5_10⟩ := inC_cells Rx_5
  obtain ⟨ct_5_0, ct_5_1, ct_5_2, ct_5_3, ct_5_4, ct_5_5, ct_5_6, ct_5_7⟩ := ndC_cells Rt_5
  have S6 := box B5.size
  have Lx_6 : Box (w.heap.size < w5.heap.size) := box (Array.getElem?_eq_some_iff.1 Rx_5).1
  have Lt_6 : Box (w2.heap.size < w5.heap.size) := box (Array.getElem?_eq_some_iff.1 Rt_5).1
  have Rr_6 := heap_alloc_last w5 (Obj.cells (ndC rr sr) 56)
  have B6 := btr B5 (bal w5 (Obj.cells (ndC rr sr) 56))
  have Rx_6 := heap_of (bal w5 (Obj.cells (ndC rr sr) 56)) _ _ _ Rx_5
  have Rt_6 := heap_of (bal w5 (Obj.cells (ndC rr sr) 56)) _ _ _ Rt_5
  clear B5 Rx_5 cx_5_0 cx_5_1 cx_5_2 cx_5_3 cx_5_4 cx_5_5 cx_5_6 cx_5_7 cx_5_8 cx_5_9 cx_5_10 Rt_5 ct_5_0 ct_5_1 ct_5_2 ct_5_3 ct_5_4 ct_5_5 ct_5_6 ct_5_7
  obtain ⟨cx_6_0, cx_6_1, cx_6_2, cx_6_3, cx_6_4, cx_6_5, cx_6_6, cx_6_7, cx_6_8, cx_6_9, cx_6_10⟩ := inC_cells Rx_6
  obtain ⟨ct_6_0, ct_6_1, ct_6_2, ct_6_3, ct_6_4, ct_6_5, ct_6_6, ct_6_7⟩ := ndC_cells Rt_6
  obtain ⟨cr_6_0, cr_6_1, cr_6_2, cr_6_3, cr_6_4, cr_6_5, cr_6_6, cr_6_7⟩ := ndC_cells Rr_6
  go_wp2_with fail
  refine (R3.out _).mono ?_
  rintro r w7 ⟨rfl, b7⟩
  have B7 : Below w.heap.size w w7 := btr B6 b7
  have Rx_7 := heap_of b7 _ _ _ Rx_6
  have Rt_7 := heap_of b7 _ _ _ Rt_6
  have Rr_7 := heap_of b7 _ _ _ Rr_6
  clear b7 B6 Rx_6 cx_6_0 cx_6_1 cx_6_2 cx_6_3 cx_6_4 cx_6_5 cx_6_6 cx_6_7 cx_6_8 cx_6_9 cx_6_10 Rt_6 ct_6_0 ct_6_1 ct_6_2 ct_6_3 ct_6_4 ct_6_5 ct_6_6 ct_6_7 Rr_6 cr_6_0 cr_6_1 cr_6_2 cr_6_3 cr_6_4 cr_6_5 cr_6_6 cr_6_7
  obtain ⟨cx_7_0, cx_7_1, cx_7_2, cx_7_3, cx_7_4, cx_7_5, cx_7_6, cx_7_7, cx_7_8, cx_7_9, cx_7_10⟩ := inC_cells Rx_7
  obtain ⟨ct_7_0, ct_7_1, ct_7_2, ct_7_3, ct_7_4, ct_7_5, ct_7_6, ct_7_7⟩ := ndC_cells Rt_7
  obtain ⟨cr_7_0, cr_7_1, cr_7_2, cr_7_3, cr_7_4, cr_7_5, cr_7_6, cr_7_7⟩ := ndC_cells Rr_7
  have S8 := box B7.size
  have Lx_8 : Box (w.heap.size < w7.heap.size) := box (Array.getElem?_eq_some_iff.1 Rx_7).1
  have Lt_8 : Box (w2.heap.size < w7.heap.size) := box (Array.getElem?_eq_some_iff.1 Rt_7).1
  have Lr_8 : Box (w5.heap.size < w7.heap.size) := box (Array.getElem?_eq_some_iff.1 Rr_7).1
  have Rq_8 := heap_alloc_last w7 (Obj.cells (ndC qq sq) 56)
  have B8 := btr B7 (bal w7 (Obj.cells (ndC qq sq) 56))
  have Rx_8 := heap_of (bal w7 (Obj.cells (ndC qq sq) 56)) _ _ _ Rx_7
  have Rt_8 := heap_of (bal w7 (Obj.cells (ndC qq sq) 56)) _ _ _ Rt_7
  have Rr_8 := heap_of (bal w7 (Obj.cells (ndC qq sq) 56)) _ _ _ Rr_7
  clear B7 Rx_7 cx_7_0 cx_7_1 cx_7_2 cx_7_3 cx_7_4 cx_7_5 cx_7_6 cx_7_7 cx_7_8 cx_7_9 cx_7_10 Rt_7 ct_7_0 ct_7_1 ct_7_2 ct_7_3 ct_7_4 ct_7_5 ct_7_6 ct_7_7 Rr_7 cr_7_0 cr_7_1 cr_7_2 cr_7_3 cr_7_4 cr_7_5 cr_7_6 cr_7_7
  obtain ⟨cx_8_0, cx_8_1, cx_8_2, cx_8_3, cx_8_4, cx_8_5, cx_8_6, cx_8_7, cx_8_8, cx_8_9, cx_8_10⟩ := inC_cells Rx_8
  obtain ⟨ct_8_0, ct_8_1, ct_8_2, ct_8_3, ct_8_4, ct_8_5, ct_8_6, ct_8_7⟩ := ndC_cells Rt_8
  obtain ⟨cr_8_0, cr_8_1, cr_8_2, cr_8_3, cr_8_4, cr_8_5, cr_8_6, cr_8_7⟩ := ndC_cells Rr_8
  obtain ⟨cq_8_0, cq_8_1, cq_8_2, cq_8_3, cq_8_4, cq_8_5, cq_8_6, cq_8_7⟩ := ndC_cells Rq_8
  go_wp2_with fail
  refine (KL.out _ (FB.out FF.out B8)).mono ?_
  rintro r w9 ⟨rfl, b9⟩
  have B9 : Below w.heap.size w w9 := btr B8 b9
  have Rx_9 := heap_of b9 _ _ _ Rx_8
  have Rt_9 := heap_of b9 _ _ _ Rt_8
  have Rr_9 := heap_of b9 _ _ _ Rr_8
  have Rq_9 := heap_of b9 _ _ _ Rq_8
  clear b9 B8 Rx_8 cx_8_0 cx_8_1 cx_8_2 cx_8_3 cx_8_4 cx_8_5 cx_8_6 cx_8_7 cx_8_8 cx_8_9 cx_8_10 Rt_8 ct_8_0 ct_8_1 ct_8_2 ct_8_3 ct_8_4 ct_8_5 ct_8_6 ct_8_7 Rr_8 cr_8_0 cr_8_1 cr_8_2 cr_8_3 cr_8_4 cr_8_5 cr_8_6 cr_8_7 Rq_8 cq_8_0 cq_8_1 cq_8_2 cq_8_3 cq_8_4 cq_8_5 cq_8_6 cq_8_7
  obtain ⟨cx_9_0, cx_9_1, cx_9_2, cx_9_3, cx_9_4, cx_9_5, cx_9_6, cx_9_7, cx_9_8, cx_9_9, cx_9_10⟩ := inC_cells Rx_9
  obtain ⟨ct_9_0, ct_9_1, ct_9_2, ct_9_3, ct_9_4, ct_9_5, ct_9_6, ct_9_7⟩ := ndC_cells Rt_9
  obtain ⟨cr_9_0, cr_9_1, cr_9_2, cr_9_3, cr_9_4, cr_9_5, cr_9_6, cr_9_7⟩ := ndC_cells Rr_9
  obtain ⟨cq_9_0, cq_9_1, cq_9_2, cq_9_3, cq_9_4, cq_9_5, cq_9_6, cq_9_7⟩ := ndC_cells Rq_9
  go_wp2
  go_ret
  exact ⟨rfl, B9⟩
set_option maxRecDepth 100000 in
set_option maxHeartbeats 8000000 in
theorem dc_rows_y2 {T : World → Prop} (FB : Box (∀ {w w' : World}, T w → Below w.heap.size w w' → T w')) (x : In) (v u : Nat) (tt rr qq : Rw) (st sr sq : ByteArray) (K1 : Box (∀ w, T w → Calls Tryd.prog 17 #[.agg (inC x)] w fun r w' => r = .returned (.tuple #[.int .u8 (tt.lay : Nat), .int .i64 0]) ∧ Below w.heap.size w w')) (R1 : Box (∀ w, Calls Tryd.prog 18 #[.int .u8 (x.op : Nat), .int .u8 (x.form : Nat), .int .u8 (x.frm : Nat), .int .u8 (x.kind : Nat)] w fun r w' => r = .returned (.tuple #[.agg (ndC tt st), .int .i64 0]) ∧ Below w.heap.size w w')) (hrq : rwE rr qq = false) (K2 : Box (∀ w, T w → Calls Tryd.prog 19 #[.int .u32 (v : Nat), .int .u32 (u : Nat)] w fun r w' => r = .returned (.tuple #[.int .u32 0, .int .i64 2]) ∧ Below w.heap.size w w')) (R2 : Box (∀ w, Calls Tryd.prog 20 #[.int .u32 (v : Nat)] w fun r w' => r = .returned (.tuple #[.agg (ndC rr sr), .bool true]) ∧ Below w.heap.size w w')) (R3 : Box (∀ w, Calls Tryd.prog 20 #[.int .u32 (u : Nat)] w fun r w' => r = .returned (.tuple #[.agg (ndC qq sq), .bool true]) ∧ Below w.heap.size w w')) (KL : Box (∀ w, T w → Calls Tryd.prog 13 #[] w fun r w' => r = .returned (.bool true) ∧ Below w.heap.size w w')) (w : World) (hT : T w) : Calls Tryd.prog 6 #[.agg (inC x), .int .u32 (v : Nat), .int .u32 (u : Nat)] w fun r w' => r = .returned (.bool true) ∧ Below w.heap.size w w' := by
  have FF := box hT
  clear hT
  have hin := inC_new
  have heq := eqr
  have hrf := rwC_fold
  have hnn := ndC_new
  obtain ⟨Rx_0, B0⟩ := opn1 w (Obj.cells (inC x) 28)
  go_enter Tryd.func6, Tryd.ntmps6
  obtain ⟨cx_0_0, cx_0_1, cx_0_2, cx_0_3, cx_0_4, cx_0_5, cx_0_6, cx_0_7, cx_0_8, cx_0_9, cx_0_10⟩ := inC_cells Rx_0
  go_wp2_with fail
  refine (K1.out _ (FB.out FF.out B0)).mono ?_
  rintro r w1 ⟨rfl, b1⟩
  have B1 : Below w.heap.size w w1 := btr B0 b1
  have Rx_1 := heap_of b1 _ _ _ Rx_0
  clear b1 B0 Rx_0 cx_0_0 cx_0_1 cx_0_2 cx_0_3 cx_0_4 cx_0_5 cx_0_6 cx_0_7 cx_0_8 cx_0_9 cx_0_10
  obtain ⟨cx_1_0, cx_1_1, cx_1_2, cx_1_3, cx_1_4, cx_1_5, cx_1_6, cx_1_7, cx_1_8, cx_1_9, cx_1_10⟩ := inC_cells Rx_1
  go_wp2_with fail
  refine (R1.out _).mono ?_
  rintro r w2 ⟨rfl, b2⟩
  have B2 : Below w.heap.size w w2 := btr B1 b2
  have Rx_2 := heap_of b2 _ _ _ Rx_1
  clear b2 B1 Rx_1 cx_1_0 cx_1_1 cx_1_2 cx_1_3 cx_1_4 cx_1_5 cx_1_6 cx_1_7 cx_1_8 cx_1_9 cx_1_10
  obtain ⟨cx_2_0, cx_2_1, cx_2_2, cx_2_3, cx_2_4, cx_2_5, cx_2_6, cx_2_7, cx_2_8, cx_2_9, cx_2_10⟩ := inC_cells Rx_2
  have S3 := box B2.size
  have Lx_3 : Box (w.heap.size < w2.heap.size) := box (Array.getElem?_eq_some_iff.1 Rx_2).1
  have Rt_3 := heap_alloc_last w2 (Obj.cells (ndC tt st) 56)
  have B3 := btr B2 (bal w2 (Obj.cells (ndC tt st) 56))
  have Rx_3 := heap_of (bal w2 (Obj.cells (ndC tt st) 56)) _ _ _ Rx_2
  clear B2 Rx_2 cx_2_0 cx_2_1 cx_2_2 cx_2_3 cx_2_4 cx_2_5 cx_2_6 cx_2_7 cx_2_8 cx_2_9 cx_2_10
  obtain ⟨cx_3_0, cx_3_1, cx_3_2, cx_3_3, cx_3_4, cx_3_5, cx_3_6, cx_3_7, cx_3_8, cx_3_9, cx_3_10⟩ := inC_cells Rx_3
  obtain ⟨ct_3_0, ct_3_1, ct_3_2, ct_3_3, ct_3_4, ct_3_5, ct_3_6, ct_3_7⟩ := ndC_cells Rt_3
  go_wp2_with fail
  refine (K2.out _ (FB.out FF.out B3)).mono ?_
  rintro r w4 ⟨rfl, b4⟩
  have B4 : Below w.heap.size w w4 := btr B3 b4
  have Rx_4 := heap_of b4 _ _ _ Rx_3
  have Rt_4 := heap_of b4 _ _ _ Rt_3
  clear b4 B3 Rx_3 cx_3_0 cx_3_1 cx_3_2 cx_3_3 cx_3_4 cx_3_5 cx_3_6 cx_3_7 cx_3_8 cx_3_9 cx_3_10 Rt_3 ct_3_0 ct_3_1 ct_3_2 ct_3_3 ct_3_4 ct_3_5 ct_3_6 ct_3_7
  obtain ⟨cx_4_0, cx_4_1, cx_4_2, cx_4_3, cx_4_4, cx_4_5, cx_4_6, cx_4_7, cx_4_8, cx_4_9, cx_4_10⟩ := inC_cells Rx_4
  obtain ⟨ct_4_0, ct_4_1, ct_4_2, ct_4_3, ct_4_4, ct_4_5, ct_4_6, ct_4_7⟩ := ndC_cells Rt_4
  go_wp2_with fail
  refine (R2.out _).mono ?_
  rintro r w5 ⟨rfl, b5⟩
  have B5 : Below w.heap.size w w5 := btr B4 b5
  have Rx_5 := heap_of b5 _ _ _ Rx_4
  have Rt_5 := heap_of b5 _ _ _ Rt_4
  clear b5 B4 Rx_4 cx_4_0 cx_4_1 cx_4_2 cx_4_3 cx_4_4 cx_4_5 cx_4_6 cx_4_7 cx_4_8 cx_4_9 cx_4_10 Rt_4 ct_4_0 ct_4_1 ct_4_2 ct_4_3 ct_4_4 ct_4_5 ct_4_6 ct_4_7
  obtain ⟨cx_5_0, cx_5_1, cx_5_2, cx_5_3, cx_5_4, cx_5_5, cx_5_6, cx_5_7, cx_5_8, cx_5_9, cx_5_10⟩ := inC_cells Rx_5
  obtain ⟨ct_5_0, ct_5_1, ct_5_2, ct_5_3, ct_5_4, ct_5_5, ct_5_6, ct_5_7⟩ := ndC_cells Rt_5
  have S6 := box B5.size
  have Lx_6 : Box (w.heap.size < w5.heap.size) := box (Array.getElem?_eq_some_iff.1 Rx_5).1
  have Lt_6 : Box (w2.heap.size < w5.heap.size) := box (Array.getElem?_eq_some_iff.1 Rt_5).1
  have Rr_6 := heap_alloc_last w5 (Obj.cells (ndC rr sr) 56)
  have B6 := btr B5 (bal w5 (Obj.cells (ndC rr sr) 56))
  have Rx_6 := heap_of (bal w5 (Obj.cells (ndC rr sr) 56)) _ _ _ Rx_5
  have Rt_6 := heap_of (bal w5 (Obj.cells (ndC rr sr) 56)) _ _ _ Rt_5
  clear B5 Rx_5 cx_5_0 cx_5_1 cx_5_2 cx_5_3 cx_5_4 cx_5_5 cx_5_6 cx_5_7 cx_5_8 cx_5_9 cx_5_10 Rt_5 ct_5_0 ct_5_1 ct_5_2 ct_5_3 ct_5_4 ct_5_5 ct_5_6 ct_5_7
  obtain ⟨cx_6_0, cx_6_1, cx_6_2, cx_6_3, cx_6_4, cx_6_5, cx_6_6, cx_6_7, cx_6_8, cx_6_9, cx_6_10⟩ := inC_cells Rx_6
  obtain ⟨ct_6_0, ct_6_1, ct_6_2, ct_6_3, ct_6_4, ct_6_5, ct_6_6, ct_6_7⟩ := ndC_cells Rt_6
  obtain ⟨cr_6_0, cr_6_1, cr_6_2, cr_6_3, cr_6_4, cr_6_5, cr_6_6, cr_6_7⟩ := ndC_cells Rr_6
  go_wp2_with fail
  refine (R3.out _).mono ?_
  rintro r w7 ⟨rfl, b7⟩
  have B7 : Below w.heap.size w w7 := btr B6 b7
  have Rx_7 := heap_of b7 _ _ _ Rx_6
  have Rt_7 := heap_of b7 _ _ _ Rt_6
  have Rr_7 := heap_of b7 _ _ _ Rr_6
  clear b7 B6 Rx_6 cx_6_0 cx_6_1 cx_6_2 cx_6_3 cx_6_4 cx_6_5 cx_6_6 cx_6_7 cx_6_8 cx_6_9 cx_6_10 Rt_6 ct_6_0 ct_6_1 ct_6_2 ct_6_3 ct_6_4 ct_6_5 ct_6_6 ct_6_7 Rr_6 cr_6_0 cr_6_1 cr_6_2 cr_6_3 cr_6_4 cr_6_5 cr_6_6 cr_6_7
  obtain ⟨cx_7_0, cx_7_1, cx_7_2, cx_7_3, cx_7_4, cx_7_5, cx_7_6, cx_7_7, cx_7_8, cx_7_9, cx_7_10⟩ := inC_cells Rx_7
  obtain ⟨ct_7_0, ct_7_1, ct_7_2, ct_7_3, ct_7_4, ct_7_5, ct_7_6, ct_7_7⟩ := ndC_cells Rt_7
  obtain ⟨cr_7_0, cr_7_1, cr_7_2, cr_7_3, cr_7_4, cr_7_5, cr_7_6, cr_7_7⟩ := ndC_cells Rr_7
  have S8 := box B7.size
  have Lx_8 : Box (w.heap.size < w7.heap.size) := box (Array.getElem?_eq_some_iff.1 Rx_7).1
  have Lt_8 : Box (w2.heap.size < w7.heap.size) := box (Array.getElem?_eq_some_iff.1 Rt_7).1
  have Lr_8 : Box (w5.heap.size < w7.heap.size) := box (Array.getElem?_eq_some_iff.1 Rr_7).1
  have Rq_8 := heap_alloc_last w7 (Obj.cells (ndC qq sq) 56)
  have B8 := btr B7 (bal w7 (Obj.cells (ndC qq sq) 56))
  have Rx_8 := heap_of (bal w7 (Obj.cells (ndC qq sq) 56)) _ _ _ Rx_7
  have Rt_8 := heap_of (bal w7 (Obj.cells (ndC qq sq) 56)) _ _ _ Rt_7
  have Rr_8 := heap_of (bal w7 (Obj.cells (ndC qq sq) 56)) _ _ _ Rr_7
  clear B7 Rx_7 cx_7_0 cx_7_1 cx_7_2 cx_7_3 cx_7_4 cx_7_5 cx_7_6 cx_7_7 cx_7_8 cx_7_9 cx_7_10 Rt_7 ct_7_0 ct_7_1 ct_7_2 ct_7_3 ct_7_4 ct_7_5 ct_7_6 ct_7_7 Rr_7 cr_7_0 cr_7_1 cr_7_2 cr_7_3 cr_7_4 cr_7_5 cr_7_6 cr_7_7
  obtain ⟨cx_8_0, cx_8_1, cx_8_2, cx_8_3, cx_8_4, cx_8_5, cx_8_6, cx_8_7, cx_8_8, cx_8_9, cx_8_10⟩ := inC_cells Rx_8
  obtain ⟨ct_8_0, ct_8_1, ct_8_2, ct_8_3, ct_8_4, ct_8_5, ct_8_6, ct_8_7⟩ := ndC_cells Rt_8
  obtain ⟨cr_8_0, cr_8_1, cr_8_2, cr_8_3, cr_8_4, cr_8_5, cr_8_6, cr_8_7⟩ := ndC_cells Rr_8
  obtain ⟨cq_8_0, cq_8_1, cq_8_2, cq_8_3, cq_8_4, cq_8_5, cq_8_6, cq_8_7⟩ := ndC_cells Rq_8
  go_wp2_with fail
  refine (KL.out _ (FB.out FF.out B8)).mono ?_
  rintro r w9 ⟨rfl, b9⟩
  have B9 : Below w.heap.size w w9 := btr B8 b9
  have Rx_9 := heap_of b9 _ _ _ Rx_8
  have Rt_9 := heap_of b9 _ _ _ Rt_8
  have Rr_9 := heap_of b9 _ _ _ Rr_8
  have Rq_9 := heap_of b9 _ _ _ Rq_8
  clear b9 B8 Rx_8 cx_8_0 cx_8_1 cx_8_2 cx_8_3 cx_8_4 cx_8_5 cx_8_6 cx_8_7 cx_8_8 cx_8_9 cx_8_10 Rt_8 ct_8_0 ct_8_1 ct_8_2 ct_8_3 ct_8_4 ct_8_5 ct_8_6 ct_8_7 Rr_8 cr_8_0 cr_8_1 cr_8_2 cr_8_3 cr_8_4 cr_8_5 cr_8_6 cr_8_7 Rq_8 cq_8_0 cq_8_1 cq_8_2 cq_8_3 cq_8_4 cq_8_5 cq_8_6 cq_8_7
  obtain ⟨cx_9_0, cx_9_1, cx_9_2, cx_9_3, cx_9_4, cx_9_5, cx_9_6, cx_9_7, cx_9_8, cx_9_9, cx_9_10⟩ := inC_cells Rx_9
  obtain ⟨ct_9_0, ct_9_1, ct_9_2, ct_9_3, ct_9_4, ct_9_5, ct_9_6, ct_9_7⟩ := ndC_cells Rt_9
  obtain ⟨cr_9_0, cr_9_1, cr_9_2, cr_9_3, cr_9_4, cr_9_5, cr_9_6, cr_9_7⟩ := ndC_cells Rr_9
  obtain ⟨cq_9_0, cq_9_1, cq_9_2, cq_9_3, cq_9_4, cq_9_5, cq_9_6, cq_9_7⟩ := ndC_cells Rq_9
  go_wp2
  go_ret
  exact ⟨rfl, B9⟩
set_option maxRecDepth 100000 in
set_option maxHeartbeats 8000000 in
theorem dc_rows_y3 {T : World → Prop} (FB : Box (∀ {w w' : World}, T w → Below w.heap.size w w' → T w')) (x : In) (v u : Nat) (tt rr qq : Rw) (st sr sq : ByteArray) (K1 : Box (∀ w, T w → Calls Tryd.prog 17 #[.agg (inC x)] w fun r w' => r = .returned (.tuple #[.int .u8 (tt.lay : Nat), .int .i64 0]) ∧ Below w.heap.size w w')) (R1 : Box (∀ w, Calls Tryd.prog 18 #[.int .u8 (x.op : Nat), .int .u8 (x.form : Nat), .int .u8 (x.frm : Nat), .int .u8 (x.kind : Nat)] w fun r w' => r = .returned (.tuple #[.agg (ndC tt st), .int .i64 0]) ∧ Below w.heap.size w w')) (hrq : rwE rr qq = true) (m z : Nat) (hz : bits .xor .u32 (v : Nat) (u : Nat) = (z : Nat)) (hn : bits .andNot .u32 (z : Nat) (m : Nat) = 0) (R4 : Box (∀ w, Calls Tryd.prog 21 #[.int .u8 (rr.lay : Nat)] w fun r w' => r = .returned (.int .u32 (m : Nat)) ∧ Below w.heap.size w w')) (K2 : Box (∀ w, T w → Calls Tryd.prog 19 #[.int .u32 (v : Nat), .int .u32 (u : Nat)] w fun r w' => r = .returned (.tuple #[.int .u32 (m : Nat), .int .i64 0]) ∧ Below w.heap.size w w')) (R2 : Box (∀ w, Calls Tryd.prog 20 #[.int .u32 (v : Nat)] w fun r w' => r = .returned (.tuple #[.agg (ndC rr sr), .bool true]) ∧ Below w.heap.size w w')) (R3 : Box (∀ w, Calls Tryd.prog 20 #[.int .u32 (u : Nat)] w fun r w' => r = .returned (.tuple #[.agg (ndC qq sq), .bool true]) ∧ Below w.heap.size w w')) (KL : Box (∀ w, T w → Calls Tryd.prog 13 #[] w fun r w' => r = .returned (.bool true) ∧ Below w.heap.size w w')) (w : World) (hT : T w) : Calls Tryd.prog 6 #[.agg (inC x), .int .u32 (v : Nat), .int .u32 (u : Nat)] w fun r w' => r = .returned (.bool true) ∧ Below w.heap.size w w' := by
  have FF := box hT
  clear hT
  have hin := inC_new
  have heq := eqr
  have hrf := rwC_fold
  have hnn := ndC_new
  obtain ⟨Rx_0, B0⟩ := opn1 w (Obj.cells (inC x) 28)
  go_enter Tryd.func6, Tryd.ntmps6
  obtain ⟨cx_0_0, cx_0_1, cx_0_2, cx_0_3, cx_0_4, cx_0_5, cx_0_6, cx_0_7, cx_0_8, cx_0_9, cx_0_10⟩ := inC_cells Rx_0
  go_wp2_with fail
  refine (K1.out _ (FB.out FF.out B0)).mono ?_
  rintro r w1 ⟨rfl, b1⟩
  have B1 : Below w.heap.size w w1 := btr B0 b1
  have Rx_1 := heap_of b1 _ _ _ Rx_0
  clear b1 B0 Rx_0 cx_0_0 cx_0_1 cx_0_2 cx_0_3 cx_0_4 cx_0_5 cx_0_6 cx_0_7 cx_0_8 cx_0_9 cx_0_10
  obtain ⟨cx_1_0, cx_1_1, cx_1_2, cx_1_3, cx_1_4, cx_1_5, cx_1_6, cx_1_7, cx_1_8, cx_1_9, cx_1_10⟩ := inC_cells Rx_1
  go_wp2_with fail
  refine (R1.out _).mono ?_
  rintro r w2 ⟨rfl, b2⟩
  have B2 : Below w.heap.size w w2 := btr B1 b2
  have Rx_2 := heap_of b2 _ _ _ Rx_1
  clear b2 B1 Rx_1 cx_1_0 cx_1_1 cx_1_2 cx_1_3 cx_1_4 cx_1_5 cx_1_6 cx_1_7 cx_1_8 cx_1_9 cx_1_10
  obtain ⟨cx_2_0, cx_2_1, cx_2_2, cx_2_3, cx_2_4, cx_2_5, cx_2_6, cx_2_7, cx_2_8, cx_2_9, cx_2_10⟩ := inC_cells Rx_2
  have S3 := box B2.size
  have Lx_3 : Box (w.heap.size < w2.heap.size) := box (Array.getElem?_eq_some_iff.1 Rx_2).1
  have Rt_3 := heap_alloc_last w2 (Obj.cells (ndC tt st) 56)
  have B3 := btr B2 (bal w2 (Obj.cells (ndC tt st) 56))
  have Rx_3 := heap_of (bal w2 (Obj.cells (ndC tt st) 56)) _ _ _ Rx_2
  clear B2 Rx_2 cx_2_0 cx_2_1 cx_2_2 cx_2_3 cx_2_4 cx_2_5 cx_2_6 cx_2_7 cx_2_8 cx_2_9 cx_2_10
  obtain ⟨cx_3_0, cx_3_1, cx_3_2, cx_3_3, cx_3_4, cx_3_5, cx_3_6, cx_3_7, cx_3_8, cx_3_9, cx_3_10⟩ := inC_cells Rx_3
  obtain ⟨ct_3_0, ct_3_1, ct_3_2, ct_3_3, ct_3_4, ct_3_5, ct_3_6, ct_3_7⟩ := ndC_cells Rt_3
  go_wp2_with fail
  refine (K2.out _ (FB.out FF.out B3)).mono ?_
  rintro r w4 ⟨rfl, b4⟩
  have B4 : Below w.heap.size w w4 := btr B3 b4
  have Rx_4 := heap_of b4 _ _ _ Rx_3
  have Rt_4 := heap_of b4 _ _ _ Rt_3
  clear b4 B3 Rx_3 cx_3_0 cx_3_1 cx_3_2 cx_3_3 cx_3_4 cx_3_5 cx_3_6 cx_3_7 cx_3_8 cx_3_9 cx_3_10 Rt_3 ct_3_0 ct_3_1 ct_3_2 ct_3_3 ct_3_4 ct_3_5 ct_3_6 ct_3_7
  obtain ⟨cx_4_0, cx_4_1, cx_4_2, cx_4_3, cx_4_4, cx_4_5, cx_4_6, cx_4_7, cx_4_8, cx_4_9, cx_4_10⟩ := inC_cells Rx_4
  obtain ⟨ct_4_0, ct_4_1, ct_4_2, ct_4_3, ct_4_4, ct_4_5, ct_4_6, ct_4_7⟩ := ndC_cells Rt_4
  go_wp2_with fail
  refine (R2.out _).mono ?_
  rintro r w5 ⟨rfl, b5⟩
  have B5 : Below w.heap.size w w5 := btr B4 b5
  have Rx_5 := heap_of b5 _ _ _ Rx_4
  have Rt_5 := heap_of b5 _ _ _ Rt_4
  clear b5 B4 Rx_4 cx_4_0 cx_4_1 cx_4_2 cx_4_3 cx_4_4 cx_4_5 cx_4_6 cx_4_7 cx_4_8 cx_4_9 cx_4_10 Rt_4 ct_4_0 ct_4_1 ct_4_2 ct_4_3 ct_4_4 ct_4_5 ct_4_6 ct_4_7
  obtain ⟨cx_5_0, cx_5_1, cx_5_2, cx_5_3, cx_5_4, cx_5_5, cx_5_6, cx_5_7, cx_5_8, cx_5_9, cx_5_10⟩ := inC_cells Rx_5
  obtain ⟨ct_5_0, ct_5_1, ct_5_2, ct_5_3, ct_5_4, ct_5_5, ct_5_6, ct_5_7⟩ := ndC_cells Rt_5
  have S6 := box B5.size
  have Lx_6 : Box (w.heap.size < w5.heap.size) := box (Array.getElem?_eq_some_iff.1 Rx_5).1
  have Lt_6 : Box (w2.heap.size < w5.heap.size) := box (Array.getElem?_eq_some_iff.1 Rt_5).1
  have Rr_6 := heap_alloc_last w5 (Obj.cells (ndC rr sr) 56)
  have B6 := btr B5 (bal w5 (Obj.cells (ndC rr sr) 56))
  have Rx_6 := heap_of (bal w5 (Obj.cells (ndC rr sr) 56)) _ _ _ Rx_5
  have Rt_6 := heap_of (bal w5 (Obj.cells (ndC rr sr) 56)) _ _ _ Rt_5
  clear B5 Rx_5 cx_5_0 cx_5_1 cx_5_2 cx_5_3 cx_5_4 cx_5_5 cx_5_6 cx_5_7 cx_5_8 cx_5_9 cx_5_10 Rt_5 ct_5_0 ct_5_1 ct_5_2 ct_5_3 ct_5_4 ct_5_5 ct_5_6 ct_5_7
  obtain ⟨cx_6_0, cx_6_1, cx_6_2, cx_6_3, cx_6_4, cx_6_5, cx_6_6, cx_6_7, cx_6_8, cx_6_9, cx_6_10⟩ := inC_cells Rx_6
  obtain ⟨ct_6_0, ct_6_1, ct_6_2, ct_6_3, ct_6_4, ct_6_5, ct_6_6, ct_6_7⟩ := ndC_cells Rt_6
  obtain ⟨cr_6_0, cr_6_1, cr_6_2, cr_6_3, cr_6_4, cr_6_5, cr_6_6, cr_6_7⟩ := ndC_cells Rr_6
  go_wp2_with fail
  refine (R3.out _).mono ?_
  rintro r w7 ⟨rfl, b7⟩
  have B7 : Below w.heap.size w w7 := btr B6 b7
  have Rx_7 := heap_of b7 _ _ _ Rx_6
  have Rt_7 := heap_of b7 _ _ _ Rt_6
  have Rr_7 := heap_of b7 _ _ _ Rr_6
  clear b7 B6 Rx_6 cx_6_0 cx_6_1 cx_6_2 cx_6_3 cx_6_4 cx_6_5 cx_6_6 cx_6_7 cx_6_8 cx_6_9 cx_6_10 Rt_6 ct_6_0 ct_6_1 ct_6_2 ct_6_3 ct_6_4 ct_6_5 ct_6_6 ct_6_7 Rr_6 cr_6_0 cr_6_1 cr_6_2 cr_6_3 cr_6_4 cr_6_5 cr_6_6 cr_6_7
  obtain ⟨cx_7_0, cx_7_1, cx_7_2, cx_7_3, cx_7_4, cx_7_5, cx_7_6, cx_7_7, cx_7_8, cx_7_9, cx_7_10⟩ := inC_cells Rx_7
  obtain ⟨ct_7_0, ct_7_1, ct_7_2, ct_7_3, ct_7_4, ct_7_5, ct_7_6, ct_7_7⟩ := ndC_cells Rt_7
  obtain ⟨cr_7_0, cr_7_1, cr_7_2, cr_7_3, cr_7_4, cr_7_5, cr_7_6, cr_7_7⟩ := ndC_cells Rr_7
  have S8 := box B7.size
  have Lx_8 : Box (w.heap.size < w7.heap.size) := box (Array.getElem?_eq_some_iff.1 Rx_7).1
  have Lt_8 : Box (w2.heap.size < w7.heap.size) := box (Array.getElem?_eq_some_iff.1 Rt_7).1
  have Lr_8 : Box (w5.heap.size < w7.heap.size) := box (Array.getElem?_eq_some_iff.1 Rr_7).1
  have Rq_8 := heap_alloc_last w7 (Obj.cells (ndC qq sq) 56)
  have B8 := btr B7 (bal w7 (Obj.cells (ndC qq sq) 56))
  have Rx_8 := heap_of (bal w7 (Obj.cells (ndC qq sq) 56)) _ _ _ Rx_7
  have Rt_8 := heap_of (bal w7 (Obj.cells (ndC qq sq) 56)) _ _ _ Rt_7
  have Rr_8 := heap_of (bal w7 (Obj.cells (ndC qq sq) 56)) _ _ _ Rr_7
  clear B7 Rx_7 cx_7_0 cx_7_1 cx_7_2 cx_7_3 cx_7_4 cx_7_5 cx_7_6 cx_7_7 cx_7_8 cx_7_9 cx_7_10 Rt_7 ct_7_0 ct_7_1 ct_7_2 ct_7_3 ct_7_4 ct_7_5 ct_7_6 ct_7_7 Rr_7 cr_7_0 cr_7_1 cr_7_2 cr_7_3 cr_7_4 cr_7_5 cr_7_6 cr_7_7
  obtain ⟨cx_8_0, cx_8_1, cx_8_2, cx_8_3, cx_8_4, cx_8_5, cx_8_6, cx_8_7, cx_8_8, cx_8_9, cx_8_10⟩ := inC_cells Rx_8
  obtain ⟨ct_8_0, ct_8_1, ct_8_2, ct_8_3, ct_8_4, ct_8_5, ct_8_6, ct_8_7⟩ := ndC_cells Rt_8
  obtain ⟨cr_8_0, cr_8_1, cr_8_2, cr_8_3, cr_8_4, cr_8_5, cr_8_6, cr_8_7⟩ := ndC_cells Rr_8
  obtain ⟨cq_8_0, cq_8_1, cq_8_2, cq_8_3, cq_8_4, cq_8_5, cq_8_6, cq_8_7⟩ := ndC_cells Rq_8
  go_wp2_with fail
  refine (R4.out _).mono ?_
  rintro r w9 ⟨rfl, b9⟩
  have B9 : Below w.heap.size w w9 := btr B8 b9
  have Rx_9 := heap_of b9 _ _ _ Rx_8
  have Rt_9 := heap_of b9 _ _ _ Rt_8
  have Rr_9 := heap_of b9 _ _ _ Rr_8
  have Rq_9 := heap_of b9 _ _ _ Rq_8
  clear b9 B8 Rx_8 cx_8_0 cx_8_1 cx_8_2 cx_8_3 cx_8_4 cx_8_5 cx_8_6 cx_8_7 cx_8_8 cx_8_9 cx_8_10 Rt_8 ct_8_0 ct_8_1 ct_8_2 ct_8_3 ct_8_4 ct_8_5 ct_8_6 ct_8_7 Rr_8 cr_8_0 cr_8_1 cr_8_2 cr_8_3 cr_8_4 cr_8_5 cr_8_6 cr_8_7 Rq_8 cq_8_0 cq_8_1 cq_8_2 cq_8_3 cq_8_4 cq_8_5 cq_8_6 cq_8_7
  obtain ⟨cx_9_0, cx_9_1, cx_9_2, cx_9_3, cx_9_4, cx_9_5, cx_9_6, cx_9_7, cx_9_8, cx_9_9, cx_9_10⟩ := inC_cells Rx_9
  obtain ⟨ct_9_0, ct_9_1, ct_9_2, ct_9_3, ct_9_4, ct_9_5, ct_9_6, ct_9_7⟩ := ndC_cells Rt_9
  obtain ⟨cr_9_0, cr_9_1, cr_9_2, cr_9_3, cr_9_4, cr_9_5, cr_9_6, cr_9_7⟩ := ndC_cells Rr_9
  obtain ⟨cq_9_0, cq_9_1, cq_9_2, cq_9_3, cq_9_4, cq_9_5, cq_9_6, cq_9_7⟩ := ndC_cells Rq_9
  go_wp2_with fail
  refine (KL.out _ (FB.out FF.out B9)).mono ?_
  rintro r w10 ⟨rfl, b10⟩
  have B10 : Below w.heap.size w w10 := btr B9 b10
  have Rx_10 := heap_of b10 _ _ _ Rx_9
  have Rt_10 := heap_of b10 _ _ _ Rt_9
  have Rr_10 := heap_of b10 _ _ _ Rr_9
  have Rq_10 := heap_of b10 _ _ _ Rq_9
  clear b10 B9 Rx_9 cx_9_0 cx_9_1 cx_9_2 cx_9_3 cx_9_4 cx_9_5 cx_9_6 cx_9_7 cx_9_8 cx_9_9 cx_9_10 Rt_9 ct_9_0 ct_9_1 ct_9_2 ct_9_3 ct_9_4 ct_9_5 ct_9_6 ct_9_7 Rr_9 cr_9_0 cr_9_1 cr_9_2 cr_9_3 cr_9_4 cr_9_5 cr_9_6 cr_9_7 Rq_9 cq_9_0 cq_9_1 cq_9_2 cq_9_3 cq_9_4 cq_9_5 cq_9_6 cq_9_7
  obtain ⟨cx_10_0, cx_10_1, cx_10_2, cx_10_3, cx_10_4, cx_10_5, cx_10_6, cx_10_7, cx_10_8, cx_10_9, cx_10_10⟩ := inC_cells Rx_10
  obtain ⟨ct_10_0, ct_10_1, ct_10_2, ct_10_3, ct_10_4, ct_10_5, ct_10_6, ct_10_7⟩ := ndC_cells Rt_10
  obtain ⟨cr_10_0, cr_10_1, cr_10_2, cr_10_3, cr_10_4, cr_10_5, cr_10_6, cr_10_7⟩ := ndC_cells Rr_10
  obtain ⟨cq_10_0, cq_10_1, cq_10_2, cq_10_3, cq_10_4, cq_10_5, cq_10_6, cq_10_7⟩ := ndC_cells Rq_10
  go_wp2
  go_ret
  exact ⟨rfl, B10⟩
end Go.Proofs.YtamlcgmipdcgjaaDoor
