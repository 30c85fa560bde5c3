/-
  What the functions that the statement reaches return: part 15 (WC).
-/
import Derived.Test.YtaoccmopfflkmaaDoorWa14
namespace Go.Proofs.YtaoccmopfflkmaaDoor
set_option maxRecDepth 100000
set_option maxHeartbeats 40000000
set_option maxRecDepth 100000
open Go.RowKit WMath
set_option linter.unusedSimpArgs false
set_option linter.unusedVariables false
set_option maxRecDepth 100000 in
set_option maxHeartbeats 8000000 in
theorem b26_enc_no (x : In) (RM : Box (∀ w, Calls Tryd.prog 12 #[.agg (inC x)] w fun r w' => r = .returned (.bool false) ∧ Below w.heap.size w w')) (w : World) : Calls Tryd.prog 10 #[.agg (inC x)] w fun r w' => r = .returned (.tuple #[.int .u32 0, .int .i64 260]) ∧ Below w.heap.size w w' := by
  have hxn := inC_fold x
  obtain ⟨Rx_0, B0⟩ := opn1 w (Obj.cells (inC x) 27)
  go_enter Tryd.func10, Tryd.ntmps10
  obtain ⟨cx_0_0, cx_0_1, cx_0_2, cx_0_3, cx_0_4, cx_0_5, cx_0_6, cx_0_7, cx_0_8, cx_0_9, cx_0_10⟩ := inC_cells Rx_0
  go_wp2_with fail
  refine (RM.out _).mono ?_
  rintro r w1 ⟨rfl, b1⟩
  have B1 : Below w.heap.size w w1 := btr B0 b1
  have Rx_1 := heap_of b1 _ _ _ Rx_0
  clear b1 B0 Rx_0 cx_0_0 cx_0_1 cx_0_2 cx_0_3 cx_0_4 cx_0_5 cx_0_6 cx_0_7 cx_0_8 cx_0_9 cx_0_10
  obtain ⟨cx_1_0, cx_1_1, cx_1_2, cx_1_3, cx_1_4, cx_1_5, cx_1_6, cx_1_7, cx_1_8, cx_1_9, cx_1_10⟩ := inC_cells Rx_1
  go_wp2
  go_ret2
  exact ⟨rfl, B1⟩
set_option maxRecDepth 100000 in
set_option maxHeartbeats 8000000 in
theorem b26_enc_1p (x : In) (rr : Rw) (nn : ByteArray) (hw : IntKind.i64.wrap x.imm = x.imm) (hw2 : wrap64 x.imm = x.imm) (hvrs1 : wrap64 ((x.rs1 : Nat) : Int) = (x.rs1 : Nat)) (hvrd : wrap64 ((x.rd : Nat) : Int) = (x.rd : Nat)) (iv ih il : Nat) (hn : decide (x.imm < 0) = false) (HX : Box (x.imm = (iv : Nat))) (hn2 : decide (((iv : Nat) : Int) < 0) = false) (hh2 : IntKind.i64.wrap (((iv : Nat) : Int).tdiv 32) = (ih : Nat)) (hl2 : IntKind.i64.wrap (((iv : Nat) : Int).tmod 32) = (il : Nat)) (hh3 : ((iv : Nat) : Int).tdiv 32 = (ih : Nat)) (hl3 : ((iv : Nat) : Int).tmod 32 = (il : Nat)) (hh4 : wrap64 (((iv : Nat) : Int).tdiv 32) = (ih : Nat)) (hl4 : wrap64 (((iv : Nat) : Int).tmod 32) = (il : Nat)) (hh5 : wrap64 ((ih : Nat) : Int) = (ih : Nat)) (hl5 : wrap64 ((il : Nat) : Int) = (il : Nat)) (hv5 : wrap64 ((iv : Nat) : Int) = (iv : Nat)) (hh : ((iv : Nat) : Int) / 32 = (ih : Nat)) (hl : ((iv : Nat) : Int) % 32 = (il : Nat)) (q1 : (((rr.lay : Nat) : Int) == 1) = true) (q2 : (((rr.lay : Nat) : Int) == 2) = false) (RM : Box (∀ w, Calls Tryd.prog 12 #[.agg (inC x)] w fun r w' => r = .returned (.bool true) ∧ Below w.heap.size w w')) (RO : Box (∀ w, Calls Tryd.prog 26 #[.int .u8 (x.op : Nat), .int .u8 (x.form : Nat), .int .u8 (x.frm : Nat), .int .u8 (x.kind : Nat)] w fun r w' => r = .returned (.tuple #[.agg (ndC rr nn), .int .i64 0]) ∧ Below w.heap.size w w')) (RF : Box (∀ w, Calls Tryd.prog 28 #[.int .u8 (rr.lay : Nat)] w fun r w' => r = .returned (.agg (hsC ⟨true, false, false, false, true, false⟩)) ∧ Below w.heap.size w w')) (V15 : Nat) (P15 : Box (∀ w, Calls Tryd.prog 27 #[.int .i64 15, .int .i64 5, .int .i64 (x.rs1 : Nat)] w fun r w' => r = .returned (.int .u32 (V15 : Nat)) ∧ Below w.heap.size w w')) (V7 : Nat) (P7 : Box (∀ w, Calls Tryd.prog 27 #[.int .i64 7, .int .i64 5, .int .i64 (x.rd : Nat)] w fun r w' => r = .returned (.int .u32 (V7 : Nat)) ∧ Below w.heap.size w w')) (VI : Nat) (PI : Box (∀ w, Calls Tryd.prog 27 #[.int .i64 20, .int .i64 12, .int .i64 (iv : Nat)] w fun r w' => r = .returned (.int .u32 (VI : Nat)) ∧ Below w.heap.size w w')) (S0 : Nat) (e0 : (((rr.mtch : Nat) : Int) + ((V15 : Nat) : Int)) % 4294967296 = (S0 : Nat)) (S1 : Nat) (e1 : (((S0 : Nat) : Int) + ((V7 : Nat) : Int)) % 4294967296 = (S1 : Nat)) (S2 : Nat) (e2 : (((S1 : Nat) : Int) + ((VI : Nat) : Int)) % 4294967296 = (S2 : Nat)) (w : World) : Calls Tryd.prog 10 #[.agg (inC x)] w fun r w' => r = .returned (.tuple #[.int .u32 (S2 : Nat), .int .i64 0]) ∧ Below w.heap.size w w' := by
  have hxn := inC_fold x
  have hdn := ndC_new
  have hhn := hsC_new
  obtain ⟨Rx_0, B0⟩ := opn1 w (Obj.cells (inC x) 27)
  go_enter Tryd.func10, Tryd.ntmps10
  obtain ⟨cx_0_0, cx_0_1, cx_0_2, cx_0_3, cx_0_4, cx_0_5, cx_0_6, cx_0_7, cx_0_8, cx_0_9, cx_0_10⟩ := inC_cells Rx_0
  go_wp2_with fail
  refine (RM.out _).mono ?_
  rintro r w1 ⟨rfl, b1⟩
  have B1 : Below w.heap.size w w1 := btr B0 b1
  have Rx_1 := heap_of b1 _ _ _ Rx_0
  clear b1 B0 Rx_0 cx_0_0 cx_0_1 cx_0_2 cx_0_3 cx_0_4 cx_0_5 cx_0_6 cx_0_7 cx_0_8 cx_0_9 cx_0_10
  obtain ⟨cx_1_0, cx_1_1, cx_1_2, cx_1_3, cx_1_4, cx_1_5, cx_1_6, cx_1_7, cx_1_8, cx_1_9, cx_1_10⟩ := inC_cells Rx_1
  clear hxn
  go_wp2_with fail
  refine (RO.out _).mono ?_
  rintro r w2 ⟨rfl, b2⟩
  have B2 : Below w.heap.size w w2 := btr B1 b2
  have Rx_2 := heap_of b2 _ _ _ Rx_1
  clear b2 B1 Rx_1 cx_1_0 cx_1_1 cx_1_2 cx_1_3 cx_1_4 cx_1_5 cx_1_6 cx_1_7 cx_1_8 cx_1_9 cx_1_10
  obtain ⟨cx_2_0, cx_2_1, cx_2_2, cx_2_3, cx_2_4, cx_2_5, cx_2_6, cx_2_7, cx_2_8, cx_2_9, cx_2_10⟩ := inC_cells Rx_2
  have S3 := box B2.size
  have Lx_3 : Box (w.heap.size < w2.heap.size) := box (Array.getElem?_eq_some_iff.1 Rx_2).1
  have Rt_3 := heap_alloc_last w2 (Obj.cells (ndC rr nn) 47)
  have B3 := btr B2 (bal w2 (Obj.cells (ndC rr nn) 47))
  have Rx_3 := heap_of (bal w2 (Obj.cells (ndC rr nn) 47)) _ _ _ Rx_2
  clear B2 Rx_2 cx_2_0 cx_2_1 cx_2_2 cx_2_3 cx_2_4 cx_2_5 cx_2_6 cx_2_7 cx_2_8 cx_2_9 cx_2_10
  obtain ⟨cx_3_0, cx_3_1, cx_3_2, cx_3_3, cx_3_4, cx_3_5, cx_3_6, cx_3_7, cx_3_8, cx_3_9, cx_3_10⟩ := inC_cells Rx_3
  obtain ⟨ct_3_0, ct_3_1, ct_3_2, ct_3_3, ct_3_4, ct_3_5, ct_3_6, ct_3_7⟩ := ndC_cells Rt_3
  go_wp2_with fail
  obtain ⟨F, hF1, hF2⟩ := below_fun (w2.alloc (Obj.cells (ndC rr nn) 47))
  have fx_0 := fun u => (inC_cells (heap_of (hF1 u) _ _ _ Rx_3)).1
  have fx_1 := fun u => (inC_cells (heap_of (hF1 u) _ _ _ Rx_3)).2.1
  have fx_2 := fun u => (inC_cells (heap_of (hF1 u) _ _ _ Rx_3)).2.2.1
  have fx_3 := fun u => (inC_cells (heap_of (hF1 u) _ _ _ Rx_3)).2.2.2.1
  have fx_4 := fun u => (inC_cells (heap_of (hF1 u) _ _ _ Rx_3)).2.2.2.2.1
  have fx_5 := fun u => (inC_cells (heap_of (hF1 u) _ _ _ Rx_3)).2.2.2.2.2.1
  have fx_6 := fun u => (inC_cells (heap_of (hF1 u) _ _ _ Rx_3)).2.2.2.2.2.2.1
  have fx_7 := fun u => (inC_cells (heap_of (hF1 u) _ _ _ Rx_3)).2.2.2.2.2.2.2.1
  have fx_8 := fun u => (inC_cells (heap_of (hF1 u) _ _ _ Rx_3)).2.2.2.2.2.2.2.2.1
  have fx_9 := fun u => (inC_cells (heap_of (hF1 u) _ _ _ Rx_3)).2.2.2.2.2.2.2.2.2.1
  have fx_10 := fun u => (inC_cells (heap_of (hF1 u) _ _ _ Rx_3)).2.2.2.2.2.2.2.2.2.2
  have ft_0 := fun u => (ndC_cells (heap_of (hF1 u) _ _ _ Rt_3)).1
  have ft_1 := fun u => (ndC_cells (heap_of (hF1 u) _ _ _ Rt_3)).2.1
  have ft_2 := fun u => (ndC_cells (heap_of (hF1 u) _ _ _ Rt_3)).2.2.1
  have ft_3 := fun u => (ndC_cells (heap_of (hF1 u) _ _ _ Rt_3)).2.2.2.1
  have ft_4 := fun u => (ndC_cells (heap_of (hF1 u) _ _ _ Rt_3)).2.2.2.2.1
  have ft_5 := fun u => (ndC_cells (heap_of (hF1 u) _ _ _ Rt_3)).2.2.2.2.2.1
  have ft_6 := fun u => (ndC_cells (heap_of (hF1 u) _ _ _ Rt_3)).2.2.2.2.2.2.1
  have ft_7 := fun u => (ndC_cells (heap_of (hF1 u) _ _ _ Rt_3)).2.2.2.2.2.2.2
  refine wp_region_below F hF2 (by kernel_rfl) (by kernel_rfl) ?_
  repeat first | go_big_quiet_step (first | (go_at_call 27; exact quietF hF1 hF2 (P15.out _)) | fail) | quiet_step (first | (go_at_call 27; exact quietF hF1 hF2 (P15.out _)) | fail)
  refine wpQuiet_nil ?_
  rintro _ ⟨uW, rfl⟩
  have B4 := btr B3 (hF1 uW)
  have Rx_4 := heap_of (hF1 uW) _ _ _ Rx_3
  have Rt_4 := heap_of (hF1 uW) _ _ _ Rt_3
  obtain ⟨w4, hw⟩ : ∃ V, F uW = V := ⟨_, rfl⟩
  rw [hw] at B4 Rx_4 Rt_4
  try rw [hw]
  clear hw hF1 hF2 B3 fx_0 fx_1 fx_2 fx_3 fx_4 fx_5 fx_6 fx_7 fx_8 fx_9 fx_10 ft_0 ft_1 ft_2 ft_3 ft_4 ft_5 ft_6 ft_7 Rx_3 cx_3_0 cx_3_1 cx_3_2 cx_3_3 cx_3_4 cx_3_5 cx_3_6 cx_3_7 cx_3_8 cx_3_9 cx_3_10 Rt_3 ct_3_0 ct_3_1 ct_3_2 ct_3_3 ct_3_4 ct_3_5 ct_3_6 ct_3_7
  clear F
  obtain ⟨cx_4_0, cx_4_1, cx_4_2, cx_4_3, cx_4_4, cx_4_5, cx_4_6, cx_4_7, cx_4_8, cx_4_9, cx_4_10⟩ := inC_cells Rx_4
  obtain ⟨ct_4_0, ct_4_1, ct_4_2, ct_4_3, ct_4_4, ct_4_5, ct_4_6, ct_4_7⟩ := ndC_cells Rt_4
  go_wp2_with fail
  refine (RF.out _).mono ?_
  rintro r w5 ⟨rfl, b5⟩
  have B5 : Below w.heap.size w w5 := btr B4 b5
  have Rx_5 := heap_of b5 _ _ _ Rx_4
  have Rt_5 := heap_of b5 _ _ _ Rt_4
  clear b5 B4 Rx_4 cx_4_0 cx_4_1 cx_4_2 cx_4_3 cx_4_4 cx_4_5 cx_4_6 cx_4_7 cx_4_8 cx_4_9 cx_4_10 Rt_4 ct_4_0 ct_4_1 ct_4_2 ct_4_3 ct_4_4 ct_4_5 ct_4_6 ct_4_7
  obtain ⟨cx_5_0, cx_5_1, cx_5_2, cx_5_3, cx_5_4, cx_5_5, cx_5_6, cx_5_7, cx_5_8, cx_5_9, cx_5_10⟩ := inC_cells Rx_5
  obtain ⟨ct_5_0, ct_5_1, ct_5_2, ct_5_3, ct_5_4, ct_5_5, ct_5_6, ct_5_7⟩ := ndC_cells Rt_5
  have S6 := box B5.size
  have Lx_6 : Box (w.heap.size < w5.heap.size) := box (Array.getElem?_eq_some_iff.1 Rx_5).1
  have Lt_6 : Box (w2.heap.size < w5.heap.size) := box (Array.getElem?_eq_some_iff.1 Rt_5).1
  have Rh_6 := heap_alloc_last w5 (Obj.cells (hsC ⟨true, false, false, false, true, false⟩) 71)
  have B6 := btr B5 (bal w5 (Obj.cells (hsC ⟨true, false, false, false, true, false⟩) 71))
  have Rx_6 := heap_of (bal w5 (Obj.cells (hsC ⟨true, false, false, false, true, false⟩) 71)) _ _ _ Rx_5
  have Rt_6 := heap_of (bal w5 (Obj.cells (hsC ⟨true, false, false, false, true, false⟩) 71)) _ _ _ Rt_5
  clear B5 Rx_5 cx_5_0 cx_5_1 cx_5_2 cx_5_3 cx_5_4 cx_5_5 cx_5_6 cx_5_7 cx_5_8 cx_5_9 cx_5_10 Rt_5 ct_5_0 ct_5_1 ct_5_2 ct_5_3 ct_5_4 ct_5_5 ct_5_6 ct_5_7
  obtain ⟨cx_6_0, cx_6_1, cx_6_2, cx_6_3, cx_6_4, cx_6_5, cx_6_6, cx_6_7, cx_6_8, cx_6_9, cx_6_10⟩ := inC_cells Rx_6
  obtain ⟨ct_6_0, ct_6_1, ct_6_2, ct_6_3, ct_6_4, ct_6_5, ct_6_6, ct_6_7⟩ := ndC_cells Rt_6
  obtain ⟨ch_6_0, ch_6_1, ch_6_2, ch_6_3, ch_6_4, ch_6_5⟩ := hsC_cells Rh_6
  go_wp2_with fail
  refine (P7.out _).mono ?_
  rintro r w7 ⟨rfl, b7⟩
  have B7 : Below w.heap.size w w7 := btr B6 b7
  have Rx_7 := heap_of b7 _ _ _ Rx_6
  have Rt_7 := heap_of b7 _ _ _ Rt_6
  have Rh_7 := heap_of b7 _ _ _ Rh_6
  clear b7 B6 Rx_6 cx_6_0 cx_6_1 cx_6_2 cx_6_3 cx_6_4 cx_6_5 cx_6_6 cx_6_7 cx_6_8 cx_6_9 cx_6_10 Rt_6 ct_6_0 ct_6_1 ct_6_2 ct_6_3 ct_6_4 ct_6_5 ct_6_6 ct_6_7 Rh_6 ch_6_0 ch_6_1 ch_6_2 ch_6_3 ch_6_4 ch_6_5
  obtain ⟨cx_7_0, cx_7_1, cx_7_2, cx_7_3, cx_7_4, cx_7_5, cx_7_6, cx_7_7, cx_7_8, cx_7_9, cx_7_10⟩ := inC_cells Rx_7
  obtain ⟨ct_7_0, ct_7_1, ct_7_2, ct_7_3, ct_7_4, ct_7_5, ct_7_6, ct_7_7⟩ := ndC_cells Rt_7
  obtain ⟨ch_7_0, ch_7_1, ch_7_2, ch_7_3, ch_7_4, ch_7_5⟩ := hsC_cells Rh_7
  have hxi := HX.out
  go_wp2_with fail
  refine (PI.out _).mono ?_
  rintro r w8 ⟨rfl, b8⟩
  have B8 : Below w.heap.size w w8 := btr B7 b8
  have Rx_8 := heap_of b8 _ _ _ Rx_7
  have Rt_8 := heap_of b8 _ _ _ Rt_7
  have Rh_8 := heap_of b8 _ _ _ Rh_7
  clear b8 B7 Rx_7 cx_7_0 cx_7_1 cx_7_2 cx_7_3 cx_7_4 cx_7_5 cx_7_6 cx_7_7 cx_7_8 cx_7_9 cx_7_10 Rt_7 ct_7_0 ct_7_1 ct_7_2 ct_7_3 ct_7_4 ct_7_5 ct_7_6 ct_7_7 Rh_7 ch_7_0 ch_7_1 ch_7_2 ch_7_3 ch_7_4 ch_7_5
  obtain ⟨cx_8_0, cx_8_1, cx_8_2, cx_8_3, cx_8_4, cx_8_5, cx_8_6, cx_8_7, cx_8_8, cx_8_9, cx_8_10⟩ := inC_cells Rx_8
  obtain ⟨ct_8_0, ct_8_1, ct_8_2, ct_8_3, ct_8_4, ct_8_5, ct_8_6, ct_8_7⟩ := ndC_cells Rt_8
  obtain ⟨ch_8_0, ch_8_1, ch_8_2, ch_8_3, ch_8_4, ch_8_5⟩ := hsC_cells Rh_8
  go_wp2
  simp only [e1, e2]
  go_ret2
  exact ⟨rfl, B8⟩
set_option maxRecDepth 100000 in
set_option maxHeartbeats 8000000 in
theorem b26_enc_1n (x : In) (rr : Rw) (nn : ByteArray) (hw : IntKind.i64.wrap x.imm = x.imm) (hw2 : wrap64 x.imm = x.imm) (hvrs1 : wrap64 ((x.rs1 : Nat) : Int) = (x.rs1 : Nat)) (hvrd : wrap64 ((x.rd : Nat) : Int) = (x.rd : Nat)) (iv ih il : Nat) (hn : decide (x.imm < 0) = true) (hv : IntKind.i64.wrap (x.imm + 4096) = (iv : Nat)) (hvv : wrap64 (x.imm + 4096) = (iv : Nat)) (hh2 : IntKind.i64.wrap (((iv : Nat) : Int).tdiv 32) = (ih : Nat)) (hl2 : IntKind.i64.wrap (((iv : Nat) : Int).tmod 32) = (il : Nat)) (hh3 : ((iv : Nat) : Int).tdiv 32 = (ih : Nat)) (hl3 : ((iv : Nat) : Int).tmod 32 = (il : Nat)) (hh4 : wrap64 (((iv : Nat) : Int).tdiv 32) = (ih : Nat)) (hl4 : wrap64 (((iv : Nat) : Int).tmod 32) = (il : Nat)) (hh5 : wrap64 ((ih : Nat) : Int) = (ih : Nat)) (hl5 : wrap64 ((il : Nat) : Int) = (il : Nat)) (hv5 : wrap64 ((iv : Nat) : Int) = (iv : Nat)) (hh : ((iv : Nat) : Int) / 32 = (ih : Nat)) (hl : ((iv : Nat) : Int) % 32 = (il : Nat)) (q1 : (((rr.lay : Nat) : Int) == 1) = true) (q2 : (((rr.lay : Nat) : Int) == 2) = false) (RM : Box (∀ w, Calls Tryd.prog 12 #[.agg (inC x)] w fun r w' => r = .returned (.bool true) ∧ Below w.heap.size w w')) (RO : Box (∀ w, Calls Tryd.prog 26 #[.int .u8 (x.op : Nat), .int .u8 (x.form : Nat), .int .u8 (x.frm : Nat), .int .u8 (x.kind : Nat)] w fun r w' => r = .returned (.tuple #[.agg (ndC rr nn), .int .i64 0]) ∧ Below w.heap.size w w')) (RF : Box (∀ w, Calls Tryd.prog 28 #[.int .u8 (rr.lay : Nat)] w fun r w' => r = .returned (.agg (hsC ⟨true, false, false, false, true, false⟩)) ∧ Below w.heap.size w w')) (V15 : Nat) (P15 : Box (∀ w, Calls Tryd.prog 27 #[.int .i64 15, .int .i64 5, .int .i64 (x.rs1 : Nat)] w fun r w' => r = .returned (.int .u32 (V15 : Nat)) ∧ Below w.heap.size w w')) (V7 : Nat) (P7 : Box (∀ w, Calls Tryd.prog 27 #[.int .i64 7, .int .i64 5, .int .i64 (x.rd : Nat)] w fun r w' => r = .returned (.int .u32 (V7 : Nat)) ∧ Below w.heap.size w w')) (VI : Nat) (PI : Box (∀ w, Calls Tryd.prog 27 #[.int .i64 20, .int .i64 12, .int .i64 (iv : Nat)] w fun r w' => r = .returned (.int .u32 (VI : Nat)) ∧ Below w.heap.size w w')) (S0 : Nat) (e0 : (((rr.mtch : Nat) : Int) + ((V15 : Nat) : Int)) % 4294967296 = (S0 : Nat)) (S1 : Nat) (e1 : (((S0 : Nat) : Int) + ((V7 : Nat) : Int)) % 4294967296 = (S1 : Nat)) (S2 : Nat) (e2 : (((S1 : Nat) : Int) + ((VI : Nat) : Int)) % 4294967296 = (S2 : Nat)) (w : World) : Calls Tryd.prog 10 #[.agg (inC x)] w fun r w' => r = .returned (.tuple #[.int .u32 (S2 : Nat), .int .i64 0]) ∧ Below w.heap.size w w' := by
  have hxn := inC_fold x
  have hdn := ndC_new
  have hhn := hsC_new
  obtain ⟨Rx_0, B0⟩ := opn1 w (Obj.cells (inC x) 27)
  go_enter Tryd.func10, Tryd.ntmps10
  obtain ⟨cx_0_0, cx_0_1, cx_0_2, cx_0_3, cx_0_4, cx_0_5, cx_0_6, cx_0_7, cx_0_8, cx_0_9, cx_0_10⟩ := inC_cells Rx_0
  go_wp2_with fail
  refine (RM.out _).mono ?_
  rintro r w1 ⟨rfl, b1⟩
  have B1 : Below w.heap.size w w1 := btr B0 b1
  have Rx_1 := heap_of b1 _ _ _ Rx_0
  clear b1 B0 Rx_0 cx_0_0 cx_0_1 cx_0_2 cx_0_3 cx_0_4 cx_0_5 cx_0_6 cx_0_7 cx_0_8 cx_0_9 cx_0_10
  obtain ⟨cx_1_0, cx_1_1, cx_1_2, cx_1_3, cx_1_4, cx_1_5, cx_1_6, cx_1_7, cx_1_8, cx_1_9, cx_1_10⟩ := inC_cells Rx_1
  clear hxn
  go_wp2_with fail
  refine (RO.out _).mono ?_
  rintro r w2 ⟨rfl, b2⟩
  have B2 : Below w.heap.size w w2 := btr B1 b2
  have Rx_2 := heap_of b2 _ _ _ Rx_1
  clear b2 B1 Rx_1 cx_1_0 cx_1_1 cx_1_2 cx_1_3 cx_1_4 cx_1_5 cx_1_6 cx_1_7 cx_1_8 cx_1_9 cx_1_10
  obtain ⟨cx_2_0, cx_2_1, cx_2_2, cx_2_3, cx_2_4, cx_2_5, cx_2_6, cx_2_7, cx_2_8, cx_2_9, cx_2_10⟩ := inC_cells Rx_2
  have S3 := box B2.size
  have Lx_3 : Box (w.heap.size < w2.heap.size) := box (Array.getElem?_eq_some_iff.1 Rx_2).1
  have Rt_3 := heap_alloc_last w2 (Obj.cells (ndC rr nn) 47)
  have B3 := btr B2 (bal w2 (Obj.cells (ndC rr nn) 47))
  have Rx_3 := heap_of (bal w2 (Obj.cells (ndC rr nn) 47)) _ _ _ Rx_2
  clear B2 Rx_2 cx_2_0 cx_2_1 cx_2_2 cx_2_3 cx_2_4 cx_2_5 cx_2_6 cx_2_7 cx_2_8 cx_2_9 cx_2_10
  obtain ⟨cx_3_0, cx_3_1, cx_3_2, cx_3_3, cx_3_4, cx_3_5, cx_3_6, cx_3_7, cx_3_8, cx_3_9, cx_3_10⟩ := inC_cells Rx_3
  obtain ⟨ct_3_0, ct_3_1, ct_3_2, ct_3_3, ct_3_4, ct_3_5, ct_3_6, ct_3_7⟩ := ndC_cells Rt_3
  go_wp2_with fail
  obtain ⟨F, hF1, hF2⟩ := below_fun (w2.alloc (Obj.cells (ndC rr nn) 47))
  have fx_0 := fun u => (inC_cells (heap_of (hF1 u) _ _ _ Rx_3)).1
  have fx_1 := fun u => (inC_cells (heap_of (hF1 u) _ _ _ Rx_3)).2.1
  have fx_2 := fun u => (inC_cells (heap_of (hF1 u) _ _ _ Rx_3)).2.2.1
  have fx_3 := fun u => (inC_cells (heap_of (hF1 u) _ _ _ Rx_3)).2.2.2.1
  have fx_4 := fun u => (inC_cells (heap_of (hF1 u) _ _ _ Rx_3)).2.2.2.2.1
  have fx_5 := fun u => (inC_cells (heap_of (hF1 u) _ _ _ Rx_3)).2.2.2.2.2.1
  have fx_6 := fun u => (inC_cells (heap_of (hF1 u) _ _ _ Rx_3)).2.2.2.2.2.2.1
  have fx_7 := fun u => (inC_cells (heap_of (hF1 u) _ _ _ Rx_3)).2.2.2.2.2.2.2.1
  have fx_8 := fun u => (inC_cells (heap_of (hF1 u) _ _ _ Rx_3)).2.2.2.2.2.2.2.2.1
  have fx_9 := fun u => (inC_cells (heap_of (hF1 u) _ _ _ Rx_3)).2.2.2.2.2.2.2.2.2.1
  have fx_10 := fun u => (inC_cells (heap_of (hF1 u) _ _ _ Rx_3)).2.2.2.2.2.2.2.2.2.2
  have ft_0 := fun u => (ndC_cells (heap_of (hF1 u) _ _ _ Rt_3)).1
  have ft_1 := fun u => (ndC_cells (heap_of (hF1 u) _ _ _ Rt_3)).2.1
  have ft_2 := fun u => (ndC_cells (heap_of (hF1 u) _ _ _ Rt_3)).2.2.1
  have ft_3 := fun u => (ndC_cells (heap_of (hF1 u) _ _ _ Rt_3)).2.2.2.1
  have ft_4 := fun u => (ndC_cells (heap_of (hF1 u) _ _ _ Rt_3)).2.2.2.2.1
  have ft_5 := fun u => (ndC_cells (heap_of (hF1 u) _ _ _ Rt_3)).2.2.2.2.2.1
  have ft_6 := fun u => (ndC_cells (heap_of (hF1 u) _ _ _ Rt_3)).2.2.2.2.2.2.1
  have ft_7 := fun u => (ndC_cells (heap_of (hF1 u) _ _ _ Rt_3)).2.2.2.2.2.2.2
  refine wp_region_below F hF2 (by kernel_rfl) (by kernel_rfl) ?_
  repeat first | go_big_quiet_step (first | (go_at_call 27; exact quietF hF1 hF2 (P15.out _)) | fail) | quiet_step (first | (go_at_call 27; exact quietF hF1 hF2 (P15.out _)) | fail)
  refine wpQuiet_nil ?_
  rintro _ ⟨uW, rfl⟩
  have B4 := btr B3 (hF1 uW)
  have Rx_4 := heap_of (hF1 uW) _ _ _ Rx_3
  have Rt_4 := heap_of (hF1 uW) _ _ _ Rt_3
  obtain ⟨w4, hw⟩ : ∃ V, F uW = V := ⟨_, rfl⟩
  rw [hw] at B4 Rx_4 Rt_4
  try rw [hw]
  clear hw hF1 hF2 B3 fx_0 fx_1 fx_2 fx_3 fx_4 fx_5 fx_6 fx_7 fx_8 fx_9 fx_10 ft_0 ft_1 ft_2 ft_3 ft_4 ft_5 ft_6 ft_7 Rx_3 cx_3_0 cx_3_1 cx_3_2 cx_3_3 cx_3_4 cx_3_5 cx_3_6 cx_3_7 cx_3_8 cx_3_9 cx_3_10 Rt_3 ct_3_0 ct_3_1 ct_3_2 ct_3_3 ct_3_4 ct_3_5 ct_3_6 ct_3_7
  clear F
  obtain ⟨cx_4_0, cx_4_1, cx_4_2, cx_4_3, cx_4_4, cx_4_5, cx_4_6, cx_4_7, cx_4_8, cx_4_9, cx_4_10⟩ := inC_cells Rx_4
  obtain ⟨ct_4_0, ct_4_1, ct_4_2, ct_4_3, ct_4_4, ct_4_5, ct_4_6, ct_4_7⟩ := ndC_cells Rt_4
  go_wp2_with fail
  refine (RF.out _).mono ?_
  rintro r w5 ⟨rfl, b5⟩
  have B5 : Below w.heap.size w w5 := btr B4 b5
  have Rx_5 := heap_of b5 _ _ _ Rx_4
  have Rt_5 := heap_of b5 _ _ _ Rt_4
  clear b5 B4 Rx_4 cx_4_0 cx_4_1 cx_4_2 cx_4_3 cx_4_4 cx_4_5 cx_4_6 cx_4_7 cx_4_8 cx_4_9 cx_4_10 Rt_4 ct_4_0 ct_4_1 ct_4_2 ct_4_3 ct_4_4 ct_4_5 ct_4_6 ct_4_7
  obtain ⟨cx_5_0, cx_5_1, cx_5_2, cx_5_3, cx_5_4, cx_5_5, cx_5_6, cx_5_7, cx_5_8, cx_5_9, cx_5_10⟩ := inC_cells Rx_5
  obtain ⟨ct_5_0, ct_5_1, ct_5_2, ct_5_3, ct_5_4, ct_5_5, ct_5_6, ct_5_7⟩ := ndC_cells Rt_5
  have S6 := box B5.size
  have Lx_6 : Box (w.heap.size < w5.heap.size) := box (Array.getElem?_eq_some_iff.1 Rx_5).1
  have Lt_6 : Box (w2.heap.size < w5.heap.size) := box (Array.getElem?_eq_some_iff.1 Rt_5).1
  have Rh_6 := heap_alloc_last w5 (Obj.cells (hsC ⟨true, false, false, false, true, false⟩) 71)
  have B6 := btr B5 (bal w5 (Obj.cells (hsC ⟨true, false, false, false, true, false⟩) 71))
  have Rx_6 := heap_of (bal w5 (Obj.cells (hsC ⟨true, false, false, false, true, false⟩) 71)) _ _ _ Rx_5
  have Rt_6 := heap_of (bal w5 (Obj.cells (hsC ⟨true, false, false, false, true, false⟩) 71)) _ _ _ Rt_5
  clear B5 Rx_5 cx_5_0 cx_5_1 cx_5_2 cx_5_3 cx_5_4 cx_5_5 cx_5_6 cx_5_7 cx_5_8 cx_5_9 cx_5_10 Rt_5 ct_5_0 ct_5_1 ct_5_2 ct_5_3 ct_5_4 ct_5_5 ct_5_6 ct_5_7
  obtain ⟨cx_6_0, cx_6_1, cx_6_2, cx_6_3, cx_6_4, cx_6_5, cx_6_6, cx_6_7, cx_6_8, cx_6_9, cx_6_10⟩ := inC_cells Rx_6
  obtain ⟨ct_6_0, ct_6_1, ct_6_2, ct_6_3, ct_6_4, ct_6_5, ct_6_6, ct_6_7⟩ := ndC_cells Rt_6
  obtain ⟨ch_6_0, ch_6_1, ch_6_2, ch_6_3, ch_6_4, ch_6_5⟩ := hsC_cells Rh_6
  go_wp2_with fail
  refine (P7.out _).mono ?_
  rintro r w7 ⟨rfl, b7⟩
  have B7 : Below w.heap.size w w7 := btr B6 b7
  have Rx_7 := heap_of b7 _ _ _ Rx_6
  have Rt_7 := heap_of b7 _ _ _ Rt_6
  have Rh_7 := heap_of b7 _ _ _ Rh_6
  clear b7 B6 Rx_6 cx_6_0 cx_6_1 cx_6_2 cx_6_3 cx_6_4 cx_6_5 cx_6_6 cx_6_7 cx_6_8 cx_6_9 cx_6_10 Rt_6 ct_6_0 ct_6_1 ct_6_2 ct_6_3 ct_6_4 ct_6_5 ct_6_6 ct_6_7 Rh_6 ch_6_0 ch_6_1 ch_6_2 ch_6_3 ch_6_4 ch_6_5
  obtain ⟨cx_7_0, cx_7_1, cx_7_2, cx_7_3, cx_7_4, cx_7_5, cx_7_6, cx_7_7, cx_7_8, cx_7_9, cx_7_10⟩ := inC_cells Rx_7
  obtain ⟨ct_7_0, ct_7_1, ct_7_2, ct_7_3, ct_7_4, ct_7_5, ct_7_6, ct_7_7⟩ := ndC_cells Rt_7
  obtain ⟨ch_7_0, ch_7_1, ch_7_2, ch_7_3, ch_7_4, ch_7_5⟩ := hsC_cells Rh_7
  go_wp2_with fail
  refine (PI.out _).mono ?_
  rintro r w8 ⟨rfl, b8⟩
  have B8 : Below w.heap.size w w8 := btr B7 b8
  have Rx_8 := heap_of b8 _ _ _ Rx_7
  have Rt_8 := heap_of b8 _ _ _ Rt_7
  have Rh_8 := heap_of b8 _ _ _ Rh_7
  clear b8 B7 Rx_7 cx_7_0 cx_7_1 cx_7_2 cx_7_3 cx_7_4 cx_7_5 cx_7_6 cx_7_7 cx_7_8 cx_7_9 cx_7_10 Rt_7 ct_7_0 ct_7_1 ct_7_2 ct_7_3 ct_7_4 ct_7_5 ct_7_6 ct_7_7 Rh_7 ch_7_0 ch_7_1 ch_7_2 ch_7_3 ch_7_4 ch_7_5
  obtain ⟨cx_8_0, cx_8_1, cx_8_2, cx_8_3, cx_8_4, cx_8_5, cx_8_6, cx_8_7, cx_8_8, cx_8_9, cx_8_10⟩ := inC_cells Rx_8
  obtain ⟨ct_8_0, ct_8_1, ct_8_2, ct_8_3, ct_8_4, ct_8_5, ct_8_6, ct_8_7⟩ := ndC_cells Rt_8
  obtain ⟨ch_8_0, ch_8_1, ch_8_2, ch_8_3, ch_8_4, ch_8_5⟩ := hsC_cells Rh_8
  go_wp2
  simp only [e1, e2]
  go_ret2
  exact ⟨rfl, B8⟩
set_option maxRecDepth 100000 in
set_option maxHeartbeats 8000000 in
theorem b26_enc_2p (x : In) (rr : Rw) (nn : ByteArray) (hw : IntKind.i64.wrap x.imm = x.imm) (hw2 : wrap64 x.imm = x.imm) (hvrs1 : wrap64 ((x.rs1 : Nat) : Int) = (x.rs1 : Nat)) (hvrs2 : wrap64 ((x.rs2 : Nat) : Int) = (x.rs2 : Nat)) (iv ih il : Nat) (hn : decide (x.imm < 0) = false) (HX : Box (x.imm = (iv : Nat))) (hn2 : decide (((iv : Nat) : Int) < 0) = false) (hh2 : IntKind.i64.wrap (((iv : Nat) : Int).tdiv 32) = (ih : Nat)) (hl2 : IntKind.i64.wrap (((iv : Nat) : Int).tmod 32) = (il : Nat)) (hh3 : ((iv : Nat) : Int).tdiv 32 = (ih : Nat)) (hl3 : ((iv : Nat) : Int).tmod 32 = (il : Nat)) (hh4 : wrap64 (((iv : Nat) : Int).tdiv 32) = (ih : Nat)) (hl4 : wrap64 (((iv : Nat) : Int).tmod 32) = (il : Nat)) (hh5 : wrap64 ((ih : Nat) : Int) = (ih : Nat)) (hl5 : wrap64 ((il : Nat) : Int) = (il : Nat)) (hv5 : wrap64 ((iv : Nat) : Int) = (iv : Nat)) (hh : ((iv : Nat) : Int) / 32 = (ih : Nat)) (hl : ((iv : Nat) : Int) % 32 = (il : Nat)) (q1 : (((rr.lay : Nat) : Int) == 1) = false) (q2 : (((rr.lay : Nat) : Int) == 2) = true) (RM : Box (∀ w, Calls Tryd.prog 12 #[.agg (inC x)] w fun r w' => r = .returned (.bool true) ∧ Below w.heap.size w w')) (RO : Box (∀ w, Calls Tryd.prog 26 #[.int .u8 (x.op : Nat), .int .u8 (x.form : Nat), .int .u8 (x.frm : Nat), .int .u8 (x.kind : Nat)] w fun r w' => r = .returned (.tuple #[.agg (ndC rr nn), .int .i64 0]) ∧ Below w.heap.size w w')) (RF : Box (∀ w, Calls Tryd.prog 28 #[.int .u8 (rr.lay : Nat)] w fun r w' => r = .returned (.agg (hsC ⟨false, true, false, false, true, false⟩)) ∧ Below w.heap.size w w')) (V15 : Nat) (P15 : Box (∀ w, Calls Tryd.prog 27 #[.int .i64 15, .int .i64 5, .int .i64 (x.rs1 : Nat)] w fun r w' => r = .returned (.int .u32 (V15 : Nat)) ∧ Below w.heap.size w w')) (V20 : Nat) (P20 : Box (∀ w, Calls Tryd.prog 27 #[.int .i64 20, .int .i64 5, .int .i64 (x.rs2 : Nat)] w fun r w' => r = .returned (.int .u32 (V20 : Nat)) ∧ Below w.heap.size w w')) (VH : Nat) (PH : Box (∀ w, Calls Tryd.prog 27 #[.int .i64 25, .int .i64 7, .int .i64 (ih : Nat)] w fun r w' => r = .returned (.int .u32 (VH : Nat)) ∧ Below w.heap.size w w')) (VL : Nat) (PL : Box (∀ w, Calls Tryd.prog 27 #[.int .i64 7, .int .i64 5, .int .i64 (il : Nat)] w fun r w' => r = .returned (.int .u32 (VL : Nat)) ∧ Below w.heap.size w w')) (S0 : Nat) (e0 : (((rr.mtch : Nat) : Int) + ((V15 : Nat) : Int)) % 4294967296 = (S0 : Nat)) (S1 : Nat) (e1 : (((S0 : Nat) : Int) + ((V20 : Nat) : Int)) % 4294967296 = (S1 : Nat)) (SH : Nat) (eH : (((S1 : Nat) : Int) + ((VH : Nat) : Int)) % 4294967296 = (SH : Nat)) (S3 : Nat) (e3 : (((SH : Nat) : Int) + ((VL : Nat) : Int)) % 4294967296 = (S3 : Nat)) (w : World) : Calls Tryd.prog 10 #[.agg (inC x)] w fun r w' => r = .returned (.tuple #[.int .u32 (S3 : Nat), .int .i64 0]) ∧ Below w.heap.size w w' := by
  have hxn := inC_fold x
  have hdn := ndC_new
  have hhn := hsC_new
  obtain ⟨Rx_0, B0⟩ := opn1 w (Obj.cells (inC x) 27)
  go_enter Tryd.func10, Tryd.ntmps10
  obtain ⟨cx_0_0, cx_0_1, cx_0_2, cx_0_3, cx_0_4, cx_0_5, cx_0_6, cx_0_7, cx_0_8, cx_0_9, cx_0_10⟩ := inC_cells Rx_0
  go_wp2_with fail
  refine (RM.out _).mono ?_
  rintro r w1 ⟨rfl, b1⟩
  have B1 : Below w.heap.size w w1 := btr B0 b1
  have Rx_1 := heap_of b1 _ _ _ Rx_0
  clear b1 B0 Rx_0 cx_0_0 cx_0_1 cx_0_2 cx_0_3 cx_0_4 cx_0_5 cx_0_6 cx_0_7 cx_0_8 cx_0_9 cx_0_10
  obtain ⟨cx_1_0, cx_1_1, cx_1_2, cx_1_3, cx_1_4, cx_1_5, cx_1_6, cx_1_7, cx_1_8, cx_1_9, cx_1_10⟩ := inC_cells Rx_1
  clear hxn
  go_wp2_with fail
  refine (RO.out _).mono ?_
  rintro r w2 ⟨rfl, b2⟩
  have B2 : Below w.heap.size w w2 := btr B1 b2
  have Rx_2 := heap_of b2 _ _ _ Rx_1
  clear b2 B1 Rx_1 cx_1_0 cx_1_1 cx_1_2 cx_1_3 cx_1_4 cx_1_5 cx_1_6 cx_1_7 cx_1_8 cx_1_9 cx_1_10
  obtain ⟨cx_2_0, cx_2_1, cx_2_2, cx_2_3, cx_2_4, cx_2_5, cx_2_6, cx_2_7, cx_2_8, cx_2_9, cx_2_10⟩ := inC_cells Rx_2
  have S3 := box B2.size
  have Lx_3 : Box (w.heap.size < w2.heap.size) := box (Array.getElem?_eq_some_iff.1 Rx_2).1
  have Rt_3 := heap_alloc_last w2 (Obj.cells (ndC rr nn) 47)
  have B3 := btr B2 (bal w2 (Obj.cells (ndC rr nn) 47))
  have Rx_3 := heap_of (bal w2 (Obj.cells (ndC rr nn) 47)) _ _ _ Rx_2
  clear B2 Rx_2 cx_2_0 cx_2_1 cx_2_2 cx_2_3 cx_2_4 cx_2_5 cx_2_6 cx_2_7 cx_2_8 cx_2_9 cx_2_10
  obtain ⟨cx_3_0, cx_3_1, cx_3_2, cx_3_3, cx_3_4, cx_3_5, cx_3_6, cx_3_7, cx_3_8, cx_3_9, cx_3_10⟩ := inC_cells Rx_3
  obtain ⟨ct_3_0, ct_3_1, ct_3_2, ct_3_3, ct_3_4, ct_3_5, ct_3_6, ct_3_7⟩ := ndC_cells Rt_3
  go_wp2_with fail
  obtain ⟨F, hF1, hF2⟩ := below_fun (w2.alloc (Obj.cells (ndC rr nn) 47))
  have fx_0 := fun u => (inC_cells (heap_of (hF1 u) _ _ _ Rx_3)).1
  have fx_1 := fun u => (inC_cells (heap_of (hF1 u) _ _ _ Rx_3)).2.1
  have fx_2 := fun u => (inC_cells (heap_of (hF1 u) _ _ _ Rx_3)).2.2.1
  have fx_3 := fun u => (inC_cells (heap_of (hF1 u) _ _ _ Rx_3)).2.2.2.1
  have fx_4 := fun u => (inC_cells (heap_of (hF1 u) _ _ _ Rx_3)).2.2.2.2.1
  have fx_5 := fun u => (inC_cells (heap_of (hF1 u) _ _ _ Rx_3)).2.2.2.2.2.1
  have fx_6 := fun u => (inC_cells (heap_of (hF1 u) _ _ _ Rx_3)).2.2.2.2.2.2.1
  have fx_7 := fun u => (inC_cells (heap_of (hF1 u) _ _ _ Rx_3)).2.2.2.2.2.2.2.1
  have fx_8 := fun u => (inC_cells (heap_of (hF1 u) _ _ _ Rx_3)).2.2.2.2.2.2.2.2.1
  have fx_9 := fun u => (inC_cells (heap_of (hF1 u) _ _ _ Rx_3)).2.2.2.2.2.2.2.2.2.1
  have fx_10 := fun u => (inC_cells (heap_of (hF1 u) _ _ _ Rx_3)).2.2.2.2.2.2.2.2.2.2
  have ft_0 := fun u => (ndC_cells (heap_of (hF1 u) _ _ _ Rt_3)).1
  have ft_1 := fun u => (ndC_cells (heap_of (hF1 u) _ _ _ Rt_3)).2.1
  have ft_2 := fun u => (ndC_cells (heap_of (hF1 u) _ _ _ Rt_3)).2.2.1
  have ft_3 := fun u => (ndC_cells (heap_of (hF1 u) _ _ _ Rt_3)).2.2.2.1
  have ft_4 := fun u => (ndC_cells (heap_of (hF1 u) _ _ _ Rt_3)).2.2.2.2.1
  have ft_5 := fun u => (ndC_cells (heap_of (hF1 u) _ _ _ Rt_3)).2.2.2.2.2.1
  have ft_6 := fun u => (ndC_cells (heap_of (hF1 u) _ _ _ Rt_3)).2.2.2.2.2.2.1
  have ft_7 := fun u => (ndC_cells (heap_of (hF1 u) _ _ _ Rt_3)).2.2.2.2.2.2.2
  refine wp_region_below F hF2 (by kernel_rfl) (by kernel_rfl) ?_
  repeat first | go_big_quiet_step (first | (go_at_call 27; exact quietF hF1 hF2 (P15.out _)) | fail) | quiet_step (first | (go_at_call 27; exact quietF hF1 hF2 (P15.out _)) | fail)
  refine wpQuiet_nil ?_
  rintro _ ⟨uW, rfl⟩
  have B4 := btr B3 (hF1 uW)
  have Rx_4 := heap_of (hF1 uW) _ _ _ Rx_3
  have Rt_4 := heap_of (hF1 uW) _ _ _ Rt_3
  obtain ⟨w4, hw⟩ : ∃ V, F uW = V := ⟨_, rfl⟩
  rw [hw] at B4 Rx_4 Rt_4
  try rw [hw]
  clear hw hF1 hF2 B3 fx_0 fx_1 fx_2 fx_3 fx_4 fx_5 fx_6 fx_7 fx_8 fx_9 fx_10 ft_0 ft_1 ft_2 ft_3 ft_4 ft_5 ft_6 ft_7 Rx_3 cx_3_0 cx_3_1 cx_3_2 cx_3_3 cx_3_4 cx_3_5 cx_3_6 cx_3_7 cx_3_8 cx_3_9 cx_3_10 Rt_3 ct_3_0 ct_3_1 ct_3_2 ct_3_3 ct_3_4 ct_3_5 ct_3_6 ct_3_7
  clear F
  obtain ⟨cx_4_0, cx_4_1, cx_4_2, cx_4_3, cx_4_4, cx_4_5, cx_4_6, cx_4_7, cx_4_8, cx_4_9, cx_4_10⟩ := inC_cells Rx_4
  obtain ⟨ct_4_0, ct_4_1, ct_4_2, ct_4_3, ct_4_4, ct_4_5, ct_4_6, ct_4_7⟩ := ndC_cells Rt_4
  go_wp2_with fail
  refine (RF.out _).mono ?_
  rintro r w5 ⟨rfl, b5⟩
  have B5 : Below w.heap.size w w5 := btr B4 b5
  have Rx_5 := heap_of b5 _ _ _ Rx_4
  have Rt_5 := heap_of b5 _ _ _ Rt_4
  clear b5 B4 Rx_4 cx_4_0 cx_4_1 cx_4_2 cx_4_3 cx_4_4 cx_4_5 cx_4_6 cx_4_7 cx_4_8 cx_4_9 cx_4_10 Rt_4 ct_4_0 ct_4_1 ct_4_2 ct_4_3 ct_4_4 ct_4_5 ct_4_6 ct_4_7
  obtain ⟨cx_5_0, cx_5_1, cx_5_2, cx_5_3, cx_5_4, cx_5_5, cx_5_6, cx_5_7, cx_5_8, cx_5_9, cx_5_10⟩ := inC_cells Rx_5
  obtain ⟨ct_5_0, ct_5_1, ct_5_2, ct_5_3, ct_5_4, ct_5_5, ct_5_6, ct_5_7⟩ := ndC_cells Rt_5
  have S6 := box B5.size
  have Lx_6 : Box (w.heap.size < w5.heap.size) := box (Array.getElem?_eq_some_iff.1 Rx_5).1
  have Lt_6 : Box (w2.heap.size < w5.heap.size) := box (Array.getElem?_eq_some_iff.1 Rt_5).1
  have Rh_6 := heap_alloc_last w5 (Obj.cells (hsC ⟨false, true, false, false, true, false⟩) 71)
  have B6 := btr B5 (bal w5 (Obj.cells (hsC ⟨false, true, false, false, true, false⟩) 71))
  have Rx_6 := heap_of (bal w5 (Obj.cells (hsC ⟨false, true, false, false, true, false⟩) 71)) _ _ _ Rx_5
  have Rt_6 := heap_of (bal w5 (Obj.cells (hsC ⟨false, true, false, false, true, false⟩) 71)) _ _ _ Rt_5
  clear B5 Rx_5 cx_5_0 cx_5_1 cx_5_2 cx_5_3 cx_5_4 cx_5_5 cx_5_6 cx_5_7 cx_5_8 cx_5_9 cx_5_10 Rt_5 ct_5_0 ct_5_1 ct_5_2 ct_5_3 ct_5_4 ct_5_5 ct_5_6 ct_5_7
  obtain ⟨cx_6_0, cx_6_1, cx_6_2, cx_6_3, cx_6_4, cx_6_5, cx_6_6, cx_6_7, cx_6_8, cx_6_9, cx_6_10⟩ := inC_cells Rx_6
  obtain ⟨ct_6_0, ct_6_1, ct_6_2, ct_6_3, ct_6_4, ct_6_5, ct_6_6, ct_6_7⟩ := ndC_cells Rt_6
  obtain ⟨ch_6_0, ch_6_1, ch_6_2, ch_6_3, ch_6_4, ch_6_5⟩ := hsC_cells Rh_6
  go_wp2_with fail
  refine (P20.out _).mono ?_
  rintro r w7 ⟨rfl, b7⟩
  have B7 : Below w.heap.size w w7 := btr B6 b7
  have Rx_7 := heap_of b7 _ _ _ Rx_6
  have Rt_7 := heap_of b7 _ _ _ Rt_6
  have Rh_7 := heap_of b7 _ _ _ Rh_6
  clear b7 B6 Rx_6 cx_6_0 cx_6_1 cx_6_2 cx_6_3 cx_6_4 cx_6_5 cx_6_6 cx_6_7 cx_6_8 cx_6_9 cx_6_10 Rt_6 ct_6_0 ct_6_1 ct_6_2 ct_6_3 ct_6_4 ct_6_5 ct_6_6 ct_6_7 Rh_6 ch_6_0 ch_6_1 ch_6_2 ch_6_3 ch_6_4 ch_6_5
  obtain ⟨cx_7_0, cx_7_1, cx_7_2, cx_7_3, cx_7_4, cx_7_5, cx_7_6, cx_7_7, cx_7_8, cx_7_9, cx_7_10⟩ := inC_cells Rx_7
  obtain ⟨ct_7_0, ct_7_1, ct_7_2, ct_7_3, ct_7_4, ct_7_5, ct_7_6, ct_7_7⟩ := ndC_cells Rt_7
  obtain ⟨ch_7_0, ch_7_1, ch_7_2, ch_7_3, ch_7_4, ch_7_5⟩ := hsC_cells Rh_7
  have hxi := HX.out
  go_wp2_with fail
  refine (PH.out _).mono ?_
  rintro r w8 ⟨rfl, b8⟩
  have B8 : Below w.heap.size w w8 := btr B7 b8
  have Rx_8 := heap_of b8 _ _ _ Rx_7
  have Rt_8 := heap_of b8 _ _ _ Rt_7
  have Rh_8 := heap_of b8 _ _ _ Rh_7
  clear b8 B7 Rx_7 cx_7_0 cx_7_1 cx_7_2 cx_7_3 cx_7_4 cx_7_5 cx_7_6 cx_7_7 cx_7_8 cx_7_9 cx_7_10 Rt_7 ct_7_0 ct_7_1 ct_7_2 ct_7_3 ct_7_4 ct_7_5 ct_7_6 ct_7_7 Rh_7 ch_7_0 ch_7_1 ch_7_2 ch_7_3 ch_7_4 ch_7_5
  obtain ⟨cx_8_0, cx_8_1, cx_8_2, cx_8_3, cx_8_4, cx_8_5, cx_8_6, cx_8_7, cx_8_8, cx_8_9, cx_8_10⟩ := inC_cells Rx_8
  obtain ⟨ct_8_0, ct_8_1, ct_8_2, ct_8_3, ct_8_4, ct_8_5, ct_8_6, ct_8_7⟩ := ndC_cells Rt_8
  obtain ⟨ch_8_0, ch_8_1, ch_8_2, ch_8_3, ch_8_4, ch_8_5⟩ := hsC_cells Rh_8
  go_wp2_with fail
  refine (PL.out _).mono ?_
  rintro r w9 ⟨rfl, b9⟩
  have B9 : Below w.heap.size w w9 := btr B8 b9
  have Rx_9 := heap_of b9 _ _ _ Rx_8
  have Rt_9 := heap_of b9 _ _ _ Rt_8
  have Rh_9 := heap_of b9 _ _ _ Rh_8
  clear b9 B8 Rx_8 cx_8_0 cx_8_1 cx_8_2 cx_8_3 cx_8_4 cx_8_5 cx_8_6 cx_8_7 cx_8_8 cx_8_9 cx_8_10 Rt_8 ct_8_0 ct_8_1 ct_8_2 ct_8_3 ct_8_4 ct_8_5 ct_8_6 ct_8_7 Rh_8 ch_8_0 ch_8_1 ch_8_2 ch_8_3 ch_8_4 ch_8_5
  obtain ⟨cx_9_0, cx_9_1, cx_9_2, cx_9_3, cx_9_4, cx_9_5, cx_9_6, cx_9_7, cx_9_8, cx_9_9, cx_9_10⟩ := inC_cells Rx_9
  obtain ⟨ct_9_0, ct_9_1, ct_9_2, ct_9_3, ct_9_4, ct_9_5, ct_9_6, ct_9_7⟩ := ndC_cells Rt_9
  obtain ⟨ch_9_0, ch_9_1, ch_9_2, ch_9_3, ch_9_4, ch_9_5⟩ := hsC_cells Rh_9
  go_wp2
  simp only [e1, e3, eH]
  go_ret2
  exact ⟨rfl, B9⟩
set_option maxRecDepth 100000 in
set_option maxHeartbeats 8000000 in
theorem b26_enc_2n (x : In) (rr : Rw) (nn : ByteArray) (hw : IntKind.i64.wrap x.imm = x.imm) (hw2 : wrap64 x.imm = x.imm) (hvrs1 : wrap64 ((x.rs1 : Nat) : Int) = (x.rs1 : Nat)) (hvrs2 : wrap64 ((x.rs2 : Nat) : Int) = (x.rs2 : Nat)) (iv ih il : Nat) (hn : decide (x.imm < 0) = true) (hv : IntKind.i64.wrap (x.imm + 4096) = (iv : Nat)) (hvv : wrap64 (x.imm + 4096) = (iv : Nat)) (hh2 : IntKind.i64.wrap (((iv : Nat) : Int).tdiv 32) = (ih : Nat)) (hl2 : IntKind.i64.wrap (((iv : Nat) : Int).tmod 32) = (il : Nat)) (hh3 : ((iv : Nat) : Int).tdiv 32 = (ih : Nat)) (hl3 : ((iv : Nat) : Int).tmod 32 = (il : Nat)) (hh4 : wrap64 (((iv : Nat) : Int).tdiv 32) = (ih : Nat)) (hl4 : wrap64 (((iv : Nat) : Int).tmod 32) = (il : Nat)) (hh5 : wrap64 ((ih : Nat) : Int) = (ih : Nat)) (hl5 : wrap64 ((il : Nat) : Int) = (il : Nat)) (hv5 : wrap64 ((iv : Nat) : Int) = (iv : Nat)) (hh : ((iv : Nat) : Int) / 32 = (ih : Nat)) (hl : ((iv : Nat) : Int) % 32 = (il : Nat)) (q1 : (((rr.lay : Nat) : Int) == 1) = false) (q2 : (((rr.lay : Nat) : Int) == 2) = true) (RM : Box (∀ w, Calls Tryd.prog 12 #[.agg (inC x)] w fun r w' => r = .returned (.bool true) ∧ Below w.heap.size w w')) (RO : Box (∀ w, Calls Tryd.prog 26 #[.int .u8 (x.op : Nat), .int .u8 (x.form : Nat), .int .u8 (x.frm : Nat), .int .u8 (x.kind : Nat)] w fun r w' => r = .returned (.tuple #[.agg (ndC rr nn), .int .i64 0]) ∧ Below w.heap.size w w')) (RF : Box (∀ w, Calls Tryd.prog 28 #[.int .u8 (rr.lay : Nat)] w fun r w' => r = .returned (.agg (hsC ⟨false, true, false, false, true, false⟩)) ∧ Below w.heap.size w w')) (V15 : Nat) (P15 : Box (∀ w, Calls Tryd.prog 27 #[.int .i64 15, .int .i64 5, .int .i64 (x.rs1 : Nat)] w fun r w' => r = .returned (.int .u32 (V15 : Nat)) ∧ Below w.heap.size w w')) (V20 : Nat) (P20 : Box (∀ w, Calls Tryd.prog 27 #[.int .i64 20, .int .i64 5, .int .i64 (x.rs2 : Nat)] w fun r w' => r = .returned (.int .u32 (V20 : Nat)) ∧ Below w.heap.size w w')) (VH : Nat) (PH : Box (∀ w, Calls Tryd.prog 27 #[.int .i64 25, .int .i64 7, .int .i64 (ih : Nat)] w fun r w' => r = .returned (.int .u32 (VH : Nat)) ∧ Below w.heap.size w w')) (VL : Nat) (PL : Box (∀ w, Calls Tryd.prog 27 #[.int .i64 7, .int .i64 5, .int .i64 (il : Nat)] w fun r w' => r = .returned (.int .u32 (VL : Nat)) ∧ Below w.heap.size w w')) (S0 : Nat) (e0 : (((rr.mtch : Nat) : Int) + ((V15 : Nat) : Int)) % 4294967296 = (S0 : Nat)) (S1 : Nat) (e1 : (((S0 : Nat) : Int) + ((V20 : Nat) : Int)) % 4294967296 = (S1 : Nat)) (SH : Nat) (eH : (((S1 : Nat) : Int) + ((VH : Nat) : Int)) % 4294967296 = (SH : Nat)) (S3 : Nat) (e3 : (((SH : Nat) : Int) + ((VL : Nat) : Int)) % 4294967296 = (S3 : Nat)) (w : World) : Calls Tryd.prog 10 #[.agg (inC x)] w fun r w' => r = .returned (.tuple #[.int .u32 (S3 : Nat), .int .i64 0]) ∧ Below w.heap.size w w' := by
  have hxn := inC_fold x
  have hdn := ndC_new
  have hhn := hsC_new
  obtain ⟨Rx_0, B0⟩ := opn1 w (Obj.cells (inC x) 27)
  go_enter Tryd.func10, Tryd.ntmps10
  obtain ⟨cx_0_0, cx_0_1, cx_0_2, cx_0_3, cx_0_4, cx_0_5, cx_0_6, cx_0_7, cx_0_8, cx_0_9, cx_0_10⟩ := inC_cells Rx_0
  go_wp2_with fail
  refine (RM.out _).mono ?_
  rintro r w1 ⟨rfl, b1⟩
  have B1 : Below w.heap.size w w1 := btr B0 b1
  have Rx_1 := heap_of b1 _ _ _ Rx_0
  clear b1 B0 Rx_0 cx_0_0 cx_0_1 cx_0_2 cx_0_3 cx_0_4 cx_0_5 cx_0_6 cx_0_7 cx_0_8 cx_0_9 cx_0_10
  obtain ⟨cx_1_0, cx_1_1, cx_1_2, cx_1_3, cx_1_4, cx_1_5, cx_1_6, cx_1_7, cx_1_8, cx_1_9, cx_1_10⟩ := inC_cells Rx_1
  clear hxn
  go_wp2_with fail
  refine (RO.out _).mono ?_
  rintro r w2 ⟨rfl, b2⟩
  have B2 : Below w.heap.size w w2 := btr B1 b2
  have Rx_2 := heap_of b2 _ _ _ Rx_1
  clear b2 B1 Rx_1 cx_1_0 cx_1_1 cx_1_2 cx_1_3 cx_1_4 cx_1_5 cx_1_6 cx_1_7 cx_1_8 cx_1_9 cx_1_10
  obtain ⟨cx_2_0, cx_2_1, cx_2_2, cx_2_3, cx_2_4, cx_2_5, cx_2_6, cx_2_7, cx_2_8, cx_2_9, cx_2_10⟩ := inC_cells Rx_2
  have S3 := box B2.size
  have Lx_3 : Box (w.heap.size < w2.heap.size) := box (Array.getElem?_eq_some_iff.1 Rx_2).1
  have Rt_3 := heap_alloc_last w2 (Obj.cells (ndC rr nn) 47)
  have B3 := btr B2 (bal w2 (Obj.cells (ndC rr nn) 47))
  have Rx_3 := heap_of (bal w2 (Obj.cells (ndC rr nn) 47)) _ _ _ Rx_2
  clear B2 Rx_2 cx_2_0 cx_2_1 cx_2_2 cx_2_3 cx_2_4 cx_2_5 cx_2_6 cx_2_7 cx_2_8 cx_2_9 cx_2_10
  obtain ⟨cx_3_0, cx_3_1, cx_3_2, cx_3_3, cx_3_4, cx_3_5, cx_3_6, cx_3_7, cx_3_8, cx_3_9, cx_3_10⟩ := inC_cells Rx_3
  obtain ⟨ct_3_0, ct_3_1, ct_3_2, ct_3_3, ct_3_4, ct_3_5, ct_3_6, ct_3_7⟩ := ndC_cells Rt_3
  go_wp2_with fail
  obtain ⟨F, hF1, hF2⟩ := below_fun (w2.alloc (Obj.cells (ndC rr nn) 47))
  have fx_0 := fun u => (inC_cells (heap_of (hF1 u) _ _ _ Rx_3)).1
  have fx_1 := fun u => (inC_cells (heap_of (hF1 u) _ _ _ Rx_3)).2.1
  have fx_2 := fun u => (inC_cells (heap_of (hF1 u) _ _ _ Rx_3)).2.2.1
  have fx_3 := fun u => (inC_cells (heap_of (hF1 u) _ _ _ Rx_3)).2.2.2.1
  have fx_4 := fun u => (inC_cells (heap_of (hF1 u) _ _ _ Rx_3)).2.2.2.2.1
  have fx_5 := fun u => (inC_cells (heap_of (hF1 u) _ _ _ Rx_3)).2.2.2.2.2.1
  have fx_6 := fun u => (inC_cells (heap_of (hF1 u) _ _ _ Rx_3)).2.2.2.2.2.2.1
  have fx_7 := fun u => (inC_cells (heap_of (hF1 u) _ _ _ Rx_3)).2.2.2.2.2.2.2.1
  have fx_8 := fun u => (inC_cells (heap_of (hF1 u) _ _ _ Rx_3)).2.2.2.2.2.2.2.2.1
  have fx_9 := fun u => (inC_cells (heap_of (hF1 u) _ _ _ Rx_3)).2.2.2.2.2.2.2.2.2.1
  have fx_10 := fun u => (inC_cells (heap_of (hF1 u) _ _ _ Rx_3)).2.2.2.2.2.2.2.2.2.2
  have ft_0 := fun u => (ndC_cells (heap_of (hF1 u) _ _ _ Rt_3)).1
  have ft_1 := fun u => (ndC_cells (heap_of (hF1 u) _ _ _ Rt_3)).2.1
  have ft_2 := fun u => (ndC_cells (heap_of (hF1 u) _ _ _ Rt_3)).2.2.1
  have ft_3 := fun u => (ndC_cells (heap_of (hF1 u) _ _ _ Rt_3)).2.2.2.1
  have ft_4 := fun u => (ndC_cells (heap_of (hF1 u) _ _ _ Rt_3)).2.2.2.2.1
  have ft_5 := fun u => (ndC_cells (heap_of (hF1 u) _ _ _ Rt_3)).2.2.2.2.2.1
  have ft_6 := fun u => (ndC_cells (heap_of (hF1 u) _ _ _ Rt_3)).2.2.2.2.2.2.1
  have ft_7 := fun u => (ndC_cells (heap_of (hF1 u) _ _ _ Rt_3)).2.2.2.2.2.2.2
  refine wp_region_below F hF2 (by kernel_rfl) (by kernel_rfl) ?_
  repeat first | go_big_quiet_step (first | (go_at_call 27; exact quietF hF1 hF2 (P15.out _)) | fail) | quiet_step (first | (go_at_call 27; exact quietF hF1 hF2 (P15.out _)) | fail)
  refine wpQuiet_nil ?_
  rintro _ ⟨uW, rfl⟩
  have B4 := btr B3 (hF1 uW)
  have Rx_4 := heap_of (hF1 uW) _ _ _ Rx_3
  have Rt_4 := heap_of (hF1 uW) _ _ _ Rt_3
  obtain ⟨w4, hw⟩ : ∃ V, F uW = V := ⟨_, rfl⟩
  rw [hw] at B4 Rx_4 Rt_4
  try rw [hw]
  clear hw hF1 hF2 B3 fx_0 fx_1 fx_2 fx_3 fx_4 fx_5 fx_6 fx_7 fx_8 fx_9 fx_10 ft_0 ft_1 ft_2 ft_3 ft_4 ft_5 ft_6 ft_7 Rx_3 cx_3_0 cx_3_1 cx_3_2 cx_3_3 cx_3_4 cx_3_5 cx_3_6 cx_3_7 cx_3_8 cx_3_9 cx_3_10 Rt_3 ct_3_0 ct_3_1 ct_3_2 ct_3_3 ct_3_4 ct_3_5 ct_3_6 ct_3_7
  clear F
  obtain ⟨cx_4_0, cx_4_1, cx_4_2, cx_4_3, cx_4_4, cx_4_5, cx_4_6, cx_4_7, cx_4_8, cx_4_9, cx_4_10⟩ := inC_cells Rx_4
  obtain ⟨ct_4_0, ct_4_1, ct_4_2, ct_4_3, ct_4_4, ct_4_5, ct_4_6, ct_4_7⟩ := ndC_cells Rt_4
  go_wp2_with fail
  refine (RF.out _).mono ?_
  rintro r w5 ⟨rfl, b5⟩
  have B5 : Below w.heap.size w w5 := btr B4 b5
  have Rx_5 := heap_of b5 _ _ _ Rx_4
  have Rt_5 := heap_of b5 _ _ _ Rt_4
  clear b5 B4 Rx_4 cx_4_0 cx_4_1 cx_4_2 cx_4_3 cx_4_4 cx_4_5 cx_4_6 cx_4_7 cx_4_8 cx_4_9 cx_4_10 Rt_4 ct_4_0 ct_4_1 ct_4_2 ct_4_3 ct_4_4 ct_4_5 ct_4_6 ct_4_7
  obtain ⟨cx_5_0, cx_5_1, cx_5_2, cx_5_3, cx_5_4, cx_5_5, cx_5_6, cx_5_7, cx_5_8, cx_5_9, cx_5_10⟩ := inC_cells Rx_5
  obtain ⟨ct_5_0, ct_5_1, ct_5_2, ct_5_3, ct_5_4, ct_5_5, ct_5_6, ct_5_7⟩ := ndC_cells Rt_5
  have S6 := box B5.size
  have Lx_6 : Box (w.heap.size < w5.heap.size) := box (Array.getElem?_eq_some_iff.1 Rx_5).1
  have Lt_6 : Box (w2.heap.size < w5.heap.size) := box (Array.getElem?_eq_some_iff.1 Rt_5).1
  have Rh_6 := heap_alloc_last w5 (Obj.cells (hsC ⟨false, true, false, false, true, false⟩) 71)
  have B6 := btr B5 (bal w5 (Obj.cells (hsC ⟨false, true, false, false, true, false⟩) 71))
  have Rx_6 := heap_of (bal w5 (Obj.cells (hsC ⟨false, true, false, false, true, false⟩) 71)) _ _ _ Rx_5
  have Rt_6 := heap_of (bal w5 (Obj.cells (hsC ⟨false, true, false, false, true, false⟩) 71)) _ _ _ Rt_5
  clear B5 Rx_5 cx_5_0 cx_5_1 cx_5_2 cx_5_3 cx_5_4 cx_5_5 cx_5_6 cx_5_7 cx_5_8 cx_5_9 cx_5_10 Rt_5 ct_5_0 ct_5_1 ct_5_2 ct_5_3 ct_5_4 ct_5_5 ct_5_6 ct_5_7
  obtain ⟨cx_6_0, cx_6_1, cx_6_2, cx_6_3, cx_6_4, cx_6_5, cx_6_6, cx_6_7, cx_6_8, cx_6_9, cx_6_10⟩ := inC_cells Rx_6
  obtain ⟨ct_6_0, ct_6_1, ct_6_2, ct_6_3, ct_6_4, ct_6_5, ct_6_6, ct_6_7⟩ := ndC_cells Rt_6
  obtain ⟨ch_6_0, ch_6_1, ch_6_2, ch_6_3, ch_6_4, ch_6_5⟩ := hsC_cells Rh_6
  go_wp2_with fail
  refine (P20.out _).mono ?_
  rintro r w7 ⟨rfl, b7⟩
  have B7 : Below w.heap.size w w7 := btr B6 b7
  have Rx_7 := heap_of b7 _ _ _ Rx_6
  have Rt_7 := heap_of b7 _ _ _ Rt_6
  have Rh_7 := heap_of b7 _ _ _ Rh_6
  clear b7 B6 Rx_6 cx_6_0 cx_6_1 cx_6_2 cx_6_3 cx_6_4 cx_6_5 cx_6_6 cx_6_7 cx_6_8 cx_6_9 cx_6_10 Rt_6 ct_6_0 ct_6_1 ct_6_2 ct_6_3 ct_6_4 ct_6_5 ct_6_6 ct_6_7 Rh_6 ch_6_0 ch_6_1 ch_6_2 ch_6_3 ch_6_4 ch_6_5
  obtain ⟨cx_7_0, cx_7_1, cx_7_2, cx_7_3, cx_7_4, cx_7_5, cx_7_6, cx_7_7, cx_7_8, cx_7_9, cx_7_10⟩ := inC_cells Rx_7
  obtain ⟨ct_7_0, ct_7_1, ct_7_2, ct_7_3, ct_7_4, ct_7_5, ct_7_6, ct_7_7⟩ := ndC_cells Rt_7
  obtain ⟨ch_7_0, ch_7_1, ch_7_2, ch_7_3, ch_7_4, ch_7_5⟩ := hsC_cells Rh_7
  go_wp2_with fail
  refine (PH.out _).mono ?_
  rintro r w8 ⟨rfl, b8⟩
  have B8 : Below w.heap.size w w8 := btr B7 b8
  have Rx_8 := heap_of b8 _ _ _ Rx_7
  have Rt_8 := heap_of b8 _ _ _ Rt_7
  have Rh_8 := heap_of b8 _ _ _ Rh_7
  clear b8 B7 Rx_7 cx_7_0 cx_7_1 cx_7_2 cx_7_3 cx_7_4 cx_7_5 cx_7_6 cx_7_7 cx_7_8 cx_7_9 cx_7_10 Rt_7 ct_7_0 ct_7_1 ct_7_2 ct_7_3 ct_7_4 ct_7_5 ct_7_6 ct_7_7 Rh_7 ch_7_0 ch_7_1 ch_7_2 ch_7_3 ch_7_4 ch_7_5
  obtain ⟨cx_8_0, cx_8_1, cx_8_2, cx_8_3, cx_8_4, cx_8_5, cx_8_6, cx_8_7, cx_8_8, cx_8_9, cx_8_10⟩ := inC_cells Rx_8
  obtain ⟨ct_8_0, ct_8_1, ct_8_2, ct_8_3, ct_8_4, ct_8_5, ct_8_6, ct_8_7⟩ := ndC_cells Rt_8
  obtain ⟨ch_8_0, ch_8_1, ch_8_2, ch_8_3, ch_8_4, ch_8_5⟩ := hsC_cells Rh_8
  go_wp2_with fail
  refine (PL.out _).mono ?_
  rintro r w9 ⟨rfl, b9⟩
  have B9 : Below w.heap.size w w9 := btr B8 b9
  have Rx_9 := heap_of b9 _ _ _ Rx_8
  have Rt_9 := heap_of b9 _ _ _ Rt_8
  have Rh_9 := heap_of b9 _ _ _ Rh_8
  clear b9 B8 Rx_8 cx_8_0 cx_8_1 cx_8_2 cx_8_3 cx_8_4 cx_8_5 cx_8_6 cx_8_7 cx_8_8 cx_8_9 cx_8_10 Rt_8 ct_8_0 ct_8_1 ct_8_2 ct_8_3 ct_8_4 ct_8_5 ct_8_6 ct_8_7 Rh_8 ch_8_0 ch_8_1 ch_8_2 ch_8_3 ch_8_4 ch_8_5
  obtain ⟨cx_9_0, cx_9_1, cx_9_2, cx_9_3, cx_9_4, cx_9_5, cx_9_6, cx_9_7, cx_9_8, cx_9_9, cx_9_10⟩ := inC_cells Rx_9
  obtain ⟨ct_9_0, ct_9_1, ct_9_2, ct_9_3, ct_9_4, ct_9_5, ct_9_6, ct_9_7⟩ := ndC_cells Rt_9
  obtain ⟨ch_9_0, ch_9_1, ch_9_2, ch_9_3, ch_9_4, ch_9_5⟩ := hsC_cells Rh_9
  go_wp2
  simp only [e1, e3, eH]
  go_ret2
  exact ⟨rfl, B9⟩
set_option maxRecDepth 100000 in
set_option maxHeartbeats 8000000 in
theorem b26_enc_3 (x : In) (rr : Rw) (nn : ByteArray) (hw : IntKind.i64.wrap x.imm = x.imm) (hw2 : wrap64 x.imm = x.imm) (hvrs1 : wrap64 ((x.rs1 : Nat) : Int) = (x.rs1 : Nat)) (hvrd : wrap64 ((x.rd : Nat) : Int) = (x.rd : Nat)) (hvrs2 : wrap64 ((x.rs2 : Nat) : Int) = (x.rs2 : Nat)) (hvrs3 : wrap64 ((x.rs3 : Nat) : Int) = (x.rs3 : Nat)) (hvrm : wrap64 ((x.rm : Nat) : Int) = (x.rm : Nat)) (hn : decide (x.imm < 0) = false) (q1 : (((rr.lay : Nat) : Int) == 1) = false) (q2 : (((rr.lay : Nat) : Int) == 2) = false) (RM : Box (∀ w, Calls Tryd.prog 12 #[.agg (inC x)] w fun r w' => r = .returned (.bool true) ∧ Below w.heap.size w w')) (RO : Box (∀ w, Calls Tryd.prog 26 #[.int .u8 (x.op : Nat), .int .u8 (x.form : Nat), .int .u8 (x.frm : Nat), .int .u8 (x.kind : Nat)] w fun r w' => r = .returned (.tuple #[.agg (ndC rr nn), .int .i64 0]) ∧ Below w.heap.size w w')) (RF : Box (∀ w, Calls Tryd.prog 28 #[.int .u8 (rr.lay : Nat)] w fun r w' => r = .returned (.agg (hsC ⟨true, true, true, true, false, false⟩)) ∧ Below w.heap.size w w')) (V15 : Nat) (P15 : Box (∀ w, Calls Tryd.prog 27 #[.int .i64 15, .int .i64 5, .int .i64 (x.rs1 : Nat)] w fun r w' => r = .returned (.int .u32 (V15 : Nat)) ∧ Below w.heap.size w w')) (V7 : Nat) (P7 : Box (∀ w, Calls Tryd.prog 27 #[.int .i64 7, .int .i64 5, .int .i64 (x.rd : Nat)] w fun r w' => r = .returned (.int .u32 (V7 : Nat)) ∧ Below w.heap.size w w')) (V20 : Nat) (P20 : Box (∀ w, Calls Tryd.prog 27 #[.int .i64 20, .int .i64 5, .int .i64 (x.rs2 : Nat)] w fun r w' => r = .returned (.int .u32 (V20 : Nat)) ∧ Below w.heap.size w w')) (V27 : Nat) (P27 : Box (∀ w, Calls Tryd.prog 27 #[.int .i64 27, .int .i64 5, .int .i64 (x.rs3 : Nat)] w fun r w' => r = .returned (.int .u32 (V27 : Nat)) ∧ Below w.heap.size w w')) (V12 : Nat) (P12 : Box (∀ w, Calls Tryd.prog 27 #[.int .i64 12, .int .i64 3, .int .i64 (x.rm : Nat)] w fun r w' => r = .returned (.int .u32 (V12 : Nat)) ∧ Below w.heap.size w w')) (S0 : Nat) (e0 : (((rr.mtch : Nat) : Int) + ((V15 : Nat) : Int)) % 4294967296 = (S0 : Nat)) (S1 : Nat) (e1 : (((S0 : Nat) : Int) + ((V7 : Nat) : Int)) % 4294967296 = (S1 : Nat)) (S2 : Nat) (e2 : (((S1 : Nat) : Int) + ((V20 : Nat) : Int)) % 4294967296 = (S2 : Nat)) (S3 : Nat) (e3 : (((S2 : Nat) : Int) + ((V27 : Nat) : Int)) % 4294967296 = (S3 : Nat)) (S4 : Nat) (e4 : (((S3 : Nat) : Int) + ((V12 : Nat) : Int)) % 4294967296 = (S4 : Nat)) (w : World) : Calls Tryd.prog 10 #[.agg (inC x)] w fun r w' => r = .returned (.tuple #[.int .u32 (S4 : Nat), .int .i64 0]) ∧ Below w.heap.size w w' := by
  have hxn := inC_fold x
  have hdn := ndC_new
  have hhn := hsC_new
  obtain ⟨Rx_0, B0⟩ := opn1 w (Obj.cells (inC x) 27)
  go_enter Tryd.func10, Tryd.ntmps10
  obtain ⟨cx_0_0, cx_0_1, cx_0_2, cx_0_3, cx_0_4, cx_0_5, cx_0_6, cx_0_7, cx_0_8, cx_0_9, cx_0_10⟩ := inC_cells Rx_0
  go_wp2_with fail
  refine (RM.out _).mono ?_
  rintro r w1 ⟨rfl, b1⟩
  have B1 : Below w.heap.size w w1 := btr B0 b1
  have Rx_1 := heap_of b1 _ _ _ Rx_0
  clear b1 B0 Rx_0 cx_0_0 cx_0_1 cx_0_2 cx_0_3 cx_0_4 cx_0_5 cx_0_6 cx_0_7 cx_0_8 cx_0_9 cx_0_10
  obtain ⟨cx_1_0, cx_1_1, cx_1_2, cx_1_3, cx_1_4, cx_1_5, cx_1_6, cx_1_7, cx_1_8, cx_1_9, cx_1_10⟩ := inC_cells Rx_1
  clear hxn
  go_wp2_with fail
  refine (RO.out _).mono ?_
  rintro r w2 ⟨rfl, b2⟩
  have B2 : Below w.heap.size w w2 := btr B1 b2
  have Rx_2 := heap_of b2 _ _ _ Rx_1
  clear b2 B1 Rx_1 cx_1_0 cx_1_1 cx_1_2 cx_1_3 cx_1_4 cx_1_5 cx_1_6 cx_1_7 cx_1_8 cx_1_9 cx_1_10
  obtain ⟨cx_2_0, cx_2_1, cx_2_2, cx_2_3, cx_2_4, cx_2_5, cx_2_6, cx_2_7, cx_2_8, cx_2_9, cx_2_10⟩ := inC_cells Rx_2
  have S3 := box B2.size
  have Lx_3 : Box (w.heap.size < w2.heap.size) := box (Array.getElem?_eq_some_iff.1 Rx_2).1
  have Rt_3 := heap_alloc_last w2 (Obj.cells (ndC rr nn) 47)
  have B3 := btr B2 (bal w2 (Obj.cells (ndC rr nn) 47))
  have Rx_3 := heap_of (bal w2 (Obj.cells (ndC rr nn) 47)) _ _ _ Rx_2
  clear B2 Rx_2 cx_2_0 cx_2_1 cx_2_2 cx_2_3 cx_2_4 cx_2_5 cx_2_6 cx_2_7 cx_2_8 cx_2_9 cx_2_10
  obtain ⟨cx_3_0, cx_3_1, cx_3_2, cx_3_3, cx_3_4, cx_3_5, cx_3_6, cx_3_7, cx_3_8, cx_3_9, cx_3_10⟩ := inC_cells Rx_3
  obtain ⟨ct_3_0, ct_3_1, ct_3_2, ct_3_3, ct_3_4, ct_3_5, ct_3_6, ct_3_7⟩ := ndC_cells Rt_3
  go_wp2_with fail
  obtain ⟨F, hF1, hF2⟩ := below_fun (w2.alloc (Obj.cells (ndC rr nn) 47))
  have fx_0 := fun u => (inC_cells (heap_of (hF1 u) _ _ _ Rx_3)).1
  have fx_1 := fun u => (inC_cells (heap_of (hF1 u) _ _ _ Rx_3)).2.1
  have fx_2 := fun u => (inC_cells (heap_of (hF1 u) _ _ _ Rx_3)).2.2.1
  have fx_3 := fun u => (inC_cells (heap_of (hF1 u) _ _ _ Rx_3)).2.2.2.1
  have fx_4 := fun u => (inC_cells (heap_of (hF1 u) _ _ _ Rx_3)).2.2.2.2.1
  have fx_5 := fun u => (inC_cells (heap_of (hF1 u) _ _ _ Rx_3)).2.2.2.2.2.1
  have fx_6 := fun u => (inC_cells (heap_of (hF1 u) _ _ _ Rx_3)).2.2.2.2.2.2.1
  have fx_7 := fun u => (inC_cells (heap_of (hF1 u) _ _ _ Rx_3)).2.2.2.2.2.2.2.1
  have fx_8 := fun u => (inC_cells (heap_of (hF1 u) _ _ _ Rx_3)).2.2.2.2.2.2.2.2.1
  have fx_9 := fun u => (inC_cells (heap_of (hF1 u) _ _ _ Rx_3)).2.2.2.2.2.2.2.2.2.1
  have fx_10 := fun u => (inC_cells (heap_of (hF1 u) _ _ _ Rx_3)).2.2.2.2.2.2.2.2.2.2
  have ft_0 := fun u => (ndC_cells (heap_of (hF1 u) _ _ _ Rt_3)).1
  have ft_1 := fun u => (ndC_cells (heap_of (hF1 u) _ _ _ Rt_3)).2.1
  have ft_2 := fun u => (ndC_cells (heap_of (hF1 u) _ _ _ Rt_3)).2.2.1
  have ft_3 := fun u => (ndC_cells (heap_of (hF1 u) _ _ _ Rt_3)).2.2.2.1
  have ft_4 := fun u => (ndC_cells (heap_of (hF1 u) _ _ _ Rt_3)).2.2.2.2.1
  have ft_5 := fun u => (ndC_cells (heap_of (hF1 u) _ _ _ Rt_3)).2.2.2.2.2.1
  have ft_6 := fun u => (ndC_cells (heap_of (hF1 u) _ _ _ Rt_3)).2.2.2.2.2.2.1
  have ft_7 := fun u => (ndC_cells (heap_of (hF1 u) _ _ _ Rt_3)).2.2.2.2.2.2.2
  refine wp_region_below F hF2 (by kernel_rfl) (by kernel_rfl) ?_
  repeat first | go_big_quiet_step (first | (go_at_call 27; exact quietF hF1 hF2 (P15.out _)) | fail) | quiet_step (first | (go_at_call 27; exact quietF hF1 hF2 (P15.out _)) | fail)
  refine wpQuiet_nil ?_
  rintro _ ⟨uW, rfl⟩
  have B4 := btr B3 (hF1 uW)
  have Rx_4 := heap_of (hF1 uW) _ _ _ Rx_3
  have Rt_4 := heap_of (hF1 uW) _ _ _ Rt_3
  obtain ⟨w4, hw⟩ : ∃ V, F uW = V := ⟨_, rfl⟩
  rw [hw] at B4 Rx_4 Rt_4
  try rw [hw]
  clear hw hF1 hF2 B3 fx_0 fx_1 fx_2 fx_3 fx_4 fx_5 fx_6 fx_7 fx_8 fx_9 fx_10 ft_0 ft_1 ft_2 ft_3 ft_4 ft_5 ft_6 ft_7 Rx_3 cx_3_0 cx_3_1 cx_3_2 cx_3_3 cx_3_4 cx_3_5 cx_3_6 cx_3_7 cx_3_8 cx_3_9 cx_3_10 Rt_3 ct_3_0 ct_3_1 ct_3_2 ct_3_3 ct_3_4 ct_3_5 ct_3_6 ct_3_7
  clear F
  obtain ⟨cx_4_0, cx_4_1, cx_4_2, cx_4_3, cx_4_4, cx_4_5, cx_4_6, cx_4_7, cx_4_8, cx_4_9, cx_4_10⟩ := inC_cells Rx_4
  obtain ⟨ct_4_0, ct_4_1, ct_4_2, ct_4_3, ct_4_4, ct_4_5, ct_4_6, ct_4_7⟩ := ndC_cells Rt_4
  go_wp2_with fail
  refine (RF.out _).mono ?_
  rintro r w5 ⟨rfl, b5⟩
  have B5 : Below w.heap.size w w5 := btr B4 b5
  have Rx_5 := heap_of b5 _ _ _ Rx_4
  have Rt_5 := heap_of b5 _ _ _ Rt_4
  clear b5 B4 Rx_4 cx_4_0 cx_4_1 cx_4_2 cx_4_3 cx_4_4 cx_4_5 cx_4_6 cx_4_7 cx_4_8 cx_4_9 cx_4_10 Rt_4 ct_4_0 ct_4_1 ct_4_2 ct_4_3 ct_4_4 ct_4_5 ct_4_6 ct_4_7
  obtain ⟨cx_5_0, cx_5_1, cx_5_2, cx_5_3, cx_5_4, cx_5_5, cx_5_6, cx_5_7, cx_5_8, cx_5_9, cx_5_10⟩ := inC_cells Rx_5
  obtain ⟨ct_5_0, ct_5_1, ct_5_2, ct_5_3, ct_5_4, ct_5_5, ct_5_6, ct_5_7⟩ := ndC_cells Rt_5
  have S6 := box B5.size
  have Lx_6 : Box (w.heap.size < w5.heap.size) := box (Array.getElem?_eq_some_iff.1 Rx_5).1
  have Lt_6 : Box (w2.heap.size < w5.heap.size) := box (Array.getElem?_eq_some_iff.1 Rt_5).1
  have Rh_6 := heap_alloc_last w5 (Obj.cells (hsC ⟨true, true, true, true, false, false⟩) 71)
  have B6 := btr B5 (bal w5 (Obj.cells (hsC ⟨true, true, true, true, false, false⟩) 71))
  have Rx_6 := heap_of (bal w5 (Obj.cells (hsC ⟨true, true, true, true, false, false⟩) 71)) _ _ _ Rx_5
  have Rt_6 := heap_of (bal w5 (Obj.cells (hsC ⟨true, true, true, true, false, false⟩) 71)) _ _ _ Rt_5
  clear B5 Rx_5 cx_5_0 cx_5_1 cx_5_2 cx_5_3 cx_5_4 cx_5_5 cx_5_6 cx_5_7 cx_5_8 cx_5_9 cx_5_10 Rt_5 ct_5_0 ct_5_1 ct_5_2 ct_5_3 ct_5_4 ct_5_5 ct_5_6 ct_5_7
  obtain ⟨cx_6_0, cx_6_1, cx_6_2, cx_6_3, cx_6_4, cx_6_5, cx_6_6, cx_6_7, cx_6_8, cx_6_9, cx_6_10⟩ := inC_cells Rx_6
  obtain ⟨ct_6_0, ct_6_1, ct_6_2, ct_6_3, ct_6_4, ct_6_5, ct_6_6, ct_6_7⟩ := ndC_cells Rt_6
  obtain ⟨ch_6_0, ch_6_1, ch_6_2, ch_6_3, ch_6_4, ch_6_5⟩ := hsC_cells Rh_6
  go_wp2_with fail
  refine (P7.out _).mono ?_
  rintro r w7 ⟨rfl, b7⟩
  have B7 : Below w.heap.size w w7 := btr B6 b7
  have Rx_7 := heap_of b7 _ _ _ Rx_6
  have Rt_7 := heap_of b7 _ _ _ Rt_6
  have Rh_7 := heap_of b7 _ _ _ Rh_6
  clear b7 B6 Rx_6 cx_6_0 cx_6_1 cx_6_2 cx_6_3 cx_6_4 cx_6_5 cx_6_6 cx_6_7 cx_6_8 cx_6_9 cx_6_10 Rt_6 ct_6_0 ct_6_1 ct_6_2 ct_6_3 ct_6_4 ct_6_5 ct_6_6 ct_6_7 Rh_6 ch_6_0 ch_6_1 ch_6_2 ch_6_3 ch_6_4 ch_6_5
  obtain ⟨cx_7_0, cx_7_1, cx_7_2, cx_7_3, cx_7_4, cx_7_5, cx_7_6, cx_7_7, cx_7_8, cx_7_9, cx_7_10⟩ := inC_cells Rx_7
  obtain ⟨ct_7_0, ct_7_1, ct_7_2, ct_7_3, ct_7_4, ct_7_5, ct_7_6, ct_7_7⟩ := ndC_cells Rt_7
  obtain ⟨ch_7_0, ch_7_1, ch_7_2, ch_7_3, ch_7_4, ch_7_5⟩ := hsC_cells Rh_7
  go_wp2_with fail
  refine (P20.out _).mono ?_
  rintro r w8 ⟨rfl, b8⟩
  have B8 : Below w.heap.size w w8 := btr B7 b8
  have Rx_8 := heap_of b8 _ _ _ Rx_7
  have Rt_8 := heap_of b8 _ _ _ Rt_7
  have Rh_8 := heap_of b8 _ _ _ Rh_7
  clear b8 B7 Rx_7 cx_7_0 cx_7_1 cx_7_2 cx_7_3 cx_7_4 cx_7_5 cx_7_6 cx_7_7 cx_7_8 cx_7_9 cx_7_10 Rt_7 ct_7_0 ct_7_1 ct_7_2 ct_7_3 ct_7_4 ct_7_5 ct_7_6 ct_7_7 Rh_7 ch_7_0 ch_7_1 ch_7_2 ch_7_3 ch_7_4 ch_7_5
  obtain ⟨cx_8_0, cx_8_1, cx_8_2, cx_8_3, cx_8_4, cx_8_5, cx_8_6, cx_8_7, cx_8_8, cx_8_9, cx_8_10⟩ := inC_cells Rx_8
  obtain ⟨ct_8_0, ct_8_1, ct_8_2, ct_8_3, ct_8_4, ct_8_5, ct_8_6, ct_8_7⟩ := ndC_cells Rt_8
  obtain ⟨ch_8_0, ch_8_1, ch_8_2, ch_8_3, ch_8_4, ch_8_5⟩ := hsC_cells Rh_8
  go_wp2_with fail
  refine (P27.out _).mono ?_
  rintro r w9 ⟨rfl, b9⟩
  have B9 : Below w.heap.size w w9 := btr B8 b9
  have Rx_9 := heap_of b9 _ _ _ Rx_8
  have Rt_9 := heap_of b9 _ _ _ Rt_8
  have Rh_9 := heap_of b9 _ _ _ Rh_8
  clear b9 B8 Rx_8 cx_8_0 cx_8_1 cx_8_2 cx_8_3 cx_8_4 cx_8_5 cx_8_6 cx_8_7 cx_8_8 cx_8_9 cx_8_10 Rt_8 ct_8_0 ct_8_1 ct_8_2 ct_8_3 ct_8_4 ct_8_5 ct_8_6 ct_8_7 Rh_8 ch_8_0 ch_8_1 ch_8_2 ch_8_3 ch_8_4 ch_8_5
  obtain ⟨cx_9_0, cx_9_1, cx_9_2, cx_9_3, cx_9_4, cx_9_5, cx_9_6, cx_9_7, cx_9_8, cx_9_9, cx_9_10⟩ := inC_cells Rx_9
  obtain ⟨ct_9_0, ct_9_1, ct_9_2, ct_9_3, ct_9_4, ct_9_5, ct_9_6, ct_9_7⟩ := ndC_cells Rt_9
  obtain ⟨ch_9_0, ch_9_1, ch_9_2, ch_9_3, ch_9_4, ch_9_5⟩ := hsC_cells Rh_9
  go_wp2_with fail
  refine (P12.out _).mono ?_
  rintro r w10 ⟨rfl, b10⟩
  have B10 : Below w.heap.size w w10 := btr B9 b10
  have Rx_10 := heap_of b10 _ _ _ Rx_9
  have Rt_10 := heap_of b10 _ _ _ Rt_9
  have Rh_10 := heap_of b10 _ _ _ Rh_9
  clear b10 B9 Rx_9 cx_9_0 cx_9_1 cx_9_2 cx_9_3 cx_9_4 cx_9_5 cx_9_6 cx_9_7 cx_9_8 cx_9_9 cx_9_10 Rt_9 ct_9_0 ct_9_1 ct_9_2 ct_9_3 ct_9_4 ct_9_5 ct_9_6 ct_9_7 Rh_9 ch_9_0 ch_9_1 ch_9_2 ch_9_3 ch_9_4 ch_9_5
  obtain ⟨cx_10_0, cx_10_1, cx_10_2, cx_10_3, cx_10_4, cx_10_5, cx_10_6, cx_10_7, cx_10_8, cx_10_9, cx_10_10⟩ := inC_cells Rx_10
  obtain ⟨ct_10_0, ct_10_1, ct_10_2, ct_10_3, ct_10_4, ct_10_5, ct_10_6, ct_10_7⟩ := ndC_cells Rt_10
  obtain ⟨ch_10_0, ch_10_1, ch_10_2, ch_10_3, ch_10_4, ch_10_5⟩ := hsC_cells Rh_10
  go_wp2
  simp only [e1, e2, e3, e4]
  go_ret2
  exact ⟨rfl, B10⟩
set_option maxRecDepth 100000 in
set_option maxHeartbeats 8000000 in
theorem b26_enc_4 (x : In) (rr : Rw) (nn : ByteArray) (hw : IntKind.i64.wrap x.imm = x.imm) (hw2 : wrap64 x.imm = x.imm) (hvrs1 : wrap64 ((x.rs1 : Nat) : Int) = (x.rs1 : Nat)) (hvrd : wrap64 ((x.rd : Nat) : Int) = (x.rd : Nat)) (hvrs2 : wrap64 ((x.rs2 : Nat) : Int) = (x.rs2 : Nat)) (hvrm : wrap64 ((x.rm : Nat) : Int) = (x.rm : Nat)) (hn : decide (x.imm < 0) = false) (q1 : (((rr.lay : Nat) : Int) == 1) = false) (q2 : (((rr.lay : Nat) : Int) == 2) = false) (RM : Box (∀ w, Calls Tryd.prog 12 #[.agg (inC x)] w fun r w' => r = .returned (.bool true) ∧ Below w.heap.size w w')) (RO : Box (∀ w, Calls Tryd.prog 26 #[.int .u8 (x.op : Nat), .int .u8 (x.form : Nat), .int .u8 (x.frm : Nat), .int .u8 (x.kind : Nat)] w fun r w' => r = .returned (.tuple #[.agg (ndC rr nn), .int .i64 0]) ∧ Below w.heap.size w w')) (RF : Box (∀ w, Calls Tryd.prog 28 #[.int .u8 (rr.lay : Nat)] w fun r w' => r = .returned (.agg (hsC ⟨true, true, false, true, false, false⟩)) ∧ Below w.heap.size w w')) (V15 : Nat) (P15 : Box (∀ w, Calls Tryd.prog 27 #[.int .i64 15, .int .i64 5, .int .i64 (x.rs1 : Nat)] w fun r w' => r = .returned (.int .u32 (V15 : Nat)) ∧ Below w.heap.size w w')) (V7 : Nat) (P7 : Box (∀ w, Calls Tryd.prog 27 #[.int .i64 7, .int .i64 5, .int .i64 (x.rd : Nat)] w fun r w' => r = .returned (.int .u32 (V7 : Nat)) ∧ Below w.heap.size w w')) (V20 : Nat) (P20 : Box (∀ w, Calls Tryd.prog 27 #[.int .i64 20, .int .i64 5, .int .i64 (x.rs2 : Nat)] w fun r w' => r = .returned (.int .u32 (V20 : Nat)) ∧ Below w.heap.size w w')) (V12 : Nat) (P12 : Box (∀ w, Calls Tryd.prog 27 #[.int .i64 12, .int .i64 3, .int .i64 (x.rm : Nat)] w fun r w' => r = .returned (.int .u32 (V12 : Nat)) ∧ Below w.heap.size w w')) (S0 : Nat) (e0 : (((rr.mtch : Nat) : Int) + ((V15 : Nat) : Int)) % 4294967296 = (S0 : Nat)) (S1 : Nat) (e1 : (((S0 : Nat) : Int) + ((V7 : Nat) : Int)) % 4294967296 = (S1 : Nat)) (S2 : Nat) (e2 : (((S1 : Nat) : Int) + ((V20 : Nat) : Int)) % 4294967296 = (S2 : Nat)) (S3 : Nat) (e3 : (((S2 : Nat) : Int) + ((V12 : Nat) : Int)) % 4294967296 = (S3 : Nat)) (w : World) : Calls Tryd.prog 10 #[.agg (inC x)] w fun r w' => r = .returned (.tuple #[.int .u32 (S3 : Nat), .int .i64 0]) ∧ Below w.heap.size w w' := by
  have hxn := inC_fold x
  have hdn := ndC_new
  have hhn := hsC_new
  obtain ⟨Rx_0, B0⟩ := opn1 w (Obj.cells (inC x) 27)
  go_enter Tryd.func10, Tryd.ntmps10
  obtain ⟨cx_0_0, cx_0_1, cx_0_2, cx_0_3, cx_0_4, cx_0_5, cx_0_6, cx_0_7, cx_0_8, cx_0_9, cx_0_10⟩ := inC_cells Rx_0
  go_wp2_with fail
  refine (RM.out _).mono ?_
  rintro r w1 ⟨rfl, b1⟩
  have B1 : Below w.heap.size w w1 := btr B0 b1
  have Rx_1 := heap_of b1 _ _ _ Rx_0
  clear b1 B0 Rx_0 cx_0_0 cx_0_1 cx_0_2 cx_0_3 cx_0_4 cx_0_5 cx_0_6 cx_0_7 cx_0_8 cx_0_9 cx_0_10
  obtain ⟨cx_1_0, cx_1_1, cx_1_2, cx_1_3, cx_1_4, cx_1_5, cx_1_6, cx_1_7, cx_1_8, cx_1_9, cx_1_10⟩ := inC_cells Rx_1
  clear hxn
  go_wp2_with fail
  refine (RO.out _).mono ?_
  rintro r w2 ⟨rfl, b2⟩
  have B2 : Below w.heap.size w w2 := btr B1 b2
  have Rx_2 := heap_of b2 _ _ _ Rx_1
  clear b2 B1 Rx_1 cx_1_0 cx_1_1 cx_1_2 cx_1_3 cx_1_4 cx_1_5 cx_1_6 cx_1_7 cx_1_8 cx_1_9 cx_1_10
  obtain ⟨cx_2_0, cx_2_1, cx_2_2, cx_2_3, cx_2_4, cx_2_5, cx_2_6, cx_2_7, cx_2_8, cx_2_9, cx_2_10⟩ := inC_cells Rx_2
  have S3 := box B2.size
  have Lx_3 : Box (w.heap.size < w2.heap.size) := box (Array.getElem?_eq_some_iff.1 Rx_2).1
  have Rt_3 := heap_alloc_last w2 (Obj.cells (ndC rr nn) 47)
  have B3 := btr B2 (bal w2 (Obj.cells (ndC rr nn) 47))
  have Rx_3 := heap_of (bal w2 (Obj.cells (ndC rr nn) 47)) _ _ _ Rx_2
  clear B2 Rx_2 cx_2_0 cx_2_1 cx_2_2 cx_2_3 cx_2_4 cx_2_5 cx_2_6 cx_2_7 cx_2_8 cx_2_9 cx_2_10
  obtain ⟨cx_3_0, cx_3_1, cx_3_2, cx_3_3, cx_3_4, cx_3_5, cx_3_6, cx_3_7, cx_3_8, cx_3_9, cx_3_10⟩ := inC_cells Rx_3
  obtain ⟨ct_3_0, ct_3_1, ct_3_2, ct_3_3, ct_3_4, ct_3_5, ct_3_6, ct_3_7⟩ := ndC_cells Rt_3
  go_wp2_with fail
  obtain ⟨F, hF1, hF2⟩ := below_fun (w2.alloc (Obj.cells (ndC rr nn) 47))
  have fx_0 := fun u => (inC_cells (heap_of (hF1 u) _ _ _ Rx_3)).1
  have fx_1 := fun u => (inC_cells (heap_of (hF1 u) _ _ _ Rx_3)).2.1
  have fx_2 := fun u => (inC_cells (heap_of (hF1 u) _ _ _ Rx_3)).2.2.1
  have fx_3 := fun u => (inC_cells (heap_of (hF1 u) _ _ _ Rx_3)).2.2.2.1
  have fx_4 := fun u => (inC_cells (heap_of (hF1 u) _ _ _ Rx_3)).2.2.2.2.1
  have fx_5 := fun u => (inC_cells (heap_of (hF1 u) _ _ _ Rx_3)).2.2.2.2.2.1
  have fx_6 := fun u => (inC_cells (heap_of (hF1 u) _ _ _ Rx_3)).2.2.2.2.2.2.1
  have fx_7 := fun u => (inC_cells (heap_of (hF1 u) _ _ _ Rx_3)).2.2.2.2.2.2.2.1
  have fx_8 := fun u => (inC_cells (heap_of (hF1 u) _ _ _ Rx_3)).2.2.2.2.2.2.2.2.1
  have fx_9 := fun u => (inC_cells (heap_of (hF1 u) _ _ _ Rx_3)).2.2.2.2.2.2.2.2.2.1
  have fx_10 := fun u => (inC_cells (heap_of (hF1 u) _ _ _ Rx_3)).2.2.2.2.2.2.2.2.2.2
  have ft_0 := fun u => (ndC_cells (heap_of (hF1 u) _ _ _ Rt_3)).1
  have ft_1 := fun u => (ndC_cells (heap_of (hF1 u) _ _ _ Rt_3)).2.1
  have ft_2 := fun u => (ndC_cells (heap_of (hF1 u) _ _ _ Rt_3)).2.2.1
  have ft_3 := fun u => (ndC_cells (heap_of (hF1 u) _ _ _ Rt_3)).2.2.2.1
  have ft_4 := fun u => (ndC_cells (heap_of (hF1 u) _ _ _ Rt_3)).2.2.2.2.1
  have ft_5 := fun u => (ndC_cells (heap_of (hF1 u) _ _ _ Rt_3)).2.2.2.2.2.1
  have ft_6 := fun u => (ndC_cells (heap_of (hF1 u) _ _ _ Rt_3)).2.2.2.2.2.2.1
  have ft_7 := fun u => (ndC_cells (heap_of (hF1 u) _ _ _ Rt_3)).2.2.2.2.2.2.2
  refine wp_region_below F hF2 (by kernel_rfl) (by kernel_rfl) ?_
  repeat first | go_big_quiet_step (first | (go_at_call 27; exact quietF hF1 hF2 (P15.out _)) | fail) | quiet_step (first | (go_at_call 27; exact quietF hF1 hF2 (P15.out _)) | fail)
  refine wpQuiet_nil ?_
  rintro _ ⟨uW, rfl⟩
  have B4 := btr B3 (hF1 uW)
  have Rx_4 := heap_of (hF1 uW) _ _ _ Rx_3
  have Rt_4 := heap_of (hF1 uW) _ _ _ Rt_3
  obtain ⟨w4, hw⟩ : ∃ V, F uW = V := ⟨_, rfl⟩
  rw [hw] at B4 Rx_4 Rt_4
  try rw [hw]
  clear hw hF1 hF2 B3 fx_0 fx_1 fx_2 fx_3 fx_4 fx_5 fx_6 fx_7 fx_8 fx_9 fx_10 ft_0 ft_1 ft_2 ft_3 ft_4 ft_5 ft_6 ft_7 Rx_3 cx_3_0 cx_3_1 cx_3_2 cx_3_3 cx_3_4 cx_3_5 cx_3_6 cx_3_7 cx_3_8 cx_3_9 cx_3_10 Rt_3 ct_3_0 ct_3_1 ct_3_2 ct_3_3 ct_3_4 ct_3_5 ct_3_6 ct_3_7
  clear F
  obtain ⟨cx_4_0, cx_4_1, cx_4_2, cx_4_3, cx_4_4, cx_4_5, cx_4_6, cx_4_7, cx_4_8, cx_4_9, cx_4_10⟩ := inC_cells Rx_4
  obtain ⟨ct_4_0, ct_4_1, ct_4_2, ct_4_3, ct_4_4, ct_4_5, ct_4_6, ct_4_7⟩ := ndC_cells Rt_4
  go_wp2_with fail
  refine (RF.out _).mono ?_
  rintro r w5 ⟨rfl, b5⟩
  have B5 : Below w.heap.size w w5 := btr B4 b5
  have Rx_5 := heap_of b5 _ _ _ Rx_4
  have Rt_5 := heap_of b5 _ _ _ Rt_4
  clear b5 B4 Rx_4 cx_4_0 cx_4_1 cx_4_2 cx_4_3 cx_4_4 cx_4_5 cx_4_6 cx_4_7 cx_4_8 cx_4_9 cx_4_10 Rt_4 ct_4_0 ct_4_1 ct_4_2 ct_4_3 ct_4_4 ct_4_5 ct_4_6 ct_4_7
  obtain ⟨cx_5_0, cx_5_1, cx_5_2, cx_5_3, cx_5_4, cx_5_5, cx_5_6, cx_5_7, cx_5_8, cx_5_9, cx_5_10⟩ := inC_cells Rx_5
  obtain ⟨ct_5_0, ct_5_1, ct_5_2, ct_5_3, ct_5_4, ct_5_5, ct_5_6, ct_5_7⟩ := ndC_cells Rt_5
  have S6 := box B5.size
  have Lx_6 : Box (w.heap.size < w5.heap.size) := box (Array.getElem?_eq_some_iff.1 Rx_5).1
  have Lt_6 : Box (w2.heap.size < w5.heap.size) := box (Array.getElem?_eq_some_iff.1 Rt_5).1
  have Rh_6 := heap_alloc_last w5 (Obj.cells (hsC ⟨true, true, false, true, false, false⟩) 71)
  have B6 := btr B5 (bal w5 (Obj.cells (hsC ⟨true, true, false, true, false, false⟩) 71))
  have Rx_6 := heap_of (bal w5 (Obj.cells (hsC ⟨true, true, false, true, false, false⟩) 71)) _ _ _ Rx_5
  have Rt_6 := heap_of (bal w5 (Obj.cells (hsC ⟨true, true, false, true, false, false⟩) 71)) _ _ _ Rt_5
  clear B5 Rx_5 cx_5_0 cx_5_1 cx_5_2 cx_5_3 cx_5_4 cx_5_5 cx_5_6 cx_5_7 cx_5_8 cx_5_9 cx_5_10 Rt_5 ct_5_0 ct_5_1 ct_5_2 ct_5_3 ct_5_4 ct_5_5 ct_5_6 ct_5_7
  obtain ⟨cx_6_0, cx_6_1, cx_6_2, cx_6_3, cx_6_4, cx_6_5, cx_6_6, cx_6_7, cx_6_8, cx_6_9, cx_6_10⟩ := inC_cells Rx_6
  obtain ⟨ct_6_0, ct_6_1, ct_6_2, ct_6_3, ct_6_4, ct_6_5, ct_6_6, ct_6_7⟩ := ndC_cells Rt_6
  obtain ⟨ch_6_0, ch_6_1, ch_6_2, ch_6_3, ch_6_4, ch_6_5⟩ := hsC_cells Rh_6
  go_wp2_with fail
  refine (P7.out _).mono ?_
  rintro r w7 ⟨rfl, b7⟩
  have B7 : Below w.heap.size w w7 := btr B6 b7
  have Rx_7 := heap_of b7 _ _ _ Rx_6
  have Rt_7 := heap_of b7 _ _ _ Rt_6
  have Rh_7 := heap_of b7 _ _ _ Rh_6
  clear b7 B6 Rx_6 cx_6_0 cx_6_1 cx_6_2 cx_6_3 cx_6_4 cx_6_5 cx_6_6 cx_6_7 cx_6_8 cx_6_9 cx_6_10 Rt_6 ct_6_0 ct_6_1 ct_6_2 ct_6_3 ct_6_4 ct_6_5 ct_6_6 ct_6_7 Rh_6 ch_6_0 ch_6_1 ch_6_2 ch_6_3 ch_6_4 ch_6_5
  obtain ⟨cx_7_0, cx_7_1, cx_7_2, cx_7_3, cx_7_4, cx_7_5, cx_7_6, cx_7_7, cx_7_8, cx_7_9, cx_7_10⟩ := inC_cells Rx_7
  obtain ⟨ct_7_0, ct_7_1, ct_7_2, ct_7_3, ct_7_4, ct_7_5, ct_7_6, ct_7_7⟩ := ndC_cells Rt_7
  obtain ⟨ch_7_0, ch_7_1, ch_7_2, ch_7_3, ch_7_4, ch_7_5⟩ := hsC_cells Rh_7
  go_wp2_with fail
  refine (P20.out _).mono ?_
  rintro r w8 ⟨rfl, b8⟩
  have B8 : Below w.heap.size w w8 := btr B7 b8
  have Rx_8 := heap_of b8 _ _ _ Rx_7
  have Rt_8 := heap_of b8 _ _ _ Rt_7
  have Rh_8 := heap_of b8 _ _ _ Rh_7
  clear b8 B7 Rx_7 cx_7_0 cx_7_1 cx_7_2 cx_7_3 cx_7_4 cx_7_5 cx_7_6 cx_7_7 cx_7_8 cx_7_9 cx_7_10 Rt_7 ct_7_0 ct_7_1 ct_7_2 ct_7_3 ct_7_4 ct_7_5 ct_7_6 ct_7_7 Rh_7 ch_7_0 ch_7_1 ch_7_2 ch_7_3 ch_7_4 ch_7_5
  obtain ⟨cx_8_0, cx_8_1, cx_8_2, cx_8_3, cx_8_4, cx_8_5, cx_8_6, cx_8_7, cx_8_8, cx_8_9, cx_8_10⟩ := inC_cells Rx_8
  obtain ⟨ct_8_0, ct_8_1, ct_8_2, ct_8_3, ct_8_4, ct_8_5, ct_8_6, ct_8_7⟩ := ndC_cells Rt_8
  obtain ⟨ch_8_0, ch_8_1, ch_8_2, ch_8_3, ch_8_4, ch_8_5⟩ := hsC_cells Rh_8
  go_wp2_with fail
  refine (P12.out _).mono ?_
  rintro r w9 ⟨rfl, b9⟩
  have B9 : Below w.heap.size w w9 := btr B8 b9
  have Rx_9 := heap_of b9 _ _ _ Rx_8
  have Rt_9 := heap_of b9 _ _ _ Rt_8
  have Rh_9 := heap_of b9 _ _ _ Rh_8
  clear b9 B8 Rx_8 cx_8_0 cx_8_1 cx_8_2 cx_8_3 cx_8_4 cx_8_5 cx_8_6 cx_8_7 cx_8_8 cx_8_9 cx_8_10 Rt_8 ct_8_0 ct_8_1 ct_8_2 ct_8_3 ct_8_4 ct_8_5 ct_8_6 ct_8_7 Rh_8 ch_8_0 ch_8_1 ch_8_2 ch_8_3 ch_8_4 ch_8_5
  obtain ⟨cx_9_0, cx_9_1, cx_9_2, cx_9_3, cx_9_4, cx_9_5, cx_9_6, cx_9_7, cx_9_8, cx_9_9, cx_9_10⟩ := inC_cells Rx_9
  obtain ⟨ct_9_0, ct_9_1, ct_9_2, ct_9_3, ct_9_4, ct_9_5, ct_9_6, ct_9_7⟩ := ndC_cells Rt_9
  obtain ⟨ch_9_0, ch_9_1, ch_9_2, ch_9_3, ch_9_4, ch_9_5⟩ := hsC_cells Rh_9
  go_wp2
  simp only [e1, e2, e3]
  go_ret2
  exact ⟨rfl, B9⟩
set_option maxRecDepth 100000 in
set_option maxHeartbeats 8000000 in
theorem b26_enc_5 (x : In) (rr : Rw) (nn : ByteArray) (hw : IntKind.i64.wrap x.imm = x.imm) (hw2 : wrap64 x.imm = x.imm) (hvrs1 : wrap64 ((x.rs1 : Nat) : Int) = (x.rs1 : Nat)) (hvrd : wrap64 ((x.rd : Nat) : Int) = (x.rd : Nat)) (hvrs2 : wrap64 ((x.rs2 : Nat) : Int) = (x.rs2 : Nat)) (hn : decide (x.imm < 0) = false) (q1 : (((rr.lay : Nat) : Int) == 1) = false) (q2 : (((rr.lay : Nat) : Int) == 2) = false) (RM : Box (∀ w, Calls Tryd.prog 12 #[.agg (inC x)] w fun r w' => r = .returned (.bool true) ∧ Below w.heap.size w w')) (RO : Box (∀ w, Calls Tryd.prog 26 #[.int .u8 (x.op : Nat), .int .u8 (x.form : Nat), .int .u8 (x.frm : Nat), .int .u8 (x.kind : Nat)] w fun r w' => r = .returned (.tuple #[.agg (ndC rr nn), .int .i64 0]) ∧ Below w.heap.size w w')) (RF : Box (∀ w, Calls Tryd.prog 28 #[.int .u8 (rr.lay : Nat)] w fun r w' => r = .returned (.agg (hsC ⟨true, true, false, false, false, false⟩)) ∧ Below w.heap.size w w')) (V15 : Nat) (P15 : Box (∀ w, Calls Tryd.prog 27 #[.int .i64 15, .int .i64 5, .int .i64 (x.rs1 : Nat)] w fun r w' => r = .returned (.int .u32 (V15 : Nat)) ∧ Below w.heap.size w w')) (V7 : Nat) (P7 : Box (∀ w, Calls Tryd.prog 27 #[.int .i64 7, .int .i64 5, .int .i64 (x.rd : Nat)] w fun r w' => r = .returned (.int .u32 (V7 : Nat)) ∧ Below w.heap.size w w')) (V20 : Nat) (P20 : Box (∀ w, Calls Tryd.prog 27 #[.int .i64 20, .int .i64 5, .int .i64 (x.rs2 : Nat)] w fun r w' => r = .returned (.int .u32 (V20 : Nat)) ∧ Below w.heap.size w w')) (S0 : Nat) (e0 : (((rr.mtch : Nat) : Int) + ((V15 : Nat) : Int)) % 4294967296 = (S0 : Nat)) (S1 : Nat) (e1 : (((S0 : Nat) : Int) + ((V7 : Nat) : Int)) % 4294967296 = (S1 : Nat)) (S2 : Nat) (e2 : (((S1 : Nat) : Int) + ((V20 : Nat) : Int)) % 4294967296 = (S2 : Nat)) (w : World) : Calls Tryd.prog 10 #[.agg (inC x)] w fun r w' => r = .returned (.tuple #[.int .u32 (S2 : Nat), .int .i64 0]) ∧ Below w.heap.size w w' := by
  have hxn := inC_fold x
  have hdn := ndC_new
  have hhn := hsC_new
  obtain ⟨Rx_0, B0⟩ := opn1 w (Obj.cells (inC x) 27)
  go_enter Tryd.func10, Tryd.ntmps10
  obtain ⟨cx_0_0, cx_0_1, cx_0_2, cx_0_3, cx_0_4, cx_0_5, cx_0_6, cx_0_7, cx_0_8, cx_0_9, cx_0_10⟩ := inC_cells Rx_0
  go_wp2_with fail
  refine (RM.out _).mono ?_
  rintro r w1 ⟨rfl, b1⟩
  have B1 : Below w.heap.size w w1 := btr B0 b1
  have Rx_1 := heap_of b1 _ _ _ Rx_0
  clear b1 B0 Rx_0 cx_0_0 cx_0_1 cx_0_2 cx_0_3 cx_0_4 cx_0_5 cx_0_6 cx_0_7 cx_0_8 cx_0_9 cx_0_10
  obtain ⟨cx_1_0, cx_1_1, cx_1_2, cx_1_3, cx_1_4, cx_1_5, cx_1_6, cx_1_7, cx_1_8, cx_1_9, cx_1_10⟩ := inC_cells Rx_1
  clear hxn
  go_wp2_with fail
  refine (RO.out _).mono ?_
  rintro r w2 ⟨rfl, b2⟩
  have B2 : Below w.heap.size w w2 := btr B1 b2
  have Rx_2 := heap_of b2 _ _ _ Rx_1
  clear b2 B1 Rx_1 cx_1_0 cx_1_1 cx_1_2 cx_1_3 cx_1_4 cx_1_5 cx_1_6 cx_1_7 cx_1_8 cx_1_9 cx_1_10
  obtain ⟨cx_2_0, cx_2_1, cx_2_2, cx_2_3, cx_2_4, cx_2_5, cx_2_6, cx_2_7, cx_2_8, cx_2_9, cx_2_10⟩ := inC_cells Rx_2
  have S3 := box B2.size
  have Lx_3 : Box (w.heap.size < w2.heap.size) := box (Array.getElem?_eq_some_iff.1 Rx_2).1
  have Rt_3 := heap_alloc_last w2 (Obj.cells (ndC rr nn) 47)
  have B3 := btr B2 (bal w2 (Obj.cells (ndC rr nn) 47))
  have Rx_3 := heap_of (bal w2 (Obj.cells (ndC rr nn) 47)) _ _ _ Rx_2
  clear B2 Rx_2 cx_2_0 cx_2_1 cx_2_2 cx_2_3 cx_2_4 cx_2_5 cx_2_6 cx_2_7 cx_2_8 cx_2_9 cx_2_10
  obtain ⟨cx_3_0, cx_3_1, cx_3_2, cx_3_3, cx_3_4, cx_3_5, cx_3_6, cx_3_7, cx_3_8, cx_3_9, cx_3_10⟩ := inC_cells Rx_3
  obtain ⟨ct_3_0, ct_3_1, ct_3_2, ct_3_3, ct_3_4, ct_3_5, ct_3_6, ct_3_7⟩ := ndC_cells Rt_3
  go_wp2_with fail
  obtain ⟨F, hF1, hF2⟩ := below_fun (w2.alloc (Obj.cells (ndC rr nn) 47))
  have fx_0 := fun u => (inC_cells (heap_of (hF1 u) _ _ _ Rx_3)).1
  have fx_1 := fun u => (inC_cells (heap_of (hF1 u) _ _ _ Rx_3)).2.1
  have fx_2 := fun u => (inC_cells (heap_of (hF1 u) _ _ _ Rx_3)).2.2.1
  have fx_3 := fun u => (inC_cells (heap_of (hF1 u) _ _ _ Rx_3)).2.2.2.1
  have fx_4 := fun u => (inC_cells (heap_of (hF1 u) _ _ _ Rx_3)).2.2.2.2.1
  have fx_5 := fun u => (inC_cells (heap_of (hF1 u) _ _ _ Rx_3)).2.2.2.2.2.1
  have fx_6 := fun u => (inC_cells (heap_of (hF1 u) _ _ _ Rx_3)).2.2.2.2.2.2.1
  have fx_7 := fun u => (inC_cells (heap_of (hF1 u) _ _ _ Rx_3)).2.2.2.2.2.2.2.1
  have fx_8 := fun u => (inC_cells (heap_of (hF1 u) _ _ _ Rx_3)).2.2.2.2.2.2.2.2.1
  have fx_9 := fun u => (inC_cells (heap_of (hF1 u) _ _ _ Rx_3)).2.2.2.2.2.2.2.2.2.1
  have fx_10 := fun u => (inC_cells (heap_of (hF1 u) _ _ _ Rx_3)).2.2.2.2.2.2.2.2.2.2
  have ft_0 := fun u => (ndC_cells (heap_of (hF1 u) _ _ _ Rt_3)).1
  have ft_1 := fun u => (ndC_cells (heap_of (hF1 u) _ _ _ Rt_3)).2.1
  have ft_2 := fun u => (ndC_cells (heap_of (hF1 u) _ _ _ Rt_3)).2.2.1
  have ft_3 := fun u => (ndC_cells (heap_of (hF1 u) _ _ _ Rt_3)).2.2.2.1
  have ft_4 := fun u => (ndC_cells (heap_of (hF1 u) _ _ _ Rt_3)).2.2.2.2.1
  have ft_5 := fun u => (ndC_cells (heap_of (hF1 u) _ _ _ Rt_3)).2.2.2.2.2.1
  have ft_6 := fun u => (ndC_cells (heap_of (hF1 u) _ _ _ Rt_3)).2.2.2.2.2.2.1
  have ft_7 := fun u => (ndC_cells (heap_of (hF1 u) _ _ _ Rt_3)).2.2.2.2.2.2.2
  refine wp_region_below F hF2 (by kernel_rfl) (by kernel_rfl) ?_
  repeat first | go_big_quiet_step (first | (go_at_call 27; exact quietF hF1 hF2 (P15.out _)) | fail) | quiet_step (first | (go_at_call 27; exact quietF hF1 hF2 (P15.out _)) | fail)
  refine wpQuiet_nil ?_
  rintro _ ⟨uW, rfl⟩
  have B4 := btr B3 (hF1 uW)
  have Rx_4 := heap_of (hF1 uW) _ _ _ Rx_3
  have Rt_4 := heap_of (hF1 uW) _ _ _ Rt_3
  obtain ⟨w4, hw⟩ : ∃ V, F uW = V := ⟨_, rfl⟩
  rw [hw] at B4 Rx_4 Rt_4
  try rw [hw]
  clear hw hF1 hF2 B3 fx_0 fx_1 fx_2 fx_3 fx_4 fx_5 fx_6 fx_7 fx_8 fx_9 fx_10 ft_0 ft_1 ft_2 ft_3 ft_4 ft_5 ft_6 ft_7 Rx_3 cx_3_0 cx_3_1 cx_3_2 cx_3_3 cx_3_4 cx_3_5 cx_3_6 cx_3_7 cx_3_8 cx_3_9 cx_3_10 Rt_3 ct_3_0 ct_3_1 ct_3_2 ct_3_3 ct_3_4 ct_3_5 ct_3_6 ct_3_7
  clear F
  obtain ⟨cx_4_0, cx_4_1, cx_4_2, cx_4_3, cx_4_4, cx_4_5, cx_4_6, cx_4_7, cx_4_8, cx_4_9, cx_4_10⟩ := inC_cells Rx_4
  obtain ⟨ct_4_0, ct_4_1, ct_4_2, ct_4_3, ct_4_4, ct_4_5, ct_4_6, ct_4_7⟩ := ndC_cells Rt_4
  go_wp2_with fail
  refine (RF.out _).mono ?_
  rintro r w5 ⟨rfl, b5⟩
  have B5 : Below w.heap.size w w5 := btr B4 b5
  have Rx_5 := heap_of b5 _ _ _ Rx_4
  have Rt_5 := heap_of b5 _ _ _ Rt_4
  clear b5 B4 Rx_4 cx_4_0 cx_4_1 cx_4_2 cx_4_3 cx_4_4 cx_4_5 cx_4_6 cx_4_7 cx_4_8 cx_4_9 cx_4_10 Rt_4 ct_4_0 ct_4_1 ct_4_2 ct_4_3 ct_4_4 ct_4_5 ct_4_6 ct_4_7
  obtain ⟨cx_5_0, cx_5_1, cx_5_2, cx_5_3, cx_5_4, cx_5_5, cx_5_6, cx_5_7, cx_5_8, cx_5_9, cx_5_10⟩ := inC_cells Rx_5
  obtain ⟨ct_5_0, ct_5_1, ct_5_2, ct_5_3, ct_5_4, ct_5_5, ct_5_6, ct_5_7⟩ := ndC_cells Rt_5
  have S6 := box B5.size
  have Lx_6 : Box (w.heap.size < w5.heap.size) := box (Array.getElem?_eq_some_iff.1 Rx_5).1
  have Lt_6 : Box (w2.heap.size < w5.heap.size) := box (Array.getElem?_eq_some_iff.1 Rt_5).1
  have Rh_6 := heap_alloc_last w5 (Obj.cells (hsC ⟨true, true, false, false, false, false⟩) 71)
  have B6 := btr B5 (bal w5 (Obj.cells (hsC ⟨true, true, false, false, false, false⟩) 71))
  have Rx_6 := heap_of (bal w5 (Obj.cells (hsC ⟨true, true, false, false, false, false⟩) 71)) _ _ _ Rx_5
  have Rt_6 := heap_of (bal w5 (Obj.cells (hsC ⟨true, true, false, false, false, false⟩) 71)) _ _ _ Rt_5
  clear B5 Rx_5 cx_5_0 cx_5_1 cx_5_2 cx_5_3 cx_5_4 cx_5_5 cx_5_6 cx_5_7 cx_5_8 cx_5_9 cx_5_10 Rt_5 ct_5_0 ct_5_1 ct_5_2 ct_5_3 ct_5_4 ct_5_5 ct_5_6 ct_5_7
  obtain ⟨cx_6_0, cx_6_1, cx_6_2, cx_6_3, cx_6_4, cx_6_5, cx_6_6, cx_6_7, cx_6_8, cx_6_9, cx_6_10⟩ := inC_cells Rx_6
  obtain ⟨ct_6_0, ct_6_1, ct_6_2, ct_6_3, ct_6_4, ct_6_5, ct_6_6, ct_6_7⟩ := ndC_cells Rt_6
  obtain ⟨ch_6_0, ch_6_1, ch_6_2, ch_6_3, ch_6_4, ch_6_5⟩ := hsC_cells Rh_6
  go_wp2_with fail
  refine (P7.out _).mono ?_
  rintro r w7 ⟨rfl, b7⟩
  have B7 : Below w.heap.size w w7 := btr B6 b7
  have Rx_7 := heap_of b7 _ _ _ Rx_6
  have Rt_7 := heap_of b7 _ _ _ Rt_6
  have Rh_7 := heap_of b7 _ _ _ Rh_6
  clear b7 B6 Rx_6 cx_6_0 cx_6_1 cx_6_2 cx_6_3 cx_6_4 cx_6_5 cx_6_6 cx_6_7 cx_6_8 cx_6_9 cx_6_10 Rt_6 ct_6_0 ct_6_1 ct_6_2 ct_6_3 ct_6_4 ct_6_5 ct_6_6 ct_6_7 Rh_6 ch_6_0 ch_6_1 ch_6_2 ch_6_3 ch_6_4 ch_6_5
  obtain ⟨cx_7_0, cx_7_1, cx_7_2, cx_7_3, cx_7_4, cx_7_5, cx_7_6, cx_7_7, cx_7_8, cx_7_9, cx_7_10⟩ := inC_cells Rx_7
  obtain ⟨ct_7_0, ct_7_1, ct_7_2, ct_7_3, ct_7_4, ct_7_5, ct_7_6, ct_7_7⟩ := ndC_cells Rt_7
  obtain ⟨ch_7_0, ch_7_1, ch_7_2, ch_7_3, ch_7_4, ch_7_5⟩ := hsC_cells Rh_7
  go_wp2_with fail
  refine (P20.out _).mono ?_
  rintro r w8 ⟨rfl, b8⟩
  have B8 : Below w.heap.size w w8 := btr B7 b8
  have Rx_8 := heap_of b8 _ _ _ Rx_7
  have Rt_8 := heap_of b8 _ _ _ Rt_7
  have Rh_8 := heap_of b8 _ _ _ Rh_7
  clear b8 B7 Rx_7 cx_7_0 cx_7_1 cx_7_2 cx_7_3 cx_7_4 cx_7_5 cx_7_6 cx_7_7 cx_7_8 cx_7_9 cx_7_10 Rt_7 ct_7_0 ct_7_1 ct_7_2 ct_7_3 ct_7_4 ct_7_5 ct_7_6 ct_7_7 Rh_7 ch_7_0 ch_7_1 ch_7_2 ch_7_3 ch_7_4 ch_7_5
  obtain ⟨cx_8_0, cx_8_1, cx_8_2, cx_8_3, cx_8_4, cx_8_5, cx_8_6, cx_8_7, cx_8_8, cx_8_9, cx_8_10⟩ := inC_cells Rx_8
  obtain ⟨ct_8_0, ct_8_1, ct_8_2, ct_8_3, ct_8_4, ct_8_5, ct_8_6, ct_8_7⟩ := ndC_cells Rt_8
  obtain ⟨ch_8_0, ch_8_1, ch_8_2, ch_8_3, ch_8_4, ch_8_5⟩ := hsC_cells Rh_8
  go_wp2
  simp only [e1, e2]
  go_ret2
  exact ⟨rfl, B8⟩
set_option maxRecDepth 100000 in
set_option maxHeartbeats 8000000 in
theorem b26_enc_6 (x : In) (rr : Rw) (nn : ByteArray) (hw : IntKind.i64.wrap x.imm = x.imm) (hw2 : wrap64 x.imm = x.imm) (hvrs1 : wrap64 ((x.rs1 : Nat) : Int) = (x.rs1 : Nat)) (hvrd : wrap64 ((x.rd : Nat) : Int) = (x.rd : Nat)) (hvrm : wrap64 ((x.rm : Nat) : Int) = (x.rm : Nat)) (hn : decide (x.imm < 0) = false) (q1 : (((rr.lay : Nat) : Int) == 1) = false) (q2 : (((rr.lay : Nat) : Int) == 2) = false) (RM : Box (∀ w, Calls Tryd.prog 12 #[.agg (inC x)] w fun r w' => r = .returned (.bool true) ∧ Below w.heap.size w w')) (RO : Box (∀ w, Calls Tryd.prog 26 #[.int .u8 (x.op : Nat), .int .u8 (x.form : Nat), .int .u8 (x.frm : Nat), .int .u8 (x.kind : Nat)] w fun r w' => r = .returned (.tuple #[.agg (ndC rr nn), .int .i64 0]) ∧ Below w.heap.size w w')) (RF : Box (∀ w, Calls Tryd.prog 28 #[.int .u8 (rr.lay : Nat)] w fun r w' => r = .returned (.agg (hsC ⟨true, false, false, true, false, false⟩)) ∧ Below w.heap.size w w')) (V15 : Nat) (P15 : Box (∀ w, Calls Tryd.prog 27 #[.int .i64 15, .int .i64 5, .int .i64 (x.rs1 : Nat)] w fun r w' => r = .returned (.int .u32 (V15 : Nat)) ∧ Below w.heap.size w w')) (V7 : Nat) (P7 : Box (∀ w, Calls Tryd.prog 27 #[.int .i64 7, .int .i64 5, .int .i64 (x.rd : Nat)] w fun r w' => r = .returned (.int .u32 (V7 : Nat)) ∧ Below w.heap.size w w')) (V12 : Nat) (P12 : Box (∀ w, Calls Tryd.prog 27 #[.int .i64 12, .int .i64 3, .int .i64 (x.rm : Nat)] w fun r w' => r = .returned (.int .u32 (V12 : Nat)) ∧ Below w.heap.size w w')) (S0 : Nat) (e0 : (((rr.mtch : Nat) : Int) + ((V15 : Nat) : Int)) % 4294967296 = (S0 : Nat)) (S1 : Nat) (e1 : (((S0 : Nat) : Int) + ((V7 : Nat) : Int)) % 4294967296 = (S1 : Nat)) (S2 : Nat) (e2 : (((S1 : Nat) : Int) + ((V12 : Nat) : Int)) % 4294967296 = (S2 : Nat)) (w : World) : Calls Tryd.prog 10 #[.agg (inC x)] w fun r w' => r = .returned (.tuple #[.int .u32 (S2 : Nat), .int .i64 0]) ∧ Below w.heap.size w w' := by
  have hxn := inC_fold x
  have hdn := ndC_new
  have hhn := hsC_new
  obtain ⟨Rx_0, B0⟩ := opn1 w (Obj.cells (inC x) 27)
  go_enter Tryd.func10, Tryd.ntmps10
  obtain ⟨cx_0_0, cx_0_1, cx_0_2, cx_0_3, cx_0_4, cx_0_5, cx_0_6, cx_0_7, cx_0_8, cx_0_9, cx_0_10⟩ := inC_cells Rx_0
  go_wp2_with fail
  refine (RM.out _).mono ?_
  rintro r w1 ⟨rfl, b1⟩
  have B1 : Below w.heap.size w w1 := btr B0 b1
  have Rx_1 := heap_of b1 _ _ _ Rx_0
  clear b1 B0 Rx_0 cx_0_0 cx_0_1 cx_0_2 cx_0_3 cx_0_4 cx_0_5 cx_0_6 cx_0_7 cx_0_8 cx_0_9 cx_0_10
  obtain ⟨cx_1_0, cx_1_1, cx_1_2, cx_1_3, cx_1_4, cx_1_5, cx_1_6, cx_1_7, cx_1_8, cx_1_9, cx_1_10⟩ := inC_cells Rx_1
  clear hxn
  go_wp2_with fail
  refine (RO.out _).mono ?_
  rintro r w2 ⟨rfl, b2⟩
  have B2 : Below w.heap.size w w2 := btr B1 b2
  have Rx_2 := heap_of b2 _ _ _ Rx_1
  clear b2 B1 Rx_1 cx_1_0 cx_1_1 cx_1_2 cx_1_3 cx_1_4 cx_1_5 cx_1_6 cx_1_7 cx_1_8 cx_1_9 cx_1_10
  obtain ⟨cx_2_0, cx_2_1, cx_2_2, cx_2_3, cx_2_4, cx_2_5, cx_2_6, cx_2_7, cx_2_8, cx_2_9, cx_2_10⟩ := inC_cells Rx_2
  have S3 := box B2.size
  have Lx_3 : Box (w.heap.size < w2.heap.size) := box (Array.getElem?_eq_some_iff.1 Rx_2).1
  have Rt_3 := heap_alloc_last w2 (Obj.cells (ndC rr nn) 47)
  have B3 := btr B2 (bal w2 (Obj.cells (ndC rr nn) 47))
  have Rx_3 := heap_of (bal w2 (Obj.cells (ndC rr nn) 47)) _ _ _ Rx_2
  clear B2 Rx_2 cx_2_0 cx_2_1 cx_2_2 cx_2_3 cx_2_4 cx_2_5 cx_2_6 cx_2_7 cx_2_8 cx_2_9 cx_2_10
  obtain ⟨cx_3_0, cx_3_1, cx_3_2, cx_3_3, cx_3_4, cx_3_5, cx_3_6, cx_3_7, cx_3_8, cx_3_9, cx_3_10⟩ := inC_cells Rx_3
  obtain ⟨ct_3_0, ct_3_1, ct_3_2, ct_3_3, ct_3_4, ct_3_5, ct_3_6, ct_3_7⟩ := ndC_cells Rt_3
  go_wp2_with fail
  obtain ⟨F, hF1, hF2⟩ := below_fun (w2.alloc (Obj.cells (ndC rr nn) 47))
  have fx_0 := fun u => (inC_cells (heap_of (hF1 u) _ _ _ Rx_3)).1
  have fx_1 := fun u => (inC_cells (heap_of (hF1 u) _ _ _ Rx_3)).2.1
  have fx_2 := fun u => (inC_cells (heap_of (hF1 u) _ _ _ Rx_3)).2.2.1
  have fx_3 := fun u => (inC_cells (heap_of (hF1 u) _ _ _ Rx_3)).2.2.2.1
  have fx_4 := fun u => (inC_cells (heap_of (hF1 u) _ _ _ Rx_3)).2.2.2.2.1
  have fx_5 := fun u => (inC_cells (heap_of (hF1 u) _ _ _ Rx_3)).2.2.2.2.2.1
  have fx_6 := fun u => (inC_cells (heap_of (hF1 u) _ _ _ Rx_3)).2.2.2.2.2.2.1
  have fx_7 := fun u => (inC_cells (heap_of (hF1 u) _ _ _ Rx_3)).2.2.2.2.2.2.2.1
  have fx_8 := fun u => (inC_cells (heap_of (hF1 u) _ _ _ Rx_3)).2.2.2.2.2.2.2.2.1
  have fx_9 := fun u => (inC_cells (heap_of (hF1 u) _ _ _ Rx_3)).2.2.2.2.2.2.2.2.2.1
  have fx_10 := fun u => (inC_cells (heap_of (hF1 u) _ _ _ Rx_3)).2.2.2.2.2.2.2.2.2.2
  have ft_0 := fun u => (ndC_cells (heap_of (hF1 u) _ _ _ Rt_3)).1
  have ft_1 := fun u => (ndC_cells (heap_of (hF1 u) _ _ _ Rt_3)).2.1
  have ft_2 := fun u => (ndC_cells (heap_of (hF1 u) _ _ _ Rt_3)).2.2.1
  have ft_3 := fun u => (ndC_cells (heap_of (hF1 u) _ _ _ Rt_3)).2.2.2.1
  have ft_4 := fun u => (ndC_cells (heap_of (hF1 u) _ _ _ Rt_3)).2.2.2.2.1
  have ft_5 := fun u => (ndC_cells (heap_of (hF1 u) _ _ _ Rt_3)).2.2.2.2.2.1
  have ft_6 := fun u => (ndC_cells (heap_of (hF1 u) _ _ _ Rt_3)).2.2.2.2.2.2.1
  have ft_7 := fun u => (ndC_cells (heap_of (hF1 u) _ _ _ Rt_3)).2.2.2.2.2.2.2
  refine wp_region_below F hF2 (by kernel_rfl) (by kernel_rfl) ?_
  repeat first | go_big_quiet_step (first | (go_at_call 27; exact quietF hF1 hF2 (P15.out _)) | fail) | quiet_step (first | (go_at_call 27; exact quietF hF1 hF2 (P15.out _)) | fail)
  refine wpQuiet_nil ?_
  rintro _ ⟨uW, rfl⟩
  have B4 := btr B3 (hF1 uW)
  have Rx_4 := heap_of (hF1 uW) _ _ _ Rx_3
  have Rt_4 := heap_of (hF1 uW) _ _ _ Rt_3
  obtain ⟨w4, hw⟩ : ∃ V, F uW = V := ⟨_, rfl⟩
  rw [hw] at B4 Rx_4 Rt_4
  try rw [hw]
  clear hw hF1 hF2 B3 fx_0 fx_1 fx_2 fx_3 fx_4 fx_5 fx_6 fx_7 fx_8 fx_9 fx_10 ft_0 ft_1 ft_2 ft_3 ft_4 ft_5 ft_6 ft_7 Rx_3 cx_3_0 cx_3_1 cx_3_2 cx_3_3 cx_3_4 cx_3_5 cx_3_6 cx_3_7 cx_3_8 cx_3_9 cx_3_10 Rt_3 ct_3_0 ct_3_1 ct_3_2 ct_3_3 ct_3_4 ct_3_5 ct_3_6 ct_3_7
  clear F
  obtain ⟨cx_4_0, cx_4_1, cx_4_2, cx_4_3, cx_4_4, cx_4_5, cx_4_6, cx_4_7, cx_4_8, cx_4_9, cx_4_10⟩ := inC_cells Rx_4
  obtain ⟨ct_4_0, ct_4_1, ct_4_2, ct_4_3, ct_4_4, ct_4_5, ct_4_6, ct_4_7⟩ := ndC_cells Rt_4
  go_wp2_with fail
  refine (RF.out _).mono ?_
  rintro r w5 ⟨rfl, b5⟩
  have B5 : Below w.heap.size w w5 := btr B4 b5
  have Rx_5 := heap_of b5 _ _ _ Rx_4
  have Rt_5 := heap_of b5 _ _ _ Rt_4
  clear b5 B4 Rx_4 cx_4_0 cx_4_1 cx_4_2 cx_4_3 cx_4_4 cx_4_5 cx_4_6 cx_4_7 cx_4_8 cx_4_9 cx_4_10 Rt_4 ct_4_0 ct_4_1 ct_4_2 ct_4_3 ct_4_4 ct_4_5 ct_4_6 ct_4_7
  obtain ⟨cx_5_0, cx_5_1, cx_5_2, cx_5_3, cx_5_4, cx_5_5, cx_5_6, cx_5_7, cx_5_8, cx_5_9, cx_5_10⟩ := inC_cells Rx_5
  obtain ⟨ct_5_0, ct_5_1, ct_5_2, ct_5_3, ct_5_4, ct_5_5, ct_5_6, ct_5_7⟩ := ndC_cells Rt_5
  have S6 := box B5.size
  have Lx_6 : Box (w.heap.size < w5.heap.size) := box (Array.getElem?_eq_some_iff.1 Rx_5).1
  have Lt_6 : Box (w2.heap.size < w5.heap.size) := box (Array.getElem?_eq_some_iff.1 Rt_5).1
  have Rh_6 := heap_alloc_last w5 (Obj.cells (hsC ⟨true, false, false, true, false, false⟩) 71)
  have B6 := btr B5 (bal w5 (Obj.cells (hsC ⟨true, false, false, true, false, false⟩) 71))
  have Rx_6 := heap_of (bal w5 (Obj.cells (hsC ⟨true, false, false, true, false, false⟩) 71)) _ _ _ Rx_5
  have Rt_6 := heap_of (bal w5 (Obj.cells (hsC ⟨true, false, false, true, false, false⟩) 71)) _ _ _ Rt_5
  clear B5 Rx_5 cx_5_0 cx_5_1 cx_5_2 cx_5_3 cx_5_4 cx_5_5 cx_5_6 cx_5_7 cx_5_8 cx_5_9 cx_5_10 Rt_5 ct_5_0 ct_5_1 ct_5_2 ct_5_3 ct_5_4 ct_5_5 ct_5_6 ct_5_7
  obtain ⟨cx_6_0, cx_6_1, cx_6_2, cx_6_3, cx_6_4, cx_6_5, cx_6_6, cx_6_7, cx_6_8, cx_6_9, cx_6_10⟩ := inC_cells Rx_6
  obtain ⟨ct_6_0, ct_6_1, ct_6_2, ct_6_3, ct_6_4, ct_6_5, ct_6_6, ct_6_7⟩ := ndC_cells Rt_6
  obtain ⟨ch_6_0, ch_6_1, ch_6_2, ch_6_3, ch_6_4, ch_6_5⟩ := hsC_cells Rh_6
  go_wp2_with fail
  refine (P7.out _).mono ?_
  rintro r w7 ⟨rfl, b7⟩
  have B7 : Below w.heap.size w w7 := btr B6 b7
  have Rx_7 := heap_of b7 _ _ _ Rx_6
  have Rt_7 := heap_of b7 _ _ _ Rt_6
  have Rh_7 := heap_of b7 _ _ _ Rh_6
  clear b7 B6 Rx_6 cx_6_0 cx_6_1 cx_6_2 cx_6_3 cx_6_4 cx_6_5 cx_6_6 cx_6_7 cx_6_8 cx_6_9 cx_6_10 Rt_6 ct_6_0 ct_6_1 ct_6_2 ct_6_3 ct_6_4 ct_6_5 ct_6_6 ct_6_7 Rh_6 ch_6_0 ch_6_1 ch_6_2 ch_6_3 ch_6_4 ch_6_5
  obtain ⟨cx_7_0, cx_7_1, cx_7_2, cx_7_3, cx_7_4, cx_7_5, cx_7_6, cx_7_7, cx_7_8, cx_7_9, cx_7_10⟩ := inC_cells Rx_7
  obtain ⟨ct_7_0, ct_7_1, ct_7_2, ct_7_3, ct_7_4, ct_7_5, ct_7_6, ct_7_7⟩ := ndC_cells Rt_7
  obtain ⟨ch_7_0, ch_7_1, ch_7_2, ch_7_3, ch_7_4, ch_7_5⟩ := hsC_cells Rh_7
  go_wp2_with fail
  refine (P12.out _).mono ?_
  rintro r w8 ⟨rfl, b8⟩
  have B8 : Below w.heap.size w w8 := btr B7 b8
  have Rx_8 := heap_of b8 _ _ _ Rx_7
  have Rt_8 := heap_of b8 _ _ _ Rt_7
  have Rh_8 := heap_of b8 _ _ _ Rh_7
  clear b8 B7 Rx_7 cx_7_0 cx_7_1 cx_7_2 cx_7_3 cx_7_4 cx_7_5 cx_7_6 cx_7_7 cx_7_8 cx_7_9 cx_7_10 Rt_7 ct_7_0 ct_7_1 ct_7_2 ct_7_3 ct_7_4 ct_7_5 ct_7_6 ct_7_7 Rh_7 ch_7_0 ch_7_1 ch_7_2 ch_7_3 ch_7_4 ch_7_5
  obtain ⟨cx_8_0, cx_8_1, cx_8_2, cx_8_3, cx_8_4, cx_8_5, cx_8_6, cx_8_7, cx_8_8, cx_8_9, cx_8_10⟩ := inC_cells Rx_8
  obtain ⟨ct_8_0, ct_8_1, ct_8_2, ct_8_3, ct_8_4, ct_8_5, ct_8_6, ct_8_7⟩ := ndC_cells Rt_8
  obtain ⟨ch_8_0, ch_8_1, ch_8_2, ch_8_3, ch_8_4, ch_8_5⟩ := hsC_cells Rh_8
  go_wp2
  simp only [e1, e2]
  go_ret2
  exact ⟨rfl, B8⟩
set_option maxRecDepth 100000 in
set_option maxHeartbeats 8000000 in
theorem b26_enc_8 (x : In) (rr : Rw) (nn : ByteArray) (hw : IntKind.i64.wrap x.imm = x.imm) (hw2 : wrap64 x.imm = x.imm) (hvrs1 : wrap64 ((x.rs1 : Nat) : Int) = (x.rs1 : Nat)) (hvrd : wrap64 ((x.rd : Nat) : Int) = (x.rd : Nat)) (hvcsr : wrap64 ((x.csr : Nat) : Int) = (x.csr : Nat)) (hn : decide (x.imm < 0) = false) (q1 : (((rr.lay : Nat) : Int) == 1) = false) (q2 : (((rr.lay : Nat) : Int) == 2) = false) (RM : Box (∀ w, Calls Tryd.prog 12 #[.agg (inC x)] w fun r w' => r = .returned (.bool true) ∧ Below w.heap.size w w')) (RO : Box (∀ w, Calls Tryd.prog 26 #[.int .u8 (x.op : Nat), .int .u8 (x.form : Nat), .int .u8 (x.frm : Nat), .int .u8 (x.kind : Nat)] w fun r w' => r = .returned (.tuple #[.agg (ndC rr nn), .int .i64 0]) ∧ Below w.heap.size w w')) (RF : Box (∀ w, Calls Tryd.prog 28 #[.int .u8 (rr.lay : Nat)] w fun r w' => r = .returned (.agg (hsC ⟨true, false, false, false, false, true⟩)) ∧ Below w.heap.size w w')) (V15 : Nat) (P15 : Box (∀ w, Calls Tryd.prog 27 #[.int .i64 15, .int .i64 5, .int .i64 (x.rs1 : Nat)] w fun r w' => r = .returned (.int .u32 (V15 : Nat)) ∧ Below w.heap.size w w')) (V7 : Nat) (P7 : Box (∀ w, Calls Tryd.prog 27 #[.int .i64 7, .int .i64 5, .int .i64 (x.rd : Nat)] w fun r w' => r = .returned (.int .u32 (V7 : Nat)) ∧ Below w.heap.size w w')) (VC : Nat) (PC : Box (∀ w, Calls Tryd.prog 27 #[.int .i64 20, .int .i64 12, .int .i64 (x.csr : Nat)] w fun r w' => r = .returned (.int .u32 (VC : Nat)) ∧ Below w.heap.size w w')) (S0 : Nat) (e0 : (((rr.mtch : Nat) : Int) + ((V15 : Nat) : Int)) % 4294967296 = (S0 : Nat)) (S1 : Nat) (e1 : (((S0 : Nat) : Int) + ((V7 : Nat) : Int)) % 4294967296 = (S1 : Nat)) (S2 : Nat) (e2 : (((S1 : Nat) : Int) + ((VC : Nat) : Int)) % 4294967296 = (S2 : Nat)) (w : World) : Calls Tryd.prog 10 #[.agg (inC x)] w fun r w' => r = .returned (.tuple #[.int .u32 (S2 : Nat), .int .i64 0]) ∧ Below w.heap.size w w' := by
  have hxn := inC_fold x
  have hdn := ndC_new
  have hhn := hsC_new
  obtain ⟨Rx_0, B0⟩ := opn1 w (Obj.cells (inC x) 27)
  go_enter Tryd.func10, Tryd.ntmps10
  obtain ⟨cx_0_0, cx_0_1, cx_0_2, cx_0_3, cx_0_4, cx_0_5, cx_0_6, cx_0_7, cx_0_8, cx_0_9, cx_0_10⟩ := inC_cells Rx_0
  go_wp2_with fail
  refine (RM.out _).mono ?_
  rintro r w1 ⟨rfl, b1⟩
  have B1 : Below w.heap.size w w1 := btr B0 b1
  have Rx_1 := heap_of b1 _ _ _ Rx_0
  clear b1 B0 Rx_0 cx_0_0 cx_0_1 cx_0_2 cx_0_3 cx_0_4 cx_0_5 cx_0_6 cx_0_7 cx_0_8 cx_0_9 cx_0_10
  obtain ⟨cx_1_0, cx_1_1, cx_1_2, cx_1_3, cx_1_4, cx_1_5, cx_1_6, cx_1_7, cx_1_8, cx_1_9, cx_1_10⟩ := inC_cells Rx_1
  clear hxn
  go_wp2_with fail
  refine (RO.out _).mono ?_
  rintro r w2 ⟨rfl, b2⟩
  have B2 : Below w.heap.size w w2 := btr B1 b2
  have Rx_2 := heap_of b2 _ _ _ Rx_1
  clear b2 B1 Rx_1 cx_1_0 cx_1_1 cx_1_2 cx_1_3 cx_1_4 cx_1_5 cx_1_6 cx_1_7 cx_1_8 cx_1_9 cx_1_10
  obtain ⟨cx_2_0, cx_2_1, cx_2_2, cx_2_3, cx_2_4, cx_2_5, cx_2_6, cx_2_7, cx_2_8, cx_2_9, cx_2_10⟩ := inC_cells Rx_2
  have S3 := box B2.size
  have Lx_3 : Box (w.heap.size < w2.heap.size) := box (Array.getElem?_eq_some_iff.1 Rx_2).1
  have Rt_3 := heap_alloc_last w2 (Obj.cells (ndC rr nn) 47)
  have B3 := btr B2 (bal w2 (Obj.cells (ndC rr nn) 47))
  have Rx_3 := heap_of (bal w2 (Obj.cells (ndC rr nn) 47)) _ _ _ Rx_2
  clear B2 Rx_2 cx_2_0 cx_2_1 cx_2_2 cx_2_3 cx_2_4 cx_2_5 cx_2_6 cx_2_7 cx_2_8 cx_2_9 cx_2_10
  obtain ⟨cx_3_0, cx_3_1, cx_3_2, cx_3_3, cx_3_4, cx_3_5, cx_3_6, cx_3_7, cx_3_8, cx_3_9, cx_3_10⟩ := inC_cells Rx_3
  obtain ⟨ct_3_0, ct_3_1, ct_3_2, ct_3_3, ct_3_4, ct_3_5, ct_3_6, ct_3_7⟩ := ndC_cells Rt_3
  go_wp2_with fail
  obtain ⟨F, hF1, hF2⟩ := below_fun (w2.alloc (Obj.cells (ndC rr nn) 47))
  have fx_0 := fun u => (inC_cells (heap_of (hF1 u) _ _ _ Rx_3)).1
  have fx_1 := fun u => (inC_cells (heap_of (hF1 u) _ _ _ Rx_3)).2.1
  have fx_2 := fun u => (inC_cells (heap_of (hF1 u) _ _ _ Rx_3)).2.2.1
  have fx_3 := fun u => (inC_cells (heap_of (hF1 u) _ _ _ Rx_3)).2.2.2.1
  have fx_4 := fun u => (inC_cells (heap_of (hF1 u) _ _ _ Rx_3)).2.2.2.2.1
  have fx_5 := fun u => (inC_cells (heap_of (hF1 u) _ _ _ Rx_3)).2.2.2.2.2.1
  have fx_6 := fun u => (inC_cells (heap_of (hF1 u) _ _ _ Rx_3)).2.2.2.2.2.2.1
  have fx_7 := fun u => (inC_cells (heap_of (hF1 u) _ _ _ Rx_3)).2.2.2.2.2.2.2.1
  have fx_8 := fun u => (inC_cells (heap_of (hF1 u) _ _ _ Rx_3)).2.2.2.2.2.2.2.2.1
  have fx_9 := fun u => (inC_cells (heap_of (hF1 u) _ _ _ Rx_3)).2.2.2.2.2.2.2.2.2.1
  have fx_10 := fun u => (inC_cells (heap_of (hF1 u) _ _ _ Rx_3)).2.2.2.2.2.2.2.2.2.2
  have ft_0 := fun u => (ndC_cells (heap_of (hF1 u) _ _ _ Rt_3)).1
  have ft_1 := fun u => (ndC_cells (heap_of (hF1 u) _ _ _ Rt_3)).2.1
  have ft_2 := fun u => (ndC_cells (heap_of (hF1 u) _ _ _ Rt_3)).2.2.1
  have ft_3 := fun u => (ndC_cells (heap_of (hF1 u) _ _ _ Rt_3)).2.2.2.1
  have ft_4 := fun u => (ndC_cells (heap_of (hF1 u) _ _ _ Rt_3)).2.2.2.2.1
  have ft_5 := fun u => (ndC_cells (heap_of (hF1 u) _ _ _ Rt_3)).2.2.2.2.2.1
  have ft_6 := fun u => (ndC_cells (heap_of (hF1 u) _ _ _ Rt_3)).2.2.2.2.2.2.1
  have ft_7 := fun u => (ndC_cells (heap_of (hF1 u) _ _ _ Rt_3)).2.2.2.2.2.2.2
  refine wp_region_below F hF2 (by kernel_rfl) (by kernel_rfl) ?_
  repeat first | go_big_quiet_step (first | (go_at_call 27; exact quietF hF1 hF2 (P15.out _)) | fail) | quiet_step (first | (go_at_call 27; exact quietF hF1 hF2 (P15.out _)) | fail)
  refine wpQuiet_nil ?_
  rintro _ ⟨uW, rfl⟩
  have B4 := btr B3 (hF1 uW)
  have Rx_4 := heap_of (hF1 uW) _ _ _ Rx_3
  have Rt_4 := heap_of (hF1 uW) _ _ _ Rt_3
  obtain ⟨w4, hw⟩ : ∃ V, F uW = V := ⟨_, rfl⟩
  rw [hw] at B4 Rx_4 Rt_4
  try rw [hw]
  clear hw hF1 hF2 B3 fx_0 fx_1 fx_2 fx_3 fx_4 fx_5 fx_6 fx_7 fx_8 fx_9 fx_10 ft_0 ft_1 ft_2 ft_3 ft_4 ft_5 ft_6 ft_7 Rx_3 cx_3_0 cx_3_1 cx_3_2 cx_3_3 cx_3_4 cx_3_5 cx_3_6 cx_3_7 cx_3_8 cx_3_9 cx_3_10 Rt_3 ct_3_0 ct_3_1 ct_3_2 ct_3_3 ct_3_4 ct_3_5 ct_3_6 ct_3_7
  clear F
  obtain ⟨cx_4_0, cx_4_1, cx_4_2, cx_4_3, cx_4_4, cx_4_5, cx_4_6, cx_4_7, cx_4_8, cx_4_9, cx_4_10⟩ := inC_cells Rx_4
  obtain ⟨ct_4_0, ct_4_1, ct_4_2, ct_4_3, ct_4_4, ct_4_5, ct_4_6, ct_4_7⟩ := ndC_cells Rt_4
  go_wp2_with fail
  refine (RF.out _).mono ?_
  rintro r w5 ⟨rfl, b5⟩
  have B5 : Below w.heap.size w w5 := btr B4 b5
  have Rx_5 := heap_of b5 _ _ _ Rx_4
  have Rt_5 := heap_of b5 _ _ _ Rt_4
  clear b5 B4 Rx_4 cx_4_0 cx_4_1 cx_4_2 cx_4_3 cx_4_4 cx_4_5 cx_4_6 cx_4_7 cx_4_8 cx_4_9 cx_4_10 Rt_4 ct_4_0 ct_4_1 ct_4_2 ct_4_3 ct_4_4 ct_4_5 ct_4_6 ct_4_7
  obtain ⟨cx_5_0, cx_5_1, cx_5_2, cx_5_3, cx_5_4, cx_5_5, cx_5_6, cx_5_7, cx_5_8, cx_5_9, cx_5_10⟩ := inC_cells Rx_5
  obtain ⟨ct_5_0, ct_5_1, ct_5_2, ct_5_3, ct_5_4, ct_5_5, ct_5_6, ct_5_7⟩ := ndC_cells Rt_5
  have S6 := box B5.size
  have Lx_6 : Box (w.heap.size < w5.heap.size) := box (Array.getElem?_eq_some_iff.1 Rx_5).1
  have Lt_6 : Box (w2.heap.size < w5.heap.size) := box (Array.getElem?_eq_some_iff.1 Rt_5).1
  have Rh_6 := heap_alloc_last w5 (Obj.cells (hsC ⟨true, false, false, false, false, true⟩) 71)
  have B6 := btr B5 (bal w5 (Obj.cells (hsC ⟨true, false, false, false, false, true⟩) 71))
  have Rx_6 := heap_of (bal w5 (Obj.cells (hsC ⟨true, false, false, false, false, true⟩) 71)) _ _ _ Rx_5
  have Rt_6 := heap_of (bal w5 (Obj.cells (hsC ⟨true, false, false, false, false, true⟩) 71)) _ _ _ Rt_5
  clear B5 Rx_5 cx_5_0 cx_5_1 cx_5_2 cx_5_3 cx_5_4 cx_5_5 cx_5_6 cx_5_7 cx_5_8 cx_5_9 cx_5_10 Rt_5 ct_5_0 ct_5_1 ct_5_2 ct_5_3 ct_5_4 ct_5_5 ct_5_6 ct_5_7
  obtain ⟨cx_6_0, cx_6_1, cx_6_2, cx_6_3, cx_6_4, cx_6_5, cx_6_6, cx_6_7, cx_6_8, cx_6_9, cx_6_10⟩ := inC_cells Rx_6
  obtain ⟨ct_6_0, ct_6_1, ct_6_2, ct_6_3, ct_6_4, ct_6_5, ct_6_6, ct_6_7⟩ := ndC_cells Rt_6
  obtain ⟨ch_6_0, ch_6_1, ch_6_2, ch_6_3, ch_6_4, ch_6_5⟩ := hsC_cells Rh_6
  go_wp2_with fail
  refine (P7.out _).mono ?_
  rintro r w7 ⟨rfl, b7⟩
  have B7 : Below w.heap.size w w7 := btr B6 b7
  have Rx_7 := heap_of b7 _ _ _ Rx_6
  have Rt_7 := heap_of b7 _ _ _ Rt_6
  have Rh_7 := heap_of b7 _ _ _ Rh_6
  clear b7 B6 Rx_6 cx_6_0 cx_6_1 cx_6_2 cx_6_3 cx_6_4 cx_6_5 cx_6_6 cx_6_7 cx_6_8 cx_6_9 cx_6_10 Rt_6 ct_6_0 ct_6_1 ct_6_2 ct_6_3 ct_6_4 ct_6_5 ct_6_6 ct_6_7 Rh_6 ch_6_0 ch_6_1 ch_6_2 ch_6_3 ch_6_4 ch_6_5
  obtain ⟨cx_7_0, cx_7_1, cx_7_2, cx_7_3, cx_7_4, cx_7_5, cx_7_6, cx_7_7, cx_7_8, cx_7_9, cx_7_10⟩ := inC_cells Rx_7
  obtain ⟨ct_7_0, ct_7_1, ct_7_2, ct_7_3, ct_7_4, ct_7_5, ct_7_6, ct_7_7⟩ := ndC_cells Rt_7
  obtain ⟨ch_7_0, ch_7_1, ch_7_2, ch_7_3, ch_7_4, ch_7_5⟩ := hsC_cells Rh_7
  go_wp2_with fail
  refine (PC.out _).mono ?_
  rintro r w8 ⟨rfl, b8⟩
  have B8 : Below w.heap.size w w8 := btr B7 b8
  have Rx_8 := heap_of b8 _ _ _ Rx_7
  have Rt_8 := heap_of b8 _ _ _ Rt_7
  have Rh_8 := heap_of b8 _ _ _ Rh_7
  clear b8 B7 Rx_7 cx_7_0 cx_7_1 cx_7_2 cx_7_3 cx_7_4 cx_7_5 cx_7_6 cx_7_7 cx_7_8 cx_7_9 cx_7_10 Rt_7 ct_7_0 ct_7_1 ct_7_2 ct_7_3 ct_7_4 ct_7_5 ct_7_6 ct_7_7 Rh_7 ch_7_0 ch_7_1 ch_7_2 ch_7_3 ch_7_4 ch_7_5
  obtain ⟨cx_8_0, cx_8_1, cx_8_2, cx_8_3, cx_8_4, cx_8_5, cx_8_6, cx_8_7, cx_8_8, cx_8_9, cx_8_10⟩ := inC_cells Rx_8
  obtain ⟨ct_8_0, ct_8_1, ct_8_2, ct_8_3, ct_8_4, ct_8_5, ct_8_6, ct_8_7⟩ := ndC_cells Rt_8
  obtain ⟨ch_8_0, ch_8_1, ch_8_2, ch_8_3, ch_8_4, ch_8_5⟩ := hsC_cells Rh_8
  go_wp2
  simp only [e1, e2]
  go_ret2
  exact ⟨rfl, B8⟩
set_option maxRecDepth 100000 in
set_option maxHeartbeats 8000000 in
theorem b26_enc_7 (x : In) (rr : Rw) (nn : ByteArray) (hw : IntKind.i64.wrap x.imm = x.imm) (hw2 : wrap64 x.imm = x.imm) (hvrs1 : wrap64 ((x.rs1 : Nat) : Int) = (x.rs1 : Nat)) (hvrd : wrap64 ((x.rd : Nat) : Int) = (x.rd : Nat)) (hn : decide (x.imm < 0) = false) (q1 : (((rr.lay : Nat) : Int) == 1) = false) (q2 : (((rr.lay : Nat) : Int) == 2) = false) (RM : Box (∀ w, Calls Tryd.prog 12 #[.agg (inC x)] w fun r w' => r = .returned (.bool true) ∧ Below w.heap.size w w')) (RO : Box (∀ w, Calls Tryd.prog 26 #[.int .u8 (x.op : Nat), .int .u8 (x.form : Nat), .int .u8 (x.frm : Nat), .int .u8 (x.kind : Nat)] w fun r w' => r = .returned (.tuple #[.agg (ndC rr nn), .int .i64 0]) ∧ Below w.heap.size w w')) (RF : Box (∀ w, Calls Tryd.prog 28 #[.int .u8 (rr.lay : Nat)] w fun r w' => r = .returned (.agg (hsC ⟨true, false, false, false, false, false⟩)) ∧ Below w.heap.size w w')) (V15 : Nat) (P15 : Box (∀ w, Calls Tryd.prog 27 #[.int .i64 15, .int .i64 5, .int .i64 (x.rs1 : Nat)] w fun r w' => r = .returned (.int .u32 (V15 : Nat)) ∧ Below w.heap.size w w')) (V7 : Nat) (P7 : Box (∀ w, Calls Tryd.prog 27 #[.int .i64 7, .int .i64 5, .int .i64 (x.rd : Nat)] w fun r w' => r = .returned (.int .u32 (V7 : Nat)) ∧ Below w.heap.size w w')) (S0 : Nat) (e0 : (((rr.mtch : Nat) : Int) + ((V15 : Nat) : Int)) % 4294967296 = (S0 : Nat)) (S1 : Nat) (e1 : (((S0 : Nat) : Int) + ((V7 : Nat) : Int)) % 4294967296 = (S1 : Nat)) (w : World) : Calls Tryd.prog 10 #[.agg (inC x)] w fun r w' => r = .returned (.tuple #[.int .u32 (S1 : Nat), .int .i64 0]) ∧ Below w.heap.size w w' := by
  have hxn := inC_fold x
  have hdn := ndC_new
  have hhn := hsC_new
  obtain ⟨Rx_0, B0⟩ := opn1 w (Obj.cells (inC x) 27)
  go_enter Tryd.func10, Tryd.ntmps10
  obtain ⟨cx_0_0, cx_0_1, cx_0_2, cx_0_3, cx_0_4, cx_0_5, cx_0_6, cx_0_7, cx_0_8, cx_0_9, cx_0_10⟩ := inC_cells Rx_0
  go_wp2_with fail
  refine (RM.out _).mono ?_
  rintro r w1 ⟨rfl, b1⟩
  have B1 : Below w.heap.size w w1 := btr B0 b1
  have Rx_1 := heap_of b1 _ _ _ Rx_0
  clear b1 B0 Rx_0 cx_0_0 cx_0_1 cx_0_2 cx_0_3 cx_0_4 cx_0_5 cx_0_6 cx_0_7 cx_0_8 cx_0_9 cx_0_10
  obtain ⟨cx_1_0, cx_1_1, cx_1_2, cx_1_3, cx_1_4, cx_1_5, cx_1_6, cx_1_7, cx_1_8, cx_1_9, cx_1_10⟩ := inC_cells Rx_1
  clear hxn
  go_wp2_with fail
  refine (RO.out _).mono ?_
  rintro r w2 ⟨rfl, b2⟩
  have B2 : Below w.heap.size w w2 := btr B1 b2
  have Rx_2 := heap_of b2 _ _ _ Rx_1
  clear b2 B1 Rx_1 cx_1_0 cx_1_1 cx_1_2 cx_1_3 cx_1_4 cx_1_5 cx_1_6 cx_1_7 cx_1_8 cx_1_9 cx_1_10
  obtain ⟨cx_2_0, cx_2_1, cx_2_2, cx_2_3, cx_2_4, cx_2_5, cx_2_6, cx_2_7, cx_2_8, cx_2_9, cx_2_10⟩ := inC_cells Rx_2
  have S3 := box B2.size
  have Lx_3 : Box (w.heap.size < w2.heap.size) := box (Array.getElem?_eq_some_iff.1 Rx_2).1
  have Rt_3 := heap_alloc_last w2 (Obj.cells (ndC rr nn) 47)
  have B3 := btr B2 (bal w2 (Obj.cells (ndC rr nn) 47))
  have Rx_3 := heap_of (bal w2 (Obj.cells (ndC rr nn) 47)) _ _ _ Rx_2
  clear B2 Rx_2 cx_2_0 cx_2_1 cx_2_2 cx_2_3 cx_2_4 cx_2_5 cx_2_6 cx_2_7 cx_2_8 cx_2_9 cx_2_10
  obtain ⟨cx_3_0, cx_3_1, cx_3_2, cx_3_3, cx_3_4, cx_3_5, cx_3_6, cx_3_7, cx_3_8, cx_3_9, cx_3_10⟩ := inC_cells Rx_3
  obtain ⟨ct_3_0, ct_3_1, ct_3_2, ct_3_3, ct_3_4, ct_3_5, ct_3_6, ct_3_7⟩ := ndC_cells Rt_3
  go_wp2_with fail
  obtain ⟨F, hF1, hF2⟩ := below_fun (w2.alloc (Obj.cells (ndC rr nn) 47))
  have fx_0 := fun u => (inC_cells (heap_of (hF1 u) _ _ _ Rx_3)).1
  have fx_1 := fun u => (inC_cells (heap_of (hF1 u) _ _ _ Rx_3)).2.1
  have fx_2 := fun u => (inC_cells (heap_of (hF1 u) _ _ _ Rx_3)).2.2.1
  have fx_3 := fun u => (inC_cells (heap_of (hF1 u) _ _ _ Rx_3)).2.2.2.1
  have fx_4 := fun u => (inC_cells (heap_of (hF1 u) _ _ _ Rx_3)).2.2.2.2.1
  have fx_5 := fun u => (inC_cells (heap_of (hF1 u) _ _ _ Rx_3)).2.2.2.2.2.1
  have fx_6 := fun u => (inC_cells (heap_of (hF1 u) _ _ _ Rx_3)).2.2.2.2.2.2.1
  have fx_7 := fun u => (inC_cells (heap_of (hF1 u) _ _ _ Rx_3)).2.2.2.2.2.2.2.1
  have fx_8 := fun u => (inC_cells (heap_of (hF1 u) _ _ _ Rx_3)).2.2.2.2.2.2.2.2.1
  have fx_9 := fun u => (inC_cells (heap_of (hF1 u) _ _ _ Rx_3)).2.2.2.2.2.2.2.2.2.1
  have fx_10 := fun u => (inC_cells (heap_of (hF1 u) _ _ _ Rx_3)).2.2.2.2.2.2.2.2.2.2
  have ft_0 := fun u => (ndC_cells (heap_of (hF1 u) _ _ _ Rt_3)).1
  have ft_1 := fun u => (ndC_cells (heap_of (hF1 u) _ _ _ Rt_3)).2.1
  have ft_2 := fun u => (ndC_cells (heap_of (hF1 u) _ _ _ Rt_3)).2.2.1
  have ft_3 := fun u => (ndC_cells (heap_of (hF1 u) _ _ _ Rt_3)).2.2.2.1
  have ft_4 := fun u => (ndC_cells (heap_of (hF1 u) _ _ _ Rt_3)).2.2.2.2.1
  have ft_5 := fun u => (ndC_cells (heap_of (hF1 u) _ _ _ Rt_3)).2.2.2.2.2.1
  have ft_6 := fun u => (ndC_cells (heap_of (hF1 u) _ _ _ Rt_3)).2.2.2.2.2.2.1
  have ft_7 := fun u => (ndC_cells (heap_of (hF1 u) _ _ _ Rt_3)).2.2.2.2.2.2.2
  refine wp_region_below F hF2 (by kernel_rfl) (by kernel_rfl) ?_
  repeat first | go_big_quiet_step (first | (go_at_call 27; exact quietF hF1 hF2 (P15.out _)) | fail) | quiet_step (first | (go_at_call 27; exact quietF hF1 hF2 (P15.out _)) | fail)
  refine wpQuiet_nil ?_
  rintro _ ⟨uW, rfl⟩
  have B4 := btr B3 (hF1 uW)
  have Rx_4 := heap_of (hF1 uW) _ _ _ Rx_3
  have Rt_4 := heap_of (hF1 uW) _ _ _ Rt_3
  obtain ⟨w4, hw⟩ : ∃ V, F uW = V := ⟨_, rfl⟩
  rw [hw] at B4 Rx_4 Rt_4
  try rw [hw]
  clear hw hF1 hF2 B3 fx_0 fx_1 fx_2 fx_3 fx_4 fx_5 fx_6 fx_7 fx_8 fx_9 fx_10 ft_0 ft_1 ft_2 ft_3 ft_4 ft_5 ft_6 ft_7 Rx_3 cx_3_0 cx_3_1 cx_3_2 cx_3_3 cx_3_4 cx_3_5 cx_3_6 cx_3_7 cx_3_8 cx_3_9 cx_3_10 Rt_3 ct_3_0 ct_3_1 ct_3_2 ct_3_3 ct_3_4 ct_3_5 ct_3_6 ct_3_7
  clear F
  obtain ⟨cx_4_0, cx_4_1, cx_4_2, cx_4_3, cx_4_4, cx_4_5, cx_4_6, cx_4_7, cx_4_8, cx_4_9, cx_4_10⟩ := inC_cells Rx_4
  obtain ⟨ct_4_0, ct_4_1, ct_4_2, ct_4_3, ct_4_4, ct_4_5, ct_4_6, ct_4_7⟩ := ndC_cells Rt_4
  go_wp2_with fail
  refine (RF.out _).mono ?_
  rintro r w5 ⟨rfl, b5⟩
  have B5 : Below w.heap.size w w5 := btr B4 b5
  have Rx_5 := heap_of b5 _ _ _ Rx_4
  have Rt_5 := heap_of b5 _ _ _ Rt_4
  clear b5 B4 Rx_4 cx_4_0 cx_4_1 cx_4_2 cx_4_3 cx_4_4 cx_4_5 cx_4_6 cx_4_7 cx_4_8 cx_4_9 cx_4_10 Rt_4 ct_4_0 ct_4_1 ct_4_2 ct_4_3 ct_4_4 ct_4_5 ct_4_6 ct_4_7
  obtain ⟨cx_5_0, cx_5_1, cx_5_2, cx_5_3, cx_5_4, cx_5_5, cx_5_6, cx_5_7, cx_5_8, cx_5_9, cx_5_10⟩ := inC_cells Rx_5
  obtain ⟨ct_5_0, ct_5_1, ct_5_2, ct_5_3, ct_5_4, ct_5_5, ct_5_6, ct_5_7⟩ := ndC_cells Rt_5
  have S6 := box B5.size
  have Lx_6 : Box (w.heap.size < w5.heap.size) := box (Array.getElem?_eq_some_iff.1 Rx_5).1
  have Lt_6 : Box (w2.heap.size < w5.heap.size) := box (Array.getElem?_eq_some_iff.1 Rt_5).1
  have Rh_6 := heap_alloc_last w5 (Obj.cells (hsC ⟨true, false, false, false, false, false⟩) 71)
  have B6 := btr B5 (bal w5 (Obj.cells (hsC ⟨true, false, false, false, false, false⟩) 71))
  have Rx_6 := heap_of (bal w5 (Obj.cells (hsC ⟨true, false, false, false, false, false⟩) 71)) _ _ _ Rx_5
  have Rt_6 := heap_of (bal w5 (Obj.cells (hsC ⟨true, false, false, false, false, false⟩) 71)) _ _ _ Rt_5
  clear B5 Rx_5 cx_5_0 cx_5_1 cx_5_2 cx_5_3 cx_5_4 cx_5_5 cx_5_6 cx_5_7 cx_5_8 cx_5_9 cx_5_10 Rt_5 ct_5_0 ct_5_1 ct_5_2 ct_5_3 ct_5_4 ct_5_5 ct_5_6 ct_5_7
  obtain ⟨cx_6_0, cx_6_1, cx_6_2, cx_6_3, cx_6_4, cx_6_5, cx_6_6, cx_6_7, cx_6_8, cx_6_9, cx_6_10⟩ := inC_cells Rx_6
  obtain ⟨ct_6_0, ct_6_1, ct_6_2, ct_6_3, ct_6_4, ct_6_5, ct_6_6, ct_6_7⟩ := ndC_cells Rt_6
  obtain ⟨ch_6_0, ch_6_1, ch_6_2, ch_6_3, ch_6_4, ch_6_5⟩ := hsC_cells Rh_6
  go_wp2_with fail
  refine (P7.out _).mono ?_
  rintro r w7 ⟨rfl, b7⟩
  have B7 : Below w.heap.size w w7 := btr B6 b7
  have Rx_7 := heap_of b7 _ _ _ Rx_6
  have Rt_7 := heap_of b7 _ _ _ Rt_6
  have Rh_7 := heap_of b7 _ _ _ Rh_6
  clear b7 B6 Rx_6 cx_6_0 cx_6_1 cx_6_2 cx_6_3 cx_6_4 cx_6_5 cx_6_6 cx_6_7 cx_6_8 cx_6_9 cx_6_10 Rt_6 ct_6_0 ct_6_1 ct_6_2 ct_6_3 ct_6_4 ct_6_5 ct_6_6 ct_6_7 Rh_6 ch_6_0 ch_6_1 ch_6_2 ch_6_3 ch_6_4 ch_6_5
  obtain ⟨cx_7_0, cx_7_1, cx_7_2, cx_7_3, cx_7_4, cx_7_5, cx_7_6, cx_7_7, cx_7_8, cx_7_9, cx_7_10⟩ := inC_cells Rx_7
  obtain ⟨ct_7_0, ct_7_1, ct_7_2, ct_7_3, ct_7_4, ct_7_5, ct_7_6, ct_7_7⟩ := ndC_cells Rt_7
  obtain ⟨ch_7_0, ch_7_1, ch_7_2, ch_7_3, ch_7_4, ch_7_5⟩ := hsC_cells Rh_7
  go_wp2
  simp only [e1]
  go_ret2
  exact ⟨rfl, B7⟩
end Go.Proofs.YtaoccmopfflkmaaDoor
