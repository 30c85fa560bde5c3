/-
  What the functions that the statement reaches return: part 6 (BC5).
-/
import Derived.Test.YtaoccmopfflkmaaDoorOa05
namespace Go.Proofs.YtaoccmopfflkmaaDoor
set_option maxRecDepth 100000
set_option maxHeartbeats 40000000
set_option maxRecDepth 100000
open Go.RowKit WMath
set_option linter.unusedSimpArgs false
set_option linter.unusedVariables false
set_option maxRecDepth 100000 in
set_option maxHeartbeats 8000000 in
theorem b24_load2 (l : Ln) (fr kd : Nat) (r1 r2 : Rw) (nm zt n1 : ByteArray) (hnm : (⟨l.nm.toArray⟩ : ByteArray) = nm) (hc1 : nm ++ zt = n1) (hq1 : ¬ 9223372036854775807 < nm.size + zt.size) (h3 : decide (0 ≤ l.rs3) = false) (hz : l.szs = true) (hn : l.nof = false) (hfr : l.frm = false) (ho21 : (((l.op : Nat) : Int) == 21) = false) (ho22 : (((l.op : Nat) : Int) == 22) = false) (ho23 : (((l.op : Nat) : Int) == 23) = false) (ho25 : (((l.op : Nat) : Int) == 25) = false) (hr2 : decide (0 ≤ l.rs2) = false) (w : World) (K0 : Box (∀ w, Calls Tryd.prog 44 #[.agg #[.int .u8 (l.op : Nat), .int .u8 2, .int .u8 (fr : Nat), .int .u8 (kd : Nat), .int .u32 0, .int .u32 0, .int .u8 (l.lay : Nat)], .int .i64 0, .int .i64 7, .int .i64 (l.opc : Nat)] w fun r w' => r = .returned (.agg (rwC r1)) ∧ Below w.heap.size w w')) (Kzt : Box (∀ w, Calls Tryd.prog 45 #[.int .u8 2] w fun r w' => r = .returned (.string zt) ∧ Below w.heap.size w w')) (K1 : Box (∀ w, Calls Tryd.prog 44 #[.agg (rwC r1), .int .i64 12, .int .i64 3, .int .i64 1] w fun r w' => r = .returned (.agg (rwC r2)) ∧ Below w.heap.size w w')) : Calls Tryd.prog 32 #[.agg (lnC l), .int .u8 2, .int .u8 (fr : Nat), .int .u8 (kd : Nat)] w fun r w' => r = .returned (.agg (ndC r2 n1)) ∧ Below w.heap.size w w' := by
  have hrf := rwC_fold
  have hsn := rwC_new
  obtain ⟨Rl_0, Rz_0, B0⟩ := opn2 w (Obj.cells (lnC l) 78) (Obj.cells #[.int .u8 0, .int .u8 0, .int .u8 0, .int .u8 0, .int .u32 0, .int .u32 0, .int .u8 0, .string ⟨#[]⟩] 47)
  go_enter Tryd.func32, Tryd.ntmps32
  obtain ⟨cl_0_0, cl_0_1, cl_0_2, cl_0_3, cl_0_4, cl_0_5, cl_0_6, cl_0_7, cl_0_8, cl_0_9, cl_0_10, cl_0_11⟩ := lnC_cells Rl_0
  go_wp2_with fail
  refine (K0.out _).mono ?_
  rintro r w1 ⟨rfl, b1⟩
  have B1 : Below w.heap.size w w1 := btr B0 b1
  have Rl_1 := heap_of b1 _ _ _ Rl_0
  have Rz_1 := heap_of b1 _ _ _ Rz_0
  clear b1 B0 Rl_0 cl_0_0 cl_0_1 cl_0_2 cl_0_3 cl_0_4 cl_0_5 cl_0_6 cl_0_7 cl_0_8 cl_0_9 cl_0_10 cl_0_11 Rz_0
  obtain ⟨cl_1_0, cl_1_1, cl_1_2, cl_1_3, cl_1_4, cl_1_5, cl_1_6, cl_1_7, cl_1_8, cl_1_9, cl_1_10, cl_1_11⟩ := lnC_cells Rl_1
  have S2 := box B1.size
  have Ll_2 : Box (w.heap.size < w1.heap.size) := box (Array.getElem?_eq_some_iff.1 Rl_1).1
  have Lz_2 : Box (w.heap.size + 1 < w1.heap.size) := box (Array.getElem?_eq_some_iff.1 Rz_1).1
  have Rr_2 := heap_alloc_last w1 (Obj.cells (rwC r1) 45)
  have B2 := btr B1 (bal w1 (Obj.cells (rwC r1) 45))
  have Rl_2 := heap_of (bal w1 (Obj.cells (rwC r1) 45)) _ _ _ Rl_1
  have Rz_2 := heap_of (bal w1 (Obj.cells (rwC r1) 45)) _ _ _ Rz_1
  clear B1 Rl_1 cl_1_0 cl_1_1 cl_1_2 cl_1_3 cl_1_4 cl_1_5 cl_1_6 cl_1_7 cl_1_8 cl_1_9 cl_1_10 cl_1_11 Rz_1
  obtain ⟨cl_2_0, cl_2_1, cl_2_2, cl_2_3, cl_2_4, cl_2_5, cl_2_6, cl_2_7, cl_2_8, cl_2_9, cl_2_10, cl_2_11⟩ := lnC_cells Rl_2
  obtain ⟨cr_2_0, cr_2_1, cr_2_2, cr_2_3, cr_2_4, cr_2_5, cr_2_6⟩ := rwC_cells Rr_2
  have kk0 := cl_2_0
  have kk1 := cl_2_1
  have kk2 := cl_2_2
  have kk3 := cl_2_3
  have kk4 := cl_2_4
  have kk5 := cl_2_5
  have kk6 := cl_2_6
  have kk7 := cl_2_7
  have kk8 := cl_2_8
  have kk9 := cl_2_9
  have kk10 := cl_2_10
  have kk11 := cl_2_11
  have S3 := box B2.size
  have Ll_3 : Box (w.heap.size < (w1.alloc (Obj.cells (rwC r1) 45)).heap.size) := box (Array.getElem?_eq_some_iff.1 Rl_2).1
  have Lz_3 : Box (w.heap.size + 1 < (w1.alloc (Obj.cells (rwC r1) 45)).heap.size) := box (Array.getElem?_eq_some_iff.1 Rz_2).1
  have Lr_3 : Box (w1.heap.size < (w1.alloc (Obj.cells (rwC r1) 45)).heap.size) := box (Array.getElem?_eq_some_iff.1 Rr_2).1
  have Z3 := box (size_al w1 (Obj.cells (rwC r1) 45))
  have Rq_3 : ((w1.alloc (Obj.cells (rwC r1) 45)).alloc (Obj.cells #[.int .i64 2, .int .i64 3, .int .i64 1, .int .i64 4] 3)).heap[w1.heap.size + 1]? = some (Obj.cells #[.int .i64 2, .int .i64 3, .int .i64 1, .int .i64 4] 3) := by have := heap_alloc_last (w1.alloc (Obj.cells (rwC r1) 45)) (Obj.cells #[.int .i64 2, .int .i64 3, .int .i64 1, .int .i64 4] 3); simpa only [size_al] using this
  have B3 := btr B2 (bal (w1.alloc (Obj.cells (rwC r1) 45)) (Obj.cells #[.int .i64 2, .int .i64 3, .int .i64 1, .int .i64 4] 3))
  have Rl_3 := heap_of (bal (w1.alloc (Obj.cells (rwC r1) 45)) (Obj.cells #[.int .i64 2, .int .i64 3, .int .i64 1, .int .i64 4] 3)) _ _ _ Rl_2
  have Rz_3 := heap_of (bal (w1.alloc (Obj.cells (rwC r1) 45)) (Obj.cells #[.int .i64 2, .int .i64 3, .int .i64 1, .int .i64 4] 3)) _ _ _ Rz_2
  have Rr_3 := heap_of (bal (w1.alloc (Obj.cells (rwC r1) 45)) (Obj.cells #[.int .i64 2, .int .i64 3, .int .i64 1, .int .i64 4] 3)) _ _ _ Rr_2
  clear B2 Rl_2 cl_2_0 cl_2_1 cl_2_2 cl_2_3 cl_2_4 cl_2_5 cl_2_6 cl_2_7 cl_2_8 cl_2_9 cl_2_10 cl_2_11 Rz_2 Rr_2 cr_2_0 cr_2_1 cr_2_2 cr_2_3 cr_2_4 cr_2_5 cr_2_6
  obtain ⟨cl_3_0, cl_3_1, cl_3_2, cl_3_3, cl_3_4, cl_3_5, cl_3_6, cl_3_7, cl_3_8, cl_3_9, cl_3_10, cl_3_11⟩ := lnC_cells Rl_3
  obtain ⟨cr_3_0, cr_3_1, cr_3_2, cr_3_3, cr_3_4, cr_3_5, cr_3_6⟩ := rwC_cells Rr_3
  obtain ⟨cq_3_0, cq_3_1, cq_3_2, cq_3_3⟩ := cells4s Rq_3
  go_wp2_with fail
  refine (Kzt.out _).mono ?_
  rintro r w4 ⟨rfl, b4⟩
  have B4 : Below w.heap.size w w4 := btr B3 b4
  have Rl_4 := heap_of b4 _ _ _ Rl_3
  have Rz_4 := heap_of b4 _ _ _ Rz_3
  have Rr_4 := heap_of b4 _ _ _ Rr_3
  have Rq_4 := heap_of b4 _ _ _ Rq_3
  clear b4 B3 Rl_3 cl_3_0 cl_3_1 cl_3_2 cl_3_3 cl_3_4 cl_3_5 cl_3_6 cl_3_7 cl_3_8 cl_3_9 cl_3_10 cl_3_11 Rz_3 Rr_3 cr_3_0 cr_3_1 cr_3_2 cr_3_3 cr_3_4 cr_3_5 cr_3_6 Rq_3 cq_3_0 cq_3_1 cq_3_2 cq_3_3
  obtain ⟨cl_4_0, cl_4_1, cl_4_2, cl_4_3, cl_4_4, cl_4_5, cl_4_6, cl_4_7, cl_4_8, cl_4_9, cl_4_10, cl_4_11⟩ := lnC_cells Rl_4
  obtain ⟨cr_4_0, cr_4_1, cr_4_2, cr_4_3, cr_4_4, cr_4_5, cr_4_6⟩ := rwC_cells Rr_4
  obtain ⟨cq_4_0, cq_4_1, cq_4_2, cq_4_3⟩ := cells4s Rq_4
  go_wp2_with fail
  refine (K1.out _).mono ?_
  rintro r w5 ⟨rfl, b5⟩
  have B5 : Below w.heap.size w w5 := btr B4 b5
  have Rl_5 := heap_of b5 _ _ _ Rl_4
  have Rz_5 := heap_of b5 _ _ _ Rz_4
  have Rr_5 := heap_of b5 _ _ _ Rr_4
  have Rq_5 := heap_of b5 _ _ _ Rq_4
  clear b5 B4 Rl_4 cl_4_0 cl_4_1 cl_4_2 cl_4_3 cl_4_4 cl_4_5 cl_4_6 cl_4_7 cl_4_8 cl_4_9 cl_4_10 cl_4_11 Rz_4 Rr_4 cr_4_0 cr_4_1 cr_4_2 cr_4_3 cr_4_4 cr_4_5 cr_4_6 Rq_4 cq_4_0 cq_4_1 cq_4_2 cq_4_3
  obtain ⟨cl_5_0, cl_5_1, cl_5_2, cl_5_3, cl_5_4, cl_5_5, cl_5_6, cl_5_7, cl_5_8, cl_5_9, cl_5_10, cl_5_11⟩ := lnC_cells Rl_5
  obtain ⟨cr_5_0, cr_5_1, cr_5_2, cr_5_3, cr_5_4, cr_5_5, cr_5_6⟩ := rwC_cells Rr_5
  obtain ⟨cq_5_0, cq_5_1, cq_5_2, cq_5_3⟩ := cells4s Rq_5
  have hst6 := rwC_store (r := r2) Rr_5
  have B6 : Below w.heap.size w (w5.setRow (w1.heap.size) (rwC r2)) := Below.setRow B5 (show w.heap.size ≤ w1.heap.size by first | exact Nat.le_refl _ | omega | (have := S2.out; have := Ll_2.out; have := Lz_2.out; have := Z3.out; have := S3.out; have := Ll_3.out; have := Lz_3.out; have := Lr_3.out; omega))
  have Rr_6 : (w5.setRow (w1.heap.size) (rwC r2)).heap[w1.heap.size]? = some (Obj.cells (rwC r2) 45) := setRow_row Rr_5
  have Rl_6 : (w5.setRow (w1.heap.size) (rwC r2)).heap[w.heap.size]? = some (Obj.cells (lnC l) 78) := (setRow_other (by first | omega | (have := S2.out; have := Ll_2.out; have := Lz_2.out; have := Z3.out; have := S3.out; have := Ll_3.out; have := Lz_3.out; have := Lr_3.out; omega))).trans Rl_5
  have Rz_6 : (w5.setRow (w1.heap.size) (rwC r2)).heap[w.heap.size + 1]? = some (Obj.cells #[.int .u8 0, .int .u8 0, .int .u8 0, .int .u8 0, .int .u32 0, .int .u32 0, .int .u8 0, .string ⟨#[]⟩] 47) := (setRow_other (by first | omega | (have := S2.out; have := Ll_2.out; have := Lz_2.out; have := Z3.out; have := S3.out; have := Ll_3.out; have := Lz_3.out; have := Lr_3.out; omega))).trans Rz_5
  have Rq_6 : (w5.setRow (w1.heap.size) (rwC r2)).heap[w1.heap.size + 1]? = some (Obj.cells #[.int .i64 2, .int .i64 3, .int .i64 1, .int .i64 4] 3) := (setRow_other (by first | omega | (have := S2.out; have := Ll_2.out; have := Lz_2.out; have := Z3.out; have := S3.out; have := Ll_3.out; have := Lz_3.out; have := Lr_3.out; omega))).trans Rq_5
  obtain ⟨w6, hw6⟩ : ∃ V, (w5.setRow (w1.heap.size) (rwC r2)) = V := ⟨_, rfl⟩
  rw [hw6] at hst6 B6 Rl_6 Rz_6 Rr_6 Rq_6
  clear hw6
  obtain ⟨cl_6_0, cl_6_1, cl_6_2, cl_6_3, cl_6_4, cl_6_5, cl_6_6, cl_6_7, cl_6_8, cl_6_9, cl_6_10, cl_6_11⟩ := lnC_cells Rl_6
  obtain ⟨cr_6_0, cr_6_1, cr_6_2, cr_6_3, cr_6_4, cr_6_5, cr_6_6⟩ := rwC_cells Rr_6
  obtain ⟨cq_6_0, cq_6_1, cq_6_2, cq_6_3⟩ := cells4s Rq_6
  clear hrf
  have hnf := ndC_fold r2 n1
  have hst := ndC_store (r := r2) (s := n1) Rz_6 rfl
  have rz := setRow_row (c' := ndC r2 n1) Rz_6
  have bz : Below w.heap.size w (w6.setRow (w.heap.size + 1) (ndC r2 n1)) := Below.setRow B6 (show w.heap.size ≤ w.heap.size + 1 by first | exact Nat.le_refl _ | omega | (have := S2.out; have := Ll_2.out; have := Lz_2.out; have := Z3.out; have := S3.out; have := Ll_3.out; have := Lz_3.out; have := Lr_3.out; omega))
  obtain ⟨wz, hwz⟩ : ∃ V, w6.setRow (w.heap.size + 1) (ndC r2 n1) = V := ⟨_, rfl⟩
  rw [hwz] at hst rz bz
  clear hwz
  go_wp2
  exact bodyPost_ret (v := .agg (ndC r2 n1)) (res_nd Tryd.results32 rfl rz) rfl ⟨rfl, bz⟩
set_option maxRecDepth 100000 in
set_option maxHeartbeats 8000000 in
theorem b24_load3 (l : Ln) (fr kd : Nat) (r1 r2 : Rw) (nm zt n1 : ByteArray) (hnm : (⟨l.nm.toArray⟩ : ByteArray) = nm) (hc1 : nm ++ zt = n1) (hq1 : ¬ 9223372036854775807 < nm.size + zt.size) (h3 : decide (0 ≤ l.rs3) = false) (hz : l.szs = true) (hn : l.nof = false) (hfr : l.frm = false) (ho21 : (((l.op : Nat) : Int) == 21) = false) (ho22 : (((l.op : Nat) : Int) == 22) = false) (ho23 : (((l.op : Nat) : Int) == 23) = false) (ho25 : (((l.op : Nat) : Int) == 25) = false) (hr2 : decide (0 ≤ l.rs2) = false) (w : World) (K0 : Box (∀ w, Calls Tryd.prog 44 #[.agg #[.int .u8 (l.op : Nat), .int .u8 3, .int .u8 (fr : Nat), .int .u8 (kd : Nat), .int .u32 0, .int .u32 0, .int .u8 (l.lay : Nat)], .int .i64 0, .int .i64 7, .int .i64 (l.opc : Nat)] w fun r w' => r = .returned (.agg (rwC r1)) ∧ Below w.heap.size w w')) (Kzt : Box (∀ w, Calls Tryd.prog 45 #[.int .u8 3] w fun r w' => r = .returned (.string zt) ∧ Below w.heap.size w w')) (K1 : Box (∀ w, Calls Tryd.prog 44 #[.agg (rwC r1), .int .i64 12, .int .i64 3, .int .i64 4] w fun r w' => r = .returned (.agg (rwC r2)) ∧ Below w.heap.size w w')) : Calls Tryd.prog 32 #[.agg (lnC l), .int .u8 3, .int .u8 (fr : Nat), .int .u8 (kd : Nat)] w fun r w' => r = .returned (.agg (ndC r2 n1)) ∧ Below w.heap.size w w' := by
  have hrf := rwC_fold
  have hsn := rwC_new
  obtain ⟨Rl_0, Rz_0, B0⟩ := opn2 w (Obj.cells (lnC l) 78) (Obj.cells #[.int .u8 0, .int .u8 0, .int .u8 0, .int .u8 0, .int .u32 0, .int .u32 0, .int .u8 0, .string ⟨#[]⟩] 47)
  go_enter Tryd.func32, Tryd.ntmps32
  obtain ⟨cl_0_0, cl_0_1, cl_0_2, cl_0_3, cl_0_4, cl_0_5, cl_0_6, cl_0_7, cl_0_8, cl_0_9, cl_0_10, cl_0_11⟩ := lnC_cells Rl_0
  go_wp2_with fail
  refine (K0.out _).mono ?_
  rintro r w1 ⟨rfl, b1⟩
  have B1 : Below w.heap.size w w1 := btr B0 b1
  have Rl_1 := heap_of b1 _ _ _ Rl_0
  have Rz_1 := heap_of b1 _ _ _ Rz_0
  clear b1 B0 Rl_0 cl_0_0 cl_0_1 cl_0_2 cl_0_3 cl_0_4 cl_0_5 cl_0_6 cl_0_7 cl_0_8 cl_0_9 cl_0_10 cl_0_11 Rz_0
  obtain ⟨cl_1_0, cl_1_1, cl_1_2, cl_1_3, cl_1_4, cl_1_5, cl_1_6, cl_1_7, cl_1_8, cl_1_9, cl_1_10, cl_1_11⟩ := lnC_cells Rl_1
  have S2 := box B1.size
  have Ll_2 : Box (w.heap.size < w1.heap.size) := box (Array.getElem?_eq_some_iff.1 Rl_1).1
  have Lz_2 : Box (w.heap.size + 1 < w1.heap.size) := box (Array.getElem?_eq_some_iff.1 Rz_1).1
  have Rr_2 := heap_alloc_last w1 (Obj.cells (rwC r1) 45)
  have B2 := btr B1 (bal w1 (Obj.cells (rwC r1) 45))
  have Rl_2 := heap_of (bal w1 (Obj.cells (rwC r1) 45)) _ _ _ Rl_1
  have Rz_2 := heap_of (bal w1 (Obj.cells (rwC r1) 45)) _ _ _ Rz_1
  clear B1 Rl_1 cl_1_0 cl_1_1 cl_1_2 cl_1_3 cl_1_4 cl_1_5 cl_1_6 cl_1_7 cl_1_8 cl_1_9 cl_1_10 cl_1_11 Rz_1
  obtain ⟨cl_2_0, cl_2_1, cl_2_2, cl_2_3, cl_2_4, cl_2_5, cl_2_6, cl_2_7, cl_2_8, cl_2_9, cl_2_10, cl_2_11⟩ := lnC_cells Rl_2
  obtain ⟨cr_2_0, cr_2_1, cr_2_2, cr_2_3, cr_2_4, cr_2_5, cr_2_6⟩ := rwC_cells Rr_2
  have kk0 := cl_2_0
  have kk1 := cl_2_1
  have kk2 := cl_2_2
  have kk3 := cl_2_3
  have kk4 := cl_2_4
  have kk5 := cl_2_5
  have kk6 := cl_2_6
  have kk7 := cl_2_7
  have kk8 := cl_2_8
  have kk9 := cl_2_9
  have kk10 := cl_2_10
  have kk11 := cl_2_11
  have S3 := box B2.size
  have Ll_3 : Box (w.heap.size < (w1.alloc (Obj.cells (rwC r1) 45)).heap.size) := box (Array.getElem?_eq_some_iff.1 Rl_2).1
  have Lz_3 : Box (w.heap.size + 1 < (w1.alloc (Obj.cells (rwC r1) 45)).heap.size) := box (Array.getElem?_eq_some_iff.1 Rz_2).1
  have Lr_3 : Box (w1.heap.size < (w1.alloc (Obj.cells (rwC r1) 45)).heap.size) := box (Array.getElem?_eq_some_iff.1 Rr_2).1
  have Z3 := box (size_al w1 (Obj.cells (rwC r1) 45))
  have Rq_3 : ((w1.alloc (Obj.cells (rwC r1) 45)).alloc (Obj.cells #[.int .i64 2, .int .i64 3, .int .i64 1, .int .i64 4] 3)).heap[w1.heap.size + 1]? = some (Obj.cells #[.int .i64 2, .int .i64 3, .int .i64 1, .int .i64 4] 3) := by have := heap_alloc_last (w1.alloc (Obj.cells (rwC r1) 45)) (Obj.cells #[.int .i64 2, .int .i64 3, .int .i64 1, .int .i64 4] 3); simpa only [size_al] using this
  have B3 := btr B2 (bal (w1.alloc (Obj.cells (rwC r1) 45)) (Obj.cells #[.int .i64 2, .int .i64 3, .int .i64 1, .int .i64 4] 3))
  have Rl_3 := heap_of (bal (w1.alloc (Obj.cells (rwC r1) 45)) (Obj.cells #[.int .i64 2, .int .i64 3, .int .i64 1, .int .i64 4] 3)) _ _ _ Rl_2
  have Rz_3 := heap_of (bal (w1.alloc (Obj.cells (rwC r1) 45)) (Obj.cells #[.int .i64 2, .int .i64 3, .int .i64 1, .int .i64 4] 3)) _ _ _ Rz_2
  have Rr_3 := heap_of (bal (w1.alloc (Obj.cells (rwC r1) 45)) (Obj.cells #[.int .i64 2, .int .i64 3, .int .i64 1, .int .i64 4] 3)) _ _ _ Rr_2
  clear B2 Rl_2 cl_2_0 cl_2_1 cl_2_2 cl_2_3 cl_2_4 cl_2_5 cl_2_6 cl_2_7 cl_2_8 cl_2_9 cl_2_10 cl_2_11 Rz_2 Rr_2 cr_2_0 cr_2_1 cr_2_2 cr_2_3 cr_2_4 cr_2_5 cr_2_6
  obtain ⟨cl_3_0, cl_3_1, cl_3_2, cl_3_3, cl_3_4, cl_3_5, cl_3_6, cl_3_7, cl_3_8, cl_3_9, cl_3_10, cl_3_11⟩ := lnC_cells Rl_3
  obtain ⟨cr_3_0, cr_3_1, cr_3_2, cr_3_3, cr_3_4, cr_3_5, cr_3_6⟩ := rwC_cells Rr_3
  obtain ⟨cq_3_0, cq_3_1, cq_3_2, cq_3_3⟩ := cells4s Rq_3
  go_wp2_with fail
  refine (Kzt.out _).mono ?_
  rintro r w4 ⟨rfl, b4⟩
  have B4 : Below w.heap.size w w4 := btr B3 b4
  have Rl_4 := heap_of b4 _ _ _ Rl_3
  have Rz_4 := heap_of b4 _ _ _ Rz_3
  have Rr_4 := heap_of b4 _ _ _ Rr_3
  have Rq_4 := heap_of b4 _ _ _ Rq_3
  clear b4 B3 Rl_3 cl_3_0 cl_3_1 cl_3_2 cl_3_3 cl_3_4 cl_3_5 cl_3_6 cl_3_7 cl_3_8 cl_3_9 cl_3_10 cl_3_11 Rz_3 Rr_3 cr_3_0 cr_3_1 cr_3_2 cr_3_3 cr_3_4 cr_3_5 cr_3_6 Rq_3 cq_3_0 cq_3_1 cq_3_2 cq_3_3
  obtain ⟨cl_4_0, cl_4_1, cl_4_2, cl_4_3, cl_4_4, cl_4_5, cl_4_6, cl_4_7, cl_4_8, cl_4_9, cl_4_10, cl_4_11⟩ := lnC_cells Rl_4
  obtain ⟨cr_4_0, cr_4_1, cr_4_2, cr_4_3, cr_4_4, cr_4_5, cr_4_6⟩ := rwC_cells Rr_4
  obtain ⟨cq_4_0, cq_4_1, cq_4_2, cq_4_3⟩ := cells4s Rq_4
  go_wp2_with fail
  refine (K1.out _).mono ?_
  rintro r w5 ⟨rfl, b5⟩
  have B5 : Below w.heap.size w w5 := btr B4 b5
  have Rl_5 := heap_of b5 _ _ _ Rl_4
  have Rz_5 := heap_of b5 _ _ _ Rz_4
  have Rr_5 := heap_of b5 _ _ _ Rr_4
  have Rq_5 := heap_of b5 _ _ _ Rq_4
  clear b5 B4 Rl_4 cl_4_0 cl_4_1 cl_4_2 cl_4_3 cl_4_4 cl_4_5 cl_4_6 cl_4_7 cl_4_8 cl_4_9 cl_4_10 cl_4_11 Rz_4 Rr_4 cr_4_0 cr_4_1 cr_4_2 cr_4_3 cr_4_4 cr_4_5 cr_4_6 Rq_4 cq_4_0 cq_4_1 cq_4_2 cq_4_3
  obtain ⟨cl_5_0, cl_5_1, cl_5_2, cl_5_3, cl_5_4, cl_5_5, cl_5_6, cl_5_7, cl_5_8, cl_5_9, cl_5_10, cl_5_11⟩ := lnC_cells Rl_5
  obtain ⟨cr_5_0, cr_5_1, cr_5_2, cr_5_3, cr_5_4, cr_5_5, cr_5_6⟩ := rwC_cells Rr_5
  obtain ⟨cq_5_0, cq_5_1, cq_5_2, cq_5_3⟩ := cells4s Rq_5
  have hst6 := rwC_store (r := r2) Rr_5
  have B6 : Below w.heap.size w (w5.setRow (w1.heap.size) (rwC r2)) := Below.setRow B5 (show w.heap.size ≤ w1.heap.size by first | exact Nat.le_refl _ | omega | (have := S2.out; have := Ll_2.out; have := Lz_2.out; have := Z3.out; have := S3.out; have := Ll_3.out; have := Lz_3.out; have := Lr_3.out; omega))
  have Rr_6 : (w5.setRow (w1.heap.size) (rwC r2)).heap[w1.heap.size]? = some (Obj.cells (rwC r2) 45) := setRow_row Rr_5
  have Rl_6 : (w5.setRow (w1.heap.size) (rwC r2)).heap[w.heap.size]? = some (Obj.cells (lnC l) 78) := (setRow_other (by first | omega | (have := S2.out; have := Ll_2.out; have := Lz_2.out; have := Z3.out; have := S3.out; have := Ll_3.out; have := Lz_3.out; have := Lr_3.out; omega))).trans Rl_5
  have Rz_6 : (w5.setRow (w1.heap.size) (rwC r2)).heap[w.heap.size + 1]? = some (Obj.cells #[.int .u8 0, .int .u8 0, .int .u8 0, .int .u8 0, .int .u32 0, .int .u32 0, .int .u8 0, .string ⟨#[]⟩] 47) := (setRow_other (by first | omega | (have := S2.out; have := Ll_2.out; have := Lz_2.out; have := Z3.out; have := S3.out; have := Ll_3.out; have := Lz_3.out; have := Lr_3.out; omega))).trans Rz_5
  have Rq_6 : (w5.setRow (w1.heap.size) (rwC r2)).heap[w1.heap.size + 1]? = some (Obj.cells #[.int .i64 2, .int .i64 3, .int .i64 1, .int .i64 4] 3) := (setRow_other (by first | omega | (have := S2.out; have := Ll_2.out; have := Lz_2.out; have := Z3.out; have := S3.out; have := Ll_3.out; have := Lz_3.out; have := Lr_3.out; omega))).trans Rq_5
  obtain ⟨w6, hw6⟩ : ∃ V, (w5.setRow (w1.heap.size) (rwC r2)) = V := ⟨_, rfl⟩
  rw [hw6] at hst6 B6 Rl_6 Rz_6 Rr_6 Rq_6
  clear hw6
  obtain ⟨cl_6_0, cl_6_1, cl_6_2, cl_6_3, cl_6_4, cl_6_5, cl_6_6, cl_6_7, cl_6_8, cl_6_9, cl_6_10, cl_6_11⟩ := lnC_cells Rl_6
  obtain ⟨cr_6_0, cr_6_1, cr_6_2, cr_6_3, cr_6_4, cr_6_5, cr_6_6⟩ := rwC_cells Rr_6
  obtain ⟨cq_6_0, cq_6_1, cq_6_2, cq_6_3⟩ := cells4s Rq_6
  clear hrf
  have hnf := ndC_fold r2 n1
  have hst := ndC_store (r := r2) (s := n1) Rz_6 rfl
  have rz := setRow_row (c' := ndC r2 n1) Rz_6
  have bz : Below w.heap.size w (w6.setRow (w.heap.size + 1) (ndC r2 n1)) := Below.setRow B6 (show w.heap.size ≤ w.heap.size + 1 by first | exact Nat.le_refl _ | omega | (have := S2.out; have := Ll_2.out; have := Lz_2.out; have := Z3.out; have := S3.out; have := Ll_3.out; have := Lz_3.out; have := Lr_3.out; omega))
  obtain ⟨wz, hwz⟩ : ∃ V, w6.setRow (w.heap.size + 1) (ndC r2 n1) = V := ⟨_, rfl⟩
  rw [hwz] at hst rz bz
  clear hwz
  go_wp2
  exact bodyPost_ret (v := .agg (ndC r2 n1)) (res_nd Tryd.results32 rfl rz) rfl ⟨rfl, bz⟩
end Go.Proofs.YtaoccmopfflkmaaDoor
