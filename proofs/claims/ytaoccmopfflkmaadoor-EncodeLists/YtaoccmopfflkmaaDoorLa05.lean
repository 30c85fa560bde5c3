/-
  What the functions that the statement reaches return: part 5 (BC3, BC4).
-/
import Derived.Test.YtaoccmopfflkmaaDoorLa04
namespace Go.Proofs.YtaoccmopfflkmaaDoor
set_option maxRecDepth 100000
set_option maxHeartbeats 40000000
set_option maxRecDepth 100000
open Go.RowKit WMath
set_option linter.unusedSimpArgs false
set_option linter.unusedVariables false
set_option maxRecDepth 100000 in
set_option maxHeartbeats 8000000 in
theorem b24_toword (l : Ln) (fo fr kd : Nat) (r1 r2 r3 r4 r5 : Rw) (nm n1 lt n2 : ByteArray) (hwf : IntKind.i64.wrap (fo : Int) = (fo : Int)) (hwr : IntKind.i64.wrap (fr : Int) = (fr : Int)) (hwk : IntKind.i64.wrap (kd : Int) = (kd : Int)) (hnm : (⟨l.nm.toArray⟩ : ByteArray) = nm) (hc1 : nm ++ ⟨#[46]⟩ = n1) (hq1 : ¬ 9223372036854775807 < nm.size + 1) (hc2 : n1 ++ lt = n2) (hq2 : ¬ 9223372036854775807 < n1.size + lt.size) (h3 : decide (0 ≤ l.rs3) = true) (hz : l.szs = false) (hn : l.nof = false) (hfr : l.frm = false) (ho21 : (((l.op : Nat) : Int) == 21) = false) (ho22 : (((l.op : Nat) : Int) == 22) = false) (ho23 : (((l.op : Nat) : Int) == 23) = true) (ho25 : (((l.op : Nat) : Int) == 25) = false) (hrm : decide (0 ≤ l.rm) = true) (hr2 : decide (0 ≤ l.rs2) = true) (w : World) (K0 : Box (∀ w, Calls Tryd.prog 44 #[.agg #[.int .u8 (l.op : Nat), .int .u8 (fo : Nat), .int .u8 (fr : Nat), .int .u8 (kd : Nat), .int .u32 0, .int .u32 0, .int .u8 (l.lay : Nat)], .int .i64 0, .int .i64 7, .int .i64 (l.opc : Nat)] w fun r w' => r = .returned (.agg (rwC r1)) ∧ Below w.heap.size w w')) (K1 : Box (∀ w, Calls Tryd.prog 44 #[.agg (rwC r1), .int .i64 27, .int .i64 5, .int .i64 l.rs3] w fun r w' => r = .returned (.agg (rwC r2)) ∧ Below w.heap.size w w')) (K2 : Box (∀ w, Calls Tryd.prog 44 #[.agg (rwC r2), .int .i64 25, .int .i64 2, .int .i64 (fo : Nat)] w fun r w' => r = .returned (.agg (rwC r3)) ∧ Below w.heap.size w w')) (Klt : Box (∀ w, Calls Tryd.prog 45 #[.int .u8 (fo : Nat)] w fun r w' => r = .returned (.string lt) ∧ Below w.heap.size w w')) (K3 : Box (∀ w, Calls Tryd.prog 44 #[.agg (rwC r3), .int .i64 12, .int .i64 3, .int .i64 l.rm] w fun r w' => r = .returned (.agg (rwC r4)) ∧ Below w.heap.size w w')) (K4 : Box (∀ w, Calls Tryd.prog 44 #[.agg (rwC r4), .int .i64 20, .int .i64 5, .int .i64 l.rs2] w fun r w' => r = .returned (.agg (rwC r5)) ∧ Below w.heap.size w w')) : Calls Tryd.prog 32 #[.agg (lnC l), .int .u8 (fo : Nat), .int .u8 (fr : Nat), .int .u8 (kd : Nat)] w fun r w' => r = .returned (.agg (ndC r5 n2)) ∧ Below w.heap.size w w' := by
  have hrf := rwC_fold
  have hsn := rwC_new
  obtain ⟨Rl_0, Rz_0, B0⟩ := opn2 w (Obj.cells (lnC l) 78) (Obj.cells #[.int .u8 0, .int .u8 0, .int .u8 0, .int .u8 0, .int .u32 0, .int .u32 0, .int .u8 0, .string ⟨#[]⟩] 47)
  go_enter Tryd.func32, Tryd.ntmps32
  obtain ⟨cl_0_0, cl_0_1, cl_0_2, cl_0_3, cl_0_4, cl_0_5, cl_0_6, cl_0_7, cl_0_8, cl_0_9, cl_0_10, cl_0_11⟩ := lnC_cells Rl_0
  go_wp2_with fail
  refine (K0.out _).mono ?_
  rintro r w1 ⟨rfl, b1⟩
  have B1 : Below w.heap.size w w1 := btr B0 b1
  have Rl_1 := heap_of b1 _ _ _ Rl_0
  have Rz_1 := heap_of b1 _ _ _ Rz_0
  clear b1 B0 Rl_0 cl_0_0 cl_0_1 cl_0_2 cl_0_3 cl_0_4 cl_0_5 cl_0_6 cl_0_7 cl_0_8 cl_0_9 cl_0_10 cl_0_11 Rz_0
  obtain ⟨cl_1_0, cl_1_1, cl_1_2, cl_1_3, cl_1_4, cl_1_5, cl_1_6, cl_1_7, cl_1_8, cl_1_9, cl_1_10, cl_1_11⟩ := lnC_cells Rl_1
  have S2 := box B1.size
  have Ll_2 : Box (w.heap.size < w1.heap.size) := box (Array.getElem?_eq_some_iff.1 Rl_1).1
  have Lz_2 : Box (w.heap.size + 1 < w1.heap.size) := box (Array.getElem?_eq_some_iff.1 Rz_1).1
  have Rr_2 := heap_alloc_last w1 (Obj.cells (rwC r1) 45)
  have B2 := btr B1 (bal w1 (Obj.cells (rwC r1) 45))
  have Rl_2 := heap_of (bal w1 (Obj.cells (rwC r1) 45)) _ _ _ Rl_1
  have Rz_2 := heap_of (bal w1 (Obj.cells (rwC r1) 45)) _ _ _ Rz_1
  clear B1 Rl_1 cl_1_0 cl_1_1 cl_1_2 cl_1_3 cl_1_4 cl_1_5 cl_1_6 cl_1_7 cl_1_8 cl_1_9 cl_1_10 cl_1_11 Rz_1
  obtain ⟨cl_2_0, cl_2_1, cl_2_2, cl_2_3, cl_2_4, cl_2_5, cl_2_6, cl_2_7, cl_2_8, cl_2_9, cl_2_10, cl_2_11⟩ := lnC_cells Rl_2
  obtain ⟨cr_2_0, cr_2_1, cr_2_2, cr_2_3, cr_2_4, cr_2_5, cr_2_6⟩ := rwC_cells Rr_2
  go_wp2_with fail
  refine (K1.out _).mono ?_
  rintro r w3 ⟨rfl, b3⟩
  have B3 : Below w.heap.size w w3 := btr B2 b3
  have Rl_3 := heap_of b3 _ _ _ Rl_2
  have Rz_3 := heap_of b3 _ _ _ Rz_2
  have Rr_3 := heap_of b3 _ _ _ Rr_2
  clear b3 B2 Rl_2 cl_2_0 cl_2_1 cl_2_2 cl_2_3 cl_2_4 cl_2_5 cl_2_6 cl_2_7 cl_2_8 cl_2_9 cl_2_10 cl_2_11 Rz_2 Rr_2 cr_2_0 cr_2_1 cr_2_2 cr_2_3 cr_2_4 cr_2_5 cr_2_6
  obtain ⟨cl_3_0, cl_3_1, cl_3_2, cl_3_3, cl_3_4, cl_3_5, cl_3_6, cl_3_7, cl_3_8, cl_3_9, cl_3_10, cl_3_11⟩ := lnC_cells Rl_3
  obtain ⟨cr_3_0, cr_3_1, cr_3_2, cr_3_3, cr_3_4, cr_3_5, cr_3_6⟩ := rwC_cells Rr_3
  have hst4 := rwC_store (r := r2) Rr_3
  have B4 : Below w.heap.size w (w3.setRow (w1.heap.size) (rwC r2)) := Below.setRow B3 (show w.heap.size ≤ w1.heap.size by first | exact Nat.le_refl _ | omega | (have := S2.out; have := Ll_2.out; have := Lz_2.out; omega))
  have Rr_4 : (w3.setRow (w1.heap.size) (rwC r2)).heap[w1.heap.size]? = some (Obj.cells (rwC r2) 45) := setRow_row Rr_3
  have Rl_4 : (w3.setRow (w1.heap.size) (rwC r2)).heap[w.heap.size]? = some (Obj.cells (lnC l) 78) := (setRow_other (by first | omega | (have := S2.out; have := Ll_2.out; have := Lz_2.out; omega))).trans Rl_3
  have Rz_4 : (w3.setRow (w1.heap.size) (rwC r2)).heap[w.heap.size + 1]? = some (Obj.cells #[.int .u8 0, .int .u8 0, .int .u8 0, .int .u8 0, .int .u32 0, .int .u32 0, .int .u8 0, .string ⟨#[]⟩] 47) := (setRow_other (by first | omega | (have := S2.out; have := Ll_2.out; have := Lz_2.out; omega))).trans Rz_3
  obtain ⟨w4, hw4⟩ : ∃ V, (w3.setRow (w1.heap.size) (rwC r2)) = V := ⟨_, rfl⟩
  rw [hw4] at hst4 B4 Rl_4 Rz_4 Rr_4
  clear hw4
  obtain ⟨cl_4_0, cl_4_1, cl_4_2, cl_4_3, cl_4_4, cl_4_5, cl_4_6, cl_4_7, cl_4_8, cl_4_9, cl_4_10, cl_4_11⟩ := lnC_cells Rl_4
  obtain ⟨cr_4_0, cr_4_1, cr_4_2, cr_4_3, cr_4_4, cr_4_5, cr_4_6⟩ := rwC_cells Rr_4
  go_wp2_with fail
  refine (K2.out _).mono ?_
  rintro r w5 ⟨rfl, b5⟩
  have B5 : Below w.heap.size w w5 := btr B4 b5
  have Rl_5 := heap_of b5 _ _ _ Rl_4
  have Rz_5 := heap_of b5 _ _ _ Rz_4
  have Rr_5 := heap_of b5 _ _ _ Rr_4
  clear b5 B4 Rl_4 cl_4_0 cl_4_1 cl_4_2 cl_4_3 cl_4_4 cl_4_5 cl_4_6 cl_4_7 cl_4_8 cl_4_9 cl_4_10 cl_4_11 Rz_4 Rr_4 cr_4_0 cr_4_1 cr_4_2 cr_4_3 cr_4_4 cr_4_5 cr_4_6
  obtain ⟨cl_5_0, cl_5_1, cl_5_2, cl_5_3, cl_5_4, cl_5_5, cl_5_6, cl_5_7, cl_5_8, cl_5_9, cl_5_10, cl_5_11⟩ := lnC_cells Rl_5
  obtain ⟨cr_5_0, cr_5_1, cr_5_2, cr_5_3, cr_5_4, cr_5_5, cr_5_6⟩ := rwC_cells Rr_5
  have hst6 := rwC_store (r := r3) Rr_5
  have B6 : Below w.heap.size w (w5.setRow (w1.heap.size) (rwC r3)) := Below.setRow B5 (show w.heap.size ≤ w1.heap.size by first | exact Nat.le_refl _ | omega | (have := S2.out; have := Ll_2.out; have := Lz_2.out; omega))
  have Rr_6 : (w5.setRow (w1.heap.size) (rwC r3)).heap[w1.heap.size]? = some (Obj.cells (rwC r3) 45) := setRow_row Rr_5
  have Rl_6 : (w5.setRow (w1.heap.size) (rwC r3)).heap[w.heap.size]? = some (Obj.cells (lnC l) 78) := (setRow_other (by first | omega | (have := S2.out; have := Ll_2.out; have := Lz_2.out; omega))).trans Rl_5
  have Rz_6 : (w5.setRow (w1.heap.size) (rwC r3)).heap[w.heap.size + 1]? = some (Obj.cells #[.int .u8 0, .int .u8 0, .int .u8 0, .int .u8 0, .int .u32 0, .int .u32 0, .int .u8 0, .string ⟨#[]⟩] 47) := (setRow_other (by first | omega | (have := S2.out; have := Ll_2.out; have := Lz_2.out; omega))).trans Rz_5
  obtain ⟨w6, hw6⟩ : ∃ V, (w5.setRow (w1.heap.size) (rwC r3)) = V := ⟨_, rfl⟩
  rw [hw6] at hst6 B6 Rl_6 Rz_6 Rr_6
  clear hw6
  obtain ⟨cl_6_0, cl_6_1, cl_6_2, cl_6_3, cl_6_4, cl_6_5, cl_6_6, cl_6_7, cl_6_8, cl_6_9, cl_6_10, cl_6_11⟩ := lnC_cells Rl_6
  obtain ⟨cr_6_0, cr_6_1, cr_6_2, cr_6_3, cr_6_4, cr_6_5, cr_6_6⟩ := rwC_cells Rr_6
  go_wp2_with fail
  refine (Klt.out _).mono ?_
  rintro r w7 ⟨rfl, b7⟩
  have B7 : Below w.heap.size w w7 := btr B6 b7
  have Rl_7 := heap_of b7 _ _ _ Rl_6
  have Rz_7 := heap_of b7 _ _ _ Rz_6
  have Rr_7 := heap_of b7 _ _ _ Rr_6
  clear b7 B6 Rl_6 cl_6_0 cl_6_1 cl_6_2 cl_6_3 cl_6_4 cl_6_5 cl_6_6 cl_6_7 cl_6_8 cl_6_9 cl_6_10 cl_6_11 Rz_6 Rr_6 cr_6_0 cr_6_1 cr_6_2 cr_6_3 cr_6_4 cr_6_5 cr_6_6
  obtain ⟨cl_7_0, cl_7_1, cl_7_2, cl_7_3, cl_7_4, cl_7_5, cl_7_6, cl_7_7, cl_7_8, cl_7_9, cl_7_10, cl_7_11⟩ := lnC_cells Rl_7
  obtain ⟨cr_7_0, cr_7_1, cr_7_2, cr_7_3, cr_7_4, cr_7_5, cr_7_6⟩ := rwC_cells Rr_7
  go_wp2_with fail
  refine (K3.out _).mono ?_
  rintro r w8 ⟨rfl, b8⟩
  have B8 : Below w.heap.size w w8 := btr B7 b8
  have Rl_8 := heap_of b8 _ _ _ Rl_7
  have Rz_8 := heap_of b8 _ _ _ Rz_7
  have Rr_8 := heap_of b8 _ _ _ Rr_7
  clear b8 B7 Rl_7 cl_7_0 cl_7_1 cl_7_2 cl_7_3 cl_7_4 cl_7_5 cl_7_6 cl_7_7 cl_7_8 cl_7_9 cl_7_10 cl_7_11 Rz_7 Rr_7 cr_7_0 cr_7_1 cr_7_2 cr_7_3 cr_7_4 cr_7_5 cr_7_6
  obtain ⟨cl_8_0, cl_8_1, cl_8_2, cl_8_3, cl_8_4, cl_8_5, cl_8_6, cl_8_7, cl_8_8, cl_8_9, cl_8_10, cl_8_11⟩ := lnC_cells Rl_8
  obtain ⟨cr_8_0, cr_8_1, cr_8_2, cr_8_3, cr_8_4, cr_8_5, cr_8_6⟩ := rwC_cells Rr_8
  have hst9 := rwC_store (r := r4) Rr_8
  have B9 : Below w.heap.size w (w8.setRow (w1.heap.size) (rwC r4)) := Below.setRow B8 (show w.heap.size ≤ w1.heap.size by first | exact Nat.le_refl _ | omega | (have := S2.out; have := Ll_2.out; have := Lz_2.out; omega))
  have Rr_9 : (w8.setRow (w1.heap.size) (rwC r4)).heap[w1.heap.size]? = some (Obj.cells (rwC r4) 45) := setRow_row Rr_8
  have Rl_9 : (w8.setRow (w1.heap.size) (rwC r4)).heap[w.heap.size]? = some (Obj.cells (lnC l) 78) := (setRow_other (by first | omega | (have := S2.out; have := Ll_2.out; have := Lz_2.out; omega))).trans Rl_8
  have Rz_9 : (w8.setRow (w1.heap.size) (rwC r4)).heap[w.heap.size + 1]? = some (Obj.cells #[.int .u8 0, .int .u8 0, .int .u8 0, .int .u8 0, .int .u32 0, .int .u32 0, .int .u8 0, .string ⟨#[]⟩] 47) := (setRow_other (by first | omega | (have := S2.out; have := Ll_2.out; have := Lz_2.out; omega))).trans Rz_8
  obtain ⟨w9, hw9⟩ : ∃ V, (w8.setRow (w1.heap.size) (rwC r4)) = V := ⟨_, rfl⟩
  rw [hw9] at hst9 B9 Rl_9 Rz_9 Rr_9
  clear hw9
  obtain ⟨cl_9_0, cl_9_1, cl_9_2, cl_9_3, cl_9_4, cl_9_5, cl_9_6, cl_9_7, cl_9_8, cl_9_9, cl_9_10, cl_9_11⟩ := lnC_cells Rl_9
  obtain ⟨cr_9_0, cr_9_1, cr_9_2, cr_9_3, cr_9_4, cr_9_5, cr_9_6⟩ := rwC_cells Rr_9
  go_wp2_with fail
  refine (K4.out _).mono ?_
  rintro r w10 ⟨rfl, b10⟩
  have B10 : Below w.heap.size w w10 := btr B9 b10
  have Rl_10 := heap_of b10 _ _ _ Rl_9
  have Rz_10 := heap_of b10 _ _ _ Rz_9
  have Rr_10 := heap_of b10 _ _ _ Rr_9
  clear b10 B9 Rl_9 cl_9_0 cl_9_1 cl_9_2 cl_9_3 cl_9_4 cl_9_5 cl_9_6 cl_9_7 cl_9_8 cl_9_9 cl_9_10 cl_9_11 Rz_9 Rr_9 cr_9_0 cr_9_1 cr_9_2 cr_9_3 cr_9_4 cr_9_5 cr_9_6
  obtain ⟨cl_10_0, cl_10_1, cl_10_2, cl_10_3, cl_10_4, cl_10_5, cl_10_6, cl_10_7, cl_10_8, cl_10_9, cl_10_10, cl_10_11⟩ := lnC_cells Rl_10
  obtain ⟨cr_10_0, cr_10_1, cr_10_2, cr_10_3, cr_10_4, cr_10_5, cr_10_6⟩ := rwC_cells Rr_10
  have hst11 := rwC_store (r := r5) Rr_10
  have B11 : Below w.heap.size w (w10.setRow (w1.heap.size) (rwC r5)) := Below.setRow B10 (show w.heap.size ≤ w1.heap.size by first | exact Nat.le_refl _ | omega | (have := S2.out; have := Ll_2.out; have := Lz_2.out; omega))
  have Rr_11 : (w10.setRow (w1.heap.size) (rwC r5)).heap[w1.heap.size]? = some (Obj.cells (rwC r5) 45) := setRow_row Rr_10
  have Rl_11 : (w10.setRow (w1.heap.size) (rwC r5)).heap[w.heap.size]? = some (Obj.cells (lnC l) 78) := (setRow_other (by first | omega | (have := S2.out; have := Ll_2.out; have := Lz_2.out; omega))).trans Rl_10
  have Rz_11 : (w10.setRow (w1.heap.size) (rwC r5)).heap[w.heap.size + 1]? = some (Obj.cells #[.int .u8 0, .int .u8 0, .int .u8 0, .int .u8 0, .int .u32 0, .int .u32 0, .int .u8 0, .string ⟨#[]⟩] 47) := (setRow_other (by first | omega | (have := S2.out; have := Ll_2.out; have := Lz_2.out; omega))).trans Rz_10
  obtain ⟨w11, hw11⟩ : ∃ V, (w10.setRow (w1.heap.size) (rwC r5)) = V := ⟨_, rfl⟩
  rw [hw11] at hst11 B11 Rl_11 Rz_11 Rr_11
  clear hw11
  obtain ⟨cl_11_0, cl_11_1, cl_11_2, cl_11_3, cl_11_4, cl_11_5, cl_11_6, cl_11_7, cl_11_8, cl_11_9, cl_11_10, cl_11_11⟩ := lnC_cells Rl_11
  obtain ⟨cr_11_0, cr_11_1, cr_11_2, cr_11_3, cr_11_4, cr_11_5, cr_11_6⟩ := rwC_cells Rr_11
  clear hrf
  have hnf := ndC_fold r5 n2
  have hst := ndC_store (r := r5) (s := n2) Rz_11 rfl
  have rz := setRow_row (c' := ndC r5 n2) Rz_11
  have bz : Below w.heap.size w (w11.setRow (w.heap.size + 1) (ndC r5 n2)) := Below.setRow B11 (show w.heap.size ≤ w.heap.size + 1 by first | exact Nat.le_refl _ | omega | (have := S2.out; have := Ll_2.out; have := Lz_2.out; omega))
  obtain ⟨wz, hwz⟩ : ∃ V, w11.setRow (w.heap.size + 1) (ndC r5 n2) = V := ⟨_, rfl⟩
  rw [hwz] at hst rz bz
  clear hwz
  go_wp2
  exact bodyPost_ret (v := .agg (ndC r5 n2)) (res_nd Tryd.results32 rfl rz) rfl ⟨rfl, bz⟩
set_option maxRecDepth 100000 in
set_option maxHeartbeats 8000000 in
theorem b24_class (l : Ln) (fo fr kd : Nat) (r1 r2 r3 r4 r5 : Rw) (nm n1 lt n2 : ByteArray) (hwf : IntKind.i64.wrap (fo : Int) = (fo : Int)) (hwr : IntKind.i64.wrap (fr : Int) = (fr : Int)) (hwk : IntKind.i64.wrap (kd : Int) = (kd : Int)) (hnm : (⟨l.nm.toArray⟩ : ByteArray) = nm) (hc1 : nm ++ ⟨#[46]⟩ = n1) (hq1 : ¬ 9223372036854775807 < nm.size + 1) (hc2 : n1 ++ lt = n2) (hq2 : ¬ 9223372036854775807 < n1.size + lt.size) (h3 : decide (0 ≤ l.rs3) = true) (hz : l.szs = false) (hn : l.nof = false) (hfr : l.frm = false) (ho21 : (((l.op : Nat) : Int) == 21) = false) (ho22 : (((l.op : Nat) : Int) == 22) = false) (ho23 : (((l.op : Nat) : Int) == 23) = false) (ho25 : (((l.op : Nat) : Int) == 25) = false) (hrm : decide (0 ≤ l.rm) = true) (hr2 : decide (0 ≤ l.rs2) = true) (w : World) (K0 : Box (∀ w, Calls Tryd.prog 44 #[.agg #[.int .u8 (l.op : Nat), .int .u8 (fo : Nat), .int .u8 (fr : Nat), .int .u8 (kd : Nat), .int .u32 0, .int .u32 0, .int .u8 (l.lay : Nat)], .int .i64 0, .int .i64 7, .int .i64 (l.opc : Nat)] w fun r w' => r = .returned (.agg (rwC r1)) ∧ Below w.heap.size w w')) (K1 : Box (∀ w, Calls Tryd.prog 44 #[.agg (rwC r1), .int .i64 27, .int .i64 5, .int .i64 l.rs3] w fun r w' => r = .returned (.agg (rwC r2)) ∧ Below w.heap.size w w')) (K2 : Box (∀ w, Calls Tryd.prog 44 #[.agg (rwC r2), .int .i64 25, .int .i64 2, .int .i64 (fo : Nat)] w fun r w' => r = .returned (.agg (rwC r3)) ∧ Below w.heap.size w w')) (Klt : Box (∀ w, Calls Tryd.prog 46 #[.int .u8 (fo : Nat)] w fun r w' => r = .returned (.string lt) ∧ Below w.heap.size w w')) (K3 : Box (∀ w, Calls Tryd.prog 44 #[.agg (rwC r3), .int .i64 12, .int .i64 3, .int .i64 l.rm] w fun r w' => r = .returned (.agg (rwC r4)) ∧ Below w.heap.size w w')) (K4 : Box (∀ w, Calls Tryd.prog 44 #[.agg (rwC r4), .int .i64 20, .int .i64 5, .int .i64 l.rs2] w fun r w' => r = .returned (.agg (rwC r5)) ∧ Below w.heap.size w w')) : Calls Tryd.prog 32 #[.agg (lnC l), .int .u8 (fo : Nat), .int .u8 (fr : Nat), .int .u8 (kd : Nat)] w fun r w' => r = .returned (.agg (ndC r5 n2)) ∧ Below w.heap.size w w' := by
  have hrf := rwC_fold
  have hsn := rwC_new
  obtain ⟨Rl_0, Rz_0, B0⟩ := opn2 w (Obj.cells (lnC l) 78) (Obj.cells #[.int .u8 0, .int .u8 0, .int .u8 0, .int .u8 0, .int .u32 0, .int .u32 0, .int .u8 0, .string ⟨#[]⟩] 47)
  go_enter Tryd.func32, Tryd.ntmps32
  obtain ⟨cl_0_0, cl_0_1, cl_0_2, cl_0_3, cl_0_4, cl_0_5, cl_0_6, cl_0_7, cl_0_8, cl_0_9, cl_0_10, cl_0_11⟩ := lnC_cells Rl_0
  go_wp2_with fail
  refine (K0.out _).mono ?_
  rintro r w1 ⟨rfl, b1⟩
  have B1 : Below w.heap.size w w1 := btr B0 b1
  have Rl_1 := heap_of b1 _ _ _ Rl_0
  have Rz_1 := heap_of b1 _ _ _ Rz_0
  clear b1 B0 Rl_0 cl_0_0 cl_0_1 cl_0_2 cl_0_3 cl_0_4 cl_0_5 cl_0_6 cl_0_7 cl_0_8 cl_0_9 cl_0_10 cl_0_11 Rz_0
  obtain ⟨cl_1_0, cl_1_1, cl_1_2, cl_1_3, cl_1_4, cl_1_5, cl_1_6, cl_1_7, cl_1_8, cl_1_9, cl_1_10, cl_1_11⟩ := lnC_cells Rl_1
  have S2 := box B1.size
  have Ll_2 : Box (w.heap.size < w1.heap.size) := box (Array.getElem?_eq_some_iff.1 Rl_1).1
  have Lz_2 : Box (w.heap.size + 1 < w1.heap.size) := box (Array.getElem?_eq_some_iff.1 Rz_1).1
  have Rr_2 := heap_alloc_last w1 (Obj.cells (rwC r1) 45)
  have B2 := btr B1 (bal w1 (Obj.cells (rwC r1) 45))
  have Rl_2 := heap_of (bal w1 (Obj.cells (rwC r1) 45)) _ _ _ Rl_1
  have Rz_2 := heap_of (bal w1 (Obj.cells (rwC r1) 45)) _ _ _ Rz_1
  clear B1 Rl_1 cl_1_0 cl_1_1 cl_1_2 cl_1_3 cl_1_4 cl_1_5 cl_1_6 cl_1_7 cl_1_8 cl_1_9 cl_1_10 cl_1_11 Rz_1
  obtain ⟨cl_2_0, cl_2_1, cl_2_2, cl_2_3, cl_2_4, cl_2_5, cl_2_6, cl_2_7, cl_2_8, cl_2_9, cl_2_10, cl_2_11⟩ := lnC_cells Rl_2
  obtain ⟨cr_2_0, cr_2_1, cr_2_2, cr_2_3, cr_2_4, cr_2_5, cr_2_6⟩ := rwC_cells Rr_2
  go_wp2_with fail
  refine (K1.out _).mono ?_
  rintro r w3 ⟨rfl, b3⟩
  have B3 : Below w.heap.size w w3 := btr B2 b3
  have Rl_3 := heap_of b3 _ _ _ Rl_2
  have Rz_3 := heap_of b3 _ _ _ Rz_2
  have Rr_3 := heap_of b3 _ _ _ Rr_2
  clear b3 B2 Rl_2 cl_2_0 cl_2_1 cl_2_2 cl_2_3 cl_2_4 cl_2_5 cl_2_6 cl_2_7 cl_2_8 cl_2_9 cl_2_10 cl_2_11 Rz_2 Rr_2 cr_2_0 cr_2_1 cr_2_2 cr_2_3 cr_2_4 cr_2_5 cr_2_6
  obtain ⟨cl_3_0, cl_3_1, cl_3_2, cl_3_3, cl_3_4, cl_3_5, cl_3_6, cl_3_7, cl_3_8, cl_3_9, cl_3_10, cl_3_11⟩ := lnC_cells Rl_3
  obtain ⟨cr_3_0, cr_3_1, cr_3_2, cr_3_3, cr_3_4, cr_3_5, cr_3_6⟩ := rwC_cells Rr_3
  have hst4 := rwC_store (r := r2) Rr_3
  have B4 : Below w.heap.size w (w3.setRow (w1.heap.size) (rwC r2)) := Below.setRow B3 (show w.heap.size ≤ w1.heap.size by first | exact Nat.le_refl _ | omega | (have := S2.out; have := Ll_2.out; have := Lz_2.out; omega))
  have Rr_4 : (w3.setRow (w1.heap.size) (rwC r2)).heap[w1.heap.size]? = some (Obj.cells (rwC r2) 45) := setRow_row Rr_3
  have Rl_4 : (w3.setRow (w1.heap.size) (rwC r2)).heap[w.heap.size]? = some (Obj.cells (lnC l) 78) := (setRow_other (by first | omega | (have := S2.out; have := Ll_2.out; have := Lz_2.out; omega))).trans Rl_3
  have Rz_4 : (w3.setRow (w1.heap.size) (rwC r2)).heap[w.heap.size + 1]? = some (Obj.cells #[.int .u8 0, .int .u8 0, .int .u8 0, .int .u8 0, .int .u32 0, .int .u32 0, .int .u8 0, .string ⟨#[]⟩] 47) := (setRow_other (by first | omega | (have := S2.out; have := Ll_2.out; have := Lz_2.out; omega))).trans Rz_3
  obtain ⟨w4, hw4⟩ : ∃ V, (w3.setRow (w1.heap.size) (rwC r2)) = V := ⟨_, rfl⟩
  rw [hw4] at hst4 B4 Rl_4 Rz_4 Rr_4
  clear hw4
  obtain ⟨cl_4_0, cl_4_1, cl_4_2, cl_4_3, cl_4_4, cl_4_5, cl_4_6, cl_4_7, cl_4_8, cl_4_9, cl_4_10, cl_4_11⟩ := lnC_cells Rl_4
  obtain ⟨cr_4_0, cr_4_1, cr_4_2, cr_4_3, cr_4_4, cr_4_5, cr_4_6⟩ := rwC_cells Rr_4
  go_wp2_with fail
  refine (K2.out _).mono ?_
  rintro r w5 ⟨rfl, b5⟩
  have B5 : Below w.heap.size w w5 := btr B4 b5
  have Rl_5 := heap_of b5 _ _ _ Rl_4
  have Rz_5 := heap_of b5 _ _ _ Rz_4
  have Rr_5 := heap_of b5 _ _ _ Rr_4
  clear b5 B4 Rl_4 cl_4_0 cl_4_1 cl_4_2 cl_4_3 cl_4_4 cl_4_5 cl_4_6 cl_4_7 cl_4_8 cl_4_9 cl_4_10 cl_4_11 Rz_4 Rr_4 cr_4_0 cr_4_1 cr_4_2 cr_4_3 cr_4_4 cr_4_5 cr_4_6
  obtain ⟨cl_5_0, cl_5_1, cl_5_2, cl_5_3, cl_5_4, cl_5_5, cl_5_6, cl_5_7, cl_5_8, cl_5_9, cl_5_10, cl_5_11⟩ := lnC_cells Rl_5
  obtain ⟨cr_5_0, cr_5_1, cr_5_2, cr_5_3, cr_5_4, cr_5_5, cr_5_6⟩ := rwC_cells Rr_5
  have hst6 := rwC_store (r := r3) Rr_5
  have B6 : Below w.heap.size w (w5.setRow (w1.heap.size) (rwC r3)) := Below.setRow B5 (show w.heap.size ≤ w1.heap.size by first | exact Nat.le_refl _ | omega | (have := S2.out; have := Ll_2.out; have := Lz_2.out; omega))
  have Rr_6 : (w5.setRow (w1.heap.size) (rwC r3)).heap[w1.heap.size]? = some (Obj.cells (rwC r3) 45) := setRow_row Rr_5
  have Rl_6 : (w5.setRow (w1.heap.size) (rwC r3)).heap[w.heap.size]? = some (Obj.cells (lnC l) 78) := (setRow_other (by first | omega | (have := S2.out; have := Ll_2.out; have := Lz_2.out; omega))).trans Rl_5
  have Rz_6 : (w5.setRow (w1.heap.size) (rwC r3)).heap[w.heap.size + 1]? = some (Obj.cells #[.int .u8 0, .int .u8 0, .int .u8 0, .int .u8 0, .int .u32 0, .int .u32 0, .int .u8 0, .string ⟨#[]⟩] 47) := (setRow_other (by first | omega | (have := S2.out; have := Ll_2.out; have := Lz_2.out; omega))).trans Rz_5
  obtain ⟨w6, hw6⟩ : ∃ V, (w5.setRow (w1.heap.size) (rwC r3)) = V := ⟨_, rfl⟩
  rw [hw6] at hst6 B6 Rl_6 Rz_6 Rr_6
  clear hw6
  obtain ⟨cl_6_0, cl_6_1, cl_6_2, cl_6_3, cl_6_4, cl_6_5, cl_6_6, cl_6_7, cl_6_8, cl_6_9, cl_6_10, cl_6_11⟩ := lnC_cells Rl_6
  obtain ⟨cr_6_0, cr_6_1, cr_6_2, cr_6_3, cr_6_4, cr_6_5, cr_6_6⟩ := rwC_cells Rr_6
  go_wp2_with fail
  refine (Klt.out _).mono ?_
  rintro r w7 ⟨rfl, b7⟩
  have B7 : Below w.heap.size w w7 := btr B6 b7
  have Rl_7 := heap_of b7 _ _ _ Rl_6
  have Rz_7 := heap_of b7 _ _ _ Rz_6
  have Rr_7 := heap_of b7 _ _ _ Rr_6
  clear b7 B6 Rl_6 cl_6_0 cl_6_1 cl_6_2 cl_6_3 cl_6_4 cl_6_5 cl_6_6 cl_6_7 cl_6_8 cl_6_9 cl_6_10 cl_6_11 Rz_6 Rr_6 cr_6_0 cr_6_1 cr_6_2 cr_6_3 cr_6_4 cr_6_5 cr_6_6
  obtain ⟨cl_7_0, cl_7_1, cl_7_2, cl_7_3, cl_7_4, cl_7_5, cl_7_6, cl_7_7, cl_7_8, cl_7_9, cl_7_10, cl_7_11⟩ := lnC_cells Rl_7
  obtain ⟨cr_7_0, cr_7_1, cr_7_2, cr_7_3, cr_7_4, cr_7_5, cr_7_6⟩ := rwC_cells Rr_7
  go_wp2_with fail
  refine (K3.out _).mono ?_
  rintro r w8 ⟨rfl, b8⟩
  have B8 : Below w.heap.size w w8 := btr B7 b8
  have Rl_8 := heap_of b8 _ _ _ Rl_7
  have Rz_8 := heap_of b8 _ _ _ Rz_7
  have Rr_8 := heap_of b8 _ _ _ Rr_7
  clear b8 B7 Rl_7 cl_7_0 cl_7_1 cl_7_2 cl_7_3 cl_7_4 cl_7_5 cl_7_6 cl_7_7 cl_7_8 cl_7_9 cl_7_10 cl_7_11 Rz_7 Rr_7 cr_7_0 cr_7_1 cr_7_2 cr_7_3 cr_7_4 cr_7_5 cr_7_6
  obtain ⟨cl_8_0, cl_8_1, cl_8_2, cl_8_3, cl_8_4, cl_8_5, cl_8_6, cl_8_7, cl_8_8, cl_8_9, cl_8_10, cl_8_11⟩ := lnC_cells Rl_8
  obtain ⟨cr_8_0, cr_8_1, cr_8_2, cr_8_3, cr_8_4, cr_8_5, cr_8_6⟩ := rwC_cells Rr_8
  have hst9 := rwC_store (r := r4) Rr_8
  have B9 : Below w.heap.size w (w8.setRow (w1.heap.size) (rwC r4)) := Below.setRow B8 (show w.heap.size ≤ w1.heap.size by first | exact Nat.le_refl _ | omega | (have := S2.out; have := Ll_2.out; have := Lz_2.out; omega))
  have Rr_9 : (w8.setRow (w1.heap.size) (rwC r4)).heap[w1.heap.size]? = some (Obj.cells (rwC r4) 45) := setRow_row Rr_8
  have Rl_9 : (w8.setRow (w1.heap.size) (rwC r4)).heap[w.heap.size]? = some (Obj.cells (lnC l) 78) := (setRow_other (by first | omega | (have := S2.out; have := Ll_2.out; have := Lz_2.out; omega))).trans Rl_8
  have Rz_9 : (w8.setRow (w1.heap.size) (rwC r4)).heap[w.heap.size + 1]? = some (Obj.cells #[.int .u8 0, .int .u8 0, .int .u8 0, .int .u8 0, .int .u32 0, .int .u32 0, .int .u8 0, .string ⟨#[]⟩] 47) := (setRow_other (by first | omega | (have := S2.out; have := Ll_2.out; have := Lz_2.out; omega))).trans Rz_8
  obtain ⟨w9, hw9⟩ : ∃ V, (w8.setRow (w1.heap.size) (rwC r4)) = V := ⟨_, rfl⟩
  rw [hw9] at hst9 B9 Rl_9 Rz_9 Rr_9
  clear hw9
  obtain ⟨cl_9_0, cl_9_1, cl_9_2, cl_9_3, cl_9_4, cl_9_5, cl_9_6, cl_9_7, cl_9_8, cl_9_9, cl_9_10, cl_9_11⟩ := lnC_cells Rl_9
  obtain ⟨cr_9_0, cr_9_1, cr_9_2, cr_9_3, cr_9_4, cr_9_5, cr_9_6⟩ := rwC_cells Rr_9
  go_wp2_with fail
  refine (K4.out _).mono ?_
  rintro r w10 ⟨rfl, b10⟩
  have B10 : Below w.heap.size w w10 := btr B9 b10
  have Rl_10 := heap_of b10 _ _ _ Rl_9
  have Rz_10 := heap_of b10 _ _ _ Rz_9
  have Rr_10 := heap_of b10 _ _ _ Rr_9
  clear b10 B9 Rl_9 cl_9_0 cl_9_1 cl_9_2 cl_9_3 cl_9_4 cl_9_5 cl_9_6 cl_9_7 cl_9_8 cl_9_9 cl_9_10 cl_9_11 Rz_9 Rr_9 cr_9_0 cr_9_1 cr_9_2 cr_9_3 cr_9_4 cr_9_5 cr_9_6
  obtain ⟨cl_10_0, cl_10_1, cl_10_2, cl_10_3, cl_10_4, cl_10_5, cl_10_6, cl_10_7, cl_10_8, cl_10_9, cl_10_10, cl_10_11⟩ := lnC_cells Rl_10
  obtain ⟨cr_10_0, cr_10_1, cr_10_2, cr_10_3, cr_10_4, cr_10_5, cr_10_6⟩ := rwC_cells Rr_10
  have hst11 := rwC_store (r := r5) Rr_10
  have B11 : Below w.heap.size w (w10.setRow (w1.heap.size) (rwC r5)) := Below.setRow B10 (show w.heap.size ≤ w1.heap.size by first | exact Nat.le_refl _ | omega | (have := S2.out; have := Ll_2.out; have := Lz_2.out; omega))
  have Rr_11 : (w10.setRow (w1.heap.size) (rwC r5)).heap[w1.heap.size]? = some (Obj.cells (rwC r5) 45) := setRow_row Rr_10
  have Rl_11 : (w10.setRow (w1.heap.size) (rwC r5)).heap[w.heap.size]? = some (Obj.cells (lnC l) 78) := (setRow_other (by first | omega | (have := S2.out; have := Ll_2.out; have := Lz_2.out; omega))).trans Rl_10
  have Rz_11 : (w10.setRow (w1.heap.size) (rwC r5)).heap[w.heap.size + 1]? = some (Obj.cells #[.int .u8 0, .int .u8 0, .int .u8 0, .int .u8 0, .int .u32 0, .int .u32 0, .int .u8 0, .string ⟨#[]⟩] 47) := (setRow_other (by first | omega | (have := S2.out; have := Ll_2.out; have := Lz_2.out; omega))).trans Rz_10
  obtain ⟨w11, hw11⟩ : ∃ V, (w10.setRow (w1.heap.size) (rwC r5)) = V := ⟨_, rfl⟩
  rw [hw11] at hst11 B11 Rl_11 Rz_11 Rr_11
  clear hw11
  obtain ⟨cl_11_0, cl_11_1, cl_11_2, cl_11_3, cl_11_4, cl_11_5, cl_11_6, cl_11_7, cl_11_8, cl_11_9, cl_11_10, cl_11_11⟩ := lnC_cells Rl_11
  obtain ⟨cr_11_0, cr_11_1, cr_11_2, cr_11_3, cr_11_4, cr_11_5, cr_11_6⟩ := rwC_cells Rr_11
  clear hrf
  have hnf := ndC_fold r5 n2
  have hst := ndC_store (r := r5) (s := n2) Rz_11 rfl
  have rz := setRow_row (c' := ndC r5 n2) Rz_11
  have bz : Below w.heap.size w (w11.setRow (w.heap.size + 1) (ndC r5 n2)) := Below.setRow B11 (show w.heap.size ≤ w.heap.size + 1 by first | exact Nat.le_refl _ | omega | (have := S2.out; have := Ll_2.out; have := Lz_2.out; omega))
  obtain ⟨wz, hwz⟩ : ∃ V, w11.setRow (w.heap.size + 1) (ndC r5 n2) = V := ⟨_, rfl⟩
  rw [hwz] at hst rz bz
  clear hwz
  go_wp2
  exact bodyPost_ret (v := .agg (ndC r5 n2)) (res_nd Tryd.results32 rfl rz) rfl ⟨rfl, bz⟩
set_option maxRecDepth 100000 in
set_option maxHeartbeats 8000000 in
theorem b24_ofword (l : Ln) (fo fr kd : Nat) (r1 r2 r3 r4 r5 : Rw) (nm n1 lt n2 n3 : ByteArray) (hwf : IntKind.i64.wrap (fo : Int) = (fo : Int)) (hwr : IntKind.i64.wrap (fr : Int) = (fr : Int)) (hwk : IntKind.i64.wrap (kd : Int) = (kd : Int)) (hnm : (⟨l.nm.toArray⟩ : ByteArray) = nm) (hc1 : nm ++ ⟨#[46]⟩ = n1) (hq1 : ¬ 9223372036854775807 < nm.size + 1) (hc2 : n1 ++ lt = n2) (hq2 : ¬ 9223372036854775807 < n1.size + lt.size) (hc3 : n2 ++ ⟨#[46, 120]⟩ = n3) (hq3 : ¬ 9223372036854775807 < n2.size + 2) (h3 : decide (0 ≤ l.rs3) = true) (hz : l.szs = false) (hn : l.nof = false) (hfr : l.frm = false) (ho21 : (((l.op : Nat) : Int) == 21) = false) (ho22 : (((l.op : Nat) : Int) == 22) = false) (ho23 : (((l.op : Nat) : Int) == 23) = false) (ho25 : (((l.op : Nat) : Int) == 25) = true) (hrm : decide (0 ≤ l.rm) = true) (hr2 : decide (0 ≤ l.rs2) = true) (w : World) (K0 : Box (∀ w, Calls Tryd.prog 44 #[.agg #[.int .u8 (l.op : Nat), .int .u8 (fo : Nat), .int .u8 (fr : Nat), .int .u8 (kd : Nat), .int .u32 0, .int .u32 0, .int .u8 (l.lay : Nat)], .int .i64 0, .int .i64 7, .int .i64 (l.opc : Nat)] w fun r w' => r = .returned (.agg (rwC r1)) ∧ Below w.heap.size w w')) (K1 : Box (∀ w, Calls Tryd.prog 44 #[.agg (rwC r1), .int .i64 27, .int .i64 5, .int .i64 l.rs3] w fun r w' => r = .returned (.agg (rwC r2)) ∧ Below w.heap.size w w')) (K2 : Box (∀ w, Calls Tryd.prog 44 #[.agg (rwC r2), .int .i64 25, .int .i64 2, .int .i64 (fo : Nat)] w fun r w' => r = .returned (.agg (rwC r3)) ∧ Below w.heap.size w w')) (Klt : Box (∀ w, Calls Tryd.prog 45 #[.int .u8 (fo : Nat)] w fun r w' => r = .returned (.string lt) ∧ Below w.heap.size w w')) (K3 : Box (∀ w, Calls Tryd.prog 44 #[.agg (rwC r3), .int .i64 12, .int .i64 3, .int .i64 l.rm] w fun r w' => r = .returned (.agg (rwC r4)) ∧ Below w.heap.size w w')) (K4 : Box (∀ w, Calls Tryd.prog 44 #[.agg (rwC r4), .int .i64 20, .int .i64 5, .int .i64 l.rs2] w fun r w' => r = .returned (.agg (rwC r5)) ∧ Below w.heap.size w w')) : Calls Tryd.prog 32 #[.agg (lnC l), .int .u8 (fo : Nat), .int .u8 (fr : Nat), .int .u8 (kd : Nat)] w fun r w' => r = .returned (.agg (ndC r5 n3)) ∧ Below w.heap.size w w' := by
  have hrf := rwC_fold
  have hsn := rwC_new
  obtain ⟨Rl_0, Rz_0, B0⟩ := opn2 w (Obj.cells (lnC l) 78) (Obj.cells #[.int .u8 0, .int .u8 0, .int .u8 0, .int .u8 0, .int .u32 0, .int .u32 0, .int .u8 0, .string ⟨#[]⟩] 47)
  go_enter Tryd.func32, Tryd.ntmps32
  obtain ⟨cl_0_0, cl_0_1, cl_0_2, cl_0_3, cl_0_4, cl_0_5, cl_0_6, cl_0_7, cl_0_8, cl_0_9, cl_0_10, cl_0_11⟩ := lnC_cells Rl_0
  go_wp2_with fail
  refine (K0.out _).mono ?_
  rintro r w1 ⟨rfl, b1⟩
  have B1 : Below w.heap.size w w1 := btr B0 b1
  have Rl_1 := heap_of b1 _ _ _ Rl_0
  have Rz_1 := heap_of b1 _ _ _ Rz_0
  clear b1 B0 Rl_0 cl_0_0 cl_0_1 cl_0_2 cl_0_3 cl_0_4 cl_0_5 cl_0_6 cl_0_7 cl_0_8 cl_0_9 cl_0_10 cl_0_11 Rz_0
  obtain ⟨cl_1_0, cl_1_1, cl_1_2, cl_1_3, cl_1_4, cl_1_5, cl_1_6, cl_1_7, cl_1_8, cl_1_9, cl_1_10, cl_1_11⟩ := lnC_cells Rl_1
  have S2 := box B1.size
  have Ll_2 : Box (w.heap.size < w1.heap.size) := box (Array.getElem?_eq_some_iff.1 Rl_1).1
  have Lz_2 : Box (w.heap.size + 1 < w1.heap.size) := box (Array.getElem?_eq_some_iff.1 Rz_1).1
  have Rr_2 := heap_alloc_last w1 (Obj.cells (rwC r1) 45)
  have B2 := btr B1 (bal w1 (Obj.cells (rwC r1) 45))
  have Rl_2 := heap_of (bal w1 (Obj.cells (rwC r1) 45)) _ _ _ Rl_1
  have Rz_2 := heap_of (bal w1 (Obj.cells (rwC r1) 45)) _ _ _ Rz_1
  clear B1 Rl_1 cl_1_0 cl_1_1 cl_1_2 cl_1_3 cl_1_4 cl_1_5 cl_1_6 cl_1_7 cl_1_8 cl_1_9 cl_1_10 cl_1_11 Rz_1
  obtain ⟨cl_2_0, cl_2_1, cl_2_2, cl_2_3, cl_2_4, cl_2_5, cl_2_6, cl_2_7, cl_2_8, cl_2_9, cl_2_10, cl_2_11⟩ := lnC_cells Rl_2
  obtain ⟨cr_2_0, cr_2_1, cr_2_2, cr_2_3, cr_2_4, cr_2_5, cr_2_6⟩ := rwC_cells Rr_2
  go_wp2_with fail
  refine (K1.out _).mono ?_
  rintro r w3 ⟨rfl, b3⟩
  have B3 : Below w.heap.size w w3 := btr B2 b3
  have Rl_3 := heap_of b3 _ _ _ Rl_2
  have Rz_3 := heap_of b3 _ _ _ Rz_2
  have Rr_3 := heap_of b3 _ _ _ Rr_2
  clear b3 B2 Rl_2 cl_2_0 cl_2_1 cl_2_2 cl_2_3 cl_2_4 cl_2_5 cl_2_6 cl_2_7 cl_2_8 cl_2_9 cl_2_10 cl_2_11 Rz_2 Rr_2 cr_2_0 cr_2_1 cr_2_2 cr_2_3 cr_2_4 cr_2_5 cr_2_6
  obtain ⟨cl_3_0, cl_3_1, cl_3_2, cl_3_3, cl_3_4, cl_3_5, cl_3_6, cl_3_7, cl_3_8, cl_3_9, cl_3_10, cl_3_11⟩ := lnC_cells Rl_3
  obtain ⟨cr_3_0, cr_3_1, cr_3_2, cr_3_3, cr_3_4, cr_3_5, cr_3_6⟩ := rwC_cells Rr_3
  have hst4 := rwC_store (r := r2) Rr_3
  have B4 : Below w.heap.size w (w3.setRow (w1.heap.size) (rwC r2)) := Below.setRow B3 (show w.heap.size ≤ w1.heap.size by first | exact Nat.le_refl _ | omega | (have := S2.out; have := Ll_2.out; have := Lz_2.out; omega))
  have Rr_4 : (w3.setRow (w1.heap.size) (rwC r2)).heap[w1.heap.size]? = some (Obj.cells (rwC r2) 45) := setRow_row Rr_3
  have Rl_4 : (w3.setRow (w1.heap.size) (rwC r2)).heap[w.heap.size]? = some (Obj.cells (lnC l) 78) := (setRow_other (by first | omega | (have := S2.out; have := Ll_2.out; have := Lz_2.out; omega))).trans Rl_3
  have Rz_4 : (w3.setRow (w1.heap.size) (rwC r2)).heap[w.heap.size + 1]? = some (Obj.cells #[.int .u8 0, .int .u8 0, .int .u8 0, .int .u8 0, .int .u32 0, .int .u32 0, .int .u8 0, .string ⟨#[]⟩] 47) := (setRow_other (by first | omega | (have := S2.out; have := Ll_2.out; have := Lz_2.out; omega))).trans Rz_3
  obtain ⟨w4, hw4⟩ : ∃ V, (w3.setRow (w1.heap.size) (rwC r2)) = V := ⟨_, rfl⟩
  rw [hw4] at hst4 B4 Rl_4 Rz_4 Rr_4
  clear hw4
  obtain ⟨cl_4_0, cl_4_1, cl_4_2, cl_4_3, cl_4_4, cl_4_5, cl_4_6, cl_4_7, cl_4_8, cl_4_9, cl_4_10, cl_4_11⟩ := lnC_cells Rl_4
  obtain ⟨cr_4_0, cr_4_1, cr_4_2, cr_4_3, cr_4_4, cr_4_5, cr_4_6⟩ := rwC_cells Rr_4
  go_wp2_with fail
  refine (K2.out _).mono ?_
  rintro r w5 ⟨rfl, b5⟩
  have B5 : Below w.heap.size w w5 := btr B4 b5
  have Rl_5 := heap_of b5 _ _ _ Rl_4
  have Rz_5 := heap_of b5 _ _ _ Rz_4
  have Rr_5 := heap_of b5 _ _ _ Rr_4
  clear b5 B4 Rl_4 cl_4_0 cl_4_1 cl_4_2 cl_4_3 cl_4_4 cl_4_5 cl_4_6 cl_4_7 cl_4_8 cl_4_9 cl_4_10 cl_4_11 Rz_4 Rr_4 cr_4_0 cr_4_1 cr_4_2 cr_4_3 cr_4_4 cr_4_5 cr_4_6
  obtain ⟨cl_5_0, cl_5_1, cl_5_2, cl_5_3, cl_5_4, cl_5_5, cl_5_6, cl_5_7, cl_5_8, cl_5_9, cl_5_10, cl_5_11⟩ := lnC_cells Rl_5
  obtain ⟨cr_5_0, cr_5_1, cr_5_2, cr_5_3, cr_5_4, cr_5_5, cr_5_6⟩ := rwC_cells Rr_5
  have hst6 := rwC_store (r := r3) Rr_5
  have B6 : Below w.heap.size w (w5.setRow (w1.heap.size) (rwC r3)) := Below.setRow B5 (show w.heap.size ≤ w1.heap.size by first | exact Nat.le_refl _ | omega | (have := S2.out; have := Ll_2.out; have := Lz_2.out; omega))
  have Rr_6 : (w5.setRow (w1.heap.size) (rwC r3)).heap[w1.heap.size]? = some (Obj.cells (rwC r3) 45) := setRow_row Rr_5
  have Rl_6 : (w5.setRow (w1.heap.size) (rwC r3)).heap[w.heap.size]? = some (Obj.cells (lnC l) 78) := (setRow_other (by first | omega | (have := S2.out; have := Ll_2.out; have := Lz_2.out; omega))).trans Rl_5
  have Rz_6 : (w5.setRow (w1.heap.size) (rwC r3)).heap[w.heap.size + 1]? = some (Obj.cells #[.int .u8 0, .int .u8 0, .int .u8 0, .int .u8 0, .int .u32 0, .int .u32 0, .int .u8 0, .string ⟨#[]⟩] 47) := (setRow_other (by first | omega | (have := S2.out; have := Ll_2.out; have := Lz_2.out; omega))).trans Rz_5
  obtain ⟨w6, hw6⟩ : ∃ V, (w5.setRow (w1.heap.size) (rwC r3)) = V := ⟨_, rfl⟩
  rw [hw6] at hst6 B6 Rl_6 Rz_6 Rr_6
  clear hw6
  obtain ⟨cl_6_0, cl_6_1, cl_6_2, cl_6_3, cl_6_4, cl_6_5, cl_6_6, cl_6_7, cl_6_8, cl_6_9, cl_6_10, cl_6_11⟩ := lnC_cells Rl_6
  obtain ⟨cr_6_0, cr_6_1, cr_6_2, cr_6_3, cr_6_4, cr_6_5, cr_6_6⟩ := rwC_cells Rr_6
  go_wp2_with fail
  refine (Klt.out _).mono ?_
  rintro r w7 ⟨rfl, b7⟩
  have B7 : Below w.heap.size w w7 := btr B6 b7
  have Rl_7 := heap_of b7 _ _ _ Rl_6
  have Rz_7 := heap_of b7 _ _ _ Rz_6
  have Rr_7 := heap_of b7 _ _ _ Rr_6
  clear b7 B6 Rl_6 cl_6_0 cl_6_1 cl_6_2 cl_6_3 cl_6_4 cl_6_5 cl_6_6 cl_6_7 cl_6_8 cl_6_9 cl_6_10 cl_6_11 Rz_6 Rr_6 cr_6_0 cr_6_1 cr_6_2 cr_6_3 cr_6_4 cr_6_5 cr_6_6
  obtain ⟨cl_7_0, cl_7_1, cl_7_2, cl_7_3, cl_7_4, cl_7_5, cl_7_6, cl_7_7, cl_7_8, cl_7_9, cl_7_10, cl_7_11⟩ := lnC_cells Rl_7
  obtain ⟨cr_7_0, cr_7_1, cr_7_2, cr_7_3, cr_7_4, cr_7_5, cr_7_6⟩ := rwC_cells Rr_7
  go_wp2_with fail
  refine (K3.out _).mono ?_
  rintro r w8 ⟨rfl, b8⟩
  have B8 : Below w.heap.size w w8 := btr B7 b8
  have Rl_8 := heap_of b8 _ _ _ Rl_7
  have Rz_8 := heap_of b8 _ _ _ Rz_7
  have Rr_8 := heap_of b8 _ _ _ Rr_7
  clear b8 B7 Rl_7 cl_7_0 cl_7_1 cl_7_2 cl_7_3 cl_7_4 cl_7_5 cl_7_6 cl_7_7 cl_7_8 cl_7_9 cl_7_10 cl_7_11 Rz_7 Rr_7 cr_7_0 cr_7_1 cr_7_2 cr_7_3 cr_7_4 cr_7_5 cr_7_6
  obtain ⟨cl_8_0, cl_8_1, cl_8_2, cl_8_3, cl_8_4, cl_8_5, cl_8_6, cl_8_7, cl_8_8, cl_8_9, cl_8_10, cl_8_11⟩ := lnC_cells Rl_8
  obtain ⟨cr_8_0, cr_8_1, cr_8_2, cr_8_3, cr_8_4, cr_8_5, cr_8_6⟩ := rwC_cells Rr_8
  have hst9 := rwC_store (r := r4) Rr_8
  have B9 : Below w.heap.size w (w8.setRow (w1.heap.size) (rwC r4)) := Below.setRow B8 (show w.heap.size ≤ w1.heap.size by first | exact Nat.le_refl _ | omega | (have := S2.out; have := Ll_2.out; have := Lz_2.out; omega))
  have Rr_9 : (w8.setRow (w1.heap.size) (rwC r4)).heap[w1.heap.size]? = some (Obj.cells (rwC r4) 45) := setRow_row Rr_8
  have Rl_9 : (w8.setRow (w1.heap.size) (rwC r4)).heap[w.heap.size]? = some (Obj.cells (lnC l) 78) := (setRow_other (by first | omega | (have := S2.out; have := Ll_2.out; have := Lz_2.out; omega))).trans Rl_8
  have Rz_9 : (w8.setRow (w1.heap.size) (rwC r4)).heap[w.heap.size + 1]? = some (Obj.cells #[.int .u8 0, .int .u8 0, .int .u8 0, .int .u8 0, .int .u32 0, .int .u32 0, .int .u8 0, .string ⟨#[]⟩] 47) := (setRow_other (by first | omega | (have := S2.out; have := Ll_2.out; have := Lz_2.out; omega))).trans Rz_8
  obtain ⟨w9, hw9⟩ : ∃ V, (w8.setRow (w1.heap.size) (rwC r4)) = V := ⟨_, rfl⟩
  rw [hw9] at hst9 B9 Rl_9 Rz_9 Rr_9
  clear hw9
  obtain ⟨cl_9_0, cl_9_1, cl_9_2, cl_9_3, cl_9_4, cl_9_5, cl_9_6, cl_9_7, cl_9_8, cl_9_9, cl_9_10, cl_9_11⟩ := lnC_cells Rl_9
  obtain ⟨cr_9_0, cr_9_1, cr_9_2, cr_9_3, cr_9_4, cr_9_5, cr_9_6⟩ := rwC_cells Rr_9
  go_wp2_with fail
  refine (K4.out _).mono ?_
  rintro r w10 ⟨rfl, b10⟩
  have B10 : Below w.heap.size w w10 := btr B9 b10
  have Rl_10 := heap_of b10 _ _ _ Rl_9
  have Rz_10 := heap_of b10 _ _ _ Rz_9
  have Rr_10 := heap_of b10 _ _ _ Rr_9
  clear b10 B9 Rl_9 cl_9_0 cl_9_1 cl_9_2 cl_9_3 cl_9_4 cl_9_5 cl_9_6 cl_9_7 cl_9_8 cl_9_9 cl_9_10 cl_9_11 Rz_9 Rr_9 cr_9_0 cr_9_1 cr_9_2 cr_9_3 cr_9_4 cr_9_5 cr_9_6
  obtain ⟨cl_10_0, cl_10_1, cl_10_2, cl_10_3, cl_10_4, cl_10_5, cl_10_6, cl_10_7, cl_10_8, cl_10_9, cl_10_10, cl_10_11⟩ := lnC_cells Rl_10
  obtain ⟨cr_10_0, cr_10_1, cr_10_2, cr_10_3, cr_10_4, cr_10_5, cr_10_6⟩ := rwC_cells Rr_10
  have hst11 := rwC_store (r := r5) Rr_10
  have B11 : Below w.heap.size w (w10.setRow (w1.heap.size) (rwC r5)) := Below.setRow B10 (show w.heap.size ≤ w1.heap.size by first | exact Nat.le_refl _ | omega | (have := S2.out; have := Ll_2.out; have := Lz_2.out; omega))
  have Rr_11 : (w10.setRow (w1.heap.size) (rwC r5)).heap[w1.heap.size]? = some (Obj.cells (rwC r5) 45) := setRow_row Rr_10
  have Rl_11 : (w10.setRow (w1.heap.size) (rwC r5)).heap[w.heap.size]? = some (Obj.cells (lnC l) 78) := (setRow_other (by first | omega | (have := S2.out; have := Ll_2.out; have := Lz_2.out; omega))).trans Rl_10
  have Rz_11 : (w10.setRow (w1.heap.size) (rwC r5)).heap[w.heap.size + 1]? = some (Obj.cells #[.int .u8 0, .int .u8 0, .int .u8 0, .int .u8 0, .int .u32 0, .int .u32 0, .int .u8 0, .string ⟨#[]⟩] 47) := (setRow_other (by first | omega | (have := S2.out; have := Ll_2.out; have := Lz_2.out; omega))).trans Rz_10
  obtain ⟨w11, hw11⟩ : ∃ V, (w10.setRow (w1.heap.size) (rwC r5)) = V := ⟨_, rfl⟩
  rw [hw11] at hst11 B11 Rl_11 Rz_11 Rr_11
  clear hw11
  obtain ⟨cl_11_0, cl_11_1, cl_11_2, cl_11_3, cl_11_4, cl_11_5, cl_11_6, cl_11_7, cl_11_8, cl_11_9, cl_11_10, cl_11_11⟩ := lnC_cells Rl_11
  obtain ⟨cr_11_0, cr_11_1, cr_11_2, cr_11_3, cr_11_4, cr_11_5, cr_11_6⟩ := rwC_cells Rr_11
  clear hrf
  have hnf := ndC_fold r5 n3
  have hst := ndC_store (r := r5) (s := n3) Rz_11 rfl
  have rz := setRow_row (c' := ndC r5 n3) Rz_11
  have bz : Below w.heap.size w (w11.setRow (w.heap.size + 1) (ndC r5 n3)) := Below.setRow B11 (show w.heap.size ≤ w.heap.size + 1 by first | exact Nat.le_refl _ | omega | (have := S2.out; have := Ll_2.out; have := Lz_2.out; omega))
  obtain ⟨wz, hwz⟩ : ∃ V, w11.setRow (w.heap.size + 1) (ndC r5 n3) = V := ⟨_, rfl⟩
  rw [hwz] at hst rz bz
  clear hwz
  go_wp2
  exact bodyPost_ret (v := .agg (ndC r5 n3)) (res_nd Tryd.results32 rfl rz) rfl ⟨rfl, bz⟩
set_option maxRecDepth 100000 in
set_option maxHeartbeats 8000000 in
theorem b24_csr (l : Ln) (fo fr kd : Nat) (r1 r2 : Rw) (nm : ByteArray) (hwf : IntKind.i64.wrap (fo : Int) = (fo : Int)) (hwr : IntKind.i64.wrap (fr : Int) = (fr : Int)) (hwk : IntKind.i64.wrap (kd : Int) = (kd : Int)) (hnm : (⟨l.nm.toArray⟩ : ByteArray) = nm)  (h3 : decide (0 ≤ l.rs3) = false) (hz : l.szs = false) (hn : l.nof = true) (hfr : l.frm = false) (ho21 : (((l.op : Nat) : Int) == 21) = false) (ho22 : (((l.op : Nat) : Int) == 22) = false) (ho23 : (((l.op : Nat) : Int) == 23) = false) (ho25 : (((l.op : Nat) : Int) == 25) = false) (hrm : decide (0 ≤ l.rm) = true) (hr2 : decide (0 ≤ l.rs2) = false) (w : World) (K0 : Box (∀ w, Calls Tryd.prog 44 #[.agg #[.int .u8 (l.op : Nat), .int .u8 (fo : Nat), .int .u8 (fr : Nat), .int .u8 (kd : Nat), .int .u32 0, .int .u32 0, .int .u8 (l.lay : Nat)], .int .i64 0, .int .i64 7, .int .i64 (l.opc : Nat)] w fun r w' => r = .returned (.agg (rwC r1)) ∧ Below w.heap.size w w')) (K1 : Box (∀ w, Calls Tryd.prog 44 #[.agg (rwC r1), .int .i64 12, .int .i64 3, .int .i64 l.rm] w fun r w' => r = .returned (.agg (rwC r2)) ∧ Below w.heap.size w w')) : Calls Tryd.prog 32 #[.agg (lnC l), .int .u8 (fo : Nat), .int .u8 (fr : Nat), .int .u8 (kd : Nat)] w fun r w' => r = .returned (.agg (ndC r2 nm)) ∧ Below w.heap.size w w' := by
  have hrf := rwC_fold
  have hsn := rwC_new
  obtain ⟨Rl_0, Rz_0, B0⟩ := opn2 w (Obj.cells (lnC l) 78) (Obj.cells #[.int .u8 0, .int .u8 0, .int .u8 0, .int .u8 0, .int .u32 0, .int .u32 0, .int .u8 0, .string ⟨#[]⟩] 47)
  go_enter Tryd.func32, Tryd.ntmps32
  obtain ⟨cl_0_0, cl_0_1, cl_0_2, cl_0_3, cl_0_4, cl_0_5, cl_0_6, cl_0_7, cl_0_8, cl_0_9, cl_0_10, cl_0_11⟩ := lnC_cells Rl_0
  go_wp2_with fail
  refine (K0.out _).mono ?_
  rintro r w1 ⟨rfl, b1⟩
  have B1 : Below w.heap.size w w1 := btr B0 b1
  have Rl_1 := heap_of b1 _ _ _ Rl_0
  have Rz_1 := heap_of b1 _ _ _ Rz_0
  clear b1 B0 Rl_0 cl_0_0 cl_0_1 cl_0_2 cl_0_3 cl_0_4 cl_0_5 cl_0_6 cl_0_7 cl_0_8 cl_0_9 cl_0_10 cl_0_11 Rz_0
  obtain ⟨cl_1_0, cl_1_1, cl_1_2, cl_1_3, cl_1_4, cl_1_5, cl_1_6, cl_1_7, cl_1_8, cl_1_9, cl_1_10, cl_1_11⟩ := lnC_cells Rl_1
  have S2 := box B1.size
  have Ll_2 : Box (w.heap.size < w1.heap.size) := box (Array.getElem?_eq_some_iff.1 Rl_1).1
  have Lz_2 : Box (w.heap.size + 1 < w1.heap.size) := box (Array.getElem?_eq_some_iff.1 Rz_1).1
  have Rr_2 := heap_alloc_last w1 (Obj.cells (rwC r1) 45)
  have B2 := btr B1 (bal w1 (Obj.cells (rwC r1) 45))
  have Rl_2 := heap_of (bal w1 (Obj.cells (rwC r1) 45)) _ _ _ Rl_1
  have Rz_2 := heap_of (bal w1 (Obj.cells (rwC r1) 45)) _ _ _ Rz_1
  clear B1 Rl_1 cl_1_0 cl_1_1 cl_1_2 cl_1_3 cl_1_4 cl_1_5 cl_1_6 cl_1_7 cl_1_8 cl_1_9 cl_1_10 cl_1_11 Rz_1
  obtain ⟨cl_2_0, cl_2_1, cl_2_2, cl_2_3, cl_2_4, cl_2_5, cl_2_6, cl_2_7, cl_2_8, cl_2_9, cl_2_10, cl_2_11⟩ := lnC_cells Rl_2
  obtain ⟨cr_2_0, cr_2_1, cr_2_2, cr_2_3, cr_2_4, cr_2_5, cr_2_6⟩ := rwC_cells Rr_2
  go_wp2_with fail
  refine (K1.out _).mono ?_
  rintro r w3 ⟨rfl, b3⟩
  have B3 : Below w.heap.size w w3 := btr B2 b3
  have Rl_3 := heap_of b3 _ _ _ Rl_2
  have Rz_3 := heap_of b3 _ _ _ Rz_2
  have Rr_3 := heap_of b3 _ _ _ Rr_2
  clear b3 B2 Rl_2 cl_2_0 cl_2_1 cl_2_2 cl_2_3 cl_2_4 cl_2_5 cl_2_6 cl_2_7 cl_2_8 cl_2_9 cl_2_10 cl_2_11 Rz_2 Rr_2 cr_2_0 cr_2_1 cr_2_2 cr_2_3 cr_2_4 cr_2_5 cr_2_6
  obtain ⟨cl_3_0, cl_3_1, cl_3_2, cl_3_3, cl_3_4, cl_3_5, cl_3_6, cl_3_7, cl_3_8, cl_3_9, cl_3_10, cl_3_11⟩ := lnC_cells Rl_3
  obtain ⟨cr_3_0, cr_3_1, cr_3_2, cr_3_3, cr_3_4, cr_3_5, cr_3_6⟩ := rwC_cells Rr_3
  have hst4 := rwC_store (r := r2) Rr_3
  have B4 : Below w.heap.size w (w3.setRow (w1.heap.size) (rwC r2)) := Below.setRow B3 (show w.heap.size ≤ w1.heap.size by first | exact Nat.le_refl _ | omega | (have := S2.out; have := Ll_2.out; have := Lz_2.out; omega))
  have Rr_4 : (w3.setRow (w1.heap.size) (rwC r2)).heap[w1.heap.size]? = some (Obj.cells (rwC r2) 45) := setRow_row Rr_3
  have Rl_4 : (w3.setRow (w1.heap.size) (rwC r2)).heap[w.heap.size]? = some (Obj.cells (lnC l) 78) := (setRow_other (by first | omega | (have := S2.out; have := Ll_2.out; have := Lz_2.out; omega))).trans Rl_3
  have Rz_4 : (w3.setRow (w1.heap.size) (rwC r2)).heap[w.heap.size + 1]? = some (Obj.cells #[.int .u8 0, .int .u8 0, .int .u8 0, .int .u8 0, .int .u32 0, .int .u32 0, .int .u8 0, .string ⟨#[]⟩] 47) := (setRow_other (by first | omega | (have := S2.out; have := Ll_2.out; have := Lz_2.out; omega))).trans Rz_3
  obtain ⟨w4, hw4⟩ : ∃ V, (w3.setRow (w1.heap.size) (rwC r2)) = V := ⟨_, rfl⟩
  rw [hw4] at hst4 B4 Rl_4 Rz_4 Rr_4
  clear hw4
  obtain ⟨cl_4_0, cl_4_1, cl_4_2, cl_4_3, cl_4_4, cl_4_5, cl_4_6, cl_4_7, cl_4_8, cl_4_9, cl_4_10, cl_4_11⟩ := lnC_cells Rl_4
  obtain ⟨cr_4_0, cr_4_1, cr_4_2, cr_4_3, cr_4_4, cr_4_5, cr_4_6⟩ := rwC_cells Rr_4
  clear hrf
  have hnf := ndC_fold r2 nm
  have hst := ndC_store (r := r2) (s := nm) Rz_4 rfl
  have rz := setRow_row (c' := ndC r2 nm) Rz_4
  have bz : Below w.heap.size w (w4.setRow (w.heap.size + 1) (ndC r2 nm)) := Below.setRow B4 (show w.heap.size ≤ w.heap.size + 1 by first | exact Nat.le_refl _ | omega | (have := S2.out; have := Ll_2.out; have := Lz_2.out; omega))
  obtain ⟨wz, hwz⟩ : ∃ V, w4.setRow (w.heap.size + 1) (ndC r2 nm) = V := ⟨_, rfl⟩
  rw [hwz] at hst rz bz
  clear hwz
  go_wp2
  exact bodyPost_ret (v := .agg (ndC r2 nm)) (res_nd Tryd.results32 rfl rz) rfl ⟨rfl, bz⟩
theorem b24_load0 (l : Ln) (fr kd : Nat) (r1 r2 : Rw) (nm zt n1 : ByteArray) (hnm : (⟨l.nm.toArray⟩ : ByteArray) = nm) (hc1 : nm ++ zt = n1) (hq1 : ¬ 9223372036854775807 < nm.size + zt.size) (h3 : decide (0 ≤ l.rs3) = false) (hz : l.szs = true) (hn : l.nof = false) (hfr : l.frm = false) (ho21 : (((l.op : Nat) : Int) == 21) = false) (ho22 : (((l.op : Nat) : Int) == 22) = false) (ho23 : (((l.op : Nat) : Int) == 23) = false) (ho25 : (((l.op : Nat) : Int) == 25) = false) (hr2 : decide (0 ≤ l.rs2) = false) (w : World) (K0 : Box (∀ w, Calls Tryd.prog 44 #[.agg #[.int .u8 (l.op : Nat), .int .u8 0, .int .u8 (fr : Nat), .int .u8 (kd : Nat), .int .u32 0, .int .u32 0, .int .u8 (l.lay : Nat)], .int .i64 0, .int .i64 7, .int .i64 (l.opc : Nat)] w fun r w' => r = .returned (.agg (rwC r1)) ∧ Below w.heap.size w w')) (Kzt : Box (∀ w, Calls Tryd.prog 45 #[.int .u8 0] w fun r w' => r = .returned (.string zt) ∧ Below w.heap.size w w')) (K1 : Box (∀ w, Calls Tryd.prog 44 #[.agg (rwC r1), .int .i64 12, .int .i64 3, .int .i64 2] w fun r w' => r = .returned (.agg (rwC r2)) ∧ Below w.heap.size w w')) : Calls Tryd.prog 32 #[.agg (lnC l), .int .u8 0, .int .u8 (fr : Nat), .int .u8 (kd : Nat)] w fun r w' => r = .returned (.agg (ndC r2 n1)) ∧ Below w.heap.size w w' := by
  have hrf := rwC_fold
  have hsn := rwC_new
  obtain ⟨Rl_0, Rz_0, B0⟩ := opn2 w (Obj.cells (lnC l) 78) (Obj.cells #[.int .u8 0, .int .u8 0, .int .u8 0, .int .u8 0, .int .u32 0, .int .u32 0, .int .u8 0, .string ⟨#[]⟩] 47)
  go_enter Tryd.func32, Tryd.ntmps32
  obtain ⟨cl_0_0, cl_0_1, cl_0_2, cl_0_3, cl_0_4, cl_0_5, cl_0_6, cl_0_7, cl_0_8, cl_0_9, cl_0_10, cl_0_11⟩ := lnC_cells Rl_0
  go_wp2_with fail
  refine (K0.out _).mono ?_
  rintro r w1 ⟨rfl, b1⟩
  have B1 : Below w.heap.size w w1 := btr B0 b1
  have Rl_1 := heap_of b1 _ _ _ Rl_0
  have Rz_1 := heap_of b1 _ _ _ Rz_0
  clear b1 B0 Rl_0 cl_0_0 cl_0_1 cl_0_2 cl_0_3 cl_0_4 cl_0_5 cl_0_6 cl_0_7 cl_0_8 cl_0_9 cl_0_10 cl_0_11 Rz_0
  obtain ⟨cl_1_0, cl_1_1, cl_1_2, cl_1_3, cl_1_4, cl_1_5, cl_1_6, cl_1_7, cl_1_8, cl_1_9, cl_1_10, cl_1_11⟩ := lnC_cells Rl_1
  have S2 := box B1.size
  have Ll_2 : Box (w.heap.size < w1.heap.size) := box (Array.getElem?_eq_some_iff.1 Rl_1).1
  have Lz_2 : Box (w.heap.size + 1 < w1.heap.size) := box (Array.getElem?_eq_some_iff.1 Rz_1).1
  have Rr_2 := heap_alloc_last w1 (Obj.cells (rwC r1) 45)
  have B2 := btr B1 (bal w1 (Obj.cells (rwC r1) 45))
  have Rl_2 := heap_of (bal w1 (Obj.cells (rwC r1) 45)) _ _ _ Rl_1
  have Rz_2 := heap_of (bal w1 (Obj.cells (rwC r1) 45)) _ _ _ Rz_1
  clear B1 Rl_1 cl_1_0 cl_1_1 cl_1_2 cl_1_3 cl_1_4 cl_1_5 cl_1_6 cl_1_7 cl_1_8 cl_1_9 cl_1_10 cl_1_11 Rz_1
  obtain ⟨cl_2_0, cl_2_1, cl_2_2, cl_2_3, cl_2_4, cl_2_5, cl_2_6, cl_2_7, cl_2_8, cl_2_9, cl_2_10, cl_2_11⟩ := lnC_cells Rl_2
  obtain ⟨cr_2_0, cr_2_1, cr_2_2, cr_2_3, cr_2_4, cr_2_5, cr_2_6⟩ := rwC_cells Rr_2
  have kk0 := cl_2_0
  have kk1 := cl_2_1
  have kk2 := cl_2_2
  have kk3 := cl_2_3
  have kk4 := cl_2_4
  have kk5 := cl_2_5
  have kk6 := cl_2_6
  have kk7 := cl_2_7
  have kk8 := cl_2_8
  have kk9 := cl_2_9
  have kk10 := cl_2_10
  have kk11 := cl_2_11
  have S3 := box B2.size
  have Ll_3 : Box (w.heap.size < (w1.alloc (Obj.cells (rwC r1) 45)).heap.size) := box (Array.getElem?_eq_some_iff.1 Rl_2).1
  have Lz_3 : Box (w.heap.size + 1 < (w1.alloc (Obj.cells (rwC r1) 45)).heap.size) := box (Array.getElem?_eq_some_iff.1 Rz_2).1
  have Lr_3 : Box (w1.heap.size < (w1.alloc (Obj.cells (rwC r1) 45)).heap.size) := box (Array.getElem?_eq_some_iff.1 Rr_2).1
  have Z3 := box (size_al w1 (Obj.cells (rwC r1) 45))
  have Rq_3 : ((w1.alloc (Obj.cells (rwC r1) 45)).alloc (Obj.cells #[.int .i64 2, .int .i64 3, .int .i64 1, .int .i64 4] 3)).heap[w1.heap.size + 1]? = some (Obj.cells #[.int .i64 2, .int .i64 3, .int .i64 1, .int .i64 4] 3) := by have := heap_alloc_last (w1.alloc (Obj.cells (rwC r1) 45)) (Obj.cells #[.int .i64 2, .int .i64 3, .int .i64 1, .int .i64 4] 3); simpa only [size_al] using this
  have B3 := btr B2 (bal (w1.alloc (Obj.cells (rwC r1) 45)) (Obj.cells #[.int .i64 2, .int .i64 3, .int .i64 1, .int .i64 4] 3))
  have Rl_3 := heap_of (bal (w1.alloc (Obj.cells (rwC r1) 45)) (Obj.cells #[.int .i64 2, .int .i64 3, .int .i64 1, .int .i64 4] 3)) _ _ _ Rl_2
  have Rz_3 := heap_of (bal (w1.alloc (Obj.cells (rwC r1) 45)) (Obj.cells #[.int .i64 2, .int .i64 3, .int .i64 1, .int .i64 4] 3)) _ _ _ Rz_2
  have Rr_3 := heap_of (bal (w1.alloc (Obj.cells (rwC r1) 45)) (Obj.cells #[.int .i64 2, .int .i64 3, .int .i64 1, .int .i64 4] 3)) _ _ _ Rr_2
  clear B2 Rl_2 cl_2_0 cl_2_1 cl_2_2 cl_2_3 cl_2_4 cl_2_5 cl_2_6 cl_2_7 cl_2_8 cl_2_9 cl_2_10 cl_2_11 Rz_2 Rr_2 cr_2_0 cr_2_1 cr_2_2 cr_2_3 cr_2_4 cr_2_5 cr_2_6
  obtain ⟨cl_3_0, cl_3_1, cl_3_2, cl_3_3, cl_3_4, cl_3_5, cl_3_6, cl_3_7, cl_3_8, cl_3_9, cl_3_10, cl_3_11⟩ := lnC_cells Rl_3
  obtain ⟨cr_3_0, cr_3_1, cr_3_2, cr_3_3, cr_3_4, cr_3_5, cr_3_6⟩ := rwC_cells Rr_3
  obtain ⟨cq_3_0, cq_3_1, cq_3_2, cq_3_3⟩ := cells4s Rq_3
  go_wp2_with fail
  refine (Kzt.out _).mono ?_
  rintro r w4 ⟨rfl, b4⟩
  have B4 : Below w.heap.size w w4 := btr B3 b4
  have Rl_4 := heap_of b4 _ _ _ Rl_3
  have Rz_4 := heap_of b4 _ _ _ Rz_3
  have Rr_4 := heap_of b4 _ _ _ Rr_3
  have Rq_4 := heap_of b4 _ _ _ Rq_3
  clear b4 B3 Rl_3 cl_3_0 cl_3_1 cl_3_2 cl_3_3 cl_3_4 cl_3_5 cl_3_6 cl_3_7 cl_3_8 cl_3_9 cl_3_10 cl_3_11 Rz_3 Rr_3 cr_3_0 cr_3_1 cr_3_2 cr_3_3 cr_3_4 cr_3_5 cr_3_6 Rq_3 cq_3_0 cq_3_1 cq_3_2 cq_3_3
  obtain ⟨cl_4_0, cl_4_1, cl_4_2, cl_4_3, cl_4_4, cl_4_5, cl_4_6, cl_4_7, cl_4_8, cl_4_9, cl_4_10, cl_4_11⟩ := lnC_cells Rl_4
  obtain ⟨cr_4_0, cr_4_1, cr_4_2, cr_4_3, cr_4_4, cr_4_5, cr_4_6⟩ := rwC_cells Rr_4
  obtain ⟨cq_4_0, cq_4_1, cq_4_2, cq_4_3⟩ := cells4s Rq_4
  go_wp2_with fail
  refine (K1.out _).mono ?_
  rintro r w5 ⟨rfl, b5⟩
  have B5 : Below w.heap.size w w5 := btr B4 b5
  have Rl_5 := heap_of b5 _ _ _ Rl_4
  have Rz_5 := heap_of b5 _ _ _ Rz_4
  have Rr_5 := heap_of b5 _ _ _ Rr_4
  have Rq_5 := heap_of b5 _ _ _ Rq_4
  clear b5 B4 Rl_4 cl_4_0 cl_4_1 cl_4_2 cl_4_3 cl_4_4 cl_4_5 cl_4_6 cl_4_7 cl_4_8 cl_4_9 cl_4_10 cl_4_11 Rz_4 Rr_4 cr_4_0 cr_4_1 cr_4_2 cr_4_3 cr_4_4 cr_4_5 cr_4_6 Rq_4 cq_4_0 cq_4_1 cq_4_2 cq_4_3
  obtain ⟨cl_5_0, cl_5_1, cl_5_2, cl_5_3, cl_5_4, cl_5_5, cl_5_6, cl_5_7, cl_5_8, cl_5_9, cl_5_10, cl_5_11⟩ := lnC_cells Rl_5
  obtain ⟨cr_5_0, cr_5_1, cr_5_2, cr_5_3, cr_5_4, cr_5_5, cr_5_6⟩ := rwC_cells Rr_5
  obtain ⟨cq_5_0, cq_5_1, cq_5_2, cq_5_3⟩ := cells4s Rq_5
  have hst6 := rwC_store (r := r2) Rr_5
  have B6 : Below w.heap.size w (w5.setRow (w1.heap.size) (rwC r2)) := Below.setRow B5 (show w.heap.size ≤ w1.heap.size by first | exact Nat.le_refl _ | omega | (have := S2.out; have := Ll_2.out; have := Lz_2.out; have := Z3.out; have := S3.out; have := Ll_3.out; have := Lz_3.out; have := Lr_3.out; omega))
  have Rr_6 : (w5.setRow (w1.heap.size) (rwC r2)).heap[w1.heap.size]? = some (Obj.cells (rwC r2) 45) := setRow_row Rr_5
  have Rl_6 : (w5.setRow (w1.heap.size) (rwC r2)).heap[w.heap.size]? = some (Obj.cells (lnC l) 78) := (setRow_other (by first | omega | (have := S2.out; have := Ll_2.out; have := Lz_2.out; have := Z3.out; have := S3.out; have := Ll_3.out; have := Lz_3.out; have := Lr_3.out; omega))).trans Rl_5
  have Rz_6 : (w5.setRow (w1.heap.size) (rwC r2)).heap[w.heap.size + 1]? = some (Obj.cells #[.int .u8 0, .int .u8 0, .int .u8 0, .int .u8 0, .int .u32 0, .int .u32 0, .int .u8 0, .string ⟨#[]⟩] 47) := (setRow_other (by first | omega | (have := S2.out; have := Ll_2.out; have := Lz_2.out; have := Z3.out; have := S3.out; have := Ll_3.out; have := Lz_3.out; have := Lr_3.out; omega))).trans Rz_5
  have Rq_6 : (w5.setRow (w1.heap.size) (rwC r2)).heap[w1.heap.size + 1]? = some (Obj.cells #[.int .i64 2, .int .i64 3, .int .i64 1, .int .i64 4] 3) := (setRow_other (by first | omega | (have := S2.out; have := Ll_2.out; have := Lz_2.out; have := Z3.out; have := S3.out; have := Ll_3.out; have := Lz_3.out; have := Lr_3.out; omega))).trans Rq_5
  obtain ⟨w6, hw6⟩ : ∃ V, (w5.setRow (w1.heap.size) (rwC r2)) = V := ⟨_, rfl⟩
  rw [hw6] at hst6 B6 Rl_6 Rz_6 Rr_6 Rq_6
  clear hw6
  obtain ⟨cl_6_0, cl_6_1, cl_6_2, cl_6_3, cl_6_4, cl_6_5, cl_6_6, cl_6_7, cl_6_8, cl_6_9, cl_6_10, cl_6_11⟩ := lnC_cells Rl_6
  obtain ⟨cr_6_0, cr_6_1, cr_6_2, cr_6_3, cr_6_4, cr_6_5, cr_6_6⟩ := rwC_cells Rr_6
  obtain ⟨cq_6_0, cq_6_1, cq_6_2, cq_6_3⟩ := cells4s Rq_6
  clear hrf
  have hnf := ndC_fold r2 n1
  have hst := ndC_store (r := r2) (s := n1) Rz_6 rfl
  have rz := setRow_row (c' := ndC r2 n1) Rz_6
  have bz : Below w.heap.size w (w6.setRow (w.heap.size + 1) (ndC r2 n1)) := Below.setRow B6 (show w.heap.size ≤ w.heap.size + 1 by first | exact Nat.le_refl _ | omega | (have := S2.out; have := Ll_2.out; have := Lz_2.out; have := Z3.out; have := S3.out; have := Ll_3.out; have := Lz_3.out; have := Lr_3.out; omega))
  obtain ⟨wz, hwz⟩ : ∃ V, w6.setRow (w.heap.size + 1) (ndC r2 n1) = V := ⟨_, rfl⟩
  rw [hwz] at hst rz bz
  clear hwz
  go_wp2
  exact bodyPost_ret (v := .agg (ndC r2 n1)) (res_nd Tryd.results32 rfl rz) rfl ⟨rfl, bz⟩
set_option maxRecDepth 100000 in
set_option maxHeartbeats 8000000 in
theorem b24_load1 (l : Ln) (fr kd : Nat) (r1 r2 : Rw) (nm zt n1 : ByteArray) (hnm : (⟨l.nm.toArray⟩ : ByteArray) = nm) (hc1 : nm ++ zt = n1) (hq1 : ¬ 9223372036854775807 < nm.size + zt.size) (h3 : decide (0 ≤ l.rs3) = false) (hz : l.szs = true) (hn : l.nof = false) (hfr : l.frm = false) (ho21 : (((l.op : Nat) : Int) == 21) = false) (ho22 : (((l.op : Nat) : Int) == 22) = false) (ho23 : (((l.op : Nat) : Int) == 23) = false) (ho25 : (((l.op : Nat) : Int) == 25) = false) (hr2 : decide (0 ≤ l.rs2) = false) (w : World) (K0 : Box (∀ w, Calls Tryd.prog 44 #[.agg #[.int .u8 (l.op : Nat), .int .u8 1, .int .u8 (fr : Nat), .int .u8 (kd : Nat), .int .u32 0, .int .u32 0, .int .u8 (l.lay : Nat)], .int .i64 0, .int .i64 7, .int .i64 (l.opc : Nat)] w fun r w' => r = .returned (.agg (rwC r1)) ∧ Below w.heap.size w w')) (Kzt : Box (∀ w, Calls Tryd.prog 45 #[.int .u8 1] w fun r w' => r = .returned (.string zt) ∧ Below w.heap.size w w')) (K1 : Box (∀ w, Calls Tryd.prog 44 #[.agg (rwC r1), .int .i64 12, .int .i64 3, .int .i64 3] w fun r w' => r = .returned (.agg (rwC r2)) ∧ Below w.heap.size w w')) : Calls Tryd.prog 32 #[.agg (lnC l), .int .u8 1, .int .u8 (fr : Nat), .int .u8 (kd : Nat)] w fun r w' => r = .returned (.agg (ndC r2 n1)) ∧ Below w.heap.size w w' := by
  have hrf := rwC_fold
  have hsn := rwC_new
  obtain ⟨Rl_0, Rz_0, B0⟩ := opn2 w (Obj.cells (lnC l) 78) (Obj.cells #[.int .u8 0, .int .u8 0, .int .u8 0, .int .u8 0, .int .u32 0, .int .u32 0, .int .u8 0, .string ⟨#[]⟩] 47)
  go_enter Tryd.func32, Tryd.ntmps32
  obtain ⟨cl_0_0, cl_0_1, cl_0_2, cl_0_3, cl_0_4, cl_0_5, cl_0_6, cl_0_7, cl_0_8, cl_0_9, cl_0_10, cl_0_11⟩ := lnC_cells Rl_0
  go_wp2_with fail
  refine (K0.out _).mono ?_
  rintro r w1 ⟨rfl, b1⟩
  have B1 : Below w.heap.size w w1 := btr B0 b1
  have Rl_1 := heap_of b1 _ _ _ Rl_0
  have Rz_1 := heap_of b1 _ _ _ Rz_0
  clear b1 B0 Rl_0 cl_0_0 cl_0_1 cl_0_2 cl_0_3 cl_0_4 cl_0_5 cl_0_6 cl_0_7 cl_0_8 cl_0_9 cl_0_10 cl_0_11 Rz_0
  obtain ⟨cl_1_0, cl_1_1, cl_1_2, cl_1_3, cl_1_4, cl_1_5, cl_1_6, cl_1_7, cl_1_8, cl_1_9, cl_1_10, cl_1_11⟩ := lnC_cells Rl_1
  have S2 := box B1.size
  have Ll_2 : Box (w.heap.size < w1.heap.size) := box (Array.getElem?_eq_some_iff.1 Rl_1).1
  have Lz_2 : Box (w.heap.size + 1 < w1.heap.size) := box (Array.getElem?_eq_some_iff.1 Rz_1).1
  have Rr_2 := heap_alloc_last w1 (Obj.cells (rwC r1) 45)
  have B2 := btr B1 (bal w1 (Obj.cells (rwC r1) 45))
  have Rl_2 := heap_of (bal w1 (Obj.cells (rwC r1) 45)) _ _ _ Rl_1
  have Rz_2 := heap_of (bal w1 (Obj.cells (rwC r1) 45)) _ _ _ Rz_1
  clear B1 Rl_1 cl_1_0 cl_1_1 cl_1_2 cl_1_3 cl_1_4 cl_1_5 cl_1_6 cl_1_7 cl_1_8 cl_1_9 cl_1_10 cl_1_11 Rz_1
  obtain ⟨cl_2_0, cl_2_1, cl_2_2, cl_2_3, cl_2_4, cl_2_5, cl_2_6, cl_2_7, cl_2_8, cl_2_9, cl_2_10, cl_2_11⟩ := lnC_cells Rl_2
  obtain ⟨cr_2_0, cr_2_1, cr_2_2, cr_2_3, cr_2_4, cr_2_5, cr_2_6⟩ := rwC_cells Rr_2
  have kk0 := cl_2_0
  have kk1 := cl_2_1
  have kk2 := cl_2_2
  have kk3 := cl_2_3
  have kk4 := cl_2_4
  have kk5 := cl_2_5
  have kk6 := cl_2_6
  have kk7 := cl_2_7
  have kk8 := cl_2_8
  have kk9 := cl_2_9
  have kk10 := cl_2_10
  have kk11 := cl_2_11
  have S3 := box B2.size
  have Ll_3 : Box (w.heap.size < (w1.alloc (Obj.cells (rwC r1) 45)).heap.size) := box (Array.getElem?_eq_some_iff.1 Rl_2).1
  have Lz_3 : Box (w.heap.size + 1 < (w1.alloc (Obj.cells (rwC r1) 45)).heap.size) := box (Array.getElem?_eq_some_iff.1 Rz_2).1
  have Lr_3 : Box (w1.heap.size < (w1.alloc (Obj.cells (rwC r1) 45)).heap.size) := box (Array.getElem?_eq_some_iff.1 Rr_2).1
  have Z3 := box (size_al w1 (Obj.cells (rwC r1) 45))
  have Rq_3 : ((w1.alloc (Obj.cells (rwC r1) 45)).alloc (Obj.cells #[.int .i64 2, .int .i64 3, .int .i64 1, .int .i64 4] 3)).heap[w1.heap.size + 1]? = some (Obj.cells #[.int .i64 2, .int .i64 3, .int .i64 1, .int .i64 4] 3) := by have := heap_alloc_last (w1.alloc (Obj.cells (rwC r1) 45)) (Obj.cells #[.int .i64 2, .int .i64 3, .int .i64 1, .int .i64 4] 3); simpa only [size_al] using this
  have B3 := btr B2 (bal (w1.alloc (Obj.cells (rwC r1) 45)) (Obj.cells #[.int .i64 2, .int .i64 3, .int .i64 1, .int .i64 4] 3))
  have Rl_3 := heap_of (bal (w1.alloc (Obj.cells (rwC r1) 45)) (Obj.cells #[.int .i64 2, .int .i64 3, .int .i64 1, .int .i64 4] 3)) _ _ _ Rl_2
  have Rz_3 := heap_of (bal (w1.alloc (Obj.cells (rwC r1) 45)) (Obj.cells #[.int .i64 2, .int .i64 3, .int .i64 1, .int .i64 4] 3)) _ _ _ Rz_2
  have Rr_3 := heap_of (bal (w1.alloc (Obj.cells (rwC r1) 45)) (Obj.cells #[.int .i64 2, .int .i64 3, .int .i64 1, .int .i64 4] 3)) _ _ _ Rr_2
  clear B2 Rl_2 cl_2_0 cl_2_1 cl_2_2 cl_2_3 cl_2_4 cl_2_5 cl_2_6 cl_2_7 cl_2_8 cl_2_9 cl_2_10 cl_2_11 Rz_2 Rr_2 cr_2_0 cr_2_1 cr_2_2 cr_2_3 cr_2_4 cr_2_5 cr_2_6
  obtain ⟨cl_3_0, cl_3_1, cl_3_2, cl_3_3, cl_3_4, cl_3_5, cl_3_6, cl_3_7, cl_3_8, cl_3_9, cl_3_10, cl_3_11⟩ := lnC_cells Rl_3
  obtain ⟨cr_3_0, cr_3_1, cr_3_2, cr_3_3, cr_3_4, cr_3_5, cr_3_6⟩ := rwC_cells Rr_3
  obtain ⟨cq_3_0, cq_3_1, cq_3_2, cq_3_3⟩ := cells4s Rq_3
  go_wp2_with fail
  refine (Kzt.out _).mono ?_
  rintro r w4 ⟨rfl, b4⟩
  have B4 : Below w.heap.size w w4 := btr B3 b4
  have Rl_4 := heap_of b4 _ _ _ Rl_3
  have Rz_4 := heap_of b4 _ _ _ Rz_3
  have Rr_4 := heap_of b4 _ _ _ Rr_3
  have Rq_4 := heap_of b4 _ _ _ Rq_3
  clear b4 B3 Rl_3 cl_3_0 cl_3_1 cl_3_2 cl_3_3 cl_3_4 cl_3_5 cl_3_6 cl_3_7 cl_3_8 cl_3_9 cl_3_10 cl_3_11 Rz_3 Rr_3 cr_3_0 cr_3_1 cr_3_2 cr_3_3 cr_3_4 cr_3_5 cr_3_6 Rq_3 cq_3_0 cq_3_1 cq_3_2 cq_3_3
  obtain ⟨cl_4_0, cl_4_1, cl_4_2, cl_4_3, cl_4_4, cl_4_5, cl_4_6, cl_4_7, cl_4_8, cl_4_9, cl_4_10, cl_4_11⟩ := lnC_cells Rl_4
  obtain ⟨cr_4_0, cr_4_1, cr_4_2, cr_4_3, cr_4_4, cr_4_5, cr_4_6⟩ := rwC_cells Rr_4
  obtain ⟨cq_4_0, cq_4_1, cq_4_2, cq_4_3⟩ := cells4s Rq_4
  go_wp2_with fail
  refine (K1.out _).mono ?_
  rintro r w5 ⟨rfl, b5⟩
  have B5 : Below w.heap.size w w5 := btr B4 b5
  have Rl_5 := heap_of b5 _ _ _ Rl_4
  have Rz_5 := heap_of b5 _ _ _ Rz_4
  have Rr_5 := heap_of b5 _ _ _ Rr_4
  have Rq_5 := heap_of b5 _ _ _ Rq_4
  clear b5 B4 Rl_4 cl_4_0 cl_4_1 cl_4_2 cl_4_3 cl_4_4 cl_4_5 cl_4_6 cl_4_7 cl_4_8 cl_4_9 cl_4_10 cl_4_11 Rz_4 Rr_4 cr_4_0 cr_4_1 cr_4_2 cr_4_3 cr_4_4 cr_4_5 cr_4_6 Rq_4 cq_4_0 cq_4_1 cq_4_2 cq_4_3
  obtain ⟨cl_5_0, cl_5_1, cl_5_2, cl_5_3, cl_5_4, cl_5_5, cl_5_6, cl_5_7, cl_5_8, cl_5_9, cl_5_10, cl_5_11⟩ := lnC_cells Rl_5
  obtain ⟨cr_5_0, cr_5_1, cr_5_2, cr_5_3, cr_5_4, cr_5_5, cr_5_6⟩ := rwC_cells Rr_5
  obtain ⟨cq_5_0, cq_5_1, cq_5_2, cq_5_3⟩ := cells4s Rq_5
  have hst6 := rwC_store (r := r2) Rr_5
  have B6 : Below w.heap.size w (w5.setRow (w1.heap.size) (rwC r2)) := Below.setRow B5 (show w.heap.size ≤ w1.heap.size by first | exact Nat.le_refl _ | omega | (have := S2.out; have := Ll_2.out; have := Lz_2.out; have := Z3.out; have := S3.out; have := Ll_3.out; have := Lz_3.out; have := Lr_3.out; omega))
  have Rr_6 : (w5.setRow (w1.heap.size) (rwC r2)).heap[w1.heap.size]? = some (Obj.cells (rwC r2) 45) := setRow_row Rr_5
  have Rl_6 : (w5.setRow (w1.heap.size) (rwC r2)).heap[w.heap.size]? = some (Obj.cells (lnC l) 78) := (setRow_other (by first | omega | (have := S2.out; have := Ll_2.out; have := Lz_2.out; have := Z3.out; have := S3.out; have := Ll_3.out; have := Lz_3.out; have := Lr_3.out; omega))).trans Rl_5
  have Rz_6 : (w5.setRow (w1.heap.size) (rwC r2)).heap[w.heap.size + 1]? = some (Obj.cells #[.int .u8 0, .int .u8 0, .int .u8 0, .int .u8 0, .int .u32 0, .int .u32 0, .int .u8 0, .string ⟨#[]⟩] 47) := (setRow_other (by first | omega | (have := S2.out; have := Ll_2.out; have := Lz_2.out; have := Z3.out; have := S3.out; have := Ll_3.out; have := Lz_3.out; have := Lr_3.out; omega))).trans Rz_5
  have Rq_6 : (w5.setRow (w1.heap.size) (rwC r2)).heap[w1.heap.size + 1]? = some (Obj.cells #[.int .i64 2, .int .i64 3, .int .i64 1, .int .i64 4] 3) := (setRow_other (by first | omega | (have := S2.out; have := Ll_2.out; have := Lz_2.out; have := Z3.out; have := S3.out; have := Ll_3.out; have := Lz_3.out; have := Lr_3.out; omega))).trans Rq_5
  obtain ⟨w6, hw6⟩ : ∃ V, (w5.setRow (w1.heap.size) (rwC r2)) = V := ⟨_, rfl⟩
  rw [hw6] at hst6 B6 Rl_6 Rz_6 Rr_6 Rq_6
  clear hw6
  obtain ⟨cl_6_0, cl_6_1, cl_6_2, cl_6_3, cl_6_4, cl_6_5, cl_6_6, cl_6_7, cl_6_8, cl_6_9, cl_6_10, cl_6_11⟩ := lnC_cells Rl_6
  obtain ⟨cr_6_0, cr_6_1, cr_6_2, cr_6_3, cr_6_4, cr_6_5, cr_6_6⟩ := rwC_cells Rr_6
  obtain ⟨cq_6_0, cq_6_1, cq_6_2, cq_6_3⟩ := cells4s Rq_6
  clear hrf
  have hnf := ndC_fold r2 n1
  have hst := ndC_store (r := r2) (s := n1) Rz_6 rfl
  have rz := setRow_row (c' := ndC r2 n1) Rz_6
  have bz : Below w.heap.size w (w6.setRow (w.heap.size + 1) (ndC r2 n1)) := Below.setRow B6 (show w.heap.size ≤ w.heap.size + 1 by first | exact Nat.le_refl _ | omega | (have := S2.out; have := Ll_2.out; have := Lz_2.out; have := Z3.out; have := S3.out; have := Ll_3.out; have := Lz_3.out; have := Lr_3.out; omega))
  obtain ⟨wz, hwz⟩ : ∃ V, w6.setRow (w.heap.size + 1) (ndC r2 n1) = V := ⟨_, rfl⟩
  rw [hwz] at hst rz bz
  clear hwz
  go_wp2
  exact bodyPost_ret (v := .agg (ndC r2 n1)) (res_nd Tryd.results32 rfl rz) rfl ⟨rfl, bz⟩
end Go.Proofs.YtaoccmopfflkmaaDoor
