/-
  What the functions that the statement reaches return: part 4 (BC2).
-/
import Derived.Test.YtaoccmopfflkmaaDoorIa03
namespace Go.Proofs.YtaoccmopfflkmaaDoor
set_option maxRecDepth 100000
set_option maxHeartbeats 40000000
set_option maxRecDepth 100000
open Go.RowKit WMath
set_option linter.unusedSimpArgs false
set_option linter.unusedVariables false
set_option maxRecDepth 100000 in
set_option maxHeartbeats 8000000 in
theorem b24_conv (l : Ln) (fo fr kd : Nat) (r1 r2 r3 r4 : Rw) (nm n1 lt n2 n3 lu n4 : ByteArray) (hwf : IntKind.i64.wrap (fo : Int) = (fo : Int)) (hwr : IntKind.i64.wrap (fr : Int) = (fr : Int)) (hwk : IntKind.i64.wrap (kd : Int) = (kd : Int)) (hnm : (⟨l.nm.toArray⟩ : ByteArray) = nm) (hc1 : nm ++ ⟨#[46]⟩ = n1) (hq1 : ¬ 9223372036854775807 < nm.size + 1) (hc2 : n1 ++ lt = n2) (hq2 : ¬ 9223372036854775807 < n1.size + lt.size) (hc3 : n2 ++ ⟨#[46]⟩ = n3) (hq3 : ¬ 9223372036854775807 < n2.size + 1) (hc4 : n3 ++ lu = n4) (hq4 : ¬ 9223372036854775807 < n3.size + lu.size) (h3 : decide (0 ≤ l.rs3) = true) (hz : l.szs = false) (hn : l.nof = false) (hfr : l.frm = true) (hrm : decide (0 ≤ l.rm) = false) (w : World) (K0 : Box (∀ w, Calls Tryd.prog 44 #[.agg #[.int .u8 (l.op : Nat), .int .u8 (fo : Nat), .int .u8 (fr : Nat), .int .u8 (kd : Nat), .int .u32 0, .int .u32 0, .int .u8 (l.lay : Nat)], .int .i64 0, .int .i64 7, .int .i64 (l.opc : Nat)] w fun r w' => r = .returned (.agg (rwC r1)) ∧ Below w.heap.size w w')) (K1 : Box (∀ w, Calls Tryd.prog 44 #[.agg (rwC r1), .int .i64 27, .int .i64 5, .int .i64 l.rs3] w fun r w' => r = .returned (.agg (rwC r2)) ∧ Below w.heap.size w w')) (K2 : Box (∀ w, Calls Tryd.prog 44 #[.agg (rwC r2), .int .i64 25, .int .i64 2, .int .i64 (fo : Nat)] w fun r w' => r = .returned (.agg (rwC r3)) ∧ Below w.heap.size w w')) (Klt : Box (∀ w, Calls Tryd.prog 46 #[.int .u8 (fo : Nat)] w fun r w' => r = .returned (.string lt) ∧ Below w.heap.size w w')) (Klu : Box (∀ w, Calls Tryd.prog 46 #[.int .u8 (fr : Nat)] w fun r w' => r = .returned (.string lu) ∧ Below w.heap.size w w')) (K3 : Box (∀ w, Calls Tryd.prog 44 #[.agg (rwC r3), .int .i64 20, .int .i64 5, .int .i64 (fr : Nat)] w fun r w' => r = .returned (.agg (rwC r4)) ∧ Below w.heap.size w w')) : Calls Tryd.prog 32 #[.agg (lnC l), .int .u8 (fo : Nat), .int .u8 (fr : Nat), .int .u8 (kd : Nat)] w fun r w' => r = .returned (.agg (ndC r4 n4)) ∧ Below w.heap.size w w' := by
  have hrf := rwC_fold
  have hsn := rwC_new
  obtain ⟨Rl_0, Rz_0, B0⟩ := opn2 w (Obj.cells (lnC l) 78) (Obj.cells #[.int .u8 0, .int .u8 0, .int .u8 0, .int .u8 0, .int .u32 0, .int .u32 0, .int .u8 0, .string ⟨#[]⟩] 47)
  go_enter Tryd.func32, Tryd.ntmps32
  obtain ⟨cl_0_0, cl_0_1, cl_0_2, cl_0_3, cl_0_4, cl_0_5, cl_0_6, cl_0_7, cl_0_8, cl_0_9, cl_0_10, cl_0_11⟩ := lnC_cells Rl_0
  go_wp2_with fail
  refine (K0.out _).mono ?_
  rintro r w1 ⟨rfl, b1⟩
  have B1 : Below w.heap.size w w1 := btr B0 b1
  have Rl_1 := heap_of b1 _ _ _ Rl_0
  have Rz_1 := heap_of b1 _ _ _ Rz_0
  clear b1 B0 Rl_0 cl_0_0 cl_0_1 cl_0_2 cl_0_3 cl_0_4 cl_0_5 cl_0_6 cl_0_7 cl_0_8 cl_0_9 cl_0_10 cl_0_11 Rz_0
  obtain ⟨cl_1_0, cl_1_1, cl_1_2, cl_1_3, cl_1_4, cl_1_5, cl_1_6, cl_1_7, cl_1_8, cl_1_9, cl_1_10, cl_1_11⟩ := lnC_cells Rl_1
  have S2 := box B1.size
  have Ll_2 : Box (w.heap.size < w1.heap.size) := box (Array.getElem?_eq_some_iff.1 Rl_1).1
  have Lz_2 : Box (w.heap.size + 1 < w1.heap.size) := box (Array.getElem?_eq_some_iff.1 Rz_1).1
  have Rr_2 := heap_alloc_last w1 (Obj.cells (rwC r1) 45)
  have B2 := btr B1 (bal w1 (Obj.cells (rwC r1) 45))
  have Rl_2 := heap_of (bal w1 (Obj.cells (rwC r1) 45)) _ _ _ Rl_1
  have Rz_2 := heap_of (bal w1 (Obj.cells (rwC r1) 45)) _ _ _ Rz_1
  clear B1 Rl_1 cl_1_0 cl_1_1 cl_1_2 cl_1_3 cl_1_4 cl_1_5 cl_1_6 cl_1_7 cl_1_8 cl_1_9 cl_1_10 cl_1_11 Rz_1
  obtain ⟨cl_2_0, cl_2_1, cl_2_2, cl_2_3, cl_2_4, cl_2_5, cl_2_6, cl_2_7, cl_2_8, cl_2_9, cl_2_10, cl_2_11⟩ := lnC_cells Rl_2
  obtain ⟨cr_2_0, cr_2_1, cr_2_2, cr_2_3, cr_2_4, cr_2_5, cr_2_6⟩ := rwC_cells Rr_2
  go_wp2_with fail
  refine (K1.out _).mono ?_
  rintro r w3 ⟨rfl, b3⟩
  have B3 : Below w.heap.size w w3 := btr B2 b3
  have Rl_3 := heap_of b3 _ _ _ Rl_2
  have Rz_3 := heap_of b3 _ _ _ Rz_2
  have Rr_3 := heap_of b3 _ _ _ Rr_2
  clear b3 B2 Rl_2 cl_2_0 cl_2_1 cl_2_2 cl_2_3 cl_2_4 cl_2_5 cl_2_6 cl_2_7 cl_2_8 cl_2_9 cl_2_10 cl_2_11 Rz_2 Rr_2 cr_2_0 cr_2_1 cr_2_2 cr_2_3 cr_2_4 cr_2_5 cr_2_6
  obtain ⟨cl_3_0, cl_3_1, cl_3_2, cl_3_3, cl_3_4, cl_3_5, cl_3_6, cl_3_7, cl_3_8, cl_3_9, cl_3_10, cl_3_11⟩ := lnC_cells Rl_3
  obtain ⟨cr_3_0, cr_3_1, cr_3_2, cr_3_3, cr_3_4, cr_3_5, cr_3_6⟩ := rwC_cells Rr_3
  have hst4 := rwC_store (r := r2) Rr_3
  have B4 : Below w.heap.size w (w3.setRow (w1.heap.size) (rwC r2)) := Below.setRow B3 (show w.heap.size ≤ w1.heap.size by first | exact Nat.le_refl _ | omega | (have := S2.out; have := Ll_2.out; have := Lz_2.out; omega))
  have Rr_4 : (w3.setRow (w1.heap.size) (rwC r2)).heap[w1.heap.size]? = some (Obj.cells (rwC r2) 45) := setRow_row Rr_3
  have Rl_4 : (w3.setRow (w1.heap.size) (rwC r2)).heap[w.heap.size]? = some (Obj.cells (lnC l) 78) := (setRow_other (by first | omega | (have := S2.out; have := Ll_2.out; have := Lz_2.out; omega))).trans Rl_3
  have Rz_4 : (w3.setRow (w1.heap.size) (rwC r2)).heap[w.heap.size + 1]? = some (Obj.cells #[.int .u8 0, .int .u8 0, .int .u8 0, .int .u8 0, .int .u32 0, .int .u32 0, .int .u8 0, .string ⟨#[]⟩] 47) := (setRow_other (by first | omega | (have := S2.out; have := Ll_2.out; have := Lz_2.out; omega))).trans Rz_3
  obtain ⟨w4, hw4⟩ : ∃ V, (w3.setRow (w1.heap.size) (rwC r2)) = V := ⟨_, rfl⟩
  rw [hw4] at hst4 B4 Rl_4 Rz_4 Rr_4
  clear hw4
  obtain ⟨cl_4_0, cl_4_1, cl_4_2, cl_4_3, cl_4_4, cl_4_5, cl_4_6, cl_4_7, cl_4_8, cl_4_9, cl_4_10, cl_4_11⟩ := lnC_cells Rl_4
  obtain ⟨cr_4_0, cr_4_1, cr_4_2, cr_4_3, cr_4_4, cr_4_5, cr_4_6⟩ := rwC_cells Rr_4
  go_wp2_with fail
  refine (K2.out _).mono ?_
  rintro r w5 ⟨rfl, b5⟩
  have B5 : Below w.heap.size w w5 := btr B4 b5
  have Rl_5 := heap_of b5 _ _ _ Rl_4
  have Rz_5 := heap_of b5 _ _ _ Rz_4
  have Rr_5 := heap_of b5 _ _ _ Rr_4
  clear b5 B4 Rl_4 cl_4_0 cl_4_1 cl_4_2 cl_4_3 cl_4_4 cl_4_5 cl_4_6 cl_4_7 cl_4_8 cl_4_9 cl_4_10 cl_4_11 Rz_4 Rr_4 cr_4_0 cr_4_1 cr_4_2 cr_4_3 cr_4_4 cr_4_5 cr_4_6
  obtain ⟨cl_5_0, cl_5_1, cl_5_2, cl_5_3, cl_5_4, cl_5_5, cl_5_6, cl_5_7, cl_5_8, cl_5_9, cl_5_10, cl_5_11⟩ := lnC_cells Rl_5
  obtain ⟨cr_5_0, cr_5_1, cr_5_2, cr_5_3, cr_5_4, cr_5_5, cr_5_6⟩ := rwC_cells Rr_5
  have hst6 := rwC_store (r := r3) Rr_5
  have B6 : Below w.heap.size w (w5.setRow (w1.heap.size) (rwC r3)) := Below.setRow B5 (show w.heap.size ≤ w1.heap.size by first | exact Nat.le_refl _ | omega | (have := S2.out; have := Ll_2.out; have := Lz_2.out; omega))
  have Rr_6 : (w5.setRow (w1.heap.size) (rwC r3)).heap[w1.heap.size]? = some (Obj.cells (rwC r3) 45) := setRow_row Rr_5
  have Rl_6 : (w5.setRow (w1.heap.size) (rwC r3)).heap[w.heap.size]? = some (Obj.cells (lnC l) 78) := (setRow_other (by first | omega | (have := S2.out; have := Ll_2.out; have := Lz_2.out; omega))).trans Rl_5
  have Rz_6 : (w5.setRow (w1.heap.size) (rwC r3)).heap[w.heap.size + 1]? = some (Obj.cells #[.int .u8 0, .int .u8 0, .int .u8 0, .int .u8 0, .int .u32 0, .int .u32 0, .int .u8 0, .string ⟨#[]⟩] 47) := (setRow_other (by first | omega | (have := S2.out; have := Ll_2.out; have := Lz_2.out; omega))).trans Rz_5
  obtain ⟨w6, hw6⟩ : ∃ V, (w5.setRow (w1.heap.size) (rwC r3)) = V := ⟨_, rfl⟩
  rw [hw6] at hst6 B6 Rl_6 Rz_6 Rr_6
  clear hw6
  obtain ⟨cl_6_0, cl_6_1, cl_6_2, cl_6_3, cl_6_4, cl_6_5, cl_6_6, cl_6_7, cl_6_8, cl_6_9, cl_6_10, cl_6_11⟩ := lnC_cells Rl_6
  obtain ⟨cr_6_0, cr_6_1, cr_6_2, cr_6_3, cr_6_4, cr_6_5, cr_6_6⟩ := rwC_cells Rr_6
  go_wp2_with fail
  refine (Klt.out _).mono ?_
  rintro r w7 ⟨rfl, b7⟩
  have B7 : Below w.heap.size w w7 := btr B6 b7
  have Rl_7 := heap_of b7 _ _ _ Rl_6
  have Rz_7 := heap_of b7 _ _ _ Rz_6
  have Rr_7 := heap_of b7 _ _ _ Rr_6
  clear b7 B6 Rl_6 cl_6_0 cl_6_1 cl_6_2 cl_6_3 cl_6_4 cl_6_5 cl_6_6 cl_6_7 cl_6_8 cl_6_9 cl_6_10 cl_6_11 Rz_6 Rr_6 cr_6_0 cr_6_1 cr_6_2 cr_6_3 cr_6_4 cr_6_5 cr_6_6
  obtain ⟨cl_7_0, cl_7_1, cl_7_2, cl_7_3, cl_7_4, cl_7_5, cl_7_6, cl_7_7, cl_7_8, cl_7_9, cl_7_10, cl_7_11⟩ := lnC_cells Rl_7
  obtain ⟨cr_7_0, cr_7_1, cr_7_2, cr_7_3, cr_7_4, cr_7_5, cr_7_6⟩ := rwC_cells Rr_7
  go_wp2_with fail
  refine (Klu.out _).mono ?_
  rintro r w8 ⟨rfl, b8⟩
  have B8 : Below w.heap.size w w8 := btr B7 b8
  have Rl_8 := heap_of b8 _ _ _ Rl_7
  have Rz_8 := heap_of b8 _ _ _ Rz_7
  have Rr_8 := heap_of b8 _ _ _ Rr_7
  clear b8 B7 Rl_7 cl_7_0 cl_7_1 cl_7_2 cl_7_3 cl_7_4 cl_7_5 cl_7_6 cl_7_7 cl_7_8 cl_7_9 cl_7_10 cl_7_11 Rz_7 Rr_7 cr_7_0 cr_7_1 cr_7_2 cr_7_3 cr_7_4 cr_7_5 cr_7_6
  obtain ⟨cl_8_0, cl_8_1, cl_8_2, cl_8_3, cl_8_4, cl_8_5, cl_8_6, cl_8_7, cl_8_8, cl_8_9, cl_8_10, cl_8_11⟩ := lnC_cells Rl_8
  obtain ⟨cr_8_0, cr_8_1, cr_8_2, cr_8_3, cr_8_4, cr_8_5, cr_8_6⟩ := rwC_cells Rr_8
  go_wp2_with fail
  refine (K3.out _).mono ?_
  rintro r w9 ⟨rfl, b9⟩
  have B9 : Below w.heap.size w w9 := btr B8 b9
  have Rl_9 := heap_of b9 _ _ _ Rl_8
  have Rz_9 := heap_of b9 _ _ _ Rz_8
  have Rr_9 := heap_of b9 _ _ _ Rr_8
  clear b9 B8 Rl_8 cl_8_0 cl_8_1 cl_8_2 cl_8_3 cl_8_4 cl_8_5 cl_8_6 cl_8_7 cl_8_8 cl_8_9 cl_8_10 cl_8_11 Rz_8 Rr_8 cr_8_0 cr_8_1 cr_8_2 cr_8_3 cr_8_4 cr_8_5 cr_8_6
  obtain ⟨cl_9_0, cl_9_1, cl_9_2, cl_9_3, cl_9_4, cl_9_5, cl_9_6, cl_9_7, cl_9_8, cl_9_9, cl_9_10, cl_9_11⟩ := lnC_cells Rl_9
  obtain ⟨cr_9_0, cr_9_1, cr_9_2, cr_9_3, cr_9_4, cr_9_5, cr_9_6⟩ := rwC_cells Rr_9
  have hst10 := rwC_store (r := r4) Rr_9
  have B10 : Below w.heap.size w (w9.setRow (w1.heap.size) (rwC r4)) := Below.setRow B9 (show w.heap.size ≤ w1.heap.size by first | exact Nat.le_refl _ | omega | (have := S2.out; have := Ll_2.out; have := Lz_2.out; omega))
  have Rr_10 : (w9.setRow (w1.heap.size) (rwC r4)).heap[w1.heap.size]? = some (Obj.cells (rwC r4) 45) := setRow_row Rr_9
  have Rl_10 : (w9.setRow (w1.heap.size) (rwC r4)).heap[w.heap.size]? = some (Obj.cells (lnC l) 78) := (setRow_other (by first | omega | (have := S2.out; have := Ll_2.out; have := Lz_2.out; omega))).trans Rl_9
  have Rz_10 : (w9.setRow (w1.heap.size) (rwC r4)).heap[w.heap.size + 1]? = some (Obj.cells #[.int .u8 0, .int .u8 0, .int .u8 0, .int .u8 0, .int .u32 0, .int .u32 0, .int .u8 0, .string ⟨#[]⟩] 47) := (setRow_other (by first | omega | (have := S2.out; have := Ll_2.out; have := Lz_2.out; omega))).trans Rz_9
  obtain ⟨w10, hw10⟩ : ∃ V, (w9.setRow (w1.heap.size) (rwC r4)) = V := ⟨_, rfl⟩
  rw [hw10] at hst10 B10 Rl_10 Rz_10 Rr_10
  clear hw10
  obtain ⟨cl_10_0, cl_10_1, cl_10_2, cl_10_3, cl_10_4, cl_10_5, cl_10_6, cl_10_7, cl_10_8, cl_10_9, cl_10_10, cl_10_11⟩ := lnC_cells Rl_10
  obtain ⟨cr_10_0, cr_10_1, cr_10_2, cr_10_3, cr_10_4, cr_10_5, cr_10_6⟩ := rwC_cells Rr_10
  clear hrf
  have hnf := ndC_fold r4 n4
  have hst := ndC_store (r := r4) (s := n4) Rz_10 rfl
  have rz := setRow_row (c' := ndC r4 n4) Rz_10
  have bz : Below w.heap.size w (w10.setRow (w.heap.size + 1) (ndC r4 n4)) := Below.setRow B10 (show w.heap.size ≤ w.heap.size + 1 by first | exact Nat.le_refl _ | omega | (have := S2.out; have := Ll_2.out; have := Lz_2.out; omega))
  obtain ⟨wz, hwz⟩ : ∃ V, w10.setRow (w.heap.size + 1) (ndC r4 n4) = V := ⟨_, rfl⟩
  rw [hwz] at hst rz bz
  clear hwz
  go_wp2
  exact bodyPost_ret (v := .agg (ndC r4 n4)) (res_nd Tryd.results32 rfl rz) rfl ⟨rfl, bz⟩
set_option maxRecDepth 100000 in
set_option maxHeartbeats 8000000 in
theorem b24_toint (l : Ln) (fo fr kd : Nat) (r1 r2 r3 r4 : Rw) (nm n1 lt n2 n3 lu n4 : ByteArray) (hwf : IntKind.i64.wrap (fo : Int) = (fo : Int)) (hwr : IntKind.i64.wrap (fr : Int) = (fr : Int)) (hwk : IntKind.i64.wrap (kd : Int) = (kd : Int)) (hnm : (⟨l.nm.toArray⟩ : ByteArray) = nm) (hc1 : nm ++ ⟨#[46]⟩ = n1) (hq1 : ¬ 9223372036854775807 < nm.size + 1) (hc2 : n1 ++ lt = n2) (hq2 : ¬ 9223372036854775807 < n1.size + lt.size) (hc3 : n2 ++ ⟨#[46]⟩ = n3) (hq3 : ¬ 9223372036854775807 < n2.size + 1) (hc4 : n3 ++ lu = n4) (hq4 : ¬ 9223372036854775807 < n3.size + lu.size) (h3 : decide (0 ≤ l.rs3) = true) (hz : l.szs = false) (hn : l.nof = false) (hfr : l.frm = false) (ho21 : (((l.op : Nat) : Int) == 21) = true) (ho22 : (((l.op : Nat) : Int) == 22) = false) (ho23 : (((l.op : Nat) : Int) == 23) = false) (ho25 : (((l.op : Nat) : Int) == 25) = false) (hrm : decide (0 ≤ l.rm) = false) (w : World) (K0 : Box (∀ w, Calls Tryd.prog 44 #[.agg #[.int .u8 (l.op : Nat), .int .u8 (fo : Nat), .int .u8 (fr : Nat), .int .u8 (kd : Nat), .int .u32 0, .int .u32 0, .int .u8 (l.lay : Nat)], .int .i64 0, .int .i64 7, .int .i64 (l.opc : Nat)] w fun r w' => r = .returned (.agg (rwC r1)) ∧ Below w.heap.size w w')) (K1 : Box (∀ w, Calls Tryd.prog 44 #[.agg (rwC r1), .int .i64 27, .int .i64 5, .int .i64 l.rs3] w fun r w' => r = .returned (.agg (rwC r2)) ∧ Below w.heap.size w w')) (K2 : Box (∀ w, Calls Tryd.prog 44 #[.agg (rwC r2), .int .i64 25, .int .i64 2, .int .i64 (fo : Nat)] w fun r w' => r = .returned (.agg (rwC r3)) ∧ Below w.heap.size w w')) (Klt : Box (∀ w, Calls Tryd.prog 47 #[.int .u8 (kd : Nat)] w fun r w' => r = .returned (.string lt) ∧ Below w.heap.size w w')) (Klu : Box (∀ w, Calls Tryd.prog 46 #[.int .u8 (fo : Nat)] w fun r w' => r = .returned (.string lu) ∧ Below w.heap.size w w')) (K3 : Box (∀ w, Calls Tryd.prog 44 #[.agg (rwC r3), .int .i64 20, .int .i64 5, .int .i64 (kd : Nat)] w fun r w' => r = .returned (.agg (rwC r4)) ∧ Below w.heap.size w w')) : Calls Tryd.prog 32 #[.agg (lnC l), .int .u8 (fo : Nat), .int .u8 (fr : Nat), .int .u8 (kd : Nat)] w fun r w' => r = .returned (.agg (ndC r4 n4)) ∧ Below w.heap.size w w' := by
  have hrf := rwC_fold
  have hsn := rwC_new
  obtain ⟨Rl_0, Rz_0, B0⟩ := opn2 w (Obj.cells (lnC l) 78) (Obj.cells #[.int .u8 0, .int .u8 0, .int .u8 0, .int .u8 0, .int .u32 0, .int .u32 0, .int .u8 0, .string ⟨#[]⟩] 47)
  go_enter Tryd.func32, Tryd.ntmps32
  obtain ⟨cl_0_0, cl_0_1, cl_0_2, cl_0_3, cl_0_4, cl_0_5, cl_0_6, cl_0_7, cl_0_8, cl_0_9, cl_0_10, cl_0_11⟩ := lnC_cells Rl_0
  go_wp2_with fail
  refine (K0.out _).mono ?_
  rintro r w1 ⟨rfl, b1⟩
  have B1 : Below w.heap.size w w1 := btr B0 b1
  have Rl_1 := heap_of b1 _ _ _ Rl_0
  have Rz_1 := heap_of b1 _ _ _ Rz_0
  clear b1 B0 Rl_0 cl_0_0 cl_0_1 cl_0_2 cl_0_3 cl_0_4 cl_0_5 cl_0_6 cl_0_7 cl_0_8 cl_0_9 cl_0_10 cl_0_11 Rz_0
  obtain ⟨cl_1_0, cl_1_1, cl_1_2, cl_1_3, cl_1_4, cl_1_5, cl_1_6, cl_1_7, cl_1_8, cl_1_9, cl_1_10, cl_1_11⟩ := lnC_cells Rl_1
  have S2 := box B1.size
  have Ll_2 : Box (w.heap.size < w1.heap.size) := box (Array.getElem?_eq_some_iff.1 Rl_1).1
  have Lz_2 : Box (w.heap.size + 1 < w1.heap.size) := box (Array.getElem?_eq_some_iff.1 Rz_1).1
  have Rr_2 := heap_alloc_last w1 (Obj.cells (rwC r1) 45)
  have B2 := btr B1 (bal w1 (Obj.cells (rwC r1) 45))
  have Rl_2 := heap_of (bal w1 (Obj.cells (rwC r1) 45)) _ _ _ Rl_1
  have Rz_2 := heap_of (bal w1 (Obj.cells (rwC r1) 45)) _ _ _ Rz_1
  clear B1 Rl_1 cl_1_0 cl_1_1 cl_1_2 cl_1_3 cl_1_4 cl_1_5 cl_1_6 cl_1_7 cl_1_8 cl_1_9 cl_1_10 cl_1_11 Rz_1
  obtain ⟨cl_2_0, cl_2_1, cl_2_2, cl_2_3, cl_2_4, cl_2_5, cl_2_6, cl_2_7, cl_2_8, cl_2_9, cl_2_10, cl_2_11⟩ := lnC_cells Rl_2
  obtain ⟨cr_2_0, cr_2_1, cr_2_2, cr_2_3, cr_2_4, cr_2_5, cr_2_6⟩ := rwC_cells Rr_2
  go_wp2_with fail
  refine (K1.out _).mono ?_
  rintro r w3 ⟨rfl, b3⟩
  have B3 : Below w.heap.size w w3 := btr B2 b3
  have Rl_3 := heap_of b3 _ _ _ Rl_2
  have Rz_3 := heap_of b3 _ _ _ Rz_2
  have Rr_3 := heap_of b3 _ _ _ Rr_2
  clear b3 B2 Rl_2 cl_2_0 cl_2_1 cl_2_2 cl_2_3 cl_2_4 cl_2_5 cl_2_6 cl_2_7 cl_2_8 cl_2_9 cl_2_10 cl_2_11 Rz_2 Rr_2 cr_2_0 cr_2_1 cr_2_2 cr_2_3 cr_2_4 cr_2_5 cr_2_6
  obtain ⟨cl_3_0, cl_3_1, cl_3_2, cl_3_3, cl_3_4, cl_3_5, cl_3_6, cl_3_7, cl_3_8, cl_3_9, cl_3_10, cl_3_11⟩ := lnC_cells Rl_3
  obtain ⟨cr_3_0, cr_3_1, cr_3_2, cr_3_3, cr_3_4, cr_3_5, cr_3_6⟩ := rwC_cells Rr_3
  have hst4 := rwC_store (r := r2) Rr_3
  have B4 : Below w.heap.size w (w3.setRow (w1.heap.size) (rwC r2)) := Below.setRow B3 (show w.heap.size ≤ w1.heap.size by first | exact Nat.le_refl _ | omega | (have := S2.out; have := Ll_2.out; have := Lz_2.out; omega))
  have Rr_4 : (w3.setRow (w1.heap.size) (rwC r2)).heap[w1.heap.size]? = some (Obj.cells (rwC r2) 45) := setRow_row Rr_3
  have Rl_4 : (w3.setRow (w1.heap.size) (rwC r2)).heap[w.heap.size]? = some (Obj.cells (lnC l) 78) := (setRow_other (by first | omega | (have := S2.out; have := Ll_2.out; have := Lz_2.out; omega))).trans Rl_3
  have Rz_4 : (w3.setRow (w1.heap.size) (rwC r2)).heap[w.heap.size + 1]? = some (Obj.cells #[.int .u8 0, .int .u8 0, .int .u8 0, .int .u8 0, .int .u32 0, .int .u32 0, .int .u8 0, .string ⟨#[]⟩] 47) := (setRow_other (by first | omega | (have := S2.out; have := Ll_2.out; have := Lz_2.out; omega))).trans Rz_3
  obtain ⟨w4, hw4⟩ : ∃ V, (w3.setRow (w1.heap.size) (rwC r2)) = V := ⟨_, rfl⟩
  rw [hw4] at hst4 B4 Rl_4 Rz_4 Rr_4
  clear hw4
  obtain ⟨cl_4_0, cl_4_1, cl_4_2, cl_4_3, cl_4_4, cl_4_5, cl_4_6, cl_4_7, cl_4_8, cl_4_9, cl_4_10, cl_4_11⟩ := lnC_cells Rl_4
  obtain ⟨cr_4_0, cr_4_1, cr_4_2, cr_4_3, cr_4_4, cr_4_5, cr_4_6⟩ := rwC_cells Rr_4
  go_wp2_with fail
  refine (K2.out _).mono ?_
  rintro r w5 ⟨rfl, b5⟩
  have B5 : Below w.heap.size w w5 := btr B4 b5
  have Rl_5 := heap_of b5 _ _ _ Rl_4
  have Rz_5 := heap_of b5 _ _ _ Rz_4
  have Rr_5 := heap_of b5 _ _ _ Rr_4
  clear b5 B4 Rl_4 cl_4_0 cl_4_1 cl_4_2 cl_4_3 cl_4_4 cl_4_5 cl_4_6 cl_4_7 cl_4_8 cl_4_9 cl_4_10 cl_4_11 Rz_4 Rr_4 cr_4_0 cr_4_1 cr_4_2 cr_4_3 cr_4_4 cr_4_5 cr_4_6
  obtain ⟨cl_5_0, cl_5_1, cl_5_2, cl_5_3, cl_5_4, cl_5_5, cl_5_6, cl_5_7, cl_5_8, cl_5_9, cl_5_10, cl_5_11⟩ := lnC_cells Rl_5
  obtain ⟨cr_5_0, cr_5_1, cr_5_2, cr_5_3, cr_5_4, cr_5_5, cr_5_6⟩ := rwC_cells Rr_5
  have hst6 := rwC_store (r := r3) Rr_5
  have B6 : Below w.heap.size w (w5.setRow (w1.heap.size) (rwC r3)) := Below.setRow B5 (show w.heap.size ≤ w1.heap.size by first | exact Nat.le_refl _ | omega | (have := S2.out; have := Ll_2.out; have := Lz_2.out; omega))
  have Rr_6 : (w5.setRow (w1.heap.size) (rwC r3)).heap[w1.heap.size]? = some (Obj.cells (rwC r3) 45) := setRow_row Rr_5
  have Rl_6 : (w5.setRow (w1.heap.size) (rwC r3)).heap[w.heap.size]? = some (Obj.cells (lnC l) 78) := (setRow_other (by first | omega | (have := S2.out; have := Ll_2.out; have := Lz_2.out; omega))).trans Rl_5
  have Rz_6 : (w5.setRow (w1.heap.size) (rwC r3)).heap[w.heap.size + 1]? = some (Obj.cells #[.int .u8 0, .int .u8 0, .int .u8 0, .int .u8 0, .int .u32 0, .int .u32 0, .int .u8 0, .string ⟨#[]⟩] 47) := (setRow_other (by first | omega | (have := S2.out; have := Ll_2.out; have := Lz_2.out; omega))).trans Rz_5
  obtain ⟨w6, hw6⟩ : ∃ V, (w5.setRow (w1.heap.size) (rwC r3)) = V := ⟨_, rfl⟩
  rw [hw6] at hst6 B6 Rl_6 Rz_6 Rr_6
  clear hw6
  obtain ⟨cl_6_0, cl_6_1, cl_6_2, cl_6_3, cl_6_4, cl_6_5, cl_6_6, cl_6_7, cl_6_8, cl_6_9, cl_6_10, cl_6_11⟩ := lnC_cells Rl_6
  obtain ⟨cr_6_0, cr_6_1, cr_6_2, cr_6_3, cr_6_4, cr_6_5, cr_6_6⟩ := rwC_cells Rr_6
  go_wp2_with fail
  refine (Klt.out _).mono ?_
  rintro r w7 ⟨rfl, b7⟩
  have B7 : Below w.heap.size w w7 := btr B6 b7
  have Rl_7 := heap_of b7 _ _ _ Rl_6
  have Rz_7 := heap_of b7 _ _ _ Rz_6
  have Rr_7 := heap_of b7 _ _ _ Rr_6
  clear b7 B6 Rl_6 cl_6_0 cl_6_1 cl_6_2 cl_6_3 cl_6_4 cl_6_5 cl_6_6 cl_6_7 cl_6_8 cl_6_9 cl_6_10 cl_6_11 Rz_6 Rr_6 cr_6_0 cr_6_1 cr_6_2 cr_6_3 cr_6_4 cr_6_5 cr_6_6
  obtain ⟨cl_7_0, cl_7_1, cl_7_2, cl_7_3, cl_7_4, cl_7_5, cl_7_6, cl_7_7, cl_7_8, cl_7_9, cl_7_10, cl_7_11⟩ := lnC_cells Rl_7
  obtain ⟨cr_7_0, cr_7_1, cr_7_2, cr_7_3, cr_7_4, cr_7_5, cr_7_6⟩ := rwC_cells Rr_7
  go_wp2_with fail
  refine (Klu.out _).mono ?_
  rintro r w8 ⟨rfl, b8⟩
  have B8 : Below w.heap.size w w8 := btr B7 b8
  have Rl_8 := heap_of b8 _ _ _ Rl_7
  have Rz_8 := heap_of b8 _ _ _ Rz_7
  have Rr_8 := heap_of b8 _ _ _ Rr_7
  clear b8 B7 Rl_7 cl_7_0 cl_7_1 cl_7_2 cl_7_3 cl_7_4 cl_7_5 cl_7_6 cl_7_7 cl_7_8 cl_7_9 cl_7_10 cl_7_11 Rz_7 Rr_7 cr_7_0 cr_7_1 cr_7_2 cr_7_3 cr_7_4 cr_7_5 cr_7_6
  obtain ⟨cl_8_0, cl_8_1, cl_8_2, cl_8_3, cl_8_4, cl_8_5, cl_8_6, cl_8_7, cl_8_8, cl_8_9, cl_8_10, cl_8_11⟩ := lnC_cells Rl_8
  obtain ⟨cr_8_0, cr_8_1, cr_8_2, cr_8_3, cr_8_4, cr_8_5, cr_8_6⟩ := rwC_cells Rr_8
  go_wp2_with fail
  refine (K3.out _).mono ?_
  rintro r w9 ⟨rfl, b9⟩
  have B9 : Below w.heap.size w w9 := btr B8 b9
  have Rl_9 := heap_of b9 _ _ _ Rl_8
  have Rz_9 := heap_of b9 _ _ _ Rz_8
  have Rr_9 := heap_of b9 _ _ _ Rr_8
  clear b9 B8 Rl_8 cl_8_0 cl_8_1 cl_8_2 cl_8_3 cl_8_4 cl_8_5 cl_8_6 cl_8_7 cl_8_8 cl_8_9 cl_8_10 cl_8_11 Rz_8 Rr_8 cr_8_0 cr_8_1 cr_8_2 cr_8_3 cr_8_4 cr_8_5 cr_8_6
  obtain ⟨cl_9_0, cl_9_1, cl_9_2, cl_9_3, cl_9_4, cl_9_5, cl_9_6, cl_9_7, cl_9_8, cl_9_9, cl_9_10, cl_9_11⟩ := lnC_cells Rl_9
  obtain ⟨cr_9_0, cr_9_1, cr_9_2, cr_9_3, cr_9_4, cr_9_5, cr_9_6⟩ := rwC_cells Rr_9
  have hst10 := rwC_store (r := r4) Rr_9
  have B10 : Below w.heap.size w (w9.setRow (w1.heap.size) (rwC r4)) := Below.setRow B9 (show w.heap.size ≤ w1.heap.size by first | exact Nat.le_refl _ | omega | (have := S2.out; have := Ll_2.out; have := Lz_2.out; omega))
  have Rr_10 : (w9.setRow (w1.heap.size) (rwC r4)).heap[w1.heap.size]? = some (Obj.cells (rwC r4) 45) := setRow_row Rr_9
  have Rl_10 : (w9.setRow (w1.heap.size) (rwC r4)).heap[w.heap.size]? = some (Obj.cells (lnC l) 78) := (setRow_other (by first | omega | (have := S2.out; have := Ll_2.out; have := Lz_2.out; omega))).trans Rl_9
  have Rz_10 : (w9.setRow (w1.heap.size) (rwC r4)).heap[w.heap.size + 1]? = some (Obj.cells #[.int .u8 0, .int .u8 0, .int .u8 0, .int .u8 0, .int .u32 0, .int .u32 0, .int .u8 0, .string ⟨#[]⟩] 47) := (setRow_other (by first | omega | (have := S2.out; have := Ll_2.out; have := Lz_2.out; omega))).trans Rz_9
  obtain ⟨w10, hw10⟩ : ∃ V, (w9.setRow (w1.heap.size) (rwC r4)) = V := ⟨_, rfl⟩
  rw [hw10] at hst10 B10 Rl_10 Rz_10 Rr_10
  clear hw10
  obtain ⟨cl_10_0, cl_10_1, cl_10_2, cl_10_3, cl_10_4, cl_10_5, cl_10_6, cl_10_7, cl_10_8, cl_10_9, cl_10_10, cl_10_11⟩ := lnC_cells Rl_10
  obtain ⟨cr_10_0, cr_10_1, cr_10_2, cr_10_3, cr_10_4, cr_10_5, cr_10_6⟩ := rwC_cells Rr_10
  clear hrf
  have hnf := ndC_fold r4 n4
  have hst := ndC_store (r := r4) (s := n4) Rz_10 rfl
  have rz := setRow_row (c' := ndC r4 n4) Rz_10
  have bz : Below w.heap.size w (w10.setRow (w.heap.size + 1) (ndC r4 n4)) := Below.setRow B10 (show w.heap.size ≤ w.heap.size + 1 by first | exact Nat.le_refl _ | omega | (have := S2.out; have := Ll_2.out; have := Lz_2.out; omega))
  obtain ⟨wz, hwz⟩ : ∃ V, w10.setRow (w.heap.size + 1) (ndC r4 n4) = V := ⟨_, rfl⟩
  rw [hwz] at hst rz bz
  clear hwz
  go_wp2
  exact bodyPost_ret (v := .agg (ndC r4 n4)) (res_nd Tryd.results32 rfl rz) rfl ⟨rfl, bz⟩
set_option maxRecDepth 100000 in
set_option maxHeartbeats 8000000 in
theorem b24_fromint (l : Ln) (fo fr kd : Nat) (r1 r2 r3 r4 : Rw) (nm n1 lt n2 n3 lu n4 : ByteArray) (hwf : IntKind.i64.wrap (fo : Int) = (fo : Int)) (hwr : IntKind.i64.wrap (fr : Int) = (fr : Int)) (hwk : IntKind.i64.wrap (kd : Int) = (kd : Int)) (hnm : (⟨l.nm.toArray⟩ : ByteArray) = nm) (hc1 : nm ++ ⟨#[46]⟩ = n1) (hq1 : ¬ 9223372036854775807 < nm.size + 1) (hc2 : n1 ++ lt = n2) (hq2 : ¬ 9223372036854775807 < n1.size + lt.size) (hc3 : n2 ++ ⟨#[46]⟩ = n3) (hq3 : ¬ 9223372036854775807 < n2.size + 1) (hc4 : n3 ++ lu = n4) (hq4 : ¬ 9223372036854775807 < n3.size + lu.size) (h3 : decide (0 ≤ l.rs3) = true) (hz : l.szs = false) (hn : l.nof = false) (hfr : l.frm = false) (ho21 : (((l.op : Nat) : Int) == 21) = false) (ho22 : (((l.op : Nat) : Int) == 22) = true) (ho23 : (((l.op : Nat) : Int) == 23) = false) (ho25 : (((l.op : Nat) : Int) == 25) = false) (hrm : decide (0 ≤ l.rm) = false) (w : World) (K0 : Box (∀ w, Calls Tryd.prog 44 #[.agg #[.int .u8 (l.op : Nat), .int .u8 (fo : Nat), .int .u8 (fr : Nat), .int .u8 (kd : Nat), .int .u32 0, .int .u32 0, .int .u8 (l.lay : Nat)], .int .i64 0, .int .i64 7, .int .i64 (l.opc : Nat)] w fun r w' => r = .returned (.agg (rwC r1)) ∧ Below w.heap.size w w')) (K1 : Box (∀ w, Calls Tryd.prog 44 #[.agg (rwC r1), .int .i64 27, .int .i64 5, .int .i64 l.rs3] w fun r w' => r = .returned (.agg (rwC r2)) ∧ Below w.heap.size w w')) (K2 : Box (∀ w, Calls Tryd.prog 44 #[.agg (rwC r2), .int .i64 25, .int .i64 2, .int .i64 (fo : Nat)] w fun r w' => r = .returned (.agg (rwC r3)) ∧ Below w.heap.size w w')) (Klt : Box (∀ w, Calls Tryd.prog 46 #[.int .u8 (fo : Nat)] w fun r w' => r = .returned (.string lt) ∧ Below w.heap.size w w')) (Klu : Box (∀ w, Calls Tryd.prog 47 #[.int .u8 (kd : Nat)] w fun r w' => r = .returned (.string lu) ∧ Below w.heap.size w w')) (K3 : Box (∀ w, Calls Tryd.prog 44 #[.agg (rwC r3), .int .i64 20, .int .i64 5, .int .i64 (kd : Nat)] w fun r w' => r = .returned (.agg (rwC r4)) ∧ Below w.heap.size w w')) : Calls Tryd.prog 32 #[.agg (lnC l), .int .u8 (fo : Nat), .int .u8 (fr : Nat), .int .u8 (kd : Nat)] w fun r w' => r = .returned (.agg (ndC r4 n4)) ∧ Below w.heap.size w w' := by
  have hrf := rwC_fold
  have hsn := rwC_new
  obtain ⟨Rl_0, Rz_0, B0⟩ := opn2 w (Obj.cells (lnC l) 78) (Obj.cells #[.int .u8 0, .int .u8 0, .int .u8 0, .int .u8 0, .int .u32 0, .int .u32 0, .int .u8 0, .string ⟨#[]⟩] 47)
  go_enter Tryd.func32, Tryd.ntmps32
  obtain ⟨cl_0_0, cl_0_1, cl_0_2, cl_0_3, cl_0_4, cl_0_5, cl_0_6, cl_0_7, cl_0_8, cl_0_9, cl_0_10, cl_0_11⟩ := lnC_cells Rl_0
  go_wp2_with fail
  refine (K0.out _).mono ?_
  rintro r w1 ⟨rfl, b1⟩
  have B1 : Below w.heap.size w w1 := btr B0 b1
  have Rl_1 := heap_of b1 _ _ _ Rl_0
  have Rz_1 := heap_of b1 _ _ _ Rz_0
  clear b1 B0 Rl_0 cl_0_0 cl_0_1 cl_0_2 cl_0_3 cl_0_4 cl_0_5 cl_0_6 cl_0_7 cl_0_8 cl_0_9 cl_0_10 cl_0_11 Rz_0
  obtain ⟨cl_1_0, cl_1_1, cl_1_2, cl_1_3, cl_1_4, cl_1_5, cl_1_6, cl_1_7, cl_1_8, cl_1_9, cl_1_10, cl_1_11⟩ := lnC_cells Rl_1
  have S2 := box B1.size
  have Ll_2 : Box (w.heap.size < w1.heap.size) := box (Array.getElem?_eq_some_iff.1 Rl_1).1
  have Lz_2 : Box (w.heap.size + 1 < w1.heap.size) := box (Array.getElem?_eq_some_iff.1 Rz_1).1
  have Rr_2 := heap_alloc_last w1 (Obj.cells (rwC r1) 45)
  have B2 := btr B1 (bal w1 (Obj.cells (rwC r1) 45))
  have Rl_2 := heap_of (bal w1 (Obj.cells (rwC r1) 45)) _ _ _ Rl_1
  have Rz_2 := heap_of (bal w1 (Obj.cells (rwC r1) 45)) _ _ _ Rz_1
  clear B1 Rl_1 cl_1_0 cl_1_1 cl_1_2 cl_1_3 cl_1_4 cl_1_5 cl_1_6 cl_1_7 cl_1_8 cl_1_9 cl_1_10 cl_1_11 Rz_1
  obtain ⟨cl_2_0, cl_2_1, cl_2_2, cl_2_3, cl_2_4, cl_2_5, cl_2_6, cl_2_7, cl_2_8, cl_2_9, cl_2_10, cl_2_11⟩ := lnC_cells Rl_2
  obtain ⟨cr_2_0, cr_2_1, cr_2_2, cr_2_3, cr_2_4, cr_2_5, cr_2_6⟩ := rwC_cells Rr_2
  go_wp2_with fail
  refine (K1.out _).mono ?_
  rintro r w3 ⟨rfl, b3⟩
  have B3 : Below w.heap.size w w3 := btr B2 b3
  have Rl_3 := heap_of b3 _ _ _ Rl_2
  have Rz_3 := heap_of b3 _ _ _ Rz_2
  have Rr_3 := heap_of b3 _ _ _ Rr_2
  clear b3 B2 Rl_2 cl_2_0 cl_2_1 cl_2_2 cl_2_3 cl_2_4 cl_2_5 cl_2_6 cl_2_7 cl_2_8 cl_2_9 cl_2_10 cl_2_11 Rz_2 Rr_2 cr_2_0 cr_2_1 cr_2_2 cr_2_3 cr_2_4 cr_2_5 cr_2_6
  obtain ⟨cl_3_0, cl_3_1, cl_3_2, cl_3_3, cl_3_4, cl_3_5, cl_3_6, cl_3_7, cl_3_8, cl_3_9, cl_3_10, cl_3_11⟩ := lnC_cells Rl_3
  obtain ⟨cr_3_0, cr_3_1, cr_3_2, cr_3_3, cr_3_4, cr_3_5, cr_3_6⟩ := rwC_cells Rr_3
  have hst4 := rwC_store (r := r2) Rr_3
  have B4 : Below w.heap.size w (w3.setRow (w1.heap.size) (rwC r2)) := Below.setRow B3 (show w.heap.size ≤ w1.heap.size by first | exact Nat.le_refl _ | omega | (have := S2.out; have := Ll_2.out; have := Lz_2.out; omega))
  have Rr_4 : (w3.setRow (w1.heap.size) (rwC r2)).heap[w1.heap.size]? = some (Obj.cells (rwC r2) 45) := setRow_row Rr_3
  have Rl_4 : (w3.setRow (w1.heap.size) (rwC r2)).heap[w.heap.size]? = some (Obj.cells (lnC l) 78) := (setRow_other (by first | omega | (have := S2.out; have := Ll_2.out; have := Lz_2.out; omega))).trans Rl_3
  have Rz_4 : (w3.setRow (w1.heap.size) (rwC r2)).heap[w.heap.size + 1]? = some (Obj.cells #[.int .u8 0, .int .u8 0, .int .u8 0, .int .u8 0, .int .u32 0, .int .u32 0, .int .u8 0, .string ⟨#[]⟩] 47) := (setRow_other (by first | omega | (have := S2.out; have := Ll_2.out; have := Lz_2.out; omega))).trans Rz_3
  obtain ⟨w4, hw4⟩ : ∃ V, (w3.setRow (w1.heap.size) (rwC r2)) = V := ⟨_, rfl⟩
  rw [hw4] at hst4 B4 Rl_4 Rz_4 Rr_4
  clear hw4
  obtain ⟨cl_4_0, cl_4_1, cl_4_2, cl_4_3, cl_4_4, cl_4_5, cl_4_6, cl_4_7, cl_4_8, cl_4_9, cl_4_10, cl_4_11⟩ := lnC_cells Rl_4
  obtain ⟨cr_4_0, cr_4_1, cr_4_2, cr_4_3, cr_4_4, cr_4_5, cr_4_6⟩ := rwC_cells Rr_4
  go_wp2_with fail
  refine (K2.out _).mono ?_
  rintro r w5 ⟨rfl, b5⟩
  have B5 : Below w.heap.size w w5 := btr B4 b5
  have Rl_5 := heap_of b5 _ _ _ Rl_4
  have Rz_5 := heap_of b5 _ _ _ Rz_4
  have Rr_5 := heap_of b5 _ _ _ Rr_4
  clear b5 B4 Rl_4 cl_4_0 cl_4_1 cl_4_2 cl_4_3 cl_4_4 cl_4_5 cl_4_6 cl_4_7 cl_4_8 cl_4_9 cl_4_10 cl_4_11 Rz_4 Rr_4 cr_4_0 cr_4_1 cr_4_2 cr_4_3 cr_4_4 cr_4_5 cr_4_6
  obtain ⟨cl_5_0, cl_5_1, cl_5_2, cl_5_3, cl_5_4, cl_5_5, cl_5_6, cl_5_7, cl_5_8, cl_5_9, cl_5_10, cl_5_11⟩ := lnC_cells Rl_5
  obtain ⟨cr_5_0, cr_5_1, cr_5_2, cr_5_3, cr_5_4, cr_5_5, cr_5_6⟩ := rwC_cells Rr_5
  have hst6 := rwC_store (r := r3) Rr_5
  have B6 : Below w.heap.size w (w5.setRow (w1.heap.size) (rwC r3)) := Below.setRow B5 (show w.heap.size ≤ w1.heap.size by first | exact Nat.le_refl _ | omega | (have := S2.out; have := Ll_2.out; have := Lz_2.out; omega))
  have Rr_6 : (w5.setRow (w1.heap.size) (rwC r3)).heap[w1.heap.size]? = some (Obj.cells (rwC r3) 45) := setRow_row Rr_5
  have Rl_6 : (w5.setRow (w1.heap.size) (rwC r3)).heap[w.heap.size]? = some (Obj.cells (lnC l) 78) := (setRow_other (by first | omega | (have := S2.out; have := Ll_2.out; have := Lz_2.out; omega))).trans Rl_5
  have Rz_6 : (w5.setRow (w1.heap.size) (rwC r3)).heap[w.heap.size + 1]? = some (Obj.cells #[.int .u8 0, .int .u8 0, .int .u8 0, .int .u8 0, .int .u32 0, .int .u32 0, .int .u8 0, .string ⟨#[]⟩] 47) := (setRow_other (by first | omega | (have := S2.out; have := Ll_2.out; have := Lz_2.out; omega))).trans Rz_5
  obtain ⟨w6, hw6⟩ : ∃ V, (w5.setRow (w1.heap.size) (rwC r3)) = V := ⟨_, rfl⟩
  rw [hw6] at hst6 B6 Rl_6 Rz_6 Rr_6
  clear hw6
  obtain ⟨cl_6_0, cl_6_1, cl_6_2, cl_6_3, cl_6_4, cl_6_5, cl_6_6, cl_6_7, cl_6_8, cl_6_9, cl_6_10, cl_6_11⟩ := lnC_cells Rl_6
  obtain ⟨cr_6_0, cr_6_1, cr_6_2, cr_6_3, cr_6_4, cr_6_5, cr_6_6⟩ := rwC_cells Rr_6
  go_wp2_with fail
  refine (Klt.out _).mono ?_
  rintro r w7 ⟨rfl, b7⟩
  have B7 : Below w.heap.size w w7 := btr B6 b7
  have Rl_7 := heap_of b7 _ _ _ Rl_6
  have Rz_7 := heap_of b7 _ _ _ Rz_6
  have Rr_7 := heap_of b7 _ _ _ Rr_6
  clear b7 B6 Rl_6 cl_6_0 cl_6_1 cl_6_2 cl_6_3 cl_6_4 cl_6_5 cl_6_6 cl_6_7 cl_6_8 cl_6_9 cl_6_10 cl_6_11 Rz_6 Rr_6 cr_6_0 cr_6_1 cr_6_2 cr_6_3 cr_6_4 cr_6_5 cr_6_6
  obtain ⟨cl_7_0, cl_7_1, cl_7_2, cl_7_3, cl_7_4, cl_7_5, cl_7_6, cl_7_7, cl_7_8, cl_7_9, cl_7_10, cl_7_11⟩ := lnC_cells Rl_7
  obtain ⟨cr_7_0, cr_7_1, cr_7_2, cr_7_3, cr_7_4, cr_7_5, cr_7_6⟩ := rwC_cells Rr_7
  go_wp2_with fail
  refine (Klu.out _).mono ?_
  rintro r w8 ⟨rfl, b8⟩
  have B8 : Below w.heap.size w w8 := btr B7 b8
  have Rl_8 := heap_of b8 _ _ _ Rl_7
  have Rz_8 := heap_of b8 _ _ _ Rz_7
  have Rr_8 := heap_of b8 _ _ _ Rr_7
  clear b8 B7 Rl_7 cl_7_0 cl_7_1 cl_7_2 cl_7_3 cl_7_4 cl_7_5 cl_7_6 cl_7_7 cl_7_8 cl_7_9 cl_7_10 cl_7_11 Rz_7 Rr_7 cr_7_0 cr_7_1 cr_7_2 cr_7_3 cr_7_4 cr_7_5 cr_7_6
  obtain ⟨cl_8_0, cl_8_1, cl_8_2, cl_8_3, cl_8_4, cl_8_5, cl_8_6, cl_8_7, cl_8_8, cl_8_9, cl_8_10, cl_8_11⟩ := lnC_cells Rl_8
  obtain ⟨cr_8_0, cr_8_1, cr_8_2, cr_8_3, cr_8_4, cr_8_5, cr_8_6⟩ := rwC_cells Rr_8
  go_wp2_with fail
  refine (K3.out _).mono ?_
  rintro r w9 ⟨rfl, b9⟩
  have B9 : Below w.heap.size w w9 := btr B8 b9
  have Rl_9 := heap_of b9 _ _ _ Rl_8
  have Rz_9 := heap_of b9 _ _ _ Rz_8
  have Rr_9 := heap_of b9 _ _ _ Rr_8
  clear b9 B8 Rl_8 cl_8_0 cl_8_1 cl_8_2 cl_8_3 cl_8_4 cl_8_5 cl_8_6 cl_8_7 cl_8_8 cl_8_9 cl_8_10 cl_8_11 Rz_8 Rr_8 cr_8_0 cr_8_1 cr_8_2 cr_8_3 cr_8_4 cr_8_5 cr_8_6
  obtain ⟨cl_9_0, cl_9_1, cl_9_2, cl_9_3, cl_9_4, cl_9_5, cl_9_6, cl_9_7, cl_9_8, cl_9_9, cl_9_10, cl_9_11⟩ := lnC_cells Rl_9
  obtain ⟨cr_9_0, cr_9_1, cr_9_2, cr_9_3, cr_9_4, cr_9_5, cr_9_6⟩ := rwC_cells Rr_9
  have hst10 := rwC_store (r := r4) Rr_9
  have B10 : Below w.heap.size w (w9.setRow (w1.heap.size) (rwC r4)) := Below.setRow B9 (show w.heap.size ≤ w1.heap.size by first | exact Nat.le_refl _ | omega | (have := S2.out; have := Ll_2.out; have := Lz_2.out; omega))
  have Rr_10 : (w9.setRow (w1.heap.size) (rwC r4)).heap[w1.heap.size]? = some (Obj.cells (rwC r4) 45) := setRow_row Rr_9
  have Rl_10 : (w9.setRow (w1.heap.size) (rwC r4)).heap[w.heap.size]? = some (Obj.cells (lnC l) 78) := (setRow_other (by first | omega | (have := S2.out; have := Ll_2.out; have := Lz_2.out; omega))).trans Rl_9
  have Rz_10 : (w9.setRow (w1.heap.size) (rwC r4)).heap[w.heap.size + 1]? = some (Obj.cells #[.int .u8 0, .int .u8 0, .int .u8 0, .int .u8 0, .int .u32 0, .int .u32 0, .int .u8 0, .string ⟨#[]⟩] 47) := (setRow_other (by first | omega | (have := S2.out; have := Ll_2.out; have := Lz_2.out; omega))).trans Rz_9
  obtain ⟨w10, hw10⟩ : ∃ V, (w9.setRow (w1.heap.size) (rwC r4)) = V := ⟨_, rfl⟩
  rw [hw10] at hst10 B10 Rl_10 Rz_10 Rr_10
  clear hw10
  obtain ⟨cl_10_0, cl_10_1, cl_10_2, cl_10_3, cl_10_4, cl_10_5, cl_10_6, cl_10_7, cl_10_8, cl_10_9, cl_10_10, cl_10_11⟩ := lnC_cells Rl_10
  obtain ⟨cr_10_0, cr_10_1, cr_10_2, cr_10_3, cr_10_4, cr_10_5, cr_10_6⟩ := rwC_cells Rr_10
  clear hrf
  have hnf := ndC_fold r4 n4
  have hst := ndC_store (r := r4) (s := n4) Rz_10 rfl
  have rz := setRow_row (c' := ndC r4 n4) Rz_10
  have bz : Below w.heap.size w (w10.setRow (w.heap.size + 1) (ndC r4 n4)) := Below.setRow B10 (show w.heap.size ≤ w.heap.size + 1 by first | exact Nat.le_refl _ | omega | (have := S2.out; have := Ll_2.out; have := Lz_2.out; omega))
  obtain ⟨wz, hwz⟩ : ∃ V, w10.setRow (w.heap.size + 1) (ndC r4 n4) = V := ⟨_, rfl⟩
  rw [hwz] at hst rz bz
  clear hwz
  go_wp2
  exact bodyPost_ret (v := .agg (ndC r4 n4)) (res_nd Tryd.results32 rfl rz) rfl ⟨rfl, bz⟩
end Go.Proofs.YtaoccmopfflkmaaDoor
