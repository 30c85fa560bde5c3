/-
  What the functions that the statement reaches return: part 9 (YC).
-/
import Derived.Test.YtamlcgmipdcgjaaDoorWa08
namespace Go.Proofs.YtamlcgmipdcgjaaDoor
set_option maxRecDepth 100000
set_option maxHeartbeats 40000000
set_option maxRecDepth 100000
open Go.RowKit WMath
set_option linter.unusedSimpArgs false
set_option linter.unusedVariables false
theorem in_fold0 (a b c d : Nat) : #[Value.int .u8 (a : Nat), .int .u8 (b : Nat), .int .u8 (c : Nat), .int .u8 (d : Nat), .int .u8 0, .int .u8 0, .int .u8 0, .int .u8 0, .int .u8 0, .int .i16 0, .int .u8 0] = inC ⟨a, b, c, d, 0, 0, 0, 0, 0, 0, 0⟩ := rfl
theorem nd_row (r : Rw) (s : ByteArray) : #[(ndC r s)[0]'(show 0 < (ndC r s).size from (show 0 < 8 by decide)), (ndC r s)[1]'(show 1 < (ndC r s).size from (show 1 < 8 by decide)), (ndC r s)[2]'(show 2 < (ndC r s).size from (show 2 < 8 by decide)), (ndC r s)[3]'(show 3 < (ndC r s).size from (show 3 < 8 by decide)), (ndC r s)[4]'(show 4 < (ndC r s).size from (show 4 < 8 by decide)), (ndC r s)[5]'(show 5 < (ndC r s).size from (show 5 < 8 by decide)), (ndC r s)[6]'(show 6 < (ndC r s).size from (show 6 < 8 by decide))] = rwC r := rfl
theorem rw_at0 (r : Rw) (h : 0 < (rwC r).size) : (rwC r)[0] = .int .u8 (r.op : Nat) := rfl
theorem rw_at1 (r : Rw) (h : 1 < (rwC r).size) : (rwC r)[1] = .int .u8 (r.form : Nat) := rfl
theorem rw_at2 (r : Rw) (h : 2 < (rwC r).size) : (rwC r)[2] = .int .u8 (r.frm : Nat) := rfl
theorem rw_at3 (r : Rw) (h : 3 < (rwC r).size) : (rwC r)[3] = .int .u8 (r.kind : Nat) := rfl
theorem rw_at4 (r : Rw) (h : 4 < (rwC r).size) : (rwC r)[4] = .int .u32 (r.mask : Nat) := rfl
theorem rw_at5 (r : Rw) (h : 5 < (rwC r).size) : (rwC r)[5] = .int .u32 (r.mtch : Nat) := rfl
theorem rw_at6 (r : Rw) (h : 6 < (rwC r).size) : (rwC r)[6] = .int .u8 (r.lay : Nat) := rfl
theorem in_zero : #[Value.int .u8 0, .int .u8 0, .int .u8 0, .int .u8 0, .int .u8 0, .int .u8 0, .int .u8 0, .int .u8 0, .int .u8 0, .int .i16 0, .int .u8 0] = inC inZ := rfl
set_option maxRecDepth 100000 in
set_option maxHeartbeats 8000000 in
theorem b25_dec_no (x : Nat) (ro : Rw) (s : ByteArray) (w : World) (KF : Box (∀ w, Calls Tryd.prog 20 #[.int .u32 (x : Nat)] w fun r w' => r = .returned (.tuple #[.agg (ndC ro s), .bool false]) ∧ Below w.heap.size w w')) : Calls Tryd.prog 10 #[.int .u32 (x : Nat)] w fun r w' => r = .returned (.tuple #[.agg (inC inZ), .int .i64 250]) ∧ Below w.heap.size w w' := by
  have hnn := ndC_new
  have hiz := in_zero
  obtain ⟨Rz_0, B0⟩ := opn1 w (Obj.cells #[.int .u8 0, .int .u8 0, .int .u8 0, .int .u8 0, .int .u8 0, .int .u8 0, .int .u8 0, .int .u8 0, .int .u8 0, .int .i16 0, .int .u8 0] 28)
  go_enter Tryd.func10, Tryd.ntmps10
  go_wp2_with fail
  refine (KF.out _).mono ?_
  rintro r w1 ⟨rfl, b1⟩
  have B1 : Below w.heap.size w w1 := btr B0 b1
  have Rz_1 := heap_of b1 _ _ _ Rz_0
  clear b1 B0 Rz_0
  have S2 := box B1.size
  have Lz_2 : Box (w.heap.size < w1.heap.size) := box (Array.getElem?_eq_some_iff.1 Rz_1).1
  have Rt_2 := heap_alloc_last w1 (Obj.cells (ndC ro s) 56)
  have B2 := btr B1 (bal w1 (Obj.cells (ndC ro s) 56))
  have Rz_2 := heap_of (bal w1 (Obj.cells (ndC ro s) 56)) _ _ _ Rz_1
  clear B1 Rz_1
  obtain ⟨ct_2_0, ct_2_1, ct_2_2, ct_2_3, ct_2_4, ct_2_5, ct_2_6, ct_2_7⟩ := ndC_cells Rt_2
  have hst := inC_store (x := inZ) Rz_2 rfl
  have rz := setRow_row (c' := inC inZ) Rz_2
  have bz : Below w.heap.size w ((w1.alloc (Obj.cells (ndC ro s) 56)).setRow (w.heap.size) (inC inZ)) := Below.setRow B2 (show w.heap.size ≤ w.heap.size by first | exact Nat.le_refl _ | omega | (have := S2.out; have := Lz_2.out; omega))
  obtain ⟨wz, hwz⟩ : ∃ V, (w1.alloc (Obj.cells (ndC ro s) 56)).setRow (w.heap.size) (inC inZ) = V := ⟨_, rfl⟩
  rw [hwz] at hst rz bz
  clear hwz
  go_wp2
  exact bodyPost_ret (v := .tuple #[.agg (inC inZ), .int .i64 250]) (res_inC Tryd.results10 rfl rz) rfl ⟨rfl, bz⟩
set_option maxRecDepth 100000 in
set_option maxHeartbeats 8000000 in
theorem b25_dec_1 (x : Nat) (ro : Rw) (s : ByteArray) (rd rm rs1 rs2 rs3 : Nat) (im : Nat) (sg : Int) (q1 : (((ro.lay : Nat) : Int) == 1) = true) (ne : (((ro.lay : Nat) : Int) != 2) = true) (m0 : ((rd : Nat) : Int) % 256 = (rd : Nat)) (m1 : ((rm : Nat) : Int) % 256 = (rm : Nat)) (m2 : ((rs1 : Nat) : Int) % 256 = (rs1 : Nat)) (m3 : ((rs2 : Nat) : Int) % 256 = (rs2 : Nat)) (m4 : ((rs3 : Nat) : Int) % 256 = (rs3 : Nat)) (w : World) (KF : Box (∀ w, Calls Tryd.prog 20 #[.int .u32 (x : Nat)] w fun r w' => r = .returned (.tuple #[.agg (ndC ro s), .bool true]) ∧ Below w.heap.size w w')) (F7 : Box (∀ w, Calls Tryd.prog 25 #[.int .u32 (x : Nat), .int .i64 7, .int .i64 5] w fun r w' => r = .returned (.int .i64 (rd : Nat)) ∧ Below w.heap.size w w')) (F12 : Box (∀ w, Calls Tryd.prog 25 #[.int .u32 (x : Nat), .int .i64 12, .int .i64 3] w fun r w' => r = .returned (.int .i64 (rm : Nat)) ∧ Below w.heap.size w w')) (F15 : Box (∀ w, Calls Tryd.prog 25 #[.int .u32 (x : Nat), .int .i64 15, .int .i64 5] w fun r w' => r = .returned (.int .i64 (rs1 : Nat)) ∧ Below w.heap.size w w')) (F20 : Box (∀ w, Calls Tryd.prog 25 #[.int .u32 (x : Nat), .int .i64 20, .int .i64 5] w fun r w' => r = .returned (.int .i64 (rs2 : Nat)) ∧ Below w.heap.size w w')) (F27 : Box (∀ w, Calls Tryd.prog 25 #[.int .u32 (x : Nat), .int .i64 27, .int .i64 5] w fun r w' => r = .returned (.int .i64 (rs3 : Nat)) ∧ Below w.heap.size w w')) (FI : Box (∀ w, Calls Tryd.prog 25 #[.int .u32 (x : Nat), .int .i64 20, .int .i64 12] w fun r w' => r = .returned (.int .i64 (im : Nat)) ∧ Below w.heap.size w w')) (KS : Box (∀ w, Calls Tryd.prog 26 #[.int .i64 (im : Nat)] w fun r w' => r = .returned (.int .i16 sg) ∧ Below w.heap.size w w')) : Calls Tryd.prog 10 #[.int .u32 (x : Nat)] w fun r w' => r = .returned (.tuple #[.agg (inC ⟨ro.op, ro.form, ro.frm, ro.kind, rd, rs1, 0, 0, 0, sg, 0⟩), .int .i64 0]) ∧ Below w.heap.size w w' := by
  have hnn := ndC_new
  have hrf := rwC_fold
  have hrn := rwC_new
  have hin := inC_new
  have hif := in_fold0
  have hnr := nd_row
  have hr0 := rw_at0
  have hr1 := rw_at1
  have hr2 := rw_at2
  have hr3 := rw_at3
  have hr4 := rw_at4
  have hr5 := rw_at5
  have hr6 := rw_at6
  obtain ⟨Rz_0, B0⟩ := opn1 w (Obj.cells #[.int .u8 0, .int .u8 0, .int .u8 0, .int .u8 0, .int .u8 0, .int .u8 0, .int .u8 0, .int .u8 0, .int .u8 0, .int .i16 0, .int .u8 0] 28)
  go_enter Tryd.func10, Tryd.ntmps10
  go_wp2_with fail
  refine (KF.out _).mono ?_
  rintro r w1 ⟨rfl, b1⟩
  have B1 : Below w.heap.size w w1 := btr B0 b1
  have Rz_1 := heap_of b1 _ _ _ Rz_0
  clear b1 B0 Rz_0
  have S2 := box B1.size
  have Lz_2 : Box (w.heap.size < w1.heap.size) := box (Array.getElem?_eq_some_iff.1 Rz_1).1
  have Rt_2 := heap_alloc_last w1 (Obj.cells (ndC ro s) 56)
  have B2 := btr B1 (bal w1 (Obj.cells (ndC ro s) 56))
  have Rz_2 := heap_of (bal w1 (Obj.cells (ndC ro s) 56)) _ _ _ Rz_1
  clear B1 Rz_1
  obtain ⟨ct_2_0, ct_2_1, ct_2_2, ct_2_3, ct_2_4, ct_2_5, ct_2_6, ct_2_7⟩ := ndC_cells Rt_2
  have S3 := box B2.size
  have Lz_3 : Box (w.heap.size < (w1.alloc (Obj.cells (ndC ro s) 56)).heap.size) := box (Array.getElem?_eq_some_iff.1 Rz_2).1
  have Lt_3 : Box (w1.heap.size < (w1.alloc (Obj.cells (ndC ro s) 56)).heap.size) := box (Array.getElem?_eq_some_iff.1 Rt_2).1
  have Z3 := box (size_al w1 (Obj.cells (ndC ro s) 56))
  have Rr_3 : ((w1.alloc (Obj.cells (ndC ro s) 56)).alloc (Obj.cells (rwC ro) 54)).heap[w1.heap.size + 1]? = some (Obj.cells (rwC ro) 54) := by have := heap_alloc_last (w1.alloc (Obj.cells (ndC ro s) 56)) (Obj.cells (rwC ro) 54); simpa only [size_al] using this
  have B3 := btr B2 (bal (w1.alloc (Obj.cells (ndC ro s) 56)) (Obj.cells (rwC ro) 54))
  have Rz_3 := heap_of (bal (w1.alloc (Obj.cells (ndC ro s) 56)) (Obj.cells (rwC ro) 54)) _ _ _ Rz_2
  have Rt_3 := heap_of (bal (w1.alloc (Obj.cells (ndC ro s) 56)) (Obj.cells (rwC ro) 54)) _ _ _ Rt_2
  clear B2 Rz_2 Rt_2 ct_2_0 ct_2_1 ct_2_2 ct_2_3 ct_2_4 ct_2_5 ct_2_6 ct_2_7
  obtain ⟨ct_3_0, ct_3_1, ct_3_2, ct_3_3, ct_3_4, ct_3_5, ct_3_6, ct_3_7⟩ := ndC_cells Rt_3
  obtain ⟨cr_3_0, cr_3_1, cr_3_2, cr_3_3, cr_3_4, cr_3_5, cr_3_6⟩ := rwC_cells Rr_3
  clear Rt_3 ct_3_0 ct_3_1 ct_3_2 ct_3_3 ct_3_4 ct_3_5 ct_3_6 ct_3_7
  have S4 := box B3.size
  have Lz_4 : Box (w.heap.size < ((w1.alloc (Obj.cells (ndC ro s) 56)).alloc (Obj.cells (rwC ro) 54)).heap.size) := box (Array.getElem?_eq_some_iff.1 Rz_3).1
  have Lr_4 : Box (w1.heap.size + 1 < ((w1.alloc (Obj.cells (ndC ro s) 56)).alloc (Obj.cells (rwC ro) 54)).heap.size) := box (Array.getElem?_eq_some_iff.1 Rr_3).1
  have Z4 := box (size_al (w1.alloc (Obj.cells (ndC ro s) 56)) (Obj.cells (rwC ro) 54))
  have Ri_4 : (((w1.alloc (Obj.cells (ndC ro s) 56)).alloc (Obj.cells (rwC ro) 54)).alloc (Obj.cells (inC ⟨ro.op, ro.form, ro.frm, ro.kind, 0, 0, 0, 0, 0, 0, 0⟩) 28)).heap[w1.heap.size + 1 + 1]? = some (Obj.cells (inC ⟨ro.op, ro.form, ro.frm, ro.kind, 0, 0, 0, 0, 0, 0, 0⟩) 28) := by have := heap_alloc_last ((w1.alloc (Obj.cells (ndC ro s) 56)).alloc (Obj.cells (rwC ro) 54)) (Obj.cells (inC ⟨ro.op, ro.form, ro.frm, ro.kind, 0, 0, 0, 0, 0, 0, 0⟩) 28); simpa only [size_al] using this
  have B4 := btr B3 (bal ((w1.alloc (Obj.cells (ndC ro s) 56)).alloc (Obj.cells (rwC ro) 54)) (Obj.cells (inC ⟨ro.op, ro.form, ro.frm, ro.kind, 0, 0, 0, 0, 0, 0, 0⟩) 28))
  have Rz_4 := heap_of (bal ((w1.alloc (Obj.cells (ndC ro s) 56)).alloc (Obj.cells (rwC ro) 54)) (Obj.cells (inC ⟨ro.op, ro.form, ro.frm, ro.kind, 0, 0, 0, 0, 0, 0, 0⟩) 28)) _ _ _ Rz_3
  have Rr_4 := heap_of (bal ((w1.alloc (Obj.cells (ndC ro s) 56)).alloc (Obj.cells (rwC ro) 54)) (Obj.cells (inC ⟨ro.op, ro.form, ro.frm, ro.kind, 0, 0, 0, 0, 0, 0, 0⟩) 28)) _ _ _ Rr_3
  clear B3 Rz_3 Rr_3 cr_3_0 cr_3_1 cr_3_2 cr_3_3 cr_3_4 cr_3_5 cr_3_6
  obtain ⟨cr_4_0, cr_4_1, cr_4_2, cr_4_3, cr_4_4, cr_4_5, cr_4_6⟩ := rwC_cells Rr_4
  obtain ⟨ci_4_0, ci_4_1, ci_4_2, ci_4_3, ci_4_4, ci_4_5, ci_4_6, ci_4_7, ci_4_8, ci_4_9, ci_4_10⟩ := inC_cells Ri_4
  clear ci_4_0 ci_4_1 ci_4_2 ci_4_3 ci_4_4 ci_4_5 ci_4_6 ci_4_7 ci_4_8 ci_4_9 ci_4_10
  go_wp2_with fail
  refine (F7.out _).mono ?_
  rintro r w5 ⟨rfl, b5⟩
  have B5 : Below w.heap.size w w5 := btr B4 b5
  have Rz_5 := heap_of b5 _ _ _ Rz_4
  have Rr_5 := heap_of b5 _ _ _ Rr_4
  have Ri_5 := heap_of b5 _ _ _ Ri_4
  clear b5 B4 Rz_4 Rr_4 cr_4_0 cr_4_1 cr_4_2 cr_4_3 cr_4_4 cr_4_5 cr_4_6 Ri_4
  obtain ⟨cr_5_0, cr_5_1, cr_5_2, cr_5_3, cr_5_4, cr_5_5, cr_5_6⟩ := rwC_cells Rr_5
  go_wp2_with fail
  refine (F12.out _).mono ?_
  rintro r w6 ⟨rfl, b6⟩
  have B6 : Below w.heap.size w w6 := btr B5 b6
  have Rz_6 := heap_of b6 _ _ _ Rz_5
  have Rr_6 := heap_of b6 _ _ _ Rr_5
  have Ri_6 := heap_of b6 _ _ _ Ri_5
  clear b6 B5 Rz_5 Rr_5 cr_5_0 cr_5_1 cr_5_2 cr_5_3 cr_5_4 cr_5_5 cr_5_6 Ri_5
  obtain ⟨cr_6_0, cr_6_1, cr_6_2, cr_6_3, cr_6_4, cr_6_5, cr_6_6⟩ := rwC_cells Rr_6
  go_wp2_with fail
  refine (F15.out _).mono ?_
  rintro r w7 ⟨rfl, b7⟩
  have B7 : Below w.heap.size w w7 := btr B6 b7
  have Rz_7 := heap_of b7 _ _ _ Rz_6
  have Rr_7 := heap_of b7 _ _ _ Rr_6
  have Ri_7 := heap_of b7 _ _ _ Ri_6
  clear b7 B6 Rz_6 Rr_6 cr_6_0 cr_6_1 cr_6_2 cr_6_3 cr_6_4 cr_6_5 cr_6_6 Ri_6
  obtain ⟨cr_7_0, cr_7_1, cr_7_2, cr_7_3, cr_7_4, cr_7_5, cr_7_6⟩ := rwC_cells Rr_7
  go_wp2_with fail
  refine (F20.out _).mono ?_
  rintro r w8 ⟨rfl, b8⟩
  have B8 : Below w.heap.size w w8 := btr B7 b8
  have Rz_8 := heap_of b8 _ _ _ Rz_7
  have Rr_8 := heap_of b8 _ _ _ Rr_7
  have Ri_8 := heap_of b8 _ _ _ Ri_7
  clear b8 B7 Rz_7 Rr_7 cr_7_0 cr_7_1 cr_7_2 cr_7_3 cr_7_4 cr_7_5 cr_7_6 Ri_7
  obtain ⟨cr_8_0, cr_8_1, cr_8_2, cr_8_3, cr_8_4, cr_8_5, cr_8_6⟩ := rwC_cells Rr_8
  go_wp2_with fail
  refine (F27.out _).mono ?_
  rintro r w9 ⟨rfl, b9⟩
  have B9 : Below w.heap.size w w9 := btr B8 b9
  have Rz_9 := heap_of b9 _ _ _ Rz_8
  have Rr_9 := heap_of b9 _ _ _ Rr_8
  have Ri_9 := heap_of b9 _ _ _ Ri_8
  clear b9 B8 Rz_8 Rr_8 cr_8_0 cr_8_1 cr_8_2 cr_8_3 cr_8_4 cr_8_5 cr_8_6 Ri_8
  obtain ⟨cr_9_0, cr_9_1, cr_9_2, cr_9_3, cr_9_4, cr_9_5, cr_9_6⟩ := rwC_cells Rr_9
  have qi_9 := fz (k := 5) Ri_9
  have ei_9 := cell7 Ri_9 5 _ rfl
  have B10 : Below w.heap.size w (w9.setCell ⟨w1.heap.size + 1 + 1, 5, none⟩ (.int .u8 (rs1 : Nat))) := B9.setCell (by first | exact Nat.le_refl _ | (have := S2.out; have := Lz_2.out; have := Z3.out; have := S3.out; have := Lz_3.out; have := Lt_3.out; have := Z4.out; have := S4.out; have := Lz_4.out; have := Lr_4.out; show w.heap.size ≤ w1.heap.size + 1 + 1; omega)) _
  have Ri_10 : (w9.setCell ⟨w1.heap.size + 1 + 1, 5, none⟩ (.int .u8 (rs1 : Nat))).heap[w1.heap.size + 1 + 1]? = some (Obj.cells (inC ⟨ro.op, ro.form, ro.frm, ro.kind, 0, rs1, 0, 0, 0, 0, 0⟩) 28) := by rw [setCell_row Ri_9]; rfl
  have Rz_10 : (w9.setCell ⟨w1.heap.size + 1 + 1, 5, none⟩ (.int .u8 (rs1 : Nat))).heap[w.heap.size]? = some (Obj.cells #[.int .u8 0, .int .u8 0, .int .u8 0, .int .u8 0, .int .u8 0, .int .u8 0, .int .u8 0, .int .u8 0, .int .u8 0, .int .i16 0, .int .u8 0] 28) := by rw [setCell_other (by first | omega | (have := S2.out; have := Lz_2.out; have := Z3.out; have := S3.out; have := Lz_3.out; have := Lt_3.out; have := Z4.out; have := S4.out; have := Lz_4.out; have := Lr_4.out; omega))]; exact Rz_9
  have Rr_10 : (w9.setCell ⟨w1.heap.size + 1 + 1, 5, none⟩ (.int .u8 (rs1 : Nat))).heap[w1.heap.size + 1]? = some (Obj.cells (rwC ro) 54) := by rw [setCell_other (by first | omega | (have := S2.out; have := Lz_2.out; have := Z3.out; have := S3.out; have := Lz_3.out; have := Lt_3.out; have := Z4.out; have := S4.out; have := Lz_4.out; have := Lr_4.out; omega))]; exact Rr_9
  obtain ⟨w10, hw10⟩ : ∃ V, (w9.setCell ⟨w1.heap.size + 1 + 1, 5, none⟩ (.int .u8 (rs1 : Nat))) = V := ⟨_, rfl⟩
  rw [hw10] at B10 Rz_10 Rr_10 Ri_10
  obtain ⟨cr_10_0, cr_10_1, cr_10_2, cr_10_3, cr_10_4, cr_10_5, cr_10_6⟩ := rwC_cells Rr_10
  have qi_10 := fz (k := 4) Ri_10
  have ei_10 := cell7 Ri_10 4 _ rfl
  have B11 : Below w.heap.size w (w10.setCell ⟨w1.heap.size + 1 + 1, 4, none⟩ (.int .u8 (rd : Nat))) := B10.setCell (by first | exact Nat.le_refl _ | (have := S2.out; have := Lz_2.out; have := Z3.out; have := S3.out; have := Lz_3.out; have := Lt_3.out; have := Z4.out; have := S4.out; have := Lz_4.out; have := Lr_4.out; show w.heap.size ≤ w1.heap.size + 1 + 1; omega)) _
  have Ri_11 : (w10.setCell ⟨w1.heap.size + 1 + 1, 4, none⟩ (.int .u8 (rd : Nat))).heap[w1.heap.size + 1 + 1]? = some (Obj.cells (inC ⟨ro.op, ro.form, ro.frm, ro.kind, rd, rs1, 0, 0, 0, 0, 0⟩) 28) := by rw [setCell_row Ri_10]; rfl
  have Rz_11 : (w10.setCell ⟨w1.heap.size + 1 + 1, 4, none⟩ (.int .u8 (rd : Nat))).heap[w.heap.size]? = some (Obj.cells #[.int .u8 0, .int .u8 0, .int .u8 0, .int .u8 0, .int .u8 0, .int .u8 0, .int .u8 0, .int .u8 0, .int .u8 0, .int .i16 0, .int .u8 0] 28) := by rw [setCell_other (by first | omega | (have := S2.out; have := Lz_2.out; have := Z3.out; have := S3.out; have := Lz_3.out; have := Lt_3.out; have := Z4.out; have := S4.out; have := Lz_4.out; have := Lr_4.out; omega))]; exact Rz_10
  have Rr_11 : (w10.setCell ⟨w1.heap.size + 1 + 1, 4, none⟩ (.int .u8 (rd : Nat))).heap[w1.heap.size + 1]? = some (Obj.cells (rwC ro) 54) := by rw [setCell_other (by first | omega | (have := S2.out; have := Lz_2.out; have := Z3.out; have := S3.out; have := Lz_3.out; have := Lt_3.out; have := Z4.out; have := S4.out; have := Lz_4.out; have := Lr_4.out; omega))]; exact Rr_10
  obtain ⟨w11, hw11⟩ : ∃ V, (w10.setCell ⟨w1.heap.size + 1 + 1, 4, none⟩ (.int .u8 (rd : Nat))) = V := ⟨_, rfl⟩
  rw [hw11] at B11 Rz_11 Rr_11 Ri_11
  obtain ⟨cr_11_0, cr_11_1, cr_11_2, cr_11_3, cr_11_4, cr_11_5, cr_11_6⟩ := rwC_cells Rr_11
  go_wp2_with fail
  refine (FI.out _).mono ?_
  rintro r w12 ⟨rfl, b12⟩
  have B12 : Below w.heap.size w w12 := btr B11 b12
  have Rz_12 := heap_of b12 _ _ _ Rz_11
  have Rr_12 := heap_of b12 _ _ _ Rr_11
  have Ri_12 := heap_of b12 _ _ _ Ri_11
  clear b12 B11 Rz_11 Rr_11 cr_11_0 cr_11_1 cr_11_2 cr_11_3 cr_11_4 cr_11_5 cr_11_6 Ri_11
  obtain ⟨cr_12_0, cr_12_1, cr_12_2, cr_12_3, cr_12_4, cr_12_5, cr_12_6⟩ := rwC_cells Rr_12
  go_wp2_with fail
  refine (KS.out _).mono ?_
  rintro r w13 ⟨rfl, b13⟩
  have B13 : Below w.heap.size w w13 := btr B12 b13
  have Rz_13 := heap_of b13 _ _ _ Rz_12
  have Rr_13 := heap_of b13 _ _ _ Rr_12
  have Ri_13 := heap_of b13 _ _ _ Ri_12
  clear b13 B12 Rz_12 Rr_12 cr_12_0 cr_12_1 cr_12_2 cr_12_3 cr_12_4 cr_12_5 cr_12_6 Ri_12
  obtain ⟨cr_13_0, cr_13_1, cr_13_2, cr_13_3, cr_13_4, cr_13_5, cr_13_6⟩ := rwC_cells Rr_13
  have qi_13 := fz (k := 9) Ri_13
  have ei_13 := cell7 Ri_13 9 _ rfl
  have B14 : Below w.heap.size w (w13.setCell ⟨w1.heap.size + 1 + 1, 9, none⟩ (.int .i16 sg)) := B13.setCell (by first | exact Nat.le_refl _ | (have := S2.out; have := Lz_2.out; have := Z3.out; have := S3.out; have := Lz_3.out; have := Lt_3.out; have := Z4.out; have := S4.out; have := Lz_4.out; have := Lr_4.out; show w.heap.size ≤ w1.heap.size + 1 + 1; omega)) _
  have Ri_14 : (w13.setCell ⟨w1.heap.size + 1 + 1, 9, none⟩ (.int .i16 sg)).heap[w1.heap.size + 1 + 1]? = some (Obj.cells (inC ⟨ro.op, ro.form, ro.frm, ro.kind, rd, rs1, 0, 0, 0, sg, 0⟩) 28) := by rw [setCell_row Ri_13]; rfl
  have Rz_14 : (w13.setCell ⟨w1.heap.size + 1 + 1, 9, none⟩ (.int .i16 sg)).heap[w.heap.size]? = some (Obj.cells #[.int .u8 0, .int .u8 0, .int .u8 0, .int .u8 0, .int .u8 0, .int .u8 0, .int .u8 0, .int .u8 0, .int .u8 0, .int .i16 0, .int .u8 0] 28) := by rw [setCell_other (by first | omega | (have := S2.out; have := Lz_2.out; have := Z3.out; have := S3.out; have := Lz_3.out; have := Lt_3.out; have := Z4.out; have := S4.out; have := Lz_4.out; have := Lr_4.out; omega))]; exact Rz_13
  have Rr_14 : (w13.setCell ⟨w1.heap.size + 1 + 1, 9, none⟩ (.int .i16 sg)).heap[w1.heap.size + 1]? = some (Obj.cells (rwC ro) 54) := by rw [setCell_other (by first | omega | (have := S2.out; have := Lz_2.out; have := Z3.out; have := S3.out; have := Lz_3.out; have := Lt_3.out; have := Z4.out; have := S4.out; have := Lz_4.out; have := Lr_4.out; omega))]; exact Rr_13
  obtain ⟨w14, hw14⟩ : ∃ V, (w13.setCell ⟨w1.heap.size + 1 + 1, 9, none⟩ (.int .i16 sg)) = V := ⟨_, rfl⟩
  rw [hw14] at B14 Rz_14 Rr_14 Ri_14
  obtain ⟨cr_14_0, cr_14_1, cr_14_2, cr_14_3, cr_14_4, cr_14_5, cr_14_6⟩ := rwC_cells Rr_14
  obtain ⟨ci_14_0, ci_14_1, ci_14_2, ci_14_3, ci_14_4, ci_14_5, ci_14_6, ci_14_7, ci_14_8, ci_14_9, ci_14_10⟩ := inC_cells Ri_14
  have hif2 : #[Value.int .u8 (ro.op : Nat), .int .u8 (ro.form : Nat), .int .u8 (ro.frm : Nat), .int .u8 (ro.kind : Nat), .int .u8 (rd : Nat), .int .u8 (rs1 : Nat), .int .u8 0, .int .u8 0, .int .u8 0, .int .i16 sg, .int .u8 0] = (inC ⟨ro.op, ro.form, ro.frm, ro.kind, rd, rs1, 0, 0, 0, sg, 0⟩) := rfl
  have hst := inC_store (x := ⟨ro.op, ro.form, ro.frm, ro.kind, rd, rs1, 0, 0, 0, sg, 0⟩) Rz_14 rfl
  have rz := setRow_row (c' := inC ⟨ro.op, ro.form, ro.frm, ro.kind, rd, rs1, 0, 0, 0, sg, 0⟩) Rz_14
  have bz : Below w.heap.size w (w14.setRow (w.heap.size) (inC ⟨ro.op, ro.form, ro.frm, ro.kind, rd, rs1, 0, 0, 0, sg, 0⟩)) := Below.setRow B14 (show w.heap.size ≤ w.heap.size by first | exact Nat.le_refl _ | omega | (have := S2.out; have := Lz_2.out; have := Z3.out; have := S3.out; have := Lz_3.out; have := Lt_3.out; have := Z4.out; have := S4.out; have := Lz_4.out; have := Lr_4.out; omega))
  obtain ⟨wz, hwz⟩ : ∃ V, w14.setRow (w.heap.size) (inC ⟨ro.op, ro.form, ro.frm, ro.kind, rd, rs1, 0, 0, 0, sg, 0⟩) = V := ⟨_, rfl⟩
  rw [hwz] at hst rz bz
  clear hwz
  go_wp2
  exact bodyPost_ret (v := .tuple #[.agg (inC ⟨ro.op, ro.form, ro.frm, ro.kind, rd, rs1, 0, 0, 0, sg, 0⟩), .int .i64 0]) (res_inC Tryd.results10 rfl rz) rfl ⟨rfl, bz⟩
set_option maxRecDepth 100000 in
set_option maxHeartbeats 8000000 in
theorem b25_dec_2 (x : Nat) (ro : Rw) (s : ByteArray) (rd rm rs1 rs2 rs3 : Nat) (hi im : Nat) (sg : Int) (q1 : (((ro.lay : Nat) : Int) == 1) = false) (q2 : (((ro.lay : Nat) : Int) == 2) = true) (ne : (((ro.lay : Nat) : Int) != 2) = false) (m0 : ((rd : Nat) : Int) % 256 = (rd : Nat)) (m1 : ((rm : Nat) : Int) % 256 = (rm : Nat)) (m2 : ((rs1 : Nat) : Int) % 256 = (rs1 : Nat)) (m3 : ((rs2 : Nat) : Int) % 256 = (rs2 : Nat)) (m4 : ((rs3 : Nat) : Int) % 256 = (rs3 : Nat)) (w : World) (KF : Box (∀ w, Calls Tryd.prog 20 #[.int .u32 (x : Nat)] w fun r w' => r = .returned (.tuple #[.agg (ndC ro s), .bool true]) ∧ Below w.heap.size w w')) (F7 : Box (∀ w, Calls Tryd.prog 25 #[.int .u32 (x : Nat), .int .i64 7, .int .i64 5] w fun r w' => r = .returned (.int .i64 (rd : Nat)) ∧ Below w.heap.size w w')) (F12 : Box (∀ w, Calls Tryd.prog 25 #[.int .u32 (x : Nat), .int .i64 12, .int .i64 3] w fun r w' => r = .returned (.int .i64 (rm : Nat)) ∧ Below w.heap.size w w')) (F15 : Box (∀ w, Calls Tryd.prog 25 #[.int .u32 (x : Nat), .int .i64 15, .int .i64 5] w fun r w' => r = .returned (.int .i64 (rs1 : Nat)) ∧ Below w.heap.size w w')) (F20 : Box (∀ w, Calls Tryd.prog 25 #[.int .u32 (x : Nat), .int .i64 20, .int .i64 5] w fun r w' => r = .returned (.int .i64 (rs2 : Nat)) ∧ Below w.heap.size w w')) (F27 : Box (∀ w, Calls Tryd.prog 25 #[.int .u32 (x : Nat), .int .i64 27, .int .i64 5] w fun r w' => r = .returned (.int .i64 (rs3 : Nat)) ∧ Below w.heap.size w w')) (FH : Box (∀ w, Calls Tryd.prog 25 #[.int .u32 (x : Nat), .int .i64 25, .int .i64 7] w fun r w' => r = .returned (.int .i64 (hi : Nat)) ∧ Below w.heap.size w w')) (KS : Box (∀ w, Calls Tryd.prog 26 #[.int .i64 (im : Nat)] w fun r w' => r = .returned (.int .i16 sg) ∧ Below w.heap.size w w')) (hm : IntKind.i64.wrap (32 * ((hi : Nat) : Int)) = 32 * ((hi : Nat) : Int)) (hm2 : IntKind.i64.wrap (32 * ((hi : Nat) : Int) + ((rd : Nat) : Int)) = ((im : Nat) : Int)) : Calls Tryd.prog 10 #[.int .u32 (x : Nat)] w fun r w' => r = .returned (.tuple #[.agg (inC ⟨ro.op, ro.form, ro.frm, ro.kind, 0, rs1, rs2, 0, 0, sg, 0⟩), .int .i64 0]) ∧ Below w.heap.size w w' := by
  have hnn := ndC_new
  have hrf := rwC_fold
  have hrn := rwC_new
  have hin := inC_new
  have hif := in_fold0
  have hnr := nd_row
  have hr0 := rw_at0
  have hr1 := rw_at1
  have hr2 := rw_at2
  have hr3 := rw_at3
  have hr4 := rw_at4
  have hr5 := rw_at5
  have hr6 := rw_at6
  obtain ⟨Rz_0, B0⟩ := opn1 w (Obj.cells #[.int .u8 0, .int .u8 0, .int .u8 0, .int .u8 0, .int .u8 0, .int .u8 0, .int .u8 0, .int .u8 0, .int .u8 0, .int .i16 0, .int .u8 0] 28)
  go_enter Tryd.func10, Tryd.ntmps10
  go_wp2_with fail
  refine (KF.out _).mono ?_
  rintro r w1 ⟨rfl, b1⟩
  have B1 : Below w.heap.size w w1 := btr B0 b1
  have Rz_1 := heap_of b1 _ _ _ Rz_0
  clear b1 B0 Rz_0
  have S2 := box B1.size
  have Lz_2 : Box (w.heap.size < w1.heap.size) := box (Array.getElem?_eq_some_iff.1 Rz_1).1
  have Rt_2 := heap_alloc_last w1 (Obj.cells (ndC ro s) 56)
  have B2 := btr B1 (bal w1 (Obj.cells (ndC ro s) 56))
  have Rz_2 := heap_of (bal w1 (Obj.cells (ndC ro s) 56)) _ _ _ Rz_1
  clear B1 Rz_1
  obtain ⟨ct_2_0, ct_2_1, ct_2_2, ct_2_3, ct_2_4, ct_2_5, ct_2_6, ct_2_7⟩ := ndC_cells Rt_2
  have S3 := box B2.size
  have Lz_3 : Box (w.heap.size < (w1.alloc (Obj.cells (ndC ro s) 56)).heap.size) := box (Array.getElem?_eq_some_iff.1 Rz_2).1
  have Lt_3 : Box (w1.heap.size < (w1.alloc (Obj.cells (ndC ro s) 56)).heap.size) := box (Array.getElem?_eq_some_iff.1 Rt_2).1
  have Z3 := box (size_al w1 (Obj.cells (ndC ro s) 56))
  have Rr_3 : ((w1.alloc (Obj.cells (ndC ro s) 56)).alloc (Obj.cells (rwC ro) 54)).heap[w1.heap.size + 1]? = some (Obj.cells (rwC ro) 54) := by have := heap_alloc_last (w1.alloc (Obj.cells (ndC ro s) 56)) (Obj.cells (rwC ro) 54); simpa only [size_al] using this
  have B3 := btr B2 (bal (w1.alloc (Obj.cells (ndC ro s) 56)) (Obj.cells (rwC ro) 54))
  have Rz_3 := heap_of (bal (w1.alloc (Obj.cells (ndC ro s) 56)) (Obj.cells (rwC ro) 54)) _ _ _ Rz_2
  have Rt_3 := heap_of (bal (w1.alloc (Obj.cells (ndC ro s) 56)) (Obj.cells (rwC ro) 54)) _ _ _ Rt_2
  clear B2 Rz_2 Rt_2 ct_2_0 ct_2_1 ct_2_2 ct_2_3 ct_2_4 ct_2_5 ct_2_6 ct_2_7
  obtain ⟨ct_3_0, ct_3_1, ct_3_2, ct_3_3, ct_3_4, ct_3_5, ct_3_6, ct_3_7⟩ := ndC_cells Rt_3
  obtain ⟨cr_3_0, cr_3_1, cr_3_2, cr_3_3, cr_3_4, cr_3_5, cr_3_6⟩ := rwC_cells Rr_3
  clear Rt_3 ct_3_0 ct_3_1 ct_3_2 ct_3_3 ct_3_4 ct_3_5 ct_3_6 ct_3_7
  have S4 := box B3.size
  have Lz_4 : Box (w.heap.size < ((w1.alloc (Obj.cells (ndC ro s) 56)).alloc (Obj.cells (rwC ro) 54)).heap.size) := box (Array.getElem?_eq_some_iff.1 Rz_3).1
  have Lr_4 : Box (w1.heap.size + 1 < ((w1.alloc (Obj.cells (ndC ro s) 56)).alloc (Obj.cells (rwC ro) 54)).heap.size) := box (Array.getElem?_eq_some_iff.1 Rr_3).1
  have Z4 := box (size_al (w1.alloc (Obj.cells (ndC ro s) 56)) (Obj.cells (rwC ro) 54))
  have Ri_4 : (((w1.alloc (Obj.cells (ndC ro s) 56)).alloc (Obj.cells (rwC ro) 54)).alloc (Obj.cells (inC ⟨ro.op, ro.form, ro.frm, ro.kind, 0, 0, 0, 0, 0, 0, 0⟩) 28)).heap[w1.heap.size + 1 + 1]? = some (Obj.cells (inC ⟨ro.op, ro.form, ro.frm, ro.kind, 0, 0, 0, 0, 0, 0, 0⟩) 28) := by have := heap_alloc_last ((w1.alloc (Obj.cells (ndC ro s) 56)).alloc (Obj.cells (rwC ro) 54)) (Obj.cells (inC ⟨ro.op, ro.form, ro.frm, ro.kind, 0, 0, 0, 0, 0, 0, 0⟩) 28); simpa only [size_al] using this
  have B4 := btr B3 (bal ((w1.alloc (Obj.cells (ndC ro s) 56)).alloc (Obj.cells (rwC ro) 54)) (Obj.cells (inC ⟨ro.op, ro.form, ro.frm, ro.kind, 0, 0, 0, 0, 0, 0, 0⟩) 28))
  have Rz_4 := heap_of (bal ((w1.alloc (Obj.cells (ndC ro s) 56)).alloc (Obj.cells (rwC ro) 54)) (Obj.cells (inC ⟨ro.op, ro.form, ro.frm, ro.kind, 0, 0, 0, 0, 0, 0, 0⟩) 28)) _ _ _ Rz_3
  have Rr_4 := heap_of (bal ((w1.alloc (Obj.cells (ndC ro s) 56)).alloc (Obj.cells (rwC ro) 54)) (Obj.cells (inC ⟨ro.op, ro.form, ro.frm, ro.kind, 0, 0, 0, 0, 0, 0, 0⟩) 28)) _ _ _ Rr_3
  clear B3 Rz_3 Rr_3 cr_3_0 cr_3_1 cr_3_2 cr_3_3 cr_3_4 cr_3_5 cr_3_6
  obtain ⟨cr_4_0, cr_4_1, cr_4_2, cr_4_3, cr_4_4, cr_4_5, cr_4_6⟩ := rwC_cells Rr_4
  obtain ⟨ci_4_0, ci_4_1, ci_4_2, ci_4_3, ci_4_4, ci_4_5, ci_4_6, ci_4_7, ci_4_8, ci_4_9, ci_4_10⟩ := inC_cells Ri_4
  clear ci_4_0 ci_4_1 ci_4_2 ci_4_3 ci_4_4 ci_4_5 ci_4_6 ci_4_7 ci_4_8 ci_4_9 ci_4_10
  go_wp2_with fail
  refine (F7.out _).mono ?_
  rintro r w5 ⟨rfl, b5⟩
  have B5 : Below w.heap.size w w5 := btr B4 b5
  have Rz_5 := heap_of b5 _ _ _ Rz_4
  have Rr_5 := heap_of b5 _ _ _ Rr_4
  have Ri_5 := heap_of b5 _ _ _ Ri_4
  clear b5 B4 Rz_4 Rr_4 cr_4_0 cr_4_1 cr_4_2 cr_4_3 cr_4_4 cr_4_5 cr_4_6 Ri_4
  obtain ⟨cr_5_0, cr_5_1, cr_5_2, cr_5_3, cr_5_4, cr_5_5, cr_5_6⟩ := rwC_cells Rr_5
  go_wp2_with fail
  refine (F12.out _).mono ?_
  rintro r w6 ⟨rfl, b6⟩
  have B6 : Below w.heap.size w w6 := btr B5 b6
  have Rz_6 := heap_of b6 _ _ _ Rz_5
  have Rr_6 := heap_of b6 _ _ _ Rr_5
  have Ri_6 := heap_of b6 _ _ _ Ri_5
  clear b6 B5 Rz_5 Rr_5 cr_5_0 cr_5_1 cr_5_2 cr_5_3 cr_5_4 cr_5_5 cr_5_6 Ri_5
  obtain ⟨cr_6_0, cr_6_1, cr_6_2, cr_6_3, cr_6_4, cr_6_5, cr_6_6⟩ := rwC_cells Rr_6
  go_wp2_with fail
  refine (F15.out _).mono ?_
  rintro r w7 ⟨rfl, b7⟩
  have B7 : Below w.heap.size w w7 := btr B6 b7
  have Rz_7 := heap_of b7 _ _ _ Rz_6
  have Rr_7 := heap_of b7 _ _ _ Rr_6
  have Ri_7 := heap_of b7 _ _ _ Ri_6
  clear b7 B6 Rz_6 Rr_6 cr_6_0 cr_6_1 cr_6_2 cr_6_3 cr_6_4 cr_6_5 cr_6_6 Ri_6
  obtain ⟨cr_7_0, cr_7_1, cr_7_2, cr_7_3, cr_7_4, cr_7_5, cr_7_6⟩ := rwC_cells Rr_7
  go_wp2_with fail
  refine (F20.out _).mono ?_
  rintro r w8 ⟨rfl, b8⟩
  have B8 : Below w.heap.size w w8 := btr B7 b8
  have Rz_8 := heap_of b8 _ _ _ Rz_7
  have Rr_8 := heap_of b8 _ _ _ Rr_7
  have Ri_8 := heap_of b8 _ _ _ Ri_7
  clear b8 B7 Rz_7 Rr_7 cr_7_0 cr_7_1 cr_7_2 cr_7_3 cr_7_4 cr_7_5 cr_7_6 Ri_7
  obtain ⟨cr_8_0, cr_8_1, cr_8_2, cr_8_3, cr_8_4, cr_8_5, cr_8_6⟩ := rwC_cells Rr_8
  go_wp2_with fail
  refine (F27.out _).mono ?_
  rintro r w9 ⟨rfl, b9⟩
  have B9 : Below w.heap.size w w9 := btr B8 b9
  have Rz_9 := heap_of b9 _ _ _ Rz_8
  have Rr_9 := heap_of b9 _ _ _ Rr_8
  have Ri_9 := heap_of b9 _ _ _ Ri_8
  clear b9 B8 Rz_8 Rr_8 cr_8_0 cr_8_1 cr_8_2 cr_8_3 cr_8_4 cr_8_5 cr_8_6 Ri_8
  obtain ⟨cr_9_0, cr_9_1, cr_9_2, cr_9_3, cr_9_4, cr_9_5, cr_9_6⟩ := rwC_cells Rr_9
  have qi_9 := fz (k := 5) Ri_9
  have ei_9 := cell7 Ri_9 5 _ rfl
  have B10 : Below w.heap.size w (w9.setCell ⟨w1.heap.size + 1 + 1, 5, none⟩ (.int .u8 (rs1 : Nat))) := B9.setCell (by first | exact Nat.le_refl _ | (have := S2.out; have := Lz_2.out; have := Z3.out; have := S3.out; have := Lz_3.out; have := Lt_3.out; have := Z4.out; have := S4.out; have := Lz_4.out; have := Lr_4.out; show w.heap.size ≤ w1.heap.size + 1 + 1; omega)) _
  have Ri_10 : (w9.setCell ⟨w1.heap.size + 1 + 1, 5, none⟩ (.int .u8 (rs1 : Nat))).heap[w1.heap.size + 1 + 1]? = some (Obj.cells (inC ⟨ro.op, ro.form, ro.frm, ro.kind, 0, rs1, 0, 0, 0, 0, 0⟩) 28) := by rw [setCell_row Ri_9]; rfl
  have Rz_10 : (w9.setCell ⟨w1.heap.size + 1 + 1, 5, none⟩ (.int .u8 (rs1 : Nat))).heap[w.heap.size]? = some (Obj.cells #[.int .u8 0, .int .u8 0, .int .u8 0, .int .u8 0, .int .u8 0, .int .u8 0, .int .u8 0, .int .u8 0, .int .u8 0, .int .i16 0, .int .u8 0] 28) := by rw [setCell_other (by first | omega | (have := S2.out; have := Lz_2.out; have := Z3.out; have := S3.out; have := Lz_3.out; have := Lt_3.out; have := Z4.out; have := S4.out; have := Lz_4.out; have := Lr_4.out; omega))]; exact Rz_9
  have Rr_10 : (w9.setCell ⟨w1.heap.size + 1 + 1, 5, none⟩ (.int .u8 (rs1 : Nat))).heap[w1.heap.size + 1]? = some (Obj.cells (rwC ro) 54) := by rw [setCell_other (by first | omega | (have := S2.out; have := Lz_2.out; have := Z3.out; have := S3.out; have := Lz_3.out; have := Lt_3.out; have := Z4.out; have := S4.out; have := Lz_4.out; have := Lr_4.out; omega))]; exact Rr_9
  obtain ⟨w10, hw10⟩ : ∃ V, (w9.setCell ⟨w1.heap.size + 1 + 1, 5, none⟩ (.int .u8 (rs1 : Nat))) = V := ⟨_, rfl⟩
  rw [hw10] at B10 Rz_10 Rr_10 Ri_10
  obtain ⟨cr_10_0, cr_10_1, cr_10_2, cr_10_3, cr_10_4, cr_10_5, cr_10_6⟩ := rwC_cells Rr_10
  have qi_10 := fz (k := 6) Ri_10
  have ei_10 := cell7 Ri_10 6 _ rfl
  have B11 : Below w.heap.size w (w10.setCell ⟨w1.heap.size + 1 + 1, 6, none⟩ (.int .u8 (rs2 : Nat))) := B10.setCell (by first | exact Nat.le_refl _ | (have := S2.out; have := Lz_2.out; have := Z3.out; have := S3.out; have := Lz_3.out; have := Lt_3.out; have := Z4.out; have := S4.out; have := Lz_4.out; have := Lr_4.out; show w.heap.size ≤ w1.heap.size + 1 + 1; omega)) _
  have Ri_11 : (w10.setCell ⟨w1.heap.size + 1 + 1, 6, none⟩ (.int .u8 (rs2 : Nat))).heap[w1.heap.size + 1 + 1]? = some (Obj.cells (inC ⟨ro.op, ro.form, ro.frm, ro.kind, 0, rs1, rs2, 0, 0, 0, 0⟩) 28) := by rw [setCell_row Ri_10]; rfl
  have Rz_11 : (w10.setCell ⟨w1.heap.size + 1 + 1, 6, none⟩ (.int .u8 (rs2 : Nat))).heap[w.heap.size]? = some (Obj.cells #[.int .u8 0, .int .u8 0, .int .u8 0, .int .u8 0, .int .u8 0, .int .u8 0, .int .u8 0, .int .u8 0, .int .u8 0, .int .i16 0, .int .u8 0] 28) := by rw [setCell_other (by first | omega | (have := S2.out; have := Lz_2.out; have := Z3.out; have := S3.out; have := Lz_3.out; have := Lt_3.out; have := Z4.out; have := S4.out; have := Lz_4.out; have := Lr_4.out; omega))]; exact Rz_10
  have Rr_11 : (w10.setCell ⟨w1.heap.size + 1 + 1, 6, none⟩ (.int .u8 (rs2 : Nat))).heap[w1.heap.size + 1]? = some (Obj.cells (rwC ro) 54) := by rw [setCell_other (by first | omega | (have := S2.out; have := Lz_2.out; have := Z3.out; have := S3.out; have := Lz_3.out; have := Lt_3.out; have := Z4.out; have := S4.out; have := Lz_4.out; have := Lr_4.out; omega))]; exact Rr_10
  obtain ⟨w11, hw11⟩ : ∃ V, (w10.setCell ⟨w1.heap.size + 1 + 1, 6, none⟩ (.int .u8 (rs2 : Nat))) = V := ⟨_, rfl⟩
  rw [hw11] at B11 Rz_11 Rr_11 Ri_11
  obtain ⟨cr_11_0, cr_11_1, cr_11_2, cr_11_3, cr_11_4, cr_11_5, cr_11_6⟩ := rwC_cells Rr_11
  go_wp2_with fail
  refine (FH.out _).mono ?_
  rintro r w12 ⟨rfl, b12⟩
  have B12 : Below w.heap.size w w12 := btr B11 b12
  have Rz_12 := heap_of b12 _ _ _ Rz_11
  have Rr_12 := heap_of b12 _ _ _ Rr_11
  have Ri_12 := heap_of b12 _ _ _ Ri_11
  clear b12 B11 Rz_11 Rr_11 cr_11_0 cr_11_1 cr_11_2 cr_11_3 cr_11_4 cr_11_5 cr_11_6 Ri_11
  obtain ⟨cr_12_0, cr_12_1, cr_12_2, cr_12_3, cr_12_4, cr_12_5, cr_12_6⟩ := rwC_cells Rr_12
  go_wp2_with fail
  refine (F7.out _).mono ?_
  rintro r w13 ⟨rfl, b13⟩
  have B13 : Below w.heap.size w w13 := btr B12 b13
  have Rz_13 := heap_of b13 _ _ _ Rz_12
  have Rr_13 := heap_of b13 _ _ _ Rr_12
  have Ri_13 := heap_of b13 _ _ _ Ri_12
  clear b13 B12 Rz_12 Rr_12 cr_12_0 cr_12_1 cr_12_2 cr_12_3 cr_12_4 cr_12_5 cr_12_6 Ri_12
  obtain ⟨cr_13_0, cr_13_1, cr_13_2, cr_13_3, cr_13_4, cr_13_5, cr_13_6⟩ := rwC_cells Rr_13
  go_wp2_with fail
  refine (KS.out _).mono ?_
  rintro r w14 ⟨rfl, b14⟩
  have B14 : Below w.heap.size w w14 := btr B13 b14
  have Rz_14 := heap_of b14 _ _ _ Rz_13
  have Rr_14 := heap_of b14 _ _ _ Rr_13
  have Ri_14 := heap_of b14 _ _ _ Ri_13
  clear b14 B13 Rz_13 Rr_13 cr_13_0 cr_13_1 cr_13_2 cr_13_3 cr_13_4 cr_13_5 cr_13_6 Ri_13
  obtain ⟨cr_14_0, cr_14_1, cr_14_2, cr_14_3, cr_14_4, cr_14_5, cr_14_6⟩ := rwC_cells Rr_14
  have qi_14 := fz (k := 9) Ri_14
  have ei_14 := cell7 Ri_14 9 _ rfl
  have B15 : Below w.heap.size w (w14.setCell ⟨w1.heap.size + 1 + 1, 9, none⟩ (.int .i16 sg)) := B14.setCell (by first | exact Nat.le_refl _ | (have := S2.out; have := Lz_2.out; have := Z3.out; have := S3.out; have := Lz_3.out; have := Lt_3.out; have := Z4.out; have := S4.out; have := Lz_4.out; have := Lr_4.out; show w.heap.size ≤ w1.heap.size + 1 + 1; omega)) _
  have Ri_15 : (w14.setCell ⟨w1.heap.size + 1 + 1, 9, none⟩ (.int .i16 sg)).heap[w1.heap.size + 1 + 1]? = some (Obj.cells (inC ⟨ro.op, ro.form, ro.frm, ro.kind, 0, rs1, rs2, 0, 0, sg, 0⟩) 28) := by rw [setCell_row Ri_14]; rfl
  have Rz_15 : (w14.setCell ⟨w1.heap.size + 1 + 1, 9, none⟩ (.int .i16 sg)).heap[w.heap.size]? = some (Obj.cells #[.int .u8 0, .int .u8 0, .int .u8 0, .int .u8 0, .int .u8 0, .int .u8 0, .int .u8 0, .int .u8 0, .int .u8 0, .int .i16 0, .int .u8 0] 28) := by rw [setCell_other (by first | omega | (have := S2.out; have := Lz_2.out; have := Z3.out; have := S3.out; have := Lz_3.out; have := Lt_3.out; have := Z4.out; have := S4.out; have := Lz_4.out; have := Lr_4.out; omega))]; exact Rz_14
  have Rr_15 : (w14.setCell ⟨w1.heap.size + 1 + 1, 9, none⟩ (.int .i16 sg)).heap[w1.heap.size + 1]? = some (Obj.cells (rwC ro) 54) := by rw [setCell_other (by first | omega | (have := S2.out; have := Lz_2.out; have := Z3.out; have := S3.out; have := Lz_3.out; have := Lt_3.out; have := Z4.out; have := S4.out; have := Lz_4.out; have := Lr_4.out; omega))]; exact Rr_14
  obtain ⟨w15, hw15⟩ : ∃ V, (w14.setCell ⟨w1.heap.size + 1 + 1, 9, none⟩ (.int .i16 sg)) = V := ⟨_, rfl⟩
  rw [hw15] at B15 Rz_15 Rr_15 Ri_15
  obtain ⟨cr_15_0, cr_15_1, cr_15_2, cr_15_3, cr_15_4, cr_15_5, cr_15_6⟩ := rwC_cells Rr_15
  obtain ⟨ci_15_0, ci_15_1, ci_15_2, ci_15_3, ci_15_4, ci_15_5, ci_15_6, ci_15_7, ci_15_8, ci_15_9, ci_15_10⟩ := inC_cells Ri_15
  have hif2 : #[Value.int .u8 (ro.op : Nat), .int .u8 (ro.form : Nat), .int .u8 (ro.frm : Nat), .int .u8 (ro.kind : Nat), .int .u8 0, .int .u8 (rs1 : Nat), .int .u8 (rs2 : Nat), .int .u8 0, .int .u8 0, .int .i16 sg, .int .u8 0] = (inC ⟨ro.op, ro.form, ro.frm, ro.kind, 0, rs1, rs2, 0, 0, sg, 0⟩) := rfl
  have hst := inC_store (x := ⟨ro.op, ro.form, ro.frm, ro.kind, 0, rs1, rs2, 0, 0, sg, 0⟩) Rz_15 rfl
  have rz := setRow_row (c' := inC ⟨ro.op, ro.form, ro.frm, ro.kind, 0, rs1, rs2, 0, 0, sg, 0⟩) Rz_15
  have bz : Below w.heap.size w (w15.setRow (w.heap.size) (inC ⟨ro.op, ro.form, ro.frm, ro.kind, 0, rs1, rs2, 0, 0, sg, 0⟩)) := Below.setRow B15 (show w.heap.size ≤ w.heap.size by first | exact Nat.le_refl _ | omega | (have := S2.out; have := Lz_2.out; have := Z3.out; have := S3.out; have := Lz_3.out; have := Lt_3.out; have := Z4.out; have := S4.out; have := Lz_4.out; have := Lr_4.out; omega))
  obtain ⟨wz, hwz⟩ : ∃ V, w15.setRow (w.heap.size) (inC ⟨ro.op, ro.form, ro.frm, ro.kind, 0, rs1, rs2, 0, 0, sg, 0⟩) = V := ⟨_, rfl⟩
  rw [hwz] at hst rz bz
  clear hwz
  go_wp2
  exact bodyPost_ret (v := .tuple #[.agg (inC ⟨ro.op, ro.form, ro.frm, ro.kind, 0, rs1, rs2, 0, 0, sg, 0⟩), .int .i64 0]) (res_inC Tryd.results10 rfl rz) rfl ⟨rfl, bz⟩
set_option maxRecDepth 100000 in
set_option maxHeartbeats 8000000 in
theorem b25_dec_3 (x : Nat) (ro : Rw) (s : ByteArray) (rd rm rs1 rs2 rs3 : Nat) (q1 : (((ro.lay : Nat) : Int) == 1) = false) (q2 : (((ro.lay : Nat) : Int) == 2) = false) (q3 : (((ro.lay : Nat) : Int) == 3) = true) (ne : (((ro.lay : Nat) : Int) != 2) = true) (m0 : ((rd : Nat) : Int) % 256 = (rd : Nat)) (m1 : ((rm : Nat) : Int) % 256 = (rm : Nat)) (m2 : ((rs1 : Nat) : Int) % 256 = (rs1 : Nat)) (m3 : ((rs2 : Nat) : Int) % 256 = (rs2 : Nat)) (m4 : ((rs3 : Nat) : Int) % 256 = (rs3 : Nat)) (w : World) (KF : Box (∀ w, Calls Tryd.prog 20 #[.int .u32 (x : Nat)] w fun r w' => r = .returned (.tuple #[.agg (ndC ro s), .bool true]) ∧ Below w.heap.size w w')) (F7 : Box (∀ w, Calls Tryd.prog 25 #[.int .u32 (x : Nat), .int .i64 7, .int .i64 5] w fun r w' => r = .returned (.int .i64 (rd : Nat)) ∧ Below w.heap.size w w')) (F12 : Box (∀ w, Calls Tryd.prog 25 #[.int .u32 (x : Nat), .int .i64 12, .int .i64 3] w fun r w' => r = .returned (.int .i64 (rm : Nat)) ∧ Below w.heap.size w w')) (F15 : Box (∀ w, Calls Tryd.prog 25 #[.int .u32 (x : Nat), .int .i64 15, .int .i64 5] w fun r w' => r = .returned (.int .i64 (rs1 : Nat)) ∧ Below w.heap.size w w')) (F20 : Box (∀ w, Calls Tryd.prog 25 #[.int .u32 (x : Nat), .int .i64 20, .int .i64 5] w fun r w' => r = .returned (.int .i64 (rs2 : Nat)) ∧ Below w.heap.size w w')) (F27 : Box (∀ w, Calls Tryd.prog 25 #[.int .u32 (x : Nat), .int .i64 27, .int .i64 5] w fun r w' => r = .returned (.int .i64 (rs3 : Nat)) ∧ Below w.heap.size w w')) : Calls Tryd.prog 10 #[.int .u32 (x : Nat)] w fun r w' => r = .returned (.tuple #[.agg (inC ⟨ro.op, ro.form, ro.frm, ro.kind, rd, rs1, rs2, rs3, rm, 0, 0⟩), .int .i64 0]) ∧ Below w.heap.size w w' := by
  have hnn := ndC_new
  have hrf := rwC_fold
  have hrn := rwC_new
  have hin := inC_new
  have hif := in_fold0
  have hnr := nd_row
  have hr0 := rw_at0
  have hr1 := rw_at1
  have hr2 := rw_at2
  have hr3 := rw_at3
  have hr4 := rw_at4
  have hr5 := rw_at5
  have hr6 := rw_at6
  obtain ⟨Rz_0, B0⟩ := opn1 w (Obj.cells #[.int .u8 0, .int .u8 0, .int .u8 0, .int .u8 0, .int .u8 0, .int .u8 0, .int .u8 0, .int .u8 0, .int .u8 0, .int .i16 0, .int .u8 0] 28)
  go_enter Tryd.func10, Tryd.ntmps10
  go_wp2_with fail
  refine (KF.out _).mono ?_
  rintro r w1 ⟨rfl, b1⟩
  have B1 : Below w.heap.size w w1 := btr B0 b1
  have Rz_1 := heap_of b1 _ _ _ Rz_0
  clear b1 B0 Rz_0
  have S2 := box B1.size
  have Lz_2 : Box (w.heap.size < w1.heap.size) := box (Array.getElem?_eq_some_iff.1 Rz_1).1
  have Rt_2 := heap_alloc_last w1 (Obj.cells (ndC ro s) 56)
  have B2 := btr B1 (bal w1 (Obj.cells (ndC ro s) 56))
  have Rz_2 := heap_of (bal w1 (Obj.cells (ndC ro s) 56)) _ _ _ Rz_1
  clear B1 Rz_1
  obtain ⟨ct_2_0, ct_2_1, ct_2_2, ct_2_3, ct_2_4, ct_2_5, ct_2_6, ct_2_7⟩ := ndC_cells Rt_2
  have S3 := box B2.size
  have Lz_3 : Box (w.heap.size < (w1.alloc (Obj.cells (ndC ro s) 56)).heap.size) := box (Array.getElem?_eq_some_iff.1 Rz_2).1
  have Lt_3 : Box (w1.heap.size < (w1.alloc (Obj.cells (ndC ro s) 56)).heap.size) := box (Array.getElem?_eq_some_iff.1 Rt_2).1
  have Z3 := box (size_al w1 (Obj.cells (ndC ro s) 56))
  have Rr_3 : ((w1.alloc (Obj.cells (ndC ro s) 56)).alloc (Obj.cells (rwC ro) 54)).heap[w1.heap.size + 1]? = some (Obj.cells (rwC ro) 54) := by have := heap_alloc_last (w1.alloc (Obj.cells (ndC ro s) 56)) (Obj.cells (rwC ro) 54); simpa only [size_al] using this
  have B3 := btr B2 (bal (w1.alloc (Obj.cells (ndC ro s) 56)) (Obj.cells (rwC ro) 54))
  have Rz_3 := heap_of (bal (w1.alloc (Obj.cells (ndC ro s) 56)) (Obj.cells (rwC ro) 54)) _ _ _ Rz_2
  have Rt_3 := heap_of (bal (w1.alloc (Obj.cells (ndC ro s) 56)) (Obj.cells (rwC ro) 54)) _ _ _ Rt_2
  clear B2 Rz_2 Rt_2 ct_2_0 ct_2_1 ct_2_2 ct_2_3 ct_2_4 ct_2_5 ct_2_6 ct_2_7
  obtain ⟨ct_3_0, ct_3_1, ct_3_2, ct_3_3, ct_3_4, ct_3_5, ct_3_6, ct_3_7⟩ := ndC_cells Rt_3
  obtain ⟨cr_3_0, cr_3_1, cr_3_2, cr_3_3, cr_3_4, cr_3_5, cr_3_6⟩ := rwC_cells Rr_3
  clear Rt_3 ct_3_0 ct_3_1 ct_3_2 ct_3_3 ct_3_4 ct_3_5 ct_3_6 ct_3_7
  have S4 := box B3.size
  have Lz_4 : Box (w.heap.size < ((w1.alloc (Obj.cells (ndC ro s) 56)).alloc (Obj.cells (rwC ro) 54)).heap.size) := box (Array.getElem?_eq_some_iff.1 Rz_3).1
  have Lr_4 : Box (w1.heap.size + 1 < ((w1.alloc (Obj.cells (ndC ro s) 56)).alloc (Obj.cells (rwC ro) 54)).heap.size) := box (Array.getElem?_eq_some_iff.1 Rr_3).1
  have Z4 := box (size_al (w1.alloc (Obj.cells (ndC ro s) 56)) (Obj.cells (rwC ro) 54))
  have Ri_4 : (((w1.alloc (Obj.cells (ndC ro s) 56)).alloc (Obj.cells (rwC ro) 54)).alloc (Obj.cells (inC ⟨ro.op, ro.form, ro.frm, ro.kind, 0, 0, 0, 0, 0, 0, 0⟩) 28)).heap[w1.heap.size + 1 + 1]? = some (Obj.cells (inC ⟨ro.op, ro.form, ro.frm, ro.kind, 0, 0, 0, 0, 0, 0, 0⟩) 28) := by have := heap_alloc_last ((w1.alloc (Obj.cells (ndC ro s) 56)).alloc (Obj.cells (rwC ro) 54)) (Obj.cells (inC ⟨ro.op, ro.form, ro.frm, ro.kind, 0, 0, 0, 0, 0, 0, 0⟩) 28); simpa only [size_al] using this
  have B4 := btr B3 (bal ((w1.alloc (Obj.cells (ndC ro s) 56)).alloc (Obj.cells (rwC ro) 54)) (Obj.cells (inC ⟨ro.op, ro.form, ro.frm, ro.kind, 0, 0, 0, 0, 0, 0, 0⟩) 28))
  have Rz_4 := heap_of (bal ((w1.alloc (Obj.cells (ndC ro s) 56)).alloc (Obj.cells (rwC ro) 54)) (Obj.cells (inC ⟨ro.op, ro.form, ro.frm, ro.kind, 0, 0, 0, 0, 0, 0, 0⟩) 28)) _ _ _ Rz_3
  have Rr_4 := heap_of (bal ((w1.alloc (Obj.cells (ndC ro s) 56)).alloc (Obj.cells (rwC ro) 54)) (Obj.cells (inC ⟨ro.op, ro.form, ro.frm, ro.kind, 0, 0, 0, 0, 0, 0, 0⟩) 28)) _ _ _ Rr_3
  clear B3 Rz_3 Rr_3 cr_3_0 cr_3_1 cr_3_2 cr_3_3 cr_3_4 cr_3_5 cr_3_6
  obtain ⟨cr_4_0, cr_4_1, cr_4_2, cr_4_3, cr_4_4, cr_4_5, cr_4_6⟩ := rwC_cells Rr_4
  obtain ⟨ci_4_0, ci_4_1, ci_4_2, ci_4_3, ci_4_4, ci_4_5, ci_4_6, ci_4_7, ci_4_8, ci_4_9, ci_4_10⟩ := inC_cells Ri_4
  clear ci_4_0 ci_4_1 ci_4_2 ci_4_3 ci_4_4 ci_4_5 ci_4_6 ci_4_7 ci_4_8 ci_4_9 ci_4_10
  go_wp2_with fail
  refine (F7.out _).mono ?_
  rintro r w5 ⟨rfl, b5⟩
  have B5 : Below w.heap.size w w5 := btr B4 b5
  have Rz_5 := heap_of b5 _ _ _ Rz_4
  have Rr_5 := heap_of b5 _ _ _ Rr_4
  have Ri_5 := heap_of b5 _ _ _ Ri_4
  clear b5 B4 Rz_4 Rr_4 cr_4_0 cr_4_1 cr_4_2 cr_4_3 cr_4_4 cr_4_5 cr_4_6 Ri_4
  obtain ⟨cr_5_0, cr_5_1, cr_5_2, cr_5_3, cr_5_4, cr_5_5, cr_5_6⟩ := rwC_cells Rr_5
  go_wp2_with fail
  refine (F12.out _).mono ?_
  rintro r w6 ⟨rfl, b6⟩
  have B6 : Below w.heap.size w w6 := btr B5 b6
  have Rz_6 := heap_of b6 _ _ _ Rz_5
  have Rr_6 := heap_of b6 _ _ _ Rr_5
  have Ri_6 := heap_of b6 _ _ _ Ri_5
  clear b6 B5 Rz_5 Rr_5 cr_5_0 cr_5_1 cr_5_2 cr_5_3 cr_5_4 cr_5_5 cr_5_6 Ri_5
  obtain ⟨cr_6_0, cr_6_1, cr_6_2, cr_6_3, cr_6_4, cr_6_5, cr_6_6⟩ := rwC_cells Rr_6
  go_wp2_with fail
  refine (F15.out _).mono ?_
  rintro r w7 ⟨rfl, b7⟩
  have B7 : Below w.heap.size w w7 := btr B6 b7
  have Rz_7 := heap_of b7 _ _ _ Rz_6
  have Rr_7 := heap_of b7 _ _ _ Rr_6
  have Ri_7 := heap_of b7 _ _ _ Ri_6
  clear b7 B6 Rz_6 Rr_6 cr_6_0 cr_6_1 cr_6_2 cr_6_3 cr_6_4 cr_6_5 cr_6_6 Ri_6
  obtain ⟨cr_7_0, cr_7_1, cr_7_2, cr_7_3, cr_7_4, cr_7_5, cr_7_6⟩ := rwC_cells Rr_7
  go_wp2_with fail
  refine (F20.out _).mono ?_
  rintro r w8 ⟨rfl, b8⟩
  have B8 : Below w.heap.size w w8 := btr B7 b8
  have Rz_8 := heap_of b8 _ _ _ Rz_7
  have Rr_8 := heap_of b8 _ _ _ Rr_7
  have Ri_8 := heap_of b8 _ _ _ Ri_7
  clear b8 B7 Rz_7 Rr_7 cr_7_0 cr_7_1 cr_7_2 cr_7_3 cr_7_4 cr_7_5 cr_7_6 Ri_7
  obtain ⟨cr_8_0, cr_8_1, cr_8_2, cr_8_3, cr_8_4, cr_8_5, cr_8_6⟩ := rwC_cells Rr_8
  go_wp2_with fail
  refine (F27.out _).mono ?_
  rintro r w9 ⟨rfl, b9⟩
  have B9 : Below w.heap.size w w9 := btr B8 b9
  have Rz_9 := heap_of b9 _ _ _ Rz_8
  have Rr_9 := heap_of b9 _ _ _ Rr_8
  have Ri_9 := heap_of b9 _ _ _ Ri_8
  clear b9 B8 Rz_8 Rr_8 cr_8_0 cr_8_1 cr_8_2 cr_8_3 cr_8_4 cr_8_5 cr_8_6 Ri_8
  obtain ⟨cr_9_0, cr_9_1, cr_9_2, cr_9_3, cr_9_4, cr_9_5, cr_9_6⟩ := rwC_cells Rr_9
  have qi_9 := fz (k := 5) Ri_9
  have ei_9 := cell7 Ri_9 5 _ rfl
  have B10 : Below w.heap.size w (w9.setCell ⟨w1.heap.size + 1 + 1, 5, none⟩ (.int .u8 (rs1 : Nat))) := B9.setCell (by first | exact Nat.le_refl _ | (have := S2.out; have := Lz_2.out; have := Z3.out; have := S3.out; have := Lz_3.out; have := Lt_3.out; have := Z4.out; have := S4.out; have := Lz_4.out; have := Lr_4.out; show w.heap.size ≤ w1.heap.size + 1 + 1; omega)) _
  have Ri_10 : (w9.setCell ⟨w1.heap.size + 1 + 1, 5, none⟩ (.int .u8 (rs1 : Nat))).heap[w1.heap.size + 1 + 1]? = some (Obj.cells (inC ⟨ro.op, ro.form, ro.frm, ro.kind, 0, rs1, 0, 0, 0, 0, 0⟩) 28) := by rw [setCell_row Ri_9]; rfl
  have Rz_10 : (w9.setCell ⟨w1.heap.size + 1 + 1, 5, none⟩ (.int .u8 (rs1 : Nat))).heap[w.heap.size]? = some (Obj.cells #[.int .u8 0, .int .u8 0, .int .u8 0, .int .u8 0, .int .u8 0, .int .u8 0, .int .u8 0, .int .u8 0, .int .u8 0, .int .i16 0, .int .u8 0] 28) := by rw [setCell_other (by first | omega | (have := S2.out; have := Lz_2.out; have := Z3.out; have := S3.out; have := Lz_3.out; have := Lt_3.out; have := Z4.out; have := S4.out; have := Lz_4.out; have := Lr_4.out; omega))]; exact Rz_9
  have Rr_10 : (w9.setCell ⟨w1.heap.size + 1 + 1, 5, none⟩ (.int .u8 (rs1 : Nat))).heap[w1.heap.size + 1]? = some (Obj.cells (rwC ro) 54) := by rw [setCell_other (by first | omega | (have := S2.out; have := Lz_2.out; have := Z3.out; have := S3.out; have := Lz_3.out; have := Lt_3.out; have := Z4.out; have := S4.out; have := Lz_4.out; have := Lr_4.out; omega))]; exact Rr_9
  obtain ⟨w10, hw10⟩ : ∃ V, (w9.setCell ⟨w1.heap.size + 1 + 1, 5, none⟩ (.int .u8 (rs1 : Nat))) = V := ⟨_, rfl⟩
  rw [hw10] at B10 Rz_10 Rr_10 Ri_10
  obtain ⟨cr_10_0, cr_10_1, cr_10_2, cr_10_3, cr_10_4, cr_10_5, cr_10_6⟩ := rwC_cells Rr_10
  have qi_10 := fz (k := 4) Ri_10
  have ei_10 := cell7 Ri_10 4 _ rfl
  have B11 : Below w.heap.size w (w10.setCell ⟨w1.heap.size + 1 + 1, 4, none⟩ (.int .u8 (rd : Nat))) := B10.setCell (by first | exact Nat.le_refl _ | (have := S2.out; have := Lz_2.out; have := Z3.out; have := S3.out; have := Lz_3.out; have := Lt_3.out; have := Z4.out; have := S4.out; have := Lz_4.out; have := Lr_4.out; show w.heap.size ≤ w1.heap.size + 1 + 1; omega)) _
  have Ri_11 : (w10.setCell ⟨w1.heap.size + 1 + 1, 4, none⟩ (.int .u8 (rd : Nat))).heap[w1.heap.size + 1 + 1]? = some (Obj.cells (inC ⟨ro.op, ro.form, ro.frm, ro.kind, rd, rs1, 0, 0, 0, 0, 0⟩) 28) := by rw [setCell_row Ri_10]; rfl
  have Rz_11 : (w10.setCell ⟨w1.heap.size + 1 + 1, 4, none⟩ (.int .u8 (rd : Nat))).heap[w.heap.size]? = some (Obj.cells #[.int .u8 0, .int .u8 0, .int .u8 0, .int .u8 0, .int .u8 0, .int .u8 0, .int .u8 0, .int .u8 0, .int .u8 0, .int .i16 0, .int .u8 0] 28) := by rw [setCell_other (by first | omega | (have := S2.out; have := Lz_2.out; have := Z3.out; have := S3.out; have := Lz_3.out; have := Lt_3.out; have := Z4.out; have := S4.out; have := Lz_4.out; have := Lr_4.out; omega))]; exact Rz_10
  have Rr_11 : (w10.setCell ⟨w1.heap.size + 1 + 1, 4, none⟩ (.int .u8 (rd : Nat))).heap[w1.heap.size + 1]? = some (Obj.cells (rwC ro) 54) := by rw [setCell_other (by first | omega | (have := S2.out; have := Lz_2.out; have := Z3.out; have := S3.out; have := Lz_3.out; have := Lt_3.out; have := Z4.out; have := S4.out; have := Lz_4.out; have := Lr_4.out; omega))]; exact Rr_10
  obtain ⟨w11, hw11⟩ : ∃ V, (w10.setCell ⟨w1.heap.size + 1 + 1, 4, none⟩ (.int .u8 (rd : Nat))) = V := ⟨_, rfl⟩
  rw [hw11] at B11 Rz_11 Rr_11 Ri_11
  obtain ⟨cr_11_0, cr_11_1, cr_11_2, cr_11_3, cr_11_4, cr_11_5, cr_11_6⟩ := rwC_cells Rr_11
  have qi_11 := fz (k := 6) Ri_11
  have ei_11 := cell7 Ri_11 6 _ rfl
  have B12 : Below w.heap.size w (w11.setCell ⟨w1.heap.size + 1 + 1, 6, none⟩ (.int .u8 (rs2 : Nat))) := B11.setCell (by first | exact Nat.le_refl _ | (have := S2.out; have := Lz_2.out; have := Z3.out; have := S3.out; have := Lz_3.out; have := Lt_3.out; have := Z4.out; have := S4.out; have := Lz_4.out; have := Lr_4.out; show w.heap.size ≤ w1.heap.size + 1 + 1; omega)) _
  have Ri_12 : (w11.setCell ⟨w1.heap.size + 1 + 1, 6, none⟩ (.int .u8 (rs2 : Nat))).heap[w1.heap.size + 1 + 1]? = some (Obj.cells (inC ⟨ro.op, ro.form, ro.frm, ro.kind, rd, rs1, rs2, 0, 0, 0, 0⟩) 28) := by rw [setCell_row Ri_11]; rfl
  have Rz_12 : (w11.setCell ⟨w1.heap.size + 1 + 1, 6, none⟩ (.int .u8 (rs2 : Nat))).heap[w.heap.size]? = some (Obj.cells #[.int .u8 0, .int .u8 0, .int .u8 0, .int .u8 0, .int .u8 0, .int .u8 0, .int .u8 0, .int .u8 0, .int .u8 0, .int .i16 0, .int .u8 0] 28) := by rw [setCell_other (by first | omega | (have := S2.out; have := Lz_2.out; have := Z3.out; have := S3.out; have := Lz_3.out; have := Lt_3.out; have := Z4.out; have := S4.out; have := Lz_4.out; have := Lr_4.out; omega))]; exact Rz_11
  have Rr_12 : (w11.setCell ⟨w1.heap.size + 1 + 1, 6, none⟩ (.int .u8 (rs2 : Nat))).heap[w1.heap.size + 1]? = some (Obj.cells (rwC ro) 54) := by rw [setCell_other (by first | omega | (have := S2.out; have := Lz_2.out; have := Z3.out; have := S3.out; have := Lz_3.out; have := Lt_3.out; have := Z4.out; have := S4.out; have := Lz_4.out; have := Lr_4.out; omega))]; exact Rr_11
  obtain ⟨w12, hw12⟩ : ∃ V, (w11.setCell ⟨w1.heap.size + 1 + 1, 6, none⟩ (.int .u8 (rs2 : Nat))) = V := ⟨_, rfl⟩
  rw [hw12] at B12 Rz_12 Rr_12 Ri_12
  obtain ⟨cr_12_0, cr_12_1, cr_12_2, cr_12_3, cr_12_4, cr_12_5, cr_12_6⟩ := rwC_cells Rr_12
  have qi_12 := fz (k := 7) Ri_12
  have ei_12 := cell7 Ri_12 7 _ rfl
  have B13 : Below w.heap.size w (w12.setCell ⟨w1.heap.size + 1 + 1, 7, none⟩ (.int .u8 (rs3 : Nat))) := B12.setCell (by first | exact Nat.le_refl _ | (have := S2.out; have := Lz_2.out; have := Z3.out; have := S3.out; have := Lz_3.out; have := Lt_3.out; have := Z4.out; have := S4.out; have := Lz_4.out; have := Lr_4.out; show w.heap.size ≤ w1.heap.size + 1 + 1; omega)) _
  have Ri_13 : (w12.setCell ⟨w1.heap.size + 1 + 1, 7, none⟩ (.int .u8 (rs3 : Nat))).heap[w1.heap.size + 1 + 1]? = some (Obj.cells (inC ⟨ro.op, ro.form, ro.frm, ro.kind, rd, rs1, rs2, rs3, 0, 0, 0⟩) 28) := by rw [setCell_row Ri_12]; rfl
  have Rz_13 : (w12.setCell ⟨w1.heap.size + 1 + 1, 7, none⟩ (.int .u8 (rs3 : Nat))).heap[w.heap.size]? = some (Obj.cells #[.int .u8 0, .int .u8 0, .int .u8 0, .int .u8 0, .int .u8 0, .int .u8 0, .int .u8 0, .int .u8 0, .int .u8 0, .int .i16 0, .int .u8 0] 28) := by rw [setCell_other (by first | omega | (have := S2.out; have := Lz_2.out; have := Z3.out; have := S3.out; have := Lz_3.out; have := Lt_3.out; have := Z4.out; have := S4.out; have := Lz_4.out; have := Lr_4.out; omega))]; exact Rz_12
  have Rr_13 : (w12.setCell ⟨w1.heap.size + 1 + 1, 7, none⟩ (.int .u8 (rs3 : Nat))).heap[w1.heap.size + 1]? = some (Obj.cells (rwC ro) 54) := by rw [setCell_other (by first | omega | (have := S2.out; have := Lz_2.out; have := Z3.out; have := S3.out; have := Lz_3.out; have := Lt_3.out; have := Z4.out; have := S4.out; have := Lz_4.out; have := Lr_4.out; omega))]; exact Rr_12
  obtain ⟨w13, hw13⟩ : ∃ V, (w12.setCell ⟨w1.heap.size + 1 + 1, 7, none⟩ (.int .u8 (rs3 : Nat))) = V := ⟨_, rfl⟩
  rw [hw13] at B13 Rz_13 Rr_13 Ri_13
  obtain ⟨cr_13_0, cr_13_1, cr_13_2, cr_13_3, cr_13_4, cr_13_5, cr_13_6⟩ := rwC_cells Rr_13
  have qi_13 := fz (k := 8) Ri_13
  have ei_13 := cell7 Ri_13 8 _ rfl
  have B14 : Below w.heap.size w (w13.setCell ⟨w1.heap.size + 1 + 1, 8, none⟩ (.int .u8 (rm : Nat))) := B13.setCell (by first | exact Nat.le_refl _ | (have := S2.out; have := Lz_2.out; have := Z3.out; have := S3.out; have := Lz_3.out; have := Lt_3.out; have := Z4.out; have := S4.out; have := Lz_4.out; have := Lr_4.out; show w.heap.size ≤ w1.heap.size + 1 + 1; omega)) _
  have Ri_14 : (w13.setCell ⟨w1.heap.size + 1 + 1, 8, none⟩ (.int .u8 (rm : Nat))).heap[w1.heap.size + 1 + 1]? = some (Obj.cells (inC ⟨ro.op, ro.form, ro.frm, ro.kind, rd, rs1, rs2, rs3, rm, 0, 0⟩) 28) := by rw [setCell_row Ri_13]; rfl
  have Rz_14 : (w13.setCell ⟨w1.heap.size + 1 + 1, 8, none⟩ (.int .u8 (rm : Nat))).heap[w.heap.size]? = some (Obj.cells #[.int .u8 0, .int .u8 0, .int .u8 0, .int .u8 0, .int .u8 0, .int .u8 0, .int .u8 0, .int .u8 0, .int .u8 0, .int .i16 0, .int .u8 0] 28) := by rw [setCell_other (by first | omega | (have := S2.out; have := Lz_2.out; have := Z3.out; have := S3.out; have := Lz_3.out; have := Lt_3.out; have := Z4.out; have := S4.out; have := Lz_4.out; have := Lr_4.out; omega))]; exact Rz_13
  have Rr_14 : (w13.setCell ⟨w1.heap.size + 1 + 1, 8, none⟩ (.int .u8 (rm : Nat))).heap[w1.heap.size + 1]? = some (Obj.cells (rwC ro) 54) := by rw [setCell_other (by first | omega | (have := S2.out; have := Lz_2.out; have := Z3.out; have := S3.out; have := Lz_3.out; have := Lt_3.out; have := Z4.out; have := S4.out; have := Lz_4.out; have := Lr_4.out; omega))]; exact Rr_13
  obtain ⟨w14, hw14⟩ : ∃ V, (w13.setCell ⟨w1.heap.size + 1 + 1, 8, none⟩ (.int .u8 (rm : Nat))) = V := ⟨_, rfl⟩
  rw [hw14] at B14 Rz_14 Rr_14 Ri_14
  obtain ⟨cr_14_0, cr_14_1, cr_14_2, cr_14_3, cr_14_4, cr_14_5, cr_14_6⟩ := rwC_cells Rr_14
  obtain ⟨ci_14_0, ci_14_1, ci_14_2, ci_14_3, ci_14_4, ci_14_5, ci_14_6, ci_14_7, ci_14_8, ci_14_9, ci_14_10⟩ := inC_cells Ri_14
  have hif2 : #[Value.int .u8 (ro.op : Nat), .int .u8 (ro.form : Nat), .int .u8 (ro.frm : Nat), .int .u8 (ro.kind : Nat), .int .u8 (rd : Nat), .int .u8 (rs1 : Nat), .int .u8 (rs2 : Nat), .int .u8 (rs3 : Nat), .int .u8 (rm : Nat), .int .i16 0, .int .u8 0] = (inC ⟨ro.op, ro.form, ro.frm, ro.kind, rd, rs1, rs2, rs3, rm, 0, 0⟩) := rfl
  have hst := inC_store (x := ⟨ro.op, ro.form, ro.frm, ro.kind, rd, rs1, rs2, rs3, rm, 0, 0⟩) Rz_14 rfl
  have rz := setRow_row (c' := inC ⟨ro.op, ro.form, ro.frm, ro.kind, rd, rs1, rs2, rs3, rm, 0, 0⟩) Rz_14
  have bz : Below w.heap.size w (w14.setRow (w.heap.size) (inC ⟨ro.op, ro.form, ro.frm, ro.kind, rd, rs1, rs2, rs3, rm, 0, 0⟩)) := Below.setRow B14 (show w.heap.size ≤ w.heap.size by first | exact Nat.le_refl _ | omega | (have := S2.out; have := Lz_2.out; have := Z3.out; have := S3.out; have := Lz_3.out; have := Lt_3.out; have := Z4.out; have := S4.out; have := Lz_4.out; have := Lr_4.out; omega))
  obtain ⟨wz, hwz⟩ : ∃ V, w14.setRow (w.heap.size) (inC ⟨ro.op, ro.form, ro.frm, ro.kind, rd, rs1, rs2, rs3, rm, 0, 0⟩) = V := ⟨_, rfl⟩
  rw [hwz] at hst rz bz
  clear hwz
  go_wp2
  exact bodyPost_ret (v := .tuple #[.agg (inC ⟨ro.op, ro.form, ro.frm, ro.kind, rd, rs1, rs2, rs3, rm, 0, 0⟩), .int .i64 0]) (res_inC Tryd.results10 rfl rz) rfl ⟨rfl, bz⟩
set_option maxRecDepth 100000 in
set_option maxHeartbeats 8000000 in
theorem b25_dec_4 (x : Nat) (ro : Rw) (s : ByteArray) (rd rm rs1 rs2 rs3 : Nat) (q1 : (((ro.lay : Nat) : Int) == 1) = false) (q2 : (((ro.lay : Nat) : Int) == 2) = false) (q3 : (((ro.lay : Nat) : Int) == 3) = false) (q4 : (((ro.lay : Nat) : Int) == 4) = true) (ne : (((ro.lay : Nat) : Int) != 2) = true) (m0 : ((rd : Nat) : Int) % 256 = (rd : Nat)) (m1 : ((rm : Nat) : Int) % 256 = (rm : Nat)) (m2 : ((rs1 : Nat) : Int) % 256 = (rs1 : Nat)) (m3 : ((rs2 : Nat) : Int) % 256 = (rs2 : Nat)) (m4 : ((rs3 : Nat) : Int) % 256 = (rs3 : Nat)) (w : World) (KF : Box (∀ w, Calls Tryd.prog 20 #[.int .u32 (x : Nat)] w fun r w' => r = .returned (.tuple #[.agg (ndC ro s), .bool true]) ∧ Below w.heap.size w w')) (F7 : Box (∀ w, Calls Tryd.prog 25 #[.int .u32 (x : Nat), .int .i64 7, .int .i64 5] w fun r w' => r = .returned (.int .i64 (rd : Nat)) ∧ Below w.heap.size w w')) (F12 : Box (∀ w, Calls Tryd.prog 25 #[.int .u32 (x : Nat), .int .i64 12, .int .i64 3] w fun r w' => r = .returned (.int .i64 (rm : Nat)) ∧ Below w.heap.size w w')) (F15 : Box (∀ w, Calls Tryd.prog 25 #[.int .u32 (x : Nat), .int .i64 15, .int .i64 5] w fun r w' => r = .returned (.int .i64 (rs1 : Nat)) ∧ Below w.heap.size w w')) (F20 : Box (∀ w, Calls Tryd.prog 25 #[.int .u32 (x : Nat), .int .i64 20, .int .i64 5] w fun r w' => r = .returned (.int .i64 (rs2 : Nat)) ∧ Below w.heap.size w w')) (F27 : Box (∀ w, Calls Tryd.prog 25 #[.int .u32 (x : Nat), .int .i64 27, .int .i64 5] w fun r w' => r = .returned (.int .i64 (rs3 : Nat)) ∧ Below w.heap.size w w')) : Calls Tryd.prog 10 #[.int .u32 (x : Nat)] w fun r w' => r = .returned (.tuple #[.agg (inC ⟨ro.op, ro.form, ro.frm, ro.kind, rd, rs1, rs2, 0, rm, 0, 0⟩), .int .i64 0]) ∧ Below w.heap.size w w' := by
  have hnn := ndC_new
  have hrf := rwC_fold
  have hrn := rwC_new
  have hin := inC_new
  have hif := in_fold0
  have hnr := nd_row
  have hr0 := rw_at0
  have hr1 := rw_at1
  have hr2 := rw_at2
  have hr3 := rw_at3
  have hr4 := rw_at4
  have hr5 := rw_at5
  have hr6 := rw_at6
  obtain ⟨Rz_0, B0⟩ := opn1 w (Obj.cells #[.int .u8 0, .int .u8 0, .int .u8 0, .int .u8 0, .int .u8 0, .int .u8 0, .int .u8 0, .int .u8 0, .int .u8 0, .int .i16 0, .int .u8 0] 28)
  go_enter Tryd.func10, Tryd.ntmps10
  go_wp2_with fail
  refine (KF.out _).mono ?_
  rintro r w1 ⟨rfl, b1⟩
  have B1 : Below w.heap.size w w1 := btr B0 b1
  have Rz_1 := heap_of b1 _ _ _ Rz_0
  clear b1 B0 Rz_0
  have S2 := box B1.size
  have Lz_2 : Box (w.heap.size < w1.heap.size) := box (Array.getElem?_eq_some_iff.1 Rz_1).1
  have Rt_2 := heap_alloc_last w1 (Obj.cells (ndC ro s) 56)
  have B2 := btr B1 (bal w1 (Obj.cells (ndC ro s) 56))
  have Rz_2 := heap_of (bal w1 (Obj.cells (ndC ro s) 56)) _ _ _ Rz_1
  clear B1 Rz_1
  obtain ⟨ct_2_0, ct_2_1, ct_2_2, ct_2_3, ct_2_4, ct_2_5, ct_2_6, ct_2_7⟩ := ndC_cells Rt_2
  have S3 := box B2.size
  have Lz_3 : Box (w.heap.size < (w1.alloc (Obj.cells (ndC ro s) 56)).heap.size) := box (Array.getElem?_eq_some_iff.1 Rz_2).1
  have Lt_3 : Box (w1.heap.size < (w1.alloc (Obj.cells (ndC ro s) 56)).heap.size) := box (Array.getElem?_eq_some_iff.1 Rt_2).1
  have Z3 := box (size_al w1 (Obj.cells (ndC ro s) 56))
  have Rr_3 : ((w1.alloc (Obj.cells (ndC ro s) 56)).alloc (Obj.cells (rwC ro) 54)).heap[w1.heap.size + 1]? = some (Obj.cells (rwC ro) 54) := by have := heap_alloc_last (w1.alloc (Obj.cells (ndC ro s) 56)) (Obj.cells (rwC ro) 54); simpa only [size_al] using this
  have B3 := btr B2 (bal (w1.alloc (Obj.cells (ndC ro s) 56)) (Obj.cells (rwC ro) 54))
  have Rz_3 := heap_of (bal (w1.alloc (Obj.cells (ndC ro s) 56)) (Obj.cells (rwC ro) 54)) _ _ _ Rz_2
  have Rt_3 := heap_of (bal (w1.alloc (Obj.cells (ndC ro s) 56)) (Obj.cells (rwC ro) 54)) _ _ _ Rt_2
  clear B2 Rz_2 Rt_2 ct_2_0 ct_2_1 ct_2_2 ct_2_3 ct_2_4 ct_2_5 ct_2_6 ct_2_7
  obtain ⟨ct_3_0, ct_3_1, ct_3_2, ct_3_3, ct_3_4, ct_3_5, ct_3_6, ct_3_7⟩ := ndC_cells Rt_3
  obtain ⟨cr_3_0, cr_3_1, cr_3_2, cr_3_3, cr_3_4, cr_3_5, cr_3_6⟩ := rwC_cells Rr_3
  clear Rt_3 ct_3_0 ct_3_1 ct_3_2 ct_3_3 ct_3_4 ct_3_5 ct_3_6 ct_3_7
  have S4 := box B3.size
  have Lz_4 : Box (w.heap.size < ((w1.alloc (Obj.cells (ndC ro s) 56)).alloc (Obj.cells (rwC ro) 54)).heap.size) := box (Array.getElem?_eq_some_iff.1 Rz_3).1
  have Lr_4 : Box (w1.heap.size + 1 < ((w1.alloc (Obj.cells (ndC ro s) 56)).alloc (Obj.cells (rwC ro) 54)).heap.size) := box (Array.getElem?_eq_some_iff.1 Rr_3).1
  have Z4 := box (size_al (w1.alloc (Obj.cells (ndC ro s) 56)) (Obj.cells (rwC ro) 54))
  have Ri_4 : (((w1.alloc (Obj.cells (ndC ro s) 56)).alloc (Obj.cells (rwC ro) 54)).alloc (Obj.cells (inC ⟨ro.op, ro.form, ro.frm, ro.kind, 0, 0, 0, 0, 0, 0, 0⟩) 28)).heap[w1.heap.size + 1 + 1]? = some (Obj.cells (inC ⟨ro.op, ro.form, ro.frm, ro.kind, 0, 0, 0, 0, 0, 0, 0⟩) 28) := by have := heap_alloc_last ((w1.alloc (Obj.cells (ndC ro s) 56)).alloc (Obj.cells (rwC ro) 54)) (Obj.cells (inC ⟨ro.op, ro.form, ro.frm, ro.kind, 0, 0, 0, 0, 0, 0, 0⟩) 28); simpa only [size_al] using this
  have B4 := btr B3 (bal ((w1.alloc (Obj.cells (ndC ro s) 56)).alloc (Obj.cells (rwC ro) 54)) (Obj.cells (inC ⟨ro.op, ro.form, ro.frm, ro.kind, 0, 0, 0, 0, 0, 0, 0⟩) 28))
  have Rz_4 := heap_of (bal ((w1.alloc (Obj.cells (ndC ro s) 56)).alloc (Obj.cells (rwC ro) 54)) (Obj.cells (inC ⟨ro.op, ro.form, ro.frm, ro.kind, 0, 0, 0, 0, 0, 0, 0⟩) 28)) _ _ _ Rz_3
  have Rr_4 := heap_of (bal ((w1.alloc (Obj.cells (ndC ro s) 56)).alloc (Obj.cells (rwC ro) 54)) (Obj.cells (inC ⟨ro.op, ro.form, ro.frm, ro.kind, 0, 0, 0, 0, 0, 0, 0⟩) 28)) _ _ _ Rr_3
  clear B3 Rz_3 Rr_3 cr_3_0 cr_3_1 cr_3_2 cr_3_3 cr_3_4 cr_3_5 cr_3_6
  obtain ⟨cr_4_0, cr_4_1, cr_4_2, cr_4_3, cr_4_4, cr_4_5, cr_4_6⟩ := rwC_cells Rr_4
  obtain ⟨ci_4_0, ci_4_1, ci_4_2, ci_4_3, ci_4_4, ci_4_5, ci_4_6, ci_4_7, ci_4_8, ci_4_9, ci_4_10⟩ := inC_cells Ri_4
  clear ci_4_0 ci_4_1 ci_4_2 ci_4_3 ci_4_4 ci_4_5 ci_4_6 ci_4_7 ci_4_8 ci_4_9 ci_4_10
  go_wp2_with fail
  refine (F7.out _).mono ?_
  rintro r w5 ⟨rfl, b5⟩
  have B5 : Below w.heap.size w w5 := btr B4 b5
  have Rz_5 := heap_of b5 _ _ _ Rz_4
  have Rr_5 := heap_of b5 _ _ _ Rr_4
  have Ri_5 := heap_of b5 _ _ _ Ri_4
  clear b5 B4 Rz_4 Rr_4 cr_4_0 cr_4_1 cr_4_2 cr_4_3 cr_4_4 cr_4_5 cr_4_6 Ri_4
  obtain ⟨cr_5_0, cr_5_1, cr_5_2, cr_5_3, cr_5_4, cr_5_5, cr_5_6⟩ := rwC_cells Rr_5
  go_wp2_with fail
  refine (F12.out _).mono ?_
  rintro r w6 ⟨rfl, b6⟩
  have B6 : Below w.heap.size w w6 := btr B5 b6
  have Rz_6 := heap_of b6 _ _ _ Rz_5
  have Rr_6 := heap_of b6 _ _ _ Rr_5
  have Ri_6 := heap_of b6 _ _ _ Ri_5
  clear b6 B5 Rz_5 Rr_5 cr_5_0 cr_5_1 cr_5_2 cr_5_3 cr_5_4 cr_5_5 cr_5_6 Ri_5
  obtain ⟨cr_6_0, cr_6_1, cr_6_2, cr_6_3, cr_6_4, cr_6_5, cr_6_6⟩ := rwC_cells Rr_6
  go_wp2_with fail
  refine (F15.out _).mono ?_
  rintro r w7 ⟨rfl, b7⟩
  have B7 : Below w.heap.size w w7 := btr B6 b7
  have Rz_7 := heap_of b7 _ _ _ Rz_6
  have Rr_7 := heap_of b7 _ _ _ Rr_6
  have Ri_7 := heap_of b7 _ _ _ Ri_6
  clear b7 B6 Rz_6 Rr_6 cr_6_0 cr_6_1 cr_6_2 cr_6_3 cr_6_4 cr_6_5 cr_6_6 Ri_6
  obtain ⟨cr_7_0, cr_7_1, cr_7_2, cr_7_3, cr_7_4, cr_7_5, cr_7_6⟩ := rwC_cells Rr_7
  go_wp2_with fail
  refine (F20.out _).mono ?_
  rintro r w8 ⟨rfl, b8⟩
  have B8 : Below w.heap.size w w8 := btr B7 b8
  have Rz_8 := heap_of b8 _ _ _ Rz_7
  have Rr_8 := heap_of b8 _ _ _ Rr_7
  have Ri_8 := heap_of b8 _ _ _ Ri_7
  clear b8 B7 Rz_7 Rr_7 cr_7_0 cr_7_1 cr_7_2 cr_7_3 cr_7_4 cr_7_5 cr_7_6 Ri_7
  obtain ⟨cr_8_0, cr_8_1, cr_8_2, cr_8_3, cr_8_4, cr_8_5, cr_8_6⟩ := rwC_cells Rr_8
  go_wp2_with fail
  refine (F27.out _).mono ?_
  rintro r w9 ⟨rfl, b9⟩
  have B9 : Below w.heap.size w w9 := btr B8 b9
  have Rz_9 := heap_of b9 _ _ _ Rz_8
  have Rr_9 := heap_of b9 _ _ _ Rr_8
  have Ri_9 := heap_of b9 _ _ _ Ri_8
  clear b9 B8 Rz_8 Rr_8 cr_8_0 cr_8_1 cr_8_2 cr_8_3 cr_8_4 cr_8_5 cr_8_6 Ri_8
  obtain ⟨cr_9_0, cr_9_1, cr_9_2, cr_9_3, cr_9_4, cr_9_5, cr_9_6⟩ := rwC_cells Rr_9
  have qi_9 := fz (k := 5) Ri_9
  have ei_9 := cell7 Ri_9 5 _ rfl
  have B10 : Below w.heap.size w (w9.setCell ⟨w1.heap.size + 1 + 1, 5, none⟩ (.int .u8 (rs1 : Nat))) := B9.setCell (by first | exact Nat.le_refl _ | (have := S2.out; have := Lz_2.out; have := Z3.out; have := S3.out; have := Lz_3.out; have := Lt_3.out; have := Z4.out; have := S4.out; have := Lz_4.out; have := Lr_4.out; show w.heap.size ≤ w1.heap.size + 1 + 1; omega)) _
  have Ri_10 : (w9.setCell ⟨w1.heap.size + 1 + 1, 5, none⟩ (.int .u8 (rs1 : Nat))).heap[w1.heap.size + 1 + 1]? = some (Obj.cells (inC ⟨ro.op, ro.form, ro.frm, ro.kind, 0, rs1, 0, 0, 0, 0, 0⟩) 28) := by rw [setCell_row Ri_9]; rfl
  have Rz_10 : (w9.setCell ⟨w1.heap.size + 1 + 1, 5, none⟩ (.int .u8 (rs1 : Nat))).heap[w.heap.size]? = some (Obj.cells #[.int .u8 0, .int .u8 0, .int .u8 0, .int .u8 0, .int .u8 0, .int .u8 0, .int .u8 0, .int .u8 0, .int .u8 0, .int .i16 0, .int .u8 0] 28) := by rw [setCell_other (by first | omega | (have := S2.out; have := Lz_2.out; have := Z3.out; have := S3.out; have := Lz_3.out; have := Lt_3.out; have := Z4.out; have := S4.out; have := Lz_4.out; have := Lr_4.out; omega))]; exact Rz_9
  have Rr_10 : (w9.setCell ⟨w1.heap.size + 1 + 1, 5, none⟩ (.int .u8 (rs1 : Nat))).heap[w1.heap.size + 1]? = some (Obj.cells (rwC ro) 54) := by rw [setCell_other (by first | omega | (have := S2.out; have := Lz_2.out; have := Z3.out; have := S3.out; have := Lz_3.out; have := Lt_3.out; have := Z4.out; have := S4.out; have := Lz_4.out; have := Lr_4.out; omega))]; exact Rr_9
  obtain ⟨w10, hw10⟩ : ∃ V, (w9.setCell ⟨w1.heap.size + 1 + 1, 5, none⟩ (.int .u8 (rs1 : Nat))) = V := ⟨_, rfl⟩
  rw [hw10] at B10 Rz_10 Rr_10 Ri_10
  obtain ⟨cr_10_0, cr_10_1, cr_10_2, cr_10_3, cr_10_4, cr_10_5, cr_10_6⟩ := rwC_cells Rr_10
  have qi_10 := fz (k := 4) Ri_10
  have ei_10 := cell7 Ri_10 4 _ rfl
  have B11 : Below w.heap.size w (w10.setCell ⟨w1.heap.size + 1 + 1, 4, none⟩ (.int .u8 (rd : Nat))) := B10.setCell (by first | exact Nat.le_refl _ | (have := S2.out; have := Lz_2.out; have := Z3.out; have := S3.out; have := Lz_3.out; have := Lt_3.out; have := Z4.out; have := S4.out; have := Lz_4.out; have := Lr_4.out; show w.heap.size ≤ w1.heap.size + 1 + 1; omega)) _
  have Ri_11 : (w10.setCell ⟨w1.heap.size + 1 + 1, 4, none⟩ (.int .u8 (rd : Nat))).heap[w1.heap.size + 1 + 1]? = some (Obj.cells (inC ⟨ro.op, ro.form, ro.frm, ro.kind, rd, rs1, 0, 0, 0, 0, 0⟩) 28) := by rw [setCell_row Ri_10]; rfl
  have Rz_11 : (w10.setCell ⟨w1.heap.size + 1 + 1, 4, none⟩ (.int .u8 (rd : Nat))).heap[w.heap.size]? = some (Obj.cells #[.int .u8 0, .int .u8 0, .int .u8 0, .int .u8 0, .int .u8 0, .int .u8 0, .int .u8 0, .int .u8 0, .int .u8 0, .int .i16 0, .int .u8 0] 28) := by rw [setCell_other (by first | omega | (have := S2.out; have := Lz_2.out; have := Z3.out; have := S3.out; have := Lz_3.out; have := Lt_3.out; have := Z4.out; have := S4.out; have := Lz_4.out; have := Lr_4.out; omega))]; exact Rz_10
  have Rr_11 : (w10.setCell ⟨w1.heap.size + 1 + 1, 4, none⟩ (.int .u8 (rd : Nat))).heap[w1.heap.size + 1]? = some (Obj.cells (rwC ro) 54) := by rw [setCell_other (by first | omega | (have := S2.out; have := Lz_2.out; have := Z3.out; have := S3.out; have := Lz_3.out; have := Lt_3.out; have := Z4.out; have := S4.out; have := Lz_4.out; have := Lr_4.out; omega))]; exact Rr_10
  obtain ⟨w11, hw11⟩ : ∃ V, (w10.setCell ⟨w1.heap.size + 1 + 1, 4, none⟩ (.int .u8 (rd : Nat))) = V := ⟨_, rfl⟩
  rw [hw11] at B11 Rz_11 Rr_11 Ri_11
  obtain ⟨cr_11_0, cr_11_1, cr_11_2, cr_11_3, cr_11_4, cr_11_5, cr_11_6⟩ := rwC_cells Rr_11
  have qi_11 := fz (k := 6) Ri_11
  have ei_11 := cell7 Ri_11 6 _ rfl
  have B12 : Below w.heap.size w (w11.setCell ⟨w1.heap.size + 1 + 1, 6, none⟩ (.int .u8 (rs2 : Nat))) := B11.setCell (by first | exact Nat.le_refl _ | (have := S2.out; have := Lz_2.out; have := Z3.out; have := S3.out; have := Lz_3.out; have := Lt_3.out; have := Z4.out; have := S4.out; have := Lz_4.out; have := Lr_4.out; show w.heap.size ≤ w1.heap.size + 1 + 1; omega)) _
  have Ri_12 : (w11.setCell ⟨w1.heap.size + 1 + 1, 6, none⟩ (.int .u8 (rs2 : Nat))).heap[w1.heap.size + 1 + 1]? = some (Obj.cells (inC ⟨ro.op, ro.form, ro.frm, ro.kind, rd, rs1, rs2, 0, 0, 0, 0⟩) 28) := by rw [setCell_row Ri_11]; rfl
  have Rz_12 : (w11.setCell ⟨w1.heap.size + 1 + 1, 6, none⟩ (.int .u8 (rs2 : Nat))).heap[w.heap.size]? = some (Obj.cells #[.int .u8 0, .int .u8 0, .int .u8 0, .int .u8 0, .int .u8 0, .int .u8 0, .int .u8 0, .int .u8 0, .int .u8 0, .int .i16 0, .int .u8 0] 28) := by rw [setCell_other (by first | omega | (have := S2.out; have := Lz_2.out; have := Z3.out; have := S3.out; have := Lz_3.out; have := Lt_3.out; have := Z4.out; have := S4.out; have := Lz_4.out; have := Lr_4.out; omega))]; exact Rz_11
  have Rr_12 : (w11.setCell ⟨w1.heap.size + 1 + 1, 6, none⟩ (.int .u8 (rs2 : Nat))).heap[w1.heap.size + 1]? = some (Obj.cells (rwC ro) 54) := by rw [setCell_other (by first | omega | (have := S2.out; have := Lz_2.out; have := Z3.out; have := S3.out; have := Lz_3.out; have := Lt_3.out; have := Z4.out; have := S4.out; have := Lz_4.out; have := Lr_4.out; omega))]; exact Rr_11
  obtain ⟨w12, hw12⟩ : ∃ V, (w11.setCell ⟨w1.heap.size + 1 + 1, 6, none⟩ (.int .u8 (rs2 : Nat))) = V := ⟨_, rfl⟩
  rw [hw12] at B12 Rz_12 Rr_12 Ri_12
  obtain ⟨cr_12_0, cr_12_1, cr_12_2, cr_12_3, cr_12_4, cr_12_5, cr_12_6⟩ := rwC_cells Rr_12
  have qi_12 := fz (k := 8) Ri_12
  have ei_12 := cell7 Ri_12 8 _ rfl
  have B13 : Below w.heap.size w (w12.setCell ⟨w1.heap.size + 1 + 1, 8, none⟩ (.int .u8 (rm : Nat))) := B12.setCell (by first | exact Nat.le_refl _ | (have := S2.out; have := Lz_2.out; have := Z3.out; have := S3.out; have := Lz_3.out; have := Lt_3.out; have := Z4.out; have := S4.out; have := Lz_4.out; have := Lr_4.out; show w.heap.size ≤ w1.heap.size + 1 + 1; omega)) _
  have Ri_13 : (w12.setCell ⟨w1.heap.size + 1 + 1, 8, none⟩ (.int .u8 (rm : Nat))).heap[w1.heap.size + 1 + 1]? = some (Obj.cells (inC ⟨ro.op, ro.form, ro.frm, ro.kind, rd, rs1, rs2, 0, rm, 0, 0⟩) 28) := by rw [setCell_row Ri_12]; rfl
  have Rz_13 : (w12.setCell ⟨w1.heap.size + 1 + 1, 8, none⟩ (.int .u8 (rm : Nat))).heap[w.heap.size]? = some (Obj.cells #[.int .u8 0, .int .u8 0, .int .u8 0, .int .u8 0, .int .u8 0, .int .u8 0, .int .u8 0, .int .u8 0, .int .u8 0, .int .i16 0, .int .u8 0] 28) := by rw [setCell_other (by first | omega | (have := S2.out; have := Lz_2.out; have := Z3.out; have := S3.out; have := Lz_3.out; have := Lt_3.out; have := Z4.out; have := S4.out; have := Lz_4.out; have := Lr_4.out; omega))]; exact Rz_12
  have Rr_13 : (w12.setCell ⟨w1.heap.size + 1 + 1, 8, none⟩ (.int .u8 (rm : Nat))).heap[w1.heap.size + 1]? = some (Obj.cells (rwC ro) 54) := by rw [setCell_other (by first | omega | (have := S2.out; have := Lz_2.out; have := Z3.out; have := S3.out; have := Lz_3.out; have := Lt_3.out; have := Z4.out; have := S4.out; have := Lz_4.out; have := Lr_4.out; omega))]; exact Rr_12
  obtain ⟨w13, hw13⟩ : ∃ V, (w12.setCell ⟨w1.heap.size + 1 + 1, 8, none⟩ (.int .u8 (rm : Nat))) = V := ⟨_, rfl⟩
  rw [hw13] at B13 Rz_13 Rr_13 Ri_13
  obtain ⟨cr_13_0, cr_13_1, cr_13_2, cr_13_3, cr_13_4, cr_13_5, cr_13_6⟩ := rwC_cells Rr_13
  obtain ⟨ci_13_0, ci_13_1, ci_13_2, ci_13_3, ci_13_4, ci_13_5, ci_13_6, ci_13_7, ci_13_8, ci_13_9, ci_13_10⟩ := inC_cells Ri_13
  have hif2 : #[Value.int .u8 (ro.op : Nat), .int .u8 (ro.form : Nat), .int .u8 (ro.frm : Nat), .int .u8 (ro.kind : Nat), .int .u8 (rd : Nat), .int .u8 (rs1 : Nat), .int .u8 (rs2 : Nat), .int .u8 0, .int .u8 (rm : Nat), .int .i16 0, .int .u8 0] = (inC ⟨ro.op, ro.form, ro.frm, ro.kind, rd, rs1, rs2, 0, rm, 0, 0⟩) := rfl
  have hst := inC_store (x := ⟨ro.op, ro.form, ro.frm, ro.kind, rd, rs1, rs2, 0, rm, 0, 0⟩) Rz_13 rfl
  have rz := setRow_row (c' := inC ⟨ro.op, ro.form, ro.frm, ro.kind, rd, rs1, rs2, 0, rm, 0, 0⟩) Rz_13
  have bz : Below w.heap.size w (w13.setRow (w.heap.size) (inC ⟨ro.op, ro.form, ro.frm, ro.kind, rd, rs1, rs2, 0, rm, 0, 0⟩)) := Below.setRow B13 (show w.heap.size ≤ w.heap.size by first | exact Nat.le_refl _ | omega | (have := S2.out; have := Lz_2.out; have := Z3.out; have := S3.out; have := Lz_3.out; have := Lt_3.out; have := Z4.out; have := S4.out; have := Lz_4.out; have := Lr_4.out; omega))
  obtain ⟨wz, hwz⟩ : ∃ V, w13.setRow (w.heap.size) (inC ⟨ro.op, ro.form, ro.frm, ro.kind, rd, rs1, rs2, 0, rm, 0, 0⟩) = V := ⟨_, rfl⟩
  rw [hwz] at hst rz bz
  clear hwz
  go_wp2
  exact bodyPost_ret (v := .tuple #[.agg (inC ⟨ro.op, ro.form, ro.frm, ro.kind, rd, rs1, rs2, 0, rm, 0, 0⟩), .int .i64 0]) (res_inC Tryd.results10 rfl rz) rfl ⟨rfl, bz⟩
set_option maxRecDepth 100000 in
set_option maxHeartbeats 8000000 in
theorem b25_dec_5 (x : Nat) (ro : Rw) (s : ByteArray) (rd rm rs1 rs2 rs3 : Nat) (q1 : (((ro.lay : Nat) : Int) == 1) = false) (q2 : (((ro.lay : Nat) : Int) == 2) = false) (q3 : (((ro.lay : Nat) : Int) == 3) = false) (q4 : (((ro.lay : Nat) : Int) == 4) = false) (q5 : (((ro.lay : Nat) : Int) == 5) = true) (ne : (((ro.lay : Nat) : Int) != 2) = true) (m0 : ((rd : Nat) : Int) % 256 = (rd : Nat)) (m1 : ((rm : Nat) : Int) % 256 = (rm : Nat)) (m2 : ((rs1 : Nat) : Int) % 256 = (rs1 : Nat)) (m3 : ((rs2 : Nat) : Int) % 256 = (rs2 : Nat)) (m4 : ((rs3 : Nat) : Int) % 256 = (rs3 : Nat)) (w : World) (KF : Box (∀ w, Calls Tryd.prog 20 #[.int .u32 (x : Nat)] w fun r w' => r = .returned (.tuple #[.agg (ndC ro s), .bool true]) ∧ Below w.heap.size w w')) (F7 : Box (∀ w, Calls Tryd.prog 25 #[.int .u32 (x : Nat), .int .i64 7, .int .i64 5] w fun r w' => r = .returned (.int .i64 (rd : Nat)) ∧ Below w.heap.size w w')) (F12 : Box (∀ w, Calls Tryd.prog 25 #[.int .u32 (x : Nat), .int .i64 12, .int .i64 3] w fun r w' => r = .returned (.int .i64 (rm : Nat)) ∧ Below w.heap.size w w')) (F15 : Box (∀ w, Calls Tryd.prog 25 #[.int .u32 (x : Nat), .int .i64 15, .int .i64 5] w fun r w' => r = .returned (.int .i64 (rs1 : Nat)) ∧ Below w.heap.size w w')) (F20 : Box (∀ w, Calls Tryd.prog 25 #[.int .u32 (x : Nat), .int .i64 20, .int .i64 5] w fun r w' => r = .returned (.int .i64 (rs2 : Nat)) ∧ Below w.heap.size w w')) (F27 : Box (∀ w, Calls Tryd.prog 25 #[.int .u32 (x : Nat), .int .i64 27, .int .i64 5] w fun r w' => r = .returned (.int .i64 (rs3 : Nat)) ∧ Below w.heap.size w w')) : Calls Tryd.prog 10 #[.int .u32 (x : Nat)] w fun r w' => r = .returned (.tuple #[.agg (inC ⟨ro.op, ro.form, ro.frm, ro.kind, rd, rs1, rs2, 0, 0, 0, 0⟩), .int .i64 0]) ∧ Below w.heap.size w w' := by
  have hnn := ndC_new
  have hrf := rwC_fold
  have hrn := rwC_new
  have hin := inC_new
  have hif := in_fold0
  have hnr := nd_row
  have hr0 := rw_at0
  have hr1 := rw_at1
  have hr2 := rw_at2
  have hr3 := rw_at3
  have hr4 := rw_at4
  have hr5 := rw_at5
  have hr6 := rw_at6
  obtain ⟨Rz_0, B0⟩ := opn1 w (Obj.cells #[.int .u8 0, .int .u8 0, .int .u8 0, .int .u8 0, .int .u8 0, .int .u8 0, .int .u8 0, .int .u8 0, .int .u8 0, .int .i16 0, .int .u8 0] 28)
  go_enter Tryd.func10, Tryd.ntmps10
  go_wp2_with fail
  refine (KF.out _).mono ?_
  rintro r w1 ⟨rfl, b1⟩
  have B1 : Below w.heap.size w w1 := btr B0 b1
  have Rz_1 := heap_of b1 _ _ _ Rz_0
  clear b1 B0 Rz_0
  have S2 := box B1.size
  have Lz_2 : Box (w.heap.size < w1.heap.size) := box (Array.getElem?_eq_some_iff.1 Rz_1).1
  have Rt_2 := heap_alloc_last w1 (Obj.cells (ndC ro s) 56)
  have B2 := btr B1 (bal w1 (Obj.cells (ndC ro s) 56))
  have Rz_2 := heap_of (bal w1 (Obj.cells (ndC ro s) 56)) _ _ _ Rz_1
  clear B1 Rz_1
  obtain ⟨ct_2_0, ct_2_1, ct_2_2, ct_2_3, ct_2_4, ct_2_5, ct_2_6, ct_2_7⟩ := ndC_cells Rt_2
  have S3 := box B2.size
  have Lz_3 : Box (w.heap.size < (w1.alloc (Obj.cells (ndC ro s) 56)).heap.size) := box (Array.getElem?_eq_some_iff.1 Rz_2).1
  have Lt_3 : Box (w1.heap.size < (w1.alloc (Obj.cells (ndC ro s) 56)).heap.size) := box (Array.getElem?_eq_some_iff.1 Rt_2).1
  have Z3 := box (size_al w1 (Obj.cells (ndC ro s) 56))
  have Rr_3 : ((w1.alloc (Obj.cells (ndC ro s) 56)).alloc (Obj.cells (rwC ro) 54)).heap[w1.heap.size + 1]? = some (Obj.cells (rwC ro) 54) := by have := heap_alloc_last (w1.alloc (Obj.cells (ndC ro s) 56)) (Obj.cells (rwC ro) 54); simpa only [size_al] using this
  have B3 := btr B2 (bal (w1.alloc (Obj.cells (ndC ro s) 56)) (Obj.cells (rwC ro) 54))
  have Rz_3 := heap_of (bal (w1.alloc (Obj.cells (ndC ro s) 56)) (Obj.cells (rwC ro) 54)) _ _ _ Rz_2
  have Rt_3 := heap_of (bal (w1.alloc (Obj.cells (ndC ro s) 56)) (Obj.cells (rwC ro) 54)) _ _ _ Rt_2
  clear B2 Rz_2 Rt_2 ct_2_0 ct_2_1 ct_2_2 ct_2_3 ct_2_4 ct_2_5 ct_2_6 ct_2_7
  obtain ⟨ct_3_0, ct_3_1, ct_3_2, ct_3_3, ct_3_4, ct_3_5, ct_3_6, ct_3_7⟩ := ndC_cells Rt_3
  obtain ⟨cr_3_0, cr_3_1, cr_3_2, cr_3_3, cr_3_4, cr_3_5, cr_3_6⟩ := rwC_cells Rr_3
  clear Rt_3 ct_3_0 ct_3_1 ct_3_2 ct_3_3 ct_3_4 ct_3_5 ct_3_6 ct_3_7
  have S4 := box B3.size
  have Lz_4 : Box (w.heap.size < ((w1.alloc (Obj.cells (ndC ro s) 56)).alloc (Obj.cells (rwC ro) 54)).heap.size) := box (Array.getElem?_eq_some_iff.1 Rz_3).1
  have Lr_4 : Box (w1.heap.size + 1 < ((w1.alloc (Obj.cells (ndC ro s) 56)).alloc (Obj.cells (rwC ro) 54)).heap.size) := box (Array.getElem?_eq_some_iff.1 Rr_3).1
  have Z4 := box (size_al (w1.alloc (Obj.cells (ndC ro s) 56)) (Obj.cells (rwC ro) 54))
  have Ri_4 : (((w1.alloc (Obj.cells (ndC ro s) 56)).alloc (Obj.cells (rwC ro) 54)).alloc (Obj.cells (inC ⟨ro.op, ro.form, ro.frm, ro.kind, 0, 0, 0, 0, 0, 0, 0⟩) 28)).heap[w1.heap.size + 1 + 1]? = some (Obj.cells (inC ⟨ro.op, ro.form, ro.frm, ro.kind, 0, 0, 0, 0, 0, 0, 0⟩) 28) := by have := heap_alloc_last ((w1.alloc (Obj.cells (ndC ro s) 56)).alloc (Obj.cells (rwC ro) 54)) (Obj.cells (inC ⟨ro.op, ro.form, ro.frm, ro.kind, 0, 0, 0, 0, 0, 0, 0⟩) 28); simpa only [size_al] using this
  have B4 := btr B3 (bal ((w1.alloc (Obj.cells (ndC ro s) 56)).alloc (Obj.cells (rwC ro) 54)) (Obj.cells (inC ⟨ro.op, ro.form, ro.frm, ro.kind, 0, 0, 0, 0, 0, 0, 0⟩) 28))
  have Rz_4 := heap_of (bal ((w1.alloc (Obj.cells (ndC ro s) 56)).alloc (Obj.cells (rwC ro) 54)) (Obj.cells (inC ⟨ro.op, ro.form, ro.frm, ro.kind, 0, 0, 0, 0, 0, 0, 0⟩) 28)) _ _ _ Rz_3
  have Rr_4 := heap_of (bal ((w1.alloc (Obj.cells (ndC ro s) 56)).alloc (Obj.cells (rwC ro) 54)) (Obj.cells (inC ⟨ro.op, ro.form, ro.frm, ro.kind, 0, 0, 0, 0, 0, 0, 0⟩) 28)) _ _ _ Rr_3
  clear B3 Rz_3 Rr_3 cr_3_0 cr_3_1 cr_3_2 cr_3_3 cr_3_4 cr_3_5 cr_3_6
  obtain ⟨cr_4_0, cr_4_1, cr_4_2, cr_4_3, cr_4_4, cr_4_5, cr_4_6⟩ := rwC_cells Rr_4
  obtain ⟨ci_4_0, ci_4_1, ci_4_2, ci_4_3, ci_4_4, ci_4_5, ci_4_6, ci_4_7, ci_4_8, ci_4_9, ci_4_10⟩ := inC_cells Ri_4
  clear ci_4_0 ci_4_1 ci_4_2 ci_4_3 ci_4_4 ci_4_5 ci_4_6 ci_4_7 ci_4_8 ci_4_9 ci_4_10
  go_wp2_with fail
  refine (F7.out _).mono ?_
  rintro r w5 ⟨rfl, b5⟩
  have B5 : Below w.heap.size w w5 := btr B4 b5
  have Rz_5 := heap_of b5 _ _ _ Rz_4
  have Rr_5 := heap_of b5 _ _ _ Rr_4
  have Ri_5 := heap_of b5 _ _ _ Ri_4
  clear b5 B4 Rz_4 Rr_4 cr_4_0 cr_4_1 cr_4_2 cr_4_3 cr_4_4 cr_4_5 cr_4_6 Ri_4
  obtain ⟨cr_5_0, cr_5_1, cr_5_2, cr_5_3, cr_5_4, cr_5_5, cr_5_6⟩ := rwC_cells Rr_5
  go_wp2_with fail
  refine (F12.out _).mono ?_
  rintro r w6 ⟨rfl, b6⟩
  have B6 : Below w.heap.size w w6 := btr B5 b6
  have Rz_6 := heap_of b6 _ _ _ Rz_5
  have Rr_6 := heap_of b6 _ _ _ Rr_5
  have Ri_6 := heap_of b6 _ _ _ Ri_5
  clear b6 B5 Rz_5 Rr_5 cr_5_0 cr_5_1 cr_5_2 cr_5_3 cr_5_4 cr_5_5 cr_5_6 Ri_5
  obtain ⟨cr_6_0, cr_6_1, cr_6_2, cr_6_3, cr_6_4, cr_6_5, cr_6_6⟩ := rwC_cells Rr_6
  go_wp2_with fail
  refine (F15.out _).mono ?_
  rintro r w7 ⟨rfl, b7⟩
  have B7 : Below w.heap.size w w7 := btr B6 b7
  have Rz_7 := heap_of b7 _ _ _ Rz_6
  have Rr_7 := heap_of b7 _ _ _ Rr_6
  have Ri_7 := heap_of b7 _ _ _ Ri_6
  clear b7 B6 Rz_6 Rr_6 cr_6_0 cr_6_1 cr_6_2 cr_6_3 cr_6_4 cr_6_5 cr_6_6 Ri_6
  obtain ⟨cr_7_0, cr_7_1, cr_7_2, cr_7_3, cr_7_4, cr_7_5, cr_7_6⟩ := rwC_cells Rr_7
  go_wp2_with fail
  refine (F20.out _).mono ?_
  rintro r w8 ⟨rfl, b8⟩
  have B8 : Below w.heap.size w w8 := btr B7 b8
  have Rz_8 := heap_of b8 _ _ _ Rz_7
  have Rr_8 := heap_of b8 _ _ _ Rr_7
  have Ri_8 := heap_of b8 _ _ _ Ri_7
  clear b8 B7 Rz_7 Rr_7 cr_7_0 cr_7_1 cr_7_2 cr_7_3 cr_7_4 cr_7_5 cr_7_6 Ri_7
  obtain ⟨cr_8_0, cr_8_1, cr_8_2, cr_8_3, cr_8_4, cr_8_5, cr_8_6⟩ := rwC_cells Rr_8
  go_wp2_with fail
  refine (F27.out _).mono ?_
  rintro r w9 ⟨rfl, b9⟩
  have B9 : Below w.heap.size w w9 := btr B8 b9
  have Rz_9 := heap_of b9 _ _ _ Rz_8
  have Rr_9 := heap_of b9 _ _ _ Rr_8
  have Ri_9 := heap_of b9 _ _ _ Ri_8
  clear b9 B8 Rz_8 Rr_8 cr_8_0 cr_8_1 cr_8_2 cr_8_3 cr_8_4 cr_8_5 cr_8_6 Ri_8
  obtain ⟨cr_9_0, cr_9_1, cr_9_2, cr_9_3, cr_9_4, cr_9_5, cr_9_6⟩ := rwC_cells Rr_9
  have qi_9 := fz (k := 5) Ri_9
  have ei_9 := cell7 Ri_9 5 _ rfl
  have B10 : Below w.heap.size w (w9.setCell ⟨w1.heap.size + 1 + 1, 5, none⟩ (.int .u8 (rs1 : Nat))) := B9.setCell (by first | exact Nat.le_refl _ | (have := S2.out; have := Lz_2.out; have := Z3.out; have := S3.out; have := Lz_3.out; have := Lt_3.out; have := Z4.out; have := S4.out; have := Lz_4.out; have := Lr_4.out; show w.heap.size ≤ w1.heap.size + 1 + 1; omega)) _
  have Ri_10 : (w9.setCell ⟨w1.heap.size + 1 + 1, 5, none⟩ (.int .u8 (rs1 : Nat))).heap[w1.heap.size + 1 + 1]? = some (Obj.cells (inC ⟨ro.op, ro.form, ro.frm, ro.kind, 0, rs1, 0, 0, 0, 0, 0⟩) 28) := by rw [setCell_row Ri_9]; rfl
  have Rz_10 : (w9.setCell ⟨w1.heap.size + 1 + 1, 5, none⟩ (.int .u8 (rs1 : Nat))).heap[w.heap.size]? = some (Obj.cells #[.int .u8 0, .int .u8 0, .int .u8 0, .int .u8 0, .int .u8 0, .int .u8 0, .int .u8 0, .int .u8 0, .int .u8 0, .int .i16 0, .int .u8 0] 28) := by rw [setCell_other (by first | omega | (have := S2.out; have := Lz_2.out; have := Z3.out; have := S3.out; have := Lz_3.out; have := Lt_3.out; have := Z4.out; have := S4.out; have := Lz_4.out; have := Lr_4.out; omega))]; exact Rz_9
  have Rr_10 : (w9.setCell ⟨w1.heap.size + 1 + 1, 5, none⟩ (.int .u8 (rs1 : Nat))).heap[w1.heap.size + 1]? = some (Obj.cells (rwC ro) 54) := by rw [setCell_other (by first | omega | (have := S2.out; have := Lz_2.out; have := Z3.out; have := S3.out; have := Lz_3.out; have := Lt_3.out; have := Z4.out; have := S4.out; have := Lz_4.out; have := Lr_4.out; omega))]; exact Rr_9
  obtain ⟨w10, hw10⟩ : ∃ V, (w9.setCell ⟨w1.heap.size + 1 + 1, 5, none⟩ (.int .u8 (rs1 : Nat))) = V := ⟨_, rfl⟩
  rw [hw10] at B10 Rz_10 Rr_10 Ri_10
  obtain ⟨cr_10_0, cr_10_1, cr_10_2, cr_10_3, cr_10_4, cr_10_5, cr_10_6⟩ := rwC_cells Rr_10
  have qi_10 := fz (k := 4) Ri_10
  have ei_10 := cell7 Ri_10 4 _ rfl
  have B11 : Below w.heap.size w (w10.setCell ⟨w1.heap.size + 1 + 1, 4, none⟩ (.int .u8 (rd : Nat))) := B10.setCell (by first | exact Nat.le_refl _ | (have := S2.out; have := Lz_2.out; have := Z3.out; have := S3.out; have := Lz_3.out; have := Lt_3.out; have := Z4.out; have := S4.out; have := Lz_4.out; have := Lr_4.out; show w.heap.size ≤ w1.heap.size + 1 + 1; omega)) _
  have Ri_11 : (w10.setCell ⟨w1.heap.size + 1 + 1, 4, none⟩ (.int .u8 (rd : Nat))).heap[w1.heap.size + 1 + 1]? = some (Obj.cells (inC ⟨ro.op, ro.form, ro.frm, ro.kind, rd, rs1, 0, 0, 0, 0, 0⟩) 28) := by rw [setCell_row Ri_10]; rfl
  have Rz_11 : (w10.setCell ⟨w1.heap.size + 1 + 1, 4, none⟩ (.int .u8 (rd : Nat))).heap[w.heap.size]? = some (Obj.cells #[.int .u8 0, .int .u8 0, .int .u8 0, .int .u8 0, .int .u8 0, .int .u8 0, .int .u8 0, .int .u8 0, .int .u8 0, .int .i16 0, .int .u8 0] 28) := by rw [setCell_other (by first | omega | (have := S2.out; have := Lz_2.out; have := Z3.out; have := S3.out; have := Lz_3.out; have := Lt_3.out; have := Z4.out; have := S4.out; have := Lz_4.out; have := Lr_4.out; omega))]; exact Rz_10
  have Rr_11 : (w10.setCell ⟨w1.heap.size + 1 + 1, 4, none⟩ (.int .u8 (rd : Nat))).heap[w1.heap.size + 1]? = some (Obj.cells (rwC ro) 54) := by rw [setCell_other (by first | omega | (have := S2.out; have := Lz_2.out; have := Z3.out; have := S3.out; have := Lz_3.out; have := Lt_3.out; have := Z4.out; have := S4.out; have := Lz_4.out; have := Lr_4.out; omega))]; exact Rr_10
  obtain ⟨w11, hw11⟩ : ∃ V, (w10.setCell ⟨w1.heap.size + 1 + 1, 4, none⟩ (.int .u8 (rd : Nat))) = V := ⟨_, rfl⟩
  rw [hw11] at B11 Rz_11 Rr_11 Ri_11
  obtain ⟨cr_11_0, cr_11_1, cr_11_2, cr_11_3, cr_11_4, cr_11_5, cr_11_6⟩ := rwC_cells Rr_11
  have qi_11 := fz (k := 6) Ri_11
  have ei_11 := cell7 Ri_11 6 _ rfl
  have B12 : Below w.heap.size w (w11.setCell ⟨w1.heap.size + 1 + 1, 6, none⟩ (.int .u8 (rs2 : Nat))) := B11.setCell (by first | exact Nat.le_refl _ | (have := S2.out; have := Lz_2.out; have := Z3.out; have := S3.out; have := Lz_3.out; have := Lt_3.out; have := Z4.out; have := S4.out; have := Lz_4.out; have := Lr_4.out; show w.heap.size ≤ w1.heap.size + 1 + 1; omega)) _
  have Ri_12 : (w11.setCell ⟨w1.heap.size + 1 + 1, 6, none⟩ (.int .u8 (rs2 : Nat))).heap[w1.heap.size + 1 + 1]? = some (Obj.cells (inC ⟨ro.op, ro.form, ro.frm, ro.kind, rd, rs1, rs2, 0, 0, 0, 0⟩) 28) := by rw [setCell_row Ri_11]; rfl
  have Rz_12 : (w11.setCell ⟨w1.heap.size + 1 + 1, 6, none⟩ (.int .u8 (rs2 : Nat))).heap[w.heap.size]? = some (Obj.cells #[.int .u8 0, .int .u8 0, .int .u8 0, .int .u8 0, .int .u8 0, .int .u8 0, .int .u8 0, .int .u8 0, .int .u8 0, .int .i16 0, .int .u8 0] 28) := by rw [setCell_other (by first | omega | (have := S2.out; have := Lz_2.out; have := Z3.out; have := S3.out; have := Lz_3.out; have := Lt_3.out; have := Z4.out; have := S4.out; have := Lz_4.out; have := Lr_4.out; omega))]; exact Rz_11
  have Rr_12 : (w11.setCell ⟨w1.heap.size + 1 + 1, 6, none⟩ (.int .u8 (rs2 : Nat))).heap[w1.heap.size + 1]? = some (Obj.cells (rwC ro) 54) := by rw [setCell_other (by first | omega | (have := S2.out; have := Lz_2.out; have := Z3.out; have := S3.out; have := Lz_3.out; have := Lt_3.out; have := Z4.out; have := S4.out; have := Lz_4.out; have := Lr_4.out; omega))]; exact Rr_11
  obtain ⟨w12, hw12⟩ : ∃ V, (w11.setCell ⟨w1.heap.size + 1 + 1, 6, none⟩ (.int .u8 (rs2 : Nat))) = V := ⟨_, rfl⟩
  rw [hw12] at B12 Rz_12 Rr_12 Ri_12
  obtain ⟨cr_12_0, cr_12_1, cr_12_2, cr_12_3, cr_12_4, cr_12_5, cr_12_6⟩ := rwC_cells Rr_12
  obtain ⟨ci_12_0, ci_12_1, ci_12_2, ci_12_3, ci_12_4, ci_12_5, ci_12_6, ci_12_7, ci_12_8, ci_12_9, ci_12_10⟩ := inC_cells Ri_12
  have hif2 : #[Value.int .u8 (ro.op : Nat), .int .u8 (ro.form : Nat), .int .u8 (ro.frm : Nat), .int .u8 (ro.kind : Nat), .int .u8 (rd : Nat), .int .u8 (rs1 : Nat), .int .u8 (rs2 : Nat), .int .u8 0, .int .u8 0, .int .i16 0, .int .u8 0] = (inC ⟨ro.op, ro.form, ro.frm, ro.kind, rd, rs1, rs2, 0, 0, 0, 0⟩) := rfl
  have hst := inC_store (x := ⟨ro.op, ro.form, ro.frm, ro.kind, rd, rs1, rs2, 0, 0, 0, 0⟩) Rz_12 rfl
  have rz := setRow_row (c' := inC ⟨ro.op, ro.form, ro.frm, ro.kind, rd, rs1, rs2, 0, 0, 0, 0⟩) Rz_12
  have bz : Below w.heap.size w (w12.setRow (w.heap.size) (inC ⟨ro.op, ro.form, ro.frm, ro.kind, rd, rs1, rs2, 0, 0, 0, 0⟩)) := Below.setRow B12 (show w.heap.size ≤ w.heap.size by first | exact Nat.le_refl _ | omega | (have := S2.out; have := Lz_2.out; have := Z3.out; have := S3.out; have := Lz_3.out; have := Lt_3.out; have := Z4.out; have := S4.out; have := Lz_4.out; have := Lr_4.out; omega))
  obtain ⟨wz, hwz⟩ : ∃ V, w12.setRow (w.heap.size) (inC ⟨ro.op, ro.form, ro.frm, ro.kind, rd, rs1, rs2, 0, 0, 0, 0⟩) = V := ⟨_, rfl⟩
  rw [hwz] at hst rz bz
  clear hwz
  go_wp2
  exact bodyPost_ret (v := .tuple #[.agg (inC ⟨ro.op, ro.form, ro.frm, ro.kind, rd, rs1, rs2, 0, 0, 0, 0⟩), .int .i64 0]) (res_inC Tryd.results10 rfl rz) rfl ⟨rfl, bz⟩
set_option maxRecDepth 100000 in
set_option maxHeartbeats 8000000 in
theorem b25_dec_6 (x : Nat) (ro : Rw) (s : ByteArray) (rd rm rs1 rs2 rs3 : Nat) (q1 : (((ro.lay : Nat) : Int) == 1) = false) (q2 : (((ro.lay : Nat) : Int) == 2) = false) (q3 : (((ro.lay : Nat) : Int) == 3) = false) (q4 : (((ro.lay : Nat) : Int) == 4) = false) (q5 : (((ro.lay : Nat) : Int) == 5) = false) (q6 : (((ro.lay : Nat) : Int) == 6) = true) (ne : (((ro.lay : Nat) : Int) != 2) = true) (m0 : ((rd : Nat) : Int) % 256 = (rd : Nat)) (m1 : ((rm : Nat) : Int) % 256 = (rm : Nat)) (m2 : ((rs1 : Nat) : Int) % 256 = (rs1 : Nat)) (m3 : ((rs2 : Nat) : Int) % 256 = (rs2 : Nat)) (m4 : ((rs3 : Nat) : Int) % 256 = (rs3 : Nat)) (w : World) (KF : Box (∀ w, Calls Tryd.prog 20 #[.int .u32 (x : Nat)] w fun r w' => r = .returned (.tuple #[.agg (ndC ro s), .bool true]) ∧ Below w.heap.size w w')) (F7 : Box (∀ w, Calls Tryd.prog 25 #[.int .u32 (x : Nat), .int .i64 7, .int .i64 5] w fun r w' => r = .returned (.int .i64 (rd : Nat)) ∧ Below w.heap.size w w')) (F12 : Box (∀ w, Calls Tryd.prog 25 #[.int .u32 (x : Nat), .int .i64 12, .int .i64 3] w fun r w' => r = .returned (.int .i64 (rm : Nat)) ∧ Below w.heap.size w w')) (F15 : Box (∀ w, Calls Tryd.prog 25 #[.int .u32 (x : Nat), .int .i64 15, .int .i64 5] w fun r w' => r = .returned (.int .i64 (rs1 : Nat)) ∧ Below w.heap.size w w')) (F20 : Box (∀ w, Calls Tryd.prog 25 #[.int .u32 (x : Nat), .int .i64 20, .int .i64 5] w fun r w' => r = .returned (.int .i64 (rs2 : Nat)) ∧ Below w.heap.size w w')) (F27 : Box (∀ w, Calls Tryd.prog 25 #[.int .u32 (x : Nat), .int .i64 27, .int .i64 5] w fun r w' => r = .returned (.int .i64 (rs3 : Nat)) ∧ Below w.heap.size w w')) : Calls Tryd.prog 10 #[.int .u32 (x : Nat)] w fun r w' => r = .returned (.tuple #[.agg (inC ⟨ro.op, ro.form, ro.frm, ro.kind, rd, rs1, 0, 0, rm, 0, 0⟩), .int .i64 0]) ∧ Below w.heap.size w w' := by
  have hnn := ndC_new
  have hrf := rwC_fold
  have hrn := rwC_new
  have hin := inC_new
  have hif := in_fold0
  have hnr := nd_row
  have hr0 := rw_at0
  have hr1 := rw_at1
  have hr2 := rw_at2
  have hr3 := rw_at3
  have hr4 := rw_at4
  have hr5 := rw_at5
  have hr6 := rw_at6
  obtain ⟨Rz_0, B0⟩ := opn1 w (Obj.cells #[.int .u8 0, .int .u8 0, .int .u8 0, .int .u8 0, .int .u8 0, .int .u8 0, .int .u8 0, .int .u8 0, .int .u8 0, .int .i16 0, .int .u8 0] 28)
  go_enter Tryd.func10, Tryd.ntmps10
  go_wp2_with fail
  refine (KF.out _).mono ?_
  rintro r w1 ⟨rfl, b1⟩
  have B1 : Below w.heap.size w w1 := btr B0 b1
  have Rz_1 := heap_of b1 _ _ _ Rz_0
  clear b1 B0 Rz_0
  have S2 := box B1.size
  have Lz_2 : Box (w.heap.size < w1.heap.size) := box (Array.getElem?_eq_some_iff.1 Rz_1).1
  have Rt_2 := heap_alloc_last w1 (Obj.cells (ndC ro s) 56)
  have B2 := btr B1 (bal w1 (Obj.cells (ndC ro s) 56))
  have Rz_2 := heap_of (bal w1 (Obj.cells (ndC ro s) 56)) _ _ _ Rz_1
  clear B1 Rz_1
  obtain ⟨ct_2_0, ct_2_1, ct_2_2, ct_2_3, ct_2_4, ct_2_5, ct_2_6, ct_2_7⟩ := ndC_cells Rt_2
  have S3 := box B2.size
  have Lz_3 : Box (w.heap.size < (w1.alloc (Obj.cells (ndC ro s) 56)).heap.size) := box (Array.getElem?_eq_some_iff.1 Rz_2).1
  have Lt_3 : Box (w1.heap.size < (w1.alloc (Obj.cells (ndC ro s) 56)).heap.size) := box (Array.getElem?_eq_some_iff.1 Rt_2).1
  have Z3 := box (size_al w1 (Obj.cells (ndC ro s) 56))
  have Rr_3 : ((w1.alloc (Obj.cells (ndC ro s) 56)).alloc (Obj.cells (rwC ro) 54)).heap[w1.heap.size + 1]? = some (Obj.cells (rwC ro) 54) := by have := heap_alloc_last (w1.alloc (Obj.cells (ndC ro s) 56)) (Obj.cells (rwC ro) 54); simpa only [size_al] using this
  have B3 := btr B2 (bal (w1.alloc (Obj.cells (ndC ro s) 56)) (Obj.cells (rwC ro) 54))
  have Rz_3 := heap_of (bal (w1.alloc (Obj.cells (ndC ro s) 56)) (Obj.cells (rwC ro) 54)) _ _ _ Rz_2
  have Rt_3 := heap_of (bal (w1.alloc (Obj.cells (ndC ro s) 56)) (Obj.cells (rwC ro) 54)) _ _ _ Rt_2
  clear B2 Rz_2 Rt_2 ct_2_0 ct_2_1 ct_2_2 ct_2_3 ct_2_4 ct_2_5 ct_2_6 ct_2_7
  obtain ⟨ct_3_0, ct_3_1, ct_3_2, ct_3_3, ct_3_4, ct_3_5, ct_3_6, ct_3_7⟩ := ndC_cells Rt_3
  obtain ⟨cr_3_0, cr_3_1, cr_3_2, cr_3_3, cr_3_4, cr_3_5, cr_3_6⟩ := rwC_cells Rr_3
  clear Rt_3 ct_3_0 ct_3_1 ct_3_2 ct_3_3 ct_3_4 ct_3_5 ct_3_6 ct_3_7
  have S4 := box B3.size
  have Lz_4 : Box (w.heap.size < ((w1.alloc (Obj.cells (ndC ro s) 56)).alloc (Obj.cells (rwC ro) 54)).heap.size) := box (Array.getElem?_eq_some_iff.1 Rz_3).1
  have Lr_4 : Box (w1.heap.size + 1 < ((w1.alloc (Obj.cells (ndC ro s) 56)).alloc (Obj.cells (rwC ro) 54)).heap.size) := box (Array.getElem?_eq_some_iff.1 Rr_3).1
  have Z4 := box (size_al (w1.alloc (Obj.cells (ndC ro s) 56)) (Obj.cells (rwC ro) 54))
  have Ri_4 : (((w1.alloc (Obj.cells (ndC ro s) 56)).alloc (Obj.cells (rwC ro) 54)).alloc (Obj.cells (inC ⟨ro.op, ro.form, ro.frm, ro.kind, 0, 0, 0, 0, 0, 0, 0⟩) 28)).heap[w1.heap.size + 1 + 1]? = some (Obj.cells (inC ⟨ro.op, ro.form, ro.frm, ro.kind, 0, 0, 0, 0, 0, 0, 0⟩) 28) := by have := heap_alloc_last ((w1.alloc (Obj.cells (ndC ro s) 56)).alloc (Obj.cells (rwC ro) 54)) (Obj.cells (inC ⟨ro.op, ro.form, ro.frm, ro.kind, 0, 0, 0, 0, 0, 0, 0⟩) 28); simpa only [size_al] using this
  have B4 := btr B3 (bal ((w1.alloc (Obj.cells (ndC ro s) 56)).alloc (Obj.cells (rwC ro) 54)) (Obj.cells (inC ⟨ro.op, ro.form, ro.frm, ro.kind, 0, 0, 0, 0, 0, 0, 0⟩) 28))
  have Rz_4 := heap_of (bal ((w1.alloc (Obj.cells (ndC ro s) 56)).alloc (Obj.cells (rwC ro) 54)) (Obj.cells (inC ⟨ro.op, ro.form, ro.frm, ro.kind, 0, 0, 0, 0, 0, 0, 0⟩) 28)) _ _ _ Rz_3
  have Rr_4 := heap_of (bal ((w1.alloc (Obj.cells (ndC ro s) 56)).alloc (Obj.cells (rwC ro) 54)) (Obj.cells (inC ⟨ro.op, ro.form, ro.frm, ro.kind, 0, 0, 0, 0, 0, 0, 0⟩) 28)) _ _ _ Rr_3
  clear B3 Rz_3 Rr_3 cr_3_0 cr_3_1 cr_3_2 cr_3_3 cr_3_4 cr_3_5 cr_3_6
  obtain ⟨cr_4_0, cr_4_1, cr_4_2, cr_4_3, cr_4_4, cr_4_5, cr_4_6⟩ := rwC_cells Rr_4
  obtain ⟨ci_4_0, ci_4_1, ci_4_2, ci_4_3, ci_4_4, ci_4_5, ci_4_6, ci_4_7, ci_4_8, ci_4_9, ci_4_10⟩ := inC_cells Ri_4
  clear ci_4_0 ci_4_1 ci_4_2 ci_4_3 ci_4_4 ci_4_5 ci_4_6 ci_4_7 ci_4_8 ci_4_9 ci_4_10
  go_wp2_with fail
  refine (F7.out _).mono ?_
  rintro r w5 ⟨rfl, b5⟩
  have B5 : Below w.heap.size w w5 := btr B4 b5
  have Rz_5 := heap_of b5 _ _ _ Rz_4
  have Rr_5 := heap_of b5 _ _ _ Rr_4
  have Ri_5 := heap_of b5 _ _ _ Ri_4
  clear b5 B4 Rz_4 Rr_4 cr_4_0 cr_4_1 cr_4_2 cr_4_3 cr_4_4 cr_4_5 cr_4_6 Ri_4
  obtain ⟨cr_5_0, cr_5_1, cr_5_2, cr_5_3, cr_5_4, cr_5_5, cr_5_6⟩ := rwC_cells Rr_5
  go_wp2_with fail
  refine (F12.out _).mono ?_
  rintro r w6 ⟨rfl, b6⟩
  have B6 : Below w.heap.size w w6 := btr B5 b6
  have Rz_6 := heap_of b6 _ _ _ Rz_5
  have Rr_6 := heap_of b6 _ _ _ Rr_5
  have Ri_6 := heap_of b6 _ _ _ Ri_5
  clear b6 B5 Rz_5 Rr_5 cr_5_0 cr_5_1 cr_5_2 cr_5_3 cr_5_4 cr_5_5 cr_5_6 Ri_5
  obtain ⟨cr_6_0, cr_6_1, cr_6_2, cr_6_3, cr_6_4, cr_6_5, cr_6_6⟩ := rwC_cells Rr_6
  go_wp2_with fail
  refine (F15.out _).mono ?_
  rintro r w7 ⟨rfl, b7⟩
  have B7 : Below w.heap.size w w7 := btr B6 b7
  have Rz_7 := heap_of b7 _ _ _ Rz_6
  have Rr_7 := heap_of b7 _ _ _ Rr_6
  have Ri_7 := heap_of b7 _ _ _ Ri_6
  clear b7 B6 Rz_6 Rr_6 cr_6_0 cr_6_1 cr_6_2 cr_6_3 cr_6_4 cr_6_5 cr_6_6 Ri_6
  obtain ⟨cr_7_0, cr_7_1, cr_7_2, cr_7_3, cr_7_4, cr_7_5, cr_7_6⟩ := rwC_cells Rr_7
  go_wp2_with fail
  refine (F20.out _).mono ?_
  rintro r w8 ⟨rfl, b8⟩
  have B8 : Below w.heap.size w w8 := btr B7 b8
  have Rz_8 := heap_of b8 _ _ _ Rz_7
  have Rr_8 := heap_of b8 _ _ _ Rr_7
  have Ri_8 := heap_of b8 _ _ _ Ri_7
  clear b8 B7 Rz_7 Rr_7 cr_7_0 cr_7_1 cr_7_2 cr_7_3 cr_7_4 cr_7_5 cr_7_6 Ri_7
  obtain ⟨cr_8_0, cr_8_1, cr_8_2, cr_8_3, cr_8_4, cr_8_5, cr_8_6⟩ := rwC_cells Rr_8
  go_wp2_with fail
  refine (F27.out _).mono ?_
  rintro r w9 ⟨rfl, b9⟩
  have B9 : Below w.heap.size w w9 := btr B8 b9
  have Rz_9 := heap_of b9 _ _ _ Rz_8
  have Rr_9 := heap_of b9 _ _ _ Rr_8
  have Ri_9 := heap_of b9 _ _ _ Ri_8
  clear b9 B8 Rz_8 Rr_8 cr_8_0 cr_8_1 cr_8_2 cr_8_3 cr_8_4 cr_8_5 cr_8_6 Ri_8
  obtain ⟨cr_9_0, cr_9_1, cr_9_2, cr_9_3, cr_9_4, cr_9_5, cr_9_6⟩ := rwC_cells Rr_9
  have qi_9 := fz (k := 5) Ri_9
  have ei_9 := cell7 Ri_9 5 _ rfl
  have B10 : Below w.heap.size w (w9.setCell ⟨w1.heap.size + 1 + 1, 5, none⟩ (.int .u8 (rs1 : Nat))) := B9.setCell (by first | exact Nat.le_refl _ | (have := S2.out; have := Lz_2.out; have := Z3.out; have := S3.out; have := Lz_3.out; have := Lt_3.out; have := Z4.out; have := S4.out; have := Lz_4.out; have := Lr_4.out; show w.heap.size ≤ w1.heap.size + 1 + 1; omega)) _
  have Ri_10 : (w9.setCell ⟨w1.heap.size + 1 + 1, 5, none⟩ (.int .u8 (rs1 : Nat))).heap[w1.heap.size + 1 + 1]? = some (Obj.cells (inC ⟨ro.op, ro.form, ro.frm, ro.kind, 0, rs1, 0, 0, 0, 0, 0⟩) 28) := by rw [setCell_row Ri_9]; rfl
  have Rz_10 : (w9.setCell ⟨w1.heap.size + 1 + 1, 5, none⟩ (.int .u8 (rs1 : Nat))).heap[w.heap.size]? = some (Obj.cells #[.int .u8 0, .int .u8 0, .int .u8 0, .int .u8 0, .int .u8 0, .int .u8 0, .int .u8 0, .int .u8 0, .int .u8 0, .int .i16 0, .int .u8 0] 28) := by rw [setCell_other (by first | omega | (have := S2.out; have := Lz_2.out; have := Z3.out; have := S3.out; have := Lz_3.out; have := Lt_3.out; have := Z4.out; have := S4.out; have := Lz_4.out; have := Lr_4.out; omega))]; exact Rz_9
  have Rr_10 : (w9.setCell ⟨w1.heap.size + 1 + 1, 5, none⟩ (.int .u8 (rs1 : Nat))).heap[w1.heap.size + 1]? = some (Obj.cells (rwC ro) 54) := by rw [setCell_other (by first | omega | (have := S2.out; have := Lz_2.out; have := Z3.out; have := S3.out; have := Lz_3.out; have := Lt_3.out; have := Z4.out; have := S4.out; have := Lz_4.out; have := Lr_4.out; omega))]; exact Rr_9
  obtain ⟨w10, hw10⟩ : ∃ V, (w9.setCell ⟨w1.heap.size + 1 + 1, 5, none⟩ (.int .u8 (rs1 : Nat))) = V := ⟨_, rfl⟩
  rw [hw10] at B10 Rz_10 Rr_10 Ri_10
  obtain ⟨cr_10_0, cr_10_1, cr_10_2, cr_10_3, cr_10_4, cr_10_5, cr_10_6⟩ := rwC_cells Rr_10
  have qi_10 := fz (k := 4) Ri_10
  have ei_10 := cell7 Ri_10 4 _ rfl
  have B11 : Below w.heap.size w (w10.setCell ⟨w1.heap.size + 1 + 1, 4, none⟩ (.int .u8 (rd : Nat))) := B10.setCell (by first | exact Nat.le_refl _ | (have := S2.out; have := Lz_2.out; have := Z3.out; have := S3.out; have := Lz_3.out; have := Lt_3.out; have := Z4.out; have := S4.out; have := Lz_4.out; have := Lr_4.out; show w.heap.size ≤ w1.heap.size + 1 + 1; omega)) _
  have Ri_11 : (w10.setCell ⟨w1.heap.size + 1 + 1, 4, none⟩ (.int .u8 (rd : Nat))).heap[w1.heap.size + 1 + 1]? = some (Obj.cells (inC ⟨ro.op, ro.form, ro.frm, ro.kind, rd, rs1, 0, 0, 0, 0, 0⟩) 28) := by rw [setCell_row Ri_10]; rfl
  have Rz_11 : (w10.setCell ⟨w1.heap.size + 1 + 1, 4, none⟩ (.int .u8 (rd : Nat))).heap[w.heap.size]? = some (Obj.cells #[.int .u8 0, .int .u8 0, .int .u8 0, .int .u8 0, .int .u8 0, .int .u8 0, .int .u8 0, .int .u8 0, .int .u8 0, .int .i16 0, .int .u8 0] 28) := by rw [setCell_other (by first | omega | (have := S2.out; have := Lz_2.out; have := Z3.out; have := S3.out; have := Lz_3.out; have := Lt_3.out; have := Z4.out; have := S4.out; have := Lz_4.out; have := Lr_4.out; omega))]; exact Rz_10
  have Rr_11 : (w10.setCell ⟨w1.heap.size + 1 + 1, 4, none⟩ (.int .u8 (rd : Nat))).heap[w1.heap.size + 1]? = some (Obj.cells (rwC ro) 54) := by rw [setCell_other (by first | omega | (have := S2.out; have := Lz_2.out; have := Z3.out; have := S3.out; have := Lz_3.out; have := Lt_3.out; have := Z4.out; have := S4.out; have := Lz_4.out; have := Lr_4.out; omega))]; exact Rr_10
  obtain ⟨w11, hw11⟩ : ∃ V, (w10.setCell ⟨w1.heap.size + 1 + 1, 4, none⟩ (.int .u8 (rd : Nat))) = V := ⟨_, rfl⟩
  rw [hw11] at B11 Rz_11 Rr_11 Ri_11
  obtain ⟨cr_11_0, cr_11_1, cr_11_2, cr_11_3, cr_11_4, cr_11_5, cr_11_6⟩ := rwC_cells Rr_11
  have qi_11 := fz (k := 8) Ri_11
  have ei_11 := cell7 Ri_11 8 _ rfl
  have B12 : Below w.heap.size w (w11.setCell ⟨w1.heap.size + 1 + 1, 8, none⟩ (.int .u8 (rm : Nat))) := B11.setCell (by first | exact Nat.le_refl _ | (have := S2.out; have := Lz_2.out; have := Z3.out; have := S3.out; have := Lz_3.out; have := Lt_3.out; have := Z4.out; have := S4.out; have := Lz_4.out; have := Lr_4.out; show w.heap.size ≤ w1.heap.size + 1 + 1; omega)) _
  have Ri_12 : (w11.setCell ⟨w1.heap.size + 1 + 1, 8, none⟩ (.int .u8 (rm : Nat))).heap[w1.heap.size + 1 + 1]? = some (Obj.cells (inC ⟨ro.op, ro.form, ro.frm, ro.kind, rd, rs1, 0, 0, rm, 0, 0⟩) 28) := by rw [setCell_row Ri_11]; rfl
  have Rz_12 : (w11.setCell ⟨w1.heap.size + 1 + 1, 8, none⟩ (.int .u8 (rm : Nat))).heap[w.heap.size]? = some (Obj.cells #[.int .u8 0, .int .u8 0, .int .u8 0, .int .u8 0, .int .u8 0, .int .u8 0, .int .u8 0, .int .u8 0, .int .u8 0, .int .i16 0, .int .u8 0] 28) := by rw [setCell_other (by first | omega | (have := S2.out; have := Lz_2.out; have := Z3.out; have := S3.out; have := Lz_3.out; have := Lt_3.out; have := Z4.out; have := S4.out; have := Lz_4.out; have := Lr_4.out; omega))]; exact Rz_11
  have Rr_12 : (w11.setCell ⟨w1.heap.size + 1 + 1, 8, none⟩ (.int .u8 (rm : Nat))).heap[w1.heap.size + 1]? = some (Obj.cells (rwC ro) 54) := by rw [setCell_other (by first | omega | (have := S2.out; have := Lz_2.out; have := Z3.out; have := S3.out; have := Lz_3.out; have := Lt_3.out; have := Z4.out; have := S4.out; have := Lz_4.out; have := Lr_4.out; omega))]; exact Rr_11
  obtain ⟨w12, hw12⟩ : ∃ V, (w11.setCell ⟨w1.heap.size + 1 + 1, 8, none⟩ (.int .u8 (rm : Nat))) = V := ⟨_, rfl⟩
  rw [hw12] at B12 Rz_12 Rr_12 Ri_12
  obtain ⟨cr_12_0, cr_12_1, cr_12_2, cr_12_3, cr_12_4, cr_12_5, cr_12_6⟩ := rwC_cells Rr_12
  obtain ⟨ci_12_0, ci_12_1, ci_12_2, ci_12_3, ci_12_4, ci_12_5, ci_12_6, ci_12_7, ci_12_8, ci_12_9, ci_12_10⟩ := inC_cells Ri_12
  have hif2 : #[Value.int .u8 (ro.op : Nat), .int .u8 (ro.form : Nat), .int .u8 (ro.frm : Nat), .int .u8 (ro.kind : Nat), .int .u8 (rd : Nat), .int .u8 (rs1 : Nat), .int .u8 0, .int .u8 0, .int .u8 (rm : Nat), .int .i16 0, .int .u8 0] = (inC ⟨ro.op, ro.form, ro.frm, ro.kind, rd, rs1, 0, 0, rm, 0, 0⟩) := rfl
  have hst := inC_store (x := ⟨ro.op, ro.form, ro.frm, ro.kind, rd, rs1, 0, 0, rm, 0, 0⟩) Rz_12 rfl
  have rz := setRow_row (c' := inC ⟨ro.op, ro.form, ro.frm, ro.kind, rd, rs1, 0, 0, rm, 0, 0⟩) Rz_12
  have bz : Below w.heap.size w (w12.setRow (w.heap.size) (inC ⟨ro.op, ro.form, ro.frm, ro.kind, rd, rs1, 0, 0, rm, 0, 0⟩)) := Below.setRow B12 (show w.heap.size ≤ w.heap.size by first | exact Nat.le_refl _ | omega | (have := S2.out; have := Lz_2.out; have := Z3.out; have := S3.out; have := Lz_3.out; have := Lt_3.out; have := Z4.out; have := S4.out; have := Lz_4.out; have := Lr_4.out; omega))
  obtain ⟨wz, hwz⟩ : ∃ V, w12.setRow (w.heap.size) (inC ⟨ro.op, ro.form, ro.frm, ro.kind, rd, rs1, 0, 0, rm, 0, 0⟩) = V := ⟨_, rfl⟩
  rw [hwz] at hst rz bz
  clear hwz
  go_wp2
  exact bodyPost_ret (v := .tuple #[.agg (inC ⟨ro.op, ro.form, ro.frm, ro.kind, rd, rs1, 0, 0, rm, 0, 0⟩), .int .i64 0]) (res_inC Tryd.results10 rfl rz) rfl ⟨rfl, bz⟩
set_option maxRecDepth 100000 in
set_option maxHeartbeats 8000000 in
theorem b25_dec_7 (x : Nat) (ro : Rw) (s : ByteArray) (rd rm rs1 rs2 rs3 : Nat) (q1 : (((ro.lay : Nat) : Int) == 1) = false) (q2 : (((ro.lay : Nat) : Int) == 2) = false) (q3 : (((ro.lay : Nat) : Int) == 3) = false) (q4 : (((ro.lay : Nat) : Int) == 4) = false) (q5 : (((ro.lay : Nat) : Int) == 5) = false) (q6 : (((ro.lay : Nat) : Int) == 6) = false) (q8 : (((ro.lay : Nat) : Int) == 8) = false) (q9 : (((ro.lay : Nat) : Int) == 9) = false) (ne : (((ro.lay : Nat) : Int) != 2) = true) (m0 : ((rd : Nat) : Int) % 256 = (rd : Nat)) (m1 : ((rm : Nat) : Int) % 256 = (rm : Nat)) (m2 : ((rs1 : Nat) : Int) % 256 = (rs1 : Nat)) (m3 : ((rs2 : Nat) : Int) % 256 = (rs2 : Nat)) (m4 : ((rs3 : Nat) : Int) % 256 = (rs3 : Nat)) (w : World) (KF : Box (∀ w, Calls Tryd.prog 20 #[.int .u32 (x : Nat)] w fun r w' => r = .returned (.tuple #[.agg (ndC ro s), .bool true]) ∧ Below w.heap.size w w')) (F7 : Box (∀ w, Calls Tryd.prog 25 #[.int .u32 (x : Nat), .int .i64 7, .int .i64 5] w fun r w' => r = .returned (.int .i64 (rd : Nat)) ∧ Below w.heap.size w w')) (F12 : Box (∀ w, Calls Tryd.prog 25 #[.int .u32 (x : Nat), .int .i64 12, .int .i64 3] w fun r w' => r = .returned (.int .i64 (rm : Nat)) ∧ Below w.heap.size w w')) (F15 : Box (∀ w, Calls Tryd.prog 25 #[.int .u32 (x : Nat), .int .i64 15, .int .i64 5] w fun r w' => r = .returned (.int .i64 (rs1 : Nat)) ∧ Below w.heap.size w w')) (F20 : Box (∀ w, Calls Tryd.prog 25 #[.int .u32 (x : Nat), .int .i64 20, .int .i64 5] w fun r w' => r = .returned (.int .i64 (rs2 : Nat)) ∧ Below w.heap.size w w')) (F27 : Box (∀ w, Calls Tryd.prog 25 #[.int .u32 (x : Nat), .int .i64 27, .int .i64 5] w fun r w' => r = .returned (.int .i64 (rs3 : Nat)) ∧ Below w.heap.size w w')) : Calls Tryd.prog 10 #[.int .u32 (x : Nat)] w fun r w' => r = .returned (.tuple #[.agg (inC ⟨ro.op, ro.form, ro.frm, ro.kind, rd, rs1, 0, 0, 0, 0, 0⟩), .int .i64 0]) ∧ Below w.heap.size w w' := by
  have hnn := ndC_new
  have hrf := rwC_fold
  have hrn := rwC_new
  have hin := inC_new
  have hif := in_fold0
  have hnr := nd_row
  have hr0 := rw_at0
  have hr1 := rw_at1
  have hr2 := rw_at2
  have hr3 := rw_at3
  have hr4 := rw_at4
  have hr5 := rw_at5
  have hr6 := rw_at6
  obtain ⟨Rz_0, B0⟩ := opn1 w (Obj.cells #[.int .u8 0, .int .u8 0, .int .u8 0, .int .u8 0, .int .u8 0, .int .u8 0, .int .u8 0, .int .u8 0, .int .u8 0, .int .i16 0, .int .u8 0] 28)
  go_enter Tryd.func10, Tryd.ntmps10
  go_wp2_with fail
  refine (KF.out _).mono ?_
  rintro r w1 ⟨rfl, b1⟩
  have B1 : Below w.heap.size w w1 := btr B0 b1
  have Rz_1 := heap_of b1 _ _ _ Rz_0
  clear b1 B0 Rz_0
  have S2 := box B1.size
  have Lz_2 : Box (w.heap.size < w1.heap.size) := box (Array.getElem?_eq_some_iff.1 Rz_1).1
  have Rt_2 := heap_alloc_last w1 (Obj.cells (ndC ro s) 56)
  have B2 := btr B1 (bal w1 (Obj.cells (ndC ro s) 56))
  have Rz_2 := heap_of (bal w1 (Obj.cells (ndC ro s) 56)) _ _ _ Rz_1
  clear B1 Rz_1
  obtain ⟨ct_2_0, ct_2_1, ct_2_2, ct_2_3, ct_2_4, ct_2_5, ct_2_6, ct_2_7⟩ := ndC_cells Rt_2
  have S3 := box B2.size
  have Lz_3 : Box (w.heap.size < (w1.alloc (Obj.cells (ndC ro s) 56)).heap.size) := box (Array.getElem?_eq_some_iff.1 Rz_2).1
  have Lt_3 : Box (w1.heap.size < (w1.alloc (Obj.cells (ndC ro s) 56)).heap.size) := box (Array.getElem?_eq_some_iff.1 Rt_2).1
  have Z3 := box (size_al w1 (Obj.cells (ndC ro s) 56))
  have Rr_3 : ((w1.alloc (Obj.cells (ndC ro s) 56)).alloc (Obj.cells (rwC ro) 54)).heap[w1.heap.size + 1]? = some (Obj.cells (rwC ro) 54) := by have := heap_alloc_last (w1.alloc (Obj.cells (ndC ro s) 56)) (Obj.cells (rwC ro) 54); simpa only [size_al] using this
  have B3 := btr B2 (bal (w1.alloc (Obj.cells (ndC ro s) 56)) (Obj.cells (rwC ro) 54))
  have Rz_3 := heap_of (bal (w1.alloc (Obj.cells (ndC ro s) 56)) (Obj.cells (rwC ro) 54)) _ _ _ Rz_2
  have Rt_3 := heap_of (bal (w1.alloc (Obj.cells (ndC ro s) 56)) (Obj.cells (rwC ro) 54)) _ _ _ Rt_2
  clear B2 Rz_2 Rt_2 ct_2_0 ct_2_1 ct_2_2 ct_2_3 ct_2_4 ct_2_5 ct_2_6 ct_2_7
  obtain ⟨ct_3_0, ct_3_1, ct_3_2, ct_3_3, ct_3_4, ct_3_5, ct_3_6, ct_3_7⟩ := ndC_cells Rt_3
  obtain ⟨cr_3_0, cr_3_1, cr_3_2, cr_3_3, cr_3_4, cr_3_5, cr_3_6⟩ := rwC_cells Rr_3
  clear Rt_3 ct_3_0 ct_3_1 ct_3_2 ct_3_3 ct_3_4 ct_3_5 ct_3_6 ct_3_7
  have S4 := box B3.size
  have Lz_4 : Box (w.heap.size < ((w1.alloc (Obj.cells (ndC ro s) 56)).alloc (Obj.cells (rwC ro) 54)).heap.size) := box (Array.getElem?_eq_some_iff.1 Rz_3).1
  have Lr_4 : Box (w1.heap.size + 1 < ((w1.alloc (Obj.cells (ndC ro s) 56)).alloc (Obj.cells (rwC ro) 54)).heap.size) := box (Array.getElem?_eq_some_iff.1 Rr_3).1
  have Z4 := box (size_al (w1.alloc (Obj.cells (ndC ro s) 56)) (Obj.cells (rwC ro) 54))
  have Ri_4 : (((w1.alloc (Obj.cells (ndC ro s) 56)).alloc (Obj.cells (rwC ro) 54)).alloc (Obj.cells (inC ⟨ro.op, ro.form, ro.frm, ro.kind, 0, 0, 0, 0, 0, 0, 0⟩) 28)).heap[w1.heap.size + 1 + 1]? = some (Obj.cells (inC ⟨ro.op, ro.form, ro.frm, ro.kind, 0, 0, 0, 0, 0, 0, 0⟩) 28) := by have := heap_alloc_last ((w1.alloc (Obj.cells (ndC ro s) 56)).alloc (Obj.cells (rwC ro) 54)) (Obj.cells (inC ⟨ro.op, ro.form, ro.frm, ro.kind, 0, 0, 0, 0, 0, 0, 0⟩) 28); simpa only [size_al] using this
  have B4 := btr B3 (bal ((w1.alloc (Obj.cells (ndC ro s) 56)).alloc (Obj.cells (rwC ro) 54)) (Obj.cells (inC ⟨ro.op, ro.form, ro.frm, ro.kind, 0, 0, 0, 0, 0, 0, 0⟩) 28))
  have Rz_4 := heap_of (bal ((w1.alloc (Obj.cells (ndC ro s) 56)).alloc (Obj.cells (rwC ro) 54)) (Obj.cells (inC ⟨ro.op, ro.form, ro.frm, ro.kind, 0, 0, 0, 0, 0, 0, 0⟩) 28)) _ _ _ Rz_3
  have Rr_4 := heap_of (bal ((w1.alloc (Obj.cells (ndC ro s) 56)).alloc (Obj.cells (rwC ro) 54)) (Obj.cells (inC ⟨ro.op, ro.form, ro.frm, ro.kind, 0, 0, 0, 0, 0, 0, 0⟩) 28)) _ _ _ Rr_3
  clear B3 Rz_3 Rr_3 cr_3_0 cr_3_1 cr_3_2 cr_3_3 cr_3_4 cr_3_5 cr_3_6
  obtain ⟨cr_4_0, cr_4_1, cr_4_2, cr_4_3, cr_4_4, cr_4_5, cr_4_6⟩ := rwC_cells Rr_4
  obtain ⟨ci_4_0, ci_4_1, ci_4_2, ci_4_3, ci_4_4, ci_4_5, ci_4_6, ci_4_7, ci_4_8, ci_4_9, ci_4_10⟩ := inC_cells Ri_4
  clear ci_4_0 ci_4_1 ci_4_2 ci_4_3 ci_4_4 ci_4_5 ci_4_6 ci_4_7 ci_4_8 ci_4_9 ci_4_10
  go_wp2_with fail
  refine (F7.out _).mono ?_
  rintro r w5 ⟨rfl, b5⟩
  have B5 : Below w.heap.size w w5 := btr B4 b5
  have Rz_5 := heap_of b5 _ _ _ Rz_4
  have Rr_5 := heap_of b5 _ _ _ Rr_4
  have Ri_5 := heap_of b5 _ _ _ Ri_4
  clear b5 B4 Rz_4 Rr_4 cr_4_0 cr_4_1 cr_4_2 cr_4_3 cr_4_4 cr_4_5 cr_4_6 Ri_4
  obtain ⟨cr_5_0, cr_5_1, cr_5_2, cr_5_3, cr_5_4, cr_5_5, cr_5_6⟩ := rwC_cells Rr_5
  go_wp2_with fail
  refine (F12.out _).mono ?_
  rintro r w6 ⟨rfl, b6⟩
  have B6 : Below w.heap.size w w6 := btr B5 b6
  have Rz_6 := heap_of b6 _ _ _ Rz_5
  have Rr_6 := heap_of b6 _ _ _ Rr_5
  have Ri_6 := heap_of b6 _ _ _ Ri_5
  clear b6 B5 Rz_5 Rr_5 cr_5_0 cr_5_1 cr_5_2 cr_5_3 cr_5_4 cr_5_5 cr_5_6 Ri_5
  obtain ⟨cr_6_0, cr_6_1, cr_6_2, cr_6_3, cr_6_4, cr_6_5, cr_6_6⟩ := rwC_cells Rr_6
  go_wp2_with fail
  refine (F15.out _).mono ?_
  rintro r w7 ⟨rfl, b7⟩
  have B7 : Below w.heap.size w w7 := btr B6 b7
  have Rz_7 := heap_of b7 _ _ _ Rz_6
  have Rr_7 := heap_of b7 _ _ _ Rr_6
  have Ri_7 := heap_of b7 _ _ _ Ri_6
  clear b7 B6 Rz_6 Rr_6 cr_6_0 cr_6_1 cr_6_2 cr_6_3 cr_6_4 cr_6_5 cr_6_6 Ri_6
  obtain ⟨cr_7_0, cr_7_1, cr_7_2, cr_7_3, cr_7_4, cr_7_5, cr_7_6⟩ := rwC_cells Rr_7
  go_wp2_with fail
  refine (F20.out _).mono ?_
  rintro r w8 ⟨rfl, b8⟩
  have B8 : Below w.heap.size w w8 := btr B7 b8
  have Rz_8 := heap_of b8 _ _ _ Rz_7
  have Rr_8 := heap_of b8 _ _ _ Rr_7
  have Ri_8 := heap_of b8 _ _ _ Ri_7
  clear b8 B7 Rz_7 Rr_7 cr_7_0 cr_7_1 cr_7_2 cr_7_3 cr_7_4 cr_7_5 cr_7_6 Ri_7
  obtain ⟨cr_8_0, cr_8_1, cr_8_2, cr_8_3, cr_8_4, cr_8_5, cr_8_6⟩ := rwC_cells Rr_8
  go_wp2_with fail
  refine (F27.out _).mono ?_
  rintro r w9 ⟨rfl, b9⟩
  have B9 : Below w.heap.size w w9 := btr B8 b9
  have Rz_9 := heap_of b9 _ _ _ Rz_8
  have Rr_9 := heap_of b9 _ _ _ Rr_8
  have Ri_9 := heap_of b9 _ _ _ Ri_8
  clear b9 B8 Rz_8 Rr_8 cr_8_0 cr_8_1 cr_8_2 cr_8_3 cr_8_4 cr_8_5 cr_8_6 Ri_8
  obtain ⟨cr_9_0, cr_9_1, cr_9_2, cr_9_3, cr_9_4, cr_9_5, cr_9_6⟩ := rwC_cells Rr_9
  have qi_9 := fz (k := 5) Ri_9
  have ei_9 := cell7 Ri_9 5 _ rfl
  have B10 : Below w.heap.size w (w9.setCell ⟨w1.heap.size + 1 + 1, 5, none⟩ (.int .u8 (rs1 : Nat))) := B9.setCell (by first | exact Nat.le_refl _ | (have := S2.out; have := Lz_2.out; have := Z3.out; have := S3.out; have := Lz_3.out; have := Lt_3.out; have := Z4.out; have := S4.out; have := Lz_4.out; have := Lr_4.out; show w.heap.size ≤ w1.heap.size + 1 + 1; omega)) _
  have Ri_10 : (w9.setCell ⟨w1.heap.size + 1 + 1, 5, none⟩ (.int .u8 (rs1 : Nat))).heap[w1.heap.size + 1 + 1]? = some (Obj.cells (inC ⟨ro.op, ro.form, ro.frm, ro.kind, 0, rs1, 0, 0, 0, 0, 0⟩) 28) := by rw [setCell_row Ri_9]; rfl
  have Rz_10 : (w9.setCell ⟨w1.heap.size + 1 + 1, 5, none⟩ (.int .u8 (rs1 : Nat))).heap[w.heap.size]? = some (Obj.cells #[.int .u8 0, .int .u8 0, .int .u8 0, .int .u8 0, .int .u8 0, .int .u8 0, .int .u8 0, .int .u8 0, .int .u8 0, .int .i16 0, .int .u8 0] 28) := by rw [setCell_other (by first | omega | (have := S2.out; have := Lz_2.out; have := Z3.out; have := S3.out; have := Lz_3.out; have := Lt_3.out; have := Z4.out; have := S4.out; have := Lz_4.out; have := Lr_4.out; omega))]; exact Rz_9
  have Rr_10 : (w9.setCell ⟨w1.heap.size + 1 + 1, 5, none⟩ (.int .u8 (rs1 : Nat))).heap[w1.heap.size + 1]? = some (Obj.cells (rwC ro) 54) := by rw [setCell_other (by first | omega | (have := S2.out; have := Lz_2.out; have := Z3.out; have := S3.out; have := Lz_3.out; have := Lt_3.out; have := Z4.out; have := S4.out; have := Lz_4.out; have := Lr_4.out; omega))]; exact Rr_9
  obtain ⟨w10, hw10⟩ : ∃ V, (w9.setCell ⟨w1.heap.size + 1 + 1, 5, none⟩ (.int .u8 (rs1 : Nat))) = V := ⟨_, rfl⟩
  rw [hw10] at B10 Rz_10 Rr_10 Ri_10
  obtain ⟨cr_10_0, cr_10_1, cr_10_2, cr_10_3, cr_10_4, cr_10_5, cr_10_6⟩ := rwC_cells Rr_10
  have qi_10 := fz (k := 4) Ri_10
  have ei_10 := cell7 Ri_10 4 _ rfl
  have B11 : Below w.heap.size w (w10.setCell ⟨w1.heap.size + 1 + 1, 4, none⟩ (.int .u8 (rd : Nat))) := B10.setCell (by first | exact Nat.le_refl _ | (have := S2.out; have := Lz_2.out; have := Z3.out; have := S3.out; have := Lz_3.out; have := Lt_3.out; have := Z4.out; have := S4.out; have := Lz_4.out; have := Lr_4.out; show w.heap.size ≤ w1.heap.size + 1 + 1; omega)) _
  have Ri_11 : (w10.setCell ⟨w1.heap.size + 1 + 1, 4, none⟩ (.int .u8 (rd : Nat))).heap[w1.heap.size + 1 + 1]? = some (Obj.cells (inC ⟨ro.op, ro.form, ro.frm, ro.kind, rd, rs1, 0, 0, 0, 0, 0⟩) 28) := by rw [setCell_row Ri_10]; rfl
  have Rz_11 : (w10.setCell ⟨w1.heap.size + 1 + 1, 4, none⟩ (.int .u8 (rd : Nat))).heap[w.heap.size]? = some (Obj.cells #[.int .u8 0, .int .u8 0, .int .u8 0, .int .u8 0, .int .u8 0, .int .u8 0, .int .u8 0, .int .u8 0, .int .u8 0, .int .i16 0, .int .u8 0] 28) := by rw [setCell_other (by first | omega | (have := S2.out; have := Lz_2.out; have := Z3.out; have := S3.out; have := Lz_3.out; have := Lt_3.out; have := Z4.out; have := S4.out; have := Lz_4.out; have := Lr_4.out; omega))]; exact Rz_10
  have Rr_11 : (w10.setCell ⟨w1.heap.size + 1 + 1, 4, none⟩ (.int .u8 (rd : Nat))).heap[w1.heap.size + 1]? = some (Obj.cells (rwC ro) 54) := by rw [setCell_other (by first | omega | (have := S2.out; have := Lz_2.out; have := Z3.out; have := S3.out; have := Lz_3.out; have := Lt_3.out; have := Z4.out; have := S4.out; have := Lz_4.out; have := Lr_4.out; omega))]; exact Rr_10
  obtain ⟨w11, hw11⟩ : ∃ V, (w10.setCell ⟨w1.heap.size + 1 + 1, 4, none⟩ (.int .u8 (rd : Nat))) = V := ⟨_, rfl⟩
  rw [hw11] at B11 Rz_11 Rr_11 Ri_11
  obtain ⟨cr_11_0, cr_11_1, cr_11_2, cr_11_3, cr_11_4, cr_11_5, cr_11_6⟩ := rwC_cells Rr_11
  obtain ⟨ci_11_0, ci_11_1, ci_11_2, ci_11_3, ci_11_4, ci_11_5, ci_11_6, ci_11_7, ci_11_8, ci_11_9, ci_11_10⟩ := inC_cells Ri_11
  have hif2 : #[Value.int .u8 (ro.op : Nat), .int .u8 (ro.form : Nat), .int .u8 (ro.frm : Nat), .int .u8 (ro.kind : Nat), .int .u8 (rd : Nat), .int .u8 (rs1 : Nat), .int .u8 0, .int .u8 0, .int .u8 0, .int .i16 0, .int .u8 0] = (inC ⟨ro.op, ro.form, ro.frm, ro.kind, rd, rs1, 0, 0, 0, 0, 0⟩) := rfl
  have hst := inC_store (x := ⟨ro.op, ro.form, ro.frm, ro.kind, rd, rs1, 0, 0, 0, 0, 0⟩) Rz_11 rfl
  have rz := setRow_row (c' := inC ⟨ro.op, ro.form, ro.frm, ro.kind, rd, rs1, 0, 0, 0, 0, 0⟩) Rz_11
  have bz : Below w.heap.size w (w11.setRow (w.heap.size) (inC ⟨ro.op, ro.form, ro.frm, ro.kind, rd, rs1, 0, 0, 0, 0, 0⟩)) := Below.setRow B11 (show w.heap.size ≤ w.heap.size by first | exact Nat.le_refl _ | omega | (have := S2.out; have := Lz_2.out; have := Z3.out; have := S3.out; have := Lz_3.out; have := Lt_3.out; have := Z4.out; have := S4.out; have := Lz_4.out; have := Lr_4.out; omega))
  obtain ⟨wz, hwz⟩ : ∃ V, w11.setRow (w.heap.size) (inC ⟨ro.op, ro.form, ro.frm, ro.kind, rd, rs1, 0, 0, 0, 0, 0⟩) = V := ⟨_, rfl⟩
  rw [hwz] at hst rz bz
  clear hwz
  go_wp2
  exact bodyPost_ret (v := .tuple #[.agg (inC ⟨ro.op, ro.form, ro.frm, ro.kind, rd, rs1, 0, 0, 0, 0, 0⟩), .int .i64 0]) (res_inC Tryd.results10 rfl rz) rfl ⟨rfl, bz⟩
set_option maxRecDepth 100000 in
set_option maxHeartbeats 8000000 in
theorem b25_dec_8 (x : Nat) (ro : Rw) (s : ByteArray) (rd rm rs1 rs2 rs3 : Nat) (im cs : Nat) (q1 : (((ro.lay : Nat) : Int) == 1) = false) (q2 : (((ro.lay : Nat) : Int) == 2) = false) (q3 : (((ro.lay : Nat) : Int) == 3) = false) (q4 : (((ro.lay : Nat) : Int) == 4) = false) (q5 : (((ro.lay : Nat) : Int) == 5) = false) (q6 : (((ro.lay : Nat) : Int) == 6) = false) (q8 : (((ro.lay : Nat) : Int) == 8) = true) (ne : (((ro.lay : Nat) : Int) != 2) = true) (m0 : ((rd : Nat) : Int) % 256 = (rd : Nat)) (m1 : ((rm : Nat) : Int) % 256 = (rm : Nat)) (m2 : ((rs1 : Nat) : Int) % 256 = (rs1 : Nat)) (m3 : ((rs2 : Nat) : Int) % 256 = (rs2 : Nat)) (m4 : ((rs3 : Nat) : Int) % 256 = (rs3 : Nat)) (w : World) (KF : Box (∀ w, Calls Tryd.prog 20 #[.int .u32 (x : Nat)] w fun r w' => r = .returned (.tuple #[.agg (ndC ro s), .bool true]) ∧ Below w.heap.size w w')) (F7 : Box (∀ w, Calls Tryd.prog 25 #[.int .u32 (x : Nat), .int .i64 7, .int .i64 5] w fun r w' => r = .returned (.int .i64 (rd : Nat)) ∧ Below w.heap.size w w')) (F12 : Box (∀ w, Calls Tryd.prog 25 #[.int .u32 (x : Nat), .int .i64 12, .int .i64 3] w fun r w' => r = .returned (.int .i64 (rm : Nat)) ∧ Below w.heap.size w w')) (F15 : Box (∀ w, Calls Tryd.prog 25 #[.int .u32 (x : Nat), .int .i64 15, .int .i64 5] w fun r w' => r = .returned (.int .i64 (rs1 : Nat)) ∧ Below w.heap.size w w')) (F20 : Box (∀ w, Calls Tryd.prog 25 #[.int .u32 (x : Nat), .int .i64 20, .int .i64 5] w fun r w' => r = .returned (.int .i64 (rs2 : Nat)) ∧ Below w.heap.size w w')) (F27 : Box (∀ w, Calls Tryd.prog 25 #[.int .u32 (x : Nat), .int .i64 27, .int .i64 5] w fun r w' => r = .returned (.int .i64 (rs3 : Nat)) ∧ Below w.heap.size w w')) (FI : Box (∀ w, Calls Tryd.prog 25 #[.int .u32 (x : Nat), .int .i64 20, .int .i64 12] w fun r w' => r = .returned (.int .i64 (im : Nat)) ∧ Below w.heap.size w w')) (mc : ((im : Nat) : Int) % 256 = (cs : Nat)) : Calls Tryd.prog 10 #[.int .u32 (x : Nat)] w fun r w' => r = .returned (.tuple #[.agg (inC ⟨ro.op, ro.form, ro.frm, ro.kind, rd, rs1, 0, 0, 0, 0, cs⟩), .int .i64 0]) ∧ Below w.heap.size w w' := by
  have hnn := ndC_new
  have hrf := rwC_fold
  have hrn := rwC_new
  have hin := inC_new
  have hif := in_fold0
  have hnr := nd_row
  have hr0 := rw_at0
  have hr1 := rw_at1
  have hr2 := rw_at2
  have hr3 := rw_at3
  have hr4 := rw_at4
  have hr5 := rw_at5
  have hr6 := rw_at6
  obtain ⟨Rz_0, B0⟩ := opn1 w (Obj.cells #[.int .u8 0, .int .u8 0, .int .u8 0, .int .u8 0, .int .u8 0, .int .u8 0, .int .u8 0, .int .u8 0, .int .u8 0, .int .i16 0, .int .u8 0] 28)
  go_enter Tryd.func10, Tryd.ntmps10
  go_wp2_with fail
  refine (KF.out _).mono ?_
  rintro r w1 ⟨rfl, b1⟩
  have B1 : Below w.heap.size w w1 := btr B0 b1
  have Rz_1 := heap_of b1 _ _ _ Rz_0
  clear b1 B0 Rz_0
  have S2 := box B1.size
  have Lz_2 : Box (w.heap.size < w1.heap.size) := box (Array.getElem?_eq_some_iff.1 Rz_1).1
  have Rt_2 := heap_alloc_last w1 (Obj.cells (ndC ro s) 56)
  have B2 := btr B1 (bal w1 (Obj.cells (ndC ro s) 56))
  have Rz_2 := heap_of (bal w1 (Obj.cells (ndC ro s) 56)) _ _ _ Rz_1
  clear B1 Rz_1
  obtain ⟨ct_2_0, ct_2_1, ct_2_2, ct_2_3, ct_2_4, ct_2_5, ct_2_6, ct_2_7⟩ := ndC_cells Rt_2
  have S3 := box B2.size
  have Lz_3 : Box (w.heap.size < (w1.alloc (Obj.cells (ndC ro s) 56)).heap.size) := box (Array.getElem?_eq_some_iff.1 Rz_2).1
  have Lt_3 : Box (w1.heap.size < (w1.alloc (Obj.cells (ndC ro s) 56)).heap.size) := box (Array.getElem?_eq_some_iff.1 Rt_2).1
  have Z3 := box (size_al w1 (Obj.cells (ndC ro s) 56))
  have Rr_3 : ((w1.alloc (Obj.cells (ndC ro s) 56)).alloc (Obj.cells (rwC ro) 54)).heap[w1.heap.size + 1]? = some (Obj.cells (rwC ro) 54) := by have := heap_alloc_last (w1.alloc (Obj.cells (ndC ro s) 56)) (Obj.cells (rwC ro) 54); simpa only [size_al] using this
  have B3 := btr B2 (bal (w1.alloc (Obj.cells (ndC ro s) 56)) (Obj.cells (rwC ro) 54))
  have Rz_3 := heap_of (bal (w1.alloc (Obj.cells (ndC ro s) 56)) (Obj.cells (rwC ro) 54)) _ _ _ Rz_2
  have Rt_3 := heap_of (bal (w1.alloc (Obj.cells (ndC ro s) 56)) (Obj.cells (rwC ro) 54)) _ _ _ Rt_2
  clear B2 Rz_2 Rt_2 ct_2_0 ct_2_1 ct_2_2 ct_2_3 ct_2_4 ct_2_5 ct_2_6 ct_2_7
  obtain ⟨ct_3_0, ct_3_1, ct_3_2, ct_3_3, ct_3_4, ct_3_5, ct_3_6, ct_3_7⟩ := ndC_cells Rt_3
  obtain ⟨cr_3_0, cr_3_1, cr_3_2, cr_3_3, cr_3_4, cr_3_5, cr_3_6⟩ := rwC_cells Rr_3
  clear Rt_3 ct_3_0 ct_3_1 ct_3_2 ct_3_3 ct_3_4 ct_3_5 ct_3_6 ct_3_7
  have S4 := box B3.size
  have Lz_4 : Box (w.heap.size < ((w1.alloc (Obj.cells (ndC ro s) 56)).alloc (Obj.cells (rwC ro) 54)).heap.size) := box (Array.getElem?_eq_some_iff.1 Rz_3).1
  have Lr_4 : Box (w1.heap.size + 1 < ((w1.alloc (Obj.cells (ndC ro s) 56)).alloc (Obj.cells (rwC ro) 54)).heap.size) := box (Array.getElem?_eq_some_iff.1 Rr_3).1
  have Z4 := box (size_al (w1.alloc (Obj.cells (ndC ro s) 56)) (Obj.cells (rwC ro) 54))
  have Ri_4 : (((w1.alloc (Obj.cells (ndC ro s) 56)).alloc (Obj.cells (rwC ro) 54)).alloc (Obj.cells (inC ⟨ro.op, ro.form, ro.frm, ro.kind, 0, 0, 0, 0, 0, 0, 0⟩) 28)).heap[w1.heap.size + 1 + 1]? = some (Obj.cells (inC ⟨ro.op, ro.form, ro.frm, ro.kind, 0, 0, 0, 0, 0, 0, 0⟩) 28) := by have := heap_alloc_last ((w1.alloc (Obj.cells (ndC ro s) 56)).alloc (Obj.cells (rwC ro) 54)) (Obj.cells (inC ⟨ro.op, ro.form, ro.frm, ro.kind, 0, 0, 0, 0, 0, 0, 0⟩) 28); simpa only [size_al] using this
  have B4 := btr B3 (bal ((w1.alloc (Obj.cells (ndC ro s) 56)).alloc (Obj.cells (rwC ro) 54)) (Obj.cells (inC ⟨ro.op, ro.form, ro.frm, ro.kind, 0, 0, 0, 0, 0, 0, 0⟩) 28))
  have Rz_4 := heap_of (bal ((w1.alloc (Obj.cells (ndC ro s) 56)).alloc (Obj.cells (rwC ro) 54)) (Obj.cells (inC ⟨ro.op, ro.form, ro.frm, ro.kind, 0, 0, 0, 0, 0, 0, 0⟩) 28)) _ _ _ Rz_3
  have Rr_4 := heap_of (bal ((w1.alloc (Obj.cells (ndC ro s) 56)).alloc (Obj.cells (rwC ro) 54)) (Obj.cells (inC ⟨ro.op, ro.form, ro.frm, ro.kind, 0, 0, 0, 0, 0, 0, 0⟩) 28)) _ _ _ Rr_3
  clear B3 Rz_3 Rr_3 cr_3_0 cr_3_1 cr_3_2 cr_3_3 cr_3_4 cr_3_5 cr_3_6
  obtain ⟨cr_4_0, cr_4_1, cr_4_2, cr_4_3, cr_4_4, cr_4_5, cr_4_6⟩ := rwC_cells Rr_4
  obtain ⟨ci_4_0, ci_4_1, ci_4_2, ci_4_3, ci_4_4, ci_4_5, ci_4_6, ci_4_7, ci_4_8, ci_4_9, ci_4_10⟩ := inC_cells Ri_4
  clear ci_4_0 ci_4_1 ci_4_2 ci_4_3 ci_4_4 ci_4_5 ci_4_6 ci_4_7 ci_4_8 ci_4_9 ci_4_10
  go_wp2_with fail
  refine (F7.out _).mono ?_
  rintro r w5 ⟨rfl, b5⟩
  have B5 : Below w.heap.size w w5 := btr B4 b5
  have Rz_5 := heap_of b5 _ _ _ Rz_4
  have Rr_5 := heap_of b5 _ _ _ Rr_4
  have Ri_5 := heap_of b5 _ _ _ Ri_4
  clear b5 B4 Rz_4 Rr_4 cr_4_0 cr_4_1 cr_4_2 cr_4_3 cr_4_4 cr_4_5 cr_4_6 Ri_4
  obtain ⟨cr_5_0, cr_5_1, cr_5_2, cr_5_3, cr_5_4, cr_5_5, cr_5_6⟩ := rwC_cells Rr_5
  go_wp2_with fail
  refine (F12.out _).mono ?_
  rintro r w6 ⟨rfl, b6⟩
  have B6 : Below w.heap.size w w6 := btr B5 b6
  have Rz_6 := heap_of b6 _ _ _ Rz_5
  have Rr_6 := heap_of b6 _ _ _ Rr_5
  have Ri_6 := heap_of b6 _ _ _ Ri_5
  clear b6 B5 Rz_5 Rr_5 cr_5_0 cr_5_1 cr_5_2 cr_5_3 cr_5_4 cr_5_5 cr_5_6 Ri_5
  obtain ⟨cr_6_0, cr_6_1, cr_6_2, cr_6_3, cr_6_4, cr_6_5, cr_6_6⟩ := rwC_cells Rr_6
  go_wp2_with fail
  refine (F15.out _).mono ?_
  rintro r w7 ⟨rfl, b7⟩
  have B7 : Below w.heap.size w w7 := btr B6 b7
  have Rz_7 := heap_of b7 _ _ _ Rz_6
  have Rr_7 := heap_of b7 _ _ _ Rr_6
  have Ri_7 := heap_of b7 _ _ _ Ri_6
  clear b7 B6 Rz_6 Rr_6 cr_6_0 cr_6_1 cr_6_2 cr_6_3 cr_6_4 cr_6_5 cr_6_6 Ri_6
  obtain ⟨cr_7_0, cr_7_1, cr_7_2, cr_7_3, cr_7_4, cr_7_5, cr_7_6⟩ := rwC_cells Rr_7
  go_wp2_with fail
  refine (F20.out _).mono ?_
  rintro r w8 ⟨rfl, b8⟩
  have B8 : Below w.heap.size w w8 := btr B7 b8
  have Rz_8 := heap_of b8 _ _ _ Rz_7
  have Rr_8 := heap_of b8 _ _ _ Rr_7
  have Ri_8 := heap_of b8 _ _ _ Ri_7
  clear b8 B7 Rz_7 Rr_7 cr_7_0 cr_7_1 cr_7_2 cr_7_3 cr_7_4 cr_7_5 cr_7_6 Ri_7
  obtain ⟨cr_8_0, cr_8_1, cr_8_2, cr_8_3, cr_8_4, cr_8_5, cr_8_6⟩ := rwC_cells Rr_8
  go_wp2_with fail
  refine (F27.out _).mono ?_
  rintro r w9 ⟨rfl, b9⟩
  have B9 : Below w.heap.size w w9 := btr B8 b9
  have Rz_9 := heap_of b9 _ _ _ Rz_8
  have Rr_9 := heap_of b9 _ _ _ Rr_8
  have Ri_9 := heap_of b9 _ _ _ Ri_8
  clear b9 B8 Rz_8 Rr_8 cr_8_0 cr_8_1 cr_8_2 cr_8_3 cr_8_4 cr_8_5 cr_8_6 Ri_8
  obtain ⟨cr_9_0, cr_9_1, cr_9_2, cr_9_3, cr_9_4, cr_9_5, cr_9_6⟩ := rwC_cells Rr_9
  have qi_9 := fz (k := 5) Ri_9
  have ei_9 := cell7 Ri_9 5 _ rfl
  have B10 : Below w.heap.size w (w9.setCell ⟨w1.heap.size + 1 + 1, 5, none⟩ (.int .u8 (rs1 : Nat))) := B9.setCell (by first | exact Nat.le_refl _ | (have := S2.out; have := Lz_2.out; have := Z3.out; have := S3.out; have := Lz_3.out; have := Lt_3.out; have := Z4.out; have := S4.out; have := Lz_4.out; have := Lr_4.out; show w.heap.size ≤ w1.heap.size + 1 + 1; omega)) _
  have Ri_10 : (w9.setCell ⟨w1.heap.size + 1 + 1, 5, none⟩ (.int .u8 (rs1 : Nat))).heap[w1.heap.size + 1 + 1]? = some (Obj.cells (inC ⟨ro.op, ro.form, ro.frm, ro.kind, 0, rs1, 0, 0, 0, 0, 0⟩) 28) := by rw [setCell_row Ri_9]; rfl
  have Rz_10 : (w9.setCell ⟨w1.heap.size + 1 + 1, 5, none⟩ (.int .u8 (rs1 : Nat))).heap[w.heap.size]? = some (Obj.cells #[.int .u8 0, .int .u8 0, .int .u8 0, .int .u8 0, .int .u8 0, .int .u8 0, .int .u8 0, .int .u8 0, .int .u8 0, .int .i16 0, .int .u8 0] 28) := by rw [setCell_other (by first | omega | (have := S2.out; have := Lz_2.out; have := Z3.out; have := S3.out; have := Lz_3.out; have := Lt_3.out; have := Z4.out; have := S4.out; have := Lz_4.out; have := Lr_4.out; omega))]; exact Rz_9
  have Rr_10 : (w9.setCell ⟨w1.heap.size + 1 + 1, 5, none⟩ (.int .u8 (rs1 : Nat))).heap[w1.heap.size + 1]? = some (Obj.cells (rwC ro) 54) := by rw [setCell_other (by first | omega | (have := S2.out; have := Lz_2.out; have := Z3.out; have := S3.out; have := Lz_3.out; have := Lt_3.out; have := Z4.out; have := S4.out; have := Lz_4.out; have := Lr_4.out; omega))]; exact Rr_9
  obtain ⟨w10, hw10⟩ : ∃ V, (w9.setCell ⟨w1.heap.size + 1 + 1, 5, none⟩ (.int .u8 (rs1 : Nat))) = V := ⟨_, rfl⟩
  rw [hw10] at B10 Rz_10 Rr_10 Ri_10
  obtain ⟨cr_10_0, cr_10_1, cr_10_2, cr_10_3, cr_10_4, cr_10_5, cr_10_6⟩ := rwC_cells Rr_10
  have qi_10 := fz (k := 4) Ri_10
  have ei_10 := cell7 Ri_10 4 _ rfl
  have B11 : Below w.heap.size w (w10.setCell ⟨w1.heap.size + 1 + 1, 4, none⟩ (.int .u8 (rd : Nat))) := B10.setCell (by first | exact Nat.le_refl _ | (have := S2.out; have := Lz_2.out; have := Z3.out; have := S3.out; have := Lz_3.out; have := Lt_3.out; have := Z4.out; have := S4.out; have := Lz_4.out; have := Lr_4.out; show w.heap.size ≤ w1.heap.size + 1 + 1; omega)) _
  have Ri_11 : (w10.setCell ⟨w1.heap.size + 1 + 1, 4, none⟩ (.int .u8 (rd : Nat))).heap[w1.heap.size + 1 + 1]? = some (Obj.cells (inC ⟨ro.op, ro.form, ro.frm, ro.kind, rd, rs1, 0, 0, 0, 0, 0⟩) 28) := by rw [setCell_row Ri_10]; rfl
  have Rz_11 : (w10.setCell ⟨w1.heap.size + 1 + 1, 4, none⟩ (.int .u8 (rd : Nat))).heap[w.heap.size]? = some (Obj.cells #[.int .u8 0, .int .u8 0, .int .u8 0, .int .u8 0, .int .u8 0, .int .u8 0, .int .u8 0, .int .u8 0, .int .u8 0, .int .i16 0, .int .u8 0] 28) := by rw [setCell_other (by first | omega | (have := S2.out; have := Lz_2.out; have := Z3.out; have := S3.out; have := Lz_3.out; have := Lt_3.out; have := Z4.out; have := S4.out; have := Lz_4.out; have := Lr_4.out; omega))]; exact Rz_10
  have Rr_11 : (w10.setCell ⟨w1.heap.size + 1 + 1, 4, none⟩ (.int .u8 (rd : Nat))).heap[w1.heap.size + 1]? = some (Obj.cells (rwC ro) 54) := by rw [setCell_other (by first | omega | (have := S2.out; have := Lz_2.out; have := Z3.out; have := S3.out; have := Lz_3.out; have := Lt_3.out; have := Z4.out; have := S4.out; have := Lz_4.out; have := Lr_4.out; omega))]; exact Rr_10
  obtain ⟨w11, hw11⟩ : ∃ V, (w10.setCell ⟨w1.heap.size + 1 + 1, 4, none⟩ (.int .u8 (rd : Nat))) = V := ⟨_, rfl⟩
  rw [hw11] at B11 Rz_11 Rr_11 Ri_11
  obtain ⟨cr_11_0, cr_11_1, cr_11_2, cr_11_3, cr_11_4, cr_11_5, cr_11_6⟩ := rwC_cells Rr_11
  go_wp2_with fail
  refine (FI.out _).mono ?_
  rintro r w12 ⟨rfl, b12⟩
  have B12 : Below w.heap.size w w12 := btr B11 b12
  have Rz_12 := heap_of b12 _ _ _ Rz_11
  have Rr_12 := heap_of b12 _ _ _ Rr_11
  have Ri_12 := heap_of b12 _ _ _ Ri_11
  clear b12 B11 Rz_11 Rr_11 cr_11_0 cr_11_1 cr_11_2 cr_11_3 cr_11_4 cr_11_5 cr_11_6 Ri_11
  obtain ⟨cr_12_0, cr_12_1, cr_12_2, cr_12_3, cr_12_4, cr_12_5, cr_12_6⟩ := rwC_cells Rr_12
  have qi_12 := fz (k := 10) Ri_12
  have ei_12 := cell7 Ri_12 10 _ rfl
  have B13 : Below w.heap.size w (w12.setCell ⟨w1.heap.size + 1 + 1, 10, none⟩ (.int .u8 (cs : Nat))) := B12.setCell (by first | exact Nat.le_refl _ | (have := S2.out; have := Lz_2.out; have := Z3.out; have := S3.out; have := Lz_3.out; have := Lt_3.out; have := Z4.out; have := S4.out; have := Lz_4.out; have := Lr_4.out; show w.heap.size ≤ w1.heap.size + 1 + 1; omega)) _
  have Ri_13 : (w12.setCell ⟨w1.heap.size + 1 + 1, 10, none⟩ (.int .u8 (cs : Nat))).heap[w1.heap.size + 1 + 1]? = some (Obj.cells (inC ⟨ro.op, ro.form, ro.frm, ro.kind, rd, rs1, 0, 0, 0, 0, cs⟩) 28) := by rw [setCell_row Ri_12]; rfl
  have Rz_13 : (w12.setCell ⟨w1.heap.size + 1 + 1, 10, none⟩ (.int .u8 (cs : Nat))).heap[w.heap.size]? = some (Obj.cells #[.int .u8 0, .int .u8 0, .int .u8 0, .int .u8 0, .int .u8 0, .int .u8 0, .int .u8 0, .int .u8 0, .int .u8 0, .int .i16 0, .int .u8 0] 28) := by rw [setCell_other (by first | omega | (have := S2.out; have := Lz_2.out; have := Z3.out; have := S3.out; have := Lz_3.out; have := Lt_3.out; have := Z4.out; have := S4.out; have := Lz_4.out; have := Lr_4.out; omega))]; exact Rz_12
  have Rr_13 : (w12.setCell ⟨w1.heap.size + 1 + 1, 10, none⟩ (.int .u8 (cs : Nat))).heap[w1.heap.size + 1]? = some (Obj.cells (rwC ro) 54) := by rw [setCell_other (by first | omega | (have := S2.out; have := Lz_2.out; have := Z3.out; have := S3.out; have := Lz_3.out; have := Lt_3.out; have := Z4.out; have := S4.out; have := Lz_4.out; have := Lr_4.out; omega))]; exact Rr_12
  obtain ⟨w13, hw13⟩ : ∃ V, (w12.setCell ⟨w1.heap.size + 1 + 1, 10, none⟩ (.int .u8 (cs : Nat))) = V := ⟨_, rfl⟩
  rw [hw13] at B13 Rz_13 Rr_13 Ri_13
  obtain ⟨cr_13_0, cr_13_1, cr_13_2, cr_13_3, cr_13_4, cr_13_5, cr_13_6⟩ := rwC_cells Rr_13
  obtain ⟨ci_13_0, ci_13_1, ci_13_2, ci_13_3, ci_13_4, ci_13_5, ci_13_6, ci_13_7, ci_13_8, ci_13_9, ci_13_10⟩ := inC_cells Ri_13
  have hif2 : #[Value.int .u8 (ro.op : Nat), .int .u8 (ro.form : Nat), .int .u8 (ro.frm : Nat), .int .u8 (ro.kind : Nat), .int .u8 (rd : Nat), .int .u8 (rs1 : Nat), .int .u8 0, .int .u8 0, .int .u8 0, .int .i16 0, .int .u8 (cs : Nat)] = (inC ⟨ro.op, ro.form, ro.frm, ro.kind, rd, rs1, 0, 0, 0, 0, cs⟩) := rfl
  have hst := inC_store (x := ⟨ro.op, ro.form, ro.frm, ro.kind, rd, rs1, 0, 0, 0, 0, cs⟩) Rz_13 rfl
  have rz := setRow_row (c' := inC ⟨ro.op, ro.form, ro.frm, ro.kind, rd, rs1, 0, 0, 0, 0, cs⟩) Rz_13
  have bz : Below w.heap.size w (w13.setRow (w.heap.size) (inC ⟨ro.op, ro.form, ro.frm, ro.kind, rd, rs1, 0, 0, 0, 0, cs⟩)) := Below.setRow B13 (show w.heap.size ≤ w.heap.size by first | exact Nat.le_refl _ | omega | (have := S2.out; have := Lz_2.out; have := Z3.out; have := S3.out; have := Lz_3.out; have := Lt_3.out; have := Z4.out; have := S4.out; have := Lz_4.out; have := Lr_4.out; omega))
  obtain ⟨wz, hwz⟩ : ∃ V, w13.setRow (w.heap.size) (inC ⟨ro.op, ro.form, ro.frm, ro.kind, rd, rs1, 0, 0, 0, 0, cs⟩) = V := ⟨_, rfl⟩
  rw [hwz] at hst rz bz
  clear hwz
  go_wp2
  exact bodyPost_ret (v := .tuple #[.agg (inC ⟨ro.op, ro.form, ro.frm, ro.kind, rd, rs1, 0, 0, 0, 0, cs⟩), .int .i64 0]) (res_inC Tryd.results10 rfl rz) rfl ⟨rfl, bz⟩
set_option maxRecDepth 100000 in
set_option maxHeartbeats 8000000 in
theorem b25_dec_9 (x : Nat) (ro : Rw) (s : ByteArray) (rd rm rs1 rs2 rs3 : Nat) (im cs : Nat) (q1 : (((ro.lay : Nat) : Int) == 1) = false) (q2 : (((ro.lay : Nat) : Int) == 2) = false) (q3 : (((ro.lay : Nat) : Int) == 3) = false) (q4 : (((ro.lay : Nat) : Int) == 4) = false) (q5 : (((ro.lay : Nat) : Int) == 5) = false) (q6 : (((ro.lay : Nat) : Int) == 6) = false) (q8 : (((ro.lay : Nat) : Int) == 8) = false) (q9 : (((ro.lay : Nat) : Int) == 9) = true) (ne : (((ro.lay : Nat) : Int) != 2) = true) (m0 : ((rd : Nat) : Int) % 256 = (rd : Nat)) (m1 : ((rm : Nat) : Int) % 256 = (rm : Nat)) (m2 : ((rs1 : Nat) : Int) % 256 = (rs1 : Nat)) (m3 : ((rs2 : Nat) : Int) % 256 = (rs2 : Nat)) (m4 : ((rs3 : Nat) : Int) % 256 = (rs3 : Nat)) (w : World) (KF : Box (∀ w, Calls Tryd.prog 20 #[.int .u32 (x : Nat)] w fun r w' => r = .returned (.tuple #[.agg (ndC ro s), .bool true]) ∧ Below w.heap.size w w')) (F7 : Box (∀ w, Calls Tryd.prog 25 #[.int .u32 (x : Nat), .int .i64 7, .int .i64 5] w fun r w' => r = .returned (.int .i64 (rd : Nat)) ∧ Below w.heap.size w w')) (F12 : Box (∀ w, Calls Tryd.prog 25 #[.int .u32 (x : Nat), .int .i64 12, .int .i64 3] w fun r w' => r = .returned (.int .i64 (rm : Nat)) ∧ Below w.heap.size w w')) (F15 : Box (∀ w, Calls Tryd.prog 25 #[.int .u32 (x : Nat), .int .i64 15, .int .i64 5] w fun r w' => r = .returned (.int .i64 (rs1 : Nat)) ∧ Below w.heap.size w w')) (F20 : Box (∀ w, Calls Tryd.prog 25 #[.int .u32 (x : Nat), .int .i64 20, .int .i64 5] w fun r w' => r = .returned (.int .i64 (rs2 : Nat)) ∧ Below w.heap.size w w')) (F27 : Box (∀ w, Calls Tryd.prog 25 #[.int .u32 (x : Nat), .int .i64 27, .int .i64 5] w fun r w' => r = .returned (.int .i64 (rs3 : Nat)) ∧ Below w.heap.size w w')) (FI : Box (∀ w, Calls Tryd.prog 25 #[.int .u32 (x : Nat), .int .i64 20, .int .i64 12] w fun r w' => r = .returned (.int .i64 (im : Nat)) ∧ Below w.heap.size w w')) (mc : ((im : Nat) : Int) % 256 = (cs : Nat)) : Calls Tryd.prog 10 #[.int .u32 (x : Nat)] w fun r w' => r = .returned (.tuple #[.agg (inC ⟨ro.op, ro.form, ro.frm, ro.kind, rd, rs1, 0, 0, 0, 0, cs⟩), .int .i64 0]) ∧ Below w.heap.size w w' := by
  have hnn := ndC_new
  have hrf := rwC_fold
  have hrn := rwC_new
  have hin := inC_new
  have hif := in_fold0
  have hnr := nd_row
  have hr0 := rw_at0
  have hr1 := rw_at1
  have hr2 := rw_at2
  have hr3 := rw_at3
  have hr4 := rw_at4
  have hr5 := rw_at5
  have hr6 := rw_at6
  obtain ⟨Rz_0, B0⟩ := opn1 w (Obj.cells #[.int .u8 0, .int .u8 0, .int .u8 0, .int .u8 0, .int .u8 0, .int .u8 0, .int .u8 0, .int .u8 0, .int .u8 0, .int .i16 0, .int .u8 0] 28)
  go_enter Tryd.func10, Tryd.ntmps10
  go_wp2_with fail
  refine (KF.out _).mono ?_
  rintro r w1 ⟨rfl, b1⟩
  have B1 : Below w.heap.size w w1 := btr B0 b1
  have Rz_1 := heap_of b1 _ _ _ Rz_0
  clear b1 B0 Rz_0
  have S2 := box B1.size
  have Lz_2 : Box (w.heap.size < w1.heap.size) := box (Array.getElem?_eq_some_iff.1 Rz_1).1
  have Rt_2 := heap_alloc_last w1 (Obj.cells (ndC ro s) 56)
  have B2 := btr B1 (bal w1 (Obj.cells (ndC ro s) 56))
  have Rz_2 := heap_of (bal w1 (Obj.cells (ndC ro s) 56)) _ _ _ Rz_1
  clear B1 Rz_1
  obtain ⟨ct_2_0, ct_2_1, ct_2_2, ct_2_3, ct_2_4, ct_2_5, ct_2_6, ct_2_7⟩ := ndC_cells Rt_2
  have S3 := box B2.size
  have Lz_3 : Box (w.heap.size < (w1.alloc (Obj.cells (ndC ro s) 56)).heap.size) := box (Array.getElem?_eq_some_iff.1 Rz_2).1
  have Lt_3 : Box (w1.heap.size < (w1.alloc (Obj.cells (ndC ro s) 56)).heap.size) := box (Array.getElem?_eq_some_iff.1 Rt_2).1
  have Z3 := box (size_al w1 (Obj.cells (ndC ro s) 56))
  have Rr_3 : ((w1.alloc (Obj.cells (ndC ro s) 56)).alloc (Obj.cells (rwC ro) 54)).heap[w1.heap.size + 1]? = some (Obj.cells (rwC ro) 54) := by have := heap_alloc_last (w1.alloc (Obj.cells (ndC ro s) 56)) (Obj.cells (rwC ro) 54); simpa only [size_al] using this
  have B3 := btr B2 (bal (w1.alloc (Obj.cells (ndC ro s) 56)) (Obj.cells (rwC ro) 54))
  have Rz_3 := heap_of (bal (w1.alloc (Obj.cells (ndC ro s) 56)) (Obj.cells (rwC ro) 54)) _ _ _ Rz_2
  have Rt_3 := heap_of (bal (w1.alloc (Obj.cells (ndC ro s) 56)) (Obj.cells (rwC ro) 54)) _ _ _ Rt_2
  clear B2 Rz_2 Rt_2 ct_2_0 ct_2_1 ct_2_2 ct_2_3 ct_2_4 ct_2_5 ct_2_6 ct_2_7
  obtain ⟨ct_3_0, ct_3_1, ct_3_2, ct_3_3, ct_3_4, ct_3_5, ct_3_6, ct_3_7⟩ := ndC_cells Rt_3
  obtain ⟨cr_3_0, cr_3_1, cr_3_2, cr_3_3, cr_3_4, cr_3_5, cr_3_6⟩ := rwC_cells Rr_3
  clear Rt_3 ct_3_0 ct_3_1 ct_3_2 ct_3_3 ct_3_4 ct_3_5 ct_3_6 ct_3_7
  have S4 := box B3.size
  have Lz_4 : Box (w.heap.size < ((w1.alloc (Obj.cells (ndC ro s) 56)).alloc (Obj.cells (rwC ro) 54)).heap.size) := box (Array.getElem?_eq_some_iff.1 Rz_3).1
  have Lr_4 : Box (w1.heap.size + 1 < ((w1.alloc (Obj.cells (ndC ro s) 56)).alloc (Obj.cells (rwC ro) 54)).heap.size) := box (Array.getElem?_eq_some_iff.1 Rr_3).1
  have Z4 := box (size_al (w1.alloc (Obj.cells (ndC ro s) 56)) (Obj.cells (rwC ro) 54))
  have Ri_4 : (((w1.alloc (Obj.cells (ndC ro s) 56)).alloc (Obj.cells (rwC ro) 54)).alloc (Obj.cells (inC ⟨ro.op, ro.form, ro.frm, ro.kind, 0, 0, 0, 0, 0, 0, 0⟩) 28)).heap[w1.heap.size + 1 + 1]? = some (Obj.cells (inC ⟨ro.op, ro.form, ro.frm, ro.kind, 0, 0, 0, 0, 0, 0, 0⟩) 28) := by have := heap_alloc_last ((w1.alloc (Obj.cells (ndC ro s) 56)).alloc (Obj.cells (rwC ro) 54)) (Obj.cells (inC ⟨ro.op, ro.form, ro.frm, ro.kind, 0, 0, 0, 0, 0, 0, 0⟩) 28); simpa only [size_al] using this
  have B4 := btr B3 (bal ((w1.alloc (Obj.cells (ndC ro s) 56)).alloc (Obj.cells (rwC ro) 54)) (Obj.cells (inC ⟨ro.op, ro.form, ro.frm, ro.kind, 0, 0, 0, 0, 0, 0, 0⟩) 28))
  have Rz_4 := heap_of (bal ((w1.alloc (Obj.cells (ndC ro s) 56)).alloc (Obj.cells (rwC ro) 54)) (Obj.cells (inC ⟨ro.op, ro.form, ro.frm, ro.kind, 0, 0, 0, 0, 0, 0, 0⟩) 28)) _ _ _ Rz_3
  have Rr_4 := heap_of (bal ((w1.alloc (Obj.cells (ndC ro s) 56)).alloc (Obj.cells (rwC ro) 54)) (Obj.cells (inC ⟨ro.op, ro.form, ro.frm, ro.kind, 0, 0, 0, 0, 0, 0, 0⟩) 28)) _ _ _ Rr_3
  clear B3 Rz_3 Rr_3 cr_3_0 cr_3_1 cr_3_2 cr_3_3 cr_3_4 cr_3_5 cr_3_6
  obtain ⟨cr_4_0, cr_4_1, cr_4_2, cr_4_3, cr_4_4, cr_4_5, cr_4_6⟩ := rwC_cells Rr_4
  obtain ⟨ci_4_0, ci_4_1, ci_4_2, ci_4_3, ci_4_4, ci_4_5, ci_4_6, ci_4_7, ci_4_8, ci_4_9, ci_4_10⟩ := inC_cells Ri_4
  clear ci_4_0 ci_4_1 ci_4_2 ci_4_3 ci_4_4 ci_4_5 ci_4_6 ci_4_7 ci_4_8 ci_4_9 ci_4_10
  go_wp2_with fail
  refine (F7.out _).mono ?_
  rintro r w5 ⟨rfl, b5⟩
  have B5 : Below w.heap.size w w5 := btr B4 b5
  have Rz_5 := heap_of b5 _ _ _ Rz_4
  have Rr_5 := heap_of b5 _ _ _ Rr_4
  have Ri_5 := heap_of b5 _ _ _ Ri_4
  clear b5 B4 Rz_4 Rr_4 cr_4_0 cr_4_1 cr_4_2 cr_4_3 cr_4_4 cr_4_5 cr_4_6 Ri_4
  obtain ⟨cr_5_0, cr_5_1, cr_5_2, cr_5_3, cr_5_4, cr_5_5, cr_5_6⟩ := rwC_cells Rr_5
  go_wp2_with fail
  refine (F12.out _).mono ?_
  rintro r w6 ⟨rfl, b6⟩
  have B6 : Below w.heap.size w w6 := btr B5 b6
  have Rz_6 := heap_of b6 _ _ _ Rz_5
  have Rr_6 := heap_of b6 _ _ _ Rr_5
  have Ri_6 := heap_of b6 _ _ _ Ri_5
  clear b6 B5 Rz_5 Rr_5 cr_5_0 cr_5_1 cr_5_2 cr_5_3 cr_5_4 cr_5_5 cr_5_6 Ri_5
  obtain ⟨cr_6_0, cr_6_1, cr_6_2, cr_6_3, cr_6_4, cr_6_5, cr_6_6⟩ := rwC_cells Rr_6
  go_wp2_with fail
  refine (F15.out _).mono ?_
  rintro r w7 ⟨rfl, b7⟩
  have B7 : Below w.heap.size w w7 := btr B6 b7
  have Rz_7 := heap_of b7 _ _ _ Rz_6
  have Rr_7 := heap_of b7 _ _ _ Rr_6
  have Ri_7 := heap_of b7 _ _ _ Ri_6
  clear b7 B6 Rz_6 Rr_6 cr_6_0 cr_6_1 cr_6_2 cr_6_3 cr_6_4 cr_6_5 cr_6_6 Ri_6
  obtain ⟨cr_7_0, cr_7_1, cr_7_2, cr_7_3, cr_7_4, cr_7_5, cr_7_6⟩ := rwC_cells Rr_7
  go_wp2_with fail
  refine (F20.out _).mono ?_
  rintro r w8 ⟨rfl, b8⟩
  have B8 : Below w.heap.size w w8 := btr B7 b8
  have Rz_8 := heap_of b8 _ _ _ Rz_7
  have Rr_8 := heap_of b8 _ _ _ Rr_7
  have Ri_8 := heap_of b8 _ _ _ Ri_7
  clear b8 B7 Rz_7 Rr_7 cr_7_0 cr_7_1 cr_7_2 cr_7_3 cr_7_4 cr_7_5 cr_7_6 Ri_7
  obtain ⟨cr_8_0, cr_8_1, cr_8_2, cr_8_3, cr_8_4, cr_8_5, cr_8_6⟩ := rwC_cells Rr_8
  go_wp2_with fail
  refine (F27.out _).mono ?_
  rintro r w9 ⟨rfl, b9⟩
  have B9 : Below w.heap.size w w9 := btr B8 b9
  have Rz_9 := heap_of b9 _ _ _ Rz_8
  have Rr_9 := heap_of b9 _ _ _ Rr_8
  have Ri_9 := heap_of b9 _ _ _ Ri_8
  clear b9 B8 Rz_8 Rr_8 cr_8_0 cr_8_1 cr_8_2 cr_8_3 cr_8_4 cr_8_5 cr_8_6 Ri_8
  obtain ⟨cr_9_0, cr_9_1, cr_9_2, cr_9_3, cr_9_4, cr_9_5, cr_9_6⟩ := rwC_cells Rr_9
  have qi_9 := fz (k := 5) Ri_9
  have ei_9 := cell7 Ri_9 5 _ rfl
  have B10 : Below w.heap.size w (w9.setCell ⟨w1.heap.size + 1 + 1, 5, none⟩ (.int .u8 (rs1 : Nat))) := B9.setCell (by first | exact Nat.le_refl _ | (have := S2.out; have := Lz_2.out; have := Z3.out; have := S3.out; have := Lz_3.out; have := Lt_3.out; have := Z4.out; have := S4.out; have := Lz_4.out; have := Lr_4.out; show w.heap.size ≤ w1.heap.size + 1 + 1; omega)) _
  have Ri_10 : (w9.setCell ⟨w1.heap.size + 1 + 1, 5, none⟩ (.int .u8 (rs1 : Nat))).heap[w1.heap.size + 1 + 1]? = some (Obj.cells (inC ⟨ro.op, ro.form, ro.frm, ro.kind, 0, rs1, 0, 0, 0, 0, 0⟩) 28) := by rw [setCell_row Ri_9]; rfl
  have Rz_10 : (w9.setCell ⟨w1.heap.size + 1 + 1, 5, none⟩ (.int .u8 (rs1 : Nat))).heap[w.heap.size]? = some (Obj.cells #[.int .u8 0, .int .u8 0, .int .u8 0, .int .u8 0, .int .u8 0, .int .u8 0, .int .u8 0, .int .u8 0, .int .u8 0, .int .i16 0, .int .u8 0] 28) := by rw [setCell_other (by first | omega | (have := S2.out; have := Lz_2.out; have := Z3.out; have := S3.out; have := Lz_3.out; have := Lt_3.out; have := Z4.out; have := S4.out; have := Lz_4.out; have := Lr_4.out; omega))]; exact Rz_9
  have Rr_10 : (w9.setCell ⟨w1.heap.size + 1 + 1, 5, none⟩ (.int .u8 (rs1 : Nat))).heap[w1.heap.size + 1]? = some (Obj.cells (rwC ro) 54) := by rw [setCell_other (by first | omega | (have := S2.out; have := Lz_2.out; have := Z3.out; have := S3.out; have := Lz_3.out; have := Lt_3.out; have := Z4.out; have := S4.out; have := Lz_4.out; have := Lr_4.out; omega))]; exact Rr_9
  obtain ⟨w10, hw10⟩ : ∃ V, (w9.setCell ⟨w1.heap.size + 1 + 1, 5, none⟩ (.int .u8 (rs1 : Nat))) = V := ⟨_, rfl⟩
  rw [hw10] at B10 Rz_10 Rr_10 Ri_10
  obtain ⟨cr_10_0, cr_10_1, cr_10_2, cr_10_3, cr_10_4, cr_10_5, cr_10_6⟩ := rwC_cells Rr_10
  have qi_10 := fz (k := 4) Ri_10
  have ei_10 := cell7 Ri_10 4 _ rfl
  have B11 : Below w.heap.size w (w10.setCell ⟨w1.heap.size + 1 + 1, 4, none⟩ (.int .u8 (rd : Nat))) := B10.setCell (by first | exact Nat.le_refl _ | (have := S2.out; have := Lz_2.out; have := Z3.out; have := S3.out; have := Lz_3.out; have := Lt_3.out; have := Z4.out; have := S4.out; have := Lz_4.out; have := Lr_4.out; show w.heap.size ≤ w1.heap.size + 1 + 1; omega)) _
  have Ri_11 : (w10.setCell ⟨w1.heap.size + 1 + 1, 4, none⟩ (.int .u8 (rd : Nat))).heap[w1.heap.size + 1 + 1]? = some (Obj.cells (inC ⟨ro.op, ro.form, ro.frm, ro.kind, rd, rs1, 0, 0, 0, 0, 0⟩) 28) := by rw [setCell_row Ri_10]; rfl
  have Rz_11 : (w10.setCell ⟨w1.heap.size + 1 + 1, 4, none⟩ (.int .u8 (rd : Nat))).heap[w.heap.size]? = some (Obj.cells #[.int .u8 0, .int .u8 0, .int .u8 0, .int .u8 0, .int .u8 0, .int .u8 0, .int .u8 0, .int .u8 0, .int .u8 0, .int .i16 0, .int .u8 0] 28) := by rw [setCell_other (by first | omega | (have := S2.out; have := Lz_2.out; have := Z3.out; have := S3.out; have := Lz_3.out; have := Lt_3.out; have := Z4.out; have := S4.out; have := Lz_4.out; have := Lr_4.out; omega))]; exact Rz_10
  have Rr_11 : (w10.setCell ⟨w1.heap.size + 1 + 1, 4, none⟩ (.int .u8 (rd : Nat))).heap[w1.heap.size + 1]? = some (Obj.cells (rwC ro) 54) := by rw [setCell_other (by first | omega | (have := S2.out; have := Lz_2.out; have := Z3.out; have := S3.out; have := Lz_3.out; have := Lt_3.out; have := Z4.out; have := S4.out; have := Lz_4.out; have := Lr_4.out; omega))]; exact Rr_10
  obtain ⟨w11, hw11⟩ : ∃ V, (w10.setCell ⟨w1.heap.size + 1 + 1, 4, none⟩ (.int .u8 (rd : Nat))) = V := ⟨_, rfl⟩
  rw [hw11] at B11 Rz_11 Rr_11 Ri_11
  obtain ⟨cr_11_0, cr_11_1, cr_11_2, cr_11_3, cr_11_4, cr_11_5, cr_11_6⟩ := rwC_cells Rr_11
  go_wp2_with fail
  refine (FI.out _).mono ?_
  rintro r w12 ⟨rfl, b12⟩
  have B12 : Below w.heap.size w w12 := btr B11 b12
  have Rz_12 := heap_of b12 _ _ _ Rz_11
  have Rr_12 := heap_of b12 _ _ _ Rr_11
  have Ri_12 := heap_of b12 _ _ _ Ri_11
  clear b12 B11 Rz_11 Rr_11 cr_11_0 cr_11_1 cr_11_2 cr_11_3 cr_11_4 cr_11_5 cr_11_6 Ri_11
  obtain ⟨cr_12_0, cr_12_1, cr_12_2, cr_12_3, cr_12_4, cr_12_5, cr_12_6⟩ := rwC_cells Rr_12
  have qi_12 := fz (k := 10) Ri_12
  have ei_12 := cell7 Ri_12 10 _ rfl
  have B13 : Below w.heap.size w (w12.setCell ⟨w1.heap.size + 1 + 1, 10, none⟩ (.int .u8 (cs : Nat))) := B12.setCell (by first | exact Nat.le_refl _ | (have := S2.out; have := Lz_2.out; have := Z3.out; have := S3.out; have := Lz_3.out; have := Lt_3.out; have := Z4.out; have := S4.out; have := Lz_4.out; have := Lr_4.out; show w.heap.size ≤ w1.heap.size + 1 + 1; omega)) _
  have Ri_13 : (w12.setCell ⟨w1.heap.size + 1 + 1, 10, none⟩ (.int .u8 (cs : Nat))).heap[w1.heap.size + 1 + 1]? = some (Obj.cells (inC ⟨ro.op, ro.form, ro.frm, ro.kind, rd, rs1, 0, 0, 0, 0, cs⟩) 28) := by rw [setCell_row Ri_12]; rfl
  have Rz_13 : (w12.setCell ⟨w1.heap.size + 1 + 1, 10, none⟩ (.int .u8 (cs : Nat))).heap[w.heap.size]? = some (Obj.cells #[.int .u8 0, .int .u8 0, .int .u8 0, .int .u8 0, .int .u8 0, .int .u8 0, .int .u8 0, .int .u8 0, .int .u8 0, .int .i16 0, .int .u8 0] 28) := by rw [setCell_other (by first | omega | (have := S2.out; have := Lz_2.out; have := Z3.out; have := S3.out; have := Lz_3.out; have := Lt_3.out; have := Z4.out; have := S4.out; have := Lz_4.out; have := Lr_4.out; omega))]; exact Rz_12
  have Rr_13 : (w12.setCell ⟨w1.heap.size + 1 + 1, 10, none⟩ (.int .u8 (cs : Nat))).heap[w1.heap.size + 1]? = some (Obj.cells (rwC ro) 54) := by rw [setCell_other (by first | omega | (have := S2.out; have := Lz_2.out; have := Z3.out; have := S3.out; have := Lz_3.out; have := Lt_3.out; have := Z4.out; have := S4.out; have := Lz_4.out; have := Lr_4.out; omega))]; exact Rr_12
  obtain ⟨w13, hw13⟩ : ∃ V, (w12.setCell ⟨w1.heap.size + 1 + 1, 10, none⟩ (.int .u8 (cs : Nat))) = V := ⟨_, rfl⟩
  rw [hw13] at B13 Rz_13 Rr_13 Ri_13
  obtain ⟨cr_13_0, cr_13_1, cr_13_2, cr_13_3, cr_13_4, cr_13_5, cr_13_6⟩ := rwC_cells Rr_13
  obtain ⟨ci_13_0, ci_13_1, ci_13_2, ci_13_3, ci_13_4, ci_13_5, ci_13_6, ci_13_7, ci_13_8, ci_13_9, ci_13_10⟩ := inC_cells Ri_13
  have hif2 : #[Value.int .u8 (ro.op : Nat), .int .u8 (ro.form : Nat), .int .u8 (ro.frm : Nat), .int .u8 (ro.kind : Nat), .int .u8 (rd : Nat), .int .u8 (rs1 : Nat), .int .u8 0, .int .u8 0, .int .u8 0, .int .i16 0, .int .u8 (cs : Nat)] = (inC ⟨ro.op, ro.form, ro.frm, ro.kind, rd, rs1, 0, 0, 0, 0, cs⟩) := rfl
  have hst := inC_store (x := ⟨ro.op, ro.form, ro.frm, ro.kind, rd, rs1, 0, 0, 0, 0, cs⟩) Rz_13 rfl
  have rz := setRow_row (c' := inC ⟨ro.op, ro.form, ro.frm, ro.kind, rd, rs1, 0, 0, 0, 0, cs⟩) Rz_13
  have bz : Below w.heap.size w (w13.setRow (w.heap.size) (inC ⟨ro.op, ro.form, ro.frm, ro.kind, rd, rs1, 0, 0, 0, 0, cs⟩)) := Below.setRow B13 (show w.heap.size ≤ w.heap.size by first | exact Nat.le_refl _ | omega | (have := S2.out; have := Lz_2.out; have := Z3.out; have := S3.out; have := Lz_3.out; have := Lt_3.out; have := Z4.out; have := S4.out; have := Lz_4.out; have := Lr_4.out; omega))
  obtain ⟨wz, hwz⟩ : ∃ V, w13.setRow (w.heap.size) (inC ⟨ro.op, ro.form, ro.frm, ro.kind, rd, rs1, 0, 0, 0, 0, cs⟩) = V := ⟨_, rfl⟩
  rw [hwz] at hst rz bz
  clear hwz
  go_wp2
  exact bodyPost_ret (v := .tuple #[.agg (inC ⟨ro.op, ro.form, ro.frm, ro.kind, rd, rs1, 0, 0, 0, 0, cs⟩), .int .i64 0]) (res_inC Tryd.results10 rfl rz) rfl ⟨rfl, bz⟩
end Go.Proofs.YtamlcgmipdcgjaaDoor
