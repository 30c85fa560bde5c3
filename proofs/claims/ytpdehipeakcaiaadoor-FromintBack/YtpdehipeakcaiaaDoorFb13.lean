/-
  What the functions that the statement reaches return: part 13 (NB).
-/
import Derived.Test.YtpdehipeakcaiaaDoorFb12
namespace Go.Proofs.YtpdehipeakcaiaaDoor
set_option maxRecDepth 100000
set_option maxHeartbeats 40000000
set_option maxRecDepth 100000
open Go.RowKit WMath
set_option linter.unusedSimpArgs false
set_option linter.unusedVariables false
set_option maxRecDepth 100000 in
set_option maxHeartbeats 8000000 in
theorem pq_wh_nf (f m : Int) (x1 y1 : Nat) (c1 m1 r1 : Nat) (X1 : Int) (w : World) (KF : Box (∀ (T : TypeId) (g : Nat) (w : World), w.heap.size = g → FAt w → Calls Tryd.prog 32 #[.int .u8 f, .int .u8 m, .slice (some ⟨g, 0, none⟩) 1 1] (w.alloc (.cells #[.int .u64 (x1 : Nat), .int .u64 (y1 : Nat)] T)) fun r w' => r = .returned (.bool true) ∧ Below w.heap.size w w')) (KU : Box (∀ w, FAt w → Calls Tryd.prog 33 #[.int .u8 f, .agg #[.int .u64 (x1 : Nat), .int .u64 (y1 : Nat)]] w fun r w' => r = .returned (.tuple #[.agg (pt c1 m1 X1 r1), .int .i64 0]) ∧ Below w.heap.size w w')) (KI : Box (∀ w, Calls Tryd.prog 34 #[.int .u8 (c1 : Nat)] w fun r w' => r = .returned (.bool false) ∧ Below w.heap.size w w')) (hT : FAt w) : Calls Tryd.prog 11 #[.int .u8 f, .int .u8 m, .agg #[.int .u64 (x1 : Nat), .int .u64 (y1 : Nat)]] w fun r w' => r = .returned (.tuple #[.bool false, .agg (cw 6 0), .bool false, .int .i64 80]) ∧ Below w.heap.size w w' := by
  have FF := box hT
  clear hT
  have hat := cw_at 6
  have hz := cw6z
  have hff := cw6f
  have hs0 := st0
  have hcs : ∀ x, ((cw 6 x).size = 6) = True := fun x => eq_true (cw_size 6 x)
  have hq1 := ptf
  have hq3 := ptz
  have hq4 := st_p0
  have hq5 : ∀ (c s : Nat) (x : Int) (r : Nat), ((pt c s x r).size = 14) = True := fun _ _ _ _ => eq_true rfl
  have heq := eq6
  have hgq := eqg6
  have hQ0 := Q_pos
  obtain ⟨Ra_0, Rn_0, B0⟩ := opn2 w (Obj.cells #[.int .u64 (x1 : Nat), .int .u64 (y1 : Nat)] 27) (Obj.cells (cw 6 0) 42)
  go_enter Tryd.func11, Tryd.ntmps11
  obtain ⟨ca_0_0, ca_0_1⟩ := cells2s Ra_0
  go_wp2_with fail
  refine (KF.out _ _ ((w.alloc (Obj.cells #[.int .u64 (x1 : Nat), .int .u64 (y1 : Nat)] 27)).alloc (Obj.cells (cw 6 0) 42)) (by first | rfl | simp only [size_al]) (fatB FF.out B0)).mono ?_
  rintro r w1 ⟨rfl, b1⟩
  have B1 : Below w.heap.size w w1 := btr B0 b1
  have Ra_1 := heap_of b1 _ _ _ Ra_0
  have Rn_1 := heap_of b1 _ _ _ Rn_0
  clear b1 B0 Ra_0 ca_0_0 ca_0_1 Rn_0
  obtain ⟨ca_1_0, ca_1_1⟩ := cells2s Ra_1
  go_wp2_with fail
  refine (KU.out _ (fatB FF.out B1)).mono ?_
  rintro r w2 ⟨rfl, b2⟩
  have B2 : Below w.heap.size w w2 := btr B1 b2
  have Ra_2 := heap_of b2 _ _ _ Ra_1
  have Rn_2 := heap_of b2 _ _ _ Rn_1
  clear b2 B1 Ra_1 ca_1_0 ca_1_1 Rn_1
  obtain ⟨ca_2_0, ca_2_1⟩ := cells2s Ra_2
  have S3 := box B2.size
  have La_3 : Box (w.heap.size < w2.heap.size) := box (Array.getElem?_eq_some_iff.1 Ra_2).1
  have Ln_3 : Box (w.heap.size + 1 < w2.heap.size) := box (Array.getElem?_eq_some_iff.1 Rn_2).1
  have Rx_3 := heap_alloc_last w2 (Obj.cells (pt c1 m1 X1 r1) 75)
  have B3 := btr B2 (bal w2 (Obj.cells (pt c1 m1 X1 r1) 75))
  have Ra_3 := heap_of (bal w2 (Obj.cells (pt c1 m1 X1 r1) 75)) _ _ _ Ra_2
  have Rn_3 := heap_of (bal w2 (Obj.cells (pt c1 m1 X1 r1) 75)) _ _ _ Rn_2
  clear B2 Ra_2 ca_2_0 ca_2_1 Rn_2
  obtain ⟨ca_3_0, ca_3_1⟩ := cells2s Ra_3
  have cx_3_0 := (pt_cells Rx_3).1
  go_wp2_with fail
  refine (KI.out _).mono ?_
  rintro r w4 ⟨rfl, b4⟩
  have B4 : Below w.heap.size w w4 := btr B3 b4
  have Ra_4 := heap_of b4 _ _ _ Ra_3
  have Rn_4 := heap_of b4 _ _ _ Rn_3
  have Rx_4 := heap_of b4 _ _ _ Rx_3
  clear b4 B3 Ra_3 ca_3_0 ca_3_1 Rn_3 Rx_3 cx_3_0
  obtain ⟨ca_4_0, ca_4_1⟩ := cells2s Ra_4
  have cx_4_0 := (pt_cells Rx_4).1
  have cn_4_0 := row_cell Rn_4
  have hst := st_any w4 (w.heap.size + 1) 0 0 Rn_4
  have dz := row_cell (setRow_row (c' := cw 6 0) Rn_4)
  have bz := bel_set (c := cw 6 0) B4 (show w.heap.size ≤ w.heap.size + 1 by first | exact Nat.le_refl _ | omega | (have := S3.out; have := La_3.out; have := Ln_3.out; omega))
  go_wp2
  exact bodyPost_ret (v := .tuple #[.bool false, .agg (cw 6 0), .bool false, .int .i64 80]) (by simp [results, Tryd.results11, go_sem, dz, hff]) rfl ⟨rfl, bz⟩
set_option maxRecDepth 100000 in
set_option maxHeartbeats 8000000 in
theorem pq_wh_lo (f m : Int) (x1 y1 : Nat) (c1 m1 r1 : Nat) (X1 : Int) (R : Nat) (w : World) (KF : Box (∀ (T : TypeId) (g : Nat) (w : World), w.heap.size = g → FAt w → Calls Tryd.prog 32 #[.int .u8 f, .int .u8 m, .slice (some ⟨g, 0, none⟩) 1 1] (w.alloc (.cells #[.int .u64 (x1 : Nat), .int .u64 (y1 : Nat)] T)) fun r w' => r = .returned (.bool true) ∧ Below w.heap.size w w')) (KU : Box (∀ w, FAt w → Calls Tryd.prog 33 #[.int .u8 f, .agg #[.int .u64 (x1 : Nat), .int .u64 (y1 : Nat)]] w fun r w' => r = .returned (.tuple #[.agg (pt c1 m1 X1 r1), .int .i64 0]) ∧ Below w.heap.size w w')) (KI : Box (∀ w, Calls Tryd.prog 34 #[.int .u8 (c1 : Nat)] w fun r w' => r = .returned (.bool true) ∧ Below w.heap.size w w')) (KL : Box (∀ w, Calls Tryd.prog 35 #[.agg (cw 6 m1), .int .i64 X1] w fun r w' => r = .returned (.tuple #[.agg (cw 6 R), .bool true]) ∧ Below w.heap.size w w')) (hT : FAt w) : Calls Tryd.prog 11 #[.int .u8 f, .int .u8 m, .agg #[.int .u64 (x1 : Nat), .int .u64 (y1 : Nat)]] w fun r w' => r = .returned (.tuple #[.bool false, .agg (cw 6 0), .bool false, .int .i64 4]) ∧ Below w.heap.size w w' := by
  have FF := box hT
  clear hT
  have hat := cw_at 6
  have hz := cw6z
  have hff := cw6f
  have hs0 := st0
  have hcs : ∀ x, ((cw 6 x).size = 6) = True := fun x => eq_true (cw_size 6 x)
  have hq1 := ptf
  have hq3 := ptz
  have hq4 := st_p0
  have hq5 : ∀ (c s : Nat) (x : Int) (r : Nat), ((pt c s x r).size = 14) = True := fun _ _ _ _ => eq_true rfl
  have heq := eq6
  have hgq := eqg6
  have hQ0 := Q_pos
  obtain ⟨Ra_0, Rn_0, B0⟩ := opn2 w (Obj.cells #[.int .u64 (x1 : Nat), .int .u64 (y1 : Nat)] 27) (Obj.cells (cw 6 0) 42)
  go_enter Tryd.func11, Tryd.ntmps11
  obtain ⟨ca_0_0, ca_0_1⟩ := cells2s Ra_0
  go_wp2_with fail
  refine (KF.out _ _ ((w.alloc (Obj.cells #[.int .u64 (x1 : Nat), .int .u64 (y1 : Nat)] 27)).alloc (Obj.cells (cw 6 0) 42)) (by first | rfl | simp only [size_al]) (fatB FF.out B0)).mono ?_
  rintro r w1 ⟨rfl, b1⟩
  have B1 : Below w.heap.size w w1 := btr B0 b1
  have Ra_1 := heap_of b1 _ _ _ Ra_0
  have Rn_1 := heap_of b1 _ _ _ Rn_0
  clear b1 B0 Ra_0 ca_0_0 ca_0_1 Rn_0
  obtain ⟨ca_1_0, ca_1_1⟩ := cells2s Ra_1
  go_wp2_with fail
  refine (KU.out _ (fatB FF.out B1)).mono ?_
  rintro r w2 ⟨rfl, b2⟩
  have B2 : Below w.heap.size w w2 := btr B1 b2
  have Ra_2 := heap_of b2 _ _ _ Ra_1
  have Rn_2 := heap_of b2 _ _ _ Rn_1
  clear b2 B1 Ra_1 ca_1_0 ca_1_1 Rn_1
  obtain ⟨ca_2_0, ca_2_1⟩ := cells2s Ra_2
  have S3 := box B2.size
  have La_3 : Box (w.heap.size < w2.heap.size) := box (Array.getElem?_eq_some_iff.1 Ra_2).1
  have Ln_3 : Box (w.heap.size + 1 < w2.heap.size) := box (Array.getElem?_eq_some_iff.1 Rn_2).1
  have Rx_3 := heap_alloc_last w2 (Obj.cells (pt c1 m1 X1 r1) 75)
  have B3 := btr B2 (bal w2 (Obj.cells (pt c1 m1 X1 r1) 75))
  have Ra_3 := heap_of (bal w2 (Obj.cells (pt c1 m1 X1 r1) 75)) _ _ _ Ra_2
  have Rn_3 := heap_of (bal w2 (Obj.cells (pt c1 m1 X1 r1) 75)) _ _ _ Rn_2
  clear B2 Ra_2 ca_2_0 ca_2_1 Rn_2
  obtain ⟨ca_3_0, ca_3_1⟩ := cells2s Ra_3
  have cx_3_0 := (pt_cells Rx_3).1
  go_wp2_with fail
  refine (KI.out _).mono ?_
  rintro r w4 ⟨rfl, b4⟩
  have B4 : Below w.heap.size w w4 := btr B3 b4
  have Ra_4 := heap_of b4 _ _ _ Ra_3
  have Rn_4 := heap_of b4 _ _ _ Rn_3
  have Rx_4 := heap_of b4 _ _ _ Rx_3
  clear b4 B3 Ra_3 ca_3_0 ca_3_1 Rn_3 Rx_3 cx_3_0
  obtain ⟨ca_4_0, ca_4_1⟩ := cells2s Ra_4
  have cx_4_0 := (pt_cells Rx_4).1
  obtain ⟨cx_4_0, cx_4_1, cx_4_2, cx_4_3, cx_4_4, cx_4_5, cx_4_6, cx_4_7, cx_4_8, cx_4_9, cx_4_10, cx_4_11, cx_4_12, cx_4_13⟩ := pt_cells Rx_4
  go_wp2_with fail
  refine (KL.out _).mono ?_
  rintro r w5 ⟨rfl, b5⟩
  have B5 : Below w.heap.size w w5 := btr B4 b5
  have Ra_5 := heap_of b5 _ _ _ Ra_4
  have Rn_5 := heap_of b5 _ _ _ Rn_4
  have Rx_5 := heap_of b5 _ _ _ Rx_4
  clear b5 B4 Ra_4 ca_4_0 ca_4_1 Rn_4 Rx_4 cx_4_0 cx_4_1 cx_4_2 cx_4_3 cx_4_4 cx_4_5 cx_4_6 cx_4_7 cx_4_8 cx_4_9 cx_4_10 cx_4_11 cx_4_12 cx_4_13
  obtain ⟨ca_5_0, ca_5_1⟩ := cells2s Ra_5
  obtain ⟨cx_5_0, cx_5_1, cx_5_2, cx_5_3, cx_5_4, cx_5_5, cx_5_6, cx_5_7, cx_5_8, cx_5_9, cx_5_10, cx_5_11, cx_5_12, cx_5_13⟩ := pt_cells Rx_5
  have S6 := box B5.size
  have La_6 : Box (w.heap.size < w5.heap.size) := box (Array.getElem?_eq_some_iff.1 Ra_5).1
  have Ln_6 : Box (w.heap.size + 1 < w5.heap.size) := box (Array.getElem?_eq_some_iff.1 Rn_5).1
  have Lx_6 : Box (w2.heap.size < w5.heap.size) := box (Array.getElem?_eq_some_iff.1 Rx_5).1
  have Rr_6 := heap_alloc_last w5 (Obj.cells (cw 6 R) 42)
  have B6 := btr B5 (bal w5 (Obj.cells (cw 6 R) 42))
  have Ra_6 := heap_of (bal w5 (Obj.cells (cw 6 R) 42)) _ _ _ Ra_5
  have Rn_6 := heap_of (bal w5 (Obj.cells (cw 6 R) 42)) _ _ _ Rn_5
  have Rx_6 := heap_of (bal w5 (Obj.cells (cw 6 R) 42)) _ _ _ Rx_5
  clear B5 Ra_5 ca_5_0 ca_5_1 Rn_5 Rx_5 cx_5_0 cx_5_1 cx_5_2 cx_5_3 cx_5_4 cx_5_5 cx_5_6 cx_5_7 cx_5_8 cx_5_9 cx_5_10 cx_5_11 cx_5_12 cx_5_13
  obtain ⟨ca_6_0, ca_6_1⟩ := cells2s Ra_6
  obtain ⟨cx_6_0, cx_6_1, cx_6_2, cx_6_3, cx_6_4, cx_6_5, cx_6_6, cx_6_7, cx_6_8, cx_6_9, cx_6_10, cx_6_11, cx_6_12, cx_6_13⟩ := pt_cells Rx_6
  have cr_6_0 := row_cell Rr_6
  have cn_6_0 := row_cell Rn_6
  have hst := st_any (w5.alloc (Obj.cells (cw 6 R) 42)) (w.heap.size + 1) 0 0 Rn_6
  have dz := row_cell (setRow_row (c' := cw 6 0) Rn_6)
  have bz := bel_set (c := cw 6 0) B6 (show w.heap.size ≤ w.heap.size + 1 by first | exact Nat.le_refl _ | omega | (have := S3.out; have := La_3.out; have := Ln_3.out; have := S6.out; have := La_6.out; have := Ln_6.out; have := Lx_6.out; omega))
  go_wp2
  exact bodyPost_ret (v := .tuple #[.bool false, .agg (cw 6 0), .bool false, .int .i64 4]) (by simp [results, Tryd.results11, go_sem, dz, hff]) rfl ⟨rfl, bz⟩
set_option maxRecDepth 100000 in
set_option maxHeartbeats 8000000 in
theorem pq_wh_nf0 (f m : Int) (x1 y1 : Nat) (c1 m1 r1 : Nat) (X1 : Int) (R N : Nat) (X2 h : Int) (ex od l2 o : Bool) (hX : IntKind.i64.wrap (-X1) = X2) (hN : N < Q) (w : World) (KF : Box (∀ (T : TypeId) (g : Nat) (w : World), w.heap.size = g → FAt w → Calls Tryd.prog 32 #[.int .u8 f, .int .u8 m, .slice (some ⟨g, 0, none⟩) 1 1] (w.alloc (.cells #[.int .u64 (x1 : Nat), .int .u64 (y1 : Nat)] T)) fun r w' => r = .returned (.bool true) ∧ Below w.heap.size w w')) (KU : Box (∀ w, FAt w → Calls Tryd.prog 33 #[.int .u8 f, .agg #[.int .u64 (x1 : Nat), .int .u64 (y1 : Nat)]] w fun r w' => r = .returned (.tuple #[.agg (pt c1 m1 X1 r1), .int .i64 0]) ∧ Below w.heap.size w w')) (KI : Box (∀ w, Calls Tryd.prog 34 #[.int .u8 (c1 : Nat)] w fun r w' => r = .returned (.bool true) ∧ Below w.heap.size w w')) (KL : Box (∀ w, Calls Tryd.prog 35 #[.agg (cw 6 m1), .int .i64 X1] w fun r w' => r = .returned (.tuple #[.agg (cw 6 R), .bool false]) ∧ Below w.heap.size w w')) (KS : Box (∀ w, FAt w → Calls Tryd.prog 36 #[.int .u8 f, .agg #[.int .u64 (x1 : Nat), .int .u64 (y1 : Nat)]] w fun r w' => r = .returned (.bool false) ∧ Below w.heap.size w w')) (KC : Box (∀ w, Calls Tryd.prog 37 #[.agg (cw 6 R), .int .i64 X2] w fun r w' => r = .returned (.tuple #[.agg (cw 6 N), .int .i64 h, .bool ex]) ∧ Below w.heap.size w w')) (KB : Box (∀ w, Calls Tryd.prog 39 #[.agg (cw 6 N), .int .i64 0] w fun r w' => r = .returned (.bool od) ∧ Below w.heap.size w w')) (KP : Box (∀ w, Calls Tryd.prog 38 #[.int .u8 m, .bool false, .bool od, .int .i64 h, .bool ex] w fun r w' => r = .returned (.bool false) ∧ Below w.heap.size w w')) (hT : FAt w) : Calls Tryd.prog 11 #[.int .u8 f, .int .u8 m, .agg #[.int .u64 (x1 : Nat), .int .u64 (y1 : Nat)]] w fun r w' => r = .returned (.tuple #[.bool false, .agg (cw 6 N), .bool ex, .int .i64 0]) ∧ Below w.heap.size w w' := by
  have FF := box hT
  clear hT
  have hat := cw_at 6
  have hz := cw6z
  have hff := cw6f
  have hs0 := st0
  have hcs : ∀ x, ((cw 6 x).size = 6) = True := fun x => eq_true (cw_size 6 x)
  have hq1 := ptf
  have hq3 := ptz
  have hq4 := st_p0
  have hq5 : ∀ (c s : Nat) (x : Int) (r : Nat), ((pt c s x r).size = 14) = True := fun _ _ _ _ => eq_true rfl
  have heq := eq6
  have hgq := eqg6
  have hQ0 := Q_pos
  obtain ⟨Ra_0, Rn_0, B0⟩ := opn2 w (Obj.cells #[.int .u64 (x1 : Nat), .int .u64 (y1 : Nat)] 27) (Obj.cells (cw 6 0) 42)
  go_enter Tryd.func11, Tryd.ntmps11
  obtain ⟨ca_0_0, ca_0_1⟩ := cells2s Ra_0
  go_wp2_with fail
  refine (KF.out _ _ ((w.alloc (Obj.cells #[.int .u64 (x1 : Nat), .int .u64 (y1 : Nat)] 27)).alloc (Obj.cells (cw 6 0) 42)) (by first | rfl | simp only [size_al]) (fatB FF.out B0)).mono ?_
  rintro r w1 ⟨rfl, b1⟩
  have B1 : Below w.heap.size w w1 := btr B0 b1
  have Ra_1 := heap_of b1 _ _ _ Ra_0
  have Rn_1 := heap_of b1 _ _ _ Rn_0
  clear b1 B0 Ra_0 ca_0_0 ca_0_1 Rn_0
  obtain ⟨ca_1_0, ca_1_1⟩ := cells2s Ra_1
  go_wp2_with fail
  refine (KU.out _ (fatB FF.out B1)).mono ?_
  rintro r w2 ⟨rfl, b2⟩
  have B2 : Below w.heap.size w w2 := btr B1 b2
  have Ra_2 := heap_of b2 _ _ _ Ra_1
  have Rn_2 := heap_of b2 _ _ _ Rn_1
  clear b2 B1 Ra_1 ca_1_0 ca_1_1 Rn_1
  obtain ⟨ca_2_0, ca_2_1⟩ := cells2s Ra_2
  have S3 := box B2.size
  have La_3 : Box (w.heap.size < w2.heap.size) := box (Array.getElem?_eq_some_iff.1 Ra_2).1
  have Ln_3 : Box (w.heap.size + 1 < w2.heap.size) := box (Array.getElem?_eq_some_iff.1 Rn_2).1
  have Rx_3 := heap_alloc_last w2 (Obj.cells (pt c1 m1 X1 r1) 75)
  have B3 := btr B2 (bal w2 (Obj.cells (pt c1 m1 X1 r1) 75))
  have Ra_3 := heap_of (bal w2 (Obj.cells (pt c1 m1 X1 r1) 75)) _ _ _ Ra_2
  have Rn_3 := heap_of (bal w2 (Obj.cells (pt c1 m1 X1 r1) 75)) _ _ _ Rn_2
  clear B2 Ra_2 ca_2_0 ca_2_1 Rn_2
  obtain ⟨ca_3_0, ca_3_1⟩ := cells2s Ra_3
  have cx_3_0 := (pt_cells Rx_3).1
  go_wp2_with fail
  refine (KI.out _).mono ?_
  rintro r w4 ⟨rfl, b4⟩
  have B4 : Below w.heap.size w w4 := btr B3 b4
  have Ra_4 := heap_of b4 _ _ _ Ra_3
  have Rn_4 := heap_of b4 _ _ _ Rn_3
  have Rx_4 := heap_of b4 _ _ _ Rx_3
  clear b4 B3 Ra_3 ca_3_0 ca_3_1 Rn_3 Rx_3 cx_3_0
  obtain ⟨ca_4_0, ca_4_1⟩ := cells2s Ra_4
  have cx_4_0 := (pt_cells Rx_4).1
  obtain ⟨cx_4_0, cx_4_1, cx_4_2, cx_4_3, cx_4_4, cx_4_5, cx_4_6, cx_4_7, cx_4_8, cx_4_9, cx_4_10, cx_4_11, cx_4_12, cx_4_13⟩ := pt_cells Rx_4
  go_wp2_with fail
  refine (KL.out _).mono ?_
  rintro r w5 ⟨rfl, b5⟩
  have B5 : Below w.heap.size w w5 := btr B4 b5
  have Ra_5 := heap_of b5 _ _ _ Ra_4
  have Rn_5 := heap_of b5 _ _ _ Rn_4
  have Rx_5 := heap_of b5 _ _ _ Rx_4
  clear b5 B4 Ra_4 ca_4_0 ca_4_1 Rn_4 Rx_4 cx_4_0 cx_4_1 cx_4_2 cx_4_3 cx_4_4 cx_4_5 cx_4_6 cx_4_7 cx_4_8 cx_4_9 cx_4_10 cx_4_11 cx_4_12 cx_4_13
  obtain ⟨ca_5_0, ca_5_1⟩ := cells2s Ra_5
  obtain ⟨cx_5_0, cx_5_1, cx_5_2, cx_5_3, cx_5_4, cx_5_5, cx_5_6, cx_5_7, cx_5_8, cx_5_9, cx_5_10, cx_5_11, cx_5_12, cx_5_13⟩ := pt_cells Rx_5
  have S6 := box B5.size
  have La_6 : Box (w.heap.size < w5.heap.size) := box (Array.getElem?_eq_some_iff.1 Ra_5).1
  have Ln_6 : Box (w.heap.size + 1 < w5.heap.size) := box (Array.getElem?_eq_some_iff.1 Rn_5).1
  have Lx_6 : Box (w2.heap.size < w5.heap.size) := box (Array.getElem?_eq_some_iff.1 Rx_5).1
  have Rr_6 := heap_alloc_last w5 (Obj.cells (cw 6 R) 42)
  have B6 := btr B5 (bal w5 (Obj.cells (cw 6 R) 42))
  have Ra_6 := heap_of (bal w5 (Obj.cells (cw 6 R) 42)) _ _ _ Ra_5
  have Rn_6 := heap_of (bal w5 (Obj.cells (cw 6 R) 42)) _ _ _ Rn_5
  have Rx_6 := heap_of (bal w5 (Obj.cells (cw 6 R) 42)) _ _ _ Rx_5
  clear B5 Ra_5 ca_5_0 ca_5_1 Rn_5 Rx_5 cx_5_0 cx_5_1 cx_5_2 cx_5_3 cx_5_4 cx_5_5 cx_5_6 cx_5_7 cx_5_8 cx_5_9 cx_5_10 cx_5_11 cx_5_12 cx_5_13
  obtain ⟨ca_6_0, ca_6_1⟩ := cells2s Ra_6
  obtain ⟨cx_6_0, cx_6_1, cx_6_2, cx_6_3, cx_6_4, cx_6_5, cx_6_6, cx_6_7, cx_6_8, cx_6_9, cx_6_10, cx_6_11, cx_6_12, cx_6_13⟩ := pt_cells Rx_6
  have cr_6_0 := row_cell Rr_6
  go_wp2_with fail
  refine (KS.out _ (fatB FF.out B6)).mono ?_
  rintro r w7 ⟨rfl, b7⟩
  have B7 : Below w.heap.size w w7 := btr B6 b7
  have Ra_7 := heap_of b7 _ _ _ Ra_6
  have Rn_7 := heap_of b7 _ _ _ Rn_6
  have Rx_7 := heap_of b7 _ _ _ Rx_6
  have Rr_7 := heap_of b7 _ _ _ Rr_6
  clear b7 B6 Ra_6 ca_6_0 ca_6_1 Rn_6 Rx_6 cx_6_0 cx_6_1 cx_6_2 cx_6_3 cx_6_4 cx_6_5 cx_6_6 cx_6_7 cx_6_8 cx_6_9 cx_6_10 cx_6_11 cx_6_12 cx_6_13 Rr_6 cr_6_0
  obtain ⟨ca_7_0, ca_7_1⟩ := cells2s Ra_7
  obtain ⟨cx_7_0, cx_7_1, cx_7_2, cx_7_3, cx_7_4, cx_7_5, cx_7_6, cx_7_7, cx_7_8, cx_7_9, cx_7_10, cx_7_11, cx_7_12, cx_7_13⟩ := pt_cells Rx_7
  have cr_7_0 := row_cell Rr_7
  go_wp2_with fail
  refine (KC.out _).mono ?_
  rintro r w8 ⟨rfl, b8⟩
  have B8 : Below w.heap.size w w8 := btr B7 b8
  have Ra_8 := heap_of b8 _ _ _ Ra_7
  have Rn_8 := heap_of b8 _ _ _ Rn_7
  have Rx_8 := heap_of b8 _ _ _ Rx_7
  have Rr_8 := heap_of b8 _ _ _ Rr_7
  clear b8 B7 Ra_7 ca_7_0 ca_7_1 Rn_7 Rx_7 cx_7_0 cx_7_1 cx_7_2 cx_7_3 cx_7_4 cx_7_5 cx_7_6 cx_7_7 cx_7_8 cx_7_9 cx_7_10 cx_7_11 cx_7_12 cx_7_13 Rr_7 cr_7_0
  obtain ⟨ca_8_0, ca_8_1⟩ := cells2s Ra_8
  obtain ⟨cx_8_0, cx_8_1, cx_8_2, cx_8_3, cx_8_4, cx_8_5, cx_8_6, cx_8_7, cx_8_8, cx_8_9, cx_8_10, cx_8_11, cx_8_12, cx_8_13⟩ := pt_cells Rx_8
  have cr_8_0 := row_cell Rr_8
  have cn_8_0 := row_cell Rn_8
  have hst9 := st_any w8 (w.heap.size + 1) N 0 Rn_8
  have B9 := bel_set (c := (cw 6 N)) B8 (show w.heap.size ≤ w.heap.size + 1 by first | exact Nat.le_refl _ | omega | (have := S3.out; have := La_3.out; have := Ln_3.out; have := S6.out; have := La_6.out; have := Ln_6.out; have := Lx_6.out; omega))
  have Rn_9 := setRow_row (c' := (cw 6 N)) Rn_8
  have Ra_9 : (w8.setRow (w.heap.size + 1) (cw 6 N)).heap[w.heap.size]? = some (Obj.cells #[.int .u64 (x1 : Nat), .int .u64 (y1 : Nat)] 27) := by rw [setRow_other (by first | omega | (have := S3.out; have := La_3.out; have := Ln_3.out; have := S6.out; have := La_6.out; have := Ln_6.out; have := Lx_6.out; omega))]; exact Ra_8
  have Rx_9 : (w8.setRow (w.heap.size + 1) (cw 6 N)).heap[w2.heap.size]? = some (Obj.cells (pt c1 m1 X1 r1) 75) := by rw [setRow_other (by first | omega | (have := S3.out; have := La_3.out; have := Ln_3.out; have := S6.out; have := La_6.out; have := Ln_6.out; have := Lx_6.out; omega))]; exact Rx_8
  have Rr_9 : (w8.setRow (w.heap.size + 1) (cw 6 N)).heap[w5.heap.size]? = some (Obj.cells (cw 6 R) 42) := by rw [setRow_other (by first | omega | (have := S3.out; have := La_3.out; have := Ln_3.out; have := S6.out; have := La_6.out; have := Ln_6.out; have := Lx_6.out; omega))]; exact Rr_8
  obtain ⟨w9, hw9⟩ : ∃ V, w8.setRow (w.heap.size + 1) (cw 6 N) = V := ⟨_, rfl⟩
  rw [hw9] at hst9 B9 Ra_9 Rn_9 Rx_9 Rr_9
  obtain ⟨ca_9_0, ca_9_1⟩ := cells2s Ra_9
  have cn_9_0 := row_cell Rn_9
  obtain ⟨cx_9_0, cx_9_1, cx_9_2, cx_9_3, cx_9_4, cx_9_5, cx_9_6, cx_9_7, cx_9_8, cx_9_9, cx_9_10, cx_9_11, cx_9_12, cx_9_13⟩ := pt_cells Rx_9
  have cr_9_0 := row_cell Rr_9
  clear Ra_9 ca_9_0 ca_9_1
  clear Rr_9 cr_9_0
  clear cx_9_0 cx_9_1 cx_9_2 cx_9_3 cx_9_4 cx_9_5 cx_9_6 cx_9_7 cx_9_8 cx_9_9 cx_9_10 cx_9_11 cx_9_12 cx_9_13
  go_wp2_with fail
  refine (KB.out _).mono ?_
  rintro r w10 ⟨rfl, b10⟩
  have B10 : Below w.heap.size w w10 := btr B9 b10
  have Rn_10 := heap_of b10 _ _ _ Rn_9
  have Rx_10 := heap_of b10 _ _ _ Rx_9
  clear b10 B9 Rn_9 cn_9_0 Rx_9
  have cn_10_0 := row_cell Rn_10
  go_wp2_with fail
  refine (KP.out _).mono ?_
  rintro r w11 ⟨rfl, b11⟩
  have B11 : Below w.heap.size w w11 := btr B10 b11
  have Rn_11 := heap_of b11 _ _ _ Rn_10
  have Rx_11 := heap_of b11 _ _ _ Rx_10
  clear b11 B10 Rn_10 cn_10_0 Rx_10
  have cn_11_0 := row_cell Rn_11
  go_wp2_with fail
  obtain ⟨F, hF1, hF2⟩ := below_fun w11
  have gn_w := fun u => st_same (F u) (w.heap.size + 1) _ (heap_of (hF1 u) _ _ _ Rn_11)
  have fn_0 := fun u => row_cell (heap_of (hF1 u) _ _ _ Rn_11)
  have fx_0 := fun u => (pt_cells (heap_of (hF1 u) _ _ _ Rx_11)).1
  have fx_1 := fun u => (pt_cells (heap_of (hF1 u) _ _ _ Rx_11)).2.1
  have fx_2 := fun u => (pt_cells (heap_of (hF1 u) _ _ _ Rx_11)).2.2.1
  have fx_3 := fun u => (pt_cells (heap_of (hF1 u) _ _ _ Rx_11)).2.2.2.1
  have fx_4 := fun u => (pt_cells (heap_of (hF1 u) _ _ _ Rx_11)).2.2.2.2.1
  have fx_5 := fun u => (pt_cells (heap_of (hF1 u) _ _ _ Rx_11)).2.2.2.2.2.1
  have fx_6 := fun u => (pt_cells (heap_of (hF1 u) _ _ _ Rx_11)).2.2.2.2.2.2.1
  have fx_7 := fun u => (pt_cells (heap_of (hF1 u) _ _ _ Rx_11)).2.2.2.2.2.2.2.1
  have fx_8 := fun u => (pt_cells (heap_of (hF1 u) _ _ _ Rx_11)).2.2.2.2.2.2.2.2.1
  have fx_9 := fun u => (pt_cells (heap_of (hF1 u) _ _ _ Rx_11)).2.2.2.2.2.2.2.2.2.1
  have fx_10 := fun u => (pt_cells (heap_of (hF1 u) _ _ _ Rx_11)).2.2.2.2.2.2.2.2.2.2.1
  have fx_11 := fun u => (pt_cells (heap_of (hF1 u) _ _ _ Rx_11)).2.2.2.2.2.2.2.2.2.2.2.1
  have fx_12 := fun u => (pt_cells (heap_of (hF1 u) _ _ _ Rx_11)).2.2.2.2.2.2.2.2.2.2.2.2.1
  have fx_13 := fun u => (pt_cells (heap_of (hF1 u) _ _ _ Rx_11)).2.2.2.2.2.2.2.2.2.2.2.2.2
  refine wp_region_below F hF2 (by kernel_rfl) (by kernel_rfl) ?_
  repeat first | go_big_quiet_step (first  | fail) | quiet_step (first  | fail)
  refine wpQuiet_nil ?_
  rintro _ ⟨uW, rfl⟩
  have B12 := btr B11 (hF1 uW)
  have Rn_12 := heap_of (hF1 uW) _ _ _ Rn_11
  have Rx_12 := heap_of (hF1 uW) _ _ _ Rx_11
  obtain ⟨w12, hw⟩ : ∃ V, F uW = V := ⟨_, rfl⟩
  rw [hw] at B12 Rn_12 Rx_12
  try rw [hw]
  clear hw hF1 hF2 B11 gn_w fn_0 fx_0 fx_1 fx_2 fx_3 fx_4 fx_5 fx_6 fx_7 fx_8 fx_9 fx_10 fx_11 fx_12 fx_13 Rn_11 cn_11_0 Rx_11
  clear F
  have cn_12_0 := row_cell Rn_12
  have dz := row_cell Rn_12
  go_wp2
  exact bodyPost_ret (v := .tuple #[.bool false, .agg (cw 6 N), .bool ex, .int .i64 0]) (by simp [results, Tryd.results11, go_sem, dz, hff]) rfl ⟨rfl, B12⟩
set_option maxRecDepth 100000 in
set_option maxHeartbeats 8000000 in
theorem pq_wh_uf (f m : Int) (x1 y1 : Nat) (c1 m1 r1 : Nat) (X1 : Int) (R K N : Nat) (X2 h : Int) (ex od l2 o : Bool) (hX : IntKind.i64.wrap (-X1) = X2) (hN : N < Q) (w : World) (KF : Box (∀ (T : TypeId) (g : Nat) (w : World), w.heap.size = g → FAt w → Calls Tryd.prog 32 #[.int .u8 f, .int .u8 m, .slice (some ⟨g, 0, none⟩) 1 1] (w.alloc (.cells #[.int .u64 (x1 : Nat), .int .u64 (y1 : Nat)] T)) fun r w' => r = .returned (.bool true) ∧ Below w.heap.size w w')) (KU : Box (∀ w, FAt w → Calls Tryd.prog 33 #[.int .u8 f, .agg #[.int .u64 (x1 : Nat), .int .u64 (y1 : Nat)]] w fun r w' => r = .returned (.tuple #[.agg (pt c1 m1 X1 r1), .int .i64 0]) ∧ Below w.heap.size w w')) (KI : Box (∀ w, Calls Tryd.prog 34 #[.int .u8 (c1 : Nat)] w fun r w' => r = .returned (.bool true) ∧ Below w.heap.size w w')) (KL : Box (∀ w, Calls Tryd.prog 35 #[.agg (cw 6 m1), .int .i64 X1] w fun r w' => r = .returned (.tuple #[.agg (cw 6 R), .bool false]) ∧ Below w.heap.size w w')) (KS : Box (∀ w, FAt w → Calls Tryd.prog 36 #[.int .u8 f, .agg #[.int .u64 (x1 : Nat), .int .u64 (y1 : Nat)]] w fun r w' => r = .returned (.bool false) ∧ Below w.heap.size w w')) (KC : Box (∀ w, Calls Tryd.prog 37 #[.agg (cw 6 R), .int .i64 X2] w fun r w' => r = .returned (.tuple #[.agg (cw 6 K), .int .i64 h, .bool ex]) ∧ Below w.heap.size w w')) (KB : Box (∀ w, Calls Tryd.prog 39 #[.agg (cw 6 K), .int .i64 0] w fun r w' => r = .returned (.bool od) ∧ Below w.heap.size w w')) (KP : Box (∀ w, Calls Tryd.prog 38 #[.int .u8 m, .bool false, .bool od, .int .i64 h, .bool ex] w fun r w' => r = .returned (.bool true) ∧ Below w.heap.size w w')) (K5 : Box (∀ w, Calls Tryd.prog 10 #[.int .u64 1] w fun r w' => r = .returned (.agg (cw 6 1)) ∧ Below w.heap.size w w')) (K6 : Box (∀ w, Calls Tryd.prog 40 #[.agg (cw 6 K), .agg (cw 6 1)] w fun r w' => r = .returned (.tuple #[.agg (cw 6 N), .bool l2]) ∧ Below w.heap.size w w')) (hT : FAt w) : Calls Tryd.prog 11 #[.int .u8 f, .int .u8 m, .agg #[.int .u64 (x1 : Nat), .int .u64 (y1 : Nat)]] w fun r w' => r = .returned (.tuple #[.bool false, .agg (cw 6 N), .bool ex, .int .i64 0]) ∧ Below w.heap.size w w' := by
  have FF := box hT
  clear hT
  have hat := cw_at 6
  have hz := cw6z
  have hff := cw6f
  have hs0 := st0
  have hcs : ∀ x, ((cw 6 x).size = 6) = True := fun x => eq_true (cw_size 6 x)
  have hq1 := ptf
  have hq3 := ptz
  have hq4 := st_p0
  have hq5 : ∀ (c s : Nat) (x : Int) (r : Nat), ((pt c s x r).size = 14) = True := fun _ _ _ _ => eq_true rfl
  have heq := eq6
  have hgq := eqg6
  have hQ0 := Q_pos
  obtain ⟨Ra_0, Rn_0, B0⟩ := opn2 w (Obj.cells #[.int .u64 (x1 : Nat), .int .u64 (y1 : Nat)] 27) (Obj.cells (cw 6 0) 42)
  go_enter Tryd.func11, Tryd.ntmps11
  obtain ⟨ca_0_0, ca_0_1⟩ := cells2s Ra_0
  go_wp2_with fail
  refine (KF.out _ _ ((w.alloc (Obj.cells #[.int .u64 (x1 : Nat), .int .u64 (y1 : Nat)] 27)).alloc (Obj.cells (cw 6 0) 42)) (by first | rfl | simp only [size_al]) (fatB FF.out B0)).mono ?_
  rintro r w1 ⟨rfl, b1⟩
  have B1 : Below w.heap.size w w1 := btr B0 b1
  have Ra_1 := heap_of b1 _ _ _ Ra_0
  have Rn_1 := heap_of b1 _ _ _ Rn_0
  clear b1 B0 Ra_0 ca_0_0 ca_0_1 Rn_0
  obtain ⟨ca_1_0, ca_1_1⟩ := cells2s Ra_1
  go_wp2_with fail
  refine (KU.out _ (fatB FF.out B1)).mono ?_
  rintro r w2 ⟨rfl, b2⟩
  have B2 : Below w.heap.size w w2 := btr B1 b2
  have Ra_2 := heap_of b2 _ _ _ Ra_1
  have Rn_2 := heap_of b2 _ _ _ Rn_1
  clear b2 B1 Ra_1 ca_1_0 ca_1_1 Rn_1
  obtain ⟨ca_2_0, ca_2_1⟩ := cells2s Ra_2
  have S3 := box B2.size
  have La_3 : Box (w.heap.size < w2.heap.size) := box (Array.getElem?_eq_some_iff.1 Ra_2).1
  have Ln_3 : Box (w.heap.size + 1 < w2.heap.size) := box (Array.getElem?_eq_some_iff.1 Rn_2).1
  have Rx_3 := heap_alloc_last w2 (Obj.cells (pt c1 m1 X1 r1) 75)
  have B3 := btr B2 (bal w2 (Obj.cells (pt c1 m1 X1 r1) 75))
  have Ra_3 := heap_of (bal w2 (Obj.cells (pt c1 m1 X1 r1) 75)) _ _ _ Ra_2
  have Rn_3 := heap_of (bal w2 (Obj.cells (pt c1 m1 X1 r1) 75)) _ _ _ Rn_2
  clear B2 Ra_2 ca_2_0 ca_2_1 Rn_2
  obtain ⟨ca_3_0, ca_3_1⟩ := cells2s Ra_3
  have cx_3_0 := (pt_cells Rx_3).1
  go_wp2_with fail
  refine (KI.out _).mono ?_
  rintro r w4 ⟨rfl, b4⟩
  have B4 : Below w.heap.size w w4 := btr B3 b4
  have Ra_4 := heap_of b4 _ _ _ Ra_3
  have Rn_4 := heap_of b4 _ _ _ Rn_3
  have Rx_4 := heap_of b4 _ _ _ Rx_3
  clear b4 B3 Ra_3 ca_3_0 ca_3_1 Rn_3 Rx_3 cx_3_0
  obtain ⟨ca_4_0, ca_4_1⟩ := cells2s Ra_4
  have cx_4_0 := (pt_cells Rx_4).1
  obtain ⟨cx_4_0, cx_4_1, cx_4_2, cx_4_3, cx_4_4, cx_4_5, cx_4_6, cx_4_7, cx_4_8, cx_4_9, cx_4_10, cx_4_11, cx_4_12, cx_4_13⟩ := pt_cells Rx_4
  go_wp2_with fail
  refine (KL.out _).mono ?_
  rintro r w5 ⟨rfl, b5⟩
  have B5 : Below w.heap.size w w5 := btr B4 b5
  have Ra_5 := heap_of b5 _ _ _ Ra_4
  have Rn_5 := heap_of b5 _ _ _ Rn_4
  have Rx_5 := heap_of b5 _ _ _ Rx_4
  clear b5 B4 Ra_4 ca_4_0 ca_4_1 Rn_4 Rx_4 cx_4_0 cx_4_1 cx_4_2 cx_4_3 cx_4_4 cx_4_5 cx_4_6 cx_4_7 cx_4_8 cx_4_9 cx_4_10 cx_4_11 cx_4_12 cx_4_13
  obtain ⟨ca_5_0, ca_5_1⟩ := cells2s Ra_5
  obtain ⟨cx_5_0, cx_5_1, cx_5_2, cx_5_3, cx_5_4, cx_5_5, cx_5_6, cx_5_7, cx_5_8, cx_5_9, cx_5_10, cx_5_11, cx_5_12, cx_5_13⟩ := pt_cells Rx_5
  have S6 := box B5.size
  have La_6 : Box (w.heap.size < w5.heap.size) := box (Array.getElem?_eq_some_iff.1 Ra_5).1
  have Ln_6 : Box (w.heap.size + 1 < w5.heap.size) := box (Array.getElem?_eq_some_iff.1 Rn_5).1
  have Lx_6 : Box (w2.heap.size < w5.heap.size) := box (Array.getElem?_eq_some_iff.1 Rx_5).1
  have Rr_6 := heap_alloc_last w5 (Obj.cells (cw 6 R) 42)
  have B6 := btr B5 (bal w5 (Obj.cells (cw 6 R) 42))
  have Ra_6 := heap_of (bal w5 (Obj.cells (cw 6 R) 42)) _ _ _ Ra_5
  have Rn_6 := heap_of (bal w5 (Obj.cells (cw 6 R) 42)) _ _ _ Rn_5
  have Rx_6 := heap_of (bal w5 (Obj.cells (cw 6 R) 42)) _ _ _ Rx_5
  clear B5 Ra_5 ca_5_0 ca_5_1 Rn_5 Rx_5 cx_5_0 cx_5_1 cx_5_2 cx_5_3 cx_5_4 cx_5_5 cx_5_6 cx_5_7 cx_5_8 cx_5_9 cx_5_10 cx_5_11 cx_5_12 cx_5_13
  obtain ⟨ca_6_0, ca_6_1⟩ := cells2s Ra_6
  obtain ⟨cx_6_0, cx_6_1, cx_6_2, cx_6_3, cx_6_4, cx_6_5, cx_6_6, cx_6_7, cx_6_8, cx_6_9, cx_6_10, cx_6_11, cx_6_12, cx_6_13⟩ := pt_cells Rx_6
  have cr_6_0 := row_cell Rr_6
  go_wp2_with fail
  refine (KS.out _ (fatB FF.out B6)).mono ?_
  rintro r w7 ⟨rfl, b7⟩
  have B7 : Below w.heap.size w w7 := btr B6 b7
  have Ra_7 := heap_of b7 _ _ _ Ra_6
  have Rn_7 := heap_of b7 _ _ _ Rn_6
  have Rx_7 := heap_of b7 _ _ _ Rx_6
  have Rr_7 := heap_of b7 _ _ _ Rr_6
  clear b7 B6 Ra_6 ca_6_0 ca_6_1 Rn_6 Rx_6 cx_6_0 cx_6_1 cx_6_2 cx_6_3 cx_6_4 cx_6_5 cx_6_6 cx_6_7 cx_6_8 cx_6_9 cx_6_10 cx_6_11 cx_6_12 cx_6_13 Rr_6 cr_6_0
  obtain ⟨ca_7_0, ca_7_1⟩ := cells2s Ra_7
  obtain ⟨cx_7_0, cx_7_1, cx_7_2, cx_7_3, cx_7_4, cx_7_5, cx_7_6, cx_7_7, cx_7_8, cx_7_9, cx_7_10, cx_7_11, cx_7_12, cx_7_13⟩ := pt_cells Rx_7
  have cr_7_0 := row_cell Rr_7
  go_wp2_with fail
  refine (KC.out _).mono ?_
  rintro r w8 ⟨rfl, b8⟩
  have B8 : Below w.heap.size w w8 := btr B7 b8
  have Ra_8 := heap_of b8 _ _ _ Ra_7
  have Rn_8 := heap_of b8 _ _ _ Rn_7
  have Rx_8 := heap_of b8 _ _ _ Rx_7
  have Rr_8 := heap_of b8 _ _ _ Rr_7
  clear b8 B7 Ra_7 ca_7_0 ca_7_1 Rn_7 Rx_7 cx_7_0 cx_7_1 cx_7_2 cx_7_3 cx_7_4 cx_7_5 cx_7_6 cx_7_7 cx_7_8 cx_7_9 cx_7_10 cx_7_11 cx_7_12 cx_7_13 Rr_7 cr_7_0
  obtain ⟨ca_8_0, ca_8_1⟩ := cells2s Ra_8
  obtain ⟨cx_8_0, cx_8_1, cx_8_2, cx_8_3, cx_8_4, cx_8_5, cx_8_6, cx_8_7, cx_8_8, cx_8_9, cx_8_10, cx_8_11, cx_8_12, cx_8_13⟩ := pt_cells Rx_8
  have cr_8_0 := row_cell Rr_8
  have cn_8_0 := row_cell Rn_8
  have hst9 := st_any w8 (w.heap.size + 1) K 0 Rn_8
  have B9 := bel_set (c := (cw 6 K)) B8 (show w.heap.size ≤ w.heap.size + 1 by first | exact Nat.le_refl _ | omega | (have := S3.out; have := La_3.out; have := Ln_3.out; have := S6.out; have := La_6.out; have := Ln_6.out; have := Lx_6.out; omega))
  have Rn_9 := setRow_row (c' := (cw 6 K)) Rn_8
  have Ra_9 : (w8.setRow (w.heap.size + 1) (cw 6 K)).heap[w.heap.size]? = some (Obj.cells #[.int .u64 (x1 : Nat), .int .u64 (y1 : Nat)] 27) := by rw [setRow_other (by first | omega | (have := S3.out; have := La_3.out; have := Ln_3.out; have := S6.out; have := La_6.out; have := Ln_6.out; have := Lx_6.out; omega))]; exact Ra_8
  have Rx_9 : (w8.setRow (w.heap.size + 1) (cw 6 K)).heap[w2.heap.size]? = some (Obj.cells (pt c1 m1 X1 r1) 75) := by rw [setRow_other (by first | omega | (have := S3.out; have := La_3.out; have := Ln_3.out; have := S6.out; have := La_6.out; have := Ln_6.out; have := Lx_6.out; omega))]; exact Rx_8
  have Rr_9 : (w8.setRow (w.heap.size + 1) (cw 6 K)).heap[w5.heap.size]? = some (Obj.cells (cw 6 R) 42) := by rw [setRow_other (by first | omega | (have := S3.out; have := La_3.out; have := Ln_3.out; have := S6.out; have := La_6.out; have := Ln_6.out; have := Lx_6.out; omega))]; exact Rr_8
  obtain ⟨w9, hw9⟩ : ∃ V, w8.setRow (w.heap.size + 1) (cw 6 K) = V := ⟨_, rfl⟩
  rw [hw9] at hst9 B9 Ra_9 Rn_9 Rx_9 Rr_9
  obtain ⟨ca_9_0, ca_9_1⟩ := cells2s Ra_9
  have cn_9_0 := row_cell Rn_9
  obtain ⟨cx_9_0, cx_9_1, cx_9_2, cx_9_3, cx_9_4, cx_9_5, cx_9_6, cx_9_7, cx_9_8, cx_9_9, cx_9_10, cx_9_11, cx_9_12, cx_9_13⟩ := pt_cells Rx_9
  have cr_9_0 := row_cell Rr_9
  clear Ra_9 ca_9_0 ca_9_1
  clear Rr_9 cr_9_0
  clear cx_9_0 cx_9_1 cx_9_2 cx_9_3 cx_9_4 cx_9_5 cx_9_6 cx_9_7 cx_9_8 cx_9_9 cx_9_10 cx_9_11 cx_9_12 cx_9_13
  go_wp2_with fail
  refine (KB.out _).mono ?_
  rintro r w10 ⟨rfl, b10⟩
  have B10 : Below w.heap.size w w10 := btr B9 b10
  have Rn_10 := heap_of b10 _ _ _ Rn_9
  have Rx_10 := heap_of b10 _ _ _ Rx_9
  clear b10 B9 Rn_9 cn_9_0 Rx_9
  have cn_10_0 := row_cell Rn_10
  go_wp2_with fail
  refine (KP.out _).mono ?_
  rintro r w11 ⟨rfl, b11⟩
  have B11 : Below w.heap.size w w11 := btr B10 b11
  have Rn_11 := heap_of b11 _ _ _ Rn_10
  have Rx_11 := heap_of b11 _ _ _ Rx_10
  clear b11 B10 Rn_10 cn_10_0 Rx_10
  have cn_11_0 := row_cell Rn_11
  have qn : (w11).drew.heap[w.heap.size + 1]? = some (Obj.cells (cw 6 K) 42) := Rn_11
  have qx : (w11).drew.heap[w2.heap.size]? = some (Obj.cells (pt c1 m1 X1 r1) 75) := Rx_11
  have qB := B11.drew
  have qc := row_cell qn
  go_wp2_with fail
  go_region_with (first | (go_at_call 10; refine (K5.out _).mono ?_; rintro r wq ⟨rfl, bq⟩; have qn := heap_of bq _ _ _ qn; have qx := heap_of bq _ _ _ qx; have qB := btr qB bq; have qc := row_cell qn; have hst := st_any wq (w.heap.size + 1) N K qn; clear bq) | (go_at_call 40; refine (K6.out _).mono ?_; rintro r wq ⟨rfl, bq⟩; have qn := heap_of bq _ _ _ qn; have qx := heap_of bq _ _ _ qx; have qB := btr qB bq; have qc := row_cell qn; have hst := st_any wq (w.heap.size + 1) N K qn; clear bq) | fail)
  all_goals
    have Rn_12 : (wq.setRow (w.heap.size + 1) (cw 6 N)).heap[w.heap.size + 1]? = some (Obj.cells (cw 6 N) 42) := setRow_row qn
    have B12 : Below w.heap.size w (wq.setRow (w.heap.size + 1) (cw 6 N)) := bel_set qB (show w.heap.size ≤ w.heap.size + 1 by first | exact Nat.le_refl _ | omega | (have := S3.out; have := La_3.out; have := Ln_3.out; have := S6.out; have := La_6.out; have := Ln_6.out; have := Lx_6.out; omega))
    have Rx_12 : (wq.setRow (w.heap.size + 1) (cw 6 N)).heap[w2.heap.size]? = some (Obj.cells (pt c1 m1 X1 r1) 75) := (setRow_other (by first | omega | (have := S3.out; have := La_3.out; have := Ln_3.out; have := S6.out; have := La_6.out; have := Ln_6.out; have := Lx_6.out; omega))).trans qx
    obtain ⟨w12, hw12⟩ : ∃ V, (wq.setRow (w.heap.size + 1) (cw 6 N)) = V := ⟨_, rfl⟩
    rw [hw12] at B12 Rn_12 Rx_12 ⊢
    clear hw12 qB qc hst qn qx B11 Rn_11 cn_11_0 Rx_11
    have cn_12_0 := row_cell Rn_12
    go_wp2_with fail
    obtain ⟨F, hF1, hF2⟩ := below_fun w12
    have gn_w := fun u => st_same (F u) (w.heap.size + 1) _ (heap_of (hF1 u) _ _ _ Rn_12)
    have fn_0 := fun u => row_cell (heap_of (hF1 u) _ _ _ Rn_12)
    have fx_0 := fun u => (pt_cells (heap_of (hF1 u) _ _ _ Rx_12)).1
    have fx_1 := fun u => (pt_cells (heap_of (hF1 u) _ _ _ Rx_12)).2.1
    have fx_2 := fun u => (pt_cells (heap_of (hF1 u) _ _ _ Rx_12)).2.2.1
    have fx_3 := fun u => (pt_cells (heap_of (hF1 u) _ _ _ Rx_12)).2.2.2.1
    have fx_4 := fun u => (pt_cells (heap_of (hF1 u) _ _ _ Rx_12)).2.2.2.2.1
    have fx_5 := fun u => (pt_cells (heap_of (hF1 u) _ _ _ Rx_12)).2.2.2.2.2.1
    have fx_6 := fun u => (pt_cells (heap_of (hF1 u) _ _ _ Rx_12)).2.2.2.2.2.2.1
    have fx_7 := fun u => (pt_cells (heap_of (hF1 u) _ _ _ Rx_12)).2.2.2.2.2.2.2.1
    have fx_8 := fun u => (pt_cells (heap_of (hF1 u) _ _ _ Rx_12)).2.2.2.2.2.2.2.2.1
    have fx_9 := fun u => (pt_cells (heap_of (hF1 u) _ _ _ Rx_12)).2.2.2.2.2.2.2.2.2.1
    have fx_10 := fun u => (pt_cells (heap_of (hF1 u) _ _ _ Rx_12)).2.2.2.2.2.2.2.2.2.2.1
    have fx_11 := fun u => (pt_cells (heap_of (hF1 u) _ _ _ Rx_12)).2.2.2.2.2.2.2.2.2.2.2.1
    have fx_12 := fun u => (pt_cells (heap_of (hF1 u) _ _ _ Rx_12)).2.2.2.2.2.2.2.2.2.2.2.2.1
    have fx_13 := fun u => (pt_cells (heap_of (hF1 u) _ _ _ Rx_12)).2.2.2.2.2.2.2.2.2.2.2.2.2
    refine wp_region_below F hF2 (by kernel_rfl) (by kernel_rfl) ?_
    repeat first | go_big_quiet_step (first  | fail) | quiet_step (first  | fail)
    refine wpQuiet_nil ?_
    rintro _ ⟨uW, rfl⟩
    have B13 := btr B12 (hF1 uW)
    have Rn_13 := heap_of (hF1 uW) _ _ _ Rn_12
    have Rx_13 := heap_of (hF1 uW) _ _ _ Rx_12
    obtain ⟨w13, hw⟩ : ∃ V, F uW = V := ⟨_, rfl⟩
    rw [hw] at B13 Rn_13 Rx_13
    try rw [hw]
    clear hw hF1 hF2 B12 gn_w fn_0 fx_0 fx_1 fx_2 fx_3 fx_4 fx_5 fx_6 fx_7 fx_8 fx_9 fx_10 fx_11 fx_12 fx_13 Rn_12 cn_12_0 Rx_12
    clear F
    have cn_13_0 := row_cell Rn_13
    have dz := row_cell Rn_13
    go_wp2
    exact bodyPost_ret (v := .tuple #[.bool false, .agg (cw 6 N), .bool ex, .int .i64 0]) (by simp [results, Tryd.results11, go_sem, dz, hff]) rfl ⟨rfl, B13⟩
set_option maxRecDepth 100000 in
set_option maxHeartbeats 8000000 in
theorem pq_wh_nt0 (f m : Int) (x1 y1 : Nat) (c1 m1 r1 : Nat) (X1 : Int) (R N : Nat) (X2 h : Int) (ex od l2 o : Bool) (hX : IntKind.i64.wrap (-X1) = X2) (hN : N < Q) (ho : (!decide (N = 0)) = o) (w : World) (KF : Box (∀ (T : TypeId) (g : Nat) (w : World), w.heap.size = g → FAt w → Calls Tryd.prog 32 #[.int .u8 f, .int .u8 m, .slice (some ⟨g, 0, none⟩) 1 1] (w.alloc (.cells #[.int .u64 (x1 : Nat), .int .u64 (y1 : Nat)] T)) fun r w' => r = .returned (.bool true) ∧ Below w.heap.size w w')) (KU : Box (∀ w, FAt w → Calls Tryd.prog 33 #[.int .u8 f, .agg #[.int .u64 (x1 : Nat), .int .u64 (y1 : Nat)]] w fun r w' => r = .returned (.tuple #[.agg (pt c1 m1 X1 r1), .int .i64 0]) ∧ Below w.heap.size w w')) (KI : Box (∀ w, Calls Tryd.prog 34 #[.int .u8 (c1 : Nat)] w fun r w' => r = .returned (.bool true) ∧ Below w.heap.size w w')) (KL : Box (∀ w, Calls Tryd.prog 35 #[.agg (cw 6 m1), .int .i64 X1] w fun r w' => r = .returned (.tuple #[.agg (cw 6 R), .bool false]) ∧ Below w.heap.size w w')) (KS : Box (∀ w, FAt w → Calls Tryd.prog 36 #[.int .u8 f, .agg #[.int .u64 (x1 : Nat), .int .u64 (y1 : Nat)]] w fun r w' => r = .returned (.bool true) ∧ Below w.heap.size w w')) (KC : Box (∀ w, Calls Tryd.prog 37 #[.agg (cw 6 R), .int .i64 X2] w fun r w' => r = .returned (.tuple #[.agg (cw 6 N), .int .i64 h, .bool ex]) ∧ Below w.heap.size w w')) (KB : Box (∀ w, Calls Tryd.prog 39 #[.agg (cw 6 N), .int .i64 0] w fun r w' => r = .returned (.bool od) ∧ Below w.heap.size w w')) (KP : Box (∀ w, Calls Tryd.prog 38 #[.int .u8 m, .bool true, .bool od, .int .i64 h, .bool ex] w fun r w' => r = .returned (.bool false) ∧ Below w.heap.size w w')) (hT : FAt w) : Calls Tryd.prog 11 #[.int .u8 f, .int .u8 m, .agg #[.int .u64 (x1 : Nat), .int .u64 (y1 : Nat)]] w fun r w' => r = .returned (.tuple #[.bool o, .agg (cw 6 N), .bool ex, .int .i64 0]) ∧ Below w.heap.size w w' := by
  have FF := box hT
  clear hT
  have hat := cw_at 6
  have hz := cw6z
  have hff := cw6f
  have hs0 := st0
  have hcs : ∀ x, ((cw 6 x).size = 6) = True := fun x => eq_true (cw_size 6 x)
  have hq1 := ptf
  have hq3 := ptz
  have hq4 := st_p0
  have hq5 : ∀ (c s : Nat) (x : Int) (r : Nat), ((pt c s x r).size = 14) = True := fun _ _ _ _ => eq_true rfl
  have heq := eq6
  have hgq := eqg6
  have hQ0 := Q_pos
  obtain ⟨Ra_0, Rn_0, B0⟩ := opn2 w (Obj.cells #[.int .u64 (x1 : Nat), .int .u64 (y1 : Nat)] 27) (Obj.cells (cw 6 0) 42)
  go_enter Tryd.func11, Tryd.ntmps11
  obtain ⟨ca_0_0, ca_0_1⟩ := cells2s Ra_0
  go_wp2_with fail
  refine (KF.out _ _ ((w.alloc (Obj.cells #[.int .u64 (x1 : Nat), .int .u64 (y1 : Nat)] 27)).alloc (Obj.cells (cw 6 0) 42)) (by first | rfl | simp only [size_al]) (fatB FF.out B0)).mono ?_
  rintro r w1 ⟨rfl, b1⟩
  have B1 : Below w.heap.size w w1 := btr B0 b1
  have Ra_1 := heap_of b1 _ _ _ Ra_0
  have Rn_1 := heap_of b1 _ _ _ Rn_0
  clear b1 B0 Ra_0 ca_0_0 ca_0_1 Rn_0
  obtain ⟨ca_1_0, ca_1_1⟩ := cells2s Ra_1
  go_wp2_with fail
  refine (KU.out _ (fatB FF.out B1)).mono ?_
  rintro r w2 ⟨rfl, b2⟩
  have B2 : Below w.heap.size w w2 := btr B1 b2
  have Ra_2 := heap_of b2 _ _ _ Ra_1
  have Rn_2 := heap_of b2 _ _ _ Rn_1
  clear b2 B1 Ra_1 ca_1_0 ca_1_1 Rn_1
  obtain ⟨ca_2_0, ca_2_1⟩ := cells2s Ra_2
  have S3 := box B2.size
  have La_3 : Box (w.heap.size < w2.heap.size) := box (Array.getElem?_eq_some_iff.1 Ra_2).1
  have Ln_3 : Box (w.heap.size + 1 < w2.heap.size) := box (Array.getElem?_eq_some_iff.1 Rn_2).1
  have Rx_3 := heap_alloc_last w2 (Obj.cells (pt c1 m1 X1 r1) 75)
  have B3 := btr B2 (bal w2 (Obj.cells (pt c1 m1 X1 r1) 75))
  have Ra_3 := heap_of (bal w2 (Obj.cells (pt c1 m1 X1 r1) 75)) _ _ _ Ra_2
  have Rn_3 := heap_of (bal w2 (Obj.cells (pt c1 m1 X1 r1) 75)) _ _ _ Rn_2
  clear B2 Ra_2 ca_2_0 ca_2_1 Rn_2
  obtain ⟨ca_3_0, ca_3_1⟩ := cells2s Ra_3
  have cx_3_0 := (pt_cells Rx_3).1
  go_wp2_with fail
  refine (KI.out _).mono ?_
  rintro r w4 ⟨rfl, b4⟩
  have B4 : Below w.heap.size w w4 := btr B3 b4
  have Ra_4 := heap_of b4 _ _ _ Ra_3
  have Rn_4 := heap_of b4 _ _ _ Rn_3
  have Rx_4 := heap_of b4 _ _ _ Rx_3
  clear b4 B3 Ra_3 ca_3_0 ca_3_1 Rn_3 Rx_3 cx_3_0
  obtain ⟨ca_4_0, ca_4_1⟩ := cells2s Ra_4
  have cx_4_0 := (pt_cells Rx_4).1
  obtain ⟨cx_4_0, cx_4_1, cx_4_2, cx_4_3, cx_4_4, cx_4_5, cx_4_6, cx_4_7, cx_4_8, cx_4_9, cx_4_10, cx_4_11, cx_4_12, cx_4_13⟩ := pt_cells Rx_4
  go_wp2_with fail
  refine (KL.out _).mono ?_
  rintro r w5 ⟨rfl, b5⟩
  have B5 : Below w.heap.size w w5 := btr B4 b5
  have Ra_5 := heap_of b5 _ _ _ Ra_4
  have Rn_5 := heap_of b5 _ _ _ Rn_4
  have Rx_5 := heap_of b5 _ _ _ Rx_4
  clear b5 B4 Ra_4 ca_4_0 ca_4_1 Rn_4 Rx_4 cx_4_0 cx_4_1 cx_4_2 cx_4_3 cx_4_4 cx_4_5 cx_4_6 cx_4_7 cx_4_8 cx_4_9 cx_4_10 cx_4_11 cx_4_12 cx_4_13
  obtain ⟨ca_5_0, ca_5_1⟩ := cells2s Ra_5
  obtain ⟨cx_5_0, cx_5_1, cx_5_2, cx_5_3, cx_5_4, cx_5_5, cx_5_6, cx_5_7, cx_5_8, cx_5_9, cx_5_10, cx_5_11, cx_5_12, cx_5_13⟩ := pt_cells Rx_5
  have S6 := box B5.size
  have La_6 : Box (w.heap.size < w5.heap.size) := box (Array.getElem?_eq_some_iff.1 Ra_5).1
  have Ln_6 : Box (w.heap.size + 1 < w5.heap.size) := box (Array.getElem?_eq_some_iff.1 Rn_5).1
  have Lx_6 : Box (w2.heap.size < w5.heap.size) := box (Array.getElem?_eq_some_iff.1 Rx_5).1
  have Rr_6 := heap_alloc_last w5 (Obj.cells (cw 6 R) 42)
  have B6 := btr B5 (bal w5 (Obj.cells (cw 6 R) 42))
  have Ra_6 := heap_of (bal w5 (Obj.cells (cw 6 R) 42)) _ _ _ Ra_5
  have Rn_6 := heap_of (bal w5 (Obj.cells (cw 6 R) 42)) _ _ _ Rn_5
  have Rx_6 := heap_of (bal w5 (Obj.cells (cw 6 R) 42)) _ _ _ Rx_5
  clear B5 Ra_5 ca_5_0 ca_5_1 Rn_5 Rx_5 cx_5_0 cx_5_1 cx_5_2 cx_5_3 cx_5_4 cx_5_5 cx_5_6 cx_5_7 cx_5_8 cx_5_9 cx_5_10 cx_5_11 cx_5_12 cx_5_13
  obtain ⟨ca_6_0, ca_6_1⟩ := cells2s Ra_6
  obtain ⟨cx_6_0, cx_6_1, cx_6_2, cx_6_3, cx_6_4, cx_6_5, cx_6_6, cx_6_7, cx_6_8, cx_6_9, cx_6_10, cx_6_11, cx_6_12, cx_6_13⟩ := pt_cells Rx_6
  have cr_6_0 := row_cell Rr_6
  go_wp2_with fail
  refine (KS.out _ (fatB FF.out B6)).mono ?_
  rintro r w7 ⟨rfl, b7⟩
  have B7 : Below w.heap.size w w7 := btr B6 b7
  have Ra_7 := heap_of b7 _ _ _ Ra_6
  have Rn_7 := heap_of b7 _ _ _ Rn_6
  have Rx_7 := heap_of b7 _ _ _ Rx_6
  have Rr_7 := heap_of b7 _ _ _ Rr_6
  clear b7 B6 Ra_6 ca_6_0 ca_6_1 Rn_6 Rx_6 cx_6_0 cx_6_1 cx_6_2 cx_6_3 cx_6_4 cx_6_5 cx_6_6 cx_6_7 cx_6_8 cx_6_9 cx_6_10 cx_6_11 cx_6_12 cx_6_13 Rr_6 cr_6_0
  obtain ⟨ca_7_0, ca_7_1⟩ := cells2s Ra_7
  obtain ⟨cx_7_0, cx_7_1, cx_7_2, cx_7_3, cx_7_4, cx_7_5, cx_7_6, cx_7_7, cx_7_8, cx_7_9, cx_7_10, cx_7_11, cx_7_12, cx_7_13⟩ := pt_cells Rx_7
  have cr_7_0 := row_cell Rr_7
  go_wp2_with fail
  refine (KC.out _).mono ?_
  rintro r w8 ⟨rfl, b8⟩
  have B8 : Below w.heap.size w w8 := btr B7 b8
  have Ra_8 := heap_of b8 _ _ _ Ra_7
  have Rn_8 := heap_of b8 _ _ _ Rn_7
  have Rx_8 := heap_of b8 _ _ _ Rx_7
  have Rr_8 := heap_of b8 _ _ _ Rr_7
  clear b8 B7 Ra_7 ca_7_0 ca_7_1 Rn_7 Rx_7 cx_7_0 cx_7_1 cx_7_2 cx_7_3 cx_7_4 cx_7_5 cx_7_6 cx_7_7 cx_7_8 cx_7_9 cx_7_10 cx_7_11 cx_7_12 cx_7_13 Rr_7 cr_7_0
  obtain ⟨ca_8_0, ca_8_1⟩ := cells2s Ra_8
  obtain ⟨cx_8_0, cx_8_1, cx_8_2, cx_8_3, cx_8_4, cx_8_5, cx_8_6, cx_8_7, cx_8_8, cx_8_9, cx_8_10, cx_8_11, cx_8_12, cx_8_13⟩ := pt_cells Rx_8
  have cr_8_0 := row_cell Rr_8
  have cn_8_0 := row_cell Rn_8
  have hst9 := st_any w8 (w.heap.size + 1) N 0 Rn_8
  have B9 := bel_set (c := (cw 6 N)) B8 (show w.heap.size ≤ w.heap.size + 1 by first | exact Nat.le_refl _ | omega | (have := S3.out; have := La_3.out; have := Ln_3.out; have := S6.out; have := La_6.out; have := Ln_6.out; have := Lx_6.out; omega))
  have Rn_9 := setRow_row (c' := (cw 6 N)) Rn_8
  have Ra_9 : (w8.setRow (w.heap.size + 1) (cw 6 N)).heap[w.heap.size]? = some (Obj.cells #[.int .u64 (x1 : Nat), .int .u64 (y1 : Nat)] 27) := by rw [setRow_other (by first | omega | (have := S3.out; have := La_3.out; have := Ln_3.out; have := S6.out; have := La_6.out; have := Ln_6.out; have := Lx_6.out; omega))]; exact Ra_8
  have Rx_9 : (w8.setRow (w.heap.size + 1) (cw 6 N)).heap[w2.heap.size]? = some (Obj.cells (pt c1 m1 X1 r1) 75) := by rw [setRow_other (by first | omega | (have := S3.out; have := La_3.out; have := Ln_3.out; have := S6.out; have := La_6.out; have := Ln_6.out; have := Lx_6.out; omega))]; exact Rx_8
  have Rr_9 : (w8.setRow (w.heap.size + 1) (cw 6 N)).heap[w5.heap.size]? = some (Obj.cells (cw 6 R) 42) := by rw [setRow_other (by first | omega | (have := S3.out; have := La_3.out; have := Ln_3.out; have := S6.out; have := La_6.out; have := Ln_6.out; have := Lx_6.out; omega))]; exact Rr_8
  obtain ⟨w9, hw9⟩ : ∃ V, w8.setRow (w.heap.size + 1) (cw 6 N) = V := ⟨_, rfl⟩
  rw [hw9] at hst9 B9 Ra_9 Rn_9 Rx_9 Rr_9
  obtain ⟨ca_9_0, ca_9_1⟩ := cells2s Ra_9
  have cn_9_0 := row_cell Rn_9
  obtain ⟨cx_9_0, cx_9_1, cx_9_2, cx_9_3, cx_9_4, cx_9_5, cx_9_6, cx_9_7, cx_9_8, cx_9_9, cx_9_10, cx_9_11, cx_9_12, cx_9_13⟩ := pt_cells Rx_9
  have cr_9_0 := row_cell Rr_9
  clear Ra_9 ca_9_0 ca_9_1
  clear Rr_9 cr_9_0
  clear cx_9_0 cx_9_1 cx_9_2 cx_9_3 cx_9_4 cx_9_5 cx_9_6 cx_9_7 cx_9_8 cx_9_9 cx_9_10 cx_9_11 cx_9_12 cx_9_13
  go_wp2_with fail
  refine (KB.out _).mono ?_
  rintro r w10 ⟨rfl, b10⟩
  have B10 : Below w.heap.size w w10 := btr B9 b10
  have Rn_10 := heap_of b10 _ _ _ Rn_9
  have Rx_10 := heap_of b10 _ _ _ Rx_9
  clear b10 B9 Rn_9 cn_9_0 Rx_9
  have cn_10_0 := row_cell Rn_10
  go_wp2_with fail
  refine (KP.out _).mono ?_
  rintro r w11 ⟨rfl, b11⟩
  have B11 : Below w.heap.size w w11 := btr B10 b11
  have Rn_11 := heap_of b11 _ _ _ Rn_10
  have Rx_11 := heap_of b11 _ _ _ Rx_10
  clear b11 B10 Rn_10 cn_10_0 Rx_10
  have cn_11_0 := row_cell Rn_11
  go_wp2_with fail
  obtain ⟨F, hF1, hF2⟩ := below_fun w11
  have gn_w := fun u => st_same (F u) (w.heap.size + 1) _ (heap_of (hF1 u) _ _ _ Rn_11)
  have fn_0 := fun u => row_cell (heap_of (hF1 u) _ _ _ Rn_11)
  have fx_0 := fun u => (pt_cells (heap_of (hF1 u) _ _ _ Rx_11)).1
  have fx_1 := fun u => (pt_cells (heap_of (hF1 u) _ _ _ Rx_11)).2.1
  have fx_2 := fun u => (pt_cells (heap_of (hF1 u) _ _ _ Rx_11)).2.2.1
  have fx_3 := fun u => (pt_cells (heap_of (hF1 u) _ _ _ Rx_11)).2.2.2.1
  have fx_4 := fun u => (pt_cells (heap_of (hF1 u) _ _ _ Rx_11)).2.2.2.2.1
  have fx_5 := fun u => (pt_cells (heap_of (hF1 u) _ _ _ Rx_11)).2.2.2.2.2.1
  have fx_6 := fun u => (pt_cells (heap_of (hF1 u) _ _ _ Rx_11)).2.2.2.2.2.2.1
  have fx_7 := fun u => (pt_cells (heap_of (hF1 u) _ _ _ Rx_11)).2.2.2.2.2.2.2.1
  have fx_8 := fun u => (pt_cells (heap_of (hF1 u) _ _ _ Rx_11)).2.2.2.2.2.2.2.2.1
  have fx_9 := fun u => (pt_cells (heap_of (hF1 u) _ _ _ Rx_11)).2.2.2.2.2.2.2.2.2.1
  have fx_10 := fun u => (pt_cells (heap_of (hF1 u) _ _ _ Rx_11)).2.2.2.2.2.2.2.2.2.2.1
  have fx_11 := fun u => (pt_cells (heap_of (hF1 u) _ _ _ Rx_11)).2.2.2.2.2.2.2.2.2.2.2.1
  have fx_12 := fun u => (pt_cells (heap_of (hF1 u) _ _ _ Rx_11)).2.2.2.2.2.2.2.2.2.2.2.2.1
  have fx_13 := fun u => (pt_cells (heap_of (hF1 u) _ _ _ Rx_11)).2.2.2.2.2.2.2.2.2.2.2.2.2
  refine wp_region_below F hF2 (by kernel_rfl) (by kernel_rfl) ?_
  repeat first | go_big_quiet_step (first  | fail) | quiet_step (first  | fail)
  refine wpQuiet_nil ?_
  rintro _ ⟨uW, rfl⟩
  have B12 := btr B11 (hF1 uW)
  have Rn_12 := heap_of (hF1 uW) _ _ _ Rn_11
  have Rx_12 := heap_of (hF1 uW) _ _ _ Rx_11
  obtain ⟨w12, hw⟩ : ∃ V, F uW = V := ⟨_, rfl⟩
  rw [hw] at B12 Rn_12 Rx_12
  try rw [hw]
  clear hw hF1 hF2 B11 gn_w fn_0 fx_0 fx_1 fx_2 fx_3 fx_4 fx_5 fx_6 fx_7 fx_8 fx_9 fx_10 fx_11 fx_12 fx_13 Rn_11 cn_11_0 Rx_11
  clear F
  have cn_12_0 := row_cell Rn_12
  have dz := row_cell Rn_12
  go_wp2
  exact bodyPost_ret (v := .tuple #[.bool o, .agg (cw 6 N), .bool ex, .int .i64 0]) (by simp [results, Tryd.results11, go_sem, dz, hff]) rfl ⟨rfl, B12⟩
set_option maxRecDepth 100000 in
set_option maxHeartbeats 8000000 in
theorem pq_wh_ut (f m : Int) (x1 y1 : Nat) (c1 m1 r1 : Nat) (X1 : Int) (R K N : Nat) (X2 h : Int) (ex od l2 o : Bool) (hX : IntKind.i64.wrap (-X1) = X2) (hN : N < Q) (ho : (!decide (N = 0)) = o) (w : World) (KF : Box (∀ (T : TypeId) (g : Nat) (w : World), w.heap.size = g → FAt w → Calls Tryd.prog 32 #[.int .u8 f, .int .u8 m, .slice (some ⟨g, 0, none⟩) 1 1] (w.alloc (.cells #[.int .u64 (x1 : Nat), .int .u64 (y1 : Nat)] T)) fun r w' => r = .returned (.bool true) ∧ Below w.heap.size w w')) (KU : Box (∀ w, FAt w → Calls Tryd.prog 33 #[.int .u8 f, .agg #[.int .u64 (x1 : Nat), .int .u64 (y1 : Nat)]] w fun r w' => r = .returned (.tuple #[.agg (pt c1 m1 X1 r1), .int .i64 0]) ∧ Below w.heap.size w w')) (KI : Box (∀ w, Calls Tryd.prog 34 #[.int .u8 (c1 : Nat)] w fun r w' => r = .returned (.bool true) ∧ Below w.heap.size w w')) (KL : Box (∀ w, Calls Tryd.prog 35 #[.agg (cw 6 m1), .int .i64 X1] w fun r w' => r = .returned (.tuple #[.agg (cw 6 R), .bool false]) ∧ Below w.heap.size w w')) (KS : Box (∀ w, FAt w → Calls Tryd.prog 36 #[.int .u8 f, .agg #[.int .u64 (x1 : Nat), .int .u64 (y1 : Nat)]] w fun r w' => r = .returned (.bool true) ∧ Below w.heap.size w w')) (KC : Box (∀ w, Calls Tryd.prog 37 #[.agg (cw 6 R), .int .i64 X2] w fun r w' => r = .returned (.tuple #[.agg (cw 6 K), .int .i64 h, .bool ex]) ∧ Below w.heap.size w w')) (KB : Box (∀ w, Calls Tryd.prog 39 #[.agg (cw 6 K), .int .i64 0] w fun r w' => r = .returned (.bool od) ∧ Below w.heap.size w w')) (KP : Box (∀ w, Calls Tryd.prog 38 #[.int .u8 m, .bool true, .bool od, .int .i64 h, .bool ex] w fun r w' => r = .returned (.bool true) ∧ Below w.heap.size w w')) (K5 : Box (∀ w, Calls Tryd.prog 10 #[.int .u64 1] w fun r w' => r = .returned (.agg (cw 6 1)) ∧ Below w.heap.size w w')) (K6 : Box (∀ w, Calls Tryd.prog 40 #[.agg (cw 6 K), .agg (cw 6 1)] w fun r w' => r = .returned (.tuple #[.agg (cw 6 N), .bool l2]) ∧ Below w.heap.size w w')) (hT : FAt w) : Calls Tryd.prog 11 #[.int .u8 f, .int .u8 m, .agg #[.int .u64 (x1 : Nat), .int .u64 (y1 : Nat)]] w fun r w' => r = .returned (.tuple #[.bool o, .agg (cw 6 N), .bool ex, .int .i64 0]) ∧ Below w.heap.size w w' := by
  have FF := box hT
  clear hT
  have hat := cw_at 6
  have hz := cw6z
  have hff := cw6f
  have hs0 := st0
  have hcs : ∀ x, ((cw 6 x).size = 6) = True := fun x => eq_true (cw_size 6 x)
  have hq1 := ptf
  have hq3 := ptz
  have hq4 := st_p0
  have hq5 : ∀ (c s : Nat) (x : Int) (r : Nat), ((pt c s x r).size = 14) = True := fun _ _ _ _ => eq_true rfl
  have heq := eq6
  have hgq := eqg6
  have hQ0 := Q_pos
  obtain ⟨Ra_0, Rn_0, B0⟩ := opn2 w (Obj.cells #[.int .u64 (x1 : Nat), .int .u64 (y1 : Nat)] 27) (Obj.cells (cw 6 0) 42)
  go_enter Tryd.func11, Tryd.ntmps11
  obtain ⟨ca_0_0, ca_0_1⟩ := cells2s Ra_0
  go_wp2_with fail
  refine (KF.out _ _ ((w.alloc (Obj.cells #[.int .u64 (x1 : Nat), .int .u64 (y1 : Nat)] 27)).alloc (Obj.cells (cw 6 0) 42)) (by first | rfl | simp only [size_al]) (fatB FF.out B0)).mono ?_
  rintro r w1 ⟨rfl, b1⟩
  have B1 : Below w.heap.size w w1 := btr B0 b1
  have Ra_1 := heap_of b1 _ _ _ Ra_0
  have Rn_1 := heap_of b1 _ _ _ Rn_0
  clear b1 B0 Ra_0 ca_0_0 ca_0_1 Rn_0
  obtain ⟨ca_1_0, ca_1_1⟩ := cells2s Ra_1
  go_wp2_with fail
  refine (KU.out _ (fatB FF.out B1)).mono ?_
  rintro r w2 ⟨rfl, b2⟩
  have B2 : Below w.heap.size w w2 := btr B1 b2
  have Ra_2 := heap_of b2 _ _ _ Ra_1
  have Rn_2 := heap_of b2 _ _ _ Rn_1
  clear b2 B1 Ra_1 ca_1_0 ca_1_1 Rn_1
  obtain ⟨ca_2_0, ca_2_1⟩ := cells2s Ra_2
  have S3 := box B2.size
  have La_3 : Box (w.heap.size < w2.heap.size) := box (Array.getElem?_eq_some_iff.1 Ra_2).1
  have Ln_3 : Box (w.heap.size + 1 < w2.heap.size) := box (Array.getElem?_eq_some_iff.1 Rn_2).1
  have Rx_3 := heap_alloc_last w2 (Obj.cells (pt c1 m1 X1 r1) 75)
  have B3 := btr B2 (bal w2 (Obj.cells (pt c1 m1 X1 r1) 75))
  have Ra_3 := heap_of (bal w2 (Obj.cells (pt c1 m1 X1 r1) 75)) _ _ _ Ra_2
  have Rn_3 := heap_of (bal w2 (Obj.cells (pt c1 m1 X1 r1) 75)) _ _ _ Rn_2
  clear B2 Ra_2 ca_2_0 ca_2_1 Rn_2
  obtain ⟨ca_3_0, ca_3_1⟩ := cells2s Ra_3
  have cx_3_0 := (pt_cells Rx_3).1
  go_wp2_with fail
  refine (KI.out _).mono ?_
  rintro r w4 ⟨rfl, b4⟩
  have B4 : Below w.heap.size w w4 := btr B3 b4
  have Ra_4 := heap_of b4 _ _ _ Ra_3
  have Rn_4 := heap_of b4 _ _ _ Rn_3
  have Rx_4 := heap_of b4 _ _ _ Rx_3
  clear b4 B3 Ra_3 ca_3_0 ca_3_1 Rn_3 Rx_3 cx_3_0
  obtain ⟨ca_4_0, ca_4_1⟩ := cells2s Ra_4
  have cx_4_0 := (pt_cells Rx_4).1
  obtain ⟨cx_4_0, cx_4_1, cx_4_2, cx_4_3, cx_4_4, cx_4_5, cx_4_6, cx_4_7, cx_4_8, cx_4_9, cx_4_10, cx_4_11, cx_4_12, cx_4_13⟩ := pt_cells Rx_4
  go_wp2_with fail
  refine (KL.out _).mono ?_
  rintro r w5 ⟨rfl, b5⟩
  have B5 : Below w.heap.size w w5 := btr B4 b5
  have Ra_5 := heap_of b5 _ _ _ Ra_4
  have Rn_5 := heap_of b5 _ _ _ Rn_4
  have Rx_5 := heap_of b5 _ _ _ Rx_4
  clear b5 B4 Ra_4 ca_4_0 ca_4_1 Rn_4 Rx_4 cx_4_0 cx_4_1 cx_4_2 cx_4_3 cx_4_4 cx_4_5 cx_4_6 cx_4_7 cx_4_8 cx_4_9 cx_4_10 cx_4_11 cx_4_12 cx_4_13
  obtain ⟨ca_5_0, ca_5_1⟩ := cells2s Ra_5
  obtain ⟨cx_5_0, cx_5_1, cx_5_2, cx_5_3, cx_5_4, cx_5_5, cx_5_6, cx_5_7, cx_5_8, cx_5_9, cx_5_10, cx_5_11, cx_5_12, cx_5_13⟩ := pt_cells Rx_5
  have S6 := box B5.size
  have La_6 : Box (w.heap.size < w5.heap.size) := box (Array.getElem?_eq_some_iff.1 Ra_5).1
  have Ln_6 : Box (w.heap.size + 1 < w5.heap.size) := box (Array.getElem?_eq_some_iff.1 Rn_5).1
  have Lx_6 : Box (w2.heap.size < w5.heap.size) := box (Array.getElem?_eq_some_iff.1 Rx_5).1
  have Rr_6 := heap_alloc_last w5 (Obj.cells (cw 6 R) 42)
  have B6 := btr B5 (bal w5 (Obj.cells (cw 6 R) 42))
  have Ra_6 := heap_of (bal w5 (Obj.cells (cw 6 R) 42)) _ _ _ Ra_5
  have Rn_6 := heap_of (bal w5 (Obj.cells (cw 6 R) 42)) _ _ _ Rn_5
  have Rx_6 := heap_of (bal w5 (Obj.cells (cw 6 R) 42)) _ _ _ Rx_5
  clear B5 Ra_5 ca_5_0 ca_5_1 Rn_5 Rx_5 cx_5_0 cx_5_1 cx_5_2 cx_5_3 cx_5_4 cx_5_5 cx_5_6 cx_5_7 cx_5_8 cx_5_9 cx_5_10 cx_5_11 cx_5_12 cx_5_13
  obtain ⟨ca_6_0, ca_6_1⟩ := cells2s Ra_6
  obtain ⟨cx_6_0, cx_6_1, cx_6_2, cx_6_3, cx_6_4, cx_6_5, cx_6_6, cx_6_7, cx_6_8, cx_6_9, cx_6_10, cx_6_11, cx_6_12, cx_6_13⟩ := pt_cells Rx_6
  have cr_6_0 := row_cell Rr_6
  go_wp2_with fail
  refine (KS.out _ (fatB FF.out B6)).mono ?_
  rintro r w7 ⟨rfl, b7⟩
  have B7 : Below w.heap.size w w7 := btr B6 b7
  have Ra_7 := heap_of b7 _ _ _ Ra_6
  have Rn_7 := heap_of b7 _ _ _ Rn_6
  have Rx_7 := heap_of b7 _ _ _ Rx_6
  have Rr_7 := heap_of b7 _ _ _ Rr_6
  clear b7 B6 Ra_6 ca_6_0 ca_6_1 Rn_6 Rx_6 cx_6_0 cx_6_1 cx_6_2 cx_6_3 cx_6_4 cx_6_5 cx_6_6 cx_6_7 cx_6_8 cx_6_9 cx_6_10 cx_6_11 cx_6_12 cx_6_13 Rr_6 cr_6_0
  obtain ⟨ca_7_0, ca_7_1⟩ := cells2s Ra_7
  obtain ⟨cx_7_0, cx_7_1, cx_7_2, cx_7_3, cx_7_4, cx_7_5, cx_7_6, cx_7_7, cx_7_8, cx_7_9, cx_7_10, cx_7_11, cx_7_12, cx_7_13⟩ := pt_cells Rx_7
  have cr_7_0 := row_cell Rr_7
  go_wp2_with fail
  refine (KC.out _).mono ?_
  rintro r w8 ⟨rfl, b8⟩
  have B8 : Below w.heap.size w w8 := btr B7 b8
  have Ra_8 := heap_of b8 _ _ _ Ra_7
  have Rn_8 := heap_of b8 _ _ _ Rn_7
  have Rx_8 := heap_of b8 _ _ _ Rx_7
  have Rr_8 := heap_of b8 _ _ _ Rr_7
  clear b8 B7 Ra_7 ca_7_0 ca_7_1 Rn_7 Rx_7 cx_7_0 cx_7_1 cx_7_2 cx_7_3 cx_7_4 cx_7_5 cx_7_6 cx_7_7 cx_7_8 cx_7_9 cx_7_10 cx_7_11 cx_7_12 cx_7_13 Rr_7 cr_7_0
  obtain ⟨ca_8_0, ca_8_1⟩ := cells2s Ra_8
  obtain ⟨cx_8_0, cx_8_1, cx_8_2, cx_8_3, cx_8_4, cx_8_5, cx_8_6, cx_8_7, cx_8_8, cx_8_9, cx_8_10, cx_8_11, cx_8_12, cx_8_13⟩ := pt_cells Rx_8
  have cr_8_0 := row_cell Rr_8
  have cn_8_0 := row_cell Rn_8
  have hst9 := st_any w8 (w.heap.size + 1) K 0 Rn_8
  have B9 := bel_set (c := (cw 6 K)) B8 (show w.heap.size ≤ w.heap.size + 1 by first | exact Nat.le_refl _ | omega | (have := S3.out; have := La_3.out; have := Ln_3.out; have := S6.out; have := La_6.out; have := Ln_6.out; have := Lx_6.out; omega))
  have Rn_9 := setRow_row (c' := (cw 6 K)) Rn_8
  have Ra_9 : (w8.setRow (w.heap.size + 1) (cw 6 K)).heap[w.heap.size]? = some (Obj.cells #[.int .u64 (x1 : Nat), .int .u64 (y1 : Nat)] 27) := by rw [setRow_other (by first | omega | (have := S3.out; have := La_3.out; have := Ln_3.out; have := S6.out; have := La_6.out; have := Ln_6.out; have := Lx_6.out; omega))]; exact Ra_8
  have Rx_9 : (w8.setRow (w.heap.size + 1) (cw 6 K)).heap[w2.heap.size]? = some (Obj.cells (pt c1 m1 X1 r1) 75) := by rw [setRow_other (by first | omega | (have := S3.out; have := La_3.out; have := Ln_3.out; have := S6.out; have := La_6.out; have := Ln_6.out; have := Lx_6.out; omega))]; exact Rx_8
  have Rr_9 : (w8.setRow (w.heap.size + 1) (cw 6 K)).heap[w5.heap.size]? = some (Obj.cells (cw 6 R) 42) := by rw [setRow_other (by first | omega | (have := S3.out; have := La_3.out; have := Ln_3.out; have := S6.out; have := La_6.out; have := Ln_6.out; have := Lx_6.out; omega))]; exact Rr_8
  obtain ⟨w9, hw9⟩ : ∃ V, w8.setRow (w.heap.size + 1) (cw 6 K) = V := ⟨_, rfl⟩
  rw [hw9] at hst9 B9 Ra_9 Rn_9 Rx_9 Rr_9
  obtain ⟨ca_9_0, ca_9_1⟩ := cells2s Ra_9
  have cn_9_0 := row_cell Rn_9
  obtain ⟨cx_9_0, cx_9_1, cx_9_2, cx_9_3, cx_9_4, cx_9_5, cx_9_6, cx_9_7, cx_9_8, cx_9_9, cx_9_10, cx_9_11, cx_9_12, cx_9_13⟩ := pt_cells Rx_9
  have cr_9_0 := row_cell Rr_9
  clear Ra_9 ca_9_0 ca_9_1
  clear Rr_9 cr_9_0
  clear cx_9_0 cx_9_1 cx_9_2 cx_9_3 cx_9_4 cx_9_5 cx_9_6 cx_9_7 cx_9_8 cx_9_9 cx_9_10 cx_9_11 cx_9_12 cx_9_13
  go_wp2_with fail
  refine (KB.out _).mono ?_
  rintro r w10 ⟨rfl, b10⟩
  have B10 : Below w.heap.size w w10 := btr B9 b10
  have Rn_10 := heap_of b10 _ _ _ Rn_9
  have Rx_10 := heap_of b10 _ _ _ Rx_9
  clear b10 B9 Rn_9 cn_9_0 Rx_9
  have cn_10_0 := row_cell Rn_10
  go_wp2_with fail
  refine (KP.out _).mono ?_
  rintro r w11 ⟨rfl, b11⟩
  have B11 : Below w.heap.size w w11 := btr B10 b11
  have Rn_11 := heap_of b11 _ _ _ Rn_10
  have Rx_11 := heap_of b11 _ _ _ Rx_10
  clear b11 B10 Rn_10 cn_10_0 Rx_10
  have cn_11_0 := row_cell Rn_11
  have qn : (w11).drew.heap[w.heap.size + 1]? = some (Obj.cells (cw 6 K) 42) := Rn_11
  have qx : (w11).drew.heap[w2.heap.size]? = some (Obj.cells (pt c1 m1 X1 r1) 75) := Rx_11
  have qB := B11.drew
  have qc := row_cell qn
  go_wp2_with fail
  go_region_with (first | (go_at_call 10; refine (K5.out _).mono ?_; rintro r wq ⟨rfl, bq⟩; have qn := heap_of bq _ _ _ qn; have qx := heap_of bq _ _ _ qx; have qB := btr qB bq; have qc := row_cell qn; have hst := st_any wq (w.heap.size + 1) N K qn; clear bq) | (go_at_call 40; refine (K6.out _).mono ?_; rintro r wq ⟨rfl, bq⟩; have qn := heap_of bq _ _ _ qn; have qx := heap_of bq _ _ _ qx; have qB := btr qB bq; have qc := row_cell qn; have hst := st_any wq (w.heap.size + 1) N K qn; clear bq) | fail)
  all_goals
    have Rn_12 : (wq.setRow (w.heap.size + 1) (cw 6 N)).heap[w.heap.size + 1]? = some (Obj.cells (cw 6 N) 42) := setRow_row qn
    have B12 : Below w.heap.size w (wq.setRow (w.heap.size + 1) (cw 6 N)) := bel_set qB (show w.heap.size ≤ w.heap.size + 1 by first | exact Nat.le_refl _ | omega | (have := S3.out; have := La_3.out; have := Ln_3.out; have := S6.out; have := La_6.out; have := Ln_6.out; have := Lx_6.out; omega))
    have Rx_12 : (wq.setRow (w.heap.size + 1) (cw 6 N)).heap[w2.heap.size]? = some (Obj.cells (pt c1 m1 X1 r1) 75) := (setRow_other (by first | omega | (have := S3.out; have := La_3.out; have := Ln_3.out; have := S6.out; have := La_6.out; have := Ln_6.out; have := Lx_6.out; omega))).trans qx
    obtain ⟨w12, hw12⟩ : ∃ V, (wq.setRow (w.heap.size + 1) (cw 6 N)) = V := ⟨_, rfl⟩
    rw [hw12] at B12 Rn_12 Rx_12 ⊢
    clear hw12 qB qc hst qn qx B11 Rn_11 cn_11_0 Rx_11
    have cn_12_0 := row_cell Rn_12
    go_wp2_with fail
    obtain ⟨F, hF1, hF2⟩ := below_fun w12
    have gn_w := fun u => st_same (F u) (w.heap.size + 1) _ (heap_of (hF1 u) _ _ _ Rn_12)
    have fn_0 := fun u => row_cell (heap_of (hF1 u) _ _ _ Rn_12)
    have fx_0 := fun u => (pt_cells (heap_of (hF1 u) _ _ _ Rx_12)).1
    have fx_1 := fun u => (pt_cells (heap_of (hF1 u) _ _ _ Rx_12)).2.1
    have fx_2 := fun u => (pt_cells (heap_of (hF1 u) _ _ _ Rx_12)).2.2.1
    have fx_3 := fun u => (pt_cells (heap_of (hF1 u) _ _ _ Rx_12)).2.2.2.1
    have fx_4 := fun u => (pt_cells (heap_of (hF1 u) _ _ _ Rx_12)).2.2.2.2.1
    have fx_5 := fun u => (pt_cells (heap_of (hF1 u) _ _ _ Rx_12)).2.2.2.2.2.1
    have fx_6 := fun u => (pt_cells (heap_of (hF1 u) _ _ _ Rx_12)).2.2.2.2.2.2.1
    have fx_7 := fun u => (pt_cells (heap_of (hF1 u) _ _ _ Rx_12)).2.2.2.2.2.2.2.1
    have fx_8 := fun u => (pt_cells (heap_of (hF1 u) _ _ _ Rx_12)).2.2.2.2.2.2.2.2.1
    have fx_9 := fun u => (pt_cells (heap_of (hF1 u) _ _ _ Rx_12)).2.2.2.2.2.2.2.2.2.1
    have fx_10 := fun u => (pt_cells (heap_of (hF1 u) _ _ _ Rx_12)).2.2.2.2.2.2.2.2.2.2.1
    have fx_11 := fun u => (pt_cells (heap_of (hF1 u) _ _ _ Rx_12)).2.2.2.2.2.2.2.2.2.2.2.1
    have fx_12 := fun u => (pt_cells (heap_of (hF1 u) _ _ _ Rx_12)).2.2.2.2.2.2.2.2.2.2.2.2.1
    have fx_13 := fun u => (pt_cells (heap_of (hF1 u) _ _ _ Rx_12)).2.2.2.2.2.2.2.2.2.2.2.2.2
    refine wp_region_below F hF2 (by kernel_rfl) (by kernel_rfl) ?_
    repeat first | go_big_quiet_step (first  | fail) | quiet_step (first  | fail)
    refine wpQuiet_nil ?_
    rintro _ ⟨uW, rfl⟩
    have B13 := btr B12 (hF1 uW)
    have Rn_13 := heap_of (hF1 uW) _ _ _ Rn_12
    have Rx_13 := heap_of (hF1 uW) _ _ _ Rx_12
    obtain ⟨w13, hw⟩ : ∃ V, F uW = V := ⟨_, rfl⟩
    rw [hw] at B13 Rn_13 Rx_13
    try rw [hw]
    clear hw hF1 hF2 B12 gn_w fn_0 fx_0 fx_1 fx_2 fx_3 fx_4 fx_5 fx_6 fx_7 fx_8 fx_9 fx_10 fx_11 fx_12 fx_13 Rn_12 cn_12_0 Rx_12
    clear F
    have cn_13_0 := row_cell Rn_13
    have dz := row_cell Rn_13
    go_wp2
    exact bodyPost_ret (v := .tuple #[.bool o, .agg (cw 6 N), .bool ex, .int .i64 0]) (by simp [results, Tryd.results11, go_sem, dz, hff]) rfl ⟨rfl, B13⟩
set_option maxRecDepth 100000 in
set_option maxHeartbeats 8000000 in
theorem pq_cv_e80 (k f m : Int) (x1 y1 : Nat) (o ex b : Bool) (N T : Nat) (e c v : Int) (w : World) (KW : Box (∀ w, FAt w → Calls Tryd.prog 11 #[.int .u8 f, .int .u8 m, .agg #[.int .u64 (x1 : Nat), .int .u64 (y1 : Nat)]] w fun r w' => r = .returned (.tuple #[.bool o, .agg (cw 6 N), .bool ex, .int .i64 80]) ∧ Below w.heap.size w w')) (KK : Box (∀ w, Calls Tryd.prog 12 #[.int .u8 k] w fun r w' => r = .returned (.bool true) ∧ Below w.heap.size w w')) (KB : Box (∀ w, FAt w → Calls Tryd.prog 16 #[.int .u8 f, .agg #[.int .u64 (x1 : Nat), .int .u64 (y1 : Nat)]] w fun r w' => r = .returned (.bool b) ∧ Below w.heap.size w w')) (KE : Box (∀ w, FAt w → Calls Tryd.prog 15 #[.int .u8 k, .bool b] w fun r w' => r = .returned (.int .u64 v) ∧ Below w.heap.size w w')) (hT : FAt w) : Calls Tryd.prog 7 #[.int .u8 k, .int .u8 f, .int .u8 m, .agg #[.int .u64 (x1 : Nat), .int .u64 (y1 : Nat)]] w fun r w' => r = .returned (.tuple #[.int .u64 v, .int .u8 16, .int .i64 0]) ∧ Below w.heap.size w w' := by
  have FF := box hT
  clear hT
  have hat := cw_at 6
  have hz := cw6z
  have hff := cw6f
  have hs0 := st0
  have hcs : ∀ x, ((cw 6 x).size = 6) = True := fun x => eq_true (cw_size 6 x)
  have hq1 := ptf
  have hq3 := ptz
  have hq4 := st_p0
  have hq5 : ∀ (c s : Nat) (x : Int) (r : Nat), ((pt c s x r).size = 14) = True := fun _ _ _ _ => eq_true rfl
  have heq := eq6
  have hgq := eqg6
  have hQ0 := Q_pos
  have hx0 : ∀ (n : Nat) (w : World), (Instr.index 42 (.agg (cw 6 n)) (.int .i64 0)).run Tryd.prog w = .ok (.int .u64 ((wd n 0 : Nat) : Int)) w := fun n w => ix6 n 0 w (by decide)
  obtain ⟨Ra_0, B0⟩ := opn1 w (Obj.cells #[.int .u64 (x1 : Nat), .int .u64 (y1 : Nat)] 27)
  go_enter Tryd.func7, Tryd.ntmps7
  obtain ⟨ca_0_0, ca_0_1⟩ := cells2s Ra_0
  go_wp2_with fail
  refine (KW.out _ (fatB FF.out B0)).mono ?_
  rintro r w1 ⟨rfl, b1⟩
  have B1 : Below w.heap.size w w1 := btr B0 b1
  have Ra_1 := heap_of b1 _ _ _ Ra_0
  clear b1 B0 Ra_0 ca_0_0 ca_0_1
  obtain ⟨ca_1_0, ca_1_1⟩ := cells2s Ra_1
  have S2 := box B1.size
  have La_2 : Box (w.heap.size < w1.heap.size) := box (Array.getElem?_eq_some_iff.1 Ra_1).1
  have Rn_2 := heap_alloc_last w1 (Obj.cells (cw 6 N) 42)
  have B2 := btr B1 (bal w1 (Obj.cells (cw 6 N) 42))
  have Ra_2 := heap_of (bal w1 (Obj.cells (cw 6 N) 42)) _ _ _ Ra_1
  clear B1 Ra_1 ca_1_0 ca_1_1
  obtain ⟨ca_2_0, ca_2_1⟩ := cells2s Ra_2
  have cn_2_0 := row_cell Rn_2
  go_wp2_with fail
  refine (KK.out _).mono ?_
  rintro r w3 ⟨rfl, b3⟩
  have B3 : Below w.heap.size w w3 := btr B2 b3
  have Ra_3 := heap_of b3 _ _ _ Ra_2
  have Rn_3 := heap_of b3 _ _ _ Rn_2
  clear b3 B2 Ra_2 ca_2_0 ca_2_1 Rn_2 cn_2_0
  obtain ⟨ca_3_0, ca_3_1⟩ := cells2s Ra_3
  have cn_3_0 := row_cell Rn_3
  go_wp2_with fail
  obtain ⟨F, hF1, hF2⟩ := below_fun w3
  have fa_0 := fun u => cells4 (heap_of (hF1 u) _ _ _ Ra_3) 0 _ rfl
  have fa_1 := fun u => cells4 (heap_of (hF1 u) _ _ _ Ra_3) 1 _ rfl
  have fn_0 := fun u => row_cell (heap_of (hF1 u) _ _ _ Rn_3)
  refine wp_region_below F hF2 (by kernel_rfl) (by kernel_rfl) ?_
  repeat first | go_big_quiet_step (first  | fail) | quiet_step (first  | fail)
  refine wpQuiet_nil ?_
  rintro _ ⟨uW, rfl⟩
  have B4 := btr B3 (hF1 uW)
  have Ra_4 := heap_of (hF1 uW) _ _ _ Ra_3
  have Rn_4 := heap_of (hF1 uW) _ _ _ Rn_3
  obtain ⟨w4, hw⟩ : ∃ V, F uW = V := ⟨_, rfl⟩
  rw [hw] at B4 Ra_4 Rn_4
  try rw [hw]
  clear hw hF1 hF2 B3 fa_0 fa_1 fn_0 Ra_3 ca_3_0 ca_3_1 Rn_3 cn_3_0
  clear F
  obtain ⟨ca_4_0, ca_4_1⟩ := cells2s Ra_4
  have cn_4_0 := row_cell Rn_4
  go_wp2_with fail
  refine (KB.out _ (fatB FF.out B4)).mono ?_
  rintro r w5 ⟨rfl, b5⟩
  have B5 : Below w.heap.size w w5 := btr B4 b5
  have Ra_5 := heap_of b5 _ _ _ Ra_4
  have Rn_5 := heap_of b5 _ _ _ Rn_4
  clear b5 B4 Ra_4 ca_4_0 ca_4_1 Rn_4 cn_4_0
  obtain ⟨ca_5_0, ca_5_1⟩ := cells2s Ra_5
  have cn_5_0 := row_cell Rn_5
  go_wp2_with fail
  refine (KE.out _ (fatB FF.out B5)).mono ?_
  rintro r w6 ⟨rfl, b6⟩
  have B6 : Below w.heap.size w w6 := btr B5 b6
  have Ra_6 := heap_of b6 _ _ _ Ra_5
  have Rn_6 := heap_of b6 _ _ _ Rn_5
  clear b6 B5 Ra_5 ca_5_0 ca_5_1 Rn_5 cn_5_0
  obtain ⟨ca_6_0, ca_6_1⟩ := cells2s Ra_6
  have cn_6_0 := row_cell Rn_6
  go_wp2
  go_ret3
  exact ⟨rfl, B6⟩
set_option maxRecDepth 100000 in
set_option maxHeartbeats 8000000 in
theorem pq_cv_e4 (k f m : Int) (x1 y1 : Nat) (o ex b : Bool) (N T : Nat) (e c v : Int) (w : World) (KW : Box (∀ w, FAt w → Calls Tryd.prog 11 #[.int .u8 f, .int .u8 m, .agg #[.int .u64 (x1 : Nat), .int .u64 (y1 : Nat)]] w fun r w' => r = .returned (.tuple #[.bool o, .agg (cw 6 N), .bool ex, .int .i64 4]) ∧ Below w.heap.size w w')) (KK : Box (∀ w, Calls Tryd.prog 12 #[.int .u8 k] w fun r w' => r = .returned (.bool true) ∧ Below w.heap.size w w')) (KB : Box (∀ w, FAt w → Calls Tryd.prog 16 #[.int .u8 f, .agg #[.int .u64 (x1 : Nat), .int .u64 (y1 : Nat)]] w fun r w' => r = .returned (.bool b) ∧ Below w.heap.size w w')) (KE : Box (∀ w, FAt w → Calls Tryd.prog 15 #[.int .u8 k, .bool b] w fun r w' => r = .returned (.int .u64 v) ∧ Below w.heap.size w w')) (hT : FAt w) : Calls Tryd.prog 7 #[.int .u8 k, .int .u8 f, .int .u8 m, .agg #[.int .u64 (x1 : Nat), .int .u64 (y1 : Nat)]] w fun r w' => r = .returned (.tuple #[.int .u64 v, .int .u8 16, .int .i64 0]) ∧ Below w.heap.size w w' := by
  have FF := box hT
  clear hT
  have hat := cw_at 6
  have hz := cw6z
  have hff := cw6f
  have hs0 := st0
  have hcs : ∀ x, ((cw 6 x).size = 6) = True := fun x => eq_true (cw_size 6 x)
  have hq1 := ptf
  have hq3 := ptz
  have hq4 := st_p0
  have hq5 : ∀ (c s : Nat) (x : Int) (r : Nat), ((pt c s x r).size = 14) = True := fun _ _ _ _ => eq_true rfl
  have heq := eq6
  have hgq := eqg6
  have hQ0 := Q_pos
  have hx0 : ∀ (n : Nat) (w : World), (Instr.index 42 (.agg (cw 6 n)) (.int .i64 0)).run Tryd.prog w = .ok (.int .u64 ((wd n 0 : Nat) : Int)) w := fun n w => ix6 n 0 w (by decide)
  obtain ⟨Ra_0, B0⟩ := opn1 w (Obj.cells #[.int .u64 (x1 : Nat), .int .u64 (y1 : Nat)] 27)
  go_enter Tryd.func7, Tryd.ntmps7
  obtain ⟨ca_0_0, ca_0_1⟩ := cells2s Ra_0
  go_wp2_with fail
  refine (KW.out _ (fatB FF.out B0)).mono ?_
  rintro r w1 ⟨rfl, b1⟩
  have B1 : Below w.heap.size w w1 := btr B0 b1
  have Ra_1 := heap_of b1 _ _ _ Ra_0
  clear b1 B0 Ra_0 ca_0_0 ca_0_1
  obtain ⟨ca_1_0, ca_1_1⟩ := cells2s Ra_1
  have S2 := box B1.size
  have La_2 : Box (w.heap.size < w1.heap.size) := box (Array.getElem?_eq_some_iff.1 Ra_1).1
  have Rn_2 := heap_alloc_last w1 (Obj.cells (cw 6 N) 42)
  have B2 := btr B1 (bal w1 (Obj.cells (cw 6 N) 42))
  have Ra_2 := heap_of (bal w1 (Obj.cells (cw 6 N) 42)) _ _ _ Ra_1
  clear B1 Ra_1 ca_1_0 ca_1_1
  obtain ⟨ca_2_0, ca_2_1⟩ := cells2s Ra_2
  have cn_2_0 := row_cell Rn_2
  go_wp2_with fail
  refine (KK.out _).mono ?_
  rintro r w3 ⟨rfl, b3⟩
  have B3 : Below w.heap.size w w3 := btr B2 b3
  have Ra_3 := heap_of b3 _ _ _ Ra_2
  have Rn_3 := heap_of b3 _ _ _ Rn_2
  clear b3 B2 Ra_2 ca_2_0 ca_2_1 Rn_2 cn_2_0
  obtain ⟨ca_3_0, ca_3_1⟩ := cells2s Ra_3
  have cn_3_0 := row_cell Rn_3
  go_wp2_with fail
  obtain ⟨F, hF1, hF2⟩ := below_fun w3
  have fa_0 := fun u => cells4 (heap_of (hF1 u) _ _ _ Ra_3) 0 _ rfl
  have fa_1 := fun u => cells4 (heap_of (hF1 u) _ _ _ Ra_3) 1 _ rfl
  have fn_0 := fun u => row_cell (heap_of (hF1 u) _ _ _ Rn_3)
  refine wp_region_below F hF2 (by kernel_rfl) (by kernel_rfl) ?_
  repeat first | go_big_quiet_step (first  | fail) | quiet_step (first  | fail)
  refine wpQuiet_nil ?_
  rintro _ ⟨uW, rfl⟩
  have B4 := btr B3 (hF1 uW)
  have Ra_4 := heap_of (hF1 uW) _ _ _ Ra_3
  have Rn_4 := heap_of (hF1 uW) _ _ _ Rn_3
  obtain ⟨w4, hw⟩ : ∃ V, F uW = V := ⟨_, rfl⟩
  rw [hw] at B4 Ra_4 Rn_4
  try rw [hw]
  clear hw hF1 hF2 B3 fa_0 fa_1 fn_0 Ra_3 ca_3_0 ca_3_1 Rn_3 cn_3_0
  clear F
  obtain ⟨ca_4_0, ca_4_1⟩ := cells2s Ra_4
  have cn_4_0 := row_cell Rn_4
  go_wp2_with fail
  refine (KB.out _ (fatB FF.out B4)).mono ?_
  rintro r w5 ⟨rfl, b5⟩
  have B5 : Below w.heap.size w w5 := btr B4 b5
  have Ra_5 := heap_of b5 _ _ _ Ra_4
  have Rn_5 := heap_of b5 _ _ _ Rn_4
  clear b5 B4 Ra_4 ca_4_0 ca_4_1 Rn_4 cn_4_0
  obtain ⟨ca_5_0, ca_5_1⟩ := cells2s Ra_5
  have cn_5_0 := row_cell Rn_5
  go_wp2_with fail
  refine (KE.out _ (fatB FF.out B5)).mono ?_
  rintro r w6 ⟨rfl, b6⟩
  have B6 : Below w.heap.size w w6 := btr B5 b6
  have Ra_6 := heap_of b6 _ _ _ Ra_5
  have Rn_6 := heap_of b6 _ _ _ Rn_5
  clear b6 B5 Ra_5 ca_5_0 ca_5_1 Rn_5 cn_5_0
  obtain ⟨ca_6_0, ca_6_1⟩ := cells2s Ra_6
  have cn_6_0 := row_cell Rn_6
  go_wp2
  go_ret3
  exact ⟨rfl, B6⟩
set_option maxRecDepth 100000 in
set_option maxHeartbeats 8000000 in
theorem pq_cv_b (k f m : Int) (x1 y1 : Nat) (o ex b : Bool) (N T : Nat) (e c v : Int) (hc : decide (0 < c) = true) (w : World) (KW : Box (∀ w, FAt w → Calls Tryd.prog 11 #[.int .u8 f, .int .u8 m, .agg #[.int .u64 (x1 : Nat), .int .u64 (y1 : Nat)]] w fun r w' => r = .returned (.tuple #[.bool o, .agg (cw 6 N), .bool ex, .int .i64 0]) ∧ Below w.heap.size w w')) (KK : Box (∀ w, Calls Tryd.prog 12 #[.int .u8 k] w fun r w' => r = .returned (.bool true) ∧ Below w.heap.size w w')) (KR : Box (∀ w, FAt w → Calls Tryd.prog 14 #[.int .u8 k, .bool o] w fun r w' => r = .returned (.agg (cw 6 T)) ∧ Below w.heap.size w w')) (KC : Box (∀ w, Calls Tryd.prog 13 #[.agg (cw 6 N), .agg (cw 6 T)] w fun r w' => r = .returned (.int .i64 c) ∧ Below w.heap.size w w')) (KB : Box (∀ w, FAt w → Calls Tryd.prog 16 #[.int .u8 f, .agg #[.int .u64 (x1 : Nat), .int .u64 (y1 : Nat)]] w fun r w' => r = .returned (.bool b) ∧ Below w.heap.size w w')) (KE : Box (∀ w, FAt w → Calls Tryd.prog 15 #[.int .u8 k, .bool b] w fun r w' => r = .returned (.int .u64 v) ∧ Below w.heap.size w w')) (hT : FAt w) : Calls Tryd.prog 7 #[.int .u8 k, .int .u8 f, .int .u8 m, .agg #[.int .u64 (x1 : Nat), .int .u64 (y1 : Nat)]] w fun r w' => r = .returned (.tuple #[.int .u64 v, .int .u8 16, .int .i64 0]) ∧ Below w.heap.size w w' := by
  have FF := box hT
  clear hT
  have hat := cw_at 6
  have hz := cw6z
  have hff := cw6f
  have hs0 := st0
  have hcs : ∀ x, ((cw 6 x).size = 6) = True := fun x => eq_true (cw_size 6 x)
  have hq1 := ptf
  have hq3 := ptz
  have hq4 := st_p0
  have hq5 : ∀ (c s : Nat) (x : Int) (r : Nat), ((pt c s x r).size = 14) = True := fun _ _ _ _ => eq_true rfl
  have heq := eq6
  have hgq := eqg6
  have hQ0 := Q_pos
  have hx0 : ∀ (n : Nat) (w : World), (Instr.index 42 (.agg (cw 6 n)) (.int .i64 0)).run Tryd.prog w = .ok (.int .u64 ((wd n 0 : Nat) : Int)) w := fun n w => ix6 n 0 w (by decide)
  obtain ⟨Ra_0, B0⟩ := opn1 w (Obj.cells #[.int .u64 (x1 : Nat), .int .u64 (y1 : Nat)] 27)
  go_enter Tryd.func7, Tryd.ntmps7
  obtain ⟨ca_0_0, ca_0_1⟩ := cells2s Ra_0
  go_wp2_with fail
  refine (KW.out _ (fatB FF.out B0)).mono ?_
  rintro r w1 ⟨rfl, b1⟩
  have B1 : Below w.heap.size w w1 := btr B0 b1
  have Ra_1 := heap_of b1 _ _ _ Ra_0
  clear b1 B0 Ra_0 ca_0_0 ca_0_1
  obtain ⟨ca_1_0, ca_1_1⟩ := cells2s Ra_1
  have S2 := box B1.size
  have La_2 : Box (w.heap.size < w1.heap.size) := box (Array.getElem?_eq_some_iff.1 Ra_1).1
  have Rn_2 := heap_alloc_last w1 (Obj.cells (cw 6 N) 42)
  have B2 := btr B1 (bal w1 (Obj.cells (cw 6 N) 42))
  have Ra_2 := heap_of (bal w1 (Obj.cells (cw 6 N) 42)) _ _ _ Ra_1
  clear B1 Ra_1 ca_1_0 ca_1_1
  obtain ⟨ca_2_0, ca_2_1⟩ := cells2s Ra_2
  have cn_2_0 := row_cell Rn_2
  go_wp2_with fail
  refine (KK.out _).mono ?_
  rintro r w3 ⟨rfl, b3⟩
  have B3 : Below w.heap.size w w3 := btr B2 b3
  have Ra_3 := heap_of b3 _ _ _ Ra_2
  have Rn_3 := heap_of b3 _ _ _ Rn_2
  clear b3 B2 Ra_2 ca_2_0 ca_2_1 Rn_2 cn_2_0
  obtain ⟨ca_3_0, ca_3_1⟩ := cells2s Ra_3
  have cn_3_0 := row_cell Rn_3
  go_wp2_with fail
  obtain ⟨F, hF1, hF2⟩ := below_fun w3
  have fa_0 := fun u => cells4 (heap_of (hF1 u) _ _ _ Ra_3) 0 _ rfl
  have fa_1 := fun u => cells4 (heap_of (hF1 u) _ _ _ Ra_3) 1 _ rfl
  have fn_0 := fun u => row_cell (heap_of (hF1 u) _ _ _ Rn_3)
  have FG : Box (∀ u, FAt (F u)) := box (fun u => fatB FF.out (btr B3 (hF1 u)))
  refine wp_region_below F hF2 (by kernel_rfl) (by kernel_rfl) ?_
  repeat first | go_big_quiet_step (first | (go_at_call 14; exact quietF hF1 hF2 (KR.out _ (FG.out _))) | (go_at_call 13; exact quietF hF1 hF2 (KC.out _)) | fail) | quiet_step (first | (go_at_call 14; exact quietF hF1 hF2 (KR.out _ (FG.out _))) | (go_at_call 13; exact quietF hF1 hF2 (KC.out _)) | fail)
  refine wpQuiet_nil ?_
  rintro _ ⟨uW, rfl⟩
  have B4 := btr B3 (hF1 uW)
  have Ra_4 := heap_of (hF1 uW) _ _ _ Ra_3
  have Rn_4 := heap_of (hF1 uW) _ _ _ Rn_3
  obtain ⟨w4, hw⟩ : ∃ V, F uW = V := ⟨_, rfl⟩
  rw [hw] at B4 Ra_4 Rn_4
  try rw [hw]
  clear hw hF1 hF2 B3 fa_0 fa_1 fn_0 Ra_3 ca_3_0 ca_3_1 Rn_3 cn_3_0
  clear FG
  clear F
  obtain ⟨ca_4_0, ca_4_1⟩ := cells2s Ra_4
  have cn_4_0 := row_cell Rn_4
  go_wp2_with fail
  refine (KB.out _ (fatB FF.out B4)).mono ?_
  rintro r w5 ⟨rfl, b5⟩
  have B5 : Below w.heap.size w w5 := btr B4 b5
  have Ra_5 := heap_of b5 _ _ _ Ra_4
  have Rn_5 := heap_of b5 _ _ _ Rn_4
  clear b5 B4 Ra_4 ca_4_0 ca_4_1 Rn_4 cn_4_0
  obtain ⟨ca_5_0, ca_5_1⟩ := cells2s Ra_5
  have cn_5_0 := row_cell Rn_5
  go_wp2_with fail
  refine (KE.out _ (fatB FF.out B5)).mono ?_
  rintro r w6 ⟨rfl, b6⟩
  have B6 : Below w.heap.size w w6 := btr B5 b6
  have Ra_6 := heap_of b6 _ _ _ Ra_5
  have Rn_6 := heap_of b6 _ _ _ Rn_5
  clear b6 B5 Ra_5 ca_5_0 ca_5_1 Rn_5 cn_5_0
  obtain ⟨ca_6_0, ca_6_1⟩ := cells2s Ra_6
  have cn_6_0 := row_cell Rn_6
  go_wp2
  go_ret3
  exact ⟨rfl, B6⟩
set_option maxRecDepth 100000 in
set_option maxHeartbeats 8000000 in
theorem pq_cv_nf (k f m : Int) (x1 y1 : Nat) (o ex b : Bool) (N T : Nat) (e c v : Int) (hc : decide (0 < c) = false) (w : World) (KW : Box (∀ w, FAt w → Calls Tryd.prog 11 #[.int .u8 f, .int .u8 m, .agg #[.int .u64 (x1 : Nat), .int .u64 (y1 : Nat)]] w fun r w' => r = .returned (.tuple #[.bool o, .agg (cw 6 N), .bool false, .int .i64 0]) ∧ Below w.heap.size w w')) (KK : Box (∀ w, Calls Tryd.prog 12 #[.int .u8 k] w fun r w' => r = .returned (.bool true) ∧ Below w.heap.size w w')) (KR : Box (∀ w, FAt w → Calls Tryd.prog 14 #[.int .u8 k, .bool o] w fun r w' => r = .returned (.agg (cw 6 T)) ∧ Below w.heap.size w w')) (KC : Box (∀ w, Calls Tryd.prog 13 #[.agg (cw 6 N), .agg (cw 6 T)] w fun r w' => r = .returned (.int .i64 c) ∧ Below w.heap.size w w')) (KG : Box (∀ w, Calls Tryd.prog 17 #[.int .u8 k, .bool o, .int .u64 ((wd N 0 : Nat) : Int)] w fun r w' => r = .returned (.int .u64 v) ∧ Below w.heap.size w w')) (hT : FAt w) : Calls Tryd.prog 7 #[.int .u8 k, .int .u8 f, .int .u8 m, .agg #[.int .u64 (x1 : Nat), .int .u64 (y1 : Nat)]] w fun r w' => r = .returned (.tuple #[.int .u64 v, .int .u8 1, .int .i64 0]) ∧ Below w.heap.size w w' := by
  have FF := box hT
  clear hT
  have hat := cw_at 6
  have hz := cw6z
  have hff := cw6f
  have hs0 := st0
  have hcs : ∀ x, ((cw 6 x).size = 6) = True := fun x => eq_true (cw_size 6 x)
  have hq1 := ptf
  have hq3 := ptz
  have hq4 := st_p0
  have hq5 : ∀ (c s : Nat) (x : Int) (r : Nat), ((pt c s x r).size = 14) = True := fun _ _ _ _ => eq_true rfl
  have heq := eq6
  have hgq := eqg6
  have hQ0 := Q_pos
  have hx0 : ∀ (n : Nat) (w : World), (Instr.index 42 (.agg (cw 6 n)) (.int .i64 0)).run Tryd.prog w = .ok (.int .u64 ((wd n 0 : Nat) : Int)) w := fun n w => ix6 n 0 w (by decide)
  obtain ⟨Ra_0, B0⟩ := opn1 w (Obj.cells #[.int .u64 (x1 : Nat), .int .u64 (y1 : Nat)] 27)
  go_enter Tryd.func7, Tryd.ntmps7
  obtain ⟨ca_0_0, ca_0_1⟩ := cells2s Ra_0
  go_wp2_with fail
  refine (KW.out _ (fatB FF.out B0)).mono ?_
  rintro r w1 ⟨rfl, b1⟩
  have B1 : Below w.heap.size w w1 := btr B0 b1
  have Ra_1 := heap_of b1 _ _ _ Ra_0
  clear b1 B0 Ra_0 ca_0_0 ca_0_1
  obtain ⟨ca_1_0, ca_1_1⟩ := cells2s Ra_1
  have S2 := box B1.size
  have La_2 : Box (w.heap.size < w1.heap.size) := box (Array.getElem?_eq_some_iff.1 Ra_1).1
  have Rn_2 := heap_alloc_last w1 (Obj.cells (cw 6 N) 42)
  have B2 := btr B1 (bal w1 (Obj.cells (cw 6 N) 42))
  have Ra_2 := heap_of (bal w1 (Obj.cells (cw 6 N) 42)) _ _ _ Ra_1
  clear B1 Ra_1 ca_1_0 ca_1_1
  obtain ⟨ca_2_0, ca_2_1⟩ := cells2s Ra_2
  have cn_2_0 := row_cell Rn_2
  go_wp2_with fail
  refine (KK.out _).mono ?_
  rintro r w3 ⟨rfl, b3⟩
  have B3 : Below w.heap.size w w3 := btr B2 b3
  have Ra_3 := heap_of b3 _ _ _ Ra_2
  have Rn_3 := heap_of b3 _ _ _ Rn_2
  clear b3 B2 Ra_2 ca_2_0 ca_2_1 Rn_2 cn_2_0
  obtain ⟨ca_3_0, ca_3_1⟩ := cells2s Ra_3
  have cn_3_0 := row_cell Rn_3
  go_wp2_with fail
  obtain ⟨F, hF1, hF2⟩ := below_fun w3
  have fa_0 := fun u => cells4 (heap_of (hF1 u) _ _ _ Ra_3) 0 _ rfl
  have fa_1 := fun u => cells4 (heap_of (hF1 u) _ _ _ Ra_3) 1 _ rfl
  have fn_0 := fun u => row_cell (heap_of (hF1 u) _ _ _ Rn_3)
  have FG : Box (∀ u, FAt (F u)) := box (fun u => fatB FF.out (btr B3 (hF1 u)))
  refine wp_region_below F hF2 (by kernel_rfl) (by kernel_rfl) ?_
  repeat first | go_big_quiet_step (first | (go_at_call 14; exact quietF hF1 hF2 (KR.out _ (FG.out _))) | (go_at_call 13; exact quietF hF1 hF2 (KC.out _)) | fail) | quiet_step (first | (go_at_call 14; exact quietF hF1 hF2 (KR.out _ (FG.out _))) | (go_at_call 13; exact quietF hF1 hF2 (KC.out _)) | fail)
  refine wpQuiet_nil ?_
  rintro _ ⟨uW, rfl⟩
  have B4 := btr B3 (hF1 uW)
  have Ra_4 := heap_of (hF1 uW) _ _ _ Ra_3
  have Rn_4 := heap_of (hF1 uW) _ _ _ Rn_3
  obtain ⟨w4, hw⟩ : ∃ V, F uW = V := ⟨_, rfl⟩
  rw [hw] at B4 Ra_4 Rn_4
  try rw [hw]
  clear hw hF1 hF2 B3 fa_0 fa_1 fn_0 Ra_3 ca_3_0 ca_3_1 Rn_3 cn_3_0
  clear FG
  clear F
  obtain ⟨ca_4_0, ca_4_1⟩ := cells2s Ra_4
  have cn_4_0 := row_cell Rn_4
  go_wp2_with fail
  refine (KG.out _).mono ?_
  rintro r w5 ⟨rfl, b5⟩
  have B5 : Below w.heap.size w w5 := btr B4 b5
  have Ra_5 := heap_of b5 _ _ _ Ra_4
  have Rn_5 := heap_of b5 _ _ _ Rn_4
  clear b5 B4 Ra_4 ca_4_0 ca_4_1 Rn_4 cn_4_0
  obtain ⟨ca_5_0, ca_5_1⟩ := cells2s Ra_5
  have cn_5_0 := row_cell Rn_5
  go_wp2
  go_ret3
  exact ⟨rfl, B5⟩
set_option maxRecDepth 100000 in
set_option maxHeartbeats 8000000 in
theorem pq_cv_nt (k f m : Int) (x1 y1 : Nat) (o ex b : Bool) (N T : Nat) (e c v : Int) (hc : decide (0 < c) = false) (w : World) (KW : Box (∀ w, FAt w → Calls Tryd.prog 11 #[.int .u8 f, .int .u8 m, .agg #[.int .u64 (x1 : Nat), .int .u64 (y1 : Nat)]] w fun r w' => r = .returned (.tuple #[.bool o, .agg (cw 6 N), .bool true, .int .i64 0]) ∧ Below w.heap.size w w')) (KK : Box (∀ w, Calls Tryd.prog 12 #[.int .u8 k] w fun r w' => r = .returned (.bool true) ∧ Below w.heap.size w w')) (KR : Box (∀ w, FAt w → Calls Tryd.prog 14 #[.int .u8 k, .bool o] w fun r w' => r = .returned (.agg (cw 6 T)) ∧ Below w.heap.size w w')) (KC : Box (∀ w, Calls Tryd.prog 13 #[.agg (cw 6 N), .agg (cw 6 T)] w fun r w' => r = .returned (.int .i64 c) ∧ Below w.heap.size w w')) (KG : Box (∀ w, Calls Tryd.prog 17 #[.int .u8 k, .bool o, .int .u64 ((wd N 0 : Nat) : Int)] w fun r w' => r = .returned (.int .u64 v) ∧ Below w.heap.size w w')) (hT : FAt w) : Calls Tryd.prog 7 #[.int .u8 k, .int .u8 f, .int .u8 m, .agg #[.int .u64 (x1 : Nat), .int .u64 (y1 : Nat)]] w fun r w' => r = .returned (.tuple #[.int .u64 v, .int .u8 0, .int .i64 0]) ∧ Below w.heap.size w w' := by
  have FF := box hT
  clear hT
  have hat := cw_at 6
  have hz := cw6z
  have hff := cw6f
  have hs0 := st0
  have hcs : ∀ x, ((cw 6 x).size = 6) = True := fun x => eq_true (cw_size 6 x)
  have hq1 := ptf
  have hq3 := ptz
  have hq4 := st_p0
  have hq5 : ∀ (c s : Nat) (x : Int) (r : Nat), ((pt c s x r).size = 14) = True := fun _ _ _ _ => eq_true rfl
  have heq := eq6
  have hgq := eqg6
  have hQ0 := Q_pos
  have hx0 : ∀ (n : Nat) (w : World), (Instr.index 42 (.agg (cw 6 n)) (.int .i64 0)).run Tryd.prog w = .ok (.int .u64 ((wd n 0 : Nat) : Int)) w := fun n w => ix6 n 0 w (by decide)
  obtain ⟨Ra_0, B0⟩ := opn1 w (Obj.cells #[.int .u64 (x1 : Nat), .int .u64 (y1 : Nat)] 27)
  go_enter Tryd.func7, Tryd.ntmps7
  obtain ⟨ca_0_0, ca_0_1⟩ := cells2s Ra_0
  go_wp2_with fail
  refine (KW.out _ (fatB FF.out B0)).mono ?_
  rintro r w1 ⟨rfl, b1⟩
  have B1 : Below w.heap.size w w1 := btr B0 b1
  have Ra_1 := heap_of b1 _ _ _ Ra_0
  clear b1 B0 Ra_0 ca_0_0 ca_0_1
  obtain ⟨ca_1_0, ca_1_1⟩ := cells2s Ra_1
  have S2 := box B1.size
  have La_2 : Box (w.heap.size < w1.heap.size) := box (Array.getElem?_eq_some_iff.1 Ra_1).1
  have Rn_2 := heap_alloc_last w1 (Obj.cells (cw 6 N) 42)
  have B2 := btr B1 (bal w1 (Obj.cells (cw 6 N) 42))
  have Ra_2 := heap_of (bal w1 (Obj.cells (cw 6 N) 42)) _ _ _ Ra_1
  clear B1 Ra_1 ca_1_0 ca_1_1
  obtain ⟨ca_2_0, ca_2_1⟩ := cells2s Ra_2
  have cn_2_0 := row_cell Rn_2
  go_wp2_with fail
  refine (KK.out _).mono ?_
  rintro r w3 ⟨rfl, b3⟩
  have B3 : Below w.heap.size w w3 := btr B2 b3
  have Ra_3 := heap_of b3 _ _ _ Ra_2
  have Rn_3 := heap_of b3 _ _ _ Rn_2
  clear b3 B2 Ra_2 ca_2_0 ca_2_1 Rn_2 cn_2_0
  obtain ⟨ca_3_0, ca_3_1⟩ := cells2s Ra_3
  have cn_3_0 := row_cell Rn_3
  go_wp2_with fail
  obtain ⟨F, hF1, hF2⟩ := below_fun w3
  have fa_0 := fun u => cells4 (heap_of (hF1 u) _ _ _ Ra_3) 0 _ rfl
  have fa_1 := fun u => cells4 (heap_of (hF1 u) _ _ _ Ra_3) 1 _ rfl
  have fn_0 := fun u => row_cell (heap_of (hF1 u) _ _ _ Rn_3)
  have FG : Box (∀ u, FAt (F u)) := box (fun u => fatB FF.out (btr B3 (hF1 u)))
  refine wp_region_below F hF2 (by kernel_rfl) (by kernel_rfl) ?_
  repeat first | go_big_quiet_step (first | (go_at_call 14; exact quietF hF1 hF2 (KR.out _ (FG.out _))) | (go_at_call 13; exact quietF hF1 hF2 (KC.out _)) | fail) | quiet_step (first | (go_at_call 14; exact quietF hF1 hF2 (KR.out _ (FG.out _))) | (go_at_call 13; exact quietF hF1 hF2 (KC.out _)) | fail)
  refine wpQuiet_nil ?_
  rintro _ ⟨uW, rfl⟩
  have B4 := btr B3 (hF1 uW)
  have Ra_4 := heap_of (hF1 uW) _ _ _ Ra_3
  have Rn_4 := heap_of (hF1 uW) _ _ _ Rn_3
  obtain ⟨w4, hw⟩ : ∃ V, F uW = V := ⟨_, rfl⟩
  rw [hw] at B4 Ra_4 Rn_4
  try rw [hw]
  clear hw hF1 hF2 B3 fa_0 fa_1 fn_0 Ra_3 ca_3_0 ca_3_1 Rn_3 cn_3_0
  clear FG
  clear F
  obtain ⟨ca_4_0, ca_4_1⟩ := cells2s Ra_4
  have cn_4_0 := row_cell Rn_4
  go_wp2_with fail
  refine (KG.out _).mono ?_
  rintro r w5 ⟨rfl, b5⟩
  have B5 : Below w.heap.size w w5 := btr B4 b5
  have Ra_5 := heap_of b5 _ _ _ Ra_4
  have Rn_5 := heap_of b5 _ _ _ Rn_4
  clear b5 B4 Ra_4 ca_4_0 ca_4_1 Rn_4 cn_4_0
  obtain ⟨ca_5_0, ca_5_1⟩ := cells2s Ra_5
  have cn_5_0 := row_cell Rn_5
  go_wp2
  go_ret3
  exact ⟨rfl, B5⟩
end Go.Proofs.YtpdehipeakcaiaaDoor
