/-
  What the functions that the statement reaches return: part 13 (M1, M2, O5).
-/
import Derived.Test.YtapikkbifdldfaaGreatDoorFs12
namespace Go.Proofs.YtapikkbifdldfaaGreatDoor
set_option maxRecDepth 100000
set_option maxHeartbeats 40000000
set_option maxRecDepth 100000
open Go.RowKit WMath
set_option linter.unusedSimpArgs false
set_option linter.unusedVariables false
theorem mu_etn (c d : Nat) (o1 o2 o : Bool) (KE : Box (∀ w, Calls Tryz.prog 70 #[.int .u8 (c : Nat)] w fun r w' => r = .returned (.bool o1) ∧ Below w.heap.size w w')) (KN : Box (∀ w, Calls Tryz.prog 71 #[.int .u8 (d : Nat)] w fun r w' => r = .returned (.bool o2) ∧ Below w.heap.size w w')) (ho : (o1 && o2) = o) (w : World) : Calls Tryz.prog 115 #[.int .u8 (c : Nat), .int .u8 (d : Nat)] w fun r w' => r = .returned (.bool o) ∧ Below w.heap.size w w' := by
  cases o1
  · rw [Bool.false_and] at ho
    subst ho
    have B0 : Below w.heap.size w w := (Below.refl _ _)
    go_enter Tryz.func115, Tryz.ntmps115
    go_wp2_with fail
    refine (KE.out _).mono ?_
    rintro r w1 ⟨rfl, b1⟩
    have B1 : Below w.heap.size w w1 := btr B0 b1
    clear b1 B0 
    go_wp2
    go_ret
    exact ⟨rfl, B1⟩
  · rw [Bool.true_and] at ho
    subst ho
    have B0 : Below w.heap.size w w := (Below.refl _ _)
    go_enter Tryz.func115, Tryz.ntmps115
    go_wp2_with fail
    refine (KE.out _).mono ?_
    rintro r w1 ⟨rfl, b1⟩
    have B1 : Below w.heap.size w w1 := btr B0 b1
    clear b1 B0 
    go_wp2_with fail
    refine (KN.out _).mono ?_
    rintro r w2 ⟨rfl, b2⟩
    have B2 : Below w.heap.size w w2 := btr B1 b2
    clear b2 B1 
    go_wp2
    go_ret
    exact ⟨rfl, B2⟩
set_option maxRecDepth 100000 in
set_option maxHeartbeats 8000000 in
theorem mu_exactly (neg : Bool) (c1 m1 : Nat) (X1 : Int) (r1 c2 m2 : Nat) (X2 : Int) (r2 S : Nat) (E : Int) (ov : Bool) (w : World)
    (KM : Box (∀ w, Calls Tryz.prog 169 #[.agg (cw 6 m1), .agg (cw 6 m2)] w fun r w' => r = .returned (.tuple #[.agg (cw 6 S), .bool ov]) ∧ Below w.heap.size w w')) (hE : IntKind.i64.wrap (X1 + X2) = E) :
    Calls Tryz.prog 116 #[.bool neg, .agg (pt c1 m1 X1 r1), .agg (pt c2 m2 X2 r2)] w fun r w' => r = .returned (.agg (rg neg S E false)) ∧ Below w.heap.size w w' := by
  have hat := cw_at 6
  have hz := cw6z
  have hff := cw6f
  have hs0 := st0
  have hcs : ∀ x, ((cw 6 x).size = 6) = True := fun x => eq_true (cw_size 6 x)
  have hp1 := rgf
  have hp3 := rgz
  have hp4 := st_r0
  have hzi := cw_zip
  have hls := rg_sets
  have hp5 : ∀ (c : Bool) (s : Nat) (x : Int) (r : Bool), ((rg c s x r).size = 9) = True := fun _ _ _ _ => eq_true rfl
  have hq1 := ptf
  have hq5 : ∀ (c s : Nat) (x : Int) (r : Nat), ((pt c s x r).size = 14) = True := fun _ _ _ _ => eq_true rfl
  obtain ⟨Rx_0, Ry_0, Rz_0, B0⟩ := opn3 w (Obj.cells (pt c1 m1 X1 r1) 54) (Obj.cells (pt c2 m2 X2 r2) 54) (Obj.cells (rg false 0 0 false) 62)
  go_enter Tryz.func116, Tryz.ntmps116
  obtain ⟨cx_0_0, cx_0_1, cx_0_2, cx_0_3, cx_0_4, cx_0_5, cx_0_6, cx_0_7, cx_0_8, cx_0_9, cx_0_10, cx_0_11, cx_0_12, cx_0_13⟩ := pt_cells Rx_0
  obtain ⟨cy_0_0, cy_0_1, cy_0_2, cy_0_3, cy_0_4, cy_0_5, cy_0_6, cy_0_7, cy_0_8, cy_0_9, cy_0_10, cy_0_11, cy_0_12, cy_0_13⟩ := pt_cells Ry_0
  obtain ⟨cz_0_0, cz_0_1, cz_0_2, cz_0_3, cz_0_4, cz_0_5, cz_0_6, cz_0_7, cz_0_8⟩ := rg_cells Rz_0
  go_wp2_with fail
  refine (KM.out _).mono ?_
  rintro r w1 ⟨rfl, b1⟩
  have B1 : Below w.heap.size w w1 := btr B0 b1
  have Rx_1 := heap_of b1 _ _ _ Rx_0
  have Ry_1 := heap_of b1 _ _ _ Ry_0
  have Rz_1 := heap_of b1 _ _ _ Rz_0
  clear b1 B0 Rx_0 cx_0_0 cx_0_1 cx_0_2 cx_0_3 cx_0_4 cx_0_5 cx_0_6 cx_0_7 cx_0_8 cx_0_9 cx_0_10 cx_0_11 cx_0_12 cx_0_13 Ry_0 cy_0_0 cy_0_1 cy_0_2 cy_0_3 cy_0_4 cy_0_5 cy_0_6 cy_0_7 cy_0_8 cy_0_9 cy_0_10 cy_0_11 cy_0_12 cy_0_13 Rz_0 cz_0_0 cz_0_1 cz_0_2 cz_0_3 cz_0_4 cz_0_5 cz_0_6 cz_0_7 cz_0_8
  obtain ⟨cx_1_0, cx_1_1, cx_1_2, cx_1_3, cx_1_4, cx_1_5, cx_1_6, cx_1_7, cx_1_8, cx_1_9, cx_1_10, cx_1_11, cx_1_12, cx_1_13⟩ := pt_cells Rx_1
  obtain ⟨cy_1_0, cy_1_1, cy_1_2, cy_1_3, cy_1_4, cy_1_5, cy_1_6, cy_1_7, cy_1_8, cy_1_9, cy_1_10, cy_1_11, cy_1_12, cy_1_13⟩ := pt_cells Ry_1
  obtain ⟨cz_1_0, cz_1_1, cz_1_2, cz_1_3, cz_1_4, cz_1_5, cz_1_6, cz_1_7, cz_1_8⟩ := rg_cells Rz_1
  have S2 := box B1.size
  have Lx_2 : Box (w.heap.size < w1.heap.size) := box (Array.getElem?_eq_some_iff.1 Rx_1).1
  have Ly_2 : Box (w.heap.size + 1 < w1.heap.size) := box (Array.getElem?_eq_some_iff.1 Ry_1).1
  have Lz_2 : Box (w.heap.size + 1 + 1 < w1.heap.size) := box (Array.getElem?_eq_some_iff.1 Rz_1).1
  have Rs_2 := heap_alloc_last w1 (Obj.cells (cw 6 S) 52)
  have B2 := btr B1 (bal w1 (Obj.cells (cw 6 S) 52))
  have Rx_2 := heap_of (bal w1 (Obj.cells (cw 6 S) 52)) _ _ _ Rx_1
  have Ry_2 := heap_of (bal w1 (Obj.cells (cw 6 S) 52)) _ _ _ Ry_1
  have Rz_2 := heap_of (bal w1 (Obj.cells (cw 6 S) 52)) _ _ _ Rz_1
  clear B1 Rx_1 cx_1_0 cx_1_1 cx_1_2 cx_1_3 cx_1_4 cx_1_5 cx_1_6 cx_1_7 cx_1_8 cx_1_9 cx_1_10 cx_1_11 cx_1_12 cx_1_13 Ry_1 cy_1_0 cy_1_1 cy_1_2 cy_1_3 cy_1_4 cy_1_5 cy_1_6 cy_1_7 cy_1_8 cy_1_9 cy_1_10 cy_1_11 cy_1_12 cy_1_13 Rz_1 cz_1_0 cz_1_1 cz_1_2 cz_1_3 cz_1_4 cz_1_5 cz_1_6 cz_1_7 cz_1_8
  obtain ⟨cx_2_0, cx_2_1, cx_2_2, cx_2_3, cx_2_4, cx_2_5, cx_2_6, cx_2_7, cx_2_8, cx_2_9, cx_2_10, cx_2_11, cx_2_12, cx_2_13⟩ := pt_cells Rx_2
  obtain ⟨cy_2_0, cy_2_1, cy_2_2, cy_2_3, cy_2_4, cy_2_5, cy_2_6, cy_2_7, cy_2_8, cy_2_9, cy_2_10, cy_2_11, cy_2_12, cy_2_13⟩ := pt_cells Ry_2
  obtain ⟨cz_2_0, cz_2_1, cz_2_2, cz_2_3, cz_2_4, cz_2_5, cz_2_6, cz_2_7, cz_2_8⟩ := rg_cells Rz_2
  have cs_2_0 := row_cell Rs_2
  have hstz := st_r (w1.alloc (Obj.cells (cw 6 S) 52)) (w.heap.size + 1 + 1) neg S E false false 0 0 false Rz_2
  have RZ := setRow_row (c' := rg neg S E false) Rz_2
  obtain ⟨dz0, dz1, dz2, dz3, dz4, dz5, dz6, dz7, dz8⟩ := rg_cells RZ
  have bz := bel_set (c := rg neg S E false) B2 (show w.heap.size ≤ w.heap.size + 1 + 1 by first | exact Nat.le_refl _ | omega | (have := S2.out; have := Lx_2.out; have := Ly_2.out; have := Lz_2.out; omega))
  go_wp2
  exact bodyPost_ret (v := .agg (rg neg S E false)) (by simp [results, Tryz.results116, go_sem, dz0, dz1, dz2, dz3, dz4, dz5, dz6, dz7, dz8, rgf] <;> rfl) rfl ⟨rfl, bz⟩
set_option maxRecDepth 100000 in
set_option maxHeartbeats 8000000 in
theorem mu_all (f m : Int) (x1 y1 x2 y2 u v : Nat) (c1 m1 : Nat) (X1 : Int) (r1 c2 m2 : Nat) (X2 : Int) (r2 : Nat) (s1 s2 neg : Bool) (S : Nat) (X fl : Int) (w : World) (hng : (!(s1 == s2)) = neg)
    (KU1 : Box (∀ w, FAt w → Calls Tryz.prog 33 #[.int .u8 f, .agg #[.int .u64 (x1 : Nat), .int .u64 (y1 : Nat)]] w fun r w' => r = .returned (.tuple #[.agg (pt c1 m1 X1 r1), .int .i64 0]) ∧ Below w.heap.size w w'))
    (KU2 : Box (∀ w, FAt w → Calls Tryz.prog 33 #[.int .u8 f, .agg #[.int .u64 (x2 : Nat), .int .u64 (y2 : Nat)]] w fun r w' => r = .returned (.tuple #[.agg (pt c2 m2 X2 r2), .int .i64 0]) ∧ Below w.heap.size w w'))
    (KS1 : Box (∀ w, FAt w → Calls Tryz.prog 22 #[.int .u8 f, .agg #[.int .u64 (x1 : Nat), .int .u64 (y1 : Nat)]] w fun r w' => r = .returned (.bool s1) ∧ Below w.heap.size w w'))
    (KS2 : Box (∀ w, FAt w → Calls Tryz.prog 22 #[.int .u8 f, .agg #[.int .u64 (x2 : Nat), .int .u64 (y2 : Nat)]] w fun r w' => r = .returned (.bool s2) ∧ Below w.heap.size w w'))
    (H : Box ((((c1 : Int) == 8) = true ∧ Box (∀ w, FAt w → Calls Tryz.prog 35 #[.int .u8 f] w fun r w' => r = .returned (.agg #[.int .u64 (u : Nat), .int .u64 (v : Nat)]) ∧ Below w.heap.size w w') ∧ fl = 16) ∨
      (((c1 : Int) == 8) = false ∧ ((c2 : Int) == 8) = true ∧ Box (∀ w, FAt w → Calls Tryz.prog 35 #[.int .u8 f] w fun r w' => r = .returned (.agg #[.int .u64 (u : Nat), .int .u64 (v : Nat)]) ∧ Below w.heap.size w w') ∧ fl = 16) ∨
      (((c1 : Int) == 8) = false ∧ ((c2 : Int) == 8) = false ∧ ((c1 : Int) == 9) = true ∧ Box (∀ w, FAt w → Calls Tryz.prog 35 #[.int .u8 f] w fun r w' => r = .returned (.agg #[.int .u64 (u : Nat), .int .u64 (v : Nat)]) ∧ Below w.heap.size w w') ∧ fl = 0) ∨
      (((c1 : Int) == 8) = false ∧ ((c2 : Int) == 8) = false ∧ ((c1 : Int) == 9) = false ∧ ((c2 : Int) == 9) = true ∧ Box (∀ w, FAt w → Calls Tryz.prog 35 #[.int .u8 f] w fun r w' => r = .returned (.agg #[.int .u64 (u : Nat), .int .u64 (v : Nat)]) ∧ Below w.heap.size w w') ∧ fl = 0) ∨
      (((c1 : Int) == 8) = false ∧ ((c2 : Int) == 8) = false ∧ ((c1 : Int) == 9) = false ∧ ((c2 : Int) == 9) = false ∧ Box (∀ w, Calls Tryz.prog 115 #[.int .u8 (c1 : Nat), .int .u8 (c2 : Nat)] w fun r w' => r = .returned (.bool true) ∧ Below w.heap.size w w') ∧ Box (∀ w, FAt w → Calls Tryz.prog 35 #[.int .u8 f] w fun r w' => r = .returned (.agg #[.int .u64 (u : Nat), .int .u64 (v : Nat)]) ∧ Below w.heap.size w w') ∧ fl = 16) ∨
      (((c1 : Int) == 8) = false ∧ ((c2 : Int) == 8) = false ∧ ((c1 : Int) == 9) = false ∧ ((c2 : Int) == 9) = false ∧ Box (∀ w, Calls Tryz.prog 115 #[.int .u8 (c1 : Nat), .int .u8 (c2 : Nat)] w fun r w' => r = .returned (.bool false) ∧ Below w.heap.size w w') ∧ Box (∀ w, Calls Tryz.prog 115 #[.int .u8 (c2 : Nat), .int .u8 (c1 : Nat)] w fun r w' => r = .returned (.bool true) ∧ Below w.heap.size w w') ∧ Box (∀ w, FAt w → Calls Tryz.prog 35 #[.int .u8 f] w fun r w' => r = .returned (.agg #[.int .u64 (u : Nat), .int .u64 (v : Nat)]) ∧ Below w.heap.size w w') ∧ fl = 16) ∨
      (((c1 : Int) == 8) = false ∧ ((c2 : Int) == 8) = false ∧ ((c1 : Int) == 9) = false ∧ ((c2 : Int) == 9) = false ∧ Box (∀ w, Calls Tryz.prog 115 #[.int .u8 (c1 : Nat), .int .u8 (c2 : Nat)] w fun r w' => r = .returned (.bool false) ∧ Below w.heap.size w w') ∧ Box (∀ w, Calls Tryz.prog 115 #[.int .u8 (c2 : Nat), .int .u8 (c1 : Nat)] w fun r w' => r = .returned (.bool false) ∧ Below w.heap.size w w') ∧ Box (∀ w, Calls Tryz.prog 70 #[.int .u8 (c1 : Nat)] w fun r w' => r = .returned (.bool true) ∧ Below w.heap.size w w') ∧ Box (∀ w, FAt w → Calls Tryz.prog 36 #[.int .u8 f, .bool neg] w fun r w' => r = .returned (.agg #[.int .u64 (u : Nat), .int .u64 (v : Nat)]) ∧ Below w.heap.size w w') ∧ fl = 0) ∨
      (((c1 : Int) == 8) = false ∧ ((c2 : Int) == 8) = false ∧ ((c1 : Int) == 9) = false ∧ ((c2 : Int) == 9) = false ∧ Box (∀ w, Calls Tryz.prog 115 #[.int .u8 (c1 : Nat), .int .u8 (c2 : Nat)] w fun r w' => r = .returned (.bool false) ∧ Below w.heap.size w w') ∧ Box (∀ w, Calls Tryz.prog 115 #[.int .u8 (c2 : Nat), .int .u8 (c1 : Nat)] w fun r w' => r = .returned (.bool false) ∧ Below w.heap.size w w') ∧ Box (∀ w, Calls Tryz.prog 70 #[.int .u8 (c1 : Nat)] w fun r w' => r = .returned (.bool false) ∧ Below w.heap.size w w') ∧ Box (∀ w, Calls Tryz.prog 70 #[.int .u8 (c2 : Nat)] w fun r w' => r = .returned (.bool true) ∧ Below w.heap.size w w') ∧ Box (∀ w, FAt w → Calls Tryz.prog 36 #[.int .u8 f, .bool neg] w fun r w' => r = .returned (.agg #[.int .u64 (u : Nat), .int .u64 (v : Nat)]) ∧ Below w.heap.size w w') ∧ fl = 0) ∨
      (((c1 : Int) == 8) = false ∧ ((c2 : Int) == 8) = false ∧ ((c1 : Int) == 9) = false ∧ ((c2 : Int) == 9) = false ∧ Box (∀ w, Calls Tryz.prog 115 #[.int .u8 (c1 : Nat), .int .u8 (c2 : Nat)] w fun r w' => r = .returned (.bool false) ∧ Below w.heap.size w w') ∧ Box (∀ w, Calls Tryz.prog 115 #[.int .u8 (c2 : Nat), .int .u8 (c1 : Nat)] w fun r w' => r = .returned (.bool false) ∧ Below w.heap.size w w') ∧ Box (∀ w, Calls Tryz.prog 70 #[.int .u8 (c1 : Nat)] w fun r w' => r = .returned (.bool false) ∧ Below w.heap.size w w') ∧ Box (∀ w, Calls Tryz.prog 70 #[.int .u8 (c2 : Nat)] w fun r w' => r = .returned (.bool false) ∧ Below w.heap.size w w') ∧ Box (∀ w, Calls Tryz.prog 116 #[.bool neg, .agg (pt c1 m1 X1 r1), .agg (pt c2 m2 X2 r2)] w fun r w' => r = .returned (.agg (rg neg S X false)) ∧ Below w.heap.size w w') ∧ Box (∀ w, FAt w → Calls Tryz.prog 37 #[.int .u8 f, .int .u8 m, .agg (rg neg S X false)] w fun r w' => r = .returned (.tuple #[.agg #[.int .u64 (u : Nat), .int .u64 (v : Nat)], .int .u8 fl, .int .i64 0]) ∧ Below w.heap.size w w'))))
    (hT : FAt w) : Calls Tryz.prog 59 #[.int .u8 f, .int .u8 m, .agg #[.int .u64 (x1 : Nat), .int .u64 (y1 : Nat)], .agg #[.int .u64 (x2 : Nat), .int .u64 (y2 : Nat)]] w fun r w' => r = .returned (.tuple #[.agg #[.int .u64 (u : Nat), .int .u64 (v : Nat)], .int .u8 fl, .int .i64 0]) ∧ Below w.heap.size w w' := by
  have FF := box hT
  clear hT
  have hat := cw_at 6
  have hz := cw6z
  have hff := cw6f
  have hs0 := st0
  have hcs : ∀ x, ((cw 6 x).size = 6) = True := fun x => eq_true (cw_size 6 x)
  have hp1 := rgf
  have hp5 : ∀ (c : Bool) (s : Nat) (x : Int) (r : Bool), ((rg c s x r).size = 9) = True := fun _ _ _ _ => eq_true rfl
  have hq1 := ptf
  have hq3 := ptz
  have hq4 := st_p0
  have hq5 : ∀ (c s : Nat) (x : Int) (r : Nat), ((pt c s x r).size = 14) = True := fun _ _ _ _ => eq_true rfl
  obtain ⟨Ra_0, Rb_0, Rz_0, B0⟩ := opn3 w (Obj.cells #[.int .u64 (x1 : Nat), .int .u64 (y1 : Nat)] 26) (Obj.cells #[.int .u64 (x2 : Nat), .int .u64 (y2 : Nat)] 26) (Obj.cells #[.int .u64 0, .int .u64 0] 26)
  go_enter Tryz.func59, Tryz.ntmps59
  obtain ⟨ca_0_0, ca_0_1⟩ := cells2s Ra_0
  obtain ⟨cb_0_0, cb_0_1⟩ := cells2s Rb_0
  go_wp2_with fail
  refine (KU1.out _ (fatB FF.out B0)).mono ?_
  rintro r w1 ⟨rfl, b1⟩
  have B1 : Below w.heap.size w w1 := btr B0 b1
  have Ra_1 := heap_of b1 _ _ _ Ra_0
  have Rb_1 := heap_of b1 _ _ _ Rb_0
  have Rz_1 := heap_of b1 _ _ _ Rz_0
  clear b1 B0 Ra_0 ca_0_0 ca_0_1 Rb_0 cb_0_0 cb_0_1 Rz_0
  obtain ⟨ca_1_0, ca_1_1⟩ := cells2s Ra_1
  obtain ⟨cb_1_0, cb_1_1⟩ := cells2s Rb_1
  have S2 := box B1.size
  have La_2 : Box (w.heap.size < w1.heap.size) := box (Array.getElem?_eq_some_iff.1 Ra_1).1
  have Lb_2 : Box (w.heap.size + 1 < w1.heap.size) := box (Array.getElem?_eq_some_iff.1 Rb_1).1
  have Lz_2 : Box (w.heap.size + 1 + 1 < w1.heap.size) := box (Array.getElem?_eq_some_iff.1 Rz_1).1
  have Rx_2 := heap_alloc_last w1 (Obj.cells (pt c1 m1 X1 r1) 54)
  have B2 := btr B1 (bal w1 (Obj.cells (pt c1 m1 X1 r1) 54))
  have Ra_2 := heap_of (bal w1 (Obj.cells (pt c1 m1 X1 r1) 54)) _ _ _ Ra_1
  have Rb_2 := heap_of (bal w1 (Obj.cells (pt c1 m1 X1 r1) 54)) _ _ _ Rb_1
  have Rz_2 := heap_of (bal w1 (Obj.cells (pt c1 m1 X1 r1) 54)) _ _ _ Rz_1
  clear B1 Ra_1 ca_1_0 ca_1_1 Rb_1 cb_1_0 cb_1_1 Rz_1
  obtain ⟨ca_2_0, ca_2_1⟩ := cells2s Ra_2
  obtain ⟨cb_2_0, cb_2_1⟩ := cells2s Rb_2
  have cx_2_0 := (pt_cells Rx_2).1
  go_wp2_with fail
  refine (KU2.out _ (fatB FF.out B2)).mono ?_
  rintro r w3 ⟨rfl, b3⟩
  have B3 : Below w.heap.size w w3 := btr B2 b3
  have Ra_3 := heap_of b3 _ _ _ Ra_2
  have Rb_3 := heap_of b3 _ _ _ Rb_2
  have Rz_3 := heap_of b3 _ _ _ Rz_2
  have Rx_3 := heap_of b3 _ _ _ Rx_2
  clear b3 B2 Ra_2 ca_2_0 ca_2_1 Rb_2 cb_2_0 cb_2_1 Rz_2 Rx_2 cx_2_0
  obtain ⟨ca_3_0, ca_3_1⟩ := cells2s Ra_3
  obtain ⟨cb_3_0, cb_3_1⟩ := cells2s Rb_3
  have cx_3_0 := (pt_cells Rx_3).1
  have S4 := box B3.size
  have La_4 : Box (w.heap.size < w3.heap.size) := box (Array.getElem?_eq_some_iff.1 Ra_3).1
  have Lb_4 : Box (w.heap.size + 1 < w3.heap.size) := box (Array.getElem?_eq_some_iff.1 Rb_3).1
  have Lz_4 : Box (w.heap.size + 1 + 1 < w3.heap.size) := box (Array.getElem?_eq_some_iff.1 Rz_3).1
  have Lx_4 : Box (w1.heap.size < w3.heap.size) := box (Array.getElem?_eq_some_iff.1 Rx_3).1
  have Ry_4 := heap_alloc_last w3 (Obj.cells (pt c2 m2 X2 r2) 54)
  have B4 := btr B3 (bal w3 (Obj.cells (pt c2 m2 X2 r2) 54))
  have Ra_4 := heap_of (bal w3 (Obj.cells (pt c2 m2 X2 r2) 54)) _ _ _ Ra_3
  have Rb_4 := heap_of (bal w3 (Obj.cells (pt c2 m2 X2 r2) 54)) _ _ _ Rb_3
  have Rz_4 := heap_of (bal w3 (Obj.cells (pt c2 m2 X2 r2) 54)) _ _ _ Rz_3
  have Rx_4 := heap_of (bal w3 (Obj.cells (pt c2 m2 X2 r2) 54)) _ _ _ Rx_3
  clear B3 Ra_3 ca_3_0 ca_3_1 Rb_3 cb_3_0 cb_3_1 Rz_3 Rx_3 cx_3_0
  obtain ⟨ca_4_0, ca_4_1⟩ := cells2s Ra_4
  obtain ⟨cb_4_0, cb_4_1⟩ := cells2s Rb_4
  have cx_4_0 := (pt_cells Rx_4).1
  have cy_4_0 := (pt_cells Ry_4).1
  have sS : Box (∀ W W1 : World, (Below w.heap.size w W ∧ W.heap[w.heap.size]? = some (Obj.cells #[.int .u64 (x1 : Nat), .int .u64 (y1 : Nat)] 26) ∧ W.heap[w.heap.size + 1]? = some (Obj.cells #[.int .u64 (x2 : Nat), .int .u64 (y2 : Nat)] 26) ∧ W.heap[w.heap.size + 1 + 1]? = some (Obj.cells #[.int .u64 0, .int .u64 0] 26) ∧ W.heap[w1.heap.size]? = some (Obj.cells (pt c1 m1 X1 r1) 54) ∧ W.heap[w3.heap.size]? = some (Obj.cells (pt c2 m2 X2 r2) 54) ∧ W.cell? ⟨w.heap.size, 0, none⟩ = some (.int .u64 (x1 : Nat)) ∧ W.cell? ⟨w.heap.size, 1, none⟩ = some (.int .u64 (y1 : Nat)) ∧ W.cell? ⟨w.heap.size + 1, 0, none⟩ = some (.int .u64 (x2 : Nat)) ∧ W.cell? ⟨w.heap.size + 1, 1, none⟩ = some (.int .u64 (y2 : Nat))) → Below W.heap.size W W1 → (Below w.heap.size w W1 ∧ W1.heap[w.heap.size]? = some (Obj.cells #[.int .u64 (x1 : Nat), .int .u64 (y1 : Nat)] 26) ∧ W1.heap[w.heap.size + 1]? = some (Obj.cells #[.int .u64 (x2 : Nat), .int .u64 (y2 : Nat)] 26) ∧ W1.heap[w.heap.size + 1 + 1]? = some (Obj.cells #[.int .u64 0, .int .u64 0] 26) ∧ W1.heap[w1.heap.size]? = some (Obj.cells (pt c1 m1 X1 r1) 54) ∧ W1.heap[w3.heap.size]? = some (Obj.cells (pt c2 m2 X2 r2) 54) ∧ W1.cell? ⟨w.heap.size, 0, none⟩ = some (.int .u64 (x1 : Nat)) ∧ W1.cell? ⟨w.heap.size, 1, none⟩ = some (.int .u64 (y1 : Nat)) ∧ W1.cell? ⟨w.heap.size + 1, 0, none⟩ = some (.int .u64 (x2 : Nat)) ∧ W1.cell? ⟨w.heap.size + 1, 1, none⟩ = some (.int .u64 (y2 : Nat)))) := box (fun W W1 h b => ⟨btr h.1 b, heap_of b _ _ _ h.2.1, heap_of b _ _ _ h.2.2.1, heap_of b _ _ _ h.2.2.2.1, heap_of b _ _ _ h.2.2.2.2.1, heap_of b _ _ _ h.2.2.2.2.2.1, cell7 (heap_of b _ _ _ h.2.1) 0 _ rfl, cell7 (heap_of b _ _ _ h.2.1) 1 _ rfl, cell7 (heap_of b _ _ _ h.2.2.1) 0 _ rfl, cell7 (heap_of b _ _ _ h.2.2.1) 1 _ rfl⟩)
  have s0 : Below w.heap.size w ((w3.alloc (Obj.cells (pt c2 m2 X2 r2) 54))).drew ∧ ((w3.alloc (Obj.cells (pt c2 m2 X2 r2) 54))).drew.heap[w.heap.size]? = some (Obj.cells #[.int .u64 (x1 : Nat), .int .u64 (y1 : Nat)] 26) ∧ ((w3.alloc (Obj.cells (pt c2 m2 X2 r2) 54))).drew.heap[w.heap.size + 1]? = some (Obj.cells #[.int .u64 (x2 : Nat), .int .u64 (y2 : Nat)] 26) ∧ ((w3.alloc (Obj.cells (pt c2 m2 X2 r2) 54))).drew.heap[w.heap.size + 1 + 1]? = some (Obj.cells #[.int .u64 0, .int .u64 0] 26) ∧ ((w3.alloc (Obj.cells (pt c2 m2 X2 r2) 54))).drew.heap[w1.heap.size]? = some (Obj.cells (pt c1 m1 X1 r1) 54) ∧ ((w3.alloc (Obj.cells (pt c2 m2 X2 r2) 54))).drew.heap[w3.heap.size]? = some (Obj.cells (pt c2 m2 X2 r2) 54) ∧ ((w3.alloc (Obj.cells (pt c2 m2 X2 r2) 54))).drew.cell? ⟨w.heap.size, 0, none⟩ = some (.int .u64 (x1 : Nat)) ∧ ((w3.alloc (Obj.cells (pt c2 m2 X2 r2) 54))).drew.cell? ⟨w.heap.size, 1, none⟩ = some (.int .u64 (y1 : Nat)) ∧ ((w3.alloc (Obj.cells (pt c2 m2 X2 r2) 54))).drew.cell? ⟨w.heap.size + 1, 0, none⟩ = some (.int .u64 (x2 : Nat)) ∧ ((w3.alloc (Obj.cells (pt c2 m2 X2 r2) 54))).drew.cell? ⟨w.heap.size + 1, 1, none⟩ = some (.int .u64 (y2 : Nat)) := ⟨B4.drew, Ra_4, Rb_4, Rz_4, Rx_4, Ry_4, cell7 (Ra_4) 0 _ rfl, cell7 (Ra_4) 1 _ rfl, cell7 (Rb_4) 0 _ rfl, cell7 (Rb_4) 1 _ rfl⟩
  go_wp2_with fail
  go_region_held3 (fun W => Below w.heap.size w W ∧ W.heap[w.heap.size]? = some (Obj.cells #[.int .u64 (x1 : Nat), .int .u64 (y1 : Nat)] 26) ∧ W.heap[w.heap.size + 1]? = some (Obj.cells #[.int .u64 (x2 : Nat), .int .u64 (y2 : Nat)] 26) ∧ W.heap[w.heap.size + 1 + 1]? = some (Obj.cells #[.int .u64 0, .int .u64 0] 26) ∧ W.heap[w1.heap.size]? = some (Obj.cells (pt c1 m1 X1 r1) 54) ∧ W.heap[w3.heap.size]? = some (Obj.cells (pt c2 m2 X2 r2) 54) ∧ W.cell? ⟨w.heap.size, 0, none⟩ = some (.int .u64 (x1 : Nat)) ∧ W.cell? ⟨w.heap.size, 1, none⟩ = some (.int .u64 (y1 : Nat)) ∧ W.cell? ⟨w.heap.size + 1, 0, none⟩ = some (.int .u64 (x2 : Nat)) ∧ W.cell? ⟨w.heap.size + 1, 1, none⟩ = some (.int .u64 (y2 : Nat))) (first | exact s1 | exact s0)
    (first | (go_at_call_of 22 (Value.agg #[.int .u64 (x1 : Nat), .int .u64 (y1 : Nat)]); (first | refine (KS1.out _ (fatB FF.out (And.left s1))).mono ?_ | refine (KS1.out _ (fatB FF.out (And.left s0))).mono ?_); rintro r wq ⟨rfl, bq⟩; (first | have s1 := sS.out _ _ s1 bq | have s1 := sS.out _ _ s0 bq); clear bq) | (go_at_call_of 22 (Value.agg #[.int .u64 (x2 : Nat), .int .u64 (y2 : Nat)]); (first | refine (KS2.out _ (fatB FF.out (And.left s1))).mono ?_ | refine (KS2.out _ (fatB FF.out (And.left s0))).mono ?_); rintro r wq ⟨rfl, bq⟩; (first | have s1 := sS.out _ _ s1 bq | have s1 := sS.out _ _ s0 bq); clear bq) | fail)
  have B5 := (And.left s1)
  have Ra_5 := s1.2.1
  have Rb_5 := s1.2.2.1
  have Rz_5 := s1.2.2.2.1
  have Rx_5 := s1.2.2.2.2.1
  have Ry_5 := s1.2.2.2.2.2.1
  clear s0 s1 sS B4 Ra_4 ca_4_0 ca_4_1 Rb_4 cb_4_0 cb_4_1 Rz_4 Rx_4 cx_4_0 Ry_4 cy_4_0
  obtain ⟨ca_5_0, ca_5_1⟩ := cells2s Ra_5
  obtain ⟨cb_5_0, cb_5_1⟩ := cells2s Rb_5
  have cx_5_0 := (pt_cells Rx_5).1
  have cy_5_0 := (pt_cells Ry_5).1
  rcases H.out with ⟨h18, KN, rfl⟩ | ⟨h18, h28, KN, rfl⟩ | ⟨h18, h28, h19, KN, rfl⟩ | ⟨h18, h28, h19, h29, KN, rfl⟩ | ⟨h18, h28, h19, h29, KT1, KN, rfl⟩ | ⟨h18, h28, h19, h29, KT1, KT2, KN, rfl⟩ | ⟨h18, h28, h19, h29, KT1, KT2, KE1, KI, rfl⟩ | ⟨h18, h28, h19, h29, KT1, KT2, KE1, KE2, KI, rfl⟩ | ⟨h18, h28, h19, h29, KT1, KT2, KE1, KE2, KX, KP⟩
  · clear H
    go_wp2_with fail
    refine (KN.out _ (fatB FF.out B5)).mono ?_
    rintro r w6 ⟨rfl, b6⟩
    have B6 : Below w.heap.size w w6 := btr B5 b6
    have Ra_6 := heap_of b6 _ _ _ Ra_5
    have Rb_6 := heap_of b6 _ _ _ Rb_5
    have Rz_6 := heap_of b6 _ _ _ Rz_5
    have Rx_6 := heap_of b6 _ _ _ Rx_5
    have Ry_6 := heap_of b6 _ _ _ Ry_5
    clear b6 B5 Ra_5 ca_5_0 ca_5_1 Rb_5 cb_5_0 cb_5_1 Rz_5 Rx_5 cx_5_0 Ry_5 cy_5_0
    obtain ⟨ca_6_0, ca_6_1⟩ := cells2s Ra_6
    obtain ⟨cb_6_0, cb_6_1⟩ := cells2s Rb_6
    have cx_6_0 := (pt_cells Rx_6).1
    have cy_6_0 := (pt_cells Ry_6).1
    obtain ⟨cz_6_0, cz_6_1⟩ := cells2s Rz_6
    have q0 := fz (k := 0) Rz_6
    have q1 := fz (k := 1) Rz_6
    obtain ⟨E0, E1⟩ := set2_cells Rz_6 (.int .u64 (u : Nat)) (.int .u64 (v : Nat))
    go_wp2
    exact bodyPost_ret (v := .tuple #[.agg #[.int .u64 (u : Nat), .int .u64 (v : Nat)], .int .u8 16, .int .i64 0]) (by simp [results, Tryz.results59, go_sem, E0, E1]) rfl ⟨rfl, set2_below B6 (by first | exact Nat.le_refl _ | omega | (have := S2.out; have := La_2.out; have := Lb_2.out; have := Lz_2.out; have := S4.out; have := La_4.out; have := Lb_4.out; have := Lz_4.out; have := Lx_4.out; omega)) _ _⟩
  · clear H
    go_wp2_with fail
    refine (KN.out _ (fatB FF.out B5)).mono ?_
    rintro r w6 ⟨rfl, b6⟩
    have B6 : Below w.heap.size w w6 := btr B5 b6
    have Ra_6 := heap_of b6 _ _ _ Ra_5
    have Rb_6 := heap_of b6 _ _ _ Rb_5
    have Rz_6 := heap_of b6 _ _ _ Rz_5
    have Rx_6 := heap_of b6 _ _ _ Rx_5
    have Ry_6 := heap_of b6 _ _ _ Ry_5
    clear b6 B5 Ra_5 ca_5_0 ca_5_1 Rb_5 cb_5_0 cb_5_1 Rz_5 Rx_5 cx_5_0 Ry_5 cy_5_0
    obtain ⟨ca_6_0, ca_6_1⟩ := cells2s Ra_6
    obtain ⟨cb_6_0, cb_6_1⟩ := cells2s Rb_6
    have cx_6_0 := (pt_cells Rx_6).1
    have cy_6_0 := (pt_cells Ry_6).1
    obtain ⟨cz_6_0, cz_6_1⟩ := cells2s Rz_6
    have q0 := fz (k := 0) Rz_6
    have q1 := fz (k := 1) Rz_6
    obtain ⟨E0, E1⟩ := set2_cells Rz_6 (.int .u64 (u : Nat)) (.int .u64 (v : Nat))
    go_wp2
    exact bodyPost_ret (v := .tuple #[.agg #[.int .u64 (u : Nat), .int .u64 (v : Nat)], .int .u8 16, .int .i64 0]) (by simp [results, Tryz.results59, go_sem, E0, E1]) rfl ⟨rfl, set2_below B6 (by first | exact Nat.le_refl _ | omega | (have := S2.out; have := La_2.out; have := Lb_2.out; have := Lz_2.out; have := S4.out; have := La_4.out; have := Lb_4.out; have := Lz_4.out; have := Lx_4.out; omega)) _ _⟩
  · clear H
    go_wp2_with fail
    refine (KN.out _ (fatB FF.out B5)).mono ?_
    rintro r w6 ⟨rfl, b6⟩
    have B6 : Below w.heap.size w w6 := btr B5 b6
    have Ra_6 := heap_of b6 _ _ _ Ra_5
    have Rb_6 := heap_of b6 _ _ _ Rb_5
    have Rz_6 := heap_of b6 _ _ _ Rz_5
    have Rx_6 := heap_of b6 _ _ _ Rx_5
    have Ry_6 := heap_of b6 _ _ _ Ry_5
    clear b6 B5 Ra_5 ca_5_0 ca_5_1 Rb_5 cb_5_0 cb_5_1 Rz_5 Rx_5 cx_5_0 Ry_5 cy_5_0
    obtain ⟨ca_6_0, ca_6_1⟩ := cells2s Ra_6
    obtain ⟨cb_6_0, cb_6_1⟩ := cells2s Rb_6
    have cx_6_0 := (pt_cells Rx_6).1
    have cy_6_0 := (pt_cells Ry_6).1
    obtain ⟨cz_6_0, cz_6_1⟩ := cells2s Rz_6
    have q0 := fz (k := 0) Rz_6
    have q1 := fz (k := 1) Rz_6
    obtain ⟨E0, E1⟩ := set2_cells Rz_6 (.int .u64 (u : Nat)) (.int .u64 (v : Nat))
    go_wp2
    exact bodyPost_ret (v := .tuple #[.agg #[.int .u64 (u : Nat), .int .u64 (v : Nat)], .int .u8 0, .int .i64 0]) (by simp [results, Tryz.results59, go_sem, E0, E1]) rfl ⟨rfl, set2_below B6 (by first | exact Nat.le_refl _ | omega | (have := S2.out; have := La_2.out; have := Lb_2.out; have := Lz_2.out; have := S4.out; have := La_4.out; have := Lb_4.out; have := Lz_4.out; have := Lx_4.out; omega)) _ _⟩
  · clear H
    go_wp2_with fail
    refine (KN.out _ (fatB FF.out B5)).mono ?_
    rintro r w6 ⟨rfl, b6⟩
    have B6 : Below w.heap.size w w6 := btr B5 b6
    have Ra_6 := heap_of b6 _ _ _ Ra_5
    have Rb_6 := heap_of b6 _ _ _ Rb_5
    have Rz_6 := heap_of b6 _ _ _ Rz_5
    have Rx_6 := heap_of b6 _ _ _ Rx_5
    have Ry_6 := heap_of b6 _ _ _ Ry_5
    clear b6 B5 Ra_5 ca_5_0 ca_5_1 Rb_5 cb_5_0 cb_5_1 Rz_5 Rx_5 cx_5_0 Ry_5 cy_5_0
    obtain ⟨ca_6_0, ca_6_1⟩ := cells2s Ra_6
    obtain ⟨cb_6_0, cb_6_1⟩ := cells2s Rb_6
    have cx_6_0 := (pt_cells Rx_6).1
    have cy_6_0 := (pt_cells Ry_6).1
    obtain ⟨cz_6_0, cz_6_1⟩ := cells2s Rz_6
    have q0 := fz (k := 0) Rz_6
    have q1 := fz (k := 1) Rz_6
    obtain ⟨E0, E1⟩ := set2_cells Rz_6 (.int .u64 (u : Nat)) (.int .u64 (v : Nat))
    go_wp2
    exact bodyPost_ret (v := .tuple #[.agg #[.int .u64 (u : Nat), .int .u64 (v : Nat)], .int .u8 0, .int .i64 0]) (by simp [results, Tryz.results59, go_sem, E0, E1]) rfl ⟨rfl, set2_below B6 (by first | exact Nat.le_refl _ | omega | (have := S2.out; have := La_2.out; have := Lb_2.out; have := Lz_2.out; have := S4.out; have := La_4.out; have := Lb_4.out; have := Lz_4.out; have := Lx_4.out; omega)) _ _⟩
  · clear H
    go_wp2_with fail
    refine (KT1.out _).mono ?_
    rintro r w6 ⟨rfl, b6⟩
    have B6 : Below w.heap.size w w6 := btr B5 b6
    have Ra_6 := heap_of b6 _ _ _ Ra_5
    have Rb_6 := heap_of b6 _ _ _ Rb_5
    have Rz_6 := heap_of b6 _ _ _ Rz_5
    have Rx_6 := heap_of b6 _ _ _ Rx_5
    have Ry_6 := heap_of b6 _ _ _ Ry_5
    clear b6 B5 Ra_5 ca_5_0 ca_5_1 Rb_5 cb_5_0 cb_5_1 Rz_5 Rx_5 cx_5_0 Ry_5 cy_5_0
    obtain ⟨ca_6_0, ca_6_1⟩ := cells2s Ra_6
    obtain ⟨cb_6_0, cb_6_1⟩ := cells2s Rb_6
    have cx_6_0 := (pt_cells Rx_6).1
    have cy_6_0 := (pt_cells Ry_6).1
    go_wp2_with fail
    refine (KN.out _ (fatB FF.out B6)).mono ?_
    rintro r w7 ⟨rfl, b7⟩
    have B7 : Below w.heap.size w w7 := btr B6 b7
    have Ra_7 := heap_of b7 _ _ _ Ra_6
    have Rb_7 := heap_of b7 _ _ _ Rb_6
    have Rz_7 := heap_of b7 _ _ _ Rz_6
    have Rx_7 := heap_of b7 _ _ _ Rx_6
    have Ry_7 := heap_of b7 _ _ _ Ry_6
    clear b7 B6 Ra_6 ca_6_0 ca_6_1 Rb_6 cb_6_0 cb_6_1 Rz_6 Rx_6 cx_6_0 Ry_6 cy_6_0
    obtain ⟨ca_7_0, ca_7_1⟩ := cells2s Ra_7
    obtain ⟨cb_7_0, cb_7_1⟩ := cells2s Rb_7
    have cx_7_0 := (pt_cells Rx_7).1
    have cy_7_0 := (pt_cells Ry_7).1
    obtain ⟨cz_7_0, cz_7_1⟩ := cells2s Rz_7
    have q0 := fz (k := 0) Rz_7
    have q1 := fz (k := 1) Rz_7
    obtain ⟨E0, E1⟩ := set2_cells Rz_7 (.int .u64 (u : Nat)) (.int .u64 (v : Nat))
    go_wp2
    exact bodyPost_ret (v := .tuple #[.agg #[.int .u64 (u : Nat), .int .u64 (v : Nat)], .int .u8 16, .int .i64 0]) (by simp [results, Tryz.results59, go_sem, E0, E1]) rfl ⟨rfl, set2_below B7 (by first | exact Nat.le_refl _ | omega | (have := S2.out; have := La_2.out; have := Lb_2.out; have := Lz_2.out; have := S4.out; have := La_4.out; have := Lb_4.out; have := Lz_4.out; have := Lx_4.out; omega)) _ _⟩
  · clear H
    go_wp2_with fail
    refine (KT1.out _).mono ?_
    rintro r w6 ⟨rfl, b6⟩
    have B6 : Below w.heap.size w w6 := btr B5 b6
    have Ra_6 := heap_of b6 _ _ _ Ra_5
    have Rb_6 := heap_of b6 _ _ _ Rb_5
    have Rz_6 := heap_of b6 _ _ _ Rz_5
    have Rx_6 := heap_of b6 _ _ _ Rx_5
    have Ry_6 := heap_of b6 _ _ _ Ry_5
    clear b6 B5 Ra_5 ca_5_0 ca_5_1 Rb_5 cb_5_0 cb_5_1 Rz_5 Rx_5 cx_5_0 Ry_5 cy_5_0
    obtain ⟨ca_6_0, ca_6_1⟩ := cells2s Ra_6
    obtain ⟨cb_6_0, cb_6_1⟩ := cells2s Rb_6
    have cx_6_0 := (pt_cells Rx_6).1
    have cy_6_0 := (pt_cells Ry_6).1
    go_wp2_with fail
    refine (KT2.out _).mono ?_
    rintro r w7 ⟨rfl, b7⟩
    have B7 : Below w.heap.size w w7 := btr B6 b7
    have Ra_7 := heap_of b7 _ _ _ Ra_6
    have Rb_7 := heap_of b7 _ _ _ Rb_6
    have Rz_7 := heap_of b7 _ _ _ Rz_6
    have Rx_7 := heap_of b7 _ _ _ Rx_6
    have Ry_7 := heap_of b7 _ _ _ Ry_6
    clear b7 B6 Ra_6 ca_6_0 ca_6_1 Rb_6 cb_6_0 cb_6_1 Rz_6 Rx_6 cx_6_0 Ry_6 cy_6_0
    obtain ⟨ca_7_0, ca_7_1⟩ := cells2s Ra_7
    obtain ⟨cb_7_0, cb_7_1⟩ := cells2s Rb_7
    have cx_7_0 := (pt_cells Rx_7).1
    have cy_7_0 := (pt_cells Ry_7).1
    go_wp2_with fail
    refine (KN.out _ (fatB FF.out B7)).mono ?_
    rintro r w8 ⟨rfl, b8⟩
    have B8 : Below w.heap.size w w8 := btr B7 b8
    have Ra_8 := heap_of b8 _ _ _ Ra_7
    have Rb_8 := heap_of b8 _ _ _ Rb_7
    have Rz_8 := heap_of b8 _ _ _ Rz_7
    have Rx_8 := heap_of b8 _ _ _ Rx_7
    have Ry_8 := heap_of b8 _ _ _ Ry_7
    clear b8 B7 Ra_7 ca_7_0 ca_7_1 Rb_7 cb_7_0 cb_7_1 Rz_7 Rx_7 cx_7_0 Ry_7 cy_7_0
    obtain ⟨ca_8_0, ca_8_1⟩ := cells2s Ra_8
    obtain ⟨cb_8_0, cb_8_1⟩ := cells2s Rb_8
    have cx_8_0 := (pt_cells Rx_8).1
    have cy_8_0 := (pt_cells Ry_8).1
    obtain ⟨cz_8_0, cz_8_1⟩ := cells2s Rz_8
    have q0 := fz (k := 0) Rz_8
    have q1 := fz (k := 1) Rz_8
    obtain ⟨E0, E1⟩ := set2_cells Rz_8 (.int .u64 (u : Nat)) (.int .u64 (v : Nat))
    go_wp2
    exact bodyPost_ret (v := .tuple #[.agg #[.int .u64 (u : Nat), .int .u64 (v : Nat)], .int .u8 16, .int .i64 0]) (by simp [results, Tryz.results59, go_sem, E0, E1]) rfl ⟨rfl, set2_below B8 (by first | exact Nat.le_refl _ | omega | (have := S2.out; have := La_2.out; have := Lb_2.out; have := Lz_2.out; have := S4.out; have := La_4.out; have := Lb_4.out; have := Lz_4.out; have := Lx_4.out; omega)) _ _⟩
  · clear H
    go_wp2_with fail
    refine (KT1.out _).mono ?_
    rintro r w6 ⟨rfl, b6⟩
    have B6 : Below w.heap.size w w6 := btr B5 b6
    have Ra_6 := heap_of b6 _ _ _ Ra_5
    have Rb_6 := heap_of b6 _ _ _ Rb_5
    have Rz_6 := heap_of b6 _ _ _ Rz_5
    have Rx_6 := heap_of b6 _ _ _ Rx_5
    have Ry_6 := heap_of b6 _ _ _ Ry_5
    clear b6 B5 Ra_5 ca_5_0 ca_5_1 Rb_5 cb_5_0 cb_5_1 Rz_5 Rx_5 cx_5_0 Ry_5 cy_5_0
    obtain ⟨ca_6_0, ca_6_1⟩ := cells2s Ra_6
    obtain ⟨cb_6_0, cb_6_1⟩ := cells2s Rb_6
    have cx_6_0 := (pt_cells Rx_6).1
    have cy_6_0 := (pt_cells Ry_6).1
    go_wp2_with fail
    refine (KT2.out _).mono ?_
    rintro r w7 ⟨rfl, b7⟩
    have B7 : Below w.heap.size w w7 := btr B6 b7
    have Ra_7 := heap_of b7 _ _ _ Ra_6
    have Rb_7 := heap_of b7 _ _ _ Rb_6
    have Rz_7 := heap_of b7 _ _ _ Rz_6
    have Rx_7 := heap_of b7 _ _ _ Rx_6
    have Ry_7 := heap_of b7 _ _ _ Ry_6
    clear b7 B6 Ra_6 ca_6_0 ca_6_1 Rb_6 cb_6_0 cb_6_1 Rz_6 Rx_6 cx_6_0 Ry_6 cy_6_0
    obtain ⟨ca_7_0, ca_7_1⟩ := cells2s Ra_7
    obtain ⟨cb_7_0, cb_7_1⟩ := cells2s Rb_7
    have cx_7_0 := (pt_cells Rx_7).1
    have cy_7_0 := (pt_cells Ry_7).1
    go_wp2_with fail
    refine (KE1.out _).mono ?_
    rintro r w8 ⟨rfl, b8⟩
    have B8 : Below w.heap.size w w8 := btr B7 b8
    have Ra_8 := heap_of b8 _ _ _ Ra_7
    have Rb_8 := heap_of b8 _ _ _ Rb_7
    have Rz_8 := heap_of b8 _ _ _ Rz_7
    have Rx_8 := heap_of b8 _ _ _ Rx_7
    have Ry_8 := heap_of b8 _ _ _ Ry_7
    clear b8 B7 Ra_7 ca_7_0 ca_7_1 Rb_7 cb_7_0 cb_7_1 Rz_7 Rx_7 cx_7_0 Ry_7 cy_7_0
    obtain ⟨ca_8_0, ca_8_1⟩ := cells2s Ra_8
    obtain ⟨cb_8_0, cb_8_1⟩ := cells2s Rb_8
    have cx_8_0 := (pt_cells Rx_8).1
    have cy_8_0 := (pt_cells Ry_8).1
    go_wp2_with fail
    refine (KI.out _ (fatB FF.out B8)).mono ?_
    rintro r w9 ⟨rfl, b9⟩
    have B9 : Below w.heap.size w w9 := btr B8 b9
    have Ra_9 := heap_of b9 _ _ _ Ra_8
    have Rb_9 := heap_of b9 _ _ _ Rb_8
    have Rz_9 := heap_of b9 _ _ _ Rz_8
    have Rx_9 := heap_of b9 _ _ _ Rx_8
    have Ry_9 := heap_of b9 _ _ _ Ry_8
    clear b9 B8 Ra_8 ca_8_0 ca_8_1 Rb_8 cb_8_0 cb_8_1 Rz_8 Rx_8 cx_8_0 Ry_8 cy_8_0
    obtain ⟨ca_9_0, ca_9_1⟩ := cells2s Ra_9
    obtain ⟨cb_9_0, cb_9_1⟩ := cells2s Rb_9
    have cx_9_0 := (pt_cells Rx_9).1
    have cy_9_0 := (pt_cells Ry_9).1
    obtain ⟨cz_9_0, cz_9_1⟩ := cells2s Rz_9
    have q0 := fz (k := 0) Rz_9
    have q1 := fz (k := 1) Rz_9
    obtain ⟨E0, E1⟩ := set2_cells Rz_9 (.int .u64 (u : Nat)) (.int .u64 (v : Nat))
    go_wp2
    exact bodyPost_ret (v := .tuple #[.agg #[.int .u64 (u : Nat), .int .u64 (v : Nat)], .int .u8 0, .int .i64 0]) (by simp [results, Tryz.results59, go_sem, E0, E1]) rfl ⟨rfl, set2_below B9 (by first | exact Nat.le_refl _ | omega | (have := S2.out; have := La_2.out; have := Lb_2.out; have := Lz_2.out; have := S4.out; have := La_4.out; have := Lb_4.out; have := Lz_4.out; have := Lx_4.out; omega)) _ _⟩
  · clear H
    go_wp2_with fail
    refine (KT1.out _).mono ?_
    rintro r w6 ⟨rfl, b6⟩
    have B6 : Below w.heap.size w w6 := btr B5 b6
    have Ra_6 := heap_of b6 _ _ _ Ra_5
    have Rb_6 := heap_of b6 _ _ _ Rb_5
    have Rz_6 := heap_of b6 _ _ _ Rz_5
    have Rx_6 := heap_of b6 _ _ _ Rx_5
    have Ry_6 := heap_of b6 _ _ _ Ry_5
    clear b6 B5 Ra_5 ca_5_0 ca_5_1 Rb_5 cb_5_0 cb_5_1 Rz_5 Rx_5 cx_5_0 Ry_5 cy_5_0
    obtain ⟨ca_6_0, ca_6_1⟩ := cells2s Ra_6
    obtain ⟨cb_6_0, cb_6_1⟩ := cells2s Rb_6
    have cx_6_0 := (pt_cells Rx_6).1
    have cy_6_0 := (pt_cells Ry_6).1
    go_wp2_with fail
    refine (KT2.out _).mono ?_
    rintro r w7 ⟨rfl, b7⟩
    have B7 : Below w.heap.size w w7 := btr B6 b7
    have Ra_7 := heap_of b7 _ _ _ Ra_6
    have Rb_7 := heap_of b7 _ _ _ Rb_6
    have Rz_7 := heap_of b7 _ _ _ Rz_6
    have Rx_7 := heap_of b7 _ _ _ Rx_6
    have Ry_7 := heap_of b7 _ _ _ Ry_6
    clear b7 B6 Ra_6 ca_6_0 ca_6_1 Rb_6 cb_6_0 cb_6_1 Rz_6 Rx_6 cx_6_0 Ry_6 cy_6_0
    obtain ⟨ca_7_0, ca_7_1⟩ := cells2s Ra_7
    obtain ⟨cb_7_0, cb_7_1⟩ := cells2s Rb_7
    have cx_7_0 := (pt_cells Rx_7).1
    have cy_7_0 := (pt_cells Ry_7).1
    go_wp2_with fail
    refine (KE1.out _).mono ?_
    rintro r w8 ⟨rfl, b8⟩
    have B8 : Below w.heap.size w w8 := btr B7 b8
    have Ra_8 := heap_of b8 _ _ _ Ra_7
    have Rb_8 := heap_of b8 _ _ _ Rb_7
    have Rz_8 := heap_of b8 _ _ _ Rz_7
    have Rx_8 := heap_of b8 _ _ _ Rx_7
    have Ry_8 := heap_of b8 _ _ _ Ry_7
    clear b8 B7 Ra_7 ca_7_0 ca_7_1 Rb_7 cb_7_0 cb_7_1 Rz_7 Rx_7 cx_7_0 Ry_7 cy_7_0
    obtain ⟨ca_8_0, ca_8_1⟩ := cells2s Ra_8
    obtain ⟨cb_8_0, cb_8_1⟩ := cells2s Rb_8
    have cx_8_0 := (pt_cells Rx_8).1
    have cy_8_0 := (pt_cells Ry_8).1
    go_wp2_with fail
    refine (KE2.out _).mono ?_
    rintro r w9 ⟨rfl, b9⟩
    have B9 : Below w.heap.size w w9 := btr B8 b9
    have Ra_9 := heap_of b9 _ _ _ Ra_8
    have Rb_9 := heap_of b9 _ _ _ Rb_8
    have Rz_9 := heap_of b9 _ _ _ Rz_8
    have Rx_9 := heap_of b9 _ _ _ Rx_8
    have Ry_9 := heap_of b9 _ _ _ Ry_8
    clear b9 B8 Ra_8 ca_8_0 ca_8_1 Rb_8 cb_8_0 cb_8_1 Rz_8 Rx_8 cx_8_0 Ry_8 cy_8_0
    obtain ⟨ca_9_0, ca_9_1⟩ := cells2s Ra_9
    obtain ⟨cb_9_0, cb_9_1⟩ := cells2s Rb_9
    have cx_9_0 := (pt_cells Rx_9).1
    have cy_9_0 := (pt_cells Ry_9).1
    go_wp2_with fail
    refine (KI.out _ (fatB FF.out B9)).mono ?_
    rintro r w10 ⟨rfl, b10⟩
    have B10 : Below w.heap.size w w10 := btr B9 b10
    have Ra_10 := heap_of b10 _ _ _ Ra_9
    have Rb_10 := heap_of b10 _ _ _ Rb_9
    have Rz_10 := heap_of b10 _ _ _ Rz_9
    have Rx_10 := heap_of b10 _ _ _ Rx_9
    have Ry_10 := heap_of b10 _ _ _ Ry_9
    clear b10 B9 Ra_9 ca_9_0 ca_9_1 Rb_9 cb_9_0 cb_9_1 Rz_9 Rx_9 cx_9_0 Ry_9 cy_9_0
    obtain ⟨ca_10_0, ca_10_1⟩ := cells2s Ra_10
    obtain ⟨cb_10_0, cb_10_1⟩ := cells2s Rb_10
    have cx_10_0 := (pt_cells Rx_10).1
    have cy_10_0 := (pt_cells Ry_10).1
    obtain ⟨cz_10_0, cz_10_1⟩ := cells2s Rz_10
    have q0 := fz (k := 0) Rz_10
    have q1 := fz (k := 1) Rz_10
    obtain ⟨E0, E1⟩ := set2_cells Rz_10 (.int .u64 (u : Nat)) (.int .u64 (v : Nat))
    go_wp2
    exact bodyPost_ret (v := .tuple #[.agg #[.int .u64 (u : Nat), .int .u64 (v : Nat)], .int .u8 0, .int .i64 0]) (by simp [results, Tryz.results59, go_sem, E0, E1]) rfl ⟨rfl, set2_below B10 (by first | exact Nat.le_refl _ | omega | (have := S2.out; have := La_2.out; have := Lb_2.out; have := Lz_2.out; have := S4.out; have := La_4.out; have := Lb_4.out; have := Lz_4.out; have := Lx_4.out; omega)) _ _⟩
  · clear H
    go_wp2_with fail
    refine (KT1.out _).mono ?_
    rintro r w6 ⟨rfl, b6⟩
    have B6 : Below w.heap.size w w6 := btr B5 b6
    have Ra_6 := heap_of b6 _ _ _ Ra_5
    have Rb_6 := heap_of b6 _ _ _ Rb_5
    have Rz_6 := heap_of b6 _ _ _ Rz_5
    have Rx_6 := heap_of b6 _ _ _ Rx_5
    have Ry_6 := heap_of b6 _ _ _ Ry_5
    clear b6 B5 Ra_5 ca_5_0 ca_5_1 Rb_5 cb_5_0 cb_5_1 Rz_5 Rx_5 cx_5_0 Ry_5 cy_5_0
    obtain ⟨ca_6_0, ca_6_1⟩ := cells2s Ra_6
    obtain ⟨cb_6_0, cb_6_1⟩ := cells2s Rb_6
    have cx_6_0 := (pt_cells Rx_6).1
    have cy_6_0 := (pt_cells Ry_6).1
    go_wp2_with fail
    refine (KT2.out _).mono ?_
    rintro r w7 ⟨rfl, b7⟩
    have B7 : Below w.heap.size w w7 := btr B6 b7
    have Ra_7 := heap_of b7 _ _ _ Ra_6
    have Rb_7 := heap_of b7 _ _ _ Rb_6
    have Rz_7 := heap_of b7 _ _ _ Rz_6
    have Rx_7 := heap_of b7 _ _ _ Rx_6
    have Ry_7 := heap_of b7 _ _ _ Ry_6
    clear b7 B6 Ra_6 ca_6_0 ca_6_1 Rb_6 cb_6_0 cb_6_1 Rz_6 Rx_6 cx_6_0 Ry_6 cy_6_0
    obtain ⟨ca_7_0, ca_7_1⟩ := cells2s Ra_7
    obtain ⟨cb_7_0, cb_7_1⟩ := cells2s Rb_7
    have cx_7_0 := (pt_cells Rx_7).1
    have cy_7_0 := (pt_cells Ry_7).1
    go_wp2_with fail
    refine (KE1.out _).mono ?_
    rintro r w8 ⟨rfl, b8⟩
    have B8 : Below w.heap.size w w8 := btr B7 b8
    have Ra_8 := heap_of b8 _ _ _ Ra_7
    have Rb_8 := heap_of b8 _ _ _ Rb_7
    have Rz_8 := heap_of b8 _ _ _ Rz_7
    have Rx_8 := heap_of b8 _ _ _ Rx_7
    have Ry_8 := heap_of b8 _ _ _ Ry_7
    clear b8 B7 Ra_7 ca_7_0 ca_7_1 Rb_7 cb_7_0 cb_7_1 Rz_7 Rx_7 cx_7_0 Ry_7 cy_7_0
    obtain ⟨ca_8_0, ca_8_1⟩ := cells2s Ra_8
    obtain ⟨cb_8_0, cb_8_1⟩ := cells2s Rb_8
    have cx_8_0 := (pt_cells Rx_8).1
    have cy_8_0 := (pt_cells Ry_8).1
    go_wp2_with fail
    refine (KE2.out _).mono ?_
    rintro r w9 ⟨rfl, b9⟩
    have B9 : Below w.heap.size w w9 := btr B8 b9
    have Ra_9 := heap_of b9 _ _ _ Ra_8
    have Rb_9 := heap_of b9 _ _ _ Rb_8
    have Rz_9 := heap_of b9 _ _ _ Rz_8
    have Rx_9 := heap_of b9 _ _ _ Rx_8
    have Ry_9 := heap_of b9 _ _ _ Ry_8
    clear b9 B8 Ra_8 ca_8_0 ca_8_1 Rb_8 cb_8_0 cb_8_1 Rz_8 Rx_8 cx_8_0 Ry_8 cy_8_0
    obtain ⟨ca_9_0, ca_9_1⟩ := cells2s Ra_9
    obtain ⟨cb_9_0, cb_9_1⟩ := cells2s Rb_9
    have cx_9_0 := (pt_cells Rx_9).1
    have cy_9_0 := (pt_cells Ry_9).1
    clear ca_9_0 ca_9_1
    clear cb_9_0 cb_9_1
    obtain ⟨cx_9_0, cx_9_1, cx_9_2, cx_9_3, cx_9_4, cx_9_5, cx_9_6, cx_9_7, cx_9_8, cx_9_9, cx_9_10, cx_9_11, cx_9_12, cx_9_13⟩ := pt_cells Rx_9
    obtain ⟨cy_9_0, cy_9_1, cy_9_2, cy_9_3, cy_9_4, cy_9_5, cy_9_6, cy_9_7, cy_9_8, cy_9_9, cy_9_10, cy_9_11, cy_9_12, cy_9_13⟩ := pt_cells Ry_9
    go_wp2_with fail
    refine (KX.out _).mono ?_
    rintro r w10 ⟨rfl, b10⟩
    have B10 : Below w.heap.size w w10 := btr B9 b10
    have Ra_10 := heap_of b10 _ _ _ Ra_9
    have Rb_10 := heap_of b10 _ _ _ Rb_9
    have Rz_10 := heap_of b10 _ _ _ Rz_9
    have Rx_10 := heap_of b10 _ _ _ Rx_9
    have Ry_10 := heap_of b10 _ _ _ Ry_9
    clear b10 B9 Ra_9 Rb_9 Rz_9 Rx_9 cx_9_0 cx_9_1 cx_9_2 cx_9_3 cx_9_4 cx_9_5 cx_9_6 cx_9_7 cx_9_8 cx_9_9 cx_9_10 cx_9_11 cx_9_12 cx_9_13 Ry_9 cy_9_0 cy_9_1 cy_9_2 cy_9_3 cy_9_4 cy_9_5 cy_9_6 cy_9_7 cy_9_8 cy_9_9 cy_9_10 cy_9_11 cy_9_12 cy_9_13
    obtain ⟨cx_10_0, cx_10_1, cx_10_2, cx_10_3, cx_10_4, cx_10_5, cx_10_6, cx_10_7, cx_10_8, cx_10_9, cx_10_10, cx_10_11, cx_10_12, cx_10_13⟩ := pt_cells Rx_10
    obtain ⟨cy_10_0, cy_10_1, cy_10_2, cy_10_3, cy_10_4, cy_10_5, cy_10_6, cy_10_7, cy_10_8, cy_10_9, cy_10_10, cy_10_11, cy_10_12, cy_10_13⟩ := pt_cells Ry_10
    clear cx_10_0 cx_10_1 cx_10_2 cx_10_3 cx_10_4 cx_10_5 cx_10_6 cx_10_7 cx_10_8 cx_10_9 cx_10_10 cx_10_11 cx_10_12 cx_10_13
    clear cy_10_0 cy_10_1 cy_10_2 cy_10_3 cy_10_4 cy_10_5 cy_10_6 cy_10_7 cy_10_8 cy_10_9 cy_10_10 cy_10_11 cy_10_12 cy_10_13
    go_wp2_with fail
    refine (KP.out _ (fatB FF.out B10)).mono ?_
    rintro r w11 ⟨rfl, b11⟩
    have B11 : Below w.heap.size w w11 := btr B10 b11
    have Ra_11 := heap_of b11 _ _ _ Ra_10
    have Rb_11 := heap_of b11 _ _ _ Rb_10
    have Rz_11 := heap_of b11 _ _ _ Rz_10
    have Rx_11 := heap_of b11 _ _ _ Rx_10
    have Ry_11 := heap_of b11 _ _ _ Ry_10
    clear b11 B10 Ra_10 Rb_10 Rz_10 Rx_10 Ry_10
    obtain ⟨cz_11_0, cz_11_1⟩ := cells2s Rz_11
    have q0 := fz (k := 0) Rz_11
    have q1 := fz (k := 1) Rz_11
    obtain ⟨E0, E1⟩ := set2_cells Rz_11 (.int .u64 (u : Nat)) (.int .u64 (v : Nat))
    go_wp2
    exact bodyPost_ret (v := .tuple #[.agg #[.int .u64 (u : Nat), .int .u64 (v : Nat)], .int .u8 fl, .int .i64 0]) (by simp [results, Tryz.results59, go_sem, E0, E1]) rfl ⟨rfl, set2_below B11 (by first | exact Nat.le_refl _ | omega | (have := S2.out; have := La_2.out; have := Lb_2.out; have := Lz_2.out; have := S4.out; have := La_4.out; have := Lb_4.out; have := Lz_4.out; have := Lx_4.out; omega)) _ _⟩
end Go.Proofs.YtapikkbifdldfaaGreatDoor
namespace Go.Proofs.YtapikkbifdldfaaGreatDoor
set_option maxRecDepth 100000
set_option maxHeartbeats 40000000
set_option maxRecDepth 100000
open Go.RowKit WMath XMath
set_option linter.unusedSimpArgs false
set_option linter.unusedVariables false
theorem ov_inf (f : Int) (neg : Bool) : ovB f 0 neg = eInf f neg := by
  unfold ovB
  rw [if_pos (by unfold gO; rw [if_pos rfl]; rfl)]
theorem nan_or {f : Int} (hf : Is4 f) : eInf f false ||| eInf f false / 2 = eNaN f ∧ eInf f false < 340282366920938463463374607431768211456 ∧ eNaN f < 340282366920938463463374607431768211456 := by
  rcases hf with rfl | rfl | rfl | rfl <;> decide +kernel
theorem kInf_is (f : Int) (hf : Is4 f) (neg : Bool) (u v : Nat) (hv : bv7 (eInf f neg) = (u, v)) (w : World) (hT : FAt w) : Calls Tryz.prog 36 #[.int .u8 f, .bool neg] w fun r w' => r = .returned (.agg #[.int .u64 (u : Nat), .int .u64 (v : Nat)]) ∧ Below w.heap.size w w' :=
  op_inf f neg u v w (box (fun w hT => kover f 0 hf (by decide) neg u v (by rw [ov_inf]; exact hv) w hT)) hT
theorem kNaN_is (f : Int) (hf : Is4 f) (u v : Nat) (hv : bv7 (eNaN f) = (u, v)) (w : World) (hT : FAt w) : Calls Tryz.prog 35 #[.int .u8 f] w fun r w' => r = .returned (.agg #[.int .u64 (u : Nat), .int .u64 (v : Nat)]) ∧ Below w.heap.size w w' := by
  obtain ⟨n1, n2, n3⟩ := nan_or hf
  obtain ⟨iu, iv, hi⟩ : ∃ iu iv, bv7 (eInf f false) = (iu, iv) := ⟨_, _, rfl⟩
  obtain ⟨i1, i2, i3⟩ := bv_lt n2 hi
  obtain ⟨w0, w1⟩ := wd01 n3
  have hQ := lt_Q7 n2
  have hQ2 := lt_Q7 n3
  have hQ3 : eInf f false / 2 < Q := Nat.lt_of_le_of_lt (Nat.div_le_self _ _) hQ
  unfold bv7 at hv
  injection hv with v1 v2
  have KT : Box (∀ w, Calls Tryz.prog 74 #[.agg (cw 6 (eNaN f))] w fun r w' => r = .returned (.tuple #[.agg #[.int .u64 (u : Nat), .int .u64 (v : Nat)], .bool true]) ∧ Below w.heap.size w w') := box (fun w => by
    have := wtobits_yes (eNaN f) hQ2 (by rw [w0, w1]; exact Nat.mod_add_div _ _) w
    rw [w0, w1, v1, v2] at this
    exact this)
  exact op_nan f iu iv _ _ _ u v _ true w (box (fun w hT => kInf_is f hf false iu iv hi w hT)) (box (fun w => wofbits_is iu iv _ i1 i2 i3 w))
    (box (fun w => wright_is (eInf f false) (eInf f false / 2) 1 _ hQ rfl rfl w)) (box (fun w => wor_is _ _ _ hQ hQ3 n1 w)) KT hT
def mulR (f m : Int) (a b : Nat) : Nat × Int :=
  if kC f a = 8 ∨ kC f b = 8 then (eNaN f, 16)
  else if kC f a = 9 ∨ kC f b = 9 then (eNaN f, 0)
  else if ((kC f a = 0 ∨ kC f a = 7) ∧ (kC f b = 3 ∨ kC f b = 4)) ∨ ((kC f b = 0 ∨ kC f b = 7) ∧ (kC f a = 3 ∨ kC f a = 4)) then (eNaN f, 16)
  else if (kC f a = 0 ∨ kC f a = 7) ∨ (kC f b = 0 ∨ kC f b = 7) then (eInf f (kN f a != kN f b), 0)
  else if (kC f a = 3 ∨ kC f a = 4) ∨ (kC f b = 3 ∨ kC f b = 4) then (eZero f (kN f a != kN f b), 0)
  else dlv f m (kN f a != kN f b) (kX f a + kX f b + (blen (kS f a * kS f b) : Int) - 1) (qW (pV f + 1) (kS f a * kS f b)) (qM (pV f + 1) (kS f a * kS f b) false)
theorem ieq {c : Nat} {k : Int} (h : (c : Int) = k) : ((c : Int) == k) = true := by rw [h]; exact beq_self_eq_true k
theorem ine {c : Nat} {k : Int} (h : (c : Int) ≠ k) : ((c : Int) == k) = false := beq_eq_false_iff_ne.2 h
theorem q256 {s : Nat} (h : s < 2 ^ 256) : s < Q := Nat.lt_of_lt_of_le h (by decide +kernel)
theorem ktimes_is (f m : Int) (hf : Is4 f) (hm : 0 ≤ m ∧ m ≤ 4) (x1 y1 a x2 y2 b : Nat) (hx1 : x1 < 18446744073709551616) (hy1 : y1 < 18446744073709551616) (ha : y1 + 18446744073709551616 * x1 = a) (hx2 : x2 < 18446744073709551616) (hy2 : y2 < 18446744073709551616) (hb : y2 + 18446744073709551616 * x2 = b)
    (oa : okB f a = true) (ob : okB f b = true) (M : Nat) (fl : Int) (hr : mulR f m a b = (M, fl)) (u v : Nat) (hv : bv7 M = (u, v)) (w : World) (hT : FAt w) :
    Calls Tryz.prog 59 #[.int .u8 f, .int .u8 m, .agg #[.int .u64 (x1 : Nat), .int .u64 (y1 : Nat)], .agg #[.int .u64 (x2 : Nat), .int .u64 (y2 : Nat)]] w fun r w' => r = .returned (.tuple #[.agg #[.int .u64 (u : Nat), .int .u64 (v : Nat)], .int .u8 fl, .int .i64 0]) ∧ Below w.heap.size w w' := by
  obtain ⟨sa1, sa2, sa3⟩ := kS_lim hf a
  obtain ⟨sb1, sb2, sb3⟩ := kS_lim hf b
  obtain ⟨c1, hc1⟩ : ∃ c, kC f a = c := ⟨_, rfl⟩
  obtain ⟨c2, hc2⟩ : ∃ c, kC f b = c := ⟨_, rfl⟩
  obtain ⟨m1, hm1⟩ : ∃ c, kS f a = c := ⟨_, rfl⟩
  obtain ⟨m2, hm2⟩ : ∃ c, kS f b = c := ⟨_, rfl⟩
  obtain ⟨X1, hX1⟩ : ∃ c, kX f a = c := ⟨_, rfl⟩
  obtain ⟨X2, hX2⟩ : ∃ c, kX f b = c := ⟨_, rfl⟩
  obtain ⟨s1, hs1⟩ : ∃ c, kN f a = c := ⟨_, rfl⟩
  obtain ⟨s2, hs2⟩ : ∃ c, kN f b = c := ⟨_, rfl⟩
  obtain ⟨neg, hng⟩ : ∃ c, (s1 != s2) = c := ⟨_, rfl⟩
  have KU1 : Box (∀ w, FAt w → Calls Tryz.prog 33 #[.int .u8 f, .agg #[.int .u64 (x1 : Nat), .int .u64 (y1 : Nat)]] w fun r w' => r = .returned (.tuple #[.agg (pt c1 m1 X1 (kF f a)), .int .i64 0]) ∧ Below w.heap.size w w') := box (fun w hT => kUnpack_yes f hf x1 y1 a c1 m1 (kF f a) X1 hx1 hy1 ha oa (by unfold kp; rw [hc1, hm1, hX1]) w hT)
  have KU2 : Box (∀ w, FAt w → Calls Tryz.prog 33 #[.int .u8 f, .agg #[.int .u64 (x2 : Nat), .int .u64 (y2 : Nat)]] w fun r w' => r = .returned (.tuple #[.agg (pt c2 m2 X2 (kF f b)), .int .i64 0]) ∧ Below w.heap.size w w') := box (fun w hT => kUnpack_yes f hf x2 y2 b c2 m2 (kF f b) X2 hx2 hy2 hb ob (by unfold kp; rw [hc2, hm2, hX2]) w hT)
  have KS1 : Box (∀ w, FAt w → Calls Tryz.prog 22 #[.int .u8 f, .agg #[.int .u64 (x1 : Nat), .int .u64 (y1 : Nat)]] w fun r w' => r = .returned (.bool s1) ∧ Below w.heap.size w w') := box (fun w hT => kSign_yes f hf x1 y1 a s1 hx1 hy1 ha oa hs1 w hT)
  have KS2 : Box (∀ w, FAt w → Calls Tryz.prog 22 #[.int .u8 f, .agg #[.int .u64 (x2 : Nat), .int .u64 (y2 : Nat)]] w fun r w' => r = .returned (.bool s2) ∧ Below w.heap.size w w') := box (fun w hT => kSign_yes f hf x2 y2 b s2 hx2 hy2 hb ob hs2 w hT)
  have z1 := fun h => k_null (f := f) a h
  have z2 := fun h => k_null (f := f) b h
  have p1 := fun h => k_parts (f := f) a h
  have p2 := fun h => k_parts (f := f) b h
  unfold mulR at hr
  rw [hc1, hc2, hs1, hs2, hng, hX1, hX2, hm1, hm2] at hr
  rw [hc1, hm1, hX1] at z1
  rw [hc2, hm2, hX2] at z2
  rw [hc1, hm1] at p1
  rw [hc2, hm2] at p2
  rw [hm1] at sa1
  rw [hX1] at sa2 sa3
  rw [hm2] at sb1
  rw [hX2] at sb2 sb3
  have lc1 : c1 ≤ 9 := by rw [← hc1]; have := kC_lt f a; omega
  have lc2 : c2 ≤ 9 := by rw [← hc2]; have := kC_lt f b; omega
  have KN : ∀ g, bv7 (eNaN f) = (u, v) → Box (∀ w, FAt w → Calls Tryz.prog 35 #[.int .u8 f] w fun r w' => r = .returned (.agg #[.int .u64 (u : Nat), .int .u64 (v : Nat)]) ∧ Below w.heap.size w w') := fun (g : Unit) h => box (fun w hT => kNaN_is f hf u v h w hT)
  by_cases a1 : c1 = 8 ∨ c2 = 8
  · rw [if_pos a1] at hr
    injection hr with r1 r2
    subst r1 r2
    by_cases a2 : c1 = 8
    · exact mu_all f m x1 y1 x2 y2 u v c1 m1 X1 _ c2 m2 X2 _ s1 s2 neg 0 0 _ w hng KU1 KU2 KS1 KS2 (box (Or.inl ⟨ieq (by omega), KN () hv, rfl⟩)) hT
    · exact mu_all f m x1 y1 x2 y2 u v c1 m1 X1 _ c2 m2 X2 _ s1 s2 neg 0 0 _ w hng KU1 KU2 KS1 KS2 (box (Or.inr (Or.inl ⟨ine (by omega), ieq (by omega), KN () hv, rfl⟩))) hT
  rw [if_neg a1] at hr
  have h18 : ((c1 : Int) == 8) = false := ine (by omega)
  have h28 : ((c2 : Int) == 8) = false := ine (by omega)
  by_cases b1 : c1 = 9 ∨ c2 = 9
  · rw [if_pos b1] at hr
    injection hr with r1 r2
    subst r1 r2
    by_cases a2 : c1 = 9
    · exact mu_all f m x1 y1 x2 y2 u v c1 m1 X1 _ c2 m2 X2 _ s1 s2 neg 0 0 _ w hng KU1 KU2 KS1 KS2 (box (Or.inr (Or.inr (Or.inl ⟨h18, h28, ieq (by omega), KN () hv, rfl⟩)))) hT
    · exact mu_all f m x1 y1 x2 y2 u v c1 m1 X1 _ c2 m2 X2 _ s1 s2 neg 0 0 _ w hng KU1 KU2 KS1 KS2 (box (Or.inr (Or.inr (Or.inr (Or.inl ⟨h18, h28, ine (by omega), ieq (by omega), KN () hv, rfl⟩))))) hT
  rw [if_neg b1] at hr
  have h19 : ((c1 : Int) == 9) = false := ine (by omega)
  have h29 : ((c2 : Int) == 9) = false := ine (by omega)
  have KE1 : ∀ o, (decide (c1 = 0) || decide (c1 = 7)) = o → Box (∀ w, Calls Tryz.prog 70 #[.int .u8 (c1 : Nat)] w fun r w' => r = .returned (.bool o) ∧ Below w.heap.size w w') := fun o h => box (fun w => op_endless c1 o h w)
  have KE2 : ∀ o, (decide (c2 = 0) || decide (c2 = 7)) = o → Box (∀ w, Calls Tryz.prog 70 #[.int .u8 (c2 : Nat)] w fun r w' => r = .returned (.bool o) ∧ Below w.heap.size w w') := fun o h => box (fun w => op_endless c2 o h w)
  have KT1 : ∀ o, decide ((c1 = 0 ∨ c1 = 7) ∧ (c2 = 3 ∨ c2 = 4)) = o → Box (∀ w, Calls Tryz.prog 115 #[.int .u8 (c1 : Nat), .int .u8 (c2 : Nat)] w fun r w' => r = .returned (.bool o) ∧ Below w.heap.size w w') := fun o h => box (fun w => mu_etn c1 c2 _ _ o (KE1 _ rfl) (box (fun w => op_naught c2 _ rfl w)) (by rw [← h, Bool.decide_and, Bool.decide_or, Bool.decide_or]) w)
  have KT2 : ∀ o, decide ((c2 = 0 ∨ c2 = 7) ∧ (c1 = 3 ∨ c1 = 4)) = o → Box (∀ w, Calls Tryz.prog 115 #[.int .u8 (c2 : Nat), .int .u8 (c1 : Nat)] w fun r w' => r = .returned (.bool o) ∧ Below w.heap.size w w') := fun o h => box (fun w => mu_etn c2 c1 _ _ o (KE2 _ rfl) (box (fun w => op_naught c1 _ rfl w)) (by rw [← h, Bool.decide_and, Bool.decide_or, Bool.decide_or]) w)
  by_cases d1 : ((c1 = 0 ∨ c1 = 7) ∧ (c2 = 3 ∨ c2 = 4)) ∨ ((c2 = 0 ∨ c2 = 7) ∧ (c1 = 3 ∨ c1 = 4))
  · rw [if_pos d1] at hr
    injection hr with r1 r2
    subst r1 r2
    by_cases a2 : (c1 = 0 ∨ c1 = 7) ∧ (c2 = 3 ∨ c2 = 4)
    · exact mu_all f m x1 y1 x2 y2 u v c1 m1 X1 _ c2 m2 X2 _ s1 s2 neg 0 0 _ w hng KU1 KU2 KS1 KS2 (box (Or.inr (Or.inr (Or.inr (Or.inr (Or.inl ⟨h18, h28, h19, h29, KT1 true (decide_eq_true a2), KN () hv, rfl⟩)))))) hT
    · exact mu_all f m x1 y1 x2 y2 u v c1 m1 X1 _ c2 m2 X2 _ s1 s2 neg 0 0 _ w hng KU1 KU2 KS1 KS2 (box (Or.inr (Or.inr (Or.inr (Or.inr (Or.inr (Or.inl ⟨h18, h28, h19, h29, KT1 false (decide_eq_false a2), KT2 true (decide_eq_true (d1.resolve_left a2)), KN () hv, rfl⟩))))))) hT
  rw [if_neg d1] at hr
  have KT1 := KT1 false (decide_eq_false (fun h => d1 (Or.inl h)))
  have KT2 := KT2 false (decide_eq_false (fun h => d1 (Or.inr h)))
  by_cases e1 : (c1 = 0 ∨ c1 = 7) ∨ (c2 = 0 ∨ c2 = 7)
  · rw [if_pos e1] at hr
    injection hr with r1 r2
    subst r1 r2
    have KI : Box (∀ w, FAt w → Calls Tryz.prog 36 #[.int .u8 f, .bool neg] w fun r w' => r = .returned (.agg #[.int .u64 (u : Nat), .int .u64 (v : Nat)]) ∧ Below w.heap.size w w') := box (fun w hT => kInf_is f hf neg u v hv w hT)
    by_cases a2 : c1 = 0 ∨ c1 = 7
    · exact mu_all f m x1 y1 x2 y2 u v c1 m1 X1 _ c2 m2 X2 _ s1 s2 neg 0 0 _ w hng KU1 KU2 KS1 KS2 (box (Or.inr (Or.inr (Or.inr (Or.inr (Or.inr (Or.inr (Or.inl ⟨h18, h28, h19, h29, KT1, KT2, KE1 true (by rw [← Bool.decide_or]; exact decide_eq_true a2), KI, rfl⟩)))))))) hT
    · exact mu_all f m x1 y1 x2 y2 u v c1 m1 X1 _ c2 m2 X2 _ s1 s2 neg 0 0 _ w hng KU1 KU2 KS1 KS2 (box (Or.inr (Or.inr (Or.inr (Or.inr (Or.inr (Or.inr (Or.inr (Or.inl ⟨h18, h28, h19, h29, KT1, KT2, KE1 false (by rw [← Bool.decide_or]; exact decide_eq_false a2), KE2 true (by rw [← Bool.decide_or]; exact decide_eq_true (e1.resolve_left a2)), KI, rfl⟩))))))))) hT
  rw [if_neg e1] at hr
  have KE1 := KE1 false (by rw [← Bool.decide_or]; exact decide_eq_false (fun h => e1 (Or.inl h)))
  have KE2 := KE2 false (by rw [← Bool.decide_or]; exact decide_eq_false (fun h => e1 (Or.inr h)))
  obtain ⟨S, hS⟩ : ∃ S, m1 * m2 = S := ⟨_, rfl⟩
  obtain ⟨q1, q2⟩ := blen_prod m1 m2 sa1 sb1
  rw [hS] at q1 q2 hr
  have SQ := q256 q1
  have KM : Box (∀ w, Calls Tryz.prog 169 #[.agg (cw 6 m1), .agg (cw 6 m2)] w fun r w' => r = .returned (.tuple #[.agg (cw 6 S), .bool false]) ∧ Below w.heap.size w w') := box (fun w => wmul_is m1 m2 S false (lt_Q7 sa1) (lt_Q7 sb1) (by rw [hS]; exact Nat.mod_eq_of_lt SQ) (decide_eq_false (by rw [hS]; omega)) w)
  have KX : Box (∀ w, Calls Tryz.prog 116 #[.bool neg, .agg (pt c1 m1 X1 (kF f a)), .agg (pt c2 m2 X2 (kF f b))] w fun r w' => r = .returned (.agg (rg neg S (X1 + X2) false)) ∧ Below w.heap.size w w') := box (fun w => mu_exactly neg c1 m1 X1 _ c2 m2 X2 _ S (X1 + X2) false w KM (wrap_i64_is _ (by omega) (by omega)))
  refine mu_all f m x1 y1 x2 y2 u v c1 m1 X1 _ c2 m2 X2 _ s1 s2 neg S (X1 + X2) fl w hng KU1 KU2 KS1 KS2 (box (Or.inr (Or.inr (Or.inr (Or.inr (Or.inr (Or.inr (Or.inr (Or.inr (⟨h18, h28, h19, h29, KT1, KT2, KE1, KE2, KX, ?_⟩)))))))))) hT
  by_cases n1 : (c1 = 3 ∨ c1 = 4) ∨ (c2 = 3 ∨ c2 = 4)
  · rw [if_pos n1] at hr
    injection hr with r1 r2
    subst r1 r2
    have S0 : S = 0 := by
      rcases n1 with h | h
      · rw [← hS, (z1 h).1, Nat.zero_mul]
      · rw [← hS, (z2 h).1, Nat.mul_zero]
    rw [S0]
    exact box (fun w hT => kPack_zero f m hf hm neg (X1 + X2) (by omega) (by omega) u v hv w hT)
  · rw [if_neg n1] at hr
    have S0 : S ≠ 0 := by
      rw [← hS]
      exact mul_ne (p1 (by omega)).2.2.2 (p2 (by omega)).2.2.2
    exact box (fun w hT => kPack_is f m hf hm neg S SQ S0 (X1 + X2) false (by omega) (by omega) (fun h => Bool.noConfusion h) M fl hr u v hv w hT)
theorem op_plain_e (c : Nat) (KE : Box (∀ w, Calls Tryz.prog 70 #[.int .u8 (c : Nat)] w fun r w' => r = .returned (.bool true) ∧ Below w.heap.size w w')) (w : World) : Calls Tryz.prog 34 #[.int .u8 (c : Nat)] w fun r w' => r = .returned (.int .u8 7) ∧ Below w.heap.size w w' := by
  have B0 : Below w.heap.size w w := (Below.refl _ _)
  go_enter Tryz.func34, Tryz.ntmps34
  go_wp2_with fail
  refine (KE.out _).mono ?_
  rintro r w1 ⟨rfl, b1⟩
  have B1 : Below w.heap.size w w1 := btr B0 b1
  clear b1 B0 
  go_wp2
  go_ret
  exact ⟨rfl, B1⟩
theorem op_plain_z (c : Nat) (KE : Box (∀ w, Calls Tryz.prog 70 #[.int .u8 (c : Nat)] w fun r w' => r = .returned (.bool false) ∧ Below w.heap.size w w')) (KN : Box (∀ w, Calls Tryz.prog 71 #[.int .u8 (c : Nat)] w fun r w' => r = .returned (.bool true) ∧ Below w.heap.size w w')) (w : World) : Calls Tryz.prog 34 #[.int .u8 (c : Nat)] w fun r w' => r = .returned (.int .u8 4) ∧ Below w.heap.size w w' := by
  have B0 : Below w.heap.size w w := (Below.refl _ _)
  go_enter Tryz.func34, Tryz.ntmps34
  go_wp2_with fail
  refine (KE.out _).mono ?_
  rintro r w1 ⟨rfl, b1⟩
  have B1 : Below w.heap.size w w1 := btr B0 b1
  clear b1 B0 
  go_wp2_with fail
  refine (KN.out _).mono ?_
  rintro r w2 ⟨rfl, b2⟩
  have B2 : Below w.heap.size w w2 := btr B1 b2
  clear b2 B1 
  go_wp2
  go_ret
  exact ⟨rfl, B2⟩
theorem op_plain_s (c : Nat) (KE : Box (∀ w, Calls Tryz.prog 70 #[.int .u8 (c : Nat)] w fun r w' => r = .returned (.bool false) ∧ Below w.heap.size w w')) (KN : Box (∀ w, Calls Tryz.prog 71 #[.int .u8 (c : Nat)] w fun r w' => r = .returned (.bool false) ∧ Below w.heap.size w w')) (h8 : ((c : Int) == 8) = true) (w : World) : Calls Tryz.prog 34 #[.int .u8 (c : Nat)] w fun r w' => r = .returned (.int .u8 (c : Nat)) ∧ Below w.heap.size w w' := by
  have B0 : Below w.heap.size w w := (Below.refl _ _)
  go_enter Tryz.func34, Tryz.ntmps34
  go_wp2_with fail
  refine (KE.out _).mono ?_
  rintro r w1 ⟨rfl, b1⟩
  have B1 : Below w.heap.size w w1 := btr B0 b1
  clear b1 B0 
  go_wp2_with fail
  refine (KN.out _).mono ?_
  rintro r w2 ⟨rfl, b2⟩
  have B2 : Below w.heap.size w w2 := btr B1 b2
  clear b2 B1 
  go_wp2
  go_ret
  exact ⟨rfl, B2⟩
theorem op_plain_q (c : Nat) (KE : Box (∀ w, Calls Tryz.prog 70 #[.int .u8 (c : Nat)] w fun r w' => r = .returned (.bool false) ∧ Below w.heap.size w w')) (KN : Box (∀ w, Calls Tryz.prog 71 #[.int .u8 (c : Nat)] w fun r w' => r = .returned (.bool false) ∧ Below w.heap.size w w')) (h8 : ((c : Int) == 8) = false) (h9 : ((c : Int) == 9) = true) (w : World) : Calls Tryz.prog 34 #[.int .u8 (c : Nat)] w fun r w' => r = .returned (.int .u8 (c : Nat)) ∧ Below w.heap.size w w' := by
  have B0 : Below w.heap.size w w := (Below.refl _ _)
  go_enter Tryz.func34, Tryz.ntmps34
  go_wp2_with fail
  refine (KE.out _).mono ?_
  rintro r w1 ⟨rfl, b1⟩
  have B1 : Below w.heap.size w w1 := btr B0 b1
  clear b1 B0 
  go_wp2_with fail
  refine (KN.out _).mono ?_
  rintro r w2 ⟨rfl, b2⟩
  have B2 : Below w.heap.size w w2 := btr B1 b2
  clear b2 B1 
  go_wp2
  go_ret
  exact ⟨rfl, B2⟩
theorem op_plain_f (c : Nat) (KE : Box (∀ w, Calls Tryz.prog 70 #[.int .u8 (c : Nat)] w fun r w' => r = .returned (.bool false) ∧ Below w.heap.size w w')) (KN : Box (∀ w, Calls Tryz.prog 71 #[.int .u8 (c : Nat)] w fun r w' => r = .returned (.bool false) ∧ Below w.heap.size w w')) (h8 : ((c : Int) == 8) = false) (h9 : ((c : Int) == 9) = false) (w : World) : Calls Tryz.prog 34 #[.int .u8 (c : Nat)] w fun r w' => r = .returned (.int .u8 6) ∧ Below w.heap.size w w' := by
  have B0 : Below w.heap.size w w := (Below.refl _ _)
  go_enter Tryz.func34, Tryz.ntmps34
  go_wp2_with fail
  refine (KE.out _).mono ?_
  rintro r w1 ⟨rfl, b1⟩
  have B1 : Below w.heap.size w w1 := btr B0 b1
  clear b1 B0 
  go_wp2_with fail
  refine (KN.out _).mono ?_
  rintro r w2 ⟨rfl, b2⟩
  have B2 : Below w.heap.size w w2 := btr B1 b2
  clear b2 B1 
  go_wp2
  go_ret
  exact ⟨rfl, B2⟩
def plC (c : Nat) : Int := if c = 0 ∨ c = 7 then 7 else if c = 3 ∨ c = 4 then 4 else if c = 8 ∨ c = 9 then (c : Int) else 6
theorem kplain (c : Nat) (hc : c ≤ 9) (p : Int) (hp : plC c = p) : Box (∀ w, Calls Tryz.prog 34 #[.int .u8 (c : Nat)] w fun r w' => r = .returned (.int .u8 p) ∧ Below w.heap.size w w') := by
  have KE : ∀ o, decide (c = 0 ∨ c = 7) = o → Box (∀ w, Calls Tryz.prog 70 #[.int .u8 (c : Nat)] w fun r w' => r = .returned (.bool o) ∧ Below w.heap.size w w') := fun o h => box (fun w => op_endless c o (by rw [← Bool.decide_or]; exact h) w)
  have KN : ∀ o, decide (c = 3 ∨ c = 4) = o → Box (∀ w, Calls Tryz.prog 71 #[.int .u8 (c : Nat)] w fun r w' => r = .returned (.bool o) ∧ Below w.heap.size w w') := fun o h => box (fun w => op_naught c o (by rw [← Bool.decide_or]; exact h) w)
  unfold plC at hp
  by_cases e : c = 0 ∨ c = 7
  · rw [if_pos e] at hp
    subst hp
    exact box (fun w => op_plain_e c (KE true (decide_eq_true e)) w)
  rw [if_neg e] at hp
  have KE := KE false (decide_eq_false e)
  by_cases z : c = 3 ∨ c = 4
  · rw [if_pos z] at hp
    subst hp
    exact box (fun w => op_plain_z c KE (KN true (decide_eq_true z)) w)
  rw [if_neg z] at hp
  have KN := KN false (decide_eq_false z)
  by_cases n : c = 8 ∨ c = 9
  · rw [if_pos n] at hp
    subst hp
    by_cases n8 : c = 8
    · exact box (fun w => op_plain_s c KE KN (ieq (by omega)) w)
    · exact box (fun w => op_plain_q c KE KN (ine (by omega)) (ieq (by omega)) w)
  rw [if_neg n] at hp
  subst hp
  exact box (fun w => op_plain_f c KE KN (ine (by omega)) (ine (by omega)) w)
end Go.Proofs.YtapikkbifdldfaaGreatDoor
