/-
  What the functions that the statement reaches return: part 22 (W3).
-/
import Derived.Test.YtdjlfhcalccajaaGreatDoorWf21
namespace Go.Proofs.YtdjlfhcalccajaaGreatDoor
set_option maxRecDepth 100000
set_option maxHeartbeats 40000000
set_option maxRecDepth 100000
open Go.RowKit WMath
set_option linter.unusedSimpArgs false
set_option linter.unusedVariables false
set_option maxRecDepth 100000 in
set_option maxHeartbeats 8000000 in
theorem may_none (f m : Int) (pu pv : Nat) (fl : Int) (w : World) (KP : Box (∀ w, FAt w → Calls Tryz.prog 18 #[.int .u8 f, .int .u8 m, .agg (rg false 0 0 false)] w fun r w' => r = .returned (.tuple #[.agg #[.int .u64 (pu : Nat), .int .u64 (pv : Nat)], .int .u8 fl, .int .i64 0]) ∧ Below w.heap.size w w')) (hT : FAt w) : Calls Tryz.prog 11 #[.int .u8 f, .int .u8 m, .slice none 0 0] w fun r w' => r = .returned (.bool true) ∧ Below w.heap.size w w' := by
  have FF := box hT
  clear hT
  have hp3 := rgz
  go_enter Tryz.func11, Tryz.ntmps11
  go_wp2_with fail
  refine (KP.out _ FF.out).mono ?_
  rintro r w1 ⟨rfl, b1⟩
  have BP := btr b1 (bal w1 (.cells #[.int .u64 (pu : Nat), .int .u64 (pv : Nat)] 26))
  obtain ⟨V, hV⟩ : ∃ V, w1.alloc (.cells #[.int .u64 (pu : Nat), .int .u64 (pv : Nat)] 26) = V := ⟨_, rfl⟩
  go_wp2
  rw [hV] at BP
  clear b1 KP hV
  go_loopw [26] (fun iv wr => iv = .int .i64 0 ∧ wr = V) (fun _ _ => 0)
  case atStart => exact ⟨rfl, rfl⟩
  case round =>
    obtain ⟨rfl, rfl⟩ := hrel
    go_wp2
    go_ret
    exact ⟨rfl, BP⟩
set_option maxRecDepth 100000 in
set_option maxHeartbeats 8000000 in
theorem pw_cv_n1 (t g m : Int) (x1 y1 : Nat)  (w : World) (KU : Box (∀ w, FAt w → Calls Tryz.prog 10 #[.int .u8 g, .agg #[.int .u64 (x1 : Nat), .int .u64 (y1 : Nat)]] w fun r w' => r = .returned (.tuple #[.agg (pt 0 0 0 0), .int .i64 2]) ∧ Below w.heap.size w w')) (hT : FAt w) : Calls Tryz.prog 5 #[.int .u8 t, .int .u8 g, .int .u8 m, .agg #[.int .u64 (x1 : Nat), .int .u64 (y1 : Nat)]] w fun r w' => r = .returned (.tuple #[.agg #[.int .u64 0, .int .u64 0], .int .u8 0, .int .i64 2]) ∧ Below w.heap.size w w' := by
  have FF := box hT
  clear hT
  have hp1 := rgf
  have hp3 := rgz
  have hp5 : ∀ (c : Bool) (s : Nat) (x : Int) (r : Bool), ((rg c s x r).size = 9) = True := fun _ _ _ _ => eq_true rfl
  have hq1 := ptf
  have hq3 := ptz
  have hq4 := st_p0
  have hq5 : ∀ (c s : Nat) (x : Int) (r : Nat), ((pt c s x r).size = 14) = True := fun _ _ _ _ => eq_true rfl
  obtain ⟨Ra_0, Rz_0, B0⟩ := opn2 w (Obj.cells #[.int .u64 (x1 : Nat), .int .u64 (y1 : Nat)] 26) (Obj.cells #[.int .u64 0, .int .u64 0] 26)
  go_enter Tryz.func5, Tryz.ntmps5
  obtain ⟨ca_0_0, ca_0_1⟩ := cells2s Ra_0
  go_wp2_with fail
  refine (KU.out _ (fatB FF.out B0)).mono ?_
  rintro r w1 ⟨rfl, b1⟩
  have B1 : Below w.heap.size w w1 := btr B0 b1
  have Ra_1 := heap_of b1 _ _ _ Ra_0
  have Rz_1 := heap_of b1 _ _ _ Rz_0
  clear b1 B0 Ra_0 ca_0_0 ca_0_1 Rz_0
  obtain ⟨ca_1_0, ca_1_1⟩ := cells2s Ra_1
  have S2 := box B1.size
  have La_2 : Box (w.heap.size < w1.heap.size) := box (Array.getElem?_eq_some_iff.1 Ra_1).1
  have Lz_2 : Box (w.heap.size + 1 < w1.heap.size) := box (Array.getElem?_eq_some_iff.1 Rz_1).1
  have Rx_2 := heap_alloc_last w1 (Obj.cells (pt 0 0 0 0) 44)
  have B2 := btr B1 (bal w1 (Obj.cells (pt 0 0 0 0) 44))
  have Ra_2 := heap_of (bal w1 (Obj.cells (pt 0 0 0 0) 44)) _ _ _ Ra_1
  have Rz_2 := heap_of (bal w1 (Obj.cells (pt 0 0 0 0) 44)) _ _ _ Rz_1
  clear B1 Ra_1 ca_1_0 ca_1_1 Rz_1
  obtain ⟨ca_2_0, ca_2_1⟩ := cells2s Ra_2
  obtain ⟨cx_2_0, cx_2_1, cx_2_2, cx_2_3, cx_2_4, cx_2_5, cx_2_6, cx_2_7, cx_2_8, cx_2_9, cx_2_10, cx_2_11, cx_2_12, cx_2_13⟩ := pt_cells Rx_2
  obtain ⟨cz_2_0, cz_2_1⟩ := cells2s Rz_2
  have q0 := fz (k := 0) Rz_2
  have q1 := fz (k := 1) Rz_2
  obtain ⟨E0, E1⟩ := set2_cells Rz_2 (.int .u64 0) (.int .u64 0)
  go_wp2
  exact bodyPost_ret (v := .tuple #[.agg #[.int .u64 0, .int .u64 0], .int .u8 0, .int .i64 2]) (by simp [results, Tryz.results5, go_sem, E0, E1]) rfl ⟨rfl, set2_below B2 (by first | exact Nat.le_refl _ | omega | (have := S2.out; have := La_2.out; have := Lz_2.out; omega)) _ _⟩
set_option maxRecDepth 100000 in
set_option maxHeartbeats 8000000 in
theorem pw_cv_n2 (t g m : Int) (x1 y1 : Nat) (c1 m1 r1 : Nat) (X1 : Int) (w : World) (KU : Box (∀ w, FAt w → Calls Tryz.prog 10 #[.int .u8 g, .agg #[.int .u64 (x1 : Nat), .int .u64 (y1 : Nat)]] w fun r w' => r = .returned (.tuple #[.agg (pt c1 m1 X1 r1), .int .i64 0]) ∧ Below w.heap.size w w')) (KM : Box (∀ w, FAt w → Calls Tryz.prog 11 #[.int .u8 t, .int .u8 m, .slice none 0 0] w fun r w' => r = .returned (.bool false) ∧ Below w.heap.size w w')) (hT : FAt w) : Calls Tryz.prog 5 #[.int .u8 t, .int .u8 g, .int .u8 m, .agg #[.int .u64 (x1 : Nat), .int .u64 (y1 : Nat)]] w fun r w' => r = .returned (.tuple #[.agg #[.int .u64 0, .int .u64 0], .int .u8 0, .int .i64 2]) ∧ Below w.heap.size w w' := by
  have FF := box hT
  clear hT
  have hp1 := rgf
  have hp3 := rgz
  have hp5 : ∀ (c : Bool) (s : Nat) (x : Int) (r : Bool), ((rg c s x r).size = 9) = True := fun _ _ _ _ => eq_true rfl
  have hq1 := ptf
  have hq3 := ptz
  have hq4 := st_p0
  have hq5 : ∀ (c s : Nat) (x : Int) (r : Nat), ((pt c s x r).size = 14) = True := fun _ _ _ _ => eq_true rfl
  obtain ⟨Ra_0, Rz_0, B0⟩ := opn2 w (Obj.cells #[.int .u64 (x1 : Nat), .int .u64 (y1 : Nat)] 26) (Obj.cells #[.int .u64 0, .int .u64 0] 26)
  go_enter Tryz.func5, Tryz.ntmps5
  obtain ⟨ca_0_0, ca_0_1⟩ := cells2s Ra_0
  go_wp2_with fail
  refine (KU.out _ (fatB FF.out B0)).mono ?_
  rintro r w1 ⟨rfl, b1⟩
  have B1 : Below w.heap.size w w1 := btr B0 b1
  have Ra_1 := heap_of b1 _ _ _ Ra_0
  have Rz_1 := heap_of b1 _ _ _ Rz_0
  clear b1 B0 Ra_0 ca_0_0 ca_0_1 Rz_0
  obtain ⟨ca_1_0, ca_1_1⟩ := cells2s Ra_1
  have S2 := box B1.size
  have La_2 : Box (w.heap.size < w1.heap.size) := box (Array.getElem?_eq_some_iff.1 Ra_1).1
  have Lz_2 : Box (w.heap.size + 1 < w1.heap.size) := box (Array.getElem?_eq_some_iff.1 Rz_1).1
  have Rx_2 := heap_alloc_last w1 (Obj.cells (pt c1 m1 X1 r1) 44)
  have B2 := btr B1 (bal w1 (Obj.cells (pt c1 m1 X1 r1) 44))
  have Ra_2 := heap_of (bal w1 (Obj.cells (pt c1 m1 X1 r1) 44)) _ _ _ Ra_1
  have Rz_2 := heap_of (bal w1 (Obj.cells (pt c1 m1 X1 r1) 44)) _ _ _ Rz_1
  clear B1 Ra_1 ca_1_0 ca_1_1 Rz_1
  obtain ⟨ca_2_0, ca_2_1⟩ := cells2s Ra_2
  obtain ⟨cx_2_0, cx_2_1, cx_2_2, cx_2_3, cx_2_4, cx_2_5, cx_2_6, cx_2_7, cx_2_8, cx_2_9, cx_2_10, cx_2_11, cx_2_12, cx_2_13⟩ := pt_cells Rx_2
  go_wp2_with fail
  refine (KM.out _ (fatB FF.out B2)).mono ?_
  rintro r w3 ⟨rfl, b3⟩
  have B3 : Below w.heap.size w w3 := btr B2 b3
  have Ra_3 := heap_of b3 _ _ _ Ra_2
  have Rz_3 := heap_of b3 _ _ _ Rz_2
  have Rx_3 := heap_of b3 _ _ _ Rx_2
  clear b3 B2 Ra_2 ca_2_0 ca_2_1 Rz_2 Rx_2 cx_2_0 cx_2_1 cx_2_2 cx_2_3 cx_2_4 cx_2_5 cx_2_6 cx_2_7 cx_2_8 cx_2_9 cx_2_10 cx_2_11 cx_2_12 cx_2_13
  obtain ⟨ca_3_0, ca_3_1⟩ := cells2s Ra_3
  obtain ⟨cx_3_0, cx_3_1, cx_3_2, cx_3_3, cx_3_4, cx_3_5, cx_3_6, cx_3_7, cx_3_8, cx_3_9, cx_3_10, cx_3_11, cx_3_12, cx_3_13⟩ := pt_cells Rx_3
  obtain ⟨cz_3_0, cz_3_1⟩ := cells2s Rz_3
  have q0 := fz (k := 0) Rz_3
  have q1 := fz (k := 1) Rz_3
  obtain ⟨E0, E1⟩ := set2_cells Rz_3 (.int .u64 0) (.int .u64 0)
  go_wp2
  exact bodyPost_ret (v := .tuple #[.agg #[.int .u64 0, .int .u64 0], .int .u8 0, .int .i64 2]) (by simp [results, Tryz.results5, go_sem, E0, E1]) rfl ⟨rfl, set2_below B3 (by first | exact Nat.le_refl _ | omega | (have := S2.out; have := La_2.out; have := Lz_2.out; omega)) _ _⟩
set_option maxRecDepth 100000 in
set_option maxHeartbeats 8000000 in
theorem pw_cv_nan (t g m : Int) (x1 y1 : Nat) (c1 m1 r1 u v : Nat) (X1 fl : Int) (neg ob : Bool) (h8 : ((c1 : Int) == 8) = ob) (w : World) (KU : Box (∀ w, FAt w → Calls Tryz.prog 10 #[.int .u8 g, .agg #[.int .u64 (x1 : Nat), .int .u64 (y1 : Nat)]] w fun r w' => r = .returned (.tuple #[.agg (pt c1 m1 X1 r1), .int .i64 0]) ∧ Below w.heap.size w w')) (KM : Box (∀ w, FAt w → Calls Tryz.prog 11 #[.int .u8 t, .int .u8 m, .slice none 0 0] w fun r w' => r = .returned (.bool true) ∧ Below w.heap.size w w')) (KS : Box (∀ w, FAt w → Calls Tryz.prog 12 #[.int .u8 g, .agg #[.int .u64 (x1 : Nat), .int .u64 (y1 : Nat)]] w fun r w' => r = .returned (.bool neg) ∧ Below w.heap.size w w')) (KI : Box (∀ w, Calls Tryz.prog 13 #[.int .u8 (c1 : Nat)] w fun r w' => r = .returned (.bool true) ∧ Below w.heap.size w w')) (KN : Box (∀ w, FAt w → Calls Tryz.prog 14 #[.int .u8 t] w fun r w' => r = .returned (.agg #[.int .u64 (u : Nat), .int .u64 (v : Nat)]) ∧ Below w.heap.size w w')) (KF : Box (∀ w, Calls Tryz.prog 15 #[.bool ob, .int .u8 16, .int .u8 0] w fun r w' => r = .returned (.int .u8 fl) ∧ Below w.heap.size w w')) (hT : FAt w) : Calls Tryz.prog 5 #[.int .u8 t, .int .u8 g, .int .u8 m, .agg #[.int .u64 (x1 : Nat), .int .u64 (y1 : Nat)]] w fun r w' => r = .returned (.tuple #[.agg #[.int .u64 (u : Nat), .int .u64 (v : Nat)], .int .u8 fl, .int .i64 0]) ∧ Below w.heap.size w w' := by
  have FF := box hT
  clear hT
  have hp1 := rgf
  have hp3 := rgz
  have hp5 : ∀ (c : Bool) (s : Nat) (x : Int) (r : Bool), ((rg c s x r).size = 9) = True := fun _ _ _ _ => eq_true rfl
  have hq1 := ptf
  have hq3 := ptz
  have hq4 := st_p0
  have hq5 : ∀ (c s : Nat) (x : Int) (r : Nat), ((pt c s x r).size = 14) = True := fun _ _ _ _ => eq_true rfl
  obtain ⟨Ra_0, Rz_0, B0⟩ := opn2 w (Obj.cells #[.int .u64 (x1 : Nat), .int .u64 (y1 : Nat)] 26) (Obj.cells #[.int .u64 0, .int .u64 0] 26)
  go_enter Tryz.func5, Tryz.ntmps5
  obtain ⟨ca_0_0, ca_0_1⟩ := cells2s Ra_0
  go_wp2_with fail
  refine (KU.out _ (fatB FF.out B0)).mono ?_
  rintro r w1 ⟨rfl, b1⟩
  have B1 : Below w.heap.size w w1 := btr B0 b1
  have Ra_1 := heap_of b1 _ _ _ Ra_0
  have Rz_1 := heap_of b1 _ _ _ Rz_0
  clear b1 B0 Ra_0 ca_0_0 ca_0_1 Rz_0
  obtain ⟨ca_1_0, ca_1_1⟩ := cells2s Ra_1
  have S2 := box B1.size
  have La_2 : Box (w.heap.size < w1.heap.size) := box (Array.getElem?_eq_some_iff.1 Ra_1).1
  have Lz_2 : Box (w.heap.size + 1 < w1.heap.size) := box (Array.getElem?_eq_some_iff.1 Rz_1).1
  have Rx_2 := heap_alloc_last w1 (Obj.cells (pt c1 m1 X1 r1) 44)
  have B2 := btr B1 (bal w1 (Obj.cells (pt c1 m1 X1 r1) 44))
  have Ra_2 := heap_of (bal w1 (Obj.cells (pt c1 m1 X1 r1) 44)) _ _ _ Ra_1
  have Rz_2 := heap_of (bal w1 (Obj.cells (pt c1 m1 X1 r1) 44)) _ _ _ Rz_1
  clear B1 Ra_1 ca_1_0 ca_1_1 Rz_1
  obtain ⟨ca_2_0, ca_2_1⟩ := cells2s Ra_2
  obtain ⟨cx_2_0, cx_2_1, cx_2_2, cx_2_3, cx_2_4, cx_2_5, cx_2_6, cx_2_7, cx_2_8, cx_2_9, cx_2_10, cx_2_11, cx_2_12, cx_2_13⟩ := pt_cells Rx_2
  go_wp2_with fail
  refine (KM.out _ (fatB FF.out B2)).mono ?_
  rintro r w3 ⟨rfl, b3⟩
  have B3 : Below w.heap.size w w3 := btr B2 b3
  have Ra_3 := heap_of b3 _ _ _ Ra_2
  have Rz_3 := heap_of b3 _ _ _ Rz_2
  have Rx_3 := heap_of b3 _ _ _ Rx_2
  clear b3 B2 Ra_2 ca_2_0 ca_2_1 Rz_2 Rx_2 cx_2_0 cx_2_1 cx_2_2 cx_2_3 cx_2_4 cx_2_5 cx_2_6 cx_2_7 cx_2_8 cx_2_9 cx_2_10 cx_2_11 cx_2_12 cx_2_13
  obtain ⟨ca_3_0, ca_3_1⟩ := cells2s Ra_3
  obtain ⟨cx_3_0, cx_3_1, cx_3_2, cx_3_3, cx_3_4, cx_3_5, cx_3_6, cx_3_7, cx_3_8, cx_3_9, cx_3_10, cx_3_11, cx_3_12, cx_3_13⟩ := pt_cells Rx_3
  go_wp2_with fail
  refine (KS.out _ (fatB FF.out B3)).mono ?_
  rintro r w4 ⟨rfl, b4⟩
  have B4 : Below w.heap.size w w4 := btr B3 b4
  have Ra_4 := heap_of b4 _ _ _ Ra_3
  have Rz_4 := heap_of b4 _ _ _ Rz_3
  have Rx_4 := heap_of b4 _ _ _ Rx_3
  clear b4 B3 Ra_3 ca_3_0 ca_3_1 Rz_3 Rx_3 cx_3_0 cx_3_1 cx_3_2 cx_3_3 cx_3_4 cx_3_5 cx_3_6 cx_3_7 cx_3_8 cx_3_9 cx_3_10 cx_3_11 cx_3_12 cx_3_13
  obtain ⟨ca_4_0, ca_4_1⟩ := cells2s Ra_4
  obtain ⟨cx_4_0, cx_4_1, cx_4_2, cx_4_3, cx_4_4, cx_4_5, cx_4_6, cx_4_7, cx_4_8, cx_4_9, cx_4_10, cx_4_11, cx_4_12, cx_4_13⟩ := pt_cells Rx_4
  obtain ⟨cx_4_0, cx_4_1, cx_4_2, cx_4_3, cx_4_4, cx_4_5, cx_4_6, cx_4_7, cx_4_8, cx_4_9, cx_4_10, cx_4_11, cx_4_12, cx_4_13⟩ := pt_cells Rx_4
  go_wp2_with fail
  refine (KI.out _).mono ?_
  rintro r w5 ⟨rfl, b5⟩
  have B5 : Below w.heap.size w w5 := btr B4 b5
  have Ra_5 := heap_of b5 _ _ _ Ra_4
  have Rz_5 := heap_of b5 _ _ _ Rz_4
  have Rx_5 := heap_of b5 _ _ _ Rx_4
  clear b5 B4 Ra_4 ca_4_0 ca_4_1 Rz_4 Rx_4 cx_4_0 cx_4_1 cx_4_2 cx_4_3 cx_4_4 cx_4_5 cx_4_6 cx_4_7 cx_4_8 cx_4_9 cx_4_10 cx_4_11 cx_4_12 cx_4_13
  obtain ⟨ca_5_0, ca_5_1⟩ := cells2s Ra_5
  obtain ⟨cx_5_0, cx_5_1, cx_5_2, cx_5_3, cx_5_4, cx_5_5, cx_5_6, cx_5_7, cx_5_8, cx_5_9, cx_5_10, cx_5_11, cx_5_12, cx_5_13⟩ := pt_cells Rx_5
  obtain ⟨cz_5_0, cz_5_1⟩ := cells2s Rz_5
  have sS : Box (∀ W W1 : World, (Below w.heap.size w W ∧ W.heap[w.heap.size]? = some (Obj.cells #[.int .u64 (x1 : Nat), .int .u64 (y1 : Nat)] 26) ∧ W.heap[w1.heap.size]? = some (Obj.cells (pt c1 m1 X1 r1) 44) ∧ W.cell? ⟨w.heap.size, 0, none⟩ = some (.int .u64 (x1 : Nat)) ∧ W.cell? ⟨w.heap.size, 1, none⟩ = some (.int .u64 (y1 : Nat)) ∧ W.cell? ⟨w1.heap.size, 0, none⟩ = some (.int .u8 (c1 : Nat)) ∧ W.cell? ⟨w1.heap.size, 1, none⟩ = some (.int .u64 ((wd m1 0 : Nat) : Int)) ∧ W.cell? ⟨w1.heap.size, 2, none⟩ = some (.int .u64 ((wd m1 1 : Nat) : Int)) ∧ W.cell? ⟨w1.heap.size, 3, none⟩ = some (.int .u64 ((wd m1 2 : Nat) : Int)) ∧ W.cell? ⟨w1.heap.size, 4, none⟩ = some (.int .u64 ((wd m1 3 : Nat) : Int)) ∧ W.cell? ⟨w1.heap.size, 5, none⟩ = some (.int .u64 ((wd m1 4 : Nat) : Int)) ∧ W.cell? ⟨w1.heap.size, 6, none⟩ = some (.int .u64 ((wd m1 5 : Nat) : Int)) ∧ W.cell? ⟨w1.heap.size, 7, none⟩ = some (.int .i64 X1) ∧ W.cell? ⟨w1.heap.size, 8, none⟩ = some (.int .u64 ((wd r1 0 : Nat) : Int)) ∧ W.cell? ⟨w1.heap.size, 9, none⟩ = some (.int .u64 ((wd r1 1 : Nat) : Int)) ∧ W.cell? ⟨w1.heap.size, 10, none⟩ = some (.int .u64 ((wd r1 2 : Nat) : Int)) ∧ W.cell? ⟨w1.heap.size, 11, none⟩ = some (.int .u64 ((wd r1 3 : Nat) : Int)) ∧ W.cell? ⟨w1.heap.size, 12, none⟩ = some (.int .u64 ((wd r1 4 : Nat) : Int)) ∧ W.cell? ⟨w1.heap.size, 13, none⟩ = some (.int .u64 ((wd r1 5 : Nat) : Int))) → Below W.heap.size W W1 → (Below w.heap.size w W1 ∧ W1.heap[w.heap.size]? = some (Obj.cells #[.int .u64 (x1 : Nat), .int .u64 (y1 : Nat)] 26) ∧ W1.heap[w1.heap.size]? = some (Obj.cells (pt c1 m1 X1 r1) 44) ∧ W1.cell? ⟨w.heap.size, 0, none⟩ = some (.int .u64 (x1 : Nat)) ∧ W1.cell? ⟨w.heap.size, 1, none⟩ = some (.int .u64 (y1 : Nat)) ∧ W1.cell? ⟨w1.heap.size, 0, none⟩ = some (.int .u8 (c1 : Nat)) ∧ W1.cell? ⟨w1.heap.size, 1, none⟩ = some (.int .u64 ((wd m1 0 : Nat) : Int)) ∧ W1.cell? ⟨w1.heap.size, 2, none⟩ = some (.int .u64 ((wd m1 1 : Nat) : Int)) ∧ W1.cell? ⟨w1.heap.size, 3, none⟩ = some (.int .u64 ((wd m1 2 : Nat) : Int)) ∧ W1.cell? ⟨w1.heap.size, 4, none⟩ = some (.int .u64 ((wd m1 3 : Nat) : Int)) ∧ W1.cell? ⟨w1.heap.size, 5, none⟩ = some (.int .u64 ((wd m1 4 : Nat) : Int)) ∧ W1.cell? ⟨w1.heap.size, 6, none⟩ = some (.int .u64 ((wd m1 5 : Nat) : Int)) ∧ W1.cell? ⟨w1.heap.size, 7, none⟩ = some (.int .i64 X1) ∧ W1.cell? ⟨w1.heap.size, 8, none⟩ = some (.int .u64 ((wd r1 0 : Nat) : Int)) ∧ W1.cell? ⟨w1.heap.size, 9, none⟩ = some (.int .u64 ((wd r1 1 : Nat) : Int)) ∧ W1.cell? ⟨w1.heap.size, 10, none⟩ = some (.int .u64 ((wd r1 2 : Nat) : Int)) ∧ W1.cell? ⟨w1.heap.size, 11, none⟩ = some (.int .u64 ((wd r1 3 : Nat) : Int)) ∧ W1.cell? ⟨w1.heap.size, 12, none⟩ = some (.int .u64 ((wd r1 4 : Nat) : Int)) ∧ W1.cell? ⟨w1.heap.size, 13, none⟩ = some (.int .u64 ((wd r1 5 : Nat) : Int)))) := box (fun W W1 h b => ⟨btr h.1 b, heap_of b _ _ _ h.2.1, heap_of b _ _ _ h.2.2.1, cell7 (heap_of b _ _ _ h.2.1) 0 _ rfl, cell7 (heap_of b _ _ _ h.2.1) 1 _ rfl, cell7 (heap_of b _ _ _ h.2.2.1) 0 _ rfl, cell7 (heap_of b _ _ _ h.2.2.1) 1 _ rfl, cell7 (heap_of b _ _ _ h.2.2.1) 2 _ rfl, cell7 (heap_of b _ _ _ h.2.2.1) 3 _ rfl, cell7 (heap_of b _ _ _ h.2.2.1) 4 _ rfl, cell7 (heap_of b _ _ _ h.2.2.1) 5 _ rfl, cell7 (heap_of b _ _ _ h.2.2.1) 6 _ rfl, cell7 (heap_of b _ _ _ h.2.2.1) 7 _ rfl, cell7 (heap_of b _ _ _ h.2.2.1) 8 _ rfl, cell7 (heap_of b _ _ _ h.2.2.1) 9 _ rfl, cell7 (heap_of b _ _ _ h.2.2.1) 10 _ rfl, cell7 (heap_of b _ _ _ h.2.2.1) 11 _ rfl, cell7 (heap_of b _ _ _ h.2.2.1) 12 _ rfl, cell7 (heap_of b _ _ _ h.2.2.1) 13 _ rfl⟩)
  have sT : Box (∀ (W : World) (xA xB : Value), (Below w.heap.size w W ∧ W.heap[w.heap.size]? = some (Obj.cells #[.int .u64 (x1 : Nat), .int .u64 (y1 : Nat)] 26) ∧ W.heap[w1.heap.size]? = some (Obj.cells (pt c1 m1 X1 r1) 44) ∧ W.cell? ⟨w.heap.size, 0, none⟩ = some (.int .u64 (x1 : Nat)) ∧ W.cell? ⟨w.heap.size, 1, none⟩ = some (.int .u64 (y1 : Nat)) ∧ W.cell? ⟨w1.heap.size, 0, none⟩ = some (.int .u8 (c1 : Nat)) ∧ W.cell? ⟨w1.heap.size, 1, none⟩ = some (.int .u64 ((wd m1 0 : Nat) : Int)) ∧ W.cell? ⟨w1.heap.size, 2, none⟩ = some (.int .u64 ((wd m1 1 : Nat) : Int)) ∧ W.cell? ⟨w1.heap.size, 3, none⟩ = some (.int .u64 ((wd m1 2 : Nat) : Int)) ∧ W.cell? ⟨w1.heap.size, 4, none⟩ = some (.int .u64 ((wd m1 3 : Nat) : Int)) ∧ W.cell? ⟨w1.heap.size, 5, none⟩ = some (.int .u64 ((wd m1 4 : Nat) : Int)) ∧ W.cell? ⟨w1.heap.size, 6, none⟩ = some (.int .u64 ((wd m1 5 : Nat) : Int)) ∧ W.cell? ⟨w1.heap.size, 7, none⟩ = some (.int .i64 X1) ∧ W.cell? ⟨w1.heap.size, 8, none⟩ = some (.int .u64 ((wd r1 0 : Nat) : Int)) ∧ W.cell? ⟨w1.heap.size, 9, none⟩ = some (.int .u64 ((wd r1 1 : Nat) : Int)) ∧ W.cell? ⟨w1.heap.size, 10, none⟩ = some (.int .u64 ((wd r1 2 : Nat) : Int)) ∧ W.cell? ⟨w1.heap.size, 11, none⟩ = some (.int .u64 ((wd r1 3 : Nat) : Int)) ∧ W.cell? ⟨w1.heap.size, 12, none⟩ = some (.int .u64 ((wd r1 4 : Nat) : Int)) ∧ W.cell? ⟨w1.heap.size, 13, none⟩ = some (.int .u64 ((wd r1 5 : Nat) : Int))) → (Below w.heap.size w ((W.setCell ⟨w.heap.size + 1, 0, none⟩ xA).setCell ⟨w.heap.size + 1, 1, none⟩ xB) ∧ ((W.setCell ⟨w.heap.size + 1, 0, none⟩ xA).setCell ⟨w.heap.size + 1, 1, none⟩ xB).heap[w.heap.size]? = some (Obj.cells #[.int .u64 (x1 : Nat), .int .u64 (y1 : Nat)] 26) ∧ ((W.setCell ⟨w.heap.size + 1, 0, none⟩ xA).setCell ⟨w.heap.size + 1, 1, none⟩ xB).heap[w1.heap.size]? = some (Obj.cells (pt c1 m1 X1 r1) 44) ∧ ((W.setCell ⟨w.heap.size + 1, 0, none⟩ xA).setCell ⟨w.heap.size + 1, 1, none⟩ xB).cell? ⟨w.heap.size, 0, none⟩ = some (.int .u64 (x1 : Nat)) ∧ ((W.setCell ⟨w.heap.size + 1, 0, none⟩ xA).setCell ⟨w.heap.size + 1, 1, none⟩ xB).cell? ⟨w.heap.size, 1, none⟩ = some (.int .u64 (y1 : Nat)) ∧ ((W.setCell ⟨w.heap.size + 1, 0, none⟩ xA).setCell ⟨w.heap.size + 1, 1, none⟩ xB).cell? ⟨w1.heap.size, 0, none⟩ = some (.int .u8 (c1 : Nat)) ∧ ((W.setCell ⟨w.heap.size + 1, 0, none⟩ xA).setCell ⟨w.heap.size + 1, 1, none⟩ xB).cell? ⟨w1.heap.size, 1, none⟩ = some (.int .u64 ((wd m1 0 : Nat) : Int)) ∧ ((W.setCell ⟨w.heap.size + 1, 0, none⟩ xA).setCell ⟨w.heap.size + 1, 1, none⟩ xB).cell? ⟨w1.heap.size, 2, none⟩ = some (.int .u64 ((wd m1 1 : Nat) : Int)) ∧ ((W.setCell ⟨w.heap.size + 1, 0, none⟩ xA).setCell ⟨w.heap.size + 1, 1, none⟩ xB).cell? ⟨w1.heap.size, 3, none⟩ = some (.int .u64 ((wd m1 2 : Nat) : Int)) ∧ ((W.setCell ⟨w.heap.size + 1, 0, none⟩ xA).setCell ⟨w.heap.size + 1, 1, none⟩ xB).cell? ⟨w1.heap.size, 4, none⟩ = some (.int .u64 ((wd m1 3 : Nat) : Int)) ∧ ((W.setCell ⟨w.heap.size + 1, 0, none⟩ xA).setCell ⟨w.heap.size + 1, 1, none⟩ xB).cell? ⟨w1.heap.size, 5, none⟩ = some (.int .u64 ((wd m1 4 : Nat) : Int)) ∧ ((W.setCell ⟨w.heap.size + 1, 0, none⟩ xA).setCell ⟨w.heap.size + 1, 1, none⟩ xB).cell? ⟨w1.heap.size, 6, none⟩ = some (.int .u64 ((wd m1 5 : Nat) : Int)) ∧ ((W.setCell ⟨w.heap.size + 1, 0, none⟩ xA).setCell ⟨w.heap.size + 1, 1, none⟩ xB).cell? ⟨w1.heap.size, 7, none⟩ = some (.int .i64 X1) ∧ ((W.setCell ⟨w.heap.size + 1, 0, none⟩ xA).setCell ⟨w.heap.size + 1, 1, none⟩ xB).cell? ⟨w1.heap.size, 8, none⟩ = some (.int .u64 ((wd r1 0 : Nat) : Int)) ∧ ((W.setCell ⟨w.heap.size + 1, 0, none⟩ xA).setCell ⟨w.heap.size + 1, 1, none⟩ xB).cell? ⟨w1.heap.size, 9, none⟩ = some (.int .u64 ((wd r1 1 : Nat) : Int)) ∧ ((W.setCell ⟨w.heap.size + 1, 0, none⟩ xA).setCell ⟨w.heap.size + 1, 1, none⟩ xB).cell? ⟨w1.heap.size, 10, none⟩ = some (.int .u64 ((wd r1 2 : Nat) : Int)) ∧ ((W.setCell ⟨w.heap.size + 1, 0, none⟩ xA).setCell ⟨w.heap.size + 1, 1, none⟩ xB).cell? ⟨w1.heap.size, 11, none⟩ = some (.int .u64 ((wd r1 3 : Nat) : Int)) ∧ ((W.setCell ⟨w.heap.size + 1, 0, none⟩ xA).setCell ⟨w.heap.size + 1, 1, none⟩ xB).cell? ⟨w1.heap.size, 12, none⟩ = some (.int .u64 ((wd r1 4 : Nat) : Int)) ∧ ((W.setCell ⟨w.heap.size + 1, 0, none⟩ xA).setCell ⟨w.heap.size + 1, 1, none⟩ xB).cell? ⟨w1.heap.size, 13, none⟩ = some (.int .u64 ((wd r1 5 : Nat) : Int)))) := box (fun W xA xB h => ⟨set2_below h.1 (by first | exact Nat.le_refl _ | omega | (have := S2.out; have := La_2.out; have := Lz_2.out; omega)) xA xB, ((setCell_other (by first | omega | (have := S2.out; have := La_2.out; have := Lz_2.out; omega))).trans ((setCell_other (by first | omega | (have := S2.out; have := La_2.out; have := Lz_2.out; omega))).trans h.2.1)), ((setCell_other (by first | omega | (have := S2.out; have := La_2.out; have := Lz_2.out; omega))).trans ((setCell_other (by first | omega | (have := S2.out; have := La_2.out; have := Lz_2.out; omega))).trans h.2.2.1)), cell7 (((setCell_other (by first | omega | (have := S2.out; have := La_2.out; have := Lz_2.out; omega))).trans ((setCell_other (by first | omega | (have := S2.out; have := La_2.out; have := Lz_2.out; omega))).trans h.2.1))) 0 _ rfl, cell7 (((setCell_other (by first | omega | (have := S2.out; have := La_2.out; have := Lz_2.out; omega))).trans ((setCell_other (by first | omega | (have := S2.out; have := La_2.out; have := Lz_2.out; omega))).trans h.2.1))) 1 _ rfl, cell7 (((setCell_other (by first | omega | (have := S2.out; have := La_2.out; have := Lz_2.out; omega))).trans ((setCell_other (by first | omega | (have := S2.out; have := La_2.out; have := Lz_2.out; omega))).trans h.2.2.1))) 0 _ rfl, cell7 (((setCell_other (by first | omega | (have := S2.out; have := La_2.out; have := Lz_2.out; omega))).trans ((setCell_other (by first | omega | (have := S2.out; have := La_2.out; have := Lz_2.out; omega))).trans h.2.2.1))) 1 _ rfl, cell7 (((setCell_other (by first | omega | (have := S2.out; have := La_2.out; have := Lz_2.out; omega))).trans ((setCell_other (by first | omega | (have := S2.out; have := La_2.out; have := Lz_2.out; omega))).trans h.2.2.1))) 2 _ rfl, cell7 (((setCell_other (by first | omega | (have := S2.out; have := La_2.out; have := Lz_2.out; omega))).trans ((setCell_other (by first | omega | (have := S2.out; have := La_2.out; have := Lz_2.out; omega))).trans h.2.2.1))) 3 _ rfl, cell7 (((setCell_other (by first | omega | (have := S2.out; have := La_2.out; have := Lz_2.out; omega))).trans ((setCell_other (by first | omega | (have := S2.out; have := La_2.out; have := Lz_2.out; omega))).trans h.2.2.1))) 4 _ rfl, cell7 (((setCell_other (by first | omega | (have := S2.out; have := La_2.out; have := Lz_2.out; omega))).trans ((setCell_other (by first | omega | (have := S2.out; have := La_2.out; have := Lz_2.out; omega))).trans h.2.2.1))) 5 _ rfl, cell7 (((setCell_other (by first | omega | (have := S2.out; have := La_2.out; have := Lz_2.out; omega))).trans ((setCell_other (by first | omega | (have := S2.out; have := La_2.out; have := Lz_2.out; omega))).trans h.2.2.1))) 6 _ rfl, cell7 (((setCell_other (by first | omega | (have := S2.out; have := La_2.out; have := Lz_2.out; omega))).trans ((setCell_other (by first | omega | (have := S2.out; have := La_2.out; have := Lz_2.out; omega))).trans h.2.2.1))) 7 _ rfl, cell7 (((setCell_other (by first | omega | (have := S2.out; have := La_2.out; have := Lz_2.out; omega))).trans ((setCell_other (by first | omega | (have := S2.out; have := La_2.out; have := Lz_2.out; omega))).trans h.2.2.1))) 8 _ rfl, cell7 (((setCell_other (by first | omega | (have := S2.out; have := La_2.out; have := Lz_2.out; omega))).trans ((setCell_other (by first | omega | (have := S2.out; have := La_2.out; have := Lz_2.out; omega))).trans h.2.2.1))) 9 _ rfl, cell7 (((setCell_other (by first | omega | (have := S2.out; have := La_2.out; have := Lz_2.out; omega))).trans ((setCell_other (by first | omega | (have := S2.out; have := La_2.out; have := Lz_2.out; omega))).trans h.2.2.1))) 10 _ rfl, cell7 (((setCell_other (by first | omega | (have := S2.out; have := La_2.out; have := Lz_2.out; omega))).trans ((setCell_other (by first | omega | (have := S2.out; have := La_2.out; have := Lz_2.out; omega))).trans h.2.2.1))) 11 _ rfl, cell7 (((setCell_other (by first | omega | (have := S2.out; have := La_2.out; have := Lz_2.out; omega))).trans ((setCell_other (by first | omega | (have := S2.out; have := La_2.out; have := Lz_2.out; omega))).trans h.2.2.1))) 12 _ rfl, cell7 (((setCell_other (by first | omega | (have := S2.out; have := La_2.out; have := Lz_2.out; omega))).trans ((setCell_other (by first | omega | (have := S2.out; have := La_2.out; have := Lz_2.out; omega))).trans h.2.2.1))) 13 _ rfl⟩)
  have s0 : Below w.heap.size w (w5).drew ∧ (w5).drew.heap[w.heap.size]? = some (Obj.cells #[.int .u64 (x1 : Nat), .int .u64 (y1 : Nat)] 26) ∧ (w5).drew.heap[w1.heap.size]? = some (Obj.cells (pt c1 m1 X1 r1) 44) ∧ (w5).drew.cell? ⟨w.heap.size, 0, none⟩ = some (.int .u64 (x1 : Nat)) ∧ (w5).drew.cell? ⟨w.heap.size, 1, none⟩ = some (.int .u64 (y1 : Nat)) ∧ (w5).drew.cell? ⟨w1.heap.size, 0, none⟩ = some (.int .u8 (c1 : Nat)) ∧ (w5).drew.cell? ⟨w1.heap.size, 1, none⟩ = some (.int .u64 ((wd m1 0 : Nat) : Int)) ∧ (w5).drew.cell? ⟨w1.heap.size, 2, none⟩ = some (.int .u64 ((wd m1 1 : Nat) : Int)) ∧ (w5).drew.cell? ⟨w1.heap.size, 3, none⟩ = some (.int .u64 ((wd m1 2 : Nat) : Int)) ∧ (w5).drew.cell? ⟨w1.heap.size, 4, none⟩ = some (.int .u64 ((wd m1 3 : Nat) : Int)) ∧ (w5).drew.cell? ⟨w1.heap.size, 5, none⟩ = some (.int .u64 ((wd m1 4 : Nat) : Int)) ∧ (w5).drew.cell? ⟨w1.heap.size, 6, none⟩ = some (.int .u64 ((wd m1 5 : Nat) : Int)) ∧ (w5).drew.cell? ⟨w1.heap.size, 7, none⟩ = some (.int .i64 X1) ∧ (w5).drew.cell? ⟨w1.heap.size, 8, none⟩ = some (.int .u64 ((wd r1 0 : Nat) : Int)) ∧ (w5).drew.cell? ⟨w1.heap.size, 9, none⟩ = some (.int .u64 ((wd r1 1 : Nat) : Int)) ∧ (w5).drew.cell? ⟨w1.heap.size, 10, none⟩ = some (.int .u64 ((wd r1 2 : Nat) : Int)) ∧ (w5).drew.cell? ⟨w1.heap.size, 11, none⟩ = some (.int .u64 ((wd r1 3 : Nat) : Int)) ∧ (w5).drew.cell? ⟨w1.heap.size, 12, none⟩ = some (.int .u64 ((wd r1 4 : Nat) : Int)) ∧ (w5).drew.cell? ⟨w1.heap.size, 13, none⟩ = some (.int .u64 ((wd r1 5 : Nat) : Int)) := ⟨B5.drew, Ra_5, Rx_5, cell7 (Ra_5) 0 _ rfl, cell7 (Ra_5) 1 _ rfl, cell7 (Rx_5) 0 _ rfl, cell7 (Rx_5) 1 _ rfl, cell7 (Rx_5) 2 _ rfl, cell7 (Rx_5) 3 _ rfl, cell7 (Rx_5) 4 _ rfl, cell7 (Rx_5) 5 _ rfl, cell7 (Rx_5) 6 _ rfl, cell7 (Rx_5) 7 _ rfl, cell7 (Rx_5) 8 _ rfl, cell7 (Rx_5) 9 _ rfl, cell7 (Rx_5) 10 _ rfl, cell7 (Rx_5) 11 _ rfl, cell7 (Rx_5) 12 _ rfl, cell7 (Rx_5) 13 _ rfl⟩
  have rz : (w5).drew.heap[w.heap.size + 1]? = some (Obj.cells #[.int .u64 0, .int .u64 0] 26) := Rz_5
  have hq0 := fz (k := 0) rz
  have hq1 := fz (k := 1) rz
  have hc0 := cell7 rz 0 _ rfl
  have hc1 := cell7 rz 1 _ rfl
  go_wp2_with fail
  go_region_held3 (fun W => Below w.heap.size w W ∧ W.heap[w.heap.size]? = some (Obj.cells #[.int .u64 (x1 : Nat), .int .u64 (y1 : Nat)] 26) ∧ W.heap[w1.heap.size]? = some (Obj.cells (pt c1 m1 X1 r1) 44) ∧ W.cell? ⟨w.heap.size, 0, none⟩ = some (.int .u64 (x1 : Nat)) ∧ W.cell? ⟨w.heap.size, 1, none⟩ = some (.int .u64 (y1 : Nat)) ∧ W.cell? ⟨w1.heap.size, 0, none⟩ = some (.int .u8 (c1 : Nat)) ∧ W.cell? ⟨w1.heap.size, 1, none⟩ = some (.int .u64 ((wd m1 0 : Nat) : Int)) ∧ W.cell? ⟨w1.heap.size, 2, none⟩ = some (.int .u64 ((wd m1 1 : Nat) : Int)) ∧ W.cell? ⟨w1.heap.size, 3, none⟩ = some (.int .u64 ((wd m1 2 : Nat) : Int)) ∧ W.cell? ⟨w1.heap.size, 4, none⟩ = some (.int .u64 ((wd m1 3 : Nat) : Int)) ∧ W.cell? ⟨w1.heap.size, 5, none⟩ = some (.int .u64 ((wd m1 4 : Nat) : Int)) ∧ W.cell? ⟨w1.heap.size, 6, none⟩ = some (.int .u64 ((wd m1 5 : Nat) : Int)) ∧ W.cell? ⟨w1.heap.size, 7, none⟩ = some (.int .i64 X1) ∧ W.cell? ⟨w1.heap.size, 8, none⟩ = some (.int .u64 ((wd r1 0 : Nat) : Int)) ∧ W.cell? ⟨w1.heap.size, 9, none⟩ = some (.int .u64 ((wd r1 1 : Nat) : Int)) ∧ W.cell? ⟨w1.heap.size, 10, none⟩ = some (.int .u64 ((wd r1 2 : Nat) : Int)) ∧ W.cell? ⟨w1.heap.size, 11, none⟩ = some (.int .u64 ((wd r1 3 : Nat) : Int)) ∧ W.cell? ⟨w1.heap.size, 12, none⟩ = some (.int .u64 ((wd r1 4 : Nat) : Int)) ∧ W.cell? ⟨w1.heap.size, 13, none⟩ = some (.int .u64 ((wd r1 5 : Nat) : Int))) (first | exact s1 | exact s0 | exact sT.out _ _ _ s1 | exact sT.out _ _ _ s0)
    (first | (go_at_call 14; (first | refine (KN.out _ (fatB FF.out (And.left s1))).mono ?_ | refine (KN.out _ (fatB FF.out (And.left s0))).mono ?_); rintro r wq ⟨rfl, bq⟩; have s1 := (by first | exact sS.out _ _ s1 bq | exact sS.out _ _ s0 bq); have rz := heap_of bq _ _ _ rz; have hq0 := fz (k := 0) rz; have hc0 := cell7 rz 0 _ rfl; have hq1 := fz (k := 1) rz; have hc1 := cell7 rz 1 _ rfl; clear bq) | (go_at_call 15; (first | refine (KF.out _).mono ?_ | refine (KF.out _).mono ?_); rintro r wq ⟨rfl, bq⟩; have s1 := (by first | exact sS.out _ _ s1 bq | exact sS.out _ _ s0 bq); have rz := heap_of bq _ _ _ rz; have hq0 := fz (k := 0) rz; have hc0 := cell7 rz 0 _ rfl; have hq1 := fz (k := 1) rz; have hc1 := cell7 rz 1 _ rfl; clear bq) | fail)
  obtain ⟨E0, E1⟩ := set2_cells rz (.int .u64 (u : Nat)) (.int .u64 (v : Nat))
  have BZ := (by first | exact And.left s1 | exact And.left s0 : Below w.heap.size w _)
  go_wp2
  exact bodyPost_ret (v := .tuple #[.agg #[.int .u64 (u : Nat), .int .u64 (v : Nat)], .int .u8 fl, .int .i64 0]) (by simp [results, Tryz.results5, go_sem, E0, E1]) rfl ⟨rfl, set2_below BZ (by first | exact Nat.le_refl _ | omega | (have := S2.out; have := La_2.out; have := Lz_2.out; omega)) _ _⟩
set_option maxRecDepth 100000 in
set_option maxHeartbeats 8000000 in
theorem pw_cv_inf (t g m : Int) (x1 y1 : Nat) (c1 m1 r1 u v : Nat) (X1 fl : Int) (neg ob : Bool) (w : World) (KU : Box (∀ w, FAt w → Calls Tryz.prog 10 #[.int .u8 g, .agg #[.int .u64 (x1 : Nat), .int .u64 (y1 : Nat)]] w fun r w' => r = .returned (.tuple #[.agg (pt c1 m1 X1 r1), .int .i64 0]) ∧ Below w.heap.size w w')) (KM : Box (∀ w, FAt w → Calls Tryz.prog 11 #[.int .u8 t, .int .u8 m, .slice none 0 0] w fun r w' => r = .returned (.bool true) ∧ Below w.heap.size w w')) (KS : Box (∀ w, FAt w → Calls Tryz.prog 12 #[.int .u8 g, .agg #[.int .u64 (x1 : Nat), .int .u64 (y1 : Nat)]] w fun r w' => r = .returned (.bool neg) ∧ Below w.heap.size w w')) (KI : Box (∀ w, Calls Tryz.prog 13 #[.int .u8 (c1 : Nat)] w fun r w' => r = .returned (.bool false) ∧ Below w.heap.size w w')) (KE : Box (∀ w, Calls Tryz.prog 16 #[.int .u8 (c1 : Nat)] w fun r w' => r = .returned (.bool true) ∧ Below w.heap.size w w')) (KG : Box (∀ w, FAt w → Calls Tryz.prog 17 #[.int .u8 t, .bool neg] w fun r w' => r = .returned (.agg #[.int .u64 (u : Nat), .int .u64 (v : Nat)]) ∧ Below w.heap.size w w')) (hT : FAt w) : Calls Tryz.prog 5 #[.int .u8 t, .int .u8 g, .int .u8 m, .agg #[.int .u64 (x1 : Nat), .int .u64 (y1 : Nat)]] w fun r w' => r = .returned (.tuple #[.agg #[.int .u64 (u : Nat), .int .u64 (v : Nat)], .int .u8 0, .int .i64 0]) ∧ Below w.heap.size w w' := by
  have FF := box hT
  clear hT
  have hp1 := rgf
  have hp3 := rgz
  have hp5 : ∀ (c : Bool) (s : Nat) (x : Int) (r : Bool), ((rg c s x r).size = 9) = True := fun _ _ _ _ => eq_true rfl
  have hq1 := ptf
  have hq3 := ptz
  have hq4 := st_p0
  have hq5 : ∀ (c s : Nat) (x : Int) (r : Nat), ((pt c s x r).size = 14) = True := fun _ _ _ _ => eq_true rfl
  obtain ⟨Ra_0, Rz_0, B0⟩ := opn2 w (Obj.cells #[.int .u64 (x1 : Nat), .int .u64 (y1 : Nat)] 26) (Obj.cells #[.int .u64 0, .int .u64 0] 26)
  go_enter Tryz.func5, Tryz.ntmps5
  obtain ⟨ca_0_0, ca_0_1⟩ := cells2s Ra_0
  go_wp2_with fail
  refine (KU.out _ (fatB FF.out B0)).mono ?_
  rintro r w1 ⟨rfl, b1⟩
  have B1 : Below w.heap.size w w1 := btr B0 b1
  have Ra_1 := heap_of b1 _ _ _ Ra_0
  have Rz_1 := heap_of b1 _ _ _ Rz_0
  clear b1 B0 Ra_0 ca_0_0 ca_0_1 Rz_0
  obtain ⟨ca_1_0, ca_1_1⟩ := cells2s Ra_1
  have S2 := box B1.size
  have La_2 : Box (w.heap.size < w1.heap.size) := box (Array.getElem?_eq_some_iff.1 Ra_1).1
  have Lz_2 : Box (w.heap.size + 1 < w1.heap.size) := box (Array.getElem?_eq_some_iff.1 Rz_1).1
  have Rx_2 := heap_alloc_last w1 (Obj.cells (pt c1 m1 X1 r1) 44)
  have B2 := btr B1 (bal w1 (Obj.cells (pt c1 m1 X1 r1) 44))
  have Ra_2 := heap_of (bal w1 (Obj.cells (pt c1 m1 X1 r1) 44)) _ _ _ Ra_1
  have Rz_2 := heap_of (bal w1 (Obj.cells (pt c1 m1 X1 r1) 44)) _ _ _ Rz_1
  clear B1 Ra_1 ca_1_0 ca_1_1 Rz_1
  obtain ⟨ca_2_0, ca_2_1⟩ := cells2s Ra_2
  obtain ⟨cx_2_0, cx_2_1, cx_2_2, cx_2_3, cx_2_4, cx_2_5, cx_2_6, cx_2_7, cx_2_8, cx_2_9, cx_2_10, cx_2_11, cx_2_12, cx_2_13⟩ := pt_cells Rx_2
  go_wp2_with fail
  refine (KM.out _ (fatB FF.out B2)).mono ?_
  rintro r w3 ⟨rfl, b3⟩
  have B3 : Below w.heap.size w w3 := btr B2 b3
  have Ra_3 := heap_of b3 _ _ _ Ra_2
  have Rz_3 := heap_of b3 _ _ _ Rz_2
  have Rx_3 := heap_of b3 _ _ _ Rx_2
  clear b3 B2 Ra_2 ca_2_0 ca_2_1 Rz_2 Rx_2 cx_2_0 cx_2_1 cx_2_2 cx_2_3 cx_2_4 cx_2_5 cx_2_6 cx_2_7 cx_2_8 cx_2_9 cx_2_10 cx_2_11 cx_2_12 cx_2_13
  obtain ⟨ca_3_0, ca_3_1⟩ := cells2s Ra_3
  obtain ⟨cx_3_0, cx_3_1, cx_3_2, cx_3_3, cx_3_4, cx_3_5, cx_3_6, cx_3_7, cx_3_8, cx_3_9, cx_3_10, cx_3_11, cx_3_12, cx_3_13⟩ := pt_cells Rx_3
  go_wp2_with fail
  refine (KS.out _ (fatB FF.out B3)).mono ?_
  rintro r w4 ⟨rfl, b4⟩
  have B4 : Below w.heap.size w w4 := btr B3 b4
  have Ra_4 := heap_of b4 _ _ _ Ra_3
  have Rz_4 := heap_of b4 _ _ _ Rz_3
  have Rx_4 := heap_of b4 _ _ _ Rx_3
  clear b4 B3 Ra_3 ca_3_0 ca_3_1 Rz_3 Rx_3 cx_3_0 cx_3_1 cx_3_2 cx_3_3 cx_3_4 cx_3_5 cx_3_6 cx_3_7 cx_3_8 cx_3_9 cx_3_10 cx_3_11 cx_3_12 cx_3_13
  obtain ⟨ca_4_0, ca_4_1⟩ := cells2s Ra_4
  obtain ⟨cx_4_0, cx_4_1, cx_4_2, cx_4_3, cx_4_4, cx_4_5, cx_4_6, cx_4_7, cx_4_8, cx_4_9, cx_4_10, cx_4_11, cx_4_12, cx_4_13⟩ := pt_cells Rx_4
  obtain ⟨cx_4_0, cx_4_1, cx_4_2, cx_4_3, cx_4_4, cx_4_5, cx_4_6, cx_4_7, cx_4_8, cx_4_9, cx_4_10, cx_4_11, cx_4_12, cx_4_13⟩ := pt_cells Rx_4
  go_wp2_with fail
  refine (KI.out _).mono ?_
  rintro r w5 ⟨rfl, b5⟩
  have B5 : Below w.heap.size w w5 := btr B4 b5
  have Ra_5 := heap_of b5 _ _ _ Ra_4
  have Rz_5 := heap_of b5 _ _ _ Rz_4
  have Rx_5 := heap_of b5 _ _ _ Rx_4
  clear b5 B4 Ra_4 ca_4_0 ca_4_1 Rz_4 Rx_4 cx_4_0 cx_4_1 cx_4_2 cx_4_3 cx_4_4 cx_4_5 cx_4_6 cx_4_7 cx_4_8 cx_4_9 cx_4_10 cx_4_11 cx_4_12 cx_4_13
  obtain ⟨ca_5_0, ca_5_1⟩ := cells2s Ra_5
  obtain ⟨cx_5_0, cx_5_1, cx_5_2, cx_5_3, cx_5_4, cx_5_5, cx_5_6, cx_5_7, cx_5_8, cx_5_9, cx_5_10, cx_5_11, cx_5_12, cx_5_13⟩ := pt_cells Rx_5
  go_wp2_with fail
  refine (KE.out _).mono ?_
  rintro r w6 ⟨rfl, b6⟩
  have B6 : Below w.heap.size w w6 := btr B5 b6
  have Ra_6 := heap_of b6 _ _ _ Ra_5
  have Rz_6 := heap_of b6 _ _ _ Rz_5
  have Rx_6 := heap_of b6 _ _ _ Rx_5
  clear b6 B5 Ra_5 ca_5_0 ca_5_1 Rz_5 Rx_5 cx_5_0 cx_5_1 cx_5_2 cx_5_3 cx_5_4 cx_5_5 cx_5_6 cx_5_7 cx_5_8 cx_5_9 cx_5_10 cx_5_11 cx_5_12 cx_5_13
  obtain ⟨ca_6_0, ca_6_1⟩ := cells2s Ra_6
  obtain ⟨cx_6_0, cx_6_1, cx_6_2, cx_6_3, cx_6_4, cx_6_5, cx_6_6, cx_6_7, cx_6_8, cx_6_9, cx_6_10, cx_6_11, cx_6_12, cx_6_13⟩ := pt_cells Rx_6
  go_wp2_with fail
  refine (KG.out _ (fatB FF.out B6)).mono ?_
  rintro r w7 ⟨rfl, b7⟩
  have B7 : Below w.heap.size w w7 := btr B6 b7
  have Ra_7 := heap_of b7 _ _ _ Ra_6
  have Rz_7 := heap_of b7 _ _ _ Rz_6
  have Rx_7 := heap_of b7 _ _ _ Rx_6
  clear b7 B6 Ra_6 ca_6_0 ca_6_1 Rz_6 Rx_6 cx_6_0 cx_6_1 cx_6_2 cx_6_3 cx_6_4 cx_6_5 cx_6_6 cx_6_7 cx_6_8 cx_6_9 cx_6_10 cx_6_11 cx_6_12 cx_6_13
  obtain ⟨ca_7_0, ca_7_1⟩ := cells2s Ra_7
  obtain ⟨cx_7_0, cx_7_1, cx_7_2, cx_7_3, cx_7_4, cx_7_5, cx_7_6, cx_7_7, cx_7_8, cx_7_9, cx_7_10, cx_7_11, cx_7_12, cx_7_13⟩ := pt_cells Rx_7
  obtain ⟨cz_7_0, cz_7_1⟩ := cells2s Rz_7
  have q0 := fz (k := 0) Rz_7
  have q1 := fz (k := 1) Rz_7
  obtain ⟨E0, E1⟩ := set2_cells Rz_7 (.int .u64 (u : Nat)) (.int .u64 (v : Nat))
  go_wp2
  exact bodyPost_ret (v := .tuple #[.agg #[.int .u64 (u : Nat), .int .u64 (v : Nat)], .int .u8 0, .int .i64 0]) (by simp [results, Tryz.results5, go_sem, E0, E1]) rfl ⟨rfl, set2_below B7 (by first | exact Nat.le_refl _ | omega | (have := S2.out; have := La_2.out; have := Lz_2.out; omega)) _ _⟩
set_option maxRecDepth 100000 in
set_option maxHeartbeats 8000000 in
theorem pw_cv_num (t g m : Int) (x1 y1 : Nat) (c1 m1 r1 u v : Nat) (X1 fl : Int) (neg ob : Bool) (w : World) (KU : Box (∀ w, FAt w → Calls Tryz.prog 10 #[.int .u8 g, .agg #[.int .u64 (x1 : Nat), .int .u64 (y1 : Nat)]] w fun r w' => r = .returned (.tuple #[.agg (pt c1 m1 X1 r1), .int .i64 0]) ∧ Below w.heap.size w w')) (KM : Box (∀ w, FAt w → Calls Tryz.prog 11 #[.int .u8 t, .int .u8 m, .slice none 0 0] w fun r w' => r = .returned (.bool true) ∧ Below w.heap.size w w')) (KS : Box (∀ w, FAt w → Calls Tryz.prog 12 #[.int .u8 g, .agg #[.int .u64 (x1 : Nat), .int .u64 (y1 : Nat)]] w fun r w' => r = .returned (.bool neg) ∧ Below w.heap.size w w')) (KI : Box (∀ w, Calls Tryz.prog 13 #[.int .u8 (c1 : Nat)] w fun r w' => r = .returned (.bool false) ∧ Below w.heap.size w w')) (KE : Box (∀ w, Calls Tryz.prog 16 #[.int .u8 (c1 : Nat)] w fun r w' => r = .returned (.bool false) ∧ Below w.heap.size w w')) (KP : Box (∀ w, FAt w → Calls Tryz.prog 18 #[.int .u8 t, .int .u8 m, .agg (rg neg m1 X1 false)] w fun r w' => r = .returned (.tuple #[.agg #[.int .u64 (u : Nat), .int .u64 (v : Nat)], .int .u8 fl, .int .i64 0]) ∧ Below w.heap.size w w')) (hT : FAt w) : Calls Tryz.prog 5 #[.int .u8 t, .int .u8 g, .int .u8 m, .agg #[.int .u64 (x1 : Nat), .int .u64 (y1 : Nat)]] w fun r w' => r = .returned (.tuple #[.agg #[.int .u64 (u : Nat), .int .u64 (v : Nat)], .int .u8 fl, .int .i64 0]) ∧ Below w.heap.size w w' := by
  have FF := box hT
  clear hT
  have hp1 := rgf
  have hp3 := rgz
  have hp5 : ∀ (c : Bool) (s : Nat) (x : Int) (r : Bool), ((rg c s x r).size = 9) = True := fun _ _ _ _ => eq_true rfl
  have hq1 := ptf
  have hq3 := ptz
  have hq4 := st_p0
  have hq5 : ∀ (c s : Nat) (x : Int) (r : Nat), ((pt c s x r).size = 14) = True := fun _ _ _ _ => eq_true rfl
  obtain ⟨Ra_0, Rz_0, B0⟩ := opn2 w (Obj.cells #[.int .u64 (x1 : Nat), .int .u64 (y1 : Nat)] 26) (Obj.cells #[.int .u64 0, .int .u64 0] 26)
  go_enter Tryz.func5, Tryz.ntmps5
  have hat := cw_at 6
  have hz := cw6z
  have hff := cw6f
  have hs0 := st0
  have hcs : ∀ x, ((cw 6 x).size = 6) = True := fun x => eq_true (cw_size 6 x)
  have hzi := cw_zip
  have hls := rg_sets
  obtain ⟨ca_0_0, ca_0_1⟩ := cells2s Ra_0
  go_wp2_with fail
  refine (KU.out _ (fatB FF.out B0)).mono ?_
  rintro r w1 ⟨rfl, b1⟩
  have B1 : Below w.heap.size w w1 := btr B0 b1
  have Ra_1 := heap_of b1 _ _ _ Ra_0
  have Rz_1 := heap_of b1 _ _ _ Rz_0
  clear b1 B0 Ra_0 ca_0_0 ca_0_1 Rz_0
  obtain ⟨ca_1_0, ca_1_1⟩ := cells2s Ra_1
  have S2 := box B1.size
  have La_2 : Box (w.heap.size < w1.heap.size) := box (Array.getElem?_eq_some_iff.1 Ra_1).1
  have Lz_2 : Box (w.heap.size + 1 < w1.heap.size) := box (Array.getElem?_eq_some_iff.1 Rz_1).1
  have Rx_2 := heap_alloc_last w1 (Obj.cells (pt c1 m1 X1 r1) 44)
  have B2 := btr B1 (bal w1 (Obj.cells (pt c1 m1 X1 r1) 44))
  have Ra_2 := heap_of (bal w1 (Obj.cells (pt c1 m1 X1 r1) 44)) _ _ _ Ra_1
  have Rz_2 := heap_of (bal w1 (Obj.cells (pt c1 m1 X1 r1) 44)) _ _ _ Rz_1
  clear B1 Ra_1 ca_1_0 ca_1_1 Rz_1
  obtain ⟨ca_2_0, ca_2_1⟩ := cells2s Ra_2
  obtain ⟨cx_2_0, cx_2_1, cx_2_2, cx_2_3, cx_2_4, cx_2_5, cx_2_6, cx_2_7, cx_2_8, cx_2_9, cx_2_10, cx_2_11, cx_2_12, cx_2_13⟩ := pt_cells Rx_2
  go_wp2_with fail
  refine (KM.out _ (fatB FF.out B2)).mono ?_
  rintro r w3 ⟨rfl, b3⟩
  have B3 : Below w.heap.size w w3 := btr B2 b3
  have Ra_3 := heap_of b3 _ _ _ Ra_2
  have Rz_3 := heap_of b3 _ _ _ Rz_2
  have Rx_3 := heap_of b3 _ _ _ Rx_2
  clear b3 B2 Ra_2 ca_2_0 ca_2_1 Rz_2 Rx_2 cx_2_0 cx_2_1 cx_2_2 cx_2_3 cx_2_4 cx_2_5 cx_2_6 cx_2_7 cx_2_8 cx_2_9 cx_2_10 cx_2_11 cx_2_12 cx_2_13
  obtain ⟨ca_3_0, ca_3_1⟩ := cells2s Ra_3
  obtain ⟨cx_3_0, cx_3_1, cx_3_2, cx_3_3, cx_3_4, cx_3_5, cx_3_6, cx_3_7, cx_3_8, cx_3_9, cx_3_10, cx_3_11, cx_3_12, cx_3_13⟩ := pt_cells Rx_3
  go_wp2_with fail
  refine (KS.out _ (fatB FF.out B3)).mono ?_
  rintro r w4 ⟨rfl, b4⟩
  have B4 : Below w.heap.size w w4 := btr B3 b4
  have Ra_4 := heap_of b4 _ _ _ Ra_3
  have Rz_4 := heap_of b4 _ _ _ Rz_3
  have Rx_4 := heap_of b4 _ _ _ Rx_3
  clear b4 B3 Ra_3 ca_3_0 ca_3_1 Rz_3 Rx_3 cx_3_0 cx_3_1 cx_3_2 cx_3_3 cx_3_4 cx_3_5 cx_3_6 cx_3_7 cx_3_8 cx_3_9 cx_3_10 cx_3_11 cx_3_12 cx_3_13
  obtain ⟨ca_4_0, ca_4_1⟩ := cells2s Ra_4
  obtain ⟨cx_4_0, cx_4_1, cx_4_2, cx_4_3, cx_4_4, cx_4_5, cx_4_6, cx_4_7, cx_4_8, cx_4_9, cx_4_10, cx_4_11, cx_4_12, cx_4_13⟩ := pt_cells Rx_4
  obtain ⟨cx_4_0, cx_4_1, cx_4_2, cx_4_3, cx_4_4, cx_4_5, cx_4_6, cx_4_7, cx_4_8, cx_4_9, cx_4_10, cx_4_11, cx_4_12, cx_4_13⟩ := pt_cells Rx_4
  go_wp2_with fail
  refine (KI.out _).mono ?_
  rintro r w5 ⟨rfl, b5⟩
  have B5 : Below w.heap.size w w5 := btr B4 b5
  have Ra_5 := heap_of b5 _ _ _ Ra_4
  have Rz_5 := heap_of b5 _ _ _ Rz_4
  have Rx_5 := heap_of b5 _ _ _ Rx_4
  clear b5 B4 Ra_4 ca_4_0 ca_4_1 Rz_4 Rx_4 cx_4_0 cx_4_1 cx_4_2 cx_4_3 cx_4_4 cx_4_5 cx_4_6 cx_4_7 cx_4_8 cx_4_9 cx_4_10 cx_4_11 cx_4_12 cx_4_13
  obtain ⟨ca_5_0, ca_5_1⟩ := cells2s Ra_5
  obtain ⟨cx_5_0, cx_5_1, cx_5_2, cx_5_3, cx_5_4, cx_5_5, cx_5_6, cx_5_7, cx_5_8, cx_5_9, cx_5_10, cx_5_11, cx_5_12, cx_5_13⟩ := pt_cells Rx_5
  go_wp2_with fail
  refine (KE.out _).mono ?_
  rintro r w6 ⟨rfl, b6⟩
  have B6 : Below w.heap.size w w6 := btr B5 b6
  have Ra_6 := heap_of b6 _ _ _ Ra_5
  have Rz_6 := heap_of b6 _ _ _ Rz_5
  have Rx_6 := heap_of b6 _ _ _ Rx_5
  clear b6 B5 Ra_5 ca_5_0 ca_5_1 Rz_5 Rx_5 cx_5_0 cx_5_1 cx_5_2 cx_5_3 cx_5_4 cx_5_5 cx_5_6 cx_5_7 cx_5_8 cx_5_9 cx_5_10 cx_5_11 cx_5_12 cx_5_13
  obtain ⟨ca_6_0, ca_6_1⟩ := cells2s Ra_6
  obtain ⟨cx_6_0, cx_6_1, cx_6_2, cx_6_3, cx_6_4, cx_6_5, cx_6_6, cx_6_7, cx_6_8, cx_6_9, cx_6_10, cx_6_11, cx_6_12, cx_6_13⟩ := pt_cells Rx_6
  go_wp2_with fail
  refine (KP.out _ (fatB FF.out B6)).mono ?_
  rintro r w7 ⟨rfl, b7⟩
  have B7 : Below w.heap.size w w7 := btr B6 b7
  have Ra_7 := heap_of b7 _ _ _ Ra_6
  have Rz_7 := heap_of b7 _ _ _ Rz_6
  have Rx_7 := heap_of b7 _ _ _ Rx_6
  clear b7 B6 Ra_6 ca_6_0 ca_6_1 Rz_6 Rx_6 cx_6_0 cx_6_1 cx_6_2 cx_6_3 cx_6_4 cx_6_5 cx_6_6 cx_6_7 cx_6_8 cx_6_9 cx_6_10 cx_6_11 cx_6_12 cx_6_13
  obtain ⟨ca_7_0, ca_7_1⟩ := cells2s Ra_7
  obtain ⟨cx_7_0, cx_7_1, cx_7_2, cx_7_3, cx_7_4, cx_7_5, cx_7_6, cx_7_7, cx_7_8, cx_7_9, cx_7_10, cx_7_11, cx_7_12, cx_7_13⟩ := pt_cells Rx_7
  obtain ⟨cz_7_0, cz_7_1⟩ := cells2s Rz_7
  have q0 := fz (k := 0) Rz_7
  have q1 := fz (k := 1) Rz_7
  obtain ⟨E0, E1⟩ := set2_cells Rz_7 (.int .u64 (u : Nat)) (.int .u64 (v : Nat))
  go_wp2
  exact bodyPost_ret (v := .tuple #[.agg #[.int .u64 (u : Nat), .int .u64 (v : Nat)], .int .u8 fl, .int .i64 0]) (by simp [results, Tryz.results5, go_sem, E0, E1]) rfl ⟨rfl, set2_below B7 (by first | exact Nat.le_refl _ | omega | (have := S2.out; have := La_2.out; have := Lz_2.out; omega)) _ _⟩
set_option maxRecDepth 100000 in
set_option maxHeartbeats 8000000 in
theorem pw_ft_no (t g : Int) (x1 y1 : Nat)  (w : World) (KV : Box (∀ w, FAt w → Calls Tryz.prog 5 #[.int .u8 t, .int .u8 g, .int .u8 1, .agg #[.int .u64 (x1 : Nat), .int .u64 (y1 : Nat)]] w fun r w' => r = .returned (.tuple #[.agg #[.int .u64 0, .int .u64 0], .int .u8 0, .int .i64 2]) ∧ Below w.heap.size w w')) (hT : FAt w) : Calls Tryz.prog 8 #[.int .u8 t, .int .u8 g, .agg #[.int .u64 (x1 : Nat), .int .u64 (y1 : Nat)]] w fun r w' => r = .returned (.tuple #[.bool false, .int .i64 2]) ∧ Below w.heap.size w w' := by
  have FF := box hT
  clear hT
  have hat := cw_at 6
  have hz := cw6z
  have hff := cw6f
  have hs0 := st0
  have hcs : ∀ x, ((cw 6 x).size = 6) = True := fun x => eq_true (cw_size 6 x)
  have hp1 := rgf
  have hp3 := rgz
  have hp5 : ∀ (c : Bool) (s : Nat) (x : Int) (r : Bool), ((rg c s x r).size = 9) = True := fun _ _ _ _ => eq_true rfl
  have hq1 := ptf
  have hq3 := ptz
  have hq4 := st_p0
  have hq5 : ∀ (c s : Nat) (x : Int) (r : Nat), ((pt c s x r).size = 14) = True := fun _ _ _ _ => eq_true rfl
  obtain ⟨Ra_0, B0⟩ := opn1 w (Obj.cells #[.int .u64 (x1 : Nat), .int .u64 (y1 : Nat)] 26)
  go_enter Tryz.func8, Tryz.ntmps8
  obtain ⟨ca_0_0, ca_0_1⟩ := cells2s Ra_0
  go_wp2_with fail
  refine (KV.out _ (fatB FF.out B0)).mono ?_
  rintro r w1 ⟨rfl, b1⟩
  have B1 : Below w.heap.size w w1 := btr B0 b1
  have Ra_1 := heap_of b1 _ _ _ Ra_0
  clear b1 B0 Ra_0 ca_0_0 ca_0_1
  obtain ⟨ca_1_0, ca_1_1⟩ := cells2s Ra_1
  have S2 := box B1.size
  have La_2 : Box (w.heap.size < w1.heap.size) := box (Array.getElem?_eq_some_iff.1 Ra_1).1
  have Rb_2 := heap_alloc_last w1 (Obj.cells #[.int .u64 0, .int .u64 0] 26)
  have B2 := btr B1 (bal w1 (Obj.cells #[.int .u64 0, .int .u64 0] 26))
  have Ra_2 := heap_of (bal w1 (Obj.cells #[.int .u64 0, .int .u64 0] 26)) _ _ _ Ra_1
  clear B1 Ra_1 ca_1_0 ca_1_1
  obtain ⟨ca_2_0, ca_2_1⟩ := cells2s Ra_2
  obtain ⟨cb_2_0, cb_2_1⟩ := cells2s Rb_2
  go_wp2
  go_ret2
  exact ⟨rfl, B2⟩
set_option maxRecDepth 100000 in
set_option maxHeartbeats 8000000 in
theorem pw_ft_nan (t g : Int) (x1 y1 : Nat) (c1 m1 r1 c2 m2 r2 u v T : Nat) (X1 X2 n fl : Int) (o : Bool) (w : World) (KV : Box (∀ w, FAt w → Calls Tryz.prog 5 #[.int .u8 t, .int .u8 g, .int .u8 1, .agg #[.int .u64 (x1 : Nat), .int .u64 (y1 : Nat)]] w fun r w' => r = .returned (.tuple #[.agg #[.int .u64 (u : Nat), .int .u64 (v : Nat)], .int .u8 fl, .int .i64 0]) ∧ Below w.heap.size w w')) (KU1 : Box (∀ w, FAt w → Calls Tryz.prog 10 #[.int .u8 g, .agg #[.int .u64 (x1 : Nat), .int .u64 (y1 : Nat)]] w fun r w' => r = .returned (.tuple #[.agg (pt c1 m1 X1 r1), .int .i64 0]) ∧ Below w.heap.size w w')) (KU2 : Box (∀ w, FAt w → Calls Tryz.prog 10 #[.int .u8 t, .agg #[.int .u64 (u : Nat), .int .u64 (v : Nat)]] w fun r w' => r = .returned (.tuple #[.agg (pt c2 m2 X2 r2), .int .i64 0]) ∧ Below w.heap.size w w')) (KI : Box (∀ w, Calls Tryz.prog 13 #[.int .u8 (c1 : Nat)] w fun r w' => r = .returned (.bool true) ∧ Below w.heap.size w w')) (hT : FAt w) : Calls Tryz.prog 8 #[.int .u8 t, .int .u8 g, .agg #[.int .u64 (x1 : Nat), .int .u64 (y1 : Nat)]] w fun r w' => r = .returned (.tuple #[.bool false, .int .i64 0]) ∧ Below w.heap.size w w' := by
  have FF := box hT
  clear hT
  have hat := cw_at 6
  have hz := cw6z
  have hff := cw6f
  have hs0 := st0
  have hcs : ∀ x, ((cw 6 x).size = 6) = True := fun x => eq_true (cw_size 6 x)
  have hp1 := rgf
  have hp3 := rgz
  have hp5 : ∀ (c : Bool) (s : Nat) (x : Int) (r : Bool), ((rg c s x r).size = 9) = True := fun _ _ _ _ => eq_true rfl
  have hq1 := ptf
  have hq3 := ptz
  have hq4 := st_p0
  have hq5 : ∀ (c s : Nat) (x : Int) (r : Nat), ((pt c s x r).size = 14) = True := fun _ _ _ _ => eq_true rfl
  obtain ⟨Ra_0, B0⟩ := opn1 w (Obj.cells #[.int .u64 (x1 : Nat), .int .u64 (y1 : Nat)] 26)
  go_enter Tryz.func8, Tryz.ntmps8
  obtain ⟨ca_0_0, ca_0_1⟩ := cells2s Ra_0
  go_wp2_with fail
  refine (KV.out _ (fatB FF.out B0)).mono ?_
  rintro r w1 ⟨rfl, b1⟩
  have B1 : Below w.heap.size w w1 := btr B0 b1
  have Ra_1 := heap_of b1 _ _ _ Ra_0
  clear b1 B0 Ra_0 ca_0_0 ca_0_1
  obtain ⟨ca_1_0, ca_1_1⟩ := cells2s Ra_1
  have S2 := box B1.size
  have La_2 : Box (w.heap.size < w1.heap.size) := box (Array.getElem?_eq_some_iff.1 Ra_1).1
  have Rb_2 := heap_alloc_last w1 (Obj.cells #[.int .u64 (u : Nat), .int .u64 (v : Nat)] 26)
  have B2 := btr B1 (bal w1 (Obj.cells #[.int .u64 (u : Nat), .int .u64 (v : Nat)] 26))
  have Ra_2 := heap_of (bal w1 (Obj.cells #[.int .u64 (u : Nat), .int .u64 (v : Nat)] 26)) _ _ _ Ra_1
  clear B1 Ra_1 ca_1_0 ca_1_1
  obtain ⟨ca_2_0, ca_2_1⟩ := cells2s Ra_2
  obtain ⟨cb_2_0, cb_2_1⟩ := cells2s Rb_2
  go_wp2_with fail
  refine (KU1.out _ (fatB FF.out B2)).mono ?_
  rintro r w3 ⟨rfl, b3⟩
  have B3 : Below w.heap.size w w3 := btr B2 b3
  have Ra_3 := heap_of b3 _ _ _ Ra_2
  have Rb_3 := heap_of b3 _ _ _ Rb_2
  clear b3 B2 Ra_2 ca_2_0 ca_2_1 Rb_2 cb_2_0 cb_2_1
  obtain ⟨ca_3_0, ca_3_1⟩ := cells2s Ra_3
  obtain ⟨cb_3_0, cb_3_1⟩ := cells2s Rb_3
  have S4 := box B3.size
  have La_4 : Box (w.heap.size < w3.heap.size) := box (Array.getElem?_eq_some_iff.1 Ra_3).1
  have Lb_4 : Box (w1.heap.size < w3.heap.size) := box (Array.getElem?_eq_some_iff.1 Rb_3).1
  have Rx_4 := heap_alloc_last w3 (Obj.cells (pt c1 m1 X1 r1) 44)
  have B4 := btr B3 (bal w3 (Obj.cells (pt c1 m1 X1 r1) 44))
  have Ra_4 := heap_of (bal w3 (Obj.cells (pt c1 m1 X1 r1) 44)) _ _ _ Ra_3
  have Rb_4 := heap_of (bal w3 (Obj.cells (pt c1 m1 X1 r1) 44)) _ _ _ Rb_3
  clear B3 Ra_3 ca_3_0 ca_3_1 Rb_3 cb_3_0 cb_3_1
  obtain ⟨ca_4_0, ca_4_1⟩ := cells2s Ra_4
  obtain ⟨cb_4_0, cb_4_1⟩ := cells2s Rb_4
  obtain ⟨cx_4_0, cx_4_1, cx_4_2, cx_4_3, cx_4_4, cx_4_5, cx_4_6, cx_4_7, cx_4_8, cx_4_9, cx_4_10, cx_4_11, cx_4_12, cx_4_13⟩ := pt_cells Rx_4
  obtain ⟨cb_4_0, cb_4_1⟩ := cells2s Rb_4
  go_wp2_with fail
  refine (KU2.out _ (fatB FF.out B4)).mono ?_
  rintro r w5 ⟨rfl, b5⟩
  have B5 : Below w.heap.size w w5 := btr B4 b5
  have Ra_5 := heap_of b5 _ _ _ Ra_4
  have Rb_5 := heap_of b5 _ _ _ Rb_4
  have Rx_5 := heap_of b5 _ _ _ Rx_4
  clear b5 B4 Ra_4 ca_4_0 ca_4_1 Rb_4 cb_4_0 cb_4_1 Rx_4 cx_4_0 cx_4_1 cx_4_2 cx_4_3 cx_4_4 cx_4_5 cx_4_6 cx_4_7 cx_4_8 cx_4_9 cx_4_10 cx_4_11 cx_4_12 cx_4_13
  obtain ⟨ca_5_0, ca_5_1⟩ := cells2s Ra_5
  obtain ⟨cb_5_0, cb_5_1⟩ := cells2s Rb_5
  obtain ⟨cx_5_0, cx_5_1, cx_5_2, cx_5_3, cx_5_4, cx_5_5, cx_5_6, cx_5_7, cx_5_8, cx_5_9, cx_5_10, cx_5_11, cx_5_12, cx_5_13⟩ := pt_cells Rx_5
  have S6 := box B5.size
  have La_6 : Box (w.heap.size < w5.heap.size) := box (Array.getElem?_eq_some_iff.1 Ra_5).1
  have Lb_6 : Box (w1.heap.size < w5.heap.size) := box (Array.getElem?_eq_some_iff.1 Rb_5).1
  have Lx_6 : Box (w3.heap.size < w5.heap.size) := box (Array.getElem?_eq_some_iff.1 Rx_5).1
  have Ry_6 := heap_alloc_last w5 (Obj.cells (pt c2 m2 X2 r2) 44)
  have B6 := btr B5 (bal w5 (Obj.cells (pt c2 m2 X2 r2) 44))
  have Ra_6 := heap_of (bal w5 (Obj.cells (pt c2 m2 X2 r2) 44)) _ _ _ Ra_5
  have Rb_6 := heap_of (bal w5 (Obj.cells (pt c2 m2 X2 r2) 44)) _ _ _ Rb_5
  have Rx_6 := heap_of (bal w5 (Obj.cells (pt c2 m2 X2 r2) 44)) _ _ _ Rx_5
  clear B5 Ra_5 ca_5_0 ca_5_1 Rb_5 cb_5_0 cb_5_1 Rx_5 cx_5_0 cx_5_1 cx_5_2 cx_5_3 cx_5_4 cx_5_5 cx_5_6 cx_5_7 cx_5_8 cx_5_9 cx_5_10 cx_5_11 cx_5_12 cx_5_13
  obtain ⟨ca_6_0, ca_6_1⟩ := cells2s Ra_6
  obtain ⟨cb_6_0, cb_6_1⟩ := cells2s Rb_6
  obtain ⟨cx_6_0, cx_6_1, cx_6_2, cx_6_3, cx_6_4, cx_6_5, cx_6_6, cx_6_7, cx_6_8, cx_6_9, cx_6_10, cx_6_11, cx_6_12, cx_6_13⟩ := pt_cells Rx_6
  obtain ⟨cy_6_0, cy_6_1, cy_6_2, cy_6_3, cy_6_4, cy_6_5, cy_6_6, cy_6_7, cy_6_8, cy_6_9, cy_6_10, cy_6_11, cy_6_12, cy_6_13⟩ := pt_cells Ry_6
  obtain ⟨cx_6_0, cx_6_1, cx_6_2, cx_6_3, cx_6_4, cx_6_5, cx_6_6, cx_6_7, cx_6_8, cx_6_9, cx_6_10, cx_6_11, cx_6_12, cx_6_13⟩ := pt_cells Rx_6
  obtain ⟨cy_6_0, cy_6_1, cy_6_2, cy_6_3, cy_6_4, cy_6_5, cy_6_6, cy_6_7, cy_6_8, cy_6_9, cy_6_10, cy_6_11, cy_6_12, cy_6_13⟩ := pt_cells Ry_6
  go_wp2_with fail
  obtain ⟨F, hF1, hF2⟩ := below_fun (w5.alloc (Obj.cells (pt c2 m2 X2 r2) 44))
  have fa_0 := fun u => cells4 (heap_of (hF1 u) _ _ _ Ra_6) 0 _ rfl
  have fa_1 := fun u => cells4 (heap_of (hF1 u) _ _ _ Ra_6) 1 _ rfl
  have fb_0 := fun u => cells4 (heap_of (hF1 u) _ _ _ Rb_6) 0 _ rfl
  have fb_1 := fun u => cells4 (heap_of (hF1 u) _ _ _ Rb_6) 1 _ rfl
  have fx_0 := fun u => (pt_cells (heap_of (hF1 u) _ _ _ Rx_6)).1
  have fx_1 := fun u => (pt_cells (heap_of (hF1 u) _ _ _ Rx_6)).2.1
  have fx_2 := fun u => (pt_cells (heap_of (hF1 u) _ _ _ Rx_6)).2.2.1
  have fx_3 := fun u => (pt_cells (heap_of (hF1 u) _ _ _ Rx_6)).2.2.2.1
  have fx_4 := fun u => (pt_cells (heap_of (hF1 u) _ _ _ Rx_6)).2.2.2.2.1
  have fx_5 := fun u => (pt_cells (heap_of (hF1 u) _ _ _ Rx_6)).2.2.2.2.2.1
  have fx_6 := fun u => (pt_cells (heap_of (hF1 u) _ _ _ Rx_6)).2.2.2.2.2.2.1
  have fx_7 := fun u => (pt_cells (heap_of (hF1 u) _ _ _ Rx_6)).2.2.2.2.2.2.2.1
  have fx_8 := fun u => (pt_cells (heap_of (hF1 u) _ _ _ Rx_6)).2.2.2.2.2.2.2.2.1
  have fx_9 := fun u => (pt_cells (heap_of (hF1 u) _ _ _ Rx_6)).2.2.2.2.2.2.2.2.2.1
  have fx_10 := fun u => (pt_cells (heap_of (hF1 u) _ _ _ Rx_6)).2.2.2.2.2.2.2.2.2.2.1
  have fx_11 := fun u => (pt_cells (heap_of (hF1 u) _ _ _ Rx_6)).2.2.2.2.2.2.2.2.2.2.2.1
  have fx_12 := fun u => (pt_cells (heap_of (hF1 u) _ _ _ Rx_6)).2.2.2.2.2.2.2.2.2.2.2.2.1
  have fx_13 := fun u => (pt_cells (heap_of (hF1 u) _ _ _ Rx_6)).2.2.2.2.2.2.2.2.2.2.2.2.2
  have fy_0 := fun u => (pt_cells (heap_of (hF1 u) _ _ _ Ry_6)).1
  have fy_1 := fun u => (pt_cells (heap_of (hF1 u) _ _ _ Ry_6)).2.1
  have fy_2 := fun u => (pt_cells (heap_of (hF1 u) _ _ _ Ry_6)).2.2.1
  have fy_3 := fun u => (pt_cells (heap_of (hF1 u) _ _ _ Ry_6)).2.2.2.1
  have fy_4 := fun u => (pt_cells (heap_of (hF1 u) _ _ _ Ry_6)).2.2.2.2.1
  have fy_5 := fun u => (pt_cells (heap_of (hF1 u) _ _ _ Ry_6)).2.2.2.2.2.1
  have fy_6 := fun u => (pt_cells (heap_of (hF1 u) _ _ _ Ry_6)).2.2.2.2.2.2.1
  have fy_7 := fun u => (pt_cells (heap_of (hF1 u) _ _ _ Ry_6)).2.2.2.2.2.2.2.1
  have fy_8 := fun u => (pt_cells (heap_of (hF1 u) _ _ _ Ry_6)).2.2.2.2.2.2.2.2.1
  have fy_9 := fun u => (pt_cells (heap_of (hF1 u) _ _ _ Ry_6)).2.2.2.2.2.2.2.2.2.1
  have fy_10 := fun u => (pt_cells (heap_of (hF1 u) _ _ _ Ry_6)).2.2.2.2.2.2.2.2.2.2.1
  have fy_11 := fun u => (pt_cells (heap_of (hF1 u) _ _ _ Ry_6)).2.2.2.2.2.2.2.2.2.2.2.1
  have fy_12 := fun u => (pt_cells (heap_of (hF1 u) _ _ _ Ry_6)).2.2.2.2.2.2.2.2.2.2.2.2.1
  have fy_13 := fun u => (pt_cells (heap_of (hF1 u) _ _ _ Ry_6)).2.2.2.2.2.2.2.2.2.2.2.2.2
  refine wp_region_below F hF2 (by kernel_rfl) (by kernel_rfl) ?_
  repeat first | go_big_quiet_step (first | (go_at_call 13; exact quietF hF1 hF2 (KI.out _)) | fail) | quiet_step (first | (go_at_call 13; exact quietF hF1 hF2 (KI.out _)) | fail)
  refine wpQuiet_nil ?_
  rintro _ ⟨uW, rfl⟩
  have B7 := btr B6 (hF1 uW)
  have Ra_7 := heap_of (hF1 uW) _ _ _ Ra_6
  have Rb_7 := heap_of (hF1 uW) _ _ _ Rb_6
  have Rx_7 := heap_of (hF1 uW) _ _ _ Rx_6
  have Ry_7 := heap_of (hF1 uW) _ _ _ Ry_6
  obtain ⟨w7, hw⟩ : ∃ V, F uW = V := ⟨_, rfl⟩
  rw [hw] at B7 Ra_7 Rb_7 Rx_7 Ry_7
  try rw [hw]
  clear hw hF1 hF2 B6 fa_0 fa_1 fb_0 fb_1 fx_0 fx_1 fx_2 fx_3 fx_4 fx_5 fx_6 fx_7 fx_8 fx_9 fx_10 fx_11 fx_12 fx_13 fy_0 fy_1 fy_2 fy_3 fy_4 fy_5 fy_6 fy_7 fy_8 fy_9 fy_10 fy_11 fy_12 fy_13 Ra_6 ca_6_0 ca_6_1 Rb_6 cb_6_0 cb_6_1 Rx_6 cx_6_0 cx_6_1 cx_6_2 cx_6_3 cx_6_4 cx_6_5 cx_6_6 cx_6_7 cx_6_8 cx_6_9 cx_6_10 cx_6_11 cx_6_12 cx_6_13 Ry_6 cy_6_0 cy_6_1 cy_6_2 cy_6_3 cy_6_4 cy_6_5 cy_6_6 cy_6_7 cy_6_8 cy_6_9 cy_6_10 cy_6_11 cy_6_12 cy_6_13
  clear F
  obtain ⟨ca_7_0, ca_7_1⟩ := cells2s Ra_7
  obtain ⟨cb_7_0, cb_7_1⟩ := cells2s Rb_7
  obtain ⟨cx_7_0, cx_7_1, cx_7_2, cx_7_3, cx_7_4, cx_7_5, cx_7_6, cx_7_7, cx_7_8, cx_7_9, cx_7_10, cx_7_11, cx_7_12, cx_7_13⟩ := pt_cells Rx_7
  obtain ⟨cy_7_0, cy_7_1, cy_7_2, cy_7_3, cy_7_4, cy_7_5, cy_7_6, cy_7_7, cy_7_8, cy_7_9, cy_7_10, cy_7_11, cy_7_12, cy_7_13⟩ := pt_cells Ry_7
  go_wp2
  go_ret2
  exact ⟨rfl, B7⟩
set_option maxRecDepth 100000 in
set_option maxHeartbeats 8000000 in
theorem pw_ft_num (t g : Int) (x1 y1 : Nat) (c1 m1 r1 c2 m2 r2 u v T : Nat) (X1 X2 n fl : Int) (o : Bool) (hn : IntKind.i64.wrap (X2 - X1) = n) (ho : decide (T = m1) = o) (hT1 : T < Q) (hm1 : m1 < Q) (w : World) (KV : Box (∀ w, FAt w → Calls Tryz.prog 5 #[.int .u8 t, .int .u8 g, .int .u8 1, .agg #[.int .u64 (x1 : Nat), .int .u64 (y1 : Nat)]] w fun r w' => r = .returned (.tuple #[.agg #[.int .u64 (u : Nat), .int .u64 (v : Nat)], .int .u8 fl, .int .i64 0]) ∧ Below w.heap.size w w')) (KU1 : Box (∀ w, FAt w → Calls Tryz.prog 10 #[.int .u8 g, .agg #[.int .u64 (x1 : Nat), .int .u64 (y1 : Nat)]] w fun r w' => r = .returned (.tuple #[.agg (pt c1 m1 X1 r1), .int .i64 0]) ∧ Below w.heap.size w w')) (KU2 : Box (∀ w, FAt w → Calls Tryz.prog 10 #[.int .u8 t, .agg #[.int .u64 (u : Nat), .int .u64 (v : Nat)]] w fun r w' => r = .returned (.tuple #[.agg (pt c2 m2 X2 r2), .int .i64 0]) ∧ Below w.heap.size w w')) (KI : Box (∀ w, Calls Tryz.prog 13 #[.int .u8 (c1 : Nat)] w fun r w' => r = .returned (.bool false) ∧ Below w.heap.size w w')) (KW : Box (∀ w, Calls Tryz.prog 32 #[.agg (cw 6 m2), .int .i64 n] w fun r w' => r = .returned (.agg (cw 6 T)) ∧ Below w.heap.size w w')) (hT : FAt w) : Calls Tryz.prog 8 #[.int .u8 t, .int .u8 g, .agg #[.int .u64 (x1 : Nat), .int .u64 (y1 : Nat)]] w fun r w' => r = .returned (.tuple #[.bool o, .int .i64 0]) ∧ Below w.heap.size w w' := by
  have FF := box hT
  clear hT
  have hat := cw_at 6
  have hz := cw6z
  have hff := cw6f
  have hs0 := st0
  have hcs : ∀ x, ((cw 6 x).size = 6) = True := fun x => eq_true (cw_size 6 x)
  have hp1 := rgf
  have hp3 := rgz
  have hp5 : ∀ (c : Bool) (s : Nat) (x : Int) (r : Bool), ((rg c s x r).size = 9) = True := fun _ _ _ _ => eq_true rfl
  have hq1 := ptf
  have hq3 := ptz
  have hq4 := st_p0
  have hq5 : ∀ (c s : Nat) (x : Int) (r : Nat), ((pt c s x r).size = 14) = True := fun _ _ _ _ => eq_true rfl
  obtain ⟨Ra_0, B0⟩ := opn1 w (Obj.cells #[.int .u64 (x1 : Nat), .int .u64 (y1 : Nat)] 26)
  go_enter Tryz.func8, Tryz.ntmps8
  have heq := eq6
  have hgq := eqg6
  obtain ⟨ca_0_0, ca_0_1⟩ := cells2s Ra_0
  go_wp2_with fail
  refine (KV.out _ (fatB FF.out B0)).mono ?_
  rintro r w1 ⟨rfl, b1⟩
  have B1 : Below w.heap.size w w1 := btr B0 b1
  have Ra_1 := heap_of b1 _ _ _ Ra_0
  clear b1 B0 Ra_0 ca_0_0 ca_0_1
  obtain ⟨ca_1_0, ca_1_1⟩ := cells2s Ra_1
  have S2 := box B1.size
  have La_2 : Box (w.heap.size < w1.heap.size) := box (Array.getElem?_eq_some_iff.1 Ra_1).1
  have Rb_2 := heap_alloc_last w1 (Obj.cells #[.int .u64 (u : Nat), .int .u64 (v : Nat)] 26)
  have B2 := btr B1 (bal w1 (Obj.cells #[.int .u64 (u : Nat), .int .u64 (v : Nat)] 26))
  have Ra_2 := heap_of (bal w1 (Obj.cells #[.int .u64 (u : Nat), .int .u64 (v : Nat)] 26)) _ _ _ Ra_1
  clear B1 Ra_1 ca_1_0 ca_1_1
  obtain ⟨ca_2_0, ca_2_1⟩ := cells2s Ra_2
  obtain ⟨cb_2_0, cb_2_1⟩ := cells2s Rb_2
  go_wp2_with fail
  refine (KU1.out _ (fatB FF.out B2)).mono ?_
  rintro r w3 ⟨rfl, b3⟩
  have B3 : Below w.heap.size w w3 := btr B2 b3
  have Ra_3 := heap_of b3 _ _ _ Ra_2
  have Rb_3 := heap_of b3 _ _ _ Rb_2
  clear b3 B2 Ra_2 ca_2_0 ca_2_1 Rb_2 cb_2_0 cb_2_1
  obtain ⟨ca_3_0, ca_3_1⟩ := cells2s Ra_3
  obtain ⟨cb_3_0, cb_3_1⟩ := cells2s Rb_3
  have S4 := box B3.size
  have La_4 : Box (w.heap.size < w3.heap.size) := box (Array.getElem?_eq_some_iff.1 Ra_3).1
  have Lb_4 : Box (w1.heap.size < w3.heap.size) := box (Array.getElem?_eq_some_iff.1 Rb_3).1
  have Rx_4 := heap_alloc_last w3 (Obj.cells (pt c1 m1 X1 r1) 44)
  have B4 := btr B3 (bal w3 (Obj.cells (pt c1 m1 X1 r1) 44))
  have Ra_4 := heap_of (bal w3 (Obj.cells (pt c1 m1 X1 r1) 44)) _ _ _ Ra_3
  have Rb_4 := heap_of (bal w3 (Obj.cells (pt c1 m1 X1 r1) 44)) _ _ _ Rb_3
  clear B3 Ra_3 ca_3_0 ca_3_1 Rb_3 cb_3_0 cb_3_1
  obtain ⟨ca_4_0, ca_4_1⟩ := cells2s Ra_4
  obtain ⟨cb_4_0, cb_4_1⟩ := cells2s Rb_4
  obtain ⟨cx_4_0, cx_4_1, cx_4_2, cx_4_3, cx_4_4, cx_4_5, cx_4_6, cx_4_7, cx_4_8, cx_4_9, cx_4_10, cx_4_11, cx_4_12, cx_4_13⟩ := pt_cells Rx_4
  obtain ⟨cb_4_0, cb_4_1⟩ := cells2s Rb_4
  go_wp2_with fail
  refine (KU2.out _ (fatB FF.out B4)).mono ?_
  rintro r w5 ⟨rfl, b5⟩
  have B5 : Below w.heap.size w w5 := btr B4 b5
  have Ra_5 := heap_of b5 _ _ _ Ra_4
  have Rb_5 := heap_of b5 _ _ _ Rb_4
  have Rx_5 := heap_of b5 _ _ _ Rx_4
  clear b5 B4 Ra_4 ca_4_0 ca_4_1 Rb_4 cb_4_0 cb_4_1 Rx_4 cx_4_0 cx_4_1 cx_4_2 cx_4_3 cx_4_4 cx_4_5 cx_4_6 cx_4_7 cx_4_8 cx_4_9 cx_4_10 cx_4_11 cx_4_12 cx_4_13
  obtain ⟨ca_5_0, ca_5_1⟩ := cells2s Ra_5
  obtain ⟨cb_5_0, cb_5_1⟩ := cells2s Rb_5
  obtain ⟨cx_5_0, cx_5_1, cx_5_2, cx_5_3, cx_5_4, cx_5_5, cx_5_6, cx_5_7, cx_5_8, cx_5_9, cx_5_10, cx_5_11, cx_5_12, cx_5_13⟩ := pt_cells Rx_5
  have S6 := box B5.size
  have La_6 : Box (w.heap.size < w5.heap.size) := box (Array.getElem?_eq_some_iff.1 Ra_5).1
  have Lb_6 : Box (w1.heap.size < w5.heap.size) := box (Array.getElem?_eq_some_iff.1 Rb_5).1
  have Lx_6 : Box (w3.heap.size < w5.heap.size) := box (Array.getElem?_eq_some_iff.1 Rx_5).1
  have Ry_6 := heap_alloc_last w5 (Obj.cells (pt c2 m2 X2 r2) 44)
  have B6 := btr B5 (bal w5 (Obj.cells (pt c2 m2 X2 r2) 44))
  have Ra_6 := heap_of (bal w5 (Obj.cells (pt c2 m2 X2 r2) 44)) _ _ _ Ra_5
  have Rb_6 := heap_of (bal w5 (Obj.cells (pt c2 m2 X2 r2) 44)) _ _ _ Rb_5
  have Rx_6 := heap_of (bal w5 (Obj.cells (pt c2 m2 X2 r2) 44)) _ _ _ Rx_5
  clear B5 Ra_5 ca_5_0 ca_5_1 Rb_5 cb_5_0 cb_5_1 Rx_5 cx_5_0 cx_5_1 cx_5_2 cx_5_3 cx_5_4 cx_5_5 cx_5_6 cx_5_7 cx_5_8 cx_5_9 cx_5_10 cx_5_11 cx_5_12 cx_5_13
  obtain ⟨ca_6_0, ca_6_1⟩ := cells2s Ra_6
  obtain ⟨cb_6_0, cb_6_1⟩ := cells2s Rb_6
  obtain ⟨cx_6_0, cx_6_1, cx_6_2, cx_6_3, cx_6_4, cx_6_5, cx_6_6, cx_6_7, cx_6_8, cx_6_9, cx_6_10, cx_6_11, cx_6_12, cx_6_13⟩ := pt_cells Rx_6
  obtain ⟨cy_6_0, cy_6_1, cy_6_2, cy_6_3, cy_6_4, cy_6_5, cy_6_6, cy_6_7, cy_6_8, cy_6_9, cy_6_10, cy_6_11, cy_6_12, cy_6_13⟩ := pt_cells Ry_6
  obtain ⟨cx_6_0, cx_6_1, cx_6_2, cx_6_3, cx_6_4, cx_6_5, cx_6_6, cx_6_7, cx_6_8, cx_6_9, cx_6_10, cx_6_11, cx_6_12, cx_6_13⟩ := pt_cells Rx_6
  obtain ⟨cy_6_0, cy_6_1, cy_6_2, cy_6_3, cy_6_4, cy_6_5, cy_6_6, cy_6_7, cy_6_8, cy_6_9, cy_6_10, cy_6_11, cy_6_12, cy_6_13⟩ := pt_cells Ry_6
  go_wp2_with fail
  obtain ⟨F, hF1, hF2⟩ := below_fun (w5.alloc (Obj.cells (pt c2 m2 X2 r2) 44))
  have fa_0 := fun u => cells4 (heap_of (hF1 u) _ _ _ Ra_6) 0 _ rfl
  have fa_1 := fun u => cells4 (heap_of (hF1 u) _ _ _ Ra_6) 1 _ rfl
  have fb_0 := fun u => cells4 (heap_of (hF1 u) _ _ _ Rb_6) 0 _ rfl
  have fb_1 := fun u => cells4 (heap_of (hF1 u) _ _ _ Rb_6) 1 _ rfl
  have fx_0 := fun u => (pt_cells (heap_of (hF1 u) _ _ _ Rx_6)).1
  have fx_1 := fun u => (pt_cells (heap_of (hF1 u) _ _ _ Rx_6)).2.1
  have fx_2 := fun u => (pt_cells (heap_of (hF1 u) _ _ _ Rx_6)).2.2.1
  have fx_3 := fun u => (pt_cells (heap_of (hF1 u) _ _ _ Rx_6)).2.2.2.1
  have fx_4 := fun u => (pt_cells (heap_of (hF1 u) _ _ _ Rx_6)).2.2.2.2.1
  have fx_5 := fun u => (pt_cells (heap_of (hF1 u) _ _ _ Rx_6)).2.2.2.2.2.1
  have fx_6 := fun u => (pt_cells (heap_of (hF1 u) _ _ _ Rx_6)).2.2.2.2.2.2.1
  have fx_7 := fun u => (pt_cells (heap_of (hF1 u) _ _ _ Rx_6)).2.2.2.2.2.2.2.1
  have fx_8 := fun u => (pt_cells (heap_of (hF1 u) _ _ _ Rx_6)).2.2.2.2.2.2.2.2.1
  have fx_9 := fun u => (pt_cells (heap_of (hF1 u) _ _ _ Rx_6)).2.2.2.2.2.2.2.2.2.1
  have fx_10 := fun u => (pt_cells (heap_of (hF1 u) _ _ _ Rx_6)).2.2.2.2.2.2.2.2.2.2.1
  have fx_11 := fun u => (pt_cells (heap_of (hF1 u) _ _ _ Rx_6)).2.2.2.2.2.2.2.2.2.2.2.1
  have fx_12 := fun u => (pt_cells (heap_of (hF1 u) _ _ _ Rx_6)).2.2.2.2.2.2.2.2.2.2.2.2.1
  have fx_13 := fun u => (pt_cells (heap_of (hF1 u) _ _ _ Rx_6)).2.2.2.2.2.2.2.2.2.2.2.2.2
  have fy_0 := fun u => (pt_cells (heap_of (hF1 u) _ _ _ Ry_6)).1
  have fy_1 := fun u => (pt_cells (heap_of (hF1 u) _ _ _ Ry_6)).2.1
  have fy_2 := fun u => (pt_cells (heap_of (hF1 u) _ _ _ Ry_6)).2.2.1
  have fy_3 := fun u => (pt_cells (heap_of (hF1 u) _ _ _ Ry_6)).2.2.2.1
  have fy_4 := fun u => (pt_cells (heap_of (hF1 u) _ _ _ Ry_6)).2.2.2.2.1
  have fy_5 := fun u => (pt_cells (heap_of (hF1 u) _ _ _ Ry_6)).2.2.2.2.2.1
  have fy_6 := fun u => (pt_cells (heap_of (hF1 u) _ _ _ Ry_6)).2.2.2.2.2.2.1
  have fy_7 := fun u => (pt_cells (heap_of (hF1 u) _ _ _ Ry_6)).2.2.2.2.2.2.2.1
  have fy_8 := fun u => (pt_cells (heap_of (hF1 u) _ _ _ Ry_6)).2.2.2.2.2.2.2.2.1
  have fy_9 := fun u => (pt_cells (heap_of (hF1 u) _ _ _ Ry_6)).2.2.2.2.2.2.2.2.2.1
  have fy_10 := fun u => (pt_cells (heap_of (hF1 u) _ _ _ Ry_6)).2.2.2.2.2.2.2.2.2.2.1
  have fy_11 := fun u => (pt_cells (heap_of (hF1 u) _ _ _ Ry_6)).2.2.2.2.2.2.2.2.2.2.2.1
  have fy_12 := fun u => (pt_cells (heap_of (hF1 u) _ _ _ Ry_6)).2.2.2.2.2.2.2.2.2.2.2.2.1
  have fy_13 := fun u => (pt_cells (heap_of (hF1 u) _ _ _ Ry_6)).2.2.2.2.2.2.2.2.2.2.2.2.2
  refine wp_region_below F hF2 (by kernel_rfl) (by kernel_rfl) ?_
  repeat first | go_big_quiet_step (first | (go_at_call 13; exact quietF hF1 hF2 (KI.out _)) | (go_at_call 32; exact quietF hF1 hF2 (KW.out _)) | fail) | quiet_step (first | (go_at_call 13; exact quietF hF1 hF2 (KI.out _)) | (go_at_call 32; exact quietF hF1 hF2 (KW.out _)) | fail)
  refine wpQuiet_nil ?_
  rintro _ ⟨uW, rfl⟩
  have B7 := btr B6 (hF1 uW)
  have Ra_7 := heap_of (hF1 uW) _ _ _ Ra_6
  have Rb_7 := heap_of (hF1 uW) _ _ _ Rb_6
  have Rx_7 := heap_of (hF1 uW) _ _ _ Rx_6
  have Ry_7 := heap_of (hF1 uW) _ _ _ Ry_6
  obtain ⟨w7, hw⟩ : ∃ V, F uW = V := ⟨_, rfl⟩
  rw [hw] at B7 Ra_7 Rb_7 Rx_7 Ry_7
  try rw [hw]
  clear hw hF1 hF2 B6 fa_0 fa_1 fb_0 fb_1 fx_0 fx_1 fx_2 fx_3 fx_4 fx_5 fx_6 fx_7 fx_8 fx_9 fx_10 fx_11 fx_12 fx_13 fy_0 fy_1 fy_2 fy_3 fy_4 fy_5 fy_6 fy_7 fy_8 fy_9 fy_10 fy_11 fy_12 fy_13 Ra_6 ca_6_0 ca_6_1 Rb_6 cb_6_0 cb_6_1 Rx_6 cx_6_0 cx_6_1 cx_6_2 cx_6_3 cx_6_4 cx_6_5 cx_6_6 cx_6_7 cx_6_8 cx_6_9 cx_6_10 cx_6_11 cx_6_12 cx_6_13 Ry_6 cy_6_0 cy_6_1 cy_6_2 cy_6_3 cy_6_4 cy_6_5 cy_6_6 cy_6_7 cy_6_8 cy_6_9 cy_6_10 cy_6_11 cy_6_12 cy_6_13
  clear F
  obtain ⟨ca_7_0, ca_7_1⟩ := cells2s Ra_7
  obtain ⟨cb_7_0, cb_7_1⟩ := cells2s Rb_7
  obtain ⟨cx_7_0, cx_7_1, cx_7_2, cx_7_3, cx_7_4, cx_7_5, cx_7_6, cx_7_7, cx_7_8, cx_7_9, cx_7_10, cx_7_11, cx_7_12, cx_7_13⟩ := pt_cells Rx_7
  obtain ⟨cy_7_0, cy_7_1, cy_7_2, cy_7_3, cy_7_4, cy_7_5, cy_7_6, cy_7_7, cy_7_8, cy_7_9, cy_7_10, cy_7_11, cy_7_12, cy_7_13⟩ := pt_cells Ry_7
  go_wp2
  go_ret2
  exact ⟨rfl, B7⟩
end Go.Proofs.YtdjlfhcalccajaaGreatDoor
