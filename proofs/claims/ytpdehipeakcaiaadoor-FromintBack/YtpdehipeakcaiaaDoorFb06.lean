/-
  What the functions that the statement reaches return: part 6 (KC).
-/
import Derived.Test.YtpdehipeakcaiaaDoorFb05
namespace Go.Proofs.YtpdehipeakcaiaaDoor
set_option maxRecDepth 100000
set_option maxHeartbeats 40000000
set_option maxRecDepth 100000
open Go.RowKit WMath
set_option linter.unusedSimpArgs false
set_option linter.unusedVariables false
set_option maxRecDepth 100000 in
set_option maxHeartbeats 2000000 in
theorem kparts_sub (f : Int) (x y c u v t : Nat) (m : Int) (w : World)
    (KC : Box (∀ w, FAt w → Calls Tryd.prog 72 #[.int .u8 f, .agg #[.int .u64 (x : Nat), .int .u64 (y : Nat)]] w fun r w' => r = .returned (.int .u8 (c : Nat)) ∧ Below w.heap.size w w'))
    (KF : Box (∀ w, FAt w → Calls Tryd.prog 80 #[.int .u8 f, .agg #[.int .u64 (x : Nat), .int .u64 (y : Nat)]] w fun r w' => r = .returned (.agg #[.int .u64 (u : Nat), .int .u64 (v : Nat)]) ∧ Below w.heap.size w w'))
    (KO : Box (∀ w, Calls Tryd.prog 57 #[.agg #[.int .u64 (u : Nat), .int .u64 (v : Nat)]] w fun r w' => r = .returned (.agg (cw 6 t)) ∧ Below w.heap.size w w'))
    (KL : Box (∀ w, FAt w → Calls Tryd.prog 81 #[.int .u8 f] w fun r w' => r = .returned (.int .i64 m) ∧ Below w.heap.size w w'))
    (hc : c = 2 ∨ c = 5) (hT : FAt w) : Calls Tryd.prog 59 #[.int .u8 f, .agg #[.int .u64 (x : Nat), .int .u64 (y : Nat)]] w fun r w' => r = .returned (.agg (pt c t m 0)) ∧ Below w.heap.size w w' := by
  have hat := cw_at 6
  have hz := cw6z
  have hff := cw6f
  have hs0 := st0
  have hcs : ∀ x, ((cw 6 x).size = 6) = True := fun x => eq_true (cw_size 6 x)
  have hp1 := ptf
  have hp2 := ptc
  have hp3 := ptz
  have hp4 := st_p0
  have hp6 := pt_set
  have hp7 := pt_setl
  have hp5 : ∀ (c s : Nat) (x : Int) (r : Nat), ((pt c s x r).size = 14) = True := fun _ _ _ _ => eq_true rfl
  have ha0 := pt_at0
  have ha1 := pt_at1
  have ha2 := pt_at2
  have ha3 := pt_at3
  have ha4 := pt_at4
  have ha5 := pt_at5
  have ha6 := pt_at6
  have ha7 := pt_at7
  have ha8 := pt_at8
  have ha9 := pt_at9
  have ha10 := pt_at10
  have ha11 := pt_at11
  have ha12 := pt_at12
  have ha13 := pt_at13
  have TT := box hT
  clear hT
  rcases hc with hc | hc
  · have f8 : ((c : Int) == 8) = false := by rw [hc]; rfl
    have f9 : ((c : Int) == 9) = false := by rw [hc]; rfl
    have f2 : ((c : Int) == 2) = true := by rw [hc]; rfl
    clear hc
    obtain ⟨Rb_0, Rz_0, B0⟩ := kopn2 w (Obj.cells #[.int .u64 (x : Nat), .int .u64 (y : Nat)] 27) (Obj.cells (pt 0 0 0 0) 75)
    go_enter Tryd.func59, Tryd.ntmps59
    go_wp2_with fail
    refine (KC.out _ (fatB TT.out B0)).mono ?_
    rintro r w1 ⟨rfl, b1⟩
    have B1 : Below w.heap.size w w1 := btr7 B0 b1
    have Rb_1 := heap_of b1 _ _ _ Rb_0
    have Rz_1 := heap_of b1 _ _ _ Rz_0
    clear b1 B0 Rb_0 Rz_0
    obtain ⟨cb_1_0, cb_1_1⟩ := cell7t Rb_1
    obtain ⟨cz_1_0, cz_1_1, cz_1_2, cz_1_3, cz_1_4, cz_1_5, cz_1_6, cz_1_7, cz_1_8, cz_1_9, cz_1_10, cz_1_11, cz_1_12, cz_1_13⟩ := pt_cells Rz_1
    have S2 := box B1.size
    have Lb_2 : Box (w.heap.size < w1.heap.size) := box (Array.getElem?_eq_some_iff.1 Rb_1).1
    have Lz_2 : Box (w.heap.size + 1 < w1.heap.size) := box (Array.getElem?_eq_some_iff.1 Rz_1).1
    have Rp_2 := heap_alloc_last w1 (Obj.cells (pt c 0 0 0) 75)
    have B2 := btr7 B1 (bal7 w1 (Obj.cells (pt c 0 0 0) 75))
    have Rb_2 := heap_of (bal7 w1 (Obj.cells (pt c 0 0 0) 75)) _ _ _ Rb_1
    have Rz_2 := heap_of (bal7 w1 (Obj.cells (pt c 0 0 0) 75)) _ _ _ Rz_1
    clear B1 Rb_1 cb_1_0 cb_1_1 Rz_1 cz_1_0 cz_1_1 cz_1_2 cz_1_3 cz_1_4 cz_1_5 cz_1_6 cz_1_7 cz_1_8 cz_1_9 cz_1_10 cz_1_11 cz_1_12 cz_1_13
    obtain ⟨cb_2_0, cb_2_1⟩ := cell7t Rb_2
    obtain ⟨cz_2_0, cz_2_1, cz_2_2, cz_2_3, cz_2_4, cz_2_5, cz_2_6, cz_2_7, cz_2_8, cz_2_9, cz_2_10, cz_2_11, cz_2_12, cz_2_13⟩ := pt_cells Rz_2
    obtain ⟨cp_2_0, cp_2_1, cp_2_2, cp_2_3, cp_2_4, cp_2_5, cp_2_6, cp_2_7, cp_2_8, cp_2_9, cp_2_10, cp_2_11, cp_2_12, cp_2_13⟩ := pt_cells Rp_2
    go_wp2_with fail
    refine (KF.out _ (fatB TT.out B2)).mono ?_
    rintro r w3 ⟨rfl, b3⟩
    have B3 : Below w.heap.size w w3 := btr7 B2 b3
    have Rb_3 := heap_of b3 _ _ _ Rb_2
    have Rz_3 := heap_of b3 _ _ _ Rz_2
    have Rp_3 := heap_of b3 _ _ _ Rp_2
    clear b3 B2 Rb_2 cb_2_0 cb_2_1 Rz_2 cz_2_0 cz_2_1 cz_2_2 cz_2_3 cz_2_4 cz_2_5 cz_2_6 cz_2_7 cz_2_8 cz_2_9 cz_2_10 cz_2_11 cz_2_12 cz_2_13 Rp_2 cp_2_0 cp_2_1 cp_2_2 cp_2_3 cp_2_4 cp_2_5 cp_2_6 cp_2_7 cp_2_8 cp_2_9 cp_2_10 cp_2_11 cp_2_12 cp_2_13
    obtain ⟨cb_3_0, cb_3_1⟩ := cell7t Rb_3
    obtain ⟨cz_3_0, cz_3_1, cz_3_2, cz_3_3, cz_3_4, cz_3_5, cz_3_6, cz_3_7, cz_3_8, cz_3_9, cz_3_10, cz_3_11, cz_3_12, cz_3_13⟩ := pt_cells Rz_3
    obtain ⟨cp_3_0, cp_3_1, cp_3_2, cp_3_3, cp_3_4, cp_3_5, cp_3_6, cp_3_7, cp_3_8, cp_3_9, cp_3_10, cp_3_11, cp_3_12, cp_3_13⟩ := pt_cells Rp_3
    go_wp2_with fail
    refine (KO.out _).mono ?_
    rintro r w4 ⟨rfl, b4⟩
    have B4 : Below w.heap.size w w4 := btr7 B3 b4
    have Rb_4 := heap_of b4 _ _ _ Rb_3
    have Rz_4 := heap_of b4 _ _ _ Rz_3
    have Rp_4 := heap_of b4 _ _ _ Rp_3
    clear b4 B3 Rb_3 cb_3_0 cb_3_1 Rz_3 cz_3_0 cz_3_1 cz_3_2 cz_3_3 cz_3_4 cz_3_5 cz_3_6 cz_3_7 cz_3_8 cz_3_9 cz_3_10 cz_3_11 cz_3_12 cz_3_13 Rp_3 cp_3_0 cp_3_1 cp_3_2 cp_3_3 cp_3_4 cp_3_5 cp_3_6 cp_3_7 cp_3_8 cp_3_9 cp_3_10 cp_3_11 cp_3_12 cp_3_13
    obtain ⟨cb_4_0, cb_4_1⟩ := cell7t Rb_4
    obtain ⟨cz_4_0, cz_4_1, cz_4_2, cz_4_3, cz_4_4, cz_4_5, cz_4_6, cz_4_7, cz_4_8, cz_4_9, cz_4_10, cz_4_11, cz_4_12, cz_4_13⟩ := pt_cells Rz_4
    obtain ⟨cp_4_0, cp_4_1, cp_4_2, cp_4_3, cp_4_4, cp_4_5, cp_4_6, cp_4_7, cp_4_8, cp_4_9, cp_4_10, cp_4_11, cp_4_12, cp_4_13⟩ := pt_cells Rp_4
    have S5 := box B4.size
    have Lb_5 : Box (w.heap.size < w4.heap.size) := box (Array.getElem?_eq_some_iff.1 Rb_4).1
    have Lz_5 : Box (w.heap.size + 1 < w4.heap.size) := box (Array.getElem?_eq_some_iff.1 Rz_4).1
    have Lp_5 : Box (w1.heap.size < w4.heap.size) := box (Array.getElem?_eq_some_iff.1 Rp_4).1
    have Rfr_5 := heap_alloc_last w4 (Obj.cells (cw 6 t) 42)
    have B5 := btr7 B4 (bal7 w4 (Obj.cells (cw 6 t) 42))
    have Rb_5 := heap_of (bal7 w4 (Obj.cells (cw 6 t) 42)) _ _ _ Rb_4
    have Rz_5 := heap_of (bal7 w4 (Obj.cells (cw 6 t) 42)) _ _ _ Rz_4
    have Rp_5 := heap_of (bal7 w4 (Obj.cells (cw 6 t) 42)) _ _ _ Rp_4
    clear B4 Rb_4 cb_4_0 cb_4_1 Rz_4 cz_4_0 cz_4_1 cz_4_2 cz_4_3 cz_4_4 cz_4_5 cz_4_6 cz_4_7 cz_4_8 cz_4_9 cz_4_10 cz_4_11 cz_4_12 cz_4_13 Rp_4 cp_4_0 cp_4_1 cp_4_2 cp_4_3 cp_4_4 cp_4_5 cp_4_6 cp_4_7 cp_4_8 cp_4_9 cp_4_10 cp_4_11 cp_4_12 cp_4_13
    obtain ⟨cb_5_0, cb_5_1⟩ := cell7t Rb_5
    obtain ⟨cz_5_0, cz_5_1, cz_5_2, cz_5_3, cz_5_4, cz_5_5, cz_5_6, cz_5_7, cz_5_8, cz_5_9, cz_5_10, cz_5_11, cz_5_12, cz_5_13⟩ := pt_cells Rz_5
    obtain ⟨cp_5_0, cp_5_1, cp_5_2, cp_5_3, cp_5_4, cp_5_5, cp_5_6, cp_5_7, cp_5_8, cp_5_9, cp_5_10, cp_5_11, cp_5_12, cp_5_13⟩ := pt_cells Rp_5
    have cfr_5_0 := row_cell Rfr_5
    have sS : Box (∀ W W1 : World, (Below w.heap.size w W ∧ W.heap[w.heap.size]? = some (Obj.cells #[.int .u64 (x : Nat), .int .u64 (y : Nat)] 27) ∧ W.heap[w.heap.size + 1]? = some (Obj.cells (pt 0 0 0 0) 75) ∧ W.heap[w4.heap.size]? = some (Obj.cells (cw 6 t) 42) ∧ W.cell? ⟨w4.heap.size, 0, none⟩ = some (.int .u64 ((wd t 0 : Nat) : Int)) ∧ W.cell? ⟨w4.heap.size, 1, none⟩ = some (.int .u64 ((wd t 1 : Nat) : Int)) ∧ W.cell? ⟨w4.heap.size, 2, none⟩ = some (.int .u64 ((wd t 2 : Nat) : Int)) ∧ W.cell? ⟨w4.heap.size, 3, none⟩ = some (.int .u64 ((wd t 3 : Nat) : Int)) ∧ W.cell? ⟨w4.heap.size, 4, none⟩ = some (.int .u64 ((wd t 4 : Nat) : Int)) ∧ W.cell? ⟨w4.heap.size, 5, none⟩ = some (.int .u64 ((wd t 5 : Nat) : Int))) → Below W.heap.size W W1 → (Below w.heap.size w W1 ∧ W1.heap[w.heap.size]? = some (Obj.cells #[.int .u64 (x : Nat), .int .u64 (y : Nat)] 27) ∧ W1.heap[w.heap.size + 1]? = some (Obj.cells (pt 0 0 0 0) 75) ∧ W1.heap[w4.heap.size]? = some (Obj.cells (cw 6 t) 42) ∧ W1.cell? ⟨w4.heap.size, 0, none⟩ = some (.int .u64 ((wd t 0 : Nat) : Int)) ∧ W1.cell? ⟨w4.heap.size, 1, none⟩ = some (.int .u64 ((wd t 1 : Nat) : Int)) ∧ W1.cell? ⟨w4.heap.size, 2, none⟩ = some (.int .u64 ((wd t 2 : Nat) : Int)) ∧ W1.cell? ⟨w4.heap.size, 3, none⟩ = some (.int .u64 ((wd t 3 : Nat) : Int)) ∧ W1.cell? ⟨w4.heap.size, 4, none⟩ = some (.int .u64 ((wd t 4 : Nat) : Int)) ∧ W1.cell? ⟨w4.heap.size, 5, none⟩ = some (.int .u64 ((wd t 5 : Nat) : Int)))) := box (fun W W1 h b => ⟨btr7 h.1 b, heap_of b _ _ _ h.2.1, heap_of b _ _ _ h.2.2.1, heap_of b _ _ _ h.2.2.2.1, row_cell (heap_of b _ _ _ h.2.2.2.1) 0 (by decide), row_cell (heap_of b _ _ _ h.2.2.2.1) 1 (by decide), row_cell (heap_of b _ _ _ h.2.2.2.1) 2 (by decide), row_cell (heap_of b _ _ _ h.2.2.2.1) 3 (by decide), row_cell (heap_of b _ _ _ h.2.2.2.1) 4 (by decide), row_cell (heap_of b _ _ _ h.2.2.2.1) 5 (by decide)⟩)
    have sT1 : Box (∀ (W : World) (xA : Array Value), (Below w.heap.size w W ∧ W.heap[w.heap.size]? = some (Obj.cells #[.int .u64 (x : Nat), .int .u64 (y : Nat)] 27) ∧ W.heap[w.heap.size + 1]? = some (Obj.cells (pt 0 0 0 0) 75) ∧ W.heap[w4.heap.size]? = some (Obj.cells (cw 6 t) 42) ∧ W.cell? ⟨w4.heap.size, 0, none⟩ = some (.int .u64 ((wd t 0 : Nat) : Int)) ∧ W.cell? ⟨w4.heap.size, 1, none⟩ = some (.int .u64 ((wd t 1 : Nat) : Int)) ∧ W.cell? ⟨w4.heap.size, 2, none⟩ = some (.int .u64 ((wd t 2 : Nat) : Int)) ∧ W.cell? ⟨w4.heap.size, 3, none⟩ = some (.int .u64 ((wd t 3 : Nat) : Int)) ∧ W.cell? ⟨w4.heap.size, 4, none⟩ = some (.int .u64 ((wd t 4 : Nat) : Int)) ∧ W.cell? ⟨w4.heap.size, 5, none⟩ = some (.int .u64 ((wd t 5 : Nat) : Int))) → (Below w.heap.size w (W.setRow (w1.heap.size) xA) ∧ (W.setRow (w1.heap.size) xA).heap[w.heap.size]? = some (Obj.cells #[.int .u64 (x : Nat), .int .u64 (y : Nat)] 27) ∧ (W.setRow (w1.heap.size) xA).heap[w.heap.size + 1]? = some (Obj.cells (pt 0 0 0 0) 75) ∧ (W.setRow (w1.heap.size) xA).heap[w4.heap.size]? = some (Obj.cells (cw 6 t) 42) ∧ (W.setRow (w1.heap.size) xA).cell? ⟨w4.heap.size, 0, none⟩ = some (.int .u64 ((wd t 0 : Nat) : Int)) ∧ (W.setRow (w1.heap.size) xA).cell? ⟨w4.heap.size, 1, none⟩ = some (.int .u64 ((wd t 1 : Nat) : Int)) ∧ (W.setRow (w1.heap.size) xA).cell? ⟨w4.heap.size, 2, none⟩ = some (.int .u64 ((wd t 2 : Nat) : Int)) ∧ (W.setRow (w1.heap.size) xA).cell? ⟨w4.heap.size, 3, none⟩ = some (.int .u64 ((wd t 3 : Nat) : Int)) ∧ (W.setRow (w1.heap.size) xA).cell? ⟨w4.heap.size, 4, none⟩ = some (.int .u64 ((wd t 4 : Nat) : Int)) ∧ (W.setRow (w1.heap.size) xA).cell? ⟨w4.heap.size, 5, none⟩ = some (.int .u64 ((wd t 5 : Nat) : Int)))) := box (fun W xA h => ⟨bel_set h.1 (show w.heap.size ≤ w1.heap.size by first | exact Nat.le_refl _ | omega | (have := S2.out; have := Lb_2.out; have := Lz_2.out; have := S5.out; have := Lb_5.out; have := Lz_5.out; have := Lp_5.out; omega)), (setRow_other (by first | omega | (have := S2.out; have := Lb_2.out; have := Lz_2.out; have := S5.out; have := Lb_5.out; have := Lz_5.out; have := Lp_5.out; omega))).trans h.2.1, (setRow_other (by first | omega | (have := S2.out; have := Lb_2.out; have := Lz_2.out; have := S5.out; have := Lb_5.out; have := Lz_5.out; have := Lp_5.out; omega))).trans h.2.2.1, (setRow_other (by first | omega | (have := S2.out; have := Lb_2.out; have := Lz_2.out; have := S5.out; have := Lb_5.out; have := Lz_5.out; have := Lp_5.out; omega))).trans h.2.2.2.1, row_cell ((setRow_other (by first | omega | (have := S2.out; have := Lb_2.out; have := Lz_2.out; have := S5.out; have := Lb_5.out; have := Lz_5.out; have := Lp_5.out; omega))).trans h.2.2.2.1) 0 (by decide), row_cell ((setRow_other (by first | omega | (have := S2.out; have := Lb_2.out; have := Lz_2.out; have := S5.out; have := Lb_5.out; have := Lz_5.out; have := Lp_5.out; omega))).trans h.2.2.2.1) 1 (by decide), row_cell ((setRow_other (by first | omega | (have := S2.out; have := Lb_2.out; have := Lz_2.out; have := S5.out; have := Lb_5.out; have := Lz_5.out; have := Lp_5.out; omega))).trans h.2.2.2.1) 2 (by decide), row_cell ((setRow_other (by first | omega | (have := S2.out; have := Lb_2.out; have := Lz_2.out; have := S5.out; have := Lb_5.out; have := Lz_5.out; have := Lp_5.out; omega))).trans h.2.2.2.1) 3 (by decide), row_cell ((setRow_other (by first | omega | (have := S2.out; have := Lb_2.out; have := Lz_2.out; have := S5.out; have := Lb_5.out; have := Lz_5.out; have := Lp_5.out; omega))).trans h.2.2.2.1) 4 (by decide), row_cell ((setRow_other (by first | omega | (have := S2.out; have := Lb_2.out; have := Lz_2.out; have := S5.out; have := Lb_5.out; have := Lz_5.out; have := Lp_5.out; omega))).trans h.2.2.2.1) 5 (by decide)⟩)
    have sT2 : Box (∀ (W : World) (xB : Value), (Below w.heap.size w W ∧ W.heap[w.heap.size]? = some (Obj.cells #[.int .u64 (x : Nat), .int .u64 (y : Nat)] 27) ∧ W.heap[w.heap.size + 1]? = some (Obj.cells (pt 0 0 0 0) 75) ∧ W.heap[w4.heap.size]? = some (Obj.cells (cw 6 t) 42) ∧ W.cell? ⟨w4.heap.size, 0, none⟩ = some (.int .u64 ((wd t 0 : Nat) : Int)) ∧ W.cell? ⟨w4.heap.size, 1, none⟩ = some (.int .u64 ((wd t 1 : Nat) : Int)) ∧ W.cell? ⟨w4.heap.size, 2, none⟩ = some (.int .u64 ((wd t 2 : Nat) : Int)) ∧ W.cell? ⟨w4.heap.size, 3, none⟩ = some (.int .u64 ((wd t 3 : Nat) : Int)) ∧ W.cell? ⟨w4.heap.size, 4, none⟩ = some (.int .u64 ((wd t 4 : Nat) : Int)) ∧ W.cell? ⟨w4.heap.size, 5, none⟩ = some (.int .u64 ((wd t 5 : Nat) : Int))) → (Below w.heap.size w (W.setCell ⟨w1.heap.size, 7, none⟩ xB) ∧ (W.setCell ⟨w1.heap.size, 7, none⟩ xB).heap[w.heap.size]? = some (Obj.cells #[.int .u64 (x : Nat), .int .u64 (y : Nat)] 27) ∧ (W.setCell ⟨w1.heap.size, 7, none⟩ xB).heap[w.heap.size + 1]? = some (Obj.cells (pt 0 0 0 0) 75) ∧ (W.setCell ⟨w1.heap.size, 7, none⟩ xB).heap[w4.heap.size]? = some (Obj.cells (cw 6 t) 42) ∧ (W.setCell ⟨w1.heap.size, 7, none⟩ xB).cell? ⟨w4.heap.size, 0, none⟩ = some (.int .u64 ((wd t 0 : Nat) : Int)) ∧ (W.setCell ⟨w1.heap.size, 7, none⟩ xB).cell? ⟨w4.heap.size, 1, none⟩ = some (.int .u64 ((wd t 1 : Nat) : Int)) ∧ (W.setCell ⟨w1.heap.size, 7, none⟩ xB).cell? ⟨w4.heap.size, 2, none⟩ = some (.int .u64 ((wd t 2 : Nat) : Int)) ∧ (W.setCell ⟨w1.heap.size, 7, none⟩ xB).cell? ⟨w4.heap.size, 3, none⟩ = some (.int .u64 ((wd t 3 : Nat) : Int)) ∧ (W.setCell ⟨w1.heap.size, 7, none⟩ xB).cell? ⟨w4.heap.size, 4, none⟩ = some (.int .u64 ((wd t 4 : Nat) : Int)) ∧ (W.setCell ⟨w1.heap.size, 7, none⟩ xB).cell? ⟨w4.heap.size, 5, none⟩ = some (.int .u64 ((wd t 5 : Nat) : Int)))) := box (fun W xB h => ⟨h.1.setCell (show w.heap.size ≤ w1.heap.size by first | exact Nat.le_refl _ | omega | (have := S2.out; have := Lb_2.out; have := Lz_2.out; have := S5.out; have := Lb_5.out; have := Lz_5.out; have := Lp_5.out; omega)) _, (setCell_other (by first | omega | (have := S2.out; have := Lb_2.out; have := Lz_2.out; have := S5.out; have := Lb_5.out; have := Lz_5.out; have := Lp_5.out; omega))).trans h.2.1, (setCell_other (by first | omega | (have := S2.out; have := Lb_2.out; have := Lz_2.out; have := S5.out; have := Lb_5.out; have := Lz_5.out; have := Lp_5.out; omega))).trans h.2.2.1, (setCell_other (by first | omega | (have := S2.out; have := Lb_2.out; have := Lz_2.out; have := S5.out; have := Lb_5.out; have := Lz_5.out; have := Lp_5.out; omega))).trans h.2.2.2.1, row_cell ((setCell_other (by first | omega | (have := S2.out; have := Lb_2.out; have := Lz_2.out; have := S5.out; have := Lb_5.out; have := Lz_5.out; have := Lp_5.out; omega))).trans h.2.2.2.1) 0 (by decide), row_cell ((setCell_other (by first | omega | (have := S2.out; have := Lb_2.out; have := Lz_2.out; have := S5.out; have := Lb_5.out; have := Lz_5.out; have := Lp_5.out; omega))).trans h.2.2.2.1) 1 (by decide), row_cell ((setCell_other (by first | omega | (have := S2.out; have := Lb_2.out; have := Lz_2.out; have := S5.out; have := Lb_5.out; have := Lz_5.out; have := Lp_5.out; omega))).trans h.2.2.2.1) 2 (by decide), row_cell ((setCell_other (by first | omega | (have := S2.out; have := Lb_2.out; have := Lz_2.out; have := S5.out; have := Lb_5.out; have := Lz_5.out; have := Lp_5.out; omega))).trans h.2.2.2.1) 3 (by decide), row_cell ((setCell_other (by first | omega | (have := S2.out; have := Lb_2.out; have := Lz_2.out; have := S5.out; have := Lb_5.out; have := Lz_5.out; have := Lp_5.out; omega))).trans h.2.2.2.1) 4 (by decide), row_cell ((setCell_other (by first | omega | (have := S2.out; have := Lb_2.out; have := Lz_2.out; have := S5.out; have := Lb_5.out; have := Lz_5.out; have := Lp_5.out; omega))).trans h.2.2.2.1) 5 (by decide)⟩)
    have s0 : Below w.heap.size w ((w4.alloc (Obj.cells (cw 6 t) 42))).drew ∧ ((w4.alloc (Obj.cells (cw 6 t) 42))).drew.heap[w.heap.size]? = some (Obj.cells #[.int .u64 (x : Nat), .int .u64 (y : Nat)] 27) ∧ ((w4.alloc (Obj.cells (cw 6 t) 42))).drew.heap[w.heap.size + 1]? = some (Obj.cells (pt 0 0 0 0) 75) ∧ ((w4.alloc (Obj.cells (cw 6 t) 42))).drew.heap[w4.heap.size]? = some (Obj.cells (cw 6 t) 42) ∧ ((w4.alloc (Obj.cells (cw 6 t) 42))).drew.cell? ⟨w4.heap.size, 0, none⟩ = some (.int .u64 ((wd t 0 : Nat) : Int)) ∧ ((w4.alloc (Obj.cells (cw 6 t) 42))).drew.cell? ⟨w4.heap.size, 1, none⟩ = some (.int .u64 ((wd t 1 : Nat) : Int)) ∧ ((w4.alloc (Obj.cells (cw 6 t) 42))).drew.cell? ⟨w4.heap.size, 2, none⟩ = some (.int .u64 ((wd t 2 : Nat) : Int)) ∧ ((w4.alloc (Obj.cells (cw 6 t) 42))).drew.cell? ⟨w4.heap.size, 3, none⟩ = some (.int .u64 ((wd t 3 : Nat) : Int)) ∧ ((w4.alloc (Obj.cells (cw 6 t) 42))).drew.cell? ⟨w4.heap.size, 4, none⟩ = some (.int .u64 ((wd t 4 : Nat) : Int)) ∧ ((w4.alloc (Obj.cells (cw 6 t) 42))).drew.cell? ⟨w4.heap.size, 5, none⟩ = some (.int .u64 ((wd t 5 : Nat) : Int)) := ⟨B5.drew, Rb_5, Rz_5, Rfr_5, row_cell (Rfr_5) 0 (by decide), row_cell (Rfr_5) 1 (by decide), row_cell (Rfr_5) 2 (by decide), row_cell (Rfr_5) 3 (by decide), row_cell (Rfr_5) 4 (by decide), row_cell (Rfr_5) 5 (by decide)⟩
    have rp : ((w4.alloc (Obj.cells (cw 6 t) 42))).drew.heap[w1.heap.size]? = some (Obj.cells (pt c 0 0 0) 75) := Rp_5
    go_wp2_with fail
    go_region_held3 (fun W => Below w.heap.size w W ∧ W.heap[w.heap.size]? = some (Obj.cells #[.int .u64 (x : Nat), .int .u64 (y : Nat)] 27) ∧ W.heap[w.heap.size + 1]? = some (Obj.cells (pt 0 0 0 0) 75) ∧ W.heap[w4.heap.size]? = some (Obj.cells (cw 6 t) 42) ∧ W.cell? ⟨w4.heap.size, 0, none⟩ = some (.int .u64 ((wd t 0 : Nat) : Int)) ∧ W.cell? ⟨w4.heap.size, 1, none⟩ = some (.int .u64 ((wd t 1 : Nat) : Int)) ∧ W.cell? ⟨w4.heap.size, 2, none⟩ = some (.int .u64 ((wd t 2 : Nat) : Int)) ∧ W.cell? ⟨w4.heap.size, 3, none⟩ = some (.int .u64 ((wd t 3 : Nat) : Int)) ∧ W.cell? ⟨w4.heap.size, 4, none⟩ = some (.int .u64 ((wd t 4 : Nat) : Int)) ∧ W.cell? ⟨w4.heap.size, 5, none⟩ = some (.int .u64 ((wd t 5 : Nat) : Int))) (first | exact s1 | exact s0 | exact sT1.out _ _ s1 | exact sT2.out _ _ (sT1.out _ _ s1) | exact sT2.out _ _ s1)
      (first | (go_at_call 81; (first | refine (KL.out _ (fatB TT.out (And.left s1))).mono ?_ | refine (KL.out _ (fatB TT.out (And.left s0))).mono ?_); rintro r wq ⟨rfl, bq⟩; have s1 := (by first | exact sS.out _ _ s1 bq | exact sS.out _ _ s0 bq); have rp := heap_of bq _ _ _ rp; have hst := st_p1 wq (w1.heap.size) c 0 0 0 t rp; have rp2 := setRow_row (c' := (pt c t 0 0)) rp; have q7 := fz (k := 7) rp2; have d7 := cell7 rp2 7 _ rfl; clear bq) | fail)
    have s2 : Below w.heap.size w ((wq.setRow (w1.heap.size) (pt c t 0 0)).setCell ⟨w1.heap.size, 7, none⟩ (.int .i64 m)) ∧ ((wq.setRow (w1.heap.size) (pt c t 0 0)).setCell ⟨w1.heap.size, 7, none⟩ (.int .i64 m)).heap[w.heap.size]? = some (Obj.cells #[.int .u64 (x : Nat), .int .u64 (y : Nat)] 27) ∧ ((wq.setRow (w1.heap.size) (pt c t 0 0)).setCell ⟨w1.heap.size, 7, none⟩ (.int .i64 m)).heap[w.heap.size + 1]? = some (Obj.cells (pt 0 0 0 0) 75) ∧ ((wq.setRow (w1.heap.size) (pt c t 0 0)).setCell ⟨w1.heap.size, 7, none⟩ (.int .i64 m)).heap[w4.heap.size]? = some (Obj.cells (cw 6 t) 42) ∧ ((wq.setRow (w1.heap.size) (pt c t 0 0)).setCell ⟨w1.heap.size, 7, none⟩ (.int .i64 m)).cell? ⟨w4.heap.size, 0, none⟩ = some (.int .u64 ((wd t 0 : Nat) : Int)) ∧ ((wq.setRow (w1.heap.size) (pt c t 0 0)).setCell ⟨w1.heap.size, 7, none⟩ (.int .i64 m)).cell? ⟨w4.heap.size, 1, none⟩ = some (.int .u64 ((wd t 1 : Nat) : Int)) ∧ ((wq.setRow (w1.heap.size) (pt c t 0 0)).setCell ⟨w1.heap.size, 7, none⟩ (.int .i64 m)).cell? ⟨w4.heap.size, 2, none⟩ = some (.int .u64 ((wd t 2 : Nat) : Int)) ∧ ((wq.setRow (w1.heap.size) (pt c t 0 0)).setCell ⟨w1.heap.size, 7, none⟩ (.int .i64 m)).cell? ⟨w4.heap.size, 3, none⟩ = some (.int .u64 ((wd t 3 : Nat) : Int)) ∧ ((wq.setRow (w1.heap.size) (pt c t 0 0)).setCell ⟨w1.heap.size, 7, none⟩ (.int .i64 m)).cell? ⟨w4.heap.size, 4, none⟩ = some (.int .u64 ((wd t 4 : Nat) : Int)) ∧ ((wq.setRow (w1.heap.size) (pt c t 0 0)).setCell ⟨w1.heap.size, 7, none⟩ (.int .i64 m)).cell? ⟨w4.heap.size, 5, none⟩ = some (.int .u64 ((wd t 5 : Nat) : Int)) := sT2.out _ _ (sT1.out _ _ s1)
    have Rp_6 : ((wq.setRow (w1.heap.size) (pt c t 0 0)).setCell ⟨w1.heap.size, 7, none⟩ (.int .i64 m)).heap[w1.heap.size]? = some (Obj.cells (pt c t m 0) 75) := by rw [setCell_row rp2]; rfl
    have B6 := And.left s2
    have Rb_6 := s2.2.1
    have Rz_6 := s2.2.2.1
    have Rfr_6 := s2.2.2.2.1
    obtain ⟨w6, hw6⟩ : ∃ V, ((wq.setRow (w1.heap.size) (pt c t 0 0)).setCell ⟨w1.heap.size, 7, none⟩ (.int .i64 m)) = V := ⟨_, rfl⟩
    rw [hw6] at B6 Rb_6 Rz_6 Rp_6 Rfr_6
    try rw [hw6]
    clear s0 s1 s2 sS sT1 sT2 rp q7 d7 hw6 hst rp2 B5 Rb_5 cb_5_0 cb_5_1 Rz_5 cz_5_0 cz_5_1 cz_5_2 cz_5_3 cz_5_4 cz_5_5 cz_5_6 cz_5_7 cz_5_8 cz_5_9 cz_5_10 cz_5_11 cz_5_12 cz_5_13 Rp_5 cp_5_0 cp_5_1 cp_5_2 cp_5_3 cp_5_4 cp_5_5 cp_5_6 cp_5_7 cp_5_8 cp_5_9 cp_5_10 cp_5_11 cp_5_12 cp_5_13 Rfr_5 cfr_5_0
    obtain ⟨cb_6_0, cb_6_1⟩ := cell7t Rb_6
    obtain ⟨cz_6_0, cz_6_1, cz_6_2, cz_6_3, cz_6_4, cz_6_5, cz_6_6, cz_6_7, cz_6_8, cz_6_9, cz_6_10, cz_6_11, cz_6_12, cz_6_13⟩ := pt_cells Rz_6
    obtain ⟨cp_6_0, cp_6_1, cp_6_2, cp_6_3, cp_6_4, cp_6_5, cp_6_6, cp_6_7, cp_6_8, cp_6_9, cp_6_10, cp_6_11, cp_6_12, cp_6_13⟩ := pt_cells Rp_6
    have cfr_6_0 := row_cell Rfr_6
    have hstz := st_p w6 (w.heap.size + 1) c t m 0 0 0 0 0 Rz_6
    have RZ := setRow_row (c' := pt c t m 0) Rz_6
    obtain ⟨dz0, dz1, dz2, dz3, dz4, dz5, dz6, dz7, dz8, dz9, dz10, dz11, dz12, dz13⟩ := pt_cells RZ
    have bz := bel_set (c := pt c t m 0) B6 (show w.heap.size ≤ w.heap.size + 1 by first | exact Nat.le_refl _ | omega | (have := S2.out; have := Lb_2.out; have := Lz_2.out; have := S5.out; have := Lb_5.out; have := Lz_5.out; have := Lp_5.out; omega))
    go_wp2
    exact bodyPost_ret (v := .agg (pt c t m 0)) (by simp [results, Tryd.results59, go_sem, dz0, dz1, dz2, dz3, dz4, dz5, dz6, dz7, dz8, dz9, dz10, dz11, dz12, dz13, ptf] <;> rfl) rfl ⟨rfl, bz⟩
  · have f8 : ((c : Int) == 8) = false := by rw [hc]; rfl
    have f9 : ((c : Int) == 9) = false := by rw [hc]; rfl
    have f2 : ((c : Int) == 2) = false := by rw [hc]; rfl
    have f5 : ((c : Int) == 5) = true := by rw [hc]; rfl
    clear hc
    obtain ⟨Rb_0, Rz_0, B0⟩ := kopn2 w (Obj.cells #[.int .u64 (x : Nat), .int .u64 (y : Nat)] 27) (Obj.cells (pt 0 0 0 0) 75)
    go_enter Tryd.func59, Tryd.ntmps59
    go_wp2_with fail
    refine (KC.out _ (fatB TT.out B0)).mono ?_
    rintro r w1 ⟨rfl, b1⟩
    have B1 : Below w.heap.size w w1 := btr7 B0 b1
    have Rb_1 := heap_of b1 _ _ _ Rb_0
    have Rz_1 := heap_of b1 _ _ _ Rz_0
    clear b1 B0 Rb_0 Rz_0
    obtain ⟨cb_1_0, cb_1_1⟩ := cell7t Rb_1
    obtain ⟨cz_1_0, cz_1_1, cz_1_2, cz_1_3, cz_1_4, cz_1_5, cz_1_6, cz_1_7, cz_1_8, cz_1_9, cz_1_10, cz_1_11, cz_1_12, cz_1_13⟩ := pt_cells Rz_1
    have S2 := box B1.size
    have Lb_2 : Box (w.heap.size < w1.heap.size) := box (Array.getElem?_eq_some_iff.1 Rb_1).1
    have Lz_2 : Box (w.heap.size + 1 < w1.heap.size) := box (Array.getElem?_eq_some_iff.1 Rz_1).1
    have Rp_2 := heap_alloc_last w1 (Obj.cells (pt c 0 0 0) 75)
    have B2 := btr7 B1 (bal7 w1 (Obj.cells (pt c 0 0 0) 75))
    have Rb_2 := heap_of (bal7 w1 (Obj.cells (pt c 0 0 0) 75)) _ _ _ Rb_1
    have Rz_2 := heap_of (bal7 w1 (Obj.cells (pt c 0 0 0) 75)) _ _ _ Rz_1
    clear B1 Rb_1 cb_1_0 cb_1_1 Rz_1 cz_1_0 cz_1_1 cz_1_2 cz_1_3 cz_1_4 cz_1_5 cz_1_6 cz_1_7 cz_1_8 cz_1_9 cz_1_10 cz_1_11 cz_1_12 cz_1_13
    obtain ⟨cb_2_0, cb_2_1⟩ := cell7t Rb_2
    obtain ⟨cz_2_0, cz_2_1, cz_2_2, cz_2_3, cz_2_4, cz_2_5, cz_2_6, cz_2_7, cz_2_8, cz_2_9, cz_2_10, cz_2_11, cz_2_12, cz_2_13⟩ := pt_cells Rz_2
    obtain ⟨cp_2_0, cp_2_1, cp_2_2, cp_2_3, cp_2_4, cp_2_5, cp_2_6, cp_2_7, cp_2_8, cp_2_9, cp_2_10, cp_2_11, cp_2_12, cp_2_13⟩ := pt_cells Rp_2
    go_wp2_with fail
    refine (KF.out _ (fatB TT.out B2)).mono ?_
    rintro r w3 ⟨rfl, b3⟩
    have B3 : Below w.heap.size w w3 := btr7 B2 b3
    have Rb_3 := heap_of b3 _ _ _ Rb_2
    have Rz_3 := heap_of b3 _ _ _ Rz_2
    have Rp_3 := heap_of b3 _ _ _ Rp_2
    clear b3 B2 Rb_2 cb_2_0 cb_2_1 Rz_2 cz_2_0 cz_2_1 cz_2_2 cz_2_3 cz_2_4 cz_2_5 cz_2_6 cz_2_7 cz_2_8 cz_2_9 cz_2_10 cz_2_11 cz_2_12 cz_2_13 Rp_2 cp_2_0 cp_2_1 cp_2_2 cp_2_3 cp_2_4 cp_2_5 cp_2_6 cp_2_7 cp_2_8 cp_2_9 cp_2_10 cp_2_11 cp_2_12 cp_2_13
    obtain ⟨cb_3_0, cb_3_1⟩ := cell7t Rb_3
    obtain ⟨cz_3_0, cz_3_1, cz_3_2, cz_3_3, cz_3_4, cz_3_5, cz_3_6, cz_3_7, cz_3_8, cz_3_9, cz_3_10, cz_3_11, cz_3_12, cz_3_13⟩ := pt_cells Rz_3
    obtain ⟨cp_3_0, cp_3_1, cp_3_2, cp_3_3, cp_3_4, cp_3_5, cp_3_6, cp_3_7, cp_3_8, cp_3_9, cp_3_10, cp_3_11, cp_3_12, cp_3_13⟩ := pt_cells Rp_3
    go_wp2_with fail
    refine (KO.out _).mono ?_
    rintro r w4 ⟨rfl, b4⟩
    have B4 : Below w.heap.size w w4 := btr7 B3 b4
    have Rb_4 := heap_of b4 _ _ _ Rb_3
    have Rz_4 := heap_of b4 _ _ _ Rz_3
    have Rp_4 := heap_of b4 _ _ _ Rp_3
    clear b4 B3 Rb_3 cb_3_0 cb_3_1 Rz_3 cz_3_0 cz_3_1 cz_3_2 cz_3_3 cz_3_4 cz_3_5 cz_3_6 cz_3_7 cz_3_8 cz_3_9 cz_3_10 cz_3_11 cz_3_12 cz_3_13 Rp_3 cp_3_0 cp_3_1 cp_3_2 cp_3_3 cp_3_4 cp_3_5 cp_3_6 cp_3_7 cp_3_8 cp_3_9 cp_3_10 cp_3_11 cp_3_12 cp_3_13
    obtain ⟨cb_4_0, cb_4_1⟩ := cell7t Rb_4
    obtain ⟨cz_4_0, cz_4_1, cz_4_2, cz_4_3, cz_4_4, cz_4_5, cz_4_6, cz_4_7, cz_4_8, cz_4_9, cz_4_10, cz_4_11, cz_4_12, cz_4_13⟩ := pt_cells Rz_4
    obtain ⟨cp_4_0, cp_4_1, cp_4_2, cp_4_3, cp_4_4, cp_4_5, cp_4_6, cp_4_7, cp_4_8, cp_4_9, cp_4_10, cp_4_11, cp_4_12, cp_4_13⟩ := pt_cells Rp_4
    have S5 := box B4.size
    have Lb_5 : Box (w.heap.size < w4.heap.size) := box (Array.getElem?_eq_some_iff.1 Rb_4).1
    have Lz_5 : Box (w.heap.size + 1 < w4.heap.size) := box (Array.getElem?_eq_some_iff.1 Rz_4).1
    have Lp_5 : Box (w1.heap.size < w4.heap.size) := box (Array.getElem?_eq_some_iff.1 Rp_4).1
    have Rfr_5 := heap_alloc_last w4 (Obj.cells (cw 6 t) 42)
    have B5 := btr7 B4 (bal7 w4 (Obj.cells (cw 6 t) 42))
    have Rb_5 := heap_of (bal7 w4 (Obj.cells (cw 6 t) 42)) _ _ _ Rb_4
    have Rz_5 := heap_of (bal7 w4 (Obj.cells (cw 6 t) 42)) _ _ _ Rz_4
    have Rp_5 := heap_of (bal7 w4 (Obj.cells (cw 6 t) 42)) _ _ _ Rp_4
    clear B4 Rb_4 cb_4_0 cb_4_1 Rz_4 cz_4_0 cz_4_1 cz_4_2 cz_4_3 cz_4_4 cz_4_5 cz_4_6 cz_4_7 cz_4_8 cz_4_9 cz_4_10 cz_4_11 cz_4_12 cz_4_13 Rp_4 cp_4_0 cp_4_1 cp_4_2 cp_4_3 cp_4_4 cp_4_5 cp_4_6 cp_4_7 cp_4_8 cp_4_9 cp_4_10 cp_4_11 cp_4_12 cp_4_13
    obtain ⟨cb_5_0, cb_5_1⟩ := cell7t Rb_5
    obtain ⟨cz_5_0, cz_5_1, cz_5_2, cz_5_3, cz_5_4, cz_5_5, cz_5_6, cz_5_7, cz_5_8, cz_5_9, cz_5_10, cz_5_11, cz_5_12, cz_5_13⟩ := pt_cells Rz_5
    obtain ⟨cp_5_0, cp_5_1, cp_5_2, cp_5_3, cp_5_4, cp_5_5, cp_5_6, cp_5_7, cp_5_8, cp_5_9, cp_5_10, cp_5_11, cp_5_12, cp_5_13⟩ := pt_cells Rp_5
    have cfr_5_0 := row_cell Rfr_5
    have sS : Box (∀ W W1 : World, (Below w.heap.size w W ∧ W.heap[w.heap.size]? = some (Obj.cells #[.int .u64 (x : Nat), .int .u64 (y : Nat)] 27) ∧ W.heap[w.heap.size + 1]? = some (Obj.cells (pt 0 0 0 0) 75) ∧ W.heap[w4.heap.size]? = some (Obj.cells (cw 6 t) 42) ∧ W.cell? ⟨w4.heap.size, 0, none⟩ = some (.int .u64 ((wd t 0 : Nat) : Int)) ∧ W.cell? ⟨w4.heap.size, 1, none⟩ = some (.int .u64 ((wd t 1 : Nat) : Int)) ∧ W.cell? ⟨w4.heap.size, 2, none⟩ = some (.int .u64 ((wd t 2 : Nat) : Int)) ∧ W.cell? ⟨w4.heap.size, 3, none⟩ = some (.int .u64 ((wd t 3 : Nat) : Int)) ∧ W.cell? ⟨w4.heap.size, 4, none⟩ = some (.int .u64 ((wd t 4 : Nat) : Int)) ∧ W.cell? ⟨w4.heap.size, 5, none⟩ = some (.int .u64 ((wd t 5 : Nat) : Int))) → Below W.heap.size W W1 → (Below w.heap.size w W1 ∧ W1.heap[w.heap.size]? = some (Obj.cells #[.int .u64 (x : Nat), .int .u64 (y : Nat)] 27) ∧ W1.heap[w.heap.size + 1]? = some (Obj.cells (pt 0 0 0 0) 75) ∧ W1.heap[w4.heap.size]? = some (Obj.cells (cw 6 t) 42) ∧ W1.cell? ⟨w4.heap.size, 0, none⟩ = some (.int .u64 ((wd t 0 : Nat) : Int)) ∧ W1.cell? ⟨w4.heap.size, 1, none⟩ = some (.int .u64 ((wd t 1 : Nat) : Int)) ∧ W1.cell? ⟨w4.heap.size, 2, none⟩ = some (.int .u64 ((wd t 2 : Nat) : Int)) ∧ W1.cell? ⟨w4.heap.size, 3, none⟩ = some (.int .u64 ((wd t 3 : Nat) : Int)) ∧ W1.cell? ⟨w4.heap.size, 4, none⟩ = some (.int .u64 ((wd t 4 : Nat) : Int)) ∧ W1.cell? ⟨w4.heap.size, 5, none⟩ = some (.int .u64 ((wd t 5 : Nat) : Int)))) := box (fun W W1 h b => ⟨btr7 h.1 b, heap_of b _ _ _ h.2.1, heap_of b _ _ _ h.2.2.1, heap_of b _ _ _ h.2.2.2.1, row_cell (heap_of b _ _ _ h.2.2.2.1) 0 (by decide), row_cell (heap_of b _ _ _ h.2.2.2.1) 1 (by decide), row_cell (heap_of b _ _ _ h.2.2.2.1) 2 (by decide), row_cell (heap_of b _ _ _ h.2.2.2.1) 3 (by decide), row_cell (heap_of b _ _ _ h.2.2.2.1) 4 (by decide), row_cell (heap_of b _ _ _ h.2.2.2.1) 5 (by decide)⟩)
    have sT1 : Box (∀ (W : World) (xA : Array Value), (Below w.heap.size w W ∧ W.heap[w.heap.size]? = some (Obj.cells #[.int .u64 (x : Nat), .int .u64 (y : Nat)] 27) ∧ W.heap[w.heap.size + 1]? = some (Obj.cells (pt 0 0 0 0) 75) ∧ W.heap[w4.heap.size]? = some (Obj.cells (cw 6 t) 42) ∧ W.cell? ⟨w4.heap.size, 0, none⟩ = some (.int .u64 ((wd t 0 : Nat) : Int)) ∧ W.cell? ⟨w4.heap.size, 1, none⟩ = some (.int .u64 ((wd t 1 : Nat) : Int)) ∧ W.cell? ⟨w4.heap.size, 2, none⟩ = some (.int .u64 ((wd t 2 : Nat) : Int)) ∧ W.cell? ⟨w4.heap.size, 3, none⟩ = some (.int .u64 ((wd t 3 : Nat) : Int)) ∧ W.cell? ⟨w4.heap.size, 4, none⟩ = some (.int .u64 ((wd t 4 : Nat) : Int)) ∧ W.cell? ⟨w4.heap.size, 5, none⟩ = some (.int .u64 ((wd t 5 : Nat) : Int))) → (Below w.heap.size w (W.setRow (w1.heap.size) xA) ∧ (W.setRow (w1.heap.size) xA).heap[w.heap.size]? = some (Obj.cells #[.int .u64 (x : Nat), .int .u64 (y : Nat)] 27) ∧ (W.setRow (w1.heap.size) xA).heap[w.heap.size + 1]? = some (Obj.cells (pt 0 0 0 0) 75) ∧ (W.setRow (w1.heap.size) xA).heap[w4.heap.size]? = some (Obj.cells (cw 6 t) 42) ∧ (W.setRow (w1.heap.size) xA).cell? ⟨w4.heap.size, 0, none⟩ = some (.int .u64 ((wd t 0 : Nat) : Int)) ∧ (W.setRow (w1.heap.size) xA).cell? ⟨w4.heap.size, 1, none⟩ = some (.int .u64 ((wd t 1 : Nat) : Int)) ∧ (W.setRow (w1.heap.size) xA).cell? ⟨w4.heap.size, 2, none⟩ = some (.int .u64 ((wd t 2 : Nat) : Int)) ∧ (W.setRow (w1.heap.size) xA).cell? ⟨w4.heap.size, 3, none⟩ = some (.int .u64 ((wd t 3 : Nat) : Int)) ∧ (W.setRow (w1.heap.size) xA).cell? ⟨w4.heap.size, 4, none⟩ = some (.int .u64 ((wd t 4 : Nat) : Int)) ∧ (W.setRow (w1.heap.size) xA).cell? ⟨w4.heap.size, 5, none⟩ = some (.int .u64 ((wd t 5 : Nat) : Int)))) := box (fun W xA h => ⟨bel_set h.1 (show w.heap.size ≤ w1.heap.size by first | exact Nat.le_refl _ | omega | (have := S2.out; have := Lb_2.out; have := Lz_2.out; have := S5.out; have := Lb_5.out; have := Lz_5.out; have := Lp_5.out; omega)), (setRow_other (by first | omega | (have := S2.out; have := Lb_2.out; have := Lz_2.out; have := S5.out; have := Lb_5.out; have := Lz_5.out; have := Lp_5.out; omega))).trans h.2.1, (setRow_other (by first | omega | (have := S2.out; have := Lb_2.out; have := Lz_2.out; have := S5.out; have := Lb_5.out; have := Lz_5.out; have := Lp_5.out; omega))).trans h.2.2.1, (setRow_other (by first | omega | (have := S2.out; have := Lb_2.out; have := Lz_2.out; have := S5.out; have := Lb_5.out; have := Lz_5.out; have := Lp_5.out; omega))).trans h.2.2.2.1, row_cell ((setRow_other (by first | omega | (have := S2.out; have := Lb_2.out; have := Lz_2.out; have := S5.out; have := Lb_5.out; have := Lz_5.out; have := Lp_5.out; omega))).trans h.2.2.2.1) 0 (by decide), row_cell ((setRow_other (by first | omega | (have := S2.out; have := Lb_2.out; have := Lz_2.out; have := S5.out; have := Lb_5.out; have := Lz_5.out; have := Lp_5.out; omega))).trans h.2.2.2.1) 1 (by decide), row_cell ((setRow_other (by first | omega | (have := S2.out; have := Lb_2.out; have := Lz_2.out; have := S5.out; have := Lb_5.out; have := Lz_5.out; have := Lp_5.out; omega))).trans h.2.2.2.1) 2 (by decide), row_cell ((setRow_other (by first | omega | (have := S2.out; have := Lb_2.out; have := Lz_2.out; have := S5.out; have := Lb_5.out; have := Lz_5.out; have := Lp_5.out; omega))).trans h.2.2.2.1) 3 (by decide), row_cell ((setRow_other (by first | omega | (have := S2.out; have := Lb_2.out; have := Lz_2.out; have := S5.out; have := Lb_5.out; have := Lz_5.out; have := Lp_5.out; omega))).trans h.2.2.2.1) 4 (by decide), row_cell ((setRow_other (by first | omega | (have := S2.out; have := Lb_2.out; have := Lz_2.out; have := S5.out; have := Lb_5.out; have := Lz_5.out; have := Lp_5.out; omega))).trans h.2.2.2.1) 5 (by decide)⟩)
    have sT2 : Box (∀ (W : World) (xB : Value), (Below w.heap.size w W ∧ W.heap[w.heap.size]? = some (Obj.cells #[.int .u64 (x : Nat), .int .u64 (y : Nat)] 27) ∧ W.heap[w.heap.size + 1]? = some (Obj.cells (pt 0 0 0 0) 75) ∧ W.heap[w4.heap.size]? = some (Obj.cells (cw 6 t) 42) ∧ W.cell? ⟨w4.heap.size, 0, none⟩ = some (.int .u64 ((wd t 0 : Nat) : Int)) ∧ W.cell? ⟨w4.heap.size, 1, none⟩ = some (.int .u64 ((wd t 1 : Nat) : Int)) ∧ W.cell? ⟨w4.heap.size, 2, none⟩ = some (.int .u64 ((wd t 2 : Nat) : Int)) ∧ W.cell? ⟨w4.heap.size, 3, none⟩ = some (.int .u64 ((wd t 3 : Nat) : Int)) ∧ W.cell? ⟨w4.heap.size, 4, none⟩ = some (.int .u64 ((wd t 4 : Nat) : Int)) ∧ W.cell? ⟨w4.heap.size, 5, none⟩ = some (.int .u64 ((wd t 5 : Nat) : Int))) → (Below w.heap.size w (W.setCell ⟨w1.heap.size, 7, none⟩ xB) ∧ (W.setCell ⟨w1.heap.size, 7, none⟩ xB).heap[w.heap.size]? = some (Obj.cells #[.int .u64 (x : Nat), .int .u64 (y : Nat)] 27) ∧ (W.setCell ⟨w1.heap.size, 7, none⟩ xB).heap[w.heap.size + 1]? = some (Obj.cells (pt 0 0 0 0) 75) ∧ (W.setCell ⟨w1.heap.size, 7, none⟩ xB).heap[w4.heap.size]? = some (Obj.cells (cw 6 t) 42) ∧ (W.setCell ⟨w1.heap.size, 7, none⟩ xB).cell? ⟨w4.heap.size, 0, none⟩ = some (.int .u64 ((wd t 0 : Nat) : Int)) ∧ (W.setCell ⟨w1.heap.size, 7, none⟩ xB).cell? ⟨w4.heap.size, 1, none⟩ = some (.int .u64 ((wd t 1 : Nat) : Int)) ∧ (W.setCell ⟨w1.heap.size, 7, none⟩ xB).cell? ⟨w4.heap.size, 2, none⟩ = some (.int .u64 ((wd t 2 : Nat) : Int)) ∧ (W.setCell ⟨w1.heap.size, 7, none⟩ xB).cell? ⟨w4.heap.size, 3, none⟩ = some (.int .u64 ((wd t 3 : Nat) : Int)) ∧ (W.setCell ⟨w1.heap.size, 7, none⟩ xB).cell? ⟨w4.heap.size, 4, none⟩ = some (.int .u64 ((wd t 4 : Nat) : Int)) ∧ (W.setCell ⟨w1.heap.size, 7, none⟩ xB).cell? ⟨w4.heap.size, 5, none⟩ = some (.int .u64 ((wd t 5 : Nat) : Int)))) := box (fun W xB h => ⟨h.1.setCell (show w.heap.size ≤ w1.heap.size by first | exact Nat.le_refl _ | omega | (have := S2.out; have := Lb_2.out; have := Lz_2.out; have := S5.out; have := Lb_5.out; have := Lz_5.out; have := Lp_5.out; omega)) _, (setCell_other (by first | omega | (have := S2.out; have := Lb_2.out; have := Lz_2.out; have := S5.out; have := Lb_5.out; have := Lz_5.out; have := Lp_5.out; omega))).trans h.2.1, (setCell_other (by first | omega | (have := S2.out; have := Lb_2.out; have := Lz_2.out; have := S5.out; have := Lb_5.out; have := Lz_5.out; have := Lp_5.out; omega))).trans h.2.2.1, (setCell_other (by first | omega | (have := S2.out; have := Lb_2.out; have := Lz_2.out; have := S5.out; have := Lb_5.out; have := Lz_5.out; have := Lp_5.out; omega))).trans h.2.2.2.1, row_cell ((setCell_other (by first | omega | (have := S2.out; have := Lb_2.out; have := Lz_2.out; have := S5.out; have := Lb_5.out; have := Lz_5.out; have := Lp_5.out; omega))).trans h.2.2.2.1) 0 (by decide), row_cell ((setCell_other (by first | omega | (have := S2.out; have := Lb_2.out; have := Lz_2.out; have := S5.out; have := Lb_5.out; have := Lz_5.out; have := Lp_5.out; omega))).trans h.2.2.2.1) 1 (by decide), row_cell ((setCell_other (by first | omega | (have := S2.out; have := Lb_2.out; have := Lz_2.out; have := S5.out; have := Lb_5.out; have := Lz_5.out; have := Lp_5.out; omega))).trans h.2.2.2.1) 2 (by decide), row_cell ((setCell_other (by first | omega | (have := S2.out; have := Lb_2.out; have := Lz_2.out; have := S5.out; have := Lb_5.out; have := Lz_5.out; have := Lp_5.out; omega))).trans h.2.2.2.1) 3 (by decide), row_cell ((setCell_other (by first | omega | (have := S2.out; have := Lb_2.out; have := Lz_2.out; have := S5.out; have := Lb_5.out; have := Lz_5.out; have := Lp_5.out; omega))).trans h.2.2.2.1) 4 (by decide), row_cell ((setCell_other (by first | omega | (have := S2.out; have := Lb_2.out; have := Lz_2.out; have := S5.out; have := Lb_5.out; have := Lz_5.out; have := Lp_5.out; omega))).trans h.2.2.2.1) 5 (by decide)⟩)
    have s0 : Below w.heap.size w ((w4.alloc (Obj.cells (cw 6 t) 42))).drew ∧ ((w4.alloc (Obj.cells (cw 6 t) 42))).drew.heap[w.heap.size]? = some (Obj.cells #[.int .u64 (x : Nat), .int .u64 (y : Nat)] 27) ∧ ((w4.alloc (Obj.cells (cw 6 t) 42))).drew.heap[w.heap.size + 1]? = some (Obj.cells (pt 0 0 0 0) 75) ∧ ((w4.alloc (Obj.cells (cw 6 t) 42))).drew.heap[w4.heap.size]? = some (Obj.cells (cw 6 t) 42) ∧ ((w4.alloc (Obj.cells (cw 6 t) 42))).drew.cell? ⟨w4.heap.size, 0, none⟩ = some (.int .u64 ((wd t 0 : Nat) : Int)) ∧ ((w4.alloc (Obj.cells (cw 6 t) 42))).drew.cell? ⟨w4.heap.size, 1, none⟩ = some (.int .u64 ((wd t 1 : Nat) : Int)) ∧ ((w4.alloc (Obj.cells (cw 6 t) 42))).drew.cell? ⟨w4.heap.size, 2, none⟩ = some (.int .u64 ((wd t 2 : Nat) : Int)) ∧ ((w4.alloc (Obj.cells (cw 6 t) 42))).drew.cell? ⟨w4.heap.size, 3, none⟩ = some (.int .u64 ((wd t 3 : Nat) : Int)) ∧ ((w4.alloc (Obj.cells (cw 6 t) 42))).drew.cell? ⟨w4.heap.size, 4, none⟩ = some (.int .u64 ((wd t 4 : Nat) : Int)) ∧ ((w4.alloc (Obj.cells (cw 6 t) 42))).drew.cell? ⟨w4.heap.size, 5, none⟩ = some (.int .u64 ((wd t 5 : Nat) : Int)) := ⟨B5.drew, Rb_5, Rz_5, Rfr_5, row_cell (Rfr_5) 0 (by decide), row_cell (Rfr_5) 1 (by decide), row_cell (Rfr_5) 2 (by decide), row_cell (Rfr_5) 3 (by decide), row_cell (Rfr_5) 4 (by decide), row_cell (Rfr_5) 5 (by decide)⟩
    have rp : ((w4.alloc (Obj.cells (cw 6 t) 42))).drew.heap[w1.heap.size]? = some (Obj.cells (pt c 0 0 0) 75) := Rp_5
    go_wp2_with fail
    go_region_held3 (fun W => Below w.heap.size w W ∧ W.heap[w.heap.size]? = some (Obj.cells #[.int .u64 (x : Nat), .int .u64 (y : Nat)] 27) ∧ W.heap[w.heap.size + 1]? = some (Obj.cells (pt 0 0 0 0) 75) ∧ W.heap[w4.heap.size]? = some (Obj.cells (cw 6 t) 42) ∧ W.cell? ⟨w4.heap.size, 0, none⟩ = some (.int .u64 ((wd t 0 : Nat) : Int)) ∧ W.cell? ⟨w4.heap.size, 1, none⟩ = some (.int .u64 ((wd t 1 : Nat) : Int)) ∧ W.cell? ⟨w4.heap.size, 2, none⟩ = some (.int .u64 ((wd t 2 : Nat) : Int)) ∧ W.cell? ⟨w4.heap.size, 3, none⟩ = some (.int .u64 ((wd t 3 : Nat) : Int)) ∧ W.cell? ⟨w4.heap.size, 4, none⟩ = some (.int .u64 ((wd t 4 : Nat) : Int)) ∧ W.cell? ⟨w4.heap.size, 5, none⟩ = some (.int .u64 ((wd t 5 : Nat) : Int))) (first | exact s1 | exact s0 | exact sT1.out _ _ s1 | exact sT2.out _ _ (sT1.out _ _ s1) | exact sT2.out _ _ s1)
      (first | (go_at_call 81; (first | refine (KL.out _ (fatB TT.out (And.left s1))).mono ?_ | refine (KL.out _ (fatB TT.out (And.left s0))).mono ?_); rintro r wq ⟨rfl, bq⟩; have s1 := (by first | exact sS.out _ _ s1 bq | exact sS.out _ _ s0 bq); have rp := heap_of bq _ _ _ rp; have hst := st_p1 wq (w1.heap.size) c 0 0 0 t rp; have rp2 := setRow_row (c' := (pt c t 0 0)) rp; have q7 := fz (k := 7) rp2; have d7 := cell7 rp2 7 _ rfl; clear bq) | fail)
    have s2 : Below w.heap.size w ((wq.setRow (w1.heap.size) (pt c t 0 0)).setCell ⟨w1.heap.size, 7, none⟩ (.int .i64 m)) ∧ ((wq.setRow (w1.heap.size) (pt c t 0 0)).setCell ⟨w1.heap.size, 7, none⟩ (.int .i64 m)).heap[w.heap.size]? = some (Obj.cells #[.int .u64 (x : Nat), .int .u64 (y : Nat)] 27) ∧ ((wq.setRow (w1.heap.size) (pt c t 0 0)).setCell ⟨w1.heap.size, 7, none⟩ (.int .i64 m)).heap[w.heap.size + 1]? = some (Obj.cells (pt 0 0 0 0) 75) ∧ ((wq.setRow (w1.heap.size) (pt c t 0 0)).setCell ⟨w1.heap.size, 7, none⟩ (.int .i64 m)).heap[w4.heap.size]? = some (Obj.cells (cw 6 t) 42) ∧ ((wq.setRow (w1.heap.size) (pt c t 0 0)).setCell ⟨w1.heap.size, 7, none⟩ (.int .i64 m)).cell? ⟨w4.heap.size, 0, none⟩ = some (.int .u64 ((wd t 0 : Nat) : Int)) ∧ ((wq.setRow (w1.heap.size) (pt c t 0 0)).setCell ⟨w1.heap.size, 7, none⟩ (.int .i64 m)).cell? ⟨w4.heap.size, 1, none⟩ = some (.int .u64 ((wd t 1 : Nat) : Int)) ∧ ((wq.setRow (w1.heap.size) (pt c t 0 0)).setCell ⟨w1.heap.size, 7, none⟩ (.int .i64 m)).cell? ⟨w4.heap.size, 2, none⟩ = some (.int .u64 ((wd t 2 : Nat) : Int)) ∧ ((wq.setRow (w1.heap.size) (pt c t 0 0)).setCell ⟨w1.heap.size, 7, none⟩ (.int .i64 m)).cell? ⟨w4.heap.size, 3, none⟩ = some (.int .u64 ((wd t 3 : Nat) : Int)) ∧ ((wq.setRow (w1.heap.size) (pt c t 0 0)).setCell ⟨w1.heap.size, 7, none⟩ (.int .i64 m)).cell? ⟨w4.heap.size, 4, none⟩ = some (.int .u64 ((wd t 4 : Nat) : Int)) ∧ ((wq.setRow (w1.heap.size) (pt c t 0 0)).setCell ⟨w1.heap.size, 7, none⟩ (.int .i64 m)).cell? ⟨w4.heap.size, 5, none⟩ = some (.int .u64 ((wd t 5 : Nat) : Int)) := sT2.out _ _ (sT1.out _ _ s1)
    have Rp_6 : ((wq.setRow (w1.heap.size) (pt c t 0 0)).setCell ⟨w1.heap.size, 7, none⟩ (.int .i64 m)).heap[w1.heap.size]? = some (Obj.cells (pt c t m 0) 75) := by rw [setCell_row rp2]; rfl
    have B6 := And.left s2
    have Rb_6 := s2.2.1
    have Rz_6 := s2.2.2.1
    have Rfr_6 := s2.2.2.2.1
    obtain ⟨w6, hw6⟩ : ∃ V, ((wq.setRow (w1.heap.size) (pt c t 0 0)).setCell ⟨w1.heap.size, 7, none⟩ (.int .i64 m)) = V := ⟨_, rfl⟩
    rw [hw6] at B6 Rb_6 Rz_6 Rp_6 Rfr_6
    try rw [hw6]
    clear s0 s1 s2 sS sT1 sT2 rp q7 d7 hw6 hst rp2 B5 Rb_5 cb_5_0 cb_5_1 Rz_5 cz_5_0 cz_5_1 cz_5_2 cz_5_3 cz_5_4 cz_5_5 cz_5_6 cz_5_7 cz_5_8 cz_5_9 cz_5_10 cz_5_11 cz_5_12 cz_5_13 Rp_5 cp_5_0 cp_5_1 cp_5_2 cp_5_3 cp_5_4 cp_5_5 cp_5_6 cp_5_7 cp_5_8 cp_5_9 cp_5_10 cp_5_11 cp_5_12 cp_5_13 Rfr_5 cfr_5_0
    obtain ⟨cb_6_0, cb_6_1⟩ := cell7t Rb_6
    obtain ⟨cz_6_0, cz_6_1, cz_6_2, cz_6_3, cz_6_4, cz_6_5, cz_6_6, cz_6_7, cz_6_8, cz_6_9, cz_6_10, cz_6_11, cz_6_12, cz_6_13⟩ := pt_cells Rz_6
    obtain ⟨cp_6_0, cp_6_1, cp_6_2, cp_6_3, cp_6_4, cp_6_5, cp_6_6, cp_6_7, cp_6_8, cp_6_9, cp_6_10, cp_6_11, cp_6_12, cp_6_13⟩ := pt_cells Rp_6
    have cfr_6_0 := row_cell Rfr_6
    have hstz := st_p w6 (w.heap.size + 1) c t m 0 0 0 0 0 Rz_6
    have RZ := setRow_row (c' := pt c t m 0) Rz_6
    obtain ⟨dz0, dz1, dz2, dz3, dz4, dz5, dz6, dz7, dz8, dz9, dz10, dz11, dz12, dz13⟩ := pt_cells RZ
    have bz := bel_set (c := pt c t m 0) B6 (show w.heap.size ≤ w.heap.size + 1 by first | exact Nat.le_refl _ | omega | (have := S2.out; have := Lb_2.out; have := Lz_2.out; have := S5.out; have := Lb_5.out; have := Lz_5.out; have := Lp_5.out; omega))
    go_wp2
    exact bodyPost_ret (v := .agg (pt c t m 0)) (by simp [results, Tryd.results59, go_sem, dz0, dz1, dz2, dz3, dz4, dz5, dz6, dz7, dz8, dz9, dz10, dz11, dz12, dz13, ptf] <;> rfl) rfl ⟨rfl, bz⟩
set_option maxRecDepth 100000 in
set_option maxHeartbeats 2000000 in
theorem kparts_norm (f : Int) (x y c u v t : Nat) (m q X : Int) (k P S e : Nat) (w : World)
    (KC : Box (∀ w, FAt w → Calls Tryd.prog 72 #[.int .u8 f, .agg #[.int .u64 (x : Nat), .int .u64 (y : Nat)]] w fun r w' => r = .returned (.int .u8 (c : Nat)) ∧ Below w.heap.size w w'))
    (KF : Box (∀ w, FAt w → Calls Tryd.prog 80 #[.int .u8 f, .agg #[.int .u64 (x : Nat), .int .u64 (y : Nat)]] w fun r w' => r = .returned (.agg #[.int .u64 (u : Nat), .int .u64 (v : Nat)]) ∧ Below w.heap.size w w'))
    (KO : Box (∀ w, Calls Tryd.prog 57 #[.agg #[.int .u64 (u : Nat), .int .u64 (v : Nat)]] w fun r w' => r = .returned (.agg (cw 6 t)) ∧ Below w.heap.size w w'))
    (KL : Box (∀ w, FAt w → Calls Tryd.prog 81 #[.int .u8 f] w fun r w' => r = .returned (.int .i64 m) ∧ Below w.heap.size w w'))
    (K1 : Box (∀ w, Calls Tryd.prog 10 #[.int .u64 1] w fun r w' => r = .returned (.agg (cw 6 1)) ∧ Below w.heap.size w w'))
    (KP : Box (∀ w, FAt w → Calls Tryd.prog 50 #[.int .u8 f] w fun r w' => r = .returned (.int .i64 q) ∧ Below w.heap.size w w'))
    (KW : Box (∀ w, Calls Tryd.prog 35 #[.agg (cw 6 1), .int .i64 (k : Nat)] w fun r w' => r = .returned (.tuple #[.agg (cw 6 P), .bool false]) ∧ Below w.heap.size w w'))
    (KR : Box (∀ w, Calls Tryd.prog 56 #[.agg (cw 6 P), .agg (cw 6 t)] w fun r w' => r = .returned (.agg (cw 6 S)) ∧ Below w.heap.size w w'))
    (KE : Box (∀ w, FAt w → Calls Tryd.prog 82 #[.int .u8 f, .agg #[.int .u64 (x : Nat), .int .u64 (y : Nat)]] w fun r w' => r = .returned (.int .u64 (e : Nat)) ∧ Below w.heap.size w w'))
    (h1 : IntKind.i64.wrap (q - 1) = (k : Int)) (h2 : IntKind.i64.wrap (e : Int) = (e : Int)) (h3 : IntKind.i64.wrap (m + (e : Int)) = m + (e : Int)) (h4 : IntKind.i64.wrap (m + (e : Int) - 1) = X)
    (hc : c = 1 ∨ c = 6) (hT : FAt w) : Calls Tryd.prog 59 #[.int .u8 f, .agg #[.int .u64 (x : Nat), .int .u64 (y : Nat)]] w fun r w' => r = .returned (.agg (pt c S X 0)) ∧ Below w.heap.size w w' := by
  have hat := cw_at 6
  have hz := cw6z
  have hff := cw6f
  have hs0 := st0
  have hcs : ∀ x, ((cw 6 x).size = 6) = True := fun x => eq_true (cw_size 6 x)
  have hp1 := ptf
  have hp2 := ptc
  have hp3 := ptz
  have hp4 := st_p0
  have hp6 := pt_set
  have hp7 := pt_setl
  have hp5 : ∀ (c s : Nat) (x : Int) (r : Nat), ((pt c s x r).size = 14) = True := fun _ _ _ _ => eq_true rfl
  have ha0 := pt_at0
  have ha1 := pt_at1
  have ha2 := pt_at2
  have ha3 := pt_at3
  have ha4 := pt_at4
  have ha5 := pt_at5
  have ha6 := pt_at6
  have ha7 := pt_at7
  have ha8 := pt_at8
  have ha9 := pt_at9
  have ha10 := pt_at10
  have ha11 := pt_at11
  have ha12 := pt_at12
  have ha13 := pt_at13
  have TT := box hT
  clear hT
  rcases hc with hc | hc
  · have f8 : ((c : Int) == 8) = false := by rw [hc]; rfl
    have f9 : ((c : Int) == 9) = false := by rw [hc]; rfl
    have f2 : ((c : Int) == 2) = false := by rw [hc]; rfl
    have f5 : ((c : Int) == 5) = false := by rw [hc]; rfl
    have f1 : ((c : Int) == 1) = true := by rw [hc]; rfl
    clear hc
    obtain ⟨Rb_0, Rz_0, B0⟩ := kopn2 w (Obj.cells #[.int .u64 (x : Nat), .int .u64 (y : Nat)] 27) (Obj.cells (pt 0 0 0 0) 75)
    go_enter Tryd.func59, Tryd.ntmps59
    go_wp2_with fail
    refine (KC.out _ (fatB TT.out B0)).mono ?_
    rintro r w1 ⟨rfl, b1⟩
    have B1 : Below w.heap.size w w1 := btr7 B0 b1
    have Rb_1 := heap_of b1 _ _ _ Rb_0
    have Rz_1 := heap_of b1 _ _ _ Rz_0
    clear b1 B0 Rb_0 Rz_0
    obtain ⟨cb_1_0, cb_1_1⟩ := cell7t Rb_1
    obtain ⟨cz_1_0, cz_1_1, cz_1_2, cz_1_3, cz_1_4, cz_1_5, cz_1_6, cz_1_7, cz_1_8, cz_1_9, cz_1_10, cz_1_11, cz_1_12, cz_1_13⟩ := pt_cells Rz_1
    have S2 := box B1.size
    have Lb_2 : Box (w.heap.size < w1.heap.size) := box (Array.getElem?_eq_some_iff.1 Rb_1).1
    have Lz_2 : Box (w.heap.size + 1 < w1.heap.size) := box (Array.getElem?_eq_some_iff.1 Rz_1).1
    have Rp_2 := heap_alloc_last w1 (Obj.cells (pt c 0 0 0) 75)
    have B2 := btr7 B1 (bal7 w1 (Obj.cells (pt c 0 0 0) 75))
    have Rb_2 := heap_of (bal7 w1 (Obj.cells (pt c 0 0 0) 75)) _ _ _ Rb_1
    have Rz_2 := heap_of (bal7 w1 (Obj.cells (pt c 0 0 0) 75)) _ _ _ Rz_1
    clear B1 Rb_1 cb_1_0 cb_1_1 Rz_1 cz_1_0 cz_1_1 cz_1_2 cz_1_3 cz_1_4 cz_1_5 cz_1_6 cz_1_7 cz_1_8 cz_1_9 cz_1_10 cz_1_11 cz_1_12 cz_1_13
    obtain ⟨cb_2_0, cb_2_1⟩ := cell7t Rb_2
    obtain ⟨cz_2_0, cz_2_1, cz_2_2, cz_2_3, cz_2_4, cz_2_5, cz_2_6, cz_2_7, cz_2_8, cz_2_9, cz_2_10, cz_2_11, cz_2_12, cz_2_13⟩ := pt_cells Rz_2
    obtain ⟨cp_2_0, cp_2_1, cp_2_2, cp_2_3, cp_2_4, cp_2_5, cp_2_6, cp_2_7, cp_2_8, cp_2_9, cp_2_10, cp_2_11, cp_2_12, cp_2_13⟩ := pt_cells Rp_2
    go_wp2_with fail
    refine (KF.out _ (fatB TT.out B2)).mono ?_
    rintro r w3 ⟨rfl, b3⟩
    have B3 : Below w.heap.size w w3 := btr7 B2 b3
    have Rb_3 := heap_of b3 _ _ _ Rb_2
    have Rz_3 := heap_of b3 _ _ _ Rz_2
    have Rp_3 := heap_of b3 _ _ _ Rp_2
    clear b3 B2 Rb_2 cb_2_0 cb_2_1 Rz_2 cz_2_0 cz_2_1 cz_2_2 cz_2_3 cz_2_4 cz_2_5 cz_2_6 cz_2_7 cz_2_8 cz_2_9 cz_2_10 cz_2_11 cz_2_12 cz_2_13 Rp_2 cp_2_0 cp_2_1 cp_2_2 cp_2_3 cp_2_4 cp_2_5 cp_2_6 cp_2_7 cp_2_8 cp_2_9 cp_2_10 cp_2_11 cp_2_12 cp_2_13
    obtain ⟨cb_3_0, cb_3_1⟩ := cell7t Rb_3
    obtain ⟨cz_3_0, cz_3_1, cz_3_2, cz_3_3, cz_3_4, cz_3_5, cz_3_6, cz_3_7, cz_3_8, cz_3_9, cz_3_10, cz_3_11, cz_3_12, cz_3_13⟩ := pt_cells Rz_3
    obtain ⟨cp_3_0, cp_3_1, cp_3_2, cp_3_3, cp_3_4, cp_3_5, cp_3_6, cp_3_7, cp_3_8, cp_3_9, cp_3_10, cp_3_11, cp_3_12, cp_3_13⟩ := pt_cells Rp_3
    go_wp2_with fail
    refine (KO.out _).mono ?_
    rintro r w4 ⟨rfl, b4⟩
    have B4 : Below w.heap.size w w4 := btr7 B3 b4
    have Rb_4 := heap_of b4 _ _ _ Rb_3
    have Rz_4 := heap_of b4 _ _ _ Rz_3
    have Rp_4 := heap_of b4 _ _ _ Rp_3
    clear b4 B3 Rb_3 cb_3_0 cb_3_1 Rz_3 cz_3_0 cz_3_1 cz_3_2 cz_3_3 cz_3_4 cz_3_5 cz_3_6 cz_3_7 cz_3_8 cz_3_9 cz_3_10 cz_3_11 cz_3_12 cz_3_13 Rp_3 cp_3_0 cp_3_1 cp_3_2 cp_3_3 cp_3_4 cp_3_5 cp_3_6 cp_3_7 cp_3_8 cp_3_9 cp_3_10 cp_3_11 cp_3_12 cp_3_13
    obtain ⟨cb_4_0, cb_4_1⟩ := cell7t Rb_4
    obtain ⟨cz_4_0, cz_4_1, cz_4_2, cz_4_3, cz_4_4, cz_4_5, cz_4_6, cz_4_7, cz_4_8, cz_4_9, cz_4_10, cz_4_11, cz_4_12, cz_4_13⟩ := pt_cells Rz_4
    obtain ⟨cp_4_0, cp_4_1, cp_4_2, cp_4_3, cp_4_4, cp_4_5, cp_4_6, cp_4_7, cp_4_8, cp_4_9, cp_4_10, cp_4_11, cp_4_12, cp_4_13⟩ := pt_cells Rp_4
    have S5 := box B4.size
    have Lb_5 : Box (w.heap.size < w4.heap.size) := box (Array.getElem?_eq_some_iff.1 Rb_4).1
    have Lz_5 : Box (w.heap.size + 1 < w4.heap.size) := box (Array.getElem?_eq_some_iff.1 Rz_4).1
    have Lp_5 : Box (w1.heap.size < w4.heap.size) := box (Array.getElem?_eq_some_iff.1 Rp_4).1
    have Rfr_5 := heap_alloc_last w4 (Obj.cells (cw 6 t) 42)
    have B5 := btr7 B4 (bal7 w4 (Obj.cells (cw 6 t) 42))
    have Rb_5 := heap_of (bal7 w4 (Obj.cells (cw 6 t) 42)) _ _ _ Rb_4
    have Rz_5 := heap_of (bal7 w4 (Obj.cells (cw 6 t) 42)) _ _ _ Rz_4
    have Rp_5 := heap_of (bal7 w4 (Obj.cells (cw 6 t) 42)) _ _ _ Rp_4
    clear B4 Rb_4 cb_4_0 cb_4_1 Rz_4 cz_4_0 cz_4_1 cz_4_2 cz_4_3 cz_4_4 cz_4_5 cz_4_6 cz_4_7 cz_4_8 cz_4_9 cz_4_10 cz_4_11 cz_4_12 cz_4_13 Rp_4 cp_4_0 cp_4_1 cp_4_2 cp_4_3 cp_4_4 cp_4_5 cp_4_6 cp_4_7 cp_4_8 cp_4_9 cp_4_10 cp_4_11 cp_4_12 cp_4_13
    obtain ⟨cb_5_0, cb_5_1⟩ := cell7t Rb_5
    obtain ⟨cz_5_0, cz_5_1, cz_5_2, cz_5_3, cz_5_4, cz_5_5, cz_5_6, cz_5_7, cz_5_8, cz_5_9, cz_5_10, cz_5_11, cz_5_12, cz_5_13⟩ := pt_cells Rz_5
    obtain ⟨cp_5_0, cp_5_1, cp_5_2, cp_5_3, cp_5_4, cp_5_5, cp_5_6, cp_5_7, cp_5_8, cp_5_9, cp_5_10, cp_5_11, cp_5_12, cp_5_13⟩ := pt_cells Rp_5
    have cfr_5_0 := row_cell Rfr_5
    go_wp2_with fail
    refine (K1.out _).mono ?_
    rintro r w6 ⟨rfl, b6⟩
    have B6 : Below w.heap.size w w6 := btr7 B5 b6
    have Rb_6 := heap_of b6 _ _ _ Rb_5
    have Rz_6 := heap_of b6 _ _ _ Rz_5
    have Rp_6 := heap_of b6 _ _ _ Rp_5
    have Rfr_6 := heap_of b6 _ _ _ Rfr_5
    clear b6 B5 Rb_5 cb_5_0 cb_5_1 Rz_5 cz_5_0 cz_5_1 cz_5_2 cz_5_3 cz_5_4 cz_5_5 cz_5_6 cz_5_7 cz_5_8 cz_5_9 cz_5_10 cz_5_11 cz_5_12 cz_5_13 Rp_5 cp_5_0 cp_5_1 cp_5_2 cp_5_3 cp_5_4 cp_5_5 cp_5_6 cp_5_7 cp_5_8 cp_5_9 cp_5_10 cp_5_11 cp_5_12 cp_5_13 Rfr_5 cfr_5_0
    obtain ⟨cb_6_0, cb_6_1⟩ := cell7t Rb_6
    obtain ⟨cz_6_0, cz_6_1, cz_6_2, cz_6_3, cz_6_4, cz_6_5, cz_6_6, cz_6_7, cz_6_8, cz_6_9, cz_6_10, cz_6_11, cz_6_12, cz_6_13⟩ := pt_cells Rz_6
    obtain ⟨cp_6_0, cp_6_1, cp_6_2, cp_6_3, cp_6_4, cp_6_5, cp_6_6, cp_6_7, cp_6_8, cp_6_9, cp_6_10, cp_6_11, cp_6_12, cp_6_13⟩ := pt_cells Rp_6
    have cfr_6_0 := row_cell Rfr_6
    go_wp2_with fail
    refine (KP.out _ (fatB TT.out B6)).mono ?_
    rintro r w7 ⟨rfl, b7⟩
    have B7 : Below w.heap.size w w7 := btr7 B6 b7
    have Rb_7 := heap_of b7 _ _ _ Rb_6
    have Rz_7 := heap_of b7 _ _ _ Rz_6
    have Rp_7 := heap_of b7 _ _ _ Rp_6
    have Rfr_7 := heap_of b7 _ _ _ Rfr_6
    clear b7 B6 Rb_6 cb_6_0 cb_6_1 Rz_6 cz_6_0 cz_6_1 cz_6_2 cz_6_3 cz_6_4 cz_6_5 cz_6_6 cz_6_7 cz_6_8 cz_6_9 cz_6_10 cz_6_11 cz_6_12 cz_6_13 Rp_6 cp_6_0 cp_6_1 cp_6_2 cp_6_3 cp_6_4 cp_6_5 cp_6_6 cp_6_7 cp_6_8 cp_6_9 cp_6_10 cp_6_11 cp_6_12 cp_6_13 Rfr_6 cfr_6_0
    obtain ⟨cb_7_0, cb_7_1⟩ := cell7t Rb_7
    obtain ⟨cz_7_0, cz_7_1, cz_7_2, cz_7_3, cz_7_4, cz_7_5, cz_7_6, cz_7_7, cz_7_8, cz_7_9, cz_7_10, cz_7_11, cz_7_12, cz_7_13⟩ := pt_cells Rz_7
    obtain ⟨cp_7_0, cp_7_1, cp_7_2, cp_7_3, cp_7_4, cp_7_5, cp_7_6, cp_7_7, cp_7_8, cp_7_9, cp_7_10, cp_7_11, cp_7_12, cp_7_13⟩ := pt_cells Rp_7
    have cfr_7_0 := row_cell Rfr_7
    go_wp2_with fail
    refine (KW.out _).mono ?_
    rintro r w8 ⟨rfl, b8⟩
    have B8 : Below w.heap.size w w8 := btr7 B7 b8
    have Rb_8 := heap_of b8 _ _ _ Rb_7
    have Rz_8 := heap_of b8 _ _ _ Rz_7
    have Rp_8 := heap_of b8 _ _ _ Rp_7
    have Rfr_8 := heap_of b8 _ _ _ Rfr_7
    clear b8 B7 Rb_7 cb_7_0 cb_7_1 Rz_7 cz_7_0 cz_7_1 cz_7_2 cz_7_3 cz_7_4 cz_7_5 cz_7_6 cz_7_7 cz_7_8 cz_7_9 cz_7_10 cz_7_11 cz_7_12 cz_7_13 Rp_7 cp_7_0 cp_7_1 cp_7_2 cp_7_3 cp_7_4 cp_7_5 cp_7_6 cp_7_7 cp_7_8 cp_7_9 cp_7_10 cp_7_11 cp_7_12 cp_7_13 Rfr_7 cfr_7_0
    obtain ⟨cb_8_0, cb_8_1⟩ := cell7t Rb_8
    obtain ⟨cz_8_0, cz_8_1, cz_8_2, cz_8_3, cz_8_4, cz_8_5, cz_8_6, cz_8_7, cz_8_8, cz_8_9, cz_8_10, cz_8_11, cz_8_12, cz_8_13⟩ := pt_cells Rz_8
    obtain ⟨cp_8_0, cp_8_1, cp_8_2, cp_8_3, cp_8_4, cp_8_5, cp_8_6, cp_8_7, cp_8_8, cp_8_9, cp_8_10, cp_8_11, cp_8_12, cp_8_13⟩ := pt_cells Rp_8
    have cfr_8_0 := row_cell Rfr_8
    have S9 := box B8.size
    have Lb_9 : Box (w.heap.size < w8.heap.size) := box (Array.getElem?_eq_some_iff.1 Rb_8).1
    have Lz_9 : Box (w.heap.size + 1 < w8.heap.size) := box (Array.getElem?_eq_some_iff.1 Rz_8).1
    have Lp_9 : Box (w1.heap.size < w8.heap.size) := box (Array.getElem?_eq_some_iff.1 Rp_8).1
    have Lfr_9 : Box (w4.heap.size < w8.heap.size) := box (Array.getElem?_eq_some_iff.1 Rfr_8).1
    have Run_9 := heap_alloc_last w8 (Obj.cells (cw 6 P) 42)
    have B9 := btr7 B8 (bal7 w8 (Obj.cells (cw 6 P) 42))
    have Rb_9 := heap_of (bal7 w8 (Obj.cells (cw 6 P) 42)) _ _ _ Rb_8
    have Rz_9 := heap_of (bal7 w8 (Obj.cells (cw 6 P) 42)) _ _ _ Rz_8
    have Rp_9 := heap_of (bal7 w8 (Obj.cells (cw 6 P) 42)) _ _ _ Rp_8
    have Rfr_9 := heap_of (bal7 w8 (Obj.cells (cw 6 P) 42)) _ _ _ Rfr_8
    clear B8 Rb_8 cb_8_0 cb_8_1 Rz_8 cz_8_0 cz_8_1 cz_8_2 cz_8_3 cz_8_4 cz_8_5 cz_8_6 cz_8_7 cz_8_8 cz_8_9 cz_8_10 cz_8_11 cz_8_12 cz_8_13 Rp_8 cp_8_0 cp_8_1 cp_8_2 cp_8_3 cp_8_4 cp_8_5 cp_8_6 cp_8_7 cp_8_8 cp_8_9 cp_8_10 cp_8_11 cp_8_12 cp_8_13 Rfr_8 cfr_8_0
    obtain ⟨cb_9_0, cb_9_1⟩ := cell7t Rb_9
    obtain ⟨cz_9_0, cz_9_1, cz_9_2, cz_9_3, cz_9_4, cz_9_5, cz_9_6, cz_9_7, cz_9_8, cz_9_9, cz_9_10, cz_9_11, cz_9_12, cz_9_13⟩ := pt_cells Rz_9
    obtain ⟨cp_9_0, cp_9_1, cp_9_2, cp_9_3, cp_9_4, cp_9_5, cp_9_6, cp_9_7, cp_9_8, cp_9_9, cp_9_10, cp_9_11, cp_9_12, cp_9_13⟩ := pt_cells Rp_9
    have cfr_9_0 := row_cell Rfr_9
    have cun_9_0 := row_cell Run_9
    go_wp2_with fail
    refine (KR.out _).mono ?_
    rintro r w10 ⟨rfl, b10⟩
    have B10 : Below w.heap.size w w10 := btr7 B9 b10
    have Rb_10 := heap_of b10 _ _ _ Rb_9
    have Rz_10 := heap_of b10 _ _ _ Rz_9
    have Rp_10 := heap_of b10 _ _ _ Rp_9
    have Rfr_10 := heap_of b10 _ _ _ Rfr_9
    have Run_10 := heap_of b10 _ _ _ Run_9
    clear b10 B9 Rb_9 cb_9_0 cb_9_1 Rz_9 cz_9_0 cz_9_1 cz_9_2 cz_9_3 cz_9_4 cz_9_5 cz_9_6 cz_9_7 cz_9_8 cz_9_9 cz_9_10 cz_9_11 cz_9_12 cz_9_13 Rp_9 cp_9_0 cp_9_1 cp_9_2 cp_9_3 cp_9_4 cp_9_5 cp_9_6 cp_9_7 cp_9_8 cp_9_9 cp_9_10 cp_9_11 cp_9_12 cp_9_13 Rfr_9 cfr_9_0 Run_9 cun_9_0
    obtain ⟨cb_10_0, cb_10_1⟩ := cell7t Rb_10
    obtain ⟨cz_10_0, cz_10_1, cz_10_2, cz_10_3, cz_10_4, cz_10_5, cz_10_6, cz_10_7, cz_10_8, cz_10_9, cz_10_10, cz_10_11, cz_10_12, cz_10_13⟩ := pt_cells Rz_10
    obtain ⟨cp_10_0, cp_10_1, cp_10_2, cp_10_3, cp_10_4, cp_10_5, cp_10_6, cp_10_7, cp_10_8, cp_10_9, cp_10_10, cp_10_11, cp_10_12, cp_10_13⟩ := pt_cells Rp_10
    have cfr_10_0 := row_cell Rfr_10
    have cun_10_0 := row_cell Run_10
    have hst11 := st_p1 w10 (w1.heap.size) c 0 0 0 S Rp_10
    have B11 := bel_set (c := (pt c S 0 0)) B10 (show w.heap.size ≤ w1.heap.size by first | exact Nat.le_refl _ | omega | (have := S2.out; have := Lb_2.out; have := Lz_2.out; have := S5.out; have := Lb_5.out; have := Lz_5.out; have := Lp_5.out; have := S9.out; have := Lb_9.out; have := Lz_9.out; have := Lp_9.out; have := Lfr_9.out; omega))
    have Rp_11 := setRow_row (c' := (pt c S 0 0)) Rp_10
    have Rb_11 : (w10.setRow (w1.heap.size) (pt c S 0 0)).heap[w.heap.size]? = some (Obj.cells #[.int .u64 (x : Nat), .int .u64 (y : Nat)] 27) := by rw [setRow_other (by first | omega | (have := S2.out; have := Lb_2.out; have := Lz_2.out; have := S5.out; have := Lb_5.out; have := Lz_5.out; have := Lp_5.out; have := S9.out; have := Lb_9.out; have := Lz_9.out; have := Lp_9.out; have := Lfr_9.out; omega))]; exact Rb_10
    have Rz_11 : (w10.setRow (w1.heap.size) (pt c S 0 0)).heap[w.heap.size + 1]? = some (Obj.cells (pt 0 0 0 0) 75) := by rw [setRow_other (by first | omega | (have := S2.out; have := Lb_2.out; have := Lz_2.out; have := S5.out; have := Lb_5.out; have := Lz_5.out; have := Lp_5.out; have := S9.out; have := Lb_9.out; have := Lz_9.out; have := Lp_9.out; have := Lfr_9.out; omega))]; exact Rz_10
    have Rfr_11 : (w10.setRow (w1.heap.size) (pt c S 0 0)).heap[w4.heap.size]? = some (Obj.cells (cw 6 t) 42) := by rw [setRow_other (by first | omega | (have := S2.out; have := Lb_2.out; have := Lz_2.out; have := S5.out; have := Lb_5.out; have := Lz_5.out; have := Lp_5.out; have := S9.out; have := Lb_9.out; have := Lz_9.out; have := Lp_9.out; have := Lfr_9.out; omega))]; exact Rfr_10
    have Run_11 : (w10.setRow (w1.heap.size) (pt c S 0 0)).heap[w8.heap.size]? = some (Obj.cells (cw 6 P) 42) := by rw [setRow_other (by first | omega | (have := S2.out; have := Lb_2.out; have := Lz_2.out; have := S5.out; have := Lb_5.out; have := Lz_5.out; have := Lp_5.out; have := S9.out; have := Lb_9.out; have := Lz_9.out; have := Lp_9.out; have := Lfr_9.out; omega))]; exact Run_10
    obtain ⟨w11, hw11⟩ : ∃ V, w10.setRow (w1.heap.size) (pt c S 0 0) = V := ⟨_, rfl⟩
    rw [hw11] at hst11 B11 Rb_11 Rz_11 Rp_11 Rfr_11 Run_11
    obtain ⟨cb_11_0, cb_11_1⟩ := cell7t Rb_11
    obtain ⟨cz_11_0, cz_11_1, cz_11_2, cz_11_3, cz_11_4, cz_11_5, cz_11_6, cz_11_7, cz_11_8, cz_11_9, cz_11_10, cz_11_11, cz_11_12, cz_11_13⟩ := pt_cells Rz_11
    obtain ⟨cp_11_0, cp_11_1, cp_11_2, cp_11_3, cp_11_4, cp_11_5, cp_11_6, cp_11_7, cp_11_8, cp_11_9, cp_11_10, cp_11_11, cp_11_12, cp_11_13⟩ := pt_cells Rp_11
    have cfr_11_0 := row_cell Rfr_11
    have cun_11_0 := row_cell Run_11
    have sS : Box (∀ W W1 : World, (Below w.heap.size w W ∧ W.heap[w.heap.size]? = some (Obj.cells #[.int .u64 (x : Nat), .int .u64 (y : Nat)] 27) ∧ W.heap[w.heap.size + 1]? = some (Obj.cells (pt 0 0 0 0) 75) ∧ W.heap[w4.heap.size]? = some (Obj.cells (cw 6 t) 42) ∧ W.heap[w8.heap.size]? = some (Obj.cells (cw 6 P) 42) ∧ W.cell? ⟨w.heap.size, 0, none⟩ = some (.int .u64 (x : Nat)) ∧ W.cell? ⟨w.heap.size, 1, none⟩ = some (.int .u64 (y : Nat))) → Below W.heap.size W W1 → (Below w.heap.size w W1 ∧ W1.heap[w.heap.size]? = some (Obj.cells #[.int .u64 (x : Nat), .int .u64 (y : Nat)] 27) ∧ W1.heap[w.heap.size + 1]? = some (Obj.cells (pt 0 0 0 0) 75) ∧ W1.heap[w4.heap.size]? = some (Obj.cells (cw 6 t) 42) ∧ W1.heap[w8.heap.size]? = some (Obj.cells (cw 6 P) 42) ∧ W1.cell? ⟨w.heap.size, 0, none⟩ = some (.int .u64 (x : Nat)) ∧ W1.cell? ⟨w.heap.size, 1, none⟩ = some (.int .u64 (y : Nat)))) := box (fun W W1 h b => ⟨btr7 h.1 b, heap_of b _ _ _ h.2.1, heap_of b _ _ _ h.2.2.1, heap_of b _ _ _ h.2.2.2.1, heap_of b _ _ _ h.2.2.2.2.1, cell7 (heap_of b _ _ _ h.2.1) 0 _ rfl, cell7 (heap_of b _ _ _ h.2.1) 1 _ rfl⟩)
    have sT1 : Box (∀ (W : World) (xA : Array Value), (Below w.heap.size w W ∧ W.heap[w.heap.size]? = some (Obj.cells #[.int .u64 (x : Nat), .int .u64 (y : Nat)] 27) ∧ W.heap[w.heap.size + 1]? = some (Obj.cells (pt 0 0 0 0) 75) ∧ W.heap[w4.heap.size]? = some (Obj.cells (cw 6 t) 42) ∧ W.heap[w8.heap.size]? = some (Obj.cells (cw 6 P) 42) ∧ W.cell? ⟨w.heap.size, 0, none⟩ = some (.int .u64 (x : Nat)) ∧ W.cell? ⟨w.heap.size, 1, none⟩ = some (.int .u64 (y : Nat))) → (Below w.heap.size w (W.setRow (w1.heap.size) xA) ∧ (W.setRow (w1.heap.size) xA).heap[w.heap.size]? = some (Obj.cells #[.int .u64 (x : Nat), .int .u64 (y : Nat)] 27) ∧ (W.setRow (w1.heap.size) xA).heap[w.heap.size + 1]? = some (Obj.cells (pt 0 0 0 0) 75) ∧ (W.setRow (w1.heap.size) xA).heap[w4.heap.size]? = some (Obj.cells (cw 6 t) 42) ∧ (W.setRow (w1.heap.size) xA).heap[w8.heap.size]? = some (Obj.cells (cw 6 P) 42) ∧ (W.setRow (w1.heap.size) xA).cell? ⟨w.heap.size, 0, none⟩ = some (.int .u64 (x : Nat)) ∧ (W.setRow (w1.heap.size) xA).cell? ⟨w.heap.size, 1, none⟩ = some (.int .u64 (y : Nat)))) := box (fun W xA h => ⟨bel_set h.1 (show w.heap.size ≤ w1.heap.size by first | exact Nat.le_refl _ | omega | (have := S2.out; have := Lb_2.out; have := Lz_2.out; have := S5.out; have := Lb_5.out; have := Lz_5.out; have := Lp_5.out; have := S9.out; have := Lb_9.out; have := Lz_9.out; have := Lp_9.out; have := Lfr_9.out; omega)), (setRow_other (by first | omega | (have := S2.out; have := Lb_2.out; have := Lz_2.out; have := S5.out; have := Lb_5.out; have := Lz_5.out; have := Lp_5.out; have := S9.out; have := Lb_9.out; have := Lz_9.out; have := Lp_9.out; have := Lfr_9.out; omega))).trans h.2.1, (setRow_other (by first | omega | (have := S2.out; have := Lb_2.out; have := Lz_2.out; have := S5.out; have := Lb_5.out; have := Lz_5.out; have := Lp_5.out; have := S9.out; have := Lb_9.out; have := Lz_9.out; have := Lp_9.out; have := Lfr_9.out; omega))).trans h.2.2.1, (setRow_other (by first | omega | (have := S2.out; have := Lb_2.out; have := Lz_2.out; have := S5.out; have := Lb_5.out; have := Lz_5.out; have := Lp_5.out; have := S9.out; have := Lb_9.out; have := Lz_9.out; have := Lp_9.out; have := Lfr_9.out; omega))).trans h.2.2.2.1, (setRow_other (by first | omega | (have := S2.out; have := Lb_2.out; have := Lz_2.out; have := S5.out; have := Lb_5.out; have := Lz_5.out; have := Lp_5.out; have := S9.out; have := Lb_9.out; have := Lz_9.out; have := Lp_9.out; have := Lfr_9.out; omega))).trans h.2.2.2.2.1, cell7 ((setRow_other (by first | omega | (have := S2.out; have := Lb_2.out; have := Lz_2.out; have := S5.out; have := Lb_5.out; have := Lz_5.out; have := Lp_5.out; have := S9.out; have := Lb_9.out; have := Lz_9.out; have := Lp_9.out; have := Lfr_9.out; omega))).trans h.2.1) 0 _ rfl, cell7 ((setRow_other (by first | omega | (have := S2.out; have := Lb_2.out; have := Lz_2.out; have := S5.out; have := Lb_5.out; have := Lz_5.out; have := Lp_5.out; have := S9.out; have := Lb_9.out; have := Lz_9.out; have := Lp_9.out; have := Lfr_9.out; omega))).trans h.2.1) 1 _ rfl⟩)
    have sT2 : Box (∀ (W : World) (xB : Value), (Below w.heap.size w W ∧ W.heap[w.heap.size]? = some (Obj.cells #[.int .u64 (x : Nat), .int .u64 (y : Nat)] 27) ∧ W.heap[w.heap.size + 1]? = some (Obj.cells (pt 0 0 0 0) 75) ∧ W.heap[w4.heap.size]? = some (Obj.cells (cw 6 t) 42) ∧ W.heap[w8.heap.size]? = some (Obj.cells (cw 6 P) 42) ∧ W.cell? ⟨w.heap.size, 0, none⟩ = some (.int .u64 (x : Nat)) ∧ W.cell? ⟨w.heap.size, 1, none⟩ = some (.int .u64 (y : Nat))) → (Below w.heap.size w (W.setCell ⟨w1.heap.size, 7, none⟩ xB) ∧ (W.setCell ⟨w1.heap.size, 7, none⟩ xB).heap[w.heap.size]? = some (Obj.cells #[.int .u64 (x : Nat), .int .u64 (y : Nat)] 27) ∧ (W.setCell ⟨w1.heap.size, 7, none⟩ xB).heap[w.heap.size + 1]? = some (Obj.cells (pt 0 0 0 0) 75) ∧ (W.setCell ⟨w1.heap.size, 7, none⟩ xB).heap[w4.heap.size]? = some (Obj.cells (cw 6 t) 42) ∧ (W.setCell ⟨w1.heap.size, 7, none⟩ xB).heap[w8.heap.size]? = some (Obj.cells (cw 6 P) 42) ∧ (W.setCell ⟨w1.heap.size, 7, none⟩ xB).cell? ⟨w.heap.size, 0, none⟩ = some (.int .u64 (x : Nat)) ∧ (W.setCell ⟨w1.heap.size, 7, none⟩ xB).cell? ⟨w.heap.size, 1, none⟩ = some (.int .u64 (y : Nat)))) := box (fun W xB h => ⟨h.1.setCell (show w.heap.size ≤ w1.heap.size by first | exact Nat.le_refl _ | omega | (have := S2.out; have := Lb_2.out; have := Lz_2.out; have := S5.out; have := Lb_5.out; have := Lz_5.out; have := Lp_5.out; have := S9.out; have := Lb_9.out; have := Lz_9.out; have := Lp_9.out; have := Lfr_9.out; omega)) _, (setCell_other (by first | omega | (have := S2.out; have := Lb_2.out; have := Lz_2.out; have := S5.out; have := Lb_5.out; have := Lz_5.out; have := Lp_5.out; have := S9.out; have := Lb_9.out; have := Lz_9.out; have := Lp_9.out; have := Lfr_9.out; omega))).trans h.2.1, (setCell_other (by first | omega | (have := S2.out; have := Lb_2.out; have := Lz_2.out; have := S5.out; have := Lb_5.out; have := Lz_5.out; have := Lp_5.out; have := S9.out; have := Lb_9.out; have := Lz_9.out; have := Lp_9.out; have := Lfr_9.out; omega))).trans h.2.2.1, (setCell_other (by first | omega | (have := S2.out; have := Lb_2.out; have := Lz_2.out; have := S5.out; have := Lb_5.out; have := Lz_5.out; have := Lp_5.out; have := S9.out; have := Lb_9.out; have := Lz_9.out; have := Lp_9.out; have := Lfr_9.out; omega))).trans h.2.2.2.1, (setCell_other (by first | omega | (have := S2.out; have := Lb_2.out; have := Lz_2.out; have := S5.out; have := Lb_5.out; have := Lz_5.out; have := Lp_5.out; have := S9.out; have := Lb_9.out; have := Lz_9.out; have := Lp_9.out; have := Lfr_9.out; omega))).trans h.2.2.2.2.1, cell7 ((setCell_other (by first | omega | (have := S2.out; have := Lb_2.out; have := Lz_2.out; have := S5.out; have := Lb_5.out; have := Lz_5.out; have := Lp_5.out; have := S9.out; have := Lb_9.out; have := Lz_9.out; have := Lp_9.out; have := Lfr_9.out; omega))).trans h.2.1) 0 _ rfl, cell7 ((setCell_other (by first | omega | (have := S2.out; have := Lb_2.out; have := Lz_2.out; have := S5.out; have := Lb_5.out; have := Lz_5.out; have := Lp_5.out; have := S9.out; have := Lb_9.out; have := Lz_9.out; have := Lp_9.out; have := Lfr_9.out; omega))).trans h.2.1) 1 _ rfl⟩)
    have s0 : Below w.heap.size w (w11).drew ∧ (w11).drew.heap[w.heap.size]? = some (Obj.cells #[.int .u64 (x : Nat), .int .u64 (y : Nat)] 27) ∧ (w11).drew.heap[w.heap.size + 1]? = some (Obj.cells (pt 0 0 0 0) 75) ∧ (w11).drew.heap[w4.heap.size]? = some (Obj.cells (cw 6 t) 42) ∧ (w11).drew.heap[w8.heap.size]? = some (Obj.cells (cw 6 P) 42) ∧ (w11).drew.cell? ⟨w.heap.size, 0, none⟩ = some (.int .u64 (x : Nat)) ∧ (w11).drew.cell? ⟨w.heap.size, 1, none⟩ = some (.int .u64 (y : Nat)) := ⟨B11.drew, Rb_11, Rz_11, Rfr_11, Run_11, cell7 (Rb_11) 0 _ rfl, cell7 (Rb_11) 1 _ rfl⟩
    have rp : (w11).drew.heap[w1.heap.size]? = some (Obj.cells (pt c S 0 0) 75) := Rp_11
    go_wp2_with fail
    go_region_held3 (fun W => Below w.heap.size w W ∧ W.heap[w.heap.size]? = some (Obj.cells #[.int .u64 (x : Nat), .int .u64 (y : Nat)] 27) ∧ W.heap[w.heap.size + 1]? = some (Obj.cells (pt 0 0 0 0) 75) ∧ W.heap[w4.heap.size]? = some (Obj.cells (cw 6 t) 42) ∧ W.heap[w8.heap.size]? = some (Obj.cells (cw 6 P) 42) ∧ W.cell? ⟨w.heap.size, 0, none⟩ = some (.int .u64 (x : Nat)) ∧ W.cell? ⟨w.heap.size, 1, none⟩ = some (.int .u64 (y : Nat))) (first | exact s1 | exact s0 | exact sT1.out _ _ s1 | exact sT2.out _ _ (sT1.out _ _ s1) | exact sT2.out _ _ s1)
      (first | (go_at_call 81; (first | refine (KL.out _ (fatB TT.out (And.left s1))).mono ?_ | refine (KL.out _ (fatB TT.out (And.left s0))).mono ?_); rintro r wq ⟨rfl, bq⟩; have s1 := (by first | exact sS.out _ _ s1 bq | exact sS.out _ _ s0 bq); have rp := heap_of bq _ _ _ rp; have q7 := fz (k := 7) rp; have d7 := cell7 rp 7 _ rfl; clear bq) | (go_at_call 82; (first | refine (KE.out _ (fatB TT.out (And.left s1))).mono ?_ | refine (KE.out _ (fatB TT.out (And.left s0))).mono ?_); rintro r wq ⟨rfl, bq⟩; have s1 := (by first | exact sS.out _ _ s1 bq | exact sS.out _ _ s0 bq); have rp := heap_of bq _ _ _ rp; have q7 := fz (k := 7) rp; have d7 := cell7 rp 7 _ rfl; clear bq) | fail)
    have s2 : Below w.heap.size w (wq.setCell ⟨w1.heap.size, 7, none⟩ (.int .i64 X)) ∧ (wq.setCell ⟨w1.heap.size, 7, none⟩ (.int .i64 X)).heap[w.heap.size]? = some (Obj.cells #[.int .u64 (x : Nat), .int .u64 (y : Nat)] 27) ∧ (wq.setCell ⟨w1.heap.size, 7, none⟩ (.int .i64 X)).heap[w.heap.size + 1]? = some (Obj.cells (pt 0 0 0 0) 75) ∧ (wq.setCell ⟨w1.heap.size, 7, none⟩ (.int .i64 X)).heap[w4.heap.size]? = some (Obj.cells (cw 6 t) 42) ∧ (wq.setCell ⟨w1.heap.size, 7, none⟩ (.int .i64 X)).heap[w8.heap.size]? = some (Obj.cells (cw 6 P) 42) ∧ (wq.setCell ⟨w1.heap.size, 7, none⟩ (.int .i64 X)).cell? ⟨w.heap.size, 0, none⟩ = some (.int .u64 (x : Nat)) ∧ (wq.setCell ⟨w1.heap.size, 7, none⟩ (.int .i64 X)).cell? ⟨w.heap.size, 1, none⟩ = some (.int .u64 (y : Nat)) := sT2.out _ _ s1
    have Rp_12 : (wq.setCell ⟨w1.heap.size, 7, none⟩ (.int .i64 X)).heap[w1.heap.size]? = some (Obj.cells (pt c S X 0) 75) := by rw [setCell_row rp]; rfl
    have B12 := And.left s2
    have Rb_12 := s2.2.1
    have Rz_12 := s2.2.2.1
    have Rfr_12 := s2.2.2.2.1
    have Run_12 := s2.2.2.2.2.1
    obtain ⟨w12, hw12⟩ : ∃ V, (wq.setCell ⟨w1.heap.size, 7, none⟩ (.int .i64 X)) = V := ⟨_, rfl⟩
    rw [hw12] at B12 Rb_12 Rz_12 Rp_12 Rfr_12 Run_12
    try rw [hw12]
    clear s0 s1 s2 sS sT1 sT2 rp q7 d7 hw12 B11 Rb_11 cb_11_0 cb_11_1 Rz_11 cz_11_0 cz_11_1 cz_11_2 cz_11_3 cz_11_4 cz_11_5 cz_11_6 cz_11_7 cz_11_8 cz_11_9 cz_11_10 cz_11_11 cz_11_12 cz_11_13 Rp_11 cp_11_0 cp_11_1 cp_11_2 cp_11_3 cp_11_4 cp_11_5 cp_11_6 cp_11_7 cp_11_8 cp_11_9 cp_11_10 cp_11_11 cp_11_12 cp_11_13 Rfr_11 cfr_11_0 Run_11 cun_11_0
    obtain ⟨cb_12_0, cb_12_1⟩ := cell7t Rb_12
    obtain ⟨cz_12_0, cz_12_1, cz_12_2, cz_12_3, cz_12_4, cz_12_5, cz_12_6, cz_12_7, cz_12_8, cz_12_9, cz_12_10, cz_12_11, cz_12_12, cz_12_13⟩ := pt_cells Rz_12
    obtain ⟨cp_12_0, cp_12_1, cp_12_2, cp_12_3, cp_12_4, cp_12_5, cp_12_6, cp_12_7, cp_12_8, cp_12_9, cp_12_10, cp_12_11, cp_12_12, cp_12_13⟩ := pt_cells Rp_12
    have cfr_12_0 := row_cell Rfr_12
    have cun_12_0 := row_cell Run_12
    have hstz := st_p w12 (w.heap.size + 1) c S X 0 0 0 0 0 Rz_12
    have RZ := setRow_row (c' := pt c S X 0) Rz_12
    obtain ⟨dz0, dz1, dz2, dz3, dz4, dz5, dz6, dz7, dz8, dz9, dz10, dz11, dz12, dz13⟩ := pt_cells RZ
    have bz := bel_set (c := pt c S X 0) B12 (show w.heap.size ≤ w.heap.size + 1 by first | exact Nat.le_refl _ | omega | (have := S2.out; have := Lb_2.out; have := Lz_2.out; have := S5.out; have := Lb_5.out; have := Lz_5.out; have := Lp_5.out; have := S9.out; have := Lb_9.out; have := Lz_9.out; have := Lp_9.out; have := Lfr_9.out; omega))
    go_wp2
    exact bodyPost_ret (v := .agg (pt c S X 0)) (by simp [results, Tryd.results59, go_sem, dz0, dz1, dz2, dz3, dz4, dz5, dz6, dz7, dz8, dz9, dz10, dz11, dz12, dz13, ptf] <;> rfl) rfl ⟨rfl, bz⟩
  · have f8 : ((c : Int) == 8) = false := by rw [hc]; rfl
    have f9 : ((c : Int) == 9) = false := by rw [hc]; rfl
    have f2 : ((c : Int) == 2) = false := by rw [hc]; rfl
    have f5 : ((c : Int) == 5) = false := by rw [hc]; rfl
    have f1 : ((c : Int) == 1) = false := by rw [hc]; rfl
    have f6 : ((c : Int) == 6) = true := by rw [hc]; rfl
    clear hc
    obtain ⟨Rb_0, Rz_0, B0⟩ := kopn2 w (Obj.cells #[.int .u64 (x : Nat), .int .u64 (y : Nat)] 27) (Obj.cells (pt 0 0 0 0) 75)
    go_enter Tryd.func59, Tryd.ntmps59
    go_wp2_with fail
    refine (KC.out _ (fatB TT.out B0)).mono ?_
    rintro r w1 ⟨rfl, b1⟩
    have B1 : Below w.heap.size w w1 := btr7 B0 b1
    have Rb_1 := heap_of b1 _ _ _ Rb_0
    have Rz_1 := heap_of b1 _ _ _ Rz_0
    clear b1 B0 Rb_0 Rz_0
    obtain ⟨cb_1_0, cb_1_1⟩ := cell7t Rb_1
    obtain ⟨cz_1_0, cz_1_1, cz_1_2, cz_1_3, cz_1_4, cz_1_5, cz_1_6, cz_1_7, cz_1_8, cz_1_9, cz_1_10, cz_1_11, cz_1_12, cz_1_13⟩ := pt_cells Rz_1
    have S2 := box B1.size
    have Lb_2 : Box (w.heap.size < w1.heap.size) := box (Array.getElem?_eq_some_iff.1 Rb_1).1
    have Lz_2 : Box (w.heap.size + 1 < w1.heap.size) := box (Array.getElem?_eq_some_iff.1 Rz_1).1
    have Rp_2 := heap_alloc_last w1 (Obj.cells (pt c 0 0 0) 75)
    have B2 := btr7 B1 (bal7 w1 (Obj.cells (pt c 0 0 0) 75))
    have Rb_2 := heap_of (bal7 w1 (Obj.cells (pt c 0 0 0) 75)) _ _ _ Rb_1
    have Rz_2 := heap_of (bal7 w1 (Obj.cells (pt c 0 0 0) 75)) _ _ _ Rz_1
    clear B1 Rb_1 cb_1_0 cb_1_1 Rz_1 cz_1_0 cz_1_1 cz_1_2 cz_1_3 cz_1_4 cz_1_5 cz_1_6 cz_1_7 cz_1_8 cz_1_9 cz_1_10 cz_1_11 cz_1_12 cz_1_13
    obtain ⟨cb_2_0, cb_2_1⟩ := cell7t Rb_2
    obtain ⟨cz_2_0, cz_2_1, cz_2_2, cz_2_3, cz_2_4, cz_2_5, cz_2_6, cz_2_7, cz_2_8, cz_2_9, cz_2_10, cz_2_11, cz_2_12, cz_2_13⟩ := pt_cells Rz_2
    obtain ⟨cp_2_0, cp_2_1, cp_2_2, cp_2_3, cp_2_4, cp_2_5, cp_2_6, cp_2_7, cp_2_8, cp_2_9, cp_2_10, cp_2_11, cp_2_12, cp_2_13⟩ := pt_cells Rp_2
    go_wp2_with fail
    refine (KF.out _ (fatB TT.out B2)).mono ?_
    rintro r w3 ⟨rfl, b3⟩
    have B3 : Below w.heap.size w w3 := btr7 B2 b3
    have Rb_3 := heap_of b3 _ _ _ Rb_2
    have Rz_3 := heap_of b3 _ _ _ Rz_2
    have Rp_3 := heap_of b3 _ _ _ Rp_2
    clear b3 B2 Rb_2 cb_2_0 cb_2_1 Rz_2 cz_2_0 cz_2_1 cz_2_2 cz_2_3 cz_2_4 cz_2_5 cz_2_6 cz_2_7 cz_2_8 cz_2_9 cz_2_10 cz_2_11 cz_2_12 cz_2_13 Rp_2 cp_2_0 cp_2_1 cp_2_2 cp_2_3 cp_2_4 cp_2_5 cp_2_6 cp_2_7 cp_2_8 cp_2_9 cp_2_10 cp_2_11 cp_2_12 cp_2_13
    obtain ⟨cb_3_0, cb_3_1⟩ := cell7t Rb_3
    obtain ⟨cz_3_0, cz_3_1, cz_3_2, cz_3_3, cz_3_4, cz_3_5, cz_3_6, cz_3_7, cz_3_8, cz_3_9, cz_3_10, cz_3_11, cz_3_12, cz_3_13⟩ := pt_cells Rz_3
    obtain ⟨cp_3_0, cp_3_1, cp_3_2, cp_3_3, cp_3_4, cp_3_5, cp_3_6, cp_3_7, cp_3_8, cp_3_9, cp_3_10, cp_3_11, cp_3_12, cp_3_13⟩ := pt_cells Rp_3
    go_wp2_with fail
    refine (KO.out _).mono ?_
    rintro r w4 ⟨rfl, b4⟩
    have B4 : Below w.heap.size w w4 := btr7 B3 b4
    have Rb_4 := heap_of b4 _ _ _ Rb_3
    have Rz_4 := heap_of b4 _ _ _ Rz_3
    have Rp_4 := heap_of b4 _ _ _ Rp_3
    clear b4 B3 Rb_3 cb_3_0 cb_3_1 Rz_3 cz_3_0 cz_3_1 cz_3_2 cz_3_3 cz_3_4 cz_3_5 cz_3_6 cz_3_7 cz_3_8 cz_3_9 cz_3_10 cz_3_11 cz_3_12 cz_3_13 Rp_3 cp_3_0 cp_3_1 cp_3_2 cp_3_3 cp_3_4 cp_3_5 cp_3_6 cp_3_7 cp_3_8 cp_3_9 cp_3_10 cp_3_11 cp_3_12 cp_3_13
    obtain ⟨cb_4_0, cb_4_1⟩ := cell7t Rb_4
    obtain ⟨cz_4_0, cz_4_1, cz_4_2, cz_4_3, cz_4_4, cz_4_5, cz_4_6, cz_4_7, cz_4_8, cz_4_9, cz_4_10, cz_4_11, cz_4_12, cz_4_13⟩ := pt_cells Rz_4
    obtain ⟨cp_4_0, cp_4_1, cp_4_2, cp_4_3, cp_4_4, cp_4_5, cp_4_6, cp_4_7, cp_4_8, cp_4_9, cp_4_10, cp_4_11, cp_4_12, cp_4_13⟩ := pt_cells Rp_4
    have S5 := box B4.size
    have Lb_5 : Box (w.heap.size < w4.heap.size) := box (Array.getElem?_eq_some_iff.1 Rb_4).1
    have Lz_5 : Box (w.heap.size + 1 < w4.heap.size) := box (Array.getElem?_eq_some_iff.1 Rz_4).1
    have Lp_5 : Box (w1.heap.size < w4.heap.size) := box (Array.getElem?_eq_some_iff.1 Rp_4).1
    have Rfr_5 := heap_alloc_last w4 (Obj.cells (cw 6 t) 42)
    have B5 := btr7 B4 (bal7 w4 (Obj.cells (cw 6 t) 42))
    have Rb_5 := heap_of (bal7 w4 (Obj.cells (cw 6 t) 42)) _ _ _ Rb_4
    have Rz_5 := heap_of (bal7 w4 (Obj.cells (cw 6 t) 42)) _ _ _ Rz_4
    have Rp_5 := heap_of (bal7 w4 (Obj.cells (cw 6 t) 42)) _ _ _ Rp_4
    clear B4 Rb_4 cb_4_0 cb_4_1 Rz_4 cz_4_0 cz_4_1 cz_4_2 cz_4_3 cz_4_4 cz_4_5 cz_4_6 cz_4_7 cz_4_8 cz_4_9 cz_4_10 cz_4_11 cz_4_12 cz_4_13 Rp_4 cp_4_0 cp_4_1 cp_4_2 cp_4_3 cp_4_4 cp_4_5 cp_4_6 cp_4_7 cp_4_8 cp_4_9 cp_4_10 cp_4_11 cp_4_12 cp_4_13
    obtain ⟨cb_5_0, cb_5_1⟩ := cell7t Rb_5
    obtain ⟨cz_5_0, cz_5_1, cz_5_2, cz_5_3, cz_5_4, cz_5_5, cz_5_6, cz_5_7, cz_5_8, cz_5_9, cz_5_10, cz_5_11, cz_5_12, cz_5_13⟩ := pt_cells Rz_5
    obtain ⟨cp_5_0, cp_5_1, cp_5_2, cp_5_3, cp_5_4, cp_5_5, cp_5_6, cp_5_7, cp_5_8, cp_5_9, cp_5_10, cp_5_11, cp_5_12, cp_5_13⟩ := pt_cells Rp_5
    have cfr_5_0 := row_cell Rfr_5
    go_wp2_with fail
    refine (K1.out _).mono ?_
    rintro r w6 ⟨rfl, b6⟩
    have B6 : Below w.heap.size w w6 := btr7 B5 b6
    have Rb_6 := heap_of b6 _ _ _ Rb_5
    have Rz_6 := heap_of b6 _ _ _ Rz_5
    have Rp_6 := heap_of b6 _ _ _ Rp_5
    have Rfr_6 := heap_of b6 _ _ _ Rfr_5
    clear b6 B5 Rb_5 cb_5_0 cb_5_1 Rz_5 cz_5_0 cz_5_1 cz_5_2 cz_5_3 cz_5_4 cz_5_5 cz_5_6 cz_5_7 cz_5_8 cz_5_9 cz_5_10 cz_5_11 cz_5_12 cz_5_13 Rp_5 cp_5_0 cp_5_1 cp_5_2 cp_5_3 cp_5_4 cp_5_5 cp_5_6 cp_5_7 cp_5_8 cp_5_9 cp_5_10 cp_5_11 cp_5_12 cp_5_13 Rfr_5 cfr_5_0
    obtain ⟨cb_6_0, cb_6_1⟩ := cell7t Rb_6
    obtain ⟨cz_6_0, cz_6_1, cz_6_2, cz_6_3, cz_6_4, cz_6_5, cz_6_6, cz_6_7, cz_6_8, cz_6_9, cz_6_10, cz_6_11, cz_6_12, cz_6_13⟩ := pt_cells Rz_6
    obtain ⟨cp_6_0, cp_6_1, cp_6_2, cp_6_3, cp_6_4, cp_6_5, cp_6_6, cp_6_7, cp_6_8, cp_6_9, cp_6_10, cp_6_11, cp_6_12, cp_6_13⟩ := pt_cells Rp_6
    have cfr_6_0 := row_cell Rfr_6
    go_wp2_with fail
    refine (KP.out _ (fatB TT.out B6)).mono ?_
    rintro r w7 ⟨rfl, b7⟩
    have B7 : Below w.heap.size w w7 := btr7 B6 b7
    have Rb_7 := heap_of b7 _ _ _ Rb_6
    have Rz_7 := heap_of b7 _ _ _ Rz_6
    have Rp_7 := heap_of b7 _ _ _ Rp_6
    have Rfr_7 := heap_of b7 _ _ _ Rfr_6
    clear b7 B6 Rb_6 cb_6_0 cb_6_1 Rz_6 cz_6_0 cz_6_1 cz_6_2 cz_6_3 cz_6_4 cz_6_5 cz_6_6 cz_6_7 cz_6_8 cz_6_9 cz_6_10 cz_6_11 cz_6_12 cz_6_13 Rp_6 cp_6_0 cp_6_1 cp_6_2 cp_6_3 cp_6_4 cp_6_5 cp_6_6 cp_6_7 cp_6_8 cp_6_9 cp_6_10 cp_6_11 cp_6_12 cp_6_13 Rfr_6 cfr_6_0
    obtain ⟨cb_7_0, cb_7_1⟩ := cell7t Rb_7
    obtain ⟨cz_7_0, cz_7_1, cz_7_2, cz_7_3, cz_7_4, cz_7_5, cz_7_6, cz_7_7, cz_7_8, cz_7_9, cz_7_10, cz_7_11, cz_7_12, cz_7_13⟩ := pt_cells Rz_7
    obtain ⟨cp_7_0, cp_7_1, cp_7_2, cp_7_3, cp_7_4, cp_7_5, cp_7_6, cp_7_7, cp_7_8, cp_7_9, cp_7_10, cp_7_11, cp_7_12, cp_7_13⟩ := pt_cells Rp_7
    have cfr_7_0 := row_cell Rfr_7
    go_wp2_with fail
    refine (KW.out _).mono ?_
    rintro r w8 ⟨rfl, b8⟩
    have B8 : Below w.heap.size w w8 := btr7 B7 b8
    have Rb_8 := heap_of b8 _ _ _ Rb_7
    have Rz_8 := heap_of b8 _ _ _ Rz_7
    have Rp_8 := heap_of b8 _ _ _ Rp_7
    have Rfr_8 := heap_of b8 _ _ _ Rfr_7
    clear b8 B7 Rb_7 cb_7_0 cb_7_1 Rz_7 cz_7_0 cz_7_1 cz_7_2 cz_7_3 cz_7_4 cz_7_5 cz_7_6 cz_7_7 cz_7_8 cz_7_9 cz_7_10 cz_7_11 cz_7_12 cz_7_13 Rp_7 cp_7_0 cp_7_1 cp_7_2 cp_7_3 cp_7_4 cp_7_5 cp_7_6 cp_7_7 cp_7_8 cp_7_9 cp_7_10 cp_7_11 cp_7_12 cp_7_13 Rfr_7 cfr_7_0
    obtain ⟨cb_8_0, cb_8_1⟩ := cell7t Rb_8
    obtain ⟨cz_8_0, cz_8_1, cz_8_2, cz_8_3, cz_8_4, cz_8_5, cz_8_6, cz_8_7, cz_8_8, cz_8_9, cz_8_10, cz_8_11, cz_8_12, cz_8_13⟩ := pt_cells Rz_8
    obtain ⟨cp_8_0, cp_8_1, cp_8_2, cp_8_3, cp_8_4, cp_8_5, cp_8_6, cp_8_7, cp_8_8, cp_8_9, cp_8_10, cp_8_11, cp_8_12, cp_8_13⟩ := pt_cells Rp_8
    have cfr_8_0 := row_cell Rfr_8
    have S9 := box B8.size
    have Lb_9 : Box (w.heap.size < w8.heap.size) := box (Array.getElem?_eq_some_iff.1 Rb_8).1
    have Lz_9 : Box (w.heap.size + 1 < w8.heap.size) := box (Array.getElem?_eq_some_iff.1 Rz_8).1
    have Lp_9 : Box (w1.heap.size < w8.heap.size) := box (Array.getElem?_eq_some_iff.1 Rp_8).1
    have Lfr_9 : Box (w4.heap.size < w8.heap.size) := box (Array.getElem?_eq_some_iff.1 Rfr_8).1
    have Run_9 := heap_alloc_last w8 (Obj.cells (cw 6 P) 42)
    have B9 := btr7 B8 (bal7 w8 (Obj.cells (cw 6 P) 42))
    have Rb_9 := heap_of (bal7 w8 (Obj.cells (cw 6 P) 42)) _ _ _ Rb_8
    have Rz_9 := heap_of (bal7 w8 (Obj.cells (cw 6 P) 42)) _ _ _ Rz_8
    have Rp_9 := heap_of (bal7 w8 (Obj.cells (cw 6 P) 42)) _ _ _ Rp_8
    have Rfr_9 := heap_of (bal7 w8 (Obj.cells (cw 6 P) 42)) _ _ _ Rfr_8
    clear B8 Rb_8 cb_8_0 cb_8_1 Rz_8 cz_8_0 cz_8_1 cz_8_2 cz_8_3 cz_8_4 cz_8_5 cz_8_6 cz_8_7 cz_8_8 cz_8_9 cz_8_10 cz_8_11 cz_8_12 cz_8_13 Rp_8 cp_8_0 cp_8_1 cp_8_2 cp_8_3 cp_8_4 cp_8_5 cp_8_6 cp_8_7 cp_8_8 cp_8_9 cp_8_10 cp_8_11 cp_8_12 cp_8_13 Rfr_8 cfr_8_0
    obtain ⟨cb_9_0, cb_9_1⟩ := cell7t Rb_9
    obtain ⟨cz_9_0, cz_9_1, cz_9_2, cz_9_3, cz_9_4, cz_9_5, cz_9_6, cz_9_7, cz_9_8, cz_9_9, cz_9_10, cz_9_11, cz_9_12, cz_9_13⟩ := pt_cells Rz_9
    obtain ⟨cp_9_0, cp_9_1, cp_9_2, cp_9_3, cp_9_4, cp_9_5, cp_9_6, cp_9_7, cp_9_8, cp_9_9, cp_9_10, cp_9_11, cp_9_12, cp_9_13⟩ := pt_cells Rp_9
    have cfr_9_0 := row_cell Rfr_9
    have cun_9_0 := row_cell Run_9
    go_wp2_with fail
    refine (KR.out _).mono ?_
    rintro r w10 ⟨rfl, b10⟩
    have B10 : Below w.heap.size w w10 := btr7 B9 b10
    have Rb_10 := heap_of b10 _ _ _ Rb_9
    have Rz_10 := heap_of b10 _ _ _ Rz_9
    have Rp_10 := heap_of b10 _ _ _ Rp_9
    have Rfr_10 := heap_of b10 _ _ _ Rfr_9
    have Run_10 := heap_of b10 _ _ _ Run_9
    clear b10 B9 Rb_9 cb_9_0 cb_9_1 Rz_9 cz_9_0 cz_9_1 cz_9_2 cz_9_3 cz_9_4 cz_9_5 cz_9_6 cz_9_7 cz_9_8 cz_9_9 cz_9_10 cz_9_11 cz_9_12 cz_9_13 Rp_9 cp_9_0 cp_9_1 cp_9_2 cp_9_3 cp_9_4 cp_9_5 cp_9_6 cp_9_7 cp_9_8 cp_9_9 cp_9_10 cp_9_11 cp_9_12 cp_9_13 Rfr_9 cfr_9_0 Run_9 cun_9_0
    obtain ⟨cb_10_0, cb_10_1⟩ := cell7t Rb_10
    obtain ⟨cz_10_0, cz_10_1, cz_10_2, cz_10_3, cz_10_4, cz_10_5, cz_10_6, cz_10_7, cz_10_8, cz_10_9, cz_10_10, cz_10_11, cz_10_12, cz_10_13⟩ := pt_cells Rz_10
    obtain ⟨cp_10_0, cp_10_1, cp_10_2, cp_10_3, cp_10_4, cp_10_5, cp_10_6, cp_10_7, cp_10_8, cp_10_9, cp_10_10, cp_10_11, cp_10_12, cp_10_13⟩ := pt_cells Rp_10
    have cfr_10_0 := row_cell Rfr_10
    have cun_10_0 := row_cell Run_10
    have hst11 := st_p1 w10 (w1.heap.size) c 0 0 0 S Rp_10
    have B11 := bel_set (c := (pt c S 0 0)) B10 (show w.heap.size ≤ w1.heap.size by first | exact Nat.le_refl _ | omega | (have := S2.out; have := Lb_2.out; have := Lz_2.out; have := S5.out; have := Lb_5.out; have := Lz_5.out; have := Lp_5.out; have := S9.out; have := Lb_9.out; have := Lz_9.out; have := Lp_9.out; have := Lfr_9.out; omega))
    have Rp_11 := setRow_row (c' := (pt c S 0 0)) Rp_10
    have Rb_11 : (w10.setRow (w1.heap.size) (pt c S 0 0)).heap[w.heap.size]? = some (Obj.cells #[.int .u64 (x : Nat), .int .u64 (y : Nat)] 27) := by rw [setRow_other (by first | omega | (have := S2.out; have := Lb_2.out; have := Lz_2.out; have := S5.out; have := Lb_5.out; have := Lz_5.out; have := Lp_5.out; have := S9.out; have := Lb_9.out; have := Lz_9.out; have := Lp_9.out; have := Lfr_9.out; omega))]; exact Rb_10
    have Rz_11 : (w10.setRow (w1.heap.size) (pt c S 0 0)).heap[w.heap.size + 1]? = some (Obj.cells (pt 0 0 0 0) 75) := by rw [setRow_other (by first | omega | (have := S2.out; have := Lb_2.out; have := Lz_2.out; have := S5.out; have := Lb_5.out; have := Lz_5.out; have := Lp_5.out; have := S9.out; have := Lb_9.out; have := Lz_9.out; have := Lp_9.out; have := Lfr_9.out; omega))]; exact Rz_10
    have Rfr_11 : (w10.setRow (w1.heap.size) (pt c S 0 0)).heap[w4.heap.size]? = some (Obj.cells (cw 6 t) 42) := by rw [setRow_other (by first | omega | (have := S2.out; have := Lb_2.out; have := Lz_2.out; have := S5.out; have := Lb_5.out; have := Lz_5.out; have := Lp_5.out; have := S9.out; have := Lb_9.out; have := Lz_9.out; have := Lp_9.out; have := Lfr_9.out; omega))]; exact Rfr_10
    have Run_11 : (w10.setRow (w1.heap.size) (pt c S 0 0)).heap[w8.heap.size]? = some (Obj.cells (cw 6 P) 42) := by rw [setRow_other (by first | omega | (have := S2.out; have := Lb_2.out; have := Lz_2.out; have := S5.out; have := Lb_5.out; have := Lz_5.out; have := Lp_5.out; have := S9.out; have := Lb_9.out; have := Lz_9.out; have := Lp_9.out; have := Lfr_9.out; omega))]; exact Run_10
    obtain ⟨w11, hw11⟩ : ∃ V, w10.setRow (w1.heap.size) (pt c S 0 0) = V := ⟨_, rfl⟩
    rw [hw11] at hst11 B11 Rb_11 Rz_11 Rp_11 Rfr_11 Run_11
    obtain ⟨cb_11_0, cb_11_1⟩ := cell7t Rb_11
    obtain ⟨cz_11_0, cz_11_1, cz_11_2, cz_11_3, cz_11_4, cz_11_5, cz_11_6, cz_11_7, cz_11_8, cz_11_9, cz_11_10, cz_11_11, cz_11_12, cz_11_13⟩ := pt_cells Rz_11
    obtain ⟨cp_11_0, cp_11_1, cp_11_2, cp_11_3, cp_11_4, cp_11_5, cp_11_6, cp_11_7, cp_11_8, cp_11_9, cp_11_10, cp_11_11, cp_11_12, cp_11_13⟩ := pt_cells Rp_11
    have cfr_11_0 := row_cell Rfr_11
    have cun_11_0 := row_cell Run_11
    have sS : Box (∀ W W1 : World, (Below w.heap.size w W ∧ W.heap[w.heap.size]? = some (Obj.cells #[.int .u64 (x : Nat), .int .u64 (y : Nat)] 27) ∧ W.heap[w.heap.size + 1]? = some (Obj.cells (pt 0 0 0 0) 75) ∧ W.heap[w4.heap.size]? = some (Obj.cells (cw 6 t) 42) ∧ W.heap[w8.heap.size]? = some (Obj.cells (cw 6 P) 42) ∧ W.cell? ⟨w.heap.size, 0, none⟩ = some (.int .u64 (x : Nat)) ∧ W.cell? ⟨w.heap.size, 1, none⟩ = some (.int .u64 (y : Nat))) → Below W.heap.size W W1 → (Below w.heap.size w W1 ∧ W1.heap[w.heap.size]? = some (Obj.cells #[.int .u64 (x : Nat), .int .u64 (y : Nat)] 27) ∧ W1.heap[w.heap.size + 1]? = some (Obj.cells (pt 0 0 0 0) 75) ∧ W1.heap[w4.heap.size]? = some (Obj.cells (cw 6 t) 42) ∧ W1.heap[w8.heap.size]? = some (Obj.cells (cw 6 P) 42) ∧ W1.cell? ⟨w.heap.size, 0, none⟩ = some (.int .u64 (x : Nat)) ∧ W1.cell? ⟨w.heap.size, 1, none⟩ = some (.int .u64 (y : Nat)))) := box (fun W W1 h b => ⟨btr7 h.1 b, heap_of b _ _ _ h.2.1, heap_of b _ _ _ h.2.2.1, heap_of b _ _ _ h.2.2.2.1, heap_of b _ _ _ h.2.2.2.2.1, cell7 (heap_of b _ _ _ h.2.1) 0 _ rfl, cell7 (heap_of b _ _ _ h.2.1) 1 _ rfl⟩)
    have sT1 : Box (∀ (W : World) (xA : Array Value), (Below w.heap.size w W ∧ W.heap[w.heap.size]? = some (Obj.cells #[.int .u64 (x : Nat), .int .u64 (y : Nat)] 27) ∧ W.heap[w.heap.size + 1]? = some (Obj.cells (pt 0 0 0 0) 75) ∧ W.heap[w4.heap.size]? = some (Obj.cells (cw 6 t) 42) ∧ W.heap[w8.heap.size]? = some (Obj.cells (cw 6 P) 42) ∧ W.cell? ⟨w.heap.size, 0, none⟩ = some (.int .u64 (x : Nat)) ∧ W.cell? ⟨w.heap.size, 1, none⟩ = some (.int .u64 (y : Nat))) → (Below w.heap.size w (W.setRow (w1.heap.size) xA) ∧ (W.setRow (w1.heap.size) xA).heap[w.heap.size]? = some (Obj.cells #[.int .u64 (x : Nat), .int .u64 (y : Nat)] 27) ∧ (W.setRow (w1.heap.size) xA).heap[w.heap.size + 1]? = some (Obj.cells (pt 0 0 0 0) 75) ∧ (W.setRow (w1.heap.size) xA).heap[w4.heap.size]? = some (Obj.cells (cw 6 t) 42) ∧ (W.setRow (w1.heap.size) xA).heap[w8.heap.size]? = some (Obj.cells (cw 6 P) 42) ∧ (W.setRow (w1.heap.size) xA).cell? ⟨w.heap.size, 0, none⟩ = some (.int .u64 (x : Nat)) ∧ (W.setRow (w1.heap.size) xA).cell? ⟨w.heap.size, 1, none⟩ = some (.int .u64 (y : Nat)))) := box (fun W xA h => ⟨bel_set h.1 (show w.heap.size ≤ w1.heap.size by first | exact Nat.le_refl _ | omega | (have := S2.out; have := Lb_2.out; have := Lz_2.out; have := S5.out; have := Lb_5.out; have := Lz_5.out; have := Lp_5.out; have := S9.out; have := Lb_9.out; have := Lz_9.out; have := Lp_9.out; have := Lfr_9.out; omega)), (setRow_other (by first | omega | (have := S2.out; have := Lb_2.out; have := Lz_2.out; have := S5.out; have := Lb_5.out; have := Lz_5.out; have := Lp_5.out; have := S9.out; have := Lb_9.out; have := Lz_9.out; have := Lp_9.out; have := Lfr_9.out; omega))).trans h.2.1, (setRow_other (by first | omega | (have := S2.out; have := Lb_2.out; have := Lz_2.out; have := S5.out; have := Lb_5.out; have := Lz_5.out; have := Lp_5.out; have := S9.out; have := Lb_9.out; have := Lz_9.out; have := Lp_9.out; have := Lfr_9.out; omega))).trans h.2.2.1, (setRow_other (by first | omega | (have := S2.out; have := Lb_2.out; have := Lz_2.out; have := S5.out; have := Lb_5.out; have := Lz_5.out; have := Lp_5.out; have := S9.out; have := Lb_9.out; have := Lz_9.out; have := Lp_9.out; have := Lfr_9.out; omega))).trans h.2.2.2.1, (setRow_other (by first | omega | (have := S2.out; have := Lb_2.out; have := Lz_2.out; have := S5.out; have := Lb_5.out; have := Lz_5.out; have := Lp_5.out; have := S9.out; have := Lb_9.out; have := Lz_9.out; have := Lp_9.out; have := Lfr_9.out; omega))).trans h.2.2.2.2.1, cell7 ((setRow_other (by first | omega | (have := S2.out; have := Lb_2.out; have := Lz_2.out; have := S5.out; have := Lb_5.out; have := Lz_5.out; have := Lp_5.out; have := S9.out; have := Lb_9.out; have := Lz_9.out; have := Lp_9.out; have := Lfr_9.out; omega))).trans h.2.1) 0 _ rfl, cell7 ((setRow_other (by first | omega | (have := S2.out; have := Lb_2.out; have := Lz_2.out; have := S5.out; have := Lb_5.out; have := Lz_5.out; have := Lp_5.out; have := S9.out; have := Lb_9.out; have := Lz_9.out; have := Lp_9.out; have := Lfr_9.out; omega))).trans h.2.1) 1 _ rfl⟩)
    have sT2 : Box (∀ (W : World) (xB : Value), (Below w.heap.size w W ∧ W.heap[w.heap.size]? = some (Obj.cells #[.int .u64 (x : Nat), .int .u64 (y : Nat)] 27) ∧ W.heap[w.heap.size + 1]? = some (Obj.cells (pt 0 0 0 0) 75) ∧ W.heap[w4.heap.size]? = some (Obj.cells (cw 6 t) 42) ∧ W.heap[w8.heap.size]? = some (Obj.cells (cw 6 P) 42) ∧ W.cell? ⟨w.heap.size, 0, none⟩ = some (.int .u64 (x : Nat)) ∧ W.cell? ⟨w.heap.size, 1, none⟩ = some (.int .u64 (y : Nat))) → (Below w.heap.size w (W.setCell ⟨w1.heap.size, 7, none⟩ xB) ∧ (W.setCell ⟨w1.heap.size, 7, none⟩ xB).heap[w.heap.size]? = some (Obj.cells #[.int .u64 (x : Nat), .int .u64 (y : Nat)] 27) ∧ (W.setCell ⟨w1.heap.size, 7, none⟩ xB).heap[w.heap.size + 1]? = some (Obj.cells (pt 0 0 0 0) 75) ∧ (W.setCell ⟨w1.heap.size, 7, none⟩ xB).heap[w4.heap.size]? = some (Obj.cells (cw 6 t) 42) ∧ (W.setCell ⟨w1.heap.size, 7, none⟩ xB).heap[w8.heap.size]? = some (Obj.cells (cw 6 P) 42) ∧ (W.setCell ⟨w1.heap.size, 7, none⟩ xB).cell? ⟨w.heap.size, 0, none⟩ = some (.int .u64 (x : Nat)) ∧ (W.setCell ⟨w1.heap.size, 7, none⟩ xB).cell? ⟨w.heap.size, 1, none⟩ = some (.int .u64 (y : Nat)))) := box (fun W xB h => ⟨h.1.setCell (show w.heap.size ≤ w1.heap.size by first | exact Nat.le_refl _ | omega | (have := S2.out; have := Lb_2.out; have := Lz_2.out; have := S5.out; have := Lb_5.out; have := Lz_5.out; have := Lp_5.out; have := S9.out; have := Lb_9.out; have := Lz_9.out; have := Lp_9.out; have := Lfr_9.out; omega)) _, (setCell_other (by first | omega | (have := S2.out; have := Lb_2.out; have := Lz_2.out; have := S5.out; have := Lb_5.out; have := Lz_5.out; have := Lp_5.out; have := S9.out; have := Lb_9.out; have := Lz_9.out; have := Lp_9.out; have := Lfr_9.out; omega))).trans h.2.1, (setCell_other (by first | omega | (have := S2.out; have := Lb_2.out; have := Lz_2.out; have := S5.out; have := Lb_5.out; have := Lz_5.out; have := Lp_5.out; have := S9.out; have := Lb_9.out; have := Lz_9.out; have := Lp_9.out; have := Lfr_9.out; omega))).trans h.2.2.1, (setCell_other (by first | omega | (have := S2.out; have := Lb_2.out; have := Lz_2.out; have := S5.out; have := Lb_5.out; have := Lz_5.out; have := Lp_5.out; have := S9.out; have := Lb_9.out; have := Lz_9.out; have := Lp_9.out; have := Lfr_9.out; omega))).trans h.2.2.2.1, (setCell_other (by first | omega | (have := S2.out; have := Lb_2.out; have := Lz_2.out; have := S5.out; have := Lb_5.out; have := Lz_5.out; have := Lp_5.out; have := S9.out; have := Lb_9.out; have := Lz_9.out; have := Lp_9.out; have := Lfr_9.out; omega))).trans h.2.2.2.2.1, cell7 ((setCell_other (by first | omega | (have := S2.out; have := Lb_2.out; have := Lz_2.out; have := S5.out; have := Lb_5.out; have := Lz_5.out; have := Lp_5.out; have := S9.out; have := Lb_9.out; have := Lz_9.out; have := Lp_9.out; have := Lfr_9.out; omega))).trans h.2.1) 0 _ rfl, cell7 ((setCell_other (by first | omega | (have := S2.out; have := Lb_2.out; have := Lz_2.out; have := S5.out; have := Lb_5.out; have := Lz_5.out; have := Lp_5.out; have := S9.out; have := Lb_9.out; have := Lz_9.out; have := Lp_9.out; have := Lfr_9.out; omega))).trans h.2.1) 1 _ rfl⟩)
    have s0 : Below w.heap.size w (w11).drew ∧ (w11).drew.heap[w.heap.size]? = some (Obj.cells #[.int .u64 (x : Nat), .int .u64 (y : Nat)] 27) ∧ (w11).drew.heap[w.heap.size + 1]? = some (Obj.cells (pt 0 0 0 0) 75) ∧ (w11).drew.heap[w4.heap.size]? = some (Obj.cells (cw 6 t) 42) ∧ (w11).drew.heap[w8.heap.size]? = some (Obj.cells (cw 6 P) 42) ∧ (w11).drew.cell? ⟨w.heap.size, 0, none⟩ = some (.int .u64 (x : Nat)) ∧ (w11).drew.cell? ⟨w.heap.size, 1, none⟩ = some (.int .u64 (y : Nat)) := ⟨B11.drew, Rb_11, Rz_11, Rfr_11, Run_11, cell7 (Rb_11) 0 _ rfl, cell7 (Rb_11) 1 _ rfl⟩
    have rp : (w11).drew.heap[w1.heap.size]? = some (Obj.cells (pt c S 0 0) 75) := Rp_11
    go_wp2_with fail
    go_region_held3 (fun W => Below w.heap.size w W ∧ W.heap[w.heap.size]? = some (Obj.cells #[.int .u64 (x : Nat), .int .u64 (y : Nat)] 27) ∧ W.heap[w.heap.size + 1]? = some (Obj.cells (pt 0 0 0 0) 75) ∧ W.heap[w4.heap.size]? = some (Obj.cells (cw 6 t) 42) ∧ W.heap[w8.heap.size]? = some (Obj.cells (cw 6 P) 42) ∧ W.cell? ⟨w.heap.size, 0, none⟩ = some (.int .u64 (x : Nat)) ∧ W.cell? ⟨w.heap.size, 1, none⟩ = some (.int .u64 (y : Nat))) (first | exact s1 | exact s0 | exact sT1.out _ _ s1 | exact sT2.out _ _ (sT1.out _ _ s1) | exact sT2.out _ _ s1)
      (first | (go_at_call 81; (first | refine (KL.out _ (fatB TT.out (And.left s1))).mono ?_ | refine (KL.out _ (fatB TT.out (And.left s0))).mono ?_); rintro r wq ⟨rfl, bq⟩; have s1 := (by first | exact sS.out _ _ s1 bq | exact sS.out _ _ s0 bq); have rp := heap_of bq _ _ _ rp; have q7 := fz (k := 7) rp; have d7 := cell7 rp 7 _ rfl; clear bq) | (go_at_call 82; (first | refine (KE.out _ (fatB TT.out (And.left s1))).mono ?_ | refine (KE.out _ (fatB TT.out (And.left s0))).mono ?_); rintro r wq ⟨rfl, bq⟩; have s1 := (by first | exact sS.out _ _ s1 bq | exact sS.out _ _ s0 bq); have rp := heap_of bq _ _ _ rp; have q7 := fz (k := 7) rp; have d7 := cell7 rp 7 _ rfl; clear bq) | fail)
    have s2 : Below w.heap.size w (wq.setCell ⟨w1.heap.size, 7, none⟩ (.int .i64 X)) ∧ (wq.setCell ⟨w1.heap.size, 7, none⟩ (.int .i64 X)).heap[w.heap.size]? = some (Obj.cells #[.int .u64 (x : Nat), .int .u64 (y : Nat)] 27) ∧ (wq.setCell ⟨w1.heap.size, 7, none⟩ (.int .i64 X)).heap[w.heap.size + 1]? = some (Obj.cells (pt 0 0 0 0) 75) ∧ (wq.setCell ⟨w1.heap.size, 7, none⟩ (.int .i64 X)).heap[w4.heap.size]? = some (Obj.cells (cw 6 t) 42) ∧ (wq.setCell ⟨w1.heap.size, 7, none⟩ (.int .i64 X)).heap[w8.heap.size]? = some (Obj.cells (cw 6 P) 42) ∧ (wq.setCell ⟨w1.heap.size, 7, none⟩ (.int .i64 X)).cell? ⟨w.heap.size, 0, none⟩ = some (.int .u64 (x : Nat)) ∧ (wq.setCell ⟨w1.heap.size, 7, none⟩ (.int .i64 X)).cell? ⟨w.heap.size, 1, none⟩ = some (.int .u64 (y : Nat)) := sT2.out _ _ s1
    have Rp_12 : (wq.setCell ⟨w1.heap.size, 7, none⟩ (.int .i64 X)).heap[w1.heap.size]? = some (Obj.cells (pt c S X 0) 75) := by rw [setCell_row rp]; rfl
    have B12 := And.left s2
    have Rb_12 := s2.2.1
    have Rz_12 := s2.2.2.1
    have Rfr_12 := s2.2.2.2.1
    have Run_12 := s2.2.2.2.2.1
    obtain ⟨w12, hw12⟩ : ∃ V, (wq.setCell ⟨w1.heap.size, 7, none⟩ (.int .i64 X)) = V := ⟨_, rfl⟩
    rw [hw12] at B12 Rb_12 Rz_12 Rp_12 Rfr_12 Run_12
    try rw [hw12]
    clear s0 s1 s2 sS sT1 sT2 rp q7 d7 hw12 B11 Rb_11 cb_11_0 cb_11_1 Rz_11 cz_11_0 cz_11_1 cz_11_2 cz_11_3 cz_11_4 cz_11_5 cz_11_6 cz_11_7 cz_11_8 cz_11_9 cz_11_10 cz_11_11 cz_11_12 cz_11_13 Rp_11 cp_11_0 cp_11_1 cp_11_2 cp_11_3 cp_11_4 cp_11_5 cp_11_6 cp_11_7 cp_11_8 cp_11_9 cp_11_10 cp_11_11 cp_11_12 cp_11_13 Rfr_11 cfr_11_0 Run_11 cun_11_0
    obtain ⟨cb_12_0, cb_12_1⟩ := cell7t Rb_12
    obtain ⟨cz_12_0, cz_12_1, cz_12_2, cz_12_3, cz_12_4, cz_12_5, cz_12_6, cz_12_7, cz_12_8, cz_12_9, cz_12_10, cz_12_11, cz_12_12, cz_12_13⟩ := pt_cells Rz_12
    obtain ⟨cp_12_0, cp_12_1, cp_12_2, cp_12_3, cp_12_4, cp_12_5, cp_12_6, cp_12_7, cp_12_8, cp_12_9, cp_12_10, cp_12_11, cp_12_12, cp_12_13⟩ := pt_cells Rp_12
    have cfr_12_0 := row_cell Rfr_12
    have cun_12_0 := row_cell Run_12
    have hstz := st_p w12 (w.heap.size + 1) c S X 0 0 0 0 0 Rz_12
    have RZ := setRow_row (c' := pt c S X 0) Rz_12
    obtain ⟨dz0, dz1, dz2, dz3, dz4, dz5, dz6, dz7, dz8, dz9, dz10, dz11, dz12, dz13⟩ := pt_cells RZ
    have bz := bel_set (c := pt c S X 0) B12 (show w.heap.size ≤ w.heap.size + 1 by first | exact Nat.le_refl _ | omega | (have := S2.out; have := Lb_2.out; have := Lz_2.out; have := S5.out; have := Lb_5.out; have := Lz_5.out; have := Lp_5.out; have := S9.out; have := Lb_9.out; have := Lz_9.out; have := Lp_9.out; have := Lfr_9.out; omega))
    go_wp2
    exact bodyPost_ret (v := .agg (pt c S X 0)) (by simp [results, Tryd.results59, go_sem, dz0, dz1, dz2, dz3, dz4, dz5, dz6, dz7, dz8, dz9, dz10, dz11, dz12, dz13, ptf] <;> rfl) rfl ⟨rfl, bz⟩
end Go.Proofs.YtpdehipeakcaiaaDoor
