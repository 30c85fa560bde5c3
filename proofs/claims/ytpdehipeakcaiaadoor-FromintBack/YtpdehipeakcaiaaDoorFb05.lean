/-
  What the functions that the statement reaches return: part 5 (KB).
-/
import Derived.Laws.CopyRow
import Derived.Test.YtpdehipeakcaiaaDoorFb04
namespace Go.Proofs.YtpdehipeakcaiaaDoor
set_option maxRecDepth 100000
set_option maxHeartbeats 40000000
set_option maxRecDepth 100000
open Go.RowKit WMath
set_option linter.unusedSimpArgs false
set_option linter.unusedVariables false
def pt (c s : Nat) (x : Int) (r : Nat) : Array Value := #[.int .u8 (c : Nat), .int .u64 (wd s 0 : Nat), .int .u64 (wd s 1 : Nat), .int .u64 (wd s 2 : Nat), .int .u64 (wd s 3 : Nat), .int .u64 (wd s 4 : Nat), .int .u64 (wd s 5 : Nat), .int .i64 x, .int .u64 (wd r 0 : Nat), .int .u64 (wd r 1 : Nat), .int .u64 (wd r 2 : Nat), .int .u64 (wd r 3 : Nat), .int .u64 (wd r 4 : Nat), .int .u64 (wd r 5 : Nat)]
theorem ptf (c s : Nat) (x : Int) (r : Nat) : #[Value.int .u8 (c : Nat), .int .u64 (wd s 0 : Nat), .int .u64 (wd s 1 : Nat), .int .u64 (wd s 2 : Nat), .int .u64 (wd s 3 : Nat), .int .u64 (wd s 4 : Nat), .int .u64 (wd s 5 : Nat), .int .i64 x, .int .u64 (wd r 0 : Nat), .int .u64 (wd r 1 : Nat), .int .u64 (wd r 2 : Nat), .int .u64 (wd r 3 : Nat), .int .u64 (wd r 4 : Nat), .int .u64 (wd r 5 : Nat)] = pt c s x r := rfl
theorem ptc (c : Nat) : #[Value.int .u8 (c : Nat), .int .u64 0, .int .u64 0, .int .u64 0, .int .u64 0, .int .u64 0, .int .u64 0, .int .i64 0, .int .u64 0, .int .u64 0, .int .u64 0, .int .u64 0, .int .u64 0, .int .u64 0] = pt c 0 0 0 := by unfold pt; simp [wd_zero]
theorem ptz : #[Value.int .u8 0, .int .u64 0, .int .u64 0, .int .u64 0, .int .u64 0, .int .u64 0, .int .u64 0, .int .i64 0, .int .u64 0, .int .u64 0, .int .u64 0, .int .u64 0, .int .u64 0, .int .u64 0] = pt 0 0 0 0 := by unfold pt; simp [wd_zero]
theorem pt_set (c s : Nat) (x : Int) (r c' : Nat) : (pt c s x r).setIfInBounds 0 (.int .u8 (c' : Nat)) = pt c' s x r := rfl
theorem pt_setl (c s : Nat) (x : Int) (r c' : Nat) : (pt c s x r).toList.set 0 (.int .u8 (c' : Nat)) = (pt c' s x r).toList := rfl
theorem pt_size (c s : Nat) (x : Int) (r : Nat) : (pt c s x r).size = 14 := rfl
theorem cw_one (n : Nat) : ∀ v ∈ (cw 6 n).toList, v.oneCell' = true := fun v hv => (Array.all_eq_true_iff_forall_mem.1 (cw_oneCell 6 n)) v (by simpa using hv)
theorem pt_one (c s : Nat) (x : Int) (r : Nat) : ∀ v ∈ (pt c s x r).toList, v.oneCell' = true := by
  intro v hv
  simp only [pt, List.mem_cons, List.not_mem_nil, or_false] at hv
  rcases hv with rfl | rfl | rfl | rfl | rfl | rfl | rfl | rfl | rfl | rfl | rfl | rfl | rfl | rfl <;> rfl
theorem st_p (w : World) (b c s : Nat) (x : Int) (r c0 s0 : Nat) (x0 : Int) (r0 : Nat) (h : w.heap[b]? = some (.cells (pt c0 s0 x0 r0) 75)) :
    (storeCells ⟨b, 0, none⟩ (pt c s x r).toList 0).run Tryd.prog w = .ok () (w.setRow b (pt c s x r)) :=
  run_storeCells_at (P := Tryd.prog) b 0 75 (pt c s x r).toList 0 (pt c0 s0 x0 r0) w h (by simp only [Array.length_toList, pt_size]; omega) (pt_one c s x r)
theorem st_p0 (w : World) (b c s : Nat) (x : Int) (r c0 s0 : Nat) (x0 : Int) (r0 : Nat) (hb : b = w.heap.size) :
    (storeCells ⟨b, 0, none⟩ (pt c s x r).toList 0).run Tryd.prog (w.alloc (.cells (pt c0 s0 x0 r0) 75)) = .ok () (w.alloc (.cells (pt c s x r) 75)) := by
  subst hb
  rw [st_p _ _ c s x r c0 s0 x0 r0 (heap_alloc_last w _), World.setRow_alloc_new]
theorem st_p8 (w : World) (b c s : Nat) (x : Int) (r t : Nat) (h : w.heap[b]? = some (.cells (pt c s x r) 75)) :
    (storeCells ⟨b, 8, none⟩ (cw 6 t).toList 0).run Tryd.prog w = .ok () (w.setRow b (pt c s x t)) :=
  run_storeCells_at (P := Tryd.prog) b 8 75 (cw 6 t).toList 0 (pt c s x r) w h (by simp only [Array.length_toList, pt_size, cw_size]; omega) (cw_one t)
theorem st_p1 (w : World) (b c s : Nat) (x : Int) (r t : Nat) (h : w.heap[b]? = some (.cells (pt c s x r) 75)) :
    (storeCells ⟨b, 1, none⟩ (cw 6 t).toList 0).run Tryd.prog w = .ok () (w.setRow b (pt c t x r)) :=
  run_storeCells_at (P := Tryd.prog) b 1 75 (cw 6 t).toList 0 (pt c s x r) w h (by simp only [Array.length_toList, pt_size, cw_size]; omega) (cw_one t)
theorem pt_cells {w : World} {g : Nat} {T : TypeId} {c s : Nat} {x : Int} {r : Nat} (R : w.heap[g]? = some (.cells (pt c s x r) T)) : w.cell? ⟨g, 0, none⟩ = some (.int .u8 (c : Nat)) ∧ w.cell? ⟨g, 1, none⟩ = some (.int .u64 (wd s 0 : Nat)) ∧ w.cell? ⟨g, 2, none⟩ = some (.int .u64 (wd s 1 : Nat)) ∧ w.cell? ⟨g, 3, none⟩ = some (.int .u64 (wd s 2 : Nat)) ∧ w.cell? ⟨g, 4, none⟩ = some (.int .u64 (wd s 3 : Nat)) ∧ w.cell? ⟨g, 5, none⟩ = some (.int .u64 (wd s 4 : Nat)) ∧ w.cell? ⟨g, 6, none⟩ = some (.int .u64 (wd s 5 : Nat)) ∧ w.cell? ⟨g, 7, none⟩ = some (.int .i64 x) ∧ w.cell? ⟨g, 8, none⟩ = some (.int .u64 (wd r 0 : Nat)) ∧ w.cell? ⟨g, 9, none⟩ = some (.int .u64 (wd r 1 : Nat)) ∧ w.cell? ⟨g, 10, none⟩ = some (.int .u64 (wd r 2 : Nat)) ∧ w.cell? ⟨g, 11, none⟩ = some (.int .u64 (wd r 3 : Nat)) ∧ w.cell? ⟨g, 12, none⟩ = some (.int .u64 (wd r 4 : Nat)) ∧ w.cell? ⟨g, 13, none⟩ = some (.int .u64 (wd r 5 : Nat)) :=
  ⟨cell7 R 0 _ rfl, cell7 R 1 _ rfl, cell7 R 2 _ rfl, cell7 R 3 _ rfl, cell7 R 4 _ rfl, cell7 R 5 _ rfl, cell7 R 6 _ rfl, cell7 R 7 _ rfl, cell7 R 8 _ rfl, cell7 R 9 _ rfl, cell7 R 10 _ rfl, cell7 R 11 _ rfl, cell7 R 12 _ rfl, cell7 R 13 _ rfl⟩
theorem pt_at0 (c s : Nat) (x : Int) (r : Nat) (h : 0 < (pt c s x r).size) : (pt c s x r)[0]'h = .int .u8 (c : Nat) := rfl
theorem pt_at1 (c s : Nat) (x : Int) (r : Nat) (h : 1 < (pt c s x r).size) : (pt c s x r)[1]'h = .int .u64 (wd s 0 : Nat) := rfl
theorem pt_at2 (c s : Nat) (x : Int) (r : Nat) (h : 2 < (pt c s x r).size) : (pt c s x r)[2]'h = .int .u64 (wd s 1 : Nat) := rfl
theorem pt_at3 (c s : Nat) (x : Int) (r : Nat) (h : 3 < (pt c s x r).size) : (pt c s x r)[3]'h = .int .u64 (wd s 2 : Nat) := rfl
theorem pt_at4 (c s : Nat) (x : Int) (r : Nat) (h : 4 < (pt c s x r).size) : (pt c s x r)[4]'h = .int .u64 (wd s 3 : Nat) := rfl
theorem pt_at5 (c s : Nat) (x : Int) (r : Nat) (h : 5 < (pt c s x r).size) : (pt c s x r)[5]'h = .int .u64 (wd s 4 : Nat) := rfl
theorem pt_at6 (c s : Nat) (x : Int) (r : Nat) (h : 6 < (pt c s x r).size) : (pt c s x r)[6]'h = .int .u64 (wd s 5 : Nat) := rfl
theorem pt_at7 (c s : Nat) (x : Int) (r : Nat) (h : 7 < (pt c s x r).size) : (pt c s x r)[7]'h = .int .i64 x := rfl
theorem pt_at8 (c s : Nat) (x : Int) (r : Nat) (h : 8 < (pt c s x r).size) : (pt c s x r)[8]'h = .int .u64 (wd r 0 : Nat) := rfl
theorem pt_at9 (c s : Nat) (x : Int) (r : Nat) (h : 9 < (pt c s x r).size) : (pt c s x r)[9]'h = .int .u64 (wd r 1 : Nat) := rfl
theorem pt_at10 (c s : Nat) (x : Int) (r : Nat) (h : 10 < (pt c s x r).size) : (pt c s x r)[10]'h = .int .u64 (wd r 2 : Nat) := rfl
theorem pt_at11 (c s : Nat) (x : Int) (r : Nat) (h : 11 < (pt c s x r).size) : (pt c s x r)[11]'h = .int .u64 (wd r 3 : Nat) := rfl
theorem pt_at12 (c s : Nat) (x : Int) (r : Nat) (h : 12 < (pt c s x r).size) : (pt c s x r)[12]'h = .int .u64 (wd r 4 : Nat) := rfl
theorem pt_at13 (c s : Nat) (x : Int) (r : Nat) (h : 13 < (pt c s x r).size) : (pt c s x r)[13]'h = .int .u64 (wd r 5 : Nat) := rfl
set_option maxRecDepth 100000 in
set_option maxHeartbeats 2000000 in
theorem kparts_nan (f : Int) (x y c u v t : Nat) (w : World)
    (KC : Box (∀ w, FAt w → Calls Tryd.prog 72 #[.int .u8 f, .agg #[.int .u64 (x : Nat), .int .u64 (y : Nat)]] w fun r w' => r = .returned (.int .u8 (c : Nat)) ∧ Below w.heap.size w w'))
    (KF : Box (∀ w, FAt w → Calls Tryd.prog 80 #[.int .u8 f, .agg #[.int .u64 (x : Nat), .int .u64 (y : Nat)]] w fun r w' => r = .returned (.agg #[.int .u64 (u : Nat), .int .u64 (v : Nat)]) ∧ Below w.heap.size w w'))
    (KO : Box (∀ w, Calls Tryd.prog 57 #[.agg #[.int .u64 (u : Nat), .int .u64 (v : Nat)]] w fun r w' => r = .returned (.agg (cw 6 t)) ∧ Below w.heap.size w w'))
    (hc : c = 8 ∨ c = 9) (hT : FAt w) : Calls Tryd.prog 59 #[.int .u8 f, .agg #[.int .u64 (x : Nat), .int .u64 (y : Nat)]] w fun r w' => r = .returned (.agg (pt c 0 0 t)) ∧ Below w.heap.size w w' := by
  have hat := cw_at 6
  have hz := cw6z
  have hff := cw6f
  have hs0 := st0
  have hcs : ∀ x, ((cw 6 x).size = 6) = True := fun x => eq_true (cw_size 6 x)
  have hp1 := ptf
  have hp2 := ptc
  have hp3 := ptz
  have hp4 := st_p0
  have hp6 := pt_set
  have hp7 := pt_setl
  have hp5 : ∀ (c s : Nat) (x : Int) (r : Nat), ((pt c s x r).size = 14) = True := fun _ _ _ _ => eq_true rfl
  have ha0 := pt_at0
  have ha1 := pt_at1
  have ha2 := pt_at2
  have ha3 := pt_at3
  have ha4 := pt_at4
  have ha5 := pt_at5
  have ha6 := pt_at6
  have ha7 := pt_at7
  have ha8 := pt_at8
  have ha9 := pt_at9
  have ha10 := pt_at10
  have ha11 := pt_at11
  have ha12 := pt_at12
  have ha13 := pt_at13
  have TT := box hT
  clear hT
  rcases hc with hc | hc
  · have f8 : ((c : Int) == 8) = true := by rw [hc]; rfl
    clear hc
    obtain ⟨Rb_0, Rz_0, B0⟩ := kopn2 w (Obj.cells #[.int .u64 (x : Nat), .int .u64 (y : Nat)] 27) (Obj.cells (pt 0 0 0 0) 75)
    go_enter Tryd.func59, Tryd.ntmps59
    go_wp2_with fail
    refine (KC.out _ (fatB TT.out B0)).mono ?_
    rintro r w1 ⟨rfl, b1⟩
    have B1 : Below w.heap.size w w1 := btr7 B0 b1
    have Rb_1 := heap_of b1 _ _ _ Rb_0
    have Rz_1 := heap_of b1 _ _ _ Rz_0
    clear b1 B0 Rb_0 Rz_0
    obtain ⟨cb_1_0, cb_1_1⟩ := cell7t Rb_1
    obtain ⟨cz_1_0, cz_1_1, cz_1_2, cz_1_3, cz_1_4, cz_1_5, cz_1_6, cz_1_7, cz_1_8, cz_1_9, cz_1_10, cz_1_11, cz_1_12, cz_1_13⟩ := pt_cells Rz_1
    have S2 := box B1.size
    have Lb_2 : Box (w.heap.size < w1.heap.size) := box (Array.getElem?_eq_some_iff.1 Rb_1).1
    have Lz_2 : Box (w.heap.size + 1 < w1.heap.size) := box (Array.getElem?_eq_some_iff.1 Rz_1).1
    have Rp_2 := heap_alloc_last w1 (Obj.cells (pt c 0 0 0) 75)
    have B2 := btr7 B1 (bal7 w1 (Obj.cells (pt c 0 0 0) 75))
    have Rb_2 := heap_of (bal7 w1 (Obj.cells (pt c 0 0 0) 75)) _ _ _ Rb_1
    have Rz_2 := heap_of (bal7 w1 (Obj.cells (pt c 0 0 0) 75)) _ _ _ Rz_1
    clear B1 Rb_1 cb_1_0 cb_1_1 Rz_1 cz_1_0 cz_1_1 cz_1_2 cz_1_3 cz_1_4 cz_1_5 cz_1_6 cz_1_7 cz_1_8 cz_1_9 cz_1_10 cz_1_11 cz_1_12 cz_1_13
    obtain ⟨cb_2_0, cb_2_1⟩ := cell7t Rb_2
    obtain ⟨cz_2_0, cz_2_1, cz_2_2, cz_2_3, cz_2_4, cz_2_5, cz_2_6, cz_2_7, cz_2_8, cz_2_9, cz_2_10, cz_2_11, cz_2_12, cz_2_13⟩ := pt_cells Rz_2
    obtain ⟨cp_2_0, cp_2_1, cp_2_2, cp_2_3, cp_2_4, cp_2_5, cp_2_6, cp_2_7, cp_2_8, cp_2_9, cp_2_10, cp_2_11, cp_2_12, cp_2_13⟩ := pt_cells Rp_2
    go_wp2_with fail
    refine (KF.out _ (fatB TT.out B2)).mono ?_
    rintro r w3 ⟨rfl, b3⟩
    have B3 : Below w.heap.size w w3 := btr7 B2 b3
    have Rb_3 := heap_of b3 _ _ _ Rb_2
    have Rz_3 := heap_of b3 _ _ _ Rz_2
    have Rp_3 := heap_of b3 _ _ _ Rp_2
    clear b3 B2 Rb_2 cb_2_0 cb_2_1 Rz_2 cz_2_0 cz_2_1 cz_2_2 cz_2_3 cz_2_4 cz_2_5 cz_2_6 cz_2_7 cz_2_8 cz_2_9 cz_2_10 cz_2_11 cz_2_12 cz_2_13 Rp_2 cp_2_0 cp_2_1 cp_2_2 cp_2_3 cp_2_4 cp_2_5 cp_2_6 cp_2_7 cp_2_8 cp_2_9 cp_2_10 cp_2_11 cp_2_12 cp_2_13
    obtain ⟨cb_3_0, cb_3_1⟩ := cell7t Rb_3
    obtain ⟨cz_3_0, cz_3_1, cz_3_2, cz_3_3, cz_3_4, cz_3_5, cz_3_6, cz_3_7, cz_3_8, cz_3_9, cz_3_10, cz_3_11, cz_3_12, cz_3_13⟩ := pt_cells Rz_3
    obtain ⟨cp_3_0, cp_3_1, cp_3_2, cp_3_3, cp_3_4, cp_3_5, cp_3_6, cp_3_7, cp_3_8, cp_3_9, cp_3_10, cp_3_11, cp_3_12, cp_3_13⟩ := pt_cells Rp_3
    go_wp2_with fail
    refine (KO.out _).mono ?_
    rintro r w4 ⟨rfl, b4⟩
    have B4 : Below w.heap.size w w4 := btr7 B3 b4
    have Rb_4 := heap_of b4 _ _ _ Rb_3
    have Rz_4 := heap_of b4 _ _ _ Rz_3
    have Rp_4 := heap_of b4 _ _ _ Rp_3
    clear b4 B3 Rb_3 cb_3_0 cb_3_1 Rz_3 cz_3_0 cz_3_1 cz_3_2 cz_3_3 cz_3_4 cz_3_5 cz_3_6 cz_3_7 cz_3_8 cz_3_9 cz_3_10 cz_3_11 cz_3_12 cz_3_13 Rp_3 cp_3_0 cp_3_1 cp_3_2 cp_3_3 cp_3_4 cp_3_5 cp_3_6 cp_3_7 cp_3_8 cp_3_9 cp_3_10 cp_3_11 cp_3_12 cp_3_13
    obtain ⟨cb_4_0, cb_4_1⟩ := cell7t Rb_4
    obtain ⟨cz_4_0, cz_4_1, cz_4_2, cz_4_3, cz_4_4, cz_4_5, cz_4_6, cz_4_7, cz_4_8, cz_4_9, cz_4_10, cz_4_11, cz_4_12, cz_4_13⟩ := pt_cells Rz_4
    obtain ⟨cp_4_0, cp_4_1, cp_4_2, cp_4_3, cp_4_4, cp_4_5, cp_4_6, cp_4_7, cp_4_8, cp_4_9, cp_4_10, cp_4_11, cp_4_12, cp_4_13⟩ := pt_cells Rp_4
    have S5 := box B4.size
    have Lb_5 : Box (w.heap.size < w4.heap.size) := box (Array.getElem?_eq_some_iff.1 Rb_4).1
    have Lz_5 : Box (w.heap.size + 1 < w4.heap.size) := box (Array.getElem?_eq_some_iff.1 Rz_4).1
    have Lp_5 : Box (w1.heap.size < w4.heap.size) := box (Array.getElem?_eq_some_iff.1 Rp_4).1
    have Rfr_5 := heap_alloc_last w4 (Obj.cells (cw 6 t) 42)
    have B5 := btr7 B4 (bal7 w4 (Obj.cells (cw 6 t) 42))
    have Rb_5 := heap_of (bal7 w4 (Obj.cells (cw 6 t) 42)) _ _ _ Rb_4
    have Rz_5 := heap_of (bal7 w4 (Obj.cells (cw 6 t) 42)) _ _ _ Rz_4
    have Rp_5 := heap_of (bal7 w4 (Obj.cells (cw 6 t) 42)) _ _ _ Rp_4
    clear B4 Rb_4 cb_4_0 cb_4_1 Rz_4 cz_4_0 cz_4_1 cz_4_2 cz_4_3 cz_4_4 cz_4_5 cz_4_6 cz_4_7 cz_4_8 cz_4_9 cz_4_10 cz_4_11 cz_4_12 cz_4_13 Rp_4 cp_4_0 cp_4_1 cp_4_2 cp_4_3 cp_4_4 cp_4_5 cp_4_6 cp_4_7 cp_4_8 cp_4_9 cp_4_10 cp_4_11 cp_4_12 cp_4_13
    obtain ⟨cb_5_0, cb_5_1⟩ := cell7t Rb_5
    obtain ⟨cz_5_0, cz_5_1, cz_5_2, cz_5_3, cz_5_4, cz_5_5, cz_5_6, cz_5_7, cz_5_8, cz_5_9, cz_5_10, cz_5_11, cz_5_12, cz_5_13⟩ := pt_cells Rz_5
    obtain ⟨cp_5_0, cp_5_1, cp_5_2, cp_5_3, cp_5_4, cp_5_5, cp_5_6, cp_5_7, cp_5_8, cp_5_9, cp_5_10, cp_5_11, cp_5_12, cp_5_13⟩ := pt_cells Rp_5
    have cfr_5_0 := row_cell Rfr_5
    have hst6 := st_p8 (w4.alloc (Obj.cells (cw 6 t) 42)) (w1.heap.size) c 0 0 0 t Rp_5
    have B6 := bel_set (c := (pt c 0 0 t)) B5 (show w.heap.size ≤ w1.heap.size by first | exact Nat.le_refl _ | omega | (have := S2.out; have := Lb_2.out; have := Lz_2.out; have := S5.out; have := Lb_5.out; have := Lz_5.out; have := Lp_5.out; omega))
    have Rp_6 := setRow_row (c' := (pt c 0 0 t)) Rp_5
    have Rb_6 : ((w4.alloc (Obj.cells (cw 6 t) 42)).setRow (w1.heap.size) (pt c 0 0 t)).heap[w.heap.size]? = some (Obj.cells #[.int .u64 (x : Nat), .int .u64 (y : Nat)] 27) := by rw [setRow_other (by first | omega | (have := S2.out; have := Lb_2.out; have := Lz_2.out; have := S5.out; have := Lb_5.out; have := Lz_5.out; have := Lp_5.out; omega))]; exact Rb_5
    have Rz_6 : ((w4.alloc (Obj.cells (cw 6 t) 42)).setRow (w1.heap.size) (pt c 0 0 t)).heap[w.heap.size + 1]? = some (Obj.cells (pt 0 0 0 0) 75) := by rw [setRow_other (by first | omega | (have := S2.out; have := Lb_2.out; have := Lz_2.out; have := S5.out; have := Lb_5.out; have := Lz_5.out; have := Lp_5.out; omega))]; exact Rz_5
    have Rfr_6 : ((w4.alloc (Obj.cells (cw 6 t) 42)).setRow (w1.heap.size) (pt c 0 0 t)).heap[w4.heap.size]? = some (Obj.cells (cw 6 t) 42) := by rw [setRow_other (by first | omega | (have := S2.out; have := Lb_2.out; have := Lz_2.out; have := S5.out; have := Lb_5.out; have := Lz_5.out; have := Lp_5.out; omega))]; exact Rfr_5
    obtain ⟨w6, hw6⟩ : ∃ V, (w4.alloc (Obj.cells (cw 6 t) 42)).setRow (w1.heap.size) (pt c 0 0 t) = V := ⟨_, rfl⟩
    rw [hw6] at hst6 B6 Rb_6 Rz_6 Rp_6 Rfr_6
    obtain ⟨cb_6_0, cb_6_1⟩ := cell7t Rb_6
    obtain ⟨cz_6_0, cz_6_1, cz_6_2, cz_6_3, cz_6_4, cz_6_5, cz_6_6, cz_6_7, cz_6_8, cz_6_9, cz_6_10, cz_6_11, cz_6_12, cz_6_13⟩ := pt_cells Rz_6
    obtain ⟨cp_6_0, cp_6_1, cp_6_2, cp_6_3, cp_6_4, cp_6_5, cp_6_6, cp_6_7, cp_6_8, cp_6_9, cp_6_10, cp_6_11, cp_6_12, cp_6_13⟩ := pt_cells Rp_6
    have cfr_6_0 := row_cell Rfr_6
    have hstz := st_p w6 (w.heap.size + 1) c 0 0 t 0 0 0 0 Rz_6
    have RZ := setRow_row (c' := pt c 0 0 t) Rz_6
    obtain ⟨dz0, dz1, dz2, dz3, dz4, dz5, dz6, dz7, dz8, dz9, dz10, dz11, dz12, dz13⟩ := pt_cells RZ
    have bz := bel_set (c := pt c 0 0 t) B6 (show w.heap.size ≤ w.heap.size + 1 by first | exact Nat.le_refl _ | omega | (have := S2.out; have := Lb_2.out; have := Lz_2.out; have := S5.out; have := Lb_5.out; have := Lz_5.out; have := Lp_5.out; omega))
    go_wp2
    exact bodyPost_ret (v := .agg (pt c 0 0 t)) (by simp [results, Tryd.results59, go_sem, dz0, dz1, dz2, dz3, dz4, dz5, dz6, dz7, dz8, dz9, dz10, dz11, dz12, dz13, ptf] <;> rfl) rfl ⟨rfl, bz⟩
  · have f8 : ((c : Int) == 8) = false := by rw [hc]; rfl
    have f9 : ((c : Int) == 9) = true := by rw [hc]; rfl
    clear hc
    obtain ⟨Rb_0, Rz_0, B0⟩ := kopn2 w (Obj.cells #[.int .u64 (x : Nat), .int .u64 (y : Nat)] 27) (Obj.cells (pt 0 0 0 0) 75)
    go_enter Tryd.func59, Tryd.ntmps59
    go_wp2_with fail
    refine (KC.out _ (fatB TT.out B0)).mono ?_
    rintro r w1 ⟨rfl, b1⟩
    have B1 : Below w.heap.size w w1 := btr7 B0 b1
    have Rb_1 := heap_of b1 _ _ _ Rb_0
    have Rz_1 := heap_of b1 _ _ _ Rz_0
    clear b1 B0 Rb_0 Rz_0
    obtain ⟨cb_1_0, cb_1_1⟩ := cell7t Rb_1
    obtain ⟨cz_1_0, cz_1_1, cz_1_2, cz_1_3, cz_1_4, cz_1_5, cz_1_6, cz_1_7, cz_1_8, cz_1_9, cz_1_10, cz_1_11, cz_1_12, cz_1_13⟩ := pt_cells Rz_1
    have S2 := box B1.size
    have Lb_2 : Box (w.heap.size < w1.heap.size) := box (Array.getElem?_eq_some_iff.1 Rb_1).1
    have Lz_2 : Box (w.heap.size + 1 < w1.heap.size) := box (Array.getElem?_eq_some_iff.1 Rz_1).1
    have Rp_2 := heap_alloc_last w1 (Obj.cells (pt c 0 0 0) 75)
    have B2 := btr7 B1 (bal7 w1 (Obj.cells (pt c 0 0 0) 75))
    have Rb_2 := heap_of (bal7 w1 (Obj.cells (pt c 0 0 0) 75)) _ _ _ Rb_1
    have Rz_2 := heap_of (bal7 w1 (Obj.cells (pt c 0 0 0) 75)) _ _ _ Rz_1
    clear B1 Rb_1 cb_1_0 cb_1_1 Rz_1 cz_1_0 cz_1_1 cz_1_2 cz_1_3 cz_1_4 cz_1_5 cz_1_6 cz_1_7 cz_1_8 cz_1_9 cz_1_10 cz_1_11 cz_1_12 cz_1_13
    obtain ⟨cb_2_0, cb_2_1⟩ := cell7t Rb_2
    obtain ⟨cz_2_0, cz_2_1, cz_2_2, cz_2_3, cz_2_4, cz_2_5, cz_2_6, cz_2_7, cz_2_8, cz_2_9, cz_2_10, cz_2_11, cz_2_12, cz_2_13⟩ := pt_cells Rz_2
    obtain ⟨cp_2_0, cp_2_1, cp_2_2, cp_2_3, cp_2_4, cp_2_5, cp_2_6, cp_2_7, cp_2_8, cp_2_9, cp_2_10, cp_2_11, cp_2_12, cp_2_13⟩ := pt_cells Rp_2
    go_wp2_with fail
    refine (KF.out _ (fatB TT.out B2)).mono ?_
    rintro r w3 ⟨rfl, b3⟩
    have B3 : Below w.heap.size w w3 := btr7 B2 b3
    have Rb_3 := heap_of b3 _ _ _ Rb_2
    have Rz_3 := heap_of b3 _ _ _ Rz_2
    have Rp_3 := heap_of b3 _ _ _ Rp_2
    clear b3 B2 Rb_2 cb_2_0 cb_2_1 Rz_2 cz_2_0 cz_2_1 cz_2_2 cz_2_3 cz_2_4 cz_2_5 cz_2_6 cz_2_7 cz_2_8 cz_2_9 cz_2_10 cz_2_11 cz_2_12 cz_2_13 Rp_2 cp_2_0 cp_2_1 cp_2_2 cp_2_3 cp_2_4 cp_2_5 cp_2_6 cp_2_7 cp_2_8 cp_2_9 cp_2_10 cp_2_11 cp_2_12 cp_2_13
    obtain ⟨cb_3_0, cb_3_1⟩ := cell7t Rb_3
    obtain ⟨cz_3_0, cz_3_1, cz_3_2, cz_3_3, cz_3_4, cz_3_5, cz_3_6, cz_3_7, cz_3_8, cz_3_9, cz_3_10, cz_3_11, cz_3_12, cz_3_13⟩ := pt_cells Rz_3
    obtain ⟨cp_3_0, cp_3_1, cp_3_2, cp_3_3, cp_3_4, cp_3_5, cp_3_6, cp_3_7, cp_3_8, cp_3_9, cp_3_10, cp_3_11, cp_3_12, cp_3_13⟩ := pt_cells Rp_3
    go_wp2_with fail
    refine (KO.out _).mono ?_
    rintro r w4 ⟨rfl, b4⟩
    have B4 : Below w.heap.size w w4 := btr7 B3 b4
    have Rb_4 := heap_of b4 _ _ _ Rb_3
    have Rz_4 := heap_of b4 _ _ _ Rz_3
    have Rp_4 := heap_of b4 _ _ _ Rp_3
    clear b4 B3 Rb_3 cb_3_0 cb_3_1 Rz_3 cz_3_0 cz_3_1 cz_3_2 cz_3_3 cz_3_4 cz_3_5 cz_3_6 cz_3_7 cz_3_8 cz_3_9 cz_3_10 cz_3_11 cz_3_12 cz_3_13 Rp_3 cp_3_0 cp_3_1 cp_3_2 cp_3_3 cp_3_4 cp_3_5 cp_3_6 cp_3_7 cp_3_8 cp_3_9 cp_3_10 cp_3_11 cp_3_12 cp_3_13
    obtain ⟨cb_4_0, cb_4_1⟩ := cell7t Rb_4
    obtain ⟨cz_4_0, cz_4_1, cz_4_2, cz_4_3, cz_4_4, cz_4_5, cz_4_6, cz_4_7, cz_4_8, cz_4_9, cz_4_10, cz_4_11, cz_4_12, cz_4_13⟩ := pt_cells Rz_4
    obtain ⟨cp_4_0, cp_4_1, cp_4_2, cp_4_3, cp_4_4, cp_4_5, cp_4_6, cp_4_7, cp_4_8, cp_4_9, cp_4_10, cp_4_11, cp_4_12, cp_4_13⟩ := pt_cells Rp_4
    have S5 := box B4.size
    have Lb_5 : Box (w.heap.size < w4.heap.size) := box (Array.getElem?_eq_some_iff.1 Rb_4).1
    have Lz_5 : Box (w.heap.size + 1 < w4.heap.size) := box (Array.getElem?_eq_some_iff.1 Rz_4).1
    have Lp_5 : Box (w1.heap.size < w4.heap.size) := box (Array.getElem?_eq_some_iff.1 Rp_4).1
    have Rfr_5 := heap_alloc_last w4 (Obj.cells (cw 6 t) 42)
    have B5 := btr7 B4 (bal7 w4 (Obj.cells (cw 6 t) 42))
    have Rb_5 := heap_of (bal7 w4 (Obj.cells (cw 6 t) 42)) _ _ _ Rb_4
    have Rz_5 := heap_of (bal7 w4 (Obj.cells (cw 6 t) 42)) _ _ _ Rz_4
    have Rp_5 := heap_of (bal7 w4 (Obj.cells (cw 6 t) 42)) _ _ _ Rp_4
    clear B4 Rb_4 cb_4_0 cb_4_1 Rz_4 cz_4_0 cz_4_1 cz_4_2 cz_4_3 cz_4_4 cz_4_5 cz_4_6 cz_4_7 cz_4_8 cz_4_9 cz_4_10 cz_4_11 cz_4_12 cz_4_13 Rp_4 cp_4_0 cp_4_1 cp_4_2 cp_4_3 cp_4_4 cp_4_5 cp_4_6 cp_4_7 cp_4_8 cp_4_9 cp_4_10 cp_4_11 cp_4_12 cp_4_13
    obtain ⟨cb_5_0, cb_5_1⟩ := cell7t Rb_5
    obtain ⟨cz_5_0, cz_5_1, cz_5_2, cz_5_3, cz_5_4, cz_5_5, cz_5_6, cz_5_7, cz_5_8, cz_5_9, cz_5_10, cz_5_11, cz_5_12, cz_5_13⟩ := pt_cells Rz_5
    obtain ⟨cp_5_0, cp_5_1, cp_5_2, cp_5_3, cp_5_4, cp_5_5, cp_5_6, cp_5_7, cp_5_8, cp_5_9, cp_5_10, cp_5_11, cp_5_12, cp_5_13⟩ := pt_cells Rp_5
    have cfr_5_0 := row_cell Rfr_5
    have hst6 := st_p8 (w4.alloc (Obj.cells (cw 6 t) 42)) (w1.heap.size) c 0 0 0 t Rp_5
    have B6 := bel_set (c := (pt c 0 0 t)) B5 (show w.heap.size ≤ w1.heap.size by first | exact Nat.le_refl _ | omega | (have := S2.out; have := Lb_2.out; have := Lz_2.out; have := S5.out; have := Lb_5.out; have := Lz_5.out; have := Lp_5.out; omega))
    have Rp_6 := setRow_row (c' := (pt c 0 0 t)) Rp_5
    have Rb_6 : ((w4.alloc (Obj.cells (cw 6 t) 42)).setRow (w1.heap.size) (pt c 0 0 t)).heap[w.heap.size]? = some (Obj.cells #[.int .u64 (x : Nat), .int .u64 (y : Nat)] 27) := by rw [setRow_other (by first | omega | (have := S2.out; have := Lb_2.out; have := Lz_2.out; have := S5.out; have := Lb_5.out; have := Lz_5.out; have := Lp_5.out; omega))]; exact Rb_5
    have Rz_6 : ((w4.alloc (Obj.cells (cw 6 t) 42)).setRow (w1.heap.size) (pt c 0 0 t)).heap[w.heap.size + 1]? = some (Obj.cells (pt 0 0 0 0) 75) := by rw [setRow_other (by first | omega | (have := S2.out; have := Lb_2.out; have := Lz_2.out; have := S5.out; have := Lb_5.out; have := Lz_5.out; have := Lp_5.out; omega))]; exact Rz_5
    have Rfr_6 : ((w4.alloc (Obj.cells (cw 6 t) 42)).setRow (w1.heap.size) (pt c 0 0 t)).heap[w4.heap.size]? = some (Obj.cells (cw 6 t) 42) := by rw [setRow_other (by first | omega | (have := S2.out; have := Lb_2.out; have := Lz_2.out; have := S5.out; have := Lb_5.out; have := Lz_5.out; have := Lp_5.out; omega))]; exact Rfr_5
    obtain ⟨w6, hw6⟩ : ∃ V, (w4.alloc (Obj.cells (cw 6 t) 42)).setRow (w1.heap.size) (pt c 0 0 t) = V := ⟨_, rfl⟩
    rw [hw6] at hst6 B6 Rb_6 Rz_6 Rp_6 Rfr_6
    obtain ⟨cb_6_0, cb_6_1⟩ := cell7t Rb_6
    obtain ⟨cz_6_0, cz_6_1, cz_6_2, cz_6_3, cz_6_4, cz_6_5, cz_6_6, cz_6_7, cz_6_8, cz_6_9, cz_6_10, cz_6_11, cz_6_12, cz_6_13⟩ := pt_cells Rz_6
    obtain ⟨cp_6_0, cp_6_1, cp_6_2, cp_6_3, cp_6_4, cp_6_5, cp_6_6, cp_6_7, cp_6_8, cp_6_9, cp_6_10, cp_6_11, cp_6_12, cp_6_13⟩ := pt_cells Rp_6
    have cfr_6_0 := row_cell Rfr_6
    have hstz := st_p w6 (w.heap.size + 1) c 0 0 t 0 0 0 0 Rz_6
    have RZ := setRow_row (c' := pt c 0 0 t) Rz_6
    obtain ⟨dz0, dz1, dz2, dz3, dz4, dz5, dz6, dz7, dz8, dz9, dz10, dz11, dz12, dz13⟩ := pt_cells RZ
    have bz := bel_set (c := pt c 0 0 t) B6 (show w.heap.size ≤ w.heap.size + 1 by first | exact Nat.le_refl _ | omega | (have := S2.out; have := Lb_2.out; have := Lz_2.out; have := S5.out; have := Lb_5.out; have := Lz_5.out; have := Lp_5.out; omega))
    go_wp2
    exact bodyPost_ret (v := .agg (pt c 0 0 t)) (by simp [results, Tryd.results59, go_sem, dz0, dz1, dz2, dz3, dz4, dz5, dz6, dz7, dz8, dz9, dz10, dz11, dz12, dz13, ptf] <;> rfl) rfl ⟨rfl, bz⟩
set_option maxRecDepth 100000 in
set_option maxHeartbeats 2000000 in
theorem kparts_none (f : Int) (x y c u v t : Nat) (w : World)
    (KC : Box (∀ w, FAt w → Calls Tryd.prog 72 #[.int .u8 f, .agg #[.int .u64 (x : Nat), .int .u64 (y : Nat)]] w fun r w' => r = .returned (.int .u8 (c : Nat)) ∧ Below w.heap.size w w'))
    (KF : Box (∀ w, FAt w → Calls Tryd.prog 80 #[.int .u8 f, .agg #[.int .u64 (x : Nat), .int .u64 (y : Nat)]] w fun r w' => r = .returned (.agg #[.int .u64 (u : Nat), .int .u64 (v : Nat)]) ∧ Below w.heap.size w w'))
    (KO : Box (∀ w, Calls Tryd.prog 57 #[.agg #[.int .u64 (u : Nat), .int .u64 (v : Nat)]] w fun r w' => r = .returned (.agg (cw 6 t)) ∧ Below w.heap.size w w'))
    (hc : c = 0 ∨ c = 3 ∨ c = 4 ∨ c = 7) (hT : FAt w) : Calls Tryd.prog 59 #[.int .u8 f, .agg #[.int .u64 (x : Nat), .int .u64 (y : Nat)]] w fun r w' => r = .returned (.agg (pt c 0 0 0)) ∧ Below w.heap.size w w' := by
  have hat := cw_at 6
  have hz := cw6z
  have hff := cw6f
  have hs0 := st0
  have hcs : ∀ x, ((cw 6 x).size = 6) = True := fun x => eq_true (cw_size 6 x)
  have hp1 := ptf
  have hp2 := ptc
  have hp3 := ptz
  have hp4 := st_p0
  have hp6 := pt_set
  have hp7 := pt_setl
  have hp5 : ∀ (c s : Nat) (x : Int) (r : Nat), ((pt c s x r).size = 14) = True := fun _ _ _ _ => eq_true rfl
  have ha0 := pt_at0
  have ha1 := pt_at1
  have ha2 := pt_at2
  have ha3 := pt_at3
  have ha4 := pt_at4
  have ha5 := pt_at5
  have ha6 := pt_at6
  have ha7 := pt_at7
  have ha8 := pt_at8
  have ha9 := pt_at9
  have ha10 := pt_at10
  have ha11 := pt_at11
  have ha12 := pt_at12
  have ha13 := pt_at13
  have TT := box hT
  clear hT
  rcases hc with hc | hc | hc | hc
  · have f8 : ((c : Int) == 8) = false := by rw [hc]; rfl
    have f9 : ((c : Int) == 9) = false := by rw [hc]; rfl
    have f2 : ((c : Int) == 2) = false := by rw [hc]; rfl
    have f5 : ((c : Int) == 5) = false := by rw [hc]; rfl
    have f1 : ((c : Int) == 1) = false := by rw [hc]; rfl
    have f6 : ((c : Int) == 6) = false := by rw [hc]; rfl
    clear hc
    obtain ⟨Rb_0, Rz_0, B0⟩ := kopn2 w (Obj.cells #[.int .u64 (x : Nat), .int .u64 (y : Nat)] 27) (Obj.cells (pt 0 0 0 0) 75)
    go_enter Tryd.func59, Tryd.ntmps59
    go_wp2_with fail
    refine (KC.out _ (fatB TT.out B0)).mono ?_
    rintro r w1 ⟨rfl, b1⟩
    have B1 : Below w.heap.size w w1 := btr7 B0 b1
    have Rb_1 := heap_of b1 _ _ _ Rb_0
    have Rz_1 := heap_of b1 _ _ _ Rz_0
    clear b1 B0 Rb_0 Rz_0
    obtain ⟨cb_1_0, cb_1_1⟩ := cell7t Rb_1
    obtain ⟨cz_1_0, cz_1_1, cz_1_2, cz_1_3, cz_1_4, cz_1_5, cz_1_6, cz_1_7, cz_1_8, cz_1_9, cz_1_10, cz_1_11, cz_1_12, cz_1_13⟩ := pt_cells Rz_1
    have S2 := box B1.size
    have Lb_2 : Box (w.heap.size < w1.heap.size) := box (Array.getElem?_eq_some_iff.1 Rb_1).1
    have Lz_2 : Box (w.heap.size + 1 < w1.heap.size) := box (Array.getElem?_eq_some_iff.1 Rz_1).1
    have Rp_2 := heap_alloc_last w1 (Obj.cells (pt c 0 0 0) 75)
    have B2 := btr7 B1 (bal7 w1 (Obj.cells (pt c 0 0 0) 75))
    have Rb_2 := heap_of (bal7 w1 (Obj.cells (pt c 0 0 0) 75)) _ _ _ Rb_1
    have Rz_2 := heap_of (bal7 w1 (Obj.cells (pt c 0 0 0) 75)) _ _ _ Rz_1
    clear B1 Rb_1 cb_1_0 cb_1_1 Rz_1 cz_1_0 cz_1_1 cz_1_2 cz_1_3 cz_1_4 cz_1_5 cz_1_6 cz_1_7 cz_1_8 cz_1_9 cz_1_10 cz_1_11 cz_1_12 cz_1_13
    obtain ⟨cb_2_0, cb_2_1⟩ := cell7t Rb_2
    obtain ⟨cz_2_0, cz_2_1, cz_2_2, cz_2_3, cz_2_4, cz_2_5, cz_2_6, cz_2_7, cz_2_8, cz_2_9, cz_2_10, cz_2_11, cz_2_12, cz_2_13⟩ := pt_cells Rz_2
    obtain ⟨cp_2_0, cp_2_1, cp_2_2, cp_2_3, cp_2_4, cp_2_5, cp_2_6, cp_2_7, cp_2_8, cp_2_9, cp_2_10, cp_2_11, cp_2_12, cp_2_13⟩ := pt_cells Rp_2
    go_wp2_with fail
    refine (KF.out _ (fatB TT.out B2)).mono ?_
    rintro r w3 ⟨rfl, b3⟩
    have B3 : Below w.heap.size w w3 := btr7 B2 b3
    have Rb_3 := heap_of b3 _ _ _ Rb_2
    have Rz_3 := heap_of b3 _ _ _ Rz_2
    have Rp_3 := heap_of b3 _ _ _ Rp_2
    clear b3 B2 Rb_2 cb_2_0 cb_2_1 Rz_2 cz_2_0 cz_2_1 cz_2_2 cz_2_3 cz_2_4 cz_2_5 cz_2_6 cz_2_7 cz_2_8 cz_2_9 cz_2_10 cz_2_11 cz_2_12 cz_2_13 Rp_2 cp_2_0 cp_2_1 cp_2_2 cp_2_3 cp_2_4 cp_2_5 cp_2_6 cp_2_7 cp_2_8 cp_2_9 cp_2_10 cp_2_11 cp_2_12 cp_2_13
    obtain ⟨cb_3_0, cb_3_1⟩ := cell7t Rb_3
    obtain ⟨cz_3_0, cz_3_1, cz_3_2, cz_3_3, cz_3_4, cz_3_5, cz_3_6, cz_3_7, cz_3_8, cz_3_9, cz_3_10, cz_3_11, cz_3_12, cz_3_13⟩ := pt_cells Rz_3
    obtain ⟨cp_3_0, cp_3_1, cp_3_2, cp_3_3, cp_3_4, cp_3_5, cp_3_6, cp_3_7, cp_3_8, cp_3_9, cp_3_10, cp_3_11, cp_3_12, cp_3_13⟩ := pt_cells Rp_3
    go_wp2_with fail
    refine (KO.out _).mono ?_
    rintro r w4 ⟨rfl, b4⟩
    have B4 : Below w.heap.size w w4 := btr7 B3 b4
    have Rb_4 := heap_of b4 _ _ _ Rb_3
    have Rz_4 := heap_of b4 _ _ _ Rz_3
    have Rp_4 := heap_of b4 _ _ _ Rp_3
    clear b4 B3 Rb_3 cb_3_0 cb_3_1 Rz_3 cz_3_0 cz_3_1 cz_3_2 cz_3_3 cz_3_4 cz_3_5 cz_3_6 cz_3_7 cz_3_8 cz_3_9 cz_3_10 cz_3_11 cz_3_12 cz_3_13 Rp_3 cp_3_0 cp_3_1 cp_3_2 cp_3_3 cp_3_4 cp_3_5 cp_3_6 cp_3_7 cp_3_8 cp_3_9 cp_3_10 cp_3_11 cp_3_12 cp_3_13
    obtain ⟨cb_4_0, cb_4_1⟩ := cell7t Rb_4
    obtain ⟨cz_4_0, cz_4_1, cz_4_2, cz_4_3, cz_4_4, cz_4_5, cz_4_6, cz_4_7, cz_4_8, cz_4_9, cz_4_10, cz_4_11, cz_4_12, cz_4_13⟩ := pt_cells Rz_4
    obtain ⟨cp_4_0, cp_4_1, cp_4_2, cp_4_3, cp_4_4, cp_4_5, cp_4_6, cp_4_7, cp_4_8, cp_4_9, cp_4_10, cp_4_11, cp_4_12, cp_4_13⟩ := pt_cells Rp_4
    have S5 := box B4.size
    have Lb_5 : Box (w.heap.size < w4.heap.size) := box (Array.getElem?_eq_some_iff.1 Rb_4).1
    have Lz_5 : Box (w.heap.size + 1 < w4.heap.size) := box (Array.getElem?_eq_some_iff.1 Rz_4).1
    have Lp_5 : Box (w1.heap.size < w4.heap.size) := box (Array.getElem?_eq_some_iff.1 Rp_4).1
    have Rfr_5 := heap_alloc_last w4 (Obj.cells (cw 6 t) 42)
    have B5 := btr7 B4 (bal7 w4 (Obj.cells (cw 6 t) 42))
    have Rb_5 := heap_of (bal7 w4 (Obj.cells (cw 6 t) 42)) _ _ _ Rb_4
    have Rz_5 := heap_of (bal7 w4 (Obj.cells (cw 6 t) 42)) _ _ _ Rz_4
    have Rp_5 := heap_of (bal7 w4 (Obj.cells (cw 6 t) 42)) _ _ _ Rp_4
    clear B4 Rb_4 cb_4_0 cb_4_1 Rz_4 cz_4_0 cz_4_1 cz_4_2 cz_4_3 cz_4_4 cz_4_5 cz_4_6 cz_4_7 cz_4_8 cz_4_9 cz_4_10 cz_4_11 cz_4_12 cz_4_13 Rp_4 cp_4_0 cp_4_1 cp_4_2 cp_4_3 cp_4_4 cp_4_5 cp_4_6 cp_4_7 cp_4_8 cp_4_9 cp_4_10 cp_4_11 cp_4_12 cp_4_13
    obtain ⟨cb_5_0, cb_5_1⟩ := cell7t Rb_5
    obtain ⟨cz_5_0, cz_5_1, cz_5_2, cz_5_3, cz_5_4, cz_5_5, cz_5_6, cz_5_7, cz_5_8, cz_5_9, cz_5_10, cz_5_11, cz_5_12, cz_5_13⟩ := pt_cells Rz_5
    obtain ⟨cp_5_0, cp_5_1, cp_5_2, cp_5_3, cp_5_4, cp_5_5, cp_5_6, cp_5_7, cp_5_8, cp_5_9, cp_5_10, cp_5_11, cp_5_12, cp_5_13⟩ := pt_cells Rp_5
    have cfr_5_0 := row_cell Rfr_5
    have hstz := st_p (w4.alloc (Obj.cells (cw 6 t) 42)) (w.heap.size + 1) c 0 0 0 0 0 0 0 Rz_5
    have RZ := setRow_row (c' := pt c 0 0 0) Rz_5
    obtain ⟨dz0, dz1, dz2, dz3, dz4, dz5, dz6, dz7, dz8, dz9, dz10, dz11, dz12, dz13⟩ := pt_cells RZ
    have bz := bel_set (c := pt c 0 0 0) B5 (show w.heap.size ≤ w.heap.size + 1 by first | exact Nat.le_refl _ | omega | (have := S2.out; have := Lb_2.out; have := Lz_2.out; have := S5.out; have := Lb_5.out; have := Lz_5.out; have := Lp_5.out; omega))
    go_wp2
    exact bodyPost_ret (v := .agg (pt c 0 0 0)) (by simp [results, Tryd.results59, go_sem, dz0, dz1, dz2, dz3, dz4, dz5, dz6, dz7, dz8, dz9, dz10, dz11, dz12, dz13, ptf] <;> rfl) rfl ⟨rfl, bz⟩
  · have f8 : ((c : Int) == 8) = false := by rw [hc]; rfl
    have f9 : ((c : Int) == 9) = false := by rw [hc]; rfl
    have f2 : ((c : Int) == 2) = false := by rw [hc]; rfl
    have f5 : ((c : Int) == 5) = false := by rw [hc]; rfl
    have f1 : ((c : Int) == 1) = false := by rw [hc]; rfl
    have f6 : ((c : Int) == 6) = false := by rw [hc]; rfl
    clear hc
    obtain ⟨Rb_0, Rz_0, B0⟩ := kopn2 w (Obj.cells #[.int .u64 (x : Nat), .int .u64 (y : Nat)] 27) (Obj.cells (pt 0 0 0 0) 75)
    go_enter Tryd.func59, Tryd.ntmps59
    go_wp2_with fail
    refine (KC.out _ (fatB TT.out B0)).mono ?_
    rintro r w1 ⟨rfl, b1⟩
    have B1 : Below w.heap.size w w1 := btr7 B0 b1
    have Rb_1 := heap_of b1 _ _ _ Rb_0
    have Rz_1 := heap_of b1 _ _ _ Rz_0
    clear b1 B0 Rb_0 Rz_0
    obtain ⟨cb_1_0, cb_1_1⟩ := cell7t Rb_1
    obtain ⟨cz_1_0, cz_1_1, cz_1_2, cz_1_3, cz_1_4, cz_1_5, cz_1_6, cz_1_7, cz_1_8, cz_1_9, cz_1_10, cz_1_11, cz_1_12, cz_1_13⟩ := pt_cells Rz_1
    have S2 := box B1.size
    have Lb_2 : Box (w.heap.size < w1.heap.size) := box (Array.getElem?_eq_some_iff.1 Rb_1).1
    have Lz_2 : Box (w.heap.size + 1 < w1.heap.size) := box (Array.getElem?_eq_some_iff.1 Rz_1).1
    have Rp_2 := heap_alloc_last w1 (Obj.cells (pt c 0 0 0) 75)
    have B2 := btr7 B1 (bal7 w1 (Obj.cells (pt c 0 0 0) 75))
    have Rb_2 := heap_of (bal7 w1 (Obj.cells (pt c 0 0 0) 75)) _ _ _ Rb_1
    have Rz_2 := heap_of (bal7 w1 (Obj.cells (pt c 0 0 0) 75)) _ _ _ Rz_1
    clear B1 Rb_1 cb_1_0 cb_1_1 Rz_1 cz_1_0 cz_1_1 cz_1_2 cz_1_3 cz_1_4 cz_1_5 cz_1_6 cz_1_7 cz_1_8 cz_1_9 cz_1_10 cz_1_11 cz_1_12 cz_1_13
    obtain ⟨cb_2_0, cb_2_1⟩ := cell7t Rb_2
    obtain ⟨cz_2_0, cz_2_1, cz_2_2, cz_2_3, cz_2_4, cz_2_5, cz_2_6, cz_2_7, cz_2_8, cz_2_9, cz_2_10, cz_2_11, cz_2_12, cz_2_13⟩ := pt_cells Rz_2
    obtain ⟨cp_2_0, cp_2_1, cp_2_2, cp_2_3, cp_2_4, cp_2_5, cp_2_6, cp_2_7, cp_2_8, cp_2_9, cp_2_10, cp_2_11, cp_2_12, cp_2_13⟩ := pt_cells Rp_2
    go_wp2_with fail
    refine (KF.out _ (fatB TT.out B2)).mono ?_
    rintro r w3 ⟨rfl, b3⟩
    have B3 : Below w.heap.size w w3 := btr7 B2 b3
    have Rb_3 := heap_of b3 _ _ _ Rb_2
    have Rz_3 := heap_of b3 _ _ _ Rz_2
    have Rp_3 := heap_of b3 _ _ _ Rp_2
    clear b3 B2 Rb_2 cb_2_0 cb_2_1 Rz_2 cz_2_0 cz_2_1 cz_2_2 cz_2_3 cz_2_4 cz_2_5 cz_2_6 cz_2_7 cz_2_8 cz_2_9 cz_2_10 cz_2_11 cz_2_12 cz_2_13 Rp_2 cp_2_0 cp_2_1 cp_2_2 cp_2_3 cp_2_4 cp_2_5 cp_2_6 cp_2_7 cp_2_8 cp_2_9 cp_2_10 cp_2_11 cp_2_12 cp_2_13
    obtain ⟨cb_3_0, cb_3_1⟩ := cell7t Rb_3
    obtain ⟨cz_3_0, cz_3_1, cz_3_2, cz_3_3, cz_3_4, cz_3_5, cz_3_6, cz_3_7, cz_3_8, cz_3_9, cz_3_10, cz_3_11, cz_3_12, cz_3_13⟩ := pt_cells Rz_3
    obtain ⟨cp_3_0, cp_3_1, cp_3_2, cp_3_3, cp_3_4, cp_3_5, cp_3_6, cp_3_7, cp_3_8, cp_3_9, cp_3_10, cp_3_11, cp_3_12, cp_3_13⟩ := pt_cells Rp_3
    go_wp2_with fail
    refine (KO.out _).mono ?_
    rintro r w4 ⟨rfl, b4⟩
    have B4 : Below w.heap.size w w4 := btr7 B3 b4
    have Rb_4 := heap_of b4 _ _ _ Rb_3
    have Rz_4 := heap_of b4 _ _ _ Rz_3
    have Rp_4 := heap_of b4 _ _ _ Rp_3
    clear b4 B3 Rb_3 cb_3_0 cb_3_1 Rz_3 cz_3_0 cz_3_1 cz_3_2 cz_3_3 cz_3_4 cz_3_5 cz_3_6 cz_3_7 cz_3_8 cz_3_9 cz_3_10 cz_3_11 cz_3_12 cz_3_13 Rp_3 cp_3_0 cp_3_1 cp_3_2 cp_3_3 cp_3_4 cp_3_5 cp_3_6 cp_3_7 cp_3_8 cp_3_9 cp_3_10 cp_3_11 cp_3_12 cp_3_13
    obtain ⟨cb_4_0, cb_4_1⟩ := cell7t Rb_4
    obtain ⟨cz_4_0, cz_4_1, cz_4_2, cz_4_3, cz_4_4, cz_4_5, cz_4_6, cz_4_7, cz_4_8, cz_4_9, cz_4_10, cz_4_11, cz_4_12, cz_4_13⟩ := pt_cells Rz_4
    obtain ⟨cp_4_0, cp_4_1, cp_4_2, cp_4_3, cp_4_4, cp_4_5, cp_4_6, cp_4_7, cp_4_8, cp_4_9, cp_4_10, cp_4_11, cp_4_12, cp_4_13⟩ := pt_cells Rp_4
    have S5 := box B4.size
    have Lb_5 : Box (w.heap.size < w4.heap.size) := box (Array.getElem?_eq_some_iff.1 Rb_4).1
    have Lz_5 : Box (w.heap.size + 1 < w4.heap.size) := box (Array.getElem?_eq_some_iff.1 Rz_4).1
    have Lp_5 : Box (w1.heap.size < w4.heap.size) := box (Array.getElem?_eq_some_iff.1 Rp_4).1
    have Rfr_5 := heap_alloc_last w4 (Obj.cells (cw 6 t) 42)
    have B5 := btr7 B4 (bal7 w4 (Obj.cells (cw 6 t) 42))
    have Rb_5 := heap_of (bal7 w4 (Obj.cells (cw 6 t) 42)) _ _ _ Rb_4
    have Rz_5 := heap_of (bal7 w4 (Obj.cells (cw 6 t) 42)) _ _ _ Rz_4
    have Rp_5 := heap_of (bal7 w4 (Obj.cells (cw 6 t) 42)) _ _ _ Rp_4
    clear B4 Rb_4 cb_4_0 cb_4_1 Rz_4 cz_4_0 cz_4_1 cz_4_2 cz_4_3 cz_4_4 cz_4_5 cz_4_6 cz_4_7 cz_4_8 cz_4_9 cz_4_10 cz_4_11 cz_4_12 cz_4_13 Rp_4 cp_4_0 cp_4_1 cp_4_2 cp_4_3 cp_4_4 cp_4_5 cp_4_6 cp_4_7 cp_4_8 cp_4_9 cp_4_10 cp_4_11 cp_4_12 cp_4_13
    obtain ⟨cb_5_0, cb_5_1⟩ := cell7t Rb_5
    obtain ⟨cz_5_0, cz_5_1, cz_5_2, cz_5_3, cz_5_4, cz_5_5, cz_5_6, cz_5_7, cz_5_8, cz_5_9, cz_5_10, cz_5_11, cz_5_12, cz_5_13⟩ := pt_cells Rz_5
    obtain ⟨cp_5_0, cp_5_1, cp_5_2, cp_5_3, cp_5_4, cp_5_5, cp_5_6, cp_5_7, cp_5_8, cp_5_9, cp_5_10, cp_5_11, cp_5_12, cp_5_13⟩ := pt_cells Rp_5
    have cfr_5_0 := row_cell Rfr_5
    have hstz := st_p (w4.alloc (Obj.cells (cw 6 t) 42)) (w.heap.size + 1) c 0 0 0 0 0 0 0 Rz_5
    have RZ := setRow_row (c' := pt c 0 0 0) Rz_5
    obtain ⟨dz0, dz1, dz2, dz3, dz4, dz5, dz6, dz7, dz8, dz9, dz10, dz11, dz12, dz13⟩ := pt_cells RZ
    have bz := bel_set (c := pt c 0 0 0) B5 (show w.heap.size ≤ w.heap.size + 1 by first | exact Nat.le_refl _ | omega | (have := S2.out; have := Lb_2.out; have := Lz_2.out; have := S5.out; have := Lb_5.out; have := Lz_5.out; have := Lp_5.out; omega))
    go_wp2
    exact bodyPost_ret (v := .agg (pt c 0 0 0)) (by simp [results, Tryd.results59, go_sem, dz0, dz1, dz2, dz3, dz4, dz5, dz6, dz7, dz8, dz9, dz10, dz11, dz12, dz13, ptf] <;> rfl) rfl ⟨rfl, bz⟩
  · have f8 : ((c : Int) == 8) = false := by rw [hc]; rfl
    have f9 : ((c : Int) == 9) = false := by rw [hc]; rfl
    have f2 : ((c : Int) == 2) = false := by rw [hc]; rfl
    have f5 : ((c : Int) == 5) = false := by rw [hc]; rfl
    have f1 : ((c : Int) == 1) = false := by rw [hc]; rfl
    have f6 : ((c : Int) == 6) = false := by rw [hc]; rfl
    clear hc
    obtain ⟨Rb_0, Rz_0, B0⟩ := kopn2 w (Obj.cells #[.int .u64 (x : Nat), .int .u64 (y : Nat)] 27) (Obj.cells (pt 0 0 0 0) 75)
    go_enter Tryd.func59, Tryd.ntmps59
    go_wp2_with fail
    refine (KC.out _ (fatB TT.out B0)).mono ?_
    rintro r w1 ⟨rfl, b1⟩
    have B1 : Below w.heap.size w w1 := btr7 B0 b1
    have Rb_1 := heap_of b1 _ _ _ Rb_0
    have Rz_1 := heap_of b1 _ _ _ Rz_0
    clear b1 B0 Rb_0 Rz_0
    obtain ⟨cb_1_0, cb_1_1⟩ := cell7t Rb_1
    obtain ⟨cz_1_0, cz_1_1, cz_1_2, cz_1_3, cz_1_4, cz_1_5, cz_1_6, cz_1_7, cz_1_8, cz_1_9, cz_1_10, cz_1_11, cz_1_12, cz_1_13⟩ := pt_cells Rz_1
    have S2 := box B1.size
    have Lb_2 : Box (w.heap.size < w1.heap.size) := box (Array.getElem?_eq_some_iff.1 Rb_1).1
    have Lz_2 : Box (w.heap.size + 1 < w1.heap.size) := box (Array.getElem?_eq_some_iff.1 Rz_1).1
    have Rp_2 := heap_alloc_last w1 (Obj.cells (pt c 0 0 0) 75)
    have B2 := btr7 B1 (bal7 w1 (Obj.cells (pt c 0 0 0) 75))
    have Rb_2 := heap_of (bal7 w1 (Obj.cells (pt c 0 0 0) 75)) _ _ _ Rb_1
    have Rz_2 := heap_of (bal7 w1 (Obj.cells (pt c 0 0 0) 75)) _ _ _ Rz_1
    clear B1 Rb_1 cb_1_0 cb_1_1 Rz_1 cz_1_0 cz_1_1 cz_1_2 cz_1_3 cz_1_4 cz_1_5 cz_1_6 cz_1_7 cz_1_8 cz_1_9 cz_1_10 cz_1_11 cz_1_12 cz_1_13
    obtain ⟨cb_2_0, cb_2_1⟩ := cell7t Rb_2
    obtain ⟨cz_2_0, cz_2_1, cz_2_2, cz_2_3, cz_2_4, cz_2_5, cz_2_6, cz_2_7, cz_2_8, cz_2_9, cz_2_10, cz_2_11, cz_2_12, cz_2_13⟩ := pt_cells Rz_2
    obtain ⟨cp_2_0, cp_2_1, cp_2_2, cp_2_3, cp_2_4, cp_2_5, cp_2_6, cp_2_7, cp_2_8, cp_2_9, cp_2_10, cp_2_11, cp_2_12, cp_2_13⟩ := pt_cells Rp_2
    go_wp2_with fail
    refine (KF.out _ (fatB TT.out B2)).mono ?_
    rintro r w3 ⟨rfl, b3⟩
    have B3 : Below w.heap.size w w3 := btr7 B2 b3
    have Rb_3 := heap_of b3 _ _ _ Rb_2
    have Rz_3 := heap_of b3 _ _ _ Rz_2
    have Rp_3 := heap_of b3 _ _ _ Rp_2
    clear b3 B2 Rb_2 cb_2_0 cb_2_1 Rz_2 cz_2_0 cz_2_1 cz_2_2 cz_2_3 cz_2_4 cz_2_5 cz_2_6 cz_2_7 cz_2_8 cz_2_9 cz_2_10 cz_2_11 cz_2_12 cz_2_13 Rp_2 cp_2_0 cp_2_1 cp_2_2 cp_2_3 cp_2_4 cp_2_5 cp_2_6 cp_2_7 cp_2_8 cp_2_9 cp_2_10 cp_2_11 cp_2_12 cp_2_13
    obtain ⟨cb_3_0, cb_3_1⟩ := cell7t Rb_3
    obtain ⟨cz_3_0, cz_3_1, cz_3_2, cz_3_3, cz_3_4, cz_3_5, cz_3_6, cz_3_7, cz_3_8, cz_3_9, cz_3_10, cz_3_11, cz_3_12, cz_3_13⟩ := pt_cells Rz_3
    obtain ⟨cp_3_0, cp_3_1, cp_3_2, cp_3_3, cp_3_4, cp_3_5, cp_3_6, cp_3_7, cp_3_8, cp_3_9, cp_3_10, cp_3_11, cp_3_12, cp_3_13⟩ := pt_cells Rp_3
    go_wp2_with fail
    refine (KO.out _).mono ?_
    rintro r w4 ⟨rfl, b4⟩
    have B4 : Below w.heap.size w w4 := btr7 B3 b4
    have Rb_4 := heap_of b4 _ _ _ Rb_3
    have Rz_4 := heap_of b4 _ _ _ Rz_3
    have Rp_4 := heap_of b4 _ _ _ Rp_3
    clear b4 B3 Rb_3 cb_3_0 cb_3_1 Rz_3 cz_3_0 cz_3_1 cz_3_2 cz_3_3 cz_3_4 cz_3_5 cz_3_6 cz_3_7 cz_3_8 cz_3_9 cz_3_10 cz_3_11 cz_3_12 cz_3_13 Rp_3 cp_3_0 cp_3_1 cp_3_2 cp_3_3 cp_3_4 cp_3_5 cp_3_6 cp_3_7 cp_3_8 cp_3_9 cp_3_10 cp_3_11 cp_3_12 cp_3_13
    obtain ⟨cb_4_0, cb_4_1⟩ := cell7t Rb_4
    obtain ⟨cz_4_0, cz_4_1, cz_4_2, cz_4_3, cz_4_4, cz_4_5, cz_4_6, cz_4_7, cz_4_8, cz_4_9, cz_4_10, cz_4_11, cz_4_12, cz_4_13⟩ := pt_cells Rz_4
    obtain ⟨cp_4_0, cp_4_1, cp_4_2, cp_4_3, cp_4_4, cp_4_5, cp_4_6, cp_4_7, cp_4_8, cp_4_9, cp_4_10, cp_4_11, cp_4_12, cp_4_13⟩ := pt_cells Rp_4
    have S5 := box B4.size
    have Lb_5 : Box (w.heap.size < w4.heap.size) := box (Array.getElem?_eq_some_iff.1 Rb_4).1
    have Lz_5 : Box (w.heap.size + 1 < w4.heap.size) := box (Array.getElem?_eq_some_iff.1 Rz_4).1
    have Lp_5 : Box (w1.heap.size < w4.heap.size) := box (Array.getElem?_eq_some_iff.1 Rp_4).1
    have Rfr_5 := heap_alloc_last w4 (Obj.cells (cw 6 t) 42)
    have B5 := btr7 B4 (bal7 w4 (Obj.cells (cw 6 t) 42))
    have Rb_5 := heap_of (bal7 w4 (Obj.cells (cw 6 t) 42)) _ _ _ Rb_4
    have Rz_5 := heap_of (bal7 w4 (Obj.cells (cw 6 t) 42)) _ _ _ Rz_4
    have Rp_5 := heap_of (bal7 w4 (Obj.cells (cw 6 t) 42)) _ _ _ Rp_4
    clear B4 Rb_4 cb_4_0 cb_4_1 Rz_4 cz_4_0 cz_4_1 cz_4_2 cz_4_3 cz_4_4 cz_4_5 cz_4_6 cz_4_7 cz_4_8 cz_4_9 cz_4_10 cz_4_11 cz_4_12 cz_4_13 Rp_4 cp_4_0 cp_4_1 cp_4_2 cp_4_3 cp_4_4 cp_4_5 cp_4_6 cp_4_7 cp_4_8 cp_4_9 cp_4_10 cp_4_11 cp_4_12 cp_4_13
    obtain ⟨cb_5_0, cb_5_1⟩ := cell7t Rb_5
    obtain ⟨cz_5_0, cz_5_1, cz_5_2, cz_5_3, cz_5_4, cz_5_5, cz_5_6, cz_5_7, cz_5_8, cz_5_9, cz_5_10, cz_5_11, cz_5_12, cz_5_13⟩ := pt_cells Rz_5
    obtain ⟨cp_5_0, cp_5_1, cp_5_2, cp_5_3, cp_5_4, cp_5_5, cp_5_6, cp_5_7, cp_5_8, cp_5_9, cp_5_10, cp_5_11, cp_5_12, cp_5_13⟩ := pt_cells Rp_5
    have cfr_5_0 := row_cell Rfr_5
    have hstz := st_p (w4.alloc (Obj.cells (cw 6 t) 42)) (w.heap.size + 1) c 0 0 0 0 0 0 0 Rz_5
    have RZ := setRow_row (c' := pt c 0 0 0) Rz_5
    obtain ⟨dz0, dz1, dz2, dz3, dz4, dz5, dz6, dz7, dz8, dz9, dz10, dz11, dz12, dz13⟩ := pt_cells RZ
    have bz := bel_set (c := pt c 0 0 0) B5 (show w.heap.size ≤ w.heap.size + 1 by first | exact Nat.le_refl _ | omega | (have := S2.out; have := Lb_2.out; have := Lz_2.out; have := S5.out; have := Lb_5.out; have := Lz_5.out; have := Lp_5.out; omega))
    go_wp2
    exact bodyPost_ret (v := .agg (pt c 0 0 0)) (by simp [results, Tryd.results59, go_sem, dz0, dz1, dz2, dz3, dz4, dz5, dz6, dz7, dz8, dz9, dz10, dz11, dz12, dz13, ptf] <;> rfl) rfl ⟨rfl, bz⟩
  · have f8 : ((c : Int) == 8) = false := by rw [hc]; rfl
    have f9 : ((c : Int) == 9) = false := by rw [hc]; rfl
    have f2 : ((c : Int) == 2) = false := by rw [hc]; rfl
    have f5 : ((c : Int) == 5) = false := by rw [hc]; rfl
    have f1 : ((c : Int) == 1) = false := by rw [hc]; rfl
    have f6 : ((c : Int) == 6) = false := by rw [hc]; rfl
    clear hc
    obtain ⟨Rb_0, Rz_0, B0⟩ := kopn2 w (Obj.cells #[.int .u64 (x : Nat), .int .u64 (y : Nat)] 27) (Obj.cells (pt 0 0 0 0) 75)
    go_enter Tryd.func59, Tryd.ntmps59
    go_wp2_with fail
    refine (KC.out _ (fatB TT.out B0)).mono ?_
    rintro r w1 ⟨rfl, b1⟩
    have B1 : Below w.heap.size w w1 := btr7 B0 b1
    have Rb_1 := heap_of b1 _ _ _ Rb_0
    have Rz_1 := heap_of b1 _ _ _ Rz_0
    clear b1 B0 Rb_0 Rz_0
    obtain ⟨cb_1_0, cb_1_1⟩ := cell7t Rb_1
    obtain ⟨cz_1_0, cz_1_1, cz_1_2, cz_1_3, cz_1_4, cz_1_5, cz_1_6, cz_1_7, cz_1_8, cz_1_9, cz_1_10, cz_1_11, cz_1_12, cz_1_13⟩ := pt_cells Rz_1
    have S2 := box B1.size
    have Lb_2 : Box (w.heap.size < w1.heap.size) := box (Array.getElem?_eq_some_iff.1 Rb_1).1
    have Lz_2 : Box (w.heap.size + 1 < w1.heap.size) := box (Array.getElem?_eq_some_iff.1 Rz_1).1
    have Rp_2 := heap_alloc_last w1 (Obj.cells (pt c 0 0 0) 75)
    have B2 := btr7 B1 (bal7 w1 (Obj.cells (pt c 0 0 0) 75))
    have Rb_2 := heap_of (bal7 w1 (Obj.cells (pt c 0 0 0) 75)) _ _ _ Rb_1
    have Rz_2 := heap_of (bal7 w1 (Obj.cells (pt c 0 0 0) 75)) _ _ _ Rz_1
    clear B1 Rb_1 cb_1_0 cb_1_1 Rz_1 cz_1_0 cz_1_1 cz_1_2 cz_1_3 cz_1_4 cz_1_5 cz_1_6 cz_1_7 cz_1_8 cz_1_9 cz_1_10 cz_1_11 cz_1_12 cz_1_13
    obtain ⟨cb_2_0, cb_2_1⟩ := cell7t Rb_2
    obtain ⟨cz_2_0, cz_2_1, cz_2_2, cz_2_3, cz_2_4, cz_2_5, cz_2_6, cz_2_7, cz_2_8, cz_2_9, cz_2_10, cz_2_11, cz_2_12, cz_2_13⟩ := pt_cells Rz_2
    obtain ⟨cp_2_0, cp_2_1, cp_2_2, cp_2_3, cp_2_4, cp_2_5, cp_2_6, cp_2_7, cp_2_8, cp_2_9, cp_2_10, cp_2_11, cp_2_12, cp_2_13⟩ := pt_cells Rp_2
    go_wp2_with fail
    refine (KF.out _ (fatB TT.out B2)).mono ?_
    rintro r w3 ⟨rfl, b3⟩
    have B3 : Below w.heap.size w w3 := btr7 B2 b3
    have Rb_3 := heap_of b3 _ _ _ Rb_2
    have Rz_3 := heap_of b3 _ _ _ Rz_2
    have Rp_3 := heap_of b3 _ _ _ Rp_2
    clear b3 B2 Rb_2 cb_2_0 cb_2_1 Rz_2 cz_2_0 cz_2_1 cz_2_2 cz_2_3 cz_2_4 cz_2_5 cz_2_6 cz_2_7 cz_2_8 cz_2_9 cz_2_10 cz_2_11 cz_2_12 cz_2_13 Rp_2 cp_2_0 cp_2_1 cp_2_2 cp_2_3 cp_2_4 cp_2_5 cp_2_6 cp_2_7 cp_2_8 cp_2_9 cp_2_10 cp_2_11 cp_2_12 cp_2_13
    obtain ⟨cb_3_0, cb_3_1⟩ := cell7t Rb_3
    obtain ⟨cz_3_0, cz_3_1, cz_3_2, cz_3_3, cz_3_4, cz_3_5, cz_3_6, cz_3_7, cz_3_8, cz_3_9, cz_3_10, cz_3_11, cz_3_12, cz_3_13⟩ := pt_cells Rz_3
    obtain ⟨cp_3_0, cp_3_1, cp_3_2, cp_3_3, cp_3_4, cp_3_5, cp_3_6, cp_3_7, cp_3_8, cp_3_9, cp_3_10, cp_3_11, cp_3_12, cp_3_13⟩ := pt_cells Rp_3
    go_wp2_with fail
    refine (KO.out _).mono ?_
    rintro r w4 ⟨rfl, b4⟩
    have B4 : Below w.heap.size w w4 := btr7 B3 b4
    have Rb_4 := heap_of b4 _ _ _ Rb_3
    have Rz_4 := heap_of b4 _ _ _ Rz_3
    have Rp_4 := heap_of b4 _ _ _ Rp_3
    clear b4 B3 Rb_3 cb_3_0 cb_3_1 Rz_3 cz_3_0 cz_3_1 cz_3_2 cz_3_3 cz_3_4 cz_3_5 cz_3_6 cz_3_7 cz_3_8 cz_3_9 cz_3_10 cz_3_11 cz_3_12 cz_3_13 Rp_3 cp_3_0 cp_3_1 cp_3_2 cp_3_3 cp_3_4 cp_3_5 cp_3_6 cp_3_7 cp_3_8 cp_3_9 cp_3_10 cp_3_11 cp_3_12 cp_3_13
    obtain ⟨cb_4_0, cb_4_1⟩ := cell7t Rb_4
    obtain ⟨cz_4_0, cz_4_1, cz_4_2, cz_4_3, cz_4_4, cz_4_5, cz_4_6, cz_4_7, cz_4_8, cz_4_9, cz_4_10, cz_4_11, cz_4_12, cz_4_13⟩ := pt_cells Rz_4
    obtain ⟨cp_4_0, cp_4_1, cp_4_2, cp_4_3, cp_4_4, cp_4_5, cp_4_6, cp_4_7, cp_4_8, cp_4_9, cp_4_10, cp_4_11, cp_4_12, cp_4_13⟩ := pt_cells Rp_4
    have S5 := box B4.size
    have Lb_5 : Box (w.heap.size < w4.heap.size) := box (Array.getElem?_eq_some_iff.1 Rb_4).1
    have Lz_5 : Box (w.heap.size + 1 < w4.heap.size) := box (Array.getElem?_eq_some_iff.1 Rz_4).1
    have Lp_5 : Box (w1.heap.size < w4.heap.size) := box (Array.getElem?_eq_some_iff.1 Rp_4).1
    have Rfr_5 := heap_alloc_last w4 (Obj.cells (cw 6 t) 42)
    have B5 := btr7 B4 (bal7 w4 (Obj.cells (cw 6 t) 42))
    have Rb_5 := heap_of (bal7 w4 (Obj.cells (cw 6 t) 42)) _ _ _ Rb_4
    have Rz_5 := heap_of (bal7 w4 (Obj.cells (cw 6 t) 42)) _ _ _ Rz_4
    have Rp_5 := heap_of (bal7 w4 (Obj.cells (cw 6 t) 42)) _ _ _ Rp_4
    clear B4 Rb_4 cb_4_0 cb_4_1 Rz_4 cz_4_0 cz_4_1 cz_4_2 cz_4_3 cz_4_4 cz_4_5 cz_4_6 cz_4_7 cz_4_8 cz_4_9 cz_4_10 cz_4_11 cz_4_12 cz_4_13 Rp_4 cp_4_0 cp_4_1 cp_4_2 cp_4_3 cp_4_4 cp_4_5 cp_4_6 cp_4_7 cp_4_8 cp_4_9 cp_4_10 cp_4_11 cp_4_12 cp_4_13
    obtain ⟨cb_5_0, cb_5_1⟩ := cell7t Rb_5
    obtain ⟨cz_5_0, cz_5_1, cz_5_2, cz_5_3, cz_5_4, cz_5_5, cz_5_6, cz_5_7, cz_5_8, cz_5_9, cz_5_10, cz_5_11, cz_5_12, cz_5_13⟩ := pt_cells Rz_5
    obtain ⟨cp_5_0, cp_5_1, cp_5_2, cp_5_3, cp_5_4, cp_5_5, cp_5_6, cp_5_7, cp_5_8, cp_5_9, cp_5_10, cp_5_11, cp_5_12, cp_5_13⟩ := pt_cells Rp_5
    have cfr_5_0 := row_cell Rfr_5
    have hstz := st_p (w4.alloc (Obj.cells (cw 6 t) 42)) (w.heap.size + 1) c 0 0 0 0 0 0 0 Rz_5
    have RZ := setRow_row (c' := pt c 0 0 0) Rz_5
    obtain ⟨dz0, dz1, dz2, dz3, dz4, dz5, dz6, dz7, dz8, dz9, dz10, dz11, dz12, dz13⟩ := pt_cells RZ
    have bz := bel_set (c := pt c 0 0 0) B5 (show w.heap.size ≤ w.heap.size + 1 by first | exact Nat.le_refl _ | omega | (have := S2.out; have := Lb_2.out; have := Lz_2.out; have := S5.out; have := Lb_5.out; have := Lz_5.out; have := Lp_5.out; omega))
    go_wp2
    exact bodyPost_ret (v := .agg (pt c 0 0 0)) (by simp [results, Tryd.results59, go_sem, dz0, dz1, dz2, dz3, dz4, dz5, dz6, dz7, dz8, dz9, dz10, dz11, dz12, dz13, ptf] <;> rfl) rfl ⟨rfl, bz⟩
end Go.Proofs.YtpdehipeakcaiaaDoor
