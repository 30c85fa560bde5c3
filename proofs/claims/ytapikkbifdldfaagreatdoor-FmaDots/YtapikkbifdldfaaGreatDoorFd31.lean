/-
  What the functions that the statement reaches return: part 31 (FA).
-/
import Derived.Test.YtapikkbifdldfaaGreatDoorFd30
namespace Go.Proofs.YtapikkbifdldfaaGreatDoor
set_option maxRecDepth 100000
set_option maxHeartbeats 40000000
set_option maxRecDepth 100000
open Go.RowKit WMath
set_option linter.unusedSimpArgs false
set_option linter.unusedVariables false
theorem gen_fma_total_8_9 {X : Act → World → Prop} {R : World → Nat → Nat → Prop} {t0 t1 t2 t3 t4 t5 t6 t7 t10 t11 t12 t13 t14 t15 t16 t17 t18 t19 t20 t21 t22 t23 t24 t25 t26 t27 t28 t29 t30 t31 t32 t33 t34 t35 t36 t37 t38 t39 t40 t41 t42 t43 t44 t45 t46 t47 t48 t49 t50 t51 t52 t53 t54 t55 t56 t57 t58 t59 t60 t61 t62 t63 t64 t65 t66 t67 : Value} {d : List Deferred} {W : World} {G1 G2 : Nat}
    (key : ∀ w5 g1 g2, R w5 g1 g2 → X ⟨#[t0, t1, t2, t3, t4, t5, t6, t7, .pointer (some ⟨g1, 0, none⟩), .pointer (some ⟨g2, 0, none⟩), t10, t11, t12, t13, t14, t15, t16, t17, t18, t19, t20, t21, t22, t23, t24, t25, t26, t27, t28, t29, t30, t31, t32, t33, t34, t35, t36, t37, t38, t39, t40, t41, t42, t43, t44, t45, t46, t47, t48, t49, t50, t51, t52, t53, t54, t55, t56, t57, t58, t59, t60, t61, t62, t63, t64, t65, t66, t67], d⟩ w5) (r : R W G1 G2) : X ⟨#[t0, t1, t2, t3, t4, t5, t6, t7, .pointer (some ⟨G1, 0, none⟩), .pointer (some ⟨G2, 0, none⟩), t10, t11, t12, t13, t14, t15, t16, t17, t18, t19, t20, t21, t22, t23, t24, t25, t26, t27, t28, t29, t30, t31, t32, t33, t34, t35, t36, t37, t38, t39, t40, t41, t42, t43, t44, t45, t46, t47, t48, t49, t50, t51, t52, t53, t54, t55, t56, t57, t58, t59, t60, t61, t62, t63, t64, t65, t66, t67], d⟩ W := key W G1 G2 r

theorem al_row20 (X : World) (Z : Obj) : ((X.alloc Z).alloc Z).heap[X.heap.size]? = some Z := row_al (heap_alloc_last X Z) Z
theorem al_row21 (X : World) (Z : Obj) : ((X.alloc Z).alloc Z).heap[X.heap.size + 1]? = some Z := by have := heap_alloc_last (X.alloc Z) Z; rw [size_al] at this; exact this
theorem nm_two {n0 : Nat} {X wq : World} {Z : Obj} (b : Below (X.heap.size + 1 + 1) ((X.alloc Z).alloc Z) wq) (h : n0 ≤ X.heap.size) : wq.heap[X.heap.size]? = some Z ∧ wq.heap[X.heap.size + 1]? = some Z ∧ n0 ≤ X.heap.size ∧ n0 ≤ X.heap.size + 1 ∧ X.heap.size < X.heap.size + 1 :=
  ⟨(b.block _ (by omega)).trans (al_row20 X Z), (b.block _ (by omega)).trans (al_row21 X Z), h, by omega, by omega⟩
theorem nm_one {n0 : Nat} {X wq : World} {Z : Obj} (b : Below (X.heap.size + 1) (X.alloc Z) wq) (h : n0 ≤ X.heap.size) : wq.heap[X.heap.size]? = some Z ∧ n0 ≤ X.heap.size :=
  ⟨(b.block _ (by omega)).trans (heap_alloc_last X Z), h⟩
theorem nm_twoD {n0 : Nat} {X wq : World} {Z : Obj} (b : Below ((X.alloc Z).alloc Z).drew.heap.size ((X.alloc Z).alloc Z).drew wq) (h : n0 ≤ X.drew.heap.size) : wq.heap[X.heap.size]? = some Z ∧ wq.heap[X.heap.size + 1]? = some Z ∧ n0 ≤ X.heap.size ∧ n0 ≤ X.heap.size + 1 ∧ X.heap.size < X.heap.size + 1 := by
  have b2 : Below ((X.alloc Z).alloc Z).heap.size ((X.alloc Z).alloc Z).drew wq := b
  rw [size_al, size_al] at b2
  have h2 : n0 ≤ X.heap.size := h
  exact ⟨(b2.block _ (by omega)).trans (al_row20 X Z), (b2.block _ (by omega)).trans (al_row21 X Z), h2, by omega, by omega⟩
theorem nm_oneD {n0 : Nat} {X wq : World} {Z : Obj} (b : Below (X.alloc Z).drew.heap.size (X.alloc Z).drew wq) (h : n0 ≤ X.drew.heap.size) : wq.heap[X.heap.size]? = some Z ∧ n0 ≤ X.heap.size := by
  have b2 : Below (X.alloc Z).heap.size (X.alloc Z).drew wq := b
  rw [size_al] at b2
  exact ⟨(b2.block _ (by omega)).trans (heap_alloc_last X Z), h⟩
theorem nm_oneK {n0 : Nat} {X wq : World} {Z : Obj} {g : Nat} (b : Below (X.heap.size + 1) (X.alloc Z) wq) (h : n0 ≤ X.heap.size) (hg : X.heap[g]? = some Z) (ge : n0 ≤ g) : wq.heap[g]? = some Z ∧ wq.heap[X.heap.size]? = some Z ∧ n0 ≤ g ∧ n0 ≤ X.heap.size ∧ g < X.heap.size := by
  have lt := (Array.getElem?_eq_some_iff.1 hg).1
  exact ⟨(b.block _ (by omega)).trans (row_al hg Z), (b.block _ (by omega)).trans (heap_alloc_last X Z), ge, h, lt⟩
theorem nm_keep1 {X wq : World} {Z : Obj} {g : Nat} (b : Below X.heap.size X wq) (hg : X.heap[g]? = some Z) : wq.heap[g]? = some Z :=
  (b.block _ (Array.getElem?_eq_some_iff.1 hg).1).trans hg
theorem nm_keep2 {X wq : World} {Z Y : Obj} {g j : Nat} (b : Below X.heap.size X wq) (hg : X.heap[g]? = some Z) (hj : X.heap[j]? = some Y) : wq.heap[g]? = some Z ∧ wq.heap[j]? = some Y := ⟨nm_keep1 b hg, nm_keep1 b hj⟩
theorem two_st (V : World) (a b : Nat) (ha : V.heap[a]? = some (.cells (cw 6 0) 52)) (hb : V.heap[b]? = some (.cells (cw 6 0) 52)) (d : a ≠ b) :
    (∀ x, (storeCells ⟨a, 0, none⟩ (cw 6 x).toList 0).run Tryz.prog V = .ok () (V.setRow a (cw 6 x))) ∧ (∀ x, (storeCells ⟨b, 0, none⟩ (cw 6 x).toList 0).run Tryz.prog V = .ok () (V.setRow b (cw 6 x))) ∧
    (∀ x y, (storeCells ⟨b, 0, none⟩ (cw 6 y).toList 0).run Tryz.prog (V.setRow a (cw 6 x)) = .ok () ((V.setRow a (cw 6 x)).setRow b (cw 6 y))) ∧ (∀ x y, (storeCells ⟨a, 0, none⟩ (cw 6 y).toList 0).run Tryz.prog (V.setRow b (cw 6 x)) = .ok () ((V.setRow b (cw 6 x)).setRow a (cw 6 y))) :=
  ⟨fun x => st_any V a x 0 ha, fun x => st_any V b x 0 hb, fun x y => st_any _ b y 0 ((setRow_other d).trans hb), fun x y => st_any _ a y 0 ((setRow_other (Ne.symm d)).trans ha)⟩
theorem set2r1 {V : World} {a b : Nat} {c x y : Array Value} {T : TypeId} (ha : V.heap[a]? = some (.cells c T)) (d : a ≠ b) : ((V.setRow a x).setRow b y).heap[a]? = some (.cells x T) := (setRow_other (Ne.symm d)).trans (setRow_row ha)
theorem set2r2 {V : World} {a b : Nat} {c x y : Array Value} {T : TypeId} (hb : V.heap[b]? = some (.cells c T)) (d : a ≠ b) : ((V.setRow a x).setRow b y).heap[b]? = some (.cells y T) := setRow_row ((setRow_other d).trans hb)
set_option maxRecDepth 100000 in
set_option maxHeartbeats 8000000 in
theorem fm_times (neg : Bool) (c1 m1 : Nat) (X1 : Int) (r1 c2 m2 : Nat) (X2 : Int) (r2 S : Nat) (E : Int) (ov : Bool) (w : World)
    (KM : Box (∀ w, Calls Tryz.prog 169 #[.agg (cw 6 m1), .agg (cw 6 m2)] w fun r w' => r = .returned (.tuple #[.agg (cw 6 S), .bool ov]) ∧ Below w.heap.size w w')) (hE : IntKind.i64.wrap (X1 + X2) = E) :
    Calls Tryz.prog 107 #[.bool neg, .agg (pt c1 m1 X1 r1), .agg (pt c2 m2 X2 r2)] w fun r w' => r = .returned (.agg (rg neg S E false)) ∧ Below w.heap.size w w' := by
  have hat := cw_at 6
  have hz := cw6z
  have hff := cw6f
  have hs0 := st0
  have hcs : ∀ x, ((cw 6 x).size = 6) = True := fun x => eq_true (cw_size 6 x)
  have hp1 := rgf
  have hp3 := rgz
  have hp4 := st_r0
  have hzi := cw_zip
  have hls := rg_sets
  have hp5 : ∀ (c : Bool) (s : Nat) (x : Int) (r : Bool), ((rg c s x r).size = 9) = True := fun _ _ _ _ => eq_true rfl
  have hq1 := ptf
  have hq5 : ∀ (c s : Nat) (x : Int) (r : Nat), ((pt c s x r).size = 14) = True := fun _ _ _ _ => eq_true rfl
  obtain ⟨Rx_0, Ry_0, Rz_0, B0⟩ := opn3 w (Obj.cells (pt c1 m1 X1 r1) 54) (Obj.cells (pt c2 m2 X2 r2) 54) (Obj.cells (rg false 0 0 false) 62)
  go_enter Tryz.func107, Tryz.ntmps107
  obtain ⟨cx_0_0, cx_0_1, cx_0_2, cx_0_3, cx_0_4, cx_0_5, cx_0_6, cx_0_7, cx_0_8, cx_0_9, cx_0_10, cx_0_11, cx_0_12, cx_0_13⟩ := pt_cells Rx_0
  obtain ⟨cy_0_0, cy_0_1, cy_0_2, cy_0_3, cy_0_4, cy_0_5, cy_0_6, cy_0_7, cy_0_8, cy_0_9, cy_0_10, cy_0_11, cy_0_12, cy_0_13⟩ := pt_cells Ry_0
  obtain ⟨cz_0_0, cz_0_1, cz_0_2, cz_0_3, cz_0_4, cz_0_5, cz_0_6, cz_0_7, cz_0_8⟩ := rg_cells Rz_0
  go_wp2_with fail
  refine (KM.out _).mono ?_
  rintro r w1 ⟨rfl, b1⟩
  have B1 : Below w.heap.size w w1 := btr B0 b1
  have Rx_1 := heap_of b1 _ _ _ Rx_0
  have Ry_1 := heap_of b1 _ _ _ Ry_0
  have Rz_1 := heap_of b1 _ _ _ Rz_0
  clear b1 B0 Rx_0 cx_0_0 cx_0_1 cx_0_2 cx_0_3 cx_0_4 cx_0_5 cx_0_6 cx_0_7 cx_0_8 cx_0_9 cx_0_10 cx_0_11 cx_0_12 cx_0_13 Ry_0 cy_0_0 cy_0_1 cy_0_2 cy_0_3 cy_0_4 cy_0_5 cy_0_6 cy_0_7 cy_0_8 cy_0_9 cy_0_10 cy_0_11 cy_0_12 cy_0_13 Rz_0 cz_0_0 cz_0_1 cz_0_2 cz_0_3 cz_0_4 cz_0_5 cz_0_6 cz_0_7 cz_0_8
  obtain ⟨cx_1_0, cx_1_1, cx_1_2, cx_1_3, cx_1_4, cx_1_5, cx_1_6, cx_1_7, cx_1_8, cx_1_9, cx_1_10, cx_1_11, cx_1_12, cx_1_13⟩ := pt_cells Rx_1
  obtain ⟨cy_1_0, cy_1_1, cy_1_2, cy_1_3, cy_1_4, cy_1_5, cy_1_6, cy_1_7, cy_1_8, cy_1_9, cy_1_10, cy_1_11, cy_1_12, cy_1_13⟩ := pt_cells Ry_1
  obtain ⟨cz_1_0, cz_1_1, cz_1_2, cz_1_3, cz_1_4, cz_1_5, cz_1_6, cz_1_7, cz_1_8⟩ := rg_cells Rz_1
  have S2 := box B1.size
  have Lx_2 : Box (w.heap.size < w1.heap.size) := box (Array.getElem?_eq_some_iff.1 Rx_1).1
  have Ly_2 : Box (w.heap.size + 1 < w1.heap.size) := box (Array.getElem?_eq_some_iff.1 Ry_1).1
  have Lz_2 : Box (w.heap.size + 1 + 1 < w1.heap.size) := box (Array.getElem?_eq_some_iff.1 Rz_1).1
  have Rs_2 := heap_alloc_last w1 (Obj.cells (cw 6 S) 52)
  have B2 := btr B1 (bal w1 (Obj.cells (cw 6 S) 52))
  have Rx_2 := heap_of (bal w1 (Obj.cells (cw 6 S) 52)) _ _ _ Rx_1
  have Ry_2 := heap_of (bal w1 (Obj.cells (cw 6 S) 52)) _ _ _ Ry_1
  have Rz_2 := heap_of (bal w1 (Obj.cells (cw 6 S) 52)) _ _ _ Rz_1
  clear B1 Rx_1 cx_1_0 cx_1_1 cx_1_2 cx_1_3 cx_1_4 cx_1_5 cx_1_6 cx_1_7 cx_1_8 cx_1_9 cx_1_10 cx_1_11 cx_1_12 cx_1_13 Ry_1 cy_1_0 cy_1_1 cy_1_2 cy_1_3 cy_1_4 cy_1_5 cy_1_6 cy_1_7 cy_1_8 cy_1_9 cy_1_10 cy_1_11 cy_1_12 cy_1_13 Rz_1 cz_1_0 cz_1_1 cz_1_2 cz_1_3 cz_1_4 cz_1_5 cz_1_6 cz_1_7 cz_1_8
  obtain ⟨cx_2_0, cx_2_1, cx_2_2, cx_2_3, cx_2_4, cx_2_5, cx_2_6, cx_2_7, cx_2_8, cx_2_9, cx_2_10, cx_2_11, cx_2_12, cx_2_13⟩ := pt_cells Rx_2
  obtain ⟨cy_2_0, cy_2_1, cy_2_2, cy_2_3, cy_2_4, cy_2_5, cy_2_6, cy_2_7, cy_2_8, cy_2_9, cy_2_10, cy_2_11, cy_2_12, cy_2_13⟩ := pt_cells Ry_2
  obtain ⟨cz_2_0, cz_2_1, cz_2_2, cz_2_3, cz_2_4, cz_2_5, cz_2_6, cz_2_7, cz_2_8⟩ := rg_cells Rz_2
  have cs_2_0 := row_cell Rs_2
  have hstz := st_r (w1.alloc (Obj.cells (cw 6 S) 52)) (w.heap.size + 1 + 1) neg S E false false 0 0 false Rz_2
  have RZ := setRow_row (c' := rg neg S E false) Rz_2
  obtain ⟨dz0, dz1, dz2, dz3, dz4, dz5, dz6, dz7, dz8⟩ := rg_cells RZ
  have bz := bel_set (c := rg neg S E false) B2 (show w.heap.size ≤ w.heap.size + 1 + 1 by first | exact Nat.le_refl _ | omega | (have := S2.out; have := Lx_2.out; have := Ly_2.out; have := Lz_2.out; omega))
  go_wp2
  exact bodyPost_ret (v := .agg (rg neg S E false)) (by simp [results, Tryz.results107, go_sem, dz0, dz1, dz2, dz3, dz4, dz5, dz6, dz7, dz8, rgf] <;> rfl) rfl ⟨rfl, bz⟩
set_option maxRecDepth 100000 in
set_option maxHeartbeats 8000000 in
theorem fm_top (neg : Bool) (s : Nat) (x : Int) (more : Bool) (l v : Int) (w : World)
    (KL : Box (∀ w, Calls Tryz.prog 86 #[.agg (cw 6 s)] w fun r w' => r = .returned (.int .i64 l) ∧ Below w.heap.size w w'))
    (h1 : IntKind.i64.wrap (x + l) = v) : Calls Tryz.prog 206 #[.agg (rg neg s x more)] w fun r w' => r = .returned (.int .i64 v) ∧ Below w.heap.size w w' := by
  have hat := cw_at 6
  have hz := cw6z
  have hff := cw6f
  have hs0 := st0
  have hcs : ∀ x, ((cw 6 x).size = 6) = True := fun x => eq_true (cw_size 6 x)
  obtain ⟨Rx_0, B0⟩ := opn1 w (Obj.cells (rg neg s x more) 62)
  go_enter Tryz.func206, Tryz.ntmps206
  have sS : Box (∀ W W1 : World, (Below w.heap.size w W ∧ W.heap[w.heap.size]? = some (Obj.cells (rg neg s x more) 62) ∧ W.cell? ⟨w.heap.size, 0, none⟩ = some (.bool neg) ∧ W.cell? ⟨w.heap.size, 1, none⟩ = some (.int .u64 ((wd s 0 : Nat) : Int)) ∧ W.cell? ⟨w.heap.size, 2, none⟩ = some (.int .u64 ((wd s 1 : Nat) : Int)) ∧ W.cell? ⟨w.heap.size, 3, none⟩ = some (.int .u64 ((wd s 2 : Nat) : Int)) ∧ W.cell? ⟨w.heap.size, 4, none⟩ = some (.int .u64 ((wd s 3 : Nat) : Int)) ∧ W.cell? ⟨w.heap.size, 5, none⟩ = some (.int .u64 ((wd s 4 : Nat) : Int)) ∧ W.cell? ⟨w.heap.size, 6, none⟩ = some (.int .u64 ((wd s 5 : Nat) : Int)) ∧ W.cell? ⟨w.heap.size, 7, none⟩ = some (.int .i64 x) ∧ W.cell? ⟨w.heap.size, 8, none⟩ = some (.bool more)) → Below W.heap.size W W1 → (Below w.heap.size w W1 ∧ W1.heap[w.heap.size]? = some (Obj.cells (rg neg s x more) 62) ∧ W1.cell? ⟨w.heap.size, 0, none⟩ = some (.bool neg) ∧ W1.cell? ⟨w.heap.size, 1, none⟩ = some (.int .u64 ((wd s 0 : Nat) : Int)) ∧ W1.cell? ⟨w.heap.size, 2, none⟩ = some (.int .u64 ((wd s 1 : Nat) : Int)) ∧ W1.cell? ⟨w.heap.size, 3, none⟩ = some (.int .u64 ((wd s 2 : Nat) : Int)) ∧ W1.cell? ⟨w.heap.size, 4, none⟩ = some (.int .u64 ((wd s 3 : Nat) : Int)) ∧ W1.cell? ⟨w.heap.size, 5, none⟩ = some (.int .u64 ((wd s 4 : Nat) : Int)) ∧ W1.cell? ⟨w.heap.size, 6, none⟩ = some (.int .u64 ((wd s 5 : Nat) : Int)) ∧ W1.cell? ⟨w.heap.size, 7, none⟩ = some (.int .i64 x) ∧ W1.cell? ⟨w.heap.size, 8, none⟩ = some (.bool more))) := box (fun W W1 h b => ⟨btr h.1 b, heap_of b _ _ _ h.2.1, cell7 (heap_of b _ _ _ h.2.1) 0 _ rfl, cell7 (heap_of b _ _ _ h.2.1) 1 _ rfl, cell7 (heap_of b _ _ _ h.2.1) 2 _ rfl, cell7 (heap_of b _ _ _ h.2.1) 3 _ rfl, cell7 (heap_of b _ _ _ h.2.1) 4 _ rfl, cell7 (heap_of b _ _ _ h.2.1) 5 _ rfl, cell7 (heap_of b _ _ _ h.2.1) 6 _ rfl, cell7 (heap_of b _ _ _ h.2.1) 7 _ rfl, cell7 (heap_of b _ _ _ h.2.1) 8 _ rfl⟩)
  have s0 : Below w.heap.size w ((w.alloc (Obj.cells (rg neg s x more) 62))).drew ∧ ((w.alloc (Obj.cells (rg neg s x more) 62))).drew.heap[w.heap.size]? = some (Obj.cells (rg neg s x more) 62) ∧ ((w.alloc (Obj.cells (rg neg s x more) 62))).drew.cell? ⟨w.heap.size, 0, none⟩ = some (.bool neg) ∧ ((w.alloc (Obj.cells (rg neg s x more) 62))).drew.cell? ⟨w.heap.size, 1, none⟩ = some (.int .u64 ((wd s 0 : Nat) : Int)) ∧ ((w.alloc (Obj.cells (rg neg s x more) 62))).drew.cell? ⟨w.heap.size, 2, none⟩ = some (.int .u64 ((wd s 1 : Nat) : Int)) ∧ ((w.alloc (Obj.cells (rg neg s x more) 62))).drew.cell? ⟨w.heap.size, 3, none⟩ = some (.int .u64 ((wd s 2 : Nat) : Int)) ∧ ((w.alloc (Obj.cells (rg neg s x more) 62))).drew.cell? ⟨w.heap.size, 4, none⟩ = some (.int .u64 ((wd s 3 : Nat) : Int)) ∧ ((w.alloc (Obj.cells (rg neg s x more) 62))).drew.cell? ⟨w.heap.size, 5, none⟩ = some (.int .u64 ((wd s 4 : Nat) : Int)) ∧ ((w.alloc (Obj.cells (rg neg s x more) 62))).drew.cell? ⟨w.heap.size, 6, none⟩ = some (.int .u64 ((wd s 5 : Nat) : Int)) ∧ ((w.alloc (Obj.cells (rg neg s x more) 62))).drew.cell? ⟨w.heap.size, 7, none⟩ = some (.int .i64 x) ∧ ((w.alloc (Obj.cells (rg neg s x more) 62))).drew.cell? ⟨w.heap.size, 8, none⟩ = some (.bool more) := ⟨B0.drew, Rx_0, cell7 (Rx_0) 0 _ rfl, cell7 (Rx_0) 1 _ rfl, cell7 (Rx_0) 2 _ rfl, cell7 (Rx_0) 3 _ rfl, cell7 (Rx_0) 4 _ rfl, cell7 (Rx_0) 5 _ rfl, cell7 (Rx_0) 6 _ rfl, cell7 (Rx_0) 7 _ rfl, cell7 (Rx_0) 8 _ rfl⟩
  go_wp2_with fail
  go_region_held3 (fun W => Below w.heap.size w W ∧ W.heap[w.heap.size]? = some (Obj.cells (rg neg s x more) 62) ∧ W.cell? ⟨w.heap.size, 0, none⟩ = some (.bool neg) ∧ W.cell? ⟨w.heap.size, 1, none⟩ = some (.int .u64 ((wd s 0 : Nat) : Int)) ∧ W.cell? ⟨w.heap.size, 2, none⟩ = some (.int .u64 ((wd s 1 : Nat) : Int)) ∧ W.cell? ⟨w.heap.size, 3, none⟩ = some (.int .u64 ((wd s 2 : Nat) : Int)) ∧ W.cell? ⟨w.heap.size, 4, none⟩ = some (.int .u64 ((wd s 3 : Nat) : Int)) ∧ W.cell? ⟨w.heap.size, 5, none⟩ = some (.int .u64 ((wd s 4 : Nat) : Int)) ∧ W.cell? ⟨w.heap.size, 6, none⟩ = some (.int .u64 ((wd s 5 : Nat) : Int)) ∧ W.cell? ⟨w.heap.size, 7, none⟩ = some (.int .i64 x) ∧ W.cell? ⟨w.heap.size, 8, none⟩ = some (.bool more)) (first | exact s1 | exact s0)
    (first | (go_at_call 86; (first | refine (KL.out _).mono ?_ | refine (KL.out _).mono ?_); rintro r wq ⟨rfl, bq⟩; have s1 := (by first | exact sS.out _ _ s1 bq | exact sS.out _ _ s0 bq); clear bq) | fail)
  have B1 := (And.left s1)
  have Rx_1 := s1.2.1
  clear s0 s1 sS B0 Rx_0
  obtain ⟨cx_1_0, cx_1_1, cx_1_2, cx_1_3, cx_1_4, cx_1_5, cx_1_6, cx_1_7, cx_1_8⟩ := rg_cells Rx_1
  go_wp2
  go_ret
  exact ⟨rfl, B1⟩
set_option maxRecDepth 100000 in
set_option maxHeartbeats 8000000 in
theorem fm_lowest (n1 : Bool) (e1 : Nat) (X1 : Int) (n2 : Bool) (e2 : Nat) (X2 : Int) (t1 t2 t v : Int) (w : World) (hq1 : e1 < Q) (hq2 : e2 < Q)
    (K1 : Box (∀ w, Calls Tryz.prog 206 #[.agg (rg n1 e1 X1 false)] w fun r w' => r = .returned (.int .i64 t1) ∧ Below w.heap.size w w')) (K2 : Box (∀ w, Calls Tryz.prog 206 #[.agg (rg n2 e2 X2 false)] w fun r w' => r = .returned (.int .i64 t2) ∧ Below w.heap.size w w')) (hM : max t1 t2 = t)
    (H : Box (((e1 = 0) = True ∧ IntKind.i64.wrap (t2 - 383) = v) ∨ ((e1 = 0) = False ∧ (e2 = 0) = True ∧ IntKind.i64.wrap (t1 - 383) = v) ∨ ((e1 = 0) = False ∧ (e2 = 0) = False ∧ IntKind.i64.wrap (t - 383) = v))) :
    Calls Tryz.prog 166 #[.agg (rg n1 e1 X1 false), .agg (rg n2 e2 X2 false)] w fun r w' => r = .returned (.int .i64 v) ∧ Below w.heap.size w w' := by
  have hat := cw_at 6
  have hz := cw6z
  have hff := cw6f
  have hs0 := st0
  have hcs : ∀ x, ((cw 6 x).size = 6) = True := fun x => eq_true (cw_size 6 x)
  have hp1 := rgf
  have heq := eq6
  have hg6 := eqg6
  have hQ0 := Q_pos
  obtain ⟨Rx_0, Ry_0, B0⟩ := opn2 w (Obj.cells (rg n1 e1 X1 false) 62) (Obj.cells (rg n2 e2 X2 false) 62)
  go_enter Tryz.func166, Tryz.ntmps166
  obtain ⟨cx_0_0, cx_0_1, cx_0_2, cx_0_3, cx_0_4, cx_0_5, cx_0_6, cx_0_7, cx_0_8⟩ := rg_cells Rx_0
  obtain ⟨cy_0_0, cy_0_1, cy_0_2, cy_0_3, cy_0_4, cy_0_5, cy_0_6, cy_0_7, cy_0_8⟩ := rg_cells Ry_0
  rcases H.out with ⟨h1, hv⟩ | ⟨h1, h2, hv⟩ | ⟨h1, h2, hv⟩
  · clear H
    go_wp2_with fail
    refine (K2.out _).mono ?_
    rintro r w1 ⟨rfl, b1⟩
    have B1 : Below w.heap.size w w1 := btr B0 b1
    have Rx_1 := heap_of b1 _ _ _ Rx_0
    have Ry_1 := heap_of b1 _ _ _ Ry_0
    clear b1 B0 Rx_0 cx_0_0 cx_0_1 cx_0_2 cx_0_3 cx_0_4 cx_0_5 cx_0_6 cx_0_7 cx_0_8 Ry_0 cy_0_0 cy_0_1 cy_0_2 cy_0_3 cy_0_4 cy_0_5 cy_0_6 cy_0_7 cy_0_8
    obtain ⟨cx_1_0, cx_1_1, cx_1_2, cx_1_3, cx_1_4, cx_1_5, cx_1_6, cx_1_7, cx_1_8⟩ := rg_cells Rx_1
    obtain ⟨cy_1_0, cy_1_1, cy_1_2, cy_1_3, cy_1_4, cy_1_5, cy_1_6, cy_1_7, cy_1_8⟩ := rg_cells Ry_1
    go_wp2
    go_ret
    exact ⟨rfl, B1⟩
  · clear H
    go_wp2_with fail
    refine (K1.out _).mono ?_
    rintro r w1 ⟨rfl, b1⟩
    have B1 : Below w.heap.size w w1 := btr B0 b1
    have Rx_1 := heap_of b1 _ _ _ Rx_0
    have Ry_1 := heap_of b1 _ _ _ Ry_0
    clear b1 B0 Rx_0 cx_0_0 cx_0_1 cx_0_2 cx_0_3 cx_0_4 cx_0_5 cx_0_6 cx_0_7 cx_0_8 Ry_0 cy_0_0 cy_0_1 cy_0_2 cy_0_3 cy_0_4 cy_0_5 cy_0_6 cy_0_7 cy_0_8
    obtain ⟨cx_1_0, cx_1_1, cx_1_2, cx_1_3, cx_1_4, cx_1_5, cx_1_6, cx_1_7, cx_1_8⟩ := rg_cells Rx_1
    obtain ⟨cy_1_0, cy_1_1, cy_1_2, cy_1_3, cy_1_4, cy_1_5, cy_1_6, cy_1_7, cy_1_8⟩ := rg_cells Ry_1
    go_wp2
    go_ret
    exact ⟨rfl, B1⟩
  · clear H
    have sS : Box (∀ W W1 : World, (Below w.heap.size w W ∧ W.heap[w.heap.size]? = some (Obj.cells (rg n1 e1 X1 false) 62) ∧ W.heap[w.heap.size + 1]? = some (Obj.cells (rg n2 e2 X2 false) 62) ∧ W.cell? ⟨w.heap.size, 0, none⟩ = some (.bool n1) ∧ W.cell? ⟨w.heap.size, 1, none⟩ = some (.int .u64 ((wd e1 0 : Nat) : Int)) ∧ W.cell? ⟨w.heap.size, 2, none⟩ = some (.int .u64 ((wd e1 1 : Nat) : Int)) ∧ W.cell? ⟨w.heap.size, 3, none⟩ = some (.int .u64 ((wd e1 2 : Nat) : Int)) ∧ W.cell? ⟨w.heap.size, 4, none⟩ = some (.int .u64 ((wd e1 3 : Nat) : Int)) ∧ W.cell? ⟨w.heap.size, 5, none⟩ = some (.int .u64 ((wd e1 4 : Nat) : Int)) ∧ W.cell? ⟨w.heap.size, 6, none⟩ = some (.int .u64 ((wd e1 5 : Nat) : Int)) ∧ W.cell? ⟨w.heap.size, 7, none⟩ = some (.int .i64 X1) ∧ W.cell? ⟨w.heap.size, 8, none⟩ = some (.bool false) ∧ W.cell? ⟨w.heap.size + 1, 0, none⟩ = some (.bool n2) ∧ W.cell? ⟨w.heap.size + 1, 1, none⟩ = some (.int .u64 ((wd e2 0 : Nat) : Int)) ∧ W.cell? ⟨w.heap.size + 1, 2, none⟩ = some (.int .u64 ((wd e2 1 : Nat) : Int)) ∧ W.cell? ⟨w.heap.size + 1, 3, none⟩ = some (.int .u64 ((wd e2 2 : Nat) : Int)) ∧ W.cell? ⟨w.heap.size + 1, 4, none⟩ = some (.int .u64 ((wd e2 3 : Nat) : Int)) ∧ W.cell? ⟨w.heap.size + 1, 5, none⟩ = some (.int .u64 ((wd e2 4 : Nat) : Int)) ∧ W.cell? ⟨w.heap.size + 1, 6, none⟩ = some (.int .u64 ((wd e2 5 : Nat) : Int)) ∧ W.cell? ⟨w.heap.size + 1, 7, none⟩ = some (.int .i64 X2) ∧ W.cell? ⟨w.heap.size + 1, 8, none⟩ = some (.bool false)) → Below W.heap.size W W1 → (Below w.heap.size w W1 ∧ W1.heap[w.heap.size]? = some (Obj.cells (rg n1 e1 X1 false) 62) ∧ W1.heap[w.heap.size + 1]? = some (Obj.cells (rg n2 e2 X2 false) 62) ∧ W1.cell? ⟨w.heap.size, 0, none⟩ = some (.bool n1) ∧ W1.cell? ⟨w.heap.size, 1, none⟩ = some (.int .u64 ((wd e1 0 : Nat) : Int)) ∧ W1.cell? ⟨w.heap.size, 2, none⟩ = some (.int .u64 ((wd e1 1 : Nat) : Int)) ∧ W1.cell? ⟨w.heap.size, 3, none⟩ = some (.int .u64 ((wd e1 2 : Nat) : Int)) ∧ W1.cell? ⟨w.heap.size, 4, none⟩ = some (.int .u64 ((wd e1 3 : Nat) : Int)) ∧ W1.cell? ⟨w.heap.size, 5, none⟩ = some (.int .u64 ((wd e1 4 : Nat) : Int)) ∧ W1.cell? ⟨w.heap.size, 6, none⟩ = some (.int .u64 ((wd e1 5 : Nat) : Int)) ∧ W1.cell? ⟨w.heap.size, 7, none⟩ = some (.int .i64 X1) ∧ W1.cell? ⟨w.heap.size, 8, none⟩ = some (.bool false) ∧ W1.cell? ⟨w.heap.size + 1, 0, none⟩ = some (.bool n2) ∧ W1.cell? ⟨w.heap.size + 1, 1, none⟩ = some (.int .u64 ((wd e2 0 : Nat) : Int)) ∧ W1.cell? ⟨w.heap.size + 1, 2, none⟩ = some (.int .u64 ((wd e2 1 : Nat) : Int)) ∧ W1.cell? ⟨w.heap.size + 1, 3, none⟩ = some (.int .u64 ((wd e2 2 : Nat) : Int)) ∧ W1.cell? ⟨w.heap.size + 1, 4, none⟩ = some (.int .u64 ((wd e2 3 : Nat) : Int)) ∧ W1.cell? ⟨w.heap.size + 1, 5, none⟩ = some (.int .u64 ((wd e2 4 : Nat) : Int)) ∧ W1.cell? ⟨w.heap.size + 1, 6, none⟩ = some (.int .u64 ((wd e2 5 : Nat) : Int)) ∧ W1.cell? ⟨w.heap.size + 1, 7, none⟩ = some (.int .i64 X2) ∧ W1.cell? ⟨w.heap.size + 1, 8, none⟩ = some (.bool false))) := box (fun W W1 h b => ⟨btr h.1 b, heap_of b _ _ _ h.2.1, heap_of b _ _ _ h.2.2.1, cell7 (heap_of b _ _ _ h.2.1) 0 _ rfl, cell7 (heap_of b _ _ _ h.2.1) 1 _ rfl, cell7 (heap_of b _ _ _ h.2.1) 2 _ rfl, cell7 (heap_of b _ _ _ h.2.1) 3 _ rfl, cell7 (heap_of b _ _ _ h.2.1) 4 _ rfl, cell7 (heap_of b _ _ _ h.2.1) 5 _ rfl, cell7 (heap_of b _ _ _ h.2.1) 6 _ rfl, cell7 (heap_of b _ _ _ h.2.1) 7 _ rfl, cell7 (heap_of b _ _ _ h.2.1) 8 _ rfl, cell7 (heap_of b _ _ _ h.2.2.1) 0 _ rfl, cell7 (heap_of b _ _ _ h.2.2.1) 1 _ rfl, cell7 (heap_of b _ _ _ h.2.2.1) 2 _ rfl, cell7 (heap_of b _ _ _ h.2.2.1) 3 _ rfl, cell7 (heap_of b _ _ _ h.2.2.1) 4 _ rfl, cell7 (heap_of b _ _ _ h.2.2.1) 5 _ rfl, cell7 (heap_of b _ _ _ h.2.2.1) 6 _ rfl, cell7 (heap_of b _ _ _ h.2.2.1) 7 _ rfl, cell7 (heap_of b _ _ _ h.2.2.1) 8 _ rfl⟩)
    have s0 : Below w.heap.size w (((w.alloc (Obj.cells (rg n1 e1 X1 false) 62)).alloc (Obj.cells (rg n2 e2 X2 false) 62))).drew ∧ (((w.alloc (Obj.cells (rg n1 e1 X1 false) 62)).alloc (Obj.cells (rg n2 e2 X2 false) 62))).drew.heap[w.heap.size]? = some (Obj.cells (rg n1 e1 X1 false) 62) ∧ (((w.alloc (Obj.cells (rg n1 e1 X1 false) 62)).alloc (Obj.cells (rg n2 e2 X2 false) 62))).drew.heap[w.heap.size + 1]? = some (Obj.cells (rg n2 e2 X2 false) 62) ∧ (((w.alloc (Obj.cells (rg n1 e1 X1 false) 62)).alloc (Obj.cells (rg n2 e2 X2 false) 62))).drew.cell? ⟨w.heap.size, 0, none⟩ = some (.bool n1) ∧ (((w.alloc (Obj.cells (rg n1 e1 X1 false) 62)).alloc (Obj.cells (rg n2 e2 X2 false) 62))).drew.cell? ⟨w.heap.size, 1, none⟩ = some (.int .u64 ((wd e1 0 : Nat) : Int)) ∧ (((w.alloc (Obj.cells (rg n1 e1 X1 false) 62)).alloc (Obj.cells (rg n2 e2 X2 false) 62))).drew.cell? ⟨w.heap.size, 2, none⟩ = some (.int .u64 ((wd e1 1 : Nat) : Int)) ∧ (((w.alloc (Obj.cells (rg n1 e1 X1 false) 62)).alloc (Obj.cells (rg n2 e2 X2 false) 62))).drew.cell? ⟨w.heap.size, 3, none⟩ = some (.int .u64 ((wd e1 2 : Nat) : Int)) ∧ (((w.alloc (Obj.cells (rg n1 e1 X1 false) 62)).alloc (Obj.cells (rg n2 e2 X2 false) 62))).drew.cell? ⟨w.heap.size, 4, none⟩ = some (.int .u64 ((wd e1 3 : Nat) : Int)) ∧ (((w.alloc (Obj.cells (rg n1 e1 X1 false) 62)).alloc (Obj.cells (rg n2 e2 X2 false) 62))).drew.cell? ⟨w.heap.size, 5, none⟩ = some (.int .u64 ((wd e1 4 : Nat) : Int)) ∧ (((w.alloc (Obj.cells (rg n1 e1 X1 false) 62)).alloc (Obj.cells (rg n2 e2 X2 false) 62))).drew.cell? ⟨w.heap.size, 6, none⟩ = some (.int .u64 ((wd e1 5 : Nat) : Int)) ∧ (((w.alloc (Obj.cells (rg n1 e1 X1 false) 62)).alloc (Obj.cells (rg n2 e2 X2 false) 62))).drew.cell? ⟨w.heap.size, 7, none⟩ = some (.int .i64 X1) ∧ (((w.alloc (Obj.cells (rg n1 e1 X1 false) 62)).alloc (Obj.cells (rg n2 e2 X2 false) 62))).drew.cell? ⟨w.heap.size, 8, none⟩ = some (.bool false) ∧ (((w.alloc (Obj.cells (rg n1 e1 X1 false) 62)).alloc (Obj.cells (rg n2 e2 X2 false) 62))).drew.cell? ⟨w.heap.size + 1, 0, none⟩ = some (.bool n2) ∧ (((w.alloc (Obj.cells (rg n1 e1 X1 false) 62)).alloc (Obj.cells (rg n2 e2 X2 false) 62))).drew.cell? ⟨w.heap.size + 1, 1, none⟩ = some (.int .u64 ((wd e2 0 : Nat) : Int)) ∧ (((w.alloc (Obj.cells (rg n1 e1 X1 false) 62)).alloc (Obj.cells (rg n2 e2 X2 false) 62))).drew.cell? ⟨w.heap.size + 1, 2, none⟩ = some (.int .u64 ((wd e2 1 : Nat) : Int)) ∧ (((w.alloc (Obj.cells (rg n1 e1 X1 false) 62)).alloc (Obj.cells (rg n2 e2 X2 false) 62))).drew.cell? ⟨w.heap.size + 1, 3, none⟩ = some (.int .u64 ((wd e2 2 : Nat) : Int)) ∧ (((w.alloc (Obj.cells (rg n1 e1 X1 false) 62)).alloc (Obj.cells (rg n2 e2 X2 false) 62))).drew.cell? ⟨w.heap.size + 1, 4, none⟩ = some (.int .u64 ((wd e2 3 : Nat) : Int)) ∧ (((w.alloc (Obj.cells (rg n1 e1 X1 false) 62)).alloc (Obj.cells (rg n2 e2 X2 false) 62))).drew.cell? ⟨w.heap.size + 1, 5, none⟩ = some (.int .u64 ((wd e2 4 : Nat) : Int)) ∧ (((w.alloc (Obj.cells (rg n1 e1 X1 false) 62)).alloc (Obj.cells (rg n2 e2 X2 false) 62))).drew.cell? ⟨w.heap.size + 1, 6, none⟩ = some (.int .u64 ((wd e2 5 : Nat) : Int)) ∧ (((w.alloc (Obj.cells (rg n1 e1 X1 false) 62)).alloc (Obj.cells (rg n2 e2 X2 false) 62))).drew.cell? ⟨w.heap.size + 1, 7, none⟩ = some (.int .i64 X2) ∧ (((w.alloc (Obj.cells (rg n1 e1 X1 false) 62)).alloc (Obj.cells (rg n2 e2 X2 false) 62))).drew.cell? ⟨w.heap.size + 1, 8, none⟩ = some (.bool false) := ⟨B0.drew, Rx_0, Ry_0, cell7 (Rx_0) 0 _ rfl, cell7 (Rx_0) 1 _ rfl, cell7 (Rx_0) 2 _ rfl, cell7 (Rx_0) 3 _ rfl, cell7 (Rx_0) 4 _ rfl, cell7 (Rx_0) 5 _ rfl, cell7 (Rx_0) 6 _ rfl, cell7 (Rx_0) 7 _ rfl, cell7 (Rx_0) 8 _ rfl, cell7 (Ry_0) 0 _ rfl, cell7 (Ry_0) 1 _ rfl, cell7 (Ry_0) 2 _ rfl, cell7 (Ry_0) 3 _ rfl, cell7 (Ry_0) 4 _ rfl, cell7 (Ry_0) 5 _ rfl, cell7 (Ry_0) 6 _ rfl, cell7 (Ry_0) 7 _ rfl, cell7 (Ry_0) 8 _ rfl⟩
    go_wp2_with fail
    go_region_held3 (fun W => Below w.heap.size w W ∧ W.heap[w.heap.size]? = some (Obj.cells (rg n1 e1 X1 false) 62) ∧ W.heap[w.heap.size + 1]? = some (Obj.cells (rg n2 e2 X2 false) 62) ∧ W.cell? ⟨w.heap.size, 0, none⟩ = some (.bool n1) ∧ W.cell? ⟨w.heap.size, 1, none⟩ = some (.int .u64 ((wd e1 0 : Nat) : Int)) ∧ W.cell? ⟨w.heap.size, 2, none⟩ = some (.int .u64 ((wd e1 1 : Nat) : Int)) ∧ W.cell? ⟨w.heap.size, 3, none⟩ = some (.int .u64 ((wd e1 2 : Nat) : Int)) ∧ W.cell? ⟨w.heap.size, 4, none⟩ = some (.int .u64 ((wd e1 3 : Nat) : Int)) ∧ W.cell? ⟨w.heap.size, 5, none⟩ = some (.int .u64 ((wd e1 4 : Nat) : Int)) ∧ W.cell? ⟨w.heap.size, 6, none⟩ = some (.int .u64 ((wd e1 5 : Nat) : Int)) ∧ W.cell? ⟨w.heap.size, 7, none⟩ = some (.int .i64 X1) ∧ W.cell? ⟨w.heap.size, 8, none⟩ = some (.bool false) ∧ W.cell? ⟨w.heap.size + 1, 0, none⟩ = some (.bool n2) ∧ W.cell? ⟨w.heap.size + 1, 1, none⟩ = some (.int .u64 ((wd e2 0 : Nat) : Int)) ∧ W.cell? ⟨w.heap.size + 1, 2, none⟩ = some (.int .u64 ((wd e2 1 : Nat) : Int)) ∧ W.cell? ⟨w.heap.size + 1, 3, none⟩ = some (.int .u64 ((wd e2 2 : Nat) : Int)) ∧ W.cell? ⟨w.heap.size + 1, 4, none⟩ = some (.int .u64 ((wd e2 3 : Nat) : Int)) ∧ W.cell? ⟨w.heap.size + 1, 5, none⟩ = some (.int .u64 ((wd e2 4 : Nat) : Int)) ∧ W.cell? ⟨w.heap.size + 1, 6, none⟩ = some (.int .u64 ((wd e2 5 : Nat) : Int)) ∧ W.cell? ⟨w.heap.size + 1, 7, none⟩ = some (.int .i64 X2) ∧ W.cell? ⟨w.heap.size + 1, 8, none⟩ = some (.bool false)) (first | exact s1 | exact s0)
      (first | (go_at_call_of 206 (Value.agg (rg n1 e1 X1 false)); (first | refine (K1.out _).mono ?_ | refine (K1.out _).mono ?_); rintro r wq ⟨rfl, bq⟩; have s1 := (by first | exact sS.out _ _ s1 bq | exact sS.out _ _ s0 bq); clear bq) | (go_at_call_of 206 (Value.agg (rg n2 e2 X2 false)); (first | refine (K2.out _).mono ?_ | refine (K2.out _).mono ?_); rintro r wq ⟨rfl, bq⟩; have s1 := (by first | exact sS.out _ _ s1 bq | exact sS.out _ _ s0 bq); clear bq) | fail)
    have B1 := (And.left s1)
    have Rx_1 := s1.2.1
    have Ry_1 := s1.2.2.1
    clear s0 s1 sS B0 Rx_0 cx_0_0 cx_0_1 cx_0_2 cx_0_3 cx_0_4 cx_0_5 cx_0_6 cx_0_7 cx_0_8 Ry_0 cy_0_0 cy_0_1 cy_0_2 cy_0_3 cy_0_4 cy_0_5 cy_0_6 cy_0_7 cy_0_8
    obtain ⟨cx_1_0, cx_1_1, cx_1_2, cx_1_3, cx_1_4, cx_1_5, cx_1_6, cx_1_7, cx_1_8⟩ := rg_cells Rx_1
    obtain ⟨cy_1_0, cy_1_1, cy_1_2, cy_1_3, cy_1_4, cy_1_5, cy_1_6, cy_1_7, cy_1_8⟩ := rg_cells Ry_1
    go_wp2
    go_ret
    exact ⟨rfl, B1⟩
set_option maxRecDepth 100000 in
set_option maxHeartbeats 8000000 in
theorem fm_from (neg : Bool) (s : Nat) (x low A1 A2 : Int) (R S : Nat) (o : Bool) (w : World)
    (K1 : Box (∀ w, Calls Tryz.prog 126 #[.agg (cw 6 s), .int .i64 A1] w fun r w' => r = .returned (.tuple #[.agg (cw 6 R), .bool o]) ∧ Below w.heap.size w w'))
    (K2 : Box (∀ w, Calls Tryz.prog 176 #[.agg (cw 6 R), .int .i64 A2] w fun r w' => r = .returned (.agg (cw 6 S)) ∧ Below w.heap.size w w'))
    (h1 : IntKind.i64.wrap (x - low) = A1) (h2 : IntKind.i64.wrap (low - x) = A2) : Calls Tryz.prog 167 #[.agg (rg neg s x false), .int .i64 low] w fun r w' => r = .returned (.agg (cw 6 S)) ∧ Below w.heap.size w w' := by
  have hat := cw_at 6
  have hz := cw6z
  have hff := cw6f
  have hs0 := st0
  have hcs : ∀ x, ((cw 6 x).size = 6) = True := fun x => eq_true (cw_size 6 x)
  have hp1 := rgf
  obtain ⟨Rx_0, Rz_0, B0⟩ := opn2 w (Obj.cells (rg neg s x false) 62) (Obj.cells (cw 6 0) 52)
  go_enter Tryz.func167, Tryz.ntmps167
  obtain ⟨cx_0_0, cx_0_1, cx_0_2, cx_0_3, cx_0_4, cx_0_5, cx_0_6, cx_0_7, cx_0_8⟩ := rg_cells Rx_0
  have cz_0_0 := row_cell Rz_0
  go_wp2_with fail
  refine (K1.out _).mono ?_
  rintro r w1 ⟨rfl, b1⟩
  have B1 : Below w.heap.size w w1 := btr B0 b1
  have Rx_1 := heap_of b1 _ _ _ Rx_0
  have Rz_1 := heap_of b1 _ _ _ Rz_0
  clear b1 B0 Rx_0 cx_0_0 cx_0_1 cx_0_2 cx_0_3 cx_0_4 cx_0_5 cx_0_6 cx_0_7 cx_0_8 Rz_0 cz_0_0
  obtain ⟨cx_1_0, cx_1_1, cx_1_2, cx_1_3, cx_1_4, cx_1_5, cx_1_6, cx_1_7, cx_1_8⟩ := rg_cells Rx_1
  have cz_1_0 := row_cell Rz_1
  have S2 := box B1.size
  have Lx_2 : Box (w.heap.size < w1.heap.size) := box (Array.getElem?_eq_some_iff.1 Rx_1).1
  have Lz_2 : Box (w.heap.size + 1 < w1.heap.size) := box (Array.getElem?_eq_some_iff.1 Rz_1).1
  have Ru_2 := heap_alloc_last w1 (Obj.cells (cw 6 R) 52)
  have B2 := btr B1 (bal w1 (Obj.cells (cw 6 R) 52))
  have Rx_2 := heap_of (bal w1 (Obj.cells (cw 6 R) 52)) _ _ _ Rx_1
  have Rz_2 := heap_of (bal w1 (Obj.cells (cw 6 R) 52)) _ _ _ Rz_1
  clear B1 Rx_1 cx_1_0 cx_1_1 cx_1_2 cx_1_3 cx_1_4 cx_1_5 cx_1_6 cx_1_7 cx_1_8 Rz_1 cz_1_0
  obtain ⟨cx_2_0, cx_2_1, cx_2_2, cx_2_3, cx_2_4, cx_2_5, cx_2_6, cx_2_7, cx_2_8⟩ := rg_cells Rx_2
  have cz_2_0 := row_cell Rz_2
  have cu_2_0 := row_cell Ru_2
  go_wp2_with fail
  refine (K2.out _).mono ?_
  rintro r w3 ⟨rfl, b3⟩
  have B3 : Below w.heap.size w w3 := btr B2 b3
  have Rx_3 := heap_of b3 _ _ _ Rx_2
  have Rz_3 := heap_of b3 _ _ _ Rz_2
  have Ru_3 := heap_of b3 _ _ _ Ru_2
  clear b3 B2 Rx_2 cx_2_0 cx_2_1 cx_2_2 cx_2_3 cx_2_4 cx_2_5 cx_2_6 cx_2_7 cx_2_8 Rz_2 cz_2_0 Ru_2 cu_2_0
  obtain ⟨cx_3_0, cx_3_1, cx_3_2, cx_3_3, cx_3_4, cx_3_5, cx_3_6, cx_3_7, cx_3_8⟩ := rg_cells Rx_3
  have cz_3_0 := row_cell Rz_3
  have cu_3_0 := row_cell Ru_3
  have hst := st_any w3 (w.heap.size + 1) S 0 Rz_3
  have dz := row_cell (setRow_row (c' := cw 6 S) Rz_3)
  have bz := bel_set (c := cw 6 S) B3 (show w.heap.size ≤ w.heap.size + 1 by first | exact Nat.le_refl _ | omega | (have := S2.out; have := Lx_2.out; have := Lz_2.out; omega))
  go_wp2
  exact bodyPost_ret (v := .agg (cw 6 S)) (by simp [results, Tryz.results167, go_sem, dz, hff]) rfl ⟨rfl, bz⟩
set_option maxRecDepth 100000 in
set_option maxHeartbeats 8000000 in
theorem fm_total (m : Int) (n1 : Bool) (e1 : Nat) (X1 : Int) (n2 : Bool) (e2 : Nat) (X2 : Int) (low : Int) (a b S : Nat) (o : Int) (ov lk neg : Bool) (w : World) (hlk : (n1 == n2) = lk)
    (KL : Box (∀ w, Calls Tryz.prog 166 #[.agg (rg n1 e1 X1 false), .agg (rg n2 e2 X2 false)] w fun r w' => r = .returned (.int .i64 low) ∧ Below w.heap.size w w'))
    (K1 : Box (∀ w, Calls Tryz.prog 167 #[.agg (rg n1 e1 X1 false), .int .i64 low] w fun r w' => r = .returned (.agg (cw 6 a)) ∧ Below w.heap.size w w'))
    (K2 : Box (∀ w, Calls Tryz.prog 167 #[.agg (rg n2 e2 X2 false), .int .i64 low] w fun r w' => r = .returned (.agg (cw 6 b)) ∧ Below w.heap.size w w'))
    (KC : Box (∀ w, Calls Tryz.prog 118 #[.agg (cw 6 a), .agg (cw 6 b)] w fun r w' => r = .returned (.int .i64 o) ∧ Below w.heap.size w w'))
    (H : Box ((lk = true ∧ Box (∀ w, Calls Tryz.prog 136 #[.agg (cw 6 a), .agg (cw 6 b)] w fun r w' => r = .returned (.tuple #[.agg (cw 6 S), .bool ov]) ∧ Below w.heap.size w w') ∧ n1 = neg) ∨
      (lk = false ∧ decide (0 < o) = true ∧ Box (∀ w, Calls Tryz.prog 168 #[.agg (cw 6 a), .agg (cw 6 b)] w fun r w' => r = .returned (.tuple #[.agg (cw 6 S), .bool ov]) ∧ Below w.heap.size w w') ∧ n1 = neg) ∨
      (lk = false ∧ decide (0 < o) = false ∧ decide (o < 0) = true ∧ Box (∀ w, Calls Tryz.prog 168 #[.agg (cw 6 b), .agg (cw 6 a)] w fun r w' => r = .returned (.tuple #[.agg (cw 6 S), .bool ov]) ∧ Below w.heap.size w w') ∧ n2 = neg) ∨
      (lk = false ∧ decide (0 < o) = false ∧ decide (o < 0) = false ∧ (m == 2) = neg ∧ S = 0))) :
    Calls Tryz.prog 106 #[.int .u8 m, .agg (rg n1 e1 X1 false), .agg (rg n2 e2 X2 false)] w fun r w' => r = .returned (.agg (rg neg S low false)) ∧ Below w.heap.size w w' := by
  have hat := cw_at 6
  have hz := cw6z
  have hff := cw6f
  have hs0 := st0
  have hcs : ∀ x, ((cw 6 x).size = 6) = True := fun x => eq_true (cw_size 6 x)
  have hp1 := rgf
  have hp3 := rgz
  have hp4 := st_r0
  have hzi := cw_zip
  have hls := rg_sets
  have hp5 : ∀ (c : Bool) (s : Nat) (x : Int) (r : Bool), ((rg c s x r).size = 9) = True := fun _ _ _ _ => eq_true rfl
  have hq1 := ptf
  have hq5 : ∀ (c s : Nat) (x : Int) (r : Nat), ((pt c s x r).size = 14) = True := fun _ _ _ _ => eq_true rfl
  have hbl := bld_r2
  have hbn := rg_ne
  have hb8 := rg_lt8
  obtain ⟨Rx_0, Ry_0, Rz_0, B0⟩ := opn3 w (Obj.cells (rg n1 e1 X1 false) 62) (Obj.cells (rg n2 e2 X2 false) 62) (Obj.cells (rg false 0 0 false) 62)
  go_enter Tryz.func106, Tryz.ntmps106
  obtain ⟨cx_0_0, cx_0_1, cx_0_2, cx_0_3, cx_0_4, cx_0_5, cx_0_6, cx_0_7, cx_0_8⟩ := rg_cells Rx_0
  obtain ⟨cy_0_0, cy_0_1, cy_0_2, cy_0_3, cy_0_4, cy_0_5, cy_0_6, cy_0_7, cy_0_8⟩ := rg_cells Ry_0
  obtain ⟨cz_0_0, cz_0_1, cz_0_2, cz_0_3, cz_0_4, cz_0_5, cz_0_6, cz_0_7, cz_0_8⟩ := rg_cells Rz_0
  go_wp2_with fail
  refine (KL.out _).mono ?_
  rintro r w1 ⟨rfl, b1⟩
  have B1 : Below w.heap.size w w1 := btr B0 b1
  have Rx_1 := heap_of b1 _ _ _ Rx_0
  have Ry_1 := heap_of b1 _ _ _ Ry_0
  have Rz_1 := heap_of b1 _ _ _ Rz_0
  clear b1 B0 Rx_0 cx_0_0 cx_0_1 cx_0_2 cx_0_3 cx_0_4 cx_0_5 cx_0_6 cx_0_7 cx_0_8 Ry_0 cy_0_0 cy_0_1 cy_0_2 cy_0_3 cy_0_4 cy_0_5 cy_0_6 cy_0_7 cy_0_8 Rz_0 cz_0_0 cz_0_1 cz_0_2 cz_0_3 cz_0_4 cz_0_5 cz_0_6 cz_0_7 cz_0_8
  obtain ⟨cx_1_0, cx_1_1, cx_1_2, cx_1_3, cx_1_4, cx_1_5, cx_1_6, cx_1_7, cx_1_8⟩ := rg_cells Rx_1
  obtain ⟨cy_1_0, cy_1_1, cy_1_2, cy_1_3, cy_1_4, cy_1_5, cy_1_6, cy_1_7, cy_1_8⟩ := rg_cells Ry_1
  obtain ⟨cz_1_0, cz_1_1, cz_1_2, cz_1_3, cz_1_4, cz_1_5, cz_1_6, cz_1_7, cz_1_8⟩ := rg_cells Rz_1
  clear hs0
  obtain ⟨n0, hn0⟩ : ∃ n, w1.heap.size = n := ⟨_, rfl⟩
  have L0 : Box (w.heap.size < n0 ∧ w.heap.size + 1 < n0 ∧ w.heap.size + 1 + 1 < n0) := box ⟨hn0 ▸ (Array.getElem?_eq_some_iff.1 Rx_1).1, hn0 ▸ (Array.getElem?_eq_some_iff.1 Ry_1).1, hn0 ▸ (Array.getElem?_eq_some_iff.1 Rz_1).1⟩
  have Lw : Box (w.heap.size ≤ n0) := box (hn0 ▸ B1.size)
  have sS : Box (∀ W W1 : World, (Below w.heap.size w W ∧ n0 ≤ W.heap.size ∧ W.heap[w.heap.size]? = some (Obj.cells (rg n1 e1 X1 false) 62) ∧ W.heap[w.heap.size + 1]? = some (Obj.cells (rg n2 e2 X2 false) 62) ∧ W.heap[w.heap.size + 1 + 1]? = some (Obj.cells (rg false 0 0 false) 62) ∧ W.cell? ⟨w.heap.size, 0, none⟩ = some (.bool n1) ∧ W.cell? ⟨w.heap.size, 1, none⟩ = some (.int .u64 ((wd e1 0 : Nat) : Int)) ∧ W.cell? ⟨w.heap.size, 2, none⟩ = some (.int .u64 ((wd e1 1 : Nat) : Int)) ∧ W.cell? ⟨w.heap.size, 3, none⟩ = some (.int .u64 ((wd e1 2 : Nat) : Int)) ∧ W.cell? ⟨w.heap.size, 4, none⟩ = some (.int .u64 ((wd e1 3 : Nat) : Int)) ∧ W.cell? ⟨w.heap.size, 5, none⟩ = some (.int .u64 ((wd e1 4 : Nat) : Int)) ∧ W.cell? ⟨w.heap.size, 6, none⟩ = some (.int .u64 ((wd e1 5 : Nat) : Int)) ∧ W.cell? ⟨w.heap.size, 7, none⟩ = some (.int .i64 X1) ∧ W.cell? ⟨w.heap.size, 8, none⟩ = some (.bool false) ∧ W.cell? ⟨w.heap.size + 1, 0, none⟩ = some (.bool n2) ∧ W.cell? ⟨w.heap.size + 1, 1, none⟩ = some (.int .u64 ((wd e2 0 : Nat) : Int)) ∧ W.cell? ⟨w.heap.size + 1, 2, none⟩ = some (.int .u64 ((wd e2 1 : Nat) : Int)) ∧ W.cell? ⟨w.heap.size + 1, 3, none⟩ = some (.int .u64 ((wd e2 2 : Nat) : Int)) ∧ W.cell? ⟨w.heap.size + 1, 4, none⟩ = some (.int .u64 ((wd e2 3 : Nat) : Int)) ∧ W.cell? ⟨w.heap.size + 1, 5, none⟩ = some (.int .u64 ((wd e2 4 : Nat) : Int)) ∧ W.cell? ⟨w.heap.size + 1, 6, none⟩ = some (.int .u64 ((wd e2 5 : Nat) : Int)) ∧ W.cell? ⟨w.heap.size + 1, 7, none⟩ = some (.int .i64 X2) ∧ W.cell? ⟨w.heap.size + 1, 8, none⟩ = some (.bool false)) → Below W.heap.size W W1 → (Below w.heap.size w W1 ∧ n0 ≤ W1.heap.size ∧ W1.heap[w.heap.size]? = some (Obj.cells (rg n1 e1 X1 false) 62) ∧ W1.heap[w.heap.size + 1]? = some (Obj.cells (rg n2 e2 X2 false) 62) ∧ W1.heap[w.heap.size + 1 + 1]? = some (Obj.cells (rg false 0 0 false) 62) ∧ W1.cell? ⟨w.heap.size, 0, none⟩ = some (.bool n1) ∧ W1.cell? ⟨w.heap.size, 1, none⟩ = some (.int .u64 ((wd e1 0 : Nat) : Int)) ∧ W1.cell? ⟨w.heap.size, 2, none⟩ = some (.int .u64 ((wd e1 1 : Nat) : Int)) ∧ W1.cell? ⟨w.heap.size, 3, none⟩ = some (.int .u64 ((wd e1 2 : Nat) : Int)) ∧ W1.cell? ⟨w.heap.size, 4, none⟩ = some (.int .u64 ((wd e1 3 : Nat) : Int)) ∧ W1.cell? ⟨w.heap.size, 5, none⟩ = some (.int .u64 ((wd e1 4 : Nat) : Int)) ∧ W1.cell? ⟨w.heap.size, 6, none⟩ = some (.int .u64 ((wd e1 5 : Nat) : Int)) ∧ W1.cell? ⟨w.heap.size, 7, none⟩ = some (.int .i64 X1) ∧ W1.cell? ⟨w.heap.size, 8, none⟩ = some (.bool false) ∧ W1.cell? ⟨w.heap.size + 1, 0, none⟩ = some (.bool n2) ∧ W1.cell? ⟨w.heap.size + 1, 1, none⟩ = some (.int .u64 ((wd e2 0 : Nat) : Int)) ∧ W1.cell? ⟨w.heap.size + 1, 2, none⟩ = some (.int .u64 ((wd e2 1 : Nat) : Int)) ∧ W1.cell? ⟨w.heap.size + 1, 3, none⟩ = some (.int .u64 ((wd e2 2 : Nat) : Int)) ∧ W1.cell? ⟨w.heap.size + 1, 4, none⟩ = some (.int .u64 ((wd e2 3 : Nat) : Int)) ∧ W1.cell? ⟨w.heap.size + 1, 5, none⟩ = some (.int .u64 ((wd e2 4 : Nat) : Int)) ∧ W1.cell? ⟨w.heap.size + 1, 6, none⟩ = some (.int .u64 ((wd e2 5 : Nat) : Int)) ∧ W1.cell? ⟨w.heap.size + 1, 7, none⟩ = some (.int .i64 X2) ∧ W1.cell? ⟨w.heap.size + 1, 8, none⟩ = some (.bool false))) := box (fun W W1 h b => ⟨btr h.1 b, Nat.le_trans h.2.1 b.size, heap_of b _ _ _ h.2.2.1, heap_of b _ _ _ h.2.2.2.1, heap_of b _ _ _ h.2.2.2.2.1, cell7 (heap_of b _ _ _ h.2.2.1) 0 _ rfl, cell7 (heap_of b _ _ _ h.2.2.1) 1 _ rfl, cell7 (heap_of b _ _ _ h.2.2.1) 2 _ rfl, cell7 (heap_of b _ _ _ h.2.2.1) 3 _ rfl, cell7 (heap_of b _ _ _ h.2.2.1) 4 _ rfl, cell7 (heap_of b _ _ _ h.2.2.1) 5 _ rfl, cell7 (heap_of b _ _ _ h.2.2.1) 6 _ rfl, cell7 (heap_of b _ _ _ h.2.2.1) 7 _ rfl, cell7 (heap_of b _ _ _ h.2.2.1) 8 _ rfl, cell7 (heap_of b _ _ _ h.2.2.2.1) 0 _ rfl, cell7 (heap_of b _ _ _ h.2.2.2.1) 1 _ rfl, cell7 (heap_of b _ _ _ h.2.2.2.1) 2 _ rfl, cell7 (heap_of b _ _ _ h.2.2.2.1) 3 _ rfl, cell7 (heap_of b _ _ _ h.2.2.2.1) 4 _ rfl, cell7 (heap_of b _ _ _ h.2.2.2.1) 5 _ rfl, cell7 (heap_of b _ _ _ h.2.2.2.1) 6 _ rfl, cell7 (heap_of b _ _ _ h.2.2.2.1) 7 _ rfl, cell7 (heap_of b _ _ _ h.2.2.2.1) 8 _ rfl⟩)
  have sT : Box (∀ (W : World) (gN : Nat) (xA : Array Value), (Below w.heap.size w W ∧ n0 ≤ W.heap.size ∧ W.heap[w.heap.size]? = some (Obj.cells (rg n1 e1 X1 false) 62) ∧ W.heap[w.heap.size + 1]? = some (Obj.cells (rg n2 e2 X2 false) 62) ∧ W.heap[w.heap.size + 1 + 1]? = some (Obj.cells (rg false 0 0 false) 62) ∧ W.cell? ⟨w.heap.size, 0, none⟩ = some (.bool n1) ∧ W.cell? ⟨w.heap.size, 1, none⟩ = some (.int .u64 ((wd e1 0 : Nat) : Int)) ∧ W.cell? ⟨w.heap.size, 2, none⟩ = some (.int .u64 ((wd e1 1 : Nat) : Int)) ∧ W.cell? ⟨w.heap.size, 3, none⟩ = some (.int .u64 ((wd e1 2 : Nat) : Int)) ∧ W.cell? ⟨w.heap.size, 4, none⟩ = some (.int .u64 ((wd e1 3 : Nat) : Int)) ∧ W.cell? ⟨w.heap.size, 5, none⟩ = some (.int .u64 ((wd e1 4 : Nat) : Int)) ∧ W.cell? ⟨w.heap.size, 6, none⟩ = some (.int .u64 ((wd e1 5 : Nat) : Int)) ∧ W.cell? ⟨w.heap.size, 7, none⟩ = some (.int .i64 X1) ∧ W.cell? ⟨w.heap.size, 8, none⟩ = some (.bool false) ∧ W.cell? ⟨w.heap.size + 1, 0, none⟩ = some (.bool n2) ∧ W.cell? ⟨w.heap.size + 1, 1, none⟩ = some (.int .u64 ((wd e2 0 : Nat) : Int)) ∧ W.cell? ⟨w.heap.size + 1, 2, none⟩ = some (.int .u64 ((wd e2 1 : Nat) : Int)) ∧ W.cell? ⟨w.heap.size + 1, 3, none⟩ = some (.int .u64 ((wd e2 2 : Nat) : Int)) ∧ W.cell? ⟨w.heap.size + 1, 4, none⟩ = some (.int .u64 ((wd e2 3 : Nat) : Int)) ∧ W.cell? ⟨w.heap.size + 1, 5, none⟩ = some (.int .u64 ((wd e2 4 : Nat) : Int)) ∧ W.cell? ⟨w.heap.size + 1, 6, none⟩ = some (.int .u64 ((wd e2 5 : Nat) : Int)) ∧ W.cell? ⟨w.heap.size + 1, 7, none⟩ = some (.int .i64 X2) ∧ W.cell? ⟨w.heap.size + 1, 8, none⟩ = some (.bool false)) → n0 ≤ gN → (Below w.heap.size w (W.setRow gN xA) ∧ n0 ≤ (W.setRow gN xA).heap.size ∧ (W.setRow gN xA).heap[w.heap.size]? = some (Obj.cells (rg n1 e1 X1 false) 62) ∧ (W.setRow gN xA).heap[w.heap.size + 1]? = some (Obj.cells (rg n2 e2 X2 false) 62) ∧ (W.setRow gN xA).heap[w.heap.size + 1 + 1]? = some (Obj.cells (rg false 0 0 false) 62) ∧ (W.setRow gN xA).cell? ⟨w.heap.size, 0, none⟩ = some (.bool n1) ∧ (W.setRow gN xA).cell? ⟨w.heap.size, 1, none⟩ = some (.int .u64 ((wd e1 0 : Nat) : Int)) ∧ (W.setRow gN xA).cell? ⟨w.heap.size, 2, none⟩ = some (.int .u64 ((wd e1 1 : Nat) : Int)) ∧ (W.setRow gN xA).cell? ⟨w.heap.size, 3, none⟩ = some (.int .u64 ((wd e1 2 : Nat) : Int)) ∧ (W.setRow gN xA).cell? ⟨w.heap.size, 4, none⟩ = some (.int .u64 ((wd e1 3 : Nat) : Int)) ∧ (W.setRow gN xA).cell? ⟨w.heap.size, 5, none⟩ = some (.int .u64 ((wd e1 4 : Nat) : Int)) ∧ (W.setRow gN xA).cell? ⟨w.heap.size, 6, none⟩ = some (.int .u64 ((wd e1 5 : Nat) : Int)) ∧ (W.setRow gN xA).cell? ⟨w.heap.size, 7, none⟩ = some (.int .i64 X1) ∧ (W.setRow gN xA).cell? ⟨w.heap.size, 8, none⟩ = some (.bool false) ∧ (W.setRow gN xA).cell? ⟨w.heap.size + 1, 0, none⟩ = some (.bool n2) ∧ (W.setRow gN xA).cell? ⟨w.heap.size + 1, 1, none⟩ = some (.int .u64 ((wd e2 0 : Nat) : Int)) ∧ (W.setRow gN xA).cell? ⟨w.heap.size + 1, 2, none⟩ = some (.int .u64 ((wd e2 1 : Nat) : Int)) ∧ (W.setRow gN xA).cell? ⟨w.heap.size + 1, 3, none⟩ = some (.int .u64 ((wd e2 2 : Nat) : Int)) ∧ (W.setRow gN xA).cell? ⟨w.heap.size + 1, 4, none⟩ = some (.int .u64 ((wd e2 3 : Nat) : Int)) ∧ (W.setRow gN xA).cell? ⟨w.heap.size + 1, 5, none⟩ = some (.int .u64 ((wd e2 4 : Nat) : Int)) ∧ (W.setRow gN xA).cell? ⟨w.heap.size + 1, 6, none⟩ = some (.int .u64 ((wd e2 5 : Nat) : Int)) ∧ (W.setRow gN xA).cell? ⟨w.heap.size + 1, 7, none⟩ = some (.int .i64 X2) ∧ (W.setRow gN xA).cell? ⟨w.heap.size + 1, 8, none⟩ = some (.bool false))) := box (fun W gN xA h l => ⟨bel_set h.1 (Nat.le_trans Lw.out l), Nat.le_trans h.2.1 (Below.setRow (Below.refl 0 W) (Nat.zero_le _)).size, (setRow_other (by have := L0.out.1; omega)).trans h.2.2.1, (setRow_other (by have := L0.out.2.1; omega)).trans h.2.2.2.1, (setRow_other (by have := L0.out.2.2; omega)).trans h.2.2.2.2.1, cell7 ((setRow_other (by have := L0.out.1; omega)).trans h.2.2.1) 0 _ rfl, cell7 ((setRow_other (by have := L0.out.1; omega)).trans h.2.2.1) 1 _ rfl, cell7 ((setRow_other (by have := L0.out.1; omega)).trans h.2.2.1) 2 _ rfl, cell7 ((setRow_other (by have := L0.out.1; omega)).trans h.2.2.1) 3 _ rfl, cell7 ((setRow_other (by have := L0.out.1; omega)).trans h.2.2.1) 4 _ rfl, cell7 ((setRow_other (by have := L0.out.1; omega)).trans h.2.2.1) 5 _ rfl, cell7 ((setRow_other (by have := L0.out.1; omega)).trans h.2.2.1) 6 _ rfl, cell7 ((setRow_other (by have := L0.out.1; omega)).trans h.2.2.1) 7 _ rfl, cell7 ((setRow_other (by have := L0.out.1; omega)).trans h.2.2.1) 8 _ rfl, cell7 ((setRow_other (by have := L0.out.2.1; omega)).trans h.2.2.2.1) 0 _ rfl, cell7 ((setRow_other (by have := L0.out.2.1; omega)).trans h.2.2.2.1) 1 _ rfl, cell7 ((setRow_other (by have := L0.out.2.1; omega)).trans h.2.2.2.1) 2 _ rfl, cell7 ((setRow_other (by have := L0.out.2.1; omega)).trans h.2.2.2.1) 3 _ rfl, cell7 ((setRow_other (by have := L0.out.2.1; omega)).trans h.2.2.2.1) 4 _ rfl, cell7 ((setRow_other (by have := L0.out.2.1; omega)).trans h.2.2.2.1) 5 _ rfl, cell7 ((setRow_other (by have := L0.out.2.1; omega)).trans h.2.2.2.1) 6 _ rfl, cell7 ((setRow_other (by have := L0.out.2.1; omega)).trans h.2.2.2.1) 7 _ rfl, cell7 ((setRow_other (by have := L0.out.2.1; omega)).trans h.2.2.2.1) 8 _ rfl⟩)
  have z0 : Box (Below w.heap.size w (w1).drew ∧ n0 ≤ (w1).drew.heap.size ∧ (w1).drew.heap[w.heap.size]? = some (Obj.cells (rg n1 e1 X1 false) 62) ∧ (w1).drew.heap[w.heap.size + 1]? = some (Obj.cells (rg n2 e2 X2 false) 62) ∧ (w1).drew.heap[w.heap.size + 1 + 1]? = some (Obj.cells (rg false 0 0 false) 62) ∧ (w1).drew.cell? ⟨w.heap.size, 0, none⟩ = some (.bool n1) ∧ (w1).drew.cell? ⟨w.heap.size, 1, none⟩ = some (.int .u64 ((wd e1 0 : Nat) : Int)) ∧ (w1).drew.cell? ⟨w.heap.size, 2, none⟩ = some (.int .u64 ((wd e1 1 : Nat) : Int)) ∧ (w1).drew.cell? ⟨w.heap.size, 3, none⟩ = some (.int .u64 ((wd e1 2 : Nat) : Int)) ∧ (w1).drew.cell? ⟨w.heap.size, 4, none⟩ = some (.int .u64 ((wd e1 3 : Nat) : Int)) ∧ (w1).drew.cell? ⟨w.heap.size, 5, none⟩ = some (.int .u64 ((wd e1 4 : Nat) : Int)) ∧ (w1).drew.cell? ⟨w.heap.size, 6, none⟩ = some (.int .u64 ((wd e1 5 : Nat) : Int)) ∧ (w1).drew.cell? ⟨w.heap.size, 7, none⟩ = some (.int .i64 X1) ∧ (w1).drew.cell? ⟨w.heap.size, 8, none⟩ = some (.bool false) ∧ (w1).drew.cell? ⟨w.heap.size + 1, 0, none⟩ = some (.bool n2) ∧ (w1).drew.cell? ⟨w.heap.size + 1, 1, none⟩ = some (.int .u64 ((wd e2 0 : Nat) : Int)) ∧ (w1).drew.cell? ⟨w.heap.size + 1, 2, none⟩ = some (.int .u64 ((wd e2 1 : Nat) : Int)) ∧ (w1).drew.cell? ⟨w.heap.size + 1, 3, none⟩ = some (.int .u64 ((wd e2 2 : Nat) : Int)) ∧ (w1).drew.cell? ⟨w.heap.size + 1, 4, none⟩ = some (.int .u64 ((wd e2 3 : Nat) : Int)) ∧ (w1).drew.cell? ⟨w.heap.size + 1, 5, none⟩ = some (.int .u64 ((wd e2 4 : Nat) : Int)) ∧ (w1).drew.cell? ⟨w.heap.size + 1, 6, none⟩ = some (.int .u64 ((wd e2 5 : Nat) : Int)) ∧ (w1).drew.cell? ⟨w.heap.size + 1, 7, none⟩ = some (.int .i64 X2) ∧ (w1).drew.cell? ⟨w.heap.size + 1, 8, none⟩ = some (.bool false)) := box ⟨B1.drew, Nat.le_of_eq hn0.symm, Rx_1, Ry_1, Rz_1, cell7 (Rx_1) 0 _ rfl, cell7 (Rx_1) 1 _ rfl, cell7 (Rx_1) 2 _ rfl, cell7 (Rx_1) 3 _ rfl, cell7 (Rx_1) 4 _ rfl, cell7 (Rx_1) 5 _ rfl, cell7 (Rx_1) 6 _ rfl, cell7 (Rx_1) 7 _ rfl, cell7 (Rx_1) 8 _ rfl, cell7 (Ry_1) 0 _ rfl, cell7 (Ry_1) 1 _ rfl, cell7 (Ry_1) 2 _ rfl, cell7 (Ry_1) 3 _ rfl, cell7 (Ry_1) 4 _ rfl, cell7 (Ry_1) 5 _ rfl, cell7 (Ry_1) 6 _ rfl, cell7 (Ry_1) 7 _ rfl, cell7 (Ry_1) 8 _ rfl⟩
  clear B1 Rx_1 cx_1_0 cx_1_1 cx_1_2 cx_1_3 cx_1_4 cx_1_5 cx_1_6 cx_1_7 cx_1_8 Ry_1 cy_1_0 cy_1_1 cy_1_2 cy_1_3 cy_1_4 cy_1_5 cy_1_6 cy_1_7 cy_1_8 Rz_1 cz_1_0 cz_1_1 cz_1_2 cz_1_3 cz_1_4 cz_1_5 cz_1_6 cz_1_7 cz_1_8
  clear hn0
  go_wp2_with fail
  apply cut7
  · intro key0
    have key := box key0
    clear key0
    go_region_held3 (fun W => Below w.heap.size w W ∧ n0 ≤ W.heap.size ∧ W.heap[w.heap.size]? = some (Obj.cells (rg n1 e1 X1 false) 62) ∧ W.heap[w.heap.size + 1]? = some (Obj.cells (rg n2 e2 X2 false) 62) ∧ W.heap[w.heap.size + 1 + 1]? = some (Obj.cells (rg false 0 0 false) 62) ∧ W.cell? ⟨w.heap.size, 0, none⟩ = some (.bool n1) ∧ W.cell? ⟨w.heap.size, 1, none⟩ = some (.int .u64 ((wd e1 0 : Nat) : Int)) ∧ W.cell? ⟨w.heap.size, 2, none⟩ = some (.int .u64 ((wd e1 1 : Nat) : Int)) ∧ W.cell? ⟨w.heap.size, 3, none⟩ = some (.int .u64 ((wd e1 2 : Nat) : Int)) ∧ W.cell? ⟨w.heap.size, 4, none⟩ = some (.int .u64 ((wd e1 3 : Nat) : Int)) ∧ W.cell? ⟨w.heap.size, 5, none⟩ = some (.int .u64 ((wd e1 4 : Nat) : Int)) ∧ W.cell? ⟨w.heap.size, 6, none⟩ = some (.int .u64 ((wd e1 5 : Nat) : Int)) ∧ W.cell? ⟨w.heap.size, 7, none⟩ = some (.int .i64 X1) ∧ W.cell? ⟨w.heap.size, 8, none⟩ = some (.bool false) ∧ W.cell? ⟨w.heap.size + 1, 0, none⟩ = some (.bool n2) ∧ W.cell? ⟨w.heap.size + 1, 1, none⟩ = some (.int .u64 ((wd e2 0 : Nat) : Int)) ∧ W.cell? ⟨w.heap.size + 1, 2, none⟩ = some (.int .u64 ((wd e2 1 : Nat) : Int)) ∧ W.cell? ⟨w.heap.size + 1, 3, none⟩ = some (.int .u64 ((wd e2 2 : Nat) : Int)) ∧ W.cell? ⟨w.heap.size + 1, 4, none⟩ = some (.int .u64 ((wd e2 3 : Nat) : Int)) ∧ W.cell? ⟨w.heap.size + 1, 5, none⟩ = some (.int .u64 ((wd e2 4 : Nat) : Int)) ∧ W.cell? ⟨w.heap.size + 1, 6, none⟩ = some (.int .u64 ((wd e2 5 : Nat) : Int)) ∧ W.cell? ⟨w.heap.size + 1, 7, none⟩ = some (.int .i64 X2) ∧ W.cell? ⟨w.heap.size + 1, 8, none⟩ = some (.bool false)) (first | exact z0.out | exact z1.out | exact sV.out | exact sS.out _ _ z1.out (bal _ _) | exact sS.out _ _ z0.out (bal _ _) | exact sS.out _ _ (sS.out _ _ z1.out (bal _ _)) (bal _ _) | exact sS.out _ _ (sS.out _ _ z0.out (bal _ _)) (bal _ _) | exact sT.out _ _ _ sV.out ge1 | exact sT.out _ _ _ sV.out ge2 | exact sT.out _ _ _ (sT.out _ _ _ sV.out ge1) ge2 | exact sT.out _ _ _ (sT.out _ _ _ sV.out ge2) ge1)
      (first | (go_at_call_of 167 (Value.agg (rg n1 e1 X1 false)); (first | refine (K1.out _).mono ?_ | refine (K1.out _).mono ?_); rintro r wq ⟨rfl, bq⟩; (first | have sx := z1 | have sx := z0); (try clear z1); have bq0 := bq; (try simp only [size_al] at bq); (first | (with_reducible have hq := nm_twoD bq0 (And.left (And.right sx.out)); obtain ⟨hg1, hg2, ge1, ge2, hd⟩ := hq) | (with_reducible have hq := nm_oneD bq0 (And.left (And.right sx.out)); obtain ⟨hg1, ge1⟩ := hq) | (with_reducible have hq := nm_two bq (And.left (And.right sx.out)); obtain ⟨hg1, hg2, ge1, ge2, hd⟩ := hq) | (with_reducible have hq := nm_oneK bq (And.left (And.right sx.out)) hg1 ge1; clear hg1 ge1; obtain ⟨hg1, hg2, ge1, ge2, hd⟩ := hq) | (with_reducible have hq := nm_one bq (And.left (And.right sx.out)); obtain ⟨hg1, ge1⟩ := hq) | (with_reducible have hq := nm_keep2 bq hg1 hg2; clear hg1 hg2; obtain ⟨hg1, hg2⟩ := hq) | (with_reducible have hq := nm_keep1 bq hg1; clear hg1; have hg1 := hq) | skip); (try simp only [size_dr] at hg1); (try simp only [size_dr] at ge1); (try simp only [size_dr] at hg2); (try simp only [size_dr] at ge2); (try simp only [size_dr] at hd); have z1 := box (by first | exact sS.out _ _ sx.out bq0 | exact sS.out _ _ (sS.out _ _ sx.out (bal _ _)) bq0 | exact sS.out _ _ (sS.out _ _ (sS.out _ _ sx.out (bal _ _)) (bal _ _)) bq0); clear sx; (try clear hr1 hr2 hr3 hr4 hV1 hV2 hdn sV); (first | (have hV1 := hg1; have hV2 := hg2; have hdn := hd; have sV := z1) | (have hV1 := heap_of (bal wq (Obj.cells (cw 6 0) 52)) _ _ _ hg1; have hV2 := heap_alloc_last wq (Obj.cells (cw 6 0) 52); have hdn := (Array.getElem?_eq_some_iff.1 hg1).1; have ge2 := And.left (And.right z1.out); have sV := box (sS.out _ _ z1.out (bal wq (Obj.cells (cw 6 0) 52)))) | (have hV1 := al_row20 wq (Obj.cells (cw 6 0) 52); have hV2 := al_row21 wq (Obj.cells (cw 6 0) 52); have hdn := Nat.lt_succ_self wq.heap.size; have ge1 := And.left (And.right z1.out); have ge2 := Nat.le_succ_of_le ge1; have sV := box (sS.out _ _ (sS.out _ _ z1.out (bal wq (Obj.cells (cw 6 0) 52))) (bal (wq.alloc (Obj.cells (cw 6 0) 52)) (Obj.cells (cw 6 0) 52))))); obtain ⟨hr1, hr2, hr3, hr4⟩ := two_st _ _ _ hV1 hV2 (Nat.ne_of_lt hdn); clear bq bq0) | (go_at_call_of 167 (Value.agg (rg n2 e2 X2 false)); (first | refine (K2.out _).mono ?_ | refine (K2.out _).mono ?_); rintro r wq ⟨rfl, bq⟩; (first | have sx := z1 | have sx := z0); (try clear z1); have bq0 := bq; (try simp only [size_al] at bq); (first | (with_reducible have hq := nm_twoD bq0 (And.left (And.right sx.out)); obtain ⟨hg1, hg2, ge1, ge2, hd⟩ := hq) | (with_reducible have hq := nm_oneD bq0 (And.left (And.right sx.out)); obtain ⟨hg1, ge1⟩ := hq) | (with_reducible have hq := nm_two bq (And.left (And.right sx.out)); obtain ⟨hg1, hg2, ge1, ge2, hd⟩ := hq) | (with_reducible have hq := nm_oneK bq (And.left (And.right sx.out)) hg1 ge1; clear hg1 ge1; obtain ⟨hg1, hg2, ge1, ge2, hd⟩ := hq) | (with_reducible have hq := nm_one bq (And.left (And.right sx.out)); obtain ⟨hg1, ge1⟩ := hq) | (with_reducible have hq := nm_keep2 bq hg1 hg2; clear hg1 hg2; obtain ⟨hg1, hg2⟩ := hq) | (with_reducible have hq := nm_keep1 bq hg1; clear hg1; have hg1 := hq) | skip); (try simp only [size_dr] at hg1); (try simp only [size_dr] at ge1); (try simp only [size_dr] at hg2); (try simp only [size_dr] at ge2); (try simp only [size_dr] at hd); have z1 := box (by first | exact sS.out _ _ sx.out bq0 | exact sS.out _ _ (sS.out _ _ sx.out (bal _ _)) bq0 | exact sS.out _ _ (sS.out _ _ (sS.out _ _ sx.out (bal _ _)) (bal _ _)) bq0); clear sx; (try clear hr1 hr2 hr3 hr4 hV1 hV2 hdn sV); (first | (have hV1 := hg1; have hV2 := hg2; have hdn := hd; have sV := z1) | (have hV1 := heap_of (bal wq (Obj.cells (cw 6 0) 52)) _ _ _ hg1; have hV2 := heap_alloc_last wq (Obj.cells (cw 6 0) 52); have hdn := (Array.getElem?_eq_some_iff.1 hg1).1; have ge2 := And.left (And.right z1.out); have sV := box (sS.out _ _ z1.out (bal wq (Obj.cells (cw 6 0) 52)))) | (have hV1 := al_row20 wq (Obj.cells (cw 6 0) 52); have hV2 := al_row21 wq (Obj.cells (cw 6 0) 52); have hdn := Nat.lt_succ_self wq.heap.size; have ge1 := And.left (And.right z1.out); have ge2 := Nat.le_succ_of_le ge1; have sV := box (sS.out _ _ (sS.out _ _ z1.out (bal wq (Obj.cells (cw 6 0) 52))) (bal (wq.alloc (Obj.cells (cw 6 0) 52)) (Obj.cells (cw 6 0) 52))))); obtain ⟨hr1, hr2, hr3, hr4⟩ := two_st _ _ _ hV1 hV2 (Nat.ne_of_lt hdn); clear bq bq0) | fail)
    all_goals
      refine gen_fma_total_8_9 (R := fun W g1 g2 => (Below w.heap.size w W ∧ n0 ≤ W.heap.size ∧ W.heap[w.heap.size]? = some (Obj.cells (rg n1 e1 X1 false) 62) ∧ W.heap[w.heap.size + 1]? = some (Obj.cells (rg n2 e2 X2 false) 62) ∧ W.heap[w.heap.size + 1 + 1]? = some (Obj.cells (rg false 0 0 false) 62) ∧ W.cell? ⟨w.heap.size, 0, none⟩ = some (.bool n1) ∧ W.cell? ⟨w.heap.size, 1, none⟩ = some (.int .u64 ((wd e1 0 : Nat) : Int)) ∧ W.cell? ⟨w.heap.size, 2, none⟩ = some (.int .u64 ((wd e1 1 : Nat) : Int)) ∧ W.cell? ⟨w.heap.size, 3, none⟩ = some (.int .u64 ((wd e1 2 : Nat) : Int)) ∧ W.cell? ⟨w.heap.size, 4, none⟩ = some (.int .u64 ((wd e1 3 : Nat) : Int)) ∧ W.cell? ⟨w.heap.size, 5, none⟩ = some (.int .u64 ((wd e1 4 : Nat) : Int)) ∧ W.cell? ⟨w.heap.size, 6, none⟩ = some (.int .u64 ((wd e1 5 : Nat) : Int)) ∧ W.cell? ⟨w.heap.size, 7, none⟩ = some (.int .i64 X1) ∧ W.cell? ⟨w.heap.size, 8, none⟩ = some (.bool false) ∧ W.cell? ⟨w.heap.size + 1, 0, none⟩ = some (.bool n2) ∧ W.cell? ⟨w.heap.size + 1, 1, none⟩ = some (.int .u64 ((wd e2 0 : Nat) : Int)) ∧ W.cell? ⟨w.heap.size + 1, 2, none⟩ = some (.int .u64 ((wd e2 1 : Nat) : Int)) ∧ W.cell? ⟨w.heap.size + 1, 3, none⟩ = some (.int .u64 ((wd e2 2 : Nat) : Int)) ∧ W.cell? ⟨w.heap.size + 1, 4, none⟩ = some (.int .u64 ((wd e2 3 : Nat) : Int)) ∧ W.cell? ⟨w.heap.size + 1, 5, none⟩ = some (.int .u64 ((wd e2 4 : Nat) : Int)) ∧ W.cell? ⟨w.heap.size + 1, 6, none⟩ = some (.int .u64 ((wd e2 5 : Nat) : Int)) ∧ W.cell? ⟨w.heap.size + 1, 7, none⟩ = some (.int .i64 X2) ∧ W.cell? ⟨w.heap.size + 1, 8, none⟩ = some (.bool false)) ∧ W.heap[g1]? = some (Obj.cells (cw 6 a) 52) ∧ W.heap[g2]? = some (Obj.cells (cw 6 b) 52) ∧ n0 ≤ g1 ∧ n0 ≤ g2) key.out ?_
      first
        | exact ⟨sT.out _ _ _ (sT.out _ _ _ sV.out ge1) ge2, set2r1 hV1 (Nat.ne_of_lt hdn), set2r2 hV2 (Nat.ne_of_lt hdn), ge1, ge2⟩
        | exact ⟨sT.out _ _ _ (sT.out _ _ _ sV.out ge2) ge1, set2r1 hV2 (Nat.ne_of_gt hdn), set2r2 hV1 (Nat.ne_of_gt hdn), ge2, ge1⟩
  rintro w2 g2_0 g2_1 ⟨s1, Ra_2, Rb_2, l2_0, l2_1⟩
  have B2 := And.left s1
  have Rx_2 := s1.2.2.1
  have Ry_2 := s1.2.2.2.1
  have Rz_2 := s1.2.2.2.2.1
  have H2 : Box ((w.heap.size < n0 ∧ w.heap.size + 1 < n0 ∧ w.heap.size + 1 + 1 < n0) ∧ w.heap.size ≤ n0 ∧ n0 ≤ g2_0 ∧ n0 ≤ g2_1) := box ⟨L0.out, Lw.out, l2_0, l2_1⟩
  clear z0 s1 sS sT L0 Lw l2_0 l2_1
  obtain ⟨cx_2_0, cx_2_1, cx_2_2, cx_2_3, cx_2_4, cx_2_5, cx_2_6, cx_2_7, cx_2_8⟩ := rg_cells Rx_2
  obtain ⟨cy_2_0, cy_2_1, cy_2_2, cy_2_3, cy_2_4, cy_2_5, cy_2_6, cy_2_7, cy_2_8⟩ := rg_cells Ry_2
  obtain ⟨cz_2_0, cz_2_1, cz_2_2, cz_2_3, cz_2_4, cz_2_5, cz_2_6, cz_2_7, cz_2_8⟩ := rg_cells Rz_2
  have ca_2_0 := row_cell Ra_2
  have cb_2_0 := row_cell Rb_2
  have kx0 := cx_2_0
  have S3 := box B2.size
  have Lx_3 : Box (w.heap.size < w2.heap.size) := box (Array.getElem?_eq_some_iff.1 Rx_2).1
  have Ly_3 : Box (w.heap.size + 1 < w2.heap.size) := box (Array.getElem?_eq_some_iff.1 Ry_2).1
  have Lz_3 : Box (w.heap.size + 1 + 1 < w2.heap.size) := box (Array.getElem?_eq_some_iff.1 Rz_2).1
  have La_3 : Box (g2_0 < w2.heap.size) := box (Array.getElem?_eq_some_iff.1 Ra_2).1
  have Lb_3 : Box (g2_1 < w2.heap.size) := box (Array.getElem?_eq_some_iff.1 Rb_2).1
  have Rr_3 := heap_alloc_last w2 (Obj.cells (rg n1 0 low false) 62)
  have B3 := btr B2 (bal w2 (Obj.cells (rg n1 0 low false) 62))
  have Rx_3 := heap_of (bal w2 (Obj.cells (rg n1 0 low false) 62)) _ _ _ Rx_2
  have Ry_3 := heap_of (bal w2 (Obj.cells (rg n1 0 low false) 62)) _ _ _ Ry_2
  have Rz_3 := heap_of (bal w2 (Obj.cells (rg n1 0 low false) 62)) _ _ _ Rz_2
  have Ra_3 := heap_of (bal w2 (Obj.cells (rg n1 0 low false) 62)) _ _ _ Ra_2
  have Rb_3 := heap_of (bal w2 (Obj.cells (rg n1 0 low false) 62)) _ _ _ Rb_2
  clear B2 Rx_2 cx_2_0 cx_2_1 cx_2_2 cx_2_3 cx_2_4 cx_2_5 cx_2_6 cx_2_7 cx_2_8 Ry_2 cy_2_0 cy_2_1 cy_2_2 cy_2_3 cy_2_4 cy_2_5 cy_2_6 cy_2_7 cy_2_8 Rz_2 cz_2_0 cz_2_1 cz_2_2 cz_2_3 cz_2_4 cz_2_5 cz_2_6 cz_2_7 cz_2_8 Ra_2 ca_2_0 Rb_2 cb_2_0
  obtain ⟨cx_3_0, cx_3_1, cx_3_2, cx_3_3, cx_3_4, cx_3_5, cx_3_6, cx_3_7, cx_3_8⟩ := rg_cells Rx_3
  obtain ⟨cy_3_0, cy_3_1, cy_3_2, cy_3_3, cy_3_4, cy_3_5, cy_3_6, cy_3_7, cy_3_8⟩ := rg_cells Ry_3
  obtain ⟨cz_3_0, cz_3_1, cz_3_2, cz_3_3, cz_3_4, cz_3_5, cz_3_6, cz_3_7, cz_3_8⟩ := rg_cells Rz_3
  have ca_3_0 := row_cell Ra_3
  have cb_3_0 := row_cell Rb_3
  obtain ⟨cr_3_0, cr_3_1, cr_3_2, cr_3_3, cr_3_4, cr_3_5, cr_3_6, cr_3_7, cr_3_8⟩ := rg_cells Rr_3
  go_wp2_with fail
  refine (KC.out _).mono ?_
  rintro r w4 ⟨rfl, b4⟩
  have B4 : Below w.heap.size w w4 := btr B3 b4
  have Rx_4 := heap_of b4 _ _ _ Rx_3
  have Ry_4 := heap_of b4 _ _ _ Ry_3
  have Rz_4 := heap_of b4 _ _ _ Rz_3
  have Ra_4 := heap_of b4 _ _ _ Ra_3
  have Rb_4 := heap_of b4 _ _ _ Rb_3
  have Rr_4 := heap_of b4 _ _ _ Rr_3
  clear b4 B3 Rx_3 cx_3_0 cx_3_1 cx_3_2 cx_3_3 cx_3_4 cx_3_5 cx_3_6 cx_3_7 cx_3_8 Ry_3 cy_3_0 cy_3_1 cy_3_2 cy_3_3 cy_3_4 cy_3_5 cy_3_6 cy_3_7 cy_3_8 Rz_3 cz_3_0 cz_3_1 cz_3_2 cz_3_3 cz_3_4 cz_3_5 cz_3_6 cz_3_7 cz_3_8 Ra_3 ca_3_0 Rb_3 cb_3_0 Rr_3 cr_3_0 cr_3_1 cr_3_2 cr_3_3 cr_3_4 cr_3_5 cr_3_6 cr_3_7 cr_3_8
  obtain ⟨cx_4_0, cx_4_1, cx_4_2, cx_4_3, cx_4_4, cx_4_5, cx_4_6, cx_4_7, cx_4_8⟩ := rg_cells Rx_4
  obtain ⟨cy_4_0, cy_4_1, cy_4_2, cy_4_3, cy_4_4, cy_4_5, cy_4_6, cy_4_7, cy_4_8⟩ := rg_cells Ry_4
  obtain ⟨cz_4_0, cz_4_1, cz_4_2, cz_4_3, cz_4_4, cz_4_5, cz_4_6, cz_4_7, cz_4_8⟩ := rg_cells Rz_4
  have ca_4_0 := row_cell Ra_4
  have cb_4_0 := row_cell Rb_4
  obtain ⟨cr_4_0, cr_4_1, cr_4_2, cr_4_3, cr_4_4, cr_4_5, cr_4_6, cr_4_7, cr_4_8⟩ := rg_cells Rr_4
  rcases H.out with ⟨rfl, KA, rfl⟩ | ⟨rfl, h1, KA, rfl⟩ | ⟨rfl, h1, h2, KA, rfl⟩ | ⟨rfl, h1, h2, hdn, rfl⟩
  · clear H
    go_wp2_with fail
    refine (KA.out _).mono ?_
    rintro r w5 ⟨rfl, b5⟩
    have B5 : Below w.heap.size w w5 := btr B4 b5
    have Rx_5 := heap_of b5 _ _ _ Rx_4
    have Ry_5 := heap_of b5 _ _ _ Ry_4
    have Rz_5 := heap_of b5 _ _ _ Rz_4
    have Ra_5 := heap_of b5 _ _ _ Ra_4
    have Rb_5 := heap_of b5 _ _ _ Rb_4
    have Rr_5 := heap_of b5 _ _ _ Rr_4
    clear b5 B4 Rx_4 cx_4_0 cx_4_1 cx_4_2 cx_4_3 cx_4_4 cx_4_5 cx_4_6 cx_4_7 cx_4_8 Ry_4 cy_4_0 cy_4_1 cy_4_2 cy_4_3 cy_4_4 cy_4_5 cy_4_6 cy_4_7 cy_4_8 Rz_4 cz_4_0 cz_4_1 cz_4_2 cz_4_3 cz_4_4 cz_4_5 cz_4_6 cz_4_7 cz_4_8 Ra_4 ca_4_0 Rb_4 cb_4_0 Rr_4 cr_4_0 cr_4_1 cr_4_2 cr_4_3 cr_4_4 cr_4_5 cr_4_6 cr_4_7 cr_4_8
    obtain ⟨cx_5_0, cx_5_1, cx_5_2, cx_5_3, cx_5_4, cx_5_5, cx_5_6, cx_5_7, cx_5_8⟩ := rg_cells Rx_5
    obtain ⟨cy_5_0, cy_5_1, cy_5_2, cy_5_3, cy_5_4, cy_5_5, cy_5_6, cy_5_7, cy_5_8⟩ := rg_cells Ry_5
    obtain ⟨cz_5_0, cz_5_1, cz_5_2, cz_5_3, cz_5_4, cz_5_5, cz_5_6, cz_5_7, cz_5_8⟩ := rg_cells Rz_5
    have ca_5_0 := row_cell Ra_5
    have cb_5_0 := row_cell Rb_5
    obtain ⟨cr_5_0, cr_5_1, cr_5_2, cr_5_3, cr_5_4, cr_5_5, cr_5_6, cr_5_7, cr_5_8⟩ := rg_cells Rr_5
    have hst6 := st_r1 w5 (w2.heap.size) n1 0 low false S Rr_5
    have B6 := bel_set (c := (rg n1 S low false)) B5 (show w.heap.size ≤ w2.heap.size by first | exact Nat.le_refl _ | omega | (have := H2.out; have := S3.out; have := Lx_3.out; have := Ly_3.out; have := Lz_3.out; have := La_3.out; have := Lb_3.out; omega))
    have Rr_6 := setRow_row (c' := (rg n1 S low false)) Rr_5
    have Rx_6 : (w5.setRow (w2.heap.size) (rg n1 S low false)).heap[w.heap.size]? = some (Obj.cells (rg n1 e1 X1 false) 62) := by rw [setRow_other (by first | omega | (have := H2.out; have := S3.out; have := Lx_3.out; have := Ly_3.out; have := Lz_3.out; have := La_3.out; have := Lb_3.out; omega))]; exact Rx_5
    have Ry_6 : (w5.setRow (w2.heap.size) (rg n1 S low false)).heap[w.heap.size + 1]? = some (Obj.cells (rg n2 e2 X2 false) 62) := by rw [setRow_other (by first | omega | (have := H2.out; have := S3.out; have := Lx_3.out; have := Ly_3.out; have := Lz_3.out; have := La_3.out; have := Lb_3.out; omega))]; exact Ry_5
    have Rz_6 : (w5.setRow (w2.heap.size) (rg n1 S low false)).heap[w.heap.size + 1 + 1]? = some (Obj.cells (rg false 0 0 false) 62) := by rw [setRow_other (by first | omega | (have := H2.out; have := S3.out; have := Lx_3.out; have := Ly_3.out; have := Lz_3.out; have := La_3.out; have := Lb_3.out; omega))]; exact Rz_5
    have Ra_6 : (w5.setRow (w2.heap.size) (rg n1 S low false)).heap[g2_0]? = some (Obj.cells (cw 6 a) 52) := by rw [setRow_other (by first | omega | (have := H2.out; have := S3.out; have := Lx_3.out; have := Ly_3.out; have := Lz_3.out; have := La_3.out; have := Lb_3.out; omega))]; exact Ra_5
    have Rb_6 : (w5.setRow (w2.heap.size) (rg n1 S low false)).heap[g2_1]? = some (Obj.cells (cw 6 b) 52) := by rw [setRow_other (by first | omega | (have := H2.out; have := S3.out; have := Lx_3.out; have := Ly_3.out; have := Lz_3.out; have := La_3.out; have := Lb_3.out; omega))]; exact Rb_5
    obtain ⟨w6, hw6⟩ : ∃ V, w5.setRow (w2.heap.size) (rg n1 S low false) = V := ⟨_, rfl⟩
    rw [hw6] at hst6 B6 Rx_6 Ry_6 Rz_6 Ra_6 Rb_6 Rr_6
    obtain ⟨cx_6_0, cx_6_1, cx_6_2, cx_6_3, cx_6_4, cx_6_5, cx_6_6, cx_6_7, cx_6_8⟩ := rg_cells Rx_6
    obtain ⟨cy_6_0, cy_6_1, cy_6_2, cy_6_3, cy_6_4, cy_6_5, cy_6_6, cy_6_7, cy_6_8⟩ := rg_cells Ry_6
    obtain ⟨cz_6_0, cz_6_1, cz_6_2, cz_6_3, cz_6_4, cz_6_5, cz_6_6, cz_6_7, cz_6_8⟩ := rg_cells Rz_6
    have ca_6_0 := row_cell Ra_6
    have cb_6_0 := row_cell Rb_6
    obtain ⟨cr_6_0, cr_6_1, cr_6_2, cr_6_3, cr_6_4, cr_6_5, cr_6_6, cr_6_7, cr_6_8⟩ := rg_cells Rr_6
    have hstz := st_r w6 (w.heap.size + 1 + 1) n1 S low false false 0 0 false Rz_6
    have RZ := setRow_row (c' := rg n1 S low false) Rz_6
    obtain ⟨dz0, dz1, dz2, dz3, dz4, dz5, dz6, dz7, dz8⟩ := rg_cells RZ
    have bz := bel_set (c := rg n1 S low false) B6 (show w.heap.size ≤ w.heap.size + 1 + 1 by first | exact Nat.le_refl _ | omega | (have := H2.out; have := S3.out; have := Lx_3.out; have := Ly_3.out; have := Lz_3.out; have := La_3.out; have := Lb_3.out; omega))
    go_wp2
    exact bodyPost_ret (v := .agg (rg n1 S low false)) (by simp [results, Tryz.results106, go_sem, dz0, dz1, dz2, dz3, dz4, dz5, dz6, dz7, dz8, rgf] <;> rfl) rfl ⟨rfl, bz⟩
  · clear H
    go_wp2_with fail
    refine (KA.out _).mono ?_
    rintro r w5 ⟨rfl, b5⟩
    have B5 : Below w.heap.size w w5 := btr B4 b5
    have Rx_5 := heap_of b5 _ _ _ Rx_4
    have Ry_5 := heap_of b5 _ _ _ Ry_4
    have Rz_5 := heap_of b5 _ _ _ Rz_4
    have Ra_5 := heap_of b5 _ _ _ Ra_4
    have Rb_5 := heap_of b5 _ _ _ Rb_4
    have Rr_5 := heap_of b5 _ _ _ Rr_4
    clear b5 B4 Rx_4 cx_4_0 cx_4_1 cx_4_2 cx_4_3 cx_4_4 cx_4_5 cx_4_6 cx_4_7 cx_4_8 Ry_4 cy_4_0 cy_4_1 cy_4_2 cy_4_3 cy_4_4 cy_4_5 cy_4_6 cy_4_7 cy_4_8 Rz_4 cz_4_0 cz_4_1 cz_4_2 cz_4_3 cz_4_4 cz_4_5 cz_4_6 cz_4_7 cz_4_8 Ra_4 ca_4_0 Rb_4 cb_4_0 Rr_4 cr_4_0 cr_4_1 cr_4_2 cr_4_3 cr_4_4 cr_4_5 cr_4_6 cr_4_7 cr_4_8
    obtain ⟨cx_5_0, cx_5_1, cx_5_2, cx_5_3, cx_5_4, cx_5_5, cx_5_6, cx_5_7, cx_5_8⟩ := rg_cells Rx_5
    obtain ⟨cy_5_0, cy_5_1, cy_5_2, cy_5_3, cy_5_4, cy_5_5, cy_5_6, cy_5_7, cy_5_8⟩ := rg_cells Ry_5
    obtain ⟨cz_5_0, cz_5_1, cz_5_2, cz_5_3, cz_5_4, cz_5_5, cz_5_6, cz_5_7, cz_5_8⟩ := rg_cells Rz_5
    have ca_5_0 := row_cell Ra_5
    have cb_5_0 := row_cell Rb_5
    obtain ⟨cr_5_0, cr_5_1, cr_5_2, cr_5_3, cr_5_4, cr_5_5, cr_5_6, cr_5_7, cr_5_8⟩ := rg_cells Rr_5
    have hst6 := st_r1 w5 (w2.heap.size) n1 0 low false S Rr_5
    have B6 := bel_set (c := (rg n1 S low false)) B5 (show w.heap.size ≤ w2.heap.size by first | exact Nat.le_refl _ | omega | (have := H2.out; have := S3.out; have := Lx_3.out; have := Ly_3.out; have := Lz_3.out; have := La_3.out; have := Lb_3.out; omega))
    have Rr_6 := setRow_row (c' := (rg n1 S low false)) Rr_5
    have Rx_6 : (w5.setRow (w2.heap.size) (rg n1 S low false)).heap[w.heap.size]? = some (Obj.cells (rg n1 e1 X1 false) 62) := by rw [setRow_other (by first | omega | (have := H2.out; have := S3.out; have := Lx_3.out; have := Ly_3.out; have := Lz_3.out; have := La_3.out; have := Lb_3.out; omega))]; exact Rx_5
    have Ry_6 : (w5.setRow (w2.heap.size) (rg n1 S low false)).heap[w.heap.size + 1]? = some (Obj.cells (rg n2 e2 X2 false) 62) := by rw [setRow_other (by first | omega | (have := H2.out; have := S3.out; have := Lx_3.out; have := Ly_3.out; have := Lz_3.out; have := La_3.out; have := Lb_3.out; omega))]; exact Ry_5
    have Rz_6 : (w5.setRow (w2.heap.size) (rg n1 S low false)).heap[w.heap.size + 1 + 1]? = some (Obj.cells (rg false 0 0 false) 62) := by rw [setRow_other (by first | omega | (have := H2.out; have := S3.out; have := Lx_3.out; have := Ly_3.out; have := Lz_3.out; have := La_3.out; have := Lb_3.out; omega))]; exact Rz_5
    have Ra_6 : (w5.setRow (w2.heap.size) (rg n1 S low false)).heap[g2_0]? = some (Obj.cells (cw 6 a) 52) := by rw [setRow_other (by first | omega | (have := H2.out; have := S3.out; have := Lx_3.out; have := Ly_3.out; have := Lz_3.out; have := La_3.out; have := Lb_3.out; omega))]; exact Ra_5
    have Rb_6 : (w5.setRow (w2.heap.size) (rg n1 S low false)).heap[g2_1]? = some (Obj.cells (cw 6 b) 52) := by rw [setRow_other (by first | omega | (have := H2.out; have := S3.out; have := Lx_3.out; have := Ly_3.out; have := Lz_3.out; have := La_3.out; have := Lb_3.out; omega))]; exact Rb_5
    obtain ⟨w6, hw6⟩ : ∃ V, w5.setRow (w2.heap.size) (rg n1 S low false) = V := ⟨_, rfl⟩
    rw [hw6] at hst6 B6 Rx_6 Ry_6 Rz_6 Ra_6 Rb_6 Rr_6
    obtain ⟨cx_6_0, cx_6_1, cx_6_2, cx_6_3, cx_6_4, cx_6_5, cx_6_6, cx_6_7, cx_6_8⟩ := rg_cells Rx_6
    obtain ⟨cy_6_0, cy_6_1, cy_6_2, cy_6_3, cy_6_4, cy_6_5, cy_6_6, cy_6_7, cy_6_8⟩ := rg_cells Ry_6
    obtain ⟨cz_6_0, cz_6_1, cz_6_2, cz_6_3, cz_6_4, cz_6_5, cz_6_6, cz_6_7, cz_6_8⟩ := rg_cells Rz_6
    have ca_6_0 := row_cell Ra_6
    have cb_6_0 := row_cell Rb_6
    obtain ⟨cr_6_0, cr_6_1, cr_6_2, cr_6_3, cr_6_4, cr_6_5, cr_6_6, cr_6_7, cr_6_8⟩ := rg_cells Rr_6
    have hstz := st_r w6 (w.heap.size + 1 + 1) n1 S low false false 0 0 false Rz_6
    have RZ := setRow_row (c' := rg n1 S low false) Rz_6
    obtain ⟨dz0, dz1, dz2, dz3, dz4, dz5, dz6, dz7, dz8⟩ := rg_cells RZ
    have bz := bel_set (c := rg n1 S low false) B6 (show w.heap.size ≤ w.heap.size + 1 + 1 by first | exact Nat.le_refl _ | omega | (have := H2.out; have := S3.out; have := Lx_3.out; have := Ly_3.out; have := Lz_3.out; have := La_3.out; have := Lb_3.out; omega))
    go_wp2
    exact bodyPost_ret (v := .agg (rg n1 S low false)) (by simp [results, Tryz.results106, go_sem, dz0, dz1, dz2, dz3, dz4, dz5, dz6, dz7, dz8, rgf] <;> rfl) rfl ⟨rfl, bz⟩
  · clear H
    have qr_4 := fz (k := 0) Rr_4
    have B5 : Below w.heap.size w (w4.setCell ⟨w2.heap.size, 0, none⟩ (.bool n2)) := B4.setCell (by first | exact Nat.le_refl _ | (have := H2.out; have := S3.out; have := Lx_3.out; have := Ly_3.out; have := Lz_3.out; have := La_3.out; have := Lb_3.out; show w.heap.size ≤ w2.heap.size; omega)) _
    have Rr_5 : (w4.setCell ⟨w2.heap.size, 0, none⟩ (.bool n2)).heap[w2.heap.size]? = some (Obj.cells (rg n2 0 low false) 62) := by rw [setCell_row Rr_4]; rfl
    have Rx_5 : (w4.setCell ⟨w2.heap.size, 0, none⟩ (.bool n2)).heap[w.heap.size]? = some (Obj.cells (rg n1 e1 X1 false) 62) := by rw [setCell_other (by first | omega | (have := H2.out; have := S3.out; have := Lx_3.out; have := Ly_3.out; have := Lz_3.out; have := La_3.out; have := Lb_3.out; omega))]; exact Rx_4
    have Ry_5 : (w4.setCell ⟨w2.heap.size, 0, none⟩ (.bool n2)).heap[w.heap.size + 1]? = some (Obj.cells (rg n2 e2 X2 false) 62) := by rw [setCell_other (by first | omega | (have := H2.out; have := S3.out; have := Lx_3.out; have := Ly_3.out; have := Lz_3.out; have := La_3.out; have := Lb_3.out; omega))]; exact Ry_4
    have Rz_5 : (w4.setCell ⟨w2.heap.size, 0, none⟩ (.bool n2)).heap[w.heap.size + 1 + 1]? = some (Obj.cells (rg false 0 0 false) 62) := by rw [setCell_other (by first | omega | (have := H2.out; have := S3.out; have := Lx_3.out; have := Ly_3.out; have := Lz_3.out; have := La_3.out; have := Lb_3.out; omega))]; exact Rz_4
    have Ra_5 : (w4.setCell ⟨w2.heap.size, 0, none⟩ (.bool n2)).heap[g2_0]? = some (Obj.cells (cw 6 a) 52) := by rw [setCell_other (by first | omega | (have := H2.out; have := S3.out; have := Lx_3.out; have := Ly_3.out; have := Lz_3.out; have := La_3.out; have := Lb_3.out; omega))]; exact Ra_4
    have Rb_5 : (w4.setCell ⟨w2.heap.size, 0, none⟩ (.bool n2)).heap[g2_1]? = some (Obj.cells (cw 6 b) 52) := by rw [setCell_other (by first | omega | (have := H2.out; have := S3.out; have := Lx_3.out; have := Ly_3.out; have := Lz_3.out; have := La_3.out; have := Lb_3.out; omega))]; exact Rb_4
    obtain ⟨cx_5_0, cx_5_1, cx_5_2, cx_5_3, cx_5_4, cx_5_5, cx_5_6, cx_5_7, cx_5_8⟩ := rg_cells Rx_5
    obtain ⟨cy_5_0, cy_5_1, cy_5_2, cy_5_3, cy_5_4, cy_5_5, cy_5_6, cy_5_7, cy_5_8⟩ := rg_cells Ry_5
    obtain ⟨cz_5_0, cz_5_1, cz_5_2, cz_5_3, cz_5_4, cz_5_5, cz_5_6, cz_5_7, cz_5_8⟩ := rg_cells Rz_5
    have ca_5_0 := row_cell Ra_5
    have cb_5_0 := row_cell Rb_5
    obtain ⟨cr_5_0, cr_5_1, cr_5_2, cr_5_3, cr_5_4, cr_5_5, cr_5_6, cr_5_7, cr_5_8⟩ := rg_cells Rr_5
    go_wp2_with fail
    refine (KA.out _).mono ?_
    rintro r w6 ⟨rfl, b6⟩
    have B6 : Below w.heap.size w w6 := btr B5 b6
    have Rx_6 := heap_of b6 _ _ _ Rx_5
    have Ry_6 := heap_of b6 _ _ _ Ry_5
    have Rz_6 := heap_of b6 _ _ _ Rz_5
    have Ra_6 := heap_of b6 _ _ _ Ra_5
    have Rb_6 := heap_of b6 _ _ _ Rb_5
    have Rr_6 := heap_of b6 _ _ _ Rr_5
    clear b6 B5 Rx_5 cx_5_0 cx_5_1 cx_5_2 cx_5_3 cx_5_4 cx_5_5 cx_5_6 cx_5_7 cx_5_8 Ry_5 cy_5_0 cy_5_1 cy_5_2 cy_5_3 cy_5_4 cy_5_5 cy_5_6 cy_5_7 cy_5_8 Rz_5 cz_5_0 cz_5_1 cz_5_2 cz_5_3 cz_5_4 cz_5_5 cz_5_6 cz_5_7 cz_5_8 Ra_5 ca_5_0 Rb_5 cb_5_0 Rr_5 cr_5_0 cr_5_1 cr_5_2 cr_5_3 cr_5_4 cr_5_5 cr_5_6 cr_5_7 cr_5_8
    obtain ⟨cx_6_0, cx_6_1, cx_6_2, cx_6_3, cx_6_4, cx_6_5, cx_6_6, cx_6_7, cx_6_8⟩ := rg_cells Rx_6
    obtain ⟨cy_6_0, cy_6_1, cy_6_2, cy_6_3, cy_6_4, cy_6_5, cy_6_6, cy_6_7, cy_6_8⟩ := rg_cells Ry_6
    obtain ⟨cz_6_0, cz_6_1, cz_6_2, cz_6_3, cz_6_4, cz_6_5, cz_6_6, cz_6_7, cz_6_8⟩ := rg_cells Rz_6
    have ca_6_0 := row_cell Ra_6
    have cb_6_0 := row_cell Rb_6
    obtain ⟨cr_6_0, cr_6_1, cr_6_2, cr_6_3, cr_6_4, cr_6_5, cr_6_6, cr_6_7, cr_6_8⟩ := rg_cells Rr_6
    have hst7 := st_r1 w6 (w2.heap.size) n2 0 low false S Rr_6
    have B7 := bel_set (c := (rg n2 S low false)) B6 (show w.heap.size ≤ w2.heap.size by first | exact Nat.le_refl _ | omega | (have := H2.out; have := S3.out; have := Lx_3.out; have := Ly_3.out; have := Lz_3.out; have := La_3.out; have := Lb_3.out; omega))
    have Rr_7 := setRow_row (c' := (rg n2 S low false)) Rr_6
    have Rx_7 : (w6.setRow (w2.heap.size) (rg n2 S low false)).heap[w.heap.size]? = some (Obj.cells (rg n1 e1 X1 false) 62) := by rw [setRow_other (by first | omega | (have := H2.out; have := S3.out; have := Lx_3.out; have := Ly_3.out; have := Lz_3.out; have := La_3.out; have := Lb_3.out; omega))]; exact Rx_6
    have Ry_7 : (w6.setRow (w2.heap.size) (rg n2 S low false)).heap[w.heap.size + 1]? = some (Obj.cells (rg n2 e2 X2 false) 62) := by rw [setRow_other (by first | omega | (have := H2.out; have := S3.out; have := Lx_3.out; have := Ly_3.out; have := Lz_3.out; have := La_3.out; have := Lb_3.out; omega))]; exact Ry_6
    have Rz_7 : (w6.setRow (w2.heap.size) (rg n2 S low false)).heap[w.heap.size + 1 + 1]? = some (Obj.cells (rg false 0 0 false) 62) := by rw [setRow_other (by first | omega | (have := H2.out; have := S3.out; have := Lx_3.out; have := Ly_3.out; have := Lz_3.out; have := La_3.out; have := Lb_3.out; omega))]; exact Rz_6
    have Ra_7 : (w6.setRow (w2.heap.size) (rg n2 S low false)).heap[g2_0]? = some (Obj.cells (cw 6 a) 52) := by rw [setRow_other (by first | omega | (have := H2.out; have := S3.out; have := Lx_3.out; have := Ly_3.out; have := Lz_3.out; have := La_3.out; have := Lb_3.out; omega))]; exact Ra_6
    have Rb_7 : (w6.setRow (w2.heap.size) (rg n2 S low false)).heap[g2_1]? = some (Obj.cells (cw 6 b) 52) := by rw [setRow_other (by first | omega | (have := H2.out; have := S3.out; have := Lx_3.out; have := Ly_3.out; have := Lz_3.out; have := La_3.out; have := Lb_3.out; omega))]; exact Rb_6
    obtain ⟨w7, hw7⟩ : ∃ V, w6.setRow (w2.heap.size) (rg n2 S low false) = V := ⟨_, rfl⟩
    rw [hw7] at hst7 B7 Rx_7 Ry_7 Rz_7 Ra_7 Rb_7 Rr_7
    obtain ⟨cx_7_0, cx_7_1, cx_7_2, cx_7_3, cx_7_4, cx_7_5, cx_7_6, cx_7_7, cx_7_8⟩ := rg_cells Rx_7
    obtain ⟨cy_7_0, cy_7_1, cy_7_2, cy_7_3, cy_7_4, cy_7_5, cy_7_6, cy_7_7, cy_7_8⟩ := rg_cells Ry_7
    obtain ⟨cz_7_0, cz_7_1, cz_7_2, cz_7_3, cz_7_4, cz_7_5, cz_7_6, cz_7_7, cz_7_8⟩ := rg_cells Rz_7
    have ca_7_0 := row_cell Ra_7
    have cb_7_0 := row_cell Rb_7
    obtain ⟨cr_7_0, cr_7_1, cr_7_2, cr_7_3, cr_7_4, cr_7_5, cr_7_6, cr_7_7, cr_7_8⟩ := rg_cells Rr_7
    have hstz := st_r w7 (w.heap.size + 1 + 1) n2 S low false false 0 0 false Rz_7
    have RZ := setRow_row (c' := rg n2 S low false) Rz_7
    obtain ⟨dz0, dz1, dz2, dz3, dz4, dz5, dz6, dz7, dz8⟩ := rg_cells RZ
    have bz := bel_set (c := rg n2 S low false) B7 (show w.heap.size ≤ w.heap.size + 1 + 1 by first | exact Nat.le_refl _ | omega | (have := H2.out; have := S3.out; have := Lx_3.out; have := Ly_3.out; have := Lz_3.out; have := La_3.out; have := Lb_3.out; omega))
    go_wp2
    exact bodyPost_ret (v := .agg (rg n2 S low false)) (by simp [results, Tryz.results106, go_sem, dz0, dz1, dz2, dz3, dz4, dz5, dz6, dz7, dz8, rgf] <;> rfl) rfl ⟨rfl, bz⟩
  · clear H
    have qr_4 := fz (k := 0) Rr_4
    have B5 : Below w.heap.size w (w4.setCell ⟨w2.heap.size, 0, none⟩ (.bool neg)) := B4.setCell (by first | exact Nat.le_refl _ | (have := H2.out; have := S3.out; have := Lx_3.out; have := Ly_3.out; have := Lz_3.out; have := La_3.out; have := Lb_3.out; show w.heap.size ≤ w2.heap.size; omega)) _
    have Rr_5 : (w4.setCell ⟨w2.heap.size, 0, none⟩ (.bool neg)).heap[w2.heap.size]? = some (Obj.cells (rg neg 0 low false) 62) := by rw [setCell_row Rr_4]; rfl
    have Rx_5 : (w4.setCell ⟨w2.heap.size, 0, none⟩ (.bool neg)).heap[w.heap.size]? = some (Obj.cells (rg n1 e1 X1 false) 62) := by rw [setCell_other (by first | omega | (have := H2.out; have := S3.out; have := Lx_3.out; have := Ly_3.out; have := Lz_3.out; have := La_3.out; have := Lb_3.out; omega))]; exact Rx_4
    have Ry_5 : (w4.setCell ⟨w2.heap.size, 0, none⟩ (.bool neg)).heap[w.heap.size + 1]? = some (Obj.cells (rg n2 e2 X2 false) 62) := by rw [setCell_other (by first | omega | (have := H2.out; have := S3.out; have := Lx_3.out; have := Ly_3.out; have := Lz_3.out; have := La_3.out; have := Lb_3.out; omega))]; exact Ry_4
    have Rz_5 : (w4.setCell ⟨w2.heap.size, 0, none⟩ (.bool neg)).heap[w.heap.size + 1 + 1]? = some (Obj.cells (rg false 0 0 false) 62) := by rw [setCell_other (by first | omega | (have := H2.out; have := S3.out; have := Lx_3.out; have := Ly_3.out; have := Lz_3.out; have := La_3.out; have := Lb_3.out; omega))]; exact Rz_4
    have Ra_5 : (w4.setCell ⟨w2.heap.size, 0, none⟩ (.bool neg)).heap[g2_0]? = some (Obj.cells (cw 6 a) 52) := by rw [setCell_other (by first | omega | (have := H2.out; have := S3.out; have := Lx_3.out; have := Ly_3.out; have := Lz_3.out; have := La_3.out; have := Lb_3.out; omega))]; exact Ra_4
    have Rb_5 : (w4.setCell ⟨w2.heap.size, 0, none⟩ (.bool neg)).heap[g2_1]? = some (Obj.cells (cw 6 b) 52) := by rw [setCell_other (by first | omega | (have := H2.out; have := S3.out; have := Lx_3.out; have := Ly_3.out; have := Lz_3.out; have := La_3.out; have := Lb_3.out; omega))]; exact Rb_4
    obtain ⟨cx_5_0, cx_5_1, cx_5_2, cx_5_3, cx_5_4, cx_5_5, cx_5_6, cx_5_7, cx_5_8⟩ := rg_cells Rx_5
    obtain ⟨cy_5_0, cy_5_1, cy_5_2, cy_5_3, cy_5_4, cy_5_5, cy_5_6, cy_5_7, cy_5_8⟩ := rg_cells Ry_5
    obtain ⟨cz_5_0, cz_5_1, cz_5_2, cz_5_3, cz_5_4, cz_5_5, cz_5_6, cz_5_7, cz_5_8⟩ := rg_cells Rz_5
    have ca_5_0 := row_cell Ra_5
    have cb_5_0 := row_cell Rb_5
    obtain ⟨cr_5_0, cr_5_1, cr_5_2, cr_5_3, cr_5_4, cr_5_5, cr_5_6, cr_5_7, cr_5_8⟩ := rg_cells Rr_5
    have hstz := st_r (w4.setCell ⟨w2.heap.size, 0, none⟩ (.bool neg)) (w.heap.size + 1 + 1) neg 0 low false false 0 0 false Rz_5
    have RZ := setRow_row (c' := rg neg 0 low false) Rz_5
    obtain ⟨dz0, dz1, dz2, dz3, dz4, dz5, dz6, dz7, dz8⟩ := rg_cells RZ
    have bz := bel_set (c := rg neg 0 low false) B5 (show w.heap.size ≤ w.heap.size + 1 + 1 by first | exact Nat.le_refl _ | omega | (have := H2.out; have := S3.out; have := Lx_3.out; have := Ly_3.out; have := Lz_3.out; have := La_3.out; have := Lb_3.out; omega))
    go_wp2
    exact bodyPost_ret (v := .agg (rg neg 0 low false)) (by simp [results, Tryz.results106, go_sem, dz0, dz1, dz2, dz3, dz4, dz5, dz6, dz7, dz8, rgf] <;> rfl) rfl ⟨rfl, bz⟩
end Go.Proofs.YtapikkbifdldfaaGreatDoor
