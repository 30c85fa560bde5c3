/-
  What the functions that the statement reaches return: part 15 (R32, R34, R35, R16).
-/
import Derived.Test.YtpdehipeakcaiaaGreatDoorFc14
namespace Go.Proofs.YtpdehipeakcaiaaGreatDoor
set_option maxRecDepth 100000
set_option maxHeartbeats 40000000
set_option maxRecDepth 100000
open Go.RowKit WMath
set_option linter.unusedSimpArgs false
set_option linter.unusedVariables false
theorem gen_round_Pack_9 {X : Act → World → Prop} {R : World → Nat → Prop} {t0 t1 t2 t3 t4 t5 t6 t7 t8 t10 t11 t12 t13 t14 t15 t16 t17 t18 t19 t20 t21 t22 t23 t24 t25 t26 t27 t28 t29 t30 t31 t32 t33 t34 t35 t36 t37 t38 t39 t40 t41 t42 t43 t44 t45 t46 t47 t48 t49 t50 t51 t52 t53 t54 t55 t56 t57 t58 t59 t60 t61 t62 t63 t64 t65 t66 t67 t68 t69 t70 t71 t72 : Value} {d : List Deferred} {W : World} {G : Nat}
    (key : ∀ w5 g, R w5 g → X ⟨#[t0, t1, t2, t3, t4, t5, t6, t7, t8, .pointer (some ⟨g, 0, none⟩), t10, t11, t12, t13, t14, t15, t16, t17, t18, t19, t20, t21, t22, t23, t24, t25, t26, t27, t28, t29, t30, t31, t32, t33, t34, t35, t36, t37, t38, t39, t40, t41, t42, t43, t44, t45, t46, t47, t48, t49, t50, t51, t52, t53, t54, t55, t56, t57, t58, t59, t60, t61, t62, t63, t64, t65, t66, t67, t68, t69, t70, t71, t72], d⟩ w5) (r : R W G) : X ⟨#[t0, t1, t2, t3, t4, t5, t6, t7, t8, .pointer (some ⟨G, 0, none⟩), t10, t11, t12, t13, t14, t15, t16, t17, t18, t19, t20, t21, t22, t23, t24, t25, t26, t27, t28, t29, t30, t31, t32, t33, t34, t35, t36, t37, t38, t39, t40, t41, t42, t43, t44, t45, t46, t47, t48, t49, t50, t51, t52, t53, t54, t55, t56, t57, t58, t59, t60, t61, t62, t63, t64, t65, t66, t67, t68, t69, t70, t71, t72], d⟩ W := key W G r

set_option maxRecDepth 100000 in
set_option maxHeartbeats 16000000 in
theorem ro_pack (f m : Int) (neg : Bool) (s t : Nat) (x : Int) (more : Bool) (T I st rt E fl : Int) (K : Nat) (ex ov o : Bool) (u v : Nat) (w : World) (hz : (s = 0) = False) (hQ : s < Q)
    (KC : Box (∀ w, Calls Tryz.prog 20 #[.int .u8 f, .int .u8 m] w fun r w' => r = .returned (.int .i64 0) ∧ Below w.heap.size w w'))
    (KM : Box (∀ w, FAt w → Calls Tryz.prog 21 #[.int .u8 f, .agg (rg neg s x more)] w fun r w' => r = .returned (.bool true) ∧ Below w.heap.size w w'))
    (KJ : Box (∀ w, Calls Tryz.prog 23 #[.agg (rg neg s x more)] w fun r w' => r = .returned (.agg (rg neg t x false)) ∧ Below w.heap.size w w'))
    (K1 : Box (∀ w, Calls Tryz.prog 26 #[.agg (rg neg t x false)] w fun r w' => r = .returned (.int .i64 T) ∧ Below w.heap.size w w'))
    (KI : Box (∀ w, FAt w → Calls Tryz.prog 27 #[.int .u8 f] w fun r w' => r = .returned (.int .i64 I) ∧ Below w.heap.size w w'))
    (KS : Box (∀ w, FAt w → Calls Tryz.prog 25 #[.int .u8 f, .int .i64 (max T I)] w fun r w' => r = .returned (.int .i64 st) ∧ Below w.heap.size w w'))
    (KG : Box (∀ w, Calls Tryz.prog 24 #[.int .u8 m, .agg (rg neg t x false), .int .i64 st] w fun r w' => r = .returned (.tuple #[.agg (rg neg K st false), .bool ex]) ∧ Below w.heap.size w w'))
    (KT : Box (∀ w, Calls Tryz.prog 26 #[.agg (rg neg K st false)] w fun r w' => r = .returned (.int .i64 rt) ∧ Below w.heap.size w w'))
    (KE : Box (∀ w, FAt w → Calls Tryz.prog 28 #[.int .u8 f] w fun r w' => r = .returned (.int .i64 E) ∧ Below w.heap.size w w'))
    (KO : Box (ov = true → ∀ w, FAt w → Calls Tryz.prog 29 #[.int .u8 f, .int .u8 m, .bool neg] w fun r w' => r = .returned (.tuple #[.agg #[.int .u64 (u : Nat), .int .u64 (v : Nat)], .int .u8 5, .int .i64 0]) ∧ Below w.heap.size w w'))
    (KD : Box (ov = false → ∀ w, FAt w → Calls Tryz.prog 31 #[.int .u8 f, .agg (rg neg K st false)] w fun r w' => r = .returned (.agg #[.int .u64 (u : Nat), .int .u64 (v : Nat)]) ∧ Below w.heap.size w w'))
    (KN : Box (∀ w, FAt w → Calls Tryz.prog 30 #[.int .u8 f, .int .u8 m, .agg (rg neg t x false)] w fun r w' => r = .returned (.bool o) ∧ Below w.heap.size w w'))
    (ho : decide (E < rt) = ov) (hfl : (if ov = true then (5 : Int) else if ex = true then 0 else (if o = true then 3 else 1)) = fl)
    (hT : FAt w) : Calls Tryz.prog 9 #[.int .u8 f, .int .u8 m, .agg (rg neg s x more)] w fun r w' => r = .returned (.tuple #[.agg #[.int .u64 (u : Nat), .int .u64 (v : Nat)], .int .u8 fl, .int .i64 0]) ∧ Below w.heap.size w w' := by
  have FF := box hT
  have HFL := box hfl
  clear hT hfl
  have hb1 : bits .or .u8 0 1 = 1 := by decide
  have hb2 : bits .or .u8 1 2 = 3 := by decide
  have hat := cw_at 6
  have hz := cw6z
  have hff := cw6f
  have hs0 := st0
  have hcs : ∀ x, ((cw 6 x).size = 6) = True := fun x => eq_true (cw_size 6 x)
  have heq := eq6
  have hQ0 := Q_pos
  have hg := eqg6
  have hp1 := rgf
  have hp3 := rgz
  have hp4 := st_r0
  have hp5 : ∀ (c : Bool) (s : Nat) (x : Int) (r : Bool), ((rg c s x r).size = 9) = True := fun _ _ _ _ => eq_true rfl
  obtain ⟨Rx_0, Rz_0, B0⟩ := opn2 w (Obj.cells (rg neg s x more) 45) (Obj.cells #[.int .u64 0, .int .u64 0] 27)
  go_enter Tryz.func9, Tryz.ntmps9
  obtain ⟨cx_0_0, cx_0_1, cx_0_2, cx_0_3, cx_0_4, cx_0_5, cx_0_6, cx_0_7, cx_0_8⟩ := rg_cells Rx_0
  obtain ⟨cz_0_0, cz_0_1⟩ := cells2s Rz_0
  go_wp2_with fail
  refine (KC.out _).mono ?_
  rintro r w1 ⟨rfl, b1⟩
  have B1 : Below w.heap.size w w1 := btr B0 b1
  have Rx_1 := heap_of b1 _ _ _ Rx_0
  have Rz_1 := heap_of b1 _ _ _ Rz_0
  clear b1 B0 Rx_0 cx_0_0 cx_0_1 cx_0_2 cx_0_3 cx_0_4 cx_0_5 cx_0_6 cx_0_7 cx_0_8 Rz_0 cz_0_0 cz_0_1
  obtain ⟨cx_1_0, cx_1_1, cx_1_2, cx_1_3, cx_1_4, cx_1_5, cx_1_6, cx_1_7, cx_1_8⟩ := rg_cells Rx_1
  obtain ⟨cz_1_0, cz_1_1⟩ := cells2s Rz_1
  go_wp2_with fail
  refine (KM.out _ (fatB FF.out B1)).mono ?_
  rintro r w2 ⟨rfl, b2⟩
  have B2 : Below w.heap.size w w2 := btr B1 b2
  have Rx_2 := heap_of b2 _ _ _ Rx_1
  have Rz_2 := heap_of b2 _ _ _ Rz_1
  clear b2 B1 Rx_1 cx_1_0 cx_1_1 cx_1_2 cx_1_3 cx_1_4 cx_1_5 cx_1_6 cx_1_7 cx_1_8 Rz_1 cz_1_0 cz_1_1
  obtain ⟨cx_2_0, cx_2_1, cx_2_2, cx_2_3, cx_2_4, cx_2_5, cx_2_6, cx_2_7, cx_2_8⟩ := rg_cells Rx_2
  obtain ⟨cz_2_0, cz_2_1⟩ := cells2s Rz_2
  go_wp2_with fail
  refine (KJ.out _).mono ?_
  rintro r w3 ⟨rfl, b3⟩
  have B3 : Below w.heap.size w w3 := btr B2 b3
  have Rx_3 := heap_of b3 _ _ _ Rx_2
  have Rz_3 := heap_of b3 _ _ _ Rz_2
  clear b3 B2 Rx_2 cx_2_0 cx_2_1 cx_2_2 cx_2_3 cx_2_4 cx_2_5 cx_2_6 cx_2_7 cx_2_8 Rz_2 cz_2_0 cz_2_1
  obtain ⟨cx_3_0, cx_3_1, cx_3_2, cx_3_3, cx_3_4, cx_3_5, cx_3_6, cx_3_7, cx_3_8⟩ := rg_cells Rx_3
  obtain ⟨cz_3_0, cz_3_1⟩ := cells2s Rz_3
  have hst4 := st_r w3 (w.heap.size) neg t x false neg s x more Rx_3
  have B4 := bel_set (c := (rg neg t x false)) B3 (show w.heap.size ≤ w.heap.size by first | exact Nat.le_refl _ | omega | (skip; omega))
  have Rx_4 := setRow_row (c' := (rg neg t x false)) Rx_3
  have Rz_4 : (w3.setRow (w.heap.size) (rg neg t x false)).heap[w.heap.size + 1]? = some (Obj.cells #[.int .u64 0, .int .u64 0] 27) := by rw [setRow_other (by first | omega | (skip; omega))]; exact Rz_3
  obtain ⟨w4, hw4⟩ : ∃ V, w3.setRow (w.heap.size) (rg neg t x false) = V := ⟨_, rfl⟩
  rw [hw4] at hst4 B4 Rx_4 Rz_4
  obtain ⟨cx_4_0, cx_4_1, cx_4_2, cx_4_3, cx_4_4, cx_4_5, cx_4_6, cx_4_7, cx_4_8⟩ := rg_cells Rx_4
  obtain ⟨cz_4_0, cz_4_1⟩ := cells2s Rz_4
  have sS : Box (∀ W W1 : World, (Below w.heap.size w W ∧ W.heap[w.heap.size]? = some (Obj.cells (rg neg t x false) 45) ∧ W.heap[w.heap.size + 1]? = some (Obj.cells #[.int .u64 0, .int .u64 0] 27) ∧ W.cell? ⟨w.heap.size, 0, none⟩ = some (.bool neg) ∧ W.cell? ⟨w.heap.size, 1, none⟩ = some (.int .u64 ((wd t 0 : Nat) : Int)) ∧ W.cell? ⟨w.heap.size, 2, none⟩ = some (.int .u64 ((wd t 1 : Nat) : Int)) ∧ W.cell? ⟨w.heap.size, 3, none⟩ = some (.int .u64 ((wd t 2 : Nat) : Int)) ∧ W.cell? ⟨w.heap.size, 4, none⟩ = some (.int .u64 ((wd t 3 : Nat) : Int)) ∧ W.cell? ⟨w.heap.size, 5, none⟩ = some (.int .u64 ((wd t 4 : Nat) : Int)) ∧ W.cell? ⟨w.heap.size, 6, none⟩ = some (.int .u64 ((wd t 5 : Nat) : Int)) ∧ W.cell? ⟨w.heap.size, 7, none⟩ = some (.int .i64 x) ∧ W.cell? ⟨w.heap.size, 8, none⟩ = some (.bool false) ∧ W.cell? ⟨w.heap.size + 1, 0, none⟩ = some (.int .u64 0) ∧ W.cell? ⟨w.heap.size + 1, 1, none⟩ = some (.int .u64 0)) → Below W.heap.size W W1 → (Below w.heap.size w W1 ∧ W1.heap[w.heap.size]? = some (Obj.cells (rg neg t x false) 45) ∧ W1.heap[w.heap.size + 1]? = some (Obj.cells #[.int .u64 0, .int .u64 0] 27) ∧ W1.cell? ⟨w.heap.size, 0, none⟩ = some (.bool neg) ∧ W1.cell? ⟨w.heap.size, 1, none⟩ = some (.int .u64 ((wd t 0 : Nat) : Int)) ∧ W1.cell? ⟨w.heap.size, 2, none⟩ = some (.int .u64 ((wd t 1 : Nat) : Int)) ∧ W1.cell? ⟨w.heap.size, 3, none⟩ = some (.int .u64 ((wd t 2 : Nat) : Int)) ∧ W1.cell? ⟨w.heap.size, 4, none⟩ = some (.int .u64 ((wd t 3 : Nat) : Int)) ∧ W1.cell? ⟨w.heap.size, 5, none⟩ = some (.int .u64 ((wd t 4 : Nat) : Int)) ∧ W1.cell? ⟨w.heap.size, 6, none⟩ = some (.int .u64 ((wd t 5 : Nat) : Int)) ∧ W1.cell? ⟨w.heap.size, 7, none⟩ = some (.int .i64 x) ∧ W1.cell? ⟨w.heap.size, 8, none⟩ = some (.bool false) ∧ W1.cell? ⟨w.heap.size + 1, 0, none⟩ = some (.int .u64 0) ∧ W1.cell? ⟨w.heap.size + 1, 1, none⟩ = some (.int .u64 0))) := box (fun W W1 h b => ⟨btr h.1 b, heap_of b _ _ _ h.2.1, heap_of b _ _ _ h.2.2.1, cell7 (heap_of b _ _ _ h.2.1) 0 _ rfl, cell7 (heap_of b _ _ _ h.2.1) 1 _ rfl, cell7 (heap_of b _ _ _ h.2.1) 2 _ rfl, cell7 (heap_of b _ _ _ h.2.1) 3 _ rfl, cell7 (heap_of b _ _ _ h.2.1) 4 _ rfl, cell7 (heap_of b _ _ _ h.2.1) 5 _ rfl, cell7 (heap_of b _ _ _ h.2.1) 6 _ rfl, cell7 (heap_of b _ _ _ h.2.1) 7 _ rfl, cell7 (heap_of b _ _ _ h.2.1) 8 _ rfl, cell7 (heap_of b _ _ _ h.2.2.1) 0 _ rfl, cell7 (heap_of b _ _ _ h.2.2.1) 1 _ rfl⟩)
  have sL : Box (∀ W : World, (Below w.heap.size w W ∧ W.heap[w.heap.size]? = some (Obj.cells (rg neg t x false) 45) ∧ W.heap[w.heap.size + 1]? = some (Obj.cells #[.int .u64 0, .int .u64 0] 27) ∧ W.cell? ⟨w.heap.size, 0, none⟩ = some (.bool neg) ∧ W.cell? ⟨w.heap.size, 1, none⟩ = some (.int .u64 ((wd t 0 : Nat) : Int)) ∧ W.cell? ⟨w.heap.size, 2, none⟩ = some (.int .u64 ((wd t 1 : Nat) : Int)) ∧ W.cell? ⟨w.heap.size, 3, none⟩ = some (.int .u64 ((wd t 2 : Nat) : Int)) ∧ W.cell? ⟨w.heap.size, 4, none⟩ = some (.int .u64 ((wd t 3 : Nat) : Int)) ∧ W.cell? ⟨w.heap.size, 5, none⟩ = some (.int .u64 ((wd t 4 : Nat) : Int)) ∧ W.cell? ⟨w.heap.size, 6, none⟩ = some (.int .u64 ((wd t 5 : Nat) : Int)) ∧ W.cell? ⟨w.heap.size, 7, none⟩ = some (.int .i64 x) ∧ W.cell? ⟨w.heap.size, 8, none⟩ = some (.bool false) ∧ W.cell? ⟨w.heap.size + 1, 0, none⟩ = some (.int .u64 0) ∧ W.cell? ⟨w.heap.size + 1, 1, none⟩ = some (.int .u64 0)) → (w.heap.size < W.heap.size ∧ w.heap.size + 1 < W.heap.size)) := box (fun W h => ⟨(Array.getElem?_eq_some_iff.1 h.2.1).1, (Array.getElem?_eq_some_iff.1 h.2.2.1).1⟩)
  have sT : Box (∀ (W : World) (gN : Nat) (xA : Array Value), (Below w.heap.size w W ∧ W.heap[w.heap.size]? = some (Obj.cells (rg neg t x false) 45) ∧ W.heap[w.heap.size + 1]? = some (Obj.cells #[.int .u64 0, .int .u64 0] 27) ∧ W.cell? ⟨w.heap.size, 0, none⟩ = some (.bool neg) ∧ W.cell? ⟨w.heap.size, 1, none⟩ = some (.int .u64 ((wd t 0 : Nat) : Int)) ∧ W.cell? ⟨w.heap.size, 2, none⟩ = some (.int .u64 ((wd t 1 : Nat) : Int)) ∧ W.cell? ⟨w.heap.size, 3, none⟩ = some (.int .u64 ((wd t 2 : Nat) : Int)) ∧ W.cell? ⟨w.heap.size, 4, none⟩ = some (.int .u64 ((wd t 3 : Nat) : Int)) ∧ W.cell? ⟨w.heap.size, 5, none⟩ = some (.int .u64 ((wd t 4 : Nat) : Int)) ∧ W.cell? ⟨w.heap.size, 6, none⟩ = some (.int .u64 ((wd t 5 : Nat) : Int)) ∧ W.cell? ⟨w.heap.size, 7, none⟩ = some (.int .i64 x) ∧ W.cell? ⟨w.heap.size, 8, none⟩ = some (.bool false) ∧ W.cell? ⟨w.heap.size + 1, 0, none⟩ = some (.int .u64 0) ∧ W.cell? ⟨w.heap.size + 1, 1, none⟩ = some (.int .u64 0)) → (w.heap.size < gN ∧ w.heap.size + 1 < gN) → (Below w.heap.size w (W.setRow gN xA) ∧ (W.setRow gN xA).heap[w.heap.size]? = some (Obj.cells (rg neg t x false) 45) ∧ (W.setRow gN xA).heap[w.heap.size + 1]? = some (Obj.cells #[.int .u64 0, .int .u64 0] 27) ∧ (W.setRow gN xA).cell? ⟨w.heap.size, 0, none⟩ = some (.bool neg) ∧ (W.setRow gN xA).cell? ⟨w.heap.size, 1, none⟩ = some (.int .u64 ((wd t 0 : Nat) : Int)) ∧ (W.setRow gN xA).cell? ⟨w.heap.size, 2, none⟩ = some (.int .u64 ((wd t 1 : Nat) : Int)) ∧ (W.setRow gN xA).cell? ⟨w.heap.size, 3, none⟩ = some (.int .u64 ((wd t 2 : Nat) : Int)) ∧ (W.setRow gN xA).cell? ⟨w.heap.size, 4, none⟩ = some (.int .u64 ((wd t 3 : Nat) : Int)) ∧ (W.setRow gN xA).cell? ⟨w.heap.size, 5, none⟩ = some (.int .u64 ((wd t 4 : Nat) : Int)) ∧ (W.setRow gN xA).cell? ⟨w.heap.size, 6, none⟩ = some (.int .u64 ((wd t 5 : Nat) : Int)) ∧ (W.setRow gN xA).cell? ⟨w.heap.size, 7, none⟩ = some (.int .i64 x) ∧ (W.setRow gN xA).cell? ⟨w.heap.size, 8, none⟩ = some (.bool false) ∧ (W.setRow gN xA).cell? ⟨w.heap.size + 1, 0, none⟩ = some (.int .u64 0) ∧ (W.setRow gN xA).cell? ⟨w.heap.size + 1, 1, none⟩ = some (.int .u64 0))) := box (fun W gN xA h l => ⟨bel_set h.1 (show w.heap.size ≤ gN by have := l.1; omega), (setRow_other (by have := l.1; omega)).trans h.2.1, (setRow_other (by have := l.2; omega)).trans h.2.2.1, cell7 ((setRow_other (by have := l.1; omega)).trans h.2.1) 0 _ rfl, cell7 ((setRow_other (by have := l.1; omega)).trans h.2.1) 1 _ rfl, cell7 ((setRow_other (by have := l.1; omega)).trans h.2.1) 2 _ rfl, cell7 ((setRow_other (by have := l.1; omega)).trans h.2.1) 3 _ rfl, cell7 ((setRow_other (by have := l.1; omega)).trans h.2.1) 4 _ rfl, cell7 ((setRow_other (by have := l.1; omega)).trans h.2.1) 5 _ rfl, cell7 ((setRow_other (by have := l.1; omega)).trans h.2.1) 6 _ rfl, cell7 ((setRow_other (by have := l.1; omega)).trans h.2.1) 7 _ rfl, cell7 ((setRow_other (by have := l.1; omega)).trans h.2.1) 8 _ rfl, cell7 ((setRow_other (by have := l.2; omega)).trans h.2.2.1) 0 _ rfl, cell7 ((setRow_other (by have := l.2; omega)).trans h.2.2.1) 1 _ rfl⟩)
  have s0 : Below w.heap.size w (w4).drew ∧ (w4).drew.heap[w.heap.size]? = some (Obj.cells (rg neg t x false) 45) ∧ (w4).drew.heap[w.heap.size + 1]? = some (Obj.cells #[.int .u64 0, .int .u64 0] 27) ∧ (w4).drew.cell? ⟨w.heap.size, 0, none⟩ = some (.bool neg) ∧ (w4).drew.cell? ⟨w.heap.size, 1, none⟩ = some (.int .u64 ((wd t 0 : Nat) : Int)) ∧ (w4).drew.cell? ⟨w.heap.size, 2, none⟩ = some (.int .u64 ((wd t 1 : Nat) : Int)) ∧ (w4).drew.cell? ⟨w.heap.size, 3, none⟩ = some (.int .u64 ((wd t 2 : Nat) : Int)) ∧ (w4).drew.cell? ⟨w.heap.size, 4, none⟩ = some (.int .u64 ((wd t 3 : Nat) : Int)) ∧ (w4).drew.cell? ⟨w.heap.size, 5, none⟩ = some (.int .u64 ((wd t 4 : Nat) : Int)) ∧ (w4).drew.cell? ⟨w.heap.size, 6, none⟩ = some (.int .u64 ((wd t 5 : Nat) : Int)) ∧ (w4).drew.cell? ⟨w.heap.size, 7, none⟩ = some (.int .i64 x) ∧ (w4).drew.cell? ⟨w.heap.size, 8, none⟩ = some (.bool false) ∧ (w4).drew.cell? ⟨w.heap.size + 1, 0, none⟩ = some (.int .u64 0) ∧ (w4).drew.cell? ⟨w.heap.size + 1, 1, none⟩ = some (.int .u64 0) := ⟨B4.drew, Rx_4, Rz_4, cell7 (Rx_4) 0 _ rfl, cell7 (Rx_4) 1 _ rfl, cell7 (Rx_4) 2 _ rfl, cell7 (Rx_4) 3 _ rfl, cell7 (Rx_4) 4 _ rfl, cell7 (Rx_4) 5 _ rfl, cell7 (Rx_4) 6 _ rfl, cell7 (Rx_4) 7 _ rfl, cell7 (Rx_4) 8 _ rfl, cell7 (Rz_4) 0 _ rfl, cell7 (Rz_4) 1 _ rfl⟩
  clear B4 Rx_4 cx_4_0 cx_4_1 cx_4_2 cx_4_3 cx_4_4 cx_4_5 cx_4_6 cx_4_7 cx_4_8 Rz_4 cz_4_0 cz_4_1
  go_wp2_with fail
  apply cut7
  · intro key0
    have key := box key0
    clear key0
    go_region_held3 (fun W => Below w.heap.size w W ∧ W.heap[w.heap.size]? = some (Obj.cells (rg neg t x false) 45) ∧ W.heap[w.heap.size + 1]? = some (Obj.cells #[.int .u64 0, .int .u64 0] 27) ∧ W.cell? ⟨w.heap.size, 0, none⟩ = some (.bool neg) ∧ W.cell? ⟨w.heap.size, 1, none⟩ = some (.int .u64 ((wd t 0 : Nat) : Int)) ∧ W.cell? ⟨w.heap.size, 2, none⟩ = some (.int .u64 ((wd t 1 : Nat) : Int)) ∧ W.cell? ⟨w.heap.size, 3, none⟩ = some (.int .u64 ((wd t 2 : Nat) : Int)) ∧ W.cell? ⟨w.heap.size, 4, none⟩ = some (.int .u64 ((wd t 3 : Nat) : Int)) ∧ W.cell? ⟨w.heap.size, 5, none⟩ = some (.int .u64 ((wd t 4 : Nat) : Int)) ∧ W.cell? ⟨w.heap.size, 6, none⟩ = some (.int .u64 ((wd t 5 : Nat) : Int)) ∧ W.cell? ⟨w.heap.size, 7, none⟩ = some (.int .i64 x) ∧ W.cell? ⟨w.heap.size, 8, none⟩ = some (.bool false) ∧ W.cell? ⟨w.heap.size + 1, 0, none⟩ = some (.int .u64 0) ∧ W.cell? ⟨w.heap.size + 1, 1, none⟩ = some (.int .u64 0)) (first | exact s1 | exact s0 | exact sS.out _ _ s1 (bal _ _) | exact sS.out _ _ s0 (bal _ _) | exact sT.out _ _ _ s1 hl)
      (first | (go_at_call 26; (first | refine (K1.out _).mono ?_ | refine (K1.out _).mono ?_); rintro r wq ⟨rfl, bq⟩; (first | (have hg := heap_of bq _ _ _ (heap_alloc_last _ _); have hl := (by first | exact sL.out _ s1 | exact sL.out _ s0)) | have hg := heap_of bq _ _ _ hg | skip); (try simp only [size_dr, size_al] at hg hl); (first | have hst := st_r _ _ neg K st false false 0 0 false hg | skip); have s2 := (by first | exact sS.out _ _ s1 bq | exact sS.out _ _ s0 bq | exact sS.out _ _ (sS.out _ _ s1 (bal _ _)) bq | exact sS.out _ _ (sS.out _ _ s0 (bal _ _)) bq); (try clear s1); have s1 := s2; clear s2 bq) | (go_at_call 27; (first | refine (KI.out _ (by first | exact fatB FF.out (And.left s1) | exact fat_al (fatB FF.out (And.left s1)) _)).mono ?_ | refine (KI.out _ (by first | exact fatB FF.out (And.left s0) | exact fat_al (fatB FF.out (And.left s0)) _)).mono ?_); rintro r wq ⟨rfl, bq⟩; (first | (have hg := heap_of bq _ _ _ (heap_alloc_last _ _); have hl := (by first | exact sL.out _ s1 | exact sL.out _ s0)) | have hg := heap_of bq _ _ _ hg | skip); (try simp only [size_dr, size_al] at hg hl); (first | have hst := st_r _ _ neg K st false false 0 0 false hg | skip); have s2 := (by first | exact sS.out _ _ s1 bq | exact sS.out _ _ s0 bq | exact sS.out _ _ (sS.out _ _ s1 (bal _ _)) bq | exact sS.out _ _ (sS.out _ _ s0 (bal _ _)) bq); (try clear s1); have s1 := s2; clear s2 bq) | (go_at_call 25; (first | refine (KS.out _ (by first | exact fatB FF.out (And.left s1) | exact fat_al (fatB FF.out (And.left s1)) _)).mono ?_ | refine (KS.out _ (by first | exact fatB FF.out (And.left s0) | exact fat_al (fatB FF.out (And.left s0)) _)).mono ?_); rintro r wq ⟨rfl, bq⟩; (first | (have hg := heap_of bq _ _ _ (heap_alloc_last _ _); have hl := (by first | exact sL.out _ s1 | exact sL.out _ s0)) | have hg := heap_of bq _ _ _ hg | skip); (try simp only [size_dr, size_al] at hg hl); (first | have hst := st_r _ _ neg K st false false 0 0 false hg | skip); have s2 := (by first | exact sS.out _ _ s1 bq | exact sS.out _ _ s0 bq | exact sS.out _ _ (sS.out _ _ s1 (bal _ _)) bq | exact sS.out _ _ (sS.out _ _ s0 (bal _ _)) bq); (try clear s1); have s1 := s2; clear s2 bq) | (go_at_call 24; (first | refine (KG.out _).mono ?_ | refine (KG.out _).mono ?_); rintro r wq ⟨rfl, bq⟩; (first | (have hg := heap_of bq _ _ _ (heap_alloc_last _ _); have hl := (by first | exact sL.out _ s1 | exact sL.out _ s0)) | have hg := heap_of bq _ _ _ hg | skip); (try simp only [size_dr, size_al] at hg hl); (first | have hst := st_r _ _ neg K st false false 0 0 false hg | skip); have s2 := (by first | exact sS.out _ _ s1 bq | exact sS.out _ _ s0 bq | exact sS.out _ _ (sS.out _ _ s1 (bal _ _)) bq | exact sS.out _ _ (sS.out _ _ s0 (bal _ _)) bq); (try clear s1); have s1 := s2; clear s2 bq) | fail)
    all_goals
      refine gen_round_Pack_9 (R := fun W gN => (Below w.heap.size w W ∧ W.heap[w.heap.size]? = some (Obj.cells (rg neg t x false) 45) ∧ W.heap[w.heap.size + 1]? = some (Obj.cells #[.int .u64 0, .int .u64 0] 27) ∧ W.cell? ⟨w.heap.size, 0, none⟩ = some (.bool neg) ∧ W.cell? ⟨w.heap.size, 1, none⟩ = some (.int .u64 ((wd t 0 : Nat) : Int)) ∧ W.cell? ⟨w.heap.size, 2, none⟩ = some (.int .u64 ((wd t 1 : Nat) : Int)) ∧ W.cell? ⟨w.heap.size, 3, none⟩ = some (.int .u64 ((wd t 2 : Nat) : Int)) ∧ W.cell? ⟨w.heap.size, 4, none⟩ = some (.int .u64 ((wd t 3 : Nat) : Int)) ∧ W.cell? ⟨w.heap.size, 5, none⟩ = some (.int .u64 ((wd t 4 : Nat) : Int)) ∧ W.cell? ⟨w.heap.size, 6, none⟩ = some (.int .u64 ((wd t 5 : Nat) : Int)) ∧ W.cell? ⟨w.heap.size, 7, none⟩ = some (.int .i64 x) ∧ W.cell? ⟨w.heap.size, 8, none⟩ = some (.bool false) ∧ W.cell? ⟨w.heap.size + 1, 0, none⟩ = some (.int .u64 0) ∧ W.cell? ⟨w.heap.size + 1, 1, none⟩ = some (.int .u64 0)) ∧ W.heap[gN]? = some (Obj.cells (rg neg K st false) 45) ∧ (w.heap.size < gN ∧ w.heap.size + 1 < gN)) key.out ?_
      first
        | exact ⟨(sT.out _ _ _ s1 hl), setRow_row hg, hl⟩
        | exact ⟨sS.out _ _ s1 (bal _ _), heap_alloc_last _ _, sL.out _ s1⟩
        | exact ⟨sS.out _ _ s0 (bal _ _), heap_alloc_last _ _, sL.out _ s0⟩
  rintro w5 g5 ⟨s1, Rr_5, l5⟩
  have B5 := And.left s1
  have Rx_5 := s1.2.1
  have Rz_5 := s1.2.2.1
  have H5 := box l5
  clear s0 s1 sS sL sT l5
  obtain ⟨cx_5_0, cx_5_1, cx_5_2, cx_5_3, cx_5_4, cx_5_5, cx_5_6, cx_5_7, cx_5_8⟩ := rg_cells Rx_5
  obtain ⟨cz_5_0, cz_5_1⟩ := cells2s Rz_5
  obtain ⟨cr_5_0, cr_5_1, cr_5_2, cr_5_3, cr_5_4, cr_5_5, cr_5_6, cr_5_7, cr_5_8⟩ := rg_cells Rr_5
  go_wp2_with fail
  refine (KT.out _).mono ?_
  rintro r w6 ⟨rfl, b6⟩
  have B6 : Below w.heap.size w w6 := btr B5 b6
  have Rx_6 := heap_of b6 _ _ _ Rx_5
  have Rz_6 := heap_of b6 _ _ _ Rz_5
  have Rr_6 := heap_of b6 _ _ _ Rr_5
  clear b6 B5 Rx_5 cx_5_0 cx_5_1 cx_5_2 cx_5_3 cx_5_4 cx_5_5 cx_5_6 cx_5_7 cx_5_8 Rz_5 cz_5_0 cz_5_1 Rr_5 cr_5_0 cr_5_1 cr_5_2 cr_5_3 cr_5_4 cr_5_5 cr_5_6 cr_5_7 cr_5_8
  obtain ⟨cx_6_0, cx_6_1, cx_6_2, cx_6_3, cx_6_4, cx_6_5, cx_6_6, cx_6_7, cx_6_8⟩ := rg_cells Rx_6
  obtain ⟨cz_6_0, cz_6_1⟩ := cells2s Rz_6
  obtain ⟨cr_6_0, cr_6_1, cr_6_2, cr_6_3, cr_6_4, cr_6_5, cr_6_6, cr_6_7, cr_6_8⟩ := rg_cells Rr_6
  go_wp2_with fail
  refine (KE.out _ (fatB FF.out B6)).mono ?_
  rintro r w7 ⟨rfl, b7⟩
  have B7 : Below w.heap.size w w7 := btr B6 b7
  have Rx_7 := heap_of b7 _ _ _ Rx_6
  have Rz_7 := heap_of b7 _ _ _ Rz_6
  have Rr_7 := heap_of b7 _ _ _ Rr_6
  clear b7 B6 Rx_6 cx_6_0 cx_6_1 cx_6_2 cx_6_3 cx_6_4 cx_6_5 cx_6_6 cx_6_7 cx_6_8 Rz_6 cz_6_0 cz_6_1 Rr_6 cr_6_0 cr_6_1 cr_6_2 cr_6_3 cr_6_4 cr_6_5 cr_6_6 cr_6_7 cr_6_8
  obtain ⟨cx_7_0, cx_7_1, cx_7_2, cx_7_3, cx_7_4, cx_7_5, cx_7_6, cx_7_7, cx_7_8⟩ := rg_cells Rx_7
  obtain ⟨cz_7_0, cz_7_1⟩ := cells2s Rz_7
  obtain ⟨cr_7_0, cr_7_1, cr_7_2, cr_7_3, cr_7_4, cr_7_5, cr_7_6, cr_7_7, cr_7_8⟩ := rg_cells Rr_7
  cases ov
  · have K5 := box (KD.out rfl)
    clear KO KD
    cases ex
    · skip
      cases o
      · obtain rfl : (1 : Int) = fl := HFL.out
        go_wp2_with fail
        refine (KN.out _ (fatB FF.out B7)).mono ?_
        rintro r w8 ⟨rfl, b8⟩
        have B8 : Below w.heap.size w w8 := btr B7 b8
        have Rx_8 := heap_of b8 _ _ _ Rx_7
        have Rz_8 := heap_of b8 _ _ _ Rz_7
        have Rr_8 := heap_of b8 _ _ _ Rr_7
        clear b8 B7 Rx_7 cx_7_0 cx_7_1 cx_7_2 cx_7_3 cx_7_4 cx_7_5 cx_7_6 cx_7_7 cx_7_8 Rz_7 cz_7_0 cz_7_1 Rr_7 cr_7_0 cr_7_1 cr_7_2 cr_7_3 cr_7_4 cr_7_5 cr_7_6 cr_7_7 cr_7_8
        obtain ⟨cx_8_0, cx_8_1, cx_8_2, cx_8_3, cx_8_4, cx_8_5, cx_8_6, cx_8_7, cx_8_8⟩ := rg_cells Rx_8
        obtain ⟨cz_8_0, cz_8_1⟩ := cells2s Rz_8
        obtain ⟨cr_8_0, cr_8_1, cr_8_2, cr_8_3, cr_8_4, cr_8_5, cr_8_6, cr_8_7, cr_8_8⟩ := rg_cells Rr_8
        go_wp2_with fail
        refine (K5.out _ (fatB FF.out B8)).mono ?_
        rintro r w9 ⟨rfl, b9⟩
        have B9 : Below w.heap.size w w9 := btr B8 b9
        have Rx_9 := heap_of b9 _ _ _ Rx_8
        have Rz_9 := heap_of b9 _ _ _ Rz_8
        have Rr_9 := heap_of b9 _ _ _ Rr_8
        clear b9 B8 Rx_8 cx_8_0 cx_8_1 cx_8_2 cx_8_3 cx_8_4 cx_8_5 cx_8_6 cx_8_7 cx_8_8 Rz_8 cz_8_0 cz_8_1 Rr_8 cr_8_0 cr_8_1 cr_8_2 cr_8_3 cr_8_4 cr_8_5 cr_8_6 cr_8_7 cr_8_8
        obtain ⟨cx_9_0, cx_9_1, cx_9_2, cx_9_3, cx_9_4, cx_9_5, cx_9_6, cx_9_7, cx_9_8⟩ := rg_cells Rx_9
        obtain ⟨cz_9_0, cz_9_1⟩ := cells2s Rz_9
        obtain ⟨cr_9_0, cr_9_1, cr_9_2, cr_9_3, cr_9_4, cr_9_5, cr_9_6, cr_9_7, cr_9_8⟩ := rg_cells Rr_9
        have q0 := fz (k := 0) Rz_9
        have q1 := fz (k := 1) Rz_9
        obtain ⟨E0, E1⟩ := set2_cells Rz_9 (.int .u64 (u : Nat)) (.int .u64 (v : Nat))
        go_wp2
        exact bodyPost_ret (v := .tuple #[.agg #[.int .u64 (u : Nat), .int .u64 (v : Nat)], .int .u8 1, .int .i64 0]) (by simp [results, Tryz.results9, go_sem, E0, E1]) rfl ⟨rfl, set2_below B9 (by first | exact Nat.le_refl _ | omega | (have := H5.out; omega)) _ _⟩
      · obtain rfl : (3 : Int) = fl := HFL.out
        go_wp2_with fail
        refine (KN.out _ (fatB FF.out B7)).mono ?_
        rintro r w8 ⟨rfl, b8⟩
        have B8 : Below w.heap.size w w8 := btr B7 b8
        have Rx_8 := heap_of b8 _ _ _ Rx_7
        have Rz_8 := heap_of b8 _ _ _ Rz_7
        have Rr_8 := heap_of b8 _ _ _ Rr_7
        clear b8 B7 Rx_7 cx_7_0 cx_7_1 cx_7_2 cx_7_3 cx_7_4 cx_7_5 cx_7_6 cx_7_7 cx_7_8 Rz_7 cz_7_0 cz_7_1 Rr_7 cr_7_0 cr_7_1 cr_7_2 cr_7_3 cr_7_4 cr_7_5 cr_7_6 cr_7_7 cr_7_8
        obtain ⟨cx_8_0, cx_8_1, cx_8_2, cx_8_3, cx_8_4, cx_8_5, cx_8_6, cx_8_7, cx_8_8⟩ := rg_cells Rx_8
        obtain ⟨cz_8_0, cz_8_1⟩ := cells2s Rz_8
        obtain ⟨cr_8_0, cr_8_1, cr_8_2, cr_8_3, cr_8_4, cr_8_5, cr_8_6, cr_8_7, cr_8_8⟩ := rg_cells Rr_8
        go_wp2_with fail
        refine (K5.out _ (fatB FF.out B8)).mono ?_
        rintro r w9 ⟨rfl, b9⟩
        have B9 : Below w.heap.size w w9 := btr B8 b9
        have Rx_9 := heap_of b9 _ _ _ Rx_8
        have Rz_9 := heap_of b9 _ _ _ Rz_8
        have Rr_9 := heap_of b9 _ _ _ Rr_8
        clear b9 B8 Rx_8 cx_8_0 cx_8_1 cx_8_2 cx_8_3 cx_8_4 cx_8_5 cx_8_6 cx_8_7 cx_8_8 Rz_8 cz_8_0 cz_8_1 Rr_8 cr_8_0 cr_8_1 cr_8_2 cr_8_3 cr_8_4 cr_8_5 cr_8_6 cr_8_7 cr_8_8
        obtain ⟨cx_9_0, cx_9_1, cx_9_2, cx_9_3, cx_9_4, cx_9_5, cx_9_6, cx_9_7, cx_9_8⟩ := rg_cells Rx_9
        obtain ⟨cz_9_0, cz_9_1⟩ := cells2s Rz_9
        obtain ⟨cr_9_0, cr_9_1, cr_9_2, cr_9_3, cr_9_4, cr_9_5, cr_9_6, cr_9_7, cr_9_8⟩ := rg_cells Rr_9
        have q0 := fz (k := 0) Rz_9
        have q1 := fz (k := 1) Rz_9
        obtain ⟨E0, E1⟩ := set2_cells Rz_9 (.int .u64 (u : Nat)) (.int .u64 (v : Nat))
        go_wp2
        exact bodyPost_ret (v := .tuple #[.agg #[.int .u64 (u : Nat), .int .u64 (v : Nat)], .int .u8 3, .int .i64 0]) (by simp [results, Tryz.results9, go_sem, E0, E1]) rfl ⟨rfl, set2_below B9 (by first | exact Nat.le_refl _ | omega | (have := H5.out; omega)) _ _⟩
    · obtain rfl : (0 : Int) = fl := HFL.out
      go_wp2_with fail
      refine (K5.out _ (fatB FF.out B7)).mono ?_
      rintro r w8 ⟨rfl, b8⟩
      have B8 : Below w.heap.size w w8 := btr B7 b8
      have Rx_8 := heap_of b8 _ _ _ Rx_7
      have Rz_8 := heap_of b8 _ _ _ Rz_7
      have Rr_8 := heap_of b8 _ _ _ Rr_7
      clear b8 B7 Rx_7 cx_7_0 cx_7_1 cx_7_2 cx_7_3 cx_7_4 cx_7_5 cx_7_6 cx_7_7 cx_7_8 Rz_7 cz_7_0 cz_7_1 Rr_7 cr_7_0 cr_7_1 cr_7_2 cr_7_3 cr_7_4 cr_7_5 cr_7_6 cr_7_7 cr_7_8
      obtain ⟨cx_8_0, cx_8_1, cx_8_2, cx_8_3, cx_8_4, cx_8_5, cx_8_6, cx_8_7, cx_8_8⟩ := rg_cells Rx_8
      obtain ⟨cz_8_0, cz_8_1⟩ := cells2s Rz_8
      obtain ⟨cr_8_0, cr_8_1, cr_8_2, cr_8_3, cr_8_4, cr_8_5, cr_8_6, cr_8_7, cr_8_8⟩ := rg_cells Rr_8
      have q0 := fz (k := 0) Rz_8
      have q1 := fz (k := 1) Rz_8
      obtain ⟨E0, E1⟩ := set2_cells Rz_8 (.int .u64 (u : Nat)) (.int .u64 (v : Nat))
      go_wp2
      exact bodyPost_ret (v := .tuple #[.agg #[.int .u64 (u : Nat), .int .u64 (v : Nat)], .int .u8 0, .int .i64 0]) (by simp [results, Tryz.results9, go_sem, E0, E1]) rfl ⟨rfl, set2_below B8 (by first | exact Nat.le_refl _ | omega | (have := H5.out; omega)) _ _⟩
  · have K5 := box (KO.out rfl)
    clear KO KD
    obtain rfl : (5 : Int) = fl := HFL.out
    go_wp2_with fail
    refine (K5.out _ (fatB FF.out B7)).mono ?_
    rintro r w8 ⟨rfl, b8⟩
    have B8 : Below w.heap.size w w8 := btr B7 b8
    have Rx_8 := heap_of b8 _ _ _ Rx_7
    have Rz_8 := heap_of b8 _ _ _ Rz_7
    have Rr_8 := heap_of b8 _ _ _ Rr_7
    clear b8 B7 Rx_7 cx_7_0 cx_7_1 cx_7_2 cx_7_3 cx_7_4 cx_7_5 cx_7_6 cx_7_7 cx_7_8 Rz_7 cz_7_0 cz_7_1 Rr_7 cr_7_0 cr_7_1 cr_7_2 cr_7_3 cr_7_4 cr_7_5 cr_7_6 cr_7_7 cr_7_8
    obtain ⟨cx_8_0, cx_8_1, cx_8_2, cx_8_3, cx_8_4, cx_8_5, cx_8_6, cx_8_7, cx_8_8⟩ := rg_cells Rx_8
    obtain ⟨cz_8_0, cz_8_1⟩ := cells2s Rz_8
    obtain ⟨cr_8_0, cr_8_1, cr_8_2, cr_8_3, cr_8_4, cr_8_5, cr_8_6, cr_8_7, cr_8_8⟩ := rg_cells Rr_8
    have q0 := fz (k := 0) Rz_8
    have q1 := fz (k := 1) Rz_8
    obtain ⟨E0, E1⟩ := set2_cells Rz_8 (.int .u64 (u : Nat)) (.int .u64 (v : Nat))
    go_wp2
    exact bodyPost_ret (v := .tuple #[.agg #[.int .u64 (u : Nat), .int .u64 (v : Nat)], .int .u8 5, .int .i64 0]) (by simp [results, Tryz.results9, go_sem, E0, E1]) rfl ⟨rfl, set2_below B8 (by first | exact Nat.le_refl _ | omega | (have := H5.out; omega)) _ _⟩
set_option maxRecDepth 100000 in
set_option maxHeartbeats 4000000 in
theorem ro_pack_zero (f m : Int) (neg : Bool) (x : Int) (more : Bool) (u v : Nat) (w : World)
    (KC : Box (∀ w, Calls Tryz.prog 20 #[.int .u8 f, .int .u8 m] w fun r w' => r = .returned (.int .i64 0) ∧ Below w.heap.size w w'))
    (KM : Box (∀ w, FAt w → Calls Tryz.prog 21 #[.int .u8 f, .agg (rg neg 0 x more)] w fun r w' => r = .returned (.bool true) ∧ Below w.heap.size w w'))
    (KZ : Box (∀ w, FAt w → Calls Tryz.prog 22 #[.int .u8 f, .bool neg] w fun r w' => r = .returned (.agg #[.int .u64 (u : Nat), .int .u64 (v : Nat)]) ∧ Below w.heap.size w w'))
    (hT : FAt w) : Calls Tryz.prog 9 #[.int .u8 f, .int .u8 m, .agg (rg neg 0 x more)] w fun r w' => r = .returned (.tuple #[.agg #[.int .u64 (u : Nat), .int .u64 (v : Nat)], .int .u8 0, .int .i64 0]) ∧ Below w.heap.size w w' := by
  have FF := box hT
  clear hT
  have hat := cw_at 6
  have hz := cw6z
  have hff := cw6f
  have hs0 := st0
  have hcs : ∀ x, ((cw 6 x).size = 6) = True := fun x => eq_true (cw_size 6 x)
  have heq := eq6
  have hQ0 := Q_pos
  have hg := eqg6
  have hp1 := rgf
  have hp3 := rgz
  have hp5 : ∀ (c : Bool) (s : Nat) (x : Int) (r : Bool), ((rg c s x r).size = 9) = True := fun _ _ _ _ => eq_true rfl
  obtain ⟨Rx_0, Rz_0, B0⟩ := opn2 w (Obj.cells (rg neg 0 x more) 45) (Obj.cells #[.int .u64 0, .int .u64 0] 27)
  go_enter Tryz.func9, Tryz.ntmps9
  obtain ⟨cx_0_0, cx_0_1, cx_0_2, cx_0_3, cx_0_4, cx_0_5, cx_0_6, cx_0_7, cx_0_8⟩ := rg_cells Rx_0
  obtain ⟨cz_0_0, cz_0_1⟩ := cells2s Rz_0
  go_wp2_with fail
  refine (KC.out _).mono ?_
  rintro r w1 ⟨rfl, b1⟩
  have B1 : Below w.heap.size w w1 := btr B0 b1
  have Rx_1 := heap_of b1 _ _ _ Rx_0
  have Rz_1 := heap_of b1 _ _ _ Rz_0
  clear b1 B0 Rx_0 cx_0_0 cx_0_1 cx_0_2 cx_0_3 cx_0_4 cx_0_5 cx_0_6 cx_0_7 cx_0_8 Rz_0 cz_0_0 cz_0_1
  obtain ⟨cx_1_0, cx_1_1, cx_1_2, cx_1_3, cx_1_4, cx_1_5, cx_1_6, cx_1_7, cx_1_8⟩ := rg_cells Rx_1
  obtain ⟨cz_1_0, cz_1_1⟩ := cells2s Rz_1
  go_wp2_with fail
  refine (KM.out _ (fatB FF.out B1)).mono ?_
  rintro r w2 ⟨rfl, b2⟩
  have B2 : Below w.heap.size w w2 := btr B1 b2
  have Rx_2 := heap_of b2 _ _ _ Rx_1
  have Rz_2 := heap_of b2 _ _ _ Rz_1
  clear b2 B1 Rx_1 cx_1_0 cx_1_1 cx_1_2 cx_1_3 cx_1_4 cx_1_5 cx_1_6 cx_1_7 cx_1_8 Rz_1 cz_1_0 cz_1_1
  obtain ⟨cx_2_0, cx_2_1, cx_2_2, cx_2_3, cx_2_4, cx_2_5, cx_2_6, cx_2_7, cx_2_8⟩ := rg_cells Rx_2
  obtain ⟨cz_2_0, cz_2_1⟩ := cells2s Rz_2
  go_wp2_with fail
  refine (KZ.out _ (fatB FF.out B2)).mono ?_
  rintro r w3 ⟨rfl, b3⟩
  have B3 : Below w.heap.size w w3 := btr B2 b3
  have Rx_3 := heap_of b3 _ _ _ Rx_2
  have Rz_3 := heap_of b3 _ _ _ Rz_2
  clear b3 B2 Rx_2 cx_2_0 cx_2_1 cx_2_2 cx_2_3 cx_2_4 cx_2_5 cx_2_6 cx_2_7 cx_2_8 Rz_2 cz_2_0 cz_2_1
  obtain ⟨cx_3_0, cx_3_1, cx_3_2, cx_3_3, cx_3_4, cx_3_5, cx_3_6, cx_3_7, cx_3_8⟩ := rg_cells Rx_3
  obtain ⟨cz_3_0, cz_3_1⟩ := cells2s Rz_3
  have q0 := fz (k := 0) Rz_3
  have q1 := fz (k := 1) Rz_3
  obtain ⟨E0, E1⟩ := set2_cells Rz_3 (.int .u64 (u : Nat)) (.int .u64 (v : Nat))
  go_wp2
  exact bodyPost_ret (v := .tuple #[.agg #[.int .u64 (u : Nat), .int .u64 (v : Nat)], .int .u8 0, .int .i64 0]) (by simp [results, Tryz.results9, go_sem, E0, E1]) rfl ⟨rfl, set2_below B3 (by first | exact Nat.le_refl _ | omega | (skip; omega)) _ _⟩
set_option maxRecDepth 100000 in
set_option maxHeartbeats 4000000 in
theorem ro_pack_a (f m : Int) (neg : Bool) (s : Nat) (x : Int) (more : Bool) (c : Int) (hc : (c != 0) = true) (w : World)
    (KC : Box (∀ w, Calls Tryz.prog 20 #[.int .u8 f, .int .u8 m] w fun r w' => r = .returned (.int .i64 c) ∧ Below w.heap.size w w')) : Calls Tryz.prog 9 #[.int .u8 f, .int .u8 m, .agg (rg neg s x more)] w fun r w' => r = .returned (.tuple #[.agg #[.int .u64 0, .int .u64 0], .int .u8 0, .int .i64 2]) ∧ Below w.heap.size w w' := by
  have hat := cw_at 6
  have hz := cw6z
  have hff := cw6f
  have hs0 := st0
  have hcs : ∀ x, ((cw 6 x).size = 6) = True := fun x => eq_true (cw_size 6 x)
  have hp1 := rgf
  have hp5 : ∀ (c : Bool) (s : Nat) (x : Int) (r : Bool), ((rg c s x r).size = 9) = True := fun _ _ _ _ => eq_true rfl
  obtain ⟨Rx_0, Rz_0, B0⟩ := opn2 w (Obj.cells (rg neg s x more) 45) (Obj.cells #[.int .u64 0, .int .u64 0] 27)
  go_enter Tryz.func9, Tryz.ntmps9
  obtain ⟨cx_0_0, cx_0_1, cx_0_2, cx_0_3, cx_0_4, cx_0_5, cx_0_6, cx_0_7, cx_0_8⟩ := rg_cells Rx_0
  obtain ⟨cz_0_0, cz_0_1⟩ := cells2s Rz_0
  go_wp2_with fail
  refine (KC.out _).mono ?_
  rintro r w1 ⟨rfl, b1⟩
  have B1 : Below w.heap.size w w1 := btr B0 b1
  have Rx_1 := heap_of b1 _ _ _ Rx_0
  have Rz_1 := heap_of b1 _ _ _ Rz_0
  clear b1 B0 Rx_0 cx_0_0 cx_0_1 cx_0_2 cx_0_3 cx_0_4 cx_0_5 cx_0_6 cx_0_7 cx_0_8 Rz_0 cz_0_0 cz_0_1
  obtain ⟨cx_1_0, cx_1_1, cx_1_2, cx_1_3, cx_1_4, cx_1_5, cx_1_6, cx_1_7, cx_1_8⟩ := rg_cells Rx_1
  obtain ⟨cz_1_0, cz_1_1⟩ := cells2s Rz_1
  have q0 := fz (k := 0) Rz_1
  have q1 := fz (k := 1) Rz_1
  obtain ⟨E0, E1⟩ := set2_cells Rz_1 (.int .u64 0) (.int .u64 0)
  go_wp2
  exact bodyPost_ret (v := .tuple #[.agg #[.int .u64 0, .int .u64 0], .int .u8 0, .int .i64 2]) (by simp [results, Tryz.results9, go_sem, E0, E1]) rfl ⟨rfl, set2_below B1 (by first | exact Nat.le_refl _ | omega | (skip; omega)) _ _⟩
set_option maxRecDepth 100000 in
set_option maxHeartbeats 4000000 in
theorem ro_pack_b (f m : Int) (neg : Bool) (s : Nat) (x : Int) (more : Bool) (w : World)
    (KC : Box (∀ w, Calls Tryz.prog 20 #[.int .u8 f, .int .u8 m] w fun r w' => r = .returned (.int .i64 0) ∧ Below w.heap.size w w'))
    (KM : Box (∀ w, FAt w → Calls Tryz.prog 21 #[.int .u8 f, .agg (rg neg s x more)] w fun r w' => r = .returned (.bool false) ∧ Below w.heap.size w w')) (hT : FAt w) : Calls Tryz.prog 9 #[.int .u8 f, .int .u8 m, .agg (rg neg s x more)] w fun r w' => r = .returned (.tuple #[.agg #[.int .u64 0, .int .u64 0], .int .u8 0, .int .i64 2]) ∧ Below w.heap.size w w' := by
  have FF := box hT
  clear hT
  have hat := cw_at 6
  have hz := cw6z
  have hff := cw6f
  have hs0 := st0
  have hcs : ∀ x, ((cw 6 x).size = 6) = True := fun x => eq_true (cw_size 6 x)
  have hp1 := rgf
  have hp5 : ∀ (c : Bool) (s : Nat) (x : Int) (r : Bool), ((rg c s x r).size = 9) = True := fun _ _ _ _ => eq_true rfl
  obtain ⟨Rx_0, Rz_0, B0⟩ := opn2 w (Obj.cells (rg neg s x more) 45) (Obj.cells #[.int .u64 0, .int .u64 0] 27)
  go_enter Tryz.func9, Tryz.ntmps9
  obtain ⟨cx_0_0, cx_0_1, cx_0_2, cx_0_3, cx_0_4, cx_0_5, cx_0_6, cx_0_7, cx_0_8⟩ := rg_cells Rx_0
  obtain ⟨cz_0_0, cz_0_1⟩ := cells2s Rz_0
  go_wp2_with fail
  refine (KC.out _).mono ?_
  rintro r w1 ⟨rfl, b1⟩
  have B1 : Below w.heap.size w w1 := btr B0 b1
  have Rx_1 := heap_of b1 _ _ _ Rx_0
  have Rz_1 := heap_of b1 _ _ _ Rz_0
  clear b1 B0 Rx_0 cx_0_0 cx_0_1 cx_0_2 cx_0_3 cx_0_4 cx_0_5 cx_0_6 cx_0_7 cx_0_8 Rz_0 cz_0_0 cz_0_1
  obtain ⟨cx_1_0, cx_1_1, cx_1_2, cx_1_3, cx_1_4, cx_1_5, cx_1_6, cx_1_7, cx_1_8⟩ := rg_cells Rx_1
  obtain ⟨cz_1_0, cz_1_1⟩ := cells2s Rz_1
  go_wp2_with fail
  refine (KM.out _ (fatB FF.out B1)).mono ?_
  rintro r w2 ⟨rfl, b2⟩
  have B2 : Below w.heap.size w w2 := btr B1 b2
  have Rx_2 := heap_of b2 _ _ _ Rx_1
  have Rz_2 := heap_of b2 _ _ _ Rz_1
  clear b2 B1 Rx_1 cx_1_0 cx_1_1 cx_1_2 cx_1_3 cx_1_4 cx_1_5 cx_1_6 cx_1_7 cx_1_8 Rz_1 cz_1_0 cz_1_1
  obtain ⟨cx_2_0, cx_2_1, cx_2_2, cx_2_3, cx_2_4, cx_2_5, cx_2_6, cx_2_7, cx_2_8⟩ := rg_cells Rx_2
  obtain ⟨cz_2_0, cz_2_1⟩ := cells2s Rz_2
  have q0 := fz (k := 0) Rz_2
  have q1 := fz (k := 1) Rz_2
  obtain ⟨E0, E1⟩ := set2_cells Rz_2 (.int .u64 0) (.int .u64 0)
  go_wp2
  exact bodyPost_ret (v := .tuple #[.agg #[.int .u64 0, .int .u64 0], .int .u8 0, .int .i64 2]) (by simp [results, Tryz.results9, go_sem, E0, E1]) rfl ⟨rfl, set2_below B2 (by first | exact Nat.le_refl _ | omega | (skip; omega)) _ _⟩
theorem wbit0 (n : Nat) (o : Bool) (ho : decide (n % 2 = 1) = o) (w : World) : Calls Tryz.prog 58 #[.agg (cw 6 n), .int .i64 0] w fun r w' => r = .returned (.bool o) ∧ Below w.heap.size w w' := by
  have hat := cw_at 6
  have hf := cw6f
  obtain ⟨d, hd⟩ : ∃ d, n / 2 ^ 0 % 2 ^ 1 = d := ⟨_, rfl⟩
  have e : ((d : Int) == 1) = o := by
    subst hd ho
    rw [Nat.pow_zero, Nat.div_one, Nat.pow_one, Bool.eq_iff_iff, decide_eq_true_iff, beq_iff_eq]
    omega
  have HD := box hd
  clear hd ho
  have W1 : Box (∀ w : World, Calls Tryz.prog 98 #[.agg (cw 6 n), .int .i64 0, .int .i64 1] w fun r w' => r = .returned (.int .u64 (d : Nat)) ∧ Below w.heap.size w w') := box (fun w => by
    have h := wfield_any n 0 1 (by decide) (by decide) w
    rw [HD.out] at h
    exact h)
  go_enter Tryz.func58, Tryz.ntmps58
  go_wp2_with fail
  refine (W1.out _).mono ?_
  rintro e w1 ⟨rfl, hb⟩
  go_wp2
  go_ret
  exact ⟨rfl, ((Below.refl _ _).alloc (Nat.le_refl _) _).trans (hb.mono (by simp))⟩
theorem not_no {b : Bool} (h : (!b) = false) : b = true := by cases b <;> simp_all
theorem r1_lt {f : Int} (hf : Is4 f) {x : Nat} (h : x ≤ 2 * 2 ^ pV f) : x < Q ∧ x + 1 < Q ∧ blen x ≤ pV f + 2 := by
  obtain ⟨g1, g2, g3, g4, g5, g6, g7⟩ := fm hf
  have p := Nat.two_pow_pos (pV f)
  have k1 : (oV f + 1) * 2 ^ pV f ≥ 4 * 2 ^ pV f := Nat.mul_le_mul_right _ (by omega)
  refine ⟨lt_Q7 (by omega), lt_Q7 (by omega), (blen_iff x _).2 (by rw [Nat.pow_succ, Nat.pow_succ]; omega)⟩
theorem kgrid (f m : Int) (hf : Is4 f) (hm : 0 ≤ m ∧ m ≤ 4) (neg : Bool) (s : Nat) (s0 : s ≠ 0) (hs : s < Q) (x st : Int) (more : Bool) (k : Nat) (x1 : -1100000 ≤ x) (x2 : x ≤ 1100000) (k2 : k ≤ 3000000) (hst : st = x + (blen s : Int) - ((pV f + 1 : Nat) : Int) + (k : Int))
    (K : Nat) (hK : rG m neg (qW (pV f + 1) s) k (qM (pV f + 1) s false) = K) (ex : Bool) (hex : (!(rH (qW (pV f + 1) s) k || rM (qW (pV f + 1) s) k (qM (pV f + 1) s false))) = ex) (w : World) :
    Calls Tryz.prog 24 #[.int .u8 m, .agg (rg neg s x more), .int .i64 st] w fun r w' => r = .returned (.tuple #[.agg (rg neg K st false), .bool ex]) ∧ Below w.heap.size w w' := by
  obtain ⟨n1, n2, n3, n4, n5, n6⟩ := nm8 hf
  obtain ⟨c1, c2, c3, c4⟩ := cut_is (pV f + 1) s x st k s0 hs (by omega) hst
  have lim := rS_lim (q_ok (f := f) s s0) k
  obtain ⟨Z, hZ, eQ⟩ := Qq384
  have bQ : blen s ≤ Z := blen_le_of s Z (by rw [← eQ]; exact hs)
  obtain ⟨R, hR⟩ : ∃ R, s * 2 ^ cnt6 (x - st) = R := ⟨_, rfl⟩
  rw [hR] at c1 c2 c3 c4
  obtain ⟨h, hh⟩ : ∃ h, halfv R (cnt5 (st - x)) = h := ⟨_, rfl⟩
  obtain ⟨lo, hlo⟩ : ∃ lo, decide (Q ≤ s * 2 ^ cnt6 (x - st)) = lo := ⟨_, rfl⟩
  obtain ⟨od, hod⟩ : ∃ od, decide (rS (qW (pV f + 1) s) k % 2 = 1) = od := ⟨_, rfl⟩
  obtain ⟨q1, q2, q3⟩ := r1_lt hf (x := rS (qW (pV f + 1) s) k) (by omega)
  have up : uP m neg od h ex = gO m neg (rO (qW (pV f + 1) s) k) (rH (qW (pV f + 1) s) k) (rM (qW (pV f + 1) s) k (qM (pV f + 1) s false)) := by
    rw [← uP_gO, show rO (qW (pV f + 1) s) k = od from hod, hex]
    cases ex
    · rw [← hh, c4 (not_no hex)]
    · rfl
  rw [hex] at c3
  have K1 : Box (∀ w, Calls Tryz.prog 55 #[.agg (cw 6 s), .int .i64 (x - st)] w fun r w' => r = .returned (.tuple #[.agg (cw 6 R), .bool lo]) ∧ Below w.heap.size w w') := box (fun w => wleft_is s R (x - st) lo hs (by rw [hR, Nat.mod_eq_of_lt c1]) hlo w)
  have K2 : Box (∀ w, Calls Tryz.prog 56 #[.agg (cw 6 R), .int .i64 (st - x)] w fun r w' => r = .returned (.tuple #[.agg (cw 6 (rS (qW (pV f + 1) s) k)), .int .i64 h, .bool ex]) ∧ Below w.heap.size w w') := box (fun w => jcut_is R _ (st - x) h ex c1 c2 hh c3 w)
  have K3 : Box (∀ w, Calls Tryz.prog 58 #[.agg (cw 6 (rS (qW (pV f + 1) s) k)), .int .i64 0] w fun r w' => r = .returned (.bool od) ∧ Below w.heap.size w w') := box (fun w => wbit0 _ _ hod w)
  have w1 : IntKind.i64.wrap (x - st) = x - st := wrap_i64_is _ (by omega) (by omega)
  have w2 : IntKind.i64.wrap (st - x) = st - x := wrap_i64_is _ (by omega) (by omega)
  unfold rG at hK
  by_cases g : gO m neg (rO (qW (pV f + 1) s) k) (rH (qW (pV f + 1) s) k) (rM (qW (pV f + 1) s) k (qM (pV f + 1) s false)) = true
  · rw [if_pos g] at hK
    subst hK
    rw [g] at up
    exact ro_grid_up m st neg s x more R _ _ lo false (x - st) (st - x) h ex od w K1 K2 K3 (box (fun w => ro_up m neg od h ex true up w)) (box (fun w => wof_any 1 (by decide) w)) (box (fun w => wadd_is _ 1 _ false q1 (by have := q2; omega) (Nat.mod_eq_of_lt q2) (decide_eq_false (by omega)) w)) w1 w2
  · rw [if_neg g] at hK
    subst hK
    rw [Bool.not_eq_true] at g
    rw [g] at up
    exact ro_grid_no m st neg s x more R _ lo (x - st) (st - x) h ex od w (box ⟨c1, q1⟩) K1 K2 K3 (box (fun w => ro_up m neg od h ex false up w)) w1 w2
theorem kotop (neg : Bool) (s : Nat) (hs : s < Q) (x : Int) (more : Bool) (x1 : -3000000 ≤ x) (x2 : x ≤ 3000000) (v : Int) (hv : x + (blen s : Int) - 1 = v) (w : World) : Calls Tryz.prog 26 #[.agg (rg neg s x more)] w fun r w' => r = .returned (.int .i64 v) ∧ Below w.heap.size w w' := by
  obtain ⟨Z, hZ, eQ⟩ := Qq384
  have bQ : blen s ≤ Z := blen_le_of s Z (by rw [← eQ]; exact hs)
  exact ro_top neg s x more (blen s : Int) (x + (blen s : Int)) v w (box (fun w => wlen_is s _ hs rfl w)) (wrap_i64_is _ (by omega) (by omega)) (by rw [wrap_i64_is _ (by omega) (by omega)]; exact hv)
theorem kprec (f : Int) (hf : Is4 f) (w : World) (hT : FAt w) : Calls Tryz.prog 53 #[.int .u8 f] w fun r w' => r = .returned (.int .i64 (fP f)) ∧ Below w.heap.size w w' := by
  have f4 := is4_ok hf
  refine (s_precision f _ f4.1 f4.2.1 rfl w hT).mono ?_
  rintro r w' ⟨rfl, rfl⟩
  exact ⟨rfl, bal7 _ _⟩
theorem kemax (f : Int) (hf : Is4 f) (w : World) (hT : FAt w) : Calls Tryz.prog 28 #[.int .u8 f] w fun r w' => r = .returned (.int .i64 (fE f)) ∧ Below w.heap.size w w' := by
  have f4 := is4_ok hf
  refine (s_emax f _ f4.1 f4.2.1 rfl w hT).mono ?_
  rintro r w' ⟨rfl, rfl⟩
  exact ⟨rfl, bal7 _ _⟩
theorem kostep (f : Int) (hf : Is4 f) (T : Int) (h1 : -3000000 ≤ T) (h2 : T ≤ 3000000) (v : Int) (hv : T - fP f + 1 = v) (w : World) (hT : FAt w) : Calls Tryz.prog 25 #[.int .u8 f, .int .i64 T] w fun r w' => r = .returned (.int .i64 v) ∧ Below w.heap.size w w' := by
  have := fP_lim (f := f) rfl
  exact ro_stepAt f T (fP f) (T - fP f) v w (box (fun w hT => kprec f hf w hT)) (wrap_i64_is _ (by omega) (by omega)) (by rw [wrap_i64_is _ (by omega) (by omega)]; exact hv) hT
theorem kocheck (f m : Int) (h0 : 0 ≤ f) (h1 : f ≤ 255) (c : Int) (hc : (if f ≤ 3 ∧ m ≤ 4 then (0 : Int) else 2) = c) (w : World) : Calls Tryz.prog 20 #[.int .u8 f, .int .u8 m] w fun r w' => r = .returned (.int .i64 c) ∧ Below w.heap.size w w' := by
  have K1 : ∀ c, (if f ≤ 3 then (0 : Int) else 2) = c → Box (∀ w, Calls Tryz.prog 50 #[.int .u8 f] w fun r w' => r = .returned (.int .i64 c) ∧ Below w.heap.size w w') := fun c hc => box (fun w => by
    refine bel_same (s_check_is f c h0 h1 ?_ w)
    rw [← hc]
    by_cases h : f ≤ 3
    · rw [if_pos h]; exact fC_yes (is4_of h0 h)
    · rw [if_neg h]; exact fC_no h0 (by unfold Is4; omega))
  have K2 : ∀ c, (if m ≤ 4 then (0 : Int) else 2) = c → Box (∀ w, Calls Tryz.prog 51 #[.int .u8 m] w fun r w' => r = .returned (.int .i64 c) ∧ Below w.heap.size w w') := fun c hc => box (fun w => by
    subst hc
    exact bel_same (s_checkMode m w))
  by_cases c1 : f ≤ 3
  · by_cases c2 : m ≤ 4
    · rw [if_pos ⟨c1, c2⟩] at hc
      subst hc
      exact ro_check_c f m 0 0 w (K1 0 (if_pos c1)) (K2 0 (if_pos c2)) (by decide) (by decide)
    · rw [if_neg (by omega)] at hc
      subst hc
      exact ro_check_b f m 0 2 w (K1 0 (if_pos c1)) (K2 2 (if_neg c2)) (by decide) (by decide)
  · rw [if_neg (by omega)] at hc
    subst hc
    exact ro_check_a f m 2 w (K1 2 (if_neg c1)) (by decide)
theorem is4_le {f : Int} (hf : Is4 f) : f ≤ 3 := by rcases hf with rfl | rfl | rfl | rfl <;> decide
theorem kover (f m : Int) (hf : Is4 f) (hm : 0 ≤ m ∧ m ≤ 4) (neg : Bool) (u v : Nat) (hv : bv7 (ovB f m neg) = (u, v)) (w : World) (hT : FAt w) : Calls Tryz.prog 29 #[.int .u8 f, .int .u8 m, .bool neg] w fun r w' => r = .returned (.tuple #[.agg #[.int .u64 (u : Nat), .int .u64 (v : Nat)], .int .u8 5, .int .i64 0]) ∧ Below w.heap.size w w' := by
  have f4 := is4_ok hf
  have KC : Box (∀ w, Calls Tryz.prog 20 #[.int .u8 f, .int .u8 m] w fun r w' => r = .returned (.int .i64 0) ∧ Below w.heap.size w w') := box (fun w => kocheck f m f4.1 f4.2.1 0 (if_pos ⟨is4_le hf, hm.2⟩) w)
  have up := uP_gO m neg false true true
  obtain ⟨i, j, hij⟩ : ∃ i j, bv7 (eGreatest f neg) = (i, j) := ⟨_, _, rfl⟩
  have KG : Box (∀ w, FAt w → Calls Tryz.prog 61 #[.int .u8 f, .bool neg] w fun r w' => r = .returned (.agg #[.int .u64 (i : Nat), .int .u64 (j : Nat)]) ∧ Below w.heap.size w w') := box (fun w hT => by
    have := s_greatest f neg hf _ rfl w hT
    rw [hij] at this
    exact this)
  unfold ovB at hv
  by_cases g : gO m neg false true true = true
  · rw [if_pos g] at hv
    rw [g] at up
    exact ro_over_inf f m neg i j u v w KC KG (box (fun w => ro_up m neg false 1 false true up w)) (box (fun w hT => sk_inf f neg hf u v hv w hT)) hT
  · rw [if_neg g, hij] at hv
    injection hv with e1 e2
    subst e1 e2
    rw [Bool.not_eq_true] at g
    rw [g] at up
    exact ro_over_gr f m neg i j w KC KG (box (fun w => ro_up m neg false 1 false false up w)) hT
theorem kotiny (f m : Int) (hf : Is4 f) (hm : 0 ≤ m ∧ m ≤ 4) (neg : Bool) (s : Nat) (s0 : s ≠ 0) (hs : s < Q) (x : Int) (more : Bool) (x1 : -1100000 ≤ x) (x2 : x ≤ 1100000) (o : Bool) (ho : tnB f m neg (x + (blen s : Int) - 1) (qW (pV f + 1) s) (qM (pV f + 1) s false) = o) (w : World) (hT : FAt w) :
    Calls Tryz.prog 30 #[.int .u8 f, .int .u8 m, .agg (rg neg s x more)] w fun r w' => r = .returned (.bool o) ∧ Below w.heap.size w w' := by
  obtain ⟨Z, hZ, eQ⟩ := Qq384
  have bQ : blen s ≤ Z := blen_le_of s Z (by rw [← eQ]; exact hs)
  have hp := fp8 hf
  obtain ⟨n1, n2, n3, n4, n5, n6⟩ := nm8 hf
  obtain ⟨K, hK⟩ : ∃ K, rG m neg (qW (pV f + 1) s) 0 (qM (pV f + 1) s false) = K := ⟨_, rfl⟩
  have lim := rG_lim (q_ok (f := f) s s0) m neg 0 (qM (pV f + 1) s false)
  rw [hK] at lim
  obtain ⟨q1, q2, q3⟩ := r1_lt hf lim.1
  unfold tnB at ho
  rw [hK] at ho
  refine ro_tiny f m neg s x more (x + (blen s : Int) - 1) (x + (blen s : Int) - 1 - fP f + 1) (x + (blen s : Int) - 1 - fP f + 1 + (blen K : Int) - 1) (1 - fE f) K _ o w (box (fun w => kotop neg s hs x more (by omega) (by omega) _ rfl w)) (box (fun w hT => kostep f hf _ (by omega) (by omega) _ rfl w hT))
    (box (fun w => kgrid f m hf hm neg s s0 hs x _ more 0 x1 x2 (by omega) (by omega) K hK _ rfl w)) (box (fun w => kotop neg K q1 _ false (by omega) (by omega) _ rfl w)) (box (fun w hT => k_emin f hf w hT)) ?_ hT
  rw [← ho, decide_eq_decide]
  omega
theorem wd_hi (n k : Nat) (hk : 0 < k) (h : n < 18446744073709551616) : wd n k = 0 := by
  unfold wd
  rw [Nat.div_eq_of_lt, Nat.zero_mod]
  refine Nat.lt_of_lt_of_le h ?_
  rw [show (18446744073709551616 : Nat) = 2 ^ 64 by decide]
  exact Nat.pow_le_pow_right (by decide) (by omega)
theorem wd_hi2 (n k : Nat) (hk : 1 < k) (h : n < 340282366920938463463374607431768211456) : wd n k = 0 := by
  unfold wd
  rw [Nat.div_eq_of_lt, Nat.zero_mod]
  refine Nat.lt_of_lt_of_le h ?_
  rw [show (340282366920938463463374607431768211456 : Nat) = 2 ^ 128 by decide]
  exact Nat.pow_le_pow_right (by decide) (by omega)
theorem enc_lo (S j G : Nat) (h : G + S < 18446744073709551616) : IntKind.u64.wrap (((wd S 0 : Nat) : Int) + (G : Int)) = ((wd (G + S) 0 : Nat) : Int) ∧ ∀ k, 0 < k → k < 6 → wd (G + S) k = wd S k := by
  constructor
  · rw [IntKind.wrap_u64]
    unfold wd
    rw [Nat.mul_zero, Nat.pow_zero, Nat.div_one, Nat.div_one]
    omega
  · intro k h1 h2
    rw [wd_hi _ k h1 h, wd_hi _ k h1 (by omega)]
theorem enc_hi (S j : Nat) (h : j * 5192296858534827628530496329220096 + S < 340282366920938463463374607431768211456) : IntKind.u64.wrap (((wd S 1 : Nat) : Int) + ((j * 281474976710656 : Nat) : Int)) = ((wd (j * 5192296858534827628530496329220096 + S) 1 : Nat) : Int) ∧ ∀ k, k ≠ 1 → k < 6 → wd (j * 5192296858534827628530496329220096 + S) k = wd S k := by
  constructor
  · rw [IntKind.wrap_u64]
    unfold wd
    rw [Nat.mul_one, show (2 : Nat) ^ 64 = 18446744073709551616 by decide]
    omega
  · intro k h1 h2
    by_cases c : k = 0
    · subst c
      unfold wd
      rw [Nat.mul_zero, Nat.pow_zero, Nat.div_one, Nat.div_one]
      omega
    · rw [wd_hi2 _ k (by omega) h, wd_hi2 _ k (by omega) (by omega)]
theorem or_sign (f : Int) (n : Nat) (neg : Bool) (h : n < 2 ^ wV f) : n ||| eZero f neg = n + (if neg then 2 ^ wV f else 0) := by
  unfold eZero enc7
  rw [Nat.zero_mul, Nat.zero_add]
  cases neg
  · rw [if_neg (by decide), Nat.or_zero, Nat.add_zero]
  · rw [if_pos rfl, Nat.or_comm]
    have := Nat.two_pow_add_eq_or_of_lt h 1
    rw [Nat.mul_one] at this
    omega
theorem ez_lt {f : Int} (hf : Is4 f) (neg : Bool) : eZero f neg < 340282366920938463463374607431768211456 := by
  obtain ⟨g1, g2, g3, g4, g5, g6, g7⟩ := fm hf
  have := Nat.two_pow_pos (wV f)
  unfold eZero enc7
  split <;> omega
theorem kenc (f : Int) (hf : Is4 f) (neg : Bool) (j S : Nat) (st : Int) (hst : st = lx f + (j : Int)) (hS : S ≤ 2 * 2 ^ pV f) (hj : j = 0 ∨ 2 ^ pV f ≤ S) (ht : lx f + (j : Int) - 1 + (blen S : Int) ≤ fE f) (u v : Nat) (hv : bv7 (eS f neg j S) = (u, v)) (w : World) (hT : FAt w) :
    Calls Tryz.prog 31 #[.int .u8 f, .agg (rg neg S st false)] w fun r w' => r = .returned (.agg #[.int .u64 (u : Nat), .int .u64 (v : Nat)]) ∧ Below w.heap.size w w' := by
  have lt := eS_lt hf j S hS hj ht
  obtain ⟨g1, g2, g3, g4, g5, g6, g7⟩ := fm hf
  obtain ⟨n1, n2, n3, n4, n5, n6⟩ := nm8 hf
  obtain ⟨l1, l2, l3⟩ : True ∧ True ∧ True := ⟨trivial, trivial, trivial⟩
  have bl := blen_low S
  have hp := fp8 hf
  have hj2 : j ≤ 40000 := by
    have : blen S = 0 ∨ 0 < blen S := by omega
    rcases hj with h | h
    · omega
    · have p := Nat.two_pow_pos (pV f)
      have := (bl (by omega)).1
      omega
  obtain ⟨zu, zv, hz⟩ : ∃ zu zv, bv7 (eZero f neg) = (zu, zv) := ⟨_, _, rfl⟩
  have e3 : eS f neg j S = (j * 2 ^ pV f + S) ||| eZero f neg := by rw [or_sign f _ neg lt]; rfl
  have z1 : zu < 18446744073709551616 ∧ zv < 18446744073709551616 ∧ zv + 18446744073709551616 * zu = eZero f neg := by
    have := ez_lt hf neg
    unfold bv7 at hz
    injection hz with a b
    omega
  have sl : eS f neg j S < 340282366920938463463374607431768211456 := by
    unfold eS
    split <;> omega
  obtain ⟨ob, KT⟩ := ktobits_one (eS f neg j S) u v (lt_Q7 sl) (by unfold toB; rw [if_pos sl]; exact hv)
  have KB : Box (∀ w, Calls Tryz.prog 65 #[.agg #[.int .u64 (zu : Nat), .int .u64 (zv : Nat)]] w fun r w' => r = .returned (.agg (cw 6 (eZero f neg))) ∧ Below w.heap.size w w') := box (fun w => wofbits_is zu zv _ z1.1 z1.2.1 z1.2.2 w)
  have KO : Box (∀ w, Calls Tryz.prog 64 #[.agg (cw 6 (j * 2 ^ pV f + S)), .agg (cw 6 (eZero f neg))] w fun r w' => r = .returned (.agg (cw 6 (eS f neg j S))) ∧ Below w.heap.size w w') := box (fun w => wor_is _ _ _ (lt_Q7 (by omega)) (lt_Q7 (ez_lt hf neg)) e3.symm w)
  have KZ : Box (∀ w, FAt w → Calls Tryz.prog 22 #[.int .u8 f, .bool neg] w fun r w' => r = .returned (.agg #[.int .u64 (zu : Nat), .int .u64 (zv : Nat)]) ∧ Below w.heap.size w w') := box (fun w hT => sk_zero f neg hf zu zv hz w hT)
  have KI : Box (∀ w, FAt w → Calls Tryz.prog 27 #[.int .u8 f] w fun r w' => r = .returned (.int .i64 (1 - fE f)) ∧ Below w.heap.size w w') := box (fun w hT => k_emin f hf w hT)
  have KS : Box (∀ w, FAt w → Calls Tryz.prog 25 #[.int .u8 f, .int .i64 (1 - fE f)] w fun r w' => r = .returned (.int .i64 (lx f)) ∧ Below w.heap.size w w') := box (fun w hT => kostep f hf _ (by omega) (by omega) _ (by omega) w hT)
  have w1 : IntKind.i64.wrap (st - lx f) = (j : Int) := by rw [wrap_i64_is _ (by omega) (by omega)]; omega
  have w2 : IntKind.u64.wrap (j : Int) = (j : Int) := by rw [IntKind.wrap_u64]; omega
  have KP : Box (∀ w, FAt w → Calls Tryz.prog 53 #[.int .u8 f] w fun r w' => r = .returned (.int .i64 (fP f)) ∧ Below w.heap.size w w') := box (fun w hT => kprec f hf w hT)
  clear hv hz z1 sl e3
  rcases hf with rfl | rfl | rfl | rfl
  · rw [show fP 0 = 24 by decide] at KP
    rw [show 2 ^ pV 0 = 8388608 by decide] at lt KO
    rw [show 2 ^ wV 0 = 2147483648 by decide] at lt
    obtain ⟨e1, e2⟩ := enc_lo S j (j * 8388608) (by omega)
    exact ro_encv 0 24 23 23 (by decide) (by decide) (by decide) (by decide) neg S _ _ st _ _ _ _ _ u v zu zv _ ob w KP KI KS w1 w2 (by rw [show (2 : Int) ^ min 23 64 = 8388608 by decide, IntKind.wrap_u64]; omega) e1 (box e2) KZ KB KO (box KT) hT
  · rw [show fP 1 = 53 by decide] at KP
    rw [show 2 ^ pV 1 = 4503599627370496 by decide] at lt KO
    rw [show 2 ^ wV 1 = 9223372036854775808 by decide] at lt
    obtain ⟨e1, e2⟩ := enc_lo S j (j * 4503599627370496) (by omega)
    exact ro_encv 1 53 52 52 (by decide) (by decide) (by decide) (by decide) neg S _ _ st _ _ _ _ _ u v zu zv _ ob w KP KI KS w1 w2 (by rw [show (2 : Int) ^ min 52 64 = 4503599627370496 by decide, IntKind.wrap_u64]; omega) e1 (box e2) KZ KB KO (box KT) hT
  · rw [show fP 2 = 11 by decide] at KP
    rw [show 2 ^ pV 2 = 1024 by decide] at lt KO
    rw [show 2 ^ wV 2 = 32768 by decide] at lt
    obtain ⟨e1, e2⟩ := enc_lo S j (j * 1024) (by omega)
    exact ro_encv 2 11 10 10 (by decide) (by decide) (by decide) (by decide) neg S _ _ st _ _ _ _ _ u v zu zv _ ob w KP KI KS w1 w2 (by rw [show (2 : Int) ^ min 10 64 = 1024 by decide, IntKind.wrap_u64]; omega) e1 (box e2) KZ KB KO (box KT) hT
  · rw [show fP 3 = 113 by decide] at KP
    rw [show 2 ^ pV 3 = 5192296858534827628530496329220096 by decide] at lt KO
    rw [show 2 ^ wV 3 = 170141183460469231731687303715884105728 by decide] at lt
    obtain ⟨e1, e2⟩ := enc_hi S j (by omega)
    exact ro_enc_3 neg S _ _ st _ _ _ _ _ u v zu zv _ ob w KP KI KS w1 w2 (by rw [IntKind.wrap_u64]; omega) e1 (box e2) KZ KB KO (box KT) hT
theorem komay (f : Int) (hf : Is4 f) (neg : Bool) (s : Nat) (hs : s < Q) (x : Int) (more : Bool) (o : Bool) (ho : decide (-1048576 ≤ x ∧ x ≤ 1048576 ∧ (more = true → pV f + 3 ≤ blen s)) = o) (w : World) (hT : FAt w) : Calls Tryz.prog 21 #[.int .u8 f, .agg (rg neg s x more)] w fun r w' => r = .returned (.bool o) ∧ Below w.heap.size w w' := by
  have hp := fp8 hf
  obtain ⟨n1, n2, n3, n4, n5, n6⟩ := nm8 hf
  by_cases c1 : x < -1048576
  · rw [decide_eq_false (by omega)] at ho
    subst ho
    exact ro_may_lo f neg s x more w (decide_eq_true c1)
  by_cases c2 : 1048576 < x
  · rw [decide_eq_false (by omega)] at ho
    subst ho
    exact ro_may_hi f neg s x more w (decide_eq_false c1) (decide_eq_true c2)
  cases more
  · rw [decide_eq_true ⟨by omega, by omega, fun h => Bool.noConfusion h⟩] at ho
    subst ho
    exact ro_may_no f neg s x w (decide_eq_false c1) (decide_eq_false c2)
  · refine ro_may_more f neg s x (blen s : Int) (fP f) (fP f + 2) o w (box (fun w => wlen_is s _ hs rfl w)) (box (fun w hT => kprec f hf w hT)) (decide_eq_false c1) (decide_eq_false c2) (wrap_i64_is _ (by omega) (by omega)) ?_ hT
    rw [← ho, decide_eq_decide]
    constructor
    · exact fun h => ⟨by omega, by omega, fun _ => by omega⟩
    · exact fun h => by have := h.2.2 rfl; omega
theorem kPack_is (f m : Int) (hf : Is4 f) (hm : 0 ≤ m ∧ m ≤ 4) (neg : Bool) (s : Nat) (hs : s < Q) (s0 : s ≠ 0) (x : Int) (more : Bool) (h1 : -1048576 ≤ x) (h2 : x ≤ 1048576) (hmore : more = true → pV f + 3 ≤ blen s) (M : Nat) (fl : Int) (hd : dlv f m neg (x + (blen s : Int) - 1) (qW (pV f + 1) s) (qM (pV f + 1) s more) = (M, fl)) (u v : Nat) (hv : bv7 M = (u, v)) (w : World) (hT : FAt w) :
    Calls Tryz.prog 9 #[.int .u8 f, .int .u8 m, .agg (rg neg s x more)] w fun r w' => r = .returned (.tuple #[.agg #[.int .u64 (u : Nat), .int .u64 (v : Nat)], .int .u8 fl, .int .i64 0]) ∧ Below w.heap.size w w' := by
  have f4 := is4_ok hf
  have hp := fp8 hf
  obtain ⟨n1, n2, n3, n4, n5, n6⟩ := nm8 hf
  have KC : Box (∀ w, Calls Tryz.prog 20 #[.int .u8 f, .int .u8 m] w fun r w' => r = .returned (.int .i64 0) ∧ Below w.heap.size w w') := box (fun w => kocheck f m f4.1 f4.2.1 0 (if_pos ⟨is4_le hf, hm.2⟩) w)
  have KM : Box (∀ w, FAt w → Calls Tryz.prog 21 #[.int .u8 f, .agg (rg neg s x more)] w fun r w' => r = .returned (.bool true) ∧ Below w.heap.size w w') := box (fun w hT => komay f hf neg s hs x more true (decide_eq_true ⟨h1, h2, hmore⟩) w hT)
  obtain ⟨t, t0, tQ, bt, qt, mt, KJ⟩ : ∃ t, t ≠ 0 ∧ t < Q ∧ blen t = blen s ∧ qW (pV f + 1) t = qW (pV f + 1) s ∧ qM (pV f + 1) t false = qM (pV f + 1) s more ∧ Box (∀ w, Calls Tryz.prog 23 #[.agg (rg neg s x more)] w fun r w' => r = .returned (.agg (rg neg t x false)) ∧ Below w.heap.size w w') := by
    cases more
    · exact ⟨s, s0, hs, rfl, rfl, rfl, box (fun w => ro_jam_no neg s x w)⟩
    · obtain ⟨j1, j2, j3, j4⟩ := q_jam (pV f + 1) s (by have := hmore rfl; omega)
      obtain ⟨o1, o2⟩ := or_low s (s / 2 * 2 + 1) rfl
      refine ⟨s / 2 * 2 + 1, by omega, ?_, j1, j2, by rw [j3, j4], box (fun w => ro_jam_yes neg s _ x w ?_ (box o2))⟩
      · obtain ⟨L, hL, eQ⟩ := Qq384
        rw [eQ]
        have := blen_lt (s / 2 * 2 + 1)
        have b2 := blen_le_of s L (by rw [← eQ]; exact hs)
        rw [j1] at this
        exact Nat.lt_of_lt_of_le this (Nat.pow_le_pow_right (show 0 < 2 by decide) b2)
      · rw [o1]
        have := bits_or_u64_nat (wd s 0) 1 (wd_lt s 0) (by decide)
        rw [jor1] at this
        exact this
  obtain ⟨Z, hZ, eQ⟩ := Qq384
  have bQ : blen t ≤ Z := blen_le_of t Z (by rw [← eQ]; exact tQ)
  rw [← bt, ← qt, ← mt] at hd
  clear hmore bt qt mt
  obtain ⟨T, hT0⟩ : ∃ T, x + (blen t : Int) - 1 = T := ⟨_, rfl⟩
  rw [hT0] at hd
  obtain ⟨W, hW⟩ : ∃ W, qW (pV f + 1) t = W := ⟨_, rfl⟩
  obtain ⟨mo, hmo⟩ : ∃ mo, qM (pV f + 1) t false = mo := ⟨_, rfl⟩
  have wok : Wok f W := by rw [← hW]; exact q_ok t t0
  rw [hW, hmo] at hd
  obtain ⟨K, hK⟩ : ∃ K, rG m neg W (dK f T) mo = K := ⟨_, rfl⟩
  have lim := rG_lim wok m neg (dK f T) mo
  rw [hK] at lim
  obtain ⟨q1, q2, q3⟩ := r1_lt hf lim.1
  have sx := st_lx hf T
  have jk1 := jk (f := f) T
  have stl : stE f T = max T (1 - fE f) := rfl
  unfold dlv at hd
  rw [hK] at hd
  refine ro_pack f m neg s t x more T (1 - fE f) (stE f T - fP f + 1) (stE f T - fP f + 1 + (blen K : Int) - 1) (fE f) fl K (!(rH W (dK f T) || rM W (dK f T) mo)) _ (tnB f m neg T W mo) u v w (eq_false s0) hs KC KM KJ
    (box (fun w => kotop neg t tQ x false (by omega) (by omega) _ hT0 w)) (box (fun w hT => k_emin f hf w hT)) (box (fun w hT => kostep f hf _ (by omega) (by omega) _ (by rw [stl]) w hT))
    (box (fun w => kgrid f m hf hm neg t t0 tQ x _ false (dK f T) (by omega) (by omega) (by unfold dK; omega) (by unfold dK; omega) K (by rw [hW, hmo]; exact hK) _ (by rw [hW, hmo]) w))
    (box (fun w => kotop neg K q1 _ false (by omega) (by omega) _ rfl w)) (box (fun w hT => kemax f hf w hT)) (box (fun o w hT => ?_)) (box (fun o w hT => ?_)) (box (fun w hT => kotiny f m hf hm neg t t0 tQ x false (by omega) (by omega) _ (by rw [hT0, hW, hmo]) w hT)) rfl ?_ hT
  · rw [decide_eq_true_iff] at o
    rw [if_pos (by omega)] at hd
    injection hd with d1 d2
    rw [← d1] at hv
    exact kover f m hf hm neg u v hv w hT
  · rw [decide_eq_false_iff_not] at o
    rw [if_neg (by omega)] at hd
    injection hd with d1 d2
    rw [← d1] at hv
    refine kenc f hf neg (dJ f T) K _ sx lim.1 ?_ (by omega) u v hv w hT
    rcases jk1 with h | h
    · exact Or.inl h.1
    · exact Or.inr (lim.2.1 h.1)
  · by_cases c : fE f < stE f T - fP f + (blen K : Int)
    · rw [if_pos c] at hd
      injection hd with d1 d2
      rw [decide_eq_true (show fE f < stE f T - fP f + 1 + (blen K : Int) - 1 by omega), if_pos rfl]
      exact d2
    · rw [if_neg c] at hd
      injection hd with d1 d2
      rw [decide_eq_false (show ¬ fE f < stE f T - fP f + 1 + (blen K : Int) - 1 by omega), if_neg (by decide), ← d2]
      cases (rH W (dK f T) || rM W (dK f T) mo) <;> rfl
theorem kPack_zero (f m : Int) (hf : Is4 f) (hm : 0 ≤ m ∧ m ≤ 4) (neg : Bool) (x : Int) (h1 : -1048576 ≤ x) (h2 : x ≤ 1048576) (u v : Nat) (hv : bv7 (eZero f neg) = (u, v)) (w : World) (hT : FAt w) :
    Calls Tryz.prog 9 #[.int .u8 f, .int .u8 m, .agg (rg neg 0 x false)] w fun r w' => r = .returned (.tuple #[.agg #[.int .u64 (u : Nat), .int .u64 (v : Nat)], .int .u8 0, .int .i64 0]) ∧ Below w.heap.size w w' := by
  have f4 := is4_ok hf
  exact ro_pack_zero f m neg x false u v w (box (fun w => kocheck f m f4.1 f4.2.1 0 (if_pos ⟨is4_le hf, hm.2⟩) w)) (box (fun w hT => komay f hf neg 0 Q_pos x false true (decide_eq_true ⟨h1, h2, fun h => Bool.noConfusion h⟩) w hT)) (box (fun w hT => sk_zero f neg hf u v hv w hT)) hT
theorem kPack_no (f m : Int) (h0 : 0 ≤ f) (h1 : f ≤ 255) (neg : Bool) (s : Nat) (hs : s < Q) (x : Int) (more : Bool) (h : ¬ (f ≤ 3 ∧ m ≤ 4 ∧ -1048576 ≤ x ∧ x ≤ 1048576 ∧ (more = true → pV f + 3 ≤ blen s))) (w : World) (hT : FAt w) :
    Calls Tryz.prog 9 #[.int .u8 f, .int .u8 m, .agg (rg neg s x more)] w fun r w' => r = .returned (.tuple #[.agg #[.int .u64 0, .int .u64 0], .int .u8 0, .int .i64 2]) ∧ Below w.heap.size w w' := by
  by_cases c : f ≤ 3 ∧ m ≤ 4
  · exact ro_pack_b f m neg s x more w (box (fun w => kocheck f m h0 h1 0 (if_pos c) w)) (box (fun w hT => komay f (is4_of h0 c.1) neg s hs x more false (decide_eq_false (fun q => h ⟨c.1, c.2, q⟩)) w hT)) hT
  · exact ro_pack_a f m neg s x more 2 (by decide) w (box (fun w => kocheck f m h0 h1 2 (if_neg c) w))
end Go.Proofs.YtpdehipeakcaiaaGreatDoor
namespace Go.Proofs.YtpdehipeakcaiaaGreatDoor
set_option maxRecDepth 100000
set_option maxHeartbeats 40000000
set_option maxRecDepth 100000
open Go.RowKit WMath XMath
set_option linter.unusedSimpArgs false
set_option linter.unusedVariables false
theorem gO_none (m : Int) (neg o : Bool) : gO m neg o false false = false := by
  unfold gO
  split <;> (try split) <;> (try split) <;> (try split) <;> simp
theorem rnd_own {f : Int} (hf : Is4 f) (m : Int) (neg : Bool) (e t : Nat) (he : e < oV f) (ht : t < 2 ^ pV f) (nz : sV f e t ≠ 0) : rnd f m ⟨neg, od (sV f e t), 1, xV f e + (tz (sV f e t) : Int)⟩ = (enc7 f neg e t, 0) := by
  obtain ⟨n1, n2, n3, n4, n5, n6⟩ := nm8 hf
  have p := fp8 hf
  have pp := Nat.two_pow_pos (pV f)
  have oe : (oV f : Int) = 2 * fE f + 1 := by unfold oV; omega
  obtain ⟨S, hS⟩ : ∃ S, sV f e t = S := ⟨_, rfl⟩
  obtain ⟨X, hX⟩ : ∃ X, xV f e = X := ⟨_, rfl⟩
  have vo := (val_of hf neg e t he ht nz).1
  rw [hS, hX] at vo
  rw [hS] at nz ⊢
  rw [hX]
  have sl : S < 2 * 2 ^ pV f := by rw [← hS]; unfold sV; split <;> omega
  obtain ⟨o1, o2⟩ := od_is S nz
  have od0 : od S ≠ 0 := by omega
  have bs : blen S = blen (od S) + tz S := by
    have := blen_shift (od S) (tz S) od0
    rw [← o1] at this
    exact this
  have xl : -20000 ≤ X ∧ X ≤ 20000 := by rw [← hX]; unfold xV; split <;> omega
  have hc : (XN.mk neg (od S) 1 (X + (tz S : Int))).can := by
    have := mk_can neg S 1 X (nl_small hf S (by omega)) nl_1 (by decide) (by rw [vo])
    rw [vo] at this
    exact this
  have tw : topX ⟨neg, od S, 1, X + (tz S : Int)⟩ = (blen S : Int) - 1 + X := by rw [top_whole neg (od S) _ od0]; omega
  obtain ⟨T, hT⟩ : ∃ T, topX ⟨neg, od S, 1, X + (tz S : Int)⟩ = T := ⟨_, rfl⟩
  obtain ⟨q1, q2⟩ := fnd_x hf hc od0 (by show nl 1 ≤ 8192; decide +kernel)
  unfold Fnd at q2
  rw [if_neg (by decide)] at q2
  have tlim := tz_blen S
  have blu : blen S ≤ pV f + 1 := (blen_iff S _).2 (by rw [Nat.pow_succ]; omega)
  have kk : stE f T - T = (dK f T : Int) := by unfold dK stE; omega
  have stx := st_lx hf T
  have sx : stE f T - fP f + 1 = X := by
    rw [hT] at tw
    rw [tw, ← hX]
    unfold stE
    by_cases e0 : e = 0
    · have : blen S ≤ pV f := (blen_iff S _).2 (by rw [← hS]; unfold sV; rw [if_pos e0]; exact ht)
      unfold xV
      rw [if_pos e0]
      omega
    · have : blen S = pV f + 1 := blen_is S (pV f) (by rw [← hS]; unfold sV; rw [if_neg e0]; omega) (by rw [Nat.pow_succ]; omega)
      unfold xV
      rw [if_neg e0]
      omega
  have F := q2.2 (dK f T + 1) (by rw [hT]; omega)
  rw [hT, show T - fP f + ((dK f T + 1 : Nat) : Int) = X by omega, cut_two, ex_is, fl_yes _ X od0 rfl (by show X ≤ X + (tz S : Int); omega) (by omega) (by omega) (by
    show nl (od S * 2 ^ (X + (tz S : Int) - X).toNat) ≤ 16384
    rw [show (X + (tz S : Int) - X).toNat = tz S by omega, ← o1]
    exact nl_small hf S (by omega))] at F
  injection F with F1 F2
  injection F1 with F3 F4
  have F5 : S = rS (xW f ⟨neg, od S, 1, X + (tz S : Int)⟩) (dK f T) := by
    rw [← F3]
    show S = od S * 2 ^ (X + (tz S : Int) - X).toNat
    rw [show (X + (tz S : Int) - X).toNat = tz S by omega, ← o1]
  have hh : rH (xW f ⟨neg, od S, 1, X + (tz S : Int)⟩) (dK f T) = false ∧ rM (xW f ⟨neg, od S, 1, X + (tz S : Int)⟩) (dK f T) (xM f ⟨neg, od S, 1, X + (tz S : Int)⟩) = false := by
    have := F4.symm
    rw [Bool.not_eq_true', Bool.or_eq_false_iff] at this
    exact this
  have hG : rG m neg (xW f ⟨neg, od S, 1, X + (tz S : Int)⟩) (dK f T) (xM f ⟨neg, od S, 1, X + (tz S : Int)⟩) = S := by
    unfold rG
    rw [hh.1, hh.2, gO_none, if_neg (by decide), ← F5]
  have hov : ¬ fE f < stE f T - fP f + (blen S : Int) := by
    rw [hT] at tw
    by_cases e0 : e = 0
    · have : blen S ≤ pV f := (blen_iff S _).2 (by rw [← hS]; unfold sV; rw [if_pos e0]; exact ht)
      unfold xV at hX
      rw [if_pos e0] at hX
      omega
    · unfold xV at hX
      rw [if_neg e0] at hX
      omega
  unfold rnd
  rw [if_neg od0]
  unfold dlv
  rw [hT, hG, if_neg hov, hh.1, hh.2, if_neg (by decide)]
  congr 1
  have hj : (dJ f T : Int) = X - lx f := by omega
  unfold eS enc7
  rw [← hS]
  unfold sV
  unfold xV at hX
  by_cases e0 : e = 0
  · rw [if_pos e0] at hX ⊢
    rw [show dJ f T = 0 by omega, e0]
  · rw [if_neg e0] at hX ⊢
    obtain ⟨k, rfl⟩ : ∃ k, e = k + 1 := ⟨e - 1, by omega⟩
    rw [show dJ f T = k by omega, Nat.add_mul, Nat.one_mul]
    generalize k * 2 ^ pV f = A
    generalize 2 ^ pV f = B
    generalize (if neg = true then 2 ^ wV f else 0) = C
    omega
end Go.Proofs.YtpdehipeakcaiaaGreatDoor
