/-
  What the functions that the statement reaches return: part 15 (R32).
-/
import Derived.Test.YtfmmeifipbpbmaaGreatDoorOa14
namespace Go.Proofs.YtfmmeifipbpbmaaGreatDoor
set_option maxRecDepth 100000
open Go.RowKit WMath
set_option linter.unusedSimpArgs false
set_option linter.unusedVariables false
theorem gen_round_Pack_9 {X : Act → World → Prop} {R : World → Nat → Prop} {t0 t1 t2 t3 t4 t5 t6 t7 t8 t10 t11 t12 t13 t14 t15 t16 t17 t18 t19 t20 t21 t22 t23 t24 t25 t26 t27 t28 t29 t30 t31 t32 t33 t34 t35 t36 t37 t38 t39 t40 t41 t42 t43 t44 t45 t46 t47 t48 t49 t50 t51 t52 t53 t54 t55 t56 t57 t58 t59 t60 t61 t62 t63 t64 t65 t66 t67 t68 t69 t70 t71 t72 : Value} {d : List Deferred} {W : World} {G : Nat}
    (key : ∀ w5 g, R w5 g → X ⟨#[t0, t1, t2, t3, t4, t5, t6, t7, t8, .pointer (some ⟨g, 0, none⟩), t10, t11, t12, t13, t14, t15, t16, t17, t18, t19, t20, t21, t22, t23, t24, t25, t26, t27, t28, t29, t30, t31, t32, t33, t34, t35, t36, t37, t38, t39, t40, t41, t42, t43, t44, t45, t46, t47, t48, t49, t50, t51, t52, t53, t54, t55, t56, t57, t58, t59, t60, t61, t62, t63, t64, t65, t66, t67, t68, t69, t70, t71, t72], d⟩ w5) (r : R W G) : X ⟨#[t0, t1, t2, t3, t4, t5, t6, t7, t8, .pointer (some ⟨G, 0, none⟩), t10, t11, t12, t13, t14, t15, t16, t17, t18, t19, t20, t21, t22, t23, t24, t25, t26, t27, t28, t29, t30, t31, t32, t33, t34, t35, t36, t37, t38, t39, t40, t41, t42, t43, t44, t45, t46, t47, t48, t49, t50, t51, t52, t53, t54, t55, t56, t57, t58, t59, t60, t61, t62, t63, t64, t65, t66, t67, t68, t69, t70, t71, t72], d⟩ W := key W G r

set_option maxRecDepth 100000 in
set_option maxHeartbeats 16000000 in
theorem ro_pack (f m : Int) (neg : Bool) (s t : Nat) (x : Int) (more : Bool) (T I st rt E fl : Int) (K : Nat) (ex ov o : Bool) (u v : Nat) (w : World) (hz : (s = 0) = False) (hQ : s < Q)
    (KC : Box (∀ w, Calls Tryz.prog 79 #[.int .u8 f, .int .u8 m] w fun r w' => r = .returned (.int .i64 0) ∧ Below w.heap.size w w'))
    (KM : Box (∀ w, FAt w → Calls Tryz.prog 80 #[.int .u8 f, .agg (rg neg s x more)] w fun r w' => r = .returned (.bool true) ∧ Below w.heap.size w w'))
    (KJ : Box (∀ w, Calls Tryz.prog 81 #[.agg (rg neg s x more)] w fun r w' => r = .returned (.agg (rg neg t x false)) ∧ Below w.heap.size w w'))
    (K1 : Box (∀ w, Calls Tryz.prog 84 #[.agg (rg neg t x false)] w fun r w' => r = .returned (.int .i64 T) ∧ Below w.heap.size w w'))
    (KI : Box (∀ w, FAt w → Calls Tryz.prog 85 #[.int .u8 f] w fun r w' => r = .returned (.int .i64 I) ∧ Below w.heap.size w w'))
    (KS : Box (∀ w, FAt w → Calls Tryz.prog 83 #[.int .u8 f, .int .i64 (max T I)] w fun r w' => r = .returned (.int .i64 st) ∧ Below w.heap.size w w'))
    (KG : Box (∀ w, Calls Tryz.prog 82 #[.int .u8 m, .agg (rg neg t x false), .int .i64 st] w fun r w' => r = .returned (.tuple #[.agg (rg neg K st false), .bool ex]) ∧ Below w.heap.size w w'))
    (KT : Box (∀ w, Calls Tryz.prog 84 #[.agg (rg neg K st false)] w fun r w' => r = .returned (.int .i64 rt) ∧ Below w.heap.size w w'))
    (KE : Box (∀ w, FAt w → Calls Tryz.prog 86 #[.int .u8 f] w fun r w' => r = .returned (.int .i64 E) ∧ Below w.heap.size w w'))
    (KO : Box (ov = true → ∀ w, FAt w → Calls Tryz.prog 87 #[.int .u8 f, .int .u8 m, .bool neg] w fun r w' => r = .returned (.tuple #[.agg #[.int .u64 (u : Nat), .int .u64 (v : Nat)], .int .u8 5, .int .i64 0]) ∧ Below w.heap.size w w'))
    (KD : Box (ov = false → ∀ w, FAt w → Calls Tryz.prog 89 #[.int .u8 f, .agg (rg neg K st false)] w fun r w' => r = .returned (.agg #[.int .u64 (u : Nat), .int .u64 (v : Nat)]) ∧ Below w.heap.size w w'))
    (KN : Box (∀ w, FAt w → Calls Tryz.prog 88 #[.int .u8 f, .int .u8 m, .agg (rg neg t x false)] w fun r w' => r = .returned (.bool o) ∧ Below w.heap.size w w'))
    (ho : decide (E < rt) = ov) (hfl : (if ov = true then (5 : Int) else if ex = true then 0 else (if o = true then 3 else 1)) = fl)
    (hT : FAt w) : Calls Tryz.prog 30 #[.int .u8 f, .int .u8 m, .agg (rg neg s x more)] w fun r w' => r = .returned (.tuple #[.agg #[.int .u64 (u : Nat), .int .u64 (v : Nat)], .int .u8 fl, .int .i64 0]) ∧ Below w.heap.size w w' := by
  have FF := box hT
  have HFL := box hfl
  clear hT hfl
  have hb1 : bits .or .u8 0 1 = 1 := by decide
  have hb2 : bits .or .u8 1 2 = 3 := by decide
  have hat := cw_at 6
  have hz := cw6z
  have hff := cw6f
  have hs0 := st0
  have hcs : ∀ x, ((cw 6 x).size = 6) = True := fun x => eq_true (cw_size 6 x)
  have heq := eq6
  have hQ0 := Q_pos
  have hg := eqg6
  have hp1 := rgf
  have hp3 := rgz
  have hp4 := st_r0
  have hp5 : ∀ (c : Bool) (s : Nat) (x : Int) (r : Bool), ((rg c s x r).size = 9) = True := fun _ _ _ _ => eq_true rfl
  obtain ⟨Rx_0, Rz_0, B0⟩ := opn2 w (Obj.cells (rg neg s x more) 64) (Obj.cells #[.int .u64 0, .int .u64 0] 25)
  go_enter Tryz.func30, Tryz.ntmps30
  obtain ⟨cx_0_0, cx_0_1, cx_0_2, cx_0_3, cx_0_4, cx_0_5, cx_0_6, cx_0_7, cx_0_8⟩ := rg_cells Rx_0
  obtain ⟨cz_0_0, cz_0_1⟩ := cells2s Rz_0
  go_wp2_with fail
  refine (KC.out _).mono ?_
  rintro r w1 ⟨rfl, b1⟩
  have B1 : Below w.heap.size w w1 := btr B0 b1
  have Rx_1 := heap_of b1 _ _ _ Rx_0
  have Rz_1 := heap_of b1 _ _ _ Rz_0
  clear b1 B0 Rx_0 cx_0_0 cx_0_1 cx_0_2 cx_0_3 cx_0_4 cx_0_5 cx_0_6 cx_0_7 cx_0_8 Rz_0 cz_0_0 cz_0_1
  obtain ⟨cx_1_0, cx_1_1, cx_1_2, cx_1_3, cx_1_4, cx_1_5, cx_1_6, cx_1_7, cx_1_8⟩ := rg_cells Rx_1
  obtain ⟨cz_1_0, cz_1_1⟩ := cells2s Rz_1
  go_wp2_with fail
  refine (KM.out _ (fatB FF.out B1)).mono ?_
  rintro r w2 ⟨rfl, b2⟩
  have B2 : Below w.heap.size w w2 := btr B1 b2
  have Rx_2 := heap_of b2 _ _ _ Rx_1
  have Rz_2 := heap_of b2 _ _ _ Rz_1
  clear b2 B1 Rx_1 cx_1_0 cx_1_1 cx_1_2 cx_1_3 cx_1_4 cx_1_5 cx_1_6 cx_1_7 cx_1_8 Rz_1 cz_1_0 cz_1_1
  obtain ⟨cx_2_0, cx_2_1, cx_2_2, cx_2_3, cx_2_4, cx_2_5, cx_2_6, cx_2_7, cx_2_8⟩ := rg_cells Rx_2
  obtain ⟨cz_2_0, cz_2_1⟩ := cells2s Rz_2
  go_wp2_with fail
  refine (KJ.out _).mono ?_
  rintro r w3 ⟨rfl, b3⟩
  have B3 : Below w.heap.size w w3 := btr B2 b3
  have Rx_3 := heap_of b3 _ _ _ Rx_2
  have Rz_3 := heap_of b3 _ _ _ Rz_2
  clear b3 B2 Rx_2 cx_2_0 cx_2_1 cx_2_2 cx_2_3 cx_2_4 cx_2_5 cx_2_6 cx_2_7 cx_2_8 Rz_2 cz_2_0 cz_2_1
  obtain ⟨cx_3_0, cx_3_1, cx_3_2, cx_3_3, cx_3_4, cx_3_5, cx_3_6, cx_3_7, cx_3_8⟩ := rg_cells Rx_3
  obtain ⟨cz_3_0, cz_3_1⟩ := cells2s Rz_3
  have hst4 := st_r w3 (w.heap.size) neg t x false neg s x more Rx_3
  have B4 := bel_set (c := (rg neg t x false)) B3 (show w.heap.size ≤ w.heap.size by first | exact Nat.le_refl _ | omega | (skip; omega))
  have Rx_4 := setRow_row (c' := (rg neg t x false)) Rx_3
  have Rz_4 : (w3.setRow (w.heap.size) (rg neg t x false)).heap[w.heap.size + 1]? = some (Obj.cells #[.int .u64 0, .int .u64 0] 25) := by rw [setRow_other (by first | omega | (skip; omega))]; exact Rz_3
  obtain ⟨w4, hw4⟩ : ∃ V, w3.setRow (w.heap.size) (rg neg t x false) = V := ⟨_, rfl⟩
  rw [hw4] at hst4 B4 Rx_4 Rz_4
  obtain ⟨cx_4_0, cx_4_1, cx_4_2, cx_4_3, cx_4_4, cx_4_5, cx_4_6, cx_4_7, cx_4_8⟩ := rg_cells Rx_4
  obtain ⟨cz_4_0, cz_4_1⟩ := cells2s Rz_4
  have sS : Box (∀ W W1 : World, (Below w.heap.size w W ∧ W.heap[w.heap.size]? = some (Obj.cells (rg neg t x false) 64) ∧ W.heap[w.heap.size + 1]? = some (Obj.cells #[.int .u64 0, .int .u64 0] 25) ∧ W.cell? ⟨w.heap.size, 0, none⟩ = some (.bool neg) ∧ W.cell? ⟨w.heap.size, 1, none⟩ = some (.int .u64 ((wd t 0 : Nat) : Int)) ∧ W.cell? ⟨w.heap.size, 2, none⟩ = some (.int .u64 ((wd t 1 : Nat) : Int)) ∧ W.cell? ⟨w.heap.size, 3, none⟩ = some (.int .u64 ((wd t 2 : Nat) : Int)) ∧ W.cell? ⟨w.heap.size, 4, none⟩ = some (.int .u64 ((wd t 3 : Nat) : Int)) ∧ W.cell? ⟨w.heap.size, 5, none⟩ = some (.int .u64 ((wd t 4 : Nat) : Int)) ∧ W.cell? ⟨w.heap.size, 6, none⟩ = some (.int .u64 ((wd t 5 : Nat) : Int)) ∧ W.cell? ⟨w.heap.size, 7, none⟩ = some (.int .i64 x) ∧ W.cell? ⟨w.heap.size, 8, none⟩ = some (.bool false) ∧ W.cell? ⟨w.heap.size + 1, 0, none⟩ = some (.int .u64 0) ∧ W.cell? ⟨w.heap.size + 1, 1, none⟩ = some (.int .u64 0)) → Below W.heap.size W W1 → (Below w.heap.size w W1 ∧ W1.heap[w.heap.size]? = some (Obj.cells (rg neg t x false) 64) ∧ W1.heap[w.heap.size + 1]? = some (Obj.cells #[.int .u64 0, .int .u64 0] 25) ∧ W1.cell? ⟨w.heap.size, 0, none⟩ = some (.bool neg) ∧ W1.cell? ⟨w.heap.size, 1, none⟩ = some (.int .u64 ((wd t 0 : Nat) : Int)) ∧ W1.cell? ⟨w.heap.size, 2, none⟩ = some (.int .u64 ((wd t 1 : Nat) : Int)) ∧ W1.cell? ⟨w.heap.size, 3, none⟩ = some (.int .u64 ((wd t 2 : Nat) : Int)) ∧ W1.cell? ⟨w.heap.size, 4, none⟩ = some (.int .u64 ((wd t 3 : Nat) : Int)) ∧ W1.cell? ⟨w.heap.size, 5, none⟩ = some (.int .u64 ((wd t 4 : Nat) : Int)) ∧ W1.cell? ⟨w.heap.size, 6, none⟩ = some (.int .u64 ((wd t 5 : Nat) : Int)) ∧ W1.cell? ⟨w.heap.size, 7, none⟩ = some (.int .i64 x) ∧ W1.cell? ⟨w.heap.size, 8, none⟩ = some (.bool false) ∧ W1.cell? ⟨w.heap.size + 1, 0, none⟩ = some (.int .u64 0) ∧ W1.cell? ⟨w.heap.size + 1, 1, none⟩ = some (.int .u64 0))) := box (fun W W1 h b => ⟨btr h.1 b, heap_of b _ _ _ h.2.1, heap_of b _ _ _ h.2.2.1, cell7 (heap_of b _ _ _ h.2.1) 0 _ rfl, cell7 (heap_of b _ _ _ h.2.1) 1 _ rfl, cell7 (heap_of b _ _ _ h.2.1) 2 _ rfl, cell7 (heap_of b _ _ _ h.2.1) 3 _ rfl, cell7 (heap_of b _ _ _ h.2.1) 4 _ rfl, cell7 (heap_of b _ _ _ h.2.1) 5 _ rfl, cell7 (heap_of b _ _ _ h.2.1) 6 _ rfl, cell7 (heap_of b _ _ _ h.2.1) 7 _ rfl, cell7 (heap_of b _ _ _ h.2.1) 8 _ rfl, cell7 (heap_of b _ _ _ h.2.2.1) 0 _ rfl, cell7 (heap_of b _ _ _ h.2.2.1) 1 _ rfl⟩)
  have sL : Box (∀ W : World, (Below w.heap.size w W ∧ W.heap[w.heap.size]? = some (Obj.cells (rg neg t x false) 64) ∧ W.heap[w.heap.size + 1]? = some (Obj.cells #[.int .u64 0, .int .u64 0] 25) ∧ W.cell? ⟨w.heap.size, 0, none⟩ = some (.bool neg) ∧ W.cell? ⟨w.heap.size, 1, none⟩ = some (.int .u64 ((wd t 0 : Nat) : Int)) ∧ W.cell? ⟨w.heap.size, 2, none⟩ = some (.int .u64 ((wd t 1 : Nat) : Int)) ∧ W.cell? ⟨w.heap.size, 3, none⟩ = some (.int .u64 ((wd t 2 : Nat) : Int)) ∧ W.cell? ⟨w.heap.size, 4, none⟩ = some (.int .u64 ((wd t 3 : Nat) : Int)) ∧ W.cell? ⟨w.heap.size, 5, none⟩ = some (.int .u64 ((wd t 4 : Nat) : Int)) ∧ W.cell? ⟨w.heap.size, 6, none⟩ = some (.int .u64 ((wd t 5 : Nat) : Int)) ∧ W.cell? ⟨w.heap.size, 7, none⟩ = some (.int .i64 x) ∧ W.cell? ⟨w.heap.size, 8, none⟩ = some (.bool false) ∧ W.cell? ⟨w.heap.size + 1, 0, none⟩ = some (.int .u64 0) ∧ W.cell? ⟨w.heap.size + 1, 1, none⟩ = some (.int .u64 0)) → (w.heap.size < W.heap.size ∧ w.heap.size + 1 < W.heap.size)) := box (fun W h => ⟨(Array.getElem?_eq_some_iff.1 h.2.1).1, (Array.getElem?_eq_some_iff.1 h.2.2.1).1⟩)
  have sT : Box (∀ (W : World) (gN : Nat) (xA : Array Value), (Below w.heap.size w W ∧ W.heap[w.heap.size]? = some (Obj.cells (rg neg t x false) 64) ∧ W.heap[w.heap.size + 1]? = some (Obj.cells #[.int .u64 0, .int .u64 0] 25) ∧ W.cell? ⟨w.heap.size, 0, none⟩ = some (.bool neg) ∧ W.cell? ⟨w.heap.size, 1, none⟩ = some (.int .u64 ((wd t 0 : Nat) : Int)) ∧ W.cell? ⟨w.heap.size, 2, none⟩ = some (.int .u64 ((wd t 1 : Nat) : Int)) ∧ W.cell? ⟨w.heap.size, 3, none⟩ = some (.int .u64 ((wd t 2 : Nat) : Int)) ∧ W.cell? ⟨w.heap.size, 4, none⟩ = some (.int .u64 ((wd t 3 : Nat) : Int)) ∧ W.cell? ⟨w.heap.size, 5, none⟩ = some (.int .u64 ((wd t 4 : Nat) : Int)) ∧ W.cell? ⟨w.heap.size, 6, none⟩ = some (.int .u64 ((wd t 5 : Nat) : Int)) ∧ W.cell? ⟨w.heap.size, 7, none⟩ = some (.int .i64 x) ∧ W.cell? ⟨w.heap.size, 8, none⟩ = some (.bool false) ∧ W.cell? ⟨w.heap.size + 1, 0, none⟩ = some (.int .u64 0) ∧ W.cell? ⟨w.heap.size + 1, 1, none⟩ = some (.int .u64 0)) → (w.heap.size < gN ∧ w.heap.size + 1 < gN) → (Below w.heap.size w (W.setRow gN xA) ∧ (W.setRow gN xA).heap[w.heap.size]? = some (Obj.cells (rg neg t x false) 64) ∧ (W.setRow gN xA).heap[w.heap.size + 1]? = some (Obj.cells #[.int .u64 0, .int .u64 0] 25) ∧ (W.setRow gN xA).cell? ⟨w.heap.size, 0, none⟩ = some (.bool neg) ∧ (W.setRow gN xA).cell? ⟨w.heap.size, 1, none⟩ = some (.int .u64 ((wd t 0 : Nat) : Int)) ∧ (W.setRow gN xA).cell? ⟨w.heap.size, 2, none⟩ = some (.int .u64 ((wd t 1 : Nat) : Int)) ∧ (W.setRow gN xA).cell? ⟨w.heap.size, 3, none⟩ = some (.int .u64 ((wd t 2 : Nat) : Int)) ∧ (W.setRow gN xA).cell? ⟨w.heap.size, 4, none⟩ = some (.int .u64 ((wd t 3 : Nat) : Int)) ∧ (W.setRow gN xA).cell? ⟨w.heap.size, 5, none⟩ = some (.int .u64 ((wd t 4 : Nat) : Int)) ∧ (W.setRow gN xA).cell? ⟨w.heap.size, 6, none⟩ = some (.int .u64 ((wd t 5 : Nat) : Int)) ∧ (W.setRow gN xA).cell? ⟨w.heap.size, 7, none⟩ = some (.int .i64 x) ∧ (W.setRow gN xA).cell? ⟨w.heap.size, 8, none⟩ = some (.bool false) ∧ (W.setRow gN xA).cell? ⟨w.heap.size + 1, 0, none⟩ = some (.int .u64 0) ∧ (W.setRow gN xA).cell? ⟨w.heap.size + 1, 1, none⟩ = some (.int .u64 0))) := box (fun W gN xA h l => ⟨bel_set h.1 (show w.heap.size ≤ gN by have := l.1; omega), (setRow_other (by have := l.1; omega)).trans h.2.1, (setRow_other (by have := l.2; omega)).trans h.2.2.1, cell7 ((setRow_other (by have := l.1; omega)).trans h.2.1) 0 _ rfl, cell7 ((setRow_other (by have := l.1; omega)).trans h.2.1) 1 _ rfl, cell7 ((setRow_other (by have := l.1; omega)).trans h.2.1) 2 _ rfl, cell7 ((setRow_other (by have := l.1; omega)).trans h.2.1) 3 _ rfl, cell7 ((setRow_other (by have := l.1; omega)).trans h.2.1) 4 _ rfl, cell7 ((setRow_other (by have := l.1; omega)).trans h.2.1) 5 _ rfl, cell7 ((setRow_other (by have := l.1; omega)).trans h.2.1) 6 _ rfl, cell7 ((setRow_other (by have := l.1; omega)).trans h.2.1) 7 _ rfl, cell7 ((setRow_other (by have := l.1; omega)).trans h.2.1) 8 _ rfl, cell7 ((setRow_other (by have := l.2; omega)).trans h.2.2.1) 0 _ rfl, cell7 ((setRow_other (by have := l.2; omega)).trans h.2.2.1) 1 _ rfl⟩)
  have s0 : Below w.heap.size w (w4).drew ∧ (w4).drew.heap[w.heap.size]? = some (Obj.cells (rg neg t x false) 64) ∧ (w4).drew.heap[w.heap.size + 1]? = some (Obj.cells #[.int .u64 0, .int .u64 0] 25) ∧ (w4).drew.cell? ⟨w.heap.size, 0, none⟩ = some (.bool neg) ∧ (w4).drew.cell? ⟨w.heap.size, 1, none⟩ = some (.int .u64 ((wd t 0 : Nat) : Int)) ∧ (w4).drew.cell? ⟨w.heap.size, 2, none⟩ = some (.int .u64 ((wd t 1 : Nat) : Int)) ∧ (w4).drew.cell? ⟨w.heap.size, 3, none⟩ = some (.int .u64 ((wd t 2 : Nat) : Int)) ∧ (w4).drew.cell? ⟨w.heap.size, 4, none⟩ = some (.int .u64 ((wd t 3 : Nat) : Int)) ∧ (w4).drew.cell? ⟨w.heap.size, 5, none⟩ = some (.int .u64 ((wd t 4 : Nat) : Int)) ∧ (w4).drew.cell? ⟨w.heap.size, 6, none⟩ = some (.int .u64 ((wd t 5 : Nat) : Int)) ∧ (w4).drew.cell? ⟨w.heap.size, 7, none⟩ = some (.int .i64 x) ∧ (w4).drew.cell? ⟨w.heap.size, 8, none⟩ = some (.bool false) ∧ (w4).drew.cell? ⟨w.heap.size + 1, 0, none⟩ = some (.int .u64 0) ∧ (w4).drew.cell? ⟨w.heap.size + 1, 1, none⟩ = some (.int .u64 0) := ⟨B4.drew, Rx_4, Rz_4, cell7 (Rx_4) 0 _ rfl, cell7 (Rx_4) 1 _ rfl, cell7 (Rx_4) 2 _ rfl, cell7 (Rx_4) 3 _ rfl, cell7 (Rx_4) 4 _ rfl, cell7 (Rx_4) 5 _ rfl, cell7 (Rx_4) 6 _ rfl, cell7 (Rx_4) 7 _ rfl, cell7 (Rx_4) 8 _ rfl, cell7 (Rz_4) 0 _ rfl, cell7 (Rz_4) 1 _ rfl⟩
  clear B4 Rx_4 cx_4_0 cx_4_1 cx_4_2 cx_4_3 cx_4_4 cx_4_5 cx_4_6 cx_4_7 cx_4_8 Rz_4 cz_4_0 cz_4_1
  go_wp2_with fail
  apply cut7
  · intro key0
    have key := box key0
    clear key0
    go_region_held3 (fun W => Below w.heap.size w W ∧ W.heap[w.heap.size]? = some (Obj.cells (rg neg t x false) 64) ∧ W.heap[w.heap.size + 1]? = some (Obj.cells #[.int .u64 0, .int .u64 0] 25) ∧ W.cell? ⟨w.heap.size, 0, none⟩ = some (.bool neg) ∧ W.cell? ⟨w.heap.size, 1, none⟩ = some (.int .u64 ((wd t 0 : Nat) : Int)) ∧ W.cell? ⟨w.heap.size, 2, none⟩ = some (.int .u64 ((wd t 1 : Nat) : Int)) ∧ W.cell? ⟨w.heap.size, 3, none⟩ = some (.int .u64 ((wd t 2 : Nat) : Int)) ∧ W.cell? ⟨w.heap.size, 4, none⟩ = some (.int .u64 ((wd t 3 : Nat) : Int)) ∧ W.cell? ⟨w.heap.size, 5, none⟩ = some (.int .u64 ((wd t 4 : Nat) : Int)) ∧ W.cell? ⟨w.heap.size, 6, none⟩ = some (.int .u64 ((wd t 5 : Nat) : Int)) ∧ W.cell? ⟨w.heap.size, 7, none⟩ = some (.int .i64 x) ∧ W.cell? ⟨w.heap.size, 8, none⟩ = some (.bool false) ∧ W.cell? ⟨w.heap.size + 1, 0, none⟩ = some (.int .u64 0) ∧ W.cell? ⟨w.heap.size + 1, 1, none⟩ = some (.int .u64 0)) (first | exact s1 | exact s0 | exact sS.out _ _ s1 (bal _ _) | exact sS.out _ _ s0 (bal _ _) | exact sT.out _ _ _ s1 hl)
      (first | (go_at_call 84; (first | refine (K1.out _).mono ?_ | refine (K1.out _).mono ?_); rintro r wq ⟨rfl, bq⟩; (first | (have hg := heap_of bq _ _ _ (heap_alloc_last _ _); have hl := (by first | exact sL.out _ s1 | exact sL.out _ s0)) | have hg := heap_of bq _ _ _ hg | skip); (try simp only [size_dr, size_al] at hg hl); (first | have hst := st_r _ _ neg K st false false 0 0 false hg | skip); have s2 := (by first | exact sS.out _ _ s1 bq | exact sS.out _ _ s0 bq | exact sS.out _ _ (sS.out _ _ s1 (bal _ _)) bq | exact sS.out _ _ (sS.out _ _ s0 (bal _ _)) bq); (try clear s1); have s1 := s2; clear s2 bq) | (go_at_call 85; (first | refine (KI.out _ (by first | exact fatB FF.out (And.left s1) | exact fat_al (fatB FF.out (And.left s1)) _)).mono ?_ | refine (KI.out _ (by first | exact fatB FF.out (And.left s0) | exact fat_al (fatB FF.out (And.left s0)) _)).mono ?_); rintro r wq ⟨rfl, bq⟩; (first | (have hg := heap_of bq _ _ _ (heap_alloc_last _ _); have hl := (by first | exact sL.out _ s1 | exact sL.out _ s0)) | have hg := heap_of bq _ _ _ hg | skip); (try simp only [size_dr, size_al] at hg hl); (first | have hst := st_r _ _ neg K st false false 0 0 false hg | skip); have s2 := (by first | exact sS.out _ _ s1 bq | exact sS.out _ _ s0 bq | exact sS.out _ _ (sS.out _ _ s1 (bal _ _)) bq | exact sS.out _ _ (sS.out _ _ s0 (bal _ _)) bq); (try clear s1); have s1 := s2; clear s2 bq) | (go_at_call 83; (first | refine (KS.out _ (by first | exact fatB FF.out (And.left s1) | exact fat_al (fatB FF.out (And.left s1)) _)).mono ?_ | refine (KS.out _ (by first | exact fatB FF.out (And.left s0) | exact fat_al (fatB FF.out (And.left s0)) _)).mono ?_); rintro r wq ⟨rfl, bq⟩; (first | (have hg := heap_of bq _ _ _ (heap_alloc_last _ _); have hl := (by first | exact sL.out _ s1 | exact sL.out _ s0)) | have hg := heap_of bq _ _ _ hg | skip); (try simp only [size_dr, size_al] at hg hl); (first | have hst := st_r _ _ neg K st false false 0 0 false hg | skip); have s2 := (by first | exact sS.out _ _ s1 bq | exact sS.out _ _ s0 bq | exact sS.out _ _ (sS.out _ _ s1 (bal _ _)) bq | exact sS.out _ _ (sS.out _ _ s0 (bal _ _)) bq); (try clear s1); have s1 := s2; clear s2 bq) | (go_at_call 82; (first | refine (KG.out _).mono ?_ | refine (KG.out _).mono ?_); rintro r wq ⟨rfl, bq⟩; (first | (have hg := heap_of bq _ _ _ (heap_alloc_last _ _); have hl := (by first | exact sL.out _ s1 | exact sL.out _ s0)) | have hg := heap_of bq _ _ _ hg | skip); (try simp only [size_dr, size_al] at hg hl); (first | have hst := st_r _ _ neg K st false false 0 0 false hg | skip); have s2 := (by first | exact sS.out _ _ s1 bq | exact sS.out _ _ s0 bq | exact sS.out _ _ (sS.out _ _ s1 (bal _ _)) bq | exact sS.out _ _ (sS.out _ _ s0 (bal _ _)) bq); (try clear s1); have s1 := s2; clear s2 bq) | fail)
    all_goals
      refine gen_round_Pack_9 (R := fun W gN => (Below w.heap.size w W ∧ W.heap[w.heap.size]? = some (Obj.cells (rg neg t x false) 64) ∧ W.heap[w.heap.size + 1]? = some (Obj.cells #[.int .u64 0, .int .u64 0] 25) ∧ W.cell? ⟨w.heap.size, 0, none⟩ = some (.bool neg) ∧ W.cell? ⟨w.heap.size, 1, none⟩ = some (.int .u64 ((wd t 0 : Nat) : Int)) ∧ W.cell? ⟨w.heap.size, 2, none⟩ = some (.int .u64 ((wd t 1 : Nat) : Int)) ∧ W.cell? ⟨w.heap.size, 3, none⟩ = some (.int .u64 ((wd t 2 : Nat) : Int)) ∧ W.cell? ⟨w.heap.size, 4, none⟩ = some (.int .u64 ((wd t 3 : Nat) : Int)) ∧ W.cell? ⟨w.heap.size, 5, none⟩ = some (.int .u64 ((wd t 4 : Nat) : Int)) ∧ W.cell? ⟨w.heap.size, 6, none⟩ = some (.int .u64 ((wd t 5 : Nat) : Int)) ∧ W.cell? ⟨w.heap.size, 7, none⟩ = some (.int .i64 x) ∧ W.cell? ⟨w.heap.size, 8, none⟩ = some (.bool false) ∧ W.cell? ⟨w.heap.size + 1, 0, none⟩ = some (.int .u64 0) ∧ W.cell? ⟨w.heap.size + 1, 1, none⟩ = some (.int .u64 0)) ∧ W.heap[gN]? = some (Obj.cells (rg neg K st false) 64) ∧ (w.heap.size < gN ∧ w.heap.size + 1 < gN)) key.out ?_
      first
        | exact ⟨(sT.out _ _ _ s1 hl), setRow_row hg, hl⟩
        | exact ⟨sS.out _ _ s1 (bal _ _), heap_alloc_last _ _, sL.out _ s1⟩
        | exact ⟨sS.out _ _ s0 (bal _ _), heap_alloc_last _ _, sL.out _ s0⟩
  rintro w5 g5 ⟨s1, Rr_5, l5⟩
  have B5 := And.left s1
  have Rx_5 := s1.2.1
  have Rz_5 := s1.2.2.1
  have H5 := box l5
  clear s0 s1 sS sL sT l5
  obtain ⟨cx_5_0, cx_5_1, cx_5_2, cx_5_3, cx_5_4, cx_5_5, cx_5_6, cx_5_7, cx_5_8⟩ := rg_cells Rx_5
  obtain ⟨cz_5_0, cz_5_1⟩ := cells2s Rz_5
  obtain ⟨cr_5_0, cr_5_1, cr_5_2, cr_5_3, cr_5_4, cr_5_5, cr_5_6, cr_5_7, cr_5_8⟩ := rg_cells Rr_5
  go_wp2_with fail
  refine (KT.out _).mono ?_
  rintro r w6 ⟨rfl, b6⟩
  have B6 : Below w.heap.size w w6 := btr B5 b6
  have Rx_6 := heap_of b6 _ _ _ Rx_5
  have Rz_6 := heap_of b6 _ _ _ Rz_5
  have Rr_6 := heap_of b6 _ _ _ Rr_5
  clear b6 B5 Rx_5 cx_5_0 cx_5_1 cx_5_2 cx_5_3 cx_5_4 cx_5_5 cx_5_6 cx_5_7 cx_5_8 Rz_5 cz_5_0 cz_5_1 Rr_5 cr_5_0 cr_5_1 cr_5_2 cr_5_3 cr_5_4 cr_5_5 cr_5_6 cr_5_7 cr_5_8
  obtain ⟨cx_6_0, cx_6_1, cx_6_2, cx_6_3, cx_6_4, cx_6_5, cx_6_6, cx_6_7, cx_6_8⟩ := rg_cells Rx_6
  obtain ⟨cz_6_0, cz_6_1⟩ := cells2s Rz_6
  obtain ⟨cr_6_0, cr_6_1, cr_6_2, cr_6_3, cr_6_4, cr_6_5, cr_6_6, cr_6_7, cr_6_8⟩ := rg_cells Rr_6
  go_wp2_with fail
  refine (KE.out _ (fatB FF.out B6)).mono ?_
  rintro r w7 ⟨rfl, b7⟩
  have B7 : Below w.heap.size w w7 := btr B6 b7
  have Rx_7 := heap_of b7 _ _ _ Rx_6
  have Rz_7 := heap_of b7 _ _ _ Rz_6
  have Rr_7 := heap_of b7 _ _ _ Rr_6
  clear b7 B6 Rx_6 cx_6_0 cx_6_1 cx_6_2 cx_6_3 cx_6_4 cx_6_5 cx_6_6 cx_6_7 cx_6_8 Rz_6 cz_6_0 cz_6_1 Rr_6 cr_6_0 cr_6_1 cr_6_2 cr_6_3 cr_6_4 cr_6_5 cr_6_6 cr_6_7 cr_6_8
  obtain ⟨cx_7_0, cx_7_1, cx_7_2, cx_7_3, cx_7_4, cx_7_5, cx_7_6, cx_7_7, cx_7_8⟩ := rg_cells Rx_7
  obtain ⟨cz_7_0, cz_7_1⟩ := cells2s Rz_7
  obtain ⟨cr_7_0, cr_7_1, cr_7_2, cr_7_3, cr_7_4, cr_7_5, cr_7_6, cr_7_7, cr_7_8⟩ := rg_cells Rr_7
  cases ov
  · have K5 := box (KD.out rfl)
    clear KO KD
    cases ex
    · skip
      cases o
      · obtain rfl : (1 : Int) = fl := HFL.out
        go_wp2_with fail
        refine (KN.out _ (fatB FF.out B7)).mono ?_
        rintro r w8 ⟨rfl, b8⟩
        have B8 : Below w.heap.size w w8 := btr B7 b8
        have Rx_8 := heap_of b8 _ _ _ Rx_7
        have Rz_8 := heap_of b8 _ _ _ Rz_7
        have Rr_8 := heap_of b8 _ _ _ Rr_7
        clear b8 B7 Rx_7 cx_7_0 cx_7_1 cx_7_2 cx_7_3 cx_7_4 cx_7_5 cx_7_6 cx_7_7 cx_7_8 Rz_7 cz_7_0 cz_7_1 Rr_7 cr_7_0 cr_7_1 cr_7_2 cr_7_3 cr_7_4 cr_7_5 cr_7_6 cr_7_7 cr_7_8
        obtain ⟨cx_8_0, cx_8_1, cx_8_2, cx_8_3, cx_8_4, cx_8_5, cx_8_6, cx_8_7, cx_8_8⟩ := rg_cells Rx_8
        obtain ⟨cz_8_0, cz_8_1⟩ := cells2s Rz_8
        obtain ⟨cr_8_0, cr_8_1, cr_8_2, cr_8_3, cr_8_4, cr_8_5, cr_8_6, cr_8_7, cr_8_8⟩ := rg_cells Rr_8
        go_wp2_with fail
        refine (K5.out _ (fatB FF.out B8)).mono ?_
        rintro r w9 ⟨rfl, b9⟩
        have B9 : Below w.heap.size w w9 := btr B8 b9
        have Rx_9 := heap_of b9 _ _ _ Rx_8
        have Rz_9 := heap_of b9 _ _ _ Rz_8
        have Rr_9 := heap_of b9 _ _ _ Rr_8
        clear b9 B8 Rx_8 cx_8_0 cx_8_1 cx_8_2 cx_8_3 cx_8_4 cx_8_5 cx_8_6 cx_8_7 cx_8_8 Rz_8 cz_8_0 cz_8_1 Rr_8 cr_8_0 cr_8_1 cr_8_2 cr_8_3 cr_8_4 cr_8_5 cr_8_6 cr_8_7 cr_8_8
        obtain ⟨cx_9_0, cx_9_1, cx_9_2, cx_9_3, cx_9_4, cx_9_5, cx_9_6, cx_9_7, cx_9_8⟩ := rg_cells Rx_9
        obtain ⟨cz_9_0, cz_9_1⟩ := cells2s Rz_9
        obtain ⟨cr_9_0, cr_9_1, cr_9_2, cr_9_3, cr_9_4, cr_9_5, cr_9_6, cr_9_7, cr_9_8⟩ := rg_cells Rr_9
        have q0 := fz (k := 0) Rz_9
        have q1 := fz (k := 1) Rz_9
        obtain ⟨E0, E1⟩ := set2_cells Rz_9 (.int .u64 (u : Nat)) (.int .u64 (v : Nat))
        go_wp2
        exact bodyPost_ret (v := .tuple #[.agg #[.int .u64 (u : Nat), .int .u64 (v : Nat)], .int .u8 1, .int .i64 0]) (by simp [results, Tryz.results30, go_sem, E0, E1]) rfl ⟨rfl, set2_below B9 (by first | exact Nat.le_refl _ | omega | (have := H5.out; omega)) _ _⟩
      · obtain rfl : (3 : Int) = fl := HFL.out
        go_wp2_with fail
        refine (KN.out _ (fatB FF.out B7)).mono ?_
        rintro r w8 ⟨rfl, b8⟩
        have B8 : Below w.heap.size w w8 := btr B7 b8
        have Rx_8 := heap_of b8 _ _ _ Rx_7
        have Rz_8 := heap_of b8 _ _ _ Rz_7
        have Rr_8 := heap_of b8 _ _ _ Rr_7
        clear b8 B7 Rx_7 cx_7_0 cx_7_1 cx_7_2 cx_7_3 cx_7_4 cx_7_5 cx_7_6 cx_7_7 cx_7_8 Rz_7 cz_7_0 cz_7_1 Rr_7 cr_7_0 cr_7_1 cr_7_2 cr_7_3 cr_7_4 cr_7_5 cr_7_6 cr_7_7 cr_7_8
        obtain ⟨cx_8_0, cx_8_1, cx_8_2, cx_8_3, cx_8_4, cx_8_5, cx_8_6, cx_8_7, cx_8_8⟩ := rg_cells Rx_8
        obtain ⟨cz_8_0, cz_8_1⟩ := cells2s Rz_8
        obtain ⟨cr_8_0, cr_8_1, cr_8_2, cr_8_3, cr_8_4, cr_8_5, cr_8_6, cr_8_7, cr_8_8⟩ := rg_cells Rr_8
        go_wp2_with fail
        refine (K5.out _ (fatB FF.out B8)).mono ?_
        rintro r w9 ⟨rfl, b9⟩
        have B9 : Below w.heap.size w w9 := btr B8 b9
        have Rx_9 := heap_of b9 _ _ _ Rx_8
        have Rz_9 := heap_of b9 _ _ _ Rz_8
        have Rr_9 := heap_of b9 _ _ _ Rr_8
        clear b9 B8 Rx_8 cx_8_0 cx_8_1 cx_8_2 cx_8_3 cx_8_4 cx_8_5 cx_8_6 cx_8_7 cx_8_8 Rz_8 cz_8_0 cz_8_1 Rr_8 cr_8_0 cr_8_1 cr_8_2 cr_8_3 cr_8_4 cr_8_5 cr_8_6 cr_8_7 cr_8_8
        obtain ⟨cx_9_0, cx_9_1, cx_9_2, cx_9_3, cx_9_4, cx_9_5, cx_9_6, cx_9_7, cx_9_8⟩ := rg_cells Rx_9
        obtain ⟨cz_9_0, cz_9_1⟩ := cells2s Rz_9
        obtain ⟨cr_9_0, cr_9_1, cr_9_2, cr_9_3, cr_9_4, cr_9_5, cr_9_6, cr_9_7, cr_9_8⟩ := rg_cells Rr_9
        have q0 := fz (k := 0) Rz_9
        have q1 := fz (k := 1) Rz_9
        obtain ⟨E0, E1⟩ := set2_cells Rz_9 (.int .u64 (u : Nat)) (.int .u64 (v : Nat))
        go_wp2
        exact bodyPost_ret (v := .tuple #[.agg #[.int .u64 (u : Nat), .int .u64 (v : Nat)], .int .u8 3, .int .i64 0]) (by simp [results, Tryz.results30, go_sem, E0, E1]) rfl ⟨rfl, set2_below B9 (by first | exact Nat.le_refl _ | omega | (have := H5.out; omega)) _ _⟩
    · obtain rfl : (0 : Int) = fl := HFL.out
      go_wp2_with fail
      refine (K5.out _ (fatB FF.out B7)).mono ?_
      rintro r w8 ⟨rfl, b8⟩
      have B8 : Below w.heap.size w w8 := btr B7 b8
      have Rx_8 := heap_of b8 _ _ _ Rx_7
      have Rz_8 := heap_of b8 _ _ _ Rz_7
      have Rr_8 := heap_of b8 _ _ _ Rr_7
      clear b8 B7 Rx_7 cx_7_0 cx_7_1 cx_7_2 cx_7_3 cx_7_4 cx_7_5 cx_7_6 cx_7_7 cx_7_8 Rz_7 cz_7_0 cz_7_1 Rr_7 cr_7_0 cr_7_1 cr_7_2 cr_7_3 cr_7_4 cr_7_5 cr_7_6 cr_7_7 cr_7_8
      obtain ⟨cx_8_0, cx_8_1, cx_8_2, cx_8_3, cx_8_4, cx_8_5, cx_8_6, cx_8_7, cx_8_8⟩ := rg_cells Rx_8
      obtain ⟨cz_8_0, cz_8_1⟩ := cells2s Rz_8
      obtain ⟨cr_8_0, cr_8_1, cr_8_2, cr_8_3, cr_8_4, cr_8_5, cr_8_6, cr_8_7, cr_8_8⟩ := rg_cells Rr_8
      have q0 := fz (k := 0) Rz_8
      have q1 := fz (k := 1) Rz_8
      obtain ⟨E0, E1⟩ := set2_cells Rz_8 (.int .u64 (u : Nat)) (.int .u64 (v : Nat))
      go_wp2
      exact bodyPost_ret (v := .tuple #[.agg #[.int .u64 (u : Nat), .int .u64 (v : Nat)], .int .u8 0, .int .i64 0]) (by simp [results, Tryz.results30, go_sem, E0, E1]) rfl ⟨rfl, set2_below B8 (by first | exact Nat.le_refl _ | omega | (have := H5.out; omega)) _ _⟩
  · have K5 := box (KO.out rfl)
    clear KO KD
    obtain rfl : (5 : Int) = fl := HFL.out
    go_wp2_with fail
    refine (K5.out _ (fatB FF.out B7)).mono ?_
    rintro r w8 ⟨rfl, b8⟩
    have B8 : Below w.heap.size w w8 := btr B7 b8
    have Rx_8 := heap_of b8 _ _ _ Rx_7
    have Rz_8 := heap_of b8 _ _ _ Rz_7
    have Rr_8 := heap_of b8 _ _ _ Rr_7
    clear b8 B7 Rx_7 cx_7_0 cx_7_1 cx_7_2 cx_7_3 cx_7_4 cx_7_5 cx_7_6 cx_7_7 cx_7_8 Rz_7 cz_7_0 cz_7_1 Rr_7 cr_7_0 cr_7_1 cr_7_2 cr_7_3 cr_7_4 cr_7_5 cr_7_6 cr_7_7 cr_7_8
    obtain ⟨cx_8_0, cx_8_1, cx_8_2, cx_8_3, cx_8_4, cx_8_5, cx_8_6, cx_8_7, cx_8_8⟩ := rg_cells Rx_8
    obtain ⟨cz_8_0, cz_8_1⟩ := cells2s Rz_8
    obtain ⟨cr_8_0, cr_8_1, cr_8_2, cr_8_3, cr_8_4, cr_8_5, cr_8_6, cr_8_7, cr_8_8⟩ := rg_cells Rr_8
    have q0 := fz (k := 0) Rz_8
    have q1 := fz (k := 1) Rz_8
    obtain ⟨E0, E1⟩ := set2_cells Rz_8 (.int .u64 (u : Nat)) (.int .u64 (v : Nat))
    go_wp2
    exact bodyPost_ret (v := .tuple #[.agg #[.int .u64 (u : Nat), .int .u64 (v : Nat)], .int .u8 5, .int .i64 0]) (by simp [results, Tryz.results30, go_sem, E0, E1]) rfl ⟨rfl, set2_below B8 (by first | exact Nat.le_refl _ | omega | (have := H5.out; omega)) _ _⟩
set_option maxRecDepth 100000 in
set_option maxHeartbeats 4000000 in
theorem ro_pack_zero (f m : Int) (neg : Bool) (x : Int) (more : Bool) (u v : Nat) (w : World)
    (KC : Box (∀ w, Calls Tryz.prog 79 #[.int .u8 f, .int .u8 m] w fun r w' => r = .returned (.int .i64 0) ∧ Below w.heap.size w w'))
    (KM : Box (∀ w, FAt w → Calls Tryz.prog 80 #[.int .u8 f, .agg (rg neg 0 x more)] w fun r w' => r = .returned (.bool true) ∧ Below w.heap.size w w'))
    (KZ : Box (∀ w, FAt w → Calls Tryz.prog 71 #[.int .u8 f, .bool neg] w fun r w' => r = .returned (.agg #[.int .u64 (u : Nat), .int .u64 (v : Nat)]) ∧ Below w.heap.size w w'))
    (hT : FAt w) : Calls Tryz.prog 30 #[.int .u8 f, .int .u8 m, .agg (rg neg 0 x more)] w fun r w' => r = .returned (.tuple #[.agg #[.int .u64 (u : Nat), .int .u64 (v : Nat)], .int .u8 0, .int .i64 0]) ∧ Below w.heap.size w w' := by
  have FF := box hT
  clear hT
  have hat := cw_at 6
  have hz := cw6z
  have hff := cw6f
  have hs0 := st0
  have hcs : ∀ x, ((cw 6 x).size = 6) = True := fun x => eq_true (cw_size 6 x)
  have heq := eq6
  have hQ0 := Q_pos
  have hg := eqg6
  have hp1 := rgf
  have hp3 := rgz
  have hp5 : ∀ (c : Bool) (s : Nat) (x : Int) (r : Bool), ((rg c s x r).size = 9) = True := fun _ _ _ _ => eq_true rfl
  obtain ⟨Rx_0, Rz_0, B0⟩ := opn2 w (Obj.cells (rg neg 0 x more) 64) (Obj.cells #[.int .u64 0, .int .u64 0] 25)
  go_enter Tryz.func30, Tryz.ntmps30
  obtain ⟨cx_0_0, cx_0_1, cx_0_2, cx_0_3, cx_0_4, cx_0_5, cx_0_6, cx_0_7, cx_0_8⟩ := rg_cells Rx_0
  obtain ⟨cz_0_0, cz_0_1⟩ := cells2s Rz_0
  go_wp2_with fail
  refine (KC.out _).mono ?_
  rintro r w1 ⟨rfl, b1⟩
  have B1 : Below w.heap.size w w1 := btr B0 b1
  have Rx_1 := heap_of b1 _ _ _ Rx_0
  have Rz_1 := heap_of b1 _ _ _ Rz_0
  clear b1 B0 Rx_0 cx_0_0 cx_0_1 cx_0_2 cx_0_3 cx_0_4 cx_0_5 cx_0_6 cx_0_7 cx_0_8 Rz_0 cz_0_0 cz_0_1
  obtain ⟨cx_1_0, cx_1_1, cx_1_2, cx_1_3, cx_1_4, cx_1_5, cx_1_6, cx_1_7, cx_1_8⟩ := rg_cells Rx_1
  obtain ⟨cz_1_0, cz_1_1⟩ := cells2s Rz_1
  go_wp2_with fail
  refine (KM.out _ (fatB FF.out B1)).mono ?_
  rintro r w2 ⟨rfl, b2⟩
  have B2 : Below w.heap.size w w2 := btr B1 b2
  have Rx_2 := heap_of b2 _ _ _ Rx_1
  have Rz_2 := heap_of b2 _ _ _ Rz_1
  clear b2 B1 Rx_1 cx_1_0 cx_1_1 cx_1_2 cx_1_3 cx_1_4 cx_1_5 cx_1_6 cx_1_7 cx_1_8 Rz_1 cz_1_0 cz_1_1
  obtain ⟨cx_2_0, cx_2_1, cx_2_2, cx_2_3, cx_2_4, cx_2_5, cx_2_6, cx_2_7, cx_2_8⟩ := rg_cells Rx_2
  obtain ⟨cz_2_0, cz_2_1⟩ := cells2s Rz_2
  go_wp2_with fail
  refine (KZ.out _ (fatB FF.out B2)).mono ?_
  rintro r w3 ⟨rfl, b3⟩
  have B3 : Below w.heap.size w w3 := btr B2 b3
  have Rx_3 := heap_of b3 _ _ _ Rx_2
  have Rz_3 := heap_of b3 _ _ _ Rz_2
  clear b3 B2 Rx_2 cx_2_0 cx_2_1 cx_2_2 cx_2_3 cx_2_4 cx_2_5 cx_2_6 cx_2_7 cx_2_8 Rz_2 cz_2_0 cz_2_1
  obtain ⟨cx_3_0, cx_3_1, cx_3_2, cx_3_3, cx_3_4, cx_3_5, cx_3_6, cx_3_7, cx_3_8⟩ := rg_cells Rx_3
  obtain ⟨cz_3_0, cz_3_1⟩ := cells2s Rz_3
  have q0 := fz (k := 0) Rz_3
  have q1 := fz (k := 1) Rz_3
  obtain ⟨E0, E1⟩ := set2_cells Rz_3 (.int .u64 (u : Nat)) (.int .u64 (v : Nat))
  go_wp2
  exact bodyPost_ret (v := .tuple #[.agg #[.int .u64 (u : Nat), .int .u64 (v : Nat)], .int .u8 0, .int .i64 0]) (by simp [results, Tryz.results30, go_sem, E0, E1]) rfl ⟨rfl, set2_below B3 (by first | exact Nat.le_refl _ | omega | (skip; omega)) _ _⟩
set_option maxRecDepth 100000 in
set_option maxHeartbeats 4000000 in
theorem ro_pack_a (f m : Int) (neg : Bool) (s : Nat) (x : Int) (more : Bool) (c : Int) (hc : (c != 0) = true) (w : World)
    (KC : Box (∀ w, Calls Tryz.prog 79 #[.int .u8 f, .int .u8 m] w fun r w' => r = .returned (.int .i64 c) ∧ Below w.heap.size w w')) : Calls Tryz.prog 30 #[.int .u8 f, .int .u8 m, .agg (rg neg s x more)] w fun r w' => r = .returned (.tuple #[.agg #[.int .u64 0, .int .u64 0], .int .u8 0, .int .i64 2]) ∧ Below w.heap.size w w' := by
  have hat := cw_at 6
  have hz := cw6z
  have hff := cw6f
  have hs0 := st0
  have hcs : ∀ x, ((cw 6 x).size = 6) = True := fun x => eq_true (cw_size 6 x)
  have hp1 := rgf
  have hp5 : ∀ (c : Bool) (s : Nat) (x : Int) (r : Bool), ((rg c s x r).size = 9) = True := fun _ _ _ _ => eq_true rfl
  obtain ⟨Rx_0, Rz_0, B0⟩ := opn2 w (Obj.cells (rg neg s x more) 64) (Obj.cells #[.int .u64 0, .int .u64 0] 25)
  go_enter Tryz.func30, Tryz.ntmps30
  obtain ⟨cx_0_0, cx_0_1, cx_0_2, cx_0_3, cx_0_4, cx_0_5, cx_0_6, cx_0_7, cx_0_8⟩ := rg_cells Rx_0
  obtain ⟨cz_0_0, cz_0_1⟩ := cells2s Rz_0
  go_wp2_with fail
  refine (KC.out _).mono ?_
  rintro r w1 ⟨rfl, b1⟩
  have B1 : Below w.heap.size w w1 := btr B0 b1
  have Rx_1 := heap_of b1 _ _ _ Rx_0
  have Rz_1 := heap_of b1 _ _ _ Rz_0
  clear b1 B0 Rx_0 cx_0_0 cx_0_1 cx_0_2 cx_0_3 cx_0_4 cx_0_5 cx_0_6 cx_0_7 cx_0_8 Rz_0 cz_0_0 cz_0_1
  obtain ⟨cx_1_0, cx_1_1, cx_1_2, cx_1_3, cx_1_4, cx_1_5, cx_1_6, cx_1_7, cx_1_8⟩ := rg_cells Rx_1
  obtain ⟨cz_1_0, cz_1_1⟩ := cells2s Rz_1
  have q0 := fz (k := 0) Rz_1
  have q1 := fz (k := 1) Rz_1
  obtain ⟨E0, E1⟩ := set2_cells Rz_1 (.int .u64 0) (.int .u64 0)
  go_wp2
  exact bodyPost_ret (v := .tuple #[.agg #[.int .u64 0, .int .u64 0], .int .u8 0, .int .i64 2]) (by simp [results, Tryz.results30, go_sem, E0, E1]) rfl ⟨rfl, set2_below B1 (by first | exact Nat.le_refl _ | omega | (skip; omega)) _ _⟩
set_option maxRecDepth 100000 in
set_option maxHeartbeats 4000000 in
theorem ro_pack_b (f m : Int) (neg : Bool) (s : Nat) (x : Int) (more : Bool) (w : World)
    (KC : Box (∀ w, Calls Tryz.prog 79 #[.int .u8 f, .int .u8 m] w fun r w' => r = .returned (.int .i64 0) ∧ Below w.heap.size w w'))
    (KM : Box (∀ w, FAt w → Calls Tryz.prog 80 #[.int .u8 f, .agg (rg neg s x more)] w fun r w' => r = .returned (.bool false) ∧ Below w.heap.size w w')) (hT : FAt w) : Calls Tryz.prog 30 #[.int .u8 f, .int .u8 m, .agg (rg neg s x more)] w fun r w' => r = .returned (.tuple #[.agg #[.int .u64 0, .int .u64 0], .int .u8 0, .int .i64 2]) ∧ Below w.heap.size w w' := by
  have FF := box hT
  clear hT
  have hat := cw_at 6
  have hz := cw6z
  have hff := cw6f
  have hs0 := st0
  have hcs : ∀ x, ((cw 6 x).size = 6) = True := fun x => eq_true (cw_size 6 x)
  have hp1 := rgf
  have hp5 : ∀ (c : Bool) (s : Nat) (x : Int) (r : Bool), ((rg c s x r).size = 9) = True := fun _ _ _ _ => eq_true rfl
  obtain ⟨Rx_0, Rz_0, B0⟩ := opn2 w (Obj.cells (rg neg s x more) 64) (Obj.cells #[.int .u64 0, .int .u64 0] 25)
  go_enter Tryz.func30, Tryz.ntmps30
  obtain ⟨cx_0_0, cx_0_1, cx_0_2, cx_0_3, cx_0_4, cx_0_5, cx_0_6, cx_0_7, cx_0_8⟩ := rg_cells Rx_0
  obtain ⟨cz_0_0, cz_0_1⟩ := cells2s Rz_0
  go_wp2_with fail
  refine (KC.out _).mono ?_
  rintro r w1 ⟨rfl, b1⟩
  have B1 : Below w.heap.size w w1 := btr B0 b1
  have Rx_1 := heap_of b1 _ _ _ Rx_0
  have Rz_1 := heap_of b1 _ _ _ Rz_0
  clear b1 B0 Rx_0 cx_0_0 cx_0_1 cx_0_2 cx_0_3 cx_0_4 cx_0_5 cx_0_6 cx_0_7 cx_0_8 Rz_0 cz_0_0 cz_0_1
  obtain ⟨cx_1_0, cx_1_1, cx_1_2, cx_1_3, cx_1_4, cx_1_5, cx_1_6, cx_1_7, cx_1_8⟩ := rg_cells Rx_1
  obtain ⟨cz_1_0, cz_1_1⟩ := cells2s Rz_1
  go_wp2_with fail
  refine (KM.out _ (fatB FF.out B1)).mono ?_
  rintro r w2 ⟨rfl, b2⟩
  have B2 : Below w.heap.size w w2 := btr B1 b2
  have Rx_2 := heap_of b2 _ _ _ Rx_1
  have Rz_2 := heap_of b2 _ _ _ Rz_1
  clear b2 B1 Rx_1 cx_1_0 cx_1_1 cx_1_2 cx_1_3 cx_1_4 cx_1_5 cx_1_6 cx_1_7 cx_1_8 Rz_1 cz_1_0 cz_1_1
  obtain ⟨cx_2_0, cx_2_1, cx_2_2, cx_2_3, cx_2_4, cx_2_5, cx_2_6, cx_2_7, cx_2_8⟩ := rg_cells Rx_2
  obtain ⟨cz_2_0, cz_2_1⟩ := cells2s Rz_2
  have q0 := fz (k := 0) Rz_2
  have q1 := fz (k := 1) Rz_2
  obtain ⟨E0, E1⟩ := set2_cells Rz_2 (.int .u64 0) (.int .u64 0)
  go_wp2
  exact bodyPost_ret (v := .tuple #[.agg #[.int .u64 0, .int .u64 0], .int .u8 0, .int .i64 2]) (by simp [results, Tryz.results30, go_sem, E0, E1]) rfl ⟨rfl, set2_below B2 (by first | exact Nat.le_refl _ | omega | (skip; omega)) _ _⟩
end Go.Proofs.YtfmmeifipbpbmaaGreatDoor
