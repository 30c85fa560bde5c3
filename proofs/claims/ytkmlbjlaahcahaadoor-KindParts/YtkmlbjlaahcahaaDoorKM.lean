/-
  The document's Pack: numbers; what it refuses.
-/
import Derived.Test.YtkmlbjlaahcahaaDoorKL
namespace Go.Proofs.YtkmlbjlaahcahaaDoor
open Go.RowKit WMath
set_option linter.unusedSimpArgs false
set_option linter.unusedVariables false
theorem gen_abacusref08_Pack_9 {X : Act → World → Prop} {R : World → Nat → Prop} {t0 t1 t2 t3 t4 t5 t6 t7 t8 t10 t11 t12 t13 t14 t15 t16 t17 t18 t19 t20 t21 t22 t23 t24 t25 t26 t27 t28 t29 t30 t31 t32 t33 t34 t35 t36 t37 t38 t39 t40 t41 t42 t43 t44 t45 t46 t47 t48 t49 t50 t51 t52 t53 t54 t55 t56 t57 t58 t59 t60 t61 t62 t63 t64 t65 t66 t67 t68 t69 t70 t71 t72 t73 t74 t75 t76 t77 t78 t79 t80 t81 t82 t83 t84 t85 t86 t87 t88 t89 t90 t91 t92 t93 t94 t95 t96 t97 t98 t99 t100 t101 t102 t103 t104 t105 t106 t107 t108 t109 t110 t111 t112 t113 t114 t115 t116 t117 : Value} {d : List Deferred} {W : World} {G : Nat}
    (key : ∀ w5 g, R w5 g → X ⟨#[t0, t1, t2, t3, t4, t5, t6, t7, t8, .pointer (some ⟨g, 0, none⟩), t10, t11, t12, t13, t14, t15, t16, t17, t18, t19, t20, t21, t22, t23, t24, t25, t26, t27, t28, t29, t30, t31, t32, t33, t34, t35, t36, t37, t38, t39, t40, t41, t42, t43, t44, t45, t46, t47, t48, t49, t50, t51, t52, t53, t54, t55, t56, t57, t58, t59, t60, t61, t62, t63, t64, t65, t66, t67, t68, t69, t70, t71, t72, t73, t74, t75, t76, t77, t78, t79, t80, t81, t82, t83, t84, t85, t86, t87, t88, t89, t90, t91, t92, t93, t94, t95, t96, t97, t98, t99, t100, t101, t102, t103, t104, t105, t106, t107, t108, t109, t110, t111, t112, t113, t114, t115, t116, t117], d⟩ w5) (r : R W G) : X ⟨#[t0, t1, t2, t3, t4, t5, t6, t7, t8, .pointer (some ⟨G, 0, none⟩), t10, t11, t12, t13, t14, t15, t16, t17, t18, t19, t20, t21, t22, t23, t24, t25, t26, t27, t28, t29, t30, t31, t32, t33, t34, t35, t36, t37, t38, t39, t40, t41, t42, t43, t44, t45, t46, t47, t48, t49, t50, t51, t52, t53, t54, t55, t56, t57, t58, t59, t60, t61, t62, t63, t64, t65, t66, t67, t68, t69, t70, t71, t72, t73, t74, t75, t76, t77, t78, t79, t80, t81, t82, t83, t84, t85, t86, t87, t88, t89, t90, t91, t92, t93, t94, t95, t96, t97, t98, t99, t100, t101, t102, t103, t104, t105, t106, t107, t108, t109, t110, t111, t112, t113, t114, t115, t116, t117], d⟩ W := key W G r

set_option maxRecDepth 100000 in
set_option maxHeartbeats 2000000 in
theorem rpack_s2 (f q X Y : Int) (c s rr u v C S R : Nat) (E : Bool) (l : Nat) (k : Int) (w : World)
    (KP : Box (∀ w, Calls Tryd.prog 20 #[.int .u8 f] w fun r w' => r = .returned (.int .i64 q) ∧ w' = w))
    (KU : Box (∀ w, Calls Tryd.prog 8 #[.int .u8 f, .agg #[.int .u64 (u : Nat), .int .u64 (v : Nat)]] w fun r w' => r = .returned (.agg (pt C S Y R)) ∧ Below w.heap.size w w'))
    (ls : S < Q) (lr : R < Q) (hs : s < Q) (hr : rr < Q) (hE : (decide (C = c) && (decide (S = s) && (decide (Y = X) && decide (R = rr)))) = E)
    (KN : Box (∀ w, Calls Tryd.prog 31 #[.agg (cw 6 s)] w fun r w' => r = .returned (.int .i64 (l : Nat)) ∧ Below w.heap.size w w')) (h1 : IntKind.i64.wrap (q - 1) = k)
    (hl : decide (k < (l : Int)) = false)
    (KB : Box (∀ w, Calls Tryd.prog 32 #[.int .u8 f, .bool true, .int .i64 0, .agg (cw 6 s)] w fun r w' => r = .returned (.agg #[.int .u64 (u : Nat), .int .u64 (v : Nat)]) ∧ Below w.heap.size w w'))
    (hc : c = 2) : Calls Tryd.prog 12 #[.int .u8 f, .agg (pt c s X rr)] w fun r w' => r = .returned (.tuple #[.agg #[.int .u64 (if E then (u : Int) else 0), .int .u64 (if E then (v : Int) else 0)], .int .i64 (if E then 0 else 80)]) ∧ Below w.heap.size w w' := by
  have hat := cw_at 6
  have hz := cw6z
  have hff := cw6f
  have hs0 := st0
  have hcs : ∀ x, ((cw 6 x).size = 6) = True := fun x => eq_true (cw_size 6 x)
  have hp1 := ptf
  have hp3 := ptz
  have hp4 := st_p0
  have hp5 : ∀ (c s : Nat) (x : Int) (r : Nat), ((pt c s x r).size = 14) = True := fun _ _ _ _ => eq_true rfl
  have heq := eqp
  have hg := eqgp
  have ha0 := pt_at0
  have ha1 := pt_at1
  have ha2 := pt_at2
  have ha3 := pt_at3
  have ha4 := pt_at4
  have ha5 := pt_at5
  have ha6 := pt_at6
  have ha7 := pt_at7
  have ha8 := pt_at8
  have ha9 := pt_at9
  have ha10 := pt_at10
  have ha11 := pt_at11
  have ha12 := pt_at12
  have ha13 := pt_at13
  have hb0 := pt_q0
  have hb1 := pt_q1
  have hb2 := pt_q2
  have hb3 := pt_q3
  have hb4 := pt_q4
  have hb5 := pt_q5
  have hb6 := pt_q6
  have hb7 := pt_q7
  have hb8 := pt_q8
  have hb9 := pt_q9
  have hb10 := pt_q10
  have hb11 := pt_q11
  have hb12 := pt_q12
  have hb13 := pt_q13
  · have f0 : ((c : Int) == 0) = false := by rw [hc]; rfl
    have f7 : ((c : Int) == 7) = false := by rw [hc]; rfl
    have f3 : ((c : Int) == 3) = false := by rw [hc]; rfl
    have f4 : ((c : Int) == 4) = false := by rw [hc]; rfl
    have f8 : ((c : Int) == 8) = false := by rw [hc]; rfl
    have f9 : ((c : Int) == 9) = false := by rw [hc]; rfl
    have f2 : ((c : Int) == 2) = true := by rw [hc]; rfl
    clear hc
    cases E
    · simp only [Bool.false_eq_true, if_false, if_true]
      obtain ⟨Rp_0, Rz_0, Rb_0, B0⟩ := kopn3 w (Obj.cells (pt c s X rr) 30) (Obj.cells #[.int .u64 0, .int .u64 0] 25) (Obj.cells #[.int .u64 0, .int .u64 0] 25)
      go_enter Tryd.func12, Tryd.ntmps12
      go_wp2_with fail
      refine (KP.out _).mono ?_
      rintro r w' ⟨rfl, hw'⟩
      obtain rfl := hw'.symm
      go_wp2_with fail
      refine (KN.out _).mono ?_
      rintro r w1 ⟨rfl, b1⟩
      have B1 : Below w.heap.size w w1 := btr7 B0 b1
      have Rp_1 := heap_of b1 _ _ _ Rp_0
      have Rz_1 := heap_of b1 _ _ _ Rz_0
      have Rb_1 := heap_of b1 _ _ _ Rb_0
      clear b1 B0 Rp_0 Rz_0 Rb_0
      obtain ⟨cp_1_0, cp_1_1, cp_1_2, cp_1_3, cp_1_4, cp_1_5, cp_1_6, cp_1_7, cp_1_8, cp_1_9, cp_1_10, cp_1_11, cp_1_12, cp_1_13⟩ := pt_cells Rp_1
      obtain ⟨cz_1_0, cz_1_1⟩ := cell7t Rz_1
      obtain ⟨cb_1_0, cb_1_1⟩ := cell7t Rb_1
      go_wp2_with fail
      refine (KB.out _).mono ?_
      rintro r w2 ⟨rfl, b2⟩
      have B2 : Below w.heap.size w w2 := btr7 B1 b2
      have Rp_2 := heap_of b2 _ _ _ Rp_1
      have Rz_2 := heap_of b2 _ _ _ Rz_1
      have Rb_2 := heap_of b2 _ _ _ Rb_1
      clear b2 B1 Rp_1 cp_1_0 cp_1_1 cp_1_2 cp_1_3 cp_1_4 cp_1_5 cp_1_6 cp_1_7 cp_1_8 cp_1_9 cp_1_10 cp_1_11 cp_1_12 cp_1_13 Rz_1 cz_1_0 cz_1_1 Rb_1 cb_1_0 cb_1_1
      obtain ⟨cp_2_0, cp_2_1, cp_2_2, cp_2_3, cp_2_4, cp_2_5, cp_2_6, cp_2_7, cp_2_8, cp_2_9, cp_2_10, cp_2_11, cp_2_12, cp_2_13⟩ := pt_cells Rp_2
      obtain ⟨cz_2_0, cz_2_1⟩ := cell7t Rz_2
      obtain ⟨cb_2_0, cb_2_1⟩ := cell7t Rb_2
      have q0_3 := fz (k := 0) Rb_2
      have q1_3 := fz (k := 1) Rb_2
      have B3 := set2_below B2 (show w.heap.size ≤ w.heap.size + 1 + 1 by first | exact Nat.le_refl _ | omega | (skip; omega)) (.int .u64 (u : Nat)) (.int .u64 (v : Nat))
      have Rb_3 : ((w2.setCell ⟨w.heap.size + 1 + 1, 0, none⟩ (.int .u64 (u : Nat))).setCell ⟨w.heap.size + 1 + 1, 1, none⟩ (.int .u64 (v : Nat))).heap[w.heap.size + 1 + 1]? = some (Obj.cells #[.int .u64 (u : Nat), .int .u64 (v : Nat)] 25) := set2_row Rb_2 _ _
      have Rp_3 : ((w2.setCell ⟨w.heap.size + 1 + 1, 0, none⟩ (.int .u64 (u : Nat))).setCell ⟨w.heap.size + 1 + 1, 1, none⟩ (.int .u64 (v : Nat))).heap[w.heap.size]? = some (Obj.cells (pt c s X rr) 30) := (setCell_other (by first | omega | (skip; omega))).trans ((setCell_other (by first | omega | (skip; omega))).trans Rp_2)
      have Rz_3 : ((w2.setCell ⟨w.heap.size + 1 + 1, 0, none⟩ (.int .u64 (u : Nat))).setCell ⟨w.heap.size + 1 + 1, 1, none⟩ (.int .u64 (v : Nat))).heap[w.heap.size + 1]? = some (Obj.cells #[.int .u64 0, .int .u64 0] 25) := (setCell_other (by first | omega | (skip; omega))).trans ((setCell_other (by first | omega | (skip; omega))).trans Rz_2)
      obtain ⟨cp_3_0, cp_3_1, cp_3_2, cp_3_3, cp_3_4, cp_3_5, cp_3_6, cp_3_7, cp_3_8, cp_3_9, cp_3_10, cp_3_11, cp_3_12, cp_3_13⟩ := pt_cells Rp_3
      obtain ⟨cz_3_0, cz_3_1⟩ := cell7t Rz_3
      obtain ⟨cb_3_0, cb_3_1⟩ := cell7t Rb_3
      go_wp2_with fail
      obtain ⟨F, hF1, hF2⟩ := below_fun ((w2.setCell ⟨w.heap.size + 1 + 1, 0, none⟩ (.int .u64 (u : Nat))).setCell ⟨w.heap.size + 1 + 1, 1, none⟩ (.int .u64 (v : Nat)))
      have fp_0 := fun u => cell7 (heap_of (hF1 u) _ _ _ Rp_3) 0 _ rfl
      have fp_1 := fun u => cell7 (heap_of (hF1 u) _ _ _ Rp_3) 1 _ rfl
      have fp_2 := fun u => cell7 (heap_of (hF1 u) _ _ _ Rp_3) 2 _ rfl
      have fp_3 := fun u => cell7 (heap_of (hF1 u) _ _ _ Rp_3) 3 _ rfl
      have fp_4 := fun u => cell7 (heap_of (hF1 u) _ _ _ Rp_3) 4 _ rfl
      have fp_5 := fun u => cell7 (heap_of (hF1 u) _ _ _ Rp_3) 5 _ rfl
      have fp_6 := fun u => cell7 (heap_of (hF1 u) _ _ _ Rp_3) 6 _ rfl
      have fp_7 := fun u => cell7 (heap_of (hF1 u) _ _ _ Rp_3) 7 _ rfl
      have fp_8 := fun u => cell7 (heap_of (hF1 u) _ _ _ Rp_3) 8 _ rfl
      have fp_9 := fun u => cell7 (heap_of (hF1 u) _ _ _ Rp_3) 9 _ rfl
      have fp_10 := fun u => cell7 (heap_of (hF1 u) _ _ _ Rp_3) 10 _ rfl
      have fp_11 := fun u => cell7 (heap_of (hF1 u) _ _ _ Rp_3) 11 _ rfl
      have fp_12 := fun u => cell7 (heap_of (hF1 u) _ _ _ Rp_3) 12 _ rfl
      have fp_13 := fun u => cell7 (heap_of (hF1 u) _ _ _ Rp_3) 13 _ rfl
      have fz_0 := fun u => cell7 (heap_of (hF1 u) _ _ _ Rz_3) 0 _ rfl
      have fz_1 := fun u => cell7 (heap_of (hF1 u) _ _ _ Rz_3) 1 _ rfl
      have fb_0 := fun u => cell7 (heap_of (hF1 u) _ _ _ Rb_3) 0 _ rfl
      have fb_1 := fun u => cell7 (heap_of (hF1 u) _ _ _ Rb_3) 1 _ rfl
      refine wp_region_below F hF2 (by kernel_rfl) (by kernel_rfl) ?_
      repeat first | go_big_quiet_step (first | (go_at_call 8; exact quietF hF1 hF2 (KU.out _)) | fail) | quiet_step (first | (go_at_call 8; exact quietF hF1 hF2 (KU.out _)) | fail)
      refine wpQuiet_nil ?_
      rintro _ ⟨uW, rfl⟩
      have B4 := btr7 B3 (hF1 uW)
      have Rp_4 := heap_of (hF1 uW) _ _ _ Rp_3
      have Rz_4 := heap_of (hF1 uW) _ _ _ Rz_3
      have Rb_4 := heap_of (hF1 uW) _ _ _ Rb_3
      obtain ⟨w4, hw⟩ : ∃ V, F uW = V := ⟨_, rfl⟩
      rw [hw] at B4 Rp_4 Rz_4 Rb_4
      try rw [hw]
      clear hw hF1 hF2 B3 fp_0 fp_1 fp_2 fp_3 fp_4 fp_5 fp_6 fp_7 fp_8 fp_9 fp_10 fp_11 fp_12 fp_13 fz_0 fz_1 fb_0 fb_1 Rp_3 cp_3_0 cp_3_1 cp_3_2 cp_3_3 cp_3_4 cp_3_5 cp_3_6 cp_3_7 cp_3_8 cp_3_9 cp_3_10 cp_3_11 cp_3_12 cp_3_13 Rz_3 cz_3_0 cz_3_1 Rb_3 cb_3_0 cb_3_1
      clear F
      obtain ⟨cp_4_0, cp_4_1, cp_4_2, cp_4_3, cp_4_4, cp_4_5, cp_4_6, cp_4_7, cp_4_8, cp_4_9, cp_4_10, cp_4_11, cp_4_12, cp_4_13⟩ := pt_cells Rp_4
      obtain ⟨cz_4_0, cz_4_1⟩ := cell7t Rz_4
      obtain ⟨cb_4_0, cb_4_1⟩ := cell7t Rb_4
      have q0 := fz (k := 0) Rz_4
      have q1 := fz (k := 1) Rz_4
      obtain ⟨E0, E1⟩ := set2_cells Rz_4 (.int .u64 0) (.int .u64 0)
      go_wp2
      exact bodyPost_ret (v := .tuple #[.agg #[.int .u64 0, .int .u64 0], .int .i64 80]) (by simp [results, Tryd.results12, go_sem, E0, E1]) rfl ⟨rfl, set2_below B4 (by first | exact Nat.le_refl _ | omega | (skip; omega)) _ _⟩
    · simp only [Bool.false_eq_true, if_false, if_true]
      obtain ⟨Rp_0, Rz_0, Rb_0, B0⟩ := kopn3 w (Obj.cells (pt c s X rr) 30) (Obj.cells #[.int .u64 0, .int .u64 0] 25) (Obj.cells #[.int .u64 0, .int .u64 0] 25)
      go_enter Tryd.func12, Tryd.ntmps12
      go_wp2_with fail
      refine (KP.out _).mono ?_
      rintro r w' ⟨rfl, hw'⟩
      obtain rfl := hw'.symm
      go_wp2_with fail
      refine (KN.out _).mono ?_
      rintro r w1 ⟨rfl, b1⟩
      have B1 : Below w.heap.size w w1 := btr7 B0 b1
      have Rp_1 := heap_of b1 _ _ _ Rp_0
      have Rz_1 := heap_of b1 _ _ _ Rz_0
      have Rb_1 := heap_of b1 _ _ _ Rb_0
      clear b1 B0 Rp_0 Rz_0 Rb_0
      obtain ⟨cp_1_0, cp_1_1, cp_1_2, cp_1_3, cp_1_4, cp_1_5, cp_1_6, cp_1_7, cp_1_8, cp_1_9, cp_1_10, cp_1_11, cp_1_12, cp_1_13⟩ := pt_cells Rp_1
      obtain ⟨cz_1_0, cz_1_1⟩ := cell7t Rz_1
      obtain ⟨cb_1_0, cb_1_1⟩ := cell7t Rb_1
      go_wp2_with fail
      refine (KB.out _).mono ?_
      rintro r w2 ⟨rfl, b2⟩
      have B2 : Below w.heap.size w w2 := btr7 B1 b2
      have Rp_2 := heap_of b2 _ _ _ Rp_1
      have Rz_2 := heap_of b2 _ _ _ Rz_1
      have Rb_2 := heap_of b2 _ _ _ Rb_1
      clear b2 B1 Rp_1 cp_1_0 cp_1_1 cp_1_2 cp_1_3 cp_1_4 cp_1_5 cp_1_6 cp_1_7 cp_1_8 cp_1_9 cp_1_10 cp_1_11 cp_1_12 cp_1_13 Rz_1 cz_1_0 cz_1_1 Rb_1 cb_1_0 cb_1_1
      obtain ⟨cp_2_0, cp_2_1, cp_2_2, cp_2_3, cp_2_4, cp_2_5, cp_2_6, cp_2_7, cp_2_8, cp_2_9, cp_2_10, cp_2_11, cp_2_12, cp_2_13⟩ := pt_cells Rp_2
      obtain ⟨cz_2_0, cz_2_1⟩ := cell7t Rz_2
      obtain ⟨cb_2_0, cb_2_1⟩ := cell7t Rb_2
      have q0_3 := fz (k := 0) Rb_2
      have q1_3 := fz (k := 1) Rb_2
      have B3 := set2_below B2 (show w.heap.size ≤ w.heap.size + 1 + 1 by first | exact Nat.le_refl _ | omega | (skip; omega)) (.int .u64 (u : Nat)) (.int .u64 (v : Nat))
      have Rb_3 : ((w2.setCell ⟨w.heap.size + 1 + 1, 0, none⟩ (.int .u64 (u : Nat))).setCell ⟨w.heap.size + 1 + 1, 1, none⟩ (.int .u64 (v : Nat))).heap[w.heap.size + 1 + 1]? = some (Obj.cells #[.int .u64 (u : Nat), .int .u64 (v : Nat)] 25) := set2_row Rb_2 _ _
      have Rp_3 : ((w2.setCell ⟨w.heap.size + 1 + 1, 0, none⟩ (.int .u64 (u : Nat))).setCell ⟨w.heap.size + 1 + 1, 1, none⟩ (.int .u64 (v : Nat))).heap[w.heap.size]? = some (Obj.cells (pt c s X rr) 30) := (setCell_other (by first | omega | (skip; omega))).trans ((setCell_other (by first | omega | (skip; omega))).trans Rp_2)
      have Rz_3 : ((w2.setCell ⟨w.heap.size + 1 + 1, 0, none⟩ (.int .u64 (u : Nat))).setCell ⟨w.heap.size + 1 + 1, 1, none⟩ (.int .u64 (v : Nat))).heap[w.heap.size + 1]? = some (Obj.cells #[.int .u64 0, .int .u64 0] 25) := (setCell_other (by first | omega | (skip; omega))).trans ((setCell_other (by first | omega | (skip; omega))).trans Rz_2)
      obtain ⟨cp_3_0, cp_3_1, cp_3_2, cp_3_3, cp_3_4, cp_3_5, cp_3_6, cp_3_7, cp_3_8, cp_3_9, cp_3_10, cp_3_11, cp_3_12, cp_3_13⟩ := pt_cells Rp_3
      obtain ⟨cz_3_0, cz_3_1⟩ := cell7t Rz_3
      obtain ⟨cb_3_0, cb_3_1⟩ := cell7t Rb_3
      go_wp2_with fail
      obtain ⟨F, hF1, hF2⟩ := below_fun ((w2.setCell ⟨w.heap.size + 1 + 1, 0, none⟩ (.int .u64 (u : Nat))).setCell ⟨w.heap.size + 1 + 1, 1, none⟩ (.int .u64 (v : Nat)))
      have fp_0 := fun u => cell7 (heap_of (hF1 u) _ _ _ Rp_3) 0 _ rfl
      have fp_1 := fun u => cell7 (heap_of (hF1 u) _ _ _ Rp_3) 1 _ rfl
      have fp_2 := fun u => cell7 (heap_of (hF1 u) _ _ _ Rp_3) 2 _ rfl
      have fp_3 := fun u => cell7 (heap_of (hF1 u) _ _ _ Rp_3) 3 _ rfl
      have fp_4 := fun u => cell7 (heap_of (hF1 u) _ _ _ Rp_3) 4 _ rfl
      have fp_5 := fun u => cell7 (heap_of (hF1 u) _ _ _ Rp_3) 5 _ rfl
      have fp_6 := fun u => cell7 (heap_of (hF1 u) _ _ _ Rp_3) 6 _ rfl
      have fp_7 := fun u => cell7 (heap_of (hF1 u) _ _ _ Rp_3) 7 _ rfl
      have fp_8 := fun u => cell7 (heap_of (hF1 u) _ _ _ Rp_3) 8 _ rfl
      have fp_9 := fun u => cell7 (heap_of (hF1 u) _ _ _ Rp_3) 9 _ rfl
      have fp_10 := fun u => cell7 (heap_of (hF1 u) _ _ _ Rp_3) 10 _ rfl
      have fp_11 := fun u => cell7 (heap_of (hF1 u) _ _ _ Rp_3) 11 _ rfl
      have fp_12 := fun u => cell7 (heap_of (hF1 u) _ _ _ Rp_3) 12 _ rfl
      have fp_13 := fun u => cell7 (heap_of (hF1 u) _ _ _ Rp_3) 13 _ rfl
      have fz_0 := fun u => cell7 (heap_of (hF1 u) _ _ _ Rz_3) 0 _ rfl
      have fz_1 := fun u => cell7 (heap_of (hF1 u) _ _ _ Rz_3) 1 _ rfl
      have fb_0 := fun u => cell7 (heap_of (hF1 u) _ _ _ Rb_3) 0 _ rfl
      have fb_1 := fun u => cell7 (heap_of (hF1 u) _ _ _ Rb_3) 1 _ rfl
      refine wp_region_below F hF2 (by kernel_rfl) (by kernel_rfl) ?_
      repeat first | go_big_quiet_step (first | (go_at_call 8; exact quietF hF1 hF2 (KU.out _)) | fail) | quiet_step (first | (go_at_call 8; exact quietF hF1 hF2 (KU.out _)) | fail)
      refine wpQuiet_nil ?_
      rintro _ ⟨uW, rfl⟩
      have B4 := btr7 B3 (hF1 uW)
      have Rp_4 := heap_of (hF1 uW) _ _ _ Rp_3
      have Rz_4 := heap_of (hF1 uW) _ _ _ Rz_3
      have Rb_4 := heap_of (hF1 uW) _ _ _ Rb_3
      obtain ⟨w4, hw⟩ : ∃ V, F uW = V := ⟨_, rfl⟩
      rw [hw] at B4 Rp_4 Rz_4 Rb_4
      try rw [hw]
      clear hw hF1 hF2 B3 fp_0 fp_1 fp_2 fp_3 fp_4 fp_5 fp_6 fp_7 fp_8 fp_9 fp_10 fp_11 fp_12 fp_13 fz_0 fz_1 fb_0 fb_1 Rp_3 cp_3_0 cp_3_1 cp_3_2 cp_3_3 cp_3_4 cp_3_5 cp_3_6 cp_3_7 cp_3_8 cp_3_9 cp_3_10 cp_3_11 cp_3_12 cp_3_13 Rz_3 cz_3_0 cz_3_1 Rb_3 cb_3_0 cb_3_1
      clear F
      obtain ⟨cp_4_0, cp_4_1, cp_4_2, cp_4_3, cp_4_4, cp_4_5, cp_4_6, cp_4_7, cp_4_8, cp_4_9, cp_4_10, cp_4_11, cp_4_12, cp_4_13⟩ := pt_cells Rp_4
      obtain ⟨cz_4_0, cz_4_1⟩ := cell7t Rz_4
      obtain ⟨cb_4_0, cb_4_1⟩ := cell7t Rb_4
      have q0 := fz (k := 0) Rz_4
      have q1 := fz (k := 1) Rz_4
      obtain ⟨E0, E1⟩ := set2_cells Rz_4 (.int .u64 (u : Nat)) (.int .u64 (v : Nat))
      go_wp2
      exact bodyPost_ret (v := .tuple #[.agg #[.int .u64 (u : Nat), .int .u64 (v : Nat)], .int .i64 0]) (by simp [results, Tryd.results12, go_sem, E0, E1]) rfl ⟨rfl, set2_below B4 (by first | exact Nat.le_refl _ | omega | (skip; omega)) _ _⟩
set_option maxRecDepth 100000 in
set_option maxHeartbeats 2000000 in
theorem rpack_s5 (f q X Y : Int) (c s rr u v C S R : Nat) (E : Bool) (l : Nat) (k : Int) (w : World)
    (KP : Box (∀ w, Calls Tryd.prog 20 #[.int .u8 f] w fun r w' => r = .returned (.int .i64 q) ∧ w' = w))
    (KU : Box (∀ w, Calls Tryd.prog 8 #[.int .u8 f, .agg #[.int .u64 (u : Nat), .int .u64 (v : Nat)]] w fun r w' => r = .returned (.agg (pt C S Y R)) ∧ Below w.heap.size w w'))
    (ls : S < Q) (lr : R < Q) (hs : s < Q) (hr : rr < Q) (hE : (decide (C = c) && (decide (S = s) && (decide (Y = X) && decide (R = rr)))) = E)
    (KN : Box (∀ w, Calls Tryd.prog 31 #[.agg (cw 6 s)] w fun r w' => r = .returned (.int .i64 (l : Nat)) ∧ Below w.heap.size w w')) (h1 : IntKind.i64.wrap (q - 1) = k)
    (hl : decide (k < (l : Int)) = false)
    (KB : Box (∀ w, Calls Tryd.prog 32 #[.int .u8 f, .bool false, .int .i64 0, .agg (cw 6 s)] w fun r w' => r = .returned (.agg #[.int .u64 (u : Nat), .int .u64 (v : Nat)]) ∧ Below w.heap.size w w'))
    (hc : c = 5) : Calls Tryd.prog 12 #[.int .u8 f, .agg (pt c s X rr)] w fun r w' => r = .returned (.tuple #[.agg #[.int .u64 (if E then (u : Int) else 0), .int .u64 (if E then (v : Int) else 0)], .int .i64 (if E then 0 else 80)]) ∧ Below w.heap.size w w' := by
  have hat := cw_at 6
  have hz := cw6z
  have hff := cw6f
  have hs0 := st0
  have hcs : ∀ x, ((cw 6 x).size = 6) = True := fun x => eq_true (cw_size 6 x)
  have hp1 := ptf
  have hp3 := ptz
  have hp4 := st_p0
  have hp5 : ∀ (c s : Nat) (x : Int) (r : Nat), ((pt c s x r).size = 14) = True := fun _ _ _ _ => eq_true rfl
  have heq := eqp
  have hg := eqgp
  have ha0 := pt_at0
  have ha1 := pt_at1
  have ha2 := pt_at2
  have ha3 := pt_at3
  have ha4 := pt_at4
  have ha5 := pt_at5
  have ha6 := pt_at6
  have ha7 := pt_at7
  have ha8 := pt_at8
  have ha9 := pt_at9
  have ha10 := pt_at10
  have ha11 := pt_at11
  have ha12 := pt_at12
  have ha13 := pt_at13
  have hb0 := pt_q0
  have hb1 := pt_q1
  have hb2 := pt_q2
  have hb3 := pt_q3
  have hb4 := pt_q4
  have hb5 := pt_q5
  have hb6 := pt_q6
  have hb7 := pt_q7
  have hb8 := pt_q8
  have hb9 := pt_q9
  have hb10 := pt_q10
  have hb11 := pt_q11
  have hb12 := pt_q12
  have hb13 := pt_q13
  · have f0 : ((c : Int) == 0) = false := by rw [hc]; rfl
    have f7 : ((c : Int) == 7) = false := by rw [hc]; rfl
    have f3 : ((c : Int) == 3) = false := by rw [hc]; rfl
    have f4 : ((c : Int) == 4) = false := by rw [hc]; rfl
    have f8 : ((c : Int) == 8) = false := by rw [hc]; rfl
    have f9 : ((c : Int) == 9) = false := by rw [hc]; rfl
    have f2 : ((c : Int) == 2) = false := by rw [hc]; rfl
    have f5 : ((c : Int) == 5) = true := by rw [hc]; rfl
    clear hc
    cases E
    · simp only [Bool.false_eq_true, if_false, if_true]
      obtain ⟨Rp_0, Rz_0, Rb_0, B0⟩ := kopn3 w (Obj.cells (pt c s X rr) 30) (Obj.cells #[.int .u64 0, .int .u64 0] 25) (Obj.cells #[.int .u64 0, .int .u64 0] 25)
      go_enter Tryd.func12, Tryd.ntmps12
      go_wp2_with fail
      refine (KP.out _).mono ?_
      rintro r w' ⟨rfl, hw'⟩
      obtain rfl := hw'.symm
      go_wp2_with fail
      refine (KN.out _).mono ?_
      rintro r w1 ⟨rfl, b1⟩
      have B1 : Below w.heap.size w w1 := btr7 B0 b1
      have Rp_1 := heap_of b1 _ _ _ Rp_0
      have Rz_1 := heap_of b1 _ _ _ Rz_0
      have Rb_1 := heap_of b1 _ _ _ Rb_0
      clear b1 B0 Rp_0 Rz_0 Rb_0
      obtain ⟨cp_1_0, cp_1_1, cp_1_2, cp_1_3, cp_1_4, cp_1_5, cp_1_6, cp_1_7, cp_1_8, cp_1_9, cp_1_10, cp_1_11, cp_1_12, cp_1_13⟩ := pt_cells Rp_1
      obtain ⟨cz_1_0, cz_1_1⟩ := cell7t Rz_1
      obtain ⟨cb_1_0, cb_1_1⟩ := cell7t Rb_1
      go_wp2_with fail
      refine (KB.out _).mono ?_
      rintro r w2 ⟨rfl, b2⟩
      have B2 : Below w.heap.size w w2 := btr7 B1 b2
      have Rp_2 := heap_of b2 _ _ _ Rp_1
      have Rz_2 := heap_of b2 _ _ _ Rz_1
      have Rb_2 := heap_of b2 _ _ _ Rb_1
      clear b2 B1 Rp_1 cp_1_0 cp_1_1 cp_1_2 cp_1_3 cp_1_4 cp_1_5 cp_1_6 cp_1_7 cp_1_8 cp_1_9 cp_1_10 cp_1_11 cp_1_12 cp_1_13 Rz_1 cz_1_0 cz_1_1 Rb_1 cb_1_0 cb_1_1
      obtain ⟨cp_2_0, cp_2_1, cp_2_2, cp_2_3, cp_2_4, cp_2_5, cp_2_6, cp_2_7, cp_2_8, cp_2_9, cp_2_10, cp_2_11, cp_2_12, cp_2_13⟩ := pt_cells Rp_2
      obtain ⟨cz_2_0, cz_2_1⟩ := cell7t Rz_2
      obtain ⟨cb_2_0, cb_2_1⟩ := cell7t Rb_2
      have q0_3 := fz (k := 0) Rb_2
      have q1_3 := fz (k := 1) Rb_2
      have B3 := set2_below B2 (show w.heap.size ≤ w.heap.size + 1 + 1 by first | exact Nat.le_refl _ | omega | (skip; omega)) (.int .u64 (u : Nat)) (.int .u64 (v : Nat))
      have Rb_3 : ((w2.setCell ⟨w.heap.size + 1 + 1, 0, none⟩ (.int .u64 (u : Nat))).setCell ⟨w.heap.size + 1 + 1, 1, none⟩ (.int .u64 (v : Nat))).heap[w.heap.size + 1 + 1]? = some (Obj.cells #[.int .u64 (u : Nat), .int .u64 (v : Nat)] 25) := set2_row Rb_2 _ _
      have Rp_3 : ((w2.setCell ⟨w.heap.size + 1 + 1, 0, none⟩ (.int .u64 (u : Nat))).setCell ⟨w.heap.size + 1 + 1, 1, none⟩ (.int .u64 (v : Nat))).heap[w.heap.size]? = some (Obj.cells (pt c s X rr) 30) := (setCell_other (by first | omega | (skip; omega))).trans ((setCell_other (by first | omega | (skip; omega))).trans Rp_2)
      have Rz_3 : ((w2.setCell ⟨w.heap.size + 1 + 1, 0, none⟩ (.int .u64 (u : Nat))).setCell ⟨w.heap.size + 1 + 1, 1, none⟩ (.int .u64 (v : Nat))).heap[w.heap.size + 1]? = some (Obj.cells #[.int .u64 0, .int .u64 0] 25) := (setCell_other (by first | omega | (skip; omega))).trans ((setCell_other (by first | omega | (skip; omega))).trans Rz_2)
      obtain ⟨cp_3_0, cp_3_1, cp_3_2, cp_3_3, cp_3_4, cp_3_5, cp_3_6, cp_3_7, cp_3_8, cp_3_9, cp_3_10, cp_3_11, cp_3_12, cp_3_13⟩ := pt_cells Rp_3
      obtain ⟨cz_3_0, cz_3_1⟩ := cell7t Rz_3
      obtain ⟨cb_3_0, cb_3_1⟩ := cell7t Rb_3
      go_wp2_with fail
      obtain ⟨F, hF1, hF2⟩ := below_fun ((w2.setCell ⟨w.heap.size + 1 + 1, 0, none⟩ (.int .u64 (u : Nat))).setCell ⟨w.heap.size + 1 + 1, 1, none⟩ (.int .u64 (v : Nat)))
      have fp_0 := fun u => cell7 (heap_of (hF1 u) _ _ _ Rp_3) 0 _ rfl
      have fp_1 := fun u => cell7 (heap_of (hF1 u) _ _ _ Rp_3) 1 _ rfl
      have fp_2 := fun u => cell7 (heap_of (hF1 u) _ _ _ Rp_3) 2 _ rfl
      have fp_3 := fun u => cell7 (heap_of (hF1 u) _ _ _ Rp_3) 3 _ rfl
      have fp_4 := fun u => cell7 (heap_of (hF1 u) _ _ _ Rp_3) 4 _ rfl
      have fp_5 := fun u => cell7 (heap_of (hF1 u) _ _ _ Rp_3) 5 _ rfl
      have fp_6 := fun u => cell7 (heap_of (hF1 u) _ _ _ Rp_3) 6 _ rfl
      have fp_7 := fun u => cell7 (heap_of (hF1 u) _ _ _ Rp_3) 7 _ rfl
      have fp_8 := fun u => cell7 (heap_of (hF1 u) _ _ _ Rp_3) 8 _ rfl
      have fp_9 := fun u => cell7 (heap_of (hF1 u) _ _ _ Rp_3) 9 _ rfl
      have fp_10 := fun u => cell7 (heap_of (hF1 u) _ _ _ Rp_3) 10 _ rfl
      have fp_11 := fun u => cell7 (heap_of (hF1 u) _ _ _ Rp_3) 11 _ rfl
      have fp_12 := fun u => cell7 (heap_of (hF1 u) _ _ _ Rp_3) 12 _ rfl
      have fp_13 := fun u => cell7 (heap_of (hF1 u) _ _ _ Rp_3) 13 _ rfl
      have fz_0 := fun u => cell7 (heap_of (hF1 u) _ _ _ Rz_3) 0 _ rfl
      have fz_1 := fun u => cell7 (heap_of (hF1 u) _ _ _ Rz_3) 1 _ rfl
      have fb_0 := fun u => cell7 (heap_of (hF1 u) _ _ _ Rb_3) 0 _ rfl
      have fb_1 := fun u => cell7 (heap_of (hF1 u) _ _ _ Rb_3) 1 _ rfl
      refine wp_region_below F hF2 (by kernel_rfl) (by kernel_rfl) ?_
      repeat first | go_big_quiet_step (first | (go_at_call 8; exact quietF hF1 hF2 (KU.out _)) | fail) | quiet_step (first | (go_at_call 8; exact quietF hF1 hF2 (KU.out _)) | fail)
      refine wpQuiet_nil ?_
      rintro _ ⟨uW, rfl⟩
      have B4 := btr7 B3 (hF1 uW)
      have Rp_4 := heap_of (hF1 uW) _ _ _ Rp_3
      have Rz_4 := heap_of (hF1 uW) _ _ _ Rz_3
      have Rb_4 := heap_of (hF1 uW) _ _ _ Rb_3
      obtain ⟨w4, hw⟩ : ∃ V, F uW = V := ⟨_, rfl⟩
      rw [hw] at B4 Rp_4 Rz_4 Rb_4
      try rw [hw]
      clear hw hF1 hF2 B3 fp_0 fp_1 fp_2 fp_3 fp_4 fp_5 fp_6 fp_7 fp_8 fp_9 fp_10 fp_11 fp_12 fp_13 fz_0 fz_1 fb_0 fb_1 Rp_3 cp_3_0 cp_3_1 cp_3_2 cp_3_3 cp_3_4 cp_3_5 cp_3_6 cp_3_7 cp_3_8 cp_3_9 cp_3_10 cp_3_11 cp_3_12 cp_3_13 Rz_3 cz_3_0 cz_3_1 Rb_3 cb_3_0 cb_3_1
      clear F
      obtain ⟨cp_4_0, cp_4_1, cp_4_2, cp_4_3, cp_4_4, cp_4_5, cp_4_6, cp_4_7, cp_4_8, cp_4_9, cp_4_10, cp_4_11, cp_4_12, cp_4_13⟩ := pt_cells Rp_4
      obtain ⟨cz_4_0, cz_4_1⟩ := cell7t Rz_4
      obtain ⟨cb_4_0, cb_4_1⟩ := cell7t Rb_4
      have q0 := fz (k := 0) Rz_4
      have q1 := fz (k := 1) Rz_4
      obtain ⟨E0, E1⟩ := set2_cells Rz_4 (.int .u64 0) (.int .u64 0)
      go_wp2
      exact bodyPost_ret (v := .tuple #[.agg #[.int .u64 0, .int .u64 0], .int .i64 80]) (by simp [results, Tryd.results12, go_sem, E0, E1]) rfl ⟨rfl, set2_below B4 (by first | exact Nat.le_refl _ | omega | (skip; omega)) _ _⟩
    · simp only [Bool.false_eq_true, if_false, if_true]
      obtain ⟨Rp_0, Rz_0, Rb_0, B0⟩ := kopn3 w (Obj.cells (pt c s X rr) 30) (Obj.cells #[.int .u64 0, .int .u64 0] 25) (Obj.cells #[.int .u64 0, .int .u64 0] 25)
      go_enter Tryd.func12, Tryd.ntmps12
      go_wp2_with fail
      refine (KP.out _).mono ?_
      rintro r w' ⟨rfl, hw'⟩
      obtain rfl := hw'.symm
      go_wp2_with fail
      refine (KN.out _).mono ?_
      rintro r w1 ⟨rfl, b1⟩
      have B1 : Below w.heap.size w w1 := btr7 B0 b1
      have Rp_1 := heap_of b1 _ _ _ Rp_0
      have Rz_1 := heap_of b1 _ _ _ Rz_0
      have Rb_1 := heap_of b1 _ _ _ Rb_0
      clear b1 B0 Rp_0 Rz_0 Rb_0
      obtain ⟨cp_1_0, cp_1_1, cp_1_2, cp_1_3, cp_1_4, cp_1_5, cp_1_6, cp_1_7, cp_1_8, cp_1_9, cp_1_10, cp_1_11, cp_1_12, cp_1_13⟩ := pt_cells Rp_1
      obtain ⟨cz_1_0, cz_1_1⟩ := cell7t Rz_1
      obtain ⟨cb_1_0, cb_1_1⟩ := cell7t Rb_1
      go_wp2_with fail
      refine (KB.out _).mono ?_
      rintro r w2 ⟨rfl, b2⟩
      have B2 : Below w.heap.size w w2 := btr7 B1 b2
      have Rp_2 := heap_of b2 _ _ _ Rp_1
      have Rz_2 := heap_of b2 _ _ _ Rz_1
      have Rb_2 := heap_of b2 _ _ _ Rb_1
      clear b2 B1 Rp_1 cp_1_0 cp_1_1 cp_1_2 cp_1_3 cp_1_4 cp_1_5 cp_1_6 cp_1_7 cp_1_8 cp_1_9 cp_1_10 cp_1_11 cp_1_12 cp_1_13 Rz_1 cz_1_0 cz_1_1 Rb_1 cb_1_0 cb_1_1
      obtain ⟨cp_2_0, cp_2_1, cp_2_2, cp_2_3, cp_2_4, cp_2_5, cp_2_6, cp_2_7, cp_2_8, cp_2_9, cp_2_10, cp_2_11, cp_2_12, cp_2_13⟩ := pt_cells Rp_2
      obtain ⟨cz_2_0, cz_2_1⟩ := cell7t Rz_2
      obtain ⟨cb_2_0, cb_2_1⟩ := cell7t Rb_2
      have q0_3 := fz (k := 0) Rb_2
      have q1_3 := fz (k := 1) Rb_2
      have B3 := set2_below B2 (show w.heap.size ≤ w.heap.size + 1 + 1 by first | exact Nat.le_refl _ | omega | (skip; omega)) (.int .u64 (u : Nat)) (.int .u64 (v : Nat))
      have Rb_3 : ((w2.setCell ⟨w.heap.size + 1 + 1, 0, none⟩ (.int .u64 (u : Nat))).setCell ⟨w.heap.size + 1 + 1, 1, none⟩ (.int .u64 (v : Nat))).heap[w.heap.size + 1 + 1]? = some (Obj.cells #[.int .u64 (u : Nat), .int .u64 (v : Nat)] 25) := set2_row Rb_2 _ _
      have Rp_3 : ((w2.setCell ⟨w.heap.size + 1 + 1, 0, none⟩ (.int .u64 (u : Nat))).setCell ⟨w.heap.size + 1 + 1, 1, none⟩ (.int .u64 (v : Nat))).heap[w.heap.size]? = some (Obj.cells (pt c s X rr) 30) := (setCell_other (by first | omega | (skip; omega))).trans ((setCell_other (by first | omega | (skip; omega))).trans Rp_2)
      have Rz_3 : ((w2.setCell ⟨w.heap.size + 1 + 1, 0, none⟩ (.int .u64 (u : Nat))).setCell ⟨w.heap.size + 1 + 1, 1, none⟩ (.int .u64 (v : Nat))).heap[w.heap.size + 1]? = some (Obj.cells #[.int .u64 0, .int .u64 0] 25) := (setCell_other (by first | omega | (skip; omega))).trans ((setCell_other (by first | omega | (skip; omega))).trans Rz_2)
      obtain ⟨cp_3_0, cp_3_1, cp_3_2, cp_3_3, cp_3_4, cp_3_5, cp_3_6, cp_3_7, cp_3_8, cp_3_9, cp_3_10, cp_3_11, cp_3_12, cp_3_13⟩ := pt_cells Rp_3
      obtain ⟨cz_3_0, cz_3_1⟩ := cell7t Rz_3
      obtain ⟨cb_3_0, cb_3_1⟩ := cell7t Rb_3
      go_wp2_with fail
      obtain ⟨F, hF1, hF2⟩ := below_fun ((w2.setCell ⟨w.heap.size + 1 + 1, 0, none⟩ (.int .u64 (u : Nat))).setCell ⟨w.heap.size + 1 + 1, 1, none⟩ (.int .u64 (v : Nat)))
      have fp_0 := fun u => cell7 (heap_of (hF1 u) _ _ _ Rp_3) 0 _ rfl
      have fp_1 := fun u => cell7 (heap_of (hF1 u) _ _ _ Rp_3) 1 _ rfl
      have fp_2 := fun u => cell7 (heap_of (hF1 u) _ _ _ Rp_3) 2 _ rfl
      have fp_3 := fun u => cell7 (heap_of (hF1 u) _ _ _ Rp_3) 3 _ rfl
      have fp_4 := fun u => cell7 (heap_of (hF1 u) _ _ _ Rp_3) 4 _ rfl
      have fp_5 := fun u => cell7 (heap_of (hF1 u) _ _ _ Rp_3) 5 _ rfl
      have fp_6 := fun u => cell7 (heap_of (hF1 u) _ _ _ Rp_3) 6 _ rfl
      have fp_7 := fun u => cell7 (heap_of (hF1 u) _ _ _ Rp_3) 7 _ rfl
      have fp_8 := fun u => cell7 (heap_of (hF1 u) _ _ _ Rp_3) 8 _ rfl
      have fp_9 := fun u => cell7 (heap_of (hF1 u) _ _ _ Rp_3) 9 _ rfl
      have fp_10 := fun u => cell7 (heap_of (hF1 u) _ _ _ Rp_3) 10 _ rfl
      have fp_11 := fun u => cell7 (heap_of (hF1 u) _ _ _ Rp_3) 11 _ rfl
      have fp_12 := fun u => cell7 (heap_of (hF1 u) _ _ _ Rp_3) 12 _ rfl
      have fp_13 := fun u => cell7 (heap_of (hF1 u) _ _ _ Rp_3) 13 _ rfl
      have fz_0 := fun u => cell7 (heap_of (hF1 u) _ _ _ Rz_3) 0 _ rfl
      have fz_1 := fun u => cell7 (heap_of (hF1 u) _ _ _ Rz_3) 1 _ rfl
      have fb_0 := fun u => cell7 (heap_of (hF1 u) _ _ _ Rb_3) 0 _ rfl
      have fb_1 := fun u => cell7 (heap_of (hF1 u) _ _ _ Rb_3) 1 _ rfl
      refine wp_region_below F hF2 (by kernel_rfl) (by kernel_rfl) ?_
      repeat first | go_big_quiet_step (first | (go_at_call 8; exact quietF hF1 hF2 (KU.out _)) | fail) | quiet_step (first | (go_at_call 8; exact quietF hF1 hF2 (KU.out _)) | fail)
      refine wpQuiet_nil ?_
      rintro _ ⟨uW, rfl⟩
      have B4 := btr7 B3 (hF1 uW)
      have Rp_4 := heap_of (hF1 uW) _ _ _ Rp_3
      have Rz_4 := heap_of (hF1 uW) _ _ _ Rz_3
      have Rb_4 := heap_of (hF1 uW) _ _ _ Rb_3
      obtain ⟨w4, hw⟩ : ∃ V, F uW = V := ⟨_, rfl⟩
      rw [hw] at B4 Rp_4 Rz_4 Rb_4
      try rw [hw]
      clear hw hF1 hF2 B3 fp_0 fp_1 fp_2 fp_3 fp_4 fp_5 fp_6 fp_7 fp_8 fp_9 fp_10 fp_11 fp_12 fp_13 fz_0 fz_1 fb_0 fb_1 Rp_3 cp_3_0 cp_3_1 cp_3_2 cp_3_3 cp_3_4 cp_3_5 cp_3_6 cp_3_7 cp_3_8 cp_3_9 cp_3_10 cp_3_11 cp_3_12 cp_3_13 Rz_3 cz_3_0 cz_3_1 Rb_3 cb_3_0 cb_3_1
      clear F
      obtain ⟨cp_4_0, cp_4_1, cp_4_2, cp_4_3, cp_4_4, cp_4_5, cp_4_6, cp_4_7, cp_4_8, cp_4_9, cp_4_10, cp_4_11, cp_4_12, cp_4_13⟩ := pt_cells Rp_4
      obtain ⟨cz_4_0, cz_4_1⟩ := cell7t Rz_4
      obtain ⟨cb_4_0, cb_4_1⟩ := cell7t Rb_4
      have q0 := fz (k := 0) Rz_4
      have q1 := fz (k := 1) Rz_4
      obtain ⟨E0, E1⟩ := set2_cells Rz_4 (.int .u64 (u : Nat)) (.int .u64 (v : Nat))
      go_wp2
      exact bodyPost_ret (v := .tuple #[.agg #[.int .u64 (u : Nat), .int .u64 (v : Nat)], .int .i64 0]) (by simp [results, Tryd.results12, go_sem, E0, E1]) rfl ⟨rfl, set2_below B4 (by first | exact Nat.le_refl _ | omega | (skip; omega)) _ _⟩
set_option maxRecDepth 100000 in
set_option maxHeartbeats 2000000 in
theorem rpack_n1 (f q X Y : Int) (c s rr u v C S R : Nat) (E : Bool) (l t K e : Nat) (k m M L M2 : Int) (w : World)
    (KP : Box (∀ w, Calls Tryd.prog 20 #[.int .u8 f] w fun r w' => r = .returned (.int .i64 q) ∧ w' = w))
    (KU : Box (∀ w, Calls Tryd.prog 8 #[.int .u8 f, .agg #[.int .u64 (u : Nat), .int .u64 (v : Nat)]] w fun r w' => r = .returned (.agg (pt C S Y R)) ∧ Below w.heap.size w w'))
    (ls : S < Q) (lr : R < Q) (hs : s < Q) (hr : rr < Q) (hE : (decide (C = c) && (decide (S = s) && (decide (Y = X) && decide (R = rr)))) = E)
    (KN : Box (∀ w, Calls Tryd.prog 31 #[.agg (cw 6 s)] w fun r w' => r = .returned (.int .i64 (l : Nat)) ∧ Below w.heap.size w w')) (h1 : IntKind.i64.wrap (q - 1) = k)
    (KE : Box (∀ w, Calls Tryd.prog 21 #[.int .u8 f] w fun r w' => r = .returned (.int .i64 m) ∧ w' = w)) (h2 : IntKind.i64.wrap (m - q) = m - q) (h3 : IntKind.i64.wrap (m - q + 1) = L)
    (KX : Box (∀ w, Calls Tryd.prog 25 #[.int .u8 f] w fun r w' => r = .returned (.int .i64 M) ∧ w' = w)) (h4 : IntKind.i64.wrap (M - q) = M - q) (h5 : IntKind.i64.wrap (M - q + 1) = M2)
    (c1 : ((l : Int) != q) = false) (c2 : decide (X < L) = false) (c3 : decide (M2 < X) = false)
    (KM : Box (∀ w, Calls Tryd.prog 34 #[.int .i64 k] w fun r w' => r = .returned (.agg (cw 6 K)) ∧ Below w.heap.size w w')) (KA : Box (∀ w, Calls Tryd.prog 33 #[.agg (cw 6 s), .agg (cw 6 K)] w fun r w' => r = .returned (.agg (cw 6 t)) ∧ Below w.heap.size w w'))
    (h6 : IntKind.i64.wrap (X - L) = X - L) (h7 : IntKind.i64.wrap (X - L + 1) = (e : Int))
    (KB : Box (∀ w, Calls Tryd.prog 32 #[.int .u8 f, .bool true, .int .i64 (e : Nat), .agg (cw 6 t)] w fun r w' => r = .returned (.agg #[.int .u64 (u : Nat), .int .u64 (v : Nat)]) ∧ Below w.heap.size w w'))
    (hc : c = 1) : Calls Tryd.prog 12 #[.int .u8 f, .agg (pt c s X rr)] w fun r w' => r = .returned (.tuple #[.agg #[.int .u64 (if E then (u : Int) else 0), .int .u64 (if E then (v : Int) else 0)], .int .i64 (if E then 0 else 80)]) ∧ Below w.heap.size w w' := by
  have hat := cw_at 6
  have hz := cw6z
  have hff := cw6f
  have hs0 := st0
  have hcs : ∀ x, ((cw 6 x).size = 6) = True := fun x => eq_true (cw_size 6 x)
  have hp1 := ptf
  have hp3 := ptz
  have hp4 := st_p0
  have hp5 : ∀ (c s : Nat) (x : Int) (r : Nat), ((pt c s x r).size = 14) = True := fun _ _ _ _ => eq_true rfl
  have heq := eqp
  have hg := eqgp
  have ha0 := pt_at0
  have ha1 := pt_at1
  have ha2 := pt_at2
  have ha3 := pt_at3
  have ha4 := pt_at4
  have ha5 := pt_at5
  have ha6 := pt_at6
  have ha7 := pt_at7
  have ha8 := pt_at8
  have ha9 := pt_at9
  have ha10 := pt_at10
  have ha11 := pt_at11
  have ha12 := pt_at12
  have ha13 := pt_at13
  have hb0 := pt_q0
  have hb1 := pt_q1
  have hb2 := pt_q2
  have hb3 := pt_q3
  have hb4 := pt_q4
  have hb5 := pt_q5
  have hb6 := pt_q6
  have hb7 := pt_q7
  have hb8 := pt_q8
  have hb9 := pt_q9
  have hb10 := pt_q10
  have hb11 := pt_q11
  have hb12 := pt_q12
  have hb13 := pt_q13
  · have f0 : ((c : Int) == 0) = false := by rw [hc]; rfl
    have f7 : ((c : Int) == 7) = false := by rw [hc]; rfl
    have f3 : ((c : Int) == 3) = false := by rw [hc]; rfl
    have f4 : ((c : Int) == 4) = false := by rw [hc]; rfl
    have f8 : ((c : Int) == 8) = false := by rw [hc]; rfl
    have f9 : ((c : Int) == 9) = false := by rw [hc]; rfl
    have f2 : ((c : Int) == 2) = false := by rw [hc]; rfl
    have f5 : ((c : Int) == 5) = false := by rw [hc]; rfl
    have f1 : ((c : Int) == 1) = true := by rw [hc]; rfl
    clear hc
    cases E
    · simp only [Bool.false_eq_true, if_false, if_true]
      obtain ⟨Rp_0, Rz_0, Rb_0, B0⟩ := kopn3 w (Obj.cells (pt c s X rr) 30) (Obj.cells #[.int .u64 0, .int .u64 0] 25) (Obj.cells #[.int .u64 0, .int .u64 0] 25)
      go_enter Tryd.func12, Tryd.ntmps12
      go_wp2_with fail
      refine (KP.out _).mono ?_
      rintro r w' ⟨rfl, hw'⟩
      obtain rfl := hw'.symm
      go_wp2_with fail
      refine (KE.out _).mono ?_
      rintro r w' ⟨rfl, hw'⟩
      obtain rfl := hw'.symm
      go_wp2_with fail
      obtain ⟨F, hF1, hF2⟩ := below_fun (((w.alloc (Obj.cells (pt c s X rr) 30)).alloc (Obj.cells #[.int .u64 0, .int .u64 0] 25)).alloc (Obj.cells #[.int .u64 0, .int .u64 0] 25))
      have fp_0 := fun u => cell7 (heap_of (hF1 u) _ _ _ Rp_0) 0 _ rfl
      have fp_1 := fun u => cell7 (heap_of (hF1 u) _ _ _ Rp_0) 1 _ rfl
      have fp_2 := fun u => cell7 (heap_of (hF1 u) _ _ _ Rp_0) 2 _ rfl
      have fp_3 := fun u => cell7 (heap_of (hF1 u) _ _ _ Rp_0) 3 _ rfl
      have fp_4 := fun u => cell7 (heap_of (hF1 u) _ _ _ Rp_0) 4 _ rfl
      have fp_5 := fun u => cell7 (heap_of (hF1 u) _ _ _ Rp_0) 5 _ rfl
      have fp_6 := fun u => cell7 (heap_of (hF1 u) _ _ _ Rp_0) 6 _ rfl
      have fp_7 := fun u => cell7 (heap_of (hF1 u) _ _ _ Rp_0) 7 _ rfl
      have fp_8 := fun u => cell7 (heap_of (hF1 u) _ _ _ Rp_0) 8 _ rfl
      have fp_9 := fun u => cell7 (heap_of (hF1 u) _ _ _ Rp_0) 9 _ rfl
      have fp_10 := fun u => cell7 (heap_of (hF1 u) _ _ _ Rp_0) 10 _ rfl
      have fp_11 := fun u => cell7 (heap_of (hF1 u) _ _ _ Rp_0) 11 _ rfl
      have fp_12 := fun u => cell7 (heap_of (hF1 u) _ _ _ Rp_0) 12 _ rfl
      have fp_13 := fun u => cell7 (heap_of (hF1 u) _ _ _ Rp_0) 13 _ rfl
      have fz_0 := fun u => cell7 (heap_of (hF1 u) _ _ _ Rz_0) 0 _ rfl
      have fz_1 := fun u => cell7 (heap_of (hF1 u) _ _ _ Rz_0) 1 _ rfl
      have fb_0 := fun u => cell7 (heap_of (hF1 u) _ _ _ Rb_0) 0 _ rfl
      have fb_1 := fun u => cell7 (heap_of (hF1 u) _ _ _ Rb_0) 1 _ rfl
      refine wp_region_below F hF2 (by kernel_rfl) (by kernel_rfl) ?_
      repeat first | go_big_quiet_step (first | (go_at_call 31; exact quietF hF1 hF2 (KN.out _)) | (go_at_call 25; exact quietF0 (KX.out _)) | fail) | quiet_step (first | (go_at_call 31; exact quietF hF1 hF2 (KN.out _)) | (go_at_call 25; exact quietF0 (KX.out _)) | fail)
      refine wpQuiet_nil ?_
      rintro _ ⟨uW, rfl⟩
      have B1 := btr7 B0 (hF1 uW)
      have Rp_1 := heap_of (hF1 uW) _ _ _ Rp_0
      have Rz_1 := heap_of (hF1 uW) _ _ _ Rz_0
      have Rb_1 := heap_of (hF1 uW) _ _ _ Rb_0
      obtain ⟨w1, hw⟩ : ∃ V, F uW = V := ⟨_, rfl⟩
      rw [hw] at B1 Rp_1 Rz_1 Rb_1
      try rw [hw]
      clear hw hF1 hF2 B0 fp_0 fp_1 fp_2 fp_3 fp_4 fp_5 fp_6 fp_7 fp_8 fp_9 fp_10 fp_11 fp_12 fp_13 fz_0 fz_1 fb_0 fb_1 Rp_0 Rz_0 Rb_0
      clear F
      obtain ⟨cp_1_0, cp_1_1, cp_1_2, cp_1_3, cp_1_4, cp_1_5, cp_1_6, cp_1_7, cp_1_8, cp_1_9, cp_1_10, cp_1_11, cp_1_12, cp_1_13⟩ := pt_cells Rp_1
      obtain ⟨cz_1_0, cz_1_1⟩ := cell7t Rz_1
      obtain ⟨cb_1_0, cb_1_1⟩ := cell7t Rb_1
      have sS : Box (∀ W W1 : World, (Below w.heap.size w W ∧ W.heap[w.heap.size]? = some (Obj.cells (pt c s X rr) 30) ∧ W.heap[w.heap.size + 1]? = some (Obj.cells #[.int .u64 0, .int .u64 0] 25) ∧ W.heap[w.heap.size + 1 + 1]? = some (Obj.cells #[.int .u64 0, .int .u64 0] 25) ∧ W.cell? ⟨w.heap.size, 0, none⟩ = some (.int .u8 (c : Nat)) ∧ W.cell? ⟨w.heap.size, 1, none⟩ = some (.int .u64 ((wd s 0 : Nat) : Int)) ∧ W.cell? ⟨w.heap.size, 2, none⟩ = some (.int .u64 ((wd s 1 : Nat) : Int)) ∧ W.cell? ⟨w.heap.size, 3, none⟩ = some (.int .u64 ((wd s 2 : Nat) : Int)) ∧ W.cell? ⟨w.heap.size, 4, none⟩ = some (.int .u64 ((wd s 3 : Nat) : Int)) ∧ W.cell? ⟨w.heap.size, 5, none⟩ = some (.int .u64 ((wd s 4 : Nat) : Int)) ∧ W.cell? ⟨w.heap.size, 6, none⟩ = some (.int .u64 ((wd s 5 : Nat) : Int)) ∧ W.cell? ⟨w.heap.size, 7, none⟩ = some (.int .i64 X) ∧ W.cell? ⟨w.heap.size, 8, none⟩ = some (.int .u64 ((wd rr 0 : Nat) : Int)) ∧ W.cell? ⟨w.heap.size, 9, none⟩ = some (.int .u64 ((wd rr 1 : Nat) : Int)) ∧ W.cell? ⟨w.heap.size, 10, none⟩ = some (.int .u64 ((wd rr 2 : Nat) : Int)) ∧ W.cell? ⟨w.heap.size, 11, none⟩ = some (.int .u64 ((wd rr 3 : Nat) : Int)) ∧ W.cell? ⟨w.heap.size, 12, none⟩ = some (.int .u64 ((wd rr 4 : Nat) : Int)) ∧ W.cell? ⟨w.heap.size, 13, none⟩ = some (.int .u64 ((wd rr 5 : Nat) : Int)) ∧ W.cell? ⟨w.heap.size + 1, 0, none⟩ = some (.int .u64 0) ∧ W.cell? ⟨w.heap.size + 1, 1, none⟩ = some (.int .u64 0) ∧ W.cell? ⟨w.heap.size + 1 + 1, 0, none⟩ = some (.int .u64 0) ∧ W.cell? ⟨w.heap.size + 1 + 1, 1, none⟩ = some (.int .u64 0)) → Below W.heap.size W W1 → (Below w.heap.size w W1 ∧ W1.heap[w.heap.size]? = some (Obj.cells (pt c s X rr) 30) ∧ W1.heap[w.heap.size + 1]? = some (Obj.cells #[.int .u64 0, .int .u64 0] 25) ∧ W1.heap[w.heap.size + 1 + 1]? = some (Obj.cells #[.int .u64 0, .int .u64 0] 25) ∧ W1.cell? ⟨w.heap.size, 0, none⟩ = some (.int .u8 (c : Nat)) ∧ W1.cell? ⟨w.heap.size, 1, none⟩ = some (.int .u64 ((wd s 0 : Nat) : Int)) ∧ W1.cell? ⟨w.heap.size, 2, none⟩ = some (.int .u64 ((wd s 1 : Nat) : Int)) ∧ W1.cell? ⟨w.heap.size, 3, none⟩ = some (.int .u64 ((wd s 2 : Nat) : Int)) ∧ W1.cell? ⟨w.heap.size, 4, none⟩ = some (.int .u64 ((wd s 3 : Nat) : Int)) ∧ W1.cell? ⟨w.heap.size, 5, none⟩ = some (.int .u64 ((wd s 4 : Nat) : Int)) ∧ W1.cell? ⟨w.heap.size, 6, none⟩ = some (.int .u64 ((wd s 5 : Nat) : Int)) ∧ W1.cell? ⟨w.heap.size, 7, none⟩ = some (.int .i64 X) ∧ W1.cell? ⟨w.heap.size, 8, none⟩ = some (.int .u64 ((wd rr 0 : Nat) : Int)) ∧ W1.cell? ⟨w.heap.size, 9, none⟩ = some (.int .u64 ((wd rr 1 : Nat) : Int)) ∧ W1.cell? ⟨w.heap.size, 10, none⟩ = some (.int .u64 ((wd rr 2 : Nat) : Int)) ∧ W1.cell? ⟨w.heap.size, 11, none⟩ = some (.int .u64 ((wd rr 3 : Nat) : Int)) ∧ W1.cell? ⟨w.heap.size, 12, none⟩ = some (.int .u64 ((wd rr 4 : Nat) : Int)) ∧ W1.cell? ⟨w.heap.size, 13, none⟩ = some (.int .u64 ((wd rr 5 : Nat) : Int)) ∧ W1.cell? ⟨w.heap.size + 1, 0, none⟩ = some (.int .u64 0) ∧ W1.cell? ⟨w.heap.size + 1, 1, none⟩ = some (.int .u64 0) ∧ W1.cell? ⟨w.heap.size + 1 + 1, 0, none⟩ = some (.int .u64 0) ∧ W1.cell? ⟨w.heap.size + 1 + 1, 1, none⟩ = some (.int .u64 0))) := box (fun W W1 h b => ⟨btr7 h.1 b, heap_of b _ _ _ h.2.1, heap_of b _ _ _ h.2.2.1, heap_of b _ _ _ h.2.2.2.1, cell7 (heap_of b _ _ _ h.2.1) 0 _ rfl, cell7 (heap_of b _ _ _ h.2.1) 1 _ rfl, cell7 (heap_of b _ _ _ h.2.1) 2 _ rfl, cell7 (heap_of b _ _ _ h.2.1) 3 _ rfl, cell7 (heap_of b _ _ _ h.2.1) 4 _ rfl, cell7 (heap_of b _ _ _ h.2.1) 5 _ rfl, cell7 (heap_of b _ _ _ h.2.1) 6 _ rfl, cell7 (heap_of b _ _ _ h.2.1) 7 _ rfl, cell7 (heap_of b _ _ _ h.2.1) 8 _ rfl, cell7 (heap_of b _ _ _ h.2.1) 9 _ rfl, cell7 (heap_of b _ _ _ h.2.1) 10 _ rfl, cell7 (heap_of b _ _ _ h.2.1) 11 _ rfl, cell7 (heap_of b _ _ _ h.2.1) 12 _ rfl, cell7 (heap_of b _ _ _ h.2.1) 13 _ rfl, cell7 (heap_of b _ _ _ h.2.2.1) 0 _ rfl, cell7 (heap_of b _ _ _ h.2.2.1) 1 _ rfl, cell7 (heap_of b _ _ _ h.2.2.2.1) 0 _ rfl, cell7 (heap_of b _ _ _ h.2.2.2.1) 1 _ rfl⟩)
      have sL : Box (∀ W : World, (Below w.heap.size w W ∧ W.heap[w.heap.size]? = some (Obj.cells (pt c s X rr) 30) ∧ W.heap[w.heap.size + 1]? = some (Obj.cells #[.int .u64 0, .int .u64 0] 25) ∧ W.heap[w.heap.size + 1 + 1]? = some (Obj.cells #[.int .u64 0, .int .u64 0] 25) ∧ W.cell? ⟨w.heap.size, 0, none⟩ = some (.int .u8 (c : Nat)) ∧ W.cell? ⟨w.heap.size, 1, none⟩ = some (.int .u64 ((wd s 0 : Nat) : Int)) ∧ W.cell? ⟨w.heap.size, 2, none⟩ = some (.int .u64 ((wd s 1 : Nat) : Int)) ∧ W.cell? ⟨w.heap.size, 3, none⟩ = some (.int .u64 ((wd s 2 : Nat) : Int)) ∧ W.cell? ⟨w.heap.size, 4, none⟩ = some (.int .u64 ((wd s 3 : Nat) : Int)) ∧ W.cell? ⟨w.heap.size, 5, none⟩ = some (.int .u64 ((wd s 4 : Nat) : Int)) ∧ W.cell? ⟨w.heap.size, 6, none⟩ = some (.int .u64 ((wd s 5 : Nat) : Int)) ∧ W.cell? ⟨w.heap.size, 7, none⟩ = some (.int .i64 X) ∧ W.cell? ⟨w.heap.size, 8, none⟩ = some (.int .u64 ((wd rr 0 : Nat) : Int)) ∧ W.cell? ⟨w.heap.size, 9, none⟩ = some (.int .u64 ((wd rr 1 : Nat) : Int)) ∧ W.cell? ⟨w.heap.size, 10, none⟩ = some (.int .u64 ((wd rr 2 : Nat) : Int)) ∧ W.cell? ⟨w.heap.size, 11, none⟩ = some (.int .u64 ((wd rr 3 : Nat) : Int)) ∧ W.cell? ⟨w.heap.size, 12, none⟩ = some (.int .u64 ((wd rr 4 : Nat) : Int)) ∧ W.cell? ⟨w.heap.size, 13, none⟩ = some (.int .u64 ((wd rr 5 : Nat) : Int)) ∧ W.cell? ⟨w.heap.size + 1, 0, none⟩ = some (.int .u64 0) ∧ W.cell? ⟨w.heap.size + 1, 1, none⟩ = some (.int .u64 0) ∧ W.cell? ⟨w.heap.size + 1 + 1, 0, none⟩ = some (.int .u64 0) ∧ W.cell? ⟨w.heap.size + 1 + 1, 1, none⟩ = some (.int .u64 0)) → (w.heap.size < W.heap.size ∧ w.heap.size + 1 < W.heap.size ∧ w.heap.size + 1 + 1 < W.heap.size)) := box (fun W h => ⟨(Array.getElem?_eq_some_iff.1 h.2.1).1, (Array.getElem?_eq_some_iff.1 h.2.2.1).1, (Array.getElem?_eq_some_iff.1 h.2.2.2.1).1⟩)
      have sT : Box (∀ (W : World) (gN : Nat) (xA : Array Value), (Below w.heap.size w W ∧ W.heap[w.heap.size]? = some (Obj.cells (pt c s X rr) 30) ∧ W.heap[w.heap.size + 1]? = some (Obj.cells #[.int .u64 0, .int .u64 0] 25) ∧ W.heap[w.heap.size + 1 + 1]? = some (Obj.cells #[.int .u64 0, .int .u64 0] 25) ∧ W.cell? ⟨w.heap.size, 0, none⟩ = some (.int .u8 (c : Nat)) ∧ W.cell? ⟨w.heap.size, 1, none⟩ = some (.int .u64 ((wd s 0 : Nat) : Int)) ∧ W.cell? ⟨w.heap.size, 2, none⟩ = some (.int .u64 ((wd s 1 : Nat) : Int)) ∧ W.cell? ⟨w.heap.size, 3, none⟩ = some (.int .u64 ((wd s 2 : Nat) : Int)) ∧ W.cell? ⟨w.heap.size, 4, none⟩ = some (.int .u64 ((wd s 3 : Nat) : Int)) ∧ W.cell? ⟨w.heap.size, 5, none⟩ = some (.int .u64 ((wd s 4 : Nat) : Int)) ∧ W.cell? ⟨w.heap.size, 6, none⟩ = some (.int .u64 ((wd s 5 : Nat) : Int)) ∧ W.cell? ⟨w.heap.size, 7, none⟩ = some (.int .i64 X) ∧ W.cell? ⟨w.heap.size, 8, none⟩ = some (.int .u64 ((wd rr 0 : Nat) : Int)) ∧ W.cell? ⟨w.heap.size, 9, none⟩ = some (.int .u64 ((wd rr 1 : Nat) : Int)) ∧ W.cell? ⟨w.heap.size, 10, none⟩ = some (.int .u64 ((wd rr 2 : Nat) : Int)) ∧ W.cell? ⟨w.heap.size, 11, none⟩ = some (.int .u64 ((wd rr 3 : Nat) : Int)) ∧ W.cell? ⟨w.heap.size, 12, none⟩ = some (.int .u64 ((wd rr 4 : Nat) : Int)) ∧ W.cell? ⟨w.heap.size, 13, none⟩ = some (.int .u64 ((wd rr 5 : Nat) : Int)) ∧ W.cell? ⟨w.heap.size + 1, 0, none⟩ = some (.int .u64 0) ∧ W.cell? ⟨w.heap.size + 1, 1, none⟩ = some (.int .u64 0) ∧ W.cell? ⟨w.heap.size + 1 + 1, 0, none⟩ = some (.int .u64 0) ∧ W.cell? ⟨w.heap.size + 1 + 1, 1, none⟩ = some (.int .u64 0)) → (w.heap.size < gN ∧ w.heap.size + 1 < gN ∧ w.heap.size + 1 + 1 < gN) → (Below w.heap.size w (W.setRow gN xA) ∧ (W.setRow gN xA).heap[w.heap.size]? = some (Obj.cells (pt c s X rr) 30) ∧ (W.setRow gN xA).heap[w.heap.size + 1]? = some (Obj.cells #[.int .u64 0, .int .u64 0] 25) ∧ (W.setRow gN xA).heap[w.heap.size + 1 + 1]? = some (Obj.cells #[.int .u64 0, .int .u64 0] 25) ∧ (W.setRow gN xA).cell? ⟨w.heap.size, 0, none⟩ = some (.int .u8 (c : Nat)) ∧ (W.setRow gN xA).cell? ⟨w.heap.size, 1, none⟩ = some (.int .u64 ((wd s 0 : Nat) : Int)) ∧ (W.setRow gN xA).cell? ⟨w.heap.size, 2, none⟩ = some (.int .u64 ((wd s 1 : Nat) : Int)) ∧ (W.setRow gN xA).cell? ⟨w.heap.size, 3, none⟩ = some (.int .u64 ((wd s 2 : Nat) : Int)) ∧ (W.setRow gN xA).cell? ⟨w.heap.size, 4, none⟩ = some (.int .u64 ((wd s 3 : Nat) : Int)) ∧ (W.setRow gN xA).cell? ⟨w.heap.size, 5, none⟩ = some (.int .u64 ((wd s 4 : Nat) : Int)) ∧ (W.setRow gN xA).cell? ⟨w.heap.size, 6, none⟩ = some (.int .u64 ((wd s 5 : Nat) : Int)) ∧ (W.setRow gN xA).cell? ⟨w.heap.size, 7, none⟩ = some (.int .i64 X) ∧ (W.setRow gN xA).cell? ⟨w.heap.size, 8, none⟩ = some (.int .u64 ((wd rr 0 : Nat) : Int)) ∧ (W.setRow gN xA).cell? ⟨w.heap.size, 9, none⟩ = some (.int .u64 ((wd rr 1 : Nat) : Int)) ∧ (W.setRow gN xA).cell? ⟨w.heap.size, 10, none⟩ = some (.int .u64 ((wd rr 2 : Nat) : Int)) ∧ (W.setRow gN xA).cell? ⟨w.heap.size, 11, none⟩ = some (.int .u64 ((wd rr 3 : Nat) : Int)) ∧ (W.setRow gN xA).cell? ⟨w.heap.size, 12, none⟩ = some (.int .u64 ((wd rr 4 : Nat) : Int)) ∧ (W.setRow gN xA).cell? ⟨w.heap.size, 13, none⟩ = some (.int .u64 ((wd rr 5 : Nat) : Int)) ∧ (W.setRow gN xA).cell? ⟨w.heap.size + 1, 0, none⟩ = some (.int .u64 0) ∧ (W.setRow gN xA).cell? ⟨w.heap.size + 1, 1, none⟩ = some (.int .u64 0) ∧ (W.setRow gN xA).cell? ⟨w.heap.size + 1 + 1, 0, none⟩ = some (.int .u64 0) ∧ (W.setRow gN xA).cell? ⟨w.heap.size + 1 + 1, 1, none⟩ = some (.int .u64 0))) := box (fun W gN xA h l => ⟨bel_set h.1 (show w.heap.size ≤ gN by have := l.1; omega), (setRow_other (by have := l.1; omega)).trans h.2.1, (setRow_other (by have := l.2.1; omega)).trans h.2.2.1, (setRow_other (by have := l.2.2; omega)).trans h.2.2.2.1, cell7 ((setRow_other (by have := l.1; omega)).trans h.2.1) 0 _ rfl, cell7 ((setRow_other (by have := l.1; omega)).trans h.2.1) 1 _ rfl, cell7 ((setRow_other (by have := l.1; omega)).trans h.2.1) 2 _ rfl, cell7 ((setRow_other (by have := l.1; omega)).trans h.2.1) 3 _ rfl, cell7 ((setRow_other (by have := l.1; omega)).trans h.2.1) 4 _ rfl, cell7 ((setRow_other (by have := l.1; omega)).trans h.2.1) 5 _ rfl, cell7 ((setRow_other (by have := l.1; omega)).trans h.2.1) 6 _ rfl, cell7 ((setRow_other (by have := l.1; omega)).trans h.2.1) 7 _ rfl, cell7 ((setRow_other (by have := l.1; omega)).trans h.2.1) 8 _ rfl, cell7 ((setRow_other (by have := l.1; omega)).trans h.2.1) 9 _ rfl, cell7 ((setRow_other (by have := l.1; omega)).trans h.2.1) 10 _ rfl, cell7 ((setRow_other (by have := l.1; omega)).trans h.2.1) 11 _ rfl, cell7 ((setRow_other (by have := l.1; omega)).trans h.2.1) 12 _ rfl, cell7 ((setRow_other (by have := l.1; omega)).trans h.2.1) 13 _ rfl, cell7 ((setRow_other (by have := l.2.1; omega)).trans h.2.2.1) 0 _ rfl, cell7 ((setRow_other (by have := l.2.1; omega)).trans h.2.2.1) 1 _ rfl, cell7 ((setRow_other (by have := l.2.2; omega)).trans h.2.2.2.1) 0 _ rfl, cell7 ((setRow_other (by have := l.2.2; omega)).trans h.2.2.2.1) 1 _ rfl⟩)
      have s0 : Below w.heap.size w (w1).drew ∧ (w1).drew.heap[w.heap.size]? = some (Obj.cells (pt c s X rr) 30) ∧ (w1).drew.heap[w.heap.size + 1]? = some (Obj.cells #[.int .u64 0, .int .u64 0] 25) ∧ (w1).drew.heap[w.heap.size + 1 + 1]? = some (Obj.cells #[.int .u64 0, .int .u64 0] 25) ∧ (w1).drew.cell? ⟨w.heap.size, 0, none⟩ = some (.int .u8 (c : Nat)) ∧ (w1).drew.cell? ⟨w.heap.size, 1, none⟩ = some (.int .u64 ((wd s 0 : Nat) : Int)) ∧ (w1).drew.cell? ⟨w.heap.size, 2, none⟩ = some (.int .u64 ((wd s 1 : Nat) : Int)) ∧ (w1).drew.cell? ⟨w.heap.size, 3, none⟩ = some (.int .u64 ((wd s 2 : Nat) : Int)) ∧ (w1).drew.cell? ⟨w.heap.size, 4, none⟩ = some (.int .u64 ((wd s 3 : Nat) : Int)) ∧ (w1).drew.cell? ⟨w.heap.size, 5, none⟩ = some (.int .u64 ((wd s 4 : Nat) : Int)) ∧ (w1).drew.cell? ⟨w.heap.size, 6, none⟩ = some (.int .u64 ((wd s 5 : Nat) : Int)) ∧ (w1).drew.cell? ⟨w.heap.size, 7, none⟩ = some (.int .i64 X) ∧ (w1).drew.cell? ⟨w.heap.size, 8, none⟩ = some (.int .u64 ((wd rr 0 : Nat) : Int)) ∧ (w1).drew.cell? ⟨w.heap.size, 9, none⟩ = some (.int .u64 ((wd rr 1 : Nat) : Int)) ∧ (w1).drew.cell? ⟨w.heap.size, 10, none⟩ = some (.int .u64 ((wd rr 2 : Nat) : Int)) ∧ (w1).drew.cell? ⟨w.heap.size, 11, none⟩ = some (.int .u64 ((wd rr 3 : Nat) : Int)) ∧ (w1).drew.cell? ⟨w.heap.size, 12, none⟩ = some (.int .u64 ((wd rr 4 : Nat) : Int)) ∧ (w1).drew.cell? ⟨w.heap.size, 13, none⟩ = some (.int .u64 ((wd rr 5 : Nat) : Int)) ∧ (w1).drew.cell? ⟨w.heap.size + 1, 0, none⟩ = some (.int .u64 0) ∧ (w1).drew.cell? ⟨w.heap.size + 1, 1, none⟩ = some (.int .u64 0) ∧ (w1).drew.cell? ⟨w.heap.size + 1 + 1, 0, none⟩ = some (.int .u64 0) ∧ (w1).drew.cell? ⟨w.heap.size + 1 + 1, 1, none⟩ = some (.int .u64 0) := ⟨B1.drew, Rp_1, Rz_1, Rb_1, cell7 (Rp_1) 0 _ rfl, cell7 (Rp_1) 1 _ rfl, cell7 (Rp_1) 2 _ rfl, cell7 (Rp_1) 3 _ rfl, cell7 (Rp_1) 4 _ rfl, cell7 (Rp_1) 5 _ rfl, cell7 (Rp_1) 6 _ rfl, cell7 (Rp_1) 7 _ rfl, cell7 (Rp_1) 8 _ rfl, cell7 (Rp_1) 9 _ rfl, cell7 (Rp_1) 10 _ rfl, cell7 (Rp_1) 11 _ rfl, cell7 (Rp_1) 12 _ rfl, cell7 (Rp_1) 13 _ rfl, cell7 (Rz_1) 0 _ rfl, cell7 (Rz_1) 1 _ rfl, cell7 (Rb_1) 0 _ rfl, cell7 (Rb_1) 1 _ rfl⟩
      clear B1 Rp_1 cp_1_0 cp_1_1 cp_1_2 cp_1_3 cp_1_4 cp_1_5 cp_1_6 cp_1_7 cp_1_8 cp_1_9 cp_1_10 cp_1_11 cp_1_12 cp_1_13 Rz_1 cz_1_0 cz_1_1 Rb_1 cb_1_0 cb_1_1
      go_wp2_with fail
      apply cut7
      · intro key0
        have key := box key0
        clear key0
        go_region_held3 (fun W => Below w.heap.size w W ∧ W.heap[w.heap.size]? = some (Obj.cells (pt c s X rr) 30) ∧ W.heap[w.heap.size + 1]? = some (Obj.cells #[.int .u64 0, .int .u64 0] 25) ∧ W.heap[w.heap.size + 1 + 1]? = some (Obj.cells #[.int .u64 0, .int .u64 0] 25) ∧ W.cell? ⟨w.heap.size, 0, none⟩ = some (.int .u8 (c : Nat)) ∧ W.cell? ⟨w.heap.size, 1, none⟩ = some (.int .u64 ((wd s 0 : Nat) : Int)) ∧ W.cell? ⟨w.heap.size, 2, none⟩ = some (.int .u64 ((wd s 1 : Nat) : Int)) ∧ W.cell? ⟨w.heap.size, 3, none⟩ = some (.int .u64 ((wd s 2 : Nat) : Int)) ∧ W.cell? ⟨w.heap.size, 4, none⟩ = some (.int .u64 ((wd s 3 : Nat) : Int)) ∧ W.cell? ⟨w.heap.size, 5, none⟩ = some (.int .u64 ((wd s 4 : Nat) : Int)) ∧ W.cell? ⟨w.heap.size, 6, none⟩ = some (.int .u64 ((wd s 5 : Nat) : Int)) ∧ W.cell? ⟨w.heap.size, 7, none⟩ = some (.int .i64 X) ∧ W.cell? ⟨w.heap.size, 8, none⟩ = some (.int .u64 ((wd rr 0 : Nat) : Int)) ∧ W.cell? ⟨w.heap.size, 9, none⟩ = some (.int .u64 ((wd rr 1 : Nat) : Int)) ∧ W.cell? ⟨w.heap.size, 10, none⟩ = some (.int .u64 ((wd rr 2 : Nat) : Int)) ∧ W.cell? ⟨w.heap.size, 11, none⟩ = some (.int .u64 ((wd rr 3 : Nat) : Int)) ∧ W.cell? ⟨w.heap.size, 12, none⟩ = some (.int .u64 ((wd rr 4 : Nat) : Int)) ∧ W.cell? ⟨w.heap.size, 13, none⟩ = some (.int .u64 ((wd rr 5 : Nat) : Int)) ∧ W.cell? ⟨w.heap.size + 1, 0, none⟩ = some (.int .u64 0) ∧ W.cell? ⟨w.heap.size + 1, 1, none⟩ = some (.int .u64 0) ∧ W.cell? ⟨w.heap.size + 1 + 1, 0, none⟩ = some (.int .u64 0) ∧ W.cell? ⟨w.heap.size + 1 + 1, 1, none⟩ = some (.int .u64 0)) (first | exact s1 | exact s0 | exact sS.out _ _ s1 (bal7 _ _) | exact sS.out _ _ s0 (bal7 _ _) | exact sT.out _ _ _ s1 hl)
          (first | (go_at_call 34; (first | refine (KM.out _).mono ?_ | refine (KM.out _).mono ?_); rintro r wq ⟨rfl, bq⟩; (first | (have hg := heap_of bq _ _ _ (heap_alloc_last _ _); have hl := (by first | exact sL.out _ s1 | exact sL.out _ s0)) | have hg := heap_of bq _ _ _ hg | skip); (try simp only [size_dr, size_al] at hg hl); (first | have hst := st_any _ _ (t) 0 hg | skip); have s2 := (by first | exact sS.out _ _ s1 bq | exact sS.out _ _ s0 bq | exact sS.out _ _ (sS.out _ _ s1 (bal7 _ _)) bq | exact sS.out _ _ (sS.out _ _ s0 (bal7 _ _)) bq); (try clear s1); have s1 := s2; clear s2 bq) | (go_at_call 33; (first | refine (KA.out _).mono ?_ | refine (KA.out _).mono ?_); rintro r wq ⟨rfl, bq⟩; (first | (have hg := heap_of bq _ _ _ (heap_alloc_last _ _); have hl := (by first | exact sL.out _ s1 | exact sL.out _ s0)) | have hg := heap_of bq _ _ _ hg | skip); (try simp only [size_dr, size_al] at hg hl); (first | have hst := st_any _ _ (t) 0 hg | skip); have s2 := (by first | exact sS.out _ _ s1 bq | exact sS.out _ _ s0 bq | exact sS.out _ _ (sS.out _ _ s1 (bal7 _ _)) bq | exact sS.out _ _ (sS.out _ _ s0 (bal7 _ _)) bq); (try clear s1); have s1 := s2; clear s2 bq) | fail)
        all_goals
          refine gen_abacusref08_Pack_9 (R := fun W gN => (Below w.heap.size w W ∧ W.heap[w.heap.size]? = some (Obj.cells (pt c s X rr) 30) ∧ W.heap[w.heap.size + 1]? = some (Obj.cells #[.int .u64 0, .int .u64 0] 25) ∧ W.heap[w.heap.size + 1 + 1]? = some (Obj.cells #[.int .u64 0, .int .u64 0] 25) ∧ W.cell? ⟨w.heap.size, 0, none⟩ = some (.int .u8 (c : Nat)) ∧ W.cell? ⟨w.heap.size, 1, none⟩ = some (.int .u64 ((wd s 0 : Nat) : Int)) ∧ W.cell? ⟨w.heap.size, 2, none⟩ = some (.int .u64 ((wd s 1 : Nat) : Int)) ∧ W.cell? ⟨w.heap.size, 3, none⟩ = some (.int .u64 ((wd s 2 : Nat) : Int)) ∧ W.cell? ⟨w.heap.size, 4, none⟩ = some (.int .u64 ((wd s 3 : Nat) : Int)) ∧ W.cell? ⟨w.heap.size, 5, none⟩ = some (.int .u64 ((wd s 4 : Nat) : Int)) ∧ W.cell? ⟨w.heap.size, 6, none⟩ = some (.int .u64 ((wd s 5 : Nat) : Int)) ∧ W.cell? ⟨w.heap.size, 7, none⟩ = some (.int .i64 X) ∧ W.cell? ⟨w.heap.size, 8, none⟩ = some (.int .u64 ((wd rr 0 : Nat) : Int)) ∧ W.cell? ⟨w.heap.size, 9, none⟩ = some (.int .u64 ((wd rr 1 : Nat) : Int)) ∧ W.cell? ⟨w.heap.size, 10, none⟩ = some (.int .u64 ((wd rr 2 : Nat) : Int)) ∧ W.cell? ⟨w.heap.size, 11, none⟩ = some (.int .u64 ((wd rr 3 : Nat) : Int)) ∧ W.cell? ⟨w.heap.size, 12, none⟩ = some (.int .u64 ((wd rr 4 : Nat) : Int)) ∧ W.cell? ⟨w.heap.size, 13, none⟩ = some (.int .u64 ((wd rr 5 : Nat) : Int)) ∧ W.cell? ⟨w.heap.size + 1, 0, none⟩ = some (.int .u64 0) ∧ W.cell? ⟨w.heap.size + 1, 1, none⟩ = some (.int .u64 0) ∧ W.cell? ⟨w.heap.size + 1 + 1, 0, none⟩ = some (.int .u64 0) ∧ W.cell? ⟨w.heap.size + 1 + 1, 1, none⟩ = some (.int .u64 0)) ∧ W.heap[gN]? = some (Obj.cells (cw 6 t) 28) ∧ (w.heap.size < gN ∧ w.heap.size + 1 < gN ∧ w.heap.size + 1 + 1 < gN)) key.out ?_
          first
            | exact ⟨sS.out _ _ s1 (bal7 _ _), heap_alloc_last _ _, sL.out _ s1⟩
            | exact ⟨sS.out _ _ s0 (bal7 _ _), heap_alloc_last _ _, sL.out _ s0⟩
            | exact ⟨(sT.out _ _ _ s1 hl), setRow_row hg, hl⟩
      rintro w2 g2 ⟨s1, Rt_2, l2⟩
      have B2 := And.left s1
      have Rp_2 := s1.2.1
      have Rz_2 := s1.2.2.1
      have Rb_2 := s1.2.2.2.1
      have H2 := box l2
      clear s0 s1 sS sL sT l2
      obtain ⟨cp_2_0, cp_2_1, cp_2_2, cp_2_3, cp_2_4, cp_2_5, cp_2_6, cp_2_7, cp_2_8, cp_2_9, cp_2_10, cp_2_11, cp_2_12, cp_2_13⟩ := pt_cells Rp_2
      obtain ⟨cz_2_0, cz_2_1⟩ := cell7t Rz_2
      obtain ⟨cb_2_0, cb_2_1⟩ := cell7t Rb_2
      have ct_2_0 := row_cell Rt_2
      go_wp2_with fail
      refine (KB.out _).mono ?_
      rintro r w3 ⟨rfl, b3⟩
      have B3 : Below w.heap.size w w3 := btr7 B2 b3
      have Rp_3 := heap_of b3 _ _ _ Rp_2
      have Rz_3 := heap_of b3 _ _ _ Rz_2
      have Rb_3 := heap_of b3 _ _ _ Rb_2
      have Rt_3 := heap_of b3 _ _ _ Rt_2
      clear b3 B2 Rp_2 cp_2_0 cp_2_1 cp_2_2 cp_2_3 cp_2_4 cp_2_5 cp_2_6 cp_2_7 cp_2_8 cp_2_9 cp_2_10 cp_2_11 cp_2_12 cp_2_13 Rz_2 cz_2_0 cz_2_1 Rb_2 cb_2_0 cb_2_1 Rt_2 ct_2_0
      obtain ⟨cp_3_0, cp_3_1, cp_3_2, cp_3_3, cp_3_4, cp_3_5, cp_3_6, cp_3_7, cp_3_8, cp_3_9, cp_3_10, cp_3_11, cp_3_12, cp_3_13⟩ := pt_cells Rp_3
      obtain ⟨cz_3_0, cz_3_1⟩ := cell7t Rz_3
      obtain ⟨cb_3_0, cb_3_1⟩ := cell7t Rb_3
      have ct_3_0 := row_cell Rt_3
      have q0_4 := fz (k := 0) Rb_3
      have q1_4 := fz (k := 1) Rb_3
      have B4 := set2_below B3 (show w.heap.size ≤ w.heap.size + 1 + 1 by first | exact Nat.le_refl _ | omega | (have := H2.out; omega)) (.int .u64 (u : Nat)) (.int .u64 (v : Nat))
      have Rb_4 : ((w3.setCell ⟨w.heap.size + 1 + 1, 0, none⟩ (.int .u64 (u : Nat))).setCell ⟨w.heap.size + 1 + 1, 1, none⟩ (.int .u64 (v : Nat))).heap[w.heap.size + 1 + 1]? = some (Obj.cells #[.int .u64 (u : Nat), .int .u64 (v : Nat)] 25) := set2_row Rb_3 _ _
      have Rp_4 : ((w3.setCell ⟨w.heap.size + 1 + 1, 0, none⟩ (.int .u64 (u : Nat))).setCell ⟨w.heap.size + 1 + 1, 1, none⟩ (.int .u64 (v : Nat))).heap[w.heap.size]? = some (Obj.cells (pt c s X rr) 30) := (setCell_other (by first | omega | (have := H2.out; omega))).trans ((setCell_other (by first | omega | (have := H2.out; omega))).trans Rp_3)
      have Rz_4 : ((w3.setCell ⟨w.heap.size + 1 + 1, 0, none⟩ (.int .u64 (u : Nat))).setCell ⟨w.heap.size + 1 + 1, 1, none⟩ (.int .u64 (v : Nat))).heap[w.heap.size + 1]? = some (Obj.cells #[.int .u64 0, .int .u64 0] 25) := (setCell_other (by first | omega | (have := H2.out; omega))).trans ((setCell_other (by first | omega | (have := H2.out; omega))).trans Rz_3)
      have Rt_4 : ((w3.setCell ⟨w.heap.size + 1 + 1, 0, none⟩ (.int .u64 (u : Nat))).setCell ⟨w.heap.size + 1 + 1, 1, none⟩ (.int .u64 (v : Nat))).heap[g2]? = some (Obj.cells (cw 6 t) 28) := (setCell_other (by first | omega | (have := H2.out; omega))).trans ((setCell_other (by first | omega | (have := H2.out; omega))).trans Rt_3)
      obtain ⟨cp_4_0, cp_4_1, cp_4_2, cp_4_3, cp_4_4, cp_4_5, cp_4_6, cp_4_7, cp_4_8, cp_4_9, cp_4_10, cp_4_11, cp_4_12, cp_4_13⟩ := pt_cells Rp_4
      obtain ⟨cz_4_0, cz_4_1⟩ := cell7t Rz_4
      obtain ⟨cb_4_0, cb_4_1⟩ := cell7t Rb_4
      have ct_4_0 := row_cell Rt_4
      go_wp2_with fail
      obtain ⟨F, hF1, hF2⟩ := below_fun ((w3.setCell ⟨w.heap.size + 1 + 1, 0, none⟩ (.int .u64 (u : Nat))).setCell ⟨w.heap.size + 1 + 1, 1, none⟩ (.int .u64 (v : Nat)))
      have fp_0 := fun u => cell7 (heap_of (hF1 u) _ _ _ Rp_4) 0 _ rfl
      have fp_1 := fun u => cell7 (heap_of (hF1 u) _ _ _ Rp_4) 1 _ rfl
      have fp_2 := fun u => cell7 (heap_of (hF1 u) _ _ _ Rp_4) 2 _ rfl
      have fp_3 := fun u => cell7 (heap_of (hF1 u) _ _ _ Rp_4) 3 _ rfl
      have fp_4 := fun u => cell7 (heap_of (hF1 u) _ _ _ Rp_4) 4 _ rfl
      have fp_5 := fun u => cell7 (heap_of (hF1 u) _ _ _ Rp_4) 5 _ rfl
      have fp_6 := fun u => cell7 (heap_of (hF1 u) _ _ _ Rp_4) 6 _ rfl
      have fp_7 := fun u => cell7 (heap_of (hF1 u) _ _ _ Rp_4) 7 _ rfl
      have fp_8 := fun u => cell7 (heap_of (hF1 u) _ _ _ Rp_4) 8 _ rfl
      have fp_9 := fun u => cell7 (heap_of (hF1 u) _ _ _ Rp_4) 9 _ rfl
      have fp_10 := fun u => cell7 (heap_of (hF1 u) _ _ _ Rp_4) 10 _ rfl
      have fp_11 := fun u => cell7 (heap_of (hF1 u) _ _ _ Rp_4) 11 _ rfl
      have fp_12 := fun u => cell7 (heap_of (hF1 u) _ _ _ Rp_4) 12 _ rfl
      have fp_13 := fun u => cell7 (heap_of (hF1 u) _ _ _ Rp_4) 13 _ rfl
      have fz_0 := fun u => cell7 (heap_of (hF1 u) _ _ _ Rz_4) 0 _ rfl
      have fz_1 := fun u => cell7 (heap_of (hF1 u) _ _ _ Rz_4) 1 _ rfl
      have fb_0 := fun u => cell7 (heap_of (hF1 u) _ _ _ Rb_4) 0 _ rfl
      have fb_1 := fun u => cell7 (heap_of (hF1 u) _ _ _ Rb_4) 1 _ rfl
      have ft_0 := fun u => row_cell (heap_of (hF1 u) _ _ _ Rt_4)
      refine wp_region_below F hF2 (by kernel_rfl) (by kernel_rfl) ?_
      repeat first | go_big_quiet_step (first | (go_at_call 8; exact quietF hF1 hF2 (KU.out _)) | fail) | quiet_step (first | (go_at_call 8; exact quietF hF1 hF2 (KU.out _)) | fail)
      refine wpQuiet_nil ?_
      rintro _ ⟨uW, rfl⟩
      have B5 := btr7 B4 (hF1 uW)
      have Rp_5 := heap_of (hF1 uW) _ _ _ Rp_4
      have Rz_5 := heap_of (hF1 uW) _ _ _ Rz_4
      have Rb_5 := heap_of (hF1 uW) _ _ _ Rb_4
      have Rt_5 := heap_of (hF1 uW) _ _ _ Rt_4
      obtain ⟨w5, hw⟩ : ∃ V, F uW = V := ⟨_, rfl⟩
      rw [hw] at B5 Rp_5 Rz_5 Rb_5 Rt_5
      try rw [hw]
      clear hw hF1 hF2 B4 fp_0 fp_1 fp_2 fp_3 fp_4 fp_5 fp_6 fp_7 fp_8 fp_9 fp_10 fp_11 fp_12 fp_13 fz_0 fz_1 fb_0 fb_1 ft_0 Rp_4 cp_4_0 cp_4_1 cp_4_2 cp_4_3 cp_4_4 cp_4_5 cp_4_6 cp_4_7 cp_4_8 cp_4_9 cp_4_10 cp_4_11 cp_4_12 cp_4_13 Rz_4 cz_4_0 cz_4_1 Rb_4 cb_4_0 cb_4_1 Rt_4 ct_4_0
      clear F
      obtain ⟨cp_5_0, cp_5_1, cp_5_2, cp_5_3, cp_5_4, cp_5_5, cp_5_6, cp_5_7, cp_5_8, cp_5_9, cp_5_10, cp_5_11, cp_5_12, cp_5_13⟩ := pt_cells Rp_5
      obtain ⟨cz_5_0, cz_5_1⟩ := cell7t Rz_5
      obtain ⟨cb_5_0, cb_5_1⟩ := cell7t Rb_5
      have ct_5_0 := row_cell Rt_5
      have q0 := fz (k := 0) Rz_5
      have q1 := fz (k := 1) Rz_5
      obtain ⟨E0, E1⟩ := set2_cells Rz_5 (.int .u64 0) (.int .u64 0)
      go_wp2
      exact bodyPost_ret (v := .tuple #[.agg #[.int .u64 0, .int .u64 0], .int .i64 80]) (by simp [results, Tryd.results12, go_sem, E0, E1]) rfl ⟨rfl, set2_below B5 (by first | exact Nat.le_refl _ | omega | (have := H2.out; omega)) _ _⟩
    · simp only [Bool.false_eq_true, if_false, if_true]
      obtain ⟨Rp_0, Rz_0, Rb_0, B0⟩ := kopn3 w (Obj.cells (pt c s X rr) 30) (Obj.cells #[.int .u64 0, .int .u64 0] 25) (Obj.cells #[.int .u64 0, .int .u64 0] 25)
      go_enter Tryd.func12, Tryd.ntmps12
      go_wp2_with fail
      refine (KP.out _).mono ?_
      rintro r w' ⟨rfl, hw'⟩
      obtain rfl := hw'.symm
      go_wp2_with fail
      refine (KE.out _).mono ?_
      rintro r w' ⟨rfl, hw'⟩
      obtain rfl := hw'.symm
      go_wp2_with fail
      obtain ⟨F, hF1, hF2⟩ := below_fun (((w.alloc (Obj.cells (pt c s X rr) 30)).alloc (Obj.cells #[.int .u64 0, .int .u64 0] 25)).alloc (Obj.cells #[.int .u64 0, .int .u64 0] 25))
      have fp_0 := fun u => cell7 (heap_of (hF1 u) _ _ _ Rp_0) 0 _ rfl
      have fp_1 := fun u => cell7 (heap_of (hF1 u) _ _ _ Rp_0) 1 _ rfl
      have fp_2 := fun u => cell7 (heap_of (hF1 u) _ _ _ Rp_0) 2 _ rfl
      have fp_3 := fun u => cell7 (heap_of (hF1 u) _ _ _ Rp_0) 3 _ rfl
      have fp_4 := fun u => cell7 (heap_of (hF1 u) _ _ _ Rp_0) 4 _ rfl
      have fp_5 := fun u => cell7 (heap_of (hF1 u) _ _ _ Rp_0) 5 _ rfl
      have fp_6 := fun u => cell7 (heap_of (hF1 u) _ _ _ Rp_0) 6 _ rfl
      have fp_7 := fun u => cell7 (heap_of (hF1 u) _ _ _ Rp_0) 7 _ rfl
      have fp_8 := fun u => cell7 (heap_of (hF1 u) _ _ _ Rp_0) 8 _ rfl
      have fp_9 := fun u => cell7 (heap_of (hF1 u) _ _ _ Rp_0) 9 _ rfl
      have fp_10 := fun u => cell7 (heap_of (hF1 u) _ _ _ Rp_0) 10 _ rfl
      have fp_11 := fun u => cell7 (heap_of (hF1 u) _ _ _ Rp_0) 11 _ rfl
      have fp_12 := fun u => cell7 (heap_of (hF1 u) _ _ _ Rp_0) 12 _ rfl
      have fp_13 := fun u => cell7 (heap_of (hF1 u) _ _ _ Rp_0) 13 _ rfl
      have fz_0 := fun u => cell7 (heap_of (hF1 u) _ _ _ Rz_0) 0 _ rfl
      have fz_1 := fun u => cell7 (heap_of (hF1 u) _ _ _ Rz_0) 1 _ rfl
      have fb_0 := fun u => cell7 (heap_of (hF1 u) _ _ _ Rb_0) 0 _ rfl
      have fb_1 := fun u => cell7 (heap_of (hF1 u) _ _ _ Rb_0) 1 _ rfl
      refine wp_region_below F hF2 (by kernel_rfl) (by kernel_rfl) ?_
      repeat first | go_big_quiet_step (first | (go_at_call 31; exact quietF hF1 hF2 (KN.out _)) | (go_at_call 25; exact quietF0 (KX.out _)) | fail) | quiet_step (first | (go_at_call 31; exact quietF hF1 hF2 (KN.out _)) | (go_at_call 25; exact quietF0 (KX.out _)) | fail)
      refine wpQuiet_nil ?_
      rintro _ ⟨uW, rfl⟩
      have B1 := btr7 B0 (hF1 uW)
      have Rp_1 := heap_of (hF1 uW) _ _ _ Rp_0
      have Rz_1 := heap_of (hF1 uW) _ _ _ Rz_0
      have Rb_1 := heap_of (hF1 uW) _ _ _ Rb_0
      obtain ⟨w1, hw⟩ : ∃ V, F uW = V := ⟨_, rfl⟩
      rw [hw] at B1 Rp_1 Rz_1 Rb_1
      try rw [hw]
      clear hw hF1 hF2 B0 fp_0 fp_1 fp_2 fp_3 fp_4 fp_5 fp_6 fp_7 fp_8 fp_9 fp_10 fp_11 fp_12 fp_13 fz_0 fz_1 fb_0 fb_1 Rp_0 Rz_0 Rb_0
      clear F
      obtain ⟨cp_1_0, cp_1_1, cp_1_2, cp_1_3, cp_1_4, cp_1_5, cp_1_6, cp_1_7, cp_1_8, cp_1_9, cp_1_10, cp_1_11, cp_1_12, cp_1_13⟩ := pt_cells Rp_1
      obtain ⟨cz_1_0, cz_1_1⟩ := cell7t Rz_1
      obtain ⟨cb_1_0, cb_1_1⟩ := cell7t Rb_1
      have sS : Box (∀ W W1 : World, (Below w.heap.size w W ∧ W.heap[w.heap.size]? = some (Obj.cells (pt c s X rr) 30) ∧ W.heap[w.heap.size + 1]? = some (Obj.cells #[.int .u64 0, .int .u64 0] 25) ∧ W.heap[w.heap.size + 1 + 1]? = some (Obj.cells #[.int .u64 0, .int .u64 0] 25) ∧ W.cell? ⟨w.heap.size, 0, none⟩ = some (.int .u8 (c : Nat)) ∧ W.cell? ⟨w.heap.size, 1, none⟩ = some (.int .u64 ((wd s 0 : Nat) : Int)) ∧ W.cell? ⟨w.heap.size, 2, none⟩ = some (.int .u64 ((wd s 1 : Nat) : Int)) ∧ W.cell? ⟨w.heap.size, 3, none⟩ = some (.int .u64 ((wd s 2 : Nat) : Int)) ∧ W.cell? ⟨w.heap.size, 4, none⟩ = some (.int .u64 ((wd s 3 : Nat) : Int)) ∧ W.cell? ⟨w.heap.size, 5, none⟩ = some (.int .u64 ((wd s 4 : Nat) : Int)) ∧ W.cell? ⟨w.heap.size, 6, none⟩ = some (.int .u64 ((wd s 5 : Nat) : Int)) ∧ W.cell? ⟨w.heap.size, 7, none⟩ = some (.int .i64 X) ∧ W.cell? ⟨w.heap.size, 8, none⟩ = some (.int .u64 ((wd rr 0 : Nat) : Int)) ∧ W.cell? ⟨w.heap.size, 9, none⟩ = some (.int .u64 ((wd rr 1 : Nat) : Int)) ∧ W.cell? ⟨w.heap.size, 10, none⟩ = some (.int .u64 ((wd rr 2 : Nat) : Int)) ∧ W.cell? ⟨w.heap.size, 11, none⟩ = some (.int .u64 ((wd rr 3 : Nat) : Int)) ∧ W.cell? ⟨w.heap.size, 12, none⟩ = some (.int .u64 ((wd rr 4 : Nat) : Int)) ∧ W.cell? ⟨w.heap.size, 13, none⟩ = some (.int .u64 ((wd rr 5 : Nat) : Int)) ∧ W.cell? ⟨w.heap.size + 1, 0, none⟩ = some (.int .u64 0) ∧ W.cell? ⟨w.heap.size + 1, 1, none⟩ = some (.int .u64 0) ∧ W.cell? ⟨w.heap.size + 1 + 1, 0, none⟩ = some (.int .u64 0) ∧ W.cell? ⟨w.heap.size + 1 + 1, 1, none⟩ = some (.int .u64 0)) → Below W.heap.size W W1 → (Below w.heap.size w W1 ∧ W1.heap[w.heap.size]? = some (Obj.cells (pt c s X rr) 30) ∧ W1.heap[w.heap.size + 1]? = some (Obj.cells #[.int .u64 0, .int .u64 0] 25) ∧ W1.heap[w.heap.size + 1 + 1]? = some (Obj.cells #[.int .u64 0, .int .u64 0] 25) ∧ W1.cell? ⟨w.heap.size, 0, none⟩ = some (.int .u8 (c : Nat)) ∧ W1.cell? ⟨w.heap.size, 1, none⟩ = some (.int .u64 ((wd s 0 : Nat) : Int)) ∧ W1.cell? ⟨w.heap.size, 2, none⟩ = some (.int .u64 ((wd s 1 : Nat) : Int)) ∧ W1.cell? ⟨w.heap.size, 3, none⟩ = some (.int .u64 ((wd s 2 : Nat) : Int)) ∧ W1.cell? ⟨w.heap.size, 4, none⟩ = some (.int .u64 ((wd s 3 : Nat) : Int)) ∧ W1.cell? ⟨w.heap.size, 5, none⟩ = some (.int .u64 ((wd s 4 : Nat) : Int)) ∧ W1.cell? ⟨w.heap.size, 6, none⟩ = some (.int .u64 ((wd s 5 : Nat) : Int)) ∧ W1.cell? ⟨w.heap.size, 7, none⟩ = some (.int .i64 X) ∧ W1.cell? ⟨w.heap.size, 8, none⟩ = some (.int .u64 ((wd rr 0 : Nat) : Int)) ∧ W1.cell? ⟨w.heap.size, 9, none⟩ = some (.int .u64 ((wd rr 1 : Nat) : Int)) ∧ W1.cell? ⟨w.heap.size, 10, none⟩ = some (.int .u64 ((wd rr 2 : Nat) : Int)) ∧ W1.cell? ⟨w.heap.size, 11, none⟩ = some (.int .u64 ((wd rr 3 : Nat) : Int)) ∧ W1.cell? ⟨w.heap.size, 12, none⟩ = some (.int .u64 ((wd rr 4 : Nat) : Int)) ∧ W1.cell? ⟨w.heap.size, 13, none⟩ = some (.int .u64 ((wd rr 5 : Nat) : Int)) ∧ W1.cell? ⟨w.heap.size + 1, 0, none⟩ = some (.int .u64 0) ∧ W1.cell? ⟨w.heap.size + 1, 1, none⟩ = some (.int .u64 0) ∧ W1.cell? ⟨w.heap.size + 1 + 1, 0, none⟩ = some (.int .u64 0) ∧ W1.cell? ⟨w.heap.size + 1 + 1, 1, none⟩ = some (.int .u64 0))) := box (fun W W1 h b => ⟨btr7 h.1 b, heap_of b _ _ _ h.2.1, heap_of b _ _ _ h.2.2.1, heap_of b _ _ _ h.2.2.2.1, cell7 (heap_of b _ _ _ h.2.1) 0 _ rfl, cell7 (heap_of b _ _ _ h.2.1) 1 _ rfl, cell7 (heap_of b _ _ _ h.2.1) 2 _ rfl, cell7 (heap_of b _ _ _ h.2.1) 3 _ rfl, cell7 (heap_of b _ _ _ h.2.1) 4 _ rfl, cell7 (heap_of b _ _ _ h.2.1) 5 _ rfl, cell7 (heap_of b _ _ _ h.2.1) 6 _ rfl, cell7 (heap_of b _ _ _ h.2.1) 7 _ rfl, cell7 (heap_of b _ _ _ h.2.1) 8 _ rfl, cell7 (heap_of b _ _ _ h.2.1) 9 _ rfl, cell7 (heap_of b _ _ _ h.2.1) 10 _ rfl, cell7 (heap_of b _ _ _ h.2.1) 11 _ rfl, cell7 (heap_of b _ _ _ h.2.1) 12 _ rfl, cell7 (heap_of b _ _ _ h.2.1) 13 _ rfl, cell7 (heap_of b _ _ _ h.2.2.1) 0 _ rfl, cell7 (heap_of b _ _ _ h.2.2.1) 1 _ rfl, cell7 (heap_of b _ _ _ h.2.2.2.1) 0 _ rfl, cell7 (heap_of b _ _ _ h.2.2.2.1) 1 _ rfl⟩)
      have sL : Box (∀ W : World, (Below w.heap.size w W ∧ W.heap[w.heap.size]? = some (Obj.cells (pt c s X rr) 30) ∧ W.heap[w.heap.size + 1]? = some (Obj.cells #[.int .u64 0, .int .u64 0] 25) ∧ W.heap[w.heap.size + 1 + 1]? = some (Obj.cells #[.int .u64 0, .int .u64 0] 25) ∧ W.cell? ⟨w.heap.size, 0, none⟩ = some (.int .u8 (c : Nat)) ∧ W.cell? ⟨w.heap.size, 1, none⟩ = some (.int .u64 ((wd s 0 : Nat) : Int)) ∧ W.cell? ⟨w.heap.size, 2, none⟩ = some (.int .u64 ((wd s 1 : Nat) : Int)) ∧ W.cell? ⟨w.heap.size, 3, none⟩ = some (.int .u64 ((wd s 2 : Nat) : Int)) ∧ W.cell? ⟨w.heap.size, 4, none⟩ = some (.int .u64 ((wd s 3 : Nat) : Int)) ∧ W.cell? ⟨w.heap.size, 5, none⟩ = some (.int .u64 ((wd s 4 : Nat) : Int)) ∧ W.cell? ⟨w.heap.size, 6, none⟩ = some (.int .u64 ((wd s 5 : Nat) : Int)) ∧ W.cell? ⟨w.heap.size, 7, none⟩ = some (.int .i64 X) ∧ W.cell? ⟨w.heap.size, 8, none⟩ = some (.int .u64 ((wd rr 0 : Nat) : Int)) ∧ W.cell? ⟨w.heap.size, 9, none⟩ = some (.int .u64 ((wd rr 1 : Nat) : Int)) ∧ W.cell? ⟨w.heap.size, 10, none⟩ = some (.int .u64 ((wd rr 2 : Nat) : Int)) ∧ W.cell? ⟨w.heap.size, 11, none⟩ = some (.int .u64 ((wd rr 3 : Nat) : Int)) ∧ W.cell? ⟨w.heap.size, 12, none⟩ = some (.int .u64 ((wd rr 4 : Nat) : Int)) ∧ W.cell? ⟨w.heap.size, 13, none⟩ = some (.int .u64 ((wd rr 5 : Nat) : Int)) ∧ W.cell? ⟨w.heap.size + 1, 0, none⟩ = some (.int .u64 0) ∧ W.cell? ⟨w.heap.size + 1, 1, none⟩ = some (.int .u64 0) ∧ W.cell? ⟨w.heap.size + 1 + 1, 0, none⟩ = some (.int .u64 0) ∧ W.cell? ⟨w.heap.size + 1 + 1, 1, none⟩ = some (.int .u64 0)) → (w.heap.size < W.heap.size ∧ w.heap.size + 1 < W.heap.size ∧ w.heap.size + 1 + 1 < W.heap.size)) := box (fun W h => ⟨(Array.getElem?_eq_some_iff.1 h.2.1).1, (Array.getElem?_eq_some_iff.1 h.2.2.1).1, (Array.getElem?_eq_some_iff.1 h.2.2.2.1).1⟩)
      have sT : Box (∀ (W : World) (gN : Nat) (xA : Array Value), (Below w.heap.size w W ∧ W.heap[w.heap.size]? = some (Obj.cells (pt c s X rr) 30) ∧ W.heap[w.heap.size + 1]? = some (Obj.cells #[.int .u64 0, .int .u64 0] 25) ∧ W.heap[w.heap.size + 1 + 1]? = some (Obj.cells #[.int .u64 0, .int .u64 0] 25) ∧ W.cell? ⟨w.heap.size, 0, none⟩ = some (.int .u8 (c : Nat)) ∧ W.cell? ⟨w.heap.size, 1, none⟩ = some (.int .u64 ((wd s 0 : Nat) : Int)) ∧ W.cell? ⟨w.heap.size, 2, none⟩ = some (.int .u64 ((wd s 1 : Nat) : Int)) ∧ W.cell? ⟨w.heap.size, 3, none⟩ = some (.int .u64 ((wd s 2 : Nat) : Int)) ∧ W.cell? ⟨w.heap.size, 4, none⟩ = some (.int .u64 ((wd s 3 : Nat) : Int)) ∧ W.cell? ⟨w.heap.size, 5, none⟩ = some (.int .u64 ((wd s 4 : Nat) : Int)) ∧ W.cell? ⟨w.heap.size, 6, none⟩ = some (.int .u64 ((wd s 5 : Nat) : Int)) ∧ W.cell? ⟨w.heap.size, 7, none⟩ = some (.int .i64 X) ∧ W.cell? ⟨w.heap.size, 8, none⟩ = some (.int .u64 ((wd rr 0 : Nat) : Int)) ∧ W.cell? ⟨w.heap.size, 9, none⟩ = some (.int .u64 ((wd rr 1 : Nat) : Int)) ∧ W.cell? ⟨w.heap.size, 10, none⟩ = some (.int .u64 ((wd rr 2 : Nat) : Int)) ∧ W.cell? ⟨w.heap.size, 11, none⟩ = some (.int .u64 ((wd rr 3 : Nat) : Int)) ∧ W.cell? ⟨w.heap.size, 12, none⟩ = some (.int .u64 ((wd rr 4 : Nat) : Int)) ∧ W.cell? ⟨w.heap.size, 13, none⟩ = some (.int .u64 ((wd rr 5 : Nat) : Int)) ∧ W.cell? ⟨w.heap.size + 1, 0, none⟩ = some (.int .u64 0) ∧ W.cell? ⟨w.heap.size + 1, 1, none⟩ = some (.int .u64 0) ∧ W.cell? ⟨w.heap.size + 1 + 1, 0, none⟩ = some (.int .u64 0) ∧ W.cell? ⟨w.heap.size + 1 + 1, 1, none⟩ = some (.int .u64 0)) → (w.heap.size < gN ∧ w.heap.size + 1 < gN ∧ w.heap.size + 1 + 1 < gN) → (Below w.heap.size w (W.setRow gN xA) ∧ (W.setRow gN xA).heap[w.heap.size]? = some (Obj.cells (pt c s X rr) 30) ∧ (W.setRow gN xA).heap[w.heap.size + 1]? = some (Obj.cells #[.int .u64 0, .int .u64 0] 25) ∧ (W.setRow gN xA).heap[w.heap.size + 1 + 1]? = some (Obj.cells #[.int .u64 0, .int .u64 0] 25) ∧ (W.setRow gN xA).cell? ⟨w.heap.size, 0, none⟩ = some (.int .u8 (c : Nat)) ∧ (W.setRow gN xA).cell? ⟨w.heap.size, 1, none⟩ = some (.int .u64 ((wd s 0 : Nat) : Int)) ∧ (W.setRow gN xA).cell? ⟨w.heap.size, 2, none⟩ = some (.int .u64 ((wd s 1 : Nat) : Int)) ∧ (W.setRow gN xA).cell? ⟨w.heap.size, 3, none⟩ = some (.int .u64 ((wd s 2 : Nat) : Int)) ∧ (W.setRow gN xA).cell? ⟨w.heap.size, 4, none⟩ = some (.int .u64 ((wd s 3 : Nat) : Int)) ∧ (W.setRow gN xA).cell? ⟨w.heap.size, 5, none⟩ = some (.int .u64 ((wd s 4 : Nat) : Int)) ∧ (W.setRow gN xA).cell? ⟨w.heap.size, 6, none⟩ = some (.int .u64 ((wd s 5 : Nat) : Int)) ∧ (W.setRow gN xA).cell? ⟨w.heap.size, 7, none⟩ = some (.int .i64 X) ∧ (W.setRow gN xA).cell? ⟨w.heap.size, 8, none⟩ = some (.int .u64 ((wd rr 0 : Nat) : Int)) ∧ (W.setRow gN xA).cell? ⟨w.heap.size, 9, none⟩ = some (.int .u64 ((wd rr 1 : Nat) : Int)) ∧ (W.setRow gN xA).cell? ⟨w.heap.size, 10, none⟩ = some (.int .u64 ((wd rr 2 : Nat) : Int)) ∧ (W.setRow gN xA).cell? ⟨w.heap.size, 11, none⟩ = some (.int .u64 ((wd rr 3 : Nat) : Int)) ∧ (W.setRow gN xA).cell? ⟨w.heap.size, 12, none⟩ = some (.int .u64 ((wd rr 4 : Nat) : Int)) ∧ (W.setRow gN xA).cell? ⟨w.heap.size, 13, none⟩ = some (.int .u64 ((wd rr 5 : Nat) : Int)) ∧ (W.setRow gN xA).cell? ⟨w.heap.size + 1, 0, none⟩ = some (.int .u64 0) ∧ (W.setRow gN xA).cell? ⟨w.heap.size + 1, 1, none⟩ = some (.int .u64 0) ∧ (W.setRow gN xA).cell? ⟨w.heap.size + 1 + 1, 0, none⟩ = some (.int .u64 0) ∧ (W.setRow gN xA).cell? ⟨w.heap.size + 1 + 1, 1, none⟩ = some (.int .u64 0))) := box (fun W gN xA h l => ⟨bel_set h.1 (show w.heap.size ≤ gN by have := l.1; omega), (setRow_other (by have := l.1; omega)).trans h.2.1, (setRow_other (by have := l.2.1; omega)).trans h.2.2.1, (setRow_other (by have := l.2.2; omega)).trans h.2.2.2.1, cell7 ((setRow_other (by have := l.1; omega)).trans h.2.1) 0 _ rfl, cell7 ((setRow_other (by have := l.1; omega)).trans h.2.1) 1 _ rfl, cell7 ((setRow_other (by have := l.1; omega)).trans h.2.1) 2 _ rfl, cell7 ((setRow_other (by have := l.1; omega)).trans h.2.1) 3 _ rfl, cell7 ((setRow_other (by have := l.1; omega)).trans h.2.1) 4 _ rfl, cell7 ((setRow_other (by have := l.1; omega)).trans h.2.1) 5 _ rfl, cell7 ((setRow_other (by have := l.1; omega)).trans h.2.1) 6 _ rfl, cell7 ((setRow_other (by have := l.1; omega)).trans h.2.1) 7 _ rfl, cell7 ((setRow_other (by have := l.1; omega)).trans h.2.1) 8 _ rfl, cell7 ((setRow_other (by have := l.1; omega)).trans h.2.1) 9 _ rfl, cell7 ((setRow_other (by have := l.1; omega)).trans h.2.1) 10 _ rfl, cell7 ((setRow_other (by have := l.1; omega)).trans h.2.1) 11 _ rfl, cell7 ((setRow_other (by have := l.1; omega)).trans h.2.1) 12 _ rfl, cell7 ((setRow_other (by have := l.1; omega)).trans h.2.1) 13 _ rfl, cell7 ((setRow_other (by have := l.2.1; omega)).trans h.2.2.1) 0 _ rfl, cell7 ((setRow_other (by have := l.2.1; omega)).trans h.2.2.1) 1 _ rfl, cell7 ((setRow_other (by have := l.2.2; omega)).trans h.2.2.2.1) 0 _ rfl, cell7 ((setRow_other (by have := l.2.2; omega)).trans h.2.2.2.1) 1 _ rfl⟩)
      have s0 : Below w.heap.size w (w1).drew ∧ (w1).drew.heap[w.heap.size]? = some (Obj.cells (pt c s X rr) 30) ∧ (w1).drew.heap[w.heap.size + 1]? = some (Obj.cells #[.int .u64 0, .int .u64 0] 25) ∧ (w1).drew.heap[w.heap.size + 1 + 1]? = some (Obj.cells #[.int .u64 0, .int .u64 0] 25) ∧ (w1).drew.cell? ⟨w.heap.size, 0, none⟩ = some (.int .u8 (c : Nat)) ∧ (w1).drew.cell? ⟨w.heap.size, 1, none⟩ = some (.int .u64 ((wd s 0 : Nat) : Int)) ∧ (w1).drew.cell? ⟨w.heap.size, 2, none⟩ = some (.int .u64 ((wd s 1 : Nat) : Int)) ∧ (w1).drew.cell? ⟨w.heap.size, 3, none⟩ = some (.int .u64 ((wd s 2 : Nat) : Int)) ∧ (w1).drew.cell? ⟨w.heap.size, 4, none⟩ = some (.int .u64 ((wd s 3 : Nat) : Int)) ∧ (w1).drew.cell? ⟨w.heap.size, 5, none⟩ = some (.int .u64 ((wd s 4 : Nat) : Int)) ∧ (w1).drew.cell? ⟨w.heap.size, 6, none⟩ = some (.int .u64 ((wd s 5 : Nat) : Int)) ∧ (w1).drew.cell? ⟨w.heap.size, 7, none⟩ = some (.int .i64 X) ∧ (w1).drew.cell? ⟨w.heap.size, 8, none⟩ = some (.int .u64 ((wd rr 0 : Nat) : Int)) ∧ (w1).drew.cell? ⟨w.heap.size, 9, none⟩ = some (.int .u64 ((wd rr 1 : Nat) : Int)) ∧ (w1).drew.cell? ⟨w.heap.size, 10, none⟩ = some (.int .u64 ((wd rr 2 : Nat) : Int)) ∧ (w1).drew.cell? ⟨w.heap.size, 11, none⟩ = some (.int .u64 ((wd rr 3 : Nat) : Int)) ∧ (w1).drew.cell? ⟨w.heap.size, 12, none⟩ = some (.int .u64 ((wd rr 4 : Nat) : Int)) ∧ (w1).drew.cell? ⟨w.heap.size, 13, none⟩ = some (.int .u64 ((wd rr 5 : Nat) : Int)) ∧ (w1).drew.cell? ⟨w.heap.size + 1, 0, none⟩ = some (.int .u64 0) ∧ (w1).drew.cell? ⟨w.heap.size + 1, 1, none⟩ = some (.int .u64 0) ∧ (w1).drew.cell? ⟨w.heap.size + 1 + 1, 0, none⟩ = some (.int .u64 0) ∧ (w1).drew.cell? ⟨w.heap.size + 1 + 1, 1, none⟩ = some (.int .u64 0) := ⟨B1.drew, Rp_1, Rz_1, Rb_1, cell7 (Rp_1) 0 _ rfl, cell7 (Rp_1) 1 _ rfl, cell7 (Rp_1) 2 _ rfl, cell7 (Rp_1) 3 _ rfl, cell7 (Rp_1) 4 _ rfl, cell7 (Rp_1) 5 _ rfl, cell7 (Rp_1) 6 _ rfl, cell7 (Rp_1) 7 _ rfl, cell7 (Rp_1) 8 _ rfl, cell7 (Rp_1) 9 _ rfl, cell7 (Rp_1) 10 _ rfl, cell7 (Rp_1) 11 _ rfl, cell7 (Rp_1) 12 _ rfl, cell7 (Rp_1) 13 _ rfl, cell7 (Rz_1) 0 _ rfl, cell7 (Rz_1) 1 _ rfl, cell7 (Rb_1) 0 _ rfl, cell7 (Rb_1) 1 _ rfl⟩
      clear B1 Rp_1 cp_1_0 cp_1_1 cp_1_2 cp_1_3 cp_1_4 cp_1_5 cp_1_6 cp_1_7 cp_1_8 cp_1_9 cp_1_10 cp_1_11 cp_1_12 cp_1_13 Rz_1 cz_1_0 cz_1_1 Rb_1 cb_1_0 cb_1_1
      go_wp2_with fail
      apply cut7
      · intro key0
        have key := box key0
        clear key0
        go_region_held3 (fun W => Below w.heap.size w W ∧ W.heap[w.heap.size]? = some (Obj.cells (pt c s X rr) 30) ∧ W.heap[w.heap.size + 1]? = some (Obj.cells #[.int .u64 0, .int .u64 0] 25) ∧ W.heap[w.heap.size + 1 + 1]? = some (Obj.cells #[.int .u64 0, .int .u64 0] 25) ∧ W.cell? ⟨w.heap.size, 0, none⟩ = some (.int .u8 (c : Nat)) ∧ W.cell? ⟨w.heap.size, 1, none⟩ = some (.int .u64 ((wd s 0 : Nat) : Int)) ∧ W.cell? ⟨w.heap.size, 2, none⟩ = some (.int .u64 ((wd s 1 : Nat) : Int)) ∧ W.cell? ⟨w.heap.size, 3, none⟩ = some (.int .u64 ((wd s 2 : Nat) : Int)) ∧ W.cell? ⟨w.heap.size, 4, none⟩ = some (.int .u64 ((wd s 3 : Nat) : Int)) ∧ W.cell? ⟨w.heap.size, 5, none⟩ = some (.int .u64 ((wd s 4 : Nat) : Int)) ∧ W.cell? ⟨w.heap.size, 6, none⟩ = some (.int .u64 ((wd s 5 : Nat) : Int)) ∧ W.cell? ⟨w.heap.size, 7, none⟩ = some (.int .i64 X) ∧ W.cell? ⟨w.heap.size, 8, none⟩ = some (.int .u64 ((wd rr 0 : Nat) : Int)) ∧ W.cell? ⟨w.heap.size, 9, none⟩ = some (.int .u64 ((wd rr 1 : Nat) : Int)) ∧ W.cell? ⟨w.heap.size, 10, none⟩ = some (.int .u64 ((wd rr 2 : Nat) : Int)) ∧ W.cell? ⟨w.heap.size, 11, none⟩ = some (.int .u64 ((wd rr 3 : Nat) : Int)) ∧ W.cell? ⟨w.heap.size, 12, none⟩ = some (.int .u64 ((wd rr 4 : Nat) : Int)) ∧ W.cell? ⟨w.heap.size, 13, none⟩ = some (.int .u64 ((wd rr 5 : Nat) : Int)) ∧ W.cell? ⟨w.heap.size + 1, 0, none⟩ = some (.int .u64 0) ∧ W.cell? ⟨w.heap.size + 1, 1, none⟩ = some (.int .u64 0) ∧ W.cell? ⟨w.heap.size + 1 + 1, 0, none⟩ = some (.int .u64 0) ∧ W.cell? ⟨w.heap.size + 1 + 1, 1, none⟩ = some (.int .u64 0)) (first | exact s1 | exact s0 | exact sS.out _ _ s1 (bal7 _ _) | exact sS.out _ _ s0 (bal7 _ _) | exact sT.out _ _ _ s1 hl)
          (first | (go_at_call 34; (first | refine (KM.out _).mono ?_ | refine (KM.out _).mono ?_); rintro r wq ⟨rfl, bq⟩; (first | (have hg := heap_of bq _ _ _ (heap_alloc_last _ _); have hl := (by first | exact sL.out _ s1 | exact sL.out _ s0)) | have hg := heap_of bq _ _ _ hg | skip); (try simp only [size_dr, size_al] at hg hl); (first | have hst := st_any _ _ (t) 0 hg | skip); have s2 := (by first | exact sS.out _ _ s1 bq | exact sS.out _ _ s0 bq | exact sS.out _ _ (sS.out _ _ s1 (bal7 _ _)) bq | exact sS.out _ _ (sS.out _ _ s0 (bal7 _ _)) bq); (try clear s1); have s1 := s2; clear s2 bq) | (go_at_call 33; (first | refine (KA.out _).mono ?_ | refine (KA.out _).mono ?_); rintro r wq ⟨rfl, bq⟩; (first | (have hg := heap_of bq _ _ _ (heap_alloc_last _ _); have hl := (by first | exact sL.out _ s1 | exact sL.out _ s0)) | have hg := heap_of bq _ _ _ hg | skip); (try simp only [size_dr, size_al] at hg hl); (first | have hst := st_any _ _ (t) 0 hg | skip); have s2 := (by first | exact sS.out _ _ s1 bq | exact sS.out _ _ s0 bq | exact sS.out _ _ (sS.out _ _ s1 (bal7 _ _)) bq | exact sS.out _ _ (sS.out _ _ s0 (bal7 _ _)) bq); (try clear s1); have s1 := s2; clear s2 bq) | fail)
        all_goals
          refine gen_abacusref08_Pack_9 (R := fun W gN => (Below w.heap.size w W ∧ W.heap[w.heap.size]? = some (Obj.cells (pt c s X rr) 30) ∧ W.heap[w.heap.size + 1]? = some (Obj.cells #[.int .u64 0, .int .u64 0] 25) ∧ W.heap[w.heap.size + 1 + 1]? = some (Obj.cells #[.int .u64 0, .int .u64 0] 25) ∧ W.cell? ⟨w.heap.size, 0, none⟩ = some (.int .u8 (c : Nat)) ∧ W.cell? ⟨w.heap.size, 1, none⟩ = some (.int .u64 ((wd s 0 : Nat) : Int)) ∧ W.cell? ⟨w.heap.size, 2, none⟩ = some (.int .u64 ((wd s 1 : Nat) : Int)) ∧ W.cell? ⟨w.heap.size, 3, none⟩ = some (.int .u64 ((wd s 2 : Nat) : Int)) ∧ W.cell? ⟨w.heap.size, 4, none⟩ = some (.int .u64 ((wd s 3 : Nat) : Int)) ∧ W.cell? ⟨w.heap.size, 5, none⟩ = some (.int .u64 ((wd s 4 : Nat) : Int)) ∧ W.cell? ⟨w.heap.size, 6, none⟩ = some (.int .u64 ((wd s 5 : Nat) : Int)) ∧ W.cell? ⟨w.heap.size, 7, none⟩ = some (.int .i64 X) ∧ W.cell? ⟨w.heap.size, 8, none⟩ = some (.int .u64 ((wd rr 0 : Nat) : Int)) ∧ W.cell? ⟨w.heap.size, 9, none⟩ = some (.int .u64 ((wd rr 1 : Nat) : Int)) ∧ W.cell? ⟨w.heap.size, 10, none⟩ = some (.int .u64 ((wd rr 2 : Nat) : Int)) ∧ W.cell? ⟨w.heap.size, 11, none⟩ = some (.int .u64 ((wd rr 3 : Nat) : Int)) ∧ W.cell? ⟨w.heap.size, 12, none⟩ = some (.int .u64 ((wd rr 4 : Nat) : Int)) ∧ W.cell? ⟨w.heap.size, 13, none⟩ = some (.int .u64 ((wd rr 5 : Nat) : Int)) ∧ W.cell? ⟨w.heap.size + 1, 0, none⟩ = some (.int .u64 0) ∧ W.cell? ⟨w.heap.size + 1, 1, none⟩ = some (.int .u64 0) ∧ W.cell? ⟨w.heap.size + 1 + 1, 0, none⟩ = some (.int .u64 0) ∧ W.cell? ⟨w.heap.size + 1 + 1, 1, none⟩ = some (.int .u64 0)) ∧ W.heap[gN]? = some (Obj.cells (cw 6 t) 28) ∧ (w.heap.size < gN ∧ w.heap.size + 1 < gN ∧ w.heap.size + 1 + 1 < gN)) key.out ?_
          first
            | exact ⟨sS.out _ _ s1 (bal7 _ _), heap_alloc_last _ _, sL.out _ s1⟩
            | exact ⟨sS.out _ _ s0 (bal7 _ _), heap_alloc_last _ _, sL.out _ s0⟩
            | exact ⟨(sT.out _ _ _ s1 hl), setRow_row hg, hl⟩
      rintro w2 g2 ⟨s1, Rt_2, l2⟩
      have B2 := And.left s1
      have Rp_2 := s1.2.1
      have Rz_2 := s1.2.2.1
      have Rb_2 := s1.2.2.2.1
      have H2 := box l2
      clear s0 s1 sS sL sT l2
      obtain ⟨cp_2_0, cp_2_1, cp_2_2, cp_2_3, cp_2_4, cp_2_5, cp_2_6, cp_2_7, cp_2_8, cp_2_9, cp_2_10, cp_2_11, cp_2_12, cp_2_13⟩ := pt_cells Rp_2
      obtain ⟨cz_2_0, cz_2_1⟩ := cell7t Rz_2
      obtain ⟨cb_2_0, cb_2_1⟩ := cell7t Rb_2
      have ct_2_0 := row_cell Rt_2
      go_wp2_with fail
      refine (KB.out _).mono ?_
      rintro r w3 ⟨rfl, b3⟩
      have B3 : Below w.heap.size w w3 := btr7 B2 b3
      have Rp_3 := heap_of b3 _ _ _ Rp_2
      have Rz_3 := heap_of b3 _ _ _ Rz_2
      have Rb_3 := heap_of b3 _ _ _ Rb_2
      have Rt_3 := heap_of b3 _ _ _ Rt_2
      clear b3 B2 Rp_2 cp_2_0 cp_2_1 cp_2_2 cp_2_3 cp_2_4 cp_2_5 cp_2_6 cp_2_7 cp_2_8 cp_2_9 cp_2_10 cp_2_11 cp_2_12 cp_2_13 Rz_2 cz_2_0 cz_2_1 Rb_2 cb_2_0 cb_2_1 Rt_2 ct_2_0
      obtain ⟨cp_3_0, cp_3_1, cp_3_2, cp_3_3, cp_3_4, cp_3_5, cp_3_6, cp_3_7, cp_3_8, cp_3_9, cp_3_10, cp_3_11, cp_3_12, cp_3_13⟩ := pt_cells Rp_3
      obtain ⟨cz_3_0, cz_3_1⟩ := cell7t Rz_3
      obtain ⟨cb_3_0, cb_3_1⟩ := cell7t Rb_3
      have ct_3_0 := row_cell Rt_3
      have q0_4 := fz (k := 0) Rb_3
      have q1_4 := fz (k := 1) Rb_3
      have B4 := set2_below B3 (show w.heap.size ≤ w.heap.size + 1 + 1 by first | exact Nat.le_refl _ | omega | (have := H2.out; omega)) (.int .u64 (u : Nat)) (.int .u64 (v : Nat))
      have Rb_4 : ((w3.setCell ⟨w.heap.size + 1 + 1, 0, none⟩ (.int .u64 (u : Nat))).setCell ⟨w.heap.size + 1 + 1, 1, none⟩ (.int .u64 (v : Nat))).heap[w.heap.size + 1 + 1]? = some (Obj.cells #[.int .u64 (u : Nat), .int .u64 (v : Nat)] 25) := set2_row Rb_3 _ _
      have Rp_4 : ((w3.setCell ⟨w.heap.size + 1 + 1, 0, none⟩ (.int .u64 (u : Nat))).setCell ⟨w.heap.size + 1 + 1, 1, none⟩ (.int .u64 (v : Nat))).heap[w.heap.size]? = some (Obj.cells (pt c s X rr) 30) := (setCell_other (by first | omega | (have := H2.out; omega))).trans ((setCell_other (by first | omega | (have := H2.out; omega))).trans Rp_3)
      have Rz_4 : ((w3.setCell ⟨w.heap.size + 1 + 1, 0, none⟩ (.int .u64 (u : Nat))).setCell ⟨w.heap.size + 1 + 1, 1, none⟩ (.int .u64 (v : Nat))).heap[w.heap.size + 1]? = some (Obj.cells #[.int .u64 0, .int .u64 0] 25) := (setCell_other (by first | omega | (have := H2.out; omega))).trans ((setCell_other (by first | omega | (have := H2.out; omega))).trans Rz_3)
      have Rt_4 : ((w3.setCell ⟨w.heap.size + 1 + 1, 0, none⟩ (.int .u64 (u : Nat))).setCell ⟨w.heap.size + 1 + 1, 1, none⟩ (.int .u64 (v : Nat))).heap[g2]? = some (Obj.cells (cw 6 t) 28) := (setCell_other (by first | omega | (have := H2.out; omega))).trans ((setCell_other (by first | omega | (have := H2.out; omega))).trans Rt_3)
      obtain ⟨cp_4_0, cp_4_1, cp_4_2, cp_4_3, cp_4_4, cp_4_5, cp_4_6, cp_4_7, cp_4_8, cp_4_9, cp_4_10, cp_4_11, cp_4_12, cp_4_13⟩ := pt_cells Rp_4
      obtain ⟨cz_4_0, cz_4_1⟩ := cell7t Rz_4
      obtain ⟨cb_4_0, cb_4_1⟩ := cell7t Rb_4
      have ct_4_0 := row_cell Rt_4
      go_wp2_with fail
      obtain ⟨F, hF1, hF2⟩ := below_fun ((w3.setCell ⟨w.heap.size + 1 + 1, 0, none⟩ (.int .u64 (u : Nat))).setCell ⟨w.heap.size + 1 + 1, 1, none⟩ (.int .u64 (v : Nat)))
      have fp_0 := fun u => cell7 (heap_of (hF1 u) _ _ _ Rp_4) 0 _ rfl
      have fp_1 := fun u => cell7 (heap_of (hF1 u) _ _ _ Rp_4) 1 _ rfl
      have fp_2 := fun u => cell7 (heap_of (hF1 u) _ _ _ Rp_4) 2 _ rfl
      have fp_3 := fun u => cell7 (heap_of (hF1 u) _ _ _ Rp_4) 3 _ rfl
      have fp_4 := fun u => cell7 (heap_of (hF1 u) _ _ _ Rp_4) 4 _ rfl
      have fp_5 := fun u => cell7 (heap_of (hF1 u) _ _ _ Rp_4) 5 _ rfl
      have fp_6 := fun u => cell7 (heap_of (hF1 u) _ _ _ Rp_4) 6 _ rfl
      have fp_7 := fun u => cell7 (heap_of (hF1 u) _ _ _ Rp_4) 7 _ rfl
      have fp_8 := fun u => cell7 (heap_of (hF1 u) _ _ _ Rp_4) 8 _ rfl
      have fp_9 := fun u => cell7 (heap_of (hF1 u) _ _ _ Rp_4) 9 _ rfl
      have fp_10 := fun u => cell7 (heap_of (hF1 u) _ _ _ Rp_4) 10 _ rfl
      have fp_11 := fun u => cell7 (heap_of (hF1 u) _ _ _ Rp_4) 11 _ rfl
      have fp_12 := fun u => cell7 (heap_of (hF1 u) _ _ _ Rp_4) 12 _ rfl
      have fp_13 := fun u => cell7 (heap_of (hF1 u) _ _ _ Rp_4) 13 _ rfl
      have fz_0 := fun u => cell7 (heap_of (hF1 u) _ _ _ Rz_4) 0 _ rfl
      have fz_1 := fun u => cell7 (heap_of (hF1 u) _ _ _ Rz_4) 1 _ rfl
      have fb_0 := fun u => cell7 (heap_of (hF1 u) _ _ _ Rb_4) 0 _ rfl
      have fb_1 := fun u => cell7 (heap_of (hF1 u) _ _ _ Rb_4) 1 _ rfl
      have ft_0 := fun u => row_cell (heap_of (hF1 u) _ _ _ Rt_4)
      refine wp_region_below F hF2 (by kernel_rfl) (by kernel_rfl) ?_
      repeat first | go_big_quiet_step (first | (go_at_call 8; exact quietF hF1 hF2 (KU.out _)) | fail) | quiet_step (first | (go_at_call 8; exact quietF hF1 hF2 (KU.out _)) | fail)
      refine wpQuiet_nil ?_
      rintro _ ⟨uW, rfl⟩
      have B5 := btr7 B4 (hF1 uW)
      have Rp_5 := heap_of (hF1 uW) _ _ _ Rp_4
      have Rz_5 := heap_of (hF1 uW) _ _ _ Rz_4
      have Rb_5 := heap_of (hF1 uW) _ _ _ Rb_4
      have Rt_5 := heap_of (hF1 uW) _ _ _ Rt_4
      obtain ⟨w5, hw⟩ : ∃ V, F uW = V := ⟨_, rfl⟩
      rw [hw] at B5 Rp_5 Rz_5 Rb_5 Rt_5
      try rw [hw]
      clear hw hF1 hF2 B4 fp_0 fp_1 fp_2 fp_3 fp_4 fp_5 fp_6 fp_7 fp_8 fp_9 fp_10 fp_11 fp_12 fp_13 fz_0 fz_1 fb_0 fb_1 ft_0 Rp_4 cp_4_0 cp_4_1 cp_4_2 cp_4_3 cp_4_4 cp_4_5 cp_4_6 cp_4_7 cp_4_8 cp_4_9 cp_4_10 cp_4_11 cp_4_12 cp_4_13 Rz_4 cz_4_0 cz_4_1 Rb_4 cb_4_0 cb_4_1 Rt_4 ct_4_0
      clear F
      obtain ⟨cp_5_0, cp_5_1, cp_5_2, cp_5_3, cp_5_4, cp_5_5, cp_5_6, cp_5_7, cp_5_8, cp_5_9, cp_5_10, cp_5_11, cp_5_12, cp_5_13⟩ := pt_cells Rp_5
      obtain ⟨cz_5_0, cz_5_1⟩ := cell7t Rz_5
      obtain ⟨cb_5_0, cb_5_1⟩ := cell7t Rb_5
      have ct_5_0 := row_cell Rt_5
      have q0 := fz (k := 0) Rz_5
      have q1 := fz (k := 1) Rz_5
      obtain ⟨E0, E1⟩ := set2_cells Rz_5 (.int .u64 (u : Nat)) (.int .u64 (v : Nat))
      go_wp2
      exact bodyPost_ret (v := .tuple #[.agg #[.int .u64 (u : Nat), .int .u64 (v : Nat)], .int .i64 0]) (by simp [results, Tryd.results12, go_sem, E0, E1]) rfl ⟨rfl, set2_below B5 (by first | exact Nat.le_refl _ | omega | (have := H2.out; omega)) _ _⟩
set_option maxRecDepth 100000 in
set_option maxHeartbeats 2000000 in
theorem rpack_n6 (f q X Y : Int) (c s rr u v C S R : Nat) (E : Bool) (l t K e : Nat) (k m M L M2 : Int) (w : World)
    (KP : Box (∀ w, Calls Tryd.prog 20 #[.int .u8 f] w fun r w' => r = .returned (.int .i64 q) ∧ w' = w))
    (KU : Box (∀ w, Calls Tryd.prog 8 #[.int .u8 f, .agg #[.int .u64 (u : Nat), .int .u64 (v : Nat)]] w fun r w' => r = .returned (.agg (pt C S Y R)) ∧ Below w.heap.size w w'))
    (ls : S < Q) (lr : R < Q) (hs : s < Q) (hr : rr < Q) (hE : (decide (C = c) && (decide (S = s) && (decide (Y = X) && decide (R = rr)))) = E)
    (KN : Box (∀ w, Calls Tryd.prog 31 #[.agg (cw 6 s)] w fun r w' => r = .returned (.int .i64 (l : Nat)) ∧ Below w.heap.size w w')) (h1 : IntKind.i64.wrap (q - 1) = k)
    (KE : Box (∀ w, Calls Tryd.prog 21 #[.int .u8 f] w fun r w' => r = .returned (.int .i64 m) ∧ w' = w)) (h2 : IntKind.i64.wrap (m - q) = m - q) (h3 : IntKind.i64.wrap (m - q + 1) = L)
    (KX : Box (∀ w, Calls Tryd.prog 25 #[.int .u8 f] w fun r w' => r = .returned (.int .i64 M) ∧ w' = w)) (h4 : IntKind.i64.wrap (M - q) = M - q) (h5 : IntKind.i64.wrap (M - q + 1) = M2)
    (c1 : ((l : Int) != q) = false) (c2 : decide (X < L) = false) (c3 : decide (M2 < X) = false)
    (KM : Box (∀ w, Calls Tryd.prog 34 #[.int .i64 k] w fun r w' => r = .returned (.agg (cw 6 K)) ∧ Below w.heap.size w w')) (KA : Box (∀ w, Calls Tryd.prog 33 #[.agg (cw 6 s), .agg (cw 6 K)] w fun r w' => r = .returned (.agg (cw 6 t)) ∧ Below w.heap.size w w'))
    (h6 : IntKind.i64.wrap (X - L) = X - L) (h7 : IntKind.i64.wrap (X - L + 1) = (e : Int))
    (KB : Box (∀ w, Calls Tryd.prog 32 #[.int .u8 f, .bool false, .int .i64 (e : Nat), .agg (cw 6 t)] w fun r w' => r = .returned (.agg #[.int .u64 (u : Nat), .int .u64 (v : Nat)]) ∧ Below w.heap.size w w'))
    (hc : c = 6) : Calls Tryd.prog 12 #[.int .u8 f, .agg (pt c s X rr)] w fun r w' => r = .returned (.tuple #[.agg #[.int .u64 (if E then (u : Int) else 0), .int .u64 (if E then (v : Int) else 0)], .int .i64 (if E then 0 else 80)]) ∧ Below w.heap.size w w' := by
  have hat := cw_at 6
  have hz := cw6z
  have hff := cw6f
  have hs0 := st0
  have hcs : ∀ x, ((cw 6 x).size = 6) = True := fun x => eq_true (cw_size 6 x)
  have hp1 := ptf
  have hp3 := ptz
  have hp4 := st_p0
  have hp5 : ∀ (c s : Nat) (x : Int) (r : Nat), ((pt c s x r).size = 14) = True := fun _ _ _ _ => eq_true rfl
  have heq := eqp
  have hg := eqgp
  have ha0 := pt_at0
  have ha1 := pt_at1
  have ha2 := pt_at2
  have ha3 := pt_at3
  have ha4 := pt_at4
  have ha5 := pt_at5
  have ha6 := pt_at6
  have ha7 := pt_at7
  have ha8 := pt_at8
  have ha9 := pt_at9
  have ha10 := pt_at10
  have ha11 := pt_at11
  have ha12 := pt_at12
  have ha13 := pt_at13
  have hb0 := pt_q0
  have hb1 := pt_q1
  have hb2 := pt_q2
  have hb3 := pt_q3
  have hb4 := pt_q4
  have hb5 := pt_q5
  have hb6 := pt_q6
  have hb7 := pt_q7
  have hb8 := pt_q8
  have hb9 := pt_q9
  have hb10 := pt_q10
  have hb11 := pt_q11
  have hb12 := pt_q12
  have hb13 := pt_q13
  · have f0 : ((c : Int) == 0) = false := by rw [hc]; rfl
    have f7 : ((c : Int) == 7) = false := by rw [hc]; rfl
    have f3 : ((c : Int) == 3) = false := by rw [hc]; rfl
    have f4 : ((c : Int) == 4) = false := by rw [hc]; rfl
    have f8 : ((c : Int) == 8) = false := by rw [hc]; rfl
    have f9 : ((c : Int) == 9) = false := by rw [hc]; rfl
    have f2 : ((c : Int) == 2) = false := by rw [hc]; rfl
    have f5 : ((c : Int) == 5) = false := by rw [hc]; rfl
    have f1 : ((c : Int) == 1) = false := by rw [hc]; rfl
    have f6 : ((c : Int) == 6) = true := by rw [hc]; rfl
    clear hc
    cases E
    · simp only [Bool.false_eq_true, if_false, if_true]
      obtain ⟨Rp_0, Rz_0, Rb_0, B0⟩ := kopn3 w (Obj.cells (pt c s X rr) 30) (Obj.cells #[.int .u64 0, .int .u64 0] 25) (Obj.cells #[.int .u64 0, .int .u64 0] 25)
      go_enter Tryd.func12, Tryd.ntmps12
      go_wp2_with fail
      refine (KP.out _).mono ?_
      rintro r w' ⟨rfl, hw'⟩
      obtain rfl := hw'.symm
      go_wp2_with fail
      refine (KE.out _).mono ?_
      rintro r w' ⟨rfl, hw'⟩
      obtain rfl := hw'.symm
      go_wp2_with fail
      obtain ⟨F, hF1, hF2⟩ := below_fun (((w.alloc (Obj.cells (pt c s X rr) 30)).alloc (Obj.cells #[.int .u64 0, .int .u64 0] 25)).alloc (Obj.cells #[.int .u64 0, .int .u64 0] 25))
      have fp_0 := fun u => cell7 (heap_of (hF1 u) _ _ _ Rp_0) 0 _ rfl
      have fp_1 := fun u => cell7 (heap_of (hF1 u) _ _ _ Rp_0) 1 _ rfl
      have fp_2 := fun u => cell7 (heap_of (hF1 u) _ _ _ Rp_0) 2 _ rfl
      have fp_3 := fun u => cell7 (heap_of (hF1 u) _ _ _ Rp_0) 3 _ rfl
      have fp_4 := fun u => cell7 (heap_of (hF1 u) _ _ _ Rp_0) 4 _ rfl
      have fp_5 := fun u => cell7 (heap_of (hF1 u) _ _ _ Rp_0) 5 _ rfl
      have fp_6 := fun u => cell7 (heap_of (hF1 u) _ _ _ Rp_0) 6 _ rfl
      have fp_7 := fun u => cell7 (heap_of (hF1 u) _ _ _ Rp_0) 7 _ rfl
      have fp_8 := fun u => cell7 (heap_of (hF1 u) _ _ _ Rp_0) 8 _ rfl
      have fp_9 := fun u => cell7 (heap_of (hF1 u) _ _ _ Rp_0) 9 _ rfl
      have fp_10 := fun u => cell7 (heap_of (hF1 u) _ _ _ Rp_0) 10 _ rfl
      have fp_11 := fun u => cell7 (heap_of (hF1 u) _ _ _ Rp_0) 11 _ rfl
      have fp_12 := fun u => cell7 (heap_of (hF1 u) _ _ _ Rp_0) 12 _ rfl
      have fp_13 := fun u => cell7 (heap_of (hF1 u) _ _ _ Rp_0) 13 _ rfl
      have fz_0 := fun u => cell7 (heap_of (hF1 u) _ _ _ Rz_0) 0 _ rfl
      have fz_1 := fun u => cell7 (heap_of (hF1 u) _ _ _ Rz_0) 1 _ rfl
      have fb_0 := fun u => cell7 (heap_of (hF1 u) _ _ _ Rb_0) 0 _ rfl
      have fb_1 := fun u => cell7 (heap_of (hF1 u) _ _ _ Rb_0) 1 _ rfl
      refine wp_region_below F hF2 (by kernel_rfl) (by kernel_rfl) ?_
      repeat first | go_big_quiet_step (first | (go_at_call 31; exact quietF hF1 hF2 (KN.out _)) | (go_at_call 25; exact quietF0 (KX.out _)) | fail) | quiet_step (first | (go_at_call 31; exact quietF hF1 hF2 (KN.out _)) | (go_at_call 25; exact quietF0 (KX.out _)) | fail)
      refine wpQuiet_nil ?_
      rintro _ ⟨uW, rfl⟩
      have B1 := btr7 B0 (hF1 uW)
      have Rp_1 := heap_of (hF1 uW) _ _ _ Rp_0
      have Rz_1 := heap_of (hF1 uW) _ _ _ Rz_0
      have Rb_1 := heap_of (hF1 uW) _ _ _ Rb_0
      obtain ⟨w1, hw⟩ : ∃ V, F uW = V := ⟨_, rfl⟩
      rw [hw] at B1 Rp_1 Rz_1 Rb_1
      try rw [hw]
      clear hw hF1 hF2 B0 fp_0 fp_1 fp_2 fp_3 fp_4 fp_5 fp_6 fp_7 fp_8 fp_9 fp_10 fp_11 fp_12 fp_13 fz_0 fz_1 fb_0 fb_1 Rp_0 Rz_0 Rb_0
      clear F
      obtain ⟨cp_1_0, cp_1_1, cp_1_2, cp_1_3, cp_1_4, cp_1_5, cp_1_6, cp_1_7, cp_1_8, cp_1_9, cp_1_10, cp_1_11, cp_1_12, cp_1_13⟩ := pt_cells Rp_1
      obtain ⟨cz_1_0, cz_1_1⟩ := cell7t Rz_1
      obtain ⟨cb_1_0, cb_1_1⟩ := cell7t Rb_1
      have sS : Box (∀ W W1 : World, (Below w.heap.size w W ∧ W.heap[w.heap.size]? = some (Obj.cells (pt c s X rr) 30) ∧ W.heap[w.heap.size + 1]? = some (Obj.cells #[.int .u64 0, .int .u64 0] 25) ∧ W.heap[w.heap.size + 1 + 1]? = some (Obj.cells #[.int .u64 0, .int .u64 0] 25) ∧ W.cell? ⟨w.heap.size, 0, none⟩ = some (.int .u8 (c : Nat)) ∧ W.cell? ⟨w.heap.size, 1, none⟩ = some (.int .u64 ((wd s 0 : Nat) : Int)) ∧ W.cell? ⟨w.heap.size, 2, none⟩ = some (.int .u64 ((wd s 1 : Nat) : Int)) ∧ W.cell? ⟨w.heap.size, 3, none⟩ = some (.int .u64 ((wd s 2 : Nat) : Int)) ∧ W.cell? ⟨w.heap.size, 4, none⟩ = some (.int .u64 ((wd s 3 : Nat) : Int)) ∧ W.cell? ⟨w.heap.size, 5, none⟩ = some (.int .u64 ((wd s 4 : Nat) : Int)) ∧ W.cell? ⟨w.heap.size, 6, none⟩ = some (.int .u64 ((wd s 5 : Nat) : Int)) ∧ W.cell? ⟨w.heap.size, 7, none⟩ = some (.int .i64 X) ∧ W.cell? ⟨w.heap.size, 8, none⟩ = some (.int .u64 ((wd rr 0 : Nat) : Int)) ∧ W.cell? ⟨w.heap.size, 9, none⟩ = some (.int .u64 ((wd rr 1 : Nat) : Int)) ∧ W.cell? ⟨w.heap.size, 10, none⟩ = some (.int .u64 ((wd rr 2 : Nat) : Int)) ∧ W.cell? ⟨w.heap.size, 11, none⟩ = some (.int .u64 ((wd rr 3 : Nat) : Int)) ∧ W.cell? ⟨w.heap.size, 12, none⟩ = some (.int .u64 ((wd rr 4 : Nat) : Int)) ∧ W.cell? ⟨w.heap.size, 13, none⟩ = some (.int .u64 ((wd rr 5 : Nat) : Int)) ∧ W.cell? ⟨w.heap.size + 1, 0, none⟩ = some (.int .u64 0) ∧ W.cell? ⟨w.heap.size + 1, 1, none⟩ = some (.int .u64 0) ∧ W.cell? ⟨w.heap.size + 1 + 1, 0, none⟩ = some (.int .u64 0) ∧ W.cell? ⟨w.heap.size + 1 + 1, 1, none⟩ = some (.int .u64 0)) → Below W.heap.size W W1 → (Below w.heap.size w W1 ∧ W1.heap[w.heap.size]? = some (Obj.cells (pt c s X rr) 30) ∧ W1.heap[w.heap.size + 1]? = some (Obj.cells #[.int .u64 0, .int .u64 0] 25) ∧ W1.heap[w.heap.size + 1 + 1]? = some (Obj.cells #[.int .u64 0, .int .u64 0] 25) ∧ W1.cell? ⟨w.heap.size, 0, none⟩ = some (.int .u8 (c : Nat)) ∧ W1.cell? ⟨w.heap.size, 1, none⟩ = some (.int .u64 ((wd s 0 : Nat) : Int)) ∧ W1.cell? ⟨w.heap.size, 2, none⟩ = some (.int .u64 ((wd s 1 : Nat) : Int)) ∧ W1.cell? ⟨w.heap.size, 3, none⟩ = some (.int .u64 ((wd s 2 : Nat) : Int)) ∧ W1.cell? ⟨w.heap.size, 4, none⟩ = some (.int .u64 ((wd s 3 : Nat) : Int)) ∧ W1.cell? ⟨w.heap.size, 5, none⟩ = some (.int .u64 ((wd s 4 : Nat) : Int)) ∧ W1.cell? ⟨w.heap.size, 6, none⟩ = some (.int .u64 ((wd s 5 : Nat) : Int)) ∧ W1.cell? ⟨w.heap.size, 7, none⟩ = some (.int .i64 X) ∧ W1.cell? ⟨w.heap.size, 8, none⟩ = some (.int .u64 ((wd rr 0 : Nat) : Int)) ∧ W1.cell? ⟨w.heap.size, 9, none⟩ = some (.int .u64 ((wd rr 1 : Nat) : Int)) ∧ W1.cell? ⟨w.heap.size, 10, none⟩ = some (.int .u64 ((wd rr 2 : Nat) : Int)) ∧ W1.cell? ⟨w.heap.size, 11, none⟩ = some (.int .u64 ((wd rr 3 : Nat) : Int)) ∧ W1.cell? ⟨w.heap.size, 12, none⟩ = some (.int .u64 ((wd rr 4 : Nat) : Int)) ∧ W1.cell? ⟨w.heap.size, 13, none⟩ = some (.int .u64 ((wd rr 5 : Nat) : Int)) ∧ W1.cell? ⟨w.heap.size + 1, 0, none⟩ = some (.int .u64 0) ∧ W1.cell? ⟨w.heap.size + 1, 1, none⟩ = some (.int .u64 0) ∧ W1.cell? ⟨w.heap.size + 1 + 1, 0, none⟩ = some (.int .u64 0) ∧ W1.cell? ⟨w.heap.size + 1 + 1, 1, none⟩ = some (.int .u64 0))) := box (fun W W1 h b => ⟨btr7 h.1 b, heap_of b _ _ _ h.2.1, heap_of b _ _ _ h.2.2.1, heap_of b _ _ _ h.2.2.2.1, cell7 (heap_of b _ _ _ h.2.1) 0 _ rfl, cell7 (heap_of b _ _ _ h.2.1) 1 _ rfl, cell7 (heap_of b _ _ _ h.2.1) 2 _ rfl, cell7 (heap_of b _ _ _ h.2.1) 3 _ rfl, cell7 (heap_of b _ _ _ h.2.1) 4 _ rfl, cell7 (heap_of b _ _ _ h.2.1) 5 _ rfl, cell7 (heap_of b _ _ _ h.2.1) 6 _ rfl, cell7 (heap_of b _ _ _ h.2.1) 7 _ rfl, cell7 (heap_of b _ _ _ h.2.1) 8 _ rfl, cell7 (heap_of b _ _ _ h.2.1) 9 _ rfl, cell7 (heap_of b _ _ _ h.2.1) 10 _ rfl, cell7 (heap_of b _ _ _ h.2.1) 11 _ rfl, cell7 (heap_of b _ _ _ h.2.1) 12 _ rfl, cell7 (heap_of b _ _ _ h.2.1) 13 _ rfl, cell7 (heap_of b _ _ _ h.2.2.1) 0 _ rfl, cell7 (heap_of b _ _ _ h.2.2.1) 1 _ rfl, cell7 (heap_of b _ _ _ h.2.2.2.1) 0 _ rfl, cell7 (heap_of b _ _ _ h.2.2.2.1) 1 _ rfl⟩)
      have sL : Box (∀ W : World, (Below w.heap.size w W ∧ W.heap[w.heap.size]? = some (Obj.cells (pt c s X rr) 30) ∧ W.heap[w.heap.size + 1]? = some (Obj.cells #[.int .u64 0, .int .u64 0] 25) ∧ W.heap[w.heap.size + 1 + 1]? = some (Obj.cells #[.int .u64 0, .int .u64 0] 25) ∧ W.cell? ⟨w.heap.size, 0, none⟩ = some (.int .u8 (c : Nat)) ∧ W.cell? ⟨w.heap.size, 1, none⟩ = some (.int .u64 ((wd s 0 : Nat) : Int)) ∧ W.cell? ⟨w.heap.size, 2, none⟩ = some (.int .u64 ((wd s 1 : Nat) : Int)) ∧ W.cell? ⟨w.heap.size, 3, none⟩ = some (.int .u64 ((wd s 2 : Nat) : Int)) ∧ W.cell? ⟨w.heap.size, 4, none⟩ = some (.int .u64 ((wd s 3 : Nat) : Int)) ∧ W.cell? ⟨w.heap.size, 5, none⟩ = some (.int .u64 ((wd s 4 : Nat) : Int)) ∧ W.cell? ⟨w.heap.size, 6, none⟩ = some (.int .u64 ((wd s 5 : Nat) : Int)) ∧ W.cell? ⟨w.heap.size, 7, none⟩ = some (.int .i64 X) ∧ W.cell? ⟨w.heap.size, 8, none⟩ = some (.int .u64 ((wd rr 0 : Nat) : Int)) ∧ W.cell? ⟨w.heap.size, 9, none⟩ = some (.int .u64 ((wd rr 1 : Nat) : Int)) ∧ W.cell? ⟨w.heap.size, 10, none⟩ = some (.int .u64 ((wd rr 2 : Nat) : Int)) ∧ W.cell? ⟨w.heap.size, 11, none⟩ = some (.int .u64 ((wd rr 3 : Nat) : Int)) ∧ W.cell? ⟨w.heap.size, 12, none⟩ = some (.int .u64 ((wd rr 4 : Nat) : Int)) ∧ W.cell? ⟨w.heap.size, 13, none⟩ = some (.int .u64 ((wd rr 5 : Nat) : Int)) ∧ W.cell? ⟨w.heap.size + 1, 0, none⟩ = some (.int .u64 0) ∧ W.cell? ⟨w.heap.size + 1, 1, none⟩ = some (.int .u64 0) ∧ W.cell? ⟨w.heap.size + 1 + 1, 0, none⟩ = some (.int .u64 0) ∧ W.cell? ⟨w.heap.size + 1 + 1, 1, none⟩ = some (.int .u64 0)) → (w.heap.size < W.heap.size ∧ w.heap.size + 1 < W.heap.size ∧ w.heap.size + 1 + 1 < W.heap.size)) := box (fun W h => ⟨(Array.getElem?_eq_some_iff.1 h.2.1).1, (Array.getElem?_eq_some_iff.1 h.2.2.1).1, (Array.getElem?_eq_some_iff.1 h.2.2.2.1).1⟩)
      have sT : Box (∀ (W : World) (gN : Nat) (xA : Array Value), (Below w.heap.size w W ∧ W.heap[w.heap.size]? = some (Obj.cells (pt c s X rr) 30) ∧ W.heap[w.heap.size + 1]? = some (Obj.cells #[.int .u64 0, .int .u64 0] 25) ∧ W.heap[w.heap.size + 1 + 1]? = some (Obj.cells #[.int .u64 0, .int .u64 0] 25) ∧ W.cell? ⟨w.heap.size, 0, none⟩ = some (.int .u8 (c : Nat)) ∧ W.cell? ⟨w.heap.size, 1, none⟩ = some (.int .u64 ((wd s 0 : Nat) : Int)) ∧ W.cell? ⟨w.heap.size, 2, none⟩ = some (.int .u64 ((wd s 1 : Nat) : Int)) ∧ W.cell? ⟨w.heap.size, 3, none⟩ = some (.int .u64 ((wd s 2 : Nat) : Int)) ∧ W.cell? ⟨w.heap.size, 4, none⟩ = some (.int .u64 ((wd s 3 : Nat) : Int)) ∧ W.cell? ⟨w.heap.size, 5, none⟩ = some (.int .u64 ((wd s 4 : Nat) : Int)) ∧ W.cell? ⟨w.heap.size, 6, none⟩ = some (.int .u64 ((wd s 5 : Nat) : Int)) ∧ W.cell? ⟨w.heap.size, 7, none⟩ = some (.int .i64 X) ∧ W.cell? ⟨w.heap.size, 8, none⟩ = some (.int .u64 ((wd rr 0 : Nat) : Int)) ∧ W.cell? ⟨w.heap.size, 9, none⟩ = some (.int .u64 ((wd rr 1 : Nat) : Int)) ∧ W.cell? ⟨w.heap.size, 10, none⟩ = some (.int .u64 ((wd rr 2 : Nat) : Int)) ∧ W.cell? ⟨w.heap.size, 11, none⟩ = some (.int .u64 ((wd rr 3 : Nat) : Int)) ∧ W.cell? ⟨w.heap.size, 12, none⟩ = some (.int .u64 ((wd rr 4 : Nat) : Int)) ∧ W.cell? ⟨w.heap.size, 13, none⟩ = some (.int .u64 ((wd rr 5 : Nat) : Int)) ∧ W.cell? ⟨w.heap.size + 1, 0, none⟩ = some (.int .u64 0) ∧ W.cell? ⟨w.heap.size + 1, 1, none⟩ = some (.int .u64 0) ∧ W.cell? ⟨w.heap.size + 1 + 1, 0, none⟩ = some (.int .u64 0) ∧ W.cell? ⟨w.heap.size + 1 + 1, 1, none⟩ = some (.int .u64 0)) → (w.heap.size < gN ∧ w.heap.size + 1 < gN ∧ w.heap.size + 1 + 1 < gN) → (Below w.heap.size w (W.setRow gN xA) ∧ (W.setRow gN xA).heap[w.heap.size]? = some (Obj.cells (pt c s X rr) 30) ∧ (W.setRow gN xA).heap[w.heap.size + 1]? = some (Obj.cells #[.int .u64 0, .int .u64 0] 25) ∧ (W.setRow gN xA).heap[w.heap.size + 1 + 1]? = some (Obj.cells #[.int .u64 0, .int .u64 0] 25) ∧ (W.setRow gN xA).cell? ⟨w.heap.size, 0, none⟩ = some (.int .u8 (c : Nat)) ∧ (W.setRow gN xA).cell? ⟨w.heap.size, 1, none⟩ = some (.int .u64 ((wd s 0 : Nat) : Int)) ∧ (W.setRow gN xA).cell? ⟨w.heap.size, 2, none⟩ = some (.int .u64 ((wd s 1 : Nat) : Int)) ∧ (W.setRow gN xA).cell? ⟨w.heap.size, 3, none⟩ = some (.int .u64 ((wd s 2 : Nat) : Int)) ∧ (W.setRow gN xA).cell? ⟨w.heap.size, 4, none⟩ = some (.int .u64 ((wd s 3 : Nat) : Int)) ∧ (W.setRow gN xA).cell? ⟨w.heap.size, 5, none⟩ = some (.int .u64 ((wd s 4 : Nat) : Int)) ∧ (W.setRow gN xA).cell? ⟨w.heap.size, 6, none⟩ = some (.int .u64 ((wd s 5 : Nat) : Int)) ∧ (W.setRow gN xA).cell? ⟨w.heap.size, 7, none⟩ = some (.int .i64 X) ∧ (W.setRow gN xA).cell? ⟨w.heap.size, 8, none⟩ = some (.int .u64 ((wd rr 0 : Nat) : Int)) ∧ (W.setRow gN xA).cell? ⟨w.heap.size, 9, none⟩ = some (.int .u64 ((wd rr 1 : Nat) : Int)) ∧ (W.setRow gN xA).cell? ⟨w.heap.size, 10, none⟩ = some (.int .u64 ((wd rr 2 : Nat) : Int)) ∧ (W.setRow gN xA).cell? ⟨w.heap.size, 11, none⟩ = some (.int .u64 ((wd rr 3 : Nat) : Int)) ∧ (W.setRow gN xA).cell? ⟨w.heap.size, 12, none⟩ = some (.int .u64 ((wd rr 4 : Nat) : Int)) ∧ (W.setRow gN xA).cell? ⟨w.heap.size, 13, none⟩ = some (.int .u64 ((wd rr 5 : Nat) : Int)) ∧ (W.setRow gN xA).cell? ⟨w.heap.size + 1, 0, none⟩ = some (.int .u64 0) ∧ (W.setRow gN xA).cell? ⟨w.heap.size + 1, 1, none⟩ = some (.int .u64 0) ∧ (W.setRow gN xA).cell? ⟨w.heap.size + 1 + 1, 0, none⟩ = some (.int .u64 0) ∧ (W.setRow gN xA).cell? ⟨w.heap.size + 1 + 1, 1, none⟩ = some (.int .u64 0))) := box (fun W gN xA h l => ⟨bel_set h.1 (show w.heap.size ≤ gN by have := l.1; omega), (setRow_other (by have := l.1; omega)).trans h.2.1, (setRow_other (by have := l.2.1; omega)).trans h.2.2.1, (setRow_other (by have := l.2.2; omega)).trans h.2.2.2.1, cell7 ((setRow_other (by have := l.1; omega)).trans h.2.1) 0 _ rfl, cell7 ((setRow_other (by have := l.1; omega)).trans h.2.1) 1 _ rfl, cell7 ((setRow_other (by have := l.1; omega)).trans h.2.1) 2 _ rfl, cell7 ((setRow_other (by have := l.1; omega)).trans h.2.1) 3 _ rfl, cell7 ((setRow_other (by have := l.1; omega)).trans h.2.1) 4 _ rfl, cell7 ((setRow_other (by have := l.1; omega)).trans h.2.1) 5 _ rfl, cell7 ((setRow_other (by have := l.1; omega)).trans h.2.1) 6 _ rfl, cell7 ((setRow_other (by have := l.1; omega)).trans h.2.1) 7 _ rfl, cell7 ((setRow_other (by have := l.1; omega)).trans h.2.1) 8 _ rfl, cell7 ((setRow_other (by have := l.1; omega)).trans h.2.1) 9 _ rfl, cell7 ((setRow_other (by have := l.1; omega)).trans h.2.1) 10 _ rfl, cell7 ((setRow_other (by have := l.1; omega)).trans h.2.1) 11 _ rfl, cell7 ((setRow_other (by have := l.1; omega)).trans h.2.1) 12 _ rfl, cell7 ((setRow_other (by have := l.1; omega)).trans h.2.1) 13 _ rfl, cell7 ((setRow_other (by have := l.2.1; omega)).trans h.2.2.1) 0 _ rfl, cell7 ((setRow_other (by have := l.2.1; omega)).trans h.2.2.1) 1 _ rfl, cell7 ((setRow_other (by have := l.2.2; omega)).trans h.2.2.2.1) 0 _ rfl, cell7 ((setRow_other (by have := l.2.2; omega)).trans h.2.2.2.1) 1 _ rfl⟩)
      have s0 : Below w.heap.size w (w1).drew ∧ (w1).drew.heap[w.heap.size]? = some (Obj.cells (pt c s X rr) 30) ∧ (w1).drew.heap[w.heap.size + 1]? = some (Obj.cells #[.int .u64 0, .int .u64 0] 25) ∧ (w1).drew.heap[w.heap.size + 1 + 1]? = some (Obj.cells #[.int .u64 0, .int .u64 0] 25) ∧ (w1).drew.cell? ⟨w.heap.size, 0, none⟩ = some (.int .u8 (c : Nat)) ∧ (w1).drew.cell? ⟨w.heap.size, 1, none⟩ = some (.int .u64 ((wd s 0 : Nat) : Int)) ∧ (w1).drew.cell? ⟨w.heap.size, 2, none⟩ = some (.int .u64 ((wd s 1 : Nat) : Int)) ∧ (w1).drew.cell? ⟨w.heap.size, 3, none⟩ = some (.int .u64 ((wd s 2 : Nat) : Int)) ∧ (w1).drew.cell? ⟨w.heap.size, 4, none⟩ = some (.int .u64 ((wd s 3 : Nat) : Int)) ∧ (w1).drew.cell? ⟨w.heap.size, 5, none⟩ = some (.int .u64 ((wd s 4 : Nat) : Int)) ∧ (w1).drew.cell? ⟨w.heap.size, 6, none⟩ = some (.int .u64 ((wd s 5 : Nat) : Int)) ∧ (w1).drew.cell? ⟨w.heap.size, 7, none⟩ = some (.int .i64 X) ∧ (w1).drew.cell? ⟨w.heap.size, 8, none⟩ = some (.int .u64 ((wd rr 0 : Nat) : Int)) ∧ (w1).drew.cell? ⟨w.heap.size, 9, none⟩ = some (.int .u64 ((wd rr 1 : Nat) : Int)) ∧ (w1).drew.cell? ⟨w.heap.size, 10, none⟩ = some (.int .u64 ((wd rr 2 : Nat) : Int)) ∧ (w1).drew.cell? ⟨w.heap.size, 11, none⟩ = some (.int .u64 ((wd rr 3 : Nat) : Int)) ∧ (w1).drew.cell? ⟨w.heap.size, 12, none⟩ = some (.int .u64 ((wd rr 4 : Nat) : Int)) ∧ (w1).drew.cell? ⟨w.heap.size, 13, none⟩ = some (.int .u64 ((wd rr 5 : Nat) : Int)) ∧ (w1).drew.cell? ⟨w.heap.size + 1, 0, none⟩ = some (.int .u64 0) ∧ (w1).drew.cell? ⟨w.heap.size + 1, 1, none⟩ = some (.int .u64 0) ∧ (w1).drew.cell? ⟨w.heap.size + 1 + 1, 0, none⟩ = some (.int .u64 0) ∧ (w1).drew.cell? ⟨w.heap.size + 1 + 1, 1, none⟩ = some (.int .u64 0) := ⟨B1.drew, Rp_1, Rz_1, Rb_1, cell7 (Rp_1) 0 _ rfl, cell7 (Rp_1) 1 _ rfl, cell7 (Rp_1) 2 _ rfl, cell7 (Rp_1) 3 _ rfl, cell7 (Rp_1) 4 _ rfl, cell7 (Rp_1) 5 _ rfl, cell7 (Rp_1) 6 _ rfl, cell7 (Rp_1) 7 _ rfl, cell7 (Rp_1) 8 _ rfl, cell7 (Rp_1) 9 _ rfl, cell7 (Rp_1) 10 _ rfl, cell7 (Rp_1) 11 _ rfl, cell7 (Rp_1) 12 _ rfl, cell7 (Rp_1) 13 _ rfl, cell7 (Rz_1) 0 _ rfl, cell7 (Rz_1) 1 _ rfl, cell7 (Rb_1) 0 _ rfl, cell7 (Rb_1) 1 _ rfl⟩
      clear B1 Rp_1 cp_1_0 cp_1_1 cp_1_2 cp_1_3 cp_1_4 cp_1_5 cp_1_6 cp_1_7 cp_1_8 cp_1_9 cp_1_10 cp_1_11 cp_1_12 cp_1_13 Rz_1 cz_1_0 cz_1_1 Rb_1 cb_1_0 cb_1_1
      go_wp2_with fail
      apply cut7
      · intro key0
        have key := box key0
        clear key0
        go_region_held3 (fun W => Below w.heap.size w W ∧ W.heap[w.heap.size]? = some (Obj.cells (pt c s X rr) 30) ∧ W.heap[w.heap.size + 1]? = some (Obj.cells #[.int .u64 0, .int .u64 0] 25) ∧ W.heap[w.heap.size + 1 + 1]? = some (Obj.cells #[.int .u64 0, .int .u64 0] 25) ∧ W.cell? ⟨w.heap.size, 0, none⟩ = some (.int .u8 (c : Nat)) ∧ W.cell? ⟨w.heap.size, 1, none⟩ = some (.int .u64 ((wd s 0 : Nat) : Int)) ∧ W.cell? ⟨w.heap.size, 2, none⟩ = some (.int .u64 ((wd s 1 : Nat) : Int)) ∧ W.cell? ⟨w.heap.size, 3, none⟩ = some (.int .u64 ((wd s 2 : Nat) : Int)) ∧ W.cell? ⟨w.heap.size, 4, none⟩ = some (.int .u64 ((wd s 3 : Nat) : Int)) ∧ W.cell? ⟨w.heap.size, 5, none⟩ = some (.int .u64 ((wd s 4 : Nat) : Int)) ∧ W.cell? ⟨w.heap.size, 6, none⟩ = some (.int .u64 ((wd s 5 : Nat) : Int)) ∧ W.cell? ⟨w.heap.size, 7, none⟩ = some (.int .i64 X) ∧ W.cell? ⟨w.heap.size, 8, none⟩ = some (.int .u64 ((wd rr 0 : Nat) : Int)) ∧ W.cell? ⟨w.heap.size, 9, none⟩ = some (.int .u64 ((wd rr 1 : Nat) : Int)) ∧ W.cell? ⟨w.heap.size, 10, none⟩ = some (.int .u64 ((wd rr 2 : Nat) : Int)) ∧ W.cell? ⟨w.heap.size, 11, none⟩ = some (.int .u64 ((wd rr 3 : Nat) : Int)) ∧ W.cell? ⟨w.heap.size, 12, none⟩ = some (.int .u64 ((wd rr 4 : Nat) : Int)) ∧ W.cell? ⟨w.heap.size, 13, none⟩ = some (.int .u64 ((wd rr 5 : Nat) : Int)) ∧ W.cell? ⟨w.heap.size + 1, 0, none⟩ = some (.int .u64 0) ∧ W.cell? ⟨w.heap.size + 1, 1, none⟩ = some (.int .u64 0) ∧ W.cell? ⟨w.heap.size + 1 + 1, 0, none⟩ = some (.int .u64 0) ∧ W.cell? ⟨w.heap.size + 1 + 1, 1, none⟩ = some (.int .u64 0)) (first | exact s1 | exact s0 | exact sS.out _ _ s1 (bal7 _ _) | exact sS.out _ _ s0 (bal7 _ _) | exact sT.out _ _ _ s1 hl)
          (first | (go_at_call 34; (first | refine (KM.out _).mono ?_ | refine (KM.out _).mono ?_); rintro r wq ⟨rfl, bq⟩; (first | (have hg := heap_of bq _ _ _ (heap_alloc_last _ _); have hl := (by first | exact sL.out _ s1 | exact sL.out _ s0)) | have hg := heap_of bq _ _ _ hg | skip); (try simp only [size_dr, size_al] at hg hl); (first | have hst := st_any _ _ (t) 0 hg | skip); have s2 := (by first | exact sS.out _ _ s1 bq | exact sS.out _ _ s0 bq | exact sS.out _ _ (sS.out _ _ s1 (bal7 _ _)) bq | exact sS.out _ _ (sS.out _ _ s0 (bal7 _ _)) bq); (try clear s1); have s1 := s2; clear s2 bq) | (go_at_call 33; (first | refine (KA.out _).mono ?_ | refine (KA.out _).mono ?_); rintro r wq ⟨rfl, bq⟩; (first | (have hg := heap_of bq _ _ _ (heap_alloc_last _ _); have hl := (by first | exact sL.out _ s1 | exact sL.out _ s0)) | have hg := heap_of bq _ _ _ hg | skip); (try simp only [size_dr, size_al] at hg hl); (first | have hst := st_any _ _ (t) 0 hg | skip); have s2 := (by first | exact sS.out _ _ s1 bq | exact sS.out _ _ s0 bq | exact sS.out _ _ (sS.out _ _ s1 (bal7 _ _)) bq | exact sS.out _ _ (sS.out _ _ s0 (bal7 _ _)) bq); (try clear s1); have s1 := s2; clear s2 bq) | fail)
        all_goals
          refine gen_abacusref08_Pack_9 (R := fun W gN => (Below w.heap.size w W ∧ W.heap[w.heap.size]? = some (Obj.cells (pt c s X rr) 30) ∧ W.heap[w.heap.size + 1]? = some (Obj.cells #[.int .u64 0, .int .u64 0] 25) ∧ W.heap[w.heap.size + 1 + 1]? = some (Obj.cells #[.int .u64 0, .int .u64 0] 25) ∧ W.cell? ⟨w.heap.size, 0, none⟩ = some (.int .u8 (c : Nat)) ∧ W.cell? ⟨w.heap.size, 1, none⟩ = some (.int .u64 ((wd s 0 : Nat) : Int)) ∧ W.cell? ⟨w.heap.size, 2, none⟩ = some (.int .u64 ((wd s 1 : Nat) : Int)) ∧ W.cell? ⟨w.heap.size, 3, none⟩ = some (.int .u64 ((wd s 2 : Nat) : Int)) ∧ W.cell? ⟨w.heap.size, 4, none⟩ = some (.int .u64 ((wd s 3 : Nat) : Int)) ∧ W.cell? ⟨w.heap.size, 5, none⟩ = some (.int .u64 ((wd s 4 : Nat) : Int)) ∧ W.cell? ⟨w.heap.size, 6, none⟩ = some (.int .u64 ((wd s 5 : Nat) : Int)) ∧ W.cell? ⟨w.heap.size, 7, none⟩ = some (.int .i64 X) ∧ W.cell? ⟨w.heap.size, 8, none⟩ = some (.int .u64 ((wd rr 0 : Nat) : Int)) ∧ W.cell? ⟨w.heap.size, 9, none⟩ = some (.int .u64 ((wd rr 1 : Nat) : Int)) ∧ W.cell? ⟨w.heap.size, 10, none⟩ = some (.int .u64 ((wd rr 2 : Nat) : Int)) ∧ W.cell? ⟨w.heap.size, 11, none⟩ = some (.int .u64 ((wd rr 3 : Nat) : Int)) ∧ W.cell? ⟨w.heap.size, 12, none⟩ = some (.int .u64 ((wd rr 4 : Nat) : Int)) ∧ W.cell? ⟨w.heap.size, 13, none⟩ = some (.int .u64 ((wd rr 5 : Nat) : Int)) ∧ W.cell? ⟨w.heap.size + 1, 0, none⟩ = some (.int .u64 0) ∧ W.cell? ⟨w.heap.size + 1, 1, none⟩ = some (.int .u64 0) ∧ W.cell? ⟨w.heap.size + 1 + 1, 0, none⟩ = some (.int .u64 0) ∧ W.cell? ⟨w.heap.size + 1 + 1, 1, none⟩ = some (.int .u64 0)) ∧ W.heap[gN]? = some (Obj.cells (cw 6 t) 28) ∧ (w.heap.size < gN ∧ w.heap.size + 1 < gN ∧ w.heap.size + 1 + 1 < gN)) key.out ?_
          first
            | exact ⟨sS.out _ _ s1 (bal7 _ _), heap_alloc_last _ _, sL.out _ s1⟩
            | exact ⟨sS.out _ _ s0 (bal7 _ _), heap_alloc_last _ _, sL.out _ s0⟩
            | exact ⟨(sT.out _ _ _ s1 hl), setRow_row hg, hl⟩
      rintro w2 g2 ⟨s1, Rt_2, l2⟩
      have B2 := And.left s1
      have Rp_2 := s1.2.1
      have Rz_2 := s1.2.2.1
      have Rb_2 := s1.2.2.2.1
      have H2 := box l2
      clear s0 s1 sS sL sT l2
      obtain ⟨cp_2_0, cp_2_1, cp_2_2, cp_2_3, cp_2_4, cp_2_5, cp_2_6, cp_2_7, cp_2_8, cp_2_9, cp_2_10, cp_2_11, cp_2_12, cp_2_13⟩ := pt_cells Rp_2
      obtain ⟨cz_2_0, cz_2_1⟩ := cell7t Rz_2
      obtain ⟨cb_2_0, cb_2_1⟩ := cell7t Rb_2
      have ct_2_0 := row_cell Rt_2
      go_wp2_with fail
      refine (KB.out _).mono ?_
      rintro r w3 ⟨rfl, b3⟩
      have B3 : Below w.heap.size w w3 := btr7 B2 b3
      have Rp_3 := heap_of b3 _ _ _ Rp_2
      have Rz_3 := heap_of b3 _ _ _ Rz_2
      have Rb_3 := heap_of b3 _ _ _ Rb_2
      have Rt_3 := heap_of b3 _ _ _ Rt_2
      clear b3 B2 Rp_2 cp_2_0 cp_2_1 cp_2_2 cp_2_3 cp_2_4 cp_2_5 cp_2_6 cp_2_7 cp_2_8 cp_2_9 cp_2_10 cp_2_11 cp_2_12 cp_2_13 Rz_2 cz_2_0 cz_2_1 Rb_2 cb_2_0 cb_2_1 Rt_2 ct_2_0
      obtain ⟨cp_3_0, cp_3_1, cp_3_2, cp_3_3, cp_3_4, cp_3_5, cp_3_6, cp_3_7, cp_3_8, cp_3_9, cp_3_10, cp_3_11, cp_3_12, cp_3_13⟩ := pt_cells Rp_3
      obtain ⟨cz_3_0, cz_3_1⟩ := cell7t Rz_3
      obtain ⟨cb_3_0, cb_3_1⟩ := cell7t Rb_3
      have ct_3_0 := row_cell Rt_3
      have q0_4 := fz (k := 0) Rb_3
      have q1_4 := fz (k := 1) Rb_3
      have B4 := set2_below B3 (show w.heap.size ≤ w.heap.size + 1 + 1 by first | exact Nat.le_refl _ | omega | (have := H2.out; omega)) (.int .u64 (u : Nat)) (.int .u64 (v : Nat))
      have Rb_4 : ((w3.setCell ⟨w.heap.size + 1 + 1, 0, none⟩ (.int .u64 (u : Nat))).setCell ⟨w.heap.size + 1 + 1, 1, none⟩ (.int .u64 (v : Nat))).heap[w.heap.size + 1 + 1]? = some (Obj.cells #[.int .u64 (u : Nat), .int .u64 (v : Nat)] 25) := set2_row Rb_3 _ _
      have Rp_4 : ((w3.setCell ⟨w.heap.size + 1 + 1, 0, none⟩ (.int .u64 (u : Nat))).setCell ⟨w.heap.size + 1 + 1, 1, none⟩ (.int .u64 (v : Nat))).heap[w.heap.size]? = some (Obj.cells (pt c s X rr) 30) := (setCell_other (by first | omega | (have := H2.out; omega))).trans ((setCell_other (by first | omega | (have := H2.out; omega))).trans Rp_3)
      have Rz_4 : ((w3.setCell ⟨w.heap.size + 1 + 1, 0, none⟩ (.int .u64 (u : Nat))).setCell ⟨w.heap.size + 1 + 1, 1, none⟩ (.int .u64 (v : Nat))).heap[w.heap.size + 1]? = some (Obj.cells #[.int .u64 0, .int .u64 0] 25) := (setCell_other (by first | omega | (have := H2.out; omega))).trans ((setCell_other (by first | omega | (have := H2.out; omega))).trans Rz_3)
      have Rt_4 : ((w3.setCell ⟨w.heap.size + 1 + 1, 0, none⟩ (.int .u64 (u : Nat))).setCell ⟨w.heap.size + 1 + 1, 1, none⟩ (.int .u64 (v : Nat))).heap[g2]? = some (Obj.cells (cw 6 t) 28) := (setCell_other (by first | omega | (have := H2.out; omega))).trans ((setCell_other (by first | omega | (have := H2.out; omega))).trans Rt_3)
      obtain ⟨cp_4_0, cp_4_1, cp_4_2, cp_4_3, cp_4_4, cp_4_5, cp_4_6, cp_4_7, cp_4_8, cp_4_9, cp_4_10, cp_4_11, cp_4_12, cp_4_13⟩ := pt_cells Rp_4
      obtain ⟨cz_4_0, cz_4_1⟩ := cell7t Rz_4
      obtain ⟨cb_4_0, cb_4_1⟩ := cell7t Rb_4
      have ct_4_0 := row_cell Rt_4
      go_wp2_with fail
      obtain ⟨F, hF1, hF2⟩ := below_fun ((w3.setCell ⟨w.heap.size + 1 + 1, 0, none⟩ (.int .u64 (u : Nat))).setCell ⟨w.heap.size + 1 + 1, 1, none⟩ (.int .u64 (v : Nat)))
      have fp_0 := fun u => cell7 (heap_of (hF1 u) _ _ _ Rp_4) 0 _ rfl
      have fp_1 := fun u => cell7 (heap_of (hF1 u) _ _ _ Rp_4) 1 _ rfl
      have fp_2 := fun u => cell7 (heap_of (hF1 u) _ _ _ Rp_4) 2 _ rfl
      have fp_3 := fun u => cell7 (heap_of (hF1 u) _ _ _ Rp_4) 3 _ rfl
      have fp_4 := fun u => cell7 (heap_of (hF1 u) _ _ _ Rp_4) 4 _ rfl
      have fp_5 := fun u => cell7 (heap_of (hF1 u) _ _ _ Rp_4) 5 _ rfl
      have fp_6 := fun u => cell7 (heap_of (hF1 u) _ _ _ Rp_4) 6 _ rfl
      have fp_7 := fun u => cell7 (heap_of (hF1 u) _ _ _ Rp_4) 7 _ rfl
      have fp_8 := fun u => cell7 (heap_of (hF1 u) _ _ _ Rp_4) 8 _ rfl
      have fp_9 := fun u => cell7 (heap_of (hF1 u) _ _ _ Rp_4) 9 _ rfl
      have fp_10 := fun u => cell7 (heap_of (hF1 u) _ _ _ Rp_4) 10 _ rfl
      have fp_11 := fun u => cell7 (heap_of (hF1 u) _ _ _ Rp_4) 11 _ rfl
      have fp_12 := fun u => cell7 (heap_of (hF1 u) _ _ _ Rp_4) 12 _ rfl
      have fp_13 := fun u => cell7 (heap_of (hF1 u) _ _ _ Rp_4) 13 _ rfl
      have fz_0 := fun u => cell7 (heap_of (hF1 u) _ _ _ Rz_4) 0 _ rfl
      have fz_1 := fun u => cell7 (heap_of (hF1 u) _ _ _ Rz_4) 1 _ rfl
      have fb_0 := fun u => cell7 (heap_of (hF1 u) _ _ _ Rb_4) 0 _ rfl
      have fb_1 := fun u => cell7 (heap_of (hF1 u) _ _ _ Rb_4) 1 _ rfl
      have ft_0 := fun u => row_cell (heap_of (hF1 u) _ _ _ Rt_4)
      refine wp_region_below F hF2 (by kernel_rfl) (by kernel_rfl) ?_
      repeat first | go_big_quiet_step (first | (go_at_call 8; exact quietF hF1 hF2 (KU.out _)) | fail) | quiet_step (first | (go_at_call 8; exact quietF hF1 hF2 (KU.out _)) | fail)
      refine wpQuiet_nil ?_
      rintro _ ⟨uW, rfl⟩
      have B5 := btr7 B4 (hF1 uW)
      have Rp_5 := heap_of (hF1 uW) _ _ _ Rp_4
      have Rz_5 := heap_of (hF1 uW) _ _ _ Rz_4
      have Rb_5 := heap_of (hF1 uW) _ _ _ Rb_4
      have Rt_5 := heap_of (hF1 uW) _ _ _ Rt_4
      obtain ⟨w5, hw⟩ : ∃ V, F uW = V := ⟨_, rfl⟩
      rw [hw] at B5 Rp_5 Rz_5 Rb_5 Rt_5
      try rw [hw]
      clear hw hF1 hF2 B4 fp_0 fp_1 fp_2 fp_3 fp_4 fp_5 fp_6 fp_7 fp_8 fp_9 fp_10 fp_11 fp_12 fp_13 fz_0 fz_1 fb_0 fb_1 ft_0 Rp_4 cp_4_0 cp_4_1 cp_4_2 cp_4_3 cp_4_4 cp_4_5 cp_4_6 cp_4_7 cp_4_8 cp_4_9 cp_4_10 cp_4_11 cp_4_12 cp_4_13 Rz_4 cz_4_0 cz_4_1 Rb_4 cb_4_0 cb_4_1 Rt_4 ct_4_0
      clear F
      obtain ⟨cp_5_0, cp_5_1, cp_5_2, cp_5_3, cp_5_4, cp_5_5, cp_5_6, cp_5_7, cp_5_8, cp_5_9, cp_5_10, cp_5_11, cp_5_12, cp_5_13⟩ := pt_cells Rp_5
      obtain ⟨cz_5_0, cz_5_1⟩ := cell7t Rz_5
      obtain ⟨cb_5_0, cb_5_1⟩ := cell7t Rb_5
      have ct_5_0 := row_cell Rt_5
      have q0 := fz (k := 0) Rz_5
      have q1 := fz (k := 1) Rz_5
      obtain ⟨E0, E1⟩ := set2_cells Rz_5 (.int .u64 0) (.int .u64 0)
      go_wp2
      exact bodyPost_ret (v := .tuple #[.agg #[.int .u64 0, .int .u64 0], .int .i64 80]) (by simp [results, Tryd.results12, go_sem, E0, E1]) rfl ⟨rfl, set2_below B5 (by first | exact Nat.le_refl _ | omega | (have := H2.out; omega)) _ _⟩
    · simp only [Bool.false_eq_true, if_false, if_true]
      obtain ⟨Rp_0, Rz_0, Rb_0, B0⟩ := kopn3 w (Obj.cells (pt c s X rr) 30) (Obj.cells #[.int .u64 0, .int .u64 0] 25) (Obj.cells #[.int .u64 0, .int .u64 0] 25)
      go_enter Tryd.func12, Tryd.ntmps12
      go_wp2_with fail
      refine (KP.out _).mono ?_
      rintro r w' ⟨rfl, hw'⟩
      obtain rfl := hw'.symm
      go_wp2_with fail
      refine (KE.out _).mono ?_
      rintro r w' ⟨rfl, hw'⟩
      obtain rfl := hw'.symm
      go_wp2_with fail
      obtain ⟨F, hF1, hF2⟩ := below_fun (((w.alloc (Obj.cells (pt c s X rr) 30)).alloc (Obj.cells #[.int .u64 0, .int .u64 0] 25)).alloc (Obj.cells #[.int .u64 0, .int .u64 0] 25))
      have fp_0 := fun u => cell7 (heap_of (hF1 u) _ _ _ Rp_0) 0 _ rfl
      have fp_1 := fun u => cell7 (heap_of (hF1 u) _ _ _ Rp_0) 1 _ rfl
      have fp_2 := fun u => cell7 (heap_of (hF1 u) _ _ _ Rp_0) 2 _ rfl
      have fp_3 := fun u => cell7 (heap_of (hF1 u) _ _ _ Rp_0) 3 _ rfl
      have fp_4 := fun u => cell7 (heap_of (hF1 u) _ _ _ Rp_0) 4 _ rfl
      have fp_5 := fun u => cell7 (heap_of (hF1 u) _ _ _ Rp_0) 5 _ rfl
      have fp_6 := fun u => cell7 (heap_of (hF1 u) _ _ _ Rp_0) 6 _ rfl
      have fp_7 := fun u => cell7 (heap_of (hF1 u) _ _ _ Rp_0) 7 _ rfl
      have fp_8 := fun u => cell7 (heap_of (hF1 u) _ _ _ Rp_0) 8 _ rfl
      have fp_9 := fun u => cell7 (heap_of (hF1 u) _ _ _ Rp_0) 9 _ rfl
      have fp_10 := fun u => cell7 (heap_of (hF1 u) _ _ _ Rp_0) 10 _ rfl
      have fp_11 := fun u => cell7 (heap_of (hF1 u) _ _ _ Rp_0) 11 _ rfl
      have fp_12 := fun u => cell7 (heap_of (hF1 u) _ _ _ Rp_0) 12 _ rfl
      have fp_13 := fun u => cell7 (heap_of (hF1 u) _ _ _ Rp_0) 13 _ rfl
      have fz_0 := fun u => cell7 (heap_of (hF1 u) _ _ _ Rz_0) 0 _ rfl
      have fz_1 := fun u => cell7 (heap_of (hF1 u) _ _ _ Rz_0) 1 _ rfl
      have fb_0 := fun u => cell7 (heap_of (hF1 u) _ _ _ Rb_0) 0 _ rfl
      have fb_1 := fun u => cell7 (heap_of (hF1 u) _ _ _ Rb_0) 1 _ rfl
      refine wp_region_below F hF2 (by kernel_rfl) (by kernel_rfl) ?_
      repeat first | go_big_quiet_step (first | (go_at_call 31; exact quietF hF1 hF2 (KN.out _)) | (go_at_call 25; exact quietF0 (KX.out _)) | fail) | quiet_step (first | (go_at_call 31; exact quietF hF1 hF2 (KN.out _)) | (go_at_call 25; exact quietF0 (KX.out _)) | fail)
      refine wpQuiet_nil ?_
      rintro _ ⟨uW, rfl⟩
      have B1 := btr7 B0 (hF1 uW)
      have Rp_1 := heap_of (hF1 uW) _ _ _ Rp_0
      have Rz_1 := heap_of (hF1 uW) _ _ _ Rz_0
      have Rb_1 := heap_of (hF1 uW) _ _ _ Rb_0
      obtain ⟨w1, hw⟩ : ∃ V, F uW = V := ⟨_, rfl⟩
      rw [hw] at B1 Rp_1 Rz_1 Rb_1
      try rw [hw]
      clear hw hF1 hF2 B0 fp_0 fp_1 fp_2 fp_3 fp_4 fp_5 fp_6 fp_7 fp_8 fp_9 fp_10 fp_11 fp_12 fp_13 fz_0 fz_1 fb_0 fb_1 Rp_0 Rz_0 Rb_0
      clear F
      obtain ⟨cp_1_0, cp_1_1, cp_1_2, cp_1_3, cp_1_4, cp_1_5, cp_1_6, cp_1_7, cp_1_8, cp_1_9, cp_1_10, cp_1_11, cp_1_12, cp_1_13⟩ := pt_cells Rp_1
      obtain ⟨cz_1_0, cz_1_1⟩ := cell7t Rz_1
      obtain ⟨cb_1_0, cb_1_1⟩ := cell7t Rb_1
      have sS : Box (∀ W W1 : World, (Below w.heap.size w W ∧ W.heap[w.heap.size]? = some (Obj.cells (pt c s X rr) 30) ∧ W.heap[w.heap.size + 1]? = some (Obj.cells #[.int .u64 0, .int .u64 0] 25) ∧ W.heap[w.heap.size + 1 + 1]? = some (Obj.cells #[.int .u64 0, .int .u64 0] 25) ∧ W.cell? ⟨w.heap.size, 0, none⟩ = some (.int .u8 (c : Nat)) ∧ W.cell? ⟨w.heap.size, 1, none⟩ = some (.int .u64 ((wd s 0 : Nat) : Int)) ∧ W.cell? ⟨w.heap.size, 2, none⟩ = some (.int .u64 ((wd s 1 : Nat) : Int)) ∧ W.cell? ⟨w.heap.size, 3, none⟩ = some (.int .u64 ((wd s 2 : Nat) : Int)) ∧ W.cell? ⟨w.heap.size, 4, none⟩ = some (.int .u64 ((wd s 3 : Nat) : Int)) ∧ W.cell? ⟨w.heap.size, 5, none⟩ = some (.int .u64 ((wd s 4 : Nat) : Int)) ∧ W.cell? ⟨w.heap.size, 6, none⟩ = some (.int .u64 ((wd s 5 : Nat) : Int)) ∧ W.cell? ⟨w.heap.size, 7, none⟩ = some (.int .i64 X) ∧ W.cell? ⟨w.heap.size, 8, none⟩ = some (.int .u64 ((wd rr 0 : Nat) : Int)) ∧ W.cell? ⟨w.heap.size, 9, none⟩ = some (.int .u64 ((wd rr 1 : Nat) : Int)) ∧ W.cell? ⟨w.heap.size, 10, none⟩ = some (.int .u64 ((wd rr 2 : Nat) : Int)) ∧ W.cell? ⟨w.heap.size, 11, none⟩ = some (.int .u64 ((wd rr 3 : Nat) : Int)) ∧ W.cell? ⟨w.heap.size, 12, none⟩ = some (.int .u64 ((wd rr 4 : Nat) : Int)) ∧ W.cell? ⟨w.heap.size, 13, none⟩ = some (.int .u64 ((wd rr 5 : Nat) : Int)) ∧ W.cell? ⟨w.heap.size + 1, 0, none⟩ = some (.int .u64 0) ∧ W.cell? ⟨w.heap.size + 1, 1, none⟩ = some (.int .u64 0) ∧ W.cell? ⟨w.heap.size + 1 + 1, 0, none⟩ = some (.int .u64 0) ∧ W.cell? ⟨w.heap.size + 1 + 1, 1, none⟩ = some (.int .u64 0)) → Below W.heap.size W W1 → (Below w.heap.size w W1 ∧ W1.heap[w.heap.size]? = some (Obj.cells (pt c s X rr) 30) ∧ W1.heap[w.heap.size + 1]? = some (Obj.cells #[.int .u64 0, .int .u64 0] 25) ∧ W1.heap[w.heap.size + 1 + 1]? = some (Obj.cells #[.int .u64 0, .int .u64 0] 25) ∧ W1.cell? ⟨w.heap.size, 0, none⟩ = some (.int .u8 (c : Nat)) ∧ W1.cell? ⟨w.heap.size, 1, none⟩ = some (.int .u64 ((wd s 0 : Nat) : Int)) ∧ W1.cell? ⟨w.heap.size, 2, none⟩ = some (.int .u64 ((wd s 1 : Nat) : Int)) ∧ W1.cell? ⟨w.heap.size, 3, none⟩ = some (.int .u64 ((wd s 2 : Nat) : Int)) ∧ W1.cell? ⟨w.heap.size, 4, none⟩ = some (.int .u64 ((wd s 3 : Nat) : Int)) ∧ W1.cell? ⟨w.heap.size, 5, none⟩ = some (.int .u64 ((wd s 4 : Nat) : Int)) ∧ W1.cell? ⟨w.heap.size, 6, none⟩ = some (.int .u64 ((wd s 5 : Nat) : Int)) ∧ W1.cell? ⟨w.heap.size, 7, none⟩ = some (.int .i64 X) ∧ W1.cell? ⟨w.heap.size, 8, none⟩ = some (.int .u64 ((wd rr 0 : Nat) : Int)) ∧ W1.cell? ⟨w.heap.size, 9, none⟩ = some (.int .u64 ((wd rr 1 : Nat) : Int)) ∧ W1.cell? ⟨w.heap.size, 10, none⟩ = some (.int .u64 ((wd rr 2 : Nat) : Int)) ∧ W1.cell? ⟨w.heap.size, 11, none⟩ = some (.int .u64 ((wd rr 3 : Nat) : Int)) ∧ W1.cell? ⟨w.heap.size, 12, none⟩ = some (.int .u64 ((wd rr 4 : Nat) : Int)) ∧ W1.cell? ⟨w.heap.size, 13, none⟩ = some (.int .u64 ((wd rr 5 : Nat) : Int)) ∧ W1.cell? ⟨w.heap.size + 1, 0, none⟩ = some (.int .u64 0) ∧ W1.cell? ⟨w.heap.size + 1, 1, none⟩ = some (.int .u64 0) ∧ W1.cell? ⟨w.heap.size + 1 + 1, 0, none⟩ = some (.int .u64 0) ∧ W1.cell? ⟨w.heap.size + 1 + 1, 1, none⟩ = some (.int .u64 0))) := box (fun W W1 h b => ⟨btr7 h.1 b, heap_of b _ _ _ h.2.1, heap_of b _ _ _ h.2.2.1, heap_of b _ _ _ h.2.2.2.1, cell7 (heap_of b _ _ _ h.2.1) 0 _ rfl, cell7 (heap_of b _ _ _ h.2.1) 1 _ rfl, cell7 (heap_of b _ _ _ h.2.1) 2 _ rfl, cell7 (heap_of b _ _ _ h.2.1) 3 _ rfl, cell7 (heap_of b _ _ _ h.2.1) 4 _ rfl, cell7 (heap_of b _ _ _ h.2.1) 5 _ rfl, cell7 (heap_of b _ _ _ h.2.1) 6 _ rfl, cell7 (heap_of b _ _ _ h.2.1) 7 _ rfl, cell7 (heap_of b _ _ _ h.2.1) 8 _ rfl, cell7 (heap_of b _ _ _ h.2.1) 9 _ rfl, cell7 (heap_of b _ _ _ h.2.1) 10 _ rfl, cell7 (heap_of b _ _ _ h.2.1) 11 _ rfl, cell7 (heap_of b _ _ _ h.2.1) 12 _ rfl, cell7 (heap_of b _ _ _ h.2.1) 13 _ rfl, cell7 (heap_of b _ _ _ h.2.2.1) 0 _ rfl, cell7 (heap_of b _ _ _ h.2.2.1) 1 _ rfl, cell7 (heap_of b _ _ _ h.2.2.2.1) 0 _ rfl, cell7 (heap_of b _ _ _ h.2.2.2.1) 1 _ rfl⟩)
      have sL : Box (∀ W : World, (Below w.heap.size w W ∧ W.heap[w.heap.size]? = some (Obj.cells (pt c s X rr) 30) ∧ W.heap[w.heap.size + 1]? = some (Obj.cells #[.int .u64 0, .int .u64 0] 25) ∧ W.heap[w.heap.size + 1 + 1]? = some (Obj.cells #[.int .u64 0, .int .u64 0] 25) ∧ W.cell? ⟨w.heap.size, 0, none⟩ = some (.int .u8 (c : Nat)) ∧ W.cell? ⟨w.heap.size, 1, none⟩ = some (.int .u64 ((wd s 0 : Nat) : Int)) ∧ W.cell? ⟨w.heap.size, 2, none⟩ = some (.int .u64 ((wd s 1 : Nat) : Int)) ∧ W.cell? ⟨w.heap.size, 3, none⟩ = some (.int .u64 ((wd s 2 : Nat) : Int)) ∧ W.cell? ⟨w.heap.size, 4, none⟩ = some (.int .u64 ((wd s 3 : Nat) : Int)) ∧ W.cell? ⟨w.heap.size, 5, none⟩ = some (.int .u64 ((wd s 4 : Nat) : Int)) ∧ W.cell? ⟨w.heap.size, 6, none⟩ = some (.int .u64 ((wd s 5 : Nat) : Int)) ∧ W.cell? ⟨w.heap.size, 7, none⟩ = some (.int .i64 X) ∧ W.cell? ⟨w.heap.size, 8, none⟩ = some (.int .u64 ((wd rr 0 : Nat) : Int)) ∧ W.cell? ⟨w.heap.size, 9, none⟩ = some (.int .u64 ((wd rr 1 : Nat) : Int)) ∧ W.cell? ⟨w.heap.size, 10, none⟩ = some (.int .u64 ((wd rr 2 : Nat) : Int)) ∧ W.cell? ⟨w.heap.size, 11, none⟩ = some (.int .u64 ((wd rr 3 : Nat) : Int)) ∧ W.cell? ⟨w.heap.size, 12, none⟩ = some (.int .u64 ((wd rr 4 : Nat) : Int)) ∧ W.cell? ⟨w.heap.size, 13, none⟩ = some (.int .u64 ((wd rr 5 : Nat) : Int)) ∧ W.cell? ⟨w.heap.size + 1, 0, none⟩ = some (.int .u64 0) ∧ W.cell? ⟨w.heap.size + 1, 1, none⟩ = some (.int .u64 0) ∧ W.cell? ⟨w.heap.size + 1 + 1, 0, none⟩ = some (.int .u64 0) ∧ W.cell? ⟨w.heap.size + 1 + 1, 1, none⟩ = some (.int .u64 0)) → (w.heap.size < W.heap.size ∧ w.heap.size + 1 < W.heap.size ∧ w.heap.size + 1 + 1 < W.heap.size)) := box (fun W h => ⟨(Array.getElem?_eq_some_iff.1 h.2.1).1, (Array.getElem?_eq_some_iff.1 h.2.2.1).1, (Array.getElem?_eq_some_iff.1 h.2.2.2.1).1⟩)
      have sT : Box (∀ (W : World) (gN : Nat) (xA : Array Value), (Below w.heap.size w W ∧ W.heap[w.heap.size]? = some (Obj.cells (pt c s X rr) 30) ∧ W.heap[w.heap.size + 1]? = some (Obj.cells #[.int .u64 0, .int .u64 0] 25) ∧ W.heap[w.heap.size + 1 + 1]? = some (Obj.cells #[.int .u64 0, .int .u64 0] 25) ∧ W.cell? ⟨w.heap.size, 0, none⟩ = some (.int .u8 (c : Nat)) ∧ W.cell? ⟨w.heap.size, 1, none⟩ = some (.int .u64 ((wd s 0 : Nat) : Int)) ∧ W.cell? ⟨w.heap.size, 2, none⟩ = some (.int .u64 ((wd s 1 : Nat) : Int)) ∧ W.cell? ⟨w.heap.size, 3, none⟩ = some (.int .u64 ((wd s 2 : Nat) : Int)) ∧ W.cell? ⟨w.heap.size, 4, none⟩ = some (.int .u64 ((wd s 3 : Nat) : Int)) ∧ W.cell? ⟨w.heap.size, 5, none⟩ = some (.int .u64 ((wd s 4 : Nat) : Int)) ∧ W.cell? ⟨w.heap.size, 6, none⟩ = some (.int .u64 ((wd s 5 : Nat) : Int)) ∧ W.cell? ⟨w.heap.size, 7, none⟩ = some (.int .i64 X) ∧ W.cell? ⟨w.heap.size, 8, none⟩ = some (.int .u64 ((wd rr 0 : Nat) : Int)) ∧ W.cell? ⟨w.heap.size, 9, none⟩ = some (.int .u64 ((wd rr 1 : Nat) : Int)) ∧ W.cell? ⟨w.heap.size, 10, none⟩ = some (.int .u64 ((wd rr 2 : Nat) : Int)) ∧ W.cell? ⟨w.heap.size, 11, none⟩ = some (.int .u64 ((wd rr 3 : Nat) : Int)) ∧ W.cell? ⟨w.heap.size, 12, none⟩ = some (.int .u64 ((wd rr 4 : Nat) : Int)) ∧ W.cell? ⟨w.heap.size, 13, none⟩ = some (.int .u64 ((wd rr 5 : Nat) : Int)) ∧ W.cell? ⟨w.heap.size + 1, 0, none⟩ = some (.int .u64 0) ∧ W.cell? ⟨w.heap.size + 1, 1, none⟩ = some (.int .u64 0) ∧ W.cell? ⟨w.heap.size + 1 + 1, 0, none⟩ = some (.int .u64 0) ∧ W.cell? ⟨w.heap.size + 1 + 1, 1, none⟩ = some (.int .u64 0)) → (w.heap.size < gN ∧ w.heap.size + 1 < gN ∧ w.heap.size + 1 + 1 < gN) → (Below w.heap.size w (W.setRow gN xA) ∧ (W.setRow gN xA).heap[w.heap.size]? = some (Obj.cells (pt c s X rr) 30) ∧ (W.setRow gN xA).heap[w.heap.size + 1]? = some (Obj.cells #[.int .u64 0, .int .u64 0] 25) ∧ (W.setRow gN xA).heap[w.heap.size + 1 + 1]? = some (Obj.cells #[.int .u64 0, .int .u64 0] 25) ∧ (W.setRow gN xA).cell? ⟨w.heap.size, 0, none⟩ = some (.int .u8 (c : Nat)) ∧ (W.setRow gN xA).cell? ⟨w.heap.size, 1, none⟩ = some (.int .u64 ((wd s 0 : Nat) : Int)) ∧ (W.setRow gN xA).cell? ⟨w.heap.size, 2, none⟩ = some (.int .u64 ((wd s 1 : Nat) : Int)) ∧ (W.setRow gN xA).cell? ⟨w.heap.size, 3, none⟩ = some (.int .u64 ((wd s 2 : Nat) : Int)) ∧ (W.setRow gN xA).cell? ⟨w.heap.size, 4, none⟩ = some (.int .u64 ((wd s 3 : Nat) : Int)) ∧ (W.setRow gN xA).cell? ⟨w.heap.size, 5, none⟩ = some (.int .u64 ((wd s 4 : Nat) : Int)) ∧ (W.setRow gN xA).cell? ⟨w.heap.size, 6, none⟩ = some (.int .u64 ((wd s 5 : Nat) : Int)) ∧ (W.setRow gN xA).cell? ⟨w.heap.size, 7, none⟩ = some (.int .i64 X) ∧ (W.setRow gN xA).cell? ⟨w.heap.size, 8, none⟩ = some (.int .u64 ((wd rr 0 : Nat) : Int)) ∧ (W.setRow gN xA).cell? ⟨w.heap.size, 9, none⟩ = some (.int .u64 ((wd rr 1 : Nat) : Int)) ∧ (W.setRow gN xA).cell? ⟨w.heap.size, 10, none⟩ = some (.int .u64 ((wd rr 2 : Nat) : Int)) ∧ (W.setRow gN xA).cell? ⟨w.heap.size, 11, none⟩ = some (.int .u64 ((wd rr 3 : Nat) : Int)) ∧ (W.setRow gN xA).cell? ⟨w.heap.size, 12, none⟩ = some (.int .u64 ((wd rr 4 : Nat) : Int)) ∧ (W.setRow gN xA).cell? ⟨w.heap.size, 13, none⟩ = some (.int .u64 ((wd rr 5 : Nat) : Int)) ∧ (W.setRow gN xA).cell? ⟨w.heap.size + 1, 0, none⟩ = some (.int .u64 0) ∧ (W.setRow gN xA).cell? ⟨w.heap.size + 1, 1, none⟩ = some (.int .u64 0) ∧ (W.setRow gN xA).cell? ⟨w.heap.size + 1 + 1, 0, none⟩ = some (.int .u64 0) ∧ (W.setRow gN xA).cell? ⟨w.heap.size + 1 + 1, 1, none⟩ = some (.int .u64 0))) := box (fun W gN xA h l => ⟨bel_set h.1 (show w.heap.size ≤ gN by have := l.1; omega), (setRow_other (by have := l.1; omega)).trans h.2.1, (setRow_other (by have := l.2.1; omega)).trans h.2.2.1, (setRow_other (by have := l.2.2; omega)).trans h.2.2.2.1, cell7 ((setRow_other (by have := l.1; omega)).trans h.2.1) 0 _ rfl, cell7 ((setRow_other (by have := l.1; omega)).trans h.2.1) 1 _ rfl, cell7 ((setRow_other (by have := l.1; omega)).trans h.2.1) 2 _ rfl, cell7 ((setRow_other (by have := l.1; omega)).trans h.2.1) 3 _ rfl, cell7 ((setRow_other (by have := l.1; omega)).trans h.2.1) 4 _ rfl, cell7 ((setRow_other (by have := l.1; omega)).trans h.2.1) 5 _ rfl, cell7 ((setRow_other (by have := l.1; omega)).trans h.2.1) 6 _ rfl, cell7 ((setRow_other (by have := l.1; omega)).trans h.2.1) 7 _ rfl, cell7 ((setRow_other (by have := l.1; omega)).trans h.2.1) 8 _ rfl, cell7 ((setRow_other (by have := l.1; omega)).trans h.2.1) 9 _ rfl, cell7 ((setRow_other (by have := l.1; omega)).trans h.2.1) 10 _ rfl, cell7 ((setRow_other (by have := l.1; omega)).trans h.2.1) 11 _ rfl, cell7 ((setRow_other (by have := l.1; omega)).trans h.2.1) 12 _ rfl, cell7 ((setRow_other (by have := l.1; omega)).trans h.2.1) 13 _ rfl, cell7 ((setRow_other (by have := l.2.1; omega)).trans h.2.2.1) 0 _ rfl, cell7 ((setRow_other (by have := l.2.1; omega)).trans h.2.2.1) 1 _ rfl, cell7 ((setRow_other (by have := l.2.2; omega)).trans h.2.2.2.1) 0 _ rfl, cell7 ((setRow_other (by have := l.2.2; omega)).trans h.2.2.2.1) 1 _ rfl⟩)
      have s0 : Below w.heap.size w (w1).drew ∧ (w1).drew.heap[w.heap.size]? = some (Obj.cells (pt c s X rr) 30) ∧ (w1).drew.heap[w.heap.size + 1]? = some (Obj.cells #[.int .u64 0, .int .u64 0] 25) ∧ (w1).drew.heap[w.heap.size + 1 + 1]? = some (Obj.cells #[.int .u64 0, .int .u64 0] 25) ∧ (w1).drew.cell? ⟨w.heap.size, 0, none⟩ = some (.int .u8 (c : Nat)) ∧ (w1).drew.cell? ⟨w.heap.size, 1, none⟩ = some (.int .u64 ((wd s 0 : Nat) : Int)) ∧ (w1).drew.cell? ⟨w.heap.size, 2, none⟩ = some (.int .u64 ((wd s 1 : Nat) : Int)) ∧ (w1).drew.cell? ⟨w.heap.size, 3, none⟩ = some (.int .u64 ((wd s 2 : Nat) : Int)) ∧ (w1).drew.cell? ⟨w.heap.size, 4, none⟩ = some (.int .u64 ((wd s 3 : Nat) : Int)) ∧ (w1).drew.cell? ⟨w.heap.size, 5, none⟩ = some (.int .u64 ((wd s 4 : Nat) : Int)) ∧ (w1).drew.cell? ⟨w.heap.size, 6, none⟩ = some (.int .u64 ((wd s 5 : Nat) : Int)) ∧ (w1).drew.cell? ⟨w.heap.size, 7, none⟩ = some (.int .i64 X) ∧ (w1).drew.cell? ⟨w.heap.size, 8, none⟩ = some (.int .u64 ((wd rr 0 : Nat) : Int)) ∧ (w1).drew.cell? ⟨w.heap.size, 9, none⟩ = some (.int .u64 ((wd rr 1 : Nat) : Int)) ∧ (w1).drew.cell? ⟨w.heap.size, 10, none⟩ = some (.int .u64 ((wd rr 2 : Nat) : Int)) ∧ (w1).drew.cell? ⟨w.heap.size, 11, none⟩ = some (.int .u64 ((wd rr 3 : Nat) : Int)) ∧ (w1).drew.cell? ⟨w.heap.size, 12, none⟩ = some (.int .u64 ((wd rr 4 : Nat) : Int)) ∧ (w1).drew.cell? ⟨w.heap.size, 13, none⟩ = some (.int .u64 ((wd rr 5 : Nat) : Int)) ∧ (w1).drew.cell? ⟨w.heap.size + 1, 0, none⟩ = some (.int .u64 0) ∧ (w1).drew.cell? ⟨w.heap.size + 1, 1, none⟩ = some (.int .u64 0) ∧ (w1).drew.cell? ⟨w.heap.size + 1 + 1, 0, none⟩ = some (.int .u64 0) ∧ (w1).drew.cell? ⟨w.heap.size + 1 + 1, 1, none⟩ = some (.int .u64 0) := ⟨B1.drew, Rp_1, Rz_1, Rb_1, cell7 (Rp_1) 0 _ rfl, cell7 (Rp_1) 1 _ rfl, cell7 (Rp_1) 2 _ rfl, cell7 (Rp_1) 3 _ rfl, cell7 (Rp_1) 4 _ rfl, cell7 (Rp_1) 5 _ rfl, cell7 (Rp_1) 6 _ rfl, cell7 (Rp_1) 7 _ rfl, cell7 (Rp_1) 8 _ rfl, cell7 (Rp_1) 9 _ rfl, cell7 (Rp_1) 10 _ rfl, cell7 (Rp_1) 11 _ rfl, cell7 (Rp_1) 12 _ rfl, cell7 (Rp_1) 13 _ rfl, cell7 (Rz_1) 0 _ rfl, cell7 (Rz_1) 1 _ rfl, cell7 (Rb_1) 0 _ rfl, cell7 (Rb_1) 1 _ rfl⟩
      clear B1 Rp_1 cp_1_0 cp_1_1 cp_1_2 cp_1_3 cp_1_4 cp_1_5 cp_1_6 cp_1_7 cp_1_8 cp_1_9 cp_1_10 cp_1_11 cp_1_12 cp_1_13 Rz_1 cz_1_0 cz_1_1 Rb_1 cb_1_0 cb_1_1
      go_wp2_with fail
      apply cut7
      · intro key0
        have key := box key0
        clear key0
        go_region_held3 (fun W => Below w.heap.size w W ∧ W.heap[w.heap.size]? = some (Obj.cells (pt c s X rr) 30) ∧ W.heap[w.heap.size + 1]? = some (Obj.cells #[.int .u64 0, .int .u64 0] 25) ∧ W.heap[w.heap.size + 1 + 1]? = some (Obj.cells #[.int .u64 0, .int .u64 0] 25) ∧ W.cell? ⟨w.heap.size, 0, none⟩ = some (.int .u8 (c : Nat)) ∧ W.cell? ⟨w.heap.size, 1, none⟩ = some (.int .u64 ((wd s 0 : Nat) : Int)) ∧ W.cell? ⟨w.heap.size, 2, none⟩ = some (.int .u64 ((wd s 1 : Nat) : Int)) ∧ W.cell? ⟨w.heap.size, 3, none⟩ = some (.int .u64 ((wd s 2 : Nat) : Int)) ∧ W.cell? ⟨w.heap.size, 4, none⟩ = some (.int .u64 ((wd s 3 : Nat) : Int)) ∧ W.cell? ⟨w.heap.size, 5, none⟩ = some (.int .u64 ((wd s 4 : Nat) : Int)) ∧ W.cell? ⟨w.heap.size, 6, none⟩ = some (.int .u64 ((wd s 5 : Nat) : Int)) ∧ W.cell? ⟨w.heap.size, 7, none⟩ = some (.int .i64 X) ∧ W.cell? ⟨w.heap.size, 8, none⟩ = some (.int .u64 ((wd rr 0 : Nat) : Int)) ∧ W.cell? ⟨w.heap.size, 9, none⟩ = some (.int .u64 ((wd rr 1 : Nat) : Int)) ∧ W.cell? ⟨w.heap.size, 10, none⟩ = some (.int .u64 ((wd rr 2 : Nat) : Int)) ∧ W.cell? ⟨w.heap.size, 11, none⟩ = some (.int .u64 ((wd rr 3 : Nat) : Int)) ∧ W.cell? ⟨w.heap.size, 12, none⟩ = some (.int .u64 ((wd rr 4 : Nat) : Int)) ∧ W.cell? ⟨w.heap.size, 13, none⟩ = some (.int .u64 ((wd rr 5 : Nat) : Int)) ∧ W.cell? ⟨w.heap.size + 1, 0, none⟩ = some (.int .u64 0) ∧ W.cell? ⟨w.heap.size + 1, 1, none⟩ = some (.int .u64 0) ∧ W.cell? ⟨w.heap.size + 1 + 1, 0, none⟩ = some (.int .u64 0) ∧ W.cell? ⟨w.heap.size + 1 + 1, 1, none⟩ = some (.int .u64 0)) (first | exact s1 | exact s0 | exact sS.out _ _ s1 (bal7 _ _) | exact sS.out _ _ s0 (bal7 _ _) | exact sT.out _ _ _ s1 hl)
          (first | (go_at_call 34; (first | refine (KM.out _).mono ?_ | refine (KM.out _).mono ?_); rintro r wq ⟨rfl, bq⟩; (first | (have hg := heap_of bq _ _ _ (heap_alloc_last _ _); have hl := (by first | exact sL.out _ s1 | exact sL.out _ s0)) | have hg := heap_of bq _ _ _ hg | skip); (try simp only [size_dr, size_al] at hg hl); (first | have hst := st_any _ _ (t) 0 hg | skip); have s2 := (by first | exact sS.out _ _ s1 bq | exact sS.out _ _ s0 bq | exact sS.out _ _ (sS.out _ _ s1 (bal7 _ _)) bq | exact sS.out _ _ (sS.out _ _ s0 (bal7 _ _)) bq); (try clear s1); have s1 := s2; clear s2 bq) | (go_at_call 33; (first | refine (KA.out _).mono ?_ | refine (KA.out _).mono ?_); rintro r wq ⟨rfl, bq⟩; (first | (have hg := heap_of bq _ _ _ (heap_alloc_last _ _); have hl := (by first | exact sL.out _ s1 | exact sL.out _ s0)) | have hg := heap_of bq _ _ _ hg | skip); (try simp only [size_dr, size_al] at hg hl); (first | have hst := st_any _ _ (t) 0 hg | skip); have s2 := (by first | exact sS.out _ _ s1 bq | exact sS.out _ _ s0 bq | exact sS.out _ _ (sS.out _ _ s1 (bal7 _ _)) bq | exact sS.out _ _ (sS.out _ _ s0 (bal7 _ _)) bq); (try clear s1); have s1 := s2; clear s2 bq) | fail)
        all_goals
          refine gen_abacusref08_Pack_9 (R := fun W gN => (Below w.heap.size w W ∧ W.heap[w.heap.size]? = some (Obj.cells (pt c s X rr) 30) ∧ W.heap[w.heap.size + 1]? = some (Obj.cells #[.int .u64 0, .int .u64 0] 25) ∧ W.heap[w.heap.size + 1 + 1]? = some (Obj.cells #[.int .u64 0, .int .u64 0] 25) ∧ W.cell? ⟨w.heap.size, 0, none⟩ = some (.int .u8 (c : Nat)) ∧ W.cell? ⟨w.heap.size, 1, none⟩ = some (.int .u64 ((wd s 0 : Nat) : Int)) ∧ W.cell? ⟨w.heap.size, 2, none⟩ = some (.int .u64 ((wd s 1 : Nat) : Int)) ∧ W.cell? ⟨w.heap.size, 3, none⟩ = some (.int .u64 ((wd s 2 : Nat) : Int)) ∧ W.cell? ⟨w.heap.size, 4, none⟩ = some (.int .u64 ((wd s 3 : Nat) : Int)) ∧ W.cell? ⟨w.heap.size, 5, none⟩ = some (.int .u64 ((wd s 4 : Nat) : Int)) ∧ W.cell? ⟨w.heap.size, 6, none⟩ = some (.int .u64 ((wd s 5 : Nat) : Int)) ∧ W.cell? ⟨w.heap.size, 7, none⟩ = some (.int .i64 X) ∧ W.cell? ⟨w.heap.size, 8, none⟩ = some (.int .u64 ((wd rr 0 : Nat) : Int)) ∧ W.cell? ⟨w.heap.size, 9, none⟩ = some (.int .u64 ((wd rr 1 : Nat) : Int)) ∧ W.cell? ⟨w.heap.size, 10, none⟩ = some (.int .u64 ((wd rr 2 : Nat) : Int)) ∧ W.cell? ⟨w.heap.size, 11, none⟩ = some (.int .u64 ((wd rr 3 : Nat) : Int)) ∧ W.cell? ⟨w.heap.size, 12, none⟩ = some (.int .u64 ((wd rr 4 : Nat) : Int)) ∧ W.cell? ⟨w.heap.size, 13, none⟩ = some (.int .u64 ((wd rr 5 : Nat) : Int)) ∧ W.cell? ⟨w.heap.size + 1, 0, none⟩ = some (.int .u64 0) ∧ W.cell? ⟨w.heap.size + 1, 1, none⟩ = some (.int .u64 0) ∧ W.cell? ⟨w.heap.size + 1 + 1, 0, none⟩ = some (.int .u64 0) ∧ W.cell? ⟨w.heap.size + 1 + 1, 1, none⟩ = some (.int .u64 0)) ∧ W.heap[gN]? = some (Obj.cells (cw 6 t) 28) ∧ (w.heap.size < gN ∧ w.heap.size + 1 < gN ∧ w.heap.size + 1 + 1 < gN)) key.out ?_
          first
            | exact ⟨sS.out _ _ s1 (bal7 _ _), heap_alloc_last _ _, sL.out _ s1⟩
            | exact ⟨sS.out _ _ s0 (bal7 _ _), heap_alloc_last _ _, sL.out _ s0⟩
            | exact ⟨(sT.out _ _ _ s1 hl), setRow_row hg, hl⟩
      rintro w2 g2 ⟨s1, Rt_2, l2⟩
      have B2 := And.left s1
      have Rp_2 := s1.2.1
      have Rz_2 := s1.2.2.1
      have Rb_2 := s1.2.2.2.1
      have H2 := box l2
      clear s0 s1 sS sL sT l2
      obtain ⟨cp_2_0, cp_2_1, cp_2_2, cp_2_3, cp_2_4, cp_2_5, cp_2_6, cp_2_7, cp_2_8, cp_2_9, cp_2_10, cp_2_11, cp_2_12, cp_2_13⟩ := pt_cells Rp_2
      obtain ⟨cz_2_0, cz_2_1⟩ := cell7t Rz_2
      obtain ⟨cb_2_0, cb_2_1⟩ := cell7t Rb_2
      have ct_2_0 := row_cell Rt_2
      go_wp2_with fail
      refine (KB.out _).mono ?_
      rintro r w3 ⟨rfl, b3⟩
      have B3 : Below w.heap.size w w3 := btr7 B2 b3
      have Rp_3 := heap_of b3 _ _ _ Rp_2
      have Rz_3 := heap_of b3 _ _ _ Rz_2
      have Rb_3 := heap_of b3 _ _ _ Rb_2
      have Rt_3 := heap_of b3 _ _ _ Rt_2
      clear b3 B2 Rp_2 cp_2_0 cp_2_1 cp_2_2 cp_2_3 cp_2_4 cp_2_5 cp_2_6 cp_2_7 cp_2_8 cp_2_9 cp_2_10 cp_2_11 cp_2_12 cp_2_13 Rz_2 cz_2_0 cz_2_1 Rb_2 cb_2_0 cb_2_1 Rt_2 ct_2_0
      obtain ⟨cp_3_0, cp_3_1, cp_3_2, cp_3_3, cp_3_4, cp_3_5, cp_3_6, cp_3_7, cp_3_8, cp_3_9, cp_3_10, cp_3_11, cp_3_12, cp_3_13⟩ := pt_cells Rp_3
      obtain ⟨cz_3_0, cz_3_1⟩ := cell7t Rz_3
      obtain ⟨cb_3_0, cb_3_1⟩ := cell7t Rb_3
      have ct_3_0 := row_cell Rt_3
      have q0_4 := fz (k := 0) Rb_3
      have q1_4 := fz (k := 1) Rb_3
      have B4 := set2_below B3 (show w.heap.size ≤ w.heap.size + 1 + 1 by first | exact Nat.le_refl _ | omega | (have := H2.out; omega)) (.int .u64 (u : Nat)) (.int .u64 (v : Nat))
      have Rb_4 : ((w3.setCell ⟨w.heap.size + 1 + 1, 0, none⟩ (.int .u64 (u : Nat))).setCell ⟨w.heap.size + 1 + 1, 1, none⟩ (.int .u64 (v : Nat))).heap[w.heap.size + 1 + 1]? = some (Obj.cells #[.int .u64 (u : Nat), .int .u64 (v : Nat)] 25) := set2_row Rb_3 _ _
      have Rp_4 : ((w3.setCell ⟨w.heap.size + 1 + 1, 0, none⟩ (.int .u64 (u : Nat))).setCell ⟨w.heap.size + 1 + 1, 1, none⟩ (.int .u64 (v : Nat))).heap[w.heap.size]? = some (Obj.cells (pt c s X rr) 30) := (setCell_other (by first | omega | (have := H2.out; omega))).trans ((setCell_other (by first | omega | (have := H2.out; omega))).trans Rp_3)
      have Rz_4 : ((w3.setCell ⟨w.heap.size + 1 + 1, 0, none⟩ (.int .u64 (u : Nat))).setCell ⟨w.heap.size + 1 + 1, 1, none⟩ (.int .u64 (v : Nat))).heap[w.heap.size + 1]? = some (Obj.cells #[.int .u64 0, .int .u64 0] 25) := (setCell_other (by first | omega | (have := H2.out; omega))).trans ((setCell_other (by first | omega | (have := H2.out; omega))).trans Rz_3)
      have Rt_4 : ((w3.setCell ⟨w.heap.size + 1 + 1, 0, none⟩ (.int .u64 (u : Nat))).setCell ⟨w.heap.size + 1 + 1, 1, none⟩ (.int .u64 (v : Nat))).heap[g2]? = some (Obj.cells (cw 6 t) 28) := (setCell_other (by first | omega | (have := H2.out; omega))).trans ((setCell_other (by first | omega | (have := H2.out; omega))).trans Rt_3)
      obtain ⟨cp_4_0, cp_4_1, cp_4_2, cp_4_3, cp_4_4, cp_4_5, cp_4_6, cp_4_7, cp_4_8, cp_4_9, cp_4_10, cp_4_11, cp_4_12, cp_4_13⟩ := pt_cells Rp_4
      obtain ⟨cz_4_0, cz_4_1⟩ := cell7t Rz_4
      obtain ⟨cb_4_0, cb_4_1⟩ := cell7t Rb_4
      have ct_4_0 := row_cell Rt_4
      go_wp2_with fail
      obtain ⟨F, hF1, hF2⟩ := below_fun ((w3.setCell ⟨w.heap.size + 1 + 1, 0, none⟩ (.int .u64 (u : Nat))).setCell ⟨w.heap.size + 1 + 1, 1, none⟩ (.int .u64 (v : Nat)))
      have fp_0 := fun u => cell7 (heap_of (hF1 u) _ _ _ Rp_4) 0 _ rfl
      have fp_1 := fun u => cell7 (heap_of (hF1 u) _ _ _ Rp_4) 1 _ rfl
      have fp_2 := fun u => cell7 (heap_of (hF1 u) _ _ _ Rp_4) 2 _ rfl
      have fp_3 := fun u => cell7 (heap_of (hF1 u) _ _ _ Rp_4) 3 _ rfl
      have fp_4 := fun u => cell7 (heap_of (hF1 u) _ _ _ Rp_4) 4 _ rfl
      have fp_5 := fun u => cell7 (heap_of (hF1 u) _ _ _ Rp_4) 5 _ rfl
      have fp_6 := fun u => cell7 (heap_of (hF1 u) _ _ _ Rp_4) 6 _ rfl
      have fp_7 := fun u => cell7 (heap_of (hF1 u) _ _ _ Rp_4) 7 _ rfl
      have fp_8 := fun u => cell7 (heap_of (hF1 u) _ _ _ Rp_4) 8 _ rfl
      have fp_9 := fun u => cell7 (heap_of (hF1 u) _ _ _ Rp_4) 9 _ rfl
      have fp_10 := fun u => cell7 (heap_of (hF1 u) _ _ _ Rp_4) 10 _ rfl
      have fp_11 := fun u => cell7 (heap_of (hF1 u) _ _ _ Rp_4) 11 _ rfl
      have fp_12 := fun u => cell7 (heap_of (hF1 u) _ _ _ Rp_4) 12 _ rfl
      have fp_13 := fun u => cell7 (heap_of (hF1 u) _ _ _ Rp_4) 13 _ rfl
      have fz_0 := fun u => cell7 (heap_of (hF1 u) _ _ _ Rz_4) 0 _ rfl
      have fz_1 := fun u => cell7 (heap_of (hF1 u) _ _ _ Rz_4) 1 _ rfl
      have fb_0 := fun u => cell7 (heap_of (hF1 u) _ _ _ Rb_4) 0 _ rfl
      have fb_1 := fun u => cell7 (heap_of (hF1 u) _ _ _ Rb_4) 1 _ rfl
      have ft_0 := fun u => row_cell (heap_of (hF1 u) _ _ _ Rt_4)
      refine wp_region_below F hF2 (by kernel_rfl) (by kernel_rfl) ?_
      repeat first | go_big_quiet_step (first | (go_at_call 8; exact quietF hF1 hF2 (KU.out _)) | fail) | quiet_step (first | (go_at_call 8; exact quietF hF1 hF2 (KU.out _)) | fail)
      refine wpQuiet_nil ?_
      rintro _ ⟨uW, rfl⟩
      have B5 := btr7 B4 (hF1 uW)
      have Rp_5 := heap_of (hF1 uW) _ _ _ Rp_4
      have Rz_5 := heap_of (hF1 uW) _ _ _ Rz_4
      have Rb_5 := heap_of (hF1 uW) _ _ _ Rb_4
      have Rt_5 := heap_of (hF1 uW) _ _ _ Rt_4
      obtain ⟨w5, hw⟩ : ∃ V, F uW = V := ⟨_, rfl⟩
      rw [hw] at B5 Rp_5 Rz_5 Rb_5 Rt_5
      try rw [hw]
      clear hw hF1 hF2 B4 fp_0 fp_1 fp_2 fp_3 fp_4 fp_5 fp_6 fp_7 fp_8 fp_9 fp_10 fp_11 fp_12 fp_13 fz_0 fz_1 fb_0 fb_1 ft_0 Rp_4 cp_4_0 cp_4_1 cp_4_2 cp_4_3 cp_4_4 cp_4_5 cp_4_6 cp_4_7 cp_4_8 cp_4_9 cp_4_10 cp_4_11 cp_4_12 cp_4_13 Rz_4 cz_4_0 cz_4_1 Rb_4 cb_4_0 cb_4_1 Rt_4 ct_4_0
      clear F
      obtain ⟨cp_5_0, cp_5_1, cp_5_2, cp_5_3, cp_5_4, cp_5_5, cp_5_6, cp_5_7, cp_5_8, cp_5_9, cp_5_10, cp_5_11, cp_5_12, cp_5_13⟩ := pt_cells Rp_5
      obtain ⟨cz_5_0, cz_5_1⟩ := cell7t Rz_5
      obtain ⟨cb_5_0, cb_5_1⟩ := cell7t Rb_5
      have ct_5_0 := row_cell Rt_5
      have q0 := fz (k := 0) Rz_5
      have q1 := fz (k := 1) Rz_5
      obtain ⟨E0, E1⟩ := set2_cells Rz_5 (.int .u64 (u : Nat)) (.int .u64 (v : Nat))
      go_wp2
      exact bodyPost_ret (v := .tuple #[.agg #[.int .u64 (u : Nat), .int .u64 (v : Nat)], .int .i64 0]) (by simp [results, Tryd.results12, go_sem, E0, E1]) rfl ⟨rfl, set2_below B5 (by first | exact Nat.le_refl _ | omega | (have := H2.out; omega)) _ _⟩
end Go.Proofs.YtkmlbjlaahcahaaDoor
