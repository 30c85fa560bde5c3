/-
  What the functions that the statement reaches return: part 13 (KM).
-/
import Derived.Test.YtkblmpmkchkpjaaGreatDoorKt12
namespace Go.Proofs.YtkblmpmkchkpjaaGreatDoor
set_option maxRecDepth 100000
set_option maxHeartbeats 40000000
open Go.RowKit WMath
set_option linter.unusedSimpArgs false
set_option linter.unusedVariables false
theorem yV {X : Act → World → Prop} {R : World → Nat → Prop} {t0 t1 t2 t3 t4 t5 t6 t7 t8 t10 t11 t12 t13 t14 t15 t16 t17 t18 t19 t20 t21 t22 t23 t24 t25 t26 t27 t28 t29 t30 t31 t32 t33 t34 t35 t36 t37 t38 t39 t40 t41 t42 t43 t44 t45 t46 t47 t48 t49 t50 t51 t52 t53 t54 t55 t56 t57 t58 t59 t60 t61 t62 t63 t64 t65 t66 t67 t68 t69 t70 t71 t72 t73 t74 t75 t76 t77 t78 t79 t80 t81 t82 t83 t84 t85 t86 t87 t88 t89 t90 t91 t92 t93 t94 t95 t96 t97 t98 t99 t100 t101 t102 t103 t104 t105 t106 t107 t108 t109 t110 t111 t112 t113 t114 t115 t116 t117 : Value} {d : List Deferred} {W : World} {G : Nat}
  (key : ∀ w5 g, R w5 g → X ⟨#[t0, t1, t2, t3, t4, t5, t6, t7, t8, .pointer (some ⟨g, 0, none⟩), t10, t11, t12, t13, t14, t15, t16, t17, t18, t19, t20, t21, t22, t23, t24, t25, t26, t27, t28, t29, t30, t31, t32, t33, t34, t35, t36, t37, t38, t39, t40, t41, t42, t43, t44, t45, t46, t47, t48, t49, t50, t51, t52, t53, t54, t55, t56, t57, t58, t59, t60, t61, t62, t63, t64, t65, t66, t67, t68, t69, t70, t71, t72, t73, t74, t75, t76, t77, t78, t79, t80, t81, t82, t83, t84, t85, t86, t87, t88, t89, t90, t91, t92, t93, t94, t95, t96, t97, t98, t99, t100, t101, t102, t103, t104, t105, t106, t107, t108, t109, t110, t111, t112, t113, t114, t115, t116, t117], d⟩ w5) (r : R W G) : X ⟨#[t0, t1, t2, t3, t4, t5, t6, t7, t8, .pointer (some ⟨G, 0, none⟩), t10, t11, t12, t13, t14, t15, t16, t17, t18, t19, t20, t21, t22, t23, t24, t25, t26, t27, t28, t29, t30, t31, t32, t33, t34, t35, t36, t37, t38, t39, t40, t41, t42, t43, t44, t45, t46, t47, t48, t49, t50, t51, t52, t53, t54, t55, t56, t57, t58, t59, t60, t61, t62, t63, t64, t65, t66, t67, t68, t69, t70, t71, t72, t73, t74, t75, t76, t77, t78, t79, t80, t81, t82, t83, t84, t85, t86, t87, t88, t89, t90, t91, t92, t93, t94, t95, t96, t97, t98, t99, t100, t101, t102, t103, t104, t105, t106, t107, t108, t109, t110, t111, t112, t113, t114, t115, t116, t117], d⟩ W := key W G r

theorem rpack_s2 (f q X Y : Int) (c s rr u v C S R : Nat) (E : Bool) (l : Nat) (k : Int) (w : World)
  (KP : zP (∀ w, Calls Tryz.prog 87 #[.int .u8 f] w fun r w' => r = .returned (.int .i64 q) ∧ w' = w))
  (KU : zP (∀ w, Calls Tryz.prog 33 #[.int .u8 f, .agg #[.int .u64 u, .int .u64 v]] w fun r w' => r = .returned (.agg (pt C S Y R)) ∧ Below w.heap.size w w'))
  (ls : S < Q) (lr : R < Q) (hs : s < Q) (hr : rr < Q) (hE : (decide (C = c) && (decide (S = s) && (decide (Y = X) && decide (R = rr)))) = E)
  (KN : zP (∀ w, Calls Tryz.prog 82 #[.agg (cw 6 s)] w fun r w' => r = .returned (.int .i64 (l : Nat)) ∧ Below w.heap.size w w')) (h1 : IntKind.i64.wrap (q - 1) = k)
  (hl : decide (k < (l : Int)) = false)
  (KB : zP (∀ w, Calls Tryz.prog 104 #[.int .u8 f, .bool true, .int .i64 0, .agg (cw 6 s)] w fun r w' => r = .returned (.agg #[.int .u64 u, .int .u64 v]) ∧ Below w.heap.size w w'))
  (hc : c = 2) : Calls Tryz.prog 107 #[.int .u8 f, .agg (pt c s X rr)] w fun r w' => r = .returned (.tuple #[.agg #[.int .u64 (if E then (u : Int) else 0), .int .u64 (if E then (v : Int) else 0)], .int .i64 (if E then 0 else 80)]) ∧ Below w.heap.size w w' := by
 have hat := zU 6
 have hz := yB
 have hff := z8
 have hs0 := xO
 have hcs : ∀ x, ((cw 6 x).size = 6) = True := fun x => eq_true (zR 6 x)
 have hp1 := xP
 have hp3 := ptz
 have hp4 := yI
 have hp5 : ∀ (c s : Nat) (x : Int) (r : Nat), ((pt c s x r).size = 14) = True := fun _ _ _ _ => eq_true rfl
 have heq := eqp
 have hg := eqgp
 have ha0 := xH
 have ha1 := xD
 have ha2 := xC
 have ha3 := y9
 have ha4 := y8
 have ha5 := y7
 have ha6 := y6
 have ha7 := yZ
 have ha8 := xG
 have ha9 := xF
 have ha10 := yQ
 have ha11 := yP
 have ha12 := yO
 have ha13 := yN
 have hb0 := pt_q0
 have hb1 := pt_q1
 have hb2 := pt_q2
 have hb3 := pt_q3
 have hb4 := pt_q4
 have hb5 := pt_q5
 have hb6 := pt_q6
 have hb7 := pt_q7
 have hb8 := pt_q8
 have hb9 := pt_q9
 have hb10 := pt_q10
 have hb11 := pt_q11
 have hb12 := pt_q12
 have hb13 := pt_q13
 ·
  have f0 : ((c : Int) == 0) = false := by rw [hc]; rfl
  have f7 : ((c : Int) == 7) = false := by rw [hc]; rfl
  have f3 : ((c : Int) == 3) = false := by rw [hc]; rfl
  have f4 : ((c : Int) == 4) = false := by rw [hc]; rfl
  have f8 : ((c : Int) == 8) = false := by rw [hc]; rfl
  have f9 : ((c : Int) == 9) = false := by rw [hc]; rfl
  have f2 : ((c : Int) == 2) = true := by rw [hc]; rfl
  clear hc
  cases E
  ·
   simp only [Bool.false_eq_true, if_false, if_true]
   obtain ⟨Ai, Aj, Ak, B0⟩ := yX w (Obj.cells (pt c s X rr) 68) (Obj.cells #[.int .u64 0, .int .u64 0] 25) (Obj.cells #[.int .u64 0, .int .u64 0] 25)
   go_enter Tryz.func107, Tryz.ntmps107
   go_wp2_with fail
   refine (KP.out _).mono ?_
   rintro r w' ⟨rfl, hw'⟩
   obtain rfl := hw'.symm
   go_wp2_with fail
   refine (KN.out _).mono ?_
   rintro r w1 ⟨rfl, b1⟩
   have B1 : Below w.heap.size w w1 := zL B0 b1
   obtain ⟨Af, Ag, Ah⟩ := zZ b1 Ai Aj Ak
   clear b1 B0 Ai Aj Ak
   obtain ⟨Ap, Aq, Ar, As, At, Au, Av, Aw, Ax, Ay, Az, AA, AB, AC⟩ := zD Af
   obtain ⟨AD, AE⟩ := zF Ag
   obtain ⟨AF, AG⟩ := zF Ah
   go_wp2_with fail
   refine (KB.out _).mono ?_
   rintro r w2 ⟨rfl, b2⟩
   have B2 : Below w.heap.size w w2 := zL B1 b2
   obtain ⟨Al, Am, Ae⟩ := zZ b2 Af Ag Ah
   clear b2 B1 Af Ap Aq Ar As At Au Av Aw Ax Ay Az AA AB AC Ag AD AE Ah AF AG
   obtain ⟨AZ, A0, A1, A2, A3, A4, A5, A6, A7, A8, A9, Ba, Bb, Bc⟩ := zD Al
   obtain ⟨Bd, Be⟩ := zF Am
   obtain ⟨Bf, Bg⟩ := zF Ae
   have q0_3 := fz (k := 0) Ae
   have q1_3 := fz (k := 1) Ae
   have B3 := zI B2 (show w.heap.size ≤ w.heap.size + 1 + 1 by first | exact Nat.le_refl _ | omega | (skip; omega)) (.int .u64 u) (.int .u64 v)
   have Ab : ((w2.setCell ⟨w.heap.size + 1 + 1, 0, none⟩ (.int .u64 u)).setCell ⟨w.heap.size + 1 + 1, 1, none⟩ (.int .u64 v)).heap[w.heap.size + 1 + 1]? = some (.cells #[.int .u64 u, .int .u64 v] 25) := yE Ae _ _
   have Aa : ((w2.setCell ⟨w.heap.size + 1 + 1, 0, none⟩ (.int .u64 u)).setCell ⟨w.heap.size + 1 + 1, 1, none⟩ (.int .u64 v)).heap[w.heap.size]? = some (.cells (pt c s X rr) 68) := (zB (by first | omega | (skip; omega))).trans ((zB (by first | omega | (skip; omega))).trans Al)
   have Ac : ((w2.setCell ⟨w.heap.size + 1 + 1, 0, none⟩ (.int .u64 u)).setCell ⟨w.heap.size + 1 + 1, 1, none⟩ (.int .u64 v)).heap[w.heap.size + 1]? = some (.cells #[.int .u64 0, .int .u64 0] 25) := (zB (by first | omega | (skip; omega))).trans ((zB (by first | omega | (skip; omega))).trans Am)
   obtain ⟨AH, AI, AJ, AK, AL, AM, AN, AO, AP, AQ, AR, AS, AT, AU⟩ := zD Aa
   obtain ⟨AV, AW⟩ := zF Ac
   obtain ⟨AX, AY⟩ := zF Ab
   go_wp2_with fail
   obtain ⟨F, hF1, hF2⟩ := zS ((w2.setCell ⟨w.heap.size + 1 + 1, 0, none⟩ (.int .u64 u)).setCell ⟨w.heap.size + 1 + 1, 1, none⟩ (.int .u64 v))
   have fp_0 := fun u => zC (zA (hF1 u) _ _ _ Aa) 0 _ rfl
   have fp_1 := fun u => zC (zA (hF1 u) _ _ _ Aa) 1 _ rfl
   have fp_2 := fun u => zC (zA (hF1 u) _ _ _ Aa) 2 _ rfl
   have fp_3 := fun u => zC (zA (hF1 u) _ _ _ Aa) 3 _ rfl
   have fp_4 := fun u => zC (zA (hF1 u) _ _ _ Aa) 4 _ rfl
   have fp_5 := fun u => zC (zA (hF1 u) _ _ _ Aa) 5 _ rfl
   have fp_6 := fun u => zC (zA (hF1 u) _ _ _ Aa) 6 _ rfl
   have fp_7 := fun u => zC (zA (hF1 u) _ _ _ Aa) 7 _ rfl
   have fp_8 := fun u => zC (zA (hF1 u) _ _ _ Aa) 8 _ rfl
   have fp_9 := fun u => zC (zA (hF1 u) _ _ _ Aa) 9 _ rfl
   have fp_10 := fun u => zC (zA (hF1 u) _ _ _ Aa) 10 _ rfl
   have fp_11 := fun u => zC (zA (hF1 u) _ _ _ Aa) 11 _ rfl
   have fp_12 := fun u => zC (zA (hF1 u) _ _ _ Aa) 12 _ rfl
   have fp_13 := fun u => zC (zA (hF1 u) _ _ _ Aa) 13 _ rfl
   have fz_0 := fun u => zC (zA (hF1 u) _ _ _ Ac) 0 _ rfl
   have fz_1 := fun u => zC (zA (hF1 u) _ _ _ Ac) 1 _ rfl
   have fb_0 := fun u => zC (zA (hF1 u) _ _ _ Ab) 0 _ rfl
   have fb_1 := fun u => zC (zA (hF1 u) _ _ _ Ab) 1 _ rfl
   refine zJ F hF2 (by kernel_rfl) (by kernel_rfl) ?_
   repeat first | go_big_quiet_step (first | (go_at_call 33; exact zN hF1 hF2 (KU.out _)) | fail) | quiet_step (first | (go_at_call 33; exact zN hF1 hF2 (KU.out _)) | fail)
   refine wpQuiet_nil ?_
   rintro _ ⟨uW, rfl⟩
   have B4 := zL B3 (hF1 uW)
   obtain ⟨An, Ad, Ao⟩ := zZ (hF1 uW) Aa Ac Ab
   obtain ⟨w4, hw⟩ : ∃ V, F uW = V := ⟨_, rfl⟩
   rw [hw] at B4 An Ad Ao
   try rw [hw]
   clear hw hF1 hF2 B3 fp_0 fp_1 fp_2 fp_3 fp_4 fp_5 fp_6 fp_7 fp_8 fp_9 fp_10 fp_11 fp_12 fp_13 fz_0 fz_1 fb_0 fb_1 Aa AH AI AJ AK AL AM AN AO AP AQ AR AS AT AU Ac AV AW Ab AX AY
   clear F
   obtain ⟨Bh, Bi, Bj, Bk, Bl, Bm, Bn, Bo, Bp, Bq, Br, Bs, Bt, Bu⟩ := zD An
   obtain ⟨Bv, Bw⟩ := zF Ad
   obtain ⟨Bx, By⟩ := zF Ao
   have q0 := fz (k := 0) Ad
   have q1 := fz (k := 1) Ad
   obtain ⟨E0, E1⟩ := zM Ad (.int .u64 0) (.int .u64 0)
   go_wp2
   exact bodyPost_ret (v := .tuple #[.agg #[.int .u64 0, .int .u64 0], .int .i64 80]) (by simp [results, Tryz.results107, go_sem, E0, E1]) rfl ⟨rfl, zI B4 (by first | exact Nat.le_refl _ | omega | (skip; omega)) _ _⟩
  ·
   simp only [Bool.false_eq_true, if_false, if_true]
   obtain ⟨Ai, Aj, Ak, B0⟩ := yX w (Obj.cells (pt c s X rr) 68) (Obj.cells #[.int .u64 0, .int .u64 0] 25) (Obj.cells #[.int .u64 0, .int .u64 0] 25)
   go_enter Tryz.func107, Tryz.ntmps107
   go_wp2_with fail
   refine (KP.out _).mono ?_
   rintro r w' ⟨rfl, hw'⟩
   obtain rfl := hw'.symm
   go_wp2_with fail
   refine (KN.out _).mono ?_
   rintro r w1 ⟨rfl, b1⟩
   have B1 : Below w.heap.size w w1 := zL B0 b1
   obtain ⟨Af, Ag, Ah⟩ := zZ b1 Ai Aj Ak
   clear b1 B0 Ai Aj Ak
   obtain ⟨Ap, Aq, Ar, As, At, Au, Av, Aw, Ax, Ay, Az, AA, AB, AC⟩ := zD Af
   obtain ⟨AD, AE⟩ := zF Ag
   obtain ⟨AF, AG⟩ := zF Ah
   go_wp2_with fail
   refine (KB.out _).mono ?_
   rintro r w2 ⟨rfl, b2⟩
   have B2 : Below w.heap.size w w2 := zL B1 b2
   obtain ⟨Al, Am, Ae⟩ := zZ b2 Af Ag Ah
   clear b2 B1 Af Ap Aq Ar As At Au Av Aw Ax Ay Az AA AB AC Ag AD AE Ah AF AG
   obtain ⟨AZ, A0, A1, A2, A3, A4, A5, A6, A7, A8, A9, Ba, Bb, Bc⟩ := zD Al
   obtain ⟨Bd, Be⟩ := zF Am
   obtain ⟨Bf, Bg⟩ := zF Ae
   have q0_3 := fz (k := 0) Ae
   have q1_3 := fz (k := 1) Ae
   have B3 := zI B2 (show w.heap.size ≤ w.heap.size + 1 + 1 by first | exact Nat.le_refl _ | omega | (skip; omega)) (.int .u64 u) (.int .u64 v)
   have Ab : ((w2.setCell ⟨w.heap.size + 1 + 1, 0, none⟩ (.int .u64 u)).setCell ⟨w.heap.size + 1 + 1, 1, none⟩ (.int .u64 v)).heap[w.heap.size + 1 + 1]? = some (.cells #[.int .u64 u, .int .u64 v] 25) := yE Ae _ _
   have Aa : ((w2.setCell ⟨w.heap.size + 1 + 1, 0, none⟩ (.int .u64 u)).setCell ⟨w.heap.size + 1 + 1, 1, none⟩ (.int .u64 v)).heap[w.heap.size]? = some (.cells (pt c s X rr) 68) := (zB (by first | omega | (skip; omega))).trans ((zB (by first | omega | (skip; omega))).trans Al)
   have Ac : ((w2.setCell ⟨w.heap.size + 1 + 1, 0, none⟩ (.int .u64 u)).setCell ⟨w.heap.size + 1 + 1, 1, none⟩ (.int .u64 v)).heap[w.heap.size + 1]? = some (.cells #[.int .u64 0, .int .u64 0] 25) := (zB (by first | omega | (skip; omega))).trans ((zB (by first | omega | (skip; omega))).trans Am)
   obtain ⟨AH, AI, AJ, AK, AL, AM, AN, AO, AP, AQ, AR, AS, AT, AU⟩ := zD Aa
   obtain ⟨AV, AW⟩ := zF Ac
   obtain ⟨AX, AY⟩ := zF Ab
   go_wp2_with fail
   obtain ⟨F, hF1, hF2⟩ := zS ((w2.setCell ⟨w.heap.size + 1 + 1, 0, none⟩ (.int .u64 u)).setCell ⟨w.heap.size + 1 + 1, 1, none⟩ (.int .u64 v))
   have fp_0 := fun u => zC (zA (hF1 u) _ _ _ Aa) 0 _ rfl
   have fp_1 := fun u => zC (zA (hF1 u) _ _ _ Aa) 1 _ rfl
   have fp_2 := fun u => zC (zA (hF1 u) _ _ _ Aa) 2 _ rfl
   have fp_3 := fun u => zC (zA (hF1 u) _ _ _ Aa) 3 _ rfl
   have fp_4 := fun u => zC (zA (hF1 u) _ _ _ Aa) 4 _ rfl
   have fp_5 := fun u => zC (zA (hF1 u) _ _ _ Aa) 5 _ rfl
   have fp_6 := fun u => zC (zA (hF1 u) _ _ _ Aa) 6 _ rfl
   have fp_7 := fun u => zC (zA (hF1 u) _ _ _ Aa) 7 _ rfl
   have fp_8 := fun u => zC (zA (hF1 u) _ _ _ Aa) 8 _ rfl
   have fp_9 := fun u => zC (zA (hF1 u) _ _ _ Aa) 9 _ rfl
   have fp_10 := fun u => zC (zA (hF1 u) _ _ _ Aa) 10 _ rfl
   have fp_11 := fun u => zC (zA (hF1 u) _ _ _ Aa) 11 _ rfl
   have fp_12 := fun u => zC (zA (hF1 u) _ _ _ Aa) 12 _ rfl
   have fp_13 := fun u => zC (zA (hF1 u) _ _ _ Aa) 13 _ rfl
   have fz_0 := fun u => zC (zA (hF1 u) _ _ _ Ac) 0 _ rfl
   have fz_1 := fun u => zC (zA (hF1 u) _ _ _ Ac) 1 _ rfl
   have fb_0 := fun u => zC (zA (hF1 u) _ _ _ Ab) 0 _ rfl
   have fb_1 := fun u => zC (zA (hF1 u) _ _ _ Ab) 1 _ rfl
   refine zJ F hF2 (by kernel_rfl) (by kernel_rfl) ?_
   repeat first | go_big_quiet_step (first | (go_at_call 33; exact zN hF1 hF2 (KU.out _)) | fail) | quiet_step (first | (go_at_call 33; exact zN hF1 hF2 (KU.out _)) | fail)
   refine wpQuiet_nil ?_
   rintro _ ⟨uW, rfl⟩
   have B4 := zL B3 (hF1 uW)
   obtain ⟨An, Ad, Ao⟩ := zZ (hF1 uW) Aa Ac Ab
   obtain ⟨w4, hw⟩ : ∃ V, F uW = V := ⟨_, rfl⟩
   rw [hw] at B4 An Ad Ao
   try rw [hw]
   clear hw hF1 hF2 B3 fp_0 fp_1 fp_2 fp_3 fp_4 fp_5 fp_6 fp_7 fp_8 fp_9 fp_10 fp_11 fp_12 fp_13 fz_0 fz_1 fb_0 fb_1 Aa AH AI AJ AK AL AM AN AO AP AQ AR AS AT AU Ac AV AW Ab AX AY
   clear F
   obtain ⟨Bh, Bi, Bj, Bk, Bl, Bm, Bn, Bo, Bp, Bq, Br, Bs, Bt, Bu⟩ := zD An
   obtain ⟨Bv, Bw⟩ := zF Ad
   obtain ⟨Bx, By⟩ := zF Ao
   have q0 := fz (k := 0) Ad
   have q1 := fz (k := 1) Ad
   obtain ⟨E0, E1⟩ := zM Ad (.int .u64 u) (.int .u64 v)
   go_wp2
   exact bodyPost_ret (v := .tuple #[.agg #[.int .u64 u, .int .u64 v], .int .i64 0]) (by simp [results, Tryz.results107, go_sem, E0, E1]) rfl ⟨rfl, zI B4 (by first | exact Nat.le_refl _ | omega | (skip; omega)) _ _⟩
theorem rpack_s5 (f q X Y : Int) (c s rr u v C S R : Nat) (E : Bool) (l : Nat) (k : Int) (w : World)
  (KP : zP (∀ w, Calls Tryz.prog 87 #[.int .u8 f] w fun r w' => r = .returned (.int .i64 q) ∧ w' = w))
  (KU : zP (∀ w, Calls Tryz.prog 33 #[.int .u8 f, .agg #[.int .u64 u, .int .u64 v]] w fun r w' => r = .returned (.agg (pt C S Y R)) ∧ Below w.heap.size w w'))
  (ls : S < Q) (lr : R < Q) (hs : s < Q) (hr : rr < Q) (hE : (decide (C = c) && (decide (S = s) && (decide (Y = X) && decide (R = rr)))) = E)
  (KN : zP (∀ w, Calls Tryz.prog 82 #[.agg (cw 6 s)] w fun r w' => r = .returned (.int .i64 (l : Nat)) ∧ Below w.heap.size w w')) (h1 : IntKind.i64.wrap (q - 1) = k)
  (hl : decide (k < (l : Int)) = false)
  (KB : zP (∀ w, Calls Tryz.prog 104 #[.int .u8 f, .bool false, .int .i64 0, .agg (cw 6 s)] w fun r w' => r = .returned (.agg #[.int .u64 u, .int .u64 v]) ∧ Below w.heap.size w w'))
  (hc : c = 5) : Calls Tryz.prog 107 #[.int .u8 f, .agg (pt c s X rr)] w fun r w' => r = .returned (.tuple #[.agg #[.int .u64 (if E then (u : Int) else 0), .int .u64 (if E then (v : Int) else 0)], .int .i64 (if E then 0 else 80)]) ∧ Below w.heap.size w w' := by
 have hat := zU 6
 have hz := yB
 have hff := z8
 have hs0 := xO
 have hcs : ∀ x, ((cw 6 x).size = 6) = True := fun x => eq_true (zR 6 x)
 have hp1 := xP
 have hp3 := ptz
 have hp4 := yI
 have hp5 : ∀ (c s : Nat) (x : Int) (r : Nat), ((pt c s x r).size = 14) = True := fun _ _ _ _ => eq_true rfl
 have heq := eqp
 have hg := eqgp
 have ha0 := xH
 have ha1 := xD
 have ha2 := xC
 have ha3 := y9
 have ha4 := y8
 have ha5 := y7
 have ha6 := y6
 have ha7 := yZ
 have ha8 := xG
 have ha9 := xF
 have ha10 := yQ
 have ha11 := yP
 have ha12 := yO
 have ha13 := yN
 have hb0 := pt_q0
 have hb1 := pt_q1
 have hb2 := pt_q2
 have hb3 := pt_q3
 have hb4 := pt_q4
 have hb5 := pt_q5
 have hb6 := pt_q6
 have hb7 := pt_q7
 have hb8 := pt_q8
 have hb9 := pt_q9
 have hb10 := pt_q10
 have hb11 := pt_q11
 have hb12 := pt_q12
 have hb13 := pt_q13
 ·
  have f0 : ((c : Int) == 0) = false := by rw [hc]; rfl
  have f7 : ((c : Int) == 7) = false := by rw [hc]; rfl
  have f3 : ((c : Int) == 3) = false := by rw [hc]; rfl
  have f4 : ((c : Int) == 4) = false := by rw [hc]; rfl
  have f8 : ((c : Int) == 8) = false := by rw [hc]; rfl
  have f9 : ((c : Int) == 9) = false := by rw [hc]; rfl
  have f2 : ((c : Int) == 2) = false := by rw [hc]; rfl
  have f5 : ((c : Int) == 5) = true := by rw [hc]; rfl
  clear hc
  cases E
  ·
   simp only [Bool.false_eq_true, if_false, if_true]
   obtain ⟨Ai, Aj, Ak, B0⟩ := yX w (Obj.cells (pt c s X rr) 68) (Obj.cells #[.int .u64 0, .int .u64 0] 25) (Obj.cells #[.int .u64 0, .int .u64 0] 25)
   go_enter Tryz.func107, Tryz.ntmps107
   go_wp2_with fail
   refine (KP.out _).mono ?_
   rintro r w' ⟨rfl, hw'⟩
   obtain rfl := hw'.symm
   go_wp2_with fail
   refine (KN.out _).mono ?_
   rintro r w1 ⟨rfl, b1⟩
   have B1 : Below w.heap.size w w1 := zL B0 b1
   obtain ⟨Af, Ag, Ah⟩ := zZ b1 Ai Aj Ak
   clear b1 B0 Ai Aj Ak
   obtain ⟨Ap, Aq, Ar, As, At, Au, Av, Aw, Ax, Ay, Az, AA, AB, AC⟩ := zD Af
   obtain ⟨AD, AE⟩ := zF Ag
   obtain ⟨AF, AG⟩ := zF Ah
   go_wp2_with fail
   refine (KB.out _).mono ?_
   rintro r w2 ⟨rfl, b2⟩
   have B2 : Below w.heap.size w w2 := zL B1 b2
   obtain ⟨Al, Am, Ae⟩ := zZ b2 Af Ag Ah
   clear b2 B1 Af Ap Aq Ar As At Au Av Aw Ax Ay Az AA AB AC Ag AD AE Ah AF AG
   obtain ⟨AZ, A0, A1, A2, A3, A4, A5, A6, A7, A8, A9, Ba, Bb, Bc⟩ := zD Al
   obtain ⟨Bd, Be⟩ := zF Am
   obtain ⟨Bf, Bg⟩ := zF Ae
   have q0_3 := fz (k := 0) Ae
   have q1_3 := fz (k := 1) Ae
   have B3 := zI B2 (show w.heap.size ≤ w.heap.size + 1 + 1 by first | exact Nat.le_refl _ | omega | (skip; omega)) (.int .u64 u) (.int .u64 v)
   have Ab : ((w2.setCell ⟨w.heap.size + 1 + 1, 0, none⟩ (.int .u64 u)).setCell ⟨w.heap.size + 1 + 1, 1, none⟩ (.int .u64 v)).heap[w.heap.size + 1 + 1]? = some (.cells #[.int .u64 u, .int .u64 v] 25) := yE Ae _ _
   have Aa : ((w2.setCell ⟨w.heap.size + 1 + 1, 0, none⟩ (.int .u64 u)).setCell ⟨w.heap.size + 1 + 1, 1, none⟩ (.int .u64 v)).heap[w.heap.size]? = some (.cells (pt c s X rr) 68) := (zB (by first | omega | (skip; omega))).trans ((zB (by first | omega | (skip; omega))).trans Al)
   have Ac : ((w2.setCell ⟨w.heap.size + 1 + 1, 0, none⟩ (.int .u64 u)).setCell ⟨w.heap.size + 1 + 1, 1, none⟩ (.int .u64 v)).heap[w.heap.size + 1]? = some (.cells #[.int .u64 0, .int .u64 0] 25) := (zB (by first | omega | (skip; omega))).trans ((zB (by first | omega | (skip; omega))).trans Am)
   obtain ⟨AH, AI, AJ, AK, AL, AM, AN, AO, AP, AQ, AR, AS, AT, AU⟩ := zD Aa
   obtain ⟨AV, AW⟩ := zF Ac
   obtain ⟨AX, AY⟩ := zF Ab
   go_wp2_with fail
   obtain ⟨F, hF1, hF2⟩ := zS ((w2.setCell ⟨w.heap.size + 1 + 1, 0, none⟩ (.int .u64 u)).setCell ⟨w.heap.size + 1 + 1, 1, none⟩ (.int .u64 v))
   have fp_0 := fun u => zC (zA (hF1 u) _ _ _ Aa) 0 _ rfl
   have fp_1 := fun u => zC (zA (hF1 u) _ _ _ Aa) 1 _ rfl
   have fp_2 := fun u => zC (zA (hF1 u) _ _ _ Aa) 2 _ rfl
   have fp_3 := fun u => zC (zA (hF1 u) _ _ _ Aa) 3 _ rfl
   have fp_4 := fun u => zC (zA (hF1 u) _ _ _ Aa) 4 _ rfl
   have fp_5 := fun u => zC (zA (hF1 u) _ _ _ Aa) 5 _ rfl
   have fp_6 := fun u => zC (zA (hF1 u) _ _ _ Aa) 6 _ rfl
   have fp_7 := fun u => zC (zA (hF1 u) _ _ _ Aa) 7 _ rfl
   have fp_8 := fun u => zC (zA (hF1 u) _ _ _ Aa) 8 _ rfl
   have fp_9 := fun u => zC (zA (hF1 u) _ _ _ Aa) 9 _ rfl
   have fp_10 := fun u => zC (zA (hF1 u) _ _ _ Aa) 10 _ rfl
   have fp_11 := fun u => zC (zA (hF1 u) _ _ _ Aa) 11 _ rfl
   have fp_12 := fun u => zC (zA (hF1 u) _ _ _ Aa) 12 _ rfl
   have fp_13 := fun u => zC (zA (hF1 u) _ _ _ Aa) 13 _ rfl
   have fz_0 := fun u => zC (zA (hF1 u) _ _ _ Ac) 0 _ rfl
   have fz_1 := fun u => zC (zA (hF1 u) _ _ _ Ac) 1 _ rfl
   have fb_0 := fun u => zC (zA (hF1 u) _ _ _ Ab) 0 _ rfl
   have fb_1 := fun u => zC (zA (hF1 u) _ _ _ Ab) 1 _ rfl
   refine zJ F hF2 (by kernel_rfl) (by kernel_rfl) ?_
   repeat first | go_big_quiet_step (first | (go_at_call 33; exact zN hF1 hF2 (KU.out _)) | fail) | quiet_step (first | (go_at_call 33; exact zN hF1 hF2 (KU.out _)) | fail)
   refine wpQuiet_nil ?_
   rintro _ ⟨uW, rfl⟩
   have B4 := zL B3 (hF1 uW)
   obtain ⟨An, Ad, Ao⟩ := zZ (hF1 uW) Aa Ac Ab
   obtain ⟨w4, hw⟩ : ∃ V, F uW = V := ⟨_, rfl⟩
   rw [hw] at B4 An Ad Ao
   try rw [hw]
   clear hw hF1 hF2 B3 fp_0 fp_1 fp_2 fp_3 fp_4 fp_5 fp_6 fp_7 fp_8 fp_9 fp_10 fp_11 fp_12 fp_13 fz_0 fz_1 fb_0 fb_1 Aa AH AI AJ AK AL AM AN AO AP AQ AR AS AT AU Ac AV AW Ab AX AY
   clear F
   obtain ⟨Bh, Bi, Bj, Bk, Bl, Bm, Bn, Bo, Bp, Bq, Br, Bs, Bt, Bu⟩ := zD An
   obtain ⟨Bv, Bw⟩ := zF Ad
   obtain ⟨Bx, By⟩ := zF Ao
   have q0 := fz (k := 0) Ad
   have q1 := fz (k := 1) Ad
   obtain ⟨E0, E1⟩ := zM Ad (.int .u64 0) (.int .u64 0)
   go_wp2
   exact bodyPost_ret (v := .tuple #[.agg #[.int .u64 0, .int .u64 0], .int .i64 80]) (by simp [results, Tryz.results107, go_sem, E0, E1]) rfl ⟨rfl, zI B4 (by first | exact Nat.le_refl _ | omega | (skip; omega)) _ _⟩
  ·
   simp only [Bool.false_eq_true, if_false, if_true]
   obtain ⟨Ai, Aj, Ak, B0⟩ := yX w (Obj.cells (pt c s X rr) 68) (Obj.cells #[.int .u64 0, .int .u64 0] 25) (Obj.cells #[.int .u64 0, .int .u64 0] 25)
   go_enter Tryz.func107, Tryz.ntmps107
   go_wp2_with fail
   refine (KP.out _).mono ?_
   rintro r w' ⟨rfl, hw'⟩
   obtain rfl := hw'.symm
   go_wp2_with fail
   refine (KN.out _).mono ?_
   rintro r w1 ⟨rfl, b1⟩
   have B1 : Below w.heap.size w w1 := zL B0 b1
   obtain ⟨Af, Ag, Ah⟩ := zZ b1 Ai Aj Ak
   clear b1 B0 Ai Aj Ak
   obtain ⟨Ap, Aq, Ar, As, At, Au, Av, Aw, Ax, Ay, Az, AA, AB, AC⟩ := zD Af
   obtain ⟨AD, AE⟩ := zF Ag
   obtain ⟨AF, AG⟩ := zF Ah
   go_wp2_with fail
   refine (KB.out _).mono ?_
   rintro r w2 ⟨rfl, b2⟩
   have B2 : Below w.heap.size w w2 := zL B1 b2
   obtain ⟨Al, Am, Ae⟩ := zZ b2 Af Ag Ah
   clear b2 B1 Af Ap Aq Ar As At Au Av Aw Ax Ay Az AA AB AC Ag AD AE Ah AF AG
   obtain ⟨AZ, A0, A1, A2, A3, A4, A5, A6, A7, A8, A9, Ba, Bb, Bc⟩ := zD Al
   obtain ⟨Bd, Be⟩ := zF Am
   obtain ⟨Bf, Bg⟩ := zF Ae
   have q0_3 := fz (k := 0) Ae
   have q1_3 := fz (k := 1) Ae
   have B3 := zI B2 (show w.heap.size ≤ w.heap.size + 1 + 1 by first | exact Nat.le_refl _ | omega | (skip; omega)) (.int .u64 u) (.int .u64 v)
   have Ab : ((w2.setCell ⟨w.heap.size + 1 + 1, 0, none⟩ (.int .u64 u)).setCell ⟨w.heap.size + 1 + 1, 1, none⟩ (.int .u64 v)).heap[w.heap.size + 1 + 1]? = some (.cells #[.int .u64 u, .int .u64 v] 25) := yE Ae _ _
   have Aa : ((w2.setCell ⟨w.heap.size + 1 + 1, 0, none⟩ (.int .u64 u)).setCell ⟨w.heap.size + 1 + 1, 1, none⟩ (.int .u64 v)).heap[w.heap.size]? = some (.cells (pt c s X rr) 68) := (zB (by first | omega | (skip; omega))).trans ((zB (by first | omega | (skip; omega))).trans Al)
   have Ac : ((w2.setCell ⟨w.heap.size + 1 + 1, 0, none⟩ (.int .u64 u)).setCell ⟨w.heap.size + 1 + 1, 1, none⟩ (.int .u64 v)).heap[w.heap.size + 1]? = some (.cells #[.int .u64 0, .int .u64 0] 25) := (zB (by first | omega | (skip; omega))).trans ((zB (by first | omega | (skip; omega))).trans Am)
   obtain ⟨AH, AI, AJ, AK, AL, AM, AN, AO, AP, AQ, AR, AS, AT, AU⟩ := zD Aa
   obtain ⟨AV, AW⟩ := zF Ac
   obtain ⟨AX, AY⟩ := zF Ab
   go_wp2_with fail
   obtain ⟨F, hF1, hF2⟩ := zS ((w2.setCell ⟨w.heap.size + 1 + 1, 0, none⟩ (.int .u64 u)).setCell ⟨w.heap.size + 1 + 1, 1, none⟩ (.int .u64 v))
   have fp_0 := fun u => zC (zA (hF1 u) _ _ _ Aa) 0 _ rfl
   have fp_1 := fun u => zC (zA (hF1 u) _ _ _ Aa) 1 _ rfl
   have fp_2 := fun u => zC (zA (hF1 u) _ _ _ Aa) 2 _ rfl
   have fp_3 := fun u => zC (zA (hF1 u) _ _ _ Aa) 3 _ rfl
   have fp_4 := fun u => zC (zA (hF1 u) _ _ _ Aa) 4 _ rfl
   have fp_5 := fun u => zC (zA (hF1 u) _ _ _ Aa) 5 _ rfl
   have fp_6 := fun u => zC (zA (hF1 u) _ _ _ Aa) 6 _ rfl
   have fp_7 := fun u => zC (zA (hF1 u) _ _ _ Aa) 7 _ rfl
   have fp_8 := fun u => zC (zA (hF1 u) _ _ _ Aa) 8 _ rfl
   have fp_9 := fun u => zC (zA (hF1 u) _ _ _ Aa) 9 _ rfl
   have fp_10 := fun u => zC (zA (hF1 u) _ _ _ Aa) 10 _ rfl
   have fp_11 := fun u => zC (zA (hF1 u) _ _ _ Aa) 11 _ rfl
   have fp_12 := fun u => zC (zA (hF1 u) _ _ _ Aa) 12 _ rfl
   have fp_13 := fun u => zC (zA (hF1 u) _ _ _ Aa) 13 _ rfl
   have fz_0 := fun u => zC (zA (hF1 u) _ _ _ Ac) 0 _ rfl
   have fz_1 := fun u => zC (zA (hF1 u) _ _ _ Ac) 1 _ rfl
   have fb_0 := fun u => zC (zA (hF1 u) _ _ _ Ab) 0 _ rfl
   have fb_1 := fun u => zC (zA (hF1 u) _ _ _ Ab) 1 _ rfl
   refine zJ F hF2 (by kernel_rfl) (by kernel_rfl) ?_
   repeat first | go_big_quiet_step (first | (go_at_call 33; exact zN hF1 hF2 (KU.out _)) | fail) | quiet_step (first | (go_at_call 33; exact zN hF1 hF2 (KU.out _)) | fail)
   refine wpQuiet_nil ?_
   rintro _ ⟨uW, rfl⟩
   have B4 := zL B3 (hF1 uW)
   obtain ⟨An, Ad, Ao⟩ := zZ (hF1 uW) Aa Ac Ab
   obtain ⟨w4, hw⟩ : ∃ V, F uW = V := ⟨_, rfl⟩
   rw [hw] at B4 An Ad Ao
   try rw [hw]
   clear hw hF1 hF2 B3 fp_0 fp_1 fp_2 fp_3 fp_4 fp_5 fp_6 fp_7 fp_8 fp_9 fp_10 fp_11 fp_12 fp_13 fz_0 fz_1 fb_0 fb_1 Aa AH AI AJ AK AL AM AN AO AP AQ AR AS AT AU Ac AV AW Ab AX AY
   clear F
   obtain ⟨Bh, Bi, Bj, Bk, Bl, Bm, Bn, Bo, Bp, Bq, Br, Bs, Bt, Bu⟩ := zD An
   obtain ⟨Bv, Bw⟩ := zF Ad
   obtain ⟨Bx, By⟩ := zF Ao
   have q0 := fz (k := 0) Ad
   have q1 := fz (k := 1) Ad
   obtain ⟨E0, E1⟩ := zM Ad (.int .u64 u) (.int .u64 v)
   go_wp2
   exact bodyPost_ret (v := .tuple #[.agg #[.int .u64 u, .int .u64 v], .int .i64 0]) (by simp [results, Tryz.results107, go_sem, E0, E1]) rfl ⟨rfl, zI B4 (by first | exact Nat.le_refl _ | omega | (skip; omega)) _ _⟩
theorem rpack_n1 (f q X Y : Int) (c s rr u v C S R : Nat) (E : Bool) (l t K e : Nat) (k m M L M2 : Int) (w : World)
  (KP : zP (∀ w, Calls Tryz.prog 87 #[.int .u8 f] w fun r w' => r = .returned (.int .i64 q) ∧ w' = w))
  (KU : zP (∀ w, Calls Tryz.prog 33 #[.int .u8 f, .agg #[.int .u64 u, .int .u64 v]] w fun r w' => r = .returned (.agg (pt C S Y R)) ∧ Below w.heap.size w w'))
  (ls : S < Q) (lr : R < Q) (hs : s < Q) (hr : rr < Q) (hE : (decide (C = c) && (decide (S = s) && (decide (Y = X) && decide (R = rr)))) = E)
  (KN : zP (∀ w, Calls Tryz.prog 82 #[.agg (cw 6 s)] w fun r w' => r = .returned (.int .i64 (l : Nat)) ∧ Below w.heap.size w w')) (h1 : IntKind.i64.wrap (q - 1) = k)
  (KE : zP (∀ w, Calls Tryz.prog 88 #[.int .u8 f] w fun r w' => r = .returned (.int .i64 m) ∧ w' = w)) (h2 : IntKind.i64.wrap (m - q) = m - q) (h3 : IntKind.i64.wrap (m - q + 1) = L)
  (KX : zP (∀ w, Calls Tryz.prog 92 #[.int .u8 f] w fun r w' => r = .returned (.int .i64 M) ∧ w' = w)) (h4 : IntKind.i64.wrap (M - q) = M - q) (h5 : IntKind.i64.wrap (M - q + 1) = M2)
  (c1 : ((l : Int) != q) = false) (c2 : decide (X < L) = false) (c3 : decide (M2 < X) = false)
  (KM : zP (∀ w, Calls Tryz.prog 173 #[.int .i64 k] w fun r w' => r = .returned (.agg (cw 6 K)) ∧ Below w.heap.size w w')) (KA : zP (∀ w, Calls Tryz.prog 172 #[.agg (cw 6 s), .agg (cw 6 K)] w fun r w' => r = .returned (.agg (cw 6 t)) ∧ Below w.heap.size w w'))
  (h6 : IntKind.i64.wrap (X - L) = X - L) (h7 : IntKind.i64.wrap (X - L + 1) = (e : Int))
  (KB : zP (∀ w, Calls Tryz.prog 104 #[.int .u8 f, .bool true, .int .i64 (e : Nat), .agg (cw 6 t)] w fun r w' => r = .returned (.agg #[.int .u64 u, .int .u64 v]) ∧ Below w.heap.size w w'))
  (hc : c = 1) : Calls Tryz.prog 107 #[.int .u8 f, .agg (pt c s X rr)] w fun r w' => r = .returned (.tuple #[.agg #[.int .u64 (if E then (u : Int) else 0), .int .u64 (if E then (v : Int) else 0)], .int .i64 (if E then 0 else 80)]) ∧ Below w.heap.size w w' := by
 have hat := zU 6
 have hz := yB
 have hff := z8
 have hs0 := xO
 have hcs : ∀ x, ((cw 6 x).size = 6) = True := fun x => eq_true (zR 6 x)
 have hp1 := xP
 have hp3 := ptz
 have hp4 := yI
 have hp5 : ∀ (c s : Nat) (x : Int) (r : Nat), ((pt c s x r).size = 14) = True := fun _ _ _ _ => eq_true rfl
 have heq := eqp
 have hg := eqgp
 have ha0 := xH
 have ha1 := xD
 have ha2 := xC
 have ha3 := y9
 have ha4 := y8
 have ha5 := y7
 have ha6 := y6
 have ha7 := yZ
 have ha8 := xG
 have ha9 := xF
 have ha10 := yQ
 have ha11 := yP
 have ha12 := yO
 have ha13 := yN
 have hb0 := pt_q0
 have hb1 := pt_q1
 have hb2 := pt_q2
 have hb3 := pt_q3
 have hb4 := pt_q4
 have hb5 := pt_q5
 have hb6 := pt_q6
 have hb7 := pt_q7
 have hb8 := pt_q8
 have hb9 := pt_q9
 have hb10 := pt_q10
 have hb11 := pt_q11
 have hb12 := pt_q12
 have hb13 := pt_q13
 ·
  have f0 : ((c : Int) == 0) = false := by rw [hc]; rfl
  have f7 : ((c : Int) == 7) = false := by rw [hc]; rfl
  have f3 : ((c : Int) == 3) = false := by rw [hc]; rfl
  have f4 : ((c : Int) == 4) = false := by rw [hc]; rfl
  have f8 : ((c : Int) == 8) = false := by rw [hc]; rfl
  have f9 : ((c : Int) == 9) = false := by rw [hc]; rfl
  have f2 : ((c : Int) == 2) = false := by rw [hc]; rfl
  have f5 : ((c : Int) == 5) = false := by rw [hc]; rfl
  have f1 : ((c : Int) == 1) = true := by rw [hc]; rfl
  clear hc
  cases E
  ·
   simp only [Bool.false_eq_true, if_false, if_true]
   obtain ⟨Ab, Af, Ag, B0⟩ := yX w (Obj.cells (pt c s X rr) 68) (Obj.cells #[.int .u64 0, .int .u64 0] 25) (Obj.cells #[.int .u64 0, .int .u64 0] 25)
   go_enter Tryz.func107, Tryz.ntmps107
   go_wp2_with fail
   refine (KP.out _).mono ?_
   rintro r w' ⟨rfl, hw'⟩
   obtain rfl := hw'.symm
   go_wp2_with fail
   refine (KE.out _).mono ?_
   rintro r w' ⟨rfl, hw'⟩
   obtain rfl := hw'.symm
   go_wp2_with fail
   obtain ⟨F, hF1, hF2⟩ := zS (((w.alloc (Obj.cells (pt c s X rr) 68)).alloc (Obj.cells #[.int .u64 0, .int .u64 0] 25)).alloc (Obj.cells #[.int .u64 0, .int .u64 0] 25))
   have fp_0 := fun u => zC (zA (hF1 u) _ _ _ Ab) 0 _ rfl
   have fp_1 := fun u => zC (zA (hF1 u) _ _ _ Ab) 1 _ rfl
   have fp_2 := fun u => zC (zA (hF1 u) _ _ _ Ab) 2 _ rfl
   have fp_3 := fun u => zC (zA (hF1 u) _ _ _ Ab) 3 _ rfl
   have fp_4 := fun u => zC (zA (hF1 u) _ _ _ Ab) 4 _ rfl
   have fp_5 := fun u => zC (zA (hF1 u) _ _ _ Ab) 5 _ rfl
   have fp_6 := fun u => zC (zA (hF1 u) _ _ _ Ab) 6 _ rfl
   have fp_7 := fun u => zC (zA (hF1 u) _ _ _ Ab) 7 _ rfl
   have fp_8 := fun u => zC (zA (hF1 u) _ _ _ Ab) 8 _ rfl
   have fp_9 := fun u => zC (zA (hF1 u) _ _ _ Ab) 9 _ rfl
   have fp_10 := fun u => zC (zA (hF1 u) _ _ _ Ab) 10 _ rfl
   have fp_11 := fun u => zC (zA (hF1 u) _ _ _ Ab) 11 _ rfl
   have fp_12 := fun u => zC (zA (hF1 u) _ _ _ Ab) 12 _ rfl
   have fp_13 := fun u => zC (zA (hF1 u) _ _ _ Ab) 13 _ rfl
   have fz_0 := fun u => zC (zA (hF1 u) _ _ _ Af) 0 _ rfl
   have fz_1 := fun u => zC (zA (hF1 u) _ _ _ Af) 1 _ rfl
   have fb_0 := fun u => zC (zA (hF1 u) _ _ _ Ag) 0 _ rfl
   have fb_1 := fun u => zC (zA (hF1 u) _ _ _ Ag) 1 _ rfl
   refine zJ F hF2 (by kernel_rfl) (by kernel_rfl) ?_
   repeat first | go_big_quiet_step (first | (go_at_call 82; exact zN hF1 hF2 (KN.out _)) | (go_at_call 92; exact yG (KX.out _)) | fail) | quiet_step (first | (go_at_call 82; exact zN hF1 hF2 (KN.out _)) | (go_at_call 92; exact yG (KX.out _)) | fail)
   refine wpQuiet_nil ?_
   rintro _ ⟨uW, rfl⟩
   have B1 := zL B0 (hF1 uW)
   obtain ⟨Ah, Ai, Aj⟩ := zZ (hF1 uW) Ab Af Ag
   obtain ⟨w1, hw⟩ : ∃ V, F uW = V := ⟨_, rfl⟩
   rw [hw] at B1 Ah Ai Aj
   try rw [hw]
   clear hw hF1 hF2 B0 fp_0 fp_1 fp_2 fp_3 fp_4 fp_5 fp_6 fp_7 fp_8 fp_9 fp_10 fp_11 fp_12 fp_13 fz_0 fz_1 fb_0 fb_1 Ab Af Ag
   clear F
   obtain ⟨Aw, Ax, Ay, Az, AA, AB, AC, AD, AE, AF, AG, AH, AI, AJ⟩ := zD Ah
   obtain ⟨AK, AL⟩ := zF Ai
   obtain ⟨AM, AN⟩ := zF Aj
   have sS : zP (∀ W W1 : World, (Below w.heap.size w W ∧ W.heap[w.heap.size]? = some (.cells (pt c s X rr) 68) ∧ W.heap[w.heap.size + 1]? = some (.cells #[.int .u64 0, .int .u64 0] 25) ∧ W.heap[w.heap.size + 1 + 1]? = some (.cells #[.int .u64 0, .int .u64 0] 25)) → Below W.heap.size W W1 → (Below w.heap.size w W1 ∧ W1.heap[w.heap.size]? = some (.cells (pt c s X rr) 68) ∧ W1.heap[w.heap.size + 1]? = some (.cells #[.int .u64 0, .int .u64 0] 25) ∧ W1.heap[w.heap.size + 1 + 1]? = some (.cells #[.int .u64 0, .int .u64 0] 25))) := zK (fun W W1 h b => ⟨zL h.1 b, zA b _ _ _ h.2.1, zA b _ _ _ h.2.2.1, zA b _ _ _ h.2.2.2⟩)
   have sL : zP (∀ W : World, (Below w.heap.size w W ∧ W.heap[w.heap.size]? = some (.cells (pt c s X rr) 68) ∧ W.heap[w.heap.size + 1]? = some (.cells #[.int .u64 0, .int .u64 0] 25) ∧ W.heap[w.heap.size + 1 + 1]? = some (.cells #[.int .u64 0, .int .u64 0] 25)) → (w.heap.size < W.heap.size ∧ w.heap.size + 1 < W.heap.size ∧ w.heap.size + 1 + 1 < W.heap.size)) := zK (fun W h => ⟨(Array.getElem?_eq_some_iff.1 h.2.1).1, (Array.getElem?_eq_some_iff.1 h.2.2.1).1, (Array.getElem?_eq_some_iff.1 h.2.2.2).1⟩)
   have sT : zP (∀ (W : World) (gN : Nat) (xA : Array Value), (Below w.heap.size w W ∧ W.heap[w.heap.size]? = some (.cells (pt c s X rr) 68) ∧ W.heap[w.heap.size + 1]? = some (.cells #[.int .u64 0, .int .u64 0] 25) ∧ W.heap[w.heap.size + 1 + 1]? = some (.cells #[.int .u64 0, .int .u64 0] 25)) → (w.heap.size < gN ∧ w.heap.size + 1 < gN ∧ w.heap.size + 1 + 1 < gN) → (Below w.heap.size w (W.setRow gN xA) ∧ (W.setRow gN xA).heap[w.heap.size]? = some (.cells (pt c s X rr) 68) ∧ (W.setRow gN xA).heap[w.heap.size + 1]? = some (.cells #[.int .u64 0, .int .u64 0] 25) ∧ (W.setRow gN xA).heap[w.heap.size + 1 + 1]? = some (.cells #[.int .u64 0, .int .u64 0] 25))) := zK (fun W gN xA h l => ⟨zX h.1 (show w.heap.size ≤ gN by have := l.1; omega), (zH (by have := l.1; omega)).trans h.2.1, (zH (by have := l.2.1; omega)).trans h.2.2.1, (zH (by have := l.2.2; omega)).trans h.2.2.2⟩)
   have sC : zP (∀ W : World, (Below w.heap.size w W ∧ W.heap[w.heap.size]? = some (.cells (pt c s X rr) 68) ∧ W.heap[w.heap.size + 1]? = some (.cells #[.int .u64 0, .int .u64 0] 25) ∧ W.heap[w.heap.size + 1 + 1]? = some (.cells #[.int .u64 0, .int .u64 0] 25)) → (Below w.heap.size w W ∧ W.heap[w.heap.size]? = some (.cells (pt c s X rr) 68) ∧ W.heap[w.heap.size + 1]? = some (.cells #[.int .u64 0, .int .u64 0] 25) ∧ W.heap[w.heap.size + 1 + 1]? = some (.cells #[.int .u64 0, .int .u64 0] 25) ∧ W.cell? ⟨w.heap.size, 0, none⟩ = some (.int .u8 c) ∧ W.cell? ⟨w.heap.size, 1, none⟩ = some (.int .u64 (wd s 0)) ∧ W.cell? ⟨w.heap.size, 2, none⟩ = some (.int .u64 (wd s 1)) ∧ W.cell? ⟨w.heap.size, 3, none⟩ = some (.int .u64 (wd s 2)) ∧ W.cell? ⟨w.heap.size, 4, none⟩ = some (.int .u64 (wd s 3)) ∧ W.cell? ⟨w.heap.size, 5, none⟩ = some (.int .u64 (wd s 4)) ∧ W.cell? ⟨w.heap.size, 6, none⟩ = some (.int .u64 (wd s 5)) ∧ W.cell? ⟨w.heap.size, 7, none⟩ = some (.int .i64 X) ∧ W.cell? ⟨w.heap.size, 8, none⟩ = some (.int .u64 (wd rr 0)) ∧ W.cell? ⟨w.heap.size, 9, none⟩ = some (.int .u64 (wd rr 1)) ∧ W.cell? ⟨w.heap.size, 10, none⟩ = some (.int .u64 (wd rr 2)) ∧ W.cell? ⟨w.heap.size, 11, none⟩ = some (.int .u64 (wd rr 3)) ∧ W.cell? ⟨w.heap.size, 12, none⟩ = some (.int .u64 (wd rr 4)) ∧ W.cell? ⟨w.heap.size, 13, none⟩ = some (.int .u64 (wd rr 5)) ∧ W.cell? ⟨w.heap.size + 1, 0, none⟩ = some (.int .u64 0) ∧ W.cell? ⟨w.heap.size + 1, 1, none⟩ = some (.int .u64 0) ∧ W.cell? ⟨w.heap.size + 1 + 1, 0, none⟩ = some (.int .u64 0) ∧ W.cell? ⟨w.heap.size + 1 + 1, 1, none⟩ = some (.int .u64 0))) := zK (fun W h => ⟨h.1, h.2.1, h.2.2.1, h.2.2.2, zC (h.2.1) 0 _ rfl, zC (h.2.1) 1 _ rfl, zC (h.2.1) 2 _ rfl, zC (h.2.1) 3 _ rfl, zC (h.2.1) 4 _ rfl, zC (h.2.1) 5 _ rfl, zC (h.2.1) 6 _ rfl, zC (h.2.1) 7 _ rfl, zC (h.2.1) 8 _ rfl, zC (h.2.1) 9 _ rfl, zC (h.2.1) 10 _ rfl, zC (h.2.1) 11 _ rfl, zC (h.2.1) 12 _ rfl, zC (h.2.1) 13 _ rfl, zC (h.2.2.1) 0 _ rfl, zC (h.2.2.1) 1 _ rfl, zC (h.2.2.2) 0 _ rfl, zC (h.2.2.2) 1 _ rfl⟩)
   have s0 : Below w.heap.size w (w1).drew ∧ (w1).drew.heap[w.heap.size]? = some (.cells (pt c s X rr) 68) ∧ (w1).drew.heap[w.heap.size + 1]? = some (.cells #[.int .u64 0, .int .u64 0] 25) ∧ (w1).drew.heap[w.heap.size + 1 + 1]? = some (.cells #[.int .u64 0, .int .u64 0] 25) := ⟨B1.drew, Ah, Ai, Aj⟩
   clear B1 Ah Aw Ax Ay Az AA AB AC AD AE AF AG AH AI AJ Ai AK AL Aj AM AN
   go_wp2_with fail
   apply cut7
   ·
    intro key0
    have key := zK key0
    clear key0
    go_region_held3 (fun W => Below w.heap.size w W ∧ W.heap[w.heap.size]? = some (.cells (pt c s X rr) 68) ∧ W.heap[w.heap.size + 1]? = some (.cells #[.int .u64 0, .int .u64 0] 25) ∧ W.heap[w.heap.size + 1 + 1]? = some (.cells #[.int .u64 0, .int .u64 0] 25) ∧ W.cell? ⟨w.heap.size, 0, none⟩ = some (.int .u8 c) ∧ W.cell? ⟨w.heap.size, 1, none⟩ = some (.int .u64 (wd s 0)) ∧ W.cell? ⟨w.heap.size, 2, none⟩ = some (.int .u64 (wd s 1)) ∧ W.cell? ⟨w.heap.size, 3, none⟩ = some (.int .u64 (wd s 2)) ∧ W.cell? ⟨w.heap.size, 4, none⟩ = some (.int .u64 (wd s 3)) ∧ W.cell? ⟨w.heap.size, 5, none⟩ = some (.int .u64 (wd s 4)) ∧ W.cell? ⟨w.heap.size, 6, none⟩ = some (.int .u64 (wd s 5)) ∧ W.cell? ⟨w.heap.size, 7, none⟩ = some (.int .i64 X) ∧ W.cell? ⟨w.heap.size, 8, none⟩ = some (.int .u64 (wd rr 0)) ∧ W.cell? ⟨w.heap.size, 9, none⟩ = some (.int .u64 (wd rr 1)) ∧ W.cell? ⟨w.heap.size, 10, none⟩ = some (.int .u64 (wd rr 2)) ∧ W.cell? ⟨w.heap.size, 11, none⟩ = some (.int .u64 (wd rr 3)) ∧ W.cell? ⟨w.heap.size, 12, none⟩ = some (.int .u64 (wd rr 4)) ∧ W.cell? ⟨w.heap.size, 13, none⟩ = some (.int .u64 (wd rr 5)) ∧ W.cell? ⟨w.heap.size + 1, 0, none⟩ = some (.int .u64 0) ∧ W.cell? ⟨w.heap.size + 1, 1, none⟩ = some (.int .u64 0) ∧ W.cell? ⟨w.heap.size + 1 + 1, 0, none⟩ = some (.int .u64 0) ∧ W.cell? ⟨w.heap.size + 1 + 1, 1, none⟩ = some (.int .u64 0)) (first | exact sC.out _ s1 | exact sC.out _ s0 | exact sC.out _ (sS.out _ _ s1 (zQ _ _)) | exact sC.out _ (sS.out _ _ s0 (zQ _ _)) | exact sC.out _ (sT.out _ _ _ s1 hl))
     (((first | (go_at_call 173; (first | refine (KM.out _).mono ?_ | refine (KM.out _).mono ?_)) | (go_at_call 172; (first | refine (KA.out _).mono ?_ | refine (KA.out _).mono ?_)) | fail); rintro r wq ⟨rfl, bq⟩; (first | (have hg := zA bq _ _ _ (heap_alloc_last _ _); have hl := (by first | exact sL.out _ s1 | exact sL.out _ s0)) | have hg := zA bq _ _ _ hg | skip); (try simp only [x8, zT] at hg hl); (first | have hst := yW _ _ (t) 0 hg | skip); have s2 := (by first | exact sS.out _ _ s1 bq | exact sS.out _ _ s0 bq | exact sS.out _ _ (sS.out _ _ s1 (zQ _ _)) bq | exact sS.out _ _ (sS.out _ _ s0 (zQ _ _)) bq); (try clear s1); have s1 := s2; clear s2 bq))
    all_goals
     refine yV (R := fun W gN => (Below w.heap.size w W ∧ W.heap[w.heap.size]? = some (.cells (pt c s X rr) 68) ∧ W.heap[w.heap.size + 1]? = some (.cells #[.int .u64 0, .int .u64 0] 25) ∧ W.heap[w.heap.size + 1 + 1]? = some (.cells #[.int .u64 0, .int .u64 0] 25)) ∧ W.heap[gN]? = some (.cells (cw 6 t) 66) ∧ (w.heap.size < gN ∧ w.heap.size + 1 < gN ∧ w.heap.size + 1 + 1 < gN)) key.out ?_
     first
      | exact ⟨sS.out _ _ s1 (zQ _ _), heap_alloc_last _ _, sL.out _ s1⟩
      | exact ⟨sS.out _ _ s0 (zQ _ _), heap_alloc_last _ _, sL.out _ s0⟩
      | exact ⟨(sT.out _ _ _ s1 hl), zO hg, hl⟩
   rintro w2 g2 ⟨s1, Am, l2⟩
   have B2 := And.left s1
   have An := s1.2.1
   have Ao := s1.2.2.1
   have Ap := s1.2.2.2
   have H2 := zK l2
   clear s0 s1 sS sC sL sT l2
   obtain ⟨AO, AP, AQ, AR, AS, AT, AU, AV, AW, AX, AY, AZ, A0, A1⟩ := zD An
   obtain ⟨A2, A3⟩ := zF Ao
   obtain ⟨A4, A5⟩ := zF Ap
   have A6 := zE Am
   go_wp2_with fail
   refine (KB.out _).mono ?_
   rintro r w3 ⟨rfl, b3⟩
   have B3 : Below w.heap.size w w3 := zL B2 b3
   obtain ⟨Aq, Ar, Ak, As⟩ := rws4 b3 An Ao Ap Am
   clear b3 B2 An AO AP AQ AR AS AT AU AV AW AX AY AZ A0 A1 Ao A2 A3 Ap A4 A5 Am A6
   obtain ⟨Bq, Br, Bs, Bt, Bu, Bv, Bw, Bx, By, Bz, BA, BB, BC, BD⟩ := zD Aq
   obtain ⟨BE, BF⟩ := zF Ar
   obtain ⟨BG, BH⟩ := zF Ak
   have BI := zE As
   have q0_4 := fz (k := 0) Ak
   have q1_4 := fz (k := 1) Ak
   have B4 := zI B3 (show w.heap.size ≤ w.heap.size + 1 + 1 by first | exact Nat.le_refl _ | omega | (have := H2.out; omega)) (.int .u64 u) (.int .u64 v)
   have Ac : ((w3.setCell ⟨w.heap.size + 1 + 1, 0, none⟩ (.int .u64 u)).setCell ⟨w.heap.size + 1 + 1, 1, none⟩ (.int .u64 v)).heap[w.heap.size + 1 + 1]? = some (.cells #[.int .u64 u, .int .u64 v] 25) := yE Ak _ _
   have Aa : ((w3.setCell ⟨w.heap.size + 1 + 1, 0, none⟩ (.int .u64 u)).setCell ⟨w.heap.size + 1 + 1, 1, none⟩ (.int .u64 v)).heap[w.heap.size]? = some (.cells (pt c s X rr) 68) := (zB (by first | omega | (have := H2.out; omega))).trans ((zB (by first | omega | (have := H2.out; omega))).trans Aq)
   have Ad : ((w3.setCell ⟨w.heap.size + 1 + 1, 0, none⟩ (.int .u64 u)).setCell ⟨w.heap.size + 1 + 1, 1, none⟩ (.int .u64 v)).heap[w.heap.size + 1]? = some (.cells #[.int .u64 0, .int .u64 0] 25) := (zB (by first | omega | (have := H2.out; omega))).trans ((zB (by first | omega | (have := H2.out; omega))).trans Ar)
   have Al : ((w3.setCell ⟨w.heap.size + 1 + 1, 0, none⟩ (.int .u64 u)).setCell ⟨w.heap.size + 1 + 1, 1, none⟩ (.int .u64 v)).heap[g2]? = some (.cells (cw 6 t) 66) := (zB (by first | omega | (have := H2.out; omega))).trans ((zB (by first | omega | (have := H2.out; omega))).trans As)
   obtain ⟨A7, A8, A9, Ba, Bb, Bc, Bd, Be, Bf, Bg, Bh, Bi, Bj, Bk⟩ := zD Aa
   obtain ⟨Bl, Bm⟩ := zF Ad
   obtain ⟨Bn, Bo⟩ := zF Ac
   have Bp := zE Al
   go_wp2_with fail
   obtain ⟨F, hF1, hF2⟩ := zS ((w3.setCell ⟨w.heap.size + 1 + 1, 0, none⟩ (.int .u64 u)).setCell ⟨w.heap.size + 1 + 1, 1, none⟩ (.int .u64 v))
   have fp_0 := fun u => zC (zA (hF1 u) _ _ _ Aa) 0 _ rfl
   have fp_1 := fun u => zC (zA (hF1 u) _ _ _ Aa) 1 _ rfl
   have fp_2 := fun u => zC (zA (hF1 u) _ _ _ Aa) 2 _ rfl
   have fp_3 := fun u => zC (zA (hF1 u) _ _ _ Aa) 3 _ rfl
   have fp_4 := fun u => zC (zA (hF1 u) _ _ _ Aa) 4 _ rfl
   have fp_5 := fun u => zC (zA (hF1 u) _ _ _ Aa) 5 _ rfl
   have fp_6 := fun u => zC (zA (hF1 u) _ _ _ Aa) 6 _ rfl
   have fp_7 := fun u => zC (zA (hF1 u) _ _ _ Aa) 7 _ rfl
   have fp_8 := fun u => zC (zA (hF1 u) _ _ _ Aa) 8 _ rfl
   have fp_9 := fun u => zC (zA (hF1 u) _ _ _ Aa) 9 _ rfl
   have fp_10 := fun u => zC (zA (hF1 u) _ _ _ Aa) 10 _ rfl
   have fp_11 := fun u => zC (zA (hF1 u) _ _ _ Aa) 11 _ rfl
   have fp_12 := fun u => zC (zA (hF1 u) _ _ _ Aa) 12 _ rfl
   have fp_13 := fun u => zC (zA (hF1 u) _ _ _ Aa) 13 _ rfl
   have fz_0 := fun u => zC (zA (hF1 u) _ _ _ Ad) 0 _ rfl
   have fz_1 := fun u => zC (zA (hF1 u) _ _ _ Ad) 1 _ rfl
   have fb_0 := fun u => zC (zA (hF1 u) _ _ _ Ac) 0 _ rfl
   have fb_1 := fun u => zC (zA (hF1 u) _ _ _ Ac) 1 _ rfl
   have ft_0 := fun u => zE (zA (hF1 u) _ _ _ Al)
   refine zJ F hF2 (by kernel_rfl) (by kernel_rfl) ?_
   repeat first | go_big_quiet_step (first | (go_at_call 33; exact zN hF1 hF2 (KU.out _)) | fail) | quiet_step (first | (go_at_call 33; exact zN hF1 hF2 (KU.out _)) | fail)
   refine wpQuiet_nil ?_
   rintro _ ⟨uW, rfl⟩
   have B5 := zL B4 (hF1 uW)
   obtain ⟨At, Ae, Au, Av⟩ := rws4 (hF1 uW) Aa Ad Ac Al
   obtain ⟨w5, hw⟩ : ∃ V, F uW = V := ⟨_, rfl⟩
   rw [hw] at B5 At Ae Au Av
   try rw [hw]
   clear hw hF1 hF2 B4 fp_0 fp_1 fp_2 fp_3 fp_4 fp_5 fp_6 fp_7 fp_8 fp_9 fp_10 fp_11 fp_12 fp_13 fz_0 fz_1 fb_0 fb_1 ft_0 Aa A7 A8 A9 Ba Bb Bc Bd Be Bf Bg Bh Bi Bj Bk Ad Bl Bm Ac Bn Bo Al Bp
   clear F
   obtain ⟨BJ, BK, BL, BM, BN, BO, BP, BQ, BR, BS, BT, BU, BV, BW⟩ := zD At
   obtain ⟨BX, BY⟩ := zF Ae
   obtain ⟨BZ, B6⟩ := zF Au
   have B7 := zE Av
   have q0 := fz (k := 0) Ae
   have q1 := fz (k := 1) Ae
   obtain ⟨E0, E1⟩ := zM Ae (.int .u64 0) (.int .u64 0)
   go_wp2
   exact bodyPost_ret (v := .tuple #[.agg #[.int .u64 0, .int .u64 0], .int .i64 80]) (by simp [results, Tryz.results107, go_sem, E0, E1]) rfl ⟨rfl, zI B5 (by first | exact Nat.le_refl _ | omega | (have := H2.out; omega)) _ _⟩
  ·
   simp only [Bool.false_eq_true, if_false, if_true]
   obtain ⟨Ab, Af, Ag, B0⟩ := yX w (Obj.cells (pt c s X rr) 68) (Obj.cells #[.int .u64 0, .int .u64 0] 25) (Obj.cells #[.int .u64 0, .int .u64 0] 25)
   go_enter Tryz.func107, Tryz.ntmps107
   go_wp2_with fail
   refine (KP.out _).mono ?_
   rintro r w' ⟨rfl, hw'⟩
   obtain rfl := hw'.symm
   go_wp2_with fail
   refine (KE.out _).mono ?_
   rintro r w' ⟨rfl, hw'⟩
   obtain rfl := hw'.symm
   go_wp2_with fail
   obtain ⟨F, hF1, hF2⟩ := zS (((w.alloc (Obj.cells (pt c s X rr) 68)).alloc (Obj.cells #[.int .u64 0, .int .u64 0] 25)).alloc (Obj.cells #[.int .u64 0, .int .u64 0] 25))
   have fp_0 := fun u => zC (zA (hF1 u) _ _ _ Ab) 0 _ rfl
   have fp_1 := fun u => zC (zA (hF1 u) _ _ _ Ab) 1 _ rfl
   have fp_2 := fun u => zC (zA (hF1 u) _ _ _ Ab) 2 _ rfl
   have fp_3 := fun u => zC (zA (hF1 u) _ _ _ Ab) 3 _ rfl
   have fp_4 := fun u => zC (zA (hF1 u) _ _ _ Ab) 4 _ rfl
   have fp_5 := fun u => zC (zA (hF1 u) _ _ _ Ab) 5 _ rfl
   have fp_6 := fun u => zC (zA (hF1 u) _ _ _ Ab) 6 _ rfl
   have fp_7 := fun u => zC (zA (hF1 u) _ _ _ Ab) 7 _ rfl
   have fp_8 := fun u => zC (zA (hF1 u) _ _ _ Ab) 8 _ rfl
   have fp_9 := fun u => zC (zA (hF1 u) _ _ _ Ab) 9 _ rfl
   have fp_10 := fun u => zC (zA (hF1 u) _ _ _ Ab) 10 _ rfl
   have fp_11 := fun u => zC (zA (hF1 u) _ _ _ Ab) 11 _ rfl
   have fp_12 := fun u => zC (zA (hF1 u) _ _ _ Ab) 12 _ rfl
   have fp_13 := fun u => zC (zA (hF1 u) _ _ _ Ab) 13 _ rfl
   have fz_0 := fun u => zC (zA (hF1 u) _ _ _ Af) 0 _ rfl
   have fz_1 := fun u => zC (zA (hF1 u) _ _ _ Af) 1 _ rfl
   have fb_0 := fun u => zC (zA (hF1 u) _ _ _ Ag) 0 _ rfl
   have fb_1 := fun u => zC (zA (hF1 u) _ _ _ Ag) 1 _ rfl
   refine zJ F hF2 (by kernel_rfl) (by kernel_rfl) ?_
   repeat first | go_big_quiet_step (first | (go_at_call 82; exact zN hF1 hF2 (KN.out _)) | (go_at_call 92; exact yG (KX.out _)) | fail) | quiet_step (first | (go_at_call 82; exact zN hF1 hF2 (KN.out _)) | (go_at_call 92; exact yG (KX.out _)) | fail)
   refine wpQuiet_nil ?_
   rintro _ ⟨uW, rfl⟩
   have B1 := zL B0 (hF1 uW)
   obtain ⟨Ah, Ai, Aj⟩ := zZ (hF1 uW) Ab Af Ag
   obtain ⟨w1, hw⟩ : ∃ V, F uW = V := ⟨_, rfl⟩
   rw [hw] at B1 Ah Ai Aj
   try rw [hw]
   clear hw hF1 hF2 B0 fp_0 fp_1 fp_2 fp_3 fp_4 fp_5 fp_6 fp_7 fp_8 fp_9 fp_10 fp_11 fp_12 fp_13 fz_0 fz_1 fb_0 fb_1 Ab Af Ag
   clear F
   obtain ⟨Aw, Ax, Ay, Az, AA, AB, AC, AD, AE, AF, AG, AH, AI, AJ⟩ := zD Ah
   obtain ⟨AK, AL⟩ := zF Ai
   obtain ⟨AM, AN⟩ := zF Aj
   have sS : zP (∀ W W1 : World, (Below w.heap.size w W ∧ W.heap[w.heap.size]? = some (.cells (pt c s X rr) 68) ∧ W.heap[w.heap.size + 1]? = some (.cells #[.int .u64 0, .int .u64 0] 25) ∧ W.heap[w.heap.size + 1 + 1]? = some (.cells #[.int .u64 0, .int .u64 0] 25)) → Below W.heap.size W W1 → (Below w.heap.size w W1 ∧ W1.heap[w.heap.size]? = some (.cells (pt c s X rr) 68) ∧ W1.heap[w.heap.size + 1]? = some (.cells #[.int .u64 0, .int .u64 0] 25) ∧ W1.heap[w.heap.size + 1 + 1]? = some (.cells #[.int .u64 0, .int .u64 0] 25))) := zK (fun W W1 h b => ⟨zL h.1 b, zA b _ _ _ h.2.1, zA b _ _ _ h.2.2.1, zA b _ _ _ h.2.2.2⟩)
   have sL : zP (∀ W : World, (Below w.heap.size w W ∧ W.heap[w.heap.size]? = some (.cells (pt c s X rr) 68) ∧ W.heap[w.heap.size + 1]? = some (.cells #[.int .u64 0, .int .u64 0] 25) ∧ W.heap[w.heap.size + 1 + 1]? = some (.cells #[.int .u64 0, .int .u64 0] 25)) → (w.heap.size < W.heap.size ∧ w.heap.size + 1 < W.heap.size ∧ w.heap.size + 1 + 1 < W.heap.size)) := zK (fun W h => ⟨(Array.getElem?_eq_some_iff.1 h.2.1).1, (Array.getElem?_eq_some_iff.1 h.2.2.1).1, (Array.getElem?_eq_some_iff.1 h.2.2.2).1⟩)
   have sT : zP (∀ (W : World) (gN : Nat) (xA : Array Value), (Below w.heap.size w W ∧ W.heap[w.heap.size]? = some (.cells (pt c s X rr) 68) ∧ W.heap[w.heap.size + 1]? = some (.cells #[.int .u64 0, .int .u64 0] 25) ∧ W.heap[w.heap.size + 1 + 1]? = some (.cells #[.int .u64 0, .int .u64 0] 25)) → (w.heap.size < gN ∧ w.heap.size + 1 < gN ∧ w.heap.size + 1 + 1 < gN) → (Below w.heap.size w (W.setRow gN xA) ∧ (W.setRow gN xA).heap[w.heap.size]? = some (.cells (pt c s X rr) 68) ∧ (W.setRow gN xA).heap[w.heap.size + 1]? = some (.cells #[.int .u64 0, .int .u64 0] 25) ∧ (W.setRow gN xA).heap[w.heap.size + 1 + 1]? = some (.cells #[.int .u64 0, .int .u64 0] 25))) := zK (fun W gN xA h l => ⟨zX h.1 (show w.heap.size ≤ gN by have := l.1; omega), (zH (by have := l.1; omega)).trans h.2.1, (zH (by have := l.2.1; omega)).trans h.2.2.1, (zH (by have := l.2.2; omega)).trans h.2.2.2⟩)
   have sC : zP (∀ W : World, (Below w.heap.size w W ∧ W.heap[w.heap.size]? = some (.cells (pt c s X rr) 68) ∧ W.heap[w.heap.size + 1]? = some (.cells #[.int .u64 0, .int .u64 0] 25) ∧ W.heap[w.heap.size + 1 + 1]? = some (.cells #[.int .u64 0, .int .u64 0] 25)) → (Below w.heap.size w W ∧ W.heap[w.heap.size]? = some (.cells (pt c s X rr) 68) ∧ W.heap[w.heap.size + 1]? = some (.cells #[.int .u64 0, .int .u64 0] 25) ∧ W.heap[w.heap.size + 1 + 1]? = some (.cells #[.int .u64 0, .int .u64 0] 25) ∧ W.cell? ⟨w.heap.size, 0, none⟩ = some (.int .u8 c) ∧ W.cell? ⟨w.heap.size, 1, none⟩ = some (.int .u64 (wd s 0)) ∧ W.cell? ⟨w.heap.size, 2, none⟩ = some (.int .u64 (wd s 1)) ∧ W.cell? ⟨w.heap.size, 3, none⟩ = some (.int .u64 (wd s 2)) ∧ W.cell? ⟨w.heap.size, 4, none⟩ = some (.int .u64 (wd s 3)) ∧ W.cell? ⟨w.heap.size, 5, none⟩ = some (.int .u64 (wd s 4)) ∧ W.cell? ⟨w.heap.size, 6, none⟩ = some (.int .u64 (wd s 5)) ∧ W.cell? ⟨w.heap.size, 7, none⟩ = some (.int .i64 X) ∧ W.cell? ⟨w.heap.size, 8, none⟩ = some (.int .u64 (wd rr 0)) ∧ W.cell? ⟨w.heap.size, 9, none⟩ = some (.int .u64 (wd rr 1)) ∧ W.cell? ⟨w.heap.size, 10, none⟩ = some (.int .u64 (wd rr 2)) ∧ W.cell? ⟨w.heap.size, 11, none⟩ = some (.int .u64 (wd rr 3)) ∧ W.cell? ⟨w.heap.size, 12, none⟩ = some (.int .u64 (wd rr 4)) ∧ W.cell? ⟨w.heap.size, 13, none⟩ = some (.int .u64 (wd rr 5)) ∧ W.cell? ⟨w.heap.size + 1, 0, none⟩ = some (.int .u64 0) ∧ W.cell? ⟨w.heap.size + 1, 1, none⟩ = some (.int .u64 0) ∧ W.cell? ⟨w.heap.size + 1 + 1, 0, none⟩ = some (.int .u64 0) ∧ W.cell? ⟨w.heap.size + 1 + 1, 1, none⟩ = some (.int .u64 0))) := zK (fun W h => ⟨h.1, h.2.1, h.2.2.1, h.2.2.2, zC (h.2.1) 0 _ rfl, zC (h.2.1) 1 _ rfl, zC (h.2.1) 2 _ rfl, zC (h.2.1) 3 _ rfl, zC (h.2.1) 4 _ rfl, zC (h.2.1) 5 _ rfl, zC (h.2.1) 6 _ rfl, zC (h.2.1) 7 _ rfl, zC (h.2.1) 8 _ rfl, zC (h.2.1) 9 _ rfl, zC (h.2.1) 10 _ rfl, zC (h.2.1) 11 _ rfl, zC (h.2.1) 12 _ rfl, zC (h.2.1) 13 _ rfl, zC (h.2.2.1) 0 _ rfl, zC (h.2.2.1) 1 _ rfl, zC (h.2.2.2) 0 _ rfl, zC (h.2.2.2) 1 _ rfl⟩)
   have s0 : Below w.heap.size w (w1).drew ∧ (w1).drew.heap[w.heap.size]? = some (.cells (pt c s X rr) 68) ∧ (w1).drew.heap[w.heap.size + 1]? = some (.cells #[.int .u64 0, .int .u64 0] 25) ∧ (w1).drew.heap[w.heap.size + 1 + 1]? = some (.cells #[.int .u64 0, .int .u64 0] 25) := ⟨B1.drew, Ah, Ai, Aj⟩
   clear B1 Ah Aw Ax Ay Az AA AB AC AD AE AF AG AH AI AJ Ai AK AL Aj AM AN
   go_wp2_with fail
   apply cut7
   ·
    intro key0
    have key := zK key0
    clear key0
    go_region_held3 (fun W => Below w.heap.size w W ∧ W.heap[w.heap.size]? = some (.cells (pt c s X rr) 68) ∧ W.heap[w.heap.size + 1]? = some (.cells #[.int .u64 0, .int .u64 0] 25) ∧ W.heap[w.heap.size + 1 + 1]? = some (.cells #[.int .u64 0, .int .u64 0] 25) ∧ W.cell? ⟨w.heap.size, 0, none⟩ = some (.int .u8 c) ∧ W.cell? ⟨w.heap.size, 1, none⟩ = some (.int .u64 (wd s 0)) ∧ W.cell? ⟨w.heap.size, 2, none⟩ = some (.int .u64 (wd s 1)) ∧ W.cell? ⟨w.heap.size, 3, none⟩ = some (.int .u64 (wd s 2)) ∧ W.cell? ⟨w.heap.size, 4, none⟩ = some (.int .u64 (wd s 3)) ∧ W.cell? ⟨w.heap.size, 5, none⟩ = some (.int .u64 (wd s 4)) ∧ W.cell? ⟨w.heap.size, 6, none⟩ = some (.int .u64 (wd s 5)) ∧ W.cell? ⟨w.heap.size, 7, none⟩ = some (.int .i64 X) ∧ W.cell? ⟨w.heap.size, 8, none⟩ = some (.int .u64 (wd rr 0)) ∧ W.cell? ⟨w.heap.size, 9, none⟩ = some (.int .u64 (wd rr 1)) ∧ W.cell? ⟨w.heap.size, 10, none⟩ = some (.int .u64 (wd rr 2)) ∧ W.cell? ⟨w.heap.size, 11, none⟩ = some (.int .u64 (wd rr 3)) ∧ W.cell? ⟨w.heap.size, 12, none⟩ = some (.int .u64 (wd rr 4)) ∧ W.cell? ⟨w.heap.size, 13, none⟩ = some (.int .u64 (wd rr 5)) ∧ W.cell? ⟨w.heap.size + 1, 0, none⟩ = some (.int .u64 0) ∧ W.cell? ⟨w.heap.size + 1, 1, none⟩ = some (.int .u64 0) ∧ W.cell? ⟨w.heap.size + 1 + 1, 0, none⟩ = some (.int .u64 0) ∧ W.cell? ⟨w.heap.size + 1 + 1, 1, none⟩ = some (.int .u64 0)) (first | exact sC.out _ s1 | exact sC.out _ s0 | exact sC.out _ (sS.out _ _ s1 (zQ _ _)) | exact sC.out _ (sS.out _ _ s0 (zQ _ _)) | exact sC.out _ (sT.out _ _ _ s1 hl))
     (((first | (go_at_call 173; (first | refine (KM.out _).mono ?_ | refine (KM.out _).mono ?_)) | (go_at_call 172; (first | refine (KA.out _).mono ?_ | refine (KA.out _).mono ?_)) | fail); rintro r wq ⟨rfl, bq⟩; (first | (have hg := zA bq _ _ _ (heap_alloc_last _ _); have hl := (by first | exact sL.out _ s1 | exact sL.out _ s0)) | have hg := zA bq _ _ _ hg | skip); (try simp only [x8, zT] at hg hl); (first | have hst := yW _ _ (t) 0 hg | skip); have s2 := (by first | exact sS.out _ _ s1 bq | exact sS.out _ _ s0 bq | exact sS.out _ _ (sS.out _ _ s1 (zQ _ _)) bq | exact sS.out _ _ (sS.out _ _ s0 (zQ _ _)) bq); (try clear s1); have s1 := s2; clear s2 bq))
    all_goals
     refine yV (R := fun W gN => (Below w.heap.size w W ∧ W.heap[w.heap.size]? = some (.cells (pt c s X rr) 68) ∧ W.heap[w.heap.size + 1]? = some (.cells #[.int .u64 0, .int .u64 0] 25) ∧ W.heap[w.heap.size + 1 + 1]? = some (.cells #[.int .u64 0, .int .u64 0] 25)) ∧ W.heap[gN]? = some (.cells (cw 6 t) 66) ∧ (w.heap.size < gN ∧ w.heap.size + 1 < gN ∧ w.heap.size + 1 + 1 < gN)) key.out ?_
     first
      | exact ⟨sS.out _ _ s1 (zQ _ _), heap_alloc_last _ _, sL.out _ s1⟩
      | exact ⟨sS.out _ _ s0 (zQ _ _), heap_alloc_last _ _, sL.out _ s0⟩
      | exact ⟨(sT.out _ _ _ s1 hl), zO hg, hl⟩
   rintro w2 g2 ⟨s1, Am, l2⟩
   have B2 := And.left s1
   have An := s1.2.1
   have Ao := s1.2.2.1
   have Ap := s1.2.2.2
   have H2 := zK l2
   clear s0 s1 sS sC sL sT l2
   obtain ⟨AO, AP, AQ, AR, AS, AT, AU, AV, AW, AX, AY, AZ, A0, A1⟩ := zD An
   obtain ⟨A2, A3⟩ := zF Ao
   obtain ⟨A4, A5⟩ := zF Ap
   have A6 := zE Am
   go_wp2_with fail
   refine (KB.out _).mono ?_
   rintro r w3 ⟨rfl, b3⟩
   have B3 : Below w.heap.size w w3 := zL B2 b3
   obtain ⟨Aq, Ar, Ak, As⟩ := rws4 b3 An Ao Ap Am
   clear b3 B2 An AO AP AQ AR AS AT AU AV AW AX AY AZ A0 A1 Ao A2 A3 Ap A4 A5 Am A6
   obtain ⟨Bq, Br, Bs, Bt, Bu, Bv, Bw, Bx, By, Bz, BA, BB, BC, BD⟩ := zD Aq
   obtain ⟨BE, BF⟩ := zF Ar
   obtain ⟨BG, BH⟩ := zF Ak
   have BI := zE As
   have q0_4 := fz (k := 0) Ak
   have q1_4 := fz (k := 1) Ak
   have B4 := zI B3 (show w.heap.size ≤ w.heap.size + 1 + 1 by first | exact Nat.le_refl _ | omega | (have := H2.out; omega)) (.int .u64 u) (.int .u64 v)
   have Ac : ((w3.setCell ⟨w.heap.size + 1 + 1, 0, none⟩ (.int .u64 u)).setCell ⟨w.heap.size + 1 + 1, 1, none⟩ (.int .u64 v)).heap[w.heap.size + 1 + 1]? = some (.cells #[.int .u64 u, .int .u64 v] 25) := yE Ak _ _
   have Aa : ((w3.setCell ⟨w.heap.size + 1 + 1, 0, none⟩ (.int .u64 u)).setCell ⟨w.heap.size + 1 + 1, 1, none⟩ (.int .u64 v)).heap[w.heap.size]? = some (.cells (pt c s X rr) 68) := (zB (by first | omega | (have := H2.out; omega))).trans ((zB (by first | omega | (have := H2.out; omega))).trans Aq)
   have Ad : ((w3.setCell ⟨w.heap.size + 1 + 1, 0, none⟩ (.int .u64 u)).setCell ⟨w.heap.size + 1 + 1, 1, none⟩ (.int .u64 v)).heap[w.heap.size + 1]? = some (.cells #[.int .u64 0, .int .u64 0] 25) := (zB (by first | omega | (have := H2.out; omega))).trans ((zB (by first | omega | (have := H2.out; omega))).trans Ar)
   have Al : ((w3.setCell ⟨w.heap.size + 1 + 1, 0, none⟩ (.int .u64 u)).setCell ⟨w.heap.size + 1 + 1, 1, none⟩ (.int .u64 v)).heap[g2]? = some (.cells (cw 6 t) 66) := (zB (by first | omega | (have := H2.out; omega))).trans ((zB (by first | omega | (have := H2.out; omega))).trans As)
   obtain ⟨A7, A8, A9, Ba, Bb, Bc, Bd, Be, Bf, Bg, Bh, Bi, Bj, Bk⟩ := zD Aa
   obtain ⟨Bl, Bm⟩ := zF Ad
   obtain ⟨Bn, Bo⟩ := zF Ac
   have Bp := zE Al
   go_wp2_with fail
   obtain ⟨F, hF1, hF2⟩ := zS ((w3.setCell ⟨w.heap.size + 1 + 1, 0, none⟩ (.int .u64 u)).setCell ⟨w.heap.size + 1 + 1, 1, none⟩ (.int .u64 v))
   have fp_0 := fun u => zC (zA (hF1 u) _ _ _ Aa) 0 _ rfl
   have fp_1 := fun u => zC (zA (hF1 u) _ _ _ Aa) 1 _ rfl
   have fp_2 := fun u => zC (zA (hF1 u) _ _ _ Aa) 2 _ rfl
   have fp_3 := fun u => zC (zA (hF1 u) _ _ _ Aa) 3 _ rfl
   have fp_4 := fun u => zC (zA (hF1 u) _ _ _ Aa) 4 _ rfl
   have fp_5 := fun u => zC (zA (hF1 u) _ _ _ Aa) 5 _ rfl
   have fp_6 := fun u => zC (zA (hF1 u) _ _ _ Aa) 6 _ rfl
   have fp_7 := fun u => zC (zA (hF1 u) _ _ _ Aa) 7 _ rfl
   have fp_8 := fun u => zC (zA (hF1 u) _ _ _ Aa) 8 _ rfl
   have fp_9 := fun u => zC (zA (hF1 u) _ _ _ Aa) 9 _ rfl
   have fp_10 := fun u => zC (zA (hF1 u) _ _ _ Aa) 10 _ rfl
   have fp_11 := fun u => zC (zA (hF1 u) _ _ _ Aa) 11 _ rfl
   have fp_12 := fun u => zC (zA (hF1 u) _ _ _ Aa) 12 _ rfl
   have fp_13 := fun u => zC (zA (hF1 u) _ _ _ Aa) 13 _ rfl
   have fz_0 := fun u => zC (zA (hF1 u) _ _ _ Ad) 0 _ rfl
   have fz_1 := fun u => zC (zA (hF1 u) _ _ _ Ad) 1 _ rfl
   have fb_0 := fun u => zC (zA (hF1 u) _ _ _ Ac) 0 _ rfl
   have fb_1 := fun u => zC (zA (hF1 u) _ _ _ Ac) 1 _ rfl
   have ft_0 := fun u => zE (zA (hF1 u) _ _ _ Al)
   refine zJ F hF2 (by kernel_rfl) (by kernel_rfl) ?_
   repeat first | go_big_quiet_step (first | (go_at_call 33; exact zN hF1 hF2 (KU.out _)) | fail) | quiet_step (first | (go_at_call 33; exact zN hF1 hF2 (KU.out _)) | fail)
   refine wpQuiet_nil ?_
   rintro _ ⟨uW, rfl⟩
   have B5 := zL B4 (hF1 uW)
   obtain ⟨At, Ae, Au, Av⟩ := rws4 (hF1 uW) Aa Ad Ac Al
   obtain ⟨w5, hw⟩ : ∃ V, F uW = V := ⟨_, rfl⟩
   rw [hw] at B5 At Ae Au Av
   try rw [hw]
   clear hw hF1 hF2 B4 fp_0 fp_1 fp_2 fp_3 fp_4 fp_5 fp_6 fp_7 fp_8 fp_9 fp_10 fp_11 fp_12 fp_13 fz_0 fz_1 fb_0 fb_1 ft_0 Aa A7 A8 A9 Ba Bb Bc Bd Be Bf Bg Bh Bi Bj Bk Ad Bl Bm Ac Bn Bo Al Bp
   clear F
   obtain ⟨BJ, BK, BL, BM, BN, BO, BP, BQ, BR, BS, BT, BU, BV, BW⟩ := zD At
   obtain ⟨BX, BY⟩ := zF Ae
   obtain ⟨BZ, B6⟩ := zF Au
   have B7 := zE Av
   have q0 := fz (k := 0) Ae
   have q1 := fz (k := 1) Ae
   obtain ⟨E0, E1⟩ := zM Ae (.int .u64 u) (.int .u64 v)
   go_wp2
   exact bodyPost_ret (v := .tuple #[.agg #[.int .u64 u, .int .u64 v], .int .i64 0]) (by simp [results, Tryz.results107, go_sem, E0, E1]) rfl ⟨rfl, zI B5 (by first | exact Nat.le_refl _ | omega | (have := H2.out; omega)) _ _⟩
theorem rpack_n6 (f q X Y : Int) (c s rr u v C S R : Nat) (E : Bool) (l t K e : Nat) (k m M L M2 : Int) (w : World)
  (KP : zP (∀ w, Calls Tryz.prog 87 #[.int .u8 f] w fun r w' => r = .returned (.int .i64 q) ∧ w' = w))
  (KU : zP (∀ w, Calls Tryz.prog 33 #[.int .u8 f, .agg #[.int .u64 u, .int .u64 v]] w fun r w' => r = .returned (.agg (pt C S Y R)) ∧ Below w.heap.size w w'))
  (ls : S < Q) (lr : R < Q) (hs : s < Q) (hr : rr < Q) (hE : (decide (C = c) && (decide (S = s) && (decide (Y = X) && decide (R = rr)))) = E)
  (KN : zP (∀ w, Calls Tryz.prog 82 #[.agg (cw 6 s)] w fun r w' => r = .returned (.int .i64 (l : Nat)) ∧ Below w.heap.size w w')) (h1 : IntKind.i64.wrap (q - 1) = k)
  (KE : zP (∀ w, Calls Tryz.prog 88 #[.int .u8 f] w fun r w' => r = .returned (.int .i64 m) ∧ w' = w)) (h2 : IntKind.i64.wrap (m - q) = m - q) (h3 : IntKind.i64.wrap (m - q + 1) = L)
  (KX : zP (∀ w, Calls Tryz.prog 92 #[.int .u8 f] w fun r w' => r = .returned (.int .i64 M) ∧ w' = w)) (h4 : IntKind.i64.wrap (M - q) = M - q) (h5 : IntKind.i64.wrap (M - q + 1) = M2)
  (c1 : ((l : Int) != q) = false) (c2 : decide (X < L) = false) (c3 : decide (M2 < X) = false)
  (KM : zP (∀ w, Calls Tryz.prog 173 #[.int .i64 k] w fun r w' => r = .returned (.agg (cw 6 K)) ∧ Below w.heap.size w w')) (KA : zP (∀ w, Calls Tryz.prog 172 #[.agg (cw 6 s), .agg (cw 6 K)] w fun r w' => r = .returned (.agg (cw 6 t)) ∧ Below w.heap.size w w'))
  (h6 : IntKind.i64.wrap (X - L) = X - L) (h7 : IntKind.i64.wrap (X - L + 1) = (e : Int))
  (KB : zP (∀ w, Calls Tryz.prog 104 #[.int .u8 f, .bool false, .int .i64 (e : Nat), .agg (cw 6 t)] w fun r w' => r = .returned (.agg #[.int .u64 u, .int .u64 v]) ∧ Below w.heap.size w w'))
  (hc : c = 6) : Calls Tryz.prog 107 #[.int .u8 f, .agg (pt c s X rr)] w fun r w' => r = .returned (.tuple #[.agg #[.int .u64 (if E then (u : Int) else 0), .int .u64 (if E then (v : Int) else 0)], .int .i64 (if E then 0 else 80)]) ∧ Below w.heap.size w w' := by
 have hat := zU 6
 have hz := yB
 have hff := z8
 have hs0 := xO
 have hcs : ∀ x, ((cw 6 x).size = 6) = True := fun x => eq_true (zR 6 x)
 have hp1 := xP
 have hp3 := ptz
 have hp4 := yI
 have hp5 : ∀ (c s : Nat) (x : Int) (r : Nat), ((pt c s x r).size = 14) = True := fun _ _ _ _ => eq_true rfl
 have heq := eqp
 have hg := eqgp
 have ha0 := xH
 have ha1 := xD
 have ha2 := xC
 have ha3 := y9
 have ha4 := y8
 have ha5 := y7
 have ha6 := y6
 have ha7 := yZ
 have ha8 := xG
 have ha9 := xF
 have ha10 := yQ
 have ha11 := yP
 have ha12 := yO
 have ha13 := yN
 have hb0 := pt_q0
 have hb1 := pt_q1
 have hb2 := pt_q2
 have hb3 := pt_q3
 have hb4 := pt_q4
 have hb5 := pt_q5
 have hb6 := pt_q6
 have hb7 := pt_q7
 have hb8 := pt_q8
 have hb9 := pt_q9
 have hb10 := pt_q10
 have hb11 := pt_q11
 have hb12 := pt_q12
 have hb13 := pt_q13
 ·
  have f0 : ((c : Int) == 0) = false := by rw [hc]; rfl
  have f7 : ((c : Int) == 7) = false := by rw [hc]; rfl
  have f3 : ((c : Int) == 3) = false := by rw [hc]; rfl
  have f4 : ((c : Int) == 4) = false := by rw [hc]; rfl
  have f8 : ((c : Int) == 8) = false := by rw [hc]; rfl
  have f9 : ((c : Int) == 9) = false := by rw [hc]; rfl
  have f2 : ((c : Int) == 2) = false := by rw [hc]; rfl
  have f5 : ((c : Int) == 5) = false := by rw [hc]; rfl
  have f1 : ((c : Int) == 1) = false := by rw [hc]; rfl
  have f6 : ((c : Int) == 6) = true := by rw [hc]; rfl
  clear hc
  cases E
  ·
   simp only [Bool.false_eq_true, if_false, if_true]
   obtain ⟨Ab, Af, Ag, B0⟩ := yX w (Obj.cells (pt c s X rr) 68) (Obj.cells #[.int .u64 0, .int .u64 0] 25) (Obj.cells #[.int .u64 0, .int .u64 0] 25)
   go_enter Tryz.func107, Tryz.ntmps107
   go_wp2_with fail
   refine (KP.out _).mono ?_
   rintro r w' ⟨rfl, hw'⟩
   obtain rfl := hw'.symm
   go_wp2_with fail
   refine (KE.out _).mono ?_
   rintro r w' ⟨rfl, hw'⟩
   obtain rfl := hw'.symm
   go_wp2_with fail
   obtain ⟨F, hF1, hF2⟩ := zS (((w.alloc (Obj.cells (pt c s X rr) 68)).alloc (Obj.cells #[.int .u64 0, .int .u64 0] 25)).alloc (Obj.cells #[.int .u64 0, .int .u64 0] 25))
   have fp_0 := fun u => zC (zA (hF1 u) _ _ _ Ab) 0 _ rfl
   have fp_1 := fun u => zC (zA (hF1 u) _ _ _ Ab) 1 _ rfl
   have fp_2 := fun u => zC (zA (hF1 u) _ _ _ Ab) 2 _ rfl
   have fp_3 := fun u => zC (zA (hF1 u) _ _ _ Ab) 3 _ rfl
   have fp_4 := fun u => zC (zA (hF1 u) _ _ _ Ab) 4 _ rfl
   have fp_5 := fun u => zC (zA (hF1 u) _ _ _ Ab) 5 _ rfl
   have fp_6 := fun u => zC (zA (hF1 u) _ _ _ Ab) 6 _ rfl
   have fp_7 := fun u => zC (zA (hF1 u) _ _ _ Ab) 7 _ rfl
   have fp_8 := fun u => zC (zA (hF1 u) _ _ _ Ab) 8 _ rfl
   have fp_9 := fun u => zC (zA (hF1 u) _ _ _ Ab) 9 _ rfl
   have fp_10 := fun u => zC (zA (hF1 u) _ _ _ Ab) 10 _ rfl
   have fp_11 := fun u => zC (zA (hF1 u) _ _ _ Ab) 11 _ rfl
   have fp_12 := fun u => zC (zA (hF1 u) _ _ _ Ab) 12 _ rfl
   have fp_13 := fun u => zC (zA (hF1 u) _ _ _ Ab) 13 _ rfl
   have fz_0 := fun u => zC (zA (hF1 u) _ _ _ Af) 0 _ rfl
   have fz_1 := fun u => zC (zA (hF1 u) _ _ _ Af) 1 _ rfl
   have fb_0 := fun u => zC (zA (hF1 u) _ _ _ Ag) 0 _ rfl
   have fb_1 := fun u => zC (zA (hF1 u) _ _ _ Ag) 1 _ rfl
   refine zJ F hF2 (by kernel_rfl) (by kernel_rfl) ?_
   repeat first | go_big_quiet_step (first | (go_at_call 82; exact zN hF1 hF2 (KN.out _)) | (go_at_call 92; exact yG (KX.out _)) | fail) | quiet_step (first | (go_at_call 82; exact zN hF1 hF2 (KN.out _)) | (go_at_call 92; exact yG (KX.out _)) | fail)
   refine wpQuiet_nil ?_
   rintro _ ⟨uW, rfl⟩
   have B1 := zL B0 (hF1 uW)
   obtain ⟨Ah, Ai, Aj⟩ := zZ (hF1 uW) Ab Af Ag
   obtain ⟨w1, hw⟩ : ∃ V, F uW = V := ⟨_, rfl⟩
   rw [hw] at B1 Ah Ai Aj
   try rw [hw]
   clear hw hF1 hF2 B0 fp_0 fp_1 fp_2 fp_3 fp_4 fp_5 fp_6 fp_7 fp_8 fp_9 fp_10 fp_11 fp_12 fp_13 fz_0 fz_1 fb_0 fb_1 Ab Af Ag
   clear F
   obtain ⟨Aw, Ax, Ay, Az, AA, AB, AC, AD, AE, AF, AG, AH, AI, AJ⟩ := zD Ah
   obtain ⟨AK, AL⟩ := zF Ai
   obtain ⟨AM, AN⟩ := zF Aj
   have sS : zP (∀ W W1 : World, (Below w.heap.size w W ∧ W.heap[w.heap.size]? = some (.cells (pt c s X rr) 68) ∧ W.heap[w.heap.size + 1]? = some (.cells #[.int .u64 0, .int .u64 0] 25) ∧ W.heap[w.heap.size + 1 + 1]? = some (.cells #[.int .u64 0, .int .u64 0] 25)) → Below W.heap.size W W1 → (Below w.heap.size w W1 ∧ W1.heap[w.heap.size]? = some (.cells (pt c s X rr) 68) ∧ W1.heap[w.heap.size + 1]? = some (.cells #[.int .u64 0, .int .u64 0] 25) ∧ W1.heap[w.heap.size + 1 + 1]? = some (.cells #[.int .u64 0, .int .u64 0] 25))) := zK (fun W W1 h b => ⟨zL h.1 b, zA b _ _ _ h.2.1, zA b _ _ _ h.2.2.1, zA b _ _ _ h.2.2.2⟩)
   have sL : zP (∀ W : World, (Below w.heap.size w W ∧ W.heap[w.heap.size]? = some (.cells (pt c s X rr) 68) ∧ W.heap[w.heap.size + 1]? = some (.cells #[.int .u64 0, .int .u64 0] 25) ∧ W.heap[w.heap.size + 1 + 1]? = some (.cells #[.int .u64 0, .int .u64 0] 25)) → (w.heap.size < W.heap.size ∧ w.heap.size + 1 < W.heap.size ∧ w.heap.size + 1 + 1 < W.heap.size)) := zK (fun W h => ⟨(Array.getElem?_eq_some_iff.1 h.2.1).1, (Array.getElem?_eq_some_iff.1 h.2.2.1).1, (Array.getElem?_eq_some_iff.1 h.2.2.2).1⟩)
   have sT : zP (∀ (W : World) (gN : Nat) (xA : Array Value), (Below w.heap.size w W ∧ W.heap[w.heap.size]? = some (.cells (pt c s X rr) 68) ∧ W.heap[w.heap.size + 1]? = some (.cells #[.int .u64 0, .int .u64 0] 25) ∧ W.heap[w.heap.size + 1 + 1]? = some (.cells #[.int .u64 0, .int .u64 0] 25)) → (w.heap.size < gN ∧ w.heap.size + 1 < gN ∧ w.heap.size + 1 + 1 < gN) → (Below w.heap.size w (W.setRow gN xA) ∧ (W.setRow gN xA).heap[w.heap.size]? = some (.cells (pt c s X rr) 68) ∧ (W.setRow gN xA).heap[w.heap.size + 1]? = some (.cells #[.int .u64 0, .int .u64 0] 25) ∧ (W.setRow gN xA).heap[w.heap.size + 1 + 1]? = some (.cells #[.int .u64 0, .int .u64 0] 25))) := zK (fun W gN xA h l => ⟨zX h.1 (show w.heap.size ≤ gN by have := l.1; omega), (zH (by have := l.1; omega)).trans h.2.1, (zH (by have := l.2.1; omega)).trans h.2.2.1, (zH (by have := l.2.2; omega)).trans h.2.2.2⟩)
   have sC : zP (∀ W : World, (Below w.heap.size w W ∧ W.heap[w.heap.size]? = some (.cells (pt c s X rr) 68) ∧ W.heap[w.heap.size + 1]? = some (.cells #[.int .u64 0, .int .u64 0] 25) ∧ W.heap[w.heap.size + 1 + 1]? = some (.cells #[.int .u64 0, .int .u64 0] 25)) → (Below w.heap.size w W ∧ W.heap[w.heap.size]? = some (.cells (pt c s X rr) 68) ∧ W.heap[w.heap.size + 1]? = some (.cells #[.int .u64 0, .int .u64 0] 25) ∧ W.heap[w.heap.size + 1 + 1]? = some (.cells #[.int .u64 0, .int .u64 0] 25) ∧ W.cell? ⟨w.heap.size, 0, none⟩ = some (.int .u8 c) ∧ W.cell? ⟨w.heap.size, 1, none⟩ = some (.int .u64 (wd s 0)) ∧ W.cell? ⟨w.heap.size, 2, none⟩ = some (.int .u64 (wd s 1)) ∧ W.cell? ⟨w.heap.size, 3, none⟩ = some (.int .u64 (wd s 2)) ∧ W.cell? ⟨w.heap.size, 4, none⟩ = some (.int .u64 (wd s 3)) ∧ W.cell? ⟨w.heap.size, 5, none⟩ = some (.int .u64 (wd s 4)) ∧ W.cell? ⟨w.heap.size, 6, none⟩ = some (.int .u64 (wd s 5)) ∧ W.cell? ⟨w.heap.size, 7, none⟩ = some (.int .i64 X) ∧ W.cell? ⟨w.heap.size, 8, none⟩ = some (.int .u64 (wd rr 0)) ∧ W.cell? ⟨w.heap.size, 9, none⟩ = some (.int .u64 (wd rr 1)) ∧ W.cell? ⟨w.heap.size, 10, none⟩ = some (.int .u64 (wd rr 2)) ∧ W.cell? ⟨w.heap.size, 11, none⟩ = some (.int .u64 (wd rr 3)) ∧ W.cell? ⟨w.heap.size, 12, none⟩ = some (.int .u64 (wd rr 4)) ∧ W.cell? ⟨w.heap.size, 13, none⟩ = some (.int .u64 (wd rr 5)) ∧ W.cell? ⟨w.heap.size + 1, 0, none⟩ = some (.int .u64 0) ∧ W.cell? ⟨w.heap.size + 1, 1, none⟩ = some (.int .u64 0) ∧ W.cell? ⟨w.heap.size + 1 + 1, 0, none⟩ = some (.int .u64 0) ∧ W.cell? ⟨w.heap.size + 1 + 1, 1, none⟩ = some (.int .u64 0))) := zK (fun W h => ⟨h.1, h.2.1, h.2.2.1, h.2.2.2, zC (h.2.1) 0 _ rfl, zC (h.2.1) 1 _ rfl, zC (h.2.1) 2 _ rfl, zC (h.2.1) 3 _ rfl, zC (h.2.1) 4 _ rfl, zC (h.2.1) 5 _ rfl, zC (h.2.1) 6 _ rfl, zC (h.2.1) 7 _ rfl, zC (h.2.1) 8 _ rfl, zC (h.2.1) 9 _ rfl, zC (h.2.1) 10 _ rfl, zC (h.2.1) 11 _ rfl, zC (h.2.1) 12 _ rfl, zC (h.2.1) 13 _ rfl, zC (h.2.2.1) 0 _ rfl, zC (h.2.2.1) 1 _ rfl, zC (h.2.2.2) 0 _ rfl, zC (h.2.2.2) 1 _ rfl⟩)
   have s0 : Below w.heap.size w (w1).drew ∧ (w1).drew.heap[w.heap.size]? = some (.cells (pt c s X rr) 68) ∧ (w1).drew.heap[w.heap.size + 1]? = some (.cells #[.int .u64 0, .int .u64 0] 25) ∧ (w1).drew.heap[w.heap.size + 1 + 1]? = some (.cells #[.int .u64 0, .int .u64 0] 25) := ⟨B1.drew, Ah, Ai, Aj⟩
   clear B1 Ah Aw Ax Ay Az AA AB AC AD AE AF AG AH AI AJ Ai AK AL Aj AM AN
   go_wp2_with fail
   apply cut7
   ·
    intro key0
    have key := zK key0
    clear key0
    go_region_held3 (fun W => Below w.heap.size w W ∧ W.heap[w.heap.size]? = some (.cells (pt c s X rr) 68) ∧ W.heap[w.heap.size + 1]? = some (.cells #[.int .u64 0, .int .u64 0] 25) ∧ W.heap[w.heap.size + 1 + 1]? = some (.cells #[.int .u64 0, .int .u64 0] 25) ∧ W.cell? ⟨w.heap.size, 0, none⟩ = some (.int .u8 c) ∧ W.cell? ⟨w.heap.size, 1, none⟩ = some (.int .u64 (wd s 0)) ∧ W.cell? ⟨w.heap.size, 2, none⟩ = some (.int .u64 (wd s 1)) ∧ W.cell? ⟨w.heap.size, 3, none⟩ = some (.int .u64 (wd s 2)) ∧ W.cell? ⟨w.heap.size, 4, none⟩ = some (.int .u64 (wd s 3)) ∧ W.cell? ⟨w.heap.size, 5, none⟩ = some (.int .u64 (wd s 4)) ∧ W.cell? ⟨w.heap.size, 6, none⟩ = some (.int .u64 (wd s 5)) ∧ W.cell? ⟨w.heap.size, 7, none⟩ = some (.int .i64 X) ∧ W.cell? ⟨w.heap.size, 8, none⟩ = some (.int .u64 (wd rr 0)) ∧ W.cell? ⟨w.heap.size, 9, none⟩ = some (.int .u64 (wd rr 1)) ∧ W.cell? ⟨w.heap.size, 10, none⟩ = some (.int .u64 (wd rr 2)) ∧ W.cell? ⟨w.heap.size, 11, none⟩ = some (.int .u64 (wd rr 3)) ∧ W.cell? ⟨w.heap.size, 12, none⟩ = some (.int .u64 (wd rr 4)) ∧ W.cell? ⟨w.heap.size, 13, none⟩ = some (.int .u64 (wd rr 5)) ∧ W.cell? ⟨w.heap.size + 1, 0, none⟩ = some (.int .u64 0) ∧ W.cell? ⟨w.heap.size + 1, 1, none⟩ = some (.int .u64 0) ∧ W.cell? ⟨w.heap.size + 1 + 1, 0, none⟩ = some (.int .u64 0) ∧ W.cell? ⟨w.heap.size + 1 + 1, 1, none⟩ = some (.int .u64 0)) (first | exact sC.out _ s1 | exact sC.out _ s0 | exact sC.out _ (sS.out _ _ s1 (zQ _ _)) | exact sC.out _ (sS.out _ _ s0 (zQ _ _)) | exact sC.out _ (sT.out _ _ _ s1 hl))
     (((first | (go_at_call 173; (first | refine (KM.out _).mono ?_ | refine (KM.out _).mono ?_)) | (go_at_call 172; (first | refine (KA.out _).mono ?_ | refine (KA.out _).mono ?_)) | fail); rintro r wq ⟨rfl, bq⟩; (first | (have hg := zA bq _ _ _ (heap_alloc_last _ _); have hl := (by first | exact sL.out _ s1 | exact sL.out _ s0)) | have hg := zA bq _ _ _ hg | skip); (try simp only [x8, zT] at hg hl); (first | have hst := yW _ _ (t) 0 hg | skip); have s2 := (by first | exact sS.out _ _ s1 bq | exact sS.out _ _ s0 bq | exact sS.out _ _ (sS.out _ _ s1 (zQ _ _)) bq | exact sS.out _ _ (sS.out _ _ s0 (zQ _ _)) bq); (try clear s1); have s1 := s2; clear s2 bq))
    all_goals
     refine yV (R := fun W gN => (Below w.heap.size w W ∧ W.heap[w.heap.size]? = some (.cells (pt c s X rr) 68) ∧ W.heap[w.heap.size + 1]? = some (.cells #[.int .u64 0, .int .u64 0] 25) ∧ W.heap[w.heap.size + 1 + 1]? = some (.cells #[.int .u64 0, .int .u64 0] 25)) ∧ W.heap[gN]? = some (.cells (cw 6 t) 66) ∧ (w.heap.size < gN ∧ w.heap.size + 1 < gN ∧ w.heap.size + 1 + 1 < gN)) key.out ?_
     first
      | exact ⟨sS.out _ _ s1 (zQ _ _), heap_alloc_last _ _, sL.out _ s1⟩
      | exact ⟨sS.out _ _ s0 (zQ _ _), heap_alloc_last _ _, sL.out _ s0⟩
      | exact ⟨(sT.out _ _ _ s1 hl), zO hg, hl⟩
   rintro w2 g2 ⟨s1, Am, l2⟩
   have B2 := And.left s1
   have An := s1.2.1
   have Ao := s1.2.2.1
   have Ap := s1.2.2.2
   have H2 := zK l2
   clear s0 s1 sS sC sL sT l2
   obtain ⟨AO, AP, AQ, AR, AS, AT, AU, AV, AW, AX, AY, AZ, A0, A1⟩ := zD An
   obtain ⟨A2, A3⟩ := zF Ao
   obtain ⟨A4, A5⟩ := zF Ap
   have A6 := zE Am
   go_wp2_with fail
   refine (KB.out _).mono ?_
   rintro r w3 ⟨rfl, b3⟩
   have B3 : Below w.heap.size w w3 := zL B2 b3
   obtain ⟨Aq, Ar, Ak, As⟩ := rws4 b3 An Ao Ap Am
   clear b3 B2 An AO AP AQ AR AS AT AU AV AW AX AY AZ A0 A1 Ao A2 A3 Ap A4 A5 Am A6
   obtain ⟨Bq, Br, Bs, Bt, Bu, Bv, Bw, Bx, By, Bz, BA, BB, BC, BD⟩ := zD Aq
   obtain ⟨BE, BF⟩ := zF Ar
   obtain ⟨BG, BH⟩ := zF Ak
   have BI := zE As
   have q0_4 := fz (k := 0) Ak
   have q1_4 := fz (k := 1) Ak
   have B4 := zI B3 (show w.heap.size ≤ w.heap.size + 1 + 1 by first | exact Nat.le_refl _ | omega | (have := H2.out; omega)) (.int .u64 u) (.int .u64 v)
   have Ac : ((w3.setCell ⟨w.heap.size + 1 + 1, 0, none⟩ (.int .u64 u)).setCell ⟨w.heap.size + 1 + 1, 1, none⟩ (.int .u64 v)).heap[w.heap.size + 1 + 1]? = some (.cells #[.int .u64 u, .int .u64 v] 25) := yE Ak _ _
   have Aa : ((w3.setCell ⟨w.heap.size + 1 + 1, 0, none⟩ (.int .u64 u)).setCell ⟨w.heap.size + 1 + 1, 1, none⟩ (.int .u64 v)).heap[w.heap.size]? = some (.cells (pt c s X rr) 68) := (zB (by first | omega | (have := H2.out; omega))).trans ((zB (by first | omega | (have := H2.out; omega))).trans Aq)
   have Ad : ((w3.setCell ⟨w.heap.size + 1 + 1, 0, none⟩ (.int .u64 u)).setCell ⟨w.heap.size + 1 + 1, 1, none⟩ (.int .u64 v)).heap[w.heap.size + 1]? = some (.cells #[.int .u64 0, .int .u64 0] 25) := (zB (by first | omega | (have := H2.out; omega))).trans ((zB (by first | omega | (have := H2.out; omega))).trans Ar)
   have Al : ((w3.setCell ⟨w.heap.size + 1 + 1, 0, none⟩ (.int .u64 u)).setCell ⟨w.heap.size + 1 + 1, 1, none⟩ (.int .u64 v)).heap[g2]? = some (.cells (cw 6 t) 66) := (zB (by first | omega | (have := H2.out; omega))).trans ((zB (by first | omega | (have := H2.out; omega))).trans As)
   obtain ⟨A7, A8, A9, Ba, Bb, Bc, Bd, Be, Bf, Bg, Bh, Bi, Bj, Bk⟩ := zD Aa
   obtain ⟨Bl, Bm⟩ := zF Ad
   obtain ⟨Bn, Bo⟩ := zF Ac
   have Bp := zE Al
   go_wp2_with fail
   obtain ⟨F, hF1, hF2⟩ := zS ((w3.setCell ⟨w.heap.size + 1 + 1, 0, none⟩ (.int .u64 u)).setCell ⟨w.heap.size + 1 + 1, 1, none⟩ (.int .u64 v))
   have fp_0 := fun u => zC (zA (hF1 u) _ _ _ Aa) 0 _ rfl
   have fp_1 := fun u => zC (zA (hF1 u) _ _ _ Aa) 1 _ rfl
   have fp_2 := fun u => zC (zA (hF1 u) _ _ _ Aa) 2 _ rfl
   have fp_3 := fun u => zC (zA (hF1 u) _ _ _ Aa) 3 _ rfl
   have fp_4 := fun u => zC (zA (hF1 u) _ _ _ Aa) 4 _ rfl
   have fp_5 := fun u => zC (zA (hF1 u) _ _ _ Aa) 5 _ rfl
   have fp_6 := fun u => zC (zA (hF1 u) _ _ _ Aa) 6 _ rfl
   have fp_7 := fun u => zC (zA (hF1 u) _ _ _ Aa) 7 _ rfl
   have fp_8 := fun u => zC (zA (hF1 u) _ _ _ Aa) 8 _ rfl
   have fp_9 := fun u => zC (zA (hF1 u) _ _ _ Aa) 9 _ rfl
   have fp_10 := fun u => zC (zA (hF1 u) _ _ _ Aa) 10 _ rfl
   have fp_11 := fun u => zC (zA (hF1 u) _ _ _ Aa) 11 _ rfl
   have fp_12 := fun u => zC (zA (hF1 u) _ _ _ Aa) 12 _ rfl
   have fp_13 := fun u => zC (zA (hF1 u) _ _ _ Aa) 13 _ rfl
   have fz_0 := fun u => zC (zA (hF1 u) _ _ _ Ad) 0 _ rfl
   have fz_1 := fun u => zC (zA (hF1 u) _ _ _ Ad) 1 _ rfl
   have fb_0 := fun u => zC (zA (hF1 u) _ _ _ Ac) 0 _ rfl
   have fb_1 := fun u => zC (zA (hF1 u) _ _ _ Ac) 1 _ rfl
   have ft_0 := fun u => zE (zA (hF1 u) _ _ _ Al)
   refine zJ F hF2 (by kernel_rfl) (by kernel_rfl) ?_
   repeat first | go_big_quiet_step (first | (go_at_call 33; exact zN hF1 hF2 (KU.out _)) | fail) | quiet_step (first | (go_at_call 33; exact zN hF1 hF2 (KU.out _)) | fail)
   refine wpQuiet_nil ?_
   rintro _ ⟨uW, rfl⟩
   have B5 := zL B4 (hF1 uW)
   obtain ⟨At, Ae, Au, Av⟩ := rws4 (hF1 uW) Aa Ad Ac Al
   obtain ⟨w5, hw⟩ : ∃ V, F uW = V := ⟨_, rfl⟩
   rw [hw] at B5 At Ae Au Av
   try rw [hw]
   clear hw hF1 hF2 B4 fp_0 fp_1 fp_2 fp_3 fp_4 fp_5 fp_6 fp_7 fp_8 fp_9 fp_10 fp_11 fp_12 fp_13 fz_0 fz_1 fb_0 fb_1 ft_0 Aa A7 A8 A9 Ba Bb Bc Bd Be Bf Bg Bh Bi Bj Bk Ad Bl Bm Ac Bn Bo Al Bp
   clear F
   obtain ⟨BJ, BK, BL, BM, BN, BO, BP, BQ, BR, BS, BT, BU, BV, BW⟩ := zD At
   obtain ⟨BX, BY⟩ := zF Ae
   obtain ⟨BZ, B6⟩ := zF Au
   have B7 := zE Av
   have q0 := fz (k := 0) Ae
   have q1 := fz (k := 1) Ae
   obtain ⟨E0, E1⟩ := zM Ae (.int .u64 0) (.int .u64 0)
   go_wp2
   exact bodyPost_ret (v := .tuple #[.agg #[.int .u64 0, .int .u64 0], .int .i64 80]) (by simp [results, Tryz.results107, go_sem, E0, E1]) rfl ⟨rfl, zI B5 (by first | exact Nat.le_refl _ | omega | (have := H2.out; omega)) _ _⟩
  ·
   simp only [Bool.false_eq_true, if_false, if_true]
   obtain ⟨Ab, Af, Ag, B0⟩ := yX w (Obj.cells (pt c s X rr) 68) (Obj.cells #[.int .u64 0, .int .u64 0] 25) (Obj.cells #[.int .u64 0, .int .u64 0] 25)
   go_enter Tryz.func107, Tryz.ntmps107
   go_wp2_with fail
   refine (KP.out _).mono ?_
   rintro r w' ⟨rfl, hw'⟩
   obtain rfl := hw'.symm
   go_wp2_with fail
   refine (KE.out _).mono ?_
   rintro r w' ⟨rfl, hw'⟩
   obtain rfl := hw'.symm
   go_wp2_with fail
   obtain ⟨F, hF1, hF2⟩ := zS (((w.alloc (Obj.cells (pt c s X rr) 68)).alloc (Obj.cells #[.int .u64 0, .int .u64 0] 25)).alloc (Obj.cells #[.int .u64 0, .int .u64 0] 25))
   have fp_0 := fun u => zC (zA (hF1 u) _ _ _ Ab) 0 _ rfl
   have fp_1 := fun u => zC (zA (hF1 u) _ _ _ Ab) 1 _ rfl
   have fp_2 := fun u => zC (zA (hF1 u) _ _ _ Ab) 2 _ rfl
   have fp_3 := fun u => zC (zA (hF1 u) _ _ _ Ab) 3 _ rfl
   have fp_4 := fun u => zC (zA (hF1 u) _ _ _ Ab) 4 _ rfl
   have fp_5 := fun u => zC (zA (hF1 u) _ _ _ Ab) 5 _ rfl
   have fp_6 := fun u => zC (zA (hF1 u) _ _ _ Ab) 6 _ rfl
   have fp_7 := fun u => zC (zA (hF1 u) _ _ _ Ab) 7 _ rfl
   have fp_8 := fun u => zC (zA (hF1 u) _ _ _ Ab) 8 _ rfl
   have fp_9 := fun u => zC (zA (hF1 u) _ _ _ Ab) 9 _ rfl
   have fp_10 := fun u => zC (zA (hF1 u) _ _ _ Ab) 10 _ rfl
   have fp_11 := fun u => zC (zA (hF1 u) _ _ _ Ab) 11 _ rfl
   have fp_12 := fun u => zC (zA (hF1 u) _ _ _ Ab) 12 _ rfl
   have fp_13 := fun u => zC (zA (hF1 u) _ _ _ Ab) 13 _ rfl
   have fz_0 := fun u => zC (zA (hF1 u) _ _ _ Af) 0 _ rfl
   have fz_1 := fun u => zC (zA (hF1 u) _ _ _ Af) 1 _ rfl
   have fb_0 := fun u => zC (zA (hF1 u) _ _ _ Ag) 0 _ rfl
   have fb_1 := fun u => zC (zA (hF1 u) _ _ _ Ag) 1 _ rfl
   refine zJ F hF2 (by kernel_rfl) (by kernel_rfl) ?_
   repeat first | go_big_quiet_step (first | (go_at_call 82; exact zN hF1 hF2 (KN.out _)) | (go_at_call 92; exact yG (KX.out _)) | fail) | quiet_step (first | (go_at_call 82; exact zN hF1 hF2 (KN.out _)) | (go_at_call 92; exact yG (KX.out _)) | fail)
   refine wpQuiet_nil ?_
   rintro _ ⟨uW, rfl⟩
   have B1 := zL B0 (hF1 uW)
   obtain ⟨Ah, Ai, Aj⟩ := zZ (hF1 uW) Ab Af Ag
   obtain ⟨w1, hw⟩ : ∃ V, F uW = V := ⟨_, rfl⟩
   rw [hw] at B1 Ah Ai Aj
   try rw [hw]
   clear hw hF1 hF2 B0 fp_0 fp_1 fp_2 fp_3 fp_4 fp_5 fp_6 fp_7 fp_8 fp_9 fp_10 fp_11 fp_12 fp_13 fz_0 fz_1 fb_0 fb_1 Ab Af Ag
   clear F
   obtain ⟨Aw, Ax, Ay, Az, AA, AB, AC, AD, AE, AF, AG, AH, AI, AJ⟩ := zD Ah
   obtain ⟨AK, AL⟩ := zF Ai
   obtain ⟨AM, AN⟩ := zF Aj
   have sS : zP (∀ W W1 : World, (Below w.heap.size w W ∧ W.heap[w.heap.size]? = some (.cells (pt c s X rr) 68) ∧ W.heap[w.heap.size + 1]? = some (.cells #[.int .u64 0, .int .u64 0] 25) ∧ W.heap[w.heap.size + 1 + 1]? = some (.cells #[.int .u64 0, .int .u64 0] 25)) → Below W.heap.size W W1 → (Below w.heap.size w W1 ∧ W1.heap[w.heap.size]? = some (.cells (pt c s X rr) 68) ∧ W1.heap[w.heap.size + 1]? = some (.cells #[.int .u64 0, .int .u64 0] 25) ∧ W1.heap[w.heap.size + 1 + 1]? = some (.cells #[.int .u64 0, .int .u64 0] 25))) := zK (fun W W1 h b => ⟨zL h.1 b, zA b _ _ _ h.2.1, zA b _ _ _ h.2.2.1, zA b _ _ _ h.2.2.2⟩)
   have sL : zP (∀ W : World, (Below w.heap.size w W ∧ W.heap[w.heap.size]? = some (.cells (pt c s X rr) 68) ∧ W.heap[w.heap.size + 1]? = some (.cells #[.int .u64 0, .int .u64 0] 25) ∧ W.heap[w.heap.size + 1 + 1]? = some (.cells #[.int .u64 0, .int .u64 0] 25)) → (w.heap.size < W.heap.size ∧ w.heap.size + 1 < W.heap.size ∧ w.heap.size + 1 + 1 < W.heap.size)) := zK (fun W h => ⟨(Array.getElem?_eq_some_iff.1 h.2.1).1, (Array.getElem?_eq_some_iff.1 h.2.2.1).1, (Array.getElem?_eq_some_iff.1 h.2.2.2).1⟩)
   have sT : zP (∀ (W : World) (gN : Nat) (xA : Array Value), (Below w.heap.size w W ∧ W.heap[w.heap.size]? = some (.cells (pt c s X rr) 68) ∧ W.heap[w.heap.size + 1]? = some (.cells #[.int .u64 0, .int .u64 0] 25) ∧ W.heap[w.heap.size + 1 + 1]? = some (.cells #[.int .u64 0, .int .u64 0] 25)) → (w.heap.size < gN ∧ w.heap.size + 1 < gN ∧ w.heap.size + 1 + 1 < gN) → (Below w.heap.size w (W.setRow gN xA) ∧ (W.setRow gN xA).heap[w.heap.size]? = some (.cells (pt c s X rr) 68) ∧ (W.setRow gN xA).heap[w.heap.size + 1]? = some (.cells #[.int .u64 0, .int .u64 0] 25) ∧ (W.setRow gN xA).heap[w.heap.size + 1 + 1]? = some (.cells #[.int .u64 0, .int .u64 0] 25))) := zK (fun W gN xA h l => ⟨zX h.1 (show w.heap.size ≤ gN by have := l.1; omega), (zH (by have := l.1; omega)).trans h.2.1, (zH (by have := l.2.1; omega)).trans h.2.2.1, (zH (by have := l.2.2; omega)).trans h.2.2.2⟩)
   have sC : zP (∀ W : World, (Below w.heap.size w W ∧ W.heap[w.heap.size]? = some (.cells (pt c s X rr) 68) ∧ W.heap[w.heap.size + 1]? = some (.cells #[.int .u64 0, .int .u64 0] 25) ∧ W.heap[w.heap.size + 1 + 1]? = some (.cells #[.int .u64 0, .int .u64 0] 25)) → (Below w.heap.size w W ∧ W.heap[w.heap.size]? = some (.cells (pt c s X rr) 68) ∧ W.heap[w.heap.size + 1]? = some (.cells #[.int .u64 0, .int .u64 0] 25) ∧ W.heap[w.heap.size + 1 + 1]? = some (.cells #[.int .u64 0, .int .u64 0] 25) ∧ W.cell? ⟨w.heap.size, 0, none⟩ = some (.int .u8 c) ∧ W.cell? ⟨w.heap.size, 1, none⟩ = some (.int .u64 (wd s 0)) ∧ W.cell? ⟨w.heap.size, 2, none⟩ = some (.int .u64 (wd s 1)) ∧ W.cell? ⟨w.heap.size, 3, none⟩ = some (.int .u64 (wd s 2)) ∧ W.cell? ⟨w.heap.size, 4, none⟩ = some (.int .u64 (wd s 3)) ∧ W.cell? ⟨w.heap.size, 5, none⟩ = some (.int .u64 (wd s 4)) ∧ W.cell? ⟨w.heap.size, 6, none⟩ = some (.int .u64 (wd s 5)) ∧ W.cell? ⟨w.heap.size, 7, none⟩ = some (.int .i64 X) ∧ W.cell? ⟨w.heap.size, 8, none⟩ = some (.int .u64 (wd rr 0)) ∧ W.cell? ⟨w.heap.size, 9, none⟩ = some (.int .u64 (wd rr 1)) ∧ W.cell? ⟨w.heap.size, 10, none⟩ = some (.int .u64 (wd rr 2)) ∧ W.cell? ⟨w.heap.size, 11, none⟩ = some (.int .u64 (wd rr 3)) ∧ W.cell? ⟨w.heap.size, 12, none⟩ = some (.int .u64 (wd rr 4)) ∧ W.cell? ⟨w.heap.size, 13, none⟩ = some (.int .u64 (wd rr 5)) ∧ W.cell? ⟨w.heap.size + 1, 0, none⟩ = some (.int .u64 0) ∧ W.cell? ⟨w.heap.size + 1, 1, none⟩ = some (.int .u64 0) ∧ W.cell? ⟨w.heap.size + 1 + 1, 0, none⟩ = some (.int .u64 0) ∧ W.cell? ⟨w.heap.size + 1 + 1, 1, none⟩ = some (.int .u64 0))) := zK (fun W h => ⟨h.1, h.2.1, h.2.2.1, h.2.2.2, zC (h.2.1) 0 _ rfl, zC (h.2.1) 1 _ rfl, zC (h.2.1) 2 _ rfl, zC (h.2.1) 3 _ rfl, zC (h.2.1) 4 _ rfl, zC (h.2.1) 5 _ rfl, zC (h.2.1) 6 _ rfl, zC (h.2.1) 7 _ rfl, zC (h.2.1) 8 _ rfl, zC (h.2.1) 9 _ rfl, zC (h.2.1) 10 _ rfl, zC (h.2.1) 11 _ rfl, zC (h.2.1) 12 _ rfl, zC (h.2.1) 13 _ rfl, zC (h.2.2.1) 0 _ rfl, zC (h.2.2.1) 1 _ rfl, zC (h.2.2.2) 0 _ rfl, zC (h.2.2.2) 1 _ rfl⟩)
   have s0 : Below w.heap.size w (w1).drew ∧ (w1).drew.heap[w.heap.size]? = some (.cells (pt c s X rr) 68) ∧ (w1).drew.heap[w.heap.size + 1]? = some (.cells #[.int .u64 0, .int .u64 0] 25) ∧ (w1).drew.heap[w.heap.size + 1 + 1]? = some (.cells #[.int .u64 0, .int .u64 0] 25) := ⟨B1.drew, Ah, Ai, Aj⟩
   clear B1 Ah Aw Ax Ay Az AA AB AC AD AE AF AG AH AI AJ Ai AK AL Aj AM AN
   go_wp2_with fail
   apply cut7
   ·
    intro key0
    have key := zK key0
    clear key0
    go_region_held3 (fun W => Below w.heap.size w W ∧ W.heap[w.heap.size]? = some (.cells (pt c s X rr) 68) ∧ W.heap[w.heap.size + 1]? = some (.cells #[.int .u64 0, .int .u64 0] 25) ∧ W.heap[w.heap.size + 1 + 1]? = some (.cells #[.int .u64 0, .int .u64 0] 25) ∧ W.cell? ⟨w.heap.size, 0, none⟩ = some (.int .u8 c) ∧ W.cell? ⟨w.heap.size, 1, none⟩ = some (.int .u64 (wd s 0)) ∧ W.cell? ⟨w.heap.size, 2, none⟩ = some (.int .u64 (wd s 1)) ∧ W.cell? ⟨w.heap.size, 3, none⟩ = some (.int .u64 (wd s 2)) ∧ W.cell? ⟨w.heap.size, 4, none⟩ = some (.int .u64 (wd s 3)) ∧ W.cell? ⟨w.heap.size, 5, none⟩ = some (.int .u64 (wd s 4)) ∧ W.cell? ⟨w.heap.size, 6, none⟩ = some (.int .u64 (wd s 5)) ∧ W.cell? ⟨w.heap.size, 7, none⟩ = some (.int .i64 X) ∧ W.cell? ⟨w.heap.size, 8, none⟩ = some (.int .u64 (wd rr 0)) ∧ W.cell? ⟨w.heap.size, 9, none⟩ = some (.int .u64 (wd rr 1)) ∧ W.cell? ⟨w.heap.size, 10, none⟩ = some (.int .u64 (wd rr 2)) ∧ W.cell? ⟨w.heap.size, 11, none⟩ = some (.int .u64 (wd rr 3)) ∧ W.cell? ⟨w.heap.size, 12, none⟩ = some (.int .u64 (wd rr 4)) ∧ W.cell? ⟨w.heap.size, 13, none⟩ = some (.int .u64 (wd rr 5)) ∧ W.cell? ⟨w.heap.size + 1, 0, none⟩ = some (.int .u64 0) ∧ W.cell? ⟨w.heap.size + 1, 1, none⟩ = some (.int .u64 0) ∧ W.cell? ⟨w.heap.size + 1 + 1, 0, none⟩ = some (.int .u64 0) ∧ W.cell? ⟨w.heap.size + 1 + 1, 1, none⟩ = some (.int .u64 0)) (first | exact sC.out _ s1 | exact sC.out _ s0 | exact sC.out _ (sS.out _ _ s1 (zQ _ _)) | exact sC.out _ (sS.out _ _ s0 (zQ _ _)) | exact sC.out _ (sT.out _ _ _ s1 hl))
     (((first | (go_at_call 173; (first | refine (KM.out _).mono ?_ | refine (KM.out _).mono ?_)) | (go_at_call 172; (first | refine (KA.out _).mono ?_ | refine (KA.out _).mono ?_)) | fail); rintro r wq ⟨rfl, bq⟩; (first | (have hg := zA bq _ _ _ (heap_alloc_last _ _); have hl := (by first | exact sL.out _ s1 | exact sL.out _ s0)) | have hg := zA bq _ _ _ hg | skip); (try simp only [x8, zT] at hg hl); (first | have hst := yW _ _ (t) 0 hg | skip); have s2 := (by first | exact sS.out _ _ s1 bq | exact sS.out _ _ s0 bq | exact sS.out _ _ (sS.out _ _ s1 (zQ _ _)) bq | exact sS.out _ _ (sS.out _ _ s0 (zQ _ _)) bq); (try clear s1); have s1 := s2; clear s2 bq))
    all_goals
     refine yV (R := fun W gN => (Below w.heap.size w W ∧ W.heap[w.heap.size]? = some (.cells (pt c s X rr) 68) ∧ W.heap[w.heap.size + 1]? = some (.cells #[.int .u64 0, .int .u64 0] 25) ∧ W.heap[w.heap.size + 1 + 1]? = some (.cells #[.int .u64 0, .int .u64 0] 25)) ∧ W.heap[gN]? = some (.cells (cw 6 t) 66) ∧ (w.heap.size < gN ∧ w.heap.size + 1 < gN ∧ w.heap.size + 1 + 1 < gN)) key.out ?_
     first
      | exact ⟨sS.out _ _ s1 (zQ _ _), heap_alloc_last _ _, sL.out _ s1⟩
      | exact ⟨sS.out _ _ s0 (zQ _ _), heap_alloc_last _ _, sL.out _ s0⟩
      | exact ⟨(sT.out _ _ _ s1 hl), zO hg, hl⟩
   rintro w2 g2 ⟨s1, Am, l2⟩
   have B2 := And.left s1
   have An := s1.2.1
   have Ao := s1.2.2.1
   have Ap := s1.2.2.2
   have H2 := zK l2
   clear s0 s1 sS sC sL sT l2
   obtain ⟨AO, AP, AQ, AR, AS, AT, AU, AV, AW, AX, AY, AZ, A0, A1⟩ := zD An
   obtain ⟨A2, A3⟩ := zF Ao
   obtain ⟨A4, A5⟩ := zF Ap
   have A6 := zE Am
   go_wp2_with fail
   refine (KB.out _).mono ?_
   rintro r w3 ⟨rfl, b3⟩
   have B3 : Below w.heap.size w w3 := zL B2 b3
   obtain ⟨Aq, Ar, Ak, As⟩ := rws4 b3 An Ao Ap Am
   clear b3 B2 An AO AP AQ AR AS AT AU AV AW AX AY AZ A0 A1 Ao A2 A3 Ap A4 A5 Am A6
   obtain ⟨Bq, Br, Bs, Bt, Bu, Bv, Bw, Bx, By, Bz, BA, BB, BC, BD⟩ := zD Aq
   obtain ⟨BE, BF⟩ := zF Ar
   obtain ⟨BG, BH⟩ := zF Ak
   have BI := zE As
   have q0_4 := fz (k := 0) Ak
   have q1_4 := fz (k := 1) Ak
   have B4 := zI B3 (show w.heap.size ≤ w.heap.size + 1 + 1 by first | exact Nat.le_refl _ | omega | (have := H2.out; omega)) (.int .u64 u) (.int .u64 v)
   have Ac : ((w3.setCell ⟨w.heap.size + 1 + 1, 0, none⟩ (.int .u64 u)).setCell ⟨w.heap.size + 1 + 1, 1, none⟩ (.int .u64 v)).heap[w.heap.size + 1 + 1]? = some (.cells #[.int .u64 u, .int .u64 v] 25) := yE Ak _ _
   have Aa : ((w3.setCell ⟨w.heap.size + 1 + 1, 0, none⟩ (.int .u64 u)).setCell ⟨w.heap.size + 1 + 1, 1, none⟩ (.int .u64 v)).heap[w.heap.size]? = some (.cells (pt c s X rr) 68) := (zB (by first | omega | (have := H2.out; omega))).trans ((zB (by first | omega | (have := H2.out; omega))).trans Aq)
   have Ad : ((w3.setCell ⟨w.heap.size + 1 + 1, 0, none⟩ (.int .u64 u)).setCell ⟨w.heap.size + 1 + 1, 1, none⟩ (.int .u64 v)).heap[w.heap.size + 1]? = some (.cells #[.int .u64 0, .int .u64 0] 25) := (zB (by first | omega | (have := H2.out; omega))).trans ((zB (by first | omega | (have := H2.out; omega))).trans Ar)
   have Al : ((w3.setCell ⟨w.heap.size + 1 + 1, 0, none⟩ (.int .u64 u)).setCell ⟨w.heap.size + 1 + 1, 1, none⟩ (.int .u64 v)).heap[g2]? = some (.cells (cw 6 t) 66) := (zB (by first | omega | (have := H2.out; omega))).trans ((zB (by first | omega | (have := H2.out; omega))).trans As)
   obtain ⟨A7, A8, A9, Ba, Bb, Bc, Bd, Be, Bf, Bg, Bh, Bi, Bj, Bk⟩ := zD Aa
   obtain ⟨Bl, Bm⟩ := zF Ad
   obtain ⟨Bn, Bo⟩ := zF Ac
   have Bp := zE Al
   go_wp2_with fail
   obtain ⟨F, hF1, hF2⟩ := zS ((w3.setCell ⟨w.heap.size + 1 + 1, 0, none⟩ (.int .u64 u)).setCell ⟨w.heap.size + 1 + 1, 1, none⟩ (.int .u64 v))
   have fp_0 := fun u => zC (zA (hF1 u) _ _ _ Aa) 0 _ rfl
   have fp_1 := fun u => zC (zA (hF1 u) _ _ _ Aa) 1 _ rfl
   have fp_2 := fun u => zC (zA (hF1 u) _ _ _ Aa) 2 _ rfl
   have fp_3 := fun u => zC (zA (hF1 u) _ _ _ Aa) 3 _ rfl
   have fp_4 := fun u => zC (zA (hF1 u) _ _ _ Aa) 4 _ rfl
   have fp_5 := fun u => zC (zA (hF1 u) _ _ _ Aa) 5 _ rfl
   have fp_6 := fun u => zC (zA (hF1 u) _ _ _ Aa) 6 _ rfl
   have fp_7 := fun u => zC (zA (hF1 u) _ _ _ Aa) 7 _ rfl
   have fp_8 := fun u => zC (zA (hF1 u) _ _ _ Aa) 8 _ rfl
   have fp_9 := fun u => zC (zA (hF1 u) _ _ _ Aa) 9 _ rfl
   have fp_10 := fun u => zC (zA (hF1 u) _ _ _ Aa) 10 _ rfl
   have fp_11 := fun u => zC (zA (hF1 u) _ _ _ Aa) 11 _ rfl
   have fp_12 := fun u => zC (zA (hF1 u) _ _ _ Aa) 12 _ rfl
   have fp_13 := fun u => zC (zA (hF1 u) _ _ _ Aa) 13 _ rfl
   have fz_0 := fun u => zC (zA (hF1 u) _ _ _ Ad) 0 _ rfl
   have fz_1 := fun u => zC (zA (hF1 u) _ _ _ Ad) 1 _ rfl
   have fb_0 := fun u => zC (zA (hF1 u) _ _ _ Ac) 0 _ rfl
   have fb_1 := fun u => zC (zA (hF1 u) _ _ _ Ac) 1 _ rfl
   have ft_0 := fun u => zE (zA (hF1 u) _ _ _ Al)
   refine zJ F hF2 (by kernel_rfl) (by kernel_rfl) ?_
   repeat first | go_big_quiet_step (first | (go_at_call 33; exact zN hF1 hF2 (KU.out _)) | fail) | quiet_step (first | (go_at_call 33; exact zN hF1 hF2 (KU.out _)) | fail)
   refine wpQuiet_nil ?_
   rintro _ ⟨uW, rfl⟩
   have B5 := zL B4 (hF1 uW)
   obtain ⟨At, Ae, Au, Av⟩ := rws4 (hF1 uW) Aa Ad Ac Al
   obtain ⟨w5, hw⟩ : ∃ V, F uW = V := ⟨_, rfl⟩
   rw [hw] at B5 At Ae Au Av
   try rw [hw]
   clear hw hF1 hF2 B4 fp_0 fp_1 fp_2 fp_3 fp_4 fp_5 fp_6 fp_7 fp_8 fp_9 fp_10 fp_11 fp_12 fp_13 fz_0 fz_1 fb_0 fb_1 ft_0 Aa A7 A8 A9 Ba Bb Bc Bd Be Bf Bg Bh Bi Bj Bk Ad Bl Bm Ac Bn Bo Al Bp
   clear F
   obtain ⟨BJ, BK, BL, BM, BN, BO, BP, BQ, BR, BS, BT, BU, BV, BW⟩ := zD At
   obtain ⟨BX, BY⟩ := zF Ae
   obtain ⟨BZ, B6⟩ := zF Au
   have B7 := zE Av
   have q0 := fz (k := 0) Ae
   have q1 := fz (k := 1) Ae
   obtain ⟨E0, E1⟩ := zM Ae (.int .u64 u) (.int .u64 v)
   go_wp2
   exact bodyPost_ret (v := .tuple #[.agg #[.int .u64 u, .int .u64 v], .int .i64 0]) (by simp [results, Tryz.results107, go_sem, E0, E1]) rfl ⟨rfl, zI B5 (by first | exact Nat.le_refl _ | omega | (have := H2.out; omega)) _ _⟩
end Go.Proofs.YtkblmpmkchkpjaaGreatDoor
