/-
  What the functions that the statement reaches return: part 24 (A1).
-/
import Derived.Test.YtoaaajeblhaeoaaGreatDoorAl23
namespace Go.Proofs.YtoaaajeblhaeoaaGreatDoor
set_option maxRecDepth 100000
set_option maxHeartbeats 40000000
open Go.RowKit WMath
set_option linter.unusedSimpArgs false
set_option linter.unusedVariables false
theorem gen_add_total_9 {X : Act → World → Prop} {R : World → Nat → Prop} {t0 t1 t2 t3 t4 t5 t6 t7 t8 t10 t11 t12 t13 t14 t15 t16 t17 t18 t19 t20 t21 t22 t23 t24 t25 t26 t27 t28 t29 t30 t31 t32 t33 t34 t35 t36 t37 t38 t39 t40 t41 t42 t43 t44 t45 t46 t47 t48 t49 t50 t51 t52 t53 t54 t55 t56 t57 t58 t59 t60 : Value} {d : List Deferred} {W : World} {G : Nat}
  (key : ∀ w5 g, R w5 g → X ⟨#[t0, t1, t2, t3, t4, t5, t6, t7, t8, .pointer (some ⟨g, 0, none⟩), t10, t11, t12, t13, t14, t15, t16, t17, t18, t19, t20, t21, t22, t23, t24, t25, t26, t27, t28, t29, t30, t31, t32, t33, t34, t35, t36, t37, t38, t39, t40, t41, t42, t43, t44, t45, t46, t47, t48, t49, t50, t51, t52, t53, t54, t55, t56, t57, t58, t59, t60], d⟩ w5) (r : R W G) : X ⟨#[t0, t1, t2, t3, t4, t5, t6, t7, t8, .pointer (some ⟨G, 0, none⟩), t10, t11, t12, t13, t14, t15, t16, t17, t18, t19, t20, t21, t22, t23, t24, t25, t26, t27, t28, t29, t30, t31, t32, t33, t34, t35, t36, t37, t38, t39, t40, t41, t42, t43, t44, t45, t46, t47, t48, t49, t50, t51, t52, t53, t54, t55, t56, t57, t58, t59, t60], d⟩ W := key W G r
theorem gen_add_total_10 {X : Act → World → Prop} {R : World → Nat → Prop} {t0 t1 t2 t3 t4 t5 t6 t7 t8 t9 t11 t12 t13 t14 t15 t16 t17 t18 t19 t20 t21 t22 t23 t24 t25 t26 t27 t28 t29 t30 t31 t32 t33 t34 t35 t36 t37 t38 t39 t40 t41 t42 t43 t44 t45 t46 t47 t48 t49 t50 t51 t52 t53 t54 t55 t56 t57 t58 t59 t60 : Value} {d : List Deferred} {W : World} {G : Nat}
  (key : ∀ w5 g, R w5 g → X ⟨#[t0, t1, t2, t3, t4, t5, t6, t7, t8, t9, .pointer (some ⟨g, 0, none⟩), t11, t12, t13, t14, t15, t16, t17, t18, t19, t20, t21, t22, t23, t24, t25, t26, t27, t28, t29, t30, t31, t32, t33, t34, t35, t36, t37, t38, t39, t40, t41, t42, t43, t44, t45, t46, t47, t48, t49, t50, t51, t52, t53, t54, t55, t56, t57, t58, t59, t60], d⟩ w5) (r : R W G) : X ⟨#[t0, t1, t2, t3, t4, t5, t6, t7, t8, t9, .pointer (some ⟨G, 0, none⟩), t11, t12, t13, t14, t15, t16, t17, t18, t19, t20, t21, t22, t23, t24, t25, t26, t27, t28, t29, t30, t31, t32, t33, t34, t35, t36, t37, t38, t39, t40, t41, t42, t43, t44, t45, t46, t47, t48, t49, t50, t51, t52, t53, t54, t55, t56, t57, t58, t59, t60], d⟩ W := key W G r

theorem ad_below (c s : Nat) (X : Int) (r : Nat) (o : Bool) (ho : decide ((c : Int) ≤ 3) = o) (w : World) : Calls Tryz.prog 244 #[.agg (pt c s X r)] w fun r w' => r = .returned (.bool o) ∧ Below w.heap.size w w' := by
 obtain ⟨Aa, B0⟩ := yL w (Obj.cells (pt c s X r) 73)
 go_enter Tryz.func244, Tryz.ntmps244
 obtain ⟨Ab, Ac, Ad, Ae, Af, Ag, Ah, Ai, Aj, Ak, Al, Am, An, Ao⟩ := zF Aa
 go_wp2
 go_ret
 exact ⟨rfl, B0⟩
theorem ad_raised (s v : Nat) (o : Bool) (w : World) (K : zO (∀ w, Calls Tryz.prog 185 #[.agg (cw 6 s), .int .i64 3] w fun r w' => r = .returned (.tuple #[.agg (cw 6 v), .bool o]) ∧ Below w.heap.size w w')) : Calls Tryz.prog 245 #[.agg (cw 6 s)] w fun r w' => r = .returned (.agg (cw 6 v)) ∧ Below w.heap.size w w' := by
 have hat := yB 6
 have hz := yT
 have hff := yQ
 have hs0 := qZ
 have hcs : ∀ x, ((cw 6 x).size = 6) = True := fun x => eq_true (z8 6 x)
 obtain ⟨Ac, Ad, B0⟩ := x7 w (Obj.cells (cw 6 s) 71) (Obj.cells (cw 6 0) 71)
 go_enter Tryz.func245, Tryz.ntmps245
 have Af := zE Ac
 have Ag := zE Ad
 go_wp2_with fail
 refine (K.out _).mono ?_
 rintro r w1 ⟨rfl, b1⟩
 have B1 := zU B0 b1
 obtain ⟨Aa, Ab⟩ := zY b1 Ac Ad
 clear b1 B0 Ac Af Ad Ag
 have Ah := zE Aa
 have Ai := zE Ab
 have S2 := zJ B1.size
 have Aj := yE Aa
 have Ak := yE Ab
 have Al := heap_alloc_last w1 (Obj.cells (cw 6 v) 71)
 have B2 := zU B1 (yO w1 (Obj.cells (cw 6 v) 71))
 obtain ⟨Am, Ae⟩ := zY (yO w1 (Obj.cells (cw 6 v) 71)) Aa Ab
 clear B1 Aa Ah Ab Ai
 have An := zE Am
 have Ao := zE Ae
 have Ap := zE Al
 have hst := y6 (w1.alloc (Obj.cells (cw 6 v) 71)) (w.heap.size + 1) v 0 Ae
 have dz := zE (zS (c' := cw 6 v) Ae)
 have bz := z7 (c := cw 6 v) B2 (show w.heap.size ≤ w.heap.size + 1 by first | exact Nat.le_refl _ | omega | (have := S2.out; have := Aj.out; have := Ak.out; omega))
 go_wp2
 exact bodyPost_ret (v := .agg (cw 6 v)) (by simp [results, Tryz.results245, go_sem, dz, hff]) rfl ⟨rfl, bz⟩
theorem ad_mag_no (f : Int) (x y n : Nat) (w : World) (KS : zO (∀ w, yG w → Calls Tryz.prog 25 #[.int .u8 f, .agg #[.int .u64 x, .int .u64 y]] w fun r w' => r = .returned (.bool false) ∧ Below w.heap.size w w'))
  (KO : zO (∀ w, Calls Tryz.prog 183 #[.agg #[.int .u64 x, .int .u64 y]] w fun r w' => r = .returned (.agg (cw 6 n)) ∧ Below w.heap.size w w')) (hT : yG w) : Calls Tryz.prog 156 #[.int .u8 f, .agg #[.int .u64 x, .int .u64 y]] w fun r w' => r = .returned (.agg (cw 6 n)) ∧ Below w.heap.size w w' := by
 have FF := zJ hT
 clear hT
 have hat := yB 6
 have hz := yT
 have hff := yQ
 have hs0 := qZ
 have hcs : ∀ x, ((cw 6 x).size = 6) = True := fun x => eq_true (z8 6 x)
 obtain ⟨Aa, Ab, B0⟩ := x7 w (Obj.cells #[.int .u64 x, .int .u64 y] 25) (Obj.cells (cw 6 0) 71)
 go_enter Tryz.func156, Tryz.ntmps156
 obtain ⟨Af, Ag⟩ := zC Aa
 have Ah := zE Ab
 go_wp2_with fail
 refine (KS.out _ (zZ FF.out B0)).mono ?_
 rintro r w1 ⟨rfl, b1⟩
 have B1 := zU B0 b1
 obtain ⟨Ac, Ad⟩ := zY b1 Aa Ab
 clear b1 B0 Aa Af Ag Ab Ah
 obtain ⟨Ai, Aj⟩ := zC Ac
 have Ak := zE Ad
 go_wp2_with fail
 refine (KO.out _).mono ?_
 rintro r w2 ⟨rfl, b2⟩
 have B2 := zU B1 b2
 obtain ⟨Al, Ae⟩ := zY b2 Ac Ad
 clear b2 B1 Ac Ai Aj Ad Ak
 obtain ⟨Am, An⟩ := zC Al
 have Ao := zE Ae
 have hst := y6 w2 (w.heap.size + 1) n 0 Ae
 have dz := zE (zS (c' := cw 6 n) Ae)
 have bz := z7 (c := cw 6 n) B2 (show w.heap.size ≤ w.heap.size + 1 by first | exact Nat.le_refl _ | omega | (skip; omega))
 go_wp2
 exact bodyPost_ret (v := .agg (cw 6 n)) (by simp [results, Tryz.results156, go_sem, dz, hff]) rfl ⟨rfl, bz⟩
theorem ad_mag_yes (f : Int) (x y u v n : Nat) (w : World) (KS : zO (∀ w, yG w → Calls Tryz.prog 25 #[.int .u8 f, .agg #[.int .u64 x, .int .u64 y]] w fun r w' => r = .returned (.bool true) ∧ Below w.heap.size w w'))
  (KF : zO (∀ w, yG w → Calls Tryz.prog 86 #[.int .u8 f, .agg #[.int .u64 x, .int .u64 y]] w fun r w' => r = .returned (.agg #[.int .u64 u, .int .u64 v]) ∧ Below w.heap.size w w'))
  (KO : zO (∀ w, Calls Tryz.prog 183 #[.agg #[.int .u64 u, .int .u64 v]] w fun r w' => r = .returned (.agg (cw 6 n)) ∧ Below w.heap.size w w')) (hT : yG w) : Calls Tryz.prog 156 #[.int .u8 f, .agg #[.int .u64 x, .int .u64 y]] w fun r w' => r = .returned (.agg (cw 6 n)) ∧ Below w.heap.size w w' := by
 have FF := zJ hT
 clear hT
 have hat := yB 6
 have hz := yT
 have hff := yQ
 have hs0 := qZ
 have hcs : ∀ x, ((cw 6 x).size = 6) = True := fun x => eq_true (z8 6 x)
 obtain ⟨Ab, Ac, B0⟩ := x7 w (Obj.cells #[.int .u64 x, .int .u64 y] 25) (Obj.cells (cw 6 0) 71)
 go_enter Tryz.func156, Tryz.ntmps156
 obtain ⟨Aj, Ak⟩ := zC Ab
 have Al := zE Ac
 go_wp2_with fail
 refine (KS.out _ (zZ FF.out B0)).mono ?_
 rintro r w1 ⟨rfl, b1⟩
 have B1 := zU B0 b1
 obtain ⟨Ad, Ae⟩ := zY b1 Ab Ac
 clear b1 B0 Ab Aj Ak Ac Al
 obtain ⟨Am, An⟩ := zC Ad
 have Ao := zE Ae
 go_wp2_with fail
 refine (KF.out _ (zZ FF.out B1)).mono ?_
 rintro r w2 ⟨rfl, b2⟩
 have B2 := zU B1 b2
 obtain ⟨Aa, Ai⟩ := zY b2 Ad Ae
 clear b2 B1 Ad Am An Ae Ao
 obtain ⟨At, Au⟩ := zC Aa
 have Av := zE Ai
 have q0_3 := fz (k := 0) Aa
 have q1_3 := fz (k := 1) Aa
 have B3 := zM B2 (show w.heap.size ≤ w.heap.size by first | exact Nat.le_refl _ | omega | (skip; omega)) (.int .u64 u) (.int .u64 v)
 have Af : ((w2.setCell ⟨w.heap.size, 0, none⟩ (.int .u64 u)).setCell ⟨w.heap.size, 1, none⟩ (.int .u64 v)).heap[w.heap.size]? = some (.cells #[.int .u64 u, .int .u64 v] 25) := x6 Aa _ _
 have Ag : ((w2.setCell ⟨w.heap.size, 0, none⟩ (.int .u64 u)).setCell ⟨w.heap.size, 1, none⟩ (.int .u64 v)).heap[w.heap.size + 1]? = some (.cells (cw 6 0) 71) := (zH (by first | omega | (skip; omega))).trans ((zH (by first | omega | (skip; omega))).trans Ai)
 obtain ⟨Ap, Aq⟩ := zC Af
 have Ar := zE Ag
 go_wp2_with fail
 refine (KO.out _).mono ?_
 rintro r w4 ⟨rfl, b4⟩
 have B4 := zU B3 b4
 obtain ⟨As, Ah⟩ := zY b4 Af Ag
 clear b4 B3 Af Ap Aq Ag Ar
 obtain ⟨Aw, Ax⟩ := zC As
 have Ay := zE Ah
 have hst := y6 w4 (w.heap.size + 1) n 0 Ah
 have dz := zE (zS (c' := cw 6 n) Ah)
 have bz := z7 (c := cw 6 n) B4 (show w.heap.size ≤ w.heap.size + 1 by first | exact Nat.le_refl _ | omega | (skip; omega))
 go_wp2
 exact bodyPost_ret (v := .agg (cw 6 n)) (by simp [results, Tryz.results156, go_sem, dz, hff]) rfl ⟨rfl, bz⟩
theorem rg_ne (c : Bool) (s : Nat) (x : Int) (r : Bool) : (rg c s x r = #[]) = False := eq_false (fun h => by have := congrArg Array.size h; exact absurd this (by decide : ¬ (9 = 0)))
theorem rg_lt8 (c : Bool) (s : Nat) (x : Int) (r : Bool) : ((rg c s x r).size < 8) = False := eq_false (show ¬ (9 < 8) by decide)
theorem bld_r2 (neg : Bool) (x : Int) : ((rg false 0 0 false).setIfInBounds 0 (.bool neg)).setIfInBounds 7 (.int .i64 x) = rg neg 0 x false := rfl
theorem ad_total (m : Int) (c1 m1 : Nat) (X1 : Int) (r1 c2 m2 : Nat) (X2 : Int) (r2 : Nat) (o o2 neg lk : Bool) (g l L S : Nat) (D E : Int) (ov : Bool) (w : World) (hlk : (o == o2) = lk)
  (KB1 : zO (∀ w, Calls Tryz.prog 244 #[.agg (pt c1 m1 X1 r1)] w fun r w' => r = .returned (.bool o) ∧ Below w.heap.size w w')) (KB2 : zO (∀ w, Calls Tryz.prog 244 #[.agg (pt c2 m2 X2 r2)] w fun r w' => r = .returned (.bool o2) ∧ Below w.heap.size w w'))
  (KR1 : zO (∀ w, Calls Tryz.prog 245 #[.agg (cw 6 m1)] w fun r w' => r = .returned (.agg (cw 6 g)) ∧ Below w.heap.size w w')) (KR2 : zO (∀ w, Calls Tryz.prog 245 #[.agg (cw 6 m2)] w fun r w' => r = .returned (.agg (cw 6 l)) ∧ Below w.heap.size w w'))
  (KJ : zO (∀ w, Calls Tryz.prog 246 #[.agg (cw 6 l), .int .i64 D] w fun r w' => r = .returned (.agg (cw 6 L)) ∧ Below w.heap.size w w'))
  (H : zO ((lk = true ∧ zO (∀ w, Calls Tryz.prog 247 #[.agg (cw 6 g), .agg (cw 6 L)] w fun r w' => r = .returned (.tuple #[.agg (cw 6 S), .bool ov]) ∧ Below w.heap.size w w') ∧ o = neg) ∨
   (lk = false ∧ zO (∀ w, Calls Tryz.prog 242 #[.agg (cw 6 g), .agg (cw 6 L)] w fun r w' => r = .returned (.tuple #[.agg (cw 6 S), .bool ov]) ∧ Below w.heap.size w w') ∧ (S = 0) = False ∧ o = neg) ∨
   (lk = false ∧ zO (∀ w, Calls Tryz.prog 242 #[.agg (cw 6 g), .agg (cw 6 L)] w fun r w' => r = .returned (.tuple #[.agg (cw 6 S), .bool ov]) ∧ Below w.heap.size w w') ∧ (S = 0) = True ∧ (m == 2) = neg)))
  (hSQ : S < Q) (h1 : IntKind.i64.wrap (X1 - X2) = D) (h2 : IntKind.i64.wrap (X1 - 3) = E) :
  Calls Tryz.prog 159 #[.int .u8 m, .agg (pt c1 m1 X1 r1), .agg (pt c2 m2 X2 r2)] w fun r w' => r = .returned (.agg (rg neg S E false)) ∧ Below w.heap.size w w' := by
 have hat := yB 6
 have hz := yT
 have hff := yQ
 have hs0 := qZ
 have hcs : ∀ x, ((cw 6 x).size = 6) = True := fun x => eq_true (z8 6 x)
 have hp1 := rgf
 have hp3 := rgz
 have hp4 := st_r0
 have hp5 : ∀ (c : Bool) (s : Nat) (x : Int) (r : Bool), ((rg c s x r).size = 9) = True := fun _ _ _ _ => eq_true rfl
 have Fq := ptf
 have Fr : ∀ (c s : Nat) (x : Int) (r : Nat), ((pt c s x r).size = 14) = True := fun _ _ _ _ => eq_true rfl
 have hbl := bld_r2
 have hbn := rg_ne
 have hb8 := rg_lt8
 have heq := eq6
 have hg6 := eqg6
 have hQ0 := Q_pos
 obtain ⟨Au, Av, Aw, B0⟩ := opn3 w (Obj.cells (pt c1 m1 X1 r1) 73) (Obj.cells (pt c2 m2 X2 r2) 73) (Obj.cells (rg false 0 0 false) 114)
 go_enter Tryz.func159, Tryz.ntmps159
 obtain ⟨BK, BL, BM, BN, BO, BP, BQ, BR, BS, BT, BU, BV, BW, BX⟩ := zF Au
 obtain ⟨BY, BZ, B9, Ca, Cb, Cc, Cd, Ce, Cf, Cg, Ch, Ci, Cj, Ck⟩ := zF Av
 obtain ⟨Cl, Cm, Cn, Co, Cp, Cq, Cr, Cs, Ct⟩ := zQ Aw
 have sS : zO (∀ W W1 : World, (Below w.heap.size w W ∧ W.heap[w.heap.size]? = some (.cells (pt c1 m1 X1 r1) 73) ∧ W.heap[w.heap.size + 1]? = some (.cells (pt c2 m2 X2 r2) 73) ∧ W.heap[w.heap.size + 1 + 1]? = some (.cells (rg false 0 0 false) 114)) → Below W.heap.size W W1 → (Below w.heap.size w W1 ∧ W1.heap[w.heap.size]? = some (.cells (pt c1 m1 X1 r1) 73) ∧ W1.heap[w.heap.size + 1]? = some (.cells (pt c2 m2 X2 r2) 73) ∧ W1.heap[w.heap.size + 1 + 1]? = some (.cells (rg false 0 0 false) 114))) := zJ (fun W W1 h b => ⟨zU h.1 b, zA b _ _ _ h.2.1, zA b _ _ _ h.2.2.1, zA b _ _ _ h.2.2.2⟩)
 have sC : zO (∀ W : World, (Below w.heap.size w W ∧ W.heap[w.heap.size]? = some (.cells (pt c1 m1 X1 r1) 73) ∧ W.heap[w.heap.size + 1]? = some (.cells (pt c2 m2 X2 r2) 73) ∧ W.heap[w.heap.size + 1 + 1]? = some (.cells (rg false 0 0 false) 114)) → (Below w.heap.size w W ∧ W.heap[w.heap.size]? = some (.cells (pt c1 m1 X1 r1) 73) ∧ W.heap[w.heap.size + 1]? = some (.cells (pt c2 m2 X2 r2) 73) ∧ W.heap[w.heap.size + 1 + 1]? = some (.cells (rg false 0 0 false) 114) ∧ W.cell? ⟨w.heap.size, 0, none⟩ = some (.int .u8 c1) ∧ W.cell? ⟨w.heap.size, 1, none⟩ = some (.int .u64 (wd m1 0)) ∧ W.cell? ⟨w.heap.size, 2, none⟩ = some (.int .u64 (wd m1 1)) ∧ W.cell? ⟨w.heap.size, 3, none⟩ = some (.int .u64 (wd m1 2)) ∧ W.cell? ⟨w.heap.size, 4, none⟩ = some (.int .u64 (wd m1 3)) ∧ W.cell? ⟨w.heap.size, 5, none⟩ = some (.int .u64 (wd m1 4)) ∧ W.cell? ⟨w.heap.size, 6, none⟩ = some (.int .u64 (wd m1 5)) ∧ W.cell? ⟨w.heap.size, 7, none⟩ = some (.int .i64 X1) ∧ W.cell? ⟨w.heap.size, 8, none⟩ = some (.int .u64 (wd r1 0)) ∧ W.cell? ⟨w.heap.size, 9, none⟩ = some (.int .u64 (wd r1 1)) ∧ W.cell? ⟨w.heap.size, 10, none⟩ = some (.int .u64 (wd r1 2)) ∧ W.cell? ⟨w.heap.size, 11, none⟩ = some (.int .u64 (wd r1 3)) ∧ W.cell? ⟨w.heap.size, 12, none⟩ = some (.int .u64 (wd r1 4)) ∧ W.cell? ⟨w.heap.size, 13, none⟩ = some (.int .u64 (wd r1 5)) ∧ W.cell? ⟨w.heap.size + 1, 0, none⟩ = some (.int .u8 c2) ∧ W.cell? ⟨w.heap.size + 1, 1, none⟩ = some (.int .u64 (wd m2 0)) ∧ W.cell? ⟨w.heap.size + 1, 2, none⟩ = some (.int .u64 (wd m2 1)) ∧ W.cell? ⟨w.heap.size + 1, 3, none⟩ = some (.int .u64 (wd m2 2)) ∧ W.cell? ⟨w.heap.size + 1, 4, none⟩ = some (.int .u64 (wd m2 3)) ∧ W.cell? ⟨w.heap.size + 1, 5, none⟩ = some (.int .u64 (wd m2 4)) ∧ W.cell? ⟨w.heap.size + 1, 6, none⟩ = some (.int .u64 (wd m2 5)) ∧ W.cell? ⟨w.heap.size + 1, 7, none⟩ = some (.int .i64 X2) ∧ W.cell? ⟨w.heap.size + 1, 8, none⟩ = some (.int .u64 (wd r2 0)) ∧ W.cell? ⟨w.heap.size + 1, 9, none⟩ = some (.int .u64 (wd r2 1)) ∧ W.cell? ⟨w.heap.size + 1, 10, none⟩ = some (.int .u64 (wd r2 2)) ∧ W.cell? ⟨w.heap.size + 1, 11, none⟩ = some (.int .u64 (wd r2 3)) ∧ W.cell? ⟨w.heap.size + 1, 12, none⟩ = some (.int .u64 (wd r2 4)) ∧ W.cell? ⟨w.heap.size + 1, 13, none⟩ = some (.int .u64 (wd r2 5)) ∧ W.cell? ⟨w.heap.size + 1 + 1, 0, none⟩ = some (.bool false) ∧ W.cell? ⟨w.heap.size + 1 + 1, 1, none⟩ = some (.int .u64 (wd 0 0)) ∧ W.cell? ⟨w.heap.size + 1 + 1, 2, none⟩ = some (.int .u64 (wd 0 1)) ∧ W.cell? ⟨w.heap.size + 1 + 1, 3, none⟩ = some (.int .u64 (wd 0 2)) ∧ W.cell? ⟨w.heap.size + 1 + 1, 4, none⟩ = some (.int .u64 (wd 0 3)) ∧ W.cell? ⟨w.heap.size + 1 + 1, 5, none⟩ = some (.int .u64 (wd 0 4)) ∧ W.cell? ⟨w.heap.size + 1 + 1, 6, none⟩ = some (.int .u64 (wd 0 5)) ∧ W.cell? ⟨w.heap.size + 1 + 1, 7, none⟩ = some (.int .i64 0) ∧ W.cell? ⟨w.heap.size + 1 + 1, 8, none⟩ = some (.bool false))) := zJ (fun W h => ⟨h.1, h.2.1, h.2.2.1, h.2.2.2, zI (h.2.1) 0 _ rfl, zI (h.2.1) 1 _ rfl, zI (h.2.1) 2 _ rfl, zI (h.2.1) 3 _ rfl, zI (h.2.1) 4 _ rfl, zI (h.2.1) 5 _ rfl, zI (h.2.1) 6 _ rfl, zI (h.2.1) 7 _ rfl, zI (h.2.1) 8 _ rfl, zI (h.2.1) 9 _ rfl, zI (h.2.1) 10 _ rfl, zI (h.2.1) 11 _ rfl, zI (h.2.1) 12 _ rfl, zI (h.2.1) 13 _ rfl, zI (h.2.2.1) 0 _ rfl, zI (h.2.2.1) 1 _ rfl, zI (h.2.2.1) 2 _ rfl, zI (h.2.2.1) 3 _ rfl, zI (h.2.2.1) 4 _ rfl, zI (h.2.2.1) 5 _ rfl, zI (h.2.2.1) 6 _ rfl, zI (h.2.2.1) 7 _ rfl, zI (h.2.2.1) 8 _ rfl, zI (h.2.2.1) 9 _ rfl, zI (h.2.2.1) 10 _ rfl, zI (h.2.2.1) 11 _ rfl, zI (h.2.2.1) 12 _ rfl, zI (h.2.2.1) 13 _ rfl, zI (h.2.2.2) 0 _ rfl, zI (h.2.2.2) 1 _ rfl, zI (h.2.2.2) 2 _ rfl, zI (h.2.2.2) 3 _ rfl, zI (h.2.2.2) 4 _ rfl, zI (h.2.2.2) 5 _ rfl, zI (h.2.2.2) 6 _ rfl, zI (h.2.2.2) 7 _ rfl, zI (h.2.2.2) 8 _ rfl⟩)
 have s0 : Below w.heap.size w ((((w.alloc (Obj.cells (pt c1 m1 X1 r1) 73)).alloc (Obj.cells (pt c2 m2 X2 r2) 73)).alloc (Obj.cells (rg false 0 0 false) 114))).drew ∧ ((((w.alloc (Obj.cells (pt c1 m1 X1 r1) 73)).alloc (Obj.cells (pt c2 m2 X2 r2) 73)).alloc (Obj.cells (rg false 0 0 false) 114))).drew.heap[w.heap.size]? = some (.cells (pt c1 m1 X1 r1) 73) ∧ ((((w.alloc (Obj.cells (pt c1 m1 X1 r1) 73)).alloc (Obj.cells (pt c2 m2 X2 r2) 73)).alloc (Obj.cells (rg false 0 0 false) 114))).drew.heap[w.heap.size + 1]? = some (.cells (pt c2 m2 X2 r2) 73) ∧ ((((w.alloc (Obj.cells (pt c1 m1 X1 r1) 73)).alloc (Obj.cells (pt c2 m2 X2 r2) 73)).alloc (Obj.cells (rg false 0 0 false) 114))).drew.heap[w.heap.size + 1 + 1]? = some (.cells (rg false 0 0 false) 114) := ⟨B0.drew, Au, Av, Aw⟩
 go_wp2_with fail
 go_region_held3 (fun W => Below w.heap.size w W ∧ W.heap[w.heap.size]? = some (.cells (pt c1 m1 X1 r1) 73) ∧ W.heap[w.heap.size + 1]? = some (.cells (pt c2 m2 X2 r2) 73) ∧ W.heap[w.heap.size + 1 + 1]? = some (.cells (rg false 0 0 false) 114) ∧ W.cell? ⟨w.heap.size, 0, none⟩ = some (.int .u8 c1) ∧ W.cell? ⟨w.heap.size, 1, none⟩ = some (.int .u64 (wd m1 0)) ∧ W.cell? ⟨w.heap.size, 2, none⟩ = some (.int .u64 (wd m1 1)) ∧ W.cell? ⟨w.heap.size, 3, none⟩ = some (.int .u64 (wd m1 2)) ∧ W.cell? ⟨w.heap.size, 4, none⟩ = some (.int .u64 (wd m1 3)) ∧ W.cell? ⟨w.heap.size, 5, none⟩ = some (.int .u64 (wd m1 4)) ∧ W.cell? ⟨w.heap.size, 6, none⟩ = some (.int .u64 (wd m1 5)) ∧ W.cell? ⟨w.heap.size, 7, none⟩ = some (.int .i64 X1) ∧ W.cell? ⟨w.heap.size, 8, none⟩ = some (.int .u64 (wd r1 0)) ∧ W.cell? ⟨w.heap.size, 9, none⟩ = some (.int .u64 (wd r1 1)) ∧ W.cell? ⟨w.heap.size, 10, none⟩ = some (.int .u64 (wd r1 2)) ∧ W.cell? ⟨w.heap.size, 11, none⟩ = some (.int .u64 (wd r1 3)) ∧ W.cell? ⟨w.heap.size, 12, none⟩ = some (.int .u64 (wd r1 4)) ∧ W.cell? ⟨w.heap.size, 13, none⟩ = some (.int .u64 (wd r1 5)) ∧ W.cell? ⟨w.heap.size + 1, 0, none⟩ = some (.int .u8 c2) ∧ W.cell? ⟨w.heap.size + 1, 1, none⟩ = some (.int .u64 (wd m2 0)) ∧ W.cell? ⟨w.heap.size + 1, 2, none⟩ = some (.int .u64 (wd m2 1)) ∧ W.cell? ⟨w.heap.size + 1, 3, none⟩ = some (.int .u64 (wd m2 2)) ∧ W.cell? ⟨w.heap.size + 1, 4, none⟩ = some (.int .u64 (wd m2 3)) ∧ W.cell? ⟨w.heap.size + 1, 5, none⟩ = some (.int .u64 (wd m2 4)) ∧ W.cell? ⟨w.heap.size + 1, 6, none⟩ = some (.int .u64 (wd m2 5)) ∧ W.cell? ⟨w.heap.size + 1, 7, none⟩ = some (.int .i64 X2) ∧ W.cell? ⟨w.heap.size + 1, 8, none⟩ = some (.int .u64 (wd r2 0)) ∧ W.cell? ⟨w.heap.size + 1, 9, none⟩ = some (.int .u64 (wd r2 1)) ∧ W.cell? ⟨w.heap.size + 1, 10, none⟩ = some (.int .u64 (wd r2 2)) ∧ W.cell? ⟨w.heap.size + 1, 11, none⟩ = some (.int .u64 (wd r2 3)) ∧ W.cell? ⟨w.heap.size + 1, 12, none⟩ = some (.int .u64 (wd r2 4)) ∧ W.cell? ⟨w.heap.size + 1, 13, none⟩ = some (.int .u64 (wd r2 5)) ∧ W.cell? ⟨w.heap.size + 1 + 1, 0, none⟩ = some (.bool false) ∧ W.cell? ⟨w.heap.size + 1 + 1, 1, none⟩ = some (.int .u64 (wd 0 0)) ∧ W.cell? ⟨w.heap.size + 1 + 1, 2, none⟩ = some (.int .u64 (wd 0 1)) ∧ W.cell? ⟨w.heap.size + 1 + 1, 3, none⟩ = some (.int .u64 (wd 0 2)) ∧ W.cell? ⟨w.heap.size + 1 + 1, 4, none⟩ = some (.int .u64 (wd 0 3)) ∧ W.cell? ⟨w.heap.size + 1 + 1, 5, none⟩ = some (.int .u64 (wd 0 4)) ∧ W.cell? ⟨w.heap.size + 1 + 1, 6, none⟩ = some (.int .u64 (wd 0 5)) ∧ W.cell? ⟨w.heap.size + 1 + 1, 7, none⟩ = some (.int .i64 0) ∧ W.cell? ⟨w.heap.size + 1 + 1, 8, none⟩ = some (.bool false)) (first | exact sC.out _ s1 | exact sC.out _ s0)
  (((first | (go_at_call_of 244 (Value.agg (pt c1 m1 X1 r1)); (first | refine (KB1.out _).mono ?_ | refine (KB1.out _).mono ?_)) | (go_at_call_of 244 (Value.agg (pt c2 m2 X2 r2)); (first | refine (KB2.out _).mono ?_ | refine (KB2.out _).mono ?_)) | fail); rintro r wq ⟨rfl, bq⟩; have s1 := (by first | exact sS.out _ _ s1 bq | exact sS.out _ _ s0 bq); clear bq))
 have B1 := (And.left s1)
 have Ax := s1.2.1
 have Ay := s1.2.2.1
 have Az := s1.2.2.2
 clear s0 s1 sS sC B0 Au BK BL BM BN BO BP BQ BR BS BT BU BV BW BX Av BY BZ B9 Ca Cb Cc Cd Ce Cf Cg Ch Ci Cj Ck Aw Cl Cm Cn Co Cp Cq Cr Cs Ct
 obtain ⟨Cu, Cv, Cw, Cx, Cy, Cz, CA, CB, CC, CD, CE, CF, CG, CH⟩ := zF Ax
 obtain ⟨CI, CJ, CK, CL, CM, CN, CO, CP, CQ, CR, CS, CT, CU, CV⟩ := zF Ay
 obtain ⟨CW, CX, CY, CZ, C0, C1, C2, C3, C4⟩ := zQ Az
 go_wp2_with fail
 refine (KR1.out _).mono ?_
 rintro r w2 ⟨rfl, b2⟩
 have B2 := zU B1 b2
 obtain ⟨Ar, As, At⟩ := yA b2 Ax Ay Az
 clear b2 B1 Ax Cu Cv Cw Cx Cy Cz CA CB CC CD CE CF CG CH Ay CI CJ CK CL CM CN CO CP CQ CR CS CT CU CV Az CW CX CY CZ C0 C1 C2 C3 C4
 obtain ⟨C5, C6, C7, C8, C9, Da, Db, Dc, Dd, De, Df, Dg, Dh, Di⟩ := zF Ar
 obtain ⟨Dj, Dk, Dl, Dm, Dn, Do, Dp, Dq, Dr, Ds, Dt, Du, Dv, Dw⟩ := zF As
 obtain ⟨Dx, Dy, Dz, DA, DB, DC, DD, DE, DF⟩ := zQ At
 have S3 := zJ B2.size
 have Aa := yE Ar
 have Ab := yE As
 have Ac := yE At
 have AA := heap_alloc_last w2 (Obj.cells (cw 6 g) 71)
 have B3 := zU B2 (yO w2 (Obj.cells (cw 6 g) 71))
 obtain ⟨AB, AC, AD⟩ := yA (yO w2 (Obj.cells (cw 6 g) 71)) Ar As At
 clear B2 Ar C5 C6 C7 C8 C9 Da Db Dc Dd De Df Dg Dh Di As Dj Dk Dl Dm Dn Do Dp Dq Dr Ds Dt Du Dv Dw At Dx Dy Dz DA DB DC DD DE DF
 obtain ⟨DG, DH, DI, DJ, DK, DL, DM, DN, DO, DP, DQ, DR, DS, DT⟩ := zF AB
 obtain ⟨DU, DV, DW, DX, DY, DZ, D0, D1, D2, D3, D4, D5, D6, D7⟩ := zF AC
 obtain ⟨D8, D9, Ea, Eb, Ec, Ed, Ee, Ef, Eg⟩ := zQ AD
 have Eh := zE AA
 have sS : zO (∀ W W1 : World, (Below w.heap.size w W ∧ W.heap[w.heap.size]? = some (.cells (pt c1 m1 X1 r1) 73) ∧ W.heap[w.heap.size + 1]? = some (.cells (pt c2 m2 X2 r2) 73) ∧ W.heap[w.heap.size + 1 + 1]? = some (.cells (rg false 0 0 false) 114) ∧ W.heap[w2.heap.size]? = some (.cells (cw 6 g) 71)) → Below W.heap.size W W1 → (Below w.heap.size w W1 ∧ W1.heap[w.heap.size]? = some (.cells (pt c1 m1 X1 r1) 73) ∧ W1.heap[w.heap.size + 1]? = some (.cells (pt c2 m2 X2 r2) 73) ∧ W1.heap[w.heap.size + 1 + 1]? = some (.cells (rg false 0 0 false) 114) ∧ W1.heap[w2.heap.size]? = some (.cells (cw 6 g) 71))) := zJ (fun W W1 h b => ⟨zU h.1 b, zA b _ _ _ h.2.1, zA b _ _ _ h.2.2.1, zA b _ _ _ h.2.2.2.1, zA b _ _ _ h.2.2.2.2⟩)
 have sL : zO (∀ W : World, (Below w.heap.size w W ∧ W.heap[w.heap.size]? = some (.cells (pt c1 m1 X1 r1) 73) ∧ W.heap[w.heap.size + 1]? = some (.cells (pt c2 m2 X2 r2) 73) ∧ W.heap[w.heap.size + 1 + 1]? = some (.cells (rg false 0 0 false) 114) ∧ W.heap[w2.heap.size]? = some (.cells (cw 6 g) 71)) → (w.heap.size < W.heap.size ∧ w.heap.size + 1 < W.heap.size ∧ w.heap.size + 1 + 1 < W.heap.size ∧ w2.heap.size < W.heap.size)) := zJ (fun W h => ⟨(Array.getElem?_eq_some_iff.1 h.2.1).1, (Array.getElem?_eq_some_iff.1 h.2.2.1).1, (Array.getElem?_eq_some_iff.1 h.2.2.2.1).1, (Array.getElem?_eq_some_iff.1 h.2.2.2.2).1⟩)
 have sT : zO (∀ (W : World) (gN : Nat) (xA : Array Value), (Below w.heap.size w W ∧ W.heap[w.heap.size]? = some (.cells (pt c1 m1 X1 r1) 73) ∧ W.heap[w.heap.size + 1]? = some (.cells (pt c2 m2 X2 r2) 73) ∧ W.heap[w.heap.size + 1 + 1]? = some (.cells (rg false 0 0 false) 114) ∧ W.heap[w2.heap.size]? = some (.cells (cw 6 g) 71)) → (w.heap.size < gN ∧ w.heap.size + 1 < gN ∧ w.heap.size + 1 + 1 < gN ∧ w2.heap.size < gN) → (Below w.heap.size w (W.setRow gN xA) ∧ (W.setRow gN xA).heap[w.heap.size]? = some (.cells (pt c1 m1 X1 r1) 73) ∧ (W.setRow gN xA).heap[w.heap.size + 1]? = some (.cells (pt c2 m2 X2 r2) 73) ∧ (W.setRow gN xA).heap[w.heap.size + 1 + 1]? = some (.cells (rg false 0 0 false) 114) ∧ (W.setRow gN xA).heap[w2.heap.size]? = some (.cells (cw 6 g) 71))) := zJ (fun W gN xA h l => ⟨z7 h.1 (show w.heap.size ≤ gN by have := l.1; omega), (zK (by have := l.1; omega)).trans h.2.1, (zK (by have := l.2.1; omega)).trans h.2.2.1, (zK (by have := l.2.2.1; omega)).trans h.2.2.2.1, (zK (by have := l.2.2.2; omega)).trans h.2.2.2.2⟩)
 have sC : zO (∀ W : World, (Below w.heap.size w W ∧ W.heap[w.heap.size]? = some (.cells (pt c1 m1 X1 r1) 73) ∧ W.heap[w.heap.size + 1]? = some (.cells (pt c2 m2 X2 r2) 73) ∧ W.heap[w.heap.size + 1 + 1]? = some (.cells (rg false 0 0 false) 114) ∧ W.heap[w2.heap.size]? = some (.cells (cw 6 g) 71)) → (Below w.heap.size w W ∧ W.heap[w.heap.size]? = some (.cells (pt c1 m1 X1 r1) 73) ∧ W.heap[w.heap.size + 1]? = some (.cells (pt c2 m2 X2 r2) 73) ∧ W.heap[w.heap.size + 1 + 1]? = some (.cells (rg false 0 0 false) 114) ∧ W.heap[w2.heap.size]? = some (.cells (cw 6 g) 71) ∧ W.cell? ⟨w.heap.size, 0, none⟩ = some (.int .u8 c1) ∧ W.cell? ⟨w.heap.size, 1, none⟩ = some (.int .u64 (wd m1 0)) ∧ W.cell? ⟨w.heap.size, 2, none⟩ = some (.int .u64 (wd m1 1)) ∧ W.cell? ⟨w.heap.size, 3, none⟩ = some (.int .u64 (wd m1 2)) ∧ W.cell? ⟨w.heap.size, 4, none⟩ = some (.int .u64 (wd m1 3)) ∧ W.cell? ⟨w.heap.size, 5, none⟩ = some (.int .u64 (wd m1 4)) ∧ W.cell? ⟨w.heap.size, 6, none⟩ = some (.int .u64 (wd m1 5)) ∧ W.cell? ⟨w.heap.size, 7, none⟩ = some (.int .i64 X1) ∧ W.cell? ⟨w.heap.size, 8, none⟩ = some (.int .u64 (wd r1 0)) ∧ W.cell? ⟨w.heap.size, 9, none⟩ = some (.int .u64 (wd r1 1)) ∧ W.cell? ⟨w.heap.size, 10, none⟩ = some (.int .u64 (wd r1 2)) ∧ W.cell? ⟨w.heap.size, 11, none⟩ = some (.int .u64 (wd r1 3)) ∧ W.cell? ⟨w.heap.size, 12, none⟩ = some (.int .u64 (wd r1 4)) ∧ W.cell? ⟨w.heap.size, 13, none⟩ = some (.int .u64 (wd r1 5)) ∧ W.cell? ⟨w.heap.size + 1, 0, none⟩ = some (.int .u8 c2) ∧ W.cell? ⟨w.heap.size + 1, 1, none⟩ = some (.int .u64 (wd m2 0)) ∧ W.cell? ⟨w.heap.size + 1, 2, none⟩ = some (.int .u64 (wd m2 1)) ∧ W.cell? ⟨w.heap.size + 1, 3, none⟩ = some (.int .u64 (wd m2 2)) ∧ W.cell? ⟨w.heap.size + 1, 4, none⟩ = some (.int .u64 (wd m2 3)) ∧ W.cell? ⟨w.heap.size + 1, 5, none⟩ = some (.int .u64 (wd m2 4)) ∧ W.cell? ⟨w.heap.size + 1, 6, none⟩ = some (.int .u64 (wd m2 5)) ∧ W.cell? ⟨w.heap.size + 1, 7, none⟩ = some (.int .i64 X2) ∧ W.cell? ⟨w.heap.size + 1, 8, none⟩ = some (.int .u64 (wd r2 0)) ∧ W.cell? ⟨w.heap.size + 1, 9, none⟩ = some (.int .u64 (wd r2 1)) ∧ W.cell? ⟨w.heap.size + 1, 10, none⟩ = some (.int .u64 (wd r2 2)) ∧ W.cell? ⟨w.heap.size + 1, 11, none⟩ = some (.int .u64 (wd r2 3)) ∧ W.cell? ⟨w.heap.size + 1, 12, none⟩ = some (.int .u64 (wd r2 4)) ∧ W.cell? ⟨w.heap.size + 1, 13, none⟩ = some (.int .u64 (wd r2 5)) ∧ W.cell? ⟨w.heap.size + 1 + 1, 0, none⟩ = some (.bool false) ∧ W.cell? ⟨w.heap.size + 1 + 1, 1, none⟩ = some (.int .u64 (wd 0 0)) ∧ W.cell? ⟨w.heap.size + 1 + 1, 2, none⟩ = some (.int .u64 (wd 0 1)) ∧ W.cell? ⟨w.heap.size + 1 + 1, 3, none⟩ = some (.int .u64 (wd 0 2)) ∧ W.cell? ⟨w.heap.size + 1 + 1, 4, none⟩ = some (.int .u64 (wd 0 3)) ∧ W.cell? ⟨w.heap.size + 1 + 1, 5, none⟩ = some (.int .u64 (wd 0 4)) ∧ W.cell? ⟨w.heap.size + 1 + 1, 6, none⟩ = some (.int .u64 (wd 0 5)) ∧ W.cell? ⟨w.heap.size + 1 + 1, 7, none⟩ = some (.int .i64 0) ∧ W.cell? ⟨w.heap.size + 1 + 1, 8, none⟩ = some (.bool false) ∧ W.cell? ⟨w2.heap.size, 0, none⟩ = some (.int .u64 (wd g 0)) ∧ W.cell? ⟨w2.heap.size, 1, none⟩ = some (.int .u64 (wd g 1)) ∧ W.cell? ⟨w2.heap.size, 2, none⟩ = some (.int .u64 (wd g 2)) ∧ W.cell? ⟨w2.heap.size, 3, none⟩ = some (.int .u64 (wd g 3)) ∧ W.cell? ⟨w2.heap.size, 4, none⟩ = some (.int .u64 (wd g 4)) ∧ W.cell? ⟨w2.heap.size, 5, none⟩ = some (.int .u64 (wd g 5)))) := zJ (fun W h => ⟨h.1, h.2.1, h.2.2.1, h.2.2.2.1, h.2.2.2.2, zI (h.2.1) 0 _ rfl, zI (h.2.1) 1 _ rfl, zI (h.2.1) 2 _ rfl, zI (h.2.1) 3 _ rfl, zI (h.2.1) 4 _ rfl, zI (h.2.1) 5 _ rfl, zI (h.2.1) 6 _ rfl, zI (h.2.1) 7 _ rfl, zI (h.2.1) 8 _ rfl, zI (h.2.1) 9 _ rfl, zI (h.2.1) 10 _ rfl, zI (h.2.1) 11 _ rfl, zI (h.2.1) 12 _ rfl, zI (h.2.1) 13 _ rfl, zI (h.2.2.1) 0 _ rfl, zI (h.2.2.1) 1 _ rfl, zI (h.2.2.1) 2 _ rfl, zI (h.2.2.1) 3 _ rfl, zI (h.2.2.1) 4 _ rfl, zI (h.2.2.1) 5 _ rfl, zI (h.2.2.1) 6 _ rfl, zI (h.2.2.1) 7 _ rfl, zI (h.2.2.1) 8 _ rfl, zI (h.2.2.1) 9 _ rfl, zI (h.2.2.1) 10 _ rfl, zI (h.2.2.1) 11 _ rfl, zI (h.2.2.1) 12 _ rfl, zI (h.2.2.1) 13 _ rfl, zI (h.2.2.2.1) 0 _ rfl, zI (h.2.2.2.1) 1 _ rfl, zI (h.2.2.2.1) 2 _ rfl, zI (h.2.2.2.1) 3 _ rfl, zI (h.2.2.2.1) 4 _ rfl, zI (h.2.2.2.1) 5 _ rfl, zI (h.2.2.2.1) 6 _ rfl, zI (h.2.2.2.1) 7 _ rfl, zI (h.2.2.2.1) 8 _ rfl, zE (h.2.2.2.2) 0 (by decide), zE (h.2.2.2.2) 1 (by decide), zE (h.2.2.2.2) 2 (by decide), zE (h.2.2.2.2) 3 (by decide), zE (h.2.2.2.2) 4 (by decide), zE (h.2.2.2.2) 5 (by decide)⟩)
 have s0 : Below w.heap.size w ((w2.alloc (Obj.cells (cw 6 g) 71))).drew ∧ ((w2.alloc (Obj.cells (cw 6 g) 71))).drew.heap[w.heap.size]? = some (.cells (pt c1 m1 X1 r1) 73) ∧ ((w2.alloc (Obj.cells (cw 6 g) 71))).drew.heap[w.heap.size + 1]? = some (.cells (pt c2 m2 X2 r2) 73) ∧ ((w2.alloc (Obj.cells (cw 6 g) 71))).drew.heap[w.heap.size + 1 + 1]? = some (.cells (rg false 0 0 false) 114) ∧ ((w2.alloc (Obj.cells (cw 6 g) 71))).drew.heap[w2.heap.size]? = some (.cells (cw 6 g) 71) := ⟨B3.drew, AB, AC, AD, AA⟩
 clear B3 AB DG DH DI DJ DK DL DM DN DO DP DQ DR DS DT AC DU DV DW DX DY DZ D0 D1 D2 D3 D4 D5 D6 D7 AD D8 D9 Ea Eb Ec Ed Ee Ef Eg AA Eh
 go_wp2_with fail
 apply cut7
 ·
  intro key0
  have key := zJ key0
  clear key0
  go_region_held3 (fun W => Below w.heap.size w W ∧ W.heap[w.heap.size]? = some (.cells (pt c1 m1 X1 r1) 73) ∧ W.heap[w.heap.size + 1]? = some (.cells (pt c2 m2 X2 r2) 73) ∧ W.heap[w.heap.size + 1 + 1]? = some (.cells (rg false 0 0 false) 114) ∧ W.heap[w2.heap.size]? = some (.cells (cw 6 g) 71) ∧ W.cell? ⟨w.heap.size, 0, none⟩ = some (.int .u8 c1) ∧ W.cell? ⟨w.heap.size, 1, none⟩ = some (.int .u64 (wd m1 0)) ∧ W.cell? ⟨w.heap.size, 2, none⟩ = some (.int .u64 (wd m1 1)) ∧ W.cell? ⟨w.heap.size, 3, none⟩ = some (.int .u64 (wd m1 2)) ∧ W.cell? ⟨w.heap.size, 4, none⟩ = some (.int .u64 (wd m1 3)) ∧ W.cell? ⟨w.heap.size, 5, none⟩ = some (.int .u64 (wd m1 4)) ∧ W.cell? ⟨w.heap.size, 6, none⟩ = some (.int .u64 (wd m1 5)) ∧ W.cell? ⟨w.heap.size, 7, none⟩ = some (.int .i64 X1) ∧ W.cell? ⟨w.heap.size, 8, none⟩ = some (.int .u64 (wd r1 0)) ∧ W.cell? ⟨w.heap.size, 9, none⟩ = some (.int .u64 (wd r1 1)) ∧ W.cell? ⟨w.heap.size, 10, none⟩ = some (.int .u64 (wd r1 2)) ∧ W.cell? ⟨w.heap.size, 11, none⟩ = some (.int .u64 (wd r1 3)) ∧ W.cell? ⟨w.heap.size, 12, none⟩ = some (.int .u64 (wd r1 4)) ∧ W.cell? ⟨w.heap.size, 13, none⟩ = some (.int .u64 (wd r1 5)) ∧ W.cell? ⟨w.heap.size + 1, 0, none⟩ = some (.int .u8 c2) ∧ W.cell? ⟨w.heap.size + 1, 1, none⟩ = some (.int .u64 (wd m2 0)) ∧ W.cell? ⟨w.heap.size + 1, 2, none⟩ = some (.int .u64 (wd m2 1)) ∧ W.cell? ⟨w.heap.size + 1, 3, none⟩ = some (.int .u64 (wd m2 2)) ∧ W.cell? ⟨w.heap.size + 1, 4, none⟩ = some (.int .u64 (wd m2 3)) ∧ W.cell? ⟨w.heap.size + 1, 5, none⟩ = some (.int .u64 (wd m2 4)) ∧ W.cell? ⟨w.heap.size + 1, 6, none⟩ = some (.int .u64 (wd m2 5)) ∧ W.cell? ⟨w.heap.size + 1, 7, none⟩ = some (.int .i64 X2) ∧ W.cell? ⟨w.heap.size + 1, 8, none⟩ = some (.int .u64 (wd r2 0)) ∧ W.cell? ⟨w.heap.size + 1, 9, none⟩ = some (.int .u64 (wd r2 1)) ∧ W.cell? ⟨w.heap.size + 1, 10, none⟩ = some (.int .u64 (wd r2 2)) ∧ W.cell? ⟨w.heap.size + 1, 11, none⟩ = some (.int .u64 (wd r2 3)) ∧ W.cell? ⟨w.heap.size + 1, 12, none⟩ = some (.int .u64 (wd r2 4)) ∧ W.cell? ⟨w.heap.size + 1, 13, none⟩ = some (.int .u64 (wd r2 5)) ∧ W.cell? ⟨w.heap.size + 1 + 1, 0, none⟩ = some (.bool false) ∧ W.cell? ⟨w.heap.size + 1 + 1, 1, none⟩ = some (.int .u64 (wd 0 0)) ∧ W.cell? ⟨w.heap.size + 1 + 1, 2, none⟩ = some (.int .u64 (wd 0 1)) ∧ W.cell? ⟨w.heap.size + 1 + 1, 3, none⟩ = some (.int .u64 (wd 0 2)) ∧ W.cell? ⟨w.heap.size + 1 + 1, 4, none⟩ = some (.int .u64 (wd 0 3)) ∧ W.cell? ⟨w.heap.size + 1 + 1, 5, none⟩ = some (.int .u64 (wd 0 4)) ∧ W.cell? ⟨w.heap.size + 1 + 1, 6, none⟩ = some (.int .u64 (wd 0 5)) ∧ W.cell? ⟨w.heap.size + 1 + 1, 7, none⟩ = some (.int .i64 0) ∧ W.cell? ⟨w.heap.size + 1 + 1, 8, none⟩ = some (.bool false) ∧ W.cell? ⟨w2.heap.size, 0, none⟩ = some (.int .u64 (wd g 0)) ∧ W.cell? ⟨w2.heap.size, 1, none⟩ = some (.int .u64 (wd g 1)) ∧ W.cell? ⟨w2.heap.size, 2, none⟩ = some (.int .u64 (wd g 2)) ∧ W.cell? ⟨w2.heap.size, 3, none⟩ = some (.int .u64 (wd g 3)) ∧ W.cell? ⟨w2.heap.size, 4, none⟩ = some (.int .u64 (wd g 4)) ∧ W.cell? ⟨w2.heap.size, 5, none⟩ = some (.int .u64 (wd g 5))) (first | exact sC.out _ s1 | exact sC.out _ s0 | exact sC.out _ (sS.out _ _ s1 (yO _ _)) | exact sC.out _ (sS.out _ _ s0 (yO _ _)) | exact sC.out _ (sT.out _ _ _ s1 hl))
   (((first | (go_at_call 245; (first | refine (KR2.out _).mono ?_ | refine (KR2.out _).mono ?_)) | (go_at_call 246; (first | refine (KJ.out _).mono ?_ | refine (KJ.out _).mono ?_)) | fail); rintro r wq ⟨rfl, bq⟩; (first | (have hg := zA bq _ _ _ (heap_alloc_last _ _); have hl := (by first | exact sL.out _ s1 | exact sL.out _ s0)) | have hg := zA bq _ _ _ hg | skip); (try simp only [xJ, zW] at hg hl); (first | have hst := y6 _ _ (L) 0 hg | skip); have s2 := (by first | exact sS.out _ _ s1 bq | exact sS.out _ _ s0 bq | exact sS.out _ _ (sS.out _ _ s1 (yO _ _)) bq | exact sS.out _ _ (sS.out _ _ s0 (yO _ _)) bq); (try clear s1); have s1 := s2; clear s2 bq))
  all_goals
   refine gen_add_total_9 (R := fun W gN => (Below w.heap.size w W ∧ W.heap[w.heap.size]? = some (.cells (pt c1 m1 X1 r1) 73) ∧ W.heap[w.heap.size + 1]? = some (.cells (pt c2 m2 X2 r2) 73) ∧ W.heap[w.heap.size + 1 + 1]? = some (.cells (rg false 0 0 false) 114) ∧ W.heap[w2.heap.size]? = some (.cells (cw 6 g) 71)) ∧ W.heap[gN]? = some (.cells (cw 6 L) 71) ∧ (w.heap.size < gN ∧ w.heap.size + 1 < gN ∧ w.heap.size + 1 + 1 < gN ∧ w2.heap.size < gN)) key.out ?_
   first
    | exact ⟨(sT.out _ _ _ s1 hl), zS hg, hl⟩
    | exact ⟨sS.out _ _ s1 (yO _ _), heap_alloc_last _ _, sL.out _ s1⟩
    | exact ⟨sS.out _ _ s0 (yO _ _), heap_alloc_last _ _, sL.out _ s0⟩
 rintro w4 g4 ⟨s1, AE, l4⟩
 have B4 := And.left s1
 have AF := s1.2.1
 have AG := s1.2.2.1
 have AH := s1.2.2.2.1
 have AI := s1.2.2.2.2
 have H4 := zJ l4
 clear s0 s1 sS sC sL sT l4
 obtain ⟨Ei, Ej, Ek, El, Em, En, Eo, Ep, Eq, Er, Es, Et, Eu, Ev⟩ := zF AF
 obtain ⟨Ew, Ex, Ey, Ez, EA, EB, EC, ED, EE, EF, EG, EH, EI, EJ⟩ := zF AG
 obtain ⟨EK, EL, EM, EN, EO, EP, EQ, ER, ES⟩ := zQ AH
 have ET := zE AI
 have EU := zE AE
 have sS : zO (∀ W W1 : World, (Below w.heap.size w W ∧ W.heap[w.heap.size]? = some (.cells (pt c1 m1 X1 r1) 73) ∧ W.heap[w.heap.size + 1]? = some (.cells (pt c2 m2 X2 r2) 73) ∧ W.heap[w.heap.size + 1 + 1]? = some (.cells (rg false 0 0 false) 114) ∧ W.heap[w2.heap.size]? = some (.cells (cw 6 g) 71) ∧ W.heap[g4]? = some (.cells (cw 6 L) 71)) → Below W.heap.size W W1 → (Below w.heap.size w W1 ∧ W1.heap[w.heap.size]? = some (.cells (pt c1 m1 X1 r1) 73) ∧ W1.heap[w.heap.size + 1]? = some (.cells (pt c2 m2 X2 r2) 73) ∧ W1.heap[w.heap.size + 1 + 1]? = some (.cells (rg false 0 0 false) 114) ∧ W1.heap[w2.heap.size]? = some (.cells (cw 6 g) 71) ∧ W1.heap[g4]? = some (.cells (cw 6 L) 71))) := zJ (fun W W1 h b => ⟨zU h.1 b, zA b _ _ _ h.2.1, zA b _ _ _ h.2.2.1, zA b _ _ _ h.2.2.2.1, zA b _ _ _ h.2.2.2.2.1, zA b _ _ _ h.2.2.2.2.2⟩)
 have sL : zO (∀ W : World, (Below w.heap.size w W ∧ W.heap[w.heap.size]? = some (.cells (pt c1 m1 X1 r1) 73) ∧ W.heap[w.heap.size + 1]? = some (.cells (pt c2 m2 X2 r2) 73) ∧ W.heap[w.heap.size + 1 + 1]? = some (.cells (rg false 0 0 false) 114) ∧ W.heap[w2.heap.size]? = some (.cells (cw 6 g) 71) ∧ W.heap[g4]? = some (.cells (cw 6 L) 71)) → (w.heap.size < W.heap.size ∧ w.heap.size + 1 < W.heap.size ∧ w.heap.size + 1 + 1 < W.heap.size ∧ w2.heap.size < W.heap.size ∧ g4 < W.heap.size)) := zJ (fun W h => ⟨(Array.getElem?_eq_some_iff.1 h.2.1).1, (Array.getElem?_eq_some_iff.1 h.2.2.1).1, (Array.getElem?_eq_some_iff.1 h.2.2.2.1).1, (Array.getElem?_eq_some_iff.1 h.2.2.2.2.1).1, (Array.getElem?_eq_some_iff.1 h.2.2.2.2.2).1⟩)
 have sT : zO (∀ (W : World) (gN : Nat) (xA : Array Value), (Below w.heap.size w W ∧ W.heap[w.heap.size]? = some (.cells (pt c1 m1 X1 r1) 73) ∧ W.heap[w.heap.size + 1]? = some (.cells (pt c2 m2 X2 r2) 73) ∧ W.heap[w.heap.size + 1 + 1]? = some (.cells (rg false 0 0 false) 114) ∧ W.heap[w2.heap.size]? = some (.cells (cw 6 g) 71) ∧ W.heap[g4]? = some (.cells (cw 6 L) 71)) → (w.heap.size < gN ∧ w.heap.size + 1 < gN ∧ w.heap.size + 1 + 1 < gN ∧ w2.heap.size < gN ∧ g4 < gN) → (Below w.heap.size w (W.setRow gN xA) ∧ (W.setRow gN xA).heap[w.heap.size]? = some (.cells (pt c1 m1 X1 r1) 73) ∧ (W.setRow gN xA).heap[w.heap.size + 1]? = some (.cells (pt c2 m2 X2 r2) 73) ∧ (W.setRow gN xA).heap[w.heap.size + 1 + 1]? = some (.cells (rg false 0 0 false) 114) ∧ (W.setRow gN xA).heap[w2.heap.size]? = some (.cells (cw 6 g) 71) ∧ (W.setRow gN xA).heap[g4]? = some (.cells (cw 6 L) 71))) := zJ (fun W gN xA h l => ⟨z7 h.1 (show w.heap.size ≤ gN by have := l.1; omega), (zK (by have := l.1; omega)).trans h.2.1, (zK (by have := l.2.1; omega)).trans h.2.2.1, (zK (by have := l.2.2.1; omega)).trans h.2.2.2.1, (zK (by have := l.2.2.2.1; omega)).trans h.2.2.2.2.1, (zK (by have := l.2.2.2.2; omega)).trans h.2.2.2.2.2⟩)
 have sC : zO (∀ W : World, (Below w.heap.size w W ∧ W.heap[w.heap.size]? = some (.cells (pt c1 m1 X1 r1) 73) ∧ W.heap[w.heap.size + 1]? = some (.cells (pt c2 m2 X2 r2) 73) ∧ W.heap[w.heap.size + 1 + 1]? = some (.cells (rg false 0 0 false) 114) ∧ W.heap[w2.heap.size]? = some (.cells (cw 6 g) 71) ∧ W.heap[g4]? = some (.cells (cw 6 L) 71)) → (Below w.heap.size w W ∧ W.heap[w.heap.size]? = some (.cells (pt c1 m1 X1 r1) 73) ∧ W.heap[w.heap.size + 1]? = some (.cells (pt c2 m2 X2 r2) 73) ∧ W.heap[w.heap.size + 1 + 1]? = some (.cells (rg false 0 0 false) 114) ∧ W.heap[w2.heap.size]? = some (.cells (cw 6 g) 71) ∧ W.heap[g4]? = some (.cells (cw 6 L) 71) ∧ W.cell? ⟨w.heap.size, 0, none⟩ = some (.int .u8 c1) ∧ W.cell? ⟨w.heap.size, 1, none⟩ = some (.int .u64 (wd m1 0)) ∧ W.cell? ⟨w.heap.size, 2, none⟩ = some (.int .u64 (wd m1 1)) ∧ W.cell? ⟨w.heap.size, 3, none⟩ = some (.int .u64 (wd m1 2)) ∧ W.cell? ⟨w.heap.size, 4, none⟩ = some (.int .u64 (wd m1 3)) ∧ W.cell? ⟨w.heap.size, 5, none⟩ = some (.int .u64 (wd m1 4)) ∧ W.cell? ⟨w.heap.size, 6, none⟩ = some (.int .u64 (wd m1 5)) ∧ W.cell? ⟨w.heap.size, 7, none⟩ = some (.int .i64 X1) ∧ W.cell? ⟨w.heap.size, 8, none⟩ = some (.int .u64 (wd r1 0)) ∧ W.cell? ⟨w.heap.size, 9, none⟩ = some (.int .u64 (wd r1 1)) ∧ W.cell? ⟨w.heap.size, 10, none⟩ = some (.int .u64 (wd r1 2)) ∧ W.cell? ⟨w.heap.size, 11, none⟩ = some (.int .u64 (wd r1 3)) ∧ W.cell? ⟨w.heap.size, 12, none⟩ = some (.int .u64 (wd r1 4)) ∧ W.cell? ⟨w.heap.size, 13, none⟩ = some (.int .u64 (wd r1 5)) ∧ W.cell? ⟨w.heap.size + 1, 0, none⟩ = some (.int .u8 c2) ∧ W.cell? ⟨w.heap.size + 1, 1, none⟩ = some (.int .u64 (wd m2 0)) ∧ W.cell? ⟨w.heap.size + 1, 2, none⟩ = some (.int .u64 (wd m2 1)) ∧ W.cell? ⟨w.heap.size + 1, 3, none⟩ = some (.int .u64 (wd m2 2)) ∧ W.cell? ⟨w.heap.size + 1, 4, none⟩ = some (.int .u64 (wd m2 3)) ∧ W.cell? ⟨w.heap.size + 1, 5, none⟩ = some (.int .u64 (wd m2 4)) ∧ W.cell? ⟨w.heap.size + 1, 6, none⟩ = some (.int .u64 (wd m2 5)) ∧ W.cell? ⟨w.heap.size + 1, 7, none⟩ = some (.int .i64 X2) ∧ W.cell? ⟨w.heap.size + 1, 8, none⟩ = some (.int .u64 (wd r2 0)) ∧ W.cell? ⟨w.heap.size + 1, 9, none⟩ = some (.int .u64 (wd r2 1)) ∧ W.cell? ⟨w.heap.size + 1, 10, none⟩ = some (.int .u64 (wd r2 2)) ∧ W.cell? ⟨w.heap.size + 1, 11, none⟩ = some (.int .u64 (wd r2 3)) ∧ W.cell? ⟨w.heap.size + 1, 12, none⟩ = some (.int .u64 (wd r2 4)) ∧ W.cell? ⟨w.heap.size + 1, 13, none⟩ = some (.int .u64 (wd r2 5)) ∧ W.cell? ⟨w.heap.size + 1 + 1, 0, none⟩ = some (.bool false) ∧ W.cell? ⟨w.heap.size + 1 + 1, 1, none⟩ = some (.int .u64 (wd 0 0)) ∧ W.cell? ⟨w.heap.size + 1 + 1, 2, none⟩ = some (.int .u64 (wd 0 1)) ∧ W.cell? ⟨w.heap.size + 1 + 1, 3, none⟩ = some (.int .u64 (wd 0 2)) ∧ W.cell? ⟨w.heap.size + 1 + 1, 4, none⟩ = some (.int .u64 (wd 0 3)) ∧ W.cell? ⟨w.heap.size + 1 + 1, 5, none⟩ = some (.int .u64 (wd 0 4)) ∧ W.cell? ⟨w.heap.size + 1 + 1, 6, none⟩ = some (.int .u64 (wd 0 5)) ∧ W.cell? ⟨w.heap.size + 1 + 1, 7, none⟩ = some (.int .i64 0) ∧ W.cell? ⟨w.heap.size + 1 + 1, 8, none⟩ = some (.bool false) ∧ W.cell? ⟨w2.heap.size, 0, none⟩ = some (.int .u64 (wd g 0)) ∧ W.cell? ⟨w2.heap.size, 1, none⟩ = some (.int .u64 (wd g 1)) ∧ W.cell? ⟨w2.heap.size, 2, none⟩ = some (.int .u64 (wd g 2)) ∧ W.cell? ⟨w2.heap.size, 3, none⟩ = some (.int .u64 (wd g 3)) ∧ W.cell? ⟨w2.heap.size, 4, none⟩ = some (.int .u64 (wd g 4)) ∧ W.cell? ⟨w2.heap.size, 5, none⟩ = some (.int .u64 (wd g 5)) ∧ W.cell? ⟨g4, 0, none⟩ = some (.int .u64 (wd L 0)) ∧ W.cell? ⟨g4, 1, none⟩ = some (.int .u64 (wd L 1)) ∧ W.cell? ⟨g4, 2, none⟩ = some (.int .u64 (wd L 2)) ∧ W.cell? ⟨g4, 3, none⟩ = some (.int .u64 (wd L 3)) ∧ W.cell? ⟨g4, 4, none⟩ = some (.int .u64 (wd L 4)) ∧ W.cell? ⟨g4, 5, none⟩ = some (.int .u64 (wd L 5)))) := zJ (fun W h => ⟨h.1, h.2.1, h.2.2.1, h.2.2.2.1, h.2.2.2.2.1, h.2.2.2.2.2, zI (h.2.1) 0 _ rfl, zI (h.2.1) 1 _ rfl, zI (h.2.1) 2 _ rfl, zI (h.2.1) 3 _ rfl, zI (h.2.1) 4 _ rfl, zI (h.2.1) 5 _ rfl, zI (h.2.1) 6 _ rfl, zI (h.2.1) 7 _ rfl, zI (h.2.1) 8 _ rfl, zI (h.2.1) 9 _ rfl, zI (h.2.1) 10 _ rfl, zI (h.2.1) 11 _ rfl, zI (h.2.1) 12 _ rfl, zI (h.2.1) 13 _ rfl, zI (h.2.2.1) 0 _ rfl, zI (h.2.2.1) 1 _ rfl, zI (h.2.2.1) 2 _ rfl, zI (h.2.2.1) 3 _ rfl, zI (h.2.2.1) 4 _ rfl, zI (h.2.2.1) 5 _ rfl, zI (h.2.2.1) 6 _ rfl, zI (h.2.2.1) 7 _ rfl, zI (h.2.2.1) 8 _ rfl, zI (h.2.2.1) 9 _ rfl, zI (h.2.2.1) 10 _ rfl, zI (h.2.2.1) 11 _ rfl, zI (h.2.2.1) 12 _ rfl, zI (h.2.2.1) 13 _ rfl, zI (h.2.2.2.1) 0 _ rfl, zI (h.2.2.2.1) 1 _ rfl, zI (h.2.2.2.1) 2 _ rfl, zI (h.2.2.2.1) 3 _ rfl, zI (h.2.2.2.1) 4 _ rfl, zI (h.2.2.2.1) 5 _ rfl, zI (h.2.2.2.1) 6 _ rfl, zI (h.2.2.2.1) 7 _ rfl, zI (h.2.2.2.1) 8 _ rfl, zE (h.2.2.2.2.1) 0 (by decide), zE (h.2.2.2.2.1) 1 (by decide), zE (h.2.2.2.2.1) 2 (by decide), zE (h.2.2.2.2.1) 3 (by decide), zE (h.2.2.2.2.1) 4 (by decide), zE (h.2.2.2.2.1) 5 (by decide), zE (h.2.2.2.2.2) 0 (by decide), zE (h.2.2.2.2.2) 1 (by decide), zE (h.2.2.2.2.2) 2 (by decide), zE (h.2.2.2.2.2) 3 (by decide), zE (h.2.2.2.2.2) 4 (by decide), zE (h.2.2.2.2.2) 5 (by decide)⟩)
 have s0 : Below w.heap.size w (w4).drew ∧ (w4).drew.heap[w.heap.size]? = some (.cells (pt c1 m1 X1 r1) 73) ∧ (w4).drew.heap[w.heap.size + 1]? = some (.cells (pt c2 m2 X2 r2) 73) ∧ (w4).drew.heap[w.heap.size + 1 + 1]? = some (.cells (rg false 0 0 false) 114) ∧ (w4).drew.heap[w2.heap.size]? = some (.cells (cw 6 g) 71) ∧ (w4).drew.heap[g4]? = some (.cells (cw 6 L) 71) := ⟨B4.drew, AF, AG, AH, AI, AE⟩
 clear B4 AF Ei Ej Ek El Em En Eo Ep Eq Er Es Et Eu Ev AG Ew Ex Ey Ez EA EB EC ED EE EF EG EH EI EJ AH EK EL EM EN EO EP EQ ER ES AI ET AE EU
 go_wp2_with fail
 apply cut7
 ·
  intro key0
  have key := zJ key0
  clear key0
  go_region_held3 (fun W => Below w.heap.size w W ∧ W.heap[w.heap.size]? = some (.cells (pt c1 m1 X1 r1) 73) ∧ W.heap[w.heap.size + 1]? = some (.cells (pt c2 m2 X2 r2) 73) ∧ W.heap[w.heap.size + 1 + 1]? = some (.cells (rg false 0 0 false) 114) ∧ W.heap[w2.heap.size]? = some (.cells (cw 6 g) 71) ∧ W.heap[g4]? = some (.cells (cw 6 L) 71) ∧ W.cell? ⟨w.heap.size, 0, none⟩ = some (.int .u8 c1) ∧ W.cell? ⟨w.heap.size, 1, none⟩ = some (.int .u64 (wd m1 0)) ∧ W.cell? ⟨w.heap.size, 2, none⟩ = some (.int .u64 (wd m1 1)) ∧ W.cell? ⟨w.heap.size, 3, none⟩ = some (.int .u64 (wd m1 2)) ∧ W.cell? ⟨w.heap.size, 4, none⟩ = some (.int .u64 (wd m1 3)) ∧ W.cell? ⟨w.heap.size, 5, none⟩ = some (.int .u64 (wd m1 4)) ∧ W.cell? ⟨w.heap.size, 6, none⟩ = some (.int .u64 (wd m1 5)) ∧ W.cell? ⟨w.heap.size, 7, none⟩ = some (.int .i64 X1) ∧ W.cell? ⟨w.heap.size, 8, none⟩ = some (.int .u64 (wd r1 0)) ∧ W.cell? ⟨w.heap.size, 9, none⟩ = some (.int .u64 (wd r1 1)) ∧ W.cell? ⟨w.heap.size, 10, none⟩ = some (.int .u64 (wd r1 2)) ∧ W.cell? ⟨w.heap.size, 11, none⟩ = some (.int .u64 (wd r1 3)) ∧ W.cell? ⟨w.heap.size, 12, none⟩ = some (.int .u64 (wd r1 4)) ∧ W.cell? ⟨w.heap.size, 13, none⟩ = some (.int .u64 (wd r1 5)) ∧ W.cell? ⟨w.heap.size + 1, 0, none⟩ = some (.int .u8 c2) ∧ W.cell? ⟨w.heap.size + 1, 1, none⟩ = some (.int .u64 (wd m2 0)) ∧ W.cell? ⟨w.heap.size + 1, 2, none⟩ = some (.int .u64 (wd m2 1)) ∧ W.cell? ⟨w.heap.size + 1, 3, none⟩ = some (.int .u64 (wd m2 2)) ∧ W.cell? ⟨w.heap.size + 1, 4, none⟩ = some (.int .u64 (wd m2 3)) ∧ W.cell? ⟨w.heap.size + 1, 5, none⟩ = some (.int .u64 (wd m2 4)) ∧ W.cell? ⟨w.heap.size + 1, 6, none⟩ = some (.int .u64 (wd m2 5)) ∧ W.cell? ⟨w.heap.size + 1, 7, none⟩ = some (.int .i64 X2) ∧ W.cell? ⟨w.heap.size + 1, 8, none⟩ = some (.int .u64 (wd r2 0)) ∧ W.cell? ⟨w.heap.size + 1, 9, none⟩ = some (.int .u64 (wd r2 1)) ∧ W.cell? ⟨w.heap.size + 1, 10, none⟩ = some (.int .u64 (wd r2 2)) ∧ W.cell? ⟨w.heap.size + 1, 11, none⟩ = some (.int .u64 (wd r2 3)) ∧ W.cell? ⟨w.heap.size + 1, 12, none⟩ = some (.int .u64 (wd r2 4)) ∧ W.cell? ⟨w.heap.size + 1, 13, none⟩ = some (.int .u64 (wd r2 5)) ∧ W.cell? ⟨w.heap.size + 1 + 1, 0, none⟩ = some (.bool false) ∧ W.cell? ⟨w.heap.size + 1 + 1, 1, none⟩ = some (.int .u64 (wd 0 0)) ∧ W.cell? ⟨w.heap.size + 1 + 1, 2, none⟩ = some (.int .u64 (wd 0 1)) ∧ W.cell? ⟨w.heap.size + 1 + 1, 3, none⟩ = some (.int .u64 (wd 0 2)) ∧ W.cell? ⟨w.heap.size + 1 + 1, 4, none⟩ = some (.int .u64 (wd 0 3)) ∧ W.cell? ⟨w.heap.size + 1 + 1, 5, none⟩ = some (.int .u64 (wd 0 4)) ∧ W.cell? ⟨w.heap.size + 1 + 1, 6, none⟩ = some (.int .u64 (wd 0 5)) ∧ W.cell? ⟨w.heap.size + 1 + 1, 7, none⟩ = some (.int .i64 0) ∧ W.cell? ⟨w.heap.size + 1 + 1, 8, none⟩ = some (.bool false) ∧ W.cell? ⟨w2.heap.size, 0, none⟩ = some (.int .u64 (wd g 0)) ∧ W.cell? ⟨w2.heap.size, 1, none⟩ = some (.int .u64 (wd g 1)) ∧ W.cell? ⟨w2.heap.size, 2, none⟩ = some (.int .u64 (wd g 2)) ∧ W.cell? ⟨w2.heap.size, 3, none⟩ = some (.int .u64 (wd g 3)) ∧ W.cell? ⟨w2.heap.size, 4, none⟩ = some (.int .u64 (wd g 4)) ∧ W.cell? ⟨w2.heap.size, 5, none⟩ = some (.int .u64 (wd g 5)) ∧ W.cell? ⟨g4, 0, none⟩ = some (.int .u64 (wd L 0)) ∧ W.cell? ⟨g4, 1, none⟩ = some (.int .u64 (wd L 1)) ∧ W.cell? ⟨g4, 2, none⟩ = some (.int .u64 (wd L 2)) ∧ W.cell? ⟨g4, 3, none⟩ = some (.int .u64 (wd L 3)) ∧ W.cell? ⟨g4, 4, none⟩ = some (.int .u64 (wd L 4)) ∧ W.cell? ⟨g4, 5, none⟩ = some (.int .u64 (wd L 5))) (first | exact sC.out _ s1 | exact sC.out _ s0 | exact sC.out _ (sS.out _ _ s1 (yO _ _)) | exact sC.out _ (sS.out _ _ s0 (yO _ _)) | exact sC.out _ (sT.out _ _ _ s1 hl))
   (first | (go_at_call 244; (first | refine (KB1.out _).mono ?_ | refine (KB1.out _).mono ?_); rintro r wq ⟨rfl, bq⟩; (first | (have hg := zA bq _ _ _ (heap_alloc_last _ _); have hl := (by first | exact sL.out _ s1 | exact sL.out _ s0)) | have hg := zA bq _ _ _ hg | skip); (try simp only [xJ, zW] at hg hl); (first | have hst := st_r _ _ o 0 E false false 0 0 false hg | skip); have s2 := (by first | exact sS.out _ _ s1 bq | exact sS.out _ _ s0 bq | exact sS.out _ _ (sS.out _ _ s1 (yO _ _)) bq | exact sS.out _ _ (sS.out _ _ s0 (yO _ _)) bq); (try clear s1); have s1 := s2; clear s2 bq) | fail)
  all_goals
   refine gen_add_total_10 (R := fun W gN => (Below w.heap.size w W ∧ W.heap[w.heap.size]? = some (.cells (pt c1 m1 X1 r1) 73) ∧ W.heap[w.heap.size + 1]? = some (.cells (pt c2 m2 X2 r2) 73) ∧ W.heap[w.heap.size + 1 + 1]? = some (.cells (rg false 0 0 false) 114) ∧ W.heap[w2.heap.size]? = some (.cells (cw 6 g) 71) ∧ W.heap[g4]? = some (.cells (cw 6 L) 71)) ∧ W.heap[gN]? = some (.cells (rg o 0 E false) 114) ∧ (w.heap.size < gN ∧ w.heap.size + 1 < gN ∧ w.heap.size + 1 + 1 < gN ∧ w2.heap.size < gN ∧ g4 < gN)) key.out ?_
   first
    | exact ⟨(sT.out _ _ _ s1 hl), zS hg, hl⟩
    | exact ⟨sS.out _ _ s1 (yO _ _), heap_alloc_last _ _, sL.out _ s1⟩
    | exact ⟨sS.out _ _ s0 (yO _ _), heap_alloc_last _ _, sL.out _ s0⟩
 rintro w5 g5 ⟨s1, Al, l5⟩
 have B5 := And.left s1
 have A4 := s1.2.1
 have A5 := s1.2.2.1
 have Am := s1.2.2.2.1
 have An := s1.2.2.2.2.1
 have Ao := s1.2.2.2.2.2
 have H5 := zJ l5
 clear s0 s1 sS sC sL sT l5
 obtain ⟨EV, EW, EX, EY, EZ, E0, E1, E2, E3, E4, E5, E6, E7, E8⟩ := zF A4
 obtain ⟨E9, Fa, Fb, Fc, Fd, Fe, Ff, Fg, Fh, Fi, Fj, Fk, Fl, Fm⟩ := zF A5
 obtain ⟨AJ, AK, AL, AM, AN, AO, AP, AQ, AR⟩ := zQ Am
 have AS := zE An
 have AT := zE Ao
 obtain ⟨AU, AV, AW, AX, AY, AZ, A0, A1, A2⟩ := zQ Al
 clear A4 EV EW EX EY EZ E0 E1 E2 E3 E4 E5 E6 E7 E8
 clear A5 E9 Fa Fb Fc Fd Fe Ff Fg Fh Fi Fj Fk Fl Fm
 rcases H.out with ⟨rfl, KA, rfl⟩ | ⟨rfl, KA, hz, rfl⟩ | ⟨rfl, KA, hz, hdn⟩
 ·
  clear H
  go_wp2_with fail
  refine (KA.out _).mono ?_
  rintro r w6 ⟨rfl, b6⟩
  have B6 := zU B5 b6
  obtain ⟨Ai, Aj, Ak, Ae⟩ := qJ b6 Am An Ao Al
  clear b6 B5 Am AJ AK AL AM AN AO AP AQ AR An AS Ao AT Al AU AV AW AX AY AZ A0 A1 A2
  obtain ⟨A6, A7, A8, A9, Ba, Bb, Bc, Bd, Be⟩ := zQ Ai
  have Bf := zE Aj
  have Bg := zE Ak
  obtain ⟨Bh, Bi, Bj, Bk, Bl, Bm, Bn, Bo, Bp⟩ := zQ Ae
  have Ap := st_r1 w6 (g5) o 0 E false S Ae
  have B7 := z7 (c := (rg o S E false)) B6 (show w.heap.size ≤ g5 by first | exact Nat.le_refl _ | omega | (have := S3.out; have := Aa.out; have := Ab.out; have := Ac.out; have := H4.out; have := H5.out; omega))
  have Af := zS (c' := (rg o S E false)) Ae
  have Ad : (w6.setRow (g5) (rg o S E false)).heap[w.heap.size + 1 + 1]? = some (.cells (rg false 0 0 false) 114) := by rw [zK (by first | omega | (have := S3.out; have := Aa.out; have := Ab.out; have := Ac.out; have := H4.out; have := H5.out; omega))]; exact Ai
  have Ag : (w6.setRow (g5) (rg o S E false)).heap[w2.heap.size]? = some (.cells (cw 6 g) 71) := by rw [zK (by first | omega | (have := S3.out; have := Aa.out; have := Ab.out; have := Ac.out; have := H4.out; have := H5.out; omega))]; exact Aj
  have Ah : (w6.setRow (g5) (rg o S E false)).heap[g4]? = some (.cells (cw 6 L) 71) := by rw [zK (by first | omega | (have := S3.out; have := Aa.out; have := Ab.out; have := Ac.out; have := H4.out; have := H5.out; omega))]; exact Ak
  obtain ⟨w7, Aq⟩ : ∃ V, w6.setRow (g5) (rg o S E false) = V := ⟨_, rfl⟩
  rw [Aq] at Ap B7 Ad Ag Ah Af
  obtain ⟨Bq, Br, Bs, Bt, Bu, Bv, Bw, Bx, By⟩ := zQ Ad
  have Bz := zE Ag
  have BA := zE Ah
  obtain ⟨BB, BC, BD, BE, BF, BG, BH, BI, BJ⟩ := zQ Af
  have hstz := st_r w7 (w.heap.size + 1 + 1) o S E false false 0 0 false Ad
  have RZ := zS (c' := rg o S E false) Ad
  obtain ⟨dz0, dz1, dz2, dz3, dz4, dz5, dz6, dz7, dz8⟩ := zQ RZ
  have bz := z7 (c := rg o S E false) B7 (show w.heap.size ≤ w.heap.size + 1 + 1 by first | exact Nat.le_refl _ | omega | (have := S3.out; have := Aa.out; have := Ab.out; have := Ac.out; have := H4.out; have := H5.out; omega))
  go_wp2
  exact bodyPost_ret (v := .agg (rg o S E false)) (by simp [results, Tryz.results159, go_sem, dz0, dz1, dz2, dz3, dz4, dz5, dz6, dz7, dz8, rgf] <;> rfl) rfl ⟨rfl, bz⟩
 ·
  clear H
  go_wp2_with fail
  refine (KA.out _).mono ?_
  rintro r w6 ⟨rfl, b6⟩
  have B6 := zU B5 b6
  obtain ⟨Ai, Aj, Ak, Ae⟩ := qJ b6 Am An Ao Al
  clear b6 B5 Am AJ AK AL AM AN AO AP AQ AR An AS Ao AT Al AU AV AW AX AY AZ A0 A1 A2
  obtain ⟨A6, A7, A8, A9, Ba, Bb, Bc, Bd, Be⟩ := zQ Ai
  have Bf := zE Aj
  have Bg := zE Ak
  obtain ⟨Bh, Bi, Bj, Bk, Bl, Bm, Bn, Bo, Bp⟩ := zQ Ae
  have Ap := st_r1 w6 (g5) o 0 E false S Ae
  have B7 := z7 (c := (rg o S E false)) B6 (show w.heap.size ≤ g5 by first | exact Nat.le_refl _ | omega | (have := S3.out; have := Aa.out; have := Ab.out; have := Ac.out; have := H4.out; have := H5.out; omega))
  have Af := zS (c' := (rg o S E false)) Ae
  have Ad : (w6.setRow (g5) (rg o S E false)).heap[w.heap.size + 1 + 1]? = some (.cells (rg false 0 0 false) 114) := by rw [zK (by first | omega | (have := S3.out; have := Aa.out; have := Ab.out; have := Ac.out; have := H4.out; have := H5.out; omega))]; exact Ai
  have Ag : (w6.setRow (g5) (rg o S E false)).heap[w2.heap.size]? = some (.cells (cw 6 g) 71) := by rw [zK (by first | omega | (have := S3.out; have := Aa.out; have := Ab.out; have := Ac.out; have := H4.out; have := H5.out; omega))]; exact Aj
  have Ah : (w6.setRow (g5) (rg o S E false)).heap[g4]? = some (.cells (cw 6 L) 71) := by rw [zK (by first | omega | (have := S3.out; have := Aa.out; have := Ab.out; have := Ac.out; have := H4.out; have := H5.out; omega))]; exact Ak
  obtain ⟨w7, Aq⟩ : ∃ V, w6.setRow (g5) (rg o S E false) = V := ⟨_, rfl⟩
  rw [Aq] at Ap B7 Ad Ag Ah Af
  obtain ⟨Bq, Br, Bs, Bt, Bu, Bv, Bw, Bx, By⟩ := zQ Ad
  have Bz := zE Ag
  have BA := zE Ah
  obtain ⟨BB, BC, BD, BE, BF, BG, BH, BI, BJ⟩ := zQ Af
  have hstz := st_r w7 (w.heap.size + 1 + 1) o S E false false 0 0 false Ad
  have RZ := zS (c' := rg o S E false) Ad
  obtain ⟨dz0, dz1, dz2, dz3, dz4, dz5, dz6, dz7, dz8⟩ := zQ RZ
  have bz := z7 (c := rg o S E false) B7 (show w.heap.size ≤ w.heap.size + 1 + 1 by first | exact Nat.le_refl _ | omega | (have := S3.out; have := Aa.out; have := Ab.out; have := Ac.out; have := H4.out; have := H5.out; omega))
  go_wp2
  exact bodyPost_ret (v := .agg (rg o S E false)) (by simp [results, Tryz.results159, go_sem, dz0, dz1, dz2, dz3, dz4, dz5, dz6, dz7, dz8, rgf] <;> rfl) rfl ⟨rfl, bz⟩
 ·
  clear H
  go_wp2_with fail
  refine (KA.out _).mono ?_
  rintro r w6 ⟨rfl, b6⟩
  have B6 := zU B5 b6
  obtain ⟨Ai, Aj, Ak, Ae⟩ := qJ b6 Am An Ao Al
  clear b6 B5 Am AJ AK AL AM AN AO AP AQ AR An AS Ao AT Al AU AV AW AX AY AZ A0 A1 A2
  obtain ⟨A6, A7, A8, A9, Ba, Bb, Bc, Bd, Be⟩ := zQ Ai
  have Bf := zE Aj
  have Bg := zE Ak
  obtain ⟨Bh, Bi, Bj, Bk, Bl, Bm, Bn, Bo, Bp⟩ := zQ Ae
  have Ap := st_r1 w6 (g5) o 0 E false S Ae
  have B7 := z7 (c := (rg o S E false)) B6 (show w.heap.size ≤ g5 by first | exact Nat.le_refl _ | omega | (have := S3.out; have := Aa.out; have := Ab.out; have := Ac.out; have := H4.out; have := H5.out; omega))
  have Af := zS (c' := (rg o S E false)) Ae
  have Ad : (w6.setRow (g5) (rg o S E false)).heap[w.heap.size + 1 + 1]? = some (.cells (rg false 0 0 false) 114) := by rw [zK (by first | omega | (have := S3.out; have := Aa.out; have := Ab.out; have := Ac.out; have := H4.out; have := H5.out; omega))]; exact Ai
  have Ag : (w6.setRow (g5) (rg o S E false)).heap[w2.heap.size]? = some (.cells (cw 6 g) 71) := by rw [zK (by first | omega | (have := S3.out; have := Aa.out; have := Ab.out; have := Ac.out; have := H4.out; have := H5.out; omega))]; exact Aj
  have Ah : (w6.setRow (g5) (rg o S E false)).heap[g4]? = some (.cells (cw 6 L) 71) := by rw [zK (by first | omega | (have := S3.out; have := Aa.out; have := Ab.out; have := Ac.out; have := H4.out; have := H5.out; omega))]; exact Ak
  obtain ⟨w7, Aq⟩ : ∃ V, w6.setRow (g5) (rg o S E false) = V := ⟨_, rfl⟩
  rw [Aq] at Ap B7 Ad Ag Ah Af
  obtain ⟨Bq, Br, Bs, Bt, Bu, Bv, Bw, Bx, By⟩ := zQ Ad
  have Bz := zE Ag
  have BA := zE Ah
  obtain ⟨BB, BC, BD, BE, BF, BG, BH, BI, BJ⟩ := zQ Af
  have qr_7 := fz (k := 0) Af
  have B8 : Below w.heap.size w (w7.setCell ⟨g5, 0, none⟩ (.bool neg)) := B7.setCell (by first | exact Nat.le_refl _ | (have := S3.out; have := Aa.out; have := Ab.out; have := Ac.out; have := H4.out; have := H5.out; show w.heap.size ≤ g5; omega)) _
  have Fn : (w7.setCell ⟨g5, 0, none⟩ (.bool neg)).heap[g5]? = some (.cells (rg neg S E false) 114) := by rw [zX Af]; rfl
  have A3 : (w7.setCell ⟨g5, 0, none⟩ (.bool neg)).heap[w.heap.size + 1 + 1]? = some (.cells (rg false 0 0 false) 114) := by rw [zH (by first | omega | (have := S3.out; have := Aa.out; have := Ab.out; have := Ac.out; have := H4.out; have := H5.out; omega))]; exact Ad
  have Fo : (w7.setCell ⟨g5, 0, none⟩ (.bool neg)).heap[w2.heap.size]? = some (.cells (cw 6 g) 71) := by rw [zH (by first | omega | (have := S3.out; have := Aa.out; have := Ab.out; have := Ac.out; have := H4.out; have := H5.out; omega))]; exact Ag
  have Fp : (w7.setCell ⟨g5, 0, none⟩ (.bool neg)).heap[g4]? = some (.cells (cw 6 L) 71) := by rw [zH (by first | omega | (have := S3.out; have := Aa.out; have := Ab.out; have := Ac.out; have := H4.out; have := H5.out; omega))]; exact Ah
  obtain ⟨Fs, Ft, Fu, Fv, Fw, Fx, Fy, Fz, FA⟩ := zQ A3
  have FB := zE Fo
  have FC := zE Fp
  obtain ⟨FD, FE, FF, FG, FH, FI, FJ, FK, FL⟩ := zQ Fn
  have hstz := st_r (w7.setCell ⟨g5, 0, none⟩ (.bool neg)) (w.heap.size + 1 + 1) neg S E false false 0 0 false A3
  have RZ := zS (c' := rg neg S E false) A3
  obtain ⟨dz0, dz1, dz2, dz3, dz4, dz5, dz6, dz7, dz8⟩ := zQ RZ
  have bz := z7 (c := rg neg S E false) B8 (show w.heap.size ≤ w.heap.size + 1 + 1 by first | exact Nat.le_refl _ | omega | (have := S3.out; have := Aa.out; have := Ab.out; have := Ac.out; have := H4.out; have := H5.out; omega))
  go_wp2
  exact bodyPost_ret (v := .agg (rg neg S E false)) (by simp [results, Tryz.results159, go_sem, dz0, dz1, dz2, dz3, dz4, dz5, dz6, dz7, dz8, rgf] <;> rfl) rfl ⟨rfl, bz⟩
end Go.Proofs.YtoaaajeblhaeoaaGreatDoor
