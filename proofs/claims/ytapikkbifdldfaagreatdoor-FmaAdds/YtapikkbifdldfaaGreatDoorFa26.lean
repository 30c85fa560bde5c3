/-
  What the functions that the statement reaches return: part 26 (FA).
-/
import Derived.Test.YtapikkbifdldfaaGreatDoorFa25
namespace Go.Proofs.YtapikkbifdldfaaGreatDoor
set_option maxRecDepth 100000
set_option maxHeartbeats 40000000
open Go.RowKit WMath
set_option linter.unusedSimpArgs false
set_option linter.unusedVariables false
theorem gen_fma_total_8_9 {X : Act → World → Prop} {R : World → Nat → Nat → Prop} {t0 t1 t2 t3 t4 t5 t6 t7 t10 t11 t12 t13 t14 t15 t16 t17 t18 t19 t20 t21 t22 t23 t24 t25 t26 t27 t28 t29 t30 t31 t32 t33 t34 t35 t36 t37 t38 t39 t40 t41 t42 t43 t44 t45 t46 t47 t48 t49 t50 t51 t52 t53 t54 t55 t56 t57 t58 t59 t60 t61 t62 t63 t64 t65 t66 t67 : Value} {d : List Deferred} {W : World} {G1 G2 : Nat}
  (key : ∀ w5 g1 g2, R w5 g1 g2 → X ⟨#[t0, t1, t2, t3, t4, t5, t6, t7, .pointer (some ⟨g1, 0, none⟩), .pointer (some ⟨g2, 0, none⟩), t10, t11, t12, t13, t14, t15, t16, t17, t18, t19, t20, t21, t22, t23, t24, t25, t26, t27, t28, t29, t30, t31, t32, t33, t34, t35, t36, t37, t38, t39, t40, t41, t42, t43, t44, t45, t46, t47, t48, t49, t50, t51, t52, t53, t54, t55, t56, t57, t58, t59, t60, t61, t62, t63, t64, t65, t66, t67], d⟩ w5) (r : R W G1 G2) : X ⟨#[t0, t1, t2, t3, t4, t5, t6, t7, .pointer (some ⟨G1, 0, none⟩), .pointer (some ⟨G2, 0, none⟩), t10, t11, t12, t13, t14, t15, t16, t17, t18, t19, t20, t21, t22, t23, t24, t25, t26, t27, t28, t29, t30, t31, t32, t33, t34, t35, t36, t37, t38, t39, t40, t41, t42, t43, t44, t45, t46, t47, t48, t49, t50, t51, t52, t53, t54, t55, t56, t57, t58, t59, t60, t61, t62, t63, t64, t65, t66, t67], d⟩ W := key W G1 G2 r

theorem al_row20 (X : World) (Z : Obj) : ((X.alloc Z).alloc Z).heap[X.heap.size]? = some Z := xG (heap_alloc_last X Z) Z
theorem al_row21 (X : World) (Z : Obj) : ((X.alloc Z).alloc Z).heap[X.heap.size + 1]? = some Z := by have := heap_alloc_last (X.alloc Z) Z; rw [zM] at this; exact this
theorem nm_two {n0 : Nat} {X wq : World} {Z : Obj} (b : Below (X.heap.size + 1 + 1) ((X.alloc Z).alloc Z) wq) (h : n0 ≤ X.heap.size) : wq.heap[X.heap.size]? = some Z ∧ wq.heap[X.heap.size + 1]? = some Z ∧ n0 ≤ X.heap.size ∧ n0 ≤ X.heap.size + 1 ∧ X.heap.size < X.heap.size + 1 :=
 ⟨(b.block _ (by omega)).trans (al_row20 X Z), (b.block _ (by omega)).trans (al_row21 X Z), h, by omega, by omega⟩
theorem nm_one {n0 : Nat} {X wq : World} {Z : Obj} (b : Below (X.heap.size + 1) (X.alloc Z) wq) (h : n0 ≤ X.heap.size) : wq.heap[X.heap.size]? = some Z ∧ n0 ≤ X.heap.size :=
 ⟨(b.block _ (by omega)).trans (heap_alloc_last X Z), h⟩
theorem nm_twoD {n0 : Nat} {X wq : World} {Z : Obj} (b : Below ((X.alloc Z).alloc Z).drew.heap.size ((X.alloc Z).alloc Z).drew wq) (h : n0 ≤ X.drew.heap.size) : wq.heap[X.heap.size]? = some Z ∧ wq.heap[X.heap.size + 1]? = some Z ∧ n0 ≤ X.heap.size ∧ n0 ≤ X.heap.size + 1 ∧ X.heap.size < X.heap.size + 1 := by
 have b2 : Below ((X.alloc Z).alloc Z).heap.size ((X.alloc Z).alloc Z).drew wq := b
 rw [zM, zM] at b2
 have h2 : n0 ≤ X.heap.size := h
 exact ⟨(b2.block _ (by omega)).trans (al_row20 X Z), (b2.block _ (by omega)).trans (al_row21 X Z), h2, by omega, by omega⟩
theorem nm_oneD {n0 : Nat} {X wq : World} {Z : Obj} (b : Below (X.alloc Z).drew.heap.size (X.alloc Z).drew wq) (h : n0 ≤ X.drew.heap.size) : wq.heap[X.heap.size]? = some Z ∧ n0 ≤ X.heap.size := by
 have b2 : Below (X.alloc Z).heap.size (X.alloc Z).drew wq := b
 rw [zM] at b2
 exact ⟨(b2.block _ (by omega)).trans (heap_alloc_last X Z), h⟩
theorem nm_oneK {n0 : Nat} {X wq : World} {Z : Obj} {g : Nat} (b : Below (X.heap.size + 1) (X.alloc Z) wq) (h : n0 ≤ X.heap.size) (hg : X.heap[g]? = some Z) (ge : n0 ≤ g) : wq.heap[g]? = some Z ∧ wq.heap[X.heap.size]? = some Z ∧ n0 ≤ g ∧ n0 ≤ X.heap.size ∧ g < X.heap.size := by
 have lt := (Array.getElem?_eq_some_iff.1 hg).1
 exact ⟨(b.block _ (by omega)).trans (xG hg Z), (b.block _ (by omega)).trans (heap_alloc_last X Z), ge, h, lt⟩
theorem nm_keep1 {X wq : World} {Z : Obj} {g : Nat} (b : Below X.heap.size X wq) (hg : X.heap[g]? = some Z) : wq.heap[g]? = some Z :=
 (b.block _ (Array.getElem?_eq_some_iff.1 hg).1).trans hg
theorem nm_keep2 {X wq : World} {Z Y : Obj} {g j : Nat} (b : Below X.heap.size X wq) (hg : X.heap[g]? = some Z) (hj : X.heap[j]? = some Y) : wq.heap[g]? = some Z ∧ wq.heap[j]? = some Y := ⟨nm_keep1 b hg, nm_keep1 b hj⟩
theorem two_st (V : World) (a b : Nat) (ha : V.heap[a]? = some (.cells (cw 6 0) 52)) (hb : V.heap[b]? = some (.cells (cw 6 0) 52)) (d : a ≠ b) :
  (∀ x, (storeCells ⟨a, 0, none⟩ (cw 6 x).toList 0).run Tryz.prog V = .ok () (V.setRow a (cw 6 x))) ∧ (∀ x, (storeCells ⟨b, 0, none⟩ (cw 6 x).toList 0).run Tryz.prog V = .ok () (V.setRow b (cw 6 x))) ∧
  (∀ x y, (storeCells ⟨b, 0, none⟩ (cw 6 y).toList 0).run Tryz.prog (V.setRow a (cw 6 x)) = .ok () ((V.setRow a (cw 6 x)).setRow b (cw 6 y))) ∧ (∀ x y, (storeCells ⟨a, 0, none⟩ (cw 6 y).toList 0).run Tryz.prog (V.setRow b (cw 6 x)) = .ok () ((V.setRow b (cw 6 x)).setRow a (cw 6 y))) :=
 ⟨fun x => xE V a x 0 ha, fun x => xE V b x 0 hb, fun x y => xE _ b y 0 ((zI d).trans hb), fun x y => xE _ a y 0 ((zI (Ne.symm d)).trans ha)⟩
theorem set2r1 {V : World} {a b : Nat} {c x y : Array Value} {T : TypeId} (ha : V.heap[a]? = some (.cells c T)) (d : a ≠ b) : ((V.setRow a x).setRow b y).heap[a]? = some (.cells x T) := (zI (Ne.symm d)).trans (zU ha)
theorem set2r2 {V : World} {a b : Nat} {c x y : Array Value} {T : TypeId} (hb : V.heap[b]? = some (.cells c T)) (d : a ≠ b) : ((V.setRow a x).setRow b y).heap[b]? = some (.cells y T) := zU ((zI d).trans hb)
theorem fm_times (neg : Bool) (c1 m1 : Nat) (X1 : Int) (r1 c2 m2 : Nat) (X2 : Int) (r2 S : Nat) (E : Int) (ov : Bool) (w : World)
  (KM : zR (∀ w, Calls Tryz.prog 169 #[.agg (cw 6 m1), .agg (cw 6 m2)] w fun r w' => r = .returned (.tuple #[.agg (cw 6 S), .bool ov]) ∧ Below w.heap.size w w')) (hE : IntKind.i64.wrap (X1 + X2) = E) :
  Calls Tryz.prog 107 #[.bool neg, .agg (pt c1 m1 X1 r1), .agg (pt c2 m2 X2 r2)] w fun r w' => r = .returned (.agg (rg neg S E false)) ∧ Below w.heap.size w w' := by
 have hat := yD 6
 have hz := yZ
 have hff := yY
 have hs0 := q8
 have hcs : ∀ x, ((cw 6 x).size = 6) = True := fun x => eq_true (z7 6 x)
 have hp1 := rgf
 have hp3 := rgz
 have hp4 := st_r0
 have hzi := cw_zip
 have hls := rg_sets
 have hp5 : ∀ (c : Bool) (s : Nat) (x : Int) (r : Bool), ((rg c s x r).size = 9) = True := fun _ _ _ _ => eq_true rfl
 have Bz := ptf
 have BA : ∀ (c s : Nat) (x : Int) (r : Nat), ((pt c s x r).size = 14) = True := fun _ _ _ _ => eq_true rfl
 obtain ⟨Ad, Ae, Af, B0⟩ := opn3 w (Obj.cells (pt c1 m1 X1 r1) 54) (Obj.cells (pt c2 m2 X2 r2) 54) (Obj.cells (rg false 0 0 false) 62)
 go_enter Tryz.func107, Tryz.ntmps107
 obtain ⟨Ah, Ai, Aj, Ak, Al, Am, An, Ao, Ap, Aq, Ar, As, At, Au⟩ := zG Ad
 obtain ⟨Av, Aw, Ax, Ay, Az, AA, AB, AC, AD, AE, AF, AG, AH, AI⟩ := zG Ae
 obtain ⟨AJ, AK, AL, AM, AN, AO, AP, AQ, AR⟩ := zL Af
 go_wp2_with fail
 refine (KM.out _).mono ?_
 rintro r w1 ⟨rfl, b1⟩
 have B1 := zW B0 b1
 obtain ⟨Aa, Ab, Ac⟩ := yI b1 Ad Ae Af
 clear b1 B0 Ad Ah Ai Aj Ak Al Am An Ao Ap Aq Ar As At Au Ae Av Aw Ax Ay Az AA AB AC AD AE AF AG AH AI Af AJ AK AL AM AN AO AP AQ AR
 obtain ⟨AS, AT, AU, AV, AW, AX, AY, AZ, A0, A1, A2, A3, A4, A5⟩ := zG Aa
 obtain ⟨A6, A7, A8, A9, Ba, Bb, Bc, Bd, Be, Bf, Bg, Bh, Bi, Bj⟩ := zG Ab
 obtain ⟨Bk, Bl, Bm, Bn, Bo, Bp, Bq, Br, Bs⟩ := zL Ac
 have S2 := zK B1.size
 have Bt := yC Aa
 have Bu := yC Ab
 have Bv := yC Ac
 have Bw := heap_alloc_last w1 (Obj.cells (cw 6 S) 52)
 have B2 := zW B1 (yQ w1 (Obj.cells (cw 6 S) 52))
 obtain ⟨Bx, By, Ag⟩ := yI (yQ w1 (Obj.cells (cw 6 S) 52)) Aa Ab Ac
 clear B1 Aa AS AT AU AV AW AX AY AZ A0 A1 A2 A3 A4 A5 Ab A6 A7 A8 A9 Ba Bb Bc Bd Be Bf Bg Bh Bi Bj Ac Bk Bl Bm Bn Bo Bp Bq Br Bs
 obtain ⟨BB, BC, BD, BE, BF, BG, BH, BI, BJ, BK, BL, BM, BN, BO⟩ := zG Bx
 obtain ⟨BP, BQ, BR, BS, BT, BU, BV, BW, BX, BY, BZ, B3, B4, B5⟩ := zG By
 obtain ⟨B6, B7, B8, B9, Ca, Cb, Cc, Cd, Ce⟩ := zL Ag
 have Cf := zF Bw
 have hstz := st_r (w1.alloc (Obj.cells (cw 6 S) 52)) (w.heap.size + 1 + 1) neg S E false false 0 0 false Ag
 have RZ := zU (c' := rg neg S E false) Ag
 obtain ⟨dz0, dz1, dz2, dz3, dz4, dz5, dz6, dz7, dz8⟩ := zL RZ
 have bz := z9 (c := rg neg S E false) B2 (show w.heap.size ≤ w.heap.size + 1 + 1 by first | exact Nat.le_refl _ | omega | (have := S2.out; have := Bt.out; have := Bu.out; have := Bv.out; omega))
 go_wp2
 exact bodyPost_ret (v := .agg (rg neg S E false)) (by simp [results, Tryz.results107, go_sem, dz0, dz1, dz2, dz3, dz4, dz5, dz6, dz7, dz8, rgf] <;> rfl) rfl ⟨rfl, bz⟩
theorem fm_top (neg : Bool) (s : Nat) (x : Int) (more : Bool) (l v : Int) (w : World)
  (KL : zR (∀ w, Calls Tryz.prog 86 #[.agg (cw 6 s)] w fun r w' => r = .returned (.int .i64 l) ∧ Below w.heap.size w w'))
  (h1 : IntKind.i64.wrap (x + l) = v) : Calls Tryz.prog 206 #[.agg (rg neg s x more)] w fun r w' => r = .returned (.int .i64 v) ∧ Below w.heap.size w w' := by
 have hat := yD 6
 have hz := yZ
 have hff := yY
 have hs0 := q8
 have hcs : ∀ x, ((cw 6 x).size = 6) = True := fun x => eq_true (z7 6 x)
 obtain ⟨Aa, B0⟩ := yU w (Obj.cells (rg neg s x more) 62)
 go_enter Tryz.func206, Tryz.ntmps206
 have sS : zR (∀ W W1 : World, (Below w.heap.size w W ∧ W.heap[w.heap.size]? = some (.cells (rg neg s x more) 62)) → Below W.heap.size W W1 → (Below w.heap.size w W1 ∧ W1.heap[w.heap.size]? = some (.cells (rg neg s x more) 62))) := zK (fun W W1 h b => ⟨zW h.1 b, zA b _ _ _ h.2⟩)
 have sC : zR (∀ W : World, (Below w.heap.size w W ∧ W.heap[w.heap.size]? = some (.cells (rg neg s x more) 62)) → (Below w.heap.size w W ∧ W.heap[w.heap.size]? = some (.cells (rg neg s x more) 62) ∧ W.cell? ⟨w.heap.size, 0, none⟩ = some (.bool neg) ∧ W.cell? ⟨w.heap.size, 1, none⟩ = some (.int .u64 (wd s 0)) ∧ W.cell? ⟨w.heap.size, 2, none⟩ = some (.int .u64 (wd s 1)) ∧ W.cell? ⟨w.heap.size, 3, none⟩ = some (.int .u64 (wd s 2)) ∧ W.cell? ⟨w.heap.size, 4, none⟩ = some (.int .u64 (wd s 3)) ∧ W.cell? ⟨w.heap.size, 5, none⟩ = some (.int .u64 (wd s 4)) ∧ W.cell? ⟨w.heap.size, 6, none⟩ = some (.int .u64 (wd s 5)) ∧ W.cell? ⟨w.heap.size, 7, none⟩ = some (.int .i64 x) ∧ W.cell? ⟨w.heap.size, 8, none⟩ = some (.bool more))) := zK (fun W h => ⟨h.1, h.2, zJ (h.2) 0 _ rfl, zJ (h.2) 1 _ rfl, zJ (h.2) 2 _ rfl, zJ (h.2) 3 _ rfl, zJ (h.2) 4 _ rfl, zJ (h.2) 5 _ rfl, zJ (h.2) 6 _ rfl, zJ (h.2) 7 _ rfl, zJ (h.2) 8 _ rfl⟩)
 have s0 : Below w.heap.size w ((w.alloc (Obj.cells (rg neg s x more) 62))).drew ∧ ((w.alloc (Obj.cells (rg neg s x more) 62))).drew.heap[w.heap.size]? = some (.cells (rg neg s x more) 62) := ⟨B0.drew, Aa⟩
 go_wp2_with fail
 go_region_held3 (fun W => Below w.heap.size w W ∧ W.heap[w.heap.size]? = some (.cells (rg neg s x more) 62) ∧ W.cell? ⟨w.heap.size, 0, none⟩ = some (.bool neg) ∧ W.cell? ⟨w.heap.size, 1, none⟩ = some (.int .u64 (wd s 0)) ∧ W.cell? ⟨w.heap.size, 2, none⟩ = some (.int .u64 (wd s 1)) ∧ W.cell? ⟨w.heap.size, 3, none⟩ = some (.int .u64 (wd s 2)) ∧ W.cell? ⟨w.heap.size, 4, none⟩ = some (.int .u64 (wd s 3)) ∧ W.cell? ⟨w.heap.size, 5, none⟩ = some (.int .u64 (wd s 4)) ∧ W.cell? ⟨w.heap.size, 6, none⟩ = some (.int .u64 (wd s 5)) ∧ W.cell? ⟨w.heap.size, 7, none⟩ = some (.int .i64 x) ∧ W.cell? ⟨w.heap.size, 8, none⟩ = some (.bool more)) (first | exact sC.out _ s1 | exact sC.out _ s0)
  (first | (go_at_call 86; (first | refine (KL.out _).mono ?_ | refine (KL.out _).mono ?_); rintro r wq ⟨rfl, bq⟩; have s1 := (by first | exact sS.out _ _ s1 bq | exact sS.out _ _ s0 bq); clear bq) | fail)
 have B1 := (And.left s1)
 have Ab := s1.2
 clear s0 s1 sS sC B0 Aa
 obtain ⟨Ac, Ad, Ae, Af, Ag, Ah, Ai, Aj, Ak⟩ := zL Ab
 go_wp2
 go_ret
 exact ⟨rfl, B1⟩
theorem fm_lowest (n1 : Bool) (e1 : Nat) (X1 : Int) (n2 : Bool) (e2 : Nat) (X2 : Int) (t1 t2 t v : Int) (w : World) (hq1 : e1 < Q) (hq2 : e2 < Q)
  (K1 : zR (∀ w, Calls Tryz.prog 206 #[.agg (rg n1 e1 X1 false)] w fun r w' => r = .returned (.int .i64 t1) ∧ Below w.heap.size w w')) (K2 : zR (∀ w, Calls Tryz.prog 206 #[.agg (rg n2 e2 X2 false)] w fun r w' => r = .returned (.int .i64 t2) ∧ Below w.heap.size w w')) (hM : max t1 t2 = t)
  (H : zR (((e1 = 0) = True ∧ IntKind.i64.wrap (t2 - 383) = v) ∨ ((e1 = 0) = False ∧ (e2 = 0) = True ∧ IntKind.i64.wrap (t1 - 383) = v) ∨ ((e1 = 0) = False ∧ (e2 = 0) = False ∧ IntKind.i64.wrap (t - 383) = v))) :
  Calls Tryz.prog 166 #[.agg (rg n1 e1 X1 false), .agg (rg n2 e2 X2 false)] w fun r w' => r = .returned (.int .i64 v) ∧ Below w.heap.size w w' := by
 have hat := yD 6
 have hz := yZ
 have hff := yY
 have hs0 := q8
 have hcs : ∀ x, ((cw 6 x).size = 6) = True := fun x => eq_true (z7 6 x)
 have hp1 := rgf
 have heq := eq6
 have hg6 := eqg6
 have hQ0 := Q_pos
 obtain ⟨Aa, Ab, B0⟩ := x9 w (Obj.cells (rg n1 e1 X1 false) 62) (Obj.cells (rg n2 e2 X2 false) 62)
 go_enter Tryz.func166, Tryz.ntmps166
 obtain ⟨Ae, Af, Ag, Ah, Ai, Aj, Ak, Al, Am⟩ := zL Aa
 obtain ⟨An, Ao, Ap, Aq, Ar, As, At, Au, Av⟩ := zL Ab
 rcases H.out with ⟨h1, hv⟩ | ⟨h1, h2, hv⟩ | ⟨h1, h2, hv⟩
 ·
  clear H
  go_wp2_with fail
  refine (K2.out _).mono ?_
  rintro r w1 ⟨rfl, b1⟩
  have B1 := zW B0 b1
  obtain ⟨Ac, Ad⟩ := z6 b1 Aa Ab
  clear b1 B0 Aa Ae Af Ag Ah Ai Aj Ak Al Am Ab An Ao Ap Aq Ar As At Au Av
  obtain ⟨Aw, Ax, Ay, Az, AA, AB, AC, AD, AE⟩ := zL Ac
  obtain ⟨AF, AG, AH, AI, AJ, AK, AL, AM, AN⟩ := zL Ad
  go_wp2
  go_ret
  exact ⟨rfl, B1⟩
 ·
  clear H
  go_wp2_with fail
  refine (K1.out _).mono ?_
  rintro r w1 ⟨rfl, b1⟩
  have B1 := zW B0 b1
  obtain ⟨Ac, Ad⟩ := z6 b1 Aa Ab
  clear b1 B0 Aa Ae Af Ag Ah Ai Aj Ak Al Am Ab An Ao Ap Aq Ar As At Au Av
  obtain ⟨Aw, Ax, Ay, Az, AA, AB, AC, AD, AE⟩ := zL Ac
  obtain ⟨AF, AG, AH, AI, AJ, AK, AL, AM, AN⟩ := zL Ad
  go_wp2
  go_ret
  exact ⟨rfl, B1⟩
 ·
  clear H
  have sS : zR (∀ W W1 : World, (Below w.heap.size w W ∧ W.heap[w.heap.size]? = some (.cells (rg n1 e1 X1 false) 62) ∧ W.heap[w.heap.size + 1]? = some (.cells (rg n2 e2 X2 false) 62)) → Below W.heap.size W W1 → (Below w.heap.size w W1 ∧ W1.heap[w.heap.size]? = some (.cells (rg n1 e1 X1 false) 62) ∧ W1.heap[w.heap.size + 1]? = some (.cells (rg n2 e2 X2 false) 62))) := zK (fun W W1 h b => ⟨zW h.1 b, zA b _ _ _ h.2.1, zA b _ _ _ h.2.2⟩)
  have sC : zR (∀ W : World, (Below w.heap.size w W ∧ W.heap[w.heap.size]? = some (.cells (rg n1 e1 X1 false) 62) ∧ W.heap[w.heap.size + 1]? = some (.cells (rg n2 e2 X2 false) 62)) → (Below w.heap.size w W ∧ W.heap[w.heap.size]? = some (.cells (rg n1 e1 X1 false) 62) ∧ W.heap[w.heap.size + 1]? = some (.cells (rg n2 e2 X2 false) 62) ∧ W.cell? ⟨w.heap.size, 0, none⟩ = some (.bool n1) ∧ W.cell? ⟨w.heap.size, 1, none⟩ = some (.int .u64 (wd e1 0)) ∧ W.cell? ⟨w.heap.size, 2, none⟩ = some (.int .u64 (wd e1 1)) ∧ W.cell? ⟨w.heap.size, 3, none⟩ = some (.int .u64 (wd e1 2)) ∧ W.cell? ⟨w.heap.size, 4, none⟩ = some (.int .u64 (wd e1 3)) ∧ W.cell? ⟨w.heap.size, 5, none⟩ = some (.int .u64 (wd e1 4)) ∧ W.cell? ⟨w.heap.size, 6, none⟩ = some (.int .u64 (wd e1 5)) ∧ W.cell? ⟨w.heap.size, 7, none⟩ = some (.int .i64 X1) ∧ W.cell? ⟨w.heap.size, 8, none⟩ = some (.bool false) ∧ W.cell? ⟨w.heap.size + 1, 0, none⟩ = some (.bool n2) ∧ W.cell? ⟨w.heap.size + 1, 1, none⟩ = some (.int .u64 (wd e2 0)) ∧ W.cell? ⟨w.heap.size + 1, 2, none⟩ = some (.int .u64 (wd e2 1)) ∧ W.cell? ⟨w.heap.size + 1, 3, none⟩ = some (.int .u64 (wd e2 2)) ∧ W.cell? ⟨w.heap.size + 1, 4, none⟩ = some (.int .u64 (wd e2 3)) ∧ W.cell? ⟨w.heap.size + 1, 5, none⟩ = some (.int .u64 (wd e2 4)) ∧ W.cell? ⟨w.heap.size + 1, 6, none⟩ = some (.int .u64 (wd e2 5)) ∧ W.cell? ⟨w.heap.size + 1, 7, none⟩ = some (.int .i64 X2) ∧ W.cell? ⟨w.heap.size + 1, 8, none⟩ = some (.bool false))) := zK (fun W h => ⟨h.1, h.2.1, h.2.2, zJ (h.2.1) 0 _ rfl, zJ (h.2.1) 1 _ rfl, zJ (h.2.1) 2 _ rfl, zJ (h.2.1) 3 _ rfl, zJ (h.2.1) 4 _ rfl, zJ (h.2.1) 5 _ rfl, zJ (h.2.1) 6 _ rfl, zJ (h.2.1) 7 _ rfl, zJ (h.2.1) 8 _ rfl, zJ (h.2.2) 0 _ rfl, zJ (h.2.2) 1 _ rfl, zJ (h.2.2) 2 _ rfl, zJ (h.2.2) 3 _ rfl, zJ (h.2.2) 4 _ rfl, zJ (h.2.2) 5 _ rfl, zJ (h.2.2) 6 _ rfl, zJ (h.2.2) 7 _ rfl, zJ (h.2.2) 8 _ rfl⟩)
  have s0 : Below w.heap.size w (((w.alloc (Obj.cells (rg n1 e1 X1 false) 62)).alloc (Obj.cells (rg n2 e2 X2 false) 62))).drew ∧ (((w.alloc (Obj.cells (rg n1 e1 X1 false) 62)).alloc (Obj.cells (rg n2 e2 X2 false) 62))).drew.heap[w.heap.size]? = some (.cells (rg n1 e1 X1 false) 62) ∧ (((w.alloc (Obj.cells (rg n1 e1 X1 false) 62)).alloc (Obj.cells (rg n2 e2 X2 false) 62))).drew.heap[w.heap.size + 1]? = some (.cells (rg n2 e2 X2 false) 62) := ⟨B0.drew, Aa, Ab⟩
  go_wp2_with fail
  go_region_held3 (fun W => Below w.heap.size w W ∧ W.heap[w.heap.size]? = some (.cells (rg n1 e1 X1 false) 62) ∧ W.heap[w.heap.size + 1]? = some (.cells (rg n2 e2 X2 false) 62) ∧ W.cell? ⟨w.heap.size, 0, none⟩ = some (.bool n1) ∧ W.cell? ⟨w.heap.size, 1, none⟩ = some (.int .u64 (wd e1 0)) ∧ W.cell? ⟨w.heap.size, 2, none⟩ = some (.int .u64 (wd e1 1)) ∧ W.cell? ⟨w.heap.size, 3, none⟩ = some (.int .u64 (wd e1 2)) ∧ W.cell? ⟨w.heap.size, 4, none⟩ = some (.int .u64 (wd e1 3)) ∧ W.cell? ⟨w.heap.size, 5, none⟩ = some (.int .u64 (wd e1 4)) ∧ W.cell? ⟨w.heap.size, 6, none⟩ = some (.int .u64 (wd e1 5)) ∧ W.cell? ⟨w.heap.size, 7, none⟩ = some (.int .i64 X1) ∧ W.cell? ⟨w.heap.size, 8, none⟩ = some (.bool false) ∧ W.cell? ⟨w.heap.size + 1, 0, none⟩ = some (.bool n2) ∧ W.cell? ⟨w.heap.size + 1, 1, none⟩ = some (.int .u64 (wd e2 0)) ∧ W.cell? ⟨w.heap.size + 1, 2, none⟩ = some (.int .u64 (wd e2 1)) ∧ W.cell? ⟨w.heap.size + 1, 3, none⟩ = some (.int .u64 (wd e2 2)) ∧ W.cell? ⟨w.heap.size + 1, 4, none⟩ = some (.int .u64 (wd e2 3)) ∧ W.cell? ⟨w.heap.size + 1, 5, none⟩ = some (.int .u64 (wd e2 4)) ∧ W.cell? ⟨w.heap.size + 1, 6, none⟩ = some (.int .u64 (wd e2 5)) ∧ W.cell? ⟨w.heap.size + 1, 7, none⟩ = some (.int .i64 X2) ∧ W.cell? ⟨w.heap.size + 1, 8, none⟩ = some (.bool false)) (first | exact sC.out _ s1 | exact sC.out _ s0)
   (((first | (go_at_call_of 206 (Value.agg (rg n1 e1 X1 false)); (first | refine (K1.out _).mono ?_ | refine (K1.out _).mono ?_)) | (go_at_call_of 206 (Value.agg (rg n2 e2 X2 false)); (first | refine (K2.out _).mono ?_ | refine (K2.out _).mono ?_)) | fail); rintro r wq ⟨rfl, bq⟩; have s1 := (by first | exact sS.out _ _ s1 bq | exact sS.out _ _ s0 bq); clear bq))
  have B1 := (And.left s1)
  have Ac := s1.2.1
  have Ad := s1.2.2
  clear s0 s1 sS sC B0 Aa Ae Af Ag Ah Ai Aj Ak Al Am Ab An Ao Ap Aq Ar As At Au Av
  obtain ⟨Aw, Ax, Ay, Az, AA, AB, AC, AD, AE⟩ := zL Ac
  obtain ⟨AF, AG, AH, AI, AJ, AK, AL, AM, AN⟩ := zL Ad
  go_wp2
  go_ret
  exact ⟨rfl, B1⟩
theorem fm_from (neg : Bool) (s : Nat) (x low A1 A2 : Int) (R S : Nat) (o : Bool) (w : World)
  (K1 : zR (∀ w, Calls Tryz.prog 126 #[.agg (cw 6 s), .int .i64 A1] w fun r w' => r = .returned (.tuple #[.agg (cw 6 R), .bool o]) ∧ Below w.heap.size w w'))
  (K2 : zR (∀ w, Calls Tryz.prog 176 #[.agg (cw 6 R), .int .i64 A2] w fun r w' => r = .returned (.agg (cw 6 S)) ∧ Below w.heap.size w w'))
  (h1 : IntKind.i64.wrap (x - low) = A1) (h2 : IntKind.i64.wrap (low - x) = A2) : Calls Tryz.prog 167 #[.agg (rg neg s x false), .int .i64 low] w fun r w' => r = .returned (.agg (cw 6 S)) ∧ Below w.heap.size w w' := by
 have hat := yD 6
 have hz := yZ
 have hff := yY
 have hs0 := q8
 have hcs : ∀ x, ((cw 6 x).size = 6) = True := fun x => eq_true (z7 6 x)
 have hp1 := rgf
 obtain ⟨Ac, Ad, B0⟩ := x9 w (Obj.cells (rg neg s x false) 62) (Obj.cells (cw 6 0) 52)
 go_enter Tryz.func167, Tryz.ntmps167
 obtain ⟨Ai, Aj, Ak, Al, Am, An, Ao, Ap, Aq⟩ := zL Ac
 have Ar := zF Ad
 go_wp2_with fail
 refine (K1.out _).mono ?_
 rintro r w1 ⟨rfl, b1⟩
 have B1 := zW B0 b1
 obtain ⟨Aa, Ab⟩ := z6 b1 Ac Ad
 clear b1 B0 Ac Ai Aj Ak Al Am An Ao Ap Aq Ad Ar
 obtain ⟨As, At, Au, Av, Aw, Ax, Ay, Az, AA⟩ := zL Aa
 have AB := zF Ab
 have S2 := zK B1.size
 have AC := yC Aa
 have AD := yC Ab
 have Ae := heap_alloc_last w1 (Obj.cells (cw 6 R) 52)
 have B2 := zW B1 (yQ w1 (Obj.cells (cw 6 R) 52))
 obtain ⟨Af, Ag⟩ := z6 (yQ w1 (Obj.cells (cw 6 R) 52)) Aa Ab
 clear B1 Aa As At Au Av Aw Ax Ay Az AA Ab AB
 obtain ⟨AE, AF, AG, AH, AI, AJ, AK, AL, AM⟩ := zL Af
 have AN := zF Ag
 have AO := zF Ae
 go_wp2_with fail
 refine (K2.out _).mono ?_
 rintro r w3 ⟨rfl, b3⟩
 have B3 := zW B2 b3
 obtain ⟨AP, Ah, AQ⟩ := yI b3 Af Ag Ae
 clear b3 B2 Af AE AF AG AH AI AJ AK AL AM Ag AN Ae AO
 obtain ⟨AR, AS, AT, AU, AV, AW, AX, AY, AZ⟩ := zL AP
 have A0 := zF Ah
 have A3 := zF AQ
 have hst := xE w3 (w.heap.size + 1) S 0 Ah
 have dz := zF (zU (c' := cw 6 S) Ah)
 have bz := z9 (c := cw 6 S) B3 (show w.heap.size ≤ w.heap.size + 1 by first | exact Nat.le_refl _ | omega | (have := S2.out; have := AC.out; have := AD.out; omega))
 go_wp2
 exact bodyPost_ret (v := .agg (cw 6 S)) (by simp [results, Tryz.results167, go_sem, dz, hff]) rfl ⟨rfl, bz⟩
theorem fm_total (m : Int) (n1 : Bool) (e1 : Nat) (X1 : Int) (n2 : Bool) (e2 : Nat) (X2 : Int) (low : Int) (a b S : Nat) (o : Int) (ov lk neg : Bool) (w : World) (hlk : (n1 == n2) = lk)
  (KL : zR (∀ w, Calls Tryz.prog 166 #[.agg (rg n1 e1 X1 false), .agg (rg n2 e2 X2 false)] w fun r w' => r = .returned (.int .i64 low) ∧ Below w.heap.size w w'))
  (K1 : zR (∀ w, Calls Tryz.prog 167 #[.agg (rg n1 e1 X1 false), .int .i64 low] w fun r w' => r = .returned (.agg (cw 6 a)) ∧ Below w.heap.size w w'))
  (K2 : zR (∀ w, Calls Tryz.prog 167 #[.agg (rg n2 e2 X2 false), .int .i64 low] w fun r w' => r = .returned (.agg (cw 6 b)) ∧ Below w.heap.size w w'))
  (KC : zR (∀ w, Calls Tryz.prog 118 #[.agg (cw 6 a), .agg (cw 6 b)] w fun r w' => r = .returned (.int .i64 o) ∧ Below w.heap.size w w'))
  (H : zR ((lk = true ∧ zR (∀ w, Calls Tryz.prog 136 #[.agg (cw 6 a), .agg (cw 6 b)] w fun r w' => r = .returned (.tuple #[.agg (cw 6 S), .bool ov]) ∧ Below w.heap.size w w') ∧ n1 = neg) ∨
   (lk = false ∧ decide (0 < o) = true ∧ zR (∀ w, Calls Tryz.prog 168 #[.agg (cw 6 a), .agg (cw 6 b)] w fun r w' => r = .returned (.tuple #[.agg (cw 6 S), .bool ov]) ∧ Below w.heap.size w w') ∧ n1 = neg) ∨
   (lk = false ∧ decide (0 < o) = false ∧ decide (o < 0) = true ∧ zR (∀ w, Calls Tryz.prog 168 #[.agg (cw 6 b), .agg (cw 6 a)] w fun r w' => r = .returned (.tuple #[.agg (cw 6 S), .bool ov]) ∧ Below w.heap.size w w') ∧ n2 = neg) ∨
   (lk = false ∧ decide (0 < o) = false ∧ decide (o < 0) = false ∧ (m == 2) = neg ∧ S = 0))) :
  Calls Tryz.prog 106 #[.int .u8 m, .agg (rg n1 e1 X1 false), .agg (rg n2 e2 X2 false)] w fun r w' => r = .returned (.agg (rg neg S low false)) ∧ Below w.heap.size w w' := by
 have hat := yD 6
 have hz := yZ
 have hff := yY
 have hs0 := q8
 have hcs : ∀ x, ((cw 6 x).size = 6) = True := fun x => eq_true (z7 6 x)
 have hp1 := rgf
 have hp3 := rgz
 have hp4 := st_r0
 have hzi := cw_zip
 have hls := rg_sets
 have hp5 : ∀ (c : Bool) (s : Nat) (x : Int) (r : Bool), ((rg c s x r).size = 9) = True := fun _ _ _ _ => eq_true rfl
 have ET := ptf
 have EU : ∀ (c s : Nat) (x : Int) (r : Nat), ((pt c s x r).size = 14) = True := fun _ _ _ _ => eq_true rfl
 have hbl := bld_r2
 have hbn := rg_ne
 have hb8 := rg_lt8
 obtain ⟨Bi, Bj, Bk, B0⟩ := opn3 w (Obj.cells (rg n1 e1 X1 false) 62) (Obj.cells (rg n2 e2 X2 false) 62) (Obj.cells (rg false 0 0 false) 62)
 go_enter Tryz.func106, Tryz.ntmps106
 obtain ⟨CV, CW, CX, CY, CZ, C0, C1, C2, C3⟩ := zL Bi
 obtain ⟨C4, C5, C6, C7, C8, C9, Da, Db, Dc⟩ := zL Bj
 obtain ⟨Dd, De, Df, Dg, Dh, Di, Dj, Dk, Dl⟩ := zL Bk
 go_wp2_with fail
 refine (KL.out _).mono ?_
 rintro r w1 ⟨rfl, b1⟩
 have B1 := zW B0 b1
 obtain ⟨Af, Ag, Az⟩ := yI b1 Bi Bj Bk
 clear b1 B0 Bi CV CW CX CY CZ C0 C1 C2 C3 Bj C4 C5 C6 C7 C8 C9 Da Db Dc Bk Dd De Df Dg Dh Di Dj Dk Dl
 obtain ⟨Dm, Dn, Do, Dp, Dq, Dr, Ds, Dt, Du⟩ := zL Af
 obtain ⟨Dv, Dw, Dx, Dy, Dz, DA, DB, DC, DD⟩ := zL Ag
 obtain ⟨DE, DF, DG, DH, DI, DJ, DK, DL, DM⟩ := zL Az
 clear hs0
 obtain ⟨n0, hn0⟩ : ∃ n, w1.heap.size = n := ⟨_, rfl⟩
 have L0 : zR (w.heap.size < n0 ∧ w.heap.size + 1 < n0 ∧ w.heap.size + 1 + 1 < n0) := zK ⟨hn0 ▸ (Array.getElem?_eq_some_iff.1 Af).1, hn0 ▸ (Array.getElem?_eq_some_iff.1 Ag).1, hn0 ▸ (Array.getElem?_eq_some_iff.1 Az).1⟩
 have Lw : zR (w.heap.size ≤ n0) := zK (hn0 ▸ B1.size)
 have sS : zR (∀ W W1 : World, (Below w.heap.size w W ∧ n0 ≤ W.heap.size ∧ W.heap[w.heap.size]? = some (.cells (rg n1 e1 X1 false) 62) ∧ W.heap[w.heap.size + 1]? = some (.cells (rg n2 e2 X2 false) 62) ∧ W.heap[w.heap.size + 1 + 1]? = some (.cells (rg false 0 0 false) 62) ∧ W.cell? ⟨w.heap.size, 0, none⟩ = some (.bool n1) ∧ W.cell? ⟨w.heap.size, 1, none⟩ = some (.int .u64 (wd e1 0)) ∧ W.cell? ⟨w.heap.size, 2, none⟩ = some (.int .u64 (wd e1 1)) ∧ W.cell? ⟨w.heap.size, 3, none⟩ = some (.int .u64 (wd e1 2)) ∧ W.cell? ⟨w.heap.size, 4, none⟩ = some (.int .u64 (wd e1 3)) ∧ W.cell? ⟨w.heap.size, 5, none⟩ = some (.int .u64 (wd e1 4)) ∧ W.cell? ⟨w.heap.size, 6, none⟩ = some (.int .u64 (wd e1 5)) ∧ W.cell? ⟨w.heap.size, 7, none⟩ = some (.int .i64 X1) ∧ W.cell? ⟨w.heap.size, 8, none⟩ = some (.bool false) ∧ W.cell? ⟨w.heap.size + 1, 0, none⟩ = some (.bool n2) ∧ W.cell? ⟨w.heap.size + 1, 1, none⟩ = some (.int .u64 (wd e2 0)) ∧ W.cell? ⟨w.heap.size + 1, 2, none⟩ = some (.int .u64 (wd e2 1)) ∧ W.cell? ⟨w.heap.size + 1, 3, none⟩ = some (.int .u64 (wd e2 2)) ∧ W.cell? ⟨w.heap.size + 1, 4, none⟩ = some (.int .u64 (wd e2 3)) ∧ W.cell? ⟨w.heap.size + 1, 5, none⟩ = some (.int .u64 (wd e2 4)) ∧ W.cell? ⟨w.heap.size + 1, 6, none⟩ = some (.int .u64 (wd e2 5)) ∧ W.cell? ⟨w.heap.size + 1, 7, none⟩ = some (.int .i64 X2) ∧ W.cell? ⟨w.heap.size + 1, 8, none⟩ = some (.bool false)) → Below W.heap.size W W1 → (Below w.heap.size w W1 ∧ n0 ≤ W1.heap.size ∧ W1.heap[w.heap.size]? = some (.cells (rg n1 e1 X1 false) 62) ∧ W1.heap[w.heap.size + 1]? = some (.cells (rg n2 e2 X2 false) 62) ∧ W1.heap[w.heap.size + 1 + 1]? = some (.cells (rg false 0 0 false) 62) ∧ W1.cell? ⟨w.heap.size, 0, none⟩ = some (.bool n1) ∧ W1.cell? ⟨w.heap.size, 1, none⟩ = some (.int .u64 (wd e1 0)) ∧ W1.cell? ⟨w.heap.size, 2, none⟩ = some (.int .u64 (wd e1 1)) ∧ W1.cell? ⟨w.heap.size, 3, none⟩ = some (.int .u64 (wd e1 2)) ∧ W1.cell? ⟨w.heap.size, 4, none⟩ = some (.int .u64 (wd e1 3)) ∧ W1.cell? ⟨w.heap.size, 5, none⟩ = some (.int .u64 (wd e1 4)) ∧ W1.cell? ⟨w.heap.size, 6, none⟩ = some (.int .u64 (wd e1 5)) ∧ W1.cell? ⟨w.heap.size, 7, none⟩ = some (.int .i64 X1) ∧ W1.cell? ⟨w.heap.size, 8, none⟩ = some (.bool false) ∧ W1.cell? ⟨w.heap.size + 1, 0, none⟩ = some (.bool n2) ∧ W1.cell? ⟨w.heap.size + 1, 1, none⟩ = some (.int .u64 (wd e2 0)) ∧ W1.cell? ⟨w.heap.size + 1, 2, none⟩ = some (.int .u64 (wd e2 1)) ∧ W1.cell? ⟨w.heap.size + 1, 3, none⟩ = some (.int .u64 (wd e2 2)) ∧ W1.cell? ⟨w.heap.size + 1, 4, none⟩ = some (.int .u64 (wd e2 3)) ∧ W1.cell? ⟨w.heap.size + 1, 5, none⟩ = some (.int .u64 (wd e2 4)) ∧ W1.cell? ⟨w.heap.size + 1, 6, none⟩ = some (.int .u64 (wd e2 5)) ∧ W1.cell? ⟨w.heap.size + 1, 7, none⟩ = some (.int .i64 X2) ∧ W1.cell? ⟨w.heap.size + 1, 8, none⟩ = some (.bool false))) := zK (fun W W1 h b => ⟨zW h.1 b, Nat.le_trans h.2.1 b.size, zA b _ _ _ h.2.2.1, zA b _ _ _ h.2.2.2.1, zA b _ _ _ h.2.2.2.2.1, zJ (zA b _ _ _ h.2.2.1) 0 _ rfl, zJ (zA b _ _ _ h.2.2.1) 1 _ rfl, zJ (zA b _ _ _ h.2.2.1) 2 _ rfl, zJ (zA b _ _ _ h.2.2.1) 3 _ rfl, zJ (zA b _ _ _ h.2.2.1) 4 _ rfl, zJ (zA b _ _ _ h.2.2.1) 5 _ rfl, zJ (zA b _ _ _ h.2.2.1) 6 _ rfl, zJ (zA b _ _ _ h.2.2.1) 7 _ rfl, zJ (zA b _ _ _ h.2.2.1) 8 _ rfl, zJ (zA b _ _ _ h.2.2.2.1) 0 _ rfl, zJ (zA b _ _ _ h.2.2.2.1) 1 _ rfl, zJ (zA b _ _ _ h.2.2.2.1) 2 _ rfl, zJ (zA b _ _ _ h.2.2.2.1) 3 _ rfl, zJ (zA b _ _ _ h.2.2.2.1) 4 _ rfl, zJ (zA b _ _ _ h.2.2.2.1) 5 _ rfl, zJ (zA b _ _ _ h.2.2.2.1) 6 _ rfl, zJ (zA b _ _ _ h.2.2.2.1) 7 _ rfl, zJ (zA b _ _ _ h.2.2.2.1) 8 _ rfl⟩)
 have sT : zR (∀ (W : World) (gN : Nat) (xA : Array Value), (Below w.heap.size w W ∧ n0 ≤ W.heap.size ∧ W.heap[w.heap.size]? = some (.cells (rg n1 e1 X1 false) 62) ∧ W.heap[w.heap.size + 1]? = some (.cells (rg n2 e2 X2 false) 62) ∧ W.heap[w.heap.size + 1 + 1]? = some (.cells (rg false 0 0 false) 62) ∧ W.cell? ⟨w.heap.size, 0, none⟩ = some (.bool n1) ∧ W.cell? ⟨w.heap.size, 1, none⟩ = some (.int .u64 (wd e1 0)) ∧ W.cell? ⟨w.heap.size, 2, none⟩ = some (.int .u64 (wd e1 1)) ∧ W.cell? ⟨w.heap.size, 3, none⟩ = some (.int .u64 (wd e1 2)) ∧ W.cell? ⟨w.heap.size, 4, none⟩ = some (.int .u64 (wd e1 3)) ∧ W.cell? ⟨w.heap.size, 5, none⟩ = some (.int .u64 (wd e1 4)) ∧ W.cell? ⟨w.heap.size, 6, none⟩ = some (.int .u64 (wd e1 5)) ∧ W.cell? ⟨w.heap.size, 7, none⟩ = some (.int .i64 X1) ∧ W.cell? ⟨w.heap.size, 8, none⟩ = some (.bool false) ∧ W.cell? ⟨w.heap.size + 1, 0, none⟩ = some (.bool n2) ∧ W.cell? ⟨w.heap.size + 1, 1, none⟩ = some (.int .u64 (wd e2 0)) ∧ W.cell? ⟨w.heap.size + 1, 2, none⟩ = some (.int .u64 (wd e2 1)) ∧ W.cell? ⟨w.heap.size + 1, 3, none⟩ = some (.int .u64 (wd e2 2)) ∧ W.cell? ⟨w.heap.size + 1, 4, none⟩ = some (.int .u64 (wd e2 3)) ∧ W.cell? ⟨w.heap.size + 1, 5, none⟩ = some (.int .u64 (wd e2 4)) ∧ W.cell? ⟨w.heap.size + 1, 6, none⟩ = some (.int .u64 (wd e2 5)) ∧ W.cell? ⟨w.heap.size + 1, 7, none⟩ = some (.int .i64 X2) ∧ W.cell? ⟨w.heap.size + 1, 8, none⟩ = some (.bool false)) → n0 ≤ gN → (Below w.heap.size w (W.setRow gN xA) ∧ n0 ≤ (W.setRow gN xA).heap.size ∧ (W.setRow gN xA).heap[w.heap.size]? = some (.cells (rg n1 e1 X1 false) 62) ∧ (W.setRow gN xA).heap[w.heap.size + 1]? = some (.cells (rg n2 e2 X2 false) 62) ∧ (W.setRow gN xA).heap[w.heap.size + 1 + 1]? = some (.cells (rg false 0 0 false) 62) ∧ (W.setRow gN xA).cell? ⟨w.heap.size, 0, none⟩ = some (.bool n1) ∧ (W.setRow gN xA).cell? ⟨w.heap.size, 1, none⟩ = some (.int .u64 (wd e1 0)) ∧ (W.setRow gN xA).cell? ⟨w.heap.size, 2, none⟩ = some (.int .u64 (wd e1 1)) ∧ (W.setRow gN xA).cell? ⟨w.heap.size, 3, none⟩ = some (.int .u64 (wd e1 2)) ∧ (W.setRow gN xA).cell? ⟨w.heap.size, 4, none⟩ = some (.int .u64 (wd e1 3)) ∧ (W.setRow gN xA).cell? ⟨w.heap.size, 5, none⟩ = some (.int .u64 (wd e1 4)) ∧ (W.setRow gN xA).cell? ⟨w.heap.size, 6, none⟩ = some (.int .u64 (wd e1 5)) ∧ (W.setRow gN xA).cell? ⟨w.heap.size, 7, none⟩ = some (.int .i64 X1) ∧ (W.setRow gN xA).cell? ⟨w.heap.size, 8, none⟩ = some (.bool false) ∧ (W.setRow gN xA).cell? ⟨w.heap.size + 1, 0, none⟩ = some (.bool n2) ∧ (W.setRow gN xA).cell? ⟨w.heap.size + 1, 1, none⟩ = some (.int .u64 (wd e2 0)) ∧ (W.setRow gN xA).cell? ⟨w.heap.size + 1, 2, none⟩ = some (.int .u64 (wd e2 1)) ∧ (W.setRow gN xA).cell? ⟨w.heap.size + 1, 3, none⟩ = some (.int .u64 (wd e2 2)) ∧ (W.setRow gN xA).cell? ⟨w.heap.size + 1, 4, none⟩ = some (.int .u64 (wd e2 3)) ∧ (W.setRow gN xA).cell? ⟨w.heap.size + 1, 5, none⟩ = some (.int .u64 (wd e2 4)) ∧ (W.setRow gN xA).cell? ⟨w.heap.size + 1, 6, none⟩ = some (.int .u64 (wd e2 5)) ∧ (W.setRow gN xA).cell? ⟨w.heap.size + 1, 7, none⟩ = some (.int .i64 X2) ∧ (W.setRow gN xA).cell? ⟨w.heap.size + 1, 8, none⟩ = some (.bool false))) := zK (fun W gN xA h l => ⟨z9 h.1 (Nat.le_trans Lw.out l), Nat.le_trans h.2.1 (Below.setRow (Below.refl 0 W) (Nat.zero_le _)).size, (zI (by have := L0.out.1; omega)).trans h.2.2.1, (zI (by have := L0.out.2.1; omega)).trans h.2.2.2.1, (zI (by have := L0.out.2.2; omega)).trans h.2.2.2.2.1, zJ ((zI (by have := L0.out.1; omega)).trans h.2.2.1) 0 _ rfl, zJ ((zI (by have := L0.out.1; omega)).trans h.2.2.1) 1 _ rfl, zJ ((zI (by have := L0.out.1; omega)).trans h.2.2.1) 2 _ rfl, zJ ((zI (by have := L0.out.1; omega)).trans h.2.2.1) 3 _ rfl, zJ ((zI (by have := L0.out.1; omega)).trans h.2.2.1) 4 _ rfl, zJ ((zI (by have := L0.out.1; omega)).trans h.2.2.1) 5 _ rfl, zJ ((zI (by have := L0.out.1; omega)).trans h.2.2.1) 6 _ rfl, zJ ((zI (by have := L0.out.1; omega)).trans h.2.2.1) 7 _ rfl, zJ ((zI (by have := L0.out.1; omega)).trans h.2.2.1) 8 _ rfl, zJ ((zI (by have := L0.out.2.1; omega)).trans h.2.2.2.1) 0 _ rfl, zJ ((zI (by have := L0.out.2.1; omega)).trans h.2.2.2.1) 1 _ rfl, zJ ((zI (by have := L0.out.2.1; omega)).trans h.2.2.2.1) 2 _ rfl, zJ ((zI (by have := L0.out.2.1; omega)).trans h.2.2.2.1) 3 _ rfl, zJ ((zI (by have := L0.out.2.1; omega)).trans h.2.2.2.1) 4 _ rfl, zJ ((zI (by have := L0.out.2.1; omega)).trans h.2.2.2.1) 5 _ rfl, zJ ((zI (by have := L0.out.2.1; omega)).trans h.2.2.2.1) 6 _ rfl, zJ ((zI (by have := L0.out.2.1; omega)).trans h.2.2.2.1) 7 _ rfl, zJ ((zI (by have := L0.out.2.1; omega)).trans h.2.2.2.1) 8 _ rfl⟩)
 have z0 : zR (Below w.heap.size w (w1).drew ∧ n0 ≤ (w1).drew.heap.size ∧ (w1).drew.heap[w.heap.size]? = some (.cells (rg n1 e1 X1 false) 62) ∧ (w1).drew.heap[w.heap.size + 1]? = some (.cells (rg n2 e2 X2 false) 62) ∧ (w1).drew.heap[w.heap.size + 1 + 1]? = some (.cells (rg false 0 0 false) 62) ∧ (w1).drew.cell? ⟨w.heap.size, 0, none⟩ = some (.bool n1) ∧ (w1).drew.cell? ⟨w.heap.size, 1, none⟩ = some (.int .u64 (wd e1 0)) ∧ (w1).drew.cell? ⟨w.heap.size, 2, none⟩ = some (.int .u64 (wd e1 1)) ∧ (w1).drew.cell? ⟨w.heap.size, 3, none⟩ = some (.int .u64 (wd e1 2)) ∧ (w1).drew.cell? ⟨w.heap.size, 4, none⟩ = some (.int .u64 (wd e1 3)) ∧ (w1).drew.cell? ⟨w.heap.size, 5, none⟩ = some (.int .u64 (wd e1 4)) ∧ (w1).drew.cell? ⟨w.heap.size, 6, none⟩ = some (.int .u64 (wd e1 5)) ∧ (w1).drew.cell? ⟨w.heap.size, 7, none⟩ = some (.int .i64 X1) ∧ (w1).drew.cell? ⟨w.heap.size, 8, none⟩ = some (.bool false) ∧ (w1).drew.cell? ⟨w.heap.size + 1, 0, none⟩ = some (.bool n2) ∧ (w1).drew.cell? ⟨w.heap.size + 1, 1, none⟩ = some (.int .u64 (wd e2 0)) ∧ (w1).drew.cell? ⟨w.heap.size + 1, 2, none⟩ = some (.int .u64 (wd e2 1)) ∧ (w1).drew.cell? ⟨w.heap.size + 1, 3, none⟩ = some (.int .u64 (wd e2 2)) ∧ (w1).drew.cell? ⟨w.heap.size + 1, 4, none⟩ = some (.int .u64 (wd e2 3)) ∧ (w1).drew.cell? ⟨w.heap.size + 1, 5, none⟩ = some (.int .u64 (wd e2 4)) ∧ (w1).drew.cell? ⟨w.heap.size + 1, 6, none⟩ = some (.int .u64 (wd e2 5)) ∧ (w1).drew.cell? ⟨w.heap.size + 1, 7, none⟩ = some (.int .i64 X2) ∧ (w1).drew.cell? ⟨w.heap.size + 1, 8, none⟩ = some (.bool false)) := zK ⟨B1.drew, Nat.le_of_eq hn0.symm, Af, Ag, Az, zJ (Af) 0 _ rfl, zJ (Af) 1 _ rfl, zJ (Af) 2 _ rfl, zJ (Af) 3 _ rfl, zJ (Af) 4 _ rfl, zJ (Af) 5 _ rfl, zJ (Af) 6 _ rfl, zJ (Af) 7 _ rfl, zJ (Af) 8 _ rfl, zJ (Ag) 0 _ rfl, zJ (Ag) 1 _ rfl, zJ (Ag) 2 _ rfl, zJ (Ag) 3 _ rfl, zJ (Ag) 4 _ rfl, zJ (Ag) 5 _ rfl, zJ (Ag) 6 _ rfl, zJ (Ag) 7 _ rfl, zJ (Ag) 8 _ rfl⟩
 clear B1 Af Dm Dn Do Dp Dq Dr Ds Dt Du Ag Dv Dw Dx Dy Dz DA DB DC DD Az DE DF DG DH DI DJ DK DL DM
 clear hn0
 go_wp2_with fail
 apply cut7
 ·
  intro key0
  have key := zK key0
  clear key0
  go_region_held3 (fun W => Below w.heap.size w W ∧ n0 ≤ W.heap.size ∧ W.heap[w.heap.size]? = some (.cells (rg n1 e1 X1 false) 62) ∧ W.heap[w.heap.size + 1]? = some (.cells (rg n2 e2 X2 false) 62) ∧ W.heap[w.heap.size + 1 + 1]? = some (.cells (rg false 0 0 false) 62) ∧ W.cell? ⟨w.heap.size, 0, none⟩ = some (.bool n1) ∧ W.cell? ⟨w.heap.size, 1, none⟩ = some (.int .u64 (wd e1 0)) ∧ W.cell? ⟨w.heap.size, 2, none⟩ = some (.int .u64 (wd e1 1)) ∧ W.cell? ⟨w.heap.size, 3, none⟩ = some (.int .u64 (wd e1 2)) ∧ W.cell? ⟨w.heap.size, 4, none⟩ = some (.int .u64 (wd e1 3)) ∧ W.cell? ⟨w.heap.size, 5, none⟩ = some (.int .u64 (wd e1 4)) ∧ W.cell? ⟨w.heap.size, 6, none⟩ = some (.int .u64 (wd e1 5)) ∧ W.cell? ⟨w.heap.size, 7, none⟩ = some (.int .i64 X1) ∧ W.cell? ⟨w.heap.size, 8, none⟩ = some (.bool false) ∧ W.cell? ⟨w.heap.size + 1, 0, none⟩ = some (.bool n2) ∧ W.cell? ⟨w.heap.size + 1, 1, none⟩ = some (.int .u64 (wd e2 0)) ∧ W.cell? ⟨w.heap.size + 1, 2, none⟩ = some (.int .u64 (wd e2 1)) ∧ W.cell? ⟨w.heap.size + 1, 3, none⟩ = some (.int .u64 (wd e2 2)) ∧ W.cell? ⟨w.heap.size + 1, 4, none⟩ = some (.int .u64 (wd e2 3)) ∧ W.cell? ⟨w.heap.size + 1, 5, none⟩ = some (.int .u64 (wd e2 4)) ∧ W.cell? ⟨w.heap.size + 1, 6, none⟩ = some (.int .u64 (wd e2 5)) ∧ W.cell? ⟨w.heap.size + 1, 7, none⟩ = some (.int .i64 X2) ∧ W.cell? ⟨w.heap.size + 1, 8, none⟩ = some (.bool false)) (first | exact z0.out | exact z1.out | exact sV.out | exact sS.out _ _ z1.out (yQ _ _) | exact sS.out _ _ z0.out (yQ _ _) | exact sS.out _ _ (sS.out _ _ z1.out (yQ _ _)) (yQ _ _) | exact sS.out _ _ (sS.out _ _ z0.out (yQ _ _)) (yQ _ _) | exact sT.out _ _ _ sV.out ge1 | exact sT.out _ _ _ sV.out ge2 | exact sT.out _ _ _ (sT.out _ _ _ sV.out ge1) ge2 | exact sT.out _ _ _ (sT.out _ _ _ sV.out ge2) ge1)
   (((first | (go_at_call_of 167 (Value.agg (rg n1 e1 X1 false)); (first | refine (K1.out _).mono ?_ | refine (K1.out _).mono ?_)) | (go_at_call_of 167 (Value.agg (rg n2 e2 X2 false)); (first | refine (K2.out _).mono ?_ | refine (K2.out _).mono ?_)) | fail); rintro r wq ⟨rfl, bq⟩; (first | have sx := z1 | have sx := z0); (try clear z1); have bq0 := bq; (try simp only [zM] at bq); (first | (with_reducible have hq := nm_twoD bq0 (And.left (And.right sx.out)); obtain ⟨hg1, hg2, ge1, ge2, hd⟩ := hq) | (with_reducible have hq := nm_oneD bq0 (And.left (And.right sx.out)); obtain ⟨hg1, ge1⟩ := hq) | (with_reducible have hq := nm_two bq (And.left (And.right sx.out)); obtain ⟨hg1, hg2, ge1, ge2, hd⟩ := hq) | (with_reducible have hq := nm_oneK bq (And.left (And.right sx.out)) hg1 ge1; clear hg1 ge1; obtain ⟨hg1, hg2, ge1, ge2, hd⟩ := hq) | (with_reducible have hq := nm_one bq (And.left (And.right sx.out)); obtain ⟨hg1, ge1⟩ := hq) | (with_reducible have hq := nm_keep2 bq hg1 hg2; clear hg1 hg2; obtain ⟨hg1, hg2⟩ := hq) | (with_reducible have hq := nm_keep1 bq hg1; clear hg1; have hg1 := hq) | skip); (try simp only [xH] at hg1); (try simp only [xH] at ge1); (try simp only [xH] at hg2); (try simp only [xH] at ge2); (try simp only [xH] at hd); have z1 := zK (by first | exact sS.out _ _ sx.out bq0 | exact sS.out _ _ (sS.out _ _ sx.out (yQ _ _)) bq0 | exact sS.out _ _ (sS.out _ _ (sS.out _ _ sx.out (yQ _ _)) (yQ _ _)) bq0); clear sx; (try clear hr1 hr2 hr3 hr4 hV1 hV2 hdn sV); (first | (have hV1 := hg1; have hV2 := hg2; have hdn := hd; have sV := z1) | (have hV1 := zA (yQ wq (Obj.cells (cw 6 0) 52)) _ _ _ hg1; have hV2 := heap_alloc_last wq (Obj.cells (cw 6 0) 52); have hdn := (Array.getElem?_eq_some_iff.1 hg1).1; have ge2 := And.left (And.right z1.out); have sV := zK (sS.out _ _ z1.out (yQ wq (Obj.cells (cw 6 0) 52)))) | (have hV1 := al_row20 wq (Obj.cells (cw 6 0) 52); have hV2 := al_row21 wq (Obj.cells (cw 6 0) 52); have hdn := Nat.lt_succ_self wq.heap.size; have ge1 := And.left (And.right z1.out); have ge2 := Nat.le_succ_of_le ge1; have sV := zK (sS.out _ _ (sS.out _ _ z1.out (yQ wq (Obj.cells (cw 6 0) 52))) (yQ (wq.alloc (Obj.cells (cw 6 0) 52)) (Obj.cells (cw 6 0) 52))))); obtain ⟨hr1, hr2, hr3, hr4⟩ := two_st _ _ _ hV1 hV2 (Nat.ne_of_lt hdn); clear bq bq0))
  all_goals
   refine gen_fma_total_8_9 (R := fun W g1 g2 => (Below w.heap.size w W ∧ n0 ≤ W.heap.size ∧ W.heap[w.heap.size]? = some (.cells (rg n1 e1 X1 false) 62) ∧ W.heap[w.heap.size + 1]? = some (.cells (rg n2 e2 X2 false) 62) ∧ W.heap[w.heap.size + 1 + 1]? = some (.cells (rg false 0 0 false) 62) ∧ W.cell? ⟨w.heap.size, 0, none⟩ = some (.bool n1) ∧ W.cell? ⟨w.heap.size, 1, none⟩ = some (.int .u64 (wd e1 0)) ∧ W.cell? ⟨w.heap.size, 2, none⟩ = some (.int .u64 (wd e1 1)) ∧ W.cell? ⟨w.heap.size, 3, none⟩ = some (.int .u64 (wd e1 2)) ∧ W.cell? ⟨w.heap.size, 4, none⟩ = some (.int .u64 (wd e1 3)) ∧ W.cell? ⟨w.heap.size, 5, none⟩ = some (.int .u64 (wd e1 4)) ∧ W.cell? ⟨w.heap.size, 6, none⟩ = some (.int .u64 (wd e1 5)) ∧ W.cell? ⟨w.heap.size, 7, none⟩ = some (.int .i64 X1) ∧ W.cell? ⟨w.heap.size, 8, none⟩ = some (.bool false) ∧ W.cell? ⟨w.heap.size + 1, 0, none⟩ = some (.bool n2) ∧ W.cell? ⟨w.heap.size + 1, 1, none⟩ = some (.int .u64 (wd e2 0)) ∧ W.cell? ⟨w.heap.size + 1, 2, none⟩ = some (.int .u64 (wd e2 1)) ∧ W.cell? ⟨w.heap.size + 1, 3, none⟩ = some (.int .u64 (wd e2 2)) ∧ W.cell? ⟨w.heap.size + 1, 4, none⟩ = some (.int .u64 (wd e2 3)) ∧ W.cell? ⟨w.heap.size + 1, 5, none⟩ = some (.int .u64 (wd e2 4)) ∧ W.cell? ⟨w.heap.size + 1, 6, none⟩ = some (.int .u64 (wd e2 5)) ∧ W.cell? ⟨w.heap.size + 1, 7, none⟩ = some (.int .i64 X2) ∧ W.cell? ⟨w.heap.size + 1, 8, none⟩ = some (.bool false)) ∧ W.heap[g1]? = some (.cells (cw 6 a) 52) ∧ W.heap[g2]? = some (.cells (cw 6 b) 52) ∧ n0 ≤ g1 ∧ n0 ≤ g2) key.out ?_
   first
    | exact ⟨sT.out _ _ _ (sT.out _ _ _ sV.out ge1) ge2, set2r1 hV1 (Nat.ne_of_lt hdn), set2r2 hV2 (Nat.ne_of_lt hdn), ge1, ge2⟩
    | exact ⟨sT.out _ _ _ (sT.out _ _ _ sV.out ge2) ge1, set2r1 hV2 (Nat.ne_of_gt hdn), set2r2 hV1 (Nat.ne_of_gt hdn), ge2, ge1⟩
 rintro w2 g2_0 g2_1 ⟨s1, AA, AB, l2_0, l2_1⟩
 have B2 := And.left s1
 have AC := s1.2.2.1
 have AD := s1.2.2.2.1
 have AE := s1.2.2.2.2.1
 have H2 : zR ((w.heap.size < n0 ∧ w.heap.size + 1 < n0 ∧ w.heap.size + 1 + 1 < n0) ∧ w.heap.size ≤ n0 ∧ n0 ≤ g2_0 ∧ n0 ≤ g2_1) := zK ⟨L0.out, Lw.out, l2_0, l2_1⟩
 clear z0 s1 sS sT L0 Lw l2_0 l2_1
 obtain ⟨Bt, DN, DO, DP, DQ, DR, DS, DT, DU⟩ := zL AC
 obtain ⟨DV, DW, DX, DY, DZ, D0, D1, D2, D3⟩ := zL AD
 obtain ⟨D4, D5, D6, D7, D8, D9, Ea, Eb, Ec⟩ := zL AE
 have Ed := zF AA
 have Ee := zF AB
 have kx0 := Bt
 have S3 := zK B2.size
 have Aa := yC AC
 have Ab := yC AD
 have Ac := yC AE
 have Ad := yC AA
 have Ae := yC AB
 have Bl := heap_alloc_last w2 (Obj.cells (rg n1 0 low false) 62)
 have B3 := zW B2 (yQ w2 (Obj.cells (rg n1 0 low false) 62))
 obtain ⟨Bm, Bn, Bo, Bp, Bq⟩ := yO (yQ w2 (Obj.cells (rg n1 0 low false) 62)) AC AD AE AA AB
 clear B2 AC Bt DN DO DP DQ DR DS DT DU AD DV DW DX DY DZ D0 D1 D2 D3 AE D4 D5 D6 D7 D8 D9 Ea Eb Ec AA Ed AB Ee
 obtain ⟨Ef, Eg, Eh, Ei, Ej, Ek, El, Em, En⟩ := zL Bm
 obtain ⟨Eo, Ep, Eq, Er, Es, Et, Eu, Ev, Ew⟩ := zL Bn
 obtain ⟨Ex, Ey, Ez, EA, EB, EC, ED, EE, EF⟩ := zL Bo
 have EG := zF Bp
 have EH := zF Bq
 obtain ⟨EI, EJ, EK, EL, EM, EN, EO, EP, EQ⟩ := zL Bl
 go_wp2_with fail
 refine (KC.out _).mono ?_
 rintro r w4 ⟨rfl, b4⟩
 have B4 := zW B3 b4
 obtain ⟨Au, Av, Aw, Ax, Ay, Ao⟩ := rws6 b4 Bm Bn Bo Bp Bq Bl
 clear b4 B3 Bm Ef Eg Eh Ei Ej Ek El Em En Bn Eo Ep Eq Er Es Et Eu Ev Ew Bo Ex Ey Ez EA EB EC ED EE EF Bp EG Bq EH Bl EI EJ EK EL EM EN EO EP EQ
 obtain ⟨Bu, Bv, Bw, Bx, By, Bz, BA, BB, BC⟩ := zL Au
 obtain ⟨BD, BE, BF, BG, BH, BI, BJ, BK, BL⟩ := zL Av
 obtain ⟨BM, BN, BO, BP, BQ, BR, BS, BT, BU⟩ := zL Aw
 have BV := zF Ax
 have BW := zF Ay
 obtain ⟨BX, BY, BZ, B8, B9, Ca, Cb, Cc, Cd⟩ := zL Ao
 rcases H.out with ⟨rfl, KA, rfl⟩ | ⟨rfl, h1, KA, rfl⟩ | ⟨rfl, h1, h2, KA, rfl⟩ | ⟨rfl, h1, h2, hdn, rfl⟩
 ·
  clear H
  go_wp2_with fail
  refine (KA.out _).mono ?_
  rintro r w5 ⟨rfl, b5⟩
  have B5 := zW B4 b5
  obtain ⟨Ak, Al, Ah, Am, An, Ai⟩ := rws6 b5 Au Av Aw Ax Ay Ao
  clear b5 B4 Au Bu Bv Bw Bx By Bz BA BB BC Av BD BE BF BG BH BI BJ BK BL Aw BM BN BO BP BQ BR BS BT BU Ax BV Ay BW Ao BX BY BZ B8 B9 Ca Cb Cc Cd
  obtain ⟨AF, AG, AH, AI, AJ, AK, AL, AM, AN⟩ := zL Ak
  obtain ⟨AO, AP, AQ, AR, AS, AT, AU, AV, AW⟩ := zL Al
  obtain ⟨AX, AY, AZ, A0, A1, A2, A3, A4, A5⟩ := zL Ah
  have A6 := zF Am
  have A7 := zF An
  obtain ⟨A8, A9, Ba, Bb, Bc, Bd, Be, Bf, Bg⟩ := zL Ai
  have Br := st_r1 w5 (w2.heap.size) n1 0 low false S Ai
  have B6 := z9 (c := (rg n1 S low false)) B5 (show w.heap.size ≤ w2.heap.size by first | exact Nat.le_refl _ | omega | (have := H2.out; have := S3.out; have := Aa.out; have := Ab.out; have := Ac.out; have := Ad.out; have := Ae.out; omega))
  have Ap := zU (c' := (rg n1 S low false)) Ai
  have Aq : (w5.setRow (w2.heap.size) (rg n1 S low false)).heap[w.heap.size]? = some (.cells (rg n1 e1 X1 false) 62) := by rw [zI (by first | omega | (have := H2.out; have := S3.out; have := Aa.out; have := Ab.out; have := Ac.out; have := Ad.out; have := Ae.out; omega))]; exact Ak
  have Ar : (w5.setRow (w2.heap.size) (rg n1 S low false)).heap[w.heap.size + 1]? = some (.cells (rg n2 e2 X2 false) 62) := by rw [zI (by first | omega | (have := H2.out; have := S3.out; have := Aa.out; have := Ab.out; have := Ac.out; have := Ad.out; have := Ae.out; omega))]; exact Al
  have Aj : (w5.setRow (w2.heap.size) (rg n1 S low false)).heap[w.heap.size + 1 + 1]? = some (.cells (rg false 0 0 false) 62) := by rw [zI (by first | omega | (have := H2.out; have := S3.out; have := Aa.out; have := Ab.out; have := Ac.out; have := Ad.out; have := Ae.out; omega))]; exact Ah
  have As : (w5.setRow (w2.heap.size) (rg n1 S low false)).heap[g2_0]? = some (.cells (cw 6 a) 52) := by rw [zI (by first | omega | (have := H2.out; have := S3.out; have := Aa.out; have := Ab.out; have := Ac.out; have := Ad.out; have := Ae.out; omega))]; exact Am
  have At : (w5.setRow (w2.heap.size) (rg n1 S low false)).heap[g2_1]? = some (.cells (cw 6 b) 52) := by rw [zI (by first | omega | (have := H2.out; have := S3.out; have := Aa.out; have := Ab.out; have := Ac.out; have := Ad.out; have := Ae.out; omega))]; exact An
  obtain ⟨w6, Bs⟩ : ∃ V, w5.setRow (w2.heap.size) (rg n1 S low false) = V := ⟨_, rfl⟩
  rw [Bs] at Br B6 Aq Ar Aj As At Ap
  obtain ⟨Ce, Cf, Cg, Ch, Ci, Cj, Ck, Cl, Cm⟩ := zL Aq
  obtain ⟨Cn, Co, Cp, Cq, Cr, Cs, Ct, Cu, Cv⟩ := zL Ar
  obtain ⟨Cw, Cx, Cy, Cz, CA, CB, CC, CD, CE⟩ := zL Aj
  have CF := zF As
  have CG := zF At
  obtain ⟨CH, CI, CJ, CK, CL, CM, CN, CO, CP⟩ := zL Ap
  have hstz := st_r w6 (w.heap.size + 1 + 1) n1 S low false false 0 0 false Aj
  have RZ := zU (c' := rg n1 S low false) Aj
  obtain ⟨dz0, dz1, dz2, dz3, dz4, dz5, dz6, dz7, dz8⟩ := zL RZ
  have bz := z9 (c := rg n1 S low false) B6 (show w.heap.size ≤ w.heap.size + 1 + 1 by first | exact Nat.le_refl _ | omega | (have := H2.out; have := S3.out; have := Aa.out; have := Ab.out; have := Ac.out; have := Ad.out; have := Ae.out; omega))
  go_wp2
  exact bodyPost_ret (v := .agg (rg n1 S low false)) (by simp [results, Tryz.results106, go_sem, dz0, dz1, dz2, dz3, dz4, dz5, dz6, dz7, dz8, rgf] <;> rfl) rfl ⟨rfl, bz⟩
 ·
  clear H
  go_wp2_with fail
  refine (KA.out _).mono ?_
  rintro r w5 ⟨rfl, b5⟩
  have B5 := zW B4 b5
  obtain ⟨Ak, Al, Ah, Am, An, Ai⟩ := rws6 b5 Au Av Aw Ax Ay Ao
  clear b5 B4 Au Bu Bv Bw Bx By Bz BA BB BC Av BD BE BF BG BH BI BJ BK BL Aw BM BN BO BP BQ BR BS BT BU Ax BV Ay BW Ao BX BY BZ B8 B9 Ca Cb Cc Cd
  obtain ⟨AF, AG, AH, AI, AJ, AK, AL, AM, AN⟩ := zL Ak
  obtain ⟨AO, AP, AQ, AR, AS, AT, AU, AV, AW⟩ := zL Al
  obtain ⟨AX, AY, AZ, A0, A1, A2, A3, A4, A5⟩ := zL Ah
  have A6 := zF Am
  have A7 := zF An
  obtain ⟨A8, A9, Ba, Bb, Bc, Bd, Be, Bf, Bg⟩ := zL Ai
  have Br := st_r1 w5 (w2.heap.size) n1 0 low false S Ai
  have B6 := z9 (c := (rg n1 S low false)) B5 (show w.heap.size ≤ w2.heap.size by first | exact Nat.le_refl _ | omega | (have := H2.out; have := S3.out; have := Aa.out; have := Ab.out; have := Ac.out; have := Ad.out; have := Ae.out; omega))
  have Ap := zU (c' := (rg n1 S low false)) Ai
  have Aq : (w5.setRow (w2.heap.size) (rg n1 S low false)).heap[w.heap.size]? = some (.cells (rg n1 e1 X1 false) 62) := by rw [zI (by first | omega | (have := H2.out; have := S3.out; have := Aa.out; have := Ab.out; have := Ac.out; have := Ad.out; have := Ae.out; omega))]; exact Ak
  have Ar : (w5.setRow (w2.heap.size) (rg n1 S low false)).heap[w.heap.size + 1]? = some (.cells (rg n2 e2 X2 false) 62) := by rw [zI (by first | omega | (have := H2.out; have := S3.out; have := Aa.out; have := Ab.out; have := Ac.out; have := Ad.out; have := Ae.out; omega))]; exact Al
  have Aj : (w5.setRow (w2.heap.size) (rg n1 S low false)).heap[w.heap.size + 1 + 1]? = some (.cells (rg false 0 0 false) 62) := by rw [zI (by first | omega | (have := H2.out; have := S3.out; have := Aa.out; have := Ab.out; have := Ac.out; have := Ad.out; have := Ae.out; omega))]; exact Ah
  have As : (w5.setRow (w2.heap.size) (rg n1 S low false)).heap[g2_0]? = some (.cells (cw 6 a) 52) := by rw [zI (by first | omega | (have := H2.out; have := S3.out; have := Aa.out; have := Ab.out; have := Ac.out; have := Ad.out; have := Ae.out; omega))]; exact Am
  have At : (w5.setRow (w2.heap.size) (rg n1 S low false)).heap[g2_1]? = some (.cells (cw 6 b) 52) := by rw [zI (by first | omega | (have := H2.out; have := S3.out; have := Aa.out; have := Ab.out; have := Ac.out; have := Ad.out; have := Ae.out; omega))]; exact An
  obtain ⟨w6, Bs⟩ : ∃ V, w5.setRow (w2.heap.size) (rg n1 S low false) = V := ⟨_, rfl⟩
  rw [Bs] at Br B6 Aq Ar Aj As At Ap
  obtain ⟨Ce, Cf, Cg, Ch, Ci, Cj, Ck, Cl, Cm⟩ := zL Aq
  obtain ⟨Cn, Co, Cp, Cq, Cr, Cs, Ct, Cu, Cv⟩ := zL Ar
  obtain ⟨Cw, Cx, Cy, Cz, CA, CB, CC, CD, CE⟩ := zL Aj
  have CF := zF As
  have CG := zF At
  obtain ⟨CH, CI, CJ, CK, CL, CM, CN, CO, CP⟩ := zL Ap
  have hstz := st_r w6 (w.heap.size + 1 + 1) n1 S low false false 0 0 false Aj
  have RZ := zU (c' := rg n1 S low false) Aj
  obtain ⟨dz0, dz1, dz2, dz3, dz4, dz5, dz6, dz7, dz8⟩ := zL RZ
  have bz := z9 (c := rg n1 S low false) B6 (show w.heap.size ≤ w.heap.size + 1 + 1 by first | exact Nat.le_refl _ | omega | (have := H2.out; have := S3.out; have := Aa.out; have := Ab.out; have := Ac.out; have := Ad.out; have := Ae.out; omega))
  go_wp2
  exact bodyPost_ret (v := .agg (rg n1 S low false)) (by simp [results, Tryz.results106, go_sem, dz0, dz1, dz2, dz3, dz4, dz5, dz6, dz7, dz8, rgf] <;> rfl) rfl ⟨rfl, bz⟩
 ·
  clear H
  have qr_4 := fz (k := 0) Ao
  have B5 : Below w.heap.size w (w4.setCell ⟨w2.heap.size, 0, none⟩ (.bool n2)) := B4.setCell (by first | exact Nat.le_refl _ | (have := H2.out; have := S3.out; have := Aa.out; have := Ab.out; have := Ac.out; have := Ad.out; have := Ae.out; show w.heap.size ≤ w2.heap.size; omega)) _
  have Ai : (w4.setCell ⟨w2.heap.size, 0, none⟩ (.bool n2)).heap[w2.heap.size]? = some (.cells (rg n2 0 low false) 62) := by rw [zY Ao]; rfl
  have Ak : (w4.setCell ⟨w2.heap.size, 0, none⟩ (.bool n2)).heap[w.heap.size]? = some (.cells (rg n1 e1 X1 false) 62) := by rw [zH (by first | omega | (have := H2.out; have := S3.out; have := Aa.out; have := Ab.out; have := Ac.out; have := Ad.out; have := Ae.out; omega))]; exact Au
  have Al : (w4.setCell ⟨w2.heap.size, 0, none⟩ (.bool n2)).heap[w.heap.size + 1]? = some (.cells (rg n2 e2 X2 false) 62) := by rw [zH (by first | omega | (have := H2.out; have := S3.out; have := Aa.out; have := Ab.out; have := Ac.out; have := Ad.out; have := Ae.out; omega))]; exact Av
  have Ah : (w4.setCell ⟨w2.heap.size, 0, none⟩ (.bool n2)).heap[w.heap.size + 1 + 1]? = some (.cells (rg false 0 0 false) 62) := by rw [zH (by first | omega | (have := H2.out; have := S3.out; have := Aa.out; have := Ab.out; have := Ac.out; have := Ad.out; have := Ae.out; omega))]; exact Aw
  have Am : (w4.setCell ⟨w2.heap.size, 0, none⟩ (.bool n2)).heap[g2_0]? = some (.cells (cw 6 a) 52) := by rw [zH (by first | omega | (have := H2.out; have := S3.out; have := Aa.out; have := Ab.out; have := Ac.out; have := Ad.out; have := Ae.out; omega))]; exact Ax
  have An : (w4.setCell ⟨w2.heap.size, 0, none⟩ (.bool n2)).heap[g2_1]? = some (.cells (cw 6 b) 52) := by rw [zH (by first | omega | (have := H2.out; have := S3.out; have := Aa.out; have := Ab.out; have := Ac.out; have := Ad.out; have := Ae.out; omega))]; exact Ay
  obtain ⟨AF, AG, AH, AI, AJ, AK, AL, AM, AN⟩ := zL Ak
  obtain ⟨AO, AP, AQ, AR, AS, AT, AU, AV, AW⟩ := zL Al
  obtain ⟨AX, AY, AZ, A0, A1, A2, A3, A4, A5⟩ := zL Ah
  have A6 := zF Am
  have A7 := zF An
  obtain ⟨A8, A9, Ba, Bb, Bc, Bd, Be, Bf, Bg⟩ := zL Ai
  go_wp2_with fail
  refine (KA.out _).mono ?_
  rintro r w6 ⟨rfl, b6⟩
  have B6 := zW B5 b6
  obtain ⟨Aq, Ar, Aj, As, At, Ap⟩ := rws6 b6 Ak Al Ah Am An Ai
  clear b6 B5 Ak AF AG AH AI AJ AK AL AM AN Al AO AP AQ AR AS AT AU AV AW Ah AX AY AZ A0 A1 A2 A3 A4 A5 Am A6 An A7 Ai A8 A9 Ba Bb Bc Bd Be Bf Bg
  obtain ⟨Ce, Cf, Cg, Ch, Ci, Cj, Ck, Cl, Cm⟩ := zL Aq
  obtain ⟨Cn, Co, Cp, Cq, Cr, Cs, Ct, Cu, Cv⟩ := zL Ar
  obtain ⟨Cw, Cx, Cy, Cz, CA, CB, CC, CD, CE⟩ := zL Aj
  have CF := zF As
  have CG := zF At
  obtain ⟨CH, CI, CJ, CK, CL, CM, CN, CO, CP⟩ := zL Ap
  have ER := st_r1 w6 (w2.heap.size) n2 0 low false S Ap
  have B7 := z9 (c := (rg n2 S low false)) B6 (show w.heap.size ≤ w2.heap.size by first | exact Nat.le_refl _ | omega | (have := H2.out; have := S3.out; have := Aa.out; have := Ab.out; have := Ac.out; have := Ad.out; have := Ae.out; omega))
  have CQ := zU (c' := (rg n2 S low false)) Ap
  have CR : (w6.setRow (w2.heap.size) (rg n2 S low false)).heap[w.heap.size]? = some (.cells (rg n1 e1 X1 false) 62) := by rw [zI (by first | omega | (have := H2.out; have := S3.out; have := Aa.out; have := Ab.out; have := Ac.out; have := Ad.out; have := Ae.out; omega))]; exact Aq
  have CS : (w6.setRow (w2.heap.size) (rg n2 S low false)).heap[w.heap.size + 1]? = some (.cells (rg n2 e2 X2 false) 62) := by rw [zI (by first | omega | (have := H2.out; have := S3.out; have := Aa.out; have := Ab.out; have := Ac.out; have := Ad.out; have := Ae.out; omega))]; exact Ar
  have Bh : (w6.setRow (w2.heap.size) (rg n2 S low false)).heap[w.heap.size + 1 + 1]? = some (.cells (rg false 0 0 false) 62) := by rw [zI (by first | omega | (have := H2.out; have := S3.out; have := Aa.out; have := Ab.out; have := Ac.out; have := Ad.out; have := Ae.out; omega))]; exact Aj
  have CT : (w6.setRow (w2.heap.size) (rg n2 S low false)).heap[g2_0]? = some (.cells (cw 6 a) 52) := by rw [zI (by first | omega | (have := H2.out; have := S3.out; have := Aa.out; have := Ab.out; have := Ac.out; have := Ad.out; have := Ae.out; omega))]; exact As
  have CU : (w6.setRow (w2.heap.size) (rg n2 S low false)).heap[g2_1]? = some (.cells (cw 6 b) 52) := by rw [zI (by first | omega | (have := H2.out; have := S3.out; have := Aa.out; have := Ab.out; have := Ac.out; have := Ad.out; have := Ae.out; omega))]; exact At
  obtain ⟨w7, ES⟩ : ∃ V, w6.setRow (w2.heap.size) (rg n2 S low false) = V := ⟨_, rfl⟩
  rw [ES] at ER B7 CR CS Bh CT CU CQ
  obtain ⟨EV, EW, EX, EY, EZ, E0, E1, E2, E3⟩ := zL CR
  obtain ⟨E4, E5, E6, E7, E8, E9, Fa, Fb, Fc⟩ := zL CS
  obtain ⟨Fd, Fe, Ff, Fg, Fh, Fi, Fj, Fk, Fl⟩ := zL Bh
  have Fm := zF CT
  have Fn := zF CU
  obtain ⟨Fo, Fp, Fq, Fr, Fs, Ft, Fu, Fv, Fw⟩ := zL CQ
  have hstz := st_r w7 (w.heap.size + 1 + 1) n2 S low false false 0 0 false Bh
  have RZ := zU (c' := rg n2 S low false) Bh
  obtain ⟨dz0, dz1, dz2, dz3, dz4, dz5, dz6, dz7, dz8⟩ := zL RZ
  have bz := z9 (c := rg n2 S low false) B7 (show w.heap.size ≤ w.heap.size + 1 + 1 by first | exact Nat.le_refl _ | omega | (have := H2.out; have := S3.out; have := Aa.out; have := Ab.out; have := Ac.out; have := Ad.out; have := Ae.out; omega))
  go_wp2
  exact bodyPost_ret (v := .agg (rg n2 S low false)) (by simp [results, Tryz.results106, go_sem, dz0, dz1, dz2, dz3, dz4, dz5, dz6, dz7, dz8, rgf] <;> rfl) rfl ⟨rfl, bz⟩
 ·
  clear H
  have qr_4 := fz (k := 0) Ao
  have B5 : Below w.heap.size w (w4.setCell ⟨w2.heap.size, 0, none⟩ (.bool neg)) := B4.setCell (by first | exact Nat.le_refl _ | (have := H2.out; have := S3.out; have := Aa.out; have := Ab.out; have := Ac.out; have := Ad.out; have := Ae.out; show w.heap.size ≤ w2.heap.size; omega)) _
  have Ai : (w4.setCell ⟨w2.heap.size, 0, none⟩ (.bool neg)).heap[w2.heap.size]? = some (.cells (rg neg 0 low false) 62) := by rw [zY Ao]; rfl
  have Ak : (w4.setCell ⟨w2.heap.size, 0, none⟩ (.bool neg)).heap[w.heap.size]? = some (.cells (rg n1 e1 X1 false) 62) := by rw [zH (by first | omega | (have := H2.out; have := S3.out; have := Aa.out; have := Ab.out; have := Ac.out; have := Ad.out; have := Ae.out; omega))]; exact Au
  have Al : (w4.setCell ⟨w2.heap.size, 0, none⟩ (.bool neg)).heap[w.heap.size + 1]? = some (.cells (rg n2 e2 X2 false) 62) := by rw [zH (by first | omega | (have := H2.out; have := S3.out; have := Aa.out; have := Ab.out; have := Ac.out; have := Ad.out; have := Ae.out; omega))]; exact Av
  have Ah : (w4.setCell ⟨w2.heap.size, 0, none⟩ (.bool neg)).heap[w.heap.size + 1 + 1]? = some (.cells (rg false 0 0 false) 62) := by rw [zH (by first | omega | (have := H2.out; have := S3.out; have := Aa.out; have := Ab.out; have := Ac.out; have := Ad.out; have := Ae.out; omega))]; exact Aw
  have Am : (w4.setCell ⟨w2.heap.size, 0, none⟩ (.bool neg)).heap[g2_0]? = some (.cells (cw 6 a) 52) := by rw [zH (by first | omega | (have := H2.out; have := S3.out; have := Aa.out; have := Ab.out; have := Ac.out; have := Ad.out; have := Ae.out; omega))]; exact Ax
  have An : (w4.setCell ⟨w2.heap.size, 0, none⟩ (.bool neg)).heap[g2_1]? = some (.cells (cw 6 b) 52) := by rw [zH (by first | omega | (have := H2.out; have := S3.out; have := Aa.out; have := Ab.out; have := Ac.out; have := Ad.out; have := Ae.out; omega))]; exact Ay
  obtain ⟨AF, AG, AH, AI, AJ, AK, AL, AM, AN⟩ := zL Ak
  obtain ⟨AO, AP, AQ, AR, AS, AT, AU, AV, AW⟩ := zL Al
  obtain ⟨AX, AY, AZ, A0, A1, A2, A3, A4, A5⟩ := zL Ah
  have A6 := zF Am
  have A7 := zF An
  obtain ⟨A8, A9, Ba, Bb, Bc, Bd, Be, Bf, Bg⟩ := zL Ai
  have hstz := st_r (w4.setCell ⟨w2.heap.size, 0, none⟩ (.bool neg)) (w.heap.size + 1 + 1) neg 0 low false false 0 0 false Ah
  have RZ := zU (c' := rg neg 0 low false) Ah
  obtain ⟨dz0, dz1, dz2, dz3, dz4, dz5, dz6, dz7, dz8⟩ := zL RZ
  have bz := z9 (c := rg neg 0 low false) B5 (show w.heap.size ≤ w.heap.size + 1 + 1 by first | exact Nat.le_refl _ | omega | (have := H2.out; have := S3.out; have := Aa.out; have := Ab.out; have := Ac.out; have := Ad.out; have := Ae.out; omega))
  go_wp2
  exact bodyPost_ret (v := .agg (rg neg 0 low false)) (by simp [results, Tryz.results106, go_sem, dz0, dz1, dz2, dz3, dz4, dz5, dz6, dz7, dz8, rgf] <;> rfl) rfl ⟨rfl, bz⟩
end Go.Proofs.YtapikkbifdldfaaGreatDoor
