/-
  What the functions that the statement reaches return: part 9 (KD, KE, KF, KG, KH).
-/
import Derived.Test.YtkblmpmkchkpjaaGreatDoorKt08
namespace Go.Proofs.YtkblmpmkchkpjaaGreatDoor
set_option maxRecDepth 100000
set_option maxHeartbeats 40000000
open Go.RowKit WMath
set_option linter.unusedSimpArgs false
set_option linter.unusedVariables false
theorem or_bit_lo (t k : Nat) (h : t < 2 ^ k) : 2 ^ k ||| t = 2 ^ k + t := by
 have e := Nat.two_pow_add_eq_or_of_lt h 1
 rw [Nat.mul_one] at e
 exact e.symm
theorem cnt_k8 {i : Nat} (h : i < 384) : xS (i : Int) = i := by unfold xS; omega
theorem kparts_is (f : Int) (hf : yT f) (x y n : Nat) (hx : x < 18446744073709551616) (hy : y < 18446744073709551616) (hn : y + 18446744073709551616 * x = n) (w : World) (hT : yF w) :
  Calls Tryz.prog 77 #[.int .u8 f, .agg #[.int .u64 x, .int .u64 y]] w fun r w' => r = .returned (.agg (pt (kC f n) (kS f n) (kX f n) (kF f n))) ∧ Below w.heap.size w w' := by
 have f4 := yL hf
 obtain ⟨u, v, huv⟩ : ∃ u v, xL (kT f n) = (u, v) := ⟨_, _, rfl⟩
 obtain ⟨g1, g2, g3, g4, g5, g6, g7⟩ := fm hf
 have tl := xR (f := f) n
 have el := kE_le (f := f) n
 have tn : kT f n < 340282366920938463463374607431768211456 := by rw [g1, Nat.add_mul] at g7; omega
 have pn : 2 ^ pV f + kT f n < 340282366920938463463374607431768211456 := by rw [g1, Nat.add_mul] at g7; have := Nat.mul_le_mul_right (2 ^ pV f) g5; omega
 obtain ⟨u1, v1, t1⟩ := bv_lt tn huv
 obtain ⟨p1, p2, p3, p4, _⟩ := pV_lim hf
 obtain ⟨l1, l2, l3, l4, l5⟩ := lx_lim hf
 have KC : zP (∀ w, yF w → Calls Tryz.prog 53 #[.int .u8 f, .agg #[.int .u64 x, .int .u64 y]] w fun r w' => r = .returned (.int .u8 ((kC f n : Nat) : Int)) ∧ Below w.heap.size w w') := zK (fun w hT => kclass_is f hf x y n _ hx hy hn rfl w hT)
 have KF : zP (∀ w, yF w → Calls Tryz.prog 127 #[.int .u8 f, .agg #[.int .u64 x, .int .u64 y]] w fun r w' => r = .returned (.agg #[.int .u64 u, .int .u64 v]) ∧ Below w.heap.size w w') := zK (fun w hT => kfraction_is f hf x y n u v hx hy hn huv w hT)
 have KO : zP (∀ w, Calls Tryz.prog 141 #[.agg #[.int .u64 u, .int .u64 v]] w fun r w' => r = .returned (.agg (cw 6 (kT f n))) ∧ Below w.heap.size w w') := zK (fun w => wofbits_is u v _ u1 v1 t1 w)
 have KL : zP (∀ w, yF w → Calls Tryz.prog 162 #[.int .u8 f] w fun r w' => r = .returned (.int .i64 (lx f)) ∧ Below w.heap.size w w') := zK (fun w hT => kleast_is f hf _ rfl w hT)
 have cl := kC_lt f n
 by_cases c1 : kC f n = 8 ∨ kC f n = 9
 ·
  have e1 : kS f n = 0 ∧ kX f n = 0 ∧ kF f n = kT f n := by
   unfold kS kX kF
   rw [if_neg (by omega), if_neg (by omega), if_neg (by omega), if_neg (by omega), if_pos c1]
   exact ⟨rfl, rfl, rfl⟩
  rw [e1.1, e1.2.1, e1.2.2]
  exact kparts_nan f x y _ u v _ w KC KF KO c1 hT
 by_cases c2 : kC f n = 2 ∨ kC f n = 5
 ·
  have e1 : kS f n = kT f n ∧ kX f n = lx f ∧ kF f n = 0 := by
   unfold kS kX kF
   rw [if_pos c2, if_pos c2, if_neg c1]
   exact ⟨rfl, rfl, rfl⟩
  rw [e1.1, e1.2.1, e1.2.2]
  exact kparts_sub f x y _ u v _ _ w KC KF KO KL c2 hT
 by_cases c3 : kC f n = 1 ∨ kC f n = 6
 ·
  have e1 : kS f n = 2 ^ pV f + kT f n ∧ kX f n = lx f + (kE f n : Int) - 1 ∧ kF f n = 0 := by
   unfold kS kX kF
   rw [if_neg c2, if_neg c2, if_neg c1, if_pos c3, if_pos c3]
   exact ⟨rfl, rfl, rfl⟩
  rw [e1.1, e1.2.1, e1.2.2]
  have pl : 2 ^ pV f < Q := yR (by omega)
  exact kparts_norm f x y _ u v _ (lx f) (fP f) _ (pV f) (2 ^ pV f) _ (kE f n) w KC KF KO KL
   (zK (fun w => wof_al 1 (by decide) w)) (zK (fun w hT => kb_precision f _ f4.1 f4.2.1 rfl w hT))
   (zK (fun w => wleft_is 1 (2 ^ pV f) _ false (yR (by omega)) (by rw [cnt_k8 (by omega), Nat.one_mul, Nat.mod_eq_of_lt pl]) (by rw [cnt_k8 (by omega), Nat.one_mul]; simp; omega) w))
   (zK (fun w => wor_is (2 ^ pV f) (kT f n) _ pl (yR (by omega)) (or_bit_lo _ _ tl) w))
   (zK (fun w hT => kfield_is f hf x y n _ hx hy hn rfl w hT)) p2 (by rw [IntKind.wrap_i64]; omega) (by rw [IntKind.wrap_i64]; omega) (by rw [IntKind.wrap_i64]; omega) c3 hT
 ·
  have e1 : kS f n = 0 ∧ kX f n = 0 ∧ kF f n = 0 := by
   unfold kS kX kF
   rw [if_neg c2, if_neg c2, if_neg c1, if_neg c3, if_neg c3]
   exact ⟨rfl, rfl, rfl⟩
  rw [e1.1, e1.2.1, e1.2.2]
  exact kparts_none f x y _ u v _ w KC KF KO (by omega) hT
theorem kUnpack_yes (f : Int) (hf : yT f) (x y n c s rr : Nat) (X : Int) (hx : x < 18446744073709551616) (hy : y < 18446744073709551616) (hn : y + 18446744073709551616 * x = n) (ho : okB f n = true) (hp : kp f n = (c, s, X, rr)) (w : World) (hT : yF w) :
  Calls Tryz.prog 29 #[.int .u8 f, .agg #[.int .u64 x, .int .u64 y]] w fun r w' => r = .returned (.tuple #[.agg (pt c s X rr), .int .i64 0]) ∧ Below w.heap.size w w' := by
 have f4 := yL hf
 have K1 := zK (sk_fits f x y n true f4.1 f4.2.1 hx hy hn ho)
 have K2 := zK (kparts_is f hf x y n hx hy hn)
 unfold kp at hp
 injection hp with h1 h2
 injection h2 with h2 h3
 injection h3 with h3 h4
 rw [h1, h2, h3, h4] at K2
 have hat := zU 6
 have hz := yB
 have hff := z8
 have hs0 := xO
 have hcs : ∀ x, ((cw 6 x).size = 6) = True := fun x => eq_true (zR 6 x)
 have hp1 := xP
 have hp3 := ptz
 have hp5 : ∀ (c s : Nat) (x : Int) (r : Nat), ((pt c s x r).size = 14) = True := fun _ _ _ _ => eq_true rfl
 have TT := zK hT
 clear hT hf hx hy hn ho h1 h2 h3 h4
 obtain ⟨Ad, Ae, B0⟩ := yS w (Obj.cells #[.int .u64 x, .int .u64 y] 25) (Obj.cells (pt 0 0 0 0) 68)
 go_enter Tryz.func29, Tryz.ntmps29
 go_wp2_with fail
 refine (K1.out _ (zY TT.out B0)).mono ?_
 rintro r w1 ⟨rfl, b1⟩
 have B1 : Below w.heap.size w w1 := zL B0 b1
 obtain ⟨Aa, Ab⟩ := zV b1 Ad Ae
 clear b1 B0 Ad Ae
 obtain ⟨Af, Ag⟩ := zF Aa
 obtain ⟨Ah, Ai, Aj, Ak, Al, Am, An, Ao, Ap, Aq, Ar, As, At, Au⟩ := zD Ab
 go_wp2_with fail
 refine (K2.out _ (zY TT.out B1)).mono ?_
 rintro r w2 ⟨rfl, b2⟩
 have B2 : Below w.heap.size w w2 := zL B1 b2
 obtain ⟨Av, Ac⟩ := zV b2 Aa Ab
 clear b2 B1 Aa Af Ag Ab Ah Ai Aj Ak Al Am An Ao Ap Aq Ar As At Au
 obtain ⟨Aw, Ax⟩ := zF Av
 obtain ⟨Ay, Az, AA, AB, AC, AD, AE, AF, AG, AH, AI, AJ, AK, AL⟩ := zD Ac
 have hstz := st_p w2 (w.heap.size + 1) c s X rr 0 0 0 0 Ac
 have RZ := zO (c' := pt c s X rr) Ac
 obtain ⟨dz0, dz1, dz2, dz3, dz4, dz5, dz6, dz7, dz8, dz9, dz10, dz11, dz12, dz13⟩ := zD RZ
 have bz := zX (c := pt c s X rr) B2 (show w.heap.size ≤ w.heap.size + 1 by first | exact Nat.le_refl _ | omega | (skip; omega))
 go_wp2
 exact bodyPost_ret (v := .tuple #[.agg (pt c s X rr), .int .i64 0]) (by simp [results, Tryz.results29, go_sem, dz0, dz1, dz2, dz3, dz4, dz5, dz6, dz7, dz8, dz9, dz10, dz11, dz12, dz13, xP] <;> rfl) rfl ⟨rfl, bz⟩
theorem kUnpack_no (f : Int) (h0 : 0 ≤ f) (h1 : f ≤ 255) (x y n : Nat) (hx : x < 18446744073709551616) (hy : y < 18446744073709551616) (hn : y + 18446744073709551616 * x = n) (ho : okB f n = false) (w : World) (hT : yF w) :
  Calls Tryz.prog 29 #[.int .u8 f, .agg #[.int .u64 x, .int .u64 y]] w fun r w' => r = .returned (.tuple #[.agg (pt 0 0 0 0), .int .i64 2]) ∧ Below w.heap.size w w' := by
 have K1 := zK (sk_fits f x y n false h0 h1 hx hy hn ho)
 have hat := zU 6
 have hz := yB
 have hff := z8
 have hs0 := xO
 have hcs : ∀ x, ((cw 6 x).size = 6) = True := fun x => eq_true (zR 6 x)
 have hp1 := xP
 have hp3 := ptz
 have hp5 : ∀ (c s : Nat) (x : Int) (r : Nat), ((pt c s x r).size = 14) = True := fun _ _ _ _ => eq_true rfl
 have TT := zK hT
 clear hT hx hy hn ho
 obtain ⟨Ab, Ac, B0⟩ := yS w (Obj.cells #[.int .u64 x, .int .u64 y] 25) (Obj.cells (pt 0 0 0 0) 68)
 go_enter Tryz.func29, Tryz.ntmps29
 go_wp2_with fail
 refine (K1.out _ (zY TT.out B0)).mono ?_
 rintro r w1 ⟨rfl, b1⟩
 have B1 : Below w.heap.size w w1 := zL B0 b1
 obtain ⟨Ad, Aa⟩ := zV b1 Ab Ac
 clear b1 B0 Ab Ac
 obtain ⟨Ae, Af⟩ := zF Ad
 obtain ⟨Ag, Ah, Ai, Aj, Ak, Al, Am, An, Ao, Ap, Aq, Ar, As, At⟩ := zD Aa
 have hstz := st_p w1 (w.heap.size + 1) 0 0 0 0 0 0 0 0 Aa
 have RZ := zO (c' := pt 0 0 0 0) Aa
 obtain ⟨dz0, dz1, dz2, dz3, dz4, dz5, dz6, dz7, dz8, dz9, dz10, dz11, dz12, dz13⟩ := zD RZ
 have bz := zX (c := pt 0 0 0 0) B1 (show w.heap.size ≤ w.heap.size + 1 by first | exact Nat.le_refl _ | omega | (skip; omega))
 go_wp2
 exact bodyPost_ret (v := .tuple #[.agg (pt 0 0 0 0), .int .i64 2]) (by simp [results, Tryz.results29, go_sem, dz0, dz1, dz2, dz3, dz4, dz5, dz6, dz7, dz8, dz9, dz10, dz11, dz12, dz13, xP] <;> rfl) rfl ⟨rfl, bz⟩
theorem kalive (w : World) (hT : yF w) : Calls Tryz.prog 11 #[] w fun r w' => r = .returned (.bool true) ∧ Below w.heap.size w w' := by
 have hf2 : yT 2 := Or.inr (Or.inr (Or.inl rfl))
 have K1 : zP (∀ w, yF w → Calls Tryz.prog 20 #[.int .u8 2, .agg #[.int .u64 0, .int .u64 32768]] w fun r w' => r = .returned (.tuple #[.int .u8 3, .int .i64 0]) ∧ Below w.heap.size w w') := zK (fun w hT => kClass_yes 2 hf2 0 32768 32768 3 (by decide) (by decide) (by decide) (by decide +kernel) (by decide +kernel) w hT)
 have K2 : zP (∀ w, yF w → Calls Tryz.prog 29 #[.int .u8 2, .agg #[.int .u64 0, .int .u64 15360]] w fun r w' => r = .returned (.tuple #[.agg (pt 6 1024 (-10) 0), .int .i64 0]) ∧ Below w.heap.size w w') := zK (fun w hT => kUnpack_yes 2 hf2 0 15360 15360 6 1024 0 (-10) (by decide) (by decide) (by decide) (by decide +kernel) (by decide +kernel) w hT)
 have K3 : zP (∀ w, yF w → Calls Tryz.prog 20 #[.int .u8 4, .agg #[.int .u64 0, .int .u64 0]] w fun r w' => r = .returned (.tuple #[.int .u8 0, .int .i64 2]) ∧ Below w.heap.size w w') := zK (fun w hT => kClass_no 4 (by decide) (by decide) 0 0 0 (by decide) (by decide) (by decide) (by decide +kernel) w hT)
 have hat := zU 6
 have hz := yB
 have hff := z8
 have hs0 := xO
 have hcs : ∀ x, ((cw 6 x).size = 6) = True := fun x => eq_true (zR 6 x)
 have heq := eq6
 have hg := eqg6
 have h1024 : (1024 : Nat) < Q := yR (by decide)
 have hset : (cw 6 0).setIfInBounds 0 (.int .u64 1024) = cw 6 1024 := set0 1024 (by decide)
 have hp1 := xP
 have hp3 := ptz
 have hp4 := yI
 have hp5 : ∀ (c s : Nat) (x : Int) (r : Nat), ((pt c s x r).size = 14) = True := fun _ _ _ _ => eq_true rfl
 have ha1 := xD
 have ha2 := xC
 have ha3 := y9
 have ha4 := y8
 have ha5 := y7
 have ha6 := y6
 have ha7 := yZ
 have TT := zK hT
 clear hT hf2
 have B0 : Below w.heap.size w w := (Below.refl _ _)
 go_enter Tryz.func11, Tryz.ntmps11
 go_wp2_with fail
 refine (K1.out _ (zY TT.out B0)).mono ?_
 rintro r w1 ⟨rfl, b1⟩
 have B1 : Below w.heap.size w w1 := zL B0 b1
 clear b1 B0 
 go_wp2_with fail
 refine (K2.out _ (zY TT.out B1)).mono ?_
 rintro r w2 ⟨rfl, b2⟩
 have B2 : Below w.heap.size w w2 := zL B1 b2
 clear b2 B1 
 have S3 := zK B2.size
 have Aa := heap_alloc_last w2 (Obj.cells (pt 6 1024 (-10) 0) 68)
 have B3 := zL B2 (zQ w2 (Obj.cells (pt 6 1024 (-10) 0) 68))
 clear B2 
 obtain ⟨Ab, Ac, Ad, Ae, Af, Ag, Ah, Ai, Aj, Ak, Al, Am, An, Ao⟩ := zD Aa
 go_wp2_with fail
 refine (K3.out _ (zY TT.out B3)).mono ?_
 rintro r w4 ⟨rfl, b4⟩
 have B4 : Below w.heap.size w w4 := zL B3 b4
 have Ap := zA b4 _ _ _ Aa
 clear b4 B3 Aa Ab Ac Ad Ae Af Ag Ah Ai Aj Ak Al Am An Ao
 obtain ⟨Aq, Ar, As, At, Au, Av, Aw, Ax, Ay, Az, AA, AB, AC, AD⟩ := zD Ap
 go_wp2
 go_ret
 exact ⟨rfl, B4⟩

theorem kfits_law (f : Int) (x y n : Nat) (o : Bool) (h0 : 0 ≤ f) (hx : x < 18446744073709551616) (hy : y < 18446744073709551616) (hn : y + 18446744073709551616 * x = n) (ho : okB f n = o) (w : World) : Calls Tryz.prog 7 #[.int .u8 f, .agg #[.int .u64 x, .int .u64 y]] w fun r w' => r = .returned (.bool o) ∧ Below w.heap.size w w' := by
 have K1 := zK (rk_fits f x y n o h0 hx hy hn ho)
 clear hx hy hn ho
 obtain ⟨Aa, B0⟩ := x9 w (Obj.cells #[.int .u64 x, .int .u64 y] 25)
 go_enter Tryz.func7, Tryz.ntmps7
 go_wp2_with fail
 refine (K1.out _).mono ?_
 rintro r w1 ⟨rfl, b1⟩
 have B1 : Below w.heap.size w w1 := zL B0 b1
 have Ab := zA b1 _ _ _ Aa
 clear b1 B0 Aa
 obtain ⟨Ac, Ad⟩ := zF Ab
 go_wp2
 go_ret
 exact ⟨rfl, B1⟩
theorem lt_128 {s : Nat} (hs : s < Q) : (wd s 0 + 18446744073709551616 * wd s 1 = s) ↔ s < 340282366920938463463374607431768211456 := by
 constructor
 ·
  intro h
  have := yH s 0
  have := yH s 1
  omega
 ·
  intro h
  rw [(wd01 h).1, (wd01 h).2]; omega
theorem ktobits_one (s u v : Nat) (hs : s < Q) (huv : xL (toB s) = (u, v)) : ∃ o, ∀ w, Calls Tryz.prog 143 #[.agg (cw 6 s)] w fun r w' => r = .returned (.tuple #[.agg #[.int .u64 u, .int .u64 v], .bool o]) ∧ Below w.heap.size w w' := by
 unfold toB xL at huv
 by_cases h : s < 340282366920938463463374607431768211456
 ·
  rw [if_pos h] at huv
  injection huv with h1 h2
  refine ⟨true, fun w => ?_⟩
  have k := wtobits_yes s hs ((lt_128 hs).2 h) w
  rw [(wd01 h).1, (wd01 h).2, h1, h2] at k
  exact k
 ·
  rw [if_neg h] at huv
  injection huv with h1 h2
  refine ⟨false, fun w => ?_⟩
  have k := wtobits_no s hs (fun e => h ((lt_128 hs).1 e)) w
  rw [← h1, ← h2]
  exact k
theorem toB_lt (s : Nat) : toB s < 340282366920938463463374607431768211456 := by unfold toB; split <;> omega
theorem plN_lt (f : Int) (u : Nat) : plN f u < 340282366920938463463374607431768211456 := by
 unfold plN
 split
 ·
  exact Nat.mod_lt _ (by decide)
 ·
  exact Nat.lt_trans (Nat.mod_lt _ (by decide)) (by decide)
theorem kfinite_is (f : Int) (hf : yT f) (s a b : Nat) (X : Int) (hs : s < Q) (x1 : -9223372036854775808 ≤ X) (x2 : X ≤ 9223372036854775807) (hv : xL (fb f s X) = (a, b)) (w : World) (hT : yF w) :
  Calls Tryz.prog 101 #[.int .u8 f, .agg (cw 6 s), .int .i64 X] w fun r w' => r = .returned (.agg #[.int .u64 a, .int .u64 b]) ∧ Below w.heap.size w w' := by
 have hat := zU 6
 have hz := yB
 have hff := z8
 have hs0 := xO
 have hcs : ∀ x, ((cw 6 x).size = 6) = True := fun x => eq_true (zR 6 x)
 obtain ⟨u, v, huv⟩ : ∃ u v, xL (toB s) = (u, v) := ⟨_, _, rfl⟩
 obtain ⟨o, ho⟩ := ktobits_one s u v hs huv
 have K1 := zK ho
 obtain ⟨u1, v1, uv⟩ := bv_lt (toB_lt s) huv
 have K2 := zK (fun w hT => kleast_is f hf (lx f) rfl w hT)
 obtain ⟨_, _, _, p4, _⟩ := pV_lim hf
 obtain ⟨_, _, l3, l4, _⟩ := lx_lim hf
 have K3 := zK (fun w hT => kfw f hf (pV f) rfl w hT)
 obtain ⟨c, d, hcd⟩ : ∃ u v, xL (plN f (u64w (X - lx f))) = (u, v) := ⟨_, _, rfl⟩
 have ul : u64w (X - lx f) < 18446744073709551616 := by unfold u64w; omega
 have K4 := zK (kplaced_is (u64w (X - lx f)) (pV f) c d ul p4 (by rw [plG_is hf]; exact hcd))
 obtain ⟨c1, d1, cd⟩ := bv_lt (plN_lt f _) hcd
 have K5 := zK (kplus_is c d u v _ _ a b c1 d1 cd u1 v1 uv hv)
 have e1 : IntKind.u64.wrap (IntKind.i64.wrap (X - lx f)) = (u64w (X - lx f) : Int) := by
  unfold u64w
  rw [IntKind.wrap_u64, IntKind.wrap_i64]
  omega
 obtain ⟨L, hL⟩ : ∃ q, lx f = q := ⟨_, rfl⟩
 rw [hL] at K2 K4 e1
 obtain ⟨U, hU⟩ : ∃ q, u64w (X - L) = q := ⟨_, rfl⟩
 rw [hU] at K4 e1
 obtain ⟨P, hP⟩ : ∃ q, pV f = q := ⟨_, rfl⟩
 rw [hP] at K3 K4
 have TT := zK hT
 clear hT hf hs x1 x2 hv huv ho u1 v1 uv p4 l3 l4 hcd ul c1 d1 cd hL hU hP
 obtain ⟨Ag, Ah, B0⟩ := yS w (Obj.cells (cw 6 s) 66) (Obj.cells #[.int .u64 0, .int .u64 0] 25)
 go_enter Tryz.func101, Tryz.ntmps101
 go_wp2_with fail
 refine (K1.out _).mono ?_
 rintro r w1 ⟨rfl, b1⟩
 have B1 : Below w.heap.size w w1 := zL B0 b1
 obtain ⟨Aa, Ab⟩ := zV b1 Ag Ah
 clear b1 B0 Ag Ah
 have An := zE Aa
 obtain ⟨Ao, Ap⟩ := zF Ab
 have S2 := zK B1.size
 have Ai := yA Aa
 have Aj := yA Ab
 have Ak := heap_alloc_last w1 (Obj.cells #[.int .u64 u, .int .u64 v] 25)
 have B2 := zL B1 (zQ w1 (Obj.cells #[.int .u64 u, .int .u64 v] 25))
 obtain ⟨Al, Am⟩ := zV (zQ w1 (Obj.cells #[.int .u64 u, .int .u64 v] 25)) Aa Ab
 clear B1 Aa An Ab Ao Ap
 have Aq := zE Al
 obtain ⟨Ar, As⟩ := zF Am
 obtain ⟨At, Au⟩ := zF Ak
 have sS : zP (∀ W W1 : World, (Below w.heap.size w W ∧ W.heap[w.heap.size]? = some (.cells (cw 6 s) 66) ∧ W.heap[w1.heap.size]? = some (.cells #[.int .u64 u, .int .u64 v] 25)) → Below W.heap.size W W1 → (Below w.heap.size w W1 ∧ W1.heap[w.heap.size]? = some (.cells (cw 6 s) 66) ∧ W1.heap[w1.heap.size]? = some (.cells #[.int .u64 u, .int .u64 v] 25))) := zK (fun W W1 h b => ⟨zL h.1 b, zA b _ _ _ h.2.1, zA b _ _ _ h.2.2⟩)
 have HH := zK (And.intro S2.out (And.intro Ai.out Aj.out))
 have sT : zP (∀ (W : World) (xA xB : Value), (Below w.heap.size w W ∧ W.heap[w.heap.size]? = some (.cells (cw 6 s) 66) ∧ W.heap[w1.heap.size]? = some (.cells #[.int .u64 u, .int .u64 v] 25)) → (Below w.heap.size w ((W.setCell ⟨w.heap.size + 1, 0, none⟩ xA).setCell ⟨w.heap.size + 1, 1, none⟩ xB) ∧ ((W.setCell ⟨w.heap.size + 1, 0, none⟩ xA).setCell ⟨w.heap.size + 1, 1, none⟩ xB).heap[w.heap.size]? = some (.cells (cw 6 s) 66) ∧ ((W.setCell ⟨w.heap.size + 1, 0, none⟩ xA).setCell ⟨w.heap.size + 1, 1, none⟩ xB).heap[w1.heap.size]? = some (.cells #[.int .u64 u, .int .u64 v] 25))) := zK (fun W xA xB h => ⟨zI h.1 (by first | exact Nat.le_refl _ | omega | (have := HH.out; omega)) xA xB, (zB (by first | omega | (have := HH.out; omega))).trans ((zB (by first | omega | (have := HH.out; omega))).trans h.2.1), (zB (by first | omega | (have := HH.out; omega))).trans ((zB (by first | omega | (have := HH.out; omega))).trans h.2.2)⟩)
 have sC : zP (∀ W : World, (Below w.heap.size w W ∧ W.heap[w.heap.size]? = some (.cells (cw 6 s) 66) ∧ W.heap[w1.heap.size]? = some (.cells #[.int .u64 u, .int .u64 v] 25)) → (Below w.heap.size w W ∧ W.heap[w.heap.size]? = some (.cells (cw 6 s) 66) ∧ W.heap[w1.heap.size]? = some (.cells #[.int .u64 u, .int .u64 v] 25) ∧ W.cell? ⟨w.heap.size, 0, none⟩ = some (.int .u64 (wd s 0)) ∧ W.cell? ⟨w.heap.size, 1, none⟩ = some (.int .u64 (wd s 1)) ∧ W.cell? ⟨w.heap.size, 2, none⟩ = some (.int .u64 (wd s 2)) ∧ W.cell? ⟨w.heap.size, 3, none⟩ = some (.int .u64 (wd s 3)) ∧ W.cell? ⟨w.heap.size, 4, none⟩ = some (.int .u64 (wd s 4)) ∧ W.cell? ⟨w.heap.size, 5, none⟩ = some (.int .u64 (wd s 5)) ∧ W.cell? ⟨w1.heap.size, 0, none⟩ = some (.int .u64 u) ∧ W.cell? ⟨w1.heap.size, 1, none⟩ = some (.int .u64 v))) := zK (fun W h => ⟨h.1, h.2.1, h.2.2, zE (h.2.1) 0 (by decide), zE (h.2.1) 1 (by decide), zE (h.2.1) 2 (by decide), zE (h.2.1) 3 (by decide), zE (h.2.1) 4 (by decide), zE (h.2.1) 5 (by decide), zC (h.2.2) 0 _ rfl, zC (h.2.2) 1 _ rfl⟩)
 have s0 : Below w.heap.size w ((w1.alloc (Obj.cells #[.int .u64 u, .int .u64 v] 25))).drew ∧ ((w1.alloc (Obj.cells #[.int .u64 u, .int .u64 v] 25))).drew.heap[w.heap.size]? = some (.cells (cw 6 s) 66) ∧ ((w1.alloc (Obj.cells #[.int .u64 u, .int .u64 v] 25))).drew.heap[w1.heap.size]? = some (.cells #[.int .u64 u, .int .u64 v] 25) := ⟨B2.drew, Al, Ak⟩
 have rz : ((w1.alloc (Obj.cells #[.int .u64 u, .int .u64 v] 25))).drew.heap[w.heap.size + 1]? = some (.cells #[.int .u64 0, .int .u64 0] 25) := Am
 have Ac := fz (k := 0) rz
 have Ad := fz (k := 1) rz
 have Ae := zC rz 0 _ rfl
 have Af := zC rz 1 _ rfl
 go_wp2_with fail
 go_region_held3 (fun W => Below w.heap.size w W ∧ W.heap[w.heap.size]? = some (.cells (cw 6 s) 66) ∧ W.heap[w1.heap.size]? = some (.cells #[.int .u64 u, .int .u64 v] 25) ∧ W.cell? ⟨w.heap.size, 0, none⟩ = some (.int .u64 (wd s 0)) ∧ W.cell? ⟨w.heap.size, 1, none⟩ = some (.int .u64 (wd s 1)) ∧ W.cell? ⟨w.heap.size, 2, none⟩ = some (.int .u64 (wd s 2)) ∧ W.cell? ⟨w.heap.size, 3, none⟩ = some (.int .u64 (wd s 3)) ∧ W.cell? ⟨w.heap.size, 4, none⟩ = some (.int .u64 (wd s 4)) ∧ W.cell? ⟨w.heap.size, 5, none⟩ = some (.int .u64 (wd s 5)) ∧ W.cell? ⟨w1.heap.size, 0, none⟩ = some (.int .u64 u) ∧ W.cell? ⟨w1.heap.size, 1, none⟩ = some (.int .u64 v)) (first | exact sC.out _ s1 | exact sC.out _ s0 | exact sC.out _ (sT.out _ _ _ s1) | exact sC.out _ (sT.out _ _ _ s0))
  (((first | (go_at_call 162; (first | refine (K2.out _ (zY TT.out (And.left s1))).mono ?_ | refine (K2.out _ (zY TT.out (And.left s0))).mono ?_)) | (go_at_call 128; (first | refine (K3.out _ (zY TT.out (And.left s1))).mono ?_ | refine (K3.out _ (zY TT.out (And.left s0))).mono ?_)) | (go_at_call 185; (first | refine (K4.out _).mono ?_ | refine (K4.out _).mono ?_)) | (go_at_call 182; (first | refine (K5.out _).mono ?_ | refine (K5.out _).mono ?_)) | fail); rintro r wq ⟨rfl, bq⟩; have s1 := (by first | exact sS.out _ _ s1 bq | exact sS.out _ _ s0 bq); have rz := zA bq _ _ _ rz; have Ac := fz (k := 0) rz; have Ad := fz (k := 1) rz; have Ae := zC rz 0 _ rfl; have Af := zC rz 1 _ rfl; clear bq))
 obtain ⟨E0, E1⟩ := zM rz (.int .u64 a) (.int .u64 b)
 have BZ := (by first | exact And.left s1 | exact And.left s0 : Below w.heap.size w _)
 go_wp2
 exact bodyPost_ret (v := .agg #[.int .u64 a, .int .u64 b]) (by simp [results, Tryz.results101, go_sem, E0, E1]) rfl ⟨rfl, zI BZ (by first | exact Nat.le_refl _ | omega | (have := S2.out; have := Ai.out; have := Aj.out; omega)) _ _⟩
theorem kendless_is (f : Int) (hf : yT f) (s a b : Nat) (hs : s < Q) (hv : xL (eb f s) = (a, b)) (w : World) (hT : yF w) :
  Calls Tryz.prog 99 #[.int .u8 f, .agg (cw 6 s)] w fun r w' => r = .returned (.agg #[.int .u64 a, .int .u64 b]) ∧ Below w.heap.size w w' := by
 have hat := zU 6
 have hz := yB
 have hff := z8
 have hs0 := xO
 have hcs : ∀ x, ((cw 6 x).size = 6) = True := fun x => eq_true (zR 6 x)
 obtain ⟨u, v, huv⟩ : ∃ u v, xL (toB s) = (u, v) := ⟨_, _, rfl⟩
 obtain ⟨o, ho⟩ := ktobits_one s u v hs huv
 have K1 := zK ho
 obtain ⟨u1, v1, uv⟩ := bv_lt (toB_lt s) huv
 obtain ⟨c, d, hcd⟩ : ∃ u v, xL (eInf f false) = (u, v) := ⟨_, _, rfl⟩
 have K4 := zK (fun w hT => sk_inf f false hf c d hcd w hT)
 obtain ⟨c1, d1, cd⟩ := bv_lt (einf_k hf).2 hcd
 have K5 := zK (kplus_is c d u v _ _ a b c1 d1 cd u1 v1 uv hv)
 have TT := zK hT
 clear hT hf hs hv huv ho u1 v1 uv hcd c1 d1 cd
 obtain ⟨Ac, Ad, B0⟩ := yS w (Obj.cells (cw 6 s) 66) (Obj.cells #[.int .u64 0, .int .u64 0] 25)
 go_enter Tryz.func99, Tryz.ntmps99
 go_wp2_with fail
 refine (K1.out _).mono ?_
 rintro r w1 ⟨rfl, b1⟩
 have B1 : Below w.heap.size w w1 := zL B0 b1
 obtain ⟨Aa, Ab⟩ := zV b1 Ac Ad
 clear b1 B0 Ac Ad
 have An := zE Aa
 obtain ⟨Ao, Ap⟩ := zF Ab
 have S2 := zK B1.size
 have Ae := yA Aa
 have Af := yA Ab
 have Ag := heap_alloc_last w1 (Obj.cells #[.int .u64 u, .int .u64 v] 25)
 have B2 := zL B1 (zQ w1 (Obj.cells #[.int .u64 u, .int .u64 v] 25))
 obtain ⟨Ah, Ai⟩ := zV (zQ w1 (Obj.cells #[.int .u64 u, .int .u64 v] 25)) Aa Ab
 clear B1 Aa An Ab Ao Ap
 have Aq := zE Ah
 obtain ⟨Ar, As⟩ := zF Ai
 obtain ⟨At, Au⟩ := zF Ag
 have sS : zP (∀ W W1 : World, (Below w.heap.size w W ∧ W.heap[w.heap.size]? = some (.cells (cw 6 s) 66) ∧ W.heap[w1.heap.size]? = some (.cells #[.int .u64 u, .int .u64 v] 25)) → Below W.heap.size W W1 → (Below w.heap.size w W1 ∧ W1.heap[w.heap.size]? = some (.cells (cw 6 s) 66) ∧ W1.heap[w1.heap.size]? = some (.cells #[.int .u64 u, .int .u64 v] 25))) := zK (fun W W1 h b => ⟨zL h.1 b, zA b _ _ _ h.2.1, zA b _ _ _ h.2.2⟩)
 have HH := zK (And.intro S2.out (And.intro Ae.out Af.out))
 have sT : zP (∀ (W : World) (xA xB : Value), (Below w.heap.size w W ∧ W.heap[w.heap.size]? = some (.cells (cw 6 s) 66) ∧ W.heap[w1.heap.size]? = some (.cells #[.int .u64 u, .int .u64 v] 25)) → (Below w.heap.size w ((W.setCell ⟨w.heap.size + 1, 0, none⟩ xA).setCell ⟨w.heap.size + 1, 1, none⟩ xB) ∧ ((W.setCell ⟨w.heap.size + 1, 0, none⟩ xA).setCell ⟨w.heap.size + 1, 1, none⟩ xB).heap[w.heap.size]? = some (.cells (cw 6 s) 66) ∧ ((W.setCell ⟨w.heap.size + 1, 0, none⟩ xA).setCell ⟨w.heap.size + 1, 1, none⟩ xB).heap[w1.heap.size]? = some (.cells #[.int .u64 u, .int .u64 v] 25))) := zK (fun W xA xB h => ⟨zI h.1 (by first | exact Nat.le_refl _ | omega | (have := HH.out; omega)) xA xB, (zB (by first | omega | (have := HH.out; omega))).trans ((zB (by first | omega | (have := HH.out; omega))).trans h.2.1), (zB (by first | omega | (have := HH.out; omega))).trans ((zB (by first | omega | (have := HH.out; omega))).trans h.2.2)⟩)
 have sC : zP (∀ W : World, (Below w.heap.size w W ∧ W.heap[w.heap.size]? = some (.cells (cw 6 s) 66) ∧ W.heap[w1.heap.size]? = some (.cells #[.int .u64 u, .int .u64 v] 25)) → (Below w.heap.size w W ∧ W.heap[w.heap.size]? = some (.cells (cw 6 s) 66) ∧ W.heap[w1.heap.size]? = some (.cells #[.int .u64 u, .int .u64 v] 25) ∧ W.cell? ⟨w.heap.size, 0, none⟩ = some (.int .u64 (wd s 0)) ∧ W.cell? ⟨w.heap.size, 1, none⟩ = some (.int .u64 (wd s 1)) ∧ W.cell? ⟨w.heap.size, 2, none⟩ = some (.int .u64 (wd s 2)) ∧ W.cell? ⟨w.heap.size, 3, none⟩ = some (.int .u64 (wd s 3)) ∧ W.cell? ⟨w.heap.size, 4, none⟩ = some (.int .u64 (wd s 4)) ∧ W.cell? ⟨w.heap.size, 5, none⟩ = some (.int .u64 (wd s 5)) ∧ W.cell? ⟨w1.heap.size, 0, none⟩ = some (.int .u64 u) ∧ W.cell? ⟨w1.heap.size, 1, none⟩ = some (.int .u64 v))) := zK (fun W h => ⟨h.1, h.2.1, h.2.2, zE (h.2.1) 0 (by decide), zE (h.2.1) 1 (by decide), zE (h.2.1) 2 (by decide), zE (h.2.1) 3 (by decide), zE (h.2.1) 4 (by decide), zE (h.2.1) 5 (by decide), zC (h.2.2) 0 _ rfl, zC (h.2.2) 1 _ rfl⟩)
 have s0 : Below w.heap.size w ((w1.alloc (Obj.cells #[.int .u64 u, .int .u64 v] 25))).drew ∧ ((w1.alloc (Obj.cells #[.int .u64 u, .int .u64 v] 25))).drew.heap[w.heap.size]? = some (.cells (cw 6 s) 66) ∧ ((w1.alloc (Obj.cells #[.int .u64 u, .int .u64 v] 25))).drew.heap[w1.heap.size]? = some (.cells #[.int .u64 u, .int .u64 v] 25) := ⟨B2.drew, Ah, Ag⟩
 have rz : ((w1.alloc (Obj.cells #[.int .u64 u, .int .u64 v] 25))).drew.heap[w.heap.size + 1]? = some (.cells #[.int .u64 0, .int .u64 0] 25) := Ai
 have Aj := fz (k := 0) rz
 have Ak := fz (k := 1) rz
 have Al := zC rz 0 _ rfl
 have Am := zC rz 1 _ rfl
 go_wp2_with fail
 go_region_held3 (fun W => Below w.heap.size w W ∧ W.heap[w.heap.size]? = some (.cells (cw 6 s) 66) ∧ W.heap[w1.heap.size]? = some (.cells #[.int .u64 u, .int .u64 v] 25) ∧ W.cell? ⟨w.heap.size, 0, none⟩ = some (.int .u64 (wd s 0)) ∧ W.cell? ⟨w.heap.size, 1, none⟩ = some (.int .u64 (wd s 1)) ∧ W.cell? ⟨w.heap.size, 2, none⟩ = some (.int .u64 (wd s 2)) ∧ W.cell? ⟨w.heap.size, 3, none⟩ = some (.int .u64 (wd s 3)) ∧ W.cell? ⟨w.heap.size, 4, none⟩ = some (.int .u64 (wd s 4)) ∧ W.cell? ⟨w.heap.size, 5, none⟩ = some (.int .u64 (wd s 5)) ∧ W.cell? ⟨w1.heap.size, 0, none⟩ = some (.int .u64 u) ∧ W.cell? ⟨w1.heap.size, 1, none⟩ = some (.int .u64 v)) (first | exact sC.out _ s1 | exact sC.out _ s0 | exact sC.out _ (sT.out _ _ _ s1) | exact sC.out _ (sT.out _ _ _ s0))
  (((first | (go_at_call 96; (first | refine (K4.out _ (zY TT.out (And.left s1))).mono ?_ | refine (K4.out _ (zY TT.out (And.left s0))).mono ?_)) | (go_at_call 182; (first | refine (K5.out _).mono ?_ | refine (K5.out _).mono ?_)) | fail); rintro r wq ⟨rfl, bq⟩; have s1 := (by first | exact sS.out _ _ s1 bq | exact sS.out _ _ s0 bq); have rz := zA bq _ _ _ rz; have Aj := fz (k := 0) rz; have Ak := fz (k := 1) rz; have Al := zC rz 0 _ rfl; have Am := zC rz 1 _ rfl; clear bq))
 obtain ⟨E0, E1⟩ := zM rz (.int .u64 a) (.int .u64 b)
 have BZ := (by first | exact And.left s1 | exact And.left s0 : Below w.heap.size w _)
 go_wp2
 exact bodyPost_ret (v := .agg #[.int .u64 a, .int .u64 b]) (by simp [results, Tryz.results99, go_sem, E0, E1]) rfl ⟨rfl, zI BZ (by first | exact Nat.le_refl _ | omega | (have := S2.out; have := Ae.out; have := Af.out; omega)) _ _⟩
theorem eq6d (d x y : Nat) (hx : x < Q) (hy : y < Q) (w : World) : (Op.equalIn (d + 2) 66 (.agg (cw 6 x)) (.agg (cw 6 y))).run Tryz.prog w = .ok (decide (x = y)) w := by
 obtain ⟨i, hi⟩ : ∃ i, Tryz.prog.info? 23 = some i := by
  have : (Tryz.prog.info? 23).isSome = true := by kernel_rfl
  exact Option.isSome_iff_exists.1 this
 have hc : Tryz.prog.cellsOf 23 = 1 := by kernel_rfl
 rw [run_equalIn_array w (d + 1) (cw 6 x) (cw 6 y) Tryz.underlying66 hi, hc, eqItems6 d x y w (List.range 6) (fun i h => by simpa using h)]
 congr 1
 rw [Bool.eq_iff_iff, List.all_eq_true, decide_eq_true_iff]
 constructor
 ·
  intro h
  obtain ⟨L, hL, hQ⟩ := Q_of
  rw [hQ] at hx hy
  exact wd_ext hx hy (fun k hk => by simpa using h k (by rw [hL] at hk; simpa using hk))
 ·
  rintro rfl i _
  simp
theorem eqpd (d c s : Nat) (x : Int) (rr c' s' : Nat) (x' : Int) (rr' : Nat) (hs : s < Q) (hs' : s' < Q) (hr : rr < Q) (hr' : rr' < Q) (w : World) :
  (Op.equalIn (d + 3) 68 (.agg (pt c s x rr)) (.agg (pt c' s' x' rr'))).run Tryz.prog w = .ok (decide (c = c') && (decide (s = s') && (decide (x = x') && decide (rr = rr')))) w := by
 have e1 := eq6d d s s' hs hs' w
 have e2 := eq6d d rr rr' hr hr' w
 have q1 : ∀ (c s : Nat) (x : Int) (r : Nat), (part 66 (pt c s x r) 1).run Tryz.prog w = .ok (.agg (cw 6 s)) w := fun c s x r => by kernel_rfl
 have q2 : ∀ (c s : Nat) (x : Int) (r : Nat), (part 66 (pt c s x r) 8).run Tryz.prog w = .ok (.agg (cw 6 r)) w := fun c s x r => by kernel_rfl
 have q3 : ∀ (c s : Nat) (x : Int) (r : Nat), (part 50 (pt c s x r) 0).run Tryz.prog w = .ok (.int .u8 c) w := fun c s x r => by kernel_rfl
 have q4 : ∀ (c s : Nat) (x : Int) (r : Nat), (part 3 (pt c s x r) 7).run Tryz.prog w = .ok (.int .i64 x) w := fun c s x r => by kernel_rfl
 have i1 : (Op.equalIn (d + 2) 50 (.int .u8 (c : Int)) (.int .u8 (c' : Int))).run Tryz.prog w = .ok ((c : Int) == (c' : Int)) w := run_equalIn_int w (d + 1) 50 .u8 .u8 (c : Int) (c' : Int) Tryz.underlying50
 have i2 : (Op.equalIn (d + 2) 3 (.int .i64 x) (.int .i64 x')).run Tryz.prog w = .ok (x == x') w := run_equalIn_int w (d + 1) 3 .i64 .i64 x x' Tryz.underlying3
 have n1 : ("Class" = "_") = False := by simp
 have n2 : ("Sig" = "_") = False := by simp
 have n3 : ("Exp" = "_") = False := by simp
 have n4 : ("Fraction" = "_") = False := by simp
 have st : Tryz.prog.stoodInHeld 68 = false := by kernel_rfl
 have c1 : ((c : Int) == (c' : Int)) = decide (c = c') := by rw [Bool.eq_iff_iff]; simp only [beq_iff_eq, decide_eq_true_eq]; omega
 have c2 : (x == x') = decide (x = x') := by rw [Bool.eq_iff_iff]; simp only [beq_iff_eq, decide_eq_true_eq]
 rw [c1] at i1
 rw [c2] at i2
 unfold Op.equalIn
 simp only [Sem.run_bind, run_underlying Tryz.underlying68, Result.andThen_ok]
 rw [show (Sem.run Tryz.prog program w) = .ok Tryz.prog w from rfl]
 simp only [Result.andThen_ok, st, Bool.false_eq_true, if_false]
 have fo : ∀ (l : List Field) (b : Field → (Option Bool × Unit) → Sem (ForInStep (Option Bool × Unit))), (forIn l.toArray (none, ()) b : Sem (Option Bool × Unit)) = forIn l (none, ()) b := fun l b => by simp
 simp only [fo, List.forIn_cons, List.forIn_nil, ne_eq, n1, n2, n3, n4, not_false_eq_true, if_true]
 obtain ⟨b1, h1⟩ : ∃ b, decide (c = c') = b := ⟨_, rfl⟩
 obtain ⟨b2, h2⟩ : ∃ b, decide (s = s') = b := ⟨_, rfl⟩
 obtain ⟨b3, h3⟩ : ∃ b, decide (x = x') = b := ⟨_, rfl⟩
 obtain ⟨b4, h4⟩ : ∃ b, decide (rr = rr') = b := ⟨_, rfl⟩
 rw [h1] at i1
 rw [h2] at e1
 rw [h3] at i2
 rw [h4] at e2
 rw [h1, h2, h3, h4]
 cases b1
 ·
  simp only [Sem.run_bind, Sem.run_pure, Result.andThen_ok, q3, i1, Bool.not_false, if_true, Bool.false_and]
 cases b2
 ·
  simp only [Sem.run_bind, Sem.run_pure, Result.andThen_ok, q3, i1, q1, e1, Bool.not_false, Bool.not_true, Bool.false_eq_true, if_false, if_true, Bool.false_and, Bool.true_and]
 cases b3
 ·
  simp only [Sem.run_bind, Sem.run_pure, Result.andThen_ok, q3, i1, q1, e1, q4, i2, Bool.not_false, Bool.not_true, Bool.false_eq_true, if_false, if_true, Bool.false_and, Bool.true_and]
 cases b4
 ·
  simp only [Sem.run_bind, Sem.run_pure, Result.andThen_ok, q3, i1, q1, e1, q4, i2, q2, e2, Bool.not_false, Bool.not_true, Bool.false_eq_true, if_false, if_true, Bool.false_and, Bool.true_and]
 ·
  simp only [Sem.run_bind, Sem.run_pure, Result.andThen_ok, q3, i1, q1, e1, q4, i2, q2, e2, Bool.not_false, Bool.not_true, Bool.false_eq_true, if_false, if_true, Bool.false_and, Bool.true_and]
theorem eqp (c s : Nat) (x : Int) (rr c' s' : Nat) (x' : Int) (rr' : Nat) (hs : s < Q) (hs' : s' < Q) (hr : rr < Q) (hr' : rr' < Q) (w : World) :
  (Op.equalIn 10000 68 (.agg (pt c s x rr)) (.agg (pt c' s' x' rr'))).run Tryz.prog w = .ok (decide (c = c') && (decide (s = s') && (decide (x = x') && decide (rr = rr')))) w := eqpd 9997 c s x rr c' s' x' rr' hs hs' hr hr' w
theorem eqgp : Tryz.prog.eqGuardType Tryz.prog.depth 68 = false := by kernel_rfl
theorem pt_q0 (c s : Nat) (x : Int) (r : Nat) : (pt c s x r)[0]? = some (.int .u8 c) := rfl
theorem pt_q1 (c s : Nat) (x : Int) (r : Nat) : (pt c s x r)[1]? = some (.int .u64 (wd s 0)) := rfl
theorem pt_q2 (c s : Nat) (x : Int) (r : Nat) : (pt c s x r)[2]? = some (.int .u64 (wd s 1)) := rfl
theorem pt_q3 (c s : Nat) (x : Int) (r : Nat) : (pt c s x r)[3]? = some (.int .u64 (wd s 2)) := rfl
theorem pt_q4 (c s : Nat) (x : Int) (r : Nat) : (pt c s x r)[4]? = some (.int .u64 (wd s 3)) := rfl
theorem pt_q5 (c s : Nat) (x : Int) (r : Nat) : (pt c s x r)[5]? = some (.int .u64 (wd s 4)) := rfl
theorem pt_q6 (c s : Nat) (x : Int) (r : Nat) : (pt c s x r)[6]? = some (.int .u64 (wd s 5)) := rfl
theorem pt_q7 (c s : Nat) (x : Int) (r : Nat) : (pt c s x r)[7]? = some (.int .i64 x) := rfl
theorem pt_q8 (c s : Nat) (x : Int) (r : Nat) : (pt c s x r)[8]? = some (.int .u64 (wd r 0)) := rfl
theorem pt_q9 (c s : Nat) (x : Int) (r : Nat) : (pt c s x r)[9]? = some (.int .u64 (wd r 1)) := rfl
theorem pt_q10 (c s : Nat) (x : Int) (r : Nat) : (pt c s x r)[10]? = some (.int .u64 (wd r 2)) := rfl
theorem pt_q11 (c s : Nat) (x : Int) (r : Nat) : (pt c s x r)[11]? = some (.int .u64 (wd r 3)) := rfl
theorem pt_q12 (c s : Nat) (x : Int) (r : Nat) : (pt c s x r)[12]? = some (.int .u64 (wd r 4)) := rfl
theorem pt_q13 (c s : Nat) (x : Int) (r : Nat) : (pt c s x r)[13]? = some (.int .u64 (wd r 5)) := rfl
theorem kS_lt {f : Int} (hf : yT f) (n : Nat) : kS f n < Q ∧ kF f n < Q := by
 obtain ⟨g1, g2, g3, g4, g5, g6, g7⟩ := fm hf
 have tl := xR (f := f) n
 rw [g1, Nat.add_mul] at g7
 have := Nat.mul_le_mul_right (2 ^ pV f) g5
 constructor
 ·
  refine yR ?_
  unfold kS
  split
  ·
   omega
  ·
   split <;> omega
 ·
  refine yR ?_
  unfold kF
  split <;> omega
end Go.Proofs.YtkblmpmkchkpjaaGreatDoor
