/-
  What the functions that the statement reaches return: part 15 (KD, KF, KU, V1, V2, V3, V4, V5).
-/
import Derived.Deep.RegionHeld3
import Derived.Test.YtkblmpmkchkpjaaGreatDoorNe14
namespace Go.Proofs.YtkblmpmkchkpjaaGreatDoor
set_option maxRecDepth 100000
set_option maxHeartbeats 40000000
open Go.RowKit WMath
set_option linter.unusedSimpArgs false
set_option linter.unusedVariables false
theorem or_bit_lo (t k : Nat) (h : t < 2 ^ k) : 2 ^ k ||| t = 2 ^ k + t := by
 have e := Nat.two_pow_add_eq_or_of_lt h 1
 rw [Nat.mul_one] at e
 exact e.symm
theorem cnt_k8 {i : Nat} (h : i < 384) : cnt6 (i : Int) = i := by unfold cnt6; omega
theorem kparts_is (f : Int) (hf : xH f) (x y n : Nat) (hx : x < 18446744073709551616) (hy : y < 18446744073709551616) (hn : y + 18446744073709551616 * x = n) (w : World) (hT : yF w) :
  Calls Tryz.prog 77 #[.int .u8 f, .agg #[.int .u64 x, .int .u64 y]] w fun r w' => r = .returned (.agg (pt (kC f n) (kS f n) (kX f n) (kF f n))) ∧ Below w.heap.size w w' := by
 have f4 := yY hf
 obtain ⟨u, v, huv⟩ : ∃ u v, bv7 (kT f n) = (u, v) := ⟨_, _, rfl⟩
 obtain ⟨g1, g2, g3, g4, g5, g6, g7⟩ := fm hf
 have tl := kT_lt (f := f) n
 have el := kE_le (f := f) n
 have tn : kT f n < 340282366920938463463374607431768211456 := by rw [g1, Nat.add_mul] at g7; omega
 have pn : 2 ^ pV f + kT f n < 340282366920938463463374607431768211456 := by rw [g1, Nat.add_mul] at g7; have := Nat.mul_le_mul_right (2 ^ pV f) g5; omega
 obtain ⟨u1, v1, t1⟩ := bv_lt tn huv
 obtain ⟨p1, p2, p3, p4, _⟩ := pV_lim hf
 obtain ⟨l1, l2, l3, l4, l5⟩ := lx_lim hf
 have KC : zS (∀ w, yF w → Calls Tryz.prog 53 #[.int .u8 f, .agg #[.int .u64 x, .int .u64 y]] w fun r w' => r = .returned (.int .u8 ((kC f n : Nat) : Int)) ∧ Below w.heap.size w w') := zH (fun w hT => kclass_is f hf x y n _ hx hy hn rfl w hT)
 have KF : zS (∀ w, yF w → Calls Tryz.prog 127 #[.int .u8 f, .agg #[.int .u64 x, .int .u64 y]] w fun r w' => r = .returned (.agg #[.int .u64 u, .int .u64 v]) ∧ Below w.heap.size w w') := zH (fun w hT => kfraction_is f hf x y n u v hx hy hn huv w hT)
 have KO : zS (∀ w, Calls Tryz.prog 141 #[.agg #[.int .u64 u, .int .u64 v]] w fun r w' => r = .returned (.agg (cw 6 (kT f n))) ∧ Below w.heap.size w w') := zH (fun w => wofbits_is u v _ u1 v1 t1 w)
 have KL : zS (∀ w, yF w → Calls Tryz.prog 162 #[.int .u8 f] w fun r w' => r = .returned (.int .i64 (lx f)) ∧ Below w.heap.size w w') := zH (fun w hT => kleast_is f hf _ rfl w hT)
 have cl := kC_lt f n
 by_cases c1 : kC f n = 8 ∨ kC f n = 9
 ·
  have e1 : kS f n = 0 ∧ kX f n = 0 ∧ kF f n = kT f n := by
   unfold kS kX kF
   rw [if_neg (by omega), if_neg (by omega), if_neg (by omega), if_neg (by omega), if_pos c1]
   exact ⟨rfl, rfl, rfl⟩
  rw [e1.1, e1.2.1, e1.2.2]
  exact kparts_nan f x y _ u v _ w KC KF KO c1 hT
 by_cases c2 : kC f n = 2 ∨ kC f n = 5
 ·
  have e1 : kS f n = kT f n ∧ kX f n = lx f ∧ kF f n = 0 := by
   unfold kS kX kF
   rw [if_pos c2, if_pos c2, if_neg c1]
   exact ⟨rfl, rfl, rfl⟩
  rw [e1.1, e1.2.1, e1.2.2]
  exact kparts_sub f x y _ u v _ _ w KC KF KO KL c2 hT
 by_cases c3 : kC f n = 1 ∨ kC f n = 6
 ·
  have e1 : kS f n = 2 ^ pV f + kT f n ∧ kX f n = lx f + (kE f n : Int) - 1 ∧ kF f n = 0 := by
   unfold kS kX kF
   rw [if_neg c2, if_neg c2, if_neg c1, if_pos c3, if_pos c3]
   exact ⟨rfl, rfl, rfl⟩
  rw [e1.1, e1.2.1, e1.2.2]
  have pl : 2 ^ pV f < Q := lt_Q7 (by omega)
  exact kparts_norm f x y _ u v _ (lx f) (fP f) _ (pV f) (2 ^ pV f) _ (kE f n) w KC KF KO KL
   (zH (fun w => wof_al 1 (by decide) w)) (zH (fun w hT => qG f _ f4.1 f4.2.1 rfl w hT))
   (zH (fun w => wleft_is 1 (2 ^ pV f) _ false (lt_Q7 (by omega)) (by rw [cnt_k8 (by omega), Nat.one_mul, Nat.mod_eq_of_lt pl]) (by rw [cnt_k8 (by omega), Nat.one_mul]; simp; omega) w))
   (zH (fun w => wor_is (2 ^ pV f) (kT f n) _ pl (lt_Q7 (by omega)) (or_bit_lo _ _ tl) w))
   (zH (fun w hT => kfield_is f hf x y n _ hx hy hn rfl w hT)) p2 (by rw [IntKind.wrap_i64]; omega) (by rw [IntKind.wrap_i64]; omega) (by rw [IntKind.wrap_i64]; omega) c3 hT
 ·
  have e1 : kS f n = 0 ∧ kX f n = 0 ∧ kF f n = 0 := by
   unfold kS kX kF
   rw [if_neg c2, if_neg c2, if_neg c1, if_neg c3, if_neg c3]
   exact ⟨rfl, rfl, rfl⟩
  rw [e1.1, e1.2.1, e1.2.2]
  exact kparts_none f x y _ u v _ w KC KF KO (by omega) hT
theorem kUnpack_yes (f : Int) (hf : xH f) (x y n c s rr : Nat) (X : Int) (hx : x < 18446744073709551616) (hy : y < 18446744073709551616) (hn : y + 18446744073709551616 * x = n) (ho : okB f n = true) (hp : kp f n = (c, s, X, rr)) (w : World) (hT : yF w) :
  Calls Tryz.prog 29 #[.int .u8 f, .agg #[.int .u64 x, .int .u64 y]] w fun r w' => r = .returned (.tuple #[.agg (pt c s X rr), .int .i64 0]) ∧ Below w.heap.size w w' := by
 have f4 := yY hf
 have K1 := zH (sk_fits f x y n true f4.1 f4.2.1 hx hy hn ho)
 have K2 := zH (kparts_is f hf x y n hx hy hn)
 unfold kp at hp
 injection hp with h1 h2
 injection h2 with h2 h3
 injection h3 with h3 h4
 rw [h1, h2, h3, h4] at K2
 have hat := yS 6
 have hz := cw6z
 have hff := cw6f
 have hs0 := st0
 have hcs : ∀ x, ((cw 6 x).size = 6) = True := fun x => eq_true (yT 6 x)
 have hp1 := ptf
 have hp3 := ptz
 have hp5 : ∀ (c s : Nat) (x : Int) (r : Nat), ((pt c s x r).size = 14) = True := fun _ _ _ _ => eq_true rfl
 have TT := zH hT
 clear hT hf hx hy hn ho h1 h2 h3 h4
 obtain ⟨Ad, Ae, B0⟩ := q9 w (Obj.cells #[.int .u64 x, .int .u64 y] 25) (Obj.cells (pt 0 0 0 0) 68)
 go_enter Tryz.func29, Tryz.ntmps29
 go_wp2_with fail
 refine (K1.out _ (zW TT.out B0)).mono ?_
 rintro r w1 ⟨rfl, b1⟩
 have B1 : Below w.heap.size w w1 := yD B0 b1
 obtain ⟨Aa, Ab⟩ := yB b1 Ad Ae
 clear b1 B0 Ad Ae
 obtain ⟨Af, Ag⟩ := zT Aa
 obtain ⟨Ah, Ai, Aj, Ak, Al, Am, An, Ao, Ap, Aq, Ar, As, At, Au⟩ := zM Ab
 go_wp2_with fail
 refine (K2.out _ (zW TT.out B1)).mono ?_
 rintro r w2 ⟨rfl, b2⟩
 have B2 : Below w.heap.size w w2 := yD B1 b2
 obtain ⟨Av, Ac⟩ := yB b2 Aa Ab
 clear b2 B1 Aa Af Ag Ab Ah Ai Aj Ak Al Am An Ao Ap Aq Ar As At Au
 obtain ⟨Aw, Ax⟩ := zT Av
 obtain ⟨Ay, Az, AA, AB, AC, AD, AE, AF, AG, AH, AI, AJ, AK, AL⟩ := zM Ac
 have hstz := st_p w2 (w.heap.size + 1) c s X rr 0 0 0 0 Ac
 have RZ := yL (c' := pt c s X rr) Ac
 obtain ⟨dz0, dz1, dz2, dz3, dz4, dz5, dz6, dz7, dz8, dz9, dz10, dz11, dz12, dz13⟩ := zM RZ
 have bz := xJ (c := pt c s X rr) B2 (show w.heap.size ≤ w.heap.size + 1 by first | exact Nat.le_refl _ | omega | (skip; omega))
 go_wp2
 exact bodyPost_ret (v := .tuple #[.agg (pt c s X rr), .int .i64 0]) (by simp [results, Tryz.results29, go_sem, dz0, dz1, dz2, dz3, dz4, dz5, dz6, dz7, dz8, dz9, dz10, dz11, dz12, dz13, ptf] <;> rfl) rfl ⟨rfl, bz⟩
theorem lt_128 {s : Nat} (hs : s < Q) : (wd s 0 + 18446744073709551616 * wd s 1 = s) ↔ s < 340282366920938463463374607431768211456 := by
 constructor
 ·
  intro h
  have := yU s 0
  have := yU s 1
  omega
 ·
  intro h
  rw [(wd01 h).1, (wd01 h).2]; omega
theorem ktobits_one (s u v : Nat) (hs : s < Q) (huv : bv7 (toB s) = (u, v)) : ∃ o, ∀ w, Calls Tryz.prog 143 #[.agg (cw 6 s)] w fun r w' => r = .returned (.tuple #[.agg #[.int .u64 u, .int .u64 v], .bool o]) ∧ Below w.heap.size w w' := by
 unfold toB bv7 at huv
 by_cases h : s < 340282366920938463463374607431768211456
 ·
  rw [if_pos h] at huv
  injection huv with h1 h2
  refine ⟨true, fun w => ?_⟩
  have k := wtobits_yes s hs ((lt_128 hs).2 h) w
  rw [(wd01 h).1, (wd01 h).2, h1, h2] at k
  exact k
 ·
  rw [if_neg h] at huv
  injection huv with h1 h2
  refine ⟨false, fun w => ?_⟩
  have k := wtobits_no s hs (fun e => h ((lt_128 hs).1 e)) w
  rw [← h1, ← h2]
  exact k
theorem toB_lt (s : Nat) : toB s < 340282366920938463463374607431768211456 := by unfold toB; split <;> omega
theorem plN_lt (f : Int) (u : Nat) : plN f u < 340282366920938463463374607431768211456 := by
 unfold plN
 split
 ·
  exact Nat.mod_lt _ (by decide)
 ·
  exact Nat.lt_trans (Nat.mod_lt _ (by decide)) (by decide)
theorem kfinite_is (f : Int) (hf : xH f) (s a b : Nat) (X : Int) (hs : s < Q) (x1 : -9223372036854775808 ≤ X) (x2 : X ≤ 9223372036854775807) (hv : bv7 (fb f s X) = (a, b)) (w : World) (hT : yF w) :
  Calls Tryz.prog 101 #[.int .u8 f, .agg (cw 6 s), .int .i64 X] w fun r w' => r = .returned (.agg #[.int .u64 a, .int .u64 b]) ∧ Below w.heap.size w w' := by
 have hat := yS 6
 have hz := cw6z
 have hff := cw6f
 have hs0 := st0
 have hcs : ∀ x, ((cw 6 x).size = 6) = True := fun x => eq_true (yT 6 x)
 obtain ⟨u, v, huv⟩ : ∃ u v, bv7 (toB s) = (u, v) := ⟨_, _, rfl⟩
 obtain ⟨o, ho⟩ := ktobits_one s u v hs huv
 have K1 := zH ho
 obtain ⟨u1, v1, uv⟩ := bv_lt (toB_lt s) huv
 have K2 := zH (fun w hT => kleast_is f hf (lx f) rfl w hT)
 obtain ⟨_, _, _, p4, _⟩ := pV_lim hf
 obtain ⟨_, _, l3, l4, _⟩ := lx_lim hf
 have K3 := zH (fun w hT => kfw f hf (pV f) rfl w hT)
 obtain ⟨c, d, hcd⟩ : ∃ u v, bv7 (plN f (u64w (X - lx f))) = (u, v) := ⟨_, _, rfl⟩
 have ul : u64w (X - lx f) < 18446744073709551616 := by unfold u64w; omega
 have K4 := zH (kplaced_is (u64w (X - lx f)) (pV f) c d ul p4 (by rw [plG_is hf]; exact hcd))
 obtain ⟨c1, d1, cd⟩ := bv_lt (plN_lt f _) hcd
 have K5 := zH (kplus_is c d u v _ _ a b c1 d1 cd u1 v1 uv hv)
 have e1 : IntKind.u64.wrap (IntKind.i64.wrap (X - lx f)) = (u64w (X - lx f) : Int) := by
  unfold u64w
  rw [IntKind.wrap_u64, IntKind.wrap_i64]
  omega
 obtain ⟨L, hL⟩ : ∃ q, lx f = q := ⟨_, rfl⟩
 rw [hL] at K2 K4 e1
 obtain ⟨U, hU⟩ : ∃ q, u64w (X - L) = q := ⟨_, rfl⟩
 rw [hU] at K4 e1
 obtain ⟨P, hP⟩ : ∃ q, pV f = q := ⟨_, rfl⟩
 rw [hP] at K3 K4
 have TT := zH hT
 clear hT hf hs x1 x2 hv huv ho u1 v1 uv p4 l3 l4 hcd ul c1 d1 cd hL hU hP
 obtain ⟨Ag, Ah, B0⟩ := q9 w (Obj.cells (cw 6 s) 66) (Obj.cells #[.int .u64 0, .int .u64 0] 25)
 go_enter Tryz.func101, Tryz.ntmps101
 go_wp2_with fail
 refine (K1.out _).mono ?_
 rintro r w1 ⟨rfl, b1⟩
 have B1 : Below w.heap.size w w1 := yD B0 b1
 obtain ⟨Aa, Ab⟩ := yB b1 Ag Ah
 clear b1 B0 Ag Ah
 have An := zR Aa
 obtain ⟨Ao, Ap⟩ := zT Ab
 have S2 := zH B1.size
 have Ai := z8 Aa
 have Aj := z8 Ab
 have Ak := heap_alloc_last w1 (Obj.cells #[.int .u64 u, .int .u64 v] 25)
 have B2 := yD B1 (yP w1 (Obj.cells #[.int .u64 u, .int .u64 v] 25))
 obtain ⟨Al, Am⟩ := yB (yP w1 (Obj.cells #[.int .u64 u, .int .u64 v] 25)) Aa Ab
 clear B1 Aa An Ab Ao Ap
 have Aq := zR Al
 obtain ⟨Ar, As⟩ := zT Am
 obtain ⟨At, Au⟩ := zT Ak
 have sS : zS (∀ W W1 : World, (Below w.heap.size w W ∧ W.heap[w.heap.size]? = some (.cells (cw 6 s) 66) ∧ W.heap[w1.heap.size]? = some (.cells #[.int .u64 u, .int .u64 v] 25)) → Below W.heap.size W W1 → (Below w.heap.size w W1 ∧ W1.heap[w.heap.size]? = some (.cells (cw 6 s) 66) ∧ W1.heap[w1.heap.size]? = some (.cells #[.int .u64 u, .int .u64 v] 25))) := zH (fun W W1 h b => ⟨yD h.1 b, zA b _ _ _ h.2.1, zA b _ _ _ h.2.2⟩)
 have HH := zH (And.intro S2.out (And.intro Ai.out Aj.out))
 have sT : zS (∀ (W : World) (xA xB : Value), (Below w.heap.size w W ∧ W.heap[w.heap.size]? = some (.cells (cw 6 s) 66) ∧ W.heap[w1.heap.size]? = some (.cells #[.int .u64 u, .int .u64 v] 25)) → (Below w.heap.size w ((W.setCell ⟨w.heap.size + 1, 0, none⟩ xA).setCell ⟨w.heap.size + 1, 1, none⟩ xB) ∧ ((W.setCell ⟨w.heap.size + 1, 0, none⟩ xA).setCell ⟨w.heap.size + 1, 1, none⟩ xB).heap[w.heap.size]? = some (.cells (cw 6 s) 66) ∧ ((W.setCell ⟨w.heap.size + 1, 0, none⟩ xA).setCell ⟨w.heap.size + 1, 1, none⟩ xB).heap[w1.heap.size]? = some (.cells #[.int .u64 u, .int .u64 v] 25))) := zH (fun W xA xB h => ⟨zY h.1 (by first | exact Nat.le_refl _ | omega | (have := HH.out; omega)) xA xB, (zG (by first | omega | (have := HH.out; omega))).trans ((zG (by first | omega | (have := HH.out; omega))).trans h.2.1), (zG (by first | omega | (have := HH.out; omega))).trans ((zG (by first | omega | (have := HH.out; omega))).trans h.2.2)⟩)
 have sC : zS (∀ W : World, (Below w.heap.size w W ∧ W.heap[w.heap.size]? = some (.cells (cw 6 s) 66) ∧ W.heap[w1.heap.size]? = some (.cells #[.int .u64 u, .int .u64 v] 25)) → (Below w.heap.size w W ∧ W.heap[w.heap.size]? = some (.cells (cw 6 s) 66) ∧ W.heap[w1.heap.size]? = some (.cells #[.int .u64 u, .int .u64 v] 25) ∧ W.cell? ⟨w.heap.size, 0, none⟩ = some (.int .u64 (wd s 0)) ∧ W.cell? ⟨w.heap.size, 1, none⟩ = some (.int .u64 (wd s 1)) ∧ W.cell? ⟨w.heap.size, 2, none⟩ = some (.int .u64 (wd s 2)) ∧ W.cell? ⟨w.heap.size, 3, none⟩ = some (.int .u64 (wd s 3)) ∧ W.cell? ⟨w.heap.size, 4, none⟩ = some (.int .u64 (wd s 4)) ∧ W.cell? ⟨w.heap.size, 5, none⟩ = some (.int .u64 (wd s 5)) ∧ W.cell? ⟨w1.heap.size, 0, none⟩ = some (.int .u64 u) ∧ W.cell? ⟨w1.heap.size, 1, none⟩ = some (.int .u64 v))) := zH (fun W h => ⟨h.1, h.2.1, h.2.2, zR (h.2.1) 0 (by decide), zR (h.2.1) 1 (by decide), zR (h.2.1) 2 (by decide), zR (h.2.1) 3 (by decide), zR (h.2.1) 4 (by decide), zR (h.2.1) 5 (by decide), zL (h.2.2) 0 _ rfl, zL (h.2.2) 1 _ rfl⟩)
 have s0 : Below w.heap.size w ((w1.alloc (Obj.cells #[.int .u64 u, .int .u64 v] 25))).drew ∧ ((w1.alloc (Obj.cells #[.int .u64 u, .int .u64 v] 25))).drew.heap[w.heap.size]? = some (.cells (cw 6 s) 66) ∧ ((w1.alloc (Obj.cells #[.int .u64 u, .int .u64 v] 25))).drew.heap[w1.heap.size]? = some (.cells #[.int .u64 u, .int .u64 v] 25) := ⟨B2.drew, Al, Ak⟩
 have rz : ((w1.alloc (Obj.cells #[.int .u64 u, .int .u64 v] 25))).drew.heap[w.heap.size + 1]? = some (.cells #[.int .u64 0, .int .u64 0] 25) := Am
 have Ac := fz (k := 0) rz
 have Ad := fz (k := 1) rz
 have Ae := zL rz 0 _ rfl
 have Af := zL rz 1 _ rfl
 go_wp2_with fail
 go_region_held3 (fun W => Below w.heap.size w W ∧ W.heap[w.heap.size]? = some (.cells (cw 6 s) 66) ∧ W.heap[w1.heap.size]? = some (.cells #[.int .u64 u, .int .u64 v] 25) ∧ W.cell? ⟨w.heap.size, 0, none⟩ = some (.int .u64 (wd s 0)) ∧ W.cell? ⟨w.heap.size, 1, none⟩ = some (.int .u64 (wd s 1)) ∧ W.cell? ⟨w.heap.size, 2, none⟩ = some (.int .u64 (wd s 2)) ∧ W.cell? ⟨w.heap.size, 3, none⟩ = some (.int .u64 (wd s 3)) ∧ W.cell? ⟨w.heap.size, 4, none⟩ = some (.int .u64 (wd s 4)) ∧ W.cell? ⟨w.heap.size, 5, none⟩ = some (.int .u64 (wd s 5)) ∧ W.cell? ⟨w1.heap.size, 0, none⟩ = some (.int .u64 u) ∧ W.cell? ⟨w1.heap.size, 1, none⟩ = some (.int .u64 v)) (first | exact sC.out _ s1 | exact sC.out _ s0 | exact sC.out _ (sT.out _ _ _ s1) | exact sC.out _ (sT.out _ _ _ s0))
  (((first | (go_at_call 162; (first | refine (K2.out _ (zW TT.out (And.left s1))).mono ?_ | refine (K2.out _ (zW TT.out (And.left s0))).mono ?_)) | (go_at_call 128; (first | refine (K3.out _ (zW TT.out (And.left s1))).mono ?_ | refine (K3.out _ (zW TT.out (And.left s0))).mono ?_)) | (go_at_call 185; (first | refine (K4.out _).mono ?_ | refine (K4.out _).mono ?_)) | (go_at_call 182; (first | refine (K5.out _).mono ?_ | refine (K5.out _).mono ?_)) | fail); rintro r wq ⟨rfl, bq⟩; have s1 := (by first | exact sS.out _ _ s1 bq | exact sS.out _ _ s0 bq); have rz := zA bq _ _ _ rz; have Ac := fz (k := 0) rz; have Ad := fz (k := 1) rz; have Ae := zL rz 0 _ rfl; have Af := zL rz 1 _ rfl; clear bq))
 obtain ⟨E0, E1⟩ := yH rz (.int .u64 a) (.int .u64 b)
 have BZ := (by first | exact And.left s1 | exact And.left s0 : Below w.heap.size w _)
 go_wp2
 exact bodyPost_ret (v := .agg #[.int .u64 a, .int .u64 b]) (by simp [results, Tryz.results101, go_sem, E0, E1]) rfl ⟨rfl, zY BZ (by first | exact Nat.le_refl _ | omega | (have := S2.out; have := Ai.out; have := Aj.out; omega)) _ _⟩
theorem em_lim {f : Int} (hf : xH f) : IntKind.i64.wrap (1 - fE f - fP f) = 1 - fE f - fP f ∧ IntKind.i64.wrap (1 - fE f - fP f + 1) = lx f ∧ IntKind.i64.wrap (fE f - fP f) = fE f - fP f ∧ IntKind.i64.wrap (fE f - fP f + 1) = fE f - (pV f : Int) ∧ (if fC f = 0 then 1 - fE f else 0) = 1 - fE f ∧ 2 * fE f + 1 = (oV f : Int) ∧ 0 ≤ fE f ∧ fE f ≤ 16383 ∧ fP f = (pV f : Int) + 1 ∧ lx f = 1 - fE f - fP f + 1 ∧ pV f < 128 ∧ -16494 ≤ lx f ∧ lx f ≤ 0 := by
 rcases hf with rfl | rfl | rfl | rfl <;> decide +kernel
end Go.Proofs.YtkblmpmkchkpjaaGreatDoor
namespace Go.Proofs.YtkblmpmkchkpjaaGreatDoor
set_option maxRecDepth 100000
set_option maxHeartbeats 40000000
open Go.RowKit WMath XMath
set_option linter.unusedSimpArgs false
set_option linter.unusedVariables false
theorem blen_low (n : Nat) (h : n ≠ 0) : 1 ≤ z7 n ∧ 2 ^ (z7 n - 1) ≤ n ∧ n < 2 ^ z7 n := by
 have h1 := y6 n (z7 n - 1)
 have h2 := (y6 n (z7 n)).1 (Nat.le_refl _)
 have h3 := y6 n 0
 have h4 : 1 ≤ z7 n := by
  rcases Nat.eq_zero_or_pos (z7 n) with e | e
  ·
   have := h3.1 (by omega)
   rw [Nat.pow_zero] at this
   omega
  ·
   exact e
 exact ⟨h4, by omega, h2⟩
theorem blen_one : z7 1 = 1 := by decide
theorem top_whole (b : Bool) (n : Nat) (e : Int) (h : n ≠ 0) : yI ⟨b, n, 1, e⟩ = (z7 n : Int) - 1 + e := by
 obtain ⟨h1, h2, h3⟩ := blen_low n h
 unfold yI tA tB q8
 simp only [blen_one]
 have e1 : (max (-((z7 n : Int) - ((1 : Nat) : Int))) 0).toNat = 0 := by omega
 have e2 : (max ((z7 n : Int) - ((1 : Nat) : Int)) 0).toNat = z7 n - 1 := by omega
 rw [e1, e2, Nat.pow_zero, Nat.mul_one, Nat.one_mul, if_neg (by omega)]
 omega
def ofA (f : Int) (x : XN) : Int := max (yI x) (1 - fE f) - (pV f : Int)
def ofX (f : Int) (x : XN) : Nat × Bool :=
  if x.n = 0 then (0, true)
  else if fE f < yI x then (0, false)
  else if (flX x (ofA f x)).1.2 = true then (sgB f (fb f (flX x (ofA f x)).1.1 (ofA f x)) x.b, true) else (0, false)
theorem fl_no (x : XN) (a : Int) (hx : x.can) (n0 : x.n ≠ 0) (h : x.d ≠ 1 ∨ x.e < a) : (flX x a).1.2 = false := by
 have ho := hx.odd n0
 unfold flX
 split
 ·
  rfl
 try rw [if_neg n0]
 split
 ·
  rename_i hae
  have hd : x.d ≠ 1 := by omega
  split
  ·
   simp only [decide_eq_false_iff_not]
   intro hm
   have h1 : x.d ∣ x.n * 2 ^ (x.e - a).toNat := Nat.dvd_of_mod_eq_zero hm
   have h2 : Nat.Coprime x.d (2 ^ (x.e - a).toNat) := by
    apply Nat.Coprime.pow_right
    have : Nat.Coprime 2 x.d := by
     rw [Nat.coprime_iff_gcd_eq_one, Nat.gcd_comm]
     have := Nat.gcd_rec 2 x.d
     rw [Nat.gcd_comm, Nat.gcd_rec, ho.2.1]
     rfl
    exact this.symm
   have h3 : x.d ∣ x.n := h2.dvd_of_dvd_mul_right h1
   have h4 : x.d ∣ Nat.gcd x.n x.d := Nat.dvd_gcd h3 (Nat.dvd_refl _)
   rw [ho.2.2] at h4
   exact hd (Nat.dvd_one.1 h4)
  ·
   rfl
 ·
  split <;> rfl
theorem fl_yes (x : XN) (a : Int) (n0 : x.n ≠ 0) (hd : x.d = 1) (h : a ≤ x.e) (h1 : -2097152 ≤ a) (h2 : a ≤ 2097152) (hl : nl (x.n * 2 ^ (x.e - a).toNat) ≤ 16384) : flX x a = ((x.n * 2 ^ (x.e - a).toNat, true), 0) := by
 unfold flX
 rw [if_neg (by omega), if_neg n0, if_pos h, if_pos hl, hd, Nat.div_one, Nat.mod_one]
 rfl
theorem nm8 {f : Int} (hf : xH f) : fE f - (pV f : Int) - lx f + 1 = ((oV f - 1 : Nat) : Int) ∧ 1 ≤ oV f ∧ lx f = 1 - fE f - (pV f : Int) ∧ pV f < 128 ∧ fE f ≤ 16383 ∧ 0 ≤ fE f := by
 rcases hf with rfl | rfl | rfl | rfl <;> decide +kernel
theorem of_yes {f : Int} (hf : xH f) (b : Bool) (n : Nat) (e : Int) (n0 : n ≠ 0) (ht : yI ⟨b, n, 1, e⟩ ≤ fE f) (ha : ofA f ⟨b, n, 1, e⟩ ≤ e) :
  ∃ m k t, m = n * 2 ^ (e - ofA f ⟨b, n, 1, e⟩).toNat ∧ k < oV f ∧ t < 2 ^ pV f ∧ ofX f ⟨b, n, 1, e⟩ = (yQ f b k t, true) ∧ ((k = 0 ∧ m = t ∧ ofA f ⟨b, n, 1, e⟩ = lx f) ∨ (1 ≤ k ∧ m = 2 ^ pV f + t ∧ ofA f ⟨b, n, 1, e⟩ = lx f + (k : Int) - 1)) := by
 obtain ⟨g1, g2, g3, g4, g5, g6, g7⟩ := fm hf
 obtain ⟨n1, n2, n3, n4, n5, n6⟩ := nm8 hf
 obtain ⟨l1, l2, l3⟩ := blen_low n n0
 have tw := top_whole b n e n0
 obtain ⟨a, hA⟩ : ∃ a, ofA f ⟨b, n, 1, e⟩ = a := ⟨_, rfl⟩
 have hA2 := hA
 unfold ofA at hA2
 rw [hA] at ha ⊢
 rw [tw] at ht hA2
 obtain ⟨j, hj⟩ : ∃ j : Nat, (e - a).toNat = j := ⟨_, rfl⟩
 have hje : e = a + (j : Int) := by omega
 obtain ⟨m, hm⟩ : ∃ m, n * 2 ^ j = m := ⟨_, rfl⟩
 have m1 : 2 ^ (z7 n - 1 + j) ≤ m := by rw [← hm, Nat.pow_add]; exact Nat.mul_le_mul_right _ l2
 have m2 : m < 2 ^ (z7 n + j) := by rw [← hm, Nat.pow_add]; exact Nat.mul_lt_mul_of_pos_right l3 (Nat.two_pow_pos _)
 have lj : z7 n + j ≤ pV f + 1 := by omega
 have m3 : m < 2 * 2 ^ pV f := by
  have := Nat.pow_le_pow_right (show 0 < 2 by decide) lj
  rw [Nat.pow_succ] at this
  omega
 have hl : nl m ≤ 16384 := qX m (pV f + 1) (by rw [Nat.pow_succ]; omega) (by omega)
 obtain ⟨k, hk⟩ : ∃ k : Nat, a = lx f + (k : Int) := ⟨(a - lx f).toNat, by omega⟩
 have hk2 : k + 2 ≤ oV f := by omega
 have hb0 : (k + 2) * 2 ^ pV f ≤ oV f * 2 ^ pV f := Nat.mul_le_mul_right _ hk2
 have hb1 : k * 2 ^ pV f + m < 2 ^ wV f := by
  rw [g1, Nat.add_mul, Nat.one_mul]
  rw [Nat.add_mul] at hb0
  omega
 have hfb : fb f m a = k * 2 ^ pV f + m := by rw [hk]; exact fb_is hf k m (by omega) hb1
 have hof : ofX f ⟨b, n, 1, e⟩ = (sgB f (k * 2 ^ pV f + m) b, true) := by
  unfold ofX
  rw [hA, fl_yes ⟨b, n, 1, e⟩ a n0 rfl ha (by omega) (by omega) (by show nl (n * 2 ^ (e - a).toNat) ≤ 16384; rw [hj, hm]; exact hl)]
  simp only []
  rw [if_neg n0, if_neg (by rw [tw]; omega), if_pos trivial, hj, hm, hfb]
 rw [hj, hm]
 by_cases hs : m < 2 ^ pV f
 ·
  have hk0 : k = 0 := by
   have : z7 n - 1 + j < pV f := by
    rcases Nat.lt_or_ge (z7 n - 1 + j) (pV f) with q | q
    ·
     exact q
    ·
     have := Nat.pow_le_pow_right (show 0 < 2 by decide) q
     omega
   omega
  subst hk0
  refine ⟨m, 0, m, rfl, by omega, hs, ?_, Or.inl ⟨rfl, rfl, by omega⟩⟩
  rw [hof, sgB_low hb1]
  unfold yQ
  rfl
 ·
  have e1 : k * 2 ^ pV f + m = (k + 1) * 2 ^ pV f + (m - 2 ^ pV f) := by rw [Nat.add_mul]; omega
  refine ⟨m, k + 1, m - 2 ^ pV f, rfl, by omega, by omega, ?_, Or.inr ⟨by omega, by omega, by omega⟩⟩
  rw [hof, sgB_low hb1, e1]
  unfold yQ
  rfl
theorem of_no {f : Int} (x : XN) (hx : x.can) (n0 : x.n ≠ 0) (h : fE f < yI x ∨ x.d ≠ 1 ∨ x.e < ofA f x) : ofX f x = (0, false) := by
 unfold ofX
 rw [if_neg n0]
 by_cases h1 : fE f < yI x
 ·
  rw [if_pos h1]
 ·
  rw [if_neg h1, if_neg]
  rw [fl_no x _ hx n0 (by omega)]
  decide
theorem blen_is (n k : Nat) (h1 : 2 ^ k ≤ n) (h2 : n < 2 ^ (k + 1)) : z7 n = k + 1 := by
 have a := (y6 n (k + 1)).2 h2
 have b := y6 n k
 omega
theorem blen_shift (n k : Nat) (h : n ≠ 0) : z7 (n * 2 ^ k) = z7 n + k := by
 obtain ⟨l1, l2, l3⟩ := blen_low n h
 have := blen_is (n * 2 ^ k) (z7 n - 1 + k) (by rw [Nat.pow_add]; exact Nat.mul_le_mul_right _ l2) (by
  rw [show z7 n - 1 + k + 1 = z7 n + k by omega, Nat.pow_add]
  exact Nat.mul_lt_mul_of_pos_right l3 (Nat.two_pow_pos _))
 omega
theorem mk_whole (neg : Bool) (s : Nat) (x : Int) (s0 : s ≠ 0) (h1 : -1048576 ≤ x) (h2 : x + (tz s : Int) ≤ 1048576) : mk neg s 1 x = (⟨neg, od s, 1, x + (tz s : Int)⟩, 0) := by
 have o1 : od 1 = 1 := od_odd 1 rfl
 have t1 : tz 1 = 0 := tz_odd 1 rfl
 unfold mk
 rw [if_neg s0, o1, t1, Nat.gcd_one_right, Nat.div_one, Nat.div_one]
 rw [if_pos (by omega)]
 congr 2
 omega
def sV (f : Int) (e t : Nat) : Nat := if e = 0 then t else 2 ^ pV f + t
def xV (f : Int) (e : Nat) : Int := if e = 0 then lx f else lx f + (e : Int) - 1
theorem val_of {f : Int} (hf : xH f) (neg : Bool) (e t : Nat) (he : e < oV f) (ht : t < 2 ^ pV f) (nz : sV f e t ≠ 0) :
  mk neg (sV f e t) 1 (xV f e) = (⟨neg, od (sV f e t), 1, xV f e + (tz (sV f e t) : Int)⟩, 0) ∧ ofX f ⟨neg, od (sV f e t), 1, xV f e + (tz (sV f e t) : Int)⟩ = (yQ f neg e t, true) ∧ ofA f ⟨neg, od (sV f e t), 1, xV f e + (tz (sV f e t) : Int)⟩ = xV f e := by
 obtain ⟨n1, n2, n3, n4, n5, n6⟩ := nm8 hf
 have oe : (oV f : Int) = 2 * fE f + 1 := by unfold oV; omega
 obtain ⟨s, hs⟩ : ∃ s, sV f e t = s := ⟨_, rfl⟩
 obtain ⟨x, hx⟩ : ∃ x, xV f e = x := ⟨_, rfl⟩
 rw [hs] at nz
 rw [hs, hx]
 obtain ⟨o1, o2⟩ := od_is s nz
 have od0 : od s ≠ 0 := by omega
 have bs : z7 s = z7 (od s) + tz s := by
  have := blen_shift (od s) (tz s) od0
  rw [← o1] at this
  exact this
 have tw := top_whole neg (od s) (x + (tz s : Int)) od0
 have tz1 := tz_blen s
 unfold sV at hs
 unfold xV at hx
 have sl : s < 2 * 2 ^ pV f := by split at hs <;> omega
 have bl : z7 s ≤ pV f + 1 := (y6 s _).2 (by rw [Nat.pow_succ]; omega)
 have A : ofA f ⟨neg, od s, 1, x + (tz s : Int)⟩ = x ∧ yI ⟨neg, od s, 1, x + (tz s : Int)⟩ ≤ fE f := by
  unfold ofA
  rw [tw]
  by_cases e0 : e = 0
  ·
   rw [if_pos e0] at hs hx
   have : z7 s ≤ pV f := (y6 s _).2 (by omega)
   omega
  ·
   rw [if_neg e0] at hs hx
   have : z7 s = pV f + 1 := blen_is s (pV f) (by omega) (by rw [Nat.pow_succ]; omega)
   omega
 have xl : -20000 ≤ x ∧ x ≤ 20000 := by split at hx <;> omega
 refine ⟨mk_whole neg s x nz (by omega) (by omega), ?_, A.1⟩
 obtain ⟨m, k, t', h1, h2, h3, h4, h5⟩ := of_yes hf neg (od s) (x + (tz s : Int)) od0 A.2 (by rw [A.1]; omega)
 rw [A.1, show (x + (tz s : Int) - x).toNat = tz s by omega, ← o1] at h1
 rw [A.1] at h5
 rw [h4]
 by_cases e0 : e = 0
 ·
  rw [if_pos e0] at hs hx
  rcases h5 with ⟨q1, q2, q3⟩ | ⟨q1, q2, q3⟩
  ·
   rw [q1, e0, show t' = t by omega]
  ·
   omega
 ·
  rw [if_neg e0] at hs hx
  rcases h5 with ⟨q1, q2, q3⟩ | ⟨q1, q2, q3⟩
  ·
   omega
  ·
   rw [show k = e by omega, show t' = t by omega]
theorem blen_two (s : Nat) : z7 (2 * s + 1) = z7 s + 1 := by
 by_cases h : s = 0
 ·
  subst h; decide
 ·
  obtain ⟨l1, l2, l3⟩ := blen_low s h
  have e1 : 2 ^ z7 s = 2 * 2 ^ (z7 s - 1) := by
   obtain ⟨q, hq⟩ : ∃ q, z7 s = q + 1 := ⟨z7 s - 1, by omega⟩
   rw [hq, Nat.add_sub_cancel, Nat.pow_succ, Nat.mul_comm]
  exact blen_is (2 * s + 1) (z7 s) (by omega) (by rw [Nat.pow_succ]; omega)
theorem mid_none {f : Int} (hf : xH f) (b : Bool) (e t : Nat) (he : e < oV f) (ht : t < 2 ^ pV f) : (XN.mk b (2 * sV f e t + 1) 1 (xV f e - 1)).can ∧ ofX f ⟨b, 2 * sV f e t + 1, 1, xV f e - 1⟩ = (0, false) := by
 obtain ⟨n1, n2, n3, n4, n5, n6⟩ := nm8 hf
 have oe : (oV f : Int) = 2 * fE f + 1 := by unfold oV; omega
 obtain ⟨s, hs⟩ : ∃ s, sV f e t = s := ⟨_, rfl⟩
 obtain ⟨x, hx⟩ : ∃ x, xV f e = x := ⟨_, rfl⟩
 rw [hs, hx]
 have tw := top_whole b (2 * s + 1) (x - 1) (by omega)
 rw [blen_two] at tw
 unfold sV at hs
 unfold xV at hx
 have sl : s < 2 * 2 ^ pV f := by split at hs <;> omega
 have bl : z7 s ≤ pV f + 1 := (y6 s _).2 (by rw [Nat.pow_succ]; omega)
 have xl : -20000 ≤ x ∧ x ≤ 20000 := by split at hx <;> omega
 have A : ofA f ⟨b, 2 * s + 1, 1, x - 1⟩ = x := by
  unfold ofA
  rw [tw]
  by_cases e0 : e = 0
  ·
   rw [if_pos e0] at hs hx
   have : z7 s ≤ pV f := (y6 s _).2 (by omega)
   omega
  ·
   rw [if_neg e0] at hs hx
   have : z7 s = pV f + 1 := blen_is s (pV f) (by omega) (by rw [Nat.pow_succ]; omega)
   omega
 have hc : (XN.mk b (2 * s + 1) 1 (x - 1)).can := by
  refine ⟨?_, ?_, ?_, ?_, Or.inr ⟨?_, rfl, Nat.gcd_one_right _⟩⟩
  ·
   show nl (2 * s + 1) ≤ 16384
   exact qX _ (pV f + 2) (by rw [Nat.pow_succ, Nat.pow_succ]; omega) (by omega)
  ·
   show nl 1 ≤ 16384
   exact qX _ 1 (by decide) (by decide)
  ·
   show -1048576 ≤ x - 1; omega
  ·
   show x - 1 ≤ 1048576; omega
  ·
   show (2 * s + 1) % 2 = 1; omega
 refine ⟨hc, of_no _ hc (by show 2 * s + 1 ≠ 0; omega) (Or.inr (Or.inr ?_))⟩
 rw [A]
 show x - 1 < x
 omega
end Go.Proofs.YtkblmpmkchkpjaaGreatDoor
namespace Go.Proofs.YtkblmpmkchkpjaaGreatDoor
set_option maxRecDepth 100000
set_option maxHeartbeats 40000000
open Go.RowKit WMath
set_option linter.unusedSimpArgs false
set_option linter.unusedVariables false
theorem knatOf_is (n : Nat) (v : ByteArray) (hn : n < Q) (hv : yG n = v) (w : World) : Calls Tryz.prog 131 #[.agg (cw 6 n)] w fun r w' => r = .returned (.string v) ∧ Below w.heap.size w w' := by
 have hat := yS 6
 have hz := cw6z
 have hff := cw6f
 have hs0 := st0
 have hcs : ∀ x, ((cw 6 x).size = 6) = True := fun x => eq_true (yT 6 x)
 obtain ⟨l, hl⟩ : ∃ l, z7 n = l := ⟨_, rfl⟩
 obtain ⟨m, hm⟩ : ∃ m, nl n = m := ⟨_, rfl⟩
 have hml : m = (l + 7) / 8 := by rw [← hm, ← hl]; rfl
 obtain ⟨K, hK, hQ⟩ := Q48
 have m48 : m ≤ 48 := by rw [← hm, ← hK]; exact qO n K (by rw [← hQ]; exact hn)
 have l384 : l ≤ 384 := by omega
 have n1 : IntKind.i64.wrap ((l : Int) + 7) = (l : Int) + 7 := zK _ (by omega) (by omega)
 have n1t : ((l : Int) + 7).tdiv 8 = (m : Int) := by rw [Int.tdiv_eq_ediv_of_nonneg (by omega)]; omega
 have n1w : IntKind.i64.wrap (m : Int) = (m : Int) := zK _ (by omega) (by omega)
 have hmk := c8_make m (by omega)
 have hvz : v.size = m := by rw [← hv, yE, hm]
 have KL := zH (wlen_is n l hn hl)
 have HM := zH hm
 have HV := zH hv
 clear hm hl hv hml hK hQ hn
 obtain ⟨Ab, B0⟩ := yO w (Obj.cells (cw 6 n) 66)
 go_enter Tryz.func131, Tryz.ntmps131
 go_wp2_with fail
 refine (KL.out _).mono ?_
 rintro r w1 ⟨rfl, b1⟩
 have B1 := zO B0 b1
 have Aa := zA b1 _ _ _ Ab
 clear b1 B0 Ab
 have Ac := zR Aa
 go_wp2
 clear hmk n1 n1t n1w
 obtain ⟨g, hg⟩ : ∃ g, w1.heap.size = g := ⟨_, rfl⟩
 have hgw : w.heap.size < g := by rw [← hg]; exact (Array.getElem?_eq_some_iff.1 Aa).1
 have r0 : (w1.alloc (.cells (c8 m 0) 5)).heap[g]? = some (.cells (c8 m 0) 5) := by rw [← hg]; exact heap_alloc_last _ _
 have r2 : (w1.alloc (.cells (c8 m 0) 5)).heap[w.heap.size]? = some (.cells (cw 6 n) 66) := zA (yK _ _) _ _ _ Aa
 have b0 : Below w.heap.size w (w1.alloc (.cells (c8 m 0) 5)) := zO B1 (yK _ _)
 rw [hg]
 clear hg
 go_loopw [12] (fun iv wr => ∃ (i Y : Nat), i ≤ m ∧ iv = .int .i64 i ∧ wr.heap[w.heap.size]? = some (.cells (cw 6 n) 66) ∧ wr.heap[g]? = some (.cells (c8 m Y) 5) ∧ Below w.heap.size w wr ∧ zS (∀ j, m - i ≤ j → j < m → d8 Y j = d8 n (m - 1 - j))) (fun iv _ => m - (intOf iv).toNat)
 case atStart => exact ⟨0, 0, by omega, rfl, r2, r0, b0, zH (fun j h1 h2 => absurd h2 (by omega))⟩
 case round =>
  clear r0 r2 b0 Aa B1
  obtain ⟨i, Y, hi, rfl, r2, r1, hbw, HX⟩ := hrel
  by_cases hlt : i < m
  ·
   obtain ⟨pl, hpl⟩ : ∃ pl, m - 1 - i = pl := ⟨_, rfl⟩
   obtain ⟨x, hx⟩ : ∃ x, d8 n i = x := ⟨_, rfl⟩
   obtain ⟨q, hq⟩ : ∃ q, i / 8 = q := ⟨_, rfl⟩
   obtain ⟨r, hr⟩ : ∃ r, i % 8 = r := ⟨_, rfl⟩
   have x256 : x < 256 := by rw [← hx]; exact qD n i
   have n1 : IntKind.i64.wrap ((m : Int) - 1) = (m : Int) - 1 := zK _ (by omega) (by omega)
   have n2 : IntKind.i64.wrap ((m : Int) - 1 - (i : Int)) = (pl : Int) := by rw [zK _ (by omega) (by omega)]; omega
   have n2' : (m : Int) - 1 - (i : Int) = (pl : Int) := by omega
   have q1 : (i : Int) / 8 = (q : Int) := by omega
   have tm : (i : Int).tmod 8 = (r : Int) := by rw [Int.tmod_eq_emod_of_nonneg (by omega)]; omega
   have tm2 : (i : Int) % 8 = (r : Int) := by omega
   have w1' : IntKind.i64.wrap (q : Int) = (q : Int) := zK _ (by omega) (by omega)
   obtain ⟨k, hk⟩ : ∃ k, 8 * r = k := ⟨_, rfl⟩
   have w2' : IntKind.i64.wrap (k : Int) = (k : Int) := zK _ (by omega) (by omega)
   have w3 : (r : Int) * 8 = (k : Int) := by omega
   obtain ⟨z, hz'⟩ : ∃ z, wd n q = z := ⟨_, rfl⟩
   obtain ⟨y, hy⟩ : ∃ y, z / 2 ^ k = y := ⟨_, rfl⟩
   have hyx : y % 256 = x := by rw [← hy, ← hz', ← hq, ← hk, ← hr, ld8_wd, hx]
   have n4 := qS y x hyx
   have n5 : (z : Int) / 2 ^ k = (y : Int) := by rw [div_cast, hy]
   have q6 : q < 6 := by omega
   have plm : pl < m := by omega
   have c0 := zR r2 q q6
   rw [hz'] at c0
   have c1 := jB r1 plm
   have f0 := fz (k := pl) r1
   have R2 : zS ((wr.setCell ⟨g, pl, none⟩ (.int .u8 (x : Int))).heap[g]? = some (.cells (c8 m (set8 Y pl x)) 5)) := zH (by rw [z6 r1, c8_seti m Y pl x _ plm x256 rfl])
   have R3 : zS ((wr.setCell ⟨g, pl, none⟩ (.int .u8 (x : Int))).heap[w.heap.size]? = some (.cells (cw 6 n) 66)) := zH ((zG (w := wr) (by omega)).trans r2)
   have B2 : zS (Below w.heap.size w (wr.setCell ⟨g, pl, none⟩ (.int .u8 (x : Int)))) := zH (hbw.setCell (by show w.heap.size ≤ g; omega) _)
   have NX : zS (∀ j, m - (i + 1) ≤ j → j < m → d8 (set8 Y pl x) j = d8 n (m - 1 - j)) := zH (fun j h1 h2 => by
    rw [d8_set8 _ _ _ _ x256]
    by_cases e : j = pl
    ·
     rw [if_pos e, ← hx]; congr 1; omega
    ·
     rw [if_neg e]; exact HX.out j (by omega) h2)
   have k64 : k < 64 := by omega
   have dl : decide (i < m) = true := decide_eq_true hlt
   have dz : decide ((k : Int) < 0) = false := by rw [decide_eq_false_iff_not]; omega
   clear hpl hx hq hr hk hy hz' HX hyx
   go_wp2
   go_roundw
   case rel => exact ⟨i + 1, _, by omega, by go_num, R3.out, R2.out, B2.out, NX⟩
   case measure => simp [intOf] <;> omega
  ·
   obtain rfl : i = m := by omega
   have hst := c8_strN (c := i) v r1 hvz (fun j hj => by
    rw [HX.out j (by omega) (by omega)]
    have e := HV.out
    subst e
    rw [xT, HM.out])
   have dl : decide (i < i) = false := by rw [decide_eq_false_iff_not]; omega
   go_wp2
   go_ret
   exact ⟨rfl, hbw⟩
theorem kwideOf_is (n : Nat) (s : ByteArray) (hs : yG n = s) (h : nl n ≤ 48) (w : World) : Calls Tryz.prog 255 #[.string s] w fun r w' => r = .returned (.agg (cw 6 n)) ∧ Below w.heap.size w w' := by
 have hat := yS 6
 have hz := cw6z
 have hff := cw6f
 have hs0 := st0
 have hcs : ∀ x, ((cw 6 x).size = 6) = True := fun x => eq_true (yT 6 x)
 have hs1 := st1
 obtain ⟨L, hL⟩ : ∃ L, nl n = L := ⟨_, rfl⟩
 have hsz : s.size = L := by rw [← hs, yE, hL]
 have ln := nl_lt n
 rw [hL] at h ln
 have HS := zH hs
 have HN := zH ln
 have HL := zH hL
 clear hs hL ln
 have R0 := trows2 w
 go_enter Tryz.func255, Tryz.ntmps255
 go_wp2
 go_loopw [7] (fun iv wr => ∃ i : Nat, i ≤ L ∧ iv = .int .i64 i ∧ RowsL w wr [0, n % 2 ^ (8 * i)]) (fun iv _ => L - (intOf iv).toNat)
 case atStart => exact ⟨0, by omega, rfl, by rw [Nat.mul_zero, Nat.pow_zero, Nat.mod_one]; exact R0⟩
 case round =>
  clear R0
  obtain ⟨i, hi, rfl, R⟩ := hrel
  by_cases hlt : i < L
  ·
   obtain ⟨q, hq⟩ : ∃ q, q = i / 8 := ⟨_, rfl⟩
   obtain ⟨r, hr⟩ : ∃ r, r = 8 * (i % 8) := ⟨_, rfl⟩
   obtain ⟨x, hx⟩ : ∃ x, d8 n i = x := ⟨_, rfl⟩
   obtain ⟨k, hk⟩ : ∃ k, L - 1 - i = k := ⟨_, rfl⟩
   have x256 : x < 256 := by rw [← hx]; exact qD n i
   have hk2 : k < s.size := by omega
   have hxd : (s[k]'hk2).toNat = x := by
    have e := HS.out
    subst e
    rw [xT, HL.out, ← hk, show L - 1 - (L - 1 - i) = i by omega, hx]
   have hxr := idx_runN s k (k : Int) x rfl hk2 hxd
   have n1 : IntKind.i64.wrap ((L : Int) - 1) = (L : Int) - 1 := zK _ (by omega) (by omega)
   have n2 : IntKind.i64.wrap ((L : Int) - 1 - (i : Int)) = (k : Int) := by rw [zK _ (by omega) (by omega)]; omega
   have n2' : (L : Int) - 1 - (i : Int) = (k : Int) := by omega
   have q1 : (i : Int) / 8 = (q : Int) := by omega
   obtain ⟨r0, hr0⟩ : ∃ r0, i % 8 = r0 := ⟨_, rfl⟩
   have tm : (i : Int).tmod 8 = (r0 : Int) := by rw [Int.tmod_eq_emod_of_nonneg (by omega)]; omega
   have tm2 : (i : Int) % 8 = (r0 : Int) := by omega
   have w1 : IntKind.i64.wrap (q : Int) = (q : Int) := zK _ (by omega) (by omega)
   have w2 : IntKind.i64.wrap ((r0 : Int) * 8) = (r : Int) := by rw [zK _ (by omega) (by omega)]; omega
   have w2' : (r0 : Int) * 8 = (r : Int) := by omega
   have w4 : IntKind.i64.wrap (r : Int) = (r : Int) := zK _ (by omega) (by omega)
   have q6 : q < 6 := by omega
   have r64 : r < 64 := by omega
   have qi6 : (q : Int) < 6 := by omega
   have HST := zH (toWide_step n i q r x hq hr hx)
   obtain ⟨y, hy⟩ : ∃ y, x * 2 ^ r = y := ⟨_, rfl⟩
   have y64 : y < 18446744073709551616 := by rw [← hy, hr]; exact byte_sh x (i % 8) x256 (by omega)
   have n4 : IntKind.u64.wrap (x : Int) = (x : Int) := by rw [IntKind.wrap_u64]; omega
   have n5 : IntKind.u64.wrap ((x : Int) * 2 ^ r) = (y : Int) := by
    rw [pow_cast, ← Int.natCast_mul, hy]
    exact wrap_nat y y64
   rw [hy] at HST
   obtain ⟨X, hX⟩ : ∃ X, n % 2 ^ (8 * i) = X := ⟨_, rfl⟩
   obtain ⟨Y, hY⟩ : ∃ Y, n % 2 ^ (8 * (i + 1)) = Y := ⟨_, rfl⟩
   rw [hX] at R
   rw [hX, hY] at HST
   have x3 := bor X q y y64
   have x4 := cw_or 6 X q y Y q6 y64 HST.out.symm
   have R2 : RowsL w (wr.setCell ⟨w.heap.size + 1, q, none⟩ (.int .u64 ((wd X q ||| y : Nat) : Int))) [0, Y] := rowsL_setCell R 1 X Y _ q _ rfl rfl x4 rfl
   have HY := zH hY
   have c1 := zR (rows1 R) q q6
   have f0 := fz (k := q) (rows1 R)
   have dl : decide (i < L) = true := decide_eq_true hlt
   have dz : decide ((r : Int) < 0) = false := by rw [decide_eq_false_iff_not]; omega
   clear hr hx hq hy hX hY HST x4 hr0 hk hxd
   go_wp2
   go_region
   all_goals go_wp2
   all_goals go_roundw
   all_goals first | (show (_ : Nat) < _; simp [intOf]; omega) | exact ⟨i + 1, by omega, by go_num, by rw [HY.out]; exact rowsL_drew R2 1⟩
  ·
   obtain rfl : i = L := by omega
   have dl : decide (i < i) = false := by rw [decide_eq_false_iff_not]; omega
   rw [Nat.mod_eq_of_lt HN.out] at R
   have hst := st_any wr w.heap.size n 0 (rows0 R)
   have c1 := zR (rows1 R)
   have R2 : RowsL w (wr.setRow w.heap.size (cw 6 n)) [n, n] := rowsL_set R 0 n _ (by simp) rfl rfl
   have c2 := zR (rows0 R2)
   go_wp2
   exact bodyPost_ret (v := .agg (cw 6 n)) (by simp [results, Tryz.results255, go_sem, c2, hff]) rfl ⟨rfl, R2.2⟩
theorem kfin_is (c : Nat) (o : Bool) (ho : (decide (0 < c) && decide (c < 7)) = o) (w : World) : Calls Tryz.prog 129 #[.int .u8 c] w fun r w' => r = .returned (.bool o) ∧ Below w.heap.size w w' := by
 by_cases h0 : c = 0
 ·
  subst h0
  obtain rfl : false = o := ho
  go_enter Tryz.func129, Tryz.ntmps129
  go_wp2
  go_ret
  exact ⟨rfl, Below.refl _ _⟩
 ·
  have d1 : decide (0 < c) = true := decide_eq_true (by omega)
  rw [d1, Bool.true_and] at ho
  have d2 : decide ((c : Int) < 7) = o := by rw [← ho, decide_eq_decide]; omega
  clear ho h0
  cases o
  all_goals
   go_enter Tryz.func129, Tryz.ntmps129
   go_wp2
   go_ret
   exact ⟨rfl, Below.refl _ _⟩
theorem kvalue_inf (f : Int) (x y c s rr : Nat) (X : Int) (w : World)
  (KU : zS (∀ w, yF w → Calls Tryz.prog 29 #[.int .u8 f, .agg #[.int .u64 x, .int .u64 y]] w fun r w' => r = .returned (.tuple #[.agg (pt c s X rr), .int .i64 0]) ∧ Below w.heap.size w w'))
  (KF : zS (∀ w, Calls Tryz.prog 129 #[.int .u8 c] w fun r w' => r = .returned (.bool false) ∧ Below w.heap.size w w'))
  (hT : yF w) : Calls Tryz.prog 54 #[.int .u8 f, .agg #[.int .u64 x, .int .u64 y]] w fun r w' => r = .returned (.tuple #[.agg #[.bool false, .string ⟨#[]⟩, .string ⟨#[]⟩, .int .i64 0], .int .i64 80]) ∧ Below w.heap.size w w' := by
 have FF := zH hT
 clear hT
 have hp1 := ptf
 have hp3 := ptz
 have hp4 := st_p0
 have hp5 : ∀ (c s : Nat) (x : Int) (r : Nat), ((pt c s x r).size = 14) = True := fun _ _ _ _ => eq_true rfl
 obtain ⟨Ag, Ah, B0⟩ := qW w (Obj.cells #[.int .u64 x, .int .u64 y] 25) (Obj.cells #[.bool false, .string ⟨#[]⟩, .string ⟨#[]⟩, .int .i64 0] 41)
 go_enter Tryz.func54, Tryz.ntmps54
 go_wp2_with fail
 refine (KU.out _ (zW FF.out B0)).mono ?_
 rintro r w1 ⟨rfl, b1⟩
 have B1 := zO B0 b1
 obtain ⟨Ab, Ac⟩ := yB b1 Ag Ah
 clear b1 B0 Ag Ah
 obtain ⟨Ai, Aj⟩ := zF Ab
 obtain ⟨Ak, Al, Am, An⟩ := zC Ac
 have S2 := zH B1.size
 have AK := z8 Ab
 have AL := z8 Ac
 have Ad := heap_alloc_last w1 (Obj.cells (pt c s X rr) 68)
 have B2 := zO B1 (yK w1 (Obj.cells (pt c s X rr) 68))
 obtain ⟨Ae, Af⟩ := yB (yK w1 (Obj.cells (pt c s X rr) 68)) Ab Ac
 clear B1 Ab Ai Aj Ac Ak Al Am An
 obtain ⟨Ao, Ap⟩ := zF Ae
 obtain ⟨Aq, Ar, As, At⟩ := zC Af
 obtain ⟨Au, Av, Aw, Ax, Ay, Az, AA, AB, AC, AD, AE, AF, AG, AH⟩ := zM Ad
 go_wp2_with fail
 refine (KF.out _).mono ?_
 rintro r w3 ⟨rfl, b3⟩
 have B3 := zO B2 b3
 obtain ⟨AI, Aa, AJ⟩ := yA b3 Ae Af Ad
 clear b3 B2 Ae Ao Ap Af Aq Ar As At Ad Au Av Aw Ax Ay Az AA AB AC AD AE AF AG AH
 obtain ⟨AM, AN⟩ := zF AI
 obtain ⟨AO, AP, AQ, AR⟩ := zC Aa
 obtain ⟨AS, AT, AU, AV, AW, AX, AY, AZ, A0, A1, A2, A3, A4, A5⟩ := zM AJ
 have q0 := fz (k := 0) Aa
 have q1 := fz (k := 1) Aa
 have q2 := fz (k := 2) Aa
 have q3 := fz (k := 3) Aa
 obtain ⟨E0, E1, E2, E3⟩ := yC Aa rfl (.bool false) (.string ⟨#[]⟩) (.string ⟨#[]⟩) (.int .i64 0)
 go_wp2
 exact bodyPost_ret (v := .tuple #[.agg #[.bool false, .string ⟨#[]⟩, .string ⟨#[]⟩, .int .i64 0], .int .i64 80]) (by simp [results, Tryz.results54, go_sem, E0, E1, E2, E3]) rfl ⟨rfl, z9 B3 (by first | exact Nat.le_refl _ | omega) _ _ _ _⟩
theorem kvalue_yes (f : Int) (x y c s rr : Nat) (X : Int) (neg : Bool) (sg : ByteArray) (rb : Bool) (u v : ByteArray) (re err : Int) (w : World)
  (KU : zS (∀ w, yF w → Calls Tryz.prog 29 #[.int .u8 f, .agg #[.int .u64 x, .int .u64 y]] w fun r w' => r = .returned (.tuple #[.agg (pt c s X rr), .int .i64 0]) ∧ Below w.heap.size w w'))
  (KF : zS (∀ w, Calls Tryz.prog 129 #[.int .u8 c] w fun r w' => r = .returned (.bool true) ∧ Below w.heap.size w w'))
  (KS : zS (∀ w, yF w → Calls Tryz.prog 30 #[.int .u8 f, .agg #[.int .u64 x, .int .u64 y]] w fun r w' => r = .returned (.bool neg) ∧ Below w.heap.size w w'))
  (KN : zS (∀ w, Calls Tryz.prog 131 #[.agg (cw 6 s)] w fun r w' => r = .returned (.string sg) ∧ Below w.heap.size w w'))
  (KM : zS (∀ w, zN w → Calls Tryz.prog 130 #[.bool neg, .string sg, .string ⟨#[1]⟩, .int .i64 X] w fun r w' => r = .returned (.tuple #[.agg #[.bool rb, .string u, .string v, .int .i64 re], .int .i64 err]) ∧ Below w.heap.size w w'))
  (hT : yF w) (hT2 : zN w) : Calls Tryz.prog 54 #[.int .u8 f, .agg #[.int .u64 x, .int .u64 y]] w fun r w' => r = .returned (.tuple #[.agg #[.bool rb, .string u, .string v, .int .i64 re], .int .i64 err]) ∧ Below w.heap.size w w' := by
 have FF := zH hT
 have TT := zH hT2
 clear hT hT2
 have hat := yS 6
 have hz := cw6z
 have hff := cw6f
 have hs0 := st0
 have hcs : ∀ x, ((cw 6 x).size = 6) = True := fun x => eq_true (yT 6 x)
 have hp1 := ptf
 have hp3 := ptz
 have hp4 := st_p0
 have hp5 : ∀ (c s : Nat) (x : Int) (r : Nat), ((pt c s x r).size = 14) = True := fun _ _ _ _ => eq_true rfl
 obtain ⟨An, Ao, B0⟩ := qW w (Obj.cells #[.int .u64 x, .int .u64 y] 25) (Obj.cells #[.bool false, .string ⟨#[]⟩, .string ⟨#[]⟩, .int .i64 0] 41)
 go_enter Tryz.func54, Tryz.ntmps54
 go_wp2_with fail
 refine (KU.out _ (zW FF.out B0)).mono ?_
 rintro r w1 ⟨rfl, b1⟩
 have B1 := zO B0 b1
 obtain ⟨Aa, Ab⟩ := yB b1 An Ao
 clear b1 B0 An Ao
 obtain ⟨Au, Av⟩ := zF Aa
 obtain ⟨Aw, Ax, Ay, Az⟩ := zC Ab
 have S2 := zH B1.size
 have Ap := z8 Aa
 have Aq := z8 Ab
 have Ac := heap_alloc_last w1 (Obj.cells (pt c s X rr) 68)
 have B2 := zO B1 (yK w1 (Obj.cells (pt c s X rr) 68))
 obtain ⟨Ad, Ae⟩ := yB (yK w1 (Obj.cells (pt c s X rr) 68)) Aa Ab
 clear B1 Aa Au Av Ab Aw Ax Ay Az
 obtain ⟨AA, AB⟩ := zF Ad
 obtain ⟨AC, AD, AE, AF⟩ := zC Ae
 obtain ⟨AG, AH, AI, AJ, AK, AL, AM, AN, AO, AP, AQ, AR, AS, AT⟩ := zM Ac
 go_wp2_with fail
 refine (KF.out _).mono ?_
 rintro r w3 ⟨rfl, b3⟩
 have B3 := zO B2 b3
 obtain ⟨Ar, As, At⟩ := yA b3 Ad Ae Ac
 clear b3 B2 Ad AA AB Ae AC AD AE AF Ac AG AH AI AJ AK AL AM AN AO AP AQ AR AS AT
 obtain ⟨AU, AV⟩ := zF Ar
 obtain ⟨AW, AX, AY, AZ⟩ := zC As
 obtain ⟨A0, A1, A2, A3, A4, A5, A6, A7, A8, A9, Ba, Bb, Bc, Bd⟩ := zM At
 have sS : zS (∀ W W1 : World, (Below w.heap.size w W ∧ W.heap[w.heap.size]? = some (.cells #[.int .u64 x, .int .u64 y] 25) ∧ W.heap[w1.heap.size]? = some (.cells (pt c s X rr) 68)) → Below W.heap.size W W1 → (Below w.heap.size w W1 ∧ W1.heap[w.heap.size]? = some (.cells #[.int .u64 x, .int .u64 y] 25) ∧ W1.heap[w1.heap.size]? = some (.cells (pt c s X rr) 68))) := zH (fun W W1 h b => ⟨zO h.1 b, zA b _ _ _ h.2.1, zA b _ _ _ h.2.2⟩)
 have HH := zH (And.intro S2.out (And.intro Ap.out Aq.out))
 have sT : zS (∀ (W : World) (xA xB xC xD : Value), (Below w.heap.size w W ∧ W.heap[w.heap.size]? = some (.cells #[.int .u64 x, .int .u64 y] 25) ∧ W.heap[w1.heap.size]? = some (.cells (pt c s X rr) 68)) → (Below w.heap.size w ((((W.setCell ⟨w.heap.size + 1, 0, none⟩ xA).setCell ⟨w.heap.size + 1, 1, none⟩ xB).setCell ⟨w.heap.size + 1, 2, none⟩ xC).setCell ⟨w.heap.size + 1, 3, none⟩ xD) ∧ ((((W.setCell ⟨w.heap.size + 1, 0, none⟩ xA).setCell ⟨w.heap.size + 1, 1, none⟩ xB).setCell ⟨w.heap.size + 1, 2, none⟩ xC).setCell ⟨w.heap.size + 1, 3, none⟩ xD).heap[w.heap.size]? = some (.cells #[.int .u64 x, .int .u64 y] 25) ∧ ((((W.setCell ⟨w.heap.size + 1, 0, none⟩ xA).setCell ⟨w.heap.size + 1, 1, none⟩ xB).setCell ⟨w.heap.size + 1, 2, none⟩ xC).setCell ⟨w.heap.size + 1, 3, none⟩ xD).heap[w1.heap.size]? = some (.cells (pt c s X rr) 68))) := zH (fun W xA xB xC xD h => ⟨z9 h.1 (by first | exact Nat.le_refl _ | omega | (have := HH.out; omega)) xA xB xC xD, ((zG (by first | omega | (have := HH.out; omega))).trans ((zG (by first | omega | (have := HH.out; omega))).trans ((zG (by first | omega | (have := HH.out; omega))).trans ((zG (by first | omega | (have := HH.out; omega))).trans h.2.1)))), ((zG (by first | omega | (have := HH.out; omega))).trans ((zG (by first | omega | (have := HH.out; omega))).trans ((zG (by first | omega | (have := HH.out; omega))).trans ((zG (by first | omega | (have := HH.out; omega))).trans h.2.2))))⟩)
 have sC : zS (∀ W : World, (Below w.heap.size w W ∧ W.heap[w.heap.size]? = some (.cells #[.int .u64 x, .int .u64 y] 25) ∧ W.heap[w1.heap.size]? = some (.cells (pt c s X rr) 68)) → (Below w.heap.size w W ∧ W.heap[w.heap.size]? = some (.cells #[.int .u64 x, .int .u64 y] 25) ∧ W.heap[w1.heap.size]? = some (.cells (pt c s X rr) 68) ∧ W.cell? ⟨w.heap.size, 0, none⟩ = some (.int .u64 x) ∧ W.cell? ⟨w.heap.size, 1, none⟩ = some (.int .u64 y) ∧ W.cell? ⟨w1.heap.size, 0, none⟩ = some (.int .u8 c) ∧ W.cell? ⟨w1.heap.size, 1, none⟩ = some (.int .u64 (wd s 0)) ∧ W.cell? ⟨w1.heap.size, 2, none⟩ = some (.int .u64 (wd s 1)) ∧ W.cell? ⟨w1.heap.size, 3, none⟩ = some (.int .u64 (wd s 2)) ∧ W.cell? ⟨w1.heap.size, 4, none⟩ = some (.int .u64 (wd s 3)) ∧ W.cell? ⟨w1.heap.size, 5, none⟩ = some (.int .u64 (wd s 4)) ∧ W.cell? ⟨w1.heap.size, 6, none⟩ = some (.int .u64 (wd s 5)) ∧ W.cell? ⟨w1.heap.size, 7, none⟩ = some (.int .i64 X) ∧ W.cell? ⟨w1.heap.size, 8, none⟩ = some (.int .u64 (wd rr 0)) ∧ W.cell? ⟨w1.heap.size, 9, none⟩ = some (.int .u64 (wd rr 1)) ∧ W.cell? ⟨w1.heap.size, 10, none⟩ = some (.int .u64 (wd rr 2)) ∧ W.cell? ⟨w1.heap.size, 11, none⟩ = some (.int .u64 (wd rr 3)) ∧ W.cell? ⟨w1.heap.size, 12, none⟩ = some (.int .u64 (wd rr 4)) ∧ W.cell? ⟨w1.heap.size, 13, none⟩ = some (.int .u64 (wd rr 5)))) := zH (fun W h => ⟨h.1, h.2.1, h.2.2, zL (h.2.1) 0 _ rfl, zL (h.2.1) 1 _ rfl, zL (h.2.2) 0 _ rfl, zL (h.2.2) 1 _ rfl, zL (h.2.2) 2 _ rfl, zL (h.2.2) 3 _ rfl, zL (h.2.2) 4 _ rfl, zL (h.2.2) 5 _ rfl, zL (h.2.2) 6 _ rfl, zL (h.2.2) 7 _ rfl, zL (h.2.2) 8 _ rfl, zL (h.2.2) 9 _ rfl, zL (h.2.2) 10 _ rfl, zL (h.2.2) 11 _ rfl, zL (h.2.2) 12 _ rfl, zL (h.2.2) 13 _ rfl⟩)
 have s0 : Below w.heap.size w (w3).drew ∧ (w3).drew.heap[w.heap.size]? = some (.cells #[.int .u64 x, .int .u64 y] 25) ∧ (w3).drew.heap[w1.heap.size]? = some (.cells (pt c s X rr) 68) := ⟨B3.drew, Ar, At⟩
 have rz : (w3).drew.heap[w.heap.size + 1]? = some (.cells #[.bool false, .string ⟨#[]⟩, .string ⟨#[]⟩, .int .i64 0] 41) := As
 have Af := fz (k := 0) rz
 have Ag := fz (k := 1) rz
 have Ah := fz (k := 2) rz
 have Ai := fz (k := 3) rz
 have Aj := zL rz 0 _ rfl
 have Ak := zL rz 1 _ rfl
 have Al := zL rz 2 _ rfl
 have Am := zL rz 3 _ rfl
 go_wp2_with fail
 go_region_held3 (fun W => Below w.heap.size w W ∧ W.heap[w.heap.size]? = some (.cells #[.int .u64 x, .int .u64 y] 25) ∧ W.heap[w1.heap.size]? = some (.cells (pt c s X rr) 68) ∧ W.cell? ⟨w.heap.size, 0, none⟩ = some (.int .u64 x) ∧ W.cell? ⟨w.heap.size, 1, none⟩ = some (.int .u64 y) ∧ W.cell? ⟨w1.heap.size, 0, none⟩ = some (.int .u8 c) ∧ W.cell? ⟨w1.heap.size, 1, none⟩ = some (.int .u64 (wd s 0)) ∧ W.cell? ⟨w1.heap.size, 2, none⟩ = some (.int .u64 (wd s 1)) ∧ W.cell? ⟨w1.heap.size, 3, none⟩ = some (.int .u64 (wd s 2)) ∧ W.cell? ⟨w1.heap.size, 4, none⟩ = some (.int .u64 (wd s 3)) ∧ W.cell? ⟨w1.heap.size, 5, none⟩ = some (.int .u64 (wd s 4)) ∧ W.cell? ⟨w1.heap.size, 6, none⟩ = some (.int .u64 (wd s 5)) ∧ W.cell? ⟨w1.heap.size, 7, none⟩ = some (.int .i64 X) ∧ W.cell? ⟨w1.heap.size, 8, none⟩ = some (.int .u64 (wd rr 0)) ∧ W.cell? ⟨w1.heap.size, 9, none⟩ = some (.int .u64 (wd rr 1)) ∧ W.cell? ⟨w1.heap.size, 10, none⟩ = some (.int .u64 (wd rr 2)) ∧ W.cell? ⟨w1.heap.size, 11, none⟩ = some (.int .u64 (wd rr 3)) ∧ W.cell? ⟨w1.heap.size, 12, none⟩ = some (.int .u64 (wd rr 4)) ∧ W.cell? ⟨w1.heap.size, 13, none⟩ = some (.int .u64 (wd rr 5))) (first | exact sC.out _ s1 | exact sC.out _ s0 | exact sC.out _ (sT.out _ _ _ _ _ s1) | exact sC.out _ (sT.out _ _ _ _ _ s0))
  (((first | (go_at_call 30; (first | refine (KS.out _ (zW FF.out (And.left s1))).mono ?_ | refine (KS.out _ (zW FF.out (And.left s0))).mono ?_)) | (go_at_call 131; (first | refine (KN.out _).mono ?_ | refine (KN.out _).mono ?_)) | (go_at_call 130; (first | refine (KM.out _ (zV TT.out (And.left s1))).mono ?_ | refine (KM.out _ (zV TT.out (And.left s0))).mono ?_)) | fail); rintro r wq ⟨rfl, bq⟩; have s1 := (by first | exact sS.out _ _ s1 bq | exact sS.out _ _ s0 bq); have rz := zA bq _ _ _ rz; have Af := fz (k := 0) rz; have Aj := zL rz 0 _ rfl; have Ag := fz (k := 1) rz; have Ak := zL rz 1 _ rfl; have Ah := fz (k := 2) rz; have Al := zL rz 2 _ rfl; have Ai := fz (k := 3) rz; have Am := zL rz 3 _ rfl; clear bq))
 obtain ⟨E0, E1, E2, E3⟩ := yC rz rfl (.bool rb) (.string u) (.string v) (.int .i64 re)
 have BZ := (by first | exact And.left s1 | exact And.left s0 : Below w.heap.size w _)
 go_wp2
 exact bodyPost_ret (v := .tuple #[.agg #[.bool rb, .string u, .string v, .int .i64 re], .int .i64 err]) (by simp [results, Tryz.results54, go_sem, E0, E1, E2, E3]) rfl ⟨rfl, z9 BZ (by first | exact Nat.le_refl _ | omega | (have := S2.out; have := Ap.out; have := Aq.out; omega)) _ _ _ _⟩
end Go.Proofs.YtkblmpmkchkpjaaGreatDoor
