/-
  What the functions that the statement reaches return: part 20 (U2, U3, E2).
-/
import Derived.Test.YtkblmpmkchkpjaaGreatDoorNe19
namespace Go.Proofs.YtkblmpmkchkpjaaGreatDoor
set_option maxRecDepth 100000
set_option maxHeartbeats 40000000
open Go.RowKit WMath XMath
set_option linter.unusedSimpArgs false
set_option linter.unusedVariables false
theorem val_eS {f : Int} (hf : xH f) (neg : Bool) (j S : Nat) (hS : S ≤ 2 * 2 ^ pV f) (hj : j = 0 ∨ 2 ^ pV f ≤ S) (ht : lx f + (j : Int) - 1 + (z7 S : Int) ≤ fE f) :
  (0 < kC f (eS f neg j S) ∧ kC f (eS f neg j S) < 7) ∧ (vX f (eS f neg j S)).can ∧ (vX f (eS f neg j S)).val = sgn neg * ((S : Rat) * (2 : Rat) ^ (lx f + (j : Int))) ∧ Bd (vX f (eS f neg j S)) 128 20200 := by
 obtain ⟨n1, n2, n3, n4, n5, n6⟩ := nm8 hf
 have p := Nat.two_pow_pos (pV f)
 by_cases s0 : S = 0
 ·
  have j0 : j = 0 := by omega
  subst s0 j0
  have e : eS f neg 0 0 = yQ f neg 0 0 := rfl
  obtain ⟨v1, v2, v3, v4, v5, v6⟩ := vX_enc hf neg 0 0 (by omega) p
  rw [e]
  refine ⟨v1, v2, ?_, v4⟩
  rw [v3]
  have : sV f 0 0 = 0 := by unfold sV; rw [if_pos rfl]
  rw [this]
  have z : ((0 : Nat) : Rat) = 0 := rfl
  rw [z]
  grind
 ·
  obtain ⟨l1, l2, l3⟩ := blen_low S s0
  have j4 : j ≤ 40000 := by omega
  obtain ⟨e, t, he, htt, nz, h1, h2⟩ := rep hf j S s0 hS hj ht
  obtain ⟨v1, v2, v3, v4, v5, v6⟩ := vX_enc hf neg e t he htt
  obtain ⟨w1, w2, w3⟩ := val_of hf neg e t he htt nz
  have h3 := (mk_small hf neg j S s0 hS j4).1
  have a := mk_val neg S 1 (lx f + (j : Int)) (by decide) (by rw [h3])
  have b := mk_val neg (sV f e t) 1 (xV f e) (by decide) (by rw [w1])
  rw [h2 neg, b] at a
  rw [← h1 neg]
  refine ⟨v1, v2, ?_, v4⟩
  have o : ((1 : Nat) : Rat) = 1 := rfl
  rw [o] at a
  rw [v3]
  have d1 : ∀ q : Rat, q / 1 = q := fun q => by grind
  rw [d1, d1] at a
  rw [a, Rat.mul_assoc]
theorem half_is {f : Int} (hf : xH f) (x : XN) (hx : x.can) (n0 : x.n ≠ 0) (hd : nl x.d ≤ 8192) (S : Nat) (P : Rat) (hS : rS (xW f x) (dK f (yI x)) = S) (hP : (2 : Rat) ^ (lx f + (dJ f (yI x) : Int)) = P) :
  (S : Rat) * P ≤ x.mag ∧ x.mag ≤ ((S + 1 : Nat) : Rat) * P ∧ (rH (xW f x) (dK f (yI x)) = false → x.mag - (S : Rat) * P ≤ ((S + 1 : Nat) : Rat) * P - x.mag) ∧ (rH (xW f x) (dK f (yI x)) = true → ((S + 1 : Nat) : Rat) * P - x.mag ≤ x.mag - (S : Rat) * P) ∧ (rH (xW f x) (dK f (yI x)) = true → rM (xW f x) (dK f (yI x)) (xM f x) = false → x.mag - (S : Rat) * P ≤ ((S + 1 : Nat) : Rat) * P - x.mag) := by
 obtain ⟨t1, t2⟩ := top_lim hx
 obtain ⟨a, b⟩ := x_num hf x hx n0 hd t1 t2
 have hp := fp8 hf
 obtain ⟨n1, n2, n3, n4, n5, n6⟩ := nm8 hf
 have sl := st_lx hf (yI x)
 obtain ⟨T, hT⟩ : ∃ T, yI x = T := ⟨_, rfl⟩
 obtain ⟨W, hW⟩ : ∃ W, xW f x = W := ⟨_, rfl⟩
 obtain ⟨more, hm⟩ : ∃ W, xM f x = W := ⟨_, rfl⟩
 rw [hT] at b sl t1 t2 hS hP ⊢
 rw [hW] at b hS ⊢
 rw [hm] at b ⊢
 have hk : T + (dK f T : Int) = stE f T := by unfold dK stE; omega
 have hs : stE f T ≤ 1200000 := by unfold stE; omega
 have hs2 : -1300000 ≤ stE f T := by unfold stE; omega
 have b := b (dK f T) (by omega)
 obtain ⟨k, hk2⟩ : ∃ k, dK f T = k := ⟨_, rfl⟩
 rw [hk2] at b hk hS ⊢
 have g := fl_good x (T - fP f + (k : Int)) hx n0 (by rw [b])
 rw [b] at g
 simp only at g
 have eP : P = 2 * (2 : Rat) ^ (T - fP f + (k : Int)) := by
  rw [← hP, ← p2succ]
  congr 1
  omega
 obtain ⟨g1, g2, g3⟩ := g
 have pq := p2 (T - fP f + (k : Int))
 obtain ⟨q, hq⟩ : ∃ q, (2 : Rat) ^ (T - fP f + (k : Int)) = q := ⟨_, rfl⟩
 rw [hq] at g1 g2 g3 eP pq
 obtain ⟨h, hh⟩ : ∃ h, W / 2 ^ k = h := ⟨_, rfl⟩
 unfold rS at hS
 unfold rH rM
 rw [hh] at hS g1 g2 g3 ⊢
 have c2 : ((S + 1 : Nat) : Rat) = (S : Rat) + 1 := by rw [Rat.natCast_add]; rfl
 have ch : ((h + 1 : Nat) : Rat) = (h : Rat) + 1 := by rw [Rat.natCast_add]; rfl
 rw [c2, eP]
 rw [ch] at g2
 have two : ((2 : Nat) : Rat) = 2 := rfl
 rcases Nat.mod_two_eq_zero_or_one h with e | e
 ·
  have hv : h = 2 * S := by omega
  have cv : (h : Rat) = 2 * (S : Rat) := by rw [hv, Rat.natCast_mul, two]
  rw [cv] at g1 g2
  have d : decide (h % 2 = 1) = false := decide_eq_false (by omega)
  rw [d]
  refine ⟨by grind, by grind, fun _ => by grind, fun z => absurd z (by decide), fun z => absurd z (by decide)⟩
 ·
  have hv : h = 2 * S + 1 := by omega
  have cv : (h : Rat) = 2 * (S : Rat) + 1 := by rw [hv, Rat.natCast_add, Rat.natCast_mul, two]; rfl
  rw [cv] at g1 g2 g3
  have d : decide (h % 2 = 1) = true := decide_eq_true e
  rw [d]
  refine ⟨by grind, by grind, fun z => absurd z (by decide), fun _ => by grind, fun _ z => ?_⟩
  have z2 : (!more && decide (W % 2 ^ k = 0)) = true := by
   rw [Bool.or_eq_false_iff, decide_eq_false_iff_not] at z
   rw [z.2, decide_eq_true (show W % 2 ^ k = 0 by omega)]
   rfl
  have := g3.1 z2
  grind
theorem mag_nn (x : XN) (d0 : x.d ≠ 0) : 0 ≤ x.mag := by
 by_cases c : x.n = 0
 ·
  rw [mag_zero x c]
  exact Rat.le_refl
 ·
  exact Rat.le_of_lt (mag_pos x c d0)
theorem val_sq (x : XN) : x.val * x.val = x.mag * x.mag := by
 rw [val_mag]
 have z := sgn_sq x.b
 generalize sgn x.b = s at z ⊢
 generalize x.mag = u
 have : s * u * (s * u) = (s * s) * (u * u) := by grind
 rw [this, z, Rat.one_mul]
theorem mag_le (D E : XN) (hd : D.can) (he : E.can) (h : D.val * D.val ≤ E.val * E.val) : D.mag ≤ E.mag := by
 rw [val_sq, val_sq] at h
 by_cases c : E.mag < D.mag
 ·
  exact absurd (rq_lt _ _ (mag_nn E he.d0) c) (Rat.not_lt.2 h)
 ·
  exact Rat.not_lt.1 c
theorem cmp_le (D E : XN) (hd : D.can) (he : E.can) (h : D.mag ≤ E.mag) (c err : Int) (hr : cmpX (absX D) (absX E) = (c, err)) (e0 : err = 0) : c ≤ 0 := by
 by_cases n : E.n = 0
 ·
  have z : D.n = 0 := by
   rcases Nat.eq_zero_or_pos D.n with q | q
   ·
    exact q
   ·
    have := mag_pos D (by omega) hd.d0
    rw [mag_zero E n] at h
    exact absurd this (Rat.not_lt.2 h)
  have s1 : sg (absX D) = 0 := by unfold sg; rw [if_pos (show (absX D).n = 0 from z)]
  have s2 : sg (absX E) = 0 := by unfold sg; rw [if_pos (show (absX E).n = 0 from n)]
  unfold cmpX at hr
  rw [s1, s2, if_neg (by decide), if_neg (by decide), if_pos rfl] at hr
  injection hr with q1 q2
  omega
 ·
  have g := cmp_good (absX D) (absX E) (abs_good D hd).1 (abs_good E he).1 rfl n rfl (by rw [hr]; exact e0)
  rw [hr, (abs_good D hd).2, (abs_good E he).2] at g
  have g : c = cmpR D.mag E.mag := g
  rw [g, cmpR_le]
  exact h
theorem dist {x v o : XN} (hx : x.can) (hv : v.can) (ho : o.can) (p E : Nat) (hp : p ≤ 480) (hE : E ≤ 17000) (bx : Bd x p E) (bv : Bd v 128 20200) (bo : Bd o 128 20200) (g s : Rat) (xv : v.val = sgn x.b * g) (xo : o.val = sgn x.b * s) (h : (x.mag - g) * (x.mag - g) ≤ (x.mag - s) * (x.mag - s)) :
  ∃ D K, addX x (negX v) = (D, 0) ∧ addX x (negX o) = (K, 0) ∧ D.can ∧ K.can ∧ ∀ c err, cmpX (absX D) (absX K) = (c, err) → err = 0 → c ≤ 0 := by
 have h1 := add_ok x (negX v) p 128 E 20200 _ _ hx (qY v hv).1 bx (neg_bd v _ _ bv) rfl rfl (by omega) (by omega)
 have h2 := add_good x (negX v) hx (qY v hv).1 h1.1
 have h3 := add_ok x (negX o) p 128 E 20200 _ _ hx (qY o ho).1 bx (neg_bd o _ _ bo) rfl rfl (by omega) (by omega)
 have h4 := add_good x (negX o) hx (qY o ho).1 h3.1
 refine ⟨_, _, Prod.ext rfl h1.1, Prod.ext rfl h3.1, h2.1, h4.1, fun c err hr e0 => cmp_le _ _ h2.1 h4.1 (mag_le _ _ h2.1 h4.1 ?_) c err hr e0⟩
 rw [h2.2, h4.2, (qY v hv).2, (qY o ho).2, xv, xo, val_mag x]
 have z := sgn_sq x.b
 generalize sgn x.b = q at z ⊢
 generalize x.mag = u at h ⊢
 have e1 : (q * u + -(q * g)) * (q * u + -(q * g)) = (q * q) * ((u - g) * (u - g)) := by grind
 have e2 : (q * u + -(q * s)) * (q * u + -(q * s)) = (q * q) * ((u - s) * (u - s)) := by grind
 rw [e1, e2, z, Rat.one_mul, Rat.one_mul]
 exact h
theorem inf_cls {f : Int} (hf : xH f) (neg : Bool) : ¬ (0 < kC f (eInf f neg) ∧ kC f (eInf f neg) < 7) := by
 obtain ⟨a, b, c, d⟩ := qC hf neg (e := oV f) (t := 0) (by omega) (Nat.two_pow_pos _)
 intro q
 have := fin_lt _ q
 have e : kE f (eInf f neg) = oV f := c
 omega
theorem dlv_fin {f : Int} (hf : xH f) {W : Nat} (hW : Wok f W) (m : Int) (neg : Bool) (T : Int) (more : Bool) (hm : gO m neg false true true = true ∨ (lx f + (dJ f T : Int) - 1 + (z7 (rS W (dK f T)) : Int) ≤ fE f ∧ (gO m neg (rO W (dK f T)) (rH W (dK f T)) (rM W (dK f T) more) = true → gO m neg false true true = true)))
  (hc : 0 < kC f (dlv f m neg T W more).1 ∧ kC f (dlv f m neg T W more).1 < 7) :
  (dlv f m neg T W more).1 = eS f neg (dJ f T) (rG m neg W (dK f T) more) ∧ lx f + (dJ f T : Int) - 1 + (z7 (rG m neg W (dK f T) more) : Int) ≤ fE f := by
 have sl := st_lx hf T
 unfold dlv at hc ⊢
 by_cases o : fE f < stE f T - fP f + (z7 (rG m neg W (dK f T) more) : Int)
 ·
  rw [if_pos o] at hc
  exfalso
  have hi : gO m neg false true true = true := by
   rcases hm with q | ⟨q1, q2⟩
   ·
    exact q
   ·
    apply q2
    unfold rG at o
    by_cases c : gO m neg (rO W (dK f T)) (rH W (dK f T)) (rM W (dK f T) more) = true
    ·
     exact c
    ·
     rw [if_neg c] at o
     omega
  have e : ovB f m neg = eInf f neg := by unfold ovB; rw [if_pos hi]
  have hc : 0 < kC f (ovB f m neg) ∧ kC f (ovB f m neg) < 7 := hc
  rw [e] at hc
  exact inf_cls hf neg hc
 ·
  rw [if_neg o]
  exact ⟨rfl, by omega⟩
theorem dist_case {u P S : Rat} (S1 : Rat) (hS1 : S1 = S + 1) (h1 : S * P ≤ u) (h2 : u ≤ S1 * P) {g s : Rat} (hg : (g = S * P ∧ u - S * P ≤ S1 * P - u) ∨ (g = S1 * P ∧ S1 * P - u ≤ u - S * P)) (hs : s = S * P ∨ s = S1 * P) : (u - g) * (u - g) ≤ (u - s) * (u - s) := by
 obtain ⟨A, hA⟩ : ∃ A, S * P = A := ⟨_, rfl⟩
 obtain ⟨B, hB⟩ : ∃ A, S1 * P = A := ⟨_, rfl⟩
 rw [hA] at h1 hg hs
 rw [hB] at h2 hg hs
 have a0 : 0 ≤ u - A := by grind
 have b0 : 0 ≤ B - u := by grind
 have sw : (u - B) * (u - B) = (B - u) * (B - u) := by grind
 rcases hg with ⟨rfl, q⟩ | ⟨rfl, q⟩
 ·
  rcases hs with rfl | rfl
  ·
   exact Rat.le_refl
  ·
   rw [sw]
   exact rq_le _ _ a0 q
 ·
  rcases hs with rfl | rfl
  ·
   rw [sw]
   exact rq_le _ _ b0 q
  ·
   exact Rat.le_refl
theorem nz_same {f : Int} (hf : xH f) (neg : Bool) (e1 t1 e2 t2 : Nat) (h1 : e1 ≤ oV f) (h2 : t1 < 2 ^ pV f) (h3 : e2 ≤ oV f) (h4 : t2 < 2 ^ pV f) : qJ f (yQ f neg e1 t1) = qJ f (yQ f neg e2 t2) ↔ yQ f neg e1 t1 = yQ f neg e2 t2 := by
 rw [nz_enc hf neg e1 t1 h1 h2, nz_enc hf neg e2 t2 h3 h4]
 obtain ⟨a, b, c, d⟩ := qC hf neg h1 h2
 obtain ⟨a', b', c', d'⟩ := qC hf neg h3 h4
 have z : ∀ e t : Nat, yQ f neg e t = 0 → e = 0 ∧ t = 0 := fun e t q => by
  unfold yQ at q
  have p := Nat.two_pow_pos (pV f)
  have q1 : e * 2 ^ pV f = 0 := by omega
  rcases Nat.mul_eq_zero.1 q1 with q2 | q2
  ·
   exact ⟨q2, by omega⟩
  ·
   omega
 by_cases c1 : e1 = 0 ∧ t1 = 0
 ·
  rw [if_pos c1]
  by_cases c2 : e2 = 0 ∧ t2 = 0
  ·
   rw [if_pos c2]
   obtain ⟨rfl, rfl⟩ := c1
   obtain ⟨rfl, rfl⟩ := c2
   simp
  ·
   rw [if_neg c2]
   constructor
   ·
    intro q
    exact absurd (z _ _ q.symm) c2
   ·
    intro q
    rw [q] at c d
    exact absurd ⟨by omega, by omega⟩ c2
 ·
  rw [if_neg c1]
  by_cases c2 : e2 = 0 ∧ t2 = 0
  ·
   rw [if_pos c2]
   constructor
   ·
    intro q
    exact absurd (z _ _ q) c1
   ·
    intro q
    rw [q] at c d
    exact absurd ⟨by omega, by omega⟩ c1
  ·
   rw [if_neg c2]
theorem nz_val {f : Int} (hf : xH f) (neg : Bool) (e t : Nat) (he : e ≤ oV f) (ht : t < 2 ^ pV f) (hc : 0 < kC f (qJ f (yQ f neg e t)) ∧ kC f (qJ f (yQ f neg e t)) < 7) : (0 < kC f (yQ f neg e t) ∧ kC f (yQ f neg e t) < 7) ∧ vX f (qJ f (yQ f neg e t)) = vX f (yQ f neg e t) := by
 rw [nz_enc hf neg e t he ht] at hc ⊢
 by_cases c : e = 0 ∧ t = 0
 ·
  obtain ⟨rfl, rfl⟩ := c
  rw [if_pos ⟨rfl, rfl⟩]
  have o := (nm8 hf).2.1
  obtain ⟨v1, v2, v3, v4, v5, v6⟩ := vX_enc hf neg 0 0 (by omega) ht
  obtain ⟨w1, w2, w3, w4, w5, w6⟩ := vX_enc hf false 0 0 (by omega) ht
  have s0 : sV f 0 0 = 0 := by unfold sV; rw [if_pos rfl]
  have e0 : yQ f false 0 0 = 0 := by unfold yQ; simp
  rw [e0] at w5
  exact ⟨v1, by rw [v5 s0, w5 s0]⟩
 ·
  rw [if_neg c] at hc ⊢
  exact ⟨hc, rfl⟩
theorem nz_ok {f : Int} (hf : xH f) (neg : Bool) (e t : Nat) (he : e ≤ oV f) (ht : t < 2 ^ pV f) : Fit f (qJ f (yQ f neg e t)) := by
 rw [nz_enc hf neg e t he ht]
 split
 ·
  unfold Fit
  have := Nat.two_pow_pos (wV f)
  omega
 ·
  exact (qC hf neg he ht).1
theorem near_law {f : Int} (hf : xH f) (m : Int) (m0 : 0 ≤ m) (m4 : m ≤ 4) (x : XN) (hx : x.can) (n0 : x.n ≠ 0) (ln : nl x.n ≤ 60) (ld : nl x.d ≤ 60) (M L H : Nat) (fl l2 h2 : Int) (hM : rnd f m x = (M, fl)) (hL : rnd f 2 x = (L, l2)) (hH : rnd f 3 x = (H, h2)) :
  (Fit f M ∧ Fit f L ∧ Fit f (qJ f H) ∧ qJ f L = L) ∧
  ((qJ f M = L ∨ qJ f M = qJ f H) ∧ (fl = 0 ↔ L = qJ f H) ∧ (fl = 0 ∨ fl = 1 ∨ fl = 3 ∨ fl = 5) ∧ (m = 2 → qJ f M = L) ∧ (m = 3 → qJ f M = qJ f H) ∧ (m = 1 → (qJ f M = L ↔ (x.b = false ∨ L = qJ f H)))) ∧
  ((kC f M = 3 ∨ kC f M = 4) → qJ f M = 0) ∧ (¬ (kC f M = 3 ∨ kC f M = 4) → qJ f M = M) ∧ kN f M = x.b ∧
  (¬ (0 < kC f M ∧ kC f M < 7) → m = 0 ∨ m = 4 → fl = 5) ∧ ((kC f M = 3 ∨ kC f M = 4) → fl = 3) ∧
  ((0 < kC f M ∧ kC f M < 7) → m = 0 ∨ m = 4 → -17000 ≤ x.e → x.e ≤ 17000 → ∃ D, addX x (negX (vX f M)) = (D, 0) ∧ D.can ∧ (vX f M).can ∧ ∀ o, o = L ∨ o = qJ f H → (0 < kC f o ∧ kC f o < 7) →
   ∃ E, addX x (negX (vX f o)) = (E, 0) ∧ E.can ∧ (vX f o).can ∧ ∀ c err, cmpX (absX D) (absX E) = (c, err) → err = 0 → c ≤ 0) := by
 have ld' : nl x.d ≤ 8192 := by omega
 obtain ⟨q1, q2⟩ := fnd_x hf hx n0 ld'
 unfold rnd at hM hL hH
 rw [if_neg n0] at hM hL hH
 have raw := near_raw hf q1 m x.b (yI x) (xM f x) 0 fl 0 0 M L H l2 h2 hM hL hH
 obtain ⟨r1, r2, r3, r4⟩ := raw
 obtain ⟨e1, t1, f1, a1, a2, a3, a4, a5⟩ := dlv_enc hf q1 m x.b (yI x) (xM f x)
 obtain ⟨e2, t2, f2, b1, b2, b3, b4, b5⟩ := dlv_enc hf q1 2 x.b (yI x) (xM f x)
 obtain ⟨e3, t3, f3, c1, c2, c3, c4, c5⟩ := dlv_enc hf q1 3 x.b (yI x) (xM f x)
 have lne := low_ne hf q1 x.b (yI x) (xM f x)
 rw [hL] at lne
 have lne : L ≠ jA f true := lne
 have nL : qJ f L = L := by unfold qJ; rw [if_neg lne]
 have hM' := hM
 have hL' := hL
 have hH' := hH
 rw [a4] at hM'
 rw [b4] at hL'
 rw [c4] at hH'
 injection hM' with M1 M2
 injection hL' with L1 L2
 injection hH' with H1 H2
 have sMH := nz_same hf x.b e1 t1 e3 t3 a1 a2 c1 c2
 have sML := nz_same hf x.b e1 t1 e2 t2 a1 a2 b1 b2
 have sLH := nz_same hf x.b e2 t2 e3 t3 b1 b2 c1 c2
 have nullM := kC_null hf x.b e1 t1 a1 a2
 have kM := qC hf x.b a1 a2
 have nzM := nz_enc hf x.b e1 t1 a1 a2
 have valH := nz_val hf x.b e3 t3 c1 c2
 have fitH := nz_ok hf x.b e3 t3 c1 c2
 have fitL := (qC hf x.b b1 b2).1
 rw [M1] at sMH sML nullM kM nzM
 rw [L1] at sML sLH fitL
 rw [H1] at sMH sLH valH fitH
 rw [nL] at sML sLH
 refine ⟨⟨kM.1, fitL, fitH, nL⟩, ⟨?_, ?_, r3, ?_, ?_, ?_⟩, ?_, ?_, kM.2.1, ?_, ?_, ?_⟩
 ·
  rcases r1 with r | r
  ·
   exact Or.inl (sML.2 r)
  ·
   exact Or.inr (sMH.2 r)
 ·
  rw [r2, sLH]
 ·
  intro q
  subst q
  rw [hM] at hL
  injection hL with z1 z2
  exact sML.2 z1
 ·
  intro q
  subst q
  rw [hM] at hH
  injection hH with z1 z2
  exact sMH.2 z1
 ·
  intro q
  have z := r4 q
  cases hb : x.b
  ·
   rw [hb, if_neg (by decide)] at z
   exact ⟨fun _ => Or.inl rfl, fun _ => sML.2 z⟩
  ·
   rw [hb, if_pos rfl] at z
   rw [sMH.2 z]
   exact ⟨fun w => Or.inr w.symm, fun w => by rcases w with w | w; exact absurd w (by decide); exact w.symm⟩
 ·
  intro q
  rw [nzM, if_pos (nullM.1 q)]
 ·
  intro q
  rw [nzM, if_neg (fun w => q (nullM.2 w))]
 ·
  intro hc hm
  have sl := st_lx hf (yI x)
  by_cases o : fE f < stE f (yI x) - fP f + (z7 (rG m x.b (xW f x) (dK f (yI x)) (xM f x)) : Int)
  ·
   unfold dlv at hM
   rw [if_pos o] at hM
   injection hM with z1 z2
   exact z2.symm
  ·
   exfalso
   unfold dlv at hM
   rw [if_neg o] at hM
   injection hM with z1 z2
   obtain ⟨g1, g2, g3⟩ := rG_lim q1 m x.b (dK f (yI x)) (xM f x)
   have hjk := jk (f := f) (yI x)
   obtain ⟨v1, v2, v3, v4⟩ := val_eS hf x.b (dJ f (yI x)) (rG m x.b (xW f x) (dK f (yI x)) (xM f x)) g1 (by rcases hjk with w | w <;> omega) (by omega)
   rw [z1] at v1
   exact hc v1
 ·
  intro hc
  have nz := nullM.1 hc
  have sl := st_lx hf (yI x)
  have o3 := (nb_p hf).2.2.2.2.2.2
  by_cases o : fE f < stE f (yI x) - fP f + (z7 (rG m x.b (xW f x) (dK f (yI x)) (xM f x)) : Int)
  ·
   exfalso
   unfold dlv at hM
   rw [if_pos o] at hM
   injection hM with z1 z2
   have ov : M = eInf f x.b ∨ M = qH f x.b := by
    rw [← z1]
    unfold ovB
    split
    ·
     exact Or.inl rfl
    ·
     exact Or.inr rfl
   have kE1 := kM.2.2.1
   rcases ov with w | w
   ·
    have := (qC hf x.b (e := oV f) (t := 0) (by omega) (Nat.two_pow_pos _)).2.2.1
    rw [w] at kE1
    have kE1 : kE f (yQ f x.b (oV f) 0) = e1 := kE1
    omega
   ·
    have p := Nat.two_pow_pos (pV f)
    have := (qC hf x.b (e := oV f - 1) (t := 2 ^ pV f - 1) (by omega) (by omega)).2.2.1
    rw [w] at kE1
    have kE1 : kE f (yQ f x.b (oV f - 1) (2 ^ pV f - 1)) = e1 := kE1
    omega
  ·
   unfold dlv at hM
   rw [if_neg o] at hM
   injection hM with z1 z2
   obtain ⟨g1, g2, g3⟩ := rG_lim q1 m x.b (dK f (yI x)) (xM f x)
   have hjk := jk (f := f) (yI x)
   have v0 : rG m x.b (xW f x) (dK f (yI x)) (xM f x) = 0 := by
    have e0 : M = yQ f x.b 0 0 := by rw [← M1, nz.1, nz.2]
    rw [e0] at z1
    unfold eS yQ at z1
    omega
   obtain ⟨l1, l2'⟩ := null_lim hf q1 m x.b (dK f (yI x)) (xM f x) v0
   have tn := tn_lo hf q1 m x.b (yI x) (xM f x) (by omega)
   rw [if_pos l2', if_pos tn] at z2
   exact z2.symm
 ·
  intro hc hm he1 he2
  have gi : gO m x.b false true true = true := by
   rcases hm with rfl | rfl
   ·
    unfold gO; rw [if_pos rfl]; rfl
   ·
    unfold gO; rw [if_neg (by decide), if_pos rfl]
  have hM1 : (dlv f m x.b (yI x) (xW f x) (xM f x)).1 = M := by rw [hM]
  have hL1 : (dlv f 2 x.b (yI x) (xW f x) (xM f x)).1 = L := by rw [hL]
  have hH1 : (dlv f 3 x.b (yI x) (xW f x) (xM f x)).1 = H := by rw [hH]
  obtain ⟨d1, d2⟩ := dlv_fin hf q1 m x.b (yI x) (xM f x) (Or.inl gi) (by rw [hM1]; exact hc)
  rw [hM1] at d1
  obtain ⟨g1, g2, g3⟩ := rG_lim q1 m x.b (dK f (yI x)) (xM f x)
  obtain ⟨i1, i2, i3⟩ := rG_lim q1 2 x.b (dK f (yI x)) (xM f x)
  obtain ⟨k1, k2, k3⟩ := rG_lim q1 3 x.b (dK f (yI x)) (xM f x)
  have hjk := jk (f := f) (yI x)
  have hb := blen_succ (rS (xW f x) (dK f (yI x)))
  have nov : lx f + (dJ f (yI x) : Int) - 1 + (z7 (rS (xW f x) (dK f (yI x))) : Int) ≤ fE f := by
   rcases rG_two m x.b (xW f x) (dK f (yI x)) (xM f x) with w | w <;> rw [w] at d2 <;> omega
  obtain ⟨S, hS⟩ : ∃ S, rS (xW f x) (dK f (yI x)) = S := ⟨_, rfl⟩
  obtain ⟨P, hP⟩ : ∃ P, (2 : Rat) ^ (lx f + (dJ f (yI x) : Int)) = P := ⟨_, rfl⟩
  have hh := half_is hf x hx n0 ld' S P hS hP
  have vv := val_eS hf x.b (dJ f (yI x)) _ g1 (by rcases hjk with w | w <;> omega) d2
  rw [← d1, hP] at vv
  obtain ⟨p, hp⟩ : ∃ p, p = 480 := ⟨_, rfl⟩
  have bx : Bd x p 17000 := by
   refine ⟨?_, ?_, he1, he2⟩
   ·
    unfold nl at ln
    exact (y6 _ _).1 (by omega)
   ·
    unfold nl at ld
    exact (y6 _ _).1 (by omega)
  have c1' : ((S + 1 : Nat) : Rat) = (S : Rat) + 1 := by rw [Rat.natCast_add]; rfl
  have hg : (((rG m x.b (xW f x) (dK f (yI x)) (xM f x) : Nat) : Rat) * P = (S : Rat) * P ∧ x.mag - (S : Rat) * P ≤ ((S + 1 : Nat) : Rat) * P - x.mag) ∨ (((rG m x.b (xW f x) (dK f (yI x)) (xM f x) : Nat) : Rat) * P = ((S + 1 : Nat) : Rat) * P ∧ ((S + 1 : Nat) : Rat) * P - x.mag ≤ x.mag - (S : Rat) * P) := by
   unfold rG
   rw [hS]
   by_cases g : gO m x.b (rO (xW f x) (dK f (yI x))) (rH (xW f x) (dK f (yI x))) (rM (xW f x) (dK f (yI x)) (xM f x)) = true
   ·
    rw [if_pos g]
    have hr : rH (xW f x) (dK f (yI x)) = true := by
     unfold gO at g
     rcases hm with rfl | rfl
     ·
      rw [if_pos rfl, Bool.and_eq_true] at g
      exact g.1
     ·
      rw [if_neg (by decide), if_pos rfl] at g
      exact g
    exact Or.inr ⟨rfl, hh.2.2.2.1 hr⟩
   ·
    rw [if_neg g]
    refine Or.inl ⟨rfl, ?_⟩
    cases hr : rH (xW f x) (dK f (yI x))
    ·
     exact hh.2.2.1 hr
    ·
     refine hh.2.2.2.2 hr ?_
     cases hq : rM (xW f x) (dK f (yI x)) (xM f x)
     ·
      rfl
     ·
      exfalso
      apply g
      unfold gO
      rw [hr, hq]
      rcases hm with rfl | rfl
      ·
       rw [if_pos rfl]; rfl
      ·
       rw [if_neg (by decide), if_pos rfl]
  have two : ∀ μ : Int, ((rG μ x.b (xW f x) (dK f (yI x)) (xM f x) : Nat) : Rat) * P = (S : Rat) * P ∨ ((rG μ x.b (xW f x) (dK f (yI x)) (xM f x) : Nat) : Rat) * P = ((S + 1 : Nat) : Rat) * P := fun μ => by
   rcases rG_two μ x.b (xW f x) (dK f (yI x)) (xM f x) with w | w <;> rw [w, hS]
   ·
    exact Or.inl rfl
   ·
    exact Or.inr rfl
  have ad := add_ok x (negX (vX f M)) p 128 17000 20200 _ _ hx (qY _ vv.2.1).1 bx (neg_bd _ _ _ vv.2.2.2) rfl rfl (by omega) (by omega)
  have ag := add_good x (negX (vX f M)) hx (qY _ vv.2.1).1 ad.1
  refine ⟨(addX x (negX (vX f M))).1, Prod.ext rfl ad.1, ag.1, vv.2.1, fun o ho oc => ?_⟩
  rcases ho with rfl | rfl
  ·
   obtain ⟨w1, w2⟩ := dlv_fin hf q1 2 x.b (yI x) (xM f x) (Or.inr ⟨nov, fun g => (gO_left g).2⟩) (by rw [hL1]; exact oc)
   rw [hL1] at w1
   have vo := val_eS hf x.b (dJ f (yI x)) _ i1 (by rcases hjk with w | w <;> omega) w2
   rw [← w1, hP] at vo
   obtain ⟨D, E, y1, y2, y3, y4, y5⟩ := dist hx vv.2.1 vo.2.1 p 17000 (by omega) (by omega) bx vv.2.2.2 vo.2.2.2 _ _ vv.2.2.1 vo.2.2.1 (dist_case _ c1' hh.1 hh.2.1 hg (two 2))
   rw [y1]
   exact ⟨E, y2, y4, vo.2.1, y5⟩
  ·
   obtain ⟨y1, y2⟩ := valH oc
   obtain ⟨w1, w2⟩ := dlv_fin hf q1 3 x.b (yI x) (xM f x) (Or.inr ⟨nov, fun g => (gO_left g).2⟩) (by rw [hH1]; exact y1)
   rw [hH1] at w1
   have vo := val_eS hf x.b (dJ f (yI x)) _ k1 (by rcases hjk with w | w <;> omega) w2
   rw [← w1, hP] at vo
   rw [y2]
   obtain ⟨D, E, z1, z2, z3, z4, z5⟩ := dist hx vv.2.1 vo.2.1 p 17000 (by omega) (by omega) bx vv.2.2.2 vo.2.2.2 _ _ vv.2.2.1 vo.2.2.1 (dist_case _ c1' hh.1 hh.2.1 hg (two 3))
   rw [z1]
   exact ⟨E, z2, z4, vo.2.1, z5⟩
end Go.Proofs.YtkblmpmkchkpjaaGreatDoor
namespace Go.Proofs.YtkblmpmkchkpjaaGreatDoor
set_option maxRecDepth 100000
set_option maxHeartbeats 40000000
open Go.RowKit WMath
set_option linter.unusedSimpArgs false
set_option linter.unusedVariables false
def yX (a b c d : Int) : Bool := (a == c) && (b == d)
theorem eqb (a b c d : Int) (w : World) :
  (Op.equalIn 10000 25 (.agg #[.int .u64 a, .int .u64 b]) (.agg #[.int .u64 c, .int .u64 d])).run Tryz.prog w = .ok (yX a b c d) w := by
 have q1 : ∀ (a b : Int), (part 23 #[.int .u64 a, .int .u64 b] 0).run Tryz.prog w = .ok (.int .u64 a) w := fun a b => by kernel_rfl
 have q2 : ∀ (a b : Int), (part 23 #[.int .u64 a, .int .u64 b] 1).run Tryz.prog w = .ok (.int .u64 b) w := fun a b => by kernel_rfl
 have i1 : (Op.equalIn 9999 23 (.int .u64 a) (.int .u64 c)).run Tryz.prog w = .ok (a == c) w := run_equalIn_int w 9998 23 .u64 .u64 a c Tryz.underlying23
 have i2 : (Op.equalIn 9999 23 (.int .u64 b) (.int .u64 d)).run Tryz.prog w = .ok (b == d) w := run_equalIn_int w 9998 23 .u64 .u64 b d Tryz.underlying23
 have n1 : ("Hi" = "_") = False := by simp
 have n2 : ("Lo" = "_") = False := by simp
 have st : Tryz.prog.stoodInHeld 25 = false := by kernel_rfl
 rw [show (10000 : Nat) = 9999 + 1 from rfl]
 unfold Op.equalIn
 simp only [Sem.run_bind, run_underlying Tryz.underlying25, Result.andThen_ok]
 rw [show (Sem.run Tryz.prog program w) = .ok Tryz.prog w from rfl]
 simp only [Result.andThen_ok, st, Bool.false_eq_true, if_false]
 have fo : ∀ (l : List Field) (b : Field → (Option Bool × Unit) → Sem (ForInStep (Option Bool × Unit))), (forIn l.toArray (none, ()) b : Sem (Option Bool × Unit)) = forIn l (none, ()) b := fun l b => by simp
 simp only [fo, List.forIn_cons, List.forIn_nil, ne_eq, n1, n2, not_false_eq_true, if_true]
 unfold yX
 obtain ⟨b1, h1⟩ : ∃ x, (a == c) = x := ⟨_, rfl⟩
 obtain ⟨b2, h2⟩ : ∃ x, (b == d) = x := ⟨_, rfl⟩
 rw [h1] at i1
 rw [h2] at i2
 rw [h1, h2]
 cases b1
 ·
  simp only [Sem.run_bind, Sem.run_pure, Result.andThen_ok, q1, i1, Bool.not_false, if_true, Bool.false_and]
 cases b2
 ·
  simp only [Sem.run_bind, Sem.run_pure, Result.andThen_ok, q1, i1, q2, i2, Bool.not_false, Bool.not_true, Bool.false_eq_true, if_false, if_true, Bool.false_and, Bool.true_and]
 ·
  simp only [Sem.run_bind, Sem.run_pure, Result.andThen_ok, q1, i1, q2, i2, Bool.not_false, Bool.not_true, Bool.false_eq_true, if_false, if_true, Bool.false_and, Bool.true_and]
theorem ebb_of {x y i j n m : Nat} (hn : y + 18446744073709551616 * x = n) (hm : j + 18446744073709551616 * i = m) (hy : y < 18446744073709551616) (hj : j < 18446744073709551616) (o : Bool) (h : decide (n = m) = o) : yX (x : Nat) (y : Nat) (i : Nat) (j : Nat) = o := by
 rw [← h]
 unfold yX
 rw [Bool.eq_iff_iff, Bool.and_eq_true, beq_iff_eq, beq_iff_eq, decide_eq_true_iff]
 omega
end Go.Proofs.YtkblmpmkchkpjaaGreatDoor
