/-
  What the functions that the statement reaches return: part 21 (W1, W2).
-/
import Derived.Test.YtdjlfhcalccajaaGreatDoorWf20
namespace Go.Proofs.YtdjlfhcalccajaaGreatDoor
set_option maxRecDepth 100000
set_option maxHeartbeats 40000000
set_option maxRecDepth 100000
open Go.RowKit WMath XMath
set_option linter.unusedSimpArgs false
set_option linter.unusedVariables false
theorem mul_le_r {a b c : Rat} (h : 0 < c) : a * c ≤ b * c ↔ a ≤ b := ⟨fun q => Rat.not_lt.1 (fun k => Rat.not_lt.2 q ((Rat.mul_lt_mul_right h).2 k)), fun q => Rat.not_lt.1 (fun k => Rat.not_lt.2 q ((Rat.mul_lt_mul_right h).1 k))⟩
theorem bits_or (a b : Nat) (ha : a < 18446744073709551616) (hb : b < 18446744073709551616) : bits .or .u64 (a : Int) (b : Int) = ((a ||| b : Nat) : Int) := by
  have hx : a ||| b < 2 ^ 64 := Nat.or_lt_two_pow (by omega) (by omega)
  have h1 : (BitVec.ofInt 64 (a : Int)).toNat = a := by
    rw [BitVec.ofInt_natCast, BitVec.toNat_ofNat]; exact Nat.mod_eq_of_lt (by omega)
  have h2 : (BitVec.ofInt 64 (b : Int)).toNat = b := by
    rw [BitVec.ofInt_natCast, BitVec.toNat_ofNat]; exact Nat.mod_eq_of_lt (by omega)
  show IntKind.u64.wrap ((BitVec.ofInt 64 (a : Int) ||| BitVec.ofInt 64 (b : Int)).toNat : Int) = _
  rw [BitVec.toNat_or, h1, h2, show ∀ y : Int, IntKind.u64.wrap y = y % 18446744073709551616 from fun _ => rfl]
  omega
theorem vX_val {f : Int} (hf : Is4 f) (n : Nat) (h : 0 < kC f n ∧ kC f n < 7) : (vX f n).val = sgn (kN f n) * ((kS f n : Rat) * (2 : Rat) ^ kX f n) := by
  have a := vX_mk hf n h
  have b := mk_val (kN f n) (kS f n) 1 (kX f n) (by decide) (by rw [a])
  rw [a] at b
  rw [b]
  have o : ((1 : Nat) : Rat) = 1 := rfl
  have d1 : ∀ q : Rat, q / 1 = q := fun q => by grind
  rw [o, d1, Rat.mul_assoc]
theorem nn_mul (s : Nat) (e : Int) : (0 : Rat) ≤ (s : Rat) * (2 : Rat) ^ e := Rat.mul_nonneg (Rat.natCast_nonneg) (Rat.le_of_lt (p2 e))
theorem sgn_abs {a b : Bool} {p q : Rat} (hp : 0 ≤ p) (hq : 0 ≤ q) (h : sgn a * p = sgn b * q) : p = q := by
  cases a <;> cases b <;> simp only [sgn] at h <;> grind
theorem gr_eS {f : Int} (hf : Is4 f) (neg : Bool) : eGreatest f neg = eS f neg (oV f - 2) (2 * 2 ^ pV f - 1) ∧ lx f + ((oV f - 2 : Nat) : Int) - 1 + (blen (2 * 2 ^ pV f - 1) : Int) ≤ fE f ∧ lx f + ((oV f - 2 : Nat) : Int) + (pV f : Int) + 1 = fE f + 1 := by
  rcases hf with rfl | rfl | rfl | rfl <;> cases neg <;> decide +kernel
theorem down_le {f : Int} (hf : Is4 f) (x : XN) (hx : x.can) (n0 : x.n ≠ 0) (hd : nl x.d ≤ 8192) (M : Nat) (fl : Int) (h : rnd f 1 x = (M, fl)) : (0 < kC f M ∧ kC f M < 7) ∧ (vX f M).can ∧ ∃ q : Rat, (vX f M).val = sgn x.b * q ∧ 0 ≤ q ∧ q ≤ x.mag := by
  obtain ⟨t1, t2⟩ := top_lim hx
  obtain ⟨wk, _⟩ := x_num hf x hx n0 hd t1 t2
  have hp := fp8 hf
  obtain ⟨n1, n2, n3, n4, n5, n6⟩ := nm8 hf
  have hh := (half_is hf x hx n0 hd _ _ rfl rfl).1
  have sl := st_lx hf (topX x)
  unfold rnd at h
  rw [if_neg n0, dlv_dG, gO_one, gO_one] at h
  rw [if_neg (by decide)] at h
  obtain ⟨k, hk⟩ : ∃ k, dK f (topX x) = k := ⟨_, rfl⟩
  obtain ⟨S, hS⟩ : ∃ S, rS (xW f x) k = S := ⟨_, rfl⟩
  have l := rS_lim wk k
  rw [hk, hS] at h hh
  rw [hS] at l
  unfold dG at h
  by_cases ov : fE f < stE f (topX x) - fP f + (blen S : Int)
  · rw [if_pos ov] at h
    injection h with hM hfl
    rw [if_neg (by decide)] at hM
    obtain ⟨g1, g2, g3⟩ := gr_eS hf x.b
    have v := val_eS hf x.b (oV f - 2) (2 * 2 ^ pV f - 1) (by omega) (Or.inr (by have := Nat.two_pow_pos (pV f); omega)) g2
    rw [← g1, hM] at v
    refine ⟨v.1, v.2.1, _, v.2.2.1, nn_mul _ _, ?_⟩
    refine Rat.le_trans ?_ hh
    have s0 : S ≠ 0 := by
      rintro rfl
      have : blen 0 = 0 := by decide +kernel
      rw [this] at ov
      have pp := Nat.two_pow_pos (pV f)
      have jj := jk (f := f) (topX x)
      rw [hk] at jj
      have k0 : k ≠ 0 := fun q => by have := l.2.1 q; omega
      have lf : lx f ≤ 1 ∧ 1 ≤ fE f := by rcases hf with rfl | rfl | rfl | rfl <;> decide
      omega
    obtain ⟨b1, b2, b3⟩ := blen_low S s0
    obtain ⟨E, hE⟩ : ∃ E, lx f + (dJ f (topX x) : Int) = E := ⟨_, rfl⟩
    obtain ⟨G, hG⟩ : ∃ G, lx f + ((oV f - 2 : Nat) : Int) = G := ⟨_, rfl⟩
    obtain ⟨B, hB⟩ : ∃ B : Nat, blen S = B + 1 := ⟨blen S - 1, by omega⟩
    rw [hE, hG]
    have A1 : ((2 * 2 ^ pV f - 1 : Nat) : Rat) * (2 : Rat) ^ G ≤ ((1 : Nat) : Rat) * (2 : Rat) ^ (fE f + 1) := by
      have e : fE f + 1 = G + ((pV f + 1 : Nat) : Int) := by omega
      rw [e, up1]
      exact (mul_le_r (p2 _)).2 (Rat.natCast_le_natCast.2 (by rw [Nat.pow_succ]; omega))
    have A2 : ((1 : Nat) : Rat) * (2 : Rat) ^ (fE f + 1) ≤ (S : Rat) * (2 : Rat) ^ E := by
      obtain ⟨k2, hk2⟩ : ∃ k2 : Nat, (k2 : Int) = (B : Int) + E - (fE f + 1) := ⟨((B : Int) + E - (fE f + 1)).toNat, by omega⟩
      have e1 : ((1 : Nat) : Rat) * (2 : Rat) ^ (fE f + 1) ≤ ((1 * 2 ^ k2 : Nat) : Rat) * (2 : Rat) ^ (fE f + 1) := (mul_le_r (p2 _)).2 (Rat.natCast_le_natCast.2 (by have := Nat.two_pow_pos k2; omega))
      rw [← up1, show fE f + 1 + (k2 : Int) = E + (B : Int) by omega, up1] at e1
      refine Rat.le_trans e1 ((mul_le_r (p2 _)).2 (Rat.natCast_le_natCast.2 ?_))
      rw [Nat.one_mul]
      rw [hB] at b2
      exact b2
    exact Rat.le_trans A1 A2
  · rw [if_neg ov] at h
    injection h with hM hfl
    have v := val_eS hf x.b (dJ f (topX x)) S (by omega) (by
      rcases Nat.eq_zero_or_pos k with z | z
      · exact Or.inr (l.2.1 z)
      · refine Or.inl ?_
        have := jk (f := f) (topX x)
        omega) (by omega)
    rw [hM] at v
    exact ⟨v.1, v.2.1, _, v.2.2.1, nn_mul _ _, hh⟩
theorem mul_cancel {a b c : Rat} (h : 0 < c) (q : a * c = b * c) : a = b := Rat.le_antisymm ((mul_le_r h).1 (by rw [q]; exact Rat.le_refl)) ((mul_le_r h).1 (by rw [q]; exact Rat.le_refl))
def mvN (s : Nat) (n : Int) : Nat := if n < 0 then s / 2 ^ (-n).toNat else s * 2 ^ n.toNat % 340282366920938463463374607431768211456
theorem mv_num (S1 S2 : Nat) (X1 X2 : Int) (l : S2 < 340282366920938463463374607431768211456) (h : (S1 : Rat) * (2 : Rat) ^ X1 ≤ (S2 : Rat) * (2 : Rat) ^ X2) : (mvN S1 (X1 - X2) = S2) ↔ (S1 : Rat) * (2 : Rat) ^ X1 = (S2 : Rat) * (2 : Rat) ^ X2 := by
  unfold mvN
  by_cases c : X1 - X2 < 0
  · rw [if_pos c]
    obtain ⟨k, hk⟩ : ∃ k : Nat, (k : Int) = -(X1 - X2) := ⟨(-(X1 - X2)).toNat, by omega⟩
    have ek : (-(X1 - X2)).toNat = k := by omega
    rw [ek]
    have e2 : X2 = X1 + (k : Int) := by omega
    rw [e2, up1] at h ⊢
    have h' := Rat.natCast_le_natCast.1 ((mul_le_r (p2 X1)).1 h)
    have pp := Nat.two_pow_pos k
    constructor
    · intro q
      have : S2 * 2 ^ k ≤ S1 := (Nat.le_div_iff_mul_le pp).1 (by omega)
      have : S1 = S2 * 2 ^ k := by omega
      rw [this]
    · intro q
      have q' := Rat.natCast_inj.1 (mul_cancel (p2 X1) q)
      rw [q', Nat.mul_div_cancel _ pp]
  · rw [if_neg c]
    obtain ⟨k, hk⟩ : ∃ k : Nat, (k : Int) = X1 - X2 := ⟨(X1 - X2).toNat, by omega⟩
    have ek : (X1 - X2).toNat = k := by omega
    rw [ek]
    have e1 : X1 = X2 + (k : Int) := by omega
    rw [e1, up1] at h ⊢
    have h' := Rat.natCast_le_natCast.1 ((mul_le_r (p2 X2)).1 h)
    rw [Nat.mod_eq_of_lt (by omega)]
    constructor
    · intro q
      rw [q]
    · intro q
      exact Rat.natCast_inj.1 (mul_cancel (p2 X2) q)
def shN (x : Nat) (n : Int) : Nat := if n < 0 then x / 2 ^ (-n).toNat else x * 2 ^ n.toNat % 18446744073709551616
theorem wrap_pos {n : Int} (h0 : 0 ≤ n) (h : n ≤ 1000000) : (IntKind.u64.wrap n).toNat = n.toNat := by
  rw [IntKind.wrap_u64, Int.emod_eq_of_lt h0 (by omega)]
theorem pow_cap {x k : Nat} (hx : x < 18446744073709551616) (h : ¬ k < 64) : x < 2 ^ k := by
  have e : (2 : Nat) ^ 64 = 18446744073709551616 := by decide
  have := Nat.pow_le_pow_right (show 0 < 2 by decide) (show 64 ≤ k by omega)
  omega
theorem sh_lo {x : Nat} {n : Int} (hx : x < 18446744073709551616) (h1 : -1000000 ≤ n) (h : n < 0) : (x : Int) / 2 ^ min (IntKind.u64.wrap (-n)).toNat 64 = ((shN x n : Nat) : Int) := by
  unfold shN
  rw [if_pos h, wrap_pos (by omega) (by omega)]
  by_cases c : (-n).toNat < 64
  · rw [Nat.min_eq_left (by omega)]
    simp
  · rw [Nat.min_eq_right (by omega), Nat.div_eq_of_lt (pow_cap hx c)]
    have : (2 : Int) ^ 64 = 18446744073709551616 := by decide
    rw [this]
    omega
theorem sh_hi {x : Nat} {n : Int} (hx : x < 18446744073709551616) (h1 : n ≤ 1000000) (h : 0 ≤ n) : IntKind.u64.wrap ((x : Int) * 2 ^ min (IntKind.u64.wrap n).toNat 64) = ((shN x n : Nat) : Int) := by
  unfold shN
  rw [if_neg (by omega), wrap_pos h h1]
  by_cases c : n.toNat < 64
  · rw [Nat.min_eq_left (by omega), IntKind.wrap_u64]
    simp
  · rw [Nat.min_eq_right (by omega), IntKind.wrap_u64]
    have e : (2 : Int) ^ 64 = 18446744073709551616 := by decide
    have e2 : (2 : Nat) ^ 64 = 18446744073709551616 := by decide
    obtain ⟨k, hk⟩ : ∃ k, n.toNat = 64 + k := ⟨n.toNat - 64, by omega⟩
    rw [e, hk, Nat.pow_add, e2, Nat.mul_left_comm, Nat.mul_mod_right]
    omega
theorem mv_up (lo hi P R lq lr hq hr : Nat) (h1 : R * lq + lr = lo) (h2 : R * hq + hr = hi) (l1 : lr < R) (l2 : hr < R) (l3 : lq < P) : (lo + P * R * hi) * P % (P * R * (P * R)) = lr * P + P * R * (hr * P + lq) := by
  have e : (lo + P * R * hi) * P = (lr * P + P * R * (hr * P + lq)) + (P * R * (P * R)) * hq := by
    subst h1 h2
    grind
  rw [e, Nat.add_mul_mod_self_left]
  apply Nat.mod_eq_of_lt
  have pP : 0 < P := by omega
  have a1 : lr * P < P * R := by rw [Nat.mul_comm P R]; exact Nat.mul_lt_mul_of_pos_right l1 pP
  have a2 : hr * P + P ≤ P * R := by
    have := Nat.mul_le_mul_right P (show hr + 1 ≤ R by omega)
    rw [Nat.add_mul, Nat.one_mul, Nat.mul_comm R P] at this
    exact this
  have a3 := Nat.mul_le_mul_left (P * R) (show hr * P + lq + 1 ≤ P * R by omega)
  rw [Nat.mul_add (P * R) (hr * P + lq) 1, Nat.mul_one] at a3
  omega
theorem or_mul (A d k : Nat) (h : d < 2 ^ k) : (A * 2 ^ k ||| d) = A * 2 ^ k + d := by
  rw [Nat.mul_comm]
  exact (Nat.two_pow_add_eq_or_of_lt h A).symm
theorem two64 (k : Nat) (h : k ≤ 64) : 2 ^ k * 2 ^ (64 - k) = 18446744073709551616 := by
  rw [← Nat.pow_add, show k + (64 - k) = 64 by omega]
theorem mv_words (lo hi : Nat) (n : Int) (hl : lo < 18446744073709551616) (hh : hi < 18446744073709551616) : (shN lo n ||| shN hi (n + 64)) + 18446744073709551616 * (shN hi n ||| shN lo (n - 64)) = mvN (lo + 18446744073709551616 * hi) n := by
  have e64 : (2 : Nat) ^ 64 = 18446744073709551616 := by decide
  by_cases c : n < 0
  · obtain ⟨k, hk⟩ : ∃ k : Nat, n = -(k : Int) := ⟨(-n).toNat, by omega⟩
    have d0 : shN lo (n - 64) = 0 := by
      unfold shN
      rw [if_pos (by omega)]
      exact Nat.div_eq_of_lt (pow_cap hl (by omega))
    have a0 : shN lo n = lo / 2 ^ k := by
      unfold shN
      rw [if_pos c, show (-n).toNat = k by omega]
    have c0 : shN hi n = hi / 2 ^ k := by
      unfold shN
      rw [if_pos c, show (-n).toNat = k by omega]
    have r0 : mvN (lo + 18446744073709551616 * hi) n = (lo + 18446744073709551616 * hi) / 2 ^ k := by
      unfold mvN
      rw [if_pos c, show (-n).toNat = k by omega]
    rw [d0, a0, c0, r0, Nat.or_zero]
    by_cases d : k ≤ 64
    · have pr := two64 k d
      have b0 : shN hi (n + 64) = hi % 2 ^ k * 2 ^ (64 - k) := by
        unfold shN
        rw [if_neg (by omega), show (n + 64).toNat = 64 - k by omega, ← pr, Nat.mul_mod_mul_right]
      have la : lo / 2 ^ k < 2 ^ (64 - k) := by
        apply (Nat.div_lt_iff_lt_mul (Nat.two_pow_pos k)).2
        rw [Nat.mul_comm, pr]
        exact hl
      rw [b0, Nat.or_comm, or_mul _ _ _ la, ← pr, Nat.mul_assoc (2 ^ k) (2 ^ (64 - k)) hi, Nat.add_mul_div_left _ _ (Nat.two_pow_pos k)]
      have q := Nat.div_add_mod hi (2 ^ k)
      have : 2 ^ (64 - k) * hi = 2 ^ (64 - k) * (2 ^ k * (hi / 2 ^ k)) + 2 ^ (64 - k) * (hi % 2 ^ k) := by rw [← Nat.mul_add, q]
      rw [this]
      grind
    · obtain ⟨j, hj⟩ : ∃ j, k = 64 + j := ⟨k - 64, by omega⟩
      have b0 : shN hi (n + 64) = hi / 2 ^ j := by
        unfold shN
        rw [if_pos (by omega), show (-(n + 64)).toNat = j by omega]
      have z1 : lo / 2 ^ k = 0 := Nat.div_eq_of_lt (pow_cap hl (by omega))
      have z2 : hi / 2 ^ k = 0 := Nat.div_eq_of_lt (pow_cap hh (by omega))
      rw [b0, z1, z2, Nat.zero_or, hj, Nat.pow_add, e64, ← Nat.div_div_eq_div_mul (lo + 18446744073709551616 * hi), Nat.add_mul_div_left _ _ (by decide), Nat.div_eq_of_lt hl, Nat.zero_add, Nat.mul_zero, Nat.add_zero]
  · obtain ⟨k, hk⟩ : ∃ k : Nat, n = (k : Int) := ⟨n.toNat, by omega⟩
    have b0 : shN hi (n + 64) = 0 := by
      unfold shN
      rw [if_neg (by omega), show (n + 64).toNat = 64 + k by omega, Nat.pow_add, e64, Nat.mul_left_comm, Nat.mul_mod_right]
    have r0 : mvN (lo + 18446744073709551616 * hi) n = (lo + 18446744073709551616 * hi) * 2 ^ k % (18446744073709551616 * 18446744073709551616) := by
      unfold mvN
      rw [if_neg c, show n.toNat = k by omega]
    rw [b0, r0, Nat.or_zero]
    by_cases d : k < 64
    · have pr := two64 k (by omega)
      have a0 : shN lo n = lo % 2 ^ (64 - k) * 2 ^ k := by
        unfold shN
        rw [if_neg c, show n.toNat = k by omega, ← pr, Nat.mul_comm (2 ^ k), Nat.mul_mod_mul_right]
      have c0 : shN hi n = hi % 2 ^ (64 - k) * 2 ^ k := by
        unfold shN
        rw [if_neg c, show n.toNat = k by omega, ← pr, Nat.mul_comm (2 ^ k), Nat.mul_mod_mul_right]
      have d0 : shN lo (n - 64) = lo / 2 ^ (64 - k) := by
        unfold shN
        rw [if_pos (by omega), show (-(n - 64)).toNat = 64 - k by omega]
      have la : lo / 2 ^ (64 - k) < 2 ^ k := by
        apply (Nat.div_lt_iff_lt_mul (Nat.two_pow_pos _)).2
        rw [pr]
        exact hl
      rw [a0, c0, d0, or_mul _ _ _ la, ← pr]
      exact (mv_up lo hi (2 ^ k) (2 ^ (64 - k)) _ _ _ _ (Nat.div_add_mod lo _) (Nat.div_add_mod hi _) (Nat.mod_lt _ (Nat.two_pow_pos _)) (Nat.mod_lt _ (Nat.two_pow_pos _)) la).symm
    · obtain ⟨j, hj⟩ : ∃ j, k = 64 + j := ⟨k - 64, by omega⟩
      have z0 : ∀ x, shN x n = 0 := fun x => by
        unfold shN
        rw [if_neg c, show n.toNat = 64 + j by omega, Nat.pow_add, e64, Nat.mul_left_comm, Nat.mul_mod_right]
      have d0 : shN lo (n - 64) = lo * 2 ^ j % 18446744073709551616 := by
        unfold shN
        rw [if_neg (by omega), show (n - 64).toNat = j by omega]
      rw [z0, z0, d0, Nat.zero_or, hj, Nat.pow_add, e64, Nat.zero_add, Nat.mul_left_comm, Nat.mul_mod_mul_left, Nat.add_mul, Nat.mul_assoc 18446744073709551616 hi, Nat.add_mul_mod_self_left]
end Go.Proofs.YtdjlfhcalccajaaGreatDoor
namespace Go.Proofs.YtdjlfhcalccajaaGreatDoor
set_option maxRecDepth 100000
set_option maxHeartbeats 40000000
set_option maxRecDepth 100000
open Go.RowKit WMath
set_option linter.unusedSimpArgs false
set_option linter.unusedVariables false
theorem pw_nan (c : Nat) (o : Bool) (ho : (decide (c = 8) || decide (c = 9)) = o) (w : World) : Calls Tryz.prog 13 #[.int .u8 (c : Nat)] w fun r w' => r = .returned (.bool o) ∧ Below w.heap.size w w' := by
  by_cases c0 : c = 8
  · rw [decide_eq_true c0, Bool.true_or] at ho
    subst ho
    have d0 : ((c : Int) == 8) = true := by rw [c0]; rfl
    clear c0
    have B0 : Below w.heap.size w w := (Below.refl _ _)
    go_enter Tryz.func13, Tryz.ntmps13
    go_wp2
    go_ret
    exact ⟨rfl, B0⟩
  · rw [decide_eq_false c0, Bool.false_or] at ho
    have d0 : ((c : Int) == 8) = false := by rw [beq_eq_false_iff_ne]; omega
    have d7 : ((c : Int) == 9) = o := by
      rw [← ho]
      by_cases c7 : c = 9
      · rw [decide_eq_true c7, c7]; rfl
      · rw [decide_eq_false c7, beq_eq_false_iff_ne]; omega
    clear ho c0
    have B0 : Below w.heap.size w w := (Below.refl _ _)
    go_enter Tryz.func13, Tryz.ntmps13
    go_wp2
    go_ret
    exact ⟨rfl, B0⟩
theorem pw_ef (so : Bool) (a b c : Int) (h : (if so = true then a else b) = c) (w : World) : Calls Tryz.prog 15 #[.bool so, .int .u8 a, .int .u8 b] w fun r w' => r = .returned (.int .u8 c) ∧ Below w.heap.size w w' := by
  subst h
  cases so
  · have B0 : Below w.heap.size w w := (Below.refl _ _)
    go_enter Tryz.func15, Tryz.ntmps15
    go_wp2
    go_ret
    exact ⟨rfl, B0⟩
  · have B0 : Below w.heap.size w w := (Below.refl _ _)
    go_enter Tryz.func15, Tryz.ntmps15
    go_wp2
    go_ret
    exact ⟨rfl, B0⟩
theorem pw_eu (so : Bool) (a b : Int) (w : World) : Calls Tryz.prog 120 #[.bool so, .int .u64 a, .int .u64 b] w fun r w' => r = .returned (.int .u64 (if so = true then a else b)) ∧ w' = w := by
  cases so
  · go_enter Tryz.func120, Tryz.ntmps120
    go_wp2
    go_ret
    exact ⟨rfl, rfl⟩
  · go_enter Tryz.func120, Tryz.ntmps120
    go_wp2
    go_ret
    exact ⟨rfl, rfl⟩
theorem pw_shifted (x : Nat) (n : Int) (hx : x < 18446744073709551616) (h1 : -1000000 ≤ n) (h2 : n ≤ 1000000) (w : World) : Calls Tryz.prog 66 #[.int .u64 (x : Nat), .int .i64 n] w fun r w' => r = .returned (.int .u64 (shN x n : Nat)) ∧ w' = w := by
  go_enter Tryz.func66, Tryz.ntmps66
  go_wp2_with (go_at_call 120; refine (pw_eu _ _ _ _).mono ?_; rintro e w' ⟨rfl, rfl⟩)
  · go_ret
    exact ⟨ret_int (sh_lo hx h1 (by assumption)), rfl⟩
  · go_ret
    exact ⟨ret_int (sh_hi hx h2 (by assumption)), rfl⟩
set_option maxRecDepth 100000 in
set_option maxHeartbeats 8000000 in
theorem pw_moved (S T lo hi a b c d p q : Nat) (n n1 n2 : Int) (hn1 : IntKind.i64.wrap (n + 64) = n1) (hn2 : IntKind.i64.wrap (n - 64) = n2) (h0 : wd S 0 = lo) (h1 : wd S 1 = hi) (hp : bits .or .u64 (a : Int) (b : Int) = (p : Int)) (hq : bits .or .u64 (c : Int) (d : Int) = (q : Int)) (hT : ((cw 6 0).setIfInBounds 0 (.int .u64 (p : Nat))).setIfInBounds 1 (.int .u64 (q : Nat)) = cw 6 T) (w : World)
    (KA : Box (∀ w, Calls Tryz.prog 66 #[.int .u64 (lo : Nat), .int .i64 n] w fun r w' => r = .returned (.int .u64 (a : Nat)) ∧ Below w.heap.size w w'))
    (KB : Box (∀ w, Calls Tryz.prog 66 #[.int .u64 (hi : Nat), .int .i64 n1] w fun r w' => r = .returned (.int .u64 (b : Nat)) ∧ Below w.heap.size w w'))
    (KC : Box (∀ w, Calls Tryz.prog 66 #[.int .u64 (hi : Nat), .int .i64 n] w fun r w' => r = .returned (.int .u64 (c : Nat)) ∧ Below w.heap.size w w'))
    (KD : Box (∀ w, Calls Tryz.prog 66 #[.int .u64 (lo : Nat), .int .i64 n2] w fun r w' => r = .returned (.int .u64 (d : Nat)) ∧ Below w.heap.size w w')) : Calls Tryz.prog 32 #[.agg (cw 6 S), .int .i64 n] w fun r w' => r = .returned (.agg (cw 6 T)) ∧ Below w.heap.size w w' := by
  have hat := cw_at 6
  have hz := cw6z
  have hff := cw6f
  have hs0 := st0
  have hcs : ∀ x, ((cw 6 x).size = 6) = True := fun x => eq_true (cw_size 6 x)
  obtain ⟨Rs_0, Rz_0, B0⟩ := opn2 w (Obj.cells (cw 6 S) 42) (Obj.cells (cw 6 0) 42)
  go_enter Tryz.func32, Tryz.ntmps32
  have cs_0_0 := row_cell Rs_0
  have cz_0_0 := row_cell Rz_0
  go_wp2_with fail
  go_quiet (fail)
  obtain ⟨w1, hw, B1, hh⟩ := quiet_world B0 nq
  rw [hw]
  have Rs_1 : w1.heap[w.heap.size]? = some (Obj.cells (cw 6 S) 42) := by rw [hh]; exact Rs_0
  have Rz_1 : w1.heap[w.heap.size + 1]? = some (Obj.cells (cw 6 0) 42) := by rw [hh]; exact Rz_0
  clear hw hh B0 Rs_0 cs_0_0 Rz_0 cz_0_0
  have cs_1_0 := row_cell Rs_1
  have cz_1_0 := row_cell Rz_1
  go_wp2_with fail
  refine (KA.out _).mono ?_
  rintro r w2 ⟨rfl, b2⟩
  have B2 : Below w.heap.size w w2 := btr B1 b2
  have Rs_2 := heap_of b2 _ _ _ Rs_1
  have Rz_2 := heap_of b2 _ _ _ Rz_1
  clear b2 B1 Rs_1 cs_1_0 Rz_1 cz_1_0
  have cs_2_0 := row_cell Rs_2
  have cz_2_0 := row_cell Rz_2
  go_wp2_with fail
  refine (KB.out _).mono ?_
  rintro r w3 ⟨rfl, b3⟩
  have B3 : Below w.heap.size w w3 := btr B2 b3
  have Rs_3 := heap_of b3 _ _ _ Rs_2
  have Rz_3 := heap_of b3 _ _ _ Rz_2
  clear b3 B2 Rs_2 cs_2_0 Rz_2 cz_2_0
  have cs_3_0 := row_cell Rs_3
  have cz_3_0 := row_cell Rz_3
  go_wp2_with fail
  refine (KC.out _).mono ?_
  rintro r w4 ⟨rfl, b4⟩
  have B4 : Below w.heap.size w w4 := btr B3 b4
  have Rs_4 := heap_of b4 _ _ _ Rs_3
  have Rz_4 := heap_of b4 _ _ _ Rz_3
  clear b4 B3 Rs_3 cs_3_0 Rz_3 cz_3_0
  have cs_4_0 := row_cell Rs_4
  have cz_4_0 := row_cell Rz_4
  go_wp2_with fail
  refine (KD.out _).mono ?_
  rintro r w5 ⟨rfl, b5⟩
  have B5 : Below w.heap.size w w5 := btr B4 b5
  have Rs_5 := heap_of b5 _ _ _ Rs_4
  have Rz_5 := heap_of b5 _ _ _ Rz_4
  clear b5 B4 Rs_4 cs_4_0 Rz_4 cz_4_0
  have cs_5_0 := row_cell Rs_5
  have cz_5_0 := row_cell Rz_5
  have hst := st_any w5 (w.heap.size + 1) T 0 Rz_5
  have dz := row_cell (setRow_row (c' := cw 6 T) Rz_5)
  have bz := bel_set (c := cw 6 T) B5 (show w.heap.size ≤ w.heap.size + 1 by first | exact Nat.le_refl _ | omega | (skip; omega))
  go_wp2
  exact bodyPost_ret (v := .agg (cw 6 T)) (by simp [results, Tryz.results32, go_sem, dz, hff]) rfl ⟨rfl, bz⟩
end Go.Proofs.YtdjlfhcalccajaaGreatDoor
