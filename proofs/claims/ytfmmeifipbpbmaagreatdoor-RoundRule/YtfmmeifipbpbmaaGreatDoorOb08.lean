/-
  What the functions that the statement reaches return: part 8 (Xmath, X1, X2, X3, X3m).
-/
import Derived.Test.YtfmmeifipbpbmaaGreatDoorOb07
namespace Go.Proofs.YtfmmeifipbpbmaaGreatDoor.XMath
set_option maxRecDepth 100000
open WMath

/-- How many twos a number has. -/
def tz (n : Nat) : Nat := if h : n = 0 ∨ n % 2 = 1 then 0 else tz (n / 2) + 1
termination_by n
decreasing_by omega
theorem tz_odd (n : Nat) (h : n % 2 = 1) : tz n = 0 := by rw [tz, dif_pos (Or.inr h)]
theorem tz_even (n : Nat) (h0 : n ≠ 0) (h : n % 2 = 0) : tz n = tz (n / 2) + 1 := by rw [tz, dif_neg (by omega)]
theorem tz_is (n : Nat) (h : n ≠ 0) : ∃ m, n = m * 2 ^ tz n ∧ m % 2 = 1 := by
  induction n using Nat.strongRecOn with
  | _ n ih =>
    by_cases h1 : n % 2 = 1
    · exact ⟨n, by rw [tz_odd n h1, Nat.pow_zero, Nat.mul_one], h1⟩
    · obtain ⟨m, hm, ho⟩ := ih (n / 2) (by omega) (by omega)
      refine ⟨m, ?_, ho⟩
      rw [tz_even n h (by omega), Nat.pow_succ, ← Nat.mul_assoc, ← hm]
      omega
/-- A number without its twos. -/
def od (n : Nat) : Nat := n / 2 ^ tz n
theorem od_is (n : Nat) (h : n ≠ 0) : n = od n * 2 ^ tz n ∧ od n % 2 = 1 := by
  obtain ⟨m, hm, ho⟩ := tz_is n h
  have e : od n = m := by
    unfold od
    generalize tz n = k at hm ⊢
    rw [hm]
    exact Nat.mul_div_cancel _ (Nat.two_pow_pos _)
  rw [e]
  exact ⟨hm, ho⟩
theorem od_odd (n : Nat) (h : n % 2 = 1) : od n = n := by unfold od; rw [tz_odd n h, Nat.pow_zero, Nat.div_one]
theorem od_le (n : Nat) : od n ≤ n := Nat.div_le_self _ _
theorem tz_low (n : Nat) : LowN n (tz n) := by
  by_cases h : n = 0
  · left
    exact ⟨h, by rw [h, tz, dif_pos (Or.inl rfl)]⟩
  · right
    obtain ⟨h1, h2⟩ := od_is n h
    refine ⟨h, ?_, ?_⟩
    · generalize tz n = k at h1
      rw [h1, Nat.mul_mod_left]
    · rw [Nat.testBit, Nat.shiftRight_eq_div_pow]
      have e : n / 2 ^ tz n = od n := rfl
      rw [e]
      simp only [Nat.one_and_eq_mod_two, bne_iff_ne, ne_eq]
      omega
theorem tz_blen (n : Nat) : tz n ≤ blen n := by
  by_cases h : n = 0
  · rw [h, tz, dif_pos (Or.inl rfl)]; omega
  · obtain ⟨h1, h2⟩ := od_is n h
    have h3 : 2 ^ tz n ≤ n := by
      generalize tz n = k at h1 ⊢
      rw [h1]
      exact Nat.le_mul_of_pos_left _ (by omega)
    have h4 := blen_lt n
    exact Nat.le_of_lt ((Nat.pow_lt_pow_iff_right (by decide : 1 < 2)).1 (Nat.lt_of_le_of_lt h3 h4))

/-- A rational number: its sign, numerator, denominator, exponent. -/
structure XN where
  b : Bool
  n : Nat
  d : Nat
  e : Int
/-- May it be? -/
def XN.can (x : XN) : Prop := nl x.n ≤ 16384 ∧ nl x.d ≤ 16384 ∧ -1048576 ≤ x.e ∧ x.e ≤ 1048576 ∧ ((x.b = false ∧ x.n = 0 ∧ x.d = 1 ∧ x.e = 0) ∨ (x.n % 2 = 1 ∧ x.d % 2 = 1 ∧ Nat.gcd x.n x.d = 1))
def sgn (b : Bool) : Rat := if b then -1 else 1
def XN.val (x : XN) : Rat := sgn x.b * ((x.n : Rat) / (x.d : Rat)) * (2 : Rat) ^ x.e
def X0 : XN := ⟨false, 0, 1, 0⟩
def XZ : XN := ⟨false, 0, 0, 0⟩
theorem XN.can.d {x : XN} (h : x.can) : x.d % 2 = 1 := by rcases h.2.2.2.2 with h | h <;> omega
theorem XN.can.d0 {x : XN} (h : x.can) : x.d ≠ 0 := by have := h.d; omega
theorem XN.can.null {x : XN} (h : x.can) (h0 : x.n = 0) : x = X0 := by
  rcases h.2.2.2.2 with h | h
  · cases x; simp_all [X0]
  · omega
theorem XN.can.odd {x : XN} (h : x.can) (h0 : x.n ≠ 0) : x.n % 2 = 1 ∧ x.d % 2 = 1 ∧ Nat.gcd x.n x.d = 1 := by
  rcases h.2.2.2.2 with h | h
  · exact absurd h.2.1 h0
  · exact h
theorem x0_can : X0.can := ⟨Nat.le_trans (nl_mono 0 1 (by decide)) (Nat.le_trans (nl_le_of 1 1 (by decide)) (by decide)), Nat.le_trans (nl_le_of 1 1 (by decide)) (by decide), by decide, by decide, Or.inl ⟨rfl, rfl, rfl, rfl⟩⟩

def mk (neg : Bool) (n d : Nat) (e : Int) : XN × Int :=
  if n = 0 then (X0, 0)
  else if -1048576 ≤ e + (tz n : Int) - (tz d : Int) ∧ e + (tz n : Int) - (tz d : Int) ≤ 1048576 then (⟨neg, od n / Nat.gcd (od n) (od d), od d / Nat.gcd (od n) (od d), e + (tz n : Int) - (tz d : Int)⟩, 0)
  else (XZ, 4)
theorem mk_null (neg : Bool) (d : Nat) (e : Int) : mk neg 0 d e = (X0, 0) := by unfold mk; rw [if_pos rfl]
theorem div_odd (a g : Nat) (h : g ∣ a) (ha : a % 2 = 1) : a / g % 2 = 1 := by
  obtain ⟨k, rfl⟩ := h
  have g0 : 0 < g := by
    rcases Nat.eq_zero_or_pos g with h | h
    · rw [h, Nat.zero_mul] at ha; omega
    · exact h
  rw [Nat.mul_div_cancel_left _ g0]
  rcases Nat.mod_two_eq_zero_or_one k with h | h
  · rw [Nat.mul_mod, h, Nat.mul_zero] at ha; omega
  · exact h
theorem mk_can (neg : Bool) (n d : Nat) (e : Int) (hn : nl n ≤ 16384) (hd : nl d ≤ 16384) (d0 : d ≠ 0) (h : (mk neg n d e).2 = 0) : (mk neg n d e).1.can := by
  unfold mk at h ⊢
  split
  · exact x0_can
  · rename_i n0
    rw [if_neg n0] at h
    split
    · rename_i hb
      obtain ⟨h1, h2⟩ := od_is n n0
      obtain ⟨h3, h4⟩ := od_is d d0
      have g1 := Nat.gcd_dvd_left (od n) (od d)
      have g2 := Nat.gcd_dvd_right (od n) (od d)
      refine ⟨Nat.le_trans (nl_mono _ _ (Nat.le_trans (Nat.div_le_self _ _) (od_le n))) hn, Nat.le_trans (nl_mono _ _ (Nat.le_trans (Nat.div_le_self _ _) (od_le d))) hd, hb.1, hb.2, Or.inr ⟨div_odd _ _ g1 h2, div_odd _ _ g2 h4, ?_⟩⟩
      show Nat.gcd (od n / Nat.gcd (od n) (od d)) (od d / Nat.gcd (od n) (od d)) = 1
      rw [Nat.gcd_div g1 g2]
      exact Nat.div_self (Nat.gcd_pos_of_pos_left _ (by omega))
    · rename_i hb
      rw [if_neg hb] at h
      exact absurd h (by decide)
theorem p2 (e : Int) : (0 : Rat) < (2 : Rat) ^ e := Rat.zpow_pos (by decide)
theorem p2add (e f : Int) : (2 : Rat) ^ (e + f) = (2 : Rat) ^ e * (2 : Rat) ^ f := Rat.zpow_add (by decide) e f
theorem p2nat (n : Nat) : (2 : Rat) ^ (n : Int) = ((2 ^ n : Nat) : Rat) := by rw [Rat.zpow_natCast, Rat.natCast_pow]; rfl
theorem cast_ne {n : Nat} (h : n ≠ 0) : (n : Rat) ≠ 0 := fun e => h (Rat.natCast_eq_zero_iff.1 e)
theorem cast_pos {n : Nat} (h : n ≠ 0) : (0 : Rat) < (n : Rat) := Rat.natCast_pos.2 (by omega)
/-- The magnitude. -/
def XN.mag (x : XN) : Rat := ((x.n : Rat) / (x.d : Rat)) * (2 : Rat) ^ x.e
theorem mag_pos (x : XN) (hn : x.n ≠ 0) (hd : x.d ≠ 0) : 0 < x.mag := by
  unfold XN.mag
  rw [Rat.div_def]
  exact Rat.mul_pos (Rat.mul_pos (cast_pos hn) (Rat.inv_pos.2 (cast_pos hd))) (p2 _)
/-- What the sum's formula makes of the one number: at the lesser exponent, over both denominators. -/
def sA (x y : XN) : Nat := x.n * y.d * 2 ^ (x.e - min x.e y.e).toNat
def sS (x y : XN) : Nat := if x.b = y.b then sA x y + sA y x else if sA x y < sA y x then sA y x - sA x y else sA x y - sA y x
def sN (x y : XN) : Bool := if x.b = y.b then x.b else if sA x y < sA y x then y.b else x.b
theorem mul_ne {a b : Nat} (ha : a ≠ 0) (hb : b ≠ 0) : a * b ≠ 0 := fun h => by rcases Nat.mul_eq_zero.1 h with h | h <;> contradiction
def sg (x : XN) : Int := if x.n = 0 then 0 else if x.b then -1 else 1
def lenD (x : XN) : Int := (blen x.n : Int) - (blen x.d : Int)
def tA (x : XN) : Nat := x.n * 2 ^ (max (-lenD x) 0).toNat
def tB (x : XN) : Nat := x.d * 2 ^ (max (lenD x) 0).toNat
def topX (x : XN) : Int := (if tA x < tB x then lenD x - 1 else lenD x) + x.e
def flX (x : XN) (e : Int) : (Nat × Bool) × Int :=
  if e < -2097152 ∨ 2097152 < e then ((0, false), 2) else if x.n = 0 then ((0, true), 0)
  else if e ≤ x.e then (if nl (x.n * 2 ^ (x.e - e).toNat) ≤ 16384 then ((x.n * 2 ^ (x.e - e).toNat / x.d, decide (x.n * 2 ^ (x.e - e).toNat % x.d = 0)), 0) else ((0, false), 4))
  else if topX x < e then ((0, false), 0) else ((x.n / (x.d * 2 ^ (e - x.e).toNat), false), 0)

theorem tA_len (x : XN) (n0 : x.n ≠ 0) (d0 : x.d ≠ 0) : blen (tA x) = blen (tB x) ∧ tA x ≠ 0 ∧ tB x ≠ 0 := by
  unfold tA tB
  rw [blen_shl _ _ n0, blen_shl _ _ d0]
  refine ⟨?_, mul_ne n0 (Nat.pos_iff_ne_zero.1 (Nat.two_pow_pos _)), mul_ne d0 (Nat.pos_iff_ne_zero.1 (Nat.two_pow_pos _))⟩
  unfold lenD
  omega
theorem tA_near (x : XN) (n0 : x.n ≠ 0) (d0 : x.d ≠ 0) : tA x < 2 * tB x ∧ tB x < 2 * tA x := by
  obtain ⟨h1, h2, h3⟩ := tA_len x n0 d0
  have a1 := blen_lt (tA x)
  have a2 := blen_le (tA x) h2
  have b1 := blen_lt (tB x)
  have b2 := blen_le (tB x) h3
  have p := blen_pos (tA x) h2
  rw [← h1] at b1 b2
  obtain ⟨k, hk⟩ : ∃ k, blen (tA x) = k + 1 := ⟨_, (Nat.succ_pred_eq_of_ne_zero (Nat.pos_iff_ne_zero.1 p)).symm⟩
  rw [hk, Nat.pow_succ] at a1 b1
  rw [hk, Nat.add_sub_cancel] at a2 b2
  omega
theorem tA_mag (x : XN) (d0 : x.d ≠ 0) : x.mag * ((tB x : Nat) : Rat) = ((tA x : Nat) : Rat) * (2 : Rat) ^ (lenD x + x.e) := by
  unfold tA tB XN.mag
  rw [Rat.natCast_mul, Rat.natCast_mul, ← p2nat, ← p2nat, p2add]
  have e : (2 : Rat) ^ ((max (lenD x) 0).toNat : Int) = (2 : Rat) ^ ((max (-lenD x) 0).toNat : Int) * (2 : Rat) ^ (lenD x) := by
    rw [← p2add]
    congr 1
    omega
  rw [e]
  have z := cast_ne d0
  generalize (2 : Rat) ^ ((max (-lenD x) 0).toNat : Int) = A at *
  generalize (2 : Rat) ^ (lenD x) = B at *
  generalize (2 : Rat) ^ x.e = C at *
  grind
theorem p2succ (e : Int) : (2 : Rat) ^ (e + 1) = 2 * (2 : Rat) ^ e := by rw [p2add, Rat.zpow_one, Rat.mul_comm]
theorem top_good (x : XN) (n0 : x.n ≠ 0) (d0 : x.d ≠ 0) : (2 : Rat) ^ (topX x) ≤ x.mag ∧ x.mag < (2 : Rat) ^ (topX x + 1) := by
  obtain ⟨h1, h2⟩ := tA_near x n0 d0
  have k := tA_mag x d0
  have zB : (0 : Rat) < ((tB x : Nat) : Rat) := cast_pos (tA_len x n0 d0).2.2
  have zP := p2 (lenD x + x.e)
  have c1 : ((tA x : Nat) : Rat) < 2 * ((tB x : Nat) : Rat) := by
    have := Rat.natCast_lt_natCast.2 h1
    rwa [Rat.natCast_mul] at this
  have c2 : ((tB x : Nat) : Rat) < 2 * ((tA x : Nat) : Rat) := by
    have := Rat.natCast_lt_natCast.2 h2
    rwa [Rat.natCast_mul] at this
  unfold topX
  split
  · rename_i hl
    have c3 := Rat.natCast_lt_natCast.2 hl
    have e1 := p2succ (lenD x - 1 + x.e)
    rw [show lenD x - 1 + x.e + 1 = lenD x + x.e by omega] at e1
    rw [show lenD x - 1 + x.e + 1 = lenD x + x.e by omega]
    generalize (2 : Rat) ^ (lenD x + x.e) = P at *
    generalize (2 : Rat) ^ (lenD x - 1 + x.e) = H at *
    generalize ((tA x : Nat) : Rat) = A at *
    generalize ((tB x : Nat) : Rat) = B at *
    constructor
    · refine Rat.le_of_mul_le_mul_right (c := B) ?_ zB
      rw [k, e1]
      have : H * B ≤ H * (2 * A) := Rat.mul_le_mul_of_nonneg_left (Rat.le_of_lt c2) (by grind)
      grind
    · refine Rat.lt_of_mul_lt_mul_right (c := B) ?_ (Rat.le_of_lt zB)
      rw [k, Rat.mul_comm A P]
      exact Rat.mul_lt_mul_of_pos_left c3 zP
  · rename_i hl
    have c3 := Rat.natCast_le_natCast.2 (Nat.le_of_not_lt hl)
    have e1 := p2succ (lenD x + x.e)
    rw [e1]
    generalize (2 : Rat) ^ (lenD x + x.e) = P at *
    generalize ((tA x : Nat) : Rat) = A at *
    generalize ((tB x : Nat) : Rat) = B at *
    constructor
    · refine Rat.le_of_mul_le_mul_right (c := B) ?_ zB
      rw [k, Rat.mul_comm A P]
      exact Rat.mul_le_mul_of_nonneg_left c3 (Rat.le_of_lt zP)
    · refine Rat.lt_of_mul_lt_mul_right (c := B) ?_ (Rat.le_of_lt zB)
      rw [k]
      have : P * A < P * (2 * B) := Rat.mul_lt_mul_of_pos_left c1 zP
      grind
/-- The whole part: a number over another one, at a power of two. -/
theorem quot_good (u : Rat) (N D : Nat) (P : Rat) (hP : 0 < P) (D0 : D ≠ 0) (k : u * (D : Rat) = (N : Rat) * P) : ((N / D : Nat) : Rat) * P ≤ u ∧ u < ((N / D + 1 : Nat) : Rat) * P ∧ (N % D = 0 ↔ ((N / D : Nat) : Rat) * P = u) := by
  have zD := cast_pos D0
  have h1 : N / D * D ≤ N := Nat.div_mul_le_self N D
  have h2 : N < (N / D + 1) * D := by
    have := Nat.div_add_mod N D
    have := Nat.mod_lt N (Nat.pos_of_ne_zero D0)
    rw [Nat.add_mul, Nat.one_mul, Nat.mul_comm (N / D) D]
    omega
  have h3 : N % D = 0 ↔ N / D * D = N := by
    have := Nat.div_add_mod N D
    rw [Nat.mul_comm (N / D) D]
    omega
  have c1 := Rat.natCast_le_natCast.2 h1
  have c2 := Rat.natCast_lt_natCast.2 h2
  rw [Rat.natCast_mul] at c1 c2
  have c3 : N / D * D = N ↔ ((N / D : Nat) : Rat) * (D : Rat) = (N : Rat) := by rw [← Rat.natCast_mul, Rat.natCast_inj]
  rw [h3, c3]
  generalize ((N / D + 1 : Nat) : Rat) = M1 at *
  generalize ((N / D : Nat) : Rat) = M at *
  generalize (N : Rat) = n at *
  generalize (D : Rat) = d at *
  refine ⟨?_, ?_, ?_, ?_⟩
  · refine Rat.le_of_mul_le_mul_right (c := d) ?_ zD
    rw [k]
    have := Rat.mul_le_mul_of_nonneg_left c1 (Rat.le_of_lt hP)
    grind
  · refine Rat.lt_of_mul_lt_mul_right (c := d) ?_ (Rat.le_of_lt zD)
    rw [k]
    have := Rat.mul_lt_mul_of_pos_left c2 hP
    grind
  · intro h
    rw [← h] at k
    have : d ≠ 0 := Rat.ne_of_gt zD
    grind
  · intro h
    rw [← h] at k
    have : P ≠ 0 := Rat.ne_of_gt hP
    grind
theorem p2mono (e f : Int) (h : e ≤ f) : (2 : Rat) ^ e ≤ (2 : Rat) ^ f := by
  obtain ⟨k, rfl⟩ : ∃ k : Nat, f = (k : Int) + e := ⟨(f - e).toNat, by omega⟩
  rw [p2add (k : Int) e, p2nat]
  have a : (1 : Rat) ≤ ((2 ^ k : Nat) : Rat) := Rat.natCast_le_natCast.2 (Nat.one_le_two_pow (n := k))
  have b := Rat.mul_le_mul_of_nonneg_right a (Rat.le_of_lt (p2 e))
  rwa [Rat.one_mul] at b
theorem fl_good (x : XN) (e : Int) (hx : x.can) (n0 : x.n ≠ 0) (h : (flX x e).2 = 0) : (((flX x e).1.1 : Nat) : Rat) * (2 : Rat) ^ e ≤ x.mag ∧ x.mag < (((flX x e).1.1 + 1 : Nat) : Rat) * (2 : Rat) ^ e ∧ ((flX x e).1.2 = true ↔ (((flX x e).1.1 : Nat) : Rat) * (2 : Rat) ^ e = x.mag) := by
  have d0 := hx.d0
  unfold flX at h ⊢
  by_cases hr : e < -2097152 ∨ 2097152 < e
  · rw [if_pos hr] at h
    exact absurd h (by decide)
  rw [if_neg hr, if_neg n0] at h ⊢
  by_cases he : e ≤ x.e
  · rw [if_pos he] at h ⊢
    by_cases hl : nl (x.n * 2 ^ (x.e - e).toNat) ≤ 16384
    · rw [if_pos hl]
      have k : x.mag * (x.d : Rat) = ((x.n * 2 ^ (x.e - e).toNat : Nat) : Rat) * (2 : Rat) ^ e := by
        have e1 : (2 : Rat) ^ x.e = (2 : Rat) ^ ((x.e - e).toNat : Int) * (2 : Rat) ^ e := by rw [← p2add]; congr 1; omega
        unfold XN.mag
        rw [Rat.natCast_mul, ← p2nat, e1]
        have z := cast_ne d0
        grind
      have := quot_good _ _ _ _ (p2 e) d0 k
      simp only [decide_eq_true_eq]
      exact this
    · rw [if_neg hl] at h
      exact absurd h (by decide)
  · rw [if_neg he] at h ⊢
    have hz : ¬ x.n % (x.d * 2 ^ (e - x.e).toNat) = 0 := by
      intro hm
      obtain ⟨k, hk⟩ : ∃ k, (e - x.e).toNat = k + 1 := ⟨(e - x.e).toNat - 1, by omega⟩
      rw [hk, Nat.pow_succ, ← Nat.mul_assoc] at hm
      obtain ⟨q, hq⟩ := Nat.dvd_of_mod_eq_zero hm
      have := (hx.odd n0).1
      rw [hq, Nat.mul_assoc, Nat.mul_assoc, Nat.mul_left_comm (2 ^ k) 2, Nat.mul_left_comm x.d 2, Nat.mul_mod_right] at this
      omega
    have k : x.mag * ((x.d * 2 ^ (e - x.e).toNat : Nat) : Rat) = (x.n : Rat) * (2 : Rat) ^ e := by
      have e1 : (2 : Rat) ^ e = (2 : Rat) ^ ((e - x.e).toNat : Int) * (2 : Rat) ^ x.e := by rw [← p2add]; congr 1; omega
      unfold XN.mag
      rw [Rat.natCast_mul, ← p2nat, e1]
      have z := cast_ne d0
      grind
    have D0 : x.d * 2 ^ (e - x.e).toNat ≠ 0 := mul_ne d0 (Nat.pos_iff_ne_zero.1 (Nat.two_pow_pos _))
    have q := quot_good _ _ _ _ (p2 e) D0 k
    by_cases ht : topX x < e
    · rw [if_pos ht]
      have t2 := (top_good x n0 d0).2
      have := p2mono (topX x + 1) e (by omega)
      have up : x.mag < (2 : Rat) ^ e := by grind
      have p := mag_pos x n0 d0
      have z0 : ((0 : Nat) : Rat) = 0 := rfl
      have z1 : ((0 + 1 : Nat) : Rat) = 1 := rfl
      refine ⟨?_, ?_, ?_⟩
      · show ((0 : Nat) : Rat) * _ ≤ _
        rw [z0, Rat.zero_mul]
        exact Rat.le_of_lt p
      · show _ < ((0 + 1 : Nat) : Rat) * _
        rw [z1, Rat.one_mul]
        exact up
      · show false = true ↔ ((0 : Nat) : Rat) * _ = _
        rw [z0, Rat.zero_mul]
        exact ⟨fun h => absurd h (by decide), fun h => absurd p (by rw [← h]; exact Rat.lt_irrefl)⟩
    · rw [if_neg ht]
      refine ⟨q.1, q.2.1, ?_⟩
      exact ⟨fun h => Bool.noConfusion h, fun h => absurd (q.2.2.2 h) hz⟩

theorem nl_pow (n p : Nat) (h : n < 2 ^ p) (hp : p ≤ 131072) : nl n ≤ 16384 := by
  have := blen_le_of n p h
  unfold nl
  omega
end Go.Proofs.YtfmmeifipbpbmaaGreatDoor.XMath
namespace Go.Proofs.YtfmmeifipbpbmaaGreatDoor
set_option maxRecDepth 100000
open Go.RowKit WMath XMath

theorem nb1 : nbA 1 = ⟨#[1]⟩ := by decide +kernel
theorem nl1 : nl 1 ≤ 16384 := by decide +kernel
theorem nl0 : nl 0 ≤ 16384 := by decide +kernel
theorem eq_one (g : Nat) (v : ByteArray) (h : nbA g = v) : (v.toList == [1]) = decide (g = 1) := by
  rw [Bool.eq_iff_iff, beq_iff_eq, decide_eq_true_iff, ByteArray.toList_eq]
  constructor
  · intro e
    apply nbA_inj
    rw [h, nb1]
    obtain ⟨⟨l⟩⟩ := v
    show (⟨⟨l⟩⟩ : ByteArray) = ⟨#[1]⟩
    have : l = [1] := e
    rw [this]
  · intro e
    subst e
    rw [nb1] at h
    rw [← h]
theorem eq_nil (n : Nat) (s : ByteArray) (h : nbA n = s) (h0 : n ≠ 0) : (s.toList == []) = false := by
  rw [eq_empty, decide_eq_false_iff_not, ← h, nbA_size]
  have := nl_pos n h0
  omega

theorem cells4 {w : World} {g : Nat} {T : TypeId} {c : Array Value} (row : w.heap[g]? = some (.cells c T)) (k : Nat) (v : Value) (h : c[k]? = some v) : w.cell? ⟨g, k, none⟩ = some v := by
  rw [cell_of_row w g k _ _ _ row]
  exact h

theorem cells4s {w : World} {g : Nat} {T : TypeId} {a b c d : Value} (R : w.heap[g]? = some (.cells #[a, b, c, d] T)) : w.cell? ⟨g, 0, none⟩ = some a ∧ w.cell? ⟨g, 1, none⟩ = some b ∧ w.cell? ⟨g, 2, none⟩ = some c ∧ w.cell? ⟨g, 3, none⟩ = some d := ⟨cells4 R 0 _ rfl, cells4 R 1 _ rfl, cells4 R 2 _ rfl, cells4 R 3 _ rfl⟩
theorem cells2s {w : World} {g : Nat} {T : TypeId} {a b : Value} (R : w.heap[g]? = some (.cells #[a, b] T)) : w.cell? ⟨g, 0, none⟩ = some a ∧ w.cell? ⟨g, 1, none⟩ = some b := ⟨cells4 R 0 _ rfl, cells4 R 1 _ rfl⟩
theorem opn1 (w : World) (o : Obj) : (w.alloc o).heap[w.heap.size]? = some o ∧ Below w.heap.size w (w.alloc o) := ⟨heap_alloc_last _ _, (Below.refl _ _).alloc (Nat.le_refl _) _⟩
theorem opn2 (w : World) (o1 o2 : Obj) : ((w.alloc o1).alloc o2).heap[w.heap.size]? = some o1 ∧ ((w.alloc o1).alloc o2).heap[w.heap.size + 1]? = some o2 ∧ Below w.heap.size w ((w.alloc o1).alloc o2) := by
  obtain ⟨r0, b⟩ := opn1 w o1
  have z : (w.alloc o1).heap.size = w.heap.size + 1 := by simp only [size_al]
  exact ⟨by rw [heap_below _ _ _ (by omega)]; exact r0, by rw [← z]; exact heap_alloc_last _ _, b.alloc (by omega) _⟩
theorem set4_below {n : Nat} {w wr : World} {b : Nat} (h : Below n w wr) (hb : n ≤ b) (v0 v1 v2 v3 : Value) : Below n w ((((wr.setCell ⟨b, 0, none⟩ v0).setCell ⟨b, 1, none⟩ v1).setCell ⟨b, 2, none⟩ v2).setCell ⟨b, 3, none⟩ v3) :=
  (((h.setCell hb _).setCell hb _).setCell hb _).setCell hb _
theorem set4_row {w : World} {b : Nat} {c : Array Value} {T : TypeId} (h : w.heap[b]? = some (.cells c T)) (hc : c.size = 4) (v0 v1 v2 v3 : Value) :
    ((((w.setCell ⟨b, 0, none⟩ v0).setCell ⟨b, 1, none⟩ v1).setCell ⟨b, 2, none⟩ v2).setCell ⟨b, 3, none⟩ v3).heap[b]? = some (.cells #[v0, v1, v2, v3] T) := by
  rw [setCell_row (setCell_row (setCell_row (setCell_row h)))]
  obtain ⟨l⟩ := c
  match l, hc with
  | [a, b, c, d], _ => rfl
theorem set4_cells {w : World} {b : Nat} {c : Array Value} {T : TypeId} (h : w.heap[b]? = some (.cells c T)) (hc : c.size = 4) (v0 v1 v2 v3 : Value) :
    ((((w.setCell ⟨b, 0, none⟩ v0).setCell ⟨b, 1, none⟩ v1).setCell ⟨b, 2, none⟩ v2).setCell ⟨b, 3, none⟩ v3).cell? ⟨b, 0, none⟩ = some v0 ∧
    ((((w.setCell ⟨b, 0, none⟩ v0).setCell ⟨b, 1, none⟩ v1).setCell ⟨b, 2, none⟩ v2).setCell ⟨b, 3, none⟩ v3).cell? ⟨b, 1, none⟩ = some v1 ∧
    ((((w.setCell ⟨b, 0, none⟩ v0).setCell ⟨b, 1, none⟩ v1).setCell ⟨b, 2, none⟩ v2).setCell ⟨b, 3, none⟩ v3).cell? ⟨b, 2, none⟩ = some v2 ∧
    ((((w.setCell ⟨b, 0, none⟩ v0).setCell ⟨b, 1, none⟩ v1).setCell ⟨b, 2, none⟩ v2).setCell ⟨b, 3, none⟩ v3).cell? ⟨b, 3, none⟩ = some v3 := by
  have r := set4_row h hc v0 v1 v2 v3
  exact ⟨cells4 r 0 _ rfl, cells4 r 1 _ rfl, cells4 r 2 _ rfl, cells4 r 3 _ rfl⟩

/-- May a number be that is told by strings? -/
def MayX (b : Bool) (s t : ByteArray) (e : Int) : Prop := ∃ n d, nbA n = s ∧ nbA d = t ∧ (XN.mk b n d e).can
/-- Does o tell whether it may be? -/
def IsM (o : Bool) (b : Bool) (s t : ByteArray) (e : Int) : Prop := o = true ↔ MayX b s t e
theorem mayX_iff (b : Bool) (n d : Nat) (s t : ByteArray) (e : Int) (hs : nbA n = s) (ht : nbA d = t) : MayX b s t e ↔ (XN.mk b n d e).can := by
  constructor
  · rintro ⟨n', d', h1, h2, h⟩
    rw [nbA_inj _ _ (h1.trans hs.symm), nbA_inj _ _ (h2.trans ht.symm)] at h
    exact h
  · intro h
    exact ⟨n, d, hs, ht, h⟩
theorem mayX_s (b : Bool) (s t : ByteArray) (e : Int) (h : MayX b s t e) : mayB s = true ∧ mayB t = true := by
  obtain ⟨n, d, rfl, rfl, h⟩ := h
  exact ⟨mayB_nb n h.1, mayB_nb d h.2.1⟩

theorem xnull (w : World) : Calls Tryz.prog 64 #[] w fun r w' => r = .returned (.agg #[.bool false, .string ⟨#[]⟩, .string ⟨#[1]⟩, .int .i64 0]) ∧ Below w.heap.size w w' := by
  go_enter Tryz.func64, Tryz.ntmps64
  go_wp2
  exact bodyPost_ret (v := .agg #[.bool false, .string ⟨#[]⟩, .string ⟨#[1]⟩, .int .i64 0]) (by simp [results, Tryz.results64, go_sem]) rfl ⟨rfl, by first | exact Below.refl _ _ | exact bal _ _⟩
theorem zerox (w : World) : Calls Tryz.prog 146 #[] w fun r w' => r = .returned (.agg #[.bool false, .string ⟨#[]⟩, .string ⟨#[1]⟩, .int .i64 0]) ∧ Below w.heap.size w w' := by
  go_enter Tryz.func146, Tryz.ntmps146
  go_wp2
  exact bodyPost_ret (v := .agg #[.bool false, .string ⟨#[]⟩, .string ⟨#[1]⟩, .int .i64 0]) (by simp [results, Tryz.results146, go_sem]) rfl ⟨rfl, by first | exact Below.refl _ _ | exact bal _ _⟩
theorem withinx (n b : Int) (o : Bool) (hb : 0 ≤ b) (hb2 : b ≤ 9223372036854775807) (ho : (decide (-b ≤ n) && decide (n ≤ b)) = o) (w : World) : Calls Tryz.prog 223 #[.int .i64 n, .int .i64 b] w fun r w' => r = .returned (.bool o) ∧ Below w.heap.size w w' := by
  have n1 : IntKind.i64.wrap (-b) = -b := wrap_i64_is _ (by omega) (by omega)
  by_cases h : -b ≤ n
  · have d1 : decide (-b ≤ n) = true := decide_eq_true h
    rw [d1, Bool.true_and] at ho
    have B0 : Below w.heap.size w w := (Below.refl _ _)
    go_enter Tryz.func223, Tryz.ntmps223
    go_wp2
    go_ret
    exact ⟨rfl, B0⟩
  · have d1 : decide (-b ≤ n) = false := decide_eq_false h
    rw [d1, Bool.false_and] at ho
    subst ho
    have B0 : Below w.heap.size w w := (Below.refl _ _)
    go_enter Tryz.func223, Tryz.ntmps223
    go_wp2
    go_ret
    exact ⟨rfl, B0⟩
theorem oddx (n : Nat) (s : ByteArray) (o : Bool) (hs : nbA n = s) (hl : nl n ≤ 16384) (ho : decide (n % 2 = 1) = o) (w : World) (hT : TabAt w) : Calls Tryz.prog 224 #[.string s] w fun r w' => r = .returned (.bool o) ∧ Below w.heap.size w w' := by
  by_cases h0 : n = 0
  · subst h0
    rw [nbA_zero] at hs
    subst hs
    have e : o = false := by rw [← ho]; rfl
    subst e
    clear ho hl
    have B0 : Below w.heap.size w w := (Below.refl _ _)
    go_enter Tryz.func224, Tryz.ntmps224
    go_wp2
    go_ret
    exact ⟨rfl, B0⟩
  · have d0 := eq_nil n s hs h0
    obtain ⟨t, ht⟩ : ∃ t, tz n = t := ⟨_, rfl⟩
    have HT := box (tz_low n)
    rw [ht] at HT
    have hc : ((t : Int) == 0) = o := by
      rw [← ho, ← ht, Bool.eq_iff_iff, beq_iff_eq, decide_eq_true_iff]
      constructor
      · intro h
        obtain ⟨a, b⟩ := od_is n h0
        have e : tz n = 0 := by omega
        unfold od at b
        rw [e, Nat.pow_zero, Nat.div_one] at b
        exact b
      · intro h
        rw [tz_odd n h]
        rfl
    have hc2 : decide (t = 0) = o := by
      rw [← hc, Bool.eq_iff_iff, beq_iff_eq, decide_eq_true_iff]
      omega
    have HS := box hs
    have HL := box hl
    have TT := box hT
    clear hs hl ht ho hT
    have B0 : Below w.heap.size w w := (Below.refl _ _)
    go_enter Tryz.func224, Tryz.ntmps224
    go_wp2_with fail
    refine (pn_low_ok n t s HS.out HL.out HT.out _ (tabB TT.out B0)).mono ?_
    rintro r w1 ⟨rfl, b1⟩
    have B1 : Below w.heap.size w w1 := btr B0 b1
    clear b1 B0 
    go_wp2
    go_ret
    exact ⟨rfl, B1⟩
end Go.Proofs.YtfmmeifipbpbmaaGreatDoor
namespace Go.Proofs.YtfmmeifipbpbmaaGreatDoor
set_option maxRecDepth 100000
open Go.RowKit WMath XMath

theorem apartx (a b : Nat) (s t : ByteArray) (o : Bool) (hs : nbA a = s) (ht : nbA b = t) (ha : nl a ≤ 16384) (hb : nl b ≤ 16384) (ho : decide (Nat.gcd a b = 1) = o) (w : World) : Calls Tryz.prog 225 #[.string s, .string t] w fun r w' => r = .returned (.bool o) ∧ Below w.heap.size w w' := by
  obtain ⟨v, hv⟩ : ∃ v, nbA (Nat.gcd a b) = v := ⟨_, rfl⟩
  have e1 := eq_one _ v hv
  rw [ho] at e1
  have HS := box hs
  have HT := box ht
  have HA := box ha
  have HB := box hb
  have HV := box hv
  clear hs ht ha hb ho hv
  have B0 : Below w.heap.size w w := (Below.refl _ _)
  go_enter Tryz.func225, Tryz.ntmps225
  go_wp2_with fail
  refine (pn_gcd_ok a b s t v HS.out HT.out HA.out HB.out HV.out _).mono ?_
  rintro r w1 ⟨rfl, b1⟩
  have B1 : Below w.heap.size w w1 := btr B0 b1
  clear b1 B0 
  go_wp2
  go_ret
  exact ⟨rfl, B1⟩

theorem can_parts (b : Bool) (n d : Nat) (e : Int) (hn : nl n ≤ 16384) (hd : nl d ≤ 16384) : (XN.mk b n d e).can ↔ (-1048576 ≤ e ∧ e ≤ 1048576 ∧ ((b = false ∧ n = 0 ∧ d = 1 ∧ e = 0) ∨ (n % 2 = 1 ∧ d % 2 = 1 ∧ Nat.gcd n d = 1))) := by
  unfold XN.can
  exact ⟨fun h => h.2.2, fun h => ⟨hn, hd, h⟩⟩

end Go.Proofs.YtfmmeifipbpbmaaGreatDoor
namespace Go.Proofs.YtfmmeifipbpbmaaGreatDoor
set_option maxRecDepth 100000
open Go.RowKit WMath XMath

set_option maxRecDepth 100000 in
set_option maxHeartbeats 1000000 in
theorem xcheck (b : Bool) (s t : ByteArray) (e : Int) (o : Bool) (ho : o = true ↔ MayX b s t e) (w : World) (hT : TabAt w) : Calls Tryz.prog 145 #[.agg #[.bool b, .string s, .string t, .int .i64 e]] w fun r w' => r = .returned (.int .i64 (if o then 0 else 2)) ∧ Below w.heap.size w w' := by
  have TT := box hT
  clear hT
  cases hm1 : mayB s
  · have eo : o = false := by
      cases o
      · rfl
      · have := (mayX_s b s t e (ho.1 rfl)).1
        rw [hm1] at this
        exact absurd this (by decide)
    subst eo
    have H1 := box hm1
    clear hm1 ho
    obtain ⟨Rx_0, B0⟩ := opn1 w (Obj.cells #[.bool b, .string s, .string t, .int .i64 e] 41)
    go_enter Tryz.func145, Tryz.ntmps145
    go_wp2_with fail
    refine (n_check s false H1.out _).mono ?_
    rintro r w' ⟨rfl, rfl⟩
    go_wp2
    go_ret
    exact ⟨rfl, B0⟩
  cases hm2 : mayB t
  · have eo : o = false := by
      cases o
      · rfl
      · have := (mayX_s b s t e (ho.1 rfl)).2
        rw [hm2] at this
        exact absurd this (by decide)
    subst eo
    have H1 := box hm1
    have H2 := box hm2
    clear hm1 hm2 ho
    obtain ⟨Rx_0, B0⟩ := opn1 w (Obj.cells #[.bool b, .string s, .string t, .int .i64 e] 41)
    go_enter Tryz.func145, Tryz.ntmps145
    go_wp2_with fail
    refine (n_check s true H1.out _).mono ?_
    rintro r w' ⟨rfl, rfl⟩
    go_wp2_with fail
    refine (n_check t false H2.out _).mono ?_
    rintro r w' ⟨rfl, rfl⟩
    go_wp2
    go_ret
    exact ⟨rfl, B0⟩
  obtain ⟨n, hs, ln⟩ := mayB_is s hm1
  obtain ⟨d, ht, ld⟩ := mayB_is t hm2
  rw [mayX_iff b n d s t e hs ht, can_parts b n d e ln ld] at ho
  have H1 := box hm1
  have H2 := box hm2
  have HS := box hs
  have HT := box ht
  have LN := box ln
  have LD := box ld
  clear hm1 hm2
  obtain ⟨g, hg⟩ : ∃ g, (decide (-1048576 ≤ e) && decide (e ≤ 1048576)) = g := ⟨_, rfl⟩
  have HG := box hg
  cases g
  · have eo : o = false := by
      cases o
      · rfl
      · have := ho.1 rfl
        rw [decide_eq_true this.1, decide_eq_true this.2.1] at hg
        exact hg
    subst eo
    clear ho hs ht ln ld hg
    obtain ⟨Rx_0, B0⟩ := opn1 w (Obj.cells #[.bool b, .string s, .string t, .int .i64 e] 41)
    go_enter Tryz.func145, Tryz.ntmps145
    go_wp2_with fail
    refine (n_check s true H1.out _).mono ?_
    rintro r w' ⟨rfl, rfl⟩
    go_wp2_with fail
    refine (n_check t true H2.out _).mono ?_
    rintro r w' ⟨rfl, rfl⟩
    go_wp2_with fail
    refine (withinx e 1048576 false (by decide) (by decide) HG.out _).mono ?_
    rintro r w1 ⟨rfl, b1⟩
    have B1 : Below w.heap.size w w1 := btr B0 b1
    have Rx_1 := heap_of b1 _ _ _ Rx_0
    clear b1 B0 Rx_0
    obtain ⟨cx_1_0, cx_1_1, cx_1_2, cx_1_3⟩ := cells4s Rx_1
    go_wp2
    go_ret
    exact ⟨rfl, B1⟩
  have hr : -1048576 ≤ e ∧ e ≤ 1048576 := by simpa using hg
  clear hg
  by_cases h0 : n = 0
  · subst h0
    rw [nbA_zero] at hs
    have hs2 := hs
    clear hs
    subst hs2
    have e1 := eq_one d t ht
    have ez : (e == 0) = decide (e = 0) := by rw [Bool.eq_iff_iff, beq_iff_eq, decide_eq_true_iff]
    have ho2 : o = true ↔ (b = false ∧ d = 1 ∧ e = 0) := by rw [ho]; exact ⟨fun h => by rcases h.2.2 with h | h; exact ⟨h.1, h.2.2⟩; omega, fun h => ⟨by omega, by omega, Or.inl ⟨h.1, rfl, h.2⟩⟩⟩
    have OD : Box (decide ((0 : Nat) % 2 = 1) = false) := box rfl
    clear ho ht ln ld hr
    cases b
    · by_cases d1 : d = 1
      · rw [decide_eq_true d1] at e1
        by_cases z : e = 0
        · have eo : o = true := ho2.2 ⟨rfl, d1, z⟩
          subst eo
          rw [decide_eq_true z] at ez
          clear ho2 d1 z
          obtain ⟨Rx_0, B0⟩ := opn1 w (Obj.cells #[.bool false, .string ⟨#[]⟩, .string t, .int .i64 e] 41)
          go_enter Tryz.func145, Tryz.ntmps145
          go_wp2_with fail
          refine (n_check _ true H1.out _).mono ?_
          rintro r w' ⟨rfl, rfl⟩
          go_wp2_with fail
          refine (n_check t true H2.out _).mono ?_
          rintro r w' ⟨rfl, rfl⟩
          go_wp2_with fail
          refine (withinx e 1048576 true (by decide) (by decide) HG.out _).mono ?_
          rintro r w1 ⟨rfl, b1⟩
          have B1 : Below w.heap.size w w1 := btr B0 b1
          have Rx_1 := heap_of b1 _ _ _ Rx_0
          clear b1 B0 Rx_0
          obtain ⟨cx_1_0, cx_1_1, cx_1_2, cx_1_3⟩ := cells4s Rx_1
          go_wp2_with fail
          obtain ⟨F, hF1, hF2⟩ := below_fun w1
          have fx_0 := fun u => cells4 (heap_of (hF1 u) _ _ _ Rx_1) 0 _ rfl
          have fx_1 := fun u => cells4 (heap_of (hF1 u) _ _ _ Rx_1) 1 _ rfl
          have fx_2 := fun u => cells4 (heap_of (hF1 u) _ _ _ Rx_1) 2 _ rfl
          have fx_3 := fun u => cells4 (heap_of (hF1 u) _ _ _ Rx_1) 3 _ rfl
          refine wp_region_below F hF2 (by kernel_rfl) (by kernel_rfl) ?_
          repeat first | go_big_quiet_step (first | (go_at_call 146; exact quietF hF1 hF2 (zerox _)) | fail) | quiet_step (first | (go_at_call 146; exact quietF hF1 hF2 (zerox _)) | fail)
          refine wpQuiet_nil ?_
          rintro _ ⟨uW, rfl⟩
          have B2 := btr B1 (hF1 uW)
          have Rx_2 := heap_of (hF1 uW) _ _ _ Rx_1
          obtain ⟨w2, hw⟩ : ∃ V, F uW = V := ⟨_, rfl⟩
          rw [hw] at B2 Rx_2
          try rw [hw]
          clear hw hF1 hF2 B1 fx_0 fx_1 fx_2 fx_3 Rx_1 cx_1_0 cx_1_1 cx_1_2 cx_1_3
          clear F
          obtain ⟨cx_2_0, cx_2_1, cx_2_2, cx_2_3⟩ := cells4s Rx_2
          go_wp2
          go_ret
          exact ⟨rfl, B2⟩
        · have eo : o = false := by cases o; rfl; exact absurd (ho2.1 rfl).2.2 z
          subst eo
          rw [decide_eq_false z] at ez
          clear ho2 d1
          obtain ⟨Rx_0, B0⟩ := opn1 w (Obj.cells #[.bool false, .string ⟨#[]⟩, .string t, .int .i64 e] 41)
          go_enter Tryz.func145, Tryz.ntmps145
          go_wp2_with fail
          refine (n_check _ true H1.out _).mono ?_
          rintro r w' ⟨rfl, rfl⟩
          go_wp2_with fail
          refine (n_check t true H2.out _).mono ?_
          rintro r w' ⟨rfl, rfl⟩
          go_wp2_with fail
          refine (withinx e 1048576 true (by decide) (by decide) HG.out _).mono ?_
          rintro r w1 ⟨rfl, b1⟩
          have B1 : Below w.heap.size w w1 := btr B0 b1
          have Rx_1 := heap_of b1 _ _ _ Rx_0
          clear b1 B0 Rx_0
          obtain ⟨cx_1_0, cx_1_1, cx_1_2, cx_1_3⟩ := cells4s Rx_1
          go_wp2_with fail
          obtain ⟨F, hF1, hF2⟩ := below_fun w1
          have fx_0 := fun u => cells4 (heap_of (hF1 u) _ _ _ Rx_1) 0 _ rfl
          have fx_1 := fun u => cells4 (heap_of (hF1 u) _ _ _ Rx_1) 1 _ rfl
          have fx_2 := fun u => cells4 (heap_of (hF1 u) _ _ _ Rx_1) 2 _ rfl
          have fx_3 := fun u => cells4 (heap_of (hF1 u) _ _ _ Rx_1) 3 _ rfl
          have TF : Box (∀ u, TabAt (F u)) := box (fun u => tabB TT.out (btr B1 (hF1 u)))
          refine wp_region_below F hF2 (by kernel_rfl) (by kernel_rfl) ?_
          repeat first | go_big_quiet_step (first | (go_at_call 146; exact quietF hF1 hF2 (zerox _)) | (go_at_call 224; exact quietF hF1 hF2 (oddx 0 _ false HS.out LN.out OD.out _ (TF.out _))) | fail) | quiet_step (first | (go_at_call 146; exact quietF hF1 hF2 (zerox _)) | (go_at_call 224; exact quietF hF1 hF2 (oddx 0 _ false HS.out LN.out OD.out _ (TF.out _))) | fail)
          refine wpQuiet_nil ?_
          rintro _ ⟨uW, rfl⟩
          have B2 := btr B1 (hF1 uW)
          have Rx_2 := heap_of (hF1 uW) _ _ _ Rx_1
          obtain ⟨w2, hw⟩ : ∃ V, F uW = V := ⟨_, rfl⟩
          rw [hw] at B2 Rx_2
          try rw [hw]
          clear hw hF1 hF2 B1 fx_0 fx_1 fx_2 fx_3 Rx_1 cx_1_0 cx_1_1 cx_1_2 cx_1_3
          clear TF
          clear F
          obtain ⟨cx_2_0, cx_2_1, cx_2_2, cx_2_3⟩ := cells4s Rx_2
          go_wp2
          go_ret
          exact ⟨rfl, B2⟩
      · have eo : o = false := by cases o; rfl; exact absurd (ho2.1 rfl).2.1 d1
        subst eo
        rw [decide_eq_false d1] at e1
        clear ho2 d1 ez
        obtain ⟨Rx_0, B0⟩ := opn1 w (Obj.cells #[.bool false, .string ⟨#[]⟩, .string t, .int .i64 e] 41)
        go_enter Tryz.func145, Tryz.ntmps145
        go_wp2_with fail
        refine (n_check _ true H1.out _).mono ?_
        rintro r w' ⟨rfl, rfl⟩
        go_wp2_with fail
        refine (n_check t true H2.out _).mono ?_
        rintro r w' ⟨rfl, rfl⟩
        go_wp2_with fail
        refine (withinx e 1048576 true (by decide) (by decide) HG.out _).mono ?_
        rintro r w1 ⟨rfl, b1⟩
        have B1 : Below w.heap.size w w1 := btr B0 b1
        have Rx_1 := heap_of b1 _ _ _ Rx_0
        clear b1 B0 Rx_0
        obtain ⟨cx_1_0, cx_1_1, cx_1_2, cx_1_3⟩ := cells4s Rx_1
        go_wp2_with fail
        obtain ⟨F, hF1, hF2⟩ := below_fun w1
        have fx_0 := fun u => cells4 (heap_of (hF1 u) _ _ _ Rx_1) 0 _ rfl
        have fx_1 := fun u => cells4 (heap_of (hF1 u) _ _ _ Rx_1) 1 _ rfl
        have fx_2 := fun u => cells4 (heap_of (hF1 u) _ _ _ Rx_1) 2 _ rfl
        have fx_3 := fun u => cells4 (heap_of (hF1 u) _ _ _ Rx_1) 3 _ rfl
        have TF : Box (∀ u, TabAt (F u)) := box (fun u => tabB TT.out (btr B1 (hF1 u)))
        refine wp_region_below F hF2 (by kernel_rfl) (by kernel_rfl) ?_
        repeat first | go_big_quiet_step (first | (go_at_call 146; exact quietF hF1 hF2 (zerox _)) | (go_at_call 224; exact quietF hF1 hF2 (oddx 0 _ false HS.out LN.out OD.out _ (TF.out _))) | fail) | quiet_step (first | (go_at_call 146; exact quietF hF1 hF2 (zerox _)) | (go_at_call 224; exact quietF hF1 hF2 (oddx 0 _ false HS.out LN.out OD.out _ (TF.out _))) | fail)
        refine wpQuiet_nil ?_
        rintro _ ⟨uW, rfl⟩
        have B2 := btr B1 (hF1 uW)
        have Rx_2 := heap_of (hF1 uW) _ _ _ Rx_1
        obtain ⟨w2, hw⟩ : ∃ V, F uW = V := ⟨_, rfl⟩
        rw [hw] at B2 Rx_2
        try rw [hw]
        clear hw hF1 hF2 B1 fx_0 fx_1 fx_2 fx_3 Rx_1 cx_1_0 cx_1_1 cx_1_2 cx_1_3
        clear TF
        clear F
        obtain ⟨cx_2_0, cx_2_1, cx_2_2, cx_2_3⟩ := cells4s Rx_2
        go_wp2
        go_ret
        exact ⟨rfl, B2⟩
    · have eo : o = false := by cases o; rfl; exact absurd (ho2.1 rfl).1 (by decide)
      subst eo
      clear ho2 e1 ez
      obtain ⟨Rx_0, B0⟩ := opn1 w (Obj.cells #[.bool true, .string ⟨#[]⟩, .string t, .int .i64 e] 41)
      go_enter Tryz.func145, Tryz.ntmps145
      go_wp2_with fail
      refine (n_check _ true H1.out _).mono ?_
      rintro r w' ⟨rfl, rfl⟩
      go_wp2_with fail
      refine (n_check t true H2.out _).mono ?_
      rintro r w' ⟨rfl, rfl⟩
      go_wp2_with fail
      refine (withinx e 1048576 true (by decide) (by decide) HG.out _).mono ?_
      rintro r w1 ⟨rfl, b1⟩
      have B1 : Below w.heap.size w w1 := btr B0 b1
      have Rx_1 := heap_of b1 _ _ _ Rx_0
      clear b1 B0 Rx_0
      obtain ⟨cx_1_0, cx_1_1, cx_1_2, cx_1_3⟩ := cells4s Rx_1
      go_wp2_with fail
      obtain ⟨F, hF1, hF2⟩ := below_fun w1
      have fx_0 := fun u => cells4 (heap_of (hF1 u) _ _ _ Rx_1) 0 _ rfl
      have fx_1 := fun u => cells4 (heap_of (hF1 u) _ _ _ Rx_1) 1 _ rfl
      have fx_2 := fun u => cells4 (heap_of (hF1 u) _ _ _ Rx_1) 2 _ rfl
      have fx_3 := fun u => cells4 (heap_of (hF1 u) _ _ _ Rx_1) 3 _ rfl
      have TF : Box (∀ u, TabAt (F u)) := box (fun u => tabB TT.out (btr B1 (hF1 u)))
      refine wp_region_below F hF2 (by kernel_rfl) (by kernel_rfl) ?_
      repeat first | go_big_quiet_step (first | (go_at_call 146; exact quietF hF1 hF2 (zerox _)) | (go_at_call 224; exact quietF hF1 hF2 (oddx 0 _ false HS.out LN.out OD.out _ (TF.out _))) | fail) | quiet_step (first | (go_at_call 146; exact quietF hF1 hF2 (zerox _)) | (go_at_call 224; exact quietF hF1 hF2 (oddx 0 _ false HS.out LN.out OD.out _ (TF.out _))) | fail)
      refine wpQuiet_nil ?_
      rintro _ ⟨uW, rfl⟩
      have B2 := btr B1 (hF1 uW)
      have Rx_2 := heap_of (hF1 uW) _ _ _ Rx_1
      obtain ⟨w2, hw⟩ : ∃ V, F uW = V := ⟨_, rfl⟩
      rw [hw] at B2 Rx_2
      try rw [hw]
      clear hw hF1 hF2 B1 fx_0 fx_1 fx_2 fx_3 Rx_1 cx_1_0 cx_1_1 cx_1_2 cx_1_3
      clear TF
      clear F
      obtain ⟨cx_2_0, cx_2_1, cx_2_2, cx_2_3⟩ := cells4s Rx_2
      go_wp2
      go_ret
      exact ⟨rfl, B2⟩
  · have e0 := eq_nil n s hs h0
    have ho2 : o = true ↔ (n % 2 = 1 ∧ d % 2 = 1 ∧ Nat.gcd n d = 1) := by
      rw [ho]
      constructor
      · rintro ⟨_, _, h | h⟩
        · exact absurd h.2.1 h0
        · exact h
      · intro h
        exact ⟨hr.1, hr.2, Or.inr h⟩
    obtain ⟨p, hp⟩ : ∃ p, decide (n % 2 = 1) = p := ⟨_, rfl⟩
    obtain ⟨q, hq⟩ : ∃ p, decide (d % 2 = 1) = p := ⟨_, rfl⟩
    have HP := box hp
    have HQ := box hq
    clear ho hs ht ln ld hr h0
    cases p
    · have eo : o = false := by cases o; rfl; rw [decide_eq_true (ho2.1 rfl).1] at hp; exact hp
      subst eo
      clear ho2 hp hq
      cases b
      · obtain ⟨Rx_0, B0⟩ := opn1 w (Obj.cells #[.bool false, .string s, .string t, .int .i64 e] 41)
        go_enter Tryz.func145, Tryz.ntmps145
        go_wp2_with fail
        refine (n_check _ true H1.out _).mono ?_
        rintro r w' ⟨rfl, rfl⟩
        go_wp2_with fail
        refine (n_check t true H2.out _).mono ?_
        rintro r w' ⟨rfl, rfl⟩
        go_wp2_with fail
        refine (withinx e 1048576 true (by decide) (by decide) HG.out _).mono ?_
        rintro r w1 ⟨rfl, b1⟩
        have B1 : Below w.heap.size w w1 := btr B0 b1
        have Rx_1 := heap_of b1 _ _ _ Rx_0
        clear b1 B0 Rx_0
        obtain ⟨cx_1_0, cx_1_1, cx_1_2, cx_1_3⟩ := cells4s Rx_1
        go_wp2_with fail
        obtain ⟨F, hF1, hF2⟩ := below_fun w1
        have fx_0 := fun u => cells4 (heap_of (hF1 u) _ _ _ Rx_1) 0 _ rfl
        have fx_1 := fun u => cells4 (heap_of (hF1 u) _ _ _ Rx_1) 1 _ rfl
        have fx_2 := fun u => cells4 (heap_of (hF1 u) _ _ _ Rx_1) 2 _ rfl
        have fx_3 := fun u => cells4 (heap_of (hF1 u) _ _ _ Rx_1) 3 _ rfl
        have TF : Box (∀ u, TabAt (F u)) := box (fun u => tabB TT.out (btr B1 (hF1 u)))
        refine wp_region_below F hF2 (by kernel_rfl) (by kernel_rfl) ?_
        repeat first | go_big_quiet_step (first | (go_at_call 146; exact quietF hF1 hF2 (zerox _)) | (go_at_call_of 224 (Value.string s); exact quietF hF1 hF2 (oddx n s false HS.out LN.out HP.out _ (TF.out _))) | fail) | quiet_step (first | (go_at_call 146; exact quietF hF1 hF2 (zerox _)) | (go_at_call_of 224 (Value.string s); exact quietF hF1 hF2 (oddx n s false HS.out LN.out HP.out _ (TF.out _))) | fail)
        refine wpQuiet_nil ?_
        rintro _ ⟨uW, rfl⟩
        have B2 := btr B1 (hF1 uW)
        have Rx_2 := heap_of (hF1 uW) _ _ _ Rx_1
        obtain ⟨w2, hw⟩ : ∃ V, F uW = V := ⟨_, rfl⟩
        rw [hw] at B2 Rx_2
        try rw [hw]
        clear hw hF1 hF2 B1 fx_0 fx_1 fx_2 fx_3 Rx_1 cx_1_0 cx_1_1 cx_1_2 cx_1_3
        clear TF
        clear F
        obtain ⟨cx_2_0, cx_2_1, cx_2_2, cx_2_3⟩ := cells4s Rx_2
        go_wp2
        go_ret
        exact ⟨rfl, B2⟩
      · obtain ⟨Rx_0, B0⟩ := opn1 w (Obj.cells #[.bool true, .string s, .string t, .int .i64 e] 41)
        go_enter Tryz.func145, Tryz.ntmps145
        go_wp2_with fail
        refine (n_check _ true H1.out _).mono ?_
        rintro r w' ⟨rfl, rfl⟩
        go_wp2_with fail
        refine (n_check t true H2.out _).mono ?_
        rintro r w' ⟨rfl, rfl⟩
        go_wp2_with fail
        refine (withinx e 1048576 true (by decide) (by decide) HG.out _).mono ?_
        rintro r w1 ⟨rfl, b1⟩
        have B1 : Below w.heap.size w w1 := btr B0 b1
        have Rx_1 := heap_of b1 _ _ _ Rx_0
        clear b1 B0 Rx_0
        obtain ⟨cx_1_0, cx_1_1, cx_1_2, cx_1_3⟩ := cells4s Rx_1
        go_wp2_with fail
        obtain ⟨F, hF1, hF2⟩ := below_fun w1
        have fx_0 := fun u => cells4 (heap_of (hF1 u) _ _ _ Rx_1) 0 _ rfl
        have fx_1 := fun u => cells4 (heap_of (hF1 u) _ _ _ Rx_1) 1 _ rfl
        have fx_2 := fun u => cells4 (heap_of (hF1 u) _ _ _ Rx_1) 2 _ rfl
        have fx_3 := fun u => cells4 (heap_of (hF1 u) _ _ _ Rx_1) 3 _ rfl
        have TF : Box (∀ u, TabAt (F u)) := box (fun u => tabB TT.out (btr B1 (hF1 u)))
        refine wp_region_below F hF2 (by kernel_rfl) (by kernel_rfl) ?_
        repeat first | go_big_quiet_step (first | (go_at_call 146; exact quietF hF1 hF2 (zerox _)) | (go_at_call_of 224 (Value.string s); exact quietF hF1 hF2 (oddx n s false HS.out LN.out HP.out _ (TF.out _))) | fail) | quiet_step (first | (go_at_call 146; exact quietF hF1 hF2 (zerox _)) | (go_at_call_of 224 (Value.string s); exact quietF hF1 hF2 (oddx n s false HS.out LN.out HP.out _ (TF.out _))) | fail)
        refine wpQuiet_nil ?_
        rintro _ ⟨uW, rfl⟩
        have B2 := btr B1 (hF1 uW)
        have Rx_2 := heap_of (hF1 uW) _ _ _ Rx_1
        obtain ⟨w2, hw⟩ : ∃ V, F uW = V := ⟨_, rfl⟩
        rw [hw] at B2 Rx_2
        try rw [hw]
        clear hw hF1 hF2 B1 fx_0 fx_1 fx_2 fx_3 Rx_1 cx_1_0 cx_1_1 cx_1_2 cx_1_3
        clear TF
        clear F
        obtain ⟨cx_2_0, cx_2_1, cx_2_2, cx_2_3⟩ := cells4s Rx_2
        go_wp2
        go_ret
        exact ⟨rfl, B2⟩
    cases q
    · have eo : o = false := by cases o; rfl; rw [decide_eq_true (ho2.1 rfl).2.1] at hq; exact hq
      subst eo
      clear ho2 hp hq
      cases b
      · obtain ⟨Rx_0, B0⟩ := opn1 w (Obj.cells #[.bool false, .string s, .string t, .int .i64 e] 41)
        go_enter Tryz.func145, Tryz.ntmps145
        go_wp2_with fail
        refine (n_check _ true H1.out _).mono ?_
        rintro r w' ⟨rfl, rfl⟩
        go_wp2_with fail
        refine (n_check t true H2.out _).mono ?_
        rintro r w' ⟨rfl, rfl⟩
        go_wp2_with fail
        refine (withinx e 1048576 true (by decide) (by decide) HG.out _).mono ?_
        rintro r w1 ⟨rfl, b1⟩
        have B1 : Below w.heap.size w w1 := btr B0 b1
        have Rx_1 := heap_of b1 _ _ _ Rx_0
        clear b1 B0 Rx_0
        obtain ⟨cx_1_0, cx_1_1, cx_1_2, cx_1_3⟩ := cells4s Rx_1
        go_wp2_with fail
        obtain ⟨F, hF1, hF2⟩ := below_fun w1
        have fx_0 := fun u => cells4 (heap_of (hF1 u) _ _ _ Rx_1) 0 _ rfl
        have fx_1 := fun u => cells4 (heap_of (hF1 u) _ _ _ Rx_1) 1 _ rfl
        have fx_2 := fun u => cells4 (heap_of (hF1 u) _ _ _ Rx_1) 2 _ rfl
        have fx_3 := fun u => cells4 (heap_of (hF1 u) _ _ _ Rx_1) 3 _ rfl
        have TF : Box (∀ u, TabAt (F u)) := box (fun u => tabB TT.out (btr B1 (hF1 u)))
        refine wp_region_below F hF2 (by kernel_rfl) (by kernel_rfl) ?_
        repeat first | go_big_quiet_step (first | (go_at_call 146; exact quietF hF1 hF2 (zerox _)) | (go_at_call_of 224 (Value.string s); exact quietF hF1 hF2 (oddx n s true HS.out LN.out HP.out _ (TF.out _))) | (go_at_call_of 224 (Value.string t); exact quietF hF1 hF2 (oddx d t false HT.out LD.out HQ.out _ (TF.out _))) | fail) | quiet_step (first | (go_at_call 146; exact quietF hF1 hF2 (zerox _)) | (go_at_call_of 224 (Value.string s); exact quietF hF1 hF2 (oddx n s true HS.out LN.out HP.out _ (TF.out _))) | (go_at_call_of 224 (Value.string t); exact quietF hF1 hF2 (oddx d t false HT.out LD.out HQ.out _ (TF.out _))) | fail)
        refine wpQuiet_nil ?_
        rintro _ ⟨uW, rfl⟩
        have B2 := btr B1 (hF1 uW)
        have Rx_2 := heap_of (hF1 uW) _ _ _ Rx_1
        obtain ⟨w2, hw⟩ : ∃ V, F uW = V := ⟨_, rfl⟩
        rw [hw] at B2 Rx_2
        try rw [hw]
        clear hw hF1 hF2 B1 fx_0 fx_1 fx_2 fx_3 Rx_1 cx_1_0 cx_1_1 cx_1_2 cx_1_3
        clear TF
        clear F
        obtain ⟨cx_2_0, cx_2_1, cx_2_2, cx_2_3⟩ := cells4s Rx_2
        go_wp2
        go_ret
        exact ⟨rfl, B2⟩
      · obtain ⟨Rx_0, B0⟩ := opn1 w (Obj.cells #[.bool true, .string s, .string t, .int .i64 e] 41)
        go_enter Tryz.func145, Tryz.ntmps145
        go_wp2_with fail
        refine (n_check _ true H1.out _).mono ?_
        rintro r w' ⟨rfl, rfl⟩
        go_wp2_with fail
        refine (n_check t true H2.out _).mono ?_
        rintro r w' ⟨rfl, rfl⟩
        go_wp2_with fail
        refine (withinx e 1048576 true (by decide) (by decide) HG.out _).mono ?_
        rintro r w1 ⟨rfl, b1⟩
        have B1 : Below w.heap.size w w1 := btr B0 b1
        have Rx_1 := heap_of b1 _ _ _ Rx_0
        clear b1 B0 Rx_0
        obtain ⟨cx_1_0, cx_1_1, cx_1_2, cx_1_3⟩ := cells4s Rx_1
        go_wp2_with fail
        obtain ⟨F, hF1, hF2⟩ := below_fun w1
        have fx_0 := fun u => cells4 (heap_of (hF1 u) _ _ _ Rx_1) 0 _ rfl
        have fx_1 := fun u => cells4 (heap_of (hF1 u) _ _ _ Rx_1) 1 _ rfl
        have fx_2 := fun u => cells4 (heap_of (hF1 u) _ _ _ Rx_1) 2 _ rfl
        have fx_3 := fun u => cells4 (heap_of (hF1 u) _ _ _ Rx_1) 3 _ rfl
        have TF : Box (∀ u, TabAt (F u)) := box (fun u => tabB TT.out (btr B1 (hF1 u)))
        refine wp_region_below F hF2 (by kernel_rfl) (by kernel_rfl) ?_
        repeat first | go_big_quiet_step (first | (go_at_call 146; exact quietF hF1 hF2 (zerox _)) | (go_at_call_of 224 (Value.string s); exact quietF hF1 hF2 (oddx n s true HS.out LN.out HP.out _ (TF.out _))) | (go_at_call_of 224 (Value.string t); exact quietF hF1 hF2 (oddx d t false HT.out LD.out HQ.out _ (TF.out _))) | fail) | quiet_step (first | (go_at_call 146; exact quietF hF1 hF2 (zerox _)) | (go_at_call_of 224 (Value.string s); exact quietF hF1 hF2 (oddx n s true HS.out LN.out HP.out _ (TF.out _))) | (go_at_call_of 224 (Value.string t); exact quietF hF1 hF2 (oddx d t false HT.out LD.out HQ.out _ (TF.out _))) | fail)
        refine wpQuiet_nil ?_
        rintro _ ⟨uW, rfl⟩
        have B2 := btr B1 (hF1 uW)
        have Rx_2 := heap_of (hF1 uW) _ _ _ Rx_1
        obtain ⟨w2, hw⟩ : ∃ V, F uW = V := ⟨_, rfl⟩
        rw [hw] at B2 Rx_2
        try rw [hw]
        clear hw hF1 hF2 B1 fx_0 fx_1 fx_2 fx_3 Rx_1 cx_1_0 cx_1_1 cx_1_2 cx_1_3
        clear TF
        clear F
        obtain ⟨cx_2_0, cx_2_1, cx_2_2, cx_2_3⟩ := cells4s Rx_2
        go_wp2
        go_ret
        exact ⟨rfl, B2⟩
    · have eo : decide (Nat.gcd n d = 1) = o := by
        rw [Bool.eq_iff_iff, ho2, decide_eq_true_iff]
        exact ⟨fun h => ⟨of_decide_eq_true hp, of_decide_eq_true hq, h⟩, fun h => h.2.2⟩
      have HO := box eo
      clear ho2 hp hq eo
      cases b
      · cases o
        · obtain ⟨Rx_0, B0⟩ := opn1 w (Obj.cells #[.bool false, .string s, .string t, .int .i64 e] 41)
          go_enter Tryz.func145, Tryz.ntmps145
          go_wp2_with fail
          refine (n_check _ true H1.out _).mono ?_
          rintro r w' ⟨rfl, rfl⟩
          go_wp2_with fail
          refine (n_check t true H2.out _).mono ?_
          rintro r w' ⟨rfl, rfl⟩
          go_wp2_with fail
          refine (withinx e 1048576 true (by decide) (by decide) HG.out _).mono ?_
          rintro r w1 ⟨rfl, b1⟩
          have B1 : Below w.heap.size w w1 := btr B0 b1
          have Rx_1 := heap_of b1 _ _ _ Rx_0
          clear b1 B0 Rx_0
          obtain ⟨cx_1_0, cx_1_1, cx_1_2, cx_1_3⟩ := cells4s Rx_1
          go_wp2_with fail
          obtain ⟨F, hF1, hF2⟩ := below_fun w1
          have fx_0 := fun u => cells4 (heap_of (hF1 u) _ _ _ Rx_1) 0 _ rfl
          have fx_1 := fun u => cells4 (heap_of (hF1 u) _ _ _ Rx_1) 1 _ rfl
          have fx_2 := fun u => cells4 (heap_of (hF1 u) _ _ _ Rx_1) 2 _ rfl
          have fx_3 := fun u => cells4 (heap_of (hF1 u) _ _ _ Rx_1) 3 _ rfl
          have TF : Box (∀ u, TabAt (F u)) := box (fun u => tabB TT.out (btr B1 (hF1 u)))
          refine wp_region_below F hF2 (by kernel_rfl) (by kernel_rfl) ?_
          repeat first | go_big_quiet_step (first | (go_at_call 146; exact quietF hF1 hF2 (zerox _)) | (go_at_call_of 224 (Value.string s); exact quietF hF1 hF2 (oddx n s true HS.out LN.out HP.out _ (TF.out _))) | (go_at_call_of 224 (Value.string t); exact quietF hF1 hF2 (oddx d t true HT.out LD.out HQ.out _ (TF.out _))) | (go_at_call 225; exact quietF hF1 hF2 (apartx n d s t false HS.out HT.out LN.out LD.out HO.out _)) | fail) | quiet_step (first | (go_at_call 146; exact quietF hF1 hF2 (zerox _)) | (go_at_call_of 224 (Value.string s); exact quietF hF1 hF2 (oddx n s true HS.out LN.out HP.out _ (TF.out _))) | (go_at_call_of 224 (Value.string t); exact quietF hF1 hF2 (oddx d t true HT.out LD.out HQ.out _ (TF.out _))) | (go_at_call 225; exact quietF hF1 hF2 (apartx n d s t false HS.out HT.out LN.out LD.out HO.out _)) | fail)
          refine wpQuiet_nil ?_
          rintro _ ⟨uW, rfl⟩
          have B2 := btr B1 (hF1 uW)
          have Rx_2 := heap_of (hF1 uW) _ _ _ Rx_1
          obtain ⟨w2, hw⟩ : ∃ V, F uW = V := ⟨_, rfl⟩
          rw [hw] at B2 Rx_2
          try rw [hw]
          clear hw hF1 hF2 B1 fx_0 fx_1 fx_2 fx_3 Rx_1 cx_1_0 cx_1_1 cx_1_2 cx_1_3
          clear TF
          clear F
          obtain ⟨cx_2_0, cx_2_1, cx_2_2, cx_2_3⟩ := cells4s Rx_2
          go_wp2
          go_ret
          exact ⟨rfl, B2⟩
        · obtain ⟨Rx_0, B0⟩ := opn1 w (Obj.cells #[.bool false, .string s, .string t, .int .i64 e] 41)
          go_enter Tryz.func145, Tryz.ntmps145
          go_wp2_with fail
          refine (n_check _ true H1.out _).mono ?_
          rintro r w' ⟨rfl, rfl⟩
          go_wp2_with fail
          refine (n_check t true H2.out _).mono ?_
          rintro r w' ⟨rfl, rfl⟩
          go_wp2_with fail
          refine (withinx e 1048576 true (by decide) (by decide) HG.out _).mono ?_
          rintro r w1 ⟨rfl, b1⟩
          have B1 : Below w.heap.size w w1 := btr B0 b1
          have Rx_1 := heap_of b1 _ _ _ Rx_0
          clear b1 B0 Rx_0
          obtain ⟨cx_1_0, cx_1_1, cx_1_2, cx_1_3⟩ := cells4s Rx_1
          go_wp2_with fail
          obtain ⟨F, hF1, hF2⟩ := below_fun w1
          have fx_0 := fun u => cells4 (heap_of (hF1 u) _ _ _ Rx_1) 0 _ rfl
          have fx_1 := fun u => cells4 (heap_of (hF1 u) _ _ _ Rx_1) 1 _ rfl
          have fx_2 := fun u => cells4 (heap_of (hF1 u) _ _ _ Rx_1) 2 _ rfl
          have fx_3 := fun u => cells4 (heap_of (hF1 u) _ _ _ Rx_1) 3 _ rfl
          have TF : Box (∀ u, TabAt (F u)) := box (fun u => tabB TT.out (btr B1 (hF1 u)))
          refine wp_region_below F hF2 (by kernel_rfl) (by kernel_rfl) ?_
          repeat first | go_big_quiet_step (first | (go_at_call 146; exact quietF hF1 hF2 (zerox _)) | (go_at_call_of 224 (Value.string s); exact quietF hF1 hF2 (oddx n s true HS.out LN.out HP.out _ (TF.out _))) | (go_at_call_of 224 (Value.string t); exact quietF hF1 hF2 (oddx d t true HT.out LD.out HQ.out _ (TF.out _))) | (go_at_call 225; exact quietF hF1 hF2 (apartx n d s t true HS.out HT.out LN.out LD.out HO.out _)) | fail) | quiet_step (first | (go_at_call 146; exact quietF hF1 hF2 (zerox _)) | (go_at_call_of 224 (Value.string s); exact quietF hF1 hF2 (oddx n s true HS.out LN.out HP.out _ (TF.out _))) | (go_at_call_of 224 (Value.string t); exact quietF hF1 hF2 (oddx d t true HT.out LD.out HQ.out _ (TF.out _))) | (go_at_call 225; exact quietF hF1 hF2 (apartx n d s t true HS.out HT.out LN.out LD.out HO.out _)) | fail)
          refine wpQuiet_nil ?_
          rintro _ ⟨uW, rfl⟩
          have B2 := btr B1 (hF1 uW)
          have Rx_2 := heap_of (hF1 uW) _ _ _ Rx_1
          obtain ⟨w2, hw⟩ : ∃ V, F uW = V := ⟨_, rfl⟩
          rw [hw] at B2 Rx_2
          try rw [hw]
          clear hw hF1 hF2 B1 fx_0 fx_1 fx_2 fx_3 Rx_1 cx_1_0 cx_1_1 cx_1_2 cx_1_3
          clear TF
          clear F
          obtain ⟨cx_2_0, cx_2_1, cx_2_2, cx_2_3⟩ := cells4s Rx_2
          go_wp2
          go_ret
          exact ⟨rfl, B2⟩
      · cases o
        · obtain ⟨Rx_0, B0⟩ := opn1 w (Obj.cells #[.bool true, .string s, .string t, .int .i64 e] 41)
          go_enter Tryz.func145, Tryz.ntmps145
          go_wp2_with fail
          refine (n_check _ true H1.out _).mono ?_
          rintro r w' ⟨rfl, rfl⟩
          go_wp2_with fail
          refine (n_check t true H2.out _).mono ?_
          rintro r w' ⟨rfl, rfl⟩
          go_wp2_with fail
          refine (withinx e 1048576 true (by decide) (by decide) HG.out _).mono ?_
          rintro r w1 ⟨rfl, b1⟩
          have B1 : Below w.heap.size w w1 := btr B0 b1
          have Rx_1 := heap_of b1 _ _ _ Rx_0
          clear b1 B0 Rx_0
          obtain ⟨cx_1_0, cx_1_1, cx_1_2, cx_1_3⟩ := cells4s Rx_1
          go_wp2_with fail
          obtain ⟨F, hF1, hF2⟩ := below_fun w1
          have fx_0 := fun u => cells4 (heap_of (hF1 u) _ _ _ Rx_1) 0 _ rfl
          have fx_1 := fun u => cells4 (heap_of (hF1 u) _ _ _ Rx_1) 1 _ rfl
          have fx_2 := fun u => cells4 (heap_of (hF1 u) _ _ _ Rx_1) 2 _ rfl
          have fx_3 := fun u => cells4 (heap_of (hF1 u) _ _ _ Rx_1) 3 _ rfl
          have TF : Box (∀ u, TabAt (F u)) := box (fun u => tabB TT.out (btr B1 (hF1 u)))
          refine wp_region_below F hF2 (by kernel_rfl) (by kernel_rfl) ?_
          repeat first | go_big_quiet_step (first | (go_at_call 146; exact quietF hF1 hF2 (zerox _)) | (go_at_call_of 224 (Value.string s); exact quietF hF1 hF2 (oddx n s true HS.out LN.out HP.out _ (TF.out _))) | (go_at_call_of 224 (Value.string t); exact quietF hF1 hF2 (oddx d t true HT.out LD.out HQ.out _ (TF.out _))) | (go_at_call 225; exact quietF hF1 hF2 (apartx n d s t false HS.out HT.out LN.out LD.out HO.out _)) | fail) | quiet_step (first | (go_at_call 146; exact quietF hF1 hF2 (zerox _)) | (go_at_call_of 224 (Value.string s); exact quietF hF1 hF2 (oddx n s true HS.out LN.out HP.out _ (TF.out _))) | (go_at_call_of 224 (Value.string t); exact quietF hF1 hF2 (oddx d t true HT.out LD.out HQ.out _ (TF.out _))) | (go_at_call 225; exact quietF hF1 hF2 (apartx n d s t false HS.out HT.out LN.out LD.out HO.out _)) | fail)
          refine wpQuiet_nil ?_
          rintro _ ⟨uW, rfl⟩
          have B2 := btr B1 (hF1 uW)
          have Rx_2 := heap_of (hF1 uW) _ _ _ Rx_1
          obtain ⟨w2, hw⟩ : ∃ V, F uW = V := ⟨_, rfl⟩
          rw [hw] at B2 Rx_2
          try rw [hw]
          clear hw hF1 hF2 B1 fx_0 fx_1 fx_2 fx_3 Rx_1 cx_1_0 cx_1_1 cx_1_2 cx_1_3
          clear TF
          clear F
          obtain ⟨cx_2_0, cx_2_1, cx_2_2, cx_2_3⟩ := cells4s Rx_2
          go_wp2
          go_ret
          exact ⟨rfl, B2⟩
        · obtain ⟨Rx_0, B0⟩ := opn1 w (Obj.cells #[.bool true, .string s, .string t, .int .i64 e] 41)
          go_enter Tryz.func145, Tryz.ntmps145
          go_wp2_with fail
          refine (n_check _ true H1.out _).mono ?_
          rintro r w' ⟨rfl, rfl⟩
          go_wp2_with fail
          refine (n_check t true H2.out _).mono ?_
          rintro r w' ⟨rfl, rfl⟩
          go_wp2_with fail
          refine (withinx e 1048576 true (by decide) (by decide) HG.out _).mono ?_
          rintro r w1 ⟨rfl, b1⟩
          have B1 : Below w.heap.size w w1 := btr B0 b1
          have Rx_1 := heap_of b1 _ _ _ Rx_0
          clear b1 B0 Rx_0
          obtain ⟨cx_1_0, cx_1_1, cx_1_2, cx_1_3⟩ := cells4s Rx_1
          go_wp2_with fail
          obtain ⟨F, hF1, hF2⟩ := below_fun w1
          have fx_0 := fun u => cells4 (heap_of (hF1 u) _ _ _ Rx_1) 0 _ rfl
          have fx_1 := fun u => cells4 (heap_of (hF1 u) _ _ _ Rx_1) 1 _ rfl
          have fx_2 := fun u => cells4 (heap_of (hF1 u) _ _ _ Rx_1) 2 _ rfl
          have fx_3 := fun u => cells4 (heap_of (hF1 u) _ _ _ Rx_1) 3 _ rfl
          have TF : Box (∀ u, TabAt (F u)) := box (fun u => tabB TT.out (btr B1 (hF1 u)))
          refine wp_region_below F hF2 (by kernel_rfl) (by kernel_rfl) ?_
          repeat first | go_big_quiet_step (first | (go_at_call 146; exact quietF hF1 hF2 (zerox _)) | (go_at_call_of 224 (Value.string s); exact quietF hF1 hF2 (oddx n s true HS.out LN.out HP.out _ (TF.out _))) | (go_at_call_of 224 (Value.string t); exact quietF hF1 hF2 (oddx d t true HT.out LD.out HQ.out _ (TF.out _))) | (go_at_call 225; exact quietF hF1 hF2 (apartx n d s t true HS.out HT.out LN.out LD.out HO.out _)) | fail) | quiet_step (first | (go_at_call 146; exact quietF hF1 hF2 (zerox _)) | (go_at_call_of 224 (Value.string s); exact quietF hF1 hF2 (oddx n s true HS.out LN.out HP.out _ (TF.out _))) | (go_at_call_of 224 (Value.string t); exact quietF hF1 hF2 (oddx d t true HT.out LD.out HQ.out _ (TF.out _))) | (go_at_call 225; exact quietF hF1 hF2 (apartx n d s t true HS.out HT.out LN.out LD.out HO.out _)) | fail)
          refine wpQuiet_nil ?_
          rintro _ ⟨uW, rfl⟩
          have B2 := btr B1 (hF1 uW)
          have Rx_2 := heap_of (hF1 uW) _ _ _ Rx_1
          obtain ⟨w2, hw⟩ : ∃ V, F uW = V := ⟨_, rfl⟩
          rw [hw] at B2 Rx_2
          try rw [hw]
          clear hw hF1 hF2 B1 fx_0 fx_1 fx_2 fx_3 Rx_1 cx_1_0 cx_1_1 cx_1_2 cx_1_3
          clear TF
          clear F
          obtain ⟨cx_2_0, cx_2_1, cx_2_2, cx_2_3⟩ := cells4s Rx_2
          go_wp2
          go_ret
          exact ⟨rfl, B2⟩

end Go.Proofs.YtfmmeifipbpbmaaGreatDoor
namespace Go.Proofs.YtfmmeifipbpbmaaGreatDoor
set_option maxRecDepth 100000
open Go.RowKit WMath XMath

set_option maxRecDepth 100000 in
set_option maxHeartbeats 4000000 in
theorem xmay1 (b : Bool) (s t : ByteArray) (e : Int) (o : Bool) (hm : IsM o b s t e) (T : TypeId) (w : World) (g : Nat) (hg : w.heap.size = g) (hT : TabAt w) :
    Calls Tryz.prog 66 #[.slice (some ⟨g, 0, none⟩) 1 1] (w.alloc (.cells #[.bool b, .string s, .string t, .int .i64 e] T)) fun r w' => r = .returned (.bool o) ∧ Below w.heap.size w w' := by
  obtain ⟨W, hW⟩ : ∃ W, w.alloc (.cells #[.bool b, .string s, .string t, .int .i64 e] T) = W := ⟨_, rfl⟩
  have row : W.heap[g]? = some (.cells #[.bool b, .string s, .string t, .int .i64 e] T) := by rw [← hW, ← hg]; exact heap_alloc_last _ _
  have B0 : Below w.heap.size w W := by rw [← hW]; exact bal _ _
  have TT : Box (TabAt W) := box (tabB hT B0)
  have ho : o = true ↔ MayX b s t e := hm
  have HO := box ho
  rw [hW]
  rw [hg] at B0 ⊢
  clear hW hT ho hm
  go_enter Tryz.func66, Tryz.ntmps66
  go_wp2
  go_loopw [7] (fun iv wr => (iv = .int .i64 0 ∧ wr = W) ∨ (iv = .int .i64 1 ∧ Below g w wr ∧ o = true)) (fun iv _ => 2 - (intOf iv).toNat)
  case atStart => exact Or.inl ⟨rfl, rfl⟩
  case round =>
    rcases hrel with ⟨rfl, rfl⟩ | ⟨rfl, bw, rfl⟩
    · have c0 := cells4 row 0 _ rfl
      have c1 := cells4 row 1 _ rfl
      have c2 := cells4 row 2 _ rfl
      have c3 := cells4 row 3 _ rfl
      have TA : Box (TabAt (wr.alloc (.cells #[.bool b, .string s, .string t, .int .i64 e] 41))) := box (tabA TT.out _)
      have BA : Below g w (wr.alloc (.cells #[.bool b, .string s, .string t, .int .i64 e] 41)) := by subst hg; exact btr B0 (bal _ _)
      clear row
      cases o
      · go_wp2_with fail
        refine (xcheck b s t e false (by first | exact HO.out | simpa using HO.out) _ TA.out).mono ?_
        rintro r w1 ⟨rfl, b1⟩
        go_wp2
        go_ret
        exact ⟨rfl, by subst hg; exact btr BA b1⟩
      · go_wp2_with fail
        refine (xcheck b s t e true (by first | exact HO.out | simpa using HO.out) _ TA.out).mono ?_
        rintro r w1 ⟨rfl, b1⟩
        go_wp2
        go_roundw
        case rel => exact Or.inr ⟨by go_num, by subst hg; exact btr BA b1, by trivial⟩
        case measure => simp [intOf]
    · go_wp2
      go_ret
      exact ⟨rfl, bw⟩

theorem cut_same {G C : Prop} (h : G → C) (k : G) : C := h k
theorem tabD {w : World} (h : TabAt w) : TabAt w.drew := h
theorem xmay1d (b : Bool) (s t : ByteArray) (e : Int) (o : Bool) (hm : IsM o b s t e) (T : TypeId) (w : World) (g : Nat) (hg : w.heap.size = g) (hT : TabAt w) :
    Calls Tryz.prog 66 #[.slice (some ⟨g, 0, none⟩) 1 1] (w.alloc (.cells #[.bool b, .string s, .string t, .int .i64 e] T)).drew fun r w' => r = .returned (.bool o) ∧ Below w.heap.size w w' :=
  (xmay1 b s t e o hm T w.drew g hg (tabD hT)).mono fun _ _ ⟨h1, h2⟩ => ⟨h1, ((Below.refl w.heap.size w).drew).trans h2⟩
theorem xcheckM (b : Bool) (s t : ByteArray) (e : Int) (o : Bool) (ho : IsM o b s t e) (c : Int) (hc : (if o then 0 else 2) = c) (w : World) (hT : TabAt w) : Calls Tryz.prog 145 #[.agg #[.bool b, .string s, .string t, .int .i64 e]] w fun r w' => r = .returned (.int .i64 c) ∧ Below w.heap.size w w' := by
  subst hc
  exact xcheck b s t e o ho w hT
end Go.Proofs.YtfmmeifipbpbmaaGreatDoor
