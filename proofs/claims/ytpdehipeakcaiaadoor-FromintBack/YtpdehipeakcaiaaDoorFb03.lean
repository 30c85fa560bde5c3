/-
  What the functions that the statement reaches return: part 3 (Xmath, X1, S1, S2, S3, S4, S5, S6).
-/
import Derived.Lib.MinMax
import Derived.Test.YtpdehipeakcaiaaDoorFb02
namespace Go.Proofs.YtpdehipeakcaiaaDoor.XMath
set_option maxRecDepth 100000
set_option maxHeartbeats 40000000
set_option maxRecDepth 100000
open WMath
def tz (n : Nat) : Nat := if h : n = 0 ∨ n % 2 = 1 then 0 else tz (n / 2) + 1
termination_by n
decreasing_by omega
theorem tz_odd (n : Nat) (h : n % 2 = 1) : tz n = 0 := by rw [tz, dif_pos (Or.inr h)]
theorem tz_even (n : Nat) (h0 : n ≠ 0) (h : n % 2 = 0) : tz n = tz (n / 2) + 1 := by rw [tz, dif_neg (by omega)]
theorem tz_is (n : Nat) (h : n ≠ 0) : ∃ m, n = m * 2 ^ tz n ∧ m % 2 = 1 := by
  induction n using Nat.strongRecOn with
  | _ n ih =>
    by_cases h1 : n % 2 = 1
    · exact ⟨n, by rw [tz_odd n h1, Nat.pow_zero, Nat.mul_one], h1⟩
    · obtain ⟨m, hm, ho⟩ := ih (n / 2) (by omega) (by omega)
      refine ⟨m, ?_, ho⟩
      rw [tz_even n h (by omega), Nat.pow_succ, ← Nat.mul_assoc, ← hm]
      omega
def od (n : Nat) : Nat := n / 2 ^ tz n
theorem od_is (n : Nat) (h : n ≠ 0) : n = od n * 2 ^ tz n ∧ od n % 2 = 1 := by
  obtain ⟨m, hm, ho⟩ := tz_is n h
  have e : od n = m := by
    unfold od
    generalize tz n = k at hm ⊢
    rw [hm]
    exact Nat.mul_div_cancel _ (Nat.two_pow_pos _)
  rw [e]
  exact ⟨hm, ho⟩
theorem od_odd (n : Nat) (h : n % 2 = 1) : od n = n := by unfold od; rw [tz_odd n h, Nat.pow_zero, Nat.div_one]
theorem od_le (n : Nat) : od n ≤ n := Nat.div_le_self _ _
theorem tz_blen (n : Nat) : tz n ≤ blen n := by
  by_cases h : n = 0
  · rw [h, tz, dif_pos (Or.inl rfl)]; omega
  · obtain ⟨h1, h2⟩ := od_is n h
    have h3 : 2 ^ tz n ≤ n := by
      generalize tz n = k at h1 ⊢
      rw [h1]
      exact Nat.le_mul_of_pos_left _ (by omega)
    have h4 := blen_lt n
    exact Nat.le_of_lt ((Nat.pow_lt_pow_iff_right (by decide : 1 < 2)).1 (Nat.lt_of_le_of_lt h3 h4))

structure XN where
  b : Bool
  n : Nat
  d : Nat
  e : Int
def XN.can (x : XN) : Prop := nl x.n ≤ 16384 ∧ nl x.d ≤ 16384 ∧ -1048576 ≤ x.e ∧ x.e ≤ 1048576 ∧ ((x.b = false ∧ x.n = 0 ∧ x.d = 1 ∧ x.e = 0) ∨ (x.n % 2 = 1 ∧ x.d % 2 = 1 ∧ Nat.gcd x.n x.d = 1))
def sgn (b : Bool) : Rat := if b then -1 else 1
def XN.val (x : XN) : Rat := sgn x.b * ((x.n : Rat) / (x.d : Rat)) * (2 : Rat) ^ x.e
def X0 : XN := ⟨false, 0, 1, 0⟩
def XZ : XN := ⟨false, 0, 0, 0⟩
theorem XN.can.d {x : XN} (h : x.can) : x.d % 2 = 1 := by rcases h.2.2.2.2 with h | h <;> omega
theorem XN.can.d0 {x : XN} (h : x.can) : x.d ≠ 0 := by have := h.d; omega
theorem XN.can.null {x : XN} (h : x.can) (h0 : x.n = 0) : x = X0 := by
  rcases h.2.2.2.2 with h | h
  · cases x; simp_all [X0]
  · omega
theorem XN.can.odd {x : XN} (h : x.can) (h0 : x.n ≠ 0) : x.n % 2 = 1 ∧ x.d % 2 = 1 ∧ Nat.gcd x.n x.d = 1 := by
  rcases h.2.2.2.2 with h | h
  · exact absurd h.2.1 h0
  · exact h
theorem x0_can : X0.can := ⟨Nat.le_trans (nl_mono 0 1 (by decide)) (Nat.le_trans (nl_le_of 1 1 (by decide)) (by decide)), Nat.le_trans (nl_le_of 1 1 (by decide)) (by decide), by decide, by decide, Or.inl ⟨rfl, rfl, rfl, rfl⟩⟩

def mk (neg : Bool) (n d : Nat) (e : Int) : XN × Int :=
  if n = 0 then (X0, 0)
  else if -1048576 ≤ e + (tz n : Int) - (tz d : Int) ∧ e + (tz n : Int) - (tz d : Int) ≤ 1048576 then (⟨neg, od n / Nat.gcd (od n) (od d), od d / Nat.gcd (od n) (od d), e + (tz n : Int) - (tz d : Int)⟩, 0)
  else (XZ, 4)
theorem mk_null (neg : Bool) (d : Nat) (e : Int) : mk neg 0 d e = (X0, 0) := by unfold mk; rw [if_pos rfl]
theorem div_odd (a g : Nat) (h : g ∣ a) (ha : a % 2 = 1) : a / g % 2 = 1 := by
  obtain ⟨k, rfl⟩ := h
  have g0 : 0 < g := by
    rcases Nat.eq_zero_or_pos g with h | h
    · rw [h, Nat.zero_mul] at ha; omega
    · exact h
  rw [Nat.mul_div_cancel_left _ g0]
  rcases Nat.mod_two_eq_zero_or_one k with h | h
  · rw [Nat.mul_mod, h, Nat.mul_zero] at ha; omega
  · exact h
theorem mul_odd (a b : Nat) (ha : a % 2 = 1) (hb : b % 2 = 1) : a * b % 2 = 1 := by rw [Nat.mul_mod, ha, hb]
theorem mk_can (neg : Bool) (n d : Nat) (e : Int) (hn : nl n ≤ 16384) (hd : nl d ≤ 16384) (d0 : d ≠ 0) (h : (mk neg n d e).2 = 0) : (mk neg n d e).1.can := by
  unfold mk at h ⊢
  split
  · exact x0_can
  · rename_i n0
    rw [if_neg n0] at h
    split
    · rename_i hb
      obtain ⟨h1, h2⟩ := od_is n n0
      obtain ⟨h3, h4⟩ := od_is d d0
      have g1 := Nat.gcd_dvd_left (od n) (od d)
      have g2 := Nat.gcd_dvd_right (od n) (od d)
      refine ⟨Nat.le_trans (nl_mono _ _ (Nat.le_trans (Nat.div_le_self _ _) (od_le n))) hn, Nat.le_trans (nl_mono _ _ (Nat.le_trans (Nat.div_le_self _ _) (od_le d))) hd, hb.1, hb.2, Or.inr ⟨div_odd _ _ g1 h2, div_odd _ _ g2 h4, ?_⟩⟩
      show Nat.gcd (od n / Nat.gcd (od n) (od d)) (od d / Nat.gcd (od n) (od d)) = 1
      rw [Nat.gcd_div g1 g2]
      exact Nat.div_self (Nat.gcd_pos_of_pos_left _ (by omega))
    · rename_i hb
      rw [if_neg hb] at h
      exact absurd h (by decide)
theorem p2 (e : Int) : (0 : Rat) < (2 : Rat) ^ e := Rat.zpow_pos (by decide)
theorem p2ne (e : Int) : (2 : Rat) ^ e ≠ 0 := Rat.ne_of_gt (p2 e)
theorem p2add (e f : Int) : (2 : Rat) ^ (e + f) = (2 : Rat) ^ e * (2 : Rat) ^ f := Rat.zpow_add (by decide) e f
theorem p2nat (n : Nat) : (2 : Rat) ^ (n : Int) = ((2 ^ n : Nat) : Rat) := by rw [Rat.zpow_natCast, Rat.natCast_pow]; rfl
theorem p2sub (e f : Int) : (2 : Rat) ^ (e - f) * (2 : Rat) ^ f = (2 : Rat) ^ e := by rw [← p2add, Int.sub_add_cancel]
theorem mk_val (neg : Bool) (n d : Nat) (e : Int) (d0 : d ≠ 0) (h : (mk neg n d e).2 = 0) : (mk neg n d e).1.val = sgn neg * ((n : Rat) / (d : Rat)) * (2 : Rat) ^ e := by
  unfold mk at h ⊢
  split
  · rename_i n0
    rw [n0]
    show sgn false * (((0 : Nat) : Rat) / ((1 : Nat) : Rat)) * (2 : Rat) ^ (0 : Int) = sgn neg * (((0 : Nat) : Rat) / (d : Rat)) * (2 : Rat) ^ e
    have : ((0 : Nat) : Rat) = 0 := rfl
    rw [this]
    simp [Rat.div_def]
  · rename_i n0
    rw [if_neg n0] at h
    split
    · rename_i hb
      obtain ⟨h1, h2⟩ := od_is n n0
      obtain ⟨h3, h4⟩ := od_is d d0
      obtain ⟨n', e1⟩ := Nat.gcd_dvd_left (od n) (od d)
      obtain ⟨d', e2⟩ := Nat.gcd_dvd_right (od n) (od d)
      have g0 : 0 < Nat.gcd (od n) (od d) := Nat.gcd_pos_of_pos_left _ (by omega)
      show sgn neg * (((od n / Nat.gcd (od n) (od d) : Nat) : Rat) / ((od d / Nat.gcd (od n) (od d) : Nat) : Rat)) * (2 : Rat) ^ (e + (tz n : Int) - (tz d : Int)) = _
      generalize Nat.gcd (od n) (od d) = g at *
      have c1 : od n / g = n' := by rw [e1]; exact Nat.mul_div_cancel_left _ g0
      have c2 : od d / g = d' := by rw [e2]; exact Nat.mul_div_cancel_left _ g0
      rw [c1, c2]
      have d'0 : d' ≠ 0 := by
        intro hz
        rw [hz, Nat.mul_zero] at e2
        omega
      rw [e1] at h1
      rw [e2] at h3
      have k1 : (n : Rat) = (g : Rat) * (n' : Rat) * (2 : Rat) ^ (tz n : Int) := by
        rw [p2nat, ← Rat.natCast_mul, ← Rat.natCast_mul, ← h1]
      have k2 : (d : Rat) = (g : Rat) * (d' : Rat) * (2 : Rat) ^ (tz d : Int) := by
        rw [p2nat, ← Rat.natCast_mul, ← Rat.natCast_mul, ← h3]
      have k3 := p2sub (e + (tz n : Int)) (tz d : Int)
      rw [p2add e] at k3
      have z1 := p2ne (tz d : Int)
      have z2 : (g : Rat) ≠ 0 := fun h => by rw [Rat.natCast_eq_zero_iff] at h; omega
      have z3 : (d' : Rat) ≠ 0 := fun h => d'0 (Rat.natCast_eq_zero_iff.1 h)
      rw [k1, k2]
      generalize (2 : Rat) ^ (e + (tz n : Int) - (tz d : Int)) = E at *
      generalize (2 : Rat) ^ (tz d : Int) = D at *
      generalize (2 : Rat) ^ (tz n : Int) = N at *
      generalize (2 : Rat) ^ e = F at *
      grind
    · rename_i hb
      rw [if_neg hb] at h
      exact absurd h (by decide)

theorem cast_ne {n : Nat} (h : n ≠ 0) : (n : Rat) ≠ 0 := fun e => h (Rat.natCast_eq_zero_iff.1 e)
theorem cast_pos {n : Nat} (h : n ≠ 0) : (0 : Rat) < (n : Rat) := Rat.natCast_pos.2 (by omega)
theorem sgn_ne (b : Bool) : sgn b ≠ 0 := by cases b <;> decide
def XN.mag (x : XN) : Rat := ((x.n : Rat) / (x.d : Rat)) * (2 : Rat) ^ x.e
theorem val_mag (x : XN) : x.val = sgn x.b * x.mag := by unfold XN.val XN.mag; rw [Rat.mul_assoc]
theorem mag_pos (x : XN) (hn : x.n ≠ 0) (hd : x.d ≠ 0) : 0 < x.mag := by
  unfold XN.mag
  rw [Rat.div_def]
  exact Rat.mul_pos (Rat.mul_pos (cast_pos hn) (Rat.inv_pos.2 (cast_pos hd))) (p2 _)
theorem mag_zero (x : XN) (hn : x.n = 0) : x.mag = 0 := by
  unfold XN.mag
  rw [hn]
  have : ((0 : Nat) : Rat) = 0 := rfl
  rw [this, Rat.div_def, Rat.zero_mul, Rat.zero_mul]
theorem mag_shift (x y : XN) (dx : x.d ≠ 0) (m : Int) (hm : m ≤ x.e) :
    x.mag * ((x.d * y.d : Nat) : Rat) = ((x.n * y.d * 2 ^ (x.e - m).toNat : Nat) : Rat) * (2 : Rat) ^ m := by
  have e1 : (2 : Rat) ^ x.e = (2 : Rat) ^ ((x.e - m).toNat : Int) * (2 : Rat) ^ m := by
    rw [← p2add]
    congr 1
    omega
  unfold XN.mag
  rw [Rat.natCast_mul, Rat.natCast_mul, Rat.natCast_mul, ← p2nat, e1]
  have z1 := cast_ne dx
  generalize (2 : Rat) ^ ((x.e - m).toNat : Int) = A at *
  generalize (2 : Rat) ^ m = B at *
  grind
theorem mag_one (x y : XN) (hx : x.n % 2 = 1 ∧ x.d % 2 = 1 ∧ Nat.gcd x.n x.d = 1) (hy : y.n % 2 = 1 ∧ y.d % 2 = 1 ∧ Nat.gcd y.n y.d = 1) (hle : x.e ≤ y.e) (h : x.mag = y.mag) : x.n = y.n ∧ x.d = y.d ∧ x.e = y.e := by
  have d1 : x.d ≠ 0 := by omega
  have d2 : y.d ≠ 0 := by omega
  have m1 := mag_shift x y d1 x.e (Int.le_refl _)
  have m2 := mag_shift y x d2 x.e hle
  rw [h, Nat.mul_comm x.d y.d, m2] at m1
  have m3 : ((y.n * x.d * 2 ^ (y.e - x.e).toNat : Nat) : Rat) = ((x.n * y.d * 2 ^ (x.e - x.e).toNat : Nat) : Rat) := by
    have z := p2ne x.e
    generalize (2 : Rat) ^ x.e = A at *
    generalize ((y.n * x.d * 2 ^ (y.e - x.e).toNat : Nat) : Rat) = B at *
    generalize ((x.n * y.d * 2 ^ (x.e - x.e).toNat : Nat) : Rat) = C at *
    grind
  rw [Rat.natCast_inj, Int.sub_self] at m3
  have m4 : y.n * x.d * 2 ^ (y.e - x.e).toNat = x.n * y.d := by rw [m3]; simp
  have e0 : (y.e - x.e).toNat = 0 := by
    by_cases hz : (y.e - x.e).toNat = 0
    · exact hz
    · exfalso
      obtain ⟨k, hk⟩ : ∃ k, (y.e - x.e).toNat = k + 1 := ⟨_, (Nat.succ_pred_eq_of_ne_zero hz).symm⟩
      rw [hk, Nat.pow_succ, ← Nat.mul_assoc] at m4
      have := mul_odd _ _ hx.1 hy.2.1
      omega
  rw [e0, Nat.pow_zero, Nat.mul_one] at m4
  have q1 : x.n ∣ y.n := by
    have : x.n ∣ y.n * x.d := ⟨y.d, m4⟩
    exact Nat.Coprime.dvd_of_dvd_mul_right hx.2.2 this
  have q2 : y.n ∣ x.n := by
    have : y.n ∣ x.n * y.d := ⟨x.d, m4.symm⟩
    exact Nat.Coprime.dvd_of_dvd_mul_right hy.2.2 this
  have q3 := Nat.dvd_antisymm q1 q2
  refine ⟨q3, ?_, by omega⟩
  rw [q3] at m4
  exact Nat.eq_of_mul_eq_mul_left (by omega) m4
theorem can_inj (x y : XN) (hx : x.can) (hy : y.can) (h : x.val = y.val) : x = y := by
  rw [val_mag, val_mag] at h
  by_cases n1 : x.n = 0
  · rw [mag_zero x n1, Rat.mul_zero] at h
    by_cases n2 : y.n = 0
    · rw [hx.null n1, hy.null n2]
    · exfalso
      have p := mag_pos y n2 hy.d0
      rcases (Rat.mul_eq_zero.1 h.symm) with h | h
      · exact sgn_ne _ h
      · rw [h] at p; exact absurd p Rat.lt_irrefl
  · by_cases n2 : y.n = 0
    · exfalso
      rw [mag_zero y n2, Rat.mul_zero] at h
      have p := mag_pos x n1 hx.d0
      rcases (Rat.mul_eq_zero.1 h) with h | h
      · exact sgn_ne _ h
      · rw [h] at p; exact absurd p Rat.lt_irrefl
    · have p1 := mag_pos x n1 hx.d0
      have p2 := mag_pos y n2 hy.d0
      have hb : x.b = y.b := by
        cases e1 : x.b <;> cases e2 : y.b
        · rfl
        · exfalso
          rw [e1, e2] at h
          unfold sgn at h
          simp at h
          grind
        · exfalso
          rw [e1, e2] at h
          unfold sgn at h
          simp at h
          grind
        · rfl
      have hm : x.mag = y.mag := by
        rw [hb] at h
        have := sgn_ne y.b
        generalize sgn y.b = s at *
        grind
      have key : x.n = y.n ∧ x.d = y.d ∧ x.e = y.e := by
        by_cases hle : x.e ≤ y.e
        · exact mag_one x y (hx.odd n1) (hy.odd n2) hle hm
        · obtain ⟨a, b, c⟩ := mag_one y x (hy.odd n2) (hx.odd n1) (by omega) hm.symm
          exact ⟨a.symm, b.symm, c.symm⟩
      obtain ⟨k1, k2, k3⟩ := key
      cases x; cases y
      simp_all

def sA (x y : XN) : Nat := x.n * y.d * 2 ^ (x.e - min x.e y.e).toNat
def sS (x y : XN) : Nat := if x.b = y.b then sA x y + sA y x else if sA x y < sA y x then sA y x - sA x y else sA x y - sA y x
theorem mul_ne {a b : Nat} (ha : a ≠ 0) (hb : b ≠ 0) : a * b ≠ 0 := fun h => by rcases Nat.mul_eq_zero.1 h with h | h <;> contradiction
def sg (x : XN) : Int := if x.n = 0 then 0 else if x.b then -1 else 1
def lenD (x : XN) : Int := (blen x.n : Int) - (blen x.d : Int)
def tA (x : XN) : Nat := x.n * 2 ^ (max (-lenD x) 0).toNat
def tB (x : XN) : Nat := x.d * 2 ^ (max (lenD x) 0).toNat
def topX (x : XN) : Int := (if tA x < tB x then lenD x - 1 else lenD x) + x.e
def flX (x : XN) (e : Int) : (Nat × Bool) × Int :=
  if e < -2097152 ∨ 2097152 < e then ((0, false), 2) else if x.n = 0 then ((0, true), 0)
  else if e ≤ x.e then (if nl (x.n * 2 ^ (x.e - e).toNat) ≤ 16384 then ((x.n * 2 ^ (x.e - e).toNat / x.d, decide (x.n * 2 ^ (x.e - e).toNat % x.d = 0)), 0) else ((0, false), 4))
  else if topX x < e then ((0, false), 0) else ((x.n / (x.d * 2 ^ (e - x.e).toNat), false), 0)

theorem tA_len (x : XN) (n0 : x.n ≠ 0) (d0 : x.d ≠ 0) : blen (tA x) = blen (tB x) ∧ tA x ≠ 0 ∧ tB x ≠ 0 := by
  unfold tA tB
  rw [blen_shl _ _ n0, blen_shl _ _ d0]
  refine ⟨?_, mul_ne n0 (Nat.pos_iff_ne_zero.1 (Nat.two_pow_pos _)), mul_ne d0 (Nat.pos_iff_ne_zero.1 (Nat.two_pow_pos _))⟩
  unfold lenD
  omega
theorem tA_near (x : XN) (n0 : x.n ≠ 0) (d0 : x.d ≠ 0) : tA x < 2 * tB x ∧ tB x < 2 * tA x := by
  obtain ⟨h1, h2, h3⟩ := tA_len x n0 d0
  have a1 := blen_lt (tA x)
  have a2 := blen_le (tA x) h2
  have b1 := blen_lt (tB x)
  have b2 := blen_le (tB x) h3
  have p := blen_pos (tA x) h2
  rw [← h1] at b1 b2
  obtain ⟨k, hk⟩ : ∃ k, blen (tA x) = k + 1 := ⟨_, (Nat.succ_pred_eq_of_ne_zero (Nat.pos_iff_ne_zero.1 p)).symm⟩
  rw [hk, Nat.pow_succ] at a1 b1
  rw [hk, Nat.add_sub_cancel] at a2 b2
  omega
theorem tA_mag (x : XN) (d0 : x.d ≠ 0) : x.mag * ((tB x : Nat) : Rat) = ((tA x : Nat) : Rat) * (2 : Rat) ^ (lenD x + x.e) := by
  unfold tA tB XN.mag
  rw [Rat.natCast_mul, Rat.natCast_mul, ← p2nat, ← p2nat, p2add]
  have e : (2 : Rat) ^ ((max (lenD x) 0).toNat : Int) = (2 : Rat) ^ ((max (-lenD x) 0).toNat : Int) * (2 : Rat) ^ (lenD x) := by
    rw [← p2add]
    congr 1
    omega
  rw [e]
  have z := cast_ne d0
  generalize (2 : Rat) ^ ((max (-lenD x) 0).toNat : Int) = A at *
  generalize (2 : Rat) ^ (lenD x) = B at *
  generalize (2 : Rat) ^ x.e = C at *
  grind
theorem p2succ (e : Int) : (2 : Rat) ^ (e + 1) = 2 * (2 : Rat) ^ e := by rw [p2add, Rat.zpow_one, Rat.mul_comm]
theorem top_good (x : XN) (n0 : x.n ≠ 0) (d0 : x.d ≠ 0) : (2 : Rat) ^ (topX x) ≤ x.mag ∧ x.mag < (2 : Rat) ^ (topX x + 1) := by
  obtain ⟨h1, h2⟩ := tA_near x n0 d0
  have k := tA_mag x d0
  have zB : (0 : Rat) < ((tB x : Nat) : Rat) := cast_pos (tA_len x n0 d0).2.2
  have zP := p2 (lenD x + x.e)
  have c1 : ((tA x : Nat) : Rat) < 2 * ((tB x : Nat) : Rat) := by
    have := Rat.natCast_lt_natCast.2 h1
    rwa [Rat.natCast_mul] at this
  have c2 : ((tB x : Nat) : Rat) < 2 * ((tA x : Nat) : Rat) := by
    have := Rat.natCast_lt_natCast.2 h2
    rwa [Rat.natCast_mul] at this
  unfold topX
  split
  · rename_i hl
    have c3 := Rat.natCast_lt_natCast.2 hl
    have e1 := p2succ (lenD x - 1 + x.e)
    rw [show lenD x - 1 + x.e + 1 = lenD x + x.e by omega] at e1
    rw [show lenD x - 1 + x.e + 1 = lenD x + x.e by omega]
    generalize (2 : Rat) ^ (lenD x + x.e) = P at *
    generalize (2 : Rat) ^ (lenD x - 1 + x.e) = H at *
    generalize ((tA x : Nat) : Rat) = A at *
    generalize ((tB x : Nat) : Rat) = B at *
    constructor
    · refine Rat.le_of_mul_le_mul_right (c := B) ?_ zB
      rw [k, e1]
      have : H * B ≤ H * (2 * A) := Rat.mul_le_mul_of_nonneg_left (Rat.le_of_lt c2) (by grind)
      grind
    · refine Rat.lt_of_mul_lt_mul_right (c := B) ?_ (Rat.le_of_lt zB)
      rw [k, Rat.mul_comm A P]
      exact Rat.mul_lt_mul_of_pos_left c3 zP
  · rename_i hl
    have c3 := Rat.natCast_le_natCast.2 (Nat.le_of_not_lt hl)
    have e1 := p2succ (lenD x + x.e)
    rw [e1]
    generalize (2 : Rat) ^ (lenD x + x.e) = P at *
    generalize ((tA x : Nat) : Rat) = A at *
    generalize ((tB x : Nat) : Rat) = B at *
    constructor
    · refine Rat.le_of_mul_le_mul_right (c := B) ?_ zB
      rw [k, Rat.mul_comm A P]
      exact Rat.mul_le_mul_of_nonneg_left c3 (Rat.le_of_lt zP)
    · refine Rat.lt_of_mul_lt_mul_right (c := B) ?_ (Rat.le_of_lt zB)
      rw [k]
      have : P * A < P * (2 * B) := Rat.mul_lt_mul_of_pos_left c1 zP
      grind
theorem quot_good (u : Rat) (N D : Nat) (P : Rat) (hP : 0 < P) (D0 : D ≠ 0) (k : u * (D : Rat) = (N : Rat) * P) : ((N / D : Nat) : Rat) * P ≤ u ∧ u < ((N / D + 1 : Nat) : Rat) * P ∧ (N % D = 0 ↔ ((N / D : Nat) : Rat) * P = u) := by
  have zD := cast_pos D0
  have h1 : N / D * D ≤ N := Nat.div_mul_le_self N D
  have h2 : N < (N / D + 1) * D := by
    have := Nat.div_add_mod N D
    have := Nat.mod_lt N (Nat.pos_of_ne_zero D0)
    rw [Nat.add_mul, Nat.one_mul, Nat.mul_comm (N / D) D]
    omega
  have h3 : N % D = 0 ↔ N / D * D = N := by
    have := Nat.div_add_mod N D
    rw [Nat.mul_comm (N / D) D]
    omega
  have c1 := Rat.natCast_le_natCast.2 h1
  have c2 := Rat.natCast_lt_natCast.2 h2
  rw [Rat.natCast_mul] at c1 c2
  have c3 : N / D * D = N ↔ ((N / D : Nat) : Rat) * (D : Rat) = (N : Rat) := by rw [← Rat.natCast_mul, Rat.natCast_inj]
  rw [h3, c3]
  generalize ((N / D + 1 : Nat) : Rat) = M1 at *
  generalize ((N / D : Nat) : Rat) = M at *
  generalize (N : Rat) = n at *
  generalize (D : Rat) = d at *
  refine ⟨?_, ?_, ?_, ?_⟩
  · refine Rat.le_of_mul_le_mul_right (c := d) ?_ zD
    rw [k]
    have := Rat.mul_le_mul_of_nonneg_left c1 (Rat.le_of_lt hP)
    grind
  · refine Rat.lt_of_mul_lt_mul_right (c := d) ?_ (Rat.le_of_lt zD)
    rw [k]
    have := Rat.mul_lt_mul_of_pos_left c2 hP
    grind
  · intro h
    rw [← h] at k
    have : d ≠ 0 := Rat.ne_of_gt zD
    grind
  · intro h
    rw [← h] at k
    have : P ≠ 0 := Rat.ne_of_gt hP
    grind
theorem p2mono (e f : Int) (h : e ≤ f) : (2 : Rat) ^ e ≤ (2 : Rat) ^ f := by
  obtain ⟨k, rfl⟩ : ∃ k : Nat, f = (k : Int) + e := ⟨(f - e).toNat, by omega⟩
  rw [p2add (k : Int) e, p2nat]
  have a : (1 : Rat) ≤ ((2 ^ k : Nat) : Rat) := Rat.natCast_le_natCast.2 (Nat.one_le_two_pow (n := k))
  have b := Rat.mul_le_mul_of_nonneg_right a (Rat.le_of_lt (p2 e))
  rwa [Rat.one_mul] at b
theorem fl_good (x : XN) (e : Int) (hx : x.can) (n0 : x.n ≠ 0) (h : (flX x e).2 = 0) : (((flX x e).1.1 : Nat) : Rat) * (2 : Rat) ^ e ≤ x.mag ∧ x.mag < (((flX x e).1.1 + 1 : Nat) : Rat) * (2 : Rat) ^ e ∧ ((flX x e).1.2 = true ↔ (((flX x e).1.1 : Nat) : Rat) * (2 : Rat) ^ e = x.mag) := by
  have d0 := hx.d0
  unfold flX at h ⊢
  by_cases hr : e < -2097152 ∨ 2097152 < e
  · rw [if_pos hr] at h
    exact absurd h (by decide)
  rw [if_neg hr, if_neg n0] at h ⊢
  by_cases he : e ≤ x.e
  · rw [if_pos he] at h ⊢
    by_cases hl : nl (x.n * 2 ^ (x.e - e).toNat) ≤ 16384
    · rw [if_pos hl]
      have k : x.mag * (x.d : Rat) = ((x.n * 2 ^ (x.e - e).toNat : Nat) : Rat) * (2 : Rat) ^ e := by
        have e1 : (2 : Rat) ^ x.e = (2 : Rat) ^ ((x.e - e).toNat : Int) * (2 : Rat) ^ e := by rw [← p2add]; congr 1; omega
        unfold XN.mag
        rw [Rat.natCast_mul, ← p2nat, e1]
        have z := cast_ne d0
        grind
      have := quot_good _ _ _ _ (p2 e) d0 k
      simp only [decide_eq_true_eq]
      exact this
    · rw [if_neg hl] at h
      exact absurd h (by decide)
  · rw [if_neg he] at h ⊢
    have hz : ¬ x.n % (x.d * 2 ^ (e - x.e).toNat) = 0 := by
      intro hm
      obtain ⟨k, hk⟩ : ∃ k, (e - x.e).toNat = k + 1 := ⟨(e - x.e).toNat - 1, by omega⟩
      rw [hk, Nat.pow_succ, ← Nat.mul_assoc] at hm
      obtain ⟨q, hq⟩ := Nat.dvd_of_mod_eq_zero hm
      have := (hx.odd n0).1
      rw [hq, Nat.mul_assoc, Nat.mul_assoc, Nat.mul_left_comm (2 ^ k) 2, Nat.mul_left_comm x.d 2, Nat.mul_mod_right] at this
      omega
    have k : x.mag * ((x.d * 2 ^ (e - x.e).toNat : Nat) : Rat) = (x.n : Rat) * (2 : Rat) ^ e := by
      have e1 : (2 : Rat) ^ e = (2 : Rat) ^ ((e - x.e).toNat : Int) * (2 : Rat) ^ x.e := by rw [← p2add]; congr 1; omega
      unfold XN.mag
      rw [Rat.natCast_mul, ← p2nat, e1]
      have z := cast_ne d0
      grind
    have D0 : x.d * 2 ^ (e - x.e).toNat ≠ 0 := mul_ne d0 (Nat.pos_iff_ne_zero.1 (Nat.two_pow_pos _))
    have q := quot_good _ _ _ _ (p2 e) D0 k
    by_cases ht : topX x < e
    · rw [if_pos ht]
      have t2 := (top_good x n0 d0).2
      have := p2mono (topX x + 1) e (by omega)
      have up : x.mag < (2 : Rat) ^ e := by grind
      have p := mag_pos x n0 d0
      have z0 : ((0 : Nat) : Rat) = 0 := rfl
      have z1 : ((0 + 1 : Nat) : Rat) = 1 := rfl
      refine ⟨?_, ?_, ?_⟩
      · show ((0 : Nat) : Rat) * _ ≤ _
        rw [z0, Rat.zero_mul]
        exact Rat.le_of_lt p
      · show _ < ((0 + 1 : Nat) : Rat) * _
        rw [z1, Rat.one_mul]
        exact up
      · show false = true ↔ ((0 : Nat) : Rat) * _ = _
        rw [z0, Rat.zero_mul]
        exact ⟨fun h => absurd h (by decide), fun h => absurd p (by rw [← h]; exact Rat.lt_irrefl)⟩
    · rw [if_neg ht]
      refine ⟨q.1, q.2.1, ?_⟩
      exact ⟨fun h => Bool.noConfusion h, fun h => absurd (q.2.2.2 h) hz⟩

def Bd (x : XN) (p E : Nat) : Prop := x.n < 2 ^ p ∧ x.d < 2 ^ p ∧ -(E : Int) ≤ x.e ∧ x.e ≤ E
theorem nl_pow (n p : Nat) (h : n < 2 ^ p) (hp : p ≤ 131072) : nl n ≤ 16384 := by
  have := blen_le_of n p h
  unfold nl
  omega
theorem mk_ok (neg : Bool) (n d : Nat) (e : Int) (P E F : Nat) (hn : n < 2 ^ P) (hd : d < 2 ^ P) (ho : d % 2 = 1) (he1 : -(E : Int) ≤ e) (he2 : e ≤ E) (hF : E + P = F) (h : F ≤ 1048576) : (mk neg n d e).2 = 0 ∧ Bd (mk neg n d e).1 P F := by
  have P1 : 1 < 2 ^ P := by omega
  have t0 := tz_odd d ho
  have t1 := Nat.le_trans (tz_blen n) (blen_le_of n P hn)
  unfold mk
  split
  · exact ⟨rfl, Nat.two_pow_pos _, P1, by show -(F : Int) ≤ 0; omega, by show (0 : Int) ≤ F; omega⟩
  · rw [t0, if_pos (by omega)]
    refine ⟨rfl, Nat.lt_of_le_of_lt (Nat.le_trans (Nat.div_le_self _ _) (od_le _)) hn, Nat.lt_of_le_of_lt (Nat.le_trans (Nat.div_le_self _ _) (od_le _)) hd, ?_, ?_⟩
    · show -(F : Int) ≤ e + (tz n : Int) - ((0 : Nat) : Int); omega
    · show e + (tz n : Int) - ((0 : Nat) : Int) ≤ (F : Int); omega
end Go.Proofs.YtpdehipeakcaiaaDoor.XMath
namespace Go.Proofs.YtpdehipeakcaiaaDoor
set_option maxRecDepth 100000
set_option maxHeartbeats 40000000
set_option maxRecDepth 100000
open Go.RowKit WMath XMath
theorem cells4 {w : World} {g : Nat} {T : TypeId} {c : Array Value} (row : w.heap[g]? = some (.cells c T)) (k : Nat) (v : Value) (h : c[k]? = some v) : w.cell? ⟨g, k, none⟩ = some v := by
  rw [cell_of_row w g k _ _ _ row]
  exact h

theorem cells2s {w : World} {g : Nat} {T : TypeId} {a b : Value} (R : w.heap[g]? = some (.cells #[a, b] T)) : w.cell? ⟨g, 0, none⟩ = some a ∧ w.cell? ⟨g, 1, none⟩ = some b := ⟨cells4 R 0 _ rfl, cells4 R 1 _ rfl⟩
theorem opn1 (w : World) (o : Obj) : (w.alloc o).heap[w.heap.size]? = some o ∧ Below w.heap.size w (w.alloc o) := ⟨heap_alloc_last _ _, (Below.refl _ _).alloc (Nat.le_refl _) _⟩
theorem opn2 (w : World) (o1 o2 : Obj) : ((w.alloc o1).alloc o2).heap[w.heap.size]? = some o1 ∧ ((w.alloc o1).alloc o2).heap[w.heap.size + 1]? = some o2 ∧ Below w.heap.size w ((w.alloc o1).alloc o2) := by
  obtain ⟨r0, b⟩ := opn1 w o1
  have z : (w.alloc o1).heap.size = w.heap.size + 1 := by simp only [size_al]
  exact ⟨by rw [heap_below _ _ _ (by omega)]; exact r0, by rw [← z]; exact heap_alloc_last _ _, b.alloc (by omega) _⟩
end Go.Proofs.YtpdehipeakcaiaaDoor
namespace Go.Proofs.YtpdehipeakcaiaaDoor
set_option maxRecDepth 100000
set_option maxHeartbeats 40000000
set_option maxRecDepth 100000
open Go.RowKit WMath
theorem bal7 (w : World) (o : Obj) : Below w.heap.size w (w.alloc o) := (Below.refl _ _).alloc (Nat.le_refl _) _
theorem btr7 {a b c : World} (h : Below a.heap.size a b) (k : Below b.heap.size b c) : Below a.heap.size a c := h.trans (k.mono h.size)

def fcells : Array Value := #[.int .i64 32, .int .i64 24, .int .i64 127, .string ⟨#[115]⟩, .int .i64 64, .int .i64 53, .int .i64 1023, .string ⟨#[100]⟩, .int .i64 16, .int .i64 11, .int .i64 15, .string ⟨#[104]⟩, .int .i64 128, .int .i64 113, .int .i64 16383, .string ⟨#[113]⟩]
def xcells : List (Nat × Nat × Value) := [(0, 0, .int .u64 2147483648), (0, 1, .int .u64 0), (0, 2, .int .u64 0), (0, 3, .int .u64 0), (0, 4, .int .u64 0), (0, 5, .int .u64 0), (0, 6, .int .u64 0), (0, 7, .int .u64 0), (0, 8, .int .u64 0), (0, 9, .int .u64 0), (0, 10, .int .u64 0), (0, 11, .int .u64 0), (0, 12, .int .u64 9223372036854775808), (0, 13, .int .u64 0), (0, 14, .int .u64 0), (0, 15, .int .u64 0), (0, 16, .int .u64 0), (0, 17, .int .u64 0), (0, 18, .int .u64 0), (0, 19, .int .u64 0), (0, 20, .int .u64 0), (0, 21, .int .u64 0), (0, 22, .int .u64 0), (0, 23, .int .u64 0), (1, 0, .int .u64 2147483647), (1, 1, .int .u64 0), (1, 2, .int .u64 0), (1, 3, .int .u64 0), (1, 4, .int .u64 0), (1, 5, .int .u64 0), (1, 6, .int .u64 4294967295), (1, 7, .int .u64 0), (1, 8, .int .u64 0), (1, 9, .int .u64 0), (1, 10, .int .u64 0), (1, 11, .int .u64 0), (1, 12, .int .u64 9223372036854775807), (1, 13, .int .u64 0), (1, 14, .int .u64 0), (1, 15, .int .u64 0), (1, 16, .int .u64 0), (1, 17, .int .u64 0), (1, 18, .int .u64 18446744073709551615), (1, 19, .int .u64 0), (1, 20, .int .u64 0), (1, 21, .int .u64 0), (1, 22, .int .u64 0), (1, 23, .int .u64 0)]
def FAt (w : World) : Prop := (∀ i, i < 16 → w.cell? ⟨2, i, none⟩ = fcells[i]?) ∧ ∀ p, p ∈ xcells → w.cell? ⟨p.1, p.2.1, none⟩ = some p.2.2
theorem fc_some (i : Nat) (h : i < 16) : ∃ v, fcells[i]? = some v := ⟨_, Array.getElem?_eq_getElem (show i < fcells.size from h)⟩
theorem fatB {w w' : World} (h : FAt w) (hb : Below w.heap.size w w') : FAt w' := ⟨fun i hi => by
  obtain ⟨v, hv⟩ := fc_some i hi
  rw [hb.cell (p := ⟨2, i, none⟩) (World.block_lt_of_cell? w _ ((h.1 i hi).trans hv))]
  exact h.1 i hi, fun p hp => by
  rw [hb.cell (p := ⟨p.1, p.2.1, none⟩) (World.block_lt_of_cell? w _ (h.2 p hp))]
  exact h.2 p hp⟩
theorem fat_at {w : World} (h : FAt w) (i : Nat) (v : Value) (hi : i < 16) (hv : fcells[i]? = some v) : w.cell? ⟨2, i, none⟩ = some v := (h.1 i hi).trans hv
theorem fat_x {w : World} (h : FAt w) (k b i : Nat) (v : Value) (hv : xcells[k]? = some (b, i, v)) : w.cell? ⟨b, i, none⟩ = some v := h.2 _ (List.mem_of_getElem? hv)

theorem fat_al {w : World} (h : FAt w) (o : Obj) : FAt (w.alloc o) := fatB h (bal7 w o)
theorem fat_dr {w : World} (h : FAt w) : FAt w.drew := h

def fW (f : Int) : Int := if f = 0 then 32 else if f = 1 then 64 else if f = 2 then 16 else if f = 3 then 128 else 0
def fP (f : Int) : Int := if f = 0 then 24 else if f = 1 then 53 else if f = 2 then 11 else if f = 3 then 113 else 0
def fE (f : Int) : Int := if f = 0 then 127 else if f = 1 then 1023 else if f = 2 then 15 else if f = 3 then 16383 else 0
def fN (f : Int) : ByteArray := if f = 0 then ⟨#[115]⟩ else if f = 1 then ⟨#[100]⟩ else if f = 2 then ⟨#[104]⟩ else if f = 3 then ⟨#[113]⟩ else ⟨#[]⟩
def fR (f : Int) : Array Value := #[.int .i64 (fW f), .int .i64 (fP f), .int .i64 (fE f), .string (fN f)]
def fC (f : Int) : Int := if f = 0 ∨ f = 1 ∨ f = 2 ∨ f = 3 then 0 else 2

theorem f_cases (f : Int) (h0 : 0 ≤ f) : f = 0 ∨ f = 1 ∨ f = 2 ∨ f = 3 ∨ 4 ≤ f := by omega

theorem s_check (f : Int) (h0 : 0 ≤ f) (h1 : f ≤ 255) (w : World) :
    Calls Tryd.prog 48 #[.int .u8 f] w fun e w' => e = .returned (.int .i64 (fC f)) ∧ w' = w := by
  by_cases h : 4 ≤ f
  · have e : fC f = 2 := by unfold fC; rw [if_neg (by omega)]
    rw [e]
    have hd : decide ((4 : Int) ≤ f) = true := by simp [h]
    go_enter Tryd.func48, Tryd.ntmps48
    go_wp2
    go_ret
    exact ⟨rfl, rfl⟩
  · have e : fC f = 0 := by unfold fC; rw [if_pos (by omega)]
    rw [e]
    have hd : decide ((4 : Int) ≤ f) = false := by simp; omega
    go_enter Tryd.func48, Tryd.ntmps48
    go_wp2
    go_ret
    exact ⟨rfl, rfl⟩

theorem s_check_is (f c : Int) (h0 : 0 ≤ f) (h1 : f ≤ 255) (hc : fC f = c) (w : World) :
    Calls Tryd.prog 48 #[.int .u8 f] w fun e w' => e = .returned (.int .i64 c) ∧ w' = w := by
  subst hc; exact s_check f h0 h1 w

theorem s_checkMode (f : Int) (w : World) :
    Calls Tryd.prog 5 #[.int .u8 f] w fun e w' => e = .returned (.int .i64 (if f ≤ 4 then 0 else 2)) ∧ w' = w := by
  by_cases h : 4 < f
  · rw [if_neg (by omega)]
    go_enter Tryd.func5, Tryd.ntmps5
    go_wp2
    go_ret
    exact ⟨rfl, rfl⟩
  · rw [if_pos (by omega)]
    go_enter Tryd.func5, Tryd.ntmps5
    go_wp2
    go_ret
    exact ⟨rfl, rfl⟩

theorem s_of (f : Int) (h0 : 0 ≤ f) (h1 : f ≤ 255) (w : World) (hT : FAt w) :
    Calls Tryd.prog 52 #[.int .u8 f] w fun e w' => e = .returned (.agg #[.int .i64 (fW f), .int .i64 (fP f), .int .i64 (fE f), .string (fN f)]) ∧ w' = w.alloc (.cells (fR f) 93) := by
  have hB := bal7 w (.cells #[.int .i64 0, .int .i64 0, .int .i64 0, .string ⟨#[]⟩] 93)
  have T2 := fatB hT hB
  rcases f_cases f h0 with rfl | rfl | rfl | rfl | h
  · have c0 := fat_at T2 0 (.int .i64 32) (by decide) rfl
    have c1 := fat_at T2 1 (.int .i64 24) (by decide) rfl
    have c2 := fat_at T2 2 (.int .i64 127) (by decide) rfl
    have c3 := fat_at T2 3 (.string ⟨#[115]⟩) (by decide) rfl
    clear T2 hT
    go_enter Tryd.func52, Tryd.ntmps52
    go_wp2_with fail
    refine (s_check_is 0 0 (by omega) (by omega) rfl _).mono ?_
    rintro r w' ⟨rfl, rfl⟩
    go_wp2
    exact bodyPost_ret (v := .agg #[.int .i64 32, .int .i64 24, .int .i64 127, .string ⟨#[115]⟩]) (by simp [results, Tryd.results52, go_sem]) rfl ⟨rfl, rfl⟩
  · have c0 := fat_at T2 4 (.int .i64 64) (by decide) rfl
    have c1 := fat_at T2 5 (.int .i64 53) (by decide) rfl
    have c2 := fat_at T2 6 (.int .i64 1023) (by decide) rfl
    have c3 := fat_at T2 7 (.string ⟨#[100]⟩) (by decide) rfl
    clear T2 hT
    go_enter Tryd.func52, Tryd.ntmps52
    go_wp2_with fail
    refine (s_check_is 1 0 (by omega) (by omega) rfl _).mono ?_
    rintro r w' ⟨rfl, rfl⟩
    go_wp2
    exact bodyPost_ret (v := .agg #[.int .i64 64, .int .i64 53, .int .i64 1023, .string ⟨#[100]⟩]) (by simp [results, Tryd.results52, go_sem]) rfl ⟨rfl, rfl⟩
  · have c0 := fat_at T2 8 (.int .i64 16) (by decide) rfl
    have c1 := fat_at T2 9 (.int .i64 11) (by decide) rfl
    have c2 := fat_at T2 10 (.int .i64 15) (by decide) rfl
    have c3 := fat_at T2 11 (.string ⟨#[104]⟩) (by decide) rfl
    clear T2 hT
    go_enter Tryd.func52, Tryd.ntmps52
    go_wp2_with fail
    refine (s_check_is 2 0 (by omega) (by omega) rfl _).mono ?_
    rintro r w' ⟨rfl, rfl⟩
    go_wp2
    exact bodyPost_ret (v := .agg #[.int .i64 16, .int .i64 11, .int .i64 15, .string ⟨#[104]⟩]) (by simp [results, Tryd.results52, go_sem]) rfl ⟨rfl, rfl⟩
  · have c0 := fat_at T2 12 (.int .i64 128) (by decide) rfl
    have c1 := fat_at T2 13 (.int .i64 113) (by decide) rfl
    have c2 := fat_at T2 14 (.int .i64 16383) (by decide) rfl
    have c3 := fat_at T2 15 (.string ⟨#[113]⟩) (by decide) rfl
    clear T2 hT
    go_enter Tryd.func52, Tryd.ntmps52
    go_wp2_with fail
    refine (s_check_is 3 0 (by omega) (by omega) rfl _).mono ?_
    rintro r w' ⟨rfl, rfl⟩
    go_wp2
    exact bodyPost_ret (v := .agg #[.int .i64 128, .int .i64 113, .int .i64 16383, .string ⟨#[113]⟩]) (by simp [results, Tryd.results52, go_sem]) rfl ⟨rfl, rfl⟩
  · have hd : decide ((4 : Int) ≤ f) = true := by simp [h]
    have e0 : fW f = 0 := by unfold fW; rw [if_neg (by omega), if_neg (by omega), if_neg (by omega), if_neg (by omega)]
    have e1 : fP f = 0 := by unfold fP; rw [if_neg (by omega), if_neg (by omega), if_neg (by omega), if_neg (by omega)]
    have e2 : fE f = 0 := by unfold fE; rw [if_neg (by omega), if_neg (by omega), if_neg (by omega), if_neg (by omega)]
    have e3 : fN f = ⟨#[]⟩ := by unfold fN; rw [if_neg (by omega), if_neg (by omega), if_neg (by omega), if_neg (by omega)]
    have e4 : fC f = 2 := by unfold fC; rw [if_neg (by omega)]
    have e5 : fR f = #[.int .i64 0, .int .i64 0, .int .i64 0, .string ⟨#[]⟩] := by unfold fR; rw [e0, e1, e2, e3]
    rw [e0, e1, e2, e3, e5]
    clear T2 hT e0 e1 e2 e3 e5
    go_enter Tryd.func52, Tryd.ntmps52
    go_wp2_with fail
    refine (s_check_is f 2 (by omega) (by omega) e4 _).mono ?_
    rintro r w' ⟨rfl, rfl⟩
    go_wp2
    exact bodyPost_ret (v := .agg #[.int .i64 0, .int .i64 0, .int .i64 0, .string ⟨#[]⟩]) (by simp [results, Tryd.results52, go_sem]) rfl ⟨rfl, rfl⟩

theorem s_of_is (f w0 p0 m0 : Int) (n0 : ByteArray) (h0 : 0 ≤ f) (h1 : f ≤ 255) (hw : fW f = w0) (hp : fP f = p0) (he : fE f = m0) (hn : fN f = n0) (w : World) (hT : FAt w) :
    Calls Tryd.prog 52 #[.int .u8 f] w fun e w' => e = .returned (.agg #[.int .i64 w0, .int .i64 p0, .int .i64 m0, .string n0]) ∧ w' = w.alloc (.cells (fR f) 93) := by
  subst hw hp he hn
  exact s_of f h0 h1 w hT

theorem fld0 (a b c d : Value) (w : World) : (Instr.field 93 (.agg #[a, b, c, d]) 0).run Tryd.prog w = .ok a w := by kernel_rfl
theorem fld1 (a b c d : Value) (w : World) : (Instr.field 93 (.agg #[a, b, c, d]) 1).run Tryd.prog w = .ok b w := by kernel_rfl
theorem fld2 (a b c d : Value) (w : World) : (Instr.field 93 (.agg #[a, b, c, d]) 2).run Tryd.prog w = .ok c w := by kernel_rfl
theorem s_width (f v : Int) (h0 : 0 ≤ f) (h1 : f ≤ 255) (hv : fW f = v) (w : World) (hT : FAt w) :
    Calls Tryd.prog 77 #[.int .u8 f] w fun e w' => e = .returned (.int .i64 v) ∧ w' = w.alloc (.cells (fR f) 93) := by
  have hl := fld0
  go_enter Tryd.func77, Tryd.ntmps77
  go_wp2_with fail
  refine (s_of_is f v _ _ _ h0 h1 hv rfl rfl rfl _ hT).mono ?_
  rintro r w2 ⟨rfl, rfl⟩
  go_wp2
  go_ret
  exact ⟨rfl, rfl⟩
theorem s_precision (f v : Int) (h0 : 0 ≤ f) (h1 : f ≤ 255) (hv : fP f = v) (w : World) (hT : FAt w) :
    Calls Tryd.prog 50 #[.int .u8 f] w fun e w' => e = .returned (.int .i64 v) ∧ w' = w.alloc (.cells (fR f) 93) := by
  have hl := fld1
  go_enter Tryd.func50, Tryd.ntmps50
  go_wp2_with fail
  refine (s_of_is f _ v _ _ h0 h1 rfl hv rfl rfl _ hT).mono ?_
  rintro r w2 ⟨rfl, rfl⟩
  go_wp2
  go_ret
  exact ⟨rfl, rfl⟩
theorem s_emax (f v : Int) (h0 : 0 ≤ f) (h1 : f ≤ 255) (hv : fE f = v) (w : World) (hT : FAt w) :
    Calls Tryd.prog 28 #[.int .u8 f] w fun e w' => e = .returned (.int .i64 v) ∧ w' = w.alloc (.cells (fR f) 93) := by
  have hl := fld2
  go_enter Tryd.func28, Tryd.ntmps28
  go_wp2_with fail
  refine (s_of_is f _ _ v _ h0 h1 rfl rfl hv rfl _ hT).mono ?_
  rintro r w2 ⟨rfl, rfl⟩
  go_wp2
  go_ret
  exact ⟨rfl, rfl⟩

theorem s_emin (f m v : Int) (h0 : 0 ≤ f) (h1 : f ≤ 255) (hm : fE f = m) (hv : (if fC f = 0 then 1 - m else 0) = v) (w : World) (hT : FAt w) :
    Calls Tryd.prog 27 #[.int .u8 f] w fun e w' => e = .returned (.int .i64 v) ∧ Below w.heap.size w w' := by
  obtain ⟨c, hc⟩ : ∃ c, fC f = c := ⟨_, rfl⟩
  rw [hc] at hv
  have hm2 : 0 ≤ m ∧ m ≤ 16383 := by rw [← hm]; unfold fE; split <;> (try split) <;> (try split) <;> (try split) <;> omega
  by_cases h : c = 0
  · rw [if_pos h] at hv
    subst h hv
    have hw : IntKind.i64.wrap (1 - m) = 1 - m := by rw [IntKind.wrap_i64]; omega
    go_enter Tryd.func27, Tryd.ntmps27
    go_wp2_with fail
    refine (s_check_is f 0 h0 h1 hc _).mono ?_
    rintro r w' ⟨rfl, rfl⟩
    go_wp2_with fail
    refine (s_emax f m h0 h1 hm _ hT).mono ?_
    rintro r w2 ⟨rfl, rfl⟩
    go_wp2
    go_ret
    exact ⟨rfl, bal7 _ _⟩
  · have hd : (c != 0) = true := by simp [h]
    rw [if_neg h] at hv
    subst hv
    go_enter Tryd.func27, Tryd.ntmps27
    go_wp2_with fail
    refine (s_check_is f c h0 h1 hc _).mono ?_
    rintro r w' ⟨rfl, rfl⟩
    go_wp2
    go_ret
    exact ⟨rfl, Below.refl _ _⟩

def rHi (x n : Int) : Int := bits .or .u64 (IntKind.u64.wrap (x * 2 ^ min (IntKind.u64.wrap (n - 64)).toNat 64)) (x / 2 ^ min (IntKind.u64.wrap (64 - n)).toNat 64)
def rLo (x n : Int) : Int := IntKind.u64.wrap (x * 2 ^ min n.toNat 64)

theorem cell7 {w : World} {g : Nat} {T : TypeId} {c : Array Value} (row : w.heap[g]? = some (.cells c T)) (k : Nat) (v : Value) (h : c[k]? = some v) : w.cell? ⟨g, k, none⟩ = some v := by
  simp [World.cell?, row, h]
theorem set2_below {n : Nat} {w wr : World} {b : Nat} (h : Below n w wr) (hb : n ≤ b) (v0 v1 : Value) : Below n w ((wr.setCell ⟨b, 0, none⟩ v0).setCell ⟨b, 1, none⟩ v1) := (h.setCell (by exact hb) _).setCell (by exact hb) _
theorem set2_row {w : World} {b : Nat} {c0 c1 : Value} {T : TypeId} (h : w.heap[b]? = some (.cells #[c0, c1] T)) (v0 v1 : Value) :
    ((w.setCell ⟨b, 0, none⟩ v0).setCell ⟨b, 1, none⟩ v1).heap[b]? = some (.cells #[v0, v1] T) := by
  rw [setCell_row (setCell_row h)]; rfl
theorem set2_cells {w : World} {b : Nat} {c0 c1 : Value} {T : TypeId} (h : w.heap[b]? = some (.cells #[c0, c1] T)) (v0 v1 : Value) :
    ((w.setCell ⟨b, 0, none⟩ v0).setCell ⟨b, 1, none⟩ v1).cell? ⟨b, 0, none⟩ = some v0 ∧ ((w.setCell ⟨b, 0, none⟩ v0).setCell ⟨b, 1, none⟩ v1).cell? ⟨b, 1, none⟩ = some v1 := by
  have r := set2_row h v0 v1
  exact ⟨cell7 r 0 _ rfl, cell7 r 1 _ rfl⟩
theorem last7 (w : World) (o : Obj) : (w.alloc o).heap[w.heap.size]? = some o := heap_alloc_last w o

def b2 (a b : Int) : Array Value := #[.int .u64 a, .int .u64 b]

theorem s_raised (x n H L : Int) (h0 : 0 ≤ n) (h1 : n ≤ 18446744073709551615) (hH : rHi x n = H) (hL : rLo x n = L) (w : World) :
    Calls Tryd.prog 75 #[.int .u64 x, .int .u64 n] w fun e w' => e = .returned (.agg #[.int .u64 H, .int .u64 L]) ∧ w' = w.alloc (.cells #[.int .u64 H, .int .u64 L] 27) := by
  obtain ⟨m, rfl⟩ := Int.eq_ofNat_of_zero_le h0
  subst hH hL
  go_enter Tryd.func75, Tryd.ntmps75
  go_wp2
  exact bodyPost_ret (v := .agg #[.int .u64 (rHi x m), .int .u64 (rLo x m)]) (by simp [results, Tryd.results75, go_sem, rHi, rLo]) rfl ⟨rfl, by simp [rHi, rLo]⟩

theorem s_join (a b c d H L : Int) (hH : bits .or .u64 a c = H) (hL : bits .or .u64 b d = L) (w : World) :
    Calls Tryd.prog 74 #[.agg #[.int .u64 a, .int .u64 b], .agg #[.int .u64 c, .int .u64 d]] w fun e w' => e = .returned (.agg #[.int .u64 H, .int .u64 L]) ∧ w' = ((w.alloc (.cells #[.int .u64 a, .int .u64 b] 27)).alloc (.cells #[.int .u64 c, .int .u64 d] 27)).alloc (.cells #[.int .u64 H, .int .u64 L] 27) := by
  go_enter Tryd.func74, Tryd.ntmps74
  go_wp2
  exact bodyPost_ret (v := .agg #[.int .u64 H, .int .u64 L]) (by simp [results, Tryd.results74, go_sem]) rfl ⟨rfl, rfl⟩

theorem s_ones (n H L : Int) (h0 : 0 ≤ n) (h1 : n ≤ 18446744073709551615) (hH : rHi 1 n = H) (hL : rLo 1 n = L) (K M : Int) (hK : (if L = 0 then IntKind.u64.wrap (H - 1) else H) = K) (hM : IntKind.u64.wrap (L - 1) = M) (w : World) :
    Calls Tryd.prog 79 #[.int .u64 n] w fun e w' => e = .returned (.agg #[.int .u64 K, .int .u64 M]) ∧ Below w.heap.size w w' := by
  by_cases hz : L = 0
  · have hd : (L == 0) = true := by simp [hz]
    rw [if_pos hz] at hK
    subst hz
    rw [show (0 : Int) - 1 = -1 by decide] at hM
    go_enter Tryd.func79, Tryd.ntmps79
    go_wp2_with fail
    refine (s_raised 1 n H _ h0 h1 hH hL _).mono ?_
    rintro r w2 ⟨rfl, rfl⟩
    go_wp2
    exact bodyPost_ret (v := .agg #[.int .u64 K, .int .u64 M]) (by simp [results, Tryd.results79, go_sem]) rfl ⟨rfl, (((Below.refl _ _).alloc (Nat.le_refl _) _).alloc (by simp only [size_al]; omega) _).alloc (by simp only [size_al]; omega) _⟩
  · have hd : (L == 0) = false := by simp [hz]
    rw [if_neg hz] at hK
    subst hK
    go_enter Tryd.func79, Tryd.ntmps79
    go_wp2_with fail
    refine (s_raised 1 n H _ h0 h1 hH hL _).mono ?_
    rintro r w2 ⟨rfl, rfl⟩
    go_wp2
    exact bodyPost_ret (v := .agg #[.int .u64 H, .int .u64 M]) (by simp [results, Tryd.results79, go_sem]) rfl ⟨rfl, (((Below.refl _ _).alloc (Nat.le_refl _) _).alloc (by simp only [size_al]; omega) _).alloc (by simp only [size_al]; omega) _⟩

theorem s_fraction (f p v : Int) (h0 : 0 ≤ f) (h1 : f ≤ 255) (hp : fP f = p) (hv : IntKind.u64.wrap (p - 1) = v) (w : World) (hT : FAt w) :
    Calls Tryd.prog 76 #[.int .u8 f] w fun e w' => e = .returned (.int .u64 v) ∧ w' = w.alloc (.cells (fR f) 93) := by
  have hm2 : 0 ≤ p ∧ p ≤ 113 := by rw [← hp]; unfold fP; split <;> (try split) <;> (try split) <;> (try split) <;> omega
  have hw : IntKind.i64.wrap (p - 1) = p - 1 := by rw [IntKind.wrap_i64]; omega
  go_enter Tryd.func76, Tryd.ntmps76
  go_wp2_with fail
  refine (s_precision f p h0 h1 hp _ hT).mono ?_
  rintro r w2 ⟨rfl, rfl⟩
  go_wp2
  go_ret
  exact ⟨rfl, rfl⟩

theorem s_top (f q p d v : Int) (h0 : 0 ≤ f) (h1 : f ≤ 255) (hq : fW f = q) (hp : fP f = p) (hd : q - p = d) (h2 : 0 ≤ d) (hv : IntKind.u64.wrap (IntKind.u64.wrap (2 ^ min d.toNat 64) - 1) = v) (w : World) (hT : FAt w) :
    Calls Tryd.prog 78 #[.int .u8 f] w fun e w' => e = .returned (.int .u64 v) ∧ Below w.heap.size w w' := by
  have hm1 : 0 ≤ q ∧ q ≤ 128 := by rw [← hq]; unfold fW; split <;> (try split) <;> (try split) <;> (try split) <;> omega
  have hm2 : 0 ≤ p ∧ p ≤ 113 := by rw [← hp]; unfold fP; split <;> (try split) <;> (try split) <;> (try split) <;> omega
  go_enter Tryd.func78, Tryd.ntmps78
  go_wp2_with fail
  refine (s_width f q h0 h1 hq _ hT).mono ?_
  rintro r w2 ⟨rfl, rfl⟩
  go_wp2_with fail
  refine (s_precision f p h0 h1 hp _ (fatB hT (bal7 _ _))).mono ?_
  rintro r w3 ⟨rfl, rfl⟩
  go_wp2
  go_ret
  exact ⟨rfl, btr7 (bal7 _ _) (bal7 _ _)⟩

def pV (f : Int) : Nat := (fP f).toNat - 1
def wV (f : Int) : Nat := (fW f).toNat - 1
def oV (f : Int) : Nat := 2 * (fE f).toNat + 1
def enc7 (f : Int) (neg : Bool) (e t : Nat) : Nat := e * 2 ^ pV f + t + (if neg then 2 ^ wV f else 0)
def bv7 (v : Nat) : Nat × Nat := (v / 18446744073709551616, v % 18446744073709551616)
def eInf (f : Int) (neg : Bool) : Nat := enc7 f neg (oV f) 0
def eZero (f : Int) (neg : Bool) : Nat := enc7 f neg 0 0
def eGreatest (f : Int) (neg : Bool) : Nat := enc7 f neg (oV f - 1) (2 ^ pV f - 1)
def Is4 (f : Int) : Prop := f = 0 ∨ f = 1 ∨ f = 2 ∨ f = 3
theorem is4_ok {f : Int} (h : Is4 f) : 0 ≤ f ∧ f ≤ 255 ∧ fC f = 0 ∧ 0 ≤ fW f - fP f := by
  rcases h with rfl | rfl | rfl | rfl <;> decide +kernel

def R7 (w : World) (I J : Int) (w5 : World) (g : Nat) : Prop := Below w.heap.size w w5 ∧ w5.heap[g]? = some (.cells #[.int .u64 I, .int .u64 J] 27) ∧ w5.heap[w.heap.size + 1]? = some (.cells #[.int .u64 0, .int .u64 0] 27) ∧ w.heap.size + 1 < g
theorem cut7 {G C : Prop} (h : G → C) (k : G) : C := h k
theorem bel_al {w W : World} (h : Below w.heap.size w W) (o : Obj) : Below w.heap.size w (W.alloc o) := btr7 h (bal7 _ _)
theorem bel_dr {w W : World} (h : Below w.heap.size w W) : Below w.heap.size w W.drew := h.drew
theorem row_al {W : World} {b : Nat} {o : Obj} (h : W.heap[b]? = some o) (o' : Obj) : (W.alloc o').heap[b]? = some o := by
  rw [heap_below W b o' (Array.getElem?_eq_some_iff.1 h).1]; exact h
theorem row_dr {W : World} {b : Nat} {o : Obj} (h : W.heap[b]? = some o) : W.drew.heap[b]? = some o := h
theorem row_last {W : World} {b : Nat} {o : Obj} (h : b = W.heap.size) : (W.alloc o).heap[b]? = some o := by subst h; exact heap_alloc_last W o
theorem gen7 {X : Act → World → Prop} {t0 t1 t2 t3 t4 t5 t6 t7 t8 t10 t11 t12 t13 t14 t15 t16 t17 t18 t19 t20 t21 t22 t23 t24 t25 t26 t27 t28 : Value} {d : List Deferred} {w W : World} {I J : Int} {G : Nat}
    (key : ∀ w5 g, R7 w I J w5 g → X ⟨#[t0, t1, t2, t3, t4, t5, t6, t7, t8, .pointer (some ⟨g, 0, none⟩), t10, t11, t12, t13, t14, t15, t16, t17, t18, t19, t20, t21, t22, t23, t24, t25, t26, t27, t28], d⟩ w5) (r : R7 w I J W G) :
    X ⟨#[t0, t1, t2, t3, t4, t5, t6, t7, t8, .pointer (some ⟨G, 0, none⟩), t10, t11, t12, t13, t14, t15, t16, t17, t18, t19, t20, t21, t22, t23, t24, t25, t26, t27, t28], d⟩ W := key W G r

set_option maxHeartbeats 40000000 in
theorem s_pack_any (f x a b p n H L I J q m M N I' J' : Int) (neg : Bool) (h0 : 0 ≤ f) (h1 : f ≤ 255) (hc : fC f = 0) (hp : fP f = p) (hn : IntKind.u64.wrap (p - 1) = n) (n0 : 0 ≤ n) (n1 : n ≤ 18446744073709551615)
    (hH : rHi x n = H) (hL : rLo x n = L) (hI : bits .or .u64 H a = I) (hJ : bits .or .u64 L b = J) (hq : fW f = q) (hm : q - 1 = m) (m0 : 0 ≤ m) (m1 : m ≤ 127) (hM : rHi 1 m = M) (hN : rLo 1 m = N) (hI' : bits .or .u64 I M = I') (hJ' : bits .or .u64 J N = J') (w : World) (hT : FAt w) :
    Calls Tryd.prog 51 #[.int .u8 f, .bool neg, .int .u64 x, .agg #[.int .u64 a, .int .u64 b]] w fun e w' => e = .returned (.agg #[.int .u64 (if neg then I' else I), .int .u64 (if neg then J' else J)]) ∧ Below w.heap.size w w' := by
  have k1 : Box (∀ w : World, FAt w → Calls Tryd.prog 76 #[.int .u8 f] w fun e w' => e = .returned (.int .u64 n) ∧ w' = w.alloc (.cells (fR f) 93)) := box (fun w hw => s_fraction f p n h0 h1 hp hn w hw)
  have k2 := box (s_raised x n H L n0 n1 hH hL)
  have k3 := box (s_join H L a b I J hI hJ)
  have k0 := box (s_check_is f 0 h0 h1 hc)
  have k4 : Box (∀ w : World, FAt w → Calls Tryd.prog 77 #[.int .u8 f] w fun e w' => e = .returned (.int .i64 q) ∧ w' = w.alloc (.cells (fR f) 93)) := box (fun w hw => s_width f q h0 h1 hq w hw)
  have k5 := box (s_raised 1 m M N m0 (by omega) hM hN)
  have k6 := box (s_join I J M N I' J' hI' hJ')
  have T0 := box hT
  have TT := box (fatB hT (btr7 (bal7 w (.cells #[.int .u64 a, .int .u64 b] 27)) (bal7 _ (.cells #[.int .u64 0, .int .u64 0] 27))))
  have e1 : IntKind.i64.wrap (q - 1) = m := by rw [hm, IntKind.wrap_i64]; omega
  have e2 : IntKind.u64.wrap m = m := by rw [IntKind.wrap_u64]; omega
  have e3 : IntKind.i64.wrap m = m := by rw [IntKind.wrap_i64]; omega
  clear hT hp hn hH hL hI hJ hc h0 h1 n0 n1 hq hM hN hI' hJ' m0 m1 hm
  go_enter Tryd.func51, Tryd.ntmps51
  go_wp2_with fail
  refine (k0.out _).mono ?_
  rintro r w' ⟨rfl, rfl⟩
  go_wp2_with fail
  apply cut7
  · intro key
    go_region_with (first
      | (go_at_call 76; refine (k1.out _ (by repeat (first | exact TT.out | refine fat_al ?_ _ | refine fat_dr ?_))).mono ?_; rintro r w2 ⟨rfl, rfl⟩)
      | (go_at_call 75; refine (k2.out _).mono ?_; rintro r w2 ⟨rfl, rfl⟩)
      | (go_at_call 74; refine (k3.out _).mono ?_; rintro r w2 ⟨rfl, rfl⟩))
    all_goals
      refine gen7 (w := w) (I := I) (J := J) key ⟨?_, ?_, ?_, ?_⟩
      · repeat (first | exact Below.refl _ _ | refine bel_dr ?_ | refine bel_al ?_ _)
      · repeat (first | refine row_dr ?_ | (refine row_last ?_; simp only [size_al]; done) | refine row_al ?_ _)
      · repeat (first | refine row_dr ?_ | (refine row_last ?_; simp only [size_al]; done) | refine row_al ?_ _)
      · omega
  rintro w5 g ⟨B5, R5, S5, hg⟩
  have F5 := box (fatB T0.out B5)
  have c50 := cell7 R5 0 _ rfl
  have c51 := cell7 R5 1 _ rfl
  cases neg
  · have q0 := fz (k := 0) S5
    have q1 := fz (k := 1) S5
    have d0 := cell7 S5 0 _ rfl
    have d1 := cell7 S5 1 _ rfl
    obtain ⟨E0, E1⟩ := set2_cells S5 (.int .u64 I) (.int .u64 J)
    go_wp2
    exact bodyPost_ret (v := .agg #[.int .u64 I, .int .u64 J]) (by simp [results, Tryd.results51, go_sem, E0, E1]) rfl ⟨rfl, set2_below B5 (by omega) _ _⟩
  · have r1 := row_al R5 (.cells (fR f) 93)
    have r2 := row_al r1 (.cells #[.int .u64 M, .int .u64 N] 27)
    have r5 := row_al (row_al (row_al r2 (.cells #[.int .u64 I, .int .u64 J] 27)) (.cells #[.int .u64 M, .int .u64 N] 27)) (.cells #[.int .u64 I', .int .u64 J'] 27)
    have s5 := row_al (row_al (row_al (row_al (row_al S5 (.cells (fR f) 93)) (.cells #[.int .u64 M, .int .u64 N] 27)) (.cells #[.int .u64 I, .int .u64 J] 27)) (.cells #[.int .u64 M, .int .u64 N] 27)) (.cells #[.int .u64 I', .int .u64 J'] 27)
    have Q5 : Box (R7 w I' J' _ g) := box ⟨set2_below (bel_al (bel_al (bel_al (bel_al (bel_al B5 _) _) _) _) _) (by omega) (.int .u64 I') (.int .u64 J'), set2_row r5 _ _, by rw [setCell_other (by omega), setCell_other (by omega)]; exact s5, hg⟩
    have c10 := cell7 r1 0 _ rfl
    have c11 := cell7 r1 1 _ rfl
    have c20 := cell7 r2 0 _ rfl
    have c21 := cell7 r2 1 _ rfl
    have q0 := fz (k := 0) r5
    have q1 := fz (k := 1) r5
    have e50 := cell7 r5 0 _ rfl
    have e51 := cell7 r5 1 _ rfl
    clear r1 r2 r5 s5
    go_wp2_with fail
    apply cut7
    · intro key
      go_region_with (first
        | (go_at_call 77; refine (k4.out _ (by repeat (first | exact F5.out | refine fat_al ?_ _ | refine fat_dr ?_))).mono ?_; rintro r w2 ⟨rfl, rfl⟩)
        | (go_at_call 75; refine (k5.out _).mono ?_; rintro r w2 ⟨rfl, rfl⟩)
        | (go_at_call 74; refine (k6.out _).mono ?_; rintro r w2 ⟨rfl, rfl⟩))
      all_goals
        refine gen7 (w := w) (I := I') (J := J') key ?_
        exact ⟨bel_dr Q5.out.1, row_dr Q5.out.2.1, row_dr Q5.out.2.2.1, hg⟩
    clear R5 S5 F5 c50 c51 c10 c11 c20 c21 q0 q1 e50 e51 B5
    rintro w6 g6 ⟨B6, R6, S6, hg6⟩
    have c60 := cell7 R6 0 _ rfl
    have c61 := cell7 R6 1 _ rfl
    have q0 := fz (k := 0) S6
    have q1 := fz (k := 1) S6
    have d0 := cell7 S6 0 _ rfl
    have d1 := cell7 S6 1 _ rfl
    obtain ⟨E0, E1⟩ := set2_cells S6 (.int .u64 I') (.int .u64 J')
    go_wp2
    exact bodyPost_ret (v := .agg #[.int .u64 I', .int .u64 J']) (by simp [results, Tryd.results51, go_sem, E0, E1]) rfl ⟨rfl, set2_below B6 (by omega) _ _⟩
def pkHi (f : Int) (neg : Bool) (x a : Int) : Int := if neg then bits .or .u64 (bits .or .u64 (rHi x (IntKind.u64.wrap (fP f - 1))) a) (rHi 1 (fW f - 1)) else bits .or .u64 (rHi x (IntKind.u64.wrap (fP f - 1))) a
def pkLo (f : Int) (neg : Bool) (x b : Int) : Int := if neg then bits .or .u64 (bits .or .u64 (rLo x (IntKind.u64.wrap (fP f - 1))) b) (rLo 1 (fW f - 1)) else bits .or .u64 (rLo x (IntKind.u64.wrap (fP f - 1))) b

theorem s_pack_is (f x a b I J : Int) (neg : Bool) (hf : Is4 f) (hI : pkHi f neg x a = I) (hJ : pkLo f neg x b = J) (w : World) (hT : FAt w) :
    Calls Tryd.prog 51 #[.int .u8 f, .bool neg, .int .u64 x, .agg #[.int .u64 a, .int .u64 b]] w fun e w' => e = .returned (.agg #[.int .u64 I, .int .u64 J]) ∧ Below w.heap.size w w' := by
  subst hI hJ
  have k : 0 ≤ IntKind.u64.wrap (fP f - 1) ∧ IntKind.u64.wrap (fP f - 1) ≤ 18446744073709551615 ∧ 0 ≤ fW f - 1 ∧ fW f - 1 ≤ 127 ∧ fC f = 0 ∧ 0 ≤ f ∧ f ≤ 255 := by
    rcases hf with rfl | rfl | rfl | rfl <;> decide +kernel
  have h := s_pack_any f x a b _ _ _ _ _ _ _ _ _ _ _ _ neg k.2.2.2.2.2.1 k.2.2.2.2.2.2 k.2.2.2.2.1 rfl rfl k.1 k.2.1 rfl rfl rfl rfl rfl rfl k.2.2.1 k.2.2.2.1 rfl rfl rfl rfl w hT
  refine h.mono ?_
  rintro r w' ⟨rfl, b⟩
  refine ⟨?_, b⟩
  cases neg <;> rfl

theorem top7 {f : Int} (h : Is4 f) : IntKind.u64.wrap (IntKind.u64.wrap (2 ^ min (fW f - fP f).toNat 64) - 1) = (oV f : Int) := by
  rcases h with rfl | rfl | rfl | rfl <;> decide +kernel

theorem s_top_is (f : Int) (hf : Is4 f) (w : World) (hT : FAt w) :
    Calls Tryd.prog 78 #[.int .u8 f] w fun e w' => e = .returned (.int .u64 (oV f : Nat)) ∧ Below w.heap.size w w' :=
  s_top f _ _ _ _ (is4_ok hf).1 (is4_ok hf).2.1 rfl rfl rfl (is4_ok hf).2.2.2 (top7 hf) w hT

theorem pk_Inf {f : Int} (h : Is4 f) (neg : Bool) : pkHi f neg ((oV f : Nat)) (0) = ((bv7 (eInf f neg)).1 : Nat) ∧ pkLo f neg ((oV f : Nat)) (0) = ((bv7 (eInf f neg)).2 : Nat) := by
  rcases h with rfl | rfl | rfl | rfl <;> cases neg <;> decide +kernel
theorem pk_Zero {f : Int} (h : Is4 f) (neg : Bool) : pkHi f neg (0) (0) = ((bv7 (eZero f neg)).1 : Nat) ∧ pkLo f neg (0) (0) = ((bv7 (eZero f neg)).2 : Nat) := by
  rcases h with rfl | rfl | rfl | rfl <;> cases neg <;> decide +kernel
theorem pk_Greatest {f : Int} (h : Is4 f) (neg : Bool) : pkHi f neg (((oV f : Nat) : Int) - 1) ((if rLo 1 (fP f - 1) = 0 then IntKind.u64.wrap (rHi 1 (fP f - 1) - 1) else rHi 1 (fP f - 1))) = ((bv7 (eGreatest f neg)).1 : Nat) ∧ pkLo f neg (((oV f : Nat) : Int) - 1) (IntKind.u64.wrap (rLo 1 (fP f - 1) - 1)) = ((bv7 (eGreatest f neg)).2 : Nat) := by
  rcases h with rfl | rfl | rfl | rfl <;> cases neg <;> decide +kernel

set_option maxHeartbeats 1000000 in
theorem s_inf (f : Int) (neg : Bool) (hf : Is4 f) (v : Nat) (hv : eInf f neg = v) (w : World) (hT : FAt w) :
    Calls Tryd.prog 54 #[.int .u8 f, .bool neg] w fun e w' => e = .returned (bitsV (bv7 v)) ∧ Below w.heap.size w w' := by
  subst hv
  have TT := box hT
  have P := box (pk_Inf hf neg)
  obtain ⟨x, y, hxy⟩ : ∃ x y, bv7 (eInf f neg) = (x, y) := ⟨_, _, rfl⟩
  rw [hxy] at P ⊢
  have e0 : bitsV (x, y) = .agg #[.int .u64 (x : Nat), .int .u64 (y : Nat)] := rfl
  rw [e0]
  have f4 := is4_ok hf
  clear hxy hT e0
  have R0 : (w.alloc (.cells #[.int .u64 0, .int .u64 0] 27)).heap[w.heap.size]? = some (.cells #[.int .u64 0, .int .u64 0] 27) := last7 _ _
  have B0 := bal7 w (.cells #[.int .u64 0, .int .u64 0] 27)
  go_enter Tryd.func54, Tryd.ntmps54
  go_wp2_with fail
  refine (s_top_is f hf _ (fatB TT.out B0)).mono ?_
  rintro r w1 ⟨rfl, b1⟩
  have B1 := btr7 B0 b1
  have R1 := heap_of b1 _ _ _ R0
  clear B0 R0 b1
  go_wp2_with fail
  refine (s_pack_is f _ 0 0 _ _ neg hf P.out.1 P.out.2 _ (fatB TT.out B1)).mono ?_
  rintro r w2 ⟨rfl, b2⟩
  have B2 := btr7 B1 b2
  have R2 := heap_of b2 _ _ _ R1
  clear B1 R1 b2
  have q0 := fz (k := 0) R2
  have q1 := fz (k := 1) R2
  have d0 := cell7 R2 0 _ rfl
  have d1 := cell7 R2 1 _ rfl
  obtain ⟨E0, E1⟩ := set2_cells R2 (.int .u64 x) (.int .u64 y)
  go_wp2
  exact bodyPost_ret (v := .agg #[.int .u64 x, .int .u64 y]) (by simp [results, Tryd.results54, go_sem, E0, E1]) rfl ⟨rfl, set2_below B2 (by omega) _ _⟩

set_option maxHeartbeats 1000000 in
theorem s_zero (f : Int) (neg : Bool) (hf : Is4 f) (v : Nat) (hv : eZero f neg = v) (w : World) (hT : FAt w) :
    Calls Tryd.prog 22 #[.int .u8 f, .bool neg] w fun e w' => e = .returned (bitsV (bv7 v)) ∧ Below w.heap.size w w' := by
  subst hv
  have TT := box hT
  have P := box (pk_Zero hf neg)
  obtain ⟨x, y, hxy⟩ : ∃ x y, bv7 (eZero f neg) = (x, y) := ⟨_, _, rfl⟩
  rw [hxy] at P ⊢
  have e0 : bitsV (x, y) = .agg #[.int .u64 (x : Nat), .int .u64 (y : Nat)] := rfl
  rw [e0]
  have f4 := is4_ok hf
  clear hxy hT e0
  have R0 : (w.alloc (.cells #[.int .u64 0, .int .u64 0] 27)).heap[w.heap.size]? = some (.cells #[.int .u64 0, .int .u64 0] 27) := last7 _ _
  have B0 := bal7 w (.cells #[.int .u64 0, .int .u64 0] 27)
  go_enter Tryd.func22, Tryd.ntmps22
  go_wp2_with fail
  refine (s_pack_is f 0 0 0 _ _ neg hf P.out.1 P.out.2 _ (fatB TT.out B0)).mono ?_
  rintro r w1 ⟨rfl, b1⟩
  have B1 := btr7 B0 b1
  have R1 := heap_of b1 _ _ _ R0
  clear B0 R0 b1
  have q0 := fz (k := 0) R1
  have q1 := fz (k := 1) R1
  have d0 := cell7 R1 0 _ rfl
  have d1 := cell7 R1 1 _ rfl
  obtain ⟨E0, E1⟩ := set2_cells R1 (.int .u64 x) (.int .u64 y)
  go_wp2
  exact bodyPost_ret (v := .agg #[.int .u64 x, .int .u64 y]) (by simp [results, Tryd.results22, go_sem, E0, E1]) rfl ⟨rfl, set2_below B1 (by omega) _ _⟩

set_option maxHeartbeats 1000000 in
theorem s_greatest (f : Int) (neg : Bool) (hf : Is4 f) (v : Nat) (hv : eGreatest f neg = v) (w : World) (hT : FAt w) :
    Calls Tryd.prog 53 #[.int .u8 f, .bool neg] w fun e w' => e = .returned (bitsV (bv7 v)) ∧ Below w.heap.size w w' := by
  subst hv
  have TT := box hT
  have P := box (pk_Greatest hf neg)
  obtain ⟨x, y, hxy⟩ : ∃ x y, bv7 (eGreatest f neg) = (x, y) := ⟨_, _, rfl⟩
  rw [hxy] at P ⊢
  have e0 : bitsV (x, y) = .agg #[.int .u64 (x : Nat), .int .u64 (y : Nat)] := rfl
  rw [e0]
  have f4 := is4_ok hf
  clear hxy hT e0
  obtain ⟨p, hp⟩ : ∃ p : Int, fP f = p := ⟨_, rfl⟩
  obtain ⟨n, hn⟩ : ∃ n : Int, fP f - 1 = n := ⟨_, rfl⟩
  obtain ⟨H, hH⟩ : ∃ n : Int, rHi 1 (fP f - 1) = n := ⟨_, rfl⟩
  obtain ⟨L, hL⟩ : ∃ n : Int, rLo 1 (fP f - 1) = n := ⟨_, rfl⟩
  obtain ⟨K, hK⟩ : ∃ n : Int, (if L = 0 then IntKind.u64.wrap (H - 1) else H) = n := ⟨_, rfl⟩
  obtain ⟨M, hM⟩ : ∃ n : Int, IntKind.u64.wrap (L - 1) = n := ⟨_, rfl⟩
  obtain ⟨E, hE⟩ : ∃ n : Int, ((oV f : Nat) : Int) - 1 = n := ⟨_, rfl⟩
  have n0 : 0 ≤ n := by rw [← hn]; rcases hf with rfl | rfl | rfl | rfl <;> decide +kernel
  have n1 : n ≤ 18446744073709551615 := by rw [← hn]; rcases hf with rfl | rfl | rfl | rfl <;> decide +kernel
  have HN : Box (IntKind.u64.wrap (p - 1) = n) := box (by rw [← hn, ← hp]; rcases hf with rfl | rfl | rfl | rfl <;> decide +kernel)
  have w1 : IntKind.u64.wrap (((oV f : Nat) : Int) - 1) = E := by rw [← hE]; rcases hf with rfl | rfl | rfl | rfl <;> decide +kernel
  rw [hL, hH, hK, hM, hE] at P
  have HP := box hp
  have HH : Box (rHi 1 n = H) := box (by rw [← hn]; exact hH)
  have HL : Box (rLo 1 n = L) := box (by rw [← hn]; exact hL)
  have HK := box hK
  have HM := box hM
  clear hp hn hH hL hK hM hE
  have R0 : (w.alloc (.cells #[.int .u64 0, .int .u64 0] 27)).heap[w.heap.size]? = some (.cells #[.int .u64 0, .int .u64 0] 27) := last7 _ _
  have B0 := bal7 w (.cells #[.int .u64 0, .int .u64 0] 27)
  go_enter Tryd.func53, Tryd.ntmps53
  go_wp2_with fail
  refine (s_top_is f hf _ (fatB TT.out B0)).mono ?_
  rintro r w1 ⟨rfl, b1⟩
  have B1 := btr7 B0 b1
  have R1 := heap_of b1 _ _ _ R0
  clear B0 R0 b1
  go_wp2_with fail
  refine (s_fraction f p n f4.1 f4.2.1 HP.out HN.out _ (fatB TT.out B1)).mono ?_
  rintro r w' ⟨rfl, rfl⟩
  have B2 := bel_al B1 (.cells (fR f) 93)
  have R2 := row_al R1 (.cells (fR f) 93)
  clear B1 R1
  go_wp2_with fail
  refine (s_ones n H L n0 n1 HH.out HL.out K M HK.out HM.out _).mono ?_
  rintro r w3 ⟨rfl, b3⟩
  have B3 := btr7 B2 b3
  have R3 := heap_of b3 _ _ _ R2
  clear B2 R2 b3
  go_wp2_with fail
  refine (s_pack_is f E K M _ _ neg hf P.out.1 P.out.2 _ (fatB TT.out B3)).mono ?_
  rintro r w4 ⟨rfl, b4⟩
  have B4 := btr7 B3 b4
  have R4 := heap_of b4 _ _ _ R3
  clear B3 R3 b4
  have q0 := fz (k := 0) R4
  have q1 := fz (k := 1) R4
  have d0 := cell7 R4 0 _ rfl
  have d1 := cell7 R4 1 _ rfl
  obtain ⟨E0, E1⟩ := set2_cells R4 (.int .u64 x) (.int .u64 y)
  go_wp2
  exact bodyPost_ret (v := .agg #[.int .u64 x, .int .u64 y]) (by simp [results, Tryd.results53, go_sem, E0, E1]) rfl ⟨rfl, set2_below B4 (by omega) _ _⟩

theorem fP_lim {f m : Int} (h : fP f = m) : 0 ≤ m ∧ m ≤ 113 := by rw [← h]; unfold fP; split <;> (try split) <;> (try split) <;> (try split) <;> omega
theorem fW_lim {f m : Int} (h : fW f = m) : 0 ≤ m ∧ m ≤ 128 := by rw [← h]; unfold fW; split <;> (try split) <;> (try split) <;> (try split) <;> omega

theorem lt_Q7 {v : Nat} (h : v < 340282366920938463463374607431768211456) : v < Q := by
  have := bits_ltQ (v % 18446744073709551616) (v / 18446744073709551616) (Nat.mod_lt _ (by decide)) (by omega)
  omega
theorem wd01 {v : Nat} (h : v < 340282366920938463463374607431768211456) : wd v 0 = v % 18446744073709551616 ∧ wd v 1 = v / 18446744073709551616 := by
  constructor
  · unfold wd; rw [Nat.mul_zero, Nat.pow_zero, Nat.div_one]
  · unfold wd; rw [show 2 ^ (64 * 1) = 18446744073709551616 by decide, Nat.mod_eq_of_lt (by omega)]

theorem bel_set {w W : World} {b : Nat} {c : Array Value} (h : Below w.heap.size w W) (hb : w.heap.size ≤ b) : Below w.heap.size w (W.setRow b c) := Below.setRow h hb

end Go.Proofs.YtpdehipeakcaiaaDoor
namespace Go.Proofs.YtpdehipeakcaiaaDoor
set_option maxRecDepth 100000
set_option maxHeartbeats 40000000
set_option maxRecDepth 100000
open Go.RowKit WMath
set_option linter.unusedVariables false
theorem andnot7 (x c m : Nat) (hx : x < 18446744073709551616) (hc : c ≤ 64) (hm : 2 ^ c - 1 = m) : (bits .andNot .u64 (x : Int) (m : Int) == 0) = decide (x < 2 ^ c) := by
  have e : bits .andNot .u64 (x : Int) (m : Int) = (((BitVec.ofNat 64 x &&& ~~~ BitVec.ofNat 64 m).toNat : Nat) : Int) := by
    show IntKind.u64.wrap ((BitVec.ofInt 64 (x : Int) &&& ~~~ BitVec.ofInt 64 (m : Int)).toNat : Int) = _
    rw [BitVec.ofInt_natCast, BitVec.ofInt_natCast, IntKind.wrap_u64]
    have := (BitVec.ofNat 64 x &&& ~~~ BitVec.ofNat 64 m).isLt
    generalize (BitVec.ofNat 64 x &&& ~~~ BitVec.ofNat 64 m).toNat = t at *
    omega
  rw [e]
  by_cases h : x < 2 ^ c
  · rw [decide_eq_true h]
    have z : BitVec.ofNat 64 x &&& ~~~ BitVec.ofNat 64 m = 0#64 := by
      apply BitVec.eq_of_getLsbD_eq
      intro i hi
      simp only [BitVec.getLsbD_and, BitVec.getLsbD_not, BitVec.getLsbD_ofNat, hi, decide_true, Bool.true_and]
      rw [← hm, Nat.testBit_two_pow_sub_one]
      by_cases hic : i < c
      · simp [hic]
      · rw [Nat.testBit_lt_two_pow (Nat.lt_of_lt_of_le h (Nat.pow_le_pow_right (by decide) (by omega)))]
        simp
    rw [z]
    rfl
  · rw [decide_eq_false h]
    simp only [beq_eq_false_iff_ne, ne_eq]
    intro z
    apply h
    apply Nat.lt_pow_two_of_testBit
    intro i hi
    by_cases h6 : i < 64
    · have z2 : (BitVec.ofNat 64 x &&& ~~~ BitVec.ofNat 64 m).getLsbD i = false := by
        have : BitVec.ofNat 64 x &&& ~~~ BitVec.ofNat 64 m = 0#64 := BitVec.eq_of_toNat_eq (by simpa using (by omega : (BitVec.ofNat 64 x &&& ~~~ BitVec.ofNat 64 m).toNat = 0))
        rw [this]; simp
      simp only [BitVec.getLsbD_and, BitVec.getLsbD_not, BitVec.getLsbD_ofNat, h6, decide_true, Bool.true_and] at z2
      rw [← hm, Nat.testBit_two_pow_sub_one] at z2
      have : decide (i < c) = false := by simp; omega
      rw [this] at z2
      simpa using z2
    · exact Nat.testBit_lt_two_pow (Nat.lt_of_lt_of_le hx (by rw [show 18446744073709551616 = 2 ^ 64 by decide]; exact Nat.pow_le_pow_right (by decide) (by omega)))

def oHi (f : Int) : Int := if rLo 1 (fW f) = 0 then IntKind.u64.wrap (rHi 1 (fW f) - 1) else rHi 1 (fW f)
def oLo (f : Int) : Int := IntKind.u64.wrap (rLo 1 (fW f) - 1)

theorem s_fits_no (f : Int) (b : Nat × Nat) (h0 : 0 ≤ f) (h1 : f ≤ 255) (hc : fC f = 2) (w : World) (hT : FAt w) :
    Calls Tryd.prog 58 #[.int .u8 f, bitsV b] w fun e w' => e = .returned (.bool false) ∧ Below w.heap.size w w' := by
  have hq : fW f = 0 := by
    unfold fC at hc
    unfold fW
    split at hc
    · simp at hc
    · rename_i h; rw [if_neg (fun e => h (Or.inl e)), if_neg (fun e => h (Or.inr (Or.inl e))), if_neg (fun e => h (Or.inr (Or.inr (Or.inl e)))), if_neg (fun e => h (Or.inr (Or.inr (Or.inr e))))]
  have TT := box hT
  unfold bitsV
  have B0 := bal7 w (.cells #[.int .u64 b.1, .int .u64 b.2] 27)
  go_enter Tryd.func58, Tryd.ntmps58
  go_wp2_with fail
  refine (s_width f 0 h0 h1 hq _ (fatB TT.out B0)).mono ?_
  rintro r w' ⟨rfl, rfl⟩
  have B1 := bel_al B0 (.cells (fR f) 93)
  clear B0
  go_wp2_with fail
  refine (s_ones 0 0 1 (by decide) (by decide) rfl rfl 0 0 rfl rfl _).mono ?_
  rintro r w2 ⟨rfl, b2⟩
  have B2 := bel_al (btr7 B1 b2) (.cells #[.int .u64 0, .int .u64 0] 27)
  clear B1 b2
  go_wp2_with fail
  refine (s_check_is f 2 h0 h1 hc _).mono ?_
  rintro r w' ⟨rfl, rfl⟩
  go_wp2
  go_ret
  exact ⟨rfl, B2⟩

set_option maxHeartbeats 1000000 in
theorem s_fits (f : Int) (b : Nat × Nat) (o : Bool) (hf : Is4 f) (hb1 : b.1 < 18446744073709551616) (hb2 : b.2 < 18446744073709551616) (p q : Bool) (hp : (bits .andNot .u64 (b.1 : Int) (oHi f) == 0) = p) (hq : (bits .andNot .u64 (b.2 : Int) (oLo f) == 0) = q) (ho : (p && q) = o) (w : World) (hT : FAt w) :
    Calls Tryd.prog 58 #[.int .u8 f, bitsV b] w fun e w' => e = .returned (.bool o) ∧ Below w.heap.size w w' := by
  have TT := box hT
  have f4 := is4_ok hf
  unfold bitsV
  obtain ⟨b1, b2⟩ := b
  simp only at hb1 hb2 hp hq
  obtain ⟨W, hW⟩ : ∃ W : Int, fW f = W := ⟨_, rfl⟩
  obtain ⟨K, hK⟩ : ∃ W : Int, oHi f = W := ⟨_, rfl⟩
  obtain ⟨M, hM⟩ : ∃ W : Int, oLo f = W := ⟨_, rfl⟩
  rw [hK] at hp
  rw [hM] at hq
  have w0 : IntKind.u64.wrap W = W := by rw [← hW]; rcases hf with rfl | rfl | rfl | rfl <;> decide +kernel
  have wl := fW_lim hW
  have KO : Box (∀ w : World, Calls Tryd.prog 79 #[.int .u64 W] w fun e w' => e = .returned (.agg #[.int .u64 K, .int .u64 M]) ∧ Below w.heap.size w w') := box (fun w => s_ones W _ _ (by omega) (by omega) rfl rfl K M (by rw [← hK, ← hW]; rfl) (by rw [← hM, ← hW]; rfl) w)
  have R0 : (w.alloc (.cells #[.int .u64 b1, .int .u64 b2] 27)).heap[w.heap.size]? = some (.cells #[.int .u64 b1, .int .u64 b2] 27) := last7 _ _
  have B0 := bal7 w (.cells #[.int .u64 b1, .int .u64 b2] 27)
  have HW := box hW
  clear hT hW hK hM hb1 hb2 hf wl
  go_enter Tryd.func58, Tryd.ntmps58
  go_wp2_with fail
  refine (s_width f W f4.1 f4.2.1 HW.out _ (fatB TT.out B0)).mono ?_
  rintro r w' ⟨rfl, rfl⟩
  have B1 := bel_al B0 (.cells (fR f) 93)
  have R1 := row_al R0 (.cells (fR f) 93)
  clear B0 R0
  go_wp2_with fail
  refine (KO.out _).mono ?_
  rintro r w2 ⟨rfl, b2'⟩
  have R2 := row_al (heap_of b2' _ _ _ R1) (.cells #[.int .u64 K, .int .u64 M] 27)
  have B2 := bel_al (btr7 B1 b2') (.cells #[.int .u64 K, .int .u64 M] 27)
  have c0 := cell7 R2 0 _ rfl
  have c1 := cell7 R2 1 _ rfl
  clear B1 b2' R1
  go_wp2_with fail
  refine (s_check_is f 0 f4.1 f4.2.1 f4.2.2.1 _).mono ?_
  rintro r w' ⟨rfl, rfl⟩
  cases p <;> cases q <;> subst ho
  · go_wp2
    go_ret
    exact ⟨rfl, B2⟩
  · go_wp2
    go_ret
    exact ⟨rfl, B2⟩
  · go_wp2
    go_ret
    exact ⟨rfl, B2⟩
  · go_wp2
    go_ret
    exact ⟨rfl, B2⟩
theorem no7 {f : Int} (h : 3 < f) : fC f = 2 ∧ fW f = 0 ∧ fP f = 0 ∧ fE f = 0 := by
  refine ⟨?_, ?_, ?_, ?_⟩
  · unfold fC; rw [if_neg (by omega)]
  · unfold fW; rw [if_neg (by omega), if_neg (by omega), if_neg (by omega), if_neg (by omega)]
  · unfold fP; rw [if_neg (by omega), if_neg (by omega), if_neg (by omega), if_neg (by omega)]
  · unfold fE; rw [if_neg (by omega), if_neg (by omega), if_neg (by omega), if_neg (by omega)]
theorem is4_of {f : Int} (h0 : 0 ≤ f) (h : f ≤ 3) : Is4 f := by unfold Is4; omega


theorem blen_iff (n W : Nat) : blen n ≤ W ↔ n < 2 ^ W := by
  constructor
  · intro h
    exact Nat.lt_of_lt_of_le (blen_lt n) (Nat.pow_le_pow_right (by decide) h)
  · exact blen_le_of n W

theorem fit7 (f : Int) (hf : Is4 f) (b1 b2 : Nat) (hb1 : b1 < 18446744073709551616) (hb2 : b2 < 18446744073709551616) :
    ((bits .andNot .u64 (b1 : Int) (oHi f) == 0) && (bits .andNot .u64 (b2 : Int) (oLo f) == 0)) = decide (((blen (b2 + 18446744073709551616 * b1) : Nat) : Int) ≤ fW f) := by
  have key : ∀ (c d W : Nat) (K M : Nat), c ≤ 64 → d ≤ 64 → 2 ^ c - 1 = K → 2 ^ d - 1 = M → oHi f = (K : Int) → oLo f = (M : Int) → fW f = (W : Int) →
      ((b1 < 2 ^ c ∧ b2 < 2 ^ d) ↔ b2 + 18446744073709551616 * b1 < 2 ^ W) → ((bits .andNot .u64 (b1 : Int) (oHi f) == 0) && (bits .andNot .u64 (b2 : Int) (oLo f) == 0)) = decide (((blen (b2 + 18446744073709551616 * b1) : Nat) : Int) ≤ fW f) := by
    intro c d W K M hc hd hK hM e1 e2 e3 h
    rw [e1, e2, e3, andnot7 b1 c K hb1 hc hK, andnot7 b2 d M hb2 hd hM]
    have h2 : (((blen (b2 + 18446744073709551616 * b1) : Nat) : Int) ≤ (W : Int)) ↔ (b1 < 2 ^ c ∧ b2 < 2 ^ d) := by
      rw [h, ← blen_iff]; omega
    rw [← Bool.decide_and]
    exact decide_eq_decide.2 h2.symm
  rcases hf with rfl | rfl | rfl | rfl
  · exact key 0 32 32 0 4294967295 (by decide) (by decide) (by decide) (by decide) (by decide +kernel) (by decide +kernel) (by decide +kernel) (by simp only [Nat.reducePow]; omega)
  · exact key 0 64 64 0 18446744073709551615 (by decide) (by decide) (by decide) (by decide) (by decide +kernel) (by decide +kernel) (by decide +kernel) (by simp only [Nat.reducePow]; omega)
  · exact key 0 16 16 0 65535 (by decide) (by decide) (by decide) (by decide) (by decide +kernel) (by decide +kernel) (by decide +kernel) (by simp only [Nat.reducePow]; omega)
  · exact key 64 64 128 18446744073709551615 18446744073709551615 (by decide) (by decide) (by decide) (by decide) (by decide +kernel) (by decide +kernel) (by decide +kernel) (by simp only [Nat.reducePow]; omega)

def fitsB (f : Int) (b : Nat × Nat) : Bool := decide (f ≤ 3) && decide (((blen (b.2 + 18446744073709551616 * b.1) : Nat) : Int) ≤ fW f)
theorem s_fits_is (f : Int) (b : Nat × Nat) (o : Bool) (h0 : 0 ≤ f) (h1 : f ≤ 255) (hb1 : b.1 < 18446744073709551616) (hb2 : b.2 < 18446744073709551616) (ho : fitsB f b = o) (w : World) (hT : FAt w) :
    Calls Tryd.prog 58 #[.int .u8 f, bitsV b] w fun e w' => e = .returned (.bool o) ∧ Below w.heap.size w w' := by
  by_cases h : f ≤ 3
  · refine s_fits f b o (is4_of h0 h) hb1 hb2 _ _ rfl rfl ?_ w hT
    rw [fit7 f (is4_of h0 h) b.1 b.2 hb1 hb2, ← ho]
    unfold fitsB
    rw [decide_eq_true h, Bool.true_and]
  · have e : o = false := by rw [← ho]; unfold fitsB; rw [decide_eq_false h, Bool.false_and]
    subst e
    exact s_fits_no f b h0 h1 (no7 (by omega)).1 w hT
end Go.Proofs.YtpdehipeakcaiaaDoor
