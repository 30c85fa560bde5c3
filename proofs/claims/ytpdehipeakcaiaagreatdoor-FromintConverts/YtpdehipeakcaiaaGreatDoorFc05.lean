/-
  What the functions that the statement reaches return: part 5 (Xmath, X1, X2, X3m, X4, X5, X7, X9).
-/
import Derived.Lib.MinMax
import Derived.Test.YtpdehipeakcaiaaGreatDoorFc04
namespace Go.Proofs.YtpdehipeakcaiaaGreatDoor.XMath
set_option maxRecDepth 100000
set_option maxHeartbeats 40000000
set_option maxRecDepth 100000
open WMath
def tz (n : Nat) : Nat := if h : n = 0 ∨ n % 2 = 1 then 0 else tz (n / 2) + 1
termination_by n
decreasing_by omega
theorem tz_odd (n : Nat) (h : n % 2 = 1) : tz n = 0 := by rw [tz, dif_pos (Or.inr h)]
theorem tz_even (n : Nat) (h0 : n ≠ 0) (h : n % 2 = 0) : tz n = tz (n / 2) + 1 := by rw [tz, dif_neg (by omega)]
theorem tz_is (n : Nat) (h : n ≠ 0) : ∃ m, n = m * 2 ^ tz n ∧ m % 2 = 1 := by
  induction n using Nat.strongRecOn with
  | _ n ih =>
    by_cases h1 : n % 2 = 1
    · exact ⟨n, by rw [tz_odd n h1, Nat.pow_zero, Nat.mul_one], h1⟩
    · obtain ⟨m, hm, ho⟩ := ih (n / 2) (by omega) (by omega)
      refine ⟨m, ?_, ho⟩
      rw [tz_even n h (by omega), Nat.pow_succ, ← Nat.mul_assoc, ← hm]
      omega
def od (n : Nat) : Nat := n / 2 ^ tz n
theorem od_is (n : Nat) (h : n ≠ 0) : n = od n * 2 ^ tz n ∧ od n % 2 = 1 := by
  obtain ⟨m, hm, ho⟩ := tz_is n h
  have e : od n = m := by
    unfold od
    generalize tz n = k at hm ⊢
    rw [hm]
    exact Nat.mul_div_cancel _ (Nat.two_pow_pos _)
  rw [e]
  exact ⟨hm, ho⟩
theorem od_odd (n : Nat) (h : n % 2 = 1) : od n = n := by unfold od; rw [tz_odd n h, Nat.pow_zero, Nat.div_one]
theorem od_le (n : Nat) : od n ≤ n := Nat.div_le_self _ _
theorem tz_low (n : Nat) : LowN n (tz n) := by
  by_cases h : n = 0
  · left
    exact ⟨h, by rw [h, tz, dif_pos (Or.inl rfl)]⟩
  · right
    obtain ⟨h1, h2⟩ := od_is n h
    refine ⟨h, ?_, ?_⟩
    · generalize tz n = k at h1
      rw [h1, Nat.mul_mod_left]
    · rw [Nat.testBit, Nat.shiftRight_eq_div_pow]
      have e : n / 2 ^ tz n = od n := rfl
      rw [e]
      simp only [Nat.one_and_eq_mod_two, bne_iff_ne, ne_eq]
      omega
theorem tz_blen (n : Nat) : tz n ≤ blen n := by
  by_cases h : n = 0
  · rw [h, tz, dif_pos (Or.inl rfl)]; omega
  · obtain ⟨h1, h2⟩ := od_is n h
    have h3 : 2 ^ tz n ≤ n := by
      generalize tz n = k at h1 ⊢
      rw [h1]
      exact Nat.le_mul_of_pos_left _ (by omega)
    have h4 := blen_lt n
    exact Nat.le_of_lt ((Nat.pow_lt_pow_iff_right (by decide : 1 < 2)).1 (Nat.lt_of_le_of_lt h3 h4))

structure XN where
  b : Bool
  n : Nat
  d : Nat
  e : Int
def XN.can (x : XN) : Prop := nl x.n ≤ 16384 ∧ nl x.d ≤ 16384 ∧ -1048576 ≤ x.e ∧ x.e ≤ 1048576 ∧ ((x.b = false ∧ x.n = 0 ∧ x.d = 1 ∧ x.e = 0) ∨ (x.n % 2 = 1 ∧ x.d % 2 = 1 ∧ Nat.gcd x.n x.d = 1))
def sgn (b : Bool) : Rat := if b then -1 else 1
def XN.val (x : XN) : Rat := sgn x.b * ((x.n : Rat) / (x.d : Rat)) * (2 : Rat) ^ x.e
def X0 : XN := ⟨false, 0, 1, 0⟩
def XZ : XN := ⟨false, 0, 0, 0⟩
theorem XN.can.d {x : XN} (h : x.can) : x.d % 2 = 1 := by rcases h.2.2.2.2 with h | h <;> omega
theorem XN.can.d0 {x : XN} (h : x.can) : x.d ≠ 0 := by have := h.d; omega
theorem XN.can.null {x : XN} (h : x.can) (h0 : x.n = 0) : x = X0 := by
  rcases h.2.2.2.2 with h | h
  · cases x; simp_all [X0]
  · omega
theorem XN.can.odd {x : XN} (h : x.can) (h0 : x.n ≠ 0) : x.n % 2 = 1 ∧ x.d % 2 = 1 ∧ Nat.gcd x.n x.d = 1 := by
  rcases h.2.2.2.2 with h | h
  · exact absurd h.2.1 h0
  · exact h
theorem x0_can : X0.can := ⟨Nat.le_trans (nl_mono 0 1 (by decide)) (Nat.le_trans (nl_le_of 1 1 (by decide)) (by decide)), Nat.le_trans (nl_le_of 1 1 (by decide)) (by decide), by decide, by decide, Or.inl ⟨rfl, rfl, rfl, rfl⟩⟩

def mk (neg : Bool) (n d : Nat) (e : Int) : XN × Int :=
  if n = 0 then (X0, 0)
  else if -1048576 ≤ e + (tz n : Int) - (tz d : Int) ∧ e + (tz n : Int) - (tz d : Int) ≤ 1048576 then (⟨neg, od n / Nat.gcd (od n) (od d), od d / Nat.gcd (od n) (od d), e + (tz n : Int) - (tz d : Int)⟩, 0)
  else (XZ, 4)
theorem mk_null (neg : Bool) (d : Nat) (e : Int) : mk neg 0 d e = (X0, 0) := by unfold mk; rw [if_pos rfl]
theorem div_odd (a g : Nat) (h : g ∣ a) (ha : a % 2 = 1) : a / g % 2 = 1 := by
  obtain ⟨k, rfl⟩ := h
  have g0 : 0 < g := by
    rcases Nat.eq_zero_or_pos g with h | h
    · rw [h, Nat.zero_mul] at ha; omega
    · exact h
  rw [Nat.mul_div_cancel_left _ g0]
  rcases Nat.mod_two_eq_zero_or_one k with h | h
  · rw [Nat.mul_mod, h, Nat.mul_zero] at ha; omega
  · exact h
theorem mul_odd (a b : Nat) (ha : a % 2 = 1) (hb : b % 2 = 1) : a * b % 2 = 1 := by rw [Nat.mul_mod, ha, hb]
theorem mk_can (neg : Bool) (n d : Nat) (e : Int) (hn : nl n ≤ 16384) (hd : nl d ≤ 16384) (d0 : d ≠ 0) (h : (mk neg n d e).2 = 0) : (mk neg n d e).1.can := by
  unfold mk at h ⊢
  split
  · exact x0_can
  · rename_i n0
    rw [if_neg n0] at h
    split
    · rename_i hb
      obtain ⟨h1, h2⟩ := od_is n n0
      obtain ⟨h3, h4⟩ := od_is d d0
      have g1 := Nat.gcd_dvd_left (od n) (od d)
      have g2 := Nat.gcd_dvd_right (od n) (od d)
      refine ⟨Nat.le_trans (nl_mono _ _ (Nat.le_trans (Nat.div_le_self _ _) (od_le n))) hn, Nat.le_trans (nl_mono _ _ (Nat.le_trans (Nat.div_le_self _ _) (od_le d))) hd, hb.1, hb.2, Or.inr ⟨div_odd _ _ g1 h2, div_odd _ _ g2 h4, ?_⟩⟩
      show Nat.gcd (od n / Nat.gcd (od n) (od d)) (od d / Nat.gcd (od n) (od d)) = 1
      rw [Nat.gcd_div g1 g2]
      exact Nat.div_self (Nat.gcd_pos_of_pos_left _ (by omega))
    · rename_i hb
      rw [if_neg hb] at h
      exact absurd h (by decide)
theorem p2 (e : Int) : (0 : Rat) < (2 : Rat) ^ e := Rat.zpow_pos (by decide)
theorem p2ne (e : Int) : (2 : Rat) ^ e ≠ 0 := Rat.ne_of_gt (p2 e)
theorem p2add (e f : Int) : (2 : Rat) ^ (e + f) = (2 : Rat) ^ e * (2 : Rat) ^ f := Rat.zpow_add (by decide) e f
theorem p2nat (n : Nat) : (2 : Rat) ^ (n : Int) = ((2 ^ n : Nat) : Rat) := by rw [Rat.zpow_natCast, Rat.natCast_pow]; rfl
theorem p2sub (e f : Int) : (2 : Rat) ^ (e - f) * (2 : Rat) ^ f = (2 : Rat) ^ e := by rw [← p2add, Int.sub_add_cancel]
theorem mk_val (neg : Bool) (n d : Nat) (e : Int) (d0 : d ≠ 0) (h : (mk neg n d e).2 = 0) : (mk neg n d e).1.val = sgn neg * ((n : Rat) / (d : Rat)) * (2 : Rat) ^ e := by
  unfold mk at h ⊢
  split
  · rename_i n0
    rw [n0]
    show sgn false * (((0 : Nat) : Rat) / ((1 : Nat) : Rat)) * (2 : Rat) ^ (0 : Int) = sgn neg * (((0 : Nat) : Rat) / (d : Rat)) * (2 : Rat) ^ e
    have : ((0 : Nat) : Rat) = 0 := rfl
    rw [this]
    simp [Rat.div_def]
  · rename_i n0
    rw [if_neg n0] at h
    split
    · rename_i hb
      obtain ⟨h1, h2⟩ := od_is n n0
      obtain ⟨h3, h4⟩ := od_is d d0
      obtain ⟨n', e1⟩ := Nat.gcd_dvd_left (od n) (od d)
      obtain ⟨d', e2⟩ := Nat.gcd_dvd_right (od n) (od d)
      have g0 : 0 < Nat.gcd (od n) (od d) := Nat.gcd_pos_of_pos_left _ (by omega)
      show sgn neg * (((od n / Nat.gcd (od n) (od d) : Nat) : Rat) / ((od d / Nat.gcd (od n) (od d) : Nat) : Rat)) * (2 : Rat) ^ (e + (tz n : Int) - (tz d : Int)) = _
      generalize Nat.gcd (od n) (od d) = g at *
      have c1 : od n / g = n' := by rw [e1]; exact Nat.mul_div_cancel_left _ g0
      have c2 : od d / g = d' := by rw [e2]; exact Nat.mul_div_cancel_left _ g0
      rw [c1, c2]
      have d'0 : d' ≠ 0 := by
        intro hz
        rw [hz, Nat.mul_zero] at e2
        omega
      rw [e1] at h1
      rw [e2] at h3
      have k1 : (n : Rat) = (g : Rat) * (n' : Rat) * (2 : Rat) ^ (tz n : Int) := by
        rw [p2nat, ← Rat.natCast_mul, ← Rat.natCast_mul, ← h1]
      have k2 : (d : Rat) = (g : Rat) * (d' : Rat) * (2 : Rat) ^ (tz d : Int) := by
        rw [p2nat, ← Rat.natCast_mul, ← Rat.natCast_mul, ← h3]
      have k3 := p2sub (e + (tz n : Int)) (tz d : Int)
      rw [p2add e] at k3
      have z1 := p2ne (tz d : Int)
      have z2 : (g : Rat) ≠ 0 := fun h => by rw [Rat.natCast_eq_zero_iff] at h; omega
      have z3 : (d' : Rat) ≠ 0 := fun h => d'0 (Rat.natCast_eq_zero_iff.1 h)
      rw [k1, k2]
      generalize (2 : Rat) ^ (e + (tz n : Int) - (tz d : Int)) = E at *
      generalize (2 : Rat) ^ (tz d : Int) = D at *
      generalize (2 : Rat) ^ (tz n : Int) = N at *
      generalize (2 : Rat) ^ e = F at *
      grind
    · rename_i hb
      rw [if_neg hb] at h
      exact absurd h (by decide)

theorem cast_ne {n : Nat} (h : n ≠ 0) : (n : Rat) ≠ 0 := fun e => h (Rat.natCast_eq_zero_iff.1 e)
theorem cast_pos {n : Nat} (h : n ≠ 0) : (0 : Rat) < (n : Rat) := Rat.natCast_pos.2 (by omega)
theorem sgn_ne (b : Bool) : sgn b ≠ 0 := by cases b <;> decide
def XN.mag (x : XN) : Rat := ((x.n : Rat) / (x.d : Rat)) * (2 : Rat) ^ x.e
theorem val_mag (x : XN) : x.val = sgn x.b * x.mag := by unfold XN.val XN.mag; rw [Rat.mul_assoc]
theorem mag_pos (x : XN) (hn : x.n ≠ 0) (hd : x.d ≠ 0) : 0 < x.mag := by
  unfold XN.mag
  rw [Rat.div_def]
  exact Rat.mul_pos (Rat.mul_pos (cast_pos hn) (Rat.inv_pos.2 (cast_pos hd))) (p2 _)
theorem mag_zero (x : XN) (hn : x.n = 0) : x.mag = 0 := by
  unfold XN.mag
  rw [hn]
  have : ((0 : Nat) : Rat) = 0 := rfl
  rw [this, Rat.div_def, Rat.zero_mul, Rat.zero_mul]
theorem mag_shift (x y : XN) (dx : x.d ≠ 0) (m : Int) (hm : m ≤ x.e) :
    x.mag * ((x.d * y.d : Nat) : Rat) = ((x.n * y.d * 2 ^ (x.e - m).toNat : Nat) : Rat) * (2 : Rat) ^ m := by
  have e1 : (2 : Rat) ^ x.e = (2 : Rat) ^ ((x.e - m).toNat : Int) * (2 : Rat) ^ m := by
    rw [← p2add]
    congr 1
    omega
  unfold XN.mag
  rw [Rat.natCast_mul, Rat.natCast_mul, Rat.natCast_mul, ← p2nat, e1]
  have z1 := cast_ne dx
  generalize (2 : Rat) ^ ((x.e - m).toNat : Int) = A at *
  generalize (2 : Rat) ^ m = B at *
  grind
theorem mag_one (x y : XN) (hx : x.n % 2 = 1 ∧ x.d % 2 = 1 ∧ Nat.gcd x.n x.d = 1) (hy : y.n % 2 = 1 ∧ y.d % 2 = 1 ∧ Nat.gcd y.n y.d = 1) (hle : x.e ≤ y.e) (h : x.mag = y.mag) : x.n = y.n ∧ x.d = y.d ∧ x.e = y.e := by
  have d1 : x.d ≠ 0 := by omega
  have d2 : y.d ≠ 0 := by omega
  have m1 := mag_shift x y d1 x.e (Int.le_refl _)
  have m2 := mag_shift y x d2 x.e hle
  rw [h, Nat.mul_comm x.d y.d, m2] at m1
  have m3 : ((y.n * x.d * 2 ^ (y.e - x.e).toNat : Nat) : Rat) = ((x.n * y.d * 2 ^ (x.e - x.e).toNat : Nat) : Rat) := by
    have z := p2ne x.e
    generalize (2 : Rat) ^ x.e = A at *
    generalize ((y.n * x.d * 2 ^ (y.e - x.e).toNat : Nat) : Rat) = B at *
    generalize ((x.n * y.d * 2 ^ (x.e - x.e).toNat : Nat) : Rat) = C at *
    grind
  rw [Rat.natCast_inj, Int.sub_self] at m3
  have m4 : y.n * x.d * 2 ^ (y.e - x.e).toNat = x.n * y.d := by rw [m3]; simp
  have e0 : (y.e - x.e).toNat = 0 := by
    by_cases hz : (y.e - x.e).toNat = 0
    · exact hz
    · exfalso
      obtain ⟨k, hk⟩ : ∃ k, (y.e - x.e).toNat = k + 1 := ⟨_, (Nat.succ_pred_eq_of_ne_zero hz).symm⟩
      rw [hk, Nat.pow_succ, ← Nat.mul_assoc] at m4
      have := mul_odd _ _ hx.1 hy.2.1
      omega
  rw [e0, Nat.pow_zero, Nat.mul_one] at m4
  have q1 : x.n ∣ y.n := by
    have : x.n ∣ y.n * x.d := ⟨y.d, m4⟩
    exact Nat.Coprime.dvd_of_dvd_mul_right hx.2.2 this
  have q2 : y.n ∣ x.n := by
    have : y.n ∣ x.n * y.d := ⟨x.d, m4.symm⟩
    exact Nat.Coprime.dvd_of_dvd_mul_right hy.2.2 this
  have q3 := Nat.dvd_antisymm q1 q2
  refine ⟨q3, ?_, by omega⟩
  rw [q3] at m4
  exact Nat.eq_of_mul_eq_mul_left (by omega) m4
theorem can_inj (x y : XN) (hx : x.can) (hy : y.can) (h : x.val = y.val) : x = y := by
  rw [val_mag, val_mag] at h
  by_cases n1 : x.n = 0
  · rw [mag_zero x n1, Rat.mul_zero] at h
    by_cases n2 : y.n = 0
    · rw [hx.null n1, hy.null n2]
    · exfalso
      have p := mag_pos y n2 hy.d0
      rcases (Rat.mul_eq_zero.1 h.symm) with h | h
      · exact sgn_ne _ h
      · rw [h] at p; exact absurd p Rat.lt_irrefl
  · by_cases n2 : y.n = 0
    · exfalso
      rw [mag_zero y n2, Rat.mul_zero] at h
      have p := mag_pos x n1 hx.d0
      rcases (Rat.mul_eq_zero.1 h) with h | h
      · exact sgn_ne _ h
      · rw [h] at p; exact absurd p Rat.lt_irrefl
    · have p1 := mag_pos x n1 hx.d0
      have p2 := mag_pos y n2 hy.d0
      have hb : x.b = y.b := by
        cases e1 : x.b <;> cases e2 : y.b
        · rfl
        · exfalso
          rw [e1, e2] at h
          unfold sgn at h
          simp at h
          grind
        · exfalso
          rw [e1, e2] at h
          unfold sgn at h
          simp at h
          grind
        · rfl
      have hm : x.mag = y.mag := by
        rw [hb] at h
        have := sgn_ne y.b
        generalize sgn y.b = s at *
        grind
      have key : x.n = y.n ∧ x.d = y.d ∧ x.e = y.e := by
        by_cases hle : x.e ≤ y.e
        · exact mag_one x y (hx.odd n1) (hy.odd n2) hle hm
        · obtain ⟨a, b, c⟩ := mag_one y x (hy.odd n2) (hx.odd n1) (by omega) hm.symm
          exact ⟨a.symm, b.symm, c.symm⟩
      obtain ⟨k1, k2, k3⟩ := key
      cases x; cases y
      simp_all

def sA (x y : XN) : Nat := x.n * y.d * 2 ^ (x.e - min x.e y.e).toNat
def sS (x y : XN) : Nat := if x.b = y.b then sA x y + sA y x else if sA x y < sA y x then sA y x - sA x y else sA x y - sA y x
def sN (x y : XN) : Bool := if x.b = y.b then x.b else if sA x y < sA y x then y.b else x.b
def addX (x y : XN) : XN × Int :=
  if x.n = 0 then (y, 0) else if y.n = 0 then (x, 0)
  else if nl (sA x y) ≤ 16384 ∧ nl (sA y x) ≤ 16384 ∧ nl (x.d * y.d) ≤ 16384 ∧ nl (sS x y) ≤ 16384 then mk (sN x y) (sS x y) (x.d * y.d) (min x.e y.e) else (XZ, 4)
theorem sA_mag (x y : XN) (dx : x.d ≠ 0) : x.mag * ((x.d * y.d : Nat) : Rat) = ((sA x y : Nat) : Rat) * (2 : Rat) ^ (min x.e y.e) :=
  mag_shift x y dx _ (Int.min_le_left _ _)
theorem mul_ne {a b : Nat} (ha : a ≠ 0) (hb : b ≠ 0) : a * b ≠ 0 := fun h => by rcases Nat.mul_eq_zero.1 h with h | h <;> contradiction
theorem sS_val (x y : XN) : sgn (sN x y) * ((sS x y : Nat) : Rat) = sgn x.b * ((sA x y : Nat) : Rat) + sgn y.b * ((sA y x : Nat) : Rat) := by
  unfold sS sN
  split
  · rename_i h
    rw [h, Rat.natCast_add, Rat.mul_add]
  · rename_i h
    have hs : sgn y.b = - sgn x.b := by
      cases e1 : x.b <;> cases e2 : y.b <;> rw [e1, e2] at h <;> first | exact absurd rfl h | decide
    split
    · rename_i hl
      have e : ((sA y x - sA x y : Nat) : Rat) = ((sA y x : Nat) : Rat) - ((sA x y : Nat) : Rat) := by
        have : ((sA y x - sA x y : Nat) : Rat) + ((sA x y : Nat) : Rat) = ((sA y x : Nat) : Rat) := by rw [← Rat.natCast_add, Nat.sub_add_cancel (Nat.le_of_lt hl)]
        rw [← this]
        grind
      rw [e, hs]
      grind
    · rename_i hl
      have e : ((sA x y - sA y x : Nat) : Rat) = ((sA x y : Nat) : Rat) - ((sA y x : Nat) : Rat) := by
        have : ((sA x y - sA y x : Nat) : Rat) + ((sA y x : Nat) : Rat) = ((sA x y : Nat) : Rat) := by rw [← Rat.natCast_add, Nat.sub_add_cancel (by omega)]
        rw [← this]
        grind
      rw [e, hs]
      grind
theorem add_good (x y : XN) (hx : x.can) (hy : y.can) (h : (addX x y).2 = 0) : (addX x y).1.can ∧ (addX x y).1.val = x.val + y.val := by
  unfold addX at h ⊢
  split
  · rename_i n0
    refine ⟨hy, ?_⟩
    rw [val_mag x, mag_zero x n0, Rat.mul_zero, Rat.zero_add]
  · rename_i n0
    split
    · rename_i m0
      refine ⟨hx, ?_⟩
      rw [val_mag y, mag_zero y m0, Rat.mul_zero, Rat.add_zero]
    · rename_i m0
      rw [if_neg n0, if_neg m0] at h
      split
      · rename_i hl
        rw [if_pos hl] at h
        have dz := mul_ne hx.d0 hy.d0
        refine ⟨mk_can _ _ _ _ hl.2.2.2 hl.2.2.1 dz h, ?_⟩
        rw [mk_val _ _ _ _ dz h, val_mag x, val_mag y]
        have k1 := sA_mag x y hx.d0
        have k2 := sA_mag y x hy.d0
        have k3 := sS_val x y
        rw [Nat.mul_comm y.d x.d, show min y.e x.e = min x.e y.e from Int.min_comm _ _] at k2
        have z := cast_ne dz
        generalize (2 : Rat) ^ (min x.e y.e) = P at *
        generalize ((x.d * y.d : Nat) : Rat) = D at *
        generalize ((sA x y : Nat) : Rat) = A at *
        generalize ((sA y x : Nat) : Rat) = B at *
        generalize ((sS x y : Nat) : Rat) = S at *
        generalize sgn (sN x y) = s at *
        generalize sgn x.b = s1 at *
        generalize sgn y.b = s2 at *
        generalize x.mag = u at *
        generalize y.mag = v at *
        have e1 : s * (S / D) * P = (s * S) * P / D := by grind
        rw [e1, k3]
        have e2 : (s1 * A + s2 * B) * P / D = (s1 * (A * P) + s2 * (B * P)) / D := by grind
        rw [e2, ← k1, ← k2]
        grind
      · rename_i hl
        rw [if_neg hl] at h
        exact absurd h (by decide)
def lenD (x : XN) : Int := (blen x.n : Int) - (blen x.d : Int)
def tA (x : XN) : Nat := x.n * 2 ^ (max (-lenD x) 0).toNat
def tB (x : XN) : Nat := x.d * 2 ^ (max (lenD x) 0).toNat
def topX (x : XN) : Int := (if tA x < tB x then lenD x - 1 else lenD x) + x.e
def flX (x : XN) (e : Int) : (Nat × Bool) × Int :=
  if e < -2097152 ∨ 2097152 < e then ((0, false), 2) else if x.n = 0 then ((0, true), 0)
  else if e ≤ x.e then (if nl (x.n * 2 ^ (x.e - e).toNat) ≤ 16384 then ((x.n * 2 ^ (x.e - e).toNat / x.d, decide (x.n * 2 ^ (x.e - e).toNat % x.d = 0)), 0) else ((0, false), 4))
  else if topX x < e then ((0, false), 0) else ((x.n / (x.d * 2 ^ (e - x.e).toNat), false), 0)

theorem tA_len (x : XN) (n0 : x.n ≠ 0) (d0 : x.d ≠ 0) : blen (tA x) = blen (tB x) ∧ tA x ≠ 0 ∧ tB x ≠ 0 := by
  unfold tA tB
  rw [blen_shl _ _ n0, blen_shl _ _ d0]
  refine ⟨?_, mul_ne n0 (Nat.pos_iff_ne_zero.1 (Nat.two_pow_pos _)), mul_ne d0 (Nat.pos_iff_ne_zero.1 (Nat.two_pow_pos _))⟩
  unfold lenD
  omega
theorem tA_near (x : XN) (n0 : x.n ≠ 0) (d0 : x.d ≠ 0) : tA x < 2 * tB x ∧ tB x < 2 * tA x := by
  obtain ⟨h1, h2, h3⟩ := tA_len x n0 d0
  have a1 := blen_lt (tA x)
  have a2 := blen_le (tA x) h2
  have b1 := blen_lt (tB x)
  have b2 := blen_le (tB x) h3
  have p := blen_pos (tA x) h2
  rw [← h1] at b1 b2
  obtain ⟨k, hk⟩ : ∃ k, blen (tA x) = k + 1 := ⟨_, (Nat.succ_pred_eq_of_ne_zero (Nat.pos_iff_ne_zero.1 p)).symm⟩
  rw [hk, Nat.pow_succ] at a1 b1
  rw [hk, Nat.add_sub_cancel] at a2 b2
  omega
theorem tA_mag (x : XN) (d0 : x.d ≠ 0) : x.mag * ((tB x : Nat) : Rat) = ((tA x : Nat) : Rat) * (2 : Rat) ^ (lenD x + x.e) := by
  unfold tA tB XN.mag
  rw [Rat.natCast_mul, Rat.natCast_mul, ← p2nat, ← p2nat, p2add]
  have e : (2 : Rat) ^ ((max (lenD x) 0).toNat : Int) = (2 : Rat) ^ ((max (-lenD x) 0).toNat : Int) * (2 : Rat) ^ (lenD x) := by
    rw [← p2add]
    congr 1
    omega
  rw [e]
  have z := cast_ne d0
  generalize (2 : Rat) ^ ((max (-lenD x) 0).toNat : Int) = A at *
  generalize (2 : Rat) ^ (lenD x) = B at *
  generalize (2 : Rat) ^ x.e = C at *
  grind
theorem p2succ (e : Int) : (2 : Rat) ^ (e + 1) = 2 * (2 : Rat) ^ e := by rw [p2add, Rat.zpow_one, Rat.mul_comm]
theorem top_good (x : XN) (n0 : x.n ≠ 0) (d0 : x.d ≠ 0) : (2 : Rat) ^ (topX x) ≤ x.mag ∧ x.mag < (2 : Rat) ^ (topX x + 1) := by
  obtain ⟨h1, h2⟩ := tA_near x n0 d0
  have k := tA_mag x d0
  have zB : (0 : Rat) < ((tB x : Nat) : Rat) := cast_pos (tA_len x n0 d0).2.2
  have zP := p2 (lenD x + x.e)
  have c1 : ((tA x : Nat) : Rat) < 2 * ((tB x : Nat) : Rat) := by
    have := Rat.natCast_lt_natCast.2 h1
    rwa [Rat.natCast_mul] at this
  have c2 : ((tB x : Nat) : Rat) < 2 * ((tA x : Nat) : Rat) := by
    have := Rat.natCast_lt_natCast.2 h2
    rwa [Rat.natCast_mul] at this
  unfold topX
  split
  · rename_i hl
    have c3 := Rat.natCast_lt_natCast.2 hl
    have e1 := p2succ (lenD x - 1 + x.e)
    rw [show lenD x - 1 + x.e + 1 = lenD x + x.e by omega] at e1
    rw [show lenD x - 1 + x.e + 1 = lenD x + x.e by omega]
    generalize (2 : Rat) ^ (lenD x + x.e) = P at *
    generalize (2 : Rat) ^ (lenD x - 1 + x.e) = H at *
    generalize ((tA x : Nat) : Rat) = A at *
    generalize ((tB x : Nat) : Rat) = B at *
    constructor
    · refine Rat.le_of_mul_le_mul_right (c := B) ?_ zB
      rw [k, e1]
      have : H * B ≤ H * (2 * A) := Rat.mul_le_mul_of_nonneg_left (Rat.le_of_lt c2) (by grind)
      grind
    · refine Rat.lt_of_mul_lt_mul_right (c := B) ?_ (Rat.le_of_lt zB)
      rw [k, Rat.mul_comm A P]
      exact Rat.mul_lt_mul_of_pos_left c3 zP
  · rename_i hl
    have c3 := Rat.natCast_le_natCast.2 (Nat.le_of_not_lt hl)
    have e1 := p2succ (lenD x + x.e)
    rw [e1]
    generalize (2 : Rat) ^ (lenD x + x.e) = P at *
    generalize ((tA x : Nat) : Rat) = A at *
    generalize ((tB x : Nat) : Rat) = B at *
    constructor
    · refine Rat.le_of_mul_le_mul_right (c := B) ?_ zB
      rw [k, Rat.mul_comm A P]
      exact Rat.mul_le_mul_of_nonneg_left c3 (Rat.le_of_lt zP)
    · refine Rat.lt_of_mul_lt_mul_right (c := B) ?_ (Rat.le_of_lt zB)
      rw [k]
      have : P * A < P * (2 * B) := Rat.mul_lt_mul_of_pos_left c1 zP
      grind
theorem quot_good (u : Rat) (N D : Nat) (P : Rat) (hP : 0 < P) (D0 : D ≠ 0) (k : u * (D : Rat) = (N : Rat) * P) : ((N / D : Nat) : Rat) * P ≤ u ∧ u < ((N / D + 1 : Nat) : Rat) * P ∧ (N % D = 0 ↔ ((N / D : Nat) : Rat) * P = u) := by
  have zD := cast_pos D0
  have h1 : N / D * D ≤ N := Nat.div_mul_le_self N D
  have h2 : N < (N / D + 1) * D := by
    have := Nat.div_add_mod N D
    have := Nat.mod_lt N (Nat.pos_of_ne_zero D0)
    rw [Nat.add_mul, Nat.one_mul, Nat.mul_comm (N / D) D]
    omega
  have h3 : N % D = 0 ↔ N / D * D = N := by
    have := Nat.div_add_mod N D
    rw [Nat.mul_comm (N / D) D]
    omega
  have c1 := Rat.natCast_le_natCast.2 h1
  have c2 := Rat.natCast_lt_natCast.2 h2
  rw [Rat.natCast_mul] at c1 c2
  have c3 : N / D * D = N ↔ ((N / D : Nat) : Rat) * (D : Rat) = (N : Rat) := by rw [← Rat.natCast_mul, Rat.natCast_inj]
  rw [h3, c3]
  generalize ((N / D + 1 : Nat) : Rat) = M1 at *
  generalize ((N / D : Nat) : Rat) = M at *
  generalize (N : Rat) = n at *
  generalize (D : Rat) = d at *
  refine ⟨?_, ?_, ?_, ?_⟩
  · refine Rat.le_of_mul_le_mul_right (c := d) ?_ zD
    rw [k]
    have := Rat.mul_le_mul_of_nonneg_left c1 (Rat.le_of_lt hP)
    grind
  · refine Rat.lt_of_mul_lt_mul_right (c := d) ?_ (Rat.le_of_lt zD)
    rw [k]
    have := Rat.mul_lt_mul_of_pos_left c2 hP
    grind
  · intro h
    rw [← h] at k
    have : d ≠ 0 := Rat.ne_of_gt zD
    grind
  · intro h
    rw [← h] at k
    have : P ≠ 0 := Rat.ne_of_gt hP
    grind
theorem p2mono (e f : Int) (h : e ≤ f) : (2 : Rat) ^ e ≤ (2 : Rat) ^ f := by
  obtain ⟨k, rfl⟩ : ∃ k : Nat, f = (k : Int) + e := ⟨(f - e).toNat, by omega⟩
  rw [p2add (k : Int) e, p2nat]
  have a : (1 : Rat) ≤ ((2 ^ k : Nat) : Rat) := Rat.natCast_le_natCast.2 (Nat.one_le_two_pow (n := k))
  have b := Rat.mul_le_mul_of_nonneg_right a (Rat.le_of_lt (p2 e))
  rwa [Rat.one_mul] at b
theorem fl_good (x : XN) (e : Int) (hx : x.can) (n0 : x.n ≠ 0) (h : (flX x e).2 = 0) : (((flX x e).1.1 : Nat) : Rat) * (2 : Rat) ^ e ≤ x.mag ∧ x.mag < (((flX x e).1.1 + 1 : Nat) : Rat) * (2 : Rat) ^ e ∧ ((flX x e).1.2 = true ↔ (((flX x e).1.1 : Nat) : Rat) * (2 : Rat) ^ e = x.mag) := by
  have d0 := hx.d0
  unfold flX at h ⊢
  by_cases hr : e < -2097152 ∨ 2097152 < e
  · rw [if_pos hr] at h
    exact absurd h (by decide)
  rw [if_neg hr, if_neg n0] at h ⊢
  by_cases he : e ≤ x.e
  · rw [if_pos he] at h ⊢
    by_cases hl : nl (x.n * 2 ^ (x.e - e).toNat) ≤ 16384
    · rw [if_pos hl]
      have k : x.mag * (x.d : Rat) = ((x.n * 2 ^ (x.e - e).toNat : Nat) : Rat) * (2 : Rat) ^ e := by
        have e1 : (2 : Rat) ^ x.e = (2 : Rat) ^ ((x.e - e).toNat : Int) * (2 : Rat) ^ e := by rw [← p2add]; congr 1; omega
        unfold XN.mag
        rw [Rat.natCast_mul, ← p2nat, e1]
        have z := cast_ne d0
        grind
      have := quot_good _ _ _ _ (p2 e) d0 k
      simp only [decide_eq_true_eq]
      exact this
    · rw [if_neg hl] at h
      exact absurd h (by decide)
  · rw [if_neg he] at h ⊢
    have hz : ¬ x.n % (x.d * 2 ^ (e - x.e).toNat) = 0 := by
      intro hm
      obtain ⟨k, hk⟩ : ∃ k, (e - x.e).toNat = k + 1 := ⟨(e - x.e).toNat - 1, by omega⟩
      rw [hk, Nat.pow_succ, ← Nat.mul_assoc] at hm
      obtain ⟨q, hq⟩ := Nat.dvd_of_mod_eq_zero hm
      have := (hx.odd n0).1
      rw [hq, Nat.mul_assoc, Nat.mul_assoc, Nat.mul_left_comm (2 ^ k) 2, Nat.mul_left_comm x.d 2, Nat.mul_mod_right] at this
      omega
    have k : x.mag * ((x.d * 2 ^ (e - x.e).toNat : Nat) : Rat) = (x.n : Rat) * (2 : Rat) ^ e := by
      have e1 : (2 : Rat) ^ e = (2 : Rat) ^ ((e - x.e).toNat : Int) * (2 : Rat) ^ x.e := by rw [← p2add]; congr 1; omega
      unfold XN.mag
      rw [Rat.natCast_mul, ← p2nat, e1]
      have z := cast_ne d0
      grind
    have D0 : x.d * 2 ^ (e - x.e).toNat ≠ 0 := mul_ne d0 (Nat.pos_iff_ne_zero.1 (Nat.two_pow_pos _))
    have q := quot_good _ _ _ _ (p2 e) D0 k
    by_cases ht : topX x < e
    · rw [if_pos ht]
      have t2 := (top_good x n0 d0).2
      have := p2mono (topX x + 1) e (by omega)
      have up : x.mag < (2 : Rat) ^ e := by grind
      have p := mag_pos x n0 d0
      have z0 : ((0 : Nat) : Rat) = 0 := rfl
      have z1 : ((0 + 1 : Nat) : Rat) = 1 := rfl
      refine ⟨?_, ?_, ?_⟩
      · show ((0 : Nat) : Rat) * _ ≤ _
        rw [z0, Rat.zero_mul]
        exact Rat.le_of_lt p
      · show _ < ((0 + 1 : Nat) : Rat) * _
        rw [z1, Rat.one_mul]
        exact up
      · show false = true ↔ ((0 : Nat) : Rat) * _ = _
        rw [z0, Rat.zero_mul]
        exact ⟨fun h => absurd h (by decide), fun h => absurd p (by rw [← h]; exact Rat.lt_irrefl)⟩
    · rw [if_neg ht]
      refine ⟨q.1, q.2.1, ?_⟩
      exact ⟨fun h => Bool.noConfusion h, fun h => absurd (q.2.2.2 h) hz⟩

def Bd (x : XN) (p E : Nat) : Prop := x.n < 2 ^ p ∧ x.d < 2 ^ p ∧ -(E : Int) ≤ x.e ∧ x.e ≤ E
theorem nl_pow (n p : Nat) (h : n < 2 ^ p) (hp : p ≤ 131072) : nl n ≤ 16384 := by
  have := blen_le_of n p h
  unfold nl
  omega
theorem mul_pow_lt (a b p q : Nat) (ha : a < 2 ^ p) (hb : b < 2 ^ q) : a * b < 2 ^ (p + q) := by
  rw [Nat.pow_add]
  exact Nat.mul_lt_mul'' ha hb
theorem pow_le2 (p q : Nat) (h : p ≤ q) : (2 : Nat) ^ p ≤ 2 ^ q := Nat.pow_le_pow_right (by decide) h
theorem mk_ok (neg : Bool) (n d : Nat) (e : Int) (P E F : Nat) (hn : n < 2 ^ P) (hd : d < 2 ^ P) (ho : d % 2 = 1) (he1 : -(E : Int) ≤ e) (he2 : e ≤ E) (hF : E + P = F) (h : F ≤ 1048576) : (mk neg n d e).2 = 0 ∧ Bd (mk neg n d e).1 P F := by
  have P1 : 1 < 2 ^ P := by omega
  have t0 := tz_odd d ho
  have t1 := Nat.le_trans (tz_blen n) (blen_le_of n P hn)
  unfold mk
  split
  · exact ⟨rfl, Nat.two_pow_pos _, P1, by show -(F : Int) ≤ 0; omega, by show (0 : Int) ≤ F; omega⟩
  · rw [t0, if_pos (by omega)]
    refine ⟨rfl, Nat.lt_of_le_of_lt (Nat.le_trans (Nat.div_le_self _ _) (od_le _)) hn, Nat.lt_of_le_of_lt (Nat.le_trans (Nat.div_le_self _ _) (od_le _)) hd, ?_, ?_⟩
    · show -(F : Int) ≤ e + (tz n : Int) - ((0 : Nat) : Int); omega
    · show e + (tz n : Int) - ((0 : Nat) : Int) ≤ (F : Int); omega
theorem sA_lt (x y : XN) (p q E F : Nat) (hx : Bd x p E) (hy : Bd y q F) : sA x y < 2 ^ (p + q + (E + F)) := by
  obtain ⟨a1, a2, a3, a4⟩ := hx
  obtain ⟨b1, b2, b3, b4⟩ := hy
  unfold sA
  rw [Nat.pow_add]
  have h1 := mul_pow_lt _ _ _ _ a1 b2
  have h2 : (2 : Nat) ^ (x.e - min x.e y.e).toNat ≤ 2 ^ (E + F) := pow_le2 _ _ (by omega)
  exact Nat.lt_of_lt_of_le (Nat.mul_lt_mul_of_pos_right h1 (Nat.two_pow_pos _)) (Nat.mul_le_mul_left _ h2)
theorem add_ok (x y : XN) (p q E F P G : Nat) (hx : x.can) (hy : y.can) (bx : Bd x p E) (bz : Bd y q F) (hP : p + q + (E + F) + 1 = P) (hG : E + F + P = G) (h1 : P ≤ 131072) (h2 : G ≤ 1048576) : (addX x y).2 = 0 ∧ Bd (addX x y).1 P G := by
  have s1 := sA_lt x y p q E F bx bz
  have s2 := sA_lt y x q p F E bz bx
  rw [show q + p + (F + E) = p + q + (E + F) by omega] at s2
  obtain ⟨a1, a2, a3, a4⟩ := bx
  obtain ⟨b1, b2, b3, b4⟩ := bz
  have dd : x.d * y.d < 2 ^ P := Nat.lt_of_lt_of_le (mul_pow_lt _ _ _ _ a2 b2) (pow_le2 _ _ (by omega))
  have e2 : 2 ^ P = 2 * 2 ^ (p + q + (E + F)) := by rw [← hP, Nat.pow_succ, Nat.mul_comm]
  have ss : sS x y < 2 ^ P := by
    rw [e2]
    unfold sS
    split
    · omega
    · split <;> omega
  unfold addX
  split
  · exact ⟨rfl, Nat.lt_of_lt_of_le b1 (pow_le2 _ _ (by omega)), Nat.lt_of_lt_of_le b2 (pow_le2 _ _ (by omega)), by show -(G : Int) ≤ y.e; omega, by show y.e ≤ (G : Int); omega⟩
  · split
    · exact ⟨rfl, Nat.lt_of_lt_of_le a1 (pow_le2 _ _ (by omega)), Nat.lt_of_lt_of_le a2 (pow_le2 _ _ (by omega)), by show -(G : Int) ≤ x.e; omega, by show x.e ≤ (G : Int); omega⟩
    · rw [if_pos ⟨nl_pow _ P (by omega) h1, nl_pow _ P (by omega) h1, nl_pow _ P dd h1, nl_pow _ P ss h1⟩]
      exact mk_ok _ _ _ _ P (E + F) G ss dd (mul_odd _ _ hx.d hy.d) (by omega) (by omega) hG h2
end Go.Proofs.YtpdehipeakcaiaaGreatDoor.XMath
namespace Go.Proofs.YtpdehipeakcaiaaGreatDoor
set_option maxRecDepth 100000
set_option maxHeartbeats 40000000
set_option maxRecDepth 100000
open Go.RowKit WMath XMath
theorem nb1 : nbA 1 = ⟨#[1]⟩ := by decide +kernel
theorem nl1 : nl 1 ≤ 16384 := by decide +kernel
theorem eq_one (g : Nat) (v : ByteArray) (h : nbA g = v) : (v.toList == [1]) = decide (g = 1) := by
  rw [Bool.eq_iff_iff, beq_iff_eq, decide_eq_true_iff, ByteArray.toList_eq]
  constructor
  · intro e
    apply nbA_inj
    rw [h, nb1]
    obtain ⟨⟨l⟩⟩ := v
    show (⟨⟨l⟩⟩ : ByteArray) = ⟨#[1]⟩
    have : l = [1] := e
    rw [this]
  · intro e
    subst e
    rw [nb1] at h
    rw [← h]
theorem eq_nil (n : Nat) (s : ByteArray) (h : nbA n = s) (h0 : n ≠ 0) : (s.toList == []) = false := by
  rw [eq_empty, decide_eq_false_iff_not, ← h, nbA_size]
  have := nl_pos n h0
  omega

theorem quiet_world {w W : World} (b : Below w.heap.size w W) (n : Nat) : ∃ V, W.drewN n = V ∧ Below w.heap.size w V ∧ V.heap = W.heap := ⟨_, rfl, below_drewN b n, rfl⟩
theorem cells4 {w : World} {g : Nat} {T : TypeId} {c : Array Value} (row : w.heap[g]? = some (.cells c T)) (k : Nat) (v : Value) (h : c[k]? = some v) : w.cell? ⟨g, k, none⟩ = some v := by
  rw [cell_of_row w g k _ _ _ row]
  exact h

theorem cells4s {w : World} {g : Nat} {T : TypeId} {a b c d : Value} (R : w.heap[g]? = some (.cells #[a, b, c, d] T)) : w.cell? ⟨g, 0, none⟩ = some a ∧ w.cell? ⟨g, 1, none⟩ = some b ∧ w.cell? ⟨g, 2, none⟩ = some c ∧ w.cell? ⟨g, 3, none⟩ = some d := ⟨cells4 R 0 _ rfl, cells4 R 1 _ rfl, cells4 R 2 _ rfl, cells4 R 3 _ rfl⟩
theorem cells2s {w : World} {g : Nat} {T : TypeId} {a b : Value} (R : w.heap[g]? = some (.cells #[a, b] T)) : w.cell? ⟨g, 0, none⟩ = some a ∧ w.cell? ⟨g, 1, none⟩ = some b := ⟨cells4 R 0 _ rfl, cells4 R 1 _ rfl⟩
theorem opn1 (w : World) (o : Obj) : (w.alloc o).heap[w.heap.size]? = some o ∧ Below w.heap.size w (w.alloc o) := ⟨heap_alloc_last _ _, (Below.refl _ _).alloc (Nat.le_refl _) _⟩
theorem opn2 (w : World) (o1 o2 : Obj) : ((w.alloc o1).alloc o2).heap[w.heap.size]? = some o1 ∧ ((w.alloc o1).alloc o2).heap[w.heap.size + 1]? = some o2 ∧ Below w.heap.size w ((w.alloc o1).alloc o2) := by
  obtain ⟨r0, b⟩ := opn1 w o1
  have z : (w.alloc o1).heap.size = w.heap.size + 1 := by simp only [size_al]
  exact ⟨by rw [heap_below _ _ _ (by omega)]; exact r0, by rw [← z]; exact heap_alloc_last _ _, b.alloc (by omega) _⟩
theorem opn3 (w : World) (o1 o2 o3 : Obj) : (((w.alloc o1).alloc o2).alloc o3).heap[w.heap.size]? = some o1 ∧ (((w.alloc o1).alloc o2).alloc o3).heap[w.heap.size + 1]? = some o2 ∧ (((w.alloc o1).alloc o2).alloc o3).heap[w.heap.size + 1 + 1]? = some o3 ∧ Below w.heap.size w (((w.alloc o1).alloc o2).alloc o3) := by
  obtain ⟨r0, r1, b⟩ := opn2 w o1 o2
  have z : ((w.alloc o1).alloc o2).heap.size = w.heap.size + 1 + 1 := by simp only [size_al]
  exact ⟨by rw [heap_below _ _ _ (by omega)]; exact r0, by rw [heap_below _ _ _ (by omega)]; exact r1, by rw [← z]; exact heap_alloc_last _ _, b.alloc (by omega) _⟩
theorem set4_below {n : Nat} {w wr : World} {b : Nat} (h : Below n w wr) (hb : n ≤ b) (v0 v1 v2 v3 : Value) : Below n w ((((wr.setCell ⟨b, 0, none⟩ v0).setCell ⟨b, 1, none⟩ v1).setCell ⟨b, 2, none⟩ v2).setCell ⟨b, 3, none⟩ v3) :=
  (((h.setCell hb _).setCell hb _).setCell hb _).setCell hb _
theorem set4_row {w : World} {b : Nat} {c : Array Value} {T : TypeId} (h : w.heap[b]? = some (.cells c T)) (hc : c.size = 4) (v0 v1 v2 v3 : Value) :
    ((((w.setCell ⟨b, 0, none⟩ v0).setCell ⟨b, 1, none⟩ v1).setCell ⟨b, 2, none⟩ v2).setCell ⟨b, 3, none⟩ v3).heap[b]? = some (.cells #[v0, v1, v2, v3] T) := by
  rw [setCell_row (setCell_row (setCell_row (setCell_row h)))]
  obtain ⟨l⟩ := c
  match l, hc with
  | [a, b, c, d], _ => rfl
theorem set4_cells {w : World} {b : Nat} {c : Array Value} {T : TypeId} (h : w.heap[b]? = some (.cells c T)) (hc : c.size = 4) (v0 v1 v2 v3 : Value) :
    ((((w.setCell ⟨b, 0, none⟩ v0).setCell ⟨b, 1, none⟩ v1).setCell ⟨b, 2, none⟩ v2).setCell ⟨b, 3, none⟩ v3).cell? ⟨b, 0, none⟩ = some v0 ∧
    ((((w.setCell ⟨b, 0, none⟩ v0).setCell ⟨b, 1, none⟩ v1).setCell ⟨b, 2, none⟩ v2).setCell ⟨b, 3, none⟩ v3).cell? ⟨b, 1, none⟩ = some v1 ∧
    ((((w.setCell ⟨b, 0, none⟩ v0).setCell ⟨b, 1, none⟩ v1).setCell ⟨b, 2, none⟩ v2).setCell ⟨b, 3, none⟩ v3).cell? ⟨b, 2, none⟩ = some v2 ∧
    ((((w.setCell ⟨b, 0, none⟩ v0).setCell ⟨b, 1, none⟩ v1).setCell ⟨b, 2, none⟩ v2).setCell ⟨b, 3, none⟩ v3).cell? ⟨b, 3, none⟩ = some v3 := by
  have r := set4_row h hc v0 v1 v2 v3
  exact ⟨cells4 r 0 _ rfl, cells4 r 1 _ rfl, cells4 r 2 _ rfl, cells4 r 3 _ rfl⟩

def MayX (b : Bool) (s t : ByteArray) (e : Int) : Prop := ∃ n d, nbA n = s ∧ nbA d = t ∧ (XN.mk b n d e).can
def IsM (o : Bool) (b : Bool) (s t : ByteArray) (e : Int) : Prop := o = true ↔ MayX b s t e
theorem mayX_iff (b : Bool) (n d : Nat) (s t : ByteArray) (e : Int) (hs : nbA n = s) (ht : nbA d = t) : MayX b s t e ↔ (XN.mk b n d e).can := by
  constructor
  · rintro ⟨n', d', h1, h2, h⟩
    rw [nbA_inj _ _ (h1.trans hs.symm), nbA_inj _ _ (h2.trans ht.symm)] at h
    exact h
  · intro h
    exact ⟨n, d, hs, ht, h⟩
theorem mayX_s (b : Bool) (s t : ByteArray) (e : Int) (h : MayX b s t e) : mayB s = true ∧ mayB t = true := by
  obtain ⟨n, d, rfl, rfl, h⟩ := h
  exact ⟨mayB_nb n h.1, mayB_nb d h.2.1⟩

theorem xnull (w : World) : Calls Tryz.prog 33 #[] w fun r w' => r = .returned (.agg #[.bool false, .string ⟨#[]⟩, .string ⟨#[1]⟩, .int .i64 0]) ∧ Below w.heap.size w w' := by
  go_enter Tryz.func33, Tryz.ntmps33
  go_wp2
  exact bodyPost_ret (v := .agg #[.bool false, .string ⟨#[]⟩, .string ⟨#[1]⟩, .int .i64 0]) (by simp [results, Tryz.results33, go_sem]) rfl ⟨rfl, by first | exact Below.refl _ _ | exact bal _ _⟩
theorem and1 (x : Nat) (h : x < 256) : bits .and .u8 (x : Nat) 1 = ((x % 2 : Nat) : Int) := by
  show IntKind.u8.wrap ((BitVec.ofInt 8 (x : Int) &&& BitVec.ofInt 8 1).toNat : Int) = _
  have h1 : (BitVec.ofInt 8 1).toNat = 2 ^ 1 - 1 := by decide
  have h2 : (BitVec.ofInt 8 (x : Int)).toNat = x := by simp; omega
  rw [BitVec.toNat_and, h1, Nat.and_two_pow_sub_one_eq_mod, h2]
  exact wrap_u8_is _ _ (by omega)
theorem rodd (n : Nat) (s : ByteArray) (o : Bool) (hs : nbA n = s) (hl : nl n ≤ 16384) (ho : decide (n % 2 = 1) = o) (w : World) : Calls Tryz.prog 103 #[.string s] w fun r w' => r = .returned (.bool o) ∧ Below w.heap.size w w' := by
  by_cases h0 : n = 0
  · subst h0
    rw [nbA_zero] at hs
    subst hs
    have e : o = false := by rw [← ho]; rfl
    subst e
    clear ho hl
    have B0 : Below w.heap.size w w := (Below.refl _ _)
    go_enter Tryz.func103, Tryz.ntmps103
    go_wp2
    go_ret
    exact ⟨rfl, B0⟩
  · have d0 := eq_nil n s hs h0
    obtain ⟨L, hL⟩ : ∃ L, nl n = L := ⟨_, rfl⟩
    have hz : s.size = L := by rw [← hs, nbA_size, hL]
    have L0 : 0 < L := by rw [← hL]; exact nl_pos n h0
    have hk : L - 1 < s.size := by omega
    obtain ⟨x, hx⟩ : ∃ x, (s[L - 1]'hk).toNat = x := ⟨_, rfl⟩
    have hxd : n % 256 = x := by
      rw [← hx]
      subst hs
      rw [nbA_get, hL, show L - 1 - (L - 1) = 0 by omega]
      unfold d8
      rw [Nat.mul_zero, Nat.pow_zero, Nat.div_one]
    have x256 : x < 256 := by omega
    have hxr := idx_run s (L - 1) ((L : Int) - 1) x (by omega) hk hx
    have n1 : IntKind.i64.wrap ((L : Int) - 1) = (L : Int) - 1 := wrap_i64_is _ (by omega) (by omega)
    have ha := and1 x x256
    obtain ⟨y, hy⟩ : ∃ y, x % 2 = y := ⟨_, rfl⟩
    rw [hy] at ha
    have hc : ((y : Int) == 1) = o := by
      rw [← ho, Bool.eq_iff_iff, beq_iff_eq, decide_eq_true_iff]
      omega
    have hc2 : decide (y = 1) = o := by
      rw [← ho, Bool.eq_iff_iff, decide_eq_true_iff, decide_eq_true_iff]
      omega
    clear hs hL hx hxd hy ho
    have B0 : Below w.heap.size w w := (Below.refl _ _)
    go_enter Tryz.func103, Tryz.ntmps103
    go_wp2
    go_ret
    exact ⟨rfl, B0⟩
theorem can_parts (b : Bool) (n d : Nat) (e : Int) (hn : nl n ≤ 16384) (hd : nl d ≤ 16384) : (XN.mk b n d e).can ↔ (-1048576 ≤ e ∧ e ≤ 1048576 ∧ ((b = false ∧ n = 0 ∧ d = 1 ∧ e = 0) ∨ (n % 2 = 1 ∧ d % 2 = 1 ∧ Nat.gcd n d = 1))) := by
  unfold XN.can
  exact ⟨fun h => h.2.2, fun h => ⟨hn, hd, h⟩⟩

set_option maxRecDepth 100000 in
theorem xmay (b : Bool) (s t : ByteArray) (e : Int) (o : Bool) (ho : o = true ↔ MayX b s t e) (w : World) : Calls Tryz.prog 73 #[.agg #[.bool b, .string s, .string t, .int .i64 e]] w fun r w' => r = .returned (.bool o) ∧ Below w.heap.size w w' := by
  cases hm1 : mayB s
  · have eo : o = false := by
      cases o
      · rfl
      · have := (mayX_s b s t e (ho.1 rfl)).1
        rw [hm1] at this
        exact absurd this (by decide)
    subst eo
    have H1 := box hm1
    clear hm1 ho
    obtain ⟨Rx_0, B0⟩ := opn1 w (Obj.cells #[.bool b, .string s, .string t, .int .i64 e] 50)
    go_enter Tryz.func73, Tryz.ntmps73
    go_wp2_with fail
    go_quiet (fail)
    obtain ⟨w1, hw, B1, hh⟩ := quiet_world B0 nq
    rw [hw]
    have Rx_1 : w1.heap[w.heap.size]? = some (Obj.cells #[.bool b, .string s, .string t, .int .i64 e] 50) := by rw [hh]; exact Rx_0
    clear hw hh B0 Rx_0
    obtain ⟨cx_1_0, cx_1_1, cx_1_2, cx_1_3⟩ := cells4s Rx_1
    go_wp2_with fail
    refine (nat_may s false H1.out _).mono ?_
    rintro r w' ⟨rfl, rfl⟩
    go_wp2
    go_ret
    exact ⟨rfl, B1⟩
  cases hm2 : mayB t
  · have eo : o = false := by
      cases o
      · rfl
      · have := (mayX_s b s t e (ho.1 rfl)).2
        rw [hm2] at this
        exact absurd this (by decide)
    subst eo
    have H1 := box hm1
    have H2 := box hm2
    clear hm1 hm2 ho
    obtain ⟨Rx_0, B0⟩ := opn1 w (Obj.cells #[.bool b, .string s, .string t, .int .i64 e] 50)
    go_enter Tryz.func73, Tryz.ntmps73
    go_wp2_with fail
    go_quiet (fail)
    obtain ⟨w1, hw, B1, hh⟩ := quiet_world B0 nq
    rw [hw]
    have Rx_1 : w1.heap[w.heap.size]? = some (Obj.cells #[.bool b, .string s, .string t, .int .i64 e] 50) := by rw [hh]; exact Rx_0
    clear hw hh B0 Rx_0
    obtain ⟨cx_1_0, cx_1_1, cx_1_2, cx_1_3⟩ := cells4s Rx_1
    go_wp2_with fail
    refine (nat_may s true H1.out _).mono ?_
    rintro r w' ⟨rfl, rfl⟩
    go_wp2_with fail
    refine (nat_may t false H2.out _).mono ?_
    rintro r w' ⟨rfl, rfl⟩
    go_wp2
    go_ret
    exact ⟨rfl, B1⟩
  obtain ⟨n, hs, ln⟩ := mayB_is s hm1
  obtain ⟨d, ht, ld⟩ := mayB_is t hm2
  rw [mayX_iff b n d s t e hs ht, can_parts b n d e ln ld] at ho
  have H1 := box hm1
  have H2 := box hm2
  have HS := box hs
  have HT := box ht
  have LN := box ln
  have LD := box ld
  clear hm1 hm2
  by_cases hd : d % 2 = 1
  · have D1 : Box (decide (d % 2 = 1) = true) := box (decide_eq_true hd)
    by_cases h1 : e < -1048576
    · have eo : o = false := by cases o; rfl; have := ho.1 rfl; omega
      subst eo
      have k1 : decide (e < -1048576) = true := decide_eq_true h1
      clear ho hs ht ln ld hd
      obtain ⟨Rx_0, B0⟩ := opn1 w (Obj.cells #[.bool b, .string s, .string t, .int .i64 e] 50)
      go_enter Tryz.func73, Tryz.ntmps73
      go_wp2_with fail
      go_quiet (fail)
      obtain ⟨w1, hw, B1, hh⟩ := quiet_world B0 nq
      rw [hw]
      have Rx_1 : w1.heap[w.heap.size]? = some (Obj.cells #[.bool b, .string s, .string t, .int .i64 e] 50) := by rw [hh]; exact Rx_0
      clear hw hh B0 Rx_0
      obtain ⟨cx_1_0, cx_1_1, cx_1_2, cx_1_3⟩ := cells4s Rx_1
      go_wp2_with fail
      refine (nat_may s true H1.out _).mono ?_
      rintro r w' ⟨rfl, rfl⟩
      go_wp2_with fail
      refine (nat_may t true H2.out _).mono ?_
      rintro r w' ⟨rfl, rfl⟩
      go_wp2_with fail
      refine (rodd d t true HT.out LD.out D1.out _).mono ?_
      rintro r w2 ⟨rfl, b2⟩
      have B2 : Below w.heap.size w w2 := btr B1 b2
      have Rx_2 := heap_of b2 _ _ _ Rx_1
      clear b2 B1 Rx_1 cx_1_0 cx_1_1 cx_1_2 cx_1_3
      obtain ⟨cx_2_0, cx_2_1, cx_2_2, cx_2_3⟩ := cells4s Rx_2
      go_wp2
      go_ret
      exact ⟨rfl, B2⟩
    have k1 : decide (e < -1048576) = false := decide_eq_false h1
    by_cases h2 : 1048576 < e
    · have eo : o = false := by cases o; rfl; have := ho.1 rfl; omega
      subst eo
      have k2 : decide (1048576 < e) = true := decide_eq_true h2
      clear ho hs ht ln ld hd
      obtain ⟨Rx_0, B0⟩ := opn1 w (Obj.cells #[.bool b, .string s, .string t, .int .i64 e] 50)
      go_enter Tryz.func73, Tryz.ntmps73
      go_wp2_with fail
      go_quiet (fail)
      obtain ⟨w1, hw, B1, hh⟩ := quiet_world B0 nq
      rw [hw]
      have Rx_1 : w1.heap[w.heap.size]? = some (Obj.cells #[.bool b, .string s, .string t, .int .i64 e] 50) := by rw [hh]; exact Rx_0
      clear hw hh B0 Rx_0
      obtain ⟨cx_1_0, cx_1_1, cx_1_2, cx_1_3⟩ := cells4s Rx_1
      go_wp2_with fail
      refine (nat_may s true H1.out _).mono ?_
      rintro r w' ⟨rfl, rfl⟩
      go_wp2_with fail
      refine (nat_may t true H2.out _).mono ?_
      rintro r w' ⟨rfl, rfl⟩
      go_wp2_with fail
      refine (rodd d t true HT.out LD.out D1.out _).mono ?_
      rintro r w2 ⟨rfl, b2⟩
      have B2 : Below w.heap.size w w2 := btr B1 b2
      have Rx_2 := heap_of b2 _ _ _ Rx_1
      clear b2 B1 Rx_1 cx_1_0 cx_1_1 cx_1_2 cx_1_3
      obtain ⟨cx_2_0, cx_2_1, cx_2_2, cx_2_3⟩ := cells4s Rx_2
      go_wp2
      go_ret
      exact ⟨rfl, B2⟩
    have k2 : decide (1048576 < e) = false := decide_eq_false h2
    by_cases h0 : n = 0
    · subst h0
      rw [nbA_zero] at hs
      have hs2 := hs
      clear hs
      subst hs2
      have e1 := eq_one d t ht
      have ez : (e == 0) = decide (e = 0) := by rw [Bool.eq_iff_iff, beq_iff_eq, decide_eq_true_iff]
      have ho2 : o = true ↔ (b = false ∧ d = 1 ∧ e = 0) := by rw [ho]; exact ⟨fun h => by rcases h.2.2 with h | h; exact ⟨h.1, h.2.2⟩; omega, fun h => ⟨by omega, by omega, Or.inl ⟨h.1, rfl, h.2⟩⟩⟩
      clear ho ht ln ld hd h1 h2
      cases b
      · by_cases d1 : d = 1
        · rw [decide_eq_true d1] at e1
          by_cases z : e = 0
          · have eo : o = true := ho2.2 ⟨rfl, d1, z⟩
            subst eo
            rw [decide_eq_true z] at ez
            clear ho2 d1
            subst z
            obtain ⟨Rx_0, B0⟩ := opn1 w (Obj.cells #[.bool false, .string ⟨#[]⟩, .string t, .int .i64 0] 50)
            go_enter Tryz.func73, Tryz.ntmps73
            go_wp2_with fail
            go_quiet (fail)
            obtain ⟨w1, hw, B1, hh⟩ := quiet_world B0 nq
            rw [hw]
            have Rx_1 : w1.heap[w.heap.size]? = some (Obj.cells #[.bool false, .string ⟨#[]⟩, .string t, .int .i64 0] 50) := by rw [hh]; exact Rx_0
            clear hw hh B0 Rx_0
            obtain ⟨cx_1_0, cx_1_1, cx_1_2, cx_1_3⟩ := cells4s Rx_1
            go_wp2_with fail
            refine (nat_may _ true H1.out _).mono ?_
            rintro r w' ⟨rfl, rfl⟩
            go_wp2_with fail
            refine (nat_may t true H2.out _).mono ?_
            rintro r w' ⟨rfl, rfl⟩
            go_wp2_with fail
            refine (rodd d t true HT.out LD.out D1.out _).mono ?_
            rintro r w2 ⟨rfl, b2⟩
            have B2 : Below w.heap.size w w2 := btr B1 b2
            have Rx_2 := heap_of b2 _ _ _ Rx_1
            clear b2 B1 Rx_1 cx_1_0 cx_1_1 cx_1_2 cx_1_3
            obtain ⟨cx_2_0, cx_2_1, cx_2_2, cx_2_3⟩ := cells4s Rx_2
            go_wp2_with fail
            obtain ⟨F, hF1, hF2⟩ := below_fun w2
            have fx_0 := fun u => cells4 (heap_of (hF1 u) _ _ _ Rx_2) 0 _ rfl
            have fx_1 := fun u => cells4 (heap_of (hF1 u) _ _ _ Rx_2) 1 _ rfl
            have fx_2 := fun u => cells4 (heap_of (hF1 u) _ _ _ Rx_2) 2 _ rfl
            have fx_3 := fun u => cells4 (heap_of (hF1 u) _ _ _ Rx_2) 3 _ rfl
            refine wp_region_below F hF2 (by kernel_rfl) (by kernel_rfl) ?_
            repeat first | go_big_quiet_step (first | (go_at_call 33; exact quietF hF1 hF2 (xnull _)) | fail) | quiet_step (first | (go_at_call 33; exact quietF hF1 hF2 (xnull _)) | fail)
            refine wpQuiet_nil ?_
            rintro _ ⟨uW, rfl⟩
            have B3 := btr B2 (hF1 uW)
            have Rx_3 := heap_of (hF1 uW) _ _ _ Rx_2
            obtain ⟨w3, hw⟩ : ∃ V, F uW = V := ⟨_, rfl⟩
            rw [hw] at B3 Rx_3
            try rw [hw]
            clear hw hF1 hF2 B2 fx_0 fx_1 fx_2 fx_3 Rx_2 cx_2_0 cx_2_1 cx_2_2 cx_2_3
            clear F
            obtain ⟨cx_3_0, cx_3_1, cx_3_2, cx_3_3⟩ := cells4s Rx_3
            go_wp2
            go_ret
            exact ⟨rfl, B3⟩
          · have eo : o = false := by cases o; rfl; exact absurd (ho2.1 rfl).2.2 z
            subst eo
            rw [decide_eq_false z] at ez
            clear ho2 d1
            obtain ⟨Rx_0, B0⟩ := opn1 w (Obj.cells #[.bool false, .string ⟨#[]⟩, .string t, .int .i64 e] 50)
            go_enter Tryz.func73, Tryz.ntmps73
            go_wp2_with fail
            go_quiet (fail)
            obtain ⟨w1, hw, B1, hh⟩ := quiet_world B0 nq
            rw [hw]
            have Rx_1 : w1.heap[w.heap.size]? = some (Obj.cells #[.bool false, .string ⟨#[]⟩, .string t, .int .i64 e] 50) := by rw [hh]; exact Rx_0
            clear hw hh B0 Rx_0
            obtain ⟨cx_1_0, cx_1_1, cx_1_2, cx_1_3⟩ := cells4s Rx_1
            go_wp2_with fail
            refine (nat_may _ true H1.out _).mono ?_
            rintro r w' ⟨rfl, rfl⟩
            go_wp2_with fail
            refine (nat_may t true H2.out _).mono ?_
            rintro r w' ⟨rfl, rfl⟩
            go_wp2_with fail
            refine (rodd d t true HT.out LD.out D1.out _).mono ?_
            rintro r w2 ⟨rfl, b2⟩
            have B2 : Below w.heap.size w w2 := btr B1 b2
            have Rx_2 := heap_of b2 _ _ _ Rx_1
            clear b2 B1 Rx_1 cx_1_0 cx_1_1 cx_1_2 cx_1_3
            obtain ⟨cx_2_0, cx_2_1, cx_2_2, cx_2_3⟩ := cells4s Rx_2
            go_wp2_with fail
            obtain ⟨F, hF1, hF2⟩ := below_fun w2
            have fx_0 := fun u => cells4 (heap_of (hF1 u) _ _ _ Rx_2) 0 _ rfl
            have fx_1 := fun u => cells4 (heap_of (hF1 u) _ _ _ Rx_2) 1 _ rfl
            have fx_2 := fun u => cells4 (heap_of (hF1 u) _ _ _ Rx_2) 2 _ rfl
            have fx_3 := fun u => cells4 (heap_of (hF1 u) _ _ _ Rx_2) 3 _ rfl
            refine wp_region_below F hF2 (by kernel_rfl) (by kernel_rfl) ?_
            repeat first | go_big_quiet_step (first | (go_at_call 33; exact quietF hF1 hF2 (xnull _)) | fail) | quiet_step (first | (go_at_call 33; exact quietF hF1 hF2 (xnull _)) | fail)
            refine wpQuiet_nil ?_
            rintro _ ⟨uW, rfl⟩
            have B3 := btr B2 (hF1 uW)
            have Rx_3 := heap_of (hF1 uW) _ _ _ Rx_2
            obtain ⟨w3, hw⟩ : ∃ V, F uW = V := ⟨_, rfl⟩
            rw [hw] at B3 Rx_3
            try rw [hw]
            clear hw hF1 hF2 B2 fx_0 fx_1 fx_2 fx_3 Rx_2 cx_2_0 cx_2_1 cx_2_2 cx_2_3
            clear F
            obtain ⟨cx_3_0, cx_3_1, cx_3_2, cx_3_3⟩ := cells4s Rx_3
            go_wp2
            go_ret
            exact ⟨rfl, B3⟩
        · have eo : o = false := by cases o; rfl; exact absurd (ho2.1 rfl).2.1 d1
          subst eo
          rw [decide_eq_false d1] at e1
          clear ho2 d1 ez
          obtain ⟨Rx_0, B0⟩ := opn1 w (Obj.cells #[.bool false, .string ⟨#[]⟩, .string t, .int .i64 e] 50)
          go_enter Tryz.func73, Tryz.ntmps73
          go_wp2_with fail
          go_quiet (fail)
          obtain ⟨w1, hw, B1, hh⟩ := quiet_world B0 nq
          rw [hw]
          have Rx_1 : w1.heap[w.heap.size]? = some (Obj.cells #[.bool false, .string ⟨#[]⟩, .string t, .int .i64 e] 50) := by rw [hh]; exact Rx_0
          clear hw hh B0 Rx_0
          obtain ⟨cx_1_0, cx_1_1, cx_1_2, cx_1_3⟩ := cells4s Rx_1
          go_wp2_with fail
          refine (nat_may _ true H1.out _).mono ?_
          rintro r w' ⟨rfl, rfl⟩
          go_wp2_with fail
          refine (nat_may t true H2.out _).mono ?_
          rintro r w' ⟨rfl, rfl⟩
          go_wp2_with fail
          refine (rodd d t true HT.out LD.out D1.out _).mono ?_
          rintro r w2 ⟨rfl, b2⟩
          have B2 : Below w.heap.size w w2 := btr B1 b2
          have Rx_2 := heap_of b2 _ _ _ Rx_1
          clear b2 B1 Rx_1 cx_1_0 cx_1_1 cx_1_2 cx_1_3
          obtain ⟨cx_2_0, cx_2_1, cx_2_2, cx_2_3⟩ := cells4s Rx_2
          go_wp2_with fail
          obtain ⟨F, hF1, hF2⟩ := below_fun w2
          have fx_0 := fun u => cells4 (heap_of (hF1 u) _ _ _ Rx_2) 0 _ rfl
          have fx_1 := fun u => cells4 (heap_of (hF1 u) _ _ _ Rx_2) 1 _ rfl
          have fx_2 := fun u => cells4 (heap_of (hF1 u) _ _ _ Rx_2) 2 _ rfl
          have fx_3 := fun u => cells4 (heap_of (hF1 u) _ _ _ Rx_2) 3 _ rfl
          refine wp_region_below F hF2 (by kernel_rfl) (by kernel_rfl) ?_
          repeat first | go_big_quiet_step (first | (go_at_call 33; exact quietF hF1 hF2 (xnull _)) | fail) | quiet_step (first | (go_at_call 33; exact quietF hF1 hF2 (xnull _)) | fail)
          refine wpQuiet_nil ?_
          rintro _ ⟨uW, rfl⟩
          have B3 := btr B2 (hF1 uW)
          have Rx_3 := heap_of (hF1 uW) _ _ _ Rx_2
          obtain ⟨w3, hw⟩ : ∃ V, F uW = V := ⟨_, rfl⟩
          rw [hw] at B3 Rx_3
          try rw [hw]
          clear hw hF1 hF2 B2 fx_0 fx_1 fx_2 fx_3 Rx_2 cx_2_0 cx_2_1 cx_2_2 cx_2_3
          clear F
          obtain ⟨cx_3_0, cx_3_1, cx_3_2, cx_3_3⟩ := cells4s Rx_3
          go_wp2
          go_ret
          exact ⟨rfl, B3⟩
      · have eo : o = false := by cases o; rfl; exact absurd (ho2.1 rfl).1 (by decide)
        subst eo
        clear ho2 e1 ez
        obtain ⟨Rx_0, B0⟩ := opn1 w (Obj.cells #[.bool true, .string ⟨#[]⟩, .string t, .int .i64 e] 50)
        go_enter Tryz.func73, Tryz.ntmps73
        go_wp2_with fail
        go_quiet (fail)
        obtain ⟨w1, hw, B1, hh⟩ := quiet_world B0 nq
        rw [hw]
        have Rx_1 : w1.heap[w.heap.size]? = some (Obj.cells #[.bool true, .string ⟨#[]⟩, .string t, .int .i64 e] 50) := by rw [hh]; exact Rx_0
        clear hw hh B0 Rx_0
        obtain ⟨cx_1_0, cx_1_1, cx_1_2, cx_1_3⟩ := cells4s Rx_1
        go_wp2_with fail
        refine (nat_may _ true H1.out _).mono ?_
        rintro r w' ⟨rfl, rfl⟩
        go_wp2_with fail
        refine (nat_may t true H2.out _).mono ?_
        rintro r w' ⟨rfl, rfl⟩
        go_wp2_with fail
        refine (rodd d t true HT.out LD.out D1.out _).mono ?_
        rintro r w2 ⟨rfl, b2⟩
        have B2 : Below w.heap.size w w2 := btr B1 b2
        have Rx_2 := heap_of b2 _ _ _ Rx_1
        clear b2 B1 Rx_1 cx_1_0 cx_1_1 cx_1_2 cx_1_3
        obtain ⟨cx_2_0, cx_2_1, cx_2_2, cx_2_3⟩ := cells4s Rx_2
        go_wp2_with fail
        obtain ⟨F, hF1, hF2⟩ := below_fun w2
        have fx_0 := fun u => cells4 (heap_of (hF1 u) _ _ _ Rx_2) 0 _ rfl
        have fx_1 := fun u => cells4 (heap_of (hF1 u) _ _ _ Rx_2) 1 _ rfl
        have fx_2 := fun u => cells4 (heap_of (hF1 u) _ _ _ Rx_2) 2 _ rfl
        have fx_3 := fun u => cells4 (heap_of (hF1 u) _ _ _ Rx_2) 3 _ rfl
        refine wp_region_below F hF2 (by kernel_rfl) (by kernel_rfl) ?_
        repeat first | go_big_quiet_step (first | (go_at_call 33; exact quietF hF1 hF2 (xnull _)) | fail) | quiet_step (first | (go_at_call 33; exact quietF hF1 hF2 (xnull _)) | fail)
        refine wpQuiet_nil ?_
        rintro _ ⟨uW, rfl⟩
        have B3 := btr B2 (hF1 uW)
        have Rx_3 := heap_of (hF1 uW) _ _ _ Rx_2
        obtain ⟨w3, hw⟩ : ∃ V, F uW = V := ⟨_, rfl⟩
        rw [hw] at B3 Rx_3
        try rw [hw]
        clear hw hF1 hF2 B2 fx_0 fx_1 fx_2 fx_3 Rx_2 cx_2_0 cx_2_1 cx_2_2 cx_2_3
        clear F
        obtain ⟨cx_3_0, cx_3_1, cx_3_2, cx_3_3⟩ := cells4s Rx_3
        go_wp2
        go_ret
        exact ⟨rfl, B3⟩
    · have e0 := eq_nil n s hs h0
      have ho2 : o = true ↔ (n % 2 = 1 ∧ Nat.gcd n d = 1) := by rw [ho]; exact ⟨fun h => by rcases h.2.2 with h | h; exact absurd h.2.1 h0; exact ⟨h.1, h.2.2⟩, fun h => ⟨by omega, by omega, Or.inr ⟨h.1, hd, h.2⟩⟩⟩
      obtain ⟨p, hp⟩ : ∃ p, decide (n % 2 = 1) = p := ⟨_, rfl⟩
      obtain ⟨v, hv⟩ : ∃ v, nbA (Nat.gcd n d) = v := ⟨_, rfl⟩
      have e1 := eq_one _ v hv
      have HP := box hp
      have HV := box hv
      clear ho hs ht ln ld hd h1 h2 h0
      cases p
      · have eo : o = false := by cases o; rfl; rw [decide_eq_true (ho2.1 rfl).1] at hp; exact hp
        subst eo
        clear ho2 hp hv e1
        obtain ⟨Rx_0, B0⟩ := opn1 w (Obj.cells #[.bool b, .string s, .string t, .int .i64 e] 50)
        go_enter Tryz.func73, Tryz.ntmps73
        go_wp2_with fail
        go_quiet (fail)
        obtain ⟨w1, hw, B1, hh⟩ := quiet_world B0 nq
        rw [hw]
        have Rx_1 : w1.heap[w.heap.size]? = some (Obj.cells #[.bool b, .string s, .string t, .int .i64 e] 50) := by rw [hh]; exact Rx_0
        clear hw hh B0 Rx_0
        obtain ⟨cx_1_0, cx_1_1, cx_1_2, cx_1_3⟩ := cells4s Rx_1
        go_wp2_with fail
        refine (nat_may _ true H1.out _).mono ?_
        rintro r w' ⟨rfl, rfl⟩
        go_wp2_with fail
        refine (nat_may t true H2.out _).mono ?_
        rintro r w' ⟨rfl, rfl⟩
        go_wp2_with fail
        refine (rodd d t true HT.out LD.out D1.out _).mono ?_
        rintro r w2 ⟨rfl, b2⟩
        have B2 : Below w.heap.size w w2 := btr B1 b2
        have Rx_2 := heap_of b2 _ _ _ Rx_1
        clear b2 B1 Rx_1 cx_1_0 cx_1_1 cx_1_2 cx_1_3
        obtain ⟨cx_2_0, cx_2_1, cx_2_2, cx_2_3⟩ := cells4s Rx_2
        go_wp2_with fail
        refine (rodd n s false HS.out LN.out HP.out _).mono ?_
        rintro r w3 ⟨rfl, b3⟩
        have B3 : Below w.heap.size w w3 := btr B2 b3
        have Rx_3 := heap_of b3 _ _ _ Rx_2
        clear b3 B2 Rx_2 cx_2_0 cx_2_1 cx_2_2 cx_2_3
        obtain ⟨cx_3_0, cx_3_1, cx_3_2, cx_3_3⟩ := cells4s Rx_3
        go_wp2
        go_ret
        exact ⟨rfl, B3⟩
      · have eo : decide (Nat.gcd n d = 1) = o := by
          rw [Bool.eq_iff_iff, ho2, decide_eq_true_iff]
          exact ⟨fun h => ⟨of_decide_eq_true hp, h⟩, fun h => h.2⟩
        rw [eo] at e1
        clear ho2 hp hv eo
        obtain ⟨Rx_0, B0⟩ := opn1 w (Obj.cells #[.bool b, .string s, .string t, .int .i64 e] 50)
        go_enter Tryz.func73, Tryz.ntmps73
        go_wp2_with fail
        go_quiet (fail)
        obtain ⟨w1, hw, B1, hh⟩ := quiet_world B0 nq
        rw [hw]
        have Rx_1 : w1.heap[w.heap.size]? = some (Obj.cells #[.bool b, .string s, .string t, .int .i64 e] 50) := by rw [hh]; exact Rx_0
        clear hw hh B0 Rx_0
        obtain ⟨cx_1_0, cx_1_1, cx_1_2, cx_1_3⟩ := cells4s Rx_1
        go_wp2_with fail
        refine (nat_may _ true H1.out _).mono ?_
        rintro r w' ⟨rfl, rfl⟩
        go_wp2_with fail
        refine (nat_may t true H2.out _).mono ?_
        rintro r w' ⟨rfl, rfl⟩
        go_wp2_with fail
        refine (rodd d t true HT.out LD.out D1.out _).mono ?_
        rintro r w2 ⟨rfl, b2⟩
        have B2 : Below w.heap.size w w2 := btr B1 b2
        have Rx_2 := heap_of b2 _ _ _ Rx_1
        clear b2 B1 Rx_1 cx_1_0 cx_1_1 cx_1_2 cx_1_3
        obtain ⟨cx_2_0, cx_2_1, cx_2_2, cx_2_3⟩ := cells4s Rx_2
        go_wp2_with fail
        refine (rodd n s true HS.out LN.out HP.out _).mono ?_
        rintro r w3 ⟨rfl, b3⟩
        have B3 : Below w.heap.size w w3 := btr B2 b3
        have Rx_3 := heap_of b3 _ _ _ Rx_2
        clear b3 B2 Rx_2 cx_2_0 cx_2_1 cx_2_2 cx_2_3
        obtain ⟨cx_3_0, cx_3_1, cx_3_2, cx_3_3⟩ := cells4s Rx_3
        go_wp2_with fail
        refine (nat_Gcd n d s t v HS.out HT.out LN.out LD.out HV.out _).mono ?_
        rintro r w4 ⟨rfl, b4⟩
        have B4 : Below w.heap.size w w4 := btr B3 b4
        have Rx_4 := heap_of b4 _ _ _ Rx_3
        clear b4 B3 Rx_3 cx_3_0 cx_3_1 cx_3_2 cx_3_3
        obtain ⟨cx_4_0, cx_4_1, cx_4_2, cx_4_3⟩ := cells4s Rx_4
        go_wp2
        go_ret
        exact ⟨rfl, B4⟩
  · have D1 : Box (decide (d % 2 = 1) = false) := box (decide_eq_false hd)
    have eo : o = false := by cases o; rfl; have := ho.1 rfl; omega
    subst eo
    clear ho hs ht ln ld hd
    obtain ⟨Rx_0, B0⟩ := opn1 w (Obj.cells #[.bool b, .string s, .string t, .int .i64 e] 50)
    go_enter Tryz.func73, Tryz.ntmps73
    go_wp2_with fail
    go_quiet (fail)
    obtain ⟨w1, hw, B1, hh⟩ := quiet_world B0 nq
    rw [hw]
    have Rx_1 : w1.heap[w.heap.size]? = some (Obj.cells #[.bool b, .string s, .string t, .int .i64 e] 50) := by rw [hh]; exact Rx_0
    clear hw hh B0 Rx_0
    obtain ⟨cx_1_0, cx_1_1, cx_1_2, cx_1_3⟩ := cells4s Rx_1
    go_wp2_with fail
    refine (nat_may s true H1.out _).mono ?_
    rintro r w' ⟨rfl, rfl⟩
    go_wp2_with fail
    refine (nat_may t true H2.out _).mono ?_
    rintro r w' ⟨rfl, rfl⟩
    go_wp2_with fail
    refine (rodd d t false HT.out LD.out D1.out _).mono ?_
    rintro r w2 ⟨rfl, b2⟩
    have B2 : Below w.heap.size w w2 := btr B1 b2
    have Rx_2 := heap_of b2 _ _ _ Rx_1
    clear b2 B1 Rx_1 cx_1_0 cx_1_1 cx_1_2 cx_1_3
    obtain ⟨cx_2_0, cx_2_1, cx_2_2, cx_2_3⟩ := cells4s Rx_2
    go_wp2
    go_ret
    exact ⟨rfl, B2⟩
theorem xmayM (b : Bool) (s t : ByteArray) (e : Int) (o : Bool) (ho : IsM o b s t e) (w : World) : Calls Tryz.prog 73 #[.agg #[.bool b, .string s, .string t, .int .i64 e]] w fun r w' => r = .returned (.bool o) ∧ Below w.heap.size w w' := xmay b s t e o ho w
theorem mk_cases (neg : Bool) (n d : Nat) (e : Int) (rb : Bool) (rn rd : Nat) (re err : Int) (n0 : n ≠ 0) (hr : XMath.mk neg n d e = (⟨rb, rn, rd, re⟩, err)) :
    ((-1048576 ≤ e + (tz n : Int) - (tz d : Int) ∧ e + (tz n : Int) - (tz d : Int) ≤ 1048576) ∧ rb = neg ∧ rn = od n / Nat.gcd (od n) (od d) ∧ rd = od d / Nat.gcd (od n) (od d) ∧ re = e + (tz n : Int) - (tz d : Int) ∧ err = 0) ∨
    (¬ (-1048576 ≤ e + (tz n : Int) - (tz d : Int) ∧ e + (tz n : Int) - (tz d : Int) ≤ 1048576) ∧ rb = false ∧ rn = 0 ∧ rd = 0 ∧ re = 0 ∧ err = 4) := by
  unfold XMath.mk at hr
  rw [if_neg n0] at hr
  by_cases h : -1048576 ≤ e + (tz n : Int) - (tz d : Int) ∧ e + (tz n : Int) - (tz d : Int) ≤ 1048576
  · rw [if_pos h] at hr
    injection hr with h1 h2
    injection h1 with a b c d
    exact Or.inl ⟨h, a.symm, b.symm, c.symm, d.symm, h2.symm⟩
  · rw [if_neg h] at hr
    injection hr with h1 h2
    unfold XZ at h1
    injection h1 with a b c d
    exact Or.inr ⟨h, a.symm, b.symm, c.symm, d.symm, h2.symm⟩

theorem may_yes {b : Bool} {n d : Nat} {s t : ByteArray} {e : Int} (hs : nbA n = s) (ht : nbA d = t) (hc : (XN.mk b n d e).can) : IsM true b s t e := ⟨fun _ => ⟨n, d, hs, ht, hc⟩, fun _ => rfl⟩
theorem can_null {b : Bool} {n d : Nat} {e : Int} (hc : (XN.mk b n d e).can) (h0 : n = 0) : b = false ∧ d = 1 ∧ e = 0 := by
  have h := hc.null h0
  unfold X0 at h
  injection h with h1 h2 h3 h4
  exact ⟨h1, h3, h4⟩

theorem x_cases {b : Bool} {n d : Nat} {e : Int} {s t : ByteArray} (hs : nbA n = s) (ht : nbA d = t) (hc : (XN.mk b n d e).can) : (n = 0 ∧ b = false ∧ s = ⟨#[]⟩ ∧ t = ⟨#[1]⟩ ∧ d = 1 ∧ e = 0) ∨ (n ≠ 0 ∧ (s.toList == []) = false) := by
  by_cases h0 : n = 0
  · obtain ⟨h1, h2, h3⟩ := can_null hc h0
    subst h0 h2
    exact Or.inl ⟨rfl, h1, by rw [← hs, nbA_zero], by rw [← ht, nb1], rfl, h3⟩
  · exact Or.inr ⟨h0, eq_nil n s hs h0⟩

theorem lg_no (n : Nat) (h : ¬ nl n ≤ 16384) : lg n = (⟨#[]⟩, 4) := by unfold lg; rw [if_neg h]
theorem cmpv_neg (a b : Nat) : cmpv a b < 0 ↔ a < b := by
  unfold cmpv
  split
  · exact ⟨fun h => absurd h (by decide), fun h => by omega⟩
  · split
    · exact ⟨fun _ => by assumption, fun _ => by decide⟩
    · exact ⟨fun h => absurd h (by decide), fun h => by omega⟩
theorem lf_up (a : Nat) (k : Nat) (v : ByteArray) (h : nl (a * 2 ^ k) ≤ 16384) (hv : nbA (a * 2 ^ k) = v) : lf a (k : Int) = (v, 0) := by
  unfold lf
  rw [if_neg (by omega), Int.toNat_natCast]
  exact lg_ok _ v h hv
theorem nl_blen (a b : Nat) (h : blen a = blen b) (hb : nl b ≤ 16384) : nl a ≤ 16384 := by unfold nl at hb ⊢; rw [h]; exact hb
theorem tAB_nl (x : XN) (n0 : x.n ≠ 0) (d0 : x.d ≠ 0) (ln : nl x.n ≤ 16384) (ld : nl x.d ≤ 16384) : nl (tA x) ≤ 16384 ∧ nl (tB x) ≤ 16384 := by
  obtain ⟨h1, _, _⟩ := tA_len x n0 d0
  by_cases h : 0 ≤ lenD x
  · have e : tA x = x.n := by unfold tA; rw [show (max (-lenD x) 0).toNat = 0 by omega, Nat.pow_zero, Nat.mul_one]
    have k : nl (tA x) ≤ 16384 := by rw [e]; exact ln
    exact ⟨k, nl_blen _ _ h1.symm k⟩
  · have e : tB x = x.d := by unfold tB; rw [show (max (lenD x) 0).toNat = 0 by omega, Nat.pow_zero, Nat.mul_one]
    have k : nl (tB x) ≤ 16384 := by rw [e]; exact ld
    exact ⟨nl_blen _ _ h1 k, k⟩

end Go.Proofs.YtpdehipeakcaiaaGreatDoor
