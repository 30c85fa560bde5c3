/-
  Exact rational numbers: their one form, sums, products, quotients, compared, the highest bit, the whole part; a field's laws.
-/
import Derived.Test.YtknkkagapcigfaaDoorNat4
import Derived.Test.YtknkkagapcigfaaDoorGx
import Derived.Test.YtknkkagapcigfaaDoorDoor1
namespace Go.Proofs.YtknkkagapcigfaaDoor.XMath
open WMath

/-- How many twos a number has. -/
def tz (n : Nat) : Nat := if h : n = 0 ∨ n % 2 = 1 then 0 else tz (n / 2) + 1
termination_by n
decreasing_by omega
theorem tz_odd (n : Nat) (h : n % 2 = 1) : tz n = 0 := by rw [tz, dif_pos (Or.inr h)]
theorem tz_even (n : Nat) (h0 : n ≠ 0) (h : n % 2 = 0) : tz n = tz (n / 2) + 1 := by rw [tz, dif_neg (by omega)]
theorem tz_is (n : Nat) (h : n ≠ 0) : ∃ m, n = m * 2 ^ tz n ∧ m % 2 = 1 := by
  induction n using Nat.strongRecOn with
  | _ n ih =>
    by_cases h1 : n % 2 = 1
    · exact ⟨n, by rw [tz_odd n h1, Nat.pow_zero, Nat.mul_one], h1⟩
    · obtain ⟨m, hm, ho⟩ := ih (n / 2) (by omega) (by omega)
      refine ⟨m, ?_, ho⟩
      rw [tz_even n h (by omega), Nat.pow_succ, ← Nat.mul_assoc, ← hm]
      omega
/-- A number without its twos. -/
def od (n : Nat) : Nat := n / 2 ^ tz n
theorem od_is (n : Nat) (h : n ≠ 0) : n = od n * 2 ^ tz n ∧ od n % 2 = 1 := by
  obtain ⟨m, hm, ho⟩ := tz_is n h
  have e : od n = m := by
    unfold od
    generalize tz n = k at hm ⊢
    rw [hm]
    exact Nat.mul_div_cancel _ (Nat.two_pow_pos _)
  rw [e]
  exact ⟨hm, ho⟩
theorem od_odd (n : Nat) (h : n % 2 = 1) : od n = n := by unfold od; rw [tz_odd n h, Nat.pow_zero, Nat.div_one]
theorem od_le (n : Nat) : od n ≤ n := Nat.div_le_self _ _
theorem tz_low (n : Nat) : LowN n (tz n) := by
  by_cases h : n = 0
  · left
    exact ⟨h, by rw [h, tz, dif_pos (Or.inl rfl)]⟩
  · right
    obtain ⟨h1, h2⟩ := od_is n h
    refine ⟨h, ?_, ?_⟩
    · generalize tz n = k at h1
      rw [h1, Nat.mul_mod_left]
    · rw [Nat.testBit, Nat.shiftRight_eq_div_pow]
      have e : n / 2 ^ tz n = od n := rfl
      rw [e]
      simp only [Nat.one_and_eq_mod_two, bne_iff_ne, ne_eq]
      omega
theorem tz_blen (n : Nat) : tz n ≤ blen n := by
  by_cases h : n = 0
  · rw [h, tz, dif_pos (Or.inl rfl)]; omega
  · obtain ⟨h1, h2⟩ := od_is n h
    have h3 : 2 ^ tz n ≤ n := by
      generalize tz n = k at h1 ⊢
      rw [h1]
      exact Nat.le_mul_of_pos_left _ (by omega)
    have h4 := blen_lt n
    exact Nat.le_of_lt ((Nat.pow_lt_pow_iff_right (by decide : 1 < 2)).1 (Nat.lt_of_le_of_lt h3 h4))

/-- A rational number: its sign, numerator, denominator, exponent. -/
structure XN where
  b : Bool
  n : Nat
  d : Nat
  e : Int
/-- May it be? -/
def XN.can (x : XN) : Prop := nl x.n ≤ 16384 ∧ nl x.d ≤ 16384 ∧ -1048576 ≤ x.e ∧ x.e ≤ 1048576 ∧ ((x.b = false ∧ x.n = 0 ∧ x.d = 1 ∧ x.e = 0) ∨ (x.n % 2 = 1 ∧ x.d % 2 = 1 ∧ Nat.gcd x.n x.d = 1))
def sgn (b : Bool) : Rat := if b then -1 else 1
def XN.val (x : XN) : Rat := sgn x.b * ((x.n : Rat) / (x.d : Rat)) * (2 : Rat) ^ x.e
def X0 : XN := ⟨false, 0, 1, 0⟩
def XZ : XN := ⟨false, 0, 0, 0⟩
theorem XN.can.d {x : XN} (h : x.can) : x.d % 2 = 1 := by rcases h.2.2.2.2 with h | h <;> omega
theorem XN.can.d0 {x : XN} (h : x.can) : x.d ≠ 0 := by have := h.d; omega
theorem XN.can.null {x : XN} (h : x.can) (h0 : x.n = 0) : x = X0 := by
  rcases h.2.2.2.2 with h | h
  · cases x; simp_all [X0]
  · omega
theorem XN.can.odd {x : XN} (h : x.can) (h0 : x.n ≠ 0) : x.n % 2 = 1 ∧ x.d % 2 = 1 ∧ Nat.gcd x.n x.d = 1 := by
  rcases h.2.2.2.2 with h | h
  · exact absurd h.2.1 h0
  · exact h
theorem x0_can : X0.can := ⟨Nat.le_trans (nl_mono 0 1 (by decide)) (Nat.le_trans (nl_le_of 1 1 (by decide)) (by decide)), Nat.le_trans (nl_le_of 1 1 (by decide)) (by decide), by decide, by decide, Or.inl ⟨rfl, rfl, rfl, rfl⟩⟩

def mk (neg : Bool) (n d : Nat) (e : Int) : XN × Int :=
  if n = 0 then (X0, 0)
  else if -1048576 ≤ e + (tz n : Int) - (tz d : Int) ∧ e + (tz n : Int) - (tz d : Int) ≤ 1048576 then (⟨neg, od n / Nat.gcd (od n) (od d), od d / Nat.gcd (od n) (od d), e + (tz n : Int) - (tz d : Int)⟩, 0)
  else (XZ, 4)
theorem mk_null (neg : Bool) (d : Nat) (e : Int) : mk neg 0 d e = (X0, 0) := by unfold mk; rw [if_pos rfl]
theorem mk_err (neg : Bool) (n d : Nat) (e : Int) : ((mk neg n d e).2 = 0) ∨ (mk neg n d e = (XZ, 4)) := by
  unfold mk
  split
  · exact Or.inl rfl
  · split
    · exact Or.inl rfl
    · exact Or.inr rfl
theorem div_odd (a g : Nat) (h : g ∣ a) (ha : a % 2 = 1) : a / g % 2 = 1 := by
  obtain ⟨k, rfl⟩ := h
  have g0 : 0 < g := by
    rcases Nat.eq_zero_or_pos g with h | h
    · rw [h, Nat.zero_mul] at ha; omega
    · exact h
  rw [Nat.mul_div_cancel_left _ g0]
  rcases Nat.mod_two_eq_zero_or_one k with h | h
  · rw [Nat.mul_mod, h, Nat.mul_zero] at ha; omega
  · exact h
theorem mul_odd (a b : Nat) (ha : a % 2 = 1) (hb : b % 2 = 1) : a * b % 2 = 1 := by rw [Nat.mul_mod, ha, hb]
theorem mk_can (neg : Bool) (n d : Nat) (e : Int) (hn : nl n ≤ 16384) (hd : nl d ≤ 16384) (d0 : d ≠ 0) (h : (mk neg n d e).2 = 0) : (mk neg n d e).1.can := by
  unfold mk at h ⊢
  split
  · exact x0_can
  · rename_i n0
    rw [if_neg n0] at h
    split
    · rename_i hb
      obtain ⟨h1, h2⟩ := od_is n n0
      obtain ⟨h3, h4⟩ := od_is d d0
      have g1 := Nat.gcd_dvd_left (od n) (od d)
      have g2 := Nat.gcd_dvd_right (od n) (od d)
      refine ⟨Nat.le_trans (nl_mono _ _ (Nat.le_trans (Nat.div_le_self _ _) (od_le n))) hn, Nat.le_trans (nl_mono _ _ (Nat.le_trans (Nat.div_le_self _ _) (od_le d))) hd, hb.1, hb.2, Or.inr ⟨div_odd _ _ g1 h2, div_odd _ _ g2 h4, ?_⟩⟩
      show Nat.gcd (od n / Nat.gcd (od n) (od d)) (od d / Nat.gcd (od n) (od d)) = 1
      rw [Nat.gcd_div g1 g2]
      exact Nat.div_self (Nat.gcd_pos_of_pos_left _ (by omega))
    · rename_i hb
      rw [if_neg hb] at h
      exact absurd h (by decide)
theorem p2 (e : Int) : (0 : Rat) < (2 : Rat) ^ e := Rat.zpow_pos (by decide)
theorem p2ne (e : Int) : (2 : Rat) ^ e ≠ 0 := Rat.ne_of_gt (p2 e)
theorem p2add (e f : Int) : (2 : Rat) ^ (e + f) = (2 : Rat) ^ e * (2 : Rat) ^ f := Rat.zpow_add (by decide) e f
theorem p2nat (n : Nat) : (2 : Rat) ^ (n : Int) = ((2 ^ n : Nat) : Rat) := by rw [Rat.zpow_natCast, Rat.natCast_pow]; rfl
theorem p2sub (e f : Int) : (2 : Rat) ^ (e - f) * (2 : Rat) ^ f = (2 : Rat) ^ e := by rw [← p2add, Int.sub_add_cancel]
theorem mk_val (neg : Bool) (n d : Nat) (e : Int) (d0 : d ≠ 0) (h : (mk neg n d e).2 = 0) : (mk neg n d e).1.val = sgn neg * ((n : Rat) / (d : Rat)) * (2 : Rat) ^ e := by
  unfold mk at h ⊢
  split
  · rename_i n0
    rw [n0]
    show sgn false * (((0 : Nat) : Rat) / ((1 : Nat) : Rat)) * (2 : Rat) ^ (0 : Int) = sgn neg * (((0 : Nat) : Rat) / (d : Rat)) * (2 : Rat) ^ e
    have : ((0 : Nat) : Rat) = 0 := rfl
    rw [this]
    simp [Rat.div_def]
  · rename_i n0
    rw [if_neg n0] at h
    split
    · rename_i hb
      obtain ⟨h1, h2⟩ := od_is n n0
      obtain ⟨h3, h4⟩ := od_is d d0
      obtain ⟨n', e1⟩ := Nat.gcd_dvd_left (od n) (od d)
      obtain ⟨d', e2⟩ := Nat.gcd_dvd_right (od n) (od d)
      have g0 : 0 < Nat.gcd (od n) (od d) := Nat.gcd_pos_of_pos_left _ (by omega)
      show sgn neg * (((od n / Nat.gcd (od n) (od d) : Nat) : Rat) / ((od d / Nat.gcd (od n) (od d) : Nat) : Rat)) * (2 : Rat) ^ (e + (tz n : Int) - (tz d : Int)) = _
      generalize Nat.gcd (od n) (od d) = g at *
      have c1 : od n / g = n' := by rw [e1]; exact Nat.mul_div_cancel_left _ g0
      have c2 : od d / g = d' := by rw [e2]; exact Nat.mul_div_cancel_left _ g0
      rw [c1, c2]
      have d'0 : d' ≠ 0 := by
        intro hz
        rw [hz, Nat.mul_zero] at e2
        omega
      rw [e1] at h1
      rw [e2] at h3
      have k1 : (n : Rat) = (g : Rat) * (n' : Rat) * (2 : Rat) ^ (tz n : Int) := by
        rw [p2nat, ← Rat.natCast_mul, ← Rat.natCast_mul, ← h1]
      have k2 : (d : Rat) = (g : Rat) * (d' : Rat) * (2 : Rat) ^ (tz d : Int) := by
        rw [p2nat, ← Rat.natCast_mul, ← Rat.natCast_mul, ← h3]
      have k3 := p2sub (e + (tz n : Int)) (tz d : Int)
      rw [p2add e] at k3
      have z1 := p2ne (tz d : Int)
      have z2 : (g : Rat) ≠ 0 := fun h => by rw [Rat.natCast_eq_zero_iff] at h; omega
      have z3 : (d' : Rat) ≠ 0 := fun h => d'0 (Rat.natCast_eq_zero_iff.1 h)
      rw [k1, k2]
      generalize (2 : Rat) ^ (e + (tz n : Int) - (tz d : Int)) = E at *
      generalize (2 : Rat) ^ (tz d : Int) = D at *
      generalize (2 : Rat) ^ (tz n : Int) = N at *
      generalize (2 : Rat) ^ e = F at *
      grind
    · rename_i hb
      rw [if_neg hb] at h
      exact absurd h (by decide)

theorem cast_ne {n : Nat} (h : n ≠ 0) : (n : Rat) ≠ 0 := fun e => h (Rat.natCast_eq_zero_iff.1 e)
theorem cast_pos {n : Nat} (h : n ≠ 0) : (0 : Rat) < (n : Rat) := Rat.natCast_pos.2 (by omega)
theorem sgn_sq (b : Bool) : sgn b * sgn b = 1 := by cases b <;> simp [sgn] <;> grind
theorem sgn_ne (b : Bool) : sgn b ≠ 0 := by cases b <;> decide
/-- The magnitude. -/
def XN.mag (x : XN) : Rat := ((x.n : Rat) / (x.d : Rat)) * (2 : Rat) ^ x.e
theorem val_mag (x : XN) : x.val = sgn x.b * x.mag := by unfold XN.val XN.mag; rw [Rat.mul_assoc]
theorem mag_pos (x : XN) (hn : x.n ≠ 0) (hd : x.d ≠ 0) : 0 < x.mag := by
  unfold XN.mag
  rw [Rat.div_def]
  exact Rat.mul_pos (Rat.mul_pos (cast_pos hn) (Rat.inv_pos.2 (cast_pos hd))) (p2 _)
theorem mag_zero (x : XN) (hn : x.n = 0) : x.mag = 0 := by
  unfold XN.mag
  rw [hn]
  have : ((0 : Nat) : Rat) = 0 := rfl
  rw [this, Rat.div_def, Rat.zero_mul, Rat.zero_mul]
/-- Two magnitudes, at the lesser exponent. -/
theorem mag_shift (x y : XN) (dx : x.d ≠ 0) (m : Int) (hm : m ≤ x.e) :
    x.mag * ((x.d * y.d : Nat) : Rat) = ((x.n * y.d * 2 ^ (x.e - m).toNat : Nat) : Rat) * (2 : Rat) ^ m := by
  have e1 : (2 : Rat) ^ x.e = (2 : Rat) ^ ((x.e - m).toNat : Int) * (2 : Rat) ^ m := by
    rw [← p2add]
    congr 1
    omega
  unfold XN.mag
  rw [Rat.natCast_mul, Rat.natCast_mul, Rat.natCast_mul, ← p2nat, e1]
  have z1 := cast_ne dx
  generalize (2 : Rat) ^ ((x.e - m).toNat : Int) = A at *
  generalize (2 : Rat) ^ m = B at *
  grind
theorem mag_one (x y : XN) (hx : x.n % 2 = 1 ∧ x.d % 2 = 1 ∧ Nat.gcd x.n x.d = 1) (hy : y.n % 2 = 1 ∧ y.d % 2 = 1 ∧ Nat.gcd y.n y.d = 1) (hle : x.e ≤ y.e) (h : x.mag = y.mag) : x.n = y.n ∧ x.d = y.d ∧ x.e = y.e := by
  have d1 : x.d ≠ 0 := by omega
  have d2 : y.d ≠ 0 := by omega
  have m1 := mag_shift x y d1 x.e (Int.le_refl _)
  have m2 := mag_shift y x d2 x.e hle
  rw [h, Nat.mul_comm x.d y.d, m2] at m1
  have m3 : ((y.n * x.d * 2 ^ (y.e - x.e).toNat : Nat) : Rat) = ((x.n * y.d * 2 ^ (x.e - x.e).toNat : Nat) : Rat) := by
    have z := p2ne x.e
    generalize (2 : Rat) ^ x.e = A at *
    generalize ((y.n * x.d * 2 ^ (y.e - x.e).toNat : Nat) : Rat) = B at *
    generalize ((x.n * y.d * 2 ^ (x.e - x.e).toNat : Nat) : Rat) = C at *
    grind
  rw [Rat.natCast_inj, Int.sub_self] at m3
  have m4 : y.n * x.d * 2 ^ (y.e - x.e).toNat = x.n * y.d := by rw [m3]; simp
  have e0 : (y.e - x.e).toNat = 0 := by
    by_cases hz : (y.e - x.e).toNat = 0
    · exact hz
    · exfalso
      obtain ⟨k, hk⟩ : ∃ k, (y.e - x.e).toNat = k + 1 := ⟨_, (Nat.succ_pred_eq_of_ne_zero hz).symm⟩
      rw [hk, Nat.pow_succ, ← Nat.mul_assoc] at m4
      have := mul_odd _ _ hx.1 hy.2.1
      omega
  rw [e0, Nat.pow_zero, Nat.mul_one] at m4
  have q1 : x.n ∣ y.n := by
    have : x.n ∣ y.n * x.d := ⟨y.d, m4⟩
    exact Nat.Coprime.dvd_of_dvd_mul_right hx.2.2 this
  have q2 : y.n ∣ x.n := by
    have : y.n ∣ x.n * y.d := ⟨x.d, m4.symm⟩
    exact Nat.Coprime.dvd_of_dvd_mul_right hy.2.2 this
  have q3 := Nat.dvd_antisymm q1 q2
  refine ⟨q3, ?_, by omega⟩
  rw [q3] at m4
  exact Nat.eq_of_mul_eq_mul_left (by omega) m4
/-- Reduced forms are one. -/
theorem can_inj (x y : XN) (hx : x.can) (hy : y.can) (h : x.val = y.val) : x = y := by
  rw [val_mag, val_mag] at h
  by_cases n1 : x.n = 0
  · rw [mag_zero x n1, Rat.mul_zero] at h
    by_cases n2 : y.n = 0
    · rw [hx.null n1, hy.null n2]
    · exfalso
      have p := mag_pos y n2 hy.d0
      rcases (Rat.mul_eq_zero.1 h.symm) with h | h
      · exact sgn_ne _ h
      · rw [h] at p; exact absurd p Rat.lt_irrefl
  · by_cases n2 : y.n = 0
    · exfalso
      rw [mag_zero y n2, Rat.mul_zero] at h
      have p := mag_pos x n1 hx.d0
      rcases (Rat.mul_eq_zero.1 h) with h | h
      · exact sgn_ne _ h
      · rw [h] at p; exact absurd p Rat.lt_irrefl
    · have p1 := mag_pos x n1 hx.d0
      have p2 := mag_pos y n2 hy.d0
      have hb : x.b = y.b := by
        cases e1 : x.b <;> cases e2 : y.b
        · rfl
        · exfalso
          rw [e1, e2] at h
          unfold sgn at h
          simp at h
          grind
        · exfalso
          rw [e1, e2] at h
          unfold sgn at h
          simp at h
          grind
        · rfl
      have hm : x.mag = y.mag := by
        rw [hb] at h
        have := sgn_ne y.b
        generalize sgn y.b = s at *
        grind
      have key : x.n = y.n ∧ x.d = y.d ∧ x.e = y.e := by
        by_cases hle : x.e ≤ y.e
        · exact mag_one x y (hx.odd n1) (hy.odd n2) hle hm
        · obtain ⟨a, b, c⟩ := mag_one y x (hy.odd n2) (hx.odd n1) (by omega) hm.symm
          exact ⟨a.symm, b.symm, c.symm⟩
      obtain ⟨k1, k2, k3⟩ := key
      cases x; cases y
      simp_all

/-- What the sum's formula makes of the one number: at the lesser exponent, over both denominators. -/
def sA (x y : XN) : Nat := x.n * y.d * 2 ^ (x.e - min x.e y.e).toNat
def sS (x y : XN) : Nat := if x.b = y.b then sA x y + sA y x else if sA x y < sA y x then sA y x - sA x y else sA x y - sA y x
def sN (x y : XN) : Bool := if x.b = y.b then x.b else if sA x y < sA y x then y.b else x.b
def addX (x y : XN) : XN × Int :=
  if x.n = 0 then (y, 0) else if y.n = 0 then (x, 0)
  else if nl (sA x y) ≤ 16384 ∧ nl (sA y x) ≤ 16384 ∧ nl (x.d * y.d) ≤ 16384 ∧ nl (sS x y) ≤ 16384 then mk (sN x y) (sS x y) (x.d * y.d) (min x.e y.e) else (XZ, 4)
def negX (x : XN) : XN := if x.n = 0 then x else ⟨!x.b, x.n, x.d, x.e⟩
def absX (x : XN) : XN := ⟨false, x.n, x.d, x.e⟩
def mulX (x y : XN) : XN × Int :=
  if x.n = 0 ∨ y.n = 0 then (X0, 0)
  else if nl (x.n * y.n) ≤ 16384 ∧ nl (x.d * y.d) ≤ 16384 then mk (x.b != y.b) (x.n * y.n) (x.d * y.d) (x.e + y.e) else (XZ, 4)
def quoX (x y : XN) : XN × Int :=
  if y.n = 0 then (XZ, 2) else if x.n = 0 then (X0, 0)
  else if nl (x.n * y.d) ≤ 16384 ∧ nl (x.d * y.n) ≤ 16384 then mk (x.b != y.b) (x.n * y.d) (x.d * y.n) (x.e - y.e) else (XZ, 4)

theorem sA_mag (x y : XN) (dx : x.d ≠ 0) : x.mag * ((x.d * y.d : Nat) : Rat) = ((sA x y : Nat) : Rat) * (2 : Rat) ^ (min x.e y.e) :=
  mag_shift x y dx _ (Int.min_le_left _ _)
theorem mul_ne {a b : Nat} (ha : a ≠ 0) (hb : b ≠ 0) : a * b ≠ 0 := fun h => by rcases Nat.mul_eq_zero.1 h with h | h <;> contradiction
theorem sS_val (x y : XN) : sgn (sN x y) * ((sS x y : Nat) : Rat) = sgn x.b * ((sA x y : Nat) : Rat) + sgn y.b * ((sA y x : Nat) : Rat) := by
  unfold sS sN
  split
  · rename_i h
    rw [h, Rat.natCast_add, Rat.mul_add]
  · rename_i h
    have hs : sgn y.b = - sgn x.b := by
      cases e1 : x.b <;> cases e2 : y.b <;> rw [e1, e2] at h <;> first | exact absurd rfl h | decide
    split
    · rename_i hl
      have e : ((sA y x - sA x y : Nat) : Rat) = ((sA y x : Nat) : Rat) - ((sA x y : Nat) : Rat) := by
        have : ((sA y x - sA x y : Nat) : Rat) + ((sA x y : Nat) : Rat) = ((sA y x : Nat) : Rat) := by rw [← Rat.natCast_add, Nat.sub_add_cancel (Nat.le_of_lt hl)]
        rw [← this]
        grind
      rw [e, hs]
      grind
    · rename_i hl
      have e : ((sA x y - sA y x : Nat) : Rat) = ((sA x y : Nat) : Rat) - ((sA y x : Nat) : Rat) := by
        have : ((sA x y - sA y x : Nat) : Rat) + ((sA y x : Nat) : Rat) = ((sA x y : Nat) : Rat) := by rw [← Rat.natCast_add, Nat.sub_add_cancel (by omega)]
        rw [← this]
        grind
      rw [e, hs]
      grind
theorem add_good (x y : XN) (hx : x.can) (hy : y.can) (h : (addX x y).2 = 0) : (addX x y).1.can ∧ (addX x y).1.val = x.val + y.val := by
  unfold addX at h ⊢
  split
  · rename_i n0
    refine ⟨hy, ?_⟩
    rw [val_mag x, mag_zero x n0, Rat.mul_zero, Rat.zero_add]
  · rename_i n0
    split
    · rename_i m0
      refine ⟨hx, ?_⟩
      rw [val_mag y, mag_zero y m0, Rat.mul_zero, Rat.add_zero]
    · rename_i m0
      rw [if_neg n0, if_neg m0] at h
      split
      · rename_i hl
        rw [if_pos hl] at h
        have dz := mul_ne hx.d0 hy.d0
        refine ⟨mk_can _ _ _ _ hl.2.2.2 hl.2.2.1 dz h, ?_⟩
        rw [mk_val _ _ _ _ dz h, val_mag x, val_mag y]
        have k1 := sA_mag x y hx.d0
        have k2 := sA_mag y x hy.d0
        have k3 := sS_val x y
        rw [Nat.mul_comm y.d x.d, show min y.e x.e = min x.e y.e from Int.min_comm _ _] at k2
        have z := cast_ne dz
        generalize (2 : Rat) ^ (min x.e y.e) = P at *
        generalize ((x.d * y.d : Nat) : Rat) = D at *
        generalize ((sA x y : Nat) : Rat) = A at *
        generalize ((sA y x : Nat) : Rat) = B at *
        generalize ((sS x y : Nat) : Rat) = S at *
        generalize sgn (sN x y) = s at *
        generalize sgn x.b = s1 at *
        generalize sgn y.b = s2 at *
        generalize x.mag = u at *
        generalize y.mag = v at *
        have e1 : s * (S / D) * P = (s * S) * P / D := by grind
        rw [e1, k3]
        have e2 : (s1 * A + s2 * B) * P / D = (s1 * (A * P) + s2 * (B * P)) / D := by grind
        rw [e2, ← k1, ← k2]
        grind
      · rename_i hl
        rw [if_neg hl] at h
        exact absurd h (by decide)
theorem sgn_bne (b c : Bool) : sgn (b != c) = sgn b * sgn c := by cases b <;> cases c <;> simp [sgn] <;> grind
theorem mul_good (x y : XN) (hx : x.can) (hy : y.can) (h : (mulX x y).2 = 0) : (mulX x y).1.can ∧ (mulX x y).1.val = x.val * y.val := by
  unfold mulX at h ⊢
  split
  · rename_i n0
    refine ⟨x0_can, ?_⟩
    rw [val_mag X0, mag_zero X0 rfl, Rat.mul_zero, val_mag x, val_mag y]
    rcases n0 with h | h
    · rw [mag_zero x h, Rat.mul_zero, Rat.zero_mul]
    · rw [mag_zero y h, Rat.mul_zero, Rat.mul_zero]
  · rename_i n0
    rw [if_neg n0] at h
    split
    · rename_i hl
      rw [if_pos hl] at h
      have dz := mul_ne hx.d0 hy.d0
      refine ⟨mk_can _ _ _ _ hl.1 hl.2 dz h, ?_⟩
      rw [mk_val _ _ _ _ dz h, val_mag x, val_mag y, sgn_bne, p2add, Rat.natCast_mul, Rat.natCast_mul]
      unfold XN.mag
      have z1 := cast_ne hx.d0
      have z2 := cast_ne hy.d0
      grind
    · rename_i hl
      rw [if_neg hl] at h
      exact absurd h (by decide)
theorem quo_good (x y : XN) (hx : x.can) (hy : y.can) (h : (quoX x y).2 = 0) : (quoX x y).1.can ∧ (quoX x y).1.val * y.val = x.val ∧ y.val ≠ 0 := by
  unfold quoX at h ⊢
  split
  · rename_i m0
    rw [if_pos m0] at h
    exact absurd h (by decide)
  · rename_i m0
    rw [if_neg m0] at h
    have yv : y.val ≠ 0 := by
      rw [val_mag]
      intro he
      rcases Rat.mul_eq_zero.1 he with h | h
      · exact sgn_ne _ h
      · have := mag_pos y m0 hy.d0
        rw [h] at this
        exact absurd this Rat.lt_irrefl
    split
    · rename_i n0
      refine ⟨x0_can, ?_, yv⟩
      rw [val_mag X0, mag_zero X0 rfl, Rat.mul_zero, val_mag x, mag_zero x n0, Rat.mul_zero, Rat.zero_mul]
    · rename_i n0
      rw [if_neg n0] at h
      split
      · rename_i hl
        rw [if_pos hl] at h
        have dz := mul_ne hx.d0 m0
        refine ⟨mk_can _ _ _ _ hl.1 hl.2 dz h, ?_, yv⟩
        rw [mk_val _ _ _ _ dz h, val_mag x, val_mag y, sgn_bne, Rat.natCast_mul, Rat.natCast_mul]
        unfold XN.mag
        have k := p2sub x.e y.e
        have z1 := cast_ne hx.d0
        have z2 := cast_ne hy.d0
        have z3 := cast_ne m0
        have z4 := sgn_sq y.b
        generalize (2 : Rat) ^ (x.e - y.e) = A at *
        generalize (2 : Rat) ^ x.e = B at *
        generalize (2 : Rat) ^ y.e = C at *
        generalize sgn x.b = s at *
        generalize sgn y.b = t at *
        rw [← k]
        have e1 : s * t * (↑x.n * ↑y.d / (↑x.d * ↑y.n)) * A * (t * (↑y.n / ↑y.d * C)) = s * (t * t) * ((x.n : Rat) / (x.d : Rat) * (A * C)) := by grind
        rw [e1, z4]
        grind
      · rename_i hl
        rw [if_neg hl] at h
        exact absurd h (by decide)
theorem neg_good (x : XN) (hx : x.can) : (negX x).can ∧ (negX x).val = - x.val := by
  unfold negX
  split
  · rename_i n0
    refine ⟨hx, ?_⟩
    rw [val_mag x, mag_zero x n0, Rat.mul_zero]
    rfl
  · rename_i n0
    have ho := hx.odd n0
    obtain ⟨a, b, c, d, _⟩ := hx
    refine ⟨⟨a, b, c, d, Or.inr ho⟩, ?_⟩
    show sgn (!x.b) * _ * _ = - (sgn x.b * _ * _)
    have : sgn (!x.b) = - sgn x.b := by cases x.b <;> decide
    rw [this]
    grind
theorem abs_good (x : XN) (hx : x.can) : (absX x).can ∧ (absX x).mag = x.mag := by
  obtain ⟨a, b, c, d, h⟩ := hx
  refine ⟨⟨a, b, c, d, ?_⟩, rfl⟩
  rcases h with h | h
  · exact Or.inl ⟨rfl, h.2⟩
  · exact Or.inr h

def sg (x : XN) : Int := if x.n = 0 then 0 else if x.b then -1 else 1
def cmpX (x y : XN) : Int × Int :=
  if sg x < sg y then (-1, 0) else if sg y < sg x then (1, 0) else if sg x = 0 then (0, 0)
  else if nl (sA x y) ≤ 16384 ∧ nl (sA y x) ≤ 16384 then (sg x * cmpv (sA x y) (sA y x), 0) else (0, 4)
def scaleX (x : XN) (n : Int) : XN × Int :=
  if x.n = 0 then (x, 0) else if -1048576 ≤ x.e + n ∧ x.e + n ≤ 1048576 then (⟨x.b, x.n, x.d, x.e + n⟩, 0) else (XZ, 4)
def lenD (x : XN) : Int := (blen x.n : Int) - (blen x.d : Int)
def tA (x : XN) : Nat := x.n * 2 ^ (max (-lenD x) 0).toNat
def tB (x : XN) : Nat := x.d * 2 ^ (max (lenD x) 0).toNat
def topX (x : XN) : Int := (if tA x < tB x then lenD x - 1 else lenD x) + x.e
def flX (x : XN) (e : Int) : (Nat × Bool) × Int :=
  if e < -2097152 ∨ 2097152 < e then ((0, false), 2) else if x.n = 0 then ((0, true), 0)
  else if e ≤ x.e then (if nl (x.n * 2 ^ (x.e - e).toNat) ≤ 16384 then ((x.n * 2 ^ (x.e - e).toNat / x.d, decide (x.n * 2 ^ (x.e - e).toNat % x.d = 0)), 0) else ((0, false), 4))
  else if topX x < e then ((0, false), 0) else ((x.n / (x.d * 2 ^ (e - x.e).toNat), false), 0)

def cmpR (u v : Rat) : Int := if u < v then -1 else if v < u then 1 else 0
theorem cmpR_le (u v : Rat) : cmpR u v ≤ 0 ↔ u ≤ v := by
  unfold cmpR
  split
  · rename_i h
    exact ⟨fun _ => Rat.le_of_lt h, fun _ => by decide⟩
  · rename_i h
    split
    · rename_i h2
      exact ⟨fun h => absurd h (by decide), fun h3 => absurd h2 (Rat.not_lt.2 h3)⟩
    · rename_i h2
      exact ⟨fun _ => Rat.not_lt.1 h2, fun _ => by decide⟩
theorem cmpR_lt (u v : Rat) : cmpR u v < 0 ↔ u < v := by
  unfold cmpR
  split
  · rename_i h
    exact ⟨fun _ => h, fun _ => by decide⟩
  · rename_i h
    split
    · exact ⟨fun h => absurd h (by decide), fun h3 => absurd h3 h⟩
    · exact ⟨fun h => absurd h (by decide), fun h3 => absurd h3 h⟩
theorem cmpR_eq (u v : Rat) : cmpR u v = 0 ↔ u = v := by
  unfold cmpR
  split
  · rename_i h
    exact ⟨fun h => absurd h (by decide), fun h3 => absurd h (by rw [h3]; exact Rat.lt_irrefl)⟩
  · rename_i h
    split
    · rename_i h2
      exact ⟨fun h => absurd h (by decide), fun h3 => absurd h2 (by rw [h3]; exact Rat.lt_irrefl)⟩
    · rename_i h2
      exact ⟨fun _ => Rat.le_antisymm (Rat.not_lt.1 h2) (Rat.not_lt.1 h), fun _ => rfl⟩
theorem cmpR_scale (u v c : Rat) (hc : 0 < c) : cmpR (u * c) (v * c) = cmpR u v := by
  unfold cmpR
  simp only [Rat.mul_lt_mul_right hc]
theorem cmpR_nat (a b : Nat) : cmpR (a : Rat) (b : Rat) = cmpv a b := by
  unfold cmpR cmpv
  simp only [Rat.natCast_lt_natCast]
  by_cases h1 : a < b
  · rw [if_pos h1]
    first | rw [if_neg (by omega), if_pos h1] | rw [if_pos h1]
  · rw [if_neg h1]
    by_cases h2 : b < a
    · rw [if_pos h2]
      first | rw [if_neg (by omega), if_neg h1] | rw [if_neg h1, if_neg (by omega)]
    · rw [if_neg h2]
      first | rw [if_pos (by omega)] | rw [if_neg h1, if_pos (by omega)]
theorem mag_cmp (x y : XN) (dx : x.d ≠ 0) (dy : y.d ≠ 0) : cmpR x.mag y.mag = cmpv (sA x y) (sA y x) := by
  have k1 := sA_mag x y dx
  have k2 := sA_mag y x dy
  rw [Nat.mul_comm y.d x.d, show min y.e x.e = min x.e y.e from Int.min_comm _ _] at k2
  rw [← cmpR_scale x.mag y.mag _ (cast_pos (mul_ne dx dy)), k1, k2, cmpR_scale _ _ _ (p2 _), cmpR_nat]
/-- Of numbers that are not below 0. -/
theorem cmp_good (x y : XN) (hx : x.can) (hy : y.can) (bx : x.b = false) (y0 : y.n ≠ 0) (yb : y.b = false) (h : (cmpX x y).2 = 0) : (cmpX x y).1 = cmpR x.mag y.mag := by
  have sy : sg y = 1 := by unfold sg; rw [if_neg y0, yb]; rfl
  unfold cmpX at h ⊢
  by_cases x0 : x.n = 0
  · have sx : sg x = 0 := by unfold sg; rw [if_pos x0]
    rw [sx, sy, if_pos (by decide), mag_zero x x0]
    unfold cmpR
    rw [if_pos (mag_pos y y0 hy.d0)]
  · have sx : sg x = 1 := by unfold sg; rw [if_neg x0, bx]; rfl
    rw [sx, sy, if_neg (by decide), if_neg (by decide), if_neg (by decide)] at h ⊢
    split
    · rw [mag_cmp x y hx.d0 hy.d0, Int.one_mul]
    · rename_i hl
      rw [if_neg hl] at h
      exact absurd h (by decide)
theorem tA_len (x : XN) (n0 : x.n ≠ 0) (d0 : x.d ≠ 0) : blen (tA x) = blen (tB x) ∧ tA x ≠ 0 ∧ tB x ≠ 0 := by
  unfold tA tB
  rw [blen_shl _ _ n0, blen_shl _ _ d0]
  refine ⟨?_, mul_ne n0 (Nat.pos_iff_ne_zero.1 (Nat.two_pow_pos _)), mul_ne d0 (Nat.pos_iff_ne_zero.1 (Nat.two_pow_pos _))⟩
  unfold lenD
  omega
theorem tA_near (x : XN) (n0 : x.n ≠ 0) (d0 : x.d ≠ 0) : tA x < 2 * tB x ∧ tB x < 2 * tA x := by
  obtain ⟨h1, h2, h3⟩ := tA_len x n0 d0
  have a1 := blen_lt (tA x)
  have a2 := blen_le (tA x) h2
  have b1 := blen_lt (tB x)
  have b2 := blen_le (tB x) h3
  have p := blen_pos (tA x) h2
  rw [← h1] at b1 b2
  obtain ⟨k, hk⟩ : ∃ k, blen (tA x) = k + 1 := ⟨_, (Nat.succ_pred_eq_of_ne_zero (Nat.pos_iff_ne_zero.1 p)).symm⟩
  rw [hk, Nat.pow_succ] at a1 b1
  rw [hk, Nat.add_sub_cancel] at a2 b2
  omega
theorem tA_mag (x : XN) (d0 : x.d ≠ 0) : x.mag * ((tB x : Nat) : Rat) = ((tA x : Nat) : Rat) * (2 : Rat) ^ (lenD x + x.e) := by
  unfold tA tB XN.mag
  rw [Rat.natCast_mul, Rat.natCast_mul, ← p2nat, ← p2nat, p2add]
  have e : (2 : Rat) ^ ((max (lenD x) 0).toNat : Int) = (2 : Rat) ^ ((max (-lenD x) 0).toNat : Int) * (2 : Rat) ^ (lenD x) := by
    rw [← p2add]
    congr 1
    omega
  rw [e]
  have z := cast_ne d0
  generalize (2 : Rat) ^ ((max (-lenD x) 0).toNat : Int) = A at *
  generalize (2 : Rat) ^ (lenD x) = B at *
  generalize (2 : Rat) ^ x.e = C at *
  grind
theorem p2succ (e : Int) : (2 : Rat) ^ (e + 1) = 2 * (2 : Rat) ^ e := by rw [p2add, Rat.zpow_one, Rat.mul_comm]
theorem top_good (x : XN) (n0 : x.n ≠ 0) (d0 : x.d ≠ 0) : (2 : Rat) ^ (topX x) ≤ x.mag ∧ x.mag < (2 : Rat) ^ (topX x + 1) := by
  obtain ⟨h1, h2⟩ := tA_near x n0 d0
  have k := tA_mag x d0
  have zB : (0 : Rat) < ((tB x : Nat) : Rat) := cast_pos (tA_len x n0 d0).2.2
  have zP := p2 (lenD x + x.e)
  have c1 : ((tA x : Nat) : Rat) < 2 * ((tB x : Nat) : Rat) := by
    have := Rat.natCast_lt_natCast.2 h1
    rwa [Rat.natCast_mul] at this
  have c2 : ((tB x : Nat) : Rat) < 2 * ((tA x : Nat) : Rat) := by
    have := Rat.natCast_lt_natCast.2 h2
    rwa [Rat.natCast_mul] at this
  unfold topX
  split
  · rename_i hl
    have c3 := Rat.natCast_lt_natCast.2 hl
    have e1 := p2succ (lenD x - 1 + x.e)
    rw [show lenD x - 1 + x.e + 1 = lenD x + x.e by omega] at e1
    rw [show lenD x - 1 + x.e + 1 = lenD x + x.e by omega]
    generalize (2 : Rat) ^ (lenD x + x.e) = P at *
    generalize (2 : Rat) ^ (lenD x - 1 + x.e) = H at *
    generalize ((tA x : Nat) : Rat) = A at *
    generalize ((tB x : Nat) : Rat) = B at *
    constructor
    · refine Rat.le_of_mul_le_mul_right (c := B) ?_ zB
      rw [k, e1]
      have : H * B ≤ H * (2 * A) := Rat.mul_le_mul_of_nonneg_left (Rat.le_of_lt c2) (by grind)
      grind
    · refine Rat.lt_of_mul_lt_mul_right (c := B) ?_ (Rat.le_of_lt zB)
      rw [k, Rat.mul_comm A P]
      exact Rat.mul_lt_mul_of_pos_left c3 zP
  · rename_i hl
    have c3 := Rat.natCast_le_natCast.2 (Nat.le_of_not_lt hl)
    have e1 := p2succ (lenD x + x.e)
    rw [e1]
    generalize (2 : Rat) ^ (lenD x + x.e) = P at *
    generalize ((tA x : Nat) : Rat) = A at *
    generalize ((tB x : Nat) : Rat) = B at *
    constructor
    · refine Rat.le_of_mul_le_mul_right (c := B) ?_ zB
      rw [k, Rat.mul_comm A P]
      exact Rat.mul_le_mul_of_nonneg_left c3 (Rat.le_of_lt zP)
    · refine Rat.lt_of_mul_lt_mul_right (c := B) ?_ (Rat.le_of_lt zB)
      rw [k]
      have : P * A < P * (2 * B) := Rat.mul_lt_mul_of_pos_left c1 zP
      grind
/-- The whole part: a number over another one, at a power of two. -/
theorem quot_good (u : Rat) (N D : Nat) (P : Rat) (hP : 0 < P) (D0 : D ≠ 0) (k : u * (D : Rat) = (N : Rat) * P) : ((N / D : Nat) : Rat) * P ≤ u ∧ u < ((N / D + 1 : Nat) : Rat) * P ∧ (N % D = 0 ↔ ((N / D : Nat) : Rat) * P = u) := by
  have zD := cast_pos D0
  have h1 : N / D * D ≤ N := Nat.div_mul_le_self N D
  have h2 : N < (N / D + 1) * D := by
    have := Nat.div_add_mod N D
    have := Nat.mod_lt N (Nat.pos_of_ne_zero D0)
    rw [Nat.add_mul, Nat.one_mul, Nat.mul_comm (N / D) D]
    omega
  have h3 : N % D = 0 ↔ N / D * D = N := by
    have := Nat.div_add_mod N D
    rw [Nat.mul_comm (N / D) D]
    omega
  have c1 := Rat.natCast_le_natCast.2 h1
  have c2 := Rat.natCast_lt_natCast.2 h2
  rw [Rat.natCast_mul] at c1 c2
  have c3 : N / D * D = N ↔ ((N / D : Nat) : Rat) * (D : Rat) = (N : Rat) := by rw [← Rat.natCast_mul, Rat.natCast_inj]
  rw [h3, c3]
  generalize ((N / D + 1 : Nat) : Rat) = M1 at *
  generalize ((N / D : Nat) : Rat) = M at *
  generalize (N : Rat) = n at *
  generalize (D : Rat) = d at *
  refine ⟨?_, ?_, ?_, ?_⟩
  · refine Rat.le_of_mul_le_mul_right (c := d) ?_ zD
    rw [k]
    have := Rat.mul_le_mul_of_nonneg_left c1 (Rat.le_of_lt hP)
    grind
  · refine Rat.lt_of_mul_lt_mul_right (c := d) ?_ (Rat.le_of_lt zD)
    rw [k]
    have := Rat.mul_lt_mul_of_pos_left c2 hP
    grind
  · intro h
    rw [← h] at k
    have : d ≠ 0 := Rat.ne_of_gt zD
    grind
  · intro h
    rw [← h] at k
    have : P ≠ 0 := Rat.ne_of_gt hP
    grind
theorem p2mono (e f : Int) (h : e ≤ f) : (2 : Rat) ^ e ≤ (2 : Rat) ^ f := by
  obtain ⟨k, rfl⟩ : ∃ k : Nat, f = (k : Int) + e := ⟨(f - e).toNat, by omega⟩
  rw [p2add (k : Int) e, p2nat]
  have a : (1 : Rat) ≤ ((2 ^ k : Nat) : Rat) := Rat.natCast_le_natCast.2 (Nat.one_le_two_pow (n := k))
  have b := Rat.mul_le_mul_of_nonneg_right a (Rat.le_of_lt (p2 e))
  rwa [Rat.one_mul] at b
theorem fl_good (x : XN) (e : Int) (hx : x.can) (n0 : x.n ≠ 0) (h : (flX x e).2 = 0) : (((flX x e).1.1 : Nat) : Rat) * (2 : Rat) ^ e ≤ x.mag ∧ x.mag < (((flX x e).1.1 + 1 : Nat) : Rat) * (2 : Rat) ^ e ∧ ((flX x e).1.2 = true ↔ (((flX x e).1.1 : Nat) : Rat) * (2 : Rat) ^ e = x.mag) := by
  have d0 := hx.d0
  unfold flX at h ⊢
  by_cases hr : e < -2097152 ∨ 2097152 < e
  · rw [if_pos hr] at h
    exact absurd h (by decide)
  rw [if_neg hr, if_neg n0] at h ⊢
  by_cases he : e ≤ x.e
  · rw [if_pos he] at h ⊢
    by_cases hl : nl (x.n * 2 ^ (x.e - e).toNat) ≤ 16384
    · rw [if_pos hl]
      have k : x.mag * (x.d : Rat) = ((x.n * 2 ^ (x.e - e).toNat : Nat) : Rat) * (2 : Rat) ^ e := by
        have e1 : (2 : Rat) ^ x.e = (2 : Rat) ^ ((x.e - e).toNat : Int) * (2 : Rat) ^ e := by rw [← p2add]; congr 1; omega
        unfold XN.mag
        rw [Rat.natCast_mul, ← p2nat, e1]
        have z := cast_ne d0
        grind
      have := quot_good _ _ _ _ (p2 e) d0 k
      simp only [decide_eq_true_eq]
      exact this
    · rw [if_neg hl] at h
      exact absurd h (by decide)
  · rw [if_neg he] at h ⊢
    have hz : ¬ x.n % (x.d * 2 ^ (e - x.e).toNat) = 0 := by
      intro hm
      obtain ⟨k, hk⟩ : ∃ k, (e - x.e).toNat = k + 1 := ⟨(e - x.e).toNat - 1, by omega⟩
      rw [hk, Nat.pow_succ, ← Nat.mul_assoc] at hm
      obtain ⟨q, hq⟩ := Nat.dvd_of_mod_eq_zero hm
      have := (hx.odd n0).1
      rw [hq, Nat.mul_assoc, Nat.mul_assoc, Nat.mul_left_comm (2 ^ k) 2, Nat.mul_left_comm x.d 2, Nat.mul_mod_right] at this
      omega
    have k : x.mag * ((x.d * 2 ^ (e - x.e).toNat : Nat) : Rat) = (x.n : Rat) * (2 : Rat) ^ e := by
      have e1 : (2 : Rat) ^ e = (2 : Rat) ^ ((e - x.e).toNat : Int) * (2 : Rat) ^ x.e := by rw [← p2add]; congr 1; omega
      unfold XN.mag
      rw [Rat.natCast_mul, ← p2nat, e1]
      have z := cast_ne d0
      grind
    have D0 : x.d * 2 ^ (e - x.e).toNat ≠ 0 := mul_ne d0 (Nat.pos_iff_ne_zero.1 (Nat.two_pow_pos _))
    have q := quot_good _ _ _ _ (p2 e) D0 k
    by_cases ht : topX x < e
    · rw [if_pos ht]
      have t2 := (top_good x n0 d0).2
      have := p2mono (topX x + 1) e (by omega)
      have up : x.mag < (2 : Rat) ^ e := by grind
      have p := mag_pos x n0 d0
      have z0 : ((0 : Nat) : Rat) = 0 := rfl
      have z1 : ((0 + 1 : Nat) : Rat) = 1 := rfl
      refine ⟨?_, ?_, ?_⟩
      · show ((0 : Nat) : Rat) * _ ≤ _
        rw [z0, Rat.zero_mul]
        exact Rat.le_of_lt p
      · show _ < ((0 + 1 : Nat) : Rat) * _
        rw [z1, Rat.one_mul]
        exact up
      · show false = true ↔ ((0 : Nat) : Rat) * _ = _
        rw [z0, Rat.zero_mul]
        exact ⟨fun h => absurd h (by decide), fun h => absurd p (by rw [← h]; exact Rat.lt_irrefl)⟩
    · rw [if_neg ht]
      refine ⟨q.1, q.2.1, ?_⟩
      exact ⟨fun h => Bool.noConfusion h, fun h => absurd (q.2.2.2 h) hz⟩

/-- How long a number may be. -/
def Bd (x : XN) (p E : Nat) : Prop := x.n < 2 ^ p ∧ x.d < 2 ^ p ∧ -(E : Int) ≤ x.e ∧ x.e ≤ E
theorem nl_pow (n p : Nat) (h : n < 2 ^ p) (hp : p ≤ 131072) : nl n ≤ 16384 := by
  have := blen_le_of n p h
  unfold nl
  omega
theorem mul_pow_lt (a b p q : Nat) (ha : a < 2 ^ p) (hb : b < 2 ^ q) : a * b < 2 ^ (p + q) := by
  rw [Nat.pow_add]
  exact Nat.mul_lt_mul'' ha hb
theorem pow_le2 (p q : Nat) (h : p ≤ q) : (2 : Nat) ^ p ≤ 2 ^ q := Nat.pow_le_pow_right (by decide) h
theorem mk_ok (neg : Bool) (n d : Nat) (e : Int) (P E F : Nat) (hn : n < 2 ^ P) (hd : d < 2 ^ P) (ho : d % 2 = 1) (he1 : -(E : Int) ≤ e) (he2 : e ≤ E) (hF : E + P = F) (h : F ≤ 1048576) : (mk neg n d e).2 = 0 ∧ Bd (mk neg n d e).1 P F := by
  have P1 : 1 < 2 ^ P := by omega
  have t0 := tz_odd d ho
  have t1 := Nat.le_trans (tz_blen n) (blen_le_of n P hn)
  unfold mk
  split
  · exact ⟨rfl, Nat.two_pow_pos _, P1, by show -(F : Int) ≤ 0; omega, by show (0 : Int) ≤ F; omega⟩
  · rw [t0, if_pos (by omega)]
    refine ⟨rfl, Nat.lt_of_le_of_lt (Nat.le_trans (Nat.div_le_self _ _) (od_le _)) hn, Nat.lt_of_le_of_lt (Nat.le_trans (Nat.div_le_self _ _) (od_le _)) hd, ?_, ?_⟩
    · show -(F : Int) ≤ e + (tz n : Int) - ((0 : Nat) : Int); omega
    · show e + (tz n : Int) - ((0 : Nat) : Int) ≤ (F : Int); omega
theorem sA_lt (x y : XN) (p q E F : Nat) (hx : Bd x p E) (hy : Bd y q F) : sA x y < 2 ^ (p + q + (E + F)) := by
  obtain ⟨a1, a2, a3, a4⟩ := hx
  obtain ⟨b1, b2, b3, b4⟩ := hy
  unfold sA
  rw [Nat.pow_add]
  have h1 := mul_pow_lt _ _ _ _ a1 b2
  have h2 : (2 : Nat) ^ (x.e - min x.e y.e).toNat ≤ 2 ^ (E + F) := pow_le2 _ _ (by omega)
  exact Nat.lt_of_lt_of_le (Nat.mul_lt_mul_of_pos_right h1 (Nat.two_pow_pos _)) (Nat.mul_le_mul_left _ h2)
theorem add_ok (x y : XN) (p q E F P G : Nat) (hx : x.can) (hy : y.can) (bx : Bd x p E) (bz : Bd y q F) (hP : p + q + (E + F) + 1 = P) (hG : E + F + P = G) (h1 : P ≤ 131072) (h2 : G ≤ 1048576) : (addX x y).2 = 0 ∧ Bd (addX x y).1 P G := by
  have s1 := sA_lt x y p q E F bx bz
  have s2 := sA_lt y x q p F E bz bx
  rw [show q + p + (F + E) = p + q + (E + F) by omega] at s2
  obtain ⟨a1, a2, a3, a4⟩ := bx
  obtain ⟨b1, b2, b3, b4⟩ := bz
  have dd : x.d * y.d < 2 ^ P := Nat.lt_of_lt_of_le (mul_pow_lt _ _ _ _ a2 b2) (pow_le2 _ _ (by omega))
  have e2 : 2 ^ P = 2 * 2 ^ (p + q + (E + F)) := by rw [← hP, Nat.pow_succ, Nat.mul_comm]
  have ss : sS x y < 2 ^ P := by
    rw [e2]
    unfold sS
    split
    · omega
    · split <;> omega
  unfold addX
  split
  · exact ⟨rfl, Nat.lt_of_lt_of_le b1 (pow_le2 _ _ (by omega)), Nat.lt_of_lt_of_le b2 (pow_le2 _ _ (by omega)), by show -(G : Int) ≤ y.e; omega, by show y.e ≤ (G : Int); omega⟩
  · split
    · exact ⟨rfl, Nat.lt_of_lt_of_le a1 (pow_le2 _ _ (by omega)), Nat.lt_of_lt_of_le a2 (pow_le2 _ _ (by omega)), by show -(G : Int) ≤ x.e; omega, by show x.e ≤ (G : Int); omega⟩
    · rw [if_pos ⟨nl_pow _ P (by omega) h1, nl_pow _ P (by omega) h1, nl_pow _ P dd h1, nl_pow _ P ss h1⟩]
      exact mk_ok _ _ _ _ P (E + F) G ss dd (mul_odd _ _ hx.d hy.d) (by omega) (by omega) hG h2
theorem mul_ok (x y : XN) (p q E F P G : Nat) (hx : x.can) (hy : y.can) (bx : Bd x p E) (bz : Bd y q F) (hP : p + q = P) (hG : E + F + P = G) (h1 : P ≤ 131072) (h2 : G ≤ 1048576) : (mulX x y).2 = 0 ∧ Bd (mulX x y).1 P G := by
  obtain ⟨a1, a2, a3, a4⟩ := bx
  obtain ⟨b1, b2, b3, b4⟩ := bz
  have dd : x.d * y.d < 2 ^ P := by rw [← hP]; exact mul_pow_lt _ _ _ _ a2 b2
  have nn : x.n * y.n < 2 ^ P := by rw [← hP]; exact mul_pow_lt _ _ _ _ a1 b1
  have od := mul_odd _ _ hx.d hy.d
  unfold mulX
  split
  · exact ⟨rfl, Nat.two_pow_pos _, by show 1 < 2 ^ P; omega, by show -(G : Int) ≤ 0; omega, by show (0 : Int) ≤ (G : Int); omega⟩
  · rw [if_pos ⟨nl_pow _ P nn h1, nl_pow _ P dd h1⟩]
    exact mk_ok _ _ _ _ P (E + F) G nn dd od (by omega) (by omega) hG h2
theorem quo_ok (x y : XN) (p q E F P G : Nat) (hx : x.can) (hy : y.can) (y0 : y.n ≠ 0) (bx : Bd x p E) (bz : Bd y q F) (hP : p + q = P) (hG : E + F + P = G) (h1 : P ≤ 131072) (h2 : G ≤ 1048576) : (quoX x y).2 = 0 ∧ Bd (quoX x y).1 P G := by
  obtain ⟨a1, a2, a3, a4⟩ := bx
  obtain ⟨b1, b2, b3, b4⟩ := bz
  have dd : x.d * y.n < 2 ^ P := by rw [← hP]; exact mul_pow_lt _ _ _ _ a2 b1
  have nn : x.n * y.d < 2 ^ P := by rw [← hP]; exact mul_pow_lt _ _ _ _ a1 b2
  have od := mul_odd _ _ hx.d (hy.odd y0).1
  unfold quoX
  rw [if_neg y0]
  split
  · exact ⟨rfl, Nat.two_pow_pos _, by show 1 < 2 ^ P; omega, by show -(G : Int) ≤ 0; omega, by show (0 : Int) ≤ (G : Int); omega⟩
  · rw [if_pos ⟨nl_pow _ P nn h1, nl_pow _ P dd h1⟩]
    exact mk_ok _ _ _ _ P (E + F) G nn dd od (by omega) (by omega) hG h2
theorem cmp_ok (x y : XN) (p q E F : Nat) (bx : Bd x p E) (bz : Bd y q F) (h : p + q + (E + F) ≤ 131072) : (cmpX x y).2 = 0 := by
  have s1 := sA_lt x y p q E F bx bz
  have s2 := sA_lt y x q p F E bz bx
  rw [show q + p + (F + E) = p + q + (E + F) by omega] at s2
  unfold cmpX
  split
  · rfl
  · split
    · rfl
    · split
      · rfl
      · rw [if_pos ⟨nl_pow _ _ s1 h, nl_pow _ _ s2 h⟩]
theorem neg_bd (x : XN) (p E : Nat) (h : Bd x p E) : Bd (negX x) p E := by
  unfold negX
  split
  · exact h
  · exact h
theorem bd_abs (x : XN) (p E : Nat) (h : Bd x p E) : Bd (absX x) p E := h

/-- The field's laws. -/
theorem field_good (x y z : XN) (hx : x.can) (hy : y.can) (hz : z.can) (bx : Bd x 160 900) (bby : Bd y 160 900) (bz : Bd z 160 900) :
    ∃ s p a b : XN, s.can ∧ p.can ∧ a.can ∧ b.can ∧ addX x y = (s, 0) ∧ mulX s z = (p, 0) ∧ mulX x z = (a, 0) ∧ mulX y z = (b, 0) ∧ addX a b = (p, 0) ∧ addX s (negX y) = (x, 0) ∧ (z.n ≠ 0 → quoX a z = (x, 0)) := by
  obtain ⟨s0, s1⟩ := add_ok x y 160 160 900 900 2121 3921 hx hy bx bby rfl rfl (by decide) (by decide)
  obtain ⟨s2, s3⟩ := add_good x y hx hy s0
  obtain ⟨p0, p1⟩ := mul_ok _ z 2121 160 3921 900 2281 7102 s2 hz s1 bz rfl rfl (by decide) (by decide)
  obtain ⟨p2, p3⟩ := mul_good _ z s2 hz p0
  obtain ⟨a0, a1⟩ := mul_ok x z 160 160 900 900 320 2120 hx hz bx bz rfl rfl (by decide) (by decide)
  obtain ⟨a2, a3⟩ := mul_good x z hx hz a0
  obtain ⟨b0, b1⟩ := mul_ok y z 160 160 900 900 320 2120 hy hz bby bz rfl rfl (by decide) (by decide)
  obtain ⟨b2, b3⟩ := mul_good y z hy hz b0
  obtain ⟨q0, q1⟩ := add_ok _ _ 320 320 2120 2120 4881 9121 a2 b2 a1 b1 rfl rfl (by decide) (by decide)
  obtain ⟨q2, q3⟩ := add_good _ _ a2 b2 q0
  obtain ⟨n2, n3⟩ := neg_good y hy
  obtain ⟨d0, d1⟩ := add_ok _ _ 2121 160 3921 900 7103 11924 s2 n2 s1 (neg_bd y _ _ bby) rfl rfl (by decide) (by decide)
  obtain ⟨d2, d3⟩ := add_good _ _ s2 n2 d0
  have pair : ∀ (u : XN × Int) (v : XN), u.2 = 0 → u.1 = v → u = (v, 0) := fun u v h1 h2 => by cases u; simp_all
  refine ⟨_, _, _, _, s2, p2, a2, b2, pair _ _ s0 rfl, pair _ _ p0 rfl, pair _ _ a0 rfl, pair _ _ b0 rfl, pair _ _ q0 (can_inj _ _ q2 p2 ?_), pair _ _ d0 (can_inj _ _ d2 hx ?_), fun z0 => ?_⟩
  · rw [q3, p3, s3, a3, b3, Rat.add_mul]
  · rw [d3, s3, n3]
    grind
  · obtain ⟨r0, r1⟩ := quo_ok _ z 320 160 2120 900 480 3500 a2 hz z0 a1 bz rfl rfl (by decide) (by decide)
    obtain ⟨r2, r3, r4⟩ := quo_good _ z a2 hz r0
    refine pair _ _ r0 (can_inj _ _ r2 hx ?_)
    rw [a3] at r3
    grind

theorem fl_lt (x : XN) (e : Int) (p E F : Nat) (bx : Bd x p E) (h1 : -(F : Int) ≤ e) (h2 : e ≤ F) (hF : F ≤ 2097152) (hl : p + (E + F) ≤ 131072) : (flX x e).2 = 0 ∧ (flX x e).1.1 < 2 ^ (p + (E + F)) := by
  obtain ⟨a1, a2, a3, a4⟩ := bx
  have hz := Nat.two_pow_pos (p + (E + F))
  have hb : ∀ k : Nat, k ≤ E + F → x.n * 2 ^ k < 2 ^ (p + (E + F)) := fun k hk => by
    rw [Nat.pow_add]
    exact Nat.lt_of_lt_of_le (Nat.mul_lt_mul_of_pos_right a1 (Nat.two_pow_pos _)) (Nat.mul_le_mul_left _ (pow_le2 _ _ hk))
  unfold flX
  rw [if_neg (by omega)]
  split
  · exact ⟨rfl, hz⟩
  · split
    · have hk := hb (x.e - e).toNat (by omega)
      rw [if_pos (nl_pow _ _ hk hl)]
      exact ⟨rfl, Nat.lt_of_le_of_lt (Nat.div_le_self _ _) hk⟩
    · split
      · exact ⟨rfl, hz⟩
      · exact ⟨rfl, Nat.lt_of_le_of_lt (Nat.div_le_self _ _) (Nat.lt_of_lt_of_le a1 (pow_le2 _ _ (by omega)))⟩
theorem mk_mag (n : Nat) (e : Int) (h : (mk false n 1 e).2 = 0) : (mk false n 1 e).1.mag = (n : Rat) * (2 : Rat) ^ e ∧ (mk false n 1 e).1.b = false := by
  have hb : (mk false n 1 e).1.b = false := by
    unfold mk
    split
    · rfl
    · split <;> rfl
  have hv := mk_val false n 1 e (by decide) h
  rw [val_mag, hb] at hv
  have e1 : ((1 : Nat) : Rat) = 1 := rfl
  rw [e1] at hv
  unfold sgn at hv
  simp only [Bool.false_eq_true, if_false] at hv
  refine ⟨?_, hb⟩
  grind
theorem mk_n0 (n : Nat) (e : Int) (hn : n ≠ 0) (h : (mk false n 1 e).2 = 0) : (mk false n 1 e).1.n ≠ 0 := by
  obtain ⟨h1, _⟩ := mk_mag n e h
  intro h0
  rw [mag_zero _ h0] at h1
  have := Rat.mul_pos (cast_pos hn) (p2 e)
  rw [← h1] at this
  exact absurd this Rat.lt_irrefl
theorem top_bd (x : XN) (p E : Nat) (bx : Bd x p E) : -((p + E + 1 : Nat) : Int) ≤ topX x ∧ topX x ≤ ((p + E + 1 : Nat) : Int) := by
  obtain ⟨a1, a2, a3, a4⟩ := bx
  have h1 := blen_le_of _ _ a1
  have h2 := blen_le_of _ _ a2
  unfold topX lenD
  split <;> omega
/-- A whole part at most the number, one more above; the highest bit. -/
theorem between_good (x : XN) (N : Int) (hx : x.can) (n0 : x.n ≠ 0) (bx : Bd x 320 900) (h1 : -1024 ≤ N) (h2 : N ≤ 1024) :
    ∃ (m : Nat) (is : Bool) (low high u v : XN) (a b c d : Int), flX x N = ((m, is), 0) ∧ nl m ≤ 16384 ∧ nl (m + 1) ≤ 16384 ∧ mk false m 1 N = (low, 0) ∧ low.can ∧ mk false (m + 1) 1 N = (high, 0) ∧ high.can ∧
      cmpX low (absX x) = (a, 0) ∧ cmpX (absX x) high = (b, 0) ∧ a ≤ 0 ∧ b < 0 ∧ is = (a == 0) ∧ mk false 1 1 (topX x) = (u, 0) ∧ u.can ∧ mk false 1 1 (topX x + 1) = (v, 0) ∧ v.can ∧
      cmpX u (absX x) = (c, 0) ∧ cmpX (absX x) v = (d, 0) ∧ c ≤ 0 ∧ d < 0 ∧ (-2000 ≤ topX x ∧ topX x ≤ 2000) := by
  obtain ⟨f0, f1⟩ := fl_lt x N 320 900 1024 bx (by omega) (by omega) (by decide) (by decide)
  obtain ⟨P, hP⟩ : ∃ P, 320 + (900 + 1024) = P := ⟨_, rfl⟩
  rw [hP] at f1
  obtain ⟨g1, g2, g3⟩ := fl_good x N hx n0 f0
  obtain ⟨⟨m, is⟩, e0⟩ : ∃ q, (flX x N).1 = q := ⟨_, rfl⟩
  rw [e0] at f1 g1 g2 g3
  have f1' : m < 2 ^ P := f1
  have f2 : m + 1 < 2 ^ (P + 1) := by
    rw [Nat.pow_succ 2 P]
    have : 1 ≤ 2 ^ P := Nat.one_le_two_pow
    omega
  have f3 : m < 2 ^ (P + 1) := by omega
  have o1 : (1 : Nat) < 2 ^ (P + 1) := Nat.lt_of_lt_of_le (by decide : (1 : Nat) < 2 ^ 1) (pow_le2 _ _ (by omega))
  have l1 : (1 : Nat) < 2 ^ 1 := by decide
  have n1 : nl 1 ≤ 16384 := nl_pow 1 1 l1 (by decide)
  have nm := nl_pow m (P + 1) f3 (by omega)
  have nm1 := nl_pow (m + 1) (P + 1) f2 (by omega)
  obtain ⟨lo, lb⟩ := mk_ok false m 1 N (P + 1) 1024 (1024 + (P + 1)) f3 o1 rfl (by omega) (by omega) rfl (by omega)
  obtain ⟨ho, hb⟩ := mk_ok false (m + 1) 1 N (P + 1) 1024 (1024 + (P + 1)) f2 o1 rfl (by omega) (by omega) rfl (by omega)
  have lc := mk_can false m 1 N nm n1 (by decide) lo
  have hc := mk_can false (m + 1) 1 N nm1 n1 (by decide) ho
  obtain ⟨lv, lB⟩ := mk_mag m N lo
  obtain ⟨hv, hB⟩ := mk_mag (m + 1) N ho
  have hn := mk_n0 (m + 1) N (by omega) ho
  obtain ⟨ac, am⟩ := abs_good x hx
  obtain ⟨t1, t2⟩ := top_bd x 320 900 bx
  obtain ⟨uo, ub⟩ := mk_ok false 1 1 (topX x) 1 1221 1222 l1 l1 rfl (by omega) (by omega) rfl (by decide)
  obtain ⟨vo, vb⟩ := mk_ok false 1 1 (topX x + 1) 1 1222 1223 l1 l1 rfl (by omega) (by omega) rfl (by decide)
  have uc := mk_can false 1 1 (topX x) n1 n1 (by decide) uo
  have vc := mk_can false 1 1 (topX x + 1) n1 n1 (by decide) vo
  obtain ⟨uv, uB⟩ := mk_mag 1 (topX x) uo
  obtain ⟨vv, vB⟩ := mk_mag 1 (topX x + 1) vo
  have vn := mk_n0 1 (topX x + 1) (by decide) vo
  have one : ((1 : Nat) : Rat) = 1 := rfl
  rw [one, Rat.one_mul] at uv vv
  obtain ⟨p1, p2⟩ := top_good x n0 hx.d0
  have ab := bd_abs x _ _ bx
  have k1 := cmp_ok _ _ (P + 1) 320 (1024 + (P + 1)) 900 lb ab (by omega)
  have k2 := cmp_ok _ _ 320 (P + 1) 900 (1024 + (P + 1)) ab hb (by omega)
  have k3 := cmp_ok _ _ 1 320 1222 900 ub ab (by decide)
  have k4 := cmp_ok _ _ 320 1 900 1223 ab vb (by decide)
  have c1 := cmp_good _ _ lc ac lB n0 rfl k1
  have c2 := cmp_good _ _ ac hc rfl hn hB k2
  have c3 := cmp_good _ _ uc ac uB n0 rfl k3
  have c4 := cmp_good _ _ ac vc rfl vn vB k4
  rw [lv, am] at c1
  rw [hv, am] at c2
  rw [uv, am] at c3
  rw [vv, am] at c4
  have pair : ∀ {A B : Type} (u : A × B) (w : B), u.2 = w → u = (u.1, w) := fun u w h => by cases u; simp_all
  refine ⟨m, is, _, _, _, _, _, _, _, _, ?_, nm, nm1, pair _ _ lo, lc, pair _ _ ho, hc, pair _ _ k1, pair _ _ k2, ?_, ?_, ?_, pair _ _ uo, uc, pair _ _ vo, vc, pair _ _ k3, pair _ _ k4, ?_, ?_, by omega, by omega⟩
  · rw [← e0]; exact pair _ _ f0
  · rw [c1]; exact (cmpR_le _ _).2 g1
  · rw [c2]; exact (cmpR_lt _ _).2 g2
  · rw [c1, Bool.eq_iff_iff, g3, beq_iff_eq]
    exact (cmpR_eq _ _).symm
  · rw [c3]; exact (cmpR_le _ _).2 p1
  · rw [c4]; exact (cmpR_lt _ _).2 p2
end Go.Proofs.YtknkkagapcigfaaDoor.XMath
