/-
  Shifts that keep what was lost: what is said of numbers alone.
-/
import Derived.Test.YtgiehfecljampaaQmath
import Derived.Test.YtgiehfecljampaaSmath
import Derived.Test.YtgiehfecljampaaWide2
import Derived.Test.YtgiehfecljampaaWide9
namespace Go.Proofs.Ytgiehfecljampaa
open Go.RowKit WMath

/-- The count that package jam brings within 0 to 385. -/
def cnt5 (s : Int) : Nat := min s.toNat 385
theorem cnt65 (s : Int) : cnt6 ((cnt5 s : Nat) : Int) = cnt6 s := by unfold cnt6 cnt5; omega

/-- a by 2^c, with the last bit 1 if anything was lost. -/
def jr (a c : Nat) : Nat := if a % 2 ^ c = 0 then a / 2 ^ c else a / 2 ^ c ||| 1

theorem or1 (x : Nat) : x ||| 1 = x / 2 * 2 + 1 := by
  rcases Nat.mod_two_eq_zero_or_one x with h | h
  · rw [or_one x h]; omega
  · obtain ⟨y, rfl⟩ : ∃ y, x = y + 1 := ⟨x - 1, by omega⟩
    rw [← or_one y (by omega), Nat.or_assoc, Nat.or_self, or_one y (by omega)]
    omega

theorem jand_mask (a c : Nat) : a &&& (2 ^ c - 1) = a % 2 ^ c := Nat.and_two_pow_sub_one_eq_mod a c

theorem jr_odd (a c : Nat) (h : a % 2 ^ c ≠ 0) : jr a c = a / 2 ^ c / 2 * 2 + 1 := by unfold jr; rw [if_neg h, or1]
theorem jr_even (a c : Nat) (h : a % 2 ^ c = 0) : jr a c = a / 2 ^ c := by unfold jr; rw [if_pos h]
theorem jr_half (a c : Nat) : jr a c / 2 = a / 2 ^ c / 2 := by
  by_cases h : a % 2 ^ c = 0
  · rw [jr_even a c h]
  · rw [jr_odd a c h]; omega

theorem jr_ltQ (a c : Nat) (ha : a < Q) : jr a c < Q := by
  have h1 : a / 2 ^ c < Q := Nat.lt_of_le_of_lt (Nat.div_le_self _ _) ha
  unfold jr
  split
  · exact h1
  · exact or_ltQ _ _ h1 (by have := Q_big; omega)

theorem mod_pow_zero (a n k : Nat) : a % 2 ^ (n + k) = 0 ↔ a % 2 ^ n = 0 ∧ a / 2 ^ n % 2 ^ k = 0 := by
  rw [Nat.pow_add, Nat.mod_mul]
  have hp := Nat.two_pow_pos n
  constructor
  · intro h
    have h1 : a % 2 ^ n = 0 := by omega
    have h2 : 2 ^ n * (a / 2 ^ n % 2 ^ k) = 0 := by omega
    rcases Nat.mul_eq_zero.1 h2 with h3 | h3
    · omega
    · exact ⟨h1, h3⟩
  · rintro ⟨h1, h2⟩
    rw [h1, h2, Nat.mul_zero]

/-- One shift and another one are both together. -/
theorem jr_twice (a n k : Nat) : jr (jr a n) k = jr a (n + k) := by
  by_cases hk : k = 0
  · subst hk
    rw [jr_even (jr a n) 0 (by rw [Nat.pow_zero]; exact Nat.mod_one _), Nat.pow_zero, Nat.div_one, Nat.add_zero]
  obtain ⟨j, rfl⟩ : ∃ j, k = j + 1 := ⟨k - 1, by omega⟩
  have e : ∀ x : Nat, x / 2 ^ (j + 1) = x / 2 / 2 ^ j := fun x => by rw [Nat.pow_succ, Nat.mul_comm, Nat.div_div_eq_div_mul]
  have h1 : jr a n / 2 ^ (j + 1) = a / 2 ^ (n + (j + 1)) := by
    rw [e, jr_half, Nat.pow_add, ← Nat.div_div_eq_div_mul, e (a / 2 ^ n)]
  have h2 : jr a n % 2 ^ (j + 1) = 0 ↔ a % 2 ^ (n + (j + 1)) = 0 := by
    rw [mod_pow_zero a n (j + 1)]
    by_cases h : a % 2 ^ n = 0
    · rw [jr_even a n h]
      exact ⟨fun x => ⟨h, x⟩, fun x => x.2⟩
    · rw [jr_odd a n h]
      constructor
      · intro x
        have y : 2 ^ (j + 1) ∣ a / 2 ^ n / 2 * 2 + 1 := Nat.dvd_of_mod_eq_zero x
        have z : 2 ∣ a / 2 ^ n / 2 * 2 + 1 := Nat.dvd_trans ⟨2 ^ j, by rw [Nat.pow_succ, Nat.mul_comm]⟩ y
        omega
      · exact fun x => absurd x.1 h
  by_cases h : a % 2 ^ (n + (j + 1)) = 0
  · rw [jr_even _ _ (h2.2 h), jr_even _ _ h, h1]
  · rw [jr_odd _ _ (fun x => h (h2.1 x)), jr_odd _ _ h, h1]

/-- By 384 and more everything is lost. -/
theorem jr_cnt6 (a : Nat) (s : Int) (ha : a < Q) : jr a (cnt6 s) = jr a s.toNat := by
  by_cases h : s.toNat ≤ 384
  · rw [show cnt6 s = s.toNat by unfold cnt6; omega]
  · have e : cnt6 s = 384 := by unfold cnt6; omega
    have e1 : ∀ c, 384 ≤ c → a % 2 ^ c = a ∧ a / 2 ^ c = 0 := fun c hc => ⟨mod384 a c ha hc, Nat.div_eq_of_lt (Nat.lt_of_lt_of_le ha (Q384'' c hc))⟩
    unfold jr
    rw [(e1 (cnt6 s) (by omega)).1, (e1 (cnt6 s) (by omega)).2, (e1 s.toNat (by omega)).1, (e1 s.toNat (by omega)).2]

/-- What is left by c, against the half of 2^c. -/
def halfv (a c : Nat) : Int := if c = 0 ∨ 384 < c then -1 else cmpv (a % 2 ^ c) (2 ^ (c - 1))

/-- The same, by the highest bit that is left and those below it. -/
theorem halfv_bit (a k : Nat) (hk : k < 384) : halfv a (k + 1) = if a.testBit k then (if a % 2 ^ k = 0 then 0 else 1) else -1 := by
  unfold halfv
  rw [if_neg (by omega), Nat.add_sub_cancel, mod_succ]
  have h := Nat.mod_lt a (Nat.two_pow_pos k)
  unfold cmpv
  cases a.testBit k
  · simp only [Bool.toNat_false, Nat.mul_zero, Nat.add_zero]
    rw [if_neg (by omega), if_pos h]
    rfl
  · simp only [Bool.toNat_true, Nat.mul_one]
    by_cases h0 : a % 2 ^ k = 0
    · simp [h0]
    · rw [if_neg (by omega), if_neg (by omega)]
      simp [h0]

theorem split_sub (a n : Nat) (ha : a < Q) : (a + Q - a / 2 ^ n * 2 ^ n) % Q = a % 2 ^ n := by
  have h1 := Nat.div_add_mod a (2 ^ n)
  rw [Nat.mul_comm] at h1
  have h2 : a + Q - a / 2 ^ n * 2 ^ n = a % 2 ^ n + Q := by omega
  rw [h2, Nat.add_mod_right, Nat.mod_eq_of_lt (by omega)]

/-- Moved to the right until the highest bit stands at p. -/
theorem top_right (a l p : Nat) (h0 : a ≠ 0) (hl : blen a = l) (hp : p + 1 < l) : blen (jr a (l - (p + 1))) = p + 1 := by
  have h1 := blen_le a h0
  have h2 := blen_lt a
  rw [hl] at h1 h2
  have h3 : 2 ^ p ≤ a / 2 ^ (l - (p + 1)) := by
    rw [Nat.le_div_iff_mul_le (Nat.two_pow_pos _), ← Nat.pow_add, show p + (l - (p + 1)) = l - 1 by omega]
    exact h1
  have h4 : a / 2 ^ (l - (p + 1)) < 2 ^ (p + 1) := by
    rw [Nat.div_lt_iff_lt_mul (Nat.two_pow_pos _), ← Nat.pow_add, show p + 1 + (l - (p + 1)) = l by omega]
    exact h2
  refine blen_of _ p ?_ ?_
  · unfold jr
    split
    · exact h3
    · exact Nat.le_trans h3 Nat.left_le_or
  · unfold jr
    split
    · exact h4
    · exact Nat.or_lt_two_pow h4 (Nat.one_lt_two_pow (by omega))

/-- Moved to the left until the highest bit stands at p: nothing is lost. -/
theorem top_left (a l p : Nat) (h0 : a ≠ 0) (hl : blen a = l) (hp : l ≤ p + 1) (h6 : p < 384) : a * 2 ^ (p + 1 - l) < Q ∧ blen (a * 2 ^ (p + 1 - l)) = p + 1 := by
  have h1 := blen_le a h0
  have h2 := blen_lt a
  have h3 := blen_pos a h0
  rw [hl] at h1 h2 h3
  have h4 : a * 2 ^ (p + 1 - l) < 2 ^ (p + 1) := by
    have := Nat.mul_lt_mul_of_pos_right h2 (Nat.two_pow_pos (p + 1 - l))
    rw [← Nat.pow_add, show l + (p + 1 - l) = p + 1 by omega] at this
    exact this
  have h5 : 2 ^ p ≤ a * 2 ^ (p + 1 - l) := by
    have := Nat.mul_le_mul_right (2 ^ (p + 1 - l)) h1
    rw [← Nat.pow_add, show l - 1 + (p + 1 - l) = p by omega] at this
    exact this
  refine ⟨Nat.lt_of_lt_of_le h4 (Q384 p h6), blen_of _ p h5 h4⟩
end Go.Proofs.Ytgiehfecljampaa
