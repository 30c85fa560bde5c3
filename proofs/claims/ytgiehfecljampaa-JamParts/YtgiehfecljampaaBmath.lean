/-
  Masks, lengths and lowest bits of numbers of 384 bits.
-/
import Derived.Test.YtgiehfecljampaaSmath
import Derived.Test.YtgiehfecljampaaTmath
namespace Go.Proofs.Ytgiehfecljampaa.WMath

theorem mask_wd (c k d : Nat) (hd : d = min (c - 64 * k) 64) : wd (2 ^ c - 1) k = 2 ^ d - 1 := by
  apply Nat.eq_of_testBit_eq
  intro j
  rw [wd_bit, Nat.testBit_two_pow_sub_one, Nat.testBit_two_pow_sub_one]
  by_cases h1 : j < d
  · rw [decide_eq_true h1, decide_eq_true (show j < 64 by omega), decide_eq_true (show 64 * k + j < c by omega)]; rfl
  · rw [decide_eq_false h1]
    by_cases h2 : j < 64
    · rw [decide_eq_false (show ¬ 64 * k + j < c by omega)]; simp
    · rw [decide_eq_false h2]; simp
theorem mask_ltQ (c : Nat) (h : c ≤ 384) : 2 ^ c - 1 < Q := by
  obtain ⟨L, hL, hQ⟩ := Q_of
  have h1 : 2 ^ c ≤ 2 ^ (64 * L) := Nat.pow_le_pow_right (by decide) (by omega)
  have := Nat.two_pow_pos c
  omega
theorem mask_lt64 (d : Nat) (h : d ≤ 64) : 2 ^ d - 1 < 18446744073709551616 := mask_lt d h
theorem mask_or (i q r : Nat) (h : i = 64 * q + r) : (2 ^ i - 1) ||| 2 ^ r * 2 ^ (64 * q) = 2 ^ (i + 1) - 1 := by
  have h1 := or_disj (2 ^ i - 1) 1 i (by have := Nat.two_pow_pos i; omega)
  rw [← Nat.pow_add, show r + 64 * q = i by omega]
  rw [Nat.one_mul] at h1
  rw [← h1, Nat.pow_succ]
  have := Nat.two_pow_pos i
  omega
theorem rlen_step (n j : Nat) (h : n < 2 ^ (64 * (j + 1))) : (wd n j ≠ 0 → blen n = 64 * j + blen (wd n j)) ∧ (wd n j = 0 → n < 2 ^ (64 * j)) := by
  have e := mod_wd n j
  rw [Nat.mod_eq_of_lt h] at e
  have hl : n % 2 ^ (64 * j) < 2 ^ (64 * j) := Nat.mod_lt _ (Nat.two_pow_pos _)
  constructor
  · intro h0
    rw [e]
    have := blen_push (n % 2 ^ (64 * j)) (64 * j) (wd n j) hl h0
    rw [← e] at this ⊢
    exact this
  · intro h0
    rw [h0, Nat.mul_zero, Nat.add_zero] at e
    omega
theorem bit_field (n i : Nat) : (n / 2 ^ i % 2 ^ 1 == 1) = n.testBit i := by
  rw [Nat.pow_one, Bool.eq_iff_iff, beq_iff_eq, Nat.testBit_eq_decide_div_mod_eq]
  simp
theorem first_word (n : Nat) : ∀ k, (∀ i, i < k → wd n i = 0) ∨ ∃ j, j < k ∧ wd n j ≠ 0 ∧ ∀ i, i < j → wd n i = 0
  | 0 => Or.inl (fun i h => by omega)
  | k + 1 => by
    rcases first_word n k with h | ⟨j, h1, h2, h3⟩
    · by_cases h0 : wd n k = 0
      · left
        intro i hi
        by_cases e : i = k
        · rw [e]; exact h0
        · exact h i (by omega)
      · exact Or.inr ⟨k, by omega, h0, h⟩
    · exact Or.inr ⟨j, by omega, h2, h3⟩
end Go.Proofs.Ytgiehfecljampaa.WMath
