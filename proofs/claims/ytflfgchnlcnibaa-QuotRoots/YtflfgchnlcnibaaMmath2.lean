/-
  Products added word by word, as the document's answer adds them.
-/
import Derived.Test.YtflfgchnlcnibaaMmath
namespace Go.Proofs.Ytflfgchnlcnibaa.WMath

/-- The products of words that have been added: all of the words below i, and of the word i those with the words below k. -/
def acc (n m i k : Nat) : Nat := (n % 2 ^ (64 * i)) * m + wd n i * 2 ^ (64 * i) * (m % 2 ^ (64 * k))
theorem acc_zero (n m : Nat) : acc n m 0 0 = 0 := by simp [acc, Nat.mod_one]
theorem acc_next (n m i k : Nat) : acc n m i (k + 1) = acc n m i k + 2 ^ (64 * (i + k)) * (wd n i * wd m k) := by
  unfold acc
  rw [mod_wd m k, Nat.mul_add (wd n i * 2 ^ (64 * i)), ← Nat.add_assoc, Nat.mul_add 64, Nat.pow_add]
  simp only [Nat.mul_assoc, Nat.mul_comm, Nat.mul_left_comm]
theorem acc_row (n m i k : Nat) (h6 : k = 6) (hm : m < Q) : acc n m i k = acc n m (i + 1) 0 := by
  unfold acc
  rw [wlow m k hm h6, Nat.mul_zero, Nat.pow_zero, Nat.mod_one, Nat.mul_zero, Nat.add_zero, mod_wd n i, Nat.add_mul, Nat.mul_comm (wd n i)]
theorem acc_end (n m i : Nat) (h6 : i = 6) (hn : n < Q) : acc n m i 0 = n * m := by
  unfold acc
  rw [wlow n i hn h6, Nat.mul_zero 64, Nat.pow_zero, Nat.mod_one, Nat.mul_zero, Nat.add_zero]
theorem acc_le (n m i k : Nat) : acc n m i k ≤ (n % 2 ^ (64 * (i + 1))) * m := by
  unfold acc
  rw [mod_wd n i, Nat.add_mul]
  have : m % 2 ^ (64 * k) ≤ m := Nat.mod_le _ _
  have := Nat.mul_le_mul_left (wd n i * 2 ^ (64 * i)) this
  rw [Nat.mul_comm (2 ^ (64 * i)) (wd n i)]
  omega
theorem acc_bd (n m i k K : Nat) (hK : K = 13) (hi : i < 6) (hm : m < Q) : acc n m i k < 2 ^ (64 * K) := by
  have h1 := acc_le n m i k
  have h2 := mul_bd n m (i + 1) hm
  have h3 : 2 ^ (64 * (i + 1 + 6)) ≤ 2 ^ (64 * K) := Nat.pow_le_pow_right (by decide) (by omega)
  omega
theorem acc_two (n m i k p lo hi A : Nat) (hp : p = i + k) (hA : A = acc n m i k) (hw : lo + 18446744073709551616 * hi = wd n i * wd m k) :
    (A + 2 ^ (64 * p) * lo) + 2 ^ (64 * (p + 1)) * hi = acc n m i (k + 1) := by
  have h := congrArg (fun t => 2 ^ (64 * p) * t) hw
  simp only [Nat.mul_add] at h
  rw [acc_next, ← hp, ← hA, pow64, Nat.mul_assoc]
  omega
theorem over_low (X k : Nat) (h : k ≤ 6) : ¬ Q ≤ X % 2 ^ (64 * k) := by
  have h1 : X % 2 ^ (64 * k) < 2 ^ (64 * k) := Nat.mod_lt _ (Nat.two_pow_pos _)
  obtain ⟨L, hL, hQ⟩ := Q_of
  have h2 : 2 ^ (64 * k) ≤ 2 ^ (64 * L) := Nat.pow_le_pow_right (by decide) (by omega)
  omega
theorem over_high (X k : Nat) (h : 6 ≤ k) : Q ≤ X % 2 ^ (64 * (k + 1)) ↔ (Q ≤ X % 2 ^ (64 * k) ∨ wd X k ≠ 0) := by
  rw [mod_wd]
  obtain ⟨L, hL, hQ⟩ := Q_of
  have h2 : 2 ^ (64 * L) ≤ 2 ^ (64 * k) := Nat.pow_le_pow_right (by decide) (by omega)
  by_cases h0 : wd X k = 0
  · rw [h0]; simp
  · have : 2 ^ (64 * k) * 1 ≤ 2 ^ (64 * k) * wd X k := Nat.mul_le_mul_left _ (by omega)
    constructor
    · intro _; exact Or.inr h0
    · intro _; omega
end Go.Proofs.Ytflfgchnlcnibaa.WMath
