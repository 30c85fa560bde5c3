/-
  Shifts bit by bit: what the loops of the document's answer keep.
-/
import Derived.Test.YtgiehfecljampaaWmath
namespace Go.Proofs.Ytgiehfecljampaa.WMath

theorem Q384 (t : Nat) (ht : t < 384) : 2 ^ (t + 1) ≤ Q := by
  obtain ⟨L, hL, hQ⟩ := Q_of
  rw [hQ]
  exact Nat.pow_le_pow_right (by decide) (by omega)
theorem Q384' (t : Nat) (ht : 384 ≤ t) : 2 ^ t % Q = 0 := by
  obtain ⟨L, hL, hQ⟩ := Q_of
  rw [hQ, show t = (t - 64 * L) + 64 * L by omega, Nat.pow_add, Nat.mul_mod_left]
theorem Q384'' (t : Nat) (ht : 384 ≤ t) : Q ≤ 2 ^ t := by
  obtain ⟨L, hL, hQ⟩ := Q_of
  rw [hQ]
  exact Nat.pow_le_pow_right (by decide) (by omega)
theorem mod384 (n i : Nat) (hn : n < Q) (hi : 384 ≤ i) : n % 2 ^ i = n := Nat.mod_eq_of_lt (Nat.lt_of_lt_of_le hn (Q384'' i hi))
theorem v_word (r : Nat) (hr : r < 64) : 2 ^ r < 18446744073709551616 := pow_lt_64 r hr

theorem left_bit0 (n i : Nat) (h : n.testBit i = false) : n % 2 ^ (i + 1) = n % 2 ^ i := by
  rw [mod_succ, h, Bool.toNat_false, Nat.mul_zero, Nat.add_zero]
theorem left_bit1 (n i : Nat) (h : n.testBit i = true) : n % 2 ^ (i + 1) = n % 2 ^ i + 2 ^ i := by
  rw [mod_succ, h, Bool.toNat_true, Nat.mul_one]
/-- What a bit that stays within does to the sum and to what is lost. -/
theorem left_in (n i c t q r B : Nat) (h : n.testBit i = true) (ht : t = i + c) (hlt : t < 384) (hq : t = 64 * q + r) (hB : B = (n % 2 ^ i) * 2 ^ c % Q) :
    (n % 2 ^ (i + 1)) * 2 ^ c % Q = B ||| 2 ^ r * 2 ^ (64 * q) ∧ ¬ Q ≤ (n % 2 ^ (i + 1)) * 2 ^ c ∧ ¬ Q ≤ (n % 2 ^ i) * 2 ^ c := by
  have hl : n % 2 ^ i < 2 ^ i := Nat.mod_lt _ (Nat.two_pow_pos _)
  have e1 : 2 ^ i * 2 ^ c = 2 ^ t := by rw [← Nat.pow_add, ht]
  have h1 : (n % 2 ^ i) * 2 ^ c < 2 ^ t := by rw [← e1]; exact Nat.mul_lt_mul_of_pos_right hl (Nat.two_pow_pos _)
  have h2 := Q384 t hlt
  rw [Nat.pow_succ] at h2
  rw [left_bit1 n i h, Nat.add_mul, e1]
  have e2 : B = (n % 2 ^ i) * 2 ^ c := by rw [hB, Nat.mod_eq_of_lt (by omega)]
  refine ⟨?_, by omega, by omega⟩
  rw [Nat.mod_eq_of_lt (by omega), e2, ← Nat.pow_add, show r + 64 * q = t by omega]
  have := or_disj ((n % 2 ^ i) * 2 ^ c) 1 t h1
  rw [Nat.one_mul] at this
  exact this
theorem left_out (n i c t B : Nat) (h : n.testBit i = true) (ht : t = i + c) (hge : 384 ≤ t) (hB : B = (n % 2 ^ i) * 2 ^ c % Q) :
    (n % 2 ^ (i + 1)) * 2 ^ c % Q = B ∧ Q ≤ (n % 2 ^ (i + 1)) * 2 ^ c := by
  have e1 : 2 ^ i * 2 ^ c = 2 ^ t := by rw [← Nat.pow_add, ht]
  have h2 := Q384'' t hge
  rw [left_bit1 n i h, Nat.add_mul, e1]
  refine ⟨?_, by omega⟩
  rw [Nat.add_mod, Q384' t hge, Nat.add_zero, Nat.mod_mod, hB]

theorem right_in (n i c t q r B : Nat) (h : n.testBit i = true) (ht : i = t + c) (hq : t = 64 * q + r) (hB : B = (n % 2 ^ i) / 2 ^ c) :
    (n % 2 ^ (i + 1)) / 2 ^ c = B ||| 2 ^ r * 2 ^ (64 * q) ∧ (n % 2 ^ (i + 1)) % 2 ^ c = (n % 2 ^ i) % 2 ^ c := by
  have hl : n % 2 ^ i < 2 ^ i := Nat.mod_lt _ (Nat.two_pow_pos _)
  have e1 : 2 ^ i = 2 ^ t * 2 ^ c := by rw [← Nat.pow_add, ht]
  rw [left_bit1 n i h]
  have e2 : n % 2 ^ i + 2 ^ i = n % 2 ^ i + 2 ^ t * 2 ^ c := by rw [← e1]
  rw [e2, Nat.add_mul_div_right _ _ (Nat.two_pow_pos _), Nat.add_mul_mod_self_right]
  refine ⟨?_, rfl⟩
  have hB2 : B < 2 ^ t := by rw [hB]; exact Nat.div_lt_of_lt_mul (by rw [Nat.mul_comm, ← e1]; exact hl)
  rw [← hB, ← Nat.pow_add, show r + 64 * q = t by omega]
  have := or_disj B 1 t hB2
  rw [Nat.one_mul] at this
  exact this
theorem right_out (n i c B : Nat) (h : n.testBit i = true) (ht : i < c) (hB : B = (n % 2 ^ i) / 2 ^ c) :
    (n % 2 ^ (i + 1)) / 2 ^ c = B ∧ (n % 2 ^ (i + 1)) % 2 ^ c ≠ 0 := by
  have hl : n % 2 ^ i < 2 ^ i := Nat.mod_lt _ (Nat.two_pow_pos _)
  have h1 : 2 ^ (i + 1) ≤ 2 ^ c := Nat.pow_le_pow_right (by decide) (by omega)
  rw [Nat.pow_succ] at h1
  have h2 := Nat.two_pow_pos i
  rw [left_bit1 n i h, hB, Nat.div_eq_of_lt (by omega), Nat.div_eq_of_lt (by omega), Nat.mod_eq_of_lt (by omega)]
  exact ⟨rfl, by omega⟩
end Go.Proofs.Ytgiehfecljampaa.WMath
