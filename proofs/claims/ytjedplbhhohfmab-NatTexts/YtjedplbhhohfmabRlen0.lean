/-
  What Len of the document's answer for layer 1 returns.
-/
import Derived.Test.YtjedplbhhohfmabWord1
import Derived.Lib.BitFns
namespace Go.Proofs.Ytjedplbhhohfmab
open Go.RowKit WMath

theorem bitLen_top (x k : Nat) (h1 : 2 ^ k ≤ x) (h2 : x < 2 ^ (k + 1)) (hk : k < 64) : Lib.bitLen x = k + 1 := by
  have hx : x < 18446744073709551616 := by
    have := pow_le_64 (k + 1) (by omega)
    omega
  rcases Nat.eq_zero_or_pos k with rfl | hp
  · have : x = 1 := by simp at h1 h2; omega
    subst this; decide
  · rw [Lib.bitLen_shift k x h1 hx, show x / 2 ^ k = 1 by
      apply Nat.div_eq_of_lt_le
      · omega
      · rw [Nat.pow_succ] at h2; omega]
    have : Lib.bitLen 1 = 1 := by decide
    omega
theorem bitLen_step (x k : Nat) (hk : k < 64) : Lib.bitLen (x % 2 ^ (k + 1)) = if x.testBit k then k + 1 else Lib.bitLen (x % 2 ^ k) := by
  rw [mod_succ]
  have hl : x % 2 ^ k < 2 ^ k := Nat.mod_lt _ (Nat.two_pow_pos k)
  cases x.testBit k
  · simp
  · rw [if_pos rfl, Bool.toNat_true, Nat.mul_one]
    exact bitLen_top _ k (by omega) (by rw [Nat.pow_succ]; omega) hk

end Go.Proofs.Ytjedplbhhohfmab
