/-
  What Div of the document's answer for layer 3 returns.
-/
import Derived.Test.YtjedplbhhohfmaaQuot2
import Derived.Test.YtjedplbhhohfmaaRlen
import Derived.Test.YtjedplbhhohfmaaRwide1
import Derived.Test.YtjedplbhhohfmaaRwide2
namespace Go.Proofs.Ytjedplbhhohfmaa
open Go.RowKit WMath

theorem qor_one (s : Nat) (h : s % 2 = 0) : s ||| 1 * 2 ^ (64 * 0) = s + 1 := by
  rw [Nat.mul_zero, Nat.pow_zero, Nat.mul_one]
  exact qor_add s 1 1 ⟨s / 2, by omega⟩ (by decide)
/-- One bit as a word at its place. -/
theorem one_bit (j q r : Nat) (hq : q = j / 64) (hr : r = j % 64) : 2 ^ r * 2 ^ (64 * q) = 2 ^ j := by
  rw [← Nat.pow_add]; congr 1; omega

end Go.Proofs.Ytjedplbhhohfmaa
