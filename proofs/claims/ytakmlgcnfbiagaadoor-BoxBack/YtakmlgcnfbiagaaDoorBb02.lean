/-
  What the functions that the statement reaches return: part 2 (JC).
-/
import Derived.Test.YtakmlgcnfbiagaaDoorBb01
namespace Go.Proofs.YtakmlgcnfbiagaaDoor
set_option maxRecDepth 100000
set_option maxHeartbeats 40000000
set_option maxRecDepth 100000
open Go.RowKit WMath
set_option linter.unusedSimpArgs false
set_option linter.unusedVariables false
theorem bit_up (n a k : Nat) : (n / 2 ^ a).testBit k = n.testBit (a + k) := by
  rw [← Nat.shiftRight_eq_div_pow, Nat.testBit_shiftRight]
theorem ones_iff {N W : Nat} (hN : N < 2 ^ 128) (hW : W ≤ 128) : (∀ k, W ≤ k → k < 128 → N.testBit k = true) ↔ N / 2 ^ W = 2 ^ (128 - W) - 1 := by
  constructor
  · intro h
    apply Nat.eq_of_testBit_eq
    intro i
    rw [bit_up, Nat.testBit_two_pow_sub_one]
    by_cases c : W + i < 128
    · rw [h _ (by omega) c, decide_eq_true (by omega)]
    · rw [decide_eq_false (by omega)]
      exact Nat.testBit_lt_two_pow (Nat.lt_of_lt_of_le hN (Nat.pow_le_pow_right (by decide) (by omega)))
  · intro h k k1 k2
    have := bit_up N W (k - W)
    rw [h, Nat.testBit_two_pow_sub_one, decide_eq_true (by omega), show W + (k - W) = k by omega] at this
    exact this.symm
theorem wdF_le (f : Int) : wdF f ≤ 128 := by unfold wdF; (repeat' split) <;> decide
theorem wdF_pos {f : Int} (h0 : 0 ≤ f) (h3 : f ≤ 3) : 16 ≤ wdF f := by
  rcases (by omega : f = 0 ∨ f = 1 ∨ f = 2 ∨ f = 3) with rfl | rfl | rfl | rfl <;> decide
theorem wdF_none {f : Int} (h : ¬ f ≤ 3) : wdF f = 0 := by unfold wdF; rw [if_neg (by omega), if_neg (by omega), if_neg (by omega), if_neg (by omega)]
def isN (f : Int) (N : Nat) : Bool := decide (0 < wdF f ∧ N / 2 ^ wdF f = 2 ^ (128 - wdF f) - 1)
def fitN (f : Int) (N : Nat) : Bool := decide (0 < wdF f ∧ N < 2 ^ wdF f)
def abN (f : Int) : Nat := 2 ^ 128 - 2 ^ wdF f
def nanN (f : Int) : Nat := if f = 0 then 2143289344 else if f = 1 then 9221120237041090560 else if f = 2 then 32256 else 170138587312039964317873038467719495680
def ubN (f : Int) (N : Nat) : Nat := if isN f N = true then N % 2 ^ wdF f else nanN f
theorem n128 {x y N : Nat} (hx : x < 18446744073709551616) (hy : y < 18446744073709551616) (hN : y + 18446744073709551616 * x = N) : N < 2 ^ 128 := by
  rw [show (2 : Nat) ^ 128 = 340282366920938463463374607431768211456 from rfl]
  omega
end Go.Proofs.YtakmlgcnfbiagaaDoor
