/-
  What the functions Left and Right of package wide return.
-/
import Derived.Test.YtjbefkceieklmaaDoorWide3
import Derived.Test.YtjbefkceieklmaaDoorQuiet2
namespace Go.Proofs.YtjbefkceieklmaaDoor
open Go.RowKit WMath

theorem left_lost (n c x : Nat) (hx : x = n * 2 ^ c % Q) : (!decide (x / 2 ^ c = n)) = decide (Q ≤ n * 2 ^ c) := by
  by_cases h : n * 2 ^ c < Q
  · rw [hx, Nat.mod_eq_of_lt h, Nat.mul_div_cancel _ (Nat.two_pow_pos c), decide_eq_false (show ¬ Q ≤ n * 2 ^ c by omega)]
    simp
  · have h1 : x < Q := by rw [hx]; exact Nat.mod_lt _ Q_pos
    have h2 : x / 2 ^ c ≠ n := by
      intro e
      have := Nat.div_mul_le_self x (2 ^ c)
      rw [e] at this
      omega
    rw [decide_eq_true (show Q ≤ n * 2 ^ c by omega), decide_eq_false h2]
    rfl
theorem right_lost (n c : Nat) (hn : n < Q) : (!decide (n / 2 ^ c * 2 ^ c % Q = n)) = decide (n % 2 ^ c ≠ 0) := by
  have h1 := Nat.div_add_mod' n (2 ^ c)
  rw [Nat.mod_eq_of_lt (by omega)]
  by_cases h : n % 2 ^ c = 0
  · rw [decide_eq_true (show n / 2 ^ c * 2 ^ c = n by omega), decide_eq_false (by omega)]; rfl
  · rw [decide_eq_false (show ¬ n / 2 ^ c * 2 ^ c = n by omega), decide_eq_true h]; rfl

end Go.Proofs.YtjbefkceieklmaaDoor
