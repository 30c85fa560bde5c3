/-
  What the functions Add and Sub of the document's answer for layer 2 return.
-/
import Derived.Test.YtjedplbhhohfmaaWide1
import Derived.Test.YtjedplbhhohfmaaQuiet2
namespace Go.Proofs.Ytjedplbhhohfmaa
open Go.RowKit WMath

theorem add_facts (n m S k : Nat) (C : Bool) (hS : S < 2 ^ (64 * k)) (hE : S + 2 ^ (64 * k) * C.toNat = n % 2 ^ (64 * k) + m % 2 ^ (64 * k)) :
    ∃ (x : Nat) (o : Bool), x < 18446744073709551616 ∧ Box ((wd n k + wd m k + C.toNat) % 18446744073709551616 = x) ∧ Box (decide (18446744073709551616 ≤ wd n k + wd m k + C.toNat) = o) ∧ Box (S + 2 ^ (64 * k) * x < 2 ^ (64 * (k + 1))) ∧ Box (S + 2 ^ (64 * k) * x + 2 ^ (64 * (k + 1)) * o.toNat = n % 2 ^ (64 * (k + 1)) + m % 2 ^ (64 * (k + 1))) :=
  ⟨_, _, Nat.mod_lt _ (by decide), box rfl, box rfl, box (push_lt S k _ hS (Nat.mod_lt _ (by decide))), box (wadd_step n m S k _ C hE rfl)⟩
theorem sub_facts (n m S k : Nat) (C : Bool) (hS : S < 2 ^ (64 * k)) (hE : S + m % 2 ^ (64 * k) = n % 2 ^ (64 * k) + 2 ^ (64 * k) * C.toNat) :
    ∃ (x : Nat) (o : Bool), x < 18446744073709551616 ∧ Box ((wd n k + 18446744073709551616 - wd m k - C.toNat) % 18446744073709551616 = x) ∧ Box (decide (wd n k < wd m k + C.toNat) = o) ∧ Box (S + 2 ^ (64 * k) * x < 2 ^ (64 * (k + 1))) ∧ Box (S + 2 ^ (64 * k) * x + m % 2 ^ (64 * (k + 1)) = n % 2 ^ (64 * (k + 1)) + 2 ^ (64 * (k + 1)) * o.toNat) :=
  ⟨_, _, Nat.mod_lt _ (by decide), box rfl, box rfl, box (push_lt S k _ hS (Nat.mod_lt _ (by decide))), box (wsub_step n m S k _ C hE rfl)⟩

end Go.Proofs.Ytjedplbhhohfmaa
