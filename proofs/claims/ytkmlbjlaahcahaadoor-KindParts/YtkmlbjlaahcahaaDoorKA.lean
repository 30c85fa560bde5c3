/-
  The document's Sign, Flip, Quiet and Next.
-/
import Derived.Test.YtkmlbjlaahcahaaDoorK9
namespace Go.Proofs.YtkmlbjlaahcahaaDoor
open Go.RowKit WMath
set_option linter.unusedSimpArgs false
set_option linter.unusedVariables false

theorem rk_enc (f : Int) (neg : Bool) (e T v a b : Nat) (hf : Is4 f) (hT : T < 2 ^ pV f) (hev : e ≤ oV f) (hv : enc7 f neg e T = v) (hab : bv7 v = (a, b)) (w : World) :
    Calls Tryd.prog 32 #[.int .u8 f, .bool neg, .int .i64 (e : Nat), .agg (cw 6 T)] w fun r w' => r = .returned (.agg #[.int .u64 (a : Nat), .int .u64 (b : Nat)]) ∧ Below w.heap.size w w' := by
  have h := r_enc f neg e T v hf (by have := (fm hf).2.2.2.2.2.1; omega) hT hv hev w
  rw [hab] at h
  exact h
theorem flip_k {f : Int} (hf : Is4 f) {n : Nat} (hfit : Fit f n) : sgB f n true = enc7 f (!kN f n) (kE f n) (kT f n) := by
  rw [← flip_enc hf _ (kE_le n) (kT_lt n), k_enc hf hfit]
  rfl
/-- What a NaN is, made quiet. -/
def qt (f : Int) (n : Nat) : Nat := if kC f n = 8 then n + 2 ^ (pV f - 1) else n
theorem or_bit_lt (t k : Nat) (h : t < 2 ^ k) : t ||| 2 ^ k = t + 2 ^ k := by
  have e := Nat.two_pow_add_eq_or_of_lt h 1
  rw [Nat.mul_one] at e
  rw [Nat.or_comm, ← e, Nat.add_comm]
theorem or_bit_ge (t k : Nat) (h : 2 ^ k ≤ t) (h2 : t < 2 * 2 ^ k) : t ||| 2 ^ k = t := by
  obtain ⟨s, rfl⟩ : ∃ s, t = s + 2 ^ k := ⟨t - 2 ^ k, by omega⟩
  rw [← or_bit_lt s k (by omega), Nat.or_assoc, Nat.or_self]
theorem qt_is {f : Int} (hf : Is4 f) {n : Nat} (hfit : Fit f n) (hc : 8 ≤ kC f n) : enc7 f (kN f n) (kE f n) (kT f n ||| 2 ^ (pV f - 1)) = qt f n ∧ kT f n ||| 2 ^ (pV f - 1) < 2 ^ pV f := by
  obtain ⟨g1, g2, g3, g4, g5, g6, g7⟩ := fm hf
  have tl := kT_lt (f := f) n
  have e := k_enc hf hfit
  by_cases h : 2 ^ (pV f - 1) ≤ kT f n
  · have h9 : kC f n ≠ 8 := by
      unfold kC at hc ⊢
      repeat' split at hc <;> first | omega | skip
      all_goals (try split) <;> omega
    rw [or_bit_ge _ _ h (by omega)]
    unfold qt
    rw [if_neg h9]
    exact ⟨e, tl⟩
  · have h9 : kC f n = 8 := by
      unfold kC at hc ⊢
      repeat' split at hc <;> first | omega | skip
      all_goals first | contradiction | simp_all
    rw [or_bit_lt _ _ (by omega)]
    unfold qt
    rw [if_pos h9]
    refine ⟨?_, by omega⟩
    conv => rhs; rw [← e]
    unfold enc7
    omega

end Go.Proofs.YtkmlbjlaahcahaaDoor
