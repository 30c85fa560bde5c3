/-
  What the functions compare and product of package nat return.
-/
import Derived.Test.YtjedplbhhohfmaaDoorList3
import Derived.Test.YtjedplbhhohfmaaDoorWide9
namespace Go.Proofs.YtjedplbhhohfmaaDoor
open Go.RowKit WMath

/-- Which of two numbers is the greater one. -/
def cmpi (x y : Int) : Int := if x < y then -1 else if y < x then 1 else 0
theorem cmpi_nat (a b : Nat) : cmpi a b = cmpv a b := by
  unfold cmpi cmpv
  by_cases h : a = b
  · subst h; simp
  · by_cases h2 : a < b
    · rw [if_pos (by omega), if_neg h, if_pos h2]
    · rw [if_neg (by omega), if_pos (by omega), if_neg h, if_neg h2]
theorem cmpi_case (x y : Int) (c : Int) (hc : cmpi x y = c) : (decide (x < y) = true ∧ c = -1) ∨ (decide (x < y) = false ∧ decide (y < x) = true ∧ c = 1) ∨ (decide (x < y) = false ∧ decide (y < x) = false ∧ c = 0) := by
  unfold cmpi at hc
  by_cases h : x < y
  · rw [if_pos h] at hc; exact Or.inl ⟨decide_eq_true h, hc.symm⟩
  · rw [if_neg h] at hc
    by_cases h2 : y < x
    · rw [if_pos h2] at hc; exact Or.inr (Or.inl ⟨decide_eq_false h, decide_eq_true h2, hc.symm⟩)
    · rw [if_neg h2] at hc; exact Or.inr (Or.inr ⟨decide_eq_false h, decide_eq_false h2, hc.symm⟩)

theorem div_wd (a i : Nat) : a / 2 ^ (64 * i) = 18446744073709551616 * (a / 2 ^ (64 * (i + 1))) + wd a i := by
  unfold wd
  rw [pow64, ← Nat.div_div_eq_div_mul]
  omega
theorem hi_lt (a b i : Nat) (h : a / 2 ^ (64 * (i + 1)) = b / 2 ^ (64 * (i + 1))) (hw : wd a i < wd b i) : a < b := by
  have h1 := div_wd a i
  have h2 := div_wd b i
  by_cases e : a < b
  · exact e
  · have := Nat.div_le_div_right (c := 2 ^ (64 * i)) (show b ≤ a by omega)
    omega
theorem cmpv_lt (a b : Nat) (h : a < b) : cmpv a b = -1 := by unfold cmpv; rw [if_neg (by omega), if_pos h]
theorem cmpv_gt (a b : Nat) (h : b < a) : cmpv a b = 1 := by unfold cmpv; rw [if_neg (by omega), if_neg (by omega)]
theorem cmpv_hi (a b i : Nat) (h : a / 2 ^ (64 * (i + 1)) = b / 2 ^ (64 * (i + 1))) (hw : wd a i ≠ wd b i) : cmpv (wd a i) (wd b i) = cmpv a b := by
  by_cases e : wd a i < wd b i
  · rw [cmpv_lt _ _ e, cmpv_lt a b (hi_lt a b i h e)]
  · rw [cmpv_gt _ _ (show wd b i < wd a i by omega), cmpv_gt a b (hi_lt b a i h.symm (by omega))]

theorem prod_step (a b i M X x V : Nat) (hb : b < 2 ^ (64 * M)) (hX : X = (a % 2 ^ (64 * i)) * b) (hx : wd a i = x) (hV : vw X i (M + 1) = V) :
    X < 2 ^ (64 * (i + (M + 1))) ∧ (V + b * x) < 2 ^ (64 * (M + 1)) ∧ b * x < 2 ^ (64 * (M + 1)) ∧ putw X i (M + 1) (V + b * x) = (a % 2 ^ (64 * (i + 1))) * b := by
  have ha := Nat.mod_lt a (Nat.two_pow_pos (64 * i))
  have hx64 : x < 18446744073709551616 := by rw [← hx]; exact wd_lt _ _
  have hbx : b * x ≤ 2 ^ (64 * M) * 18446744073709551615 := Nat.mul_le_mul (Nat.le_of_lt hb) (by omega)
  have h1 : X < 2 ^ (64 * (i + M)) := by
    rw [hX, pow_oL]
    by_cases e : b = 0
    · rw [e, Nat.mul_zero]; exact Nat.mul_pos (Nat.two_pow_pos _) (Nat.two_pow_pos _)
    · exact Nat.mul_lt_mul_of_lt_of_le ha (Nat.le_of_lt hb) (Nat.two_pow_pos _)
  have h2 : X < 2 ^ (64 * (i + (M + 1))) := Nat.lt_of_lt_of_le h1 (pow64_le _ _ (by omega))
  have h3 : V = X / 2 ^ (64 * i) := by rw [← hV]; exact vw_top X i (M + 1) h2
  have h4 : V < 2 ^ (64 * M) := by rw [h3]; exact Nat.div_lt_of_lt_mul (by rw [← pow_oL]; exact h1)
  refine ⟨h2, by rw [pow64]; omega, by rw [pow64]; have := Nat.two_pow_pos (64 * M); omega, ?_⟩
  rw [putw_top X i (M + 1) _ h2, mod_wd, hx, Nat.add_mul, ← hX, h3, Nat.mul_add]
  have := Nat.div_add_mod X (2 ^ (64 * i))
  rw [Nat.mul_comm b x, Nat.mul_assoc]
  omega

end Go.Proofs.YtjedplbhhohfmaaDoor
