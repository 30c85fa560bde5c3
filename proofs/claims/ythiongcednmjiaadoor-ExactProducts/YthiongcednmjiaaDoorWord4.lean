/-
  What Div of package word answers where the divisor is too small, and what the document's own Div answers, for every input.
-/
import Derived.Test.YthiongcednmjiaaDoorGx
namespace Go.Proofs.YthiongcednmjiaaDoor
open Go.RowKit WMath

theorem div_lt (hi lo d : Nat) (hl : lo < 18446744073709551616) (hh : hi < d) : (hi * 18446744073709551616 + lo) / d < 18446744073709551616 := by
  rw [Nat.div_lt_iff_lt_mul (by omega), Nat.mul_comm 18446744073709551616 d]
  have : (hi + 1) * 18446744073709551616 ≤ d * 18446744073709551616 := Nat.mul_le_mul_right _ hh
  omega

theorem div_no (hi lo d : Nat) (hh : d ≤ hi) (w : World) :
    Calls Tryd.prog 132 #[.int .u64 hi, .int .u64 lo, .int .u64 d] w fun e w' => e = .returned (.tuple #[.int .u64 0, .int .u64 0, .int .i64 2]) ∧ w' = w := by
  go_enter Tryd.func132, Tryd.ntmps132
  go_wp2
  refine wp_scope_jumps 0 (fun _ _ => False) (fun _ _ => 0) rfl ?_ (fun _ _ h => h.elim)
  go_wp2
  simp only [Exit.jump]
  go_ret3
  exact ⟨rfl, rfl⟩

/-- What one round of the document's Div reckons. -/
theorem rdiv_round (hi lo d j q r : Nat) (hd : d < 18446744073709551616) (hj : j < 64) (HS : DivSt hi lo d j q r) :
    r < d ∧ q * 2 + 1 < 18446744073709551616 ∧
    ((r * 2 + (lo.testBit (63 - j)).toNat < 18446744073709551616 ∧ r * 2 < 18446744073709551616 ∧ ((r : Int) / 9223372036854775808 == 1) = false ∧ r * 2 + (lo.testBit (63 - j)).toNat < d ∧ Hid (DivSt hi lo d (j + 1) (q * 2) (r * 2 + (lo.testBit (63 - j)).toNat))) ∨
     (∃ Rd : Nat, r * 2 + (lo.testBit (63 - j)).toNat < 18446744073709551616 ∧ r * 2 < 18446744073709551616 ∧ ((r : Int) / 9223372036854775808 == 1) = false ∧ d ≤ r * 2 + (lo.testBit (63 - j)).toNat ∧ Hid (Rd = r * 2 + (lo.testBit (63 - j)).toNat - d) ∧ Hid (DivSt hi lo d (j + 1) (q * 2 + 1) Rd)) ∨
     (∃ Rd : Nat, 18446744073709551616 ≤ r * 2 ∧ ((r : Int) / 9223372036854775808 == 1) = true ∧ Hid (Rd + d = r * 2 + (lo.testBit (63 - j)).toNat) ∧ Hid (DivSt hi lo d (j + 1) (q * 2 + 1) Rd))) := by
  have hr := HS.2.1
  have hq := HS.2.2
  have hq2 : q < 9223372036854775808 := by
    have : 2 ^ j ≤ 2 ^ 63 := Nat.pow_le_pow_right (by decide) (by omega)
    omega
  have ds := div_step hi lo d j q r _ hj rfl HS
  have hb : (lo.testBit (63 - j)).toNat ≤ 1 := by cases lo.testBit (63 - j) <;> decide
  rw [Nat.mul_comm 2 r] at ds
  clear HS
  generalize (lo.testBit (63 - j)).toNat = t at *
  refine ⟨hr, by omega, ?_⟩
  by_cases hM : r * 2 < 18446744073709551616
  · have hout : ((r : Int) / 9223372036854775808 == 1) = false := by
      rw [beq_eq_false_iff_ne]; omega
    by_cases hA : r * 2 + t < d
    · exact Or.inl ⟨by omega, hM, hout, hA, ds.1 hA⟩
    · exact Or.inr (Or.inl ⟨_, by omega, hM, hout, by omega, hide rfl, ds.2 (by omega)⟩)
  · have hout : ((r : Int) / 9223372036854775808 == 1) = true := by
      rw [beq_iff_eq]; omega
    exact Or.inr (Or.inr ⟨r * 2 + t - d, by omega, hout, by show _ = _; omega, ds.2 (by omega)⟩)

end Go.Proofs.YthiongcednmjiaaDoor
