/-
  What the products, quotients and lengths of package word and of the document's answer return, for every input.
-/
import Derived.Test.YtbjknklgkhhebaaDoorWord1
import Derived.ScopeJumps
namespace Go.Proofs.YtbjknklgkhhebaaDoor
open Go.RowKit WMath

/-- What holds at each jump back of Div. -/
def DivJ (hi lo d : Nat) (w : World) (a' : Act) (w' : World) : Prop :=
  w' = w ∧ ∃ (j q r L : Nat) (J : Int) (u10 u11 u12 u13 u14 u15 u16 u17 u18 u19 u20 u21 u22 u23 u24 u25 u26 u27 u28 u29 u30 u31 u32 u33 u34 u35 u36 u37 u38 u39 u40 u41 u42 : Value), a' = { tmps := #[.int .u64 hi, .int .u64 L, .int .u64 d, undef, undef, undef, .int .u64 q, .int .u64 r, .int .i64 0, .int .i64 J, u10, u11, u12, u13, u14, u15, u16, u17, u18, u19, u20, u21, u22, u23, u24, u25, u26, u27, u28, u29, u30, u31, u32, u33, u34, u35, u36, u37, u38, u39, u40, u41, u42, undef, undef], defers := [] } ∧ J = j ∧ 1 ≤ j ∧ j < 64 ∧ L = lo * 2 ^ j % 18446744073709551616 ∧ DivSt hi lo d j q r
def DivM (a' : Act) : Nat := (64 - intOf (a'.tmps.getD 9 undef)).toNat

/-- What one pass reckons: the divisor does not go into what is left; it goes, and twice what is left is a word; it goes, and twice what is left is none. -/
theorem div_pass (hi lo d j q r L : Nat) (hd : d < 18446744073709551616) (hj : j < 64) (HL : L = lo * 2 ^ j % 18446744073709551616) (HS : DivSt hi lo d j q r) :
    r < d ∧ L < 18446744073709551616 ∧ q * 2 + 1 < 18446744073709551616 ∧
    ((∃ R Q L' : Nat, r * 2 < 18446744073709551616 ∧ R < d ∧ ((r : Int) / 9223372036854775808 == 1) = false ∧ bits .or .u64 ((r : Int) * 2) ((L : Int) / 9223372036854775808) = (R : Int) ∧ (q : Int) * 2 = (Q : Int) ∧
        IntKind.u64.wrap ((L : Int) * 2) = (L' : Int) ∧ Hid (L' = lo * 2 ^ (j + 1) % 18446744073709551616) ∧ Hid (DivSt hi lo d (j + 1) Q R)) ∨
     (∃ R Q Q1 Rd L' : Nat, r * 2 < 18446744073709551616 ∧ d ≤ R ∧ ((r : Int) / 9223372036854775808 == 1) = false ∧ bits .or .u64 ((r : Int) * 2) ((L : Int) / 9223372036854775808) = (R : Int) ∧ (q : Int) * 2 = (Q : Int) ∧
        bits .or .u64 (Q : Int) 1 = (Q1 : Int) ∧ IntKind.u64.wrap ((R : Int) - (d : Int)) = (Rd : Int) ∧ IntKind.u64.wrap ((L : Int) * 2) = (L' : Int) ∧ Hid (L' = lo * 2 ^ (j + 1) % 18446744073709551616) ∧ Hid (DivSt hi lo d (j + 1) Q1 Rd)) ∨
     (∃ R Q Q1 Rd L' : Nat, 18446744073709551616 ≤ r * 2 ∧ ((r : Int) / 9223372036854775808 == 1) = true ∧ bits .or .u64 (IntKind.u64.wrap ((r : Int) * 2)) ((L : Int) / 9223372036854775808) = (R : Int) ∧ (q : Int) * 2 = (Q : Int) ∧
        bits .or .u64 (Q : Int) 1 = (Q1 : Int) ∧ IntKind.u64.wrap ((R : Int) - (d : Int)) = (Rd : Int) ∧ IntKind.u64.wrap ((L : Int) * 2) = (L' : Int) ∧ Hid (L' = lo * 2 ^ (j + 1) % 18446744073709551616) ∧ Hid (DivSt hi lo d (j + 1) Q1 Rd))) := by
  have hr := HS.2.1
  have hq := HS.2.2
  have hp := pow_lt_64 j hj
  have hq2 : q < 9223372036854775808 := by
    have : 2 ^ j ≤ 2 ^ 63 := Nat.pow_le_pow_right (by decide) (by omega)
    omega
  have hLl : L < 18446744073709551616 := by omega
  have ht : L / 9223372036854775808 = (lo.testBit (63 - j)).toNat := by rw [HL]; exact top_bit lo j hj
  have ds := div_step hi lo d j q r _ hj ht HS
  have ht2 : L / 9223372036854775808 < 2 := by omega
  have hL' := mul_mod_step lo j L HL
  have eL : IntKind.u64.wrap ((L : Int) * 2) = ((L * 2 % 18446744073709551616 : Nat) : Int) := by rw [IntKind.wrap_u64]; omega
  have eQ : (q : Int) * 2 = ((q * 2 : Nat) : Int) := by omega
  have eQ1 : bits .or .u64 ((q * 2 : Nat) : Int) 1 = ((q * 2 + 1 : Nat) : Int) := or_bit_i (q * 2) 1 (by omega) (by omega) (by omega)
  clear HS HL ht
  refine ⟨hr, hLl, by omega, ?_⟩
  by_cases hM : r * 2 < 18446744073709551616
  · have hout : ((r : Int) / 9223372036854775808 == 1) = false := by
      rw [beq_eq_false_iff_ne]; omega
    have eo : bits .or .u64 ((r : Int) * 2) ((L : Int) / 9223372036854775808) = ((2 * r + L / 9223372036854775808 : Nat) : Int) := by
      have h := or_bit_i (r * 2) (L / 9223372036854775808) (by omega) ht2 (by omega)
      rw [Nat.mul_comm 2 r, ← h]
      congr 1
    by_cases hA : 2 * r + L / 9223372036854775808 < d
    · exact Or.inl ⟨_, _, _, hM, hA, hout, eo, eQ, eL, hL', ds.1 hA⟩
    · exact Or.inr (Or.inl ⟨_, _, _, 2 * r + L / 9223372036854775808 - d, _, hM, by omega, hout, eo, eQ, eQ1, by rw [IntKind.wrap_u64]; omega, eL, hL', ds.2 (by omega)⟩)
  · have hout : ((r : Int) / 9223372036854775808 == 1) = true := by
      rw [beq_iff_eq]; omega
    have h := or_bit_i (r * 2 - 18446744073709551616) (L / 9223372036854775808) (by omega) ht2 (by omega)
    have e1 : IntKind.u64.wrap ((r : Int) * 2) = ((r * 2 - 18446744073709551616 : Nat) : Int) := by rw [IntKind.wrap_u64]; omega
    have e3 : (L : Int) / 9223372036854775808 = ((L / 9223372036854775808 : Nat) : Int) := by omega
    rw [← e1, ← e3] at h
    exact Or.inr (Or.inr ⟨_, _, _, 2 * r + L / 9223372036854775808 - d, _, by omega, hout, h, eQ, eQ1, by rw [IntKind.wrap_u64]; omega, eL, hL', ds.2 (by omega)⟩)

end Go.Proofs.YtbjknklgkhhebaaDoor
