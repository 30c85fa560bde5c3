/-
  What Div of package word answers where the divisor is too small, and what the document's own Div answers, for every input.
-/
import Derived.Test.YtcibblcmnbohiaaWord3
namespace Go.Proofs.Ytcibblcmnbohiaa
open Go.RowKit WMath

theorem div_no (hi lo d : Nat) (hh : d ≤ hi) (w : World) :
    Calls Try.prog 15 #[.int .u64 hi, .int .u64 lo, .int .u64 d] w fun e w' => e = .returned (.tuple #[.int .u64 0, .int .u64 0, .int .i64 2]) ∧ w' = w := by
  go_enter Try.func15, Try.ntmps15
  go_wp2
  refine wp_scope_jumps 0 (fun _ _ => False) (fun _ _ => 0) rfl ?_ (fun _ _ h => h.elim)
  go_wp2
  simp only [Exit.jump]
  go_ret3
  exact ⟨rfl, rfl⟩

theorem rdiv_no (hi lo d : Nat) (hh : d ≤ hi) (w : World) :
    Calls Try.prog 16 #[.int .u64 hi, .int .u64 lo, .int .u64 d] w fun e w' => e = .returned (.tuple #[.int .u64 0, .int .u64 0, .int .i64 2]) ∧ w' = w := by
  go_enter Try.func16, Try.ntmps16
  go_wp2
  go_ret3
  exact ⟨rfl, rfl⟩

/-- What one round of the document's Div reckons. -/
theorem rdiv_round (hi lo d j q r : Nat) (hd : d < 18446744073709551616) (hj : j < 64) (HS : DivSt hi lo d j q r) :
    r < d ∧ q * 2 + 1 < 18446744073709551616 ∧
    ((r * 2 + (lo.testBit (63 - j)).toNat < 18446744073709551616 ∧ r * 2 < 18446744073709551616 ∧ ((r : Int) / 9223372036854775808 == 1) = false ∧ r * 2 + (lo.testBit (63 - j)).toNat < d ∧ Hid (DivSt hi lo d (j + 1) (q * 2) (r * 2 + (lo.testBit (63 - j)).toNat))) ∨
     (∃ Rd : Nat, r * 2 + (lo.testBit (63 - j)).toNat < 18446744073709551616 ∧ r * 2 < 18446744073709551616 ∧ ((r : Int) / 9223372036854775808 == 1) = false ∧ d ≤ r * 2 + (lo.testBit (63 - j)).toNat ∧ Hid (Rd = r * 2 + (lo.testBit (63 - j)).toNat - d) ∧ Hid (DivSt hi lo d (j + 1) (q * 2 + 1) Rd)) ∨
     (∃ Rd : Nat, 18446744073709551616 ≤ r * 2 ∧ ((r : Int) / 9223372036854775808 == 1) = true ∧ Hid (Rd + d = r * 2 + (lo.testBit (63 - j)).toNat) ∧ Hid (DivSt hi lo d (j + 1) (q * 2 + 1) Rd))) := by
  have hr := HS.2.1
  have hq := HS.2.2
  have hq2 : q < 9223372036854775808 := by
    have : 2 ^ j ≤ 2 ^ 63 := Nat.pow_le_pow_right (by decide) (by omega)
    omega
  have ds := div_step hi lo d j q r _ hj rfl HS
  have hb : (lo.testBit (63 - j)).toNat ≤ 1 := by cases lo.testBit (63 - j) <;> decide
  rw [Nat.mul_comm 2 r] at ds
  clear HS
  generalize (lo.testBit (63 - j)).toNat = t at *
  refine ⟨hr, by omega, ?_⟩
  by_cases hM : r * 2 < 18446744073709551616
  · have hout : ((r : Int) / 9223372036854775808 == 1) = false := by
      rw [beq_eq_false_iff_ne]; omega
    by_cases hA : r * 2 + t < d
    · exact Or.inl ⟨by omega, hM, hout, hA, ds.1 hA⟩
    · exact Or.inr (Or.inl ⟨_, by omega, hM, hout, by omega, hide rfl, ds.2 (by omega)⟩)
  · have hout : ((r : Int) / 9223372036854775808 == 1) = true := by
      rw [beq_iff_eq]; omega
    exact Or.inr (Or.inr ⟨r * 2 + t - d, by omega, hout, by show _ = _; omega, ds.2 (by omega)⟩)

set_option maxHeartbeats 2000000 in
theorem rdiv_any (hi lo d : Nat) (hh : hi < d) (hl : lo < 18446744073709551616) (hd : d < 18446744073709551616) (w : World) :
    Calls Try.prog 16 #[.int .u64 hi, .int .u64 lo, .int .u64 d] w fun e w' => e = .returned (.tuple #[.int .u64 (((hi * 18446744073709551616 + lo) / d : Nat) : Int), .int .u64 (((hi * 18446744073709551616 + lo) % d : Nat) : Int), .int .i64 0]) ∧ w' = w := by
  have h0 := hide (div_start hi lo d hl hh)
  have hge : ¬ d ≤ hi := by omega
  go_enter Try.func16, Try.ntmps16
  go_wp2
  go_loop [9, 10, 11] (fun q r i => ∃ k j Q R : Nat, k + j = 64 ∧ i = .int .i64 ((k : Int) - 1) ∧ q = .int .u64 Q ∧ r = .int .u64 R ∧ Hid (DivSt hi lo d j Q R)) (fun _ _ i => (intOf i + 1).toNat)
  case atStart => exact ⟨64, 0, 0, hi, by omega, rfl, rfl, rfl, h0⟩
  case round =>
    obtain ⟨k, j, Q, R, hkj, rfl, rfl, rfl, HS⟩ := hrel
    rcases k with _ | k
    · go_wp2
      go_ret3
      obtain rfl : j = 64 := by omega
      obtain ⟨e1, e2⟩ := div_end hi lo d _ _ HS.out
      exact ⟨ret_iii (by first | (rw [← e1]) | (rw [e1]; simp)) (by first | (rw [← e2]) | (rw [e2]; simp)) rfl, rfl⟩
    · have e63 : 63 - j = k := by omega
      have hc := rdiv_round hi lo d j Q R hd (by omega) HS.out
      rw [e63] at hc
      clear e63
      have hbit : ∀ (i : Int) (w : World), i = ((k : Nat) : Int) → Calls Try.prog 27 #[.int .u64 lo, .int .i64 i] w fun e w' => e = .returned (.bool (lo.testBit k)) ∧ w' = w := by
        intro i w h
        rw [h]
        exact bit_any lo _ hl (by omega) w
      obtain ⟨hr, hq, hc⟩ := hc
      cases ht : lo.testBit k
      all_goals rw [ht] at hc
      all_goals simp only [Bool.toNat_true, Bool.toNat_false, Nat.add_zero] at hc
      all_goals rcases hc with ⟨h1, h2, h3, h4, HS'⟩ | ⟨Rd, h1, h2, h3, h4, hRd, HS'⟩ | ⟨Rd, h2, h3, hRd, HS'⟩
      all_goals
        go_wp2_with (go_at_call 27; refine (hbit _ _ ?_).mono ?_; omega; rintro e w' ⟨rfl, rfl⟩)
        go_round
        case rel =>
          first
            | exact ⟨k, j + 1, _, _, by omega, rfl, rfl, rfl, HS'⟩
            | exact ⟨k, j + 1, _, _, by omega, rfl, rfl, int_eq (by have := hRd.out; omega), HS'⟩
            | exact ⟨k, j + 1, _, _, by omega, rfl, rfl, int_eq (by have := hRd.out; simp only [IntKind.wrap_u64]; omega), HS'⟩
        case measure => simp [intOf] <;> omega
end Go.Proofs.Ytcibblcmnbohiaa
