/-
  What the products, quotients and lengths of package word and of the document's answer return, for every input.
-/
import Derived.Test.YtjedplbhhohfmaaWord1
import Derived.ScopeJumps
namespace Go.Proofs.Ytjedplbhhohfmaa
open Go.RowKit WMath

set_option maxHeartbeats 1000000 in
theorem mul64_any (x y : Nat) (hx : x < 18446744073709551616) (hy : y < 18446744073709551616) (w : World) :
    Calls Try.prog 88 #[.int .u64 x, .int .u64 y] w fun e w' => e = .returned (.tuple #[.int .u64 ((x * y / 18446744073709551616 : Nat) : Int), .int .u64 ((x * y % 18446744073709551616 : Nat) : Int)]) ∧ w' = w := by
  go_enter Try.func88, Try.ntmps88
  go_wp2
  go_ret2
  refine ⟨ret_ii ?_ ?_, rfl⟩
  · simp only [IntKind.wrap_u64]
    rw [and_low32 (x : Int) (by omega) (by omega), and_low32 (y : Int) (by omega) (by omega), and_low32 (_ % 18446744073709551616) (Int.emod_nonneg _ (by decide)) (Int.emod_lt_of_pos _ (by decide)), mul64_arith x y (by omega) (by omega) (by omega) (by omega)]
    simp
  · rw [IntKind.wrap_u64]
    simp

theorem mul_any (x y : Nat) (hx : x < 18446744073709551616) (hy : y < 18446744073709551616) (w : World) :
    Calls Try.prog 83 #[.int .u64 x, .int .u64 y] w fun e w' => e = .returned (.tuple #[.int .u64 ((x * y / 18446744073709551616 : Nat) : Int), .int .u64 ((x * y % 18446744073709551616 : Nat) : Int)]) ∧ w' = w := by
  go_enter Try.func83, Try.ntmps83
  go_wp2_with (go_at_call 88; refine (mul64_any _ _ hx hy _).mono ?_; rintro e w' ⟨rfl, rfl⟩)
  go_ret2
  exact ⟨rfl, rfl⟩

/-- What holds at each jump back of Div. -/
def DivJ (hi lo d : Nat) (w : World) (a' : Act) (w' : World) : Prop :=
  w' = w ∧ ∃ (j q r L : Nat) (J : Int) (u10 u11 u12 u13 u14 u15 u16 u17 u18 u19 u20 u21 u22 u23 u24 u25 u26 u27 u28 u29 u30 u31 u32 u33 u34 u35 u36 u37 u38 u39 u40 u41 u42 : Value), a' = { tmps := #[.int .u64 hi, .int .u64 L, .int .u64 d, undef, undef, undef, .int .u64 q, .int .u64 r, .int .i64 0, .int .i64 J, u10, u11, u12, u13, u14, u15, u16, u17, u18, u19, u20, u21, u22, u23, u24, u25, u26, u27, u28, u29, u30, u31, u32, u33, u34, u35, u36, u37, u38, u39, u40, u41, u42, undef, undef], defers := [] } ∧ J = j ∧ 1 ≤ j ∧ j < 64 ∧ L = lo * 2 ^ j % 18446744073709551616 ∧ DivSt hi lo d j q r
def DivM (a' : Act) : Nat := (64 - intOf (a'.tmps.getD 9 undef)).toNat

/-- What one pass reckons: the divisor does not go into what is left; it goes, and twice what is left is a word; it goes, and twice what is left is none. -/
theorem div_pass (hi lo d j q r L : Nat) (hd : d < 18446744073709551616) (hj : j < 64) (HL : L = lo * 2 ^ j % 18446744073709551616) (HS : DivSt hi lo d j q r) :
    r < d ∧ L < 18446744073709551616 ∧ q * 2 + 1 < 18446744073709551616 ∧
    ((∃ R Q L' : Nat, r * 2 < 18446744073709551616 ∧ R < d ∧ ((r : Int) / 9223372036854775808 == 1) = false ∧ bits .or .u64 ((r : Int) * 2) ((L : Int) / 9223372036854775808) = (R : Int) ∧ (q : Int) * 2 = (Q : Int) ∧
        IntKind.u64.wrap ((L : Int) * 2) = (L' : Int) ∧ Hid (L' = lo * 2 ^ (j + 1) % 18446744073709551616) ∧ Hid (DivSt hi lo d (j + 1) Q R)) ∨
     (∃ R Q Q1 Rd L' : Nat, r * 2 < 18446744073709551616 ∧ d ≤ R ∧ ((r : Int) / 9223372036854775808 == 1) = false ∧ bits .or .u64 ((r : Int) * 2) ((L : Int) / 9223372036854775808) = (R : Int) ∧ (q : Int) * 2 = (Q : Int) ∧
        bits .or .u64 (Q : Int) 1 = (Q1 : Int) ∧ IntKind.u64.wrap ((R : Int) - (d : Int)) = (Rd : Int) ∧ IntKind.u64.wrap ((L : Int) * 2) = (L' : Int) ∧ Hid (L' = lo * 2 ^ (j + 1) % 18446744073709551616) ∧ Hid (DivSt hi lo d (j + 1) Q1 Rd)) ∨
     (∃ R Q Q1 Rd L' : Nat, 18446744073709551616 ≤ r * 2 ∧ ((r : Int) / 9223372036854775808 == 1) = true ∧ bits .or .u64 (IntKind.u64.wrap ((r : Int) * 2)) ((L : Int) / 9223372036854775808) = (R : Int) ∧ (q : Int) * 2 = (Q : Int) ∧
        bits .or .u64 (Q : Int) 1 = (Q1 : Int) ∧ IntKind.u64.wrap ((R : Int) - (d : Int)) = (Rd : Int) ∧ IntKind.u64.wrap ((L : Int) * 2) = (L' : Int) ∧ Hid (L' = lo * 2 ^ (j + 1) % 18446744073709551616) ∧ Hid (DivSt hi lo d (j + 1) Q1 Rd))) := by
  have hr := HS.2.1
  have hq := HS.2.2
  have hp := pow_lt_64 j hj
  have hq2 : q < 9223372036854775808 := by
    have : 2 ^ j ≤ 2 ^ 63 := Nat.pow_le_pow_right (by decide) (by omega)
    omega
  have hLl : L < 18446744073709551616 := by omega
  have ht : L / 9223372036854775808 = (lo.testBit (63 - j)).toNat := by rw [HL]; exact top_bit lo j hj
  have ds := div_step hi lo d j q r _ hj ht HS
  have ht2 : L / 9223372036854775808 < 2 := by omega
  have hL' := mul_mod_step lo j L HL
  have eL : IntKind.u64.wrap ((L : Int) * 2) = ((L * 2 % 18446744073709551616 : Nat) : Int) := by rw [IntKind.wrap_u64]; omega
  have eQ : (q : Int) * 2 = ((q * 2 : Nat) : Int) := by omega
  have eQ1 : bits .or .u64 ((q * 2 : Nat) : Int) 1 = ((q * 2 + 1 : Nat) : Int) := or_bit_i (q * 2) 1 (by omega) (by omega) (by omega)
  clear HS HL ht
  refine ⟨hr, hLl, by omega, ?_⟩
  by_cases hM : r * 2 < 18446744073709551616
  · have hout : ((r : Int) / 9223372036854775808 == 1) = false := by
      rw [beq_eq_false_iff_ne]; omega
    have eo : bits .or .u64 ((r : Int) * 2) ((L : Int) / 9223372036854775808) = ((2 * r + L / 9223372036854775808 : Nat) : Int) := by
      have h := or_bit_i (r * 2) (L / 9223372036854775808) (by omega) ht2 (by omega)
      rw [Nat.mul_comm 2 r, ← h]
      congr 1
    by_cases hA : 2 * r + L / 9223372036854775808 < d
    · exact Or.inl ⟨_, _, _, hM, hA, hout, eo, eQ, eL, hL', ds.1 hA⟩
    · exact Or.inr (Or.inl ⟨_, _, _, 2 * r + L / 9223372036854775808 - d, _, hM, by omega, hout, eo, eQ, eQ1, by rw [IntKind.wrap_u64]; omega, eL, hL', ds.2 (by omega)⟩)
  · have hout : ((r : Int) / 9223372036854775808 == 1) = true := by
      rw [beq_iff_eq]; omega
    have h := or_bit_i (r * 2 - 18446744073709551616) (L / 9223372036854775808) (by omega) ht2 (by omega)
    have e1 : IntKind.u64.wrap ((r : Int) * 2) = ((r * 2 - 18446744073709551616 : Nat) : Int) := by rw [IntKind.wrap_u64]; omega
    have e3 : (L : Int) / 9223372036854775808 = ((L / 9223372036854775808 : Nat) : Int) := by omega
    rw [← e1, ← e3] at h
    exact Or.inr (Or.inr ⟨_, _, _, 2 * r + L / 9223372036854775808 - d, _, by omega, hout, h, eQ, eQ1, by rw [IntKind.wrap_u64]; omega, eL, hL', ds.2 (by omega)⟩)

set_option maxHeartbeats 2000000 in
theorem div_any (hi lo d : Nat) (hh : hi < d) (hl : lo < 18446744073709551616) (hd : d < 18446744073709551616) (w : World) :
    Calls Try.prog 85 #[.int .u64 hi, .int .u64 lo, .int .u64 d] w fun e w' => e = .returned (.tuple #[.int .u64 (((hi * 18446744073709551616 + lo) / d : Nat) : Int), .int .u64 (((hi * 18446744073709551616 + lo) % d : Nat) : Int), .int .i64 0]) ∧ w' = w := by
  have e01 : bits .or .u64 0 1 = 1 := by decide
  go_enter Try.func85, Try.ntmps85
  go_wp2
  refine wp_scope_jumps 0 (DivJ hi lo d w) (fun a' _ => DivM a') rfl ?_ ?_
  · obtain ⟨hr, hL, hq, hc⟩ := div_pass hi lo d 0 0 hi lo hd (by omega) (by rw [Nat.pow_zero, Nat.mul_one, Nat.mod_eq_of_lt hl]) (div_start hi lo d hl hh)
    rcases hc with ⟨R, Q, L', hr2, hR2, hout, eo, eQ, eL, HL', HS'⟩ | ⟨R, Q, Q1, Rd, L', hr2, hR2, hout, eo, eQ, eq1, eRd, eL, HL', HS'⟩ | ⟨R, Q, Q1, Rd, L', hr2, hout, eo, eQ, eq1, eRd, eL, HL', HS'⟩
    · obtain rfl : Q = 0 := by omega
      clear eQ
      go_wp2
      go_step3
      go_wp2
      go_step3
      exact ⟨rfl, ⟨rfl, 1, 0, R, L', _, _, _, _, _, _, _, _, _, _, _, _, _, _, _, _, _, _, _, _, _, _, _, _, _, _, _, _, _, _, _, _, _, _, rfl, by omega, by omega, by omega, HL'.out, HS'.out⟩⟩
    · obtain rfl : Q = 0 := by omega
      obtain rfl : Q1 = 1 := by have : ((Q1 : Nat) : Int) = 1 := by rw [← eq1]; decide
                                omega
      clear eQ eq1
      go_wp2
      go_step3
      go_wp2
      go_step3
      exact ⟨rfl, ⟨rfl, 1, 1, Rd, L', _, _, _, _, _, _, _, _, _, _, _, _, _, _, _, _, _, _, _, _, _, _, _, _, _, _, _, _, _, _, _, _, _, _, rfl, by omega, by omega, by omega, HL'.out, HS'.out⟩⟩
    · obtain rfl : Q = 0 := by omega
      obtain rfl : Q1 = 1 := by have : ((Q1 : Nat) : Int) = 1 := by rw [← eq1]; decide
                                omega
      clear eQ eq1
      go_wp2
      go_step3
      go_wp2
      go_step3
      exact ⟨rfl, ⟨rfl, 1, 1, Rd, L', _, _, _, _, _, _, _, _, _, _, _, _, _, _, _, _, _, _, _, _, _, _, _, _, _, _, _, _, _, _, _, _, _, _, rfl, by omega, by omega, by omega, HL'.out, HS'.out⟩⟩
  · rintro a' w' ⟨rfl, j, q, r, L, J, u10, u11, u12, u13, u14, u15, u16, u17, u18, u19, u20, u21, u22, u23, u24, u25, u26, u27, u28, u29, u30, u31, u32, u33, u34, u35, u36, u37, u38, u39, u40, u41, u42, rfl, rfl, hj1, hj2, HL, HS⟩
    obtain ⟨hr, hL, hq, hc⟩ := div_pass hi lo d j q r L hd hj2 HL HS
    clear HL HS e01
    by_cases hlast : j = 63
    · subst hlast
      rcases hc with ⟨R, Q, L', hr2, hR2, hout, eo, eQ, eL, HL', HS'⟩ | ⟨R, Q, Q1, Rd, L', hr2, hR2, hout, eo, eQ, eq1, eRd, eL, HL', HS'⟩ | ⟨R, Q, Q1, Rd, L', hr2, hout, eo, eQ, eq1, eRd, eL, HL', HS'⟩
      · go_wp2
        simp only [Exit.jump]
        go_ret3
        obtain ⟨e1, e2⟩ := div_end hi lo d _ _ HS'.out
        exact ⟨ret_iii (by first | (rw [← e1]) | omega) (by first | (rw [← e2]) | omega) rfl, rfl⟩
      · go_wp2
        simp only [Exit.jump]
        go_ret3
        obtain ⟨e1, e2⟩ := div_end hi lo d _ _ HS'.out
        exact ⟨ret_iii (by first | (rw [← e1]) | omega) (by first | (rw [← e2]) | omega) rfl, rfl⟩
      · go_wp2
        simp only [Exit.jump]
        go_ret3
        obtain ⟨e1, e2⟩ := div_end hi lo d _ _ HS'.out
        exact ⟨ret_iii (by first | (rw [← e1]) | omega) (by first | (rw [← e2]) | omega) rfl, rfl⟩
    · rcases hc with ⟨R, Q, L', hr2, hR2, hout, eo, eQ, eL, HL', HS'⟩ | ⟨R, Q, Q1, Rd, L', hr2, hR2, hout, eo, eQ, eq1, eRd, eL, HL', HS'⟩ | ⟨R, Q, Q1, Rd, L', hr2, hout, eo, eQ, eq1, eRd, eL, HL', HS'⟩
      · go_wp2
        go_step3
        exact ⟨rfl, ⟨rfl, j + 1, Q, R, L', _, _, _, _, _, _, _, _, _, _, _, _, _, _, _, _, _, _, _, _, _, _, _, _, _, _, _, _, _, _, _, _, _, _, rfl, by omega, by omega, by omega, HL'.out, HS'.out⟩, by simp [DivM, intOf]; omega⟩
      · go_wp2
        go_step3
        exact ⟨rfl, ⟨rfl, j + 1, Q1, Rd, L', _, _, _, _, _, _, _, _, _, _, _, _, _, _, _, _, _, _, _, _, _, _, _, _, _, _, _, _, _, _, _, _, _, _, rfl, by omega, by omega, by omega, HL'.out, HS'.out⟩, by simp [DivM, intOf]; omega⟩
      · go_wp2
        go_step3
        exact ⟨rfl, ⟨rfl, j + 1, Q1, Rd, L', _, _, _, _, _, _, _, _, _, _, _, _, _, _, _, _, _, _, _, _, _, _, _, _, _, _, _, _, _, _, _, _, _, _, rfl, by omega, by omega, by omega, HL'.out, HS'.out⟩, by simp [DivM, intOf]; omega⟩

end Go.Proofs.Ytjedplbhhohfmaa
