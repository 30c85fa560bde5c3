/-
  What the functions that the statement reaches return: part 2 (Word3, Word4, Word5, Pop, Rlen0, Rlow, Bits1, Wide0, Wide2, Quiet2, Wide5, Wide7, Wide9, Rwide1, Rwide2).
-/
import Derived.ScopeJumps
import Derived.Lib.BitFns
import Derived.Lib.TrailingZeros
import Derived.Deep.WholeRow
import Derived.Below
import Derived.Deep.QuietTactic
import Derived.BigQuiet
import Derived.ChangeKeysEq
import Derived.Deep.RegionWith
import Derived.Deep.RegionLaw
import Derived.Laws.CopyOwn
import Derived.Deep.OwnRows
import Derived.Laws.BytesString
import Derived.Test.YtbmhfcppaajgbaaGreatDoorRf01
namespace Go.Proofs.YtbmhfcppaajgbaaGreatDoor
set_option maxRecDepth 100000
open Go.RowKit WMath

set_option maxHeartbeats 1000000 in
theorem mul64_any (x y : Nat) (hx : x < 18446744073709551616) (hy : y < 18446744073709551616) (w : World) :
    Calls Tryz.prog 333 #[.int .u64 x, .int .u64 y] w fun e w' => e = .returned (.tuple #[.int .u64 ((x * y / 18446744073709551616 : Nat) : Int), .int .u64 ((x * y % 18446744073709551616 : Nat) : Int)]) ∧ w' = w := by
  go_enter Tryz.func333, Tryz.ntmps333
  go_wp2
  go_ret2
  refine ⟨ret_ii ?_ ?_, rfl⟩
  · simp only [IntKind.wrap_u64]
    rw [and_low32 (x : Int) (by omega) (by omega), and_low32 (y : Int) (by omega) (by omega), and_low32 (_ % 18446744073709551616) (Int.emod_nonneg _ (by decide)) (Int.emod_lt_of_pos _ (by decide)), mul64_arith x y (by omega) (by omega) (by omega) (by omega)]
    simp
  · rw [IntKind.wrap_u64]
    simp

theorem mul_any (x y : Nat) (hx : x < 18446744073709551616) (hy : y < 18446744073709551616) (w : World) :
    Calls Tryz.prog 326 #[.int .u64 x, .int .u64 y] w fun e w' => e = .returned (.tuple #[.int .u64 ((x * y / 18446744073709551616 : Nat) : Int), .int .u64 ((x * y % 18446744073709551616 : Nat) : Int)]) ∧ w' = w := by
  go_enter Tryz.func326, Tryz.ntmps326
  go_wp2_with (go_at_call 333; refine (mul64_any _ _ hx hy _).mono ?_; rintro e w' ⟨rfl, rfl⟩)
  go_ret2
  exact ⟨rfl, rfl⟩

/-- What holds at each jump back of Div. -/
def DivJ (hi lo d : Nat) (w : World) (a' : Act) (w' : World) : Prop :=
  w' = w ∧ ∃ (j q r L : Nat) (J : Int) (u10 u11 u12 u13 u14 u15 u16 u17 u18 u19 u20 u21 u22 u23 u24 u25 u26 u27 u28 u29 u30 u31 u32 u33 u34 u35 u36 u37 u38 u39 u40 u41 u42 : Value), a' = { tmps := #[.int .u64 hi, .int .u64 L, .int .u64 d, undef, undef, undef, .int .u64 q, .int .u64 r, .int .i64 0, .int .i64 J, u10, u11, u12, u13, u14, u15, u16, u17, u18, u19, u20, u21, u22, u23, u24, u25, u26, u27, u28, u29, u30, u31, u32, u33, u34, u35, u36, u37, u38, u39, u40, u41, u42, undef, undef], defers := [] } ∧ J = j ∧ 1 ≤ j ∧ j < 64 ∧ L = lo * 2 ^ j % 18446744073709551616 ∧ DivSt hi lo d j q r
def DivM (a' : Act) : Nat := (64 - intOf (a'.tmps.getD 9 undef)).toNat

/-- What one pass reckons: the divisor does not go into what is left; it goes, and twice what is left is a word; it goes, and twice what is left is none. -/
theorem div_pass (hi lo d j q r L : Nat) (hd : d < 18446744073709551616) (hj : j < 64) (HL : L = lo * 2 ^ j % 18446744073709551616) (HS : DivSt hi lo d j q r) :
    r < d ∧ L < 18446744073709551616 ∧ q * 2 + 1 < 18446744073709551616 ∧
    ((∃ R Q L' : Nat, r * 2 < 18446744073709551616 ∧ R < d ∧ ((r : Int) / 9223372036854775808 == 1) = false ∧ bits .or .u64 ((r : Int) * 2) ((L : Int) / 9223372036854775808) = (R : Int) ∧ (q : Int) * 2 = (Q : Int) ∧
        IntKind.u64.wrap ((L : Int) * 2) = (L' : Int) ∧ Hid (L' = lo * 2 ^ (j + 1) % 18446744073709551616) ∧ Hid (DivSt hi lo d (j + 1) Q R)) ∨
     (∃ R Q Q1 Rd L' : Nat, r * 2 < 18446744073709551616 ∧ d ≤ R ∧ ((r : Int) / 9223372036854775808 == 1) = false ∧ bits .or .u64 ((r : Int) * 2) ((L : Int) / 9223372036854775808) = (R : Int) ∧ (q : Int) * 2 = (Q : Int) ∧
        bits .or .u64 (Q : Int) 1 = (Q1 : Int) ∧ IntKind.u64.wrap ((R : Int) - (d : Int)) = (Rd : Int) ∧ IntKind.u64.wrap ((L : Int) * 2) = (L' : Int) ∧ Hid (L' = lo * 2 ^ (j + 1) % 18446744073709551616) ∧ Hid (DivSt hi lo d (j + 1) Q1 Rd)) ∨
     (∃ R Q Q1 Rd L' : Nat, 18446744073709551616 ≤ r * 2 ∧ ((r : Int) / 9223372036854775808 == 1) = true ∧ bits .or .u64 (IntKind.u64.wrap ((r : Int) * 2)) ((L : Int) / 9223372036854775808) = (R : Int) ∧ (q : Int) * 2 = (Q : Int) ∧
        bits .or .u64 (Q : Int) 1 = (Q1 : Int) ∧ IntKind.u64.wrap ((R : Int) - (d : Int)) = (Rd : Int) ∧ IntKind.u64.wrap ((L : Int) * 2) = (L' : Int) ∧ Hid (L' = lo * 2 ^ (j + 1) % 18446744073709551616) ∧ Hid (DivSt hi lo d (j + 1) Q1 Rd))) := by
  have hr := HS.2.1
  have hq := HS.2.2
  have hp := pow_lt_64 j hj
  have hq2 : q < 9223372036854775808 := by
    have : 2 ^ j ≤ 2 ^ 63 := Nat.pow_le_pow_right (by decide) (by omega)
    omega
  have hLl : L < 18446744073709551616 := by omega
  have ht : L / 9223372036854775808 = (lo.testBit (63 - j)).toNat := by rw [HL]; exact top_bit lo j hj
  have ds := div_step hi lo d j q r _ hj ht HS
  have ht2 : L / 9223372036854775808 < 2 := by omega
  have hL' := mul_mod_step lo j L HL
  have eL : IntKind.u64.wrap ((L : Int) * 2) = ((L * 2 % 18446744073709551616 : Nat) : Int) := by rw [IntKind.wrap_u64]; omega
  have eQ : (q : Int) * 2 = ((q * 2 : Nat) : Int) := by omega
  have eQ1 : bits .or .u64 ((q * 2 : Nat) : Int) 1 = ((q * 2 + 1 : Nat) : Int) := or_bit_i (q * 2) 1 (by omega) (by omega) (by omega)
  clear HS HL ht
  refine ⟨hr, hLl, by omega, ?_⟩
  by_cases hM : r * 2 < 18446744073709551616
  · have hout : ((r : Int) / 9223372036854775808 == 1) = false := by
      rw [beq_eq_false_iff_ne]; omega
    have eo : bits .or .u64 ((r : Int) * 2) ((L : Int) / 9223372036854775808) = ((2 * r + L / 9223372036854775808 : Nat) : Int) := by
      have h := or_bit_i (r * 2) (L / 9223372036854775808) (by omega) ht2 (by omega)
      rw [Nat.mul_comm 2 r, ← h]
      congr 1
    by_cases hA : 2 * r + L / 9223372036854775808 < d
    · exact Or.inl ⟨_, _, _, hM, hA, hout, eo, eQ, eL, hL', ds.1 hA⟩
    · exact Or.inr (Or.inl ⟨_, _, _, 2 * r + L / 9223372036854775808 - d, _, hM, by omega, hout, eo, eQ, eQ1, by rw [IntKind.wrap_u64]; omega, eL, hL', ds.2 (by omega)⟩)
  · have hout : ((r : Int) / 9223372036854775808 == 1) = true := by
      rw [beq_iff_eq]; omega
    have h := or_bit_i (r * 2 - 18446744073709551616) (L / 9223372036854775808) (by omega) ht2 (by omega)
    have e1 : IntKind.u64.wrap ((r : Int) * 2) = ((r * 2 - 18446744073709551616 : Nat) : Int) := by rw [IntKind.wrap_u64]; omega
    have e3 : (L : Int) / 9223372036854775808 = ((L / 9223372036854775808 : Nat) : Int) := by omega
    rw [← e1, ← e3] at h
    exact Or.inr (Or.inr ⟨_, _, _, 2 * r + L / 9223372036854775808 - d, _, by omega, hout, h, eQ, eQ1, by rw [IntKind.wrap_u64]; omega, eL, hL', ds.2 (by omega)⟩)

set_option maxHeartbeats 2000000 in
theorem div_any (hi lo d : Nat) (hh : hi < d) (hl : lo < 18446744073709551616) (hd : d < 18446744073709551616) (w : World) :
    Calls Tryz.prog 335 #[.int .u64 hi, .int .u64 lo, .int .u64 d] w fun e w' => e = .returned (.tuple #[.int .u64 (((hi * 18446744073709551616 + lo) / d : Nat) : Int), .int .u64 (((hi * 18446744073709551616 + lo) % d : Nat) : Int), .int .i64 0]) ∧ w' = w := by
  have e01 : bits .or .u64 0 1 = 1 := by decide
  go_enter Tryz.func335, Tryz.ntmps335
  go_wp2
  refine wp_scope_jumps 0 (DivJ hi lo d w) (fun a' _ => DivM a') rfl ?_ ?_
  · obtain ⟨hr, hL, hq, hc⟩ := div_pass hi lo d 0 0 hi lo hd (by omega) (by rw [Nat.pow_zero, Nat.mul_one, Nat.mod_eq_of_lt hl]) (div_start hi lo d hl hh)
    rcases hc with ⟨R, Q, L', hr2, hR2, hout, eo, eQ, eL, HL', HS'⟩ | ⟨R, Q, Q1, Rd, L', hr2, hR2, hout, eo, eQ, eq1, eRd, eL, HL', HS'⟩ | ⟨R, Q, Q1, Rd, L', hr2, hout, eo, eQ, eq1, eRd, eL, HL', HS'⟩
    · obtain rfl : Q = 0 := by omega
      clear eQ
      go_wp2
      go_step3
      go_wp2
      go_step3
      exact ⟨rfl, ⟨rfl, 1, 0, R, L', _, _, _, _, _, _, _, _, _, _, _, _, _, _, _, _, _, _, _, _, _, _, _, _, _, _, _, _, _, _, _, _, _, _, rfl, by omega, by omega, by omega, HL'.out, HS'.out⟩⟩
    · obtain rfl : Q = 0 := by omega
      obtain rfl : Q1 = 1 := by have : ((Q1 : Nat) : Int) = 1 := by rw [← eq1]; decide
                                omega
      clear eQ eq1
      go_wp2
      go_step3
      go_wp2
      go_step3
      exact ⟨rfl, ⟨rfl, 1, 1, Rd, L', _, _, _, _, _, _, _, _, _, _, _, _, _, _, _, _, _, _, _, _, _, _, _, _, _, _, _, _, _, _, _, _, _, _, rfl, by omega, by omega, by omega, HL'.out, HS'.out⟩⟩
    · obtain rfl : Q = 0 := by omega
      obtain rfl : Q1 = 1 := by have : ((Q1 : Nat) : Int) = 1 := by rw [← eq1]; decide
                                omega
      clear eQ eq1
      go_wp2
      go_step3
      go_wp2
      go_step3
      exact ⟨rfl, ⟨rfl, 1, 1, Rd, L', _, _, _, _, _, _, _, _, _, _, _, _, _, _, _, _, _, _, _, _, _, _, _, _, _, _, _, _, _, _, _, _, _, _, rfl, by omega, by omega, by omega, HL'.out, HS'.out⟩⟩
  · rintro a' w' ⟨rfl, j, q, r, L, J, u10, u11, u12, u13, u14, u15, u16, u17, u18, u19, u20, u21, u22, u23, u24, u25, u26, u27, u28, u29, u30, u31, u32, u33, u34, u35, u36, u37, u38, u39, u40, u41, u42, rfl, rfl, hj1, hj2, HL, HS⟩
    obtain ⟨hr, hL, hq, hc⟩ := div_pass hi lo d j q r L hd hj2 HL HS
    clear HL HS e01
    by_cases hlast : j = 63
    · subst hlast
      rcases hc with ⟨R, Q, L', hr2, hR2, hout, eo, eQ, eL, HL', HS'⟩ | ⟨R, Q, Q1, Rd, L', hr2, hR2, hout, eo, eQ, eq1, eRd, eL, HL', HS'⟩ | ⟨R, Q, Q1, Rd, L', hr2, hout, eo, eQ, eq1, eRd, eL, HL', HS'⟩
      · go_wp2
        simp only [Exit.jump]
        go_ret3
        obtain ⟨e1, e2⟩ := div_end hi lo d _ _ HS'.out
        exact ⟨ret_iii (by first | (rw [← e1]) | omega) (by first | (rw [← e2]) | omega) rfl, rfl⟩
      · go_wp2
        simp only [Exit.jump]
        go_ret3
        obtain ⟨e1, e2⟩ := div_end hi lo d _ _ HS'.out
        exact ⟨ret_iii (by first | (rw [← e1]) | omega) (by first | (rw [← e2]) | omega) rfl, rfl⟩
      · go_wp2
        simp only [Exit.jump]
        go_ret3
        obtain ⟨e1, e2⟩ := div_end hi lo d _ _ HS'.out
        exact ⟨ret_iii (by first | (rw [← e1]) | omega) (by first | (rw [← e2]) | omega) rfl, rfl⟩
    · rcases hc with ⟨R, Q, L', hr2, hR2, hout, eo, eQ, eL, HL', HS'⟩ | ⟨R, Q, Q1, Rd, L', hr2, hR2, hout, eo, eQ, eq1, eRd, eL, HL', HS'⟩ | ⟨R, Q, Q1, Rd, L', hr2, hout, eo, eQ, eq1, eRd, eL, HL', HS'⟩
      · go_wp2
        go_step3
        exact ⟨rfl, ⟨rfl, j + 1, Q, R, L', _, _, _, _, _, _, _, _, _, _, _, _, _, _, _, _, _, _, _, _, _, _, _, _, _, _, _, _, _, _, _, _, _, _, rfl, by omega, by omega, by omega, HL'.out, HS'.out⟩, by simp [DivM, intOf]; omega⟩
      · go_wp2
        go_step3
        exact ⟨rfl, ⟨rfl, j + 1, Q1, Rd, L', _, _, _, _, _, _, _, _, _, _, _, _, _, _, _, _, _, _, _, _, _, _, _, _, _, _, _, _, _, _, _, _, _, _, rfl, by omega, by omega, by omega, HL'.out, HS'.out⟩, by simp [DivM, intOf]; omega⟩
      · go_wp2
        go_step3
        exact ⟨rfl, ⟨rfl, j + 1, Q1, Rd, L', _, _, _, _, _, _, _, _, _, _, _, _, _, _, _, _, _, _, _, _, _, _, _, _, _, _, _, _, _, _, _, _, _, _, rfl, by omega, by omega, by omega, HL'.out, HS'.out⟩, by simp [DivM, intOf]; omega⟩

end Go.Proofs.YtbmhfcppaajgbaaGreatDoor
namespace Go.Proofs.YtbmhfcppaajgbaaGreatDoor
set_option maxRecDepth 100000
open Go.RowKit WMath

theorem div_no (hi lo d : Nat) (hh : d ≤ hi) (w : World) :
    Calls Tryz.prog 335 #[.int .u64 hi, .int .u64 lo, .int .u64 d] w fun e w' => e = .returned (.tuple #[.int .u64 0, .int .u64 0, .int .i64 2]) ∧ w' = w := by
  go_enter Tryz.func335, Tryz.ntmps335
  go_wp2
  refine wp_scope_jumps 0 (fun _ _ => False) (fun _ _ => 0) rfl ?_ (fun _ _ h => h.elim)
  go_wp2
  simp only [Exit.jump]
  go_ret3
  exact ⟨rfl, rfl⟩

end Go.Proofs.YtbmhfcppaajgbaaGreatDoor
namespace Go.Proofs.YtbmhfcppaajgbaaGreatDoor
set_option maxRecDepth 100000
open Go.RowKit WMath

theorem fold_len : (⟨(((List.append (List.append [0, 1, 2, 2, 3, 3, 3, 3, 4, 4, 4, 4, 4, 4, 4, 4, 5, 5, 5, 5, 5, 5, 5, 5, 5, 5, 5, 5, 5, 5, 5, 5, 6, 6, 6, 6, 6, 6, 6, 6, 6, 6, 6, 6, 6, 6, 6, 6, 6, 6, 6, 6, 6, 6, 6, 6, 6, 6, 6, 6, 6, 6, 6, 6] [7, 7, 7, 7, 7, 7, 7, 7, 7, 7, 7, 7, 7, 7, 7, 7, 7, 7, 7, 7, 7, 7, 7, 7, 7, 7, 7, 7, 7, 7, 7, 7, 7, 7, 7, 7, 7, 7, 7, 7, 7, 7, 7, 7, 7, 7, 7, 7, 7, 7, 7, 7, 7, 7, 7, 7, 7, 7, 7, 7, 7, 7, 7, 7]) (List.append [8, 8, 8, 8, 8, 8, 8, 8, 8, 8, 8, 8, 8, 8, 8, 8, 8, 8, 8, 8, 8, 8, 8, 8, 8, 8, 8, 8, 8, 8, 8, 8, 8, 8, 8, 8, 8, 8, 8, 8, 8, 8, 8, 8, 8, 8, 8, 8, 8, 8, 8, 8, 8, 8, 8, 8, 8, 8, 8, 8, 8, 8, 8, 8] [8, 8, 8, 8, 8, 8, 8, 8, 8, 8, 8, 8, 8, 8, 8, 8, 8, 8, 8, 8, 8, 8, 8, 8, 8, 8, 8, 8, 8, 8, 8, 8, 8, 8, 8, 8, 8, 8, 8, 8, 8, 8, 8, 8, 8, 8, 8, 8, 8, 8, 8, 8, 8, 8, 8, 8, 8, 8, 8, 8, 8, 8, 8, 8])) : List UInt8).toArray)⟩ : ByteArray) = Lib.len8tab := by decide +kernel

theorem len_fact {P : Program} (w : World) (t : TypeId) (i : Int) (h : P.underlying t = some .string) (h0 : 0 ≤ i) (h1 : i ≤ 255) :
    (Instr.index t (.string Lib.len8tab) (.int .u8 i)).run P w = .ok (.int .u8 (Lib.bitLen i.toNat : Nat)) w := by
  rw [Lib.run_index_len8tab w t .u8 i h h0 h1, Lib.len8_of i h0 h1]

set_option maxHeartbeats 4000000 in
set_option maxRecDepth 100000 in
theorem len64_int (x : Int) (h0 : 0 ≤ x) (h1 : x ≤ 18446744073709551615) (w : World) :
    Calls Tryz.prog 287 #[.int .u64 x] w fun e w' => e = .returned (.int .i64 (Lib.bitLen x.toNat : Nat)) ∧ w' = w := by
  go_enter Tryz.func287, Tryz.ntmps287
  rw [fold_len]
  by_cases c1 : 4294967296 ≤ x
  · by_cases c2 : 65536 ≤ x / 4294967296
    · by_cases c3 : 256 ≤ x / 4294967296 / 65536
      · have hx : ∀ w, (Instr.index 9 (.string Lib.len8tab) (.int .u8 (x / 4294967296 / 65536 / 256))).run Tryz.prog w = .ok (.int .u8 (Lib.bitLen (x / 4294967296 / 65536 / 256).toNat : Nat)) w := fun w => len_fact w 9 (x / 4294967296 / 65536 / 256) Tryz.underlying9 (by omega) (by omega)
        have l := Lib.bitLen_le8' (x / 4294967296 / 65536 / 256) (by omega) (by omega)
        have s := hide (Lib.bitLen_shift56 x.toNat (by omega) (by omega))
        have e := hide (show (x / 4294967296 / 65536 / 256).toNat = x.toNat / 72057594037927936 by omega)
        go_wp2
        go_ret
        exact ⟨ret_int (by have := s.out; have := e.out; rw [s.out, e.out]; omega), rfl⟩
      · have hx : ∀ w, (Instr.index 9 (.string Lib.len8tab) (.int .u8 (x / 4294967296 / 65536))).run Tryz.prog w = .ok (.int .u8 (Lib.bitLen (x / 4294967296 / 65536).toNat : Nat)) w := fun w => len_fact w 9 (x / 4294967296 / 65536) Tryz.underlying9 (by omega) (by omega)
        have l := Lib.bitLen_le8' (x / 4294967296 / 65536) (by omega) (by omega)
        have s := hide (Lib.bitLen_shift48 x.toNat (by omega) (by omega))
        have e := hide (show (x / 4294967296 / 65536).toNat = x.toNat / 281474976710656 by omega)
        go_wp2
        go_ret
        exact ⟨ret_int (by have := s.out; have := e.out; rw [s.out, e.out]; omega), rfl⟩
    · by_cases c3 : 256 ≤ x / 4294967296
      · have hx : ∀ w, (Instr.index 9 (.string Lib.len8tab) (.int .u8 (x / 4294967296 / 256))).run Tryz.prog w = .ok (.int .u8 (Lib.bitLen (x / 4294967296 / 256).toNat : Nat)) w := fun w => len_fact w 9 (x / 4294967296 / 256) Tryz.underlying9 (by omega) (by omega)
        have l := Lib.bitLen_le8' (x / 4294967296 / 256) (by omega) (by omega)
        have s := hide (Lib.bitLen_shift40 x.toNat (by omega) (by omega))
        have e := hide (show (x / 4294967296 / 256).toNat = x.toNat / 1099511627776 by omega)
        go_wp2
        go_ret
        exact ⟨ret_int (by have := s.out; have := e.out; rw [s.out, e.out]; omega), rfl⟩
      · have hx : ∀ w, (Instr.index 9 (.string Lib.len8tab) (.int .u8 (x / 4294967296))).run Tryz.prog w = .ok (.int .u8 (Lib.bitLen (x / 4294967296).toNat : Nat)) w := fun w => len_fact w 9 (x / 4294967296) Tryz.underlying9 (by omega) (by omega)
        have l := Lib.bitLen_le8' (x / 4294967296) (by omega) (by omega)
        have s := hide (Lib.bitLen_shift32 x.toNat (by omega) (by omega))
        have e := hide (show (x / 4294967296).toNat = x.toNat / 4294967296 by omega)
        go_wp2
        go_ret
        exact ⟨ret_int (by have := s.out; have := e.out; rw [s.out, e.out]; omega), rfl⟩
  · by_cases c2 : 65536 ≤ x
    · by_cases c3 : 256 ≤ x / 65536
      · have hx : ∀ w, (Instr.index 9 (.string Lib.len8tab) (.int .u8 (x / 65536 / 256))).run Tryz.prog w = .ok (.int .u8 (Lib.bitLen (x / 65536 / 256).toNat : Nat)) w := fun w => len_fact w 9 (x / 65536 / 256) Tryz.underlying9 (by omega) (by omega)
        have l := Lib.bitLen_le8' (x / 65536 / 256) (by omega) (by omega)
        have s := hide (Lib.bitLen_shift24 x.toNat (by omega) (by omega))
        have e := hide (show (x / 65536 / 256).toNat = x.toNat / 16777216 by omega)
        go_wp2
        go_ret
        exact ⟨ret_int (by have := s.out; have := e.out; rw [s.out, e.out]; omega), rfl⟩
      · have hx : ∀ w, (Instr.index 9 (.string Lib.len8tab) (.int .u8 (x / 65536))).run Tryz.prog w = .ok (.int .u8 (Lib.bitLen (x / 65536).toNat : Nat)) w := fun w => len_fact w 9 (x / 65536) Tryz.underlying9 (by omega) (by omega)
        have l := Lib.bitLen_le8' (x / 65536) (by omega) (by omega)
        have s := hide (Lib.bitLen_shift16 x.toNat (by omega) (by omega))
        have e := hide (show (x / 65536).toNat = x.toNat / 65536 by omega)
        go_wp2
        go_ret
        exact ⟨ret_int (by have := s.out; have := e.out; rw [s.out, e.out]; omega), rfl⟩
    · by_cases c3 : 256 ≤ x
      · have hx : ∀ w, (Instr.index 9 (.string Lib.len8tab) (.int .u8 (x / 256))).run Tryz.prog w = .ok (.int .u8 (Lib.bitLen (x / 256).toNat : Nat)) w := fun w => len_fact w 9 (x / 256) Tryz.underlying9 (by omega) (by omega)
        have l := Lib.bitLen_le8' (x / 256) (by omega) (by omega)
        have s := hide (Lib.bitLen_shift8 x.toNat (by omega) (by omega))
        have e := hide (show (x / 256).toNat = x.toNat / 256 by omega)
        go_wp2
        go_ret
        exact ⟨ret_int (by have := s.out; have := e.out; rw [s.out, e.out]; omega), rfl⟩
      · have hx : ∀ w, (Instr.index 9 (.string Lib.len8tab) (.int .u8 (x))).run Tryz.prog w = .ok (.int .u8 (Lib.bitLen (x).toNat : Nat)) w := fun w => len_fact w 9 (x) Tryz.underlying9 (by omega) (by omega)
        have l := Lib.bitLen_le8' (x) (by omega) (by omega)
        go_wp2
        go_ret
        exact ⟨ret_int (by omega), rfl⟩

theorem len64_any (x : Nat) (hx : x < 18446744073709551616) (w : World) :
    Calls Tryz.prog 287 #[.int .u64 x] w fun e w' => e = .returned (.int .i64 (Lib.bitLen x : Nat)) ∧ w' = w := by
  have h := len64_int (x : Int) (by omega) (by omega) w
  rw [Int.toNat_natCast] at h
  exact h

theorem len_any (x : Nat) (hx : x < 18446744073709551616) (w : World) :
    Calls Tryz.prog 250 #[.int .u64 x] w fun e w' => e = .returned (.int .i64 (Lib.bitLen x : Nat)) ∧ w' = w := by
  go_enter Tryz.func250, Tryz.ntmps250
  go_wp2_with (go_at_call 287; refine (len64_any _ hx _).mono ?_; rintro e w' ⟨rfl, rfl⟩)
  go_ret
  exact ⟨rfl, rfl⟩

end Go.Proofs.YtbmhfcppaajgbaaGreatDoor
namespace Go.Proofs.YtbmhfcppaajgbaaGreatDoor.WMath
set_option maxRecDepth 100000

def mask8 (c : Nat) : Nat → Nat
  | 0 => 0
  | n + 1 => c + 256 * mask8 c n
def fC (n x : Nat) : Nat := (x / 16 + x) &&& mask8 15 n
def sA (b : Nat) : Nat := ((b / 2) &&& 85) + (b &&& 85)
theorem t1 : ∀ b : Fin 256, ∀ c : Fin 2, ((b.val / 2 + 128 * c.val) &&& 85) = (b.val / 2 &&& 85) := by decide +kernel
theorem t2 : ∀ b : Fin 256, ∀ c : Fin 4, ((b.val / 4 + 64 * c.val) &&& 51) = (b.val / 4 &&& 51) := by decide +kernel
end Go.Proofs.YtbmhfcppaajgbaaGreatDoor.WMath
namespace Go.Proofs.YtbmhfcppaajgbaaGreatDoor
set_option maxRecDepth 100000
open Go.RowKit WMath

theorem bitLen_top (x k : Nat) (h1 : 2 ^ k ≤ x) (h2 : x < 2 ^ (k + 1)) (hk : k < 64) : Lib.bitLen x = k + 1 := by
  have hx : x < 18446744073709551616 := by
    have := pow_le_64 (k + 1) (by omega)
    omega
  rcases Nat.eq_zero_or_pos k with rfl | hp
  · have : x = 1 := by simp at h1 h2; omega
    subst this; decide
  · rw [Lib.bitLen_shift k x h1 hx, show x / 2 ^ k = 1 by
      apply Nat.div_eq_of_lt_le
      · omega
      · rw [Nat.pow_succ] at h2; omega]
    have : Lib.bitLen 1 = 1 := by decide
    omega
theorem bitLen_step (x k : Nat) (hk : k < 64) : Lib.bitLen (x % 2 ^ (k + 1)) = if x.testBit k then k + 1 else Lib.bitLen (x % 2 ^ k) := by
  rw [mod_succ]
  have hl : x % 2 ^ k < 2 ^ k := Nat.mod_lt _ (Nat.two_pow_pos k)
  cases x.testBit k
  · simp
  · rw [if_pos rfl, Bool.toNat_true, Nat.mul_one]
    exact bitLen_top _ k (by omega) (by rw [Nat.pow_succ]; omega) hk

theorem rlen_any (x : Nat) (hx : x < 18446744073709551616) (w : World) :
    Calls Tryz.prog 191 #[.int .u64 x] w fun e w' => e = .returned (.int .i64 (Lib.bitLen x : Nat)) ∧ w' = w := by
  have h0 : Hid (0 = Lib.bitLen (x % 2 ^ 0)) := by show 0 = _; rw [Nat.pow_zero, Nat.mod_one]; decide
  go_enter Tryz.func191, Tryz.ntmps191
  go_wp2
  go_loop [3, 4] (fun n i => ∃ k N : Nat, k ≤ 64 ∧ i = .int .i64 k ∧ n = .int .i64 N ∧ Hid (N = Lib.bitLen (x % 2 ^ k))) (fun _ i => 64 - (intOf i).toNat)
  case atStart => exact ⟨0, 0, by omega, rfl, rfl, h0⟩
  case round =>
    obtain ⟨k, N, hk, rfl, rfl, HN⟩ := hrel
    by_cases hlt : k < 64
    · have st := hide (bitLen_step x k hlt)
      cases hb : x.testBit k
      · have H1 : Hid (N = Lib.bitLen (x % 2 ^ (k + 1))) := by show N = _; rw [st.out, hb, HN.out]; rfl
        go_wp2_with (go_at_call 259; refine (bit_any _ _ ?_ ?_ _).mono ?_; assumption; assumption; rintro e w' ⟨rfl, rfl⟩)
        go_round
        case rel => exact ⟨k + 1, N, by omega, by go_num, rfl, H1⟩
        case measure => simp [intOf]; omega
      · have H1 : Hid (k + 1 = Lib.bitLen (x % 2 ^ (k + 1))) := by show k + 1 = _; rw [st.out, hb]; rfl
        go_wp2_with (go_at_call 259; refine (bit_any _ _ ?_ ?_ _).mono ?_; assumption; assumption; rintro e w' ⟨rfl, rfl⟩)
        go_round
        case rel => exact ⟨k + 1, k + 1, by omega, by go_num, by go_num, H1⟩
        case measure => simp [intOf]; omega
    · go_wp2
      go_ret
      obtain rfl : k = 64 := by omega
      exact ⟨ret_int (by rw [HN.out, ← two64, Nat.mod_eq_of_lt hx]), rfl⟩
end Go.Proofs.YtbmhfcppaajgbaaGreatDoor
namespace Go.Proofs.YtbmhfcppaajgbaaGreatDoor
set_option maxRecDepth 100000
open Go.RowKit WMath

/-- t is the place of the lowest bit of x that is 1. -/
def LowIs (x t : Nat) : Prop := t < 64 ∧ x % 2 ^ t = 0 ∧ x.testBit t = true
theorem low_one (x s t : Nat) (h : LowIs x s) (g : LowIs x t) : s = t := by
  have hlt : ∀ a b, LowIs x a → LowIs x b → ¬ a < b := by
    intro a b ha hb hab
    have h1 := Nat.testBit_mod_two_pow x b a
    rw [hb.2.1, ha.2.2] at h1
    simp [hab] at h1
  have h1 := hlt s t h g
  have h2 := hlt t s g h
  omega
theorem rlow_any (x t : Nat) (hx : x < 18446744073709551616) (ht : LowIs x t) (w : World) :
    Calls Tryz.prog 192 #[.int .u64 x] w fun e w' => e = .returned (.int .i64 t) ∧ w' = w := by
  have ht0 := ht.1
  have hT := hide ht
  clear ht
  go_enter Tryz.func192, Tryz.ntmps192
  go_wp2
  go_loop [3] (fun i => ∃ k : Nat, k ≤ t ∧ i = .int .i64 k) (fun i => 64 - (intOf i).toNat)
  case atStart => exact ⟨0, by omega, rfl⟩
  case round =>
    obtain ⟨k, hk, rfl⟩ := hrel
    have hlt : k < 64 := by omega
    by_cases he : k < t
    · have hb : x.testBit k = false := by
        have h1 := Nat.testBit_mod_two_pow x t k
        rw [hT.out.2.1] at h1
        simpa [he] using h1.symm
      go_wp2_with (go_at_call 259; refine (bit_any _ _ ?_ ?_ _).mono ?_; assumption; assumption; rintro e w' ⟨rfl, rfl⟩)
      go_round
      case rel => exact ⟨k + 1, by omega, by go_num⟩
      case measure => simp [intOf]; omega
    · obtain rfl : k = t := by omega
      have hb : x.testBit k = true := hT.out.2.2
      go_wp2_with (go_at_call 259; refine (bit_any _ _ ?_ ?_ _).mono ?_; assumption; assumption; rintro e w' ⟨rfl, rfl⟩)
      go_ret
      exact ⟨rfl, rfl⟩
end Go.Proofs.YtbmhfcppaajgbaaGreatDoor
namespace Go.Proofs.YtbmhfcppaajgbaaGreatDoor
set_option maxRecDepth 100000
open Go.RowKit WMath

theorem ctz_low (x : Nat) (h0 : x ≠ 0) (hx : x < 18446744073709551616) : LowIs x (Lib.ctz 64 x) := by
  have h1 : Lib.ctz 64 x = Lib.ctzFrom 64 x := by unfold Lib.ctz; rw [if_neg h0]
  obtain ⟨m, hm, hlt⟩ := Lib.ctzFrom_spec 64 x (by omega) (by rw [← two64]; exact hx)
  rw [h1]
  generalize Lib.ctzFrom 64 x = t at *
  refine ⟨hlt, ?_, ?_⟩
  · rw [hm, Nat.mul_mod_right]
  · rw [Nat.testBit_eq_decide_div_mod_eq, hm, Nat.mul_div_cancel_left _ (Nat.two_pow_pos t)]
    simp

/-- The table of the library, as it lies in its variable. -/
def TabAt (w : World) : Prop := ∀ i, i < 64 → w.cell? ⟨5, i, none⟩ = some (.int .u8 ((Lib.deBruijn64tab.getD i 0 : Nat) : Int))

theorem db_i (P I : Nat) (hI : I = P * 285870213051353865 % 18446744073709551616 / 288230376151711744) : IntKind.u64.wrap ((P : Int) * 285870213051353865) / 288230376151711744 = (I : Int) := by
  rw [IntKind.wrap_u64, hI]; simp
theorem tz_any (x t : Nat) (hx : x < 18446744073709551616) (ht : LowIs x t) (w : World) (hT : TabAt w) :
    Calls Tryz.prog 311 #[.int .u64 x] w fun e w' => e = .returned (.int .i64 t) ∧ w' = w := by
  have h0 : x ≠ 0 := by
    intro h; subst h
    have := ht.2.2
    rw [Nat.zero_testBit] at this
    cases this
  obtain ⟨hl, _⟩ := Lib.lowest_bit 64 x h0 (by rw [← two64]; exact hx)
  obtain ⟨d1, d2⟩ := Lib.deBruijn64_at t ht.1
  have hc : Lib.ctz 64 x = t := low_one x _ _ (ctz_low x h0 hx) ht
  rw [hc, ← two64] at hl
  have hp := pow_lt_64 t ht.1
  obtain ⟨P, hP⟩ : ∃ P, P = 2 ^ t := ⟨_, rfl⟩
  rw [← hP] at hl d1 d2 hp
  have e1 : bits .and .u64 (x : Int) (IntKind.u64.wrap (-(x : Int))) = (P : Int) := by
    have e : IntKind.u64.wrap (-(x : Int)) = ((18446744073709551616 - x : Nat) : Int) := by rw [IntKind.wrap_u64]; omega
    rw [e, bits_and_u64_nat _ _ hx (by omega), hl]
  obtain ⟨I, hI⟩ : ∃ I, I = P * 285870213051353865 % 18446744073709551616 / 288230376151711744 := ⟨_, rfl⟩
  rw [← hI] at d1 d2
  have e2 : IntKind.u64.wrap ((P : Int) * 285870213051353865) / 288230376151711744 = (I : Int) := db_i P I hI
  have hcell := hT I d1
  rw [d2] at hcell
  have hx0 : ((x : Int) == 0) = false := by rw [beq_eq_false_iff_ne]; omega
  have ht1 := ht.1
  clear hl d2 hc hp hP hI h0 ht hT
  go_enter Tryz.func311, Tryz.ntmps311
  go_wp2
  go_ret
  exact ⟨rfl, rfl⟩
theorem low_any (x t : Nat) (hx : x < 18446744073709551616) (ht : LowIs x t) (w : World) (hT : TabAt w) :
    Calls Tryz.prog 285 #[.int .u64 x] w fun e w' => e = .returned (.int .i64 t) ∧ w' = w := by
  have h := hide (tz_any x t hx ht w hT)
  clear ht hT
  go_enter Tryz.func285, Tryz.ntmps285
  go_wp2_with (go_at_call 311; refine h.out.mono ?_; rintro e w' ⟨rfl, rfl⟩)
  go_ret
  exact ⟨rfl, rfl⟩

end Go.Proofs.YtbmhfcppaajgbaaGreatDoor
namespace Go.Proofs.YtbmhfcppaajgbaaGreatDoor
set_option maxRecDepth 100000
open Go.RowKit WMath

theorem setRow_below (w : World) (b : Nat) (c : Array Value) (o : Obj) (h : b < w.heap.size) : (w.alloc o).setRow b c = (w.setRow b c).alloc o := by
  simp only [World.setRow, World.alloc]
  congr 1
  apply Array.ext_getElem?
  intro i
  rw [Array.getElem?_modify, Array.getElem?_push, Array.getElem?_push, Array.size_modify, Array.getElem?_modify]
  by_cases e : i = w.heap.size
  · subst e
    rw [if_pos rfl, if_pos rfl, if_neg (by omega)]
  · rw [if_neg e, if_neg e]

theorem heap_below (w : World) (b : Nat) (o : Obj) (h : b < w.heap.size) : (w.alloc o).heap[b]? = w.heap[b]? := Below.heap_alloc w o b h
theorem size_al (w : World) (o : Obj) : (w.alloc o).heap.size = w.heap.size + 1 := by
  show (w.heap.push o).size = _
  simp

theorem st_any (w : World) (b x y : Nat) (h : w.heap[b]? = some (.cells (cw 6 y) 74)) :
    (storeCells ⟨b, 0, none⟩ (cw 6 x).toList 0).run Tryz.prog w = .ok () (w.setRow b (cw 6 x)) := by
  have := run_storeCells_from (P := Tryz.prog) b 74 (cw 6 x).toList 0 (cw 6 y) w h (by simp [cw_size]) (fun v hv => (Array.all_eq_true_iff_forall_mem.1 (cw_oneCell 6 x)) v (by simpa using hv))
  simpa using this

theorem ix6 (n k : Nat) (w : World) (h : k < 6) : (Instr.index 74 (.agg (cw 6 n)) (.int .i64 k)).run Tryz.prog w = .ok (.int .u64 (wd n k : Nat)) w := by
  have h2 : (0 : Int) ≤ k ∧ (k : Int) < (6 : Nat) := by omega
  simp [Instr.index, run_underlying Tryz.underlying74, asIntOf, h2, go_sem]
  rw [if_pos h, cw_at 6 n k h]
  rfl

theorem st0 (w : World) (b x y : Nat) (hb : b = w.heap.size) :
    (storeCells ⟨b, 0, none⟩ (cw 6 x).toList 0).run Tryz.prog (w.alloc (.cells (cw 6 y) 74)) = .ok () (w.alloc (.cells (cw 6 x) 74)) := by
  subst hb
  rw [st_any _ _ x y (heap_alloc_last w _), World.setRow_alloc_new]
theorem st1 (w : World) (b x y : Nat) (o : Obj) (hb : b = w.heap.size) :
    (storeCells ⟨b, 0, none⟩ (cw 6 x).toList 0).run Tryz.prog ((w.alloc (.cells (cw 6 y) 74)).alloc o) = .ok () ((w.alloc (.cells (cw 6 x) 74)).alloc o) := by
  subst hb
  have h0 : w.heap.size < (w.alloc (.cells (cw 6 y) 74)).heap.size := by rw [size_al]; omega
  rw [st_any _ _ x y (by rw [heap_below _ _ _ h0]; exact heap_alloc_last w _), setRow_below _ _ _ _ h0, World.setRow_alloc_new]
theorem sc0d (w : World) (b t d : Nat) (c : Array Value) (T : TypeId) (v : Value) (hb : b = w.heap.size) :
    ((w.alloc (.cells c T)).drewN d).setCell ⟨b, t, none⟩ v = (w.alloc (.cells (c.setIfInBounds t v) T)).drewN d := by
  rw [← World.setCell_alloc_at (w := w) c T b t v hb]
  rfl
theorem st_drew (w w2 : World) (b x d : Nat) (h : (storeCells ⟨b, 0, none⟩ (cw 6 x).toList 0).run Tryz.prog w = .ok () w2) (y : Nat) (hy : w.heap[b]? = some (.cells (cw 6 y) 74)) :
    (storeCells ⟨b, 0, none⟩ (cw 6 x).toList 0).run Tryz.prog (w.drewN d) = .ok () (w2.drewN d) := by
  rw [st_any w b x y hy] at h
  rw [st_any (w.drewN d) b x y hy]
  injection h with _ h
  rw [← h]
  rfl
theorem st1d (w : World) (b x y d : Nat) (o : Obj) (hb : b = w.heap.size) :
    (storeCells ⟨b, 0, none⟩ (cw 6 x).toList 0).run Tryz.prog (((w.alloc (.cells (cw 6 y) 74)).alloc o).drewN d) = .ok () (((w.alloc (.cells (cw 6 x) 74)).alloc o).drewN d) := by
  refine st_drew _ _ b x d (st1 w b x y o hb) y ?_
  have h0 : b < (w.alloc (.cells (cw 6 y) 74)).heap.size := by rw [size_al]; omega
  rw [heap_below _ _ _ h0, hb]
  exact heap_alloc_last w _
end Go.Proofs.YtbmhfcppaajgbaaGreatDoor
namespace Go.Proofs.YtbmhfcppaajgbaaGreatDoor
set_option maxRecDepth 100000
open Go.RowKit WMath

def cnt6 (n : Int) : Nat := min n.toNat 384
end Go.Proofs.YtbmhfcppaajgbaaGreatDoor
namespace Go.Proofs.YtbmhfcppaajgbaaGreatDoor
set_option maxRecDepth 100000
open Go.RowKit WMath

/-- All worlds that have grown out of W, as the values of one function. -/
theorem below_fun (W : World) : ∃ F : World → World, (∀ u, Below W.heap.size W (F u)) ∧ (∀ u, Below W.heap.size W u → F u = u) := by
  classical
  refine ⟨fun u => if Below W.heap.size W u then u else W, fun u => ?_, fun u h => if_pos h⟩
  by_cases h : Below W.heap.size W u
  · simp only [h, if_true]
  · simp only [h, if_false]; exact Below.refl _ _

theorem wp_region_below {P : Program} {id : Nat} {Q : Exit → Act → World → Prop} {a : Act} {W : World} {l : List Oper} (F : World → World) (hF : ∀ u, Below W.heap.size W u → F u = u)
    (hm : P.follows .mixedOrders = true) (hB : Region.lexB .any l.toArray = true)
    (h : wpQuiet P l.toArray (fun w' => ∃ u, w' = F u) (fun a' => ∀ w', (∃ u, w' = F u) → Q .normal a' w') l a) : (Code.region id l.toArray true).wp P Q a W :=
  wp_region_quiet (C := fun w' => ∃ u, w' = F u) hm hB ⟨W.drew, (hF _ ((Below.refl _ _).drew)).symm⟩ (by simpa using h)

theorem quietF {P : Program} {f : Nat} {args : Array Value} {v : Value} {W : World} {F : World → World} (h1 : ∀ u, Below W.heap.size W (F u)) (h2 : ∀ u, Below W.heap.size W u → F u = u) {u : World}
    (h : Calls P f args (F u) fun e w' => e = .returned v ∧ Below (F u).heap.size (F u) w') : Calls P f args (F u) fun e w'' => e = .returned v ∧ ∃ u', w'' = F u' :=
  h.mono fun _ w' ⟨he, hm⟩ => ⟨he, w', (h2 _ ((h1 u).trans (hm.mono (h1 u).size))).symm⟩
theorem quietF0 {P : Program} {f : Nat} {args : Array Value} {v : Value} {F : World → World} {u : World}
    (h : Calls P f args (F u) fun e w' => e = .returned v ∧ w' = F u) : Calls P f args (F u) fun e w'' => e = .returned v ∧ ∃ u', w'' = F u' :=
  h.mono fun _ _ ⟨he, hm⟩ => ⟨he, u, hm⟩

theorem heap_of {W w1 : World} (hb : Below W.heap.size W w1) (b : Nat) (c : Array Value) (t : TypeId) (h : W.heap[b]? = some (.cells c t)) : w1.heap[b]? = some (.cells c t) := by
  rw [hb.block b (Array.getElem?_eq_some_iff.1 h).1, h]

theorem row_cell {w : World} {b n : Nat} (h : w.heap[b]? = some (.cells (cw 6 n) 74)) (o : Nat) (ho : o < 6) : w.cell? ⟨b, o, none⟩ = some (.int .u64 (wd n o : Nat)) := by
  rw [cell_of_row w b o _ _ _ h, cw_at 6 n o ho]
theorem setRow_row {w : World} {b : Nat} {c c' : Array Value} {t : TypeId} (h : w.heap[b]? = some (.cells c t)) : (w.setRow b c').heap[b]? = some (.cells c' t) := by
  simp [World.setRow, Array.getElem?_modify, h]
theorem setRow_other {w : World} {b b' : Nat} {c' : Array Value} (h : b ≠ b') : (w.setRow b c').heap[b']? = w.heap[b']? := by
  simp [World.setRow, Array.getElem?_modify, h]
theorem setRow_size {w : World} {b : Nat} {c' : Array Value} : (w.setRow b c').heap.size = w.heap.size := by
  simp [World.setRow]
theorem Below.setRow {B : Nat} {w w1 : World} {b : Nat} {c : Array Value} (h : Below B w w1) (hb : B ≤ b) : Below B w (w1.setRow b c) :=
  ⟨h.os, h.tape, h.output, by rw [setRow_size]; exact h.size, fun k hk => by rw [setRow_other (by omega)]; exact h.block k hk⟩

theorem eqItems6 (d x y : Nat) (w : World) : ∀ is : List Nat, (∀ i ∈ is, i < 6) → (Op.eqItems (d + 1) 23 1 (cw 6 x) (cw 6 y) is).run Tryz.prog w = .ok (is.all fun i => wd x i == wd y i) w
  | [], _ => rfl
  | i :: is, h => by
    have hi := h i (by simp)
    have ih := eqItems6 d x y w is (fun j hj => h j (by simp [hj]))
    have p1 : ∀ z : Nat, (part 23 (cw 6 z) (i * 1)).run Tryz.prog w = .ok (.int .u64 (wd z i : Nat)) w := fun z => by
      simp [part, cw_at 6 z i hi, go_sem]
    have e : ((wd x i : Int) == (wd y i : Int)) = (wd x i == wd y i) := by rw [Bool.eq_iff_iff]; simp only [beq_iff_eq]; omega
    simp only [Op.eqItems, Sem.run_bind, p1, Result.andThen_ok, run_equalIn_int _ d 23 .u64 .u64 _ _ Tryz.underlying23, e]
    cases he : wd x i == wd y i
    · simp [he]
    · simp [he, ih]

theorem eq6 (x y : Nat) (hx : x < Q) (hy : y < Q) (w : World) : (Op.equalIn 10000 74 (.agg (cw 6 x)) (.agg (cw 6 y))).run Tryz.prog w = .ok (decide (x = y)) w := by
  obtain ⟨i, hi⟩ : ∃ i, Tryz.prog.info? 23 = some i := by
    have : (Tryz.prog.info? 23).isSome = true := by kernel_rfl
    exact Option.isSome_iff_exists.1 this
  have hc : Tryz.prog.cellsOf 23 = 1 := by kernel_rfl
  rw [run_equalIn_array w 9999 (cw 6 x) (cw 6 y) Tryz.underlying74 hi, hc, eqItems6 9998 x y w (List.range 6) (fun i h => by simpa using h)]
  congr 1
  rw [Bool.eq_iff_iff, List.all_eq_true, decide_eq_true_iff]
  constructor
  · intro h
    obtain ⟨L, hL, hQ⟩ := Q_of
    rw [hQ] at hx hy
    exact wd_ext hx hy (fun k hk => by simpa using h k (by rw [hL] at hk; simpa using hk))
  · rintro rfl i _
    simp
theorem eqg6 : Tryz.prog.eqGuardType Tryz.prog.depth 74 = false := by kernel_rfl
end Go.Proofs.YtbmhfcppaajgbaaGreatDoor
namespace Go.Proofs.YtbmhfcppaajgbaaGreatDoor
set_option maxRecDepth 100000
open Go.RowKit WMath

theorem add_is (a b : Nat) (c : Bool) (s : Nat) (o : Bool) (ha : a < 18446744073709551616) (hb : b < 18446744073709551616) (hs : (a + b + c.toNat) % 18446744073709551616 = s) (ho : decide (18446744073709551616 ≤ a + b + c.toNat) = o) (w : World) :
    Calls Tryz.prog 258 #[.int .u64 a, .int .u64 b, .bool c] w fun e w' => e = .returned (.tuple #[.int .u64 (s : Nat), .bool o]) ∧ w' = w := by
  subst hs; subst ho; exact add_any a b c ha hb w
theorem mul_is (x y h l : Nat) (hx : x < 18446744073709551616) (hy : y < 18446744073709551616) (hh : x * y / 18446744073709551616 = h) (hl : x * y % 18446744073709551616 = l) (w : World) :
    Calls Tryz.prog 326 #[.int .u64 x, .int .u64 y] w fun e w' => e = .returned (.tuple #[.int .u64 (h : Nat), .int .u64 (l : Nat)]) ∧ w' = w := by
  subst hh; subst hl; exact mul_any x y hx hy w

end Go.Proofs.YtbmhfcppaajgbaaGreatDoor
namespace Go.Proofs.YtbmhfcppaajgbaaGreatDoor
set_option maxRecDepth 100000
open Go.RowKit WMath

/-- Bytes, as cells. -/
def cb (l : List UInt8) : Array Value := (l.map fun b => Value.int .u8 (b.toNat : Int)).toArray

theorem cb_at (l : List UInt8) (k : Nat) (b : UInt8) (h : l[k]? = some b) : (cb l)[k]? = some (.int .u8 (b.toNat : Int)) := by simp [cb, h]
theorem cb_size (l : List UInt8) : (cb l).size = l.length := by simp [cb]
theorem fz {w : World} {b k : Nat} {c : Array Value} {t : TypeId} (h : w.heap[b]? = some (.cells c t)) : w.frozen? ⟨b, k, none⟩ = false := by simp [World.frozen?, h]
theorem setCell_row {w : World} {b k : Nat} {c : Array Value} {t : TypeId} {v : Value} (h : w.heap[b]? = some (.cells c t)) : (w.setCell ⟨b, k, none⟩ v).heap[b]? = some (.cells (c.setIfInBounds k v) t) := by
  simp [World.setCell, Array.getElem?_modify, h]
theorem setCell_other {w : World} {b b' k : Nat} {v : Value} (h : b ≠ b') : (w.setCell ⟨b, k, none⟩ v).heap[b']? = w.heap[b']? := by
  simp [World.setCell, Array.getElem?_modify, h]
theorem fold_bytes : ∀ (l : List UInt8) (a : Array UInt8), ((l.map fun b => (b.toNat : Int)).foldl (fun r n => r.push (UInt8.ofNat n.toNat)) (⟨a⟩ : ByteArray)) = ⟨a ++ l.toArray⟩
  | [], a => by simp
  | x :: l, a => by
    have := fold_bytes l (a.push x)
    simp only [List.map_cons, List.foldl_cons, Int.toNat_natCast, UInt8.ofNat_toNat]
    rw [show (ByteArray.mk a).push x = ⟨a.push x⟩ from rfl, this]
    simp
theorem str_of {w : World} {b c : Nat} {l : List UInt8} {t : TypeId} (h : w.heap[b]? = some (.cells (cb l) t)) :
    (convert 57 9 (.slice (some ⟨b, 0, none⟩) l.length c)).run Tryz.prog w = .ok (.string ⟨l.toArray⟩) w := by
  rw [run_convert_bytes_string w 57 9 5 _ _ _ Tryz.underlying57 Tryz.underlying5 Tryz.underlying9]
  have hl := run_loadCells_list (P := Tryz.prog) w ⟨b, 0, none⟩ (l.map fun x => Value.int .u8 (x.toNat : Int)) (fun j v hv => by
    have hadd : (⟨b, 0, none⟩ : Addr).add j = ⟨b, j, none⟩ := by unfold Addr.add; split <;> simp_all
    rw [hadd, cell_of_row w b j _ _ _ h]
    simpa [cb] using hv)
  rw [List.length_map] at hl
  rw [run_bytesToString (P := Tryz.prog) w ⟨b, 0, none⟩ l.length c (l.map fun x => (x.toNat : Int)) (by rw [hl]; simp), show ByteArray.empty = ⟨#[]⟩ from rfl, fold_bytes]
  simp

end Go.Proofs.YtbmhfcppaajgbaaGreatDoor
namespace Go.Proofs.YtbmhfcppaajgbaaGreatDoor
set_option maxRecDepth 100000
open Go.RowKit WMath

/-- 128 bits, as a value: the upper word and the lower one. -/
def bitsV (b : Nat × Nat) : Value := .agg #[.int .u64 (b.1 : Nat), .int .u64 (b.2 : Nat)]

theorem set0 (x : Nat) (hx : x < 18446744073709551616) : (cw 6 0).setIfInBounds 0 (.int .u64 (x : Nat)) = cw 6 x := by
  rw [cw_set 6 0 0 x (by omega) hx, setw_low 0 0 x (by decide)]; simp
theorem set1 (x y : Nat) (hx : x < 18446744073709551616) (hy : y < 18446744073709551616) : (cw 6 x).setIfInBounds 1 (.int .u64 (y : Nat)) = cw 6 (x + 18446744073709551616 * y) := by
  rw [cw_set 6 x 1 y (by omega) hy, setw_low x 1 y (by rw [show 2 ^ (64 * 1) = 18446744073709551616 by decide]; exact hx)]
theorem bits_ltQ (x y : Nat) (hx : x < 18446744073709551616) (hy : y < 18446744073709551616) : x + 18446744073709551616 * y < Q := by
  obtain ⟨L, hL, hQ⟩ := Q_of
  rw [hQ]
  have h := push_lt x 1 y (by rw [show 2 ^ (64 * 1) = 18446744073709551616 by decide]; exact hx) hy
  have h2 : 2 ^ (64 * (1 + 1)) ≤ 2 ^ (64 * L) := Nat.pow_le_pow_right (by decide) (by omega)
  rw [show 2 ^ (64 * 1) = 18446744073709551616 by decide] at h
  omega

theorem wofbits_any (hi lo : Nat) (hh : hi < 18446744073709551616) (hl : lo < 18446744073709551616) (w : World) :
    Calls Tryz.prog 190 #[.agg #[.int .u64 hi, .int .u64 lo]] w fun e w' => e = .returned (.agg (cw 6 (lo + 18446744073709551616 * hi))) ∧ Below w.heap.size w w' := by
  have hat := cw_at 6
  have hz := cw6z
  have hf := cw6f
  have hs0 := st0
  obtain ⟨v, hv⟩ : ∃ v, v = lo + 18446744073709551616 * hi := ⟨_, rfl⟩
  have h1 := set0 lo hl
  have h2 := set1 lo hi hl hh
  rw [← hv] at h2 ⊢
  have h3 : (cw 6 0).toList.set 0 (.int .u64 lo) = (cw 6 lo).toList := by rw [← h1]; simp
  have h4 : (cw 6 lo).toList.set 1 (.int .u64 hi) = (cw 6 v).toList := by rw [← h2]; simp
  clear hv
  go_enter Tryz.func190, Tryz.ntmps190
  go_wp2
  exact bodyPost_ret (v := .agg (cw 6 v)) (by simp [results, Tryz.results190, go_sem, hat, hf]) rfl ⟨rfl, ((Below.refl _ _).alloc (Nat.le_refl _) _).alloc (by simp <;> omega) _⟩

theorem rwof_any (n : Nat) (hn : n < 18446744073709551616) (w : World) :
    Calls Tryz.prog 125 #[.int .u64 n] w fun e w' => e = .returned (.agg (cw 6 n)) ∧ Below w.heap.size w w' := by
  have hat := cw_at 6
  have hz := cw6z
  have hf := cw6f
  have hs1 := st1
  have h1 := set0 n hn
  go_enter Tryz.func125, Tryz.ntmps125
  go_wp2
  exact bodyPost_ret (v := .agg (cw 6 n)) (by simp [results, Tryz.results125, go_sem, hat, hf]) rfl ⟨rfl, ((Below.refl _ _).alloc (Nat.le_refl _) _).alloc (by simp <;> omega) _⟩

theorem rwofbits_any (hi lo : Nat) (hh : hi < 18446744073709551616) (hl : lo < 18446744073709551616) (w : World) :
    Calls Tryz.prog 119 #[.agg #[.int .u64 hi, .int .u64 lo]] w fun e w' => e = .returned (.agg (cw 6 (lo + 18446744073709551616 * hi))) ∧ Below w.heap.size w w' := by
  have hat := cw_at 6
  have hz := cw6z
  have hf := cw6f
  have hs1 := st1
  obtain ⟨v, hv⟩ : ∃ v, v = lo + 18446744073709551616 * hi := ⟨_, rfl⟩
  have h1 := set0 lo hl
  have h2 := set1 lo hi hl hh
  rw [← hv] at h2 ⊢
  clear hv
  go_enter Tryz.func119, Tryz.ntmps119
  go_wp2
  exact bodyPost_ret (v := .agg (cw 6 v)) (by simp [results, Tryz.results119, go_sem, hat, hf]) rfl ⟨rfl, (((Below.refl _ _).alloc (Nat.le_refl _) _).alloc (by simp <;> omega) _).alloc (by simp <;> omega) _⟩

def cmpv (n m : Nat) : Int := if n = m then 0 else if n < m then -1 else 1

theorem hi_zero (n k : Nat) : ∀ d, (∀ j, k ≤ j → j < k + d → wd n j = 0) → n % 2 ^ (64 * (k + d)) = n % 2 ^ (64 * k)
  | 0, _ => rfl
  | d + 1, h => by
    rw [← Nat.add_assoc, mod_wd, h (k + d) (by omega) (by omega), Nat.mul_zero, Nat.add_zero]
    exact hi_zero n k d (fun j h1 h2 => h j h1 (by omega))
theorem two_words (n : Nat) (hn : n < Q) : (wd n 0 + 18446744073709551616 * wd n 1 = n) ↔ (wd n 2 = 0 ∧ wd n 3 = 0 ∧ wd n 4 = 0 ∧ wd n 5 = 0) := by
  have hp : (2 : Nat) ^ (64 * 1) = 18446744073709551616 := by decide
  have h0 : ∀ a b j, a < 18446744073709551616 → b < 18446744073709551616 → 2 ≤ j → wd (a + 18446744073709551616 * b) j = 0 := fun a b j ha hb hj => by
    have := push_lt a 1 b (by rw [hp]; exact ha) hb
    rw [hp] at this
    exact wd_high this hj
  constructor
  · intro h
    rw [← h]
    exact ⟨h0 _ _ 2 (wd_lt _ _) (wd_lt _ _) (by omega), h0 _ _ 3 (wd_lt _ _) (wd_lt _ _) (by omega), h0 _ _ 4 (wd_lt _ _) (wd_lt _ _) (by omega), h0 _ _ 5 (wd_lt _ _) (wd_lt _ _) (by omega)⟩
  · rintro ⟨h2, h3, h4, h5⟩
    obtain ⟨K, hK⟩ : ∃ K : Nat, K = 1 := ⟨1, rfl⟩
    have e1 : wd n 0 + 18446744073709551616 * wd n 1 = n % 2 ^ (64 * (K + 1)) := by
      rw [mod_wd, hK, hp, show n % 18446744073709551616 = wd n 0 by unfold wd; simp]
    have c := hi_zero n (K + 1) 4 (fun j g1 g2 => by
      have : j = 2 ∨ j = 3 ∨ j = 4 ∨ j = 5 := by omega
      rcases this with rfl | rfl | rfl | rfl <;> assumption)
    rw [wlow n (K + 1 + 4) hn (by omega)] at c
    rw [e1, ← c]

theorem wofbits_is (hi lo v : Nat) (hh : hi < 18446744073709551616) (hl : lo < 18446744073709551616) (hv : lo + 18446744073709551616 * hi = v) (w : World) :
    Calls Tryz.prog 190 #[.agg #[.int .u64 hi, .int .u64 lo]] w fun e w' => e = .returned (.agg (cw 6 v)) ∧ Below w.heap.size w w' := by
  subst hv; exact wofbits_any hi lo hh hl w

theorem wtobits_yes (n : Nat) (hn : n < Q) (hv : wd n 0 + 18446744073709551616 * wd n 1 = n) (w : World) :
    Calls Tryz.prog 188 #[.agg (cw 6 n)] w fun e w' => e = .returned (.tuple #[.agg #[.int .u64 (wd n 1 : Nat), .int .u64 (wd n 0 : Nat)], .bool true]) ∧ Below w.heap.size w w' := by
  have hat := cw_at 6
  have hf := cw6f
  have heq := eq6
  have hg := eqg6
  have HV := box hv
  clear hv
  obtain ⟨W, hW⟩ : ∃ W, W = (w.alloc (.cells (cw 6 n) 74)).alloc (.cells #[.int .u64 (wd n 1 : Nat), .int .u64 (wd n 0 : Nat)] 25) := ⟨_, rfl⟩
  have r0 : W.heap[w.heap.size]? = some (.cells (cw 6 n) 74) := by rw [hW, heap_below _ _ _ (by simp only [size_al]; omega)]; exact heap_alloc_last _ _
  have r1 : W.heap[w.heap.size + 1]? = some (.cells #[.int .u64 (wd n 1 : Nat), .int .u64 (wd n 0 : Nat)] 25) := by
    rw [hW]
    have := heap_alloc_last (w.alloc (.cells (cw 6 n) 74)) (.cells #[.int .u64 (wd n 1 : Nat), .int .u64 (wd n 0 : Nat)] 25)
    simpa only [size_al] using this
  have bW : Below w.heap.size w W := by rw [hW]; exact ((Below.refl _ _).alloc (Nat.le_refl _) _).alloc (by simp only [size_al]; omega) _
  obtain ⟨F, hF1, hF2⟩ := below_fun W
  have hFn : ∀ u o, o < 6 → (F u).cell? ⟨w.heap.size, o, none⟩ = some (.int .u64 (wd n o : Nat)) := fun u => row_cell (heap_of (hF1 u) _ _ _ r0)
  have hF3 : ∀ u, (F u).cell? ⟨w.heap.size + 1, 0, none⟩ = some (.int .u64 (wd n 1 : Nat)) := fun u => by rw [cell_of_row _ _ _ _ _ _ (heap_of (hF1 u) _ _ _ r1)]; rfl
  have hF4 : ∀ u, (F u).cell? ⟨w.heap.size + 1, 1, none⟩ = some (.int .u64 (wd n 0 : Nat)) := fun u => by rw [cell_of_row _ _ _ _ _ _ (heap_of (hF1 u) _ _ _ r1)]; rfl
  go_enter Tryz.func188, Tryz.ntmps188
  go_wp2
  rw [← hW]
  clear hW
  refine wp_region_below F hF2 (by kernel_rfl) (by kernel_rfl) ?_
  repeat quiet_step ((go_at_call 190; exact quietF hF1 hF2 (wofbits_is (wd n 1) (wd n 0) n (wd_lt _ _) (wd_lt _ _) HV.out _)))
  refine wpQuiet_nil ?_
  rintro _ ⟨u, rfl⟩
  have hz3 := hF3 u
  have hz4 := hF4 u
  have hz5 : ∀ o, (F u).frozen? ⟨w.heap.size + 1, o, none⟩ = false := fun o => fz (heap_of (hF1 u) _ _ _ r1)
  go_wp2
  exact bodyPost_ret (v := .tuple #[.agg #[.int .u64 (wd n 1 : Nat), .int .u64 (wd n 0 : Nat)], .bool true]) (by simp [results, Tryz.results188, go_sem, hz3, hz4]) rfl ⟨rfl, ((bW.trans ((hF1 u).mono bW.size)).setCell (by show w.heap.size ≤ w.heap.size + 1; omega) _).setCell (by show w.heap.size ≤ w.heap.size + 1; omega) _⟩
theorem wtobits_no (n : Nat) (hn : n < Q) (hv : ¬ wd n 0 + 18446744073709551616 * wd n 1 = n) (w : World) :
    Calls Tryz.prog 188 #[.agg (cw 6 n)] w fun e w' => e = .returned (.tuple #[.agg #[.int .u64 0, .int .u64 0], .bool false]) ∧ Below w.heap.size w w' := by
  have hat := cw_at 6
  have hf := cw6f
  have heq := eq6
  have hg := eqg6
  obtain ⟨v, hx⟩ : ∃ v, wd n 0 + 18446744073709551616 * wd n 1 = v := ⟨_, rfl⟩
  rw [hx] at hv
  have hvQ : v < Q := by rw [← hx]; exact bits_ltQ _ _ (wd_lt _ _) (wd_lt _ _)
  have HV := box hx
  clear hx
  obtain ⟨W, hW⟩ : ∃ W, W = (w.alloc (.cells (cw 6 n) 74)).alloc (.cells #[.int .u64 (wd n 1 : Nat), .int .u64 (wd n 0 : Nat)] 25) := ⟨_, rfl⟩
  have r0 : W.heap[w.heap.size]? = some (.cells (cw 6 n) 74) := by rw [hW, heap_below _ _ _ (by simp only [size_al]; omega)]; exact heap_alloc_last _ _
  have r1 : W.heap[w.heap.size + 1]? = some (.cells #[.int .u64 (wd n 1 : Nat), .int .u64 (wd n 0 : Nat)] 25) := by
    rw [hW]
    have := heap_alloc_last (w.alloc (.cells (cw 6 n) 74)) (.cells #[.int .u64 (wd n 1 : Nat), .int .u64 (wd n 0 : Nat)] 25)
    simpa only [size_al] using this
  have bW : Below w.heap.size w W := by rw [hW]; exact ((Below.refl _ _).alloc (Nat.le_refl _) _).alloc (by simp only [size_al]; omega) _
  obtain ⟨F, hF1, hF2⟩ := below_fun W
  have hFn : ∀ u o, o < 6 → (F u).cell? ⟨w.heap.size, o, none⟩ = some (.int .u64 (wd n o : Nat)) := fun u => row_cell (heap_of (hF1 u) _ _ _ r0)
  have hF3 : ∀ u, (F u).cell? ⟨w.heap.size + 1, 0, none⟩ = some (.int .u64 (wd n 1 : Nat)) := fun u => by rw [cell_of_row _ _ _ _ _ _ (heap_of (hF1 u) _ _ _ r1)]; rfl
  have hF4 : ∀ u, (F u).cell? ⟨w.heap.size + 1, 1, none⟩ = some (.int .u64 (wd n 0 : Nat)) := fun u => by rw [cell_of_row _ _ _ _ _ _ (heap_of (hF1 u) _ _ _ r1)]; rfl
  go_enter Tryz.func188, Tryz.ntmps188
  go_wp2
  rw [← hW]
  clear hW
  refine wp_region_below F hF2 (by kernel_rfl) (by kernel_rfl) ?_
  repeat quiet_step ((go_at_call 190; exact quietF hF1 hF2 (wofbits_is (wd n 1) (wd n 0) v (wd_lt _ _) (wd_lt _ _) HV.out _)))
  refine wpQuiet_nil ?_
  rintro _ ⟨u, rfl⟩
  have hz3 := hF3 u
  have hz4 := hF4 u
  have hz5 : ∀ o, (F u).frozen? ⟨w.heap.size + 1, o, none⟩ = false := fun o => fz (heap_of (hF1 u) _ _ _ r1)
  go_wp2
  exact bodyPost_ret (v := .tuple #[.agg #[.int .u64 0, .int .u64 0], .bool false]) (by simp [results, Tryz.results188, go_sem, hz3, hz4]) rfl ⟨rfl, ((bW.trans ((hF1 u).mono bW.size)).setCell (by show w.heap.size ≤ w.heap.size + 1; omega) _).setCell (by show w.heap.size ≤ w.heap.size + 1; omega) _⟩

theorem nz_false {x : Nat} (h : x = 0) : (((x : Nat) : Int) != 0) = false := by subst h; rfl
theorem rwtobits_yes (n : Nat) (hn : n < Q) (hv : wd n 0 + 18446744073709551616 * wd n 1 = n) (w : World) :
    Calls Tryz.prog 217 #[.agg (cw 6 n)] w fun e w' => e = .returned (.tuple #[.agg #[.int .u64 (wd n 1 : Nat), .int .u64 (wd n 0 : Nat)], .bool true]) ∧ Below w.heap.size w w' := by
  have hat := cw_at 6
  obtain ⟨z2, z3, z4, z5⟩ := (two_words n hn).1 hv
  have y2 := nz_false z2
  have y3 := nz_false z3
  have y4 := nz_false z4
  have y5 := nz_false z5
  clear z2 z3 z4 z5 hv
  go_enter Tryz.func217, Tryz.ntmps217
  go_wp2
  exact bodyPost_ret (v := .tuple #[.agg #[.int .u64 (wd n 1 : Nat), .int .u64 (wd n 0 : Nat)], .bool true]) (by simp [results, Tryz.results217, go_sem]) rfl ⟨rfl, ((Below.refl _ _).alloc (Nat.le_refl _) _).alloc (by simp <;> omega) _⟩

theorem rwofbits_is (hi lo v : Nat) (hh : hi < 18446744073709551616) (hl : lo < 18446744073709551616) (hv : lo + 18446744073709551616 * hi = v) (w : World) :
    Calls Tryz.prog 119 #[.agg #[.int .u64 hi, .int .u64 lo]] w fun e w' => e = .returned (.agg (cw 6 v)) ∧ Below w.heap.size w w' := by
  subst hv; exact rwofbits_any hi lo hh hl w
end Go.Proofs.YtbmhfcppaajgbaaGreatDoor
namespace Go.Proofs.YtbmhfcppaajgbaaGreatDoor
set_option maxRecDepth 100000
open Go.RowKit WMath

theorem radd_is (a b : Nat) (c : Bool) (s : Nat) (o : Bool) (ha : a < 18446744073709551616) (hb : b < 18446744073709551616) (hs : (a + b + c.toNat) % 18446744073709551616 = s) (ho : decide (18446744073709551616 ≤ a + b + c.toNat) = o) (w : World) :
    Calls Tryz.prog 206 #[.int .u64 a, .int .u64 b, .bool c] w fun e w' => e = .returned (.tuple #[.int .u64 (s : Nat), .bool o]) ∧ w' = w := by
  subst hs; subst ho; exact radd_any a b c ha hb w
theorem add_facts (n m S k : Nat) (C : Bool) (hS : S < 2 ^ (64 * k)) (hE : S + 2 ^ (64 * k) * C.toNat = n % 2 ^ (64 * k) + m % 2 ^ (64 * k)) :
    ∃ (x : Nat) (o : Bool), x < 18446744073709551616 ∧ Box ((wd n k + wd m k + C.toNat) % 18446744073709551616 = x) ∧ Box (decide (18446744073709551616 ≤ wd n k + wd m k + C.toNat) = o) ∧ Box (S + 2 ^ (64 * k) * x < 2 ^ (64 * (k + 1))) ∧ Box (S + 2 ^ (64 * k) * x + 2 ^ (64 * (k + 1)) * o.toNat = n % 2 ^ (64 * (k + 1)) + m % 2 ^ (64 * (k + 1))) :=
  ⟨_, _, Nat.mod_lt _ (by decide), box rfl, box rfl, box (push_lt S k _ hS (Nat.mod_lt _ (by decide))), box (wadd_step n m S k _ C hE rfl)⟩
set_option maxHeartbeats 1000000 in
theorem rwadd_is (n m v : Nat) (o : Bool) (hn : n < Q) (hm : m < Q) (hv : (n + m) % Q = v) (ho : decide (Q ≤ n + m) = o) (w : World) :
    Calls Tryz.prog 126 #[.agg (cw 6 n), .agg (cw 6 m)] w fun e w' => e = .returned (.tuple #[.agg (cw 6 v), .bool o]) ∧ Below w.heap.size w w' := by
  have HV := box hv
  have HW := box ho
  clear hv ho
  have hat := cw_at 6
  have hz := cw6z
  have hf := cw6f
  have hs1 := st1d
  have hsc := sc0d
  go_enter Tryz.func126, Tryz.ntmps126
  go_wp2
  go_loopw [7, 8] (fun ov i wr => ∃ (k S d : Nat) (C : Bool), k ≤ 6 ∧ i = .int .i64 k ∧ ov = .bool C ∧ wr = ((((w.alloc (.cells (cw 6 n) 74)).alloc (.cells (cw 6 m) 74)).alloc (.cells (cw 6 0) 74)).alloc (.cells (cw 6 S) 74)).drewN d ∧ S < 2 ^ (64 * k) ∧ Box (S + 2 ^ (64 * k) * C.toNat = n % 2 ^ (64 * k) + m % 2 ^ (64 * k))) (fun _ i _ => 6 - (intOf i).toNat)
  case atStart => exact ⟨0, 0, 0, false, by omega, rfl, rfl, rfl, by decide, box (by simp [Nat.mod_one])⟩
  case round =>
    obtain ⟨k, S, d, C, hk, rfl, rfl, rfl, hS, HE⟩ := hrel
    by_cases hlt : k < 6
    · have hki : (k : Int) < 6 := by omega
      obtain ⟨x, oo, bx, HX, HO, P1, ST⟩ := add_facts n m S k C hS HE.out
      have hp := cw_push 6 S k x _ hlt hS bx rfl
      go_wp2
      go_quiet ((go_at_call 206; exact (radd_is _ _ _ x oo (wd_lt _ _) (wd_lt _ _) HX.out HO.out _).mono (fun _ _ h => ⟨h.1, _, h.2⟩)))
      go_wp2
      go_roundw
      case rel => exact ⟨k + 1, _, _, oo, by omega, by go_num, rfl, rfl, P1.out, ST⟩
      case measure => simp [intOf]; omega
    · go_wp2
      obtain ⟨e1, e2⟩ := wadd_end n m S k C (by omega) hn hm hS HE.out
      rw [HV.out] at e1
      rw [HW.out] at e2
      subst e1; subst e2
      exact bodyPost_ret (v := .tuple #[.agg (cw 6 S), .bool C]) (by simp [results, Tryz.results126, go_sem, hat, hf]) rfl ⟨rfl, below_drewN ((((Below.refl _ _).alloc (Nat.le_refl _) _).alloc (by simp <;> omega) _).alloc (by simp <;> omega) _ |>.alloc (by simp <;> omega) _) _⟩
end Go.Proofs.YtbmhfcppaajgbaaGreatDoor
namespace Go.Proofs.YtbmhfcppaajgbaaGreatDoor
set_option maxRecDepth 100000
open Go.RowKit WMath

theorem rwcount_any (n : Int) (w : World) :
    Calls Tryz.prog 205 #[.int .i64 n] w fun e w' => e = .returned (.int .i64 (cnt6 n : Nat)) ∧ w' = w := by
  go_enter Tryz.func205, Tryz.ntmps205
  go_wp2
  all_goals go_ret
  all_goals
    refine ⟨ret_int ?_, rfl⟩
    unfold cnt6
    omega

theorem rwbit_any (n i : Nat) (hi : i < 384) (w : World) :
    Calls Tryz.prog 201 #[.agg (cw 6 n), .int .i64 i] w fun e w' => e = .returned (.bool (n.testBit i)) ∧ Below w.heap.size w w' := by
  have hat := cw_at 6
  obtain ⟨q, hq⟩ : ∃ q, q = i / 64 := ⟨_, rfl⟩
  obtain ⟨r, hr⟩ : ∃ r, r = i % 64 := ⟨_, rfl⟩
  have hq1 : (i : Int) / 64 = (q : Int) := by omega
  have hr1 : (i : Int) % 64 = (r : Int) := by omega
  have hq2 : q < 6 := by omega
  have hr2 : r < 64 := by omega
  have hi1 : decide ((i : Int) < 384) = true := by simp; omega
  have hi0 : decide ((0 : Int) ≤ (i : Int)) = true := by simp
  have HB := box (bit_of_wd n i)
  rw [← hq, ← hr] at HB
  clear hq hr
  go_enter Tryz.func201, Tryz.ntmps201
  go_wp2_with (go_at_call 259; refine (bit_any (wd n q) r (wd_lt _ _) hr2 _).mono ?_; rintro e w' ⟨rfl, rfl⟩)
  go_ret
  exact ⟨by rw [HB.out]; rfl, (Below.refl _ _).alloc (Nat.le_refl _) _⟩

set_option maxRecDepth 100000 in
set_option maxHeartbeats 1000000 in
theorem rwleft_is (n v : Nat) (s : Int) (o : Bool) (hn : n < Q) (hv : n * 2 ^ cnt6 s % Q = v) (ho : decide (Q ≤ n * 2 ^ cnt6 s) = o) (w : World) :
    Calls Tryz.prog 124 #[.agg (cw 6 n), .int .i64 s] w fun e w' => e = .returned (.tuple #[.agg (cw 6 v), .bool o]) ∧ Below w.heap.size w w' := by
  obtain ⟨c, hc⟩ : ∃ c, c = cnt6 s := ⟨_, rfl⟩
  have hc6 : c ≤ 384 := by rw [hc]; unfold cnt6; omega
  rw [← hc] at hv ho
  have HV := box hv
  have HW := box ho
  have HC := box hc
  clear hv ho hc
  have hat := cw_at 6
  have hz := cw6z
  have hf := cw6f
  go_enter Tryz.func124, Tryz.ntmps124
  go_wp2_with fail
  refine (rwcount_any _ _).mono ?_
  rw [← HC.out]
  rintro e w' ⟨rfl, rfl⟩
  go_wp2
  go_loopw [7, 8] (fun lv iv wr => ∃ (i B : Nat) (l : Bool), i ≤ 384 ∧ iv = .int .i64 i ∧ lv = .bool l ∧ wr.heap[w.heap.size]? = some (.cells (cw 6 n) 74) ∧ wr.heap[w.heap.size + 1]? = some (.cells (cw 6 0) 74) ∧ wr.heap[w.heap.size + 1 + 1]? = some (.cells (cw 6 B) 74) ∧ Below w.heap.size w wr ∧ Box (B = (n % 2 ^ i) * 2 ^ c % Q) ∧ Box (l = decide (Q ≤ (n % 2 ^ i) * 2 ^ c))) (fun _ i _ => 384 - (intOf i).toNat)
  case atStart =>
    refine ⟨0, 0, false, by omega, rfl, rfl, ?_, ?_, ?_, ?_, box (by simp [Nat.mod_one]), box ?_⟩
    · rw [heap_below _ _ _ (by simp only [size_al]; omega), heap_below _ _ _ (by simp only [size_al]; omega)]
      exact heap_alloc_last _ _
    · rw [heap_below _ _ _ (by simp only [size_al]; omega)]
      have := heap_alloc_last (w.alloc (.cells (cw 6 n) 74)) (.cells (cw 6 0) 74)
      simpa only [size_al] using this
    · have := heap_alloc_last ((w.alloc (.cells (cw 6 n) 74)).alloc (.cells (cw 6 0) 74)) (.cells (cw 6 0) 74)
      simpa only [size_al] using this
    · exact (((Below.refl _ _).alloc (Nat.le_refl _) _).alloc (by simp only [size_al]; omega) _).alloc (by simp only [size_al]; omega) _
    · have := Q_pos
      symm
      rw [decide_eq_false_iff_not]
      simp [Nat.mod_one]
      omega
  case round =>
    obtain ⟨i, B, l, hi, rfl, rfl, r0, r1, r2, hbw, HB, HL⟩ := hrel
    by_cases hlt : i < 384
    · have c0 := row_cell r0
      go_wp2_with fail
      refine (rwbit_any n i hlt _).mono ?_
      cases hbit : n.testBit i
      · rintro e w2 ⟨rfl, hb2⟩
        have HB0 := box (left_bit0 n i hbit)
        go_wp2
        go_roundw
        case rel => exact ⟨i + 1, B, l, by omega, by go_num, rfl, heap_of hb2 _ _ _ r0, heap_of hb2 _ _ _ r1, heap_of hb2 _ _ _ r2, hbw.trans (hb2.mono hbw.size), box (by rw [HB0.out]; exact HB.out), box (by rw [HB0.out]; exact HL.out)⟩
        case measure => simp [intOf] <;> omega
      · rintro e w2 ⟨rfl, hb2⟩
        have q0 := heap_of hb2 _ _ _ r0
        have q1 := heap_of hb2 _ _ _ r1
        have q2 := heap_of hb2 _ _ _ r2
        have bw2 := hbw.trans (hb2.mono hbw.size)
        have sz : w.heap.size + 1 + 1 < w2.heap.size := (Array.getElem?_eq_some_iff.1 q2).1
        clear hb2 r0 r1 r2 hbw c0
        by_cases hin : i + c < 384
        · obtain ⟨t, ht⟩ : ∃ t, t = i + c := ⟨i + c, by omega⟩
          obtain ⟨q, hq⟩ : ∃ q, q = t / 64 := ⟨_, rfl⟩
          obtain ⟨r, hr⟩ : ∃ r, r = t % 64 := ⟨_, rfl⟩
          have t1 : (i : Int) + (c : Int) = (t : Int) := by omega
          have t2 : (t : Int) / 64 = (q : Int) := by omega
          have t3 : (t : Int) % 64 = (r : Int) := by omega
          have t4 : q < 6 := by omega
          have t5 : r < 64 := by omega
          have t6 : t < 384 := by omega
          have ST := box (left_in n i c t q r B hbit ht (by omega) (by omega) HB.out)
          obtain ⟨x, hx⟩ : ∃ x, x = 2 ^ r := ⟨_, rfl⟩
          have x1 : x < 18446744073709551616 := by rw [hx]; exact v_word r t5
          have x2 : IntKind.u64.wrap ((2 : Int) ^ r) = (x : Int) := by rw [pow_cast, wrap_nat _ (v_word r t5), hx]
          have x3 := bor B q x x1
          have HX := box hx
          have C2 := row_cell q2 q t4
          have F2 := fz (k := q) q2
          have HT := box ht
          clear hx ht hq hr
          go_wp2
          go_roundw
          case rel => exact ⟨i + 1, B ||| x * 2 ^ (64 * q), l, by omega, by go_num, rfl, by rw [setCell_other (by omega)]; exact q0, by rw [setCell_other (by omega)]; exact q1, by rw [setCell_row q2, cw_or 6 B q x _ t4 x1 rfl], bw2.setCell (by show w.heap.size ≤ w.heap.size + 1 + 1; omega) _, box (by rw [ST.out.1, HX.out]), box (by rw [HL.out]; rw [decide_eq_false ST.out.2.1, decide_eq_false ST.out.2.2])⟩
          case measure => simp [intOf] <;> omega
        · have ST := box (left_out n i c (i + c) B hbit rfl (by omega) HB.out)
          go_wp2
          go_roundw
          case rel => exact ⟨i + 1, B, true, by omega, by go_num, rfl, q0, q1, q2, bw2, box ST.out.1.symm, box (by rw [decide_eq_true ST.out.2])⟩
          case measure => simp [intOf] <;> omega
    · have c2 := row_cell r2
      have hs : (storeCells ⟨w.heap.size + 1, 0, none⟩ (cw 6 B).toList 0).run Tryz.prog wr = .ok () (wr.setRow (w.heap.size + 1) (cw 6 B)) := st_any wr _ B 0 r1
      have e1 := HB.out
      have e2 := HL.out
      rw [mod384 n i hn (by omega)] at e1 e2
      rw [HV.out] at e1
      rw [HW.out] at e2
      subst e1
      subst e2
      have z1 : (wr.setRow (w.heap.size + 1) (cw 6 B)).heap[w.heap.size + 1]? = some (.cells (cw 6 B) 74) := setRow_row r1
      have c3 := row_cell z1
      have bz : Below w.heap.size w (wr.setRow (w.heap.size + 1) (cw 6 B)) := Below.setRow hbw (by omega)
      go_wp2
      exact bodyPost_ret (v := .tuple #[.agg (cw 6 B), .bool l]) (by simp [results, Tryz.results124, go_sem, c3, hf]) rfl ⟨rfl, bz⟩

set_option maxRecDepth 100000 in
set_option maxHeartbeats 1000000 in
theorem rwright_is (n v : Nat) (s : Int) (o : Bool) (hn : n < Q) (hv : n / 2 ^ cnt6 s = v) (ho : decide (n % 2 ^ cnt6 s ≠ 0) = o) (w : World) :
    Calls Tryz.prog 204 #[.agg (cw 6 n), .int .i64 s] w fun e w' => e = .returned (.tuple #[.agg (cw 6 v), .bool o]) ∧ Below w.heap.size w w' := by
  obtain ⟨c, hc⟩ : ∃ c, c = cnt6 s := ⟨_, rfl⟩
  have hc6 : c ≤ 384 := by rw [hc]; unfold cnt6; omega
  rw [← hc] at hv ho
  have HV := box hv
  have HW := box ho
  have HC := box hc
  clear hv ho hc
  have hat := cw_at 6
  have hz := cw6z
  have hf := cw6f
  go_enter Tryz.func204, Tryz.ntmps204
  go_wp2_with fail
  refine (rwcount_any _ _).mono ?_
  rw [← HC.out]
  rintro e w' ⟨rfl, rfl⟩
  go_wp2
  go_loopw [7, 8] (fun lv iv wr => ∃ (i B : Nat) (l : Bool), i ≤ 384 ∧ iv = .int .i64 i ∧ lv = .bool l ∧ wr.heap[w.heap.size]? = some (.cells (cw 6 n) 74) ∧ wr.heap[w.heap.size + 1]? = some (.cells (cw 6 0) 74) ∧ wr.heap[w.heap.size + 1 + 1]? = some (.cells (cw 6 B) 74) ∧ Below w.heap.size w wr ∧ Box (B = (n % 2 ^ i) / 2 ^ c) ∧ Box (l = decide ((n % 2 ^ i) % 2 ^ c ≠ 0))) (fun _ i _ => 384 - (intOf i).toNat)
  case atStart =>
    refine ⟨0, 0, false, by omega, rfl, rfl, ?_, ?_, ?_, ?_, box (by simp [Nat.mod_one]), box ?_⟩
    · rw [heap_below _ _ _ (by simp only [size_al]; omega), heap_below _ _ _ (by simp only [size_al]; omega)]
      exact heap_alloc_last _ _
    · rw [heap_below _ _ _ (by simp only [size_al]; omega)]
      have := heap_alloc_last (w.alloc (.cells (cw 6 n) 74)) (.cells (cw 6 0) 74)
      simpa only [size_al] using this
    · have := heap_alloc_last ((w.alloc (.cells (cw 6 n) 74)).alloc (.cells (cw 6 0) 74)) (.cells (cw 6 0) 74)
      simpa only [size_al] using this
    · exact (((Below.refl _ _).alloc (Nat.le_refl _) _).alloc (by simp only [size_al]; omega) _).alloc (by simp only [size_al]; omega) _
    · have := Q_pos
      symm
      rw [decide_eq_false_iff_not]
      simp [Nat.mod_one]
  case round =>
    obtain ⟨i, B, l, hi, rfl, rfl, r0, r1, r2, hbw, HB, HL⟩ := hrel
    by_cases hlt : i < 384
    · have c0 := row_cell r0
      go_wp2_with fail
      refine (rwbit_any n i hlt _).mono ?_
      cases hbit : n.testBit i
      · rintro e w2 ⟨rfl, hb2⟩
        have HB0 := box (left_bit0 n i hbit)
        go_wp2
        go_roundw
        case rel => exact ⟨i + 1, B, l, by omega, by go_num, rfl, heap_of hb2 _ _ _ r0, heap_of hb2 _ _ _ r1, heap_of hb2 _ _ _ r2, hbw.trans (hb2.mono hbw.size), box (by rw [HB0.out]; exact HB.out), box (by rw [HB0.out]; exact HL.out)⟩
        case measure => simp [intOf] <;> omega
      · rintro e w2 ⟨rfl, hb2⟩
        have q0 := heap_of hb2 _ _ _ r0
        have q1 := heap_of hb2 _ _ _ r1
        have q2 := heap_of hb2 _ _ _ r2
        have bw2 := hbw.trans (hb2.mono hbw.size)
        have sz : w.heap.size + 1 + 1 < w2.heap.size := (Array.getElem?_eq_some_iff.1 q2).1
        clear hb2 r0 r1 r2 hbw c0
        by_cases hin : c ≤ i
        · obtain ⟨t, ht⟩ : ∃ t, i = t + c := ⟨i - c, by omega⟩
          obtain ⟨q, hq⟩ : ∃ q, q = t / 64 := ⟨_, rfl⟩
          obtain ⟨r, hr⟩ : ∃ r, r = t % 64 := ⟨_, rfl⟩
          have t1 : (i : Int) - (c : Int) = (t : Int) := by omega
          have t2 : (t : Int) / 64 = (q : Int) := by omega
          have t3 : (t : Int) % 64 = (r : Int) := by omega
          have t4 : q < 6 := by omega
          have t5 : r < 64 := by omega
          have ST := box (right_in n i c t q r B hbit ht (by omega) HB.out)
          obtain ⟨x, hx⟩ : ∃ x, x = 2 ^ r := ⟨_, rfl⟩
          have x1 : x < 18446744073709551616 := by rw [hx]; exact v_word r t5
          have x2 : IntKind.u64.wrap ((2 : Int) ^ r) = (x : Int) := by rw [pow_cast, wrap_nat _ (v_word r t5), hx]
          have x3 := bor B q x x1
          have HX := box hx
          have C2 := row_cell q2 q t4
          have F2 := fz (k := q) q2
          have HT := box ht
          clear hx ht hq hr
          go_wp2
          go_roundw
          case rel => exact ⟨i + 1, B ||| x * 2 ^ (64 * q), l, by omega, by go_num, rfl, by rw [setCell_other (by omega)]; exact q0, by rw [setCell_other (by omega)]; exact q1, by rw [setCell_row q2, cw_or 6 B q x _ t4 x1 rfl], bw2.setCell (by show w.heap.size ≤ w.heap.size + 1 + 1; omega) _, box (by rw [ST.out.1, HX.out]), box (by rw [HL.out]; rw [ST.out.2])⟩
          case measure => simp [intOf] <;> omega
        · have ST := box (right_out n i c B hbit (by omega) HB.out)
          go_wp2
          go_roundw
          case rel => exact ⟨i + 1, B, true, by omega, by go_num, rfl, q0, q1, q2, bw2, box ST.out.1.symm, box (by rw [decide_eq_true ST.out.2])⟩
          case measure => simp [intOf] <;> omega
    · have c2 := row_cell r2
      have hs : (storeCells ⟨w.heap.size + 1, 0, none⟩ (cw 6 B).toList 0).run Tryz.prog wr = .ok () (wr.setRow (w.heap.size + 1) (cw 6 B)) := st_any wr _ B 0 r1
      have e1 := HB.out
      have e2 := HL.out
      rw [mod384 n i hn (by omega)] at e1 e2
      rw [HV.out] at e1
      rw [HW.out] at e2
      subst e1
      subst e2
      have z1 : (wr.setRow (w.heap.size + 1) (cw 6 B)).heap[w.heap.size + 1]? = some (.cells (cw 6 B) 74) := setRow_row r1
      have c3 := row_cell z1
      have bz : Below w.heap.size w (wr.setRow (w.heap.size + 1) (cw 6 B)) := Below.setRow hbw (by omega)
      go_wp2
      exact bodyPost_ret (v := .tuple #[.agg (cw 6 B), .bool l]) (by simp [results, Tryz.results204, go_sem, c3, hf]) rfl ⟨rfl, bz⟩
end Go.Proofs.YtbmhfcppaajgbaaGreatDoor
