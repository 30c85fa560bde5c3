/-
  What the functions that the statement reaches return: part 2 (Word3, Word4, Word5, Pop, Rlen0, Rlow, Bits1, Wide0, Wide1, Wide2, Wide3, Quiet2, Wide4, Wide5, Wide6, Wide7, Wide8).
-/
import Derived.ScopeJumps
import Derived.Lib.BitFns
import Derived.Lib.TrailingZeros
import Derived.Deep.WholeRow
import Derived.Below
import Derived.Deep.RegionWith
import Derived.Deep.QuietTactic
import Derived.BigQuiet
import Derived.ChangeKeysEq
import Derived.Deep.RegionLaw
import Derived.Laws.CopyOwn
import Derived.Deep.OwnRows
import Derived.Laws.BytesString
import Derived.Test.YtfmmeifipbpbmaaGreatDoorOb01
namespace Go.Proofs.YtfmmeifipbpbmaaGreatDoor
set_option maxRecDepth 100000
open Go.RowKit WMath

set_option maxHeartbeats 1000000 in
theorem mul64_any (x y : Nat) (hx : x < 18446744073709551616) (hy : y < 18446744073709551616) (w : World) :
    Calls Tryz.prog 343 #[.int .u64 x, .int .u64 y] w fun e w' => e = .returned (.tuple #[.int .u64 ((x * y / 18446744073709551616 : Nat) : Int), .int .u64 ((x * y % 18446744073709551616 : Nat) : Int)]) ∧ w' = w := by
  go_enter Tryz.func343, Tryz.ntmps343
  go_wp2
  go_ret2
  refine ⟨ret_ii ?_ ?_, rfl⟩
  · simp only [IntKind.wrap_u64]
    rw [and_low32 (x : Int) (by omega) (by omega), and_low32 (y : Int) (by omega) (by omega), and_low32 (_ % 18446744073709551616) (Int.emod_nonneg _ (by decide)) (Int.emod_lt_of_pos _ (by decide)), mul64_arith x y (by omega) (by omega) (by omega) (by omega)]
    simp
  · rw [IntKind.wrap_u64]
    simp

theorem mul_any (x y : Nat) (hx : x < 18446744073709551616) (hy : y < 18446744073709551616) (w : World) :
    Calls Tryz.prog 336 #[.int .u64 x, .int .u64 y] w fun e w' => e = .returned (.tuple #[.int .u64 ((x * y / 18446744073709551616 : Nat) : Int), .int .u64 ((x * y % 18446744073709551616 : Nat) : Int)]) ∧ w' = w := by
  go_enter Tryz.func336, Tryz.ntmps336
  go_wp2_with (go_at_call 343; refine (mul64_any _ _ hx hy _).mono ?_; rintro e w' ⟨rfl, rfl⟩)
  go_ret2
  exact ⟨rfl, rfl⟩

/-- What holds at each jump back of Div. -/
def DivJ (hi lo d : Nat) (w : World) (a' : Act) (w' : World) : Prop :=
  w' = w ∧ ∃ (j q r L : Nat) (J : Int) (u10 u11 u12 u13 u14 u15 u16 u17 u18 u19 u20 u21 u22 u23 u24 u25 u26 u27 u28 u29 u30 u31 u32 u33 u34 u35 u36 u37 u38 u39 u40 u41 u42 : Value), a' = { tmps := #[.int .u64 hi, .int .u64 L, .int .u64 d, undef, undef, undef, .int .u64 q, .int .u64 r, .int .i64 0, .int .i64 J, u10, u11, u12, u13, u14, u15, u16, u17, u18, u19, u20, u21, u22, u23, u24, u25, u26, u27, u28, u29, u30, u31, u32, u33, u34, u35, u36, u37, u38, u39, u40, u41, u42, undef, undef], defers := [] } ∧ J = j ∧ 1 ≤ j ∧ j < 64 ∧ L = lo * 2 ^ j % 18446744073709551616 ∧ DivSt hi lo d j q r
def DivM (a' : Act) : Nat := (64 - intOf (a'.tmps.getD 9 undef)).toNat

/-- What one pass reckons: the divisor does not go into what is left; it goes, and twice what is left is a word; it goes, and twice what is left is none. -/
theorem div_pass (hi lo d j q r L : Nat) (hd : d < 18446744073709551616) (hj : j < 64) (HL : L = lo * 2 ^ j % 18446744073709551616) (HS : DivSt hi lo d j q r) :
    r < d ∧ L < 18446744073709551616 ∧ q * 2 + 1 < 18446744073709551616 ∧
    ((∃ R Q L' : Nat, r * 2 < 18446744073709551616 ∧ R < d ∧ ((r : Int) / 9223372036854775808 == 1) = false ∧ bits .or .u64 ((r : Int) * 2) ((L : Int) / 9223372036854775808) = (R : Int) ∧ (q : Int) * 2 = (Q : Int) ∧
        IntKind.u64.wrap ((L : Int) * 2) = (L' : Int) ∧ Hid (L' = lo * 2 ^ (j + 1) % 18446744073709551616) ∧ Hid (DivSt hi lo d (j + 1) Q R)) ∨
     (∃ R Q Q1 Rd L' : Nat, r * 2 < 18446744073709551616 ∧ d ≤ R ∧ ((r : Int) / 9223372036854775808 == 1) = false ∧ bits .or .u64 ((r : Int) * 2) ((L : Int) / 9223372036854775808) = (R : Int) ∧ (q : Int) * 2 = (Q : Int) ∧
        bits .or .u64 (Q : Int) 1 = (Q1 : Int) ∧ IntKind.u64.wrap ((R : Int) - (d : Int)) = (Rd : Int) ∧ IntKind.u64.wrap ((L : Int) * 2) = (L' : Int) ∧ Hid (L' = lo * 2 ^ (j + 1) % 18446744073709551616) ∧ Hid (DivSt hi lo d (j + 1) Q1 Rd)) ∨
     (∃ R Q Q1 Rd L' : Nat, 18446744073709551616 ≤ r * 2 ∧ ((r : Int) / 9223372036854775808 == 1) = true ∧ bits .or .u64 (IntKind.u64.wrap ((r : Int) * 2)) ((L : Int) / 9223372036854775808) = (R : Int) ∧ (q : Int) * 2 = (Q : Int) ∧
        bits .or .u64 (Q : Int) 1 = (Q1 : Int) ∧ IntKind.u64.wrap ((R : Int) - (d : Int)) = (Rd : Int) ∧ IntKind.u64.wrap ((L : Int) * 2) = (L' : Int) ∧ Hid (L' = lo * 2 ^ (j + 1) % 18446744073709551616) ∧ Hid (DivSt hi lo d (j + 1) Q1 Rd))) := by
  have hr := HS.2.1
  have hq := HS.2.2
  have hp := pow_lt_64 j hj
  have hq2 : q < 9223372036854775808 := by
    have : 2 ^ j ≤ 2 ^ 63 := Nat.pow_le_pow_right (by decide) (by omega)
    omega
  have hLl : L < 18446744073709551616 := by omega
  have ht : L / 9223372036854775808 = (lo.testBit (63 - j)).toNat := by rw [HL]; exact top_bit lo j hj
  have ds := div_step hi lo d j q r _ hj ht HS
  have ht2 : L / 9223372036854775808 < 2 := by omega
  have hL' := mul_mod_step lo j L HL
  have eL : IntKind.u64.wrap ((L : Int) * 2) = ((L * 2 % 18446744073709551616 : Nat) : Int) := by rw [IntKind.wrap_u64]; omega
  have eQ : (q : Int) * 2 = ((q * 2 : Nat) : Int) := by omega
  have eQ1 : bits .or .u64 ((q * 2 : Nat) : Int) 1 = ((q * 2 + 1 : Nat) : Int) := or_bit_i (q * 2) 1 (by omega) (by omega) (by omega)
  clear HS HL ht
  refine ⟨hr, hLl, by omega, ?_⟩
  by_cases hM : r * 2 < 18446744073709551616
  · have hout : ((r : Int) / 9223372036854775808 == 1) = false := by
      rw [beq_eq_false_iff_ne]; omega
    have eo : bits .or .u64 ((r : Int) * 2) ((L : Int) / 9223372036854775808) = ((2 * r + L / 9223372036854775808 : Nat) : Int) := by
      have h := or_bit_i (r * 2) (L / 9223372036854775808) (by omega) ht2 (by omega)
      rw [Nat.mul_comm 2 r, ← h]
      congr 1
    by_cases hA : 2 * r + L / 9223372036854775808 < d
    · exact Or.inl ⟨_, _, _, hM, hA, hout, eo, eQ, eL, hL', ds.1 hA⟩
    · exact Or.inr (Or.inl ⟨_, _, _, 2 * r + L / 9223372036854775808 - d, _, hM, by omega, hout, eo, eQ, eQ1, by rw [IntKind.wrap_u64]; omega, eL, hL', ds.2 (by omega)⟩)
  · have hout : ((r : Int) / 9223372036854775808 == 1) = true := by
      rw [beq_iff_eq]; omega
    have h := or_bit_i (r * 2 - 18446744073709551616) (L / 9223372036854775808) (by omega) ht2 (by omega)
    have e1 : IntKind.u64.wrap ((r : Int) * 2) = ((r * 2 - 18446744073709551616 : Nat) : Int) := by rw [IntKind.wrap_u64]; omega
    have e3 : (L : Int) / 9223372036854775808 = ((L / 9223372036854775808 : Nat) : Int) := by omega
    rw [← e1, ← e3] at h
    exact Or.inr (Or.inr ⟨_, _, _, 2 * r + L / 9223372036854775808 - d, _, by omega, hout, h, eQ, eQ1, by rw [IntKind.wrap_u64]; omega, eL, hL', ds.2 (by omega)⟩)

set_option maxHeartbeats 2000000 in
theorem div_any (hi lo d : Nat) (hh : hi < d) (hl : lo < 18446744073709551616) (hd : d < 18446744073709551616) (w : World) :
    Calls Tryz.prog 346 #[.int .u64 hi, .int .u64 lo, .int .u64 d] w fun e w' => e = .returned (.tuple #[.int .u64 (((hi * 18446744073709551616 + lo) / d : Nat) : Int), .int .u64 (((hi * 18446744073709551616 + lo) % d : Nat) : Int), .int .i64 0]) ∧ w' = w := by
  have e01 : bits .or .u64 0 1 = 1 := by decide
  go_enter Tryz.func346, Tryz.ntmps346
  go_wp2
  refine wp_scope_jumps 0 (DivJ hi lo d w) (fun a' _ => DivM a') rfl ?_ ?_
  · obtain ⟨hr, hL, hq, hc⟩ := div_pass hi lo d 0 0 hi lo hd (by omega) (by rw [Nat.pow_zero, Nat.mul_one, Nat.mod_eq_of_lt hl]) (div_start hi lo d hl hh)
    rcases hc with ⟨R, Q, L', hr2, hR2, hout, eo, eQ, eL, HL', HS'⟩ | ⟨R, Q, Q1, Rd, L', hr2, hR2, hout, eo, eQ, eq1, eRd, eL, HL', HS'⟩ | ⟨R, Q, Q1, Rd, L', hr2, hout, eo, eQ, eq1, eRd, eL, HL', HS'⟩
    · obtain rfl : Q = 0 := by omega
      clear eQ
      go_wp2
      go_step3
      go_wp2
      go_step3
      exact ⟨rfl, ⟨rfl, 1, 0, R, L', _, _, _, _, _, _, _, _, _, _, _, _, _, _, _, _, _, _, _, _, _, _, _, _, _, _, _, _, _, _, _, _, _, _, rfl, by omega, by omega, by omega, HL'.out, HS'.out⟩⟩
    · obtain rfl : Q = 0 := by omega
      obtain rfl : Q1 = 1 := by have : ((Q1 : Nat) : Int) = 1 := by rw [← eq1]; decide
                                omega
      clear eQ eq1
      go_wp2
      go_step3
      go_wp2
      go_step3
      exact ⟨rfl, ⟨rfl, 1, 1, Rd, L', _, _, _, _, _, _, _, _, _, _, _, _, _, _, _, _, _, _, _, _, _, _, _, _, _, _, _, _, _, _, _, _, _, _, rfl, by omega, by omega, by omega, HL'.out, HS'.out⟩⟩
    · obtain rfl : Q = 0 := by omega
      obtain rfl : Q1 = 1 := by have : ((Q1 : Nat) : Int) = 1 := by rw [← eq1]; decide
                                omega
      clear eQ eq1
      go_wp2
      go_step3
      go_wp2
      go_step3
      exact ⟨rfl, ⟨rfl, 1, 1, Rd, L', _, _, _, _, _, _, _, _, _, _, _, _, _, _, _, _, _, _, _, _, _, _, _, _, _, _, _, _, _, _, _, _, _, _, rfl, by omega, by omega, by omega, HL'.out, HS'.out⟩⟩
  · rintro a' w' ⟨rfl, j, q, r, L, J, u10, u11, u12, u13, u14, u15, u16, u17, u18, u19, u20, u21, u22, u23, u24, u25, u26, u27, u28, u29, u30, u31, u32, u33, u34, u35, u36, u37, u38, u39, u40, u41, u42, rfl, rfl, hj1, hj2, HL, HS⟩
    obtain ⟨hr, hL, hq, hc⟩ := div_pass hi lo d j q r L hd hj2 HL HS
    clear HL HS e01
    by_cases hlast : j = 63
    · subst hlast
      rcases hc with ⟨R, Q, L', hr2, hR2, hout, eo, eQ, eL, HL', HS'⟩ | ⟨R, Q, Q1, Rd, L', hr2, hR2, hout, eo, eQ, eq1, eRd, eL, HL', HS'⟩ | ⟨R, Q, Q1, Rd, L', hr2, hout, eo, eQ, eq1, eRd, eL, HL', HS'⟩
      · go_wp2
        simp only [Exit.jump]
        go_ret3
        obtain ⟨e1, e2⟩ := div_end hi lo d _ _ HS'.out
        exact ⟨ret_iii (by first | (rw [← e1]) | omega) (by first | (rw [← e2]) | omega) rfl, rfl⟩
      · go_wp2
        simp only [Exit.jump]
        go_ret3
        obtain ⟨e1, e2⟩ := div_end hi lo d _ _ HS'.out
        exact ⟨ret_iii (by first | (rw [← e1]) | omega) (by first | (rw [← e2]) | omega) rfl, rfl⟩
      · go_wp2
        simp only [Exit.jump]
        go_ret3
        obtain ⟨e1, e2⟩ := div_end hi lo d _ _ HS'.out
        exact ⟨ret_iii (by first | (rw [← e1]) | omega) (by first | (rw [← e2]) | omega) rfl, rfl⟩
    · rcases hc with ⟨R, Q, L', hr2, hR2, hout, eo, eQ, eL, HL', HS'⟩ | ⟨R, Q, Q1, Rd, L', hr2, hR2, hout, eo, eQ, eq1, eRd, eL, HL', HS'⟩ | ⟨R, Q, Q1, Rd, L', hr2, hout, eo, eQ, eq1, eRd, eL, HL', HS'⟩
      · go_wp2
        go_step3
        exact ⟨rfl, ⟨rfl, j + 1, Q, R, L', _, _, _, _, _, _, _, _, _, _, _, _, _, _, _, _, _, _, _, _, _, _, _, _, _, _, _, _, _, _, _, _, _, _, rfl, by omega, by omega, by omega, HL'.out, HS'.out⟩, by simp [DivM, intOf]; omega⟩
      · go_wp2
        go_step3
        exact ⟨rfl, ⟨rfl, j + 1, Q1, Rd, L', _, _, _, _, _, _, _, _, _, _, _, _, _, _, _, _, _, _, _, _, _, _, _, _, _, _, _, _, _, _, _, _, _, _, rfl, by omega, by omega, by omega, HL'.out, HS'.out⟩, by simp [DivM, intOf]; omega⟩
      · go_wp2
        go_step3
        exact ⟨rfl, ⟨rfl, j + 1, Q1, Rd, L', _, _, _, _, _, _, _, _, _, _, _, _, _, _, _, _, _, _, _, _, _, _, _, _, _, _, _, _, _, _, _, _, _, _, rfl, by omega, by omega, by omega, HL'.out, HS'.out⟩, by simp [DivM, intOf]; omega⟩

end Go.Proofs.YtfmmeifipbpbmaaGreatDoor
namespace Go.Proofs.YtfmmeifipbpbmaaGreatDoor
set_option maxRecDepth 100000
open Go.RowKit WMath

theorem div_no (hi lo d : Nat) (hh : d ≤ hi) (w : World) :
    Calls Tryz.prog 346 #[.int .u64 hi, .int .u64 lo, .int .u64 d] w fun e w' => e = .returned (.tuple #[.int .u64 0, .int .u64 0, .int .i64 2]) ∧ w' = w := by
  go_enter Tryz.func346, Tryz.ntmps346
  go_wp2
  refine wp_scope_jumps 0 (fun _ _ => False) (fun _ _ => 0) rfl ?_ (fun _ _ h => h.elim)
  go_wp2
  simp only [Exit.jump]
  go_ret3
  exact ⟨rfl, rfl⟩

end Go.Proofs.YtfmmeifipbpbmaaGreatDoor
namespace Go.Proofs.YtfmmeifipbpbmaaGreatDoor
set_option maxRecDepth 100000
open Go.RowKit WMath

theorem fold_len : (⟨(((List.append (List.append [0, 1, 2, 2, 3, 3, 3, 3, 4, 4, 4, 4, 4, 4, 4, 4, 5, 5, 5, 5, 5, 5, 5, 5, 5, 5, 5, 5, 5, 5, 5, 5, 6, 6, 6, 6, 6, 6, 6, 6, 6, 6, 6, 6, 6, 6, 6, 6, 6, 6, 6, 6, 6, 6, 6, 6, 6, 6, 6, 6, 6, 6, 6, 6] [7, 7, 7, 7, 7, 7, 7, 7, 7, 7, 7, 7, 7, 7, 7, 7, 7, 7, 7, 7, 7, 7, 7, 7, 7, 7, 7, 7, 7, 7, 7, 7, 7, 7, 7, 7, 7, 7, 7, 7, 7, 7, 7, 7, 7, 7, 7, 7, 7, 7, 7, 7, 7, 7, 7, 7, 7, 7, 7, 7, 7, 7, 7, 7]) (List.append [8, 8, 8, 8, 8, 8, 8, 8, 8, 8, 8, 8, 8, 8, 8, 8, 8, 8, 8, 8, 8, 8, 8, 8, 8, 8, 8, 8, 8, 8, 8, 8, 8, 8, 8, 8, 8, 8, 8, 8, 8, 8, 8, 8, 8, 8, 8, 8, 8, 8, 8, 8, 8, 8, 8, 8, 8, 8, 8, 8, 8, 8, 8, 8] [8, 8, 8, 8, 8, 8, 8, 8, 8, 8, 8, 8, 8, 8, 8, 8, 8, 8, 8, 8, 8, 8, 8, 8, 8, 8, 8, 8, 8, 8, 8, 8, 8, 8, 8, 8, 8, 8, 8, 8, 8, 8, 8, 8, 8, 8, 8, 8, 8, 8, 8, 8, 8, 8, 8, 8, 8, 8, 8, 8, 8, 8, 8, 8])) : List UInt8).toArray)⟩ : ByteArray) = Lib.len8tab := by decide +kernel

theorem len_fact {P : Program} (w : World) (t : TypeId) (i : Int) (h : P.underlying t = some .string) (h0 : 0 ≤ i) (h1 : i ≤ 255) :
    (Instr.index t (.string Lib.len8tab) (.int .u8 i)).run P w = .ok (.int .u8 (Lib.bitLen i.toNat : Nat)) w := by
  rw [Lib.run_index_len8tab w t .u8 i h h0 h1, Lib.len8_of i h0 h1]

set_option maxHeartbeats 4000000 in
set_option maxRecDepth 100000 in
theorem len64_int (x : Int) (h0 : 0 ≤ x) (h1 : x ≤ 18446744073709551615) (w : World) :
    Calls Tryz.prog 292 #[.int .u64 x] w fun e w' => e = .returned (.int .i64 (Lib.bitLen x.toNat : Nat)) ∧ w' = w := by
  go_enter Tryz.func292, Tryz.ntmps292
  rw [fold_len]
  by_cases c1 : 4294967296 ≤ x
  · by_cases c2 : 65536 ≤ x / 4294967296
    · by_cases c3 : 256 ≤ x / 4294967296 / 65536
      · have hx : ∀ w, (Instr.index 9 (.string Lib.len8tab) (.int .u8 (x / 4294967296 / 65536 / 256))).run Tryz.prog w = .ok (.int .u8 (Lib.bitLen (x / 4294967296 / 65536 / 256).toNat : Nat)) w := fun w => len_fact w 9 (x / 4294967296 / 65536 / 256) Tryz.underlying9 (by omega) (by omega)
        have l := Lib.bitLen_le8' (x / 4294967296 / 65536 / 256) (by omega) (by omega)
        have s := hide (Lib.bitLen_shift56 x.toNat (by omega) (by omega))
        have e := hide (show (x / 4294967296 / 65536 / 256).toNat = x.toNat / 72057594037927936 by omega)
        go_wp2
        go_ret
        exact ⟨ret_int (by have := s.out; have := e.out; rw [s.out, e.out]; omega), rfl⟩
      · have hx : ∀ w, (Instr.index 9 (.string Lib.len8tab) (.int .u8 (x / 4294967296 / 65536))).run Tryz.prog w = .ok (.int .u8 (Lib.bitLen (x / 4294967296 / 65536).toNat : Nat)) w := fun w => len_fact w 9 (x / 4294967296 / 65536) Tryz.underlying9 (by omega) (by omega)
        have l := Lib.bitLen_le8' (x / 4294967296 / 65536) (by omega) (by omega)
        have s := hide (Lib.bitLen_shift48 x.toNat (by omega) (by omega))
        have e := hide (show (x / 4294967296 / 65536).toNat = x.toNat / 281474976710656 by omega)
        go_wp2
        go_ret
        exact ⟨ret_int (by have := s.out; have := e.out; rw [s.out, e.out]; omega), rfl⟩
    · by_cases c3 : 256 ≤ x / 4294967296
      · have hx : ∀ w, (Instr.index 9 (.string Lib.len8tab) (.int .u8 (x / 4294967296 / 256))).run Tryz.prog w = .ok (.int .u8 (Lib.bitLen (x / 4294967296 / 256).toNat : Nat)) w := fun w => len_fact w 9 (x / 4294967296 / 256) Tryz.underlying9 (by omega) (by omega)
        have l := Lib.bitLen_le8' (x / 4294967296 / 256) (by omega) (by omega)
        have s := hide (Lib.bitLen_shift40 x.toNat (by omega) (by omega))
        have e := hide (show (x / 4294967296 / 256).toNat = x.toNat / 1099511627776 by omega)
        go_wp2
        go_ret
        exact ⟨ret_int (by have := s.out; have := e.out; rw [s.out, e.out]; omega), rfl⟩
      · have hx : ∀ w, (Instr.index 9 (.string Lib.len8tab) (.int .u8 (x / 4294967296))).run Tryz.prog w = .ok (.int .u8 (Lib.bitLen (x / 4294967296).toNat : Nat)) w := fun w => len_fact w 9 (x / 4294967296) Tryz.underlying9 (by omega) (by omega)
        have l := Lib.bitLen_le8' (x / 4294967296) (by omega) (by omega)
        have s := hide (Lib.bitLen_shift32 x.toNat (by omega) (by omega))
        have e := hide (show (x / 4294967296).toNat = x.toNat / 4294967296 by omega)
        go_wp2
        go_ret
        exact ⟨ret_int (by have := s.out; have := e.out; rw [s.out, e.out]; omega), rfl⟩
  · by_cases c2 : 65536 ≤ x
    · by_cases c3 : 256 ≤ x / 65536
      · have hx : ∀ w, (Instr.index 9 (.string Lib.len8tab) (.int .u8 (x / 65536 / 256))).run Tryz.prog w = .ok (.int .u8 (Lib.bitLen (x / 65536 / 256).toNat : Nat)) w := fun w => len_fact w 9 (x / 65536 / 256) Tryz.underlying9 (by omega) (by omega)
        have l := Lib.bitLen_le8' (x / 65536 / 256) (by omega) (by omega)
        have s := hide (Lib.bitLen_shift24 x.toNat (by omega) (by omega))
        have e := hide (show (x / 65536 / 256).toNat = x.toNat / 16777216 by omega)
        go_wp2
        go_ret
        exact ⟨ret_int (by have := s.out; have := e.out; rw [s.out, e.out]; omega), rfl⟩
      · have hx : ∀ w, (Instr.index 9 (.string Lib.len8tab) (.int .u8 (x / 65536))).run Tryz.prog w = .ok (.int .u8 (Lib.bitLen (x / 65536).toNat : Nat)) w := fun w => len_fact w 9 (x / 65536) Tryz.underlying9 (by omega) (by omega)
        have l := Lib.bitLen_le8' (x / 65536) (by omega) (by omega)
        have s := hide (Lib.bitLen_shift16 x.toNat (by omega) (by omega))
        have e := hide (show (x / 65536).toNat = x.toNat / 65536 by omega)
        go_wp2
        go_ret
        exact ⟨ret_int (by have := s.out; have := e.out; rw [s.out, e.out]; omega), rfl⟩
    · by_cases c3 : 256 ≤ x
      · have hx : ∀ w, (Instr.index 9 (.string Lib.len8tab) (.int .u8 (x / 256))).run Tryz.prog w = .ok (.int .u8 (Lib.bitLen (x / 256).toNat : Nat)) w := fun w => len_fact w 9 (x / 256) Tryz.underlying9 (by omega) (by omega)
        have l := Lib.bitLen_le8' (x / 256) (by omega) (by omega)
        have s := hide (Lib.bitLen_shift8 x.toNat (by omega) (by omega))
        have e := hide (show (x / 256).toNat = x.toNat / 256 by omega)
        go_wp2
        go_ret
        exact ⟨ret_int (by have := s.out; have := e.out; rw [s.out, e.out]; omega), rfl⟩
      · have hx : ∀ w, (Instr.index 9 (.string Lib.len8tab) (.int .u8 (x))).run Tryz.prog w = .ok (.int .u8 (Lib.bitLen (x).toNat : Nat)) w := fun w => len_fact w 9 (x) Tryz.underlying9 (by omega) (by omega)
        have l := Lib.bitLen_le8' (x) (by omega) (by omega)
        go_wp2
        go_ret
        exact ⟨ret_int (by omega), rfl⟩

theorem len64_any (x : Nat) (hx : x < 18446744073709551616) (w : World) :
    Calls Tryz.prog 292 #[.int .u64 x] w fun e w' => e = .returned (.int .i64 (Lib.bitLen x : Nat)) ∧ w' = w := by
  have h := len64_int (x : Int) (by omega) (by omega) w
  rw [Int.toNat_natCast] at h
  exact h

theorem len_any (x : Nat) (hx : x < 18446744073709551616) (w : World) :
    Calls Tryz.prog 246 #[.int .u64 x] w fun e w' => e = .returned (.int .i64 (Lib.bitLen x : Nat)) ∧ w' = w := by
  go_enter Tryz.func246, Tryz.ntmps246
  go_wp2_with (go_at_call 292; refine (len64_any _ hx _).mono ?_; rintro e w' ⟨rfl, rfl⟩)
  go_ret
  exact ⟨rfl, rfl⟩

end Go.Proofs.YtfmmeifipbpbmaaGreatDoor
namespace Go.Proofs.YtfmmeifipbpbmaaGreatDoor.WMath
set_option maxRecDepth 100000

def mask8 (c : Nat) : Nat → Nat
  | 0 => 0
  | n + 1 => c + 256 * mask8 c n
def fC (n x : Nat) : Nat := (x / 16 + x) &&& mask8 15 n
def sA (b : Nat) : Nat := ((b / 2) &&& 85) + (b &&& 85)
theorem t1 : ∀ b : Fin 256, ∀ c : Fin 2, ((b.val / 2 + 128 * c.val) &&& 85) = (b.val / 2 &&& 85) := by decide +kernel
theorem t2 : ∀ b : Fin 256, ∀ c : Fin 4, ((b.val / 4 + 64 * c.val) &&& 51) = (b.val / 4 &&& 51) := by decide +kernel
end Go.Proofs.YtfmmeifipbpbmaaGreatDoor.WMath
namespace Go.Proofs.YtfmmeifipbpbmaaGreatDoor
set_option maxRecDepth 100000
open Go.RowKit WMath

theorem bitLen_top (x k : Nat) (h1 : 2 ^ k ≤ x) (h2 : x < 2 ^ (k + 1)) (hk : k < 64) : Lib.bitLen x = k + 1 := by
  have hx : x < 18446744073709551616 := by
    have := pow_le_64 (k + 1) (by omega)
    omega
  rcases Nat.eq_zero_or_pos k with rfl | hp
  · have : x = 1 := by simp at h1 h2; omega
    subst this; decide
  · rw [Lib.bitLen_shift k x h1 hx, show x / 2 ^ k = 1 by
      apply Nat.div_eq_of_lt_le
      · omega
      · rw [Nat.pow_succ] at h2; omega]
    have : Lib.bitLen 1 = 1 := by decide
    omega
theorem bitLen_step (x k : Nat) (hk : k < 64) : Lib.bitLen (x % 2 ^ (k + 1)) = if x.testBit k then k + 1 else Lib.bitLen (x % 2 ^ k) := by
  rw [mod_succ]
  have hl : x % 2 ^ k < 2 ^ k := Nat.mod_lt _ (Nat.two_pow_pos k)
  cases x.testBit k
  · simp
  · rw [if_pos rfl, Bool.toNat_true, Nat.mul_one]
    exact bitLen_top _ k (by omega) (by rw [Nat.pow_succ]; omega) hk

theorem rlen_any (x : Nat) (hx : x < 18446744073709551616) (w : World) :
    Calls Tryz.prog 186 #[.int .u64 x] w fun e w' => e = .returned (.int .i64 (Lib.bitLen x : Nat)) ∧ w' = w := by
  have h0 : Hid (0 = Lib.bitLen (x % 2 ^ 0)) := by show 0 = _; rw [Nat.pow_zero, Nat.mod_one]; decide
  go_enter Tryz.func186, Tryz.ntmps186
  go_wp2
  go_loop [3, 4] (fun n i => ∃ k N : Nat, k ≤ 64 ∧ i = .int .i64 k ∧ n = .int .i64 N ∧ Hid (N = Lib.bitLen (x % 2 ^ k))) (fun _ i => 64 - (intOf i).toNat)
  case atStart => exact ⟨0, 0, by omega, rfl, rfl, h0⟩
  case round =>
    obtain ⟨k, N, hk, rfl, rfl, HN⟩ := hrel
    by_cases hlt : k < 64
    · have st := hide (bitLen_step x k hlt)
      cases hb : x.testBit k
      · have H1 : Hid (N = Lib.bitLen (x % 2 ^ (k + 1))) := by show N = _; rw [st.out, hb, HN.out]; rfl
        go_wp2_with (go_at_call 261; refine (bit_any _ _ ?_ ?_ _).mono ?_; assumption; assumption; rintro e w' ⟨rfl, rfl⟩)
        go_round
        case rel => exact ⟨k + 1, N, by omega, by go_num, rfl, H1⟩
        case measure => simp [intOf]; omega
      · have H1 : Hid (k + 1 = Lib.bitLen (x % 2 ^ (k + 1))) := by show k + 1 = _; rw [st.out, hb]; rfl
        go_wp2_with (go_at_call 261; refine (bit_any _ _ ?_ ?_ _).mono ?_; assumption; assumption; rintro e w' ⟨rfl, rfl⟩)
        go_round
        case rel => exact ⟨k + 1, k + 1, by omega, by go_num, by go_num, H1⟩
        case measure => simp [intOf]; omega
    · go_wp2
      go_ret
      obtain rfl : k = 64 := by omega
      exact ⟨ret_int (by rw [HN.out, ← two64, Nat.mod_eq_of_lt hx]), rfl⟩
end Go.Proofs.YtfmmeifipbpbmaaGreatDoor
namespace Go.Proofs.YtfmmeifipbpbmaaGreatDoor
set_option maxRecDepth 100000
open Go.RowKit WMath

/-- t is the place of the lowest bit of x that is 1. -/
def LowIs (x t : Nat) : Prop := t < 64 ∧ x % 2 ^ t = 0 ∧ x.testBit t = true
theorem low_one (x s t : Nat) (h : LowIs x s) (g : LowIs x t) : s = t := by
  have hlt : ∀ a b, LowIs x a → LowIs x b → ¬ a < b := by
    intro a b ha hb hab
    have h1 := Nat.testBit_mod_two_pow x b a
    rw [hb.2.1, ha.2.2] at h1
    simp [hab] at h1
  have h1 := hlt s t h g
  have h2 := hlt t s g h
  omega
theorem rlow_any (x t : Nat) (hx : x < 18446744073709551616) (ht : LowIs x t) (w : World) :
    Calls Tryz.prog 187 #[.int .u64 x] w fun e w' => e = .returned (.int .i64 t) ∧ w' = w := by
  have ht0 := ht.1
  have hT := hide ht
  clear ht
  go_enter Tryz.func187, Tryz.ntmps187
  go_wp2
  go_loop [3] (fun i => ∃ k : Nat, k ≤ t ∧ i = .int .i64 k) (fun i => 64 - (intOf i).toNat)
  case atStart => exact ⟨0, by omega, rfl⟩
  case round =>
    obtain ⟨k, hk, rfl⟩ := hrel
    have hlt : k < 64 := by omega
    by_cases he : k < t
    · have hb : x.testBit k = false := by
        have h1 := Nat.testBit_mod_two_pow x t k
        rw [hT.out.2.1] at h1
        simpa [he] using h1.symm
      go_wp2_with (go_at_call 261; refine (bit_any _ _ ?_ ?_ _).mono ?_; assumption; assumption; rintro e w' ⟨rfl, rfl⟩)
      go_round
      case rel => exact ⟨k + 1, by omega, by go_num⟩
      case measure => simp [intOf]; omega
    · obtain rfl : k = t := by omega
      have hb : x.testBit k = true := hT.out.2.2
      go_wp2_with (go_at_call 261; refine (bit_any _ _ ?_ ?_ _).mono ?_; assumption; assumption; rintro e w' ⟨rfl, rfl⟩)
      go_ret
      exact ⟨rfl, rfl⟩
end Go.Proofs.YtfmmeifipbpbmaaGreatDoor
namespace Go.Proofs.YtfmmeifipbpbmaaGreatDoor
set_option maxRecDepth 100000
open Go.RowKit WMath

theorem ctz_low (x : Nat) (h0 : x ≠ 0) (hx : x < 18446744073709551616) : LowIs x (Lib.ctz 64 x) := by
  have h1 : Lib.ctz 64 x = Lib.ctzFrom 64 x := by unfold Lib.ctz; rw [if_neg h0]
  obtain ⟨m, hm, hlt⟩ := Lib.ctzFrom_spec 64 x (by omega) (by rw [← two64]; exact hx)
  rw [h1]
  generalize Lib.ctzFrom 64 x = t at *
  refine ⟨hlt, ?_, ?_⟩
  · rw [hm, Nat.mul_mod_right]
  · rw [Nat.testBit_eq_decide_div_mod_eq, hm, Nat.mul_div_cancel_left _ (Nat.two_pow_pos t)]
    simp

/-- The table of the library, as it lies in its variable. -/
def TabAt (w : World) : Prop := ∀ i, i < 64 → w.cell? ⟨5, i, none⟩ = some (.int .u8 ((Lib.deBruijn64tab.getD i 0 : Nat) : Int))

theorem db_i (P I : Nat) (hI : I = P * 285870213051353865 % 18446744073709551616 / 288230376151711744) : IntKind.u64.wrap ((P : Int) * 285870213051353865) / 288230376151711744 = (I : Int) := by
  rw [IntKind.wrap_u64, hI]; simp
theorem tz_any (x t : Nat) (hx : x < 18446744073709551616) (ht : LowIs x t) (w : World) (hT : TabAt w) :
    Calls Tryz.prog 322 #[.int .u64 x] w fun e w' => e = .returned (.int .i64 t) ∧ w' = w := by
  have h0 : x ≠ 0 := by
    intro h; subst h
    have := ht.2.2
    rw [Nat.zero_testBit] at this
    cases this
  obtain ⟨hl, _⟩ := Lib.lowest_bit 64 x h0 (by rw [← two64]; exact hx)
  obtain ⟨d1, d2⟩ := Lib.deBruijn64_at t ht.1
  have hc : Lib.ctz 64 x = t := low_one x _ _ (ctz_low x h0 hx) ht
  rw [hc, ← two64] at hl
  have hp := pow_lt_64 t ht.1
  obtain ⟨P, hP⟩ : ∃ P, P = 2 ^ t := ⟨_, rfl⟩
  rw [← hP] at hl d1 d2 hp
  have e1 : bits .and .u64 (x : Int) (IntKind.u64.wrap (-(x : Int))) = (P : Int) := by
    have e : IntKind.u64.wrap (-(x : Int)) = ((18446744073709551616 - x : Nat) : Int) := by rw [IntKind.wrap_u64]; omega
    rw [e, bits_and_u64_nat _ _ hx (by omega), hl]
  obtain ⟨I, hI⟩ : ∃ I, I = P * 285870213051353865 % 18446744073709551616 / 288230376151711744 := ⟨_, rfl⟩
  rw [← hI] at d1 d2
  have e2 : IntKind.u64.wrap ((P : Int) * 285870213051353865) / 288230376151711744 = (I : Int) := db_i P I hI
  have hcell := hT I d1
  rw [d2] at hcell
  have hx0 : ((x : Int) == 0) = false := by rw [beq_eq_false_iff_ne]; omega
  have ht1 := ht.1
  clear hl d2 hc hp hP hI h0 ht hT
  go_enter Tryz.func322, Tryz.ntmps322
  go_wp2
  go_ret
  exact ⟨rfl, rfl⟩
theorem low_any (x t : Nat) (hx : x < 18446744073709551616) (ht : LowIs x t) (w : World) (hT : TabAt w) :
    Calls Tryz.prog 290 #[.int .u64 x] w fun e w' => e = .returned (.int .i64 t) ∧ w' = w := by
  have h := hide (tz_any x t hx ht w hT)
  clear ht hT
  go_enter Tryz.func290, Tryz.ntmps290
  go_wp2_with (go_at_call 322; refine h.out.mono ?_; rintro e w' ⟨rfl, rfl⟩)
  go_ret
  exact ⟨rfl, rfl⟩

end Go.Proofs.YtfmmeifipbpbmaaGreatDoor
namespace Go.Proofs.YtfmmeifipbpbmaaGreatDoor
set_option maxRecDepth 100000
open Go.RowKit WMath

theorem setRow_below (w : World) (b : Nat) (c : Array Value) (o : Obj) (h : b < w.heap.size) : (w.alloc o).setRow b c = (w.setRow b c).alloc o := by
  simp only [World.setRow, World.alloc]
  congr 1
  apply Array.ext_getElem?
  intro i
  rw [Array.getElem?_modify, Array.getElem?_push, Array.getElem?_push, Array.size_modify, Array.getElem?_modify]
  by_cases e : i = w.heap.size
  · subst e
    rw [if_pos rfl, if_pos rfl, if_neg (by omega)]
  · rw [if_neg e, if_neg e]

theorem heap_below (w : World) (b : Nat) (o : Obj) (h : b < w.heap.size) : (w.alloc o).heap[b]? = w.heap[b]? := Below.heap_alloc w o b h
theorem size_al (w : World) (o : Obj) : (w.alloc o).heap.size = w.heap.size + 1 := by
  show (w.heap.push o).size = _
  simp

theorem st_any (w : World) (b x y : Nat) (h : w.heap[b]? = some (.cells (cw 6 y) 62)) :
    (storeCells ⟨b, 0, none⟩ (cw 6 x).toList 0).run Tryz.prog w = .ok () (w.setRow b (cw 6 x)) := by
  have := run_storeCells_from (P := Tryz.prog) b 62 (cw 6 x).toList 0 (cw 6 y) w h (by simp [cw_size]) (fun v hv => (Array.all_eq_true_iff_forall_mem.1 (cw_oneCell 6 x)) v (by simpa using hv))
  simpa using this

theorem ix6 (n k : Nat) (w : World) (h : k < 6) : (Instr.index 62 (.agg (cw 6 n)) (.int .i64 k)).run Tryz.prog w = .ok (.int .u64 (wd n k : Nat)) w := by
  have h2 : (0 : Int) ≤ k ∧ (k : Int) < (6 : Nat) := by omega
  simp [Instr.index, run_underlying Tryz.underlying62, asIntOf, h2, go_sem]
  rw [if_pos h, cw_at 6 n k h]
  rfl

theorem st0 (w : World) (b x y : Nat) (hb : b = w.heap.size) :
    (storeCells ⟨b, 0, none⟩ (cw 6 x).toList 0).run Tryz.prog (w.alloc (.cells (cw 6 y) 62)) = .ok () (w.alloc (.cells (cw 6 x) 62)) := by
  subst hb
  rw [st_any _ _ x y (heap_alloc_last w _), World.setRow_alloc_new]
theorem st1 (w : World) (b x y : Nat) (o : Obj) (hb : b = w.heap.size) :
    (storeCells ⟨b, 0, none⟩ (cw 6 x).toList 0).run Tryz.prog ((w.alloc (.cells (cw 6 y) 62)).alloc o) = .ok () ((w.alloc (.cells (cw 6 x) 62)).alloc o) := by
  subst hb
  have h0 : w.heap.size < (w.alloc (.cells (cw 6 y) 62)).heap.size := by rw [size_al]; omega
  rw [st_any _ _ x y (by rw [heap_below _ _ _ h0]; exact heap_alloc_last w _), setRow_below _ _ _ _ h0, World.setRow_alloc_new]
theorem sc0d (w : World) (b t d : Nat) (c : Array Value) (T : TypeId) (v : Value) (hb : b = w.heap.size) :
    ((w.alloc (.cells c T)).drewN d).setCell ⟨b, t, none⟩ v = (w.alloc (.cells (c.setIfInBounds t v) T)).drewN d := by
  rw [← World.setCell_alloc_at (w := w) c T b t v hb]
  rfl
theorem st_drew (w w2 : World) (b x d : Nat) (h : (storeCells ⟨b, 0, none⟩ (cw 6 x).toList 0).run Tryz.prog w = .ok () w2) (y : Nat) (hy : w.heap[b]? = some (.cells (cw 6 y) 62)) :
    (storeCells ⟨b, 0, none⟩ (cw 6 x).toList 0).run Tryz.prog (w.drewN d) = .ok () (w2.drewN d) := by
  rw [st_any w b x y hy] at h
  rw [st_any (w.drewN d) b x y hy]
  injection h with _ h
  rw [← h]
  rfl
theorem st0d (w : World) (b x y d : Nat) (hb : b = w.heap.size) :
    (storeCells ⟨b, 0, none⟩ (cw 6 x).toList 0).run Tryz.prog ((w.alloc (.cells (cw 6 y) 62)).drewN d) = .ok () ((w.alloc (.cells (cw 6 x) 62)).drewN d) :=
  st_drew _ _ b x d (st0 w b x y hb) y (by rw [hb]; exact heap_alloc_last w _)
end Go.Proofs.YtfmmeifipbpbmaaGreatDoor
namespace Go.Proofs.YtfmmeifipbpbmaaGreatDoor
set_option maxRecDepth 100000
open Go.RowKit WMath

theorem al_eq {w : World} {c c' : Array Value} {t : TypeId} (h : c = c') : w.alloc (.cells c t) = w.alloc (.cells c' t) := by rw [h]

theorem wadd_any (n m : Nat) (hn : n < Q) (hm : m < Q) (w : World) :
    Calls Tryz.prog 177 #[W n, W m] w fun e w' => e = .returned (.tuple #[W ((n + m) % Q), .bool (decide (Q ≤ n + m))]) ∧ Below w.heap.size w w' := by
  unfold W
  have hat := cw_at 6
  have hz := cw6z
  have hf := cw6f
  have hx := ix6
  have hs0 := st0
  go_enter Tryz.func177, Tryz.ntmps177
  go_wp2
  go_loopw [5, 9] (fun ov i wr => ∃ (k S : Nat) (C : Bool), k ≤ 6 ∧ i = .int .i64 k ∧ ov = .bool C ∧ wr = ((w.alloc (.cells (cw 6 n) 62)).alloc (.cells (cw 6 m) 62)).alloc (.cells (cw 6 S) 62) ∧ S < 2 ^ (64 * k) ∧ Hid (S + 2 ^ (64 * k) * C.toNat = n % 2 ^ (64 * k) + m % 2 ^ (64 * k))) (fun _ i _ => 6 - (intOf i).toNat)
  case atStart => exact ⟨0, 0, false, by omega, rfl, rfl, rfl, by decide, hide (by simp [Nat.mod_one])⟩
  case round =>
    obtain ⟨k, S, C, hk, rfl, rfl, rfl, hS, HE⟩ := hrel
    by_cases hlt : k < 6
    · go_wp2_with (go_at_call 254; refine (add_any _ _ _ (wd_lt _ _) (wd_lt _ _) _).mono ?_; rintro e w' ⟨rfl, rfl⟩)
      go_roundw
      case rel =>
        exact ⟨k + 1, _, _, by omega, by go_num, rfl, al_eq (cw_push 6 S k _ _ hlt hS (Nat.mod_lt _ (by decide)) (by omega)), push_lt S k _ hS (Nat.mod_lt _ (by decide)), hide (wadd_step n m S k _ C HE.out rfl)⟩
      case measure => simp [intOf]; omega
    · go_wp2
      obtain ⟨rfl, rfl⟩ := wadd_end n m S k C (by omega) hn hm hS HE.out
      exact bodyPost_ret (v := .tuple #[.agg (cw 6 ((n + m) % Q)), .bool (decide (Q ≤ n + m))]) (by simp [results, Tryz.results177, go_sem, hat, hf]) rfl ⟨rfl, (((Below.refl _ _).alloc (Nat.le_refl _) _).alloc (by simp <;> omega) _).alloc (by simp <;> omega) _⟩
theorem wsub_any (n m : Nat) (hn : n < Q) (hm : m < Q) (w : World) :
    Calls Tryz.prog 262 #[W n, W m] w fun e w' => e = .returned (.tuple #[W ((n + Q - m) % Q), .bool (decide (n < m))]) ∧ Below w.heap.size w w' := by
  unfold W
  have hat := cw_at 6
  have hz := cw6z
  have hf := cw6f
  have hx := ix6
  have hs0 := st0
  go_enter Tryz.func262, Tryz.ntmps262
  go_wp2
  go_loopw [5, 9] (fun ov i wr => ∃ (k S : Nat) (C : Bool), k ≤ 6 ∧ i = .int .i64 k ∧ ov = .bool C ∧ wr = ((w.alloc (.cells (cw 6 n) 62)).alloc (.cells (cw 6 m) 62)).alloc (.cells (cw 6 S) 62) ∧ S < 2 ^ (64 * k) ∧ Hid (S + m % 2 ^ (64 * k) = n % 2 ^ (64 * k) + 2 ^ (64 * k) * C.toNat)) (fun _ i _ => 6 - (intOf i).toNat)
  case atStart => exact ⟨0, 0, false, by omega, rfl, rfl, rfl, by decide, hide (by simp [Nat.mod_one])⟩
  case round =>
    obtain ⟨k, S, C, hk, rfl, rfl, rfl, hS, HE⟩ := hrel
    by_cases hlt : k < 6
    · go_wp2_with (go_at_call 302; refine (sub_any _ _ _ (wd_lt _ _) (wd_lt _ _) _).mono ?_; rintro e w' ⟨rfl, rfl⟩)
      go_roundw
      case rel =>
        exact ⟨k + 1, _, _, by omega, by go_num, rfl, al_eq (cw_push 6 S k _ _ hlt hS (Nat.mod_lt _ (by decide)) (by omega)), push_lt S k _ hS (Nat.mod_lt _ (by decide)), hide (wsub_step n m S k _ C HE.out rfl)⟩
      case measure => simp [intOf]; omega
    · go_wp2
      obtain ⟨rfl, rfl⟩ := wsub_end n m S k C (by omega) hn hm hS HE.out
      exact bodyPost_ret (v := .tuple #[.agg (cw 6 ((n + Q - m) % Q)), .bool (decide (n < m))]) (by simp [results, Tryz.results262, go_sem, hat, hf]) rfl ⟨rfl, (((Below.refl _ _).alloc (Nat.le_refl _) _).alloc (by simp <;> omega) _).alloc (by simp <;> omega) _⟩

theorem wof_any (n : Nat) (hn : n < 18446744073709551616) (w : World) :
    Calls Tryz.prog 178 #[.int .u64 n] w fun e w' => e = .returned (W n) ∧ Below w.heap.size w w' := by
  unfold W
  have hat := cw_at 6
  have hz := cw6z
  have hf := cw6f
  have hs0 := st0
  have h1 : (cw 6 0).setIfInBounds 0 (.int .u64 n) = cw 6 n := by
    rw [cw_set 6 0 0 n (by omega) hn, setw_low 0 0 n (by decide)]; simp
  have h2 : (cw 6 0).toList.set 0 (.int .u64 n) = (cw 6 n).toList := by rw [← h1]; simp
  go_enter Tryz.func178, Tryz.ntmps178
  go_wp2
  exact bodyPost_ret (v := .agg (cw 6 n)) (by simp [results, Tryz.results178, go_sem, hat, hf]) rfl ⟨rfl, (Below.refl _ _).alloc (Nat.le_refl _) _⟩

end Go.Proofs.YtfmmeifipbpbmaaGreatDoor
namespace Go.Proofs.YtfmmeifipbpbmaaGreatDoor
set_option maxRecDepth 100000
open Go.RowKit WMath

theorem wor_any (n m : Nat) (hn : n < Q) (hm : m < Q) (w : World) :
    Calls Tryz.prog 182 #[W n, W m] w fun e w' => e = .returned (W (n ||| m)) ∧ Below w.heap.size w w' := by
  unfold W
  have hat := cw_at 6
  have hz := cw6z
  have hf := cw6f
  have hx := ix6
  have hs0 := st0
  go_enter Tryz.func182, Tryz.ntmps182
  go_wp2
  go_loopw [8] (fun i wr => ∃ (k X : Nat), k ≤ 6 ∧ i = .int .i64 k ∧ wr = ((w.alloc (.cells (cw 6 X) 62)).alloc (.cells (cw 6 m) 62)).alloc (.cells (cw 6 0) 62) ∧ Hid (Part X n k fun j => wd n j ||| wd m j)) (fun i _ => 6 - (intOf i).toNat)
  case atStart => exact ⟨0, n, by omega, rfl, rfl, hide (part_start n _ hn)⟩
  case round =>
    obtain ⟨k, X, hk, rfl, rfl, HE⟩ := hrel
    by_cases hlt : k < 6
    · have hw := part_wd HE.out hlt
      have ho := bits_or_u64_nat (wd n k) (wd m k) (wd_lt _ _) (wd_lt _ _)
      go_wp2
      go_roundw
      case rel =>
        exact ⟨k + 1, _, by omega, by go_num, by rw [cw_seti 6 X k _ _ hlt (or_lt64 _ _ (wd_lt n k) (wd_lt m k)) rfl], hide (part_step HE.out hlt _ (or_lt64 _ _ (wd_lt n k) (wd_lt m k)) rfl)⟩
      case measure => simp [intOf]; omega
    · go_wp2
      obtain rfl := part_end HE.out (by omega) (n ||| m) (or_ltQ n m hn hm) (fun j hj => wd_or n m j)
      exact bodyPost_ret (v := .agg (cw 6 (n ||| m))) (by simp [results, Tryz.results182, go_sem, hat, hf]) rfl ⟨rfl, (((Below.refl _ _).alloc (Nat.le_refl _) _).alloc (by simp <;> omega) _).alloc (by simp <;> omega) _⟩

def cnt6 (n : Int) : Nat := min n.toNat 384
theorem wcount_any (n : Int) (w : World) :
    Calls Tryz.prog 247 #[.int .i64 n] w fun e w' => e = .returned (.int .i64 (cnt6 n : Nat)) ∧ w' = w := by
  go_enter Tryz.func247, Tryz.ntmps247
  go_wp2
  all_goals go_ret
  all_goals
    refine ⟨ret_int ?_, rfl⟩
    unfold cnt6
    omega

end Go.Proofs.YtfmmeifipbpbmaaGreatDoor
namespace Go.Proofs.YtfmmeifipbpbmaaGreatDoor
set_option maxRecDepth 100000
open Go.RowKit WMath

theorem left_is (x : Nat) (n : Int) (v : Nat) (h : x * 2 ^ cnt n % 18446744073709551616 = v) (w : World) :
    Calls Tryz.prog 271 #[.int .u64 x, .int .i64 n] w fun e w' => e = .returned (.int .u64 (v : Nat)) ∧ w' = w := by
  subst h; exact left_any x n w
theorem right_is (x : Nat) (n : Int) (v : Nat) (h : x / 2 ^ cnt n = v) (w : World) :
    Calls Tryz.prog 272 #[.int .u64 x, .int .i64 n] w fun e w' => e = .returned (.int .u64 (v : Nat)) ∧ w' = w := by
  subst h; exact right_any x n w

set_option maxHeartbeats 1000000 in
theorem wup_any (n s : Nat) (hn : n < Q) (hs : s ≤ 384) (w : World) :
    Calls Tryz.prog 215 #[W n, .int .i64 s] w fun e w' => e = .returned (W (n * 2 ^ s % Q)) ∧ Below w.heap.size w w' := by
  unfold W
  have hat := cw_at 6
  have hz := cw6z
  have hf := cw6f
  have hx := ix6
  have hs0 := st0d
  have hsc := sc0d
  obtain ⟨q, hq⟩ : ∃ q, q = s / 64 := ⟨_, rfl⟩
  obtain ⟨r, hr⟩ : ∃ r, r = s % 64 := ⟨_, rfl⟩
  have hq1 : (s : Int) / 64 = (q : Int) := by omega
  have HR : Box ((s : Int) % 64 = (r : Int)) := box (by omega)
  have hr2 : r < 64 := by omega
  have hq2 : q ≤ 6 := by omega
  have HS : Box (s = 64 * q + r) := box (by omega)
  have hwr : IntKind.i64.wrap (64 - (s : Int) % 64) = 64 - (s : Int) % 64 := by rw [IntKind.wrap_i64]; omega
  clear hq hr
  go_enter Tryz.func215, Tryz.ntmps215
  go_wp2
  go_loopw [16] (fun i wr => ∃ (k X : Nat), k ≤ 6 ∧ i = .int .i64 k ∧ (∃ d, wr = ((w.alloc (.cells (cw 6 n) 62)).alloc (.cells (cw 6 X) 62)).drewN d) ∧ Box (X = (n % 2 ^ (64 * k)) * 2 ^ s % Q)) (fun i _ => 6 - (intOf i).toNat)
  case atStart => exact ⟨0, 0, by omega, rfl, ⟨0, rfl⟩, box (by simp [Nat.mod_one])⟩
  case round =>
    obtain ⟨k, X, hk, rfl, ⟨d, rfl⟩, HE⟩ := hrel
    by_cases hlt : k < 6
    · obtain ⟨t, ht⟩ : ∃ t, t = k + q := ⟨_, rfl⟩
      have ht1 : (k : Int) + (q : Int) = (t : Int) := by omega
      obtain ⟨lo, hlo⟩ : ∃ lo, wd n k * 2 ^ r % 18446744073709551616 = lo := ⟨_, rfl⟩
      obtain ⟨hi, hhi⟩ : ∃ hi, wd n k / 2 ^ (64 - r) = hi := ⟨_, rfl⟩
      have hlo2 : lo < 18446744073709551616 := by rw [← hlo]; exact Nat.mod_lt _ (by decide)
      have hhi2 : hi < 18446744073709551616 := by rw [← hhi]; exact Nat.lt_of_le_of_lt (Nat.div_le_self _ _) (wd_lt n k)
      have ST := box (up_step n k s q r t X lo hi HS.out hr2 ht HE.out hlo hhi)
      have HLO := box hlo
      have HHI := box hhi
      have HT := box ht
      clear hlo hhi ht
      have hc1 : cnt ((s : Int) % 64) = r := by rw [HR.out]; exact cnt_small r hr2
      have hc2 : cnt (64 - (s : Int) % 64) = 64 - r := by rw [HR.out]; unfold cnt; omega
      by_cases h1 : t < 6
      · obtain ⟨X1, hX1⟩ : ∃ X1, X1 = X ||| lo * 2 ^ (64 * t) := ⟨_, rfl⟩
        have hb1 := bor X t lo hlo2
        have hw1 := cw_or 6 X t lo X1 h1 hlo2 hX1
        have HX1 := box hX1
        clear hX1
        have e1 : lo * 2 ^ (64 * t) % Q = lo * 2 ^ (64 * t) := Nat.mod_eq_of_lt (sh_small lo t hlo2 h1)
        have E1 := box e1
        clear e1
        by_cases h2 : t + 1 < 6
        · obtain ⟨X2, hX2⟩ : ∃ X2, X2 = X1 ||| hi * 2 ^ (64 * (t + 1)) := ⟨_, rfl⟩
          have hb2 := bor X1 (t + 1) hi hhi2
          have hw2 := cw_or 6 X1 (t + 1) hi X2 h2 hhi2 hX2
          have HX2 := box hX2
          clear hX2
          have E2 := box (Nat.mod_eq_of_lt (sh_small hi (t + 1) hhi2 h2))
          go_wp2
          go_region_with (go_at_call 271; refine (left_is _ _ lo (by rw [hc1]; exact HLO.out) _).mono ?_; rintro e w' ⟨rfl, rfl⟩)
          all_goals go_wp2
          all_goals go_region_with (go_at_call 272; refine (right_is _ _ hi (by rw [hc2]; exact HHI.out) _).mono ?_; rintro e w' ⟨rfl, rfl⟩)
          all_goals go_wp2
          all_goals go_roundw
          all_goals first | (show (_ : Nat) < _; simp [intOf]; omega) | exact ⟨k + 1, X2, by omega, by go_num, ⟨_, rfl⟩, box (by rw [ST.out, E1.out, E2.out, HX2.out, HX1.out, Nat.or_assoc])⟩
        · have E2 := box (sh_big hi (t + 1) (by omega))
          go_wp2
          go_region_with (go_at_call 271; refine (left_is _ _ lo (by rw [hc1]; exact HLO.out) _).mono ?_; rintro e w' ⟨rfl, rfl⟩)
          all_goals go_wp2
          all_goals go_roundw
          all_goals first | (show (_ : Nat) < _; simp [intOf]; omega) | exact ⟨k + 1, X1, by omega, by go_num, ⟨_, rfl⟩, box (by rw [ST.out, E1.out, E2.out, HX1.out, Nat.or_zero])⟩
      · have E1 := box (sh_big lo t (by omega))
        have E2 := box (sh_big hi (t + 1) (by omega))
        have h3 : ¬ t + 1 < 6 := by omega
        go_wp2
        go_roundw
        case rel => exact ⟨k + 1, X, by omega, by go_num, ⟨_, rfl⟩, box (by rw [ST.out, E1.out, E2.out, Nat.or_zero, Nat.or_zero])⟩
        case measure => simp [intOf]; omega
    · go_wp2
      have e := HE.out
      rw [wlow n k hn (by omega)] at e
      subst e
      exact bodyPost_ret (v := .agg (cw 6 (n * 2 ^ s % Q))) (by simp [results, Tryz.results215, go_sem, hat, hf]) rfl ⟨rfl, below_drewN (((Below.refl _ _).alloc (Nat.le_refl _) _).alloc (by simp <;> omega) _) _⟩

set_option maxHeartbeats 1000000 in
theorem wdown_any (n s : Nat) (hn : n < Q) (hs : s ≤ 384) (w : World) :
    Calls Tryz.prog 248 #[W n, .int .i64 s] w fun e w' => e = .returned (W (n / 2 ^ s)) ∧ Below w.heap.size w w' := by
  unfold W
  have hat := cw_at 6
  have hz := cw6z
  have hf := cw6f
  have hx := ix6
  have hs0 := st0d
  have hsc := sc0d
  obtain ⟨q, hq⟩ : ∃ q, q = s / 64 := ⟨_, rfl⟩
  obtain ⟨r, hr⟩ : ∃ r, r = s % 64 := ⟨_, rfl⟩
  have hq1 : (s : Int) / 64 = (q : Int) := by omega
  have HR : Box ((s : Int) % 64 = (r : Int)) := box (by omega)
  have hr2 : r < 64 := by omega
  have hq2 : q ≤ 6 := by omega
  have HS : Box (s = 64 * q + r) := box (by omega)
  have hwr : IntKind.i64.wrap (64 - (s : Int) % 64) = 64 - (s : Int) % 64 := by rw [IntKind.wrap_i64]; omega
  clear hq hr
  go_enter Tryz.func248, Tryz.ntmps248
  go_wp2
  go_loopw [16] (fun i wr => ∃ (k X : Nat), k ≤ 6 ∧ i = .int .i64 k ∧ (∃ d, wr = ((w.alloc (.cells (cw 6 n) 62)).alloc (.cells (cw 6 X) 62)).drewN d) ∧ Box (X = (n % 2 ^ (64 * k)) / 2 ^ s)) (fun i _ => 6 - (intOf i).toNat)
  case atStart => exact ⟨0, 0, by omega, rfl, ⟨0, rfl⟩, box (by simp [Nat.mod_one])⟩
  case round =>
    obtain ⟨k, X, hk, rfl, ⟨d, rfl⟩, HE⟩ := hrel
    by_cases hlt : k < 6
    · obtain ⟨lo, hlo⟩ : ∃ lo, wd n k * 2 ^ (64 - r) % 18446744073709551616 = lo := ⟨_, rfl⟩
      obtain ⟨hi, hhi⟩ : ∃ hi, wd n k / 2 ^ r = hi := ⟨_, rfl⟩
      have hlo2 : lo < 18446744073709551616 := by rw [← hlo]; exact Nat.mod_lt _ (by decide)
      have hhi2 : hi < 18446744073709551616 := by rw [← hhi]; exact Nat.lt_of_le_of_lt (Nat.div_le_self _ _) (wd_lt n k)
      have ST := box (down_step n k s q r X lo hi HS.out hr2 HE.out hlo hhi)
      have HLO := box hlo
      have HHI := box hhi
      clear hlo hhi
      have hc1 : cnt ((s : Int) % 64) = r := by rw [HR.out]; exact cnt_small r hr2
      have hc2 : cnt (64 - (s : Int) % 64) = 64 - r := by rw [HR.out]; unfold cnt; omega
      by_cases h1 : q ≤ k
      · obtain ⟨t, ht⟩ : ∃ t, t = k - q := ⟨_, rfl⟩
        have ht1 : (k : Int) - (q : Int) = (t : Int) := by omega
        have ht6 : t < 6 := by omega
        have HT := box ht
        obtain ⟨X1, hX1⟩ : ∃ X1, X1 = X ||| hi * 2 ^ (64 * t) := ⟨_, rfl⟩
        have hb1 := bor X t hi hhi2
        have hw1 := cw_or 6 X t hi X1 ht6 hhi2 hX1
        have HX1 := box hX1
        clear hX1
        by_cases h2 : 1 ≤ t
        · obtain ⟨u, hu⟩ : ∃ u, u = t - 1 := ⟨_, rfl⟩
          have hu1 : (t : Int) - 1 = (u : Int) := by omega
          have hu6 : u < 6 := by omega
          have hu3 : (0 : Int) ≤ (u : Int) := by omega
          have E : Box (X ||| (hi * 2 ^ (64 * (k - q)) ||| lo * 2 ^ (64 * (k - q - 1))) = X1 ||| lo * 2 ^ (64 * u)) := box (by rw [HX1.out, show k - q - 1 = u by omega, show k - q = t by omega, Nat.or_assoc])
          have hqk : q < k := by omega
          clear ht hu
          obtain ⟨X2, hX2⟩ : ∃ X2, X2 = X1 ||| lo * 2 ^ (64 * u) := ⟨_, rfl⟩
          have hb2 := bor X1 u lo hlo2
          have hw2 := cw_or 6 X1 u lo X2 hu6 hlo2 hX2
          have HX2 := box hX2
          clear hX2
          go_wp2
          go_region_with (go_at_call 272; refine (right_is _ _ hi (by rw [hc1]; exact HHI.out) _).mono ?_; rintro e w' ⟨rfl, rfl⟩)
          all_goals go_wp2
          all_goals go_region_with (go_at_call 271; refine (left_is _ _ lo (by rw [hc2]; exact HLO.out) _).mono ?_; rintro e w' ⟨rfl, rfl⟩)
          all_goals go_wp2
          all_goals go_roundw
          all_goals first | (show (_ : Nat) < _; simp [intOf]; omega) | exact ⟨k + 1, X2, by omega, by go_num, ⟨_, rfl⟩, box (by rw [ST.out, if_pos hqk, E.out, HX2.out])⟩
        · obtain rfl : q = k := by omega
          obtain rfl : t = 0 := by omega
          have E : Box (X1 = X ||| hi) := box (by rw [HX1.out]; simp)
          clear ht
          go_wp2
          go_region_with (go_at_call 272; refine (right_is _ _ hi (by rw [hc1]; exact HHI.out) _).mono ?_; rintro e w' ⟨rfl, rfl⟩)
          all_goals go_wp2
          all_goals go_roundw
          all_goals first | (show (_ : Nat) < _; simp [intOf]; omega) | exact ⟨q + 1, X1, by omega, by go_num, ⟨_, rfl⟩, box (by rw [ST.out, E.out]; simp)⟩
      · have h4 : ¬ (0 : Int) ≤ (k : Int) - (q : Int) := by omega
        have h5 : ¬ (0 : Int) ≤ (k : Int) - (q : Int) - 1 := by omega
        go_wp2
        go_roundw
        case rel => exact ⟨k + 1, X, by omega, by go_num, ⟨_, rfl⟩, box (by rw [ST.out, if_neg (by omega), if_neg (by omega)])⟩
        case measure => simp [intOf]; omega
    · go_wp2
      have e := HE.out
      rw [wlow n k hn (by omega)] at e
      subst e
      exact bodyPost_ret (v := .agg (cw 6 (n / 2 ^ s))) (by simp [results, Tryz.results248, go_sem, hat, hf]) rfl ⟨rfl, below_drewN (((Below.refl _ _).alloc (Nat.le_refl _) _).alloc (by simp <;> omega) _) _⟩
end Go.Proofs.YtfmmeifipbpbmaaGreatDoor
namespace Go.Proofs.YtfmmeifipbpbmaaGreatDoor
set_option maxRecDepth 100000
open Go.RowKit WMath

/-- All worlds that have grown out of W, as the values of one function. -/
theorem below_fun (W : World) : ∃ F : World → World, (∀ u, Below W.heap.size W (F u)) ∧ (∀ u, Below W.heap.size W u → F u = u) := by
  classical
  refine ⟨fun u => if Below W.heap.size W u then u else W, fun u => ?_, fun u h => if_pos h⟩
  by_cases h : Below W.heap.size W u
  · simp only [h, if_true]
  · simp only [h, if_false]; exact Below.refl _ _

theorem wp_region_below {P : Program} {id : Nat} {Q : Exit → Act → World → Prop} {a : Act} {W : World} {l : List Oper} (F : World → World) (hF : ∀ u, Below W.heap.size W u → F u = u)
    (hm : P.follows .mixedOrders = true) (hB : Region.lexB .any l.toArray = true)
    (h : wpQuiet P l.toArray (fun w' => ∃ u, w' = F u) (fun a' => ∀ w', (∃ u, w' = F u) → Q .normal a' w') l a) : (Code.region id l.toArray true).wp P Q a W :=
  wp_region_quiet (C := fun w' => ∃ u, w' = F u) hm hB ⟨W.drew, (hF _ ((Below.refl _ _).drew)).symm⟩ (by simpa using h)

theorem quietF {P : Program} {f : Nat} {args : Array Value} {v : Value} {W : World} {F : World → World} (h1 : ∀ u, Below W.heap.size W (F u)) (h2 : ∀ u, Below W.heap.size W u → F u = u) {u : World}
    (h : Calls P f args (F u) fun e w' => e = .returned v ∧ Below (F u).heap.size (F u) w') : Calls P f args (F u) fun e w'' => e = .returned v ∧ ∃ u', w'' = F u' :=
  h.mono fun _ w' ⟨he, hm⟩ => ⟨he, w', (h2 _ ((h1 u).trans (hm.mono (h1 u).size))).symm⟩
theorem heap_of {W w1 : World} (hb : Below W.heap.size W w1) (b : Nat) (c : Array Value) (t : TypeId) (h : W.heap[b]? = some (.cells c t)) : w1.heap[b]? = some (.cells c t) := by
  rw [hb.block b (Array.getElem?_eq_some_iff.1 h).1, h]

theorem row_cell {w : World} {b n : Nat} (h : w.heap[b]? = some (.cells (cw 6 n) 62)) (o : Nat) (ho : o < 6) : w.cell? ⟨b, o, none⟩ = some (.int .u64 (wd n o : Nat)) := by
  rw [cell_of_row w b o _ _ _ h, cw_at 6 n o ho]
theorem setRow_row {w : World} {b : Nat} {c c' : Array Value} {t : TypeId} (h : w.heap[b]? = some (.cells c t)) : (w.setRow b c').heap[b]? = some (.cells c' t) := by
  simp [World.setRow, Array.getElem?_modify, h]
theorem setRow_other {w : World} {b b' : Nat} {c' : Array Value} (h : b ≠ b') : (w.setRow b c').heap[b']? = w.heap[b']? := by
  simp [World.setRow, Array.getElem?_modify, h]
theorem setRow_size {w : World} {b : Nat} {c' : Array Value} : (w.setRow b c').heap.size = w.heap.size := by
  simp [World.setRow]
theorem Below.setRow {B : Nat} {w w1 : World} {b : Nat} {c : Array Value} (h : Below B w w1) (hb : B ≤ b) : Below B w (w1.setRow b c) :=
  ⟨h.os, h.tape, h.output, by rw [setRow_size]; exact h.size, fun k hk => by rw [setRow_other (by omega)]; exact h.block k hk⟩

theorem st_same (w : World) (b x : Nat) (h : w.heap[b]? = some (.cells (cw 6 x) 62)) :
    (storeCells ⟨b, 0, none⟩ (cw 6 x).toList 0).run Tryz.prog w = .ok () w := by
  rw [st_any w b x x h, setRow_self w b _ _ _ h]

theorem eqItems6 (d x y : Nat) (w : World) : ∀ is : List Nat, (∀ i ∈ is, i < 6) → (Op.eqItems (d + 1) 23 1 (cw 6 x) (cw 6 y) is).run Tryz.prog w = .ok (is.all fun i => wd x i == wd y i) w
  | [], _ => rfl
  | i :: is, h => by
    have hi := h i (by simp)
    have ih := eqItems6 d x y w is (fun j hj => h j (by simp [hj]))
    have p1 : ∀ z : Nat, (part 23 (cw 6 z) (i * 1)).run Tryz.prog w = .ok (.int .u64 (wd z i : Nat)) w := fun z => by
      simp [part, cw_at 6 z i hi, go_sem]
    have e : ((wd x i : Int) == (wd y i : Int)) = (wd x i == wd y i) := by rw [Bool.eq_iff_iff]; simp only [beq_iff_eq]; omega
    simp only [Op.eqItems, Sem.run_bind, p1, Result.andThen_ok, run_equalIn_int _ d 23 .u64 .u64 _ _ Tryz.underlying23, e]
    cases he : wd x i == wd y i
    · simp [he]
    · simp [he, ih]

theorem eq6 (x y : Nat) (hx : x < Q) (hy : y < Q) (w : World) : (Op.equalIn 10000 62 (.agg (cw 6 x)) (.agg (cw 6 y))).run Tryz.prog w = .ok (decide (x = y)) w := by
  obtain ⟨i, hi⟩ : ∃ i, Tryz.prog.info? 23 = some i := by
    have : (Tryz.prog.info? 23).isSome = true := by kernel_rfl
    exact Option.isSome_iff_exists.1 this
  have hc : Tryz.prog.cellsOf 23 = 1 := by kernel_rfl
  rw [run_equalIn_array w 9999 (cw 6 x) (cw 6 y) Tryz.underlying62 hi, hc, eqItems6 9998 x y w (List.range 6) (fun i h => by simpa using h)]
  congr 1
  rw [Bool.eq_iff_iff, List.all_eq_true, decide_eq_true_iff]
  constructor
  · intro h
    obtain ⟨L, hL, hQ⟩ := Q_of
    rw [hQ] at hx hy
    exact wd_ext hx hy (fun k hk => by simpa using h k (by rw [hL] at hk; simpa using hk))
  · rintro rfl i _
    simp
theorem eqg6 : Tryz.prog.eqGuardType Tryz.prog.depth 62 = false := by kernel_rfl
end Go.Proofs.YtfmmeifipbpbmaaGreatDoor
namespace Go.Proofs.YtfmmeifipbpbmaaGreatDoor
set_option maxRecDepth 100000
open Go.RowKit WMath

theorem left_lost (n c x : Nat) (hx : x = n * 2 ^ c % Q) : (!decide (x / 2 ^ c = n)) = decide (Q ≤ n * 2 ^ c) := by
  by_cases h : n * 2 ^ c < Q
  · rw [hx, Nat.mod_eq_of_lt h, Nat.mul_div_cancel _ (Nat.two_pow_pos c), decide_eq_false (show ¬ Q ≤ n * 2 ^ c by omega)]
    simp
  · have h1 : x < Q := by rw [hx]; exact Nat.mod_lt _ Q_pos
    have h2 : x / 2 ^ c ≠ n := by
      intro e
      have := Nat.div_mul_le_self x (2 ^ c)
      rw [e] at this
      omega
    rw [decide_eq_true (show Q ≤ n * 2 ^ c by omega), decide_eq_false h2]
    rfl
theorem right_lost (n c : Nat) (hn : n < Q) : (!decide (n / 2 ^ c * 2 ^ c % Q = n)) = decide (n % 2 ^ c ≠ 0) := by
  have h1 := Nat.div_add_mod' n (2 ^ c)
  rw [Nat.mod_eq_of_lt (by omega)]
  by_cases h : n % 2 ^ c = 0
  · rw [decide_eq_true (show n / 2 ^ c * 2 ^ c = n by omega), decide_eq_false (by omega)]; rfl
  · rw [decide_eq_false (show ¬ n / 2 ^ c * 2 ^ c = n by omega), decide_eq_true h]; rfl

theorem wleft_any (n : Nat) (s : Int) (hn : n < Q) (w : World) :
    Calls Tryz.prog 173 #[W n, .int .i64 s] w fun e w' => e = .returned (.tuple #[W (n * 2 ^ cnt6 s % Q), .bool (decide (Q ≤ n * 2 ^ cnt6 s))]) ∧ Below w.heap.size w w' := by
  have hs6 : cnt6 s ≤ 384 := by unfold cnt6; omega
  obtain ⟨x, hx⟩ : ∃ x, x = n * 2 ^ cnt6 s % Q := ⟨_, rfl⟩
  have hxQ : x < Q := by rw [hx]; exact Nat.mod_lt _ Q_pos
  unfold W
  have hat := cw_at 6
  have hz := cw6z
  have hf := cw6f
  have hW : ∀ x, W x = .agg (cw 6 x) := fun _ => rfl
  have heq := eq6
  have hg := eqg6
  have hdQ : x / 2 ^ cnt6 s < Q := Nat.lt_of_le_of_lt (Nat.div_le_self _ _) hxQ
  rw [← hx]
  have HX := box hx
  clear hx
  go_enter Tryz.func173, Tryz.ntmps173
  go_wp2_with (first | (go_at_call 247; refine (wcount_any _ _).mono ?_; rintro e w' ⟨rfl, rfl⟩))
  refine (wup_any n (cnt6 s) hn hs6 _).mono ?_
  rintro e w1 ⟨rfl, hb1⟩
  rw [← HX.out]
  unfold W
  have hr0 : w1.heap[w.heap.size]? = some (.cells (cw 6 n) 62) := heap_of hb1 _ _ _ (by rw [heap_below _ _ _ (by simp)]; exact heap_alloc_last w _)
  have hr1 : w1.heap[w.heap.size + 1]? = some (.cells (cw 6 0) 62) := heap_of hb1 _ _ _ (by rw [← size_al]; exact heap_alloc_last _ _)
  obtain ⟨w2, hw2⟩ : ∃ w2, w2 = w1.setRow (w.heap.size + 1) (cw 6 x) := ⟨_, rfl⟩
  have hst : (storeCells ⟨w.heap.size + 1, 0, none⟩ (cw 6 x).toList 0).run Tryz.prog w1 = .ok () w2 := by rw [hw2]; exact st_any w1 _ x 0 hr1
  have hq0 : w2.heap[w.heap.size]? = some (.cells (cw 6 n) 62) := by rw [hw2, setRow_other (by omega)]; exact hr0
  have hq1 : w2.heap[w.heap.size + 1]? = some (.cells (cw 6 x) 62) := by rw [hw2]; exact setRow_row hr1
  have hbw : Below w.heap.size w w2 := by
    rw [hw2]
    exact Below.setRow ((((Below.refl _ _).alloc (Nat.le_refl _) _).alloc (by simp) _).trans (hb1.mono (by simp <;> omega))) (by omega)
  have hs2 : w.heap.size + 1 < w2.heap.size := (Array.getElem?_eq_some_iff.1 hq1).1
  clear hb1 hr0 hr1 hw2
  obtain ⟨F, hF1, hF2⟩ := below_fun w2
  have hFn : ∀ u o, o < 6 → (F u).cell? ⟨w.heap.size, o, none⟩ = some (.int .u64 (wd n o : Nat)) := fun u => row_cell (heap_of (hF1 u) _ _ _ hq0)
  have hFx : ∀ u o, o < 6 → (F u).cell? ⟨w.heap.size + 1, o, none⟩ = some (.int .u64 (wd x o : Nat)) := fun u => row_cell (heap_of (hF1 u) _ _ _ hq1)
  have hFs : ∀ u, (storeCells ⟨w.heap.size + 1, 0, none⟩ (cw 6 x).toList 0).run Tryz.prog (F u) = .ok () (F u) := fun u => st_same _ _ _ (heap_of (hF1 u) _ _ _ hq1)
  go_wp2
  refine wp_region_below F hF2 (by kernel_rfl) (by kernel_rfl) ?_
  repeat quiet_step ((go_at_call 248; exact quietF hF1 hF2 (wdown_any x (cnt6 s) hxQ hs6 _)))
  refine wpQuiet_nil ?_
  rintro _ ⟨u, rfl⟩
  go_wp2
  exact bodyPost_ret (v := .tuple #[.agg (cw 6 x), .bool (!decide (x / 2 ^ cnt6 s = n))]) (by simp [results, Tryz.results173, go_sem, hFx, hf]) rfl ⟨by rw [left_lost n _ x HX.out], hbw.trans ((hF1 u).mono (by omega))⟩
theorem wright_any (n : Nat) (s : Int) (hn : n < Q) (w : World) :
    Calls Tryz.prog 263 #[W n, .int .i64 s] w fun e w' => e = .returned (.tuple #[W (n / 2 ^ cnt6 s), .bool (decide (n % 2 ^ cnt6 s ≠ 0))]) ∧ Below w.heap.size w w' := by
  have hs6 : cnt6 s ≤ 384 := by unfold cnt6; omega
  obtain ⟨x, hx⟩ : ∃ x, x = n / 2 ^ cnt6 s := ⟨_, rfl⟩
  have hxQ : x < Q := by rw [hx]; exact Nat.lt_of_le_of_lt (Nat.div_le_self _ _) hn
  unfold W
  have hat := cw_at 6
  have hz := cw6z
  have hf := cw6f
  have hW : ∀ x, W x = .agg (cw 6 x) := fun _ => rfl
  have heq := eq6
  have hg := eqg6
  have hdQ : x * 2 ^ cnt6 s % Q < Q := Nat.mod_lt _ Q_pos
  rw [← hx]
  have HX := box hx
  clear hx
  go_enter Tryz.func263, Tryz.ntmps263
  go_wp2_with (first | (go_at_call 247; refine (wcount_any _ _).mono ?_; rintro e w' ⟨rfl, rfl⟩))
  refine (wdown_any n (cnt6 s) hn hs6 _).mono ?_
  rintro e w1 ⟨rfl, hb1⟩
  rw [← HX.out]
  unfold W
  have hr0 : w1.heap[w.heap.size]? = some (.cells (cw 6 n) 62) := heap_of hb1 _ _ _ (by rw [heap_below _ _ _ (by simp)]; exact heap_alloc_last w _)
  have hr1 : w1.heap[w.heap.size + 1]? = some (.cells (cw 6 0) 62) := heap_of hb1 _ _ _ (by rw [← size_al]; exact heap_alloc_last _ _)
  obtain ⟨w2, hw2⟩ : ∃ w2, w2 = w1.setRow (w.heap.size + 1) (cw 6 x) := ⟨_, rfl⟩
  have hst : (storeCells ⟨w.heap.size + 1, 0, none⟩ (cw 6 x).toList 0).run Tryz.prog w1 = .ok () w2 := by rw [hw2]; exact st_any w1 _ x 0 hr1
  have hq0 : w2.heap[w.heap.size]? = some (.cells (cw 6 n) 62) := by rw [hw2, setRow_other (by omega)]; exact hr0
  have hq1 : w2.heap[w.heap.size + 1]? = some (.cells (cw 6 x) 62) := by rw [hw2]; exact setRow_row hr1
  have hbw : Below w.heap.size w w2 := by
    rw [hw2]
    exact Below.setRow ((((Below.refl _ _).alloc (Nat.le_refl _) _).alloc (by simp) _).trans (hb1.mono (by simp <;> omega))) (by omega)
  have hs2 : w.heap.size + 1 < w2.heap.size := (Array.getElem?_eq_some_iff.1 hq1).1
  clear hb1 hr0 hr1 hw2
  obtain ⟨F, hF1, hF2⟩ := below_fun w2
  have hFn : ∀ u o, o < 6 → (F u).cell? ⟨w.heap.size, o, none⟩ = some (.int .u64 (wd n o : Nat)) := fun u => row_cell (heap_of (hF1 u) _ _ _ hq0)
  have hFx : ∀ u o, o < 6 → (F u).cell? ⟨w.heap.size + 1, o, none⟩ = some (.int .u64 (wd x o : Nat)) := fun u => row_cell (heap_of (hF1 u) _ _ _ hq1)
  have hFs : ∀ u, (storeCells ⟨w.heap.size + 1, 0, none⟩ (cw 6 x).toList 0).run Tryz.prog (F u) = .ok () (F u) := fun u => st_same _ _ _ (heap_of (hF1 u) _ _ _ hq1)
  go_wp2
  refine wp_region_below F hF2 (by kernel_rfl) (by kernel_rfl) ?_
  repeat quiet_step ((go_at_call 215; exact quietF hF1 hF2 (wup_any x (cnt6 s) hxQ hs6 _)))
  refine wpQuiet_nil ?_
  rintro _ ⟨u, rfl⟩
  go_wp2
  exact bodyPost_ret (v := .tuple #[.agg (cw 6 x), .bool (!decide (x * 2 ^ cnt6 s % Q = n))]) (by simp [results, Tryz.results263, go_sem, hFx, hf]) rfl ⟨by rw [HX.out, right_lost n _ hn], hbw.trans ((hF1 u).mono (by omega))⟩
theorem wleft_is (n v : Nat) (s : Int) (o : Bool) (hn : n < Q) (hv : n * 2 ^ cnt6 s % Q = v) (ho : decide (Q ≤ n * 2 ^ cnt6 s) = o) (w : World) :
    Calls Tryz.prog 173 #[.agg (cw 6 n), .int .i64 s] w fun e w' => e = .returned (.tuple #[.agg (cw 6 v), .bool o]) ∧ Below w.heap.size w w' := by
  subst hv; subst ho; exact wleft_any n s hn w
theorem wright_is (n v : Nat) (s : Int) (o : Bool) (hn : n < Q) (hv : n / 2 ^ cnt6 s = v) (ho : decide (n % 2 ^ cnt6 s ≠ 0) = o) (w : World) :
    Calls Tryz.prog 263 #[.agg (cw 6 n), .int .i64 s] w fun e w' => e = .returned (.tuple #[.agg (cw 6 v), .bool o]) ∧ Below w.heap.size w w' := by
  subst hv; subst ho; exact wright_any n s hn w
end Go.Proofs.YtfmmeifipbpbmaaGreatDoor
namespace Go.Proofs.YtfmmeifipbpbmaaGreatDoor
set_option maxRecDepth 100000
open Go.RowKit WMath

theorem add_is (a b : Nat) (c : Bool) (s : Nat) (o : Bool) (ha : a < 18446744073709551616) (hb : b < 18446744073709551616) (hs : (a + b + c.toNat) % 18446744073709551616 = s) (ho : decide (18446744073709551616 ≤ a + b + c.toNat) = o) (w : World) :
    Calls Tryz.prog 254 #[.int .u64 a, .int .u64 b, .bool c] w fun e w' => e = .returned (.tuple #[.int .u64 (s : Nat), .bool o]) ∧ w' = w := by
  subst hs; subst ho; exact add_any a b c ha hb w
theorem mul_is (x y h l : Nat) (hx : x < 18446744073709551616) (hy : y < 18446744073709551616) (hh : x * y / 18446744073709551616 = h) (hl : x * y % 18446744073709551616 = l) (w : World) :
    Calls Tryz.prog 336 #[.int .u64 x, .int .u64 y] w fun e w' => e = .returned (.tuple #[.int .u64 (h : Nat), .int .u64 (l : Nat)]) ∧ w' = w := by
  subst hh; subst hl; exact mul_any x y hx hy w

end Go.Proofs.YtfmmeifipbpbmaaGreatDoor
namespace Go.Proofs.YtfmmeifipbpbmaaGreatDoor
set_option maxRecDepth 100000
open Go.RowKit WMath

theorem len_is (x l : Nat) (hx : x < 18446744073709551616) (hl : blen x = l) (w : World) :
    Calls Tryz.prog 246 #[.int .u64 x] w fun e w' => e = .returned (.int .i64 (l : Nat)) ∧ w' = w := by
  subst hl; rw [← bitLen_blen x hx]; exact len_any x hx w

theorem wlen_any (n : Nat) (hn : n < Q) (w : World) :
    Calls Tryz.prog 171 #[W n] w fun e w' => e = .returned (.int .i64 (blen n : Nat)) ∧ Below w.heap.size w w' := by
  unfold W
  have hat := cw_at 6
  have hf := cw6f
  have hx := ix6
  go_enter Tryz.func171, Tryz.ntmps171
  go_wp2
  go_loop [3, 7] (fun r i => ∃ (k l : Nat), k ≤ 6 ∧ i = .int .i64 k ∧ r = .int .i64 l ∧ Box (l = blen (n % 2 ^ (64 * k)))) (fun _ i => 6 - (intOf i).toNat)
  case atStart => exact ⟨0, 0, by omega, rfl, rfl, box (by rw [Nat.mul_zero, Nat.pow_zero, Nat.mod_one, blen_zero])⟩
  case round =>
    obtain ⟨k, l, hk, rfl, rfl, HE⟩ := hrel
    by_cases hlt : k < 6
    · have ST := box (blen_step n k)
      obtain ⟨x, hxe⟩ : ∃ x, wd n k = x := ⟨_, rfl⟩
      have hx2 : x < 18446744073709551616 := by rw [← hxe]; exact wd_lt n k
      have hbl : blen x ≤ 64 := blen_le_of x 64 (by rw [← two64]; exact hx2)
      obtain ⟨b, hb⟩ : ∃ b, blen x = b := ⟨_, rfl⟩
      rw [hb] at hbl
      have HB := box hb
      have HX := box hxe
      clear hb
      by_cases h0 : x = 0
      · subst h0
        go_wp2
        go_round
        case rel => exact ⟨k + 1, l, by omega, by go_num, rfl, box (by rw [ST.out, HX.out, if_pos rfl]; exact HE.out)⟩
        case measure => simp [intOf]; omega
      · go_wp2_with (go_at_call 246; refine (len_is x b hx2 HB.out _).mono ?_; rintro e w' ⟨rfl, rfl⟩)
        go_round
        case rel => exact ⟨k + 1, 64 * k + b, by omega, by go_num, by go_num, box (by rw [ST.out, HX.out, if_neg h0, HB.out])⟩
        case measure => simp [intOf]; omega
    · go_wp2
      go_ret
      exact ⟨ret_int (by rw [HE.out, wlow n k hn (by omega)]), (Below.refl _ _).alloc (Nat.le_refl _) _⟩

theorem wfield_any (n low c : Nat) (hl : low < 384) (hc : low % 64 + c ≤ 64) (w : World) :
    Calls Tryz.prog 204 #[W n, .int .i64 low, .int .i64 c] w fun e w' => e = .returned (.int .u64 (n / 2 ^ low % 2 ^ c : Nat)) ∧ Below w.heap.size w w' := by
  unfold W
  have hat := cw_at 6
  obtain ⟨q, hq⟩ : ∃ q, q = low / 64 := ⟨_, rfl⟩
  obtain ⟨r, hr⟩ : ∃ r, r = low % 64 := ⟨_, rfl⟩
  have hq1 : (low : Int) / 64 = (q : Int) := by omega
  have hq2 : q < 6 := by omega
  have HR : Box ((low : Int) % 64 = (r : Int)) := box (by omega)
  have hr2 : r < 64 := by omega
  have hrc : r + c ≤ 64 := by omega
  have HF := box (field_num n q r c low (by omega) hrc)
  clear hq hr hc
  go_enter Tryz.func204, Tryz.ntmps204
  go_wp2_with (go_at_call 267; refine (field_any (wd n q) _ _ (wd_lt _ _) _).mono ?_; rintro e w' ⟨rfl, rfl⟩)
  go_ret
  refine ⟨ret_int ?_, (Below.refl _ _).alloc (Nat.le_refl _) _⟩
  rw [← HF.out]
  have e1 : cnt ((low : Int) % 64) = r := by rw [HR.out]; exact cnt_small r hr2
  have e2 : cnt (c : Int) = c := by unfold cnt; omega
  rw [e1, e2]
  simp
end Go.Proofs.YtfmmeifipbpbmaaGreatDoor
namespace Go.Proofs.YtfmmeifipbpbmaaGreatDoor
set_option maxRecDepth 100000
open Go.RowKit WMath

/-- Bytes, as cells. -/
def cb (l : List UInt8) : Array Value := (l.map fun b => Value.int .u8 (b.toNat : Int)).toArray

theorem cb_at (l : List UInt8) (k : Nat) (b : UInt8) (h : l[k]? = some b) : (cb l)[k]? = some (.int .u8 (b.toNat : Int)) := by simp [cb, h]
theorem cb_size (l : List UInt8) : (cb l).size = l.length := by simp [cb]
/-- The first k letters written, noughts behind. -/
def wt (L n k : Nat) : List UInt8 := (hxs L n).take k ++ List.replicate (L - k) 0
theorem fz {w : World} {b k : Nat} {c : Array Value} {t : TypeId} (h : w.heap[b]? = some (.cells c t)) : w.frozen? ⟨b, k, none⟩ = false := by simp [World.frozen?, h]
theorem setCell_row {w : World} {b k : Nat} {c : Array Value} {t : TypeId} {v : Value} (h : w.heap[b]? = some (.cells c t)) : (w.setCell ⟨b, k, none⟩ v).heap[b]? = some (.cells (c.setIfInBounds k v) t) := by
  simp [World.setCell, Array.getElem?_modify, h]
theorem setCell_other {w : World} {b b' k : Nat} {v : Value} (h : b ≠ b') : (w.setCell ⟨b, k, none⟩ v).heap[b']? = w.heap[b']? := by
  simp [World.setCell, Array.getElem?_modify, h]
theorem fold_bytes : ∀ (l : List UInt8) (a : Array UInt8), ((l.map fun b => (b.toNat : Int)).foldl (fun r n => r.push (UInt8.ofNat n.toNat)) (⟨a⟩ : ByteArray)) = ⟨a ++ l.toArray⟩
  | [], a => by simp
  | x :: l, a => by
    have := fold_bytes l (a.push x)
    simp only [List.map_cons, List.foldl_cons, Int.toNat_natCast, UInt8.ofNat_toNat]
    rw [show (ByteArray.mk a).push x = ⟨a.push x⟩ from rfl, this]
    simp
theorem str_of {w : World} {b c : Nat} {l : List UInt8} {t : TypeId} (h : w.heap[b]? = some (.cells (cb l) t)) :
    (convert 128 9 (.slice (some ⟨b, 0, none⟩) l.length c)).run Tryz.prog w = .ok (.string ⟨l.toArray⟩) w := by
  rw [run_convert_bytes_string w 128 9 5 _ _ _ Tryz.underlying128 Tryz.underlying5 Tryz.underlying9]
  have hl := run_loadCells_list (P := Tryz.prog) w ⟨b, 0, none⟩ (l.map fun x => Value.int .u8 (x.toNat : Int)) (fun j v hv => by
    have hadd : (⟨b, 0, none⟩ : Addr).add j = ⟨b, j, none⟩ := by unfold Addr.add; split <;> simp_all
    rw [hadd, cell_of_row w b j _ _ _ h]
    simpa [cb] using hv)
  rw [List.length_map] at hl
  rw [run_bytesToString (P := Tryz.prog) w ⟨b, 0, none⟩ l.length c (l.map fun x => (x.toNat : Int)) (by rw [hl]; simp), show ByteArray.empty = ⟨#[]⟩ from rfl, fold_bytes]
  simp

end Go.Proofs.YtfmmeifipbpbmaaGreatDoor
namespace Go.Proofs.YtfmmeifipbpbmaaGreatDoor
set_option maxRecDepth 100000
open Go.RowKit WMath

theorem wadd_is (n m v : Nat) (o : Bool) (hn : n < Q) (hm : m < Q) (hv : (n + m) % Q = v) (ho : decide (Q ≤ n + m) = o) (w : World) :
    Calls Tryz.prog 177 #[.agg (cw 6 n), .agg (cw 6 m)] w fun e w' => e = .returned (.tuple #[.agg (cw 6 v), .bool o]) ∧ Below w.heap.size w w' := by
  subst hv; subst ho; exact wadd_any n m hn hm w
theorem wsub_is (n m v : Nat) (o : Bool) (hn : n < Q) (hm : m < Q) (hv : (n + Q - m) % Q = v) (ho : decide (n < m) = o) (w : World) :
    Calls Tryz.prog 262 #[.agg (cw 6 n), .agg (cw 6 m)] w fun e w' => e = .returned (.tuple #[.agg (cw 6 v), .bool o]) ∧ Below w.heap.size w w' := by
  subst hv; subst ho; exact wsub_any n m hn hm w
theorem Q_big : 1000000 < Q := by
  obtain ⟨L, hL, hQ⟩ := Q_of
  rw [hQ]
  have : 2 ^ 20 ≤ 2 ^ (64 * L) := Nat.pow_le_pow_right (by decide) (by omega)
  have e : (2 : Nat) ^ 20 = 1048576 := by decide
  omega
theorem wof_al (n : Nat) (hn : n < 18446744073709551616) (w : World) : Calls Tryz.prog 178 #[.int .u64 n] w fun e w' => e = .returned (.agg (cw 6 n)) ∧ Below w.heap.size w w' := wof_any n hn w
end Go.Proofs.YtfmmeifipbpbmaaGreatDoor
