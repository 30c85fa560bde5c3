/-
  What Len returns, for every word; and that the four answers which each statement asks for first are found.
-/
import Derived.Test.YtjedplbhhohfmaaWord2
import Derived.Test.YtjedplbhhohfmaaWord3
import Derived.Lib.BitFns
namespace Go.Proofs.Ytjedplbhhohfmaa
open Go.RowKit WMath

theorem fold_len : (⟨(((List.append (List.append [0, 1, 2, 2, 3, 3, 3, 3, 4, 4, 4, 4, 4, 4, 4, 4, 5, 5, 5, 5, 5, 5, 5, 5, 5, 5, 5, 5, 5, 5, 5, 5, 6, 6, 6, 6, 6, 6, 6, 6, 6, 6, 6, 6, 6, 6, 6, 6, 6, 6, 6, 6, 6, 6, 6, 6, 6, 6, 6, 6, 6, 6, 6, 6] [7, 7, 7, 7, 7, 7, 7, 7, 7, 7, 7, 7, 7, 7, 7, 7, 7, 7, 7, 7, 7, 7, 7, 7, 7, 7, 7, 7, 7, 7, 7, 7, 7, 7, 7, 7, 7, 7, 7, 7, 7, 7, 7, 7, 7, 7, 7, 7, 7, 7, 7, 7, 7, 7, 7, 7, 7, 7, 7, 7, 7, 7, 7, 7]) (List.append [8, 8, 8, 8, 8, 8, 8, 8, 8, 8, 8, 8, 8, 8, 8, 8, 8, 8, 8, 8, 8, 8, 8, 8, 8, 8, 8, 8, 8, 8, 8, 8, 8, 8, 8, 8, 8, 8, 8, 8, 8, 8, 8, 8, 8, 8, 8, 8, 8, 8, 8, 8, 8, 8, 8, 8, 8, 8, 8, 8, 8, 8, 8, 8] [8, 8, 8, 8, 8, 8, 8, 8, 8, 8, 8, 8, 8, 8, 8, 8, 8, 8, 8, 8, 8, 8, 8, 8, 8, 8, 8, 8, 8, 8, 8, 8, 8, 8, 8, 8, 8, 8, 8, 8, 8, 8, 8, 8, 8, 8, 8, 8, 8, 8, 8, 8, 8, 8, 8, 8, 8, 8, 8, 8, 8, 8, 8, 8])) : List UInt8).toArray)⟩ : ByteArray) = Lib.len8tab := by decide +kernel

theorem len_fact {P : Program} (w : World) (t : TypeId) (i : Int) (h : P.underlying t = some .string) (h0 : 0 ≤ i) (h1 : i ≤ 255) :
    (Instr.index t (.string Lib.len8tab) (.int .u8 i)).run P w = .ok (.int .u8 (Lib.bitLen i.toNat : Nat)) w := by
  rw [Lib.run_index_len8tab w t .u8 i h h0 h1, Lib.len8_of i h0 h1]

set_option maxHeartbeats 4000000 in
set_option maxRecDepth 100000 in
theorem len64_int (x : Int) (h0 : 0 ≤ x) (h1 : x ≤ 18446744073709551615) (w : World) :
    Calls Try.prog 75 #[.int .u64 x] w fun e w' => e = .returned (.int .i64 (Lib.bitLen x.toNat : Nat)) ∧ w' = w := by
  go_enter Try.func75, Try.ntmps75
  rw [fold_len]
  by_cases c1 : 4294967296 ≤ x
  · by_cases c2 : 65536 ≤ x / 4294967296
    · by_cases c3 : 256 ≤ x / 4294967296 / 65536
      · have hx : ∀ w, (Instr.index 9 (.string Lib.len8tab) (.int .u8 (x / 4294967296 / 65536 / 256))).run Try.prog w = .ok (.int .u8 (Lib.bitLen (x / 4294967296 / 65536 / 256).toNat : Nat)) w := fun w => len_fact w 9 (x / 4294967296 / 65536 / 256) Try.underlying9 (by omega) (by omega)
        have l := Lib.bitLen_le8' (x / 4294967296 / 65536 / 256) (by omega) (by omega)
        have s := hide (Lib.bitLen_shift56 x.toNat (by omega) (by omega))
        have e := hide (show (x / 4294967296 / 65536 / 256).toNat = x.toNat / 72057594037927936 by omega)
        go_wp2
        go_ret
        exact ⟨ret_int (by have := s.out; have := e.out; rw [s.out, e.out]; omega), rfl⟩
      · have hx : ∀ w, (Instr.index 9 (.string Lib.len8tab) (.int .u8 (x / 4294967296 / 65536))).run Try.prog w = .ok (.int .u8 (Lib.bitLen (x / 4294967296 / 65536).toNat : Nat)) w := fun w => len_fact w 9 (x / 4294967296 / 65536) Try.underlying9 (by omega) (by omega)
        have l := Lib.bitLen_le8' (x / 4294967296 / 65536) (by omega) (by omega)
        have s := hide (Lib.bitLen_shift48 x.toNat (by omega) (by omega))
        have e := hide (show (x / 4294967296 / 65536).toNat = x.toNat / 281474976710656 by omega)
        go_wp2
        go_ret
        exact ⟨ret_int (by have := s.out; have := e.out; rw [s.out, e.out]; omega), rfl⟩
    · by_cases c3 : 256 ≤ x / 4294967296
      · have hx : ∀ w, (Instr.index 9 (.string Lib.len8tab) (.int .u8 (x / 4294967296 / 256))).run Try.prog w = .ok (.int .u8 (Lib.bitLen (x / 4294967296 / 256).toNat : Nat)) w := fun w => len_fact w 9 (x / 4294967296 / 256) Try.underlying9 (by omega) (by omega)
        have l := Lib.bitLen_le8' (x / 4294967296 / 256) (by omega) (by omega)
        have s := hide (Lib.bitLen_shift40 x.toNat (by omega) (by omega))
        have e := hide (show (x / 4294967296 / 256).toNat = x.toNat / 1099511627776 by omega)
        go_wp2
        go_ret
        exact ⟨ret_int (by have := s.out; have := e.out; rw [s.out, e.out]; omega), rfl⟩
      · have hx : ∀ w, (Instr.index 9 (.string Lib.len8tab) (.int .u8 (x / 4294967296))).run Try.prog w = .ok (.int .u8 (Lib.bitLen (x / 4294967296).toNat : Nat)) w := fun w => len_fact w 9 (x / 4294967296) Try.underlying9 (by omega) (by omega)
        have l := Lib.bitLen_le8' (x / 4294967296) (by omega) (by omega)
        have s := hide (Lib.bitLen_shift32 x.toNat (by omega) (by omega))
        have e := hide (show (x / 4294967296).toNat = x.toNat / 4294967296 by omega)
        go_wp2
        go_ret
        exact ⟨ret_int (by have := s.out; have := e.out; rw [s.out, e.out]; omega), rfl⟩
  · by_cases c2 : 65536 ≤ x
    · by_cases c3 : 256 ≤ x / 65536
      · have hx : ∀ w, (Instr.index 9 (.string Lib.len8tab) (.int .u8 (x / 65536 / 256))).run Try.prog w = .ok (.int .u8 (Lib.bitLen (x / 65536 / 256).toNat : Nat)) w := fun w => len_fact w 9 (x / 65536 / 256) Try.underlying9 (by omega) (by omega)
        have l := Lib.bitLen_le8' (x / 65536 / 256) (by omega) (by omega)
        have s := hide (Lib.bitLen_shift24 x.toNat (by omega) (by omega))
        have e := hide (show (x / 65536 / 256).toNat = x.toNat / 16777216 by omega)
        go_wp2
        go_ret
        exact ⟨ret_int (by have := s.out; have := e.out; rw [s.out, e.out]; omega), rfl⟩
      · have hx : ∀ w, (Instr.index 9 (.string Lib.len8tab) (.int .u8 (x / 65536))).run Try.prog w = .ok (.int .u8 (Lib.bitLen (x / 65536).toNat : Nat)) w := fun w => len_fact w 9 (x / 65536) Try.underlying9 (by omega) (by omega)
        have l := Lib.bitLen_le8' (x / 65536) (by omega) (by omega)
        have s := hide (Lib.bitLen_shift16 x.toNat (by omega) (by omega))
        have e := hide (show (x / 65536).toNat = x.toNat / 65536 by omega)
        go_wp2
        go_ret
        exact ⟨ret_int (by have := s.out; have := e.out; rw [s.out, e.out]; omega), rfl⟩
    · by_cases c3 : 256 ≤ x
      · have hx : ∀ w, (Instr.index 9 (.string Lib.len8tab) (.int .u8 (x / 256))).run Try.prog w = .ok (.int .u8 (Lib.bitLen (x / 256).toNat : Nat)) w := fun w => len_fact w 9 (x / 256) Try.underlying9 (by omega) (by omega)
        have l := Lib.bitLen_le8' (x / 256) (by omega) (by omega)
        have s := hide (Lib.bitLen_shift8 x.toNat (by omega) (by omega))
        have e := hide (show (x / 256).toNat = x.toNat / 256 by omega)
        go_wp2
        go_ret
        exact ⟨ret_int (by have := s.out; have := e.out; rw [s.out, e.out]; omega), rfl⟩
      · have hx : ∀ w, (Instr.index 9 (.string Lib.len8tab) (.int .u8 (x))).run Try.prog w = .ok (.int .u8 (Lib.bitLen (x).toNat : Nat)) w := fun w => len_fact w 9 (x) Try.underlying9 (by omega) (by omega)
        have l := Lib.bitLen_le8' (x) (by omega) (by omega)
        go_wp2
        go_ret
        exact ⟨ret_int (by omega), rfl⟩

theorem len64_any (x : Nat) (hx : x < 18446744073709551616) (w : World) :
    Calls Try.prog 75 #[.int .u64 x] w fun e w' => e = .returned (.int .i64 (Lib.bitLen x : Nat)) ∧ w' = w := by
  have h := len64_int (x : Int) (by omega) (by omega) w
  rw [Int.toNat_natCast] at h
  exact h

theorem len_any (x : Nat) (hx : x < 18446744073709551616) (w : World) :
    Calls Try.prog 59 #[.int .u64 x] w fun e w' => e = .returned (.int .i64 (Lib.bitLen x : Nat)) ∧ w' = w := by
  go_enter Try.func59, Try.ntmps59
  go_wp2_with (go_at_call 75; refine (len64_any _ hx _).mono ?_; rintro e w' ⟨rfl, rfl⟩)
  go_ret
  exact ⟨rfl, rfl⟩

theorem al_add (w : World) : Calls Try.prog 71 #[.int .u64 18446744073709551615, .int .u64 0, .bool true] w fun e w' => e = .returned (.tuple #[.int .u64 0, .bool true]) ∧ w' = w :=
  (add_any 18446744073709551615 0 true (by omega) (by omega) w).mono (fun e w' h => ⟨by rw [h.1]; exact ret_ib (by decide) (by decide), h.2⟩)
theorem al_mul (w : World) : Calls Try.prog 83 #[.int .u64 9223372036854775808, .int .u64 4] w fun e w' => e = .returned (.tuple #[.int .u64 2, .int .u64 0]) ∧ w' = w :=
  (mul_any 9223372036854775808 4 (by omega) (by omega) w).mono (fun e w' h => ⟨by rw [h.1]; exact ret_ii (by decide) (by decide), h.2⟩)
theorem al_len (w : World) : Calls Try.prog 59 #[.int .u64 8] w fun e w' => e = .returned (.int .i64 4) ∧ w' = w :=
  (len_any 8 (by omega) w).mono (fun e w' h => ⟨by rw [h.1]; exact ret_int (by decide +kernel), h.2⟩)
end Go.Proofs.Ytjedplbhhohfmaa
