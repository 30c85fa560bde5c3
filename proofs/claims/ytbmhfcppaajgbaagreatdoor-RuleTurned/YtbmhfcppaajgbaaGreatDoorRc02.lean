/-
  What the functions that the statement reaches return: part 2 (Word5, Pop, Rlen0, Rlow, Bits1, Wide0, Quiet2, Wide5, Wide7, Wide9, Frame6, Quot2, Rlen, Rquot1, Nat0, Nat1, Nat2, Nat3).
-/
import Derived.Lib.BitFns
import Derived.Lib.TrailingZeros
import Derived.Deep.WholeRow
import Derived.Below
import Derived.Deep.QuietTactic
import Derived.BigQuiet
import Derived.ChangeKeysEq
import Derived.Deep.RegionWith
import Derived.Deep.RegionLaw
import Derived.Laws.CopyOwn
import Derived.Deep.OwnRows
import Derived.Laws.BytesString
import Derived.Test.YtbmhfcppaajgbaaGreatDoorRows
import Derived.WalkKit
import Derived.ProofKit
import Derived.OpenShut
import Derived.Laws.IdiomArrays
import Derived.Carry
import Derived.RegionTactic
import Derived.Laws.Cover1
import Derived.Test.YtbmhfcppaajgbaaGreatDoorRc01
namespace Go.Proofs.YtbmhfcppaajgbaaGreatDoor
set_option maxRecDepth 100000
open Go.RowKit WMath

theorem fold_len : (⟨(((List.append (List.append [0, 1, 2, 2, 3, 3, 3, 3, 4, 4, 4, 4, 4, 4, 4, 4, 5, 5, 5, 5, 5, 5, 5, 5, 5, 5, 5, 5, 5, 5, 5, 5, 6, 6, 6, 6, 6, 6, 6, 6, 6, 6, 6, 6, 6, 6, 6, 6, 6, 6, 6, 6, 6, 6, 6, 6, 6, 6, 6, 6, 6, 6, 6, 6] [7, 7, 7, 7, 7, 7, 7, 7, 7, 7, 7, 7, 7, 7, 7, 7, 7, 7, 7, 7, 7, 7, 7, 7, 7, 7, 7, 7, 7, 7, 7, 7, 7, 7, 7, 7, 7, 7, 7, 7, 7, 7, 7, 7, 7, 7, 7, 7, 7, 7, 7, 7, 7, 7, 7, 7, 7, 7, 7, 7, 7, 7, 7, 7]) (List.append [8, 8, 8, 8, 8, 8, 8, 8, 8, 8, 8, 8, 8, 8, 8, 8, 8, 8, 8, 8, 8, 8, 8, 8, 8, 8, 8, 8, 8, 8, 8, 8, 8, 8, 8, 8, 8, 8, 8, 8, 8, 8, 8, 8, 8, 8, 8, 8, 8, 8, 8, 8, 8, 8, 8, 8, 8, 8, 8, 8, 8, 8, 8, 8] [8, 8, 8, 8, 8, 8, 8, 8, 8, 8, 8, 8, 8, 8, 8, 8, 8, 8, 8, 8, 8, 8, 8, 8, 8, 8, 8, 8, 8, 8, 8, 8, 8, 8, 8, 8, 8, 8, 8, 8, 8, 8, 8, 8, 8, 8, 8, 8, 8, 8, 8, 8, 8, 8, 8, 8, 8, 8, 8, 8, 8, 8, 8, 8])) : List UInt8).toArray)⟩ : ByteArray) = Lib.len8tab := by decide +kernel

theorem len_fact {P : Program} (w : World) (t : TypeId) (i : Int) (h : P.underlying t = some .string) (h0 : 0 ≤ i) (h1 : i ≤ 255) :
    (Instr.index t (.string Lib.len8tab) (.int .u8 i)).run P w = .ok (.int .u8 (Lib.bitLen i.toNat : Nat)) w := by
  rw [Lib.run_index_len8tab w t .u8 i h h0 h1, Lib.len8_of i h0 h1]

set_option maxHeartbeats 4000000 in
set_option maxRecDepth 100000 in
theorem len64_int (x : Int) (h0 : 0 ≤ x) (h1 : x ≤ 18446744073709551615) (w : World) :
    Calls Tryz.prog 287 #[.int .u64 x] w fun e w' => e = .returned (.int .i64 (Lib.bitLen x.toNat : Nat)) ∧ w' = w := by
  go_enter Tryz.func287, Tryz.ntmps287
  rw [fold_len]
  by_cases c1 : 4294967296 ≤ x
  · by_cases c2 : 65536 ≤ x / 4294967296
    · by_cases c3 : 256 ≤ x / 4294967296 / 65536
      · have hx : ∀ w, (Instr.index 9 (.string Lib.len8tab) (.int .u8 (x / 4294967296 / 65536 / 256))).run Tryz.prog w = .ok (.int .u8 (Lib.bitLen (x / 4294967296 / 65536 / 256).toNat : Nat)) w := fun w => len_fact w 9 (x / 4294967296 / 65536 / 256) Tryz.underlying9 (by omega) (by omega)
        have l := Lib.bitLen_le8' (x / 4294967296 / 65536 / 256) (by omega) (by omega)
        have s := hide (Lib.bitLen_shift56 x.toNat (by omega) (by omega))
        have e := hide (show (x / 4294967296 / 65536 / 256).toNat = x.toNat / 72057594037927936 by omega)
        go_wp2
        go_ret
        exact ⟨ret_int (by have := s.out; have := e.out; rw [s.out, e.out]; omega), rfl⟩
      · have hx : ∀ w, (Instr.index 9 (.string Lib.len8tab) (.int .u8 (x / 4294967296 / 65536))).run Tryz.prog w = .ok (.int .u8 (Lib.bitLen (x / 4294967296 / 65536).toNat : Nat)) w := fun w => len_fact w 9 (x / 4294967296 / 65536) Tryz.underlying9 (by omega) (by omega)
        have l := Lib.bitLen_le8' (x / 4294967296 / 65536) (by omega) (by omega)
        have s := hide (Lib.bitLen_shift48 x.toNat (by omega) (by omega))
        have e := hide (show (x / 4294967296 / 65536).toNat = x.toNat / 281474976710656 by omega)
        go_wp2
        go_ret
        exact ⟨ret_int (by have := s.out; have := e.out; rw [s.out, e.out]; omega), rfl⟩
    · by_cases c3 : 256 ≤ x / 4294967296
      · have hx : ∀ w, (Instr.index 9 (.string Lib.len8tab) (.int .u8 (x / 4294967296 / 256))).run Tryz.prog w = .ok (.int .u8 (Lib.bitLen (x / 4294967296 / 256).toNat : Nat)) w := fun w => len_fact w 9 (x / 4294967296 / 256) Tryz.underlying9 (by omega) (by omega)
        have l := Lib.bitLen_le8' (x / 4294967296 / 256) (by omega) (by omega)
        have s := hide (Lib.bitLen_shift40 x.toNat (by omega) (by omega))
        have e := hide (show (x / 4294967296 / 256).toNat = x.toNat / 1099511627776 by omega)
        go_wp2
        go_ret
        exact ⟨ret_int (by have := s.out; have := e.out; rw [s.out, e.out]; omega), rfl⟩
      · have hx : ∀ w, (Instr.index 9 (.string Lib.len8tab) (.int .u8 (x / 4294967296))).run Tryz.prog w = .ok (.int .u8 (Lib.bitLen (x / 4294967296).toNat : Nat)) w := fun w => len_fact w 9 (x / 4294967296) Tryz.underlying9 (by omega) (by omega)
        have l := Lib.bitLen_le8' (x / 4294967296) (by omega) (by omega)
        have s := hide (Lib.bitLen_shift32 x.toNat (by omega) (by omega))
        have e := hide (show (x / 4294967296).toNat = x.toNat / 4294967296 by omega)
        go_wp2
        go_ret
        exact ⟨ret_int (by have := s.out; have := e.out; rw [s.out, e.out]; omega), rfl⟩
  · by_cases c2 : 65536 ≤ x
    · by_cases c3 : 256 ≤ x / 65536
      · have hx : ∀ w, (Instr.index 9 (.string Lib.len8tab) (.int .u8 (x / 65536 / 256))).run Tryz.prog w = .ok (.int .u8 (Lib.bitLen (x / 65536 / 256).toNat : Nat)) w := fun w => len_fact w 9 (x / 65536 / 256) Tryz.underlying9 (by omega) (by omega)
        have l := Lib.bitLen_le8' (x / 65536 / 256) (by omega) (by omega)
        have s := hide (Lib.bitLen_shift24 x.toNat (by omega) (by omega))
        have e := hide (show (x / 65536 / 256).toNat = x.toNat / 16777216 by omega)
        go_wp2
        go_ret
        exact ⟨ret_int (by have := s.out; have := e.out; rw [s.out, e.out]; omega), rfl⟩
      · have hx : ∀ w, (Instr.index 9 (.string Lib.len8tab) (.int .u8 (x / 65536))).run Tryz.prog w = .ok (.int .u8 (Lib.bitLen (x / 65536).toNat : Nat)) w := fun w => len_fact w 9 (x / 65536) Tryz.underlying9 (by omega) (by omega)
        have l := Lib.bitLen_le8' (x / 65536) (by omega) (by omega)
        have s := hide (Lib.bitLen_shift16 x.toNat (by omega) (by omega))
        have e := hide (show (x / 65536).toNat = x.toNat / 65536 by omega)
        go_wp2
        go_ret
        exact ⟨ret_int (by have := s.out; have := e.out; rw [s.out, e.out]; omega), rfl⟩
    · by_cases c3 : 256 ≤ x
      · have hx : ∀ w, (Instr.index 9 (.string Lib.len8tab) (.int .u8 (x / 256))).run Tryz.prog w = .ok (.int .u8 (Lib.bitLen (x / 256).toNat : Nat)) w := fun w => len_fact w 9 (x / 256) Tryz.underlying9 (by omega) (by omega)
        have l := Lib.bitLen_le8' (x / 256) (by omega) (by omega)
        have s := hide (Lib.bitLen_shift8 x.toNat (by omega) (by omega))
        have e := hide (show (x / 256).toNat = x.toNat / 256 by omega)
        go_wp2
        go_ret
        exact ⟨ret_int (by have := s.out; have := e.out; rw [s.out, e.out]; omega), rfl⟩
      · have hx : ∀ w, (Instr.index 9 (.string Lib.len8tab) (.int .u8 (x))).run Tryz.prog w = .ok (.int .u8 (Lib.bitLen (x).toNat : Nat)) w := fun w => len_fact w 9 (x) Tryz.underlying9 (by omega) (by omega)
        have l := Lib.bitLen_le8' (x) (by omega) (by omega)
        go_wp2
        go_ret
        exact ⟨ret_int (by omega), rfl⟩

theorem len64_any (x : Nat) (hx : x < 18446744073709551616) (w : World) :
    Calls Tryz.prog 287 #[.int .u64 x] w fun e w' => e = .returned (.int .i64 (Lib.bitLen x : Nat)) ∧ w' = w := by
  have h := len64_int (x : Int) (by omega) (by omega) w
  rw [Int.toNat_natCast] at h
  exact h

theorem len_any (x : Nat) (hx : x < 18446744073709551616) (w : World) :
    Calls Tryz.prog 250 #[.int .u64 x] w fun e w' => e = .returned (.int .i64 (Lib.bitLen x : Nat)) ∧ w' = w := by
  go_enter Tryz.func250, Tryz.ntmps250
  go_wp2_with (go_at_call 287; refine (len64_any _ hx _).mono ?_; rintro e w' ⟨rfl, rfl⟩)
  go_ret
  exact ⟨rfl, rfl⟩

end Go.Proofs.YtbmhfcppaajgbaaGreatDoor
namespace Go.Proofs.YtbmhfcppaajgbaaGreatDoor.WMath
set_option maxRecDepth 100000

def mask8 (c : Nat) : Nat → Nat
  | 0 => 0
  | n + 1 => c + 256 * mask8 c n
def fC (n x : Nat) : Nat := (x / 16 + x) &&& mask8 15 n
def sA (b : Nat) : Nat := ((b / 2) &&& 85) + (b &&& 85)
theorem t1 : ∀ b : Fin 256, ∀ c : Fin 2, ((b.val / 2 + 128 * c.val) &&& 85) = (b.val / 2 &&& 85) := by decide +kernel
theorem t2 : ∀ b : Fin 256, ∀ c : Fin 4, ((b.val / 4 + 64 * c.val) &&& 51) = (b.val / 4 &&& 51) := by decide +kernel
end Go.Proofs.YtbmhfcppaajgbaaGreatDoor.WMath
namespace Go.Proofs.YtbmhfcppaajgbaaGreatDoor
set_option maxRecDepth 100000
open Go.RowKit WMath

theorem bitLen_top (x k : Nat) (h1 : 2 ^ k ≤ x) (h2 : x < 2 ^ (k + 1)) (hk : k < 64) : Lib.bitLen x = k + 1 := by
  have hx : x < 18446744073709551616 := by
    have := pow_le_64 (k + 1) (by omega)
    omega
  rcases Nat.eq_zero_or_pos k with rfl | hp
  · have : x = 1 := by simp at h1 h2; omega
    subst this; decide
  · rw [Lib.bitLen_shift k x h1 hx, show x / 2 ^ k = 1 by
      apply Nat.div_eq_of_lt_le
      · omega
      · rw [Nat.pow_succ] at h2; omega]
    have : Lib.bitLen 1 = 1 := by decide
    omega
theorem bitLen_step (x k : Nat) (hk : k < 64) : Lib.bitLen (x % 2 ^ (k + 1)) = if x.testBit k then k + 1 else Lib.bitLen (x % 2 ^ k) := by
  rw [mod_succ]
  have hl : x % 2 ^ k < 2 ^ k := Nat.mod_lt _ (Nat.two_pow_pos k)
  cases x.testBit k
  · simp
  · rw [if_pos rfl, Bool.toNat_true, Nat.mul_one]
    exact bitLen_top _ k (by omega) (by rw [Nat.pow_succ]; omega) hk

theorem rlen_any (x : Nat) (hx : x < 18446744073709551616) (w : World) :
    Calls Tryz.prog 191 #[.int .u64 x] w fun e w' => e = .returned (.int .i64 (Lib.bitLen x : Nat)) ∧ w' = w := by
  have h0 : Hid (0 = Lib.bitLen (x % 2 ^ 0)) := by show 0 = _; rw [Nat.pow_zero, Nat.mod_one]; decide
  go_enter Tryz.func191, Tryz.ntmps191
  go_wp2
  go_loop [3, 4] (fun n i => ∃ k N : Nat, k ≤ 64 ∧ i = .int .i64 k ∧ n = .int .i64 N ∧ Hid (N = Lib.bitLen (x % 2 ^ k))) (fun _ i => 64 - (intOf i).toNat)
  case atStart => exact ⟨0, 0, by omega, rfl, rfl, h0⟩
  case round =>
    obtain ⟨k, N, hk, rfl, rfl, HN⟩ := hrel
    by_cases hlt : k < 64
    · have st := hide (bitLen_step x k hlt)
      cases hb : x.testBit k
      · have H1 : Hid (N = Lib.bitLen (x % 2 ^ (k + 1))) := by show N = _; rw [st.out, hb, HN.out]; rfl
        go_wp2_with (go_at_call 259; refine (bit_any _ _ ?_ ?_ _).mono ?_; assumption; assumption; rintro e w' ⟨rfl, rfl⟩)
        go_round
        case rel => exact ⟨k + 1, N, by omega, by go_num, rfl, H1⟩
        case measure => simp [intOf]; omega
      · have H1 : Hid (k + 1 = Lib.bitLen (x % 2 ^ (k + 1))) := by show k + 1 = _; rw [st.out, hb]; rfl
        go_wp2_with (go_at_call 259; refine (bit_any _ _ ?_ ?_ _).mono ?_; assumption; assumption; rintro e w' ⟨rfl, rfl⟩)
        go_round
        case rel => exact ⟨k + 1, k + 1, by omega, by go_num, by go_num, H1⟩
        case measure => simp [intOf]; omega
    · go_wp2
      go_ret
      obtain rfl : k = 64 := by omega
      exact ⟨ret_int (by rw [HN.out, ← two64, Nat.mod_eq_of_lt hx]), rfl⟩
end Go.Proofs.YtbmhfcppaajgbaaGreatDoor
namespace Go.Proofs.YtbmhfcppaajgbaaGreatDoor
set_option maxRecDepth 100000
open Go.RowKit WMath

/-- t is the place of the lowest bit of x that is 1. -/
def LowIs (x t : Nat) : Prop := t < 64 ∧ x % 2 ^ t = 0 ∧ x.testBit t = true
theorem low_one (x s t : Nat) (h : LowIs x s) (g : LowIs x t) : s = t := by
  have hlt : ∀ a b, LowIs x a → LowIs x b → ¬ a < b := by
    intro a b ha hb hab
    have h1 := Nat.testBit_mod_two_pow x b a
    rw [hb.2.1, ha.2.2] at h1
    simp [hab] at h1
  have h1 := hlt s t h g
  have h2 := hlt t s g h
  omega
theorem rlow_any (x t : Nat) (hx : x < 18446744073709551616) (ht : LowIs x t) (w : World) :
    Calls Tryz.prog 192 #[.int .u64 x] w fun e w' => e = .returned (.int .i64 t) ∧ w' = w := by
  have ht0 := ht.1
  have hT := hide ht
  clear ht
  go_enter Tryz.func192, Tryz.ntmps192
  go_wp2
  go_loop [3] (fun i => ∃ k : Nat, k ≤ t ∧ i = .int .i64 k) (fun i => 64 - (intOf i).toNat)
  case atStart => exact ⟨0, by omega, rfl⟩
  case round =>
    obtain ⟨k, hk, rfl⟩ := hrel
    have hlt : k < 64 := by omega
    by_cases he : k < t
    · have hb : x.testBit k = false := by
        have h1 := Nat.testBit_mod_two_pow x t k
        rw [hT.out.2.1] at h1
        simpa [he] using h1.symm
      go_wp2_with (go_at_call 259; refine (bit_any _ _ ?_ ?_ _).mono ?_; assumption; assumption; rintro e w' ⟨rfl, rfl⟩)
      go_round
      case rel => exact ⟨k + 1, by omega, by go_num⟩
      case measure => simp [intOf]; omega
    · obtain rfl : k = t := by omega
      have hb : x.testBit k = true := hT.out.2.2
      go_wp2_with (go_at_call 259; refine (bit_any _ _ ?_ ?_ _).mono ?_; assumption; assumption; rintro e w' ⟨rfl, rfl⟩)
      go_ret
      exact ⟨rfl, rfl⟩
end Go.Proofs.YtbmhfcppaajgbaaGreatDoor
namespace Go.Proofs.YtbmhfcppaajgbaaGreatDoor
set_option maxRecDepth 100000
open Go.RowKit WMath

theorem ctz_low (x : Nat) (h0 : x ≠ 0) (hx : x < 18446744073709551616) : LowIs x (Lib.ctz 64 x) := by
  have h1 : Lib.ctz 64 x = Lib.ctzFrom 64 x := by unfold Lib.ctz; rw [if_neg h0]
  obtain ⟨m, hm, hlt⟩ := Lib.ctzFrom_spec 64 x (by omega) (by rw [← two64]; exact hx)
  rw [h1]
  generalize Lib.ctzFrom 64 x = t at *
  refine ⟨hlt, ?_, ?_⟩
  · rw [hm, Nat.mul_mod_right]
  · rw [Nat.testBit_eq_decide_div_mod_eq, hm, Nat.mul_div_cancel_left _ (Nat.two_pow_pos t)]
    simp

/-- The table of the library, as it lies in its variable. -/
def TabAt (w : World) : Prop := ∀ i, i < 64 → w.cell? ⟨5, i, none⟩ = some (.int .u8 ((Lib.deBruijn64tab.getD i 0 : Nat) : Int))

theorem db_i (P I : Nat) (hI : I = P * 285870213051353865 % 18446744073709551616 / 288230376151711744) : IntKind.u64.wrap ((P : Int) * 285870213051353865) / 288230376151711744 = (I : Int) := by
  rw [IntKind.wrap_u64, hI]; simp
theorem tz_any (x t : Nat) (hx : x < 18446744073709551616) (ht : LowIs x t) (w : World) (hT : TabAt w) :
    Calls Tryz.prog 311 #[.int .u64 x] w fun e w' => e = .returned (.int .i64 t) ∧ w' = w := by
  have h0 : x ≠ 0 := by
    intro h; subst h
    have := ht.2.2
    rw [Nat.zero_testBit] at this
    cases this
  obtain ⟨hl, _⟩ := Lib.lowest_bit 64 x h0 (by rw [← two64]; exact hx)
  obtain ⟨d1, d2⟩ := Lib.deBruijn64_at t ht.1
  have hc : Lib.ctz 64 x = t := low_one x _ _ (ctz_low x h0 hx) ht
  rw [hc, ← two64] at hl
  have hp := pow_lt_64 t ht.1
  obtain ⟨P, hP⟩ : ∃ P, P = 2 ^ t := ⟨_, rfl⟩
  rw [← hP] at hl d1 d2 hp
  have e1 : bits .and .u64 (x : Int) (IntKind.u64.wrap (-(x : Int))) = (P : Int) := by
    have e : IntKind.u64.wrap (-(x : Int)) = ((18446744073709551616 - x : Nat) : Int) := by rw [IntKind.wrap_u64]; omega
    rw [e, bits_and_u64_nat _ _ hx (by omega), hl]
  obtain ⟨I, hI⟩ : ∃ I, I = P * 285870213051353865 % 18446744073709551616 / 288230376151711744 := ⟨_, rfl⟩
  rw [← hI] at d1 d2
  have e2 : IntKind.u64.wrap ((P : Int) * 285870213051353865) / 288230376151711744 = (I : Int) := db_i P I hI
  have hcell := hT I d1
  rw [d2] at hcell
  have hx0 : ((x : Int) == 0) = false := by rw [beq_eq_false_iff_ne]; omega
  have ht1 := ht.1
  clear hl d2 hc hp hP hI h0 ht hT
  go_enter Tryz.func311, Tryz.ntmps311
  go_wp2
  go_ret
  exact ⟨rfl, rfl⟩
theorem low_any (x t : Nat) (hx : x < 18446744073709551616) (ht : LowIs x t) (w : World) (hT : TabAt w) :
    Calls Tryz.prog 285 #[.int .u64 x] w fun e w' => e = .returned (.int .i64 t) ∧ w' = w := by
  have h := hide (tz_any x t hx ht w hT)
  clear ht hT
  go_enter Tryz.func285, Tryz.ntmps285
  go_wp2_with (go_at_call 311; refine h.out.mono ?_; rintro e w' ⟨rfl, rfl⟩)
  go_ret
  exact ⟨rfl, rfl⟩

end Go.Proofs.YtbmhfcppaajgbaaGreatDoor
namespace Go.Proofs.YtbmhfcppaajgbaaGreatDoor
set_option maxRecDepth 100000
open Go.RowKit WMath

theorem setRow_below (w : World) (b : Nat) (c : Array Value) (o : Obj) (h : b < w.heap.size) : (w.alloc o).setRow b c = (w.setRow b c).alloc o := by
  simp only [World.setRow, World.alloc]
  congr 1
  apply Array.ext_getElem?
  intro i
  rw [Array.getElem?_modify, Array.getElem?_push, Array.getElem?_push, Array.size_modify, Array.getElem?_modify]
  by_cases e : i = w.heap.size
  · subst e
    rw [if_pos rfl, if_pos rfl, if_neg (by omega)]
  · rw [if_neg e, if_neg e]

theorem heap_below (w : World) (b : Nat) (o : Obj) (h : b < w.heap.size) : (w.alloc o).heap[b]? = w.heap[b]? := Below.heap_alloc w o b h
theorem size_al (w : World) (o : Obj) : (w.alloc o).heap.size = w.heap.size + 1 := by
  show (w.heap.push o).size = _
  simp

theorem st_any (w : World) (b x y : Nat) (h : w.heap[b]? = some (.cells (cw 6 y) 74)) :
    (storeCells ⟨b, 0, none⟩ (cw 6 x).toList 0).run Tryz.prog w = .ok () (w.setRow b (cw 6 x)) := by
  have := run_storeCells_from (P := Tryz.prog) b 74 (cw 6 x).toList 0 (cw 6 y) w h (by simp [cw_size]) (fun v hv => (Array.all_eq_true_iff_forall_mem.1 (cw_oneCell 6 x)) v (by simpa using hv))
  simpa using this

theorem st0 (w : World) (b x y : Nat) (hb : b = w.heap.size) :
    (storeCells ⟨b, 0, none⟩ (cw 6 x).toList 0).run Tryz.prog (w.alloc (.cells (cw 6 y) 74)) = .ok () (w.alloc (.cells (cw 6 x) 74)) := by
  subst hb
  rw [st_any _ _ x y (heap_alloc_last w _), World.setRow_alloc_new]
theorem st1 (w : World) (b x y : Nat) (o : Obj) (hb : b = w.heap.size) :
    (storeCells ⟨b, 0, none⟩ (cw 6 x).toList 0).run Tryz.prog ((w.alloc (.cells (cw 6 y) 74)).alloc o) = .ok () ((w.alloc (.cells (cw 6 x) 74)).alloc o) := by
  subst hb
  have h0 : w.heap.size < (w.alloc (.cells (cw 6 y) 74)).heap.size := by rw [size_al]; omega
  rw [st_any _ _ x y (by rw [heap_below _ _ _ h0]; exact heap_alloc_last w _), setRow_below _ _ _ _ h0, World.setRow_alloc_new]
end Go.Proofs.YtbmhfcppaajgbaaGreatDoor
namespace Go.Proofs.YtbmhfcppaajgbaaGreatDoor
set_option maxRecDepth 100000
open Go.RowKit WMath

/-- All worlds that have grown out of W, as the values of one function. -/
theorem below_fun (W : World) : ∃ F : World → World, (∀ u, Below W.heap.size W (F u)) ∧ (∀ u, Below W.heap.size W u → F u = u) := by
  classical
  refine ⟨fun u => if Below W.heap.size W u then u else W, fun u => ?_, fun u h => if_pos h⟩
  by_cases h : Below W.heap.size W u
  · simp only [h, if_true]
  · simp only [h, if_false]; exact Below.refl _ _

theorem wp_region_below {P : Program} {id : Nat} {Q : Exit → Act → World → Prop} {a : Act} {W : World} {l : List Oper} (F : World → World) (hF : ∀ u, Below W.heap.size W u → F u = u)
    (hm : P.follows .mixedOrders = true) (hB : Region.lexB .any l.toArray = true)
    (h : wpQuiet P l.toArray (fun w' => ∃ u, w' = F u) (fun a' => ∀ w', (∃ u, w' = F u) → Q .normal a' w') l a) : (Code.region id l.toArray true).wp P Q a W :=
  wp_region_quiet (C := fun w' => ∃ u, w' = F u) hm hB ⟨W.drew, (hF _ ((Below.refl _ _).drew)).symm⟩ (by simpa using h)

theorem quietF {P : Program} {f : Nat} {args : Array Value} {v : Value} {W : World} {F : World → World} (h1 : ∀ u, Below W.heap.size W (F u)) (h2 : ∀ u, Below W.heap.size W u → F u = u) {u : World}
    (h : Calls P f args (F u) fun e w' => e = .returned v ∧ Below (F u).heap.size (F u) w') : Calls P f args (F u) fun e w'' => e = .returned v ∧ ∃ u', w'' = F u' :=
  h.mono fun _ w' ⟨he, hm⟩ => ⟨he, w', (h2 _ ((h1 u).trans (hm.mono (h1 u).size))).symm⟩
theorem heap_of {W w1 : World} (hb : Below W.heap.size W w1) (b : Nat) (c : Array Value) (t : TypeId) (h : W.heap[b]? = some (.cells c t)) : w1.heap[b]? = some (.cells c t) := by
  rw [hb.block b (Array.getElem?_eq_some_iff.1 h).1, h]

theorem row_cell {w : World} {b n : Nat} (h : w.heap[b]? = some (.cells (cw 6 n) 74)) (o : Nat) (ho : o < 6) : w.cell? ⟨b, o, none⟩ = some (.int .u64 (wd n o : Nat)) := by
  rw [cell_of_row w b o _ _ _ h, cw_at 6 n o ho]
theorem setRow_row {w : World} {b : Nat} {c c' : Array Value} {t : TypeId} (h : w.heap[b]? = some (.cells c t)) : (w.setRow b c').heap[b]? = some (.cells c' t) := by
  simp [World.setRow, Array.getElem?_modify, h]
theorem setRow_other {w : World} {b b' : Nat} {c' : Array Value} (h : b ≠ b') : (w.setRow b c').heap[b']? = w.heap[b']? := by
  simp [World.setRow, Array.getElem?_modify, h]
theorem setRow_size {w : World} {b : Nat} {c' : Array Value} : (w.setRow b c').heap.size = w.heap.size := by
  simp [World.setRow]
theorem Below.setRow {B : Nat} {w w1 : World} {b : Nat} {c : Array Value} (h : Below B w w1) (hb : B ≤ b) : Below B w (w1.setRow b c) :=
  ⟨h.os, h.tape, h.output, by rw [setRow_size]; exact h.size, fun k hk => by rw [setRow_other (by omega)]; exact h.block k hk⟩

theorem eqItems6 (d x y : Nat) (w : World) : ∀ is : List Nat, (∀ i ∈ is, i < 6) → (Op.eqItems (d + 1) 23 1 (cw 6 x) (cw 6 y) is).run Tryz.prog w = .ok (is.all fun i => wd x i == wd y i) w
  | [], _ => rfl
  | i :: is, h => by
    have hi := h i (by simp)
    have ih := eqItems6 d x y w is (fun j hj => h j (by simp [hj]))
    have p1 : ∀ z : Nat, (part 23 (cw 6 z) (i * 1)).run Tryz.prog w = .ok (.int .u64 (wd z i : Nat)) w := fun z => by
      simp [part, cw_at 6 z i hi, go_sem]
    have e : ((wd x i : Int) == (wd y i : Int)) = (wd x i == wd y i) := by rw [Bool.eq_iff_iff]; simp only [beq_iff_eq]; omega
    simp only [Op.eqItems, Sem.run_bind, p1, Result.andThen_ok, run_equalIn_int _ d 23 .u64 .u64 _ _ Tryz.underlying23, e]
    cases he : wd x i == wd y i
    · simp [he]
    · simp [he, ih]

theorem eq6 (x y : Nat) (hx : x < Q) (hy : y < Q) (w : World) : (Op.equalIn 10000 74 (.agg (cw 6 x)) (.agg (cw 6 y))).run Tryz.prog w = .ok (decide (x = y)) w := by
  obtain ⟨i, hi⟩ : ∃ i, Tryz.prog.info? 23 = some i := by
    have : (Tryz.prog.info? 23).isSome = true := by kernel_rfl
    exact Option.isSome_iff_exists.1 this
  have hc : Tryz.prog.cellsOf 23 = 1 := by kernel_rfl
  rw [run_equalIn_array w 9999 (cw 6 x) (cw 6 y) Tryz.underlying74 hi, hc, eqItems6 9998 x y w (List.range 6) (fun i h => by simpa using h)]
  congr 1
  rw [Bool.eq_iff_iff, List.all_eq_true, decide_eq_true_iff]
  constructor
  · intro h
    obtain ⟨L, hL, hQ⟩ := Q_of
    rw [hQ] at hx hy
    exact wd_ext hx hy (fun k hk => by simpa using h k (by rw [hL] at hk; simpa using hk))
  · rintro rfl i _
    simp
theorem eqg6 : Tryz.prog.eqGuardType Tryz.prog.depth 74 = false := by kernel_rfl
end Go.Proofs.YtbmhfcppaajgbaaGreatDoor
namespace Go.Proofs.YtbmhfcppaajgbaaGreatDoor
set_option maxRecDepth 100000
open Go.RowKit WMath

theorem add_is (a b : Nat) (c : Bool) (s : Nat) (o : Bool) (ha : a < 18446744073709551616) (hb : b < 18446744073709551616) (hs : (a + b + c.toNat) % 18446744073709551616 = s) (ho : decide (18446744073709551616 ≤ a + b + c.toNat) = o) (w : World) :
    Calls Tryz.prog 258 #[.int .u64 a, .int .u64 b, .bool c] w fun e w' => e = .returned (.tuple #[.int .u64 (s : Nat), .bool o]) ∧ w' = w := by
  subst hs; subst ho; exact add_any a b c ha hb w
theorem mul_is (x y h l : Nat) (hx : x < 18446744073709551616) (hy : y < 18446744073709551616) (hh : x * y / 18446744073709551616 = h) (hl : x * y % 18446744073709551616 = l) (w : World) :
    Calls Tryz.prog 326 #[.int .u64 x, .int .u64 y] w fun e w' => e = .returned (.tuple #[.int .u64 (h : Nat), .int .u64 (l : Nat)]) ∧ w' = w := by
  subst hh; subst hl; exact mul_any x y hx hy w

end Go.Proofs.YtbmhfcppaajgbaaGreatDoor
namespace Go.Proofs.YtbmhfcppaajgbaaGreatDoor
set_option maxRecDepth 100000
open Go.RowKit WMath

/-- Bytes, as cells. -/
def cb (l : List UInt8) : Array Value := (l.map fun b => Value.int .u8 (b.toNat : Int)).toArray

theorem cb_at (l : List UInt8) (k : Nat) (b : UInt8) (h : l[k]? = some b) : (cb l)[k]? = some (.int .u8 (b.toNat : Int)) := by simp [cb, h]
theorem cb_size (l : List UInt8) : (cb l).size = l.length := by simp [cb]
theorem fz {w : World} {b k : Nat} {c : Array Value} {t : TypeId} (h : w.heap[b]? = some (.cells c t)) : w.frozen? ⟨b, k, none⟩ = false := by simp [World.frozen?, h]
theorem setCell_row {w : World} {b k : Nat} {c : Array Value} {t : TypeId} {v : Value} (h : w.heap[b]? = some (.cells c t)) : (w.setCell ⟨b, k, none⟩ v).heap[b]? = some (.cells (c.setIfInBounds k v) t) := by
  simp [World.setCell, Array.getElem?_modify, h]
theorem setCell_other {w : World} {b b' k : Nat} {v : Value} (h : b ≠ b') : (w.setCell ⟨b, k, none⟩ v).heap[b']? = w.heap[b']? := by
  simp [World.setCell, Array.getElem?_modify, h]
theorem fold_bytes : ∀ (l : List UInt8) (a : Array UInt8), ((l.map fun b => (b.toNat : Int)).foldl (fun r n => r.push (UInt8.ofNat n.toNat)) (⟨a⟩ : ByteArray)) = ⟨a ++ l.toArray⟩
  | [], a => by simp
  | x :: l, a => by
    have := fold_bytes l (a.push x)
    simp only [List.map_cons, List.foldl_cons, Int.toNat_natCast, UInt8.ofNat_toNat]
    rw [show (ByteArray.mk a).push x = ⟨a.push x⟩ from rfl, this]
    simp
theorem str_of {w : World} {b c : Nat} {l : List UInt8} {t : TypeId} (h : w.heap[b]? = some (.cells (cb l) t)) :
    (convert 57 9 (.slice (some ⟨b, 0, none⟩) l.length c)).run Tryz.prog w = .ok (.string ⟨l.toArray⟩) w := by
  rw [run_convert_bytes_string w 57 9 5 _ _ _ Tryz.underlying57 Tryz.underlying5 Tryz.underlying9]
  have hl := run_loadCells_list (P := Tryz.prog) w ⟨b, 0, none⟩ (l.map fun x => Value.int .u8 (x.toNat : Int)) (fun j v hv => by
    have hadd : (⟨b, 0, none⟩ : Addr).add j = ⟨b, j, none⟩ := by unfold Addr.add; split <;> simp_all
    rw [hadd, cell_of_row w b j _ _ _ h]
    simpa [cb] using hv)
  rw [List.length_map] at hl
  rw [run_bytesToString (P := Tryz.prog) w ⟨b, 0, none⟩ l.length c (l.map fun x => (x.toNat : Int)) (by rw [hl]; simp), show ByteArray.empty = ⟨#[]⟩ from rfl, fold_bytes]
  simp

end Go.Proofs.YtbmhfcppaajgbaaGreatDoor
namespace Go.Proofs.YtbmhfcppaajgbaaGreatDoor
set_option maxRecDepth 100000
open Go.RowKit WMath

/-- 128 bits, as a value: the upper word and the lower one. -/
def bitsV (b : Nat × Nat) : Value := .agg #[.int .u64 (b.1 : Nat), .int .u64 (b.2 : Nat)]

theorem set0 (x : Nat) (hx : x < 18446744073709551616) : (cw 6 0).setIfInBounds 0 (.int .u64 (x : Nat)) = cw 6 x := by
  rw [cw_set 6 0 0 x (by omega) hx, setw_low 0 0 x (by decide)]; simp
theorem set1 (x y : Nat) (hx : x < 18446744073709551616) (hy : y < 18446744073709551616) : (cw 6 x).setIfInBounds 1 (.int .u64 (y : Nat)) = cw 6 (x + 18446744073709551616 * y) := by
  rw [cw_set 6 x 1 y (by omega) hy, setw_low x 1 y (by rw [show 2 ^ (64 * 1) = 18446744073709551616 by decide]; exact hx)]
theorem bits_ltQ (x y : Nat) (hx : x < 18446744073709551616) (hy : y < 18446744073709551616) : x + 18446744073709551616 * y < Q := by
  obtain ⟨L, hL, hQ⟩ := Q_of
  rw [hQ]
  have h := push_lt x 1 y (by rw [show 2 ^ (64 * 1) = 18446744073709551616 by decide]; exact hx) hy
  have h2 : 2 ^ (64 * (1 + 1)) ≤ 2 ^ (64 * L) := Nat.pow_le_pow_right (by decide) (by omega)
  rw [show 2 ^ (64 * 1) = 18446744073709551616 by decide] at h
  omega

theorem wofbits_any (hi lo : Nat) (hh : hi < 18446744073709551616) (hl : lo < 18446744073709551616) (w : World) :
    Calls Tryz.prog 190 #[.agg #[.int .u64 hi, .int .u64 lo]] w fun e w' => e = .returned (.agg (cw 6 (lo + 18446744073709551616 * hi))) ∧ Below w.heap.size w w' := by
  have hat := cw_at 6
  have hz := cw6z
  have hf := cw6f
  have hs0 := st0
  obtain ⟨v, hv⟩ : ∃ v, v = lo + 18446744073709551616 * hi := ⟨_, rfl⟩
  have h1 := set0 lo hl
  have h2 := set1 lo hi hl hh
  rw [← hv] at h2 ⊢
  have h3 : (cw 6 0).toList.set 0 (.int .u64 lo) = (cw 6 lo).toList := by rw [← h1]; simp
  have h4 : (cw 6 lo).toList.set 1 (.int .u64 hi) = (cw 6 v).toList := by rw [← h2]; simp
  clear hv
  go_enter Tryz.func190, Tryz.ntmps190
  go_wp2
  exact bodyPost_ret (v := .agg (cw 6 v)) (by simp [results, Tryz.results190, go_sem, hat, hf]) rfl ⟨rfl, ((Below.refl _ _).alloc (Nat.le_refl _) _).alloc (by simp <;> omega) _⟩

def cmpv (n m : Nat) : Int := if n = m then 0 else if n < m then -1 else 1

theorem wofbits_is (hi lo v : Nat) (hh : hi < 18446744073709551616) (hl : lo < 18446744073709551616) (hv : lo + 18446744073709551616 * hi = v) (w : World) :
    Calls Tryz.prog 190 #[.agg #[.int .u64 hi, .int .u64 lo]] w fun e w' => e = .returned (.agg (cw 6 v)) ∧ Below w.heap.size w w' := by
  subst hv; exact wofbits_any hi lo hh hl w

theorem wtobits_yes (n : Nat) (hn : n < Q) (hv : wd n 0 + 18446744073709551616 * wd n 1 = n) (w : World) :
    Calls Tryz.prog 188 #[.agg (cw 6 n)] w fun e w' => e = .returned (.tuple #[.agg #[.int .u64 (wd n 1 : Nat), .int .u64 (wd n 0 : Nat)], .bool true]) ∧ Below w.heap.size w w' := by
  have hat := cw_at 6
  have hf := cw6f
  have heq := eq6
  have hg := eqg6
  have HV := box hv
  clear hv
  obtain ⟨W, hW⟩ : ∃ W, W = (w.alloc (.cells (cw 6 n) 74)).alloc (.cells #[.int .u64 (wd n 1 : Nat), .int .u64 (wd n 0 : Nat)] 25) := ⟨_, rfl⟩
  have r0 : W.heap[w.heap.size]? = some (.cells (cw 6 n) 74) := by rw [hW, heap_below _ _ _ (by simp only [size_al]; omega)]; exact heap_alloc_last _ _
  have r1 : W.heap[w.heap.size + 1]? = some (.cells #[.int .u64 (wd n 1 : Nat), .int .u64 (wd n 0 : Nat)] 25) := by
    rw [hW]
    have := heap_alloc_last (w.alloc (.cells (cw 6 n) 74)) (.cells #[.int .u64 (wd n 1 : Nat), .int .u64 (wd n 0 : Nat)] 25)
    simpa only [size_al] using this
  have bW : Below w.heap.size w W := by rw [hW]; exact ((Below.refl _ _).alloc (Nat.le_refl _) _).alloc (by simp only [size_al]; omega) _
  obtain ⟨F, hF1, hF2⟩ := below_fun W
  have hFn : ∀ u o, o < 6 → (F u).cell? ⟨w.heap.size, o, none⟩ = some (.int .u64 (wd n o : Nat)) := fun u => row_cell (heap_of (hF1 u) _ _ _ r0)
  have hF3 : ∀ u, (F u).cell? ⟨w.heap.size + 1, 0, none⟩ = some (.int .u64 (wd n 1 : Nat)) := fun u => by rw [cell_of_row _ _ _ _ _ _ (heap_of (hF1 u) _ _ _ r1)]; rfl
  have hF4 : ∀ u, (F u).cell? ⟨w.heap.size + 1, 1, none⟩ = some (.int .u64 (wd n 0 : Nat)) := fun u => by rw [cell_of_row _ _ _ _ _ _ (heap_of (hF1 u) _ _ _ r1)]; rfl
  go_enter Tryz.func188, Tryz.ntmps188
  go_wp2
  rw [← hW]
  clear hW
  refine wp_region_below F hF2 (by kernel_rfl) (by kernel_rfl) ?_
  repeat quiet_step ((go_at_call 190; exact quietF hF1 hF2 (wofbits_is (wd n 1) (wd n 0) n (wd_lt _ _) (wd_lt _ _) HV.out _)))
  refine wpQuiet_nil ?_
  rintro _ ⟨u, rfl⟩
  have hz3 := hF3 u
  have hz4 := hF4 u
  have hz5 : ∀ o, (F u).frozen? ⟨w.heap.size + 1, o, none⟩ = false := fun o => fz (heap_of (hF1 u) _ _ _ r1)
  go_wp2
  exact bodyPost_ret (v := .tuple #[.agg #[.int .u64 (wd n 1 : Nat), .int .u64 (wd n 0 : Nat)], .bool true]) (by simp [results, Tryz.results188, go_sem, hz3, hz4]) rfl ⟨rfl, ((bW.trans ((hF1 u).mono bW.size)).setCell (by show w.heap.size ≤ w.heap.size + 1; omega) _).setCell (by show w.heap.size ≤ w.heap.size + 1; omega) _⟩
theorem wtobits_no (n : Nat) (hn : n < Q) (hv : ¬ wd n 0 + 18446744073709551616 * wd n 1 = n) (w : World) :
    Calls Tryz.prog 188 #[.agg (cw 6 n)] w fun e w' => e = .returned (.tuple #[.agg #[.int .u64 0, .int .u64 0], .bool false]) ∧ Below w.heap.size w w' := by
  have hat := cw_at 6
  have hf := cw6f
  have heq := eq6
  have hg := eqg6
  obtain ⟨v, hx⟩ : ∃ v, wd n 0 + 18446744073709551616 * wd n 1 = v := ⟨_, rfl⟩
  rw [hx] at hv
  have hvQ : v < Q := by rw [← hx]; exact bits_ltQ _ _ (wd_lt _ _) (wd_lt _ _)
  have HV := box hx
  clear hx
  obtain ⟨W, hW⟩ : ∃ W, W = (w.alloc (.cells (cw 6 n) 74)).alloc (.cells #[.int .u64 (wd n 1 : Nat), .int .u64 (wd n 0 : Nat)] 25) := ⟨_, rfl⟩
  have r0 : W.heap[w.heap.size]? = some (.cells (cw 6 n) 74) := by rw [hW, heap_below _ _ _ (by simp only [size_al]; omega)]; exact heap_alloc_last _ _
  have r1 : W.heap[w.heap.size + 1]? = some (.cells #[.int .u64 (wd n 1 : Nat), .int .u64 (wd n 0 : Nat)] 25) := by
    rw [hW]
    have := heap_alloc_last (w.alloc (.cells (cw 6 n) 74)) (.cells #[.int .u64 (wd n 1 : Nat), .int .u64 (wd n 0 : Nat)] 25)
    simpa only [size_al] using this
  have bW : Below w.heap.size w W := by rw [hW]; exact ((Below.refl _ _).alloc (Nat.le_refl _) _).alloc (by simp only [size_al]; omega) _
  obtain ⟨F, hF1, hF2⟩ := below_fun W
  have hFn : ∀ u o, o < 6 → (F u).cell? ⟨w.heap.size, o, none⟩ = some (.int .u64 (wd n o : Nat)) := fun u => row_cell (heap_of (hF1 u) _ _ _ r0)
  have hF3 : ∀ u, (F u).cell? ⟨w.heap.size + 1, 0, none⟩ = some (.int .u64 (wd n 1 : Nat)) := fun u => by rw [cell_of_row _ _ _ _ _ _ (heap_of (hF1 u) _ _ _ r1)]; rfl
  have hF4 : ∀ u, (F u).cell? ⟨w.heap.size + 1, 1, none⟩ = some (.int .u64 (wd n 0 : Nat)) := fun u => by rw [cell_of_row _ _ _ _ _ _ (heap_of (hF1 u) _ _ _ r1)]; rfl
  go_enter Tryz.func188, Tryz.ntmps188
  go_wp2
  rw [← hW]
  clear hW
  refine wp_region_below F hF2 (by kernel_rfl) (by kernel_rfl) ?_
  repeat quiet_step ((go_at_call 190; exact quietF hF1 hF2 (wofbits_is (wd n 1) (wd n 0) v (wd_lt _ _) (wd_lt _ _) HV.out _)))
  refine wpQuiet_nil ?_
  rintro _ ⟨u, rfl⟩
  have hz3 := hF3 u
  have hz4 := hF4 u
  have hz5 : ∀ o, (F u).frozen? ⟨w.heap.size + 1, o, none⟩ = false := fun o => fz (heap_of (hF1 u) _ _ _ r1)
  go_wp2
  exact bodyPost_ret (v := .tuple #[.agg #[.int .u64 0, .int .u64 0], .bool false]) (by simp [results, Tryz.results188, go_sem, hz3, hz4]) rfl ⟨rfl, ((bW.trans ((hF1 u).mono bW.size)).setCell (by show w.heap.size ≤ w.heap.size + 1; omega) _).setCell (by show w.heap.size ≤ w.heap.size + 1; omega) _⟩

end Go.Proofs.YtbmhfcppaajgbaaGreatDoor
namespace Go.Proofs.YtbmhfcppaajgbaaGreatDoor
set_option maxRecDepth 100000
open WMath
open Go.ChangeShapes Go.WideShapes Go.ChangeAt Go.RowKit

/-- A call whose arguments and results have no memory of their own: what it leaves of the world is enough. -/
theorem post_plain {H : Type} {enc : TypeId × Value → H} {P : Program} {f : Func} {s : ChangeSpec} {apart fresh handsOn again : Bool} {W W' : World} {args : Array Value} {v : Value} {ds gs : List (DataW H)}
    (hW : DataW.Whole enc P f.params.toList s.vars apart W args.toList ds gs [])
    (hres : ∀ (b : Nat) (sp : Nat → Bool) (hd : Bool), DataW.TrodAll enc P W' b sp hd f.resultTypes.toList (v.resultList f.resultTypes.size) (s.fn H (ds ++ gs)).results [])
    (hargs : ∀ sp : Nat → Bool, DataW.TrodAll enc P W' 0 sp true f.params.toList args.toList (s.fn H (ds ++ gs)).args [])
    (hvars : ∀ sp : Nat → Bool, DataW.TrodVars enc P W' sp s.vars (s.fn H (ds ++ gs)).vars [])
    (hk : Below W.heap.size W W')
    (hok : ∀ (j : Nat) (t : TypeId) (r : Value), f.resultTypes[j]? = some t → (v.resultList f.resultTypes.size)[j]? = some r → Value.okWide P W' .any 0 t r) :
    s.post enc P f apart fresh handsOn again W args v W' := by
  refine ⟨ds, gs, [], [], [], [], hW, hres _ _ _, hargs _, hvars _, hk.frame _, fun _ => ⟨hok, _, _, [], ⟨[], [], trodAll_append (hargs _) (hres _ _ _), hvars _, rfl, ?_, ?_⟩, ?_⟩⟩
  · intro _ _ hp
    cases hp
  · intro _
    exact List.Pairwise.nil
  · intro _ hp
    cases hp
end Go.Proofs.YtbmhfcppaajgbaaGreatDoor
namespace Go.Proofs.YtbmhfcppaajgbaaGreatDoor
set_option maxRecDepth 100000
open Go.RowKit WMath

/-- The first boxes that a call has made, in their order; whatever was there before is as it was. -/
def RowsL (w wr : World) (l : List Nat) : Prop := (∀ i x, l[i]? = some x → wr.heap[w.heap.size + i]? = some (.cells (cw 6 x) 74)) ∧ Below w.heap.size w wr
theorem rowsL_nil (w : World) : RowsL w w [] := ⟨fun i x h => by simp at h, Below.refl _ _⟩
theorem rowsL_new {w wr : World} {l : List Nat} (h : RowsL w wr l) (hs : wr.heap.size = w.heap.size + l.length) (x : Nat) : RowsL w (wr.alloc (.cells (cw 6 x) 74)) (l ++ [x]) := by
  refine ⟨fun i y hy => ?_, h.2.alloc (by omega) _⟩
  rw [List.getElem?_append] at hy
  split at hy
  · rw [heap_below _ _ _ (by omega)]; exact h.1 i y hy
  · have e : i = l.length := by
      have := (List.getElem?_eq_some_iff.1 hy).1
      simp at this; omega
    subst e
    simp at hy
    subst hy
    rw [← hs]
    exact heap_alloc_last _ _
theorem rowsL_drew {w wr : World} {l : List Nat} (h : RowsL w wr l) (d : Nat) : RowsL w (wr.drewN d) l := ⟨h.1, below_drewN h.2 d⟩
theorem rowsL_set {w wr : World} {l l2 : List Nat} (h : RowsL w wr l) (i x b : Nat) (hi : i < l.length) (hb : b = w.heap.size + i) (hl : l2 = l.set i x) : RowsL w (wr.setRow b (cw 6 x)) l2 := by
  subst hb
  subst hl
  refine ⟨fun j y hy => ?_, Below.setRow h.2 (by omega)⟩
  by_cases e : i = j
  · subst e
    rw [List.getElem?_set_self hi] at hy
    cases hy
    exact setRow_row (h.1 i _ (List.getElem?_eq_getElem hi))
  · rw [List.getElem?_set_ne e] at hy
    rw [setRow_other (by omega)]
    exact h.1 j y hy

theorem rows0 {w wr : World} {x : Nat} {l : List Nat} (h : RowsL w wr (x :: l)) : wr.heap[w.heap.size]? = some (.cells (cw 6 x) 74) := h.1 0 _ rfl
theorem rows1 {w wr : World} {x y : Nat} {l : List Nat} (h : RowsL w wr (x :: y :: l)) : wr.heap[w.heap.size + 1]? = some (.cells (cw 6 y) 74) := h.1 1 _ rfl
theorem wrap_i64_is (n : Int) (h1 : -9223372036854775808 ≤ n) (h2 : n ≤ 9223372036854775807) : IntKind.i64.wrap n = n := by
  simp [IntKind.wrap, IntKind.bits, IntKind.signed]; omega

end Go.Proofs.YtbmhfcppaajgbaaGreatDoor
namespace Go.Proofs.YtbmhfcppaajgbaaGreatDoor
set_option maxRecDepth 100000
open Go.RowKit WMath

theorem rlen_is (x l : Nat) (hx : x < 18446744073709551616) (hl : blen x = l) (w : World) :
    Calls Tryz.prog 191 #[.int .u64 x] w fun e w' => e = .returned (.int .i64 (l : Nat)) ∧ w' = w := by
  subst hl; rw [← bitLen_blen x hx]; exact rlen_any x hx w

end Go.Proofs.YtbmhfcppaajgbaaGreatDoor
namespace Go.Proofs.YtbmhfcppaajgbaaGreatDoor
set_option maxRecDepth 100000
open Go.RowKit WMath

theorem rowsL_setCell {w wr : World} {l l2 : List Nat} (h : RowsL w wr l) (i x y b o : Nat) (v : Value) (hi : l[i]? = some x) (hb : b = w.heap.size + i) (hv : (cw 6 x).setIfInBounds o v = cw 6 y) (hl : l2 = l.set i y) : RowsL w (wr.setCell ⟨b, o, none⟩ v) l2 := by
  subst hb
  subst hl
  refine ⟨fun j z hz => ?_, h.2.setCell (by show w.heap.size ≤ w.heap.size + i; omega) _⟩
  by_cases e : i = j
  · subst e
    rw [List.getElem?_set_self (List.getElem?_eq_some_iff.1 hi).1] at hz
    cases hz
    rw [setCell_row (h.1 i _ hi), hv]
  · rw [List.getElem?_set_ne e] at hz
    rw [setCell_other (by omega)]
    exact h.1 j z hz
end Go.Proofs.YtbmhfcppaajgbaaGreatDoor
namespace Go.Proofs.YtbmhfcppaajgbaaGreatDoor
set_option maxRecDepth 100000
open Go.RowKit WMath

theorem c8_made (L : Nat) : madeCells #[.int .u8 0] L = c8 L 0 := by
  apply Array.ext_getElem?
  intro i
  by_cases h : i < L
  · rw [c8_at L 0 i h, d8_zero]
    simp [madeCells, h, Nat.mod_one]
  · rw [Array.getElem?_eq_none (by rw [size_madeCells]; omega), Array.getElem?_eq_none (by rw [c8_size]; omega)]
theorem c8_cell {w : World} {b k L n : Nat} {t : TypeId} (h : w.heap[b]? = some (.cells (c8 L n) t)) (hk : k < L) : w.cell? ⟨b, k, none⟩ = some (.int .u8 (d8 n k : Nat)) := by
  rw [cell_of_row w b k _ _ _ h, c8_at L n k hk]
theorem c8_make (L : Nat) (h : L ≤ 1000000) (w : World) : (Instr.makeSlice 57 (.int .i64 (L : Int)) (.int .i64 (L : Int))).run Tryz.prog w = .ok (.slice (some ⟨w.heap.size, 0, none⟩) L L) (w.alloc (.cells (c8 L 0) 5)) := by
  rw [← c8_made]
  exact run_make_row' (P := Tryz.prog) 57 5 (.int .u8 0) 1 Tryz.underlying57 (by kernel_rfl) rfl .i64 .i64 L (by omega) (by omega) w
theorem c8_makeI (L : Nat) (k : Int) (hk : k = (L : Int)) (h : L ≤ 1000000) (w : World) : (Instr.makeSlice 57 (.int .i64 k) (.int .i64 k)).run Tryz.prog w = .ok (.slice (some ⟨w.heap.size, 0, none⟩) L L) (w.alloc (.cells (c8 L 0) 5)) := by
  subst hk; exact c8_make L h w
/-- A row of bytes as a string. -/
theorem c8_str {w : World} {b c L X : Nat} {t : TypeId} (v : ByteArray) (h : w.heap[b]? = some (.cells (c8 L X) t)) (hL : v.size = L) (hv : ∀ (k : Nat) (h1 : k < v.size), (v[k]'h1).toNat = d8 X k) :
    (convert 57 9 (.slice (some ⟨b, 0, none⟩) L c)).run Tryz.prog w = .ok (.string v) w := by
  have e : c8 L X = cb v.data.toList := by
    apply Array.ext_getElem?
    intro i
    by_cases hi : i < L
    · have hi2 : i < v.size := by rw [hL]; exact hi
      have hi3 : i < v.data.toList.length := by rw [Array.length_toList]; exact hi2
      rw [c8_at L X i hi, cb_at _ i (v[i]'hi2) (by rw [List.getElem?_eq_getElem hi3]; rfl), hv i hi2]
    · rw [Array.getElem?_eq_none (by rw [c8_size]; omega), Array.getElem?_eq_none (by rw [cb_size, Array.length_toList]; show v.size ≤ i; omega)]
  rw [e] at h
  have := str_of (c := c) h
  rw [Array.length_toList, show v.data.size = L from hL] at this
  simpa using this

theorem idx_run (s : ByteArray) (k : Nat) (i : Int) (d : Nat) (hi : i = (k : Int)) (hk : k < s.size) (hd : (s[k]'hk).toNat = d) (w : World) :
    (Instr.index 9 (.string s) (.int .i64 i)).run Tryz.prog w = .ok (.int .u8 (d : Nat)) w := by
  subst hi hd
  rw [run_index_string (P := Tryz.prog) w 9 s _ _ Tryz.underlying9, dif_pos ⟨by omega, by omega⟩]
  simp

theorem nat_at (n i d : Nat) (s : ByteArray) (hs : nbA n = s) (hd : d8 n i = d) (hn : nl n ≤ 100000) (w : World) :
    Calls Tryz.prog 108 #[.string s, .int .i64 (i : Nat)] w fun e w' => e = .returned (.int .i64 (d : Nat)) ∧ w' = w := by
  obtain ⟨L, hL⟩ : ∃ L, nl n = L := ⟨_, rfl⟩
  have hz : s.size = L := by rw [← hs, nbA_size, hL]
  rw [hL] at hn
  by_cases h : L ≤ i
  · have e : d = 0 := by rw [← hd]; exact d8_nl n i (by omega)
    subst e
    have h1 : decide (L ≤ i) = true := by rw [decide_eq_true_iff]; omega
    clear hs hd hL h
    go_enter Tryz.func108, Tryz.ntmps108
    go_wp2
    go_ret
    exact ⟨rfl, rfl⟩
  · have h1 : decide (L ≤ i) = false := by rw [decide_eq_false_iff_not]; omega
    have hk : L - 1 - i < s.size := by omega
    have hg : (s[L - 1 - i]'hk).toNat = d := by
      subst hs
      rw [nbA_get, hL, show L - 1 - (L - 1 - i) = i by omega, hd]
    have hx := idx_run s (L - 1 - i) ((L : Int) - 1 - (i : Int)) d (by omega) hk hg
    have n1 : IntKind.i64.wrap ((L : Int) - 1) = (L : Int) - 1 := wrap_i64_is _ (by omega) (by omega)
    have n2 : IntKind.i64.wrap ((L : Int) - 1 - (i : Int)) = (L : Int) - 1 - (i : Int) := wrap_i64_is _ (by omega) (by omega)
    have d256 : d < 256 := by rw [← hd]; exact d8_lt n i
    clear hs hd hL h hg hk
    go_enter Tryz.func108, Tryz.ntmps108
    go_wp2
    go_ret
    exact ⟨rfl, rfl⟩
end Go.Proofs.YtbmhfcppaajgbaaGreatDoor
namespace Go.Proofs.YtbmhfcppaajgbaaGreatDoor
set_option maxRecDepth 100000
open Go.RowKit WMath

theorem fit_low (X m : Nat) (h : X < 2 ^ (8 * (m + 1))) (hd : d8 X m = 0) : X < 2 ^ (8 * m) := by
  have := mod_d8 X m
  rw [Nat.mod_eq_of_lt h, hd, Nat.mul_zero, Nat.add_zero] at this
  rw [this]
  exact Nat.mod_lt _ (Nat.two_pow_pos _)

set_option maxHeartbeats 1000000 in
theorem nat_fit (L X b c : Nat) (v : ByteArray) (hL : L ≤ 100000) (hX : X < 2 ^ (8 * L)) (hv : nbA X = v) (w : World) (row : w.heap[b]? = some (.cells (c8 L X) 5)) :
    Calls Tryz.prog 109 #[.slice (some ⟨b, 0, none⟩) L c] w fun e w' => e = .returned (.string v) ∧ Below w.heap.size w w' := by
  have hb : b < w.heap.size := (Array.getElem?_eq_some_iff.1 row).1
  have HV := box hv
  have HX := box hX
  clear hv hX
  go_enter Tryz.func109, Tryz.ntmps109
  go_wp2
  go_loop [3] (fun iv => ∃ k : Nat, k ≤ L ∧ iv = .int .i64 k ∧ Box (X < 2 ^ (8 * k))) (fun iv => (intOf iv).toNat)
  case atStart => exact ⟨L, by omega, rfl, HX⟩
  case round =>
    obtain ⟨m, hm, rfl, HM⟩ := hrel
    have hmk := c8_make m (by omega)
    by_cases hst : m ≠ 0 ∧ d8 X (m - 1) = 0
    · obtain ⟨k, rfl⟩ : ∃ k, m = k + 1 := ⟨m - 1, by omega⟩
      have hd : d8 X k = 0 := hst.2
      have c0 := c8_cell row (show k < L by omega)
      rw [hd] at c0
      have NX := box (fit_low X k HM.out hd)
      clear hst hmk
      go_wp2
      go_round
      case rel => exact ⟨k, by omega, by go_num, NX⟩
      case measure => simp [intOf] <;> omega
    · have hnl : nl X = m := nl_is X m HM.out (by omega)
      have HN := box hnl
      have hcase : decide (0 < m) = false ∨ (decide (0 < m) = true ∧ 0 < m ∧ ((d8 X (m - 1) : Int) == 0) = false) := by
        by_cases e : m = 0
        · left; rw [decide_eq_false_iff_not]; omega
        · right
          refine ⟨by rw [decide_eq_true_iff]; omega, by omega, ?_⟩
          simp only [beq_eq_false_iff_ne]
          omega
      clear hst hnl
      rcases hcase with h0 | ⟨h0, h1, hd⟩
      all_goals
        try (have c0 := c8_cell row (show m - 1 < L by omega))
        go_wp2
        clear hmk h0
        try (clear hd c0)
        go_loopw [5] (fun iv wr => ∃ (i Y : Nat), i ≤ m ∧ iv = .int .i64 i ∧ wr.heap[w.heap.size]? = some (.cells (c8 m Y) 5) ∧ Below w.heap.size w wr ∧ Box (∀ j, j < m → m - 1 - i < j + 1 → (i = 0 → False) → (m - 1 - j < i) → d8 Y j = d8 X (m - 1 - j))) (fun iv _ => m - (intOf iv).toNat)
        case atStart => exact ⟨0, 0, by omega, rfl, heap_alloc_last _ _, (Below.refl _ _).alloc (Nat.le_refl _) _, box (fun j _ _ h => absurd rfl h)⟩
        case round =>
          obtain ⟨i, Y, hi, rfl, r0, hbw, HY⟩ := hrel
          by_cases hlt : i < m
          · have rb : wr.heap[b]? = some (.cells (c8 L X) 5) := by rw [hbw.block b hb]; exact row
            have c1 := c8_cell rb (show i < L by omega)
            have c2 := c8_cell r0 (show m - 1 - i < m by omega)
            have f0 := fz (k := m - 1 - i) r0
            have hx := d8_lt X i
            have RS : Box ((wr.setCell ⟨w.heap.size, m - 1 - i, none⟩ (.int .u8 ((d8 X i : Nat) : Int))).heap[w.heap.size]? = some (.cells (c8 m (set8 Y (m - 1 - i) (d8 X i))) 5)) := box (by rw [setCell_row r0, c8_seti m Y (m - 1 - i) _ _ (by omega) hx rfl])
            have NY : Box (∀ j, j < m → m - 1 - (i + 1) < j + 1 → (i + 1 = 0 → False) → (m - 1 - j < i + 1) → d8 (set8 Y (m - 1 - i) (d8 X i)) j = d8 X (m - 1 - j)) := box (fun j hj _ _ hji => by
              rw [d8_set8 _ _ _ _ hx]
              by_cases e : j = m - 1 - i
              · rw [if_pos e, e, show m - 1 - (m - 1 - i) = i by omega]
              · rw [if_neg e]
                exact HY.out j hj (by omega) (by omega) (by omega))
            have t1 : ((m : Int) - 1 - (i : Int)).toNat = m - 1 - i := by omega
            go_wp2
            go_roundw
            case rel => exact ⟨i + 1, _, by omega, by go_num, RS.out, hbw.setCell (Nat.le_refl _) _, NY⟩
            case measure => simp [intOf] <;> omega
          · obtain rfl : i = m := by omega
            have hsv := c8_str (c := i) v r0 (by rw [← HV.out, nbA_size]; exact HN.out) (fun k hk => by
              have hz : v.size = i := by rw [← HV.out, nbA_size]; exact HN.out
              have e := HY.out k (by omega) (by omega) (by omega) (by omega)
              rw [e]
              have hV := HV.out
              subst hV
              rw [nbA_get, HN.out])
            go_wp2
            go_ret
            exact ⟨rfl, hbw⟩

/-- Whether a string is that of a number of at most 16384 bytes. -/
def mayB (s : ByteArray) : Bool := decide (s.size ≤ 16384) && (decide (s.size = 0) || decide (∃ h : 0 < s.size, (s[0]'h).toNat ≠ 0))

theorem toList_len (s : ByteArray) : s.toList.length = s.size := by rw [ByteArray.toList_eq, Array.length_toList]; rfl
theorem eq_empty (s : ByteArray) : (s.toList == []) = decide (s.size = 0) := by
  rw [← toList_len]
  cases s.toList with
  | nil => rfl
  | cons x l => simp

theorem nat_may (s : ByteArray) (o : Bool) (ho : mayB s = o) (w : World) :
    Calls Tryz.prog 75 #[.string s] w fun e w' => e = .returned (.bool o) ∧ w' = w := by
  have d2 := eq_empty s
  by_cases h1 : s.size ≤ 16384
  · have d1 : decide ((s.size : Int) ≤ 16384) = true := by rw [decide_eq_true_iff]; omega
    by_cases h2 : s.size = 0
    · have e : o = true := by rw [← ho]; unfold mayB; rw [decide_eq_true h1, decide_eq_true h2]; rfl
      subst e
      rw [decide_eq_true h2] at d2
      clear h1 h2 ho
      go_enter Tryz.func75, Tryz.ntmps75
      go_wp2
      go_ret
      exact ⟨rfl, rfl⟩
    · rw [decide_eq_false h2] at d2
      have hp : 0 < s.size := by omega
      obtain ⟨x, hx⟩ : ∃ x, (s[0]'hp).toNat = x := ⟨_, rfl⟩
      have e : ((x : Int) != 0) = o := by
        rw [← ho]; unfold mayB
        rw [decide_eq_true h1, decide_eq_false h2, Bool.true_and, Bool.false_or]
        by_cases h0 : x = 0
        · rw [decide_eq_false (fun ⟨a, b⟩ => b (hx.trans h0)), h0]; rfl
        · rw [decide_eq_true ⟨hp, fun c => h0 (hx.symm.trans c)⟩]
          simp; omega
      have hi := idx_run s 0 0 x rfl hp hx
      clear h1 h2 ho hx
      go_enter Tryz.func75, Tryz.ntmps75
      go_wp2
      go_ret
      exact ⟨rfl, rfl⟩
  · have d1 : decide ((s.size : Int) ≤ 16384) = false := by rw [decide_eq_false_iff_not]; omega
    have e : o = false := by rw [← ho]; unfold mayB; rw [decide_eq_false h1]; rfl
    subst e
    clear h1 ho d2
    go_enter Tryz.func75, Tryz.ntmps75
    go_wp2
    go_ret
    exact ⟨rfl, rfl⟩

theorem mayB_nb (n : Nat) (h : nl n ≤ 16384) : mayB (nbA n) = true := by
  have hz := nbA_size n
  unfold mayB
  rw [show decide ((nbA n).size ≤ 16384) = true from decide_eq_true (by omega), Bool.true_and]
  by_cases h0 : (nbA n).size = 0
  · rw [decide_eq_true h0]; rfl
  · rw [decide_eq_false h0, Bool.false_or, decide_eq_true]
    exact ⟨by omega, nbA_first n _⟩
theorem mayB_is (s : ByteArray) (h : mayB s = true) : ∃ n, nbA n = s ∧ nl n ≤ 16384 := by
  unfold mayB at h
  rw [Bool.and_eq_true, Bool.or_eq_true, decide_eq_true_iff, decide_eq_true_iff, decide_eq_true_iff] at h
  obtain ⟨h1, h2⟩ := h
  obtain ⟨n, hn⟩ := nbA_of s (h2.imp id (fun ⟨a, b⟩ => ⟨a, fun c => b (by rw [c]; rfl)⟩))
  exact ⟨n, hn, by rw [← nbA_size, hn]; exact h1⟩

theorem bless_pre : ∀ (x y : List UInt8), x.length = y.length → (Op.bytesLess x y = decide (bvl x < bvl y))
  | [], [], _ => by rfl
  | [], _ :: _, h => by simp at h
  | _ :: _, [], h => by simp at h
  | a :: x, b :: y, h => by
    have hl : x.length = y.length := by simpa using h
    have ih := bless_pre x y hl
    have e : ∀ (c : UInt8) (z : List UInt8), bvl (c :: z) = c.toNat * 2 ^ (8 * z.length) + bvl z := by
      intro c z
      refine rev_ind (P := fun z => bvl (c :: z) = c.toNat * 2 ^ (8 * z.length) + bvl z) ?_ (fun l d ih => ?_) z
      · show 256 * 0 + c.toNat = c.toNat * 2 ^ (8 * 0) + 0
        simp
      · rw [← List.cons_append, bvl_snoc, ih, bvl_snoc, List.length_append, List.length_singleton, pow8, Nat.mul_add, ← Nat.mul_assoc (c.toNat)]
        omega
    have hx := bvl_lt x
    have hy := bvl_lt y
    rw [Op.bytesLess, ih, e a x, e b y, hl]
    rw [hl] at hx
    rcases Nat.lt_trichotomy a.toNat b.toNat with h1 | h1 | h1
    · have h2 : a < b := UInt8.lt_iff_toNat_lt.2 h1
      have h3 : (a.toNat + 1) * 2 ^ (8 * y.length) ≤ b.toNat * 2 ^ (8 * y.length) := Nat.mul_le_mul_right _ h1
      rw [Nat.add_mul, Nat.one_mul] at h3
      rw [decide_eq_true h2, Bool.true_or, decide_eq_true (by omega)]
    · have h2 : a = b := UInt8.toNat_inj.1 h1
      subst h2
      have h3 : ¬ a < a := fun h => Nat.lt_irrefl _ (UInt8.lt_iff_toNat_lt.1 h)
      rw [decide_eq_false h3, Bool.false_or, beq_self_eq_true, Bool.true_and]
      rw [Bool.eq_iff_iff, decide_eq_true_iff, decide_eq_true_iff]
      omega
    · have h2 : ¬ a < b := fun h => by have := UInt8.lt_iff_toNat_lt.1 h; omega
      have h3 : (b.toNat + 1) * 2 ^ (8 * y.length) ≤ a.toNat * 2 ^ (8 * y.length) := Nat.mul_le_mul_right _ h1
      rw [Nat.add_mul, Nat.one_mul] at h3
      have h4 : (a == b) = false := by simp only [beq_eq_false_iff_ne]; intro c; rw [c] at h1; omega
      rw [decide_eq_false h2, Bool.false_or, h4, Bool.false_and, decide_eq_false (by omega)]
theorem bvl_nbL (n : Nat) : bvl (nbL n) = n := by
  have h1 := bvl_lt (nbL n)
  rw [nbL_len] at h1
  refine d8_ext h1 (nl_lt n) (fun k hk => ?_)
  have h2 := bvl_d8 (nbL n) (nl n - 1 - k) (by rw [nbL_len]; omega)
  have hk2 : (nbL n).length - 1 - (nl n - 1 - k) = k := by rw [nbL_len]; omega
  rw [hk2] at h2
  rw [h2]
  have h3 := nbA_get n (nl n - 1 - k) (by rw [nbA_size]; omega)
  rw [show nl n - 1 - (nl n - 1 - k) = k by omega] at h3
  exact h3
theorem toList_nb (n : Nat) : (nbA n).toList = nbL n := by rw [ByteArray.toList_eq]; rfl
theorem bless_nb (a b : Nat) (h : nl a = nl b) : Op.bytesLess (nbA a).toList (nbA b).toList = decide (a < b) := by
  rw [toList_nb, toList_nb, bless_pre _ _ (by rw [nbL_len, nbL_len, h]), bvl_nbL, bvl_nbL]
theorem beq_nb (a b : Nat) : ((nbA a).toList == (nbA b).toList) = decide (a = b) := by
  rw [toList_nb, toList_nb, Bool.eq_iff_iff, beq_iff_eq, decide_eq_true_iff]
  constructor
  · intro h
    rw [← bvl_nbL a, h, bvl_nbL]
  · intro h; rw [h]

theorem nat_cmp (a b : Nat) (s t : ByteArray) (c : Int) (hs : nbA a = s) (ht : nbA b = t) (hc : cmpv a b = c) (w : World) :
    Calls Tryz.prog 193 #[.string s, .string t] w fun e w' => e = .returned (.int .i64 c) ∧ w' = w := by
  obtain ⟨L, hL⟩ : ∃ L, nl a = L := ⟨_, rfl⟩
  obtain ⟨M, hM⟩ : ∃ M, nl b = M := ⟨_, rfl⟩
  have hz : s.size = L := by rw [← hs, nbA_size, hL]
  have hy : t.size = M := by rw [← ht, nbA_size, hM]
  by_cases h : L = M
  · subst h
    have e1 := bless_nb a b (by rw [hL, hM])
    have e2 := beq_nb a b
    rw [hs, ht] at e1 e2
    have n1 : ((L : Int) != (L : Int)) = false := by simp
    unfold cmpv at hc
    by_cases h1 : a = b
    · rw [if_pos h1] at hc
      subst hc
      rw [decide_eq_false (by omega)] at e1
      rw [decide_eq_true h1] at e2
      clear hs ht hL hM h1
      go_enter Tryz.func193, Tryz.ntmps193
      go_wp2
      go_ret
      exact ⟨rfl, rfl⟩
    · rw [if_neg h1] at hc
      rw [decide_eq_false h1] at e2
      by_cases h2 : a < b
      · rw [if_pos h2] at hc
        subst hc
        rw [decide_eq_true h2] at e1
        clear hs ht hL hM h1 h2
        go_enter Tryz.func193, Tryz.ntmps193
        go_wp2
        go_ret
        exact ⟨rfl, rfl⟩
      · rw [if_neg h2] at hc
        subst hc
        rw [decide_eq_false h2] at e1
        clear hs ht hL hM h1 h2
        go_enter Tryz.func193, Tryz.ntmps193
        go_wp2
        go_ret
        exact ⟨rfl, rfl⟩
  · have n1 : ((L : Int) != (M : Int)) = true := by simp; omega
    have n2 : ¬ a = b := fun e => h (by rw [← hL, ← hM, e])
    unfold cmpv at hc
    rw [if_neg n2] at hc
    by_cases h2 : L < M
    · have h3 : a < b := by
        rcases Nat.lt_or_ge a b with h3 | h3
        · exact h3
        · have := nl_mono b a h3; omega
      rw [if_pos h3] at hc
      subst hc
      have n3 : decide (L < M) = true := decide_eq_true h2
      clear hs ht hL hM h n2 h2 h3
      go_enter Tryz.func193, Tryz.ntmps193
      go_wp2
      go_ret
      exact ⟨rfl, rfl⟩
    · have h3 : ¬ a < b := fun e => by have := nl_mono a b (Nat.le_of_lt e); omega
      rw [if_neg h3] at hc
      subst hc
      have n3 : decide (L < M) = false := decide_eq_false h2
      clear hs ht hL hM h n2 h2 h3
      go_enter Tryz.func193, Tryz.ntmps193
      go_wp2
      go_ret
      exact ⟨rfl, rfl⟩
end Go.Proofs.YtbmhfcppaajgbaaGreatDoor
namespace Go.Proofs.YtbmhfcppaajgbaaGreatDoor
set_option maxRecDepth 100000
open Go.RowKit WMath

theorem carry_step (S P t : Nat) : S + P * (t % 256) + P * 256 * (t / 256) = S + P * t := by
  have h := Nat.div_add_mod t 256
  have : P * t = P * (256 * (t / 256) + t % 256) := by rw [h]
  rw [this, Nat.mul_add, Nat.mul_assoc]
  omega

theorem pow8_le (i j : Nat) (h : i ≤ j) : 2 ^ (8 * i) ≤ 2 ^ (8 * j) := Nat.pow_le_pow_right (by decide) (by omega)
theorem wrap_u8_is (t x : Nat) (h : t % 256 = x) : IntKind.u8.wrap (t : Int) = (x : Int) := by
  rw [← h, IntKind.wrap_u8]; omega

theorem nsub_step (a b S i c x y z g : Nat) (hE : S + b % 2 ^ (8 * i) = a % 2 ^ (8 * i) + 2 ^ (8 * i) * c) (hx : d8 a i = x) (hy : d8 b i = y) (hz : z + y + c = x + 256 * g) :
    S + 2 ^ (8 * i) * z + b % 2 ^ (8 * (i + 1)) = a % 2 ^ (8 * (i + 1)) + 2 ^ (8 * (i + 1)) * g := by
  rw [mod_d8, mod_d8, hx, hy, pow8, Nat.mul_assoc]
  have e := congrArg (fun t => 2 ^ (8 * i) * t) hz
  simp only [Nat.mul_add] at e
  omega
theorem nsub_end (a b S i c : Nat) (hba : b ≤ a) (ha : a < 2 ^ (8 * i)) (hS : S < 2 ^ (8 * i)) (hE : S + b % 2 ^ (8 * i) = a % 2 ^ (8 * i) + 2 ^ (8 * i) * c) : S = a - b := by
  rw [Nat.mod_eq_of_lt ha, Nat.mod_eq_of_lt (show b < 2 ^ (8 * i) by omega)] at hE
  by_cases h : c = 0
  · rw [h] at hE; omega
  · have : 2 ^ (8 * i) * 1 ≤ 2 ^ (8 * i) * c := Nat.mul_le_mul_left _ (by omega)
    omega

set_option maxHeartbeats 1000000 in
theorem nat_sub (a b : Nat) (s t v : ByteArray) (hs : nbA a = s) (ht : nbA b = t) (hv : nbA (a - b) = v) (hba : b ≤ a) (ha : nl a ≤ 20000) (w : World) :
    Calls Tryz.prog 196 #[.string s, .string t] w fun e w' => e = .returned (.string v) ∧ Below w.heap.size w w' := by
  obtain ⟨L, hL⟩ : ∃ L, nl a = L := ⟨_, rfl⟩
  have hz : s.size = L := by rw [← hs, nbA_size, hL]
  have la := nl_lt a
  have hb := nl_mono b a hba
  rw [hL] at la ha hb
  have LA := box la
  have HBA := box hba
  have HS := box hs
  have HT := box ht
  have HV := box hv
  have NA : Box (nl a ≤ 100000) := box (by omega)
  have NB : Box (nl b ≤ 100000) := box (by omega)
  have hmk := c8_make L (by omega)
  clear hs ht hv hL la hba hb
  go_enter Tryz.func196, Tryz.ntmps196
  go_wp2
  clear hmk
  go_loopw [6, 7] (fun cv iv wr => ∃ (i c S : Nat), i ≤ L ∧ c < 2 ∧ cv = .int .i64 c ∧ iv = .int .i64 i ∧ wr.heap[w.heap.size]? = some (.cells (c8 L S) 5) ∧ Below w.heap.size w wr ∧ Box (S < 2 ^ (8 * i) ∧ S + b % 2 ^ (8 * i) = a % 2 ^ (8 * i) + 2 ^ (8 * i) * c)) (fun _ iv _ => L - (intOf iv).toNat)
  case atStart => exact ⟨0, 0, 0, by omega, by omega, rfl, rfl, heap_alloc_last _ _, (Below.refl _ _).alloc (Nat.le_refl _) _, box ⟨by decide, by simp [Nat.mod_one]⟩⟩
  case round =>
    obtain ⟨i, c, S, hi, hc, rfl, rfl, r0, hbw, HE⟩ := hrel
    by_cases hlt : i < L
    · obtain ⟨x, hx⟩ : ∃ x, d8 a i = x := ⟨_, rfl⟩
      obtain ⟨y, hy2⟩ : ∃ y, d8 b i = y := ⟨_, rfl⟩
      have x256 : x < 256 := by rw [← hx]; exact d8_lt a i
      have y256 : y < 256 := by rw [← hy2]; exact d8_lt b i
      obtain ⟨q, hq⟩ : ∃ q : Int, (x : Int) - (y : Int) - (c : Int) = q := ⟨_, rfl⟩
      obtain ⟨g, hg⟩ : ∃ g, (if x < y + c then 1 else 0) = g := ⟨_, rfl⟩
      obtain ⟨z, hz2⟩ : ∃ z, x + 256 * g - y - c = z := ⟨_, rfl⟩
      have hzz : z + y + c = x + 256 * g ∧ z < 256 ∧ g < 2 := by split at hg <;> omega
      have NE := nsub_step a b S i c x y z g HE.out.2 hx hy2 hzz.1
      have NX : Box (S + 2 ^ (8 * i) * z < 2 ^ (8 * (i + 1)) ∧ S + 2 ^ (8 * i) * z + b % 2 ^ (8 * (i + 1)) = a % 2 ^ (8 * (i + 1)) + 2 ^ (8 * (i + 1)) * g) := box ⟨push8_lt S i z HE.out.1 hzz.2.1, NE⟩
      have n1 : IntKind.i64.wrap ((x : Int) - (y : Int)) = (x : Int) - (y : Int) := wrap_i64_is _ (by omega) (by omega)
      have n3 : IntKind.i64.wrap ((x : Int) - (y : Int) - (c : Int)) = q := by rw [wrap_i64_is _ (by omega) (by omega)]; omega
      have n4 : IntKind.u8.wrap q = (z : Int) := by rw [IntKind.wrap_u8]; omega
      have c1 := c8_cell r0 hlt
      have f0 := fz (k := i) r0
      have z256 := hzz.2.1
      have RS : Box ((wr.setCell ⟨w.heap.size, i, none⟩ (.int .u8 (z : Int))).heap[w.heap.size]? = some (.cells (c8 L (S + 2 ^ (8 * i) * z)) 5)) := box (by rw [setCell_row r0, c8_push L S i z _ hlt HE.out.1 z256 rfl])
      have HX := box hx
      have HY := box hy2
      have dl : decide (i < L) = true := decide_eq_true hlt
      have hcase : (decide (q < 0) = true ∧ g = 1) ∨ (decide (q < 0) = false ∧ g = 0) := by
        rw [decide_eq_true_iff, decide_eq_false_iff_not]
        split at hg <;> omega
      clear hx hy2 hq hz2 hg NE hzz
      rcases hcase with ⟨dq, rfl⟩ | ⟨dq, rfl⟩
      all_goals
        go_wp2_with fail
        refine (nat_at a i x s HS.out HX.out NA.out _).mono ?_
        rintro e w' ⟨rfl, rfl⟩
        go_wp2_with fail
        refine (nat_at b i y t HT.out HY.out NB.out _).mono ?_
        rintro e w' ⟨rfl, rfl⟩
        go_wp2
        go_roundw
        case rel => exact ⟨i + 1, _, _, by omega, (by first | exact (by decide : 1 < 2) | exact (by decide : 0 < 2)), by first | rfl | go_num, by go_num, RS.out, hbw.setCell (Nat.le_refl _) _, NX⟩
        case measure => simp [intOf] <;> omega
    · obtain rfl : i = L := by omega
      have e := nsub_end a b S i c HBA.out LA.out HE.out.1 HE.out.2
      subst e
      have FX := box HE.out.1
      clear HE
      have dl : decide (i < i) = false := by rw [decide_eq_false_iff_not]; omega
      go_wp2_with fail
      refine (nat_fit i (a - b) w.heap.size i v (by omega) FX.out HV.out _ r0).mono ?_
      rintro e w' ⟨rfl, hb2⟩
      go_wp2
      go_ret
      exact ⟨rfl, hbw.trans (hb2.mono hbw.size)⟩

theorem ndbl_step (a o S i c t : Nat) (hE : S + 2 ^ (8 * i) * c = 2 * (a % 2 ^ (8 * i)) + o) (ht : c + 2 * d8 a i = t) :
    S + 2 ^ (8 * i) * (t % 256) + 2 ^ (8 * (i + 1)) * (t / 256) = 2 * (a % 2 ^ (8 * (i + 1))) + o := by
  rw [pow8, carry_step, ← pow8, mod_d8, ← ht, Nat.mul_add, Nat.mul_add 2, Nat.mul_left_comm]
  omega

set_option maxHeartbeats 1000000 in
theorem nat_double (a o : Nat) (s v : ByteArray) (hs : nbA a = s) (ho : o < 2) (hv : nbA (2 * a + o) = v) (ha : nl a ≤ 20000) (w : World) :
    Calls Tryz.prog 194 #[.string s, .int .i64 (o : Nat)] w fun e w' => e = .returned (.string v) ∧ Below w.heap.size w w' := by
  obtain ⟨L, hL⟩ : ∃ L, nl a = L := ⟨_, rfl⟩
  obtain ⟨N, hN⟩ : ∃ N, L + 1 = N := ⟨_, rfl⟩
  have hz : s.size = L := by rw [← hs, nbA_size, hL]
  have la := nl_lt a
  rw [hL] at la ha
  have LA : Box (a < 2 ^ (8 * N)) := box (Nat.lt_of_lt_of_le la (pow8_le _ _ (by omega)))
  have LAB : Box (2 * a + o < 2 ^ (8 * N)) := box (by rw [← hN, pow8]; omega)
  have HS := box hs
  have HV := box hv
  have NA : Box (nl a ≤ 100000) := box (by omega)
  have hmk := c8_makeI N ((L : Int) + 1) (by omega) (by omega)
  clear hs hv hL la
  go_enter Tryz.func194, Tryz.ntmps194
  go_wp2
  clear hmk
  go_loopw [6, 7] (fun cv iv wr => ∃ (i c S : Nat), i ≤ N ∧ c < 2 ∧ cv = .int .i64 c ∧ iv = .int .i64 i ∧ wr.heap[w.heap.size]? = some (.cells (c8 N S) 5) ∧ Below w.heap.size w wr ∧ Box (S < 2 ^ (8 * i) ∧ S + 2 ^ (8 * i) * c = 2 * (a % 2 ^ (8 * i)) + o)) (fun _ iv _ => N - (intOf iv).toNat)
  case atStart => exact ⟨0, o, 0, by omega, ho, rfl, rfl, heap_alloc_last _ _, (Below.refl _ _).alloc (Nat.le_refl _) _, box ⟨by decide, by simp [Nat.mod_one]⟩⟩
  case round =>
    obtain ⟨i, c, S, hi, hc, rfl, rfl, r0, hbw, HE⟩ := hrel
    by_cases hlt : i < N
    · obtain ⟨x, hx⟩ : ∃ x, d8 a i = x := ⟨_, rfl⟩
      have x256 : x < 256 := by rw [← hx]; exact d8_lt a i
      obtain ⟨q, hq⟩ : ∃ q, c + 2 * x = q := ⟨_, rfl⟩
      obtain ⟨z, hz2⟩ : ∃ z, q % 256 = z := ⟨_, rfl⟩
      obtain ⟨g, hg⟩ : ∃ g, q / 256 = g := ⟨_, rfl⟩
      have NE := ndbl_step a o S i c q HE.out.2 (by rw [hx]; exact hq)
      rw [hz2, hg] at NE
      have z256 : z < 256 := by omega
      have NX : Box (S + 2 ^ (8 * i) * z < 2 ^ (8 * (i + 1)) ∧ S + 2 ^ (8 * i) * z + 2 ^ (8 * (i + 1)) * g = 2 * (a % 2 ^ (8 * (i + 1))) + o) := box ⟨push8_lt S i z HE.out.1 z256, NE⟩
      have g2 : g < 2 := by omega
      have n1 : IntKind.i64.wrap (2 * (x : Int)) = 2 * (x : Int) := wrap_i64_is _ (by omega) (by omega)
      have n3 : IntKind.i64.wrap ((c : Int) + 2 * (x : Int)) = (q : Int) := by rw [wrap_i64_is _ (by omega) (by omega)]; omega
      have n4 := wrap_u8_is q z hz2
      have n5 : (q : Int) / 256 = (g : Int) := by omega
      have c1 := c8_cell r0 hlt
      have f0 := fz (k := i) r0
      have RS : Box ((wr.setCell ⟨w.heap.size, i, none⟩ (.int .u8 (z : Int))).heap[w.heap.size]? = some (.cells (c8 N (S + 2 ^ (8 * i) * z)) 5)) := box (by rw [setCell_row r0, c8_push N S i z _ hlt HE.out.1 z256 rfl])
      have HX := box hx
      have dl : decide (i ≤ L) = true := by rw [decide_eq_true_iff]; omega
      clear hx hq hz2 hg NE
      go_wp2_with fail
      refine (nat_at a i x s HS.out HX.out NA.out _).mono ?_
      rintro e w' ⟨rfl, rfl⟩
      go_wp2
      go_roundw
      case rel => exact ⟨i + 1, g, _, by omega, g2, by first | rfl | go_num, by go_num, RS.out, hbw.setCell (Nat.le_refl _) _, NX⟩
      case measure => simp [intOf] <;> omega
    · obtain rfl : i = N := by omega
      have e : S = 2 * a + o := by
        have h := HE.out.2
        rw [Nat.mod_eq_of_lt LA.out] at h
        have h2 := LAB.out
        by_cases hc0 : c = 0
        · rw [hc0] at h; omega
        · have : 2 ^ (8 * i) * 1 ≤ 2 ^ (8 * i) * c := Nat.mul_le_mul_left _ (by omega)
          omega
      subst e
      have FX := box HE.out.1
      clear HE
      have dl : decide (i ≤ L) = false := by rw [decide_eq_false_iff_not]; omega
      go_wp2_with fail
      refine (nat_fit i (2 * a + o) w.heap.size i v (by omega) FX.out HV.out _ r0).mono ?_
      rintro e w' ⟨rfl, hb2⟩
      go_wp2
      go_ret
      exact ⟨rfl, hbw.trans (hb2.mono hbw.size)⟩

theorem nat_bit (a i : Nat) (s : ByteArray) (o : Nat) (hs : nbA a = s) (ho : (a.testBit i).toNat = o) (ha : nl a ≤ 100000) (hi : i ≤ 10000000) (w : World) :
    Calls Tryz.prog 195 #[.string s, .int .i64 (i : Nat)] w fun e w' => e = .returned (.int .i64 (o : Nat)) ∧ w' = w := by
  obtain ⟨q, hq⟩ : ∃ q, q = i / 8 := ⟨_, rfl⟩
  obtain ⟨r, hr⟩ : ∃ r, r = i % 8 := ⟨_, rfl⟩
  have q1 : (i : Int) / 8 = (q : Int) := by omega
  have r1 : (i : Int) % 8 = (r : Int) := by omega
  have r8 : r < 8 := by omega
  obtain ⟨x, hx⟩ : ∃ x, d8 a q = x := ⟨_, rfl⟩
  have x256 : x < 256 := by rw [← hx]; exact d8_lt a q
  have e : x / 2 ^ r % 2 = o := by rw [← ho, ← hx, hq, hr, bit_of_d8, testBit_toNat]
  have hb : bits .and .i64 ((x : Int) / 2 ^ r) 1 = (o : Int) := by
    obtain ⟨y, hy⟩ : ∃ y, x / 2 ^ r = y := ⟨_, rfl⟩
    have e2 : (x : Int) / 2 ^ r = (y : Int) := by rw [← hy]; exact div_cast x r
    have y256 : y < 256 := by rw [← hy]; exact Nat.lt_of_le_of_lt (Nat.div_le_self _ _) x256
    rw [e2]
    show IntKind.i64.wrap ((BitVec.ofInt 64 (y : Int) &&& BitVec.ofInt 64 1).toNat : Int) = _
    have h1 : (BitVec.ofInt 64 1).toNat = 2 ^ 1 - 1 := by decide
    have h2 : (BitVec.ofInt 64 (y : Int)).toNat = y := by simp; omega
    rw [BitVec.toNat_and, h1, Nat.and_two_pow_sub_one_eq_mod, h2, wrap_i64_is _ (by omega) (by omega), ← e, hy]
  have HX := box hx
  clear hq hr hx e ho
  go_enter Tryz.func195, Tryz.ntmps195
  go_wp2_with fail
  refine (nat_at a q x s hs HX.out ha _).mono ?_
  rintro e w' ⟨rfl, rfl⟩
  go_wp2
  go_ret
  exact ⟨rfl, rfl⟩
end Go.Proofs.YtbmhfcppaajgbaaGreatDoor
namespace Go.Proofs.YtbmhfcppaajgbaaGreatDoor
set_option maxRecDepth 100000
open Go.RowKit WMath

/-- A result, or that it is too long. -/
def lg (x : Nat) : ByteArray × Int := if nl x ≤ 16384 then (nbA x, 0) else (⟨#[]⟩, 4)
/-- A difference, or that there is none. -/
def sb (a b : Nat) : ByteArray × Int := if a < b then (⟨#[]⟩, 2) else (nbA (a - b), 0)

end Go.Proofs.YtbmhfcppaajgbaaGreatDoor
