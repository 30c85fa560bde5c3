/-
  What the functions that the statement reaches return: part 2 (Word5, Pop, Rlen0, Rlow, Bits1, Wide0, Wide1, Wide2, Wide3, Quiet2, Wide4, Wide5, Wide6, Wide7, Wide8, Wide9, Frame6, Quot1, Quot2, Rlen, Rquot1, Nat0).
-/
import Derived.Lib.BitFns
import Derived.Lib.TrailingZeros
import Derived.Deep.WholeRow
import Derived.Below
import Derived.Deep.RegionWith
import Derived.Deep.QuietTactic
import Derived.BigQuiet
import Derived.ChangeKeysEq
import Derived.Deep.RegionLaw
import Derived.Laws.CopyOwn
import Derived.Deep.OwnRows
import Derived.Laws.BytesString
import Derived.Test.YtkblmpmkchkpjaaGreatDoorRows
import Derived.WalkKit
import Derived.ProofKit
import Derived.OpenShut
import Derived.Laws.IdiomArrays
import Derived.Carry
import Derived.RegionTactic
import Derived.Laws.Cover1
import Derived.Test.YtkblmpmkchkpjaaGreatDoorNe01
namespace Go.Proofs.YtkblmpmkchkpjaaGreatDoor
set_option maxRecDepth 100000
set_option maxHeartbeats 40000000
open Go.RowKit WMath
theorem fold_len : (⟨(((List.append (List.append [0, 1, 2, 2, 3, 3, 3, 3, 4, 4, 4, 4, 4, 4, 4, 4, 5, 5, 5, 5, 5, 5, 5, 5, 5, 5, 5, 5, 5, 5, 5, 5, 6, 6, 6, 6, 6, 6, 6, 6, 6, 6, 6, 6, 6, 6, 6, 6, 6, 6, 6, 6, 6, 6, 6, 6, 6, 6, 6, 6, 6, 6, 6, 6] [7, 7, 7, 7, 7, 7, 7, 7, 7, 7, 7, 7, 7, 7, 7, 7, 7, 7, 7, 7, 7, 7, 7, 7, 7, 7, 7, 7, 7, 7, 7, 7, 7, 7, 7, 7, 7, 7, 7, 7, 7, 7, 7, 7, 7, 7, 7, 7, 7, 7, 7, 7, 7, 7, 7, 7, 7, 7, 7, 7, 7, 7, 7, 7]) (List.append [8, 8, 8, 8, 8, 8, 8, 8, 8, 8, 8, 8, 8, 8, 8, 8, 8, 8, 8, 8, 8, 8, 8, 8, 8, 8, 8, 8, 8, 8, 8, 8, 8, 8, 8, 8, 8, 8, 8, 8, 8, 8, 8, 8, 8, 8, 8, 8, 8, 8, 8, 8, 8, 8, 8, 8, 8, 8, 8, 8, 8, 8, 8, 8] [8, 8, 8, 8, 8, 8, 8, 8, 8, 8, 8, 8, 8, 8, 8, 8, 8, 8, 8, 8, 8, 8, 8, 8, 8, 8, 8, 8, 8, 8, 8, 8, 8, 8, 8, 8, 8, 8, 8, 8, 8, 8, 8, 8, 8, 8, 8, 8, 8, 8, 8, 8, 8, 8, 8, 8, 8, 8, 8, 8, 8, 8, 8, 8])) : List UInt8).toArray)⟩ : ByteArray) = Lib.len8tab := by decide +kernel

theorem len_fact {P : Program} (w : World) (t : TypeId) (i : Int) (h : P.underlying t = some .string) (h0 : 0 ≤ i) (h1 : i ≤ 255) :
  (Instr.index t (.string Lib.len8tab) (.int .u8 i)).run P w = .ok (.int .u8 (Lib.bitLen i.toNat : Nat)) w := by
 rw [Lib.run_index_len8tab w t .u8 i h h0 h1, Lib.len8_of i h0 h1]

theorem len64_int (x : Int) (h0 : 0 ≤ x) (h1 : x ≤ 18446744073709551615) (w : World) :
  Calls Tryz.prog 271 #[.int .u64 x] w fun e w' => e = .returned (.int .i64 (Lib.bitLen x.toNat : Nat)) ∧ w' = w := by
 go_enter Tryz.func271, Tryz.ntmps271
 rw [fold_len]
 by_cases c1 : 4294967296 ≤ x
 ·
  by_cases c2 : 65536 ≤ x / 4294967296
  ·
   by_cases c3 : 256 ≤ x / 4294967296 / 65536
   ·
    have hx : ∀ w, (Instr.index 9 (.string Lib.len8tab) (.int .u8 (x / 4294967296 / 65536 / 256))).run Tryz.prog w = .ok (.int .u8 (Lib.bitLen (x / 4294967296 / 65536 / 256).toNat : Nat)) w := fun w => len_fact w 9 (x / 4294967296 / 65536 / 256) Tryz.underlying9 (by omega) (by omega)
    have l := Lib.bitLen_le8' (x / 4294967296 / 65536 / 256) (by omega) (by omega)
    have s := hide (Lib.bitLen_shift56 x.toNat (by omega) (by omega))
    have e := hide (show (x / 4294967296 / 65536 / 256).toNat = x.toNat / 72057594037927936 by omega)
    go_wp2
    go_ret
    exact ⟨x9 (by have := s.out; have := e.out; rw [s.out, e.out]; omega), rfl⟩
   ·
    have hx : ∀ w, (Instr.index 9 (.string Lib.len8tab) (.int .u8 (x / 4294967296 / 65536))).run Tryz.prog w = .ok (.int .u8 (Lib.bitLen (x / 4294967296 / 65536).toNat : Nat)) w := fun w => len_fact w 9 (x / 4294967296 / 65536) Tryz.underlying9 (by omega) (by omega)
    have l := Lib.bitLen_le8' (x / 4294967296 / 65536) (by omega) (by omega)
    have s := hide (Lib.bitLen_shift48 x.toNat (by omega) (by omega))
    have e := hide (show (x / 4294967296 / 65536).toNat = x.toNat / 281474976710656 by omega)
    go_wp2
    go_ret
    exact ⟨x9 (by have := s.out; have := e.out; rw [s.out, e.out]; omega), rfl⟩
  ·
   by_cases c3 : 256 ≤ x / 4294967296
   ·
    have hx : ∀ w, (Instr.index 9 (.string Lib.len8tab) (.int .u8 (x / 4294967296 / 256))).run Tryz.prog w = .ok (.int .u8 (Lib.bitLen (x / 4294967296 / 256).toNat : Nat)) w := fun w => len_fact w 9 (x / 4294967296 / 256) Tryz.underlying9 (by omega) (by omega)
    have l := Lib.bitLen_le8' (x / 4294967296 / 256) (by omega) (by omega)
    have s := hide (Lib.bitLen_shift40 x.toNat (by omega) (by omega))
    have e := hide (show (x / 4294967296 / 256).toNat = x.toNat / 1099511627776 by omega)
    go_wp2
    go_ret
    exact ⟨x9 (by have := s.out; have := e.out; rw [s.out, e.out]; omega), rfl⟩
   ·
    have hx : ∀ w, (Instr.index 9 (.string Lib.len8tab) (.int .u8 (x / 4294967296))).run Tryz.prog w = .ok (.int .u8 (Lib.bitLen (x / 4294967296).toNat : Nat)) w := fun w => len_fact w 9 (x / 4294967296) Tryz.underlying9 (by omega) (by omega)
    have l := Lib.bitLen_le8' (x / 4294967296) (by omega) (by omega)
    have s := hide (Lib.bitLen_shift32 x.toNat (by omega) (by omega))
    have e := hide (show (x / 4294967296).toNat = x.toNat / 4294967296 by omega)
    go_wp2
    go_ret
    exact ⟨x9 (by have := s.out; have := e.out; rw [s.out, e.out]; omega), rfl⟩
 ·
  by_cases c2 : 65536 ≤ x
  ·
   by_cases c3 : 256 ≤ x / 65536
   ·
    have hx : ∀ w, (Instr.index 9 (.string Lib.len8tab) (.int .u8 (x / 65536 / 256))).run Tryz.prog w = .ok (.int .u8 (Lib.bitLen (x / 65536 / 256).toNat : Nat)) w := fun w => len_fact w 9 (x / 65536 / 256) Tryz.underlying9 (by omega) (by omega)
    have l := Lib.bitLen_le8' (x / 65536 / 256) (by omega) (by omega)
    have s := hide (Lib.bitLen_shift24 x.toNat (by omega) (by omega))
    have e := hide (show (x / 65536 / 256).toNat = x.toNat / 16777216 by omega)
    go_wp2
    go_ret
    exact ⟨x9 (by have := s.out; have := e.out; rw [s.out, e.out]; omega), rfl⟩
   ·
    have hx : ∀ w, (Instr.index 9 (.string Lib.len8tab) (.int .u8 (x / 65536))).run Tryz.prog w = .ok (.int .u8 (Lib.bitLen (x / 65536).toNat : Nat)) w := fun w => len_fact w 9 (x / 65536) Tryz.underlying9 (by omega) (by omega)
    have l := Lib.bitLen_le8' (x / 65536) (by omega) (by omega)
    have s := hide (Lib.bitLen_shift16 x.toNat (by omega) (by omega))
    have e := hide (show (x / 65536).toNat = x.toNat / 65536 by omega)
    go_wp2
    go_ret
    exact ⟨x9 (by have := s.out; have := e.out; rw [s.out, e.out]; omega), rfl⟩
  ·
   by_cases c3 : 256 ≤ x
   ·
    have hx : ∀ w, (Instr.index 9 (.string Lib.len8tab) (.int .u8 (x / 256))).run Tryz.prog w = .ok (.int .u8 (Lib.bitLen (x / 256).toNat : Nat)) w := fun w => len_fact w 9 (x / 256) Tryz.underlying9 (by omega) (by omega)
    have l := Lib.bitLen_le8' (x / 256) (by omega) (by omega)
    have s := hide (Lib.bitLen_shift8 x.toNat (by omega) (by omega))
    have e := hide (show (x / 256).toNat = x.toNat / 256 by omega)
    go_wp2
    go_ret
    exact ⟨x9 (by have := s.out; have := e.out; rw [s.out, e.out]; omega), rfl⟩
   ·
    have hx : ∀ w, (Instr.index 9 (.string Lib.len8tab) (.int .u8 (x))).run Tryz.prog w = .ok (.int .u8 (Lib.bitLen (x).toNat : Nat)) w := fun w => len_fact w 9 (x) Tryz.underlying9 (by omega) (by omega)
    have l := Lib.bitLen_le8' (x) (by omega) (by omega)
    go_wp2
    go_ret
    exact ⟨x9 (by omega), rfl⟩

theorem len64_any (x : Nat) (hx : x < 18446744073709551616) (w : World) :
  Calls Tryz.prog 271 #[.int .u64 x] w fun e w' => e = .returned (.int .i64 (Lib.bitLen x : Nat)) ∧ w' = w := by
 have h := len64_int (x : Int) (by omega) (by omega) w
 rw [Int.toNat_natCast] at h
 exact h

theorem len_any (x : Nat) (hx : x < 18446744073709551616) (w : World) :
  Calls Tryz.prog 227 #[.int .u64 x] w fun e w' => e = .returned (.int .i64 (Lib.bitLen x : Nat)) ∧ w' = w := by
 go_enter Tryz.func227, Tryz.ntmps227
 go_wp2_with (go_at_call 271; refine (len64_any _ hx _).mono ?_; rintro e w' ⟨rfl, rfl⟩)
 go_ret
 exact ⟨rfl, rfl⟩

end Go.Proofs.YtkblmpmkchkpjaaGreatDoor
namespace Go.Proofs.YtkblmpmkchkpjaaGreatDoor.WMath
set_option maxRecDepth 100000
set_option maxHeartbeats 40000000
def mask8 (c : Nat) : Nat → Nat
  | 0 => 0
  | n + 1 => c + 256 * mask8 c n
def fC (n x : Nat) : Nat := (x / 16 + x) &&& mask8 15 n
def sA (b : Nat) : Nat := ((b / 2) &&& 85) + (b &&& 85)
theorem t1 : ∀ b : Fin 256, ∀ c : Fin 2, ((b.val / 2 + 128 * c.val) &&& 85) = (b.val / 2 &&& 85) := by decide +kernel
theorem t2 : ∀ b : Fin 256, ∀ c : Fin 4, ((b.val / 4 + 64 * c.val) &&& 51) = (b.val / 4 &&& 51) := by decide +kernel
theorem sA_lt : ∀ b : Fin 256, sA b.val < 256 := by decide +kernel
end Go.Proofs.YtkblmpmkchkpjaaGreatDoor.WMath
namespace Go.Proofs.YtkblmpmkchkpjaaGreatDoor
set_option maxRecDepth 100000
set_option maxHeartbeats 40000000
open Go.RowKit WMath
theorem bitLen_top (x k : Nat) (h1 : 2 ^ k ≤ x) (h2 : x < 2 ^ (k + 1)) (hk : k < 64) : Lib.bitLen x = k + 1 := by
 have hx : x < 18446744073709551616 := by
  have := pow_le_64 (k + 1) (by omega)
  omega
 rcases Nat.eq_zero_or_pos k with rfl | hp
 ·
  have : x = 1 := by simp at h1 h2; omega
  subst this; decide
 ·
  rw [Lib.bitLen_shift k x h1 hx, show x / 2 ^ k = 1 by
   apply Nat.div_eq_of_lt_le
   ·
    omega
   ·
    rw [Nat.pow_succ] at h2; omega]
  have : Lib.bitLen 1 = 1 := by decide
  omega
theorem bitLen_step (x k : Nat) (hk : k < 64) : Lib.bitLen (x % 2 ^ (k + 1)) = if x.testBit k then k + 1 else Lib.bitLen (x % 2 ^ k) := by
 rw [mod_succ]
 have hl : x % 2 ^ k < 2 ^ k := Nat.mod_lt _ (Nat.two_pow_pos k)
 cases x.testBit k
 ·
  simp
 ·
  rw [if_pos rfl, Bool.toNat_true, Nat.mul_one]
  exact bitLen_top _ k (by omega) (by rw [Nat.pow_succ]; omega) hk

theorem rlen_any (x : Nat) (hx : x < 18446744073709551616) (w : World) :
  Calls Tryz.prog 170 #[.int .u64 x] w fun e w' => e = .returned (.int .i64 (Lib.bitLen x : Nat)) ∧ w' = w := by
 have h0 : Hid (0 = Lib.bitLen (x % 2 ^ 0)) := by show 0 = _; rw [Nat.pow_zero, Nat.mod_one]; decide
 go_enter Tryz.func170, Tryz.ntmps170
 go_wp2
 go_loop [3, 4] (fun n i => ∃ k N : Nat, k ≤ 64 ∧ i = .int .i64 k ∧ n = .int .i64 N ∧ Hid (N = Lib.bitLen (x % 2 ^ k))) (fun _ i => 64 - (intOf i).toNat)
 case atStart => exact ⟨0, 0, by omega, rfl, rfl, h0⟩
 case round =>
  obtain ⟨k, N, hk, rfl, rfl, HN⟩ := hrel
  by_cases hlt : k < 64
  ·
   have st := hide (bitLen_step x k hlt)
   cases hb : x.testBit k
   ·
    have H1 : Hid (N = Lib.bitLen (x % 2 ^ (k + 1))) := by show N = _; rw [st.out, hb, HN.out]; rfl
    go_wp2_with (go_at_call 241; refine (bit_any _ _ ?_ ?_ _).mono ?_; assumption; assumption; rintro e w' ⟨rfl, rfl⟩)
    go_round
    case rel => exact ⟨k + 1, N, by omega, by go_num, rfl, H1⟩
    case measure => simp [intOf]; omega
   ·
    have H1 : Hid (k + 1 = Lib.bitLen (x % 2 ^ (k + 1))) := by show k + 1 = _; rw [st.out, hb]; rfl
    go_wp2_with (go_at_call 241; refine (bit_any _ _ ?_ ?_ _).mono ?_; assumption; assumption; rintro e w' ⟨rfl, rfl⟩)
    go_round
    case rel => exact ⟨k + 1, k + 1, by omega, by go_num, by go_num, H1⟩
    case measure => simp [intOf]; omega
  ·
   go_wp2
   go_ret
   obtain rfl : k = 64 := by omega
   exact ⟨x9 (by rw [HN.out, ← xK, Nat.mod_eq_of_lt hx]), rfl⟩
def LowIs (x t : Nat) : Prop := t < 64 ∧ x % 2 ^ t = 0 ∧ x.testBit t = true
theorem low_one (x s t : Nat) (h : LowIs x s) (g : LowIs x t) : s = t := by
 have hlt : ∀ a b, LowIs x a → LowIs x b → ¬ a < b := by
  intro a b ha hb hab
  have h1 := Nat.testBit_mod_two_pow x b a
  rw [hb.2.1, ha.2.2] at h1
  simp [hab] at h1
 have h1 := hlt s t h g
 have h2 := hlt t s g h
 omega
theorem rlow_any (x t : Nat) (hx : x < 18446744073709551616) (ht : LowIs x t) (w : World) :
  Calls Tryz.prog 276 #[.int .u64 x] w fun e w' => e = .returned (.int .i64 t) ∧ w' = w := by
 have ht0 := ht.1
 have hT := hide ht
 clear ht
 go_enter Tryz.func276, Tryz.ntmps276
 go_wp2
 go_loop [3] (fun i => ∃ k : Nat, k ≤ t ∧ i = .int .i64 k) (fun i => 64 - (intOf i).toNat)
 case atStart => exact ⟨0, by omega, rfl⟩
 case round =>
  obtain ⟨k, hk, rfl⟩ := hrel
  have hlt : k < 64 := by omega
  by_cases he : k < t
  ·
   have hb : x.testBit k = false := by
    have h1 := Nat.testBit_mod_two_pow x t k
    rw [hT.out.2.1] at h1
    simpa [he] using h1.symm
   go_wp2_with (go_at_call 241; refine (bit_any _ _ ?_ ?_ _).mono ?_; assumption; assumption; rintro e w' ⟨rfl, rfl⟩)
   go_round
   case rel => exact ⟨k + 1, by omega, by go_num⟩
   case measure => simp [intOf]; omega
  ·
   obtain rfl : k = t := by omega
   have hb : x.testBit k = true := hT.out.2.2
   go_wp2_with (go_at_call 241; refine (bit_any _ _ ?_ ?_ _).mono ?_; assumption; assumption; rintro e w' ⟨rfl, rfl⟩)
   go_ret
   exact ⟨rfl, rfl⟩
theorem ctz_low (x : Nat) (h0 : x ≠ 0) (hx : x < 18446744073709551616) : LowIs x (Lib.ctz 64 x) := by
 have h1 : Lib.ctz 64 x = Lib.ctzFrom 64 x := by unfold Lib.ctz; rw [if_neg h0]
 obtain ⟨m, hm, hlt⟩ := Lib.ctzFrom_spec 64 x (by omega) (by rw [← xK]; exact hx)
 rw [h1]
 generalize Lib.ctzFrom 64 x = t at *
 refine ⟨hlt, ?_, ?_⟩
 ·
  rw [hm, Nat.mul_mod_right]
 ·
  rw [Nat.testBit_eq_decide_div_mod_eq, hm, Nat.mul_div_cancel_left _ (Nat.two_pow_pos t)]
  simp

def zN (w : World) : Prop := ∀ i, i < 64 → w.cell? ⟨5, i, none⟩ = some (.int .u8 ((Lib.deBruijn64tab.getD i 0 : Nat) : Int))

theorem db_i (P I : Nat) (hI : I = P * 285870213051353865 % 18446744073709551616 / 288230376151711744) : IntKind.u64.wrap ((P : Int) * 285870213051353865) / 288230376151711744 = (I : Int) := by
 rw [IntKind.wrap_u64, hI]; simp
theorem tz_any (x t : Nat) (hx : x < 18446744073709551616) (ht : LowIs x t) (w : World) (hT : zN w) :
  Calls Tryz.prog 303 #[.int .u64 x] w fun e w' => e = .returned (.int .i64 t) ∧ w' = w := by
 have h0 : x ≠ 0 := by
  intro h; subst h
  have := ht.2.2
  rw [Nat.zero_testBit] at this
  cases this
 obtain ⟨hl, _⟩ := Lib.lowest_bit 64 x h0 (by rw [← xK]; exact hx)
 obtain ⟨d1, d2⟩ := Lib.deBruijn64_at t ht.1
 have hc : Lib.ctz 64 x = t := low_one x _ _ (ctz_low x h0 hx) ht
 rw [hc, ← xK] at hl
 have hp := pow_lt_64 t ht.1
 obtain ⟨P, hP⟩ : ∃ P, P = 2 ^ t := ⟨_, rfl⟩
 rw [← hP] at hl d1 d2 hp
 have e1 : bits .and .u64 (x : Int) (IntKind.u64.wrap (-(x : Int))) = (P : Int) := by
  have e : IntKind.u64.wrap (-(x : Int)) = ((18446744073709551616 - x : Nat) : Int) := by rw [IntKind.wrap_u64]; omega
  rw [e, bits_and_u64_nat _ _ hx (by omega), hl]
 obtain ⟨I, hI⟩ : ∃ I, I = P * 285870213051353865 % 18446744073709551616 / 288230376151711744 := ⟨_, rfl⟩
 rw [← hI] at d1 d2
 have e2 : IntKind.u64.wrap ((P : Int) * 285870213051353865) / 288230376151711744 = (I : Int) := db_i P I hI
 have hcell := hT I d1
 rw [d2] at hcell
 have hx0 : ((x : Int) == 0) = false := by rw [beq_eq_false_iff_ne]; omega
 have ht1 := ht.1
 clear hl d2 hc hp hP hI h0 ht hT
 go_enter Tryz.func303, Tryz.ntmps303
 go_wp2
 go_ret
 exact ⟨rfl, rfl⟩
theorem low_any (x t : Nat) (hx : x < 18446744073709551616) (ht : LowIs x t) (w : World) (hT : zN w) :
  Calls Tryz.prog 263 #[.int .u64 x] w fun e w' => e = .returned (.int .i64 t) ∧ w' = w := by
 have h := hide (tz_any x t hx ht w hT)
 clear ht hT
 go_enter Tryz.func263, Tryz.ntmps263
 go_wp2_with (go_at_call 303; refine h.out.mono ?_; rintro e w' ⟨rfl, rfl⟩)
 go_ret
 exact ⟨rfl, rfl⟩

theorem setRow_below (w : World) (b : Nat) (c : Array Value) (o : Obj) (h : b < w.heap.size) : (w.alloc o).setRow b c = (w.setRow b c).alloc o := by
 simp only [World.setRow, World.alloc]
 congr 1
 apply Array.ext_getElem?
 intro i
 rw [Array.getElem?_modify, Array.getElem?_push, Array.getElem?_push, Array.size_modify, Array.getElem?_modify]
 by_cases e : i = w.heap.size
 ·
  subst e
  rw [if_pos rfl, if_pos rfl, if_neg (by omega)]
 ·
  rw [if_neg e, if_neg e]

theorem yZ (w : World) (b : Nat) (o : Obj) (h : b < w.heap.size) : (w.alloc o).heap[b]? = w.heap[b]? := Below.heap_alloc w o b h
theorem zX (w : World) (o : Obj) : (w.alloc o).heap.size = w.heap.size + 1 := by
 show (w.heap.push o).size = _
 simp

theorem st_any (w : World) (b x y : Nat) (h : w.heap[b]? = some (.cells (cw 6 y) 66)) :
  (storeCells ⟨b, 0, none⟩ (cw 6 x).toList 0).run Tryz.prog w = .ok () (w.setRow b (cw 6 x)) := by
 have := run_storeCells_from (P := Tryz.prog) b 66 (cw 6 x).toList 0 (cw 6 y) w h (by simp [yT]) (fun v hv => (Array.all_eq_true_iff_forall_mem.1 (cw_oneCell 6 x)) v (by simpa using hv))
 simpa using this

theorem ix6 (n k : Nat) (w : World) (h : k < 6) : (Instr.index 66 (.agg (cw 6 n)) (.int .i64 k)).run Tryz.prog w = .ok (.int .u64 (wd n k : Nat)) w := by
 have h2 : (0 : Int) ≤ k ∧ (k : Int) < (6 : Nat) := by omega
 simp [Instr.index, run_underlying Tryz.underlying66, asIntOf, h2, go_sem]
 rw [if_pos h, yS 6 n k h]
 rfl

theorem st0 (w : World) (b x y : Nat) (hb : b = w.heap.size) :
  (storeCells ⟨b, 0, none⟩ (cw 6 x).toList 0).run Tryz.prog (w.alloc (.cells (cw 6 y) 66)) = .ok () (w.alloc (.cells (cw 6 x) 66)) := by
 subst hb
 rw [st_any _ _ x y (heap_alloc_last w _), World.setRow_alloc_new]
theorem st1 (w : World) (b x y : Nat) (o : Obj) (hb : b = w.heap.size) :
  (storeCells ⟨b, 0, none⟩ (cw 6 x).toList 0).run Tryz.prog ((w.alloc (.cells (cw 6 y) 66)).alloc o) = .ok () ((w.alloc (.cells (cw 6 x) 66)).alloc o) := by
 subst hb
 have h0 : w.heap.size < (w.alloc (.cells (cw 6 y) 66)).heap.size := by rw [zX]; omega
 rw [st_any _ _ x y (by rw [yZ _ _ _ h0]; exact heap_alloc_last w _), setRow_below _ _ _ _ h0, World.setRow_alloc_new]
theorem sc0d (w : World) (b t d : Nat) (c : Array Value) (T : TypeId) (v : Value) (hb : b = w.heap.size) :
  ((w.alloc (.cells c T)).drewN d).setCell ⟨b, t, none⟩ v = (w.alloc (.cells (c.setIfInBounds t v) T)).drewN d := by
 rw [← World.setCell_alloc_at (w := w) c T b t v hb]
 rfl
theorem st_drew (w w2 : World) (b x d : Nat) (h : (storeCells ⟨b, 0, none⟩ (cw 6 x).toList 0).run Tryz.prog w = .ok () w2) (y : Nat) (hy : w.heap[b]? = some (.cells (cw 6 y) 66)) :
  (storeCells ⟨b, 0, none⟩ (cw 6 x).toList 0).run Tryz.prog (w.drewN d) = .ok () (w2.drewN d) := by
 rw [st_any w b x y hy] at h
 rw [st_any (w.drewN d) b x y hy]
 injection h with _ h
 rw [← h]
 rfl
theorem st0d (w : World) (b x y d : Nat) (hb : b = w.heap.size) :
  (storeCells ⟨b, 0, none⟩ (cw 6 x).toList 0).run Tryz.prog ((w.alloc (.cells (cw 6 y) 66)).drewN d) = .ok () ((w.alloc (.cells (cw 6 x) 66)).drewN d) :=
 st_drew _ _ b x d (st0 w b x y hb) y (by rw [hb]; exact heap_alloc_last w _)
theorem wof_any (n : Nat) (hn : n < 18446744073709551616) (w : World) :
  Calls Tryz.prog 164 #[.int .u64 n] w fun e w' => e = .returned (W n) ∧ Below w.heap.size w w' := by
 unfold W
 have hat := yS 6
 have hz := cw6z
 have hf := cw6f
 have hs0 := st0
 have h1 : (cw 6 0).setIfInBounds 0 (.int .u64 n) = cw 6 n := by
  rw [cw_set 6 0 0 n (by omega) hn, setw_low 0 0 n (by decide)]; simp
 have h2 : (cw 6 0).toList.set 0 (.int .u64 n) = (cw 6 n).toList := by rw [← h1]; simp
 go_enter Tryz.func164, Tryz.ntmps164
 go_wp2
 exact bodyPost_ret (v := .agg (cw 6 n)) (by simp [results, Tryz.results164, go_sem, hat, hf]) rfl ⟨rfl, (Below.refl _ _).alloc (Nat.le_refl _) _⟩

theorem wor_any (n m : Nat) (hn : n < Q) (hm : m < Q) (w : World) :
  Calls Tryz.prog 144 #[W n, W m] w fun e w' => e = .returned (W (n ||| m)) ∧ Below w.heap.size w w' := by
 unfold W
 have hat := yS 6
 have hz := cw6z
 have hf := cw6f
 have hx := ix6
 have hs0 := st0
 go_enter Tryz.func144, Tryz.ntmps144
 go_wp2
 go_loopw [8] (fun i wr => ∃ (k X : Nat), k ≤ 6 ∧ i = .int .i64 k ∧ wr = ((w.alloc (.cells (cw 6 X) 66)).alloc (.cells (cw 6 m) 66)).alloc (.cells (cw 6 0) 66) ∧ Hid (Part X n k fun j => wd n j ||| wd m j)) (fun i _ => 6 - (intOf i).toNat)
 case atStart => exact ⟨0, n, by omega, rfl, rfl, hide (part_start n _ hn)⟩
 case round =>
  obtain ⟨k, X, hk, rfl, rfl, HE⟩ := hrel
  by_cases hlt : k < 6
  ·
   have hw := part_wd HE.out hlt
   have ho := bits_or_u64_nat (wd n k) (wd m k) (yU _ _) (yU _ _)
   go_wp2
   go_roundw
   case rel =>
    exact ⟨k + 1, _, by omega, by go_num, by rw [cw_seti 6 X k _ _ hlt (or_lt64 _ _ (yU n k) (yU m k)) rfl], hide (part_step HE.out hlt _ (or_lt64 _ _ (yU n k) (yU m k)) rfl)⟩
   case measure => simp [intOf]; omega
  ·
   go_wp2
   obtain rfl := part_end HE.out (by omega) (n ||| m) (or_ltQ n m hn hm) (fun j hj => wd_or n m j)
   exact bodyPost_ret (v := .agg (cw 6 (n ||| m))) (by simp [results, Tryz.results144, go_sem, hat, hf]) rfl ⟨rfl, (((Below.refl _ _).alloc (Nat.le_refl _) _).alloc (by simp <;> omega) _).alloc (by simp <;> omega) _⟩

def cnt6 (n : Int) : Nat := min n.toNat 384
theorem wcount_any (n : Int) (w : World) :
  Calls Tryz.prog 221 #[.int .i64 n] w fun e w' => e = .returned (.int .i64 (cnt6 n : Nat)) ∧ w' = w := by
 go_enter Tryz.func221, Tryz.ntmps221
 go_wp2
 all_goals go_ret
 all_goals
  refine ⟨x9 ?_, rfl⟩
  unfold cnt6
  omega

theorem left_is (x : Nat) (n : Int) (v : Nat) (h : x * 2 ^ cnt n % 18446744073709551616 = v) (w : World) :
  Calls Tryz.prog 244 #[.int .u64 x, .int .i64 n] w fun e w' => e = .returned (.int .u64 v) ∧ w' = w := by
 subst h; exact left_any x n w
theorem right_is (x : Nat) (n : Int) (v : Nat) (h : x / 2 ^ cnt n = v) (w : World) :
  Calls Tryz.prog 245 #[.int .u64 x, .int .i64 n] w fun e w' => e = .returned (.int .u64 v) ∧ w' = w := by
 subst h; exact right_any x n w

theorem wup_any (n s : Nat) (hn : n < Q) (hs : s ≤ 384) (w : World) :
  Calls Tryz.prog 181 #[W n, .int .i64 s] w fun e w' => e = .returned (W (n * 2 ^ s % Q)) ∧ Below w.heap.size w w' := by
 unfold W
 have hat := yS 6
 have hz := cw6z
 have hf := cw6f
 have hx := ix6
 have hs0 := st0d
 have hsc := sc0d
 obtain ⟨q, hq⟩ : ∃ q, q = s / 64 := ⟨_, rfl⟩
 obtain ⟨r, hr⟩ : ∃ r, r = s % 64 := ⟨_, rfl⟩
 have Ac : (s : Int) / 64 = (q : Int) := by omega
 have HR : zS ((s : Int) % 64 = (r : Int)) := zH (by omega)
 have hr2 : r < 64 := by omega
 have Ad : q ≤ 6 := by omega
 have HS : zS (s = 64 * q + r) := zH (by omega)
 have hwr : IntKind.i64.wrap (64 - (s : Int) % 64) = 64 - (s : Int) % 64 := by rw [IntKind.wrap_i64]; omega
 clear hq hr
 go_enter Tryz.func181, Tryz.ntmps181
 go_wp2
 go_loopw [16] (fun i wr => ∃ (k X : Nat), k ≤ 6 ∧ i = .int .i64 k ∧ (∃ d, wr = ((w.alloc (.cells (cw 6 n) 66)).alloc (.cells (cw 6 X) 66)).drewN d) ∧ zS (X = (n % 2 ^ (64 * k)) * 2 ^ s % Q)) (fun i _ => 6 - (intOf i).toNat)
 case atStart => exact ⟨0, 0, by omega, rfl, ⟨0, rfl⟩, zH (by simp [Nat.mod_one])⟩
 case round =>
  obtain ⟨k, X, hk, rfl, ⟨d, rfl⟩, HE⟩ := hrel
  by_cases hlt : k < 6
  ·
   obtain ⟨t, ht⟩ : ∃ t, t = k + q := ⟨_, rfl⟩
   have ht1 : (k : Int) + (q : Int) = (t : Int) := by omega
   obtain ⟨lo, hlo⟩ : ∃ lo, wd n k * 2 ^ r % 18446744073709551616 = lo := ⟨_, rfl⟩
   obtain ⟨hi, hhi⟩ : ∃ hi, wd n k / 2 ^ (64 - r) = hi := ⟨_, rfl⟩
   have hlo2 : lo < 18446744073709551616 := by rw [← hlo]; exact Nat.mod_lt _ (by decide)
   have hhi2 : hi < 18446744073709551616 := by rw [← hhi]; exact Nat.lt_of_le_of_lt (Nat.div_le_self _ _) (yU n k)
   have ST := zH (up_step n k s q r t X lo hi HS.out hr2 ht HE.out hlo hhi)
   have HLO := zH hlo
   have HHI := zH hhi
   have HT := zH ht
   clear hlo hhi ht
   have Aa : cnt ((s : Int) % 64) = r := by rw [HR.out]; exact cnt_small r hr2
   have Ab : cnt (64 - (s : Int) % 64) = 64 - r := by rw [HR.out]; unfold cnt; omega
   by_cases h1 : t < 6
   ·
    obtain ⟨X1, hX1⟩ : ∃ X1, X1 = X ||| lo * 2 ^ (64 * t) := ⟨_, rfl⟩
    have hb1 := bor X t lo hlo2
    have Ae := cw_or 6 X t lo X1 h1 hlo2 hX1
    have HX1 := zH hX1
    clear hX1
    have e1 : lo * 2 ^ (64 * t) % Q = lo * 2 ^ (64 * t) := Nat.mod_eq_of_lt (sh_small lo t hlo2 h1)
    have E1 := zH e1
    clear e1
    by_cases h2 : t + 1 < 6
    ·
     obtain ⟨X2, hX2⟩ : ∃ X2, X2 = X1 ||| hi * 2 ^ (64 * (t + 1)) := ⟨_, rfl⟩
     have hb2 := bor X1 (t + 1) hi hhi2
     have Af := cw_or 6 X1 (t + 1) hi X2 h2 hhi2 hX2
     have HX2 := zH hX2
     clear hX2
     have E2 := zH (Nat.mod_eq_of_lt (sh_small hi (t + 1) hhi2 h2))
     go_wp2
     go_region_with (go_at_call 244; refine (left_is _ _ lo (by rw [Aa]; exact HLO.out) _).mono ?_; rintro e w' ⟨rfl, rfl⟩)
     all_goals go_wp2
     all_goals go_region_with (go_at_call 245; refine (right_is _ _ hi (by rw [Ab]; exact HHI.out) _).mono ?_; rintro e w' ⟨rfl, rfl⟩)
     all_goals go_wp2
     all_goals go_roundw
     all_goals first | (show (_ : Nat) < _; simp [intOf]; omega) | exact ⟨k + 1, X2, by omega, by go_num, ⟨_, rfl⟩, zH (by rw [ST.out, E1.out, E2.out, HX2.out, HX1.out, Nat.or_assoc])⟩
    ·
     have E2 := zH (sh_big hi (t + 1) (by omega))
     go_wp2
     go_region_with (go_at_call 244; refine (left_is _ _ lo (by rw [Aa]; exact HLO.out) _).mono ?_; rintro e w' ⟨rfl, rfl⟩)
     all_goals go_wp2
     all_goals go_roundw
     all_goals first | (show (_ : Nat) < _; simp [intOf]; omega) | exact ⟨k + 1, X1, by omega, by go_num, ⟨_, rfl⟩, zH (by rw [ST.out, E1.out, E2.out, HX1.out, Nat.or_zero])⟩
   ·
    have E1 := zH (sh_big lo t (by omega))
    have E2 := zH (sh_big hi (t + 1) (by omega))
    have h3 : ¬ t + 1 < 6 := by omega
    go_wp2
    go_roundw
    case rel => exact ⟨k + 1, X, by omega, by go_num, ⟨_, rfl⟩, zH (by rw [ST.out, E1.out, E2.out, Nat.or_zero, Nat.or_zero])⟩
    case measure => simp [intOf]; omega
  ·
   go_wp2
   have e := HE.out
   rw [wlow n k hn (by omega)] at e
   subst e
   exact bodyPost_ret (v := .agg (cw 6 (n * 2 ^ s % Q))) (by simp [results, Tryz.results181, go_sem, hat, hf]) rfl ⟨rfl, below_drewN (((Below.refl _ _).alloc (Nat.le_refl _) _).alloc (by simp <;> omega) _) _⟩

theorem wdown_any (n s : Nat) (hn : n < Q) (hs : s ≤ 384) (w : World) :
  Calls Tryz.prog 222 #[W n, .int .i64 s] w fun e w' => e = .returned (W (n / 2 ^ s)) ∧ Below w.heap.size w w' := by
 unfold W
 have hat := yS 6
 have hz := cw6z
 have hf := cw6f
 have hx := ix6
 have hs0 := st0d
 have hsc := sc0d
 obtain ⟨q, hq⟩ : ∃ q, q = s / 64 := ⟨_, rfl⟩
 obtain ⟨r, hr⟩ : ∃ r, r = s % 64 := ⟨_, rfl⟩
 have Ac : (s : Int) / 64 = (q : Int) := by omega
 have HR : zS ((s : Int) % 64 = (r : Int)) := zH (by omega)
 have hr2 : r < 64 := by omega
 have Ad : q ≤ 6 := by omega
 have HS : zS (s = 64 * q + r) := zH (by omega)
 have hwr : IntKind.i64.wrap (64 - (s : Int) % 64) = 64 - (s : Int) % 64 := by rw [IntKind.wrap_i64]; omega
 clear hq hr
 go_enter Tryz.func222, Tryz.ntmps222
 go_wp2
 go_loopw [16] (fun i wr => ∃ (k X : Nat), k ≤ 6 ∧ i = .int .i64 k ∧ (∃ d, wr = ((w.alloc (.cells (cw 6 n) 66)).alloc (.cells (cw 6 X) 66)).drewN d) ∧ zS (X = (n % 2 ^ (64 * k)) / 2 ^ s)) (fun i _ => 6 - (intOf i).toNat)
 case atStart => exact ⟨0, 0, by omega, rfl, ⟨0, rfl⟩, zH (by simp [Nat.mod_one])⟩
 case round =>
  obtain ⟨k, X, hk, rfl, ⟨d, rfl⟩, HE⟩ := hrel
  by_cases hlt : k < 6
  ·
   obtain ⟨lo, hlo⟩ : ∃ lo, wd n k * 2 ^ (64 - r) % 18446744073709551616 = lo := ⟨_, rfl⟩
   obtain ⟨hi, hhi⟩ : ∃ hi, wd n k / 2 ^ r = hi := ⟨_, rfl⟩
   have hlo2 : lo < 18446744073709551616 := by rw [← hlo]; exact Nat.mod_lt _ (by decide)
   have hhi2 : hi < 18446744073709551616 := by rw [← hhi]; exact Nat.lt_of_le_of_lt (Nat.div_le_self _ _) (yU n k)
   have ST := zH (down_step n k s q r X lo hi HS.out hr2 HE.out hlo hhi)
   have HLO := zH hlo
   have HHI := zH hhi
   clear hlo hhi
   have Aa : cnt ((s : Int) % 64) = r := by rw [HR.out]; exact cnt_small r hr2
   have Ab : cnt (64 - (s : Int) % 64) = 64 - r := by rw [HR.out]; unfold cnt; omega
   by_cases h1 : q ≤ k
   ·
    obtain ⟨t, ht⟩ : ∃ t, t = k - q := ⟨_, rfl⟩
    have ht1 : (k : Int) - (q : Int) = (t : Int) := by omega
    have ht6 : t < 6 := by omega
    have HT := zH ht
    obtain ⟨X1, hX1⟩ : ∃ X1, X1 = X ||| hi * 2 ^ (64 * t) := ⟨_, rfl⟩
    have hb1 := bor X t hi hhi2
    have Ae := cw_or 6 X t hi X1 ht6 hhi2 hX1
    have HX1 := zH hX1
    clear hX1
    by_cases h2 : 1 ≤ t
    ·
     obtain ⟨u, hu⟩ : ∃ u, u = t - 1 := ⟨_, rfl⟩
     have hu1 : (t : Int) - 1 = (u : Int) := by omega
     have hu6 : u < 6 := by omega
     have hu3 : (0 : Int) ≤ (u : Int) := by omega
     have E : zS (X ||| (hi * 2 ^ (64 * (k - q)) ||| lo * 2 ^ (64 * (k - q - 1))) = X1 ||| lo * 2 ^ (64 * u)) := zH (by rw [HX1.out, show k - q - 1 = u by omega, show k - q = t by omega, Nat.or_assoc])
     have hqk : q < k := by omega
     clear ht hu
     obtain ⟨X2, hX2⟩ : ∃ X2, X2 = X1 ||| lo * 2 ^ (64 * u) := ⟨_, rfl⟩
     have hb2 := bor X1 u lo hlo2
     have Af := cw_or 6 X1 u lo X2 hu6 hlo2 hX2
     have HX2 := zH hX2
     clear hX2
     go_wp2
     go_region_with (go_at_call 245; refine (right_is _ _ hi (by rw [Aa]; exact HHI.out) _).mono ?_; rintro e w' ⟨rfl, rfl⟩)
     all_goals go_wp2
     all_goals go_region_with (go_at_call 244; refine (left_is _ _ lo (by rw [Ab]; exact HLO.out) _).mono ?_; rintro e w' ⟨rfl, rfl⟩)
     all_goals go_wp2
     all_goals go_roundw
     all_goals first | (show (_ : Nat) < _; simp [intOf]; omega) | exact ⟨k + 1, X2, by omega, by go_num, ⟨_, rfl⟩, zH (by rw [ST.out, if_pos hqk, E.out, HX2.out])⟩
    ·
     obtain rfl : q = k := by omega
     obtain rfl : t = 0 := by omega
     have E : zS (X1 = X ||| hi) := zH (by rw [HX1.out]; simp)
     clear ht
     go_wp2
     go_region_with (go_at_call 245; refine (right_is _ _ hi (by rw [Aa]; exact HHI.out) _).mono ?_; rintro e w' ⟨rfl, rfl⟩)
     all_goals go_wp2
     all_goals go_roundw
     all_goals first | (show (_ : Nat) < _; simp [intOf]; omega) | exact ⟨q + 1, X1, by omega, by go_num, ⟨_, rfl⟩, zH (by rw [ST.out, E.out]; simp)⟩
   ·
    have h4 : ¬ (0 : Int) ≤ (k : Int) - (q : Int) := by omega
    have h5 : ¬ (0 : Int) ≤ (k : Int) - (q : Int) - 1 := by omega
    go_wp2
    go_roundw
    case rel => exact ⟨k + 1, X, by omega, by go_num, ⟨_, rfl⟩, zH (by rw [ST.out, if_neg (by omega), if_neg (by omega)])⟩
    case measure => simp [intOf]; omega
  ·
   go_wp2
   have e := HE.out
   rw [wlow n k hn (by omega)] at e
   subst e
   exact bodyPost_ret (v := .agg (cw 6 (n / 2 ^ s))) (by simp [results, Tryz.results222, go_sem, hat, hf]) rfl ⟨rfl, below_drewN (((Below.refl _ _).alloc (Nat.le_refl _) _).alloc (by simp <;> omega) _) _⟩
theorem zQ (W : World) : ∃ F : World → World, (∀ u, Below W.heap.size W (F u)) ∧ (∀ u, Below W.heap.size W u → F u = u) := by
 classical
 refine ⟨fun u => if Below W.heap.size W u then u else W, fun u => ?_, fun u h => if_pos h⟩
 by_cases h : Below W.heap.size W u
 ·
  simp only [h, if_true]
 ·
  simp only [h, if_false]; exact Below.refl _ _

theorem zI {P : Program} {id : Nat} {Q : Exit → Act → World → Prop} {a : Act} {W : World} {l : List Oper} (F : World → World) (hF : ∀ u, Below W.heap.size W u → F u = u)
  (hm : P.follows .mixedOrders = true) (hB : Region.lexB .any l.toArray = true)
  (h : wpQuiet P l.toArray (fun w' => ∃ u, w' = F u) (fun a' => ∀ w', (∃ u, w' = F u) → Q .normal a' w') l a) : (Code.region id l.toArray true).wp P Q a W :=
 wp_region_quiet (C := fun w' => ∃ u, w' = F u) hm hB ⟨W.drew, (hF _ ((Below.refl _ _).drew)).symm⟩ (by simpa using h)

theorem zJ {P : Program} {f : Nat} {args : Array Value} {v : Value} {W : World} {F : World → World} (h1 : ∀ u, Below W.heap.size W (F u)) (h2 : ∀ u, Below W.heap.size W u → F u = u) {u : World}
  (h : Calls P f args (F u) fun e w' => e = .returned v ∧ Below (F u).heap.size (F u) w') : Calls P f args (F u) fun e w'' => e = .returned v ∧ ∃ u', w'' = F u' :=
 h.mono fun _ w' ⟨he, hm⟩ => ⟨he, w', (h2 _ ((h1 u).trans (hm.mono (h1 u).size))).symm⟩
theorem zA {W w1 : World} (hb : Below W.heap.size W w1) (b : Nat) (c : Array Value) (t : TypeId) (h : W.heap[b]? = some (.cells c t)) : w1.heap[b]? = some (.cells c t) := by
 rw [hb.block b (Array.getElem?_eq_some_iff.1 h).1, h]

theorem zR {w : World} {b n : Nat} (h : w.heap[b]? = some (.cells (cw 6 n) 66)) (o : Nat) (ho : o < 6) : w.cell? ⟨b, o, none⟩ = some (.int .u64 (wd n o : Nat)) := by
 rw [cell_of_row w b o _ _ _ h, yS 6 n o ho]
theorem yL {w : World} {b : Nat} {c c' : Array Value} {t : TypeId} (h : w.heap[b]? = some (.cells c t)) : (w.setRow b c').heap[b]? = some (.cells c' t) := by
 simp [World.setRow, Array.getElem?_modify, h]
theorem zU {w : World} {b b' : Nat} {c' : Array Value} (h : b ≠ b') : (w.setRow b c').heap[b']? = w.heap[b']? := by
 simp [World.setRow, Array.getElem?_modify, h]
theorem setRow_size {w : World} {b : Nat} {c' : Array Value} : (w.setRow b c').heap.size = w.heap.size := by
 simp [World.setRow]
theorem Below.setRow {B : Nat} {w w1 : World} {b : Nat} {c : Array Value} (h : Below B w w1) (hb : B ≤ b) : Below B w (w1.setRow b c) :=
 ⟨h.os, h.tape, h.output, by rw [setRow_size]; exact h.size, fun k hk => by rw [zU (by omega)]; exact h.block k hk⟩

theorem st_same (w : World) (b x : Nat) (h : w.heap[b]? = some (.cells (cw 6 x) 66)) :
  (storeCells ⟨b, 0, none⟩ (cw 6 x).toList 0).run Tryz.prog w = .ok () w := by
 rw [st_any w b x x h, setRow_self w b _ _ _ h]

theorem eqItems6 (d x y : Nat) (w : World) : ∀ is : List Nat, (∀ i ∈ is, i < 6) → (Op.eqItems (d + 1) 23 1 (cw 6 x) (cw 6 y) is).run Tryz.prog w = .ok (is.all fun i => wd x i == wd y i) w
 | [], _ => rfl
 | i :: is, h => by
  have hi := h i (by simp)
  have ih := eqItems6 d x y w is (fun j hj => h j (by simp [hj]))
  have p1 : ∀ z : Nat, (part 23 (cw 6 z) (i * 1)).run Tryz.prog w = .ok (.int .u64 (wd z i : Nat)) w := fun z => by
   simp [part, yS 6 z i hi, go_sem]
  have e : ((wd x i : Int) == (wd y i : Int)) = (wd x i == wd y i) := by rw [Bool.eq_iff_iff]; simp only [beq_iff_eq]; omega
  simp only [Op.eqItems, Sem.run_bind, p1, Result.andThen_ok, run_equalIn_int _ d 23 .u64 .u64 _ _ Tryz.underlying23, e]
  cases he : wd x i == wd y i
  ·
   simp [he]
  ·
   simp [he, ih]

theorem eq6 (x y : Nat) (hx : x < Q) (hy : y < Q) (w : World) : (Op.equalIn 10000 66 (.agg (cw 6 x)) (.agg (cw 6 y))).run Tryz.prog w = .ok (decide (x = y)) w := by
 obtain ⟨i, hi⟩ : ∃ i, Tryz.prog.info? 23 = some i := by
  have : (Tryz.prog.info? 23).isSome = true := by kernel_rfl
  exact Option.isSome_iff_exists.1 this
 have hc : Tryz.prog.cellsOf 23 = 1 := by kernel_rfl
 rw [run_equalIn_array w 9999 (cw 6 x) (cw 6 y) Tryz.underlying66 hi, hc, eqItems6 9998 x y w (List.range 6) (fun i h => by simpa using h)]
 congr 1
 rw [Bool.eq_iff_iff, List.all_eq_true, decide_eq_true_iff]
 constructor
 ·
  intro h
  obtain ⟨L, hL, hQ⟩ := Q_of
  rw [hQ] at hx hy
  exact wd_ext hx hy (fun k hk => by simpa using h k (by rw [hL] at hk; simpa using hk))
 ·
  rintro rfl i _
  simp
theorem eqg6 : Tryz.prog.eqGuardType Tryz.prog.depth 66 = false := by kernel_rfl
theorem left_lost (n c x : Nat) (hx : x = n * 2 ^ c % Q) : (!decide (x / 2 ^ c = n)) = decide (Q ≤ n * 2 ^ c) := by
 by_cases h : n * 2 ^ c < Q
 ·
  rw [hx, Nat.mod_eq_of_lt h, Nat.mul_div_cancel _ (Nat.two_pow_pos c), decide_eq_false (show ¬ Q ≤ n * 2 ^ c by omega)]
  simp
 ·
  have h1 : x < Q := by rw [hx]; exact Nat.mod_lt _ Q_pos
  have h2 : x / 2 ^ c ≠ n := by
   intro e
   have := Nat.div_mul_le_self x (2 ^ c)
   rw [e] at this
   omega
  rw [decide_eq_true (show Q ≤ n * 2 ^ c by omega), decide_eq_false h2]
  rfl
theorem wleft_any (n : Nat) (s : Int) (hn : n < Q) (w : World) :
  Calls Tryz.prog 163 #[W n, .int .i64 s] w fun e w' => e = .returned (.tuple #[W (n * 2 ^ cnt6 s % Q), .bool (decide (Q ≤ n * 2 ^ cnt6 s))]) ∧ Below w.heap.size w w' := by
 have hs6 : cnt6 s ≤ 384 := by unfold cnt6; omega
 obtain ⟨x, hx⟩ : ∃ x, x = n * 2 ^ cnt6 s % Q := ⟨_, rfl⟩
 have hxQ : x < Q := by rw [hx]; exact Nat.mod_lt _ Q_pos
 unfold W
 have hat := yS 6
 have hz := cw6z
 have hf := cw6f
 have hW : ∀ x, W x = .agg (cw 6 x) := fun _ => rfl
 have heq := eq6
 have hg := eqg6
 have hdQ : x / 2 ^ cnt6 s < Q := Nat.lt_of_le_of_lt (Nat.div_le_self _ _) hxQ
 rw [← hx]
 have HX := zH hx
 clear hx
 go_enter Tryz.func163, Tryz.ntmps163
 go_wp2_with (first | (go_at_call 221; refine (wcount_any _ _).mono ?_; rintro e w' ⟨rfl, rfl⟩))
 refine (wup_any n (cnt6 s) hn hs6 _).mono ?_
 rintro e w1 ⟨rfl, hb1⟩
 rw [← HX.out]
 unfold W
 have hr0 : w1.heap[w.heap.size]? = some (.cells (cw 6 n) 66) := zA hb1 _ _ _ (by rw [yZ _ _ _ (by simp)]; exact heap_alloc_last w _)
 have hr1 : w1.heap[w.heap.size + 1]? = some (.cells (cw 6 0) 66) := zA hb1 _ _ _ (by rw [← zX]; exact heap_alloc_last _ _)
 obtain ⟨w2, Aa⟩ : ∃ w2, w2 = w1.setRow (w.heap.size + 1) (cw 6 x) := ⟨_, rfl⟩
 have hst : (storeCells ⟨w.heap.size + 1, 0, none⟩ (cw 6 x).toList 0).run Tryz.prog w1 = .ok () w2 := by rw [Aa]; exact st_any w1 _ x 0 hr1
 have Ac : w2.heap[w.heap.size]? = some (.cells (cw 6 n) 66) := by rw [Aa, zU (by omega)]; exact hr0
 have Ab : w2.heap[w.heap.size + 1]? = some (.cells (cw 6 x) 66) := by rw [Aa]; exact yL hr1
 have hbw : Below w.heap.size w w2 := by
  rw [Aa]
  exact Below.setRow ((((Below.refl _ _).alloc (Nat.le_refl _) _).alloc (by simp) _).trans (hb1.mono (by simp <;> omega))) (by omega)
 have hs2 : w.heap.size + 1 < w2.heap.size := (Array.getElem?_eq_some_iff.1 Ab).1
 clear hb1 hr0 hr1 Aa
 obtain ⟨F, hF1, hF2⟩ := zQ w2
 have hFn : ∀ u o, o < 6 → (F u).cell? ⟨w.heap.size, o, none⟩ = some (.int .u64 (wd n o : Nat)) := fun u => zR (zA (hF1 u) _ _ _ Ac)
 have hFx : ∀ u o, o < 6 → (F u).cell? ⟨w.heap.size + 1, o, none⟩ = some (.int .u64 (wd x o : Nat)) := fun u => zR (zA (hF1 u) _ _ _ Ab)
 have hFs : ∀ u, (storeCells ⟨w.heap.size + 1, 0, none⟩ (cw 6 x).toList 0).run Tryz.prog (F u) = .ok () (F u) := fun u => st_same _ _ _ (zA (hF1 u) _ _ _ Ab)
 go_wp2
 refine zI F hF2 (by kernel_rfl) (by kernel_rfl) ?_
 repeat quiet_step ((go_at_call 222; exact zJ hF1 hF2 (wdown_any x (cnt6 s) hxQ hs6 _)))
 refine wpQuiet_nil ?_
 rintro _ ⟨u, rfl⟩
 go_wp2
 exact bodyPost_ret (v := .tuple #[.agg (cw 6 x), .bool (!decide (x / 2 ^ cnt6 s = n))]) (by simp [results, Tryz.results163, go_sem, hFx, hf]) rfl ⟨by rw [left_lost n _ x HX.out], hbw.trans ((hF1 u).mono (by omega))⟩
theorem wleft_is (n v : Nat) (s : Int) (o : Bool) (hn : n < Q) (hv : n * 2 ^ cnt6 s % Q = v) (ho : decide (Q ≤ n * 2 ^ cnt6 s) = o) (w : World) :
  Calls Tryz.prog 163 #[.agg (cw 6 n), .int .i64 s] w fun e w' => e = .returned (.tuple #[.agg (cw 6 v), .bool o]) ∧ Below w.heap.size w w' := by
 subst hv; subst ho; exact wleft_any n s hn w
theorem add_is (a b : Nat) (c : Bool) (s : Nat) (o : Bool) (ha : a < 18446744073709551616) (hb : b < 18446744073709551616) (hs : (a + b + c.toNat) % 18446744073709551616 = s) (ho : decide (18446744073709551616 ≤ a + b + c.toNat) = o) (w : World) :
  Calls Tryz.prog 270 #[.int .u64 a, .int .u64 b, .bool c] w fun e w' => e = .returned (.tuple #[.int .u64 s, .bool o]) ∧ w' = w := by
 subst hs; subst ho; exact add_any a b c ha hb w
theorem mul_is (x y h l : Nat) (hx : x < 18446744073709551616) (hy : y < 18446744073709551616) (hh : x * y / 18446744073709551616 = h) (hl : x * y % 18446744073709551616 = l) (w : World) :
  Calls Tryz.prog 323 #[.int .u64 x, .int .u64 y] w fun e w' => e = .returned (.tuple #[.int .u64 h, .int .u64 l]) ∧ w' = w := by
 subst hh; subst hl; exact mul_any x y hx hy w

theorem len_is (x l : Nat) (hx : x < 18446744073709551616) (hl : z7 x = l) (w : World) :
  Calls Tryz.prog 227 #[.int .u64 x] w fun e w' => e = .returned (.int .i64 (l : Nat)) ∧ w' = w := by
 subst hl; rw [← qV x hx]; exact len_any x hx w

theorem wlen_any (n : Nat) (hn : n < Q) (w : World) :
  Calls Tryz.prog 154 #[W n] w fun e w' => e = .returned (.int .i64 (z7 n : Nat)) ∧ Below w.heap.size w w' := by
 unfold W
 have hat := yS 6
 have hf := cw6f
 have hx := ix6
 go_enter Tryz.func154, Tryz.ntmps154
 go_wp2
 go_loop [3, 7] (fun r i => ∃ (k l : Nat), k ≤ 6 ∧ i = .int .i64 k ∧ r = .int .i64 l ∧ zS (l = z7 (n % 2 ^ (64 * k)))) (fun _ i => 6 - (intOf i).toNat)
 case atStart => exact ⟨0, 0, by omega, rfl, rfl, zH (by rw [Nat.mul_zero, Nat.pow_zero, Nat.mod_one, blen_zero])⟩
 case round =>
  obtain ⟨k, l, hk, rfl, rfl, HE⟩ := hrel
  by_cases hlt : k < 6
  ·
   have ST := zH (blen_step n k)
   obtain ⟨x, hxe⟩ : ∃ x, wd n k = x := ⟨_, rfl⟩
   have hx2 : x < 18446744073709551616 := by rw [← hxe]; exact yU n k
   have hbl : z7 x ≤ 64 := xL x 64 (by rw [← xK]; exact hx2)
   obtain ⟨b, hb⟩ : ∃ b, z7 x = b := ⟨_, rfl⟩
   rw [hb] at hbl
   have HB := zH hb
   have HX := zH hxe
   clear hb
   by_cases h0 : x = 0
   ·
    subst h0
    go_wp2
    go_round
    case rel => exact ⟨k + 1, l, by omega, by go_num, rfl, zH (by rw [ST.out, HX.out, if_pos rfl]; exact HE.out)⟩
    case measure => simp [intOf]; omega
   ·
    go_wp2_with (go_at_call 227; refine (len_is x b hx2 HB.out _).mono ?_; rintro e w' ⟨rfl, rfl⟩)
    go_round
    case rel => exact ⟨k + 1, 64 * k + b, by omega, by go_num, by go_num, zH (by rw [ST.out, HX.out, if_neg h0, HB.out])⟩
    case measure => simp [intOf]; omega
  ·
   go_wp2
   go_ret
   exact ⟨x9 (by rw [HE.out, wlow n k hn (by omega)]), (Below.refl _ _).alloc (Nat.le_refl _) _⟩

def cb (l : List UInt8) : Array Value := (l.map fun b => Value.int .u8 (b.toNat : Int)).toArray

theorem cb_at (l : List UInt8) (k : Nat) (b : UInt8) (h : l[k]? = some b) : (cb l)[k]? = some (.int .u8 (b.toNat : Int)) := by simp [cb, h]
theorem cb_size (l : List UInt8) : (cb l).size = l.length := by simp [cb]
theorem fz {w : World} {b k : Nat} {c : Array Value} {t : TypeId} (h : w.heap[b]? = some (.cells c t)) : w.frozen? ⟨b, k, none⟩ = false := by simp [World.frozen?, h]
theorem z6 {w : World} {b k : Nat} {c : Array Value} {t : TypeId} {v : Value} (h : w.heap[b]? = some (.cells c t)) : (w.setCell ⟨b, k, none⟩ v).heap[b]? = some (.cells (c.setIfInBounds k v) t) := by
 simp [World.setCell, Array.getElem?_modify, h]
theorem zG {w : World} {b b' k : Nat} {v : Value} (h : b ≠ b') : (w.setCell ⟨b, k, none⟩ v).heap[b']? = w.heap[b']? := by
 simp [World.setCell, Array.getElem?_modify, h]
theorem fold_bytes : ∀ (l : List UInt8) (a : Array UInt8), ((l.map fun b => (b.toNat : Int)).foldl (fun r n => r.push (UInt8.ofNat n.toNat)) (⟨a⟩ : ByteArray)) = ⟨a ++ l.toArray⟩
 | [], a => by simp
 | x :: l, a => by
  have := fold_bytes l (a.push x)
  simp only [List.map_cons, List.foldl_cons, Int.toNat_natCast, UInt8.ofNat_toNat]
  rw [show (ByteArray.mk a).push x = ⟨a.push x⟩ from rfl, this]
  simp
theorem str_of {w : World} {b c : Nat} {l : List UInt8} {t : TypeId} (h : w.heap[b]? = some (.cells (cb l) t)) :
  (convert 202 9 (.slice (some ⟨b, 0, none⟩) l.length c)).run Tryz.prog w = .ok (.string ⟨l.toArray⟩) w := by
 rw [run_convert_bytes_string w 202 9 5 _ _ _ Tryz.underlying202 Tryz.underlying5 Tryz.underlying9]
 have hl := run_loadCells_list (P := Tryz.prog) w ⟨b, 0, none⟩ (l.map fun x => Value.int .u8 (x.toNat : Int)) (fun j v hv => by
  have hadd : (⟨b, 0, none⟩ : Addr).add j = ⟨b, j, none⟩ := by unfold Addr.add; split <;> simp_all
  rw [hadd, cell_of_row w b j _ _ _ h]
  simpa [cb] using hv)
 rw [List.length_map] at hl
 rw [run_bytesToString (P := Tryz.prog) w ⟨b, 0, none⟩ l.length c (l.map fun x => (x.toNat : Int)) (by rw [hl]; simp), show ByteArray.empty = ⟨#[]⟩ from rfl, fold_bytes]
 simp

theorem wof_al (n : Nat) (hn : n < 18446744073709551616) (w : World) : Calls Tryz.prog 164 #[.int .u64 n] w fun e w' => e = .returned (.agg (cw 6 n)) ∧ Below w.heap.size w w' := wof_any n hn w
def bitsV (b : Nat × Nat) : Value := .agg #[.int .u64 (b.1 : Nat), .int .u64 (b.2 : Nat)]

theorem set0 (x : Nat) (hx : x < 18446744073709551616) : (cw 6 0).setIfInBounds 0 (.int .u64 x) = cw 6 x := by
 rw [cw_set 6 0 0 x (by omega) hx, setw_low 0 0 x (by decide)]; simp
theorem set1 (x y : Nat) (hx : x < 18446744073709551616) (hy : y < 18446744073709551616) : (cw 6 x).setIfInBounds 1 (.int .u64 y) = cw 6 (x + 18446744073709551616 * y) := by
 rw [cw_set 6 x 1 y (by omega) hy, setw_low x 1 y (by rw [show 2 ^ (64 * 1) = 18446744073709551616 by decide]; exact hx)]
theorem bits_ltQ (x y : Nat) (hx : x < 18446744073709551616) (hy : y < 18446744073709551616) : x + 18446744073709551616 * y < Q := by
 obtain ⟨L, hL, hQ⟩ := Q_of
 rw [hQ]
 have h := push_lt x 1 y (by rw [show 2 ^ (64 * 1) = 18446744073709551616 by decide]; exact hx) hy
 have h2 : 2 ^ (64 * (1 + 1)) ≤ 2 ^ (64 * L) := Nat.pow_le_pow_right (by decide) (by omega)
 rw [show 2 ^ (64 * 1) = 18446744073709551616 by decide] at h
 omega

theorem wofbits_any (hi lo : Nat) (hh : hi < 18446744073709551616) (hl : lo < 18446744073709551616) (w : World) :
  Calls Tryz.prog 141 #[.agg #[.int .u64 hi, .int .u64 lo]] w fun e w' => e = .returned (.agg (cw 6 (lo + 18446744073709551616 * hi))) ∧ Below w.heap.size w w' := by
 have hat := yS 6
 have hz := cw6z
 have hf := cw6f
 have hs0 := st0
 obtain ⟨v, hv⟩ : ∃ v, v = lo + 18446744073709551616 * hi := ⟨_, rfl⟩
 have h1 := set0 lo hl
 have h2 := set1 lo hi hl hh
 rw [← hv] at h2 ⊢
 have h3 : (cw 6 0).toList.set 0 (.int .u64 lo) = (cw 6 lo).toList := by rw [← h1]; simp
 have h4 : (cw 6 lo).toList.set 1 (.int .u64 hi) = (cw 6 v).toList := by rw [← h2]; simp
 clear hv
 go_enter Tryz.func141, Tryz.ntmps141
 go_wp2
 exact bodyPost_ret (v := .agg (cw 6 v)) (by simp [results, Tryz.results141, go_sem, hat, hf]) rfl ⟨rfl, ((Below.refl _ _).alloc (Nat.le_refl _) _).alloc (by simp <;> omega) _⟩

def xY (n m : Nat) : Int := if n = m then 0 else if n < m then -1 else 1

theorem wofbits_is (hi lo v : Nat) (hh : hi < 18446744073709551616) (hl : lo < 18446744073709551616) (hv : lo + 18446744073709551616 * hi = v) (w : World) :
  Calls Tryz.prog 141 #[.agg #[.int .u64 hi, .int .u64 lo]] w fun e w' => e = .returned (.agg (cw 6 v)) ∧ Below w.heap.size w w' := by
 subst hv; exact wofbits_any hi lo hh hl w

theorem wtobits_yes (n : Nat) (hn : n < Q) (hv : wd n 0 + 18446744073709551616 * wd n 1 = n) (w : World) :
  Calls Tryz.prog 143 #[.agg (cw 6 n)] w fun e w' => e = .returned (.tuple #[.agg #[.int .u64 (wd n 1), .int .u64 (wd n 0)], .bool true]) ∧ Below w.heap.size w w' := by
 have hat := yS 6
 have hf := cw6f
 have heq := eq6
 have hg := eqg6
 have HV := zH hv
 clear hv
 obtain ⟨W, hW⟩ : ∃ W, W = (w.alloc (.cells (cw 6 n) 66)).alloc (.cells #[.int .u64 (wd n 1), .int .u64 (wd n 0)] 25) := ⟨_, rfl⟩
 have r0 : W.heap[w.heap.size]? = some (.cells (cw 6 n) 66) := by rw [hW, yZ _ _ _ (by simp only [zX]; omega)]; exact heap_alloc_last _ _
 have r1 : W.heap[w.heap.size + 1]? = some (.cells #[.int .u64 (wd n 1), .int .u64 (wd n 0)] 25) := by
  rw [hW]
  have := heap_alloc_last (w.alloc (.cells (cw 6 n) 66)) (.cells #[.int .u64 (wd n 1), .int .u64 (wd n 0)] 25)
  simpa only [zX] using this
 have bW : Below w.heap.size w W := by rw [hW]; exact ((Below.refl _ _).alloc (Nat.le_refl _) _).alloc (by simp only [zX]; omega) _
 obtain ⟨F, hF1, hF2⟩ := zQ W
 have hFn : ∀ u o, o < 6 → (F u).cell? ⟨w.heap.size, o, none⟩ = some (.int .u64 (wd n o : Nat)) := fun u => zR (zA (hF1 u) _ _ _ r0)
 have hF3 : ∀ u, (F u).cell? ⟨w.heap.size + 1, 0, none⟩ = some (.int .u64 (wd n 1)) := fun u => by rw [cell_of_row _ _ _ _ _ _ (zA (hF1 u) _ _ _ r1)]; rfl
 have hF4 : ∀ u, (F u).cell? ⟨w.heap.size + 1, 1, none⟩ = some (.int .u64 (wd n 0)) := fun u => by rw [cell_of_row _ _ _ _ _ _ (zA (hF1 u) _ _ _ r1)]; rfl
 go_enter Tryz.func143, Tryz.ntmps143
 go_wp2
 rw [← hW]
 clear hW
 refine zI F hF2 (by kernel_rfl) (by kernel_rfl) ?_
 repeat quiet_step ((go_at_call 141; exact zJ hF1 hF2 (wofbits_is (wd n 1) (wd n 0) n (yU _ _) (yU _ _) HV.out _)))
 refine wpQuiet_nil ?_
 rintro _ ⟨u, rfl⟩
 have hz3 := hF3 u
 have hz4 := hF4 u
 have hz5 : ∀ o, (F u).frozen? ⟨w.heap.size + 1, o, none⟩ = false := fun o => fz (zA (hF1 u) _ _ _ r1)
 go_wp2
 exact bodyPost_ret (v := .tuple #[.agg #[.int .u64 (wd n 1), .int .u64 (wd n 0)], .bool true]) (by simp [results, Tryz.results143, go_sem, hz3, hz4]) rfl ⟨rfl, ((bW.trans ((hF1 u).mono bW.size)).setCell (by show w.heap.size ≤ w.heap.size + 1; omega) _).setCell (by show w.heap.size ≤ w.heap.size + 1; omega) _⟩
theorem wtobits_no (n : Nat) (hn : n < Q) (hv : ¬ wd n 0 + 18446744073709551616 * wd n 1 = n) (w : World) :
  Calls Tryz.prog 143 #[.agg (cw 6 n)] w fun e w' => e = .returned (.tuple #[.agg #[.int .u64 0, .int .u64 0], .bool false]) ∧ Below w.heap.size w w' := by
 have hat := yS 6
 have hf := cw6f
 have heq := eq6
 have hg := eqg6
 obtain ⟨v, hx⟩ : ∃ v, wd n 0 + 18446744073709551616 * wd n 1 = v := ⟨_, rfl⟩
 rw [hx] at hv
 have hvQ : v < Q := by rw [← hx]; exact bits_ltQ _ _ (yU _ _) (yU _ _)
 have HV := zH hx
 clear hx
 obtain ⟨W, hW⟩ : ∃ W, W = (w.alloc (.cells (cw 6 n) 66)).alloc (.cells #[.int .u64 (wd n 1), .int .u64 (wd n 0)] 25) := ⟨_, rfl⟩
 have r0 : W.heap[w.heap.size]? = some (.cells (cw 6 n) 66) := by rw [hW, yZ _ _ _ (by simp only [zX]; omega)]; exact heap_alloc_last _ _
 have r1 : W.heap[w.heap.size + 1]? = some (.cells #[.int .u64 (wd n 1), .int .u64 (wd n 0)] 25) := by
  rw [hW]
  have := heap_alloc_last (w.alloc (.cells (cw 6 n) 66)) (.cells #[.int .u64 (wd n 1), .int .u64 (wd n 0)] 25)
  simpa only [zX] using this
 have bW : Below w.heap.size w W := by rw [hW]; exact ((Below.refl _ _).alloc (Nat.le_refl _) _).alloc (by simp only [zX]; omega) _
 obtain ⟨F, hF1, hF2⟩ := zQ W
 have hFn : ∀ u o, o < 6 → (F u).cell? ⟨w.heap.size, o, none⟩ = some (.int .u64 (wd n o : Nat)) := fun u => zR (zA (hF1 u) _ _ _ r0)
 have hF3 : ∀ u, (F u).cell? ⟨w.heap.size + 1, 0, none⟩ = some (.int .u64 (wd n 1)) := fun u => by rw [cell_of_row _ _ _ _ _ _ (zA (hF1 u) _ _ _ r1)]; rfl
 have hF4 : ∀ u, (F u).cell? ⟨w.heap.size + 1, 1, none⟩ = some (.int .u64 (wd n 0)) := fun u => by rw [cell_of_row _ _ _ _ _ _ (zA (hF1 u) _ _ _ r1)]; rfl
 go_enter Tryz.func143, Tryz.ntmps143
 go_wp2
 rw [← hW]
 clear hW
 refine zI F hF2 (by kernel_rfl) (by kernel_rfl) ?_
 repeat quiet_step ((go_at_call 141; exact zJ hF1 hF2 (wofbits_is (wd n 1) (wd n 0) v (yU _ _) (yU _ _) HV.out _)))
 refine wpQuiet_nil ?_
 rintro _ ⟨u, rfl⟩
 have hz3 := hF3 u
 have hz4 := hF4 u
 have hz5 : ∀ o, (F u).frozen? ⟨w.heap.size + 1, o, none⟩ = false := fun o => fz (zA (hF1 u) _ _ _ r1)
 go_wp2
 exact bodyPost_ret (v := .tuple #[.agg #[.int .u64 0, .int .u64 0], .bool false]) (by simp [results, Tryz.results143, go_sem, hz3, hz4]) rfl ⟨rfl, ((bW.trans ((hF1 u).mono bW.size)).setCell (by show w.heap.size ≤ w.heap.size + 1; omega) _).setCell (by show w.heap.size ≤ w.heap.size + 1; omega) _⟩

end Go.Proofs.YtkblmpmkchkpjaaGreatDoor
namespace Go.Proofs.YtkblmpmkchkpjaaGreatDoor
set_option maxRecDepth 100000
set_option maxHeartbeats 40000000
open WMath
open Go.ChangeShapes Go.WideShapes Go.ChangeAt Go.RowKit
theorem post_plain {H : Type} {enc : TypeId × Value → H} {P : Program} {f : Func} {s : ChangeSpec} {apart fresh handsOn again : Bool} {W W' : World} {args : Array Value} {v : Value} {ds gs : List (DataW H)}
  (hW : DataW.Whole enc P f.params.toList s.vars apart W args.toList ds gs [])
  (hres : ∀ (b : Nat) (sp : Nat → Bool) (hd : Bool), DataW.TrodAll enc P W' b sp hd f.resultTypes.toList (v.resultList f.resultTypes.size) (s.fn H (ds ++ gs)).results [])
  (hargs : ∀ sp : Nat → Bool, DataW.TrodAll enc P W' 0 sp true f.params.toList args.toList (s.fn H (ds ++ gs)).args [])
  (hvars : ∀ sp : Nat → Bool, DataW.TrodVars enc P W' sp s.vars (s.fn H (ds ++ gs)).vars [])
  (hk : Below W.heap.size W W')
  (hok : ∀ (j : Nat) (t : TypeId) (r : Value), f.resultTypes[j]? = some t → (v.resultList f.resultTypes.size)[j]? = some r → Value.okWide P W' .any 0 t r) :
  s.post enc P f apart fresh handsOn again W args v W' := by
 refine ⟨ds, gs, [], [], [], [], hW, hres _ _ _, hargs _, hvars _, hk.frame _, fun _ => ⟨hok, _, _, [], ⟨[], [], trodAll_append (hargs _) (hres _ _ _), hvars _, rfl, ?_, ?_⟩, ?_⟩⟩
 ·
  intro _ _ hp
  cases hp
 ·
  intro _
  exact List.Pairwise.nil
 ·
  intro _ hp
  cases hp
end Go.Proofs.YtkblmpmkchkpjaaGreatDoor
namespace Go.Proofs.YtkblmpmkchkpjaaGreatDoor
set_option maxRecDepth 100000
set_option maxHeartbeats 40000000
open Go.RowKit WMath
theorem wor_is (n m v : Nat) (hn : n < Q) (hm : m < Q) (hv : n ||| m = v) (w : World) :
  Calls Tryz.prog 144 #[.agg (cw 6 n), .agg (cw 6 m)] w fun e w' => e = .returned (.agg (cw 6 v)) ∧ Below w.heap.size w w' := by
 subst hv; exact wor_any n m hn hm w
theorem wlen_is (n l : Nat) (hn : n < Q) (hl : z7 n = l) (w : World) :
  Calls Tryz.prog 154 #[.agg (cw 6 n)] w fun e w' => e = .returned (.int .i64 (l : Nat)) ∧ Below w.heap.size w w' := by
 subst hl; exact wlen_any n hn w

def RowsL (w wr : World) (l : List Nat) : Prop := (∀ i x, l[i]? = some x → wr.heap[w.heap.size + i]? = some (.cells (cw 6 x) 66)) ∧ Below w.heap.size w wr
theorem rowsL_nil (w : World) : RowsL w w [] := ⟨fun i x h => by simp at h, Below.refl _ _⟩
theorem rowsL_new {w wr : World} {l : List Nat} (h : RowsL w wr l) (hs : wr.heap.size = w.heap.size + l.length) (x : Nat) : RowsL w (wr.alloc (.cells (cw 6 x) 66)) (l ++ [x]) := by
 refine ⟨fun i y hy => ?_, h.2.alloc (by omega) _⟩
 rw [List.getElem?_append] at hy
 split at hy
 ·
  rw [yZ _ _ _ (by omega)]; exact h.1 i y hy
 ·
  have e : i = l.length := by
   have := (List.getElem?_eq_some_iff.1 hy).1
   simp at this; omega
  subst e
  simp at hy
  subst hy
  rw [← hs]
  exact heap_alloc_last _ _
theorem rowsL_drew {w wr : World} {l : List Nat} (h : RowsL w wr l) (d : Nat) : RowsL w (wr.drewN d) l := ⟨h.1, below_drewN h.2 d⟩
theorem rowsL_set {w wr : World} {l l2 : List Nat} (h : RowsL w wr l) (i x b : Nat) (hi : i < l.length) (hb : b = w.heap.size + i) (hl : l2 = l.set i x) : RowsL w (wr.setRow b (cw 6 x)) l2 := by
 subst hb
 subst hl
 refine ⟨fun j y hy => ?_, Below.setRow h.2 (by omega)⟩
 by_cases e : i = j
 ·
  subst e
  rw [List.getElem?_set_self hi] at hy
  cases hy
  exact yL (h.1 i _ (List.getElem?_eq_getElem hi))
 ·
  rw [List.getElem?_set_ne e] at hy
  rw [zU (by omega)]
  exact h.1 j y hy

theorem rows0 {w wr : World} {x : Nat} {l : List Nat} (h : RowsL w wr (x :: l)) : wr.heap[w.heap.size]? = some (.cells (cw 6 x) 66) := h.1 0 _ rfl
theorem rows1 {w wr : World} {x y : Nat} {l : List Nat} (h : RowsL w wr (x :: y :: l)) : wr.heap[w.heap.size + 1]? = some (.cells (cw 6 y) 66) := h.1 1 _ rfl
theorem zK (n : Int) (h1 : -9223372036854775808 ≤ n) (h2 : n ≤ 9223372036854775807) : IntKind.i64.wrap n = n := by
 simp [IntKind.wrap, IntKind.bits, IntKind.signed]; omega

theorem rlen_is (x l : Nat) (hx : x < 18446744073709551616) (hl : z7 x = l) (w : World) :
  Calls Tryz.prog 170 #[.int .u64 x] w fun e w' => e = .returned (.int .i64 (l : Nat)) ∧ w' = w := by
 subst hl; rw [← qV x hx]; exact rlen_any x hx w

theorem rowsL_setCell {w wr : World} {l l2 : List Nat} (h : RowsL w wr l) (i x y b o : Nat) (v : Value) (hi : l[i]? = some x) (hb : b = w.heap.size + i) (hv : (cw 6 x).setIfInBounds o v = cw 6 y) (hl : l2 = l.set i y) : RowsL w (wr.setCell ⟨b, o, none⟩ v) l2 := by
 subst hb
 subst hl
 refine ⟨fun j z hz => ?_, h.2.setCell (by show w.heap.size ≤ w.heap.size + i; omega) _⟩
 by_cases e : i = j
 ·
  subst e
  rw [List.getElem?_set_self (List.getElem?_eq_some_iff.1 hi).1] at hz
  cases hz
  rw [z6 (h.1 i _ hi), hv]
 ·
  rw [List.getElem?_set_ne e] at hz
  rw [zG (by omega)]
  exact h.1 j z hz
theorem c8_made (L : Nat) : madeCells #[.int .u8 0] L = c8 L 0 := by
 apply Array.ext_getElem?
 intro i
 by_cases h : i < L
 ·
  rw [c8_at L 0 i h, d8_zero]
  simp [madeCells, h, Nat.mod_one]
 ·
  rw [Array.getElem?_eq_none (by rw [size_madeCells]; omega), Array.getElem?_eq_none (by rw [c8_size]; omega)]
theorem jB {w : World} {b k L n : Nat} {t : TypeId} (h : w.heap[b]? = some (.cells (c8 L n) t)) (hk : k < L) : w.cell? ⟨b, k, none⟩ = some (.int .u8 (d8 n k : Nat)) := by
 rw [cell_of_row w b k _ _ _ h, c8_at L n k hk]
theorem c8_make (L : Nat) (h : L ≤ 1000000) (w : World) : (Instr.makeSlice 202 (.int .i64 (L : Int)) (.int .i64 (L : Int))).run Tryz.prog w = .ok (.slice (some ⟨w.heap.size, 0, none⟩) L L) (w.alloc (.cells (c8 L 0) 5)) := by
 rw [← c8_made]
 exact run_make_row' (P := Tryz.prog) 202 5 (.int .u8 0) 1 Tryz.underlying202 (by kernel_rfl) rfl .i64 .i64 L (by omega) (by omega) w
theorem c8_makeI (L : Nat) (k : Int) (hk : k = (L : Int)) (h : L ≤ 1000000) (w : World) : (Instr.makeSlice 202 (.int .i64 k) (.int .i64 k)).run Tryz.prog w = .ok (.slice (some ⟨w.heap.size, 0, none⟩) L L) (w.alloc (.cells (c8 L 0) 5)) := by
 subst hk; exact c8_make L h w
theorem c8_str {w : World} {b c L X : Nat} {t : TypeId} (v : ByteArray) (h : w.heap[b]? = some (.cells (c8 L X) t)) (hL : v.size = L) (hv : ∀ (k : Nat) (h1 : k < v.size), (v[k]'h1).toNat = d8 X k) :
  (convert 202 9 (.slice (some ⟨b, 0, none⟩) L c)).run Tryz.prog w = .ok (.string v) w := by
 have e : c8 L X = cb v.data.toList := by
  apply Array.ext_getElem?
  intro i
  by_cases hi : i < L
  ·
   have hi2 : i < v.size := by rw [hL]; exact hi
   have hi3 : i < v.data.toList.length := by rw [Array.length_toList]; exact hi2
   rw [c8_at L X i hi, cb_at _ i (v[i]'hi2) (by rw [List.getElem?_eq_getElem hi3]; rfl), hv i hi2]
  ·
   rw [Array.getElem?_eq_none (by rw [c8_size]; omega), Array.getElem?_eq_none (by rw [cb_size, Array.length_toList]; show v.size ≤ i; omega)]
 rw [e] at h
 have := str_of (c := c) h
 rw [Array.length_toList, show v.data.size = L from hL] at this
 simpa using this

theorem idx_run (s : ByteArray) (k : Nat) (i : Int) (d : Nat) (hi : i = (k : Int)) (hk : k < s.size) (hd : (s[k]'hk).toNat = d) (w : World) :
  (Instr.index 9 (.string s) (.int .i64 i)).run Tryz.prog w = .ok (.int .u8 d) w := by
 subst hi hd
 rw [run_index_string (P := Tryz.prog) w 9 s _ _ Tryz.underlying9, dif_pos ⟨by omega, by omega⟩]
 simp

theorem nat_at (n i d : Nat) (s : ByteArray) (hs : yG n = s) (hd : d8 n i = d) (hn : nl n ≤ 100000) (w : World) :
  Calls Tryz.prog 231 #[.string s, .int .i64 (i : Nat)] w fun e w' => e = .returned (.int .i64 (d : Nat)) ∧ w' = w := by
 obtain ⟨L, hL⟩ : ∃ L, nl n = L := ⟨_, rfl⟩
 have hz : s.size = L := by rw [← hs, yE, hL]
 rw [hL] at hn
 by_cases h : L ≤ i
 ·
  have e : d = 0 := by rw [← hd]; exact d8_nl n i (by omega)
  subst e
  have h1 : decide (L ≤ i) = true := by rw [decide_eq_true_iff]; omega
  clear hs hd hL h
  go_enter Tryz.func231, Tryz.ntmps231
  go_wp2
  go_ret
  exact ⟨rfl, rfl⟩
 ·
  have h1 : decide (L ≤ i) = false := by rw [decide_eq_false_iff_not]; omega
  have hk : L - 1 - i < s.size := by omega
  have hg : (s[L - 1 - i]'hk).toNat = d := by
   subst hs
   rw [xT, hL, show L - 1 - (L - 1 - i) = i by omega, hd]
  have hx := idx_run s (L - 1 - i) ((L : Int) - 1 - (i : Int)) d (by omega) hk hg
  have n1 : IntKind.i64.wrap ((L : Int) - 1) = (L : Int) - 1 := zK _ (by omega) (by omega)
  have n2 : IntKind.i64.wrap ((L : Int) - 1 - (i : Int)) = (L : Int) - 1 - (i : Int) := zK _ (by omega) (by omega)
  have d256 : d < 256 := by rw [← hd]; exact qD n i
  clear hs hd hL h hg hk
  go_enter Tryz.func231, Tryz.ntmps231
  go_wp2
  go_ret
  exact ⟨rfl, rfl⟩
end Go.Proofs.YtkblmpmkchkpjaaGreatDoor
