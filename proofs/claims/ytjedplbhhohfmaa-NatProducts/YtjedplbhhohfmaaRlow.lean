/-
  What Low of the document's answer for layer 1 returns.
-/
import Derived.Test.YtjedplbhhohfmaaWord1
import Derived.Lib.BitFns
namespace Go.Proofs.Ytjedplbhhohfmaa
open Go.RowKit WMath

/-- t is the place of the lowest bit of x that is 1. -/
def LowIs (x t : Nat) : Prop := t < 64 ∧ x % 2 ^ t = 0 ∧ x.testBit t = true
theorem low_one (x s t : Nat) (h : LowIs x s) (g : LowIs x t) : s = t := by
  have hlt : ∀ a b, LowIs x a → LowIs x b → ¬ a < b := by
    intro a b ha hb hab
    have h1 := Nat.testBit_mod_two_pow x b a
    rw [hb.2.1, ha.2.2] at h1
    simp [hab] at h1
  have h1 := hlt s t h g
  have h2 := hlt t s g h
  omega
theorem rlow_zero (w : World) :
    Calls Try.prog 78 #[.int .u64 0] w fun e w' => e = .returned (.int .i64 64) ∧ w' = w := by
  go_enter Try.func78, Try.ntmps78
  go_wp2
  go_loop [3] (fun i => ∃ k : Nat, k ≤ 64 ∧ i = .int .i64 k) (fun i => 64 - (intOf i).toNat)
  case atStart => exact ⟨0, by omega, rfl⟩
  case round =>
    obtain ⟨k, hk, rfl⟩ := hrel
    by_cases hlt : k < 64
    · have hb : Nat.testBit 0 k = false := Nat.zero_testBit k
      have hbit : ∀ w : World, Calls Try.prog 77 #[.int .u64 0, .int .i64 k] w fun e w' => e = .returned (.bool false) ∧ w' = w := by
        intro w
        have h := bit_any 0 k (by omega) hlt w
        rw [hb] at h
        exact h
      go_wp2_with (go_at_call 77; refine (hbit _).mono ?_; rintro e w' ⟨rfl, rfl⟩)
      go_round
      case rel => exact ⟨k + 1, by omega, by go_num⟩
      case measure => simp [intOf]; omega
    · go_wp2
      go_ret
      exact ⟨rfl, rfl⟩
theorem rlow_any (x t : Nat) (hx : x < 18446744073709551616) (ht : LowIs x t) (w : World) :
    Calls Try.prog 78 #[.int .u64 x] w fun e w' => e = .returned (.int .i64 t) ∧ w' = w := by
  have ht0 := ht.1
  have hT := hide ht
  clear ht
  go_enter Try.func78, Try.ntmps78
  go_wp2
  go_loop [3] (fun i => ∃ k : Nat, k ≤ t ∧ i = .int .i64 k) (fun i => 64 - (intOf i).toNat)
  case atStart => exact ⟨0, by omega, rfl⟩
  case round =>
    obtain ⟨k, hk, rfl⟩ := hrel
    have hlt : k < 64 := by omega
    by_cases he : k < t
    · have hb : x.testBit k = false := by
        have h1 := Nat.testBit_mod_two_pow x t k
        rw [hT.out.2.1] at h1
        simpa [he] using h1.symm
      go_wp2_with (go_at_call 77; refine (bit_any _ _ ?_ ?_ _).mono ?_; assumption; assumption; rintro e w' ⟨rfl, rfl⟩)
      go_round
      case rel => exact ⟨k + 1, by omega, by go_num⟩
      case measure => simp [intOf]; omega
    · obtain rfl : k = t := by omega
      have hb : x.testBit k = true := hT.out.2.2
      go_wp2_with (go_at_call 77; refine (bit_any _ _ ?_ ?_ _).mono ?_; assumption; assumption; rintro e w' ⟨rfl, rfl⟩)
      go_ret
      exact ⟨rfl, rfl⟩
end Go.Proofs.Ytjedplbhhohfmaa
