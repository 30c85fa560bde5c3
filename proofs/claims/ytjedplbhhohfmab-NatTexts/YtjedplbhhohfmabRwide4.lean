/-
  What the functions digit, Digit and Text of the document's answer for layer 2 return.
-/
import Derived.Test.YtjedplbhhohfmabMx
import Derived.Test.YtjedplbhhohfmabWord2
import Derived.Test.YtjedplbhhohfmabWide0
namespace Go.Proofs.Ytjedplbhhohfmab
open Go.RowKit WMath

theorem rdigit_some (c : UInt8) (d : Nat) (h : dv c = some d) (w : World) :
    Calls Try.prog 22 #[.int .u8 (c.toNat : Int)] w fun e w' => e = .returned (.tuple #[.int .u64 (d : Nat), .bool true]) ∧ w' = w := by
  obtain ⟨x, hx⟩ : ∃ x, c.toNat = x := ⟨_, rfl⟩
  have hlt : x < 256 := by rw [← hx]; exact c.toNat_lt
  unfold dv at h
  rw [hx] at h ⊢
  by_cases h1 : 48 ≤ x ∧ x ≤ 57
  · rw [if_pos h1] at h
    injection h with h
    obtain ⟨a, b⟩ := h1
    have a' : decide ((48 : Int) ≤ (x : Int)) = true := by simp; omega
    have b' : decide ((x : Int) ≤ 57) = true := by simp; omega
    clear hx
    go_enter Try.func22, Try.ntmps22
    go_wp2
    go_ret2
    exact ⟨ret_ib (by omega) rfl, rfl⟩
  · rw [if_neg h1] at h
    by_cases h2 : 97 ≤ x ∧ x ≤ 102
    · rw [if_pos h2] at h
      injection h with h
      obtain ⟨a, b⟩ := h2
      have a' : decide ((48 : Int) ≤ (x : Int)) = true := by simp; omega
      have b' : decide ((x : Int) ≤ 57) = false := by simp; omega
      have a2 : decide ((97 : Int) ≤ (x : Int)) = true := by simp; omega
      have b2 : decide ((x : Int) ≤ 102) = true := by simp; omega
      clear hx h1
      go_enter Try.func22, Try.ntmps22
      go_wp2
      go_ret2
      exact ⟨ret_ib (by omega) rfl, rfl⟩
    · rw [if_neg h2] at h
      cases h

theorem rdigit_none (c : UInt8) (h : dv c = none) (w : World) :
    Calls Try.prog 22 #[.int .u8 (c.toNat : Int)] w fun e w' => e = .returned (.tuple #[.int .u64 0, .bool false]) ∧ w' = w := by
  obtain ⟨x, hx⟩ : ∃ x, c.toNat = x := ⟨_, rfl⟩
  have hlt : x < 256 := by rw [← hx]; exact c.toNat_lt
  unfold dv at h
  rw [hx] at h ⊢
  have h1 : ¬ (48 ≤ x ∧ x ≤ 57) := fun e => by rw [if_pos e] at h; cases h
  rw [if_neg h1] at h
  have h2 : ¬ (97 ≤ x ∧ x ≤ 102) := fun e => by rw [if_pos e] at h; cases h
  have hc : x < 48 ∨ (58 ≤ x ∧ x < 97) ∨ 103 ≤ x := by omega
  clear hx h h1 h2
  rcases hc with a | ⟨a, b⟩ | a
  · have e1 : decide ((48 : Int) ≤ (x : Int)) = false := by simp; omega
    have e3 : decide ((97 : Int) ≤ (x : Int)) = false := by simp; omega
    go_enter Try.func22, Try.ntmps22
    go_wp2
    go_ret2
    exact ⟨rfl, rfl⟩
  · have e1 : decide ((48 : Int) ≤ (x : Int)) = true := by simp; omega
    have e2 : decide ((x : Int) ≤ 57) = false := by simp; omega
    have e3 : decide ((97 : Int) ≤ (x : Int)) = false := by simp; omega
    go_enter Try.func22, Try.ntmps22
    go_wp2
    go_ret2
    exact ⟨rfl, rfl⟩
  · have e1 : decide ((48 : Int) ≤ (x : Int)) = true := by simp; omega
    have e2 : decide ((x : Int) ≤ 57) = false := by simp; omega
    have e3 : decide ((97 : Int) ≤ (x : Int)) = true := by simp; omega
    have e4 : decide ((x : Int) ≤ 102) = false := by simp; omega
    go_enter Try.func22, Try.ntmps22
    go_wp2
    go_ret2
    exact ⟨rfl, rfl⟩

/-- The text of what stands above the place k; nothing, where that is nought and k is not. -/
def pre (n k : Nat) : List UInt8 := if k ≠ 0 ∧ n / 16 ^ k = 0 then [] else tx (n / 16 ^ k)

end Go.Proofs.Ytjedplbhhohfmab
