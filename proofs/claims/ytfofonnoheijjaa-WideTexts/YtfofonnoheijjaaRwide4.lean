/-
  What the functions digit, Digit and Text of the document's answer for layer 2 return.
-/
import Derived.Test.YtfofonnoheijjaaTmath2
import Derived.Test.YtfofonnoheijjaaWord2
import Derived.Test.YtfofonnoheijjaaWide0
namespace Go.Proofs.Ytfofonnoheijjaa
open Go.RowKit WMath

theorem rdig_any (d : Nat) (h : d < 16) (w : World) :
    Calls Try.prog 49 #[.int .u64 d] w fun e w' => e = .returned (.string ⟨#[dg d]⟩) ∧ w' = w := by
  have hd : d = 0 ∨ d = 1 ∨ d = 2 ∨ d = 3 ∨ d = 4 ∨ d = 5 ∨ d = 6 ∨ d = 7 ∨ d = 8 ∨ d = 9 ∨ d = 10 ∨ d = 11 ∨ d = 12 ∨ d = 13 ∨ d = 14 ∨ d = 15 := by omega
  clear h
  rcases hd with rfl | rfl | rfl | rfl | rfl | rfl | rfl | rfl | rfl | rfl | rfl | rfl | rfl | rfl | rfl | rfl
  all_goals
    go_enter Try.func49, Try.ntmps49
    go_wp2
    go_ret
    exact ⟨rfl, rfl⟩

theorem rdigit_some (c : UInt8) (d : Nat) (h : dv c = some d) (w : World) :
    Calls Try.prog 46 #[.int .u8 (c.toNat : Int)] w fun e w' => e = .returned (.tuple #[.int .u64 (d : Nat), .bool true]) ∧ w' = w := by
  obtain ⟨x, hx⟩ : ∃ x, c.toNat = x := ⟨_, rfl⟩
  have hlt : x < 256 := by rw [← hx]; exact c.toNat_lt
  unfold dv at h
  rw [hx] at h ⊢
  by_cases h1 : 48 ≤ x ∧ x ≤ 57
  · rw [if_pos h1] at h
    injection h with h
    obtain ⟨a, b⟩ := h1
    have a' : decide ((48 : Int) ≤ (x : Int)) = true := by simp; omega
    have b' : decide ((x : Int) ≤ 57) = true := by simp; omega
    clear hx
    go_enter Try.func46, Try.ntmps46
    go_wp2
    go_ret2
    exact ⟨ret_ib (by omega) rfl, rfl⟩
  · rw [if_neg h1] at h
    by_cases h2 : 97 ≤ x ∧ x ≤ 102
    · rw [if_pos h2] at h
      injection h with h
      obtain ⟨a, b⟩ := h2
      have a' : decide ((48 : Int) ≤ (x : Int)) = true := by simp; omega
      have b' : decide ((x : Int) ≤ 57) = false := by simp; omega
      have a2 : decide ((97 : Int) ≤ (x : Int)) = true := by simp; omega
      have b2 : decide ((x : Int) ≤ 102) = true := by simp; omega
      clear hx h1
      go_enter Try.func46, Try.ntmps46
      go_wp2
      go_ret2
      exact ⟨ret_ib (by omega) rfl, rfl⟩
    · rw [if_neg h2] at h
      cases h

theorem rdigit_none (c : UInt8) (h : dv c = none) (w : World) :
    Calls Try.prog 46 #[.int .u8 (c.toNat : Int)] w fun e w' => e = .returned (.tuple #[.int .u64 0, .bool false]) ∧ w' = w := by
  obtain ⟨x, hx⟩ : ∃ x, c.toNat = x := ⟨_, rfl⟩
  have hlt : x < 256 := by rw [← hx]; exact c.toNat_lt
  unfold dv at h
  rw [hx] at h ⊢
  have h1 : ¬ (48 ≤ x ∧ x ≤ 57) := fun e => by rw [if_pos e] at h; cases h
  rw [if_neg h1] at h
  have h2 : ¬ (97 ≤ x ∧ x ≤ 102) := fun e => by rw [if_pos e] at h; cases h
  have hc : x < 48 ∨ (58 ≤ x ∧ x < 97) ∨ 103 ≤ x := by omega
  clear hx h h1 h2
  rcases hc with a | ⟨a, b⟩ | a
  · have e1 : decide ((48 : Int) ≤ (x : Int)) = false := by simp; omega
    have e3 : decide ((97 : Int) ≤ (x : Int)) = false := by simp; omega
    go_enter Try.func46, Try.ntmps46
    go_wp2
    go_ret2
    exact ⟨rfl, rfl⟩
  · have e1 : decide ((48 : Int) ≤ (x : Int)) = true := by simp; omega
    have e2 : decide ((x : Int) ≤ 57) = false := by simp; omega
    have e3 : decide ((97 : Int) ≤ (x : Int)) = false := by simp; omega
    go_enter Try.func46, Try.ntmps46
    go_wp2
    go_ret2
    exact ⟨rfl, rfl⟩
  · have e1 : decide ((48 : Int) ≤ (x : Int)) = true := by simp; omega
    have e2 : decide ((x : Int) ≤ 57) = false := by simp; omega
    have e3 : decide ((97 : Int) ≤ (x : Int)) = true := by simp; omega
    have e4 : decide ((x : Int) ≤ 102) = false := by simp; omega
    go_enter Try.func46, Try.ntmps46
    go_wp2
    go_ret2
    exact ⟨rfl, rfl⟩

/-- The text of what stands above the place k; nothing, where that is nought and k is not. -/
def pre (n k : Nat) : List UInt8 := if k ≠ 0 ∧ n / 16 ^ k = 0 then [] else tx (n / 16 ^ k)

set_option maxRecDepth 100000 in
set_option maxHeartbeats 1000000 in
theorem rtext_any (n : Nat) (hn : n < Q) (w : World) :
    Calls Try.prog 30 #[.agg (cw 6 n)] w fun e w' => e = .returned (.string ⟨(tx n).toArray⟩) ∧ Below w.heap.size w w' := by
  have hat := cw_at 6
  go_enter Try.func30, Try.ntmps30
  go_wp2
  go_loop [3, 4] (fun sv iv => ∃ (k : Nat) (S : List UInt8), k ≤ 96 ∧ iv = .int .i64 ((k : Int) - 1) ∧ sv = .string ⟨S.toArray⟩ ∧ S.length ≤ 96 - k ∧ Box (S = pre n k)) (fun _ iv => (intOf iv + 1).toNat)
  case atStart => exact ⟨96, [], by omega, rfl, rfl, by simp, box (by
    unfold pre
    rw [if_pos ⟨by omega, Nat.div_eq_of_lt (by
      obtain ⟨L, hL, hQ⟩ := Q_of
      rw [hQ] at hn
      obtain ⟨K, hK⟩ : ∃ K : Nat, K = 96 := ⟨96, rfl⟩
      rw [← hK, show (16 : Nat) = 2 ^ 4 from rfl, ← Nat.pow_mul, show 4 * K = 64 * L by omega]
      exact hn)⟩])⟩
  case round =>
    obtain ⟨k, S, hk, rfl, rfl, hS, HP⟩ := hrel
    by_cases h0 : k = 0
    · subst h0
      go_wp2
      go_ret
      exact ⟨by
        have e := HP.out
        unfold pre at e
        rw [if_neg (by omega), Nat.pow_zero, Nat.div_one] at e
        rw [← e]; rfl, (Below.refl _ _).alloc (Nat.le_refl _) _⟩
    · obtain ⟨j, rfl⟩ : ∃ j, k = j + 1 := ⟨k - 1, by omega⟩
      have ej : (((j + 1 : Nat) : Int) - 1) = (j : Int) := by omega
      rw [ej]
      obtain ⟨q, hq⟩ : ∃ q, q = j / 16 := ⟨_, rfl⟩
      obtain ⟨r, hr⟩ : ∃ r, r = 4 * (j % 16) := ⟨_, rfl⟩
      have q1 : (j : Int) / 16 = (q : Int) := by omega
      have q2 : q < 6 := by omega
      have r1 : 4 * ((j : Int) % 16) = (r : Int) := by omega
      have r2 : r < 64 := by omega
      obtain ⟨d, hd⟩ : ∃ d, n / 16 ^ j % 16 = d := ⟨_, rfl⟩
      have d16 : d < 16 := by rw [← hd]; exact Nat.mod_lt _ (by decide)
      have hb : bits .and .u64 ((wd n q : Int) / 2 ^ r) 15 = (d : Int) := by
        have h := bits_and_u64_nat (wd n q / 2 ^ r) 15 (Nat.lt_of_le_of_lt (Nat.div_le_self _ _) (wd_lt _ _)) (by omega)
        rw [← div_cast] at h
        rw [show ((15 : Nat) : Int) = 15 from rfl] at h
        rw [h, show (15 : Nat) = 2 ^ 4 - 1 from rfl, Nat.and_two_pow_sub_one_eq_mod, field_num n q r 4 (4 * j) (by omega) (by omega), ← hd]
        rw [show (16 : Nat) = 2 ^ 4 from rfl, ← Nat.pow_mul]
      have hm : n / 16 ^ j = 16 * (n / 16 ^ (j + 1)) + d := by
        rw [Nat.pow_succ, ← Nat.div_div_eq_div_mul, ← hd]
        omega
      have HM := box hm
      clear hq hr hd hm
      have hcat : (⟨S.toArray⟩ : ByteArray) ++ ⟨#[dg d]⟩ = ⟨(S ++ [dg d]).toArray⟩ := by
        apply ByteArray.ext
        simp
      have hsz : (⟨S.toArray⟩ : ByteArray).size = S.length := by show S.toArray.size = _; simp
      have hsz1 : (⟨#[dg d]⟩ : ByteArray).size = 1 := rfl
      have hadd : ∀ w, (Op.stringOp .add ⟨S.toArray⟩ ⟨#[dg d]⟩).run Try.prog w = .ok (.string ⟨(S ++ [dg d]).toArray⟩) w := fun w => by
        rw [run_string_add_sum w _ _ (by rw [hsz, hsz1]; omega), hcat]
      clear hcat hsz hsz1
      by_cases h1 : n / 16 ^ (j + 1) = 0
      · have eS : S = [] := by rw [HP.out]; unfold pre; rw [if_pos ⟨by omega, h1⟩]
        subst eS
        have HN : Box (n / 16 ^ j = d) := box (by rw [HM.out, h1, Nat.mul_zero, Nat.zero_add])
        by_cases hd0 : d = 0
        · subst hd0
          by_cases hj0 : j = 0
          · have hjb : ((j : Int) == 0) = true := by rw [hj0]; rfl
            have HJ := box hj0
            clear hj0
            go_wp2_with fail
            refine (rdig_any 0 (by decide) _).mono ?_
            rintro e w' ⟨rfl, rfl⟩
            go_wp2
            go_round
            case rel => exact ⟨j, [dg 0], by omega, rfl, rfl, by simp; omega, box (by unfold pre; rw [if_neg (fun h => h.1 HJ.out), HN.out, tx_small 0 (by decide)])⟩
            case measure => simp [intOf] <;> omega
          · have hjb : ((j : Int) == 0) = false := by simp; omega
            go_wp2
            go_round
            case rel => exact ⟨j, [], by omega, rfl, rfl, by simp, box (by unfold pre; rw [if_pos ⟨hj0, HN.out⟩])⟩
            case measure => simp [intOf] <;> omega
        · have hdb : ((d : Int) != 0) = true := by simp; omega
          go_wp2_with fail
          refine (rdig_any d d16 _).mono ?_
          rintro e w' ⟨rfl, rfl⟩
          go_wp2
          go_round
          case rel => exact ⟨j, [dg d], by omega, rfl, rfl, by simp; omega, box (by unfold pre; rw [HN.out, if_neg (by omega), tx_small d d16])⟩
          case measure => simp [intOf] <;> omega
      · have eS : S = tx (n / 16 ^ (j + 1)) := by rw [HP.out]; unfold pre; rw [if_neg (by omega)]
        have HS := box eS
        obtain ⟨x, S', hx⟩ : ∃ x S', S = x :: S' := by
          cases hS' : S with
          | nil => exact absurd (eS.symm.trans hS') (tx_ne _)
          | cons x S' => exact ⟨x, S', rfl⟩
        clear eS
        subst hx
        go_wp2_with fail
        refine (rdig_any d d16 _).mono ?_
        rintro e w' ⟨rfl, rfl⟩
        go_wp2
        go_round
        case rel => exact ⟨j, x :: S' ++ [dg d], by omega, rfl, rfl, by simp at hS ⊢; omega, box (by
          unfold pre
          have h2 := HM.out
          rw [if_neg (by omega), tx_big (n / 16 ^ j) (by omega), show n / 16 ^ j / 16 = n / 16 ^ (j + 1) by omega, show n / 16 ^ j % 16 = d by omega, HS.out])⟩
        case measure => simp [intOf] <;> omega
end Go.Proofs.Ytfofonnoheijjaa
