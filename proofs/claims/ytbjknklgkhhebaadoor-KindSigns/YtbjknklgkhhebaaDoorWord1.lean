/-
  What the functions Add, Sub and Bit of package word and of the document's answer return, for every pair of words and each carry.
-/
import Derived.Test.YtbjknklgkhhebaaDoorRows
import Derived.Test.YtbjknklgkhhebaaDoorMx
import Derived.WalkKit
import Derived.ProofKit
import Derived.WalkLawsBesides
namespace Go.Proofs.YtbjknklgkhhebaaDoor
open Go.RowKit WMath

theorem hide {p : Prop} (h : p) : Hid p := h
theorem ret1 {v v' : Value} (h : v = v') : Ending.returned v = .returned v' := by rw [h]
theorem int_eq {k : IntKind} {a b : Int} (h : a = b) : Value.int k a = .int k b := by rw [h]
theorem bool_eq {a b : Bool} (h : a = b) : Value.bool a = .bool b := by rw [h]
theorem ret_bool {a b : Bool} (h : a = b) : Ending.returned (.bool a) = .returned (.bool b) := by rw [h]
theorem ret_int {k : IntKind} {a b : Int} (h : a = b) : Ending.returned (.int k a) = .returned (.int k b) := by rw [h]
theorem ret_ib {k : IntKind} {a a' : Int} {b b' : Bool} (h : a = a') (h2 : b = b') : Ending.returned (.tuple #[.int k a, .bool b]) = .returned (.tuple #[.int k a', .bool b']) := by rw [h, h2]
theorem ret_ii {k l : IntKind} {a a' b b' : Int} (h : a = a') (h2 : b = b') : Ending.returned (.tuple #[.int k a, .int l b]) = .returned (.tuple #[.int k a', .int l b']) := by rw [h, h2]
theorem ret_iii {k l m : IntKind} {a a' b b' c c' : Int} (h : a = a') (h2 : b = b') (h3 : c = c') : Ending.returned (.tuple #[.int k a, .int l b, .int m c]) = .returned (.tuple #[.int k a', .int l b', .int m c']) := by rw [h, h2, h3]

theorem dec_eq {p q : Prop} [Decidable p] [Decidable q] (h : p ↔ q) : decide p = decide q := by simp [h]
theorem dec_or {p q : Prop} [Decidable p] [Decidable q] {x : Int} (h : p ∨ x = 0 ↔ q) : (decide p || x == 0) = decide q := by
  rw [Bool.eq_iff_iff]; simp [← h]
theorem dec_tt {q : Prop} [Decidable q] (h : q) : true = decide q := by simp [h]

theorem pow_cast (k : Nat) : (2 : Int) ^ k = ((2 ^ k : Nat) : Int) := by simp
theorem div_cast (x k : Nat) : (x : Int) / 2 ^ k = ((x / 2 ^ k : Nat) : Int) := by simp

theorem wrap_nat (n : Nat) (h : n < 18446744073709551616) : IntKind.u64.wrap (n : Int) = (n : Int) := by rw [IntKind.wrap_u64]; omega
theorem or_pow_i (S k : Nat) (hk : k < 64) (hS : S < 2 ^ k) : bits .or .u64 (S : Int) (IntKind.u64.wrap (2 ^ k)) = ((S + 2 ^ k : Nat) : Int) := by
  have h1 := pow_lt_64 k hk
  rw [pow_cast, wrap_nat _ h1, bits_or_u64_nat S _ (by omega) h1, or_pow S k hS]

theorem or_bit_i (S t : Nat) (hS : S % 2 = 0) (ht : t < 2) (h : S < 18446744073709551616) : bits .or .u64 (S : Int) (t : Int) = ((S + t : Nat) : Int) := by
  rw [bits_or_u64_nat S t h (by omega), or_bit S t hS ht]

theorem bit_any (x k : Nat) (hx : x < 18446744073709551616) (hk : k < 64) (w : World) :
    Calls Tryd.prog 69 #[.int .u64 x, .int .i64 k] w fun e w' => e = .returned (.bool (x.testBit k)) ∧ w' = w := by
  have h1 : x / 2 ^ k < 18446744073709551616 := Nat.lt_of_le_of_lt (Nat.div_le_self _ _) hx
  have H1 : Hid (bits .and .u64 ((x : Int) / 2 ^ k) 1 = ((x / 2 ^ k &&& 1 : Nat) : Int)) := by
    have := bits_and_u64_nat (x / 2 ^ k) 1 h1 (by omega)
    rw [← div_cast] at this
    exact this
  go_enter Tryd.func69, Tryd.ntmps69
  go_wp2
  go_ret
  refine ⟨ret_bool ?_, rfl⟩
  rw [H1.out, ← bit_and, Bool.eq_iff_iff]
  simp only [beq_iff_eq]
  omega

theorem radd_any (a b : Nat) (c : Bool) (ha : a < 18446744073709551616) (hb : b < 18446744073709551616) (w : World) :
    Calls Tryd.prog 71 #[.int .u64 a, .int .u64 b, .bool c] w fun e w' => e = .returned (.tuple #[.int .u64 ((a + b + c.toNat) % 18446744073709551616 : Nat), .bool (decide (18446744073709551616 ≤ a + b + c.toNat))]) ∧ w' = w := by
  go_enter Tryd.func71, Tryd.ntmps71
  go_wp2
  go_loop [8, 9, 2] (fun s i cc => ∃ (k S : Nat) (C : Bool), k ≤ 64 ∧ i = .int .i64 k ∧ s = .int .u64 S ∧ cc = .bool C ∧ S < 2 ^ k ∧ S + 2 ^ k * C.toNat = a % 2 ^ k + b % 2 ^ k + c.toNat) (fun _ i _ => 64 - (intOf i).toNat)
  case atStart => exact ⟨0, 0, c, by omega, rfl, rfl, rfl, by decide, by simp [Nat.mod_one]⟩
  case round =>
    obtain ⟨k, S, C, hk, rfl, rfl, rfl, hS, hE⟩ := hrel
    have HE : Hid (S + 2 ^ k * C.toNat = a % 2 ^ k + b % 2 ^ k + c.toNat) := hE
    clear hE
    by_cases hlt : k < 64
    · have st := add_step a b S k c.toNat C hS HE.out
      cases hx : a.testBit k <;> cases hy : b.testBit k <;> cases C
      all_goals
        go_wp2_with (go_at_call 69; refine (bit_any _ _ ?_ ?_ _).mono ?_; assumption; assumption; rintro e w' ⟨rfl, rfl⟩)
        go_round
        case rel =>
          rw [hx, hy] at st
          first
            | exact ⟨k + 1, S, _, by omega, by go_num, rfl, rfl, st.1, st.2⟩
            | exact ⟨k + 1, S + 2 ^ k, _, by omega, by go_num, int_eq (or_pow_i S k hlt hS), rfl, st.1, st.2⟩
        case measure => simp [intOf]; omega
    · go_wp2
      go_ret2
      obtain rfl : k = 64 := by omega
      have hE := HE.out
      rw [← two64, Nat.mod_eq_of_lt ha, Nat.mod_eq_of_lt hb] at hE
      rw [← two64] at hS
      have he := add_end a b S C c hS hE
      exact ⟨ret_ib (by have := he.1; omega) he.2, rfl⟩
theorem rsub_any (a b : Nat) (c : Bool) (ha : a < 18446744073709551616) (hb : b < 18446744073709551616) (w : World) :
    Calls Tryd.prog 90 #[.int .u64 a, .int .u64 b, .bool c] w fun e w' => e = .returned (.tuple #[.int .u64 ((a + 18446744073709551616 - b - c.toNat) % 18446744073709551616 : Nat), .bool (decide (a < b + c.toNat))]) ∧ w' = w := by
  go_enter Tryd.func90, Tryd.ntmps90
  go_wp2
  go_loop [8, 9, 2] (fun s i cc => ∃ (k S : Nat) (C : Bool), k ≤ 64 ∧ i = .int .i64 k ∧ s = .int .u64 S ∧ cc = .bool C ∧ S < 2 ^ k ∧ S + b % 2 ^ k + c.toNat = a % 2 ^ k + 2 ^ k * C.toNat) (fun _ i _ => 64 - (intOf i).toNat)
  case atStart => exact ⟨0, 0, c, by omega, rfl, rfl, rfl, by decide, by simp [Nat.mod_one]⟩
  case round =>
    obtain ⟨k, S, C, hk, rfl, rfl, rfl, hS, hE⟩ := hrel
    have HE : Hid (S + b % 2 ^ k + c.toNat = a % 2 ^ k + 2 ^ k * C.toNat) := hE
    clear hE
    by_cases hlt : k < 64
    · have st := sub_step a b S k c.toNat C hS HE.out
      cases hx : a.testBit k <;> cases hy : b.testBit k <;> cases C
      all_goals
        go_wp2_with (go_at_call 69; refine (bit_any _ _ ?_ ?_ _).mono ?_; assumption; assumption; rintro e w' ⟨rfl, rfl⟩)
        go_round
        case rel =>
          rw [hx, hy] at st
          first
            | exact ⟨k + 1, S, _, by omega, by go_num, rfl, rfl, st.1, st.2⟩
            | exact ⟨k + 1, S + 2 ^ k, _, by omega, by go_num, int_eq (or_pow_i S k hlt hS), rfl, st.1, st.2⟩
        case measure => simp [intOf]; omega
    · go_wp2
      go_ret2
      obtain rfl : k = 64 := by omega
      have hE := HE.out
      rw [← two64, Nat.mod_eq_of_lt ha, Nat.mod_eq_of_lt hb] at hE
      rw [← two64] at hS
      have he := sub_end a b S C c ha hb hS hE
      exact ⟨ret_ib (by have := he.1; omega) he.2, rfl⟩
end Go.Proofs.YtbjknklgkhhebaaDoor
