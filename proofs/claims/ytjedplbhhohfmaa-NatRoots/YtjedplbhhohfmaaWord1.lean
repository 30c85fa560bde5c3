/-
  What the functions Add, Sub and Bit of package word and of the document's answer return, for every pair of words and each carry.
-/
import Derived.Test.YtjedplbhhohfmaaRows
import Derived.Test.YtjedplbhhohfmaaMx
import Derived.WalkKit
import Derived.ProofKit
import Derived.WalkLawsBesides
namespace Go.Proofs.Ytjedplbhhohfmaa
open Go.RowKit WMath

theorem hide {p : Prop} (h : p) : Hid p := h
theorem ret1 {v v' : Value} (h : v = v') : Ending.returned v = .returned v' := by rw [h]
theorem int_eq {k : IntKind} {a b : Int} (h : a = b) : Value.int k a = .int k b := by rw [h]
theorem bool_eq {a b : Bool} (h : a = b) : Value.bool a = .bool b := by rw [h]
theorem ret_bool {a b : Bool} (h : a = b) : Ending.returned (.bool a) = .returned (.bool b) := by rw [h]
theorem ret_int {k : IntKind} {a b : Int} (h : a = b) : Ending.returned (.int k a) = .returned (.int k b) := by rw [h]
theorem ret_ib {k : IntKind} {a a' : Int} {b b' : Bool} (h : a = a') (h2 : b = b') : Ending.returned (.tuple #[.int k a, .bool b]) = .returned (.tuple #[.int k a', .bool b']) := by rw [h, h2]
theorem ret_ii {k l : IntKind} {a a' b b' : Int} (h : a = a') (h2 : b = b') : Ending.returned (.tuple #[.int k a, .int l b]) = .returned (.tuple #[.int k a', .int l b']) := by rw [h, h2]
theorem ret_iii {k l m : IntKind} {a a' b b' c c' : Int} (h : a = a') (h2 : b = b') (h3 : c = c') : Ending.returned (.tuple #[.int k a, .int l b, .int m c]) = .returned (.tuple #[.int k a', .int l b', .int m c']) := by rw [h, h2, h3]

theorem dec_eq {p q : Prop} [Decidable p] [Decidable q] (h : p ↔ q) : decide p = decide q := by simp [h]
theorem dec_or {p q : Prop} [Decidable p] [Decidable q] {x : Int} (h : p ∨ x = 0 ↔ q) : (decide p || x == 0) = decide q := by
  rw [Bool.eq_iff_iff]; simp [← h]
theorem dec_tt {q : Prop} [Decidable q] (h : q) : true = decide q := by simp [h]

theorem pow_cast (k : Nat) : (2 : Int) ^ k = ((2 ^ k : Nat) : Int) := by simp
theorem div_cast (x k : Nat) : (x : Int) / 2 ^ k = ((x / 2 ^ k : Nat) : Int) := by simp

theorem wrap_nat (n : Nat) (h : n < 18446744073709551616) : IntKind.u64.wrap (n : Int) = (n : Int) := by rw [IntKind.wrap_u64]; omega
theorem or_pow_i (S k : Nat) (hk : k < 64) (hS : S < 2 ^ k) : bits .or .u64 (S : Int) (IntKind.u64.wrap (2 ^ k)) = ((S + 2 ^ k : Nat) : Int) := by
  have h1 := pow_lt_64 k hk
  rw [pow_cast, wrap_nat _ h1, bits_or_u64_nat S _ (by omega) h1, or_pow S k hS]

theorem or_bit_i (S t : Nat) (hS : S % 2 = 0) (ht : t < 2) (h : S < 18446744073709551616) : bits .or .u64 (S : Int) (t : Int) = ((S + t : Nat) : Int) := by
  rw [bits_or_u64_nat S t h (by omega), or_bit S t hS ht]

theorem bit_any (x k : Nat) (hx : x < 18446744073709551616) (hk : k < 64) (w : World) :
    Calls Try.prog 77 #[.int .u64 x, .int .i64 k] w fun e w' => e = .returned (.bool (x.testBit k)) ∧ w' = w := by
  have h1 : x / 2 ^ k < 18446744073709551616 := Nat.lt_of_le_of_lt (Nat.div_le_self _ _) hx
  have H1 : Hid (bits .and .u64 ((x : Int) / 2 ^ k) 1 = ((x / 2 ^ k &&& 1 : Nat) : Int)) := by
    have := bits_and_u64_nat (x / 2 ^ k) 1 h1 (by omega)
    rw [← div_cast] at this
    exact this
  go_enter Try.func77, Try.ntmps77
  go_wp2
  go_ret
  refine ⟨ret_bool ?_, rfl⟩
  rw [H1.out, ← bit_and, Bool.eq_iff_iff]
  simp only [beq_iff_eq]
  omega

theorem add_any (a b : Nat) (c : Bool) (ha : a < 18446744073709551616) (hb : b < 18446744073709551616) (w : World) :
    Calls Try.prog 71 #[.int .u64 a, .int .u64 b, .bool c] w fun e w' => e = .returned (.tuple #[.int .u64 ((a + b + c.toNat) % 18446744073709551616 : Nat), .bool (decide (18446744073709551616 ≤ a + b + c.toNat))]) ∧ w' = w := by
  cases c
  · go_enter Try.func71, Try.ntmps71
    go_wp2
    go_ret2
    refine ⟨ret_ib ?_ (dec_eq ?_), rfl⟩ <;> rw [IntKind.wrap_u64, Bool.toNat_false] <;> omega
  · go_enter Try.func71, Try.ntmps71
    go_wp2
    all_goals go_ret2
    · refine ⟨ret_ib ?_ (dec_or ?_), rfl⟩ <;> rw [IntKind.wrap_u64, IntKind.wrap_u64, Bool.toNat_true] <;> omega
    · rename_i h
      rw [IntKind.wrap_u64] at h
      refine ⟨ret_ib ?_ (dec_tt ?_), rfl⟩
      · rw [IntKind.wrap_u64, IntKind.wrap_u64]; omega
      · omega

theorem sub_any (a b : Nat) (c : Bool) (ha : a < 18446744073709551616) (hb : b < 18446744073709551616) (w : World) :
    Calls Try.prog 73 #[.int .u64 a, .int .u64 b, .bool c] w fun e w' => e = .returned (.tuple #[.int .u64 ((a + 18446744073709551616 - b - c.toNat) % 18446744073709551616 : Nat), .bool (decide (a < b + c.toNat))]) ∧ w' = w := by
  cases c
  · go_enter Try.func73, Try.ntmps73
    go_wp2
    go_ret2
    refine ⟨ret_ib ?_ (dec_eq ?_), rfl⟩ <;> rw [IntKind.wrap_u64, Bool.toNat_false] <;> omega
  · go_enter Try.func73, Try.ntmps73
    go_wp2
    all_goals go_ret2
    · refine ⟨ret_ib ?_ (dec_or ?_), rfl⟩
      · rw [IntKind.wrap_u64, IntKind.wrap_u64, Bool.toNat_true]; omega
      · rw [IntKind.wrap_u64, Bool.toNat_true]; omega
    · rename_i h
      rw [IntKind.wrap_u64] at h
      refine ⟨ret_ib ?_ (dec_tt ?_), rfl⟩
      · rw [IntKind.wrap_u64, IntKind.wrap_u64]; omega
      · omega

end Go.Proofs.Ytjedplbhhohfmaa
