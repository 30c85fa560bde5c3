/-
  What the shifts, masks, fields and signs of package word and of the document's answer return, for every word and every count.
-/
import Derived.Test.YtbjknklgkhhebaaDoorWord1
namespace Go.Proofs.YtbjknklgkhhebaaDoor
open Go.RowKit WMath

/-- A count as it counts. -/
def cnt (n : Int) : Nat := min n.toNat 64
/-- A count of bits that has a highest one. -/
def ext (n : Int) : Nat := max (cnt n) 1
theorem cnt_le (n : Int) : cnt n ≤ 64 := by unfold cnt; omega
theorem ext_le (n : Int) : ext n ≤ 64 := by unfold ext cnt; omega
theorem ext_pos (n : Int) : 1 ≤ ext n := by unfold ext cnt; omega
theorem cnt_ext (n : Int) : cnt (ext n : Int) = ext n := by unfold ext cnt; omega
theorem cnt_ext1 (n : Int) : cnt ((ext n : Int) - 1) = ext n - 1 := by unfold ext cnt; omega

theorem cnt_small (k : Nat) (h : k < 64) : cnt (k : Int) = k := by unfold cnt; omega
theorem and63 (n : Int) : ∃ k : Nat, k < 64 ∧ bits .and .i64 n 63 = (k : Int) := by
  refine ⟨(n % 64).toNat, by omega, ?_⟩
  show IntKind.i64.wrap ((BitVec.ofInt 64 n &&& BitVec.ofInt 64 63).toNat : Int) = _
  have h1 : (BitVec.ofInt 64 63).toNat = 2 ^ 6 - 1 := by decide
  rw [BitVec.toNat_and, h1, Nat.and_two_pow_sub_one_eq_mod, BitVec.toNat_ofInt]
  simp only [IntKind.wrap, IntKind.bits, IntKind.signed]
  simp
  omega

theorem count_any (n : Int) (w : World) :
    Calls Tryd.prog 94 #[.int .i64 n] w fun e w' => e = .returned (.int .u64 (cnt n : Nat)) ∧ w' = w := by
  go_enter Tryd.func94, Tryd.ntmps94
  go_wp2
  all_goals go_ret
  all_goals rename_i h1
  all_goals exact ⟨ret_int (by unfold cnt; split at h1 <;> omega), rfl⟩

theorem left_any (x : Nat) (n : Int) (w : World) :
    Calls Tryd.prog 92 #[.int .u64 x, .int .i64 n] w fun e w' => e = .returned (.int .u64 (x * 2 ^ cnt n % 18446744073709551616 : Nat)) ∧ w' = w := by
  have hc := cnt_le n
  go_enter Tryd.func92, Tryd.ntmps92
  go_wp2_with (go_at_call 94; refine (count_any _ _).mono ?_; rintro e w' ⟨rfl, rfl⟩)
  go_ret
  exact ⟨ret_int (by rw [IntKind.wrap_u64]; simp), rfl⟩

theorem right_any (x : Nat) (n : Int) (w : World) :
    Calls Tryd.prog 93 #[.int .u64 x, .int .i64 n] w fun e w' => e = .returned (.int .u64 (x / 2 ^ cnt n : Nat)) ∧ w' = w := by
  have hc := cnt_le n
  go_enter Tryd.func93, Tryd.ntmps93
  go_wp2_with (go_at_call 94; refine (count_any _ _).mono ?_; rintro e w' ⟨rfl, rfl⟩)
  go_ret
  exact ⟨ret_int (by simp), rfl⟩

theorem left1_any (n : Int) (w : World) :
    Calls Tryd.prog 92 #[.int .u64 1, .int .i64 n] w fun e w' => e = .returned (.int .u64 (2 ^ cnt n % 18446744073709551616 : Nat)) ∧ w' = w := by
  have h := left_any 1 n w
  rw [Nat.one_mul] at h
  exact h
theorem mask_wrap (c : Nat) (h : c ≤ 64) : IntKind.u64.wrap (((2 ^ c % 18446744073709551616 : Nat) : Int) - 1) = ((2 ^ c - 1 : Nat) : Int) := by
  rw [IntKind.wrap_u64]
  have hp := Nat.two_pow_pos c
  rcases (by omega : c = 64 ∨ c < 64) with rfl | h2
  · rw [← two64]; omega
  · have := pow_lt_64 c h2
    omega

theorem and_mask (x c : Nat) (hx : x < 18446744073709551616) (h : c ≤ 64) : bits .and .u64 (x : Int) ((2 ^ c - 1 : Nat) : Int) = ((x % 2 ^ c : Nat) : Int) := by
  rw [bits_and_u64_nat _ _ hx (mask_lt c h), Nat.and_two_pow_sub_one_eq_mod]

theorem sign_num (x c d e : Nat) (hc : c = e) (hd : d = e - 1) (hx : x < 18446744073709551616) (h1 : 1 ≤ e) (h2 : e ≤ 64) :
    IntKind.u64.wrap (bits .xor .u64 (bits .and .u64 (x : Int) ((2 ^ c - 1 : Nat) : Int)) ((2 ^ d % 18446744073709551616 : Nat) : Int) - ((2 ^ d % 18446744073709551616 : Nat) : Int)) = ((sx x e : Nat) : Int) := by
  subst hc hd
  have hp := pow_lt_64 (c - 1) (by omega)
  have hq := pow_le_64 c h2
  have hl : x % 2 ^ c < 2 ^ c := Nat.mod_lt _ (Nat.two_pow_pos c)
  have hs := sx_lt x c h2
  rw [and_mask _ _ hx h2, Nat.mod_eq_of_lt hp, bits_xor_u64_nat _ _ (by omega) hp, IntKind.wrap_u64]
  rcases sx_xor x c h1 h2 with h | h <;> omega

theorem not_num (x c e : Nat) (hc : c = e) (hx : x < 18446744073709551616) (h2 : e ≤ 64) :
    bits .or .u64 (bits .and .u64 (x : Int) ((2 ^ c - 1 : Nat) : Int)) (bits .xor .u64 18446744073709551615 ((2 ^ c - 1 : Nat) : Int)) = ((x % 2 ^ e + (18446744073709551616 - 2 ^ e) : Nat) : Int) := by
  subst hc
  have hq := pow_le_64 c h2
  have hp := Nat.two_pow_pos c
  have hl : x % 2 ^ c < 2 ^ c := Nat.mod_lt _ hp
  have hm : (18446744073709551615 ^^^ (2 ^ c - 1) : Nat) = 18446744073709551616 - 2 ^ c := by
    have e1 : 18446744073709551616 - 2 ^ c = 2 ^ c * (2 ^ (64 - c) - 1) := by
      rw [Nat.mul_sub, ← Nat.pow_add, Nat.mul_one, Nat.add_sub_cancel' h2, ← two64]
    have e2 := Nat.two_pow_add_eq_or_of_lt (i := c) (b := 2 ^ c - 1) (by omega) (2 ^ (64 - c) - 1)
    have e3 : (18446744073709551615 : Nat) = 2 ^ 64 - 1 := by rw [← two64]
    apply Nat.eq_of_testBit_eq
    intro i
    rw [Nat.testBit_xor, e3, Nat.testBit_two_pow_sub_one, Nat.testBit_two_pow_sub_one, e1, Nat.testBit_two_pow_mul, Nat.testBit_two_pow_sub_one, Bool.eq_iff_iff]
    simp
    omega
  have hx' := bits_xor_u64_nat 18446744073709551615 (2 ^ c - 1) (by omega) (mask_lt c h2)
  rw [hm] at hx'
  have hx2 : bits .xor .u64 18446744073709551615 ((2 ^ c - 1 : Nat) : Int) = ((18446744073709551616 - 2 ^ c : Nat) : Int) := hx'
  rw [hx2, and_mask _ _ hx h2, bits_or_u64_nat _ _ (by omega) (by omega), sx_or _ _ h2]

theorem sx_tt (x e : Nat) (h : x.testBit (e - 1) = true) : sx x e = x % 2 ^ e + (18446744073709551616 - 2 ^ e) := by unfold sx; rw [if_pos h]
theorem sx_ff (x e : Nat) (h : x.testBit (e - 1) = false) : sx x e = x % 2 ^ e := by unfold sx; rw [h]; rfl
theorem and_num (x c e : Nat) (hc : c = e) (hx : x < 18446744073709551616) (h2 : e ≤ 64) : bits .and .u64 (x : Int) ((2 ^ c - 1 : Nat) : Int) = ((x % 2 ^ e : Nat) : Int) := by
  subst hc; exact and_mask _ _ hx h2

end Go.Proofs.YtbjknklgkhhebaaDoor
