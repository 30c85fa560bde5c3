/-
  How many bits a number has; its digits to the base 16; what a text of digits says.
-/
import Derived.Test.YtgiehfecljampaaWmath
import Derived.Lib.BitFns
namespace Go.Proofs.Ytgiehfecljampaa.WMath

def blen (n : Nat) : Nat := if n = 0 then 0 else Nat.log2 n + 1
theorem blen_zero : blen 0 = 0 := rfl
theorem blen_lt (n : Nat) : n < 2 ^ blen n := by
  unfold blen
  split
  · rename_i h; subst h; decide
  · rename_i h; exact (Nat.log2_lt h).1 (by omega)
theorem blen_le (n : Nat) (h : n ≠ 0) : 2 ^ (blen n - 1) ≤ n := by
  unfold blen
  rw [if_neg h]
  exact (Nat.le_log2 h).1 (by omega)
theorem blen_pos (n : Nat) (h : n ≠ 0) : 0 < blen n := by unfold blen; rw [if_neg h]; omega
theorem blen_of (n l : Nat) (h1 : 2 ^ l ≤ n) (h2 : n < 2 ^ (l + 1)) : blen n = l + 1 := by
  have h0 : n ≠ 0 := by have := Nat.two_pow_pos l; omega
  unfold blen
  rw [if_neg h0]
  have a := (Nat.le_log2 h0).2 h1
  have b := (Nat.log2_lt h0).2 h2
  omega
theorem bitLen_blen (x : Nat) (hx : x < 18446744073709551616) : Lib.bitLen x = blen x := by
  by_cases h : x = 0
  · subst h; decide
  · have h1 := blen_le x h
    have h2 := blen_lt x
    have h3 := blen_pos x h
    obtain ⟨k, hk⟩ : ∃ k, blen x = k + 1 := ⟨blen x - 1, by omega⟩
    rw [hk] at h1 h2 ⊢
    rw [Nat.add_sub_cancel] at h1
    rw [Lib.bitLen_shift k x h1 hx, show x / 2 ^ k = 1 by
      apply Nat.div_eq_of_lt_le
      · omega
      · rw [Nat.pow_succ] at h2; omega]
    have : Lib.bitLen 1 = 1 := by decide
    omega
theorem blen_push (A k x : Nat) (hA : A < 2 ^ k) (hx : x ≠ 0) : blen (A + 2 ^ k * x) = k + blen x := by
  have h1 := blen_le x hx
  have h2 := blen_lt x
  have h3 := blen_pos x hx
  obtain ⟨l, hl⟩ : ∃ l, blen x = l + 1 := ⟨blen x - 1, by omega⟩
  rw [hl] at h1 h2 ⊢
  rw [Nat.add_sub_cancel] at h1
  refine blen_of _ (k + l) ?_ ?_
  · rw [Nat.pow_add]
    have := Nat.mul_le_mul_left (2 ^ k) h1
    omega
  · rw [show k + l + 1 = k + (l + 1) by omega, Nat.pow_add]
    have := Nat.mul_le_mul_left (2 ^ k) h2
    rw [Nat.succ_eq_add_one, Nat.mul_add] at this
    omega
theorem blen_step (n k : Nat) : blen (n % 2 ^ (64 * (k + 1))) = if wd n k = 0 then blen (n % 2 ^ (64 * k)) else 64 * k + blen (wd n k) := by
  rw [mod_wd]
  split
  · rename_i h; rw [h, Nat.mul_zero, Nat.add_zero]
  · rename_i h; exact blen_push _ _ _ (Nat.mod_lt _ (Nat.two_pow_pos _)) h
theorem blen_le_of (n l : Nat) (h : n < 2 ^ l) : blen n ≤ l := by
  by_cases h0 : n = 0
  · subst h0; rw [blen_zero]; omega
  · have := blen_le n h0
    have := Nat.lt_of_le_of_lt this h
    have := (Nat.pow_lt_pow_iff_right (a := 2) (by decide)).1 this
    omega
theorem blen_16 (n : Nat) (h : 16 ≤ n) : blen n = blen (n / 16) + 4 := by
  have e := blen_push (n % 16) 4 (n / 16) (Nat.mod_lt _ (by decide)) (by omega)
  rw [show n % 16 + 2 ^ 4 * (n / 16) = n by omega] at e
  omega

theorem field_num (n q r c low : Nat) (hl : low = 64 * q + r) (h : r + c ≤ 64) : wd n q / 2 ^ r % 2 ^ c = n / 2 ^ low % 2 ^ c := by
  apply Nat.eq_of_testBit_eq
  intro j
  rw [Nat.testBit_mod_two_pow, Nat.testBit_mod_two_pow, Nat.testBit_div_two_pow, Nat.testBit_div_two_pow, wd_bit, hl]
  by_cases hj : j < c
  · rw [decide_eq_true (show j + r < 64 by omega), Bool.true_and]
    congr 2; omega
  · rw [decide_eq_false hj, Bool.false_and, Bool.false_and]

/-- The digits of a number below 16, as letters. -/
def dgl : List UInt8 := [48, 49, 50, 51, 52, 53, 54, 55, 56, 57, 97, 98, 99, 100, 101, 102]
def dg (d : Nat) : UInt8 := dgl.getD d 0
def hxs (L n : Nat) : List UInt8 := (List.range L).map fun i => dg (n / 16 ^ (L - 1 - i) % 16)
def nd (n : Nat) : Nat := max 1 ((blen n + 3) / 4)
def tx (n : Nat) : List UInt8 := hxs (nd n) n

theorem hxs_len (L n : Nat) : (hxs L n).length = L := by simp [hxs]
theorem hxs_at (L n i : Nat) (h : i < L) : (hxs L n)[i]? = some (dg (n / 16 ^ (L - 1 - i) % 16)) := by simp [hxs, h]
theorem hxs_succ (L n : Nat) : hxs (L + 1) n = hxs L (n / 16) ++ [dg (n % 16)] := by
  unfold hxs
  rw [List.range_succ, List.map_append]
  congr 1
  · apply List.map_congr_left
    intro i hi
    rw [List.mem_range] at hi
    rw [Nat.div_div_eq_div_mul, show L + 1 - 1 - i = (L - 1 - i) + 1 by omega, Nat.pow_succ, Nat.mul_comm 16]
  · simp
theorem nd_small (n : Nat) (h : n < 16) : nd n = 1 := by
  unfold nd
  have := blen_le_of n 4 h
  omega
theorem nd_big (n : Nat) (h : 16 ≤ n) : nd n = nd (n / 16) + 1 := by
  unfold nd
  have h1 := blen_16 n h
  have h2 := blen_pos (n / 16) (by omega)
  omega
theorem tx_small (n : Nat) (h : n < 16) : tx n = [dg n] := by
  unfold tx
  rw [nd_small n h, hxs_succ]
  simp [hxs, Nat.mod_eq_of_lt h]
theorem tx_big (n : Nat) (h : 16 ≤ n) : tx n = tx (n / 16) ++ [dg (n % 16)] := by
  unfold tx
  rw [nd_big n h, hxs_succ]
theorem nd_le (n : Nat) (h : n < Q) : nd n ≤ 96 ∧ 1 ≤ nd n := by
  obtain ⟨L, hL, hQ⟩ := Q_of
  rw [hQ, hL] at h
  have := blen_le_of n _ h
  unfold nd
  omega
end Go.Proofs.Ytgiehfecljampaa.WMath
