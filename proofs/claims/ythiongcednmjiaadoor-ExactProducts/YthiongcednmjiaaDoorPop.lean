/-
  How many bits of a word are 1: the sum in parallel, as the library reckons it, is the count one by one. Plain arithmetic.
-/
import Derived.Test.YthiongcednmjiaaDoorMx
namespace Go.Proofs.YthiongcednmjiaaDoor.WMath

/-- How many of the lowest k bits are 1. -/
def popN (x : Nat) : Nat → Nat
  | 0 => 0
  | k + 1 => popN x k + (x.testBit k).toNat
def mask8 (c : Nat) : Nat → Nat
  | 0 => 0
  | n + 1 => c + 256 * mask8 c n
def popB : Nat → Nat → Nat
  | 0, _ => 0
  | n + 1, x => popN (x % 256) 8 + 256 * popB n (x / 256)
def sumB : Nat → Nat → Nat
  | 0, _ => 0
  | n + 1, x => popN (x % 256) 8 + sumB n (x / 256)
def fA (n x : Nat) : Nat := ((x / 2) &&& mask8 85 n) + (x &&& mask8 85 n)
def fB (n x : Nat) : Nat := ((x / 4) &&& mask8 51 n) + (x &&& mask8 51 n)
def fC (n x : Nat) : Nat := (x / 16 + x) &&& mask8 15 n
def sA (b : Nat) : Nat := ((b / 2) &&& 85) + (b &&& 85)
def sB (b : Nat) : Nat := ((b / 4) &&& 51) + (b &&& 51)

theorem and_split (a b : Nat) : a &&& b = (a % 256 &&& b % 256) + 256 * ((a / 256) &&& (b / 256)) := by
  have h1 := Nat.and_mod_two_pow (a := a) (b := b) (n := 8)
  have h2 := Nat.and_div_two_pow (a := a) (b := b) (n := 8)
  have e : (2 : Nat) ^ 8 = 256 := by decide
  rw [e] at h1 h2
  rw [← h1, ← h2]
  omega
theorem and_mask8 (a c n : Nat) (hc : c < 256) : a &&& mask8 c (n + 1) = (a % 256 &&& c) + 256 * ((a / 256) &&& mask8 c n) := by
  rw [and_split, mask8, show (c + 256 * mask8 c n) % 256 = c by omega, show (c + 256 * mask8 c n) / 256 = mask8 c n by omega]

theorem t1 : ∀ b : Fin 256, ∀ c : Fin 2, ((b.val / 2 + 128 * c.val) &&& 85) = (b.val / 2 &&& 85) := by decide +kernel
theorem t2 : ∀ b : Fin 256, ∀ c : Fin 4, ((b.val / 4 + 64 * c.val) &&& 51) = (b.val / 4 &&& 51) := by decide +kernel
theorem sA_lt : ∀ b : Fin 256, sA b.val < 256 := by decide +kernel
theorem sB_lt : ∀ b : Fin 256, sB b.val ≤ 102 ∧ sB b.val % 16 ≤ 6 := by decide +kernel
theorem s_pop : ∀ b : Fin 256, (sB (sA b.val) + sB (sA b.val) / 16) % 16 = popN b.val 8 := by decide +kernel
theorem pop_le8 : ∀ b : Fin 256, popN b.val 8 ≤ 8 := by decide +kernel

theorem fA_rec (n x : Nat) : fA (n + 1) x = sA (x % 256) + 256 * fA n (x / 256) := by
  have h := t1 ⟨x % 256, by omega⟩ ⟨x / 256 % 2, by omega⟩
  simp only at h
  unfold fA sA
  rw [and_mask8 _ 85 n (by decide), and_mask8 _ 85 n (by decide), show x / 2 % 256 = x % 256 / 2 + 128 * (x / 256 % 2) by omega, h, show x / 2 / 256 = x / 256 / 2 by omega]
  omega
theorem fB_rec (n x : Nat) : fB (n + 1) x = sB (x % 256) + 256 * fB n (x / 256) := by
  have h := t2 ⟨x % 256, by omega⟩ ⟨x / 256 % 4, by omega⟩
  simp only at h
  unfold fB sB
  rw [and_mask8 _ 51 n (by decide), and_mask8 _ 51 n (by decide), show x / 4 % 256 = x % 256 / 4 + 64 * (x / 256 % 4) by omega, h, show x / 4 / 256 = x / 256 / 4 by omega]
  omega
theorem fB_low (n x : Nat) : fB n x % 16 ≤ 6 := by
  cases n with
  | zero => simp [fB, mask8]
  | succ n =>
    have h := (sB_lt ⟨x % 256, by omega⟩).2
    simp only at h
    rw [fB_rec]
    omega
theorem fC_rec (n v : Nat) (h : v % 256 + v / 16 % 256 < 256) : fC (n + 1) v = (v % 256 + v / 16 % 256) % 16 + 256 * fC n (v / 256) := by
  unfold fC
  have e : (v % 256 + v / 16 % 256) % 256 &&& 15 = (v % 256 + v / 16 % 256) % 16 := by
    rw [Nat.mod_eq_of_lt h]; exact Nat.and_two_pow_sub_one_eq_mod _ 4
  rw [and_mask8 _ 15 n (by decide), show (v / 16 + v) % 256 = (v % 256 + v / 16 % 256) % 256 by omega, e, show (v / 16 + v) / 256 = v / 256 / 16 + v / 256 by omega]

theorem fABC (n : Nat) : ∀ x, fC n (fB n (fA n x)) = popB n x := by
  induction n with
  | zero => intro x; simp [fC, mask8, popB]
  | succ n ih =>
    intro x
    have h1 := sA_lt ⟨x % 256, by omega⟩
    have h2 := sB_lt ⟨sA (x % 256), h1⟩
    have h3 := s_pop ⟨x % 256, by omega⟩
    simp only at h1 h2 h3
    have hu : fA (n + 1) x % 256 = sA (x % 256) := by rw [fA_rec]; omega
    have hu2 : fA (n + 1) x / 256 = fA n (x / 256) := by rw [fA_rec]; omega
    have hv : fB (n + 1) (fA (n + 1) x) = sB (sA (x % 256)) + 256 * fB n (fA n (x / 256)) := by rw [fB_rec, hu, hu2]
    have hz := fB_low n (fA n (x / 256))
    rw [hv, popB, ← ih]
    generalize fB n (fA n (x / 256)) = z at *
    generalize sB (sA (x % 256)) = s at *
    have e1 : (s + 256 * z) % 256 = s := by omega
    have e20 : (s + 256 * z) / 16 = s / 16 + 16 * z := by omega
    have e2 : (s + 256 * z) / 16 % 256 = s / 16 + 16 * (z % 16) := by rw [e20]; omega
    have e3 : (s + 256 * z) / 256 = z := by omega
    rw [fC_rec _ _ (by rw [e1, e2]; omega), e1, e2, e3, ← h3]
    omega

theorem popN_mod (x : Nat) : popN x 8 = popN (x % 256) 8 := by
  have h : ∀ k, k ≤ 8 → popN x k = popN (x % 256) k := by
    intro k
    induction k with
    | zero => intro _; rfl
    | succ k ih =>
      intro hk
      rw [popN, popN, ih (by omega), show (256 : Nat) = 2 ^ 8 by decide, Nat.testBit_mod_two_pow]
      simp [show k < 8 by omega]
  exact h 8 (Nat.le_refl _)
theorem popN_add (x k : Nat) : popN x (8 + k) = popN (x % 256) 8 + popN (x / 256) k := by
  induction k with
  | zero => rw [Nat.add_zero, popN_mod]; rfl
  | succ k ih =>
    rw [← Nat.add_assoc, popN, ih, popN, Nat.add_assoc]
    congr 3
    rw [show (256 : Nat) = 2 ^ 8 by decide, Nat.testBit_div_two_pow, Nat.add_comm]
theorem popN_sum : ∀ n x, popN x (8 * n) = sumB n x
  | 0, _ => rfl
  | n + 1, x => by rw [Nat.mul_succ, Nat.add_comm, popN_add, popN_sum n, sumB]

/-- The end of the library's sum. -/
theorem pop_end (x : Nat) : ∃ z1 z2 z3 : Nat, z1 = popB 8 x + popB 8 x / 256 ∧ z2 = z1 + z1 / 65536 ∧ z3 = z2 + z2 / 4294967296 ∧ popB 8 x < 1000000000000000000 ∧ z3 < 4000000000000000000 ∧ z3 % 128 = popN x 64 := by
  refine ⟨_, _, _, rfl, rfl, rfl, ?_⟩
  rw [show 64 = 8 * 8 by decide, popN_sum]
  simp only [popB, sumB]
  have b0 := pop_le8 ⟨x % 256, by omega⟩
  have b1 := pop_le8 ⟨x / 256 % 256, by omega⟩
  have b2 := pop_le8 ⟨x / 256 / 256 % 256, by omega⟩
  have b3 := pop_le8 ⟨x / 256 / 256 / 256 % 256, by omega⟩
  have b4 := pop_le8 ⟨x / 256 / 256 / 256 / 256 % 256, by omega⟩
  have b5 := pop_le8 ⟨x / 256 / 256 / 256 / 256 / 256 % 256, by omega⟩
  have b6 := pop_le8 ⟨x / 256 / 256 / 256 / 256 / 256 / 256 % 256, by omega⟩
  have b7 := pop_le8 ⟨x / 256 / 256 / 256 / 256 / 256 / 256 / 256 % 256, by omega⟩
  simp only at b0 b1 b2 b3 b4 b5 b6 b7
  generalize popN (x % 256) 8 = p0 at *
  generalize popN (x / 256 % 256) 8 = p1 at *
  generalize popN (x / 256 / 256 % 256) 8 = p2 at *
  generalize popN (x / 256 / 256 / 256 % 256) 8 = p3 at *
  generalize popN (x / 256 / 256 / 256 / 256 % 256) 8 = p4 at *
  generalize popN (x / 256 / 256 / 256 / 256 / 256 % 256) 8 = p5 at *
  generalize popN (x / 256 / 256 / 256 / 256 / 256 / 256 % 256) 8 = p6 at *
  generalize popN (x / 256 / 256 / 256 / 256 / 256 / 256 / 256 % 256) 8 = p7 at *
  have e1 : p0 + 256 * (p1 + 256 * (p2 + 256 * (p3 + 256 * (p4 + 256 * (p5 + 256 * (p6 + 256 * (p7 + 256 * 0))))))) + (p0 + 256 * (p1 + 256 * (p2 + 256 * (p3 + 256 * (p4 + 256 * (p5 + 256 * (p6 + 256 * (p7 + 256 * 0)))))))) / 256
      = (p0 + p1) + 256 * (p1 + p2) + 65536 * (p2 + p3) + 16777216 * (p3 + p4) + 4294967296 * (p4 + p5) + 1099511627776 * (p5 + p6) + 281474976710656 * (p6 + p7) + 72057594037927936 * p7 := by omega
  rw [e1]
  have e2 : ((p0 + p1) + 256 * (p1 + p2) + 65536 * (p2 + p3) + 16777216 * (p3 + p4) + 4294967296 * (p4 + p5) + 1099511627776 * (p5 + p6) + 281474976710656 * (p6 + p7) + 72057594037927936 * p7) / 65536
      = (p2 + p3) + 256 * (p3 + p4) + 65536 * (p4 + p5) + 16777216 * (p5 + p6) + 4294967296 * (p6 + p7) + 1099511627776 * p7 := by omega
  rw [e2]
  have e3 : ((p0 + p1) + 256 * (p1 + p2) + 65536 * (p2 + p3) + 16777216 * (p3 + p4) + 4294967296 * (p4 + p5) + 1099511627776 * (p5 + p6) + 281474976710656 * (p6 + p7) + 72057594037927936 * p7
      + ((p2 + p3) + 256 * (p3 + p4) + 65536 * (p4 + p5) + 16777216 * (p5 + p6) + 4294967296 * (p6 + p7) + 1099511627776 * p7)) / 4294967296
      = (p4 + p5 + p6 + p7) + 256 * (p5 + p6 + p7) + 65536 * (p6 + p7) + 16777216 * p7 := by omega
  rw [e3]
  clear e1 e2 e3
  refine ⟨by omega, by omega, by omega⟩
end Go.Proofs.YthiongcednmjiaaDoor.WMath
