/-
  Products of numbers of 384 bits, word by word: what the loops keep.
-/
import Derived.Test.YtgiehfecljampaaWmath
namespace Go.Proofs.Ytgiehfecljampaa.WMath

theorem mulAdd_num (x y u v H L l1 c1 h1 l2 c2 h2 : Nat) (hx : x < 18446744073709551616) (hy : y < 18446744073709551616) (hu : u < 18446744073709551616) (hv : v < 18446744073709551616)
    (hH : H = x * y / 18446744073709551616) (hL : L = x * y % 18446744073709551616) (e1 : l1 + 18446744073709551616 * c1 = L + u) (f1 : h1 = (H + c1) % 18446744073709551616) (e2 : l2 + 18446744073709551616 * c2 = l1 + v) (f2 : h2 = (h1 + c2) % 18446744073709551616)
    (b1 : l1 < 18446744073709551616) (b2 : l2 < 18446744073709551616) :
    l2 = (x * y + u + v) % 18446744073709551616 ∧ h2 = (x * y + u + v) / 18446744073709551616 := by
  have hb : x * y ≤ 18446744073709551615 * 18446744073709551615 := Nat.mul_le_mul (by omega) (by omega)
  generalize x * y = p at *
  omega

theorem carry_num (a b s : Nat) (c o : Bool) (ha : a < 18446744073709551616) (hb : b < 18446744073709551616) (hs : (a + b + c.toNat) % 18446744073709551616 = s) (ho : decide (18446744073709551616 ≤ a + b + c.toNat) = o) :
    s + 18446744073709551616 * o.toNat = a + b + c.toNat ∧ s < 18446744073709551616 := by
  have : c.toNat ≤ 1 := by cases c <;> decide
  subst ho
  by_cases h : 18446744073709551616 ≤ a + b + c.toNat
  · rw [decide_eq_true h, Bool.toNat_true]; omega
  · rw [decide_eq_false h, Bool.toNat_false]; omega

theorem mul_lt128 (x y u v : Nat) (hx : x < 18446744073709551616) (hy : y < 18446744073709551616) (hu : u < 18446744073709551616) (hv : v < 18446744073709551616) : (x * y + u + v) / 18446744073709551616 < 18446744073709551616 := by
  have hb : x * y ≤ 18446744073709551615 * 18446744073709551615 := Nat.mul_le_mul (by omega) (by omega)
  generalize x * y = p at *
  omega

theorem mul_in_step (n m L L' i j p c lo hi : Nat) (hp : p = i + j) (hE : L + 2 ^ (64 * p) * c = (n % 2 ^ (64 * i)) * m + wd n i * 2 ^ (64 * i) * (m % 2 ^ (64 * j)))
    (hL : L' = setw L p lo) (ht : lo + 18446744073709551616 * hi = wd n i * wd m j + wd L p + c) :
    L' + 2 ^ (64 * (p + 1)) * hi = (n % 2 ^ (64 * i)) * m + wd n i * 2 ^ (64 * i) * (m % 2 ^ (64 * (j + 1))) := by
  have h1 := setw_add L p lo
  rw [← hL] at h1
  have h2 := congrArg (fun t => 2 ^ (64 * p) * t) ht
  simp only [Nat.mul_add] at h2
  rw [mod_wd m j, Nat.mul_add (wd n i * 2 ^ (64 * i)), ← Nat.add_assoc, ← hE]
  have h3 : wd n i * 2 ^ (64 * i) * (2 ^ (64 * j) * wd m j) = 2 ^ (64 * p) * (wd n i * wd m j) := by
    rw [hp, Nat.mul_add, Nat.pow_add]
    simp only [Nat.mul_assoc, Nat.mul_comm, Nat.mul_left_comm]
  rw [h3, pow64, Nat.mul_assoc]
  omega

theorem mul_out (n m L i c : Nat) (j : Nat) (h6 : j = 6) (hm : m < Q) (hL : L < 2 ^ (64 * (i + 6))) (hE : L + 2 ^ (64 * (i + j)) * c = (n % 2 ^ (64 * i)) * m + wd n i * 2 ^ (64 * i) * (m % 2 ^ (64 * j))) :
    setw L (i + 6) c = (n % 2 ^ (64 * (i + 1))) * m := by
  rw [setw_low _ _ _ hL]
  rw [wlow m j hm h6, h6] at hE
  rw [hE, mod_wd, Nat.add_mul, Nat.mul_comm (wd n i)]

theorem mul_bd (n m i : Nat) (hm : m < Q) : (n % 2 ^ (64 * i)) * m < 2 ^ (64 * (i + 6)) := by
  obtain ⟨L, hL, hQ⟩ := Q_of
  rw [hQ, hL] at hm
  rw [Nat.mul_add, Nat.pow_add]
  exact Nat.mul_lt_mul'' (Nat.mod_lt _ (Nat.two_pow_pos _)) hm
end Go.Proofs.Ytgiehfecljampaa.WMath
