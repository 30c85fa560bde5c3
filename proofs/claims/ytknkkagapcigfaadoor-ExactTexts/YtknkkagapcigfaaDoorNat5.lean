/-
  What the function Mul of the document's answer for layer 5 returns.
-/
import Derived.Test.YtknkkagapcigfaaDoorGx
namespace Go.Proofs.YtknkkagapcigfaaDoor
open Go.RowKit WMath

theorem nl_mul (a b : Nat) (ha : a ≠ 0) (hb : b ≠ 0) : nl a + nl b ≤ nl (a * b) + 1 := by
  have h1 := nl_le a ha
  have h2 := nl_le b hb
  have h3 := nl_lt (a * b)
  have h4 := Nat.mul_le_mul h1 h2
  rw [← Nat.pow_add] at h4
  have h5 : 2 ^ (8 * (nl a - 1) + 8 * (nl b - 1)) < 2 ^ (8 * nl (a * b)) := Nat.lt_of_le_of_lt h4 h3
  have h6 := (Nat.pow_lt_pow_iff_right (by decide : 1 < 2)).1 h5
  omega
theorem mul_lt8 (a b L M : Nat) (ha : a < 2 ^ (8 * L)) (hb : b < 2 ^ (8 * M)) : a * b < 2 ^ (8 * (L + M)) := by
  rw [Nat.mul_add, Nat.pow_add]
  exact Nat.mul_lt_mul_of_lt_of_le ha (Nat.le_of_lt hb) (Nat.two_pow_pos _)

theorem nl_mul_le (a b : Nat) : nl (a * b) ≤ nl a + nl b := nl_le_of _ _ (mul_lt8 a b _ _ (nl_lt a) (nl_lt b))
theorem nl_add_le (a b L : Nat) (ha : nl a ≤ L) (hb : nl b ≤ L) : nl (a + b) ≤ L + 1 := nl_le_of _ _ (by
  have h1 := Nat.lt_of_lt_of_le (nl_lt a) (pow8_le _ _ ha)
  have h2 := Nat.lt_of_lt_of_le (nl_lt b) (pow8_le _ _ hb)
  rw [pow8]
  omega)
theorem lg_ok (n : Nat) (v : ByteArray) (h : nl n ≤ 16384) (hv : nbA n = v) : lg n = (v, 0) := by unfold lg; rw [if_pos h, hv]

theorem set8_step (X p c t y z g : Nat) (ht : c + d8 X p + y = t) (hz : t % 256 = z) (hg : t / 256 = g) : set8 X p z + 2 ^ (8 * (p + 1)) * g = X + 2 ^ (8 * p) * (c + y) := by
  have h1 := set8_add X p z
  have h2 : z + 256 * g = c + d8 X p + y := by rw [ht, ← hz, ← hg]; omega
  have h3 := congrArg (fun u => 2 ^ (8 * p) * u) h2
  simp only [Nat.mul_add] at h3
  rw [pow8, Nat.mul_assoc, Nat.mul_add]
  omega
theorem mul_round (X V x b i k c y t z g : Nat) (hy : d8 b k = y) (hE : X + 2 ^ (8 * (i + k)) * c = V + 2 ^ (8 * i) * (x * (b % 2 ^ (8 * k)))) (ht : c + d8 X (i + k) + x * y = t) (hz : t % 256 = z) (hg : t / 256 = g) :
    set8 X (i + k) z + 2 ^ (8 * (i + (k + 1))) * g = V + 2 ^ (8 * i) * (x * (b % 2 ^ (8 * (k + 1)))) := by
  have h := set8_step X (i + k) c t (x * y) z g ht hz hg
  rw [show i + k + 1 = i + (k + 1) by omega] at h
  have e : 2 ^ (8 * i) * (x * (b % 2 ^ (8 * (k + 1)))) = 2 ^ (8 * i) * (x * (b % 2 ^ (8 * k))) + 2 ^ (8 * (i + k)) * (x * y) := by
    rw [mod_d8, hy, Nat.mul_add x, Nat.mul_add (2 ^ (8 * i)), Nat.mul_add 8 i k, Nat.pow_add, Nat.mul_left_comm x, Nat.mul_assoc (2 ^ (8 * i))]
  rw [h, e, Nat.mul_add]
  omega
theorem mul_row (a b V i x : Nat) (hx : d8 a i = x) (hV : V = (a % 2 ^ (8 * i)) * b) : V + 2 ^ (8 * i) * (x * b) = (a % 2 ^ (8 * (i + 1))) * b := by
  rw [hV, mod_d8, hx, Nat.add_mul, Nat.mul_assoc]
theorem mul_le_of (a b i : Nat) : (a % 2 ^ (8 * i)) * b ≤ a * b := Nat.mul_le_mul_right _ (Nat.mod_le _ _)

end Go.Proofs.YtknkkagapcigfaaDoor
