/-
  What Sqrt of package word returns, for every word: the greatest number whose square is at most it, and what is left.
-/
import Derived.Test.YthiongcednmjiaaDoorGx
namespace Go.Proofs.YthiongcednmjiaaDoor
open Go.RowKit WMath

/-- After j pairs of bits: the root so far is r, what is left s. -/
def SqSt (x j r s : Nat) : Prop := x / 2 ^ (64 - 2 * j) = r * r + s ∧ s ≤ 2 * r ∧ r < 2 ^ j

theorem sq_step (x j r s t : Nat) (hj : j < 32) (ht : t = x / 2 ^ (62 - 2 * j) % 4) (S : SqSt x j r s) :
    (4 * s + t < 4 * r + 1 → SqSt x (j + 1) (r * 2) (4 * s + t)) ∧ (4 * r + 1 ≤ 4 * s + t → SqSt x (j + 1) (r * 2 + 1) (4 * s + t - (4 * r + 1))) := by
  obtain ⟨h, hs, hr⟩ := S
  have e1 : 64 - 2 * (j + 1) = 62 - 2 * j := by omega
  have e2 : 2 ^ (64 - 2 * j) = 2 ^ (62 - 2 * j) * 4 := by
    rw [show 64 - 2 * j = (62 - 2 * j) + 2 by omega, Nat.pow_add]
  rw [e2, ← Nat.div_div_eq_div_mul] at h
  unfold SqSt
  rw [e1, Nat.pow_succ]
  have e3 : r * 2 * (r * 2) = 4 * (r * r) := by rw [Nat.mul_mul_mul_comm]; omega
  have e4 : (r * 2 + 1) * (r * 2 + 1) = 4 * (r * r) + 4 * r + 1 := by rw [Nat.add_mul, Nat.mul_add, e3]; omega
  rw [e3, e4]
  generalize r * r = R at *
  generalize x / 2 ^ (62 - 2 * j) = X at *
  generalize 2 ^ j = P at *
  refine ⟨fun _ => ⟨by omega, by omega, by omega⟩, fun _ => ⟨by omega, by omega, by omega⟩⟩

theorem sq_start (x : Nat) (hx : x < 18446744073709551616) : SqSt x 0 0 0 := by
  refine ⟨?_, by omega, by decide⟩
  rw [Nat.mul_zero, Nat.sub_zero, ← two64, Nat.div_eq_of_lt hx]

theorem sq_end (x r s : Nat) (S : SqSt x 32 r s) : x = r * r + s ∧ s ≤ 2 * r ∧ r < 4294967296 := by
  obtain ⟨h, hs, hr⟩ := S
  rw [show 64 - 2 * 32 = 0 by omega, Nat.pow_zero, Nat.div_one] at h
  exact ⟨h, hs, hr⟩

theorem top_two (x j : Nat) (hj : j < 32) : x * 2 ^ (2 * j) % 18446744073709551616 / 4611686018427387904 = x / 2 ^ (62 - 2 * j) % 4 := by
  have e1 : (18446744073709551616 : Nat) = 2 ^ (2 * j) * (2 ^ (62 - 2 * j) * 4) := by
    rw [show (4 : Nat) = 2 ^ 2 by decide, ← Nat.pow_add, ← Nat.pow_add, two64]; congr 1; omega
  have e2 : (4611686018427387904 : Nat) = 2 ^ (2 * j) * 2 ^ (62 - 2 * j) := by
    rw [← Nat.pow_add, show 2 * j + (62 - 2 * j) = 62 by omega]
  rw [e1, e2, Nat.mul_comm x, Nat.mul_mod_mul_left, Nat.mul_div_mul_left _ _ (Nat.two_pow_pos _), Nat.mod_mul_right_div_self]

theorem mul4_step (x j X : Nat) (h : X = x * 2 ^ (2 * j) % 18446744073709551616) : X * 4 % 18446744073709551616 = x * 2 ^ (2 * (j + 1)) % 18446744073709551616 := by
  rw [h, show 2 * (j + 1) = 2 * j + 2 by omega, Nat.pow_add, ← Nat.mul_assoc]
  exact Nat.mod_mul_mod _ _ _

theorem or_two (s t : Nat) (h : s % 4 = 0) (ht : t < 4) : s ||| t = s + t := by
  have := Nat.two_pow_add_eq_or_of_lt (i := 2) (b := t) ht (s / 4)
  have e : 2 ^ 2 * (s / 4) = s := by omega
  rw [e] at this
  exact this.symm
theorem or_two_i (S t : Nat) (hS : S % 4 = 0) (ht : t < 4) (h : S < 18446744073709551616) : bits .or .u64 (S : Int) (t : Int) = ((S + t : Nat) : Int) := by
  rw [bits_or_u64_nat S t h (by omega), or_two S t hS ht]

/-- What one round reckons. -/
theorem sq_round (x j r s X : Nat) (hj : j < 32) (HX : X = x * 2 ^ (2 * j) % 18446744073709551616) (HS : SqSt x j r s) :
    s * 4 + 3 < 18446744073709551616 ∧ r * 4 + 1 < 18446744073709551616 ∧ X < 18446744073709551616 ∧
    ∃ R T Q Q1 X' : Nat, R < 18446744073709551616 ∧ bits .or .u64 ((s : Int) * 4) ((X : Int) / 4611686018427387904) = (R : Int) ∧ bits .or .u64 ((r : Int) * 4) 1 = (T : Int) ∧ (r : Int) * 2 = (Q : Int) ∧ bits .or .u64 (Q : Int) 1 = (Q1 : Int) ∧
      IntKind.u64.wrap ((X : Int) * 4) = (X' : Int) ∧ Hid (X' = x * 2 ^ (2 * (j + 1)) % 18446744073709551616) ∧ Q < 9223372036854775808 ∧
      Hid (R < T → SqSt x (j + 1) Q R) ∧ Hid (∀ D : Nat, (D : Int) = R - T → SqSt x (j + 1) Q1 D) := by
  have hs := HS.2.1
  have hr := HS.2.2
  have hp : 2 ^ j ≤ 2 ^ 32 := Nat.pow_le_pow_right (by decide) (by omega)
  have hr2 : r < 4294967296 := by omega
  have hXl : X < 18446744073709551616 := by omega
  have ht : X / 4611686018427387904 = x / 2 ^ (62 - 2 * j) % 4 := by rw [HX]; exact top_two x j hj
  have st := sq_step x j r s _ hj ht HS
  have hX' := mul4_step x j X HX
  have o1 := or_two_i (s * 4) (X / 4611686018427387904) (by omega) (by omega) (by omega)
  have o2 := or_two_i (r * 4) 1 (by omega) (by omega) (by omega)
  have o3 := or_bit_i (r * 2) 1 (by omega) (by omega) (by omega)
  have eX : IntKind.u64.wrap ((X : Int) * 4) = ((X * 4 % 18446744073709551616 : Nat) : Int) := by rw [IntKind.wrap_u64]; omega
  clear HX HS ht
  refine ⟨by omega, by omega, hXl, s * 4 + X / 4611686018427387904, r * 4 + 1, r * 2, r * 2 + 1, _, by omega, ?_, o2, by omega, o3, eX, hX', by omega, ?_, ?_⟩
  · rw [← o1]; congr 1
  · intro h
    have := st.1 (by omega)
    rw [Nat.mul_comm 4 s] at this
    exact this
  · intro D hD
    have := st.2 (by omega)
    rw [show 4 * s + X / 4611686018427387904 - (4 * r + 1) = D by omega] at this
    exact this

theorem root_one (x r s p t : Nat) (h1 : x = r * r + s) (h2 : s ≤ 2 * r) (h3 : x = p * p + t) (h4 : t ≤ 2 * p) : r = p ∧ s = t := by
  have hle : ∀ a b u v : Nat, a * a + u = b * b + v → u ≤ 2 * a → b ≤ a := by
    intro a b u v h hu
    apply Nat.le_of_not_lt
    intro hab
    have := Nat.mul_le_mul hab hab
    rw [Nat.succ_eq_add_one, Nat.add_mul, Nat.mul_add] at this
    omega
  have e : r = p := Nat.le_antisymm (hle p r t s (by omega) h4) (hle r p s t (by omega) h2)
  subst e
  exact ⟨rfl, by omega⟩
end Go.Proofs.YthiongcednmjiaaDoor
