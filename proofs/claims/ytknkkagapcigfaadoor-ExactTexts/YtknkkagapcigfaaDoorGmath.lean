/-
  Many turns of the common divisor's way at once: what the highest bits tell for sure holds of the whole numbers.
-/
import Derived.Test.YtknkkagapcigfaaDoorMx
namespace Go.Proofs.YtknkkagapcigfaaDoor.WMath

/-- What the lower bits move is at most the greater count, times less than their power. -/
theorem near_num (K a b x y a0 b0 A B r N s : Int) (hs : s = 1 ∨ s = -1) (ha : a = K * x + a0) (hb : b = K * y + b0) (a1 : 0 ≤ a0) (a2 : a0 ≤ K - 1) (b1 : 0 ≤ b0) (b2 : b0 ≤ K - 1) (hA : 0 ≤ A) (hAB : A ≤ B)
    (hr : r = s * (x * A - y * B)) (hN : N = s * (a * A - b * B)) : K * r ≤ N + (K - 1) * B ∧ N ≤ K * r + (K - 1) * B := by
  have p1 : 0 ≤ a0 * A := Int.mul_nonneg a1 hA
  have p2 : a0 * A ≤ (K - 1) * B := Int.mul_le_mul a2 hAB hA (by omega)
  have p3 : 0 ≤ b0 * B := Int.mul_nonneg b1 (by omega)
  have p4 : b0 * B ≤ (K - 1) * B := Int.mul_le_mul_of_nonneg_right b2 (by omega)
  have e1 : a * A = K * (x * A) + a0 * A := by rw [ha, Int.add_mul, Int.mul_assoc]
  have e2 : b * B = K * (y * B) + b0 * B := by rw [hb, Int.add_mul, Int.mul_assoc]
  have e3 : K * (x * A - y * B) = K * (x * A) - K * (y * B) := Int.mul_sub _ _ _
  generalize (K - 1) * B = Z at *
  generalize a0 * A = u at *
  generalize b0 * B = v at *
  rcases hs with rfl | rfl
  · rw [Int.one_mul] at hr hN
    rw [hr, hN, e1, e2, e3]
    omega
  · rw [Int.neg_mul, Int.one_mul] at hr hN
    rw [hr, hN, e1, e2, Int.mul_neg, e3]
    omega

/-- What the turns keep: the last two rests of the highest bits and of the whole numbers, and how often both numbers are in them. -/
def TurnSt (a b x y r1 A1 B1 r2 A2 B2 F S : Nat) (s : Int) : Prop :=
  (s = 1 ∨ s = -1) ∧ ((F : Int) = s * ((a : Int) * A1 - b * B1)) ∧ ((S : Int) = s * ((b : Int) * B2 - a * A2)) ∧ ((r1 : Int) = s * ((x : Int) * A1 - y * B1)) ∧ ((r2 : Int) = s * ((y : Int) * B2 - x * A2)) ∧
  r1 * B2 + r2 * B1 = x ∧ r1 * A2 + r2 * A1 = y ∧ A2 ≤ B2 ∧ 1 ≤ B2 ∧ A1 + A2 ≤ B1 + B2 ∧ 1 ≤ A1 + A2 ∧ r2 ≤ r1 ∧ Nat.gcd F S = Nat.gcd a b ∧ S ≤ F ∧ (A2 = 0 ∨ (0 < S ∧ S < F ∧ F ≤ b)) ∧ (A2 = 0 → F = a ∧ S = b)
theorem turnSt_start (a b x y : Nat) (hab : b ≤ a) (hxy : y ≤ x) : TurnSt a b x y x 1 0 y 0 1 a b 1 :=
  ⟨Or.inl rfl, by simp, by simp, by simp, by simp, by simp, by simp, by decide, by decide, by decide, by decide, hxy, rfl, hab, Or.inl rfl, fun _ => ⟨rfl, rfl⟩⟩
theorem turnSt_count {a b x y r1 A1 B1 r2 A2 B2 F S t n : Nat} {s : Int} (h : TurnSt a b x y r1 A1 B1 r2 A2 B2 F S s) (h2 : r2 ≠ 0) (ht : r1 / r2 = t) (hn : r1 - t * r2 = n) :
    1 ≤ t ∧ r1 = t * r2 + n ∧ n < r2 ∧ r2 * (B1 + t * B2) + n * B2 = x ∧ r2 * (A1 + t * A2) + n * A2 = y ∧ A1 + t * A2 ≤ B1 + t * B2 ∧ B2 ≤ B1 + t * B2 ∧ 1 ≤ A1 + t * A2 := by
  obtain ⟨_, _, _, _, _, hx, hy, hAB, hB, hs, hA1, hr, _⟩ := h
  have t1 : 1 ≤ t := by rw [← ht]; exact (Nat.le_div_iff_mul_le (by omega)).2 (by omega)
  have d := Nat.div_add_mod r1 r2
  rw [ht, Nat.mul_comm] at d
  have m := Nat.mod_lt r1 (show r2 > 0 by omega)
  have en : n = r1 % r2 := by omega
  have e : r1 = t * r2 + n := by omega
  have x1 : r2 * (B1 + t * B2) + n * B2 = x := by
    rw [← hx, e, Nat.add_mul, Nat.mul_add, Nat.mul_left_comm r2 t B2, Nat.mul_assoc t r2 B2]
    omega
  have x2 : r2 * (A1 + t * A2) + n * A2 = y := by
    rw [← hy, e, Nat.add_mul, Nat.mul_add, Nat.mul_left_comm r2 t A2, Nat.mul_assoc t r2 A2]
    omega
  have lt : n < r2 := by omega
  clear en m d hn ht
  obtain ⟨k, rfl⟩ : ∃ k, t = k + 1 := ⟨t - 1, by omega⟩
  have q1 : k * A2 ≤ k * B2 := Nat.mul_le_mul_left _ hAB
  refine ⟨t1, e, lt, x1, x2, ?_, ?_, ?_⟩
  · rw [Nat.add_mul, Nat.add_mul]; omega
  · rw [Nat.add_mul]; omega
  · rw [Nat.add_mul]; omega
theorem turnSt_next {a b x y r1 A1 B1 r2 A2 B2 F S t n K a0 b0 : Nat} {s : Int} (h : TurnSt a b x y r1 A1 B1 r2 A2 B2 F S s) (h2 : r2 ≠ 0) (ht : r1 / r2 = t) (hn : r1 - t * r2 = n) (ha : a = K * x + a0) (hb : b = K * y + b0) (a1 : a0 < K) (b1 : b0 < K)
    (s1 : B1 + t * B2 ≤ n) (s2 : B2 + (B1 + t * B2) ≤ r2 - n) : ∃ N, TurnSt a b x y r2 A2 B2 n (A1 + t * A2) (B1 + t * B2) S N (-s) ∧ N < S ∧ 0 < N := by
  obtain ⟨c1, c2, c3, c4, c5, c6, c7, c8⟩ := turnSt_count h h2 ht hn
  obtain ⟨hs, hF, hS, hr1, hr2, hx, hy, hAB, hB, hsum, hA1, hr, hg, hSF, hmv, h00⟩ := h
  have eN : (F : Int) - t * S = -s * ((b : Int) * ((B1 + t * B2 : Nat) : Int) - a * ((A1 + t * A2 : Nat) : Int)) := by
    have e1 : (b : Int) * ((B1 + t * B2 : Nat) : Int) = b * B1 + t * (b * B2) := by
      rw [Int.natCast_add, Int.natCast_mul, Int.mul_add, Int.mul_left_comm]
    have e2 : (a : Int) * ((A1 + t * A2 : Nat) : Int) = a * A1 + t * (a * A2) := by
      rw [Int.natCast_add, Int.natCast_mul, Int.mul_add, Int.mul_left_comm]
    rw [hF, hS, e1, e2]
    rcases hs with rfl | rfl
    · rw [Int.one_mul, Int.one_mul, Int.mul_sub, Int.neg_mul, Int.one_mul]
      omega
    · rw [Int.neg_mul, Int.one_mul, Int.neg_mul, Int.one_mul, Int.mul_neg, Int.mul_sub, Int.neg_neg, Int.one_mul]
      omega
  have er : (n : Int) = -s * ((y : Int) * ((B1 + t * B2 : Nat) : Int) - x * ((A1 + t * A2 : Nat) : Int)) := by
    have e1 : (y : Int) * ((B1 + t * B2 : Nat) : Int) = y * B1 + t * (y * B2) := by
      rw [Int.natCast_add, Int.natCast_mul, Int.mul_add, Int.mul_left_comm]
    have e2 : (x : Int) * ((A1 + t * A2 : Nat) : Int) = x * A1 + t * (x * A2) := by
      rw [Int.natCast_add, Int.natCast_mul, Int.mul_add, Int.mul_left_comm]
    have e3 : (n : Int) = r1 - t * r2 := by
      have : (r1 : Int) = ((t * r2 + n : Nat) : Int) := by rw [← c2]
      rw [Int.natCast_add, Int.natCast_mul] at this
      omega
    rw [e3, hr1, hr2, e1, e2]
    rcases hs with rfl | rfl
    · rw [Int.one_mul, Int.one_mul, Int.mul_sub, Int.neg_mul, Int.one_mul]
      omega
    · rw [Int.neg_mul, Int.one_mul, Int.neg_mul, Int.one_mul, Int.mul_neg, Int.mul_sub, Int.neg_neg, Int.one_mul]
      omega
  obtain ⟨An, hAn⟩ : ∃ An, A1 + t * A2 = An := ⟨_, rfl⟩
  obtain ⟨Bn, hBn⟩ : ∃ Bn, B1 + t * B2 = Bn := ⟨_, rfl⟩
  rw [hAn, hBn] at eN er
  rw [hBn] at s1 s2 c4 c6 c7
  rw [hAn] at c5 c6 c8
  have hs' : -s = 1 ∨ -s = -1 := by rcases hs with rfl | rfl <;> simp
  have neg : ∀ u v : Int, s * (u - v) = -s * (v - u) := by
    intro u v
    rw [Int.neg_mul, ← Int.mul_neg, Int.neg_sub]
  have n1 := near_num (K : Int) a b x y a0 b0 An Bn n ((F : Int) - t * S) s hs (by rw [ha]; simp) (by rw [hb]; simp) (by omega) (by omega) (by omega) (by omega) (by omega) (by omega)
    (by rw [er, neg]) (by rw [eN, neg])
  have n2 := near_num (K : Int) a b x y a0 b0 A2 B2 r2 S (-s) hs' (by rw [ha]; simp) (by rw [hb]; simp) (by omega) (by omega) (by omega) (by omega) (by omega) (by omega)
    (by rw [hr2, neg]) (by rw [hS, neg])
  have k0 : (0 : Int) < K := by omega
  have m1 : (K : Int) * Bn ≤ K * n := Int.mul_le_mul_of_nonneg_left (by omega) (by omega)
  have m2 : (K : Int) * (B2 + Bn) ≤ K * (r2 - n) := Int.mul_le_mul_of_nonneg_left (by omega) (by omega)
  have m3 : ((K : Int) - 1) * Bn = K * Bn - Bn := by rw [Int.sub_mul, Int.one_mul]
  have m4 : ((K : Int) - 1) * B2 = K * B2 - B2 := by rw [Int.sub_mul, Int.one_mul]
  rw [Int.mul_add, Int.mul_sub] at m2
  have N0 : (0 : Int) < (F : Int) - t * S := by omega
  have NS : (F : Int) - t * S < S := by omega
  have eT : ((t * S : Nat) : Int) = (t : Int) * S := Int.natCast_mul _ _
  have hle : t * S ≤ F := by omega
  obtain ⟨N, hN⟩ : ∃ N, F = t * S + N := ⟨F - t * S, by omega⟩
  have eNN : (N : Int) = (F : Int) - t * S := by omega
  have hgN : Nat.gcd S N = Nat.gcd a b := by
    rw [← hg, hN, Nat.gcd_mul_right_add_left, Nat.gcd_comm S N]
  refine ⟨N, ?_, by omega, by omega⟩
  refine ⟨hs', ?_, ?_, ?_, ?_, by rw [hBn]; exact c4, by rw [hAn]; exact c5, by rw [hAn, hBn]; exact c6, by omega, by omega, by omega, by omega, hgN, by omega, Or.inr ⟨by omega, by omega, ?_⟩, fun h => ?_⟩
  · rw [hS, neg]
  · rw [eNN, eN, hAn, hBn]
  · rw [hr2, neg]
  · rw [hAn, hBn]; exact er
  · rcases hmv with h | ⟨_, h3, h4⟩
    · have := (h00 h).2; omega
    · omega
  · omega
end Go.Proofs.YtknkkagapcigfaaDoor.WMath
