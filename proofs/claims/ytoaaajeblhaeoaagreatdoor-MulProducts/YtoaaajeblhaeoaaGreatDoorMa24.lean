/-
  What the functions that the statement reaches return: part 24 (M0).
-/
import Derived.Test.YtoaaajeblhaeoaaGreatDoorMa23
namespace Go.Proofs.YtoaaajeblhaeoaaGreatDoor
set_option maxRecDepth 100000
set_option maxHeartbeats 40000000
set_option maxRecDepth 100000
open Go.RowKit WMath XMath
set_option linter.unusedSimpArgs false
set_option linter.unusedVariables false

theorem blen_prod (A B : Nat) (hA : A < 2 ^ 128) (hB : B < 2 ^ 128) : A * B < 2 ^ 256 ∧ blen (A * B) ≤ 256 := by
  have h : A * B < 2 ^ 256 := by
    have := mul_pow_lt A B 128 128 hA hB
    rw [show (256 : Nat) = 128 + 128 from rfl]
    exact this
  exact ⟨h, (blen_iff _ _).2 h⟩
theorem od_prod (A B : Nat) (A0 : A ≠ 0) (B0 : B ≠ 0) : A * B = od A * od B * 2 ^ (tz A + tz B) ∧ od A * od B ≠ 0 := by
  obtain ⟨a1, a2⟩ := od_is A A0
  obtain ⟨b1, b2⟩ := od_is B B0
  refine ⟨?_, mul_ne (by omega) (by omega)⟩
  obtain ⟨P, hP⟩ : ∃ P, od A = P := ⟨_, rfl⟩
  obtain ⟨R, hR⟩ : ∃ R, od B = R := ⟨_, rfl⟩
  obtain ⟨i, hi⟩ : ∃ i, tz A = i := ⟨_, rfl⟩
  obtain ⟨j, hj⟩ : ∃ j, tz B = j := ⟨_, rfl⟩
  rw [hP, hi] at a1
  rw [hR, hj] at b1
  rw [hP, hR, hi, hj, a1, b1, Nat.pow_add]
  simp only [Nat.mul_assoc, Nat.mul_comm, Nat.mul_left_comm]
/-- The exact product of two whole numbers times powers of two, rounded: what counts of the product of both whole numbers. -/
theorem mul_num {f : Int} (hf : Is4 f) (m : Int) (a b : Bool) (A B : Nat) (x y : Int) (A0 : A ≠ 0) (B0 : B ≠ 0) (hA : A < 2 ^ 128) (hB : B < 2 ^ 128) (x1 : -20000 ≤ x) (x2 : x ≤ 20000) (y1 : -20000 ≤ y) (y2 : y ≤ 20000) :
    ∃ (n : Nat) (e : Int), mulX ⟨a, od A, 1, x + (tz A : Int)⟩ ⟨b, od B, 1, y + (tz B : Int)⟩ = (⟨a != b, n, 1, e⟩, 0) ∧ (XN.mk (a != b) n 1 e).can ∧ nl n ≤ 8192 ∧ n ≠ 0 ∧
      rnd f m ⟨a != b, n, 1, e⟩ = dlv f m (a != b) (x + y + (blen (A * B) : Int) - 1) (qW (pV f + 1) (A * B)) (qM (pV f + 1) (A * B) false) := by
  obtain ⟨p1, p2⟩ := blen_prod A B hA hB
  obtain ⟨o1, o2⟩ := od_prod A B A0 B0
  have tA := tz_blen A
  have tB := tz_blen B
  have bA := (blen_iff A 128).2 hA
  have bB := (blen_iff B 128).2 hB
  obtain ⟨N, hN⟩ : ∃ N, od A * od B = N := ⟨_, rfl⟩
  obtain ⟨k, hk⟩ : ∃ k, tz A + tz B = k := ⟨_, rfl⟩
  rw [hN, hk] at o1
  rw [hN] at o2
  have bs := blen_shift N k o2
  have ql := q_longer (pV f + 1) N k o2
  rw [← o1] at bs ql
  obtain ⟨w1, w2, w3, w4, w5, w6, w7⟩ := x_whole hf (a != b) N (x + (tz A : Int) + (y + (tz B : Int))) o2 (by omega) (by omega) (by omega)
  have a0 := (od_is A A0).2
  have b0 := (od_is B B0).2
  refine ⟨od N, x + (tz A : Int) + (y + (tz B : Int)) + (tz N : Int), ?_, w2, w4, w3, ?_⟩
  · unfold mulX
    have lN : nl N ≤ 16384 := by unfold nl; omega
    rw [if_neg (by show ¬ (od A = 0 ∨ od B = 0); omega)]
    show (if nl (od A * od B) ≤ 16384 ∧ nl (1 * 1) ≤ 16384 then mk (a != b) (od A * od B) (1 * 1) (x + (tz A : Int) + (y + (tz B : Int))) else (XZ, 4)) = _
    rw [hN, Nat.mul_one, if_pos ⟨lN, nl_1⟩, w1]
  · unfold rnd
    rw [if_neg w3, w5, w6, w7, ql.1, ql.2]
    congr 1
    omega
theorem vX_whole {f : Int} (hf : Is4 f) (n : Nat) (h : 0 < kC f n ∧ kC f n < 7) (h2 : ¬ (kC f n = 3 ∨ kC f n = 4)) : kS f n ≠ 0 ∧ kS f n < 2 ^ 128 ∧ vX f n = ⟨kN f n, od (kS f n), 1, kX f n + (tz (kS f n) : Int)⟩ ∧ (vX f n).can := by
  obtain ⟨l1, l2, l3⟩ := kS_lim hf n
  obtain ⟨a, b, d, e⟩ := k_parts (f := f) n (by omega)
  have l4 : kS f n < 2 ^ 128 := l1
  obtain ⟨w1, w2, w3, w4, w5, w6, w7⟩ := x_whole hf (kN f n) (kS f n) (kX f n) e (by have := (blen_iff (kS f n) 128).2 l4; omega) (by omega) (by omega)
  have := vX_mk hf n h
  rw [w1] at this
  injection this with h3 h4
  exact ⟨e, l4, h3.symm, by rw [← h3]; exact w2⟩
end Go.Proofs.YtoaaajeblhaeoaaGreatDoor
