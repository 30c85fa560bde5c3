/-
  What the functions that the statement reaches return: part 18 (FK).
-/
import Derived.Test.YtapikkbifdldfaaGreatDoorFs17
namespace Go.Proofs.YtapikkbifdldfaaGreatDoor
set_option maxRecDepth 100000
set_option maxHeartbeats 40000000
set_option maxRecDepth 100000
open Go.RowKit WMath XMath
set_option linter.unusedSimpArgs false
set_option linter.unusedVariables false
def frmW (A : Nat) (p low : Int) : Nat := jr (A * 2 ^ (p - low).toNat) (low - p).toNat
def loF (A : Nat) (p : Int) (C : Nat) (q : Int) : Int := if A = 0 then q + (blen C : Int) - 383 else if C = 0 then p + (blen A : Int) - 383 else max (p + (blen A : Int)) (q + (blen C : Int)) - 383
theorem pow_up (i K : Nat) (h : i ≤ K) : 2 ^ i ≤ 2 ^ K := Nat.pow_le_pow_right (by decide) h
theorem pow_lt (i K : Nat) (h : i < K) : 2 ^ i < 2 ^ K := Nat.pow_lt_pow_right (by decide) h
theorem jr_none (a : Nat) : jr a 0 = a := by
  unfold jr
  rw [Nat.pow_zero, Nat.mod_one, if_pos rfl, Nat.div_one]
theorem frw_up (A : Nat) (p low : Int) (h : low ≤ p) : frmW A p low = A * 2 ^ (p - low).toNat := by
  unfold frmW
  rw [show (low - p).toNat = 0 by omega, jr_none]
theorem frw_down (A : Nat) (p low : Int) (h : p ≤ low) : frmW A p low = jr A (low - p).toNat := by
  unfold frmW
  rw [show (p - low).toNat = 0 by omega, Nat.pow_zero, Nat.mul_one]
theorem jr_le1 (a n : Nat) : jr a n ≤ a / 2 ^ n + 1 := by
  unfold jr
  split
  · omega
  · rw [jor1]
    omega
theorem frw_lt (A : Nat) (p low : Int) (hA : blen A ≤ 226) (h : p + (blen A : Int) - low ≤ 383) : frmW A p low < 2 ^ 383 := by
  have l := (blen_iff A (blen A)).1 (Nat.le_refl _)
  by_cases c : low ≤ p
  · rw [frw_up A p low c]
    have p2 := Nat.two_pow_pos (p - low).toNat
    have := (Nat.mul_lt_mul_right p2).2 l
    rw [← Nat.pow_add] at this
    exact Nat.lt_of_lt_of_le this (pow_up _ 383 (by omega))
  · rw [frw_down A p low (by omega)]
    have j := jr_le1 A (low - p).toNat
    have d := Nat.div_le_self A (2 ^ (low - p).toNat)
    have u : A < 2 ^ 226 := (blen_iff A 226).1 hA
    have e : 2 ^ 226 < 2 ^ 383 := pow_lt 226 383 (by decide)
    omega
theorem fmD_scale (f m I E L : Int) (k : Nat) (hE : E = L + (k : Int)) : fmD f m (I * ((2 ^ k : Nat) : Int)) L = fmD f m I E := by
  have p := Nat.two_pow_pos k
  by_cases i0 : I = 0
  · rw [i0, Int.zero_mul]
    unfold fmD
    rw [if_pos rfl, if_pos rfl]
  · have n0 : I.natAbs ≠ 0 := by omega
    have na : (I * ((2 ^ k : Nat) : Int)).natAbs = I.natAbs * 2 ^ k := by rw [Int.natAbs_mul, Int.natAbs_natCast]
    have q0 : I * ((2 ^ k : Nat) : Int) ≠ 0 := Int.mul_ne_zero i0 (by omega)
    obtain ⟨q1, q2⟩ := q_longer (pV f + 1) I.natAbs k n0
    have sg : decide (I * ((2 ^ k : Nat) : Int) < 0) = decide (I < 0) := by
      rw [decide_eq_decide]
      have pp : (0 : Int) < ((2 ^ k : Nat) : Int) := by omega
      constructor
      · intro h
        by_cases c : I < 0
        · exact c
        · have := Int.mul_nonneg (show 0 ≤ I by omega) (Int.le_of_lt pp)
          omega
      · intro h
        exact Int.mul_neg_of_neg_of_pos h pp
    unfold fmD
    rw [if_neg q0, if_neg i0, na, q1, q2, blen_shift _ k n0, sg]
    congr 1
    omega
theorem fmD_jam (f m : Int) (s : Bool) (x n r : Nat) (L E : Int) (x0 : x ≠ 0) (hr : r < 2 ^ n) (hx : pV f + 3 ≤ blen x) (hE : L = E + (n : Int)) : fmD f m (sI s * ((jb x r : Nat) : Int)) L = fmD f m (sI s * ((x * 2 ^ n + r : Nat) : Int)) E := by
  obtain ⟨e1, e2, e3⟩ := ex_jam (pV f + 1) x n r x0 hr (fun _ => by omega)
  have p := Nat.two_pow_pos n
  have j0 : jb x r ≠ 0 := by
    unfold jb
    split
    · exact x0
    · omega
  have y0 : x * 2 ^ n + r ≠ 0 := by
    have := Nat.mul_ne_zero x0 (show 2 ^ n ≠ 0 by omega)
    omega
  obtain ⟨t1, t2, t3⟩ := sI_sign s (jb x r) j0
  obtain ⟨u1, u2, u3⟩ := sI_sign s (x * 2 ^ n + r) y0
  unfold fmD
  rw [if_neg t3, if_neg u3, t1, t2, u1, u2, e2, e3]
  congr 1
  omega
theorem sI_ne {s t : Bool} (h : s ≠ t) : sI t = - sI s := by cases s <;> cases t <;> first | rfl | exact absurd rfl h
theorem fmD_far (f m : Int) (s t : Bool) (G C n : Nat) (L E : Int) (hG : G % 2 = 0) (g1 : 2 ^ 381 * 2 ≤ G) (hC : C < 2 ^ 226) (hp : pV f ≤ 112) (hE : L = E + (n : Int)) : fmD f m (sI s * (G : Int) + sI t * ((jr C n : Nat) : Int)) L = fmD f m (sI s * ((G * 2 ^ n : Nat) : Int) + sI t * (C : Int)) E := by
  have p := Nat.two_pow_pos n
  have e1 : 2 ^ 226 ≤ 2 ^ 381 := pow_up 226 381 (by decide)
  have cn : C / 2 ^ n ≤ C := Nat.div_le_self _ _
  have lt := Nat.mod_lt C p
  have big : ∀ x, 2 ^ 381 ≤ x → pV f + 3 ≤ blen x ∧ x ≠ 0 := fun x h => by
    have := blen_iff x 381
    have p3 := Nat.two_pow_pos 381
    generalize 2 ^ 381 = P at *
    omega
  obtain ⟨P, hP⟩ : ∃ P, 2 ^ 381 = P := ⟨_, rfl⟩
  rw [hP] at e1 g1 big
  clear hP
  by_cases c : s = t
  · subst c
    obtain ⟨j1, j2⟩ := jam_add G C n hG
    obtain ⟨b1, b2⟩ := big (G + C / 2 ^ n) (Nat.le_trans (show P ≤ G by omega) (Nat.le_add_right _ _))
    have := fmD_jam f m s (G + C / 2 ^ n) n (C % 2 ^ n) L E b2 lt b1 hE
    rw [← j1, j2] at this
    rw [← Int.mul_add, ← Int.mul_add, ← Int.natCast_add, ← Int.natCast_add]
    exact this
  · have gl : C ≤ G * 2 ^ n := Nat.le_trans (show C ≤ G by omega) (Nat.le_mul_of_pos_right G p)
    obtain ⟨x, r, r1, r2, r3, r4, r5⟩ := jam_sub G C n hG gl
    have xb : P ≤ x := by
      rw [r5]
      split <;> omega
    obtain ⟨b1, b2⟩ := big x xb
    have := fmD_jam f m s x n r L E b2 r1 b1 hE
    rw [← r3, r4] at this
    have jl := jr_le1 C n
    rw [sI_ne c, Int.neg_mul, Int.neg_mul, ← Int.sub_eq_add_neg, ← Int.sub_eq_add_neg, ← Int.mul_sub, ← Int.mul_sub, ← Int.ofNat_sub (by omega), ← Int.ofNat_sub gl]
    exact this
theorem fmD_sum (f m : Int) (s t : Bool) (A C : Nat) (p q E : Int) (hA : blen A ≤ 226) (hC : blen C ≤ 226) (hp : pV f ≤ 112) (hE : E = min p q) :
    fmD f m (sI s * ((frmW A p (loF A p C q) : Nat) : Int) + sI t * ((frmW C q (loF A p C q) : Nat) : Int)) (loF A p C q) = fmD f m (sI s * ((A * 2 ^ (p - E).toNat : Nat) : Int) + sI t * ((C * 2 ^ (q - E).toNat : Nat) : Int)) E := by
  have fz : ∀ x l, frmW 0 x l = 0 := fun x l => by unfold frmW; rw [Nat.zero_mul, jr_zero]
  have za : ∀ y : Int, sI s * ((0 : Nat) : Int) + y = y := fun y => by rw [show ((0 : Nat) : Int) = 0 from rfl, Int.mul_zero, Int.zero_add]
  have zc : ∀ y : Int, y + sI t * ((0 : Nat) : Int) = y := fun y => by rw [show ((0 : Nat) : Int) = 0 from rfl, Int.mul_zero, Int.add_zero]
  obtain ⟨l, hl⟩ : ∃ l, loF A p C q = l := ⟨_, rfl⟩
  rw [hl]
  unfold loF at hl
  by_cases a0 : A = 0
  · rw [if_pos a0] at hl
    rw [a0, fz, Nat.zero_mul, za, za]
    by_cases c0 : C = 0
    · rw [c0, fz, Nat.zero_mul]
      have z0 : sI t * ((0 : Nat) : Int) = 0 := Int.mul_zero _
      unfold fmD
      rw [if_pos z0, if_pos z0]
    · rw [frw_up C q l (by omega), fmD_long f m t C _ l q c0 (by omega), fmD_long f m t C _ E q c0 (by omega)]
  rw [if_neg a0] at hl
  by_cases c0 : C = 0
  · rw [if_pos c0] at hl
    rw [c0, fz, Nat.zero_mul, zc, zc]
    rw [frw_up A p l (by omega), fmD_long f m s A _ l p a0 (by omega), fmD_long f m s A _ E p a0 (by omega)]
  rw [if_neg c0] at hl
  have la := blen_low A a0
  have lc := blen_low C c0
  have ua : A < 2 ^ 226 := (blen_iff A 226).1 hA
  have uc : C < 2 ^ 226 := (blen_iff C 226).1 hC
  have far : ∀ (s t : Bool) (A C : Nat) (p q : Int), blen A ≤ 226 → 0 < blen A → 2 ^ (blen A - 1) ≤ A → C < 2 ^ 226 → l = p + (blen A : Int) - 383 → q < l →
      fmD f m (sI s * ((frmW A p l : Nat) : Int) + sI t * ((frmW C q l : Nat) : Int)) l = fmD f m (sI s * ((A * 2 ^ (p - q).toNat : Nat) : Int) + sI t * ((C * 2 ^ (q - q).toNat : Nat) : Int)) q := fun s t A C p q h1 h2 h3 h4 h5 h6 => by
    rw [frw_up A p l (by omega), frw_down C q l (by omega), show (q - q).toNat = 0 by omega, Nat.pow_zero, Nat.mul_one, show (p - q).toNat = (p - l).toNat + (l - q).toNat by omega, Nat.pow_add, ← Nat.mul_assoc]
    refine fmD_far f m s t (A * 2 ^ (p - l).toNat) C (l - q).toNat l q ?_ ?_ h4 hp (by omega)
    · rw [show (p - l).toNat = (p - l).toNat - 1 + 1 by omega, Nat.pow_succ, ← Nat.mul_assoc, Nat.mul_mod_left]
    · have := Nat.mul_le_mul_right (2 ^ (p - l).toNat) h3
      obtain ⟨K, hK⟩ : ∃ K, K = 381 := ⟨_, rfl⟩
      rw [← Nat.pow_add, show blen A - 1 + (p - l).toNat = K + 1 by omega, Nat.pow_succ, hK] at this
      exact this
  by_cases c1 : l ≤ p
  · by_cases c2 : l ≤ q
    · rw [frw_up A p l c1, frw_up C q l c2]
      have := fmD_scale f m (sI s * ((A * 2 ^ (p - E).toNat : Nat) : Int) + sI t * ((C * 2 ^ (q - E).toNat : Nat) : Int)) E l (E - l).toNat (by omega)
      rw [← this, Int.add_mul, Int.mul_assoc, Int.mul_assoc, ← Int.natCast_mul, ← Int.natCast_mul, Nat.mul_assoc, Nat.mul_assoc, ← Nat.pow_add, ← Nat.pow_add, show (p - E).toNat + (E - l).toNat = (p - l).toNat by omega, show (q - E).toNat + (E - l).toNat = (q - l).toNat by omega]
    · rw [show E = q by omega]
      exact far s t A C p q hA (by omega) la.2.1 uc (by omega) (by omega)
  · rw [show E = p by omega, Int.add_comm, Int.add_comm (sI s * _)]
    exact far t s C A q p hC (by omega) lc.2.1 ua (by omega) (by omega)
def TotR (m : Int) (s t : Bool) (a c : Nat) (neg : Bool) (S : Nat) : Prop :=
  (s = t ∧ neg = s ∧ S = a + c) ∨ (s ≠ t ∧ c < a ∧ neg = s ∧ S = a - c) ∨ (s ≠ t ∧ a < c ∧ neg = t ∧ S = c - a) ∨ (s ≠ t ∧ a = c ∧ neg = decide (m = 2) ∧ S = 0)
theorem totR_some (m : Int) (s t : Bool) (a c : Nat) : ∃ neg S, TotR m s t a c neg S := by
  unfold TotR
  by_cases e : s = t
  · exact ⟨_, _, Or.inl ⟨e, rfl, rfl⟩⟩
  · rcases Nat.lt_trichotomy a c with h | h | h
    · exact ⟨_, _, Or.inr (Or.inr (Or.inl ⟨e, h, rfl, rfl⟩))⟩
    · exact ⟨_, _, Or.inr (Or.inr (Or.inr ⟨e, h, rfl, rfl⟩))⟩
    · exact ⟨_, _, Or.inr (Or.inl ⟨e, h, rfl, rfl⟩)⟩
theorem totR_D (f m : Int) (s t : Bool) (a c : Nat) (neg : Bool) (S : Nat) (L : Int) (h : TotR m s t a c neg S) (ns : S = 0 → s ≠ t) : fmD f m (sI s * (a : Int) + sI t * (c : Int)) L = (if S = 0 then (eZero f neg, 0) else dlv f m neg (L + (blen S : Int) - 1) (qW (pV f + 1) S) (qM (pV f + 1) S false)) := by
  have key : ∀ (b : Bool) (V : Int), V = sI b * (S : Int) → neg = b → S ≠ 0 → fmD f m V L = (if S = 0 then (eZero f neg, 0) else dlv f m neg (L + (blen S : Int) - 1) (qW (pV f + 1) S) (qM (pV f + 1) S false)) := fun b V hV hb S0 => by
    obtain ⟨t1, t2, t3⟩ := sI_sign b S S0
    unfold fmD
    rw [hV, if_neg t3, if_neg S0, t1, t2, hb]
  rcases h with ⟨e, n, hS⟩ | ⟨e, l, n, hS⟩ | ⟨e, l, n, hS⟩ | ⟨e, l, n, hS⟩
  · have S0 : S ≠ 0 := fun z => ns z e
    refine key s _ ?_ n S0
    rw [← e, hS, ← Int.mul_add, Int.natCast_add]
  · refine key s _ ?_ n (by omega)
    rw [sI_ne e, hS, Int.ofNat_sub (by omega), Int.neg_mul, Int.mul_sub]
    omega
  · refine key t _ ?_ n (by omega)
    rw [sI_ne (Ne.symm e), hS, Int.ofNat_sub (by omega), Int.neg_mul, Int.mul_sub]
    omega
  · rw [if_pos hS]
    unfold fmD
    rw [if_pos (by rw [sI_ne e, l, Int.neg_mul]; omega), n]
end Go.Proofs.YtapikkbifdldfaaGreatDoor
