/-
  Package kind: sign, exponent field and fraction of bits, classes, parts; what Pack puts together, and that there is one answer.
-/
import Derived.Test.YtkmlbjlaahcahaaDoorS1
namespace Go.Proofs.YtkmlbjlaahcahaaDoor
open Go.RowKit WMath

/-- The sign bit, the exponent field and the fraction of a number of bits. -/
def kN (f : Int) (n : Nat) : Bool := decide (n / 2 ^ wV f % 2 = 1)
def kE (f : Int) (n : Nat) : Nat := n / 2 ^ pV f % (oV f + 1)
def kT (f : Int) (n : Nat) : Nat := n % 2 ^ pV f
def kC (f : Int) (n : Nat) : Nat :=
  if kE f n = oV f then (if kT f n = 0 then (if kN f n then 0 else 7) else if 2 ^ (pV f - 1) ≤ kT f n then 9 else 8)
  else if kE f n ≠ 0 then (if kN f n then 1 else 6)
  else if kT f n ≠ 0 then (if kN f n then 2 else 5) else (if kN f n then 3 else 4)
def lx (f : Int) : Int := 1 - fE f - pV f
def kS (f : Int) (n : Nat) : Nat := if kC f n = 2 ∨ kC f n = 5 then kT f n else if kC f n = 1 ∨ kC f n = 6 then 2 ^ pV f + kT f n else 0
def kX (f : Int) (n : Nat) : Int := if kC f n = 2 ∨ kC f n = 5 then lx f else if kC f n = 1 ∨ kC f n = 6 then lx f + (kE f n : Int) - 1 else 0
def kF (f : Int) (n : Nat) : Nat := if kC f n = 8 ∨ kC f n = 9 then kT f n else 0
def Fit (f : Int) (n : Nat) : Prop := n < 2 * 2 ^ wV f
/-- What the numbers of a format are to each other. -/
theorem fm {f : Int} (h : Is4 f) : 2 ^ wV f = (oV f + 1) * 2 ^ pV f ∧ 2 ≤ pV f ∧ 2 ^ pV f = 2 * 2 ^ (pV f - 1) ∧ 2 ^ (pV f - 1) ≥ 2 ∧ 3 ≤ oV f ∧ oV f < 32768 ∧ 2 * 2 ^ wV f ≤ 340282366920938463463374607431768211456 := by
  rcases h with rfl | rfl | rfl | rfl <;> decide +kernel
theorem kT_lt {f : Int} (n : Nat) : kT f n < 2 ^ pV f := Nat.mod_lt _ (Nat.two_pow_pos _)
theorem kE_le {f : Int} (n : Nat) : kE f n ≤ oV f := Nat.le_of_lt_succ (Nat.mod_lt _ (Nat.succ_pos _))
theorem kC_lt (f : Int) (n : Nat) : kC f n < 10 := by unfold kC; repeat' split <;> first | decide | skip
/-- A number is put together out of its fields. -/
theorem k_enc {f : Int} (h : Is4 f) {n : Nat} (hn : Fit f n) : enc7 f (kN f n) (kE f n) (kT f n) = n := by
  unfold Fit at hn
  unfold enc7 kN kE kT
  rcases h with rfl | rfl | rfl | rfl
  all_goals
    simp only [show pV 0 = 23 by decide, show wV 0 = 31 by decide, show oV 0 = 255 by decide, show pV 1 = 52 by decide, show wV 1 = 63 by decide, show oV 1 = 2047 by decide, show pV 2 = 10 by decide, show wV 2 = 15 by decide, show oV 2 = 31 by decide, show pV 3 = 112 by decide, show wV 3 = 127 by decide, show oV 3 = 32767 by decide] at hn ⊢
    simp only [Nat.reducePow, Nat.reduceAdd, decide_eq_true_eq] at hn ⊢
    split <;> omega
theorem enc_k {f : Int} (h : Is4 f) (neg : Bool) {e t : Nat} (he : e ≤ oV f) (ht : t < 2 ^ pV f) : Fit f (enc7 f neg e t) ∧ kN f (enc7 f neg e t) = neg ∧ kE f (enc7 f neg e t) = e ∧ kT f (enc7 f neg e t) = t := by
  unfold Fit enc7 kN kE kT
  rcases h with rfl | rfl | rfl | rfl
  all_goals
    simp only [show pV 0 = 23 by decide, show wV 0 = 31 by decide, show oV 0 = 255 by decide, show pV 1 = 52 by decide, show wV 1 = 63 by decide, show oV 1 = 2047 by decide, show pV 2 = 10 by decide, show wV 2 = 15 by decide, show oV 2 = 31 by decide, show pV 3 = 112 by decide, show wV 3 = 127 by decide, show oV 3 = 32767 by decide] at he ht ⊢
    simp only [Nat.reducePow, Nat.reduceAdd] at ht ⊢
    cases neg
    · simp only [Bool.false_eq_true, if_false, decide_eq_false_iff_not]
      omega
    · simp only [if_true, decide_eq_true_eq]
      omega
theorem kC_cases {f : Int} (h : Is4 f) (neg : Bool) (e t : Nat) (he : e ≤ oV f) (ht : t < 2 ^ pV f) : kC f (enc7 f neg e t) = 
  (if e = oV f then (if t = 0 then (if neg then 0 else 7) else if 2 ^ (pV f - 1) ≤ t then 9 else 8)
  else if e ≠ 0 then (if neg then 1 else 6)
  else if t ≠ 0 then (if neg then 2 else 5) else (if neg then 3 else 4)) := by
  obtain ⟨_, a, b, c⟩ := enc_k h neg he ht
  unfold kC
  rw [a, b, c]
def kp (f : Int) (n : Nat) : Nat × Nat × Int × Nat := (kC f n, kS f n, kX f n, kF f n)
/-- The low bits alone tell the parts. -/
theorem k_low {f : Int} (h : Is4 f) (n : Nat) : kN f (n % (2 * 2 ^ wV f)) = kN f n ∧ kE f (n % (2 * 2 ^ wV f)) = kE f n ∧ kT f (n % (2 * 2 ^ wV f)) = kT f n := by
  unfold kN kE kT
  rcases h with rfl | rfl | rfl | rfl
  all_goals
    simp only [show pV 0 = 23 by decide, show wV 0 = 31 by decide, show oV 0 = 255 by decide, show pV 1 = 52 by decide, show wV 1 = 63 by decide, show oV 1 = 2047 by decide, show pV 2 = 10 by decide, show wV 2 = 15 by decide, show oV 2 = 31 by decide, show pV 3 = 112 by decide, show wV 3 = 127 by decide, show oV 3 = 32767 by decide]
    simp only [Nat.reducePow, Nat.reduceAdd, Nat.reduceMul, decide_eq_decide]
    omega
theorem kp_low {f : Int} (h : Is4 f) (n : Nat) : kp f (n % (2 * 2 ^ wV f)) = kp f n := by
  obtain ⟨a, b, c⟩ := k_low h n
  have e : kC f (n % (2 * 2 ^ wV f)) = kC f n := by unfold kC; rw [a, b, c]
  unfold kp kS kX kF
  rw [e, b, c]
theorem xor_two (a b : Nat) : (a ^^^ b) % 2 = (a + b) % 2 := by
  have := @Nat.xor_mod_two_eq_one a b
  omega
/-- One bit turned. -/
theorem xor_bit : ∀ (k a : Nat), a ^^^ 2 ^ k = if a / 2 ^ k % 2 = 1 then a - 2 ^ k else a + 2 ^ k
  | 0, a => by
    have h1 : (a ^^^ 1) / 2 = a / 2 := by rw [Nat.xor_div_two]; simp
    have h2 : (a ^^^ 1) % 2 = (a + 1) % 2 := by rw [xor_two]
    rw [Nat.pow_zero, Nat.div_one]
    split <;> omega
  | k + 1, a => by
    have ih := xor_bit k (a / 2)
    have h1 : (a ^^^ 2 ^ (k + 1)) / 2 = a / 2 ^^^ 2 ^ k := by rw [Nat.xor_div_two, Nat.pow_succ, Nat.mul_div_cancel _ (by decide)]
    have h2 : (a ^^^ 2 ^ (k + 1)) % 2 = a % 2 := by rw [xor_two, Nat.pow_succ]; omega
    have h3 : a / 2 / 2 ^ k = a / 2 ^ (k + 1) := by rw [Nat.div_div_eq_div_mul, Nat.pow_succ, Nat.mul_comm]
    rw [ih, h3] at h1
    have h4 : a / 2 ^ (k + 1) % 2 = 1 → 2 ^ k ≤ a / 2 := fun h => by
      rw [← h3] at h
      by_cases c : 2 ^ k ≤ a / 2
      · exact c
      · rw [Nat.div_eq_of_lt (by omega)] at h; exact absurd h (by decide)
    rw [Nat.pow_succ] at h1 h2 h4 ⊢
    split at h1
    · rename_i c
      have := h4 c
      rw [if_pos c]; omega
    · rename_i c
      rw [if_neg c]; omega
/-- The sign bit turned. -/
def sgB (f : Int) (n : Nat) (neg : Bool) : Nat := if neg then n ^^^ 2 ^ wV f else n
theorem sgB_low {f : Int} {n : Nat} (hn : n < 2 ^ wV f) (neg : Bool) : sgB f n neg = n + (if neg then 2 ^ wV f else 0) := by
  unfold sgB
  cases neg
  · rfl
  · rw [if_pos rfl, xor_bit, Nat.div_eq_of_lt hn, if_neg (by decide), if_pos rfl]
theorem flip_enc {f : Int} (h : Is4 f) (neg : Bool) {e t : Nat} (he : e ≤ oV f) (ht : t < 2 ^ pV f) : enc7 f neg e t ^^^ 2 ^ wV f = enc7 f (!neg) e t := by
  obtain ⟨f1, f2, f3, f4, f5, f6, f7⟩ := fm h
  have h0 : e * 2 ^ pV f + t < 2 ^ wV f := by
    rw [f1]
    have := Nat.mul_le_mul_right (2 ^ pV f) he
    rw [Nat.add_mul]; omega
  have h1 := sgB_low (f := f) h0 true
  unfold sgB at h1
  rw [if_pos rfl, if_pos rfl] at h1
  unfold enc7
  cases neg
  · exact h1
  · rw [if_pos rfl, ← h1, Nat.xor_assoc, Nat.xor_self, Nat.xor_zero]; rfl
/-- What Pack puts together: the program's way. -/
def toB (s : Nat) : Nat := if s < 340282366920938463463374607431768211456 then s else 0
def plN (f : Int) (u : Nat) : Nat := u * 2 ^ pV f % (if f = 3 then 340282366920938463463374607431768211456 else 18446744073709551616)
def u64w (x : Int) : Nat := (x % 18446744073709551616).toNat
def fb (f : Int) (s : Nat) (x : Int) : Nat := (plN f (u64w (x - lx f)) + toB s) % 340282366920938463463374607431768211456
def eb (f : Int) (r : Nat) : Nat := (eInf f false + toB r) % 340282366920938463463374607431768211456
def mg (f : Int) (c s : Nat) (x : Int) (r : Nat) : Nat := if c = 3 ∨ c = 4 then 0 else if c = 1 ∨ c = 2 ∨ c = 5 ∨ c = 6 then fb f s x else eb f r
def gP (f : Int) (p : Nat × Nat × Int × Nat) : Nat := sgB f (mg f p.1 p.2.1 p.2.2.1 p.2.2.2) (decide (p.1 ≤ 3))
theorem fb_is {f : Int} (h : Is4 f) (k s : Nat) (hk : k ≤ oV f) (hs : k * 2 ^ pV f + s < 2 ^ wV f) : fb f s (lx f + k) = k * 2 ^ pV f + s := by
  obtain ⟨f1, f2, f3, f4, f5, f6, f7⟩ := fm h
  have e1 : u64w (lx f + k - lx f) = k := by
    unfold u64w
    rw [show lx f + (k : Int) - lx f = k by omega]
    omega
  have e2 : toB s = s := by unfold toB; rw [if_pos (by omega)]
  have e3 : plN f k = k * 2 ^ pV f := by
    unfold plN
    refine Nat.mod_eq_of_lt ?_
    have h2 : k * 2 ^ pV f < 2 ^ wV f := by omega
    have h3 : 2 ^ wV f ≤ (if f = 3 then 340282366920938463463374607431768211456 else 18446744073709551616) := by
      rcases h with rfl | rfl | rfl | rfl <;> decide +kernel
    omega
  unfold fb
  rw [e1, e2, e3, Nat.mod_eq_of_lt (by omega)]
theorem eb_is {f : Int} (h : Is4 f) (t : Nat) (ht : t < 2 ^ pV f) : eb f t = oV f * 2 ^ pV f + t := by
  obtain ⟨f1, f2, f3, f4, f5, f6, f7⟩ := fm h
  have e2 : toB t = t := by unfold toB; rw [if_pos (by rw [f1, Nat.add_mul] at f7; omega)]
  unfold eb eInf enc7
  rw [e2]
  rw [f1, Nat.add_mul] at f7
  simp only [Bool.false_eq_true, if_false, Nat.add_zero]
  exact Nat.mod_eq_of_lt (by omega)
/-- Of the parts of an encoding that encoding is put together, but for a NaN's sign. -/
theorem gP_kp {f : Int} (h : Is4 f) (neg : Bool) (e t : Nat) (he : e ≤ oV f) (ht : t < 2 ^ pV f) : gP f (kp f (enc7 f neg e t)) = (if 8 ≤ kC f (enc7 f neg e t) then enc7 f false e t else enc7 f neg e t) := by
  obtain ⟨f1, f2, f3, f4, f5, f6, f7⟩ := fm h
  obtain ⟨_, a, b, c⟩ := enc_k h neg he ht
  have hC := kC_cases h neg e t he ht
  have h0 : e * 2 ^ pV f + t < 2 ^ wV f := by
    rw [f1]
    have := Nat.mul_le_mul_right (2 ^ pV f) he
    rw [Nat.add_mul]; omega
  obtain ⟨C, hc⟩ : ∃ C, kC f (enc7 f neg e t) = C := ⟨_, rfl⟩
  have key : ∀ m, mg f C (kS f (enc7 f neg e t)) (kX f (enc7 f neg e t)) (kF f (enc7 f neg e t)) = m → m = e * 2 ^ pV f + t → (C < 8 → decide (C ≤ 3) = neg) → gP f (kp f (enc7 f neg e t)) = (if 8 ≤ C then enc7 f false e t else enc7 f neg e t) := by
    intro m h1 h2 h3
    unfold gP kp
    simp only []
    rw [hc, h1, h2, sgB_low h0]
    unfold enc7
    by_cases h8 : 8 ≤ C
    · rw [if_pos h8, decide_eq_false (by omega)]
    · rw [if_neg h8, h3 (by omega)]
  rw [hc]
  unfold mg kS kX kF at key
  rw [hc, b, c] at key
  rw [hc] at hC
  by_cases c1 : e = oV f
  · rw [if_pos c1] at hC
    by_cases c2 : t = 0
    · rw [if_pos c2] at hC
      refine key (eb f 0) ?_ ?_ ?_
      · cases neg <;> (simp only [Bool.false_eq_true, if_false, if_true] at hC; subst hC; rfl)
      · rw [eb_is h 0 (Nat.two_pow_pos _), c1, c2]
      · cases neg <;> (simp only [Bool.false_eq_true, if_false, if_true] at hC; subst hC; intro _; rfl)
    · rw [if_neg c2] at hC
      refine key (eb f t) ?_ ?_ ?_
      · split at hC <;> (subst hC; rfl)
      · rw [eb_is h t ht, c1]
      · split at hC <;> (subst hC; intro h; exact absurd h (by decide))
  · rw [if_neg c1] at hC
    by_cases c2 : e = 0
    · rw [if_neg (by simpa using c2)] at hC
      by_cases c3 : t = 0
      · rw [if_neg (by simpa using c3)] at hC
        refine key 0 ?_ ?_ ?_
        · cases neg <;> (simp only [Bool.false_eq_true, if_false, if_true] at hC; subst hC; rfl)
        · rw [c2, c3]; simp
        · cases neg <;> (simp only [Bool.false_eq_true, if_false, if_true] at hC; subst hC; intro _; rfl)
      · rw [if_pos (by simpa using c3)] at hC
        refine key (fb f t (lx f)) ?_ ?_ ?_
        · cases neg <;> (simp only [Bool.false_eq_true, if_false, if_true] at hC; subst hC; rfl)
        · have := fb_is h 0 t (by omega) (by omega)
          rw [c2]
          simpa using this
        · cases neg <;> (simp only [Bool.false_eq_true, if_false, if_true] at hC; subst hC; intro _; rfl)
    · rw [if_pos (by simpa using c2)] at hC
      refine key (fb f (2 ^ pV f + t) (lx f + (e : Int) - 1)) ?_ ?_ ?_
      · cases neg <;> (simp only [Bool.false_eq_true, if_false, if_true] at hC; subst hC; rfl)
      · obtain ⟨g, rfl⟩ : ∃ g, e = g + 1 := ⟨e - 1, by omega⟩
        have e1 : (g + 1) * 2 ^ pV f + t = g * 2 ^ pV f + (2 ^ pV f + t) := by rw [Nat.add_mul]; omega
        rw [e1] at h0 ⊢
        have := fb_is h g (2 ^ pV f + t) (by omega) h0
        rw [← this]
        congr 1
        omega
      · cases neg <;> (simp only [Bool.false_eq_true, if_false, if_true] at hC; subst hC; intro _; rfl)
/-- What Pack answers. -/
def pk (f : Int) (p : Nat × Nat × Int × Nat) : Nat × Int := if kp f (gP f p) = p then (gP f p, 0) else (0, 80)
/-- Its encoding, if it is one: an encoding of these parts, a NaN without a sign. -/
theorem pk_yes {f : Int} (h : Is4 f) {p : Nat × Nat × Int × Nat} (hp : kp f (gP f p) = p) : Fit f (gP f p) ∧ (8 ≤ p.1 → kN f (gP f p) = false) := by
  obtain ⟨m, hm⟩ : ∃ m, gP f p % (2 * 2 ^ wV f) = m := ⟨_, rfl⟩
  have h1 : kp f m = p := by rw [← hm, kp_low h, hp]
  have h2 : Fit f m := by unfold Fit; rw [← hm]; exact Nat.mod_lt _ (by have := Nat.two_pow_pos (wV f); omega)
  have h3 := gP_kp h (kN f m) (kE f m) (kT f m) (kE_le m) (kT_lt m)
  rw [k_enc h h2, h1] at h3
  have h4 : kC f m = p.1 := by rw [← h1]; rfl
  rw [h4] at h3
  by_cases h8 : 8 ≤ p.1
  · rw [if_pos h8] at h3
    obtain ⟨a, b, _⟩ := enc_k h false (kE_le (f := f) m) (kT_lt m)
    rw [h3]
    exact ⟨a, fun _ => b⟩
  · rw [if_neg h8] at h3
    rw [h3]
    exact ⟨h2, fun h => absurd h h8⟩
/-- There is one answer: whatever puts encodings together rightly gives it. -/
theorem pk_of {f : Int} (h : Is4 f) {p : Nat × Nat × Int × Nat} {n : Nat} (hn : Fit f n) (hp : kp f n = p) (hz : 8 ≤ p.1 → kN f n = false) : pk f p = (n, 0) := by
  have h3 := gP_kp h (kN f n) (kE f n) (kT f n) (kE_le n) (kT_lt n)
  rw [k_enc h hn, hp] at h3
  have h4 : kC f n = p.1 := by rw [← hp]; rfl
  rw [h4] at h3
  have h5 : gP f p = n := by
    by_cases h8 : 8 ≤ p.1
    · have e := k_enc h hn
      rw [hz h8] at e
      rw [if_pos h8, e] at h3; exact h3
    · rw [if_neg h8] at h3; exact h3
  unfold pk
  rw [h5, if_pos hp]
theorem pk_none {f : Int} (h : Is4 f) {p : Nat × Nat × Int × Nat} (hp : ∀ n, Fit f n → kp f n = p → False) : pk f p = (0, 80) := by
  unfold pk
  rw [if_neg]
  intro k
  exact hp _ (pk_yes h k).1 k
end Go.Proofs.YtkmlbjlaahcahaaDoor
