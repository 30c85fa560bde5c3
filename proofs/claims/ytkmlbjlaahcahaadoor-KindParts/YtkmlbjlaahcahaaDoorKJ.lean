/-
  What the document's Pack puts together of parts is what the program's does; the document's Unpack.
-/
import Derived.Test.YtkmlbjlaahcahaaDoorKI
import Derived.Test.YtkmlbjlaahcahaaDoorKH
namespace Go.Proofs.YtkmlbjlaahcahaaDoor
open Go.RowKit WMath
set_option linter.unusedSimpArgs false
set_option linter.unusedVariables false

/-- What the document's Pack puts together, or that it refuses at once. -/
def cand (f : Int) (c s : Nat) (X : Int) (r : Nat) : Option Nat :=
  if c = 0 then some (eInf f true) else if c = 7 then some (eInf f false) else if c = 3 then some (eZero f true) else if c = 4 then some (eZero f false)
  else if c = 8 ∨ c = 9 then (if r < 2 ^ pV f then some (enc7 f false (oV f) r) else none)
  else if c = 2 ∨ c = 5 then (if s < 2 ^ pV f then some (enc7 f (decide (c = 2)) 0 s) else none)
  else if c = 1 ∨ c = 6 then (if (2 ^ pV f ≤ s ∧ s < 2 * 2 ^ pV f) ∧ lx f ≤ X ∧ X ≤ fE f - (pV f : Int) then some (enc7 f (decide (c = 1)) (X - lx f + 1).toNat (s % 2 ^ pV f)) else none)
  else none
theorem nm {f : Int} (hf : Is4 f) : fE f - (pV f : Int) - lx f + 1 = ((oV f - 1 : Nat) : Int) ∧ 1 ≤ oV f := by
  rcases hf with rfl | rfl | rfl | rfl <;> decide +kernel
theorem cand_fit {f : Int} (hf : Is4 f) {c s : Nat} {X : Int} {r N : Nat} (h : cand f c s X r = some N) : Fit f N ∧ (8 ≤ c → kN f N = false) := by
  obtain ⟨g1, g2, g3, g4, g5, g6, g7⟩ := fm hf
  obtain ⟨n1, n2⟩ := nm hf
  have hz := Nat.two_pow_pos (pV f)
  unfold cand at h
  split at h
  · injection h with h; subst h; exact ⟨(enc_k hf true (Nat.le_refl _) hz).1, fun k => by omega⟩
  split at h
  · injection h with h; subst h; exact ⟨(enc_k hf false (Nat.le_refl _) hz).1, fun k => by omega⟩
  split at h
  · injection h with h; subst h; exact ⟨(enc_k hf true (Nat.zero_le _) hz).1, fun k => by omega⟩
  split at h
  · injection h with h; subst h; exact ⟨(enc_k hf false (Nat.zero_le _) hz).1, fun k => by omega⟩
  split at h
  · split at h
    · rename_i hr
      injection h with h; subst h
      have := enc_k hf false (Nat.le_refl (oV f)) hr
      exact ⟨this.1, fun _ => this.2.1⟩
    · cases h
  split at h
  · split at h
    · rename_i hr
      injection h with h; subst h
      exact ⟨(enc_k hf _ (Nat.zero_le _) hr).1, fun k => by omega⟩
    · cases h
  split at h
  · split at h
    · rename_i hr
      injection h with h; subst h
      exact ⟨(enc_k hf _ (by omega) (Nat.mod_lt _ hz)).1, fun k => by omega⟩
    · cases h
  · cases h
theorem cand_kp {f : Int} (hf : Is4 f) (neg : Bool) {e t : Nat} (he : e ≤ oV f) (ht : t < 2 ^ pV f) :
    cand f (kC f (enc7 f neg e t)) (kS f (enc7 f neg e t)) (kX f (enc7 f neg e t)) (kF f (enc7 f neg e t)) = some (if 8 ≤ kC f (enc7 f neg e t) then enc7 f false e t else enc7 f neg e t) := by
  obtain ⟨g1, g2, g3, g4, g5, g6, g7⟩ := fm hf
  obtain ⟨n1, n2⟩ := nm hf
  obtain ⟨_, a, b, c⟩ := enc_k hf neg he ht
  have hC := kC_cases hf neg e t he ht
  obtain ⟨C, hc⟩ : ∃ C, kC f (enc7 f neg e t) = C := ⟨_, rfl⟩
  unfold kS kX kF
  rw [hc] at hC
  rw [b, c, hc]
  by_cases c1 : e = oV f
  · rw [if_pos c1] at hC
    by_cases c2 : t = 0
    · rw [if_pos c2] at hC
      subst c1 c2
      cases neg <;> (simp only [Bool.false_eq_true, if_false, if_true] at hC; subst hC; rfl)
    · rw [if_neg c2] at hC
      subst c1
      have ht2 : t < 2 ^ pV f := ht
      split at hC
      · subst hC; simp [cand, ht2]
      · subst hC; simp [cand, ht2]
  · rw [if_neg c1] at hC
    by_cases c2 : e = 0
    · rw [if_neg (by simpa using c2)] at hC
      subst c2
      by_cases c3 : t = 0
      · rw [if_neg (by simpa using c3)] at hC
        subst c3
        cases neg <;> (simp only [Bool.false_eq_true, if_false, if_true] at hC; subst hC; rfl)
      · rw [if_pos (by simpa using c3)] at hC
        cases neg <;> (simp only [Bool.false_eq_true, if_false, if_true] at hC; subst hC; simp [cand, ht])
    · rw [if_pos (by simpa using c2)] at hC
      have k1 : (2 ^ pV f ≤ 2 ^ pV f + t ∧ 2 ^ pV f + t < 2 * 2 ^ pV f) ∧ lx f ≤ lx f + (e : Int) - 1 ∧ lx f + (e : Int) - 1 ≤ fE f - (pV f : Int) := by omega
      have k2 : (lx f + (e : Int) - 1 - lx f + 1).toNat = e := by omega
      have k3 : (2 ^ pV f + t) % 2 ^ pV f = t := by rw [Nat.add_mod_left, Nat.mod_eq_of_lt ht]
      cases neg
      · simp only [Bool.false_eq_true, if_false] at hC
        subst hC
        unfold cand
        rw [if_neg (by decide), if_neg (by decide), if_neg (by decide), if_neg (by decide), if_neg (by decide), if_neg (by decide), if_pos (by decide)]
        simp only [show ¬ ((6 : Nat) = 2 ∨ (6 : Nat) = 5) by decide, show ((6 : Nat) = 1 ∨ (6 : Nat) = 6) by decide, or_true, true_or, if_true, if_false]
        rw [if_pos k1, k2, k3]
        rfl
      · simp only [if_true] at hC
        subst hC
        unfold cand
        rw [if_neg (by decide), if_neg (by decide), if_neg (by decide), if_neg (by decide), if_neg (by decide), if_neg (by decide), if_pos (by decide)]
        simp only [show ¬ ((1 : Nat) = 2 ∨ (1 : Nat) = 5) by decide, show ((1 : Nat) = 1 ∨ (1 : Nat) = 6) by decide, or_true, true_or, if_true, if_false]
        rw [if_pos k1, k2, k3]
        rfl
/-- A NaN's parts are those without its sign. -/
theorem kp_nan {f : Int} (hf : Is4 f) (neg : Bool) {e t : Nat} (he : e ≤ oV f) (ht : t < 2 ^ pV f) (h8 : 8 ≤ kC f (enc7 f neg e t)) : kp f (enc7 f false e t) = kp f (enc7 f neg e t) := by
  obtain ⟨_, a, b, c⟩ := enc_k hf neg he ht
  obtain ⟨_, a', b', c'⟩ := enc_k hf false he ht
  have hC := kC_cases hf neg e t he ht
  have hC' := kC_cases hf false e t he ht
  have e1 : kC f (enc7 f false e t) = kC f (enc7 f neg e t) := by
    rw [hC] at h8 ⊢
    rw [hC']
    cases neg
    · rfl
    · simp only [if_true] at h8 ⊢
      split
      · rename_i q1
        rw [if_pos q1] at h8
        split
        · rename_i q2
          rw [if_pos q2] at h8; omega
        · rfl
      · rename_i q1
        rw [if_neg q1] at h8
        split at h8
        · omega
        · split at h8 <;> omega
  unfold kp kS kX kF
  rw [e1, b, c, b', c']
theorem cand_pk {f : Int} (hf : Is4 f) (c s : Nat) (X : Int) (r : Nat) : pk f (c, s, X, r) = match cand f c s X r with | none => (0, 80) | some N => if kp f N = (c, s, X, r) then (N, 0) else (0, 80) := by
  have key : ∀ n, Fit f n → kp f n = (c, s, X, r) → ∃ N, cand f c s X r = some N ∧ kp f N = (c, s, X, r) := by
    intro n hn hp
    have h := cand_kp hf (kN f n) (kE_le (f := f) n) (kT_lt n)
    rw [k_enc hf hn] at h
    have hq := hp
    unfold kp at hq
    injection hq with q1 q2
    injection q2 with q2 q3
    injection q3 with q3 q4
    rw [q1, q2, q3, q4] at h
    refine ⟨_, h, ?_⟩
    by_cases h8 : 8 ≤ c
    · rw [if_pos h8]
      have := kp_nan hf (kN f n) (kE_le (f := f) n) (kT_lt n) (by rw [k_enc hf hn, q1]; exact h8)
      rw [this, k_enc hf hn]; exact hp
    · rw [if_neg h8]; exact hp
  cases hc : cand f c s X r with
  | none =>
    refine pk_none hf ?_
    intro n hn hp
    obtain ⟨N, h1, _⟩ := key n hn hp
    rw [hc] at h1
    cases h1
  | some N =>
    obtain ⟨fN, sN⟩ := cand_fit hf hc
    simp only []
    by_cases h : kp f N = (c, s, X, r)
    · rw [if_pos h]
      exact pk_of hf fN h sN
    · rw [if_neg h]
      refine pk_none hf ?_
      intro n hn hp
      obtain ⟨N', h1, h2⟩ := key n hn hp
      rw [hc] at h1
      injection h1 with h1
      subst h1
      exact h h2
end Go.Proofs.YtkmlbjlaahcahaaDoor
