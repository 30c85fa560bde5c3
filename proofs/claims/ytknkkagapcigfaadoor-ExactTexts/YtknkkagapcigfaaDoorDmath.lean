/-
  Long division by words: the guess at a digit is never too low, and what was taken too often is given back.
-/
import Derived.Test.YtknkkagapcigfaaDoorMx
namespace Go.Proofs.YtknkkagapcigfaaDoor.WMath

/-- The guess at a digit, out of the highest words. -/
def gs (hi lo top : Nat) : Nat := if hi < top then (hi * 18446744073709551616 + lo) / top else 18446744073709551615
theorem gs_lt (hi lo top : Nat) (hl : lo < 18446744073709551616) : gs hi lo top < 18446744073709551616 := by
  unfold gs
  split
  · rename_i h
    apply Nat.div_lt_of_lt_mul
    have : (hi + 1) * 18446744073709551616 ≤ top * 18446744073709551616 := Nat.mul_le_mul_right _ h
    omega
  · omega
theorem div_top (V m : Nat) (hV : V < 2 ^ (64 * (m + 1))) : V / 2 ^ (64 * m) = wd V m := by
  unfold wd
  rw [Nat.mod_eq_of_lt]
  apply Nat.div_lt_of_lt_mul
  rw [← pow64]
  exact hV
theorem div_top2 (V m : Nat) (hV : V < 2 ^ (64 * (m + 2))) : V / 2 ^ (64 * m) = wd V (m + 1) * 18446744073709551616 + wd V m := by
  have h1 := div_top V (m + 1) hV
  rw [pow64, ← Nat.div_div_eq_div_mul] at h1
  have h2 : wd V m = V / 2 ^ (64 * m) % 18446744073709551616 := rfl
  omega
theorem gs_ge (V b m hi lo top : Nat) (hV : V < 2 ^ (64 * (m + 2))) (hb : b < 2 ^ (64 * (m + 1))) (hlt : V < 18446744073709551616 * b) (h1 : wd V (m + 1) = hi) (h2 : wd V m = lo) (h3 : wd b m = top) : V / b ≤ gs hi lo top := by
  unfold gs
  split
  · rename_i h
    have e1 := div_top2 V m hV
    have e2 := div_top b m hb
    rw [h1, h2] at e1
    rw [h3] at e2
    rw [← e1]
    have htop : 0 < top := by omega
    rw [Nat.le_div_iff_mul_le htop, Nat.le_div_iff_mul_le (Nat.two_pow_pos _)]
    have h4 : top * 2 ^ (64 * m) ≤ b := by rw [← e2]; exact Nat.div_mul_le_self _ _
    have h5 : V / b * (top * 2 ^ (64 * m)) ≤ V / b * b := Nat.mul_le_mul_left _ h4
    have h6 : V / b * b ≤ V := Nat.div_mul_le_self _ _
    rw [Nat.mul_assoc]
    omega
  · have hb0 : 0 < b := by
      by_cases e : b = 0
      · rw [e] at hlt; omega
      · omega
    have : V / b < 18446744073709551616 := Nat.div_lt_of_lt_mul (by rw [Nat.mul_comm]; exact hlt)
    omega

/-- What a digit's rounds keep: t times b were taken. -/
def DigSt (V b P t S : Nat) (u : Bool) : Prop := V / b ≤ t ∧ S + t * b = V + P * u.toNat ∧ S < P
theorem digSt_end {V b P t S : Nat} (h : DigSt V b P t S false) (hb : 0 < b) : t = V / b ∧ S = V % b := by
  obtain ⟨h1, h2, _⟩ := h
  rw [Bool.toNat_false, Nat.mul_zero, Nat.add_zero] at h2
  have h3 : t ≤ V / b := (Nat.le_div_iff_mul_le hb).2 (by omega)
  have e : t = V / b := by omega
  refine ⟨e, ?_⟩
  have := Nat.div_add_mod V b
  rw [← e, Nat.mul_comm] at this
  omega
theorem digSt_start (V b P t S : Nat) (u : Bool) (h1 : V / b ≤ t) (h2 : S + b * t = V + P * u.toNat) (h3 : S < P) : DigSt V b P t S u := ⟨h1, by rw [Nat.mul_comm t b]; exact h2, h3⟩
theorem digSt_next {V b P t S : Nat} (h : DigSt V b P t S true) (hb : 0 < b) (hbP : b < P) : 0 < t ∧ DigSt V b P (t - 1) ((S + b * 1) % P) (!decide (P ≤ S + b * 1)) := by
  obtain ⟨h1, h2, h3⟩ := h
  rw [Bool.toNat_true, Nat.mul_one] at h2
  have ht : V < t * b := by omega
  have h4 : V / b < t := (Nat.div_lt_iff_lt_mul hb).2 ht
  have t0 : 0 < t := Nat.pos_of_ne_zero (fun e => by rw [e, Nat.zero_mul] at ht; omega)
  have h6 : V / b ≤ t - 1 := Nat.le_sub_one_of_lt h4
  clear h1 h4
  have h5 : (t - 1) * b + b = t * b := by
    have : t - 1 + 1 = t := by omega
    rw [← Nat.succ_mul, Nat.succ_eq_add_one, this]
  refine ⟨t0, h6, ?_, Nat.mod_lt _ (by omega)⟩
  rw [Nat.mul_one]
  by_cases e : P ≤ S + b
  · rw [decide_eq_true e, Nat.mod_eq_sub_mod e, Nat.mod_eq_of_lt (by omega)]
    simp only [Bool.not_true, Bool.toNat_false]
    omega
  · rw [decide_eq_false e, Nat.mod_eq_of_lt (by omega)]
    simp only [Bool.not_false, Bool.toNat_true]
    omega

/-- What long division keeps: what is left below b times a power, and the digits so far. -/
def LdSt (A b i X q : Nat) : Prop := X < b * 2 ^ (64 * i) ∧ X + b * q = A ∧ q % 2 ^ (64 * i) = 0
theorem ldSt_next {A b i X q M V : Nat} (h : LdSt A b (i + 1) X q) (hb : b < 2 ^ (64 * M)) (hb0 : 0 < b) (hV : vw X i (M + 1) = V) :
    V < 18446744073709551616 * b ∧ V / b < 18446744073709551616 ∧ LdSt A b i (putw X i (M + 1) (V % b)) (q + 2 ^ (64 * i) * (V / b)) := by
  obtain ⟨h1, h2, h3⟩ := h
  have hX : X < 2 ^ (64 * (i + (M + 1))) := by
    have e : b * 2 ^ (64 * (i + 1)) ≤ 2 ^ (64 * M) * 2 ^ (64 * (i + 1)) := Nat.mul_le_mul_right _ (Nat.le_of_lt hb)
    rw [← Nat.pow_add, show 64 * M + 64 * (i + 1) = 64 * (i + (M + 1)) by omega] at e
    omega
  have eV : V = X / 2 ^ (64 * i) := by rw [← hV]; exact vw_top X i (M + 1) hX
  have hVb : V < 18446744073709551616 * b := by
    rw [eV]
    apply Nat.div_lt_of_lt_mul
    rw [pow64] at h1
    rw [← Nat.mul_assoc, Nat.mul_comm _ b]
    exact h1
  have hq : V / b < 18446744073709551616 := Nat.div_lt_of_lt_mul (by rw [Nat.mul_comm]; exact hVb)
  refine ⟨hVb, hq, ?_⟩
  rw [putw_top X i (M + 1) _ hX]
  have d1 := Nat.div_add_mod X (2 ^ (64 * i))
  have d2 := Nat.div_add_mod V b
  have d3 := Nat.mod_lt X (Nat.two_pow_pos (64 * i))
  have d4 := Nat.mod_lt V hb0
  rw [← eV] at d1
  have d5 : 2 ^ (64 * i) * V = 2 ^ (64 * i) * (b * (V / b)) + 2 ^ (64 * i) * (V % b) := by rw [← Nat.mul_add, d2]
  have d6 : 2 ^ (64 * i) * (b * (V / b)) = b * (2 ^ (64 * i) * (V / b)) := by rw [Nat.mul_left_comm]
  have d7 : 2 ^ (64 * i) * (V % b + 1) ≤ 2 ^ (64 * i) * b := Nat.mul_le_mul_left _ d4
  rw [Nat.mul_add, Nat.mul_one] at d7
  refine ⟨by rw [Nat.mul_comm b]; omega, by rw [Nat.mul_add]; omega, ?_⟩
  rw [Nat.add_mul_mod_self_left]
  rw [pow64] at h3
  have h4 := Nat.mod_mod_of_dvd q (Nat.dvd_mul_right (2 ^ (64 * i)) 18446744073709551616)
  rw [h3, Nat.zero_mod] at h4
  exact h4.symm
theorem ldSt_end {A b X q : Nat} (h : LdSt A b 0 X q) (hb : 0 < b) : q = A / b ∧ X = A % b := by
  obtain ⟨h1, h2, _⟩ := h
  rw [Nat.mul_zero, Nat.pow_zero, Nat.mul_one] at h1
  have e : q = A / b := by
    apply Nat.le_antisymm
    · rw [Nat.le_div_iff_mul_le hb, Nat.mul_comm]; omega
    · have : A / b < q + 1 := by
        rw [Nat.div_lt_iff_lt_mul hb, Nat.add_mul, Nat.mul_comm q b]
        omega
      omega
  refine ⟨e, ?_⟩
  have := Nat.div_add_mod A b
  rw [← e] at this
  omega
/-- The start: as many digits as the lengths leave. -/
theorem ldSt_start (a b n L M K : Nat) (ha : a < 2 ^ (64 * L)) (hb : 2 ^ (64 * M - 1) ≤ b * 2 ^ n) (hb2 : 2 ^ (64 * (M - 1)) ≤ b) (hM : 0 < M) (hn : n < 64) (hK : K = L + 1 - M) : LdSt (a * 2 ^ n) (b * 2 ^ n) K (a * 2 ^ n) 0 := by
  refine ⟨?_, by omega, Nat.zero_mod _⟩
  by_cases h : M ≤ L
  · have h1 : a * 2 ^ n < 2 ^ (64 * L) * 2 ^ n := Nat.mul_lt_mul_of_pos_right ha (Nat.two_pow_pos _)
    have h2 : 2 ^ (64 * M - 1) * 2 ^ (64 * K) ≤ b * 2 ^ n * 2 ^ (64 * K) := Nat.mul_le_mul_right _ hb
    rw [← Nat.pow_add] at h1 h2
    have h3 : 2 ^ (64 * L + n) ≤ 2 ^ (64 * M - 1 + 64 * K) := Nat.pow_le_pow_right (by decide) (by omega)
    omega
  · have hK0 : K = 0 := by omega
    rw [hK0, Nat.mul_zero, Nat.pow_zero, Nat.mul_one]
    apply Nat.mul_lt_mul_of_pos_right _ (Nat.two_pow_pos _)
    have h3 : 2 ^ (64 * L) ≤ 2 ^ (64 * (M - 1)) := pow64_le _ _ (by omega)
    omega
end Go.Proofs.YtknkkagapcigfaaDoor.WMath
