/-
  What the functions that the statement reaches return: part 6 (V1, V2, V3, Door2, X1, V4, K2, K3, K4, K5).
-/
import Derived.Lib.MinMax
import Derived.Test.YtkmlbjlaahcahaaGreatDoorNa05
namespace Go.Proofs.YtkmlbjlaahcahaaGreatDoor
set_option maxRecDepth 100000
open Go.RowKit WMath XMath
set_option linter.unusedSimpArgs false
set_option linter.unusedVariables false

theorem blen_low (n : Nat) (h : n ≠ 0) : 1 ≤ blen n ∧ 2 ^ (blen n - 1) ≤ n ∧ n < 2 ^ blen n := by
  have h1 := blen_iff n (blen n - 1)
  have h2 := (blen_iff n (blen n)).1 (Nat.le_refl _)
  have h3 := blen_iff n 0
  have h4 : 1 ≤ blen n := by
    rcases Nat.eq_zero_or_pos (blen n) with e | e
    · have := h3.1 (by omega)
      rw [Nat.pow_zero] at this
      omega
    · exact e
  exact ⟨h4, by omega, h2⟩
theorem blen_one : blen 1 = 1 := by decide
theorem top_whole (b : Bool) (n : Nat) (e : Int) (h : n ≠ 0) : topX ⟨b, n, 1, e⟩ = (blen n : Int) - 1 + e := by
  obtain ⟨h1, h2, h3⟩ := blen_low n h
  unfold topX tA tB lenD
  simp only [blen_one]
  have e1 : (max (-((blen n : Int) - ((1 : Nat) : Int))) 0).toNat = 0 := by omega
  have e2 : (max ((blen n : Int) - ((1 : Nat) : Int)) 0).toNat = blen n - 1 := by omega
  rw [e1, e2, Nat.pow_zero, Nat.mul_one, Nat.one_mul, if_neg (by omega)]
  omega
/-- What the program's Of answers. -/
def ofA (f : Int) (x : XN) : Int := max (topX x) (1 - fE f) - (pV f : Int)
def ofX (f : Int) (x : XN) : Nat × Bool :=
  if x.n = 0 then (0, true)
  else if fE f < topX x then (0, false)
  else if (flX x (ofA f x)).1.2 = true then (sgB f (fb f (flX x (ofA f x)).1.1 (ofA f x)) x.b, true) else (0, false)
/-- A number is whole at a place just if it has no denominator and its exponent is no lesser. -/
theorem fl_no (x : XN) (a : Int) (hx : x.can) (n0 : x.n ≠ 0) (h : x.d ≠ 1 ∨ x.e < a) : (flX x a).1.2 = false := by
  have ho := hx.odd n0
  unfold flX
  split
  · rfl
  try rw [if_neg n0]
  split
  · rename_i hae
    have hd : x.d ≠ 1 := by omega
    split
    · simp only [decide_eq_false_iff_not]
      intro hm
      have h1 : x.d ∣ x.n * 2 ^ (x.e - a).toNat := Nat.dvd_of_mod_eq_zero hm
      have h2 : Nat.Coprime x.d (2 ^ (x.e - a).toNat) := by
        apply Nat.Coprime.pow_right
        have : Nat.Coprime 2 x.d := by
          rw [Nat.coprime_iff_gcd_eq_one, Nat.gcd_comm]
          have := Nat.gcd_rec 2 x.d
          rw [Nat.gcd_comm, Nat.gcd_rec, ho.2.1]
          rfl
        exact this.symm
      have h3 : x.d ∣ x.n := h2.dvd_of_dvd_mul_right h1
      have h4 : x.d ∣ Nat.gcd x.n x.d := Nat.dvd_gcd h3 (Nat.dvd_refl _)
      rw [ho.2.2] at h4
      exact hd (Nat.dvd_one.1 h4)
    · rfl
  · split <;> rfl
theorem fl_yes (x : XN) (a : Int) (n0 : x.n ≠ 0) (hd : x.d = 1) (h : a ≤ x.e) (h1 : -2097152 ≤ a) (h2 : a ≤ 2097152) (hl : nl (x.n * 2 ^ (x.e - a).toNat) ≤ 16384) : flX x a = ((x.n * 2 ^ (x.e - a).toNat, true), 0) := by
  unfold flX
  rw [if_neg (by omega), if_neg n0, if_pos h, if_pos hl, hd, Nat.div_one, Nat.mod_one]
  rfl
theorem nm8 {f : Int} (hf : Is4 f) : fE f - (pV f : Int) - lx f + 1 = ((oV f - 1 : Nat) : Int) ∧ 1 ≤ oV f ∧ lx f = 1 - fE f - (pV f : Int) ∧ pV f < 128 ∧ fE f ≤ 16383 ∧ 0 ≤ fE f := by
  rcases hf with rfl | rfl | rfl | rfl <;> decide +kernel
/-- What is of the format: its significand, and the encoding. -/
theorem of_yes {f : Int} (hf : Is4 f) (b : Bool) (n : Nat) (e : Int) (n0 : n ≠ 0) (ht : topX ⟨b, n, 1, e⟩ ≤ fE f) (ha : ofA f ⟨b, n, 1, e⟩ ≤ e) :
    ∃ m k t, m = n * 2 ^ (e - ofA f ⟨b, n, 1, e⟩).toNat ∧ k < oV f ∧ t < 2 ^ pV f ∧ ofX f ⟨b, n, 1, e⟩ = (enc7 f b k t, true) ∧ ((k = 0 ∧ m = t ∧ ofA f ⟨b, n, 1, e⟩ = lx f) ∨ (1 ≤ k ∧ m = 2 ^ pV f + t ∧ ofA f ⟨b, n, 1, e⟩ = lx f + (k : Int) - 1)) := by
  obtain ⟨g1, g2, g3, g4, g5, g6, g7⟩ := fm hf
  obtain ⟨n1, n2, n3, n4, n5, n6⟩ := nm8 hf
  obtain ⟨l1, l2, l3⟩ := blen_low n n0
  have tw := top_whole b n e n0
  obtain ⟨a, hA⟩ : ∃ a, ofA f ⟨b, n, 1, e⟩ = a := ⟨_, rfl⟩
  have hA2 := hA
  unfold ofA at hA2
  rw [hA] at ha ⊢
  rw [tw] at ht hA2
  obtain ⟨j, hj⟩ : ∃ j : Nat, (e - a).toNat = j := ⟨_, rfl⟩
  have hje : e = a + (j : Int) := by omega
  obtain ⟨m, hm⟩ : ∃ m, n * 2 ^ j = m := ⟨_, rfl⟩
  have m1 : 2 ^ (blen n - 1 + j) ≤ m := by rw [← hm, Nat.pow_add]; exact Nat.mul_le_mul_right _ l2
  have m2 : m < 2 ^ (blen n + j) := by rw [← hm, Nat.pow_add]; exact Nat.mul_lt_mul_of_pos_right l3 (Nat.two_pow_pos _)
  have lj : blen n + j ≤ pV f + 1 := by omega
  have m3 : m < 2 * 2 ^ pV f := by
    have := Nat.pow_le_pow_right (show 0 < 2 by decide) lj
    rw [Nat.pow_succ] at this
    omega
  have hl : nl m ≤ 16384 := nl_pow m (pV f + 1) (by rw [Nat.pow_succ]; omega) (by omega)
  obtain ⟨k, hk⟩ : ∃ k : Nat, a = lx f + (k : Int) := ⟨(a - lx f).toNat, by omega⟩
  have hk2 : k + 2 ≤ oV f := by omega
  have hb0 : (k + 2) * 2 ^ pV f ≤ oV f * 2 ^ pV f := Nat.mul_le_mul_right _ hk2
  have hb1 : k * 2 ^ pV f + m < 2 ^ wV f := by
    rw [g1, Nat.add_mul, Nat.one_mul]
    rw [Nat.add_mul] at hb0
    omega
  have hfb : fb f m a = k * 2 ^ pV f + m := by rw [hk]; exact fb_is hf k m (by omega) hb1
  have hof : ofX f ⟨b, n, 1, e⟩ = (sgB f (k * 2 ^ pV f + m) b, true) := by
    unfold ofX
    rw [hA, fl_yes ⟨b, n, 1, e⟩ a n0 rfl ha (by omega) (by omega) (by show nl (n * 2 ^ (e - a).toNat) ≤ 16384; rw [hj, hm]; exact hl)]
    simp only []
    rw [if_neg n0, if_neg (by rw [tw]; omega), if_pos trivial, hj, hm, hfb]
  rw [hj, hm]
  by_cases hs : m < 2 ^ pV f
  · have hk0 : k = 0 := by
      have : blen n - 1 + j < pV f := by
        rcases Nat.lt_or_ge (blen n - 1 + j) (pV f) with q | q
        · exact q
        · have := Nat.pow_le_pow_right (show 0 < 2 by decide) q
          omega
      omega
    subst hk0
    refine ⟨m, 0, m, rfl, by omega, hs, ?_, Or.inl ⟨rfl, rfl, by omega⟩⟩
    rw [hof, sgB_low hb1]
    unfold enc7
    rfl
  · have e1 : k * 2 ^ pV f + m = (k + 1) * 2 ^ pV f + (m - 2 ^ pV f) := by rw [Nat.add_mul]; omega
    refine ⟨m, k + 1, m - 2 ^ pV f, rfl, by omega, by omega, ?_, Or.inr ⟨by omega, by omega, by omega⟩⟩
    rw [hof, sgB_low hb1, e1]
    unfold enc7
    rfl
theorem of_no {f : Int} (x : XN) (hx : x.can) (n0 : x.n ≠ 0) (h : fE f < topX x ∨ x.d ≠ 1 ∨ x.e < ofA f x) : ofX f x = (0, false) := by
  unfold ofX
  rw [if_neg n0]
  by_cases h1 : fE f < topX x
  · rw [if_pos h1]
  · rw [if_neg h1, if_neg]
    rw [fl_no x _ hx n0 (by omega)]
    decide
end Go.Proofs.YtkmlbjlaahcahaaGreatDoor
namespace Go.Proofs.YtkmlbjlaahcahaaGreatDoor
set_option maxRecDepth 100000
open Go.RowKit WMath XMath
set_option linter.unusedSimpArgs false
set_option linter.unusedVariables false

theorem blen_is (n k : Nat) (h1 : 2 ^ k ≤ n) (h2 : n < 2 ^ (k + 1)) : blen n = k + 1 := by
  have a := (blen_iff n (k + 1)).2 h2
  have b := blen_iff n k
  omega
theorem blen_shift (n k : Nat) (h : n ≠ 0) : blen (n * 2 ^ k) = blen n + k := by
  obtain ⟨l1, l2, l3⟩ := blen_low n h
  have := blen_is (n * 2 ^ k) (blen n - 1 + k) (by rw [Nat.pow_add]; exact Nat.mul_le_mul_right _ l2) (by
    rw [show blen n - 1 + k + 1 = blen n + k by omega, Nat.pow_add]
    exact Nat.mul_lt_mul_of_pos_right l3 (Nat.two_pow_pos _))
  omega
theorem mk_whole (neg : Bool) (s : Nat) (x : Int) (s0 : s ≠ 0) (h1 : -1048576 ≤ x) (h2 : x + (tz s : Int) ≤ 1048576) : mk neg s 1 x = (⟨neg, od s, 1, x + (tz s : Int)⟩, 0) := by
  have o1 : od 1 = 1 := od_odd 1 rfl
  have t1 : tz 1 = 0 := tz_odd 1 rfl
  unfold mk
  rw [if_neg s0, o1, t1, Nat.gcd_one_right, Nat.div_one, Nat.div_one]
  rw [if_pos (by omega)]
  congr 2
  omega
/-- The significand and the exponent of a finite encoding that is not 0. -/
def sV (f : Int) (e t : Nat) : Nat := if e = 0 then t else 2 ^ pV f + t
def xV (f : Int) (e : Nat) : Int := if e = 0 then lx f else lx f + (e : Int) - 1
theorem val_of {f : Int} (hf : Is4 f) (neg : Bool) (e t : Nat) (he : e < oV f) (ht : t < 2 ^ pV f) (nz : sV f e t ≠ 0) :
    mk neg (sV f e t) 1 (xV f e) = (⟨neg, od (sV f e t), 1, xV f e + (tz (sV f e t) : Int)⟩, 0) ∧ ofX f ⟨neg, od (sV f e t), 1, xV f e + (tz (sV f e t) : Int)⟩ = (enc7 f neg e t, true) ∧ ofA f ⟨neg, od (sV f e t), 1, xV f e + (tz (sV f e t) : Int)⟩ = xV f e := by
  obtain ⟨n1, n2, n3, n4, n5, n6⟩ := nm8 hf
  have oe : (oV f : Int) = 2 * fE f + 1 := by unfold oV; omega
  obtain ⟨s, hs⟩ : ∃ s, sV f e t = s := ⟨_, rfl⟩
  obtain ⟨x, hx⟩ : ∃ x, xV f e = x := ⟨_, rfl⟩
  rw [hs] at nz
  rw [hs, hx]
  obtain ⟨o1, o2⟩ := od_is s nz
  have od0 : od s ≠ 0 := by omega
  have bs : blen s = blen (od s) + tz s := by
    have := blen_shift (od s) (tz s) od0
    rw [← o1] at this
    exact this
  have tw := top_whole neg (od s) (x + (tz s : Int)) od0
  have tz1 := tz_blen s
  unfold sV at hs
  unfold xV at hx
  have sl : s < 2 * 2 ^ pV f := by split at hs <;> omega
  have bl : blen s ≤ pV f + 1 := (blen_iff s _).2 (by rw [Nat.pow_succ]; omega)
  have A : ofA f ⟨neg, od s, 1, x + (tz s : Int)⟩ = x ∧ topX ⟨neg, od s, 1, x + (tz s : Int)⟩ ≤ fE f := by
    unfold ofA
    rw [tw]
    by_cases e0 : e = 0
    · rw [if_pos e0] at hs hx
      have : blen s ≤ pV f := (blen_iff s _).2 (by omega)
      omega
    · rw [if_neg e0] at hs hx
      have : blen s = pV f + 1 := blen_is s (pV f) (by omega) (by rw [Nat.pow_succ]; omega)
      omega
  have xl : -20000 ≤ x ∧ x ≤ 20000 := by split at hx <;> omega
  refine ⟨mk_whole neg s x nz (by omega) (by omega), ?_, A.1⟩
  obtain ⟨m, k, t', h1, h2, h3, h4, h5⟩ := of_yes hf neg (od s) (x + (tz s : Int)) od0 A.2 (by rw [A.1]; omega)
  rw [A.1, show (x + (tz s : Int) - x).toNat = tz s by omega, ← o1] at h1
  rw [A.1] at h5
  rw [h4]
  by_cases e0 : e = 0
  · rw [if_pos e0] at hs hx
    rcases h5 with ⟨q1, q2, q3⟩ | ⟨q1, q2, q3⟩
    · rw [q1, e0, show t' = t by omega]
    · omega
  · rw [if_neg e0] at hs hx
    rcases h5 with ⟨q1, q2, q3⟩ | ⟨q1, q2, q3⟩
    · omega
    · rw [show k = e by omega, show t' = t by omega]
end Go.Proofs.YtkmlbjlaahcahaaGreatDoor
namespace Go.Proofs.YtkmlbjlaahcahaaGreatDoor
set_option maxRecDepth 100000
open Go.RowKit WMath XMath
set_option linter.unusedSimpArgs false
set_option linter.unusedVariables false

theorem blen_two (s : Nat) : blen (2 * s + 1) = blen s + 1 := by
  by_cases h : s = 0
  · subst h; decide
  · obtain ⟨l1, l2, l3⟩ := blen_low s h
    have e1 : 2 ^ blen s = 2 * 2 ^ (blen s - 1) := by
      obtain ⟨q, hq⟩ : ∃ q, blen s = q + 1 := ⟨blen s - 1, by omega⟩
      rw [hq, Nat.add_sub_cancel, Nat.pow_succ, Nat.mul_comm]
    exact blen_is (2 * s + 1) (blen s) (by omega) (by rw [Nat.pow_succ]; omega)
theorem mid_none {f : Int} (hf : Is4 f) (b : Bool) (e t : Nat) (he : e < oV f) (ht : t < 2 ^ pV f) : (XN.mk b (2 * sV f e t + 1) 1 (xV f e - 1)).can ∧ ofX f ⟨b, 2 * sV f e t + 1, 1, xV f e - 1⟩ = (0, false) := by
  obtain ⟨n1, n2, n3, n4, n5, n6⟩ := nm8 hf
  have oe : (oV f : Int) = 2 * fE f + 1 := by unfold oV; omega
  obtain ⟨s, hs⟩ : ∃ s, sV f e t = s := ⟨_, rfl⟩
  obtain ⟨x, hx⟩ : ∃ x, xV f e = x := ⟨_, rfl⟩
  rw [hs, hx]
  have tw := top_whole b (2 * s + 1) (x - 1) (by omega)
  rw [blen_two] at tw
  unfold sV at hs
  unfold xV at hx
  have sl : s < 2 * 2 ^ pV f := by split at hs <;> omega
  have bl : blen s ≤ pV f + 1 := (blen_iff s _).2 (by rw [Nat.pow_succ]; omega)
  have xl : -20000 ≤ x ∧ x ≤ 20000 := by split at hx <;> omega
  have A : ofA f ⟨b, 2 * s + 1, 1, x - 1⟩ = x := by
    unfold ofA
    rw [tw]
    by_cases e0 : e = 0
    · rw [if_pos e0] at hs hx
      have : blen s ≤ pV f := (blen_iff s _).2 (by omega)
      omega
    · rw [if_neg e0] at hs hx
      have : blen s = pV f + 1 := blen_is s (pV f) (by omega) (by rw [Nat.pow_succ]; omega)
      omega
  have hc : (XN.mk b (2 * s + 1) 1 (x - 1)).can := by
    refine ⟨?_, ?_, ?_, ?_, Or.inr ⟨?_, rfl, Nat.gcd_one_right _⟩⟩
    · show nl (2 * s + 1) ≤ 16384
      exact nl_pow _ (pV f + 2) (by rw [Nat.pow_succ, Nat.pow_succ]; omega) (by omega)
    · show nl 1 ≤ 16384
      exact nl_pow _ 1 (by decide) (by decide)
    · show -1048576 ≤ x - 1; omega
    · show x - 1 ≤ 1048576; omega
    · show (2 * s + 1) % 2 = 1; omega
  refine ⟨hc, of_no _ hc (by show 2 * s + 1 ≠ 0; omega) (Or.inr (Or.inr ?_))⟩
  rw [A]
  show x - 1 < x
  omega
end Go.Proofs.YtkmlbjlaahcahaaGreatDoor
namespace Go.Proofs.YtkmlbjlaahcahaaGreatDoor
set_option maxRecDepth 100000
open Go.RowKit WMath

set_option maxRecDepth 100000 in
theorem pn_right_ok (a : Nat) (n : Int) (s v : ByteArray) (o : Bool) (hs : nbA a = s) (ha : nl a ≤ 16384) (h0 : 0 ≤ n) (hn : n ≤ 9223372036854775807) (hv : nbA (a / 2 ^ n.toNat) = v) (ho : decide (a % 2 ^ n.toNat ≠ 0) = o) (w : World) (hT : TabAt w) :
    Calls Tryz.prog 194 #[.string s, .int .i64 n] w fun r w' => r = .returned (.tuple #[.string v, .bool o, .int .i64 0]) ∧ Below w.heap.size w w' := by
  obtain ⟨k, rfl⟩ : ∃ m : Nat, n = (m : Int) := ⟨n.toNat, by omega⟩
  rw [Int.toNat_natCast] at hv ho
  have HM : Box (mayB s = true) := box (by rw [← hs]; exact mayB_nb a ha)
  have b0 := bal w (.cells #[.string s] 26)
  have d0 : decide ((k : Int) < 0) = false := by rw [decide_eq_false_iff_not]; omega
  have d2 := eq_empty s
  obtain ⟨K, hK⟩ : ∃ K, wl a = K := ⟨_, rfl⟩
  obtain ⟨M, hM⟩ : ∃ M, wl (a / 2 ^ k) = M := ⟨_, rfl⟩
  have hK2 : K ≤ 2048 := by rw [← hK]; exact wl_of_nl a ha
  have hM2 : M ≤ 2048 := by rw [← hM]; exact Nat.le_trans (wl_mono _ a (Nat.div_le_self _ _)) (by omega)
  have k2 : k ≤ 9223372036854775807 := by omega
  have HS := box hs
  have HA := box ha
  have HK := box hK
  have HMM := box hM
  have HV := box hv
  by_cases a0 : a = 0
  · subst a0
    have eo : o = false := by rw [← ho, Nat.zero_mod]; rfl
    subst eo
    have es : s = ⟨#[]⟩ := by rw [← hs, nbA_zero]
    subst es
    clear hs ho hv hK hM d2 ha hT
    go_enter Tryz.func194, Tryz.ntmps194
    go_wp2_with fail
    refine (n_may1 _ true HM.out _ w).mono ?_
    rintro r w0 ⟨rfl, rfl⟩
    go_wp2_with fail
    refine (l_wordsOf 0 K _ HS.out (by have := HA.out; omega) HK.out _).mono ?_
    rintro r w2 ⟨p, c, rfl, s2, b2⟩
    go_wp2_with fail
    refine (l_down w2 p K c 0 k M _ s2 (Nat.le_refl _) (by omega) k2 HMM.out).mono ?_
    rintro r w3 ⟨q, d, rfl, s3, b3⟩
    go_wp2_with fail
    refine (l_natOf w3 q M d (0 / 2 ^ k) _ v s3 (Nat.le_refl _) (by omega) HV.out).mono ?_
    rintro r w4 ⟨rfl, b4⟩
    go_wp2
    go_ret3
    exact ⟨rfl, btr b0 (btr b2 (btr b3 b4))⟩
  · rw [decide_eq_false (by rw [← hs, nbA_size]; have := nl_pos a a0; omega)] at d2
    have d3 : (s.toList != []) = true := by rw [bne, d2]; rfl
    obtain ⟨t, ht⟩ := lowB_any a a0
    have hlo := lost_low a k t ht
    have e1 : decide (t < k) = o := by rw [← ho]; exact decide_eq_decide.2 hlo.symm
    have LW := box (fun w hT => pn_low_ok a t s hs ha (Or.inr ⟨a0, ht⟩) w hT)
    have TA := box (tabA hT (.cells #[.string s] 26))
    clear hs ho hv hK hM ha hT ht hlo a0
    go_enter Tryz.func194, Tryz.ntmps194
    go_wp2_with fail
    refine (n_may1 _ true HM.out _ w).mono ?_
    rintro r w0 ⟨rfl, rfl⟩
    go_wp2_with fail
    refine (LW.out _ TA.out).mono ?_
    rintro r w1 ⟨rfl, b1⟩
    go_wp2_with fail
    refine (l_wordsOf a K _ HS.out (by have := HA.out; omega) HK.out _).mono ?_
    rintro r w2 ⟨p, c, rfl, s2, b2⟩
    go_wp2_with fail
    refine (l_down w2 p K c a k M _ s2 (Nat.le_refl _) (by omega) k2 HMM.out).mono ?_
    rintro r w3 ⟨q, d, rfl, s3, b3⟩
    go_wp2_with fail
    refine (l_natOf w3 q M d (a / 2 ^ k) _ v s3 (Nat.le_refl _) (by omega) HV.out).mono ?_
    rintro r w4 ⟨rfl, b4⟩
    go_wp2
    go_ret3
    exact ⟨rfl, btr b0 (btr b1 (btr b2 (btr b3 b4)))⟩

end Go.Proofs.YtkmlbjlaahcahaaGreatDoor
namespace Go.Proofs.YtkmlbjlaahcahaaGreatDoor
set_option maxRecDepth 100000
open Go.RowKit WMath XMath

theorem nb1 : nbA 1 = ⟨#[1]⟩ := by decide +kernel
theorem nl1 : nl 1 ≤ 16384 := by decide +kernel
theorem eq_one (g : Nat) (v : ByteArray) (h : nbA g = v) : (v.toList == [1]) = decide (g = 1) := by
  rw [Bool.eq_iff_iff, beq_iff_eq, decide_eq_true_iff, ByteArray.toList_eq]
  constructor
  · intro e
    apply nbA_inj
    rw [h, nb1]
    obtain ⟨⟨l⟩⟩ := v
    show (⟨⟨l⟩⟩ : ByteArray) = ⟨#[1]⟩
    have : l = [1] := e
    rw [this]
  · intro e
    subst e
    rw [nb1] at h
    rw [← h]
theorem eq_nil (n : Nat) (s : ByteArray) (h : nbA n = s) (h0 : n ≠ 0) : (s.toList == []) = false := by
  rw [eq_empty, decide_eq_false_iff_not, ← h, nbA_size]
  have := nl_pos n h0
  omega

theorem cells4 {w : World} {g : Nat} {T : TypeId} {c : Array Value} (row : w.heap[g]? = some (.cells c T)) (k : Nat) (v : Value) (h : c[k]? = some v) : w.cell? ⟨g, k, none⟩ = some v := by
  rw [cell_of_row w g k _ _ _ row]
  exact h

theorem cells4s {w : World} {g : Nat} {T : TypeId} {a b c d : Value} (R : w.heap[g]? = some (.cells #[a, b, c, d] T)) : w.cell? ⟨g, 0, none⟩ = some a ∧ w.cell? ⟨g, 1, none⟩ = some b ∧ w.cell? ⟨g, 2, none⟩ = some c ∧ w.cell? ⟨g, 3, none⟩ = some d := ⟨cells4 R 0 _ rfl, cells4 R 1 _ rfl, cells4 R 2 _ rfl, cells4 R 3 _ rfl⟩
theorem cells2s {w : World} {g : Nat} {T : TypeId} {a b : Value} (R : w.heap[g]? = some (.cells #[a, b] T)) : w.cell? ⟨g, 0, none⟩ = some a ∧ w.cell? ⟨g, 1, none⟩ = some b := ⟨cells4 R 0 _ rfl, cells4 R 1 _ rfl⟩
theorem opn1 (w : World) (o : Obj) : (w.alloc o).heap[w.heap.size]? = some o ∧ Below w.heap.size w (w.alloc o) := ⟨heap_alloc_last _ _, (Below.refl _ _).alloc (Nat.le_refl _) _⟩
theorem opn2 (w : World) (o1 o2 : Obj) : ((w.alloc o1).alloc o2).heap[w.heap.size]? = some o1 ∧ ((w.alloc o1).alloc o2).heap[w.heap.size + 1]? = some o2 ∧ Below w.heap.size w ((w.alloc o1).alloc o2) := by
  obtain ⟨r0, b⟩ := opn1 w o1
  have z : (w.alloc o1).heap.size = w.heap.size + 1 := by simp only [size_al]
  exact ⟨by rw [heap_below _ _ _ (by omega)]; exact r0, by rw [← z]; exact heap_alloc_last _ _, b.alloc (by omega) _⟩
theorem opn3 (w : World) (o1 o2 o3 : Obj) : (((w.alloc o1).alloc o2).alloc o3).heap[w.heap.size]? = some o1 ∧ (((w.alloc o1).alloc o2).alloc o3).heap[w.heap.size + 1]? = some o2 ∧ (((w.alloc o1).alloc o2).alloc o3).heap[w.heap.size + 1 + 1]? = some o3 ∧ Below w.heap.size w (((w.alloc o1).alloc o2).alloc o3) := by
  obtain ⟨r0, r1, b⟩ := opn2 w o1 o2
  have z : ((w.alloc o1).alloc o2).heap.size = w.heap.size + 1 + 1 := by simp only [size_al]
  exact ⟨by rw [heap_below _ _ _ (by omega)]; exact r0, by rw [heap_below _ _ _ (by omega)]; exact r1, by rw [← z]; exact heap_alloc_last _ _, b.alloc (by omega) _⟩
theorem set4_below {n : Nat} {w wr : World} {b : Nat} (h : Below n w wr) (hb : n ≤ b) (v0 v1 v2 v3 : Value) : Below n w ((((wr.setCell ⟨b, 0, none⟩ v0).setCell ⟨b, 1, none⟩ v1).setCell ⟨b, 2, none⟩ v2).setCell ⟨b, 3, none⟩ v3) :=
  (((h.setCell hb _).setCell hb _).setCell hb _).setCell hb _
theorem set4_row {w : World} {b : Nat} {c : Array Value} {T : TypeId} (h : w.heap[b]? = some (.cells c T)) (hc : c.size = 4) (v0 v1 v2 v3 : Value) :
    ((((w.setCell ⟨b, 0, none⟩ v0).setCell ⟨b, 1, none⟩ v1).setCell ⟨b, 2, none⟩ v2).setCell ⟨b, 3, none⟩ v3).heap[b]? = some (.cells #[v0, v1, v2, v3] T) := by
  rw [setCell_row (setCell_row (setCell_row (setCell_row h)))]
  obtain ⟨l⟩ := c
  match l, hc with
  | [a, b, c, d], _ => rfl
theorem set4_cells {w : World} {b : Nat} {c : Array Value} {T : TypeId} (h : w.heap[b]? = some (.cells c T)) (hc : c.size = 4) (v0 v1 v2 v3 : Value) :
    ((((w.setCell ⟨b, 0, none⟩ v0).setCell ⟨b, 1, none⟩ v1).setCell ⟨b, 2, none⟩ v2).setCell ⟨b, 3, none⟩ v3).cell? ⟨b, 0, none⟩ = some v0 ∧
    ((((w.setCell ⟨b, 0, none⟩ v0).setCell ⟨b, 1, none⟩ v1).setCell ⟨b, 2, none⟩ v2).setCell ⟨b, 3, none⟩ v3).cell? ⟨b, 1, none⟩ = some v1 ∧
    ((((w.setCell ⟨b, 0, none⟩ v0).setCell ⟨b, 1, none⟩ v1).setCell ⟨b, 2, none⟩ v2).setCell ⟨b, 3, none⟩ v3).cell? ⟨b, 2, none⟩ = some v2 ∧
    ((((w.setCell ⟨b, 0, none⟩ v0).setCell ⟨b, 1, none⟩ v1).setCell ⟨b, 2, none⟩ v2).setCell ⟨b, 3, none⟩ v3).cell? ⟨b, 3, none⟩ = some v3 := by
  have r := set4_row h hc v0 v1 v2 v3
  exact ⟨cells4 r 0 _ rfl, cells4 r 1 _ rfl, cells4 r 2 _ rfl, cells4 r 3 _ rfl⟩

/-- May a number be that is told by strings? -/
def MayX (b : Bool) (s t : ByteArray) (e : Int) : Prop := ∃ n d, nbA n = s ∧ nbA d = t ∧ (XN.mk b n d e).can
/-- Does o tell whether it may be? -/
def IsM (o : Bool) (b : Bool) (s t : ByteArray) (e : Int) : Prop := o = true ↔ MayX b s t e
theorem mayX_iff (b : Bool) (n d : Nat) (s t : ByteArray) (e : Int) (hs : nbA n = s) (ht : nbA d = t) : MayX b s t e ↔ (XN.mk b n d e).can := by
  constructor
  · rintro ⟨n', d', h1, h2, h⟩
    rw [nbA_inj _ _ (h1.trans hs.symm), nbA_inj _ _ (h2.trans ht.symm)] at h
    exact h
  · intro h
    exact ⟨n, d, hs, ht, h⟩
theorem mayX_s (b : Bool) (s t : ByteArray) (e : Int) (h : MayX b s t e) : mayB s = true ∧ mayB t = true := by
  obtain ⟨n, d, rfl, rfl, h⟩ := h
  exact ⟨mayB_nb n h.1, mayB_nb d h.2.1⟩

theorem zerox (w : World) : Calls Tryz.prog 88 #[] w fun r w' => r = .returned (.agg #[.bool false, .string ⟨#[]⟩, .string ⟨#[1]⟩, .int .i64 0]) ∧ Below w.heap.size w w' := by
  go_enter Tryz.func88, Tryz.ntmps88
  go_wp2
  exact bodyPost_ret (v := .agg #[.bool false, .string ⟨#[]⟩, .string ⟨#[1]⟩, .int .i64 0]) (by simp [results, Tryz.results88, go_sem]) rfl ⟨rfl, by first | exact Below.refl _ _ | exact bal _ _⟩
theorem withinx (n b : Int) (o : Bool) (hb : 0 ≤ b) (hb2 : b ≤ 9223372036854775807) (ho : (decide (-b ≤ n) && decide (n ≤ b)) = o) (w : World) : Calls Tryz.prog 89 #[.int .i64 n, .int .i64 b] w fun r w' => r = .returned (.bool o) ∧ Below w.heap.size w w' := by
  have n1 : IntKind.i64.wrap (-b) = -b := wrap_i64_is _ (by omega) (by omega)
  by_cases h : -b ≤ n
  · have d1 : decide (-b ≤ n) = true := decide_eq_true h
    rw [d1, Bool.true_and] at ho
    have B0 : Below w.heap.size w w := (Below.refl _ _)
    go_enter Tryz.func89, Tryz.ntmps89
    go_wp2
    go_ret
    exact ⟨rfl, B0⟩
  · have d1 : decide (-b ≤ n) = false := decide_eq_false h
    rw [d1, Bool.false_and] at ho
    subst ho
    have B0 : Below w.heap.size w w := (Below.refl _ _)
    go_enter Tryz.func89, Tryz.ntmps89
    go_wp2
    go_ret
    exact ⟨rfl, B0⟩
theorem oddx (n : Nat) (s : ByteArray) (o : Bool) (hs : nbA n = s) (hl : nl n ≤ 16384) (ho : decide (n % 2 = 1) = o) (w : World) (hT : TabAt w) : Calls Tryz.prog 112 #[.string s] w fun r w' => r = .returned (.bool o) ∧ Below w.heap.size w w' := by
  by_cases h0 : n = 0
  · subst h0
    rw [nbA_zero] at hs
    subst hs
    have e : o = false := by rw [← ho]; rfl
    subst e
    clear ho hl
    have B0 : Below w.heap.size w w := (Below.refl _ _)
    go_enter Tryz.func112, Tryz.ntmps112
    go_wp2
    go_ret
    exact ⟨rfl, B0⟩
  · have d0 := eq_nil n s hs h0
    obtain ⟨t, ht⟩ : ∃ t, tz n = t := ⟨_, rfl⟩
    have HT := box (tz_low n)
    rw [ht] at HT
    have hc : ((t : Int) == 0) = o := by
      rw [← ho, ← ht, Bool.eq_iff_iff, beq_iff_eq, decide_eq_true_iff]
      constructor
      · intro h
        obtain ⟨a, b⟩ := od_is n h0
        have e : tz n = 0 := by omega
        unfold od at b
        rw [e, Nat.pow_zero, Nat.div_one] at b
        exact b
      · intro h
        rw [tz_odd n h]
        rfl
    have hc2 : decide (t = 0) = o := by
      rw [← hc, Bool.eq_iff_iff, beq_iff_eq, decide_eq_true_iff]
      omega
    have HS := box hs
    have HL := box hl
    have TT := box hT
    clear hs hl ht ho hT
    have B0 : Below w.heap.size w w := (Below.refl _ _)
    go_enter Tryz.func112, Tryz.ntmps112
    go_wp2_with fail
    refine (pn_low_ok n t s HS.out HL.out HT.out _ (tabB TT.out B0)).mono ?_
    rintro r w1 ⟨rfl, b1⟩
    have B1 : Below w.heap.size w w1 := btr B0 b1
    clear b1 B0 
    go_wp2
    go_ret
    exact ⟨rfl, B1⟩
end Go.Proofs.YtkmlbjlaahcahaaGreatDoor
namespace Go.Proofs.YtkmlbjlaahcahaaGreatDoor
set_option maxRecDepth 100000
open Go.RowKit WMath
set_option linter.unusedSimpArgs false
set_option linter.unusedVariables false

set_option maxRecDepth 100000 in
set_option maxHeartbeats 1000000 in
theorem knatOf_is (n : Nat) (v : ByteArray) (hn : n < Q) (hv : nbA n = v) (w : World) : Calls Tryz.prog 38 #[.agg (cw 6 n)] w fun r w' => r = .returned (.string v) ∧ Below w.heap.size w w' := by
  have hat := cw_at 6
  have hz := cw6z
  have hff := cw6f
  have hs0 := st0
  have hcs : ∀ x, ((cw 6 x).size = 6) = True := fun x => eq_true (cw_size 6 x)
  obtain ⟨l, hl⟩ : ∃ l, blen n = l := ⟨_, rfl⟩
  obtain ⟨m, hm⟩ : ∃ m, nl n = m := ⟨_, rfl⟩
  have hml : m = (l + 7) / 8 := by rw [← hm, ← hl]; rfl
  obtain ⟨K, hK, hQ⟩ := Q48
  have m48 : m ≤ 48 := by rw [← hm, ← hK]; exact nl_le_of n K (by rw [← hQ]; exact hn)
  have l384 : l ≤ 384 := by omega
  have n1 : IntKind.i64.wrap ((l : Int) + 7) = (l : Int) + 7 := wrap_i64_is _ (by omega) (by omega)
  have n1t : ((l : Int) + 7).tdiv 8 = (m : Int) := by rw [Int.tdiv_eq_ediv_of_nonneg (by omega)]; omega
  have n1w : IntKind.i64.wrap (m : Int) = (m : Int) := wrap_i64_is _ (by omega) (by omega)
  have hmk := c8_make m (by omega)
  have hvz : v.size = m := by rw [← hv, nbA_size, hm]
  have KL := box (wlen_is n l hn hl)
  have HM := box hm
  have HV := box hv
  clear hm hl hv hml hK hQ hn
  obtain ⟨Ra_0, B0⟩ := opn1 w (Obj.cells (cw 6 n) 53)
  go_enter Tryz.func38, Tryz.ntmps38
  go_wp2_with fail
  refine (KL.out _).mono ?_
  rintro r w1 ⟨rfl, b1⟩
  have B1 : Below w.heap.size w w1 := btr B0 b1
  have Ra_1 := heap_of b1 _ _ _ Ra_0
  clear b1 B0 Ra_0
  have ca_1_0 := row_cell Ra_1
  go_wp2
  clear hmk n1 n1t n1w
  obtain ⟨g, hg⟩ : ∃ g, w1.heap.size = g := ⟨_, rfl⟩
  have hgw : w.heap.size < g := by rw [← hg]; exact (Array.getElem?_eq_some_iff.1 Ra_1).1
  have r0 : (w1.alloc (.cells (c8 m 0) 5)).heap[g]? = some (.cells (c8 m 0) 5) := by rw [← hg]; exact heap_alloc_last _ _
  have r2 : (w1.alloc (.cells (c8 m 0) 5)).heap[w.heap.size]? = some (.cells (cw 6 n) 53) := heap_of (bal _ _) _ _ _ Ra_1
  have b0 : Below w.heap.size w (w1.alloc (.cells (c8 m 0) 5)) := btr B1 (bal _ _)
  rw [hg]
  clear hg
  go_loopw [12] (fun iv wr => ∃ (i Y : Nat), i ≤ m ∧ iv = .int .i64 i ∧ wr.heap[w.heap.size]? = some (.cells (cw 6 n) 53) ∧ wr.heap[g]? = some (.cells (c8 m Y) 5) ∧ Below w.heap.size w wr ∧ Box (∀ j, m - i ≤ j → j < m → d8 Y j = d8 n (m - 1 - j))) (fun iv _ => m - (intOf iv).toNat)
  case atStart => exact ⟨0, 0, by omega, rfl, r2, r0, b0, box (fun j h1 h2 => absurd h2 (by omega))⟩
  case round =>
    clear r0 r2 b0 Ra_1 B1
    obtain ⟨i, Y, hi, rfl, r2, r1, hbw, HX⟩ := hrel
    by_cases hlt : i < m
    · obtain ⟨pl, hpl⟩ : ∃ pl, m - 1 - i = pl := ⟨_, rfl⟩
      obtain ⟨x, hx⟩ : ∃ x, d8 n i = x := ⟨_, rfl⟩
      obtain ⟨q, hq⟩ : ∃ q, i / 8 = q := ⟨_, rfl⟩
      obtain ⟨r, hr⟩ : ∃ r, i % 8 = r := ⟨_, rfl⟩
      have x256 : x < 256 := by rw [← hx]; exact d8_lt n i
      have n1 : IntKind.i64.wrap ((m : Int) - 1) = (m : Int) - 1 := wrap_i64_is _ (by omega) (by omega)
      have n2 : IntKind.i64.wrap ((m : Int) - 1 - (i : Int)) = (pl : Int) := by rw [wrap_i64_is _ (by omega) (by omega)]; omega
      have n2' : (m : Int) - 1 - (i : Int) = (pl : Int) := by omega
      have q1 : (i : Int) / 8 = (q : Int) := by omega
      have tm : (i : Int).tmod 8 = (r : Int) := by rw [Int.tmod_eq_emod_of_nonneg (by omega)]; omega
      have tm2 : (i : Int) % 8 = (r : Int) := by omega
      have w1' : IntKind.i64.wrap (q : Int) = (q : Int) := wrap_i64_is _ (by omega) (by omega)
      obtain ⟨k, hk⟩ : ∃ k, 8 * r = k := ⟨_, rfl⟩
      have w2' : IntKind.i64.wrap (k : Int) = (k : Int) := wrap_i64_is _ (by omega) (by omega)
      have w3 : (r : Int) * 8 = (k : Int) := by omega
      obtain ⟨z, hz'⟩ : ∃ z, wd n q = z := ⟨_, rfl⟩
      obtain ⟨y, hy⟩ : ∃ y, z / 2 ^ k = y := ⟨_, rfl⟩
      have hyx : y % 256 = x := by rw [← hy, ← hz', ← hq, ← hk, ← hr, ld8_wd, hx]
      have n4 := wrap_u8_is y x hyx
      have n5 : (z : Int) / 2 ^ k = (y : Int) := by rw [div_cast, hy]
      have q6 : q < 6 := by omega
      have plm : pl < m := by omega
      have c0 := row_cell r2 q q6
      rw [hz'] at c0
      have c1 := c8_cell r1 plm
      have f0 := fz (k := pl) r1
      have R2 : Box ((wr.setCell ⟨g, pl, none⟩ (.int .u8 (x : Int))).heap[g]? = some (.cells (c8 m (set8 Y pl x)) 5)) := box (by rw [setCell_row r1, c8_seti m Y pl x _ plm x256 rfl])
      have R3 : Box ((wr.setCell ⟨g, pl, none⟩ (.int .u8 (x : Int))).heap[w.heap.size]? = some (.cells (cw 6 n) 53)) := box ((setCell_other (w := wr) (by omega)).trans r2)
      have B2 : Box (Below w.heap.size w (wr.setCell ⟨g, pl, none⟩ (.int .u8 (x : Int)))) := box (hbw.setCell (by show w.heap.size ≤ g; omega) _)
      have NX : Box (∀ j, m - (i + 1) ≤ j → j < m → d8 (set8 Y pl x) j = d8 n (m - 1 - j)) := box (fun j h1 h2 => by
        rw [d8_set8 _ _ _ _ x256]
        by_cases e : j = pl
        · rw [if_pos e, ← hx]; congr 1; omega
        · rw [if_neg e]; exact HX.out j (by omega) h2)
      have k64 : k < 64 := by omega
      have dl : decide (i < m) = true := decide_eq_true hlt
      have dz : decide ((k : Int) < 0) = false := by rw [decide_eq_false_iff_not]; omega
      clear hpl hx hq hr hk hy hz' HX hyx
      go_wp2
      go_roundw
      case rel => exact ⟨i + 1, _, by omega, by go_num, R3.out, R2.out, B2.out, NX⟩
      case measure => simp [intOf] <;> omega
    · obtain rfl : i = m := by omega
      have hst := c8_strN (c := i) v r1 hvz (fun j hj => by
        rw [HX.out j (by omega) (by omega)]
        have e := HV.out
        subst e
        rw [nbA_get, HM.out])
      have dl : decide (i < i) = false := by rw [decide_eq_false_iff_not]; omega
      go_wp2
      go_ret
      exact ⟨rfl, hbw⟩
set_option maxRecDepth 100000 in
set_option maxHeartbeats 2000000 in
theorem kwideOf_is (n : Nat) (s : ByteArray) (hs : nbA n = s) (h : nl n ≤ 48) (w : World) : Calls Tryz.prog 55 #[.string s] w fun r w' => r = .returned (.agg (cw 6 n)) ∧ Below w.heap.size w w' := by
  have hat := cw_at 6
  have hz := cw6z
  have hff := cw6f
  have hs0 := st0
  have hcs : ∀ x, ((cw 6 x).size = 6) = True := fun x => eq_true (cw_size 6 x)
  have hs1 := st1
  obtain ⟨L, hL⟩ : ∃ L, nl n = L := ⟨_, rfl⟩
  have hsz : s.size = L := by rw [← hs, nbA_size, hL]
  have ln := nl_lt n
  rw [hL] at h ln
  have HS := box hs
  have HN := box ln
  have HL := box hL
  clear hs hL ln
  have R0 := trows2 w
  go_enter Tryz.func55, Tryz.ntmps55
  go_wp2
  go_loopw [7] (fun iv wr => ∃ i : Nat, i ≤ L ∧ iv = .int .i64 i ∧ RowsL w wr [0, n % 2 ^ (8 * i)]) (fun iv _ => L - (intOf iv).toNat)
  case atStart => exact ⟨0, by omega, rfl, by rw [Nat.mul_zero, Nat.pow_zero, Nat.mod_one]; exact R0⟩
  case round =>
    clear R0
    obtain ⟨i, hi, rfl, R⟩ := hrel
    by_cases hlt : i < L
    · obtain ⟨q, hq⟩ : ∃ q, q = i / 8 := ⟨_, rfl⟩
      obtain ⟨r, hr⟩ : ∃ r, r = 8 * (i % 8) := ⟨_, rfl⟩
      obtain ⟨x, hx⟩ : ∃ x, d8 n i = x := ⟨_, rfl⟩
      obtain ⟨k, hk⟩ : ∃ k, L - 1 - i = k := ⟨_, rfl⟩
      have x256 : x < 256 := by rw [← hx]; exact d8_lt n i
      have hk2 : k < s.size := by omega
      have hxd : (s[k]'hk2).toNat = x := by
        have e := HS.out
        subst e
        rw [nbA_get, HL.out, ← hk, show L - 1 - (L - 1 - i) = i by omega, hx]
      have hxr := idx_runN s k (k : Int) x rfl hk2 hxd
      have n1 : IntKind.i64.wrap ((L : Int) - 1) = (L : Int) - 1 := wrap_i64_is _ (by omega) (by omega)
      have n2 : IntKind.i64.wrap ((L : Int) - 1 - (i : Int)) = (k : Int) := by rw [wrap_i64_is _ (by omega) (by omega)]; omega
      have n2' : (L : Int) - 1 - (i : Int) = (k : Int) := by omega
      have q1 : (i : Int) / 8 = (q : Int) := by omega
      obtain ⟨r0, hr0⟩ : ∃ r0, i % 8 = r0 := ⟨_, rfl⟩
      have tm : (i : Int).tmod 8 = (r0 : Int) := by rw [Int.tmod_eq_emod_of_nonneg (by omega)]; omega
      have tm2 : (i : Int) % 8 = (r0 : Int) := by omega
      have w1 : IntKind.i64.wrap (q : Int) = (q : Int) := wrap_i64_is _ (by omega) (by omega)
      have w2 : IntKind.i64.wrap ((r0 : Int) * 8) = (r : Int) := by rw [wrap_i64_is _ (by omega) (by omega)]; omega
      have w2' : (r0 : Int) * 8 = (r : Int) := by omega
      have w4 : IntKind.i64.wrap (r : Int) = (r : Int) := wrap_i64_is _ (by omega) (by omega)
      have q6 : q < 6 := by omega
      have r64 : r < 64 := by omega
      have qi6 : (q : Int) < 6 := by omega
      have HST := box (toWide_step n i q r x hq hr hx)
      obtain ⟨y, hy⟩ : ∃ y, x * 2 ^ r = y := ⟨_, rfl⟩
      have y64 : y < 18446744073709551616 := by rw [← hy, hr]; exact byte_sh x (i % 8) x256 (by omega)
      have n4 : IntKind.u64.wrap (x : Int) = (x : Int) := by rw [IntKind.wrap_u64]; omega
      have n5 : IntKind.u64.wrap ((x : Int) * 2 ^ r) = (y : Int) := by
        rw [pow_cast, ← Int.natCast_mul, hy]
        exact wrap_nat y y64
      rw [hy] at HST
      obtain ⟨X, hX⟩ : ∃ X, n % 2 ^ (8 * i) = X := ⟨_, rfl⟩
      obtain ⟨Y, hY⟩ : ∃ Y, n % 2 ^ (8 * (i + 1)) = Y := ⟨_, rfl⟩
      rw [hX] at R
      rw [hX, hY] at HST
      have x3 := bor X q y y64
      have x4 := cw_or 6 X q y Y q6 y64 HST.out.symm
      have R2 : RowsL w (wr.setCell ⟨w.heap.size + 1, q, none⟩ (.int .u64 ((wd X q ||| y : Nat) : Int))) [0, Y] := rowsL_setCell R 1 X Y _ q _ rfl rfl x4 rfl
      have HY := box hY
      have c1 := row_cell (rows1 R) q q6
      have f0 := fz (k := q) (rows1 R)
      have dl : decide (i < L) = true := decide_eq_true hlt
      have dz : decide ((r : Int) < 0) = false := by rw [decide_eq_false_iff_not]; omega
      clear hr hx hq hy hX hY HST x4 hr0 hk hxd
      go_wp2
      go_region
      all_goals go_wp2
      all_goals go_roundw
      all_goals first | (show (_ : Nat) < _; simp [intOf]; omega) | exact ⟨i + 1, by omega, by go_num, by rw [HY.out]; exact rowsL_drew R2 1⟩
    · obtain rfl : i = L := by omega
      have dl : decide (i < i) = false := by rw [decide_eq_false_iff_not]; omega
      rw [Nat.mod_eq_of_lt HN.out] at R
      have hst := st_any wr w.heap.size n 0 (rows0 R)
      have c1 := row_cell (rows1 R)
      have R2 : RowsL w (wr.setRow w.heap.size (cw 6 n)) [n, n] := rowsL_set R 0 n _ (by simp) rfl rfl
      have c2 := row_cell (rows0 R2)
      go_wp2
      exact bodyPost_ret (v := .agg (cw 6 n)) (by simp [results, Tryz.results55, go_sem, c2, hff]) rfl ⟨rfl, R2.2⟩
end Go.Proofs.YtkmlbjlaahcahaaGreatDoor
namespace Go.Proofs.YtkmlbjlaahcahaaGreatDoor
set_option maxRecDepth 100000
open Go.RowKit WMath

theorem cell7t {w : World} {g : Nat} {T : TypeId} {a b : Value} (R : w.heap[g]? = some (.cells #[a, b] T)) : w.cell? ⟨g, 0, none⟩ = some a ∧ w.cell? ⟨g, 1, none⟩ = some b := ⟨cell7 R 0 _ rfl, cell7 R 1 _ rfl⟩
theorem kopn1 (w : World) (o : Obj) : (w.alloc o).heap[w.heap.size]? = some o ∧ Below w.heap.size w (w.alloc o) := ⟨heap_alloc_last _ _, (Below.refl _ _).alloc (Nat.le_refl _) _⟩
theorem kopn2 (w : World) (o1 o2 : Obj) : ((w.alloc o1).alloc o2).heap[w.heap.size]? = some o1 ∧ ((w.alloc o1).alloc o2).heap[w.heap.size + 1]? = some o2 ∧ Below w.heap.size w ((w.alloc o1).alloc o2) := by
  obtain ⟨r0, b⟩ := kopn1 w o1
  have z : (w.alloc o1).heap.size = w.heap.size + 1 := by simp only [size_al]
  exact ⟨by rw [heap_below _ _ _ (by omega)]; exact r0, by rw [← z]; exact heap_alloc_last _ _, b.alloc (by omega) _⟩
theorem k_from (x y pl : Nat) (v : Int) (hv : bits .or .u64 ((y : Int) / 2 ^ min pl 64) ((x : Int) / 2 ^ min (IntKind.u64.wrap ((pl : Int) - 64)).toNat 64) = v) (w : World) :
    Calls Tryz.prog 183 #[.agg #[.int .u64 (x : Nat), .int .u64 (y : Nat)], .int .u64 (pl : Nat)] w fun e w' => e = .returned (.int .u64 v) ∧ Below w.heap.size w w' := by
  subst hv
  go_enter Tryz.func183, Tryz.ntmps183
  go_wp2
  go_ret
  exact ⟨rfl, bal7 _ _⟩

theorem k_placed (x pl : Nat) (H L : Int) (hH : IntKind.u64.wrap ((x : Int) * 2 ^ min (IntKind.u64.wrap ((pl : Int) - 64)).toNat 64) = H) (hL : IntKind.u64.wrap ((x : Int) * 2 ^ min pl 64) = L) (w : World) :
    Calls Tryz.prog 120 #[.int .u64 (x : Nat), .int .u64 (pl : Nat)] w fun e w' => e = .returned (.agg #[.int .u64 H, .int .u64 L]) ∧ Below w.heap.size w w' := by
  subst hH hL
  go_enter Tryz.func120, Tryz.ntmps120
  go_wp2
  exact bodyPost_ret (v := .agg #[.int .u64 _, .int .u64 _]) (by simp [results, Tryz.results120, go_sem]; exact ⟨rfl, rfl⟩) rfl ⟨by simp, bal7 _ _⟩

theorem k_plus (a b c d H L K : Int) (hH : IntKind.u64.wrap (a + c) = H) (hL : IntKind.u64.wrap (b + d) = L) (hK : (if L < b then IntKind.u64.wrap (H + 1) else H) = K) (w : World) :
    Calls Tryz.prog 80 #[.agg #[.int .u64 a, .int .u64 b], .agg #[.int .u64 c, .int .u64 d]] w fun e w' => e = .returned (.agg #[.int .u64 K, .int .u64 L]) ∧ Below w.heap.size w w' := by
  by_cases h : L < b
  · rw [if_pos h] at hK
    have hd : decide (L < b) = true := decide_eq_true h
    go_enter Tryz.func80, Tryz.ntmps80
    go_wp2
    exact bodyPost_ret (v := .agg #[.int .u64 K, .int .u64 L]) (by simp [results, Tryz.results80, go_sem]) rfl ⟨rfl, btr7 (bal7 _ _) (btr7 (bal7 _ _) (btr7 (bal7 _ _) (bal7 _ _)))⟩
  · rw [if_neg h] at hK
    subst hK
    have hd : decide (L < b) = false := decide_eq_false h
    go_enter Tryz.func80, Tryz.ntmps80
    go_wp2
    exact bodyPost_ret (v := .agg #[.int .u64 H, .int .u64 L]) (by simp [results, Tryz.results80, go_sem]) rfl ⟨rfl, btr7 (bal7 _ _) (btr7 (bal7 _ _) (btr7 (bal7 _ _) (bal7 _ _)))⟩
theorem kb_width (f v : Int) (h0 : 0 ≤ f) (h1 : f ≤ 255) (hv : fW f = v) (w : World) (hT : FAt w) :
    Calls Tryz.prog 98 #[.int .u8 f] w fun e w' => e = .returned (.int .i64 v) ∧ Below w.heap.size w w' :=
  (s_width f v h0 h1 hv w hT).mono fun _ _ h => ⟨h.1, by rw [h.2]; exact bal7 _ _⟩
theorem kb_precision (f v : Int) (h0 : 0 ≤ f) (h1 : f ≤ 255) (hv : fP f = v) (w : World) (hT : FAt w) :
    Calls Tryz.prog 51 #[.int .u8 f] w fun e w' => e = .returned (.int .i64 v) ∧ Below w.heap.size w w' :=
  (s_precision f v h0 h1 hv w hT).mono fun _ _ h => ⟨h.1, by rw [h.2]; exact bal7 _ _⟩
theorem kb_emax (f v : Int) (h0 : 0 ≤ f) (h1 : f ≤ 255) (hv : fE f = v) (w : World) (hT : FAt w) :
    Calls Tryz.prog 49 #[.int .u8 f] w fun e w' => e = .returned (.int .i64 v) ∧ Below w.heap.size w w' :=
  (s_emax f v h0 h1 hv w hT).mono fun _ _ h => ⟨h.1, by rw [h.2]; exact bal7 _ _⟩
end Go.Proofs.YtkmlbjlaahcahaaGreatDoor
namespace Go.Proofs.YtkmlbjlaahcahaaGreatDoor
set_option maxRecDepth 100000
open Go.RowKit WMath
set_option linter.unusedSimpArgs false
set_option linter.unusedVariables false

def frm (n pl : Nat) : Nat := if pl < 64 then n % 18446744073709551616 / 2 ^ pl else n / 2 ^ pl
theorem or0 (a : Nat) (h : a < 18446744073709551616) : bits .or .u64 (a : Int) 0 = (a : Int) := by
  have := bits_or_u64_nat a 0 h (by decide)
  simpa using this
theorem or1 (a : Nat) (h : a < 18446744073709551616) : bits .or .u64 0 (a : Int) = (a : Int) := by
  have := bits_or_u64_nat 0 a (by decide) h
  simpa using this
theorem pow64 (k : Nat) : ((2 : Int) ^ k) = ((2 ^ k : Nat) : Int) := by norm_cast
theorem from_is (x y n pl : Nat) (hx : x < 18446744073709551616) (hy : y < 18446744073709551616) (hn : y + 18446744073709551616 * x = n) (hp : pl < 128) :
    bits .or .u64 ((y : Int) / 2 ^ min pl 64) ((x : Int) / 2 ^ min (IntKind.u64.wrap ((pl : Int) - 64)).toNat 64) = (frm n pl : Int) := by
  unfold frm
  rw [IntKind.wrap_u64]
  by_cases h : pl < 64
  · have e1 : min (((pl : Int) - 64) % 18446744073709551616).toNat 64 = 64 := by omega
    have e2 : min pl 64 = pl := by omega
    have e3 : ((x : Int) / 2 ^ 64) = 0 := by
      rw [show ((2 : Int) ^ 64) = 18446744073709551616 by decide]; omega
    have e4 : n % 18446744073709551616 = y := by omega
    rw [e1, e2, e3, if_pos h, e4, pow64, ← Int.natCast_ediv]
    exact or0 _ (Nat.lt_of_le_of_lt (Nat.div_le_self _ _) hy)
  · have e1 : min (((pl : Int) - 64) % 18446744073709551616).toNat 64 = pl - 64 := by omega
    have e2 : min pl 64 = 64 := by omega
    have e3 : ((y : Int) / 2 ^ 64) = 0 := by
      rw [show ((2 : Int) ^ 64) = 18446744073709551616 by decide]; omega
    have e4 : n / 2 ^ pl = x / 2 ^ (pl - 64) := by
      rw [show (2 : Nat) ^ pl = 18446744073709551616 * 2 ^ (pl - 64) by rw [show (18446744073709551616 : Nat) = 2 ^ 64 by decide, ← Nat.pow_add]; congr 1; omega, ← Nat.div_div_eq_div_mul]
      congr 1; omega
    rw [e1, e2, e3, if_neg h, e4, pow64, ← Int.natCast_ediv]
    exact or1 _ (Nat.lt_of_le_of_lt (Nat.div_le_self _ _) hx)
theorem kfrom_is (x y n pl v : Nat) (hx : x < 18446744073709551616) (hy : y < 18446744073709551616) (hn : y + 18446744073709551616 * x = n) (hp : pl < 128) (hv : frm n pl = v) (w : World) : Calls Tryz.prog 183 #[.agg #[.int .u64 (x : Nat), .int .u64 (y : Nat)], .int .u64 (pl : Nat)] w fun r w' => r = .returned (.int .u64 (v : Nat)) ∧ Below w.heap.size w w' := by
  subst hv
  exact k_from x y pl _ (from_is x y n pl hx hy hn hp) w

theorem and_one (a : Nat) (h : a < 18446744073709551616) : bits .and .u64 (a : Int) 1 = ((a % 2 : Nat) : Int) := and_mask a 1 h (by decide)
theorem frm_lt (n pl : Nat) (hn : n < 340282366920938463463374607431768211456) : frm n pl < 18446744073709551616 := by
  unfold frm
  split
  · exact Nat.lt_of_le_of_lt (Nat.div_le_self _ _) (Nat.mod_lt _ (by decide))
  · rename_i h
    have : (2 : Nat) ^ 64 ≤ 2 ^ pl := Nat.pow_le_pow_right (by decide) (by omega)
    rw [Nat.div_lt_iff_lt_mul (Nat.two_pow_pos _)]
    rw [show (2 : Nat) ^ 64 = 18446744073709551616 by decide] at this
    have h2 := Nat.mul_le_mul_left 18446744073709551616 this
    omega
theorem kbit_is (x y n pl : Nat) (o : Bool) (hx : x < 18446744073709551616) (hy : y < 18446744073709551616) (hn : y + 18446744073709551616 * x = n) (hp : pl < 128) (ho : decide (frm n pl % 2 = 1) = o) (w : World) : Calls Tryz.prog 97 #[.agg #[.int .u64 (x : Nat), .int .u64 (y : Nat)], .int .u64 (pl : Nat)] w fun r w' => r = .returned (.bool o) ∧ Below w.heap.size w w' := by
  obtain ⟨v, hv⟩ : ∃ v, frm n pl = v := ⟨_, rfl⟩
  rw [hv] at ho
  have KF := box (kfrom_is x y n pl v hx hy hn hp hv)
  have vl := frm_lt n pl (by omega)
  rw [hv] at vl
  have ha := and_one v vl
  have hd : (((v % 2 : Nat) : Int) == 1) = o := by rw [← ho]; by_cases h : v % 2 = 1 <;> simp [h] <;> omega
  obtain ⟨u, hu⟩ : ∃ u, v % 2 = u := ⟨_, rfl⟩
  rw [hu] at ha hd
  clear ho hv hn hx hy hp hu vl
  obtain ⟨Rb_0, B0⟩ := kopn1 w (Obj.cells #[.int .u64 (x : Nat), .int .u64 (y : Nat)] 25)
  go_enter Tryz.func97, Tryz.ntmps97
  go_wp2_with fail
  refine (KF.out _).mono ?_
  rintro r w1 ⟨rfl, b1⟩
  have B1 : Below w.heap.size w w1 := btr7 B0 b1
  have Rb_1 := heap_of b1 _ _ _ Rb_0
  clear b1 B0 Rb_0
  obtain ⟨cb_1_0, cb_1_1⟩ := cell7t Rb_1
  go_wp2
  go_ret
  exact ⟨rfl, B1⟩

theorem pV_lim {f : Int} (h : Is4 f) : fP f - 1 = (pV f : Int) ∧ IntKind.i64.wrap (fP f - 1) = (pV f : Int) ∧ IntKind.u64.wrap ((pV f : Nat) : Int) = (pV f : Int) ∧ pV f < 128 ∧ wV f < 128 ∧ fW f - 1 = (wV f : Int) ∧ IntKind.i64.wrap (fW f - 1) = (wV f : Int) ∧ IntKind.u64.wrap ((wV f : Nat) : Int) = (wV f : Int) := by
  rcases h with rfl | rfl | rfl | rfl <;> decide +kernel

theorem kfw (f : Int) (hf : Is4 f) (p : Nat) (hp : pV f = p) (w : World) (hT : FAt w) : Calls Tryz.prog 122 #[.int .u8 f] w fun r w' => r = .returned (.int .u64 (p : Nat)) ∧ Below w.heap.size w w' := by
  subst hp
  have f4 := is4_ok hf
  obtain ⟨_, a2, a3, _⟩ := pV_lim hf
  obtain ⟨P, hP⟩ : ∃ P, fP f = P := ⟨_, rfl⟩
  rw [hP] at a2
  obtain ⟨p, hp⟩ : ∃ p, pV f = p := ⟨_, rfl⟩
  rw [hp] at a2 a3 ⊢
  have TT := box hT
  have HP := box hP
  clear hT hf hp hP
  have B0 : Below w.heap.size w w := (Below.refl _ _)
  go_enter Tryz.func122, Tryz.ntmps122
  go_wp2_with fail
  refine ((kb_precision f P f4.1 f4.2.1 HP.out _ (fatB TT.out B0))).mono ?_
  rintro r w1 ⟨rfl, b1⟩
  have B1 : Below w.heap.size w w1 := btr7 B0 b1
  clear b1 B0 
  go_wp2
  go_ret
  exact ⟨rfl, B1⟩

/-- The exponent field and the fraction, as the words have them. -/
theorem field_of {f : Int} (h : Is4 f) (n : Nat) : frm n (pV f) % (oV f + 1) = kE f n := by
  unfold frm kE
  rcases h with rfl | rfl | rfl | rfl
  all_goals
    simp only [show pV 0 = 23 by decide, show wV 0 = 31 by decide, show oV 0 = 255 by decide, show pV 1 = 52 by decide, show wV 1 = 63 by decide, show oV 1 = 2047 by decide, show pV 2 = 10 by decide, show wV 2 = 15 by decide, show oV 2 = 31 by decide, show pV 3 = 112 by decide, show wV 3 = 127 by decide, show oV 3 = 32767 by decide]
    simp only [Nat.reducePow, Nat.reduceAdd, Nat.reduceLT, if_true, if_false]
    try omega
theorem sign_of {f : Int} (h : Is4 f) (n : Nat) : decide (frm n (wV f) % 2 = 1) = kN f n := by
  unfold frm kN
  rcases h with rfl | rfl | rfl | rfl
  all_goals
    simp only [show wV 0 = 31 by decide, show wV 1 = 63 by decide, show wV 2 = 15 by decide, show wV 3 = 127 by decide]
    simp only [Nat.reducePow, Nat.reduceAdd, Nat.reduceLT, if_true, if_false, decide_eq_decide]
    try omega
theorem quiet_of {f : Int} (h : Is4 f) (t : Nat) (ht : t < 2 ^ pV f) : decide (frm t (pV f - 1) % 2 = 1) = decide (2 ^ (pV f - 1) ≤ t) := by
  unfold frm
  rcases h with rfl | rfl | rfl | rfl
  all_goals
    simp only [show pV 0 = 23 by decide, show pV 1 = 52 by decide, show pV 2 = 10 by decide, show pV 3 = 112 by decide] at ht ⊢
    simp only [Nat.reducePow, Nat.reduceAdd, Nat.reduceSub, Nat.reduceLT, if_true, if_false, decide_eq_decide] at ht ⊢
    omega
theorem top_mask {f : Int} (h : Is4 f) : IntKind.i64.wrap (fW f - fP f) = fW f - fP f ∧ 0 ≤ fW f - fP f ∧ IntKind.u64.wrap (IntKind.u64.wrap (2 ^ min (fW f - fP f).toNat 64) - 1) = (oV f : Int) ∧ oV f = 2 ^ (fW f - fP f).toNat - 1 ∧ (fW f - fP f).toNat ≤ 64 := by
  rcases h with rfl | rfl | rfl | rfl <;> decide +kernel
set_option maxHeartbeats 1000000 in
theorem kfield_is (f : Int) (hf : Is4 f) (x y n e : Nat) (hx : x < 18446744073709551616) (hy : y < 18446744073709551616) (hn : y + 18446744073709551616 * x = n) (he : kE f n = e) (w : World) (hT : FAt w) : Calls Tryz.prog 154 #[.int .u8 f, .agg #[.int .u64 (x : Nat), .int .u64 (y : Nat)]] w fun r w' => r = .returned (.int .u64 (e : Nat)) ∧ Below w.heap.size w w' := by
  have f4 := is4_ok hf
  obtain ⟨_, _, _, a4, _⟩ := pV_lim hf
  obtain ⟨t1, t2, t3, t4, t5⟩ := top_mask hf
  obtain ⟨v, hv⟩ : ∃ v, frm n (pV f) = v := ⟨_, rfl⟩
  have KF := box (kfrom_is x y n (pV f) v hx hy hn a4 hv)
  have vl := frm_lt n (pV f) (by omega)
  rw [hv] at vl
  have ha : bits .and .u64 (v : Int) (oV f : Int) = (e : Int) := by
    have := and_mask v (fW f - fP f).toNat vl t5
    rw [← t4] at this
    rw [this, ← he, ← field_of hf, hv, t4]
    have := Nat.two_pow_pos (fW f - fP f).toNat
    rw [Nat.sub_add_cancel this]
  obtain ⟨q, hq⟩ : ∃ q, fW f = q := ⟨_, rfl⟩
  obtain ⟨p, hp⟩ : ∃ q, fP f = q := ⟨_, rfl⟩
  obtain ⟨k, hk⟩ : ∃ q, pV f = q := ⟨_, rfl⟩
  obtain ⟨o, ho⟩ : ∃ q, oV f = q := ⟨_, rfl⟩
  rw [hq, hp] at t1 t2 t3
  rw [ho] at t3 ha
  rw [hk] at KF
  obtain ⟨d, hd⟩ : ∃ d, q - p = d := ⟨_, rfl⟩
  rw [hd] at t2 t3
  have t1' : IntKind.i64.wrap (q - p) = d := t1.trans hd
  obtain ⟨m, rfl⟩ := Int.eq_ofNat_of_zero_le t2
  rw [Int.toNat_natCast] at t3
  have TT := box hT
  have HQ := box hq
  have HP := box hp
  have HK := box hk
  have HF := box hf
  clear hT hf hq hp hk ho hv hn hx hy he vl t1 t2 t4 t5 a4 hd
  obtain ⟨Rb_0, B0⟩ := kopn1 w (Obj.cells #[.int .u64 (x : Nat), .int .u64 (y : Nat)] 25)
  go_enter Tryz.func154, Tryz.ntmps154
  go_wp2_with fail
  refine (kb_width f q f4.1 f4.2.1 HQ.out _ (fatB TT.out B0)).mono ?_
  rintro r w1 ⟨rfl, b1⟩
  have B1 : Below w.heap.size w w1 := btr7 B0 b1
  have Rb_1 := heap_of b1 _ _ _ Rb_0
  clear b1 B0 Rb_0
  obtain ⟨cb_1_0, cb_1_1⟩ := cell7t Rb_1
  go_wp2_with fail
  refine (kb_precision f p f4.1 f4.2.1 HP.out _ (fatB TT.out B1)).mono ?_
  rintro r w2 ⟨rfl, b2⟩
  have B2 : Below w.heap.size w w2 := btr7 B1 b2
  have Rb_2 := heap_of b2 _ _ _ Rb_1
  clear b2 B1 Rb_1 cb_1_0 cb_1_1
  obtain ⟨cb_2_0, cb_2_1⟩ := cell7t Rb_2
  go_wp2_with fail
  obtain ⟨F, hF1, hF2⟩ := below_fun w2
  have fb_0 := fun u => cell7 (heap_of (hF1 u) _ _ _ Rb_2) 0 _ rfl
  have fb_1 := fun u => cell7 (heap_of (hF1 u) _ _ _ Rb_2) 1 _ rfl
  have TF : Box (∀ u, FAt (F u)) := box (fun u => fatB TT.out (btr7 B2 (hF1 u)))
  refine wp_region_below F hF2 (by kernel_rfl) (by kernel_rfl) ?_
  repeat first | go_big_quiet_step (first | (go_at_call 122; exact quietF hF1 hF2 (kfw f HF.out k HK.out _ (TF.out _))) | (go_at_call 183; exact quietF hF1 hF2 (KF.out _)) | fail) | quiet_step (first | (go_at_call 122; exact quietF hF1 hF2 (kfw f HF.out k HK.out _ (TF.out _))) | (go_at_call 183; exact quietF hF1 hF2 (KF.out _)) | fail)
  refine wpQuiet_nil ?_
  rintro _ ⟨uW, rfl⟩
  have B3 := btr7 B2 (hF1 uW)
  have Rb_3 := heap_of (hF1 uW) _ _ _ Rb_2
  obtain ⟨w3, hw⟩ : ∃ V, F uW = V := ⟨_, rfl⟩
  rw [hw] at B3 Rb_3
  try rw [hw]
  clear hw hF1 hF2 B2 fb_0 fb_1 Rb_2 cb_2_0 cb_2_1
  clear TF
  clear F
  obtain ⟨cb_3_0, cb_3_1⟩ := cell7t Rb_3
  go_wp2
  go_ret
  exact ⟨rfl, B3⟩
end Go.Proofs.YtkmlbjlaahcahaaGreatDoor
namespace Go.Proofs.YtkmlbjlaahcahaaGreatDoor
set_option maxRecDepth 100000
open Go.RowKit WMath
set_option linter.unusedSimpArgs false
set_option linter.unusedVariables false

theorem and_zero (a : Nat) (h : a < 18446744073709551616) : bits .and .u64 (a : Int) 0 = 0 := by
  have := and_mask a 0 h (by decide)
  simpa [Nat.mod_one] using this
theorem and_at (a k : Nat) (m : Int) (v : Nat) (h : a < 18446744073709551616) (hk : k ≤ 64) (hm : ((2 ^ k - 1 : Nat) : Int) = m) (hv : a % 2 ^ k = v) : bits .and .u64 (a : Int) m = (v : Int) := by
  subst hm hv
  exact and_mask a k h hk
set_option maxHeartbeats 1000000 in
theorem kfraction_is (f : Int) (hf : Is4 f) (x y n u v : Nat) (hx : x < 18446744073709551616) (hy : y < 18446744073709551616) (hn : y + 18446744073709551616 * x = n) (hv : bv7 (kT f n) = (u, v)) (w : World) (hT : FAt w) : Calls Tryz.prog 150 #[.int .u8 f, .agg #[.int .u64 (x : Nat), .int .u64 (y : Nat)]] w fun r w' => r = .returned (.agg #[.int .u64 (u : Nat), .int .u64 (v : Nat)]) ∧ Below w.heap.size w w' := by
  unfold bv7 kT at hv
  injection hv with h1 h2
  have TT := box hT
  rcases hf with rfl | rfl | rfl | rfl
  · rw [show pV 0 = 23 by decide] at h1 h2
    have hm : max (23 : Int) 64 = 64 := by decide
    have a1 := and_zero x hx
    have a2 := and_at y 23 8388607 v hy (by decide) (by decide) (by rw [← h2, ← hn]; simp only [Nat.reducePow]; omega)
    have u0 : u = 0 := by rw [← h1]; simp only [Nat.reducePow]; omega
    subst u0
    clear hT h1 h2 hn hx hy
    obtain ⟨Rb_0, Rz_0, B0⟩ := kopn2 w (Obj.cells #[.int .u64 (x : Nat), .int .u64 (y : Nat)] 25) (Obj.cells #[.int .u64 0, .int .u64 0] 25)
    go_enter Tryz.func150, Tryz.ntmps150
    go_wp2_with fail
    refine (kfw 0 (Or.inl rfl) 23 (by decide) _ (fatB TT.out B0)).mono ?_
    rintro r w1 ⟨rfl, b1⟩
    have B1 : Below w.heap.size w w1 := btr7 B0 b1
    have Rb_1 := heap_of b1 _ _ _ Rb_0
    have Rz_1 := heap_of b1 _ _ _ Rz_0
    clear b1 B0 Rb_0 Rz_0
    obtain ⟨cb_1_0, cb_1_1⟩ := cell7t Rb_1
    obtain ⟨cz_1_0, cz_1_1⟩ := cell7t Rz_1
    have q0 := fz (k := 0) Rz_1
    have q1 := fz (k := 1) Rz_1
    obtain ⟨E0, E1⟩ := set2_cells Rz_1 (.int .u64 0) (.int .u64 (v : Nat))
    go_wp2
    exact bodyPost_ret (v := .agg #[.int .u64 0, .int .u64 (v : Nat)]) (by simp [results, Tryz.results150, go_sem, E0, E1]) rfl ⟨rfl, set2_below B1 (by first | exact Nat.le_refl _ | omega | (skip; omega)) _ _⟩
  · rw [show pV 1 = 52 by decide] at h1 h2
    have hm : max (52 : Int) 64 = 64 := by decide
    have a1 := and_zero x hx
    have a2 := and_at y 52 4503599627370495 v hy (by decide) (by decide) (by rw [← h2, ← hn]; simp only [Nat.reducePow]; omega)
    have u0 : u = 0 := by rw [← h1]; simp only [Nat.reducePow]; omega
    subst u0
    clear hT h1 h2 hn hx hy
    obtain ⟨Rb_0, Rz_0, B0⟩ := kopn2 w (Obj.cells #[.int .u64 (x : Nat), .int .u64 (y : Nat)] 25) (Obj.cells #[.int .u64 0, .int .u64 0] 25)
    go_enter Tryz.func150, Tryz.ntmps150
    go_wp2_with fail
    refine (kfw 1 (Or.inr (Or.inl rfl)) 52 (by decide) _ (fatB TT.out B0)).mono ?_
    rintro r w1 ⟨rfl, b1⟩
    have B1 : Below w.heap.size w w1 := btr7 B0 b1
    have Rb_1 := heap_of b1 _ _ _ Rb_0
    have Rz_1 := heap_of b1 _ _ _ Rz_0
    clear b1 B0 Rb_0 Rz_0
    obtain ⟨cb_1_0, cb_1_1⟩ := cell7t Rb_1
    obtain ⟨cz_1_0, cz_1_1⟩ := cell7t Rz_1
    have q0 := fz (k := 0) Rz_1
    have q1 := fz (k := 1) Rz_1
    obtain ⟨E0, E1⟩ := set2_cells Rz_1 (.int .u64 0) (.int .u64 (v : Nat))
    go_wp2
    exact bodyPost_ret (v := .agg #[.int .u64 0, .int .u64 (v : Nat)]) (by simp [results, Tryz.results150, go_sem, E0, E1]) rfl ⟨rfl, set2_below B1 (by first | exact Nat.le_refl _ | omega | (skip; omega)) _ _⟩
  · rw [show pV 2 = 10 by decide] at h1 h2
    have hm : max (10 : Int) 64 = 64 := by decide
    have a1 := and_zero x hx
    have a2 := and_at y 10 1023 v hy (by decide) (by decide) (by rw [← h2, ← hn]; simp only [Nat.reducePow]; omega)
    have u0 : u = 0 := by rw [← h1]; simp only [Nat.reducePow]; omega
    subst u0
    clear hT h1 h2 hn hx hy
    obtain ⟨Rb_0, Rz_0, B0⟩ := kopn2 w (Obj.cells #[.int .u64 (x : Nat), .int .u64 (y : Nat)] 25) (Obj.cells #[.int .u64 0, .int .u64 0] 25)
    go_enter Tryz.func150, Tryz.ntmps150
    go_wp2_with fail
    refine (kfw 2 (Or.inr (Or.inr (Or.inl rfl))) 10 (by decide) _ (fatB TT.out B0)).mono ?_
    rintro r w1 ⟨rfl, b1⟩
    have B1 : Below w.heap.size w w1 := btr7 B0 b1
    have Rb_1 := heap_of b1 _ _ _ Rb_0
    have Rz_1 := heap_of b1 _ _ _ Rz_0
    clear b1 B0 Rb_0 Rz_0
    obtain ⟨cb_1_0, cb_1_1⟩ := cell7t Rb_1
    obtain ⟨cz_1_0, cz_1_1⟩ := cell7t Rz_1
    have q0 := fz (k := 0) Rz_1
    have q1 := fz (k := 1) Rz_1
    obtain ⟨E0, E1⟩ := set2_cells Rz_1 (.int .u64 0) (.int .u64 (v : Nat))
    go_wp2
    exact bodyPost_ret (v := .agg #[.int .u64 0, .int .u64 (v : Nat)]) (by simp [results, Tryz.results150, go_sem, E0, E1]) rfl ⟨rfl, set2_below B1 (by first | exact Nat.le_refl _ | omega | (skip; omega)) _ _⟩
  · rw [show pV 3 = 112 by decide] at h1 h2
    have hm : max (112 : Int) 64 = 112 := by decide
    have hm2 : IntKind.u64.wrap (IntKind.u64.wrap 18446744073709551616 - 1) = 18446744073709551615 := by decide
    have a1 := and_at x 48 281474976710655 u hx (by decide) (by decide) (by rw [← h1, ← hn]; simp only [Nat.reducePow]; omega)
    have a2 := and_at y 64 18446744073709551615 v hy (by decide) (by decide) (by rw [← h2, ← hn]; simp only [Nat.reducePow]; omega)
    clear hT h1 h2 hn hx hy
    obtain ⟨Rb_0, Rz_0, B0⟩ := kopn2 w (Obj.cells #[.int .u64 (x : Nat), .int .u64 (y : Nat)] 25) (Obj.cells #[.int .u64 0, .int .u64 0] 25)
    go_enter Tryz.func150, Tryz.ntmps150
    go_wp2_with fail
    refine (kfw 3 (Or.inr (Or.inr (Or.inr rfl))) 112 (by decide) _ (fatB TT.out B0)).mono ?_
    rintro r w1 ⟨rfl, b1⟩
    have B1 : Below w.heap.size w w1 := btr7 B0 b1
    have Rb_1 := heap_of b1 _ _ _ Rb_0
    have Rz_1 := heap_of b1 _ _ _ Rz_0
    clear b1 B0 Rb_0 Rz_0
    obtain ⟨cb_1_0, cb_1_1⟩ := cell7t Rb_1
    obtain ⟨cz_1_0, cz_1_1⟩ := cell7t Rz_1
    have q0 := fz (k := 0) Rz_1
    have q1 := fz (k := 1) Rz_1
    obtain ⟨E0, E1⟩ := set2_cells Rz_1 (.int .u64 (u : Nat)) (.int .u64 (v : Nat))
    go_wp2
    exact bodyPost_ret (v := .agg #[.int .u64 (u : Nat), .int .u64 (v : Nat)]) (by simp [results, Tryz.results150, go_sem, E0, E1]) rfl ⟨rfl, set2_below B1 (by first | exact Nat.le_refl _ | omega | (skip; omega)) _ _⟩

theorem ksign_is (f : Int) (hf : Is4 f) (x y n : Nat) (o : Bool) (hx : x < 18446744073709551616) (hy : y < 18446744073709551616) (hn : y + 18446744073709551616 * x = n) (ho : kN f n = o) (w : World) (hT : FAt w) : Calls Tryz.prog 37 #[.int .u8 f, .agg #[.int .u64 (x : Nat), .int .u64 (y : Nat)]] w fun r w' => r = .returned (.bool o) ∧ Below w.heap.size w w' := by
  have f4 := is4_ok hf
  obtain ⟨_, _, _, _, a5, a6, a7, a8⟩ := pV_lim hf
  have KB := box (kbit_is x y n (wV f) o hx hy hn a5 (by rw [sign_of hf, ho]))
  obtain ⟨q, hq⟩ : ∃ q, fW f = q := ⟨_, rfl⟩
  obtain ⟨k, hk⟩ : ∃ q, wV f = q := ⟨_, rfl⟩
  rw [hq, hk] at a7
  rw [hk] at KB a8
  have TT := box hT
  have HQ := box hq
  clear hT hf hq hk hn hx hy ho a5 a6
  obtain ⟨Rb_0, B0⟩ := kopn1 w (Obj.cells #[.int .u64 (x : Nat), .int .u64 (y : Nat)] 25)
  go_enter Tryz.func37, Tryz.ntmps37
  go_wp2_with fail
  obtain ⟨F, hF1, hF2⟩ := below_fun (w.alloc (Obj.cells #[.int .u64 (x : Nat), .int .u64 (y : Nat)] 25))
  have fb_0 := fun u => cell7 (heap_of (hF1 u) _ _ _ Rb_0) 0 _ rfl
  have fb_1 := fun u => cell7 (heap_of (hF1 u) _ _ _ Rb_0) 1 _ rfl
  have TF : Box (∀ u, FAt (F u)) := box (fun u => fatB TT.out (btr7 B0 (hF1 u)))
  refine wp_region_below F hF2 (by kernel_rfl) (by kernel_rfl) ?_
  repeat first | go_big_quiet_step (first | (go_at_call 98; exact quietF hF1 hF2 (kb_width f q f4.1 f4.2.1 HQ.out _ (TF.out _))) | (go_at_call 97; exact quietF hF1 hF2 (KB.out _)) | fail) | quiet_step (first | (go_at_call 98; exact quietF hF1 hF2 (kb_width f q f4.1 f4.2.1 HQ.out _ (TF.out _))) | (go_at_call 97; exact quietF hF1 hF2 (KB.out _)) | fail)
  refine wpQuiet_nil ?_
  rintro _ ⟨uW, rfl⟩
  have B1 := btr7 B0 (hF1 uW)
  have Rb_1 := heap_of (hF1 uW) _ _ _ Rb_0
  obtain ⟨w1, hw⟩ : ∃ V, F uW = V := ⟨_, rfl⟩
  rw [hw] at B1 Rb_1
  try rw [hw]
  clear hw hF1 hF2 B0 fb_0 fb_1 Rb_0
  clear TF
  clear F
  obtain ⟨cb_1_0, cb_1_1⟩ := cell7t Rb_1
  go_wp2
  go_ret
  exact ⟨rfl, B1⟩

theorem lx_lim {f : Int} (h : Is4 f) : IntKind.i64.wrap (1 - fE f - fP f) = 1 - fE f - fP f ∧ IntKind.i64.wrap (1 - fE f - fP f + 1) = lx f ∧ lx f ≤ 0 ∧ -16494 ≤ lx f ∧ lx f = 1 - fE f - fP f + 1 := by
  rcases h with rfl | rfl | rfl | rfl <;> decide +kernel
theorem kleast_is (f : Int) (hf : Is4 f) (v : Int) (hv : lx f = v) (w : World) (hT : FAt w) : Calls Tryz.prog 121 #[.int .u8 f] w fun r w' => r = .returned (.int .i64 v) ∧ Below w.heap.size w w' := by
  have f4 := is4_ok hf
  obtain ⟨a1, a2, _⟩ := lx_lim hf
  rw [hv] at a2
  obtain ⟨p, hp⟩ : ∃ q, fP f = q := ⟨_, rfl⟩
  obtain ⟨m, hm⟩ : ∃ q, 1 - fE f = q := ⟨_, rfl⟩
  rw [hm, hp] at a1 a2
  have TT := box hT
  have HP := box hp
  have HM := box hm
  clear hT hf hv hp hm
  have B0 : Below w.heap.size w w := (Below.refl _ _)
  go_enter Tryz.func121, Tryz.ntmps121
  go_wp2_with fail
  refine (s_emin f _ m f4.1 f4.2.1 rfl (by rw [if_pos f4.2.2.1]; exact HM.out) _ (fatB TT.out B0)).mono ?_
  rintro r w1 ⟨rfl, b1⟩
  have B1 : Below w.heap.size w w1 := btr7 B0 b1
  clear b1 B0 
  go_wp2_with fail
  refine (kb_precision f p f4.1 f4.2.1 HP.out _ (fatB TT.out B1)).mono ?_
  rintro r w2 ⟨rfl, b2⟩
  have B2 : Below w.heap.size w w2 := btr7 B1 b2
  clear b2 B1 
  go_wp2
  go_ret
  exact ⟨rfl, B2⟩
end Go.Proofs.YtkmlbjlaahcahaaGreatDoor
namespace Go.Proofs.YtkmlbjlaahcahaaGreatDoor
set_option maxRecDepth 100000
open Go.RowKit WMath
set_option linter.unusedSimpArgs false
set_option linter.unusedVariables false

theorem xor_words (n m : Nat) : bv7 (n ^^^ m) = (n / 18446744073709551616 ^^^ m / 18446744073709551616, n % 18446744073709551616 ^^^ m % 18446744073709551616) := by
  unfold bv7
  rw [show (18446744073709551616 : Nat) = 2 ^ 64 by decide, Nat.xor_div_two_pow, Nat.xor_mod_two_pow]
theorem words_of {x y n : Nat} (hy : y < 18446744073709551616) (hn : y + 18446744073709551616 * x = n) : n / 18446744073709551616 = x ∧ n % 18446744073709551616 = y := by omega
theorem sk_zero (f : Int) (neg : Bool) (hf : Is4 f) (u v : Nat) (hv : bv7 (eZero f neg) = (u, v)) (w : World) (hT : FAt w) : Calls Tryz.prog 28 #[.int .u8 f, .bool neg] w fun r w' => r = .returned (.agg #[.int .u64 (u : Nat), .int .u64 (v : Nat)]) ∧ Below w.heap.size w w' := by
  have := s_zero f neg hf _ rfl w hT
  rw [hv] at this
  exact this
theorem sk_inf (f : Int) (neg : Bool) (hf : Is4 f) (u v : Nat) (hv : bv7 (eInf f neg) = (u, v)) (w : World) (hT : FAt w) : Calls Tryz.prog 25 #[.int .u8 f, .bool neg] w fun r w' => r = .returned (.agg #[.int .u64 (u : Nat), .int .u64 (v : Nat)]) ∧ Below w.heap.size w w' := by
  have := s_inf f neg hf _ rfl w hT
  rw [hv] at this
  exact this
theorem sk_least (f : Int) (neg : Bool) (hf : Is4 f) (u v : Nat) (hv : bv7 (eLeast f neg) = (u, v)) (w : World) (hT : FAt w) : Calls Tryz.prog 27 #[.int .u8 f, .bool neg] w fun r w' => r = .returned (.agg #[.int .u64 (u : Nat), .int .u64 (v : Nat)]) ∧ Below w.heap.size w w' := by
  have := s_least f neg hf _ rfl w hT
  rw [hv] at this
  exact this
theorem ezero_is (f : Int) : eZero f true = 2 ^ wV f := by unfold eZero enc7; rw [if_pos rfl]; simp
theorem ksigned_is (f : Int) (hf : Is4 f) (x y n u v : Nat) (neg : Bool) (hx : x < 18446744073709551616) (hy : y < 18446744073709551616) (hn : y + 18446744073709551616 * x = n) (hv : bv7 (sgB f n neg) = (u, v)) (w : World) (hT : FAt w) : Calls Tryz.prog 53 #[.int .u8 f, .agg #[.int .u64 (x : Nat), .int .u64 (y : Nat)], .bool neg] w fun r w' => r = .returned (.agg #[.int .u64 (u : Nat), .int .u64 (v : Nat)]) ∧ Below w.heap.size w w' := by
  obtain ⟨n1, n2⟩ := words_of hy hn
  unfold sgB at hv
  cases neg
  · simp only [Bool.false_eq_true, if_false] at hv
    unfold bv7 at hv
    rw [n1, n2] at hv
    injection hv with h1 h2
    subst h1 h2
    clear hn hT hf hx hy n1 n2
    obtain ⟨Rb_0, Rz_0, B0⟩ := kopn2 w (Obj.cells #[.int .u64 (x : Nat), .int .u64 (y : Nat)] 25) (Obj.cells #[.int .u64 0, .int .u64 0] 25)
    go_enter Tryz.func53, Tryz.ntmps53
    clear B0 Rb_0 Rz_0
    go_wp2
    exact bodyPost_ret (v := .agg #[.int .u64 (x : Nat), .int .u64 (y : Nat)]) (by simp [results, Tryz.results53, go_sem]) rfl ⟨rfl, (((Below.refl _ _).alloc (by first | omega | (simp only [size_al]; omega)) _).alloc (by first | omega | (simp only [size_al]; omega)) _)⟩
  · rw [if_pos rfl, xor_words, n1, n2] at hv
    injection hv with h1 h2
    obtain ⟨s, t, hst⟩ : ∃ s t, bv7 (eZero f true) = (s, t) := ⟨_, _, rfl⟩
    have KZ := box (sk_zero f true hf s t hst)
    rw [ezero_is] at hst
    unfold bv7 at hst
    injection hst with s1 s2
    rw [s1] at h1
    rw [s2] at h2
    have hs : s < 18446744073709551616 ∧ t < 18446744073709551616 := by
      have := (fm hf).2.2.2.2.2.2
      omega
    have a1 : bits .xor .u64 (x : Int) (s : Int) = (u : Int) := by rw [← h1]; exact bits_xor_u64_nat x s hx hs.1
    have a2 : bits .xor .u64 (y : Int) (t : Int) = (v : Int) := by rw [← h2]; exact bits_xor_u64_nat y t hy hs.2
    have TT := box hT
    clear hn hT hf hx hy n1 n2 s1 s2 h1 h2 hs
    obtain ⟨Rb_0, Rz_0, B0⟩ := kopn2 w (Obj.cells #[.int .u64 (x : Nat), .int .u64 (y : Nat)] 25) (Obj.cells #[.int .u64 0, .int .u64 0] 25)
    go_enter Tryz.func53, Tryz.ntmps53
    go_wp2_with fail
    refine (KZ.out _ (fatB TT.out B0)).mono ?_
    rintro r w1 ⟨rfl, b1⟩
    have B1 : Below w.heap.size w w1 := btr7 B0 b1
    have Rb_1 := heap_of b1 _ _ _ Rb_0
    have Rz_1 := heap_of b1 _ _ _ Rz_0
    clear b1 B0 Rb_0 Rz_0
    obtain ⟨cb_1_0, cb_1_1⟩ := cell7t Rb_1
    obtain ⟨cz_1_0, cz_1_1⟩ := cell7t Rz_1
    have S2 := box B1.size
    have Lb_2 : Box (w.heap.size < w1.heap.size) := box (Array.getElem?_eq_some_iff.1 Rb_1).1
    have Lz_2 : Box (w.heap.size + 1 < w1.heap.size) := box (Array.getElem?_eq_some_iff.1 Rz_1).1
    have Rs_2 := heap_alloc_last w1 (Obj.cells #[.int .u64 (s : Nat), .int .u64 (t : Nat)] 25)
    have B2 := btr7 B1 (bal7 w1 (Obj.cells #[.int .u64 (s : Nat), .int .u64 (t : Nat)] 25))
    have Rb_2 := heap_of (bal7 w1 (Obj.cells #[.int .u64 (s : Nat), .int .u64 (t : Nat)] 25)) _ _ _ Rb_1
    have Rz_2 := heap_of (bal7 w1 (Obj.cells #[.int .u64 (s : Nat), .int .u64 (t : Nat)] 25)) _ _ _ Rz_1
    clear B1 Rb_1 cb_1_0 cb_1_1 Rz_1 cz_1_0 cz_1_1
    obtain ⟨cb_2_0, cb_2_1⟩ := cell7t Rb_2
    obtain ⟨cz_2_0, cz_2_1⟩ := cell7t Rz_2
    obtain ⟨cs_2_0, cs_2_1⟩ := cell7t Rs_2
    have q0 := fz (k := 0) Rz_2
    have q1 := fz (k := 1) Rz_2
    obtain ⟨E0, E1⟩ := set2_cells Rz_2 (.int .u64 (u : Nat)) (.int .u64 (v : Nat))
    go_wp2
    exact bodyPost_ret (v := .agg #[.int .u64 (u : Nat), .int .u64 (v : Nat)]) (by simp [results, Tryz.results53, go_sem, E0, E1]) rfl ⟨rfl, set2_below B2 (by first | exact Nat.le_refl _ | omega | (have := S2.out; have := Lb_2.out; have := Lz_2.out; omega)) _ _⟩

theorem plus_num (x y x' y' n n' u v : Nat) (hx : x < 18446744073709551616) (hy : y < 18446744073709551616) (hn : y + 18446744073709551616 * x = n) (hx' : x' < 18446744073709551616) (hy' : y' < 18446744073709551616) (hn' : y' + 18446744073709551616 * x' = n') (hv : bv7 ((n + n') % 340282366920938463463374607431768211456) = (u, v)) :
    IntKind.u64.wrap ((y : Int) + (y' : Int)) = (v : Int) ∧ (if (v : Int) < (y : Int) then IntKind.u64.wrap (IntKind.u64.wrap ((x : Int) + (x' : Int)) + 1) else IntKind.u64.wrap ((x : Int) + (x' : Int))) = (u : Int) := by
  unfold bv7 at hv
  injection hv with h1 h2
  simp only [IntKind.wrap_u64]
  refine ⟨by omega, ?_⟩
  split <;> omega
theorem kplus_is (x y x' y' n n' u v : Nat) (hx : x < 18446744073709551616) (hy : y < 18446744073709551616) (hn : y + 18446744073709551616 * x = n) (hx' : x' < 18446744073709551616) (hy' : y' < 18446744073709551616) (hn' : y' + 18446744073709551616 * x' = n') (hv : bv7 ((n + n') % 340282366920938463463374607431768211456) = (u, v)) (w : World) : Calls Tryz.prog 80 #[.agg #[.int .u64 (x : Nat), .int .u64 (y : Nat)], .agg #[.int .u64 (x' : Nat), .int .u64 (y' : Nat)]] w fun r w' => r = .returned (.agg #[.int .u64 (u : Nat), .int .u64 (v : Nat)]) ∧ Below w.heap.size w w' := by
  obtain ⟨h1, h2⟩ := plus_num x y x' y' n n' u v hx hy hn hx' hy' hn' hv
  exact k_plus _ _ _ _ _ _ _ rfl h1 h2 w
def plG (u pl : Nat) : Nat := if pl < 64 then u * 2 ^ pl % 18446744073709551616 else (u * 2 ^ (pl - 64) % 18446744073709551616) * 18446744073709551616
theorem kplaced_is (x pl u v : Nat) (hx : x < 18446744073709551616) (hp : pl < 128) (hv : bv7 (plG x pl) = (u, v)) (w : World) : Calls Tryz.prog 120 #[.int .u64 (x : Nat), .int .u64 (pl : Nat)] w fun r w' => r = .returned (.agg #[.int .u64 (u : Nat), .int .u64 (v : Nat)]) ∧ Below w.heap.size w w' := by
  unfold bv7 plG at hv
  injection hv with h1 h2
  have e64 : ((2 : Int) ^ 64) = 18446744073709551616 := by decide
  refine k_placed x pl _ _ ?_ ?_ w
  · rw [IntKind.wrap_u64, IntKind.wrap_u64]
    by_cases h : pl < 64
    · rw [if_pos h] at h1
      rw [show min (((pl : Int) - 64) % 18446744073709551616).toNat 64 = 64 by omega, e64]
      have := Nat.mod_lt (x * 2 ^ pl) (show 18446744073709551616 > 0 by decide)
      omega
    · rw [if_neg h] at h1
      rw [show min (((pl : Int) - 64) % 18446744073709551616).toNat 64 = pl - 64 by omega, pow64, ← Int.natCast_mul]
      omega
  · rw [IntKind.wrap_u64]
    by_cases h : pl < 64
    · rw [if_pos h] at h2
      rw [show min pl 64 = pl by omega, pow64, ← Int.natCast_mul]
      omega
    · rw [if_neg h] at h2
      rw [show min pl 64 = 64 by omega, e64]
      omega
theorem plG_is {f : Int} (h : Is4 f) (u : Nat) : plG u (pV f) = plN f u := by
  unfold plG plN
  rcases h with rfl | rfl | rfl | rfl
  · rw [show pV 0 = 23 by decide, if_pos (by decide), if_neg (by decide)]
  · rw [show pV 1 = 52 by decide, if_pos (by decide), if_neg (by decide)]
  · rw [show pV 2 = 10 by decide, if_pos (by decide), if_neg (by decide)]
  · rw [show pV 3 = 112 by decide, if_neg (by decide), if_pos rfl]
    simp only [Nat.reducePow, Nat.reduceSub]
    omega
end Go.Proofs.YtkmlbjlaahcahaaGreatDoor
