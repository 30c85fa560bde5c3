/-
  What the functions that the statement reaches return: part 18 (VA, VB, VC).
-/
import Derived.Test.YtkmlbjlaahcahaaGreatDoorNa17
namespace Go.Proofs.YtkmlbjlaahcahaaGreatDoor
set_option maxRecDepth 100000
open Go.RowKit WMath XMath
set_option linter.unusedSimpArgs false
set_option linter.unusedVariables false

theorem nb_p {f : Int} (hf : Is4 f) : 2 * 2 ^ pV f ≤ 2 ^ 128 ∧ (oV f : Int) = 2 * fE f + 1 ∧ fE f ≤ 16383 ∧ 0 ≤ fE f ∧ lx f = 1 - fE f - (pV f : Int) ∧ pV f < 128 ∧ 3 ≤ oV f := by
  obtain ⟨n1, n2, n3, n4, n5, n6⟩ := nm8 hf
  obtain ⟨g1, g2, g3, g4, g5, g6, g7⟩ := fm hf
  have oe : (oV f : Int) = 2 * fE f + 1 := by unfold oV; omega
  refine ⟨?_, oe, n5, n6, n3, n4, g5⟩
  have := Nat.pow_le_pow_right (show 0 < 2 by decide) (show pV f + 1 ≤ 128 by omega)
  rw [Nat.pow_succ] at this
  omega
theorem vX_enc {f : Int} (hf : Is4 f) (neg : Bool) (e t : Nat) (he : e < oV f) (ht : t < 2 ^ pV f) :
    (0 < kC f (enc7 f neg e t) ∧ kC f (enc7 f neg e t) < 7) ∧ (vX f (enc7 f neg e t)).can ∧ (vX f (enc7 f neg e t)).val = sgn neg * ((sV f e t : Nat) : Rat) * (2 : Rat) ^ (xV f e) ∧ Bd (vX f (enc7 f neg e t)) 128 20200 ∧
    (sV f e t = 0 → vX f (enc7 f neg e t) = X0) ∧ (sV f e t ≠ 0 → (vX f (enc7 f neg e t)).n ≠ 0 ∧ (vX f (enc7 f neg e t)).b = neg) := by
  obtain ⟨p1, p2', p3, p4, p5, p6, p7⟩ := nb_p hf
  obtain ⟨k1, k2, k3, k4⟩ := enc_k hf neg (Nat.le_of_lt he) ht
  have hC := kC_cases hf neg e t (Nat.le_of_lt he) ht
  have sl : sV f e t < 2 ^ 128 := by unfold sV; split <;> omega
  have xl : -20000 ≤ xV f e ∧ xV f e ≤ 20000 := by unfold xV; split <;> omega
  rw [if_neg (by omega)] at hC
  by_cases s0 : sV f e t = 0
  · have e0 : e = 0 ∧ t = 0 := by
      unfold sV at s0
      have := Nat.two_pow_pos (pV f)
      split at s0 <;> omega
    rw [if_neg (by omega), if_neg (by omega)] at hC
    have hc : kC f (enc7 f neg e t) = 3 ∨ kC f (enc7 f neg e t) = 4 := by rw [hC]; cases neg <;> simp
    have hv : vX f (enc7 f neg e t) = X0 := by
      unfold vX
      rw [(k_null _ hc).1, mk_null]
    rw [hv]
    refine ⟨by omega, x0_can, ?_, ⟨Nat.two_pow_pos _, by show 1 < 2 ^ 128; decide, by decide, by decide⟩, fun _ => rfl, fun h => absurd s0 h⟩
    rw [s0]
    show sgn false * (((0 : Nat) : Rat) / ((1 : Nat) : Rat)) * (2 : Rat) ^ (0 : Int) = _
    have z : ((0 : Nat) : Rat) = 0 := rfl
    rw [z, Rat.mul_zero, Rat.zero_mul, Rat.div_def, Rat.zero_mul, Rat.mul_zero, Rat.zero_mul]
  · have hc : kC f (enc7 f neg e t) = 1 ∨ kC f (enc7 f neg e t) = 2 ∨ kC f (enc7 f neg e t) = 5 ∨ kC f (enc7 f neg e t) = 6 := by
      rw [hC]
      by_cases e0 : e = 0
      · have t0 : t ≠ 0 := by
          unfold sV at s0
          rw [if_pos e0] at s0
          exact s0
        rw [if_neg (by omega), if_pos t0]
        cases neg <;> simp
      · rw [if_pos e0]
        cases neg <;> simp
    obtain ⟨q1, q2, q3, q4⟩ := k_parts (f := f) _ hc
    rw [k3, k4] at q2
    rw [k3] at q3
    have hm := vX_mk hf (enc7 f neg e t) (by omega)
    rw [k2, q2, q3] at hm
    have w := mk_whole neg (sV f e t) (xV f e) s0 (by omega) (by
      have := tz_blen (sV f e t)
      have := blen_le_of (sV f e t) 128 sl
      omega)
    have hv : vX f (enc7 f neg e t) = ⟨neg, od (sV f e t), 1, xV f e + (tz (sV f e t) : Int)⟩ := by
      rw [hm] at w
      injection w
    have o1 := od_is (sV f e t) s0
    have od0 : od (sV f e t) ≠ 0 := by omega
    have me : (mk neg (sV f e t) 1 (xV f e)).2 = 0 := by rw [hm]
    have mv := mk_val neg (sV f e t) 1 (xV f e) (by decide) me
    have mc := mk_can neg (sV f e t) 1 (xV f e) (nl_pow _ 128 sl (by decide)) (nl_pow 1 1 (by decide) (by decide)) (by decide) me
    have mb := (mk_ok neg (sV f e t) 1 (xV f e) 128 20000 20128 sl (by decide) rfl (by omega) (by omega) rfl (by decide)).2
    rw [hm] at mv mc mb
    simp only [] at mv mc mb
    refine ⟨by omega, mc, ?_, ⟨mb.1, mb.2.1, by have := mb.2.2.1; omega, by have := mb.2.2.2; omega⟩, fun h => absurd h s0, fun _ => ?_⟩
    · rw [mv, show ((1 : Nat) : Rat) = 1 from rfl, Rat.div_def, show (1 : Rat)⁻¹ = 1 by decide +kernel, Rat.mul_one]
    · rw [hv]
      exact ⟨od0, rfl⟩
/-- The next magnitude. -/
def upE (f : Int) (e t : Nat) : Nat := if t + 1 = 2 ^ pV f then e + 1 else e
def upT (f : Int) (t : Nat) : Nat := if t + 1 = 2 ^ pV f then 0 else t + 1
theorem up_lim {f : Int} (hf : Is4 f) (e t : Nat) (ht : t < 2 ^ pV f) : upT f t < 2 ^ pV f ∧ upE f e t * 2 ^ pV f + upT f t = e * 2 ^ pV f + t + 1 ∧ sV f (upE f e t) (upT f t) ≠ 0 := by
  have p := Nat.two_pow_pos (pV f)
  unfold upT upE sV
  split
  · rename_i h
    refine ⟨p, by rw [Nat.add_mul]; omega, ?_⟩
    rw [if_neg (by omega)]
    omega
  · refine ⟨by omega, by omega, ?_⟩
    split <;> omega
theorem up_enc {f : Int} (hf : Is4 f) (neg : Bool) (e t : Nat) (ht : t < 2 ^ pV f) : enc7 f neg (upE f e t) (upT f t) = enc7 f neg e t + 1 := by
  have h := (up_lim hf e t ht).2.1
  unfold enc7
  omega
theorem up_val {f : Int} (hf : Is4 f) (e t : Nat) (ht : t < 2 ^ pV f) : ((sV f (upE f e t) (upT f t) : Nat) : Rat) * (2 : Rat) ^ (xV f (upE f e t)) = (((sV f e t + 1 : Nat) : Nat) : Rat) * (2 : Rat) ^ (xV f e) := by
  have p := Nat.two_pow_pos (pV f)
  unfold upE upT
  by_cases h : t + 1 = 2 ^ pV f
  · rw [if_pos h, if_pos h]
    by_cases e0 : e = 0
    · unfold sV xV
      rw [if_neg (by omega), if_neg (by omega), if_pos e0, if_pos e0, e0]
      rw [show lx f + ((0 + 1 : Nat) : Int) - 1 = lx f by omega, Nat.add_zero, h]
    · unfold sV xV
      rw [if_neg (by omega), if_neg (by omega), if_neg e0, if_neg e0]
      rw [show lx f + ((e + 1 : Nat) : Int) - 1 = 1 + (lx f + (e : Int) - 1) by omega, p2add, show 2 ^ pV f + t + 1 = 2 ^ pV f * 2 by omega, Rat.natCast_mul, Rat.mul_assoc, Nat.add_zero]
      rw [show (2 : Rat) ^ (1 : Int) = ((2 : Nat) : Rat) by decide +kernel]
  · rw [if_neg h, if_neg h]
    unfold sV xV
    split
    · rfl
    · rw [Nat.add_assoc]
theorem addX_is (X Y Z : XN) (hx : X.can) (hy : Y.can) (hz : Z.can) (bx : Bd X 128 20200) (bz : Bd Y 128 20200) (hv : X.val + Y.val = Z.val) : addX X Y = (Z, 0) := by
  have h1 := add_ok X Y 128 128 20200 20200 40657 81057 hx hy bx bz rfl rfl (by decide) (by decide)
  have h2 := add_good X Y hx hy h1.1
  have h3 := can_inj _ Z h2.1 hz (by rw [h2.2, hv])
  exact Prod.ext h3 h1.1
theorem cmp_pos (X Y : XN) (hx : X.can) (hy : Y.can) (bx : Bd X 128 20200) (bz : Bd Y 128 20200) (xb : X.b = false) (y0 : Y.n ≠ 0) (yb : Y.b = false) (h : X.val < Y.val) : ∃ c, cmpX X Y = (c, 0) ∧ c < 0 := by
  have h1 := cmp_ok X Y 128 128 20200 20200 bx bz (by decide)
  have h2 := cmp_good X Y hx hy xb y0 yb h1
  refine ⟨(cmpX X Y).1, Prod.ext rfl h1, ?_⟩
  rw [h2, cmpR_lt]
  rw [val_mag, val_mag, xb, yb] at h
  have s1 : sgn false = 1 := rfl
  rw [s1, Rat.one_mul, Rat.one_mul] at h
  exact h
theorem cmp_null (X : XN) (x0 : X.n ≠ 0) (xb : X.b = true) : ∃ c, cmpX X X0 = (c, 0) ∧ c < 0 := by
  refine ⟨-1, ?_, by decide⟩
  unfold cmpX
  have s1 : sg X = -1 := by unfold sg; rw [if_neg x0, xb]; rfl
  have s2 : sg X0 = 0 := rfl
  rw [s1, s2, if_pos (by decide)]
theorem cmp_neg (X Y : XN) (hx : X.can) (hy : Y.can) (bx : Bd X 128 20200) (bz : Bd Y 128 20200) (x0 : X.n ≠ 0) (xb : X.b = true) (y0 : Y.n ≠ 0) (yb : Y.b = true) (h : X.val < Y.val) : ∃ c, cmpX X Y = (c, 0) ∧ c < 0 := by
  have h1 := cmp_ok X Y 128 128 20200 20200 bx bz (by decide)
  refine ⟨(cmpX X Y).1, Prod.ext rfl h1, ?_⟩
  have s1 : sg X = -1 := by unfold sg; rw [if_neg x0, xb]; rfl
  have s2 : sg Y = -1 := by unfold sg; rw [if_neg y0, yb]; rfl
  have mg : Y.mag < X.mag := by
    rw [val_mag, val_mag, xb, yb] at h
    have s1 : sgn true = -1 := rfl
    rw [s1] at h
    grind
  have k := mag_cmp X Y hx.d0 hy.d0
  have k1 : cmpR X.mag Y.mag = 1 := by
    unfold cmpR
    rw [if_neg (by grind), if_pos mg]
  unfold cmpX at h1 ⊢
  rw [s1, s2, if_neg (by decide), if_neg (by decide), if_neg (by decide)] at h1 ⊢
  split
  · show (-1 : Int) * cmpv (sA X Y) (sA Y X) < 0
    rw [← k, k1]
    decide
  · rename_i hh
    rw [if_neg hh] at h1
    exact absurd h1 (by decide)
/-- The middle of two numbers that stand side by side. -/
theorem near {f : Int} (hf : Is4 f) (neg : Bool) (e t : Nat) (he : upE f e t < oV f) (ht : t < 2 ^ pV f) (X Y : XN)
    (h : (X = vX f (enc7 f neg e t) ∧ Y = vX f (enc7 f neg (upE f e t) (upT f t))) ∨ (Y = vX f (enc7 f neg e t) ∧ X = vX f (enc7 f neg (upE f e t) (upT f t)))) :
    ∃ Z M, addX X Y = (Z, 0) ∧ Z.can ∧ scaleX Z (-1) = (M, 0) ∧ M.can ∧ ofX f M = (0, false) := by
  have e1 : e < oV f := by unfold upE at he; split at he <;> omega
  obtain ⟨u1, u2, u3⟩ := up_lim hf e t ht
  obtain ⟨_, c1, v1, b1, _, _⟩ := vX_enc hf neg e t e1 ht
  obtain ⟨_, c2, v2, b2, _, _⟩ := vX_enc hf neg (upE f e t) (upT f t) he u1
  obtain ⟨m1, m2⟩ := mid_none hf neg e t e1 ht
  obtain ⟨p1, p2', p3, p4, p5, p6, p7⟩ := nb_p hf
  have xl : -20000 ≤ xV f e ∧ xV f e ≤ 20000 := by unfold xV; split <;> omega
  have sl : sV f e t < 2 ^ 128 := by unfold sV; split <;> omega
  have zc : (XN.mk neg (2 * sV f e t + 1) 1 (xV f e)).can := by
    refine ⟨?_, ?_, ?_, ?_, Or.inr ⟨?_, rfl, Nat.gcd_one_right _⟩⟩
    · show nl (2 * sV f e t + 1) ≤ 16384
      exact nl_pow _ 129 (by rw [Nat.pow_succ]; omega) (by decide)
    · show nl 1 ≤ 16384
      exact nl_pow _ 1 (by decide) (by decide)
    · show -1048576 ≤ xV f e; omega
    · show xV f e ≤ 1048576; omega
    · show (2 * sV f e t + 1) % 2 = 1; omega
  have zv : (XN.mk neg (2 * sV f e t + 1) 1 (xV f e)).val = sgn neg * ((sV f e t : Nat) : Rat) * (2 : Rat) ^ (xV f e) + sgn neg * ((sV f (upE f e t) (upT f t) : Nat) : Rat) * (2 : Rat) ^ (xV f (upE f e t)) := by
    rw [Rat.mul_assoc (sgn neg) ((sV f (upE f e t) (upT f t) : Nat) : Rat), up_val hf e t ht]
    show sgn neg * (((2 * sV f e t + 1 : Nat) : Rat) / ((1 : Nat) : Rat)) * (2 : Rat) ^ (xV f e) = _
    rw [show ((1 : Nat) : Rat) = 1 from rfl, Rat.div_def, show (1 : Rat)⁻¹ = 1 by decide +kernel, Rat.mul_one, Rat.natCast_add, Rat.natCast_mul, Rat.natCast_add]
    rw [show ((1 : Nat) : Rat) = 1 from rfl, show ((2 : Nat) : Rat) = 2 from rfl]
    generalize (2 : Rat) ^ (xV f e) = P
    generalize ((sV f e t : Nat) : Rat) = S
    generalize sgn neg = g
    grind
  refine ⟨⟨neg, 2 * sV f e t + 1, 1, xV f e⟩, ⟨neg, 2 * sV f e t + 1, 1, xV f e - 1⟩, ?_, zc, ?_, m1, m2⟩
  · rcases h with ⟨rfl, rfl⟩ | ⟨rfl, rfl⟩
    · exact addX_is _ _ _ c1 c2 zc b1 b2 (by rw [v1, v2, zv])
    · exact addX_is _ _ _ c2 c1 zc b2 b1 (by rw [v1, v2, zv, Rat.add_comm])
  · unfold scaleX
    rw [if_neg (by show 2 * sV f e t + 1 ≠ 0; omega), if_pos (by show -1048576 ≤ xV f e + -1 ∧ xV f e + -1 ≤ 1048576; omega)]
    rfl
theorem up_lt {f : Int} (hf : Is4 f) (e t : Nat) (he : upE f e t < oV f) (ht : t < 2 ^ pV f) : (vX f (enc7 f false e t)).val < (vX f (enc7 f false (upE f e t) (upT f t))).val ∧ (vX f (enc7 f true (upE f e t) (upT f t))).val < (vX f (enc7 f true e t)).val := by
  have e1 : e < oV f := by unfold upE at he; split at he <;> omega
  obtain ⟨u1, u2, u3⟩ := up_lim hf e t ht
  have v1 := fun neg => (vX_enc hf neg e t e1 ht).2.2.1
  have v2 := fun neg => (vX_enc hf neg (upE f e t) (upT f t) he u1).2.2.1
  rw [v1, v2, v1, v2, Rat.mul_assoc (sgn false) ((sV f (upE f e t) (upT f t) : Nat) : Rat), Rat.mul_assoc (sgn true) ((sV f (upE f e t) (upT f t) : Nat) : Rat), up_val hf e t ht, Rat.natCast_add]
  have pp := p2 (xV f e)
  rw [show ((1 : Nat) : Rat) = 1 from rfl, show sgn false = 1 from rfl, show sgn true = -1 from rfl]
  generalize (2 : Rat) ^ (xV f e) = P at *
  generalize ((sV f e t : Nat) : Rat) = S
  constructor <;> grind
end Go.Proofs.YtkmlbjlaahcahaaGreatDoor
namespace Go.Proofs.YtkmlbjlaahcahaaGreatDoor
set_option maxRecDepth 100000
open Go.RowKit WMath XMath
set_option linter.unusedSimpArgs false
set_option linter.unusedVariables false

theorem ok_enc {f : Int} (hf : Is4 f) (neg : Bool) (e t : Nat) (he : e ≤ oV f) (ht : t < 2 ^ pV f) : okB f (enc7 f neg e t) = true := by
  have h1 := (enc_k hf neg he ht).1
  unfold okB
  rw [decide_eq_true_iff]
  exact ⟨by rcases hf with rfl | rfl | rfl | rfl <;> decide, h1⟩
theorem bits_of {f : Int} (hf : Is4 f) {n : Nat} (ho : okB f n = true) : ∃ u v : Nat, bv7 n = (u, v) ∧ u < 18446744073709551616 ∧ v < 18446744073709551616 ∧ v + 18446744073709551616 * u = n := by
  obtain ⟨u, v, h⟩ : ∃ u v, bv7 n = (u, v) := ⟨_, _, rfl⟩
  have fit := (okB_yes (is4_ok hf).1 ho).2
  unfold Fit at fit
  have := (fm hf).2.2.2.2.2.2
  obtain ⟨a, b, c⟩ := bv_lt (show n < 340282366920938463463374607431768211456 by omega) h
  exact ⟨u, v, h, a, b, c⟩
theorem bv_eq {x y n : Nat} (hx : x < 18446744073709551616) (hy : y < 18446744073709551616) (hn : y + 18446744073709551616 * x = n) : bv7 n = (x, y) := by
  unfold bv7
  rw [← hn]
  congr 1 <;> omega
def NE (x y i j : Nat) : Prop := ((x : Int) == (i : Int)) = false ∨ (((x : Int) == (i : Int)) = true ∧ ((y : Int) == (j : Int)) = false)
theorem ne_of {x y i j n m : Nat} (hn : y + 18446744073709551616 * x = n) (hm : j + 18446744073709551616 * i = m) (h : n ≠ m) : NE x y i j := by
  unfold NE
  by_cases c : x = i
  · exact Or.inr ⟨by rw [beq_iff_eq]; omega, by rw [beq_eq_false_iff_ne]; omega⟩
  · exact Or.inl (by rw [beq_eq_false_iff_ne]; omega)
theorem pred {f : Int} (e t : Nat) (ht : t < 2 ^ pV f) (h : ¬ (e = 0 ∧ t = 0)) : ∃ e1 t1, t1 < 2 ^ pV f ∧ upE f e1 t1 = e ∧ upT f t1 = t := by
  have p := Nat.two_pow_pos (pV f)
  by_cases c : t = 0
  · refine ⟨e - 1, 2 ^ pV f - 1, by omega, ?_, ?_⟩
    · unfold upE; rw [if_pos (by omega)]; omega
    · unfold upT; rw [if_pos (by omega)]; omega
  · refine ⟨e, t - 1, by omega, ?_, ?_⟩
    · unfold upE; rw [if_neg (by omega)]
    · unfold upT; rw [if_neg (by omega)]; omega
theorem val_two (f : Int) (hf : Is4 f) (x y n : Nat) (hx : x < 18446744073709551616) (hy : y < 18446744073709551616) (hn : y + 18446744073709551616 * x = n) (ho : okB f n = true) : ∃ (b : Bool) (s t : ByteArray) (e g : Int), ∀ w, FAt w → TabAt w → Calls Tryz.prog 8 #[.int .u8 f, .agg #[.int .u64 (x : Nat), .int .u64 (y : Nat)]] w fun r w' => r = .returned (.tuple #[.agg #[.bool b, .string s, .string t, .int .i64 e], .int .i64 g]) ∧ Below w.heap.size w w' := by
  by_cases hc : 0 < kC f n ∧ kC f n < 7
  · obtain ⟨⟨rb, rn, rd, re⟩, hv⟩ : ∃ q, vX f n = q := ⟨_, rfl⟩
    exact ⟨rb, _, _, re, 0, fun w hT hT2 => kValue_yes f hf x y n hx hy hn ho hc rb rn rd re _ _ hv rfl rfl w hT hT2⟩
  · exact ⟨false, ⟨#[]⟩, ⟨#[]⟩, 0, 80, fun w hT _ => kValue_inf f hf x y n hx hy hn ho hc w hT⟩
/-- What the statement meets of two numbers that stand side by side. -/
theorem side (f : Int) (hf : Is4 f) (x y n u v m : Nat) (hx : x < 18446744073709551616) (hy : y < 18446744073709551616) (hn : y + 18446744073709551616 * x = n) (hu : u < 18446744073709551616) (hv : v < 18446744073709551616) (hm : v + 18446744073709551616 * u = m) (ho : okB f n = true) (ho2 : okB f m = true)
    (hc : 0 < kC f n ∧ kC f n < 7) (hc2 : 0 < kC f m ∧ kC f m < 7) (c1 : (vX f n).can) (c2 : (vX f m).can) (c : Int) (hcmp : cmpX (vX f n) (vX f m) = (c, 0)) :
    ∃ (b1 : Bool) (s1 t1 : ByteArray) (e1 : Int) (b2 : Bool) (s2 t2 : ByteArray) (e2 : Int), (∀ w, FAt w → TabAt w → Calls Tryz.prog 8 #[.int .u8 f, .agg #[.int .u64 (x : Nat), .int .u64 (y : Nat)]] w fun r w' => r = .returned (.tuple #[.agg #[.bool b1, .string s1, .string t1, .int .i64 e1], .int .i64 0]) ∧ Below w.heap.size w w') ∧ (∀ w, FAt w → TabAt w → Calls Tryz.prog 8 #[.int .u8 f, .agg #[.int .u64 (u : Nat), .int .u64 (v : Nat)]] w fun r w' => r = .returned (.tuple #[.agg #[.bool b2, .string s2, .string t2, .int .i64 e2], .int .i64 0]) ∧ Below w.heap.size w w') ∧ (∀ w, TabAt w → Calls Tryz.prog 26 #[.agg #[.bool b1, .string s1, .string t1, .int .i64 e1], .agg #[.bool b2, .string s2, .string t2, .int .i64 e2]] w fun r w' => r = .returned (.tuple #[.int .i64 c, .int .i64 0]) ∧ Below w.heap.size w w') ∧
      (∀ Z M, addX (vX f n) (vX f m) = (Z, 0) → Z.can → scaleX Z (-1) = (M, 0) → M.can → ofX f M = (0, false) → ∃ (b3 : Bool) (s3 t3 : ByteArray) (e3 : Int) (b4 : Bool) (s4 t4 : ByteArray) (e4 : Int), (∀ w, TabAt w → Calls Tryz.prog 29 #[.agg #[.bool b1, .string s1, .string t1, .int .i64 e1], .agg #[.bool b2, .string s2, .string t2, .int .i64 e2]] w fun r w' => r = .returned (.tuple #[.agg #[.bool b3, .string s3, .string t3, .int .i64 e3], .int .i64 0]) ∧ Below w.heap.size w w') ∧ (∀ w, TabAt w → Calls Tryz.prog 30 #[.agg #[.bool b3, .string s3, .string t3, .int .i64 e3], .int .i64 (-1)] w fun r w' => r = .returned (.tuple #[.agg #[.bool b4, .string s4, .string t4, .int .i64 e4], .int .i64 0]) ∧ Below w.heap.size w w') ∧ (∀ w, FAt w → TabAt w → Calls Tryz.prog 12 #[.int .u8 f, .agg #[.bool b4, .string s4, .string t4, .int .i64 e4]] w fun r w' => r = .returned (.tuple #[.agg #[.int .u64 0, .int .u64 0], .bool false, .int .i64 0]) ∧ Below w.heap.size w w')) := by
  obtain ⟨⟨b1, n1, d1, e1⟩, h1⟩ : ∃ q, vX f n = q := ⟨_, rfl⟩
  obtain ⟨⟨b2, n2, d2, e2⟩, h2⟩ : ∃ q, vX f m = q := ⟨_, rfl⟩
  rw [h1] at c1 hcmp
  rw [h2] at c2 hcmp
  refine ⟨b1, nbA n1, nbA d1, e1, b2, nbA n2, nbA d2, e2, fun w hT hT2 => kValue_yes f hf x y n hx hy hn ho hc b1 n1 d1 e1 _ _ h1 rfl rfl w hT hT2, fun w hT hT2 => kValue_yes f hf u v m hu hv hm ho2 hc2 b2 n2 d2 e2 _ _ h2 rfl rfl w hT hT2, fun w hT => Cmpx_ok b1 n1 d1 e1 _ _ b2 n2 d2 e2 _ _ c 0 rfl rfl rfl rfl c1 c2 hcmp w hT, ?_⟩
  intro Z M hZ cZ hM cM hof
  rw [h1, h2] at hZ
  obtain ⟨b3, n3, d3, e3⟩ := Z
  obtain ⟨b4, n4, d4, e4⟩ := M
  exact ⟨b3, nbA n3, nbA d3, e3, b4, nbA n4, nbA d4, e4, fun w hT => Addx_ok b1 n1 d1 e1 _ _ b2 n2 d2 e2 _ _ b3 n3 d3 e3 0 _ _ rfl rfl rfl rfl c1 c2 hZ rfl rfl w hT, fun w hT => Scalex_ok b3 n3 d3 e3 _ _ (-1) b4 n4 d4 e4 0 _ _ rfl rfl cZ (by decide) (by decide) hM rfl rfl w hT, fun w hT hT2 => kOf_is f hf b4 n4 d4 _ _ e4 rfl rfl cM 0 false 0 0 hof rfl w hT hT2⟩
end Go.Proofs.YtkmlbjlaahcahaaGreatDoor
namespace Go.Proofs.YtkmlbjlaahcahaaGreatDoor
set_option maxRecDepth 100000
open Go.RowKit WMath XMath
set_option linter.unusedSimpArgs false
set_option linter.unusedVariables false

/-- Two numbers that stand side by side, the lower one first: in order, and nothing between. -/
theorem pair_pos {f : Int} (hf : Is4 f) (e t : Nat) (he : upE f e t < oV f) (ht : t < 2 ^ pV f) : ∃ c Z M, cmpX (vX f (enc7 f false e t)) (vX f (enc7 f false (upE f e t) (upT f t))) = (c, 0) ∧ c < 0 ∧ addX (vX f (enc7 f false e t)) (vX f (enc7 f false (upE f e t) (upT f t))) = (Z, 0) ∧ Z.can ∧ scaleX Z (-1) = (M, 0) ∧ M.can ∧ ofX f M = (0, false) := by
  have e1 : e < oV f := by unfold upE at he; split at he <;> omega
  obtain ⟨u1, u2, u3⟩ := up_lim hf e t ht
  obtain ⟨_, c1, v1, b1, z1, y1⟩ := vX_enc hf false e t e1 ht
  obtain ⟨_, c2, v2, b2, z2, y2⟩ := vX_enc hf false (upE f e t) (upT f t) he u1
  obtain ⟨Z, M, a1, a2, a3, a4, a5⟩ := near hf false e t he ht _ _ (Or.inl ⟨rfl, rfl⟩)
  have bf : (vX f (enc7 f false e t)).b = false := by
    by_cases s : sV f e t = 0
    · rw [z1 s]; rfl
    · exact (y1 s).2
  obtain ⟨c, k1, k2⟩ := cmp_pos _ _ c1 c2 b1 b2 bf (y2 u3).1 (y2 u3).2 (up_lt hf e t he ht).1
  exact ⟨c, Z, M, k1, k2, a1, a2, a3, a4, a5⟩
theorem pair_neg {f : Int} (hf : Is4 f) (e t : Nat) (he : upE f e t < oV f) (ht : t < 2 ^ pV f) (hz : sV f e t ≠ 0) : ∃ c Z M, cmpX (vX f (enc7 f true (upE f e t) (upT f t))) (vX f (enc7 f true e t)) = (c, 0) ∧ c < 0 ∧ addX (vX f (enc7 f true (upE f e t) (upT f t))) (vX f (enc7 f true e t)) = (Z, 0) ∧ Z.can ∧ scaleX Z (-1) = (M, 0) ∧ M.can ∧ ofX f M = (0, false) := by
  have e1 : e < oV f := by unfold upE at he; split at he <;> omega
  obtain ⟨u1, u2, u3⟩ := up_lim hf e t ht
  obtain ⟨_, c1, v1, b1, z1, y1⟩ := vX_enc hf true e t e1 ht
  obtain ⟨_, c2, v2, b2, z2, y2⟩ := vX_enc hf true (upE f e t) (upT f t) he u1
  obtain ⟨Z, M, a1, a2, a3, a4, a5⟩ := near hf true e t he ht _ _ (Or.inr ⟨rfl, rfl⟩)
  obtain ⟨c, k1, k2⟩ := cmp_neg _ _ c2 c1 b2 b1 (y2 u3).1 (y2 u3).2 (y1 hz).1 (y1 hz).2 (up_lt hf e t he ht).2
  exact ⟨c, Z, M, k1, k2, a1, a2, a3, a4, a5⟩
/-- What the statement comes to, once the next number is known. -/
def Road (f : Int) (x y u v : Nat) : Prop :=
  (∃ (b1 : Bool) (s1 t1 : ByteArray) (e1 : Int) (b2 : Bool) (s2 t2 : ByteArray) (e2 h : Int), Box (∀ w, FAt w → TabAt w → Calls Tryz.prog 8 #[.int .u8 f, .agg #[.int .u64 (x : Nat), .int .u64 (y : Nat)]] w fun r w' => r = .returned (.tuple #[.agg #[.bool b1, .string s1, .string t1, .int .i64 e1], .int .i64 80]) ∧ Below w.heap.size w w') ∧ Box (∀ w, FAt w → TabAt w → Calls Tryz.prog 8 #[.int .u8 f, .agg #[.int .u64 (u : Nat), .int .u64 (v : Nat)]] w fun r w' => r = .returned (.tuple #[.agg #[.bool b2, .string s2, .string t2, .int .i64 e2], .int .i64 h]) ∧ Below w.heap.size w w') ∧ Box (∀ w, FAt w → Calls Tryz.prog 25 #[.int .u8 f, .bool true] w fun r w' => r = .returned (.agg #[.int .u64 (x : Nat), .int .u64 (y : Nat)]) ∧ Below w.heap.size w w')) ∨
  (∃ (b1 : Bool) (s1 t1 : ByteArray) (e1 : Int) (b2 : Bool) (s2 t2 : ByteArray) (e2 : Int) (i j : Nat), Box (∀ w, FAt w → TabAt w → Calls Tryz.prog 8 #[.int .u8 f, .agg #[.int .u64 (x : Nat), .int .u64 (y : Nat)]] w fun r w' => r = .returned (.tuple #[.agg #[.bool b1, .string s1, .string t1, .int .i64 e1], .int .i64 0]) ∧ Below w.heap.size w w') ∧ Box (∀ w, FAt w → TabAt w → Calls Tryz.prog 8 #[.int .u8 f, .agg #[.int .u64 (u : Nat), .int .u64 (v : Nat)]] w fun r w' => r = .returned (.tuple #[.agg #[.bool b2, .string s2, .string t2, .int .i64 e2], .int .i64 80]) ∧ Below w.heap.size w w') ∧ Box (∀ w, FAt w → Calls Tryz.prog 25 #[.int .u8 f, .bool true] w fun r w' => r = .returned (.agg #[.int .u64 (i : Nat), .int .u64 (j : Nat)]) ∧ Below w.heap.size w w') ∧ NE x y i j ∧ Box (∀ w, FAt w → Calls Tryz.prog 25 #[.int .u8 f, .bool false] w fun r w' => r = .returned (.agg #[.int .u64 (u : Nat), .int .u64 (v : Nat)]) ∧ Below w.heap.size w w')) ∨
  (∃ (b1 : Bool) (s1 t1 : ByteArray) (e1 : Int) (b2 : Bool) (s2 t2 : ByteArray) (e2 c : Int), Box (∀ w, FAt w → TabAt w → Calls Tryz.prog 8 #[.int .u8 f, .agg #[.int .u64 (x : Nat), .int .u64 (y : Nat)]] w fun r w' => r = .returned (.tuple #[.agg #[.bool b1, .string s1, .string t1, .int .i64 e1], .int .i64 0]) ∧ Below w.heap.size w w') ∧ Box (∀ w, FAt w → TabAt w → Calls Tryz.prog 8 #[.int .u8 f, .agg #[.int .u64 (u : Nat), .int .u64 (v : Nat)]] w fun r w' => r = .returned (.tuple #[.agg #[.bool b2, .string s2, .string t2, .int .i64 e2], .int .i64 0]) ∧ Below w.heap.size w w') ∧ Box (∀ w, TabAt w → Calls Tryz.prog 26 #[.agg #[.bool b1, .string s1, .string t1, .int .i64 e1], .agg #[.bool b2, .string s2, .string t2, .int .i64 e2]] w fun r w' => r = .returned (.tuple #[.int .i64 c, .int .i64 0]) ∧ Below w.heap.size w w') ∧ decide (c < 0) = true ∧
    ((Box (∀ w, FAt w → Calls Tryz.prog 27 #[.int .u8 f, .bool true] w fun r w' => r = .returned (.agg #[.int .u64 (x : Nat), .int .u64 (y : Nat)]) ∧ Below w.heap.size w w') ∧ Box (∀ w, FAt w → Calls Tryz.prog 28 #[.int .u8 f, .bool true] w fun r w' => r = .returned (.agg #[.int .u64 (u : Nat), .int .u64 (v : Nat)]) ∧ Below w.heap.size w w')) ∨
     (∃ (i j : Nat) (b3 : Bool) (s3 t3 : ByteArray) (e3 : Int) (b4 : Bool) (s4 t4 : ByteArray) (e4 : Int), Box (∀ w, FAt w → Calls Tryz.prog 27 #[.int .u8 f, .bool true] w fun r w' => r = .returned (.agg #[.int .u64 (i : Nat), .int .u64 (j : Nat)]) ∧ Below w.heap.size w w') ∧ NE x y i j ∧ Box (∀ w, TabAt w → Calls Tryz.prog 29 #[.agg #[.bool b1, .string s1, .string t1, .int .i64 e1], .agg #[.bool b2, .string s2, .string t2, .int .i64 e2]] w fun r w' => r = .returned (.tuple #[.agg #[.bool b3, .string s3, .string t3, .int .i64 e3], .int .i64 0]) ∧ Below w.heap.size w w') ∧ Box (∀ w, TabAt w → Calls Tryz.prog 30 #[.agg #[.bool b3, .string s3, .string t3, .int .i64 e3], .int .i64 (-1)] w fun r w' => r = .returned (.tuple #[.agg #[.bool b4, .string s4, .string t4, .int .i64 e4], .int .i64 0]) ∧ Below w.heap.size w w') ∧ Box (∀ w, FAt w → TabAt w → Calls Tryz.prog 12 #[.int .u8 f, .agg #[.bool b4, .string s4, .string t4, .int .i64 e4]] w fun r w' => r = .returned (.tuple #[.agg #[.int .u64 0, .int .u64 0], .bool false, .int .i64 0]) ∧ Below w.heap.size w w'))))
theorem road_mid (f : Int) (hf : Is4 f) (x y n u v m : Nat) (hx : x < 18446744073709551616) (hy : y < 18446744073709551616) (hn : y + 18446744073709551616 * x = n) (hu : u < 18446744073709551616) (hv : v < 18446744073709551616) (hm : v + 18446744073709551616 * u = m) (ho : okB f n = true) (ho2 : okB f m = true)
    (hc : 0 < kC f n ∧ kC f n < 7) (hc2 : 0 < kC f m ∧ kC f m < 7) (c1 : (vX f n).can) (c2 : (vX f m).can) (hne : n ≠ eLeast f true)
    (h : ∃ c Z M, cmpX (vX f n) (vX f m) = (c, 0) ∧ c < 0 ∧ addX (vX f n) (vX f m) = (Z, 0) ∧ Z.can ∧ scaleX Z (-1) = (M, 0) ∧ M.can ∧ ofX f M = (0, false)) : Road f x y u v := by
  obtain ⟨c, Z, M, k1, k2, k3, k4, k5, k6, k7⟩ := h
  obtain ⟨b1, s1, t1, e1, b2, s2, t2, e2, g1, g2, g3, g4⟩ := side f hf x y n u v m hx hy hn hu hv hm ho ho2 hc hc2 c1 c2 c k1
  obtain ⟨b3, s3, t3, e3, b4, s4, t4, e4, g5, g6, g7⟩ := g4 Z M k3 k4 k5 k6 k7
  obtain ⟨i, j, q1, q2, q3, q4⟩ := bits_of hf (ok_enc hf true 0 1 (by omega) (by have := (fm hf).2.2.1; have := (fm hf).2.2.2.1; omega))
  exact Or.inr (Or.inr ⟨b1, s1, t1, e1, b2, s2, t2, e2, c, box g1, box g2, box g3, decide_eq_true k2, Or.inr ⟨i, j, b3, s3, t3, e3, b4, s4, t4, e4, box (fun w hT => sk_least f true hf i j q1 w hT), ne_of hn q4 hne, box g5, box g6, box g7⟩⟩)
theorem roads (f : Int) (hf : Is4 f) (x y n u v m : Nat) (hx : x < 18446744073709551616) (hy : y < 18446744073709551616) (hn : y + 18446744073709551616 * x = n) (ho : okB f n = true) (hr : nx f n = (m, 0)) (hm : bv7 m = (u, v)) : Road f x y u v := by
  obtain ⟨g1, g2, g3, g4, g5, g6, g7⟩ := fm hf
  have hfit := (okB_yes (is4_ok hf).1 ho).2
  have tl := kT_lt (f := f) n
  have el := kE_le (f := f) n
  have en := k_enc hf hfit
  have p0 := Nat.two_pow_pos (pV f)
  obtain ⟨neg, e, t, hneg, he, ht⟩ : ∃ neg e t, kN f n = neg ∧ kE f n = e ∧ kT f n = t := ⟨_, _, _, rfl, rfl, rfl⟩
  rw [hneg, he, ht] at en
  rw [ht] at tl
  rw [he] at el
  have hC := kC_cases hf neg e t el tl
  rw [en] at hC
  unfold nx at hr
  by_cases c7 : 7 ≤ kC f n
  · rw [if_pos c7] at hr; injection hr with _ h2; exact absurd h2 (by decide)
  rw [if_neg c7] at hr
  by_cases eo : e = oV f
  · -- the infinity below 0
    rw [if_pos eo] at hC
    have t0 : t = 0 := by
      by_cases t0 : t = 0
      · exact t0
      · rw [if_neg t0] at hC
        exfalso
        split at hC <;> omega
    rw [if_pos t0] at hC
    have nt : neg = true := by
      cases neg
      · rw [if_neg (by decide)] at hC; omega
      · rfl
    rw [nt, if_pos rfl] at hC
    rw [hC, if_pos (by decide)] at hr
    injection hr with hr _
    obtain ⟨e1, t1, q1, q2, q3⟩ := pred (f := f) e t tl (by omega)
    have um := up_enc hf true e1 t1 q1
    rw [q2, q3, ← nt, en] at um
    have e1o : e1 ≤ oV f := by rw [eo] at q2; unfold upE at q2; split at q2 <;> omega
    have mo : okB f m = true := by rw [← hr, um, Nat.add_sub_cancel]; rw [nt]; exact ok_enc hf true e1 t1 e1o q1
    obtain ⟨u', v', b1, b2, b3, b4⟩ := bits_of hf mo
    rw [hm] at b1
    injection b1 with b5 b6
    subst b5 b6
    obtain ⟨bb, ss, tt, ee, gg, hval⟩ := val_two f hf u v m b2 b3 b4 mo
    have ni : n = eInf f true := by unfold eInf; rw [← en, nt, eo, t0]
    exact Or.inl ⟨_, _, _, _, bb, ss, tt, ee, gg, box (fun w hT _ => kValue_inf f hf x y n hx hy hn ho (by omega) w hT), box hval, box (fun w hT => sk_inf f true hf x y (by rw [← ni]; exact bv_eq hx hy hn) w hT)⟩
  rw [if_neg eo] at hC
  have eo' : e < oV f := by omega
  obtain ⟨vc, vcan, vval, vbd, vz, vnz⟩ := vX_enc hf neg e t eo' tl
  rw [en] at vc vcan vval vbd vz vnz
  by_cases z : e = 0 ∧ t = 0
  · -- a zero: the least number above 0
    obtain ⟨e0, t0⟩ := z
    rw [if_neg (by omega), if_neg (by omega)] at hC
    have me : m = enc7 f false (upE f 0 0) (upT f 0) := by
      rw [up_enc hf false 0 0 p0]
      cases neg
      · rw [if_neg (by decide)] at hC
        rw [hC, if_neg (by decide), if_neg (by decide)] at hr
        injection hr with hr _
        rw [← hr, ← en, e0, t0]
      · rw [if_pos rfl] at hC
        rw [hC, if_neg (by decide), if_pos rfl] at hr
        injection hr with hr _
        rw [← hr]
        unfold eLeast enc7
        omega
    have ue : upE f 0 0 = 0 := by unfold upE; rw [if_neg (by omega)]
    obtain ⟨u1, u2, u3⟩ := up_lim hf 0 0 p0
    have mo : okB f m = true := by rw [me]; exact ok_enc hf false _ _ (by omega) u1
    obtain ⟨u', v', b1, b2, b3, b4⟩ := bits_of hf mo
    rw [hm] at b1
    injection b1 with b5 b6
    subst b5 b6
    obtain ⟨mc, mcan, _, _, _, _⟩ := vX_enc hf false (upE f 0 0) (upT f 0) (by omega) u1
    rw [← me] at mc mcan
    have pr := pair_pos hf 0 0 (by omega) p0
    have hv0 : vX f n = vX f (enc7 f false 0 0) := by
      have s0 : sV f 0 0 = 0 := by unfold sV; rw [if_pos rfl]
      rw [vz (by rw [e0, t0]; exact s0)]
      exact ((vX_enc hf false 0 0 (by omega) p0).2.2.2.2.1 s0).symm
    rw [← hv0, ← me] at pr
    refine road_mid f hf x y n u v m hx hy hn b2 b3 b4 ho mo vc mc vcan mcan ?_ pr
    rw [← en, e0, t0]
    unfold eLeast enc7
    cases neg <;> simp <;> omega
  · cases neg
    · -- above 0
      have c6 : kC f n = 6 ∨ kC f n = 5 := by
        rw [hC]
        split
        · exact Or.inl rfl
        · rw [if_pos (by omega)]; exact Or.inr rfl
      rw [if_neg (by omega), if_neg (by omega)] at hr
      injection hr with hr _
      have ue := up_enc hf false e t tl
      rw [en, hr] at ue
      obtain ⟨u1, u2, u3⟩ := up_lim hf e t tl
      by_cases uo : upE f e t = oV f
      · have ut : upT f t = 0 := by
          unfold upE at uo
          unfold upT
          split at uo
          · rename_i h; rw [if_pos h]
          · omega
        have mi : m = eInf f false := by rw [← ue, uo, ut]; rfl
        have mo : okB f m = true := by rw [mi]; exact ok_enc hf false _ _ (Nat.le_refl _) p0
        obtain ⟨u', v', b1, b2, b3, b4⟩ := bits_of hf mo
        rw [hm] at b1
        injection b1 with b5 b6
        subst b5 b6
        have mc : kC f m = 7 := by
          have := kC_cases hf false (oV f) 0 (Nat.le_refl _) p0
          rw [if_pos rfl, if_pos rfl, if_neg (by decide)] at this
          rw [mi]
          exact this
        obtain ⟨i, j, q1, q2, q3, q4⟩ := bits_of hf (ok_enc hf true (oV f) 0 (Nat.le_refl _) p0)
        obtain ⟨⟨rb, rn, rd, re⟩, hv⟩ : ∃ q, vX f n = q := ⟨_, rfl⟩
        refine Or.inr (Or.inl ⟨rb, _, _, re, _, _, _, _, i, j, box (fun w hT hT2 => kValue_yes f hf x y n hx hy hn ho vc rb rn rd re _ _ hv rfl rfl w hT hT2), box (fun w hT _ => kValue_inf f hf u v m b2 b3 b4 mo (by omega) w hT), box (fun w hT => sk_inf f true hf i j q1 w hT), ne_of hn q4 ?_, box (fun w hT => sk_inf f false hf u v (by rw [← mi]; exact hm) w hT)⟩)
        intro k
        have a1 := (enc_k hf false (Nat.le_of_lt eo') tl).2.1
        have a2 := (enc_k hf true (Nat.le_refl (oV f)) p0).2.1
        rw [en, k, a2] at a1
        exact Bool.noConfusion a1
      · have uo' : upE f e t < oV f := by unfold upE at uo ⊢; split <;> split at uo <;> omega
        have mo : okB f m = true := by rw [← ue]; exact ok_enc hf false _ _ (by omega) u1
        obtain ⟨u', v', b1, b2, b3, b4⟩ := bits_of hf mo
        rw [hm] at b1
        injection b1 with b5 b6
        subst b5 b6
        obtain ⟨mc, mcan, _, _, _, _⟩ := vX_enc hf false (upE f e t) (upT f t) uo' u1
        rw [ue] at mc mcan
        have pr := pair_pos hf e t uo' tl
        rw [ue, en] at pr
        refine road_mid f hf x y n u v m hx hy hn b2 b3 b4 ho mo vc mc vcan mcan ?_ pr
        intro k
        have a1 := (enc_k hf false (Nat.le_of_lt eo') tl).2.1
        have a2 := (enc_k hf true (show 0 ≤ oV f by omega) (show 1 < 2 ^ pV f by omega)).2.1
        rw [en, k] at a1
        unfold eLeast at a1
        rw [a2] at a1
        exact Bool.noConfusion a1
    · -- below 0
      have c1 : kC f n = 1 ∨ kC f n = 2 := by
        rw [hC]
        split
        · exact Or.inl rfl
        · rw [if_pos (by omega)]; exact Or.inr rfl
      rw [if_pos (by omega)] at hr
      injection hr with hr _
      obtain ⟨e1, t1, q1, q2, q3⟩ := pred (f := f) e t tl z
      have um := up_enc hf true e1 t1 q1
      rw [q2, q3, en] at um
      have e1o : e1 < oV f := by unfold upE at q2; split at q2 <;> omega
      have me : enc7 f true e1 t1 = m := by omega
      have mo : okB f m = true := by rw [← me]; exact ok_enc hf true e1 t1 (by omega) q1
      obtain ⟨u', v', b1, b2, b3, b4⟩ := bits_of hf mo
      rw [hm] at b1
      injection b1 with b5 b6
      subst b5 b6
      obtain ⟨mc, mcan, _, _, mz, mnz⟩ := vX_enc hf true e1 t1 e1o q1
      rw [me] at mc mcan mz mnz
      by_cases sz : sV f e1 t1 = 0
      · have ez : e1 = 0 ∧ t1 = 0 := by unfold sV at sz; split at sz <;> omega
        have nl : n = eLeast f true := by
          rw [um, ez.1, ez.2]
          unfold eLeast enc7
          omega
        have ns : sV f e t ≠ 0 := by
          have := (up_lim hf e1 t1 q1).2.2
          rw [q2, q3] at this
          exact this
        have cn := cmp_null (vX f n) (vnz ns).1 (vnz ns).2
        rw [← mz sz] at cn
        obtain ⟨c, k1, k2⟩ := cn
        obtain ⟨b1, s1, t1', e1', b2', s2, t2, e2, g1, g2, g3, _⟩ := side f hf x y n u v m hx hy hn b2 b3 b4 ho mo vc mc vcan mcan c k1
        refine Or.inr (Or.inr ⟨b1, s1, t1', e1', b2', s2, t2, e2, c, box g1, box g2, box g3, decide_eq_true k2, Or.inl ⟨box (fun w hT => sk_least f true hf x y (by rw [← nl]; exact bv_eq hx hy hn) w hT), box (fun w hT => sk_zero f true hf u v (by unfold eZero; rw [ez.1, ez.2] at me; rw [me]; exact hm) w hT)⟩⟩)
      · have pr := pair_neg hf e1 t1 (by rw [q2]; exact eo') q1 sz
        rw [q2, q3, en, me] at pr
        refine road_mid f hf x y n u v m hx hy hn b2 b3 b4 ho mo vc mc vcan mcan ?_ pr
        intro k
        have a1 := enc_k hf true (Nat.le_of_lt eo') tl
        have a2 := enc_k hf true (show 0 ≤ oV f by omega) (show 1 < 2 ^ pV f by omega)
        rw [en, k] at a1
        unfold eLeast at a1
        have he0 : e = 0 := by rw [← a1.2.2.1, a2.2.2.1]
        have ht1 : t = 1 := by rw [← a1.2.2.2, a2.2.2.2]
        have : e1 * 2 ^ pV f + t1 = 0 := by
          have := (up_lim hf e1 t1 q1).2.1
          rw [q2, q3, he0, ht1] at this
          omega
        have : t1 = 0 := by omega
        have e10 : e1 = 0 := by
          rcases Nat.mul_eq_zero.1 (show e1 * 2 ^ pV f = 0 by omega) with h | h
          · exact h
          · omega
        apply sz
        unfold sV
        rw [if_pos e10]
        exact this
end Go.Proofs.YtkmlbjlaahcahaaGreatDoor
