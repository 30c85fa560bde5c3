/-
  What the functions that the statement reaches return: part 17 (VA, R1, R2, R3, R5).
-/
import Derived.Lib.MinMax
import Derived.Deep.RegionHeld3
import Derived.Test.YtbmhfcppaajgbaaGreatDoorRe16
namespace Go.Proofs.YtbmhfcppaajgbaaGreatDoor
set_option maxRecDepth 100000
open Go.RowKit WMath XMath
set_option linter.unusedSimpArgs false
set_option linter.unusedVariables false

theorem nb_p {f : Int} (hf : Is4 f) : 2 * 2 ^ pV f ≤ 2 ^ 128 ∧ (oV f : Int) = 2 * fE f + 1 ∧ fE f ≤ 16383 ∧ 0 ≤ fE f ∧ lx f = 1 - fE f - (pV f : Int) ∧ pV f < 128 ∧ 3 ≤ oV f := by
  obtain ⟨n1, n2, n3, n4, n5, n6⟩ := nm8 hf
  obtain ⟨g1, g2, g3, g4, g5, g6, g7⟩ := fm hf
  have oe : (oV f : Int) = 2 * fE f + 1 := by unfold oV; omega
  refine ⟨?_, oe, n5, n6, n3, n4, g5⟩
  have := Nat.pow_le_pow_right (show 0 < 2 by decide) (show pV f + 1 ≤ 128 by omega)
  rw [Nat.pow_succ] at this
  omega
theorem vX_enc {f : Int} (hf : Is4 f) (neg : Bool) (e t : Nat) (he : e < oV f) (ht : t < 2 ^ pV f) :
    (0 < kC f (enc7 f neg e t) ∧ kC f (enc7 f neg e t) < 7) ∧ (vX f (enc7 f neg e t)).can ∧ (vX f (enc7 f neg e t)).val = sgn neg * ((sV f e t : Nat) : Rat) * (2 : Rat) ^ (xV f e) ∧ Bd (vX f (enc7 f neg e t)) 128 20200 ∧
    (sV f e t = 0 → vX f (enc7 f neg e t) = X0) ∧ (sV f e t ≠ 0 → (vX f (enc7 f neg e t)).n ≠ 0 ∧ (vX f (enc7 f neg e t)).b = neg) := by
  obtain ⟨p1, p2', p3, p4, p5, p6, p7⟩ := nb_p hf
  obtain ⟨k1, k2, k3, k4⟩ := enc_k hf neg (Nat.le_of_lt he) ht
  have hC := kC_cases hf neg e t (Nat.le_of_lt he) ht
  have sl : sV f e t < 2 ^ 128 := by unfold sV; split <;> omega
  have xl : -20000 ≤ xV f e ∧ xV f e ≤ 20000 := by unfold xV; split <;> omega
  rw [if_neg (by omega)] at hC
  by_cases s0 : sV f e t = 0
  · have e0 : e = 0 ∧ t = 0 := by
      unfold sV at s0
      have := Nat.two_pow_pos (pV f)
      split at s0 <;> omega
    rw [if_neg (by omega), if_neg (by omega)] at hC
    have hc : kC f (enc7 f neg e t) = 3 ∨ kC f (enc7 f neg e t) = 4 := by rw [hC]; cases neg <;> simp
    have hv : vX f (enc7 f neg e t) = X0 := by
      unfold vX
      rw [(k_null _ hc).1, mk_null]
    rw [hv]
    refine ⟨by omega, x0_can, ?_, ⟨Nat.two_pow_pos _, by show 1 < 2 ^ 128; decide, by decide, by decide⟩, fun _ => rfl, fun h => absurd s0 h⟩
    rw [s0]
    show sgn false * (((0 : Nat) : Rat) / ((1 : Nat) : Rat)) * (2 : Rat) ^ (0 : Int) = _
    have z : ((0 : Nat) : Rat) = 0 := rfl
    rw [z, Rat.mul_zero, Rat.zero_mul, Rat.div_def, Rat.zero_mul, Rat.mul_zero, Rat.zero_mul]
  · have hc : kC f (enc7 f neg e t) = 1 ∨ kC f (enc7 f neg e t) = 2 ∨ kC f (enc7 f neg e t) = 5 ∨ kC f (enc7 f neg e t) = 6 := by
      rw [hC]
      by_cases e0 : e = 0
      · have t0 : t ≠ 0 := by
          unfold sV at s0
          rw [if_pos e0] at s0
          exact s0
        rw [if_neg (by omega), if_pos t0]
        cases neg <;> simp
      · rw [if_pos e0]
        cases neg <;> simp
    obtain ⟨q1, q2, q3, q4⟩ := k_parts (f := f) _ hc
    rw [k3, k4] at q2
    rw [k3] at q3
    have hm := vX_mk hf (enc7 f neg e t) (by omega)
    rw [k2, q2, q3] at hm
    have w := mk_whole neg (sV f e t) (xV f e) s0 (by omega) (by
      have := tz_blen (sV f e t)
      have := blen_le_of (sV f e t) 128 sl
      omega)
    have hv : vX f (enc7 f neg e t) = ⟨neg, od (sV f e t), 1, xV f e + (tz (sV f e t) : Int)⟩ := by
      rw [hm] at w
      injection w
    have o1 := od_is (sV f e t) s0
    have od0 : od (sV f e t) ≠ 0 := by omega
    have me : (mk neg (sV f e t) 1 (xV f e)).2 = 0 := by rw [hm]
    have mv := mk_val neg (sV f e t) 1 (xV f e) (by decide) me
    have mc := mk_can neg (sV f e t) 1 (xV f e) (nl_pow _ 128 sl (by decide)) (nl_pow 1 1 (by decide) (by decide)) (by decide) me
    have mb := (mk_ok neg (sV f e t) 1 (xV f e) 128 20000 20128 sl (by decide) rfl (by omega) (by omega) rfl (by decide)).2
    rw [hm] at mv mc mb
    simp only [] at mv mc mb
    refine ⟨by omega, mc, ?_, ⟨mb.1, mb.2.1, by have := mb.2.2.1; omega, by have := mb.2.2.2; omega⟩, fun h => absurd h s0, fun _ => ?_⟩
    · rw [mv, show ((1 : Nat) : Rat) = 1 from rfl, Rat.div_def, show (1 : Rat)⁻¹ = 1 by decide +kernel, Rat.mul_one]
    · rw [hv]
      exact ⟨od0, rfl⟩
end Go.Proofs.YtbmhfcppaajgbaaGreatDoor
namespace Go.Proofs.YtbmhfcppaajgbaaGreatDoor
set_option maxRecDepth 100000
open Go.RowKit WMath XMath
set_option linter.unusedSimpArgs false
set_option linter.unusedVariables false

/-- Is the neighbour of the greater magnitude taken? By the mode, the sign, whether the lesser one is odd, whether half a step at least is left, whether anything is left beside that. -/
def gO (m : Int) (neg odd half more : Bool) : Bool :=
  if m = 0 then half && (more || odd) else if m = 4 then half else if m = 2 then (half || more) && neg else if m = 3 then (half || more) && !neg else false
def rS (W k : Nat) : Nat := W / 2 ^ k / 2
def rH (W k : Nat) : Bool := decide (W / 2 ^ k % 2 = 1)
def rM (W k : Nat) (more : Bool) : Bool := decide (W % 2 ^ k ≠ 0) || more
def rO (W k : Nat) : Bool := decide (rS W k % 2 = 1)
def rG (m : Int) (neg : Bool) (W k : Nat) (more : Bool) : Nat := if gO m neg (rO W k) (rH W k) (rM W k more) = true then rS W k + 1 else rS W k
def stE (f T : Int) : Int := max T (1 - fE f)
def eS (f : Int) (neg : Bool) (j S : Nat) : Nat := j * 2 ^ pV f + S + (if neg then 2 ^ wV f else 0)
def ovB (f m : Int) (neg : Bool) : Nat := if gO m neg false true true = true then eInf f neg else eGreatest f neg
def tnB (f m : Int) (neg : Bool) (T : Int) (W : Nat) (more : Bool) : Bool := decide (T - fP f + (blen (rG m neg W 0 more) : Int) < 1 - fE f)
def dK (f T : Int) : Nat := (stE f T - T).toNat
def dJ (f T : Int) : Nat := (stE f T - (1 - fE f)).toNat
/-- What is delivered, and the flags: T the place of the highest bit, W the whole part at the place T - p (p + 1 bits), more whether anything is left. -/
def dlv (f m : Int) (neg : Bool) (T : Int) (W : Nat) (more : Bool) : Nat × Int :=
  if fE f < stE f T - fP f + (blen (rG m neg W (dK f T) more) : Int) then (ovB f m neg, 5)
  else (eS f neg (dJ f T) (rG m neg W (dK f T) more), if (rH W (dK f T) || rM W (dK f T) more) = true then (if tnB f m neg T W more = true then 3 else 1) else 0)

theorem fp8 {f : Int} (hf : Is4 f) : fP f = (pV f : Int) + 1 := by rcases hf with rfl | rfl | rfl | rfl <;> decide
theorem od_two (s : Nat) (h : s ≠ 0) : od (2 * s) = od s ∧ tz (2 * s) = tz s + 1 := by
  have t : tz (2 * s) = tz s + 1 := by rw [tz_even (2 * s) (by omega) (by omega), Nat.mul_div_cancel_left s (by decide)]
  refine ⟨?_, t⟩
  unfold od
  rw [t, Nat.pow_succ, Nat.mul_comm (2 ^ tz s) 2, Nat.mul_div_mul_left _ _ (by decide)]
theorem mk_two (neg : Bool) (s : Nat) (x : Int) (s0 : s ≠ 0) (h1 : -1048576 ≤ x) (h2 : x + 1 + (tz s : Int) ≤ 1048576) : mk neg (2 * s) 1 x = mk neg s 1 (x + 1) := by
  obtain ⟨a, b⟩ := od_two s s0
  rw [mk_whole neg (2 * s) x (by omega) h1 (by rw [b]; omega), mk_whole neg s (x + 1) s0 (by omega) h2, a, b]
  congr 2
  omega
/-- A multiple of a step, as a significand and an exponent of the format. -/
theorem rep {f : Int} (hf : Is4 f) (j S : Nat) (s0 : S ≠ 0) (hS : S ≤ 2 * 2 ^ pV f) (hj : j = 0 ∨ 2 ^ pV f ≤ S) (ht : lx f + (j : Int) - 1 + (blen S : Int) ≤ fE f) :
    ∃ e t, e < oV f ∧ t < 2 ^ pV f ∧ sV f e t ≠ 0 ∧ (∀ neg, enc7 f neg e t = eS f neg j S) ∧ (∀ neg, mk neg S 1 (lx f + (j : Int)) = mk neg (sV f e t) 1 (xV f e)) := by
  obtain ⟨n1, n2, n3, n4, n5, n6⟩ := nm8 hf
  have p := Nat.two_pow_pos (pV f)
  have oe : (oV f : Int) = 2 * fE f + 1 := by unfold oV; omega
  by_cases c1 : S < 2 ^ pV f
  · obtain rfl : j = 0 := by omega
    refine ⟨0, S, by omega, c1, ?_, ?_, ?_⟩
    · unfold sV; rw [if_pos rfl]; exact s0
    · intro neg; unfold enc7 eS; rfl
    · intro neg; unfold sV xV; rw [if_pos rfl, if_pos rfl]; congr 1; omega
  by_cases c2 : S < 2 * 2 ^ pV f
  · have bl : blen S = pV f + 1 := blen_is S (pV f) (by omega) (by rw [Nat.pow_succ]; omega)
    refine ⟨j + 1, S - 2 ^ pV f, by omega, by omega, ?_, ?_, ?_⟩
    · unfold sV; rw [if_neg (by omega)]; omega
    · intro neg; unfold enc7 eS; rw [Nat.add_mul, Nat.one_mul]; omega
    · intro neg
      unfold sV xV
      rw [if_neg (by omega), if_neg (by omega), show 2 ^ pV f + (S - 2 ^ pV f) = S by omega]
      congr 1
      omega
  · obtain rfl : S = 2 * 2 ^ pV f := by omega
    have bl : blen (2 * 2 ^ pV f) = pV f + 1 + 1 := blen_is _ (pV f + 1) (by rw [Nat.pow_succ]; omega) (by rw [Nat.pow_succ, Nat.pow_succ]; omega)
    have tl := tz_blen (2 ^ pV f)
    have bl1 : blen (2 ^ pV f) = pV f + 1 := blen_is _ (pV f) (Nat.le_refl _) (by rw [Nat.pow_succ]; omega)
    refine ⟨j + 2, 0, by omega, p, ?_, ?_, ?_⟩
    · unfold sV; rw [if_neg (by omega)]; omega
    · intro neg; unfold enc7 eS; rw [Nat.add_mul]; omega
    · intro neg
      unfold sV xV
      rw [if_neg (by omega), if_neg (by omega), Nat.add_zero, mk_two neg (2 ^ pV f) _ (by omega) (by omega) (by omega)]
      congr 1
      omega
theorem nl_small {f : Int} (hf : Is4 f) (S : Nat) (hS : S ≤ 2 * 2 ^ pV f) : nl S ≤ 16384 := by
  obtain ⟨n1, n2, n3, n4, n5, n6⟩ := nm8 hf
  refine nl_pow S (pV f + 2) ?_ (by omega)
  have p := Nat.two_pow_pos (pV f)
  rw [Nat.pow_succ, Nat.pow_succ]
  omega
theorem nl_1 : nl 1 ≤ 16384 := Nat.le_trans (nl_le_of 1 1 (by decide)) (by decide)
theorem mk_small {f : Int} (hf : Is4 f) (neg : Bool) (j S : Nat) (s0 : S ≠ 0) (hS : S ≤ 2 * 2 ^ pV f) (hj : j ≤ 40000) : mk neg S 1 (lx f + (j : Int)) = (⟨neg, od S, 1, lx f + (j : Int) + (tz S : Int)⟩, 0) ∧ (XN.mk neg (od S) 1 (lx f + (j : Int) + (tz S : Int))).can ∧ od S ≠ 0 ∧ topX ⟨neg, od S, 1, lx f + (j : Int) + (tz S : Int)⟩ = lx f + (j : Int) - 1 + (blen S : Int) := by
  obtain ⟨n1, n2, n3, n4, n5, n6⟩ := nm8 hf
  have p := Nat.two_pow_pos (pV f)
  have tl := tz_blen S
  have bl : blen S ≤ pV f + 2 := (blen_iff S _).2 (by rw [Nat.pow_succ, Nat.pow_succ]; omega)
  have h := mk_whole neg S (lx f + (j : Int)) s0 (by omega) (by omega)
  obtain ⟨o1, o2⟩ := od_is S s0
  have od0 : od S ≠ 0 := by omega
  have bs : blen S = blen (od S) + tz S := by
    have := blen_shift (od S) (tz S) od0
    rw [← o1] at this
    exact this
  refine ⟨h, ?_, od0, ?_⟩
  · have := mk_can neg S 1 (lx f + (j : Int)) (nl_small hf S hS) nl_1 (by decide) (by rw [h])
    rw [h] at this
    exact this
  · rw [top_whole neg (od S) _ od0]
    omega
/-- It is a number of the format. -/
theorem of_rep {f : Int} (hf : Is4 f) (neg : Bool) (j S : Nat) (s0 : S ≠ 0) (hS : S ≤ 2 * 2 ^ pV f) (hj : j = 0 ∨ 2 ^ pV f ≤ S) (ht : lx f + (j : Int) - 1 + (blen S : Int) ≤ fE f) :
    ofX f ⟨neg, od S, 1, lx f + (j : Int) + (tz S : Int)⟩ = (eS f neg j S, true) := by
  obtain ⟨n1, n2, n3, n4, n5, n6⟩ := nm8 hf
  obtain ⟨l1, l2, l3⟩ := blen_low S s0
  have j4 : j ≤ 40000 := by omega
  obtain ⟨e, t, he, htt, nz, h1, h2⟩ := rep hf j S s0 hS hj ht
  have h3 := (mk_small hf neg j S s0 hS j4).1
  obtain ⟨v1, v2, v3⟩ := val_of hf neg e t he htt nz
  rw [h2 neg, v1] at h3
  injection h3 with h4 h5
  rw [← h4, v2, h1 neg]
/-- The bits that count: one more than the precision. -/
def Wok (f : Int) (W : Nat) : Prop := 2 * 2 ^ pV f ≤ W ∧ W < 4 * 2 ^ pV f
theorem rG_two (m : Int) (neg : Bool) (W k : Nat) (more : Bool) : rG m neg W k more = rS W k ∨ rG m neg W k more = rS W k + 1 := by
  unfold rG; split <;> simp
theorem rS_lim {f : Int} {W : Nat} (h : Wok f W) (k : Nat) : rS W k < 2 * 2 ^ pV f ∧ (k = 0 → 2 ^ pV f ≤ rS W k) ∧ (0 < k → rS W k < 2 ^ pV f) := by
  obtain ⟨h1, h2⟩ := h
  unfold rS
  have d0 : W / 2 ^ k ≤ W := Nat.div_le_self _ _
  refine ⟨by omega, ?_, ?_⟩
  · intro e
    subst e
    rw [Nat.pow_zero, Nat.div_one]
    omega
  · intro hk
    obtain ⟨i, rfl⟩ : ∃ i, k = i + 1 := ⟨k - 1, by omega⟩
    rw [Nat.pow_succ, Nat.mul_comm (2 ^ i) 2, ← Nat.div_div_eq_div_mul]
    have d1 : W / 2 / 2 ^ i ≤ W / 2 := Nat.div_le_self _ _
    omega
theorem rG_lim {f : Int} {W : Nat} (h : Wok f W) (m : Int) (neg : Bool) (k : Nat) (more : Bool) : rG m neg W k more ≤ 2 * 2 ^ pV f ∧ (k = 0 → 2 ^ pV f ≤ rG m neg W k more) ∧ (0 < k → rG m neg W k more ≤ 2 ^ pV f) := by
  obtain ⟨a, b, c⟩ := rS_lim h k
  rcases rG_two m neg W k more with e | e <;> rw [e] <;> refine ⟨by omega, fun q => ?_, fun q => ?_⟩ <;> first | (have := b q; omega) | (have := c q; omega)
theorem st_lx {f : Int} (hf : Is4 f) (T : Int) : stE f T - fP f + 1 = lx f + (dJ f T : Int) := by
  have := fp8 hf
  have e := (nm8 hf).2.2.1
  unfold dJ stE
  omega
theorem jk {f : Int} (T : Int) : (dJ f T = 0 ∧ T + (dK f T : Int) = 1 - fE f) ∨ (dK f T = 0 ∧ T = 1 - fE f + (dJ f T : Int)) := by
  unfold dJ dK stE
  omega
end Go.Proofs.YtbmhfcppaajgbaaGreatDoor
namespace Go.Proofs.YtbmhfcppaajgbaaGreatDoor
set_option maxRecDepth 100000
open Go.RowKit WMath
set_option linter.unusedSimpArgs false
set_option linter.unusedVariables false

theorem set5_below {n : Nat} {w wr : World} {b : Nat} (h : Below n w wr) (hb : n ≤ b) (v0 v1 v2 v3 v4 : Value) : Below n w (((((wr.setCell ⟨b, 0, none⟩ v0).setCell ⟨b, 1, none⟩ v1).setCell ⟨b, 2, none⟩ v2).setCell ⟨b, 3, none⟩ v3).setCell ⟨b, 4, none⟩ v4) :=
  ((((h.setCell hb _).setCell hb _).setCell hb _).setCell hb _).setCell hb _
theorem set5_row {w : World} {b : Nat} {c : Array Value} {T : TypeId} (h : w.heap[b]? = some (.cells c T)) (hc : c.size = 5) (v0 v1 v2 v3 v4 : Value) :
    (((((w.setCell ⟨b, 0, none⟩ v0).setCell ⟨b, 1, none⟩ v1).setCell ⟨b, 2, none⟩ v2).setCell ⟨b, 3, none⟩ v3).setCell ⟨b, 4, none⟩ v4).heap[b]? = some (.cells #[v0, v1, v2, v3, v4] T) := by
  rw [setCell_row (setCell_row (setCell_row (setCell_row (setCell_row h))))]
  obtain ⟨l⟩ := c
  match l, hc with
  | [a0, a1, a2, a3, a4], _ => rfl
theorem set5_cells {w : World} {b : Nat} {c : Array Value} {T : TypeId} (h : w.heap[b]? = some (.cells c T)) (hc : c.size = 5) (v0 v1 v2 v3 v4 : Value) :
    (((((w.setCell ⟨b, 0, none⟩ v0).setCell ⟨b, 1, none⟩ v1).setCell ⟨b, 2, none⟩ v2).setCell ⟨b, 3, none⟩ v3).setCell ⟨b, 4, none⟩ v4).cell? ⟨b, 0, none⟩ = some v0 ∧
    (((((w.setCell ⟨b, 0, none⟩ v0).setCell ⟨b, 1, none⟩ v1).setCell ⟨b, 2, none⟩ v2).setCell ⟨b, 3, none⟩ v3).setCell ⟨b, 4, none⟩ v4).cell? ⟨b, 1, none⟩ = some v1 ∧
    (((((w.setCell ⟨b, 0, none⟩ v0).setCell ⟨b, 1, none⟩ v1).setCell ⟨b, 2, none⟩ v2).setCell ⟨b, 3, none⟩ v3).setCell ⟨b, 4, none⟩ v4).cell? ⟨b, 2, none⟩ = some v2 ∧
    (((((w.setCell ⟨b, 0, none⟩ v0).setCell ⟨b, 1, none⟩ v1).setCell ⟨b, 2, none⟩ v2).setCell ⟨b, 3, none⟩ v3).setCell ⟨b, 4, none⟩ v4).cell? ⟨b, 3, none⟩ = some v3 ∧
    (((((w.setCell ⟨b, 0, none⟩ v0).setCell ⟨b, 1, none⟩ v1).setCell ⟨b, 2, none⟩ v2).setCell ⟨b, 3, none⟩ v3).setCell ⟨b, 4, none⟩ v4).cell? ⟨b, 4, none⟩ = some v4 := by
  have r := set5_row h hc v0 v1 v2 v3 v4
  exact ⟨cells4 r 0 _ rfl, cells4 r 1 _ rfl, cells4 r 2 _ rfl, cells4 r 3 _ rfl, cells4 r 4 _ rfl⟩
set_option maxRecDepth 100000 in
set_option maxHeartbeats 1000000 in
theorem ru_stepAt (f T P A1 v : Int) (w : World)
    (KP : Box (∀ w, FAt w → Calls Tryz.prog 180 #[.int .u8 f] w fun r w' => r = .returned (.int .i64 P) ∧ Below w.heap.size w w'))
    (h1 : IntKind.i64.wrap (T - P) = A1) (h2 : IntKind.i64.wrap (A1 + 1) = v) (hT : FAt w) : Calls Tryz.prog 148 #[.int .u8 f, .int .i64 T] w fun r w' => r = .returned (.int .i64 v) ∧ Below w.heap.size w w' := by
  have FF := box hT
  clear hT
  have B0 : Below w.heap.size w w := (Below.refl _ _)
  go_enter Tryz.func148, Tryz.ntmps148
  go_wp2_with fail
  refine (KP.out _ (fatB FF.out B0)).mono ?_
  rintro r w1 ⟨rfl, b1⟩
  have B1 : Below w.heap.size w w1 := btr B0 b1
  clear b1 B0 
  go_wp2
  go_ret
  exact ⟨rfl, B1⟩
set_option maxRecDepth 100000 in
set_option maxHeartbeats 1000000 in
theorem ru_topOf (b : Bool) (s t : ByteArray) (e T err : Int) (w : World)
    (KT : Box (∀ w, TabAt w → Calls Tryz.prog 227 #[.agg #[.bool b, .string s, .string t, .int .i64 e]] w fun r w' => r = .returned (.tuple #[.int .i64 T, .int .i64 err]) ∧ Below w.heap.size w w'))
    (hT : TabAt w) : Calls Tryz.prog 153 #[.agg #[.bool b, .string s, .string t, .int .i64 e]] w fun r w' => r = .returned (.int .i64 T) ∧ Below w.heap.size w w' := by
  have TT := box hT
  clear hT
  obtain ⟨Rx_0, B0⟩ := opn1 w (Obj.cells #[.bool b, .string s, .string t, .int .i64 e] 41)
  go_enter Tryz.func153, Tryz.ntmps153
  go_wp2_with fail
  refine (KT.out _ (tabB TT.out B0)).mono ?_
  rintro r w1 ⟨rfl, b1⟩
  have B1 : Below w.heap.size w w1 := btr B0 b1
  have Rx_1 := heap_of b1 _ _ _ Rx_0
  clear b1 B0 Rx_0
  obtain ⟨cx_1_0, cx_1_1, cx_1_2, cx_1_3⟩ := cells4s Rx_1
  go_wp2
  go_ret
  exact ⟨rfl, B1⟩
set_option maxRecDepth 100000 in
set_option maxHeartbeats 1000000 in
theorem ru_ratio (b : Bool) (s t : ByteArray) (e A err : Int) (m : ByteArray) (is : Bool) (w : World)
    (KF : Box (∀ w, TabAt w → Calls Tryz.prog 228 #[.agg #[.bool b, .string s, .string t, .int .i64 e], .int .i64 A] w fun r w' => r = .returned (.tuple #[.string m, .bool is, .int .i64 err]) ∧ Below w.heap.size w w'))
    (hT : TabAt w) : Calls Tryz.prog 154 #[.agg #[.bool b, .string s, .string t, .int .i64 e], .int .i64 A] w fun r w' => r = .returned (.tuple #[.string m, .bool is]) ∧ Below w.heap.size w w' := by
  have TT := box hT
  clear hT
  obtain ⟨Rx_0, B0⟩ := opn1 w (Obj.cells #[.bool b, .string s, .string t, .int .i64 e] 183)
  go_enter Tryz.func154, Tryz.ntmps154
  go_wp2_with fail
  refine (KF.out _ (tabB TT.out B0)).mono ?_
  rintro r w1 ⟨rfl, b1⟩
  have B1 : Below w.heap.size w w1 := btr B0 b1
  have Rx_1 := heap_of b1 _ _ _ Rx_0
  clear b1 B0 Rx_0
  obtain ⟨cx_1_0, cx_1_1, cx_1_2, cx_1_3⟩ := cells4s Rx_1
  go_wp2
  go_ret2
  exact ⟨rfl, B1⟩
set_option maxRecDepth 100000 in
set_option maxHeartbeats 1000000 in
theorem ru_root (b : Bool) (s t : ByteArray) (e A A2 err : Int) (m rr q : ByteArray) (is o : Bool) (w : World)
    (KR : Box (∀ w, TabAt w → Calls Tryz.prog 154 #[.agg #[.bool b, .string s, .string t, .int .i64 e], .int .i64 A2] w fun r w' => r = .returned (.tuple #[.string m, .bool is]) ∧ Below w.heap.size w w'))
    (KQ : Box (∀ w, Calls Tryz.prog 236 #[.string m] w fun r w' => r = .returned (.tuple #[.string rr, .string q, .int .i64 err]) ∧ Below w.heap.size w w'))
    (hA : IntKind.i64.wrap (2 * A) = A2) (ho : (is && (q.toList == [])) = o)
    (hT : TabAt w) : Calls Tryz.prog 160 #[.agg #[.bool b, .string s, .string t, .int .i64 e], .int .i64 A] w fun r w' => r = .returned (.tuple #[.string rr, .bool o]) ∧ Below w.heap.size w w' := by
  have TT := box hT
  clear hT
  obtain ⟨z, hz⟩ : ∃ z, (q.toList == []) = z := ⟨_, rfl⟩
  rw [hz] at ho
  cases is
  · obtain rfl : false = o := ho
    obtain ⟨Rx_0, B0⟩ := opn1 w (Obj.cells #[.bool b, .string s, .string t, .int .i64 e] 191)
    go_enter Tryz.func160, Tryz.ntmps160
    go_wp2_with fail
    refine (KR.out _ (tabB TT.out B0)).mono ?_
    rintro r w1 ⟨rfl, b1⟩
    have B1 : Below w.heap.size w w1 := btr B0 b1
    have Rx_1 := heap_of b1 _ _ _ Rx_0
    clear b1 B0 Rx_0
    obtain ⟨cx_1_0, cx_1_1, cx_1_2, cx_1_3⟩ := cells4s Rx_1
    go_wp2_with fail
    refine (KQ.out _).mono ?_
    rintro r w2 ⟨rfl, b2⟩
    have B2 : Below w.heap.size w w2 := btr B1 b2
    have Rx_2 := heap_of b2 _ _ _ Rx_1
    clear b2 B1 Rx_1 cx_1_0 cx_1_1 cx_1_2 cx_1_3
    obtain ⟨cx_2_0, cx_2_1, cx_2_2, cx_2_3⟩ := cells4s Rx_2
    go_wp2
    go_ret2
    exact ⟨rfl, B2⟩
  · obtain rfl : z = o := ho
    obtain ⟨Rx_0, B0⟩ := opn1 w (Obj.cells #[.bool b, .string s, .string t, .int .i64 e] 191)
    go_enter Tryz.func160, Tryz.ntmps160
    go_wp2_with fail
    refine (KR.out _ (tabB TT.out B0)).mono ?_
    rintro r w1 ⟨rfl, b1⟩
    have B1 : Below w.heap.size w w1 := btr B0 b1
    have Rx_1 := heap_of b1 _ _ _ Rx_0
    clear b1 B0 Rx_0
    obtain ⟨cx_1_0, cx_1_1, cx_1_2, cx_1_3⟩ := cells4s Rx_1
    go_wp2_with fail
    refine (KQ.out _).mono ?_
    rintro r w2 ⟨rfl, b2⟩
    have B2 : Below w.heap.size w w2 := btr B1 b2
    have Rx_2 := heap_of b2 _ _ _ Rx_1
    clear b2 B1 Rx_1 cx_1_0 cx_1_1 cx_1_2 cx_1_3
    obtain ⟨cx_2_0, cx_2_1, cx_2_2, cx_2_3⟩ := cells4s Rx_2
    go_wp2
    go_ret2
    exact ⟨rfl, B2⟩
set_option maxRecDepth 100000 in
set_option maxHeartbeats 1000000 in
theorem ru_rtop (s : ByteArray) (st : Int) (hf mo : Bool) (l A1 v : Int) (w : World)
    (KL : Box (∀ w, Calls Tryz.prog 225 #[.string s] w fun r w' => r = .returned (.int .i64 l) ∧ Below w.heap.size w w'))
    (h1 : IntKind.i64.wrap (st + l) = A1) (h2 : IntKind.i64.wrap (A1 - 1) = v) : Calls Tryz.prog 149 #[.agg #[.string s, .int .i64 st, .bool hf, .bool mo]] w fun r w' => r = .returned (.int .i64 v) ∧ Below w.heap.size w w' := by
  obtain ⟨Rr_0, B0⟩ := opn1 w (Obj.cells #[.string s, .int .i64 st, .bool hf, .bool mo] 174)
  go_enter Tryz.func149, Tryz.ntmps149
  have sS : Box (∀ W W1 : World, (Below w.heap.size w W ∧ W.heap[w.heap.size]? = some (Obj.cells #[.string s, .int .i64 st, .bool hf, .bool mo] 174) ∧ W.cell? ⟨w.heap.size, 0, none⟩ = some (.string s) ∧ W.cell? ⟨w.heap.size, 1, none⟩ = some (.int .i64 st) ∧ W.cell? ⟨w.heap.size, 2, none⟩ = some (.bool hf) ∧ W.cell? ⟨w.heap.size, 3, none⟩ = some (.bool mo)) → Below W.heap.size W W1 → (Below w.heap.size w W1 ∧ W1.heap[w.heap.size]? = some (Obj.cells #[.string s, .int .i64 st, .bool hf, .bool mo] 174) ∧ W1.cell? ⟨w.heap.size, 0, none⟩ = some (.string s) ∧ W1.cell? ⟨w.heap.size, 1, none⟩ = some (.int .i64 st) ∧ W1.cell? ⟨w.heap.size, 2, none⟩ = some (.bool hf) ∧ W1.cell? ⟨w.heap.size, 3, none⟩ = some (.bool mo))) := box (fun W W1 h b => ⟨btr h.1 b, heap_of b _ _ _ h.2.1, cell7 (heap_of b _ _ _ h.2.1) 0 _ rfl, cell7 (heap_of b _ _ _ h.2.1) 1 _ rfl, cell7 (heap_of b _ _ _ h.2.1) 2 _ rfl, cell7 (heap_of b _ _ _ h.2.1) 3 _ rfl⟩)
  have s0 : Below w.heap.size w ((w.alloc (Obj.cells #[.string s, .int .i64 st, .bool hf, .bool mo] 174))).drew ∧ ((w.alloc (Obj.cells #[.string s, .int .i64 st, .bool hf, .bool mo] 174))).drew.heap[w.heap.size]? = some (Obj.cells #[.string s, .int .i64 st, .bool hf, .bool mo] 174) ∧ ((w.alloc (Obj.cells #[.string s, .int .i64 st, .bool hf, .bool mo] 174))).drew.cell? ⟨w.heap.size, 0, none⟩ = some (.string s) ∧ ((w.alloc (Obj.cells #[.string s, .int .i64 st, .bool hf, .bool mo] 174))).drew.cell? ⟨w.heap.size, 1, none⟩ = some (.int .i64 st) ∧ ((w.alloc (Obj.cells #[.string s, .int .i64 st, .bool hf, .bool mo] 174))).drew.cell? ⟨w.heap.size, 2, none⟩ = some (.bool hf) ∧ ((w.alloc (Obj.cells #[.string s, .int .i64 st, .bool hf, .bool mo] 174))).drew.cell? ⟨w.heap.size, 3, none⟩ = some (.bool mo) := ⟨B0.drew, Rr_0, cell7 (Rr_0) 0 _ rfl, cell7 (Rr_0) 1 _ rfl, cell7 (Rr_0) 2 _ rfl, cell7 (Rr_0) 3 _ rfl⟩
  go_wp2_with fail
  go_region_held3 (fun W => Below w.heap.size w W ∧ W.heap[w.heap.size]? = some (Obj.cells #[.string s, .int .i64 st, .bool hf, .bool mo] 174) ∧ W.cell? ⟨w.heap.size, 0, none⟩ = some (.string s) ∧ W.cell? ⟨w.heap.size, 1, none⟩ = some (.int .i64 st) ∧ W.cell? ⟨w.heap.size, 2, none⟩ = some (.bool hf) ∧ W.cell? ⟨w.heap.size, 3, none⟩ = some (.bool mo)) (first | exact s1 | exact s0)
    (first | (go_at_call 225; (first | refine (KL.out _).mono ?_ | refine (KL.out _).mono ?_); rintro r wq ⟨rfl, bq⟩; have s1 := (by first | exact sS.out _ _ s1 bq | exact sS.out _ _ s0 bq); clear bq) | fail)
  have B1 := (And.left s1)
  have Rr_1 := s1.2.1
  clear s0 s1 sS B0 Rr_0
  obtain ⟨cr_1_0, cr_1_1, cr_1_2, cr_1_3⟩ := cells4s Rr_1
  go_wp2
  go_ret
  exact ⟨rfl, B1⟩
end Go.Proofs.YtbmhfcppaajgbaaGreatDoor
namespace Go.Proofs.YtbmhfcppaajgbaaGreatDoor
set_option maxRecDepth 100000
open Go.RowKit WMath
set_option linter.unusedSimpArgs false
set_option linter.unusedVariables false

set_option maxRecDepth 100000 in
set_option maxHeartbeats 4000000 in
theorem ru_goesOn (m : Int) (hm : 0 ≤ m ∧ m ≤ 4) (neg odd half more o : Bool) (ho : gO m neg odd half more = o) (w : World) : Calls Tryz.prog 223 #[.int .u8 m, .bool neg, .bool odd, .agg #[.bool half, .bool more]] w fun r w' => r = .returned (.bool o) ∧ Below w.heap.size w w' := by
  subst ho
  have c : m = 0 ∨ m = 1 ∨ m = 2 ∨ m = 3 ∨ m = 4 := by omega
  clear hm
  rcases c with rfl | rfl | rfl | rfl | rfl
  · cases half <;> cases more <;> cases odd
    all_goals
      go_enter Tryz.func223, Tryz.ntmps223
      go_wp2
      go_ret
      exact ⟨rfl, bal _ _⟩
  · go_enter Tryz.func223, Tryz.ntmps223
    go_wp2
    go_ret
    exact ⟨rfl, bal _ _⟩
  · cases half <;> cases more <;> cases neg
    all_goals
      go_enter Tryz.func223, Tryz.ntmps223
      go_wp2
      go_ret
      exact ⟨rfl, bal _ _⟩
  · cases half <;> cases more <;> cases neg
    all_goals
      go_enter Tryz.func223, Tryz.ntmps223
      go_wp2
      go_ret
      exact ⟨rfl, bal _ _⟩
  · cases half <;> cases more <;> cases odd
    all_goals
      go_enter Tryz.func223, Tryz.ntmps223
      go_wp2
      go_ret
      exact ⟨rfl, bal _ _⟩
set_option maxRecDepth 100000 in
set_option maxHeartbeats 2000000 in
theorem ru_beyond (f m : Int) (neg o : Bool) (u v : Nat) (w : World)
    (KG : Box (∀ w, Calls Tryz.prog 223 #[.int .u8 m, .bool neg, .bool false, .agg #[.bool true, .bool true]] w fun r w' => r = .returned (.bool o) ∧ Below w.heap.size w w'))
    (KI : Box (o = true → ∀ w, FAt w → Calls Tryz.prog 131 #[.int .u8 f, .bool neg] w fun r w' => r = .returned (.agg #[.int .u64 (u : Nat), .int .u64 (v : Nat)]) ∧ Below w.heap.size w w'))
    (KT : Box (o = false → ∀ w, FAt w → Calls Tryz.prog 187 #[.int .u8 f, .bool neg] w fun r w' => r = .returned (.agg #[.int .u64 (u : Nat), .int .u64 (v : Nat)]) ∧ Below w.heap.size w w'))
    (hT : FAt w) : Calls Tryz.prog 150 #[.int .u8 f, .int .u8 m, .bool neg] w fun r w' => r = .returned (.agg #[.int .u64 (u : Nat), .int .u64 (v : Nat)]) ∧ Below w.heap.size w w' := by
  have FF := box hT
  clear hT
  cases o
  · have K2 := box (KT.out rfl)
    clear KI KT
    obtain ⟨Rz_0, B0⟩ := opn1 w (Obj.cells #[.int .u64 0, .int .u64 0] 25)
    go_enter Tryz.func150, Tryz.ntmps150
    go_wp2_with fail
    refine (KG.out _).mono ?_
    rintro r w1 ⟨rfl, b1⟩
    have B1 : Below w.heap.size w w1 := btr B0 b1
    have Rz_1 := heap_of b1 _ _ _ Rz_0
    clear b1 B0 Rz_0
    obtain ⟨cz_1_0, cz_1_1⟩ := cells2s Rz_1
    go_wp2_with fail
    refine (K2.out _ (fatB FF.out B1)).mono ?_
    rintro r w2 ⟨rfl, b2⟩
    have B2 : Below w.heap.size w w2 := btr B1 b2
    have Rz_2 := heap_of b2 _ _ _ Rz_1
    clear b2 B1 Rz_1 cz_1_0 cz_1_1
    obtain ⟨cz_2_0, cz_2_1⟩ := cells2s Rz_2
    have q0 := fz (k := 0) Rz_2
    have q1 := fz (k := 1) Rz_2
    obtain ⟨E0, E1⟩ := set2_cells Rz_2 (.int .u64 (u : Nat)) (.int .u64 (v : Nat))
    go_wp2
    exact bodyPost_ret (v := .agg #[.int .u64 (u : Nat), .int .u64 (v : Nat)]) (by simp [results, Tryz.results150, go_sem, E0, E1]) rfl ⟨rfl, set2_below B2 (by first | exact Nat.le_refl _ | omega | (skip; omega)) _ _⟩
  · have K2 := box (KI.out rfl)
    clear KI KT
    obtain ⟨Rz_0, B0⟩ := opn1 w (Obj.cells #[.int .u64 0, .int .u64 0] 25)
    go_enter Tryz.func150, Tryz.ntmps150
    go_wp2_with fail
    refine (KG.out _).mono ?_
    rintro r w1 ⟨rfl, b1⟩
    have B1 : Below w.heap.size w w1 := btr B0 b1
    have Rz_1 := heap_of b1 _ _ _ Rz_0
    clear b1 B0 Rz_0
    obtain ⟨cz_1_0, cz_1_1⟩ := cells2s Rz_1
    go_wp2_with fail
    refine (K2.out _ (fatB FF.out B1)).mono ?_
    rintro r w2 ⟨rfl, b2⟩
    have B2 : Below w.heap.size w w2 := btr B1 b2
    have Rz_2 := heap_of b2 _ _ _ Rz_1
    clear b2 B1 Rz_1 cz_1_0 cz_1_1
    obtain ⟨cz_2_0, cz_2_1⟩ := cells2s Rz_2
    have q0 := fz (k := 0) Rz_2
    have q1 := fz (k := 1) Rz_2
    obtain ⟨E0, E1⟩ := set2_cells Rz_2 (.int .u64 (u : Nat)) (.int .u64 (v : Nat))
    go_wp2
    exact bodyPost_ret (v := .agg #[.int .u64 (u : Nat), .int .u64 (v : Nat)]) (by simp [results, Tryz.results150, go_sem, E0, E1]) rfl ⟨rfl, set2_below B2 (by first | exact Nat.le_refl _ | omega | (skip; omega)) _ _⟩
set_option maxRecDepth 100000 in
set_option maxHeartbeats 2000000 in
theorem ru_encoded_pos (f : Int) (s : ByteArray) (st : Int) (hf mo : Bool) (xb : Bool) (xs xt : ByteArray) (xe me : Int) (u v : Nat) (is : Bool) (oe : Int) (w : World)
    (KM : Box (∀ w, TabAt w → Calls Tryz.prog 168 #[.bool false, .string s, .string ⟨#[1]⟩, .int .i64 st] w fun r w' => r = .returned (.tuple #[.agg #[.bool xb, .string xs, .string xt, .int .i64 xe], .int .i64 me]) ∧ Below w.heap.size w w'))
    (KO : Box (∀ w, FAt w → TabAt w → Calls Tryz.prog 226 #[.int .u8 f, .agg #[.bool xb, .string xs, .string xt, .int .i64 xe]] w fun r w' => r = .returned (.tuple #[.agg #[.int .u64 (u : Nat), .int .u64 (v : Nat)], .bool is, .int .i64 oe]) ∧ Below w.heap.size w w'))
    (hT : FAt w) (hT2 : TabAt w) : Calls Tryz.prog 151 #[.int .u8 f, .bool false, .agg #[.string s, .int .i64 st, .bool hf, .bool mo]] w fun r w' => r = .returned (.agg #[.int .u64 (u : Nat), .int .u64 (v : Nat)]) ∧ Below w.heap.size w w' := by
  have FF := box hT
  have TT := box hT2
  clear hT hT2
  obtain ⟨Rr_0, Rz_0, B0⟩ := opn2 w (Obj.cells #[.string s, .int .i64 st, .bool hf, .bool mo] 174) (Obj.cells #[.int .u64 0, .int .u64 0] 25)
  go_enter Tryz.func151, Tryz.ntmps151
  go_wp2_with fail
  refine (KM.out _ (tabB TT.out B0)).mono ?_
  rintro r w1 ⟨rfl, b1⟩
  have B1 : Below w.heap.size w w1 := btr B0 b1
  have Rr_1 := heap_of b1 _ _ _ Rr_0
  have Rz_1 := heap_of b1 _ _ _ Rz_0
  clear b1 B0 Rr_0 Rz_0
  obtain ⟨cr_1_0, cr_1_1, cr_1_2, cr_1_3⟩ := cells4s Rr_1
  obtain ⟨cz_1_0, cz_1_1⟩ := cells2s Rz_1
  have S2 := box B1.size
  have Lr_2 : Box (w.heap.size < w1.heap.size) := box (Array.getElem?_eq_some_iff.1 Rr_1).1
  have Lz_2 : Box (w.heap.size + 1 < w1.heap.size) := box (Array.getElem?_eq_some_iff.1 Rz_1).1
  have Rx_2 := heap_alloc_last w1 (Obj.cells #[.bool xb, .string xs, .string xt, .int .i64 xe] 41)
  have B2 := btr B1 (bal w1 (Obj.cells #[.bool xb, .string xs, .string xt, .int .i64 xe] 41))
  have Rr_2 := heap_of (bal w1 (Obj.cells #[.bool xb, .string xs, .string xt, .int .i64 xe] 41)) _ _ _ Rr_1
  have Rz_2 := heap_of (bal w1 (Obj.cells #[.bool xb, .string xs, .string xt, .int .i64 xe] 41)) _ _ _ Rz_1
  clear B1 Rr_1 cr_1_0 cr_1_1 cr_1_2 cr_1_3 Rz_1 cz_1_0 cz_1_1
  obtain ⟨cr_2_0, cr_2_1, cr_2_2, cr_2_3⟩ := cells4s Rr_2
  obtain ⟨cz_2_0, cz_2_1⟩ := cells2s Rz_2
  obtain ⟨cx_2_0, cx_2_1, cx_2_2, cx_2_3⟩ := cells4s Rx_2
  go_wp2_with fail
  refine (KO.out _ (fatB FF.out B2) (tabB TT.out B2)).mono ?_
  rintro r w3 ⟨rfl, b3⟩
  have B3 : Below w.heap.size w w3 := btr B2 b3
  have Rr_3 := heap_of b3 _ _ _ Rr_2
  have Rz_3 := heap_of b3 _ _ _ Rz_2
  have Rx_3 := heap_of b3 _ _ _ Rx_2
  clear b3 B2 Rr_2 cr_2_0 cr_2_1 cr_2_2 cr_2_3 Rz_2 cz_2_0 cz_2_1 Rx_2 cx_2_0 cx_2_1 cx_2_2 cx_2_3
  obtain ⟨cr_3_0, cr_3_1, cr_3_2, cr_3_3⟩ := cells4s Rr_3
  obtain ⟨cz_3_0, cz_3_1⟩ := cells2s Rz_3
  obtain ⟨cx_3_0, cx_3_1, cx_3_2, cx_3_3⟩ := cells4s Rx_3
  have S4 := box B3.size
  have Lr_4 : Box (w.heap.size < w3.heap.size) := box (Array.getElem?_eq_some_iff.1 Rr_3).1
  have Lz_4 : Box (w.heap.size + 1 < w3.heap.size) := box (Array.getElem?_eq_some_iff.1 Rz_3).1
  have Lx_4 : Box (w1.heap.size < w3.heap.size) := box (Array.getElem?_eq_some_iff.1 Rx_3).1
  have Rb_4 := heap_alloc_last w3 (Obj.cells #[.int .u64 (u : Nat), .int .u64 (v : Nat)] 25)
  have B4 := btr B3 (bal w3 (Obj.cells #[.int .u64 (u : Nat), .int .u64 (v : Nat)] 25))
  have Rr_4 := heap_of (bal w3 (Obj.cells #[.int .u64 (u : Nat), .int .u64 (v : Nat)] 25)) _ _ _ Rr_3
  have Rz_4 := heap_of (bal w3 (Obj.cells #[.int .u64 (u : Nat), .int .u64 (v : Nat)] 25)) _ _ _ Rz_3
  have Rx_4 := heap_of (bal w3 (Obj.cells #[.int .u64 (u : Nat), .int .u64 (v : Nat)] 25)) _ _ _ Rx_3
  clear B3 Rr_3 cr_3_0 cr_3_1 cr_3_2 cr_3_3 Rz_3 cz_3_0 cz_3_1 Rx_3 cx_3_0 cx_3_1 cx_3_2 cx_3_3
  obtain ⟨cr_4_0, cr_4_1, cr_4_2, cr_4_3⟩ := cells4s Rr_4
  obtain ⟨cz_4_0, cz_4_1⟩ := cells2s Rz_4
  obtain ⟨cx_4_0, cx_4_1, cx_4_2, cx_4_3⟩ := cells4s Rx_4
  obtain ⟨cb_4_0, cb_4_1⟩ := cells2s Rb_4
  have q0 := fz (k := 0) Rz_4
  have q1 := fz (k := 1) Rz_4
  obtain ⟨E0, E1⟩ := set2_cells Rz_4 (.int .u64 (u : Nat)) (.int .u64 (v : Nat))
  go_wp2
  exact bodyPost_ret (v := .agg #[.int .u64 (u : Nat), .int .u64 (v : Nat)]) (by simp [results, Tryz.results151, go_sem, E0, E1]) rfl ⟨rfl, set2_below B4 (by first | exact Nat.le_refl _ | omega | (have := S2.out; have := Lr_2.out; have := Lz_2.out; have := S4.out; have := Lr_4.out; have := Lz_4.out; have := Lx_4.out; omega)) _ _⟩
set_option maxRecDepth 100000 in
set_option maxHeartbeats 2000000 in
theorem ru_encoded_neg (f : Int) (s : ByteArray) (st : Int) (hf mo : Bool) (xb : Bool) (xs xt : ByteArray) (xe me : Int) (u v u' v' : Nat) (is : Bool) (oe : Int) (w : World)
    (KM : Box (∀ w, TabAt w → Calls Tryz.prog 168 #[.bool false, .string s, .string ⟨#[1]⟩, .int .i64 st] w fun r w' => r = .returned (.tuple #[.agg #[.bool xb, .string xs, .string xt, .int .i64 xe], .int .i64 me]) ∧ Below w.heap.size w w'))
    (KO : Box (∀ w, FAt w → TabAt w → Calls Tryz.prog 226 #[.int .u8 f, .agg #[.bool xb, .string xs, .string xt, .int .i64 xe]] w fun r w' => r = .returned (.tuple #[.agg #[.int .u64 (u : Nat), .int .u64 (v : Nat)], .bool is, .int .i64 oe]) ∧ Below w.heap.size w w'))
    (KF : Box (∀ w, FAt w → Calls Tryz.prog 40 #[.int .u8 f, .agg #[.int .u64 (u : Nat), .int .u64 (v : Nat)]] w fun r w' => r = .returned (.agg #[.int .u64 (u' : Nat), .int .u64 (v' : Nat)]) ∧ Below w.heap.size w w'))
    (hT : FAt w) (hT2 : TabAt w) : Calls Tryz.prog 151 #[.int .u8 f, .bool true, .agg #[.string s, .int .i64 st, .bool hf, .bool mo]] w fun r w' => r = .returned (.agg #[.int .u64 (u' : Nat), .int .u64 (v' : Nat)]) ∧ Below w.heap.size w w' := by
  have FF := box hT
  have TT := box hT2
  clear hT hT2
  obtain ⟨Rr_0, Rz_0, B0⟩ := opn2 w (Obj.cells #[.string s, .int .i64 st, .bool hf, .bool mo] 174) (Obj.cells #[.int .u64 0, .int .u64 0] 25)
  go_enter Tryz.func151, Tryz.ntmps151
  go_wp2_with fail
  refine (KM.out _ (tabB TT.out B0)).mono ?_
  rintro r w1 ⟨rfl, b1⟩
  have B1 : Below w.heap.size w w1 := btr B0 b1
  have Rr_1 := heap_of b1 _ _ _ Rr_0
  have Rz_1 := heap_of b1 _ _ _ Rz_0
  clear b1 B0 Rr_0 Rz_0
  obtain ⟨cr_1_0, cr_1_1, cr_1_2, cr_1_3⟩ := cells4s Rr_1
  obtain ⟨cz_1_0, cz_1_1⟩ := cells2s Rz_1
  have S2 := box B1.size
  have Lr_2 : Box (w.heap.size < w1.heap.size) := box (Array.getElem?_eq_some_iff.1 Rr_1).1
  have Lz_2 : Box (w.heap.size + 1 < w1.heap.size) := box (Array.getElem?_eq_some_iff.1 Rz_1).1
  have Rx_2 := heap_alloc_last w1 (Obj.cells #[.bool xb, .string xs, .string xt, .int .i64 xe] 41)
  have B2 := btr B1 (bal w1 (Obj.cells #[.bool xb, .string xs, .string xt, .int .i64 xe] 41))
  have Rr_2 := heap_of (bal w1 (Obj.cells #[.bool xb, .string xs, .string xt, .int .i64 xe] 41)) _ _ _ Rr_1
  have Rz_2 := heap_of (bal w1 (Obj.cells #[.bool xb, .string xs, .string xt, .int .i64 xe] 41)) _ _ _ Rz_1
  clear B1 Rr_1 cr_1_0 cr_1_1 cr_1_2 cr_1_3 Rz_1 cz_1_0 cz_1_1
  obtain ⟨cr_2_0, cr_2_1, cr_2_2, cr_2_3⟩ := cells4s Rr_2
  obtain ⟨cz_2_0, cz_2_1⟩ := cells2s Rz_2
  obtain ⟨cx_2_0, cx_2_1, cx_2_2, cx_2_3⟩ := cells4s Rx_2
  go_wp2_with fail
  refine (KO.out _ (fatB FF.out B2) (tabB TT.out B2)).mono ?_
  rintro r w3 ⟨rfl, b3⟩
  have B3 : Below w.heap.size w w3 := btr B2 b3
  have Rr_3 := heap_of b3 _ _ _ Rr_2
  have Rz_3 := heap_of b3 _ _ _ Rz_2
  have Rx_3 := heap_of b3 _ _ _ Rx_2
  clear b3 B2 Rr_2 cr_2_0 cr_2_1 cr_2_2 cr_2_3 Rz_2 cz_2_0 cz_2_1 Rx_2 cx_2_0 cx_2_1 cx_2_2 cx_2_3
  obtain ⟨cr_3_0, cr_3_1, cr_3_2, cr_3_3⟩ := cells4s Rr_3
  obtain ⟨cz_3_0, cz_3_1⟩ := cells2s Rz_3
  obtain ⟨cx_3_0, cx_3_1, cx_3_2, cx_3_3⟩ := cells4s Rx_3
  have S4 := box B3.size
  have Lr_4 : Box (w.heap.size < w3.heap.size) := box (Array.getElem?_eq_some_iff.1 Rr_3).1
  have Lz_4 : Box (w.heap.size + 1 < w3.heap.size) := box (Array.getElem?_eq_some_iff.1 Rz_3).1
  have Lx_4 : Box (w1.heap.size < w3.heap.size) := box (Array.getElem?_eq_some_iff.1 Rx_3).1
  have Rb_4 := heap_alloc_last w3 (Obj.cells #[.int .u64 (u : Nat), .int .u64 (v : Nat)] 25)
  have B4 := btr B3 (bal w3 (Obj.cells #[.int .u64 (u : Nat), .int .u64 (v : Nat)] 25))
  have Rr_4 := heap_of (bal w3 (Obj.cells #[.int .u64 (u : Nat), .int .u64 (v : Nat)] 25)) _ _ _ Rr_3
  have Rz_4 := heap_of (bal w3 (Obj.cells #[.int .u64 (u : Nat), .int .u64 (v : Nat)] 25)) _ _ _ Rz_3
  have Rx_4 := heap_of (bal w3 (Obj.cells #[.int .u64 (u : Nat), .int .u64 (v : Nat)] 25)) _ _ _ Rx_3
  clear B3 Rr_3 cr_3_0 cr_3_1 cr_3_2 cr_3_3 Rz_3 cz_3_0 cz_3_1 Rx_3 cx_3_0 cx_3_1 cx_3_2 cx_3_3
  obtain ⟨cr_4_0, cr_4_1, cr_4_2, cr_4_3⟩ := cells4s Rr_4
  obtain ⟨cz_4_0, cz_4_1⟩ := cells2s Rz_4
  obtain ⟨cx_4_0, cx_4_1, cx_4_2, cx_4_3⟩ := cells4s Rx_4
  obtain ⟨cb_4_0, cb_4_1⟩ := cells2s Rb_4
  go_wp2_with fail
  refine (KF.out _ (fatB FF.out B4)).mono ?_
  rintro r w5 ⟨rfl, b5⟩
  have B5 : Below w.heap.size w w5 := btr B4 b5
  have Rr_5 := heap_of b5 _ _ _ Rr_4
  have Rz_5 := heap_of b5 _ _ _ Rz_4
  have Rx_5 := heap_of b5 _ _ _ Rx_4
  have Rb_5 := heap_of b5 _ _ _ Rb_4
  clear b5 B4 Rr_4 cr_4_0 cr_4_1 cr_4_2 cr_4_3 Rz_4 cz_4_0 cz_4_1 Rx_4 cx_4_0 cx_4_1 cx_4_2 cx_4_3 Rb_4 cb_4_0 cb_4_1
  obtain ⟨cr_5_0, cr_5_1, cr_5_2, cr_5_3⟩ := cells4s Rr_5
  obtain ⟨cz_5_0, cz_5_1⟩ := cells2s Rz_5
  obtain ⟨cx_5_0, cx_5_1, cx_5_2, cx_5_3⟩ := cells4s Rx_5
  obtain ⟨cb_5_0, cb_5_1⟩ := cells2s Rb_5
  have q0 := fz (k := 0) Rz_5
  have q1 := fz (k := 1) Rz_5
  obtain ⟨E0, E1⟩ := set2_cells Rz_5 (.int .u64 (u' : Nat)) (.int .u64 (v' : Nat))
  go_wp2
  exact bodyPost_ret (v := .agg #[.int .u64 (u' : Nat), .int .u64 (v' : Nat)]) (by simp [results, Tryz.results151, go_sem, E0, E1]) rfl ⟨rfl, set2_below B5 (by first | exact Nat.le_refl _ | omega | (have := S2.out; have := Lr_2.out; have := Lz_2.out; have := S4.out; have := Lr_4.out; have := Lz_4.out; have := Lx_4.out; omega)) _ _⟩
end Go.Proofs.YtbmhfcppaajgbaaGreatDoor
namespace Go.Proofs.YtbmhfcppaajgbaaGreatDoor
set_option maxRecDepth 100000
open Go.RowKit WMath XMath
set_option linter.unusedSimpArgs false
set_option linter.unusedVariables false

theorem sandwich (φ : Nat → Rat) (mono : ∀ i j, i < j → φ i < φ j) {u : Rat} {m m' K : Nat} {b b' : Bool} (pk : 0 < K) (x1 : φ m ≤ u) (x2 : u < φ (m + 1)) (x3 : b = true ↔ φ m = u) (y1 : φ (m' * K) ≤ u) (y2 : u < φ ((m' + 1) * K)) (y3 : b' = true ↔ φ (m' * K) = u) :
    m' = m / K ∧ b' = (b && decide (m % K = 0)) := by
  have lt_of : ∀ i j, φ i < φ j → i < j := fun i j h => by
    rcases Nat.lt_trichotomy i j with c | c | c
    · exact c
    · subst c; exact absurd h Rat.lt_irrefl
    · exact absurd h (Rat.not_lt.2 (Rat.le_of_lt (mono _ _ c)))
  have c1 : m' * K < m + 1 := lt_of _ _ (by grind)
  have c2 : m < (m' + 1) * K := lt_of _ _ (by grind)
  have hm : m' = m / K := by
    symm
    rw [Nat.div_eq_iff pk]
    rw [Nat.add_mul] at c2
    omega
  refine ⟨hm, ?_⟩
  have hd := Nat.div_add_mod m K
  rw [Bool.eq_iff_iff, Bool.and_eq_true, decide_eq_true_iff, y3, x3]
  rw [← hm, Nat.mul_comm] at hd
  constructor
  · intro q
    have le2 : m ≤ m' * K := by
      rcases Nat.lt_or_ge (m' * K) m with c | c
      · have := mono _ _ c
        exact absurd this (Rat.not_lt.2 (by rw [q]; exact x1))
      · exact c
    have em : m = m' * K := by omega
    exact ⟨by rw [em]; exact q, by omega⟩
  · rintro ⟨q1, q2⟩
    have em : m' * K = m := by omega
    rw [em]
    exact q1
theorem within (φ : Nat → Rat) (mono : ∀ i j, i < j → φ i < φ j) {u : Rat} {m A B : Nat} (x1 : φ m ≤ u) (x2 : u < φ (m + 1)) (y1 : φ A ≤ u) (y2 : u < φ B) : A ≤ m ∧ m < B := by
  have lt_of : ∀ i j, φ i < φ j → i < j := fun i j h => by
    rcases Nat.lt_trichotomy i j with c | c | c
    · exact c
    · subst c; exact absurd h Rat.lt_irrefl
    · exact absurd h (Rat.not_lt.2 (Rat.le_of_lt (mono _ _ c)))
  have c1 : A < m + 1 := lt_of _ _ (by grind)
  have c2 : m < B := lt_of _ _ (by grind)
  omega
theorem mono1 (a : Int) (i j : Nat) (h : i < j) : (i : Rat) * (2 : Rat) ^ a < (j : Rat) * (2 : Rat) ^ a := (Rat.mul_lt_mul_right (p2 a)).2 (Rat.natCast_lt_natCast.2 h)
theorem mono2 (a : Int) (i j : Nat) (h : i < j) : ((i * i : Nat) : Rat) * (2 : Rat) ^ a < ((j * j : Nat) : Rat) * (2 : Rat) ^ a := (Rat.mul_lt_mul_right (p2 a)).2 (Rat.natCast_lt_natCast.2 (Nat.mul_self_lt_mul_self h))
theorem up1 (a : Int) (k n : Nat) : (n : Rat) * (2 : Rat) ^ (a + (k : Int)) = ((n * 2 ^ k : Nat) : Rat) * (2 : Rat) ^ a := by
  rw [Int.add_comm, p2add, p2nat, Rat.natCast_mul]; grind
theorem up2 (a : Int) (k n : Nat) : ((n * n : Nat) : Rat) * (2 : Rat) ^ (2 * (a + (k : Int))) = (((n * 2 ^ k) * (n * 2 ^ k) : Nat) : Rat) * (2 : Rat) ^ (2 * a) := by
  rw [show 2 * (a + (k : Int)) = 2 * a + ((2 * k : Nat) : Int) by omega, up1]
  congr 2
  rw [Nat.two_mul, Nat.pow_add, Nat.mul_mul_mul_comm]
theorem fl_ok (x : XN) (a : Int) (n0 : x.n ≠ 0) (hd : nl x.d ≤ 8192) (h1 : topX x - 300 ≤ a) (h2 : -2097152 ≤ a) (h3 : a ≤ 2097152) : (flX x a).2 = 0 := by
  unfold flX
  rw [if_neg (by omega), if_neg n0]
  by_cases c : a ≤ x.e
  · rw [if_pos c, if_pos]
    have bs := blen_shift x.n (x.e - a).toNat n0
    unfold topX lenD at h1
    unfold nl at hd ⊢
    split at h1 <;> omega
  · rw [if_neg c]
    split <;> rfl
/-- The bits of a number that count, one more than the precision, and whether anything is left. -/
def xW (f : Int) (x : XN) : Nat := (flX x (topX x - fP f)).1.1
def xM (f : Int) (x : XN) : Bool := !(flX x (topX x - fP f)).1.2
theorem x_num {f : Int} (hf : Is4 f) (x : XN) (hx : x.can) (n0 : x.n ≠ 0) (hd : nl x.d ≤ 8192) (ht1 : -1200000 ≤ topX x) (ht2 : topX x ≤ 1200000) :
    Wok f (xW f x) ∧ ∀ k : Nat, topX x - fP f + (k : Int) ≤ 2000000 → flX x (topX x - fP f + (k : Int)) = ((xW f x / 2 ^ k, !xM f x && decide (xW f x % 2 ^ k = 0)), 0) := by
  have hp := fp8 hf
  obtain ⟨n1, n2, n3, n4, n5, n6⟩ := nm8 hf
  obtain ⟨t1, t2⟩ := top_good x n0 hx.d0
  have g0 := fl_good x (topX x - fP f) hx n0 (fl_ok x _ n0 hd (by omega) (by omega) (by omega))
  constructor
  · have := within (fun n => (n : Rat) * (2 : Rat) ^ (topX x - fP f)) (mono1 _) (A := 2 ^ (pV f + 1)) (B := 2 ^ (pV f + 2)) g0.1 g0.2.1 (by
      show ((2 ^ (pV f + 1) : Nat) : Rat) * _ ≤ _
      have e := up1 (topX x - fP f) (pV f + 1) 1
      rw [Nat.one_mul, show topX x - fP f + ((pV f + 1 : Nat) : Int) = topX x by omega] at e
      rw [← e]
      have : ((1 : Nat) : Rat) = 1 := rfl
      rw [this, Rat.one_mul]
      exact t1) (by
      show _ < ((2 ^ (pV f + 2) : Nat) : Rat) * _
      have e := up1 (topX x - fP f) (pV f + 2) 1
      rw [Nat.one_mul, show topX x - fP f + ((pV f + 2 : Nat) : Int) = topX x + 1 by omega] at e
      rw [← e]
      have : ((1 : Nat) : Rat) = 1 := rfl
      rw [this, Rat.one_mul]
      exact t2)
    unfold Wok xW
    rw [Nat.pow_succ, Nat.pow_succ, Nat.pow_succ] at this
    omega
  · intro k hk
    have ok := fl_ok x (topX x - fP f + (k : Int)) n0 hd (by omega) (by omega) (by omega)
    have g := fl_good x (topX x - fP f + (k : Int)) hx n0 ok
    obtain ⟨⟨⟨m, b⟩, e⟩, he⟩ : ∃ q, flX x (topX x - fP f + (k : Int)) = q := ⟨_, rfl⟩
    rw [he] at ok g ⊢
    simp only at ok g
    rw [up1, up1] at g
    have := sandwich (fun n => (n : Rat) * (2 : Rat) ^ (topX x - fP f)) (mono1 _) (b := (flX x (topX x - fP f)).1.2) (Nat.two_pow_pos k) g0.1 g0.2.1 g0.2.2 g.1 g.2.1 g.2.2
    obtain ⟨q1, q2⟩ := this
    unfold xM xW
    rw [Bool.not_not, q1, q2, ok]
/-- A whole number whose square is the whole part of a number. -/
theorem rt_good {u : Rat} {a : Int} {N r : Nat} {ex : Bool} (h1 : (N : Rat) * (2 : Rat) ^ a ≤ u) (h2 : u < ((N + 1 : Nat) : Rat) * (2 : Rat) ^ a) (h3 : ex = true ↔ (N : Rat) * (2 : Rat) ^ a = u) (hr : RootIs N r) :
    ((r * r : Nat) : Rat) * (2 : Rat) ^ a ≤ u ∧ u < (((r + 1) * (r + 1) : Nat) : Rat) * (2 : Rat) ^ a ∧ ((ex && decide (N - r * r = 0)) = true ↔ ((r * r : Nat) : Rat) * (2 : Rat) ^ a = u) := by
  obtain ⟨r1, r2⟩ := hr
  have pos := p2 a
  have m1 : ((r * r : Nat) : Rat) * (2 : Rat) ^ a ≤ (N : Rat) * (2 : Rat) ^ a := Rat.mul_le_mul_of_nonneg_right (Rat.natCast_le_natCast.2 r1) (Rat.le_of_lt pos)
  have m2 : ((N + 1 : Nat) : Rat) * (2 : Rat) ^ a ≤ (((r + 1) * (r + 1) : Nat) : Rat) * (2 : Rat) ^ a := Rat.mul_le_mul_of_nonneg_right (Rat.natCast_le_natCast.2 r2) (Rat.le_of_lt pos)
  refine ⟨by grind, by grind, ?_⟩
  rw [Bool.and_eq_true, decide_eq_true_iff, h3]
  constructor
  · rintro ⟨q1, q2⟩
    have : r * r = N := by omega
    rw [this]
    exact q1
  · intro q
    have e : N = r * r := by
      rcases Nat.lt_or_ge (r * r) N with c | c
      · have := mono1 a _ _ c
        exact absurd this (Rat.not_lt.2 (by rw [q]; exact h1))
      · omega
    exact ⟨by rw [e]; exact q, by omega⟩
theorem r_num {f : Int} (hf : Is4 f) (x : XN) (hx : x.can) (n0 : x.n ≠ 0) (hd : nl x.d ≤ 8192) (ht1 : -1200000 ≤ topX x) (ht2 : topX x ≤ 1200000) :
    ∃ (W : Nat) (more : Bool), Wok f W ∧ ∀ k : Nat, topX x / 2 - fP f + (k : Int) ≤ 1000000 → ∃ N ex, flX x (2 * (topX x / 2 - fP f + (k : Int))) = ((N, ex), 0) ∧ RootIs N (W / 2 ^ k) ∧ (ex && decide (N - W / 2 ^ k * (W / 2 ^ k) = 0)) = (!more && decide (W % 2 ^ k = 0)) := by
  have hp := fp8 hf
  obtain ⟨n1, n2, n3, n4, n5, n6⟩ := nm8 hf
  obtain ⟨t1, t2⟩ := top_good x n0 hx.d0
  have ok0 := fl_ok x (2 * (topX x / 2 - fP f)) n0 hd (by omega) (by omega) (by omega)
  have g0 := fl_good x (2 * (topX x / 2 - fP f)) hx n0 ok0
  obtain ⟨W, hW⟩ := root_any (flX x (2 * (topX x / 2 - fP f))).1.1
  have s0 := rt_good g0.1 g0.2.1 g0.2.2 hW
  refine ⟨W, !((flX x (2 * (topX x / 2 - fP f))).1.2 && decide ((flX x (2 * (topX x / 2 - fP f))).1.1 - W * W = 0)), ?_, ?_⟩
  · have one : ∀ k : Nat, (((1 : Nat) * 1 : Nat) : Rat) * (2 : Rat) ^ (2 * (topX x / 2 - fP f + (k : Int))) = (2 : Rat) ^ (2 * (topX x / 2 - fP f + (k : Int))) := fun k => by
      have : (((1 : Nat) * 1 : Nat) : Rat) = 1 := rfl
      rw [this, Rat.one_mul]
    have := within (fun n => ((n * n : Nat) : Rat) * (2 : Rat) ^ (2 * (topX x / 2 - fP f))) (mono2 _) (A := 2 ^ (pV f + 1)) (B := 2 ^ (pV f + 2)) s0.1 s0.2.1 (by
      show ((2 ^ (pV f + 1) * 2 ^ (pV f + 1) : Nat) : Rat) * _ ≤ _
      have e := up2 (topX x / 2 - fP f) (pV f + 1) 1
      rw [one, Nat.one_mul] at e
      rw [← e]
      have := p2mono (2 * (topX x / 2 - fP f + ((pV f + 1 : Nat) : Int))) (topX x) (by omega)
      grind) (by
      show _ < ((2 ^ (pV f + 2) * 2 ^ (pV f + 2) : Nat) : Rat) * _
      have e := up2 (topX x / 2 - fP f) (pV f + 2) 1
      rw [one, Nat.one_mul] at e
      rw [← e]
      have := p2mono (topX x + 1) (2 * (topX x / 2 - fP f + ((pV f + 2 : Nat) : Int))) (by omega)
      grind)
    unfold Wok
    rw [Nat.pow_succ, Nat.pow_succ, Nat.pow_succ] at this
    omega
  · intro k hk
    have ok := fl_ok x (2 * (topX x / 2 - fP f + (k : Int))) n0 hd (by omega) (by omega) (by omega)
    have g := fl_good x (2 * (topX x / 2 - fP f + (k : Int))) hx n0 ok
    obtain ⟨⟨⟨N, ex⟩, e⟩, he⟩ : ∃ q, flX x (2 * (topX x / 2 - fP f + (k : Int))) = q := ⟨_, rfl⟩
    rw [he] at ok g ⊢
    simp only at ok g
    obtain ⟨r, hr⟩ := root_any N
    have s := rt_good g.1 g.2.1 g.2.2 hr
    rw [up2, up2] at s
    obtain ⟨q1, q2⟩ := sandwich (fun n => ((n * n : Nat) : Rat) * (2 : Rat) ^ (2 * (topX x / 2 - fP f))) (mono2 _) (Nat.two_pow_pos k) s0.1 s0.2.1 s0.2.2 s.1 s.2.1 s.2.2
    subst q1
    subst ok
    exact ⟨N, ex, rfl, hr, by rw [q2, Bool.not_not]⟩
end Go.Proofs.YtbmhfcppaajgbaaGreatDoor
