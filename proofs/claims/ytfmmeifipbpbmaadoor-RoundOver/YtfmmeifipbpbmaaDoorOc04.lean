/-
  What the functions that the statement reaches return: part 4 (R1, R30, R8, RA, RC, R12).
-/
import Derived.Lib.MinMax
import Derived.Deep.RegionHeld3
import Derived.Test.YtfmmeifipbpbmaaDoorOc03
namespace Go.Proofs.YtfmmeifipbpbmaaDoor
set_option maxRecDepth 100000
open Go.RowKit WMath XMath
set_option linter.unusedSimpArgs false
set_option linter.unusedVariables false

/-- Is the neighbour of the greater magnitude taken? By the mode, the sign, whether the lesser one is odd, whether half a step at least is left, whether anything is left beside that. -/
def gO (m : Int) (neg odd half more : Bool) : Bool :=
  if m = 0 then half && (more || odd) else if m = 4 then half else if m = 2 then (half || more) && neg else if m = 3 then (half || more) && !neg else false
def rS (W k : Nat) : Nat := W / 2 ^ k / 2
def rH (W k : Nat) : Bool := decide (W / 2 ^ k % 2 = 1)
def rM (W k : Nat) (more : Bool) : Bool := decide (W % 2 ^ k ≠ 0) || more
def rO (W k : Nat) : Bool := decide (rS W k % 2 = 1)
def rG (m : Int) (neg : Bool) (W k : Nat) (more : Bool) : Nat := if gO m neg (rO W k) (rH W k) (rM W k more) = true then rS W k + 1 else rS W k
def stE (f T : Int) : Int := max T (1 - fE f)
def eS (f : Int) (neg : Bool) (j S : Nat) : Nat := j * 2 ^ pV f + S + (if neg then 2 ^ wV f else 0)
def ovB (f m : Int) (neg : Bool) : Nat := if gO m neg false true true = true then eInf f neg else eGreatest f neg
def tnB (f m : Int) (neg : Bool) (T : Int) (W : Nat) (more : Bool) : Bool := decide (T - fP f + (blen (rG m neg W 0 more) : Int) < 1 - fE f)
def dK (f T : Int) : Nat := (stE f T - T).toNat
def dJ (f T : Int) : Nat := (stE f T - (1 - fE f)).toNat
/-- What is delivered, and the flags: T the place of the highest bit, W the whole part at the place T - p (p + 1 bits), more whether anything is left. -/
def dlv (f m : Int) (neg : Bool) (T : Int) (W : Nat) (more : Bool) : Nat × Int :=
  if fE f < stE f T - fP f + (blen (rG m neg W (dK f T) more) : Int) then (ovB f m neg, 5)
  else (eS f neg (dJ f T) (rG m neg W (dK f T) more), if (rH W (dK f T) || rM W (dK f T) more) = true then (if tnB f m neg T W more = true then 3 else 1) else 0)

theorem fp8 {f : Int} (hf : Is4 f) : fP f = (pV f : Int) + 1 := by rcases hf with rfl | rfl | rfl | rfl <;> decide
theorem od_two (s : Nat) (h : s ≠ 0) : od (2 * s) = od s ∧ tz (2 * s) = tz s + 1 := by
  have t : tz (2 * s) = tz s + 1 := by rw [tz_even (2 * s) (by omega) (by omega), Nat.mul_div_cancel_left s (by decide)]
  refine ⟨?_, t⟩
  unfold od
  rw [t, Nat.pow_succ, Nat.mul_comm (2 ^ tz s) 2, Nat.mul_div_mul_left _ _ (by decide)]
theorem mk_two (neg : Bool) (s : Nat) (x : Int) (s0 : s ≠ 0) (h1 : -1048576 ≤ x) (h2 : x + 1 + (tz s : Int) ≤ 1048576) : mk neg (2 * s) 1 x = mk neg s 1 (x + 1) := by
  obtain ⟨a, b⟩ := od_two s s0
  rw [mk_whole neg (2 * s) x (by omega) h1 (by rw [b]; omega), mk_whole neg s (x + 1) s0 (by omega) h2, a, b]
  congr 2
  omega
/-- A multiple of a step, as a significand and an exponent of the format. -/
theorem rep {f : Int} (hf : Is4 f) (j S : Nat) (s0 : S ≠ 0) (hS : S ≤ 2 * 2 ^ pV f) (hj : j = 0 ∨ 2 ^ pV f ≤ S) (ht : lx f + (j : Int) - 1 + (blen S : Int) ≤ fE f) :
    ∃ e t, e < oV f ∧ t < 2 ^ pV f ∧ sV f e t ≠ 0 ∧ (∀ neg, enc7 f neg e t = eS f neg j S) ∧ (∀ neg, mk neg S 1 (lx f + (j : Int)) = mk neg (sV f e t) 1 (xV f e)) := by
  obtain ⟨n1, n2, n3, n4, n5, n6⟩ := nm8 hf
  have p := Nat.two_pow_pos (pV f)
  have oe : (oV f : Int) = 2 * fE f + 1 := by unfold oV; omega
  by_cases c1 : S < 2 ^ pV f
  · obtain rfl : j = 0 := by omega
    refine ⟨0, S, by omega, c1, ?_, ?_, ?_⟩
    · unfold sV; rw [if_pos rfl]; exact s0
    · intro neg; unfold enc7 eS; rfl
    · intro neg; unfold sV xV; rw [if_pos rfl, if_pos rfl]; congr 1; omega
  by_cases c2 : S < 2 * 2 ^ pV f
  · have bl : blen S = pV f + 1 := blen_is S (pV f) (by omega) (by rw [Nat.pow_succ]; omega)
    refine ⟨j + 1, S - 2 ^ pV f, by omega, by omega, ?_, ?_, ?_⟩
    · unfold sV; rw [if_neg (by omega)]; omega
    · intro neg; unfold enc7 eS; rw [Nat.add_mul, Nat.one_mul]; omega
    · intro neg
      unfold sV xV
      rw [if_neg (by omega), if_neg (by omega), show 2 ^ pV f + (S - 2 ^ pV f) = S by omega]
      congr 1
      omega
  · obtain rfl : S = 2 * 2 ^ pV f := by omega
    have bl : blen (2 * 2 ^ pV f) = pV f + 1 + 1 := blen_is _ (pV f + 1) (by rw [Nat.pow_succ]; omega) (by rw [Nat.pow_succ, Nat.pow_succ]; omega)
    have tl := tz_blen (2 ^ pV f)
    have bl1 : blen (2 ^ pV f) = pV f + 1 := blen_is _ (pV f) (Nat.le_refl _) (by rw [Nat.pow_succ]; omega)
    refine ⟨j + 2, 0, by omega, p, ?_, ?_, ?_⟩
    · unfold sV; rw [if_neg (by omega)]; omega
    · intro neg; unfold enc7 eS; rw [Nat.add_mul]; omega
    · intro neg
      unfold sV xV
      rw [if_neg (by omega), if_neg (by omega), Nat.add_zero, mk_two neg (2 ^ pV f) _ (by omega) (by omega) (by omega)]
      congr 1
      omega
/-- The bits that count: one more than the precision. -/
def Wok (f : Int) (W : Nat) : Prop := 2 * 2 ^ pV f ≤ W ∧ W < 4 * 2 ^ pV f
theorem rG_two (m : Int) (neg : Bool) (W k : Nat) (more : Bool) : rG m neg W k more = rS W k ∨ rG m neg W k more = rS W k + 1 := by
  unfold rG; split <;> simp
theorem rS_lim {f : Int} {W : Nat} (h : Wok f W) (k : Nat) : rS W k < 2 * 2 ^ pV f ∧ (k = 0 → 2 ^ pV f ≤ rS W k) ∧ (0 < k → rS W k < 2 ^ pV f) := by
  obtain ⟨h1, h2⟩ := h
  unfold rS
  have d0 : W / 2 ^ k ≤ W := Nat.div_le_self _ _
  refine ⟨by omega, ?_, ?_⟩
  · intro e
    subst e
    rw [Nat.pow_zero, Nat.div_one]
    omega
  · intro hk
    obtain ⟨i, rfl⟩ : ∃ i, k = i + 1 := ⟨k - 1, by omega⟩
    rw [Nat.pow_succ, Nat.mul_comm (2 ^ i) 2, ← Nat.div_div_eq_div_mul]
    have d1 : W / 2 / 2 ^ i ≤ W / 2 := Nat.div_le_self _ _
    omega
theorem rG_lim {f : Int} {W : Nat} (h : Wok f W) (m : Int) (neg : Bool) (k : Nat) (more : Bool) : rG m neg W k more ≤ 2 * 2 ^ pV f ∧ (k = 0 → 2 ^ pV f ≤ rG m neg W k more) ∧ (0 < k → rG m neg W k more ≤ 2 ^ pV f) := by
  obtain ⟨a, b, c⟩ := rS_lim h k
  rcases rG_two m neg W k more with e | e <;> rw [e] <;> refine ⟨by omega, fun q => ?_, fun q => ?_⟩ <;> first | (have := b q; omega) | (have := c q; omega)
theorem st_lx {f : Int} (hf : Is4 f) (T : Int) : stE f T - fP f + 1 = lx f + (dJ f T : Int) := by
  have := fp8 hf
  have e := (nm8 hf).2.2.1
  unfold dJ stE
  omega
theorem jk {f : Int} (T : Int) : (dJ f T = 0 ∧ T + (dK f T : Int) = 1 - fE f) ∨ (dK f T = 0 ∧ T = 1 - fE f + (dJ f T : Int)) := by
  unfold dJ dK stE
  omega
/-- What the document finds of what is left: 1 above half a step, 0 just half, -1 below. -/
def hfV (half more : Bool) : Int := if half then (if more then 1 else 0) else -1
end Go.Proofs.YtfmmeifipbpbmaaDoor
namespace Go.Proofs.YtfmmeifipbpbmaaDoor
set_option maxRecDepth 100000
open Go.RowKit WMath XMath
set_option linter.unusedSimpArgs false
set_option linter.unusedVariables false

/-- The bits of a whole number that count, one more than the precision P, and whether anything is left. -/
def qW (P n : Nat) : Nat := if P + 1 ≤ blen n then n / 2 ^ (blen n - (P + 1)) else n * 2 ^ (P + 1 - blen n)
def qM (P n : Nat) (more : Bool) : Bool := if P + 1 ≤ blen n then decide (n % 2 ^ (blen n - (P + 1)) ≠ 0) || more else more
theorem blen_more (s n q : Nat) (s0 : s ≠ 0) (hq : q < 2 ^ n) : blen (s * 2 ^ n + q) = blen s + n := by
  have h := blen_push q n s hq s0
  rw [Nat.add_comm q, Nat.mul_comm (2 ^ n) s] at h
  omega
theorem div_more (s n q : Nat) (hq : q < 2 ^ n) : (s * 2 ^ n + q) / 2 ^ n = s := by
  rw [Nat.add_comm, Nat.add_mul_div_right _ _ (Nat.two_pow_pos n), Nat.div_eq_of_lt hq, Nat.zero_add]
theorem mod_more (s n q : Nat) (hq : q < 2 ^ n) : (s * 2 ^ n + q) % 2 ^ n = q := by
  rw [Nat.add_comm, Nat.add_mul_mod_self_right, Nat.mod_eq_of_lt hq]
theorem qdec_or {a b c : Prop} [Decidable a] [Decidable b] [Decidable c] (h : a ↔ (b ∨ c)) : decide a = (decide b || decide c) := by
  rw [Bool.eq_iff_iff, Bool.or_eq_true, decide_eq_true_iff, decide_eq_true_iff, decide_eq_true_iff]
  exact h
/-- A number that is made longer: what is put below it counts as something that is left. -/
theorem q_more (P s n q : Nat) (s0 : s ≠ 0) (hq : q < 2 ^ n) (h : q ≠ 0 → P + 1 ≤ blen s) : qW P (s * 2 ^ n + q) = qW P s ∧ qM P (s * 2 ^ n + q) false = qM P s (decide (q ≠ 0)) := by
  have hb := blen_more s n q s0 hq
  unfold qW qM
  rw [hb]
  by_cases c : P + 1 ≤ blen s
  · rw [if_pos c, if_pos c, if_pos (by omega), if_pos (by omega), show blen s + n - (P + 1) = n + (blen s - (P + 1)) by omega]
    constructor
    · rw [Nat.pow_add, ← Nat.div_div_eq_div_mul, div_more s n q hq]
    · rw [Bool.or_false, Bool.or_comm]
      refine qdec_or ?_
      have := mod_pow_zero (s * 2 ^ n + q) n (blen s - (P + 1))
      rw [mod_more s n q hq, div_more s n q hq] at this
      rw [Ne, this]
      omega
  · have q0 : q = 0 := by omega
    subst q0
    have z0 : decide ((0 : Nat) ≠ 0) = false := rfl
    rw [if_neg c, if_neg c, z0]
    simp only [Nat.add_zero]
    by_cases c2 : P + 1 ≤ blen s + n
    · rw [if_pos c2, if_pos c2]
      have e : s * 2 ^ n = s * 2 ^ (P + 1 - blen s) * 2 ^ (blen s + n - (P + 1)) := by
        rw [Nat.mul_assoc, ← Nat.pow_add]
        congr 2
        omega
      rw [e]
      refine ⟨Nat.mul_div_cancel _ (Nat.two_pow_pos _), ?_⟩
      rw [Bool.or_false, decide_eq_false_iff_not]
      exact fun q => q (Nat.mul_mod_left _ _)
    · rw [if_neg c2, if_neg c2, Nat.mul_assoc, ← Nat.pow_add]
      exact ⟨by congr 2; omega, rfl⟩
theorem qM_true (P s : Nat) (more : Bool) : qM P s more = (qM P s false || more) := by
  unfold qM
  split <;> simp
/-- A number whose lowest bit is set because there is more. -/
theorem q_jam (P s : Nat) (h : P + 2 ≤ blen s) : blen (s / 2 * 2 + 1) = blen s ∧ qW P (s / 2 * 2 + 1) = qW P s ∧ qM P (s / 2 * 2 + 1) false = true ∧ qM P s true = true := by
  have s0 : s ≠ 0 := by intro e; subst e; rw [blen_zero] at h; omega
  obtain ⟨l1, l2, l3⟩ := blen_low s s0
  have t0 : s / 2 ≠ 0 := by
    have : 2 ^ 1 ≤ 2 ^ (blen s - 1) := Nat.pow_le_pow_right (by decide) (by omega)
    omega
  have d : s = s / 2 * 2 ^ 1 + s % 2 := by omega
  have b1 := blen_more (s / 2) 1 (s % 2) t0 (by omega)
  have b2 := blen_more (s / 2) 1 1 t0 (by decide)
  rw [← d] at b1
  have q1 := q_more P (s / 2) 1 (s % 2) t0 (by omega) (fun _ => by omega)
  have q2 := q_more P (s / 2) 1 1 t0 (by decide) (fun _ => by omega)
  rw [← d] at q1
  rw [Nat.pow_one] at b2 q2
  refine ⟨by omega, by rw [q1.1, q2.1], ?_, ?_⟩
  · rw [q2.2, qM_true]; simp
  · rw [qM_true]; simp
theorem q_ok {f : Int} (s : Nat) (s0 : s ≠ 0) : Wok f (qW (pV f + 1) s) := by
  obtain ⟨l1, l2, l3⟩ := blen_low s s0
  have e1 : 2 * 2 ^ pV f = 2 ^ (pV f + 1) := by rw [Nat.pow_succ, Nat.mul_comm]
  have e2 : 4 * 2 ^ pV f = 2 ^ (pV f + 1 + 1) := by rw [Nat.pow_succ, Nat.pow_succ]; omega
  unfold Wok qW
  rw [e1, e2]
  by_cases c : pV f + 1 + 1 ≤ blen s
  · rw [if_pos c]
    have p := Nat.two_pow_pos (blen s - (pV f + 1 + 1))
    constructor
    · rw [Nat.le_div_iff_mul_le p, ← Nat.pow_add, show pV f + 1 + (blen s - (pV f + 1 + 1)) = blen s - 1 by omega]
      exact l2
    · rw [Nat.div_lt_iff_lt_mul p, ← Nat.pow_add, show pV f + 1 + 1 + (blen s - (pV f + 1 + 1)) = blen s by omega]
      exact l3
  · rw [if_neg c]
    have p := Nat.two_pow_pos (pV f + 1 + 1 - blen s)
    constructor
    · have := Nat.mul_le_mul_right (2 ^ (pV f + 1 + 1 - blen s)) l2
      rw [← Nat.pow_add, show blen s - 1 + (pV f + 1 + 1 - blen s) = pV f + 1 by omega] at this
      exact this
    · have := (Nat.mul_lt_mul_right p).2 l3
      rw [← Nat.pow_add, show blen s + (pV f + 1 + 1 - blen s) = pV f + 1 + 1 by omega] at this
      exact this
/-- What is cut off a number: the whole part, the bit below it, what is left. -/
theorem cutN (s L : Nat) (hs : s < Q) : s / 2 ^ min (L + 1) 384 = s / 2 ^ L / 2 ∧ decide (s % 2 ^ min (L + 1) 384 = 0) = !(decide (s / 2 ^ L % 2 = 1) || decide (s % 2 ^ L ≠ 0)) ∧ halfv s (min (L + 1) 385) = hfV (decide (s / 2 ^ L % 2 = 1)) (decide (s % 2 ^ L ≠ 0)) := by
  obtain ⟨Z, hZ, eQ⟩ := Qq384
  have hQ : s < 2 ^ Z := by rw [← eQ]; exact hs
  rw [← hZ]
  have full : s % 2 ^ (L + 1) = 0 ↔ (s % 2 ^ L = 0 ∧ s / 2 ^ L % 2 = 0) := by
    have := mod_pow_zero s L 1
    rw [Nat.pow_one] at this
    exact this
  have b1 : decide (s % 2 ^ (L + 1) = 0) = !(decide (s / 2 ^ L % 2 = 1) || decide (s % 2 ^ L ≠ 0)) := by
    rw [Bool.eq_iff_iff, decide_eq_true_iff, full, Bool.not_eq_true', Bool.or_eq_false_iff, decide_eq_false_iff_not, decide_eq_false_iff_not]
    omega
  by_cases c : L < Z
  · rw [Nat.min_eq_left (by omega : L + 1 ≤ Z), Nat.min_eq_left (by omega : L + 1 ≤ 385)]
    refine ⟨by rw [Nat.pow_succ, Nat.div_div_eq_div_mul], b1, ?_⟩
    rw [halfv_bit s L (by omega), Nat.testBit_eq_decide_div_mod_eq]
    unfold hfV
    by_cases z : s % 2 ^ L = 0
    · rw [if_pos z, decide_eq_false (show ¬ (s % 2 ^ L ≠ 0) by omega)]
      rfl
    · rw [if_neg z, decide_eq_true (show s % 2 ^ L ≠ 0 by omega)]
      rfl
  · have lt : s < 2 ^ L := Nat.lt_of_lt_of_le hQ (Nat.pow_le_pow_right (by decide) (by omega))
    have lt2 : s < 2 ^ (L + 1) := Nat.lt_of_lt_of_le hQ (Nat.pow_le_pow_right (by decide) (by omega))
    rw [Nat.min_eq_right (by omega : Z ≤ L + 1), Nat.min_eq_right (by omega : 385 ≤ L + 1)]
    refine ⟨by rw [Nat.div_eq_of_lt hQ, Nat.div_eq_of_lt lt], ?_, ?_⟩
    · rw [← b1, Nat.mod_eq_of_lt hQ, Nat.mod_eq_of_lt lt2]
    · unfold halfv
      rw [if_pos (Or.inr (by decide)), Nat.div_eq_of_lt lt]
      rfl
/-- What package round cuts: by the bits that count. -/
theorem cut_is (P s : Nat) (x st : Int) (k : Nat) (s0 : s ≠ 0) (hs : s < Q) (hP : P ≤ 200) (hst : st = x + (blen s : Int) - (P : Int) + (k : Int)) :
    s * 2 ^ cnt6 (x - st) < Q ∧ s * 2 ^ cnt6 (x - st) / 2 ^ cnt6 (st - x) = rS (qW P s) k ∧ decide (s * 2 ^ cnt6 (x - st) % 2 ^ cnt6 (st - x) = 0) = !(rH (qW P s) k || rM (qW P s) k (qM P s false)) ∧
    ((rH (qW P s) k || rM (qW P s) k (qM P s false)) = true → halfv (s * 2 ^ cnt6 (x - st)) (cnt5 (st - x)) = hfV (rH (qW P s) k) (rM (qW P s) k (qM P s false))) := by
  obtain ⟨l1, l2, l3⟩ := blen_low s s0
  obtain ⟨Z, hZ, eQ⟩ := Qq384
  have bQ : blen s ≤ Z := blen_le_of s Z (by rw [← eQ]; exact hs)
  have deep : ∀ L : Nat, st - x = ((L + 1 : Nat) : Int) → qW P s / 2 ^ k = s / 2 ^ L → rM (qW P s) k (qM P s false) = decide (s % 2 ^ L ≠ 0) → s * 2 ^ cnt6 (x - st) < Q ∧ s * 2 ^ cnt6 (x - st) / 2 ^ cnt6 (st - x) = rS (qW P s) k ∧ decide (s * 2 ^ cnt6 (x - st) % 2 ^ cnt6 (st - x) = 0) = !(rH (qW P s) k || rM (qW P s) k (qM P s false)) ∧
    ((rH (qW P s) k || rM (qW P s) k (qM P s false)) = true → halfv (s * 2 ^ cnt6 (x - st)) (cnt5 (st - x)) = hfV (rH (qW P s) k) (rM (qW P s) k (qM P s false))) := by
    intro L hL hq hm
    have e0 : cnt6 (x - st) = 0 := by unfold cnt6; omega
    have e1 : cnt6 (st - x) = min (L + 1) 384 := by unfold cnt6; omega
    have e2 : cnt5 (st - x) = min (L + 1) 385 := by unfold cnt5; omega
    obtain ⟨c1, c2, c3⟩ := cutN s L hs
    rw [e0, e1, e2, Nat.pow_zero, Nat.mul_one, hm]
    unfold rS rH
    rw [hq]
    exact ⟨hs, c1, c2, fun _ => c3⟩
  by_cases c : P + 1 ≤ blen s
  · refine deep (blen s - (P + 1) + k) (by omega) ?_ ?_
    · unfold qW
      rw [if_pos c, Nat.div_div_eq_div_mul, ← Nat.pow_add]
    · unfold rM qM qW
      rw [if_pos c, if_pos c, Bool.or_false]
      refine (qdec_or ?_).symm
      have := mod_pow_zero s (blen s - (P + 1)) k
      rw [Ne, this]
      omega
  · have W : qW P s = s * 2 ^ (P + 1 - blen s) := by unfold qW; rw [if_neg c]
    have M : qM P s false = false := by unfold qM; rw [if_neg c]
    by_cases c2 : P + 1 - blen s ≤ k
    · have e : s * 2 ^ (P + 1 - blen s) / 2 ^ k = s / 2 ^ (k - (P + 1 - blen s)) := by
        obtain ⟨i, rfl⟩ : ∃ i, k = P + 1 - blen s + i := ⟨k - (P + 1 - blen s), by omega⟩
        rw [Nat.pow_add, ← Nat.div_div_eq_div_mul, Nat.mul_div_cancel _ (Nat.two_pow_pos _), Nat.add_sub_cancel_left]
      refine deep (k - (P + 1 - blen s)) (by omega) (by rw [W, e]) ?_
      unfold rM
      rw [W, M, Bool.or_false]
      have := mod_pow_zero (s * 2 ^ (P + 1 - blen s)) (P + 1 - blen s) (k - (P + 1 - blen s))
      rw [show P + 1 - blen s + (k - (P + 1 - blen s)) = k by omega, Nat.mul_mod_left, Nat.mul_div_cancel _ (Nat.two_pow_pos _)] at this
      rw [decide_eq_decide, Ne, this]
      omega
    · obtain ⟨i, hi⟩ : ∃ i, P + 1 - blen s = i + 1 + k := ⟨P + 1 - blen s - 1 - k, by omega⟩
      have e0 : cnt6 (x - st) = i := by unfold cnt6; omega
      have e1 : cnt6 (st - x) = 0 := by unfold cnt6; omega
      have w1 : s * 2 ^ (P + 1 - blen s) / 2 ^ k = s * 2 ^ i * 2 := by
        rw [hi, Nat.pow_add, ← Nat.mul_assoc, Nat.mul_div_cancel _ (Nat.two_pow_pos _), Nat.pow_succ, Nat.mul_assoc]
      have hH : rH (s * 2 ^ (P + 1 - blen s)) k = false := by
        unfold rH
        rw [w1]
        exact decide_eq_false (by omega)
      have hM : rM (s * 2 ^ (P + 1 - blen s)) k false = false := by
        unfold rM
        rw [hi, Nat.pow_add, ← Nat.mul_assoc, Nat.mul_mod_left]
        rfl
      rw [W, M, e0, e1, hH, hM, Nat.pow_zero, Nat.div_one, Nat.mod_one]
      refine ⟨?_, ?_, rfl, fun q => Bool.noConfusion q⟩
      · have := (Nat.mul_lt_mul_right (Nat.two_pow_pos i)).2 l3
        rw [← Nat.pow_add] at this
        rw [eQ]
        exact Nat.lt_of_lt_of_le this (Nat.pow_le_pow_right (show 0 < 2 by decide) (by omega))
      · unfold rS
        rw [w1]
        omega
end Go.Proofs.YtfmmeifipbpbmaaDoor
namespace Go.Proofs.YtfmmeifipbpbmaaDoor
set_option maxRecDepth 100000
open Go.RowKit WMath XMath
set_option linter.unusedSimpArgs false
set_option linter.unusedVariables false

set_option maxRecDepth 100000 in
set_option maxHeartbeats 4000000 in
theorem rf_over (f m : Int) (hm : 0 ≤ m ∧ m ≤ 4) (neg : Bool) (u v : Nat) (w : World)
    (KI : Box (gO m neg false true true = true → ∀ w, Calls Tryd.prog 47 #[.int .u8 f, .bool neg] w fun r w' => r = .returned (.agg #[.int .u64 (u : Nat), .int .u64 (v : Nat)]) ∧ Below w.heap.size w w'))
    (KG : Box (gO m neg false true true = false → ∀ w, Calls Tryd.prog 46 #[.int .u8 f, .bool neg] w fun r w' => r = .returned (.agg #[.int .u64 (u : Nat), .int .u64 (v : Nat)]) ∧ Below w.heap.size w w'))
    : Calls Tryd.prog 23 #[.int .u8 f, .int .u8 m, .bool neg] w fun r w' => r = .returned (.agg #[.int .u64 (u : Nat), .int .u64 (v : Nat)]) ∧ Below w.heap.size w w' := by
  have c : m = 0 ∨ m = 1 ∨ m = 2 ∨ m = 3 ∨ m = 4 := by omega
  clear hm
  rcases c with rfl | rfl | rfl | rfl | rfl <;> cases neg
  · have K5 := box (KI.out rfl)
    clear KI KG
    obtain ⟨Rz_0, B0⟩ := opn1 w (Obj.cells #[.int .u64 0, .int .u64 0] 26)
    go_enter Tryd.func23, Tryd.ntmps23
    go_wp2_with fail
    refine (K5.out _).mono ?_
    rintro r w1 ⟨rfl, b1⟩
    have B1 : Below w.heap.size w w1 := btr B0 b1
    have Rz_1 := heap_of b1 _ _ _ Rz_0
    clear b1 B0 Rz_0
    obtain ⟨cz_1_0, cz_1_1⟩ := cells2s Rz_1
    have q0 := fz (k := 0) Rz_1
    have q1 := fz (k := 1) Rz_1
    obtain ⟨E0, E1⟩ := set2_cells Rz_1 (.int .u64 (u : Nat)) (.int .u64 (v : Nat))
    go_wp2
    exact bodyPost_ret (v := .agg #[.int .u64 (u : Nat), .int .u64 (v : Nat)]) (by simp [results, Tryd.results23, go_sem, E0, E1]) rfl ⟨rfl, set2_below B1 (by first | exact Nat.le_refl _ | omega | (skip; omega)) _ _⟩
  · have K5 := box (KI.out rfl)
    clear KI KG
    obtain ⟨Rz_0, B0⟩ := opn1 w (Obj.cells #[.int .u64 0, .int .u64 0] 26)
    go_enter Tryd.func23, Tryd.ntmps23
    go_wp2_with fail
    refine (K5.out _).mono ?_
    rintro r w1 ⟨rfl, b1⟩
    have B1 : Below w.heap.size w w1 := btr B0 b1
    have Rz_1 := heap_of b1 _ _ _ Rz_0
    clear b1 B0 Rz_0
    obtain ⟨cz_1_0, cz_1_1⟩ := cells2s Rz_1
    have q0 := fz (k := 0) Rz_1
    have q1 := fz (k := 1) Rz_1
    obtain ⟨E0, E1⟩ := set2_cells Rz_1 (.int .u64 (u : Nat)) (.int .u64 (v : Nat))
    go_wp2
    exact bodyPost_ret (v := .agg #[.int .u64 (u : Nat), .int .u64 (v : Nat)]) (by simp [results, Tryd.results23, go_sem, E0, E1]) rfl ⟨rfl, set2_below B1 (by first | exact Nat.le_refl _ | omega | (skip; omega)) _ _⟩
  · have K5 := box (KG.out rfl)
    clear KI KG
    obtain ⟨Rz_0, B0⟩ := opn1 w (Obj.cells #[.int .u64 0, .int .u64 0] 26)
    go_enter Tryd.func23, Tryd.ntmps23
    go_wp2_with fail
    refine (K5.out _).mono ?_
    rintro r w1 ⟨rfl, b1⟩
    have B1 : Below w.heap.size w w1 := btr B0 b1
    have Rz_1 := heap_of b1 _ _ _ Rz_0
    clear b1 B0 Rz_0
    obtain ⟨cz_1_0, cz_1_1⟩ := cells2s Rz_1
    have q0 := fz (k := 0) Rz_1
    have q1 := fz (k := 1) Rz_1
    obtain ⟨E0, E1⟩ := set2_cells Rz_1 (.int .u64 (u : Nat)) (.int .u64 (v : Nat))
    go_wp2
    exact bodyPost_ret (v := .agg #[.int .u64 (u : Nat), .int .u64 (v : Nat)]) (by simp [results, Tryd.results23, go_sem, E0, E1]) rfl ⟨rfl, set2_below B1 (by first | exact Nat.le_refl _ | omega | (skip; omega)) _ _⟩
  · have K5 := box (KG.out rfl)
    clear KI KG
    obtain ⟨Rz_0, B0⟩ := opn1 w (Obj.cells #[.int .u64 0, .int .u64 0] 26)
    go_enter Tryd.func23, Tryd.ntmps23
    go_wp2_with fail
    refine (K5.out _).mono ?_
    rintro r w1 ⟨rfl, b1⟩
    have B1 : Below w.heap.size w w1 := btr B0 b1
    have Rz_1 := heap_of b1 _ _ _ Rz_0
    clear b1 B0 Rz_0
    obtain ⟨cz_1_0, cz_1_1⟩ := cells2s Rz_1
    have q0 := fz (k := 0) Rz_1
    have q1 := fz (k := 1) Rz_1
    obtain ⟨E0, E1⟩ := set2_cells Rz_1 (.int .u64 (u : Nat)) (.int .u64 (v : Nat))
    go_wp2
    exact bodyPost_ret (v := .agg #[.int .u64 (u : Nat), .int .u64 (v : Nat)]) (by simp [results, Tryd.results23, go_sem, E0, E1]) rfl ⟨rfl, set2_below B1 (by first | exact Nat.le_refl _ | omega | (skip; omega)) _ _⟩
  · have K5 := box (KG.out rfl)
    clear KI KG
    obtain ⟨Rz_0, B0⟩ := opn1 w (Obj.cells #[.int .u64 0, .int .u64 0] 26)
    go_enter Tryd.func23, Tryd.ntmps23
    go_wp2_with fail
    refine (K5.out _).mono ?_
    rintro r w1 ⟨rfl, b1⟩
    have B1 : Below w.heap.size w w1 := btr B0 b1
    have Rz_1 := heap_of b1 _ _ _ Rz_0
    clear b1 B0 Rz_0
    obtain ⟨cz_1_0, cz_1_1⟩ := cells2s Rz_1
    have q0 := fz (k := 0) Rz_1
    have q1 := fz (k := 1) Rz_1
    obtain ⟨E0, E1⟩ := set2_cells Rz_1 (.int .u64 (u : Nat)) (.int .u64 (v : Nat))
    go_wp2
    exact bodyPost_ret (v := .agg #[.int .u64 (u : Nat), .int .u64 (v : Nat)]) (by simp [results, Tryd.results23, go_sem, E0, E1]) rfl ⟨rfl, set2_below B1 (by first | exact Nat.le_refl _ | omega | (skip; omega)) _ _⟩
  · have K5 := box (KI.out rfl)
    clear KI KG
    obtain ⟨Rz_0, B0⟩ := opn1 w (Obj.cells #[.int .u64 0, .int .u64 0] 26)
    go_enter Tryd.func23, Tryd.ntmps23
    go_wp2_with fail
    refine (K5.out _).mono ?_
    rintro r w1 ⟨rfl, b1⟩
    have B1 : Below w.heap.size w w1 := btr B0 b1
    have Rz_1 := heap_of b1 _ _ _ Rz_0
    clear b1 B0 Rz_0
    obtain ⟨cz_1_0, cz_1_1⟩ := cells2s Rz_1
    have q0 := fz (k := 0) Rz_1
    have q1 := fz (k := 1) Rz_1
    obtain ⟨E0, E1⟩ := set2_cells Rz_1 (.int .u64 (u : Nat)) (.int .u64 (v : Nat))
    go_wp2
    exact bodyPost_ret (v := .agg #[.int .u64 (u : Nat), .int .u64 (v : Nat)]) (by simp [results, Tryd.results23, go_sem, E0, E1]) rfl ⟨rfl, set2_below B1 (by first | exact Nat.le_refl _ | omega | (skip; omega)) _ _⟩
  · have K5 := box (KI.out rfl)
    clear KI KG
    obtain ⟨Rz_0, B0⟩ := opn1 w (Obj.cells #[.int .u64 0, .int .u64 0] 26)
    go_enter Tryd.func23, Tryd.ntmps23
    go_wp2_with fail
    refine (K5.out _).mono ?_
    rintro r w1 ⟨rfl, b1⟩
    have B1 : Below w.heap.size w w1 := btr B0 b1
    have Rz_1 := heap_of b1 _ _ _ Rz_0
    clear b1 B0 Rz_0
    obtain ⟨cz_1_0, cz_1_1⟩ := cells2s Rz_1
    have q0 := fz (k := 0) Rz_1
    have q1 := fz (k := 1) Rz_1
    obtain ⟨E0, E1⟩ := set2_cells Rz_1 (.int .u64 (u : Nat)) (.int .u64 (v : Nat))
    go_wp2
    exact bodyPost_ret (v := .agg #[.int .u64 (u : Nat), .int .u64 (v : Nat)]) (by simp [results, Tryd.results23, go_sem, E0, E1]) rfl ⟨rfl, set2_below B1 (by first | exact Nat.le_refl _ | omega | (skip; omega)) _ _⟩
  · have K5 := box (KG.out rfl)
    clear KI KG
    obtain ⟨Rz_0, B0⟩ := opn1 w (Obj.cells #[.int .u64 0, .int .u64 0] 26)
    go_enter Tryd.func23, Tryd.ntmps23
    go_wp2_with fail
    refine (K5.out _).mono ?_
    rintro r w1 ⟨rfl, b1⟩
    have B1 : Below w.heap.size w w1 := btr B0 b1
    have Rz_1 := heap_of b1 _ _ _ Rz_0
    clear b1 B0 Rz_0
    obtain ⟨cz_1_0, cz_1_1⟩ := cells2s Rz_1
    have q0 := fz (k := 0) Rz_1
    have q1 := fz (k := 1) Rz_1
    obtain ⟨E0, E1⟩ := set2_cells Rz_1 (.int .u64 (u : Nat)) (.int .u64 (v : Nat))
    go_wp2
    exact bodyPost_ret (v := .agg #[.int .u64 (u : Nat), .int .u64 (v : Nat)]) (by simp [results, Tryd.results23, go_sem, E0, E1]) rfl ⟨rfl, set2_below B1 (by first | exact Nat.le_refl _ | omega | (skip; omega)) _ _⟩
  · have K5 := box (KI.out rfl)
    clear KI KG
    obtain ⟨Rz_0, B0⟩ := opn1 w (Obj.cells #[.int .u64 0, .int .u64 0] 26)
    go_enter Tryd.func23, Tryd.ntmps23
    go_wp2_with fail
    refine (K5.out _).mono ?_
    rintro r w1 ⟨rfl, b1⟩
    have B1 : Below w.heap.size w w1 := btr B0 b1
    have Rz_1 := heap_of b1 _ _ _ Rz_0
    clear b1 B0 Rz_0
    obtain ⟨cz_1_0, cz_1_1⟩ := cells2s Rz_1
    have q0 := fz (k := 0) Rz_1
    have q1 := fz (k := 1) Rz_1
    obtain ⟨E0, E1⟩ := set2_cells Rz_1 (.int .u64 (u : Nat)) (.int .u64 (v : Nat))
    go_wp2
    exact bodyPost_ret (v := .agg #[.int .u64 (u : Nat), .int .u64 (v : Nat)]) (by simp [results, Tryd.results23, go_sem, E0, E1]) rfl ⟨rfl, set2_below B1 (by first | exact Nat.le_refl _ | omega | (skip; omega)) _ _⟩
  · have K5 := box (KI.out rfl)
    clear KI KG
    obtain ⟨Rz_0, B0⟩ := opn1 w (Obj.cells #[.int .u64 0, .int .u64 0] 26)
    go_enter Tryd.func23, Tryd.ntmps23
    go_wp2_with fail
    refine (K5.out _).mono ?_
    rintro r w1 ⟨rfl, b1⟩
    have B1 : Below w.heap.size w w1 := btr B0 b1
    have Rz_1 := heap_of b1 _ _ _ Rz_0
    clear b1 B0 Rz_0
    obtain ⟨cz_1_0, cz_1_1⟩ := cells2s Rz_1
    have q0 := fz (k := 0) Rz_1
    have q1 := fz (k := 1) Rz_1
    obtain ⟨E0, E1⟩ := set2_cells Rz_1 (.int .u64 (u : Nat)) (.int .u64 (v : Nat))
    go_wp2
    exact bodyPost_ret (v := .agg #[.int .u64 (u : Nat), .int .u64 (v : Nat)]) (by simp [results, Tryd.results23, go_sem, E0, E1]) rfl ⟨rfl, set2_below B1 (by first | exact Nat.le_refl _ | omega | (skip; omega)) _ _⟩
end Go.Proofs.YtfmmeifipbpbmaaDoor
namespace Go.Proofs.YtfmmeifipbpbmaaDoor
set_option maxRecDepth 100000
open Go.RowKit WMath XMath
set_option linter.unusedSimpArgs false
set_option linter.unusedVariables false

theorem k_emin (f : Int) (hf : Is4 f) (w : World) (hT : FAt w) : Calls Tryd.prog 31 #[.int .u8 f] w fun r w' => r = .returned (.int .i64 (1 - fE f)) ∧ Below w.heap.size w w' :=
  s_emin f _ _ (is4_ok hf).1 (is4_ok hf).2.1 rfl (em_lim hf).2.2.2.2.1 w hT
theorem eS_lt {f : Int} (hf : Is4 f) (j S : Nat) (hS : S ≤ 2 * 2 ^ pV f) (hj : j = 0 ∨ 2 ^ pV f ≤ S) (ht : lx f + (j : Int) - 1 + (blen S : Int) ≤ fE f) : j * 2 ^ pV f + S < 2 ^ wV f := by
  obtain ⟨g1, g2, g3, g4, g5, g6, g7⟩ := fm hf
  have p := Nat.two_pow_pos (pV f)
  by_cases s0 : S = 0
  · obtain rfl : j = 0 := by omega
    subst s0
    rw [Nat.zero_mul]
    exact Nat.two_pow_pos _
  obtain ⟨e, t, he, htt, nz, h1, h2⟩ := rep hf j S s0 hS hj ht
  have := h1 false
  unfold enc7 eS at this
  rw [if_neg (by decide), Nat.add_zero, Nat.add_zero] at this
  rw [← this, g1]
  have := Nat.mul_le_mul_right (2 ^ pV f) (show e + 1 ≤ oV f + 1 by omega)
  rw [Nat.add_mul, Nat.one_mul] at this
  omega
end Go.Proofs.YtfmmeifipbpbmaaDoor
namespace Go.Proofs.YtfmmeifipbpbmaaDoor
set_option maxRecDepth 100000
open Go.RowKit WMath XMath
set_option linter.unusedSimpArgs false
set_option linter.unusedVariables false

theorem rz_inf (f : Int) (neg : Bool) (hf : Is4 f) (u v : Nat) (hv : bv7 (eInf f neg) = (u, v)) (w : World) : Calls Tryd.prog 47 #[.int .u8 f, .bool neg] w fun r w' => r = .returned (.agg #[.int .u64 (u : Nat), .int .u64 (v : Nat)]) ∧ Below w.heap.size w w' := by
  have := r_inf f neg hf _ rfl w
  rw [hv] at this
  exact this
theorem rover (f m : Int) (hf : Is4 f) (hm : 0 ≤ m ∧ m ≤ 4) (neg : Bool) (u v : Nat) (hv : bv7 (ovB f m neg) = (u, v)) (w : World) : Calls Tryd.prog 23 #[.int .u8 f, .int .u8 m, .bool neg] w fun r w' => r = .returned (.agg #[.int .u64 (u : Nat), .int .u64 (v : Nat)]) ∧ Below w.heap.size w w' := by
  refine rf_over f m hm neg u v w (box (fun h w => rz_inf f neg hf u v ?_ w)) (box (fun h w => ?_))
  · unfold ovB at hv; rw [if_pos h] at hv; exact hv
  · unfold ovB at hv
    rw [if_neg (by rw [h]; decide)] at hv
    have := r_greatest f neg hf _ rfl w
    rw [hv] at this
    exact this
end Go.Proofs.YtfmmeifipbpbmaaDoor
namespace Go.Proofs.YtfmmeifipbpbmaaDoor
set_option maxRecDepth 100000
open Go.RowKit WMath
set_option linter.unusedSimpArgs false
set_option linter.unusedVariables false

/-- The cells of a rough number. -/
def rg (neg : Bool) (s : Nat) (x : Int) (more : Bool) : Array Value := #[.bool neg, .int .u64 (wd s 0 : Nat), .int .u64 (wd s 1 : Nat), .int .u64 (wd s 2 : Nat), .int .u64 (wd s 3 : Nat), .int .u64 (wd s 4 : Nat), .int .u64 (wd s 5 : Nat), .int .i64 x, .bool more]
theorem rgf (neg : Bool) (s : Nat) (x : Int) (more : Bool) : #[Value.bool neg, .int .u64 (wd s 0 : Nat), .int .u64 (wd s 1 : Nat), .int .u64 (wd s 2 : Nat), .int .u64 (wd s 3 : Nat), .int .u64 (wd s 4 : Nat), .int .u64 (wd s 5 : Nat), .int .i64 x, .bool more] = rg neg s x more := rfl
theorem rgz : #[Value.bool false, .int .u64 0, .int .u64 0, .int .u64 0, .int .u64 0, .int .u64 0, .int .u64 0, .int .i64 0, .bool false] = rg false 0 0 false := by unfold rg; simp [wd_zero]
theorem rg_size (neg : Bool) (s : Nat) (x : Int) (more : Bool) : (rg neg s x more).size = 9 := rfl
theorem rg_one (neg : Bool) (s : Nat) (x : Int) (more : Bool) : ∀ v ∈ (rg neg s x more).toList, v.oneCell' = true := by
  intro v hv
  simp only [rg, List.mem_cons, List.not_mem_nil, or_false] at hv
  rcases hv with rfl | rfl | rfl | rfl | rfl | rfl | rfl | rfl | rfl <;> rfl
theorem st_r (w : World) (b : Nat) (neg : Bool) (s : Nat) (x : Int) (more neg0 : Bool) (s0 : Nat) (x0 : Int) (more0 : Bool) (h : w.heap[b]? = some (.cells (rg neg0 s0 x0 more0) 39)) :
    (storeCells ⟨b, 0, none⟩ (rg neg s x more).toList 0).run Tryd.prog w = .ok () (w.setRow b (rg neg s x more)) :=
  run_storeCells_at (P := Tryd.prog) b 0 39 (rg neg s x more).toList 0 (rg neg0 s0 x0 more0) w h (by simp only [Array.length_toList, rg_size]; omega) (rg_one neg s x more)
theorem st_r0 (w : World) (b : Nat) (neg : Bool) (s : Nat) (x : Int) (more neg0 : Bool) (s0 : Nat) (x0 : Int) (more0 : Bool) (hb : b = w.heap.size) :
    (storeCells ⟨b, 0, none⟩ (rg neg s x more).toList 0).run Tryd.prog (w.alloc (.cells (rg neg0 s0 x0 more0) 39)) = .ok () (w.alloc (.cells (rg neg s x more) 39)) := by
  subst hb
  rw [st_r _ _ neg s x more neg0 s0 x0 more0 (heap_alloc_last w _), World.setRow_alloc_new]
theorem rg_cells {w : World} {g : Nat} {T : TypeId} {neg : Bool} {s : Nat} {x : Int} {more : Bool} (R : w.heap[g]? = some (.cells (rg neg s x more) T)) : w.cell? ⟨g, 0, none⟩ = some (.bool neg) ∧ w.cell? ⟨g, 1, none⟩ = some (.int .u64 (wd s 0 : Nat)) ∧ w.cell? ⟨g, 2, none⟩ = some (.int .u64 (wd s 1 : Nat)) ∧ w.cell? ⟨g, 3, none⟩ = some (.int .u64 (wd s 2 : Nat)) ∧ w.cell? ⟨g, 4, none⟩ = some (.int .u64 (wd s 3 : Nat)) ∧ w.cell? ⟨g, 5, none⟩ = some (.int .u64 (wd s 4 : Nat)) ∧ w.cell? ⟨g, 6, none⟩ = some (.int .u64 (wd s 5 : Nat)) ∧ w.cell? ⟨g, 7, none⟩ = some (.int .i64 x) ∧ w.cell? ⟨g, 8, none⟩ = some (.bool more) :=
  ⟨cells4 R 0 _ rfl, cells4 R 1 _ rfl, cells4 R 2 _ rfl, cells4 R 3 _ rfl, cells4 R 4 _ rfl, cells4 R 5 _ rfl, cells4 R 6 _ rfl, cells4 R 7 _ rfl, cells4 R 8 _ rfl⟩
theorem rg_set1 (neg : Bool) (s t : Nat) (x : Int) (more : Bool) (h : ∀ k, 0 < k → k < 6 → wd t k = wd s k) : (rg neg s x more).setIfInBounds 1 (.int .u64 (wd t 0 : Nat)) = rg neg t x more := by
  have h1 := h 1 (by decide) (by decide)
  have h2 := h 2 (by decide) (by decide)
  have h3 := h 3 (by decide) (by decide)
  have h4 := h 4 (by decide) (by decide)
  have h5 := h 5 (by decide) (by decide)
  unfold rg
  rw [h1, h2, h3, h4, h5]
  rfl
theorem rg_set8 (neg : Bool) (s : Nat) (x : Int) (more m2 : Bool) : (rg neg s x more).setIfInBounds 8 (.bool m2) = rg neg s x m2 := rfl
set_option maxRecDepth 100000 in
theorem ro_stepAt (f T P A1 v : Int) (w : World)
    (KP : Box (∀ w, FAt w → Calls Tryd.prog 50 #[.int .u8 f] w fun r w' => r = .returned (.int .i64 P) ∧ Below w.heap.size w w'))
    (h1 : IntKind.i64.wrap (T - P) = A1) (h2 : IntKind.i64.wrap (A1 + 1) = v) (hT : FAt w) : Calls Tryd.prog 29 #[.int .u8 f, .int .i64 T] w fun r w' => r = .returned (.int .i64 v) ∧ Below w.heap.size w w' := by
  have FF := box hT
  clear hT
  have B0 : Below w.heap.size w w := (Below.refl _ _)
  go_enter Tryd.func29, Tryd.ntmps29
  go_wp2_with fail
  refine (KP.out _ (fatB FF.out B0)).mono ?_
  rintro r w1 ⟨rfl, b1⟩
  have B1 : Below w.heap.size w w1 := btr B0 b1
  clear b1 B0 
  go_wp2
  go_ret
  exact ⟨rfl, B1⟩
set_option maxRecDepth 100000 in
set_option maxHeartbeats 2000000 in
theorem ro_top (neg : Bool) (s : Nat) (x : Int) (more : Bool) (l A1 v : Int) (w : World)
    (KL : Box (∀ w, Calls Tryd.prog 49 #[.agg (cw 6 s)] w fun r w' => r = .returned (.int .i64 l) ∧ Below w.heap.size w w'))
    (h1 : IntKind.i64.wrap (x + l) = A1) (h2 : IntKind.i64.wrap (A1 - 1) = v) : Calls Tryd.prog 30 #[.agg (rg neg s x more)] w fun r w' => r = .returned (.int .i64 v) ∧ Below w.heap.size w w' := by
  have hat := cw_at 6
  have hz := cw6z
  have hff := cw6f
  have hs0 := st0
  have hcs : ∀ x, ((cw 6 x).size = 6) = True := fun x => eq_true (cw_size 6 x)
  obtain ⟨Rx_0, B0⟩ := opn1 w (Obj.cells (rg neg s x more) 39)
  go_enter Tryd.func30, Tryd.ntmps30
  have sS : Box (∀ W W1 : World, (Below w.heap.size w W ∧ W.heap[w.heap.size]? = some (Obj.cells (rg neg s x more) 39) ∧ W.cell? ⟨w.heap.size, 0, none⟩ = some (.bool neg) ∧ W.cell? ⟨w.heap.size, 1, none⟩ = some (.int .u64 ((wd s 0 : Nat) : Int)) ∧ W.cell? ⟨w.heap.size, 2, none⟩ = some (.int .u64 ((wd s 1 : Nat) : Int)) ∧ W.cell? ⟨w.heap.size, 3, none⟩ = some (.int .u64 ((wd s 2 : Nat) : Int)) ∧ W.cell? ⟨w.heap.size, 4, none⟩ = some (.int .u64 ((wd s 3 : Nat) : Int)) ∧ W.cell? ⟨w.heap.size, 5, none⟩ = some (.int .u64 ((wd s 4 : Nat) : Int)) ∧ W.cell? ⟨w.heap.size, 6, none⟩ = some (.int .u64 ((wd s 5 : Nat) : Int)) ∧ W.cell? ⟨w.heap.size, 7, none⟩ = some (.int .i64 x) ∧ W.cell? ⟨w.heap.size, 8, none⟩ = some (.bool more)) → Below W.heap.size W W1 → (Below w.heap.size w W1 ∧ W1.heap[w.heap.size]? = some (Obj.cells (rg neg s x more) 39) ∧ W1.cell? ⟨w.heap.size, 0, none⟩ = some (.bool neg) ∧ W1.cell? ⟨w.heap.size, 1, none⟩ = some (.int .u64 ((wd s 0 : Nat) : Int)) ∧ W1.cell? ⟨w.heap.size, 2, none⟩ = some (.int .u64 ((wd s 1 : Nat) : Int)) ∧ W1.cell? ⟨w.heap.size, 3, none⟩ = some (.int .u64 ((wd s 2 : Nat) : Int)) ∧ W1.cell? ⟨w.heap.size, 4, none⟩ = some (.int .u64 ((wd s 3 : Nat) : Int)) ∧ W1.cell? ⟨w.heap.size, 5, none⟩ = some (.int .u64 ((wd s 4 : Nat) : Int)) ∧ W1.cell? ⟨w.heap.size, 6, none⟩ = some (.int .u64 ((wd s 5 : Nat) : Int)) ∧ W1.cell? ⟨w.heap.size, 7, none⟩ = some (.int .i64 x) ∧ W1.cell? ⟨w.heap.size, 8, none⟩ = some (.bool more))) := box (fun W W1 h b => ⟨btr h.1 b, heap_of b _ _ _ h.2.1, cell7 (heap_of b _ _ _ h.2.1) 0 _ rfl, cell7 (heap_of b _ _ _ h.2.1) 1 _ rfl, cell7 (heap_of b _ _ _ h.2.1) 2 _ rfl, cell7 (heap_of b _ _ _ h.2.1) 3 _ rfl, cell7 (heap_of b _ _ _ h.2.1) 4 _ rfl, cell7 (heap_of b _ _ _ h.2.1) 5 _ rfl, cell7 (heap_of b _ _ _ h.2.1) 6 _ rfl, cell7 (heap_of b _ _ _ h.2.1) 7 _ rfl, cell7 (heap_of b _ _ _ h.2.1) 8 _ rfl⟩)
  have s0 : Below w.heap.size w ((w.alloc (Obj.cells (rg neg s x more) 39))).drew ∧ ((w.alloc (Obj.cells (rg neg s x more) 39))).drew.heap[w.heap.size]? = some (Obj.cells (rg neg s x more) 39) ∧ ((w.alloc (Obj.cells (rg neg s x more) 39))).drew.cell? ⟨w.heap.size, 0, none⟩ = some (.bool neg) ∧ ((w.alloc (Obj.cells (rg neg s x more) 39))).drew.cell? ⟨w.heap.size, 1, none⟩ = some (.int .u64 ((wd s 0 : Nat) : Int)) ∧ ((w.alloc (Obj.cells (rg neg s x more) 39))).drew.cell? ⟨w.heap.size, 2, none⟩ = some (.int .u64 ((wd s 1 : Nat) : Int)) ∧ ((w.alloc (Obj.cells (rg neg s x more) 39))).drew.cell? ⟨w.heap.size, 3, none⟩ = some (.int .u64 ((wd s 2 : Nat) : Int)) ∧ ((w.alloc (Obj.cells (rg neg s x more) 39))).drew.cell? ⟨w.heap.size, 4, none⟩ = some (.int .u64 ((wd s 3 : Nat) : Int)) ∧ ((w.alloc (Obj.cells (rg neg s x more) 39))).drew.cell? ⟨w.heap.size, 5, none⟩ = some (.int .u64 ((wd s 4 : Nat) : Int)) ∧ ((w.alloc (Obj.cells (rg neg s x more) 39))).drew.cell? ⟨w.heap.size, 6, none⟩ = some (.int .u64 ((wd s 5 : Nat) : Int)) ∧ ((w.alloc (Obj.cells (rg neg s x more) 39))).drew.cell? ⟨w.heap.size, 7, none⟩ = some (.int .i64 x) ∧ ((w.alloc (Obj.cells (rg neg s x more) 39))).drew.cell? ⟨w.heap.size, 8, none⟩ = some (.bool more) := ⟨B0.drew, Rx_0, cell7 (Rx_0) 0 _ rfl, cell7 (Rx_0) 1 _ rfl, cell7 (Rx_0) 2 _ rfl, cell7 (Rx_0) 3 _ rfl, cell7 (Rx_0) 4 _ rfl, cell7 (Rx_0) 5 _ rfl, cell7 (Rx_0) 6 _ rfl, cell7 (Rx_0) 7 _ rfl, cell7 (Rx_0) 8 _ rfl⟩
  go_wp2_with fail
  go_region_held3 (fun W => Below w.heap.size w W ∧ W.heap[w.heap.size]? = some (Obj.cells (rg neg s x more) 39) ∧ W.cell? ⟨w.heap.size, 0, none⟩ = some (.bool neg) ∧ W.cell? ⟨w.heap.size, 1, none⟩ = some (.int .u64 ((wd s 0 : Nat) : Int)) ∧ W.cell? ⟨w.heap.size, 2, none⟩ = some (.int .u64 ((wd s 1 : Nat) : Int)) ∧ W.cell? ⟨w.heap.size, 3, none⟩ = some (.int .u64 ((wd s 2 : Nat) : Int)) ∧ W.cell? ⟨w.heap.size, 4, none⟩ = some (.int .u64 ((wd s 3 : Nat) : Int)) ∧ W.cell? ⟨w.heap.size, 5, none⟩ = some (.int .u64 ((wd s 4 : Nat) : Int)) ∧ W.cell? ⟨w.heap.size, 6, none⟩ = some (.int .u64 ((wd s 5 : Nat) : Int)) ∧ W.cell? ⟨w.heap.size, 7, none⟩ = some (.int .i64 x) ∧ W.cell? ⟨w.heap.size, 8, none⟩ = some (.bool more)) (first | exact s1 | exact s0)
    (first | (go_at_call 49; (first | refine (KL.out _).mono ?_ | refine (KL.out _).mono ?_); rintro r wq ⟨rfl, bq⟩; have s1 := (by first | exact sS.out _ _ s1 bq | exact sS.out _ _ s0 bq); clear bq) | fail)
  have B1 := (And.left s1)
  have Rx_1 := s1.2.1
  clear s0 s1 sS B0 Rx_0
  obtain ⟨cx_1_0, cx_1_1, cx_1_2, cx_1_3, cx_1_4, cx_1_5, cx_1_6, cx_1_7, cx_1_8⟩ := rg_cells Rx_1
  go_wp2
  go_ret
  exact ⟨rfl, B1⟩
set_option maxRecDepth 100000 in
theorem ro_check_a (f m c1 : Int) (w : World) (K1 : Box (∀ w, Calls Tryd.prog 41 #[.int .u8 f] w fun r w' => r = .returned (.int .i64 c1) ∧ Below w.heap.size w w')) (h1 : (c1 != 0) = true) : Calls Tryd.prog 18 #[.int .u8 f, .int .u8 m] w fun r w' => r = .returned (.int .i64 2) ∧ Below w.heap.size w w' := by
  have B0 : Below w.heap.size w w := (Below.refl _ _)
  go_enter Tryd.func18, Tryd.ntmps18
  go_wp2_with fail
  refine (K1.out _).mono ?_
  rintro r w1 ⟨rfl, b1⟩
  have B1 : Below w.heap.size w w1 := btr B0 b1
  clear b1 B0 
  go_wp2
  go_ret
  exact ⟨rfl, B1⟩
set_option maxRecDepth 100000 in
theorem ro_check_b (f m c1 c2 : Int) (w : World) (K1 : Box (∀ w, Calls Tryd.prog 41 #[.int .u8 f] w fun r w' => r = .returned (.int .i64 c1) ∧ Below w.heap.size w w')) (K2 : Box (∀ w, Calls Tryd.prog 42 #[.int .u8 m] w fun r w' => r = .returned (.int .i64 c2) ∧ Below w.heap.size w w')) (h1 : (c1 != 0) = false) (h2 : (c2 != 0) = true) : Calls Tryd.prog 18 #[.int .u8 f, .int .u8 m] w fun r w' => r = .returned (.int .i64 2) ∧ Below w.heap.size w w' := by
  have B0 : Below w.heap.size w w := (Below.refl _ _)
  go_enter Tryd.func18, Tryd.ntmps18
  go_wp2_with fail
  refine (K1.out _).mono ?_
  rintro r w1 ⟨rfl, b1⟩
  have B1 : Below w.heap.size w w1 := btr B0 b1
  clear b1 B0 
  go_wp2_with fail
  refine (K2.out _).mono ?_
  rintro r w2 ⟨rfl, b2⟩
  have B2 : Below w.heap.size w w2 := btr B1 b2
  clear b2 B1 
  go_wp2
  go_ret
  exact ⟨rfl, B2⟩
set_option maxRecDepth 100000 in
theorem ro_check_c (f m c1 c2 : Int) (w : World) (K1 : Box (∀ w, Calls Tryd.prog 41 #[.int .u8 f] w fun r w' => r = .returned (.int .i64 c1) ∧ Below w.heap.size w w')) (K2 : Box (∀ w, Calls Tryd.prog 42 #[.int .u8 m] w fun r w' => r = .returned (.int .i64 c2) ∧ Below w.heap.size w w')) (h1 : (c1 != 0) = false) (h2 : (c2 != 0) = false) : Calls Tryd.prog 18 #[.int .u8 f, .int .u8 m] w fun r w' => r = .returned (.int .i64 0) ∧ Below w.heap.size w w' := by
  have B0 : Below w.heap.size w w := (Below.refl _ _)
  go_enter Tryd.func18, Tryd.ntmps18
  go_wp2_with fail
  refine (K1.out _).mono ?_
  rintro r w1 ⟨rfl, b1⟩
  have B1 : Below w.heap.size w w1 := btr B0 b1
  clear b1 B0 
  go_wp2_with fail
  refine (K2.out _).mono ?_
  rintro r w2 ⟨rfl, b2⟩
  have B2 : Below w.heap.size w w2 := btr B1 b2
  clear b2 B1 
  go_wp2
  go_ret
  exact ⟨rfl, B2⟩
set_option maxRecDepth 100000 in
set_option maxHeartbeats 2000000 in
theorem ro_may_lo (f : Int) (neg : Bool) (s : Nat) (x : Int) (more : Bool) (w : World) (h : decide (x < -1048576) = true) : Calls Tryd.prog 26 #[.int .u8 f, .agg (rg neg s x more)] w fun r w' => r = .returned (.bool false) ∧ Below w.heap.size w w' := by
  have hat := cw_at 6
  have hz := cw6z
  have hff := cw6f
  have hs0 := st0
  have hcs : ∀ x, ((cw 6 x).size = 6) = True := fun x => eq_true (cw_size 6 x)
  obtain ⟨Rx_0, B0⟩ := opn1 w (Obj.cells (rg neg s x more) 39)
  go_enter Tryd.func26, Tryd.ntmps26
  obtain ⟨cx_0_0, cx_0_1, cx_0_2, cx_0_3, cx_0_4, cx_0_5, cx_0_6, cx_0_7, cx_0_8⟩ := rg_cells Rx_0
  go_wp2
  go_ret
  exact ⟨rfl, B0⟩
set_option maxRecDepth 100000 in
set_option maxHeartbeats 2000000 in
theorem ro_may_hi (f : Int) (neg : Bool) (s : Nat) (x : Int) (more : Bool) (w : World) (h : decide (x < -1048576) = false) (h2 : decide (1048576 < x) = true) : Calls Tryd.prog 26 #[.int .u8 f, .agg (rg neg s x more)] w fun r w' => r = .returned (.bool false) ∧ Below w.heap.size w w' := by
  have hat := cw_at 6
  have hz := cw6z
  have hff := cw6f
  have hs0 := st0
  have hcs : ∀ x, ((cw 6 x).size = 6) = True := fun x => eq_true (cw_size 6 x)
  obtain ⟨Rx_0, B0⟩ := opn1 w (Obj.cells (rg neg s x more) 39)
  go_enter Tryd.func26, Tryd.ntmps26
  obtain ⟨cx_0_0, cx_0_1, cx_0_2, cx_0_3, cx_0_4, cx_0_5, cx_0_6, cx_0_7, cx_0_8⟩ := rg_cells Rx_0
  go_wp2
  go_ret
  exact ⟨rfl, B0⟩
set_option maxRecDepth 100000 in
set_option maxHeartbeats 2000000 in
theorem ro_may_no (f : Int) (neg : Bool) (s : Nat) (x : Int) (w : World) (h : decide (x < -1048576) = false) (h2 : decide (1048576 < x) = false) : Calls Tryd.prog 26 #[.int .u8 f, .agg (rg neg s x false)] w fun r w' => r = .returned (.bool true) ∧ Below w.heap.size w w' := by
  have hat := cw_at 6
  have hz := cw6z
  have hff := cw6f
  have hs0 := st0
  have hcs : ∀ x, ((cw 6 x).size = 6) = True := fun x => eq_true (cw_size 6 x)
  obtain ⟨Rx_0, B0⟩ := opn1 w (Obj.cells (rg neg s x false) 39)
  go_enter Tryd.func26, Tryd.ntmps26
  obtain ⟨cx_0_0, cx_0_1, cx_0_2, cx_0_3, cx_0_4, cx_0_5, cx_0_6, cx_0_7, cx_0_8⟩ := rg_cells Rx_0
  go_wp2
  go_ret
  exact ⟨rfl, B0⟩
set_option maxRecDepth 100000 in
set_option maxHeartbeats 2000000 in
theorem ro_may_more (f : Int) (neg : Bool) (s : Nat) (x : Int) (l P A1 : Int) (o : Bool) (w : World)
    (KL : Box (∀ w, Calls Tryd.prog 49 #[.agg (cw 6 s)] w fun r w' => r = .returned (.int .i64 l) ∧ Below w.heap.size w w'))
    (KP : Box (∀ w, FAt w → Calls Tryd.prog 50 #[.int .u8 f] w fun r w' => r = .returned (.int .i64 P) ∧ Below w.heap.size w w'))
    (h : decide (x < -1048576) = false) (h2 : decide (1048576 < x) = false) (h3 : IntKind.i64.wrap (P + 2) = A1) (ho : decide (A1 ≤ l) = o) (hT : FAt w) : Calls Tryd.prog 26 #[.int .u8 f, .agg (rg neg s x true)] w fun r w' => r = .returned (.bool o) ∧ Below w.heap.size w w' := by
  have FF := box hT
  clear hT
  have hat := cw_at 6
  have hz := cw6z
  have hff := cw6f
  have hs0 := st0
  have hcs : ∀ x, ((cw 6 x).size = 6) = True := fun x => eq_true (cw_size 6 x)
  obtain ⟨Rx_0, B0⟩ := opn1 w (Obj.cells (rg neg s x true) 39)
  go_enter Tryd.func26, Tryd.ntmps26
  obtain ⟨cx_0_0, cx_0_1, cx_0_2, cx_0_3, cx_0_4, cx_0_5, cx_0_6, cx_0_7, cx_0_8⟩ := rg_cells Rx_0
  go_wp2_with fail
  refine (KL.out _).mono ?_
  rintro r w1 ⟨rfl, b1⟩
  have B1 : Below w.heap.size w w1 := btr B0 b1
  have Rx_1 := heap_of b1 _ _ _ Rx_0
  clear b1 B0 Rx_0 cx_0_0 cx_0_1 cx_0_2 cx_0_3 cx_0_4 cx_0_5 cx_0_6 cx_0_7 cx_0_8
  obtain ⟨cx_1_0, cx_1_1, cx_1_2, cx_1_3, cx_1_4, cx_1_5, cx_1_6, cx_1_7, cx_1_8⟩ := rg_cells Rx_1
  go_wp2_with fail
  refine (KP.out _ (fatB FF.out B1)).mono ?_
  rintro r w2 ⟨rfl, b2⟩
  have B2 : Below w.heap.size w w2 := btr B1 b2
  have Rx_2 := heap_of b2 _ _ _ Rx_1
  clear b2 B1 Rx_1 cx_1_0 cx_1_1 cx_1_2 cx_1_3 cx_1_4 cx_1_5 cx_1_6 cx_1_7 cx_1_8
  obtain ⟨cx_2_0, cx_2_1, cx_2_2, cx_2_3, cx_2_4, cx_2_5, cx_2_6, cx_2_7, cx_2_8⟩ := rg_cells Rx_2
  go_wp2
  go_ret
  exact ⟨rfl, B2⟩
/-- Which neighbour is taken, by what is left against half a step. -/
def uP (m : Int) (neg odd : Bool) (h : Int) (ex : Bool) : Bool := if ex then false else if m = 2 then neg else if m = 3 then !neg else if m = 0 then (decide (0 < h) || (decide (h = 0) && odd)) else if m = 4 then decide (0 ≤ h) else false
theorem uP_gO (m : Int) (neg odd half more : Bool) : uP m neg odd (hfV half more) (!(half || more)) = gO m neg odd half more := by
  unfold uP gO hfV
  by_cases c0 : m = 0
  · subst c0; cases half <;> cases more <;> cases odd <;> rfl
  by_cases c2 : m = 2
  · subst c2; cases half <;> cases more <;> cases neg <;> rfl
  by_cases c3 : m = 3
  · subst c3; cases half <;> cases more <;> cases neg <;> rfl
  by_cases c4 : m = 4
  · subst c4; cases half <;> cases more <;> rfl
  rw [if_neg c2, if_neg c3, if_neg c0, if_neg c4, if_neg c0, if_neg c4, if_neg c2, if_neg c3]
  split <;> rfl
set_option maxRecDepth 100000 in
set_option maxHeartbeats 2000000 in
theorem ro_up (m : Int) (neg odd : Bool) (h : Int) (ex o : Bool) (ho : uP m neg odd h ex = o) (w : World) : Calls Tryd.prog 8 #[.int .u8 m, .bool neg, .bool odd, .int .i64 h, .bool ex] w fun r w' => r = .returned (.bool o) ∧ Below w.heap.size w w' := by
  subst ho
  cases ex
  case true =>
    have B0 : Below w.heap.size w w := (Below.refl _ _)
    go_enter Tryd.func8, Tryd.ntmps8
    go_wp2
    go_ret
    exact ⟨rfl, B0⟩
  unfold uP
  rw [if_neg (by decide)]
  by_cases c2 : m = 2
  · subst c2
    rw [if_pos rfl]
    cases neg
    all_goals
      go_enter Tryd.func8, Tryd.ntmps8
      go_wp2
      go_ret
      exact ⟨rfl, Below.refl _ _⟩
  rw [if_neg c2]
  by_cases c3 : m = 3
  · subst c3
    rw [if_pos rfl]
    cases neg
    all_goals
      go_enter Tryd.func8, Tryd.ntmps8
      go_wp2
      go_ret
      exact ⟨rfl, Below.refl _ _⟩
  rw [if_neg c3]
  have e2 : (m == 2) = false := by simpa using c2
  have e3 : (m == 3) = false := by simpa using c3
  by_cases c0 : m = 0
  · subst c0
    rw [if_pos rfl]
    by_cases p : 0 < h
    · rw [decide_eq_true p, Bool.true_or]
      have d1 : decide (0 < h) = true := decide_eq_true p
      go_enter Tryd.func8, Tryd.ntmps8
      go_wp2
      go_ret
      exact ⟨rfl, Below.refl _ _⟩
    · rw [decide_eq_false p, Bool.false_or]
      have d1 : decide (0 < h) = false := decide_eq_false p
      by_cases z : h = 0
      · subst z
        rw [decide_eq_true rfl, Bool.true_and]
        cases odd
        all_goals
          go_enter Tryd.func8, Tryd.ntmps8
          go_wp2
          go_ret
          exact ⟨rfl, Below.refl _ _⟩
      · rw [decide_eq_false z, Bool.false_and]
        have d2 : (h == 0) = false := by simpa using z
        go_enter Tryd.func8, Tryd.ntmps8
        go_wp2
        go_ret
        exact ⟨rfl, Below.refl _ _⟩
  rw [if_neg c0]
  have e0 : (m == 0) = false := by simpa using c0
  by_cases c4 : m = 4
  · subst c4
    rw [if_pos rfl]
    by_cases p : 0 < h
    · rw [decide_eq_true (show 0 ≤ h by omega)]
      have d1 : decide (0 < h) = true := decide_eq_true p
      go_enter Tryd.func8, Tryd.ntmps8
      go_wp2
      go_ret
      exact ⟨rfl, Below.refl _ _⟩
    · have d1 : decide (0 < h) = false := decide_eq_false p
      by_cases z : h = 0
      · subst z
        rw [decide_eq_true (by decide)]
        cases odd
        all_goals
          go_enter Tryd.func8, Tryd.ntmps8
          go_wp2
          go_ret
          exact ⟨rfl, Below.refl _ _⟩
      · rw [decide_eq_false (show ¬ 0 ≤ h by omega)]
        have d2 : (h == 0) = false := by simpa using z
        go_enter Tryd.func8, Tryd.ntmps8
        go_wp2
        go_ret
        exact ⟨rfl, Below.refl _ _⟩
  rw [if_neg c4]
  have e4 : (m == 4) = false := by simpa using c4
  go_enter Tryd.func8, Tryd.ntmps8
  go_wp2
  go_ret
  exact ⟨rfl, Below.refl _ _⟩
end Go.Proofs.YtfmmeifipbpbmaaDoor
