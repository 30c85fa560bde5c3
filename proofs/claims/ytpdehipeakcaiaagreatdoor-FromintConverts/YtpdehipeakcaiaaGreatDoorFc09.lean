/-
  What the functions that the statement reaches return: part 9 (R1, R5, R30).
-/
import Derived.Lib.MinMax
import Derived.Deep.RegionHeld3
import Derived.Test.YtpdehipeakcaiaaGreatDoorFc08
namespace Go.Proofs.YtpdehipeakcaiaaGreatDoor
set_option maxRecDepth 100000
set_option maxHeartbeats 40000000
set_option maxRecDepth 100000
open Go.RowKit WMath XMath
set_option linter.unusedSimpArgs false
set_option linter.unusedVariables false
def gO (m : Int) (neg odd half more : Bool) : Bool :=
  if m = 0 then half && (more || odd) else if m = 4 then half else if m = 2 then (half || more) && neg else if m = 3 then (half || more) && !neg else false
def rS (W k : Nat) : Nat := W / 2 ^ k / 2
def rH (W k : Nat) : Bool := decide (W / 2 ^ k % 2 = 1)
def rM (W k : Nat) (more : Bool) : Bool := decide (W % 2 ^ k ≠ 0) || more
def rO (W k : Nat) : Bool := decide (rS W k % 2 = 1)
def rG (m : Int) (neg : Bool) (W k : Nat) (more : Bool) : Nat := if gO m neg (rO W k) (rH W k) (rM W k more) = true then rS W k + 1 else rS W k
def stE (f T : Int) : Int := max T (1 - fE f)
def eS (f : Int) (neg : Bool) (j S : Nat) : Nat := j * 2 ^ pV f + S + (if neg then 2 ^ wV f else 0)
def ovB (f m : Int) (neg : Bool) : Nat := if gO m neg false true true = true then eInf f neg else eGreatest f neg
def tnB (f m : Int) (neg : Bool) (T : Int) (W : Nat) (more : Bool) : Bool := decide (T - fP f + (blen (rG m neg W 0 more) : Int) < 1 - fE f)
def dK (f T : Int) : Nat := (stE f T - T).toNat
def dJ (f T : Int) : Nat := (stE f T - (1 - fE f)).toNat
def dlv (f m : Int) (neg : Bool) (T : Int) (W : Nat) (more : Bool) : Nat × Int :=
  if fE f < stE f T - fP f + (blen (rG m neg W (dK f T) more) : Int) then (ovB f m neg, 5)
  else (eS f neg (dJ f T) (rG m neg W (dK f T) more), if (rH W (dK f T) || rM W (dK f T) more) = true then (if tnB f m neg T W more = true then 3 else 1) else 0)

theorem fp8 {f : Int} (hf : Is4 f) : fP f = (pV f : Int) + 1 := by rcases hf with rfl | rfl | rfl | rfl <;> decide
theorem od_two (s : Nat) (h : s ≠ 0) : od (2 * s) = od s ∧ tz (2 * s) = tz s + 1 := by
  have t : tz (2 * s) = tz s + 1 := by rw [tz_even (2 * s) (by omega) (by omega), Nat.mul_div_cancel_left s (by decide)]
  refine ⟨?_, t⟩
  unfold od
  rw [t, Nat.pow_succ, Nat.mul_comm (2 ^ tz s) 2, Nat.mul_div_mul_left _ _ (by decide)]
theorem mk_two (neg : Bool) (s : Nat) (x : Int) (s0 : s ≠ 0) (h1 : -1048576 ≤ x) (h2 : x + 1 + (tz s : Int) ≤ 1048576) : mk neg (2 * s) 1 x = mk neg s 1 (x + 1) := by
  obtain ⟨a, b⟩ := od_two s s0
  rw [mk_whole neg (2 * s) x (by omega) h1 (by rw [b]; omega), mk_whole neg s (x + 1) s0 (by omega) h2, a, b]
  congr 2
  omega
theorem rep {f : Int} (hf : Is4 f) (j S : Nat) (s0 : S ≠ 0) (hS : S ≤ 2 * 2 ^ pV f) (hj : j = 0 ∨ 2 ^ pV f ≤ S) (ht : lx f + (j : Int) - 1 + (blen S : Int) ≤ fE f) :
    ∃ e t, e < oV f ∧ t < 2 ^ pV f ∧ sV f e t ≠ 0 ∧ (∀ neg, enc7 f neg e t = eS f neg j S) ∧ (∀ neg, mk neg S 1 (lx f + (j : Int)) = mk neg (sV f e t) 1 (xV f e)) := by
  obtain ⟨n1, n2, n3, n4, n5, n6⟩ := nm8 hf
  have p := Nat.two_pow_pos (pV f)
  have oe : (oV f : Int) = 2 * fE f + 1 := by unfold oV; omega
  by_cases c1 : S < 2 ^ pV f
  · obtain rfl : j = 0 := by omega
    refine ⟨0, S, by omega, c1, ?_, ?_, ?_⟩
    · unfold sV; rw [if_pos rfl]; exact s0
    · intro neg; unfold enc7 eS; rfl
    · intro neg; unfold sV xV; rw [if_pos rfl, if_pos rfl]; congr 1; omega
  by_cases c2 : S < 2 * 2 ^ pV f
  · have bl : blen S = pV f + 1 := blen_is S (pV f) (by omega) (by rw [Nat.pow_succ]; omega)
    refine ⟨j + 1, S - 2 ^ pV f, by omega, by omega, ?_, ?_, ?_⟩
    · unfold sV; rw [if_neg (by omega)]; omega
    · intro neg; unfold enc7 eS; rw [Nat.add_mul, Nat.one_mul]; omega
    · intro neg
      unfold sV xV
      rw [if_neg (by omega), if_neg (by omega), show 2 ^ pV f + (S - 2 ^ pV f) = S by omega]
      congr 1
      omega
  · obtain rfl : S = 2 * 2 ^ pV f := by omega
    have bl : blen (2 * 2 ^ pV f) = pV f + 1 + 1 := blen_is _ (pV f + 1) (by rw [Nat.pow_succ]; omega) (by rw [Nat.pow_succ, Nat.pow_succ]; omega)
    have tl := tz_blen (2 ^ pV f)
    have bl1 : blen (2 ^ pV f) = pV f + 1 := blen_is _ (pV f) (Nat.le_refl _) (by rw [Nat.pow_succ]; omega)
    refine ⟨j + 2, 0, by omega, p, ?_, ?_, ?_⟩
    · unfold sV; rw [if_neg (by omega)]; omega
    · intro neg; unfold enc7 eS; rw [Nat.add_mul]; omega
    · intro neg
      unfold sV xV
      rw [if_neg (by omega), if_neg (by omega), Nat.add_zero, mk_two neg (2 ^ pV f) _ (by omega) (by omega) (by omega)]
      congr 1
      omega
theorem nl_small {f : Int} (hf : Is4 f) (S : Nat) (hS : S ≤ 2 * 2 ^ pV f) : nl S ≤ 16384 := by
  obtain ⟨n1, n2, n3, n4, n5, n6⟩ := nm8 hf
  refine nl_pow S (pV f + 2) ?_ (by omega)
  have p := Nat.two_pow_pos (pV f)
  rw [Nat.pow_succ, Nat.pow_succ]
  omega
theorem nl_1 : nl 1 ≤ 16384 := Nat.le_trans (nl_le_of 1 1 (by decide)) (by decide)
theorem mk_small {f : Int} (hf : Is4 f) (neg : Bool) (j S : Nat) (s0 : S ≠ 0) (hS : S ≤ 2 * 2 ^ pV f) (hj : j ≤ 40000) : mk neg S 1 (lx f + (j : Int)) = (⟨neg, od S, 1, lx f + (j : Int) + (tz S : Int)⟩, 0) ∧ (XN.mk neg (od S) 1 (lx f + (j : Int) + (tz S : Int))).can ∧ od S ≠ 0 ∧ topX ⟨neg, od S, 1, lx f + (j : Int) + (tz S : Int)⟩ = lx f + (j : Int) - 1 + (blen S : Int) := by
  obtain ⟨n1, n2, n3, n4, n5, n6⟩ := nm8 hf
  have p := Nat.two_pow_pos (pV f)
  have tl := tz_blen S
  have bl : blen S ≤ pV f + 2 := (blen_iff S _).2 (by rw [Nat.pow_succ, Nat.pow_succ]; omega)
  have h := mk_whole neg S (lx f + (j : Int)) s0 (by omega) (by omega)
  obtain ⟨o1, o2⟩ := od_is S s0
  have od0 : od S ≠ 0 := by omega
  have bs : blen S = blen (od S) + tz S := by
    have := blen_shift (od S) (tz S) od0
    rw [← o1] at this
    exact this
  refine ⟨h, ?_, od0, ?_⟩
  · have := mk_can neg S 1 (lx f + (j : Int)) (nl_small hf S hS) nl_1 (by decide) (by rw [h])
    rw [h] at this
    exact this
  · rw [top_whole neg (od S) _ od0]
    omega
theorem of_rep {f : Int} (hf : Is4 f) (neg : Bool) (j S : Nat) (s0 : S ≠ 0) (hS : S ≤ 2 * 2 ^ pV f) (hj : j = 0 ∨ 2 ^ pV f ≤ S) (ht : lx f + (j : Int) - 1 + (blen S : Int) ≤ fE f) :
    ofX f ⟨neg, od S, 1, lx f + (j : Int) + (tz S : Int)⟩ = (eS f neg j S, true) := by
  obtain ⟨n1, n2, n3, n4, n5, n6⟩ := nm8 hf
  obtain ⟨l1, l2, l3⟩ := blen_low S s0
  have j4 : j ≤ 40000 := by omega
  obtain ⟨e, t, he, htt, nz, h1, h2⟩ := rep hf j S s0 hS hj ht
  have h3 := (mk_small hf neg j S s0 hS j4).1
  obtain ⟨v1, v2, v3⟩ := val_of hf neg e t he htt nz
  rw [h2 neg, v1] at h3
  injection h3 with h4 h5
  rw [← h4, v2, h1 neg]
theorem of_over {f : Int} (hf : Is4 f) (neg : Bool) (j S : Nat) (s0 : S ≠ 0) (hS : S ≤ 2 * 2 ^ pV f) (hj : j ≤ 40000) (ht : fE f < lx f + (j : Int) - 1 + (blen S : Int)) :
    ofX f ⟨neg, od S, 1, lx f + (j : Int) + (tz S : Int)⟩ = (0, false) := by
  obtain ⟨h1, h2, h3, h4⟩ := mk_small hf neg j S s0 hS hj
  exact of_no _ h2 h3 (Or.inl (by rw [h4]; exact ht))
def Wok (f : Int) (W : Nat) : Prop := 2 * 2 ^ pV f ≤ W ∧ W < 4 * 2 ^ pV f
theorem rG_two (m : Int) (neg : Bool) (W k : Nat) (more : Bool) : rG m neg W k more = rS W k ∨ rG m neg W k more = rS W k + 1 := by
  unfold rG; split <;> simp
theorem rS_lim {f : Int} {W : Nat} (h : Wok f W) (k : Nat) : rS W k < 2 * 2 ^ pV f ∧ (k = 0 → 2 ^ pV f ≤ rS W k) ∧ (0 < k → rS W k < 2 ^ pV f) := by
  obtain ⟨h1, h2⟩ := h
  unfold rS
  have d0 : W / 2 ^ k ≤ W := Nat.div_le_self _ _
  refine ⟨by omega, ?_, ?_⟩
  · intro e
    subst e
    rw [Nat.pow_zero, Nat.div_one]
    omega
  · intro hk
    obtain ⟨i, rfl⟩ : ∃ i, k = i + 1 := ⟨k - 1, by omega⟩
    rw [Nat.pow_succ, Nat.mul_comm (2 ^ i) 2, ← Nat.div_div_eq_div_mul]
    have d1 : W / 2 / 2 ^ i ≤ W / 2 := Nat.div_le_self _ _
    omega
theorem rG_lim {f : Int} {W : Nat} (h : Wok f W) (m : Int) (neg : Bool) (k : Nat) (more : Bool) : rG m neg W k more ≤ 2 * 2 ^ pV f ∧ (k = 0 → 2 ^ pV f ≤ rG m neg W k more) ∧ (0 < k → rG m neg W k more ≤ 2 ^ pV f) := by
  obtain ⟨a, b, c⟩ := rS_lim h k
  rcases rG_two m neg W k more with e | e <;> rw [e] <;> refine ⟨by omega, fun q => ?_, fun q => ?_⟩ <;> first | (have := b q; omega) | (have := c q; omega)
theorem rG0_len {f : Int} {W : Nat} (h : Wok f W) (m : Int) (neg : Bool) (more : Bool) : blen (rG m neg W 0 more) = pV f + 1 ∨ blen (rG m neg W 0 more) = pV f + 2 := by
  obtain ⟨a, b, c⟩ := rG_lim h m neg 0 more
  have b := b rfl
  have p := Nat.two_pow_pos (pV f)
  have u : blen (rG m neg W 0 more) ≤ pV f + 2 := (blen_iff _ _).2 (by rw [Nat.pow_succ, Nat.pow_succ]; omega)
  have l := (blen_iff (rG m neg W 0 more) (pV f))
  omega
theorem st_lx {f : Int} (hf : Is4 f) (T : Int) : stE f T - fP f + 1 = lx f + (dJ f T : Int) := by
  have := fp8 hf
  have e := (nm8 hf).2.2.1
  unfold dJ stE
  omega
theorem jk {f : Int} (T : Int) : (dJ f T = 0 ∧ T + (dK f T : Int) = 1 - fE f) ∨ (dK f T = 0 ∧ T = 1 - fE f + (dJ f T : Int)) := by
  unfold dJ dK stE
  omega
theorem dlv_over {f : Int} (hf : Is4 f) {W : Nat} (hW : Wok f W) (m : Int) (neg : Bool) (T : Int) (more : Bool) (h : fE f < T) : dlv f m neg T W more = (ovB f m neg, 5) := by
  unfold dlv
  obtain ⟨n1, n2, n3, n4, n5, n6⟩ := nm8 hf
  have k0 : dK f T = 0 := by unfold dK stE; omega
  have := rG0_len hW m neg more
  have := fp8 hf
  rw [k0, if_pos (by unfold stE; omega)]
theorem tn_hi {f : Int} (hf : Is4 f) {W : Nat} (hW : Wok f W) (m : Int) (neg : Bool) (T : Int) (more : Bool) (h : 1 - fE f ≤ T) : tnB f m neg T W more = false := by
  have := rG0_len hW m neg more
  have := fp8 hf
  unfold tnB
  rw [decide_eq_false_iff_not]
  omega
theorem tn_lo {f : Int} (hf : Is4 f) {W : Nat} (hW : Wok f W) (m : Int) (neg : Bool) (T : Int) (more : Bool) (h : T < 1 - fE f - 1) : tnB f m neg T W more = true := by
  have := rG0_len hW m neg more
  have := fp8 hf
  unfold tnB
  rw [decide_eq_true_iff]
  omega
theorem tn_mid {f : Int} (hf : Is4 f) {W : Nat} (m : Int) (neg : Bool) (T : Int) (more : Bool) (h : T = 1 - fE f - 1) : tnB f m neg T W more = decide ((blen (rG m neg W 0 more) : Int) ≤ fP f) := by
  unfold tnB
  rw [decide_eq_decide]
  omega
theorem null_lim {f : Int} (hf : Is4 f) {W : Nat} (hW : Wok f W) (m : Int) (neg : Bool) (k : Nat) (more : Bool) (h : rG m neg W k more = 0) : 3 ≤ k ∧ (rH W k || rM W k more) = true := by
  have h0 : rS W k = 0 := by rcases rG_two m neg W k more with e | e <;> omega
  obtain ⟨g1, g2, g3, g4, g5, g6, g7⟩ := fm hf
  obtain ⟨w1, w2⟩ := hW
  have p := Nat.two_pow_pos (pV f)
  unfold rS at h0
  have hd := Nat.div_add_mod W (2 ^ k)
  constructor
  · rcases Nat.lt_or_ge k 3 with c | c
    · exfalso
      have e : k = 0 ∨ k = 1 ∨ k = 2 := by omega
      rcases e with rfl | rfl | rfl
      all_goals (simp only [Nat.pow_zero, Nat.pow_one, Nat.div_one, show (2 : Nat) ^ 2 = 4 by decide] at h0; omega)
    · exact c
  · have : ¬ (W / 2 ^ k = 0 ∧ W % 2 ^ k = 0) := fun q => by rw [q.1, q.2, Nat.mul_zero] at hd; omega
    unfold rH rM
    by_cases c : W / 2 ^ k = 0
    · rw [decide_eq_true (show W % 2 ^ k ≠ 0 by omega)]; simp
    · rw [decide_eq_true (show W / 2 ^ k % 2 = 1 by omega)]; simp
def hfV (half more : Bool) : Int := if half then (if more then 1 else 0) else -1
theorem sandwich (φ : Nat → Rat) (mono : ∀ i j, i < j → φ i < φ j) {u : Rat} {m m' K : Nat} {b b' : Bool} (pk : 0 < K) (x1 : φ m ≤ u) (x2 : u < φ (m + 1)) (x3 : b = true ↔ φ m = u) (y1 : φ (m' * K) ≤ u) (y2 : u < φ ((m' + 1) * K)) (y3 : b' = true ↔ φ (m' * K) = u) :
    m' = m / K ∧ b' = (b && decide (m % K = 0)) := by
  have lt_of : ∀ i j, φ i < φ j → i < j := fun i j h => by
    rcases Nat.lt_trichotomy i j with c | c | c
    · exact c
    · subst c; exact absurd h Rat.lt_irrefl
    · exact absurd h (Rat.not_lt.2 (Rat.le_of_lt (mono _ _ c)))
  have c1 : m' * K < m + 1 := lt_of _ _ (by grind)
  have c2 : m < (m' + 1) * K := lt_of _ _ (by grind)
  have hm : m' = m / K := by
    symm
    rw [Nat.div_eq_iff pk]
    rw [Nat.add_mul] at c2
    omega
  refine ⟨hm, ?_⟩
  have hd := Nat.div_add_mod m K
  rw [Bool.eq_iff_iff, Bool.and_eq_true, decide_eq_true_iff, y3, x3]
  rw [← hm, Nat.mul_comm] at hd
  constructor
  · intro q
    have le2 : m ≤ m' * K := by
      rcases Nat.lt_or_ge (m' * K) m with c | c
      · have := mono _ _ c
        exact absurd this (Rat.not_lt.2 (by rw [q]; exact x1))
      · exact c
    have em : m = m' * K := by omega
    exact ⟨by rw [em]; exact q, by omega⟩
  · rintro ⟨q1, q2⟩
    have em : m' * K = m := by omega
    rw [em]
    exact q1
theorem within (φ : Nat → Rat) (mono : ∀ i j, i < j → φ i < φ j) {u : Rat} {m A B : Nat} (x1 : φ m ≤ u) (x2 : u < φ (m + 1)) (y1 : φ A ≤ u) (y2 : u < φ B) : A ≤ m ∧ m < B := by
  have lt_of : ∀ i j, φ i < φ j → i < j := fun i j h => by
    rcases Nat.lt_trichotomy i j with c | c | c
    · exact c
    · subst c; exact absurd h Rat.lt_irrefl
    · exact absurd h (Rat.not_lt.2 (Rat.le_of_lt (mono _ _ c)))
  have c1 : A < m + 1 := lt_of _ _ (by grind)
  have c2 : m < B := lt_of _ _ (by grind)
  omega
theorem mono1 (a : Int) (i j : Nat) (h : i < j) : (i : Rat) * (2 : Rat) ^ a < (j : Rat) * (2 : Rat) ^ a := (Rat.mul_lt_mul_right (p2 a)).2 (Rat.natCast_lt_natCast.2 h)
theorem up1 (a : Int) (k n : Nat) : (n : Rat) * (2 : Rat) ^ (a + (k : Int)) = ((n * 2 ^ k : Nat) : Rat) * (2 : Rat) ^ a := by
  rw [Int.add_comm, p2add, p2nat, Rat.natCast_mul]; grind
theorem fl_ok (x : XN) (a : Int) (n0 : x.n ≠ 0) (hd : nl x.d ≤ 8192) (h1 : topX x - 300 ≤ a) (h2 : -2097152 ≤ a) (h3 : a ≤ 2097152) : (flX x a).2 = 0 := by
  unfold flX
  rw [if_neg (by omega), if_neg n0]
  by_cases c : a ≤ x.e
  · rw [if_pos c, if_pos]
    have bs := blen_shift x.n (x.e - a).toNat n0
    unfold topX lenD at h1
    unfold nl at hd ⊢
    split at h1 <;> omega
  · rw [if_neg c]
    split <;> rfl
def xW (f : Int) (x : XN) : Nat := (flX x (topX x - fP f)).1.1
def xM (f : Int) (x : XN) : Bool := !(flX x (topX x - fP f)).1.2
theorem x_num {f : Int} (hf : Is4 f) (x : XN) (hx : x.can) (n0 : x.n ≠ 0) (hd : nl x.d ≤ 8192) (ht1 : -1200000 ≤ topX x) (ht2 : topX x ≤ 1200000) :
    Wok f (xW f x) ∧ ∀ k : Nat, topX x - fP f + (k : Int) ≤ 2000000 → flX x (topX x - fP f + (k : Int)) = ((xW f x / 2 ^ k, !xM f x && decide (xW f x % 2 ^ k = 0)), 0) := by
  have hp := fp8 hf
  obtain ⟨n1, n2, n3, n4, n5, n6⟩ := nm8 hf
  obtain ⟨t1, t2⟩ := top_good x n0 hx.d0
  have g0 := fl_good x (topX x - fP f) hx n0 (fl_ok x _ n0 hd (by omega) (by omega) (by omega))
  constructor
  · have := within (fun n => (n : Rat) * (2 : Rat) ^ (topX x - fP f)) (mono1 _) (A := 2 ^ (pV f + 1)) (B := 2 ^ (pV f + 2)) g0.1 g0.2.1 (by
      show ((2 ^ (pV f + 1) : Nat) : Rat) * _ ≤ _
      have e := up1 (topX x - fP f) (pV f + 1) 1
      rw [Nat.one_mul, show topX x - fP f + ((pV f + 1 : Nat) : Int) = topX x by omega] at e
      rw [← e]
      have : ((1 : Nat) : Rat) = 1 := rfl
      rw [this, Rat.one_mul]
      exact t1) (by
      show _ < ((2 ^ (pV f + 2) : Nat) : Rat) * _
      have e := up1 (topX x - fP f) (pV f + 2) 1
      rw [Nat.one_mul, show topX x - fP f + ((pV f + 2 : Nat) : Int) = topX x + 1 by omega] at e
      rw [← e]
      have : ((1 : Nat) : Rat) = 1 := rfl
      rw [this, Rat.one_mul]
      exact t2)
    unfold Wok xW
    rw [Nat.pow_succ, Nat.pow_succ, Nat.pow_succ] at this
    omega
  · intro k hk
    have ok := fl_ok x (topX x - fP f + (k : Int)) n0 hd (by omega) (by omega) (by omega)
    have g := fl_good x (topX x - fP f + (k : Int)) hx n0 ok
    obtain ⟨⟨⟨m, b⟩, e⟩, he⟩ : ∃ q, flX x (topX x - fP f + (k : Int)) = q := ⟨_, rfl⟩
    rw [he] at ok g ⊢
    simp only at ok g
    rw [up1, up1] at g
    have := sandwich (fun n => (n : Rat) * (2 : Rat) ^ (topX x - fP f)) (mono1 _) (b := (flX x (topX x - fP f)).1.2) (Nat.two_pow_pos k) g0.1 g0.2.1 g0.2.2 g.1 g.2.1 g.2.2
    obtain ⟨q1, q2⟩ := this
    unfold xM xW
    rw [Bool.not_not, q1, q2, ok]
def qW (P n : Nat) : Nat := if P + 1 ≤ blen n then n / 2 ^ (blen n - (P + 1)) else n * 2 ^ (P + 1 - blen n)
def qM (P n : Nat) (more : Bool) : Bool := if P + 1 ≤ blen n then decide (n % 2 ^ (blen n - (P + 1)) ≠ 0) || more else more
theorem blen_more (s n q : Nat) (s0 : s ≠ 0) (hq : q < 2 ^ n) : blen (s * 2 ^ n + q) = blen s + n := by
  have h := blen_push q n s hq s0
  rw [Nat.add_comm q, Nat.mul_comm (2 ^ n) s] at h
  omega
theorem div_more (s n q : Nat) (hq : q < 2 ^ n) : (s * 2 ^ n + q) / 2 ^ n = s := by
  rw [Nat.add_comm, Nat.add_mul_div_right _ _ (Nat.two_pow_pos n), Nat.div_eq_of_lt hq, Nat.zero_add]
theorem mod_more (s n q : Nat) (hq : q < 2 ^ n) : (s * 2 ^ n + q) % 2 ^ n = q := by
  rw [Nat.add_comm, Nat.add_mul_mod_self_right, Nat.mod_eq_of_lt hq]
theorem qdec_or {a b c : Prop} [Decidable a] [Decidable b] [Decidable c] (h : a ↔ (b ∨ c)) : decide a = (decide b || decide c) := by
  rw [Bool.eq_iff_iff, Bool.or_eq_true, decide_eq_true_iff, decide_eq_true_iff, decide_eq_true_iff]
  exact h
theorem q_more (P s n q : Nat) (s0 : s ≠ 0) (hq : q < 2 ^ n) (h : q ≠ 0 → P + 1 ≤ blen s) : qW P (s * 2 ^ n + q) = qW P s ∧ qM P (s * 2 ^ n + q) false = qM P s (decide (q ≠ 0)) := by
  have hb := blen_more s n q s0 hq
  unfold qW qM
  rw [hb]
  by_cases c : P + 1 ≤ blen s
  · rw [if_pos c, if_pos c, if_pos (by omega), if_pos (by omega), show blen s + n - (P + 1) = n + (blen s - (P + 1)) by omega]
    constructor
    · rw [Nat.pow_add, ← Nat.div_div_eq_div_mul, div_more s n q hq]
    · rw [Bool.or_false, Bool.or_comm]
      refine qdec_or ?_
      have := mod_pow_zero (s * 2 ^ n + q) n (blen s - (P + 1))
      rw [mod_more s n q hq, div_more s n q hq] at this
      rw [Ne, this]
      omega
  · have q0 : q = 0 := by omega
    subst q0
    have z0 : decide ((0 : Nat) ≠ 0) = false := rfl
    rw [if_neg c, if_neg c, z0]
    simp only [Nat.add_zero]
    by_cases c2 : P + 1 ≤ blen s + n
    · rw [if_pos c2, if_pos c2]
      have e : s * 2 ^ n = s * 2 ^ (P + 1 - blen s) * 2 ^ (blen s + n - (P + 1)) := by
        rw [Nat.mul_assoc, ← Nat.pow_add]
        congr 2
        omega
      rw [e]
      refine ⟨Nat.mul_div_cancel _ (Nat.two_pow_pos _), ?_⟩
      rw [Bool.or_false, decide_eq_false_iff_not]
      exact fun q => q (Nat.mul_mod_left _ _)
    · rw [if_neg c2, if_neg c2, Nat.mul_assoc, ← Nat.pow_add]
      exact ⟨by congr 2; omega, rfl⟩
theorem q_longer (P s n : Nat) (s0 : s ≠ 0) : qW P (s * 2 ^ n) = qW P s ∧ qM P (s * 2 ^ n) false = qM P s false := by
  have := q_more P s n 0 s0 (Nat.two_pow_pos n) (fun h => absurd rfl h)
  have z0 : decide ((0 : Nat) ≠ 0) = false := rfl
  rw [Nat.add_zero, z0] at this
  exact this
theorem qM_true (P s : Nat) (more : Bool) : qM P s more = (qM P s false || more) := by
  unfold qM
  split <;> simp
theorem q_jam (P s : Nat) (h : P + 2 ≤ blen s) : blen (s / 2 * 2 + 1) = blen s ∧ qW P (s / 2 * 2 + 1) = qW P s ∧ qM P (s / 2 * 2 + 1) false = true ∧ qM P s true = true := by
  have s0 : s ≠ 0 := by intro e; subst e; rw [blen_zero] at h; omega
  obtain ⟨l1, l2, l3⟩ := blen_low s s0
  have t0 : s / 2 ≠ 0 := by
    have : 2 ^ 1 ≤ 2 ^ (blen s - 1) := Nat.pow_le_pow_right (by decide) (by omega)
    omega
  have d : s = s / 2 * 2 ^ 1 + s % 2 := by omega
  have b1 := blen_more (s / 2) 1 (s % 2) t0 (by omega)
  have b2 := blen_more (s / 2) 1 1 t0 (by decide)
  rw [← d] at b1
  have q1 := q_more P (s / 2) 1 (s % 2) t0 (by omega) (fun _ => by omega)
  have q2 := q_more P (s / 2) 1 1 t0 (by decide) (fun _ => by omega)
  rw [← d] at q1
  rw [Nat.pow_one] at b2 q2
  refine ⟨by omega, by rw [q1.1, q2.1], ?_, ?_⟩
  · rw [q2.2, qM_true]; simp
  · rw [qM_true]; simp
theorem q_ok {f : Int} (s : Nat) (s0 : s ≠ 0) : Wok f (qW (pV f + 1) s) := by
  obtain ⟨l1, l2, l3⟩ := blen_low s s0
  have e1 : 2 * 2 ^ pV f = 2 ^ (pV f + 1) := by rw [Nat.pow_succ, Nat.mul_comm]
  have e2 : 4 * 2 ^ pV f = 2 ^ (pV f + 1 + 1) := by rw [Nat.pow_succ, Nat.pow_succ]; omega
  unfold Wok qW
  rw [e1, e2]
  by_cases c : pV f + 1 + 1 ≤ blen s
  · rw [if_pos c]
    have p := Nat.two_pow_pos (blen s - (pV f + 1 + 1))
    constructor
    · rw [Nat.le_div_iff_mul_le p, ← Nat.pow_add, show pV f + 1 + (blen s - (pV f + 1 + 1)) = blen s - 1 by omega]
      exact l2
    · rw [Nat.div_lt_iff_lt_mul p, ← Nat.pow_add, show pV f + 1 + 1 + (blen s - (pV f + 1 + 1)) = blen s by omega]
      exact l3
  · rw [if_neg c]
    have p := Nat.two_pow_pos (pV f + 1 + 1 - blen s)
    constructor
    · have := Nat.mul_le_mul_right (2 ^ (pV f + 1 + 1 - blen s)) l2
      rw [← Nat.pow_add, show blen s - 1 + (pV f + 1 + 1 - blen s) = pV f + 1 by omega] at this
      exact this
    · have := (Nat.mul_lt_mul_right p).2 l3
      rw [← Nat.pow_add, show blen s + (pV f + 1 + 1 - blen s) = pV f + 1 + 1 by omega] at this
      exact this
theorem x_odd {f : Int} (hf : Is4 f) (b : Bool) (n : Nat) (e : Int) (ho : n % 2 = 1) (hl : blen n ≤ 45000) (h1 : -1200000 ≤ e) (h2 : e ≤ 1200000) :
    xW f ⟨b, n, 1, e⟩ = qW (pV f + 1) n ∧ xM f ⟨b, n, 1, e⟩ = qM (pV f + 1) n false := by
  have n0 : n ≠ 0 := by omega
  obtain ⟨n1, n2, n3, n4, n5, n6⟩ := nm8 hf
  have hp := fp8 hf
  have tw := top_whole b n e n0
  obtain ⟨l1, l2, l3⟩ := blen_low n n0
  unfold xW xM qW qM
  obtain ⟨a, hA⟩ : ∃ a, topX ⟨b, n, 1, e⟩ - fP f = a := ⟨_, rfl⟩
  rw [hA]
  by_cases c : a ≤ e
  · have sh := blen_shift n (e - a).toNat n0
    have := fl_yes ⟨b, n, 1, e⟩ a n0 rfl c (by omega) (by omega) (by
      show nl (n * 2 ^ (e - a).toNat) ≤ 16384
      unfold nl
      omega)
    rw [this]
    simp only
    by_cases c2 : pV f + 1 + 1 ≤ blen n
    · have : blen n = pV f + 1 + 1 := by omega
      have z : (e - a).toNat = 0 := by omega
      rw [if_pos c2, if_pos c2, this, Nat.sub_self, z, Nat.pow_zero, Nat.div_one, Nat.mul_one, Nat.mod_one]
      exact ⟨rfl, rfl⟩
    · rw [if_neg c2, if_neg c2, show (e - a).toNat = pV f + 1 + 1 - blen n by omega]
      exact ⟨rfl, rfl⟩
  · have z : flX ⟨b, n, 1, e⟩ a = ((n / (1 * 2 ^ (a - e).toNat), false), 0) := by
      unfold flX
      rw [if_neg (by omega), if_neg n0, if_neg c, if_neg (by omega)]
    rw [z, Nat.one_mul, if_pos (by omega), if_pos (by omega), show (a - e).toNat = blen n - (pV f + 1 + 1) by omega]
    refine ⟨rfl, ?_⟩
    have : n % 2 ^ (blen n - (pV f + 1 + 1)) ≠ 0 := by
      obtain ⟨i, hi⟩ : ∃ i, blen n - (pV f + 1 + 1) = i + 1 := ⟨blen n - (pV f + 1 + 1) - 1, by omega⟩
      rw [hi]
      intro q
      have := (mod_pow_zero n 1 i).1 (by rw [Nat.add_comm]; exact q)
      omega
    rw [decide_eq_true this]
    rfl
theorem x_whole {f : Int} (hf : Is4 f) (b : Bool) (N : Nat) (e : Int) (n0 : N ≠ 0) (hl : blen N ≤ 45000) (h1 : -1000000 ≤ e) (h2 : e ≤ 1000000) :
    mk b N 1 e = (⟨b, od N, 1, e + (tz N : Int)⟩, 0) ∧ (XN.mk b (od N) 1 (e + (tz N : Int))).can ∧ od N ≠ 0 ∧ nl (od N) ≤ 8192 ∧ topX ⟨b, od N, 1, e + (tz N : Int)⟩ = e + (blen N : Int) - 1 ∧ xW f ⟨b, od N, 1, e + (tz N : Int)⟩ = qW (pV f + 1) N ∧ xM f ⟨b, od N, 1, e + (tz N : Int)⟩ = qM (pV f + 1) N false := by
  obtain ⟨o1, o2⟩ := od_is N n0
  have od0 : od N ≠ 0 := by omega
  have tl := tz_blen N
  have bs := blen_shift (od N) (tz N) od0
  rw [← o1] at bs
  have m := mk_whole b N e n0 (by omega) (by omega)
  have lo : nl (od N) ≤ 8192 := by unfold nl; omega
  have lN : nl N ≤ 16384 := by unfold nl; omega
  obtain ⟨x1, x2⟩ := x_odd hf b (od N) (e + (tz N : Int)) o2 (by omega) (by omega) (by omega)
  have ql := q_longer (pV f + 1) (od N) (tz N) od0
  rw [← o1] at ql
  refine ⟨m, ?_, od0, lo, ?_, by rw [x1, ql.1], by rw [x2, ql.2]⟩
  · have := mk_can b N 1 e lN nl_1 (by decide) (by rw [m])
    rw [m] at this
    exact this
  · rw [top_whole b (od N) _ od0]
    omega
theorem cutN (s L : Nat) (hs : s < Q) : s / 2 ^ min (L + 1) 384 = s / 2 ^ L / 2 ∧ decide (s % 2 ^ min (L + 1) 384 = 0) = !(decide (s / 2 ^ L % 2 = 1) || decide (s % 2 ^ L ≠ 0)) ∧ halfv s (min (L + 1) 385) = hfV (decide (s / 2 ^ L % 2 = 1)) (decide (s % 2 ^ L ≠ 0)) := by
  obtain ⟨Z, hZ, eQ⟩ := Qq384
  have hQ : s < 2 ^ Z := by rw [← eQ]; exact hs
  rw [← hZ]
  have full : s % 2 ^ (L + 1) = 0 ↔ (s % 2 ^ L = 0 ∧ s / 2 ^ L % 2 = 0) := by
    have := mod_pow_zero s L 1
    rw [Nat.pow_one] at this
    exact this
  have b1 : decide (s % 2 ^ (L + 1) = 0) = !(decide (s / 2 ^ L % 2 = 1) || decide (s % 2 ^ L ≠ 0)) := by
    rw [Bool.eq_iff_iff, decide_eq_true_iff, full, Bool.not_eq_true', Bool.or_eq_false_iff, decide_eq_false_iff_not, decide_eq_false_iff_not]
    omega
  by_cases c : L < Z
  · rw [Nat.min_eq_left (by omega : L + 1 ≤ Z), Nat.min_eq_left (by omega : L + 1 ≤ 385)]
    refine ⟨by rw [Nat.pow_succ, Nat.div_div_eq_div_mul], b1, ?_⟩
    rw [halfv_bit s L (by omega), Nat.testBit_eq_decide_div_mod_eq]
    unfold hfV
    by_cases z : s % 2 ^ L = 0
    · rw [if_pos z, decide_eq_false (show ¬ (s % 2 ^ L ≠ 0) by omega)]
      rfl
    · rw [if_neg z, decide_eq_true (show s % 2 ^ L ≠ 0 by omega)]
      rfl
  · have lt : s < 2 ^ L := Nat.lt_of_lt_of_le hQ (Nat.pow_le_pow_right (by decide) (by omega))
    have lt2 : s < 2 ^ (L + 1) := Nat.lt_of_lt_of_le hQ (Nat.pow_le_pow_right (by decide) (by omega))
    rw [Nat.min_eq_right (by omega : Z ≤ L + 1), Nat.min_eq_right (by omega : 385 ≤ L + 1)]
    refine ⟨by rw [Nat.div_eq_of_lt hQ, Nat.div_eq_of_lt lt], ?_, ?_⟩
    · rw [← b1, Nat.mod_eq_of_lt hQ, Nat.mod_eq_of_lt lt2]
    · unfold halfv
      rw [if_pos (Or.inr (by decide)), Nat.div_eq_of_lt lt]
      rfl
theorem cut_is (P s : Nat) (x st : Int) (k : Nat) (s0 : s ≠ 0) (hs : s < Q) (hP : P ≤ 200) (hst : st = x + (blen s : Int) - (P : Int) + (k : Int)) :
    s * 2 ^ cnt6 (x - st) < Q ∧ s * 2 ^ cnt6 (x - st) / 2 ^ cnt6 (st - x) = rS (qW P s) k ∧ decide (s * 2 ^ cnt6 (x - st) % 2 ^ cnt6 (st - x) = 0) = !(rH (qW P s) k || rM (qW P s) k (qM P s false)) ∧
    ((rH (qW P s) k || rM (qW P s) k (qM P s false)) = true → halfv (s * 2 ^ cnt6 (x - st)) (cnt5 (st - x)) = hfV (rH (qW P s) k) (rM (qW P s) k (qM P s false))) := by
  obtain ⟨l1, l2, l3⟩ := blen_low s s0
  obtain ⟨Z, hZ, eQ⟩ := Qq384
  have bQ : blen s ≤ Z := blen_le_of s Z (by rw [← eQ]; exact hs)
  have deep : ∀ L : Nat, st - x = ((L + 1 : Nat) : Int) → qW P s / 2 ^ k = s / 2 ^ L → rM (qW P s) k (qM P s false) = decide (s % 2 ^ L ≠ 0) → s * 2 ^ cnt6 (x - st) < Q ∧ s * 2 ^ cnt6 (x - st) / 2 ^ cnt6 (st - x) = rS (qW P s) k ∧ decide (s * 2 ^ cnt6 (x - st) % 2 ^ cnt6 (st - x) = 0) = !(rH (qW P s) k || rM (qW P s) k (qM P s false)) ∧
    ((rH (qW P s) k || rM (qW P s) k (qM P s false)) = true → halfv (s * 2 ^ cnt6 (x - st)) (cnt5 (st - x)) = hfV (rH (qW P s) k) (rM (qW P s) k (qM P s false))) := by
    intro L hL hq hm
    have e0 : cnt6 (x - st) = 0 := by unfold cnt6; omega
    have e1 : cnt6 (st - x) = min (L + 1) 384 := by unfold cnt6; omega
    have e2 : cnt5 (st - x) = min (L + 1) 385 := by unfold cnt5; omega
    obtain ⟨c1, c2, c3⟩ := cutN s L hs
    rw [e0, e1, e2, Nat.pow_zero, Nat.mul_one, hm]
    unfold rS rH
    rw [hq]
    exact ⟨hs, c1, c2, fun _ => c3⟩
  by_cases c : P + 1 ≤ blen s
  · refine deep (blen s - (P + 1) + k) (by omega) ?_ ?_
    · unfold qW
      rw [if_pos c, Nat.div_div_eq_div_mul, ← Nat.pow_add]
    · unfold rM qM qW
      rw [if_pos c, if_pos c, Bool.or_false]
      refine (qdec_or ?_).symm
      have := mod_pow_zero s (blen s - (P + 1)) k
      rw [Ne, this]
      omega
  · have W : qW P s = s * 2 ^ (P + 1 - blen s) := by unfold qW; rw [if_neg c]
    have M : qM P s false = false := by unfold qM; rw [if_neg c]
    by_cases c2 : P + 1 - blen s ≤ k
    · have e : s * 2 ^ (P + 1 - blen s) / 2 ^ k = s / 2 ^ (k - (P + 1 - blen s)) := by
        obtain ⟨i, rfl⟩ : ∃ i, k = P + 1 - blen s + i := ⟨k - (P + 1 - blen s), by omega⟩
        rw [Nat.pow_add, ← Nat.div_div_eq_div_mul, Nat.mul_div_cancel _ (Nat.two_pow_pos _), Nat.add_sub_cancel_left]
      refine deep (k - (P + 1 - blen s)) (by omega) (by rw [W, e]) ?_
      unfold rM
      rw [W, M, Bool.or_false]
      have := mod_pow_zero (s * 2 ^ (P + 1 - blen s)) (P + 1 - blen s) (k - (P + 1 - blen s))
      rw [show P + 1 - blen s + (k - (P + 1 - blen s)) = k by omega, Nat.mul_mod_left, Nat.mul_div_cancel _ (Nat.two_pow_pos _)] at this
      rw [decide_eq_decide, Ne, this]
      omega
    · obtain ⟨i, hi⟩ : ∃ i, P + 1 - blen s = i + 1 + k := ⟨P + 1 - blen s - 1 - k, by omega⟩
      have e0 : cnt6 (x - st) = i := by unfold cnt6; omega
      have e1 : cnt6 (st - x) = 0 := by unfold cnt6; omega
      have w1 : s * 2 ^ (P + 1 - blen s) / 2 ^ k = s * 2 ^ i * 2 := by
        rw [hi, Nat.pow_add, ← Nat.mul_assoc, Nat.mul_div_cancel _ (Nat.two_pow_pos _), Nat.pow_succ, Nat.mul_assoc]
      have hH : rH (s * 2 ^ (P + 1 - blen s)) k = false := by
        unfold rH
        rw [w1]
        exact decide_eq_false (by omega)
      have hM : rM (s * 2 ^ (P + 1 - blen s)) k false = false := by
        unfold rM
        rw [hi, Nat.pow_add, ← Nat.mul_assoc, Nat.mul_mod_left]
        rfl
      rw [W, M, e0, e1, hH, hM, Nat.pow_zero, Nat.div_one, Nat.mod_one]
      refine ⟨?_, ?_, rfl, fun q => Bool.noConfusion q⟩
      · have := (Nat.mul_lt_mul_right (Nat.two_pow_pos i)).2 l3
        rw [← Nat.pow_add] at this
        rw [eQ]
        exact Nat.lt_of_lt_of_le this (Nat.pow_le_pow_right (show 0 < 2 by decide) (by omega))
      · unfold rS
        rw [w1]
        omega
end Go.Proofs.YtpdehipeakcaiaaGreatDoor
