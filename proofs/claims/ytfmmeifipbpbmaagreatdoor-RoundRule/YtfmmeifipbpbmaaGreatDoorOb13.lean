/-
  What the functions that the statement reaches return: part 13 (R30, R4, R6).
-/
import Derived.Test.YtfmmeifipbpbmaaGreatDoorOb12
namespace Go.Proofs.YtfmmeifipbpbmaaGreatDoor
set_option maxRecDepth 100000
open Go.RowKit WMath XMath
set_option linter.unusedSimpArgs false
set_option linter.unusedVariables false

/-- The bits of a whole number that count, one more than the precision P, and whether anything is left. -/
def qW (P n : Nat) : Nat := if P + 1 ≤ blen n then n / 2 ^ (blen n - (P + 1)) else n * 2 ^ (P + 1 - blen n)
def qM (P n : Nat) (more : Bool) : Bool := if P + 1 ≤ blen n then decide (n % 2 ^ (blen n - (P + 1)) ≠ 0) || more else more
theorem blen_more (s n q : Nat) (s0 : s ≠ 0) (hq : q < 2 ^ n) : blen (s * 2 ^ n + q) = blen s + n := by
  have h := blen_push q n s hq s0
  rw [Nat.add_comm q, Nat.mul_comm (2 ^ n) s] at h
  omega
theorem div_more (s n q : Nat) (hq : q < 2 ^ n) : (s * 2 ^ n + q) / 2 ^ n = s := by
  rw [Nat.add_comm, Nat.add_mul_div_right _ _ (Nat.two_pow_pos n), Nat.div_eq_of_lt hq, Nat.zero_add]
theorem mod_more (s n q : Nat) (hq : q < 2 ^ n) : (s * 2 ^ n + q) % 2 ^ n = q := by
  rw [Nat.add_comm, Nat.add_mul_mod_self_right, Nat.mod_eq_of_lt hq]
theorem qdec_or {a b c : Prop} [Decidable a] [Decidable b] [Decidable c] (h : a ↔ (b ∨ c)) : decide a = (decide b || decide c) := by
  rw [Bool.eq_iff_iff, Bool.or_eq_true, decide_eq_true_iff, decide_eq_true_iff, decide_eq_true_iff]
  exact h
/-- A number that is made longer: what is put below it counts as something that is left. -/
theorem q_more (P s n q : Nat) (s0 : s ≠ 0) (hq : q < 2 ^ n) (h : q ≠ 0 → P + 1 ≤ blen s) : qW P (s * 2 ^ n + q) = qW P s ∧ qM P (s * 2 ^ n + q) false = qM P s (decide (q ≠ 0)) := by
  have hb := blen_more s n q s0 hq
  unfold qW qM
  rw [hb]
  by_cases c : P + 1 ≤ blen s
  · rw [if_pos c, if_pos c, if_pos (by omega), if_pos (by omega), show blen s + n - (P + 1) = n + (blen s - (P + 1)) by omega]
    constructor
    · rw [Nat.pow_add, ← Nat.div_div_eq_div_mul, div_more s n q hq]
    · rw [Bool.or_false, Bool.or_comm]
      refine qdec_or ?_
      have := mod_pow_zero (s * 2 ^ n + q) n (blen s - (P + 1))
      rw [mod_more s n q hq, div_more s n q hq] at this
      rw [Ne, this]
      omega
  · have q0 : q = 0 := by omega
    subst q0
    have z0 : decide ((0 : Nat) ≠ 0) = false := rfl
    rw [if_neg c, if_neg c, z0]
    simp only [Nat.add_zero]
    by_cases c2 : P + 1 ≤ blen s + n
    · rw [if_pos c2, if_pos c2]
      have e : s * 2 ^ n = s * 2 ^ (P + 1 - blen s) * 2 ^ (blen s + n - (P + 1)) := by
        rw [Nat.mul_assoc, ← Nat.pow_add]
        congr 2
        omega
      rw [e]
      refine ⟨Nat.mul_div_cancel _ (Nat.two_pow_pos _), ?_⟩
      rw [Bool.or_false, decide_eq_false_iff_not]
      exact fun q => q (Nat.mul_mod_left _ _)
    · rw [if_neg c2, if_neg c2, Nat.mul_assoc, ← Nat.pow_add]
      exact ⟨by congr 2; omega, rfl⟩
theorem q_longer (P s n : Nat) (s0 : s ≠ 0) : qW P (s * 2 ^ n) = qW P s ∧ qM P (s * 2 ^ n) false = qM P s false := by
  have := q_more P s n 0 s0 (Nat.two_pow_pos n) (fun h => absurd rfl h)
  have z0 : decide ((0 : Nat) ≠ 0) = false := rfl
  rw [Nat.add_zero, z0] at this
  exact this
theorem qM_true (P s : Nat) (more : Bool) : qM P s more = (qM P s false || more) := by
  unfold qM
  split <;> simp
/-- A number whose lowest bit is set because there is more. -/
theorem q_jam (P s : Nat) (h : P + 2 ≤ blen s) : blen (s / 2 * 2 + 1) = blen s ∧ qW P (s / 2 * 2 + 1) = qW P s ∧ qM P (s / 2 * 2 + 1) false = true ∧ qM P s true = true := by
  have s0 : s ≠ 0 := by intro e; subst e; rw [blen_zero] at h; omega
  obtain ⟨l1, l2, l3⟩ := blen_low s s0
  have t0 : s / 2 ≠ 0 := by
    have : 2 ^ 1 ≤ 2 ^ (blen s - 1) := Nat.pow_le_pow_right (by decide) (by omega)
    omega
  have d : s = s / 2 * 2 ^ 1 + s % 2 := by omega
  have b1 := blen_more (s / 2) 1 (s % 2) t0 (by omega)
  have b2 := blen_more (s / 2) 1 1 t0 (by decide)
  rw [← d] at b1
  have q1 := q_more P (s / 2) 1 (s % 2) t0 (by omega) (fun _ => by omega)
  have q2 := q_more P (s / 2) 1 1 t0 (by decide) (fun _ => by omega)
  rw [← d] at q1
  rw [Nat.pow_one] at b2 q2
  refine ⟨by omega, by rw [q1.1, q2.1], ?_, ?_⟩
  · rw [q2.2, qM_true]; simp
  · rw [qM_true]; simp
theorem q_ok {f : Int} (s : Nat) (s0 : s ≠ 0) : Wok f (qW (pV f + 1) s) := by
  obtain ⟨l1, l2, l3⟩ := blen_low s s0
  have e1 : 2 * 2 ^ pV f = 2 ^ (pV f + 1) := by rw [Nat.pow_succ, Nat.mul_comm]
  have e2 : 4 * 2 ^ pV f = 2 ^ (pV f + 1 + 1) := by rw [Nat.pow_succ, Nat.pow_succ]; omega
  unfold Wok qW
  rw [e1, e2]
  by_cases c : pV f + 1 + 1 ≤ blen s
  · rw [if_pos c]
    have p := Nat.two_pow_pos (blen s - (pV f + 1 + 1))
    constructor
    · rw [Nat.le_div_iff_mul_le p, ← Nat.pow_add, show pV f + 1 + (blen s - (pV f + 1 + 1)) = blen s - 1 by omega]
      exact l2
    · rw [Nat.div_lt_iff_lt_mul p, ← Nat.pow_add, show pV f + 1 + 1 + (blen s - (pV f + 1 + 1)) = blen s by omega]
      exact l3
  · rw [if_neg c]
    have p := Nat.two_pow_pos (pV f + 1 + 1 - blen s)
    constructor
    · have := Nat.mul_le_mul_right (2 ^ (pV f + 1 + 1 - blen s)) l2
      rw [← Nat.pow_add, show blen s - 1 + (pV f + 1 + 1 - blen s) = pV f + 1 by omega] at this
      exact this
    · have := (Nat.mul_lt_mul_right p).2 l3
      rw [← Nat.pow_add, show blen s + (pV f + 1 + 1 - blen s) = pV f + 1 + 1 by omega] at this
      exact this
/-- Of an exact number that is whole but for a power of two. -/
theorem x_odd {f : Int} (hf : Is4 f) (b : Bool) (n : Nat) (e : Int) (ho : n % 2 = 1) (hl : blen n ≤ 600) (h1 : -1200000 ≤ e) (h2 : e ≤ 1200000) :
    xW f ⟨b, n, 1, e⟩ = qW (pV f + 1) n ∧ xM f ⟨b, n, 1, e⟩ = qM (pV f + 1) n false := by
  have n0 : n ≠ 0 := by omega
  obtain ⟨n1, n2, n3, n4, n5, n6⟩ := nm8 hf
  have hp := fp8 hf
  have tw := top_whole b n e n0
  obtain ⟨l1, l2, l3⟩ := blen_low n n0
  unfold xW xM qW qM
  obtain ⟨a, hA⟩ : ∃ a, topX ⟨b, n, 1, e⟩ - fP f = a := ⟨_, rfl⟩
  rw [hA]
  by_cases c : a ≤ e
  · have sh := blen_shift n (e - a).toNat n0
    have := fl_yes ⟨b, n, 1, e⟩ a n0 rfl c (by omega) (by omega) (by
      show nl (n * 2 ^ (e - a).toNat) ≤ 16384
      unfold nl
      omega)
    rw [this]
    simp only
    by_cases c2 : pV f + 1 + 1 ≤ blen n
    · have : blen n = pV f + 1 + 1 := by omega
      have z : (e - a).toNat = 0 := by omega
      rw [if_pos c2, if_pos c2, this, Nat.sub_self, z, Nat.pow_zero, Nat.div_one, Nat.mul_one, Nat.mod_one]
      exact ⟨rfl, rfl⟩
    · rw [if_neg c2, if_neg c2, show (e - a).toNat = pV f + 1 + 1 - blen n by omega]
      exact ⟨rfl, rfl⟩
  · have z : flX ⟨b, n, 1, e⟩ a = ((n / (1 * 2 ^ (a - e).toNat), false), 0) := by
      unfold flX
      rw [if_neg (by omega), if_neg n0, if_neg c, if_neg (by omega)]
    rw [z, Nat.one_mul, if_pos (by omega), if_pos (by omega), show (a - e).toNat = blen n - (pV f + 1 + 1) by omega]
    refine ⟨rfl, ?_⟩
    have : n % 2 ^ (blen n - (pV f + 1 + 1)) ≠ 0 := by
      obtain ⟨i, hi⟩ : ∃ i, blen n - (pV f + 1 + 1) = i + 1 := ⟨blen n - (pV f + 1 + 1) - 1, by omega⟩
      rw [hi]
      intro q
      have := (mod_pow_zero n 1 i).1 (by rw [Nat.add_comm]; exact q)
      omega
    rw [decide_eq_true this]
    rfl
theorem x_whole {f : Int} (hf : Is4 f) (b : Bool) (N : Nat) (e : Int) (n0 : N ≠ 0) (hl : blen N ≤ 600) (h1 : -1000000 ≤ e) (h2 : e ≤ 1000000) :
    mk b N 1 e = (⟨b, od N, 1, e + (tz N : Int)⟩, 0) ∧ (XN.mk b (od N) 1 (e + (tz N : Int))).can ∧ od N ≠ 0 ∧ nl (od N) ≤ 8192 ∧ topX ⟨b, od N, 1, e + (tz N : Int)⟩ = e + (blen N : Int) - 1 ∧ xW f ⟨b, od N, 1, e + (tz N : Int)⟩ = qW (pV f + 1) N ∧ xM f ⟨b, od N, 1, e + (tz N : Int)⟩ = qM (pV f + 1) N false := by
  obtain ⟨o1, o2⟩ := od_is N n0
  have od0 : od N ≠ 0 := by omega
  have tl := tz_blen N
  have bs := blen_shift (od N) (tz N) od0
  rw [← o1] at bs
  have m := mk_whole b N e n0 (by omega) (by omega)
  have lo : nl (od N) ≤ 8192 := by unfold nl; omega
  have lN : nl N ≤ 16384 := by unfold nl; omega
  obtain ⟨x1, x2⟩ := x_odd hf b (od N) (e + (tz N : Int)) o2 (by omega) (by omega) (by omega)
  have ql := q_longer (pV f + 1) (od N) (tz N) od0
  rw [← o1] at ql
  refine ⟨m, ?_, od0, lo, ?_, by rw [x1, ql.1], by rw [x2, ql.2]⟩
  · have := mk_can b N 1 e lN nl_1 (by decide) (by rw [m])
    rw [m] at this
    exact this
  · rw [top_whole b (od N) _ od0]
    omega
/-- What is cut off a number: the whole part, the bit below it, what is left. -/
theorem cutN (s L : Nat) (hs : s < Q) : s / 2 ^ min (L + 1) 384 = s / 2 ^ L / 2 ∧ decide (s % 2 ^ min (L + 1) 384 = 0) = !(decide (s / 2 ^ L % 2 = 1) || decide (s % 2 ^ L ≠ 0)) ∧ halfv s (min (L + 1) 385) = hfV (decide (s / 2 ^ L % 2 = 1)) (decide (s % 2 ^ L ≠ 0)) := by
  obtain ⟨Z, hZ, eQ⟩ := Qq384
  have hQ : s < 2 ^ Z := by rw [← eQ]; exact hs
  rw [← hZ]
  have full : s % 2 ^ (L + 1) = 0 ↔ (s % 2 ^ L = 0 ∧ s / 2 ^ L % 2 = 0) := by
    have := mod_pow_zero s L 1
    rw [Nat.pow_one] at this
    exact this
  have b1 : decide (s % 2 ^ (L + 1) = 0) = !(decide (s / 2 ^ L % 2 = 1) || decide (s % 2 ^ L ≠ 0)) := by
    rw [Bool.eq_iff_iff, decide_eq_true_iff, full, Bool.not_eq_true', Bool.or_eq_false_iff, decide_eq_false_iff_not, decide_eq_false_iff_not]
    omega
  by_cases c : L < Z
  · rw [Nat.min_eq_left (by omega : L + 1 ≤ Z), Nat.min_eq_left (by omega : L + 1 ≤ 385)]
    refine ⟨by rw [Nat.pow_succ, Nat.div_div_eq_div_mul], b1, ?_⟩
    rw [halfv_bit s L (by omega), Nat.testBit_eq_decide_div_mod_eq]
    unfold hfV
    by_cases z : s % 2 ^ L = 0
    · rw [if_pos z, decide_eq_false (show ¬ (s % 2 ^ L ≠ 0) by omega)]
      rfl
    · rw [if_neg z, decide_eq_true (show s % 2 ^ L ≠ 0 by omega)]
      rfl
  · have lt : s < 2 ^ L := Nat.lt_of_lt_of_le hQ (Nat.pow_le_pow_right (by decide) (by omega))
    have lt2 : s < 2 ^ (L + 1) := Nat.lt_of_lt_of_le hQ (Nat.pow_le_pow_right (by decide) (by omega))
    rw [Nat.min_eq_right (by omega : Z ≤ L + 1), Nat.min_eq_right (by omega : 385 ≤ L + 1)]
    refine ⟨by rw [Nat.div_eq_of_lt hQ, Nat.div_eq_of_lt lt], ?_, ?_⟩
    · rw [← b1, Nat.mod_eq_of_lt hQ, Nat.mod_eq_of_lt lt2]
    · unfold halfv
      rw [if_pos (Or.inr (by decide)), Nat.div_eq_of_lt lt]
      rfl
/-- What package round cuts: by the bits that count. -/
theorem cut_is (P s : Nat) (x st : Int) (k : Nat) (s0 : s ≠ 0) (hs : s < Q) (hP : P ≤ 200) (hst : st = x + (blen s : Int) - (P : Int) + (k : Int)) :
    s * 2 ^ cnt6 (x - st) < Q ∧ s * 2 ^ cnt6 (x - st) / 2 ^ cnt6 (st - x) = rS (qW P s) k ∧ decide (s * 2 ^ cnt6 (x - st) % 2 ^ cnt6 (st - x) = 0) = !(rH (qW P s) k || rM (qW P s) k (qM P s false)) ∧
    ((rH (qW P s) k || rM (qW P s) k (qM P s false)) = true → halfv (s * 2 ^ cnt6 (x - st)) (cnt5 (st - x)) = hfV (rH (qW P s) k) (rM (qW P s) k (qM P s false))) := by
  obtain ⟨l1, l2, l3⟩ := blen_low s s0
  obtain ⟨Z, hZ, eQ⟩ := Qq384
  have bQ : blen s ≤ Z := blen_le_of s Z (by rw [← eQ]; exact hs)
  have deep : ∀ L : Nat, st - x = ((L + 1 : Nat) : Int) → qW P s / 2 ^ k = s / 2 ^ L → rM (qW P s) k (qM P s false) = decide (s % 2 ^ L ≠ 0) → s * 2 ^ cnt6 (x - st) < Q ∧ s * 2 ^ cnt6 (x - st) / 2 ^ cnt6 (st - x) = rS (qW P s) k ∧ decide (s * 2 ^ cnt6 (x - st) % 2 ^ cnt6 (st - x) = 0) = !(rH (qW P s) k || rM (qW P s) k (qM P s false)) ∧
    ((rH (qW P s) k || rM (qW P s) k (qM P s false)) = true → halfv (s * 2 ^ cnt6 (x - st)) (cnt5 (st - x)) = hfV (rH (qW P s) k) (rM (qW P s) k (qM P s false))) := by
    intro L hL hq hm
    have e0 : cnt6 (x - st) = 0 := by unfold cnt6; omega
    have e1 : cnt6 (st - x) = min (L + 1) 384 := by unfold cnt6; omega
    have e2 : cnt5 (st - x) = min (L + 1) 385 := by unfold cnt5; omega
    obtain ⟨c1, c2, c3⟩ := cutN s L hs
    rw [e0, e1, e2, Nat.pow_zero, Nat.mul_one, hm]
    unfold rS rH
    rw [hq]
    exact ⟨hs, c1, c2, fun _ => c3⟩
  by_cases c : P + 1 ≤ blen s
  · refine deep (blen s - (P + 1) + k) (by omega) ?_ ?_
    · unfold qW
      rw [if_pos c, Nat.div_div_eq_div_mul, ← Nat.pow_add]
    · unfold rM qM qW
      rw [if_pos c, if_pos c, Bool.or_false]
      refine (qdec_or ?_).symm
      have := mod_pow_zero s (blen s - (P + 1)) k
      rw [Ne, this]
      omega
  · have W : qW P s = s * 2 ^ (P + 1 - blen s) := by unfold qW; rw [if_neg c]
    have M : qM P s false = false := by unfold qM; rw [if_neg c]
    by_cases c2 : P + 1 - blen s ≤ k
    · have e : s * 2 ^ (P + 1 - blen s) / 2 ^ k = s / 2 ^ (k - (P + 1 - blen s)) := by
        obtain ⟨i, rfl⟩ : ∃ i, k = P + 1 - blen s + i := ⟨k - (P + 1 - blen s), by omega⟩
        rw [Nat.pow_add, ← Nat.div_div_eq_div_mul, Nat.mul_div_cancel _ (Nat.two_pow_pos _), Nat.add_sub_cancel_left]
      refine deep (k - (P + 1 - blen s)) (by omega) (by rw [W, e]) ?_
      unfold rM
      rw [W, M, Bool.or_false]
      have := mod_pow_zero (s * 2 ^ (P + 1 - blen s)) (P + 1 - blen s) (k - (P + 1 - blen s))
      rw [show P + 1 - blen s + (k - (P + 1 - blen s)) = k by omega, Nat.mul_mod_left, Nat.mul_div_cancel _ (Nat.two_pow_pos _)] at this
      rw [decide_eq_decide, Ne, this]
      omega
    · obtain ⟨i, hi⟩ : ∃ i, P + 1 - blen s = i + 1 + k := ⟨P + 1 - blen s - 1 - k, by omega⟩
      have e0 : cnt6 (x - st) = i := by unfold cnt6; omega
      have e1 : cnt6 (st - x) = 0 := by unfold cnt6; omega
      have w1 : s * 2 ^ (P + 1 - blen s) / 2 ^ k = s * 2 ^ i * 2 := by
        rw [hi, Nat.pow_add, ← Nat.mul_assoc, Nat.mul_div_cancel _ (Nat.two_pow_pos _), Nat.pow_succ, Nat.mul_assoc]
      have hH : rH (s * 2 ^ (P + 1 - blen s)) k = false := by
        unfold rH
        rw [w1]
        exact decide_eq_false (by omega)
      have hM : rM (s * 2 ^ (P + 1 - blen s)) k false = false := by
        unfold rM
        rw [hi, Nat.pow_add, ← Nat.mul_assoc, Nat.mul_mod_left]
        rfl
      rw [W, M, e0, e1, hH, hM, Nat.pow_zero, Nat.div_one, Nat.mod_one]
      refine ⟨?_, ?_, rfl, fun q => Bool.noConfusion q⟩
      · have := (Nat.mul_lt_mul_right (Nat.two_pow_pos i)).2 l3
        rw [← Nat.pow_add] at this
        rw [eQ]
        exact Nat.lt_of_lt_of_le this (Nat.pow_le_pow_right (show 0 < 2 by decide) (by omega))
      · unfold rS
        rw [w1]
        omega
end Go.Proofs.YtfmmeifipbpbmaaGreatDoor
namespace Go.Proofs.YtfmmeifipbpbmaaGreatDoor
set_option maxRecDepth 100000
open Go.RowKit WMath
set_option linter.unusedSimpArgs false
set_option linter.unusedVariables false

set_option maxRecDepth 100000 in
set_option maxHeartbeats 2000000 in
theorem ru_known1 (f : Int) (neg : Bool) (T St La : Int) (b : Bool) (s t : ByteArray) (e : Int) (m : ByteArray) (is mo : Bool) (w : World)
    (KS : Box (∀ w, FAt w → Calls Tryz.prog 148 #[.int .u8 f, .int .i64 T] w fun r w' => r = .returned (.int .i64 St) ∧ Below w.heap.size w w'))
    (h1 : IntKind.i64.wrap (St - 1) = La) (hmo : (!is) = mo)
    (KF : Box (∀ w, TabAt w → Calls Tryz.prog 155 #[.agg #[.bool b, .string s, .string t, .int .i64 e], .int .i64 La] w fun r w' => r = .returned (.tuple #[.string m, .bool is]) ∧ Below w.heap.size w w'))
    (hT : FAt w) (hT2 : TabAt w) : Calls Tryz.prog 153 #[.int .u8 f, .bool neg, .int .i64 T, .func (.func 155) #[.agg #[.bool b, .string s, .string t, .int .i64 e]] #[]] w fun r w' => r = .returned (.agg #[.bool neg, .int .i64 T, .int .i64 La, .string m, .bool mo]) ∧ Below w.heap.size w w' := by
  have FF := box hT
  have TT := box hT2
  clear hT hT2
  obtain ⟨Rz_0, B0⟩ := opn1 w (Obj.cells #[.bool false, .int .i64 0, .int .i64 0, .string ⟨#[]⟩, .bool false] 107)
  go_enter Tryz.func153, Tryz.ntmps153
  go_wp2_with fail
  refine (KS.out _ (fatB FF.out B0)).mono ?_
  rintro r w1 ⟨rfl, b1⟩
  have B1 : Below w.heap.size w w1 := btr B0 b1
  have Rz_1 := heap_of b1 _ _ _ Rz_0
  clear b1 B0 Rz_0
  have cz_1_0 := cells4 Rz_1 0 _ rfl
  have cz_1_1 := cells4 Rz_1 1 _ rfl
  have cz_1_2 := cells4 Rz_1 2 _ rfl
  have cz_1_3 := cells4 Rz_1 3 _ rfl
  have cz_1_4 := cells4 Rz_1 4 _ rfl
  go_wp2_with fail
  refine (KF.out _ (tabB TT.out B1)).mono ?_
  rintro r w2 ⟨rfl, b2⟩
  have B2 : Below w.heap.size w w2 := btr B1 b2
  have Rz_2 := heap_of b2 _ _ _ Rz_1
  clear b2 B1 Rz_1 cz_1_0 cz_1_1 cz_1_2 cz_1_3 cz_1_4
  have cz_2_0 := cells4 Rz_2 0 _ rfl
  have cz_2_1 := cells4 Rz_2 1 _ rfl
  have cz_2_2 := cells4 Rz_2 2 _ rfl
  have cz_2_3 := cells4 Rz_2 3 _ rfl
  have cz_2_4 := cells4 Rz_2 4 _ rfl
  have q0 := fz (k := 0) Rz_2
  have q1 := fz (k := 1) Rz_2
  have q2 := fz (k := 2) Rz_2
  have q3 := fz (k := 3) Rz_2
  have q4 := fz (k := 4) Rz_2
  obtain ⟨E0, E1, E2, E3, E4⟩ := set5_cells Rz_2 rfl (.bool neg) (.int .i64 T) (.int .i64 La) (.string m) (.bool mo)
  go_wp2
  exact bodyPost_ret (v := .agg #[.bool neg, .int .i64 T, .int .i64 La, .string m, .bool mo]) (by simp [results, Tryz.results153, go_sem, E0, E1, E2, E3, E4]) rfl ⟨rfl, set5_below B2 (by first | exact Nat.le_refl _ | omega | (skip; omega)) _ _ _ _ _⟩
set_option maxRecDepth 100000 in
set_option maxHeartbeats 4000000 in
theorem ru_ofExact (f : Int) (b : Bool) (s t : ByteArray) (e T La : Int) (m : ByteArray) (mo : Bool) (w : World)
    (KT : Box (∀ w, TabAt w → Calls Tryz.prog 154 #[.agg #[.bool b, .string s, .string t, .int .i64 e]] w fun r w' => r = .returned (.int .i64 T) ∧ Below w.heap.size w w'))
    (KK : Box (∀ w, FAt w → TabAt w → Calls Tryz.prog 153 #[.int .u8 f, .bool b, .int .i64 T, .func (.func 155) #[.agg #[.bool b, .string s, .string t, .int .i64 e]] #[]] w fun r w' => r = .returned (.agg #[.bool b, .int .i64 T, .int .i64 La, .string m, .bool mo]) ∧ Below w.heap.size w w'))
    (hT : FAt w) (hT2 : TabAt w) : Calls Tryz.prog 70 #[.int .u8 f, .agg #[.bool b, .string s, .string t, .int .i64 e]] w fun r w' => r = .returned (.agg #[.bool b, .int .i64 T, .int .i64 La, .string m, .bool mo]) ∧ Below w.heap.size w w' := by
  have FF := box hT
  have TT := box hT2
  clear hT hT2
  have hmf : ∀ (fn : Fn) (first cap : Array Value) (w : World), (Instr.makeFunc fn first cap).run Tryz.prog w = .ok (.func fn first cap) w := fun _ _ _ _ => rfl
  obtain ⟨Rx_0, Rz_0, B0⟩ := opn2 w (Obj.cells #[.bool b, .string s, .string t, .int .i64 e] 41) (Obj.cells #[.bool false, .int .i64 0, .int .i64 0, .string ⟨#[]⟩, .bool false] 107)
  go_enter Tryz.func70, Tryz.ntmps70
  have sS : Box (∀ W W1 : World, (Below w.heap.size w W ∧ W.heap[w.heap.size]? = some (Obj.cells #[.bool b, .string s, .string t, .int .i64 e] 41) ∧ W.cell? ⟨w.heap.size, 0, none⟩ = some (.bool b) ∧ W.cell? ⟨w.heap.size, 1, none⟩ = some (.string s) ∧ W.cell? ⟨w.heap.size, 2, none⟩ = some (.string t) ∧ W.cell? ⟨w.heap.size, 3, none⟩ = some (.int .i64 e)) → Below W.heap.size W W1 → (Below w.heap.size w W1 ∧ W1.heap[w.heap.size]? = some (Obj.cells #[.bool b, .string s, .string t, .int .i64 e] 41) ∧ W1.cell? ⟨w.heap.size, 0, none⟩ = some (.bool b) ∧ W1.cell? ⟨w.heap.size, 1, none⟩ = some (.string s) ∧ W1.cell? ⟨w.heap.size, 2, none⟩ = some (.string t) ∧ W1.cell? ⟨w.heap.size, 3, none⟩ = some (.int .i64 e))) := box (fun W W1 h b => ⟨btr h.1 b, heap_of b _ _ _ h.2.1, cell7 (heap_of b _ _ _ h.2.1) 0 _ rfl, cell7 (heap_of b _ _ _ h.2.1) 1 _ rfl, cell7 (heap_of b _ _ _ h.2.1) 2 _ rfl, cell7 (heap_of b _ _ _ h.2.1) 3 _ rfl⟩)
  have sT : Box (∀ (W : World) (xA xB xC xD xE : Value), (Below w.heap.size w W ∧ W.heap[w.heap.size]? = some (Obj.cells #[.bool b, .string s, .string t, .int .i64 e] 41) ∧ W.cell? ⟨w.heap.size, 0, none⟩ = some (.bool b) ∧ W.cell? ⟨w.heap.size, 1, none⟩ = some (.string s) ∧ W.cell? ⟨w.heap.size, 2, none⟩ = some (.string t) ∧ W.cell? ⟨w.heap.size, 3, none⟩ = some (.int .i64 e)) → (Below w.heap.size w (((((W.setCell ⟨w.heap.size + 1, 0, none⟩ xA).setCell ⟨w.heap.size + 1, 1, none⟩ xB).setCell ⟨w.heap.size + 1, 2, none⟩ xC).setCell ⟨w.heap.size + 1, 3, none⟩ xD).setCell ⟨w.heap.size + 1, 4, none⟩ xE) ∧ (((((W.setCell ⟨w.heap.size + 1, 0, none⟩ xA).setCell ⟨w.heap.size + 1, 1, none⟩ xB).setCell ⟨w.heap.size + 1, 2, none⟩ xC).setCell ⟨w.heap.size + 1, 3, none⟩ xD).setCell ⟨w.heap.size + 1, 4, none⟩ xE).heap[w.heap.size]? = some (Obj.cells #[.bool b, .string s, .string t, .int .i64 e] 41) ∧ (((((W.setCell ⟨w.heap.size + 1, 0, none⟩ xA).setCell ⟨w.heap.size + 1, 1, none⟩ xB).setCell ⟨w.heap.size + 1, 2, none⟩ xC).setCell ⟨w.heap.size + 1, 3, none⟩ xD).setCell ⟨w.heap.size + 1, 4, none⟩ xE).cell? ⟨w.heap.size, 0, none⟩ = some (.bool b) ∧ (((((W.setCell ⟨w.heap.size + 1, 0, none⟩ xA).setCell ⟨w.heap.size + 1, 1, none⟩ xB).setCell ⟨w.heap.size + 1, 2, none⟩ xC).setCell ⟨w.heap.size + 1, 3, none⟩ xD).setCell ⟨w.heap.size + 1, 4, none⟩ xE).cell? ⟨w.heap.size, 1, none⟩ = some (.string s) ∧ (((((W.setCell ⟨w.heap.size + 1, 0, none⟩ xA).setCell ⟨w.heap.size + 1, 1, none⟩ xB).setCell ⟨w.heap.size + 1, 2, none⟩ xC).setCell ⟨w.heap.size + 1, 3, none⟩ xD).setCell ⟨w.heap.size + 1, 4, none⟩ xE).cell? ⟨w.heap.size, 2, none⟩ = some (.string t) ∧ (((((W.setCell ⟨w.heap.size + 1, 0, none⟩ xA).setCell ⟨w.heap.size + 1, 1, none⟩ xB).setCell ⟨w.heap.size + 1, 2, none⟩ xC).setCell ⟨w.heap.size + 1, 3, none⟩ xD).setCell ⟨w.heap.size + 1, 4, none⟩ xE).cell? ⟨w.heap.size, 3, none⟩ = some (.int .i64 e))) := box (fun W xA xB xC xD xE h => ⟨set5_below h.1 (by first | exact Nat.le_refl _ | omega | (skip; omega)) xA xB xC xD xE, ((setCell_other (by first | omega | (skip; omega))).trans ((setCell_other (by first | omega | (skip; omega))).trans ((setCell_other (by first | omega | (skip; omega))).trans ((setCell_other (by first | omega | (skip; omega))).trans ((setCell_other (by first | omega | (skip; omega))).trans h.2.1))))), cell7 (((setCell_other (by first | omega | (skip; omega))).trans ((setCell_other (by first | omega | (skip; omega))).trans ((setCell_other (by first | omega | (skip; omega))).trans ((setCell_other (by first | omega | (skip; omega))).trans ((setCell_other (by first | omega | (skip; omega))).trans h.2.1)))))) 0 _ rfl, cell7 (((setCell_other (by first | omega | (skip; omega))).trans ((setCell_other (by first | omega | (skip; omega))).trans ((setCell_other (by first | omega | (skip; omega))).trans ((setCell_other (by first | omega | (skip; omega))).trans ((setCell_other (by first | omega | (skip; omega))).trans h.2.1)))))) 1 _ rfl, cell7 (((setCell_other (by first | omega | (skip; omega))).trans ((setCell_other (by first | omega | (skip; omega))).trans ((setCell_other (by first | omega | (skip; omega))).trans ((setCell_other (by first | omega | (skip; omega))).trans ((setCell_other (by first | omega | (skip; omega))).trans h.2.1)))))) 2 _ rfl, cell7 (((setCell_other (by first | omega | (skip; omega))).trans ((setCell_other (by first | omega | (skip; omega))).trans ((setCell_other (by first | omega | (skip; omega))).trans ((setCell_other (by first | omega | (skip; omega))).trans ((setCell_other (by first | omega | (skip; omega))).trans h.2.1)))))) 3 _ rfl⟩)
  have s0 : Below w.heap.size w (((w.alloc (Obj.cells #[.bool b, .string s, .string t, .int .i64 e] 41)).alloc (Obj.cells #[.bool false, .int .i64 0, .int .i64 0, .string ⟨#[]⟩, .bool false] 107))).drew ∧ (((w.alloc (Obj.cells #[.bool b, .string s, .string t, .int .i64 e] 41)).alloc (Obj.cells #[.bool false, .int .i64 0, .int .i64 0, .string ⟨#[]⟩, .bool false] 107))).drew.heap[w.heap.size]? = some (Obj.cells #[.bool b, .string s, .string t, .int .i64 e] 41) ∧ (((w.alloc (Obj.cells #[.bool b, .string s, .string t, .int .i64 e] 41)).alloc (Obj.cells #[.bool false, .int .i64 0, .int .i64 0, .string ⟨#[]⟩, .bool false] 107))).drew.cell? ⟨w.heap.size, 0, none⟩ = some (.bool b) ∧ (((w.alloc (Obj.cells #[.bool b, .string s, .string t, .int .i64 e] 41)).alloc (Obj.cells #[.bool false, .int .i64 0, .int .i64 0, .string ⟨#[]⟩, .bool false] 107))).drew.cell? ⟨w.heap.size, 1, none⟩ = some (.string s) ∧ (((w.alloc (Obj.cells #[.bool b, .string s, .string t, .int .i64 e] 41)).alloc (Obj.cells #[.bool false, .int .i64 0, .int .i64 0, .string ⟨#[]⟩, .bool false] 107))).drew.cell? ⟨w.heap.size, 2, none⟩ = some (.string t) ∧ (((w.alloc (Obj.cells #[.bool b, .string s, .string t, .int .i64 e] 41)).alloc (Obj.cells #[.bool false, .int .i64 0, .int .i64 0, .string ⟨#[]⟩, .bool false] 107))).drew.cell? ⟨w.heap.size, 3, none⟩ = some (.int .i64 e) := ⟨B0.drew, Rx_0, cell7 (Rx_0) 0 _ rfl, cell7 (Rx_0) 1 _ rfl, cell7 (Rx_0) 2 _ rfl, cell7 (Rx_0) 3 _ rfl⟩
  have rz : (((w.alloc (Obj.cells #[.bool b, .string s, .string t, .int .i64 e] 41)).alloc (Obj.cells #[.bool false, .int .i64 0, .int .i64 0, .string ⟨#[]⟩, .bool false] 107))).drew.heap[w.heap.size + 1]? = some (Obj.cells #[.bool false, .int .i64 0, .int .i64 0, .string ⟨#[]⟩, .bool false] 107) := Rz_0
  have hq0 := fz (k := 0) rz
  have hq1 := fz (k := 1) rz
  have hq2 := fz (k := 2) rz
  have hq3 := fz (k := 3) rz
  have hq4 := fz (k := 4) rz
  have hc0 := cell7 rz 0 _ rfl
  have hc1 := cell7 rz 1 _ rfl
  have hc2 := cell7 rz 2 _ rfl
  have hc3 := cell7 rz 3 _ rfl
  have hc4 := cell7 rz 4 _ rfl
  go_wp2_with fail
  go_region_held3 (fun W => Below w.heap.size w W ∧ W.heap[w.heap.size]? = some (Obj.cells #[.bool b, .string s, .string t, .int .i64 e] 41) ∧ W.cell? ⟨w.heap.size, 0, none⟩ = some (.bool b) ∧ W.cell? ⟨w.heap.size, 1, none⟩ = some (.string s) ∧ W.cell? ⟨w.heap.size, 2, none⟩ = some (.string t) ∧ W.cell? ⟨w.heap.size, 3, none⟩ = some (.int .i64 e)) (first | exact s1 | exact s0 | exact sT.out _ _ _ _ _ _ s1 | exact sT.out _ _ _ _ _ _ s0)
    (first | (go_at_call 154; (first | refine (KT.out _ (tabB TT.out (And.left s1))).mono ?_ | refine (KT.out _ (tabB TT.out (And.left s0))).mono ?_); rintro r wq ⟨rfl, bq⟩; have s1 := (by first | exact sS.out _ _ s1 bq | exact sS.out _ _ s0 bq); have rz := heap_of bq _ _ _ rz; have hq0 := fz (k := 0) rz; have hc0 := cell7 rz 0 _ rfl; have hq1 := fz (k := 1) rz; have hc1 := cell7 rz 1 _ rfl; have hq2 := fz (k := 2) rz; have hc2 := cell7 rz 2 _ rfl; have hq3 := fz (k := 3) rz; have hc3 := cell7 rz 3 _ rfl; have hq4 := fz (k := 4) rz; have hc4 := cell7 rz 4 _ rfl; clear bq) | (go_at_call 153; (first | refine (KK.out _ (fatB FF.out (And.left s1)) (tabB TT.out (And.left s1))).mono ?_ | refine (KK.out _ (fatB FF.out (And.left s0)) (tabB TT.out (And.left s0))).mono ?_); rintro r wq ⟨rfl, bq⟩; have s1 := (by first | exact sS.out _ _ s1 bq | exact sS.out _ _ s0 bq); have rz := heap_of bq _ _ _ rz; have hq0 := fz (k := 0) rz; have hc0 := cell7 rz 0 _ rfl; have hq1 := fz (k := 1) rz; have hc1 := cell7 rz 1 _ rfl; have hq2 := fz (k := 2) rz; have hc2 := cell7 rz 2 _ rfl; have hq3 := fz (k := 3) rz; have hc3 := cell7 rz 3 _ rfl; have hq4 := fz (k := 4) rz; have hc4 := cell7 rz 4 _ rfl; clear bq) | fail)
  all_goals
    obtain ⟨E0, E1, E2, E3, E4⟩ := set5_cells rz rfl (.bool b) (.int .i64 T) (.int .i64 La) (.string m) (.bool mo)
    have BZ := (by first | exact And.left s1 | exact And.left s0 : Below w.heap.size w _)
    go_wp2
    exact bodyPost_ret (v := .agg #[.bool b, .int .i64 T, .int .i64 La, .string m, .bool mo]) (by simp [results, Tryz.results70, go_sem, E0, E1, E2, E3, E4]) rfl ⟨rfl, set5_below BZ (by first | exact Nat.le_refl _ | omega | (skip; omega)) _ _ _ _ _⟩
end Go.Proofs.YtfmmeifipbpbmaaGreatDoor
namespace Go.Proofs.YtfmmeifipbpbmaaGreatDoor
set_option maxRecDepth 100000
open Go.RowKit WMath
set_option linter.unusedSimpArgs false
set_option linter.unusedVariables false

set_option maxRecDepth 100000 in
set_option maxHeartbeats 4000000 in
theorem ru_round (m st : Int) (neg : Bool) (T La : Int) (ws : ByteArray) (more : Bool) (A1 K e1 e2 e3 e4 : Int) (hs ss us ss' rs : ByteArray) (lost half odd o mo : Bool) (w : World)
    (K1 : Box (∀ w, TabAt w → Calls Tryz.prog 226 #[.string ws, .int .i64 K] w fun r w' => r = .returned (.tuple #[.string hs, .bool lost, .int .i64 e1]) ∧ Below w.heap.size w w'))
    (K2 : Box (∀ w, TabAt w → Calls Tryz.prog 226 #[.string hs, .int .i64 1] w fun r w' => r = .returned (.tuple #[.string ss, .bool half, .int .i64 e2]) ∧ Below w.heap.size w w'))
    (K3 : Box (∀ w, TabAt w → Calls Tryz.prog 226 #[.string ss, .int .i64 1] w fun r w' => r = .returned (.tuple #[.string us, .bool odd, .int .i64 e3]) ∧ Below w.heap.size w w'))
    (KG : Box (∀ w, Calls Tryz.prog 227 #[.int .u8 m, .bool neg, .bool odd, .agg #[.bool half, .bool mo]] w fun r w' => r = .returned (.bool o) ∧ Below w.heap.size w w'))
    (KA : Box (o = true → ∀ w, Calls Tryz.prog 228 #[.string ss, .string ⟨#[1]⟩] w fun r w' => r = .returned (.tuple #[.string ss', .int .i64 e4]) ∧ Below w.heap.size w w'))
    (h1 : IntKind.i64.wrap (st - 1) = A1) (h2 : IntKind.i64.wrap (A1 - La) = K) (hmo : (lost || more) = mo) (hrs : (if o = true then ss' else ss) = rs)
    (hT2 : TabAt w) : Calls Tryz.prog 147 #[.int .u8 m, .agg #[.bool neg, .int .i64 T, .int .i64 La, .string ws, .bool more], .int .i64 st] w fun r w' => r = .returned (.agg #[.string rs, .int .i64 st, .bool half, .bool mo]) ∧ Below w.heap.size w w' := by
  have TT := box hT2
  clear hT2
  cases o
  · rw [if_neg (by decide)] at hrs
    subst hrs
    clear KA
    cases lost
    · obtain rfl : more = mo := hmo
      obtain ⟨Rn_0, Rz_0, B0⟩ := opn2 w (Obj.cells #[.bool neg, .int .i64 T, .int .i64 La, .string ws, .bool more] 107) (Obj.cells #[.string ⟨#[]⟩, .int .i64 0, .bool false, .bool false] 174)
      go_enter Tryz.func147, Tryz.ntmps147
      go_wp2_with fail
      refine (K1.out _ (tabB TT.out B0)).mono ?_
      rintro r w1 ⟨rfl, b1⟩
      have B1 : Below w.heap.size w w1 := btr B0 b1
      have Rn_1 := heap_of b1 _ _ _ Rn_0
      have Rz_1 := heap_of b1 _ _ _ Rz_0
      clear b1 B0 Rn_0 Rz_0
      have cn_1_0 := cells4 Rn_1 0 _ rfl
      have cn_1_1 := cells4 Rn_1 1 _ rfl
      have cn_1_2 := cells4 Rn_1 2 _ rfl
      have cn_1_3 := cells4 Rn_1 3 _ rfl
      have cn_1_4 := cells4 Rn_1 4 _ rfl
      obtain ⟨cz_1_0, cz_1_1, cz_1_2, cz_1_3⟩ := cells4s Rz_1
      go_wp2_with fail
      refine (K2.out _ (tabB TT.out B1)).mono ?_
      rintro r w2 ⟨rfl, b2⟩
      have B2 : Below w.heap.size w w2 := btr B1 b2
      have Rn_2 := heap_of b2 _ _ _ Rn_1
      have Rz_2 := heap_of b2 _ _ _ Rz_1
      clear b2 B1 Rn_1 cn_1_0 cn_1_1 cn_1_2 cn_1_3 cn_1_4 Rz_1 cz_1_0 cz_1_1 cz_1_2 cz_1_3
      have cn_2_0 := cells4 Rn_2 0 _ rfl
      have cn_2_1 := cells4 Rn_2 1 _ rfl
      have cn_2_2 := cells4 Rn_2 2 _ rfl
      have cn_2_3 := cells4 Rn_2 3 _ rfl
      have cn_2_4 := cells4 Rn_2 4 _ rfl
      obtain ⟨cz_2_0, cz_2_1, cz_2_2, cz_2_3⟩ := cells4s Rz_2
      go_wp2_with fail
      have S3 := box B2.size
      have Ln_3 : Box (w.heap.size < w2.heap.size) := box (Array.getElem?_eq_some_iff.1 Rn_2).1
      have Lz_3 : Box (w.heap.size + 1 < w2.heap.size) := box (Array.getElem?_eq_some_iff.1 Rz_2).1
      have Rr_3 := heap_alloc_last w2 (Obj.cells #[.string ss, .int .i64 st, .bool half, .bool more] 174)
      have B3 := btr B2 (bal w2 (Obj.cells #[.string ss, .int .i64 st, .bool half, .bool more] 174))
      have Rn_3 := heap_of (bal w2 (Obj.cells #[.string ss, .int .i64 st, .bool half, .bool more] 174)) _ _ _ Rn_2
      have Rz_3 := heap_of (bal w2 (Obj.cells #[.string ss, .int .i64 st, .bool half, .bool more] 174)) _ _ _ Rz_2
      clear B2 Rn_2 cn_2_0 cn_2_1 cn_2_2 cn_2_3 cn_2_4 Rz_2 cz_2_0 cz_2_1 cz_2_2 cz_2_3
      have cn_3_0 := cells4 Rn_3 0 _ rfl
      have cn_3_1 := cells4 Rn_3 1 _ rfl
      have cn_3_2 := cells4 Rn_3 2 _ rfl
      have cn_3_3 := cells4 Rn_3 3 _ rfl
      have cn_3_4 := cells4 Rn_3 4 _ rfl
      obtain ⟨cz_3_0, cz_3_1, cz_3_2, cz_3_3⟩ := cells4s Rz_3
      obtain ⟨cr_3_0, cr_3_1, cr_3_2, cr_3_3⟩ := cells4s Rr_3
      go_wp2_with fail
      refine (K3.out _ (tabB TT.out B3)).mono ?_
      rintro r w4 ⟨rfl, b4⟩
      have B4 : Below w.heap.size w w4 := btr B3 b4
      have Rn_4 := heap_of b4 _ _ _ Rn_3
      have Rz_4 := heap_of b4 _ _ _ Rz_3
      have Rr_4 := heap_of b4 _ _ _ Rr_3
      clear b4 B3 Rn_3 cn_3_0 cn_3_1 cn_3_2 cn_3_3 cn_3_4 Rz_3 cz_3_0 cz_3_1 cz_3_2 cz_3_3 Rr_3 cr_3_0 cr_3_1 cr_3_2 cr_3_3
      have cn_4_0 := cells4 Rn_4 0 _ rfl
      have cn_4_1 := cells4 Rn_4 1 _ rfl
      have cn_4_2 := cells4 Rn_4 2 _ rfl
      have cn_4_3 := cells4 Rn_4 3 _ rfl
      have cn_4_4 := cells4 Rn_4 4 _ rfl
      obtain ⟨cz_4_0, cz_4_1, cz_4_2, cz_4_3⟩ := cells4s Rz_4
      obtain ⟨cr_4_0, cr_4_1, cr_4_2, cr_4_3⟩ := cells4s Rr_4
      go_wp2_with fail
      refine (KG.out _).mono ?_
      rintro r w5 ⟨rfl, b5⟩
      have B5 : Below w.heap.size w w5 := btr B4 b5
      have Rn_5 := heap_of b5 _ _ _ Rn_4
      have Rz_5 := heap_of b5 _ _ _ Rz_4
      have Rr_5 := heap_of b5 _ _ _ Rr_4
      clear b5 B4 Rn_4 cn_4_0 cn_4_1 cn_4_2 cn_4_3 cn_4_4 Rz_4 cz_4_0 cz_4_1 cz_4_2 cz_4_3 Rr_4 cr_4_0 cr_4_1 cr_4_2 cr_4_3
      have cn_5_0 := cells4 Rn_5 0 _ rfl
      have cn_5_1 := cells4 Rn_5 1 _ rfl
      have cn_5_2 := cells4 Rn_5 2 _ rfl
      have cn_5_3 := cells4 Rn_5 3 _ rfl
      have cn_5_4 := cells4 Rn_5 4 _ rfl
      obtain ⟨cz_5_0, cz_5_1, cz_5_2, cz_5_3⟩ := cells4s Rz_5
      obtain ⟨cr_5_0, cr_5_1, cr_5_2, cr_5_3⟩ := cells4s Rr_5
      have q0 := fz (k := 0) Rz_5
      have q1 := fz (k := 1) Rz_5
      have q2 := fz (k := 2) Rz_5
      have q3 := fz (k := 3) Rz_5
      obtain ⟨E0, E1, E2, E3⟩ := set4_cells Rz_5 rfl (.string ss) (.int .i64 st) (.bool half) (.bool more)
      go_wp2
      exact bodyPost_ret (v := .agg #[.string ss, .int .i64 st, .bool half, .bool more]) (by simp [results, Tryz.results147, go_sem, E0, E1, E2, E3]) rfl ⟨rfl, set4_below B5 (by first | exact Nat.le_refl _ | omega | (have := S3.out; have := Ln_3.out; have := Lz_3.out; omega)) _ _ _ _⟩
    · obtain rfl : true = mo := hmo
      obtain ⟨Rn_0, Rz_0, B0⟩ := opn2 w (Obj.cells #[.bool neg, .int .i64 T, .int .i64 La, .string ws, .bool more] 107) (Obj.cells #[.string ⟨#[]⟩, .int .i64 0, .bool false, .bool false] 174)
      go_enter Tryz.func147, Tryz.ntmps147
      go_wp2_with fail
      refine (K1.out _ (tabB TT.out B0)).mono ?_
      rintro r w1 ⟨rfl, b1⟩
      have B1 : Below w.heap.size w w1 := btr B0 b1
      have Rn_1 := heap_of b1 _ _ _ Rn_0
      have Rz_1 := heap_of b1 _ _ _ Rz_0
      clear b1 B0 Rn_0 Rz_0
      have cn_1_0 := cells4 Rn_1 0 _ rfl
      have cn_1_1 := cells4 Rn_1 1 _ rfl
      have cn_1_2 := cells4 Rn_1 2 _ rfl
      have cn_1_3 := cells4 Rn_1 3 _ rfl
      have cn_1_4 := cells4 Rn_1 4 _ rfl
      obtain ⟨cz_1_0, cz_1_1, cz_1_2, cz_1_3⟩ := cells4s Rz_1
      go_wp2_with fail
      refine (K2.out _ (tabB TT.out B1)).mono ?_
      rintro r w2 ⟨rfl, b2⟩
      have B2 : Below w.heap.size w w2 := btr B1 b2
      have Rn_2 := heap_of b2 _ _ _ Rn_1
      have Rz_2 := heap_of b2 _ _ _ Rz_1
      clear b2 B1 Rn_1 cn_1_0 cn_1_1 cn_1_2 cn_1_3 cn_1_4 Rz_1 cz_1_0 cz_1_1 cz_1_2 cz_1_3
      have cn_2_0 := cells4 Rn_2 0 _ rfl
      have cn_2_1 := cells4 Rn_2 1 _ rfl
      have cn_2_2 := cells4 Rn_2 2 _ rfl
      have cn_2_3 := cells4 Rn_2 3 _ rfl
      have cn_2_4 := cells4 Rn_2 4 _ rfl
      obtain ⟨cz_2_0, cz_2_1, cz_2_2, cz_2_3⟩ := cells4s Rz_2
      have S3 := box B2.size
      have Ln_3 : Box (w.heap.size < w2.heap.size) := box (Array.getElem?_eq_some_iff.1 Rn_2).1
      have Lz_3 : Box (w.heap.size + 1 < w2.heap.size) := box (Array.getElem?_eq_some_iff.1 Rz_2).1
      have Rr_3 := heap_alloc_last w2 (Obj.cells #[.string ss, .int .i64 st, .bool half, .bool true] 174)
      have B3 := btr B2 (bal w2 (Obj.cells #[.string ss, .int .i64 st, .bool half, .bool true] 174))
      have Rn_3 := heap_of (bal w2 (Obj.cells #[.string ss, .int .i64 st, .bool half, .bool true] 174)) _ _ _ Rn_2
      have Rz_3 := heap_of (bal w2 (Obj.cells #[.string ss, .int .i64 st, .bool half, .bool true] 174)) _ _ _ Rz_2
      clear B2 Rn_2 cn_2_0 cn_2_1 cn_2_2 cn_2_3 cn_2_4 Rz_2 cz_2_0 cz_2_1 cz_2_2 cz_2_3
      have cn_3_0 := cells4 Rn_3 0 _ rfl
      have cn_3_1 := cells4 Rn_3 1 _ rfl
      have cn_3_2 := cells4 Rn_3 2 _ rfl
      have cn_3_3 := cells4 Rn_3 3 _ rfl
      have cn_3_4 := cells4 Rn_3 4 _ rfl
      obtain ⟨cz_3_0, cz_3_1, cz_3_2, cz_3_3⟩ := cells4s Rz_3
      obtain ⟨cr_3_0, cr_3_1, cr_3_2, cr_3_3⟩ := cells4s Rr_3
      go_wp2_with fail
      refine (K3.out _ (tabB TT.out B3)).mono ?_
      rintro r w4 ⟨rfl, b4⟩
      have B4 : Below w.heap.size w w4 := btr B3 b4
      have Rn_4 := heap_of b4 _ _ _ Rn_3
      have Rz_4 := heap_of b4 _ _ _ Rz_3
      have Rr_4 := heap_of b4 _ _ _ Rr_3
      clear b4 B3 Rn_3 cn_3_0 cn_3_1 cn_3_2 cn_3_3 cn_3_4 Rz_3 cz_3_0 cz_3_1 cz_3_2 cz_3_3 Rr_3 cr_3_0 cr_3_1 cr_3_2 cr_3_3
      have cn_4_0 := cells4 Rn_4 0 _ rfl
      have cn_4_1 := cells4 Rn_4 1 _ rfl
      have cn_4_2 := cells4 Rn_4 2 _ rfl
      have cn_4_3 := cells4 Rn_4 3 _ rfl
      have cn_4_4 := cells4 Rn_4 4 _ rfl
      obtain ⟨cz_4_0, cz_4_1, cz_4_2, cz_4_3⟩ := cells4s Rz_4
      obtain ⟨cr_4_0, cr_4_1, cr_4_2, cr_4_3⟩ := cells4s Rr_4
      go_wp2_with fail
      refine (KG.out _).mono ?_
      rintro r w5 ⟨rfl, b5⟩
      have B5 : Below w.heap.size w w5 := btr B4 b5
      have Rn_5 := heap_of b5 _ _ _ Rn_4
      have Rz_5 := heap_of b5 _ _ _ Rz_4
      have Rr_5 := heap_of b5 _ _ _ Rr_4
      clear b5 B4 Rn_4 cn_4_0 cn_4_1 cn_4_2 cn_4_3 cn_4_4 Rz_4 cz_4_0 cz_4_1 cz_4_2 cz_4_3 Rr_4 cr_4_0 cr_4_1 cr_4_2 cr_4_3
      have cn_5_0 := cells4 Rn_5 0 _ rfl
      have cn_5_1 := cells4 Rn_5 1 _ rfl
      have cn_5_2 := cells4 Rn_5 2 _ rfl
      have cn_5_3 := cells4 Rn_5 3 _ rfl
      have cn_5_4 := cells4 Rn_5 4 _ rfl
      obtain ⟨cz_5_0, cz_5_1, cz_5_2, cz_5_3⟩ := cells4s Rz_5
      obtain ⟨cr_5_0, cr_5_1, cr_5_2, cr_5_3⟩ := cells4s Rr_5
      have q0 := fz (k := 0) Rz_5
      have q1 := fz (k := 1) Rz_5
      have q2 := fz (k := 2) Rz_5
      have q3 := fz (k := 3) Rz_5
      obtain ⟨E0, E1, E2, E3⟩ := set4_cells Rz_5 rfl (.string ss) (.int .i64 st) (.bool half) (.bool true)
      go_wp2
      exact bodyPost_ret (v := .agg #[.string ss, .int .i64 st, .bool half, .bool true]) (by simp [results, Tryz.results147, go_sem, E0, E1, E2, E3]) rfl ⟨rfl, set4_below B5 (by first | exact Nat.le_refl _ | omega | (have := S3.out; have := Ln_3.out; have := Lz_3.out; omega)) _ _ _ _⟩
  · rw [if_pos rfl] at hrs
    subst hrs
    have K5 := box (KA.out rfl)
    clear KA
    cases lost
    · obtain rfl : more = mo := hmo
      obtain ⟨Rn_0, Rz_0, B0⟩ := opn2 w (Obj.cells #[.bool neg, .int .i64 T, .int .i64 La, .string ws, .bool more] 107) (Obj.cells #[.string ⟨#[]⟩, .int .i64 0, .bool false, .bool false] 174)
      go_enter Tryz.func147, Tryz.ntmps147
      go_wp2_with fail
      refine (K1.out _ (tabB TT.out B0)).mono ?_
      rintro r w1 ⟨rfl, b1⟩
      have B1 : Below w.heap.size w w1 := btr B0 b1
      have Rn_1 := heap_of b1 _ _ _ Rn_0
      have Rz_1 := heap_of b1 _ _ _ Rz_0
      clear b1 B0 Rn_0 Rz_0
      have cn_1_0 := cells4 Rn_1 0 _ rfl
      have cn_1_1 := cells4 Rn_1 1 _ rfl
      have cn_1_2 := cells4 Rn_1 2 _ rfl
      have cn_1_3 := cells4 Rn_1 3 _ rfl
      have cn_1_4 := cells4 Rn_1 4 _ rfl
      obtain ⟨cz_1_0, cz_1_1, cz_1_2, cz_1_3⟩ := cells4s Rz_1
      go_wp2_with fail
      refine (K2.out _ (tabB TT.out B1)).mono ?_
      rintro r w2 ⟨rfl, b2⟩
      have B2 : Below w.heap.size w w2 := btr B1 b2
      have Rn_2 := heap_of b2 _ _ _ Rn_1
      have Rz_2 := heap_of b2 _ _ _ Rz_1
      clear b2 B1 Rn_1 cn_1_0 cn_1_1 cn_1_2 cn_1_3 cn_1_4 Rz_1 cz_1_0 cz_1_1 cz_1_2 cz_1_3
      have cn_2_0 := cells4 Rn_2 0 _ rfl
      have cn_2_1 := cells4 Rn_2 1 _ rfl
      have cn_2_2 := cells4 Rn_2 2 _ rfl
      have cn_2_3 := cells4 Rn_2 3 _ rfl
      have cn_2_4 := cells4 Rn_2 4 _ rfl
      obtain ⟨cz_2_0, cz_2_1, cz_2_2, cz_2_3⟩ := cells4s Rz_2
      go_wp2_with fail
      have S3 := box B2.size
      have Ln_3 : Box (w.heap.size < w2.heap.size) := box (Array.getElem?_eq_some_iff.1 Rn_2).1
      have Lz_3 : Box (w.heap.size + 1 < w2.heap.size) := box (Array.getElem?_eq_some_iff.1 Rz_2).1
      have Rr_3 := heap_alloc_last w2 (Obj.cells #[.string ss, .int .i64 st, .bool half, .bool more] 174)
      have B3 := btr B2 (bal w2 (Obj.cells #[.string ss, .int .i64 st, .bool half, .bool more] 174))
      have Rn_3 := heap_of (bal w2 (Obj.cells #[.string ss, .int .i64 st, .bool half, .bool more] 174)) _ _ _ Rn_2
      have Rz_3 := heap_of (bal w2 (Obj.cells #[.string ss, .int .i64 st, .bool half, .bool more] 174)) _ _ _ Rz_2
      clear B2 Rn_2 cn_2_0 cn_2_1 cn_2_2 cn_2_3 cn_2_4 Rz_2 cz_2_0 cz_2_1 cz_2_2 cz_2_3
      have cn_3_0 := cells4 Rn_3 0 _ rfl
      have cn_3_1 := cells4 Rn_3 1 _ rfl
      have cn_3_2 := cells4 Rn_3 2 _ rfl
      have cn_3_3 := cells4 Rn_3 3 _ rfl
      have cn_3_4 := cells4 Rn_3 4 _ rfl
      obtain ⟨cz_3_0, cz_3_1, cz_3_2, cz_3_3⟩ := cells4s Rz_3
      obtain ⟨cr_3_0, cr_3_1, cr_3_2, cr_3_3⟩ := cells4s Rr_3
      go_wp2_with fail
      refine (K3.out _ (tabB TT.out B3)).mono ?_
      rintro r w4 ⟨rfl, b4⟩
      have B4 : Below w.heap.size w w4 := btr B3 b4
      have Rn_4 := heap_of b4 _ _ _ Rn_3
      have Rz_4 := heap_of b4 _ _ _ Rz_3
      have Rr_4 := heap_of b4 _ _ _ Rr_3
      clear b4 B3 Rn_3 cn_3_0 cn_3_1 cn_3_2 cn_3_3 cn_3_4 Rz_3 cz_3_0 cz_3_1 cz_3_2 cz_3_3 Rr_3 cr_3_0 cr_3_1 cr_3_2 cr_3_3
      have cn_4_0 := cells4 Rn_4 0 _ rfl
      have cn_4_1 := cells4 Rn_4 1 _ rfl
      have cn_4_2 := cells4 Rn_4 2 _ rfl
      have cn_4_3 := cells4 Rn_4 3 _ rfl
      have cn_4_4 := cells4 Rn_4 4 _ rfl
      obtain ⟨cz_4_0, cz_4_1, cz_4_2, cz_4_3⟩ := cells4s Rz_4
      obtain ⟨cr_4_0, cr_4_1, cr_4_2, cr_4_3⟩ := cells4s Rr_4
      go_wp2_with fail
      refine (KG.out _).mono ?_
      rintro r w5 ⟨rfl, b5⟩
      have B5 : Below w.heap.size w w5 := btr B4 b5
      have Rn_5 := heap_of b5 _ _ _ Rn_4
      have Rz_5 := heap_of b5 _ _ _ Rz_4
      have Rr_5 := heap_of b5 _ _ _ Rr_4
      clear b5 B4 Rn_4 cn_4_0 cn_4_1 cn_4_2 cn_4_3 cn_4_4 Rz_4 cz_4_0 cz_4_1 cz_4_2 cz_4_3 Rr_4 cr_4_0 cr_4_1 cr_4_2 cr_4_3
      have cn_5_0 := cells4 Rn_5 0 _ rfl
      have cn_5_1 := cells4 Rn_5 1 _ rfl
      have cn_5_2 := cells4 Rn_5 2 _ rfl
      have cn_5_3 := cells4 Rn_5 3 _ rfl
      have cn_5_4 := cells4 Rn_5 4 _ rfl
      obtain ⟨cz_5_0, cz_5_1, cz_5_2, cz_5_3⟩ := cells4s Rz_5
      obtain ⟨cr_5_0, cr_5_1, cr_5_2, cr_5_3⟩ := cells4s Rr_5
      go_wp2_with fail
      refine (K5.out _).mono ?_
      rintro r w6 ⟨rfl, b6⟩
      have B6 : Below w.heap.size w w6 := btr B5 b6
      have Rn_6 := heap_of b6 _ _ _ Rn_5
      have Rz_6 := heap_of b6 _ _ _ Rz_5
      have Rr_6 := heap_of b6 _ _ _ Rr_5
      clear b6 B5 Rn_5 cn_5_0 cn_5_1 cn_5_2 cn_5_3 cn_5_4 Rz_5 cz_5_0 cz_5_1 cz_5_2 cz_5_3 Rr_5 cr_5_0 cr_5_1 cr_5_2 cr_5_3
      have cn_6_0 := cells4 Rn_6 0 _ rfl
      have cn_6_1 := cells4 Rn_6 1 _ rfl
      have cn_6_2 := cells4 Rn_6 2 _ rfl
      have cn_6_3 := cells4 Rn_6 3 _ rfl
      have cn_6_4 := cells4 Rn_6 4 _ rfl
      obtain ⟨cz_6_0, cz_6_1, cz_6_2, cz_6_3⟩ := cells4s Rz_6
      obtain ⟨cr_6_0, cr_6_1, cr_6_2, cr_6_3⟩ := cells4s Rr_6
      have qr_6 := fz (k := 0) Rr_6
      have B7 : Below w.heap.size w (w6.setCell ⟨w2.heap.size, 0, none⟩ (.string ss')) := B6.setCell (by first | exact Nat.le_refl _ | (have := S3.out; have := Ln_3.out; have := Lz_3.out; show w.heap.size ≤ w2.heap.size; omega)) _
      have Rr_7 : (w6.setCell ⟨w2.heap.size, 0, none⟩ (.string ss')).heap[w2.heap.size]? = some (Obj.cells #[.string ss', .int .i64 st, .bool half, .bool more] 174) := by rw [setCell_row Rr_6]; rfl
      have Rn_7 : (w6.setCell ⟨w2.heap.size, 0, none⟩ (.string ss')).heap[w.heap.size]? = some (Obj.cells #[.bool neg, .int .i64 T, .int .i64 La, .string ws, .bool more] 107) := by rw [setCell_other (by first | omega | (have := S3.out; have := Ln_3.out; have := Lz_3.out; omega))]; exact Rn_6
      have Rz_7 : (w6.setCell ⟨w2.heap.size, 0, none⟩ (.string ss')).heap[w.heap.size + 1]? = some (Obj.cells #[.string ⟨#[]⟩, .int .i64 0, .bool false, .bool false] 174) := by rw [setCell_other (by first | omega | (have := S3.out; have := Ln_3.out; have := Lz_3.out; omega))]; exact Rz_6
      have cn_7_0 := cells4 Rn_7 0 _ rfl
      have cn_7_1 := cells4 Rn_7 1 _ rfl
      have cn_7_2 := cells4 Rn_7 2 _ rfl
      have cn_7_3 := cells4 Rn_7 3 _ rfl
      have cn_7_4 := cells4 Rn_7 4 _ rfl
      obtain ⟨cz_7_0, cz_7_1, cz_7_2, cz_7_3⟩ := cells4s Rz_7
      obtain ⟨cr_7_0, cr_7_1, cr_7_2, cr_7_3⟩ := cells4s Rr_7
      have q0 := fz (k := 0) Rz_7
      have q1 := fz (k := 1) Rz_7
      have q2 := fz (k := 2) Rz_7
      have q3 := fz (k := 3) Rz_7
      obtain ⟨E0, E1, E2, E3⟩ := set4_cells Rz_7 rfl (.string ss') (.int .i64 st) (.bool half) (.bool more)
      go_wp2
      exact bodyPost_ret (v := .agg #[.string ss', .int .i64 st, .bool half, .bool more]) (by simp [results, Tryz.results147, go_sem, E0, E1, E2, E3]) rfl ⟨rfl, set4_below B7 (by first | exact Nat.le_refl _ | omega | (have := S3.out; have := Ln_3.out; have := Lz_3.out; omega)) _ _ _ _⟩
    · obtain rfl : true = mo := hmo
      obtain ⟨Rn_0, Rz_0, B0⟩ := opn2 w (Obj.cells #[.bool neg, .int .i64 T, .int .i64 La, .string ws, .bool more] 107) (Obj.cells #[.string ⟨#[]⟩, .int .i64 0, .bool false, .bool false] 174)
      go_enter Tryz.func147, Tryz.ntmps147
      go_wp2_with fail
      refine (K1.out _ (tabB TT.out B0)).mono ?_
      rintro r w1 ⟨rfl, b1⟩
      have B1 : Below w.heap.size w w1 := btr B0 b1
      have Rn_1 := heap_of b1 _ _ _ Rn_0
      have Rz_1 := heap_of b1 _ _ _ Rz_0
      clear b1 B0 Rn_0 Rz_0
      have cn_1_0 := cells4 Rn_1 0 _ rfl
      have cn_1_1 := cells4 Rn_1 1 _ rfl
      have cn_1_2 := cells4 Rn_1 2 _ rfl
      have cn_1_3 := cells4 Rn_1 3 _ rfl
      have cn_1_4 := cells4 Rn_1 4 _ rfl
      obtain ⟨cz_1_0, cz_1_1, cz_1_2, cz_1_3⟩ := cells4s Rz_1
      go_wp2_with fail
      refine (K2.out _ (tabB TT.out B1)).mono ?_
      rintro r w2 ⟨rfl, b2⟩
      have B2 : Below w.heap.size w w2 := btr B1 b2
      have Rn_2 := heap_of b2 _ _ _ Rn_1
      have Rz_2 := heap_of b2 _ _ _ Rz_1
      clear b2 B1 Rn_1 cn_1_0 cn_1_1 cn_1_2 cn_1_3 cn_1_4 Rz_1 cz_1_0 cz_1_1 cz_1_2 cz_1_3
      have cn_2_0 := cells4 Rn_2 0 _ rfl
      have cn_2_1 := cells4 Rn_2 1 _ rfl
      have cn_2_2 := cells4 Rn_2 2 _ rfl
      have cn_2_3 := cells4 Rn_2 3 _ rfl
      have cn_2_4 := cells4 Rn_2 4 _ rfl
      obtain ⟨cz_2_0, cz_2_1, cz_2_2, cz_2_3⟩ := cells4s Rz_2
      have S3 := box B2.size
      have Ln_3 : Box (w.heap.size < w2.heap.size) := box (Array.getElem?_eq_some_iff.1 Rn_2).1
      have Lz_3 : Box (w.heap.size + 1 < w2.heap.size) := box (Array.getElem?_eq_some_iff.1 Rz_2).1
      have Rr_3 := heap_alloc_last w2 (Obj.cells #[.string ss, .int .i64 st, .bool half, .bool true] 174)
      have B3 := btr B2 (bal w2 (Obj.cells #[.string ss, .int .i64 st, .bool half, .bool true] 174))
      have Rn_3 := heap_of (bal w2 (Obj.cells #[.string ss, .int .i64 st, .bool half, .bool true] 174)) _ _ _ Rn_2
      have Rz_3 := heap_of (bal w2 (Obj.cells #[.string ss, .int .i64 st, .bool half, .bool true] 174)) _ _ _ Rz_2
      clear B2 Rn_2 cn_2_0 cn_2_1 cn_2_2 cn_2_3 cn_2_4 Rz_2 cz_2_0 cz_2_1 cz_2_2 cz_2_3
      have cn_3_0 := cells4 Rn_3 0 _ rfl
      have cn_3_1 := cells4 Rn_3 1 _ rfl
      have cn_3_2 := cells4 Rn_3 2 _ rfl
      have cn_3_3 := cells4 Rn_3 3 _ rfl
      have cn_3_4 := cells4 Rn_3 4 _ rfl
      obtain ⟨cz_3_0, cz_3_1, cz_3_2, cz_3_3⟩ := cells4s Rz_3
      obtain ⟨cr_3_0, cr_3_1, cr_3_2, cr_3_3⟩ := cells4s Rr_3
      go_wp2_with fail
      refine (K3.out _ (tabB TT.out B3)).mono ?_
      rintro r w4 ⟨rfl, b4⟩
      have B4 : Below w.heap.size w w4 := btr B3 b4
      have Rn_4 := heap_of b4 _ _ _ Rn_3
      have Rz_4 := heap_of b4 _ _ _ Rz_3
      have Rr_4 := heap_of b4 _ _ _ Rr_3
      clear b4 B3 Rn_3 cn_3_0 cn_3_1 cn_3_2 cn_3_3 cn_3_4 Rz_3 cz_3_0 cz_3_1 cz_3_2 cz_3_3 Rr_3 cr_3_0 cr_3_1 cr_3_2 cr_3_3
      have cn_4_0 := cells4 Rn_4 0 _ rfl
      have cn_4_1 := cells4 Rn_4 1 _ rfl
      have cn_4_2 := cells4 Rn_4 2 _ rfl
      have cn_4_3 := cells4 Rn_4 3 _ rfl
      have cn_4_4 := cells4 Rn_4 4 _ rfl
      obtain ⟨cz_4_0, cz_4_1, cz_4_2, cz_4_3⟩ := cells4s Rz_4
      obtain ⟨cr_4_0, cr_4_1, cr_4_2, cr_4_3⟩ := cells4s Rr_4
      go_wp2_with fail
      refine (KG.out _).mono ?_
      rintro r w5 ⟨rfl, b5⟩
      have B5 : Below w.heap.size w w5 := btr B4 b5
      have Rn_5 := heap_of b5 _ _ _ Rn_4
      have Rz_5 := heap_of b5 _ _ _ Rz_4
      have Rr_5 := heap_of b5 _ _ _ Rr_4
      clear b5 B4 Rn_4 cn_4_0 cn_4_1 cn_4_2 cn_4_3 cn_4_4 Rz_4 cz_4_0 cz_4_1 cz_4_2 cz_4_3 Rr_4 cr_4_0 cr_4_1 cr_4_2 cr_4_3
      have cn_5_0 := cells4 Rn_5 0 _ rfl
      have cn_5_1 := cells4 Rn_5 1 _ rfl
      have cn_5_2 := cells4 Rn_5 2 _ rfl
      have cn_5_3 := cells4 Rn_5 3 _ rfl
      have cn_5_4 := cells4 Rn_5 4 _ rfl
      obtain ⟨cz_5_0, cz_5_1, cz_5_2, cz_5_3⟩ := cells4s Rz_5
      obtain ⟨cr_5_0, cr_5_1, cr_5_2, cr_5_3⟩ := cells4s Rr_5
      go_wp2_with fail
      refine (K5.out _).mono ?_
      rintro r w6 ⟨rfl, b6⟩
      have B6 : Below w.heap.size w w6 := btr B5 b6
      have Rn_6 := heap_of b6 _ _ _ Rn_5
      have Rz_6 := heap_of b6 _ _ _ Rz_5
      have Rr_6 := heap_of b6 _ _ _ Rr_5
      clear b6 B5 Rn_5 cn_5_0 cn_5_1 cn_5_2 cn_5_3 cn_5_4 Rz_5 cz_5_0 cz_5_1 cz_5_2 cz_5_3 Rr_5 cr_5_0 cr_5_1 cr_5_2 cr_5_3
      have cn_6_0 := cells4 Rn_6 0 _ rfl
      have cn_6_1 := cells4 Rn_6 1 _ rfl
      have cn_6_2 := cells4 Rn_6 2 _ rfl
      have cn_6_3 := cells4 Rn_6 3 _ rfl
      have cn_6_4 := cells4 Rn_6 4 _ rfl
      obtain ⟨cz_6_0, cz_6_1, cz_6_2, cz_6_3⟩ := cells4s Rz_6
      obtain ⟨cr_6_0, cr_6_1, cr_6_2, cr_6_3⟩ := cells4s Rr_6
      have qr_6 := fz (k := 0) Rr_6
      have B7 : Below w.heap.size w (w6.setCell ⟨w2.heap.size, 0, none⟩ (.string ss')) := B6.setCell (by first | exact Nat.le_refl _ | (have := S3.out; have := Ln_3.out; have := Lz_3.out; show w.heap.size ≤ w2.heap.size; omega)) _
      have Rr_7 : (w6.setCell ⟨w2.heap.size, 0, none⟩ (.string ss')).heap[w2.heap.size]? = some (Obj.cells #[.string ss', .int .i64 st, .bool half, .bool true] 174) := by rw [setCell_row Rr_6]; rfl
      have Rn_7 : (w6.setCell ⟨w2.heap.size, 0, none⟩ (.string ss')).heap[w.heap.size]? = some (Obj.cells #[.bool neg, .int .i64 T, .int .i64 La, .string ws, .bool more] 107) := by rw [setCell_other (by first | omega | (have := S3.out; have := Ln_3.out; have := Lz_3.out; omega))]; exact Rn_6
      have Rz_7 : (w6.setCell ⟨w2.heap.size, 0, none⟩ (.string ss')).heap[w.heap.size + 1]? = some (Obj.cells #[.string ⟨#[]⟩, .int .i64 0, .bool false, .bool false] 174) := by rw [setCell_other (by first | omega | (have := S3.out; have := Ln_3.out; have := Lz_3.out; omega))]; exact Rz_6
      have cn_7_0 := cells4 Rn_7 0 _ rfl
      have cn_7_1 := cells4 Rn_7 1 _ rfl
      have cn_7_2 := cells4 Rn_7 2 _ rfl
      have cn_7_3 := cells4 Rn_7 3 _ rfl
      have cn_7_4 := cells4 Rn_7 4 _ rfl
      obtain ⟨cz_7_0, cz_7_1, cz_7_2, cz_7_3⟩ := cells4s Rz_7
      obtain ⟨cr_7_0, cr_7_1, cr_7_2, cr_7_3⟩ := cells4s Rr_7
      have q0 := fz (k := 0) Rz_7
      have q1 := fz (k := 1) Rz_7
      have q2 := fz (k := 2) Rz_7
      have q3 := fz (k := 3) Rz_7
      obtain ⟨E0, E1, E2, E3⟩ := set4_cells Rz_7 rfl (.string ss') (.int .i64 st) (.bool half) (.bool true)
      go_wp2
      exact bodyPost_ret (v := .agg #[.string ss', .int .i64 st, .bool half, .bool true]) (by simp [results, Tryz.results147, go_sem, E0, E1, E2, E3]) rfl ⟨rfl, set4_below B7 (by first | exact Nat.le_refl _ | omega | (have := S3.out; have := Ln_3.out; have := Lz_3.out; omega)) _ _ _ _⟩
end Go.Proofs.YtfmmeifipbpbmaaGreatDoor
