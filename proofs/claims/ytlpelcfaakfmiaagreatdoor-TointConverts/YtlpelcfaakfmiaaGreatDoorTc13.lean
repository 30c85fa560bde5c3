/-
  What the functions that the statement reaches return: part 13 (KU, V1, V2, V7, V9, VA, R1, R5, R30, RB, RE).
-/
import Derived.Deep.RegionHeld3
import Derived.Lib.MinMax
import Derived.Test.YtlpelcfaakfmiaaGreatDoorTc12
namespace Go.Proofs.YtlpelcfaakfmiaaGreatDoor
set_option maxRecDepth 100000
set_option maxHeartbeats 40000000
set_option maxRecDepth 100000
open Go.RowKit WMath
set_option linter.unusedSimpArgs false
set_option linter.unusedVariables false
theorem em_lim {f : Int} (hf : Is4 f) : IntKind.i64.wrap (1 - fE f - fP f) = 1 - fE f - fP f ∧ IntKind.i64.wrap (1 - fE f - fP f + 1) = lx f ∧ IntKind.i64.wrap (fE f - fP f) = fE f - fP f ∧ IntKind.i64.wrap (fE f - fP f + 1) = fE f - (pV f : Int) ∧ (if fC f = 0 then 1 - fE f else 0) = 1 - fE f ∧ 2 * fE f + 1 = (oV f : Int) ∧ 0 ≤ fE f ∧ fE f ≤ 16383 ∧ fP f = (pV f : Int) + 1 ∧ lx f = 1 - fE f - fP f + 1 ∧ pV f < 128 ∧ -16494 ≤ lx f ∧ lx f ≤ 0 := by
  rcases hf with rfl | rfl | rfl | rfl <;> decide +kernel
set_option maxHeartbeats 1000000 in
theorem rUnpack_is (f : Int) (hf : Is4 f) (x y n : Nat) (hx : x < 18446744073709551616) (hy : y < 18446744073709551616) (hn : y + 18446744073709551616 * x = n) (hfit : Fit f n) (w : World) :
    Calls Tryz.prog 84 #[.int .u8 f, .agg #[.int .u64 (x : Nat), .int .u64 (y : Nat)]] w fun r w' => r = .returned (.agg (pt (kC f n) (kS f n) (kX f n) (kF f n))) ∧ Below w.heap.size w w' := by
  have f4 := is4_ok hf
  obtain ⟨g1, g2, g3, g4, g5, g6, g7⟩ := fm hf
  obtain ⟨m1, m2, m3, m4, m5, m6, m7, m8, m9, m10, m11, m12, m13⟩ := em_lim hf
  have tl := kT_lt (f := f) n
  have el := kE_le (f := f) n
  have pn : 2 ^ pV f + kT f n < 340282366920938463463374607431768211456 := by rw [g1, Nat.add_mul] at g7; have := Nat.mul_le_mul_right (2 ^ pV f) g5; omega
  obtain ⟨p1, p2, p3, p4, _⟩ := pV_lim hf
  have KC : Box (∀ w, Calls Tryz.prog 49 #[.int .u8 f, .agg #[.int .u64 (x : Nat), .int .u64 (y : Nat)]] w fun r w' => r = .returned (.int .u8 ((kC f n : Nat) : Int)) ∧ Below w.heap.size w w') := box (fun w => rk_class f hf x y n _ hx hy hn hfit rfl w)
  have KF : Box (∀ w, Calls Tryz.prog 48 #[.int .u8 f, .agg #[.int .u64 (x : Nat), .int .u64 (y : Nat)]] w fun r w' => r = .returned (.tuple #[.bool (kN f n), .int .i64 ((kE f n : Nat) : Int), .agg (cw 6 (kT f n))]) ∧ Below w.heap.size w w') := box (fun w => rk_fields f hf x y n _ _ _ hx hy hn hfit rfl rfl rfl w)
  have KP : Box (∀ w, Calls Tryz.prog 81 #[.int .u8 f] w fun r w' => r = .returned (.int .i64 (fP f)) ∧ w' = w) := box (fun w => r_precision f _ f4.1 rfl w)
  have cl := kC_lt f n
  by_cases c1 : kC f n = 8 ∨ kC f n = 9
  · have e1 : kS f n = 0 ∧ kX f n = 0 ∧ kF f n = kT f n := by
      unfold kS kX kF
      rw [if_neg (by omega), if_neg (by omega), if_neg (by omega), if_neg (by omega), if_pos c1]
      exact ⟨rfl, rfl, rfl⟩
    rw [e1.1, e1.2.1, e1.2.2]
    exact rparts_nan f _ x y _ _ _ _ w KC KF KP c1
  by_cases c2 : kC f n = 2 ∨ kC f n = 5
  · have e1 : kS f n = kT f n ∧ kX f n = lx f ∧ kF f n = 0 := by
      unfold kS kX kF
      rw [if_pos c2, if_pos c2, if_neg c1]
      exact ⟨rfl, rfl, rfl⟩
    rw [e1.1, e1.2.1, e1.2.2]
    exact rparts_sub f _ x y _ _ _ _ (1 - fE f) _ w KC KF KP (box (fun w => (r_emin f _ _ f4.1 rfl m5 w).mono fun _ _ h => ⟨h.1, by rw [h.2]; exact Below.refl _ _⟩)) m1 m2 c2
  by_cases c3 : kC f n = 1 ∨ kC f n = 6
  · have e1 : kS f n = 2 ^ pV f + kT f n ∧ kX f n = lx f + (kE f n : Int) - 1 ∧ kF f n = 0 := by
      unfold kS kX kF
      rw [if_neg c2, if_neg c2, if_neg c1, if_pos c3, if_pos c3]
      exact ⟨rfl, rfl, rfl⟩
    rw [e1.1, e1.2.1, e1.2.2]
    have pl : 2 ^ pV f < Q := lt_Q7 (by omega)
    have sl := lt_Q7 pn
    exact rparts_norm f (fP f) x y _ _ _ _ (fE f) _ (pV f) (2 ^ pV f) _ w KC KF KP (box (fun w => rwof_any 1 (by omega) w))
      (box (fun w => rwleft_is 1 (2 ^ pV f) _ false (lt_Q7 (by omega)) (by rw [cnt_k8 (by omega), Nat.one_mul, Nat.mod_eq_of_lt pl]) (by rw [cnt_k8 (by omega), Nat.one_mul]; simp; omega) w))
      (box (fun w => rwadd_is (2 ^ pV f) (kT f n) _ false pl (lt_Q7 (by omega)) (Nat.mod_eq_of_lt sl) (by simp; omega) w))
      (box (fun w => (r_emax f _ f4.1 rfl w).mono fun _ _ h => ⟨h.1, by rw [h.2]; exact Below.refl _ _⟩)) p2 (by rw [IntKind.wrap_i64]; omega) (by rw [IntKind.wrap_i64]; omega) (by rw [IntKind.wrap_i64]; omega) c3
  · have e1 : kS f n = 0 ∧ kX f n = 0 ∧ kF f n = 0 := by
      unfold kS kX kF
      rw [if_neg c2, if_neg c2, if_neg c1, if_neg c3, if_neg c3]
      exact ⟨rfl, rfl, rfl⟩
    rw [e1.1, e1.2.1, e1.2.2]
    exact rparts_none f _ x y _ _ _ _ w KC KF KP (by omega)
end Go.Proofs.YtlpelcfaakfmiaaGreatDoor
namespace Go.Proofs.YtlpelcfaakfmiaaGreatDoor
set_option maxRecDepth 100000
set_option maxHeartbeats 40000000
set_option maxRecDepth 100000
open Go.RowKit WMath XMath
set_option linter.unusedSimpArgs false
set_option linter.unusedVariables false
theorem blen_low (n : Nat) (h : n ≠ 0) : 1 ≤ blen n ∧ 2 ^ (blen n - 1) ≤ n ∧ n < 2 ^ blen n := by
  have h1 := blen_iff n (blen n - 1)
  have h2 := (blen_iff n (blen n)).1 (Nat.le_refl _)
  have h3 := blen_iff n 0
  have h4 : 1 ≤ blen n := by
    rcases Nat.eq_zero_or_pos (blen n) with e | e
    · have := h3.1 (by omega)
      rw [Nat.pow_zero] at this
      omega
    · exact e
  exact ⟨h4, by omega, h2⟩
theorem blen_one : blen 1 = 1 := by decide
theorem top_whole (b : Bool) (n : Nat) (e : Int) (h : n ≠ 0) : topX ⟨b, n, 1, e⟩ = (blen n : Int) - 1 + e := by
  obtain ⟨h1, h2, h3⟩ := blen_low n h
  unfold topX tA tB lenD
  simp only [blen_one]
  have e1 : (max (-((blen n : Int) - ((1 : Nat) : Int))) 0).toNat = 0 := by omega
  have e2 : (max ((blen n : Int) - ((1 : Nat) : Int)) 0).toNat = blen n - 1 := by omega
  rw [e1, e2, Nat.pow_zero, Nat.mul_one, Nat.one_mul, if_neg (by omega)]
  omega
def ofA (f : Int) (x : XN) : Int := max (topX x) (1 - fE f) - (pV f : Int)
def ofX (f : Int) (x : XN) : Nat × Bool :=
  if x.n = 0 then (0, true)
  else if fE f < topX x then (0, false)
  else if (flX x (ofA f x)).1.2 = true then (sgB f (fb f (flX x (ofA f x)).1.1 (ofA f x)) x.b, true) else (0, false)
theorem fl_yes (x : XN) (a : Int) (n0 : x.n ≠ 0) (hd : x.d = 1) (h : a ≤ x.e) (h1 : -2097152 ≤ a) (h2 : a ≤ 2097152) (hl : nl (x.n * 2 ^ (x.e - a).toNat) ≤ 16384) : flX x a = ((x.n * 2 ^ (x.e - a).toNat, true), 0) := by
  unfold flX
  rw [if_neg (by omega), if_neg n0, if_pos h, if_pos hl, hd, Nat.div_one, Nat.mod_one]
  rfl
theorem nm8 {f : Int} (hf : Is4 f) : fE f - (pV f : Int) - lx f + 1 = ((oV f - 1 : Nat) : Int) ∧ 1 ≤ oV f ∧ lx f = 1 - fE f - (pV f : Int) ∧ pV f < 128 ∧ fE f ≤ 16383 ∧ 0 ≤ fE f := by
  rcases hf with rfl | rfl | rfl | rfl <;> decide +kernel
theorem of_yes {f : Int} (hf : Is4 f) (b : Bool) (n : Nat) (e : Int) (n0 : n ≠ 0) (ht : topX ⟨b, n, 1, e⟩ ≤ fE f) (ha : ofA f ⟨b, n, 1, e⟩ ≤ e) :
    ∃ m k t, m = n * 2 ^ (e - ofA f ⟨b, n, 1, e⟩).toNat ∧ k < oV f ∧ t < 2 ^ pV f ∧ ofX f ⟨b, n, 1, e⟩ = (enc7 f b k t, true) ∧ ((k = 0 ∧ m = t ∧ ofA f ⟨b, n, 1, e⟩ = lx f) ∨ (1 ≤ k ∧ m = 2 ^ pV f + t ∧ ofA f ⟨b, n, 1, e⟩ = lx f + (k : Int) - 1)) := by
  obtain ⟨g1, g2, g3, g4, g5, g6, g7⟩ := fm hf
  obtain ⟨n1, n2, n3, n4, n5, n6⟩ := nm8 hf
  obtain ⟨l1, l2, l3⟩ := blen_low n n0
  have tw := top_whole b n e n0
  obtain ⟨a, hA⟩ : ∃ a, ofA f ⟨b, n, 1, e⟩ = a := ⟨_, rfl⟩
  have hA2 := hA
  unfold ofA at hA2
  rw [hA] at ha ⊢
  rw [tw] at ht hA2
  obtain ⟨j, hj⟩ : ∃ j : Nat, (e - a).toNat = j := ⟨_, rfl⟩
  have hje : e = a + (j : Int) := by omega
  obtain ⟨m, hm⟩ : ∃ m, n * 2 ^ j = m := ⟨_, rfl⟩
  have m1 : 2 ^ (blen n - 1 + j) ≤ m := by rw [← hm, Nat.pow_add]; exact Nat.mul_le_mul_right _ l2
  have m2 : m < 2 ^ (blen n + j) := by rw [← hm, Nat.pow_add]; exact Nat.mul_lt_mul_of_pos_right l3 (Nat.two_pow_pos _)
  have lj : blen n + j ≤ pV f + 1 := by omega
  have m3 : m < 2 * 2 ^ pV f := by
    have := Nat.pow_le_pow_right (show 0 < 2 by decide) lj
    rw [Nat.pow_succ] at this
    omega
  have hl : nl m ≤ 16384 := nl_pow m (pV f + 1) (by rw [Nat.pow_succ]; omega) (by omega)
  obtain ⟨k, hk⟩ : ∃ k : Nat, a = lx f + (k : Int) := ⟨(a - lx f).toNat, by omega⟩
  have hk2 : k + 2 ≤ oV f := by omega
  have hb0 : (k + 2) * 2 ^ pV f ≤ oV f * 2 ^ pV f := Nat.mul_le_mul_right _ hk2
  have hb1 : k * 2 ^ pV f + m < 2 ^ wV f := by
    rw [g1, Nat.add_mul, Nat.one_mul]
    rw [Nat.add_mul] at hb0
    omega
  have hfb : fb f m a = k * 2 ^ pV f + m := by rw [hk]; exact fb_is hf k m (by omega) hb1
  have hof : ofX f ⟨b, n, 1, e⟩ = (sgB f (k * 2 ^ pV f + m) b, true) := by
    unfold ofX
    rw [hA, fl_yes ⟨b, n, 1, e⟩ a n0 rfl ha (by omega) (by omega) (by show nl (n * 2 ^ (e - a).toNat) ≤ 16384; rw [hj, hm]; exact hl)]
    simp only []
    rw [if_neg n0, if_neg (by rw [tw]; omega), if_pos trivial, hj, hm, hfb]
  rw [hj, hm]
  by_cases hs : m < 2 ^ pV f
  · have hk0 : k = 0 := by
      have : blen n - 1 + j < pV f := by
        rcases Nat.lt_or_ge (blen n - 1 + j) (pV f) with q | q
        · exact q
        · have := Nat.pow_le_pow_right (show 0 < 2 by decide) q
          omega
      omega
    subst hk0
    refine ⟨m, 0, m, rfl, by omega, hs, ?_, Or.inl ⟨rfl, rfl, by omega⟩⟩
    rw [hof, sgB_low hb1]
    unfold enc7
    rfl
  · have e1 : k * 2 ^ pV f + m = (k + 1) * 2 ^ pV f + (m - 2 ^ pV f) := by rw [Nat.add_mul]; omega
    refine ⟨m, k + 1, m - 2 ^ pV f, rfl, by omega, by omega, ?_, Or.inr ⟨by omega, by omega, by omega⟩⟩
    rw [hof, sgB_low hb1, e1]
    unfold enc7
    rfl
theorem blen_is (n k : Nat) (h1 : 2 ^ k ≤ n) (h2 : n < 2 ^ (k + 1)) : blen n = k + 1 := by
  have a := (blen_iff n (k + 1)).2 h2
  have b := blen_iff n k
  omega
theorem blen_shift (n k : Nat) (h : n ≠ 0) : blen (n * 2 ^ k) = blen n + k := by
  obtain ⟨l1, l2, l3⟩ := blen_low n h
  have := blen_is (n * 2 ^ k) (blen n - 1 + k) (by rw [Nat.pow_add]; exact Nat.mul_le_mul_right _ l2) (by
    rw [show blen n - 1 + k + 1 = blen n + k by omega, Nat.pow_add]
    exact Nat.mul_lt_mul_of_pos_right l3 (Nat.two_pow_pos _))
  omega
theorem mk_whole (neg : Bool) (s : Nat) (x : Int) (s0 : s ≠ 0) (h1 : -1048576 ≤ x) (h2 : x + (tz s : Int) ≤ 1048576) : mk neg s 1 x = (⟨neg, od s, 1, x + (tz s : Int)⟩, 0) := by
  have o1 : od 1 = 1 := od_odd 1 rfl
  have t1 : tz 1 = 0 := tz_odd 1 rfl
  unfold mk
  rw [if_neg s0, o1, t1, Nat.gcd_one_right, Nat.div_one, Nat.div_one]
  rw [if_pos (by omega)]
  congr 2
  omega
def sV (f : Int) (e t : Nat) : Nat := if e = 0 then t else 2 ^ pV f + t
def xV (f : Int) (e : Nat) : Int := if e = 0 then lx f else lx f + (e : Int) - 1
theorem val_of {f : Int} (hf : Is4 f) (neg : Bool) (e t : Nat) (he : e < oV f) (ht : t < 2 ^ pV f) (nz : sV f e t ≠ 0) :
    mk neg (sV f e t) 1 (xV f e) = (⟨neg, od (sV f e t), 1, xV f e + (tz (sV f e t) : Int)⟩, 0) ∧ ofX f ⟨neg, od (sV f e t), 1, xV f e + (tz (sV f e t) : Int)⟩ = (enc7 f neg e t, true) ∧ ofA f ⟨neg, od (sV f e t), 1, xV f e + (tz (sV f e t) : Int)⟩ = xV f e := by
  obtain ⟨n1, n2, n3, n4, n5, n6⟩ := nm8 hf
  have oe : (oV f : Int) = 2 * fE f + 1 := by unfold oV; omega
  obtain ⟨s, hs⟩ : ∃ s, sV f e t = s := ⟨_, rfl⟩
  obtain ⟨x, hx⟩ : ∃ x, xV f e = x := ⟨_, rfl⟩
  rw [hs] at nz
  rw [hs, hx]
  obtain ⟨o1, o2⟩ := od_is s nz
  have od0 : od s ≠ 0 := by omega
  have bs : blen s = blen (od s) + tz s := by
    have := blen_shift (od s) (tz s) od0
    rw [← o1] at this
    exact this
  have tw := top_whole neg (od s) (x + (tz s : Int)) od0
  have tz1 := tz_blen s
  unfold sV at hs
  unfold xV at hx
  have sl : s < 2 * 2 ^ pV f := by split at hs <;> omega
  have bl : blen s ≤ pV f + 1 := (blen_iff s _).2 (by rw [Nat.pow_succ]; omega)
  have A : ofA f ⟨neg, od s, 1, x + (tz s : Int)⟩ = x ∧ topX ⟨neg, od s, 1, x + (tz s : Int)⟩ ≤ fE f := by
    unfold ofA
    rw [tw]
    by_cases e0 : e = 0
    · rw [if_pos e0] at hs hx
      have : blen s ≤ pV f := (blen_iff s _).2 (by omega)
      omega
    · rw [if_neg e0] at hs hx
      have : blen s = pV f + 1 := blen_is s (pV f) (by omega) (by rw [Nat.pow_succ]; omega)
      omega
  have xl : -20000 ≤ x ∧ x ≤ 20000 := by split at hx <;> omega
  refine ⟨mk_whole neg s x nz (by omega) (by omega), ?_, A.1⟩
  obtain ⟨m, k, t', h1, h2, h3, h4, h5⟩ := of_yes hf neg (od s) (x + (tz s : Int)) od0 A.2 (by rw [A.1]; omega)
  rw [A.1, show (x + (tz s : Int) - x).toNat = tz s by omega, ← o1] at h1
  rw [A.1] at h5
  rw [h4]
  by_cases e0 : e = 0
  · rw [if_pos e0] at hs hx
    rcases h5 with ⟨q1, q2, q3⟩ | ⟨q1, q2, q3⟩
    · rw [q1, e0, show t' = t by omega]
    · omega
  · rw [if_neg e0] at hs hx
    rcases h5 with ⟨q1, q2, q3⟩ | ⟨q1, q2, q3⟩
    · omega
    · rw [show k = e by omega, show t' = t by omega]
end Go.Proofs.YtlpelcfaakfmiaaGreatDoor
namespace Go.Proofs.YtlpelcfaakfmiaaGreatDoor
set_option maxRecDepth 100000
set_option maxHeartbeats 40000000
set_option maxRecDepth 100000
open Go.RowKit WMath
set_option linter.unusedSimpArgs false
set_option linter.unusedVariables false
theorem gen_abacusref08_Value_7 {X : Act → World → Prop} {R : World → Nat → Prop} {t0 t1 t2 t3 t4 t5 t6 t8 t9 t10 t11 t12 t13 t14 t15 t16 t17 t18 t19 t20 t21 t22 t23 t24 t25 t26 t27 t28 t29 t30 t31 t32 : Value} {d : List Deferred} {W : World} {G : Nat}
    (key : ∀ w5 g, R w5 g → X ⟨#[t0, t1, t2, t3, t4, t5, t6, .pointer (some ⟨g, 0, none⟩), t8, t9, t10, t11, t12, t13, t14, t15, t16, t17, t18, t19, t20, t21, t22, t23, t24, t25, t26, t27, t28, t29, t30, t31, t32], d⟩ w5) (r : R W G) : X ⟨#[t0, t1, t2, t3, t4, t5, t6, .pointer (some ⟨G, 0, none⟩), t8, t9, t10, t11, t12, t13, t14, t15, t16, t17, t18, t19, t20, t21, t22, t23, t24, t25, t26, t27, t28, t29, t30, t31, t32], d⟩ W := key W G r

set_option maxRecDepth 100000 in
set_option maxHeartbeats 2000000 in
theorem rvalue_yes (f : Int) (x y c s rr : Nat) (X : Int) (neg : Bool) (sg : ByteArray) (rb : Bool) (u v : ByteArray) (re err : Int) (w : World)
    (KU : Box (∀ w, Calls Tryz.prog 84 #[.int .u8 f, .agg #[.int .u64 (x : Nat), .int .u64 (y : Nat)]] w fun r w' => r = .returned (.agg (pt c s X rr)) ∧ Below w.heap.size w w'))
    (KS : Box (∀ w, Calls Tryz.prog 22 #[.int .u8 f, .agg #[.int .u64 (x : Nat), .int .u64 (y : Nat)]] w fun r w' => r = .returned (.bool neg) ∧ Below w.heap.size w w'))
    (KN : Box (∀ w, Calls Tryz.prog 86 #[.agg (cw 6 s)] w fun r w' => r = .returned (.string sg) ∧ Below w.heap.size w w'))
    (KM : Box (∀ w, Calls Tryz.prog 85 #[.bool neg, .string sg, .string ⟨#[1]⟩, .int .i64 X] w fun r w' => r = .returned (.tuple #[.agg #[.bool rb, .string u, .string v, .int .i64 re], .int .i64 err]) ∧ Below w.heap.size w w'))
    (h8 : ((c : Int) == 8) = false) (h9 : ((c : Int) == 9) = false) (h0 : ((c : Int) == 0) = false) (h7 : ((c : Int) == 7) = false) : Calls Tryz.prog 50 #[.int .u8 f, .agg #[.int .u64 (x : Nat), .int .u64 (y : Nat)]] w fun r w' => r = .returned (.tuple #[.agg #[.bool rb, .string u, .string v, .int .i64 re], .int .i64 0]) ∧ Below w.heap.size w w' := by
  have hat := cw_at 6
  have hz := cw6z
  have hff := cw6f
  have hs0 := st0
  have hcs : ∀ x, ((cw 6 x).size = 6) = True := fun x => eq_true (cw_size 6 x)
  have hp1 := ptf
  have hp3 := ptz
  have hp4 := st_p0
  have hp5 : ∀ (c s : Nat) (x : Int) (r : Nat), ((pt c s x r).size = 14) = True := fun _ _ _ _ => eq_true rfl
  obtain ⟨Rb_0, Rz_0, B0⟩ := opn2 w (Obj.cells #[.int .u64 (x : Nat), .int .u64 (y : Nat)] 27) (Obj.cells #[.bool false, .string ⟨#[]⟩, .string ⟨#[]⟩, .int .i64 0] 89)
  go_enter Tryz.func50, Tryz.ntmps50
  go_wp2_with fail
  refine (KU.out _).mono ?_
  rintro r w1 ⟨rfl, b1⟩
  have B1 : Below w.heap.size w w1 := btr B0 b1
  have Rb_1 := heap_of b1 _ _ _ Rb_0
  have Rz_1 := heap_of b1 _ _ _ Rz_0
  clear b1 B0 Rb_0 Rz_0
  obtain ⟨cb_1_0, cb_1_1⟩ := cells2s Rb_1
  obtain ⟨cz_1_0, cz_1_1, cz_1_2, cz_1_3⟩ := cells4s Rz_1
  have S2 := box B1.size
  have Lb_2 : Box (w.heap.size < w1.heap.size) := box (Array.getElem?_eq_some_iff.1 Rb_1).1
  have Lz_2 : Box (w.heap.size + 1 < w1.heap.size) := box (Array.getElem?_eq_some_iff.1 Rz_1).1
  have Rp_2 := heap_alloc_last w1 (Obj.cells (pt c s X rr) 64)
  have B2 := btr B1 (bal w1 (Obj.cells (pt c s X rr) 64))
  have Rb_2 := heap_of (bal w1 (Obj.cells (pt c s X rr) 64)) _ _ _ Rb_1
  have Rz_2 := heap_of (bal w1 (Obj.cells (pt c s X rr) 64)) _ _ _ Rz_1
  clear B1 Rb_1 cb_1_0 cb_1_1 Rz_1 cz_1_0 cz_1_1 cz_1_2 cz_1_3
  obtain ⟨cb_2_0, cb_2_1⟩ := cells2s Rb_2
  obtain ⟨cz_2_0, cz_2_1, cz_2_2, cz_2_3⟩ := cells4s Rz_2
  obtain ⟨cp_2_0, cp_2_1, cp_2_2, cp_2_3, cp_2_4, cp_2_5, cp_2_6, cp_2_7, cp_2_8, cp_2_9, cp_2_10, cp_2_11, cp_2_12, cp_2_13⟩ := pt_cells Rp_2
  go_wp2_with fail
  have sS : Box (∀ W W1 : World, (Below w.heap.size w W ∧ W.heap[w.heap.size]? = some (Obj.cells #[.int .u64 (x : Nat), .int .u64 (y : Nat)] 27) ∧ W.heap[w.heap.size + 1]? = some (Obj.cells #[.bool false, .string ⟨#[]⟩, .string ⟨#[]⟩, .int .i64 0] 89) ∧ W.heap[w1.heap.size]? = some (Obj.cells (pt c s X rr) 64) ∧ W.cell? ⟨w.heap.size, 0, none⟩ = some (.int .u64 (x : Nat)) ∧ W.cell? ⟨w.heap.size, 1, none⟩ = some (.int .u64 (y : Nat)) ∧ W.cell? ⟨w.heap.size + 1, 0, none⟩ = some (.bool false) ∧ W.cell? ⟨w.heap.size + 1, 1, none⟩ = some (.string ⟨#[]⟩) ∧ W.cell? ⟨w.heap.size + 1, 2, none⟩ = some (.string ⟨#[]⟩) ∧ W.cell? ⟨w.heap.size + 1, 3, none⟩ = some (.int .i64 0) ∧ W.cell? ⟨w1.heap.size, 0, none⟩ = some (.int .u8 (c : Nat)) ∧ W.cell? ⟨w1.heap.size, 1, none⟩ = some (.int .u64 ((wd s 0 : Nat) : Int)) ∧ W.cell? ⟨w1.heap.size, 2, none⟩ = some (.int .u64 ((wd s 1 : Nat) : Int)) ∧ W.cell? ⟨w1.heap.size, 3, none⟩ = some (.int .u64 ((wd s 2 : Nat) : Int)) ∧ W.cell? ⟨w1.heap.size, 4, none⟩ = some (.int .u64 ((wd s 3 : Nat) : Int)) ∧ W.cell? ⟨w1.heap.size, 5, none⟩ = some (.int .u64 ((wd s 4 : Nat) : Int)) ∧ W.cell? ⟨w1.heap.size, 6, none⟩ = some (.int .u64 ((wd s 5 : Nat) : Int)) ∧ W.cell? ⟨w1.heap.size, 7, none⟩ = some (.int .i64 X) ∧ W.cell? ⟨w1.heap.size, 8, none⟩ = some (.int .u64 ((wd rr 0 : Nat) : Int)) ∧ W.cell? ⟨w1.heap.size, 9, none⟩ = some (.int .u64 ((wd rr 1 : Nat) : Int)) ∧ W.cell? ⟨w1.heap.size, 10, none⟩ = some (.int .u64 ((wd rr 2 : Nat) : Int)) ∧ W.cell? ⟨w1.heap.size, 11, none⟩ = some (.int .u64 ((wd rr 3 : Nat) : Int)) ∧ W.cell? ⟨w1.heap.size, 12, none⟩ = some (.int .u64 ((wd rr 4 : Nat) : Int)) ∧ W.cell? ⟨w1.heap.size, 13, none⟩ = some (.int .u64 ((wd rr 5 : Nat) : Int))) → Below W.heap.size W W1 → (Below w.heap.size w W1 ∧ W1.heap[w.heap.size]? = some (Obj.cells #[.int .u64 (x : Nat), .int .u64 (y : Nat)] 27) ∧ W1.heap[w.heap.size + 1]? = some (Obj.cells #[.bool false, .string ⟨#[]⟩, .string ⟨#[]⟩, .int .i64 0] 89) ∧ W1.heap[w1.heap.size]? = some (Obj.cells (pt c s X rr) 64) ∧ W1.cell? ⟨w.heap.size, 0, none⟩ = some (.int .u64 (x : Nat)) ∧ W1.cell? ⟨w.heap.size, 1, none⟩ = some (.int .u64 (y : Nat)) ∧ W1.cell? ⟨w.heap.size + 1, 0, none⟩ = some (.bool false) ∧ W1.cell? ⟨w.heap.size + 1, 1, none⟩ = some (.string ⟨#[]⟩) ∧ W1.cell? ⟨w.heap.size + 1, 2, none⟩ = some (.string ⟨#[]⟩) ∧ W1.cell? ⟨w.heap.size + 1, 3, none⟩ = some (.int .i64 0) ∧ W1.cell? ⟨w1.heap.size, 0, none⟩ = some (.int .u8 (c : Nat)) ∧ W1.cell? ⟨w1.heap.size, 1, none⟩ = some (.int .u64 ((wd s 0 : Nat) : Int)) ∧ W1.cell? ⟨w1.heap.size, 2, none⟩ = some (.int .u64 ((wd s 1 : Nat) : Int)) ∧ W1.cell? ⟨w1.heap.size, 3, none⟩ = some (.int .u64 ((wd s 2 : Nat) : Int)) ∧ W1.cell? ⟨w1.heap.size, 4, none⟩ = some (.int .u64 ((wd s 3 : Nat) : Int)) ∧ W1.cell? ⟨w1.heap.size, 5, none⟩ = some (.int .u64 ((wd s 4 : Nat) : Int)) ∧ W1.cell? ⟨w1.heap.size, 6, none⟩ = some (.int .u64 ((wd s 5 : Nat) : Int)) ∧ W1.cell? ⟨w1.heap.size, 7, none⟩ = some (.int .i64 X) ∧ W1.cell? ⟨w1.heap.size, 8, none⟩ = some (.int .u64 ((wd rr 0 : Nat) : Int)) ∧ W1.cell? ⟨w1.heap.size, 9, none⟩ = some (.int .u64 ((wd rr 1 : Nat) : Int)) ∧ W1.cell? ⟨w1.heap.size, 10, none⟩ = some (.int .u64 ((wd rr 2 : Nat) : Int)) ∧ W1.cell? ⟨w1.heap.size, 11, none⟩ = some (.int .u64 ((wd rr 3 : Nat) : Int)) ∧ W1.cell? ⟨w1.heap.size, 12, none⟩ = some (.int .u64 ((wd rr 4 : Nat) : Int)) ∧ W1.cell? ⟨w1.heap.size, 13, none⟩ = some (.int .u64 ((wd rr 5 : Nat) : Int)))) := box (fun W W1 h b => ⟨btr h.1 b, heap_of b _ _ _ h.2.1, heap_of b _ _ _ h.2.2.1, heap_of b _ _ _ h.2.2.2.1, cell7 (heap_of b _ _ _ h.2.1) 0 _ rfl, cell7 (heap_of b _ _ _ h.2.1) 1 _ rfl, cell7 (heap_of b _ _ _ h.2.2.1) 0 _ rfl, cell7 (heap_of b _ _ _ h.2.2.1) 1 _ rfl, cell7 (heap_of b _ _ _ h.2.2.1) 2 _ rfl, cell7 (heap_of b _ _ _ h.2.2.1) 3 _ rfl, cell7 (heap_of b _ _ _ h.2.2.2.1) 0 _ rfl, cell7 (heap_of b _ _ _ h.2.2.2.1) 1 _ rfl, cell7 (heap_of b _ _ _ h.2.2.2.1) 2 _ rfl, cell7 (heap_of b _ _ _ h.2.2.2.1) 3 _ rfl, cell7 (heap_of b _ _ _ h.2.2.2.1) 4 _ rfl, cell7 (heap_of b _ _ _ h.2.2.2.1) 5 _ rfl, cell7 (heap_of b _ _ _ h.2.2.2.1) 6 _ rfl, cell7 (heap_of b _ _ _ h.2.2.2.1) 7 _ rfl, cell7 (heap_of b _ _ _ h.2.2.2.1) 8 _ rfl, cell7 (heap_of b _ _ _ h.2.2.2.1) 9 _ rfl, cell7 (heap_of b _ _ _ h.2.2.2.1) 10 _ rfl, cell7 (heap_of b _ _ _ h.2.2.2.1) 11 _ rfl, cell7 (heap_of b _ _ _ h.2.2.2.1) 12 _ rfl, cell7 (heap_of b _ _ _ h.2.2.2.1) 13 _ rfl⟩)
  have sL : Box (∀ W : World, (Below w.heap.size w W ∧ W.heap[w.heap.size]? = some (Obj.cells #[.int .u64 (x : Nat), .int .u64 (y : Nat)] 27) ∧ W.heap[w.heap.size + 1]? = some (Obj.cells #[.bool false, .string ⟨#[]⟩, .string ⟨#[]⟩, .int .i64 0] 89) ∧ W.heap[w1.heap.size]? = some (Obj.cells (pt c s X rr) 64) ∧ W.cell? ⟨w.heap.size, 0, none⟩ = some (.int .u64 (x : Nat)) ∧ W.cell? ⟨w.heap.size, 1, none⟩ = some (.int .u64 (y : Nat)) ∧ W.cell? ⟨w.heap.size + 1, 0, none⟩ = some (.bool false) ∧ W.cell? ⟨w.heap.size + 1, 1, none⟩ = some (.string ⟨#[]⟩) ∧ W.cell? ⟨w.heap.size + 1, 2, none⟩ = some (.string ⟨#[]⟩) ∧ W.cell? ⟨w.heap.size + 1, 3, none⟩ = some (.int .i64 0) ∧ W.cell? ⟨w1.heap.size, 0, none⟩ = some (.int .u8 (c : Nat)) ∧ W.cell? ⟨w1.heap.size, 1, none⟩ = some (.int .u64 ((wd s 0 : Nat) : Int)) ∧ W.cell? ⟨w1.heap.size, 2, none⟩ = some (.int .u64 ((wd s 1 : Nat) : Int)) ∧ W.cell? ⟨w1.heap.size, 3, none⟩ = some (.int .u64 ((wd s 2 : Nat) : Int)) ∧ W.cell? ⟨w1.heap.size, 4, none⟩ = some (.int .u64 ((wd s 3 : Nat) : Int)) ∧ W.cell? ⟨w1.heap.size, 5, none⟩ = some (.int .u64 ((wd s 4 : Nat) : Int)) ∧ W.cell? ⟨w1.heap.size, 6, none⟩ = some (.int .u64 ((wd s 5 : Nat) : Int)) ∧ W.cell? ⟨w1.heap.size, 7, none⟩ = some (.int .i64 X) ∧ W.cell? ⟨w1.heap.size, 8, none⟩ = some (.int .u64 ((wd rr 0 : Nat) : Int)) ∧ W.cell? ⟨w1.heap.size, 9, none⟩ = some (.int .u64 ((wd rr 1 : Nat) : Int)) ∧ W.cell? ⟨w1.heap.size, 10, none⟩ = some (.int .u64 ((wd rr 2 : Nat) : Int)) ∧ W.cell? ⟨w1.heap.size, 11, none⟩ = some (.int .u64 ((wd rr 3 : Nat) : Int)) ∧ W.cell? ⟨w1.heap.size, 12, none⟩ = some (.int .u64 ((wd rr 4 : Nat) : Int)) ∧ W.cell? ⟨w1.heap.size, 13, none⟩ = some (.int .u64 ((wd rr 5 : Nat) : Int))) → (w.heap.size < W.heap.size ∧ w.heap.size + 1 < W.heap.size ∧ w1.heap.size < W.heap.size)) := box (fun W h => ⟨(Array.getElem?_eq_some_iff.1 h.2.1).1, (Array.getElem?_eq_some_iff.1 h.2.2.1).1, (Array.getElem?_eq_some_iff.1 h.2.2.2.1).1⟩)
  have sT : Box (∀ (W : World) (gN : Nat) (xA xB xC xD : Value), (Below w.heap.size w W ∧ W.heap[w.heap.size]? = some (Obj.cells #[.int .u64 (x : Nat), .int .u64 (y : Nat)] 27) ∧ W.heap[w.heap.size + 1]? = some (Obj.cells #[.bool false, .string ⟨#[]⟩, .string ⟨#[]⟩, .int .i64 0] 89) ∧ W.heap[w1.heap.size]? = some (Obj.cells (pt c s X rr) 64) ∧ W.cell? ⟨w.heap.size, 0, none⟩ = some (.int .u64 (x : Nat)) ∧ W.cell? ⟨w.heap.size, 1, none⟩ = some (.int .u64 (y : Nat)) ∧ W.cell? ⟨w.heap.size + 1, 0, none⟩ = some (.bool false) ∧ W.cell? ⟨w.heap.size + 1, 1, none⟩ = some (.string ⟨#[]⟩) ∧ W.cell? ⟨w.heap.size + 1, 2, none⟩ = some (.string ⟨#[]⟩) ∧ W.cell? ⟨w.heap.size + 1, 3, none⟩ = some (.int .i64 0) ∧ W.cell? ⟨w1.heap.size, 0, none⟩ = some (.int .u8 (c : Nat)) ∧ W.cell? ⟨w1.heap.size, 1, none⟩ = some (.int .u64 ((wd s 0 : Nat) : Int)) ∧ W.cell? ⟨w1.heap.size, 2, none⟩ = some (.int .u64 ((wd s 1 : Nat) : Int)) ∧ W.cell? ⟨w1.heap.size, 3, none⟩ = some (.int .u64 ((wd s 2 : Nat) : Int)) ∧ W.cell? ⟨w1.heap.size, 4, none⟩ = some (.int .u64 ((wd s 3 : Nat) : Int)) ∧ W.cell? ⟨w1.heap.size, 5, none⟩ = some (.int .u64 ((wd s 4 : Nat) : Int)) ∧ W.cell? ⟨w1.heap.size, 6, none⟩ = some (.int .u64 ((wd s 5 : Nat) : Int)) ∧ W.cell? ⟨w1.heap.size, 7, none⟩ = some (.int .i64 X) ∧ W.cell? ⟨w1.heap.size, 8, none⟩ = some (.int .u64 ((wd rr 0 : Nat) : Int)) ∧ W.cell? ⟨w1.heap.size, 9, none⟩ = some (.int .u64 ((wd rr 1 : Nat) : Int)) ∧ W.cell? ⟨w1.heap.size, 10, none⟩ = some (.int .u64 ((wd rr 2 : Nat) : Int)) ∧ W.cell? ⟨w1.heap.size, 11, none⟩ = some (.int .u64 ((wd rr 3 : Nat) : Int)) ∧ W.cell? ⟨w1.heap.size, 12, none⟩ = some (.int .u64 ((wd rr 4 : Nat) : Int)) ∧ W.cell? ⟨w1.heap.size, 13, none⟩ = some (.int .u64 ((wd rr 5 : Nat) : Int))) → (w.heap.size < gN ∧ w.heap.size + 1 < gN ∧ w1.heap.size < gN) → (Below w.heap.size w ((((W.setCell ⟨gN, 0, none⟩ xA).setCell ⟨gN, 1, none⟩ xB).setCell ⟨gN, 2, none⟩ xC).setCell ⟨gN, 3, none⟩ xD) ∧ ((((W.setCell ⟨gN, 0, none⟩ xA).setCell ⟨gN, 1, none⟩ xB).setCell ⟨gN, 2, none⟩ xC).setCell ⟨gN, 3, none⟩ xD).heap[w.heap.size]? = some (Obj.cells #[.int .u64 (x : Nat), .int .u64 (y : Nat)] 27) ∧ ((((W.setCell ⟨gN, 0, none⟩ xA).setCell ⟨gN, 1, none⟩ xB).setCell ⟨gN, 2, none⟩ xC).setCell ⟨gN, 3, none⟩ xD).heap[w.heap.size + 1]? = some (Obj.cells #[.bool false, .string ⟨#[]⟩, .string ⟨#[]⟩, .int .i64 0] 89) ∧ ((((W.setCell ⟨gN, 0, none⟩ xA).setCell ⟨gN, 1, none⟩ xB).setCell ⟨gN, 2, none⟩ xC).setCell ⟨gN, 3, none⟩ xD).heap[w1.heap.size]? = some (Obj.cells (pt c s X rr) 64) ∧ ((((W.setCell ⟨gN, 0, none⟩ xA).setCell ⟨gN, 1, none⟩ xB).setCell ⟨gN, 2, none⟩ xC).setCell ⟨gN, 3, none⟩ xD).cell? ⟨w.heap.size, 0, none⟩ = some (.int .u64 (x : Nat)) ∧ ((((W.setCell ⟨gN, 0, none⟩ xA).setCell ⟨gN, 1, none⟩ xB).setCell ⟨gN, 2, none⟩ xC).setCell ⟨gN, 3, none⟩ xD).cell? ⟨w.heap.size, 1, none⟩ = some (.int .u64 (y : Nat)) ∧ ((((W.setCell ⟨gN, 0, none⟩ xA).setCell ⟨gN, 1, none⟩ xB).setCell ⟨gN, 2, none⟩ xC).setCell ⟨gN, 3, none⟩ xD).cell? ⟨w.heap.size + 1, 0, none⟩ = some (.bool false) ∧ ((((W.setCell ⟨gN, 0, none⟩ xA).setCell ⟨gN, 1, none⟩ xB).setCell ⟨gN, 2, none⟩ xC).setCell ⟨gN, 3, none⟩ xD).cell? ⟨w.heap.size + 1, 1, none⟩ = some (.string ⟨#[]⟩) ∧ ((((W.setCell ⟨gN, 0, none⟩ xA).setCell ⟨gN, 1, none⟩ xB).setCell ⟨gN, 2, none⟩ xC).setCell ⟨gN, 3, none⟩ xD).cell? ⟨w.heap.size + 1, 2, none⟩ = some (.string ⟨#[]⟩) ∧ ((((W.setCell ⟨gN, 0, none⟩ xA).setCell ⟨gN, 1, none⟩ xB).setCell ⟨gN, 2, none⟩ xC).setCell ⟨gN, 3, none⟩ xD).cell? ⟨w.heap.size + 1, 3, none⟩ = some (.int .i64 0) ∧ ((((W.setCell ⟨gN, 0, none⟩ xA).setCell ⟨gN, 1, none⟩ xB).setCell ⟨gN, 2, none⟩ xC).setCell ⟨gN, 3, none⟩ xD).cell? ⟨w1.heap.size, 0, none⟩ = some (.int .u8 (c : Nat)) ∧ ((((W.setCell ⟨gN, 0, none⟩ xA).setCell ⟨gN, 1, none⟩ xB).setCell ⟨gN, 2, none⟩ xC).setCell ⟨gN, 3, none⟩ xD).cell? ⟨w1.heap.size, 1, none⟩ = some (.int .u64 ((wd s 0 : Nat) : Int)) ∧ ((((W.setCell ⟨gN, 0, none⟩ xA).setCell ⟨gN, 1, none⟩ xB).setCell ⟨gN, 2, none⟩ xC).setCell ⟨gN, 3, none⟩ xD).cell? ⟨w1.heap.size, 2, none⟩ = some (.int .u64 ((wd s 1 : Nat) : Int)) ∧ ((((W.setCell ⟨gN, 0, none⟩ xA).setCell ⟨gN, 1, none⟩ xB).setCell ⟨gN, 2, none⟩ xC).setCell ⟨gN, 3, none⟩ xD).cell? ⟨w1.heap.size, 3, none⟩ = some (.int .u64 ((wd s 2 : Nat) : Int)) ∧ ((((W.setCell ⟨gN, 0, none⟩ xA).setCell ⟨gN, 1, none⟩ xB).setCell ⟨gN, 2, none⟩ xC).setCell ⟨gN, 3, none⟩ xD).cell? ⟨w1.heap.size, 4, none⟩ = some (.int .u64 ((wd s 3 : Nat) : Int)) ∧ ((((W.setCell ⟨gN, 0, none⟩ xA).setCell ⟨gN, 1, none⟩ xB).setCell ⟨gN, 2, none⟩ xC).setCell ⟨gN, 3, none⟩ xD).cell? ⟨w1.heap.size, 5, none⟩ = some (.int .u64 ((wd s 4 : Nat) : Int)) ∧ ((((W.setCell ⟨gN, 0, none⟩ xA).setCell ⟨gN, 1, none⟩ xB).setCell ⟨gN, 2, none⟩ xC).setCell ⟨gN, 3, none⟩ xD).cell? ⟨w1.heap.size, 6, none⟩ = some (.int .u64 ((wd s 5 : Nat) : Int)) ∧ ((((W.setCell ⟨gN, 0, none⟩ xA).setCell ⟨gN, 1, none⟩ xB).setCell ⟨gN, 2, none⟩ xC).setCell ⟨gN, 3, none⟩ xD).cell? ⟨w1.heap.size, 7, none⟩ = some (.int .i64 X) ∧ ((((W.setCell ⟨gN, 0, none⟩ xA).setCell ⟨gN, 1, none⟩ xB).setCell ⟨gN, 2, none⟩ xC).setCell ⟨gN, 3, none⟩ xD).cell? ⟨w1.heap.size, 8, none⟩ = some (.int .u64 ((wd rr 0 : Nat) : Int)) ∧ ((((W.setCell ⟨gN, 0, none⟩ xA).setCell ⟨gN, 1, none⟩ xB).setCell ⟨gN, 2, none⟩ xC).setCell ⟨gN, 3, none⟩ xD).cell? ⟨w1.heap.size, 9, none⟩ = some (.int .u64 ((wd rr 1 : Nat) : Int)) ∧ ((((W.setCell ⟨gN, 0, none⟩ xA).setCell ⟨gN, 1, none⟩ xB).setCell ⟨gN, 2, none⟩ xC).setCell ⟨gN, 3, none⟩ xD).cell? ⟨w1.heap.size, 10, none⟩ = some (.int .u64 ((wd rr 2 : Nat) : Int)) ∧ ((((W.setCell ⟨gN, 0, none⟩ xA).setCell ⟨gN, 1, none⟩ xB).setCell ⟨gN, 2, none⟩ xC).setCell ⟨gN, 3, none⟩ xD).cell? ⟨w1.heap.size, 11, none⟩ = some (.int .u64 ((wd rr 3 : Nat) : Int)) ∧ ((((W.setCell ⟨gN, 0, none⟩ xA).setCell ⟨gN, 1, none⟩ xB).setCell ⟨gN, 2, none⟩ xC).setCell ⟨gN, 3, none⟩ xD).cell? ⟨w1.heap.size, 12, none⟩ = some (.int .u64 ((wd rr 4 : Nat) : Int)) ∧ ((((W.setCell ⟨gN, 0, none⟩ xA).setCell ⟨gN, 1, none⟩ xB).setCell ⟨gN, 2, none⟩ xC).setCell ⟨gN, 3, none⟩ xD).cell? ⟨w1.heap.size, 13, none⟩ = some (.int .u64 ((wd rr 5 : Nat) : Int)))) := box (fun W gN xA xB xC xD h l => ⟨set4_below h.1 (show w.heap.size ≤ gN by have := l.1; omega) _ _ _ _, (setCell_other (by have := l.1; omega)).trans ((setCell_other (by have := l.1; omega)).trans ((setCell_other (by have := l.1; omega)).trans ((setCell_other (by have := l.1; omega)).trans h.2.1))), (setCell_other (by have := l.2.1; omega)).trans ((setCell_other (by have := l.2.1; omega)).trans ((setCell_other (by have := l.2.1; omega)).trans ((setCell_other (by have := l.2.1; omega)).trans h.2.2.1))), (setCell_other (by have := l.2.2; omega)).trans ((setCell_other (by have := l.2.2; omega)).trans ((setCell_other (by have := l.2.2; omega)).trans ((setCell_other (by have := l.2.2; omega)).trans h.2.2.2.1))), cell7 ((setCell_other (by have := l.1; omega)).trans ((setCell_other (by have := l.1; omega)).trans ((setCell_other (by have := l.1; omega)).trans ((setCell_other (by have := l.1; omega)).trans h.2.1)))) 0 _ rfl, cell7 ((setCell_other (by have := l.1; omega)).trans ((setCell_other (by have := l.1; omega)).trans ((setCell_other (by have := l.1; omega)).trans ((setCell_other (by have := l.1; omega)).trans h.2.1)))) 1 _ rfl, cell7 ((setCell_other (by have := l.2.1; omega)).trans ((setCell_other (by have := l.2.1; omega)).trans ((setCell_other (by have := l.2.1; omega)).trans ((setCell_other (by have := l.2.1; omega)).trans h.2.2.1)))) 0 _ rfl, cell7 ((setCell_other (by have := l.2.1; omega)).trans ((setCell_other (by have := l.2.1; omega)).trans ((setCell_other (by have := l.2.1; omega)).trans ((setCell_other (by have := l.2.1; omega)).trans h.2.2.1)))) 1 _ rfl, cell7 ((setCell_other (by have := l.2.1; omega)).trans ((setCell_other (by have := l.2.1; omega)).trans ((setCell_other (by have := l.2.1; omega)).trans ((setCell_other (by have := l.2.1; omega)).trans h.2.2.1)))) 2 _ rfl, cell7 ((setCell_other (by have := l.2.1; omega)).trans ((setCell_other (by have := l.2.1; omega)).trans ((setCell_other (by have := l.2.1; omega)).trans ((setCell_other (by have := l.2.1; omega)).trans h.2.2.1)))) 3 _ rfl, cell7 ((setCell_other (by have := l.2.2; omega)).trans ((setCell_other (by have := l.2.2; omega)).trans ((setCell_other (by have := l.2.2; omega)).trans ((setCell_other (by have := l.2.2; omega)).trans h.2.2.2.1)))) 0 _ rfl, cell7 ((setCell_other (by have := l.2.2; omega)).trans ((setCell_other (by have := l.2.2; omega)).trans ((setCell_other (by have := l.2.2; omega)).trans ((setCell_other (by have := l.2.2; omega)).trans h.2.2.2.1)))) 1 _ rfl, cell7 ((setCell_other (by have := l.2.2; omega)).trans ((setCell_other (by have := l.2.2; omega)).trans ((setCell_other (by have := l.2.2; omega)).trans ((setCell_other (by have := l.2.2; omega)).trans h.2.2.2.1)))) 2 _ rfl, cell7 ((setCell_other (by have := l.2.2; omega)).trans ((setCell_other (by have := l.2.2; omega)).trans ((setCell_other (by have := l.2.2; omega)).trans ((setCell_other (by have := l.2.2; omega)).trans h.2.2.2.1)))) 3 _ rfl, cell7 ((setCell_other (by have := l.2.2; omega)).trans ((setCell_other (by have := l.2.2; omega)).trans ((setCell_other (by have := l.2.2; omega)).trans ((setCell_other (by have := l.2.2; omega)).trans h.2.2.2.1)))) 4 _ rfl, cell7 ((setCell_other (by have := l.2.2; omega)).trans ((setCell_other (by have := l.2.2; omega)).trans ((setCell_other (by have := l.2.2; omega)).trans ((setCell_other (by have := l.2.2; omega)).trans h.2.2.2.1)))) 5 _ rfl, cell7 ((setCell_other (by have := l.2.2; omega)).trans ((setCell_other (by have := l.2.2; omega)).trans ((setCell_other (by have := l.2.2; omega)).trans ((setCell_other (by have := l.2.2; omega)).trans h.2.2.2.1)))) 6 _ rfl, cell7 ((setCell_other (by have := l.2.2; omega)).trans ((setCell_other (by have := l.2.2; omega)).trans ((setCell_other (by have := l.2.2; omega)).trans ((setCell_other (by have := l.2.2; omega)).trans h.2.2.2.1)))) 7 _ rfl, cell7 ((setCell_other (by have := l.2.2; omega)).trans ((setCell_other (by have := l.2.2; omega)).trans ((setCell_other (by have := l.2.2; omega)).trans ((setCell_other (by have := l.2.2; omega)).trans h.2.2.2.1)))) 8 _ rfl, cell7 ((setCell_other (by have := l.2.2; omega)).trans ((setCell_other (by have := l.2.2; omega)).trans ((setCell_other (by have := l.2.2; omega)).trans ((setCell_other (by have := l.2.2; omega)).trans h.2.2.2.1)))) 9 _ rfl, cell7 ((setCell_other (by have := l.2.2; omega)).trans ((setCell_other (by have := l.2.2; omega)).trans ((setCell_other (by have := l.2.2; omega)).trans ((setCell_other (by have := l.2.2; omega)).trans h.2.2.2.1)))) 10 _ rfl, cell7 ((setCell_other (by have := l.2.2; omega)).trans ((setCell_other (by have := l.2.2; omega)).trans ((setCell_other (by have := l.2.2; omega)).trans ((setCell_other (by have := l.2.2; omega)).trans h.2.2.2.1)))) 11 _ rfl, cell7 ((setCell_other (by have := l.2.2; omega)).trans ((setCell_other (by have := l.2.2; omega)).trans ((setCell_other (by have := l.2.2; omega)).trans ((setCell_other (by have := l.2.2; omega)).trans h.2.2.2.1)))) 12 _ rfl, cell7 ((setCell_other (by have := l.2.2; omega)).trans ((setCell_other (by have := l.2.2; omega)).trans ((setCell_other (by have := l.2.2; omega)).trans ((setCell_other (by have := l.2.2; omega)).trans h.2.2.2.1)))) 13 _ rfl⟩)
  have s0 : Below w.heap.size w ((w1.alloc (Obj.cells (pt c s X rr) 64))).drew ∧ ((w1.alloc (Obj.cells (pt c s X rr) 64))).drew.heap[w.heap.size]? = some (Obj.cells #[.int .u64 (x : Nat), .int .u64 (y : Nat)] 27) ∧ ((w1.alloc (Obj.cells (pt c s X rr) 64))).drew.heap[w.heap.size + 1]? = some (Obj.cells #[.bool false, .string ⟨#[]⟩, .string ⟨#[]⟩, .int .i64 0] 89) ∧ ((w1.alloc (Obj.cells (pt c s X rr) 64))).drew.heap[w1.heap.size]? = some (Obj.cells (pt c s X rr) 64) ∧ ((w1.alloc (Obj.cells (pt c s X rr) 64))).drew.cell? ⟨w.heap.size, 0, none⟩ = some (.int .u64 (x : Nat)) ∧ ((w1.alloc (Obj.cells (pt c s X rr) 64))).drew.cell? ⟨w.heap.size, 1, none⟩ = some (.int .u64 (y : Nat)) ∧ ((w1.alloc (Obj.cells (pt c s X rr) 64))).drew.cell? ⟨w.heap.size + 1, 0, none⟩ = some (.bool false) ∧ ((w1.alloc (Obj.cells (pt c s X rr) 64))).drew.cell? ⟨w.heap.size + 1, 1, none⟩ = some (.string ⟨#[]⟩) ∧ ((w1.alloc (Obj.cells (pt c s X rr) 64))).drew.cell? ⟨w.heap.size + 1, 2, none⟩ = some (.string ⟨#[]⟩) ∧ ((w1.alloc (Obj.cells (pt c s X rr) 64))).drew.cell? ⟨w.heap.size + 1, 3, none⟩ = some (.int .i64 0) ∧ ((w1.alloc (Obj.cells (pt c s X rr) 64))).drew.cell? ⟨w1.heap.size, 0, none⟩ = some (.int .u8 (c : Nat)) ∧ ((w1.alloc (Obj.cells (pt c s X rr) 64))).drew.cell? ⟨w1.heap.size, 1, none⟩ = some (.int .u64 ((wd s 0 : Nat) : Int)) ∧ ((w1.alloc (Obj.cells (pt c s X rr) 64))).drew.cell? ⟨w1.heap.size, 2, none⟩ = some (.int .u64 ((wd s 1 : Nat) : Int)) ∧ ((w1.alloc (Obj.cells (pt c s X rr) 64))).drew.cell? ⟨w1.heap.size, 3, none⟩ = some (.int .u64 ((wd s 2 : Nat) : Int)) ∧ ((w1.alloc (Obj.cells (pt c s X rr) 64))).drew.cell? ⟨w1.heap.size, 4, none⟩ = some (.int .u64 ((wd s 3 : Nat) : Int)) ∧ ((w1.alloc (Obj.cells (pt c s X rr) 64))).drew.cell? ⟨w1.heap.size, 5, none⟩ = some (.int .u64 ((wd s 4 : Nat) : Int)) ∧ ((w1.alloc (Obj.cells (pt c s X rr) 64))).drew.cell? ⟨w1.heap.size, 6, none⟩ = some (.int .u64 ((wd s 5 : Nat) : Int)) ∧ ((w1.alloc (Obj.cells (pt c s X rr) 64))).drew.cell? ⟨w1.heap.size, 7, none⟩ = some (.int .i64 X) ∧ ((w1.alloc (Obj.cells (pt c s X rr) 64))).drew.cell? ⟨w1.heap.size, 8, none⟩ = some (.int .u64 ((wd rr 0 : Nat) : Int)) ∧ ((w1.alloc (Obj.cells (pt c s X rr) 64))).drew.cell? ⟨w1.heap.size, 9, none⟩ = some (.int .u64 ((wd rr 1 : Nat) : Int)) ∧ ((w1.alloc (Obj.cells (pt c s X rr) 64))).drew.cell? ⟨w1.heap.size, 10, none⟩ = some (.int .u64 ((wd rr 2 : Nat) : Int)) ∧ ((w1.alloc (Obj.cells (pt c s X rr) 64))).drew.cell? ⟨w1.heap.size, 11, none⟩ = some (.int .u64 ((wd rr 3 : Nat) : Int)) ∧ ((w1.alloc (Obj.cells (pt c s X rr) 64))).drew.cell? ⟨w1.heap.size, 12, none⟩ = some (.int .u64 ((wd rr 4 : Nat) : Int)) ∧ ((w1.alloc (Obj.cells (pt c s X rr) 64))).drew.cell? ⟨w1.heap.size, 13, none⟩ = some (.int .u64 ((wd rr 5 : Nat) : Int)) := ⟨B2.drew, Rb_2, Rz_2, Rp_2, cell7 (Rb_2) 0 _ rfl, cell7 (Rb_2) 1 _ rfl, cell7 (Rz_2) 0 _ rfl, cell7 (Rz_2) 1 _ rfl, cell7 (Rz_2) 2 _ rfl, cell7 (Rz_2) 3 _ rfl, cell7 (Rp_2) 0 _ rfl, cell7 (Rp_2) 1 _ rfl, cell7 (Rp_2) 2 _ rfl, cell7 (Rp_2) 3 _ rfl, cell7 (Rp_2) 4 _ rfl, cell7 (Rp_2) 5 _ rfl, cell7 (Rp_2) 6 _ rfl, cell7 (Rp_2) 7 _ rfl, cell7 (Rp_2) 8 _ rfl, cell7 (Rp_2) 9 _ rfl, cell7 (Rp_2) 10 _ rfl, cell7 (Rp_2) 11 _ rfl, cell7 (Rp_2) 12 _ rfl, cell7 (Rp_2) 13 _ rfl⟩
  clear B2 Rb_2 cb_2_0 cb_2_1 Rz_2 cz_2_0 cz_2_1 cz_2_2 cz_2_3 Rp_2 cp_2_0 cp_2_1 cp_2_2 cp_2_3 cp_2_4 cp_2_5 cp_2_6 cp_2_7 cp_2_8 cp_2_9 cp_2_10 cp_2_11 cp_2_12 cp_2_13
  go_wp2_with fail
  apply cut7
  · intro key0
    have key := box key0
    clear key0
    go_region_held3 (fun W => Below w.heap.size w W ∧ W.heap[w.heap.size]? = some (Obj.cells #[.int .u64 (x : Nat), .int .u64 (y : Nat)] 27) ∧ W.heap[w.heap.size + 1]? = some (Obj.cells #[.bool false, .string ⟨#[]⟩, .string ⟨#[]⟩, .int .i64 0] 89) ∧ W.heap[w1.heap.size]? = some (Obj.cells (pt c s X rr) 64) ∧ W.cell? ⟨w.heap.size, 0, none⟩ = some (.int .u64 (x : Nat)) ∧ W.cell? ⟨w.heap.size, 1, none⟩ = some (.int .u64 (y : Nat)) ∧ W.cell? ⟨w.heap.size + 1, 0, none⟩ = some (.bool false) ∧ W.cell? ⟨w.heap.size + 1, 1, none⟩ = some (.string ⟨#[]⟩) ∧ W.cell? ⟨w.heap.size + 1, 2, none⟩ = some (.string ⟨#[]⟩) ∧ W.cell? ⟨w.heap.size + 1, 3, none⟩ = some (.int .i64 0) ∧ W.cell? ⟨w1.heap.size, 0, none⟩ = some (.int .u8 (c : Nat)) ∧ W.cell? ⟨w1.heap.size, 1, none⟩ = some (.int .u64 ((wd s 0 : Nat) : Int)) ∧ W.cell? ⟨w1.heap.size, 2, none⟩ = some (.int .u64 ((wd s 1 : Nat) : Int)) ∧ W.cell? ⟨w1.heap.size, 3, none⟩ = some (.int .u64 ((wd s 2 : Nat) : Int)) ∧ W.cell? ⟨w1.heap.size, 4, none⟩ = some (.int .u64 ((wd s 3 : Nat) : Int)) ∧ W.cell? ⟨w1.heap.size, 5, none⟩ = some (.int .u64 ((wd s 4 : Nat) : Int)) ∧ W.cell? ⟨w1.heap.size, 6, none⟩ = some (.int .u64 ((wd s 5 : Nat) : Int)) ∧ W.cell? ⟨w1.heap.size, 7, none⟩ = some (.int .i64 X) ∧ W.cell? ⟨w1.heap.size, 8, none⟩ = some (.int .u64 ((wd rr 0 : Nat) : Int)) ∧ W.cell? ⟨w1.heap.size, 9, none⟩ = some (.int .u64 ((wd rr 1 : Nat) : Int)) ∧ W.cell? ⟨w1.heap.size, 10, none⟩ = some (.int .u64 ((wd rr 2 : Nat) : Int)) ∧ W.cell? ⟨w1.heap.size, 11, none⟩ = some (.int .u64 ((wd rr 3 : Nat) : Int)) ∧ W.cell? ⟨w1.heap.size, 12, none⟩ = some (.int .u64 ((wd rr 4 : Nat) : Int)) ∧ W.cell? ⟨w1.heap.size, 13, none⟩ = some (.int .u64 ((wd rr 5 : Nat) : Int))) (first | exact s1 | exact s0 | exact sS.out _ _ s1 (bal _ _) | exact sS.out _ _ s0 (bal _ _) | exact sT.out _ _ _ _ _ _ s1 hl)
      (first | (go_at_call 22; (first | refine (KS.out _).mono ?_ | refine (KS.out _).mono ?_); rintro r wq ⟨rfl, bq⟩; (first | (have hg := heap_of bq _ _ _ (heap_alloc_last _ _); have hl := (by first | exact sL.out _ s1 | exact sL.out _ s0)) | have hg := heap_of bq _ _ _ hg | skip); (try simp only [size_dr, size_al] at hg hl); (first | (have hq0 := fz (k := 0) hg; have hq1 := fz (k := 1) hg; have hq2 := fz (k := 2) hg; have hq3 := fz (k := 3) hg; have hc0 := cell7 hg 0 _ rfl; have hc1 := cell7 hg 1 _ rfl; have hc2 := cell7 hg 2 _ rfl; have hc3 := cell7 hg 3 _ rfl) | skip); have s2 := (by first | exact sS.out _ _ s1 bq | exact sS.out _ _ s0 bq | exact sS.out _ _ (sS.out _ _ s1 (bal _ _)) bq | exact sS.out _ _ (sS.out _ _ s0 (bal _ _)) bq); (try clear s1); have s1 := s2; clear s2 bq) | (go_at_call 86; (first | refine (KN.out _).mono ?_ | refine (KN.out _).mono ?_); rintro r wq ⟨rfl, bq⟩; (first | (have hg := heap_of bq _ _ _ (heap_alloc_last _ _); have hl := (by first | exact sL.out _ s1 | exact sL.out _ s0)) | have hg := heap_of bq _ _ _ hg | skip); (try simp only [size_dr, size_al] at hg hl); (first | (have hq0 := fz (k := 0) hg; have hq1 := fz (k := 1) hg; have hq2 := fz (k := 2) hg; have hq3 := fz (k := 3) hg; have hc0 := cell7 hg 0 _ rfl; have hc1 := cell7 hg 1 _ rfl; have hc2 := cell7 hg 2 _ rfl; have hc3 := cell7 hg 3 _ rfl) | skip); have s2 := (by first | exact sS.out _ _ s1 bq | exact sS.out _ _ s0 bq | exact sS.out _ _ (sS.out _ _ s1 (bal _ _)) bq | exact sS.out _ _ (sS.out _ _ s0 (bal _ _)) bq); (try clear s1); have s1 := s2; clear s2 bq) | (go_at_call 85; (first | refine (KM.out _).mono ?_ | refine (KM.out _).mono ?_); rintro r wq ⟨rfl, bq⟩; (first | (have hg := heap_of bq _ _ _ (heap_alloc_last _ _); have hl := (by first | exact sL.out _ s1 | exact sL.out _ s0)) | have hg := heap_of bq _ _ _ hg | skip); (try simp only [size_dr, size_al] at hg hl); (first | (have hq0 := fz (k := 0) hg; have hq1 := fz (k := 1) hg; have hq2 := fz (k := 2) hg; have hq3 := fz (k := 3) hg; have hc0 := cell7 hg 0 _ rfl; have hc1 := cell7 hg 1 _ rfl; have hc2 := cell7 hg 2 _ rfl; have hc3 := cell7 hg 3 _ rfl) | skip); have s2 := (by first | exact sS.out _ _ s1 bq | exact sS.out _ _ s0 bq | exact sS.out _ _ (sS.out _ _ s1 (bal _ _)) bq | exact sS.out _ _ (sS.out _ _ s0 (bal _ _)) bq); (try clear s1); have s1 := s2; clear s2 bq) | fail)
    all_goals
      refine gen_abacusref08_Value_7 (R := fun W gN => (Below w.heap.size w W ∧ W.heap[w.heap.size]? = some (Obj.cells #[.int .u64 (x : Nat), .int .u64 (y : Nat)] 27) ∧ W.heap[w.heap.size + 1]? = some (Obj.cells #[.bool false, .string ⟨#[]⟩, .string ⟨#[]⟩, .int .i64 0] 89) ∧ W.heap[w1.heap.size]? = some (Obj.cells (pt c s X rr) 64) ∧ W.cell? ⟨w.heap.size, 0, none⟩ = some (.int .u64 (x : Nat)) ∧ W.cell? ⟨w.heap.size, 1, none⟩ = some (.int .u64 (y : Nat)) ∧ W.cell? ⟨w.heap.size + 1, 0, none⟩ = some (.bool false) ∧ W.cell? ⟨w.heap.size + 1, 1, none⟩ = some (.string ⟨#[]⟩) ∧ W.cell? ⟨w.heap.size + 1, 2, none⟩ = some (.string ⟨#[]⟩) ∧ W.cell? ⟨w.heap.size + 1, 3, none⟩ = some (.int .i64 0) ∧ W.cell? ⟨w1.heap.size, 0, none⟩ = some (.int .u8 (c : Nat)) ∧ W.cell? ⟨w1.heap.size, 1, none⟩ = some (.int .u64 ((wd s 0 : Nat) : Int)) ∧ W.cell? ⟨w1.heap.size, 2, none⟩ = some (.int .u64 ((wd s 1 : Nat) : Int)) ∧ W.cell? ⟨w1.heap.size, 3, none⟩ = some (.int .u64 ((wd s 2 : Nat) : Int)) ∧ W.cell? ⟨w1.heap.size, 4, none⟩ = some (.int .u64 ((wd s 3 : Nat) : Int)) ∧ W.cell? ⟨w1.heap.size, 5, none⟩ = some (.int .u64 ((wd s 4 : Nat) : Int)) ∧ W.cell? ⟨w1.heap.size, 6, none⟩ = some (.int .u64 ((wd s 5 : Nat) : Int)) ∧ W.cell? ⟨w1.heap.size, 7, none⟩ = some (.int .i64 X) ∧ W.cell? ⟨w1.heap.size, 8, none⟩ = some (.int .u64 ((wd rr 0 : Nat) : Int)) ∧ W.cell? ⟨w1.heap.size, 9, none⟩ = some (.int .u64 ((wd rr 1 : Nat) : Int)) ∧ W.cell? ⟨w1.heap.size, 10, none⟩ = some (.int .u64 ((wd rr 2 : Nat) : Int)) ∧ W.cell? ⟨w1.heap.size, 11, none⟩ = some (.int .u64 ((wd rr 3 : Nat) : Int)) ∧ W.cell? ⟨w1.heap.size, 12, none⟩ = some (.int .u64 ((wd rr 4 : Nat) : Int)) ∧ W.cell? ⟨w1.heap.size, 13, none⟩ = some (.int .u64 ((wd rr 5 : Nat) : Int))) ∧ W.heap[gN]? = some (Obj.cells #[.bool rb, .string u, .string v, .int .i64 re] 89) ∧ (w.heap.size < gN ∧ w.heap.size + 1 < gN ∧ w1.heap.size < gN)) key.out ?_
      first
        | exact ⟨(sT.out _ _ _ _ _ _ s1 hl), set4_row hg rfl _ _ _ _, hl⟩
        | exact ⟨sS.out _ _ s1 (bal _ _), heap_alloc_last _ _, sL.out _ s1⟩
        | exact ⟨sS.out _ _ s0 (bal _ _), heap_alloc_last _ _, sL.out _ s0⟩
  rintro w3 g3 ⟨s1, Rr_3, l3⟩
  have B3 := And.left s1
  have Rb_3 := s1.2.1
  have Rz_3 := s1.2.2.1
  have Rp_3 := s1.2.2.2.1
  have H3 := box l3
  clear s0 s1 sS sL sT l3
  obtain ⟨cb_3_0, cb_3_1⟩ := cells2s Rb_3
  obtain ⟨cz_3_0, cz_3_1, cz_3_2, cz_3_3⟩ := cells4s Rz_3
  obtain ⟨cp_3_0, cp_3_1, cp_3_2, cp_3_3, cp_3_4, cp_3_5, cp_3_6, cp_3_7, cp_3_8, cp_3_9, cp_3_10, cp_3_11, cp_3_12, cp_3_13⟩ := pt_cells Rp_3
  obtain ⟨cr_3_0, cr_3_1, cr_3_2, cr_3_3⟩ := cells4s Rr_3
  have q0 := fz (k := 0) Rz_3
  have q1 := fz (k := 1) Rz_3
  have q2 := fz (k := 2) Rz_3
  have q3 := fz (k := 3) Rz_3
  obtain ⟨E0, E1, E2, E3⟩ := set4_cells Rz_3 rfl (.bool rb) (.string u) (.string v) (.int .i64 re)
  go_wp2
  exact bodyPost_ret (v := .tuple #[.agg #[.bool rb, .string u, .string v, .int .i64 re], .int .i64 0]) (by simp [results, Tryz.results50, go_sem, E0, E1, E2, E3]) rfl ⟨rfl, set4_below B3 (by first | exact Nat.le_refl _ | omega | (have := S2.out; have := Lb_2.out; have := Lz_2.out; have := H3.out; omega)) _ _ _ _⟩
end Go.Proofs.YtlpelcfaakfmiaaGreatDoor
namespace Go.Proofs.YtlpelcfaakfmiaaGreatDoor
set_option maxRecDepth 100000
set_option maxHeartbeats 40000000
set_option maxRecDepth 100000
open Go.RowKit WMath XMath
set_option linter.unusedSimpArgs false
set_option linter.unusedVariables false
def vX (f : Int) (n : Nat) : XN := (mk (kN f n) (kS f n) 1 (kX f n)).1
theorem kS_lim {f : Int} (hf : Is4 f) (n : Nat) : kS f n < 340282366920938463463374607431768211456 ∧ -20000 ≤ kX f n ∧ kX f n ≤ 20000 := by
  obtain ⟨g1, g2, g3, g4, g5, g6, g7⟩ := fm hf
  obtain ⟨l1, l2, l3, l4, l5⟩ := lx_lim hf
  obtain ⟨n1, n2, n3, n4, n5, n6⟩ := nm8 hf
  have tl := kT_lt (f := f) n
  have el := kE_le (f := f) n
  have oe : (oV f : Int) = 2 * fE f + 1 := by unfold oV; omega
  have pn : 2 ^ pV f + kT f n < 340282366920938463463374607431768211456 := by rw [g1, Nat.add_mul] at g7; have := Nat.mul_le_mul_right (2 ^ pV f) g5; omega
  refine ⟨?_, ?_, ?_⟩
  · unfold kS; split <;> (try split) <;> omega
  · unfold kX; split <;> (try split) <;> omega
  · unfold kX; split <;> (try split) <;> omega
theorem k_parts {f : Int} (n : Nat) (h : kC f n = 1 ∨ kC f n = 2 ∨ kC f n = 5 ∨ kC f n = 6) : kE f n < oV f ∧ kS f n = sV f (kE f n) (kT f n) ∧ kX f n = xV f (kE f n) ∧ kS f n ≠ 0 := by
  have el := kE_le (f := f) n
  have p := Nat.two_pow_pos (pV f)
  have h2 := h
  unfold kC at h2
  by_cases c1 : kE f n = oV f
  · rw [if_pos c1] at h2
    exfalso
    (repeat' split at h2) <;> omega
  · rw [if_neg c1] at h2
    unfold kS kX sV xV
    by_cases c2 : kE f n = 0
    · rw [if_neg (by omega)] at h2
      by_cases c3 : kT f n = 0
      · rw [if_neg (by omega)] at h2
        exfalso
        split at h2 <;> omega
      · rw [if_pos c3] at h2
        have hc : kC f n = 2 ∨ kC f n = 5 := by
          unfold kC
          rw [if_neg c1, if_neg (by omega), if_pos c3]
          cases kN f n <;> simp
        rw [if_pos hc, if_pos hc, if_pos c2, if_pos c2]
        exact ⟨by omega, rfl, rfl, c3⟩
    · have hc : kC f n = 1 ∨ kC f n = 6 := by
        unfold kC
        rw [if_neg c1, if_pos c2]
        cases kN f n <;> simp
      have hn : ¬ (kC f n = 2 ∨ kC f n = 5) := by omega
      rw [if_neg hn, if_neg hn, if_pos hc, if_pos hc, if_neg c2, if_neg c2]
      exact ⟨by omega, rfl, rfl, by omega⟩
theorem k_null {f : Int} (n : Nat) (h : kC f n = 3 ∨ kC f n = 4) : kS f n = 0 ∧ kX f n = 0 := by
  unfold kS kX
  rw [if_neg (by omega), if_neg (by omega), if_neg (by omega), if_neg (by omega)]
  exact ⟨rfl, rfl⟩
theorem vX_mk {f : Int} (hf : Is4 f) (n : Nat) (h : 0 < kC f n ∧ kC f n < 7) : mk (kN f n) (kS f n) 1 (kX f n) = (vX f n, 0) := by
  unfold vX
  by_cases c : kC f n = 3 ∨ kC f n = 4
  · rw [(k_null n c).1, mk_null]
  · obtain ⟨a, b, d, e⟩ := k_parts (f := f) n (by omega)
    have := (val_of hf (kN f n) (kE f n) (kT f n) a (kT_lt n) (by rw [← b]; exact e)).1
    rw [b, d, this]
theorem rValue_yes (f : Int) (hf : Is4 f) (x y n : Nat) (hx : x < 18446744073709551616) (hy : y < 18446744073709551616) (hn : y + 18446744073709551616 * x = n) (ho : okB f n = true) (fit : Fit f n) (hc : 0 < kC f n ∧ kC f n < 7) (rb : Bool) (rn rd : Nat) (re : Int) (u v : ByteArray) (hv : vX f n = ⟨rb, rn, rd, re⟩) (hu1 : nbA rn = u) (hu2 : nbA rd = v) (w : World) : Calls Tryz.prog 50 #[.int .u8 f, .agg #[.int .u64 (x : Nat), .int .u64 (y : Nat)]] w fun r w' => r = .returned (.tuple #[.agg #[.bool rb, .string u, .string v, .int .i64 re], .int .i64 0]) ∧ Below w.heap.size w w' := by
  obtain ⟨s1, s2, s3⟩ := kS_lim hf n
  have hm := vX_mk hf n hc
  rw [hv] at hm
  have ls : nl (kS f n) ≤ 16384 := nl_pow _ 128 (by rw [show (2 : Nat) ^ 128 = 340282366920938463463374607431768211456 by decide]; exact s1) (by decide)
  have ne : ∀ k : Nat, (k = 0 ∨ 7 ≤ k) → (((kC f n : Nat) : Int) == (k : Int)) = false := fun k hk => by rw [beq_eq_false_iff_ne]; omega
  exact rvalue_yes f x y (kC f n) (kS f n) (kF f n) (kX f n) (kN f n) _ rb u v re 0 w (box (fun w => rUnpack_is f hf x y n hx hy hn fit w))
    (box (fun w => rSign_yes f hf x y n _ hx hy hn ho rfl w)) (box (fun w => nat_OfWide _ _ (lt_Q7 s1) rfl w)) (box (fun w => rmake_ok _ _ 1 _ _ _ rb rn rd re 0 u v rfl nb1 ls nl1 (by decide) (by omega) (by omega) hm hu1 hu2 w)) (ne 8 (by omega)) (ne 9 (by omega)) (ne 0 (by omega)) (ne 7 (by omega))

theorem bel_same {P : Program} {k : FuncId} {a : Array Value} {w : World} {v : Value} (h : Calls P k a w fun r w' => r = .returned v ∧ w' = w) : Calls P k a w fun r w' => r = .returned v ∧ Below w.heap.size w w' :=
  h.mono fun _ _ h => ⟨h.1, by rw [h.2]; exact Below.refl _ _⟩
theorem fC_yes {f : Int} (hf : Is4 f) : fC f = 0 := (is4_ok hf).2.2.1
theorem fC_no {f : Int} (h0 : 0 ≤ f) (hf : ¬ Is4 f) : fC f = 2 := by
  unfold Is4 at hf
  unfold fC
  rw [if_neg (by omega)]
theorem addX_is (X Y Z : XN) (hx : X.can) (hy : Y.can) (hz : Z.can) (bx : Bd X 128 20200) (bz : Bd Y 128 20200) (hv : X.val + Y.val = Z.val) : addX X Y = (Z, 0) := by
  have h1 := add_ok X Y 128 128 20200 20200 40657 81057 hx hy bx bz rfl rfl (by decide) (by decide)
  have h2 := add_good X Y hx hy h1.1
  have h3 := can_inj _ Z h2.1 hz (by rw [h2.2, hv])
  exact Prod.ext h3 h1.1
def gO (m : Int) (neg odd half more : Bool) : Bool :=
  if m = 0 then half && (more || odd) else if m = 4 then half else if m = 2 then (half || more) && neg else if m = 3 then (half || more) && !neg else false
def rS (W k : Nat) : Nat := W / 2 ^ k / 2
def rH (W k : Nat) : Bool := decide (W / 2 ^ k % 2 = 1)
def rM (W k : Nat) (more : Bool) : Bool := decide (W % 2 ^ k ≠ 0) || more
def rO (W k : Nat) : Bool := decide (rS W k % 2 = 1)
def rG (m : Int) (neg : Bool) (W k : Nat) (more : Bool) : Nat := if gO m neg (rO W k) (rH W k) (rM W k more) = true then rS W k + 1 else rS W k
def stE (f T : Int) : Int := max T (1 - fE f)
def eS (f : Int) (neg : Bool) (j S : Nat) : Nat := j * 2 ^ pV f + S + (if neg then 2 ^ wV f else 0)
def ovB (f m : Int) (neg : Bool) : Nat := if gO m neg false true true = true then eInf f neg else eGreatest f neg
def tnB (f m : Int) (neg : Bool) (T : Int) (W : Nat) (more : Bool) : Bool := decide (T - fP f + (blen (rG m neg W 0 more) : Int) < 1 - fE f)
def dK (f T : Int) : Nat := (stE f T - T).toNat
def dJ (f T : Int) : Nat := (stE f T - (1 - fE f)).toNat
def dlv (f m : Int) (neg : Bool) (T : Int) (W : Nat) (more : Bool) : Nat × Int :=
  if fE f < stE f T - fP f + (blen (rG m neg W (dK f T) more) : Int) then (ovB f m neg, 5)
  else (eS f neg (dJ f T) (rG m neg W (dK f T) more), if (rH W (dK f T) || rM W (dK f T) more) = true then (if tnB f m neg T W more = true then 3 else 1) else 0)

theorem fp8 {f : Int} (hf : Is4 f) : fP f = (pV f : Int) + 1 := by rcases hf with rfl | rfl | rfl | rfl <;> decide
theorem nl_1 : nl 1 ≤ 16384 := Nat.le_trans (nl_le_of 1 1 (by decide)) (by decide)
def hfV (half more : Bool) : Int := if half then (if more then 1 else 0) else -1
def xW (f : Int) (x : XN) : Nat := (flX x (topX x - fP f)).1.1
def xM (f : Int) (x : XN) : Bool := !(flX x (topX x - fP f)).1.2
def qW (P n : Nat) : Nat := if P + 1 ≤ blen n then n / 2 ^ (blen n - (P + 1)) else n * 2 ^ (P + 1 - blen n)
def qM (P n : Nat) (more : Bool) : Bool := if P + 1 ≤ blen n then decide (n % 2 ^ (blen n - (P + 1)) ≠ 0) || more else more
theorem blen_more (s n q : Nat) (s0 : s ≠ 0) (hq : q < 2 ^ n) : blen (s * 2 ^ n + q) = blen s + n := by
  have h := blen_push q n s hq s0
  rw [Nat.add_comm q, Nat.mul_comm (2 ^ n) s] at h
  omega
theorem div_more (s n q : Nat) (hq : q < 2 ^ n) : (s * 2 ^ n + q) / 2 ^ n = s := by
  rw [Nat.add_comm, Nat.add_mul_div_right _ _ (Nat.two_pow_pos n), Nat.div_eq_of_lt hq, Nat.zero_add]
theorem mod_more (s n q : Nat) (hq : q < 2 ^ n) : (s * 2 ^ n + q) % 2 ^ n = q := by
  rw [Nat.add_comm, Nat.add_mul_mod_self_right, Nat.mod_eq_of_lt hq]
theorem qdec_or {a b c : Prop} [Decidable a] [Decidable b] [Decidable c] (h : a ↔ (b ∨ c)) : decide a = (decide b || decide c) := by
  rw [Bool.eq_iff_iff, Bool.or_eq_true, decide_eq_true_iff, decide_eq_true_iff, decide_eq_true_iff]
  exact h
theorem q_more (P s n q : Nat) (s0 : s ≠ 0) (hq : q < 2 ^ n) (h : q ≠ 0 → P + 1 ≤ blen s) : qW P (s * 2 ^ n + q) = qW P s ∧ qM P (s * 2 ^ n + q) false = qM P s (decide (q ≠ 0)) := by
  have hb := blen_more s n q s0 hq
  unfold qW qM
  rw [hb]
  by_cases c : P + 1 ≤ blen s
  · rw [if_pos c, if_pos c, if_pos (by omega), if_pos (by omega), show blen s + n - (P + 1) = n + (blen s - (P + 1)) by omega]
    constructor
    · rw [Nat.pow_add, ← Nat.div_div_eq_div_mul, div_more s n q hq]
    · rw [Bool.or_false, Bool.or_comm]
      refine qdec_or ?_
      have := mod_pow_zero (s * 2 ^ n + q) n (blen s - (P + 1))
      rw [mod_more s n q hq, div_more s n q hq] at this
      rw [Ne, this]
      omega
  · have q0 : q = 0 := by omega
    subst q0
    have z0 : decide ((0 : Nat) ≠ 0) = false := rfl
    rw [if_neg c, if_neg c, z0]
    simp only [Nat.add_zero]
    by_cases c2 : P + 1 ≤ blen s + n
    · rw [if_pos c2, if_pos c2]
      have e : s * 2 ^ n = s * 2 ^ (P + 1 - blen s) * 2 ^ (blen s + n - (P + 1)) := by
        rw [Nat.mul_assoc, ← Nat.pow_add]
        congr 2
        omega
      rw [e]
      refine ⟨Nat.mul_div_cancel _ (Nat.two_pow_pos _), ?_⟩
      rw [Bool.or_false, decide_eq_false_iff_not]
      exact fun q => q (Nat.mul_mod_left _ _)
    · rw [if_neg c2, if_neg c2, Nat.mul_assoc, ← Nat.pow_add]
      exact ⟨by congr 2; omega, rfl⟩
theorem q_longer (P s n : Nat) (s0 : s ≠ 0) : qW P (s * 2 ^ n) = qW P s ∧ qM P (s * 2 ^ n) false = qM P s false := by
  have := q_more P s n 0 s0 (Nat.two_pow_pos n) (fun h => absurd rfl h)
  have z0 : decide ((0 : Nat) ≠ 0) = false := rfl
  rw [Nat.add_zero, z0] at this
  exact this
theorem x_odd {f : Int} (hf : Is4 f) (b : Bool) (n : Nat) (e : Int) (ho : n % 2 = 1) (hl : blen n ≤ 45000) (h1 : -1200000 ≤ e) (h2 : e ≤ 1200000) :
    xW f ⟨b, n, 1, e⟩ = qW (pV f + 1) n ∧ xM f ⟨b, n, 1, e⟩ = qM (pV f + 1) n false := by
  have n0 : n ≠ 0 := by omega
  obtain ⟨n1, n2, n3, n4, n5, n6⟩ := nm8 hf
  have hp := fp8 hf
  have tw := top_whole b n e n0
  obtain ⟨l1, l2, l3⟩ := blen_low n n0
  unfold xW xM qW qM
  obtain ⟨a, hA⟩ : ∃ a, topX ⟨b, n, 1, e⟩ - fP f = a := ⟨_, rfl⟩
  rw [hA]
  by_cases c : a ≤ e
  · have sh := blen_shift n (e - a).toNat n0
    have := fl_yes ⟨b, n, 1, e⟩ a n0 rfl c (by omega) (by omega) (by
      show nl (n * 2 ^ (e - a).toNat) ≤ 16384
      unfold nl
      omega)
    rw [this]
    simp only
    by_cases c2 : pV f + 1 + 1 ≤ blen n
    · have : blen n = pV f + 1 + 1 := by omega
      have z : (e - a).toNat = 0 := by omega
      rw [if_pos c2, if_pos c2, this, Nat.sub_self, z, Nat.pow_zero, Nat.div_one, Nat.mul_one, Nat.mod_one]
      exact ⟨rfl, rfl⟩
    · rw [if_neg c2, if_neg c2, show (e - a).toNat = pV f + 1 + 1 - blen n by omega]
      exact ⟨rfl, rfl⟩
  · have z : flX ⟨b, n, 1, e⟩ a = ((n / (1 * 2 ^ (a - e).toNat), false), 0) := by
      unfold flX
      rw [if_neg (by omega), if_neg n0, if_neg c, if_neg (by omega)]
    rw [z, Nat.one_mul, if_pos (by omega), if_pos (by omega), show (a - e).toNat = blen n - (pV f + 1 + 1) by omega]
    refine ⟨rfl, ?_⟩
    have : n % 2 ^ (blen n - (pV f + 1 + 1)) ≠ 0 := by
      obtain ⟨i, hi⟩ : ∃ i, blen n - (pV f + 1 + 1) = i + 1 := ⟨blen n - (pV f + 1 + 1) - 1, by omega⟩
      rw [hi]
      intro q
      have := (mod_pow_zero n 1 i).1 (by rw [Nat.add_comm]; exact q)
      omega
    rw [decide_eq_true this]
    rfl
theorem x_whole {f : Int} (hf : Is4 f) (b : Bool) (N : Nat) (e : Int) (n0 : N ≠ 0) (hl : blen N ≤ 45000) (h1 : -1000000 ≤ e) (h2 : e ≤ 1000000) :
    mk b N 1 e = (⟨b, od N, 1, e + (tz N : Int)⟩, 0) ∧ (XN.mk b (od N) 1 (e + (tz N : Int))).can ∧ od N ≠ 0 ∧ nl (od N) ≤ 8192 ∧ topX ⟨b, od N, 1, e + (tz N : Int)⟩ = e + (blen N : Int) - 1 ∧ xW f ⟨b, od N, 1, e + (tz N : Int)⟩ = qW (pV f + 1) N ∧ xM f ⟨b, od N, 1, e + (tz N : Int)⟩ = qM (pV f + 1) N false := by
  obtain ⟨o1, o2⟩ := od_is N n0
  have od0 : od N ≠ 0 := by omega
  have tl := tz_blen N
  have bs := blen_shift (od N) (tz N) od0
  rw [← o1] at bs
  have m := mk_whole b N e n0 (by omega) (by omega)
  have lo : nl (od N) ≤ 8192 := by unfold nl; omega
  have lN : nl N ≤ 16384 := by unfold nl; omega
  obtain ⟨x1, x2⟩ := x_odd hf b (od N) (e + (tz N : Int)) o2 (by omega) (by omega) (by omega)
  have ql := q_longer (pV f + 1) (od N) (tz N) od0
  rw [← o1] at ql
  refine ⟨m, ?_, od0, lo, ?_, by rw [x1, ql.1], by rw [x2, ql.2]⟩
  · have := mk_can b N 1 e lN nl_1 (by decide) (by rw [m])
    rw [m] at this
    exact this
  · rw [top_whole b (od N) _ od0]
    omega
theorem cutN (s L : Nat) (hs : s < Q) : s / 2 ^ min (L + 1) 384 = s / 2 ^ L / 2 ∧ decide (s % 2 ^ min (L + 1) 384 = 0) = !(decide (s / 2 ^ L % 2 = 1) || decide (s % 2 ^ L ≠ 0)) ∧ halfv s (min (L + 1) 385) = hfV (decide (s / 2 ^ L % 2 = 1)) (decide (s % 2 ^ L ≠ 0)) := by
  obtain ⟨Z, hZ, eQ⟩ := Qq384
  have hQ : s < 2 ^ Z := by rw [← eQ]; exact hs
  rw [← hZ]
  have full : s % 2 ^ (L + 1) = 0 ↔ (s % 2 ^ L = 0 ∧ s / 2 ^ L % 2 = 0) := by
    have := mod_pow_zero s L 1
    rw [Nat.pow_one] at this
    exact this
  have b1 : decide (s % 2 ^ (L + 1) = 0) = !(decide (s / 2 ^ L % 2 = 1) || decide (s % 2 ^ L ≠ 0)) := by
    rw [Bool.eq_iff_iff, decide_eq_true_iff, full, Bool.not_eq_true', Bool.or_eq_false_iff, decide_eq_false_iff_not, decide_eq_false_iff_not]
    omega
  by_cases c : L < Z
  · rw [Nat.min_eq_left (by omega : L + 1 ≤ Z), Nat.min_eq_left (by omega : L + 1 ≤ 385)]
    refine ⟨by rw [Nat.pow_succ, Nat.div_div_eq_div_mul], b1, ?_⟩
    rw [halfv_bit s L (by omega), Nat.testBit_eq_decide_div_mod_eq]
    unfold hfV
    by_cases z : s % 2 ^ L = 0
    · rw [if_pos z, decide_eq_false (show ¬ (s % 2 ^ L ≠ 0) by omega)]
      rfl
    · rw [if_neg z, decide_eq_true (show s % 2 ^ L ≠ 0 by omega)]
      rfl
  · have lt : s < 2 ^ L := Nat.lt_of_lt_of_le hQ (Nat.pow_le_pow_right (by decide) (by omega))
    have lt2 : s < 2 ^ (L + 1) := Nat.lt_of_lt_of_le hQ (Nat.pow_le_pow_right (by decide) (by omega))
    rw [Nat.min_eq_right (by omega : Z ≤ L + 1), Nat.min_eq_right (by omega : 385 ≤ L + 1)]
    refine ⟨by rw [Nat.div_eq_of_lt hQ, Nat.div_eq_of_lt lt], ?_, ?_⟩
    · rw [← b1, Nat.mod_eq_of_lt hQ, Nat.mod_eq_of_lt lt2]
    · unfold halfv
      rw [if_pos (Or.inr (by decide)), Nat.div_eq_of_lt lt]
      rfl
theorem nl_fl {x : XN} {a : Int} {N : Nat} {ex : Bool} (h : flX x a = ((N, ex), 0)) (hx : x.can) : nl N ≤ 16384 := by
  unfold flX at h
  split at h
  · have := congrArg (·.2) h
    exact absurd (show (2 : Int) = 0 from this) (by decide)
  split at h
  · have := congrArg (·.1.1) h
    rw [← show (0 : Nat) = N from this]
    exact nl0
  split at h
  · split at h
    · rename_i q
      have := congrArg (·.1.1) h
      rw [← show _ = N from this]
      exact Nat.le_trans (nl_mono _ _ (Nat.div_le_self _ _)) q
    · have := congrArg (·.2) h
      exact absurd (show (4 : Int) = 0 from this) (by decide)
  split at h
  · have := congrArg (·.1.1) h
    rw [← show (0 : Nat) = N from this]
    exact nl0
  · have := congrArg (·.1.1) h
    rw [← show _ = N from this]
    exact Nat.le_trans (nl_mono _ _ (Nat.div_le_self _ _)) hx.1
def rnd (f m : Int) (x : XN) : Nat × Int := if x.n = 0 then (0, 0) else dlv f m x.b (topX x) (xW f x) (xM f x)
end Go.Proofs.YtlpelcfaakfmiaaGreatDoor
