/-
  What the functions that the statement reaches return: part 15 (V9, VA, X11).
-/
import Derived.Test.YtkmlbjlaahcahaaGreatDoorNa14
namespace Go.Proofs.YtkmlbjlaahcahaaGreatDoor
set_option maxRecDepth 100000
open Go.RowKit WMath XMath
set_option linter.unusedSimpArgs false
set_option linter.unusedVariables false

/-- The value of a finite encoding. -/
def vX (f : Int) (n : Nat) : XN := (mk (kN f n) (kS f n) 1 (kX f n)).1
theorem kS_lim {f : Int} (hf : Is4 f) (n : Nat) : kS f n < 340282366920938463463374607431768211456 ∧ -20000 ≤ kX f n ∧ kX f n ≤ 20000 := by
  obtain ⟨g1, g2, g3, g4, g5, g6, g7⟩ := fm hf
  obtain ⟨l1, l2, l3, l4, l5⟩ := lx_lim hf
  obtain ⟨n1, n2, n3, n4, n5, n6⟩ := nm8 hf
  have tl := kT_lt (f := f) n
  have el := kE_le (f := f) n
  have oe : (oV f : Int) = 2 * fE f + 1 := by unfold oV; omega
  have pn : 2 ^ pV f + kT f n < 340282366920938463463374607431768211456 := by rw [g1, Nat.add_mul] at g7; have := Nat.mul_le_mul_right (2 ^ pV f) g5; omega
  refine ⟨?_, ?_, ?_⟩
  · unfold kS; split <;> (try split) <;> omega
  · unfold kX; split <;> (try split) <;> omega
  · unfold kX; split <;> (try split) <;> omega
theorem k_parts {f : Int} (n : Nat) (h : kC f n = 1 ∨ kC f n = 2 ∨ kC f n = 5 ∨ kC f n = 6) : kE f n < oV f ∧ kS f n = sV f (kE f n) (kT f n) ∧ kX f n = xV f (kE f n) ∧ kS f n ≠ 0 := by
  have el := kE_le (f := f) n
  have p := Nat.two_pow_pos (pV f)
  have h2 := h
  unfold kC at h2
  by_cases c1 : kE f n = oV f
  · rw [if_pos c1] at h2
    exfalso
    (repeat' split at h2) <;> omega
  · rw [if_neg c1] at h2
    unfold kS kX sV xV
    by_cases c2 : kE f n = 0
    · rw [if_neg (by omega)] at h2
      by_cases c3 : kT f n = 0
      · rw [if_neg (by omega)] at h2
        exfalso
        split at h2 <;> omega
      · rw [if_pos c3] at h2
        have hc : kC f n = 2 ∨ kC f n = 5 := by
          unfold kC
          rw [if_neg c1, if_neg (by omega), if_pos c3]
          cases kN f n <;> simp
        rw [if_pos hc, if_pos hc, if_pos c2, if_pos c2]
        exact ⟨by omega, rfl, rfl, c3⟩
    · have hc : kC f n = 1 ∨ kC f n = 6 := by
        unfold kC
        rw [if_neg c1, if_pos c2]
        cases kN f n <;> simp
      have hn : ¬ (kC f n = 2 ∨ kC f n = 5) := by omega
      rw [if_neg hn, if_neg hn, if_pos hc, if_pos hc, if_neg c2, if_neg c2]
      exact ⟨by omega, rfl, rfl, by omega⟩
theorem k_null {f : Int} (n : Nat) (h : kC f n = 3 ∨ kC f n = 4) : kS f n = 0 ∧ kX f n = 0 := by
  unfold kS kX
  rw [if_neg (by omega), if_neg (by omega), if_neg (by omega), if_neg (by omega)]
  exact ⟨rfl, rfl⟩
theorem vX_mk {f : Int} (hf : Is4 f) (n : Nat) (h : 0 < kC f n ∧ kC f n < 7) : mk (kN f n) (kS f n) 1 (kX f n) = (vX f n, 0) := by
  unfold vX
  by_cases c : kC f n = 3 ∨ kC f n = 4
  · rw [(k_null n c).1, mk_null]
  · obtain ⟨a, b, d, e⟩ := k_parts (f := f) n (by omega)
    have := (val_of hf (kN f n) (kE f n) (kT f n) a (kT_lt n) (by rw [← b]; exact e)).1
    rw [b, d, this]
theorem kValue_inf (f : Int) (hf : Is4 f) (x y n : Nat) (hx : x < 18446744073709551616) (hy : y < 18446744073709551616) (hn : y + 18446744073709551616 * x = n) (ho : okB f n = true) (hc : ¬ (0 < kC f n ∧ kC f n < 7)) (w : World) (hT : FAt w) : Calls Tryz.prog 8 #[.int .u8 f, .agg #[.int .u64 (x : Nat), .int .u64 (y : Nat)]] w fun r w' => r = .returned (.tuple #[.agg #[.bool false, .string ⟨#[]⟩, .string ⟨#[]⟩, .int .i64 0], .int .i64 80]) ∧ Below w.heap.size w w' :=
  kvalue_inf f x y (kC f n) (kS f n) (kF f n) (kX f n) w (box (fun w hT => kUnpack_yes f hf x y n _ _ _ _ hx hy hn ho rfl w hT)) (box (fun w => kfin_is _ false (by simp only [Bool.and_eq_false_iff, decide_eq_false_iff_not]; omega) w)) hT
theorem kValue_yes (f : Int) (hf : Is4 f) (x y n : Nat) (hx : x < 18446744073709551616) (hy : y < 18446744073709551616) (hn : y + 18446744073709551616 * x = n) (ho : okB f n = true) (hc : 0 < kC f n ∧ kC f n < 7) (rb : Bool) (rn rd : Nat) (re : Int) (u v : ByteArray) (hv : vX f n = ⟨rb, rn, rd, re⟩) (hu1 : nbA rn = u) (hu2 : nbA rd = v) (w : World) (hT : FAt w) (hT2 : TabAt w) : Calls Tryz.prog 8 #[.int .u8 f, .agg #[.int .u64 (x : Nat), .int .u64 (y : Nat)]] w fun r w' => r = .returned (.tuple #[.agg #[.bool rb, .string u, .string v, .int .i64 re], .int .i64 0]) ∧ Below w.heap.size w w' := by
  obtain ⟨s1, s2, s3⟩ := kS_lim hf n
  have hm := vX_mk hf n hc
  rw [hv] at hm
  have ls : nl (kS f n) ≤ 16384 := nl_pow _ 128 (by rw [show (2 : Nat) ^ 128 = 340282366920938463463374607431768211456 by decide]; exact s1) (by decide)
  exact kvalue_yes f x y (kC f n) (kS f n) (kF f n) (kX f n) (kN f n) _ rb u v re 0 w (box (fun w hT => kUnpack_yes f hf x y n _ _ _ _ hx hy hn ho rfl w hT)) (box (fun w => kfin_is _ true (by simp only [Bool.and_eq_true, decide_eq_true_eq]; exact hc) w))
    (box (fun w hT => ksign_is f hf x y n _ hx hy hn rfl w hT)) (box (fun w => knatOf_is _ _ (lt_Q7 s1) rfl w)) (box (fun w hT => makex_ok _ _ 1 _ _ _ rb rn rd re 0 u v rfl nb1 ls nl1 (by decide) (by omega) (by omega) hm hu1 hu2 w hT)) hT hT2
theorem top_lim {x : XN} (hx : x.can) : -1200000 ≤ topX x ∧ topX x ≤ 1200000 := by
  obtain ⟨h1, h2, h3, h4, _⟩ := hx
  unfold nl at h1 h2
  unfold topX lenD
  split <;> omega
theorem bel_same {P : Program} {k : FuncId} {a : Array Value} {w : World} {v : Value} (h : Calls P k a w fun r w' => r = .returned v ∧ w' = w) : Calls P k a w fun r w' => r = .returned v ∧ Below w.heap.size w w' :=
  h.mono fun _ _ h => ⟨h.1, by rw [h.2]; exact Below.refl _ _⟩
theorem fC_yes {f : Int} (hf : Is4 f) : fC f = 0 := (is4_ok hf).2.2.1
theorem kOf_is (f : Int) (hf : Is4 f) (b : Bool) (n d : Nat) (s t : ByteArray) (e : Int) (hs : nbA n = s) (ht : nbA d = t) (hc : (XN.mk b n d e).can) (M : Nat) (is : Bool) (u v : Nat) (hr : ofX f ⟨b, n, d, e⟩ = (M, is)) (hv : bv7 M = (u, v)) (w : World) (hT : FAt w) (hT2 : TabAt w) : Calls Tryz.prog 12 #[.int .u8 f, .agg #[.bool b, .string s, .string t, .int .i64 e]] w fun r w' => r = .returned (.tuple #[.agg #[.int .u64 (u : Nat), .int .u64 (v : Nat)], .bool is, .int .i64 0]) ∧ Below w.heap.size w w' := by
  have f4 := is4_ok hf
  obtain ⟨n1, n2, n3, n4, n5, n6⟩ := nm8 hf
  have K1 : Box (∀ w, Calls Tryz.prog 45 #[.int .u8 f] w fun r w' => r = .returned (.int .i64 0) ∧ Below w.heap.size w w') := box (fun w => bel_same (s_check_is f 0 f4.1 f4.2.1 (fC_yes hf) w))
  have K2 : Box (∀ w, TabAt w → Calls Tryz.prog 46 #[.agg #[.bool b, .string s, .string t, .int .i64 e]] w fun r w' => r = .returned (.int .i64 0) ∧ Below w.heap.size w w') := box (fun w hT => xcheckM b s t e true (may_yes hs ht hc) 0 rfl w hT)
  by_cases n0 : n = 0
  · unfold ofX at hr
    rw [if_pos n0] at hr
    injection hr with h1 h2
    subst h1 h2
    injection hv with h3 h4
    subst h3 h4
    exact kof_zero f b s t e w K1 K2 (box (fun w hT => Signx_ok b n d e s t 0 hs ht hc (by unfold sg; rw [if_pos n0]) w hT)) (box (fun w hT => sk_zero f false hf 0 0 (by rcases hf with rfl | rfl | rfl | rfl <;> decide +kernel) w hT)) hT hT2
  · obtain ⟨g, hg⟩ : ∃ g, sg (XN.mk b n d e) = g := ⟨_, rfl⟩
    have g0 : (g == 0) = false := by
      rw [← hg, beq_eq_false_iff_ne]
      unfold sg
      rw [if_neg n0]
      cases b
      · show (if false = true then (-1 : Int) else 1) ≠ 0
        decide
      · show (if true = true then (-1 : Int) else 1) ≠ 0
        decide
    obtain ⟨T, hTop⟩ : ∃ T, topX (XN.mk b n d e) = T := ⟨_, rfl⟩
    obtain ⟨t1, t2⟩ := top_lim hc
    rw [hTop] at t1 t2
    have K3 : Box (∀ w, TabAt w → Calls Tryz.prog 47 #[.agg #[.bool b, .string s, .string t, .int .i64 e]] w fun r w' => r = .returned (.int .i64 g) ∧ Below w.heap.size w w') := box (fun w hT => Signx_ok b n d e s t g hs ht hc hg w hT)
    have K4 : Box (∀ w, TabAt w → Calls Tryz.prog 48 #[.agg #[.bool b, .string s, .string t, .int .i64 e]] w fun r w' => r = .returned (.tuple #[.int .i64 T, .int .i64 0]) ∧ Below w.heap.size w w') := box (fun w hT => Topx_ok b n d e s t T hs ht n0 hc hTop w hT)
    have K5 : Box (∀ w, FAt w → Calls Tryz.prog 49 #[.int .u8 f] w fun r w' => r = .returned (.int .i64 (fE f)) ∧ Below w.heap.size w w') := box (fun w hT => kb_emax f _ f4.1 f4.2.1 rfl w hT)
    by_cases hE : fE f < T
    · unfold ofX at hr
      rw [if_neg n0, if_pos (by rw [hTop]; exact hE)] at hr
      injection hr with h1 h2
      subst h1 h2
      injection hv with h3 h4
      subst h3 h4
      exact kof_over f b s t e g T _ w K1 K2 K3 K4 K5 g0 (decide_eq_true hE) hT hT2
    · obtain ⟨A, hA⟩ : ∃ A, ofA f (XN.mk b n d e) = A := ⟨_, rfl⟩
      have hA2 := hA
      unfold ofA at hA2
      rw [hTop] at hA2
      have fp : fP f = (pV f : Int) + 1 := (em_lim hf).2.2.2.2.2.2.2.2.1
      have K6 : Box (∀ w, FAt w → Calls Tryz.prog 50 #[.int .u8 f] w fun r w' => r = .returned (.int .i64 (1 - fE f)) ∧ Below w.heap.size w w') := box (fun w hT => s_emin f _ _ f4.1 f4.2.1 rfl (em_lim hf).2.2.2.2.1 w hT)
      have K7 : Box (∀ w, FAt w → Calls Tryz.prog 51 #[.int .u8 f] w fun r w' => r = .returned (.int .i64 (fP f)) ∧ Below w.heap.size w w') := box (fun w hT => kb_precision f _ f4.1 f4.2.1 rfl w hT)
      obtain ⟨⟨⟨m, o⟩, fe⟩, hfl⟩ : ∃ q, flX (XN.mk b n d e) A = q := ⟨_, rfl⟩
      obtain ⟨z, hz⟩ : ∃ z, nbA m = z := ⟨_, rfl⟩
      have K8 : Box (∀ w, TabAt w → Calls Tryz.prog 52 #[.agg #[.bool b, .string s, .string t, .int .i64 e], .int .i64 A] w fun r w' => r = .returned (.tuple #[.string z, .bool o, .int .i64 fe]) ∧ Below w.heap.size w w') := box (fun w hT => Floorx_ok b n d e s t A m o fe z hs ht hc (by omega) (by omega) hfl hz w hT)
      have a1 : IntKind.i64.wrap (max T (1 - fE f) - fP f) = max T (1 - fE f) - fP f := wrap_i64_is _ (by omega) (by omega)
      have a2 : IntKind.i64.wrap (max T (1 - fE f) - fP f + 1) = A := by rw [wrap_i64_is _ (by omega) (by omega)]; omega
      have dE : decide (fE f < T) = false := decide_eq_false hE
      unfold ofX at hr
      rw [if_neg n0, if_neg (by rw [hTop]; exact hE), hA, hfl] at hr
      simp only [] at hr
      cases o
      · rw [if_neg (by decide)] at hr
        injection hr with h1 h2
        subst h1 h2
        injection hv with h3 h4
        subst h3 h4
        exact kof_frac f b s t e g T _ _ _ _ A fe z w K1 K2 K3 K4 K5 K6 K7 K8 g0 dE a1 a2 hT hT2
      · rw [if_pos rfl] at hr
        injection hr with h1 h2
        subst h2
        have hd : d = 1 ∧ A ≤ e := by
          have h3 : ¬ (d ≠ 1 ∨ e < A) := fun h3 => by
            have := fl_no (XN.mk b n d e) A hc n0 h3
            rw [hfl] at this
            exact Bool.noConfusion (show true = false from this)
          omega
        obtain ⟨rfl, hAe⟩ := hd
        obtain ⟨m', k, tt, q1, q2, q3, q4, q5⟩ := of_yes hf b n e n0 (by rw [hTop]; omega) (by rw [hA]; exact hAe)
        rw [hA] at q1 q5
        have hm : m = m' := by
          have lim : m' < 340282366920938463463374607431768211456 := by
            obtain ⟨g1, g2, g3, g4, g5, g6, g7⟩ := fm hf
            rw [g1, Nat.add_mul] at g7
            have := Nat.mul_le_mul_right (2 ^ pV f) g5
            rcases q5 with ⟨_, q, _⟩ | ⟨_, q, _⟩ <;> omega
          have := fl_yes (XN.mk b n 1 e) A n0 rfl hAe (by omega) (by omega) (by
            show nl (n * 2 ^ (e - A).toNat) ≤ 16384
            rw [← q1]
            exact nl_pow _ 128 (by rw [show (2 : Nat) ^ 128 = 340282366920938463463374607431768211456 by decide]; exact lim) (by decide))
          rw [hfl] at this
          injection this with e1 e2
          injection e1 with e3 e4
          rw [e3, q1]
        have lim : m < 340282366920938463463374607431768211456 := by
          obtain ⟨g1, g2, g3, g4, g5, g6, g7⟩ := fm hf
          rw [g1, Nat.add_mul] at g7
          have := Nat.mul_le_mul_right (2 ^ pV f) g5
          rw [hm]
          rcases q5 with ⟨_, q, _⟩ | ⟨_, q, _⟩ <;> omega
        obtain ⟨i, j, hij⟩ : ∃ i j, bv7 (fb f m A) = (i, j) := ⟨_, _, rfl⟩
        obtain ⟨i1, j1, ij⟩ := bv_lt (by unfold fb; exact Nat.mod_lt _ (by decide)) hij
        exact kof_yes f b s t e g T _ _ _ _ A fe z m i j u v w K1 K2 K3 K4 K5 K6 K7 K8
          (box (fun w => kwideOf_is m z hz (by
            have := nl_le_of m 16 (by rw [show (2 : Nat) ^ (8 * 16) = 340282366920938463463374607431768211456 by decide]; exact lim)
            omega) w))
          (box (fun w hT => kfinite_is f hf m i j A (lt_Q7 lim) (by omega) (by omega) hij w hT))
          (box (fun w hT => ksigned_is f hf i j _ u v b i1 j1 ij (by rw [h1]; exact hv) w hT)) g0 dE a1 a2 hT hT2
end Go.Proofs.YtkmlbjlaahcahaaGreatDoor
namespace Go.Proofs.YtkmlbjlaahcahaaGreatDoor
set_option maxRecDepth 100000
open Go.RowKit WMath XMath
set_option linter.unusedSimpArgs false
set_option linter.unusedVariables false

theorem nb_p {f : Int} (hf : Is4 f) : 2 * 2 ^ pV f ≤ 2 ^ 128 ∧ (oV f : Int) = 2 * fE f + 1 ∧ fE f ≤ 16383 ∧ 0 ≤ fE f ∧ lx f = 1 - fE f - (pV f : Int) ∧ pV f < 128 ∧ 3 ≤ oV f := by
  obtain ⟨n1, n2, n3, n4, n5, n6⟩ := nm8 hf
  obtain ⟨g1, g2, g3, g4, g5, g6, g7⟩ := fm hf
  have oe : (oV f : Int) = 2 * fE f + 1 := by unfold oV; omega
  refine ⟨?_, oe, n5, n6, n3, n4, g5⟩
  have := Nat.pow_le_pow_right (show 0 < 2 by decide) (show pV f + 1 ≤ 128 by omega)
  rw [Nat.pow_succ] at this
  omega
theorem vX_enc {f : Int} (hf : Is4 f) (neg : Bool) (e t : Nat) (he : e < oV f) (ht : t < 2 ^ pV f) :
    (0 < kC f (enc7 f neg e t) ∧ kC f (enc7 f neg e t) < 7) ∧ (vX f (enc7 f neg e t)).can ∧ (vX f (enc7 f neg e t)).val = sgn neg * ((sV f e t : Nat) : Rat) * (2 : Rat) ^ (xV f e) ∧ Bd (vX f (enc7 f neg e t)) 128 20200 ∧
    (sV f e t = 0 → vX f (enc7 f neg e t) = X0) ∧ (sV f e t ≠ 0 → (vX f (enc7 f neg e t)).n ≠ 0 ∧ (vX f (enc7 f neg e t)).b = neg) := by
  obtain ⟨p1, p2', p3, p4, p5, p6, p7⟩ := nb_p hf
  obtain ⟨k1, k2, k3, k4⟩ := enc_k hf neg (Nat.le_of_lt he) ht
  have hC := kC_cases hf neg e t (Nat.le_of_lt he) ht
  have sl : sV f e t < 2 ^ 128 := by unfold sV; split <;> omega
  have xl : -20000 ≤ xV f e ∧ xV f e ≤ 20000 := by unfold xV; split <;> omega
  rw [if_neg (by omega)] at hC
  by_cases s0 : sV f e t = 0
  · have e0 : e = 0 ∧ t = 0 := by
      unfold sV at s0
      have := Nat.two_pow_pos (pV f)
      split at s0 <;> omega
    rw [if_neg (by omega), if_neg (by omega)] at hC
    have hc : kC f (enc7 f neg e t) = 3 ∨ kC f (enc7 f neg e t) = 4 := by rw [hC]; cases neg <;> simp
    have hv : vX f (enc7 f neg e t) = X0 := by
      unfold vX
      rw [(k_null _ hc).1, mk_null]
    rw [hv]
    refine ⟨by omega, x0_can, ?_, ⟨Nat.two_pow_pos _, by show 1 < 2 ^ 128; decide, by decide, by decide⟩, fun _ => rfl, fun h => absurd s0 h⟩
    rw [s0]
    show sgn false * (((0 : Nat) : Rat) / ((1 : Nat) : Rat)) * (2 : Rat) ^ (0 : Int) = _
    have z : ((0 : Nat) : Rat) = 0 := rfl
    rw [z, Rat.mul_zero, Rat.zero_mul, Rat.div_def, Rat.zero_mul, Rat.mul_zero, Rat.zero_mul]
  · have hc : kC f (enc7 f neg e t) = 1 ∨ kC f (enc7 f neg e t) = 2 ∨ kC f (enc7 f neg e t) = 5 ∨ kC f (enc7 f neg e t) = 6 := by
      rw [hC]
      by_cases e0 : e = 0
      · have t0 : t ≠ 0 := by
          unfold sV at s0
          rw [if_pos e0] at s0
          exact s0
        rw [if_neg (by omega), if_pos t0]
        cases neg <;> simp
      · rw [if_pos e0]
        cases neg <;> simp
    obtain ⟨q1, q2, q3, q4⟩ := k_parts (f := f) _ hc
    rw [k3, k4] at q2
    rw [k3] at q3
    have hm := vX_mk hf (enc7 f neg e t) (by omega)
    rw [k2, q2, q3] at hm
    have w := mk_whole neg (sV f e t) (xV f e) s0 (by omega) (by
      have := tz_blen (sV f e t)
      have := blen_le_of (sV f e t) 128 sl
      omega)
    have hv : vX f (enc7 f neg e t) = ⟨neg, od (sV f e t), 1, xV f e + (tz (sV f e t) : Int)⟩ := by
      rw [hm] at w
      injection w
    have o1 := od_is (sV f e t) s0
    have od0 : od (sV f e t) ≠ 0 := by omega
    have me : (mk neg (sV f e t) 1 (xV f e)).2 = 0 := by rw [hm]
    have mv := mk_val neg (sV f e t) 1 (xV f e) (by decide) me
    have mc := mk_can neg (sV f e t) 1 (xV f e) (nl_pow _ 128 sl (by decide)) (nl_pow 1 1 (by decide) (by decide)) (by decide) me
    have mb := (mk_ok neg (sV f e t) 1 (xV f e) 128 20000 20128 sl (by decide) rfl (by omega) (by omega) rfl (by decide)).2
    rw [hm] at mv mc mb
    simp only [] at mv mc mb
    refine ⟨by omega, mc, ?_, ⟨mb.1, mb.2.1, by have := mb.2.2.1; omega, by have := mb.2.2.2; omega⟩, fun h => absurd h s0, fun _ => ?_⟩
    · rw [mv, show ((1 : Nat) : Rat) = 1 from rfl, Rat.div_def, show (1 : Rat)⁻¹ = 1 by decide +kernel, Rat.mul_one]
    · rw [hv]
      exact ⟨od0, rfl⟩
/-- The next magnitude. -/
def upE (f : Int) (e t : Nat) : Nat := if t + 1 = 2 ^ pV f then e + 1 else e
def upT (f : Int) (t : Nat) : Nat := if t + 1 = 2 ^ pV f then 0 else t + 1
theorem up_lim {f : Int} (hf : Is4 f) (e t : Nat) (ht : t < 2 ^ pV f) : upT f t < 2 ^ pV f ∧ upE f e t * 2 ^ pV f + upT f t = e * 2 ^ pV f + t + 1 ∧ sV f (upE f e t) (upT f t) ≠ 0 := by
  have p := Nat.two_pow_pos (pV f)
  unfold upT upE sV
  split
  · rename_i h
    refine ⟨p, by rw [Nat.add_mul]; omega, ?_⟩
    rw [if_neg (by omega)]
    omega
  · refine ⟨by omega, by omega, ?_⟩
    split <;> omega
theorem up_enc {f : Int} (hf : Is4 f) (neg : Bool) (e t : Nat) (ht : t < 2 ^ pV f) : enc7 f neg (upE f e t) (upT f t) = enc7 f neg e t + 1 := by
  have h := (up_lim hf e t ht).2.1
  unfold enc7
  omega
theorem up_val {f : Int} (hf : Is4 f) (e t : Nat) (ht : t < 2 ^ pV f) : ((sV f (upE f e t) (upT f t) : Nat) : Rat) * (2 : Rat) ^ (xV f (upE f e t)) = (((sV f e t + 1 : Nat) : Nat) : Rat) * (2 : Rat) ^ (xV f e) := by
  have p := Nat.two_pow_pos (pV f)
  unfold upE upT
  by_cases h : t + 1 = 2 ^ pV f
  · rw [if_pos h, if_pos h]
    by_cases e0 : e = 0
    · unfold sV xV
      rw [if_neg (by omega), if_neg (by omega), if_pos e0, if_pos e0, e0]
      rw [show lx f + ((0 + 1 : Nat) : Int) - 1 = lx f by omega, Nat.add_zero, h]
    · unfold sV xV
      rw [if_neg (by omega), if_neg (by omega), if_neg e0, if_neg e0]
      rw [show lx f + ((e + 1 : Nat) : Int) - 1 = 1 + (lx f + (e : Int) - 1) by omega, p2add, show 2 ^ pV f + t + 1 = 2 ^ pV f * 2 by omega, Rat.natCast_mul, Rat.mul_assoc, Nat.add_zero]
      rw [show (2 : Rat) ^ (1 : Int) = ((2 : Nat) : Rat) by decide +kernel]
  · rw [if_neg h, if_neg h]
    unfold sV xV
    split
    · rfl
    · rw [Nat.add_assoc]
theorem addX_is (X Y Z : XN) (hx : X.can) (hy : Y.can) (hz : Z.can) (bx : Bd X 128 20200) (bz : Bd Y 128 20200) (hv : X.val + Y.val = Z.val) : addX X Y = (Z, 0) := by
  have h1 := add_ok X Y 128 128 20200 20200 40657 81057 hx hy bx bz rfl rfl (by decide) (by decide)
  have h2 := add_good X Y hx hy h1.1
  have h3 := can_inj _ Z h2.1 hz (by rw [h2.2, hv])
  exact Prod.ext h3 h1.1
theorem cmp_pos (X Y : XN) (hx : X.can) (hy : Y.can) (bx : Bd X 128 20200) (bz : Bd Y 128 20200) (xb : X.b = false) (y0 : Y.n ≠ 0) (yb : Y.b = false) (h : X.val < Y.val) : ∃ c, cmpX X Y = (c, 0) ∧ c < 0 := by
  have h1 := cmp_ok X Y 128 128 20200 20200 bx bz (by decide)
  have h2 := cmp_good X Y hx hy xb y0 yb h1
  refine ⟨(cmpX X Y).1, Prod.ext rfl h1, ?_⟩
  rw [h2, cmpR_lt]
  rw [val_mag, val_mag, xb, yb] at h
  have s1 : sgn false = 1 := rfl
  rw [s1, Rat.one_mul, Rat.one_mul] at h
  exact h
theorem cmp_null (X : XN) (x0 : X.n ≠ 0) (xb : X.b = true) : ∃ c, cmpX X X0 = (c, 0) ∧ c < 0 := by
  refine ⟨-1, ?_, by decide⟩
  unfold cmpX
  have s1 : sg X = -1 := by unfold sg; rw [if_neg x0, xb]; rfl
  have s2 : sg X0 = 0 := rfl
  rw [s1, s2, if_pos (by decide)]
theorem cmp_neg (X Y : XN) (hx : X.can) (hy : Y.can) (bx : Bd X 128 20200) (bz : Bd Y 128 20200) (x0 : X.n ≠ 0) (xb : X.b = true) (y0 : Y.n ≠ 0) (yb : Y.b = true) (h : X.val < Y.val) : ∃ c, cmpX X Y = (c, 0) ∧ c < 0 := by
  have h1 := cmp_ok X Y 128 128 20200 20200 bx bz (by decide)
  refine ⟨(cmpX X Y).1, Prod.ext rfl h1, ?_⟩
  have s1 : sg X = -1 := by unfold sg; rw [if_neg x0, xb]; rfl
  have s2 : sg Y = -1 := by unfold sg; rw [if_neg y0, yb]; rfl
  have mg : Y.mag < X.mag := by
    rw [val_mag, val_mag, xb, yb] at h
    have s1 : sgn true = -1 := rfl
    rw [s1] at h
    grind
  have k := mag_cmp X Y hx.d0 hy.d0
  have k1 : cmpR X.mag Y.mag = 1 := by
    unfold cmpR
    rw [if_neg (by grind), if_pos mg]
  unfold cmpX at h1 ⊢
  rw [s1, s2, if_neg (by decide), if_neg (by decide), if_neg (by decide)] at h1 ⊢
  split
  · show (-1 : Int) * cmpv (sA X Y) (sA Y X) < 0
    rw [← k, k1]
    decide
  · rename_i hh
    rw [if_neg hh] at h1
    exact absurd h1 (by decide)
/-- The middle of two numbers that stand side by side. -/
theorem near {f : Int} (hf : Is4 f) (neg : Bool) (e t : Nat) (he : upE f e t < oV f) (ht : t < 2 ^ pV f) (X Y : XN)
    (h : (X = vX f (enc7 f neg e t) ∧ Y = vX f (enc7 f neg (upE f e t) (upT f t))) ∨ (Y = vX f (enc7 f neg e t) ∧ X = vX f (enc7 f neg (upE f e t) (upT f t)))) :
    ∃ Z M, addX X Y = (Z, 0) ∧ Z.can ∧ scaleX Z (-1) = (M, 0) ∧ M.can ∧ ofX f M = (0, false) := by
  have e1 : e < oV f := by unfold upE at he; split at he <;> omega
  obtain ⟨u1, u2, u3⟩ := up_lim hf e t ht
  obtain ⟨_, c1, v1, b1, _, _⟩ := vX_enc hf neg e t e1 ht
  obtain ⟨_, c2, v2, b2, _, _⟩ := vX_enc hf neg (upE f e t) (upT f t) he u1
  obtain ⟨m1, m2⟩ := mid_none hf neg e t e1 ht
  obtain ⟨p1, p2', p3, p4, p5, p6, p7⟩ := nb_p hf
  have xl : -20000 ≤ xV f e ∧ xV f e ≤ 20000 := by unfold xV; split <;> omega
  have sl : sV f e t < 2 ^ 128 := by unfold sV; split <;> omega
  have zc : (XN.mk neg (2 * sV f e t + 1) 1 (xV f e)).can := by
    refine ⟨?_, ?_, ?_, ?_, Or.inr ⟨?_, rfl, Nat.gcd_one_right _⟩⟩
    · show nl (2 * sV f e t + 1) ≤ 16384
      exact nl_pow _ 129 (by rw [Nat.pow_succ]; omega) (by decide)
    · show nl 1 ≤ 16384
      exact nl_pow _ 1 (by decide) (by decide)
    · show -1048576 ≤ xV f e; omega
    · show xV f e ≤ 1048576; omega
    · show (2 * sV f e t + 1) % 2 = 1; omega
  have zv : (XN.mk neg (2 * sV f e t + 1) 1 (xV f e)).val = sgn neg * ((sV f e t : Nat) : Rat) * (2 : Rat) ^ (xV f e) + sgn neg * ((sV f (upE f e t) (upT f t) : Nat) : Rat) * (2 : Rat) ^ (xV f (upE f e t)) := by
    rw [Rat.mul_assoc (sgn neg) ((sV f (upE f e t) (upT f t) : Nat) : Rat), up_val hf e t ht]
    show sgn neg * (((2 * sV f e t + 1 : Nat) : Rat) / ((1 : Nat) : Rat)) * (2 : Rat) ^ (xV f e) = _
    rw [show ((1 : Nat) : Rat) = 1 from rfl, Rat.div_def, show (1 : Rat)⁻¹ = 1 by decide +kernel, Rat.mul_one, Rat.natCast_add, Rat.natCast_mul, Rat.natCast_add]
    rw [show ((1 : Nat) : Rat) = 1 from rfl, show ((2 : Nat) : Rat) = 2 from rfl]
    generalize (2 : Rat) ^ (xV f e) = P
    generalize ((sV f e t : Nat) : Rat) = S
    generalize sgn neg = g
    grind
  refine ⟨⟨neg, 2 * sV f e t + 1, 1, xV f e⟩, ⟨neg, 2 * sV f e t + 1, 1, xV f e - 1⟩, ?_, zc, ?_, m1, m2⟩
  · rcases h with ⟨rfl, rfl⟩ | ⟨rfl, rfl⟩
    · exact addX_is _ _ _ c1 c2 zc b1 b2 (by rw [v1, v2, zv])
    · exact addX_is _ _ _ c2 c1 zc b2 b1 (by rw [v1, v2, zv, Rat.add_comm])
  · unfold scaleX
    rw [if_neg (by show 2 * sV f e t + 1 ≠ 0; omega), if_pos (by show -1048576 ≤ xV f e + -1 ∧ xV f e + -1 ≤ 1048576; omega)]
    rfl
theorem up_lt {f : Int} (hf : Is4 f) (e t : Nat) (he : upE f e t < oV f) (ht : t < 2 ^ pV f) : (vX f (enc7 f false e t)).val < (vX f (enc7 f false (upE f e t) (upT f t))).val ∧ (vX f (enc7 f true (upE f e t) (upT f t))).val < (vX f (enc7 f true e t)).val := by
  have e1 : e < oV f := by unfold upE at he; split at he <;> omega
  obtain ⟨u1, u2, u3⟩ := up_lim hf e t ht
  have v1 := fun neg => (vX_enc hf neg e t e1 ht).2.2.1
  have v2 := fun neg => (vX_enc hf neg (upE f e t) (upT f t) he u1).2.2.1
  rw [v1, v2, v1, v2, Rat.mul_assoc (sgn false) ((sV f (upE f e t) (upT f t) : Nat) : Rat), Rat.mul_assoc (sgn true) ((sV f (upE f e t) (upT f t) : Nat) : Rat), up_val hf e t ht, Rat.natCast_add]
  have pp := p2 (xV f e)
  rw [show ((1 : Nat) : Rat) = 1 from rfl, show sgn false = 1 from rfl, show sgn true = -1 from rfl]
  generalize (2 : Rat) ^ (xV f e) = P at *
  generalize ((sV f e t : Nat) : Rat) = S
  constructor <;> grind
end Go.Proofs.YtkmlbjlaahcahaaGreatDoor
namespace Go.Proofs.YtkmlbjlaahcahaaGreatDoor
set_option maxRecDepth 100000
open Go.RowKit WMath XMath

/-- What times answers. -/
def tmX (a b k : Nat) : ByteArray × Int := if nl (a * b * 2 ^ k) ≤ 16384 then (nbA (a * b * 2 ^ k), 0) else (⟨#[]⟩, 4)
theorem mul_pow_le (a k : Nat) : a ≤ a * 2 ^ k := Nat.le_mul_of_pos_right _ (Nat.two_pow_pos _)
set_option maxRecDepth 100000 in
theorem timesx (a b k : Nat) (s t v : ByteArray) (er : Int) (hs : nbA a = s) (ht : nbA b = t) (ha : nl a ≤ 16384) (hb : nl b ≤ 16384) (k2 : k ≤ 100000000) (hr : tmX a b k = (v, er)) (w : World) : Calls Tryz.prog 158 #[.string s, .string t, .int .i64 (k : Int)] w fun r w' => r = .returned (.tuple #[.string v, .int .i64 er]) ∧ Below w.heap.size w w' := by
  have HS := box hs
  have HT := box ht
  have HA := box ha
  have HB := box hb
  unfold tmX at hr
  by_cases h1 : nl (a * b) ≤ 16384
  · obtain ⟨x, hx⟩ : ∃ x, nbA (a * b) = x := ⟨_, rfl⟩
    have HX := box (lg_ok (a * b) x h1 hx)
    have F : Box (lf (a * b) (k : Int) = (v, er)) := box (by unfold lf; rw [if_neg (by omega), Int.toNat_natCast]; unfold lg; exact hr)
    have H1 := box h1
    have HX2 := box hx
    clear hs ht ha hb hr h1 hx
    have B0 : Below w.heap.size w w := (Below.refl _ _)
    go_enter Tryz.func158, Tryz.ntmps158
    go_wp2_with fail
    refine (pn_mul_ok a b s t x 0 HS.out HT.out HA.out HB.out HX.out _).mono ?_
    rintro r w1 ⟨rfl, b1⟩
    have B1 : Below w.heap.size w w1 := btr B0 b1
    clear b1 B0 
    go_wp2_with fail
    refine (pn_left_ok (a * b) (k : Int) x v er HX2.out H1.out (by omega) (by omega) F.out _).mono ?_
    rintro r w2 ⟨rfl, b2⟩
    have B2 : Below w.heap.size w w2 := btr B1 b2
    clear b2 B1 
    go_wp2
    go_ret2
    exact ⟨rfl, B2⟩
  · have HX := box (lg_no (a * b) h1)
    have h2 : ¬ nl (a * b * 2 ^ k) ≤ 16384 := fun h => h1 (Nat.le_trans (nl_mono _ _ (mul_pow_le _ _)) h)
    rw [if_neg h2] at hr
    cases hr
    clear hs ht ha hb h1 h2
    have B0 : Below w.heap.size w w := (Below.refl _ _)
    go_enter Tryz.func158, Tryz.ntmps158
    go_wp2_with fail
    refine (pn_mul_ok a b s t _ 4 HS.out HT.out HA.out HB.out HX.out _).mono ?_
    rintro r w1 ⟨rfl, b1⟩
    have B1 : Below w.heap.size w w1 := btr B0 b1
    clear b1 B0 
    go_wp2
    go_ret2
    exact ⟨rfl, B1⟩

set_option maxRecDepth 100000 in
set_option maxHeartbeats 1000000 in
theorem alikex (b : Bool) (n d : Nat) (e : Int) (s t : ByteArray) (c : Bool) (m f : Nat) (g : Int) (p q : ByteArray) (u v : ByteArray) (er : Int)
    (hs : nbA n = s) (ht : nbA d = t) (hp : nbA m = p) (hq : nbA f = q) (ln : nl n ≤ 16384) (ld : nl d ≤ 16384) (lm : nl m ≤ 16384) (lf : nl f ≤ 16384) (he : -1048576 ≤ e ∧ e ≤ 1048576 ∧ -1048576 ≤ g ∧ g ≤ 1048576)
    (hr : (if nl (XMath.sA (XN.mk b n d e) (XN.mk c m f g)) ≤ 16384 ∧ nl (XMath.sA (XN.mk c m f g) (XN.mk b n d e)) ≤ 16384 then (nbA (XMath.sA (XN.mk b n d e) (XN.mk c m f g)), nbA (XMath.sA (XN.mk c m f g) (XN.mk b n d e)), (0 : Int)) else (⟨#[]⟩, ⟨#[]⟩, 4)) = (u, v, er)) (w : World) :
    Calls Tryz.prog 85 #[.agg #[.bool b, .string s, .string t, .int .i64 e], .agg #[.bool c, .string p, .string q, .int .i64 g]] w fun r w' => r = .returned (.tuple #[.string u, .string v, .int .i64 er]) ∧ Below w.heap.size w w' := by
  obtain ⟨L, hL⟩ : ∃ L, min e g = L := ⟨_, rfl⟩
  obtain ⟨i, hi⟩ : ∃ i, (e - L).toNat = i := ⟨_, rfl⟩
  obtain ⟨j, hj⟩ : ∃ i, (g - L).toNat = i := ⟨_, rfl⟩
  have eA : XMath.sA (XN.mk b n d e) (XN.mk c m f g) = n * f * 2 ^ i := by unfold XMath.sA; show n * f * 2 ^ (e - min e g).toNat = _; rw [hL, hi]
  have eB : XMath.sA (XN.mk c m f g) (XN.mk b n d e) = m * d * 2 ^ j := by unfold XMath.sA; show m * d * 2 ^ (g - min g e).toNat = _; rw [Int.min_comm g e, hL, hj]
  rw [eA, eB] at hr
  have n1 : IntKind.i64.wrap (e - L) = (i : Int) := by rw [wrap_i64_is _ (by omega) (by omega)]; omega
  have n2 : IntKind.i64.wrap (g - L) = (j : Int) := by rw [wrap_i64_is _ (by omega) (by omega)]; omega
  have i2 : i ≤ 100000000 := by omega
  have j2 : j ≤ 100000000 := by omega
  by_cases h1 : nl (n * f * 2 ^ i) ≤ 16384
  · obtain ⟨x, hx⟩ : ∃ x, nbA (n * f * 2 ^ i) = x := ⟨_, rfl⟩
    have K1 := box (fun w => timesx n f i s q x 0 hs hq ln lf i2 (by unfold tmX; rw [if_pos h1, hx]) w)
    by_cases h2 : nl (m * d * 2 ^ j) ≤ 16384
    · rw [if_pos ⟨h1, h2⟩] at hr
      obtain ⟨y, hy⟩ : ∃ x, nbA (m * d * 2 ^ j) = x := ⟨_, rfl⟩
      rw [hx, hy] at hr
      cases hr
      have K2 := box (fun w => timesx m d j p t v 0 hp ht lm ld j2 (by unfold tmX; rw [if_pos h2, hy]) w)
      clear hs ht hp hq ln ld lm lf he hi hj eA eB h1 h2 hx hy i2 j2
      obtain ⟨Rx_0, Ry_0, B0⟩ := opn2 w (Obj.cells #[.bool b, .string s, .string t, .int .i64 e] 28) (Obj.cells #[.bool c, .string p, .string q, .int .i64 g] 28)
      go_enter Tryz.func85, Tryz.ntmps85
      go_wp2_with fail
      refine (K1.out _).mono ?_
      rintro r w1 ⟨rfl, b1⟩
      have B1 : Below w.heap.size w w1 := btr B0 b1
      have Rx_1 := heap_of b1 _ _ _ Rx_0
      have Ry_1 := heap_of b1 _ _ _ Ry_0
      clear b1 B0 Rx_0 Ry_0
      obtain ⟨cx_1_0, cx_1_1, cx_1_2, cx_1_3⟩ := cells4s Rx_1
      obtain ⟨cy_1_0, cy_1_1, cy_1_2, cy_1_3⟩ := cells4s Ry_1
      go_wp2_with fail
      refine (K2.out _).mono ?_
      rintro r w2 ⟨rfl, b2⟩
      have B2 : Below w.heap.size w w2 := btr B1 b2
      have Rx_2 := heap_of b2 _ _ _ Rx_1
      have Ry_2 := heap_of b2 _ _ _ Ry_1
      clear b2 B1 Rx_1 cx_1_0 cx_1_1 cx_1_2 cx_1_3 Ry_1 cy_1_0 cy_1_1 cy_1_2 cy_1_3
      obtain ⟨cx_2_0, cx_2_1, cx_2_2, cx_2_3⟩ := cells4s Rx_2
      obtain ⟨cy_2_0, cy_2_1, cy_2_2, cy_2_3⟩ := cells4s Ry_2
      go_wp2
      go_ret3
      exact ⟨rfl, B2⟩
    · rw [if_neg (fun h => h2 h.2)] at hr
      cases hr
      have K2 := box (fun w => timesx m d j p t ⟨#[]⟩ 4 hp ht lm ld j2 (by unfold tmX; rw [if_neg h2]) w)
      clear hs ht hp hq ln ld lm lf he hi hj eA eB h1 h2 hx i2 j2
      obtain ⟨Rx_0, Ry_0, B0⟩ := opn2 w (Obj.cells #[.bool b, .string s, .string t, .int .i64 e] 28) (Obj.cells #[.bool c, .string p, .string q, .int .i64 g] 28)
      go_enter Tryz.func85, Tryz.ntmps85
      go_wp2_with fail
      refine (K1.out _).mono ?_
      rintro r w1 ⟨rfl, b1⟩
      have B1 : Below w.heap.size w w1 := btr B0 b1
      have Rx_1 := heap_of b1 _ _ _ Rx_0
      have Ry_1 := heap_of b1 _ _ _ Ry_0
      clear b1 B0 Rx_0 Ry_0
      obtain ⟨cx_1_0, cx_1_1, cx_1_2, cx_1_3⟩ := cells4s Rx_1
      obtain ⟨cy_1_0, cy_1_1, cy_1_2, cy_1_3⟩ := cells4s Ry_1
      go_wp2_with fail
      refine (K2.out _).mono ?_
      rintro r w2 ⟨rfl, b2⟩
      have B2 : Below w.heap.size w w2 := btr B1 b2
      have Rx_2 := heap_of b2 _ _ _ Rx_1
      have Ry_2 := heap_of b2 _ _ _ Ry_1
      clear b2 B1 Rx_1 cx_1_0 cx_1_1 cx_1_2 cx_1_3 Ry_1 cy_1_0 cy_1_1 cy_1_2 cy_1_3
      obtain ⟨cx_2_0, cx_2_1, cx_2_2, cx_2_3⟩ := cells4s Rx_2
      obtain ⟨cy_2_0, cy_2_1, cy_2_2, cy_2_3⟩ := cells4s Ry_2
      go_wp2
      go_ret3
      exact ⟨rfl, B2⟩
  · rw [if_neg (fun h => h1 h.1)] at hr
    cases hr
    have K1 := box (fun w => timesx n f i s q ⟨#[]⟩ 4 hs hq ln lf i2 (by unfold tmX; rw [if_neg h1]) w)
    clear hs ht hp hq ln ld lm lf he hi hj eA eB h1 i2 j2
    obtain ⟨Rx_0, Ry_0, B0⟩ := opn2 w (Obj.cells #[.bool b, .string s, .string t, .int .i64 e] 28) (Obj.cells #[.bool c, .string p, .string q, .int .i64 g] 28)
    go_enter Tryz.func85, Tryz.ntmps85
    go_wp2_with fail
    refine (K1.out _).mono ?_
    rintro r w1 ⟨rfl, b1⟩
    have B1 : Below w.heap.size w w1 := btr B0 b1
    have Rx_1 := heap_of b1 _ _ _ Rx_0
    have Ry_1 := heap_of b1 _ _ _ Ry_0
    clear b1 B0 Rx_0 Ry_0
    obtain ⟨cx_1_0, cx_1_1, cx_1_2, cx_1_3⟩ := cells4s Rx_1
    obtain ⟨cy_1_0, cy_1_1, cy_1_2, cy_1_3⟩ := cells4s Ry_1
    go_wp2
    go_ret3
    exact ⟨rfl, B1⟩

/-- What signedSum answers. -/
def ssX (b c : Bool) (x y : Nat) : Bool × ByteArray × Int := if b = c then (b, lg (x + y)) else if x < y then (c, nbA (y - x), 0) else (b, nbA (x - y), 0)
set_option maxRecDepth 100000 in
set_option maxHeartbeats 1000000 in
theorem signedSumx (b c : Bool) (x y : Nat) (s t : ByteArray) (o : Bool) (v : ByteArray) (er : Int) (hs : nbA x = s) (ht : nbA y = t) (lx : nl x ≤ 16384) (ly : nl y ≤ 16384) (hr : ssX b c x y = (o, v, er)) (w : World) :
    Calls Tryz.prog 163 #[.bool b, .bool c, .string s, .string t] w fun r w' => r = .returned (.tuple #[.bool o, .string v, .int .i64 er]) ∧ Below w.heap.size w w' := by
  obtain ⟨k, hk⟩ : ∃ k, cmpv x y = k := ⟨_, rfl⟩
  have hlt : decide (k < 0) = decide (x < y) := by rw [← hk, Bool.eq_iff_iff, decide_eq_true_iff, decide_eq_true_iff]; exact cmpv_neg _ _
  have HS := box hs
  have HT := box ht
  have LX := box lx
  have LY := box ly
  have HK := box hk
  unfold ssX at hr
  by_cases hb : b = c
  · subst hb
    rw [if_pos rfl] at hr
    injection hr with h1 h2
    subst h1
    have HR := box h2
    have e0 : (b == b) = true := by cases b <;> rfl
    clear hs ht lx ly hk hlt h2
    have B0 : Below w.heap.size w w := (Below.refl _ _)
    go_enter Tryz.func163, Tryz.ntmps163
    go_wp2_with fail
    refine (pn_cmp_ok x y s t k HS.out HT.out LX.out LY.out HK.out _).mono ?_
    rintro r w1 ⟨rfl, b1⟩
    have B1 : Below w.heap.size w w1 := btr B0 b1
    clear b1 B0 
    go_wp2_with fail
    refine (pn_add_ok x y s t v er HS.out HT.out LX.out LY.out HR.out _).mono ?_
    rintro r w2 ⟨rfl, b2⟩
    have B2 : Below w.heap.size w w2 := btr B1 b2
    clear b2 B1 
    go_wp2
    go_ret3
    exact ⟨rfl, B2⟩
  · rw [if_neg hb] at hr
    have e0 : (b == c) = false := by cases b <;> cases c <;> first | rfl | exact absurd rfl hb
    by_cases hl : x < y
    · rw [if_pos hl] at hr
      rw [decide_eq_true hl] at hlt
      cases hr
      have HR : Box (sb y x = (nbA (y - x), 0)) := box (by unfold sb; rw [if_neg (by omega)])
      obtain ⟨v, hv⟩ : ∃ v, nbA (y - x) = v := ⟨_, rfl⟩
      rw [hv] at HR ⊢
      clear hs ht lx ly hk hl hb hv
      have B0 : Below w.heap.size w w := (Below.refl _ _)
      go_enter Tryz.func163, Tryz.ntmps163
      go_wp2_with fail
      refine (pn_cmp_ok x y s t k HS.out HT.out LX.out LY.out HK.out _).mono ?_
      rintro r w1 ⟨rfl, b1⟩
      have B1 : Below w.heap.size w w1 := btr B0 b1
      clear b1 B0 
      go_wp2_with fail
      refine (pn_sub_ok y x t s v 0 HT.out HS.out LY.out LX.out HR.out _).mono ?_
      rintro r w2 ⟨rfl, b2⟩
      have B2 : Below w.heap.size w w2 := btr B1 b2
      clear b2 B1 
      go_wp2
      go_ret3
      exact ⟨rfl, B2⟩
    · rw [if_neg hl] at hr
      rw [decide_eq_false hl] at hlt
      cases hr
      have HR : Box (sb x y = (nbA (x - y), 0)) := box (by unfold sb; rw [if_neg hl])
      obtain ⟨v, hv⟩ : ∃ v, nbA (x - y) = v := ⟨_, rfl⟩
      rw [hv] at HR ⊢
      clear hs ht lx ly hk hl hb hv
      have B0 : Below w.heap.size w w := (Below.refl _ _)
      go_enter Tryz.func163, Tryz.ntmps163
      go_wp2_with fail
      refine (pn_cmp_ok x y s t k HS.out HT.out LX.out LY.out HK.out _).mono ?_
      rintro r w1 ⟨rfl, b1⟩
      have B1 : Below w.heap.size w w1 := btr B0 b1
      clear b1 B0 
      go_wp2_with fail
      refine (pn_sub_ok x y s t v 0 HS.out HT.out LX.out LY.out HR.out _).mono ?_
      rintro r w2 ⟨rfl, b2⟩
      have B2 : Below w.heap.size w w2 := btr B1 b2
      clear b2 B1 
      go_wp2
      go_ret3
      exact ⟨rfl, B2⟩
end Go.Proofs.YtkmlbjlaahcahaaGreatDoor
