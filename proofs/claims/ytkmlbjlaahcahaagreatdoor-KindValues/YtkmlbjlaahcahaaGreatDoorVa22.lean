/-
  What the functions that the statement reaches return: part 22 (V9, SL, VL).
-/
import Derived.Test.YtkmlbjlaahcahaaGreatDoorRows
import Derived.OpenShut
import Derived.LaidMore
import Derived.Lib.LaidTab
import Derived.Stop.Joined
import Derived.Stop.LaidErr
import Derived.Test.YtkmlbjlaahcahaaGreatDoorVa21
namespace Go.Proofs.YtkmlbjlaahcahaaGreatDoor
set_option maxRecDepth 100000
open Go.RowKit WMath XMath
set_option linter.unusedSimpArgs false
set_option linter.unusedVariables false

/-- The value of a finite encoding. -/
def vX (f : Int) (n : Nat) : XN := (mk (kN f n) (kS f n) 1 (kX f n)).1
theorem kS_lim {f : Int} (hf : Is4 f) (n : Nat) : kS f n < 340282366920938463463374607431768211456 ∧ -20000 ≤ kX f n ∧ kX f n ≤ 20000 := by
  obtain ⟨g1, g2, g3, g4, g5, g6, g7⟩ := fm hf
  obtain ⟨l1, l2, l3, l4, l5⟩ := lx_lim hf
  obtain ⟨n1, n2, n3, n4, n5, n6⟩ := nm8 hf
  have tl := kT_lt (f := f) n
  have el := kE_le (f := f) n
  have oe : (oV f : Int) = 2 * fE f + 1 := by unfold oV; omega
  have pn : 2 ^ pV f + kT f n < 340282366920938463463374607431768211456 := by rw [g1, Nat.add_mul] at g7; have := Nat.mul_le_mul_right (2 ^ pV f) g5; omega
  refine ⟨?_, ?_, ?_⟩
  · unfold kS; split <;> (try split) <;> omega
  · unfold kX; split <;> (try split) <;> omega
  · unfold kX; split <;> (try split) <;> omega
theorem k_parts {f : Int} (n : Nat) (h : kC f n = 1 ∨ kC f n = 2 ∨ kC f n = 5 ∨ kC f n = 6) : kE f n < oV f ∧ kS f n = sV f (kE f n) (kT f n) ∧ kX f n = xV f (kE f n) ∧ kS f n ≠ 0 := by
  have el := kE_le (f := f) n
  have p := Nat.two_pow_pos (pV f)
  have h2 := h
  unfold kC at h2
  by_cases c1 : kE f n = oV f
  · rw [if_pos c1] at h2
    exfalso
    (repeat' split at h2) <;> omega
  · rw [if_neg c1] at h2
    unfold kS kX sV xV
    by_cases c2 : kE f n = 0
    · rw [if_neg (by omega)] at h2
      by_cases c3 : kT f n = 0
      · rw [if_neg (by omega)] at h2
        exfalso
        split at h2 <;> omega
      · rw [if_pos c3] at h2
        have hc : kC f n = 2 ∨ kC f n = 5 := by
          unfold kC
          rw [if_neg c1, if_neg (by omega), if_pos c3]
          cases kN f n <;> simp
        rw [if_pos hc, if_pos hc, if_pos c2, if_pos c2]
        exact ⟨by omega, rfl, rfl, c3⟩
    · have hc : kC f n = 1 ∨ kC f n = 6 := by
        unfold kC
        rw [if_neg c1, if_pos c2]
        cases kN f n <;> simp
      have hn : ¬ (kC f n = 2 ∨ kC f n = 5) := by omega
      rw [if_neg hn, if_neg hn, if_pos hc, if_pos hc, if_neg c2, if_neg c2]
      exact ⟨by omega, rfl, rfl, by omega⟩
theorem k_null {f : Int} (n : Nat) (h : kC f n = 3 ∨ kC f n = 4) : kS f n = 0 ∧ kX f n = 0 := by
  unfold kS kX
  rw [if_neg (by omega), if_neg (by omega), if_neg (by omega), if_neg (by omega)]
  exact ⟨rfl, rfl⟩
theorem vX_mk {f : Int} (hf : Is4 f) (n : Nat) (h : 0 < kC f n ∧ kC f n < 7) : mk (kN f n) (kS f n) 1 (kX f n) = (vX f n, 0) := by
  unfold vX
  by_cases c : kC f n = 3 ∨ kC f n = 4
  · rw [(k_null n c).1, mk_null]
  · obtain ⟨a, b, d, e⟩ := k_parts (f := f) n (by omega)
    have := (val_of hf (kN f n) (kE f n) (kT f n) a (kT_lt n) (by rw [← b]; exact e)).1
    rw [b, d, this]
theorem kValue_no (f : Int) (h0 : 0 ≤ f) (h1 : f ≤ 255) (x y n : Nat) (hx : x < 18446744073709551616) (hy : y < 18446744073709551616) (hn : y + 18446744073709551616 * x = n) (ho : okB f n = false) (w : World) (hT : FAt w) : Calls Tryz.prog 8 #[.int .u8 f, .agg #[.int .u64 (x : Nat), .int .u64 (y : Nat)]] w fun r w' => r = .returned (.tuple #[.agg #[.bool false, .string ⟨#[]⟩, .string ⟨#[]⟩, .int .i64 0], .int .i64 2]) ∧ Below w.heap.size w w' :=
  kvalue_no f x y w (box (fun w hT => kUnpack_no f h0 h1 x y n hx hy hn ho w hT)) hT
theorem kValue_inf (f : Int) (hf : Is4 f) (x y n : Nat) (hx : x < 18446744073709551616) (hy : y < 18446744073709551616) (hn : y + 18446744073709551616 * x = n) (ho : okB f n = true) (hc : ¬ (0 < kC f n ∧ kC f n < 7)) (w : World) (hT : FAt w) : Calls Tryz.prog 8 #[.int .u8 f, .agg #[.int .u64 (x : Nat), .int .u64 (y : Nat)]] w fun r w' => r = .returned (.tuple #[.agg #[.bool false, .string ⟨#[]⟩, .string ⟨#[]⟩, .int .i64 0], .int .i64 80]) ∧ Below w.heap.size w w' :=
  kvalue_inf f x y (kC f n) (kS f n) (kF f n) (kX f n) w (box (fun w hT => kUnpack_yes f hf x y n _ _ _ _ hx hy hn ho rfl w hT)) (box (fun w => kfin_is _ false (by simp only [Bool.and_eq_false_iff, decide_eq_false_iff_not]; omega) w)) hT
theorem kValue_yes (f : Int) (hf : Is4 f) (x y n : Nat) (hx : x < 18446744073709551616) (hy : y < 18446744073709551616) (hn : y + 18446744073709551616 * x = n) (ho : okB f n = true) (hc : 0 < kC f n ∧ kC f n < 7) (rb : Bool) (rn rd : Nat) (re : Int) (u v : ByteArray) (hv : vX f n = ⟨rb, rn, rd, re⟩) (hu1 : nbA rn = u) (hu2 : nbA rd = v) (w : World) (hT : FAt w) (hT2 : TabAt w) : Calls Tryz.prog 8 #[.int .u8 f, .agg #[.int .u64 (x : Nat), .int .u64 (y : Nat)]] w fun r w' => r = .returned (.tuple #[.agg #[.bool rb, .string u, .string v, .int .i64 re], .int .i64 0]) ∧ Below w.heap.size w w' := by
  obtain ⟨s1, s2, s3⟩ := kS_lim hf n
  have hm := vX_mk hf n hc
  rw [hv] at hm
  have ls : nl (kS f n) ≤ 16384 := nl_pow _ 128 (by rw [show (2 : Nat) ^ 128 = 340282366920938463463374607431768211456 by decide]; exact s1) (by decide)
  exact kvalue_yes f x y (kC f n) (kS f n) (kF f n) (kX f n) (kN f n) _ rb u v re 0 w (box (fun w hT => kUnpack_yes f hf x y n _ _ _ _ hx hy hn ho rfl w hT)) (box (fun w => kfin_is _ true (by simp only [Bool.and_eq_true, decide_eq_true_eq]; exact hc) w))
    (box (fun w hT => ksign_is f hf x y n _ hx hy hn rfl w hT)) (box (fun w => knatOf_is _ _ (lt_Q7 s1) rfl w)) (box (fun w hT => makex_ok _ _ 1 _ _ _ rb rn rd re 0 u v rfl nb1 ls nl1 (by decide) (by omega) (by omega) hm hu1 hu2 w hT)) hT hT2
theorem rValue_inf (f : Int) (hf : Is4 f) (x y n : Nat) (hx : x < 18446744073709551616) (hy : y < 18446744073709551616) (hn : y + 18446744073709551616 * x = n) (fit : Fit f n) (hc : ¬ (0 < kC f n ∧ kC f n < 7)) (w : World) : Calls Tryz.prog 10 #[.int .u8 f, .agg #[.int .u64 (x : Nat), .int .u64 (y : Nat)]] w fun r w' => r = .returned (.tuple #[.agg #[.bool false, .string ⟨#[]⟩, .string ⟨#[]⟩, .int .i64 0], .int .i64 80]) ∧ Below w.heap.size w w' :=
  rvalue_inf f x y (kC f n) (kS f n) (kF f n) (kX f n) w (box (fun w => rUnpack_is f hf x y n hx hy hn fit w)) (by have := kC_lt f n; omega)
theorem rValue_yes (f : Int) (hf : Is4 f) (x y n : Nat) (hx : x < 18446744073709551616) (hy : y < 18446744073709551616) (hn : y + 18446744073709551616 * x = n) (ho : okB f n = true) (fit : Fit f n) (hc : 0 < kC f n ∧ kC f n < 7) (rb : Bool) (rn rd : Nat) (re : Int) (u v : ByteArray) (hv : vX f n = ⟨rb, rn, rd, re⟩) (hu1 : nbA rn = u) (hu2 : nbA rd = v) (w : World) : Calls Tryz.prog 10 #[.int .u8 f, .agg #[.int .u64 (x : Nat), .int .u64 (y : Nat)]] w fun r w' => r = .returned (.tuple #[.agg #[.bool rb, .string u, .string v, .int .i64 re], .int .i64 0]) ∧ Below w.heap.size w w' := by
  obtain ⟨s1, s2, s3⟩ := kS_lim hf n
  have hm := vX_mk hf n hc
  rw [hv] at hm
  have ls : nl (kS f n) ≤ 16384 := nl_pow _ 128 (by rw [show (2 : Nat) ^ 128 = 340282366920938463463374607431768211456 by decide]; exact s1) (by decide)
  have ne : ∀ k : Nat, (k = 0 ∨ 7 ≤ k) → (((kC f n : Nat) : Int) == (k : Int)) = false := fun k hk => by rw [beq_eq_false_iff_ne]; omega
  exact rvalue_yes f x y (kC f n) (kS f n) (kF f n) (kX f n) (kN f n) _ rb u v re 0 w (box (fun w => rUnpack_is f hf x y n hx hy hn fit w))
    (box (fun w => rSign_yes f hf x y n _ hx hy hn ho rfl w)) (box (fun w => nat_OfWide _ _ (lt_Q7 s1) rfl w)) (box (fun w => rmake_ok _ _ 1 _ _ _ rb rn rd re 0 u v rfl nb1 ls nl1 (by decide) (by omega) (by omega) hm hu1 hu2 w)) (ne 8 (by omega)) (ne 9 (by omega)) (ne 0 (by omega)) (ne 7 (by omega))

theorem top_lim {x : XN} (hx : x.can) : -1200000 ≤ topX x ∧ topX x ≤ 1200000 := by
  obtain ⟨h1, h2, h3, h4, _⟩ := hx
  unfold nl at h1 h2
  unfold topX lenD
  split <;> omega
theorem bel_same {P : Program} {k : FuncId} {a : Array Value} {w : World} {v : Value} (h : Calls P k a w fun r w' => r = .returned v ∧ w' = w) : Calls P k a w fun r w' => r = .returned v ∧ Below w.heap.size w w' :=
  h.mono fun _ _ h => ⟨h.1, by rw [h.2]; exact Below.refl _ _⟩
theorem fC_yes {f : Int} (hf : Is4 f) : fC f = 0 := (is4_ok hf).2.2.1
theorem fC_no {f : Int} (h0 : 0 ≤ f) (hf : ¬ Is4 f) : fC f = 2 := by
  unfold Is4 at hf
  unfold fC
  rw [if_neg (by omega)]
theorem kOf_none (f : Int) (h0 : 0 ≤ f) (h1 : f ≤ 255) (hf : ¬ Is4 f) (b : Bool) (s t : ByteArray) (e : Int) (w : World) (hT : FAt w) (hT2 : TabAt w) : Calls Tryz.prog 12 #[.int .u8 f, .agg #[.bool b, .string s, .string t, .int .i64 e]] w fun r w' => r = .returned (.tuple #[.agg #[.int .u64 0, .int .u64 0], .bool false, .int .i64 2]) ∧ Below w.heap.size w w' :=
  kof_no1 f b s t e w (box (fun w => bel_same (s_check_is f 2 h0 h1 (fC_no h0 hf) w))) hT hT2
theorem kOf_no (f : Int) (hf : Is4 f) (b : Bool) (s t : ByteArray) (e : Int) (hm : ¬ MayX b s t e) (w : World) (hT : FAt w) (hT2 : TabAt w) : Calls Tryz.prog 12 #[.int .u8 f, .agg #[.bool b, .string s, .string t, .int .i64 e]] w fun r w' => r = .returned (.tuple #[.agg #[.int .u64 0, .int .u64 0], .bool false, .int .i64 2]) ∧ Below w.heap.size w w' :=
  kof_no2 f b s t e w (box (fun w => bel_same (s_check_is f 0 (is4_ok hf).1 (is4_ok hf).2.1 (fC_yes hf) w))) (box (fun w hT => xcheckM b s t e false (may_no hm) 2 rfl w hT)) hT hT2
theorem kOf_is (f : Int) (hf : Is4 f) (b : Bool) (n d : Nat) (s t : ByteArray) (e : Int) (hs : nbA n = s) (ht : nbA d = t) (hc : (XN.mk b n d e).can) (M : Nat) (is : Bool) (u v : Nat) (hr : ofX f ⟨b, n, d, e⟩ = (M, is)) (hv : bv7 M = (u, v)) (w : World) (hT : FAt w) (hT2 : TabAt w) : Calls Tryz.prog 12 #[.int .u8 f, .agg #[.bool b, .string s, .string t, .int .i64 e]] w fun r w' => r = .returned (.tuple #[.agg #[.int .u64 (u : Nat), .int .u64 (v : Nat)], .bool is, .int .i64 0]) ∧ Below w.heap.size w w' := by
  have f4 := is4_ok hf
  obtain ⟨n1, n2, n3, n4, n5, n6⟩ := nm8 hf
  have K1 : Box (∀ w, Calls Tryz.prog 45 #[.int .u8 f] w fun r w' => r = .returned (.int .i64 0) ∧ Below w.heap.size w w') := box (fun w => bel_same (s_check_is f 0 f4.1 f4.2.1 (fC_yes hf) w))
  have K2 : Box (∀ w, TabAt w → Calls Tryz.prog 46 #[.agg #[.bool b, .string s, .string t, .int .i64 e]] w fun r w' => r = .returned (.int .i64 0) ∧ Below w.heap.size w w') := box (fun w hT => xcheckM b s t e true (may_yes hs ht hc) 0 rfl w hT)
  by_cases n0 : n = 0
  · unfold ofX at hr
    rw [if_pos n0] at hr
    injection hr with h1 h2
    subst h1 h2
    injection hv with h3 h4
    subst h3 h4
    exact kof_zero f b s t e w K1 K2 (box (fun w hT => Signx_ok b n d e s t 0 hs ht hc (by unfold sg; rw [if_pos n0]) w hT)) (box (fun w hT => sk_zero f false hf 0 0 (by rcases hf with rfl | rfl | rfl | rfl <;> decide +kernel) w hT)) hT hT2
  · obtain ⟨g, hg⟩ : ∃ g, sg (XN.mk b n d e) = g := ⟨_, rfl⟩
    have g0 : (g == 0) = false := by
      rw [← hg, beq_eq_false_iff_ne]
      unfold sg
      rw [if_neg n0]
      cases b
      · show (if false = true then (-1 : Int) else 1) ≠ 0
        decide
      · show (if true = true then (-1 : Int) else 1) ≠ 0
        decide
    obtain ⟨T, hTop⟩ : ∃ T, topX (XN.mk b n d e) = T := ⟨_, rfl⟩
    obtain ⟨t1, t2⟩ := top_lim hc
    rw [hTop] at t1 t2
    have K3 : Box (∀ w, TabAt w → Calls Tryz.prog 47 #[.agg #[.bool b, .string s, .string t, .int .i64 e]] w fun r w' => r = .returned (.int .i64 g) ∧ Below w.heap.size w w') := box (fun w hT => Signx_ok b n d e s t g hs ht hc hg w hT)
    have K4 : Box (∀ w, TabAt w → Calls Tryz.prog 48 #[.agg #[.bool b, .string s, .string t, .int .i64 e]] w fun r w' => r = .returned (.tuple #[.int .i64 T, .int .i64 0]) ∧ Below w.heap.size w w') := box (fun w hT => Topx_ok b n d e s t T hs ht n0 hc hTop w hT)
    have K5 : Box (∀ w, FAt w → Calls Tryz.prog 49 #[.int .u8 f] w fun r w' => r = .returned (.int .i64 (fE f)) ∧ Below w.heap.size w w') := box (fun w hT => kb_emax f _ f4.1 f4.2.1 rfl w hT)
    by_cases hE : fE f < T
    · unfold ofX at hr
      rw [if_neg n0, if_pos (by rw [hTop]; exact hE)] at hr
      injection hr with h1 h2
      subst h1 h2
      injection hv with h3 h4
      subst h3 h4
      exact kof_over f b s t e g T _ w K1 K2 K3 K4 K5 g0 (decide_eq_true hE) hT hT2
    · obtain ⟨A, hA⟩ : ∃ A, ofA f (XN.mk b n d e) = A := ⟨_, rfl⟩
      have hA2 := hA
      unfold ofA at hA2
      rw [hTop] at hA2
      have fp : fP f = (pV f : Int) + 1 := (em_lim hf).2.2.2.2.2.2.2.2.1
      have K6 : Box (∀ w, FAt w → Calls Tryz.prog 50 #[.int .u8 f] w fun r w' => r = .returned (.int .i64 (1 - fE f)) ∧ Below w.heap.size w w') := box (fun w hT => s_emin f _ _ f4.1 f4.2.1 rfl (em_lim hf).2.2.2.2.1 w hT)
      have K7 : Box (∀ w, FAt w → Calls Tryz.prog 51 #[.int .u8 f] w fun r w' => r = .returned (.int .i64 (fP f)) ∧ Below w.heap.size w w') := box (fun w hT => kb_precision f _ f4.1 f4.2.1 rfl w hT)
      obtain ⟨⟨⟨m, o⟩, fe⟩, hfl⟩ : ∃ q, flX (XN.mk b n d e) A = q := ⟨_, rfl⟩
      obtain ⟨z, hz⟩ : ∃ z, nbA m = z := ⟨_, rfl⟩
      have K8 : Box (∀ w, TabAt w → Calls Tryz.prog 52 #[.agg #[.bool b, .string s, .string t, .int .i64 e], .int .i64 A] w fun r w' => r = .returned (.tuple #[.string z, .bool o, .int .i64 fe]) ∧ Below w.heap.size w w') := box (fun w hT => Floorx_ok b n d e s t A m o fe z hs ht hc (by omega) (by omega) hfl hz w hT)
      have a1 : IntKind.i64.wrap (max T (1 - fE f) - fP f) = max T (1 - fE f) - fP f := wrap_i64_is _ (by omega) (by omega)
      have a2 : IntKind.i64.wrap (max T (1 - fE f) - fP f + 1) = A := by rw [wrap_i64_is _ (by omega) (by omega)]; omega
      have dE : decide (fE f < T) = false := decide_eq_false hE
      unfold ofX at hr
      rw [if_neg n0, if_neg (by rw [hTop]; exact hE), hA, hfl] at hr
      simp only [] at hr
      cases o
      · rw [if_neg (by decide)] at hr
        injection hr with h1 h2
        subst h1 h2
        injection hv with h3 h4
        subst h3 h4
        exact kof_frac f b s t e g T _ _ _ _ A fe z w K1 K2 K3 K4 K5 K6 K7 K8 g0 dE a1 a2 hT hT2
      · rw [if_pos rfl] at hr
        injection hr with h1 h2
        subst h2
        have hd : d = 1 ∧ A ≤ e := by
          have h3 : ¬ (d ≠ 1 ∨ e < A) := fun h3 => by
            have := fl_no (XN.mk b n d e) A hc n0 h3
            rw [hfl] at this
            exact Bool.noConfusion (show true = false from this)
          omega
        obtain ⟨rfl, hAe⟩ := hd
        obtain ⟨m', k, tt, q1, q2, q3, q4, q5⟩ := of_yes hf b n e n0 (by rw [hTop]; omega) (by rw [hA]; exact hAe)
        rw [hA] at q1 q5
        have hm : m = m' := by
          have lim : m' < 340282366920938463463374607431768211456 := by
            obtain ⟨g1, g2, g3, g4, g5, g6, g7⟩ := fm hf
            rw [g1, Nat.add_mul] at g7
            have := Nat.mul_le_mul_right (2 ^ pV f) g5
            rcases q5 with ⟨_, q, _⟩ | ⟨_, q, _⟩ <;> omega
          have := fl_yes (XN.mk b n 1 e) A n0 rfl hAe (by omega) (by omega) (by
            show nl (n * 2 ^ (e - A).toNat) ≤ 16384
            rw [← q1]
            exact nl_pow _ 128 (by rw [show (2 : Nat) ^ 128 = 340282366920938463463374607431768211456 by decide]; exact lim) (by decide))
          rw [hfl] at this
          injection this with e1 e2
          injection e1 with e3 e4
          rw [e3, q1]
        have lim : m < 340282366920938463463374607431768211456 := by
          obtain ⟨g1, g2, g3, g4, g5, g6, g7⟩ := fm hf
          rw [g1, Nat.add_mul] at g7
          have := Nat.mul_le_mul_right (2 ^ pV f) g5
          rw [hm]
          rcases q5 with ⟨_, q, _⟩ | ⟨_, q, _⟩ <;> omega
        obtain ⟨i, j, hij⟩ : ∃ i j, bv7 (fb f m A) = (i, j) := ⟨_, _, rfl⟩
        obtain ⟨i1, j1, ij⟩ := bv_lt (by unfold fb; exact Nat.mod_lt _ (by decide)) hij
        exact kof_yes f b s t e g T _ _ _ _ A fe z m i j u v w K1 K2 K3 K4 K5 K6 K7 K8
          (box (fun w => kwideOf_is m z hz (by
            have := nl_le_of m 16 (by rw [show (2 : Nat) ^ (8 * 16) = 340282366920938463463374607431768211456 by decide]; exact lim)
            omega) w))
          (box (fun w hT => kfinite_is f hf m i j A (lt_Q7 lim) (by omega) (by omega) hij w hT))
          (box (fun w hT => ksigned_is f hf i j _ u v b i1 j1 ij (by rw [h1]; exact hv) w hT)) g0 dE a1 a2 hT hT2
theorem rOf_is (f : Int) (hf : Is4 f) (b : Bool) (n d : Nat) (s t : ByteArray) (e : Int) (hs : nbA n = s) (ht : nbA d = t) (hc : (XN.mk b n d e).can) (M : Nat) (is : Bool) (u v : Nat) (hr : ofX f ⟨b, n, d, e⟩ = (M, is)) (hv : bv7 M = (u, v)) (w : World) : Calls Tryz.prog 15 #[.int .u8 f, .agg #[.bool b, .string s, .string t, .int .i64 e]] w fun r w' => r = .returned (.tuple #[.agg #[.int .u64 (u : Nat), .int .u64 (v : Nat)], .bool is]) ∧ Below w.heap.size w w' := by
  have f4 := is4_ok hf
  obtain ⟨n1, n2, n3, n4, n5, n6⟩ := nm8 hf
  have fp : fP f = (pV f : Int) + 1 := (em_lim hf).2.2.2.2.2.2.2.2.1
  by_cases n0 : n = 0
  · unfold ofX at hr
    rw [if_pos n0] at hr
    injection hr with h1 h2
    subst h1 h2
    injection hv with h3 h4
    subst h3 h4
    have : s = ⟨#[]⟩ := by rw [← hs, n0, nbA_zero]
    subst this
    exact rof_zero f b t e w
  · have es := eq_nil n s hs n0
    have et := eq_one d t ht
    obtain ⟨T, hTop⟩ : ∃ T, topX (XN.mk b n d e) = T := ⟨_, rfl⟩
    obtain ⟨t1, t2⟩ := top_lim hc
    rw [hTop] at t1 t2
    have K1 : Box (∀ w, Calls Tryz.prog 60 #[.int .u8 f] w fun r w' => r = .returned (.int .i64 (fP f)) ∧ Below w.heap.size w w') := box (fun w => bel_same (r_precision f _ f4.1 rfl w))
    have K2 : Box (∀ w, Calls Tryz.prog 61 #[.agg #[.bool b, .string s, .string t, .int .i64 e]] w fun r w' => r = .returned (.tuple #[.int .i64 T, .int .i64 0]) ∧ Below w.heap.size w w') := box (fun w => rTop_ok b n d e s t T hs ht n0 hc hTop w)
    have K3 : Box (∀ w, Calls Tryz.prog 62 #[.int .u8 f] w fun r w' => r = .returned (.int .i64 (fE f)) ∧ Below w.heap.size w w') := box (fun w => bel_same (r_emax f _ f4.1 rfl w))
    have K4 : Box (∀ w, Calls Tryz.prog 63 #[.int .u8 f] w fun r w' => r = .returned (.int .i64 (1 - fE f)) ∧ w' = w) := box (fun w => r_emin f _ _ f4.1 rfl (em_lim hf).2.2.2.2.1 w)
    by_cases d1 : d = 1
    case neg =>
      rw [of_no (XN.mk b n d e) hc n0 (Or.inr (Or.inl d1))] at hr
      injection hr with h1 h2
      subst h1 h2
      injection hv with h3 h4
      subst h3 h4
      exact rof_den f b s t e _ T w K1 K2 es (by rw [et]; exact decide_eq_false d1)
    rw [decide_eq_true d1] at et
    by_cases hE : fE f < T
    · rw [of_no (XN.mk b n d e) hc n0 (Or.inl (by rw [hTop]; exact hE))] at hr
      injection hr with h1 h2
      subst h1 h2
      injection hv with h3 h4
      subst h3 h4
      exact rof_over f b s t e _ T _ w K1 K2 K3 es et (decide_eq_true hE)
    have dE : decide (fE f < T) = false := decide_eq_false hE
    obtain ⟨A, hA⟩ : ∃ A, ofA f (XN.mk b n d e) = A := ⟨_, rfl⟩
    have hA2 := hA
    unfold ofA at hA2
    rw [hTop] at hA2
    obtain ⟨A0, hI, hA0⟩ : ∃ A0, ((decide (T < 1 - fE f) = true ∧ A0 = 1 - fE f) ∨ (decide (T < 1 - fE f) = false ∧ A0 = T)) ∧ A0 = max T (1 - fE f) := by
      by_cases hI : T < 1 - fE f
      · exact ⟨1 - fE f, Or.inl ⟨decide_eq_true hI, rfl⟩, by omega⟩
      · exact ⟨T, Or.inr ⟨decide_eq_false hI, rfl⟩, by omega⟩
    have a1 : IntKind.i64.wrap (A0 - fP f) = A0 - fP f := wrap_i64_is _ (by omega) (by omega)
    have a2 : IntKind.i64.wrap (A0 - fP f + 1) = A := by rw [wrap_i64_is _ (by omega) (by omega)]; omega
    by_cases hl : e < A
    · rw [of_no (XN.mk b n d e) hc n0 (Or.inr (Or.inr (by rw [hA]; exact hl)))] at hr
      injection hr with h1 h2
      subst h1 h2
      injection hv with h3 h4
      subst h3 h4
      exact rof_low f b s t e _ T _ _ A0 _ A w K1 K2 K3 K4 es et hI dE a1 a2 (decide_eq_true hl)
    have dl : decide (e < A) = false := decide_eq_false hl
    subst d1
    obtain ⟨m, k, tt, q1, q2, q3, q4, q5⟩ := of_yes hf b n e n0 (by rw [hTop]; omega) (by rw [hA]; omega)
    rw [hA] at q1 q5
    rw [q4] at hr
    injection hr with h1 h2
    subst h2
    have lim : m < 340282366920938463463374607431768211456 := by
      obtain ⟨g1, g2, g3, g4, g5, g6, g7⟩ := fm hf
      rw [g1, Nat.add_mul] at g7
      have := Nat.mul_le_mul_right (2 ^ pV f) g5
      rcases q5 with ⟨_, q, _⟩ | ⟨_, q, _⟩ <;> omega
    have hfl := fl_yes (XN.mk b n 1 e) A n0 rfl (show A ≤ e by omega) (by omega) (by omega) (by
      show nl (n * 2 ^ (e - A).toNat) ≤ 16384
      rw [← q1]
      exact nl_pow _ 128 (by rw [show (2 : Nat) ^ 128 = 340282366920938463463374607431768211456 by decide]; exact lim) (by decide))
    have hfl2 : flX (XN.mk b n 1 e) A = ((m, true), 0) := by rw [hfl, q1]
    obtain ⟨z, hz⟩ : ∃ z, nbA m = z := ⟨_, rfl⟩
    have K5 : Box (∀ w, Calls Tryz.prog 64 #[.agg #[.bool b, .string s, .string t, .int .i64 e], .int .i64 A] w fun r w' => r = .returned (.tuple #[.string z, .bool true, .int .i64 0]) ∧ Below w.heap.size w w') := box (fun w => rFloor_ok b n 1 e s t A m true 0 z hs ht hc (by omega) (by omega) hfl2 hz w)
    have K6 : Box (∀ w, Calls Tryz.prog 65 #[.string z] w fun r w' => r = .returned (.tuple #[.agg (cw 6 m), .bool true]) ∧ Below w.heap.size w w') := box (fun w => nat_ToWide m z hz (by
      have := nl_le_of m 16 (by rw [show (2 : Nat) ^ (8 * 16) = 340282366920938463463374607431768211456 by decide]; exact lim)
      omega) w)
    have K7 : Box (∀ w, Calls Tryz.prog 66 #[.agg (cw 6 m)] w fun r w' => r = .returned (.int .i64 ((blen m : Nat) : Int)) ∧ Below w.heap.size w w') := box (fun w => rwlen_any m (lt_Q7 lim) w)
    have bl := blen_iff m (pV f)
    rcases q5 with ⟨k0, mt, hAl⟩ | ⟨k1, mt, hAl⟩
    · have dL : decide (((blen m : Nat) : Int) < fP f) = true := decide_eq_true (by have := bl.2 (by omega); omega)
      have KB : Box (∀ w, Calls Tryz.prog 67 #[.int .u8 f, .bool b, .int .i64 0, .agg (cw 6 m)] w fun r w' => r = .returned (.agg #[.int .u64 (u : Nat), .int .u64 (v : Nat)]) ∧ Below w.heap.size w w') := box (fun w => rk_enc f b 0 m _ u v hf (by omega) (by omega) (by rw [← k0, mt]) (by rw [h1]; exact hv) w)
      exact rof_sub f b s t e _ T _ _ A0 _ A 0 true z m _ u v w K1 K2 K3 K4 K5 K6 K7 KB es et hI dE a1 a2 dl dL
    · have dL : decide (((blen m : Nat) : Int) < fP f) = false := decide_eq_false (by
        intro h
        have := bl.1 (by omega)
        omega)
      have KK : Box (∀ w, Calls Tryz.prog 69 #[.int .i64 (pV f : Nat)] w fun r w' => r = .returned (.agg (cw 6 (2 ^ pV f - 1))) ∧ Below w.heap.size w w') := box (fun w => rwmask_is _ _ (by rw [cnt_k8 (by omega)]) w)
      have KA : Box (∀ w, Calls Tryz.prog 68 #[.agg (cw 6 m), .agg (cw 6 (2 ^ pV f - 1))] w fun r w' => r = .returned (.agg (cw 6 tt)) ∧ Below w.heap.size w w') := box (fun w => rwand_is m _ _ (lt_Q7 lim) (by rw [Nat.and_two_pow_sub_one_eq_mod, mt, Nat.add_mod_left, Nat.mod_eq_of_lt q3]) w)
      have KB : Box (∀ w, Calls Tryz.prog 67 #[.int .u8 f, .bool b, .int .i64 (k : Nat), .agg (cw 6 tt)] w fun r w' => r = .returned (.agg #[.int .u64 (u : Nat), .int .u64 (v : Nat)]) ∧ Below w.heap.size w w') := box (fun w => rk_enc f b k tt _ u v hf q3 (by omega) rfl (by rw [h1]; exact hv) w)
      have p1 : IntKind.i64.wrap (fP f - 1) = ((pV f : Nat) : Int) := by rw [wrap_i64_is _ (by omega) (by omega)]; omega
      have p2 : IntKind.i64.wrap (A - (1 - fE f)) = A - (1 - fE f) := wrap_i64_is _ (by omega) (by omega)
      have p3 : IntKind.i64.wrap (A - (1 - fE f) + fP f) = ((k : Nat) : Int) := by rw [wrap_i64_is _ (by omega) (by omega)]; omega
      exact rof_norm f b s t e _ T _ _ A0 _ A 0 true z m _ u v _ _ _ tt k w K1 K2 K3 K4 K5 K6 K7 KK KA KB es et hI dE a1 a2 dl dL p1 p2 p3
end Go.Proofs.YtkmlbjlaahcahaaGreatDoor
namespace Go.Proofs.YtkmlbjlaahcahaaGreatDoor
set_option maxRecDepth 100000
open WMath
open Go.ChangeShapes Go.WideShapes Go.ChangeAt Go.RowKit

theorem trod_row4 {H : Type} {enc : TypeId × Value → H} {P : Program} {w : World} {base : Nat} {spare : Nat → Bool} {held : Bool} {t : TypeId} {f0 f1 f2 f3 : Field} {fuel : Nat} {cs : List Value} {x : DataW H × List MemPlace} (ht : P.underlying t = some (.struct #[f0, f1, f2, f3])) (h : DataW.trod enc P w base spare held fuel t cs = some x) :
    ∃ y0 y1 y2 y3 n, x = (.agg [y0.1, y1.1, y2.1, y3.1], y0.2 ++ (y1.2 ++ (y2.2 ++ y3.2))) ∧ DataW.trod enc P w base spare held n f0.type ((cs.drop f0.offset).take (P.cellsOf f0.type)) = some y0 ∧
      DataW.trod enc P w base spare held n f1.type ((cs.drop f1.offset).take (P.cellsOf f1.type)) = some y1 ∧ DataW.trod enc P w base spare held n f2.type ((cs.drop f2.offset).take (P.cellsOf f2.type)) = some y2 ∧
      DataW.trod enc P w base spare held n f3.type ((cs.drop f3.offset).take (P.cellsOf f3.type)) = some y3 := by
  obtain ⟨xs, n, _, rfl, hl, hlen, hf⟩ := DataW.trod_struct ht h
  match xs, hlen with
  | [y0, y1, y2, y3], _ => exact ⟨y0, y1, y2, y3, n, by simp, by simpa using hf 0 f0 rfl, by simpa using hf 1 f1 rfl, by simpa using hf 2 f2 rfl, by simpa using hf 3 f3 rfl⟩


theorem list4' {α : Type} (l : List α) (h : l.length = 4) : ∃ a b c d, l = [a, b, c, d] := by
  match l, h with
  | [a, b, c, d], _ => exact ⟨a, b, c, d, rfl⟩

theorem row_read {w : World} {fuel : Nat} {enc : TypeId × Value → Unit} {base : Nat} {spare : Nat → Bool} {held : Bool} {l : List Value} {a b c : Int} {s : List UInt8} {p : List MemPlace}
    (h : DataW.trod enc Tryz.prog w base spare held fuel 147 l = some (.agg [.lit (.int .i64 a), .lit (.int .i64 b), .lit (.int .i64 c), .lit (.string s)], p)) (hl : l.length = 4) :
    l = [.int .i64 a, .int .i64 b, .int .i64 c, .string ⟨⟨s⟩⟩] := by
  have h3 : Tryz.prog.cellsOf 3 = 1 := by kernel_rfl
  have h9 : Tryz.prog.cellsOf 9 = 1 := by kernel_rfl
  obtain ⟨c0, c1, c2, c3, rfl⟩ := list4' l hl
  obtain ⟨y0, y1, y2, y3, n, hx, g0, g1, g2, g3⟩ := trod_row4 Tryz.underlying147 h
  simp only [h3, h9] at g0 g1 g2 g3
  obtain ⟨x0, e0, k0, w0⟩ := DataW.trod_int Tryz.underlying3 g0
  obtain ⟨x1, e1, k1, w1⟩ := DataW.trod_int Tryz.underlying3 g1
  obtain ⟨x2, e2, k2, w2⟩ := DataW.trod_int Tryz.underlying3 g2
  obtain ⟨x3, e3, k3, w3⟩ := DataW.trod_string Tryz.underlying9 g3
  simp at e0 e1 e2 e3
  subst e0 e1 e2 e3
  rw [k0, k1, k2, k3] at hx
  simp at hx
  obtain ⟨⟨rfl, rfl, rfl, rfl⟩, _⟩ := hx
  rfl

def laid7 : List (String × DataW Unit) := [("abacus/shape.formats", Rows.laid_abacus_shape_formats)]
theorem gTab7 : Tryz.prog.globalNamed "abacus/shape.formats" = some 0 := by kernel_rfl
theorem gType7 : (Tryz.prog.globals[0]?).map (·.type) = some 219 := by kernel_rfl

theorem of_laid7 {W : World} (h : laidMetH Tryz.prog laid7 W) : FAt W := by
  have hce : Tryz.prog.cellsOf 147 = 4 := by kernel_rfl
  have hct : Tryz.prog.cellsOf 219 = 16 := by kernel_rfl
  rw [MakeChecks.laidMetH_plain _ _ _ (by kernel_rfl)] at h
  obtain ⟨ps, ⟨g', t', cs, fuel, p, q, hg', ht', hvar, hd, _, _⟩, _⟩ := h
  obtain rfl := Option.some.inj (gTab7.symm.trans hg')
  obtain rfl := Option.some.inj (gType7.symm.trans ht')
  obtain ⟨xs, m, rfl, hx, hl, hxl, hel⟩ := DataW.trod_array Tryz.underlying219 hd
  rw [hce] at hel
  rw [hct] at hl
  have hl2 : cs.size = 16 := by simpa using hl
  match xs, hxl with
  | [y0, y1, y2, y3], _ =>
    have hx1 := congrArg Prod.fst hx
    simp [Rows.laid_abacus_shape_formats] at hx1
    obtain ⟨h0, h1, h2, h3⟩ := hx1
    have q0 := hel 0 (by decide)
    have q1 := hel 1 (by decide)
    have q2 := hel 2 (by decide)
    have q3 := hel 3 (by decide)
    simp only [List.getElem?_cons_zero, List.getElem?_cons_succ] at q0 q1 q2 q3
    have z0 := row_read (p := y0.2) (by rw [q0, h0]) (by simp; omega)
    have z1 := row_read (p := y1.2) (by rw [q1, h1]) (by simp; omega)
    have z2 := row_read (p := y2.2) (by rw [q2, h2]) (by simp; omega)
    have z3 := row_read (p := y3.2) (by rw [q3, h3]) (by simp; omega)
    have hcs : ∀ i, i < 16 → cs.toList[i]? = fcells[i]? := by
      intro i hi
      have e0 : cs.toList[i]? = (cs.toList.drop (i / 4 * 4))[i % 4]? := by rw [List.getElem?_drop]; congr 1; omega
      have e1 : (cs.toList.drop (i / 4 * 4))[i % 4]? = ((cs.toList.drop (i / 4 * 4)).take 4)[i % 4]? := by rw [List.getElem?_take, if_pos (by omega)]
      rw [e0, e1]
      have : i / 4 = 0 ∨ i / 4 = 1 ∨ i / 4 = 2 ∨ i / 4 = 3 := by omega
      have hj : i % 4 = 0 ∨ i % 4 = 1 ∨ i % 4 = 2 ∨ i % 4 = 3 := by omega
      have hi2 : i = i / 4 * 4 + i % 4 := by omega
      rcases this with e | e | e | e <;> rw [e] at hi2 ⊢ <;> rcases hj with k | k | k | k <;> rw [k] at hi2 ⊢ <;> subst hi2 <;> first | (rw [z0]; rfl) | (rw [z1]; rfl) | (rw [z2]; rfl) | (rw [z3]; rfl)
    intro i hi
    rw [World.var?_cell gTab7 hvar i, ← hcs i hi]
    simp

end Go.Proofs.YtkmlbjlaahcahaaGreatDoor
namespace Go.Proofs.YtkmlbjlaahcahaaGreatDoor
set_option maxRecDepth 100000
open WMath
open Go.ChangeShapes Go.WideShapes Go.ChangeAt Go.RowKit

def tabZ8 : List Int := [0, 1, 56, 2, 57, 49, 28, 3, 61, 58, 42, 50, 38, 29, 17, 4, 62, 47, 59, 36, 45, 43, 51, 22, 53, 39, 33, 30, 24, 18, 12, 5, 63, 55, 48, 27, 60, 41, 37, 16, 46, 35, 44, 21, 52, 32, 23, 11, 54, 26, 40, 15, 34, 20, 31, 10, 25, 14, 19, 9, 13, 8, 7, 6]
def laid8 : List (String × DataW Unit) := [("math/bits.deBruijn64tab", Rows.laid_math_bits_deBruijn64tab), ("abacus/shape.formats", Rows.laid_abacus_shape_formats)]
theorem gTab8 : Tryz.prog.globalNamed "math/bits.deBruijn64tab" = some 4 := by kernel_rfl
theorem gType8 : (Tryz.prog.globals[4]?).map (·.type) = some 277 := by kernel_rfl
theorem cells58 : Tryz.prog.cellsOf 5 = 1 := by kernel_rfl
theorem cellsT8 : Tryz.prog.cellsOf 277 = 64 := by kernel_rfl
theorem tab_at8 : ∀ i : Fin 64, tabZ8.getD i.val 0 = ((Lib.deBruijn64tab.getD i.val 0 : Nat) : Int) := by decide +kernel

theorem of_laid8 {W : World} (h : laidMetH Tryz.prog laid8 W) : TabAt W ∧ FAt W := by
  rw [MakeChecks.laidMetH_plain _ _ _ (by kernel_rfl)] at h
  have ht := laidMet.tail h
  constructor
  · have h' : laidMet Tryz.prog (("math/bits.deBruijn64tab", Lib.tabData .u8 tabZ8) :: [("abacus/shape.formats", Rows.laid_abacus_shape_formats)]) W := h
    have hT := Lib.tabIs_of_head gTab8 gType8 Tryz.underlying277 Tryz.underlying5 cells58 cellsT8 h'
    intro i hi
    have hc := hT.cell gTab8 i (show i < tabZ8.length from hi)
    rw [tab_at8 ⟨i, hi⟩] at hc
    exact hc
  · refine of_laid7 ?_
    rw [MakeChecks.laidMetH_plain _ _ _ (by kernel_rfl)]
    exact ht

theorem door_met8 (os : Os) (args : Array Value) : laidMetH Tryz.prog laid8 ((World.doorLaid Tryz.prog 400 os).forCall (fun _ _ => 0) ⟨#[], args, []⟩).memory :=
  laidMetH_of_parts3 (fuel := 8) (laidMet_of_run' 8 (by kernel_rfl) (by kernel_rfl)) (by kernel_rfl) (by kernel_rfl)
end Go.Proofs.YtkmlbjlaahcahaaGreatDoor
