/-
  What the functions that the statement reaches return: part 8 (H3, H4, H6, P1).
-/
import Derived.Laws.MakeOwn
import Derived.Sort.Grow
import Derived.Deep.Draws
import Derived.Test.YtmndjhcmomejjaaDoorOe07
namespace Go.Proofs.YtmndjhcmomejjaaDoor
set_option maxRecDepth 100000
set_option maxHeartbeats 40000000
set_option maxRecDepth 100000
open Go.RowKit WMath XMath
set_option linter.unusedSimpArgs false
set_option linter.unusedVariables false
theorem kN_pos0 {f : Int} {n : Nat} (fit : Fit f n) : (kN f n = true → 2 ^ wV f ≤ n) ∧ (kN f n = false → n < 2 ^ wV f) := by
  unfold Fit at fit
  have p := Nat.two_pow_pos (wV f)
  have lt : n / 2 ^ wV f < 2 := by
    rw [Nat.div_lt_iff_lt_mul p]
    exact fit
  have dm := Nat.div_add_mod n (2 ^ wV f)
  have ml := Nat.mod_lt n p
  unfold kN
  obtain ⟨t, ht⟩ : ∃ t, n / 2 ^ wV f = t := ⟨_, rfl⟩
  rw [ht] at lt dm ⊢
  refine ⟨fun h => ?_, fun h => ?_⟩
  · have h := of_decide_eq_true h
    obtain rfl : t = 1 := by omega
    rw [Nat.mul_one] at dm
    omega
  · have h := of_decide_eq_false h
    obtain rfl : t = 0 := by omega
    rw [Nat.mul_zero] at dm
    omega
theorem cmpv_sg (a b : Nat) : cmpv a b = sgI ((a : Int) - (b : Int)) := by
  unfold cmpv sgI
  by_cases e : a = b
  · rw [if_pos e, if_neg (by omega), if_neg (by omega)]
  rw [if_neg e]
  by_cases l : a < b
  · rw [if_pos l, if_pos (by omega)]
  · rw [if_neg l, if_neg (by omega), if_pos (by omega)]
theorem sgI_neg (x : Int) : sgI (-x) = -sgI x := by
  unfold sgI
  by_cases l : x < 0
  · rw [if_pos l, if_neg (by omega), if_pos (by omega)]
    rfl
  rw [if_neg l]
  by_cases p : 0 < x
  · rw [if_pos p, if_pos (by omega)]
  · rw [if_neg p, if_neg (by omega), if_neg (by omega)]
    rfl
theorem sgI_wrap (x : Int) : IntKind.i64.wrap (sgI x) = sgI x := by
  unfold sgI
  split
  · rfl
  split
  · rfl
  · rfl
theorem rTotal_is (f : Int) (hf : Is4 f) (x1 y1 a x2 y2 b : Nat) (hx1 : x1 < 18446744073709551616) (hy1 : y1 < 18446744073709551616) (ha : y1 + 18446744073709551616 * x1 = a) (hx2 : x2 < 18446744073709551616) (hy2 : y2 < 18446744073709551616) (hb : y2 + 18446744073709551616 * x2 = b)
    (oa : okB f a = true) (ob : okB f b = true) (c : Int) (hc : totR f a b = c) (w : World) : Calls Tryd.prog 23 #[.int .u8 f, .agg #[.int .u64 (x1 : Nat), .int .u64 (y1 : Nat)], .agg #[.int .u64 (x2 : Nat), .int .u64 (y2 : Nat)]] w fun r w' => r = .returned (.int .i64 c) ∧ Below w.heap.size w w' := by
  have fa := (okB_yes (is4_ok hf).1 oa).2
  have fb := (okB_yes (is4_ok hf).1 ob).2
  have pw := Nat.two_pow_pos (wV f)
  have ka := kN_pos0 fa
  have kb := kN_pos0 fb
  have qa : a < Q := lt_Q7 (by omega)
  have qb : b < Q := lt_Q7 (by omega)
  have KO1 := box (fun w => rwofbits_is x1 y1 a hx1 hy1 ha w)
  have KO2 := box (fun w => rwofbits_is x2 y2 b hx2 hy2 hb w)
  have KC := box (fun w => rwcmp_is a b _ qa qb (cmpv_sg a b) w)
  unfold totR tk at hc
  cases s1 : kN f a
  · have K1 := box (fun w => rSign_yes f hf x1 y1 a false hx1 hy1 ha oa s1 w)
    cases s2 : kN f b
    · have K2 := box (fun w => rSign_yes f hf x2 y2 b false hx2 hy2 hb ob s2 w)
      rw [s1, s2] at hc
      simp only [Bool.false_eq_true, if_false] at hc
      rw [hc] at KC
      exact rto_ff f x1 y1 x2 y2 a b c w K1 K2 KO1 KO2 KC
    · have K2 := box (fun w => rSign_yes f hf x2 y2 b true hx2 hy2 hb ob s2 w)
      have := kb.1 s2
      rw [s1, s2] at hc
      simp only [Bool.false_eq_true, if_false, if_true] at hc
      unfold sgI at hc
      rw [if_neg (by omega), if_pos (by omega)] at hc
      subst hc
      exact rto_ft f x1 y1 x2 y2 w K1 K2
  · have K1 := box (fun w => rSign_yes f hf x1 y1 a true hx1 hy1 ha oa s1 w)
    have := ka.1 s1
    cases s2 : kN f b
    · have K2 := box (fun w => rSign_yes f hf x2 y2 b false hx2 hy2 hb ob s2 w)
      rw [s1, s2] at hc
      simp only [Bool.false_eq_true, if_false, if_true] at hc
      unfold sgI at hc
      rw [if_pos (by omega)] at hc
      subst hc
      exact rto_tf f x1 y1 x2 y2 w K1 K2
    · have K2 := box (fun w => rSign_yes f hf x2 y2 b true hx2 hy2 hb ob s2 w)
      rw [s1, s2] at hc
      simp only [if_true] at hc
      rw [show -(a : Int) - -(b : Int) = -((a : Int) - (b : Int)) by omega, sgI_neg] at hc
      exact rto_tt f x1 y1 x2 y2 a b _ c (by rw [← sgI_neg, sgI_wrap, sgI_neg]; exact hc) w K1 K2 KO1 KO2 KC
def loR (f : Int) (a b : Nat) : Int := if kC f a = 8 ∨ kC f b = 8 then 16 else 0
def soR (f : Int) (a b : Nat) : Int := if 8 ≤ kC f a ∨ 8 ≤ kC f b then 16 else 0
theorem rLoud_is (f : Int) (hf : Is4 f) (x1 y1 a x2 y2 b : Nat) (hx1 : x1 < 18446744073709551616) (hy1 : y1 < 18446744073709551616) (ha : y1 + 18446744073709551616 * x1 = a) (hx2 : x2 < 18446744073709551616) (hy2 : y2 < 18446744073709551616) (hb : y2 + 18446744073709551616 * x2 = b)
    (oa : okB f a = true) (ob : okB f b = true) (fl : Int) (hc : loR f a b = fl) (w : World) : Calls Tryd.prog 16 #[.int .u8 f, .agg #[.int .u64 (x1 : Nat), .int .u64 (y1 : Nat)], .agg #[.int .u64 (x2 : Nat), .int .u64 (y2 : Nat)]] w fun r w' => r = .returned (.int .u8 fl) ∧ Below w.heap.size w w' := by
  have fa := (okB_yes (is4_ok hf).1 oa).2
  have fb := (okB_yes (is4_ok hf).1 ob).2
  have K1 : ∀ o, decide (kC f a = 8) = o → Box (∀ w, Calls Tryd.prog 35 #[.int .u8 f, .agg #[.int .u64 (x1 : Nat), .int .u64 (y1 : Nat)]] w fun r w' => r = .returned (.bool o) ∧ Below w.heap.size w w') := fun o h => box (fun w => rSig_is f hf x1 y1 a _ o hx1 hy1 ha fa rfl h w)
  have K2 : ∀ o, decide (kC f b = 8) = o → Box (∀ w, Calls Tryd.prog 35 #[.int .u8 f, .agg #[.int .u64 (x2 : Nat), .int .u64 (y2 : Nat)]] w fun r w' => r = .returned (.bool o) ∧ Below w.heap.size w w') := fun o h => box (fun w => rSig_is f hf x2 y2 b _ o hx2 hy2 hb fb rfl h w)
  unfold loR at hc
  by_cases c1 : kC f a = 8
  · rw [if_pos (Or.inl c1)] at hc
    subst hc
    exact rloud_a f x1 y1 x2 y2 w (K1 true (decide_eq_true c1))
  by_cases c2 : kC f b = 8
  · rw [if_pos (Or.inr c2)] at hc
    subst hc
    exact rloud_b f x1 y1 x2 y2 w (K1 false (decide_eq_false c1)) (K2 true (decide_eq_true c2))
  · rw [if_neg (by omega)] at hc
    subst hc
    exact rloud_n f x1 y1 x2 y2 w (K1 false (decide_eq_false c1)) (K2 false (decide_eq_false c2))
def exR (f : Int) (g : Bool) (a b : Nat) : Nat := if 8 ≤ kC f a ∧ 8 ≤ kC f b then eNaN f else if 8 ≤ kC f a then b else if 8 ≤ kC f b then a else if decide (totR f a b < 0) ≠ g then a else b
theorem rExtreme_is (f : Int) (hf : Is4 f) (x1 y1 a x2 y2 b : Nat) (hx1 : x1 < 18446744073709551616) (hy1 : y1 < 18446744073709551616) (ha : y1 + 18446744073709551616 * x1 = a) (hx2 : x2 < 18446744073709551616) (hy2 : y2 < 18446744073709551616) (hb : y2 + 18446744073709551616 * x2 = b)
    (oa : okB f a = true) (ob : okB f b = true) (g : Bool) (M : Nat) (hM : exR f g a b = M) (u v : Nat) (hv : bv7 M = (u, v)) (w : World) : Calls Tryd.prog 19 #[.int .u8 f, .agg #[.int .u64 (x1 : Nat), .int .u64 (y1 : Nat)], .agg #[.int .u64 (x2 : Nat), .int .u64 (y2 : Nat)], .bool g] w fun r w' => r = .returned (.tuple #[.agg #[.int .u64 (u : Nat), .int .u64 (v : Nat)], .int .u8 (loR f a b)]) ∧ Below w.heap.size w w' := by
  have fa := (okB_yes (is4_ok hf).1 oa).2
  have fb := (okB_yes (is4_ok hf).1 ob).2
  have KL := box (fun w => rLoud_is f hf x1 y1 a x2 y2 b hx1 hy1 ha hx2 hy2 hb oa ob _ rfl w)
  have K1 : ∀ o, decide (8 ≤ kC f a) = o → Box (∀ w, Calls Tryd.prog 31 #[.int .u8 f, .agg #[.int .u64 (x1 : Nat), .int .u64 (y1 : Nat)]] w fun r w' => r = .returned (.bool o) ∧ Below w.heap.size w w') := fun o h => box (fun w => rNaN_is f hf x1 y1 a _ o hx1 hy1 ha fa rfl h w)
  have K2 : ∀ o, decide (8 ≤ kC f b) = o → Box (∀ w, Calls Tryd.prog 31 #[.int .u8 f, .agg #[.int .u64 (x2 : Nat), .int .u64 (y2 : Nat)]] w fun r w' => r = .returned (.bool o) ∧ Below w.heap.size w w') := fun o h => box (fun w => rNaN_is f hf x2 y2 b _ o hx2 hy2 hb fb rfl h w)
  have ea : bv7 a = (x1, y1) := by unfold bv7; rw [← ha]; congr 1 <;> omega
  have eb : bv7 b = (x2, y2) := by unfold bv7; rw [← hb]; congr 1 <;> omega
  have KN : bv7 (eNaN f) = (u, v) → Box (∀ w, Calls Tryd.prog 37 #[.int .u8 f] w fun r w' => r = .returned (.agg #[.int .u64 (u : Nat), .int .u64 (v : Nat)]) ∧ Below w.heap.size w w') := fun h => box (fun w => by
    have := r_nan f hf _ rfl w
    rw [h] at this
    exact this)
  unfold exR at hM
  by_cases n1 : 8 ≤ kC f a
  · by_cases n2 : 8 ≤ kC f b
    · rw [if_pos ⟨n1, n2⟩] at hM
      subst hM
      exact rex_tt f x1 y1 x2 y2 g _ u v w KL (K1 true (decide_eq_true n1)) (K2 true (decide_eq_true n2)) (KN hv)
    · rw [if_neg (fun q => n2 q.2), if_pos n1] at hM
      subst hM
      rw [eb] at hv
      injection hv with v1 v2
      subst v1 v2
      exact rex_tf f x1 y1 x2 y2 g _ w KL (K1 true (decide_eq_true n1)) (K2 false (decide_eq_false n2))
  rw [if_neg (fun q => n1 q.1), if_neg n1] at hM
  by_cases n2 : 8 ≤ kC f b
  · rw [if_pos n2] at hM
    subst hM
    rw [ea] at hv
    injection hv with v1 v2
    subst v1 v2
    exact rex_ft f x1 y1 x2 y2 g _ w KL (K1 false (decide_eq_false n1)) (K2 true (decide_eq_true n2))
  rw [if_neg n2] at hM
  have KT := box (fun w => rTotal_is f hf x1 y1 a x2 y2 b hx1 hy1 ha hx2 hy2 hb oa ob _ rfl w)
  obtain ⟨o, ho⟩ : ∃ o, decide (totR f a b < 0) = o := ⟨_, rfl⟩
  rw [ho] at hM
  by_cases d : o ≠ g
  · rw [if_pos d] at hM
    subst hM
    rw [ea] at hv
    injection hv with v1 v2
    subst v1 v2
    exact rex_a f x1 y1 x2 y2 g _ _ o ho (by cases o <;> cases g <;> first | rfl | exact absurd rfl d) w KL (K1 false (decide_eq_false n1)) (K2 false (decide_eq_false n2)) KT
  · rw [if_neg d] at hM
    subst hM
    rw [eb] at hv
    injection hv with v1 v2
    subst v1 v2
    exact rex_b f x1 y1 x2 y2 g _ _ o ho (by cases o <;> cases g <;> first | rfl | exact absurd (by decide) d) w KL (K1 false (decide_eq_false n1)) (K2 false (decide_eq_false n2)) KT
end Go.Proofs.YtmndjhcmomejjaaDoor
namespace Go.Proofs.YtmndjhcmomejjaaDoor
set_option maxRecDepth 100000
set_option maxHeartbeats 40000000
set_option maxRecDepth 100000
open Go.RowKit WMath
set_option linter.unusedSimpArgs false
set_option linter.unusedVariables false
set_option maxRecDepth 100000 in
set_option maxHeartbeats 8000000 in
theorem r16_list (f : Int) (h0 : 0 ≤ f) (l : List (Nat × Nat)) (L g z c : Nat) (w : World) (hl : l.length = L) (hL : L ≤ 1000) (hb : Box (∀ p ∈ l, p.1 < 18446744073709551616 ∧ p.2 < 18446744073709551616)) (HC : Box (∀ W, Below w.heap.size w W → ∀ k p, l[k]? = some p → W.cell? ⟨g, z + k * 2, none⟩ = some (.int .u64 (p.1 : Nat)) ∧ W.cell? ⟨g, z + k * 2 + 1, none⟩ = some (.int .u64 (p.2 : Nat))))
    (KR : Box (∀ w, Calls Tryd.prog 29 #[.int .u8 f] w fun r w' => r = .returned (.bool true) ∧ Below w.heap.size w w'))
    (o : Bool) (ho : l.all (okP f) = o) : Calls Tryd.prog 12 #[.int .u8 f, .slice (some ⟨g, z, none⟩) L c] w fun r w' => r = .returned (.bool o) ∧ Below w.heap.size w w' := by
  have HO := box ho
  have HL := box hl
  have HF := box h0
  clear ho hl h0
  go_enter Tryd.func12, Tryd.ntmps12
  go_wp2_with fail
  refine (KR.out _).mono ?_
  rintro r w1 ⟨rfl, b1⟩
  have BP := b1
  clear KR
  go_wp2
  go_loopw [5] (fun iv wr => ∃ k : Nat, k ≤ L ∧ iv = .int .i64 k ∧ Below w.heap.size w wr ∧ Box (∀ j p, j < k → l[j]? = some p → okP f p = true)) (fun iv _ => L - (intOf iv).toNat)
  case atStart => exact ⟨0, by omega, rfl, BP, box (fun j s hj => absurd hj (by omega))⟩
  case round =>
    obtain ⟨k, hk, rfl, bw, HA⟩ := hrel
    by_cases hlt : k < L
    · obtain ⟨p, hs⟩ : ∃ p, l[k]? = some p := ⟨_, List.getElem?_eq_getElem (by rw [HL.out]; exact hlt)⟩
      obtain ⟨c1, c2⟩ := HC.out _ bw k p hs
      have dl : decide ((k : Int) < (L : Int)) = true := decide_eq_true (by omega)
      have HS := box hs
      obtain ⟨o1, hm⟩ : ∃ o1, okP f p = o1 := ⟨_, rfl⟩
      have HM := box hm
      have hp := hb.out p (List.mem_of_getElem? hs)
      have KC : Box (∀ w, Calls Tryd.prog 30 #[.int .u8 f, .agg #[.int .u64 (p.1 : Nat), .int .u64 (p.2 : Nat)]] w fun r w' => r = .returned (.bool o1) ∧ Below w.heap.size w w') := box (fun w => rk_fits f p.1 p.2 _ o1 HF.out hp.1 hp.2 rfl hm w)
      clear hs hm hp
      cases o1
      · have e : o = false := by
          rw [← HO.out, Bool.eq_false_iff]
          intro h
          rw [List.all_eq_true] at h
          have := h p (List.mem_of_getElem? HS.out)
          rw [HM.out] at this
          exact absurd this (by decide)
        subst e
        go_wp2_with fail
        refine (KC.out _).mono ?_
        rintro r w2 ⟨rfl, b2⟩
        go_wp2
        go_ret
        exact ⟨rfl, btr bw b2⟩
      · have NA : Box (∀ j p, j < k + 1 → l[j]? = some p → okP f p = true) := box (fun j p2 hj h2 => by
          by_cases e : j = k
          · subst e
            rw [HS.out] at h2
            cases h2
            exact HM.out
          · exact HA.out j p2 (by omega) h2)
        go_wp2_with fail
        refine (KC.out _).mono ?_
        rintro r w2 ⟨rfl, b2⟩
        go_wp2
        go_roundw
        case rel => exact ⟨k + 1, by omega, by go_num, btr bw b2, NA⟩
        case measure => simp [intOf] <;> omega
    · obtain rfl : k = L := by omega
      have e : o = true := by
        rw [← HO.out, List.all_eq_true]
        intro s hs
        obtain ⟨j, hj⟩ := List.mem_iff_getElem?.1 hs
        have := (List.getElem?_eq_some_iff.1 hj).1
        exact HA.out j s (by rw [← HL.out]; exact this) hj
      subst e
      have dl : decide ((k : Int) < (k : Int)) = false := by rw [decide_eq_false_iff_not]; omega
      go_wp2
      go_ret
      exact ⟨rfl, bw⟩
set_option maxRecDepth 100000 in
set_option maxHeartbeats 8000000 in
theorem r16_no (f : Int) (sl : Value) (w : World) (KR : Box (∀ w, Calls Tryd.prog 29 #[.int .u8 f] w fun r w' => r = .returned (.bool false) ∧ Below w.heap.size w w')) : Calls Tryd.prog 12 #[.int .u8 f, sl] w fun r w' => r = .returned (.bool false) ∧ Below w.heap.size w w' := by
  have B0 : Below w.heap.size w w := (Below.refl _ _)
  go_enter Tryd.func12, Tryd.ntmps12
  go_wp2_with fail
  refine (KR.out _).mono ?_
  rintro r w1 ⟨rfl, b1⟩
  have B1 : Below w.heap.size w w1 := btr B0 b1
  clear b1 B0 
  go_wp2
  go_ret
  exact ⟨rfl, B1⟩
theorem r16_two (f : Int) (h0 : 0 ≤ f) (x1 y1 a x2 y2 b : Nat) (hx1 : x1 < 18446744073709551616) (hy1 : y1 < 18446744073709551616) (ha : y1 + 18446744073709551616 * x1 = a) (hx2 : x2 < 18446744073709551616) (hy2 : y2 < 18446744073709551616) (hb : y2 + 18446744073709551616 * x2 = b) (o : Bool) (ho : (okB f a && okB f b) = o) :
    Box (∀ (T : TypeId) (g : Nat) (w : World), w.heap.size = g → Calls Tryd.prog 12 #[.int .u8 f, .slice (some ⟨g, 0, none⟩) 2 2] (w.alloc (.cells #[.int .u64 (x1 : Nat), .int .u64 (y1 : Nat), .int .u64 (x2 : Nat), .int .u64 (y2 : Nat)] T)) fun r w' => r = .returned (.bool o) ∧ Below w.heap.size w w') := by
  refine box (fun T g w hg => ?_)
  have B := (bal w (.cells #[.int .u64 (x1 : Nat), .int .u64 (y1 : Nat), .int .u64 (x2 : Nat), .int .u64 (y2 : Nat)] T))
  have KR : Box (∀ w, Calls Tryd.prog 29 #[.int .u8 f] w fun r w' => r = .returned (.bool (decide (f ≤ 3))) ∧ Below w.heap.size w w') := box (fun w => bel_same (r_right f _ rfl w))
  have row : (w.alloc (.cells #[.int .u64 (x1 : Nat), .int .u64 (y1 : Nat), .int .u64 (x2 : Nat), .int .u64 (y2 : Nat)] T)).heap[g]? = some (.cells (bls [(x1, y1), (x2, y2)]) T) := by
    rw [← hg]
    exact heap_alloc_last _ _
  by_cases c1 : f ≤ 3
  · rw [decide_eq_true c1] at KR
    refine (r16_list f h0 [(x1, y1), (x2, y2)] 2 g 0 2 _ rfl (by decide) (box (fun p hp => ?_)) (box (fun W bW k p hk => ?_)) KR o ?_).mono fun _ _ ⟨q1, q2⟩ => ⟨q1, btr B q2⟩
    · rcases List.mem_cons.1 hp with rfl | h
      · exact ⟨hx1, hy1⟩
      · rcases List.mem_cons.1 h with rfl | h
        · exact ⟨hx2, hy2⟩
        · exact absurd h List.not_mem_nil
    · obtain ⟨a1, a2⟩ := bls_at _ k p hk
      have r2 := heap_of bW _ _ _ row
      rw [Nat.zero_add]
      exact ⟨(cell_of_row W g (k * 2) _ _ _ r2).trans a1, (cell_of_row W g (k * 2 + 1) _ _ _ r2).trans a2⟩
    · rw [← ho]
      show (okP f (x1, y1) && (okP f (x2, y2) && true)) = _
      unfold okP
      rw [ha, hb, Bool.and_true]
  · rw [decide_eq_false c1] at KR
    have e : o = false := by
      rw [← ho]
      have : okB f a = false := by
        unfold okB
        exact decide_eq_false (fun q => c1 q.1)
      rw [this]
      rfl
    subst e
    exact (r16_no f _ _ KR).mono fun _ _ ⟨q1, q2⟩ => ⟨q1, btr B q2⟩
set_option maxRecDepth 100000 in
set_option maxHeartbeats 8000000 in
theorem oe_no (f : Int) (x1 y1 x2 y2 : Nat)  (w : World)
    (K1 : Box (∀ w, FAt w → Calls Tryd.prog 17 #[.int .u8 f, .agg #[.int .u64 (x1 : Nat), .int .u64 (y1 : Nat)], .agg #[.int .u64 (x2 : Nat), .int .u64 (y2 : Nat)]] w fun r w' => r = .returned (.tuple #[.agg #[.int .u64 0, .int .u64 0], .int .u8 0, .int .i64 2]) ∧ Below w.heap.size w w'))
    (K2 : Box (∀ w, FAt w → Calls Tryd.prog 18 #[.int .u8 f, .agg #[.int .u64 (x1 : Nat), .int .u64 (y1 : Nat)], .agg #[.int .u64 (x2 : Nat), .int .u64 (y2 : Nat)]] w fun r w' => r = .returned (.tuple #[.agg #[.int .u64 0, .int .u64 0], .int .u8 0, .int .i64 2]) ∧ Below w.heap.size w w'))
    (KF : Box (∀ (T : TypeId) (g : Nat) (w : World), w.heap.size = g → Calls Tryd.prog 12 #[.int .u8 f, .slice (some ⟨g, 0, none⟩) 2 2] (w.alloc (.cells #[.int .u64 (x1 : Nat), .int .u64 (y1 : Nat), .int .u64 (x2 : Nat), .int .u64 (y2 : Nat)] T)) fun r w' => r = .returned (.bool false) ∧ Below w.heap.size w w'))
    (KA : Box (∀ w, FAt w → Calls Tryd.prog 13 #[] w fun r w' => r = .returned (.bool true) ∧ Below w.heap.size w w'))
    (hT : FAt w) : Calls Tryd.prog 4 #[.int .u8 f, .agg #[.int .u64 (x1 : Nat), .int .u64 (y1 : Nat)], .agg #[.int .u64 (x2 : Nat), .int .u64 (y2 : Nat)]] w fun r w' => r = .returned (.bool true) ∧ Below w.heap.size w w' := by
  have FF := box hT
  clear hT
  obtain ⟨Ra_0, Rb_0, B0⟩ := opn2 w (Obj.cells #[.int .u64 (x1 : Nat), .int .u64 (y1 : Nat)] 25) (Obj.cells #[.int .u64 (x2 : Nat), .int .u64 (y2 : Nat)] 25)
  go_enter Tryd.func4, Tryd.ntmps4
  obtain ⟨ca_0_0, ca_0_1⟩ := cells2s Ra_0
  obtain ⟨cb_0_0, cb_0_1⟩ := cells2s Rb_0
  go_wp2_with fail
  refine (K1.out _ (fatB FF.out B0)).mono ?_
  rintro r w1 ⟨rfl, b1⟩
  have B1 : Below w.heap.size w w1 := btr B0 b1
  have Ra_1 := heap_of b1 _ _ _ Ra_0
  have Rb_1 := heap_of b1 _ _ _ Rb_0
  clear b1 B0 Ra_0 ca_0_0 ca_0_1 Rb_0 cb_0_0 cb_0_1
  obtain ⟨ca_1_0, ca_1_1⟩ := cells2s Ra_1
  obtain ⟨cb_1_0, cb_1_1⟩ := cells2s Rb_1
  have S2 := box B1.size
  have La_2 : Box (w.heap.size < w1.heap.size) := box (Array.getElem?_eq_some_iff.1 Ra_1).1
  have Lb_2 : Box (w.heap.size + 1 < w1.heap.size) := box (Array.getElem?_eq_some_iff.1 Rb_1).1
  have Rx_2 := heap_alloc_last w1 (Obj.cells #[.int .u64 0, .int .u64 0] 25)
  have B2 := btr B1 (bal w1 (Obj.cells #[.int .u64 0, .int .u64 0] 25))
  have Ra_2 := heap_of (bal w1 (Obj.cells #[.int .u64 0, .int .u64 0] 25)) _ _ _ Ra_1
  have Rb_2 := heap_of (bal w1 (Obj.cells #[.int .u64 0, .int .u64 0] 25)) _ _ _ Rb_1
  clear B1 Ra_1 ca_1_0 ca_1_1 Rb_1 cb_1_0 cb_1_1
  obtain ⟨ca_2_0, ca_2_1⟩ := cells2s Ra_2
  obtain ⟨cb_2_0, cb_2_1⟩ := cells2s Rb_2
  obtain ⟨cx_2_0, cx_2_1⟩ := cells2s Rx_2
  go_wp2_with fail
  refine (K2.out _ (fatB FF.out B2)).mono ?_
  rintro r w3 ⟨rfl, b3⟩
  have B3 : Below w.heap.size w w3 := btr B2 b3
  have Ra_3 := heap_of b3 _ _ _ Ra_2
  have Rb_3 := heap_of b3 _ _ _ Rb_2
  have Rx_3 := heap_of b3 _ _ _ Rx_2
  clear b3 B2 Ra_2 ca_2_0 ca_2_1 Rb_2 cb_2_0 cb_2_1 Rx_2 cx_2_0 cx_2_1
  obtain ⟨ca_3_0, ca_3_1⟩ := cells2s Ra_3
  obtain ⟨cb_3_0, cb_3_1⟩ := cells2s Rb_3
  obtain ⟨cx_3_0, cx_3_1⟩ := cells2s Rx_3
  have S4 := box B3.size
  have La_4 : Box (w.heap.size < w3.heap.size) := box (Array.getElem?_eq_some_iff.1 Ra_3).1
  have Lb_4 : Box (w.heap.size + 1 < w3.heap.size) := box (Array.getElem?_eq_some_iff.1 Rb_3).1
  have Lx_4 : Box (w1.heap.size < w3.heap.size) := box (Array.getElem?_eq_some_iff.1 Rx_3).1
  have Ry_4 := heap_alloc_last w3 (Obj.cells #[.int .u64 0, .int .u64 0] 25)
  have B4 := btr B3 (bal w3 (Obj.cells #[.int .u64 0, .int .u64 0] 25))
  have Ra_4 := heap_of (bal w3 (Obj.cells #[.int .u64 0, .int .u64 0] 25)) _ _ _ Ra_3
  have Rb_4 := heap_of (bal w3 (Obj.cells #[.int .u64 0, .int .u64 0] 25)) _ _ _ Rb_3
  have Rx_4 := heap_of (bal w3 (Obj.cells #[.int .u64 0, .int .u64 0] 25)) _ _ _ Rx_3
  clear B3 Ra_3 ca_3_0 ca_3_1 Rb_3 cb_3_0 cb_3_1 Rx_3 cx_3_0 cx_3_1
  obtain ⟨ca_4_0, ca_4_1⟩ := cells2s Ra_4
  obtain ⟨cb_4_0, cb_4_1⟩ := cells2s Rb_4
  obtain ⟨cx_4_0, cx_4_1⟩ := cells2s Rx_4
  obtain ⟨cy_4_0, cy_4_1⟩ := cells2s Ry_4
  go_wp2_with fail
  refine (KF.out _ _ (w3.alloc (Obj.cells #[.int .u64 0, .int .u64 0] 25)) (by first | rfl | simp only [size_al])).mono ?_
  rintro r w5 ⟨rfl, b5⟩
  have B5 : Below w.heap.size w w5 := btr B4 b5
  have Ra_5 := heap_of b5 _ _ _ Ra_4
  have Rb_5 := heap_of b5 _ _ _ Rb_4
  have Rx_5 := heap_of b5 _ _ _ Rx_4
  have Ry_5 := heap_of b5 _ _ _ Ry_4
  clear b5 B4 Ra_4 ca_4_0 ca_4_1 Rb_4 cb_4_0 cb_4_1 Rx_4 cx_4_0 cx_4_1 Ry_4 cy_4_0 cy_4_1
  obtain ⟨ca_5_0, ca_5_1⟩ := cells2s Ra_5
  obtain ⟨cb_5_0, cb_5_1⟩ := cells2s Rb_5
  obtain ⟨cx_5_0, cx_5_1⟩ := cells2s Rx_5
  obtain ⟨cy_5_0, cy_5_1⟩ := cells2s Ry_5
  go_wp2_with fail
  refine (KA.out _ (fatB FF.out B5)).mono ?_
  rintro r w6 ⟨rfl, b6⟩
  have B6 : Below w.heap.size w w6 := btr B5 b6
  have Ra_6 := heap_of b6 _ _ _ Ra_5
  have Rb_6 := heap_of b6 _ _ _ Rb_5
  have Rx_6 := heap_of b6 _ _ _ Rx_5
  have Ry_6 := heap_of b6 _ _ _ Ry_5
  clear b6 B5 Ra_5 ca_5_0 ca_5_1 Rb_5 cb_5_0 cb_5_1 Rx_5 cx_5_0 cx_5_1 Ry_5 cy_5_0 cy_5_1
  obtain ⟨ca_6_0, ca_6_1⟩ := cells2s Ra_6
  obtain ⟨cb_6_0, cb_6_1⟩ := cells2s Rb_6
  obtain ⟨cx_6_0, cx_6_1⟩ := cells2s Rx_6
  obtain ⟨cy_6_0, cy_6_1⟩ := cells2s Ry_6
  go_wp2
  go_ret
  exact ⟨rfl, B6⟩
set_option maxRecDepth 100000 in
set_option maxHeartbeats 8000000 in
theorem oe_yes (f : Int) (x1 y1 x2 y2 : Nat) (u v p q : Nat) (fl : Int) (w : World)
    (K1 : Box (∀ w, FAt w → Calls Tryd.prog 17 #[.int .u8 f, .agg #[.int .u64 (x1 : Nat), .int .u64 (y1 : Nat)], .agg #[.int .u64 (x2 : Nat), .int .u64 (y2 : Nat)]] w fun r w' => r = .returned (.tuple #[.agg #[.int .u64 (u : Nat), .int .u64 (v : Nat)], .int .u8 fl, .int .i64 0]) ∧ Below w.heap.size w w'))
    (K2 : Box (∀ w, FAt w → Calls Tryd.prog 18 #[.int .u8 f, .agg #[.int .u64 (x1 : Nat), .int .u64 (y1 : Nat)], .agg #[.int .u64 (x2 : Nat), .int .u64 (y2 : Nat)]] w fun r w' => r = .returned (.tuple #[.agg #[.int .u64 (p : Nat), .int .u64 (q : Nat)], .int .u8 fl, .int .i64 0]) ∧ Below w.heap.size w w'))
    (KF : Box (∀ (T : TypeId) (g : Nat) (w : World), w.heap.size = g → Calls Tryd.prog 12 #[.int .u8 f, .slice (some ⟨g, 0, none⟩) 2 2] (w.alloc (.cells #[.int .u64 (x1 : Nat), .int .u64 (y1 : Nat), .int .u64 (x2 : Nat), .int .u64 (y2 : Nat)] T)) fun r w' => r = .returned (.bool true) ∧ Below w.heap.size w w'))
    (R1 : Box (∀ w, Calls Tryd.prog 19 #[.int .u8 f, .agg #[.int .u64 (x1 : Nat), .int .u64 (y1 : Nat)], .agg #[.int .u64 (x2 : Nat), .int .u64 (y2 : Nat)], .bool false] w fun r w' => r = .returned (.tuple #[.agg #[.int .u64 (u : Nat), .int .u64 (v : Nat)], .int .u8 fl]) ∧ Below w.heap.size w w'))
    (R2 : Box (∀ w, Calls Tryd.prog 19 #[.int .u8 f, .agg #[.int .u64 (x1 : Nat), .int .u64 (y1 : Nat)], .agg #[.int .u64 (x2 : Nat), .int .u64 (y2 : Nat)], .bool true] w fun r w' => r = .returned (.tuple #[.agg #[.int .u64 (p : Nat), .int .u64 (q : Nat)], .int .u8 fl]) ∧ Below w.heap.size w w'))
    (KA : Box (∀ w, FAt w → Calls Tryd.prog 13 #[] w fun r w' => r = .returned (.bool true) ∧ Below w.heap.size w w'))
    (hT : FAt w) : Calls Tryd.prog 4 #[.int .u8 f, .agg #[.int .u64 (x1 : Nat), .int .u64 (y1 : Nat)], .agg #[.int .u64 (x2 : Nat), .int .u64 (y2 : Nat)]] w fun r w' => r = .returned (.bool true) ∧ Below w.heap.size w w' := by
  have FF := box hT
  clear hT
  obtain ⟨Ra_0, Rb_0, B0⟩ := opn2 w (Obj.cells #[.int .u64 (x1 : Nat), .int .u64 (y1 : Nat)] 25) (Obj.cells #[.int .u64 (x2 : Nat), .int .u64 (y2 : Nat)] 25)
  go_enter Tryd.func4, Tryd.ntmps4
  obtain ⟨ca_0_0, ca_0_1⟩ := cells2s Ra_0
  obtain ⟨cb_0_0, cb_0_1⟩ := cells2s Rb_0
  go_wp2_with fail
  refine (K1.out _ (fatB FF.out B0)).mono ?_
  rintro r w1 ⟨rfl, b1⟩
  have B1 : Below w.heap.size w w1 := btr B0 b1
  have Ra_1 := heap_of b1 _ _ _ Ra_0
  have Rb_1 := heap_of b1 _ _ _ Rb_0
  clear b1 B0 Ra_0 ca_0_0 ca_0_1 Rb_0 cb_0_0 cb_0_1
  obtain ⟨ca_1_0, ca_1_1⟩ := cells2s Ra_1
  obtain ⟨cb_1_0, cb_1_1⟩ := cells2s Rb_1
  have S2 := box B1.size
  have La_2 : Box (w.heap.size < w1.heap.size) := box (Array.getElem?_eq_some_iff.1 Ra_1).1
  have Lb_2 : Box (w.heap.size + 1 < w1.heap.size) := box (Array.getElem?_eq_some_iff.1 Rb_1).1
  have Rx_2 := heap_alloc_last w1 (Obj.cells #[.int .u64 (u : Nat), .int .u64 (v : Nat)] 25)
  have B2 := btr B1 (bal w1 (Obj.cells #[.int .u64 (u : Nat), .int .u64 (v : Nat)] 25))
  have Ra_2 := heap_of (bal w1 (Obj.cells #[.int .u64 (u : Nat), .int .u64 (v : Nat)] 25)) _ _ _ Ra_1
  have Rb_2 := heap_of (bal w1 (Obj.cells #[.int .u64 (u : Nat), .int .u64 (v : Nat)] 25)) _ _ _ Rb_1
  clear B1 Ra_1 ca_1_0 ca_1_1 Rb_1 cb_1_0 cb_1_1
  obtain ⟨ca_2_0, ca_2_1⟩ := cells2s Ra_2
  obtain ⟨cb_2_0, cb_2_1⟩ := cells2s Rb_2
  obtain ⟨cx_2_0, cx_2_1⟩ := cells2s Rx_2
  go_wp2_with fail
  refine (K2.out _ (fatB FF.out B2)).mono ?_
  rintro r w3 ⟨rfl, b3⟩
  have B3 : Below w.heap.size w w3 := btr B2 b3
  have Ra_3 := heap_of b3 _ _ _ Ra_2
  have Rb_3 := heap_of b3 _ _ _ Rb_2
  have Rx_3 := heap_of b3 _ _ _ Rx_2
  clear b3 B2 Ra_2 ca_2_0 ca_2_1 Rb_2 cb_2_0 cb_2_1 Rx_2 cx_2_0 cx_2_1
  obtain ⟨ca_3_0, ca_3_1⟩ := cells2s Ra_3
  obtain ⟨cb_3_0, cb_3_1⟩ := cells2s Rb_3
  obtain ⟨cx_3_0, cx_3_1⟩ := cells2s Rx_3
  have S4 := box B3.size
  have La_4 : Box (w.heap.size < w3.heap.size) := box (Array.getElem?_eq_some_iff.1 Ra_3).1
  have Lb_4 : Box (w.heap.size + 1 < w3.heap.size) := box (Array.getElem?_eq_some_iff.1 Rb_3).1
  have Lx_4 : Box (w1.heap.size < w3.heap.size) := box (Array.getElem?_eq_some_iff.1 Rx_3).1
  have Ry_4 := heap_alloc_last w3 (Obj.cells #[.int .u64 (p : Nat), .int .u64 (q : Nat)] 25)
  have B4 := btr B3 (bal w3 (Obj.cells #[.int .u64 (p : Nat), .int .u64 (q : Nat)] 25))
  have Ra_4 := heap_of (bal w3 (Obj.cells #[.int .u64 (p : Nat), .int .u64 (q : Nat)] 25)) _ _ _ Ra_3
  have Rb_4 := heap_of (bal w3 (Obj.cells #[.int .u64 (p : Nat), .int .u64 (q : Nat)] 25)) _ _ _ Rb_3
  have Rx_4 := heap_of (bal w3 (Obj.cells #[.int .u64 (p : Nat), .int .u64 (q : Nat)] 25)) _ _ _ Rx_3
  clear B3 Ra_3 ca_3_0 ca_3_1 Rb_3 cb_3_0 cb_3_1 Rx_3 cx_3_0 cx_3_1
  obtain ⟨ca_4_0, ca_4_1⟩ := cells2s Ra_4
  obtain ⟨cb_4_0, cb_4_1⟩ := cells2s Rb_4
  obtain ⟨cx_4_0, cx_4_1⟩ := cells2s Rx_4
  obtain ⟨cy_4_0, cy_4_1⟩ := cells2s Ry_4
  go_wp2_with fail
  refine (KF.out _ _ (w3.alloc (Obj.cells #[.int .u64 (p : Nat), .int .u64 (q : Nat)] 25)) (by first | rfl | simp only [size_al])).mono ?_
  rintro r w5 ⟨rfl, b5⟩
  have B5 : Below w.heap.size w w5 := btr B4 b5
  have Ra_5 := heap_of b5 _ _ _ Ra_4
  have Rb_5 := heap_of b5 _ _ _ Rb_4
  have Rx_5 := heap_of b5 _ _ _ Rx_4
  have Ry_5 := heap_of b5 _ _ _ Ry_4
  clear b5 B4 Ra_4 ca_4_0 ca_4_1 Rb_4 cb_4_0 cb_4_1 Rx_4 cx_4_0 cx_4_1 Ry_4 cy_4_0 cy_4_1
  obtain ⟨ca_5_0, ca_5_1⟩ := cells2s Ra_5
  obtain ⟨cb_5_0, cb_5_1⟩ := cells2s Rb_5
  obtain ⟨cx_5_0, cx_5_1⟩ := cells2s Rx_5
  obtain ⟨cy_5_0, cy_5_1⟩ := cells2s Ry_5
  clear cx_5_0 cx_5_1
  clear cy_5_0 cy_5_1
  go_wp2_with fail
  refine (R1.out _).mono ?_
  rintro r w6 ⟨rfl, b6⟩
  have B6 : Below w.heap.size w w6 := btr B5 b6
  have Ra_6 := heap_of b6 _ _ _ Ra_5
  have Rb_6 := heap_of b6 _ _ _ Rb_5
  have Rx_6 := heap_of b6 _ _ _ Rx_5
  have Ry_6 := heap_of b6 _ _ _ Ry_5
  clear b6 B5 Ra_5 ca_5_0 ca_5_1 Rb_5 cb_5_0 cb_5_1 Rx_5 Ry_5
  obtain ⟨ca_6_0, ca_6_1⟩ := cells2s Ra_6
  obtain ⟨cb_6_0, cb_6_1⟩ := cells2s Rb_6
  have S7 := box B6.size
  have La_7 : Box (w.heap.size < w6.heap.size) := box (Array.getElem?_eq_some_iff.1 Ra_6).1
  have Lb_7 : Box (w.heap.size + 1 < w6.heap.size) := box (Array.getElem?_eq_some_iff.1 Rb_6).1
  have Lx_7 : Box (w1.heap.size < w6.heap.size) := box (Array.getElem?_eq_some_iff.1 Rx_6).1
  have Ly_7 : Box (w3.heap.size < w6.heap.size) := box (Array.getElem?_eq_some_iff.1 Ry_6).1
  have Rs_7 := heap_alloc_last w6 (Obj.cells #[.int .u64 (u : Nat), .int .u64 (v : Nat)] 25)
  have B7 := btr B6 (bal w6 (Obj.cells #[.int .u64 (u : Nat), .int .u64 (v : Nat)] 25))
  have Ra_7 := heap_of (bal w6 (Obj.cells #[.int .u64 (u : Nat), .int .u64 (v : Nat)] 25)) _ _ _ Ra_6
  have Rb_7 := heap_of (bal w6 (Obj.cells #[.int .u64 (u : Nat), .int .u64 (v : Nat)] 25)) _ _ _ Rb_6
  have Rx_7 := heap_of (bal w6 (Obj.cells #[.int .u64 (u : Nat), .int .u64 (v : Nat)] 25)) _ _ _ Rx_6
  have Ry_7 := heap_of (bal w6 (Obj.cells #[.int .u64 (u : Nat), .int .u64 (v : Nat)] 25)) _ _ _ Ry_6
  clear B6 Ra_6 ca_6_0 ca_6_1 Rb_6 cb_6_0 cb_6_1 Rx_6 Ry_6
  obtain ⟨ca_7_0, ca_7_1⟩ := cells2s Ra_7
  obtain ⟨cb_7_0, cb_7_1⟩ := cells2s Rb_7
  obtain ⟨cs_7_0, cs_7_1⟩ := cells2s Rs_7
  go_wp2_with fail
  refine (R2.out _).mono ?_
  rintro r w8 ⟨rfl, b8⟩
  have B8 : Below w.heap.size w w8 := btr B7 b8
  have Ra_8 := heap_of b8 _ _ _ Ra_7
  have Rb_8 := heap_of b8 _ _ _ Rb_7
  have Rx_8 := heap_of b8 _ _ _ Rx_7
  have Ry_8 := heap_of b8 _ _ _ Ry_7
  have Rs_8 := heap_of b8 _ _ _ Rs_7
  clear b8 B7 Ra_7 ca_7_0 ca_7_1 Rb_7 cb_7_0 cb_7_1 Rx_7 Ry_7 Rs_7 cs_7_0 cs_7_1
  obtain ⟨ca_8_0, ca_8_1⟩ := cells2s Ra_8
  obtain ⟨cb_8_0, cb_8_1⟩ := cells2s Rb_8
  obtain ⟨cs_8_0, cs_8_1⟩ := cells2s Rs_8
  have S9 := box B8.size
  have La_9 : Box (w.heap.size < w8.heap.size) := box (Array.getElem?_eq_some_iff.1 Ra_8).1
  have Lb_9 : Box (w.heap.size + 1 < w8.heap.size) := box (Array.getElem?_eq_some_iff.1 Rb_8).1
  have Lx_9 : Box (w1.heap.size < w8.heap.size) := box (Array.getElem?_eq_some_iff.1 Rx_8).1
  have Ly_9 : Box (w3.heap.size < w8.heap.size) := box (Array.getElem?_eq_some_iff.1 Ry_8).1
  have Ls_9 : Box (w6.heap.size < w8.heap.size) := box (Array.getElem?_eq_some_iff.1 Rs_8).1
  have Rt_9 := heap_alloc_last w8 (Obj.cells #[.int .u64 (p : Nat), .int .u64 (q : Nat)] 25)
  have B9 := btr B8 (bal w8 (Obj.cells #[.int .u64 (p : Nat), .int .u64 (q : Nat)] 25))
  have Ra_9 := heap_of (bal w8 (Obj.cells #[.int .u64 (p : Nat), .int .u64 (q : Nat)] 25)) _ _ _ Ra_8
  have Rb_9 := heap_of (bal w8 (Obj.cells #[.int .u64 (p : Nat), .int .u64 (q : Nat)] 25)) _ _ _ Rb_8
  have Rx_9 := heap_of (bal w8 (Obj.cells #[.int .u64 (p : Nat), .int .u64 (q : Nat)] 25)) _ _ _ Rx_8
  have Ry_9 := heap_of (bal w8 (Obj.cells #[.int .u64 (p : Nat), .int .u64 (q : Nat)] 25)) _ _ _ Ry_8
  have Rs_9 := heap_of (bal w8 (Obj.cells #[.int .u64 (p : Nat), .int .u64 (q : Nat)] 25)) _ _ _ Rs_8
  clear B8 Ra_8 ca_8_0 ca_8_1 Rb_8 cb_8_0 cb_8_1 Rx_8 Ry_8 Rs_8 cs_8_0 cs_8_1
  obtain ⟨ca_9_0, ca_9_1⟩ := cells2s Ra_9
  obtain ⟨cb_9_0, cb_9_1⟩ := cells2s Rb_9
  obtain ⟨cs_9_0, cs_9_1⟩ := cells2s Rs_9
  obtain ⟨ct_9_0, ct_9_1⟩ := cells2s Rt_9
  obtain ⟨cx_9_0, cx_9_1⟩ := cells2s Rx_9
  obtain ⟨cy_9_0, cy_9_1⟩ := cells2s Ry_9
  go_wp2_with fail
  refine (KA.out _ (fatB FF.out B9)).mono ?_
  rintro r w10 ⟨rfl, b10⟩
  have B10 : Below w.heap.size w w10 := btr B9 b10
  have Ra_10 := heap_of b10 _ _ _ Ra_9
  have Rb_10 := heap_of b10 _ _ _ Rb_9
  have Rx_10 := heap_of b10 _ _ _ Rx_9
  have Ry_10 := heap_of b10 _ _ _ Ry_9
  have Rs_10 := heap_of b10 _ _ _ Rs_9
  have Rt_10 := heap_of b10 _ _ _ Rt_9
  clear b10 B9 Ra_9 ca_9_0 ca_9_1 Rb_9 cb_9_0 cb_9_1 Rx_9 cx_9_0 cx_9_1 Ry_9 cy_9_0 cy_9_1 Rs_9 cs_9_0 cs_9_1 Rt_9 ct_9_0 ct_9_1
  obtain ⟨ca_10_0, ca_10_1⟩ := cells2s Ra_10
  obtain ⟨cb_10_0, cb_10_1⟩ := cells2s Rb_10
  obtain ⟨cx_10_0, cx_10_1⟩ := cells2s Rx_10
  obtain ⟨cy_10_0, cy_10_1⟩ := cells2s Ry_10
  obtain ⟨cs_10_0, cs_10_1⟩ := cells2s Rs_10
  obtain ⟨ct_10_0, ct_10_1⟩ := cells2s Rt_10
  go_wp2
  go_ret
  exact ⟨rfl, B10⟩
end Go.Proofs.YtmndjhcmomejjaaDoor
namespace Go.Proofs.YtmndjhcmomejjaaDoor
set_option maxRecDepth 100000
set_option maxHeartbeats 40000000
set_option maxRecDepth 100000
open Go.RowKit WMath XMath
set_option linter.unusedSimpArgs false
set_option linter.unusedVariables false
theorem kM_n {f : Int} (hf : Is4 f) {n : Nat} (fit : Fit f n) : n = kM f n + (if kN f n then 2 ^ wV f else 0) := by
  have := k_enc hf fit
  unfold enc7 at this
  unfold kM
  exact this.symm
theorem sgI_zero (x : Int) : sgI x = 0 ↔ x = 0 := by
  unfold sgI
  split
  · constructor <;> intro h <;> omega
  split
  · constructor <;> intro h <;> omega
  · constructor <;> intro h <;> omega
theorem tk_inj {f : Int} (hf : Is4 f) {a b : Nat} (fa : Fit f a) (fb : Fit f b) (h : tk f a = tk f b) : a = b := by
  have pa := kN_pos0 fa
  have pb := kN_pos0 fb
  have p := Nat.two_pow_pos (wV f)
  unfold tk at h
  cases s1 : kN f a <;> cases s2 : kN f b <;> rw [s1, s2] at h
  · simp only [Bool.false_eq_true, if_false] at h
    omega
  · have := pb.1 s2
    simp only [Bool.false_eq_true, if_false, if_true] at h
    omega
  · have := pa.1 s1
    simp only [Bool.false_eq_true, if_false, if_true] at h
    omega
  · simp only [if_true] at h
    omega
theorem totR_zero {f : Int} (hf : Is4 f) {a b : Nat} (fa : Fit f a) (fb : Fit f b) : totR f a b = 0 ↔ a = b := by
  unfold totR
  rw [sgI_zero]
  constructor
  · intro h
    exact tk_inj hf fa fb (by omega)
  · intro h
    rw [h]
    omega
end Go.Proofs.YtmndjhcmomejjaaDoor
namespace Go.Proofs.YtmndjhcmomejjaaDoor
set_option maxRecDepth 100000
set_option maxHeartbeats 40000000
set_option maxRecDepth 100000
open Go.RowKit WMath
set_option linter.unusedSimpArgs false
set_option linter.unusedVariables false
def Bed (B : Nat) (w w' : World) : Prop := Below B w w' ∧ w.drawn ≤ w'.drawn
theorem Bed.refl (B : Nat) (w : World) : Bed B w w := ⟨Below.refl _ _, Nat.le_refl _⟩
theorem Bed.trans {B : Nat} {a b c : World} (h : Bed B a b) (k : Bed B b c) : Bed B a c := ⟨h.1.trans k.1, Nat.le_trans h.2 k.2⟩
theorem Bed.mono {B B' : Nat} {w w' : World} (h : Bed B w w') (hB : B' ≤ B) : Bed B' w w' := ⟨h.1.mono hB, h.2⟩
theorem Bed.drew {B : Nat} {a w : World} (h : Bed B a w) : Bed B a w.drew := ⟨h.1.drew, Nat.le_trans h.2 (Nat.le_succ _)⟩
theorem Bed.alloc {B : Nat} {a w : World} (h : Bed B a w) (hB : B ≤ w.heap.size) (o : Obj) : Bed B a (w.alloc o) := ⟨h.1.alloc hB o, h.2⟩
theorem Bed.setCell {B : Nat} {a w : World} (h : Bed B a w) {p : Addr} (hp : B ≤ p.block) (u : Value) : Bed B a (w.setCell p u) := ⟨h.1.setCell hp u, h.2⟩
theorem Bed.size {B : Nat} {w w' : World} (h : Bed B w w') : w.heap.size ≤ w'.heap.size := h.1.size
theorem Bed.block {B : Nat} {w w' : World} (h : Bed B w w') : ∀ k, k < B → w'.heap[k]? = w.heap[k]? := h.1.block
theorem bal7d (w : World) (o : Obj) : Bed w.heap.size w (w.alloc o) := (Bed.refl _ _).alloc (Nat.le_refl _) _
theorem btr7d {a b c : World} (h : Bed a.heap.size a b) (k : Bed b.heap.size b c) : Bed a.heap.size a c := h.trans (k.mono h.size)
theorem bald (w : World) (o : Obj) : Bed w.heap.size w (w.alloc o) := bal7d w o
theorem btrd {a b c : World} (h : Bed a.heap.size a b) (k : Bed b.heap.size b c) : Bed a.heap.size a c := btr7d h k
theorem fatBd {w w' : World} (h : FAt w) (hb : Bed w.heap.size w w') : FAt w' := fatB h hb.1
theorem heap_ofd {W w1 : World} (hb : Bed W.heap.size W w1) (b : Nat) (c : Array Value) (t : TypeId) (h : W.heap[b]? = some (.cells c t)) : w1.heap[b]? = some (.cells c t) := heap_of hb.1 b c t h
theorem below_fund (W : World) : ∃ F : World → World, (∀ u, Bed W.heap.size W (F u)) ∧ (∀ u, Bed W.heap.size W u → F u = u) := by
  classical
  refine ⟨fun u => if Bed W.heap.size W u then u else W, fun u => ?_, fun u h => if_pos h⟩
  by_cases h : Bed W.heap.size W u
  · simp only [h, if_true]
  · simp only [h, if_false]; exact Bed.refl _ _
theorem wp_region_belowd {P : Program} {id : Nat} {Q : Exit → Act → World → Prop} {a : Act} {W : World} {l : List Oper} (F : World → World) (hF : ∀ u, Bed W.heap.size W u → F u = u)
    (hm : P.follows .mixedOrders = true) (hB : Region.lexB .any l.toArray = true)
    (h : wpQuiet P l.toArray (fun w' => ∃ u, w' = F u) (fun a' => ∀ w', (∃ u, w' = F u) → Q .normal a' w') l a) : (Code.region id l.toArray true).wp P Q a W :=
  wp_region_quiet (C := fun w' => ∃ u, w' = F u) hm hB ⟨W.drew, (hF _ ((Bed.refl _ _).drew)).symm⟩ (by simpa using h)
theorem quietFd {P : Program} {f : Nat} {args : Array Value} {v : Value} {W : World} {F : World → World} (h1 : ∀ u, Bed W.heap.size W (F u)) (h2 : ∀ u, Bed W.heap.size W u → F u = u) {u : World}
    (h : Calls P f args (F u) fun e w' => e = .returned v ∧ Bed (F u).heap.size (F u) w') : Calls P f args (F u) fun e w'' => e = .returned v ∧ ∃ u', w'' = F u' :=
  h.mono fun _ w' ⟨he, hm⟩ => ⟨he, w', (h2 _ ((h1 u).trans (hm.mono (h1 u).size))).symm⟩
theorem opn1d (w : World) (o : Obj) : (w.alloc o).heap[w.heap.size]? = some o ∧ Bed w.heap.size w (w.alloc o) := ⟨heap_alloc_last _ _, (Bed.refl _ _).alloc (Nat.le_refl _) _⟩
theorem opn2d (w : World) (o1 o2 : Obj) : ((w.alloc o1).alloc o2).heap[w.heap.size]? = some o1 ∧ ((w.alloc o1).alloc o2).heap[w.heap.size + 1]? = some o2 ∧ Bed w.heap.size w ((w.alloc o1).alloc o2) := by
  obtain ⟨r0, b⟩ := opn1d w o1
  have z : (w.alloc o1).heap.size = w.heap.size + 1 := by simp only [size_al]
  exact ⟨by rw [heap_below _ _ _ (by omega)]; exact r0, by rw [← z]; exact heap_alloc_last _ _, b.alloc (by omega) _⟩
theorem set2_belowd {n : Nat} {w wr : World} {b : Nat} (h : Bed n w wr) (hb : n ≤ b) (v0 v1 : Value) : Bed n w ((wr.setCell ⟨b, 0, none⟩ v0).setCell ⟨b, 1, none⟩ v1) := (h.setCell (by exact hb) _).setCell (by exact hb) _
theorem s_onesd (n H L : Int) (h0 : 0 ≤ n) (h1 : n ≤ 18446744073709551615) (hH : rHi 1 n = H) (hL : rLo 1 n = L) (K M : Int) (hK : (if L = 0 then IntKind.u64.wrap (H - 1) else H) = K) (hM : IntKind.u64.wrap (L - 1) = M) (w : World) :
    Calls Tryd.prog 71 #[.int .u64 n] w fun e w' => e = .returned (.agg #[.int .u64 K, .int .u64 M]) ∧ Bed w.heap.size w w' := by
  by_cases hz : L = 0
  · have hd : (L == 0) = true := by simp [hz]
    rw [if_pos hz] at hK
    subst hz
    rw [show (0 : Int) - 1 = -1 by decide] at hM
    go_enter Tryd.func71, Tryd.ntmps71
    go_wp2_with fail
    refine (s_raised 1 n H _ h0 h1 hH hL _).mono ?_
    rintro r w2 ⟨rfl, rfl⟩
    go_wp2
    exact bodyPost_ret (v := .agg #[.int .u64 K, .int .u64 M]) (by simp [results, Tryd.results71, go_sem]) rfl ⟨rfl, (((Bed.refl _ _).alloc (Nat.le_refl _) _).alloc (by simp only [size_al]; omega) _).alloc (by simp only [size_al]; omega) _⟩
  · have hd : (L == 0) = false := by simp [hz]
    rw [if_neg hz] at hK
    subst hK
    go_enter Tryd.func71, Tryd.ntmps71
    go_wp2_with fail
    refine (s_raised 1 n H _ h0 h1 hH hL _).mono ?_
    rintro r w2 ⟨rfl, rfl⟩
    go_wp2
    exact bodyPost_ret (v := .agg #[.int .u64 H, .int .u64 M]) (by simp [results, Tryd.results71, go_sem]) rfl ⟨rfl, (((Bed.refl _ _).alloc (Nat.le_refl _) _).alloc (by simp only [size_al]; omega) _).alloc (by simp only [size_al]; omega) _⟩
def R7d (w : World) (I J : Int) (w5 : World) (g : Nat) : Prop := Bed w.heap.size w w5 ∧ w5.heap[g]? = some (.cells #[.int .u64 I, .int .u64 J] 25) ∧ w5.heap[w.heap.size + 1]? = some (.cells #[.int .u64 0, .int .u64 0] 25) ∧ w.heap.size + 1 < g
theorem bel_ald {w W : World} (h : Bed w.heap.size w W) (o : Obj) : Bed w.heap.size w (W.alloc o) := btr7d h (bal7d _ _)
theorem bel_drd {w W : World} (h : Bed w.heap.size w W) : Bed w.heap.size w W.drew := h.drew
theorem gen7d {X : Act → World → Prop} {t0 t1 t2 t3 t4 t5 t6 t7 t8 t10 t11 t12 t13 t14 t15 t16 t17 t18 t19 t20 t21 t22 t23 t24 t25 t26 t27 t28 : Value} {d : List Deferred} {w W : World} {I J : Int} {G : Nat}
    (key : ∀ w5 g, R7d w I J w5 g → X ⟨#[t0, t1, t2, t3, t4, t5, t6, t7, t8, .pointer (some ⟨g, 0, none⟩), t10, t11, t12, t13, t14, t15, t16, t17, t18, t19, t20, t21, t22, t23, t24, t25, t26, t27, t28], d⟩ w5) (r : R7d w I J W G) :
    X ⟨#[t0, t1, t2, t3, t4, t5, t6, t7, t8, .pointer (some ⟨G, 0, none⟩), t10, t11, t12, t13, t14, t15, t16, t17, t18, t19, t20, t21, t22, t23, t24, t25, t26, t27, t28], d⟩ W := key W G r
set_option maxHeartbeats 40000000 in
theorem s_pack_anyd (f x a b p n H L I J q m M N I' J' : Int) (neg : Bool) (h0 : 0 ≤ f) (h1 : f ≤ 255) (hc : fC f = 0) (hp : fP f = p) (hn : IntKind.u64.wrap (p - 1) = n) (n0 : 0 ≤ n) (n1 : n ≤ 18446744073709551615)
    (hH : rHi x n = H) (hL : rLo x n = L) (hI : bits .or .u64 H a = I) (hJ : bits .or .u64 L b = J) (hq : fW f = q) (hm : q - 1 = m) (m0 : 0 ≤ m) (m1 : m ≤ 127) (hM : rHi 1 m = M) (hN : rLo 1 m = N) (hI' : bits .or .u64 I M = I') (hJ' : bits .or .u64 J N = J') (w : World) (hT : FAt w) :
    Calls Tryd.prog 93 #[.int .u8 f, .bool neg, .int .u64 x, .agg #[.int .u64 a, .int .u64 b]] w fun e w' => e = .returned (.agg #[.int .u64 (if neg then I' else I), .int .u64 (if neg then J' else J)]) ∧ Bed w.heap.size w w' := by
  have k1 : Box (∀ w : World, FAt w → Calls Tryd.prog 96 #[.int .u8 f] w fun e w' => e = .returned (.int .u64 n) ∧ w' = w.alloc (.cells (fR f) 141)) := box (fun w hw => s_fraction f p n h0 h1 hp hn w hw)
  have k2 := box (s_raised x n H L n0 n1 hH hL)
  have k3 := box (s_join H L a b I J hI hJ)
  have k0 := box (s_check_is f 0 h0 h1 hc)
  have k4 : Box (∀ w : World, FAt w → Calls Tryd.prog 72 #[.int .u8 f] w fun e w' => e = .returned (.int .i64 q) ∧ w' = w.alloc (.cells (fR f) 141)) := box (fun w hw => s_width f q h0 h1 hq w hw)
  have k5 := box (s_raised 1 m M N m0 (by omega) hM hN)
  have k6 := box (s_join I J M N I' J' hI' hJ')
  have T0 := box hT
  have TT := box (fatBd hT (btr7d (bal7d w (.cells #[.int .u64 a, .int .u64 b] 25)) (bal7d _ (.cells #[.int .u64 0, .int .u64 0] 25))))
  have e1 : IntKind.i64.wrap (q - 1) = m := by rw [hm, IntKind.wrap_i64]; omega
  have e2 : IntKind.u64.wrap m = m := by rw [IntKind.wrap_u64]; omega
  have e3 : IntKind.i64.wrap m = m := by rw [IntKind.wrap_i64]; omega
  clear hT hp hn hH hL hI hJ hc h0 h1 n0 n1 hq hM hN hI' hJ' m0 m1 hm
  go_enter Tryd.func93, Tryd.ntmps93
  go_wp2_with fail
  refine (k0.out _).mono ?_
  rintro r w' ⟨rfl, rfl⟩
  go_wp2_with fail
  apply cut7
  · intro key
    go_region_with (first
      | (go_at_call 96; refine (k1.out _ (by repeat (first | exact TT.out | refine fat_al ?_ _ | refine fat_dr ?_))).mono ?_; rintro r w2 ⟨rfl, rfl⟩)
      | (go_at_call 95; refine (k2.out _).mono ?_; rintro r w2 ⟨rfl, rfl⟩)
      | (go_at_call 128; refine (k3.out _).mono ?_; rintro r w2 ⟨rfl, rfl⟩))
    all_goals
      refine gen7d (w := w) (I := I) (J := J) key ⟨?_, ?_, ?_, ?_⟩
      · repeat (first | exact Bed.refl _ _ | refine bel_drd ?_ | refine bel_ald ?_ _)
      · repeat (first | refine row_dr ?_ | (refine row_last ?_; simp only [size_al]; done) | refine row_al ?_ _)
      · repeat (first | refine row_dr ?_ | (refine row_last ?_; simp only [size_al]; done) | refine row_al ?_ _)
      · omega
  rintro w5 g ⟨B5, R5, S5, hg⟩
  have F5 := box (fatBd T0.out B5)
  have c50 := cell7 R5 0 _ rfl
  have c51 := cell7 R5 1 _ rfl
  cases neg
  · have q0 := fz (k := 0) S5
    have q1 := fz (k := 1) S5
    have d0 := cell7 S5 0 _ rfl
    have d1 := cell7 S5 1 _ rfl
    obtain ⟨E0, E1⟩ := set2_cells S5 (.int .u64 I) (.int .u64 J)
    go_wp2
    exact bodyPost_ret (v := .agg #[.int .u64 I, .int .u64 J]) (by simp [results, Tryd.results93, go_sem, E0, E1]) rfl ⟨rfl, set2_belowd B5 (by omega) _ _⟩
  · have r1 := row_al R5 (.cells (fR f) 141)
    have r2 := row_al r1 (.cells #[.int .u64 M, .int .u64 N] 25)
    have r5 := row_al (row_al (row_al r2 (.cells #[.int .u64 I, .int .u64 J] 25)) (.cells #[.int .u64 M, .int .u64 N] 25)) (.cells #[.int .u64 I', .int .u64 J'] 25)
    have s5 := row_al (row_al (row_al (row_al (row_al S5 (.cells (fR f) 141)) (.cells #[.int .u64 M, .int .u64 N] 25)) (.cells #[.int .u64 I, .int .u64 J] 25)) (.cells #[.int .u64 M, .int .u64 N] 25)) (.cells #[.int .u64 I', .int .u64 J'] 25)
    have Q5 : Box (R7d w I' J' _ g) := box ⟨set2_belowd (bel_ald (bel_ald (bel_ald (bel_ald (bel_ald B5 _) _) _) _) _) (by omega) (.int .u64 I') (.int .u64 J'), set2_row r5 _ _, by rw [setCell_other (by omega), setCell_other (by omega)]; exact s5, hg⟩
    have c10 := cell7 r1 0 _ rfl
    have c11 := cell7 r1 1 _ rfl
    have c20 := cell7 r2 0 _ rfl
    have c21 := cell7 r2 1 _ rfl
    have q0 := fz (k := 0) r5
    have q1 := fz (k := 1) r5
    have e50 := cell7 r5 0 _ rfl
    have e51 := cell7 r5 1 _ rfl
    clear r1 r2 r5 s5
    go_wp2_with fail
    apply cut7
    · intro key
      go_region_with (first
        | (go_at_call 72; refine (k4.out _ (by repeat (first | exact F5.out | refine fat_al ?_ _ | refine fat_dr ?_))).mono ?_; rintro r w2 ⟨rfl, rfl⟩)
        | (go_at_call 95; refine (k5.out _).mono ?_; rintro r w2 ⟨rfl, rfl⟩)
        | (go_at_call 128; refine (k6.out _).mono ?_; rintro r w2 ⟨rfl, rfl⟩))
      all_goals
        refine gen7d (w := w) (I := I') (J := J') key ?_
        exact ⟨bel_drd Q5.out.1, row_dr Q5.out.2.1, row_dr Q5.out.2.2.1, hg⟩
    clear R5 S5 F5 c50 c51 c10 c11 c20 c21 q0 q1 e50 e51 B5
    rintro w6 g6 ⟨B6, R6, S6, hg6⟩
    have c60 := cell7 R6 0 _ rfl
    have c61 := cell7 R6 1 _ rfl
    have q0 := fz (k := 0) S6
    have q1 := fz (k := 1) S6
    have d0 := cell7 S6 0 _ rfl
    have d1 := cell7 S6 1 _ rfl
    obtain ⟨E0, E1⟩ := set2_cells S6 (.int .u64 I') (.int .u64 J')
    go_wp2
    exact bodyPost_ret (v := .agg #[.int .u64 I', .int .u64 J']) (by simp [results, Tryd.results93, go_sem, E0, E1]) rfl ⟨rfl, set2_belowd B6 (by omega) _ _⟩
theorem s_pack_isd (f x a b I J : Int) (neg : Bool) (hf : Is4 f) (hI : pkHi f neg x a = I) (hJ : pkLo f neg x b = J) (w : World) (hT : FAt w) :
    Calls Tryd.prog 93 #[.int .u8 f, .bool neg, .int .u64 x, .agg #[.int .u64 a, .int .u64 b]] w fun e w' => e = .returned (.agg #[.int .u64 I, .int .u64 J]) ∧ Bed w.heap.size w w' := by
  subst hI hJ
  have k : 0 ≤ IntKind.u64.wrap (fP f - 1) ∧ IntKind.u64.wrap (fP f - 1) ≤ 18446744073709551615 ∧ 0 ≤ fW f - 1 ∧ fW f - 1 ≤ 127 ∧ fC f = 0 ∧ 0 ≤ f ∧ f ≤ 255 := by
    rcases hf with rfl | rfl | rfl | rfl <;> decide +kernel
  have h := s_pack_anyd f x a b _ _ _ _ _ _ _ _ _ _ _ _ neg k.2.2.2.2.2.1 k.2.2.2.2.2.2 k.2.2.2.2.1 rfl rfl k.1 k.2.1 rfl rfl rfl rfl rfl rfl k.2.2.1 k.2.2.2.1 rfl rfl rfl rfl w hT
  refine h.mono ?_
  rintro r w' ⟨rfl, b⟩
  refine ⟨?_, b⟩
  cases neg <;> rfl
set_option maxHeartbeats 1000000 in
theorem s_zerod (f : Int) (neg : Bool) (hf : Is4 f) (v : Nat) (hv : eZero f neg = v) (w : World) (hT : FAt w) :
    Calls Tryd.prog 109 #[.int .u8 f, .bool neg] w fun e w' => e = .returned (bitsV (bv7 v)) ∧ Bed w.heap.size w w' := by
  subst hv
  have TT := box hT
  have P := box (pk_Zero hf neg)
  obtain ⟨x, y, hxy⟩ : ∃ x y, bv7 (eZero f neg) = (x, y) := ⟨_, _, rfl⟩
  rw [hxy] at P ⊢
  have e0 : bitsV (x, y) = .agg #[.int .u64 (x : Nat), .int .u64 (y : Nat)] := rfl
  rw [e0]
  have f4 := is4_ok hf
  clear hxy hT e0
  have R0 : (w.alloc (.cells #[.int .u64 0, .int .u64 0] 25)).heap[w.heap.size]? = some (.cells #[.int .u64 0, .int .u64 0] 25) := last7 _ _
  have B0 := bal7d w (.cells #[.int .u64 0, .int .u64 0] 25)
  go_enter Tryd.func109, Tryd.ntmps109
  go_wp2_with fail
  refine (s_pack_isd f 0 0 0 _ _ neg hf P.out.1 P.out.2 _ (fatBd TT.out B0)).mono ?_
  rintro r w1 ⟨rfl, b1⟩
  have B1 := btr7d B0 b1
  have R1 := heap_ofd b1 _ _ _ R0
  clear B0 R0 b1
  have q0 := fz (k := 0) R1
  have q1 := fz (k := 1) R1
  have d0 := cell7 R1 0 _ rfl
  have d1 := cell7 R1 1 _ rfl
  obtain ⟨E0, E1⟩ := set2_cells R1 (.int .u64 x) (.int .u64 y)
  go_wp2
  exact bodyPost_ret (v := .agg #[.int .u64 x, .int .u64 y]) (by simp [results, Tryd.results109, go_sem, E0, E1]) rfl ⟨rfl, set2_belowd B1 (by omega) _ _⟩
theorem s_fits_nod (f : Int) (b : Nat × Nat) (h0 : 0 ≤ f) (h1 : f ≤ 255) (hc : fC f = 2) (w : World) (hT : FAt w) :
    Calls Tryd.prog 44 #[.int .u8 f, bitsV b] w fun e w' => e = .returned (.bool false) ∧ Bed w.heap.size w w' := by
  have hq : fW f = 0 := by
    unfold fC at hc
    unfold fW
    split at hc
    · simp at hc
    · rename_i h; rw [if_neg (fun e => h (Or.inl e)), if_neg (fun e => h (Or.inr (Or.inl e))), if_neg (fun e => h (Or.inr (Or.inr (Or.inl e)))), if_neg (fun e => h (Or.inr (Or.inr (Or.inr e))))]
  have TT := box hT
  unfold bitsV
  have B0 := bal7d w (.cells #[.int .u64 b.1, .int .u64 b.2] 25)
  go_enter Tryd.func44, Tryd.ntmps44
  go_wp2_with fail
  refine (s_width f 0 h0 h1 hq _ (fatBd TT.out B0)).mono ?_
  rintro r w' ⟨rfl, rfl⟩
  have B1 := bel_ald B0 (.cells (fR f) 141)
  clear B0
  go_wp2_with fail
  refine (s_onesd 0 0 1 (by decide) (by decide) rfl rfl 0 0 rfl rfl _).mono ?_
  rintro r w2 ⟨rfl, b2⟩
  have B2 := bel_ald (btr7d B1 b2) (.cells #[.int .u64 0, .int .u64 0] 25)
  clear B1 b2
  go_wp2_with fail
  refine (s_check_is f 2 h0 h1 hc _).mono ?_
  rintro r w' ⟨rfl, rfl⟩
  go_wp2
  go_ret
  exact ⟨rfl, B2⟩
set_option maxHeartbeats 1000000 in
theorem s_fitsd (f : Int) (b : Nat × Nat) (o : Bool) (hf : Is4 f) (hb1 : b.1 < 18446744073709551616) (hb2 : b.2 < 18446744073709551616) (p q : Bool) (hp : (bits .andNot .u64 (b.1 : Int) (oHi f) == 0) = p) (hq : (bits .andNot .u64 (b.2 : Int) (oLo f) == 0) = q) (ho : (p && q) = o) (w : World) (hT : FAt w) :
    Calls Tryd.prog 44 #[.int .u8 f, bitsV b] w fun e w' => e = .returned (.bool o) ∧ Bed w.heap.size w w' := by
  have TT := box hT
  have f4 := is4_ok hf
  unfold bitsV
  obtain ⟨b1, b2⟩ := b
  simp only at hb1 hb2 hp hq
  obtain ⟨W, hW⟩ : ∃ W : Int, fW f = W := ⟨_, rfl⟩
  obtain ⟨K, hK⟩ : ∃ W : Int, oHi f = W := ⟨_, rfl⟩
  obtain ⟨M, hM⟩ : ∃ W : Int, oLo f = W := ⟨_, rfl⟩
  rw [hK] at hp
  rw [hM] at hq
  have w0 : IntKind.u64.wrap W = W := by rw [← hW]; rcases hf with rfl | rfl | rfl | rfl <;> decide +kernel
  have wl := fW_lim hW
  have KO : Box (∀ w : World, Calls Tryd.prog 71 #[.int .u64 W] w fun e w' => e = .returned (.agg #[.int .u64 K, .int .u64 M]) ∧ Bed w.heap.size w w') := box (fun w => s_onesd W _ _ (by omega) (by omega) rfl rfl K M (by rw [← hK, ← hW]; rfl) (by rw [← hM, ← hW]; rfl) w)
  have R0 : (w.alloc (.cells #[.int .u64 b1, .int .u64 b2] 25)).heap[w.heap.size]? = some (.cells #[.int .u64 b1, .int .u64 b2] 25) := last7 _ _
  have B0 := bal7d w (.cells #[.int .u64 b1, .int .u64 b2] 25)
  have HW := box hW
  clear hT hW hK hM hb1 hb2 hf wl
  go_enter Tryd.func44, Tryd.ntmps44
  go_wp2_with fail
  refine (s_width f W f4.1 f4.2.1 HW.out _ (fatBd TT.out B0)).mono ?_
  rintro r w' ⟨rfl, rfl⟩
  have B1 := bel_ald B0 (.cells (fR f) 141)
  have R1 := row_al R0 (.cells (fR f) 141)
  clear B0 R0
  go_wp2_with fail
  refine (KO.out _).mono ?_
  rintro r w2 ⟨rfl, b2'⟩
  have R2 := row_al (heap_ofd b2' _ _ _ R1) (.cells #[.int .u64 K, .int .u64 M] 25)
  have B2 := bel_ald (btr7d B1 b2') (.cells #[.int .u64 K, .int .u64 M] 25)
  have c0 := cell7 R2 0 _ rfl
  have c1 := cell7 R2 1 _ rfl
  clear B1 b2' R1
  go_wp2_with fail
  refine (s_check_is f 0 f4.1 f4.2.1 f4.2.2.1 _).mono ?_
  rintro r w' ⟨rfl, rfl⟩
  cases p <;> cases q <;> subst ho
  · go_wp2
    go_ret
    exact ⟨rfl, B2⟩
  · go_wp2
    go_ret
    exact ⟨rfl, B2⟩
  · go_wp2
    go_ret
    exact ⟨rfl, B2⟩
  · go_wp2
    go_ret
    exact ⟨rfl, B2⟩
theorem s_fits_isd (f : Int) (b : Nat × Nat) (o : Bool) (h0 : 0 ≤ f) (h1 : f ≤ 255) (hb1 : b.1 < 18446744073709551616) (hb2 : b.2 < 18446744073709551616) (ho : fitsB f b = o) (w : World) (hT : FAt w) :
    Calls Tryd.prog 44 #[.int .u8 f, bitsV b] w fun e w' => e = .returned (.bool o) ∧ Bed w.heap.size w w' := by
  by_cases h : f ≤ 3
  · refine s_fitsd f b o (is4_of h0 h) hb1 hb2 _ _ rfl rfl ?_ w hT
    rw [fit7 f (is4_of h0 h) b.1 b.2 hb1 hb2, ← ho]
    unfold fitsB
    rw [decide_eq_true h, Bool.true_and]
  · have e : o = false := by rw [← ho]; unfold fitsB; rw [decide_eq_false h, Bool.false_and]
    subst e
    exact s_fits_nod f b h0 h1 (no7 (by omega)).1 w hT
theorem kopn1d (w : World) (o : Obj) : (w.alloc o).heap[w.heap.size]? = some o ∧ Bed w.heap.size w (w.alloc o) := ⟨heap_alloc_last _ _, (Bed.refl _ _).alloc (Nat.le_refl _) _⟩
theorem k_fromd (x y pl : Nat) (v : Int) (hv : bits .or .u64 ((y : Int) / 2 ^ min pl 64) ((x : Int) / 2 ^ min (IntKind.u64.wrap ((pl : Int) - 64)).toNat 64) = v) (w : World) :
    Calls Tryd.prog 118 #[.agg #[.int .u64 (x : Nat), .int .u64 (y : Nat)], .int .u64 (pl : Nat)] w fun e w' => e = .returned (.int .u64 v) ∧ Bed w.heap.size w w' := by
  subst hv
  go_enter Tryd.func118, Tryd.ntmps118
  go_wp2
  go_ret
  exact ⟨rfl, bal7d _ _⟩
theorem kb_widthd (f v : Int) (h0 : 0 ≤ f) (h1 : f ≤ 255) (hv : fW f = v) (w : World) (hT : FAt w) :
    Calls Tryd.prog 72 #[.int .u8 f] w fun e w' => e = .returned (.int .i64 v) ∧ Bed w.heap.size w w' :=
  (s_width f v h0 h1 hv w hT).mono fun _ _ h => ⟨h.1, by rw [h.2]; exact bal7d _ _⟩
theorem kfrom_isd (x y n pl v : Nat) (hx : x < 18446744073709551616) (hy : y < 18446744073709551616) (hn : y + 18446744073709551616 * x = n) (hp : pl < 128) (hv : frm n pl = v) (w : World) : Calls Tryd.prog 118 #[.agg #[.int .u64 (x : Nat), .int .u64 (y : Nat)], .int .u64 (pl : Nat)] w fun r w' => r = .returned (.int .u64 (v : Nat)) ∧ Bed w.heap.size w w' := by
  subst hv
  exact k_fromd x y pl _ (from_is x y n pl hx hy hn hp) w
theorem kbit_isd (x y n pl : Nat) (o : Bool) (hx : x < 18446744073709551616) (hy : y < 18446744073709551616) (hn : y + 18446744073709551616 * x = n) (hp : pl < 128) (ho : decide (frm n pl % 2 = 1) = o) (w : World) : Calls Tryd.prog 76 #[.agg #[.int .u64 (x : Nat), .int .u64 (y : Nat)], .int .u64 (pl : Nat)] w fun r w' => r = .returned (.bool o) ∧ Bed w.heap.size w w' := by
  obtain ⟨v, hv⟩ : ∃ v, frm n pl = v := ⟨_, rfl⟩
  rw [hv] at ho
  have KF := box (kfrom_isd x y n pl v hx hy hn hp hv)
  have vl := frm_lt n pl (by omega)
  rw [hv] at vl
  have ha := and_one v vl
  have hd : (((v % 2 : Nat) : Int) == 1) = o := by rw [← ho]; by_cases h : v % 2 = 1 <;> simp [h] <;> omega
  obtain ⟨u, hu⟩ : ∃ u, v % 2 = u := ⟨_, rfl⟩
  rw [hu] at ha hd
  clear ho hv hn hx hy hp hu vl
  obtain ⟨Rb_0, B0⟩ := kopn1d w (Obj.cells #[.int .u64 (x : Nat), .int .u64 (y : Nat)] 25)
  go_enter Tryd.func76, Tryd.ntmps76
  go_wp2_with fail
  refine (KF.out _).mono ?_
  rintro r w1 ⟨rfl, b1⟩
  have B1 : Bed w.heap.size w w1 := btr7d B0 b1
  have Rb_1 := heap_ofd b1 _ _ _ Rb_0
  clear b1 B0 Rb_0
  obtain ⟨cb_1_0, cb_1_1⟩ := cell7t Rb_1
  go_wp2
  go_ret
  exact ⟨rfl, B1⟩
theorem ksign_isd (f : Int) (hf : Is4 f) (x y n : Nat) (o : Bool) (hx : x < 18446744073709551616) (hy : y < 18446744073709551616) (hn : y + 18446744073709551616 * x = n) (ho : kN f n = o) (w : World) (hT : FAt w) : Calls Tryd.prog 78 #[.int .u8 f, .agg #[.int .u64 (x : Nat), .int .u64 (y : Nat)]] w fun r w' => r = .returned (.bool o) ∧ Bed w.heap.size w w' := by
  have f4 := is4_ok hf
  obtain ⟨_, _, _, _, a5, a6, a7, a8⟩ := pV_lim hf
  have KB := box (kbit_isd x y n (wV f) o hx hy hn a5 (by rw [sign_of hf, ho]))
  obtain ⟨q, hq⟩ : ∃ q, fW f = q := ⟨_, rfl⟩
  obtain ⟨k, hk⟩ : ∃ q, wV f = q := ⟨_, rfl⟩
  rw [hq, hk] at a7
  rw [hk] at KB a8
  have TT := box hT
  have HQ := box hq
  clear hT hf hq hk hn hx hy ho a5 a6
  obtain ⟨Rb_0, B0⟩ := kopn1d w (Obj.cells #[.int .u64 (x : Nat), .int .u64 (y : Nat)] 25)
  go_enter Tryd.func78, Tryd.ntmps78
  go_wp2_with fail
  obtain ⟨F, hF1, hF2⟩ := below_fund (w.alloc (Obj.cells #[.int .u64 (x : Nat), .int .u64 (y : Nat)] 25))
  have fb_0 := fun u => cell7 (heap_ofd (hF1 u) _ _ _ Rb_0) 0 _ rfl
  have fb_1 := fun u => cell7 (heap_ofd (hF1 u) _ _ _ Rb_0) 1 _ rfl
  have TF : Box (∀ u, FAt (F u)) := box (fun u => fatBd TT.out (btr7d B0 (hF1 u)))
  refine wp_region_belowd F hF2 (by kernel_rfl) (by kernel_rfl) ?_
  repeat first | go_big_quiet_step (first | (go_at_call 72; exact quietFd hF1 hF2 (kb_widthd f q f4.1 f4.2.1 HQ.out _ (TF.out _))) | (go_at_call 76; exact quietFd hF1 hF2 (KB.out _)) | fail) | quiet_step (first | (go_at_call 72; exact quietFd hF1 hF2 (kb_widthd f q f4.1 f4.2.1 HQ.out _ (TF.out _))) | (go_at_call 76; exact quietFd hF1 hF2 (KB.out _)) | fail)
  refine wpQuiet_nil ?_
  rintro _ ⟨uW, rfl⟩
  have B1 := btr7d B0 (hF1 uW)
  have Rb_1 := heap_ofd (hF1 uW) _ _ _ Rb_0
  obtain ⟨w1, hw⟩ : ∃ V, F uW = V := ⟨_, rfl⟩
  rw [hw] at B1 Rb_1
  try rw [hw]
  clear hw hF1 hF2 B0 fb_0 fb_1 Rb_0
  clear TF
  clear F
  obtain ⟨cb_1_0, cb_1_1⟩ := cell7t Rb_1
  go_wp2
  go_ret
  exact ⟨rfl, B1⟩
theorem sk_fitsd (f : Int) (x y n : Nat) (o : Bool) (h0 : 0 ≤ f) (h1 : f ≤ 255) (hx : x < 18446744073709551616) (hy : y < 18446744073709551616) (hn : y + 18446744073709551616 * x = n) (ho : okB f n = o) (w : World) (hT : FAt w) : Calls Tryd.prog 44 #[.int .u8 f, .agg #[.int .u64 (x : Nat), .int .u64 (y : Nat)]] w fun r w' => r = .returned (.bool o) ∧ Bed w.heap.size w w' :=
  s_fits_isd f (x, y) o h0 h1 hx hy (by rw [okB_fits f h0 x y n hn, ho]) w hT
theorem kSign_yesd (f : Int) (hf : Is4 f) (x y n : Nat) (o : Bool) (hx : x < 18446744073709551616) (hy : y < 18446744073709551616) (hn : y + 18446744073709551616 * x = n) (ho : okB f n = true) (hc : kN f n = o) (w : World) (hT : FAt w) : Calls Tryd.prog 110 #[.int .u8 f, .agg #[.int .u64 (x : Nat), .int .u64 (y : Nat)]] w fun r w' => r = .returned (.bool o) ∧ Bed w.heap.size w w' := by
  have f4 := is4_ok hf
  have K1 := box (sk_fitsd f x y n true f4.1 f4.2.1 hx hy hn ho)
  have K2 := box (ksign_isd f hf x y n o hx hy hn hc)
  have TT := box hT
  clear hT hf hx hy hn ho hc
  obtain ⟨Rb_0, B0⟩ := kopn1d w (Obj.cells #[.int .u64 (x : Nat), .int .u64 (y : Nat)] 25)
  go_enter Tryd.func110, Tryd.ntmps110
  go_wp2_with fail
  refine (K1.out _ (fatBd TT.out B0)).mono ?_
  rintro r w1 ⟨rfl, b1⟩
  have B1 : Bed w.heap.size w w1 := btr7d B0 b1
  have Rb_1 := heap_ofd b1 _ _ _ Rb_0
  clear b1 B0 Rb_0
  obtain ⟨cb_1_0, cb_1_1⟩ := cell7t Rb_1
  go_wp2_with fail
  refine (K2.out _ (fatBd TT.out B1)).mono ?_
  rintro r w2 ⟨rfl, b2⟩
  have B2 : Bed w.heap.size w w2 := btr7d B1 b2
  have Rb_2 := heap_ofd b2 _ _ _ Rb_1
  clear b2 B1 Rb_1 cb_1_0 cb_1_1
  obtain ⟨cb_2_0, cb_2_1⟩ := cell7t Rb_2
  go_wp2
  go_ret
  exact ⟨rfl, B2⟩
end Go.Proofs.YtmndjhcmomejjaaDoor
