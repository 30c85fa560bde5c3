/-
  What the functions that the statement reaches return: part 6 (P3, P4, P5, P6).
-/
import Derived.Test.YtmndjhcmomejjaaDoorOo05
namespace Go.Proofs.YtmndjhcmomejjaaDoor
set_option maxRecDepth 100000
set_option maxHeartbeats 40000000
set_option maxRecDepth 100000
open Go.RowKit WMath
set_option linter.unusedSimpArgs false
set_option linter.unusedVariables false
set_option maxRecDepth 100000 in
set_option maxHeartbeats 8000000 in
theorem om_list (f : Int) (h0 : 0 ≤ f) (h1 : f ≤ 255) (l : List (Nat × Nat)) (L g z c : Nat) (w : World) (hl : l.length = L) (hL : L ≤ 1000) (hb : Box (∀ p ∈ l, p.1 < 18446744073709551616 ∧ p.2 < 18446744073709551616)) (HC : Box (∀ W, Below w.heap.size w W → ∀ k p, l[k]? = some p → W.cell? ⟨g, z + k * 2, none⟩ = some (.int .u64 (p.1 : Nat)) ∧ W.cell? ⟨g, z + k * 2 + 1, none⟩ = some (.int .u64 (p.2 : Nat))))
    (q : Bool) (e : Int) (he : (e == 0) = q) (KC : Box (∀ w : World, Calls Tryd.prog 46 #[.int .u8 f] w fun r w' => r = .returned (.int .i64 e) ∧ w' = w)) (o : Bool) (ho : (l.all (okP f) && q) = o) (hT : FAt w) : Calls Tryd.prog 25 #[.int .u8 f, .slice (some ⟨g, z, none⟩) L c] w fun r w' => r = .returned (.bool o) ∧ Below w.heap.size w w' := by
  have FF := box hT
  have HO := box ho
  have HL := box hl
  have H0 := box h0
  have H1 := box h1
  clear ho hl hT h0 h1
  go_enter Tryd.func25, Tryd.ntmps25
  go_wp2
  go_loopw [9] (fun iv wr => ∃ k : Nat, k ≤ L ∧ iv = .int .i64 k ∧ Below w.heap.size w wr ∧ Box (∀ j p, j < k → l[j]? = some p → okP f p = true)) (fun iv _ => L - (intOf iv).toNat)
  case atStart => exact ⟨0, by omega, rfl, Below.refl _ _, box (fun j s hj => absurd hj (by omega))⟩
  case round =>
    obtain ⟨k, hk, rfl, bw, HA⟩ := hrel
    by_cases hlt : k < L
    · obtain ⟨p, hs⟩ : ∃ p, l[k]? = some p := ⟨_, List.getElem?_eq_getElem (by rw [HL.out]; exact hlt)⟩
      obtain ⟨c1, c2⟩ := HC.out _ bw k p hs
      have dl : decide ((k : Int) < (L : Int)) = true := decide_eq_true (by omega)
      have HS := box hs
      obtain ⟨o1, hm⟩ : ∃ o1, okP f p = o1 := ⟨_, rfl⟩
      have HM := box hm
      have hp := hb.out p (List.mem_of_getElem? hs)
      have KF : Box (∀ w, FAt w → Calls Tryd.prog 44 #[.int .u8 f, .agg #[.int .u64 (p.1 : Nat), .int .u64 (p.2 : Nat)]] w fun r w' => r = .returned (.bool o1) ∧ Below w.heap.size w w') := box (fun w hT => sk_fits f p.1 p.2 _ o1 H0.out H1.out hp.1 hp.2 rfl hm w hT)
      have FA : Box (FAt (wr.alloc (.cells #[.int .u64 (p.1 : Nat), .int .u64 (p.2 : Nat)] 25))) := box (fatB FF.out (btr bw (bal _ _)))
      have BA := btr bw (bal wr (.cells #[.int .u64 (p.1 : Nat), .int .u64 (p.2 : Nat)] 25))
      clear hs hm hp
      cases o1
      · have e : o = false := by
          rw [← HO.out, Bool.eq_false_iff]
          intro h
          rw [Bool.and_eq_true, List.all_eq_true] at h
          have := h.1 p (List.mem_of_getElem? HS.out)
          rw [HM.out] at this
          exact absurd this (by decide)
        subst e
        go_wp2_with fail
        refine (KF.out _ FA.out).mono ?_
        rintro r w2 ⟨rfl, b2⟩
        go_wp2
        go_ret
        exact ⟨rfl, btr BA b2⟩
      · have NA : Box (∀ j p, j < k + 1 → l[j]? = some p → okP f p = true) := box (fun j p2 hj h2 => by
          by_cases e : j = k
          · subst e
            rw [HS.out] at h2
            cases h2
            exact HM.out
          · exact HA.out j p2 (by omega) h2)
        go_wp2_with fail
        refine (KF.out _ FA.out).mono ?_
        rintro r w2 ⟨rfl, b2⟩
        go_wp2
        go_roundw
        case rel => exact ⟨k + 1, by omega, by go_num, btr BA b2, NA⟩
        case measure => simp [intOf] <;> omega
    · obtain rfl : k = L := by omega
      have e : o = q := by
        rw [← HO.out, show l.all (okP f) = true from List.all_eq_true.2 (fun s hs => by
          obtain ⟨j, hj⟩ := List.mem_iff_getElem?.1 hs
          have := (List.getElem?_eq_some_iff.1 hj).1
          exact HA.out j s (by rw [← HL.out]; exact this) hj), Bool.true_and]
      subst e
      have dl : decide ((k : Int) < (k : Int)) = false := by rw [decide_eq_false_iff_not]; omega
      go_wp2_with fail
      refine (KC.out _).mono ?_
      rintro r w2 ⟨rfl, rfl⟩
      go_wp2
      go_ret
      exact ⟨rfl, bw⟩
theorem f4_check (f : Int) (h0 : 0 ≤ f) (h1 : f ≤ 255) : ∃ (q : Bool) (e : Int), (e == 0) = q ∧ q = decide (f ≤ 3) ∧ Box (∀ w : World, Calls Tryd.prog 46 #[.int .u8 f] w fun r w' => r = .returned (.int .i64 e) ∧ w' = w) := by
  refine ⟨_, fC f, rfl, ?_, box (fun w => s_check_is f _ h0 h1 rfl w)⟩
  unfold fC
  by_cases c : f ≤ 3
  · rw [decide_eq_true c, if_pos (by omega)]; rfl
  · rw [decide_eq_false c, if_neg (by omega)]; rfl
theorem km2 (f : Int) (h0 : 0 ≤ f) (h1 : f ≤ 255) (x1 y1 a x2 y2 b : Nat) (hx1 : x1 < 18446744073709551616) (hy1 : y1 < 18446744073709551616) (ha : y1 + 18446744073709551616 * x1 = a) (hx2 : x2 < 18446744073709551616) (hy2 : y2 < 18446744073709551616) (hb : y2 + 18446744073709551616 * x2 = b) (o : Bool) (ho : (okB f a && okB f b) = o) :
    Box (∀ (T : TypeId) (g : Nat) (w : World), w.heap.size = g → FAt w → Calls Tryd.prog 25 #[.int .u8 f, .slice (some ⟨g, 0, none⟩) 2 2] (w.alloc (.cells #[.int .u64 (x1 : Nat), .int .u64 (y1 : Nat), .int .u64 (x2 : Nat), .int .u64 (y2 : Nat)] T)) fun r w' => r = .returned (.bool o) ∧ Below w.heap.size w w') := by
  refine box (fun T g w hg hT => ?_)
  have B := (bal w (.cells #[.int .u64 (x1 : Nat), .int .u64 (y1 : Nat), .int .u64 (x2 : Nat), .int .u64 (y2 : Nat)] T))
  have row := two_row x1 y1 x2 y2 T g w hg
  have hT2 := fatB hT B
  obtain ⟨q, e, he, hq, KC⟩ := f4_check f h0 h1
  have hq2 : (okB f a && okB f b && q) = o := by
    rw [← ho, hq]
    by_cases c : f ≤ 3
    · rw [decide_eq_true c, Bool.and_true]
    · have : okB f a = false := decide_eq_false (fun k => c k.1)
      rw [this]; rfl
  refine (om_list f h0 h1 [(x1, y1), (x2, y2)] 2 g 0 2 _ rfl (by decide) (two_lim hx1 hy1 hx2 hy2) (box (fun W b k p hk => ?_)) q e he KC o ?_ hT2).mono fun _ _ ⟨q1, q2⟩ => ⟨q1, btr B q2⟩
  · have := bls_cell (heap_of b _ _ _ row) k p hk
    rw [Nat.zero_add]
    exact this
  · show (okP f (x1, y1) && (okP f (x2, y2) && true) && q) = _
    unfold okP
    rw [ha, hb, Bool.and_true]
    exact hq2
end Go.Proofs.YtmndjhcmomejjaaDoor
namespace Go.Proofs.YtmndjhcmomejjaaDoor
set_option maxRecDepth 100000
set_option maxHeartbeats 40000000
set_option maxRecDepth 100000
open Go.RowKit WMath XMath
set_option linter.unusedSimpArgs false
set_option linter.unusedVariables false
theorem xor_ones : ∀ (k a : Nat), a < 2 ^ k → a ^^^ (2 ^ k - 1) = 2 ^ k - 1 - a
  | 0, a, h => by
    have : a = 0 := by rw [Nat.pow_zero] at h; omega
    subst this
    rfl
  | k + 1, a, h => by
    have p := Nat.two_pow_pos k
    rw [Nat.pow_succ] at h
    have ih := xor_ones k (a / 2) (by omega)
    have e : 2 ^ (k + 1) - 1 = 2 * (2 ^ k - 1) + 1 := by rw [Nat.pow_succ]; omega
    have h1 : (a ^^^ (2 ^ (k + 1) - 1)) / 2 = 2 ^ k - 1 - a / 2 := by
      rw [Nat.xor_div_two, show (2 ^ (k + 1) - 1) / 2 = 2 ^ k - 1 by rw [e]; omega, ih]
    have h2 : (a ^^^ (2 ^ (k + 1) - 1)) % 2 = (a + 1) % 2 := by rw [xor_two, e]; omega
    rw [e] at h1 h2 ⊢
    omega
def rkN (f : Int) (n : Nat) : Nat := if kN f n then n ^^^ (2 * 2 ^ wV f - 1) else n ^^^ 2 ^ wV f
theorem rkN_val {f : Int} {n : Nat} (fit : Fit f n) : (kN f n = true → rkN f n = 2 * 2 ^ wV f - 1 - n) ∧ (kN f n = false → rkN f n = n + 2 ^ wV f) := by
  obtain ⟨p1, p2⟩ := kN_pos0 fit
  unfold rkN
  refine ⟨fun h => ?_, fun h => ?_⟩
  · rw [if_pos h, show 2 * 2 ^ wV f = 2 ^ (wV f + 1) by rw [Nat.pow_succ, Nat.mul_comm]]
    exact xor_ones _ _ (by unfold Fit at fit; rw [Nat.pow_succ, Nat.mul_comm]; exact fit)
  · rw [if_neg (by rw [h]; decide), xor_bit, Nat.div_eq_of_lt (p2 h), if_neg (by decide)]
theorem rkN_tk {f : Int} {a b : Nat} (fa : Fit f a) (fb : Fit f b) : ((rkN f a < rkN f b) ↔ (tk f a < tk f b)) := by
  obtain ⟨a1, a2⟩ := kN_pos0 fa
  obtain ⟨b1, b2⟩ := kN_pos0 fb
  obtain ⟨c1, c2⟩ := rkN_val fa
  obtain ⟨d1, d2⟩ := rkN_val fb
  unfold Fit at fa fb
  unfold tk
  cases h : kN f a <;> cases k : kN f b
  · rw [c2 h, d2 k]; have := a2 h; have := b2 k; simp only [Bool.false_eq_true, if_false]; omega
  · rw [c2 h, d1 k]; have := a2 h; have := b1 k; simp only [Bool.false_eq_true, if_false, if_true]; omega
  · rw [c1 h, d2 k]; have := a1 h; have := b2 k; simp only [Bool.false_eq_true, if_false, if_true]; omega
  · rw [c1 h, d1 k]; have := a1 h; have := b1 k; simp only [if_true]; omega
theorem cmp_two {f : Int} {a b : Nat} (fa : Fit f a) (fb : Fit f b) {u1 v1 u2 v2 : Nat} (h1 : bv7 (rkN f a) = (u1, v1)) (h2 : bv7 (rkN f b) = (u2, v2)) : (if cmpi (u1 : Int) (u2 : Int) = 0 then cmpi (v1 : Int) (v2 : Int) else cmpi (u1 : Int) (u2 : Int)) = totR f a b := by
  have k1 := rkN_tk fa fb
  have k2 := rkN_tk fb fa
  unfold bv7 at h1 h2
  obtain ⟨rfl, rfl⟩ := Prod.mk.inj h1
  obtain ⟨rfl, rfl⟩ := Prod.mk.inj h2
  generalize rkN f a = x at *
  generalize rkN f b = y at *
  unfold totR sgI cmpi
  have m1 := Nat.div_add_mod x 18446744073709551616
  have m2 := Nat.div_add_mod y 18446744073709551616
  have l1 := Nat.mod_lt x (show 0 < 18446744073709551616 by decide)
  have l2 := Nat.mod_lt y (show 0 < 18446744073709551616 by decide)
  generalize x / 18446744073709551616 = p at *
  generalize x % 18446744073709551616 = q at *
  generalize y / 18446744073709551616 = r at *
  generalize y % 18446744073709551616 = s at *
  rcases Nat.lt_trichotomy p r with h | h | h
  · have : x < y := by omega
    have := k1.1 this
    rw [if_pos (show (p : Int) < (r : Int) by omega), if_neg (by decide), if_pos (by omega)]
  · subst h
    rw [if_neg (show ¬ (p : Int) < (p : Int) by omega), if_neg (show ¬ (p : Int) < (p : Int) by omega), if_pos rfl]
    rcases Nat.lt_trichotomy q s with h | h | h
    · have : x < y := by omega
      have := k1.1 this
      rw [if_pos (show (q : Int) < (s : Int) by omega), if_pos (by omega)]
    · subst h
      have n1 : ¬ x < y := by omega
      have n2 : ¬ y < x := by omega
      rw [k1] at n1
      rw [k2] at n2
      rw [if_neg (by omega), if_neg (by omega), if_neg (by omega), if_neg (by omega)]
    · have : y < x := by omega
      have := k2.1 this
      rw [if_neg (show ¬ (q : Int) < (s : Int) by omega), if_pos (show (s : Int) < (q : Int) by omega), if_neg (by omega), if_pos (by omega)]
  · have : y < x := by omega
    have := k2.1 this
    rw [if_neg (show ¬ (p : Int) < (r : Int) by omega), if_pos (show (r : Int) < (p : Int) by omega), if_neg (by decide), if_neg (by omega), if_pos (by omega)]
theorem rk_words {f : Int} (hf : Is4 f) {x y n : Nat} (hx : x < 18446744073709551616) (hy : y < 18446744073709551616) (hn : y + 18446744073709551616 * x = n) {u v z1 z2 m : Nat} (hm : bv7 m = (z1, z2)) (hl : m < 340282366920938463463374607431768211456) (hv : bv7 (n ^^^ m) = (u, v)) : bits .xor .u64 (x : Int) (z1 : Int) = (u : Int) ∧ bits .xor .u64 (y : Int) (z2 : Int) = (v : Int) := by
  rw [xor_words] at hv
  have e1 : n / 18446744073709551616 = x := by omega
  have e2 : n % 18446744073709551616 = y := by omega
  unfold bv7 at hm
  obtain ⟨rfl, rfl⟩ := Prod.mk.inj hm
  rw [e1, e2] at hv
  obtain ⟨rfl, rfl⟩ := Prod.mk.inj hv
  exact ⟨bits_xor_u64_nat _ _ hx (by omega), bits_xor_u64_nat _ _ hy (Nat.mod_lt _ (by decide))⟩
theorem wV_lim {f : Int} (hf : Is4 f) : eZero f true = 2 ^ wV f ∧ 2 ^ wV f < 340282366920938463463374607431768211456 ∧ 2 * 2 ^ wV f - 1 < 340282366920938463463374607431768211456 := by
  rcases hf with rfl | rfl | rfl | rfl <;> decide +kernel
theorem kC_kM (f : Int) (n : Nat) : (kC f n = 3 ∨ kC f n = 4) ↔ kM f n = 0 := by
  have p := Nat.two_pow_pos (pV f)
  have o : 0 < oV f := by unfold oV; omega
  have big : ∀ e, e ≠ 0 → e * 2 ^ pV f + kT f n ≠ 0 := fun e he => by
    have := Nat.mul_pos (Nat.pos_of_ne_zero he) p
    omega
  unfold kM
  rcases kC_all f n with ⟨h1, h2, h3⟩ | ⟨h1, h2, h3, h4⟩ | ⟨h1, h2, h3⟩ | ⟨h1, h2, h3⟩ | ⟨h1, h2, h3, h4⟩ | ⟨h1, h2, h3, h4⟩
  · have := big (kE f n) (by omega)
    rw [h3]
    split <;> omega
  · have := big (kE f n) (by omega)
    omega
  · have := big (kE f n) (by omega)
    omega
  · have := big (kE f n) h2
    rw [h3]
    split <;> omega
  · rw [h4]
    split <;> omega
  · rw [h4, h2, h3, Nat.zero_mul]
    split <;> omega
theorem rel_tot {f : Int} (hf : Is4 f) {a b : Nat} (fa : Fit f a) (fb : Fit f b) (na : kC f a < 8) (nb : kC f b < 8) : ((kC f a = 3 ∨ kC f a = 4) ∧ (kC f b = 3 ∨ kC f b = 4) → relR f a b = 2) ∧ (¬ ((kC f a = 3 ∨ kC f a = 4) ∧ (kC f b = 3 ∨ kC f b = 4)) → wrap64 (2 + totR f a b) % 256 = (relR f a b : Int)) := by
  have ea := kM_n hf fa
  have eb := kM_n hf fb
  have za := kC_kM f a
  have zb := kC_kM f b
  have pa := kN_pos0 fa
  have pb := kN_pos0 fb
  have p := Nat.two_pow_pos (wV f)
  unfold relR
  rw [if_neg (by omega)]
  refine ⟨fun h => ?_, fun h => ?_⟩
  · have m1 := za.1 h.1
    have m2 := zb.1 h.2
    have k1 : kv f a = 0 := by unfold kv; rw [m1]; split <;> rfl
    have k2 : kv f b = 0 := by unfold kv; rw [m2]; split <;> rfl
    rw [k1, k2, if_neg (by omega), if_pos rfl]
  · have hz : ¬ (kM f a = 0 ∧ kM f b = 0) := fun c => h ⟨za.2 c.1, zb.2 c.2⟩
    have key : (kv f a < kv f b ↔ tk f a < tk f b) ∧ (kv f a = kv f b ↔ tk f a = tk f b) := by
      unfold kv tk
      cases s1 : kN f a <;> cases s2 : kN f b <;> rw [s1] at ea <;> rw [s2] at eb <;> simp only [Bool.false_eq_true, if_false, if_true] at ea eb ⊢
      · omega
      · have := pb.1 s2
        omega
      · have := pa.1 s1
        omega
      · omega
    unfold totR sgI
    rcases Int.lt_trichotomy (tk f a) (tk f b) with c | c | c
    · rw [if_pos (key.1.2 c), if_pos (by omega)]; decide +kernel
    · rw [if_neg (fun q => absurd (key.1.1 q) (by omega)), if_pos (key.2.2 c), if_neg (by omega), if_neg (by omega)]; decide +kernel
    · rw [if_neg (fun q => absurd (key.1.1 q) (by omega)), if_neg (fun q => absurd (key.2.1 q) (by omega)), if_neg (by omega), if_pos (by omega)]; decide +kernel
theorem bv_of {x y n : Nat} (hx : x < 18446744073709551616) (hy : y < 18446744073709551616) (hn : y + 18446744073709551616 * x = n) : bv7 n = (x, y) := by
  unfold bv7
  rw [show n / 18446744073709551616 = x by omega, show n % 18446744073709551616 = y by omega]
theorem krank_is (f : Int) (hf : Is4 f) (x1 y1 a : Nat) (hx1 : x1 < 18446744073709551616) (hy1 : y1 < 18446744073709551616) (ha : y1 + 18446744073709551616 * x1 = a) (oa : okB f a = true) (u v : Nat) (hv : bv7 (rkN f a) = (u, v)) (w : World) (hT : FAt w) : Calls Tryd.prog 67 #[.int .u8 f, .agg #[.int .u64 (x1 : Nat), .int .u64 (y1 : Nat)]] w fun r w' => r = .returned (.agg #[.int .u64 (u : Nat), .int .u64 (v : Nat)]) ∧ Bed w.heap.size w w' := by
  obtain ⟨e0, l0, l1⟩ := wV_lim hf
  obtain ⟨z1, z2, hz⟩ : ∃ p q, bv7 (eZero f true) = (p, q) := ⟨_, _, rfl⟩
  have KZ : Box (∀ w, FAt w → Calls Tryd.prog 109 #[.int .u8 f, .bool true] w fun r w' => r = .returned (.agg #[.int .u64 (z1 : Nat), .int .u64 (z2 : Nat)]) ∧ Bed w.heap.size w w') := box (fun w hT => by have := s_zerod f true hf _ rfl w hT; rw [hz] at this; exact this)
  have KS : Box (∀ w, FAt w → Calls Tryd.prog 110 #[.int .u8 f, .agg #[.int .u64 (x1 : Nat), .int .u64 (y1 : Nat)]] w fun r w' => r = .returned (.bool (kN f a)) ∧ Bed w.heap.size w w') := box (fun w hT => kSign_yesd f hf x1 y1 a _ hx1 hy1 ha oa rfl w hT)
  unfold rkN at hv
  cases h : kN f a
  · rw [h] at hv KS
    rw [if_neg (by decide)] at hv
    obtain ⟨h1, h2⟩ := rk_words hf hx1 hy1 ha (e0 ▸ hz) l0 hv
    exact od_rank_pos f x1 y1 z1 z2 u v h1 h2 w KZ KS hT
  · rw [h] at hv KS
    rw [if_pos rfl] at hv
    obtain ⟨o1, o2, ho⟩ : ∃ p q, bv7 (2 * 2 ^ wV f - 1) = (p, q) := ⟨_, _, rfl⟩
    obtain ⟨h1, h2⟩ := rk_words hf hx1 hy1 ha ho l1 hv
    exact od_rank_neg f x1 y1 z1 z2 o1 o2 u v h1 h2 w KZ KS (box (fun w hT => od_ones f hf o1 o2 ho w hT)) hT
theorem ktotal_d (f : Int) (hf : Is4 f) (x1 y1 a x2 y2 b : Nat) (hx1 : x1 < 18446744073709551616) (hy1 : y1 < 18446744073709551616) (ha : y1 + 18446744073709551616 * x1 = a) (hx2 : x2 < 18446744073709551616) (hy2 : y2 < 18446744073709551616) (hb : y2 + 18446744073709551616 * x2 = b) (oa : okB f a = true) (ob : okB f b = true) (t : Int) (ht : totR f a b = t) (w : World) (hT : FAt w) : Calls Tryd.prog 40 #[.int .u8 f, .agg #[.int .u64 (x1 : Nat), .int .u64 (y1 : Nat)], .agg #[.int .u64 (x2 : Nat), .int .u64 (y2 : Nat)]] w fun r w' => r = .returned (.int .i64 t) ∧ Bed w.heap.size w w' := by
  have fa := (okB_yes (is4_ok hf).1 oa).2
  have fb := (okB_yes (is4_ok hf).1 ob).2
  obtain ⟨u1, v1, h1⟩ : ∃ p q, bv7 (rkN f a) = (p, q) := ⟨_, _, rfl⟩
  obtain ⟨u2, v2, h2⟩ : ∃ p q, bv7 (rkN f b) = (p, q) := ⟨_, _, rfl⟩
  exact od_total f x1 y1 x2 y2 u1 v1 u2 v2 _ _ t rfl rfl ((cmp_two fa fb h1 h2).trans ht) w (box (fun w hT => krank_is f hf x1 y1 a hx1 hy1 ha oa u1 v1 h1 w hT)) (box (fun w hT => krank_is f hf x2 y2 b hx2 hy2 hb ob u2 v2 h2 w hT)) hT
theorem ktotal_is (f : Int) (hf : Is4 f) (x1 y1 a x2 y2 b : Nat) (hx1 : x1 < 18446744073709551616) (hy1 : y1 < 18446744073709551616) (ha : y1 + 18446744073709551616 * x1 = a) (hx2 : x2 < 18446744073709551616) (hy2 : y2 < 18446744073709551616) (hb : y2 + 18446744073709551616 * x2 = b) (oa : okB f a = true) (ob : okB f b = true) (t : Int) (ht : totR f a b = t) (w : World) (hT : FAt w) : Calls Tryd.prog 40 #[.int .u8 f, .agg #[.int .u64 (x1 : Nat), .int .u64 (y1 : Nat)], .agg #[.int .u64 (x2 : Nat), .int .u64 (y2 : Nat)]] w fun r w' => r = .returned (.int .i64 t) ∧ Below w.heap.size w w' := (ktotal_d f hf x1 y1 a x2 y2 b hx1 hy1 ha hx2 hy2 hb oa ob t ht w hT).mono fun _ _ h => ⟨h.1, h.2.1⟩
theorem knan_is (f : Int) (hf : Is4 f) (x1 y1 a : Nat) (hx1 : x1 < 18446744073709551616) (hy1 : y1 < 18446744073709551616) (ha : y1 + 18446744073709551616 * x1 = a) (oa : okB f a = true) (o : Bool) (ho : decide (8 ≤ kC f a) = o) (w : World) (hT : FAt w) : Calls Tryd.prog 47 #[.int .u8 f, .agg #[.int .u64 (x1 : Nat), .int .u64 (y1 : Nat)]] w fun r w' => r = .returned (.bool o) ∧ Below w.heap.size w w' := by
  refine od_isNaN f x1 y1 (kC f a) o ?_ w (box (fun w hT => kClass_yes f hf x1 y1 a _ hx1 hy1 ha oa rfl w hT)) hT
  have := kC_lt f a
  rw [← ho, ← Bool.decide_or]
  exact decide_eq_decide.2 (by omega)
theorem kzero_is (f : Int) (hf : Is4 f) (x1 y1 a : Nat) (hx1 : x1 < 18446744073709551616) (hy1 : y1 < 18446744073709551616) (ha : y1 + 18446744073709551616 * x1 = a) (oa : okB f a = true) (o : Bool) (ho : decide (kC f a = 3 ∨ kC f a = 4) = o) (w : World) (hT : FAt w) : Calls Tryd.prog 48 #[.int .u8 f, .agg #[.int .u64 (x1 : Nat), .int .u64 (y1 : Nat)]] w fun r w' => r = .returned (.bool o) ∧ Below w.heap.size w w' :=
  od_isZero f x1 y1 (kC f a) o (by rw [← Bool.decide_or]; exact ho) w (box (fun w hT => kClass_yes f hf x1 y1 a _ hx1 hy1 ha oa rfl w hT)) hT
theorem ksig_is (f : Int) (hf : Is4 f) (x1 y1 a : Nat) (hx1 : x1 < 18446744073709551616) (hy1 : y1 < 18446744073709551616) (ha : y1 + 18446744073709551616 * x1 = a) (oa : okB f a = true) (o : Bool) (ho : decide (kC f a = 8) = o) (w : World) (hT : FAt w) : Calls Tryd.prog 28 #[.int .u8 f, .agg #[.int .u64 (x1 : Nat), .int .u64 (y1 : Nat)]] w fun r w' => r = .returned (.bool o) ∧ Below w.heap.size w w' :=
  od_isSignaling f x1 y1 (kC f a) o ho w (box (fun w hT => kClass_yes f hf x1 y1 a _ hx1 hy1 ha oa rfl w hT)) hT
theorem krel_is (f : Int) (hf : Is4 f) (x1 y1 a x2 y2 b : Nat) (hx1 : x1 < 18446744073709551616) (hy1 : y1 < 18446744073709551616) (ha : y1 + 18446744073709551616 * x1 = a) (hx2 : x2 < 18446744073709551616) (hy2 : y2 < 18446744073709551616) (hb : y2 + 18446744073709551616 * x2 = b) (oa : okB f a = true) (ob : okB f b = true) (rl : Nat) (hr : relR f a b = rl) (w : World) (hT : FAt w) : Calls Tryd.prog 26 #[.int .u8 f, .agg #[.int .u64 (x1 : Nat), .int .u64 (y1 : Nat)], .agg #[.int .u64 (x2 : Nat), .int .u64 (y2 : Nat)]] w fun r w' => r = .returned (.int .u8 (rl : Nat)) ∧ Below w.heap.size w w' := by
  have fa := (okB_yes (is4_ok hf).1 oa).2
  have fb := (okB_yes (is4_ok hf).1 ob).2
  have KN1 := fun o h => box (fun w hT => knan_is f hf x1 y1 a hx1 hy1 ha oa o h w hT)
  have KN2 := fun o h => box (fun w hT => knan_is f hf x2 y2 b hx2 hy2 hb ob o h w hT)
  have KZ1 := fun o h => box (fun w hT => kzero_is f hf x1 y1 a hx1 hy1 ha oa o h w hT)
  have KZ2 := fun o h => box (fun w hT => kzero_is f hf x2 y2 b hx2 hy2 hb ob o h w hT)
  have KT := box (fun w hT => ktotal_is f hf x1 y1 a x2 y2 b hx1 hy1 ha hx2 hy2 hb oa ob _ rfl w hT)
  by_cases n1 : 8 ≤ kC f a
  · have e : rl = 0 := by rw [← hr]; unfold relR; rw [if_pos (Or.inl n1)]
    subst e
    exact od_rel_n1 f x1 y1 x2 y2 w (KN1 true (decide_eq_true n1)) hT
  by_cases n2 : 8 ≤ kC f b
  · have e : rl = 0 := by rw [← hr]; unfold relR; rw [if_pos (Or.inr n2)]
    subst e
    exact od_rel_n2 f x1 y1 x2 y2 w (KN1 false (decide_eq_false n1)) (KN2 true (decide_eq_true n2)) hT
  have KN1 := KN1 false (decide_eq_false n1)
  have KN2 := KN2 false (decide_eq_false n2)
  obtain ⟨r1, r2⟩ := rel_tot hf fa fb (by omega) (by omega)
  by_cases z1 : kC f a = 3 ∨ kC f a = 4
  · by_cases z2 : kC f b = 3 ∨ kC f b = 4
    · rw [r1 ⟨z1, z2⟩] at hr
      subst hr
      exact od_rel_z f x1 y1 x2 y2 w KN1 KN2 (KZ1 true (decide_eq_true z1)) (KZ2 true (decide_eq_true z2)) hT
    · have := r2 (fun q => z2 q.2)
      rw [hr] at this
      exact od_rel_t2 f x1 y1 x2 y2 _ _ w KN1 KN2 (KZ1 true (decide_eq_true z1)) (KZ2 false (decide_eq_false z2)) KT (box this) hT
  · have := r2 (fun q => z1 q.1)
    rw [hr] at this
    exact od_rel_t1 f x1 y1 x2 y2 _ _ w KN1 KN2 (KZ1 false (decide_eq_false z1)) KT (box this) hT
theorem kord_is (f : Int) (hf : Is4 f) (x1 y1 a x2 y2 b : Nat) (hx1 : x1 < 18446744073709551616) (hy1 : y1 < 18446744073709551616) (ha : y1 + 18446744073709551616 * x1 = a) (hx2 : x2 < 18446744073709551616) (hy2 : y2 < 18446744073709551616) (hb : y2 + 18446744073709551616 * x2 = b) (oa : okB f a = true) (ob : okB f b = true) (u v u2 v2 : Nat) (h1 : bv7 (exR f false a b) = (u, v)) (h2 : bv7 (exR f true a b) = (u2, v2)) (w : World) (hT : FAt w) : Calls Tryd.prog 36 #[.int .u8 f, .agg #[.int .u64 (x1 : Nat), .int .u64 (y1 : Nat)], .agg #[.int .u64 (x2 : Nat), .int .u64 (y2 : Nat)]] w fun r w' => r = .returned (.tuple #[.agg #[.int .u64 (u : Nat), .int .u64 (v : Nat)], .agg #[.int .u64 (u2 : Nat), .int .u64 (v2 : Nat)]]) ∧ Below w.heap.size w w' := by
  have fa := (okB_yes (is4_ok hf).1 oa).2
  have fb := (okB_yes (is4_ok hf).1 ob).2
  have KN1 := fun o h => box (fun w hT => knan_is f hf x1 y1 a hx1 hy1 ha oa o h w hT)
  have KN2 := fun o h => box (fun w hT => knan_is f hf x2 y2 b hx2 hy2 hb ob o h w hT)
  have KT := box (fun w hT => ktotal_is f hf x1 y1 a x2 y2 b hx1 hy1 ha hx2 hy2 hb oa ob _ rfl w hT)
  have ea := bv_of hx1 hy1 ha
  have eb := bv_of hx2 hy2 hb
  unfold exR at h1 h2
  by_cases n1 : 8 ≤ kC f a
  · by_cases n2 : 8 ≤ kC f b
    · rw [if_pos ⟨n1, n2⟩] at h1 h2
      rw [h1] at h2
      cases h2
      exact od_ord_nn f x1 y1 x2 y2 u v w (KN1 true (decide_eq_true n1)) (KN2 true (decide_eq_true n2)) (box (fun w hT => by have := s_nan f hf _ rfl w hT; rw [h1] at this; exact this)) hT
    · rw [if_neg (fun q => n2 q.2), if_pos n1, eb] at h1 h2
      cases h1
      cases h2
      exact od_ord_n1 f x1 y1 x2 y2 w (KN1 true (decide_eq_true n1)) (KN2 false (decide_eq_false n2)) hT
  · rw [if_neg (fun q => n1 q.1), if_neg n1] at h1 h2
    by_cases n2 : 8 ≤ kC f b
    · rw [if_pos n2, ea] at h1 h2
      cases h1
      cases h2
      exact od_ord_n2 f x1 y1 x2 y2 w (KN1 false (decide_eq_false n1)) (KN2 true (decide_eq_true n2)) hT
    · rw [if_neg n2] at h1 h2
      have KN1 := KN1 false (decide_eq_false n1)
      have KN2 := KN2 false (decide_eq_false n2)
      by_cases c : 0 < totR f a b
      · rw [decide_eq_false (show ¬ totR f a b < 0 by omega)] at h1 h2
        rw [if_neg (by decide), eb] at h1
        rw [if_pos (by decide), ea] at h2
        cases h1
        cases h2
        exact od_ord_gt f x1 y1 x2 y2 _ w KN1 KN2 KT (decide_eq_true c) hT
      · have k : (u, v) = (x1, y1) ∧ (u2, v2) = (x2, y2) := by
          by_cases d : totR f a b < 0
          · rw [decide_eq_true d] at h1 h2
            rw [if_pos (by decide), ea] at h1
            rw [if_neg (by decide), eb] at h2
            exact ⟨h1.symm, h2.symm⟩
          · have e : a = b := (totR_zero hf fa fb).1 (by omega)
            subst e
            rw [ea] at eb
            rw [ite_self, ea] at h1 h2
            exact ⟨h1.symm, h2.symm.trans eb⟩
        obtain ⟨k1, k2⟩ := k
        cases k1
        cases k2
        exact od_ord_le f x1 y1 x2 y2 _ w KN1 KN2 KT (decide_eq_false c) hT
theorem so_rel (f : Int) (a b : Nat) : (if (((relR f a b : Nat) : Int) == 0) = true then (16 : Int) else 0) = soR f a b := by
  unfold soR relR
  by_cases c : 8 ≤ kC f a ∨ 8 ≤ kC f b
  · rw [if_pos c, if_pos c]
    rfl
  · rw [if_neg c, if_neg c]
    split
    · rfl
    split
    · rfl
    · rfl
theorem kCompare_is (f : Int) (hf : Is4 f) (x1 y1 a x2 y2 b : Nat) (hx1 : x1 < 18446744073709551616) (hy1 : y1 < 18446744073709551616) (ha : y1 + 18446744073709551616 * x1 = a) (hx2 : x2 < 18446744073709551616) (hy2 : y2 < 18446744073709551616) (hb : y2 + 18446744073709551616 * x2 = b) (oa : okB f a = true) (ob : okB f b = true) (rl : Nat) (hr : relR f a b = rl) (w : World) (hT : FAt w) : Calls Tryd.prog 8 #[.int .u8 f, .agg #[.int .u64 (x1 : Nat), .int .u64 (y1 : Nat)], .agg #[.int .u64 (x2 : Nat), .int .u64 (y2 : Nat)]] w fun r w' => r = .returned (.tuple #[.int .u8 (rl : Nat), .int .i64 0]) ∧ Below w.heap.size w w' := od_Compare_yes f x1 y1 x2 y2 _ w (km2 f (is4_ok hf).1 (is4_ok hf).2.1 x1 y1 a x2 y2 b hx1 hy1 ha hx2 hy2 hb true (by rw [oa, ob]; rfl)) (box (fun w hT => krel_is f hf x1 y1 a x2 y2 b hx1 hy1 ha hx2 hy2 hb oa ob rl hr w hT)) hT
theorem kLt_is (f : Int) (hf : Is4 f) (x1 y1 a x2 y2 b : Nat) (hx1 : x1 < 18446744073709551616) (hy1 : y1 < 18446744073709551616) (ha : y1 + 18446744073709551616 * x1 = a) (hx2 : x2 < 18446744073709551616) (hy2 : y2 < 18446744073709551616) (hb : y2 + 18446744073709551616 * x2 = b) (oa : okB f a = true) (ob : okB f b = true) (o : Bool) (fl : Int) (ho : decide (relR f a b = 1) = o) (hf2 : soR f a b = fl) (w : World) (hT : FAt w) : Calls Tryd.prog 10 #[.int .u8 f, .agg #[.int .u64 (x1 : Nat), .int .u64 (y1 : Nat)], .agg #[.int .u64 (x2 : Nat), .int .u64 (y2 : Nat)]] w fun r w' => r = .returned (.tuple #[.bool o, .int .u8 fl, .int .i64 0]) ∧ Below w.heap.size w w' := by
  refine od_Lt_yes f x1 y1 x2 y2 _ fl o _ ?_ rfl w (km2 f (is4_ok hf).1 (is4_ok hf).2.1 x1 y1 a x2 y2 b hx1 hy1 ha hx2 hy2 hb true (by rw [oa, ob]; rfl)) (box (fun w hT => krel_is f hf x1 y1 a x2 y2 b hx1 hy1 ha hx2 hy2 hb oa ob _ rfl w hT)) (box (fun w => od_invalid _ fl ?_ w)) hT
  · rw [← ho, Bool.eq_iff_iff, beq_iff_eq, decide_eq_true_iff]
    omega
  · rw [← hf2]
    exact so_rel f a b
theorem kLe_is (f : Int) (hf : Is4 f) (x1 y1 a x2 y2 b : Nat) (hx1 : x1 < 18446744073709551616) (hy1 : y1 < 18446744073709551616) (ha : y1 + 18446744073709551616 * x1 = a) (hx2 : x2 < 18446744073709551616) (hy2 : y2 < 18446744073709551616) (hb : y2 + 18446744073709551616 * x2 = b) (oa : okB f a = true) (ob : okB f b = true) (o : Bool) (fl : Int) (ho : decide (relR f a b = 1 ∨ relR f a b = 2) = o) (hf2 : soR f a b = fl) (w : World) (hT : FAt w) : Calls Tryd.prog 11 #[.int .u8 f, .agg #[.int .u64 (x1 : Nat), .int .u64 (y1 : Nat)], .agg #[.int .u64 (x2 : Nat), .int .u64 (y2 : Nat)]] w fun r w' => r = .returned (.tuple #[.bool o, .int .u8 fl, .int .i64 0]) ∧ Below w.heap.size w w' := by
  refine od_Le_yes f x1 y1 x2 y2 _ fl _ _ _ o rfl rfl rfl ?_ w (km2 f (is4_ok hf).1 (is4_ok hf).2.1 x1 y1 a x2 y2 b hx1 hy1 ha hx2 hy2 hb true (by rw [oa, ob]; rfl)) (box (fun w hT => krel_is f hf x1 y1 a x2 y2 b hx1 hy1 ha hx2 hy2 hb oa ob _ rfl w hT)) (box (fun w => od_invalid _ fl ?_ w)) hT
  · rw [← ho, Bool.eq_iff_iff, Bool.or_eq_true, beq_iff_eq, beq_iff_eq, decide_eq_true_iff]
    omega
  · rw [← hf2]
    exact so_rel f a b
theorem kEq_is (f : Int) (hf : Is4 f) (x1 y1 a x2 y2 b : Nat) (hx1 : x1 < 18446744073709551616) (hy1 : y1 < 18446744073709551616) (ha : y1 + 18446744073709551616 * x1 = a) (hx2 : x2 < 18446744073709551616) (hy2 : y2 < 18446744073709551616) (hb : y2 + 18446744073709551616 * x2 = b) (oa : okB f a = true) (ob : okB f b = true) (o : Bool) (fl : Int) (ho : decide (relR f a b = 2) = o) (hf2 : loR f a b = fl) (w : World) (hT : FAt w) : Calls Tryd.prog 9 #[.int .u8 f, .agg #[.int .u64 (x1 : Nat), .int .u64 (y1 : Nat)], .agg #[.int .u64 (x2 : Nat), .int .u64 (y2 : Nat)]] w fun r w' => r = .returned (.tuple #[.bool o, .int .u8 fl, .int .i64 0]) ∧ Below w.heap.size w w' := by
  have KR := box (fun w hT => krel_is f hf x1 y1 a x2 y2 b hx1 hy1 ha hx2 hy2 hb oa ob _ rfl w hT)
  have h2 : (((relR f a b : Nat) : Int) == 2) = o := by
    rw [← ho, Bool.eq_iff_iff, beq_iff_eq, decide_eq_true_iff]
    omega
  unfold loR at hf2
  by_cases c : kC f a = 8
  · rw [if_pos (Or.inl c)] at hf2
    exact od_Eq_t f x1 y1 x2 y2 _ fl o h2 w (km2 f (is4_ok hf).1 (is4_ok hf).2.1 x1 y1 a x2 y2 b hx1 hy1 ha hx2 hy2 hb true (by rw [oa, ob]; rfl)) KR (box (fun w hT => ksig_is f hf x1 y1 a hx1 hy1 ha oa true (decide_eq_true c) w hT)) (box (fun w => od_invalid true fl hf2 w)) hT
  · exact od_Eq_f f x1 y1 x2 y2 _ fl o (decide (kC f b = 8)) h2 w (km2 f (is4_ok hf).1 (is4_ok hf).2.1 x1 y1 a x2 y2 b hx1 hy1 ha hx2 hy2 hb true (by rw [oa, ob]; rfl)) KR (box (fun w hT => ksig_is f hf x1 y1 a hx1 hy1 ha oa false (decide_eq_false c) w hT)) (box (fun w hT => ksig_is f hf x2 y2 b hx2 hy2 hb ob _ rfl w hT)) (box (fun w => od_invalid _ fl (by rw [← hf2]; by_cases d : kC f b = 8 <;> simp [c, d]) w)) hT
theorem kMin_is (f : Int) (hf : Is4 f) (x1 y1 a x2 y2 b : Nat) (hx1 : x1 < 18446744073709551616) (hy1 : y1 < 18446744073709551616) (ha : y1 + 18446744073709551616 * x1 = a) (hx2 : x2 < 18446744073709551616) (hy2 : y2 < 18446744073709551616) (hb : y2 + 18446744073709551616 * x2 = b) (oa : okB f a = true) (ob : okB f b = true) (u v : Nat) (hu : bv7 (exR f false a b) = (u, v)) (fl : Int) (hf2 : loR f a b = fl) (w : World) (hT : FAt w) : Calls Tryd.prog 17 #[.int .u8 f, .agg #[.int .u64 (x1 : Nat), .int .u64 (y1 : Nat)], .agg #[.int .u64 (x2 : Nat), .int .u64 (y2 : Nat)]] w fun r w' => r = .returned (.tuple #[.agg #[.int .u64 (u : Nat), .int .u64 (v : Nat)], .int .u8 fl, .int .i64 0]) ∧ Below w.heap.size w w' := by
  obtain ⟨p, q, hp⟩ : ∃ p q, bv7 (exR f true a b) = (p, q) := ⟨_, _, rfl⟩
  have KO := box (fun w hT => kord_is f hf x1 y1 a x2 y2 b hx1 hy1 ha hx2 hy2 hb oa ob _ _ _ _ hu hp w hT)
  unfold loR at hf2
  by_cases c : kC f a = 8
  · rw [if_pos (Or.inl c)] at hf2
    exact od_Min_t f x1 y1 x2 y2 u v p q fl w (km2 f (is4_ok hf).1 (is4_ok hf).2.1 x1 y1 a x2 y2 b hx1 hy1 ha hx2 hy2 hb true (by rw [oa, ob]; rfl)) KO (box (fun w hT => ksig_is f hf x1 y1 a hx1 hy1 ha oa true (decide_eq_true c) w hT)) (box (fun w => od_invalid true fl hf2 w)) hT
  · exact od_Min_f f x1 y1 x2 y2 u v p q fl (decide (kC f b = 8)) w (km2 f (is4_ok hf).1 (is4_ok hf).2.1 x1 y1 a x2 y2 b hx1 hy1 ha hx2 hy2 hb true (by rw [oa, ob]; rfl)) KO (box (fun w hT => ksig_is f hf x1 y1 a hx1 hy1 ha oa false (decide_eq_false c) w hT)) (box (fun w hT => ksig_is f hf x2 y2 b hx2 hy2 hb ob _ rfl w hT)) (box (fun w => od_invalid _ fl (by rw [← hf2]; by_cases d : kC f b = 8 <;> simp [c, d]) w)) hT
theorem kMax_is (f : Int) (hf : Is4 f) (x1 y1 a x2 y2 b : Nat) (hx1 : x1 < 18446744073709551616) (hy1 : y1 < 18446744073709551616) (ha : y1 + 18446744073709551616 * x1 = a) (hx2 : x2 < 18446744073709551616) (hy2 : y2 < 18446744073709551616) (hb : y2 + 18446744073709551616 * x2 = b) (oa : okB f a = true) (ob : okB f b = true) (u v : Nat) (hu : bv7 (exR f true a b) = (u, v)) (fl : Int) (hf2 : loR f a b = fl) (w : World) (hT : FAt w) : Calls Tryd.prog 18 #[.int .u8 f, .agg #[.int .u64 (x1 : Nat), .int .u64 (y1 : Nat)], .agg #[.int .u64 (x2 : Nat), .int .u64 (y2 : Nat)]] w fun r w' => r = .returned (.tuple #[.agg #[.int .u64 (u : Nat), .int .u64 (v : Nat)], .int .u8 fl, .int .i64 0]) ∧ Below w.heap.size w w' := by
  obtain ⟨p, q, hp⟩ : ∃ p q, bv7 (exR f false a b) = (p, q) := ⟨_, _, rfl⟩
  have KO := box (fun w hT => kord_is f hf x1 y1 a x2 y2 b hx1 hy1 ha hx2 hy2 hb oa ob _ _ _ _ hp hu w hT)
  unfold loR at hf2
  by_cases c : kC f a = 8
  · rw [if_pos (Or.inl c)] at hf2
    exact od_Max_t f x1 y1 x2 y2 p q u v fl w (km2 f (is4_ok hf).1 (is4_ok hf).2.1 x1 y1 a x2 y2 b hx1 hy1 ha hx2 hy2 hb true (by rw [oa, ob]; rfl)) KO (box (fun w hT => ksig_is f hf x1 y1 a hx1 hy1 ha oa true (decide_eq_true c) w hT)) (box (fun w => od_invalid true fl hf2 w)) hT
  · exact od_Max_f f x1 y1 x2 y2 p q u v fl (decide (kC f b = 8)) w (km2 f (is4_ok hf).1 (is4_ok hf).2.1 x1 y1 a x2 y2 b hx1 hy1 ha hx2 hy2 hb true (by rw [oa, ob]; rfl)) KO (box (fun w hT => ksig_is f hf x1 y1 a hx1 hy1 ha oa false (decide_eq_false c) w hT)) (box (fun w hT => ksig_is f hf x2 y2 b hx2 hy2 hb ob _ rfl w hT)) (box (fun w => od_invalid _ fl (by rw [← hf2]; by_cases d : kC f b = 8 <;> simp [c, d]) w)) hT
theorem al16 : relR 2 32768 0 = 2 ∧ relR 2 32256 15360 = 0 ∧ soR 2 32256 15360 = 16 ∧ okB 2 32768 = true ∧ okB 2 0 = true ∧ okB 2 32256 = true ∧ okB 2 15360 = true := by decide +kernel
set_option maxRecDepth 100000 in
set_option maxHeartbeats 4000000 in
theorem r16alive (w : World) (hT : FAt w) : Calls Tryd.prog 13 #[] w fun r w' => r = .returned (.bool true) ∧ Below w.heap.size w w' := by
  have FF := box hT
  obtain ⟨e1, e2, e3, o1, o2, o3, o4⟩ := al16
  have h2 : Is4 2 := by unfold Is4; omega
  have K1 : Box (∀ w, FAt w → Calls Tryd.prog 8 #[.int .u8 2, .agg #[.int .u64 0, .int .u64 32768], .agg #[.int .u64 0, .int .u64 0]] w fun r w' => r = .returned (.tuple #[.int .u8 2, .int .i64 0]) ∧ Below w.heap.size w w') := box (fun w hT => kCompare_is 2 h2 0 32768 32768 0 0 0 (by decide) (by decide) rfl (by decide) (by decide) rfl o1 o2 2 e1 w hT)
  have K2 : Box (∀ w, FAt w → Calls Tryd.prog 10 #[.int .u8 2, .agg #[.int .u64 0, .int .u64 32256], .agg #[.int .u64 0, .int .u64 15360]] w fun r w' => r = .returned (.tuple #[.bool false, .int .u8 16, .int .i64 0]) ∧ Below w.heap.size w w') := box (fun w hT => kLt_is 2 h2 0 32256 32256 0 15360 15360 (by decide) (by decide) rfl (by decide) (by decide) rfl o3 o4 false 16 (by rw [e2]; rfl) e3 w hT)
  clear hT e1 e2 e3 o1 o2 o3 o4 h2
  have B0 : Below w.heap.size w w := (Below.refl _ _)
  go_enter Tryd.func13, Tryd.ntmps13
  go_wp2_with fail
  refine (K1.out _ (fatB FF.out B0)).mono ?_
  rintro r w1 ⟨rfl, b1⟩
  have B1 : Below w.heap.size w w1 := btr B0 b1
  clear b1 B0 
  go_wp2_with fail
  refine (K2.out _ (fatB FF.out B1)).mono ?_
  rintro r w2 ⟨rfl, b2⟩
  have B2 : Below w.heap.size w w2 := btr B1 b2
  clear b2 B1 
  go_wp2
  go_ret
  exact ⟨rfl, B2⟩
theorem ok2_no {f : Int} {a b : Nat} (h : ¬ (okB f a = true ∧ okB f b = true)) : (okB f a && okB f b) = false := by
  rw [Bool.eq_false_iff]
  intro q
  rw [Bool.and_eq_true] at q
  exact h q
theorem rel_turn {f : Int} (a b : Nat) : relR f b a = if relR f a b = 1 then 3 else if relR f a b = 3 then 1 else relR f a b := by
  unfold relR
  by_cases n : 8 ≤ kC f a ∨ 8 ≤ kC f b
  · rw [if_pos n, if_pos n.symm]
    rfl
  · rw [if_neg n, if_neg (fun q => n q.symm)]
    rcases Int.lt_trichotomy (kv f a) (kv f b) with c | c | c
    · rw [if_pos c, if_neg (show ¬ kv f b < kv f a by omega), if_neg (show ¬ kv f b = kv f a by omega), if_pos rfl]
    · rw [if_neg (show ¬ kv f a < kv f b by omega), if_pos c, if_neg (show ¬ kv f b < kv f a by omega), if_pos c.symm]
      rfl
    · rw [if_neg (show ¬ kv f a < kv f b by omega), if_neg (show ¬ kv f a = kv f b by omega), if_pos c]
      rfl
theorem one_all (f : Int) (h0 : 0 ≤ f) (h1 : f ≤ 255) (x1 y1 x2 y2 : Nat) (hx1 : x1 < 18446744073709551616) (hy1 : y1 < 18446744073709551616) (hx2 : x2 < 18446744073709551616) (hy2 : y2 < 18446744073709551616) (w : World) (hT : FAt w) : Calls Tryd.prog 7 #[.int .u8 f, .agg #[.int .u64 (x1 : Nat), .int .u64 (y1 : Nat)], .agg #[.int .u64 (x2 : Nat), .int .u64 (y2 : Nat)]] w fun r w' => r = .returned (.bool true) ∧ Below w.heap.size w w' := by
  obtain ⟨a, ha⟩ : ∃ a, y1 + 18446744073709551616 * x1 = a := ⟨_, rfl⟩
  obtain ⟨b, hb⟩ : ∃ b, y2 + 18446744073709551616 * x2 = b := ⟨_, rfl⟩
  by_cases h : okB f a = true ∧ okB f b = true
  · obtain ⟨oa, ob⟩ := h
    have hf := (okB_yes h0 oa).1
    have fa := (okB_yes h0 oa).2
    have fb := (okB_yes h0 ob).2
    have KE := fun o h => box (fun w hT => kEq_is f hf x1 y1 a x2 y2 b hx1 hy1 ha hx2 hy2 hb oa ob o _ h rfl w hT)
    have KL := fun o h => box (fun w hT => kLt_is f hf x1 y1 a x2 y2 b hx1 hy1 ha hx2 hy2 hb oa ob o _ h rfl w hT)
    have KG := fun o h => box (fun w hT => kLe_is f hf x1 y1 a x2 y2 b hx1 hy1 ha hx2 hy2 hb oa ob o _ h rfl w hT)
    have KEr := fun o h => box (fun w hT => kEq_is f hf x2 y2 b x1 y1 a hx2 hy2 hb hx1 hy1 ha ob oa o _ h rfl w hT)
    have KLr := fun o h => box (fun w hT => kLt_is f hf x2 y2 b x1 y1 a hx2 hy2 hb hx1 hy1 ha ob oa o _ h rfl w hT)
    have K1 := box (fun w hT => kClass_yes f hf x1 y1 a _ hx1 hy1 ha oa rfl w hT)
    have K2 := box (fun w hT => kClass_yes f hf x2 y2 b _ hx2 hy2 hb ob rfl w hT)
    have KMi := fun u v h => box (fun w hT => kMin_is f hf x1 y1 a x2 y2 b hx1 hy1 ha hx2 hy2 hb oa ob u v h _ rfl w hT)
    have KMa := fun u v h => box (fun w hT => kMax_is f hf x1 y1 a x2 y2 b hx1 hy1 ha hx2 hy2 hb oa ob u v h _ rfl w hT)
    have ea := bv_of hx1 hy1 ha
    have eb := bv_of hx2 hy2 hb
    have tu := rel_turn (f := f) a b
    obtain ⟨t1, t3⟩ := relR_tot hf fa fb
    by_cases n1 : 8 ≤ kC f a
    · have l : relR f a b = 0 := by unfold relR; rw [if_pos (Or.inl n1)]
      rw [l] at tu
      exact oo_nan1 f x1 y1 x2 y2 _ _ _ _ _ _ _ (decide_eq_true (by omega)) w (KL false (by rw [l]; rfl)) (KLr false (by rw [tu]; rfl)) (KE false (by rw [l]; rfl)) (KEr false (by rw [tu]; rfl)) (KG false (by rw [l]; rfl)) K1 K2 (box r16alive) hT
    by_cases n2 : 8 ≤ kC f b
    · have l : relR f a b = 0 := by unfold relR; rw [if_pos (Or.inr n2)]
      rw [l] at tu
      exact oo_nan2 f x1 y1 x2 y2 _ _ _ _ _ _ _ (decide_eq_false (by omega)) (decide_eq_true (by omega)) w (KL false (by rw [l]; rfl)) (KLr false (by rw [tu]; rfl)) (KE false (by rw [l]; rfl)) (KEr false (by rw [tu]; rfl)) (KG false (by rw [l]; rfl)) K1 K2 (box r16alive) hT
    have d1 : decide (8 ≤ ((kC f a : Nat) : Int)) = false := decide_eq_false (by omega)
    have d2 : decide (8 ≤ ((kC f b : Nat) : Int)) = false := decide_eq_false (by omega)
    have ex : ∀ g, exR f g a b = if decide (totR f a b < 0) ≠ g then a else b := fun g => by
      unfold exR
      rw [if_neg (fun q => n1 q.1), if_neg n1, if_neg n2]
    have l : relR f a b = 1 ∨ relR f a b = 2 ∨ relR f a b = 3 := by
      unfold relR
      rw [if_neg (by omega)]
      split
      · exact Or.inl rfl
      split
      · exact Or.inr (Or.inl rfl)
      · exact Or.inr (Or.inr rfl)
    have lo : totR f a b < 0 → bv7 (exR f false a b) = (x1, y1) ∧ bv7 (exR f true a b) = (x2, y2) := fun c => by
      rw [ex, ex, decide_eq_true c, if_pos (by decide), if_neg (by decide)]
      exact ⟨ea, eb⟩
    have hi : ¬ totR f a b < 0 → bv7 (exR f false a b) = (x2, y2) ∧ bv7 (exR f true a b) = (x1, y1) := fun c => by
      rw [ex, ex, decide_eq_false c, if_neg (by decide), if_pos (by decide)]
      exact ⟨eb, ea⟩
    have ne : a ≠ b → ebb (x2 : Nat) (y2 : Nat) (x1 : Nat) (y1 : Nat) = false := fun c => ebb_of hb ha hy2 hy1 false (decide_eq_false (fun q => c q.symm))
    rcases l with l | l | l <;> rw [l] at tu
    · obtain ⟨e1, e2⟩ := lo (t1 l)
      exact oo_lt f x1 y1 x2 y2 _ _ _ _ _ _ _ _ _ d1 d2 w (KL true (by rw [l]; rfl)) (KLr false (by rw [tu]; rfl)) (KE false (by rw [l]; rfl)) (KEr false (by rw [tu]; rfl)) (KG true (by rw [l]; rfl)) K1 K2 (KMi _ _ e1) (KMa _ _ e2) (box r16alive) hT
    · by_cases c : totR f a b < 0
      · obtain ⟨e1, e2⟩ := lo c
        exact oo_eqa f x1 y1 x2 y2 _ _ _ _ _ _ _ _ _ d1 d2 w (KL false (by rw [l]; rfl)) (KLr false (by rw [tu]; rfl)) (KE true (by rw [l]; rfl)) (KEr true (by rw [tu]; rfl)) (KG true (by rw [l]; rfl)) K1 K2 (KMi _ _ e1) (KMa _ _ e2) (box r16alive) hT
      · obtain ⟨e1, e2⟩ := hi c
        by_cases e : a = b
        · subst e
          rw [ea] at eb
          cases eb
          exact oo_eqa f x1 y1 x1 y1 _ _ _ _ _ _ _ _ _ d1 d2 w (KL false (by rw [l]; rfl)) (KLr false (by rw [tu]; rfl)) (KE true (by rw [l]; rfl)) (KEr true (by rw [tu]; rfl)) (KG true (by rw [l]; rfl)) K1 K2 (KMi _ _ e1) (KMa _ _ e2) (box r16alive) hT
        · exact oo_eqb f x1 y1 x2 y2 _ _ _ _ _ _ _ _ _ d1 d2 (ne e) w (KL false (by rw [l]; rfl)) (KLr false (by rw [tu]; rfl)) (KE true (by rw [l]; rfl)) (KEr true (by rw [tu]; rfl)) (KG true (by rw [l]; rfl)) K1 K2 (KMi _ _ e1) (KMa _ _ e2) (box r16alive) hT
    · have c := t3 l
      obtain ⟨e1, e2⟩ := hi (by omega)
      have e : a ≠ b := fun q => by
        have := (totR_zero hf fa fb).2 q
        omega
      exact oo_gt f x1 y1 x2 y2 _ _ _ _ _ _ _ _ _ d1 d2 (ne e) w (KL false (by rw [l]; rfl)) (KLr true (by rw [tu]; rfl)) (KE false (by rw [l]; rfl)) (KEr false (by rw [tu]; rfl)) (KG false (by rw [l]; rfl)) K1 K2 (KMi _ _ e1) (KMa _ _ e2) (box r16alive) hT
  · have hn := ok2_no h
    have hnr : (okB f b && okB f a) = false := by rw [Bool.and_comm]; exact hn
    exact oo_err f x1 y1 x2 y2 0 0 0 0 0 false false false false false w (box (fun w hT => od_Lt_no f x1 y1 x2 y2 w (km2 f h0 h1 x1 y1 a x2 y2 b hx1 hy1 ha hx2 hy2 hb false hn) hT)) (box (fun w hT => od_Lt_no f x2 y2 x1 y1 w (km2 f h0 h1 x2 y2 b x1 y1 a hx2 hy2 hb hx1 hy1 ha false hnr) hT)) (box (fun w hT => od_Eq_no f x1 y1 x2 y2 w (km2 f h0 h1 x1 y1 a x2 y2 b hx1 hy1 ha hx2 hy2 hb false hn) hT)) (box (fun w hT => od_Eq_no f x2 y2 x1 y1 w (km2 f h0 h1 x2 y2 b x1 y1 a hx2 hy2 hb hx1 hy1 ha false hnr) hT)) (box (fun w hT => od_Le_no f x1 y1 x2 y2 w (km2 f h0 h1 x1 y1 a x2 y2 b hx1 hy1 ha hx2 hy2 hb false hn) hT)) (box r16alive) hT
end Go.Proofs.YtmndjhcmomejjaaDoor
