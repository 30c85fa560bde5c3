/-
  What the functions that the statement reaches return: part 17 (P5, P6).
-/
import Derived.Test.YtmndjhcmomejjaaDoorOc16
namespace Go.Proofs.YtmndjhcmomejjaaDoor
set_option maxRecDepth 100000
set_option maxHeartbeats 40000000
set_option maxRecDepth 100000
open Go.RowKit WMath XMath
set_option linter.unusedSimpArgs false
set_option linter.unusedVariables false
theorem krank_is (f : Int) (hf : Is4 f) (x1 y1 a : Nat) (hx1 : x1 < 18446744073709551616) (hy1 : y1 < 18446744073709551616) (ha : y1 + 18446744073709551616 * x1 = a) (oa : okB f a = true) (u v : Nat) (hv : bv7 (rkN f a) = (u, v)) (w : World) (hT : FAt w) : Calls Tryd.prog 67 #[.int .u8 f, .agg #[.int .u64 (x1 : Nat), .int .u64 (y1 : Nat)]] w fun r w' => r = .returned (.agg #[.int .u64 (u : Nat), .int .u64 (v : Nat)]) ∧ Bed w.heap.size w w' := by
  obtain ⟨e0, l0, l1⟩ := wV_lim hf
  obtain ⟨z1, z2, hz⟩ : ∃ p q, bv7 (eZero f true) = (p, q) := ⟨_, _, rfl⟩
  have KZ : Box (∀ w, FAt w → Calls Tryd.prog 109 #[.int .u8 f, .bool true] w fun r w' => r = .returned (.agg #[.int .u64 (z1 : Nat), .int .u64 (z2 : Nat)]) ∧ Bed w.heap.size w w') := box (fun w hT => by have := s_zerod f true hf _ rfl w hT; rw [hz] at this; exact this)
  have KS : Box (∀ w, FAt w → Calls Tryd.prog 110 #[.int .u8 f, .agg #[.int .u64 (x1 : Nat), .int .u64 (y1 : Nat)]] w fun r w' => r = .returned (.bool (kN f a)) ∧ Bed w.heap.size w w') := box (fun w hT => kSign_yesd f hf x1 y1 a _ hx1 hy1 ha oa rfl w hT)
  unfold rkN at hv
  cases h : kN f a
  · rw [h] at hv KS
    rw [if_neg (by decide)] at hv
    obtain ⟨h1, h2⟩ := rk_words hf hx1 hy1 ha (e0 ▸ hz) l0 hv
    exact od_rank_pos f x1 y1 z1 z2 u v h1 h2 w KZ KS hT
  · rw [h] at hv KS
    rw [if_pos rfl] at hv
    obtain ⟨o1, o2, ho⟩ : ∃ p q, bv7 (2 * 2 ^ wV f - 1) = (p, q) := ⟨_, _, rfl⟩
    obtain ⟨h1, h2⟩ := rk_words hf hx1 hy1 ha ho l1 hv
    exact od_rank_neg f x1 y1 z1 z2 o1 o2 u v h1 h2 w KZ KS (box (fun w hT => od_ones f hf o1 o2 ho w hT)) hT
theorem ktotal_d (f : Int) (hf : Is4 f) (x1 y1 a x2 y2 b : Nat) (hx1 : x1 < 18446744073709551616) (hy1 : y1 < 18446744073709551616) (ha : y1 + 18446744073709551616 * x1 = a) (hx2 : x2 < 18446744073709551616) (hy2 : y2 < 18446744073709551616) (hb : y2 + 18446744073709551616 * x2 = b) (oa : okB f a = true) (ob : okB f b = true) (t : Int) (ht : totR f a b = t) (w : World) (hT : FAt w) : Calls Tryd.prog 40 #[.int .u8 f, .agg #[.int .u64 (x1 : Nat), .int .u64 (y1 : Nat)], .agg #[.int .u64 (x2 : Nat), .int .u64 (y2 : Nat)]] w fun r w' => r = .returned (.int .i64 t) ∧ Bed w.heap.size w w' := by
  have fa := (okB_yes (is4_ok hf).1 oa).2
  have fb := (okB_yes (is4_ok hf).1 ob).2
  obtain ⟨u1, v1, h1⟩ : ∃ p q, bv7 (rkN f a) = (p, q) := ⟨_, _, rfl⟩
  obtain ⟨u2, v2, h2⟩ : ∃ p q, bv7 (rkN f b) = (p, q) := ⟨_, _, rfl⟩
  exact od_total f x1 y1 x2 y2 u1 v1 u2 v2 _ _ t rfl rfl ((cmp_two fa fb h1 h2).trans ht) w (box (fun w hT => krank_is f hf x1 y1 a hx1 hy1 ha oa u1 v1 h1 w hT)) (box (fun w hT => krank_is f hf x2 y2 b hx2 hy2 hb ob u2 v2 h2 w hT)) hT
theorem ktotal_is (f : Int) (hf : Is4 f) (x1 y1 a x2 y2 b : Nat) (hx1 : x1 < 18446744073709551616) (hy1 : y1 < 18446744073709551616) (ha : y1 + 18446744073709551616 * x1 = a) (hx2 : x2 < 18446744073709551616) (hy2 : y2 < 18446744073709551616) (hb : y2 + 18446744073709551616 * x2 = b) (oa : okB f a = true) (ob : okB f b = true) (t : Int) (ht : totR f a b = t) (w : World) (hT : FAt w) : Calls Tryd.prog 40 #[.int .u8 f, .agg #[.int .u64 (x1 : Nat), .int .u64 (y1 : Nat)], .agg #[.int .u64 (x2 : Nat), .int .u64 (y2 : Nat)]] w fun r w' => r = .returned (.int .i64 t) ∧ Below w.heap.size w w' := (ktotal_d f hf x1 y1 a x2 y2 b hx1 hy1 ha hx2 hy2 hb oa ob t ht w hT).mono fun _ _ h => ⟨h.1, h.2.1⟩
theorem knan_is (f : Int) (hf : Is4 f) (x1 y1 a : Nat) (hx1 : x1 < 18446744073709551616) (hy1 : y1 < 18446744073709551616) (ha : y1 + 18446744073709551616 * x1 = a) (oa : okB f a = true) (o : Bool) (ho : decide (8 ≤ kC f a) = o) (w : World) (hT : FAt w) : Calls Tryd.prog 47 #[.int .u8 f, .agg #[.int .u64 (x1 : Nat), .int .u64 (y1 : Nat)]] w fun r w' => r = .returned (.bool o) ∧ Below w.heap.size w w' := by
  refine od_isNaN f x1 y1 (kC f a) o ?_ w (box (fun w hT => kClass_yes f hf x1 y1 a _ hx1 hy1 ha oa rfl w hT)) hT
  have := kC_lt f a
  rw [← ho, ← Bool.decide_or]
  exact decide_eq_decide.2 (by omega)
theorem kzero_is (f : Int) (hf : Is4 f) (x1 y1 a : Nat) (hx1 : x1 < 18446744073709551616) (hy1 : y1 < 18446744073709551616) (ha : y1 + 18446744073709551616 * x1 = a) (oa : okB f a = true) (o : Bool) (ho : decide (kC f a = 3 ∨ kC f a = 4) = o) (w : World) (hT : FAt w) : Calls Tryd.prog 48 #[.int .u8 f, .agg #[.int .u64 (x1 : Nat), .int .u64 (y1 : Nat)]] w fun r w' => r = .returned (.bool o) ∧ Below w.heap.size w w' :=
  od_isZero f x1 y1 (kC f a) o (by rw [← Bool.decide_or]; exact ho) w (box (fun w hT => kClass_yes f hf x1 y1 a _ hx1 hy1 ha oa rfl w hT)) hT
theorem ksig_is (f : Int) (hf : Is4 f) (x1 y1 a : Nat) (hx1 : x1 < 18446744073709551616) (hy1 : y1 < 18446744073709551616) (ha : y1 + 18446744073709551616 * x1 = a) (oa : okB f a = true) (o : Bool) (ho : decide (kC f a = 8) = o) (w : World) (hT : FAt w) : Calls Tryd.prog 28 #[.int .u8 f, .agg #[.int .u64 (x1 : Nat), .int .u64 (y1 : Nat)]] w fun r w' => r = .returned (.bool o) ∧ Below w.heap.size w w' :=
  od_isSignaling f x1 y1 (kC f a) o ho w (box (fun w hT => kClass_yes f hf x1 y1 a _ hx1 hy1 ha oa rfl w hT)) hT
theorem krel_is (f : Int) (hf : Is4 f) (x1 y1 a x2 y2 b : Nat) (hx1 : x1 < 18446744073709551616) (hy1 : y1 < 18446744073709551616) (ha : y1 + 18446744073709551616 * x1 = a) (hx2 : x2 < 18446744073709551616) (hy2 : y2 < 18446744073709551616) (hb : y2 + 18446744073709551616 * x2 = b) (oa : okB f a = true) (ob : okB f b = true) (rl : Nat) (hr : relR f a b = rl) (w : World) (hT : FAt w) : Calls Tryd.prog 26 #[.int .u8 f, .agg #[.int .u64 (x1 : Nat), .int .u64 (y1 : Nat)], .agg #[.int .u64 (x2 : Nat), .int .u64 (y2 : Nat)]] w fun r w' => r = .returned (.int .u8 (rl : Nat)) ∧ Below w.heap.size w w' := by
  have fa := (okB_yes (is4_ok hf).1 oa).2
  have fb := (okB_yes (is4_ok hf).1 ob).2
  have KN1 := fun o h => box (fun w hT => knan_is f hf x1 y1 a hx1 hy1 ha oa o h w hT)
  have KN2 := fun o h => box (fun w hT => knan_is f hf x2 y2 b hx2 hy2 hb ob o h w hT)
  have KZ1 := fun o h => box (fun w hT => kzero_is f hf x1 y1 a hx1 hy1 ha oa o h w hT)
  have KZ2 := fun o h => box (fun w hT => kzero_is f hf x2 y2 b hx2 hy2 hb ob o h w hT)
  have KT := box (fun w hT => ktotal_is f hf x1 y1 a x2 y2 b hx1 hy1 ha hx2 hy2 hb oa ob _ rfl w hT)
  by_cases n1 : 8 ≤ kC f a
  · have e : rl = 0 := by rw [← hr]; unfold relR; rw [if_pos (Or.inl n1)]
    subst e
    exact od_rel_n1 f x1 y1 x2 y2 w (KN1 true (decide_eq_true n1)) hT
  by_cases n2 : 8 ≤ kC f b
  · have e : rl = 0 := by rw [← hr]; unfold relR; rw [if_pos (Or.inr n2)]
    subst e
    exact od_rel_n2 f x1 y1 x2 y2 w (KN1 false (decide_eq_false n1)) (KN2 true (decide_eq_true n2)) hT
  have KN1 := KN1 false (decide_eq_false n1)
  have KN2 := KN2 false (decide_eq_false n2)
  obtain ⟨r1, r2⟩ := rel_tot hf fa fb (by omega) (by omega)
  by_cases z1 : kC f a = 3 ∨ kC f a = 4
  · by_cases z2 : kC f b = 3 ∨ kC f b = 4
    · rw [r1 ⟨z1, z2⟩] at hr
      subst hr
      exact od_rel_z f x1 y1 x2 y2 w KN1 KN2 (KZ1 true (decide_eq_true z1)) (KZ2 true (decide_eq_true z2)) hT
    · have := r2 (fun q => z2 q.2)
      rw [hr] at this
      exact od_rel_t2 f x1 y1 x2 y2 _ _ w KN1 KN2 (KZ1 true (decide_eq_true z1)) (KZ2 false (decide_eq_false z2)) KT (box this) hT
  · have := r2 (fun q => z1 q.1)
    rw [hr] at this
    exact od_rel_t1 f x1 y1 x2 y2 _ _ w KN1 KN2 (KZ1 false (decide_eq_false z1)) KT (box this) hT
theorem so_rel (f : Int) (a b : Nat) : (if (((relR f a b : Nat) : Int) == 0) = true then (16 : Int) else 0) = soR f a b := by
  unfold soR relR
  by_cases c : 8 ≤ kC f a ∨ 8 ≤ kC f b
  · rw [if_pos c, if_pos c]
    rfl
  · rw [if_neg c, if_neg c]
    split
    · rfl
    split
    · rfl
    · rfl
theorem kCompare_is (f : Int) (hf : Is4 f) (x1 y1 a x2 y2 b : Nat) (hx1 : x1 < 18446744073709551616) (hy1 : y1 < 18446744073709551616) (ha : y1 + 18446744073709551616 * x1 = a) (hx2 : x2 < 18446744073709551616) (hy2 : y2 < 18446744073709551616) (hb : y2 + 18446744073709551616 * x2 = b) (oa : okB f a = true) (ob : okB f b = true) (rl : Nat) (hr : relR f a b = rl) (w : World) (hT : FAt w) : Calls Tryd.prog 8 #[.int .u8 f, .agg #[.int .u64 (x1 : Nat), .int .u64 (y1 : Nat)], .agg #[.int .u64 (x2 : Nat), .int .u64 (y2 : Nat)]] w fun r w' => r = .returned (.tuple #[.int .u8 (rl : Nat), .int .i64 0]) ∧ Below w.heap.size w w' := od_Compare_yes f x1 y1 x2 y2 _ w (km2 f (is4_ok hf).1 (is4_ok hf).2.1 x1 y1 a x2 y2 b hx1 hy1 ha hx2 hy2 hb true (by rw [oa, ob]; rfl)) (box (fun w hT => krel_is f hf x1 y1 a x2 y2 b hx1 hy1 ha hx2 hy2 hb oa ob rl hr w hT)) hT
theorem kLt_is (f : Int) (hf : Is4 f) (x1 y1 a x2 y2 b : Nat) (hx1 : x1 < 18446744073709551616) (hy1 : y1 < 18446744073709551616) (ha : y1 + 18446744073709551616 * x1 = a) (hx2 : x2 < 18446744073709551616) (hy2 : y2 < 18446744073709551616) (hb : y2 + 18446744073709551616 * x2 = b) (oa : okB f a = true) (ob : okB f b = true) (o : Bool) (fl : Int) (ho : decide (relR f a b = 1) = o) (hf2 : soR f a b = fl) (w : World) (hT : FAt w) : Calls Tryd.prog 10 #[.int .u8 f, .agg #[.int .u64 (x1 : Nat), .int .u64 (y1 : Nat)], .agg #[.int .u64 (x2 : Nat), .int .u64 (y2 : Nat)]] w fun r w' => r = .returned (.tuple #[.bool o, .int .u8 fl, .int .i64 0]) ∧ Below w.heap.size w w' := by
  refine od_Lt_yes f x1 y1 x2 y2 _ fl o _ ?_ rfl w (km2 f (is4_ok hf).1 (is4_ok hf).2.1 x1 y1 a x2 y2 b hx1 hy1 ha hx2 hy2 hb true (by rw [oa, ob]; rfl)) (box (fun w hT => krel_is f hf x1 y1 a x2 y2 b hx1 hy1 ha hx2 hy2 hb oa ob _ rfl w hT)) (box (fun w => od_invalid _ fl ?_ w)) hT
  · rw [← ho, Bool.eq_iff_iff, beq_iff_eq, decide_eq_true_iff]
    omega
  · rw [← hf2]
    exact so_rel f a b
theorem kLe_is (f : Int) (hf : Is4 f) (x1 y1 a x2 y2 b : Nat) (hx1 : x1 < 18446744073709551616) (hy1 : y1 < 18446744073709551616) (ha : y1 + 18446744073709551616 * x1 = a) (hx2 : x2 < 18446744073709551616) (hy2 : y2 < 18446744073709551616) (hb : y2 + 18446744073709551616 * x2 = b) (oa : okB f a = true) (ob : okB f b = true) (o : Bool) (fl : Int) (ho : decide (relR f a b = 1 ∨ relR f a b = 2) = o) (hf2 : soR f a b = fl) (w : World) (hT : FAt w) : Calls Tryd.prog 11 #[.int .u8 f, .agg #[.int .u64 (x1 : Nat), .int .u64 (y1 : Nat)], .agg #[.int .u64 (x2 : Nat), .int .u64 (y2 : Nat)]] w fun r w' => r = .returned (.tuple #[.bool o, .int .u8 fl, .int .i64 0]) ∧ Below w.heap.size w w' := by
  refine od_Le_yes f x1 y1 x2 y2 _ fl _ _ _ o rfl rfl rfl ?_ w (km2 f (is4_ok hf).1 (is4_ok hf).2.1 x1 y1 a x2 y2 b hx1 hy1 ha hx2 hy2 hb true (by rw [oa, ob]; rfl)) (box (fun w hT => krel_is f hf x1 y1 a x2 y2 b hx1 hy1 ha hx2 hy2 hb oa ob _ rfl w hT)) (box (fun w => od_invalid _ fl ?_ w)) hT
  · rw [← ho, Bool.eq_iff_iff, Bool.or_eq_true, beq_iff_eq, beq_iff_eq, decide_eq_true_iff]
    omega
  · rw [← hf2]
    exact so_rel f a b
theorem kEq_is (f : Int) (hf : Is4 f) (x1 y1 a x2 y2 b : Nat) (hx1 : x1 < 18446744073709551616) (hy1 : y1 < 18446744073709551616) (ha : y1 + 18446744073709551616 * x1 = a) (hx2 : x2 < 18446744073709551616) (hy2 : y2 < 18446744073709551616) (hb : y2 + 18446744073709551616 * x2 = b) (oa : okB f a = true) (ob : okB f b = true) (o : Bool) (fl : Int) (ho : decide (relR f a b = 2) = o) (hf2 : loR f a b = fl) (w : World) (hT : FAt w) : Calls Tryd.prog 9 #[.int .u8 f, .agg #[.int .u64 (x1 : Nat), .int .u64 (y1 : Nat)], .agg #[.int .u64 (x2 : Nat), .int .u64 (y2 : Nat)]] w fun r w' => r = .returned (.tuple #[.bool o, .int .u8 fl, .int .i64 0]) ∧ Below w.heap.size w w' := by
  have KR := box (fun w hT => krel_is f hf x1 y1 a x2 y2 b hx1 hy1 ha hx2 hy2 hb oa ob _ rfl w hT)
  have h2 : (((relR f a b : Nat) : Int) == 2) = o := by
    rw [← ho, Bool.eq_iff_iff, beq_iff_eq, decide_eq_true_iff]
    omega
  unfold loR at hf2
  by_cases c : kC f a = 8
  · rw [if_pos (Or.inl c)] at hf2
    exact od_Eq_t f x1 y1 x2 y2 _ fl o h2 w (km2 f (is4_ok hf).1 (is4_ok hf).2.1 x1 y1 a x2 y2 b hx1 hy1 ha hx2 hy2 hb true (by rw [oa, ob]; rfl)) KR (box (fun w hT => ksig_is f hf x1 y1 a hx1 hy1 ha oa true (decide_eq_true c) w hT)) (box (fun w => od_invalid true fl hf2 w)) hT
  · exact od_Eq_f f x1 y1 x2 y2 _ fl o (decide (kC f b = 8)) h2 w (km2 f (is4_ok hf).1 (is4_ok hf).2.1 x1 y1 a x2 y2 b hx1 hy1 ha hx2 hy2 hb true (by rw [oa, ob]; rfl)) KR (box (fun w hT => ksig_is f hf x1 y1 a hx1 hy1 ha oa false (decide_eq_false c) w hT)) (box (fun w hT => ksig_is f hf x2 y2 b hx2 hy2 hb ob _ rfl w hT)) (box (fun w => od_invalid _ fl (by rw [← hf2]; by_cases d : kC f b = 8 <;> simp [c, d]) w)) hT
theorem al16 : relR 2 32768 0 = 2 ∧ relR 2 32256 15360 = 0 ∧ soR 2 32256 15360 = 16 ∧ okB 2 32768 = true ∧ okB 2 0 = true ∧ okB 2 32256 = true ∧ okB 2 15360 = true := by decide +kernel
set_option maxRecDepth 100000 in
set_option maxHeartbeats 4000000 in
theorem r16alive (w : World) (hT : FAt w) : Calls Tryd.prog 13 #[] w fun r w' => r = .returned (.bool true) ∧ Below w.heap.size w w' := by
  have FF := box hT
  obtain ⟨e1, e2, e3, o1, o2, o3, o4⟩ := al16
  have h2 : Is4 2 := by unfold Is4; omega
  have K1 : Box (∀ w, FAt w → Calls Tryd.prog 8 #[.int .u8 2, .agg #[.int .u64 0, .int .u64 32768], .agg #[.int .u64 0, .int .u64 0]] w fun r w' => r = .returned (.tuple #[.int .u8 2, .int .i64 0]) ∧ Below w.heap.size w w') := box (fun w hT => kCompare_is 2 h2 0 32768 32768 0 0 0 (by decide) (by decide) rfl (by decide) (by decide) rfl o1 o2 2 e1 w hT)
  have K2 : Box (∀ w, FAt w → Calls Tryd.prog 10 #[.int .u8 2, .agg #[.int .u64 0, .int .u64 32256], .agg #[.int .u64 0, .int .u64 15360]] w fun r w' => r = .returned (.tuple #[.bool false, .int .u8 16, .int .i64 0]) ∧ Below w.heap.size w w') := box (fun w hT => kLt_is 2 h2 0 32256 32256 0 15360 15360 (by decide) (by decide) rfl (by decide) (by decide) rfl o3 o4 false 16 (by rw [e2]; rfl) e3 w hT)
  clear hT e1 e2 e3 o1 o2 o3 o4 h2
  have B0 : Below w.heap.size w w := (Below.refl _ _)
  go_enter Tryd.func13, Tryd.ntmps13
  go_wp2_with fail
  refine (K1.out _ (fatB FF.out B0)).mono ?_
  rintro r w1 ⟨rfl, b1⟩
  have B1 : Below w.heap.size w w1 := btr B0 b1
  clear b1 B0 
  go_wp2_with fail
  refine (K2.out _ (fatB FF.out B1)).mono ?_
  rintro r w2 ⟨rfl, b2⟩
  have B2 : Below w.heap.size w w2 := btr B1 b2
  clear b2 B1 
  go_wp2
  go_ret
  exact ⟨rfl, B2⟩
theorem ok2_no {f : Int} {a b : Nat} (h : ¬ (okB f a = true ∧ okB f b = true)) : (okB f a && okB f b) = false := by
  rw [Bool.eq_false_iff]
  intro q
  rw [Bool.and_eq_true] at q
  exact h q
theorem compares_all (f : Int) (h0 : 0 ≤ f) (h1 : f ≤ 255) (x1 y1 x2 y2 : Nat) (hx1 : x1 < 18446744073709551616) (hy1 : y1 < 18446744073709551616) (hx2 : x2 < 18446744073709551616) (hy2 : y2 < 18446744073709551616) (w : World) (hT : FAt w) : Calls Tryd.prog 3 #[.int .u8 f, .agg #[.int .u64 (x1 : Nat), .int .u64 (y1 : Nat)], .agg #[.int .u64 (x2 : Nat), .int .u64 (y2 : Nat)]] w fun r w' => r = .returned (.bool true) ∧ Below w.heap.size w w' := by
  obtain ⟨a, ha⟩ : ∃ a, y1 + 18446744073709551616 * x1 = a := ⟨_, rfl⟩
  obtain ⟨b, hb⟩ : ∃ b, y2 + 18446744073709551616 * x2 = b := ⟨_, rfl⟩
  by_cases h : okB f a = true ∧ okB f b = true
  · obtain ⟨oa, ob⟩ := h
    have hf := (okB_yes h0 oa).1
    have KF := r16_two f h0 x1 y1 a x2 y2 b hx1 hy1 ha hx2 hy2 hb true (by rw [oa, ob]; rfl)
    have KC := fun rl h => box (fun w hT => kCompare_is f hf x1 y1 a x2 y2 b hx1 hy1 ha hx2 hy2 hb oa ob rl h w hT)
    have KE := fun o h => box (fun w hT => kEq_is f hf x1 y1 a x2 y2 b hx1 hy1 ha hx2 hy2 hb oa ob o _ h rfl w hT)
    have KL := fun o h => box (fun w hT => kLt_is f hf x1 y1 a x2 y2 b hx1 hy1 ha hx2 hy2 hb oa ob o _ h rfl w hT)
    have KG := fun o h => box (fun w hT => kLe_is f hf x1 y1 a x2 y2 b hx1 hy1 ha hx2 hy2 hb oa ob o _ h rfl w hT)
    have RC := fun rl h => box (fun w => rCompare_is f hf x1 y1 a x2 y2 b hx1 hy1 ha hx2 hy2 hb oa ob rl h w)
    have RS := box (fun w => rSome_is f hf x1 y1 a x2 y2 b hx1 hy1 ha hx2 hy2 hb oa ob _ rfl w)
    have RL := box (fun w => rLoud_is f hf x1 y1 a x2 y2 b hx1 hy1 ha hx2 hy2 hb oa ob _ rfl w)
    have l : relR f a b = 0 ∨ relR f a b = 1 ∨ relR f a b = 2 ∨ relR f a b = 3 := by
      unfold relR
      split
      · exact Or.inl rfl
      split
      · exact Or.inr (Or.inl rfl)
      split
      · exact Or.inr (Or.inr (Or.inl rfl))
      · exact Or.inr (Or.inr (Or.inr rfl))
    rcases l with l | l | l | l
    · exact oc_yes0 f x1 y1 x2 y2 _ _ w (KC 0 l) (KE false (by rw [l]; rfl)) (KL false (by rw [l]; rfl)) (KG false (by rw [l]; rfl)) KF (RC 0 l) RS RL (box r16alive) hT
    · exact oc_yes1 f x1 y1 x2 y2 _ _ w (KC 1 l) (KE false (by rw [l]; rfl)) (KL true (by rw [l]; rfl)) (KG true (by rw [l]; rfl)) KF (RC 1 l) RS RL (box r16alive) hT
    · exact oc_yes2 f x1 y1 x2 y2 _ _ w (KC 2 l) (KE true (by rw [l]; rfl)) (KL false (by rw [l]; rfl)) (KG true (by rw [l]; rfl)) KF (RC 2 l) RS RL (box r16alive) hT
    · exact oc_yes3 f x1 y1 x2 y2 _ _ w (KC 3 l) (KE false (by rw [l]; rfl)) (KL false (by rw [l]; rfl)) (KG false (by rw [l]; rfl)) KF (RC 3 l) RS RL (box r16alive) hT
  · have hn := ok2_no h
    have KF := r16_two f h0 x1 y1 a x2 y2 b hx1 hy1 ha hx2 hy2 hb false hn
    exact oc_no f x1 y1 x2 y2 w (box (fun w hT => od_Compare_no f x1 y1 x2 y2 w (km2 f h0 h1 x1 y1 a x2 y2 b hx1 hy1 ha hx2 hy2 hb false hn) hT)) (box (fun w hT => od_Eq_no f x1 y1 x2 y2 w (km2 f h0 h1 x1 y1 a x2 y2 b hx1 hy1 ha hx2 hy2 hb false hn) hT)) (box (fun w hT => od_Lt_no f x1 y1 x2 y2 w (km2 f h0 h1 x1 y1 a x2 y2 b hx1 hy1 ha hx2 hy2 hb false hn) hT)) (box (fun w hT => od_Le_no f x1 y1 x2 y2 w (km2 f h0 h1 x1 y1 a x2 y2 b hx1 hy1 ha hx2 hy2 hb false hn) hT)) KF (box r16alive) hT
end Go.Proofs.YtmndjhcmomejjaaDoor
