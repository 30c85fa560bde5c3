/-
  What the functions that the statement reaches return: part 17 (A4, A5, M5, Z0, O4, F0, FJ, F1).
-/
import Derived.Test.YtapikkbifdldfaaGreatDoorFs16
namespace Go.Proofs.YtapikkbifdldfaaGreatDoor
set_option maxRecDepth 100000
set_option maxHeartbeats 40000000
set_option maxRecDepth 100000
open Go.RowKit WMath XMath
set_option linter.unusedSimpArgs false
set_option linter.unusedVariables false
theorem kM_lt {f : Int} (hf : Is4 f) (n : Nat) : kM f n < 340282366920938463463374607431768211456 := by
  have h := (enc_k hf false (kE_le (f := f) n) (kT_lt (f := f) n)).1
  have e : enc7 f false (kE f n) (kT f n) = kM f n := rfl
  rw [e] at h
  have := (fm hf).2.2.2.2.2.2
  unfold Fit at h
  omega
theorem kmag_is (f : Int) (hf : Is4 f) (x y n : Nat) (hx : x < 18446744073709551616) (hy : y < 18446744073709551616) (hn : y + 18446744073709551616 * x = n) (ho : okB f n = true) (w : World) (hT : FAt w) : Calls Tryz.prog 119 #[.int .u8 f, .agg #[.int .u64 (x : Nat), .int .u64 (y : Nat)]] w fun r w' => r = .returned (.agg (cw 6 (kM f n))) ∧ Below w.heap.size w w' := by
  have fit := (okB_yes (is4_ok hf).1 ho).2
  have ke := k_enc hf fit
  have ml := kM_lt hf n
  cases hN : kN f n
  · have e : n = kM f n := by rw [hN] at ke; exact ke.symm
    exact ad_mag_no f x y _ w (box (fun w hT => kSign_yes f hf x y n false hx hy hn ho hN w hT)) (box (fun w => wofbits_is x y _ hx hy (by rw [hn]; exact e) w)) hT
  · have e : sgB f n true = kM f n := by
      have := flip_enc hf (kN f n) (kE_le (f := f) n) (kT_lt (f := f) n)
      rw [ke, hN] at this
      unfold sgB
      rw [if_pos rfl, this]
      rfl
    obtain ⟨u, v, hv⟩ : ∃ u v, bv7 (kM f n) = (u, v) := ⟨_, _, rfl⟩
    obtain ⟨i1, i2, i3⟩ := bv_lt ml hv
    exact ad_mag_yes f x y u v _ w (box (fun w hT => kSign_yes f hf x y n true hx hy hn ho hN w hT)) (box (fun w hT => kFlip_yes f hf x y n u v hx hy hn ho (by rw [e]; exact hv) w hT)) (box (fun w => wofbits_is u v _ i1 i2 i3 w)) hT
theorem q131 {s : Nat} (h : s < 2 ^ 128) : 8 * s < Q := Nat.lt_of_lt_of_le (show 8 * s < 2 ^ 131 by omega) (by decide +kernel)
theorem kraised (s : Nat) (h : s < 2 ^ 128) (w : World) : Calls Tryz.prog 175 #[.agg (cw 6 s)] w fun r w' => r = .returned (.agg (cw 6 (8 * s))) ∧ Below w.heap.size w w' :=
  ad_raised s (8 * s) _ w (box (fun w => wleft_is s (8 * s) 3 _ (Nat.lt_of_le_of_lt (by omega) (q131 h)) (by rw [show cnt6 3 = 3 by decide, Nat.mul_comm, show 2 ^ 3 = 8 from rfl]; exact Nat.mod_eq_of_lt (q131 h)) rfl w))
theorem jr_le {f : Int} (hf : Is4 f) {g l : Nat} (h : kM f l ≤ kM f g) (hg : 0 < kC f g ∧ kC f g < 7) (hl : 0 < kC f l ∧ kC f l < 7) : jr (8 * kS f l) (kX f g - kX f l).toNat ≤ 8 * kS f g := by
  by_cases zl : kC f l = 3 ∨ kC f l = 4
  · rw [(k_null l zl).1, Nat.mul_zero, jr_zero]
    exact Nat.zero_le _
  · by_cases zg : kC f g = 3 ∨ kC f g = 4
    · exfalso
      obtain ⟨o1, o2⟩ := kM_ord h
      have c1 := kC_all f g
      have c2 := kC_all f l
      have s5 : (if kN f g then (1 : Nat) else 6) = 1 ∨ (if kN f g then (1 : Nat) else 6) = 6 := by cases kN f g <;> simp
      have s6 : (if kN f g then (2 : Nat) else 5) = 2 ∨ (if kN f g then (2 : Nat) else 5) = 5 := by cases kN f g <;> simp
      have s7 : (if kN f l then (3 : Nat) else 4) = 3 ∨ (if kN f l then (3 : Nat) else 4) = 4 := by cases kN f l <;> simp
      have s8 : (if kN f g then (0 : Nat) else 7) = 0 ∨ (if kN f g then (0 : Nat) else 7) = 7 := by cases kN f g <;> simp
      generalize (if kN f g then (1 : Nat) else 6) = a1 at *
      generalize (if kN f g then (2 : Nat) else 5) = a2 at *
      generalize (if kN f l then (3 : Nat) else 4) = a3 at *
      generalize (if kN f g then (0 : Nat) else 7) = a4 at *
      omega
    · obtain ⟨n, d1, d2, d3, d4⟩ := kM_dist hf h (by omega) (by omega)
      rw [show (kX f g - kX f l).toNat = n by omega]
      exact (sum_unlike (pV f) _ _ n d3 d4 d2).1
set_option maxRecDepth 100000 in
theorem ktotal_is (f m : Int) (hf : Is4 f) (g l cg cl mg ml : Nat) (Xg Xl : Int) (r1 r2 : Nat) (h : kM f l ≤ kM f g) (hcg : kC f g = cg) (hcl : kC f l = cl) (hmg : kS f g = mg) (hml : kS f l = ml) (hXg : kX f g = Xg) (hXl : kX f l = Xl) (fg : 0 < cg ∧ cg < 7) (fl : 0 < cl ∧ cl < 7) (S : Nat) (hS : adS f g l = S) (neg : Bool) (hng : (if S = 0 then (if kN f g = kN f l then kN f g else decide (m = 2)) else kN f g) = neg) (w : World) :
    S < Q ∧ Calls Tryz.prog 120 #[.int .u8 m, .agg (pt cg mg Xg r1), .agg (pt cl ml Xl r2)] w fun r w' => r = .returned (.agg (rg neg S (Xg - 3) false)) ∧ Below w.heap.size w w' := by
  obtain ⟨a1, a2, a3⟩ := kS_lim hf g
  obtain ⟨b1, b2, b3⟩ := kS_lim hf l
  have jl := jr_le hf h (by rw [hcg]; exact fg) (by rw [hcl]; exact fl)
  have sg := kC_sign (f := f) g (by rw [hcg]; exact fg)
  have sl := kC_sign (f := f) l (by rw [hcl]; exact fl)
  rw [hcg] at sg
  rw [hcl] at sl
  unfold adS at hS
  rw [hmg] at a1 jl hS
  rw [hml] at b1 jl hS
  rw [hXg] at a2 a3 jl hS
  rw [hXl] at b2 b3 jl hS
  obtain ⟨o1, ho1⟩ : ∃ o, kN f g = o := ⟨_, rfl⟩
  obtain ⟨o2, ho2⟩ : ∃ o, kN f l = o := ⟨_, rfl⟩
  rw [ho1] at sg hng hS
  rw [ho2] at sl hng hS
  have KB1 : Box (∀ w, Calls Tryz.prog 174 #[.agg (pt cg mg Xg r1)] w fun r w' => r = .returned (.bool o1) ∧ Below w.heap.size w w') := box (fun w => ad_below cg mg Xg r1 o1 (by rw [← sg, decide_eq_decide]; omega) w)
  have KB2 : Box (∀ w, Calls Tryz.prog 174 #[.agg (pt cl ml Xl r2)] w fun r w' => r = .returned (.bool o2) ∧ Below w.heap.size w w') := box (fun w => ad_below cl ml Xl r2 o2 (by rw [← sl, decide_eq_decide]; omega) w)
  have KR1 := box (fun w => kraised mg a1 w)
  have KR2 := box (fun w => kraised ml b1 w)
  obtain ⟨L, hL⟩ : ∃ L, jr (8 * ml) (Xg - Xl).toNat = L := ⟨_, rfl⟩
  rw [hL] at jl hS
  have qg := q131 a1
  have ql := q131 b1
  have KJ : Box (∀ w, Calls Tryz.prog 176 #[.agg (cw 6 (8 * ml)), .int .i64 (Xg - Xl)] w fun r w' => r = .returned (.agg (cw 6 L)) ∧ Below w.heap.size w w') := box (fun w => jright_is (8 * ml) L (Xg - Xl) ql (by rw [jr_cnt6 _ _ ql]; exact hL) w)
  have LQ : L < Q := by rw [← hL]; exact jr_ltQ _ _ ql
  have w1 : IntKind.i64.wrap (Xg - Xl) = Xg - Xl := wrap_i64_is _ (by omega) (by omega)
  have w2 : IntKind.i64.wrap (Xg - 3) = Xg - 3 := wrap_i64_is _ (by omega) (by omega)
  by_cases c : o1 = o2
  · rw [if_pos c] at hS
    subst c
    have hn : o1 = neg := by
      rw [← hng]
      split <;> simp
    have SQ : S < Q := by
      rw [← hS]
      exact Nat.lt_of_le_of_lt (show 8 * mg + L ≤ 8 * (2 * mg) by omega) (Nat.lt_of_lt_of_le (show 8 * (2 * mg) < 2 ^ 132 by have : mg < 2 ^ 128 := a1; omega) (by decide +kernel))
    refine ⟨SQ, ?_⟩
    exact ad_total m cg mg Xg r1 cl ml Xl r2 o1 o1 neg true _ _ L S _ _ false w (by cases o1 <;> rfl) KB1 KB2 KR1 KR2 KJ (box (Or.inl ⟨rfl, box (fun w => wadd_is _ _ S false qg LQ (by rw [hS]; exact Nat.mod_eq_of_lt SQ) (decide_eq_false (by rw [hS]; omega)) w), hn⟩)) SQ w1 w2
  · rw [if_neg c] at hS
    have SQ : S < Q := by omega
    refine ⟨SQ, ?_⟩
    have hd : (o1 == o2) = false := by cases o1 <;> cases o2 <;> simp_all
    have KA : Box (∀ w, Calls Tryz.prog 168 #[.agg (cw 6 (8 * mg)), .agg (cw 6 L)] w fun r w' => r = .returned (.tuple #[.agg (cw 6 S), .bool false]) ∧ Below w.heap.size w w') := box (fun w => wsub_is _ _ S false qg LQ (by rw [show 8 * mg + Q - L = S + Q by omega, Nat.add_mod_right]; exact Nat.mod_eq_of_lt SQ) (decide_eq_false (by omega)) w)
    by_cases z : S = 0
    · rw [if_pos z, if_neg c] at hng
      exact ad_total m cg mg Xg r1 cl ml Xl r2 o1 o2 neg false _ _ L S _ _ false w hd KB1 KB2 KR1 KR2 KJ (box (Or.inr (Or.inr ⟨rfl, KA, eq_true z, by rw [← hng]; rfl⟩))) SQ w1 w2
    · rw [if_neg z] at hng
      exact ad_total m cg mg Xg r1 cl ml Xl r2 o1 o2 neg false _ _ L S _ _ false w hd KB1 KB2 KR1 KR2 KJ (box (Or.inr (Or.inl ⟨rfl, KA, eq_false z, hng⟩))) SQ w1 w2
theorem bv_back {x y n u v : Nat} (hx : x < 18446744073709551616) (hy : y < 18446744073709551616) (hn : y + 18446744073709551616 * x = n) (hv : bv7 n = (u, v)) : x = u ∧ y = v := by
  unfold bv7 at hv
  injection hv with h1 h2
  omega
theorem kplus_n (f m : Int) (hf : Is4 f) (hm : 0 ≤ m ∧ m ≤ 4) (x1 y1 a x2 y2 b : Nat) (hx1 : x1 < 18446744073709551616) (hy1 : y1 < 18446744073709551616) (ha : y1 + 18446744073709551616 * x1 = a) (hx2 : x2 < 18446744073709551616) (hy2 : y2 < 18446744073709551616) (hb : y2 + 18446744073709551616 * x2 = b)
    (oa : okB f a = true) (ob : okB f b = true) (ho : kM f b ≤ kM f a) (M : Nat) (fl : Int) (hr : addG f m a b = (M, fl)) (u v : Nat) (hv : bv7 M = (u, v)) (w : World) (hT : FAt w) :
    Calls Tryz.prog 61 #[.int .u8 f, .int .u8 m, .agg #[.int .u64 (x1 : Nat), .int .u64 (y1 : Nat)], .agg #[.int .u64 (x2 : Nat), .int .u64 (y2 : Nat)]] w fun r w' => r = .returned (.tuple #[.agg #[.int .u64 (u : Nat), .int .u64 (v : Nat)], .int .u8 fl, .int .i64 0]) ∧ Below w.heap.size w w' := by
  have KMa := box (fun w hT => kmag_is f hf x1 y1 a hx1 hy1 ha oa w hT)
  have KMb := box (fun w hT => kmag_is f hf x2 y2 b hx2 hy2 hb ob w hT)
  have KC := box (fun w => wcmp_is (kM f a) (kM f b) _ (lt_Q7 (kM_lt hf a)) (lt_Q7 (kM_lt hf b)) rfl w)
  have hc : decide (cmpv (kM f a) (kM f b) < 0) = false := by
    unfold cmpv
    (repeat' split) <;> first | decide | omega | (rw [decide_eq_false_iff_not]; omega)
  have hle : kM f b ≤ kM f a := by omega
  obtain ⟨k1, k2, k3⟩ := kM_class hle
  obtain ⟨sa1, sa2, sa3⟩ := kS_lim hf a
  obtain ⟨sb1, sb2, sb3⟩ := kS_lim hf b
  obtain ⟨c1, hc1⟩ : ∃ c, kC f a = c := ⟨_, rfl⟩
  obtain ⟨c2, hc2⟩ : ∃ c, kC f b = c := ⟨_, rfl⟩
  obtain ⟨m1, hm1⟩ : ∃ c, kS f a = c := ⟨_, rfl⟩
  obtain ⟨m2, hm2⟩ : ∃ c, kS f b = c := ⟨_, rfl⟩
  obtain ⟨X1, hX1⟩ : ∃ c, kX f a = c := ⟨_, rfl⟩
  obtain ⟨X2, hX2⟩ : ∃ c, kX f b = c := ⟨_, rfl⟩
  have KU1 : Box (∀ w, FAt w → Calls Tryz.prog 33 #[.int .u8 f, .agg #[.int .u64 (x1 : Nat), .int .u64 (y1 : Nat)]] w fun r w' => r = .returned (.tuple #[.agg (pt c1 m1 X1 (kF f a)), .int .i64 0]) ∧ Below w.heap.size w w') := box (fun w hT => kUnpack_yes f hf x1 y1 a c1 m1 (kF f a) X1 hx1 hy1 ha oa (by unfold kp; rw [hc1, hm1, hX1]) w hT)
  have KU2 : Box (∀ w, FAt w → Calls Tryz.prog 33 #[.int .u8 f, .agg #[.int .u64 (x2 : Nat), .int .u64 (y2 : Nat)]] w fun r w' => r = .returned (.tuple #[.agg (pt c2 m2 X2 (kF f b)), .int .i64 0]) ∧ Below w.heap.size w w') := box (fun w hT => kUnpack_yes f hf x2 y2 b c2 m2 (kF f b) X2 hx2 hy2 hb ob (by unfold kp; rw [hc2, hm2, hX2]) w hT)
  have lc1 : c1 < 10 := by rw [← hc1]; exact kC_lt f _
  have lc2 : c2 < 10 := by rw [← hc2]; exact kC_lt f _
  unfold addG at hr
  rw [hc1, hc2] at hr k1 k2 k3
  have KN : bv7 (eNaN f) = (u, v) → Box (∀ w, FAt w → Calls Tryz.prog 35 #[.int .u8 f] w fun r w' => r = .returned (.agg #[.int .u64 (u : Nat), .int .u64 (v : Nat)]) ∧ Below w.heap.size w w') := fun h => box (fun w hT => kNaN_is f hf u v h w hT)
  by_cases a1 : c1 = 8 ∨ c2 = 8
  · rw [if_pos a1] at hr
    injection hr with r1 r2
    subst r1 r2
    by_cases a2 : c1 = 8
    · exact ad_plus_n f m x1 y1 x2 y2 u v _ _ _ c1 m1 X1 _ c2 m2 X2 _ false 0 0 _ w hc KMa KMb KC KU1 KU2 (box (Or.inl ⟨ieq (by omega), KN hv, rfl⟩)) hT
    · exact ad_plus_n f m x1 y1 x2 y2 u v _ _ _ c1 m1 X1 _ c2 m2 X2 _ false 0 0 _ w hc KMa KMb KC KU1 KU2 (box (Or.inr (Or.inl ⟨ine (by omega), ieq (by omega), KN hv, rfl⟩))) hT
  rw [if_neg a1] at hr
  have h18 : ((c1 : Int) == 8) = false := ine (by omega)
  have h28 : ((c2 : Int) == 8) = false := ine (by omega)
  by_cases b1 : c1 = 9
  · rw [if_pos b1] at hr
    injection hr with r1 r2
    subst r1 r2
    exact ad_plus_n f m x1 y1 x2 y2 u v _ _ _ c1 m1 X1 _ c2 m2 X2 _ false 0 0 _ w hc KMa KMb KC KU1 KU2 (box (Or.inr (Or.inr (Or.inl ⟨h18, h28, ieq (by omega), KN hv, rfl⟩)))) hT
  rw [if_neg b1] at hr
  have h19 : ((c1 : Int) == 9) = false := ine (by omega)
  have KE1 : ∀ o, decide (c1 = 0 ∨ c1 = 7) = o → Box (∀ w, Calls Tryz.prog 70 #[.int .u8 (c1 : Nat)] w fun r w' => r = .returned (.bool o) ∧ Below w.heap.size w w') := fun o h => box (fun w => op_endless c1 o (by rw [← Bool.decide_or]; exact h) w)
  have KE2 : ∀ o, decide (c2 = 0 ∨ c2 = 7) = o → Box (∀ w, Calls Tryz.prog 70 #[.int .u8 (c2 : Nat)] w fun r w' => r = .returned (.bool o) ∧ Below w.heap.size w w') := fun o h => box (fun w => op_endless c2 o (by rw [← Bool.decide_or]; exact h) w)
  by_cases e1 : c1 = 0 ∨ c1 = 7
  · rw [if_pos e1] at hr
    have KE1 := KE1 true (decide_eq_true e1)
    by_cases e2 : c2 = 0 ∨ c2 = 7
    · have KE2 := KE2 true (decide_eq_true e2)
      by_cases e3 : c1 ≠ c2
      · rw [if_pos ⟨e2, e3⟩] at hr
        injection hr with r1 r2
        subst r1 r2
        exact ad_plus_n f m x1 y1 x2 y2 u v _ _ _ c1 m1 X1 _ c2 m2 X2 _ false 0 0 _ w hc KMa KMb KC KU1 KU2 (box (Or.inr (Or.inr (Or.inr (Or.inl ⟨h18, h28, h19, by simp only [bne_iff_ne, ne_eq]; omega, KE1, KE2, KN hv, rfl⟩))))) hT
      · rw [if_neg (fun q => e3 q.2)] at hr
        injection hr with r1 r2
        subst r1 r2
        obtain ⟨v1, v2⟩ := bv_back hx1 hy1 ha hv
        exact ad_plus_n f m x1 y1 x2 y2 u v _ _ _ c1 m1 X1 _ c2 m2 X2 _ false 0 0 _ w hc KMa KMb KC KU1 KU2 (box (Or.inr (Or.inr (Or.inr (Or.inr (Or.inl ⟨h18, h28, h19, by rw [show c1 = c2 by omega]; simp, KE1, KE2, v1, v2, rfl⟩)))))) hT
    · have KE2 := KE2 false (decide_eq_false e2)
      rw [if_neg (fun q => e2 q.1)] at hr
      injection hr with r1 r2
      subst r1 r2
      obtain ⟨v1, v2⟩ := bv_back hx1 hy1 ha hv
      exact ad_plus_n f m x1 y1 x2 y2 u v _ _ _ c1 m1 X1 _ c2 m2 X2 _ false 0 0 _ w hc KMa KMb KC KU1 KU2 (box (Or.inr (Or.inr (Or.inr (Or.inr (Or.inr (Or.inl ⟨h18, h28, h19, KE1, KE2, v1, v2, rfl⟩))))))) hT
  rw [if_neg e1] at hr
  have KE1 := KE1 false (decide_eq_false e1)
  have fg : 0 < c1 ∧ c1 < 7 := by omega
  have fl2 : 0 < c2 ∧ c2 < 7 := by omega
  obtain ⟨S, hS⟩ : ∃ S, adS f a b = S := ⟨_, rfl⟩
  obtain ⟨neg, hng⟩ : ∃ neg, (if S = 0 then (if kN f a = kN f b then kN f a else decide (m = 2)) else kN f a) = neg := ⟨_, rfl⟩
  have KT := fun w => ktotal_is f m hf a b c1 c2 m1 m2 X1 X2 (kF f a) (kF f b) hle hc1 hc2 hm1 hm2 hX1 hX2 fg fl2 S hS neg hng w
  have SQ := (KT w).1
  refine ad_plus_n f m x1 y1 x2 y2 u v _ _ _ c1 m1 X1 _ c2 m2 X2 _ neg S (X1 - 3) fl w hc KMa KMb KC KU1 KU2 (box (Or.inr (Or.inr (Or.inr (Or.inr (Or.inr (Or.inr (⟨h18, h28, h19, KE1, box (fun w => (KT w).2), ?_⟩)))))))) hT
  rw [hS, hX1] at hr
  rw [hX1] at sa2 sa3
  by_cases z : S = 0
  · rw [if_pos z] at hr hng
    rw [hng] at hr
    injection hr with r1 r2
    subst r1 r2
    rw [z]
    exact box (fun w hT => kPack_zero f m hf hm neg (X1 - 3) (by omega) (by omega) u v hv w hT)
  · rw [if_neg z] at hr hng
    rw [hng] at hr
    exact box (fun w hT => kPack_is f m hf hm neg S SQ z (X1 - 3) false (by omega) (by omega) (fun h => Bool.noConfusion h) M fl hr u v hv w hT)
theorem kplus_w (f m : Int) (hf : Is4 f) (hm : 0 ≤ m ∧ m ≤ 4) (x1 y1 a x2 y2 b : Nat) (hx1 : x1 < 18446744073709551616) (hy1 : y1 < 18446744073709551616) (ha : y1 + 18446744073709551616 * x1 = a) (hx2 : x2 < 18446744073709551616) (hy2 : y2 < 18446744073709551616) (hb : y2 + 18446744073709551616 * x2 = b)
    (oa : okB f a = true) (ob : okB f b = true) (ho : kM f a < kM f b) (M : Nat) (fl : Int) (hr : addG f m b a = (M, fl)) (u v : Nat) (hv : bv7 M = (u, v)) (w : World) (hT : FAt w) :
    Calls Tryz.prog 61 #[.int .u8 f, .int .u8 m, .agg #[.int .u64 (x1 : Nat), .int .u64 (y1 : Nat)], .agg #[.int .u64 (x2 : Nat), .int .u64 (y2 : Nat)]] w fun r w' => r = .returned (.tuple #[.agg #[.int .u64 (u : Nat), .int .u64 (v : Nat)], .int .u8 fl, .int .i64 0]) ∧ Below w.heap.size w w' := by
  have KMa := box (fun w hT => kmag_is f hf x1 y1 a hx1 hy1 ha oa w hT)
  have KMb := box (fun w hT => kmag_is f hf x2 y2 b hx2 hy2 hb ob w hT)
  have KC := box (fun w => wcmp_is (kM f a) (kM f b) _ (lt_Q7 (kM_lt hf a)) (lt_Q7 (kM_lt hf b)) rfl w)
  have hc : decide (cmpv (kM f a) (kM f b) < 0) = true := by
    unfold cmpv
    (repeat' split) <;> first | decide | omega | (rw [decide_eq_true_iff]; omega)
  have hle : kM f a ≤ kM f b := by omega
  obtain ⟨k1, k2, k3⟩ := kM_class hle
  obtain ⟨sa1, sa2, sa3⟩ := kS_lim hf b
  obtain ⟨sb1, sb2, sb3⟩ := kS_lim hf a
  obtain ⟨c1, hc1⟩ : ∃ c, kC f b = c := ⟨_, rfl⟩
  obtain ⟨c2, hc2⟩ : ∃ c, kC f a = c := ⟨_, rfl⟩
  obtain ⟨m1, hm1⟩ : ∃ c, kS f b = c := ⟨_, rfl⟩
  obtain ⟨m2, hm2⟩ : ∃ c, kS f a = c := ⟨_, rfl⟩
  obtain ⟨X1, hX1⟩ : ∃ c, kX f b = c := ⟨_, rfl⟩
  obtain ⟨X2, hX2⟩ : ∃ c, kX f a = c := ⟨_, rfl⟩
  have KU1 : Box (∀ w, FAt w → Calls Tryz.prog 33 #[.int .u8 f, .agg #[.int .u64 (x2 : Nat), .int .u64 (y2 : Nat)]] w fun r w' => r = .returned (.tuple #[.agg (pt c1 m1 X1 (kF f b)), .int .i64 0]) ∧ Below w.heap.size w w') := box (fun w hT => kUnpack_yes f hf x2 y2 b c1 m1 (kF f b) X1 hx2 hy2 hb ob (by unfold kp; rw [hc1, hm1, hX1]) w hT)
  have KU2 : Box (∀ w, FAt w → Calls Tryz.prog 33 #[.int .u8 f, .agg #[.int .u64 (x1 : Nat), .int .u64 (y1 : Nat)]] w fun r w' => r = .returned (.tuple #[.agg (pt c2 m2 X2 (kF f a)), .int .i64 0]) ∧ Below w.heap.size w w') := box (fun w hT => kUnpack_yes f hf x1 y1 a c2 m2 (kF f a) X2 hx1 hy1 ha oa (by unfold kp; rw [hc2, hm2, hX2]) w hT)
  have lc1 : c1 < 10 := by rw [← hc1]; exact kC_lt f _
  have lc2 : c2 < 10 := by rw [← hc2]; exact kC_lt f _
  unfold addG at hr
  rw [hc1, hc2] at hr k1 k2 k3
  have KN : bv7 (eNaN f) = (u, v) → Box (∀ w, FAt w → Calls Tryz.prog 35 #[.int .u8 f] w fun r w' => r = .returned (.agg #[.int .u64 (u : Nat), .int .u64 (v : Nat)]) ∧ Below w.heap.size w w') := fun h => box (fun w hT => kNaN_is f hf u v h w hT)
  by_cases a1 : c1 = 8 ∨ c2 = 8
  · rw [if_pos a1] at hr
    injection hr with r1 r2
    subst r1 r2
    by_cases a2 : c1 = 8
    · exact ad_plus_w f m x1 y1 x2 y2 u v _ _ _ c1 m1 X1 _ c2 m2 X2 _ false 0 0 _ w hc KMa KMb KC KU1 KU2 (box (Or.inl ⟨ieq (by omega), KN hv, rfl⟩)) hT
    · exact ad_plus_w f m x1 y1 x2 y2 u v _ _ _ c1 m1 X1 _ c2 m2 X2 _ false 0 0 _ w hc KMa KMb KC KU1 KU2 (box (Or.inr (Or.inl ⟨ine (by omega), ieq (by omega), KN hv, rfl⟩))) hT
  rw [if_neg a1] at hr
  have h18 : ((c1 : Int) == 8) = false := ine (by omega)
  have h28 : ((c2 : Int) == 8) = false := ine (by omega)
  by_cases b1 : c1 = 9
  · rw [if_pos b1] at hr
    injection hr with r1 r2
    subst r1 r2
    exact ad_plus_w f m x1 y1 x2 y2 u v _ _ _ c1 m1 X1 _ c2 m2 X2 _ false 0 0 _ w hc KMa KMb KC KU1 KU2 (box (Or.inr (Or.inr (Or.inl ⟨h18, h28, ieq (by omega), KN hv, rfl⟩)))) hT
  rw [if_neg b1] at hr
  have h19 : ((c1 : Int) == 9) = false := ine (by omega)
  have KE1 : ∀ o, decide (c1 = 0 ∨ c1 = 7) = o → Box (∀ w, Calls Tryz.prog 70 #[.int .u8 (c1 : Nat)] w fun r w' => r = .returned (.bool o) ∧ Below w.heap.size w w') := fun o h => box (fun w => op_endless c1 o (by rw [← Bool.decide_or]; exact h) w)
  have KE2 : ∀ o, decide (c2 = 0 ∨ c2 = 7) = o → Box (∀ w, Calls Tryz.prog 70 #[.int .u8 (c2 : Nat)] w fun r w' => r = .returned (.bool o) ∧ Below w.heap.size w w') := fun o h => box (fun w => op_endless c2 o (by rw [← Bool.decide_or]; exact h) w)
  by_cases e1 : c1 = 0 ∨ c1 = 7
  · rw [if_pos e1] at hr
    have KE1 := KE1 true (decide_eq_true e1)
    by_cases e2 : c2 = 0 ∨ c2 = 7
    · have KE2 := KE2 true (decide_eq_true e2)
      by_cases e3 : c1 ≠ c2
      · rw [if_pos ⟨e2, e3⟩] at hr
        injection hr with r1 r2
        subst r1 r2
        exact ad_plus_w f m x1 y1 x2 y2 u v _ _ _ c1 m1 X1 _ c2 m2 X2 _ false 0 0 _ w hc KMa KMb KC KU1 KU2 (box (Or.inr (Or.inr (Or.inr (Or.inl ⟨h18, h28, h19, by simp only [bne_iff_ne, ne_eq]; omega, KE1, KE2, KN hv, rfl⟩))))) hT
      · rw [if_neg (fun q => e3 q.2)] at hr
        injection hr with r1 r2
        subst r1 r2
        obtain ⟨v1, v2⟩ := bv_back hx2 hy2 hb hv
        exact ad_plus_w f m x1 y1 x2 y2 u v _ _ _ c1 m1 X1 _ c2 m2 X2 _ false 0 0 _ w hc KMa KMb KC KU1 KU2 (box (Or.inr (Or.inr (Or.inr (Or.inr (Or.inl ⟨h18, h28, h19, by rw [show c1 = c2 by omega]; simp, KE1, KE2, v1, v2, rfl⟩)))))) hT
    · have KE2 := KE2 false (decide_eq_false e2)
      rw [if_neg (fun q => e2 q.1)] at hr
      injection hr with r1 r2
      subst r1 r2
      obtain ⟨v1, v2⟩ := bv_back hx2 hy2 hb hv
      exact ad_plus_w f m x1 y1 x2 y2 u v _ _ _ c1 m1 X1 _ c2 m2 X2 _ false 0 0 _ w hc KMa KMb KC KU1 KU2 (box (Or.inr (Or.inr (Or.inr (Or.inr (Or.inr (Or.inl ⟨h18, h28, h19, KE1, KE2, v1, v2, rfl⟩))))))) hT
  rw [if_neg e1] at hr
  have KE1 := KE1 false (decide_eq_false e1)
  have fg : 0 < c1 ∧ c1 < 7 := by omega
  have fl2 : 0 < c2 ∧ c2 < 7 := by omega
  obtain ⟨S, hS⟩ : ∃ S, adS f b a = S := ⟨_, rfl⟩
  obtain ⟨neg, hng⟩ : ∃ neg, (if S = 0 then (if kN f b = kN f a then kN f b else decide (m = 2)) else kN f b) = neg := ⟨_, rfl⟩
  have KT := fun w => ktotal_is f m hf b a c1 c2 m1 m2 X1 X2 (kF f b) (kF f a) hle hc1 hc2 hm1 hm2 hX1 hX2 fg fl2 S hS neg hng w
  have SQ := (KT w).1
  refine ad_plus_w f m x1 y1 x2 y2 u v _ _ _ c1 m1 X1 _ c2 m2 X2 _ neg S (X1 - 3) fl w hc KMa KMb KC KU1 KU2 (box (Or.inr (Or.inr (Or.inr (Or.inr (Or.inr (Or.inr (⟨h18, h28, h19, KE1, box (fun w => (KT w).2), ?_⟩)))))))) hT
  rw [hS, hX1] at hr
  rw [hX1] at sa2 sa3
  by_cases z : S = 0
  · rw [if_pos z] at hr hng
    rw [hng] at hr
    injection hr with r1 r2
    subst r1 r2
    rw [z]
    exact box (fun w hT => kPack_zero f m hf hm neg (X1 - 3) (by omega) (by omega) u v hv w hT)
  · rw [if_neg z] at hr hng
    rw [hng] at hr
    exact box (fun w hT => kPack_is f m hf hm neg S SQ z (X1 - 3) false (by omega) (by omega) (fun h => Bool.noConfusion h) M fl hr u v hv w hT)
theorem kplus_is2 (f m : Int) (hf : Is4 f) (hm : 0 ≤ m ∧ m ≤ 4) (x1 y1 a x2 y2 b : Nat) (hx1 : x1 < 18446744073709551616) (hy1 : y1 < 18446744073709551616) (ha : y1 + 18446744073709551616 * x1 = a) (hx2 : x2 < 18446744073709551616) (hy2 : y2 < 18446744073709551616) (hb : y2 + 18446744073709551616 * x2 = b)
    (oa : okB f a = true) (ob : okB f b = true) (M : Nat) (fl : Int) (hr : addR f m a b = (M, fl)) (u v : Nat) (hv : bv7 M = (u, v)) (w : World) (hT : FAt w) :
    Calls Tryz.prog 61 #[.int .u8 f, .int .u8 m, .agg #[.int .u64 (x1 : Nat), .int .u64 (y1 : Nat)], .agg #[.int .u64 (x2 : Nat), .int .u64 (y2 : Nat)]] w fun r w' => r = .returned (.tuple #[.agg #[.int .u64 (u : Nat), .int .u64 (v : Nat)], .int .u8 fl, .int .i64 0]) ∧ Below w.heap.size w w' := by
  unfold addR at hr
  by_cases c : kM f a < kM f b
  · rw [if_pos c] at hr
    exact kplus_w f m hf hm x1 y1 a x2 y2 b hx1 hy1 ha hx2 hy2 hb oa ob c M fl hr u v hv w hT
  · rw [if_neg c] at hr
    exact kplus_n f m hf hm x1 y1 a x2 y2 b hx1 hy1 ha hx2 hy2 hb oa ob (by omega) M fl hr u v hv w hT
theorem cls_sg (f : Int) (n : Nat) : ∃ a1 a2 a3 a4 : Nat, (a1 = 0 ∨ a1 = 7) ∧ (a2 = 1 ∨ a2 = 6) ∧ (a3 = 2 ∨ a3 = 5) ∧ (a4 = 3 ∨ a4 = 4) ∧
    ((kE f n = oV f ∧ kT f n = 0 ∧ kC f n = a1) ∨ (kE f n = oV f ∧ kT f n ≠ 0 ∧ kT f n < 2 ^ (pV f - 1) ∧ kC f n = 8) ∨ (kE f n = oV f ∧ 2 ^ (pV f - 1) ≤ kT f n ∧ kC f n = 9) ∨ (kE f n < oV f ∧ kE f n ≠ 0 ∧ kC f n = a2) ∨ (kE f n < oV f ∧ kE f n = 0 ∧ kT f n ≠ 0 ∧ kC f n = a3) ∨ (kE f n < oV f ∧ kE f n = 0 ∧ kT f n = 0 ∧ kC f n = a4)) :=
  ⟨_, _, _, _, by cases kN f n <;> simp, by cases kN f n <;> simp, by cases kN f n <;> simp, by cases kN f n <;> simp, kC_all f n⟩
theorem addR_nan (f m : Int) (a b : Nat) (h : 8 ≤ kC f a ∨ 8 ≤ kC f b) : addR f m a b = (eNaN f, if kC f a = 8 ∨ kC f b = 8 then 16 else 0) := by
  have la := kC_lt f a
  have lb := kC_lt f b
  unfold addR addG
  by_cases c : kM f a < kM f b
  · have k := kM_class (f := f) (g := b) (l := a) (by omega)
    rw [if_pos c]
    by_cases d : kC f a = 8 ∨ kC f b = 8
    · rw [if_pos d, if_pos (by omega)]
    · rw [if_neg d, if_neg (by omega), if_pos (by omega)]
  · have k := kM_class (f := f) (g := a) (l := b) (by omega)
    rw [if_neg c]
    by_cases d : kC f a = 8 ∨ kC f b = 8
    · rw [if_pos d, if_pos d]
    · rw [if_neg d, if_pos (show kC f a = 9 by omega), if_neg d]
theorem kM_inf (f : Int) (n : Nat) (h : kC f n = 0 ∨ kC f n = 7) : kM f n = oV f * 2 ^ pV f ∧ kN f n = decide (kC f n = 0) := by
  obtain ⟨a1, a2, a3, a4, s1, s2, s3, s4, c⟩ := cls_sg f n
  have e : kE f n = oV f ∧ kT f n = 0 := by omega
  refine ⟨by unfold kM; rw [e.1, e.2, Nat.add_zero], ?_⟩
  have d := kC_all f n
  cases hn : kN f n
  · rw [hn] at d
    simp only [Bool.false_eq_true, if_false] at d
    rw [eq_comm, decide_eq_false_iff_not]
    omega
  · rw [hn] at d
    simp only [if_true] at d
    rw [eq_comm, decide_eq_true_iff]
    omega
theorem addR_inf2 (f m : Int) (a b : Nat) (ha : kC f a = 0 ∨ kC f a = 7) (hb : kC f b = 0 ∨ kC f b = 7) : addR f m a b = if kC f a ≠ kC f b then (eNaN f, 16) else (a, 0) := by
  unfold addR addG
  rw [(kM_inf f a ha).1, (kM_inf f b hb).1, if_neg (Nat.lt_irrefl _), if_neg (by omega), if_neg (by omega), if_pos ha]
  by_cases c : kC f a ≠ kC f b
  · rw [if_pos ⟨hb, c⟩, if_pos c]
  · rw [if_neg (fun q => c q.2), if_neg c]
theorem addR_inf (f m : Int) (a b : Nat) (ha : kC f a = 0 ∨ kC f a = 7) (hb : 0 < kC f b ∧ kC f b < 7) : addR f m a b = (a, 0) ∧ addR f m b a = (a, 0) := by
  have lt : kM f b < kM f a := by
    rcases Nat.lt_or_ge (kM f b) (kM f a) with c | c
    · exact c
    · have := (kM_class c).2.1 ha
      omega
  constructor
  · unfold addR addG
    rw [if_neg (by omega), if_neg (by omega), if_neg (by omega), if_pos ha, if_neg (by omega)]
  · unfold addR addG
    rw [if_pos lt, if_neg (by omega), if_neg (by omega), if_pos ha, if_neg (by omega)]
theorem kM_zero (f : Int) (n : Nat) (h : kC f n = 3 ∨ kC f n = 4) : kM f n = 0 ∧ kE f n = 0 ∧ kT f n = 0 := by
  obtain ⟨a1, a2, a3, a4, s1, s2, s3, s4, c⟩ := cls_sg f n
  have e : kE f n = 0 ∧ kT f n = 0 := by omega
  exact ⟨by unfold kM; rw [e.1, e.2, Nat.zero_mul], e⟩
theorem kM_pos {f : Int} {n : Nat} (h : kC f n = 1 ∨ kC f n = 2 ∨ kC f n = 5 ∨ kC f n = 6) : 0 < kM f n := by
  obtain ⟨a1, a2, a3, a4, s1, s2, s3, s4, c⟩ := cls_sg f n
  have p := Nat.two_pow_pos (pV f)
  have e : kE f n ≠ 0 ∨ kT f n ≠ 0 := by omega
  unfold kM
  rcases e with e | e
  · have := Nat.mul_le_mul_right (2 ^ pV f) (show 1 ≤ kE f n by omega)
    omega
  · omega
theorem adS_zero (f : Int) (g l : Nat) (h : kC f l = 3 ∨ kC f l = 4) : adS f g l = 8 * kS f g := by
  unfold adS
  rw [(k_null l h).1, Nat.mul_zero, jr_zero, Nat.add_zero, Nat.sub_zero, ite_self]
theorem addR_zeros (f m : Int) (a b : Nat) (ha : kC f a = 3 ∨ kC f a = 4) (hb : kC f b = 3 ∨ kC f b = 4) : addR f m a b = (eZero f (if kN f a = kN f b then kN f a else decide (m = 2)), 0) := by
  unfold addR addG
  rw [(kM_zero f a ha).1, (kM_zero f b hb).1, if_neg (Nat.lt_irrefl _), if_neg (by omega), if_neg (by omega), if_neg (by omega), if_pos (by rw [adS_zero f a b hb, (k_null a ha).1])]
theorem rnd_vX {f : Int} (hf : Is4 f) (m : Int) (g : Nat) (hg : kC f g = 1 ∨ kC f g = 2 ∨ kC f g = 5 ∨ kC f g = 6) : (vX f g).can ∧ nl (vX f g).n ≤ 8192 ∧ (vX f g).n ≠ 0 ∧ (vX f g).d = 1 ∧ rnd f m (vX f g) = dlv f m (kN f g) (kX f g + (blen (kS f g) : Int) - 1) (qW (pV f + 1) (kS f g)) (qM (pV f + 1) (kS f g) false) := by
  obtain ⟨a1, a2, a3, a4⟩ := vX_whole hf g (by omega) (by omega)
  obtain ⟨l1, l2, l3⟩ := kS_lim hf g
  obtain ⟨w1, w2, w3, w4, w5, w6, w7⟩ := x_whole hf (kN f g) (kS f g) (kX f g) a1 (by have := (blen_iff (kS f g) 128).2 a2; omega) (by omega) (by omega)
  rw [a3]
  refine ⟨w2, w4, w3, rfl, ?_⟩
  unfold rnd
  rw [if_neg w3, w5, w6, w7]
theorem addG_zero {f : Int} (hf : Is4 f) (m : Int) (g l : Nat) (hg : kC f g = 1 ∨ kC f g = 2 ∨ kC f g = 5 ∨ kC f g = 6) (hl : kC f l = 3 ∨ kC f l = 4) : addG f m g l = rnd f m (vX f g) := by
  obtain ⟨a, b, c, d⟩ := k_parts (f := f) g hg
  have bs := blen_shift (kS f g) 3 d
  have ql := q_longer (pV f + 1) (kS f g) 3 d
  rw [three_up] at bs ql
  unfold addG
  rw [if_neg (by omega), if_neg (by omega), if_neg (by omega), adS_zero f g l hl, if_neg (by omega), (rnd_vX hf m g hg).2.2.2.2, ql.1, ql.2, bs]
  congr 1
  omega
theorem addG_num {f : Int} (hf : Is4 f) (m : Int) (g l : Nat) (hg : kC f g = 1 ∨ kC f g = 2 ∨ kC f g = 5 ∨ kC f g = 6) (hl : kC f l = 1 ∨ kC f l = 2 ∨ kC f l = 5 ∨ kC f l = 6) (h : kM f l ≤ kM f g) :
    ∃ (zb : Bool) (zn : Nat) (ze : Int), addX (vX f g) (vX f l) = (⟨zb, zn, 1, ze⟩, 0) ∧ addX (vX f l) (vX f g) = (⟨zb, zn, 1, ze⟩, 0) ∧ (XN.mk zb zn 1 ze).can ∧ nl zn ≤ 8192 ∧
      ((zn = 0 ∧ zb = false ∧ ze = 0 ∧ kN f g ≠ kN f l ∧ addG f m g l = (eZero f (decide (m = 2)), 0)) ∨ (zn ≠ 0 ∧ rnd f m ⟨zb, zn, 1, ze⟩ = addG f m g l)) := by
  obtain ⟨n, d1, d2, d3, d4⟩ := kM_dist hf h hg hl
  obtain ⟨g1, g2, g3, g4⟩ := vX_whole hf g (by omega) (by omega)
  obtain ⟨l1, l2, l3, l4⟩ := vX_whole hf l (by omega) (by omega)
  obtain ⟨gl1, gl2, gl3⟩ := kS_lim hf g
  obtain ⟨ll1, ll2, ll3⟩ := kS_lim hf l
  have hS : adS f g l = if kN f g = kN f l then 8 * kS f g + jr (8 * kS f l) n else 8 * kS f g - jr (8 * kS f l) n := by
    unfold adS
    rw [show (kX f g - kX f l).toNat = n by omega]
  obtain ⟨N, hN⟩ : ∃ N, sumN (kN f g) (kN f l) (kS f g) (kS f l) n = N := ⟨_, rfl⟩
  have key : (N = 0 → kN f g ≠ kN f l ∧ adS f g l = 0) ∧ (N ≠ 0 → adS f g l ≠ 0 ∧ blen (adS f g l) + n = blen N + 3 ∧ qW (pV f + 1) (adS f g l) = qW (pV f + 1) N ∧ qM (pV f + 1) (adS f g l) false = qM (pV f + 1) N false) := by
    unfold sumN at hN
    by_cases c : kN f g = kN f l
    · rw [if_pos c] at hN hS
      have s := sum_like (pV f) (kS f g) (kS f l) n g1 d3
      rw [hN, ← hS] at s
      have p := Nat.mul_pos (Nat.pos_of_ne_zero g1) (Nat.two_pow_pos n)
      exact ⟨fun q => by omega, fun _ => ⟨by omega, s⟩⟩
    · rw [if_neg c] at hN hS
      have s := sum_unlike (pV f) (kS f g) (kS f l) n d3 d4 d2
      rw [hN, ← hS] at s
      exact ⟨fun q => ⟨c, s.2.1.1 q⟩, fun q => ⟨fun z => q (s.2.1.2 z), s.2.2 q⟩⟩
  rw [g3, l3]
  have ag : addG f m g l = if adS f g l = 0 then (eZero f (if kN f g = kN f l then kN f g else decide (m = 2)), 0) else dlv f m (kN f g) (kX f g - 3 + (blen (adS f g l) : Int) - 1) (qW (pV f + 1) (adS f g l)) (qM (pV f + 1) (adS f g l) false) := by
    unfold addG
    rw [if_neg (by omega), if_neg (by omega), if_neg (by omega)]
  by_cases z : N = 0
  · obtain ⟨k1, k2⟩ := key.1 z
    obtain ⟨n1, n2⟩ := add_null hf (kN f g) (kN f l) (kS f g) (kS f l) n (kX f g) (kX f l) g1 l1 g2 l2 d1 d2 gl2 gl3 ll2 ll3 (by rw [hN, z])
    exact ⟨false, 0, 0, n1, n2, x0_can, Nat.le_trans (nl_mono 0 1 (by decide)) (Nat.le_trans (nl_le_of 1 1 (by decide)) (by decide)), Or.inl ⟨rfl, rfl, rfl, k1, by rw [ag, if_pos k2, if_neg k1]⟩⟩
  · obtain ⟨k1, k2, k3, k4⟩ := key.2 z
    obtain ⟨k, e, n1, n2, n3, n4, n5, n6⟩ := add_num hf m (kN f g) (kN f l) (kS f g) (kS f l) n (kX f g) (kX f l) g1 l1 g2 l2 d1 d2 gl2 gl3 ll2 ll3 N hN z
    refine ⟨kN f g, k, e, n1, n2, n3, n4, Or.inr ⟨n5, ?_⟩⟩
    rw [n6, ag, if_neg k1, k3, k4]
    congr 1
    omega
theorem vX_null (f : Int) (n : Nat) (h : kC f n = 3 ∨ kC f n = 4) : vX f n = XMath.X0 := by
  unfold vX
  rw [(k_null n h).1, mk_null]
theorem vX_can {f : Int} (hf : Is4 f) (n : Nat) (h : 0 < kC f n ∧ kC f n < 7) : (vX f n).can := by
  by_cases z : kC f n = 3 ∨ kC f n = 4
  · rw [vX_null f n z]
    exact x0_can
  · exact (vX_whole hf n h z).2.2.2
theorem add_fin {f : Int} (hf : Is4 f) (m : Int) (a b : Nat) (ha : 0 < kC f a ∧ kC f a < 7) (hb : 0 < kC f b ∧ kC f b < 7) (hz : ¬ ((kC f a = 3 ∨ kC f a = 4) ∧ (kC f b = 3 ∨ kC f b = 4))) :
    ∃ (zb : Bool) (zn : Nat) (ze : Int), addX (vX f a) (vX f b) = (⟨zb, zn, 1, ze⟩, 0) ∧ (XN.mk zb zn 1 ze).can ∧ nl zn ≤ 8192 ∧
      ((zn = 0 ∧ zb = false ∧ ze = 0 ∧ addR f m a b = (eZero f (decide (m = 2)), 0)) ∨ (zn ≠ 0 ∧ rnd f m ⟨zb, zn, 1, ze⟩ = addR f m a b)) := by
  by_cases za : kC f a = 3 ∨ kC f a = 4
  · have nb : kC f b = 1 ∨ kC f b = 2 ∨ kC f b = 5 ∨ kC f b = 6 := by omega
    obtain ⟨r1, r2, r3, r4, r5⟩ := rnd_vX hf m b nb
    have e : vX f b = ⟨(vX f b).b, (vX f b).n, 1, (vX f b).e⟩ := by rw [← r4]
    refine ⟨(vX f b).b, (vX f b).n, (vX f b).e, ?_, by rw [← e]; exact r1, r2, Or.inr ⟨r3, ?_⟩⟩
    · rw [vX_null f a za, ← e]
      unfold addX
      rw [if_pos (show (XMath.X0).n = 0 from rfl)]
    · rw [← e]
      unfold addR
      rw [(kM_zero f a za).1, if_pos (kM_pos nb), addG_zero hf m b a nb za]
  · have na : kC f a = 1 ∨ kC f a = 2 ∨ kC f a = 5 ∨ kC f a = 6 := by omega
    by_cases zb : kC f b = 3 ∨ kC f b = 4
    · obtain ⟨r1, r2, r3, r4, r5⟩ := rnd_vX hf m a na
      have e : vX f a = ⟨(vX f a).b, (vX f a).n, 1, (vX f a).e⟩ := by rw [← r4]
      refine ⟨(vX f a).b, (vX f a).n, (vX f a).e, ?_, by rw [← e]; exact r1, r2, Or.inr ⟨r3, ?_⟩⟩
      · rw [vX_null f b zb, ← e]
        unfold addX
        rw [if_neg r3, if_pos (show (XMath.X0).n = 0 from rfl)]
      · rw [← e]
        unfold addR
        rw [(kM_zero f b zb).1, if_neg (by omega), addG_zero hf m a b na zb]
    · have nb : kC f b = 1 ∨ kC f b = 2 ∨ kC f b = 5 ∨ kC f b = 6 := by omega
      unfold addR
      by_cases c : kM f a < kM f b
      · rw [if_pos c]
        obtain ⟨sb, sn, se, q1, q2, q3, q4, q5⟩ := addG_num hf m b a nb na (by omega)
        refine ⟨sb, sn, se, q2, q3, q4, ?_⟩
        rcases q5 with ⟨z1, z2, z3, z4, z5⟩ | q5
        · exact Or.inl ⟨z1, z2, z3, z5⟩
        · exact Or.inr q5
      · rw [if_neg c]
        obtain ⟨sb, sn, se, q1, q2, q3, q4, q5⟩ := addG_num hf m a b na nb (by omega)
        refine ⟨sb, sn, se, q1, q3, q4, ?_⟩
        rcases q5 with ⟨z1, z2, z3, z4, z5⟩ | q5
        · exact Or.inl ⟨z1, z2, z3, z5⟩
        · exact Or.inr q5
theorem one_parts {f : Int} (hf : Is4 f) (neg : Bool) : Fit f (eOne f neg) ∧ kN f (eOne f neg) = neg ∧ (kC f (eOne f neg) = 1 ∨ kC f (eOne f neg) = 6) ∧ kS f (eOne f neg) = 2 ^ pV f ∧ kX f (eOne f neg) = -(pV f : Int) := by
  have p := Nat.two_pow_pos (pV f)
  obtain ⟨n1, n2, n3, n4, n5, n6⟩ := nm8 hf
  have fe : 0 < (fE f).toNat ∧ (fE f).toNat < oV f := by
    rcases hf with rfl | rfl | rfl | rfl <;> decide +kernel
  obtain ⟨e1, e2, e3, e4⟩ := enc_k hf neg (e := (fE f).toNat) (t := 0) (by omega) p
  have ez : enc7 f neg (fE f).toNat 0 = eOne f neg := rfl
  rw [ez] at e1 e2 e3 e4
  have c : kC f (eOne f neg) = 1 ∨ kC f (eOne f neg) = 6 := by
    obtain ⟨a1, a2, a3, a4, s1, s2, s3, s4, ca⟩ := cls_sg f (eOne f neg)
    omega
  have k := k_parts (f := f) (eOne f neg) (by omega)
  refine ⟨e1, e2, c, ?_, ?_⟩
  · rw [k.2.1, e3, e4]
    unfold sV
    rw [if_neg (by omega)]
    omega
  · rw [k.2.2.1, e3]
    unfold xV
    rw [if_neg (by omega)]
    unfold lx
    omega
theorem kS_blen {f : Int} (hf : Is4 f) (n : Nat) (h : kC f n = 1 ∨ kC f n = 2 ∨ kC f n = 5 ∨ kC f n = 6) : 1 ≤ blen (kS f n) ∧ blen (kS f n) ≤ 113 := by
  obtain ⟨n1, n2, n3, n4, n5, n6⟩ := nm8 hf
  obtain ⟨k1, k2, k3, k4⟩ := k_parts (f := f) n h
  have t := kT_lt (f := f) n
  have l : kS f n < 2 ^ (pV f + 1) := by
    rw [k2, Nat.pow_succ]
    unfold sV
    split <;> omega
  have := (blen_iff (kS f n) (pV f + 1)).2 l
  have := blen_pos _ k4
  have : pV f ≤ 112 := by rcases hf with rfl | rfl | rfl | rfl <;> decide
  omega
end Go.Proofs.YtapikkbifdldfaaGreatDoor
namespace Go.Proofs.YtapikkbifdldfaaGreatDoor
set_option maxRecDepth 100000
set_option maxHeartbeats 40000000
set_option maxRecDepth 100000
open Go.RowKit WMath
set_option linter.unusedSimpArgs false
set_option linter.unusedVariables false
theorem thr_row (x1 y1 x2 y2 x3 y3 : Nat) (T : TypeId) (g : Nat) (w : World) (hg : w.heap.size = g) : (w.alloc (.cells #[.int .u64 (x1 : Nat), .int .u64 (y1 : Nat), .int .u64 (x2 : Nat), .int .u64 (y2 : Nat), .int .u64 (x3 : Nat), .int .u64 (y3 : Nat)] T)).heap[g]? = some (.cells (bls [(x1, y1), (x2, y2), (x3, y3)]) T) := by
  rw [← hg]
  exact heap_alloc_last _ _
theorem thr_lim {x1 y1 x2 y2 x3 y3 : Nat} (hx1 : x1 < 18446744073709551616) (hy1 : y1 < 18446744073709551616) (hx2 : x2 < 18446744073709551616) (hy2 : y2 < 18446744073709551616) (hx3 : x3 < 18446744073709551616) (hy3 : y3 < 18446744073709551616) : Box (∀ p ∈ [(x1, y1), (x2, y2), (x3, y3)], p.1 < 18446744073709551616 ∧ p.2 < 18446744073709551616) := box (fun p hp => by
  rcases List.mem_cons.1 hp with rfl | h
  · exact ⟨hx1, hy1⟩
  · rcases List.mem_cons.1 h with rfl | h
    · exact ⟨hx2, hy2⟩
    · rcases List.mem_cons.1 h with rfl | h
      · exact ⟨hx3, hy3⟩
      · exact absurd h List.not_mem_nil)
theorem kmay3 (f m : Int) (h0 : 0 ≤ f) (h1 : f ≤ 255) (m0 : 0 ≤ m) (x1 y1 a x2 y2 b x3 y3 c : Nat) (hx1 : x1 < 18446744073709551616) (hy1 : y1 < 18446744073709551616) (hx2 : x2 < 18446744073709551616) (hy2 : y2 < 18446744073709551616) (hx3 : x3 < 18446744073709551616) (hy3 : y3 < 18446744073709551616) (ha : y1 + 18446744073709551616 * x1 = a) (hb : y2 + 18446744073709551616 * x2 = b) (hc : y3 + 18446744073709551616 * x3 = c) (o : Bool) (ho : (decide (f ≤ 3 ∧ m ≤ 4) && okB f a && okB f b && okB f c) = o) :
    Box (∀ (T : TypeId) (g : Nat) (w : World), w.heap.size = g → FAt w → Calls Tryz.prog 32 #[.int .u8 f, .int .u8 m, .slice (some ⟨g, 0, none⟩) 3 3] (w.alloc (.cells #[.int .u64 (x1 : Nat), .int .u64 (y1 : Nat), .int .u64 (x2 : Nat), .int .u64 (y2 : Nat), .int .u64 (x3 : Nat), .int .u64 (y3 : Nat)] T)) fun r w' => r = .returned (.bool o) ∧ Below w.heap.size w w') := by
  refine box (fun T g w hg hT => ?_)
  have B := (bal w (.cells #[.int .u64 (x1 : Nat), .int .u64 (y1 : Nat), .int .u64 (x2 : Nat), .int .u64 (y2 : Nat), .int .u64 (x3 : Nat), .int .u64 (y3 : Nat)] T))
  have row := thr_row x1 y1 x2 y2 x3 y3 T g w hg
  have hT2 := fatB hT B
  by_cases cc : f ≤ 3 ∧ m ≤ 4
  · have hf := is4_of h0 cc.1
    obtain ⟨u, v, hv⟩ : ∃ u v, bv7 (eZero f false) = (u, v) := ⟨_, _, rfl⟩
    have KP : Box (∀ w, FAt w → Calls Tryz.prog 37 #[.int .u8 f, .int .u8 m, .agg (rg false 0 0 false)] w fun r w' => r = .returned (.tuple #[.agg #[.int .u64 (u : Nat), .int .u64 (v : Nat)], .int .u8 0, .int .i64 0]) ∧ Below w.heap.size w w') := box (fun w hT => kPack_zero f m hf ⟨m0, cc.2⟩ false 0 (by decide) (by decide) u v hv w hT)
    refine (op_may f m hf [(x1, y1), (x2, y2), (x3, y3)] 3 g 3 T _ rfl (by decide) (thr_lim hx1 hy1 hx2 hy2 hx3 hy3) row u v 0 KP o ?_ hT2).mono fun _ _ ⟨q1, q2⟩ => ⟨q1, btr B q2⟩
    rw [← ho, decide_eq_true cc]
    show (okP f (x1, y1) && (okP f (x2, y2) && (okP f (x3, y3) && true))) = _
    unfold okP
    rw [ha, hb, hc, Bool.and_true, Bool.true_and, Bool.and_assoc]
  · have e : o = false := by rw [← ho, decide_eq_false cc]; rfl
    subst e
    exact (op_may_no f m 0 0 0 2 _ rfl _ (box (fun w hT => kPack_no f m h0 h1 false 0 Q_pos 0 false (fun q => cc ⟨q.1, q.2.1⟩) w hT)) hT2).mono fun _ _ ⟨q1, q2⟩ => ⟨q1, btr B q2⟩
end Go.Proofs.YtapikkbifdldfaaGreatDoor
namespace Go.Proofs.YtapikkbifdldfaaGreatDoor
set_option maxRecDepth 100000
set_option maxHeartbeats 40000000
set_option maxRecDepth 100000
open Go.RowKit WMath XMath
set_option linter.unusedSimpArgs false
set_option linter.unusedVariables false
theorem x_odd2 {f : Int} (hf : Is4 f) (b : Bool) (n : Nat) (e : Int) (ho : n % 2 = 1) (hl : blen n ≤ 60000) (h1 : -1200000 ≤ e) (h2 : e ≤ 1200000) :
    xW f ⟨b, n, 1, e⟩ = qW (pV f + 1) n ∧ xM f ⟨b, n, 1, e⟩ = qM (pV f + 1) n false := by
  have n0 : n ≠ 0 := by omega
  obtain ⟨n1, n2, n3, n4, n5, n6⟩ := nm8 hf
  have hp := fp8 hf
  have tw := top_whole b n e n0
  obtain ⟨l1, l2, l3⟩ := blen_low n n0
  unfold xW xM qW qM
  obtain ⟨a, hA⟩ : ∃ a, topX ⟨b, n, 1, e⟩ - fP f = a := ⟨_, rfl⟩
  rw [hA]
  by_cases c : a ≤ e
  · have sh := blen_shift n (e - a).toNat n0
    have := fl_yes ⟨b, n, 1, e⟩ a n0 rfl c (by omega) (by omega) (by
      show nl (n * 2 ^ (e - a).toNat) ≤ 16384
      unfold nl
      omega)
    rw [this]
    simp only
    by_cases c2 : pV f + 1 + 1 ≤ blen n
    · have : blen n = pV f + 1 + 1 := by omega
      have z : (e - a).toNat = 0 := by omega
      rw [if_pos c2, if_pos c2, this, Nat.sub_self, z, Nat.pow_zero, Nat.div_one, Nat.mul_one, Nat.mod_one]
      exact ⟨rfl, rfl⟩
    · rw [if_neg c2, if_neg c2, show (e - a).toNat = pV f + 1 + 1 - blen n by omega]
      exact ⟨rfl, rfl⟩
  · have z : flX ⟨b, n, 1, e⟩ a = ((n / (1 * 2 ^ (a - e).toNat), false), 0) := by
      unfold flX
      rw [if_neg (by omega), if_neg n0, if_neg c, if_neg (by omega)]
    rw [z, Nat.one_mul, if_pos (by omega), if_pos (by omega), show (a - e).toNat = blen n - (pV f + 1 + 1) by omega]
    refine ⟨rfl, ?_⟩
    have : n % 2 ^ (blen n - (pV f + 1 + 1)) ≠ 0 := by
      obtain ⟨i, hi⟩ : ∃ i, blen n - (pV f + 1 + 1) = i + 1 := ⟨blen n - (pV f + 1 + 1) - 1, by omega⟩
      rw [hi]
      intro q
      have := (mod_pow_zero n 1 i).1 (by rw [Nat.add_comm]; exact q)
      omega
    rw [decide_eq_true this]
    rfl
theorem x_whole2 {f : Int} (hf : Is4 f) (b : Bool) (N : Nat) (e : Int) (n0 : N ≠ 0) (hl : blen N ≤ 60000) (h1 : -900000 ≤ e) (h2 : e ≤ 900000) :
    mk b N 1 e = (⟨b, od N, 1, e + (tz N : Int)⟩, 0) ∧ (XN.mk b (od N) 1 (e + (tz N : Int))).can ∧ od N ≠ 0 ∧ nl (od N) ≤ 8192 ∧ topX ⟨b, od N, 1, e + (tz N : Int)⟩ = e + (blen N : Int) - 1 ∧ xW f ⟨b, od N, 1, e + (tz N : Int)⟩ = qW (pV f + 1) N ∧ xM f ⟨b, od N, 1, e + (tz N : Int)⟩ = qM (pV f + 1) N false := by
  obtain ⟨o1, o2⟩ := od_is N n0
  have od0 : od N ≠ 0 := by omega
  have tl := tz_blen N
  have bs := blen_shift (od N) (tz N) od0
  rw [← o1] at bs
  have m := mk_whole b N e n0 (by omega) (by omega)
  have lo : nl (od N) ≤ 8192 := by unfold nl; omega
  have lN : nl N ≤ 16384 := by unfold nl; omega
  obtain ⟨x1, x2⟩ := x_odd2 hf b (od N) (e + (tz N : Int)) o2 (by omega) (by omega) (by omega)
  have ql := q_longer (pV f + 1) (od N) (tz N) od0
  rw [← o1] at ql
  refine ⟨m, ?_, od0, lo, ?_, by rw [x1, ql.1], by rw [x2, ql.2]⟩
  · have := mk_can b N 1 e lN nl_1 (by decide) (by rw [m])
    rw [m] at this
    exact this
  · rw [top_whole b (od N) _ od0]
    omega
theorem addX_is2 (X Y Z : XN) (hx : X.can) (hy : Y.can) (hz : Z.can) (bx : Bd X 256 40400) (bz : Bd Y 256 40400) (hv : X.val + Y.val = Z.val) : addX X Y = (Z, 0) := by
  have h1 := add_ok X Y 256 256 40400 40400 81313 162113 hx hy bx bz rfl rfl (by decide) (by decide)
  have h2 := add_good X Y hx hy h1.1
  have h3 := can_inj _ Z h2.1 hz (by rw [h2.2, hv])
  exact Prod.ext h3 h1.1
theorem bd_whole2 (b : Bool) (A : Nat) (x : Int) (A0 : A ≠ 0) (hA : A < 2 ^ 256) (x1 : -40000 ≤ x) (x2 : x ≤ 40000) : Bd ⟨b, od A, 1, x + (tz A : Int)⟩ 256 40400 := by
  have tA := tz_blen A
  have bA := (blen_iff A 256).2 hA
  obtain ⟨o1, o2⟩ := od_is A A0
  have le : od A ≤ A := by
    have p := Nat.two_pow_pos (tz A)
    have := Nat.mul_le_mul_left (od A) p
    rw [Nat.mul_one] at this
    omega
  exact ⟨Nat.lt_of_le_of_lt le hA, by show 1 < 2 ^ 256; decide, by show -((40400 : Nat) : Int) ≤ x + (tz A : Int); omega, by show x + (tz A : Int) ≤ ((40400 : Nat) : Int); omega⟩
theorem mul_form (a b : Bool) (A B : Nat) (x y : Int) (A0 : A ≠ 0) (B0 : B ≠ 0) (hA : A < 2 ^ 128) (hB : B < 2 ^ 128) (x1 : -20000 ≤ x) (x2 : x ≤ 20000) (y1 : -20000 ≤ y) (y2 : y ≤ 20000) :
    mulX ⟨a, od A, 1, x + (tz A : Int)⟩ ⟨b, od B, 1, y + (tz B : Int)⟩ = (⟨a != b, od (A * B), 1, x + y + (tz (A * B) : Int)⟩, 0) := by
  have hf : Is4 0 := Or.inl rfl
  obtain ⟨n, e, p1, p2, p3, p4, p5⟩ := mul_num hf 0 a b A B x y A0 B0 hA hB x1 x2 y1 y2
  obtain ⟨q1, q2⟩ := blen_prod A B hA hB
  have N0 : A * B ≠ 0 := mul_ne A0 B0
  have bA := (blen_iff A 128).2 hA
  have bB := (blen_iff B 128).2 hB
  obtain ⟨u1, u2, u3, u4, u5, u6, u7⟩ := x_whole hf a A x A0 (by omega) (by omega) (by omega)
  obtain ⟨v1, v2, v3, v4, v5, v6, v7⟩ := x_whole hf b B y B0 (by omega) (by omega) (by omega)
  obtain ⟨w1, w2, w3, w4, w5, w6, w7⟩ := x_whole hf (a != b) (A * B) (x + y) N0 (by omega) (by omega) (by omega)
  have g := mul_good _ _ u2 v2 (by rw [p1])
  have uv := mk_val a A 1 x (by decide) (by rw [u1])
  have vv := mk_val b B 1 y (by decide) (by rw [v1])
  have wv := mk_val (a != b) (A * B) 1 (x + y) (by decide) (by rw [w1])
  rw [u1] at uv
  rw [v1] at vv
  rw [w1] at wv
  refine Prod.ext (can_inj _ _ g.1 w2 ?_) (by rw [p1])
  rw [g.2, uv, vv, wv, sgn_bne, p2add, Rat.natCast_mul]
  have one : ∀ z : Rat, z / ((1 : Nat) : Rat) = z := fun z => by
    rw [show ((1 : Nat) : Rat) = 1 from rfl, Rat.div_def, show (1 : Rat)⁻¹ = 1 by decide +kernel, Rat.mul_one]
  rw [one, one, one]
  grind
def jb (s r : Nat) : Nat := if r = 0 then s else s / 2 * 2 + 1
theorem ex_jam (P s n r : Nat) (s0 : s ≠ 0) (hr : r < 2 ^ n) (h : r ≠ 0 → P + 2 ≤ blen s) : blen (jb s r) + n = blen (s * 2 ^ n + r) ∧ qW P (jb s r) = qW P (s * 2 ^ n + r) ∧ qM P (jb s r) false = qM P (s * 2 ^ n + r) false := by
  have b1 := blen_more s n r s0 hr
  have q1 := q_more P s n r s0 hr (fun q => by have := h q; omega)
  unfold jb
  by_cases z : r = 0
  · rw [if_pos z]
    rw [decide_eq_false (by omega)] at q1
    exact ⟨by omega, q1.1.symm, q1.2.symm⟩
  · rw [if_neg z]
    rw [decide_eq_true z] at q1
    obtain ⟨j1, j2, j3, j4⟩ := q_jam P s (h z)
    exact ⟨by omega, by rw [j2, q1.1], by rw [j3, q1.2, j4]⟩
theorem jam_add (G L n : Nat) (hG : G % 2 = 0) : G + jr L n = jb (G + L / 2 ^ n) (L % 2 ^ n) ∧ (G + L / 2 ^ n) * 2 ^ n + L % 2 ^ n = G * 2 ^ n + L := by
  have dm := Nat.div_add_mod L (2 ^ n)
  refine ⟨?_, by rw [Nat.add_mul, Nat.mul_comm (L / 2 ^ n)]; omega⟩
  unfold jr jb
  by_cases z : L % 2 ^ n = 0
  · rw [if_pos z, if_pos z]
  · rw [if_neg z, if_neg z, jor1]
    omega
theorem jam_sub (G L n : Nat) (hG : G % 2 = 0) (hle : L ≤ G * 2 ^ n) : ∃ s r, r < 2 ^ n ∧ (r = 0 ↔ L % 2 ^ n = 0) ∧ G - jr L n = jb s r ∧ s * 2 ^ n + r = G * 2 ^ n - L ∧ s = (if L % 2 ^ n = 0 then G - L / 2 ^ n else G - L / 2 ^ n - 1) := by
  have dm := Nat.div_add_mod L (2 ^ n)
  have p := Nat.two_pow_pos n
  have lt := Nat.mod_lt L p
  have gl : L / 2 ^ n ≤ G := by
    have := Nat.div_le_div_right (c := 2 ^ n) hle
    rwa [Nat.mul_div_cancel _ p] at this
  obtain ⟨q, hq⟩ : ∃ q, L / 2 ^ n = q := ⟨_, rfl⟩
  obtain ⟨r, hr⟩ : ∃ r, L % 2 ^ n = r := ⟨_, rfl⟩
  rw [hq, hr, Nat.mul_comm] at dm
  rw [hq] at gl
  rw [hr] at lt
  unfold jr
  rw [hq, hr]
  obtain ⟨k, hk⟩ : ∃ k, G = q + k := ⟨G - q, by omega⟩
  have e : G * 2 ^ n = q * 2 ^ n + k * 2 ^ n := by rw [hk, Nat.add_mul]
  by_cases z : r = 0
  · refine ⟨G - q, 0, p, ⟨fun _ => z, fun _ => rfl⟩, ?_, ?_, ?_⟩
    · rw [if_pos z]
      unfold jb
      rw [if_pos rfl]
    · rw [show G - q = k by omega]
      omega
    · rw [if_pos z]
  · have k0 : k ≠ 0 := fun h => by
      rw [h, Nat.zero_mul] at e
      omega
    obtain ⟨i, hi⟩ : ∃ i, k = i + 1 := ⟨k - 1, by omega⟩
    rw [hi, Nat.add_mul, Nat.one_mul] at e
    refine ⟨G - q - 1, 2 ^ n - r, by omega, ⟨fun h => by omega, fun h => absurd h z⟩, ?_, ?_, ?_⟩
    · rw [if_neg z, jor1]
      unfold jb
      rw [if_neg (by omega)]
      omega
    · rw [show G - q - 1 = i by omega]
      omega
    · rw [if_neg z]
theorem kX_lim2 {f : Int} (hf : Is4 f) (n : Nat) : -16500 ≤ kX f n ∧ kX f n ≤ 16300 := by
  have e := kE_le (f := f) n
  have l : -16499 ≤ lx f ∧ lx f + (oV f : Int) ≤ 16300 := by rcases hf with rfl | rfl | rfl | rfl <;> decide
  unfold kX
  split
  · omega
  split
  · omega
  · omega
theorem one_div (z : Rat) : z / ((1 : Nat) : Rat) = z := by
  rw [show ((1 : Nat) : Rat) = 1 from rfl, Rat.div_def, show (1 : Rat)⁻¹ = 1 by decide +kernel, Rat.mul_one]
theorem bd_null (p E : Nat) (hp : 1 ≤ p) : Bd X0 p E := by
  have h2 := Nat.pow_le_pow_right (show 0 < 2 by decide) hp
  exact ⟨by show 0 < 2 ^ p; omega, by show 1 < 2 ^ p; omega, by show -(E : Int) ≤ 0; omega, by show (0 : Int) ≤ E; omega⟩
theorem null_val : (X0).val = 0 := by
  show sgn false * (((0 : Nat) : Rat) / ((1 : Nat) : Rat)) * (2 : Rat) ^ (0 : Int) = 0
  rw [one_div, show ((0 : Nat) : Rat) = 0 from rfl, Rat.mul_zero, Rat.zero_mul]
theorem fin_val {f : Int} (hf : Is4 f) (n : Nat) (h : 0 < kC f n ∧ kC f n < 7) : (vX f n).can ∧ (vX f n).val = sgn (kN f n) * ((kS f n : Nat) : Rat) * (2 : Rat) ^ (kX f n) ∧ Bd (vX f n) 256 40400 := by
  have m := vX_mk hf n h
  have v := mk_val (kN f n) (kS f n) 1 (kX f n) (by decide) (by rw [m])
  rw [m, one_div] at v
  refine ⟨vX_can hf n h, v, ?_⟩
  obtain ⟨l1, l2, l3⟩ := kS_lim hf n
  by_cases z : kC f n = 3 ∨ kC f n = 4
  · rw [vX_null f n z]
    exact bd_null _ _ (by decide)
  · obtain ⟨w1, w2, w3, w4⟩ := vX_whole hf n h z
    rw [w3]
    exact bd_whole2 _ _ _ w1 (Nat.lt_of_lt_of_le w2 (Nat.pow_le_pow_right (by decide) (by decide))) (by omega) (by omega)
theorem prod_val {f : Int} (hf : Is4 f) (a b : Nat) (ha : 0 < kC f a ∧ kC f a < 7) (hb : 0 < kC f b ∧ kC f b < 7) :
    ∃ P : XN, mulX (vX f a) (vX f b) = (P, 0) ∧ P.can ∧ P.val = sgn (kN f a != kN f b) * ((kS f a * kS f b : Nat) : Rat) * (2 : Rat) ^ (kX f a + kX f b) ∧ Bd P 256 40400 := by
  obtain ⟨a1, a2, a3⟩ := fin_val hf a ha
  obtain ⟨b1, b2, b3⟩ := fin_val hf b hb
  have hv : (vX f a).val * (vX f b).val = sgn (kN f a != kN f b) * ((kS f a * kS f b : Nat) : Rat) * (2 : Rat) ^ (kX f a + kX f b) := by
    rw [a2, b2, sgn_bne, p2add, Rat.natCast_mul]
    grind
  have key : ∀ P : XN, mulX (vX f a) (vX f b) = (P, 0) → Bd P 256 40400 → ∃ P : XN, mulX (vX f a) (vX f b) = (P, 0) ∧ P.can ∧ P.val = sgn (kN f a != kN f b) * ((kS f a * kS f b : Nat) : Rat) * (2 : Rat) ^ (kX f a + kX f b) ∧ Bd P 256 40400 := fun P h k => by
    have g := mul_good _ _ a1 b1 (by rw [h])
    rw [h] at g
    exact ⟨P, h, g.1, g.2.trans hv, k⟩
  by_cases z : (kC f a = 3 ∨ kC f a = 4) ∨ (kC f b = 3 ∨ kC f b = 4)
  · refine key X0 ?_ (bd_null _ _ (by decide))
    unfold mulX
    rw [if_pos]
    rcases z with z | z
    · rw [vX_null f a z]
      exact Or.inl rfl
    · rw [vX_null f b z]
      exact Or.inr rfl
  · obtain ⟨u1, u2, u3, u4⟩ := vX_whole hf a ha (fun q => z (Or.inl q))
    obtain ⟨v1, v2, v3, v4⟩ := vX_whole hf b hb (fun q => z (Or.inr q))
    obtain ⟨l1, l2, l3⟩ := kS_lim hf a
    obtain ⟨k1, k2, k3⟩ := kS_lim hf b
    have mf := mul_form (kN f a) (kN f b) (kS f a) (kS f b) (kX f a) (kX f b) u1 v1 u2 v2 l2 l3 k2 k3
    rw [← u3, ← v3] at mf
    exact key _ mf (bd_whole2 _ _ _ (mul_ne u1 v1) (blen_prod _ _ u2 v2).1 (by omega) (by omega))
def sI (b : Bool) : Int := if b then -1 else 1
def fmE (f : Int) (a b c : Nat) : Int := min (kX f a + kX f b) (kX f c)
def fmI (f : Int) (a b c : Nat) : Int := sI (kN f a != kN f b) * ((kS f a * kS f b * 2 ^ (kX f a + kX f b - fmE f a b c).toNat : Nat) : Int) + sI (kN f c) * ((kS f c * 2 ^ (kX f c - fmE f a b c).toNat : Nat) : Int)
def fmD (f m I E : Int) : Nat × Int := if I = 0 then (eZero f (decide (m = 2)), 0) else dlv f m (decide (I < 0)) (E + (blen I.natAbs : Int) - 1) (qW (pV f + 1) I.natAbs) (qM (pV f + 1) I.natAbs false)
def fmaR (f m : Int) (a b c : Nat) : Nat × Int :=
  if (kC f a = 0 ∨ kC f a = 7 ∨ kC f b = 0 ∨ kC f b = 7) ∧ (kC f a = 3 ∨ kC f a = 4 ∨ kC f b = 3 ∨ kC f b = 4) then (eNaN f, 16)
  else if kC f a = 8 ∨ kC f b = 8 ∨ kC f c = 8 then (eNaN f, 16)
  else if kC f a = 9 ∨ kC f b = 9 ∨ kC f c = 9 then (eNaN f, 0)
  else if kC f a = 0 ∨ kC f a = 7 ∨ kC f b = 0 ∨ kC f b = 7 then (if (kC f c = 0 ∨ kC f c = 7) ∧ kN f c ≠ (kN f a != kN f b) then (eNaN f, 16) else (eInf f (kN f a != kN f b), 0))
  else if kC f c = 0 ∨ kC f c = 7 then (c, 0)
  else if (kC f a = 3 ∨ kC f a = 4 ∨ kC f b = 3 ∨ kC f b = 4) ∧ (kC f c = 3 ∨ kC f c = 4) then (if kN f c = (kN f a != kN f b) then (c, 0) else (eZero f (decide (m = 2)), 0))
  else fmD f m (fmI f a b c) (fmE f a b c)
theorem sI_rat (b : Bool) (n : Nat) : ((sI b * (n : Int) : Int) : Rat) = sgn b * (n : Rat) := by
  cases b
  · show (((1 : Int) * (n : Int) : Int) : Rat) = 1 * (n : Rat)
    rw [Int.one_mul, Rat.one_mul]
    rfl
  · show (((-1 : Int) * (n : Int) : Int) : Rat) = -1 * (n : Rat)
    rw [Rat.intCast_mul]
    rfl
theorem abs_rat (I : Int) : sgn (decide (I < 0)) * ((I.natAbs : Nat) : Rat) = (I : Rat) := by
  rw [← sI_rat]
  congr 1
  unfold sI
  by_cases h : I < 0
  · rw [decide_eq_true h]
    simp only [if_true]
    omega
  · rw [decide_eq_false h]
    simp only [Bool.false_eq_true, if_false]
    omega
theorem fmI_rat (f : Int) (a b c : Nat) : ((fmI f a b c : Int) : Rat) * (2 : Rat) ^ (fmE f a b c) = sgn (kN f a != kN f b) * ((kS f a * kS f b : Nat) : Rat) * (2 : Rat) ^ (kX f a + kX f b) + sgn (kN f c) * ((kS f c : Nat) : Rat) * (2 : Rat) ^ (kX f c) := by
  obtain ⟨E, hE⟩ : ∃ E, fmE f a b c = E := ⟨_, rfl⟩
  have e1 : kX f a + kX f b = E + (((kX f a + kX f b - E).toNat : Nat) : Int) := by unfold fmE at hE; omega
  have e2 : kX f c = E + (((kX f c - E).toNat : Nat) : Int) := by unfold fmE at hE; omega
  unfold fmI
  rw [hE, Rat.intCast_add, sI_rat, sI_rat, Rat.mul_assoc (sgn (kN f a != kN f b)), Rat.mul_assoc (sgn (kN f c))]
  have u1 := up1 E (kX f a + kX f b - E).toNat (kS f a * kS f b)
  have u2 := up1 E (kX f c - E).toNat (kS f c)
  rw [← e1] at u1
  rw [← e2] at u2
  rw [u1, u2]
  grind
theorem fmI_len {f : Int} (hf : Is4 f) (a b c : Nat) : blen (fmI f a b c).natAbs ≤ 60000 ∧ -40000 ≤ fmE f a b c ∧ fmE f a b c ≤ 40000 := by
  obtain ⟨a1, a2, a3⟩ := kS_lim hf a
  obtain ⟨b1, b2, b3⟩ := kS_lim hf b
  obtain ⟨c1, c2, c3⟩ := kS_lim hf c
  obtain ⟨p1, p2⟩ := kX_lim2 hf a
  obtain ⟨q1, q2⟩ := kX_lim2 hf b
  obtain ⟨r1, r2⟩ := kX_lim2 hf c
  have hE : (fmE f a b c = kX f a + kX f b ∨ fmE f a b c = kX f c) ∧ fmE f a b c ≤ kX f a + kX f b ∧ fmE f a b c ≤ kX f c := by unfold fmE; omega
  refine ⟨?_, by omega, by omega⟩
  obtain ⟨n1, h1⟩ : ∃ n, (kX f a + kX f b - fmE f a b c).toNat = n := ⟨_, rfl⟩
  obtain ⟨n2, h2⟩ : ∃ n, (kX f c - fmE f a b c).toNat = n := ⟨_, rfl⟩
  have l1 : n1 ≤ 59000 := by omega
  have l2 : n2 ≤ 59000 := by omega
  have pr := (blen_prod (kS f a) (kS f b) a1 b1).1
  obtain ⟨K, hK⟩ : ∃ K : Nat, K = 59257 := ⟨_, rfl⟩
  have t1 : kS f a * kS f b * 2 ^ n1 < 2 ^ K := Nat.lt_of_lt_of_le (mul_pow_lt _ _ 256 (n1 + 1) pr (Nat.pow_lt_pow_right (by decide) (Nat.lt_succ_self _))) (Nat.pow_le_pow_right (by decide) (by omega))
  have t2 : kS f c * 2 ^ n2 < 2 ^ K := Nat.lt_of_lt_of_le (mul_pow_lt _ _ 128 (n2 + 1) c1 (Nat.pow_lt_pow_right (by decide) (Nat.lt_succ_self _))) (Nat.pow_le_pow_right (by decide) (by omega))
  have hI : (fmI f a b c).natAbs ≤ kS f a * kS f b * 2 ^ n1 + kS f c * 2 ^ n2 := by
    unfold fmI
    rw [h1, h2]
    generalize kS f a * kS f b * 2 ^ n1 = X
    generalize kS f c * 2 ^ n2 = Y
    unfold sI
    split <;> split <;> omega
  have := blen_le_of (fmI f a b c).natAbs (K + 1) (by
    rw [Nat.pow_succ]
    omega)
  omega
theorem fm_doc {f : Int} (hf : Is4 f) (m : Int) (a b c : Nat) (ha : 0 < kC f a ∧ kC f a < 7) (hb : 0 < kC f b ∧ kC f b < 7) (hc : 0 < kC f c ∧ kC f c < 7) :
    ∃ (P : XN) (zb : Bool) (zn : Nat) (ze : Int), mulX (vX f a) (vX f b) = (P, 0) ∧ P.can ∧ P.val = (vX f a).val * (vX f b).val ∧ addX P (vX f c) = (⟨zb, zn, 1, ze⟩, 0) ∧ (XN.mk zb zn 1 ze).can ∧ nl zn ≤ 8192 ∧
      ((zn = 0 ∧ zb = false ∧ ze = 0 ∧ fmI f a b c = 0) ∨ (zn ≠ 0 ∧ fmI f a b c ≠ 0 ∧ rnd f m ⟨zb, zn, 1, ze⟩ = fmD f m (fmI f a b c) (fmE f a b c))) := by
  obtain ⟨P, p1, p2, p3, p4⟩ := prod_val hf a b ha hb
  obtain ⟨c1, c2, c3⟩ := fin_val hf c hc
  obtain ⟨l1, l2, l3⟩ := fmI_len hf a b c
  have r := fmI_rat f a b c
  rw [← p3, ← c2] at r
  have pv := (mul_good _ _ (fin_val hf a ha).1 (fin_val hf b hb).1 (by rw [p1])).2
  rw [p1] at pv
  by_cases i0 : fmI f a b c = 0
  · refine ⟨P, false, 0, 0, p1, p2, pv, addX_is2 P (vX f c) X0 p2 c1 x0_can p4 c3 ?_, x0_can, Nat.le_trans (Nat.le_of_eq nl_zero) (by decide), Or.inl ⟨rfl, rfl, rfl, i0⟩⟩
    rw [← r, i0, null_val]
    exact Rat.zero_mul _
  · have N0 : (fmI f a b c).natAbs ≠ 0 := by omega
    obtain ⟨w1, w2, w3, w4, w5, w6, w7⟩ := x_whole2 hf (decide (fmI f a b c < 0)) (fmI f a b c).natAbs (fmE f a b c) N0 l1 (by omega) (by omega)
    have wv := mk_val (decide (fmI f a b c < 0)) (fmI f a b c).natAbs 1 (fmE f a b c) (by decide) (by rw [w1])
    rw [w1, one_div, abs_rat, r] at wv
    refine ⟨P, _, _, _, p1, p2, pv, addX_is2 P (vX f c) _ p2 c1 w2 p4 c3 wv.symm, w2, w4, Or.inr ⟨w3, i0, ?_⟩⟩
    unfold rnd fmD
    rw [if_neg w3, if_neg i0, w5, w6, w7]
theorem bne_turn (x y : Bool) : (x != y) = (y != x) := by cases x <;> cases y <;> rfl
theorem fmaR_turn (f m : Int) (a b c : Nat) : fmaR f m a b c = fmaR f m b a c := by
  have e1 : fmE f a b c = fmE f b a c := by unfold fmE; rw [Int.add_comm]
  have e2 : fmI f a b c = fmI f b a c := by unfold fmI; rw [e1, Int.add_comm (kX f a), Nat.mul_comm (kS f a), bne_turn (kN f a)]
  have q1 : (kC f a = 0 ∨ kC f a = 7 ∨ kC f b = 0 ∨ kC f b = 7) = (kC f b = 0 ∨ kC f b = 7 ∨ kC f a = 0 ∨ kC f a = 7) := propext ⟨fun h => by omega, fun h => by omega⟩
  have q2 : (kC f a = 3 ∨ kC f a = 4 ∨ kC f b = 3 ∨ kC f b = 4) = (kC f b = 3 ∨ kC f b = 4 ∨ kC f a = 3 ∨ kC f a = 4) := propext ⟨fun h => by omega, fun h => by omega⟩
  have q3 : (kC f a = 8 ∨ kC f b = 8 ∨ kC f c = 8) = (kC f b = 8 ∨ kC f a = 8 ∨ kC f c = 8) := propext ⟨fun h => by omega, fun h => by omega⟩
  have q4 : (kC f a = 9 ∨ kC f b = 9 ∨ kC f c = 9) = (kC f b = 9 ∨ kC f a = 9 ∨ kC f c = 9) := propext ⟨fun h => by omega, fun h => by omega⟩
  unfold fmaR
  simp only [q1, q2, q3, q4, e1, e2, bne_turn (kN f a)]
theorem sI_sign (s : Bool) (N : Nat) (N0 : N ≠ 0) : decide (sI s * (N : Int) < 0) = s ∧ (sI s * (N : Int)).natAbs = N ∧ sI s * (N : Int) ≠ 0 := by
  unfold sI
  cases s
  · simp only [Bool.false_eq_true, if_false]
    exact ⟨decide_eq_false (by omega), by omega, by omega⟩
  · simp only [if_true]
    exact ⟨decide_eq_true (by omega), by omega, by omega⟩
theorem fmD_long (f m : Int) (s : Bool) (N k : Nat) (E x : Int) (N0 : N ≠ 0) (hx : x = E + (k : Int)) : fmD f m (sI s * ((N * 2 ^ k : Nat) : Int)) E = dlv f m s (x + (blen N : Int) - 1) (qW (pV f + 1) N) (qM (pV f + 1) N false) := by
  have p := Nat.two_pow_pos k
  obtain ⟨t1, t2, t3⟩ := sI_sign s (N * 2 ^ k) (Nat.mul_ne_zero N0 (by omega))
  obtain ⟨q1, q2⟩ := q_longer (pV f + 1) N k N0
  unfold fmD
  rw [if_neg t3, t1, t2, q1, q2, blen_shift N k N0]
  congr 1
  omega
theorem fmaR_zero {f : Int} (hf : Is4 f) (m : Int) (a b : Nat) : fmaR f m a b (eZero f (kN f a != kN f b)) = mulR f m a b := by
  obtain ⟨s, hs⟩ : ∃ s, (kN f a != kN f b) = s := ⟨_, rfl⟩
  have p := Nat.two_pow_pos (pV f)
  have n2 := (nm8 hf).2.1
  obtain ⟨z1, z2, z3, z4⟩ := enc_k hf s (Nat.zero_le (oV f)) p
  have zc : kC f (eZero f s) = 3 ∨ kC f (eZero f s) = 4 := by
    unfold kC eZero
    rw [z2, z3, z4, if_neg (by omega), if_neg (by decide), if_neg (by decide)]
    cases s
    · exact Or.inr rfl
    · exact Or.inl rfl
  have zn : kN f (eZero f s) = s := z2
  obtain ⟨zs, zx⟩ := k_null (f := f) (eZero f s) zc
  have la := kC_lt f a
  have lb := kC_lt f b
  unfold fmaR mulR
  rw [hs, zn]
  by_cases c1 : (kC f a = 0 ∨ kC f a = 7 ∨ kC f b = 0 ∨ kC f b = 7) ∧ (kC f a = 3 ∨ kC f a = 4 ∨ kC f b = 3 ∨ kC f b = 4)
  · rw [if_pos c1, if_neg (by omega), if_neg (by omega), if_pos (by omega)]
  rw [if_neg c1]
  by_cases c2 : kC f a = 8 ∨ kC f b = 8
  · rw [if_pos (by omega), if_pos c2]
  rw [if_neg (by omega), if_neg c2]
  by_cases c3 : kC f a = 9 ∨ kC f b = 9
  · rw [if_pos (by omega), if_pos c3]
  rw [if_neg (by omega), if_neg c3]
  by_cases c4 : kC f a = 0 ∨ kC f a = 7 ∨ kC f b = 0 ∨ kC f b = 7
  · rw [if_pos c4, if_neg (by omega), if_neg (by omega), if_pos (by omega)]
  have r3 : ¬ (((kC f a = 0 ∨ kC f a = 7) ∧ (kC f b = 3 ∨ kC f b = 4)) ∨ ((kC f b = 0 ∨ kC f b = 7) ∧ (kC f a = 3 ∨ kC f a = 4))) := by omega
  have r4 : ¬ ((kC f a = 0 ∨ kC f a = 7) ∨ (kC f b = 0 ∨ kC f b = 7)) := by omega
  rw [if_neg c4, if_neg (show ¬ (kC f (eZero f s) = 0 ∨ kC f (eZero f s) = 7) by omega), if_neg r3, if_neg r4]
  by_cases c5 : kC f a = 3 ∨ kC f a = 4 ∨ kC f b = 3 ∨ kC f b = 4
  · rw [if_pos ⟨c5, zc⟩, if_pos rfl, if_pos (by omega)]
  rw [if_neg (fun q => c5 q.1), if_neg (by omega)]
  have ka := (k_parts (f := f) a (by omega)).2.2.2
  have kb := (k_parts (f := f) b (by omega)).2.2.2
  have eI : fmI f a b (eZero f s) = sI s * ((kS f a * kS f b * 2 ^ (kX f a + kX f b - fmE f a b (eZero f s)).toNat : Nat) : Int) := by
    unfold fmI
    rw [zs, hs, Nat.zero_mul]
    show _ + sI _ * 0 = _
    rw [Int.mul_zero, Int.add_zero]
  rw [eI, fmD_long f m s (kS f a * kS f b) _ _ (kX f a + kX f b) (mul_ne ka kb) (by unfold fmE; omega)]
theorem fmaR_one {f : Int} (hf : Is4 f) (m : Int) (a c : Nat) (fa : Fit f a) (fc : Fit f c) : fmaR f m a (eOne f false) c = addR f m a c := by
  obtain ⟨o1, o2, o3, o4, o5⟩ := one_parts hf false
  have la := kC_lt f a
  have lc := kC_lt f c
  have o3 : kC f (eOne f false) = 6 := by
    rcases o3 with q | q
    · have := kC_sign (f := f) (eOne f false) (by omega)
      rw [q, o2] at this
      exact absurd this (by decide)
    · exact q
  have nb : (kN f a != kN f (eOne f false)) = kN f a := by rw [o2]; cases kN f a <;> rfl
  unfold fmaR
  rw [nb, if_neg (by omega)]
  by_cases n8 : 8 ≤ kC f a ∨ 8 ≤ kC f c
  · rw [addR_nan f m a c n8]
    by_cases c8 : kC f a = 8 ∨ kC f c = 8
    · rw [if_pos (by omega), if_pos c8]
    · rw [if_neg (by omega), if_neg c8, if_pos (by omega)]
  rw [if_neg (by omega), if_neg (by omega)]
  by_cases ia : kC f a = 0 ∨ kC f a = 7
  · rw [if_pos (by omega)]
    have ea : eInf f (kN f a) = a := by
      have ke := k_enc hf fa
      obtain ⟨a1, a2, a3, a4, s1, s2, s3, s4, ca⟩ := cls_sg f a
      have e : kE f a = oV f ∧ kT f a = 0 := by omega
      rw [e.1, e.2] at ke
      exact ke
    by_cases ic : kC f c = 0 ∨ kC f c = 7
    · have s1 := (kM_inf f a ia).2
      have s2 := (kM_inf f c ic).2
      rw [addR_inf2 f m a c ia ic]
      by_cases e : kC f a = kC f c
      · rw [if_neg (fun q => q.2 (by rw [s1, s2, e])), if_neg (fun q => q e), ea]
      · rw [if_pos ⟨ic, fun q => e (by
          rw [s1, s2] at q
          rcases ia with i | i <;> rcases ic with j | j <;> rw [i, j] at q ⊢ <;> first | rfl | (exact absurd q (by decide)))⟩, if_pos e]
    · rw [if_neg (fun q => ic q.1), (addR_inf f m a c ia (by omega)).1, ea]
  rw [if_neg (by omega)]
  by_cases ic : kC f c = 0 ∨ kC f c = 7
  · rw [if_pos ic, (addR_inf f m c a ic (by omega)).2]
  rw [if_neg ic]
  by_cases zz : (kC f a = 3 ∨ kC f a = 4) ∧ (kC f c = 3 ∨ kC f c = 4)
  · rw [if_pos (by omega), addR_zeros f m a c zz.1 zz.2]
    by_cases e : kN f a = kN f c
    · rw [if_pos e.symm, if_pos e, e]
      have za := kM_zero f c zz.2
      have := k_enc hf fc
      rw [za.2.1, za.2.2] at this
      exact Prod.ext this.symm rfl
    · rw [if_neg (fun q => e q.symm), if_neg e]
  rw [if_neg (by omega)]
  obtain ⟨P, zb, zn, ze, p1, p2, p3, p4, p5, p6, p7⟩ := fm_doc hf m a (eOne f false) c (by omega) (by omega) (by omega)
  have va := (fin_val hf a (by omega)).1
  have vo := (fin_val hf (eOne f false) (by omega)).2.1
  have one : (vX f (eOne f false)).val = 1 := by
    rw [vo, o2, o4, o5]
    show (1 : Rat) * _ * _ = 1
    rw [Rat.one_mul, ← p2nat, ← p2add, Int.add_right_neg]
    exact Rat.zpow_zero _
  rw [one, Rat.mul_one] at p3
  have eP : P = vX f a := can_inj _ _ p2 va p3
  rw [eP] at p4
  obtain ⟨yb, yn, ye, q1, q2, q3, q4⟩ := add_fin hf m a c (by omega) (by omega) zz
  rw [q1] at p4
  injection p4 with e1 _
  injection e1 with f1 f2 f3 f4
  subst f1 f2 f4
  rcases p7 with ⟨g1, g2, g3, g4⟩ | ⟨g1, g2, g3⟩
  · rcases q4 with ⟨h1, h2, h3, h4⟩ | ⟨h1, h2⟩
    · rw [h4, g4]
      unfold fmD
      rw [if_pos rfl]
    · exact absurd g1 h1
  · rcases q4 with ⟨h1, h2, h3, h4⟩ | ⟨h1, h2⟩
    · exact absurd h1 g1
    · rw [← g3, h2]
end Go.Proofs.YtapikkbifdldfaaGreatDoor
