/-
  What the functions that the statement reaches return: part 26 (A4, A5, A6, A8, A11, L1).
-/
import Derived.Test.YtoaaajeblhaeoaaGreatDoorAl25
namespace Go.Proofs.YtoaaajeblhaeoaaGreatDoor
set_option maxRecDepth 100000
set_option maxHeartbeats 40000000
open Go.RowKit WMath XMath
set_option linter.unusedSimpArgs false
set_option linter.unusedVariables false
theorem kM_lt {f : Int} (hf : yU f) (n : Nat) : kM f n < 340282366920938463463374607431768211456 := by
 have h := (enc_k hf false (kE_le (f := f) n) (kT_lt (f := f) n)).1
 have e : qG f false (kE f n) (kT f n) = kM f n := rfl
 rw [e] at h
 have := (fm hf).2.2.2.2.2.2
 unfold Fit at h
 omega
theorem kmag_is (f : Int) (hf : yU f) (x y n : Nat) (hx : x < 18446744073709551616) (hy : y < 18446744073709551616) (hn : y + 18446744073709551616 * x = n) (ho : okB f n = true) (w : World) (hT : yG w) : Calls Tryz.prog 156 #[.int .u8 f, .agg #[.int .u64 x, .int .u64 y]] w fun r w' => r = .returned (.agg (cw 6 (kM f n))) ∧ Below w.heap.size w w' := by
 have fit := (okB_yes (yN hf).1 ho).2
 have ke := k_enc hf fit
 have ml := kM_lt hf n
 cases hN : kN f n
 ·
  have e : n = kM f n := by rw [hN] at ke; exact ke.symm
  exact ad_mag_no f x y _ w (zJ (fun w hT => kSign_yes f hf x y n false hx hy hn ho hN w hT)) (zJ (fun w => qR x y _ hx hy (by rw [hn]; exact e) w)) hT
 ·
  have e : sgB f n true = kM f n := by
   have := flip_enc hf (kN f n) (kE_le (f := f) n) (kT_lt (f := f) n)
   rw [ke, hN] at this
   unfold sgB
   rw [if_pos rfl, this]
   rfl
  obtain ⟨u, v, hv⟩ : ∃ u v, xU (kM f n) = (u, v) := ⟨_, _, rfl⟩
  obtain ⟨i1, i2, i3⟩ := bv_lt ml hv
  exact ad_mag_yes f x y u v _ w (zJ (fun w hT => kSign_yes f hf x y n true hx hy hn ho hN w hT)) (zJ (fun w hT => kFlip_yes f hf x y n u v hx hy hn ho (by rw [e]; exact hv) w hT)) (zJ (fun w => qR u v _ i1 i2 i3 w)) hT
theorem q131 {s : Nat} (h : s < 2 ^ 128) : 8 * s < Q := Nat.lt_of_lt_of_le (show 8 * s < 2 ^ 131 by omega) (by decide +kernel)
theorem kraised (s : Nat) (h : s < 2 ^ 128) (w : World) : Calls Tryz.prog 245 #[.agg (cw 6 s)] w fun r w' => r = .returned (.agg (cw 6 (8 * s))) ∧ Below w.heap.size w w' :=
 ad_raised s (8 * s) _ w (zJ (fun w => wleft_is s (8 * s) 3 _ (Nat.lt_of_le_of_lt (by omega) (q131 h)) (by rw [show yH 3 = 3 by decide, Nat.mul_comm, show 2 ^ 3 = 8 from rfl]; exact Nat.mod_eq_of_lt (q131 h)) rfl w))
theorem jr_le {f : Int} (hf : yU f) {g l : Nat} (h : kM f l ≤ kM f g) (hg : 0 < kC f g ∧ kC f g < 7) (hl : 0 < kC f l ∧ kC f l < 7) : jr (8 * kS f l) (kX f g - kX f l).toNat ≤ 8 * kS f g := by
 by_cases zl : kC f l = 3 ∨ kC f l = 4
 ·
  rw [(k_null l zl).1, Nat.mul_zero, jr_zero]
  exact Nat.zero_le _
 ·
  by_cases zg : kC f g = 3 ∨ kC f g = 4
  ·
   exfalso
   obtain ⟨o1, o2⟩ := kM_ord h
   have c1 := kC_all f g
   have c2 := kC_all f l
   have s5 : (if kN f g then (1 : Nat) else 6) = 1 ∨ (if kN f g then (1 : Nat) else 6) = 6 := by cases kN f g <;> simp
   have s6 : (if kN f g then (2 : Nat) else 5) = 2 ∨ (if kN f g then (2 : Nat) else 5) = 5 := by cases kN f g <;> simp
   have s7 : (if kN f l then (3 : Nat) else 4) = 3 ∨ (if kN f l then (3 : Nat) else 4) = 4 := by cases kN f l <;> simp
   have s8 : (if kN f g then (0 : Nat) else 7) = 0 ∨ (if kN f g then (0 : Nat) else 7) = 7 := by cases kN f g <;> simp
   generalize (if kN f g then (1 : Nat) else 6) = a1 at *
   generalize (if kN f g then (2 : Nat) else 5) = a2 at *
   generalize (if kN f l then (3 : Nat) else 4) = a3 at *
   generalize (if kN f g then (0 : Nat) else 7) = a4 at *
   omega
  ·
   obtain ⟨n, d1, d2, d3, d4⟩ := kM_dist hf h (by omega) (by omega)
   rw [show (kX f g - kX f l).toNat = n by omega]
   exact (sum_unlike (pV f) _ _ n d3 d4 d2).1
theorem ktotal_is (f m : Int) (hf : yU f) (g l cg cl mg ml : Nat) (Xg Xl : Int) (r1 r2 : Nat) (h : kM f l ≤ kM f g) (hcg : kC f g = cg) (hcl : kC f l = cl) (hmg : kS f g = mg) (hml : kS f l = ml) (hXg : kX f g = Xg) (hXl : kX f l = Xl) (fg : 0 < cg ∧ cg < 7) (fl : 0 < cl ∧ cl < 7) (S : Nat) (hS : adS f g l = S) (neg : Bool) (hng : (if S = 0 then (if kN f g = kN f l then kN f g else decide (m = 2)) else kN f g) = neg) (w : World) :
  S < Q ∧ Calls Tryz.prog 159 #[.int .u8 m, .agg (pt cg mg Xg r1), .agg (pt cl ml Xl r2)] w fun r w' => r = .returned (.agg (rg neg S (Xg - 3) false)) ∧ Below w.heap.size w w' := by
 obtain ⟨a1, a2, a3⟩ := kS_lim hf g
 obtain ⟨b1, b2, b3⟩ := kS_lim hf l
 have jl := jr_le hf h (by rw [hcg]; exact fg) (by rw [hcl]; exact fl)
 have sg := kC_sign (f := f) g (by rw [hcg]; exact fg)
 have sl := kC_sign (f := f) l (by rw [hcl]; exact fl)
 rw [hcg] at sg
 rw [hcl] at sl
 unfold adS at hS
 rw [hmg] at a1 jl hS
 rw [hml] at b1 jl hS
 rw [hXg] at a2 a3 jl hS
 rw [hXl] at b2 b3 jl hS
 obtain ⟨o1, ho1⟩ : ∃ o, kN f g = o := ⟨_, rfl⟩
 obtain ⟨o2, ho2⟩ : ∃ o, kN f l = o := ⟨_, rfl⟩
 rw [ho1] at sg hng hS
 rw [ho2] at sl hng hS
 have KB1 : zO (∀ w, Calls Tryz.prog 244 #[.agg (pt cg mg Xg r1)] w fun r w' => r = .returned (.bool o1) ∧ Below w.heap.size w w') := zJ (fun w => ad_below cg mg Xg r1 o1 (by rw [← sg, decide_eq_decide]; omega) w)
 have KB2 : zO (∀ w, Calls Tryz.prog 244 #[.agg (pt cl ml Xl r2)] w fun r w' => r = .returned (.bool o2) ∧ Below w.heap.size w w') := zJ (fun w => ad_below cl ml Xl r2 o2 (by rw [← sl, decide_eq_decide]; omega) w)
 have KR1 := zJ (fun w => kraised mg a1 w)
 have KR2 := zJ (fun w => kraised ml b1 w)
 obtain ⟨L, hL⟩ : ∃ L, jr (8 * ml) (Xg - Xl).toNat = L := ⟨_, rfl⟩
 rw [hL] at jl hS
 have qg := q131 a1
 have ql := q131 b1
 have KJ : zO (∀ w, Calls Tryz.prog 246 #[.agg (cw 6 (8 * ml)), .int .i64 (Xg - Xl)] w fun r w' => r = .returned (.agg (cw 6 L)) ∧ Below w.heap.size w w') := zJ (fun w => jright_is (8 * ml) L (Xg - Xl) ql (by rw [jr_cnt6 _ _ ql]; exact hL) w)
 have LQ : L < Q := by rw [← hL]; exact jr_ltQ _ _ ql
 have w1 : IntKind.i64.wrap (Xg - Xl) = Xg - Xl := zR _ (by omega) (by omega)
 have w2 : IntKind.i64.wrap (Xg - 3) = Xg - 3 := zR _ (by omega) (by omega)
 by_cases c : o1 = o2
 ·
  rw [if_pos c] at hS
  subst c
  have hn : o1 = neg := by
   rw [← hng]
   split <;> simp
  have SQ : S < Q := by
   rw [← hS]
   exact Nat.lt_of_le_of_lt (show 8 * mg + L ≤ 8 * (2 * mg) by omega) (Nat.lt_of_lt_of_le (show 8 * (2 * mg) < 2 ^ 132 by have : mg < 2 ^ 128 := a1; omega) (by decide +kernel))
  refine ⟨SQ, ?_⟩
  exact ad_total m cg mg Xg r1 cl ml Xl r2 o1 o1 neg true _ _ L S _ _ false w (by cases o1 <;> rfl) KB1 KB2 KR1 KR2 KJ (zJ (Or.inl ⟨rfl, zJ (fun w => wadd_is _ _ S false qg LQ (by rw [hS]; exact Nat.mod_eq_of_lt SQ) (decide_eq_false (by rw [hS]; omega)) w), hn⟩)) SQ w1 w2
 ·
  rw [if_neg c] at hS
  have SQ : S < Q := by omega
  refine ⟨SQ, ?_⟩
  have hd : (o1 == o2) = false := by cases o1 <;> cases o2 <;> simp_all
  have KA : zO (∀ w, Calls Tryz.prog 242 #[.agg (cw 6 (8 * mg)), .agg (cw 6 L)] w fun r w' => r = .returned (.tuple #[.agg (cw 6 S), .bool false]) ∧ Below w.heap.size w w') := zJ (fun w => wsub_is _ _ S false qg LQ (by rw [show 8 * mg + Q - L = S + Q by omega, Nat.add_mod_right]; exact Nat.mod_eq_of_lt SQ) (decide_eq_false (by omega)) w)
  by_cases z : S = 0
  ·
   rw [if_pos z, if_neg c] at hng
   exact ad_total m cg mg Xg r1 cl ml Xl r2 o1 o2 neg false _ _ L S _ _ false w hd KB1 KB2 KR1 KR2 KJ (zJ (Or.inr (Or.inr ⟨rfl, KA, eq_true z, by rw [← hng]; rfl⟩))) SQ w1 w2
  ·
   rw [if_neg z] at hng
   exact ad_total m cg mg Xg r1 cl ml Xl r2 o1 o2 neg false _ _ L S _ _ false w hd KB1 KB2 KR1 KR2 KJ (zJ (Or.inr (Or.inl ⟨rfl, KA, eq_false z, hng⟩))) SQ w1 w2
theorem bv_back {x y n u v : Nat} (hx : x < 18446744073709551616) (hy : y < 18446744073709551616) (hn : y + 18446744073709551616 * x = n) (hv : xU n = (u, v)) : x = u ∧ y = v := by
 unfold xU at hv
 injection hv with h1 h2
 omega
theorem kplus_n (f m : Int) (hf : yU f) (hm : 0 ≤ m ∧ m ≤ 4) (x1 y1 a x2 y2 b : Nat) (hx1 : x1 < 18446744073709551616) (hy1 : y1 < 18446744073709551616) (ha : y1 + 18446744073709551616 * x1 = a) (hx2 : x2 < 18446744073709551616) (hy2 : y2 < 18446744073709551616) (hb : y2 + 18446744073709551616 * x2 = b)
  (oa : okB f a = true) (ob : okB f b = true) (ho : kM f b ≤ kM f a) (M : Nat) (fl : Int) (hr : addG f m a b = (M, fl)) (u v : Nat) (hv : xU M = (u, v)) (w : World) (hT : yG w) :
  Calls Tryz.prog 76 #[.int .u8 f, .int .u8 m, .agg #[.int .u64 x1, .int .u64 y1], .agg #[.int .u64 x2, .int .u64 y2]] w fun r w' => r = .returned (.tuple #[.agg #[.int .u64 u, .int .u64 v], .int .u8 fl, .int .i64 0]) ∧ Below w.heap.size w w' := by
 have KMa := zJ (fun w hT => kmag_is f hf x1 y1 a hx1 hy1 ha oa w hT)
 have KMb := zJ (fun w hT => kmag_is f hf x2 y2 b hx2 hy2 hb ob w hT)
 have KC := zJ (fun w => wcmp_is (kM f a) (kM f b) _ (xL (kM_lt hf a)) (xL (kM_lt hf b)) rfl w)
 have hc : decide (qY (kM f a) (kM f b) < 0) = false := by
  unfold qY
  (repeat' split) <;> first | decide | omega | (rw [decide_eq_false_iff_not]; omega)
 have hle : kM f b ≤ kM f a := by omega
 obtain ⟨k1, k2, k3⟩ := kM_class hle
 obtain ⟨sa1, sa2, sa3⟩ := kS_lim hf a
 obtain ⟨sb1, sb2, sb3⟩ := kS_lim hf b
 obtain ⟨c1, Aa⟩ : ∃ c, kC f a = c := ⟨_, rfl⟩
 obtain ⟨c2, Ab⟩ : ∃ c, kC f b = c := ⟨_, rfl⟩
 obtain ⟨m1, hm1⟩ : ∃ c, kS f a = c := ⟨_, rfl⟩
 obtain ⟨m2, hm2⟩ : ∃ c, kS f b = c := ⟨_, rfl⟩
 obtain ⟨X1, hX1⟩ : ∃ c, kX f a = c := ⟨_, rfl⟩
 obtain ⟨X2, hX2⟩ : ∃ c, kX f b = c := ⟨_, rfl⟩
 have KU1 : zO (∀ w, yG w → Calls Tryz.prog 45 #[.int .u8 f, .agg #[.int .u64 x1, .int .u64 y1]] w fun r w' => r = .returned (.tuple #[.agg (pt c1 m1 X1 (kF f a)), .int .i64 0]) ∧ Below w.heap.size w w') := zJ (fun w hT => kUnpack_yes f hf x1 y1 a c1 m1 (kF f a) X1 hx1 hy1 ha oa (by unfold kp; rw [Aa, hm1, hX1]) w hT)
 have KU2 : zO (∀ w, yG w → Calls Tryz.prog 45 #[.int .u8 f, .agg #[.int .u64 x2, .int .u64 y2]] w fun r w' => r = .returned (.tuple #[.agg (pt c2 m2 X2 (kF f b)), .int .i64 0]) ∧ Below w.heap.size w w') := zJ (fun w hT => kUnpack_yes f hf x2 y2 b c2 m2 (kF f b) X2 hx2 hy2 hb ob (by unfold kp; rw [Ab, hm2, hX2]) w hT)
 have lc1 : c1 < 10 := by rw [← Aa]; exact kC_lt f _
 have lc2 : c2 < 10 := by rw [← Ab]; exact kC_lt f _
 unfold addG at hr
 rw [Aa, Ab] at hr k1 k2 k3
 have KN : xU (eNaN f) = (u, v) → zO (∀ w, yG w → Calls Tryz.prog 157 #[.int .u8 f] w fun r w' => r = .returned (.agg #[.int .u64 u, .int .u64 v]) ∧ Below w.heap.size w w') := fun h => zJ (fun w hT => kNaN_is f hf u v h w hT)
 by_cases a1 : c1 = 8 ∨ c2 = 8
 ·
  rw [if_pos a1] at hr
  injection hr with r1 r2
  subst r1 r2
  by_cases a2 : c1 = 8
  ·
   exact ad_plus_n f m x1 y1 x2 y2 u v _ _ _ c1 m1 X1 _ c2 m2 X2 _ false 0 0 _ w hc KMa KMb KC KU1 KU2 (zJ (Or.inl ⟨ieq (by omega), KN hv, rfl⟩)) hT
  ·
   exact ad_plus_n f m x1 y1 x2 y2 u v _ _ _ c1 m1 X1 _ c2 m2 X2 _ false 0 0 _ w hc KMa KMb KC KU1 KU2 (zJ (Or.inr (Or.inl ⟨ine (by omega), ieq (by omega), KN hv, rfl⟩))) hT
 rw [if_neg a1] at hr
 have h18 : ((c1 : Int) == 8) = false := ine (by omega)
 have h28 : ((c2 : Int) == 8) = false := ine (by omega)
 by_cases b1 : c1 = 9
 ·
  rw [if_pos b1] at hr
  injection hr with r1 r2
  subst r1 r2
  exact ad_plus_n f m x1 y1 x2 y2 u v _ _ _ c1 m1 X1 _ c2 m2 X2 _ false 0 0 _ w hc KMa KMb KC KU1 KU2 (zJ (Or.inr (Or.inr (Or.inl ⟨h18, h28, ieq (by omega), KN hv, rfl⟩)))) hT
 rw [if_neg b1] at hr
 have h19 : ((c1 : Int) == 9) = false := ine (by omega)
 have KE1 : ∀ o, decide (c1 = 0 ∨ c1 = 7) = o → zO (∀ w, Calls Tryz.prog 158 #[.int .u8 c1] w fun r w' => r = .returned (.bool o) ∧ Below w.heap.size w w') := fun o h => zJ (fun w => op_endless c1 o (by rw [← Bool.decide_or]; exact h) w)
 have KE2 : ∀ o, decide (c2 = 0 ∨ c2 = 7) = o → zO (∀ w, Calls Tryz.prog 158 #[.int .u8 c2] w fun r w' => r = .returned (.bool o) ∧ Below w.heap.size w w') := fun o h => zJ (fun w => op_endless c2 o (by rw [← Bool.decide_or]; exact h) w)
 by_cases e1 : c1 = 0 ∨ c1 = 7
 ·
  rw [if_pos e1] at hr
  have KE1 := KE1 true (decide_eq_true e1)
  by_cases e2 : c2 = 0 ∨ c2 = 7
  ·
   have KE2 := KE2 true (decide_eq_true e2)
   by_cases e3 : c1 ≠ c2
   ·
    rw [if_pos ⟨e2, e3⟩] at hr
    injection hr with r1 r2
    subst r1 r2
    exact ad_plus_n f m x1 y1 x2 y2 u v _ _ _ c1 m1 X1 _ c2 m2 X2 _ false 0 0 _ w hc KMa KMb KC KU1 KU2 (zJ (Or.inr (Or.inr (Or.inr (Or.inl ⟨h18, h28, h19, by simp only [bne_iff_ne, ne_eq]; omega, KE1, KE2, KN hv, rfl⟩))))) hT
   ·
    rw [if_neg (fun q => e3 q.2)] at hr
    injection hr with r1 r2
    subst r1 r2
    obtain ⟨v1, v2⟩ := bv_back hx1 hy1 ha hv
    exact ad_plus_n f m x1 y1 x2 y2 u v _ _ _ c1 m1 X1 _ c2 m2 X2 _ false 0 0 _ w hc KMa KMb KC KU1 KU2 (zJ (Or.inr (Or.inr (Or.inr (Or.inr (Or.inl ⟨h18, h28, h19, by rw [show c1 = c2 by omega]; simp, KE1, KE2, v1, v2, rfl⟩)))))) hT
  ·
   have KE2 := KE2 false (decide_eq_false e2)
   rw [if_neg (fun q => e2 q.1)] at hr
   injection hr with r1 r2
   subst r1 r2
   obtain ⟨v1, v2⟩ := bv_back hx1 hy1 ha hv
   exact ad_plus_n f m x1 y1 x2 y2 u v _ _ _ c1 m1 X1 _ c2 m2 X2 _ false 0 0 _ w hc KMa KMb KC KU1 KU2 (zJ (Or.inr (Or.inr (Or.inr (Or.inr (Or.inr (Or.inl ⟨h18, h28, h19, KE1, KE2, v1, v2, rfl⟩))))))) hT
 rw [if_neg e1] at hr
 have KE1 := KE1 false (decide_eq_false e1)
 have fg : 0 < c1 ∧ c1 < 7 := by omega
 have fl2 : 0 < c2 ∧ c2 < 7 := by omega
 obtain ⟨S, hS⟩ : ∃ S, adS f a b = S := ⟨_, rfl⟩
 obtain ⟨neg, hng⟩ : ∃ neg, (if S = 0 then (if kN f a = kN f b then kN f a else decide (m = 2)) else kN f a) = neg := ⟨_, rfl⟩
 have KT := fun w => ktotal_is f m hf a b c1 c2 m1 m2 X1 X2 (kF f a) (kF f b) hle Aa Ab hm1 hm2 hX1 hX2 fg fl2 S hS neg hng w
 have SQ := (KT w).1
 refine ad_plus_n f m x1 y1 x2 y2 u v _ _ _ c1 m1 X1 _ c2 m2 X2 _ neg S (X1 - 3) fl w hc KMa KMb KC KU1 KU2 (zJ (Or.inr (Or.inr (Or.inr (Or.inr (Or.inr (Or.inr (⟨h18, h28, h19, KE1, zJ (fun w => (KT w).2), ?_⟩)))))))) hT
 rw [hS, hX1] at hr
 rw [hX1] at sa2 sa3
 by_cases z : S = 0
 ·
  rw [if_pos z] at hr hng
  rw [hng] at hr
  injection hr with r1 r2
  subst r1 r2
  rw [z]
  exact zJ (fun w hT => kPack_zero f m hf hm neg (X1 - 3) (by omega) (by omega) u v hv w hT)
 ·
  rw [if_neg z] at hr hng
  rw [hng] at hr
  exact zJ (fun w hT => kPack_is f m hf hm neg S SQ z (X1 - 3) false (by omega) (by omega) (fun h => Bool.noConfusion h) M fl hr u v hv w hT)
theorem kplus_w (f m : Int) (hf : yU f) (hm : 0 ≤ m ∧ m ≤ 4) (x1 y1 a x2 y2 b : Nat) (hx1 : x1 < 18446744073709551616) (hy1 : y1 < 18446744073709551616) (ha : y1 + 18446744073709551616 * x1 = a) (hx2 : x2 < 18446744073709551616) (hy2 : y2 < 18446744073709551616) (hb : y2 + 18446744073709551616 * x2 = b)
  (oa : okB f a = true) (ob : okB f b = true) (ho : kM f a < kM f b) (M : Nat) (fl : Int) (hr : addG f m b a = (M, fl)) (u v : Nat) (hv : xU M = (u, v)) (w : World) (hT : yG w) :
  Calls Tryz.prog 76 #[.int .u8 f, .int .u8 m, .agg #[.int .u64 x1, .int .u64 y1], .agg #[.int .u64 x2, .int .u64 y2]] w fun r w' => r = .returned (.tuple #[.agg #[.int .u64 u, .int .u64 v], .int .u8 fl, .int .i64 0]) ∧ Below w.heap.size w w' := by
 have KMa := zJ (fun w hT => kmag_is f hf x1 y1 a hx1 hy1 ha oa w hT)
 have KMb := zJ (fun w hT => kmag_is f hf x2 y2 b hx2 hy2 hb ob w hT)
 have KC := zJ (fun w => wcmp_is (kM f a) (kM f b) _ (xL (kM_lt hf a)) (xL (kM_lt hf b)) rfl w)
 have hc : decide (qY (kM f a) (kM f b) < 0) = true := by
  unfold qY
  (repeat' split) <;> first | decide | omega | (rw [decide_eq_true_iff]; omega)
 have hle : kM f a ≤ kM f b := by omega
 obtain ⟨k1, k2, k3⟩ := kM_class hle
 obtain ⟨sa1, sa2, sa3⟩ := kS_lim hf b
 obtain ⟨sb1, sb2, sb3⟩ := kS_lim hf a
 obtain ⟨c1, Aa⟩ : ∃ c, kC f b = c := ⟨_, rfl⟩
 obtain ⟨c2, Ab⟩ : ∃ c, kC f a = c := ⟨_, rfl⟩
 obtain ⟨m1, hm1⟩ : ∃ c, kS f b = c := ⟨_, rfl⟩
 obtain ⟨m2, hm2⟩ : ∃ c, kS f a = c := ⟨_, rfl⟩
 obtain ⟨X1, hX1⟩ : ∃ c, kX f b = c := ⟨_, rfl⟩
 obtain ⟨X2, hX2⟩ : ∃ c, kX f a = c := ⟨_, rfl⟩
 have KU1 : zO (∀ w, yG w → Calls Tryz.prog 45 #[.int .u8 f, .agg #[.int .u64 x2, .int .u64 y2]] w fun r w' => r = .returned (.tuple #[.agg (pt c1 m1 X1 (kF f b)), .int .i64 0]) ∧ Below w.heap.size w w') := zJ (fun w hT => kUnpack_yes f hf x2 y2 b c1 m1 (kF f b) X1 hx2 hy2 hb ob (by unfold kp; rw [Aa, hm1, hX1]) w hT)
 have KU2 : zO (∀ w, yG w → Calls Tryz.prog 45 #[.int .u8 f, .agg #[.int .u64 x1, .int .u64 y1]] w fun r w' => r = .returned (.tuple #[.agg (pt c2 m2 X2 (kF f a)), .int .i64 0]) ∧ Below w.heap.size w w') := zJ (fun w hT => kUnpack_yes f hf x1 y1 a c2 m2 (kF f a) X2 hx1 hy1 ha oa (by unfold kp; rw [Ab, hm2, hX2]) w hT)
 have lc1 : c1 < 10 := by rw [← Aa]; exact kC_lt f _
 have lc2 : c2 < 10 := by rw [← Ab]; exact kC_lt f _
 unfold addG at hr
 rw [Aa, Ab] at hr k1 k2 k3
 have KN : xU (eNaN f) = (u, v) → zO (∀ w, yG w → Calls Tryz.prog 157 #[.int .u8 f] w fun r w' => r = .returned (.agg #[.int .u64 u, .int .u64 v]) ∧ Below w.heap.size w w') := fun h => zJ (fun w hT => kNaN_is f hf u v h w hT)
 by_cases a1 : c1 = 8 ∨ c2 = 8
 ·
  rw [if_pos a1] at hr
  injection hr with r1 r2
  subst r1 r2
  by_cases a2 : c1 = 8
  ·
   exact ad_plus_w f m x1 y1 x2 y2 u v _ _ _ c1 m1 X1 _ c2 m2 X2 _ false 0 0 _ w hc KMa KMb KC KU1 KU2 (zJ (Or.inl ⟨ieq (by omega), KN hv, rfl⟩)) hT
  ·
   exact ad_plus_w f m x1 y1 x2 y2 u v _ _ _ c1 m1 X1 _ c2 m2 X2 _ false 0 0 _ w hc KMa KMb KC KU1 KU2 (zJ (Or.inr (Or.inl ⟨ine (by omega), ieq (by omega), KN hv, rfl⟩))) hT
 rw [if_neg a1] at hr
 have h18 : ((c1 : Int) == 8) = false := ine (by omega)
 have h28 : ((c2 : Int) == 8) = false := ine (by omega)
 by_cases b1 : c1 = 9
 ·
  rw [if_pos b1] at hr
  injection hr with r1 r2
  subst r1 r2
  exact ad_plus_w f m x1 y1 x2 y2 u v _ _ _ c1 m1 X1 _ c2 m2 X2 _ false 0 0 _ w hc KMa KMb KC KU1 KU2 (zJ (Or.inr (Or.inr (Or.inl ⟨h18, h28, ieq (by omega), KN hv, rfl⟩)))) hT
 rw [if_neg b1] at hr
 have h19 : ((c1 : Int) == 9) = false := ine (by omega)
 have KE1 : ∀ o, decide (c1 = 0 ∨ c1 = 7) = o → zO (∀ w, Calls Tryz.prog 158 #[.int .u8 c1] w fun r w' => r = .returned (.bool o) ∧ Below w.heap.size w w') := fun o h => zJ (fun w => op_endless c1 o (by rw [← Bool.decide_or]; exact h) w)
 have KE2 : ∀ o, decide (c2 = 0 ∨ c2 = 7) = o → zO (∀ w, Calls Tryz.prog 158 #[.int .u8 c2] w fun r w' => r = .returned (.bool o) ∧ Below w.heap.size w w') := fun o h => zJ (fun w => op_endless c2 o (by rw [← Bool.decide_or]; exact h) w)
 by_cases e1 : c1 = 0 ∨ c1 = 7
 ·
  rw [if_pos e1] at hr
  have KE1 := KE1 true (decide_eq_true e1)
  by_cases e2 : c2 = 0 ∨ c2 = 7
  ·
   have KE2 := KE2 true (decide_eq_true e2)
   by_cases e3 : c1 ≠ c2
   ·
    rw [if_pos ⟨e2, e3⟩] at hr
    injection hr with r1 r2
    subst r1 r2
    exact ad_plus_w f m x1 y1 x2 y2 u v _ _ _ c1 m1 X1 _ c2 m2 X2 _ false 0 0 _ w hc KMa KMb KC KU1 KU2 (zJ (Or.inr (Or.inr (Or.inr (Or.inl ⟨h18, h28, h19, by simp only [bne_iff_ne, ne_eq]; omega, KE1, KE2, KN hv, rfl⟩))))) hT
   ·
    rw [if_neg (fun q => e3 q.2)] at hr
    injection hr with r1 r2
    subst r1 r2
    obtain ⟨v1, v2⟩ := bv_back hx2 hy2 hb hv
    exact ad_plus_w f m x1 y1 x2 y2 u v _ _ _ c1 m1 X1 _ c2 m2 X2 _ false 0 0 _ w hc KMa KMb KC KU1 KU2 (zJ (Or.inr (Or.inr (Or.inr (Or.inr (Or.inl ⟨h18, h28, h19, by rw [show c1 = c2 by omega]; simp, KE1, KE2, v1, v2, rfl⟩)))))) hT
  ·
   have KE2 := KE2 false (decide_eq_false e2)
   rw [if_neg (fun q => e2 q.1)] at hr
   injection hr with r1 r2
   subst r1 r2
   obtain ⟨v1, v2⟩ := bv_back hx2 hy2 hb hv
   exact ad_plus_w f m x1 y1 x2 y2 u v _ _ _ c1 m1 X1 _ c2 m2 X2 _ false 0 0 _ w hc KMa KMb KC KU1 KU2 (zJ (Or.inr (Or.inr (Or.inr (Or.inr (Or.inr (Or.inl ⟨h18, h28, h19, KE1, KE2, v1, v2, rfl⟩))))))) hT
 rw [if_neg e1] at hr
 have KE1 := KE1 false (decide_eq_false e1)
 have fg : 0 < c1 ∧ c1 < 7 := by omega
 have fl2 : 0 < c2 ∧ c2 < 7 := by omega
 obtain ⟨S, hS⟩ : ∃ S, adS f b a = S := ⟨_, rfl⟩
 obtain ⟨neg, hng⟩ : ∃ neg, (if S = 0 then (if kN f b = kN f a then kN f b else decide (m = 2)) else kN f b) = neg := ⟨_, rfl⟩
 have KT := fun w => ktotal_is f m hf b a c1 c2 m1 m2 X1 X2 (kF f b) (kF f a) hle Aa Ab hm1 hm2 hX1 hX2 fg fl2 S hS neg hng w
 have SQ := (KT w).1
 refine ad_plus_w f m x1 y1 x2 y2 u v _ _ _ c1 m1 X1 _ c2 m2 X2 _ neg S (X1 - 3) fl w hc KMa KMb KC KU1 KU2 (zJ (Or.inr (Or.inr (Or.inr (Or.inr (Or.inr (Or.inr (⟨h18, h28, h19, KE1, zJ (fun w => (KT w).2), ?_⟩)))))))) hT
 rw [hS, hX1] at hr
 rw [hX1] at sa2 sa3
 by_cases z : S = 0
 ·
  rw [if_pos z] at hr hng
  rw [hng] at hr
  injection hr with r1 r2
  subst r1 r2
  rw [z]
  exact zJ (fun w hT => kPack_zero f m hf hm neg (X1 - 3) (by omega) (by omega) u v hv w hT)
 ·
  rw [if_neg z] at hr hng
  rw [hng] at hr
  exact zJ (fun w hT => kPack_is f m hf hm neg S SQ z (X1 - 3) false (by omega) (by omega) (fun h => Bool.noConfusion h) M fl hr u v hv w hT)
theorem kplus_is2 (f m : Int) (hf : yU f) (hm : 0 ≤ m ∧ m ≤ 4) (x1 y1 a x2 y2 b : Nat) (hx1 : x1 < 18446744073709551616) (hy1 : y1 < 18446744073709551616) (ha : y1 + 18446744073709551616 * x1 = a) (hx2 : x2 < 18446744073709551616) (hy2 : y2 < 18446744073709551616) (hb : y2 + 18446744073709551616 * x2 = b)
  (oa : okB f a = true) (ob : okB f b = true) (M : Nat) (fl : Int) (hr : addR f m a b = (M, fl)) (u v : Nat) (hv : xU M = (u, v)) (w : World) (hT : yG w) :
  Calls Tryz.prog 76 #[.int .u8 f, .int .u8 m, .agg #[.int .u64 x1, .int .u64 y1], .agg #[.int .u64 x2, .int .u64 y2]] w fun r w' => r = .returned (.tuple #[.agg #[.int .u64 u, .int .u64 v], .int .u8 fl, .int .i64 0]) ∧ Below w.heap.size w w' := by
 unfold addR at hr
 by_cases c : kM f a < kM f b
 ·
  rw [if_pos c] at hr
  exact kplus_w f m hf hm x1 y1 a x2 y2 b hx1 hy1 ha hx2 hy2 hb oa ob c M fl hr u v hv w hT
 ·
  rw [if_neg c] at hr
  exact kplus_n f m hf hm x1 y1 a x2 y2 b hx1 hy1 ha hx2 hy2 hb oa ob (by omega) M fl hr u v hv w hT
theorem cls_sg (f : Int) (n : Nat) : ∃ a1 a2 a3 a4 : Nat, (a1 = 0 ∨ a1 = 7) ∧ (a2 = 1 ∨ a2 = 6) ∧ (a3 = 2 ∨ a3 = 5) ∧ (a4 = 3 ∨ a4 = 4) ∧
  ((kE f n = oV f ∧ kT f n = 0 ∧ kC f n = a1) ∨ (kE f n = oV f ∧ kT f n ≠ 0 ∧ kT f n < 2 ^ (pV f - 1) ∧ kC f n = 8) ∨ (kE f n = oV f ∧ 2 ^ (pV f - 1) ≤ kT f n ∧ kC f n = 9) ∨ (kE f n < oV f ∧ kE f n ≠ 0 ∧ kC f n = a2) ∨ (kE f n < oV f ∧ kE f n = 0 ∧ kT f n ≠ 0 ∧ kC f n = a3) ∨ (kE f n < oV f ∧ kE f n = 0 ∧ kT f n = 0 ∧ kC f n = a4)) :=
 ⟨_, _, _, _, by cases kN f n <;> simp, by cases kN f n <;> simp, by cases kN f n <;> simp, by cases kN f n <;> simp, kC_all f n⟩
theorem addR_nan (f m : Int) (a b : Nat) (h : 8 ≤ kC f a ∨ 8 ≤ kC f b) : addR f m a b = (eNaN f, if kC f a = 8 ∨ kC f b = 8 then 16 else 0) := by
 have la := kC_lt f a
 have lb := kC_lt f b
 unfold addR addG
 by_cases c : kM f a < kM f b
 ·
  have k := kM_class (f := f) (g := b) (l := a) (by omega)
  rw [if_pos c]
  by_cases d : kC f a = 8 ∨ kC f b = 8
  ·
   rw [if_pos d, if_pos (by omega)]
  ·
   rw [if_neg d, if_neg (by omega), if_pos (by omega)]
 ·
  have k := kM_class (f := f) (g := a) (l := b) (by omega)
  rw [if_neg c]
  by_cases d : kC f a = 8 ∨ kC f b = 8
  ·
   rw [if_pos d, if_pos d]
  ·
   rw [if_neg d, if_pos (show kC f a = 9 by omega), if_neg d]
theorem kM_inf (f : Int) (n : Nat) (h : kC f n = 0 ∨ kC f n = 7) : kM f n = oV f * 2 ^ pV f ∧ kN f n = decide (kC f n = 0) := by
 obtain ⟨a1, a2, a3, a4, s1, s2, s3, s4, c⟩ := cls_sg f n
 have e : kE f n = oV f ∧ kT f n = 0 := by omega
 refine ⟨by unfold kM; rw [e.1, e.2, Nat.add_zero], ?_⟩
 have d := kC_all f n
 cases hn : kN f n
 ·
  rw [hn] at d
  simp only [Bool.false_eq_true, if_false] at d
  rw [eq_comm, decide_eq_false_iff_not]
  omega
 ·
  rw [hn] at d
  simp only [if_true] at d
  rw [eq_comm, decide_eq_true_iff]
  omega
theorem addR_inf2 (f m : Int) (a b : Nat) (ha : kC f a = 0 ∨ kC f a = 7) (hb : kC f b = 0 ∨ kC f b = 7) : addR f m a b = if kC f a ≠ kC f b then (eNaN f, 16) else (a, 0) := by
 unfold addR addG
 rw [(kM_inf f a ha).1, (kM_inf f b hb).1, if_neg (Nat.lt_irrefl _), if_neg (by omega), if_neg (by omega), if_pos ha]
 by_cases c : kC f a ≠ kC f b
 ·
  rw [if_pos ⟨hb, c⟩, if_pos c]
 ·
  rw [if_neg (fun q => c q.2), if_neg c]
theorem addR_inf (f m : Int) (a b : Nat) (ha : kC f a = 0 ∨ kC f a = 7) (hb : 0 < kC f b ∧ kC f b < 7) : addR f m a b = (a, 0) ∧ addR f m b a = (a, 0) := by
 have lt : kM f b < kM f a := by
  rcases Nat.lt_or_ge (kM f b) (kM f a) with c | c
  ·
   exact c
  ·
   have := (kM_class c).2.1 ha
   omega
 constructor
 ·
  unfold addR addG
  rw [if_neg (by omega), if_neg (by omega), if_neg (by omega), if_pos ha, if_neg (by omega)]
 ·
  unfold addR addG
  rw [if_pos lt, if_neg (by omega), if_neg (by omega), if_pos ha, if_neg (by omega)]
theorem kM_zero (f : Int) (n : Nat) (h : kC f n = 3 ∨ kC f n = 4) : kM f n = 0 ∧ kE f n = 0 ∧ kT f n = 0 := by
 obtain ⟨a1, a2, a3, a4, s1, s2, s3, s4, c⟩ := cls_sg f n
 have e : kE f n = 0 ∧ kT f n = 0 := by omega
 exact ⟨by unfold kM; rw [e.1, e.2, Nat.zero_mul], e⟩
theorem kM_pos {f : Int} {n : Nat} (h : kC f n = 1 ∨ kC f n = 2 ∨ kC f n = 5 ∨ kC f n = 6) : 0 < kM f n := by
 obtain ⟨a1, a2, a3, a4, s1, s2, s3, s4, c⟩ := cls_sg f n
 have p := Nat.two_pow_pos (pV f)
 have e : kE f n ≠ 0 ∨ kT f n ≠ 0 := by omega
 unfold kM
 rcases e with e | e
 ·
  have := Nat.mul_le_mul_right (2 ^ pV f) (show 1 ≤ kE f n by omega)
  omega
 ·
  omega
theorem adS_zero (f : Int) (g l : Nat) (h : kC f l = 3 ∨ kC f l = 4) : adS f g l = 8 * kS f g := by
 unfold adS
 rw [(k_null l h).1, Nat.mul_zero, jr_zero, Nat.add_zero, Nat.sub_zero, ite_self]
theorem addR_zeros (f m : Int) (a b : Nat) (ha : kC f a = 3 ∨ kC f a = 4) (hb : kC f b = 3 ∨ kC f b = 4) : addR f m a b = (xN f (if kN f a = kN f b then kN f a else decide (m = 2)), 0) := by
 unfold addR addG
 rw [(kM_zero f a ha).1, (kM_zero f b hb).1, if_neg (Nat.lt_irrefl _), if_neg (by omega), if_neg (by omega), if_neg (by omega), if_pos (by rw [adS_zero f a b hb, (k_null a ha).1])]
theorem rnd_vX {f : Int} (hf : yU f) (m : Int) (g : Nat) (hg : kC f g = 1 ∨ kC f g = 2 ∨ kC f g = 5 ∨ kC f g = 6) : (vX f g).can ∧ nl (vX f g).n ≤ 8192 ∧ (vX f g).n ≠ 0 ∧ (vX f g).d = 1 ∧ rnd f m (vX f g) = dlv f m (kN f g) (kX f g + (zT (kS f g) : Int) - 1) (qW (pV f + 1) (kS f g)) (qM (pV f + 1) (kS f g) false) := by
 obtain ⟨a1, a2, a3, a4⟩ := vX_whole hf g (by omega) (by omega)
 obtain ⟨l1, l2, l3⟩ := kS_lim hf g
 obtain ⟨w1, w2, w3, w4, w5, w6, w7⟩ := x_whole hf (kN f g) (kS f g) (kX f g) a1 (by have := (yW (kS f g) 128).2 a2; omega) (by omega) (by omega)
 rw [a3]
 refine ⟨w2, w4, w3, rfl, ?_⟩
 unfold rnd
 rw [if_neg w3, w5, w6, w7]
theorem addG_zero {f : Int} (hf : yU f) (m : Int) (g l : Nat) (hg : kC f g = 1 ∨ kC f g = 2 ∨ kC f g = 5 ∨ kC f g = 6) (hl : kC f l = 3 ∨ kC f l = 4) : addG f m g l = rnd f m (vX f g) := by
 obtain ⟨a, b, c, d⟩ := k_parts (f := f) g hg
 have bs := x5 (kS f g) 3 d
 have ql := q_longer (pV f + 1) (kS f g) 3 d
 rw [three_up] at bs ql
 unfold addG
 rw [if_neg (by omega), if_neg (by omega), if_neg (by omega), adS_zero f g l hl, if_neg (by omega), (rnd_vX hf m g hg).2.2.2.2, ql.1, ql.2, bs]
 congr 1
 omega
theorem addG_num {f : Int} (hf : yU f) (m : Int) (g l : Nat) (hg : kC f g = 1 ∨ kC f g = 2 ∨ kC f g = 5 ∨ kC f g = 6) (hl : kC f l = 1 ∨ kC f l = 2 ∨ kC f l = 5 ∨ kC f l = 6) (h : kM f l ≤ kM f g) :
  ∃ (zb : Bool) (zn : Nat) (ze : Int), addX (vX f g) (vX f l) = (⟨zb, zn, 1, ze⟩, 0) ∧ addX (vX f l) (vX f g) = (⟨zb, zn, 1, ze⟩, 0) ∧ (XN.mk zb zn 1 ze).can ∧ nl zn ≤ 8192 ∧
   ((zn = 0 ∧ zb = false ∧ ze = 0 ∧ kN f g ≠ kN f l ∧ addG f m g l = (xN f (decide (m = 2)), 0)) ∨ (zn ≠ 0 ∧ rnd f m ⟨zb, zn, 1, ze⟩ = addG f m g l)) := by
 obtain ⟨n, d1, d2, d3, d4⟩ := kM_dist hf h hg hl
 obtain ⟨g1, g2, g3, g4⟩ := vX_whole hf g (by omega) (by omega)
 obtain ⟨l1, l2, l3, l4⟩ := vX_whole hf l (by omega) (by omega)
 obtain ⟨gl1, gl2, gl3⟩ := kS_lim hf g
 obtain ⟨ll1, ll2, ll3⟩ := kS_lim hf l
 have hS : adS f g l = if kN f g = kN f l then 8 * kS f g + jr (8 * kS f l) n else 8 * kS f g - jr (8 * kS f l) n := by
  unfold adS
  rw [show (kX f g - kX f l).toNat = n by omega]
 obtain ⟨N, hN⟩ : ∃ N, sumN (kN f g) (kN f l) (kS f g) (kS f l) n = N := ⟨_, rfl⟩
 have key : (N = 0 → kN f g ≠ kN f l ∧ adS f g l = 0) ∧ (N ≠ 0 → adS f g l ≠ 0 ∧ zT (adS f g l) + n = zT N + 3 ∧ qW (pV f + 1) (adS f g l) = qW (pV f + 1) N ∧ qM (pV f + 1) (adS f g l) false = qM (pV f + 1) N false) := by
  unfold sumN at hN
  by_cases c : kN f g = kN f l
  ·
   rw [if_pos c] at hN hS
   have s := sum_like (pV f) (kS f g) (kS f l) n g1 d3
   rw [hN, ← hS] at s
   have p := Nat.mul_pos (Nat.pos_of_ne_zero g1) (Nat.two_pow_pos n)
   exact ⟨fun q => by omega, fun _ => ⟨by omega, s⟩⟩
  ·
   rw [if_neg c] at hN hS
   have s := sum_unlike (pV f) (kS f g) (kS f l) n d3 d4 d2
   rw [hN, ← hS] at s
   exact ⟨fun q => ⟨c, s.2.1.1 q⟩, fun q => ⟨fun z => q (s.2.1.2 z), s.2.2 q⟩⟩
 rw [g3, l3]
 have ag : addG f m g l = if adS f g l = 0 then (xN f (if kN f g = kN f l then kN f g else decide (m = 2)), 0) else dlv f m (kN f g) (kX f g - 3 + (zT (adS f g l) : Int) - 1) (qW (pV f + 1) (adS f g l)) (qM (pV f + 1) (adS f g l) false) := by
  unfold addG
  rw [if_neg (by omega), if_neg (by omega), if_neg (by omega)]
 by_cases z : N = 0
 ·
  obtain ⟨k1, k2⟩ := key.1 z
  obtain ⟨n1, n2⟩ := add_null hf (kN f g) (kN f l) (kS f g) (kS f l) n (kX f g) (kX f l) g1 l1 g2 l2 d1 d2 gl2 gl3 ll2 ll3 (by rw [hN, z])
  exact ⟨false, 0, 0, n1, n2, x0_can, Nat.le_trans (xE 0 1 (by decide)) (Nat.le_trans (qC 1 1 (by decide)) (by decide)), Or.inl ⟨rfl, rfl, rfl, k1, by rw [ag, if_pos k2, if_neg k1]⟩⟩
 ·
  obtain ⟨k1, k2, k3, k4⟩ := key.2 z
  obtain ⟨k, e, n1, n2, n3, n4, n5, n6⟩ := add_num hf m (kN f g) (kN f l) (kS f g) (kS f l) n (kX f g) (kX f l) g1 l1 g2 l2 d1 d2 gl2 gl3 ll2 ll3 N hN z
  refine ⟨kN f g, k, e, n1, n2, n3, n4, Or.inr ⟨n5, ?_⟩⟩
  rw [n6, ag, if_neg k1, k3, k4]
  congr 1
  omega
theorem vX_null (f : Int) (n : Nat) (h : kC f n = 3 ∨ kC f n = 4) : vX f n = XMath.X0 := by
 unfold vX
 rw [(k_null n h).1, mk_null]
theorem vX_can {f : Int} (hf : yU f) (n : Nat) (h : 0 < kC f n ∧ kC f n < 7) : (vX f n).can := by
 by_cases z : kC f n = 3 ∨ kC f n = 4
 ·
  rw [vX_null f n z]
  exact x0_can
 ·
  exact (vX_whole hf n h z).2.2.2
theorem add_fin {f : Int} (hf : yU f) (m : Int) (a b : Nat) (ha : 0 < kC f a ∧ kC f a < 7) (hb : 0 < kC f b ∧ kC f b < 7) (hz : ¬ ((kC f a = 3 ∨ kC f a = 4) ∧ (kC f b = 3 ∨ kC f b = 4))) :
  ∃ (zb : Bool) (zn : Nat) (ze : Int), addX (vX f a) (vX f b) = (⟨zb, zn, 1, ze⟩, 0) ∧ (XN.mk zb zn 1 ze).can ∧ nl zn ≤ 8192 ∧
   ((zn = 0 ∧ zb = false ∧ ze = 0 ∧ addR f m a b = (xN f (decide (m = 2)), 0)) ∨ (zn ≠ 0 ∧ rnd f m ⟨zb, zn, 1, ze⟩ = addR f m a b)) := by
 by_cases za : kC f a = 3 ∨ kC f a = 4
 ·
  have nb : kC f b = 1 ∨ kC f b = 2 ∨ kC f b = 5 ∨ kC f b = 6 := by omega
  obtain ⟨r1, r2, r3, r4, r5⟩ := rnd_vX hf m b nb
  have e : vX f b = ⟨(vX f b).b, (vX f b).n, 1, (vX f b).e⟩ := by rw [← r4]
  refine ⟨(vX f b).b, (vX f b).n, (vX f b).e, ?_, by rw [← e]; exact r1, r2, Or.inr ⟨r3, ?_⟩⟩
  ·
   rw [vX_null f a za, ← e]
   unfold addX
   rw [if_pos (show (XMath.X0).n = 0 from rfl)]
  ·
   rw [← e]
   unfold addR
   rw [(kM_zero f a za).1, if_pos (kM_pos nb), addG_zero hf m b a nb za]
 ·
  have na : kC f a = 1 ∨ kC f a = 2 ∨ kC f a = 5 ∨ kC f a = 6 := by omega
  by_cases zb : kC f b = 3 ∨ kC f b = 4
  ·
   obtain ⟨r1, r2, r3, r4, r5⟩ := rnd_vX hf m a na
   have e : vX f a = ⟨(vX f a).b, (vX f a).n, 1, (vX f a).e⟩ := by rw [← r4]
   refine ⟨(vX f a).b, (vX f a).n, (vX f a).e, ?_, by rw [← e]; exact r1, r2, Or.inr ⟨r3, ?_⟩⟩
   ·
    rw [vX_null f b zb, ← e]
    unfold addX
    rw [if_neg r3, if_pos (show (XMath.X0).n = 0 from rfl)]
   ·
    rw [← e]
    unfold addR
    rw [(kM_zero f b zb).1, if_neg (by omega), addG_zero hf m a b na zb]
  ·
   have nb : kC f b = 1 ∨ kC f b = 2 ∨ kC f b = 5 ∨ kC f b = 6 := by omega
   unfold addR
   by_cases c : kM f a < kM f b
   ·
    rw [if_pos c]
    obtain ⟨sb, sn, se, q1, q2, q3, q4, q5⟩ := addG_num hf m b a nb na (by omega)
    refine ⟨sb, sn, se, q2, q3, q4, ?_⟩
    rcases q5 with ⟨z1, z2, z3, z4, z5⟩ | q5
    ·
     exact Or.inl ⟨z1, z2, z3, z5⟩
    ·
     exact Or.inr q5
   ·
    rw [if_neg c]
    obtain ⟨sb, sn, se, q1, q2, q3, q4, q5⟩ := addG_num hf m a b na nb (by omega)
    refine ⟨sb, sn, se, q1, q3, q4, ?_⟩
    rcases q5 with ⟨z1, z2, z3, z4, z5⟩ | q5
    ·
     exact Or.inl ⟨z1, z2, z3, z5⟩
    ·
     exact Or.inr q5
theorem k_same {f : Int} (hf : yU f) {a b : Nat} (fa : Fit f a) (fb : Fit f b) (hn : kN f a = kN f b) (he : kE f a = kE f b) (ht : kT f a = kT f b) : a = b := by
 rw [← k_enc hf fa, ← k_enc hf fb, hn, he, ht]
theorem rAdd_is (f m : Int) (hf : yU f) (hm : 0 ≤ m ∧ m ≤ 4) (x1 y1 a x2 y2 b : Nat) (hx1 : x1 < 18446744073709551616) (hy1 : y1 < 18446744073709551616) (ha : y1 + 18446744073709551616 * x1 = a) (hx2 : x2 < 18446744073709551616) (hy2 : y2 < 18446744073709551616) (hb : y2 + 18446744073709551616 * x2 = b)
  (oa : okB f a = true) (ob : okB f b = true) (M : Nat) (fl : Int) (hr : addR f m a b = (M, fl)) (u v : Nat) (hv : xU M = (u, v)) (w : World) :
  Calls Tryz.prog 31 #[.int .u8 f, .int .u8 m, .agg #[.int .u64 x1, .int .u64 y1], .agg #[.int .u64 x2, .int .u64 y2]] w fun r w' => r = .returned (.tuple #[.agg #[.int .u64 u, .int .u64 v], .int .u8 fl, .int .i64 0]) ∧ Below w.heap.size w w' := by
 have h0 := (yN hf).1
 have fa := (okB_yes h0 oa).2
 have fb := (okB_yes h0 ob).2
 have KF := rfit2 f m h0 x1 y1 a x2 y2 b hx1 hy1 ha hx2 hy2 hb true (by rw [oa, ob, decide_eq_true (show f ≤ 3 ∧ m ≤ 4 from ⟨is4_le hf, hm.2⟩)]; rfl)
 obtain ⟨c1, Aa⟩ : ∃ c, kC f a = c := ⟨_, rfl⟩
 obtain ⟨c2, Ab⟩ : ∃ c, kC f b = c := ⟨_, rfl⟩
 have lc1 : c1 ≤ 9 := by rw [← Aa]; have := kC_lt f a; omega
 have lc2 : c2 ≤ 9 := by rw [← Ab]; have := kC_lt f b; omega
 have KN1 : ∀ o, decide (8 ≤ c1) = o → zO (∀ w, Calls Tryz.prog 78 #[.int .u8 f, .agg #[.int .u64 x1, .int .u64 y1]] w fun r w' => r = .returned (.bool o) ∧ Below w.heap.size w w') := fun o h => zJ (fun w => rNaN_is f hf x1 y1 a c1 o hx1 hy1 ha fa Aa h w)
 have KN2 : ∀ o, decide (8 ≤ c2) = o → zO (∀ w, Calls Tryz.prog 78 #[.int .u8 f, .agg #[.int .u64 x2, .int .u64 y2]] w fun r w' => r = .returned (.bool o) ∧ Below w.heap.size w w') := fun o h => zJ (fun w => rNaN_is f hf x2 y2 b c2 o hx2 hy2 hb fb Ab h w)
 by_cases n0 : 8 ≤ c1 ∨ 8 ≤ c2
 ·
  rw [addR_nan f m a b (by omega)] at hr
  injection hr with r1 r2
  have KC := rcan2 f hf x1 y1 a x2 y2 b hx1 hy1 ha hx2 hy2 hb fa fb fl r2 u v (by rw [r1]; exact hv)
  by_cases n1 : 8 ≤ c1
  ·
   exact qO f m x1 y1 x2 y2 u v fl false ⟨#[]⟩ ⟨#[]⟩ 0 false ⟨#[]⟩ ⟨#[]⟩ 0 false ⟨#[]⟩ ⟨#[]⟩ 0 0 w KF (zJ (Or.inl ⟨KN1 true (decide_eq_true n1), KC⟩))
  ·
   exact qO f m x1 y1 x2 y2 u v fl false ⟨#[]⟩ ⟨#[]⟩ 0 false ⟨#[]⟩ ⟨#[]⟩ 0 false ⟨#[]⟩ ⟨#[]⟩ 0 0 w KF (zJ (Or.inr ⟨KN1 false (decide_eq_false n1), zJ (Or.inl ⟨KN2 true (decide_eq_true (n0.resolve_left n1)), KC⟩)⟩))
 have KN1 := KN1 false (decide_eq_false (by omega))
 have KN2 := KN2 false (decide_eq_false (by omega))
 have KI1 : ∀ o, decide (c1 = 0 ∨ c1 = 7) = o → zO (∀ w, Calls Tryz.prog 80 #[.int .u8 f, .agg #[.int .u64 x1, .int .u64 y1]] w fun r w' => r = .returned (.bool o) ∧ Below w.heap.size w w') := fun o h => zJ (fun w => rInf_is f hf x1 y1 a c1 o hx1 hy1 ha fa Aa (by rw [← Bool.decide_or]; exact h) w)
 have KI2 : ∀ o, decide (c2 = 0 ∨ c2 = 7) = o → zO (∀ w, Calls Tryz.prog 80 #[.int .u8 f, .agg #[.int .u64 x2, .int .u64 y2]] w fun r w' => r = .returned (.bool o) ∧ Below w.heap.size w w') := fun o h => zJ (fun w => rInf_is f hf x2 y2 b c2 o hx2 hy2 hb fb Ab (by rw [← Bool.decide_or]; exact h) w)
 have KZ1 : ∀ o, decide (c1 = 3 ∨ c1 = 4) = o → zO (∀ w, Calls Tryz.prog 38 #[.int .u8 f, .agg #[.int .u64 x1, .int .u64 y1]] w fun r w' => r = .returned (.bool o) ∧ Below w.heap.size w w') := fun o h => zJ (fun w => rZero_is f hf x1 y1 a c1 o hx1 hy1 ha fa Aa (by rw [← Bool.decide_or]; exact h) w)
 have KZ2 : ∀ o, decide (c2 = 3 ∨ c2 = 4) = o → zO (∀ w, Calls Tryz.prog 38 #[.int .u8 f, .agg #[.int .u64 x2, .int .u64 y2]] w fun r w' => r = .returned (.bool o) ∧ Below w.heap.size w w') := fun o h => zJ (fun w => rZero_is f hf x2 y2 b c2 o hx2 hy2 hb fb Ab (by rw [← Bool.decide_or]; exact h) w)
 have KRN : xU (eNaN f) = (u, v) → zO (∀ w, Calls Tryz.prog 81 #[.int .u8 f] w fun r w' => r = .returned (.agg #[.int .u64 u, .int .u64 v]) ∧ Below w.heap.size w w') := fun h => zJ (fun w => by
  have := r_nan f hf _ rfl w
  rw [h] at this
  exact this)
 have KNO : xU (xN f (decide (m = 2))) = (u, v) → zO (∀ w, Calls Tryz.prog 82 #[.int .u8 f, .int .u8 m] w fun r w' => r = .returned (.agg #[.int .u64 u, .int .u64 v]) ∧ Below w.heap.size w w') := fun h => zJ (fun w => r_nought f m (decide (m = 2)) rfl u v w (zJ (fun w => by
  have := r_zero f (decide (m = 2)) hf _ rfl w
  rw [h] at this
  exact this)))
 by_cases i1 : c1 = 0 ∨ c1 = 7
 ·
  by_cases i2 : c2 = 0 ∨ c2 = 7
  ·
   rw [addR_inf2 f m a b (by omega) (by omega), Aa, Ab] at hr
   by_cases e : c1 ≠ c2
   ·
    rw [if_pos e] at hr
    injection hr with r1 r2
    subst r1 r2
    exact qO f m x1 y1 x2 y2 u v _ false ⟨#[]⟩ ⟨#[]⟩ 0 false ⟨#[]⟩ ⟨#[]⟩ 0 false ⟨#[]⟩ ⟨#[]⟩ 0 0 w KF (zJ (Or.inr ⟨KN1, zJ (Or.inr ⟨KN2, zJ (Or.inl ⟨KI1 true (decide_eq_true i1), zJ (Or.inl ⟨KI2 true (decide_eq_true i2), fun q => e (by rw [← Aa, ← Ab, ← ha, ← hb, q.1, q.2]), KRN hv, rfl⟩)⟩)⟩)⟩))
   ·
    rw [if_neg e] at hr
    injection hr with r1 r2
    subst r1 r2
    obtain ⟨v1, v2⟩ := bv_back hx1 hy1 ha hv
    have ka := kM_inf f a (by omega)
    have kb := kM_inf f b (by omega)
    obtain ⟨a1, a2, a3, a4, s1, s2, s3, s4, ca⟩ := cls_sg f a
    obtain ⟨b1, b2, b3, b4, t1, t2, t3, t4, cb⟩ := cls_sg f b
    have ab : a = b := k_same hf fa fb (by rw [ka.2, kb.2, Aa, Ab, show c1 = c2 by omega]) (by omega) (by omega)
    exact qO f m x1 y1 x2 y2 u v _ false ⟨#[]⟩ ⟨#[]⟩ 0 false ⟨#[]⟩ ⟨#[]⟩ 0 false ⟨#[]⟩ ⟨#[]⟩ 0 0 w KF (zJ (Or.inr ⟨KN1, zJ (Or.inr ⟨KN2, zJ (Or.inl ⟨KI1 true (decide_eq_true i1), zJ (Or.inr (Or.inl ⟨KI2 true (decide_eq_true i2), by omega, by omega, v1, v2, rfl⟩))⟩)⟩)⟩))
  ·
   rw [(addR_inf f m a b (by omega) (by omega)).1] at hr
   injection hr with r1 r2
   subst r1 r2
   obtain ⟨v1, v2⟩ := bv_back hx1 hy1 ha hv
   exact qO f m x1 y1 x2 y2 u v _ false ⟨#[]⟩ ⟨#[]⟩ 0 false ⟨#[]⟩ ⟨#[]⟩ 0 false ⟨#[]⟩ ⟨#[]⟩ 0 0 w KF (zJ (Or.inr ⟨KN1, zJ (Or.inr ⟨KN2, zJ (Or.inl ⟨KI1 true (decide_eq_true i1), zJ (Or.inr (Or.inr ⟨KI2 false (decide_eq_false i2), v1, v2, rfl⟩))⟩)⟩)⟩))
 have KI1 := KI1 false (decide_eq_false i1)
 by_cases i2 : c2 = 0 ∨ c2 = 7
 ·
  rw [(addR_inf f m b a (by omega) (by omega)).2] at hr
  injection hr with r1 r2
  subst r1 r2
  obtain ⟨v1, v2⟩ := bv_back hx2 hy2 hb hv
  exact qO f m x1 y1 x2 y2 u v _ false ⟨#[]⟩ ⟨#[]⟩ 0 false ⟨#[]⟩ ⟨#[]⟩ 0 false ⟨#[]⟩ ⟨#[]⟩ 0 0 w KF (zJ (Or.inr ⟨KN1, zJ (Or.inr ⟨KN2, zJ (Or.inr ⟨KI1, zJ (Or.inl ⟨KI2 true (decide_eq_true i2), v1, v2, rfl⟩)⟩)⟩)⟩))
 have KI2 := KI2 false (decide_eq_false i2)
 by_cases zz : (c1 = 3 ∨ c1 = 4) ∧ (c2 = 3 ∨ c2 = 4)
 ·
  rw [addR_zeros f m a b (by omega) (by omega)] at hr
  have za := kM_zero f a (by omega)
  have zb := kM_zero f b (by omega)
  by_cases e : kN f a = kN f b
  ·
   have ab : a = b := k_same hf fa fb e (by omega) (by omega)
   rw [if_pos e] at hr
   injection hr with r1 r2
   have az : xN f (kN f a) = a := by
    have := k_enc hf fa
    rw [za.2.1, za.2.2] at this
    exact this
   rw [az] at r1
   subst r1 r2
   obtain ⟨v1, v2⟩ := bv_back hx1 hy1 ha hv
   exact qO f m x1 y1 x2 y2 u v _ false ⟨#[]⟩ ⟨#[]⟩ 0 false ⟨#[]⟩ ⟨#[]⟩ 0 false ⟨#[]⟩ ⟨#[]⟩ 0 0 w KF (zJ (Or.inr ⟨KN1, zJ (Or.inr ⟨KN2, zJ (Or.inr ⟨KI1, zJ (Or.inr ⟨KI2, zJ (Or.inl ⟨KZ1 true (decide_eq_true zz.1), KZ2 true (decide_eq_true zz.2), by omega, by omega, v1, v2, rfl⟩)⟩)⟩)⟩)⟩))
  ·
   rw [if_neg e] at hr
   injection hr with r1 r2
   subst r1 r2
   exact qO f m x1 y1 x2 y2 u v _ false ⟨#[]⟩ ⟨#[]⟩ 0 false ⟨#[]⟩ ⟨#[]⟩ 0 false ⟨#[]⟩ ⟨#[]⟩ 0 0 w KF (zJ (Or.inr ⟨KN1, zJ (Or.inr ⟨KN2, zJ (Or.inr ⟨KI1, zJ (Or.inr ⟨KI2, zJ (Or.inr (Or.inl ⟨KZ1 true (decide_eq_true zz.1), KZ2 true (decide_eq_true zz.2), fun q => e (by rw [← ha, ← hb, q.1, q.2]), KNO hv, rfl⟩))⟩)⟩)⟩)⟩))
 obtain ⟨sb, sn, se, q1, q2, q3, q4⟩ := add_fin hf m a b (by omega) (by omega) (by rw [Aa, Ab]; exact zz)
 have ac := vX_can hf a (by omega)
 have bc := vX_can hf b (by omega)
 obtain ⟨b1, n1, d1, e1, va⟩ : ∃ b1 n1 d1 e1, vX f a = ⟨b1, n1, d1, e1⟩ := ⟨_, _, _, _, rfl⟩
 obtain ⟨b2, n2, d2, e2, vb⟩ : ∃ b2 n2 d2 e2, vX f b = ⟨b2, n2, d2, e2⟩ := ⟨_, _, _, _, rfl⟩
 rw [va, vb] at q1
 rw [va] at ac
 rw [vb] at bc
 have KV1 : zO (∀ w, Calls Tryz.prog 83 #[.int .u8 f, .agg #[.int .u64 x1, .int .u64 y1]] w fun r w' => r = .returned (.tuple #[.agg #[.bool b1, .string (yI n1), .string (yI d1), .int .i64 e1], .int .i64 0]) ∧ Below w.heap.size w w') := zJ (fun w => rValue_yes f hf x1 y1 a hx1 hy1 ha oa fa (by omega) _ _ _ _ _ _ va rfl rfl w)
 have KV2 : zO (∀ w, Calls Tryz.prog 83 #[.int .u8 f, .agg #[.int .u64 x2, .int .u64 y2]] w fun r w' => r = .returned (.tuple #[.agg #[.bool b2, .string (yI n2), .string (yI d2), .int .i64 e2], .int .i64 0]) ∧ Below w.heap.size w w') := zJ (fun w => rValue_yes f hf x2 y2 b hx2 hy2 hb ob fb (by omega) _ _ _ _ _ _ vb rfl rfl w)
 have KM : zO (∀ w, Calls Tryz.prog 84 #[.agg #[.bool b1, .string (yI n1), .string (yI d1), .int .i64 e1], .agg #[.bool b2, .string (yI n2), .string (yI d2), .int .i64 e2]] w fun r w' => r = .returned (.tuple #[.agg #[.bool sb, .string (yI sn), .string (yI 1), .int .i64 se], .int .i64 0]) ∧ Below w.heap.size w w') := zJ (fun w => rAdd_ok _ _ _ _ _ _ _ _ _ _ _ _ sb sn 1 se 0 _ _ rfl rfl rfl rfl ac bc q1 rfl rfl w)
 rcases q4 with ⟨z1, z2, z3, z4⟩ | ⟨z1, z2⟩
 ·
  subst z1 z2 z3
  rw [z4] at hr
  injection hr with r1 r2
  subst r1 r2
  rw [yX] at KM
  by_cases za : c1 = 3 ∨ c1 = 4
  ·
   exact qO f m x1 y1 x2 y2 u v _ b1 _ _ e1 b2 _ _ e2 false _ _ 0 0 w KF (zJ (Or.inr ⟨KN1, zJ (Or.inr ⟨KN2, zJ (Or.inr ⟨KI1, zJ (Or.inr ⟨KI2, zJ (Or.inr (Or.inr (Or.inl ⟨KZ1 true (decide_eq_true za), KZ2 false (decide_eq_false (fun q => zz ⟨za, q⟩)), KV1, KV2, KM, zJ (Or.inr ⟨by decide +kernel, KNO hv, rfl⟩)⟩)))⟩)⟩)⟩)⟩))
  ·
   exact qO f m x1 y1 x2 y2 u v _ b1 _ _ e1 b2 _ _ e2 false _ _ 0 0 w KF (zJ (Or.inr ⟨KN1, zJ (Or.inr ⟨KN2, zJ (Or.inr ⟨KI1, zJ (Or.inr ⟨KI2, zJ (Or.inr (Or.inr (Or.inr ⟨KZ1 false (decide_eq_false za), KV1, KV2, KM, zJ (Or.inr ⟨by decide +kernel, KNO hv, rfl⟩)⟩)))⟩)⟩)⟩)⟩))
 ·
  have KR : zO (∀ w, Calls Tryz.prog 85 #[.int .u8 f, .int .u8 m, .agg #[.bool sb, .string (yI sn), .string (yI 1), .int .i64 se]] w fun r w' => r = .returned (.tuple #[.agg #[.int .u64 u, .int .u64 v], .int .u8 fl, .int .i64 0]) ∧ Below w.heap.size w w') := zJ (fun w => rRound_is0 f m hf hm sb sn 1 _ _ se rfl rfl q2 q3 (Nat.le_trans (qC 1 1 (by decide)) (by decide)) M fl (by rw [z2]; exact hr) u v hv w)
  have he : (yI sn).toList.isEmpty = false := by
   rcases x_cases (s := yI sn) (t := yI 1) rfl rfl q2 with ⟨q, _⟩ | ⟨_, q⟩
   ·
    exact absurd q z1
   ·
    cases h : (yI sn).toList with
    | nil => rw [h] at q; exact absurd q (by decide)
    | cons a l => rfl
  by_cases za : c1 = 3 ∨ c1 = 4
  ·
   exact qO f m x1 y1 x2 y2 u v _ b1 _ _ e1 b2 _ _ e2 sb _ _ se 0 w KF (zJ (Or.inr ⟨KN1, zJ (Or.inr ⟨KN2, zJ (Or.inr ⟨KI1, zJ (Or.inr ⟨KI2, zJ (Or.inr (Or.inr (Or.inl ⟨KZ1 true (decide_eq_true za), KZ2 false (decide_eq_false (fun q => zz ⟨za, q⟩)), KV1, KV2, KM, zJ (Or.inl ⟨he, KR⟩)⟩)))⟩)⟩)⟩)⟩))
  ·
   exact qO f m x1 y1 x2 y2 u v _ b1 _ _ e1 b2 _ _ e2 sb _ _ se 0 w KF (zJ (Or.inr ⟨KN1, zJ (Or.inr ⟨KN2, zJ (Or.inr ⟨KI1, zJ (Or.inr ⟨KI2, zJ (Or.inr (Or.inr (Or.inr ⟨KZ1 false (decide_eq_false za), KV1, KV2, KM, zJ (Or.inl ⟨he, KR⟩)⟩)))⟩)⟩)⟩)⟩))
theorem kAdd_yes (f m : Int) (hf : yU f) (hm : 0 ≤ m ∧ m ≤ 4) (x1 y1 a x2 y2 b : Nat) (hx1 : x1 < 18446744073709551616) (hy1 : y1 < 18446744073709551616) (ha : y1 + 18446744073709551616 * x1 = a) (hx2 : x2 < 18446744073709551616) (hy2 : y2 < 18446744073709551616) (hb : y2 + 18446744073709551616 * x2 = b)
  (oa : okB f a = true) (ob : okB f b = true) (M : Nat) (fl : Int) (hr : addR f m a b = (M, fl)) (u v : Nat) (hv : xU M = (u, v)) (w : World) (hT : yG w) :
  Calls Tryz.prog 30 #[.int .u8 f, .int .u8 m, .agg #[.int .u64 x1, .int .u64 y1], .agg #[.int .u64 x2, .int .u64 y2]] w fun r w' => r = .returned (.tuple #[.agg #[.int .u64 u, .int .u64 v], .int .u8 fl, .int .i64 0]) ∧ Below w.heap.size w w' :=
 add_add_yes f m x1 y1 x2 y2 u v 0 0 fl 0 w (kmay2 f m (yN hf).1 (yN hf).2.1 hm.1 x1 y1 a x2 y2 b hx1 hy1 ha hx2 hy2 hb true (by rw [oa, ob, decide_eq_true (show f ≤ 3 ∧ m ≤ 4 from ⟨is4_le hf, hm.2⟩)]; rfl)) (zJ (fun w hT => kplus_is2 f m hf hm x1 y1 a x2 y2 b hx1 hy1 ha hx2 hy2 hb oa ob M fl hr u v hv w hT)) hT
theorem al11 : addR 2 0 15360 15360 = (16384, 0) ∧ okB 2 15360 = true := by decide +kernel
theorem r11alive (w : World) (hT : yG w) : Calls Tryz.prog 34 #[] w fun r w' => r = .returned (.bool true) ∧ Below w.heap.size w w' := by
 have FF := zJ hT
 have K1 : zO (∀ w, yG w → Calls Tryz.prog 30 #[.int .u8 2, .int .u8 0, .agg #[.int .u64 0, .int .u64 15360], .agg #[.int .u64 0, .int .u64 15360]] w fun r w' => r = .returned (.tuple #[.agg #[.int .u64 0, .int .u64 16384], .int .u8 0, .int .i64 0]) ∧ Below w.heap.size w w') := zJ (fun w hT => kAdd_yes 2 0 (by unfold yU; omega) (by decide) 0 15360 15360 0 15360 15360 (by decide) (by decide) rfl (by decide) (by decide) rfl al11.2 al11.2 _ _ al11.1 0 16384 rfl w hT)
 clear hT
 have B0 : Below w.heap.size w w := (Below.refl _ _)
 go_enter Tryz.func34, Tryz.ntmps34
 go_wp2_with fail
 refine (K1.out _ (zZ FF.out B0)).mono ?_
 rintro r w1 ⟨rfl, b1⟩
 have B1 := zU B0 b1
 clear b1 B0 
 have S2 := zJ B1.size
 have Aa := heap_alloc_last w1 (Obj.cells #[.int .u64 0, .int .u64 16384] 25)
 have B2 := zU B1 (yO w1 (Obj.cells #[.int .u64 0, .int .u64 16384] 25))
 clear B1 
 obtain ⟨Ab, Ac⟩ := zC Aa
 go_wp2
 go_ret
 exact ⟨rfl, B2⟩
def kl (f : Int) (n : Nat) : Bool := !okB f n || decide (kC f n = 0 ∨ 7 ≤ kC f n)
theorem fit_ok {f : Int} (hf : yU f) {n : Nat} (h : Fit f n) : okB f n = true := by
 unfold okB
 rw [decide_eq_true_iff]
 exact ⟨is4_le hf, h⟩
theorem addG_ok {f : Int} (hf : yU f) (m : Int) (g l : Nat) (hg : okB f g = true) : okB f (addG f m g l).1 = true := by
 have p := Nat.two_pow_pos (pV f)
 have nan : okB f (eNaN f) = true := fit_ok hf (enc_k hf false (e := oV f) (t := 2 ^ (pV f - 1)) (Nat.le_refl _) (by
  have : 2 ≤ pV f := by rcases hf with rfl | rfl | rfl | rfl <;> decide +kernel
  exact Nat.pow_lt_pow_right (by decide) (by omega))).1
 unfold addG
 split
 ·
  exact nan
 ·
  split
  ·
   exact nan
  ·
   split
   ·
    split
    ·
     exact nan
    ·
     exact hg
   ·
    split
    ·
     exact fit_ok hf (enc_k hf _ (e := 0) (t := 0) (Nat.zero_le _) p).1
    ·
     rename_i q
     obtain ⟨ee, t, fl, h1, h2, h2b, h3, h4⟩ := dlv_enc hf (q_ok (f := f) _ q) m (kN f g) (kX f g - 3 + (zT (adS f g l) : Int) - 1) (qM (pV f + 1) (adS f g l) false)
     show okB f (dlv f m (kN f g) (kX f g - 3 + (zT (adS f g l) : Int) - 1) (qW (pV f + 1) (adS f g l)) (qM (pV f + 1) (adS f g l) false)).1 = true
     rw [h3]
     exact fit_ok hf (enc_k hf _ h1 h2).1
theorem addR_ok {f : Int} (hf : yU f) (m : Int) (a b : Nat) (ha : okB f a = true) (hb : okB f b = true) : okB f (addR f m a b).1 = true := by
 unfold addR
 split
 ·
  exact addG_ok hf m b a hb
 ·
  exact addG_ok hf m a b ha
theorem ok_lt {f : Int} (hf : yU f) {n : Nat} (h : okB f n = true) : n < 340282366920938463463374607431768211456 := by
 have fit := (okB_yes (yN hf).1 h).2
 have := (fm hf).2.2.2.2.2.2
 unfold Fit at fit
 omega
end Go.Proofs.YtoaaajeblhaeoaaGreatDoor
namespace Go.Proofs.YtoaaajeblhaeoaaGreatDoor
set_option maxRecDepth 100000
set_option maxHeartbeats 40000000
open Go.RowKit WMath
set_option linter.unusedSimpArgs false
set_option linter.unusedVariables false
def fT (T : Nat × Nat → Nat × Nat → (Nat × Nat) × Int) : Nat × Nat → Int → List (Nat × Nat) → (Nat × Nat) × Int
  | p, a, [] => (p, a)
  | p, a, q :: t => fT T (T p q).1 (bits .or .u8 a (T p q).2) t
theorem fT_snoc (T : Nat × Nat → Nat × Nat → (Nat × Nat) × Int) (l : List (Nat × Nat)) (q : Nat × Nat) : ∀ (p : Nat × Nat) (a : Int), fT T p a (l ++ [q]) = ((T (fT T p a l).1 q).1, bits .or .u8 (fT T p a l).2 (T (fT T p a l).1 q).2) := by
 induction l with
 | nil => intro p a; rfl
 | cons x t ih => intro p a; exact ih _ _
theorem fT_take (T : Nat × Nat → Nat × Nat → (Nat × Nat) × Int) (l : List (Nat × Nat)) (k : Nat) (q : Nat × Nat) (h : l[k]? = some q) (p : Nat × Nat) (a : Int) : fT T p a (l.take (k + 1)) = ((T (fT T p a (l.take k)).1 q).1, bits .or .u8 (fT T p a (l.take k)).2 (T (fT T p a (l.take k)).1 q).2) := by
 rw [List.take_add_one, h]
 exact fT_snoc T _ q p a
theorem fT_ok (T : Nat × Nat → Nat × Nat → (Nat × Nat) × Int) (ok : Nat × Nat → Prop) (hs : ∀ p q, ok p → ok q → ok (T p q).1) (l : List (Nat × Nat)) : ∀ (p : Nat × Nat) (a : Int), ok p → (∀ q ∈ l, ok q) → ok (fT T p a l).1 := by
 induction l with
 | nil => intro p a h _; exact h
 | cons x t ih => intro p a h hl; exact ih _ _ (hs _ _ h (hl x (List.mem_cons_self ..))) (fun q hq => hl q (List.mem_cons_of_mem _ hq))
theorem rfg_list (f m : Int) (h0 : 0 ≤ f) (l : List (Nat × Nat)) (L g z c : Nat) (w : World) (hl : l.length = L) (hL : L ≤ 1000) (hb : zO (∀ p ∈ l, p.1 < 18446744073709551616 ∧ p.2 < 18446744073709551616)) (HC : zO (∀ W, Below w.heap.size w W → ∀ k p, l[k]? = some p → W.cell? ⟨g, z + k * 2, none⟩ = some (.int .u64 (p.1 : Nat)) ∧ W.cell? ⟨g, z + k * 2 + 1, none⟩ = some (.int .u64 (p.2 : Nat))))
  (KR : zO (∀ w, Calls Tryz.prog 14 #[.int .u8 f] w fun r w' => r = .returned (.bool true) ∧ Below w.heap.size w w')) (KM : zO (∀ w, Calls Tryz.prog 19 #[.int .u8 m] w fun r w' => r = .returned (.bool true) ∧ Below w.heap.size w w'))
  (o : Bool) (ho : l.all (okP f) = o) : Calls Tryz.prog 77 #[.int .u8 f, .int .u8 m, .slice (some ⟨g, z, none⟩) L c] w fun r w' => r = .returned (.bool o) ∧ Below w.heap.size w w' := by
 have HO := zJ ho
 have HL := zJ hl
 have HF := zJ h0
 clear ho hl h0
 go_enter Tryz.func77, Tryz.ntmps77
 go_wp2_with fail
 refine (KR.out _).mono ?_
 rintro r w1 ⟨rfl, b1⟩
 go_wp2_with fail
 refine (KM.out _).mono ?_
 rintro r w2 ⟨rfl, b2⟩
 have BP := zU b1 b2
 clear b1 b2 KR KM
 go_wp2
 go_loopw [7] (fun iv wr => ∃ k : Nat, k ≤ L ∧ iv = .int .i64 k ∧ Below w.heap.size w wr ∧ zO (∀ j p, j < k → l[j]? = some p → okP f p = true)) (fun iv _ => L - (intOf iv).toNat)
 case atStart => exact ⟨0, by omega, rfl, BP, zJ (fun j s hj => absurd hj (by omega))⟩
 case round =>
  obtain ⟨k, hk, rfl, bw, HA⟩ := hrel
  by_cases hlt : k < L
  ·
   obtain ⟨p, hs⟩ : ∃ p, l[k]? = some p := ⟨_, List.getElem?_eq_getElem (by rw [HL.out]; exact hlt)⟩
   obtain ⟨c1, c2⟩ := HC.out _ bw k p hs
   have dl : decide ((k : Int) < (L : Int)) = true := decide_eq_true (by omega)
   have HS := zJ hs
   obtain ⟨o1, hm⟩ : ∃ o1, okP f p = o1 := ⟨_, rfl⟩
   have HM := zJ hm
   have hp := hb.out p (List.mem_of_getElem? hs)
   have KC : zO (∀ w, Calls Tryz.prog 48 #[.int .u8 f, .agg #[.int .u64 (p.1 : Nat), .int .u64 (p.2 : Nat)]] w fun r w' => r = .returned (.bool o1) ∧ Below w.heap.size w w') := zJ (fun w => rk_fits f p.1 p.2 _ o1 HF.out hp.1 hp.2 rfl hm w)
   clear hs hm hp
   cases o1
   ·
    have e : o = false := by
     rw [← HO.out, Bool.eq_false_iff]
     intro h
     rw [List.all_eq_true] at h
     have := h p (List.mem_of_getElem? HS.out)
     rw [HM.out] at this
     exact absurd this (by decide)
    subst e
    go_wp2_with fail
    refine (KC.out _).mono ?_
    rintro r w2 ⟨rfl, b2⟩
    go_wp2
    go_ret
    exact ⟨rfl, zU bw b2⟩
   ·
    have NA : zO (∀ j p, j < k + 1 → l[j]? = some p → okP f p = true) := zJ (fun j p2 hj h2 => by
     by_cases e : j = k
     ·
      subst e
      rw [HS.out] at h2
      cases h2
      exact HM.out
     ·
      exact HA.out j p2 (by omega) h2)
    go_wp2_with fail
    refine (KC.out _).mono ?_
    rintro r w2 ⟨rfl, b2⟩
    go_wp2
    go_roundw
    case rel => exact ⟨k + 1, by omega, by go_num, zU bw b2, NA⟩
    case measure => simp [intOf] <;> omega
  ·
   obtain rfl : k = L := by omega
   have e : o = true := by
    rw [← HO.out, List.all_eq_true]
    intro s hs
    obtain ⟨j, hj⟩ := List.mem_iff_getElem?.1 hs
    have := (List.getElem?_eq_some_iff.1 hj).1
    exact HA.out j s (by rw [← HL.out]; exact this) hj
   subst e
   have dl : decide ((k : Int) < (k : Int)) = false := by rw [decide_eq_false_iff_not]; omega
   go_wp2
   go_ret
   exact ⟨rfl, bw⟩
theorem opg_may (f m : Int) (hf : yU f) (l : List (Nat × Nat)) (L g z c : Nat) (w : World) (hl : l.length = L) (hL : L ≤ 1000) (hb : zO (∀ p ∈ l, p.1 < 18446744073709551616 ∧ p.2 < 18446744073709551616)) (HC : zO (∀ W, Below w.heap.size w W → ∀ k p, l[k]? = some p → W.cell? ⟨g, z + k * 2, none⟩ = some (.int .u64 (p.1 : Nat)) ∧ W.cell? ⟨g, z + k * 2 + 1, none⟩ = some (.int .u64 (p.2 : Nat)))) (pu pv : Nat) (fl : Int)
  (KP : zO (∀ w, yG w → Calls Tryz.prog 93 #[.int .u8 f, .int .u8 m, .agg (rg false 0 0 false)] w fun r w' => r = .returned (.tuple #[.agg #[.int .u64 pu, .int .u64 pv], .int .u8 fl, .int .i64 0]) ∧ Below w.heap.size w w'))
  (o : Bool) (ho : l.all (okP f) = o) (hT : yG w) : Calls Tryz.prog 75 #[.int .u8 f, .int .u8 m, .slice (some ⟨g, z, none⟩) L c] w fun r w' => r = .returned (.bool o) ∧ Below w.heap.size w w' := by
 have FF := zJ hT
 have HO := zJ ho
 have HL := zJ hl
 have HF := zJ hf
 clear ho hl hT hf
 have hp3 := rgz
 go_enter Tryz.func75, Tryz.ntmps75
 go_wp2_with fail
 refine (KP.out _ FF.out).mono ?_
 rintro r w1 ⟨rfl, b1⟩
 have BP := zU b1 (yO w1 (.cells #[.int .u64 pu, .int .u64 pv] 25))
 obtain ⟨V, hV⟩ : ∃ V, w1.alloc (.cells #[.int .u64 pu, .int .u64 pv] 25) = V := ⟨_, rfl⟩
 go_wp2
 rw [hV] at BP
 clear b1 KP hV
 go_loopw [26] (fun iv wr => ∃ k : Nat, k ≤ L ∧ iv = .int .i64 k ∧ Below w.heap.size w wr ∧ zO (∀ j p, j < k → l[j]? = some p → okP f p = true)) (fun iv _ => L - (intOf iv).toNat)
 case atStart => exact ⟨0, by omega, rfl, BP, zJ (fun j s hj => absurd hj (by omega))⟩
 case round =>
  obtain ⟨k, hk, rfl, bw, HA⟩ := hrel
  by_cases hlt : k < L
  ·
   obtain ⟨p, hs⟩ : ∃ p, l[k]? = some p := ⟨_, List.getElem?_eq_getElem (by rw [HL.out]; exact hlt)⟩
   obtain ⟨c1, c2⟩ := HC.out _ bw k p hs
   have dl : decide ((k : Int) < (L : Int)) = true := decide_eq_true (by omega)
   have HS := zJ hs
   obtain ⟨o1, hm⟩ : ∃ o1, okP f p = o1 := ⟨_, rfl⟩
   have HM := zJ hm
   obtain ⟨cc, ee, hee, KC⟩ := kClass_any f HF.out p (hb.out p (List.mem_of_getElem? hs)) o1 hm
   have FA : zO (yG (wr.alloc (.cells #[.int .u64 (p.1 : Nat), .int .u64 (p.2 : Nat)] 25))) := zJ (zZ FF.out (zU bw (yO _ _)))
   have BA := zU bw (yO wr (.cells #[.int .u64 (p.1 : Nat), .int .u64 (p.2 : Nat)] 25))
   clear hs hm
   cases o1
   ·
    have e : o = false := by
     rw [← HO.out, Bool.eq_false_iff]
     intro h
     rw [List.all_eq_true] at h
     have := h p (List.mem_of_getElem? HS.out)
     rw [HM.out] at this
     exact absurd this (by decide)
    subst e
    go_wp2_with fail
    refine (KC.out _ FA.out).mono ?_
    rintro r w2 ⟨rfl, b2⟩
    go_wp2
    go_ret
    exact ⟨rfl, zU BA b2⟩
   ·
    have NA : zO (∀ j p, j < k + 1 → l[j]? = some p → okP f p = true) := zJ (fun j p2 hj h2 => by
     by_cases e : j = k
     ·
      subst e
      rw [HS.out] at h2
      cases h2
      exact HM.out
     ·
      exact HA.out j p2 (by omega) h2)
    go_wp2_with fail
    refine (KC.out _ FA.out).mono ?_
    rintro r w2 ⟨rfl, b2⟩
    go_wp2
    go_roundw
    case rel => exact ⟨k + 1, by omega, by go_num, zU BA b2, NA⟩
    case measure => simp [intOf] <;> omega
  ·
   obtain rfl : k = L := by omega
   have e : o = true := by
    rw [← HO.out, List.all_eq_true]
    intro s hs
    obtain ⟨j, hj⟩ := List.mem_iff_getElem?.1 hs
    have := (List.getElem?_eq_some_iff.1 hj).1
    exact HA.out j s (by rw [← HL.out]; exact this) hj
   subst e
   have dl : decide ((k : Int) < (k : Int)) = false := by rw [decide_eq_false_iff_not]; omega
   go_wp2
   go_ret
   exact ⟨rfl, bw⟩
end Go.Proofs.YtoaaajeblhaeoaaGreatDoor
