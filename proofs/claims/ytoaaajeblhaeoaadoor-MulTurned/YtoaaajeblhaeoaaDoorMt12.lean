/-
  What the functions that the statement reaches return: part 12 (M2, A3, A5, M5, M6).
-/
import Derived.Test.YtoaaajeblhaeoaaDoorMt11
namespace Go.Proofs.YtoaaajeblhaeoaaDoor
set_option maxRecDepth 100000
set_option maxHeartbeats 40000000
set_option maxRecDepth 100000
open Go.RowKit WMath XMath
set_option linter.unusedSimpArgs false
set_option linter.unusedVariables false
theorem ov_inf (f : Int) (neg : Bool) : ovB f 0 neg = eInf f neg := by
  unfold ovB
  rw [if_pos (by unfold gO; rw [if_pos rfl]; rfl)]
theorem nan_or {f : Int} (hf : Is4 f) : eInf f false ||| eInf f false / 2 = eNaN f ∧ eInf f false < 340282366920938463463374607431768211456 ∧ eNaN f < 340282366920938463463374607431768211456 := by
  rcases hf with rfl | rfl | rfl | rfl <;> decide +kernel
theorem kInf_is (f : Int) (hf : Is4 f) (neg : Bool) (u v : Nat) (hv : bv7 (eInf f neg) = (u, v)) (w : World) (hT : FAt w) : Calls Tryd.prog 39 #[.int .u8 f, .bool neg] w fun r w' => r = .returned (.agg #[.int .u64 u, .int .u64 v]) ∧ Below w.heap.size w w' :=
  op_inf f neg u v w (box (fun w hT => kover f 0 hf (by decide) neg u v (by rw [ov_inf]; exact hv) w hT)) hT
theorem kNaN_is (f : Int) (hf : Is4 f) (u v : Nat) (hv : bv7 (eNaN f) = (u, v)) (w : World) (hT : FAt w) : Calls Tryd.prog 28 #[.int .u8 f] w fun r w' => r = .returned (.agg #[.int .u64 u, .int .u64 v]) ∧ Below w.heap.size w w' := by
  obtain ⟨n1, n2, n3⟩ := nan_or hf
  obtain ⟨iu, iv, hi⟩ : ∃ iu iv, bv7 (eInf f false) = (iu, iv) := ⟨_, _, rfl⟩
  obtain ⟨i1, i2, i3⟩ := bv_lt n2 hi
  obtain ⟨w0, w1⟩ := wd01 n3
  have hQ := lt_Q7 n2
  have hQ2 := lt_Q7 n3
  have hQ3 : eInf f false / 2 < Q := Nat.lt_of_le_of_lt (Nat.div_le_self _ _) hQ
  unfold bv7 at hv
  injection hv with v1 v2
  have KT : Box (∀ w, Calls Tryd.prog 60 #[.agg (cw 6 (eNaN f))] w fun r w' => r = .returned (.tuple #[.agg #[.int .u64 u, .int .u64 v], .bool true]) ∧ Below w.heap.size w w') := box (fun w => by
    have := wtobits_yes (eNaN f) hQ2 (by rw [w0, w1]; exact Nat.mod_add_div _ _) w
    rw [w0, w1, v1, v2] at this
    exact this)
  exact op_nan f iu iv _ _ _ u v _ true w (box (fun w hT => kInf_is f hf false iu iv hi w hT)) (box (fun w => wofbits_is iu iv _ i1 i2 i3 w))
    (box (fun w => wright_is (eInf f false) (eInf f false / 2) 1 _ hQ rfl rfl w)) (box (fun w => wor_is _ _ _ hQ hQ3 n1 w)) KT hT
def mulR (f m : Int) (a b : Nat) : Nat × Int :=
  if kC f a = 8 ∨ kC f b = 8 then (eNaN f, 16)
  else if kC f a = 9 ∨ kC f b = 9 then (eNaN f, 0)
  else if ((kC f a = 0 ∨ kC f a = 7) ∧ (kC f b = 3 ∨ kC f b = 4)) ∨ ((kC f b = 0 ∨ kC f b = 7) ∧ (kC f a = 3 ∨ kC f a = 4)) then (eNaN f, 16)
  else if (kC f a = 0 ∨ kC f a = 7) ∨ (kC f b = 0 ∨ kC f b = 7) then (eInf f (kN f a != kN f b), 0)
  else if (kC f a = 3 ∨ kC f a = 4) ∨ (kC f b = 3 ∨ kC f b = 4) then (eZero f (kN f a != kN f b), 0)
  else dlv f m (kN f a != kN f b) (kX f a + kX f b + (blen (kS f a * kS f b) : Int) - 1) (qW (pV f + 1) (kS f a * kS f b)) (qM (pV f + 1) (kS f a * kS f b) false)
theorem ieq {c : Nat} {k : Int} (h : (c : Int) = k) : ((c : Int) == k) = true := by rw [h]; exact beq_self_eq_true k
theorem ine {c : Nat} {k : Int} (h : (c : Int) ≠ k) : ((c : Int) == k) = false := beq_eq_false_iff_ne.2 h
theorem q256 {s : Nat} (h : s < 2 ^ 256) : s < Q := Nat.lt_of_lt_of_le h (by decide +kernel)
theorem ktimes_is (f m : Int) (hf : Is4 f) (hm : 0 ≤ m ∧ m ≤ 4) (x1 y1 a x2 y2 b : Nat) (hx1 : x1 < 18446744073709551616) (hy1 : y1 < 18446744073709551616) (ha : y1 + 18446744073709551616 * x1 = a) (hx2 : x2 < 18446744073709551616) (hy2 : y2 < 18446744073709551616) (hb : y2 + 18446744073709551616 * x2 = b)
    (oa : okB f a = true) (ob : okB f b = true) (M : Nat) (fl : Int) (hr : mulR f m a b = (M, fl)) (u v : Nat) (hv : bv7 M = (u, v)) (w : World) (hT : FAt w) :
    Calls Tryd.prog 20 #[.int .u8 f, .int .u8 m, .agg #[.int .u64 x1, .int .u64 y1], .agg #[.int .u64 x2, .int .u64 y2]] w fun r w' => r = .returned (.tuple #[.agg #[.int .u64 u, .int .u64 v], .int .u8 fl, .int .i64 0]) ∧ Below w.heap.size w w' := by
  obtain ⟨sa1, sa2, sa3⟩ := kS_lim hf a
  obtain ⟨sb1, sb2, sb3⟩ := kS_lim hf b
  obtain ⟨c1, Aa⟩ : ∃ c, kC f a = c := ⟨_, rfl⟩
  obtain ⟨c2, Ab⟩ : ∃ c, kC f b = c := ⟨_, rfl⟩
  obtain ⟨m1, hm1⟩ : ∃ c, kS f a = c := ⟨_, rfl⟩
  obtain ⟨m2, hm2⟩ : ∃ c, kS f b = c := ⟨_, rfl⟩
  obtain ⟨X1, hX1⟩ : ∃ c, kX f a = c := ⟨_, rfl⟩
  obtain ⟨X2, hX2⟩ : ∃ c, kX f b = c := ⟨_, rfl⟩
  obtain ⟨s1, hs1⟩ : ∃ c, kN f a = c := ⟨_, rfl⟩
  obtain ⟨s2, hs2⟩ : ∃ c, kN f b = c := ⟨_, rfl⟩
  obtain ⟨neg, hng⟩ : ∃ c, (s1 != s2) = c := ⟨_, rfl⟩
  have KU1 : Box (∀ w, FAt w → Calls Tryd.prog 27 #[.int .u8 f, .agg #[.int .u64 x1, .int .u64 y1]] w fun r w' => r = .returned (.tuple #[.agg (pt c1 m1 X1 (kF f a)), .int .i64 0]) ∧ Below w.heap.size w w') := box (fun w hT => kUnpack_yes f hf x1 y1 a c1 m1 (kF f a) X1 hx1 hy1 ha oa (by unfold kp; rw [Aa, hm1, hX1]) w hT)
  have KU2 : Box (∀ w, FAt w → Calls Tryd.prog 27 #[.int .u8 f, .agg #[.int .u64 x2, .int .u64 y2]] w fun r w' => r = .returned (.tuple #[.agg (pt c2 m2 X2 (kF f b)), .int .i64 0]) ∧ Below w.heap.size w w') := box (fun w hT => kUnpack_yes f hf x2 y2 b c2 m2 (kF f b) X2 hx2 hy2 hb ob (by unfold kp; rw [Ab, hm2, hX2]) w hT)
  have KS1 : Box (∀ w, FAt w → Calls Tryd.prog 9 #[.int .u8 f, .agg #[.int .u64 x1, .int .u64 y1]] w fun r w' => r = .returned (.bool s1) ∧ Below w.heap.size w w') := box (fun w hT => kSign_yes f hf x1 y1 a s1 hx1 hy1 ha oa hs1 w hT)
  have KS2 : Box (∀ w, FAt w → Calls Tryd.prog 9 #[.int .u8 f, .agg #[.int .u64 x2, .int .u64 y2]] w fun r w' => r = .returned (.bool s2) ∧ Below w.heap.size w w') := box (fun w hT => kSign_yes f hf x2 y2 b s2 hx2 hy2 hb ob hs2 w hT)
  have z1 := fun h => k_null (f := f) a h
  have z2 := fun h => k_null (f := f) b h
  have p1 := fun h => k_parts (f := f) a h
  have p2 := fun h => k_parts (f := f) b h
  unfold mulR at hr
  rw [Aa, Ab, hs1, hs2, hng, hX1, hX2, hm1, hm2] at hr
  rw [Aa, hm1, hX1] at z1
  rw [Ab, hm2, hX2] at z2
  rw [Aa, hm1] at p1
  rw [Ab, hm2] at p2
  rw [hm1] at sa1
  rw [hX1] at sa2 sa3
  rw [hm2] at sb1
  rw [hX2] at sb2 sb3
  have lc1 : c1 ≤ 9 := by rw [← Aa]; have := kC_lt f a; omega
  have lc2 : c2 ≤ 9 := by rw [← Ab]; have := kC_lt f b; omega
  have KN : ∀ g, bv7 (eNaN f) = (u, v) → Box (∀ w, FAt w → Calls Tryd.prog 28 #[.int .u8 f] w fun r w' => r = .returned (.agg #[.int .u64 u, .int .u64 v]) ∧ Below w.heap.size w w') := fun (g : Unit) h => box (fun w hT => kNaN_is f hf u v h w hT)
  by_cases a1 : c1 = 8 ∨ c2 = 8
  · rw [if_pos a1] at hr
    injection hr with r1 r2
    subst r1 r2
    by_cases a2 : c1 = 8
    · exact mu_all f m x1 y1 x2 y2 u v c1 m1 X1 _ c2 m2 X2 _ s1 s2 neg 0 0 _ w hng KU1 KU2 KS1 KS2 (box (Or.inl ⟨ieq (by omega), KN () hv, rfl⟩)) hT
    · exact mu_all f m x1 y1 x2 y2 u v c1 m1 X1 _ c2 m2 X2 _ s1 s2 neg 0 0 _ w hng KU1 KU2 KS1 KS2 (box (Or.inr (Or.inl ⟨ine (by omega), ieq (by omega), KN () hv, rfl⟩))) hT
  rw [if_neg a1] at hr
  have h18 : ((c1 : Int) == 8) = false := ine (by omega)
  have h28 : ((c2 : Int) == 8) = false := ine (by omega)
  by_cases b1 : c1 = 9 ∨ c2 = 9
  · rw [if_pos b1] at hr
    injection hr with r1 r2
    subst r1 r2
    by_cases a2 : c1 = 9
    · exact mu_all f m x1 y1 x2 y2 u v c1 m1 X1 _ c2 m2 X2 _ s1 s2 neg 0 0 _ w hng KU1 KU2 KS1 KS2 (box (Or.inr (Or.inr (Or.inl ⟨h18, h28, ieq (by omega), KN () hv, rfl⟩)))) hT
    · exact mu_all f m x1 y1 x2 y2 u v c1 m1 X1 _ c2 m2 X2 _ s1 s2 neg 0 0 _ w hng KU1 KU2 KS1 KS2 (box (Or.inr (Or.inr (Or.inr (Or.inl ⟨h18, h28, ine (by omega), ieq (by omega), KN () hv, rfl⟩))))) hT
  rw [if_neg b1] at hr
  have h19 : ((c1 : Int) == 9) = false := ine (by omega)
  have h29 : ((c2 : Int) == 9) = false := ine (by omega)
  have KE1 : ∀ o, (decide (c1 = 0) || decide (c1 = 7)) = o → Box (∀ w, Calls Tryd.prog 29 #[.int .u8 c1] w fun r w' => r = .returned (.bool o) ∧ Below w.heap.size w w') := fun o h => box (fun w => op_endless c1 o h w)
  have KE2 : ∀ o, (decide (c2 = 0) || decide (c2 = 7)) = o → Box (∀ w, Calls Tryd.prog 29 #[.int .u8 c2] w fun r w' => r = .returned (.bool o) ∧ Below w.heap.size w w') := fun o h => box (fun w => op_endless c2 o h w)
  have KT1 : ∀ o, decide ((c1 = 0 ∨ c1 = 7) ∧ (c2 = 3 ∨ c2 = 4)) = o → Box (∀ w, Calls Tryd.prog 38 #[.int .u8 c1, .int .u8 c2] w fun r w' => r = .returned (.bool o) ∧ Below w.heap.size w w') := fun o h => box (fun w => mu_etn c1 c2 _ _ o (KE1 _ rfl) (box (fun w => op_naught c2 _ rfl w)) (by rw [← h, Bool.decide_and, Bool.decide_or, Bool.decide_or]) w)
  have KT2 : ∀ o, decide ((c2 = 0 ∨ c2 = 7) ∧ (c1 = 3 ∨ c1 = 4)) = o → Box (∀ w, Calls Tryd.prog 38 #[.int .u8 c2, .int .u8 c1] w fun r w' => r = .returned (.bool o) ∧ Below w.heap.size w w') := fun o h => box (fun w => mu_etn c2 c1 _ _ o (KE2 _ rfl) (box (fun w => op_naught c1 _ rfl w)) (by rw [← h, Bool.decide_and, Bool.decide_or, Bool.decide_or]) w)
  by_cases d1 : ((c1 = 0 ∨ c1 = 7) ∧ (c2 = 3 ∨ c2 = 4)) ∨ ((c2 = 0 ∨ c2 = 7) ∧ (c1 = 3 ∨ c1 = 4))
  · rw [if_pos d1] at hr
    injection hr with r1 r2
    subst r1 r2
    by_cases a2 : (c1 = 0 ∨ c1 = 7) ∧ (c2 = 3 ∨ c2 = 4)
    · exact mu_all f m x1 y1 x2 y2 u v c1 m1 X1 _ c2 m2 X2 _ s1 s2 neg 0 0 _ w hng KU1 KU2 KS1 KS2 (box (Or.inr (Or.inr (Or.inr (Or.inr (Or.inl ⟨h18, h28, h19, h29, KT1 true (decide_eq_true a2), KN () hv, rfl⟩)))))) hT
    · exact mu_all f m x1 y1 x2 y2 u v c1 m1 X1 _ c2 m2 X2 _ s1 s2 neg 0 0 _ w hng KU1 KU2 KS1 KS2 (box (Or.inr (Or.inr (Or.inr (Or.inr (Or.inr (Or.inl ⟨h18, h28, h19, h29, KT1 false (decide_eq_false a2), KT2 true (decide_eq_true (d1.resolve_left a2)), KN () hv, rfl⟩))))))) hT
  rw [if_neg d1] at hr
  have KT1 := KT1 false (decide_eq_false (fun h => d1 (Or.inl h)))
  have KT2 := KT2 false (decide_eq_false (fun h => d1 (Or.inr h)))
  by_cases e1 : (c1 = 0 ∨ c1 = 7) ∨ (c2 = 0 ∨ c2 = 7)
  · rw [if_pos e1] at hr
    injection hr with r1 r2
    subst r1 r2
    have KI : Box (∀ w, FAt w → Calls Tryd.prog 39 #[.int .u8 f, .bool neg] w fun r w' => r = .returned (.agg #[.int .u64 u, .int .u64 v]) ∧ Below w.heap.size w w') := box (fun w hT => kInf_is f hf neg u v hv w hT)
    by_cases a2 : c1 = 0 ∨ c1 = 7
    · exact mu_all f m x1 y1 x2 y2 u v c1 m1 X1 _ c2 m2 X2 _ s1 s2 neg 0 0 _ w hng KU1 KU2 KS1 KS2 (box (Or.inr (Or.inr (Or.inr (Or.inr (Or.inr (Or.inr (Or.inl ⟨h18, h28, h19, h29, KT1, KT2, KE1 true (by rw [← Bool.decide_or]; exact decide_eq_true a2), KI, rfl⟩)))))))) hT
    · exact mu_all f m x1 y1 x2 y2 u v c1 m1 X1 _ c2 m2 X2 _ s1 s2 neg 0 0 _ w hng KU1 KU2 KS1 KS2 (box (Or.inr (Or.inr (Or.inr (Or.inr (Or.inr (Or.inr (Or.inr (Or.inl ⟨h18, h28, h19, h29, KT1, KT2, KE1 false (by rw [← Bool.decide_or]; exact decide_eq_false a2), KE2 true (by rw [← Bool.decide_or]; exact decide_eq_true (e1.resolve_left a2)), KI, rfl⟩))))))))) hT
  rw [if_neg e1] at hr
  have KE1 := KE1 false (by rw [← Bool.decide_or]; exact decide_eq_false (fun h => e1 (Or.inl h)))
  have KE2 := KE2 false (by rw [← Bool.decide_or]; exact decide_eq_false (fun h => e1 (Or.inr h)))
  obtain ⟨S, hS⟩ : ∃ S, m1 * m2 = S := ⟨_, rfl⟩
  obtain ⟨q1, q2⟩ := blen_prod m1 m2 sa1 sb1
  rw [hS] at q1 q2 hr
  have SQ := q256 q1
  have KM : Box (∀ w, Calls Tryd.prog 69 #[.agg (cw 6 m1), .agg (cw 6 m2)] w fun r w' => r = .returned (.tuple #[.agg (cw 6 S), .bool false]) ∧ Below w.heap.size w w') := box (fun w => wmul_is m1 m2 S false (lt_Q7 sa1) (lt_Q7 sb1) (by rw [hS]; exact Nat.mod_eq_of_lt SQ) (decide_eq_false (by rw [hS]; omega)) w)
  have KX : Box (∀ w, Calls Tryd.prog 40 #[.bool neg, .agg (pt c1 m1 X1 (kF f a)), .agg (pt c2 m2 X2 (kF f b))] w fun r w' => r = .returned (.agg (rg neg S (X1 + X2) false)) ∧ Below w.heap.size w w') := box (fun w => mu_exactly neg c1 m1 X1 _ c2 m2 X2 _ S (X1 + X2) false w KM (wrap_i64_is _ (by omega) (by omega)))
  refine mu_all f m x1 y1 x2 y2 u v c1 m1 X1 _ c2 m2 X2 _ s1 s2 neg S (X1 + X2) fl w hng KU1 KU2 KS1 KS2 (box (Or.inr (Or.inr (Or.inr (Or.inr (Or.inr (Or.inr (Or.inr (Or.inr (⟨h18, h28, h19, h29, KT1, KT2, KE1, KE2, KX, ?_⟩)))))))))) hT
  by_cases n1 : (c1 = 3 ∨ c1 = 4) ∨ (c2 = 3 ∨ c2 = 4)
  · rw [if_pos n1] at hr
    injection hr with r1 r2
    subst r1 r2
    have S0 : S = 0 := by
      rcases n1 with h | h
      · rw [← hS, (z1 h).1, Nat.zero_mul]
      · rw [← hS, (z2 h).1, Nat.mul_zero]
    rw [S0]
    exact box (fun w hT => kPack_zero f m hf hm neg (X1 + X2) (by omega) (by omega) u v hv w hT)
  · rw [if_neg n1] at hr
    have S0 : S ≠ 0 := by
      rw [← hS]
      exact mul_ne (p1 (by omega)).2.2.2 (p2 (by omega)).2.2.2
    exact box (fun w hT => kPack_is f m hf hm neg S SQ S0 (X1 + X2) false (by omega) (by omega) (fun h => Bool.noConfusion h) M fl hr u v hv w hT)
def kM (f : Int) (n : Nat) : Nat := kE f n * 2 ^ pV f + kT f n
theorem kC_all (f : Int) (n : Nat) : (kE f n = oV f ∧ kT f n = 0 ∧ kC f n = if kN f n then 0 else 7) ∨ (kE f n = oV f ∧ kT f n ≠ 0 ∧ kT f n < 2 ^ (pV f - 1) ∧ kC f n = 8) ∨ (kE f n = oV f ∧ 2 ^ (pV f - 1) ≤ kT f n ∧ kC f n = 9) ∨
    (kE f n < oV f ∧ kE f n ≠ 0 ∧ kC f n = if kN f n then 1 else 6) ∨ (kE f n < oV f ∧ kE f n = 0 ∧ kT f n ≠ 0 ∧ kC f n = if kN f n then 2 else 5) ∨ (kE f n < oV f ∧ kE f n = 0 ∧ kT f n = 0 ∧ kC f n = if kN f n then 3 else 4) := by
  have el := kE_le (f := f) n
  have p := Nat.two_pow_pos (pV f - 1)
  unfold kC
  by_cases c1 : kE f n = oV f
  · by_cases c2 : kT f n = 0
    · left
      refine ⟨c1, c2, ?_⟩
      (repeat' split) <;> first | rfl | omega | simp_all
    · by_cases c3 : kT f n < 2 ^ (pV f - 1)
      · right; left
        refine ⟨c1, c2, c3, ?_⟩
        (repeat' split) <;> first | rfl | omega | simp_all
      · right; right; left
        refine ⟨c1, by omega, ?_⟩
        (repeat' split) <;> first | rfl | omega | simp_all
  · by_cases c2 : kE f n = 0
    · by_cases c3 : kT f n = 0
      · right; right; right; right; right
        refine ⟨by omega, c2, c3, ?_⟩
        (repeat' split) <;> first | rfl | omega | simp_all
      · right; right; right; right; left
        refine ⟨by omega, c2, c3, ?_⟩
        (repeat' split) <;> first | rfl | omega | simp_all
    · right; right; right; left
      refine ⟨by omega, c2, ?_⟩
      (repeat' split) <;> first | rfl | omega | simp_all
theorem cls_sg (f : Int) (n : Nat) : ∃ a1 a2 a3 a4 : Nat, (a1 = 0 ∨ a1 = 7) ∧ (a2 = 1 ∨ a2 = 6) ∧ (a3 = 2 ∨ a3 = 5) ∧ (a4 = 3 ∨ a4 = 4) ∧
    ((kE f n = oV f ∧ kT f n = 0 ∧ kC f n = a1) ∨ (kE f n = oV f ∧ kT f n ≠ 0 ∧ kT f n < 2 ^ (pV f - 1) ∧ kC f n = 8) ∨ (kE f n = oV f ∧ 2 ^ (pV f - 1) ≤ kT f n ∧ kC f n = 9) ∨ (kE f n < oV f ∧ kE f n ≠ 0 ∧ kC f n = a2) ∨ (kE f n < oV f ∧ kE f n = 0 ∧ kT f n ≠ 0 ∧ kC f n = a3) ∨ (kE f n < oV f ∧ kE f n = 0 ∧ kT f n = 0 ∧ kC f n = a4)) :=
  ⟨_, _, _, _, by cases kN f n <;> simp, by cases kN f n <;> simp, by cases kN f n <;> simp, by cases kN f n <;> simp, kC_all f n⟩
theorem kM_zero (f : Int) (n : Nat) (h : kC f n = 3 ∨ kC f n = 4) : kM f n = 0 ∧ kE f n = 0 ∧ kT f n = 0 := by
  obtain ⟨a1, a2, a3, a4, s1, s2, s3, s4, c⟩ := cls_sg f n
  have e : kE f n = 0 ∧ kT f n = 0 := by omega
  exact ⟨by unfold kM; rw [e.1, e.2, Nat.zero_mul], e⟩
theorem rnd_vX {f : Int} (hf : Is4 f) (m : Int) (g : Nat) (hg : kC f g = 1 ∨ kC f g = 2 ∨ kC f g = 5 ∨ kC f g = 6) : (vX f g).can ∧ nl (vX f g).n ≤ 8192 ∧ (vX f g).n ≠ 0 ∧ (vX f g).d = 1 ∧ rnd f m (vX f g) = dlv f m (kN f g) (kX f g + (blen (kS f g) : Int) - 1) (qW (pV f + 1) (kS f g)) (qM (pV f + 1) (kS f g) false) := by
  obtain ⟨a1, a2, a3, a4⟩ := vX_whole hf g (by omega) (by omega)
  obtain ⟨l1, l2, l3⟩ := kS_lim hf g
  obtain ⟨w1, w2, w3, w4, w5, w6, w7⟩ := x_whole hf (kN f g) (kS f g) (kX f g) a1 (by have := (blen_iff (kS f g) 128).2 a2; omega) (by omega) (by omega)
  rw [a3]
  refine ⟨w2, w4, w3, rfl, ?_⟩
  unfold rnd
  rw [if_neg w3, w5, w6, w7]
theorem mulR_turn (f m : Int) (a b : Nat) : mulR f m a b = mulR f m b a := by
  unfold mulR
  have hn : (kN f a != kN f b) = (kN f b != kN f a) := by cases kN f a <;> cases kN f b <;> rfl
  rw [hn, Nat.mul_comm (kS f a), Int.add_comm (kX f a)]
  by_cases c1 : kC f a = 8 ∨ kC f b = 8
  · rw [if_pos c1, if_pos (show kC f b = 8 ∨ kC f a = 8 from c1.symm)]
  rw [if_neg c1, if_neg (show ¬ (kC f b = 8 ∨ kC f a = 8) from fun q => c1 q.symm)]
  by_cases c2 : kC f a = 9 ∨ kC f b = 9
  · rw [if_pos c2, if_pos (show kC f b = 9 ∨ kC f a = 9 from c2.symm)]
  rw [if_neg c2, if_neg (show ¬ (kC f b = 9 ∨ kC f a = 9) from fun q => c2 q.symm)]
  by_cases c3 : ((kC f a = 0 ∨ kC f a = 7) ∧ (kC f b = 3 ∨ kC f b = 4)) ∨ ((kC f b = 0 ∨ kC f b = 7) ∧ (kC f a = 3 ∨ kC f a = 4))
  · rw [if_pos c3, if_pos (show ((kC f b = 0 ∨ kC f b = 7) ∧ (kC f a = 3 ∨ kC f a = 4)) ∨ ((kC f a = 0 ∨ kC f a = 7) ∧ (kC f b = 3 ∨ kC f b = 4)) from c3.symm)]
  rw [if_neg c3, if_neg (show ¬ (((kC f b = 0 ∨ kC f b = 7) ∧ (kC f a = 3 ∨ kC f a = 4)) ∨ ((kC f a = 0 ∨ kC f a = 7) ∧ (kC f b = 3 ∨ kC f b = 4))) from fun q => c3 q.symm)]
  by_cases c4 : (kC f a = 0 ∨ kC f a = 7) ∨ (kC f b = 0 ∨ kC f b = 7)
  · rw [if_pos c4, if_pos (show (kC f b = 0 ∨ kC f b = 7) ∨ (kC f a = 0 ∨ kC f a = 7) from c4.symm)]
  rw [if_neg c4, if_neg (show ¬ ((kC f b = 0 ∨ kC f b = 7) ∨ (kC f a = 0 ∨ kC f a = 7)) from fun q => c4 q.symm)]
  by_cases c5 : (kC f a = 3 ∨ kC f a = 4) ∨ (kC f b = 3 ∨ kC f b = 4)
  · rw [if_pos c5, if_pos (show (kC f b = 3 ∨ kC f b = 4) ∨ (kC f a = 3 ∨ kC f a = 4) from c5.symm)]
  · rw [if_neg c5, if_neg (show ¬ ((kC f b = 3 ∨ kC f b = 4) ∨ (kC f a = 3 ∨ kC f a = 4)) from fun q => c5 q.symm)]
theorem one_parts {f : Int} (hf : Is4 f) (neg : Bool) : Fit f (eOne f neg) ∧ kN f (eOne f neg) = neg ∧ (kC f (eOne f neg) = 1 ∨ kC f (eOne f neg) = 6) ∧ kS f (eOne f neg) = 2 ^ pV f ∧ kX f (eOne f neg) = -(pV f : Int) := by
  have p := Nat.two_pow_pos (pV f)
  obtain ⟨n1, n2, n3, n4, n5, n6⟩ := nm8 hf
  have fe : 0 < (fE f).toNat ∧ (fE f).toNat < oV f := by
    rcases hf with rfl | rfl | rfl | rfl <;> decide +kernel
  obtain ⟨e1, e2, e3, e4⟩ := enc_k hf neg (e := (fE f).toNat) (t := 0) (by omega) p
  have ez : enc7 f neg (fE f).toNat 0 = eOne f neg := rfl
  rw [ez] at e1 e2 e3 e4
  have c : kC f (eOne f neg) = 1 ∨ kC f (eOne f neg) = 6 := by
    obtain ⟨a1, a2, a3, a4, s1, s2, s3, s4, ca⟩ := cls_sg f (eOne f neg)
    omega
  have k := k_parts (f := f) (eOne f neg) (by omega)
  refine ⟨e1, e2, c, ?_, ?_⟩
  · rw [k.2.1, e3, e4]
    unfold sV
    rw [if_neg (by omega)]
    omega
  · rw [k.2.2.1, e3]
    unfold xV
    rw [if_neg (by omega)]
    unfold lx
    omega
theorem mulR_one {f : Int} (hf : Is4 f) (m : Int) (a : Nat) (neg : Bool) (fa : Fit f a) (ha : kC f a < 8) : mulR f m a (eOne f neg) = (enc7 f (kN f a != neg) (kE f a) (kT f a), 0) := by
  obtain ⟨o1, o2, o3, o4, o5⟩ := one_parts hf neg
  obtain ⟨a1, a2, a3, a4, s1, s2, s3, s4, ca⟩ := cls_sg f a
  unfold mulR
  rw [o2, if_neg (by omega), if_neg (by omega), if_neg (by omega)]
  by_cases i : kC f a = 0 ∨ kC f a = 7
  · rw [if_pos (Or.inl i)]
    have e : kE f a = oV f ∧ kT f a = 0 := by omega
    rw [e.1, e.2]
    rfl
  rw [if_neg (by omega)]
  by_cases z : kC f a = 3 ∨ kC f a = 4
  · rw [if_pos (Or.inl z)]
    have e := kM_zero f a z
    rw [e.2.1, e.2.2]
    rfl
  rw [if_neg (by omega), o4, o5]
  have na : kC f a = 1 ∨ kC f a = 2 ∨ kC f a = 5 ∨ kC f a = 6 := by omega
  obtain ⟨k1, k2, k3, k4⟩ := k_parts (f := f) a na
  have bs := blen_shift (kS f a) (pV f) k4
  have ql := q_longer (pV f + 1) (kS f a) (pV f) k4
  obtain ⟨e1, e2, e3, e4⟩ := enc_k hf (kN f a != neg) (e := kE f a) (t := kT f a) (kE_le a) (kT_lt a)
  obtain ⟨B, hB⟩ : ∃ B, enc7 f (kN f a != neg) (kE f a) (kT f a) = B := ⟨_, rfl⟩
  rw [hB] at e1 e2 e3 e4 ⊢
  have nB : kC f B = 1 ∨ kC f B = 2 ∨ kC f B = 5 ∨ kC f B = 6 := by
    obtain ⟨b1, b2, b3, b4, t1, t2, t3, t4, cb⟩ := cls_sg f B
    omega
  obtain ⟨j1, j2, j3, j4⟩ := k_parts (f := f) B nB
  have r := (rnd_vX hf m B nB).2.2.2.2
  obtain ⟨w1, w2, w3, w4⟩ := own_round hf m B e1 (by omega)
  have rr : rnd f m (vX f B) = (B, 0) := by
    rcases w4 with w4 | w4
    · exact w4.2
    · have := (rnd_vX hf m B nB).2.2.1
      rw [w4] at this
      exact absurd rfl this
  rw [rr, e2, j2, j3, e3, e4, ← k2, ← k3] at r
  rw [ql.1, ql.2, bs, r]
  congr 1
  omega
theorem gen_abacuslaw12_MulTurned_17 {X : Act → World → Prop} {R : World → Nat → Prop} {t0 t1 t2 t3 t4 t5 t6 t7 t8 t9 t10 t11 t12 t13 t14 t15 t16 t18 t19 t20 t21 t22 t23 t24 t25 t26 t27 t28 t29 t30 t31 t32 t33 t34 t35 t36 t37 t38 t39 t40 t41 t42 t43 t44 t45 t46 t47 t48 t49 t50 t51 t52 t53 t54 t55 t56 t57 t58 t59 t60 t61 t62 t63 t64 t65 t66 t67 t68 t69 t70 t71 t72 t73 t74 t75 t76 t77 t78 t79 t80 t81 t82 t83 t84 t85 t86 t87 t88 t89 t90 t91 t92 t93 t94 t95 t96 t97 t98 t99 t100 t101 t102 t103 t104 t105 t106 t107 t108 t109 t110 t111 t112 t113 t114 t115 t116 t117 t118 t119 : Value} {d : List Deferred} {W : World} {G : Nat}
    (key : ∀ w5 g, R w5 g → X ⟨#[t0, t1, t2, t3, t4, t5, t6, t7, t8, t9, t10, t11, t12, t13, t14, t15, t16, .pointer (some ⟨g, 0, none⟩), t18, t19, t20, t21, t22, t23, t24, t25, t26, t27, t28, t29, t30, t31, t32, t33, t34, t35, t36, t37, t38, t39, t40, t41, t42, t43, t44, t45, t46, t47, t48, t49, t50, t51, t52, t53, t54, t55, t56, t57, t58, t59, t60, t61, t62, t63, t64, t65, t66, t67, t68, t69, t70, t71, t72, t73, t74, t75, t76, t77, t78, t79, t80, t81, t82, t83, t84, t85, t86, t87, t88, t89, t90, t91, t92, t93, t94, t95, t96, t97, t98, t99, t100, t101, t102, t103, t104, t105, t106, t107, t108, t109, t110, t111, t112, t113, t114, t115, t116, t117, t118, t119], d⟩ w5) (r : R W G) : X ⟨#[t0, t1, t2, t3, t4, t5, t6, t7, t8, t9, t10, t11, t12, t13, t14, t15, t16, .pointer (some ⟨G, 0, none⟩), t18, t19, t20, t21, t22, t23, t24, t25, t26, t27, t28, t29, t30, t31, t32, t33, t34, t35, t36, t37, t38, t39, t40, t41, t42, t43, t44, t45, t46, t47, t48, t49, t50, t51, t52, t53, t54, t55, t56, t57, t58, t59, t60, t61, t62, t63, t64, t65, t66, t67, t68, t69, t70, t71, t72, t73, t74, t75, t76, t77, t78, t79, t80, t81, t82, t83, t84, t85, t86, t87, t88, t89, t90, t91, t92, t93, t94, t95, t96, t97, t98, t99, t100, t101, t102, t103, t104, t105, t106, t107, t108, t109, t110, t111, t112, t113, t114, t115, t116, t117, t118, t119], d⟩ W := key W G r
theorem gen_abacuslaw12_MulTurned_20 {X : Act → World → Prop} {R : World → Nat → Prop} {t0 t1 t2 t3 t4 t5 t6 t7 t8 t9 t10 t11 t12 t13 t14 t15 t16 t17 t18 t19 t21 t22 t23 t24 t25 t26 t27 t28 t29 t30 t31 t32 t33 t34 t35 t36 t37 t38 t39 t40 t41 t42 t43 t44 t45 t46 t47 t48 t49 t50 t51 t52 t53 t54 t55 t56 t57 t58 t59 t60 t61 t62 t63 t64 t65 t66 t67 t68 t69 t70 t71 t72 t73 t74 t75 t76 t77 t78 t79 t80 t81 t82 t83 t84 t85 t86 t87 t88 t89 t90 t91 t92 t93 t94 t95 t96 t97 t98 t99 t100 t101 t102 t103 t104 t105 t106 t107 t108 t109 t110 t111 t112 t113 t114 t115 t116 t117 t118 t119 : Value} {d : List Deferred} {W : World} {G : Nat}
    (key : ∀ w5 g, R w5 g → X ⟨#[t0, t1, t2, t3, t4, t5, t6, t7, t8, t9, t10, t11, t12, t13, t14, t15, t16, t17, t18, t19, .pointer (some ⟨g, 0, none⟩), t21, t22, t23, t24, t25, t26, t27, t28, t29, t30, t31, t32, t33, t34, t35, t36, t37, t38, t39, t40, t41, t42, t43, t44, t45, t46, t47, t48, t49, t50, t51, t52, t53, t54, t55, t56, t57, t58, t59, t60, t61, t62, t63, t64, t65, t66, t67, t68, t69, t70, t71, t72, t73, t74, t75, t76, t77, t78, t79, t80, t81, t82, t83, t84, t85, t86, t87, t88, t89, t90, t91, t92, t93, t94, t95, t96, t97, t98, t99, t100, t101, t102, t103, t104, t105, t106, t107, t108, t109, t110, t111, t112, t113, t114, t115, t116, t117, t118, t119], d⟩ w5) (r : R W G) : X ⟨#[t0, t1, t2, t3, t4, t5, t6, t7, t8, t9, t10, t11, t12, t13, t14, t15, t16, t17, t18, t19, .pointer (some ⟨G, 0, none⟩), t21, t22, t23, t24, t25, t26, t27, t28, t29, t30, t31, t32, t33, t34, t35, t36, t37, t38, t39, t40, t41, t42, t43, t44, t45, t46, t47, t48, t49, t50, t51, t52, t53, t54, t55, t56, t57, t58, t59, t60, t61, t62, t63, t64, t65, t66, t67, t68, t69, t70, t71, t72, t73, t74, t75, t76, t77, t78, t79, t80, t81, t82, t83, t84, t85, t86, t87, t88, t89, t90, t91, t92, t93, t94, t95, t96, t97, t98, t99, t100, t101, t102, t103, t104, t105, t106, t107, t108, t109, t110, t111, t112, t113, t114, t115, t116, t117, t118, t119], d⟩ W := key W G r

theorem al12 : mulR 2 0 16384 16896 = (17920, 0) ∧ okB 2 16384 = true ∧ okB 2 16896 = true := by decide +kernel
theorem kMul_yes (f m : Int) (hf : Is4 f) (hm : 0 ≤ m ∧ m ≤ 4) (x1 y1 a x2 y2 b : Nat) (hx1 : x1 < 18446744073709551616) (hy1 : y1 < 18446744073709551616) (ha : y1 + 18446744073709551616 * x1 = a) (hx2 : x2 < 18446744073709551616) (hy2 : y2 < 18446744073709551616) (hb : y2 + 18446744073709551616 * x2 = b)
    (oa : okB f a = true) (ob : okB f b = true) (M : Nat) (fl : Int) (hr : mulR f m a b = (M, fl)) (u v : Nat) (hv : bv7 M = (u, v)) (w : World) (hT : FAt w) :
    Calls Tryd.prog 10 #[.int .u8 f, .int .u8 m, .agg #[.int .u64 x1, .int .u64 y1], .agg #[.int .u64 x2, .int .u64 y2]] w fun r w' => r = .returned (.tuple #[.agg #[.int .u64 u, .int .u64 v], .int .u8 fl, .int .i64 0]) ∧ Below w.heap.size w w' :=
  mul_mul_yes f m x1 y1 x2 y2 u v 0 0 fl 0 w (kmay2 f m (is4_ok hf).1 (is4_ok hf).2.1 hm.1 x1 y1 a x2 y2 b hx1 hy1 ha hx2 hy2 hb true (by rw [oa, ob, decide_eq_true (show f ≤ 3 ∧ m ≤ 4 from ⟨is4_le hf, hm.2⟩)]; rfl)) (box (fun w hT => ktimes_is f m hf hm x1 y1 a x2 y2 b hx1 hy1 ha hx2 hy2 hb oa ob M fl hr u v hv w hT)) hT
theorem r12alive (w : World) (hT : FAt w) : Calls Tryd.prog 12 #[] w fun r w' => r = .returned (.bool true) ∧ Below w.heap.size w w' := by
  have FF := box hT
  have K1 : Box (∀ w, FAt w → Calls Tryd.prog 10 #[.int .u8 2, .int .u8 0, .agg #[.int .u64 0, .int .u64 16384], .agg #[.int .u64 0, .int .u64 16896]] w fun r w' => r = .returned (.tuple #[.agg #[.int .u64 0, .int .u64 17920], .int .u8 0, .int .i64 0]) ∧ Below w.heap.size w w') := box (fun w hT => kMul_yes 2 0 (by unfold Is4; omega) (by decide) 0 16384 16384 0 16896 16896 (by decide) (by decide) rfl (by decide) (by decide) rfl al12.2.1 al12.2.2 _ _ al12.1 0 17920 rfl w hT)
  clear hT
  have B0 : Below w.heap.size w w := (Below.refl _ _)
  go_enter Tryd.func12, Tryd.ntmps12
  go_wp2_with fail
  refine (K1.out _ (fatB FF.out B0)).mono ?_
  rintro r w1 ⟨rfl, b1⟩
  have B1 : Below w.heap.size w w1 := btr B0 b1
  clear b1 B0 
  have S2 := box B1.size
  have Aa := heap_alloc_last w1 (Obj.cells #[.int .u64 0, .int .u64 17920] 26)
  have B2 := btr B1 (bal w1 (Obj.cells #[.int .u64 0, .int .u64 17920] 26))
  clear B1 
  obtain ⟨Ab, Ac⟩ := cells2s Aa
  go_wp2
  go_ret
  exact ⟨rfl, B2⟩
theorem mt_roads (f m : Int) (h0 : 0 ≤ f) (h1 : f ≤ 255) (m0 : 0 ≤ m) (x1 y1 x2 y2 : Nat) (hx1 : x1 < 18446744073709551616) (hy1 : y1 < 18446744073709551616) (hx2 : x2 < 18446744073709551616) (hy2 : y2 < 18446744073709551616) :
    (∃ (c e : Int), Box (∀ w, FAt w → Calls Tryd.prog 10 #[.int .u8 f, .int .u8 m, .agg #[.int .u64 x1, .int .u64 y1], .agg #[.int .u64 x2, .int .u64 y2]] w fun r w' => r = .returned (.tuple #[.agg #[.int .u64 0, .int .u64 0], .int .u8 0, .int .i64 2]) ∧ Below w.heap.size w w') ∧ Box (∀ w, FAt w → Calls Tryd.prog 10 #[.int .u8 f, .int .u8 m, .agg #[.int .u64 x2, .int .u64 y2], .agg #[.int .u64 x1, .int .u64 y1]] w fun r w' => r = .returned (.tuple #[.agg #[.int .u64 0, .int .u64 0], .int .u8 0, .int .i64 2]) ∧ Below w.heap.size w w') ∧ Box (∀ w, FAt w → Calls Tryd.prog 11 #[.int .u8 f, .agg #[.int .u64 x1, .int .u64 y1]] w fun r w' => r = .returned (.tuple #[.int .u8 c, .int .i64 e]) ∧ Below w.heap.size w w')) ∨
    (∃ (u v : Nat) (fl : Int) (c : Nat), Box (∀ w, FAt w → Calls Tryd.prog 10 #[.int .u8 f, .int .u8 m, .agg #[.int .u64 x1, .int .u64 y1], .agg #[.int .u64 x2, .int .u64 y2]] w fun r w' => r = .returned (.tuple #[.agg #[.int .u64 u, .int .u64 v], .int .u8 fl, .int .i64 0]) ∧ Below w.heap.size w w') ∧ Box (∀ w, FAt w → Calls Tryd.prog 10 #[.int .u8 f, .int .u8 m, .agg #[.int .u64 x2, .int .u64 y2], .agg #[.int .u64 x1, .int .u64 y1]] w fun r w' => r = .returned (.tuple #[.agg #[.int .u64 u, .int .u64 v], .int .u8 fl, .int .i64 0]) ∧ Below w.heap.size w w') ∧ Box (∀ w, FAt w → Calls Tryd.prog 11 #[.int .u8 f, .agg #[.int .u64 x1, .int .u64 y1]] w fun r w' => r = .returned (.tuple #[.int .u8 c, .int .i64 0]) ∧ Below w.heap.size w w') ∧ decide ((8 : Int) ≤ (c : Int)) = true) ∨
    (∃ (u v : Nat) (fl : Int) (c : Nat), Box (∀ w, FAt w → Calls Tryd.prog 10 #[.int .u8 f, .int .u8 m, .agg #[.int .u64 x1, .int .u64 y1], .agg #[.int .u64 x2, .int .u64 y2]] w fun r w' => r = .returned (.tuple #[.agg #[.int .u64 u, .int .u64 v], .int .u8 fl, .int .i64 0]) ∧ Below w.heap.size w w') ∧ Box (∀ w, FAt w → Calls Tryd.prog 10 #[.int .u8 f, .int .u8 m, .agg #[.int .u64 x2, .int .u64 y2], .agg #[.int .u64 x1, .int .u64 y1]] w fun r w' => r = .returned (.tuple #[.agg #[.int .u64 u, .int .u64 v], .int .u8 fl, .int .i64 0]) ∧ Below w.heap.size w w') ∧ Box (∀ w, FAt w → Calls Tryd.prog 11 #[.int .u8 f, .agg #[.int .u64 x1, .int .u64 y1]] w fun r w' => r = .returned (.tuple #[.int .u8 c, .int .i64 0]) ∧ Below w.heap.size w w') ∧ decide ((8 : Int) ≤ (c : Int)) = false ∧
      ∃ p q g h i j : Nat, Box (∀ w, FAt w → Calls Tryd.prog 13 #[.int .u8 f, .bool false] w fun r w' => r = .returned (.agg #[.int .u64 p, .int .u64 q]) ∧ Below w.heap.size w w') ∧ Box (∀ w, FAt w → Calls Tryd.prog 13 #[.int .u8 f, .bool true] w fun r w' => r = .returned (.agg #[.int .u64 g, .int .u64 h]) ∧ Below w.heap.size w w') ∧ Box (∀ w, FAt w → Calls Tryd.prog 14 #[.int .u8 f, .agg #[.int .u64 x1, .int .u64 y1]] w fun r w' => r = .returned (.agg #[.int .u64 i, .int .u64 j]) ∧ Below w.heap.size w w') ∧
        Box (∀ w, FAt w → Calls Tryd.prog 10 #[.int .u8 f, .int .u8 m, .agg #[.int .u64 x1, .int .u64 y1], .agg #[.int .u64 p, .int .u64 q]] w fun r w' => r = .returned (.tuple #[.agg #[.int .u64 x1, .int .u64 y1], .int .u8 0, .int .i64 0]) ∧ Below w.heap.size w w') ∧ Box (∀ w, FAt w → Calls Tryd.prog 10 #[.int .u8 f, .int .u8 m, .agg #[.int .u64 x1, .int .u64 y1], .agg #[.int .u64 g, .int .u64 h]] w fun r w' => r = .returned (.tuple #[.agg #[.int .u64 i, .int .u64 j], .int .u8 0, .int .i64 0]) ∧ Below w.heap.size w w')) := by
  obtain ⟨a, ha⟩ : ∃ a, y1 + 18446744073709551616 * x1 = a := ⟨_, rfl⟩
  obtain ⟨b, hb⟩ : ∃ b, y2 + 18446744073709551616 * x2 = b := ⟨_, rfl⟩
  by_cases h : (f ≤ 3 ∧ m ≤ 4) ∧ okB f a = true ∧ okB f b = true
  · obtain ⟨⟨c1, c2⟩, oa, ob⟩ := h
    have hf := is4_of h0 c1
    have hm : 0 ≤ m ∧ m ≤ 4 := ⟨m0, c2⟩
    have fa := (okB_yes h0 oa).2
    obtain ⟨M, fl, hr⟩ : ∃ M fl, mulR f m a b = (M, fl) := ⟨_, _, rfl⟩
    obtain ⟨u, v, hv⟩ : ∃ u v, bv7 M = (u, v) := ⟨_, _, rfl⟩
    have hr2 : mulR f m b a = (M, fl) := by rw [← mulR_turn f m a b]; exact hr
    have K1 := box (fun w hT => kMul_yes f m hf hm x1 y1 a x2 y2 b hx1 hy1 ha hx2 hy2 hb oa ob M fl hr u v hv w hT)
    have K2 := box (fun w hT => kMul_yes f m hf hm x2 y2 b x1 y1 a hx2 hy2 hb hx1 hy1 ha ob oa M fl hr2 u v hv w hT)
    have K3 := box (fun w hT => kClass_yes f hf x1 y1 a _ hx1 hy1 ha oa rfl w hT)
    by_cases k : 8 ≤ kC f a
    · exact Or.inr (Or.inl ⟨u, v, fl, _, K1, K2, K3, decide_eq_true (by omega)⟩)
    · have lim : ∀ n, Fit f n → okB f n = true ∧ n < 340282366920938463463374607431768211456 := fun n hn => by
        have := (fm hf).2.2.2.2.2.2
        have hn2 : n < 2 * 2 ^ wV f := hn
        refine ⟨?_, by omega⟩
        unfold okB
        rw [decide_eq_true_iff]
        exact ⟨c1, hn⟩
      obtain ⟨o1, o2⟩ := lim _ (one_parts hf false).1
      obtain ⟨o3, o4⟩ := lim _ (one_parts hf true).1
      have ke := k_enc hf fa
      have m1 : mulR f m a (eOne f false) = (a, 0) := by
        rw [mulR_one hf m a false fa (by omega), show (kN f a != false) = kN f a by cases kN f a <;> rfl, ke]
      have fk := flip_k hf fa
      have m2 : mulR f m a (eOne f true) = (sgB f a true, 0) := by
        rw [mulR_one hf m a true fa (by omega), fk, show (kN f a != true) = !kN f a by cases kN f a <;> rfl]
      obtain ⟨p, q, hp⟩ : ∃ p q, bv7 (eOne f false) = (p, q) := ⟨_, _, rfl⟩
      obtain ⟨g, h, hs⟩ : ∃ g h, bv7 (eOne f true) = (g, h) := ⟨_, _, rfl⟩
      obtain ⟨i, j, hi⟩ : ∃ i j, bv7 (sgB f a true) = (i, j) := ⟨_, _, rfl⟩
      obtain ⟨p1, p2, p3⟩ := bv_lt o2 hp
      obtain ⟨s1, s2, s3⟩ := bv_lt o4 hs
      have e1 : bv7 a = (x1, y1) := by unfold bv7; rw [← ha]; congr 1 <;> omega
      refine Or.inr (Or.inr ⟨u, v, fl, _, K1, K2, K3, decide_eq_false (by omega), p, q, g, h, i, j, box (fun w hT => ?_), box (fun w hT => ?_), box (fun w hT => kFlip_yes f hf x1 y1 a i j hx1 hy1 ha oa hi w hT), box (fun w hT => kMul_yes f m hf hm x1 y1 a p q _ hx1 hy1 ha p1 p2 p3 oa o1 a 0 m1 x1 y1 e1 w hT), box (fun w hT => kMul_yes f m hf hm x1 y1 a g h _ hx1 hy1 ha s1 s2 s3 oa o3 _ 0 m2 i j hi w hT)⟩)
      · have := s_one f false hf _ rfl w hT
        rw [hp] at this
        exact this
      · have := s_one f true hf _ rfl w hT
        rw [hs] at this
        exact this
  · have n1 : (decide (f ≤ 3 ∧ m ≤ 4) && okB f a && okB f b) = false := by
      rw [Bool.eq_false_iff]
      intro q
      rw [Bool.and_eq_true, Bool.and_eq_true, decide_eq_true_iff] at q
      exact h ⟨q.1.1, q.1.2, q.2⟩
    have n2 : (decide (f ≤ 3 ∧ m ≤ 4) && okB f b && okB f a) = false := by
      rw [Bool.eq_false_iff]
      intro q
      rw [Bool.and_eq_true, Bool.and_eq_true, decide_eq_true_iff] at q
      exact h ⟨q.1.1, q.2, q.1.2⟩
    have K1 := box (fun w hT => mul_mul_no f m x1 y1 x2 y2 0 0 0 0 0 0 w (kmay2 f m h0 h1 m0 x1 y1 a x2 y2 b hx1 hy1 ha hx2 hy2 hb false n1) hT)
    have K2 := box (fun w hT => mul_mul_no f m x2 y2 x1 y1 0 0 0 0 0 0 w (kmay2 f m h0 h1 m0 x2 y2 b x1 y1 a hx2 hy2 hb hx1 hy1 ha false n2) hT)
    cases oa : okB f a
    · exact Or.inl ⟨0, 2, K1, K2, box (fun w hT => kClass_no f h0 h1 x1 y1 a hx1 hy1 ha oa w hT)⟩
    · have hf := (okB_yes h0 oa).1
      exact Or.inl ⟨_, 0, K1, K2, box (fun w hT => kClass_yes f hf x1 y1 a _ hx1 hy1 ha oa rfl w hT)⟩
theorem mt_own (f m : Int) (x1 y1 x2 y2 u v c p q g h i j : Nat) (fl : Int) (w : World) (hc : decide ((8 : Int) ≤ (c : Int)) = false)
    (KR : Box (∀ w, FAt w → Calls Tryd.prog 10 #[.int .u8 f, .int .u8 m, .agg #[.int .u64 x1, .int .u64 y1], .agg #[.int .u64 x2, .int .u64 y2]] w fun r w' => r = .returned (.tuple #[.agg #[.int .u64 u, .int .u64 v], .int .u8 fl, .int .i64 0]) ∧ Below w.heap.size w w'))
    (KQ : Box (∀ w, FAt w → Calls Tryd.prog 10 #[.int .u8 f, .int .u8 m, .agg #[.int .u64 x2, .int .u64 y2], .agg #[.int .u64 x1, .int .u64 y1]] w fun r w' => r = .returned (.tuple #[.agg #[.int .u64 u, .int .u64 v], .int .u8 fl, .int .i64 0]) ∧ Below w.heap.size w w'))
    (KC : Box (∀ w, FAt w → Calls Tryd.prog 11 #[.int .u8 f, .agg #[.int .u64 x1, .int .u64 y1]] w fun r w' => r = .returned (.tuple #[.int .u8 c, .int .i64 0]) ∧ Below w.heap.size w w'))
    (K1 : Box (∀ w, FAt w → Calls Tryd.prog 13 #[.int .u8 f, .bool false] w fun r w' => r = .returned (.agg #[.int .u64 p, .int .u64 q]) ∧ Below w.heap.size w w'))
    (K2 : Box (∀ w, FAt w → Calls Tryd.prog 13 #[.int .u8 f, .bool true] w fun r w' => r = .returned (.agg #[.int .u64 g, .int .u64 h]) ∧ Below w.heap.size w w'))
    (KF : Box (∀ w, FAt w → Calls Tryd.prog 14 #[.int .u8 f, .agg #[.int .u64 x1, .int .u64 y1]] w fun r w' => r = .returned (.agg #[.int .u64 i, .int .u64 j]) ∧ Below w.heap.size w w'))
    (K3 : Box (∀ w, FAt w → Calls Tryd.prog 10 #[.int .u8 f, .int .u8 m, .agg #[.int .u64 x1, .int .u64 y1], .agg #[.int .u64 p, .int .u64 q]] w fun r w' => r = .returned (.tuple #[.agg #[.int .u64 x1, .int .u64 y1], .int .u8 0, .int .i64 0]) ∧ Below w.heap.size w w'))
    (K4 : Box (∀ w, FAt w → Calls Tryd.prog 10 #[.int .u8 f, .int .u8 m, .agg #[.int .u64 x1, .int .u64 y1], .agg #[.int .u64 g, .int .u64 h]] w fun r w' => r = .returned (.tuple #[.agg #[.int .u64 i, .int .u64 j], .int .u8 0, .int .i64 0]) ∧ Below w.heap.size w w'))
    (KA : Box (∀ w, FAt w → Calls Tryd.prog 12 #[] w fun r w' => r = .returned (.bool true) ∧ Below w.heap.size w w')) (hT : FAt w) : Calls Tryd.prog 4 #[.int .u8 f, .int .u8 m, .agg #[.int .u64 x1, .int .u64 y1], .agg #[.int .u64 x2, .int .u64 y2]] w fun r w' => r = .returned (.bool true) ∧ Below w.heap.size w w' := by
  have FF := box hT
  clear hT
  obtain ⟨Af, Ag, B0⟩ := opn2 w (Obj.cells #[.int .u64 x1, .int .u64 y1] 26) (Obj.cells #[.int .u64 x2, .int .u64 y2] 26)
  go_enter Tryd.func4, Tryd.ntmps4
  obtain ⟨AB, AC⟩ := cells2s Af
  obtain ⟨AD, AE⟩ := cells2s Ag
  go_wp2_with fail
  refine (KR.out _ (fatB FF.out B0)).mono ?_
  rintro r w1 ⟨rfl, b1⟩
  have B1 : Below w.heap.size w w1 := btr B0 b1
  have Aa := heap_of b1 _ _ _ Af
  have Ab := heap_of b1 _ _ _ Ag
  clear b1 B0 Af AB AC Ag AD AE
  obtain ⟨AF, AG⟩ := cells2s Aa
  obtain ⟨AH, AI⟩ := cells2s Ab
  have S2 := box B1.size
  have Bo := ltR Aa
  have Bp := ltR Ab
  have Ah := heap_alloc_last w1 (Obj.cells #[.int .u64 u, .int .u64 v] 26)
  have B2 := btr B1 (bal w1 (Obj.cells #[.int .u64 u, .int .u64 v] 26))
  have Ai := heap_of (bal w1 (Obj.cells #[.int .u64 u, .int .u64 v] 26)) _ _ _ Aa
  have Aj := heap_of (bal w1 (Obj.cells #[.int .u64 u, .int .u64 v] 26)) _ _ _ Ab
  clear B1 Aa AF AG Ab AH AI
  obtain ⟨AJ, AK⟩ := cells2s Ai
  obtain ⟨AL, AM⟩ := cells2s Aj
  obtain ⟨AN, AO⟩ := cells2s Ah
  go_wp2_with fail
  refine (KQ.out _ (fatB FF.out B2)).mono ?_
  rintro r w3 ⟨rfl, b3⟩
  have B3 : Below w.heap.size w w3 := btr B2 b3
  have Ac := heap_of b3 _ _ _ Ai
  have Ad := heap_of b3 _ _ _ Aj
  have Ae := heap_of b3 _ _ _ Ah
  clear b3 B2 Ai AJ AK Aj AL AM Ah AN AO
  obtain ⟨AP, AQ⟩ := cells2s Ac
  obtain ⟨AR, AS⟩ := cells2s Ad
  obtain ⟨AT, AU⟩ := cells2s Ae
  have S4 := box B3.size
  have Bq := ltR Ac
  have Br := ltR Ad
  have Bs := ltR Ae
  have Ak := heap_alloc_last w3 (Obj.cells #[.int .u64 u, .int .u64 v] 26)
  have B4 := btr B3 (bal w3 (Obj.cells #[.int .u64 u, .int .u64 v] 26))
  have Al := heap_of (bal w3 (Obj.cells #[.int .u64 u, .int .u64 v] 26)) _ _ _ Ac
  have Am := heap_of (bal w3 (Obj.cells #[.int .u64 u, .int .u64 v] 26)) _ _ _ Ad
  have An := heap_of (bal w3 (Obj.cells #[.int .u64 u, .int .u64 v] 26)) _ _ _ Ae
  clear B3 Ac AP AQ Ad AR AS Ae AT AU
  obtain ⟨AV, AW⟩ := cells2s Al
  obtain ⟨AX, AY⟩ := cells2s Am
  obtain ⟨AZ, A0⟩ := cells2s An
  obtain ⟨A1, A2⟩ := cells2s Ak
  go_wp2_with fail
  refine (KC.out _ (fatB FF.out B4)).mono ?_
  rintro r w5 ⟨rfl, b5⟩
  have B5 : Below w.heap.size w w5 := btr B4 b5
  have Ao := heap_of b5 _ _ _ Al
  have Ay := heap_of b5 _ _ _ Am
  have Az := heap_of b5 _ _ _ An
  have AA := heap_of b5 _ _ _ Ak
  clear b5 B4 Al AV AW Am AX AY An AZ A0 Ak A1 A2
  obtain ⟨A3, A4⟩ := cells2s Ao
  obtain ⟨A5, A6⟩ := cells2s Ay
  obtain ⟨A7, A8⟩ := cells2s Az
  obtain ⟨A9, Ba⟩ := cells2s AA
  clear Ay A5 A6
  clear Az A7 A8
  clear AA A9 Ba
  have sS : Box (∀ W W1 : World, (Below w.heap.size w W ∧ W.heap[w.heap.size]? = some (.cells #[.int .u64 x1, .int .u64 y1] 26)) → Below W.heap.size W W1 → (Below w.heap.size w W1 ∧ W1.heap[w.heap.size]? = some (.cells #[.int .u64 x1, .int .u64 y1] 26))) := box (fun W W1 h b => ⟨btr h.1 b, heap_of b _ _ _ h.2⟩)
  have sL : Box (∀ W : World, (Below w.heap.size w W ∧ W.heap[w.heap.size]? = some (.cells #[.int .u64 x1, .int .u64 y1] 26)) → (w.heap.size < W.heap.size)) := box (fun W h => (Array.getElem?_eq_some_iff.1 h.2).1)
  have sT : Box (∀ (W : World) (gN : Nat) (xA xB : Value), (Below w.heap.size w W ∧ W.heap[w.heap.size]? = some (.cells #[.int .u64 x1, .int .u64 y1] 26)) → (w.heap.size < gN) → (Below w.heap.size w ((W.setCell ⟨gN, 0, none⟩ xA).setCell ⟨gN, 1, none⟩ xB) ∧ ((W.setCell ⟨gN, 0, none⟩ xA).setCell ⟨gN, 1, none⟩ xB).heap[w.heap.size]? = some (.cells #[.int .u64 x1, .int .u64 y1] 26))) := box (fun W gN xA xB h l => ⟨set2_below h.1 (show w.heap.size ≤ gN by have := l; omega) _ _, (setCell_other (by have := l; omega)).trans ((setCell_other (by have := l; omega)).trans h.2)⟩)
  have sC : Box (∀ W : World, (Below w.heap.size w W ∧ W.heap[w.heap.size]? = some (.cells #[.int .u64 x1, .int .u64 y1] 26)) → (Below w.heap.size w W ∧ W.heap[w.heap.size]? = some (.cells #[.int .u64 x1, .int .u64 y1] 26) ∧ W.cell? ⟨w.heap.size, 0, none⟩ = some (.int .u64 x1) ∧ W.cell? ⟨w.heap.size, 1, none⟩ = some (.int .u64 y1))) := box (fun W h => ⟨h.1, h.2, cell7 (h.2) 0 _ rfl, cell7 (h.2) 1 _ rfl⟩)
  have s0 : Below w.heap.size w (w5).drew ∧ (w5).drew.heap[w.heap.size]? = some (.cells #[.int .u64 x1, .int .u64 y1] 26) := ⟨B5.drew, Ao⟩
  clear B5 Ao A3 A4
  go_wp2_with fail
  apply cut7
  · intro key0
    have key := box key0
    clear key0
    go_region_held3 (fun W => Below w.heap.size w W ∧ W.heap[w.heap.size]? = some (.cells #[.int .u64 x1, .int .u64 y1] 26) ∧ W.cell? ⟨w.heap.size, 0, none⟩ = some (.int .u64 x1) ∧ W.cell? ⟨w.heap.size, 1, none⟩ = some (.int .u64 y1)) (first | exact sC.out _ s1 | exact sC.out _ s0 | exact sC.out _ (sS.out _ _ s1 (bal _ _)) | exact sC.out _ (sS.out _ _ s0 (bal _ _)) | exact sC.out _ (sT.out _ _ _ _ s1 hl))
      (first | (go_at_call 13; (first | refine (K1.out _ (by first | exact fatB FF.out (And.left s1) | exact fat_al (fatB FF.out (And.left s1)) _)).mono ?_ | refine (K1.out _ (by first | exact fatB FF.out (And.left s0) | exact fat_al (fatB FF.out (And.left s0)) _)).mono ?_); rintro r wq ⟨rfl, bq⟩; (first | (have hg := heap_of bq _ _ _ (heap_alloc_last _ _); have hl := (by first | exact sL.out _ s1 | exact sL.out _ s0)) | have hg := heap_of bq _ _ _ hg | skip); (try simp only [size_dr, size_al] at hg hl); (first | (have Ap := fz (k := 0) hg; have Aq := fz (k := 1) hg; have Ar := cell7 hg 0 _ rfl; have As := cell7 hg 1 _ rfl) | skip); have s2 := (by first | exact sS.out _ _ s1 bq | exact sS.out _ _ s0 bq | exact sS.out _ _ (sS.out _ _ s1 (bal _ _)) bq | exact sS.out _ _ (sS.out _ _ s0 (bal _ _)) bq); (try clear s1); have s1 := s2; clear s2 bq) | (go_at_call 10; (first | refine (K3.out _ (by first | exact fatB FF.out (And.left s1) | exact fat_al (fatB FF.out (And.left s1)) _)).mono ?_ | refine (K3.out _ (by first | exact fatB FF.out (And.left s0) | exact fat_al (fatB FF.out (And.left s0)) _)).mono ?_); rintro r wq ⟨rfl, bq⟩; (first | (have hg := heap_of bq _ _ _ (heap_alloc_last _ _); have hl := (by first | exact sL.out _ s1 | exact sL.out _ s0)) | have hg := heap_of bq _ _ _ hg | skip); (try simp only [size_dr, size_al] at hg hl); (first | (have Ap := fz (k := 0) hg; have Aq := fz (k := 1) hg; have Ar := cell7 hg 0 _ rfl; have As := cell7 hg 1 _ rfl) | skip); have s2 := (by first | exact sS.out _ _ s1 bq | exact sS.out _ _ s0 bq | exact sS.out _ _ (sS.out _ _ s1 (bal _ _)) bq | exact sS.out _ _ (sS.out _ _ s0 (bal _ _)) bq); (try clear s1); have s1 := s2; clear s2 bq) | fail)
    all_goals
      refine gen_abacuslaw12_MulTurned_17 (R := fun W gN => (Below w.heap.size w W ∧ W.heap[w.heap.size]? = some (.cells #[.int .u64 x1, .int .u64 y1] 26)) ∧ W.heap[gN]? = some (.cells #[.int .u64 x1, .int .u64 y1] 26) ∧ (w.heap.size < gN)) key.out ?_
      first
        | exact ⟨(sT.out _ _ _ _ s1 hl), set2_row hg _ _, hl⟩
        | exact ⟨sS.out _ _ s1 (bal _ _), heap_alloc_last _ _, sL.out _ s1⟩
        | exact ⟨sS.out _ _ s0 (bal _ _), heap_alloc_last _ _, sL.out _ s0⟩
  rintro w6 g6 ⟨s1, At, l6⟩
  have B6 := And.left s1
  have Au := s1.2
  have H6 := box l6
  clear s0 s1 sS sC sL sT l6
  obtain ⟨Bb, Bc⟩ := cells2s Au
  obtain ⟨Bd, Be⟩ := cells2s At
  have sS : Box (∀ W W1 : World, (Below w.heap.size w W ∧ W.heap[w.heap.size]? = some (.cells #[.int .u64 x1, .int .u64 y1] 26) ∧ W.heap[g6]? = some (.cells #[.int .u64 x1, .int .u64 y1] 26)) → Below W.heap.size W W1 → (Below w.heap.size w W1 ∧ W1.heap[w.heap.size]? = some (.cells #[.int .u64 x1, .int .u64 y1] 26) ∧ W1.heap[g6]? = some (.cells #[.int .u64 x1, .int .u64 y1] 26))) := box (fun W W1 h b => ⟨btr h.1 b, heap_of b _ _ _ h.2.1, heap_of b _ _ _ h.2.2⟩)
  have sL : Box (∀ W : World, (Below w.heap.size w W ∧ W.heap[w.heap.size]? = some (.cells #[.int .u64 x1, .int .u64 y1] 26) ∧ W.heap[g6]? = some (.cells #[.int .u64 x1, .int .u64 y1] 26)) → (w.heap.size < W.heap.size ∧ g6 < W.heap.size)) := box (fun W h => ⟨(Array.getElem?_eq_some_iff.1 h.2.1).1, (Array.getElem?_eq_some_iff.1 h.2.2).1⟩)
  have sT : Box (∀ (W : World) (gN : Nat) (xA xB : Value), (Below w.heap.size w W ∧ W.heap[w.heap.size]? = some (.cells #[.int .u64 x1, .int .u64 y1] 26) ∧ W.heap[g6]? = some (.cells #[.int .u64 x1, .int .u64 y1] 26)) → (w.heap.size < gN ∧ g6 < gN) → (Below w.heap.size w ((W.setCell ⟨gN, 0, none⟩ xA).setCell ⟨gN, 1, none⟩ xB) ∧ ((W.setCell ⟨gN, 0, none⟩ xA).setCell ⟨gN, 1, none⟩ xB).heap[w.heap.size]? = some (.cells #[.int .u64 x1, .int .u64 y1] 26) ∧ ((W.setCell ⟨gN, 0, none⟩ xA).setCell ⟨gN, 1, none⟩ xB).heap[g6]? = some (.cells #[.int .u64 x1, .int .u64 y1] 26))) := box (fun W gN xA xB h l => ⟨set2_below h.1 (show w.heap.size ≤ gN by have := l.1; omega) _ _, (setCell_other (by have := l.1; omega)).trans ((setCell_other (by have := l.1; omega)).trans h.2.1), (setCell_other (by have := l.2; omega)).trans ((setCell_other (by have := l.2; omega)).trans h.2.2)⟩)
  have sC : Box (∀ W : World, (Below w.heap.size w W ∧ W.heap[w.heap.size]? = some (.cells #[.int .u64 x1, .int .u64 y1] 26) ∧ W.heap[g6]? = some (.cells #[.int .u64 x1, .int .u64 y1] 26)) → (Below w.heap.size w W ∧ W.heap[w.heap.size]? = some (.cells #[.int .u64 x1, .int .u64 y1] 26) ∧ W.heap[g6]? = some (.cells #[.int .u64 x1, .int .u64 y1] 26) ∧ W.cell? ⟨w.heap.size, 0, none⟩ = some (.int .u64 x1) ∧ W.cell? ⟨w.heap.size, 1, none⟩ = some (.int .u64 y1) ∧ W.cell? ⟨g6, 0, none⟩ = some (.int .u64 x1) ∧ W.cell? ⟨g6, 1, none⟩ = some (.int .u64 y1))) := box (fun W h => ⟨h.1, h.2.1, h.2.2, cell7 (h.2.1) 0 _ rfl, cell7 (h.2.1) 1 _ rfl, cell7 (h.2.2) 0 _ rfl, cell7 (h.2.2) 1 _ rfl⟩)
  have s0 : Below w.heap.size w (w6).drew ∧ (w6).drew.heap[w.heap.size]? = some (.cells #[.int .u64 x1, .int .u64 y1] 26) ∧ (w6).drew.heap[g6]? = some (.cells #[.int .u64 x1, .int .u64 y1] 26) := ⟨B6.drew, Au, At⟩
  clear B6 Au Bb Bc At Bd Be
  go_wp2_with fail
  apply cut7
  · intro key0
    have key := box key0
    clear key0
    go_region_held3 (fun W => Below w.heap.size w W ∧ W.heap[w.heap.size]? = some (.cells #[.int .u64 x1, .int .u64 y1] 26) ∧ W.heap[g6]? = some (.cells #[.int .u64 x1, .int .u64 y1] 26) ∧ W.cell? ⟨w.heap.size, 0, none⟩ = some (.int .u64 x1) ∧ W.cell? ⟨w.heap.size, 1, none⟩ = some (.int .u64 y1) ∧ W.cell? ⟨g6, 0, none⟩ = some (.int .u64 x1) ∧ W.cell? ⟨g6, 1, none⟩ = some (.int .u64 y1)) (first | exact sC.out _ s1 | exact sC.out _ s0 | exact sC.out _ (sS.out _ _ s1 (bal _ _)) | exact sC.out _ (sS.out _ _ s0 (bal _ _)) | exact sC.out _ (sT.out _ _ _ _ s1 hl))
      (first | (go_at_call 13; (first | refine (K2.out _ (by first | exact fatB FF.out (And.left s1) | exact fat_al (fatB FF.out (And.left s1)) _)).mono ?_ | refine (K2.out _ (by first | exact fatB FF.out (And.left s0) | exact fat_al (fatB FF.out (And.left s0)) _)).mono ?_); rintro r wq ⟨rfl, bq⟩; (first | (have hg := heap_of bq _ _ _ (heap_alloc_last _ _); have hl := (by first | exact sL.out _ s1 | exact sL.out _ s0)) | have hg := heap_of bq _ _ _ hg | skip); (try simp only [size_dr, size_al] at hg hl); (first | (have Ap := fz (k := 0) hg; have Aq := fz (k := 1) hg; have Ar := cell7 hg 0 _ rfl; have As := cell7 hg 1 _ rfl) | skip); have s2 := (by first | exact sS.out _ _ s1 bq | exact sS.out _ _ s0 bq | exact sS.out _ _ (sS.out _ _ s1 (bal _ _)) bq | exact sS.out _ _ (sS.out _ _ s0 (bal _ _)) bq); (try clear s1); have s1 := s2; clear s2 bq) | (go_at_call 10; (first | refine (K4.out _ (by first | exact fatB FF.out (And.left s1) | exact fat_al (fatB FF.out (And.left s1)) _)).mono ?_ | refine (K4.out _ (by first | exact fatB FF.out (And.left s0) | exact fat_al (fatB FF.out (And.left s0)) _)).mono ?_); rintro r wq ⟨rfl, bq⟩; (first | (have hg := heap_of bq _ _ _ (heap_alloc_last _ _); have hl := (by first | exact sL.out _ s1 | exact sL.out _ s0)) | have hg := heap_of bq _ _ _ hg | skip); (try simp only [size_dr, size_al] at hg hl); (first | (have Ap := fz (k := 0) hg; have Aq := fz (k := 1) hg; have Ar := cell7 hg 0 _ rfl; have As := cell7 hg 1 _ rfl) | skip); have s2 := (by first | exact sS.out _ _ s1 bq | exact sS.out _ _ s0 bq | exact sS.out _ _ (sS.out _ _ s1 (bal _ _)) bq | exact sS.out _ _ (sS.out _ _ s0 (bal _ _)) bq); (try clear s1); have s1 := s2; clear s2 bq) | fail)
    all_goals
      refine gen_abacuslaw12_MulTurned_20 (R := fun W gN => (Below w.heap.size w W ∧ W.heap[w.heap.size]? = some (.cells #[.int .u64 x1, .int .u64 y1] 26) ∧ W.heap[g6]? = some (.cells #[.int .u64 x1, .int .u64 y1] 26)) ∧ W.heap[gN]? = some (.cells #[.int .u64 i, .int .u64 j] 26) ∧ (w.heap.size < gN ∧ g6 < gN)) key.out ?_
      first
        | exact ⟨(sT.out _ _ _ _ s1 hl), set2_row hg _ _, hl⟩
        | exact ⟨sS.out _ _ s1 (bal _ _), heap_alloc_last _ _, sL.out _ s1⟩
        | exact ⟨sS.out _ _ s0 (bal _ _), heap_alloc_last _ _, sL.out _ s0⟩
  rintro w7 g7 ⟨s1, Av, l7⟩
  have B7 := And.left s1
  have Aw := s1.2.1
  have Ax := s1.2.2
  have H7 := box l7
  clear s0 s1 sS sC sL sT l7
  obtain ⟨Bf, Bg⟩ := cells2s Aw
  obtain ⟨Bh, Bi⟩ := cells2s Ax
  obtain ⟨Bj, Bk⟩ := cells2s Av
  have sS : Box (∀ W W1 : World, (Below w.heap.size w W ∧ W.heap[w.heap.size]? = some (.cells #[.int .u64 x1, .int .u64 y1] 26) ∧ W.heap[g6]? = some (.cells #[.int .u64 x1, .int .u64 y1] 26) ∧ W.heap[g7]? = some (.cells #[.int .u64 i, .int .u64 j] 26)) → Below W.heap.size W W1 → (Below w.heap.size w W1 ∧ W1.heap[w.heap.size]? = some (.cells #[.int .u64 x1, .int .u64 y1] 26) ∧ W1.heap[g6]? = some (.cells #[.int .u64 x1, .int .u64 y1] 26) ∧ W1.heap[g7]? = some (.cells #[.int .u64 i, .int .u64 j] 26))) := box (fun W W1 h b => ⟨btr h.1 b, heap_of b _ _ _ h.2.1, heap_of b _ _ _ h.2.2.1, heap_of b _ _ _ h.2.2.2⟩)
  have sC : Box (∀ W : World, (Below w.heap.size w W ∧ W.heap[w.heap.size]? = some (.cells #[.int .u64 x1, .int .u64 y1] 26) ∧ W.heap[g6]? = some (.cells #[.int .u64 x1, .int .u64 y1] 26) ∧ W.heap[g7]? = some (.cells #[.int .u64 i, .int .u64 j] 26)) → (Below w.heap.size w W ∧ W.heap[w.heap.size]? = some (.cells #[.int .u64 x1, .int .u64 y1] 26) ∧ W.heap[g6]? = some (.cells #[.int .u64 x1, .int .u64 y1] 26) ∧ W.heap[g7]? = some (.cells #[.int .u64 i, .int .u64 j] 26) ∧ W.cell? ⟨w.heap.size, 0, none⟩ = some (.int .u64 x1) ∧ W.cell? ⟨w.heap.size, 1, none⟩ = some (.int .u64 y1) ∧ W.cell? ⟨g6, 0, none⟩ = some (.int .u64 x1) ∧ W.cell? ⟨g6, 1, none⟩ = some (.int .u64 y1) ∧ W.cell? ⟨g7, 0, none⟩ = some (.int .u64 i) ∧ W.cell? ⟨g7, 1, none⟩ = some (.int .u64 j))) := box (fun W h => ⟨h.1, h.2.1, h.2.2.1, h.2.2.2, cell7 (h.2.1) 0 _ rfl, cell7 (h.2.1) 1 _ rfl, cell7 (h.2.2.1) 0 _ rfl, cell7 (h.2.2.1) 1 _ rfl, cell7 (h.2.2.2) 0 _ rfl, cell7 (h.2.2.2) 1 _ rfl⟩)
  have s0 : Below w.heap.size w (w7).drew ∧ (w7).drew.heap[w.heap.size]? = some (.cells #[.int .u64 x1, .int .u64 y1] 26) ∧ (w7).drew.heap[g6]? = some (.cells #[.int .u64 x1, .int .u64 y1] 26) ∧ (w7).drew.heap[g7]? = some (.cells #[.int .u64 i, .int .u64 j] 26) := ⟨B7.drew, Aw, Ax, Av⟩
  go_wp2_with fail
  go_region_held3 (fun W => Below w.heap.size w W ∧ W.heap[w.heap.size]? = some (.cells #[.int .u64 x1, .int .u64 y1] 26) ∧ W.heap[g6]? = some (.cells #[.int .u64 x1, .int .u64 y1] 26) ∧ W.heap[g7]? = some (.cells #[.int .u64 i, .int .u64 j] 26) ∧ W.cell? ⟨w.heap.size, 0, none⟩ = some (.int .u64 x1) ∧ W.cell? ⟨w.heap.size, 1, none⟩ = some (.int .u64 y1) ∧ W.cell? ⟨g6, 0, none⟩ = some (.int .u64 x1) ∧ W.cell? ⟨g6, 1, none⟩ = some (.int .u64 y1) ∧ W.cell? ⟨g7, 0, none⟩ = some (.int .u64 i) ∧ W.cell? ⟨g7, 1, none⟩ = some (.int .u64 j)) (first | exact sC.out _ s1 | exact sC.out _ s0)
    (first | (go_at_call 14; (first | refine (KF.out _ (fatB FF.out (And.left s1))).mono ?_ | refine (KF.out _ (fatB FF.out (And.left s0))).mono ?_); rintro r wq ⟨rfl, bq⟩; have s1 := (by first | exact sS.out _ _ s1 bq | exact sS.out _ _ s0 bq); clear bq) | (go_at_call 12; (first | refine (KA.out _ (fatB FF.out (And.left s1))).mono ?_ | refine (KA.out _ (fatB FF.out (And.left s0))).mono ?_); rintro r wq ⟨rfl, bq⟩; have s1 := (by first | exact sS.out _ _ s1 bq | exact sS.out _ _ s0 bq); clear bq) | fail)
  have B8 := (And.left s1)
  have Bl := s1.2.1
  have Bm := s1.2.2.1
  have Bn := s1.2.2.2
  clear s0 s1 sS sC B7 Aw Bf Bg Ax Bh Bi Av Bj Bk
  obtain ⟨Bt, Bu⟩ := cells2s Bl
  obtain ⟨Bv, Bw⟩ := cells2s Bm
  obtain ⟨Bx, By⟩ := cells2s Bn
  go_wp2
  go_ret
  exact ⟨rfl, B8⟩
end Go.Proofs.YtoaaajeblhaeoaaDoor
