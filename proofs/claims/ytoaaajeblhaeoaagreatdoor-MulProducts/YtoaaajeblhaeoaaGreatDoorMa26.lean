/-
  What the functions that the statement reaches return: part 26 (M2, M3, M4).
-/
import Derived.Test.YtoaaajeblhaeoaaGreatDoorMa25
namespace Go.Proofs.YtoaaajeblhaeoaaGreatDoor
set_option maxRecDepth 100000
set_option maxHeartbeats 40000000
set_option maxRecDepth 100000
open Go.RowKit WMath XMath
set_option linter.unusedSimpArgs false
set_option linter.unusedVariables false

theorem ov_inf (f : Int) (neg : Bool) : ovB f 0 neg = eInf f neg := by
  unfold ovB
  rw [if_pos (by unfold gO; rw [if_pos rfl]; rfl)]
theorem nan_or {f : Int} (hf : Is4 f) : eInf f false ||| eInf f false / 2 = eNaN f ∧ eInf f false < 340282366920938463463374607431768211456 ∧ eNaN f < 340282366920938463463374607431768211456 := by
  rcases hf with rfl | rfl | rfl | rfl <;> decide +kernel
theorem kInf_is (f : Int) (hf : Is4 f) (neg : Bool) (u v : Nat) (hv : bv7 (eInf f neg) = (u, v)) (w : World) (hT : FAt w) : Calls Tryz.prog 172 #[.int .u8 f, .bool neg] w fun r w' => r = .returned (.agg #[.int .u64 u, .int .u64 v]) ∧ Below w.heap.size w w' :=
  op_inf f neg u v w (box (fun w hT => kover f 0 hf (by decide) neg u v (by rw [ov_inf]; exact hv) w hT)) hT
theorem kNaN_is (f : Int) (hf : Is4 f) (u v : Nat) (hv : bv7 (eNaN f) = (u, v)) (w : World) (hT : FAt w) : Calls Tryz.prog 157 #[.int .u8 f] w fun r w' => r = .returned (.agg #[.int .u64 u, .int .u64 v]) ∧ Below w.heap.size w w' := by
  obtain ⟨n1, n2, n3⟩ := nan_or hf
  obtain ⟨iu, iv, hi⟩ : ∃ iu iv, bv7 (eInf f false) = (iu, iv) := ⟨_, _, rfl⟩
  obtain ⟨i1, i2, i3⟩ := bv_lt n2 hi
  obtain ⟨w0, w1⟩ := wd01 n3
  have hQ := lt_Q7 n2
  have hQ2 := lt_Q7 n3
  have hQ3 : eInf f false / 2 < Q := Nat.lt_of_le_of_lt (Nat.div_le_self _ _) hQ
  unfold bv7 at hv
  injection hv with v1 v2
  have KT : Box (∀ w, Calls Tryz.prog 204 #[.agg (cw 6 (eNaN f))] w fun r w' => r = .returned (.tuple #[.agg #[.int .u64 u, .int .u64 v], .bool true]) ∧ Below w.heap.size w w') := box (fun w => by
    have := wtobits_yes (eNaN f) hQ2 (by rw [w0, w1]; exact Nat.mod_add_div _ _) w
    rw [w0, w1, v1, v2] at this
    exact this)
  exact op_nan f iu iv _ _ _ u v _ true w (box (fun w hT => kInf_is f hf false iu iv hi w hT)) (box (fun w => wofbits_is iu iv _ i1 i2 i3 w))
    (box (fun w => wright_is (eInf f false) (eInf f false / 2) 1 _ hQ rfl rfl w)) (box (fun w => wor_is _ _ _ hQ hQ3 n1 w)) KT hT
/-- What a product is, as an encoding, and its flags. -/
def mulR (f m : Int) (a b : Nat) : Nat × Int :=
  if kC f a = 8 ∨ kC f b = 8 then (eNaN f, 16)
  else if kC f a = 9 ∨ kC f b = 9 then (eNaN f, 0)
  else if ((kC f a = 0 ∨ kC f a = 7) ∧ (kC f b = 3 ∨ kC f b = 4)) ∨ ((kC f b = 0 ∨ kC f b = 7) ∧ (kC f a = 3 ∨ kC f a = 4)) then (eNaN f, 16)
  else if (kC f a = 0 ∨ kC f a = 7) ∨ (kC f b = 0 ∨ kC f b = 7) then (eInf f (kN f a != kN f b), 0)
  else if (kC f a = 3 ∨ kC f a = 4) ∨ (kC f b = 3 ∨ kC f b = 4) then (eZero f (kN f a != kN f b), 0)
  else dlv f m (kN f a != kN f b) (kX f a + kX f b + (blen (kS f a * kS f b) : Int) - 1) (qW (pV f + 1) (kS f a * kS f b)) (qM (pV f + 1) (kS f a * kS f b) false)
theorem ieq {c : Nat} {k : Int} (h : (c : Int) = k) : ((c : Int) == k) = true := by rw [h]; exact beq_self_eq_true k
theorem ine {c : Nat} {k : Int} (h : (c : Int) ≠ k) : ((c : Int) == k) = false := beq_eq_false_iff_ne.2 h
theorem q256 {s : Nat} (h : s < 2 ^ 256) : s < Q := Nat.lt_of_lt_of_le h (by decide +kernel)
theorem ktimes_is (f m : Int) (hf : Is4 f) (hm : 0 ≤ m ∧ m ≤ 4) (x1 y1 a x2 y2 b : Nat) (hx1 : x1 < 18446744073709551616) (hy1 : y1 < 18446744073709551616) (ha : y1 + 18446744073709551616 * x1 = a) (hx2 : x2 < 18446744073709551616) (hy2 : y2 < 18446744073709551616) (hb : y2 + 18446744073709551616 * x2 = b)
    (oa : okB f a = true) (ob : okB f b = true) (M : Nat) (fl : Int) (hr : mulR f m a b = (M, fl)) (u v : Nat) (hv : bv7 M = (u, v)) (w : World) (hT : FAt w) :
    Calls Tryz.prog 89 #[.int .u8 f, .int .u8 m, .agg #[.int .u64 x1, .int .u64 y1], .agg #[.int .u64 x2, .int .u64 y2]] w fun r w' => r = .returned (.tuple #[.agg #[.int .u64 u, .int .u64 v], .int .u8 fl, .int .i64 0]) ∧ Below w.heap.size w w' := by
  obtain ⟨sa1, sa2, sa3⟩ := kS_lim hf a
  obtain ⟨sb1, sb2, sb3⟩ := kS_lim hf b
  obtain ⟨c1, Aa⟩ : ∃ c, kC f a = c := ⟨_, rfl⟩
  obtain ⟨c2, Ab⟩ : ∃ c, kC f b = c := ⟨_, rfl⟩
  obtain ⟨m1, hm1⟩ : ∃ c, kS f a = c := ⟨_, rfl⟩
  obtain ⟨m2, hm2⟩ : ∃ c, kS f b = c := ⟨_, rfl⟩
  obtain ⟨X1, hX1⟩ : ∃ c, kX f a = c := ⟨_, rfl⟩
  obtain ⟨X2, hX2⟩ : ∃ c, kX f b = c := ⟨_, rfl⟩
  obtain ⟨s1, hs1⟩ : ∃ c, kN f a = c := ⟨_, rfl⟩
  obtain ⟨s2, hs2⟩ : ∃ c, kN f b = c := ⟨_, rfl⟩
  obtain ⟨neg, hng⟩ : ∃ c, (s1 != s2) = c := ⟨_, rfl⟩
  have KU1 : Box (∀ w, FAt w → Calls Tryz.prog 45 #[.int .u8 f, .agg #[.int .u64 x1, .int .u64 y1]] w fun r w' => r = .returned (.tuple #[.agg (pt c1 m1 X1 (kF f a)), .int .i64 0]) ∧ Below w.heap.size w w') := box (fun w hT => kUnpack_yes f hf x1 y1 a c1 m1 (kF f a) X1 hx1 hy1 ha oa (by unfold kp; rw [Aa, hm1, hX1]) w hT)
  have KU2 : Box (∀ w, FAt w → Calls Tryz.prog 45 #[.int .u8 f, .agg #[.int .u64 x2, .int .u64 y2]] w fun r w' => r = .returned (.tuple #[.agg (pt c2 m2 X2 (kF f b)), .int .i64 0]) ∧ Below w.heap.size w w') := box (fun w hT => kUnpack_yes f hf x2 y2 b c2 m2 (kF f b) X2 hx2 hy2 hb ob (by unfold kp; rw [Ab, hm2, hX2]) w hT)
  have KS1 : Box (∀ w, FAt w → Calls Tryz.prog 25 #[.int .u8 f, .agg #[.int .u64 x1, .int .u64 y1]] w fun r w' => r = .returned (.bool s1) ∧ Below w.heap.size w w') := box (fun w hT => kSign_yes f hf x1 y1 a s1 hx1 hy1 ha oa hs1 w hT)
  have KS2 : Box (∀ w, FAt w → Calls Tryz.prog 25 #[.int .u8 f, .agg #[.int .u64 x2, .int .u64 y2]] w fun r w' => r = .returned (.bool s2) ∧ Below w.heap.size w w') := box (fun w hT => kSign_yes f hf x2 y2 b s2 hx2 hy2 hb ob hs2 w hT)
  have z1 := fun h => k_null (f := f) a h
  have z2 := fun h => k_null (f := f) b h
  have p1 := fun h => k_parts (f := f) a h
  have p2 := fun h => k_parts (f := f) b h
  unfold mulR at hr
  rw [Aa, Ab, hs1, hs2, hng, hX1, hX2, hm1, hm2] at hr
  rw [Aa, hm1, hX1] at z1
  rw [Ab, hm2, hX2] at z2
  rw [Aa, hm1] at p1
  rw [Ab, hm2] at p2
  rw [hm1] at sa1
  rw [hX1] at sa2 sa3
  rw [hm2] at sb1
  rw [hX2] at sb2 sb3
  have lc1 : c1 ≤ 9 := by rw [← Aa]; have := kC_lt f a; omega
  have lc2 : c2 ≤ 9 := by rw [← Ab]; have := kC_lt f b; omega
  have KN : ∀ g, bv7 (eNaN f) = (u, v) → Box (∀ w, FAt w → Calls Tryz.prog 157 #[.int .u8 f] w fun r w' => r = .returned (.agg #[.int .u64 u, .int .u64 v]) ∧ Below w.heap.size w w') := fun (g : Unit) h => box (fun w hT => kNaN_is f hf u v h w hT)
  by_cases a1 : c1 = 8 ∨ c2 = 8
  · rw [if_pos a1] at hr
    injection hr with r1 r2
    subst r1 r2
    by_cases a2 : c1 = 8
    · exact mu_sx f m x1 y1 x2 y2 u v c1 m1 X1 _ c2 m2 X2 _ s1 s2 neg w hng (ieq (by omega)) KU1 KU2 KS1 KS2 (KN () hv) hT
    · exact mu_sy f m x1 y1 x2 y2 u v c1 m1 X1 _ c2 m2 X2 _ s1 s2 neg w hng (ine (by omega)) (ieq (by omega)) KU1 KU2 KS1 KS2 (KN () hv) hT
  rw [if_neg a1] at hr
  have h18 : ((c1 : Int) == 8) = false := ine (by omega)
  have h28 : ((c2 : Int) == 8) = false := ine (by omega)
  by_cases b1 : c1 = 9 ∨ c2 = 9
  · rw [if_pos b1] at hr
    injection hr with r1 r2
    subst r1 r2
    by_cases a2 : c1 = 9
    · exact mu_qx f m x1 y1 x2 y2 u v c1 m1 X1 _ c2 m2 X2 _ s1 s2 neg w hng h18 h28 (ieq (by omega)) KU1 KU2 KS1 KS2 (KN () hv) hT
    · exact mu_qy f m x1 y1 x2 y2 u v c1 m1 X1 _ c2 m2 X2 _ s1 s2 neg w hng h18 h28 (ine (by omega)) (ieq (by omega)) KU1 KU2 KS1 KS2 (KN () hv) hT
  rw [if_neg b1] at hr
  have h19 : ((c1 : Int) == 9) = false := ine (by omega)
  have h29 : ((c2 : Int) == 9) = false := ine (by omega)
  have KE1 : ∀ o, (decide (c1 = 0) || decide (c1 = 7)) = o → Box (∀ w, Calls Tryz.prog 158 #[.int .u8 c1] w fun r w' => r = .returned (.bool o) ∧ Below w.heap.size w w') := fun o h => box (fun w => op_endless c1 o h w)
  have KE2 : ∀ o, (decide (c2 = 0) || decide (c2 = 7)) = o → Box (∀ w, Calls Tryz.prog 158 #[.int .u8 c2] w fun r w' => r = .returned (.bool o) ∧ Below w.heap.size w w') := fun o h => box (fun w => op_endless c2 o h w)
  have KT1 : ∀ o, decide ((c1 = 0 ∨ c1 = 7) ∧ (c2 = 3 ∨ c2 = 4)) = o → Box (∀ w, Calls Tryz.prog 171 #[.int .u8 c1, .int .u8 c2] w fun r w' => r = .returned (.bool o) ∧ Below w.heap.size w w') := fun o h => box (fun w => mu_etn c1 c2 _ _ o (KE1 _ rfl) (box (fun w => op_naught c2 _ rfl w)) (by rw [← h, Bool.decide_and, Bool.decide_or, Bool.decide_or]) w)
  have KT2 : ∀ o, decide ((c2 = 0 ∨ c2 = 7) ∧ (c1 = 3 ∨ c1 = 4)) = o → Box (∀ w, Calls Tryz.prog 171 #[.int .u8 c2, .int .u8 c1] w fun r w' => r = .returned (.bool o) ∧ Below w.heap.size w w') := fun o h => box (fun w => mu_etn c2 c1 _ _ o (KE2 _ rfl) (box (fun w => op_naught c1 _ rfl w)) (by rw [← h, Bool.decide_and, Bool.decide_or, Bool.decide_or]) w)
  by_cases d1 : ((c1 = 0 ∨ c1 = 7) ∧ (c2 = 3 ∨ c2 = 4)) ∨ ((c2 = 0 ∨ c2 = 7) ∧ (c1 = 3 ∨ c1 = 4))
  · rw [if_pos d1] at hr
    injection hr with r1 r2
    subst r1 r2
    by_cases a2 : (c1 = 0 ∨ c1 = 7) ∧ (c2 = 3 ∨ c2 = 4)
    · exact mu_ex f m x1 y1 x2 y2 u v c1 m1 X1 _ c2 m2 X2 _ s1 s2 neg w hng h18 h28 h19 h29 KU1 KU2 KS1 KS2 (KT1 true (decide_eq_true a2)) (KN () hv) hT
    · exact mu_ey f m x1 y1 x2 y2 u v c1 m1 X1 _ c2 m2 X2 _ s1 s2 neg w hng h18 h28 h19 h29 KU1 KU2 KS1 KS2 (KT1 false (decide_eq_false a2)) (KT2 true (decide_eq_true (d1.resolve_left a2))) (KN () hv) hT
  rw [if_neg d1] at hr
  have KT1 := KT1 false (decide_eq_false (fun h => d1 (Or.inl h)))
  have KT2 := KT2 false (decide_eq_false (fun h => d1 (Or.inr h)))
  by_cases e1 : (c1 = 0 ∨ c1 = 7) ∨ (c2 = 0 ∨ c2 = 7)
  · rw [if_pos e1] at hr
    injection hr with r1 r2
    subst r1 r2
    have KI : Box (∀ w, FAt w → Calls Tryz.prog 172 #[.int .u8 f, .bool neg] w fun r w' => r = .returned (.agg #[.int .u64 u, .int .u64 v]) ∧ Below w.heap.size w w') := box (fun w hT => kInf_is f hf neg u v hv w hT)
    by_cases a2 : c1 = 0 ∨ c1 = 7
    · exact mu_ix f m x1 y1 x2 y2 u v c1 m1 X1 _ c2 m2 X2 _ s1 s2 neg w hng h18 h28 h19 h29 KU1 KU2 KS1 KS2 KT1 KT2 (KE1 true (by rw [← Bool.decide_or]; exact decide_eq_true a2)) KI hT
    · exact mu_iy f m x1 y1 x2 y2 u v c1 m1 X1 _ c2 m2 X2 _ s1 s2 neg w hng h18 h28 h19 h29 KU1 KU2 KS1 KS2 KT1 KT2 (KE1 false (by rw [← Bool.decide_or]; exact decide_eq_false a2)) (KE2 true (by rw [← Bool.decide_or]; exact decide_eq_true (e1.resolve_left a2))) KI hT
  rw [if_neg e1] at hr
  have KE1 := KE1 false (by rw [← Bool.decide_or]; exact decide_eq_false (fun h => e1 (Or.inl h)))
  have KE2 := KE2 false (by rw [← Bool.decide_or]; exact decide_eq_false (fun h => e1 (Or.inr h)))
  obtain ⟨S, hS⟩ : ∃ S, m1 * m2 = S := ⟨_, rfl⟩
  obtain ⟨q1, q2⟩ := blen_prod m1 m2 sa1 sb1
  rw [hS] at q1 q2 hr
  have SQ := q256 q1
  have KM : Box (∀ w, Calls Tryz.prog 261 #[.agg (cw 6 m1), .agg (cw 6 m2)] w fun r w' => r = .returned (.tuple #[.agg (cw 6 S), .bool false]) ∧ Below w.heap.size w w') := box (fun w => wmul_is m1 m2 S false (lt_Q7 sa1) (lt_Q7 sb1) (by rw [hS]; exact Nat.mod_eq_of_lt SQ) (decide_eq_false (by rw [hS]; omega)) w)
  have KX : Box (∀ w, Calls Tryz.prog 173 #[.bool neg, .agg (pt c1 m1 X1 (kF f a)), .agg (pt c2 m2 X2 (kF f b))] w fun r w' => r = .returned (.agg (rg neg S (X1 + X2) false)) ∧ Below w.heap.size w w') := box (fun w => mu_exactly neg c1 m1 X1 _ c2 m2 X2 _ S (X1 + X2) false w KM (wrap_i64_is _ (by omega) (by omega)))
  refine mu_fin f m x1 y1 x2 y2 u v c1 m1 X1 _ c2 m2 X2 _ s1 s2 neg w hng h18 h28 h19 h29 KU1 KU2 KS1 KS2 KT1 KT2 KE1 KE2 S (X1 + X2) fl KX ?_ hT
  by_cases n1 : (c1 = 3 ∨ c1 = 4) ∨ (c2 = 3 ∨ c2 = 4)
  · rw [if_pos n1] at hr
    injection hr with r1 r2
    subst r1 r2
    have S0 : S = 0 := by
      rcases n1 with h | h
      · rw [← hS, (z1 h).1, Nat.zero_mul]
      · rw [← hS, (z2 h).1, Nat.mul_zero]
    rw [S0]
    exact box (fun w hT => kPack_zero f m hf hm neg (X1 + X2) (by omega) (by omega) u v hv w hT)
  · rw [if_neg n1] at hr
    have S0 : S ≠ 0 := by
      rw [← hS]
      exact mul_ne (p1 (by omega)).2.2.2 (p2 (by omega)).2.2.2
    exact box (fun w hT => kPack_is f m hf hm neg S SQ S0 (X1 + X2) false (by omega) (by omega) (fun h => Bool.noConfusion h) M fl hr u v hv w hT)
end Go.Proofs.YtoaaajeblhaeoaaGreatDoor
namespace Go.Proofs.YtoaaajeblhaeoaaGreatDoor
set_option maxRecDepth 100000
set_option maxHeartbeats 40000000
set_option maxRecDepth 100000
open Go.RowKit WMath XMath
set_option linter.unusedSimpArgs false
set_option linter.unusedVariables false

theorem rMul_is (f m : Int) (hf : Is4 f) (hm : 0 ≤ m ∧ m ≤ 4) (x1 y1 a x2 y2 b : Nat) (hx1 : x1 < 18446744073709551616) (hy1 : y1 < 18446744073709551616) (ha : y1 + 18446744073709551616 * x1 = a) (hx2 : x2 < 18446744073709551616) (hy2 : y2 < 18446744073709551616) (hb : y2 + 18446744073709551616 * x2 = b)
    (oa : okB f a = true) (ob : okB f b = true) (M : Nat) (fl : Int) (hr : mulR f m a b = (M, fl)) (u v : Nat) (hv : bv7 M = (u, v)) (w : World) :
    Calls Tryz.prog 41 #[.int .u8 f, .int .u8 m, .agg #[.int .u64 x1, .int .u64 y1], .agg #[.int .u64 x2, .int .u64 y2]] w fun r w' => r = .returned (.tuple #[.agg #[.int .u64 u, .int .u64 v], .int .u8 fl, .int .i64 0]) ∧ Below w.heap.size w w' := by
  have h0 := (is4_ok hf).1
  have fa := (okB_yes h0 oa).2
  have fb := (okB_yes h0 ob).2
  have KF := rfit2 f m h0 x1 y1 a x2 y2 b hx1 hy1 ha hx2 hy2 hb true (by rw [oa, ob, decide_eq_true (show f ≤ 3 ∧ m ≤ 4 from ⟨is4_le hf, hm.2⟩)]; rfl)
  obtain ⟨c1, Aa⟩ : ∃ c, kC f a = c := ⟨_, rfl⟩
  obtain ⟨c2, Ab⟩ : ∃ c, kC f b = c := ⟨_, rfl⟩
  have lc1 : c1 ≤ 9 := by rw [← Aa]; have := kC_lt f a; omega
  have lc2 : c2 ≤ 9 := by rw [← Ab]; have := kC_lt f b; omega
  have KN1 : ∀ o, decide (8 ≤ c1) = o → Box (∀ w, Calls Tryz.prog 78 #[.int .u8 f, .agg #[.int .u64 x1, .int .u64 y1]] w fun r w' => r = .returned (.bool o) ∧ Below w.heap.size w w') := fun o h => box (fun w => rNaN_is f hf x1 y1 a c1 o hx1 hy1 ha fa Aa h w)
  have KN2 : ∀ o, decide (8 ≤ c2) = o → Box (∀ w, Calls Tryz.prog 78 #[.int .u8 f, .agg #[.int .u64 x2, .int .u64 y2]] w fun r w' => r = .returned (.bool o) ∧ Below w.heap.size w w') := fun o h => box (fun w => rNaN_is f hf x2 y2 b c2 o hx2 hy2 hb fb Ab h w)
  have hr0 := hr
  unfold mulR at hr
  rw [Aa, Ab] at hr
  by_cases n0 : 8 ≤ c1 ∨ 8 ≤ c2
  · have hM : M = eNaN f ∧ fl = if c1 = 8 ∨ c2 = 8 then 16 else 0 := by
      by_cases s0 : c1 = 8 ∨ c2 = 8
      · rw [if_pos s0] at hr ⊢
        injection hr with r1 r2
        exact ⟨r1.symm, r2.symm⟩
      · rw [if_neg s0, if_pos (by omega)] at hr
        rw [if_neg s0]
        injection hr with r1 r2
        exact ⟨r1.symm, r2.symm⟩
    have KC := rcan2 f hf x1 y1 a x2 y2 b hx1 hy1 ha hx2 hy2 hb fa fb fl (by rw [Aa, Ab]; exact hM.2.symm) u v (by rw [← hM.1]; exact hv)
    by_cases n1 : 8 ≤ c1
    · exact rmu_nx f m x1 y1 x2 y2 u v w fl KF (KN1 true (decide_eq_true n1)) KC
    · exact rmu_ny f m x1 y1 x2 y2 u v w fl KF (KN1 false (decide_eq_false n1)) (KN2 true (decide_eq_true (n0.resolve_left n1))) KC
  have KN1 := KN1 false (decide_eq_false (by omega))
  have KN2 := KN2 false (decide_eq_false (by omega))
  rw [if_neg (by omega), if_neg (by omega)] at hr
  obtain ⟨s1, hs1⟩ : ∃ c, kN f a = c := ⟨_, rfl⟩
  obtain ⟨s2, hs2⟩ : ∃ c, kN f b = c := ⟨_, rfl⟩
  obtain ⟨neg, hng⟩ : ∃ c, (s1 != s2) = c := ⟨_, rfl⟩
  rw [hs1, hs2, hng] at hr
  have KS1 : Box (∀ w, Calls Tryz.prog 50 #[.int .u8 f, .agg #[.int .u64 x1, .int .u64 y1]] w fun r w' => r = .returned (.bool s1) ∧ Below w.heap.size w w') := box (fun w => rSign_yes f hf x1 y1 a s1 hx1 hy1 ha oa hs1 w)
  have KS2 : Box (∀ w, Calls Tryz.prog 50 #[.int .u8 f, .agg #[.int .u64 x2, .int .u64 y2]] w fun r w' => r = .returned (.bool s2) ∧ Below w.heap.size w w') := box (fun w => rSign_yes f hf x2 y2 b s2 hx2 hy2 hb ob hs2 w)
  have KI1 : ∀ o, decide (c1 = 0 ∨ c1 = 7) = o → Box (∀ w, Calls Tryz.prog 80 #[.int .u8 f, .agg #[.int .u64 x1, .int .u64 y1]] w fun r w' => r = .returned (.bool o) ∧ Below w.heap.size w w') := fun o h => box (fun w => rInf_is f hf x1 y1 a c1 o hx1 hy1 ha fa Aa (by rw [← Bool.decide_or]; exact h) w)
  have KI2 : ∀ o, decide (c2 = 0 ∨ c2 = 7) = o → Box (∀ w, Calls Tryz.prog 80 #[.int .u8 f, .agg #[.int .u64 x2, .int .u64 y2]] w fun r w' => r = .returned (.bool o) ∧ Below w.heap.size w w') := fun o h => box (fun w => rInf_is f hf x2 y2 b c2 o hx2 hy2 hb fb Ab (by rw [← Bool.decide_or]; exact h) w)
  have KZ1 : ∀ o, decide (c1 = 3 ∨ c1 = 4) = o → Box (∀ w, Calls Tryz.prog 38 #[.int .u8 f, .agg #[.int .u64 x1, .int .u64 y1]] w fun r w' => r = .returned (.bool o) ∧ Below w.heap.size w w') := fun o h => box (fun w => rZero_is f hf x1 y1 a c1 o hx1 hy1 ha fa Aa (by rw [← Bool.decide_or]; exact h) w)
  have KZ2 : ∀ o, decide (c2 = 3 ∨ c2 = 4) = o → Box (∀ w, Calls Tryz.prog 38 #[.int .u8 f, .agg #[.int .u64 x2, .int .u64 y2]] w fun r w' => r = .returned (.bool o) ∧ Below w.heap.size w w') := fun o h => box (fun w => rZero_is f hf x2 y2 b c2 o hx2 hy2 hb fb Ab (by rw [← Bool.decide_or]; exact h) w)
  have KRN : bv7 (eNaN f) = (u, v) → Box (∀ w, Calls Tryz.prog 81 #[.int .u8 f] w fun r w' => r = .returned (.agg #[.int .u64 u, .int .u64 v]) ∧ Below w.heap.size w w') := fun h => box (fun w => by
    have := r_nan f hf _ rfl w
    rw [h] at this
    exact this)
  have KRI : bv7 (eInf f neg) = (u, v) → Box (∀ w, Calls Tryz.prog 90 #[.int .u8 f, .bool neg] w fun r w' => r = .returned (.agg #[.int .u64 u, .int .u64 v]) ∧ Below w.heap.size w w') := fun h => box (fun w => by
    have := r_inf f neg hf _ rfl w
    rw [h] at this
    exact this)
  have KRZ : bv7 (eZero f neg) = (u, v) → Box (∀ w, Calls Tryz.prog 91 #[.int .u8 f, .bool neg] w fun r w' => r = .returned (.agg #[.int .u64 u, .int .u64 v]) ∧ Below w.heap.size w w') := fun h => box (fun w => by
    have := r_zero f neg hf _ rfl w
    rw [h] at this
    exact this)
  by_cases d1 : ((c1 = 0 ∨ c1 = 7) ∧ (c2 = 3 ∨ c2 = 4)) ∨ ((c2 = 0 ∨ c2 = 7) ∧ (c1 = 3 ∨ c1 = 4))
  · rw [if_pos d1] at hr
    injection hr with r1 r2
    subst r1 r2
    rcases d1 with ⟨i, z⟩ | ⟨i, z⟩
    · exact rmu_tu f m x1 y1 x2 y2 u v w s1 s2 neg hng KF KN1 KN2 KS1 KS2 (KI1 true (decide_eq_true i)) (KZ1 false (decide_eq_false (by omega))) (KZ2 true (decide_eq_true z)) (KRN hv)
    · exact rmu_ut f m x1 y1 x2 y2 u v w s1 s2 neg hng KF KN1 KN2 KS1 KS2 (KI1 false (decide_eq_false (by omega))) (KI2 true (decide_eq_true i)) (KZ1 true (decide_eq_true z)) (KRN hv)
  rw [if_neg d1] at hr
  by_cases e1 : (c1 = 0 ∨ c1 = 7) ∨ (c2 = 0 ∨ c2 = 7)
  · rw [if_pos e1] at hr
    injection hr with r1 r2
    subst r1 r2
    by_cases i : c1 = 0 ∨ c1 = 7
    · exact rmu_tf f m x1 y1 x2 y2 u v w s1 s2 neg hng KF KN1 KN2 KS1 KS2 (KI1 true (decide_eq_true i)) (KZ1 false (decide_eq_false (by omega))) (KZ2 false (decide_eq_false (by omega))) (KRI hv)
    · exact rmu_uf f m x1 y1 x2 y2 u v w s1 s2 neg hng KF KN1 KN2 KS1 KS2 (KI1 false (decide_eq_false i)) (KI2 true (decide_eq_true (e1.resolve_left i))) (KZ1 false (decide_eq_false (by omega))) (KZ2 false (decide_eq_false (by omega))) (KRI hv)
  rw [if_neg e1] at hr
  have KI1 := KI1 false (decide_eq_false (by omega))
  have KI2 := KI2 false (decide_eq_false (by omega))
  by_cases n1 : (c1 = 3 ∨ c1 = 4) ∨ (c2 = 3 ∨ c2 = 4)
  · rw [if_pos n1] at hr
    injection hr with r1 r2
    subst r1 r2
    by_cases z : c1 = 3 ∨ c1 = 4
    · exact rmu_ft f m x1 y1 x2 y2 u v w s1 s2 neg hng KF KN1 KN2 KS1 KS2 KI1 KI2 (KZ1 true (decide_eq_true z)) (KRZ hv)
    · exact rmu_fu f m x1 y1 x2 y2 u v w s1 s2 neg hng KF KN1 KN2 KS1 KS2 KI1 KI2 (KZ1 false (decide_eq_false z)) (KZ2 true (decide_eq_true (n1.resolve_left z))) (KRZ hv)
  rw [if_neg n1] at hr
  have KZ1 := KZ1 false (decide_eq_false (by omega))
  have KZ2 := KZ2 false (decide_eq_false (by omega))
  obtain ⟨a1, a2, a3, a4⟩ := vX_whole hf a (by omega) (by omega)
  obtain ⟨b1, b2, b3, b4⟩ := vX_whole hf b (by omega) (by omega)
  obtain ⟨sa1, sa2, sa3⟩ := kS_lim hf a
  obtain ⟨sb1, sb2, sb3⟩ := kS_lim hf b
  obtain ⟨n, e, q1, q2, q3, q4, q5⟩ := mul_num hf m s1 s2 (kS f a) (kS f b) (kX f a) (kX f b) a1 b1 a2 b2 sa2 sa3 sb2 sb3
  rw [hs1] at a3
  rw [hs2] at b3
  rw [hng] at q1 q2 q5
  rw [a3] at a4
  rw [b3] at b4
  refine rmu_ff f m x1 y1 x2 y2 u v w s1 s2 neg hng s1 _ _ _ s2 _ _ _ neg _ _ e 0 fl KF KN1 KN2 KS1 KS2 KI1 KI2 KZ1 KZ2
    (box (fun w => rValue_yes f hf x1 y1 a hx1 hy1 ha oa fa (by omega) _ _ _ _ _ _ a3 rfl rfl w)) (box (fun w => rValue_yes f hf x2 y2 b hx2 hy2 hb ob fb (by omega) _ _ _ _ _ _ b3 rfl rfl w))
    (box (fun w => rMul_ok _ _ _ _ _ _ _ _ _ _ _ _ neg n 1 e 0 _ _ rfl rfl rfl rfl a4 b4 q1 rfl rfl w))
    (box (fun w => rRound_is0 f m hf hm neg n 1 _ _ e rfl rfl q2 q3 (Nat.le_trans (nl_le_of 1 1 (by decide)) (by decide)) M fl (by rw [q5]; exact hr) u v hv w))
theorem both_mul (f m : Int) (h0 : 0 ≤ f) (h1 : f ≤ 255) (m0 : 0 ≤ m) (x1 y1 x2 y2 : Nat) (hx1 : x1 < 18446744073709551616) (hy1 : y1 < 18446744073709551616) (hx2 : x2 < 18446744073709551616) (hy2 : y2 < 18446744073709551616) : ∃ (u v : Nat) (fl c : Int), Box (∀ w, FAt w → Calls Tryz.prog 40 #[.int .u8 f, .int .u8 m, .agg #[.int .u64 x1, .int .u64 y1], .agg #[.int .u64 x2, .int .u64 y2]] w fun r w' => r = .returned (.tuple #[.agg #[.int .u64 u, .int .u64 v], .int .u8 fl, .int .i64 c]) ∧ Below w.heap.size w w') ∧ Box (∀ w, Calls Tryz.prog 41 #[.int .u8 f, .int .u8 m, .agg #[.int .u64 x1, .int .u64 y1], .agg #[.int .u64 x2, .int .u64 y2]] w fun r w' => r = .returned (.tuple #[.agg #[.int .u64 u, .int .u64 v], .int .u8 fl, .int .i64 c]) ∧ Below w.heap.size w w') ∧ IntKind.i64.wrap c = c := by
  obtain ⟨a, ha⟩ : ∃ a, y1 + 18446744073709551616 * x1 = a := ⟨_, rfl⟩
  obtain ⟨b, hb⟩ : ∃ b, y2 + 18446744073709551616 * x2 = b := ⟨_, rfl⟩
  by_cases h : (f ≤ 3 ∧ m ≤ 4) ∧ okB f a = true ∧ okB f b = true
  · obtain ⟨⟨c1, c2⟩, oa, ob⟩ := h
    have hf := is4_of h0 c1
    obtain ⟨M, fl, hr⟩ : ∃ M fl, mulR f m a b = (M, fl) := ⟨_, _, rfl⟩
    obtain ⟨u, v, hv⟩ : ∃ u v, bv7 M = (u, v) := ⟨_, _, rfl⟩
    refine ⟨u, v, fl, 0, box (fun w hT => mul_mul_yes f m x1 y1 x2 y2 u v 0 0 fl 0 w (kmay2 f m h0 h1 m0 x1 y1 a x2 y2 b hx1 hy1 ha hx2 hy2 hb true (by rw [oa, ob, decide_eq_true (show f ≤ 3 ∧ m ≤ 4 from ⟨c1, c2⟩)]; rfl)) (box (fun w hT => ktimes_is f m hf ⟨m0, c2⟩ x1 y1 a x2 y2 b hx1 hy1 ha hx2 hy2 hb oa ob M fl hr u v hv w hT)) hT), box (fun w => rMul_is f m hf ⟨m0, c2⟩ x1 y1 a x2 y2 b hx1 hy1 ha hx2 hy2 hb oa ob M fl hr u v hv w), by decide⟩
  · have hn : (decide (f ≤ 3 ∧ m ≤ 4) && okB f a && okB f b) = false := by
      rw [Bool.eq_false_iff]
      intro q
      rw [Bool.and_eq_true, Bool.and_eq_true, decide_eq_true_iff] at q
      exact h ⟨q.1.1, q.1.2, q.2⟩
    exact ⟨0, 0, 0, 2, box (fun w hT => mul_mul_no f m x1 y1 x2 y2 0 0 0 0 0 0 w (kmay2 f m h0 h1 m0 x1 y1 a x2 y2 b hx1 hy1 ha hx2 hy2 hb false hn) hT), box (fun w => rmu_no f m x1 y1 x2 y2 0 0 w (rfit2 f m h0 x1 y1 a x2 y2 b hx1 hy1 ha hx2 hy2 hb false hn)), by decide⟩
end Go.Proofs.YtoaaajeblhaeoaaGreatDoor
namespace Go.Proofs.YtoaaajeblhaeoaaGreatDoor
set_option maxRecDepth 100000
set_option maxHeartbeats 40000000
set_option maxRecDepth 100000
open Go.RowKit WMath XMath
set_option linter.unusedSimpArgs false
set_option linter.unusedVariables false

theorem al12 : mulR 2 0 16384 16896 = (17920, 0) ∧ okB 2 16384 = true ∧ okB 2 16896 = true := by decide +kernel
theorem kMul_yes (f m : Int) (hf : Is4 f) (hm : 0 ≤ m ∧ m ≤ 4) (x1 y1 a x2 y2 b : Nat) (hx1 : x1 < 18446744073709551616) (hy1 : y1 < 18446744073709551616) (ha : y1 + 18446744073709551616 * x1 = a) (hx2 : x2 < 18446744073709551616) (hy2 : y2 < 18446744073709551616) (hb : y2 + 18446744073709551616 * x2 = b)
    (oa : okB f a = true) (ob : okB f b = true) (M : Nat) (fl : Int) (hr : mulR f m a b = (M, fl)) (u v : Nat) (hv : bv7 M = (u, v)) (w : World) (hT : FAt w) :
    Calls Tryz.prog 40 #[.int .u8 f, .int .u8 m, .agg #[.int .u64 x1, .int .u64 y1], .agg #[.int .u64 x2, .int .u64 y2]] w fun r w' => r = .returned (.tuple #[.agg #[.int .u64 u, .int .u64 v], .int .u8 fl, .int .i64 0]) ∧ Below w.heap.size w w' :=
  mul_mul_yes f m x1 y1 x2 y2 u v 0 0 fl 0 w (kmay2 f m (is4_ok hf).1 (is4_ok hf).2.1 hm.1 x1 y1 a x2 y2 b hx1 hy1 ha hx2 hy2 hb true (by rw [oa, ob, decide_eq_true (show f ≤ 3 ∧ m ≤ 4 from ⟨is4_le hf, hm.2⟩)]; rfl)) (box (fun w hT => ktimes_is f m hf hm x1 y1 a x2 y2 b hx1 hy1 ha hx2 hy2 hb oa ob M fl hr u v hv w hT)) hT
theorem r12alive (w : World) (hT : FAt w) : Calls Tryz.prog 42 #[] w fun r w' => r = .returned (.bool true) ∧ Below w.heap.size w w' := by
  have FF := box hT
  have K1 : Box (∀ w, FAt w → Calls Tryz.prog 40 #[.int .u8 2, .int .u8 0, .agg #[.int .u64 0, .int .u64 16384], .agg #[.int .u64 0, .int .u64 16896]] w fun r w' => r = .returned (.tuple #[.agg #[.int .u64 0, .int .u64 17920], .int .u8 0, .int .i64 0]) ∧ Below w.heap.size w w') := box (fun w hT => kMul_yes 2 0 (by unfold Is4; omega) (by decide) 0 16384 16384 0 16896 16896 (by decide) (by decide) rfl (by decide) (by decide) rfl al12.2.1 al12.2.2 _ _ al12.1 0 17920 rfl w hT)
  clear hT
  have B0 : Below w.heap.size w w := (Below.refl _ _)
  go_enter Tryz.func42, Tryz.ntmps42
  go_wp2_with fail
  refine (K1.out _ (fatB FF.out B0)).mono ?_
  rintro r w1 ⟨rfl, b1⟩
  have B1 : Below w.heap.size w w1 := btr B0 b1
  clear b1 B0 
  have S2 := box B1.size
  have Aa := heap_alloc_last w1 (Obj.cells #[.int .u64 0, .int .u64 17920] 25)
  have B2 := btr B1 (bal w1 (Obj.cells #[.int .u64 0, .int .u64 17920] 25))
  clear B1 
  obtain ⟨Ab, Ac⟩ := cells2s Aa
  go_wp2
  go_ret
  exact ⟨rfl, B2⟩
end Go.Proofs.YtoaaajeblhaeoaaGreatDoor
