/-
  What the functions that the statement reaches return: part 14 (Z3, Z5).
-/
import Derived.Test.YtapikkbifdldfaaDoorDo13
namespace Go.Proofs.YtapikkbifdldfaaDoor
set_option maxRecDepth 100000
set_option maxHeartbeats 40000000
set_option maxRecDepth 100000
open Go.RowKit WMath XMath
set_option linter.unusedSimpArgs false
set_option linter.unusedVariables false
def qK (A B : Nat) : Nat := 115 + blen B - blen A
def divR (f m : Int) (a b : Nat) : Nat × Int :=
  if kC f a = 8 ∨ kC f b = 8 then (eNaN f, 16)
  else if kC f a = 9 ∨ kC f b = 9 then (eNaN f, 0)
  else if ((kC f a = 0 ∨ kC f a = 7) ∧ (kC f b = 0 ∨ kC f b = 7)) ∨ ((kC f a = 3 ∨ kC f a = 4) ∧ (kC f b = 3 ∨ kC f b = 4)) then (eNaN f, 16)
  else if kC f a = 0 ∨ kC f a = 7 then (eInf f (kN f a != kN f b), 0)
  else if (kC f b = 0 ∨ kC f b = 7) ∨ (kC f a = 3 ∨ kC f a = 4) then (eZero f (kN f a != kN f b), 0)
  else if kC f b = 3 ∨ kC f b = 4 then (eInf f (kN f a != kN f b), 8)
  else dlv f m (kN f a != kN f b) (kX f a - kX f b - (qK (kS f a) (kS f b) : Int) + (blen (kS f a * 2 ^ qK (kS f a) (kS f b) / kS f b) : Int) - 1) (qW (pV f + 1) (kS f a * 2 ^ qK (kS f a) (kS f b) / kS f b)) (qM (pV f + 1) (kS f a * 2 ^ qK (kS f a) (kS f b) / kS f b) (decide (kS f a * 2 ^ qK (kS f a) (kS f b) % kS f b ≠ 0)))
theorem knanF (p1 p2 fl : Int) (h : (if p1 = 8 ∨ p2 = 8 then 16 else 0) = fl) : Box (∀ w, Calls Tryd.prog 20 #[.agg #[.int .u8 p1, .int .u8 p2]] w fun r w' => r = .returned (.int .u8 fl) ∧ Below w.heap.size w w') := by
  by_cases c1 : p1 = 8
  · rw [if_pos (Or.inl c1)] at h
    subst h
    exact box (fun w => dv_nan_a p1 p2 (by rw [c1]; rfl) w)
  by_cases c2 : p2 = 8
  · rw [if_pos (Or.inr c2)] at h
    subst h
    exact box (fun w => dv_nan_b p1 p2 (beq_eq_false_iff_ne.2 c1) (by rw [c2]; rfl) w)
  rw [if_neg (by omega)] at h
  subst h
  exact box (fun w => dv_nan_c p1 p2 (beq_eq_false_iff_ne.2 c1) (beq_eq_false_iff_ne.2 c2) w)
theorem kDiv_is (f m : Int) (hf : Is4 f) (hm : 0 ≤ m ∧ m ≤ 4) (x1 y1 a x2 y2 b : Nat) (hx1 : x1 < 18446744073709551616) (hy1 : y1 < 18446744073709551616) (ha : y1 + 18446744073709551616 * x1 = a) (hx2 : x2 < 18446744073709551616) (hy2 : y2 < 18446744073709551616) (hb : y2 + 18446744073709551616 * x2 = b)
    (oa : okB f a = true) (ob : okB f b = true) (M : Nat) (fl : Int) (hr : divR f m a b = (M, fl)) (u v : Nat) (hv : bv7 M = (u, v)) (w : World) (hT : FAt w) :
    Calls Tryd.prog 7 #[.int .u8 f, .int .u8 m, .agg #[.int .u64 (x1 : Nat), .int .u64 (y1 : Nat)], .agg #[.int .u64 (x2 : Nat), .int .u64 (y2 : Nat)]] w fun r w' => r = .returned (.tuple #[.agg #[.int .u64 (u : Nat), .int .u64 (v : Nat)], .int .u8 fl, .int .i64 0]) ∧ Below w.heap.size w w' := by
  have KF := kmay2 f m (is4_ok hf).1 (is4_ok hf).2.1 hm.1 x1 y1 a x2 y2 b hx1 hy1 ha hx2 hy2 hb true (by rw [oa, ob, decide_eq_true (show f ≤ 3 ∧ m ≤ 4 from ⟨is4_le hf, hm.2⟩)]; rfl)
  obtain ⟨sa1, sa2, sa3⟩ := kS_lim hf a
  obtain ⟨sb1, sb2, sb3⟩ := kS_lim hf b
  have ba := fun h => kS_blen hf a h
  have bb := fun h => kS_blen hf b h
  obtain ⟨c1, hc1⟩ : ∃ c, kC f a = c := ⟨_, rfl⟩
  obtain ⟨c2, hc2⟩ : ∃ c, kC f b = c := ⟨_, rfl⟩
  obtain ⟨m1, hm1⟩ : ∃ c, kS f a = c := ⟨_, rfl⟩
  obtain ⟨m2, hm2⟩ : ∃ c, kS f b = c := ⟨_, rfl⟩
  obtain ⟨X1, hX1⟩ : ∃ c, kX f a = c := ⟨_, rfl⟩
  obtain ⟨X2, hX2⟩ : ∃ c, kX f b = c := ⟨_, rfl⟩
  obtain ⟨s1, hs1⟩ : ∃ c, kN f a = c := ⟨_, rfl⟩
  obtain ⟨s2, hs2⟩ : ∃ c, kN f b = c := ⟨_, rfl⟩
  obtain ⟨neg, hng⟩ : ∃ c, (s1 != s2) = c := ⟨_, rfl⟩
  have KU1 : Box (∀ w, FAt w → Calls Tryd.prog 13 #[.int .u8 f, .agg #[.int .u64 (x1 : Nat), .int .u64 (y1 : Nat)]] w fun r w' => r = .returned (.tuple #[.agg (pt c1 m1 X1 (kF f a)), .int .i64 0]) ∧ Below w.heap.size w w') := box (fun w hT => kUnpack_yes f hf x1 y1 a c1 m1 (kF f a) X1 hx1 hy1 ha oa (by unfold kp; rw [hc1, hm1, hX1]) w hT)
  have KU2 : Box (∀ w, FAt w → Calls Tryd.prog 13 #[.int .u8 f, .agg #[.int .u64 (x2 : Nat), .int .u64 (y2 : Nat)]] w fun r w' => r = .returned (.tuple #[.agg (pt c2 m2 X2 (kF f b)), .int .i64 0]) ∧ Below w.heap.size w w') := box (fun w hT => kUnpack_yes f hf x2 y2 b c2 m2 (kF f b) X2 hx2 hy2 hb ob (by unfold kp; rw [hc2, hm2, hX2]) w hT)
  have KS1 : Box (∀ w, FAt w → Calls Tryd.prog 14 #[.int .u8 f, .agg #[.int .u64 (x1 : Nat), .int .u64 (y1 : Nat)]] w fun r w' => r = .returned (.bool s1) ∧ Below w.heap.size w w') := box (fun w hT => kSign_yes f hf x1 y1 a s1 hx1 hy1 ha oa hs1 w hT)
  have KS2 : Box (∀ w, FAt w → Calls Tryd.prog 14 #[.int .u8 f, .agg #[.int .u64 (x2 : Nat), .int .u64 (y2 : Nat)]] w fun r w' => r = .returned (.bool s2) ∧ Below w.heap.size w w') := box (fun w hT => kSign_yes f hf x2 y2 b s2 hx2 hy2 hb ob hs2 w hT)
  have p1 := fun h => k_parts (f := f) a h
  have p2 := fun h => k_parts (f := f) b h
  unfold divR at hr
  rw [hc1, hc2, hs1, hs2, hng, hX1, hX2, hm1, hm2] at hr
  rw [hc1, hm1] at p1 ba
  rw [hc2, hm2] at p2 bb
  rw [hm1] at sa1
  rw [hX1] at sa2 sa3
  rw [hm2] at sb1
  rw [hX2] at sb2 sb3
  have lc1 : c1 ≤ 9 := by rw [← hc1]; have := kC_lt f a; omega
  have lc2 : c2 ≤ 9 := by rw [← hc2]; have := kC_lt f b; omega
  have KP1 := kplain c1 lc1
  have KP2 := kplain c2 lc2
  have KN : bv7 (eNaN f) = (u, v) → Box (∀ w, FAt w → Calls Tryd.prog 16 #[.int .u8 f] w fun r w' => r = .returned (.agg #[.int .u64 (u : Nat), .int .u64 (v : Nat)]) ∧ Below w.heap.size w w') := fun h => box (fun w hT => kNaN_is f hf u v h w hT)
  have KI : bv7 (eInf f neg) = (u, v) → Box (∀ w, FAt w → Calls Tryd.prog 17 #[.int .u8 f, .bool neg] w fun r w' => r = .returned (.agg #[.int .u64 (u : Nat), .int .u64 (v : Nat)]) ∧ Below w.heap.size w w') := fun h => box (fun w hT => kInf_is f hf neg u v h w hT)
  have KZ : bv7 (eZero f neg) = (u, v) → Box (∀ w, FAt w → Calls Tryd.prog 18 #[.int .u8 f, .int .u8 m, .agg (rg neg 0 0 false)] w fun r w' => r = .returned (.tuple #[.agg #[.int .u64 (u : Nat), .int .u64 (v : Nat)], .int .u8 0, .int .i64 0]) ∧ Below w.heap.size w w') := fun h => box (fun w hT => kPack_zero f m hf hm neg 0 (by decide) (by decide) u v h w hT)
  by_cases n0 : 8 ≤ c1 ∨ 8 ≤ c2
  · have hM : M = eNaN f ∧ (if plC c1 = 8 ∨ plC c2 = 8 then 16 else 0) = fl := by
      have e1 : plC c1 = 8 ↔ c1 = 8 := by unfold plC; split <;> (try split) <;> (try split) <;> omega
      have e2 : plC c2 = 8 ↔ c2 = 8 := by unfold plC; split <;> (try split) <;> (try split) <;> omega
      by_cases s0 : c1 = 8 ∨ c2 = 8
      · rw [if_pos s0] at hr
        rw [if_pos (by rw [e1, e2]; exact s0)]
        injection hr with r1 r2
        exact ⟨r1.symm, r2⟩
      · rw [if_neg s0, if_pos (by omega)] at hr
        rw [if_neg (by rw [e1, e2]; exact s0)]
        injection hr with r1 r2
        exact ⟨r1.symm, r2⟩
    have KX := knanF (plC c1) (plC c2) fl hM.2
    have KN := KN (by rw [← hM.1]; exact hv)
    by_cases n1 : 8 ≤ c1
    · have e : plC c1 = (c1 : Int) := by unfold plC; rw [if_neg (by omega), if_neg (by omega), if_pos (by omega)]
      exact dv_all f m x1 y1 x2 y2 u v c1 m1 X1 _ c2 m2 X2 _ s1 s2 neg (plC c1) (plC c2) 0 0 _ false w hng KF KU1 KU2 KS1 KS2 (KP1 _ rfl) (KP2 _ rfl) (box (Or.inr (Or.inr (Or.inr (Or.inr (Or.inr (Or.inr (Or.inr (Or.inr (Or.inr (Or.inl (⟨(by rw [e]; exact ine (by omega)), (by rw [e]; exact ine (by omega)), (by rw [e]; exact ine (by omega)), KN, KX⟩)))))))))))) hT
    · have e : plC c2 = (c2 : Int) := by unfold plC; rw [if_neg (by omega), if_neg (by omega), if_pos (by omega)]
      exact dv_all f m x1 y1 x2 y2 u v c1 m1 X1 _ c2 m2 X2 _ s1 s2 neg (plC c1) (plC c2) 0 0 _ false w hng KF KU1 KU2 KS1 KS2 (KP1 _ rfl) (KP2 _ rfl) (box (Or.inr (Or.inr (Or.inr (Or.inr (Or.inr (Or.inr (Or.inr (Or.inr (Or.inr (Or.inr (⟨(by rw [e]; exact ine (by omega)), (by rw [e]; exact ine (by omega)), (by rw [e]; exact ine (by omega)), KN, KX⟩)))))))))))) hT
  rw [if_neg (by omega), if_neg (by omega)] at hr
  by_cases d1 : ((c1 = 0 ∨ c1 = 7) ∧ (c2 = 0 ∨ c2 = 7)) ∨ ((c1 = 3 ∨ c1 = 4) ∧ (c2 = 3 ∨ c2 = 4))
  · rw [if_pos d1] at hr
    injection hr with r1 r2
    subst r1 r2
    rcases d1 with ⟨i, j⟩ | ⟨i, j⟩
    · exact dv_all f m x1 y1 x2 y2 u v c1 m1 X1 _ c2 m2 X2 _ s1 s2 neg 7 7 0 0 _ false w hng KF KU1 KU2 KS1 KS2 (KP1 _ (by unfold plC; rw [if_pos (by omega)])) (KP2 _ (by unfold plC; rw [if_pos (by omega)])) (box (Or.inl (⟨rfl, rfl, KN hv, rfl⟩))) hT
    · exact dv_all f m x1 y1 x2 y2 u v c1 m1 X1 _ c2 m2 X2 _ s1 s2 neg 4 4 0 0 _ false w hng KF KU1 KU2 KS1 KS2 (KP1 _ (by unfold plC; rw [if_neg (by omega), if_pos (by omega)])) (KP2 _ (by unfold plC; rw [if_neg (by omega), if_pos (by omega)])) (box (Or.inr (Or.inl (⟨rfl, rfl, KN hv, rfl⟩)))) hT
  rw [if_neg d1] at hr
  by_cases i1 : c1 = 0 ∨ c1 = 7
  · rw [if_pos i1] at hr
    injection hr with r1 r2
    subst r1 r2
    by_cases z2 : c2 = 3 ∨ c2 = 4
    · exact dv_all f m x1 y1 x2 y2 u v c1 m1 X1 _ c2 m2 X2 _ s1 s2 neg 7 4 0 0 _ false w hng KF KU1 KU2 KS1 KS2 (KP1 _ (by unfold plC; rw [if_pos (by omega)])) (KP2 _ (by unfold plC; rw [if_neg (by omega), if_pos (by omega)])) (box (Or.inr (Or.inr (Or.inr (Or.inl (⟨rfl, rfl, KI hv, rfl⟩)))))) hT
    · exact dv_all f m x1 y1 x2 y2 u v c1 m1 X1 _ c2 m2 X2 _ s1 s2 neg 7 6 0 0 _ false w hng KF KU1 KU2 KS1 KS2 (KP1 _ (by unfold plC; rw [if_pos (by omega)])) (KP2 _ (by unfold plC; rw [if_neg (by omega), if_neg (by omega), if_neg (by omega)])) (box (Or.inr (Or.inr (Or.inl (⟨rfl, rfl, KI hv, rfl⟩))))) hT
  rw [if_neg i1] at hr
  by_cases o1 : (c2 = 0 ∨ c2 = 7) ∨ (c1 = 3 ∨ c1 = 4)
  · rw [if_pos o1] at hr
    injection hr with r1 r2
    subst r1 r2
    by_cases i2 : c2 = 0 ∨ c2 = 7
    · by_cases z1 : c1 = 3 ∨ c1 = 4
      · exact dv_all f m x1 y1 x2 y2 u v c1 m1 X1 _ c2 m2 X2 _ s1 s2 neg 4 7 0 0 _ false w hng KF KU1 KU2 KS1 KS2 (KP1 _ (by unfold plC; rw [if_neg (by omega), if_pos (by omega)])) (KP2 _ (by unfold plC; rw [if_pos (by omega)])) (box (Or.inr (Or.inr (Or.inr (Or.inr (Or.inr (Or.inl (⟨rfl, rfl, KZ hv⟩)))))))) hT
      · exact dv_all f m x1 y1 x2 y2 u v c1 m1 X1 _ c2 m2 X2 _ s1 s2 neg 6 7 0 0 _ false w hng KF KU1 KU2 KS1 KS2 (KP1 _ (by unfold plC; rw [if_neg (by omega), if_neg (by omega), if_neg (by omega)])) (KP2 _ (by unfold plC; rw [if_pos (by omega)])) (box (Or.inr (Or.inr (Or.inr (Or.inr (Or.inl (⟨rfl, rfl, KZ hv⟩))))))) hT
    · exact dv_all f m x1 y1 x2 y2 u v c1 m1 X1 _ c2 m2 X2 _ s1 s2 neg 4 6 0 0 _ false w hng KF KU1 KU2 KS1 KS2 (KP1 _ (by unfold plC; rw [if_neg (by omega), if_pos (by omega)])) (KP2 _ (by unfold plC; rw [if_neg (by omega), if_neg (by omega), if_neg (by omega)])) (box (Or.inr (Or.inr (Or.inr (Or.inr (Or.inr (Or.inr (Or.inl (⟨rfl, rfl, KZ hv⟩))))))))) hT
  rw [if_neg o1] at hr
  by_cases z2 : c2 = 3 ∨ c2 = 4
  · rw [if_pos z2] at hr
    injection hr with r1 r2
    subst r1 r2
    exact dv_all f m x1 y1 x2 y2 u v c1 m1 X1 _ c2 m2 X2 _ s1 s2 neg 6 4 0 0 _ false w hng KF KU1 KU2 KS1 KS2 (KP1 _ (by unfold plC; rw [if_neg (by omega), if_neg (by omega), if_neg (by omega)])) (KP2 _ (by unfold plC; rw [if_neg (by omega), if_pos (by omega)])) (box (Or.inr (Or.inr (Or.inr (Or.inr (Or.inr (Or.inr (Or.inr (Or.inl (⟨rfl, rfl, KI hv, rfl⟩)))))))))) hT
  rw [if_neg z2] at hr
  obtain ⟨a1, a2⟩ := ba (by omega)
  obtain ⟨b1, b2⟩ := bb (by omega)
  have m10 := (p1 (by omega)).2.2.2
  have m20 := (p2 (by omega)).2.2.2
  obtain ⟨k, hk⟩ : ∃ k, qK m1 m2 = k := ⟨_, rfl⟩
  rw [hk] at hr
  unfold qK at hk
  obtain ⟨q1, q2⟩ := quo_len m1 m2 k m10 m20 (by omega)
  have bs := blen_shift m1 k m10
  obtain ⟨x, hx⟩ : ∃ x, m1 * 2 ^ k = x := ⟨_, rfl⟩
  rw [hx] at hr q1 q2 bs
  obtain ⟨S, hS⟩ : ∃ S, x / m2 = S := ⟨_, rfl⟩
  obtain ⟨more, hmo⟩ : ∃ o, decide (x % m2 ≠ 0) = o := ⟨_, rfl⟩
  rw [hS, hmo] at hr
  rw [hS] at q1 q2
  have xQ : x < Q := q256 ((blen_iff x 256).1 (by omega))
  have SQ : S < Q := q256 ((blen_iff S 256).1 (by omega))
  have S0 : S ≠ 0 := fun h => by
    rw [h] at q1
    have : blen 0 = 0 := by unfold blen; rw [if_pos rfl]
    omega
  have ck : cnt6 (k : Int) = k := by unfold cnt6; omega
  have KL1 : Box (∀ w, Calls Tryd.prog 53 #[.agg (cw 6 m1)] w fun r w' => r = .returned (.int .i64 (blen m1 : Nat)) ∧ Below w.heap.size w w') := box (fun w => wlen_is m1 _ (lt_Q7 sa1) rfl w)
  have KL2 : Box (∀ w, Calls Tryd.prog 53 #[.agg (cw 6 m2)] w fun r w' => r = .returned (.int .i64 (blen m2 : Nat)) ∧ Below w.heap.size w w') := box (fun w => wlen_is m2 _ (lt_Q7 sb1) rfl w)
  have KD : Box (∀ w, Calls Tryd.prog 54 #[.agg (cw 6 m1), .agg (cw 6 m2), .int .i64 (k : Nat)] w fun r w' => r = .returned (.tuple #[.agg (cw 6 S), .bool more, .int .i64 0]) ∧ Below w.heap.size w w') := box (fun w => qdigits_is m1 m2 x S (k : Int) more (lt_Q7 sa1) (lt_Q7 sb1) m20 (by omega) (by omega) (by rw [ck]; exact hx) xQ hS (by rw [← hmo]; by_cases c : x % m2 = 0 <;> simp [c]) w)
  have KX : Box (∀ w, Calls Tryd.prog 19 #[.bool neg, .agg (pt c1 m1 X1 (kF f a)), .agg (pt c2 m2 X2 (kF f b))] w fun r w' => r = .returned (.agg (rg neg S (X1 - X2 - (k : Int)) more)) ∧ Below w.heap.size w w') := box (fun w => dv_digits neg c1 m1 X1 _ c2 m2 X2 _ S _ _ (115 + (blen m2 : Int)) (k : Int) (X1 - X2) _ more 0 w KL1 KL2 (wrap_i64_is _ (by omega) (by omega)) (by rw [wrap_i64_is _ (by omega) (by omega)]; omega) KD (wrap_i64_is _ (by omega) (by omega)) (wrap_i64_is _ (by omega) (by omega)))
  have l112 : pV f ≤ 112 := by rcases hf with rfl | rfl | rfl | rfl <;> decide
  exact dv_all f m x1 y1 x2 y2 u v c1 m1 X1 _ c2 m2 X2 _ s1 s2 neg 6 6 S _ fl more w hng KF KU1 KU2 KS1 KS2 (KP1 _ (by unfold plC; rw [if_neg (by omega), if_neg (by omega), if_neg (by omega)])) (KP2 _ (by unfold plC; rw [if_neg (by omega), if_neg (by omega), if_neg (by omega)])) (box (Or.inr (Or.inr (Or.inr (Or.inr (Or.inr (Or.inr (Or.inr (Or.inr (Or.inl (⟨rfl, rfl, KX, box (fun w hT => kPack_is f m hf hm neg S SQ S0 (X1 - X2 - (k : Int)) more (by omega) (by omega) (fun _ => by omega) M fl hr u v hv w hT)⟩))))))))))) hT
theorem dlv_own {f : Int} (hf : Is4 f) (m : Int) (B : Nat) (fB : Fit f B) (nB : kC f B = 1 ∨ kC f B = 2 ∨ kC f B = 5 ∨ kC f B = 6) : dlv f m (kN f B) (kX f B + (blen (kS f B) : Int) - 1) (qW (pV f + 1) (kS f B)) (qM (pV f + 1) (kS f B) false) = (B, 0) := by
  have r := (rnd_vX hf m B nB).2.2.2.2
  obtain ⟨w1, w2, w3, w4⟩ := own_round hf m B fB (by omega)
  rcases w4 with w4 | w4
  · rw [← r]
    exact w4.2
  · have := (rnd_vX hf m B nB).2.2.1
    rw [w4] at this
    exact absurd rfl this
theorem divR_one {f : Int} (hf : Is4 f) (m : Int) (a : Nat) (fa : Fit f a) (ha : 0 < kC f a ∧ kC f a < 7) : divR f m a (eOne f false) = (a, 0) := by
  obtain ⟨o1, o2, o3, o4, o5⟩ := one_parts hf false
  have l112 : pV f ≤ 112 := by rcases hf with rfl | rfl | rfl | rfl <;> decide
  have nn : (kN f a != false) = kN f a := by cases kN f a <;> rfl
  unfold divR
  rw [o2, nn, if_neg (by omega), if_neg (by omega), if_neg (by omega), if_neg (by omega)]
  by_cases z : kC f a = 3 ∨ kC f a = 4
  · rw [if_pos (Or.inr z)]
    have e := kM_zero f a z
    have k := k_enc hf fa
    rw [e.2.1, e.2.2] at k
    exact Prod.ext k rfl
  rw [if_neg (by omega), if_neg (by omega), o4, o5]
  have na : kC f a = 1 ∨ kC f a = 2 ∨ kC f a = 5 ∨ kC f a = 6 := by omega
  obtain ⟨la1, la2⟩ := kS_blen hf a na
  have A0 := (k_parts (f := f) a na).2.2.2
  have bp : blen (2 ^ pV f) = pV f + 1 := blen_is _ (pV f) (Nat.le_refl _) (by rw [Nat.pow_succ]; have := Nat.two_pow_pos (pV f); omega)
  obtain ⟨A, hA⟩ : ∃ A, kS f a = A := ⟨_, rfl⟩
  have own := dlv_own hf m a fa na
  rw [hA] at own la1 la2 A0 ⊢
  obtain ⟨j, hj⟩ : ∃ j, qK A (2 ^ pV f) = j + pV f := ⟨115 + 1 - blen A, by unfold qK; rw [bp]; omega⟩
  rw [hj]
  have pp := Nat.two_pow_pos (pV f)
  have e1 : A * 2 ^ (j + pV f) = A * 2 ^ j * 2 ^ pV f := by rw [Nat.pow_add, Nat.mul_assoc]
  rw [e1, Nat.mul_div_cancel _ pp, Nat.mul_mod_left]
  have bs := blen_shift A j A0
  have ql := q_longer (pV f + 1) A j A0
  rw [ql.1, bs, show decide ((0 : Nat) ≠ 0) = false from rfl, ql.2, ← own]
  congr 1
  omega
theorem divR_self {f : Int} (hf : Is4 f) (m : Int) (a : Nat) (ha : kC f a = 1 ∨ kC f a = 2 ∨ kC f a = 5 ∨ kC f a = 6) : divR f m a a = (eOne f false, 0) := by
  obtain ⟨o1, o2, o3, o4, o5⟩ := one_parts hf false
  have nn : (kN f a != kN f a) = false := by cases kN f a <;> rfl
  unfold divR
  rw [nn, if_neg (by omega), if_neg (by omega), if_neg (by omega), if_neg (by omega), if_neg (by omega), if_neg (by omega)]
  obtain ⟨la1, la2⟩ := kS_blen hf a ha
  have A0 := (k_parts (f := f) a ha).2.2.2
  have bp : blen (2 ^ pV f) = pV f + 1 := blen_is _ (pV f) (Nat.le_refl _) (by rw [Nat.pow_succ]; have := Nat.two_pow_pos (pV f); omega)
  obtain ⟨A, hA⟩ : ∃ A, kS f a = A := ⟨_, rfl⟩
  have own := dlv_own hf m (eOne f false) o1 (by omega)
  rw [o2, o4, o5, bp] at own
  rw [hA] at la1 la2 A0 ⊢
  obtain ⟨j, hj⟩ : ∃ j, qK A A = j := ⟨_, rfl⟩
  have j115 : j = 115 := by rw [← hj]; unfold qK; omega
  rw [hj, Nat.mul_comm A (2 ^ j), Nat.mul_div_cancel _ (Nat.pos_of_ne_zero A0), Nat.mul_mod_left]
  have q1 := q_longer (pV f + 1) 1 j (by decide)
  have q2 := q_longer (pV f + 1) 1 (pV f) (by decide)
  have b1 := blen_shift 1 j (by decide)
  have b0 : blen 1 = 1 := by unfold blen; rfl
  rw [Nat.one_mul] at q1 q2 b1
  rw [q2.1, q2.2] at own
  rw [q1.1, b1, show decide ((0 : Nat) ≠ 0) = false from rfl, q1.2, ← own, b0]
  congr 1
  omega
theorem divR_zero (f m : Int) (a : Nat) (ha : kC f a = 3 ∨ kC f a = 4) : divR f m a a = (eNaN f, 16) := by
  unfold divR
  rw [if_neg (by omega), if_neg (by omega), if_pos (Or.inr ⟨ha, ha⟩)]
end Go.Proofs.YtapikkbifdldfaaDoor
