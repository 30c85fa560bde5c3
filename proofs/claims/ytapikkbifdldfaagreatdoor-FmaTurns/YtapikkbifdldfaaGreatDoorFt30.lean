/-
  What the functions that the statement reaches return: part 30 (F3, F4).
-/
import Derived.Test.YtapikkbifdldfaaGreatDoorFt29
namespace Go.Proofs.YtapikkbifdldfaaGreatDoor
set_option maxRecDepth 100000
set_option maxHeartbeats 40000000
set_option maxRecDepth 100000
open Go.RowKit WMath XMath
set_option linter.unusedSimpArgs false
set_option linter.unusedVariables false
theorem bv_back3 {x y n u v : Nat} (hx : x < 18446744073709551616) (hy : y < 18446744073709551616) (hn : y + 18446744073709551616 * x = n) (hv : bv7 n = (u, v)) : x = u ∧ y = v := by
  unfold bv7 at hv
  injection hv with h1 h2
  omega
set_option maxHeartbeats 4000000 in
theorem rFma_is (f m : Int) (hf : Is4 f) (hm : 0 ≤ m ∧ m ≤ 4) (x1 y1 a x2 y2 b x3 y3 c : Nat) (hx1 : x1 < 18446744073709551616) (hy1 : y1 < 18446744073709551616) (hx2 : x2 < 18446744073709551616) (hy2 : y2 < 18446744073709551616) (hx3 : x3 < 18446744073709551616) (hy3 : y3 < 18446744073709551616) (ha : y1 + 18446744073709551616 * x1 = a) (hb : y2 + 18446744073709551616 * x2 = b) (hc : y3 + 18446744073709551616 * x3 = c)
    (oa : okB f a = true) (ob : okB f b = true) (oc : okB f c = true) (M : Nat) (fl : Int) (hr : fmaR f m a b c = (M, fl)) (u v : Nat) (hv : bv7 M = (u, v)) (w : World) :
    Calls Tryz.prog 13 #[.int .u8 f, .int .u8 m, .agg #[.int .u64 (x1 : Nat), .int .u64 (y1 : Nat)], .agg #[.int .u64 (x2 : Nat), .int .u64 (y2 : Nat)], .agg #[.int .u64 (x3 : Nat), .int .u64 (y3 : Nat)]] w fun r w' => r = .returned (.tuple #[.agg #[.int .u64 (u : Nat), .int .u64 (v : Nat)], .int .u8 fl, .int .i64 0]) ∧ Below w.heap.size w w' := by
  have h0 := (is4_ok hf).1
  have fa := (okB_yes h0 oa).2
  have fb := (okB_yes h0 ob).2
  have fc := (okB_yes h0 oc).2
  have KF := rfit3r f m h0 x1 y1 a x2 y2 b x3 y3 c hx1 hy1 hx2 hy2 hx3 hy3 ha hb hc true (by rw [oa, ob, oc, decide_eq_true (show f ≤ 3 ∧ m ≤ 4 from ⟨is4_le hf, hm.2⟩)]; rfl)
  obtain ⟨c1, hc1⟩ : ∃ q, kC f a = q := ⟨_, rfl⟩
  have lc1 : c1 ≤ 9 := by rw [← hc1]; have := kC_lt f a; omega
  obtain ⟨s1, hs1⟩ : ∃ q, kN f a = q := ⟨_, rfl⟩
  have KN1 : ∀ o, decide (8 ≤ c1) = o → Box (∀ w, Calls Tryz.prog 41 #[.int .u8 f, .agg #[.int .u64 (x1 : Nat), .int .u64 (y1 : Nat)]] w fun r w' => r = .returned (.bool o) ∧ Below w.heap.size w w') := fun o h => box (fun w => rNaN_is f hf x1 y1 a c1 o hx1 hy1 ha fa hc1 h w)
  have KI1 : ∀ o, decide (c1 = 0 ∨ c1 = 7) = o → Box (∀ w, Calls Tryz.prog 31 #[.int .u8 f, .agg #[.int .u64 (x1 : Nat), .int .u64 (y1 : Nat)]] w fun r w' => r = .returned (.bool o) ∧ Below w.heap.size w w') := fun o h => box (fun w => rInf_is f hf x1 y1 a c1 o hx1 hy1 ha fa hc1 (by rw [← Bool.decide_or]; exact h) w)
  have KZ1 : ∀ o, decide (c1 = 3 ∨ c1 = 4) = o → Box (∀ w, Calls Tryz.prog 44 #[.int .u8 f, .agg #[.int .u64 (x1 : Nat), .int .u64 (y1 : Nat)]] w fun r w' => r = .returned (.bool o) ∧ Below w.heap.size w w') := fun o h => box (fun w => rZero_is f hf x1 y1 a c1 o hx1 hy1 ha fa hc1 (by rw [← Bool.decide_or]; exact h) w)
  have KS1 : Box (∀ w, Calls Tryz.prog 43 #[.int .u8 f, .agg #[.int .u64 (x1 : Nat), .int .u64 (y1 : Nat)]] w fun r w' => r = .returned (.bool s1) ∧ Below w.heap.size w w') := box (fun w => rSign_yes f hf x1 y1 a s1 hx1 hy1 ha oa hs1 w)
  obtain ⟨c2, hc2⟩ : ∃ q, kC f b = q := ⟨_, rfl⟩
  have lc2 : c2 ≤ 9 := by rw [← hc2]; have := kC_lt f b; omega
  obtain ⟨s2, hs2⟩ : ∃ q, kN f b = q := ⟨_, rfl⟩
  have KN2 : ∀ o, decide (8 ≤ c2) = o → Box (∀ w, Calls Tryz.prog 41 #[.int .u8 f, .agg #[.int .u64 (x2 : Nat), .int .u64 (y2 : Nat)]] w fun r w' => r = .returned (.bool o) ∧ Below w.heap.size w w') := fun o h => box (fun w => rNaN_is f hf x2 y2 b c2 o hx2 hy2 hb fb hc2 h w)
  have KI2 : ∀ o, decide (c2 = 0 ∨ c2 = 7) = o → Box (∀ w, Calls Tryz.prog 31 #[.int .u8 f, .agg #[.int .u64 (x2 : Nat), .int .u64 (y2 : Nat)]] w fun r w' => r = .returned (.bool o) ∧ Below w.heap.size w w') := fun o h => box (fun w => rInf_is f hf x2 y2 b c2 o hx2 hy2 hb fb hc2 (by rw [← Bool.decide_or]; exact h) w)
  have KZ2 : ∀ o, decide (c2 = 3 ∨ c2 = 4) = o → Box (∀ w, Calls Tryz.prog 44 #[.int .u8 f, .agg #[.int .u64 (x2 : Nat), .int .u64 (y2 : Nat)]] w fun r w' => r = .returned (.bool o) ∧ Below w.heap.size w w') := fun o h => box (fun w => rZero_is f hf x2 y2 b c2 o hx2 hy2 hb fb hc2 (by rw [← Bool.decide_or]; exact h) w)
  have KS2 : Box (∀ w, Calls Tryz.prog 43 #[.int .u8 f, .agg #[.int .u64 (x2 : Nat), .int .u64 (y2 : Nat)]] w fun r w' => r = .returned (.bool s2) ∧ Below w.heap.size w w') := box (fun w => rSign_yes f hf x2 y2 b s2 hx2 hy2 hb ob hs2 w)
  obtain ⟨c3, hc3⟩ : ∃ q, kC f c = q := ⟨_, rfl⟩
  have lc3 : c3 ≤ 9 := by rw [← hc3]; have := kC_lt f c; omega
  obtain ⟨s3, hs3⟩ : ∃ q, kN f c = q := ⟨_, rfl⟩
  have KN3 : ∀ o, decide (8 ≤ c3) = o → Box (∀ w, Calls Tryz.prog 41 #[.int .u8 f, .agg #[.int .u64 (x3 : Nat), .int .u64 (y3 : Nat)]] w fun r w' => r = .returned (.bool o) ∧ Below w.heap.size w w') := fun o h => box (fun w => rNaN_is f hf x3 y3 c c3 o hx3 hy3 hc fc hc3 h w)
  have KI3 : ∀ o, decide (c3 = 0 ∨ c3 = 7) = o → Box (∀ w, Calls Tryz.prog 31 #[.int .u8 f, .agg #[.int .u64 (x3 : Nat), .int .u64 (y3 : Nat)]] w fun r w' => r = .returned (.bool o) ∧ Below w.heap.size w w') := fun o h => box (fun w => rInf_is f hf x3 y3 c c3 o hx3 hy3 hc fc hc3 (by rw [← Bool.decide_or]; exact h) w)
  have KZ3 : ∀ o, decide (c3 = 3 ∨ c3 = 4) = o → Box (∀ w, Calls Tryz.prog 44 #[.int .u8 f, .agg #[.int .u64 (x3 : Nat), .int .u64 (y3 : Nat)]] w fun r w' => r = .returned (.bool o) ∧ Below w.heap.size w w') := fun o h => box (fun w => rZero_is f hf x3 y3 c c3 o hx3 hy3 hc fc hc3 (by rw [← Bool.decide_or]; exact h) w)
  have KS3 : Box (∀ w, Calls Tryz.prog 43 #[.int .u8 f, .agg #[.int .u64 (x3 : Nat), .int .u64 (y3 : Nat)]] w fun r w' => r = .returned (.bool s3) ∧ Below w.heap.size w w') := box (fun w => rSign_yes f hf x3 y3 c s3 hx3 hy3 hc oc hs3 w)
  obtain ⟨neg, hng⟩ : ∃ q, (s1 != s2) = q := ⟨_, rfl⟩
  have KRN : bv7 (eNaN f) = (u, v) → Box (∀ w, Calls Tryz.prog 45 #[.int .u8 f] w fun r w' => r = .returned (.agg #[.int .u64 (u : Nat), .int .u64 (v : Nat)]) ∧ Below w.heap.size w w') := fun h => box (fun w => by
    have := r_nan f hf _ rfl w
    rw [h] at this
    exact this)
  have KRI : bv7 (eInf f neg) = (u, v) → Box (∀ w, Calls Tryz.prog 46 #[.int .u8 f, .bool neg] w fun r w' => r = .returned (.agg #[.int .u64 (u : Nat), .int .u64 (v : Nat)]) ∧ Below w.heap.size w w') := fun h => box (fun w => by
    have := r_inf f neg hf _ rfl w
    rw [h] at this
    exact this)
  have KNO : bv7 (eZero f (decide (m = 2))) = (u, v) → Box (∀ w, Calls Tryz.prog 52 #[.int .u8 f, .int .u8 m] w fun r w' => r = .returned (.agg #[.int .u64 (u : Nat), .int .u64 (v : Nat)]) ∧ Below w.heap.size w w') := fun h => box (fun w => r_nought f m (decide (m = 2)) rfl u v w (box (fun w => by
    have := r_zero f (decide (m = 2)) hf _ rfl w
    rw [h] at this
    exact this)))
  have H2I : (c1 = 0 ∨ c1 = 7 ∨ c2 = 0 ∨ c2 = 7) → Box ((Box (∀ w, Calls Tryz.prog 31 #[.int .u8 f, .agg #[.int .u64 (x1 : Nat), .int .u64 (y1 : Nat)]] w fun r w' => r = .returned (.bool true) ∧ Below w.heap.size w w')) ∨ (Box (∀ w, Calls Tryz.prog 31 #[.int .u8 f, .agg #[.int .u64 (x1 : Nat), .int .u64 (y1 : Nat)]] w fun r w' => r = .returned (.bool false) ∧ Below w.heap.size w w') ∧ Box (∀ w, Calls Tryz.prog 31 #[.int .u8 f, .agg #[.int .u64 (x2 : Nat), .int .u64 (y2 : Nat)]] w fun r w' => r = .returned (.bool true) ∧ Below w.heap.size w w'))) := fun h => by
    by_cases i : c1 = 0 ∨ c1 = 7
    · exact box (Or.inl (KI1 true (decide_eq_true i)))
    · exact box (Or.inr ⟨KI1 false (decide_eq_false i), KI2 true (decide_eq_true (by omega))⟩)
  have H2Z : (c1 = 3 ∨ c1 = 4 ∨ c2 = 3 ∨ c2 = 4) → Box ((Box (∀ w, Calls Tryz.prog 44 #[.int .u8 f, .agg #[.int .u64 (x1 : Nat), .int .u64 (y1 : Nat)]] w fun r w' => r = .returned (.bool true) ∧ Below w.heap.size w w')) ∨ (Box (∀ w, Calls Tryz.prog 44 #[.int .u8 f, .agg #[.int .u64 (x1 : Nat), .int .u64 (y1 : Nat)]] w fun r w' => r = .returned (.bool false) ∧ Below w.heap.size w w') ∧ Box (∀ w, Calls Tryz.prog 44 #[.int .u8 f, .agg #[.int .u64 (x2 : Nat), .int .u64 (y2 : Nat)]] w fun r w' => r = .returned (.bool true) ∧ Below w.heap.size w w'))) := fun h => by
    by_cases i : c1 = 3 ∨ c1 = 4
    · exact box (Or.inl (KZ1 true (decide_eq_true i)))
    · exact box (Or.inr ⟨KZ1 false (decide_eq_false i), KZ2 true (decide_eq_true (by omega))⟩)
  unfold fmaR at hr
  rw [hc1, hc2, hc3, hs1, hs2, hs3, hng] at hr
  by_cases d1 : (c1 = 0 ∨ c1 = 7 ∨ c2 = 0 ∨ c2 = 7) ∧ (c1 = 3 ∨ c1 = 4 ∨ c2 = 3 ∨ c2 = 4)
  · rw [if_pos d1] at hr
    injection hr with r1 r2
    subst r1 r2
    by_cases i : c1 = 0 ∨ c1 = 7
    · exact rfm_iz f m x1 y1 x2 y2 x3 y3 u v _ w KF (box (Or.inl ⟨KI1 true (decide_eq_true i), KZ1 false (decide_eq_false (by omega)), KZ2 true (decide_eq_true (by omega)), KRN hv, rfl⟩))
    · exact rfm_iz f m x1 y1 x2 y2 x3 y3 u v _ w KF (box (Or.inr ⟨KI1 false (decide_eq_false (by omega)), KI2 true (decide_eq_true (by omega)), KZ1 true (decide_eq_true (by omega)), KRN hv, rfl⟩))
  rw [if_neg d1] at hr
  by_cases n0 : 8 ≤ c1 ∨ 8 ≤ c2 ∨ 8 ≤ c3
  · have hM : M = eNaN f ∧ (if c1 = 8 ∨ c2 = 8 ∨ c3 = 8 then (16 : Int) else 0) = fl := by
      by_cases s0 : c1 = 8 ∨ c2 = 8 ∨ c3 = 8
      · rw [if_pos s0] at hr ⊢
        injection hr with r1 r2
        exact ⟨r1.symm, r2⟩
      · rw [if_neg s0, if_pos (by omega)] at hr
        rw [if_neg s0]
        injection hr with r1 r2
        exact ⟨r1.symm, r2⟩
    have KC := rcan3r f hf x1 y1 a x2 y2 b x3 y3 c hx1 hy1 hx2 hy2 hx3 hy3 ha hb hc fa fb fc fl (by rw [hc1, hc2, hc3]; exact hM.2) u v (by rw [← hM.1]; exact hv)
    by_cases gi : c1 = 0 ∨ c1 = 7 ∨ c2 = 0 ∨ c2 = 7
    · by_cases n1 : 8 ≤ c1
      · exact rfm_inf f m x1 y1 x2 y2 x3 y3 u v fl s1 s2 s3 neg hng w KF (KZ1 false (decide_eq_false (by omega))) (KZ2 false (decide_eq_false (by omega))) (H2I gi) (box (Or.inl ⟨KN1 true (decide_eq_true n1), KC⟩))
      by_cases n2 : 8 ≤ c2
      · exact rfm_inf f m x1 y1 x2 y2 x3 y3 u v fl s1 s2 s3 neg hng w KF (KZ1 false (decide_eq_false (by omega))) (KZ2 false (decide_eq_false (by omega))) (H2I gi) (box (Or.inr ⟨KN1 false (decide_eq_false (by omega)), box (Or.inl ⟨KN2 true (decide_eq_true n2), KC⟩)⟩))
      · exact rfm_inf f m x1 y1 x2 y2 x3 y3 u v fl s1 s2 s3 neg hng w KF (KZ1 false (decide_eq_false (by omega))) (KZ2 false (decide_eq_false (by omega))) (H2I gi) (box (Or.inr ⟨KN1 false (decide_eq_false (by omega)), box (Or.inr ⟨KN2 false (decide_eq_false (by omega)), box (Or.inl ⟨KN3 true (decide_eq_true (by omega)), KC⟩)⟩)⟩))
    by_cases gz : c1 = 3 ∨ c1 = 4 ∨ c2 = 3 ∨ c2 = 4
    · by_cases n1 : 8 ≤ c1
      · exact rfm_zero f m x1 y1 x2 y2 x3 y3 u v fl s1 s2 s3 neg hng false ⟨#[]⟩ ⟨#[]⟩ 0 false ⟨#[]⟩ ⟨#[]⟩ 0 false ⟨#[]⟩ ⟨#[]⟩ 0 false ⟨#[]⟩ ⟨#[]⟩ 0 false ⟨#[]⟩ ⟨#[]⟩ 0 w KF (KI1 false (decide_eq_false (by omega))) (KI2 false (decide_eq_false (by omega))) (H2Z gz) (box (Or.inl ⟨KN1 true (decide_eq_true n1), KC⟩))
      by_cases n2 : 8 ≤ c2
      · exact rfm_zero f m x1 y1 x2 y2 x3 y3 u v fl s1 s2 s3 neg hng false ⟨#[]⟩ ⟨#[]⟩ 0 false ⟨#[]⟩ ⟨#[]⟩ 0 false ⟨#[]⟩ ⟨#[]⟩ 0 false ⟨#[]⟩ ⟨#[]⟩ 0 false ⟨#[]⟩ ⟨#[]⟩ 0 w KF (KI1 false (decide_eq_false (by omega))) (KI2 false (decide_eq_false (by omega))) (H2Z gz) (box (Or.inr ⟨KN1 false (decide_eq_false (by omega)), box (Or.inl ⟨KN2 true (decide_eq_true n2), KC⟩)⟩))
      · exact rfm_zero f m x1 y1 x2 y2 x3 y3 u v fl s1 s2 s3 neg hng false ⟨#[]⟩ ⟨#[]⟩ 0 false ⟨#[]⟩ ⟨#[]⟩ 0 false ⟨#[]⟩ ⟨#[]⟩ 0 false ⟨#[]⟩ ⟨#[]⟩ 0 false ⟨#[]⟩ ⟨#[]⟩ 0 w KF (KI1 false (decide_eq_false (by omega))) (KI2 false (decide_eq_false (by omega))) (H2Z gz) (box (Or.inr ⟨KN1 false (decide_eq_false (by omega)), box (Or.inr ⟨KN2 false (decide_eq_false (by omega)), box (Or.inl ⟨KN3 true (decide_eq_true (by omega)), KC⟩)⟩)⟩))
    · by_cases n1 : 8 ≤ c1
      · exact rfm_fin f m x1 y1 x2 y2 x3 y3 u v fl s1 s2 s3 neg hng false ⟨#[]⟩ ⟨#[]⟩ 0 false ⟨#[]⟩ ⟨#[]⟩ 0 false ⟨#[]⟩ ⟨#[]⟩ 0 false ⟨#[]⟩ ⟨#[]⟩ 0 false ⟨#[]⟩ ⟨#[]⟩ 0 w KF (KI1 false (decide_eq_false (by omega))) (KI2 false (decide_eq_false (by omega))) (KZ1 false (decide_eq_false (by omega))) (KZ2 false (decide_eq_false (by omega))) (box (Or.inl ⟨KN1 true (decide_eq_true n1), KC⟩))
      by_cases n2 : 8 ≤ c2
      · exact rfm_fin f m x1 y1 x2 y2 x3 y3 u v fl s1 s2 s3 neg hng false ⟨#[]⟩ ⟨#[]⟩ 0 false ⟨#[]⟩ ⟨#[]⟩ 0 false ⟨#[]⟩ ⟨#[]⟩ 0 false ⟨#[]⟩ ⟨#[]⟩ 0 false ⟨#[]⟩ ⟨#[]⟩ 0 w KF (KI1 false (decide_eq_false (by omega))) (KI2 false (decide_eq_false (by omega))) (KZ1 false (decide_eq_false (by omega))) (KZ2 false (decide_eq_false (by omega))) (box (Or.inr ⟨KN1 false (decide_eq_false (by omega)), box (Or.inl ⟨KN2 true (decide_eq_true n2), KC⟩)⟩))
      · exact rfm_fin f m x1 y1 x2 y2 x3 y3 u v fl s1 s2 s3 neg hng false ⟨#[]⟩ ⟨#[]⟩ 0 false ⟨#[]⟩ ⟨#[]⟩ 0 false ⟨#[]⟩ ⟨#[]⟩ 0 false ⟨#[]⟩ ⟨#[]⟩ 0 false ⟨#[]⟩ ⟨#[]⟩ 0 w KF (KI1 false (decide_eq_false (by omega))) (KI2 false (decide_eq_false (by omega))) (KZ1 false (decide_eq_false (by omega))) (KZ2 false (decide_eq_false (by omega))) (box (Or.inr ⟨KN1 false (decide_eq_false (by omega)), box (Or.inr ⟨KN2 false (decide_eq_false (by omega)), box (Or.inl ⟨KN3 true (decide_eq_true (by omega)), KC⟩)⟩)⟩))
  rw [if_neg (by omega), if_neg (by omega)] at hr
  have KN1 := KN1 false (decide_eq_false (by omega))
  have KN2 := KN2 false (decide_eq_false (by omega))
  have KN3 := KN3 false (decide_eq_false (by omega))
  by_cases gi : c1 = 0 ∨ c1 = 7 ∨ c2 = 0 ∨ c2 = 7
  · rw [if_pos gi] at hr
    by_cases ci : (c3 = 0 ∨ c3 = 7) ∧ s3 ≠ neg
    · rw [if_pos ci] at hr
      injection hr with r1 r2
      subst r1 r2
      exact rfm_inf f m x1 y1 x2 y2 x3 y3 u v _ s1 s2 s3 neg hng w KF (KZ1 false (decide_eq_false (by omega))) (KZ2 false (decide_eq_false (by omega))) (H2I gi) (box (Or.inr ⟨KN1, box (Or.inr ⟨KN2, box (Or.inr ⟨KN3, KS1, KS2, box (Or.inl ⟨KI3 true (decide_eq_true ci.1), KS3, by cases s3 <;> cases neg <;> first | rfl | exact absurd rfl ci.2, KRN hv, rfl⟩)⟩)⟩)⟩))
    rw [if_neg ci] at hr
    injection hr with r1 r2
    subst r1 r2
    by_cases i3 : c3 = 0 ∨ c3 = 7
    · exact rfm_inf f m x1 y1 x2 y2 x3 y3 u v _ s1 s2 s3 neg hng w KF (KZ1 false (decide_eq_false (by omega))) (KZ2 false (decide_eq_false (by omega))) (H2I gi) (box (Or.inr ⟨KN1, box (Or.inr ⟨KN2, box (Or.inr ⟨KN3, KS1, KS2, box (Or.inr (Or.inl ⟨KI3 true (decide_eq_true i3), KS3, by cases s3 <;> cases neg <;> first | rfl | exact absurd ⟨i3, by decide⟩ ci, KRI hv, rfl⟩))⟩)⟩)⟩))
    · exact rfm_inf f m x1 y1 x2 y2 x3 y3 u v _ s1 s2 s3 neg hng w KF (KZ1 false (decide_eq_false (by omega))) (KZ2 false (decide_eq_false (by omega))) (H2I gi) (box (Or.inr ⟨KN1, box (Or.inr ⟨KN2, box (Or.inr ⟨KN3, KS1, KS2, box (Or.inr (Or.inr ⟨KI3 false (decide_eq_false i3), KRI hv, rfl⟩))⟩)⟩)⟩))
  rw [if_neg gi] at hr
  by_cases i3 : c3 = 0 ∨ c3 = 7
  · rw [if_pos i3] at hr
    injection hr with r1 r2
    subst r1 r2
    obtain ⟨v1, v2⟩ := bv_back3 hx3 hy3 hc hv
    by_cases gz : c1 = 3 ∨ c1 = 4 ∨ c2 = 3 ∨ c2 = 4
    · exact rfm_zero f m x1 y1 x2 y2 x3 y3 u v _ s1 s2 s3 neg hng false ⟨#[]⟩ ⟨#[]⟩ 0 false ⟨#[]⟩ ⟨#[]⟩ 0 false ⟨#[]⟩ ⟨#[]⟩ 0 false ⟨#[]⟩ ⟨#[]⟩ 0 false ⟨#[]⟩ ⟨#[]⟩ 0 w KF (KI1 false (decide_eq_false (by omega))) (KI2 false (decide_eq_false (by omega))) (H2Z gz) (box (Or.inr ⟨KN1, box (Or.inr ⟨KN2, box (Or.inr ⟨KN3, KS1, KS2, box (Or.inl ⟨KI3 true (decide_eq_true i3), v1, v2, rfl⟩)⟩)⟩)⟩))
    · exact rfm_fin f m x1 y1 x2 y2 x3 y3 u v _ s1 s2 s3 neg hng false ⟨#[]⟩ ⟨#[]⟩ 0 false ⟨#[]⟩ ⟨#[]⟩ 0 false ⟨#[]⟩ ⟨#[]⟩ 0 false ⟨#[]⟩ ⟨#[]⟩ 0 false ⟨#[]⟩ ⟨#[]⟩ 0 w KF (KI1 false (decide_eq_false (by omega))) (KI2 false (decide_eq_false (by omega))) (KZ1 false (decide_eq_false (by omega))) (KZ2 false (decide_eq_false (by omega))) (box (Or.inr ⟨KN1, box (Or.inr ⟨KN2, box (Or.inr ⟨KN3, KS1, KS2, box (Or.inl ⟨KI3 true (decide_eq_true i3), v1, v2, rfl⟩)⟩)⟩)⟩))
  rw [if_neg i3] at hr
  have KI3 := KI3 false (decide_eq_false i3)
  by_cases zz : (c1 = 3 ∨ c1 = 4 ∨ c2 = 3 ∨ c2 = 4) ∧ (c3 = 3 ∨ c3 = 4)
  · rw [if_pos zz] at hr
    have gz := zz.1
    by_cases e : s3 = neg
    · rw [if_pos e] at hr
      injection hr with r1 r2
      subst r1 r2
      obtain ⟨v1, v2⟩ := bv_back3 hx3 hy3 hc hv
      exact rfm_zero f m x1 y1 x2 y2 x3 y3 u v _ s1 s2 s3 neg hng false ⟨#[]⟩ ⟨#[]⟩ 0 false ⟨#[]⟩ ⟨#[]⟩ 0 false ⟨#[]⟩ ⟨#[]⟩ 0 false ⟨#[]⟩ ⟨#[]⟩ 0 false ⟨#[]⟩ ⟨#[]⟩ 0 w KF (KI1 false (decide_eq_false (by omega))) (KI2 false (decide_eq_false (by omega))) (H2Z gz) (box (Or.inr ⟨KN1, box (Or.inr ⟨KN2, box (Or.inr ⟨KN3, KS1, KS2, box (Or.inr ⟨KI3, box (Or.inl ⟨KZ3 true (decide_eq_true zz.2), KS3, by rw [e]; cases neg <;> rfl, v1, v2, rfl⟩)⟩)⟩)⟩)⟩))
    · rw [if_neg e] at hr
      injection hr with r1 r2
      subst r1 r2
      exact rfm_zero f m x1 y1 x2 y2 x3 y3 u v _ s1 s2 s3 neg hng false ⟨#[]⟩ ⟨#[]⟩ 0 false ⟨#[]⟩ ⟨#[]⟩ 0 false ⟨#[]⟩ ⟨#[]⟩ 0 false ⟨#[]⟩ ⟨#[]⟩ 0 false ⟨#[]⟩ ⟨#[]⟩ 0 w KF (KI1 false (decide_eq_false (by omega))) (KI2 false (decide_eq_false (by omega))) (H2Z gz) (box (Or.inr ⟨KN1, box (Or.inr ⟨KN2, box (Or.inr ⟨KN3, KS1, KS2, box (Or.inr ⟨KI3, box (Or.inr (Or.inl ⟨KZ3 true (decide_eq_true zz.2), KS3, by cases s3 <;> cases neg <;> first | rfl | exact absurd rfl e, KNO hv, rfl⟩))⟩)⟩)⟩)⟩))
  rw [if_neg zz] at hr
  obtain ⟨P, zb, zn, ze, p1, p2, p3, p4, p5, p6, p7⟩ := fm_doc hf m a b c (by omega) (by omega) (by omega)
  have va := (fin_val hf a (by omega)).1
  have vb := (fin_val hf b (by omega)).1
  have vc := (fin_val hf c (by omega)).1
  obtain ⟨pb, pn, pd, pe⟩ := P
  obtain ⟨b1, n1, d1', e1, e1'⟩ : ∃ b1 n1 d1 e1, vX f a = ⟨b1, n1, d1, e1⟩ := ⟨_, _, _, _, rfl⟩
  obtain ⟨b2, n2, d2', e2, e2'⟩ : ∃ b2 n2 d2 e2, vX f b = ⟨b2, n2, d2, e2⟩ := ⟨_, _, _, _, rfl⟩
  obtain ⟨b3, n3, d3', e3, e3'⟩ : ∃ b3 n3 d3 e3, vX f c = ⟨b3, n3, d3, e3⟩ := ⟨_, _, _, _, rfl⟩
  rw [e1', e2'] at p1
  rw [e3'] at p4
  rw [e1'] at va
  rw [e2'] at vb
  rw [e3'] at vc
  have KV1 : Box (∀ w, Calls Tryz.prog 48 #[.int .u8 f, .agg #[.int .u64 (x1 : Nat), .int .u64 (y1 : Nat)]] w fun r w' => r = .returned (.tuple #[.agg #[.bool b1, .string (nbA n1), .string (nbA d1'), .int .i64 e1], .int .i64 0]) ∧ Below w.heap.size w w') := box (fun w => rValue_yes f hf x1 y1 a hx1 hy1 ha oa fa (by omega) _ _ _ _ _ _ e1' rfl rfl w)
  have KV2 : Box (∀ w, Calls Tryz.prog 48 #[.int .u8 f, .agg #[.int .u64 (x2 : Nat), .int .u64 (y2 : Nat)]] w fun r w' => r = .returned (.tuple #[.agg #[.bool b2, .string (nbA n2), .string (nbA d2'), .int .i64 e2], .int .i64 0]) ∧ Below w.heap.size w w') := box (fun w => rValue_yes f hf x2 y2 b hx2 hy2 hb ob fb (by omega) _ _ _ _ _ _ e2' rfl rfl w)
  have KV3 : Box (∀ w, Calls Tryz.prog 48 #[.int .u8 f, .agg #[.int .u64 (x3 : Nat), .int .u64 (y3 : Nat)]] w fun r w' => r = .returned (.tuple #[.agg #[.bool b3, .string (nbA n3), .string (nbA d3'), .int .i64 e3], .int .i64 0]) ∧ Below w.heap.size w w') := box (fun w => rValue_yes f hf x3 y3 c hx3 hy3 hc oc fc (by omega) _ _ _ _ _ _ e3' rfl rfl w)
  have KM : Box (∀ w, Calls Tryz.prog 53 #[.agg #[.bool b1, .string (nbA n1), .string (nbA d1'), .int .i64 e1], .agg #[.bool b2, .string (nbA n2), .string (nbA d2'), .int .i64 e2]] w fun r w' => r = .returned (.tuple #[.agg #[.bool pb, .string (nbA pn), .string (nbA pd), .int .i64 pe], .int .i64 0]) ∧ Below w.heap.size w w') := box (fun w => rMul_ok _ _ _ _ _ _ _ _ _ _ _ _ pb pn pd pe 0 _ _ rfl rfl rfl rfl va vb p1 rfl rfl w)
  have KA : Box (∀ w, Calls Tryz.prog 54 #[.agg #[.bool pb, .string (nbA pn), .string (nbA pd), .int .i64 pe], .agg #[.bool b3, .string (nbA n3), .string (nbA d3'), .int .i64 e3]] w fun r w' => r = .returned (.tuple #[.agg #[.bool zb, .string (nbA zn), .string (nbA 1), .int .i64 ze], .int .i64 0]) ∧ Below w.heap.size w w') := box (fun w => rAdd_ok _ _ _ _ _ _ _ _ _ _ _ _ zb zn 1 ze 0 _ _ rfl rfl rfl rfl p2 vc p4 rfl rfl w)
  rcases p7 with ⟨z1, z2, z3, z4⟩ | ⟨z1, z2, z3⟩
  · subst z1 z2 z3
    rw [z4] at hr
    unfold fmD at hr
    rw [if_pos rfl] at hr
    injection hr with r1 r2
    subst r1 r2
    rw [nbA_zero] at KA
    by_cases gz : c1 = 3 ∨ c1 = 4 ∨ c2 = 3 ∨ c2 = 4
    · exact rfm_zero f m x1 y1 x2 y2 x3 y3 u v _ s1 s2 s3 neg hng b1 _ _ e1 b2 _ _ e2 b3 _ _ e3 pb _ _ pe false _ _ 0 w KF (KI1 false (decide_eq_false (by omega))) (KI2 false (decide_eq_false (by omega))) (H2Z gz) (box (Or.inr ⟨KN1, box (Or.inr ⟨KN2, box (Or.inr ⟨KN3, KS1, KS2, box (Or.inr ⟨KI3, box (Or.inr (Or.inr ⟨KZ3 false (decide_eq_false (fun q => zz ⟨gz, q⟩)), KV1, KV2, KV3, KM, KA, box (Or.inr ⟨by decide +kernel, KNO hv, rfl⟩)⟩))⟩)⟩)⟩)⟩))
    · exact rfm_fin f m x1 y1 x2 y2 x3 y3 u v _ s1 s2 s3 neg hng b1 _ _ e1 b2 _ _ e2 b3 _ _ e3 pb _ _ pe false _ _ 0 w KF (KI1 false (decide_eq_false (by omega))) (KI2 false (decide_eq_false (by omega))) (KZ1 false (decide_eq_false (by omega))) (KZ2 false (decide_eq_false (by omega))) (box (Or.inr ⟨KN1, box (Or.inr ⟨KN2, box (Or.inr ⟨KN3, KS1, KS2, box (Or.inr ⟨KI3, KV1, KV2, KV3, KM, KA, box (Or.inr ⟨by decide +kernel, KNO hv, rfl⟩)⟩)⟩)⟩)⟩))
  · have KR : Box (∀ w, Calls Tryz.prog 50 #[.int .u8 f, .int .u8 m, .agg #[.bool zb, .string (nbA zn), .string (nbA 1), .int .i64 ze]] w fun r w' => r = .returned (.tuple #[.agg #[.int .u64 (u : Nat), .int .u64 (v : Nat)], .int .u8 fl, .int .i64 0]) ∧ Below w.heap.size w w') := box (fun w => rRound_is0 f m hf hm zb zn 1 _ _ ze rfl rfl p5 p6 (Nat.le_trans (nl_le_of 1 1 (by decide)) (by decide)) M fl (by rw [z3]; exact hr) u v hv w)
    have he : (nbA zn).toList.isEmpty = false := by
      rcases x_cases (s := nbA zn) (t := nbA 1) rfl rfl p5 with ⟨q, _⟩ | ⟨_, q⟩
      · exact absurd q z1
      · cases h : (nbA zn).toList with
        | nil => rw [h] at q; exact absurd q (by decide)
        | cons a l => rfl
    by_cases gz : c1 = 3 ∨ c1 = 4 ∨ c2 = 3 ∨ c2 = 4
    · exact rfm_zero f m x1 y1 x2 y2 x3 y3 u v fl s1 s2 s3 neg hng b1 _ _ e1 b2 _ _ e2 b3 _ _ e3 pb _ _ pe zb _ _ ze w KF (KI1 false (decide_eq_false (by omega))) (KI2 false (decide_eq_false (by omega))) (H2Z gz) (box (Or.inr ⟨KN1, box (Or.inr ⟨KN2, box (Or.inr ⟨KN3, KS1, KS2, box (Or.inr ⟨KI3, box (Or.inr (Or.inr ⟨KZ3 false (decide_eq_false (fun q => zz ⟨gz, q⟩)), KV1, KV2, KV3, KM, KA, box (Or.inl ⟨he, KR⟩)⟩))⟩)⟩)⟩)⟩))
    · exact rfm_fin f m x1 y1 x2 y2 x3 y3 u v fl s1 s2 s3 neg hng b1 _ _ e1 b2 _ _ e2 b3 _ _ e3 pb _ _ pe zb _ _ ze w KF (KI1 false (decide_eq_false (by omega))) (KI2 false (decide_eq_false (by omega))) (KZ1 false (decide_eq_false (by omega))) (KZ2 false (decide_eq_false (by omega))) (box (Or.inr ⟨KN1, box (Or.inr ⟨KN2, box (Or.inr ⟨KN3, KS1, KS2, box (Or.inr ⟨KI3, KV1, KV2, KV3, KM, KA, box (Or.inl ⟨he, KR⟩)⟩)⟩)⟩)⟩))
end Go.Proofs.YtapikkbifdldfaaGreatDoor
namespace Go.Proofs.YtapikkbifdldfaaGreatDoor
set_option maxRecDepth 100000
set_option maxHeartbeats 40000000
set_option maxRecDepth 100000
open Go.RowKit WMath XMath
set_option linter.unusedSimpArgs false
set_option linter.unusedVariables false
set_option maxRecDepth 100000 in
set_option maxHeartbeats 8000000 in
theorem rtu_no (f m : Int) (x1 y1 x2 y2 x3 y3 : Nat) (o1 o2 : Bool) (w : World)
    (KF : Box (∀ (T : TypeId) (g : Nat) (w : World), w.heap.size = g → Calls Tryz.prog 40 #[.int .u8 f, .int .u8 m, .slice (some ⟨g, 0, none⟩) 3 3] (w.alloc (.cells #[.int .u64 (x1 : Nat), .int .u64 (y1 : Nat), .int .u64 (x2 : Nat), .int .u64 (y2 : Nat), .int .u64 (x3 : Nat), .int .u64 (y3 : Nat)] T)) fun r w' => r = .returned (.bool false) ∧ Below w.heap.size w w'))
    : Calls Tryz.prog 16 #[.int .u8 f, .int .u8 m, .agg #[.int .u64 (x1 : Nat), .int .u64 (y1 : Nat)], .agg #[.int .u64 (x2 : Nat), .int .u64 (y2 : Nat)], .agg #[.int .u64 (x3 : Nat), .int .u64 (y3 : Nat)], .bool o1, .bool o2] w fun r w' => r = .returned (.tuple #[.agg #[.int .u64 0, .int .u64 0], .int .u8 0, .int .i64 2]) ∧ Below w.heap.size w w' := by
  obtain ⟨Ra_0, Rb_0, Rc_0, Rz_0, B0⟩ := opn4 w (Obj.cells #[.int .u64 (x1 : Nat), .int .u64 (y1 : Nat)] 26) (Obj.cells #[.int .u64 (x2 : Nat), .int .u64 (y2 : Nat)] 26) (Obj.cells #[.int .u64 (x3 : Nat), .int .u64 (y3 : Nat)] 26) (Obj.cells #[.int .u64 0, .int .u64 0] 26)
  go_enter Tryz.func16, Tryz.ntmps16
  obtain ⟨ca_0_0, ca_0_1⟩ := cells2s Ra_0
  obtain ⟨cb_0_0, cb_0_1⟩ := cells2s Rb_0
  obtain ⟨cc_0_0, cc_0_1⟩ := cells2s Rc_0
  go_wp2_with fail
  refine (KF.out _ _ ((((w.alloc (Obj.cells #[.int .u64 (x1 : Nat), .int .u64 (y1 : Nat)] 26)).alloc (Obj.cells #[.int .u64 (x2 : Nat), .int .u64 (y2 : Nat)] 26)).alloc (Obj.cells #[.int .u64 (x3 : Nat), .int .u64 (y3 : Nat)] 26)).alloc (Obj.cells #[.int .u64 0, .int .u64 0] 26)) (by first | rfl | simp only [size_al])).mono ?_
  rintro r w1 ⟨rfl, b1⟩
  have B1 : Below w.heap.size w w1 := btr B0 b1
  have Ra_1 := heap_of b1 _ _ _ Ra_0
  have Rb_1 := heap_of b1 _ _ _ Rb_0
  have Rc_1 := heap_of b1 _ _ _ Rc_0
  have Rz_1 := heap_of b1 _ _ _ Rz_0
  clear b1 B0 Ra_0 ca_0_0 ca_0_1 Rb_0 cb_0_0 cb_0_1 Rc_0 cc_0_0 cc_0_1 Rz_0
  obtain ⟨ca_1_0, ca_1_1⟩ := cells2s Ra_1
  obtain ⟨cb_1_0, cb_1_1⟩ := cells2s Rb_1
  obtain ⟨cc_1_0, cc_1_1⟩ := cells2s Rc_1
  obtain ⟨cz_1_0, cz_1_1⟩ := cells2s Rz_1
  have q0 := fz (k := 0) Rz_1
  have q1 := fz (k := 1) Rz_1
  obtain ⟨E0, E1⟩ := set2_cells Rz_1 (.int .u64 0) (.int .u64 0)
  go_wp2
  exact bodyPost_ret (v := .tuple #[.agg #[.int .u64 0, .int .u64 0], .int .u8 0, .int .i64 2]) (by simp [results, Tryz.results16, go_sem, E0, E1]) rfl ⟨rfl, set2_below B1 (by first | exact Nat.le_refl _ | omega | (skip; omega)) _ _⟩
set_option maxRecDepth 100000 in
set_option maxHeartbeats 8000000 in
theorem rtu_ft (f m : Int) (x1 y1 x2 y2 x3 y3 u v : Nat) (p3 q3 : Nat) (fl e : Int) (w : World)
    (KF : Box (∀ (T : TypeId) (g : Nat) (w : World), w.heap.size = g → Calls Tryz.prog 40 #[.int .u8 f, .int .u8 m, .slice (some ⟨g, 0, none⟩) 3 3] (w.alloc (.cells #[.int .u64 (x1 : Nat), .int .u64 (y1 : Nat), .int .u64 (x2 : Nat), .int .u64 (y2 : Nat), .int .u64 (x3 : Nat), .int .u64 (y3 : Nat)] T)) fun r w' => r = .returned (.bool true) ∧ Below w.heap.size w w'))
    (K3 : Box (∀ w, Calls Tryz.prog 56 #[.int .u8 f, .agg #[.int .u64 (x3 : Nat), .int .u64 (y3 : Nat)]] w fun r w' => r = .returned (.agg #[.int .u64 (p3 : Nat), .int .u64 (q3 : Nat)]) ∧ Below w.heap.size w w'))
    (KM : Box (∀ w, Calls Tryz.prog 13 #[.int .u8 f, .int .u8 m, .agg #[.int .u64 (x1 : Nat), .int .u64 (y1 : Nat)], .agg #[.int .u64 (x2 : Nat), .int .u64 (y2 : Nat)], .agg #[.int .u64 (p3 : Nat), .int .u64 (q3 : Nat)]] w fun r w' => r = .returned (.tuple #[.agg #[.int .u64 (u : Nat), .int .u64 (v : Nat)], .int .u8 fl, .int .i64 e]) ∧ Below w.heap.size w w'))
    : Calls Tryz.prog 16 #[.int .u8 f, .int .u8 m, .agg #[.int .u64 (x1 : Nat), .int .u64 (y1 : Nat)], .agg #[.int .u64 (x2 : Nat), .int .u64 (y2 : Nat)], .agg #[.int .u64 (x3 : Nat), .int .u64 (y3 : Nat)], .bool false, .bool true] w fun r w' => r = .returned (.tuple #[.agg #[.int .u64 (u : Nat), .int .u64 (v : Nat)], .int .u8 fl, .int .i64 e]) ∧ Below w.heap.size w w' := by
  obtain ⟨Ra_0, Rb_0, Rc_0, Rz_0, B0⟩ := opn4 w (Obj.cells #[.int .u64 (x1 : Nat), .int .u64 (y1 : Nat)] 26) (Obj.cells #[.int .u64 (x2 : Nat), .int .u64 (y2 : Nat)] 26) (Obj.cells #[.int .u64 (x3 : Nat), .int .u64 (y3 : Nat)] 26) (Obj.cells #[.int .u64 0, .int .u64 0] 26)
  go_enter Tryz.func16, Tryz.ntmps16
  obtain ⟨ca_0_0, ca_0_1⟩ := cells2s Ra_0
  obtain ⟨cb_0_0, cb_0_1⟩ := cells2s Rb_0
  obtain ⟨cc_0_0, cc_0_1⟩ := cells2s Rc_0
  go_wp2_with fail
  refine (KF.out _ _ ((((w.alloc (Obj.cells #[.int .u64 (x1 : Nat), .int .u64 (y1 : Nat)] 26)).alloc (Obj.cells #[.int .u64 (x2 : Nat), .int .u64 (y2 : Nat)] 26)).alloc (Obj.cells #[.int .u64 (x3 : Nat), .int .u64 (y3 : Nat)] 26)).alloc (Obj.cells #[.int .u64 0, .int .u64 0] 26)) (by first | rfl | simp only [size_al])).mono ?_
  rintro r w1 ⟨rfl, b1⟩
  have B1 : Below w.heap.size w w1 := btr B0 b1
  have Ra_1 := heap_of b1 _ _ _ Ra_0
  have Rb_1 := heap_of b1 _ _ _ Rb_0
  have Rc_1 := heap_of b1 _ _ _ Rc_0
  have Rz_1 := heap_of b1 _ _ _ Rz_0
  clear b1 B0 Ra_0 ca_0_0 ca_0_1 Rb_0 cb_0_0 cb_0_1 Rc_0 cc_0_0 cc_0_1 Rz_0
  obtain ⟨ca_1_0, ca_1_1⟩ := cells2s Ra_1
  obtain ⟨cb_1_0, cb_1_1⟩ := cells2s Rb_1
  obtain ⟨cc_1_0, cc_1_1⟩ := cells2s Rc_1
  go_wp2_with fail
  refine (K3.out _).mono ?_
  rintro r w2 ⟨rfl, b2⟩
  have B2 : Below w.heap.size w w2 := btr B1 b2
  have Ra_2 := heap_of b2 _ _ _ Ra_1
  have Rb_2 := heap_of b2 _ _ _ Rb_1
  have Rc_2 := heap_of b2 _ _ _ Rc_1
  have Rz_2 := heap_of b2 _ _ _ Rz_1
  clear b2 B1 Ra_1 ca_1_0 ca_1_1 Rb_1 cb_1_0 cb_1_1 Rc_1 cc_1_0 cc_1_1 Rz_1
  obtain ⟨ca_2_0, ca_2_1⟩ := cells2s Ra_2
  obtain ⟨cb_2_0, cb_2_1⟩ := cells2s Rb_2
  obtain ⟨cc_2_0, cc_2_1⟩ := cells2s Rc_2
  have q0_3 := fz (k := 0) Rc_2
  have q1_3 := fz (k := 1) Rc_2
  have B3 := set2_below B2 (show w.heap.size ≤ w.heap.size + 1 + 1 by first | exact Nat.le_refl _ | omega | (skip; omega)) (.int .u64 (p3 : Nat)) (.int .u64 (q3 : Nat))
  have Rc_3 : ((w2.setCell ⟨w.heap.size + 1 + 1, 0, none⟩ (.int .u64 (p3 : Nat))).setCell ⟨w.heap.size + 1 + 1, 1, none⟩ (.int .u64 (q3 : Nat))).heap[w.heap.size + 1 + 1]? = some (Obj.cells #[.int .u64 (p3 : Nat), .int .u64 (q3 : Nat)] 26) := set2_row Rc_2 _ _
  have Ra_3 : ((w2.setCell ⟨w.heap.size + 1 + 1, 0, none⟩ (.int .u64 (p3 : Nat))).setCell ⟨w.heap.size + 1 + 1, 1, none⟩ (.int .u64 (q3 : Nat))).heap[w.heap.size]? = some (Obj.cells #[.int .u64 (x1 : Nat), .int .u64 (y1 : Nat)] 26) := (setCell_other (by first | omega | (skip; omega))).trans ((setCell_other (by first | omega | (skip; omega))).trans Ra_2)
  have Rb_3 : ((w2.setCell ⟨w.heap.size + 1 + 1, 0, none⟩ (.int .u64 (p3 : Nat))).setCell ⟨w.heap.size + 1 + 1, 1, none⟩ (.int .u64 (q3 : Nat))).heap[w.heap.size + 1]? = some (Obj.cells #[.int .u64 (x2 : Nat), .int .u64 (y2 : Nat)] 26) := (setCell_other (by first | omega | (skip; omega))).trans ((setCell_other (by first | omega | (skip; omega))).trans Rb_2)
  have Rz_3 : ((w2.setCell ⟨w.heap.size + 1 + 1, 0, none⟩ (.int .u64 (p3 : Nat))).setCell ⟨w.heap.size + 1 + 1, 1, none⟩ (.int .u64 (q3 : Nat))).heap[w.heap.size + 1 + 1 + 1]? = some (Obj.cells #[.int .u64 0, .int .u64 0] 26) := (setCell_other (by first | omega | (skip; omega))).trans ((setCell_other (by first | omega | (skip; omega))).trans Rz_2)
  obtain ⟨ca_3_0, ca_3_1⟩ := cells2s Ra_3
  obtain ⟨cb_3_0, cb_3_1⟩ := cells2s Rb_3
  obtain ⟨cc_3_0, cc_3_1⟩ := cells2s Rc_3
  go_wp2_with fail
  refine (KM.out _).mono ?_
  rintro r w4 ⟨rfl, b4⟩
  have B4 : Below w.heap.size w w4 := btr B3 b4
  have Ra_4 := heap_of b4 _ _ _ Ra_3
  have Rb_4 := heap_of b4 _ _ _ Rb_3
  have Rc_4 := heap_of b4 _ _ _ Rc_3
  have Rz_4 := heap_of b4 _ _ _ Rz_3
  clear b4 B3 Ra_3 ca_3_0 ca_3_1 Rb_3 cb_3_0 cb_3_1 Rc_3 cc_3_0 cc_3_1 Rz_3
  obtain ⟨ca_4_0, ca_4_1⟩ := cells2s Ra_4
  obtain ⟨cb_4_0, cb_4_1⟩ := cells2s Rb_4
  obtain ⟨cc_4_0, cc_4_1⟩ := cells2s Rc_4
  obtain ⟨cz_4_0, cz_4_1⟩ := cells2s Rz_4
  have q0 := fz (k := 0) Rz_4
  have q1 := fz (k := 1) Rz_4
  obtain ⟨E0, E1⟩ := set2_cells Rz_4 (.int .u64 (u : Nat)) (.int .u64 (v : Nat))
  go_wp2
  exact bodyPost_ret (v := .tuple #[.agg #[.int .u64 (u : Nat), .int .u64 (v : Nat)], .int .u8 fl, .int .i64 e]) (by simp [results, Tryz.results16, go_sem, E0, E1]) rfl ⟨rfl, set2_below B4 (by first | exact Nat.le_refl _ | omega | (skip; omega)) _ _⟩
set_option maxRecDepth 100000 in
set_option maxHeartbeats 8000000 in
theorem rtu_tf (f m : Int) (x1 y1 x2 y2 x3 y3 u v : Nat) (p1 q1 : Nat) (fl e : Int) (w : World)
    (KF : Box (∀ (T : TypeId) (g : Nat) (w : World), w.heap.size = g → Calls Tryz.prog 40 #[.int .u8 f, .int .u8 m, .slice (some ⟨g, 0, none⟩) 3 3] (w.alloc (.cells #[.int .u64 (x1 : Nat), .int .u64 (y1 : Nat), .int .u64 (x2 : Nat), .int .u64 (y2 : Nat), .int .u64 (x3 : Nat), .int .u64 (y3 : Nat)] T)) fun r w' => r = .returned (.bool true) ∧ Below w.heap.size w w'))
    (K1 : Box (∀ w, Calls Tryz.prog 56 #[.int .u8 f, .agg #[.int .u64 (x1 : Nat), .int .u64 (y1 : Nat)]] w fun r w' => r = .returned (.agg #[.int .u64 (p1 : Nat), .int .u64 (q1 : Nat)]) ∧ Below w.heap.size w w'))
    (KM : Box (∀ w, Calls Tryz.prog 13 #[.int .u8 f, .int .u8 m, .agg #[.int .u64 (p1 : Nat), .int .u64 (q1 : Nat)], .agg #[.int .u64 (x2 : Nat), .int .u64 (y2 : Nat)], .agg #[.int .u64 (x3 : Nat), .int .u64 (y3 : Nat)]] w fun r w' => r = .returned (.tuple #[.agg #[.int .u64 (u : Nat), .int .u64 (v : Nat)], .int .u8 fl, .int .i64 e]) ∧ Below w.heap.size w w'))
    : Calls Tryz.prog 16 #[.int .u8 f, .int .u8 m, .agg #[.int .u64 (x1 : Nat), .int .u64 (y1 : Nat)], .agg #[.int .u64 (x2 : Nat), .int .u64 (y2 : Nat)], .agg #[.int .u64 (x3 : Nat), .int .u64 (y3 : Nat)], .bool true, .bool false] w fun r w' => r = .returned (.tuple #[.agg #[.int .u64 (u : Nat), .int .u64 (v : Nat)], .int .u8 fl, .int .i64 e]) ∧ Below w.heap.size w w' := by
  obtain ⟨Ra_0, Rb_0, Rc_0, Rz_0, B0⟩ := opn4 w (Obj.cells #[.int .u64 (x1 : Nat), .int .u64 (y1 : Nat)] 26) (Obj.cells #[.int .u64 (x2 : Nat), .int .u64 (y2 : Nat)] 26) (Obj.cells #[.int .u64 (x3 : Nat), .int .u64 (y3 : Nat)] 26) (Obj.cells #[.int .u64 0, .int .u64 0] 26)
  go_enter Tryz.func16, Tryz.ntmps16
  obtain ⟨ca_0_0, ca_0_1⟩ := cells2s Ra_0
  obtain ⟨cb_0_0, cb_0_1⟩ := cells2s Rb_0
  obtain ⟨cc_0_0, cc_0_1⟩ := cells2s Rc_0
  go_wp2_with fail
  refine (KF.out _ _ ((((w.alloc (Obj.cells #[.int .u64 (x1 : Nat), .int .u64 (y1 : Nat)] 26)).alloc (Obj.cells #[.int .u64 (x2 : Nat), .int .u64 (y2 : Nat)] 26)).alloc (Obj.cells #[.int .u64 (x3 : Nat), .int .u64 (y3 : Nat)] 26)).alloc (Obj.cells #[.int .u64 0, .int .u64 0] 26)) (by first | rfl | simp only [size_al])).mono ?_
  rintro r w1 ⟨rfl, b1⟩
  have B1 : Below w.heap.size w w1 := btr B0 b1
  have Ra_1 := heap_of b1 _ _ _ Ra_0
  have Rb_1 := heap_of b1 _ _ _ Rb_0
  have Rc_1 := heap_of b1 _ _ _ Rc_0
  have Rz_1 := heap_of b1 _ _ _ Rz_0
  clear b1 B0 Ra_0 ca_0_0 ca_0_1 Rb_0 cb_0_0 cb_0_1 Rc_0 cc_0_0 cc_0_1 Rz_0
  obtain ⟨ca_1_0, ca_1_1⟩ := cells2s Ra_1
  obtain ⟨cb_1_0, cb_1_1⟩ := cells2s Rb_1
  obtain ⟨cc_1_0, cc_1_1⟩ := cells2s Rc_1
  go_wp2_with fail
  refine (K1.out _).mono ?_
  rintro r w2 ⟨rfl, b2⟩
  have B2 : Below w.heap.size w w2 := btr B1 b2
  have Ra_2 := heap_of b2 _ _ _ Ra_1
  have Rb_2 := heap_of b2 _ _ _ Rb_1
  have Rc_2 := heap_of b2 _ _ _ Rc_1
  have Rz_2 := heap_of b2 _ _ _ Rz_1
  clear b2 B1 Ra_1 ca_1_0 ca_1_1 Rb_1 cb_1_0 cb_1_1 Rc_1 cc_1_0 cc_1_1 Rz_1
  obtain ⟨ca_2_0, ca_2_1⟩ := cells2s Ra_2
  obtain ⟨cb_2_0, cb_2_1⟩ := cells2s Rb_2
  obtain ⟨cc_2_0, cc_2_1⟩ := cells2s Rc_2
  have q0_3 := fz (k := 0) Ra_2
  have q1_3 := fz (k := 1) Ra_2
  have B3 := set2_below B2 (show w.heap.size ≤ w.heap.size by first | exact Nat.le_refl _ | omega | (skip; omega)) (.int .u64 (p1 : Nat)) (.int .u64 (q1 : Nat))
  have Ra_3 : ((w2.setCell ⟨w.heap.size, 0, none⟩ (.int .u64 (p1 : Nat))).setCell ⟨w.heap.size, 1, none⟩ (.int .u64 (q1 : Nat))).heap[w.heap.size]? = some (Obj.cells #[.int .u64 (p1 : Nat), .int .u64 (q1 : Nat)] 26) := set2_row Ra_2 _ _
  have Rb_3 : ((w2.setCell ⟨w.heap.size, 0, none⟩ (.int .u64 (p1 : Nat))).setCell ⟨w.heap.size, 1, none⟩ (.int .u64 (q1 : Nat))).heap[w.heap.size + 1]? = some (Obj.cells #[.int .u64 (x2 : Nat), .int .u64 (y2 : Nat)] 26) := (setCell_other (by first | omega | (skip; omega))).trans ((setCell_other (by first | omega | (skip; omega))).trans Rb_2)
  have Rc_3 : ((w2.setCell ⟨w.heap.size, 0, none⟩ (.int .u64 (p1 : Nat))).setCell ⟨w.heap.size, 1, none⟩ (.int .u64 (q1 : Nat))).heap[w.heap.size + 1 + 1]? = some (Obj.cells #[.int .u64 (x3 : Nat), .int .u64 (y3 : Nat)] 26) := (setCell_other (by first | omega | (skip; omega))).trans ((setCell_other (by first | omega | (skip; omega))).trans Rc_2)
  have Rz_3 : ((w2.setCell ⟨w.heap.size, 0, none⟩ (.int .u64 (p1 : Nat))).setCell ⟨w.heap.size, 1, none⟩ (.int .u64 (q1 : Nat))).heap[w.heap.size + 1 + 1 + 1]? = some (Obj.cells #[.int .u64 0, .int .u64 0] 26) := (setCell_other (by first | omega | (skip; omega))).trans ((setCell_other (by first | omega | (skip; omega))).trans Rz_2)
  obtain ⟨ca_3_0, ca_3_1⟩ := cells2s Ra_3
  obtain ⟨cb_3_0, cb_3_1⟩ := cells2s Rb_3
  obtain ⟨cc_3_0, cc_3_1⟩ := cells2s Rc_3
  go_wp2_with fail
  refine (KM.out _).mono ?_
  rintro r w4 ⟨rfl, b4⟩
  have B4 : Below w.heap.size w w4 := btr B3 b4
  have Ra_4 := heap_of b4 _ _ _ Ra_3
  have Rb_4 := heap_of b4 _ _ _ Rb_3
  have Rc_4 := heap_of b4 _ _ _ Rc_3
  have Rz_4 := heap_of b4 _ _ _ Rz_3
  clear b4 B3 Ra_3 ca_3_0 ca_3_1 Rb_3 cb_3_0 cb_3_1 Rc_3 cc_3_0 cc_3_1 Rz_3
  obtain ⟨ca_4_0, ca_4_1⟩ := cells2s Ra_4
  obtain ⟨cb_4_0, cb_4_1⟩ := cells2s Rb_4
  obtain ⟨cc_4_0, cc_4_1⟩ := cells2s Rc_4
  obtain ⟨cz_4_0, cz_4_1⟩ := cells2s Rz_4
  have q0 := fz (k := 0) Rz_4
  have q1 := fz (k := 1) Rz_4
  obtain ⟨E0, E1⟩ := set2_cells Rz_4 (.int .u64 (u : Nat)) (.int .u64 (v : Nat))
  go_wp2
  exact bodyPost_ret (v := .tuple #[.agg #[.int .u64 (u : Nat), .int .u64 (v : Nat)], .int .u8 fl, .int .i64 e]) (by simp [results, Tryz.results16, go_sem, E0, E1]) rfl ⟨rfl, set2_below B4 (by first | exact Nat.le_refl _ | omega | (skip; omega)) _ _⟩
set_option maxRecDepth 100000 in
set_option maxHeartbeats 8000000 in
theorem rtu_tt (f m : Int) (x1 y1 x2 y2 x3 y3 u v : Nat) (p1 q1 : Nat) (p3 q3 : Nat) (fl e : Int) (w : World)
    (KF : Box (∀ (T : TypeId) (g : Nat) (w : World), w.heap.size = g → Calls Tryz.prog 40 #[.int .u8 f, .int .u8 m, .slice (some ⟨g, 0, none⟩) 3 3] (w.alloc (.cells #[.int .u64 (x1 : Nat), .int .u64 (y1 : Nat), .int .u64 (x2 : Nat), .int .u64 (y2 : Nat), .int .u64 (x3 : Nat), .int .u64 (y3 : Nat)] T)) fun r w' => r = .returned (.bool true) ∧ Below w.heap.size w w'))
    (K1 : Box (∀ w, Calls Tryz.prog 56 #[.int .u8 f, .agg #[.int .u64 (x1 : Nat), .int .u64 (y1 : Nat)]] w fun r w' => r = .returned (.agg #[.int .u64 (p1 : Nat), .int .u64 (q1 : Nat)]) ∧ Below w.heap.size w w'))
    (K3 : Box (∀ w, Calls Tryz.prog 56 #[.int .u8 f, .agg #[.int .u64 (x3 : Nat), .int .u64 (y3 : Nat)]] w fun r w' => r = .returned (.agg #[.int .u64 (p3 : Nat), .int .u64 (q3 : Nat)]) ∧ Below w.heap.size w w'))
    (KM : Box (∀ w, Calls Tryz.prog 13 #[.int .u8 f, .int .u8 m, .agg #[.int .u64 (p1 : Nat), .int .u64 (q1 : Nat)], .agg #[.int .u64 (x2 : Nat), .int .u64 (y2 : Nat)], .agg #[.int .u64 (p3 : Nat), .int .u64 (q3 : Nat)]] w fun r w' => r = .returned (.tuple #[.agg #[.int .u64 (u : Nat), .int .u64 (v : Nat)], .int .u8 fl, .int .i64 e]) ∧ Below w.heap.size w w'))
    : Calls Tryz.prog 16 #[.int .u8 f, .int .u8 m, .agg #[.int .u64 (x1 : Nat), .int .u64 (y1 : Nat)], .agg #[.int .u64 (x2 : Nat), .int .u64 (y2 : Nat)], .agg #[.int .u64 (x3 : Nat), .int .u64 (y3 : Nat)], .bool true, .bool true] w fun r w' => r = .returned (.tuple #[.agg #[.int .u64 (u : Nat), .int .u64 (v : Nat)], .int .u8 fl, .int .i64 e]) ∧ Below w.heap.size w w' := by
  obtain ⟨Ra_0, Rb_0, Rc_0, Rz_0, B0⟩ := opn4 w (Obj.cells #[.int .u64 (x1 : Nat), .int .u64 (y1 : Nat)] 26) (Obj.cells #[.int .u64 (x2 : Nat), .int .u64 (y2 : Nat)] 26) (Obj.cells #[.int .u64 (x3 : Nat), .int .u64 (y3 : Nat)] 26) (Obj.cells #[.int .u64 0, .int .u64 0] 26)
  go_enter Tryz.func16, Tryz.ntmps16
  obtain ⟨ca_0_0, ca_0_1⟩ := cells2s Ra_0
  obtain ⟨cb_0_0, cb_0_1⟩ := cells2s Rb_0
  obtain ⟨cc_0_0, cc_0_1⟩ := cells2s Rc_0
  go_wp2_with fail
  refine (KF.out _ _ ((((w.alloc (Obj.cells #[.int .u64 (x1 : Nat), .int .u64 (y1 : Nat)] 26)).alloc (Obj.cells #[.int .u64 (x2 : Nat), .int .u64 (y2 : Nat)] 26)).alloc (Obj.cells #[.int .u64 (x3 : Nat), .int .u64 (y3 : Nat)] 26)).alloc (Obj.cells #[.int .u64 0, .int .u64 0] 26)) (by first | rfl | simp only [size_al])).mono ?_
  rintro r w1 ⟨rfl, b1⟩
  have B1 : Below w.heap.size w w1 := btr B0 b1
  have Ra_1 := heap_of b1 _ _ _ Ra_0
  have Rb_1 := heap_of b1 _ _ _ Rb_0
  have Rc_1 := heap_of b1 _ _ _ Rc_0
  have Rz_1 := heap_of b1 _ _ _ Rz_0
  clear b1 B0 Ra_0 ca_0_0 ca_0_1 Rb_0 cb_0_0 cb_0_1 Rc_0 cc_0_0 cc_0_1 Rz_0
  obtain ⟨ca_1_0, ca_1_1⟩ := cells2s Ra_1
  obtain ⟨cb_1_0, cb_1_1⟩ := cells2s Rb_1
  obtain ⟨cc_1_0, cc_1_1⟩ := cells2s Rc_1
  go_wp2_with fail
  refine (K1.out _).mono ?_
  rintro r w2 ⟨rfl, b2⟩
  have B2 : Below w.heap.size w w2 := btr B1 b2
  have Ra_2 := heap_of b2 _ _ _ Ra_1
  have Rb_2 := heap_of b2 _ _ _ Rb_1
  have Rc_2 := heap_of b2 _ _ _ Rc_1
  have Rz_2 := heap_of b2 _ _ _ Rz_1
  clear b2 B1 Ra_1 ca_1_0 ca_1_1 Rb_1 cb_1_0 cb_1_1 Rc_1 cc_1_0 cc_1_1 Rz_1
  obtain ⟨ca_2_0, ca_2_1⟩ := cells2s Ra_2
  obtain ⟨cb_2_0, cb_2_1⟩ := cells2s Rb_2
  obtain ⟨cc_2_0, cc_2_1⟩ := cells2s Rc_2
  have q0_3 := fz (k := 0) Ra_2
  have q1_3 := fz (k := 1) Ra_2
  have B3 := set2_below B2 (show w.heap.size ≤ w.heap.size by first | exact Nat.le_refl _ | omega | (skip; omega)) (.int .u64 (p1 : Nat)) (.int .u64 (q1 : Nat))
  have Ra_3 : ((w2.setCell ⟨w.heap.size, 0, none⟩ (.int .u64 (p1 : Nat))).setCell ⟨w.heap.size, 1, none⟩ (.int .u64 (q1 : Nat))).heap[w.heap.size]? = some (Obj.cells #[.int .u64 (p1 : Nat), .int .u64 (q1 : Nat)] 26) := set2_row Ra_2 _ _
  have Rb_3 : ((w2.setCell ⟨w.heap.size, 0, none⟩ (.int .u64 (p1 : Nat))).setCell ⟨w.heap.size, 1, none⟩ (.int .u64 (q1 : Nat))).heap[w.heap.size + 1]? = some (Obj.cells #[.int .u64 (x2 : Nat), .int .u64 (y2 : Nat)] 26) := (setCell_other (by first | omega | (skip; omega))).trans ((setCell_other (by first | omega | (skip; omega))).trans Rb_2)
  have Rc_3 : ((w2.setCell ⟨w.heap.size, 0, none⟩ (.int .u64 (p1 : Nat))).setCell ⟨w.heap.size, 1, none⟩ (.int .u64 (q1 : Nat))).heap[w.heap.size + 1 + 1]? = some (Obj.cells #[.int .u64 (x3 : Nat), .int .u64 (y3 : Nat)] 26) := (setCell_other (by first | omega | (skip; omega))).trans ((setCell_other (by first | omega | (skip; omega))).trans Rc_2)
  have Rz_3 : ((w2.setCell ⟨w.heap.size, 0, none⟩ (.int .u64 (p1 : Nat))).setCell ⟨w.heap.size, 1, none⟩ (.int .u64 (q1 : Nat))).heap[w.heap.size + 1 + 1 + 1]? = some (Obj.cells #[.int .u64 0, .int .u64 0] 26) := (setCell_other (by first | omega | (skip; omega))).trans ((setCell_other (by first | omega | (skip; omega))).trans Rz_2)
  obtain ⟨ca_3_0, ca_3_1⟩ := cells2s Ra_3
  obtain ⟨cb_3_0, cb_3_1⟩ := cells2s Rb_3
  obtain ⟨cc_3_0, cc_3_1⟩ := cells2s Rc_3
  go_wp2_with fail
  refine (K3.out _).mono ?_
  rintro r w4 ⟨rfl, b4⟩
  have B4 : Below w.heap.size w w4 := btr B3 b4
  have Ra_4 := heap_of b4 _ _ _ Ra_3
  have Rb_4 := heap_of b4 _ _ _ Rb_3
  have Rc_4 := heap_of b4 _ _ _ Rc_3
  have Rz_4 := heap_of b4 _ _ _ Rz_3
  clear b4 B3 Ra_3 ca_3_0 ca_3_1 Rb_3 cb_3_0 cb_3_1 Rc_3 cc_3_0 cc_3_1 Rz_3
  obtain ⟨ca_4_0, ca_4_1⟩ := cells2s Ra_4
  obtain ⟨cb_4_0, cb_4_1⟩ := cells2s Rb_4
  obtain ⟨cc_4_0, cc_4_1⟩ := cells2s Rc_4
  have q0_5 := fz (k := 0) Rc_4
  have q1_5 := fz (k := 1) Rc_4
  have B5 := set2_below B4 (show w.heap.size ≤ w.heap.size + 1 + 1 by first | exact Nat.le_refl _ | omega | (skip; omega)) (.int .u64 (p3 : Nat)) (.int .u64 (q3 : Nat))
  have Rc_5 : ((w4.setCell ⟨w.heap.size + 1 + 1, 0, none⟩ (.int .u64 (p3 : Nat))).setCell ⟨w.heap.size + 1 + 1, 1, none⟩ (.int .u64 (q3 : Nat))).heap[w.heap.size + 1 + 1]? = some (Obj.cells #[.int .u64 (p3 : Nat), .int .u64 (q3 : Nat)] 26) := set2_row Rc_4 _ _
  have Ra_5 : ((w4.setCell ⟨w.heap.size + 1 + 1, 0, none⟩ (.int .u64 (p3 : Nat))).setCell ⟨w.heap.size + 1 + 1, 1, none⟩ (.int .u64 (q3 : Nat))).heap[w.heap.size]? = some (Obj.cells #[.int .u64 (p1 : Nat), .int .u64 (q1 : Nat)] 26) := (setCell_other (by first | omega | (skip; omega))).trans ((setCell_other (by first | omega | (skip; omega))).trans Ra_4)
  have Rb_5 : ((w4.setCell ⟨w.heap.size + 1 + 1, 0, none⟩ (.int .u64 (p3 : Nat))).setCell ⟨w.heap.size + 1 + 1, 1, none⟩ (.int .u64 (q3 : Nat))).heap[w.heap.size + 1]? = some (Obj.cells #[.int .u64 (x2 : Nat), .int .u64 (y2 : Nat)] 26) := (setCell_other (by first | omega | (skip; omega))).trans ((setCell_other (by first | omega | (skip; omega))).trans Rb_4)
  have Rz_5 : ((w4.setCell ⟨w.heap.size + 1 + 1, 0, none⟩ (.int .u64 (p3 : Nat))).setCell ⟨w.heap.size + 1 + 1, 1, none⟩ (.int .u64 (q3 : Nat))).heap[w.heap.size + 1 + 1 + 1]? = some (Obj.cells #[.int .u64 0, .int .u64 0] 26) := (setCell_other (by first | omega | (skip; omega))).trans ((setCell_other (by first | omega | (skip; omega))).trans Rz_4)
  obtain ⟨ca_5_0, ca_5_1⟩ := cells2s Ra_5
  obtain ⟨cb_5_0, cb_5_1⟩ := cells2s Rb_5
  obtain ⟨cc_5_0, cc_5_1⟩ := cells2s Rc_5
  go_wp2_with fail
  refine (KM.out _).mono ?_
  rintro r w6 ⟨rfl, b6⟩
  have B6 : Below w.heap.size w w6 := btr B5 b6
  have Ra_6 := heap_of b6 _ _ _ Ra_5
  have Rb_6 := heap_of b6 _ _ _ Rb_5
  have Rc_6 := heap_of b6 _ _ _ Rc_5
  have Rz_6 := heap_of b6 _ _ _ Rz_5
  clear b6 B5 Ra_5 ca_5_0 ca_5_1 Rb_5 cb_5_0 cb_5_1 Rc_5 cc_5_0 cc_5_1 Rz_5
  obtain ⟨ca_6_0, ca_6_1⟩ := cells2s Ra_6
  obtain ⟨cb_6_0, cb_6_1⟩ := cells2s Rb_6
  obtain ⟨cc_6_0, cc_6_1⟩ := cells2s Rc_6
  obtain ⟨cz_6_0, cz_6_1⟩ := cells2s Rz_6
  have q0 := fz (k := 0) Rz_6
  have q1 := fz (k := 1) Rz_6
  obtain ⟨E0, E1⟩ := set2_cells Rz_6 (.int .u64 (u : Nat)) (.int .u64 (v : Nat))
  go_wp2
  exact bodyPost_ret (v := .tuple #[.agg #[.int .u64 (u : Nat), .int .u64 (v : Nat)], .int .u8 fl, .int .i64 e]) (by simp [results, Tryz.results16, go_sem, E0, E1]) rfl ⟨rfl, set2_below B6 (by first | exact Nat.le_refl _ | omega | (skip; omega)) _ _⟩
theorem sg_fit {f : Int} (hf : Is4 f) {n : Nat} (hn : Fit f n) : Fit f (sgB f n true) := by
  rw [flip_k hf hn]
  exact (enc_k hf _ (kE_le n) (kT_lt n)).1
theorem fit_okF {f : Int} (hf : Is4 f) {n : Nat} (hn : Fit f n) : okB f n = true ∧ n < 340282366920938463463374607431768211456 := by
  have := (fm hf).2.2.2.2.2.2
  have hn2 : n < 2 * 2 ^ wV f := hn
  refine ⟨?_, by omega⟩
  unfold okB
  rw [decide_eq_true_iff]
  exact ⟨is4_le hf, hn⟩
def tu (f : Int) (o : Bool) (n : Nat) : Nat := if o then sgB f n true else n
theorem rTurned_is (f m : Int) (hf : Is4 f) (hm : 0 ≤ m ∧ m ≤ 4) (x1 y1 a x2 y2 b x3 y3 c : Nat) (hx1 : x1 < 18446744073709551616) (hy1 : y1 < 18446744073709551616) (hx2 : x2 < 18446744073709551616) (hy2 : y2 < 18446744073709551616) (hx3 : x3 < 18446744073709551616) (hy3 : y3 < 18446744073709551616) (ha : y1 + 18446744073709551616 * x1 = a) (hb : y2 + 18446744073709551616 * x2 = b) (hc : y3 + 18446744073709551616 * x3 = c)
    (oa : okB f a = true) (ob : okB f b = true) (oc : okB f c = true) (o1 o3 : Bool) (ho : o1 = true ∨ o3 = true) (M : Nat) (fl : Int) (hr : fmaR f m (tu f o1 a) b (tu f o3 c) = (M, fl)) (u v : Nat) (hv : bv7 M = (u, v)) (w : World) :
    Calls Tryz.prog 16 #[.int .u8 f, .int .u8 m, .agg #[.int .u64 (x1 : Nat), .int .u64 (y1 : Nat)], .agg #[.int .u64 (x2 : Nat), .int .u64 (y2 : Nat)], .agg #[.int .u64 (x3 : Nat), .int .u64 (y3 : Nat)], .bool o1, .bool o3] w fun r w' => r = .returned (.tuple #[.agg #[.int .u64 (u : Nat), .int .u64 (v : Nat)], .int .u8 fl, .int .i64 0]) ∧ Below w.heap.size w w' := by
  have h0 := (is4_ok hf).1
  have fa := (okB_yes h0 oa).2
  have fc := (okB_yes h0 oc).2
  have KF := rfit3 f m h0 x1 y1 a x2 y2 b x3 y3 c hx1 hy1 hx2 hy2 hx3 hy3 ha hb hc true (by rw [oa, ob, oc, decide_eq_true (show f ≤ 3 ∧ m ≤ 4 from ⟨is4_le hf, hm.2⟩)]; rfl)
  obtain ⟨p1, q1, hp1⟩ : ∃ p q, bv7 (sgB f a true) = (p, q) := ⟨_, _, rfl⟩
  obtain ⟨p3, q3, hp3⟩ : ∃ p q, bv7 (sgB f c true) = (p, q) := ⟨_, _, rfl⟩
  obtain ⟨a1, a2⟩ := fit_okF hf (sg_fit hf fa)
  obtain ⟨c1, c2⟩ := fit_okF hf (sg_fit hf fc)
  obtain ⟨j1, j2, j3⟩ := bv_lt a2 hp1
  obtain ⟨k1, k2, k3⟩ := bv_lt c2 hp3
  have K1 := box (fun w => rFlip_yes f hf x1 y1 a p1 q1 hx1 hy1 ha oa hp1 w)
  have K3 := box (fun w => rFlip_yes f hf x3 y3 c p3 q3 hx3 hy3 hc oc hp3 w)
  cases o1
  · cases o3
    · exact absurd ho (by decide)
    · exact rtu_ft f m x1 y1 x2 y2 x3 y3 u v p3 q3 fl 0 w KF K3 (box (fun w => rFma_is f m hf hm x1 y1 a x2 y2 b p3 q3 _ hx1 hy1 hx2 hy2 k1 k2 ha hb k3 oa ob c1 M fl hr u v hv w))
  · cases o3
    · exact rtu_tf f m x1 y1 x2 y2 x3 y3 u v p1 q1 fl 0 w KF K1 (box (fun w => rFma_is f m hf hm p1 q1 _ x2 y2 b x3 y3 c j1 j2 hx2 hy2 hx3 hy3 j3 hb hc a1 ob oc M fl hr u v hv w))
    · exact rtu_tt f m x1 y1 x2 y2 x3 y3 u v p1 q1 p3 q3 fl 0 w KF K1 K3 (box (fun w => rFma_is f m hf hm p1 q1 _ x2 y2 b p3 q3 _ j1 j2 hx2 hy2 k1 k2 j3 hb k3 a1 ob c1 M fl hr u v hv w))
end Go.Proofs.YtapikkbifdldfaaGreatDoor
