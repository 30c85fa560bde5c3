/-
  The document's Unpack, whole.
-/
import Derived.Test.YtkmlbjlaahcahaaDoorKI
namespace Go.Proofs.YtkmlbjlaahcahaaDoor
open Go.RowKit WMath
set_option linter.unusedSimpArgs false
set_option linter.unusedVariables false

theorem em_lim {f : Int} (hf : Is4 f) : IntKind.i64.wrap (1 - fE f - fP f) = 1 - fE f - fP f ∧ IntKind.i64.wrap (1 - fE f - fP f + 1) = lx f ∧ IntKind.i64.wrap (fE f - fP f) = fE f - fP f ∧ IntKind.i64.wrap (fE f - fP f + 1) = fE f - (pV f : Int) ∧ (if fC f = 0 then 1 - fE f else 0) = 1 - fE f ∧ 2 * fE f + 1 = (oV f : Int) ∧ 0 ≤ fE f ∧ fE f ≤ 16383 ∧ fP f = (pV f : Int) + 1 ∧ lx f = 1 - fE f - fP f + 1 ∧ pV f < 128 ∧ -16494 ≤ lx f ∧ lx f ≤ 0 := by
  rcases hf with rfl | rfl | rfl | rfl <;> decide +kernel
set_option maxHeartbeats 1000000 in
theorem rUnpack_is (f : Int) (hf : Is4 f) (x y n : Nat) (hx : x < 18446744073709551616) (hy : y < 18446744073709551616) (hn : y + 18446744073709551616 * x = n) (hfit : Fit f n) (w : World) :
    Calls Tryd.prog 8 #[.int .u8 f, .agg #[.int .u64 (x : Nat), .int .u64 (y : Nat)]] w fun r w' => r = .returned (.agg (pt (kC f n) (kS f n) (kX f n) (kF f n))) ∧ Below w.heap.size w w' := by
  have f4 := is4_ok hf
  obtain ⟨g1, g2, g3, g4, g5, g6, g7⟩ := fm hf
  obtain ⟨m1, m2, m3, m4, m5, m6, m7, m8, m9, m10, m11, m12, m13⟩ := em_lim hf
  have tl := kT_lt (f := f) n
  have el := kE_le (f := f) n
  have pn : 2 ^ pV f + kT f n < 340282366920938463463374607431768211456 := by rw [g1, Nat.add_mul] at g7; have := Nat.mul_le_mul_right (2 ^ pV f) g5; omega
  obtain ⟨p1, p2, p3, p4, _⟩ := pV_lim hf
  have KC : Box (∀ w, Calls Tryd.prog 7 #[.int .u8 f, .agg #[.int .u64 (x : Nat), .int .u64 (y : Nat)]] w fun r w' => r = .returned (.int .u8 ((kC f n : Nat) : Int)) ∧ Below w.heap.size w w') := box (fun w => rk_class f hf x y n _ hx hy hn hfit rfl w)
  have KF : Box (∀ w, Calls Tryd.prog 17 #[.int .u8 f, .agg #[.int .u64 (x : Nat), .int .u64 (y : Nat)]] w fun r w' => r = .returned (.tuple #[.bool (kN f n), .int .i64 ((kE f n : Nat) : Int), .agg (cw 6 (kT f n))]) ∧ Below w.heap.size w w') := box (fun w => rk_fields f hf x y n _ _ _ hx hy hn hfit rfl rfl rfl w)
  have KP : Box (∀ w, Calls Tryd.prog 20 #[.int .u8 f] w fun r w' => r = .returned (.int .i64 (fP f)) ∧ w' = w) := box (fun w => r_precision f _ f4.1 rfl w)
  have cl := kC_lt f n
  by_cases c1 : kC f n = 8 ∨ kC f n = 9
  · have e1 : kS f n = 0 ∧ kX f n = 0 ∧ kF f n = kT f n := by
      unfold kS kX kF
      rw [if_neg (by omega), if_neg (by omega), if_neg (by omega), if_neg (by omega), if_pos c1]
      exact ⟨rfl, rfl, rfl⟩
    rw [e1.1, e1.2.1, e1.2.2]
    exact rparts_nan f _ x y _ _ _ _ w KC KF KP c1
  by_cases c2 : kC f n = 2 ∨ kC f n = 5
  · have e1 : kS f n = kT f n ∧ kX f n = lx f ∧ kF f n = 0 := by
      unfold kS kX kF
      rw [if_pos c2, if_pos c2, if_neg c1]
      exact ⟨rfl, rfl, rfl⟩
    rw [e1.1, e1.2.1, e1.2.2]
    exact rparts_sub f _ x y _ _ _ _ (1 - fE f) _ w KC KF KP (box (fun w => (r_emin f _ _ f4.1 rfl m5 w).mono fun _ _ h => ⟨h.1, by rw [h.2]; exact Below.refl _ _⟩)) m1 m2 c2
  by_cases c3 : kC f n = 1 ∨ kC f n = 6
  · have e1 : kS f n = 2 ^ pV f + kT f n ∧ kX f n = lx f + (kE f n : Int) - 1 ∧ kF f n = 0 := by
      unfold kS kX kF
      rw [if_neg c2, if_neg c2, if_neg c1, if_pos c3, if_pos c3]
      exact ⟨rfl, rfl, rfl⟩
    rw [e1.1, e1.2.1, e1.2.2]
    have pl : 2 ^ pV f < Q := lt_Q7 (by omega)
    have sl := lt_Q7 pn
    exact rparts_norm f (fP f) x y _ _ _ _ (fE f) _ (pV f) (2 ^ pV f) _ w KC KF KP (box (fun w => rwof_any 1 (by omega) w))
      (box (fun w => rwleft_is 1 (2 ^ pV f) _ false (lt_Q7 (by omega)) (by rw [cnt_k8 (by omega), Nat.one_mul, Nat.mod_eq_of_lt pl]) (by rw [cnt_k8 (by omega), Nat.one_mul]; simp; omega) w))
      (box (fun w => rwadd_is (2 ^ pV f) (kT f n) _ false pl (lt_Q7 (by omega)) (Nat.mod_eq_of_lt sl) (by simp; omega) w))
      (box (fun w => (r_emax f _ f4.1 rfl w).mono fun _ _ h => ⟨h.1, by rw [h.2]; exact Below.refl _ _⟩)) p2 (by rw [IntKind.wrap_i64]; omega) (by rw [IntKind.wrap_i64]; omega) (by rw [IntKind.wrap_i64]; omega) c3
  · have e1 : kS f n = 0 ∧ kX f n = 0 ∧ kF f n = 0 := by
      unfold kS kX kF
      rw [if_neg c2, if_neg c2, if_neg c1, if_neg c3, if_neg c3]
      exact ⟨rfl, rfl, rfl⟩
    rw [e1.1, e1.2.1, e1.2.2]
    exact rparts_none f _ x y _ _ _ _ w KC KF KP (by omega)
end Go.Proofs.YtkmlbjlaahcahaaDoor
