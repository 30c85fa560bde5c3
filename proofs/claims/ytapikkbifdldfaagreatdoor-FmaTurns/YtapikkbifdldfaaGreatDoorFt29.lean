/-
  What the functions that the statement reaches return: part 29 (F2).
-/
import Derived.Test.YtapikkbifdldfaaGreatDoorFt28
namespace Go.Proofs.YtapikkbifdldfaaGreatDoor
set_option maxRecDepth 100000
set_option maxHeartbeats 40000000
set_option maxRecDepth 100000
open Go.RowKit WMath
set_option linter.unusedSimpArgs false
set_option linter.unusedVariables false
theorem rfit3r (f m : Int) (h0 : 0 ≤ f) (x1 y1 a x2 y2 b x3 y3 c : Nat) (hx1 : x1 < 18446744073709551616) (hy1 : y1 < 18446744073709551616) (hx2 : x2 < 18446744073709551616) (hy2 : y2 < 18446744073709551616) (hx3 : x3 < 18446744073709551616) (hy3 : y3 < 18446744073709551616) (ha : y1 + 18446744073709551616 * x1 = a) (hb : y2 + 18446744073709551616 * x2 = b) (hc : y3 + 18446744073709551616 * x3 = c) (o : Bool) (ho : (decide (f ≤ 3 ∧ m ≤ 4) && okB f a && okB f b && okB f c) = o) :
    Box (∀ (T : TypeId) (g : Nat) (w : World), w.heap[g]? = some (.cells #[.int .u64 (x1 : Nat), .int .u64 (y1 : Nat), .int .u64 (x2 : Nat), .int .u64 (y2 : Nat), .int .u64 (x3 : Nat), .int .u64 (y3 : Nat)] T) → Calls Tryz.prog 40 #[.int .u8 f, .int .u8 m, .slice (some ⟨g, 0, none⟩) 3 3] w fun r w' => r = .returned (.bool o) ∧ Below w.heap.size w w') := by
  refine box (fun T g w row => ?_)
  have KR : Box (∀ w, Calls Tryz.prog 88 #[.int .u8 f] w fun r w' => r = .returned (.bool (decide (f ≤ 3))) ∧ Below w.heap.size w w') := box (fun w => bel_same (r_right f _ rfl w))
  have KM : Box (∀ w, Calls Tryz.prog 89 #[.int .u8 m] w fun r w' => r = .returned (.bool (decide (m ≤ 4))) ∧ Below w.heap.size w w') := box (fun w => bel_same (r_mode m _ rfl w))
  by_cases c1 : f ≤ 3
  · rw [decide_eq_true c1] at KR
    by_cases c2 : m ≤ 4
    · rw [decide_eq_true c2] at KM
      refine (rf_list f m h0 [(x1, y1), (x2, y2), (x3, y3)] 3 g 3 T _ rfl (by decide) (thr_lim hx1 hy1 hx2 hy2 hx3 hy3) row KR KM o ?_)
      rw [← ho, decide_eq_true (show f ≤ 3 ∧ m ≤ 4 from ⟨c1, c2⟩)]
      show (okP f (x1, y1) && (okP f (x2, y2) && (okP f (x3, y3) && true))) = _
      unfold okP
      rw [ha, hb, hc, Bool.and_true, Bool.true_and, Bool.and_assoc]
    · rw [decide_eq_false c2] at KM
      have e : o = false := by rw [← ho, decide_eq_false (fun q => c2 q.2)]; rfl
      subst e
      exact (rf_nom f m _ _ KR KM)
  · rw [decide_eq_false c1] at KR
    have e : o = false := by rw [← ho, decide_eq_false (fun q => c1 q.1)]; rfl
    subst e
    exact (rf_no f m _ _ KR)
theorem rcan3r (f : Int) (hf : Is4 f) (x1 y1 a x2 y2 b x3 y3 c : Nat) (hx1 : x1 < 18446744073709551616) (hy1 : y1 < 18446744073709551616) (hx2 : x2 < 18446744073709551616) (hy2 : y2 < 18446744073709551616) (hx3 : x3 < 18446744073709551616) (hy3 : y3 < 18446744073709551616) (ha : y1 + 18446744073709551616 * x1 = a) (hb : y2 + 18446744073709551616 * x2 = b) (hc : y3 + 18446744073709551616 * x3 = c) (fa : Fit f a) (fb : Fit f b) (fc : Fit f c) (fl : Int) (hfl : (if kC f a = 8 ∨ kC f b = 8 ∨ kC f c = 8 then (16 : Int) else 0) = fl) (u v : Nat) (hv : bv7 (eNaN f) = (u, v)) :
    Box (∀ (T : TypeId) (g : Nat) (w : World), w.heap[g]? = some (.cells #[.int .u64 (x1 : Nat), .int .u64 (y1 : Nat), .int .u64 (x2 : Nat), .int .u64 (y2 : Nat), .int .u64 (x3 : Nat), .int .u64 (y3 : Nat)] T) → Calls Tryz.prog 42 #[.int .u8 f, .slice (some ⟨g, 0, none⟩) 3 3] w fun r w' => r = .returned (.tuple #[.agg #[.int .u64 (u : Nat), .int .u64 (v : Nat)], .int .u8 fl]) ∧ Below w.heap.size w w') := by
  refine box (fun T g w row => ?_)
  have KN : Box (∀ w, Calls Tryz.prog 45 #[.int .u8 f] w fun r w' => r = .returned (.agg #[.int .u64 (u : Nat), .int .u64 (v : Nat)]) ∧ Below w.heap.size w w') := box (fun w => by
    have := r_nan f hf _ rfl w
    rw [hv] at this
    exact this)
  refine (rc_list f hf [(x1, y1), (x2, y2), (x3, y3)] 3 g 3 T _ rfl (by decide) (thr_lim hx1 hy1 hx2 hy2 hx3 hy3) ?_ row u v KN fl ?_)
  · refine box (fun p hp => ?_)
    rcases List.mem_cons.1 hp with rfl | h
    · show Fit f (y1 + 18446744073709551616 * x1)
      rw [ha]
      exact fa
    · rcases List.mem_cons.1 h with rfl | h
      · show Fit f (y2 + 18446744073709551616 * x2)
        rw [hb]
        exact fb
      · rcases List.mem_cons.1 h with rfl | h
        · show Fit f (y3 + 18446744073709551616 * x3)
          rw [hc]
          exact fc
        · exact absurd h List.not_mem_nil
  · rw [← hfl]
    show (if (sgP f (x1, y1) || (sgP f (x2, y2) || (sgP f (x3, y3) || false))) = true then (16 : Int) else 0) = _
    unfold sgP
    rw [ha, hb, hc, Bool.or_false]
    by_cases cc : kC f a = 8 ∨ kC f b = 8 ∨ kC f c = 8
    · rw [if_pos cc, if_pos]
      rw [← Bool.decide_or, ← Bool.decide_or, decide_eq_true_iff]
      exact cc
    · rw [if_neg cc, if_neg]
      rw [← Bool.decide_or, ← Bool.decide_or, decide_eq_true_iff]
      exact cc
set_option maxRecDepth 100000 in
set_option maxHeartbeats 8000000 in
theorem rfm_iz (f m : Int) (x1 y1 x2 y2 x3 y3 u v : Nat) (fl : Int) (w : World)
    (KF : Box (∀ (T : TypeId) (g : Nat) (w : World), w.heap[g]? = some (.cells #[.int .u64 (x1 : Nat), .int .u64 (y1 : Nat), .int .u64 (x2 : Nat), .int .u64 (y2 : Nat), .int .u64 (x3 : Nat), .int .u64 (y3 : Nat)] T) → Calls Tryz.prog 40 #[.int .u8 f, .int .u8 m, .slice (some ⟨g, 0, none⟩) 3 3] w fun r w' => r = .returned (.bool true) ∧ Below w.heap.size w w'))
    (H : Box ((Box (∀ w, Calls Tryz.prog 31 #[.int .u8 f, .agg #[.int .u64 (x1 : Nat), .int .u64 (y1 : Nat)]] w fun r w' => r = .returned (.bool true) ∧ Below w.heap.size w w') ∧ Box (∀ w, Calls Tryz.prog 44 #[.int .u8 f, .agg #[.int .u64 (x1 : Nat), .int .u64 (y1 : Nat)]] w fun r w' => r = .returned (.bool false) ∧ Below w.heap.size w w') ∧ Box (∀ w, Calls Tryz.prog 44 #[.int .u8 f, .agg #[.int .u64 (x2 : Nat), .int .u64 (y2 : Nat)]] w fun r w' => r = .returned (.bool true) ∧ Below w.heap.size w w') ∧ Box (∀ w, Calls Tryz.prog 45 #[.int .u8 f] w fun r w' => r = .returned (.agg #[.int .u64 (u : Nat), .int .u64 (v : Nat)]) ∧ Below w.heap.size w w') ∧ fl = 16) ∨ (Box (∀ w, Calls Tryz.prog 31 #[.int .u8 f, .agg #[.int .u64 (x1 : Nat), .int .u64 (y1 : Nat)]] w fun r w' => r = .returned (.bool false) ∧ Below w.heap.size w w') ∧ Box (∀ w, Calls Tryz.prog 31 #[.int .u8 f, .agg #[.int .u64 (x2 : Nat), .int .u64 (y2 : Nat)]] w fun r w' => r = .returned (.bool true) ∧ Below w.heap.size w w') ∧ Box (∀ w, Calls Tryz.prog 44 #[.int .u8 f, .agg #[.int .u64 (x1 : Nat), .int .u64 (y1 : Nat)]] w fun r w' => r = .returned (.bool true) ∧ Below w.heap.size w w') ∧ Box (∀ w, Calls Tryz.prog 45 #[.int .u8 f] w fun r w' => r = .returned (.agg #[.int .u64 (u : Nat), .int .u64 (v : Nat)]) ∧ Below w.heap.size w w') ∧ fl = 16)))
    : Calls Tryz.prog 13 #[.int .u8 f, .int .u8 m, .agg #[.int .u64 (x1 : Nat), .int .u64 (y1 : Nat)], .agg #[.int .u64 (x2 : Nat), .int .u64 (y2 : Nat)], .agg #[.int .u64 (x3 : Nat), .int .u64 (y3 : Nat)]] w fun r w' => r = .returned (.tuple #[.agg #[.int .u64 (u : Nat), .int .u64 (v : Nat)], .int .u8 fl, .int .i64 0]) ∧ Below w.heap.size w w' := by
  have Ra_0 : (((((w.alloc (Obj.cells #[.int .u64 (x1 : Nat), .int .u64 (y1 : Nat)] 26)).alloc (Obj.cells #[.int .u64 (x2 : Nat), .int .u64 (y2 : Nat)] 26)).alloc (Obj.cells #[.int .u64 (x3 : Nat), .int .u64 (y3 : Nat)] 26)).alloc (Obj.cells #[.int .u64 0, .int .u64 0] 26)).alloc (Obj.cells #[.int .u64 (x1 : Nat), .int .u64 (y1 : Nat), .int .u64 (x2 : Nat), .int .u64 (y2 : Nat), .int .u64 (x3 : Nat), .int .u64 (y3 : Nat)] 26)).heap[w.heap.size]? = some (Obj.cells #[.int .u64 (x1 : Nat), .int .u64 (y1 : Nat)] 26) := by rw [heap_below _ _ _ (by simp only [size_al]; omega), heap_below _ _ _ (by simp only [size_al]; omega), heap_below _ _ _ (by simp only [size_al]; omega), heap_below _ _ _ (by simp only [size_al]; omega)]; have := heap_alloc_last w (Obj.cells #[.int .u64 (x1 : Nat), .int .u64 (y1 : Nat)] 26); simpa only [size_al] using this
  have Rb_0 : (((((w.alloc (Obj.cells #[.int .u64 (x1 : Nat), .int .u64 (y1 : Nat)] 26)).alloc (Obj.cells #[.int .u64 (x2 : Nat), .int .u64 (y2 : Nat)] 26)).alloc (Obj.cells #[.int .u64 (x3 : Nat), .int .u64 (y3 : Nat)] 26)).alloc (Obj.cells #[.int .u64 0, .int .u64 0] 26)).alloc (Obj.cells #[.int .u64 (x1 : Nat), .int .u64 (y1 : Nat), .int .u64 (x2 : Nat), .int .u64 (y2 : Nat), .int .u64 (x3 : Nat), .int .u64 (y3 : Nat)] 26)).heap[w.heap.size + 1]? = some (Obj.cells #[.int .u64 (x2 : Nat), .int .u64 (y2 : Nat)] 26) := by rw [heap_below _ _ _ (by simp only [size_al]; omega), heap_below _ _ _ (by simp only [size_al]; omega), heap_below _ _ _ (by simp only [size_al]; omega)]; have := heap_alloc_last (w.alloc (Obj.cells #[.int .u64 (x1 : Nat), .int .u64 (y1 : Nat)] 26)) (Obj.cells #[.int .u64 (x2 : Nat), .int .u64 (y2 : Nat)] 26); simpa only [size_al] using this
  have Rc_0 : (((((w.alloc (Obj.cells #[.int .u64 (x1 : Nat), .int .u64 (y1 : Nat)] 26)).alloc (Obj.cells #[.int .u64 (x2 : Nat), .int .u64 (y2 : Nat)] 26)).alloc (Obj.cells #[.int .u64 (x3 : Nat), .int .u64 (y3 : Nat)] 26)).alloc (Obj.cells #[.int .u64 0, .int .u64 0] 26)).alloc (Obj.cells #[.int .u64 (x1 : Nat), .int .u64 (y1 : Nat), .int .u64 (x2 : Nat), .int .u64 (y2 : Nat), .int .u64 (x3 : Nat), .int .u64 (y3 : Nat)] 26)).heap[w.heap.size + 1 + 1]? = some (Obj.cells #[.int .u64 (x3 : Nat), .int .u64 (y3 : Nat)] 26) := by rw [heap_below _ _ _ (by simp only [size_al]; omega), heap_below _ _ _ (by simp only [size_al]; omega)]; have := heap_alloc_last ((w.alloc (Obj.cells #[.int .u64 (x1 : Nat), .int .u64 (y1 : Nat)] 26)).alloc (Obj.cells #[.int .u64 (x2 : Nat), .int .u64 (y2 : Nat)] 26)) (Obj.cells #[.int .u64 (x3 : Nat), .int .u64 (y3 : Nat)] 26); simpa only [size_al] using this
  have Rz_0 : (((((w.alloc (Obj.cells #[.int .u64 (x1 : Nat), .int .u64 (y1 : Nat)] 26)).alloc (Obj.cells #[.int .u64 (x2 : Nat), .int .u64 (y2 : Nat)] 26)).alloc (Obj.cells #[.int .u64 (x3 : Nat), .int .u64 (y3 : Nat)] 26)).alloc (Obj.cells #[.int .u64 0, .int .u64 0] 26)).alloc (Obj.cells #[.int .u64 (x1 : Nat), .int .u64 (y1 : Nat), .int .u64 (x2 : Nat), .int .u64 (y2 : Nat), .int .u64 (x3 : Nat), .int .u64 (y3 : Nat)] 26)).heap[w.heap.size + 1 + 1 + 1]? = some (Obj.cells #[.int .u64 0, .int .u64 0] 26) := by rw [heap_below _ _ _ (by simp only [size_al]; omega)]; have := heap_alloc_last (((w.alloc (Obj.cells #[.int .u64 (x1 : Nat), .int .u64 (y1 : Nat)] 26)).alloc (Obj.cells #[.int .u64 (x2 : Nat), .int .u64 (y2 : Nat)] 26)).alloc (Obj.cells #[.int .u64 (x3 : Nat), .int .u64 (y3 : Nat)] 26)) (Obj.cells #[.int .u64 0, .int .u64 0] 26); simpa only [size_al] using this
  have Rl_0 : (((((w.alloc (Obj.cells #[.int .u64 (x1 : Nat), .int .u64 (y1 : Nat)] 26)).alloc (Obj.cells #[.int .u64 (x2 : Nat), .int .u64 (y2 : Nat)] 26)).alloc (Obj.cells #[.int .u64 (x3 : Nat), .int .u64 (y3 : Nat)] 26)).alloc (Obj.cells #[.int .u64 0, .int .u64 0] 26)).alloc (Obj.cells #[.int .u64 (x1 : Nat), .int .u64 (y1 : Nat), .int .u64 (x2 : Nat), .int .u64 (y2 : Nat), .int .u64 (x3 : Nat), .int .u64 (y3 : Nat)] 26)).heap[w.heap.size + 1 + 1 + 1 + 1]? = some (Obj.cells #[.int .u64 (x1 : Nat), .int .u64 (y1 : Nat), .int .u64 (x2 : Nat), .int .u64 (y2 : Nat), .int .u64 (x3 : Nat), .int .u64 (y3 : Nat)] 26) := by have := heap_alloc_last ((((w.alloc (Obj.cells #[.int .u64 (x1 : Nat), .int .u64 (y1 : Nat)] 26)).alloc (Obj.cells #[.int .u64 (x2 : Nat), .int .u64 (y2 : Nat)] 26)).alloc (Obj.cells #[.int .u64 (x3 : Nat), .int .u64 (y3 : Nat)] 26)).alloc (Obj.cells #[.int .u64 0, .int .u64 0] 26)) (Obj.cells #[.int .u64 (x1 : Nat), .int .u64 (y1 : Nat), .int .u64 (x2 : Nat), .int .u64 (y2 : Nat), .int .u64 (x3 : Nat), .int .u64 (y3 : Nat)] 26); simpa only [size_al] using this
  have B0 : Below w.heap.size w (((((w.alloc (Obj.cells #[.int .u64 (x1 : Nat), .int .u64 (y1 : Nat)] 26)).alloc (Obj.cells #[.int .u64 (x2 : Nat), .int .u64 (y2 : Nat)] 26)).alloc (Obj.cells #[.int .u64 (x3 : Nat), .int .u64 (y3 : Nat)] 26)).alloc (Obj.cells #[.int .u64 0, .int .u64 0] 26)).alloc (Obj.cells #[.int .u64 (x1 : Nat), .int .u64 (y1 : Nat), .int .u64 (x2 : Nat), .int .u64 (y2 : Nat), .int .u64 (x3 : Nat), .int .u64 (y3 : Nat)] 26)) := ((((((Below.refl _ _).alloc (by first | omega | (simp only [size_al]; omega)) _).alloc (by first | omega | (simp only [size_al]; omega)) _).alloc (by first | omega | (simp only [size_al]; omega)) _).alloc (by first | omega | (simp only [size_al]; omega)) _).alloc (by first | omega | (simp only [size_al]; omega)) _)
  go_enter Tryz.func13, Tryz.ntmps13
  obtain ⟨ca_0_0, ca_0_1⟩ := cells2s Ra_0
  obtain ⟨cb_0_0, cb_0_1⟩ := cells2s Rb_0
  obtain ⟨cc_0_0, cc_0_1⟩ := cells2s Rc_0
  go_wp2_with fail
  refine (KF.out _ _ _ (by assumption)).mono ?_
  rintro r w1 ⟨rfl, b1⟩
  have B1 : Below w.heap.size w w1 := btr B0 b1
  have Ra_1 := heap_of b1 _ _ _ Ra_0
  have Rb_1 := heap_of b1 _ _ _ Rb_0
  have Rc_1 := heap_of b1 _ _ _ Rc_0
  have Rz_1 := heap_of b1 _ _ _ Rz_0
  have Rl_1 := heap_of b1 _ _ _ Rl_0
  clear b1 B0 Ra_0 ca_0_0 ca_0_1 Rb_0 cb_0_0 cb_0_1 Rc_0 cc_0_0 cc_0_1 Rz_0 Rl_0
  obtain ⟨ca_1_0, ca_1_1⟩ := cells2s Ra_1
  obtain ⟨cb_1_0, cb_1_1⟩ := cells2s Rb_1
  obtain ⟨cc_1_0, cc_1_1⟩ := cells2s Rc_1
  rcases H.out with ⟨KI1, KZ1, KZ2, KR, rfl⟩ | ⟨KI1, KI2, KZ1, KR, rfl⟩
  · clear H
    go_wp2_with fail
    refine (KI1.out _).mono ?_
    rintro r w2 ⟨rfl, b2⟩
    have B2 : Below w.heap.size w w2 := btr B1 b2
    have Ra_2 := heap_of b2 _ _ _ Ra_1
    have Rb_2 := heap_of b2 _ _ _ Rb_1
    have Rc_2 := heap_of b2 _ _ _ Rc_1
    have Rz_2 := heap_of b2 _ _ _ Rz_1
    have Rl_2 := heap_of b2 _ _ _ Rl_1
    clear b2 B1 Ra_1 ca_1_0 ca_1_1 Rb_1 cb_1_0 cb_1_1 Rc_1 cc_1_0 cc_1_1 Rz_1 Rl_1
    obtain ⟨ca_2_0, ca_2_1⟩ := cells2s Ra_2
    obtain ⟨cb_2_0, cb_2_1⟩ := cells2s Rb_2
    obtain ⟨cc_2_0, cc_2_1⟩ := cells2s Rc_2
    go_wp2_with fail
    refine (KZ1.out _).mono ?_
    rintro r w3 ⟨rfl, b3⟩
    have B3 : Below w.heap.size w w3 := btr B2 b3
    have Ra_3 := heap_of b3 _ _ _ Ra_2
    have Rb_3 := heap_of b3 _ _ _ Rb_2
    have Rc_3 := heap_of b3 _ _ _ Rc_2
    have Rz_3 := heap_of b3 _ _ _ Rz_2
    have Rl_3 := heap_of b3 _ _ _ Rl_2
    clear b3 B2 Ra_2 ca_2_0 ca_2_1 Rb_2 cb_2_0 cb_2_1 Rc_2 cc_2_0 cc_2_1 Rz_2 Rl_2
    obtain ⟨ca_3_0, ca_3_1⟩ := cells2s Ra_3
    obtain ⟨cb_3_0, cb_3_1⟩ := cells2s Rb_3
    obtain ⟨cc_3_0, cc_3_1⟩ := cells2s Rc_3
    go_wp2_with fail
    refine (KZ2.out _).mono ?_
    rintro r w4 ⟨rfl, b4⟩
    have B4 : Below w.heap.size w w4 := btr B3 b4
    have Ra_4 := heap_of b4 _ _ _ Ra_3
    have Rb_4 := heap_of b4 _ _ _ Rb_3
    have Rc_4 := heap_of b4 _ _ _ Rc_3
    have Rz_4 := heap_of b4 _ _ _ Rz_3
    have Rl_4 := heap_of b4 _ _ _ Rl_3
    clear b4 B3 Ra_3 ca_3_0 ca_3_1 Rb_3 cb_3_0 cb_3_1 Rc_3 cc_3_0 cc_3_1 Rz_3 Rl_3
    obtain ⟨ca_4_0, ca_4_1⟩ := cells2s Ra_4
    obtain ⟨cb_4_0, cb_4_1⟩ := cells2s Rb_4
    obtain ⟨cc_4_0, cc_4_1⟩ := cells2s Rc_4
    go_wp2_with fail
    refine (KR.out _).mono ?_
    rintro r w5 ⟨rfl, b5⟩
    have B5 : Below w.heap.size w w5 := btr B4 b5
    have Ra_5 := heap_of b5 _ _ _ Ra_4
    have Rb_5 := heap_of b5 _ _ _ Rb_4
    have Rc_5 := heap_of b5 _ _ _ Rc_4
    have Rz_5 := heap_of b5 _ _ _ Rz_4
    have Rl_5 := heap_of b5 _ _ _ Rl_4
    clear b5 B4 Ra_4 ca_4_0 ca_4_1 Rb_4 cb_4_0 cb_4_1 Rc_4 cc_4_0 cc_4_1 Rz_4 Rl_4
    obtain ⟨ca_5_0, ca_5_1⟩ := cells2s Ra_5
    obtain ⟨cb_5_0, cb_5_1⟩ := cells2s Rb_5
    obtain ⟨cc_5_0, cc_5_1⟩ := cells2s Rc_5
    obtain ⟨cz_5_0, cz_5_1⟩ := cells2s Rz_5
    have q0 := fz (k := 0) Rz_5
    have q1 := fz (k := 1) Rz_5
    obtain ⟨E0, E1⟩ := set2_cells Rz_5 (.int .u64 (u : Nat)) (.int .u64 (v : Nat))
    go_wp2
    exact bodyPost_ret (v := .tuple #[.agg #[.int .u64 (u : Nat), .int .u64 (v : Nat)], .int .u8 16, .int .i64 0]) (by simp [results, Tryz.results13, go_sem, E0, E1]) rfl ⟨rfl, set2_below B5 (by first | exact Nat.le_refl _ | omega | (skip; omega)) _ _⟩
  · clear H
    go_wp2_with fail
    refine (KI1.out _).mono ?_
    rintro r w2 ⟨rfl, b2⟩
    have B2 : Below w.heap.size w w2 := btr B1 b2
    have Ra_2 := heap_of b2 _ _ _ Ra_1
    have Rb_2 := heap_of b2 _ _ _ Rb_1
    have Rc_2 := heap_of b2 _ _ _ Rc_1
    have Rz_2 := heap_of b2 _ _ _ Rz_1
    have Rl_2 := heap_of b2 _ _ _ Rl_1
    clear b2 B1 Ra_1 ca_1_0 ca_1_1 Rb_1 cb_1_0 cb_1_1 Rc_1 cc_1_0 cc_1_1 Rz_1 Rl_1
    obtain ⟨ca_2_0, ca_2_1⟩ := cells2s Ra_2
    obtain ⟨cb_2_0, cb_2_1⟩ := cells2s Rb_2
    obtain ⟨cc_2_0, cc_2_1⟩ := cells2s Rc_2
    go_wp2_with fail
    refine (KI2.out _).mono ?_
    rintro r w3 ⟨rfl, b3⟩
    have B3 : Below w.heap.size w w3 := btr B2 b3
    have Ra_3 := heap_of b3 _ _ _ Ra_2
    have Rb_3 := heap_of b3 _ _ _ Rb_2
    have Rc_3 := heap_of b3 _ _ _ Rc_2
    have Rz_3 := heap_of b3 _ _ _ Rz_2
    have Rl_3 := heap_of b3 _ _ _ Rl_2
    clear b3 B2 Ra_2 ca_2_0 ca_2_1 Rb_2 cb_2_0 cb_2_1 Rc_2 cc_2_0 cc_2_1 Rz_2 Rl_2
    obtain ⟨ca_3_0, ca_3_1⟩ := cells2s Ra_3
    obtain ⟨cb_3_0, cb_3_1⟩ := cells2s Rb_3
    obtain ⟨cc_3_0, cc_3_1⟩ := cells2s Rc_3
    go_wp2_with fail
    refine (KZ1.out _).mono ?_
    rintro r w4 ⟨rfl, b4⟩
    have B4 : Below w.heap.size w w4 := btr B3 b4
    have Ra_4 := heap_of b4 _ _ _ Ra_3
    have Rb_4 := heap_of b4 _ _ _ Rb_3
    have Rc_4 := heap_of b4 _ _ _ Rc_3
    have Rz_4 := heap_of b4 _ _ _ Rz_3
    have Rl_4 := heap_of b4 _ _ _ Rl_3
    clear b4 B3 Ra_3 ca_3_0 ca_3_1 Rb_3 cb_3_0 cb_3_1 Rc_3 cc_3_0 cc_3_1 Rz_3 Rl_3
    obtain ⟨ca_4_0, ca_4_1⟩ := cells2s Ra_4
    obtain ⟨cb_4_0, cb_4_1⟩ := cells2s Rb_4
    obtain ⟨cc_4_0, cc_4_1⟩ := cells2s Rc_4
    go_wp2_with fail
    refine (KR.out _).mono ?_
    rintro r w5 ⟨rfl, b5⟩
    have B5 : Below w.heap.size w w5 := btr B4 b5
    have Ra_5 := heap_of b5 _ _ _ Ra_4
    have Rb_5 := heap_of b5 _ _ _ Rb_4
    have Rc_5 := heap_of b5 _ _ _ Rc_4
    have Rz_5 := heap_of b5 _ _ _ Rz_4
    have Rl_5 := heap_of b5 _ _ _ Rl_4
    clear b5 B4 Ra_4 ca_4_0 ca_4_1 Rb_4 cb_4_0 cb_4_1 Rc_4 cc_4_0 cc_4_1 Rz_4 Rl_4
    obtain ⟨ca_5_0, ca_5_1⟩ := cells2s Ra_5
    obtain ⟨cb_5_0, cb_5_1⟩ := cells2s Rb_5
    obtain ⟨cc_5_0, cc_5_1⟩ := cells2s Rc_5
    obtain ⟨cz_5_0, cz_5_1⟩ := cells2s Rz_5
    have q0 := fz (k := 0) Rz_5
    have q1 := fz (k := 1) Rz_5
    obtain ⟨E0, E1⟩ := set2_cells Rz_5 (.int .u64 (u : Nat)) (.int .u64 (v : Nat))
    go_wp2
    exact bodyPost_ret (v := .tuple #[.agg #[.int .u64 (u : Nat), .int .u64 (v : Nat)], .int .u8 16, .int .i64 0]) (by simp [results, Tryz.results13, go_sem, E0, E1]) rfl ⟨rfl, set2_below B5 (by first | exact Nat.le_refl _ | omega | (skip; omega)) _ _⟩
set_option maxRecDepth 100000 in
set_option maxHeartbeats 8000000 in
theorem rfm_inf (f m : Int) (x1 y1 x2 y2 x3 y3 u v : Nat) (fl : Int) (s1 s2 s3 neg : Bool) (hng : (!(s1 == s2)) = neg) (w : World)
    (KF : Box (∀ (T : TypeId) (g : Nat) (w : World), w.heap[g]? = some (.cells #[.int .u64 (x1 : Nat), .int .u64 (y1 : Nat), .int .u64 (x2 : Nat), .int .u64 (y2 : Nat), .int .u64 (x3 : Nat), .int .u64 (y3 : Nat)] T) → Calls Tryz.prog 40 #[.int .u8 f, .int .u8 m, .slice (some ⟨g, 0, none⟩) 3 3] w fun r w' => r = .returned (.bool true) ∧ Below w.heap.size w w'))
    (KZ1 : Box (∀ w, Calls Tryz.prog 44 #[.int .u8 f, .agg #[.int .u64 (x1 : Nat), .int .u64 (y1 : Nat)]] w fun r w' => r = .returned (.bool false) ∧ Below w.heap.size w w'))
    (KZ2 : Box (∀ w, Calls Tryz.prog 44 #[.int .u8 f, .agg #[.int .u64 (x2 : Nat), .int .u64 (y2 : Nat)]] w fun r w' => r = .returned (.bool false) ∧ Below w.heap.size w w'))
    (H2 : Box ((Box (∀ w, Calls Tryz.prog 31 #[.int .u8 f, .agg #[.int .u64 (x1 : Nat), .int .u64 (y1 : Nat)]] w fun r w' => r = .returned (.bool true) ∧ Below w.heap.size w w')) ∨ (Box (∀ w, Calls Tryz.prog 31 #[.int .u8 f, .agg #[.int .u64 (x1 : Nat), .int .u64 (y1 : Nat)]] w fun r w' => r = .returned (.bool false) ∧ Below w.heap.size w w') ∧ Box (∀ w, Calls Tryz.prog 31 #[.int .u8 f, .agg #[.int .u64 (x2 : Nat), .int .u64 (y2 : Nat)]] w fun r w' => r = .returned (.bool true) ∧ Below w.heap.size w w'))))
    (H : Box ((Box (∀ w, Calls Tryz.prog 41 #[.int .u8 f, .agg #[.int .u64 (x1 : Nat), .int .u64 (y1 : Nat)]] w fun r w' => r = .returned (.bool true) ∧ Below w.heap.size w w') ∧ Box (∀ (T : TypeId) (g : Nat) (w : World), w.heap[g]? = some (.cells #[.int .u64 (x1 : Nat), .int .u64 (y1 : Nat), .int .u64 (x2 : Nat), .int .u64 (y2 : Nat), .int .u64 (x3 : Nat), .int .u64 (y3 : Nat)] T) → Calls Tryz.prog 42 #[.int .u8 f, .slice (some ⟨g, 0, none⟩) 3 3] w fun r w' => r = .returned (.tuple #[.agg #[.int .u64 (u : Nat), .int .u64 (v : Nat)], .int .u8 fl]) ∧ Below w.heap.size w w')) ∨ (Box (∀ w, Calls Tryz.prog 41 #[.int .u8 f, .agg #[.int .u64 (x1 : Nat), .int .u64 (y1 : Nat)]] w fun r w' => r = .returned (.bool false) ∧ Below w.heap.size w w') ∧ Box ((Box (∀ w, Calls Tryz.prog 41 #[.int .u8 f, .agg #[.int .u64 (x2 : Nat), .int .u64 (y2 : Nat)]] w fun r w' => r = .returned (.bool true) ∧ Below w.heap.size w w') ∧ Box (∀ (T : TypeId) (g : Nat) (w : World), w.heap[g]? = some (.cells #[.int .u64 (x1 : Nat), .int .u64 (y1 : Nat), .int .u64 (x2 : Nat), .int .u64 (y2 : Nat), .int .u64 (x3 : Nat), .int .u64 (y3 : Nat)] T) → Calls Tryz.prog 42 #[.int .u8 f, .slice (some ⟨g, 0, none⟩) 3 3] w fun r w' => r = .returned (.tuple #[.agg #[.int .u64 (u : Nat), .int .u64 (v : Nat)], .int .u8 fl]) ∧ Below w.heap.size w w')) ∨ (Box (∀ w, Calls Tryz.prog 41 #[.int .u8 f, .agg #[.int .u64 (x2 : Nat), .int .u64 (y2 : Nat)]] w fun r w' => r = .returned (.bool false) ∧ Below w.heap.size w w') ∧ Box ((Box (∀ w, Calls Tryz.prog 41 #[.int .u8 f, .agg #[.int .u64 (x3 : Nat), .int .u64 (y3 : Nat)]] w fun r w' => r = .returned (.bool true) ∧ Below w.heap.size w w') ∧ Box (∀ (T : TypeId) (g : Nat) (w : World), w.heap[g]? = some (.cells #[.int .u64 (x1 : Nat), .int .u64 (y1 : Nat), .int .u64 (x2 : Nat), .int .u64 (y2 : Nat), .int .u64 (x3 : Nat), .int .u64 (y3 : Nat)] T) → Calls Tryz.prog 42 #[.int .u8 f, .slice (some ⟨g, 0, none⟩) 3 3] w fun r w' => r = .returned (.tuple #[.agg #[.int .u64 (u : Nat), .int .u64 (v : Nat)], .int .u8 fl]) ∧ Below w.heap.size w w')) ∨ (Box (∀ w, Calls Tryz.prog 41 #[.int .u8 f, .agg #[.int .u64 (x3 : Nat), .int .u64 (y3 : Nat)]] w fun r w' => r = .returned (.bool false) ∧ Below w.heap.size w w') ∧ Box (∀ w, Calls Tryz.prog 43 #[.int .u8 f, .agg #[.int .u64 (x1 : Nat), .int .u64 (y1 : Nat)]] w fun r w' => r = .returned (.bool s1) ∧ Below w.heap.size w w') ∧ Box (∀ w, Calls Tryz.prog 43 #[.int .u8 f, .agg #[.int .u64 (x2 : Nat), .int .u64 (y2 : Nat)]] w fun r w' => r = .returned (.bool s2) ∧ Below w.heap.size w w') ∧ Box ((Box (∀ w, Calls Tryz.prog 31 #[.int .u8 f, .agg #[.int .u64 (x3 : Nat), .int .u64 (y3 : Nat)]] w fun r w' => r = .returned (.bool true) ∧ Below w.heap.size w w') ∧ Box (∀ w, Calls Tryz.prog 43 #[.int .u8 f, .agg #[.int .u64 (x3 : Nat), .int .u64 (y3 : Nat)]] w fun r w' => r = .returned (.bool s3) ∧ Below w.heap.size w w') ∧ (!(s3 == neg)) = true ∧ Box (∀ w, Calls Tryz.prog 45 #[.int .u8 f] w fun r w' => r = .returned (.agg #[.int .u64 (u : Nat), .int .u64 (v : Nat)]) ∧ Below w.heap.size w w') ∧ fl = 16) ∨ (Box (∀ w, Calls Tryz.prog 31 #[.int .u8 f, .agg #[.int .u64 (x3 : Nat), .int .u64 (y3 : Nat)]] w fun r w' => r = .returned (.bool true) ∧ Below w.heap.size w w') ∧ Box (∀ w, Calls Tryz.prog 43 #[.int .u8 f, .agg #[.int .u64 (x3 : Nat), .int .u64 (y3 : Nat)]] w fun r w' => r = .returned (.bool s3) ∧ Below w.heap.size w w') ∧ (!(s3 == neg)) = false ∧ Box (∀ w, Calls Tryz.prog 46 #[.int .u8 f, .bool neg] w fun r w' => r = .returned (.agg #[.int .u64 (u : Nat), .int .u64 (v : Nat)]) ∧ Below w.heap.size w w') ∧ fl = 0) ∨ (Box (∀ w, Calls Tryz.prog 31 #[.int .u8 f, .agg #[.int .u64 (x3 : Nat), .int .u64 (y3 : Nat)]] w fun r w' => r = .returned (.bool false) ∧ Below w.heap.size w w') ∧ Box (∀ w, Calls Tryz.prog 46 #[.int .u8 f, .bool neg] w fun r w' => r = .returned (.agg #[.int .u64 (u : Nat), .int .u64 (v : Nat)]) ∧ Below w.heap.size w w') ∧ fl = 0)))))))))
    : Calls Tryz.prog 13 #[.int .u8 f, .int .u8 m, .agg #[.int .u64 (x1 : Nat), .int .u64 (y1 : Nat)], .agg #[.int .u64 (x2 : Nat), .int .u64 (y2 : Nat)], .agg #[.int .u64 (x3 : Nat), .int .u64 (y3 : Nat)]] w fun r w' => r = .returned (.tuple #[.agg #[.int .u64 (u : Nat), .int .u64 (v : Nat)], .int .u8 fl, .int .i64 0]) ∧ Below w.heap.size w w' := by
  have Ra_0 : (((((w.alloc (Obj.cells #[.int .u64 (x1 : Nat), .int .u64 (y1 : Nat)] 26)).alloc (Obj.cells #[.int .u64 (x2 : Nat), .int .u64 (y2 : Nat)] 26)).alloc (Obj.cells #[.int .u64 (x3 : Nat), .int .u64 (y3 : Nat)] 26)).alloc (Obj.cells #[.int .u64 0, .int .u64 0] 26)).alloc (Obj.cells #[.int .u64 (x1 : Nat), .int .u64 (y1 : Nat), .int .u64 (x2 : Nat), .int .u64 (y2 : Nat), .int .u64 (x3 : Nat), .int .u64 (y3 : Nat)] 26)).heap[w.heap.size]? = some (Obj.cells #[.int .u64 (x1 : Nat), .int .u64 (y1 : Nat)] 26) := by rw [heap_below _ _ _ (by simp only [size_al]; omega), heap_below _ _ _ (by simp only [size_al]; omega), heap_below _ _ _ (by simp only [size_al]; omega), heap_below _ _ _ (by simp only [size_al]; omega)]; have := heap_alloc_last w (Obj.cells #[.int .u64 (x1 : Nat), .int .u64 (y1 : Nat)] 26); simpa only [size_al] using this
  have Rb_0 : (((((w.alloc (Obj.cells #[.int .u64 (x1 : Nat), .int .u64 (y1 : Nat)] 26)).alloc (Obj.cells #[.int .u64 (x2 : Nat), .int .u64 (y2 : Nat)] 26)).alloc (Obj.cells #[.int .u64 (x3 : Nat), .int .u64 (y3 : Nat)] 26)).alloc (Obj.cells #[.int .u64 0, .int .u64 0] 26)).alloc (Obj.cells #[.int .u64 (x1 : Nat), .int .u64 (y1 : Nat), .int .u64 (x2 : Nat), .int .u64 (y2 : Nat), .int .u64 (x3 : Nat), .int .u64 (y3 : Nat)] 26)).heap[w.heap.size + 1]? = some (Obj.cells #[.int .u64 (x2 : Nat), .int .u64 (y2 : Nat)] 26) := by rw [heap_below _ _ _ (by simp only [size_al]; omega), heap_below _ _ _ (by simp only [size_al]; omega), heap_below _ _ _ (by simp only [size_al]; omega)]; have := heap_alloc_last (w.alloc (Obj.cells #[.int .u64 (x1 : Nat), .int .u64 (y1 : Nat)] 26)) (Obj.cells #[.int .u64 (x2 : Nat), .int .u64 (y2 : Nat)] 26); simpa only [size_al] using this
  have Rc_0 : (((((w.alloc (Obj.cells #[.int .u64 (x1 : Nat), .int .u64 (y1 : Nat)] 26)).alloc (Obj.cells #[.int .u64 (x2 : Nat), .int .u64 (y2 : Nat)] 26)).alloc (Obj.cells #[.int .u64 (x3 : Nat), .int .u64 (y3 : Nat)] 26)).alloc (Obj.cells #[.int .u64 0, .int .u64 0] 26)).alloc (Obj.cells #[.int .u64 (x1 : Nat), .int .u64 (y1 : Nat), .int .u64 (x2 : Nat), .int .u64 (y2 : Nat), .int .u64 (x3 : Nat), .int .u64 (y3 : Nat)] 26)).heap[w.heap.size + 1 + 1]? = some (Obj.cells #[.int .u64 (x3 : Nat), .int .u64 (y3 : Nat)] 26) := by rw [heap_below _ _ _ (by simp only [size_al]; omega), heap_below _ _ _ (by simp only [size_al]; omega)]; have := heap_alloc_last ((w.alloc (Obj.cells #[.int .u64 (x1 : Nat), .int .u64 (y1 : Nat)] 26)).alloc (Obj.cells #[.int .u64 (x2 : Nat), .int .u64 (y2 : Nat)] 26)) (Obj.cells #[.int .u64 (x3 : Nat), .int .u64 (y3 : Nat)] 26); simpa only [size_al] using this
  have Rz_0 : (((((w.alloc (Obj.cells #[.int .u64 (x1 : Nat), .int .u64 (y1 : Nat)] 26)).alloc (Obj.cells #[.int .u64 (x2 : Nat), .int .u64 (y2 : Nat)] 26)).alloc (Obj.cells #[.int .u64 (x3 : Nat), .int .u64 (y3 : Nat)] 26)).alloc (Obj.cells #[.int .u64 0, .int .u64 0] 26)).alloc (Obj.cells #[.int .u64 (x1 : Nat), .int .u64 (y1 : Nat), .int .u64 (x2 : Nat), .int .u64 (y2 : Nat), .int .u64 (x3 : Nat), .int .u64 (y3 : Nat)] 26)).heap[w.heap.size + 1 + 1 + 1]? = some (Obj.cells #[.int .u64 0, .int .u64 0] 26) := by rw [heap_below _ _ _ (by simp only [size_al]; omega)]; have := heap_alloc_last (((w.alloc (Obj.cells #[.int .u64 (x1 : Nat), .int .u64 (y1 : Nat)] 26)).alloc (Obj.cells #[.int .u64 (x2 : Nat), .int .u64 (y2 : Nat)] 26)).alloc (Obj.cells #[.int .u64 (x3 : Nat), .int .u64 (y3 : Nat)] 26)) (Obj.cells #[.int .u64 0, .int .u64 0] 26); simpa only [size_al] using this
  have Rl_0 : (((((w.alloc (Obj.cells #[.int .u64 (x1 : Nat), .int .u64 (y1 : Nat)] 26)).alloc (Obj.cells #[.int .u64 (x2 : Nat), .int .u64 (y2 : Nat)] 26)).alloc (Obj.cells #[.int .u64 (x3 : Nat), .int .u64 (y3 : Nat)] 26)).alloc (Obj.cells #[.int .u64 0, .int .u64 0] 26)).alloc (Obj.cells #[.int .u64 (x1 : Nat), .int .u64 (y1 : Nat), .int .u64 (x2 : Nat), .int .u64 (y2 : Nat), .int .u64 (x3 : Nat), .int .u64 (y3 : Nat)] 26)).heap[w.heap.size + 1 + 1 + 1 + 1]? = some (Obj.cells #[.int .u64 (x1 : Nat), .int .u64 (y1 : Nat), .int .u64 (x2 : Nat), .int .u64 (y2 : Nat), .int .u64 (x3 : Nat), .int .u64 (y3 : Nat)] 26) := by have := heap_alloc_last ((((w.alloc (Obj.cells #[.int .u64 (x1 : Nat), .int .u64 (y1 : Nat)] 26)).alloc (Obj.cells #[.int .u64 (x2 : Nat), .int .u64 (y2 : Nat)] 26)).alloc (Obj.cells #[.int .u64 (x3 : Nat), .int .u64 (y3 : Nat)] 26)).alloc (Obj.cells #[.int .u64 0, .int .u64 0] 26)) (Obj.cells #[.int .u64 (x1 : Nat), .int .u64 (y1 : Nat), .int .u64 (x2 : Nat), .int .u64 (y2 : Nat), .int .u64 (x3 : Nat), .int .u64 (y3 : Nat)] 26); simpa only [size_al] using this
  have B0 : Below w.heap.size w (((((w.alloc (Obj.cells #[.int .u64 (x1 : Nat), .int .u64 (y1 : Nat)] 26)).alloc (Obj.cells #[.int .u64 (x2 : Nat), .int .u64 (y2 : Nat)] 26)).alloc (Obj.cells #[.int .u64 (x3 : Nat), .int .u64 (y3 : Nat)] 26)).alloc (Obj.cells #[.int .u64 0, .int .u64 0] 26)).alloc (Obj.cells #[.int .u64 (x1 : Nat), .int .u64 (y1 : Nat), .int .u64 (x2 : Nat), .int .u64 (y2 : Nat), .int .u64 (x3 : Nat), .int .u64 (y3 : Nat)] 26)) := ((((((Below.refl _ _).alloc (by first | omega | (simp only [size_al]; omega)) _).alloc (by first | omega | (simp only [size_al]; omega)) _).alloc (by first | omega | (simp only [size_al]; omega)) _).alloc (by first | omega | (simp only [size_al]; omega)) _).alloc (by first | omega | (simp only [size_al]; omega)) _)
  go_enter Tryz.func13, Tryz.ntmps13
  obtain ⟨ca_0_0, ca_0_1⟩ := cells2s Ra_0
  obtain ⟨cb_0_0, cb_0_1⟩ := cells2s Rb_0
  obtain ⟨cc_0_0, cc_0_1⟩ := cells2s Rc_0
  go_wp2_with fail
  refine (KF.out _ _ _ (by assumption)).mono ?_
  rintro r w1 ⟨rfl, b1⟩
  have B1 : Below w.heap.size w w1 := btr B0 b1
  have Ra_1 := heap_of b1 _ _ _ Ra_0
  have Rb_1 := heap_of b1 _ _ _ Rb_0
  have Rc_1 := heap_of b1 _ _ _ Rc_0
  have Rz_1 := heap_of b1 _ _ _ Rz_0
  have Rl_1 := heap_of b1 _ _ _ Rl_0
  clear b1 B0 Ra_0 ca_0_0 ca_0_1 Rb_0 cb_0_0 cb_0_1 Rc_0 cc_0_0 cc_0_1 Rz_0 Rl_0
  obtain ⟨ca_1_0, ca_1_1⟩ := cells2s Ra_1
  obtain ⟨cb_1_0, cb_1_1⟩ := cells2s Rb_1
  obtain ⟨cc_1_0, cc_1_1⟩ := cells2s Rc_1
  rcases H2.out with KI1 | ⟨KI1, KI2⟩
  case' inl =>
    go_wp2_with fail
    refine (KI1.out _).mono ?_
    rintro r w2 ⟨rfl, b2⟩
    have B2 : Below w.heap.size w w2 := btr B1 b2
    have Ra_2 := heap_of b2 _ _ _ Ra_1
    have Rb_2 := heap_of b2 _ _ _ Rb_1
    have Rc_2 := heap_of b2 _ _ _ Rc_1
    have Rz_2 := heap_of b2 _ _ _ Rz_1
    have Rl_2 := heap_of b2 _ _ _ Rl_1
    clear b2 B1 Ra_1 ca_1_0 ca_1_1 Rb_1 cb_1_0 cb_1_1 Rc_1 cc_1_0 cc_1_1 Rz_1 Rl_1
    obtain ⟨ca_2_0, ca_2_1⟩ := cells2s Ra_2
    obtain ⟨cb_2_0, cb_2_1⟩ := cells2s Rb_2
    obtain ⟨cc_2_0, cc_2_1⟩ := cells2s Rc_2
    obtain ⟨w3, hw⟩ : ∃ W, W = w2 := ⟨_, rfl⟩
    subst hw
    have B3 := B2
    have Ra_3 := Ra_2
    have Rb_3 := Rb_2
    have Rc_3 := Rc_2
    have Rz_3 := Rz_2
    have Rl_3 := Rl_2
    clear B2 Ra_2 ca_2_0 ca_2_1 Rb_2 cb_2_0 cb_2_1 Rc_2 cc_2_0 cc_2_1 Rz_2 Rl_2
    obtain ⟨ca_3_0, ca_3_1⟩ := cells2s Ra_3
    obtain ⟨cb_3_0, cb_3_1⟩ := cells2s Rb_3
    obtain ⟨cc_3_0, cc_3_1⟩ := cells2s Rc_3
  case' inr =>
    go_wp2_with fail
    refine (KI1.out _).mono ?_
    rintro r w2 ⟨rfl, b2⟩
    have B2 : Below w.heap.size w w2 := btr B1 b2
    have Ra_2 := heap_of b2 _ _ _ Ra_1
    have Rb_2 := heap_of b2 _ _ _ Rb_1
    have Rc_2 := heap_of b2 _ _ _ Rc_1
    have Rz_2 := heap_of b2 _ _ _ Rz_1
    have Rl_2 := heap_of b2 _ _ _ Rl_1
    clear b2 B1 Ra_1 ca_1_0 ca_1_1 Rb_1 cb_1_0 cb_1_1 Rc_1 cc_1_0 cc_1_1 Rz_1 Rl_1
    obtain ⟨ca_2_0, ca_2_1⟩ := cells2s Ra_2
    obtain ⟨cb_2_0, cb_2_1⟩ := cells2s Rb_2
    obtain ⟨cc_2_0, cc_2_1⟩ := cells2s Rc_2
    go_wp2_with fail
    refine (KI2.out _).mono ?_
    rintro r w3 ⟨rfl, b3⟩
    have B3 : Below w.heap.size w w3 := btr B2 b3
    have Ra_3 := heap_of b3 _ _ _ Ra_2
    have Rb_3 := heap_of b3 _ _ _ Rb_2
    have Rc_3 := heap_of b3 _ _ _ Rc_2
    have Rz_3 := heap_of b3 _ _ _ Rz_2
    have Rl_3 := heap_of b3 _ _ _ Rl_2
    clear b3 B2 Ra_2 ca_2_0 ca_2_1 Rb_2 cb_2_0 cb_2_1 Rc_2 cc_2_0 cc_2_1 Rz_2 Rl_2
    obtain ⟨ca_3_0, ca_3_1⟩ := cells2s Ra_3
    obtain ⟨cb_3_0, cb_3_1⟩ := cells2s Rb_3
    obtain ⟨cc_3_0, cc_3_1⟩ := cells2s Rc_3
  all_goals
    go_wp2_with fail
    refine (KZ1.out _).mono ?_
    rintro r w4 ⟨rfl, b4⟩
    have B4 : Below w.heap.size w w4 := btr B3 b4
    have Ra_4 := heap_of b4 _ _ _ Ra_3
    have Rb_4 := heap_of b4 _ _ _ Rb_3
    have Rc_4 := heap_of b4 _ _ _ Rc_3
    have Rz_4 := heap_of b4 _ _ _ Rz_3
    have Rl_4 := heap_of b4 _ _ _ Rl_3
    clear b4 B3 Ra_3 ca_3_0 ca_3_1 Rb_3 cb_3_0 cb_3_1 Rc_3 cc_3_0 cc_3_1 Rz_3 Rl_3
    obtain ⟨ca_4_0, ca_4_1⟩ := cells2s Ra_4
    obtain ⟨cb_4_0, cb_4_1⟩ := cells2s Rb_4
    obtain ⟨cc_4_0, cc_4_1⟩ := cells2s Rc_4
    go_wp2_with fail
    refine (KZ2.out _).mono ?_
    rintro r w5 ⟨rfl, b5⟩
    have B5 : Below w.heap.size w w5 := btr B4 b5
    have Ra_5 := heap_of b5 _ _ _ Ra_4
    have Rb_5 := heap_of b5 _ _ _ Rb_4
    have Rc_5 := heap_of b5 _ _ _ Rc_4
    have Rz_5 := heap_of b5 _ _ _ Rz_4
    have Rl_5 := heap_of b5 _ _ _ Rl_4
    clear b5 B4 Ra_4 ca_4_0 ca_4_1 Rb_4 cb_4_0 cb_4_1 Rc_4 cc_4_0 cc_4_1 Rz_4 Rl_4
    obtain ⟨ca_5_0, ca_5_1⟩ := cells2s Ra_5
    obtain ⟨cb_5_0, cb_5_1⟩ := cells2s Rb_5
    obtain ⟨cc_5_0, cc_5_1⟩ := cells2s Rc_5
    rcases H.out with ⟨KN1, KC⟩ | ⟨KN1, Hb⟩
    · clear H
      go_wp2_with fail
      refine (KN1.out _).mono ?_
      rintro r w6 ⟨rfl, b6⟩
      have B6 : Below w.heap.size w w6 := btr B5 b6
      have Ra_6 := heap_of b6 _ _ _ Ra_5
      have Rb_6 := heap_of b6 _ _ _ Rb_5
      have Rc_6 := heap_of b6 _ _ _ Rc_5
      have Rz_6 := heap_of b6 _ _ _ Rz_5
      have Rl_6 := heap_of b6 _ _ _ Rl_5
      clear b6 B5 Ra_5 ca_5_0 ca_5_1 Rb_5 cb_5_0 cb_5_1 Rc_5 cc_5_0 cc_5_1 Rz_5 Rl_5
      obtain ⟨ca_6_0, ca_6_1⟩ := cells2s Ra_6
      obtain ⟨cb_6_0, cb_6_1⟩ := cells2s Rb_6
      obtain ⟨cc_6_0, cc_6_1⟩ := cells2s Rc_6
      go_wp2_with fail
      refine (KC.out _ _ _ (by assumption)).mono ?_
      rintro r w7 ⟨rfl, b7⟩
      have B7 : Below w.heap.size w w7 := btr B6 b7
      have Ra_7 := heap_of b7 _ _ _ Ra_6
      have Rb_7 := heap_of b7 _ _ _ Rb_6
      have Rc_7 := heap_of b7 _ _ _ Rc_6
      have Rz_7 := heap_of b7 _ _ _ Rz_6
      have Rl_7 := heap_of b7 _ _ _ Rl_6
      clear b7 B6 Ra_6 ca_6_0 ca_6_1 Rb_6 cb_6_0 cb_6_1 Rc_6 cc_6_0 cc_6_1 Rz_6 Rl_6
      obtain ⟨ca_7_0, ca_7_1⟩ := cells2s Ra_7
      obtain ⟨cb_7_0, cb_7_1⟩ := cells2s Rb_7
      obtain ⟨cc_7_0, cc_7_1⟩ := cells2s Rc_7
      have S8 := box B7.size
      have La_8 : Box (w.heap.size < w7.heap.size) := box (Array.getElem?_eq_some_iff.1 Ra_7).1
      have Lb_8 : Box (w.heap.size + 1 < w7.heap.size) := box (Array.getElem?_eq_some_iff.1 Rb_7).1
      have Lc_8 : Box (w.heap.size + 1 + 1 < w7.heap.size) := box (Array.getElem?_eq_some_iff.1 Rc_7).1
      have Lz_8 : Box (w.heap.size + 1 + 1 + 1 < w7.heap.size) := box (Array.getElem?_eq_some_iff.1 Rz_7).1
      have Ll_8 : Box (w.heap.size + 1 + 1 + 1 + 1 < w7.heap.size) := box (Array.getElem?_eq_some_iff.1 Rl_7).1
      have Rq_8 := heap_alloc_last w7 (Obj.cells #[.int .u64 (u : Nat), .int .u64 (v : Nat)] 26)
      have B8 := btr B7 (bal w7 (Obj.cells #[.int .u64 (u : Nat), .int .u64 (v : Nat)] 26))
      have Ra_8 := heap_of (bal w7 (Obj.cells #[.int .u64 (u : Nat), .int .u64 (v : Nat)] 26)) _ _ _ Ra_7
      have Rb_8 := heap_of (bal w7 (Obj.cells #[.int .u64 (u : Nat), .int .u64 (v : Nat)] 26)) _ _ _ Rb_7
      have Rc_8 := heap_of (bal w7 (Obj.cells #[.int .u64 (u : Nat), .int .u64 (v : Nat)] 26)) _ _ _ Rc_7
      have Rz_8 := heap_of (bal w7 (Obj.cells #[.int .u64 (u : Nat), .int .u64 (v : Nat)] 26)) _ _ _ Rz_7
      have Rl_8 := heap_of (bal w7 (Obj.cells #[.int .u64 (u : Nat), .int .u64 (v : Nat)] 26)) _ _ _ Rl_7
      clear B7 Ra_7 ca_7_0 ca_7_1 Rb_7 cb_7_0 cb_7_1 Rc_7 cc_7_0 cc_7_1 Rz_7 Rl_7
      obtain ⟨ca_8_0, ca_8_1⟩ := cells2s Ra_8
      obtain ⟨cb_8_0, cb_8_1⟩ := cells2s Rb_8
      obtain ⟨cc_8_0, cc_8_1⟩ := cells2s Rc_8
      obtain ⟨cq_8_0, cq_8_1⟩ := cells2s Rq_8
      obtain ⟨cz_8_0, cz_8_1⟩ := cells2s Rz_8
      have q0 := fz (k := 0) Rz_8
      have q1 := fz (k := 1) Rz_8
      obtain ⟨E0, E1⟩ := set2_cells Rz_8 (.int .u64 (u : Nat)) (.int .u64 (v : Nat))
      go_wp2
      exact bodyPost_ret (v := .tuple #[.agg #[.int .u64 (u : Nat), .int .u64 (v : Nat)], .int .u8 fl, .int .i64 0]) (by simp [results, Tryz.results13, go_sem, E0, E1]) rfl ⟨rfl, set2_below B8 (by first | exact Nat.le_refl _ | omega | (have := S8.out; have := La_8.out; have := Lb_8.out; have := Lc_8.out; have := Lz_8.out; have := Ll_8.out; omega)) _ _⟩
    · clear H
      go_wp2_with fail
      refine (KN1.out _).mono ?_
      rintro r w6 ⟨rfl, b6⟩
      have B6 : Below w.heap.size w w6 := btr B5 b6
      have Ra_6 := heap_of b6 _ _ _ Ra_5
      have Rb_6 := heap_of b6 _ _ _ Rb_5
      have Rc_6 := heap_of b6 _ _ _ Rc_5
      have Rz_6 := heap_of b6 _ _ _ Rz_5
      have Rl_6 := heap_of b6 _ _ _ Rl_5
      clear b6 B5 Ra_5 ca_5_0 ca_5_1 Rb_5 cb_5_0 cb_5_1 Rc_5 cc_5_0 cc_5_1 Rz_5 Rl_5
      obtain ⟨ca_6_0, ca_6_1⟩ := cells2s Ra_6
      obtain ⟨cb_6_0, cb_6_1⟩ := cells2s Rb_6
      obtain ⟨cc_6_0, cc_6_1⟩ := cells2s Rc_6
      rcases Hb.out with ⟨KN2, KC⟩ | ⟨KN2, Hbb⟩
      · clear Hb
        go_wp2_with fail
        refine (KN2.out _).mono ?_
        rintro r w7 ⟨rfl, b7⟩
        have B7 : Below w.heap.size w w7 := btr B6 b7
        have Ra_7 := heap_of b7 _ _ _ Ra_6
        have Rb_7 := heap_of b7 _ _ _ Rb_6
        have Rc_7 := heap_of b7 _ _ _ Rc_6
        have Rz_7 := heap_of b7 _ _ _ Rz_6
        have Rl_7 := heap_of b7 _ _ _ Rl_6
        clear b7 B6 Ra_6 ca_6_0 ca_6_1 Rb_6 cb_6_0 cb_6_1 Rc_6 cc_6_0 cc_6_1 Rz_6 Rl_6
        obtain ⟨ca_7_0, ca_7_1⟩ := cells2s Ra_7
        obtain ⟨cb_7_0, cb_7_1⟩ := cells2s Rb_7
        obtain ⟨cc_7_0, cc_7_1⟩ := cells2s Rc_7
        go_wp2_with fail
        refine (KC.out _ _ _ (by assumption)).mono ?_
        rintro r w8 ⟨rfl, b8⟩
        have B8 : Below w.heap.size w w8 := btr B7 b8
        have Ra_8 := heap_of b8 _ _ _ Ra_7
        have Rb_8 := heap_of b8 _ _ _ Rb_7
        have Rc_8 := heap_of b8 _ _ _ Rc_7
        have Rz_8 := heap_of b8 _ _ _ Rz_7
        have Rl_8 := heap_of b8 _ _ _ Rl_7
        clear b8 B7 Ra_7 ca_7_0 ca_7_1 Rb_7 cb_7_0 cb_7_1 Rc_7 cc_7_0 cc_7_1 Rz_7 Rl_7
        obtain ⟨ca_8_0, ca_8_1⟩ := cells2s Ra_8
        obtain ⟨cb_8_0, cb_8_1⟩ := cells2s Rb_8
        obtain ⟨cc_8_0, cc_8_1⟩ := cells2s Rc_8
        have S9 := box B8.size
        have La_9 : Box (w.heap.size < w8.heap.size) := box (Array.getElem?_eq_some_iff.1 Ra_8).1
        have Lb_9 : Box (w.heap.size + 1 < w8.heap.size) := box (Array.getElem?_eq_some_iff.1 Rb_8).1
        have Lc_9 : Box (w.heap.size + 1 + 1 < w8.heap.size) := box (Array.getElem?_eq_some_iff.1 Rc_8).1
        have Lz_9 : Box (w.heap.size + 1 + 1 + 1 < w8.heap.size) := box (Array.getElem?_eq_some_iff.1 Rz_8).1
        have Ll_9 : Box (w.heap.size + 1 + 1 + 1 + 1 < w8.heap.size) := box (Array.getElem?_eq_some_iff.1 Rl_8).1
        have Rq_9 := heap_alloc_last w8 (Obj.cells #[.int .u64 (u : Nat), .int .u64 (v : Nat)] 26)
        have B9 := btr B8 (bal w8 (Obj.cells #[.int .u64 (u : Nat), .int .u64 (v : Nat)] 26))
        have Ra_9 := heap_of (bal w8 (Obj.cells #[.int .u64 (u : Nat), .int .u64 (v : Nat)] 26)) _ _ _ Ra_8
        have Rb_9 := heap_of (bal w8 (Obj.cells #[.int .u64 (u : Nat), .int .u64 (v : Nat)] 26)) _ _ _ Rb_8
        have Rc_9 := heap_of (bal w8 (Obj.cells #[.int .u64 (u : Nat), .int .u64 (v : Nat)] 26)) _ _ _ Rc_8
        have Rz_9 := heap_of (bal w8 (Obj.cells #[.int .u64 (u : Nat), .int .u64 (v : Nat)] 26)) _ _ _ Rz_8
        have Rl_9 := heap_of (bal w8 (Obj.cells #[.int .u64 (u : Nat), .int .u64 (v : Nat)] 26)) _ _ _ Rl_8
        clear B8 Ra_8 ca_8_0 ca_8_1 Rb_8 cb_8_0 cb_8_1 Rc_8 cc_8_0 cc_8_1 Rz_8 Rl_8
        obtain ⟨ca_9_0, ca_9_1⟩ := cells2s Ra_9
        obtain ⟨cb_9_0, cb_9_1⟩ := cells2s Rb_9
        obtain ⟨cc_9_0, cc_9_1⟩ := cells2s Rc_9
        obtain ⟨cq_9_0, cq_9_1⟩ := cells2s Rq_9
        obtain ⟨cz_9_0, cz_9_1⟩ := cells2s Rz_9
        have q0 := fz (k := 0) Rz_9
        have q1 := fz (k := 1) Rz_9
        obtain ⟨E0, E1⟩ := set2_cells Rz_9 (.int .u64 (u : Nat)) (.int .u64 (v : Nat))
        go_wp2
        exact bodyPost_ret (v := .tuple #[.agg #[.int .u64 (u : Nat), .int .u64 (v : Nat)], .int .u8 fl, .int .i64 0]) (by simp [results, Tryz.results13, go_sem, E0, E1]) rfl ⟨rfl, set2_below B9 (by first | exact Nat.le_refl _ | omega | (have := S9.out; have := La_9.out; have := Lb_9.out; have := Lc_9.out; have := Lz_9.out; have := Ll_9.out; omega)) _ _⟩
      · clear Hb
        go_wp2_with fail
        refine (KN2.out _).mono ?_
        rintro r w7 ⟨rfl, b7⟩
        have B7 : Below w.heap.size w w7 := btr B6 b7
        have Ra_7 := heap_of b7 _ _ _ Ra_6
        have Rb_7 := heap_of b7 _ _ _ Rb_6
        have Rc_7 := heap_of b7 _ _ _ Rc_6
        have Rz_7 := heap_of b7 _ _ _ Rz_6
        have Rl_7 := heap_of b7 _ _ _ Rl_6
        clear b7 B6 Ra_6 ca_6_0 ca_6_1 Rb_6 cb_6_0 cb_6_1 Rc_6 cc_6_0 cc_6_1 Rz_6 Rl_6
        obtain ⟨ca_7_0, ca_7_1⟩ := cells2s Ra_7
        obtain ⟨cb_7_0, cb_7_1⟩ := cells2s Rb_7
        obtain ⟨cc_7_0, cc_7_1⟩ := cells2s Rc_7
        rcases Hbb.out with ⟨KN3, KC⟩ | ⟨KN3, KS1, KS2, Hbbb⟩
        · clear Hbb
          go_wp2_with fail
          refine (KN3.out _).mono ?_
          rintro r w8 ⟨rfl, b8⟩
          have B8 : Below w.heap.size w w8 := btr B7 b8
          have Ra_8 := heap_of b8 _ _ _ Ra_7
          have Rb_8 := heap_of b8 _ _ _ Rb_7
          have Rc_8 := heap_of b8 _ _ _ Rc_7
          have Rz_8 := heap_of b8 _ _ _ Rz_7
          have Rl_8 := heap_of b8 _ _ _ Rl_7
          clear b8 B7 Ra_7 ca_7_0 ca_7_1 Rb_7 cb_7_0 cb_7_1 Rc_7 cc_7_0 cc_7_1 Rz_7 Rl_7
          obtain ⟨ca_8_0, ca_8_1⟩ := cells2s Ra_8
          obtain ⟨cb_8_0, cb_8_1⟩ := cells2s Rb_8
          obtain ⟨cc_8_0, cc_8_1⟩ := cells2s Rc_8
          go_wp2_with fail
          refine (KC.out _ _ _ (by assumption)).mono ?_
          rintro r w9 ⟨rfl, b9⟩
          have B9 : Below w.heap.size w w9 := btr B8 b9
          have Ra_9 := heap_of b9 _ _ _ Ra_8
          have Rb_9 := heap_of b9 _ _ _ Rb_8
          have Rc_9 := heap_of b9 _ _ _ Rc_8
          have Rz_9 := heap_of b9 _ _ _ Rz_8
          have Rl_9 := heap_of b9 _ _ _ Rl_8
          clear b9 B8 Ra_8 ca_8_0 ca_8_1 Rb_8 cb_8_0 cb_8_1 Rc_8 cc_8_0 cc_8_1 Rz_8 Rl_8
          obtain ⟨ca_9_0, ca_9_1⟩ := cells2s Ra_9
          obtain ⟨cb_9_0, cb_9_1⟩ := cells2s Rb_9
          obtain ⟨cc_9_0, cc_9_1⟩ := cells2s Rc_9
          have S10 := box B9.size
          have La_10 : Box (w.heap.size < w9.heap.size) := box (Array.getElem?_eq_some_iff.1 Ra_9).1
          have Lb_10 : Box (w.heap.size + 1 < w9.heap.size) := box (Array.getElem?_eq_some_iff.1 Rb_9).1
          have Lc_10 : Box (w.heap.size + 1 + 1 < w9.heap.size) := box (Array.getElem?_eq_some_iff.1 Rc_9).1
          have Lz_10 : Box (w.heap.size + 1 + 1 + 1 < w9.heap.size) := box (Array.getElem?_eq_some_iff.1 Rz_9).1
          have Ll_10 : Box (w.heap.size + 1 + 1 + 1 + 1 < w9.heap.size) := box (Array.getElem?_eq_some_iff.1 Rl_9).1
          have Rq_10 := heap_alloc_last w9 (Obj.cells #[.int .u64 (u : Nat), .int .u64 (v : Nat)] 26)
          have B10 := btr B9 (bal w9 (Obj.cells #[.int .u64 (u : Nat), .int .u64 (v : Nat)] 26))
          have Ra_10 := heap_of (bal w9 (Obj.cells #[.int .u64 (u : Nat), .int .u64 (v : Nat)] 26)) _ _ _ Ra_9
          have Rb_10 := heap_of (bal w9 (Obj.cells #[.int .u64 (u : Nat), .int .u64 (v : Nat)] 26)) _ _ _ Rb_9
          have Rc_10 := heap_of (bal w9 (Obj.cells #[.int .u64 (u : Nat), .int .u64 (v : Nat)] 26)) _ _ _ Rc_9
          have Rz_10 := heap_of (bal w9 (Obj.cells #[.int .u64 (u : Nat), .int .u64 (v : Nat)] 26)) _ _ _ Rz_9
          have Rl_10 := heap_of (bal w9 (Obj.cells #[.int .u64 (u : Nat), .int .u64 (v : Nat)] 26)) _ _ _ Rl_9
          clear B9 Ra_9 ca_9_0 ca_9_1 Rb_9 cb_9_0 cb_9_1 Rc_9 cc_9_0 cc_9_1 Rz_9 Rl_9
          obtain ⟨ca_10_0, ca_10_1⟩ := cells2s Ra_10
          obtain ⟨cb_10_0, cb_10_1⟩ := cells2s Rb_10
          obtain ⟨cc_10_0, cc_10_1⟩ := cells2s Rc_10
          obtain ⟨cq_10_0, cq_10_1⟩ := cells2s Rq_10
          obtain ⟨cz_10_0, cz_10_1⟩ := cells2s Rz_10
          have q0 := fz (k := 0) Rz_10
          have q1 := fz (k := 1) Rz_10
          obtain ⟨E0, E1⟩ := set2_cells Rz_10 (.int .u64 (u : Nat)) (.int .u64 (v : Nat))
          go_wp2
          exact bodyPost_ret (v := .tuple #[.agg #[.int .u64 (u : Nat), .int .u64 (v : Nat)], .int .u8 fl, .int .i64 0]) (by simp [results, Tryz.results13, go_sem, E0, E1]) rfl ⟨rfl, set2_below B10 (by first | exact Nat.le_refl _ | omega | (have := S10.out; have := La_10.out; have := Lb_10.out; have := Lc_10.out; have := Lz_10.out; have := Ll_10.out; omega)) _ _⟩
        · clear Hbb
          go_wp2_with fail
          refine (KN3.out _).mono ?_
          rintro r w8 ⟨rfl, b8⟩
          have B8 : Below w.heap.size w w8 := btr B7 b8
          have Ra_8 := heap_of b8 _ _ _ Ra_7
          have Rb_8 := heap_of b8 _ _ _ Rb_7
          have Rc_8 := heap_of b8 _ _ _ Rc_7
          have Rz_8 := heap_of b8 _ _ _ Rz_7
          have Rl_8 := heap_of b8 _ _ _ Rl_7
          clear b8 B7 Ra_7 ca_7_0 ca_7_1 Rb_7 cb_7_0 cb_7_1 Rc_7 cc_7_0 cc_7_1 Rz_7 Rl_7
          obtain ⟨ca_8_0, ca_8_1⟩ := cells2s Ra_8
          obtain ⟨cb_8_0, cb_8_1⟩ := cells2s Rb_8
          obtain ⟨cc_8_0, cc_8_1⟩ := cells2s Rc_8
          have sS : Box (∀ W W1 : World, (Below w.heap.size w W ∧ W.heap[w.heap.size]? = some (Obj.cells #[.int .u64 (x1 : Nat), .int .u64 (y1 : Nat)] 26) ∧ W.heap[w.heap.size + 1]? = some (Obj.cells #[.int .u64 (x2 : Nat), .int .u64 (y2 : Nat)] 26) ∧ W.heap[w.heap.size + 1 + 1]? = some (Obj.cells #[.int .u64 (x3 : Nat), .int .u64 (y3 : Nat)] 26) ∧ W.heap[w.heap.size + 1 + 1 + 1]? = some (Obj.cells #[.int .u64 0, .int .u64 0] 26) ∧ W.heap[w.heap.size + 1 + 1 + 1 + 1]? = some (Obj.cells #[.int .u64 (x1 : Nat), .int .u64 (y1 : Nat), .int .u64 (x2 : Nat), .int .u64 (y2 : Nat), .int .u64 (x3 : Nat), .int .u64 (y3 : Nat)] 26) ∧ W.cell? ⟨w.heap.size, 0, none⟩ = some (.int .u64 (x1 : Nat)) ∧ W.cell? ⟨w.heap.size, 1, none⟩ = some (.int .u64 (y1 : Nat)) ∧ W.cell? ⟨w.heap.size + 1, 0, none⟩ = some (.int .u64 (x2 : Nat)) ∧ W.cell? ⟨w.heap.size + 1, 1, none⟩ = some (.int .u64 (y2 : Nat))) → Below W.heap.size W W1 → (Below w.heap.size w W1 ∧ W1.heap[w.heap.size]? = some (Obj.cells #[.int .u64 (x1 : Nat), .int .u64 (y1 : Nat)] 26) ∧ W1.heap[w.heap.size + 1]? = some (Obj.cells #[.int .u64 (x2 : Nat), .int .u64 (y2 : Nat)] 26) ∧ W1.heap[w.heap.size + 1 + 1]? = some (Obj.cells #[.int .u64 (x3 : Nat), .int .u64 (y3 : Nat)] 26) ∧ W1.heap[w.heap.size + 1 + 1 + 1]? = some (Obj.cells #[.int .u64 0, .int .u64 0] 26) ∧ W1.heap[w.heap.size + 1 + 1 + 1 + 1]? = some (Obj.cells #[.int .u64 (x1 : Nat), .int .u64 (y1 : Nat), .int .u64 (x2 : Nat), .int .u64 (y2 : Nat), .int .u64 (x3 : Nat), .int .u64 (y3 : Nat)] 26) ∧ W1.cell? ⟨w.heap.size, 0, none⟩ = some (.int .u64 (x1 : Nat)) ∧ W1.cell? ⟨w.heap.size, 1, none⟩ = some (.int .u64 (y1 : Nat)) ∧ W1.cell? ⟨w.heap.size + 1, 0, none⟩ = some (.int .u64 (x2 : Nat)) ∧ W1.cell? ⟨w.heap.size + 1, 1, none⟩ = some (.int .u64 (y2 : Nat)))) := box (fun W W1 h b => ⟨btr h.1 b, heap_of b _ _ _ h.2.1, heap_of b _ _ _ h.2.2.1, heap_of b _ _ _ h.2.2.2.1, heap_of b _ _ _ h.2.2.2.2.1, heap_of b _ _ _ h.2.2.2.2.2.1, cell7 (heap_of b _ _ _ h.2.1) 0 _ rfl, cell7 (heap_of b _ _ _ h.2.1) 1 _ rfl, cell7 (heap_of b _ _ _ h.2.2.1) 0 _ rfl, cell7 (heap_of b _ _ _ h.2.2.1) 1 _ rfl⟩)
          have s0 : Below w.heap.size w (w8).drew ∧ (w8).drew.heap[w.heap.size]? = some (Obj.cells #[.int .u64 (x1 : Nat), .int .u64 (y1 : Nat)] 26) ∧ (w8).drew.heap[w.heap.size + 1]? = some (Obj.cells #[.int .u64 (x2 : Nat), .int .u64 (y2 : Nat)] 26) ∧ (w8).drew.heap[w.heap.size + 1 + 1]? = some (Obj.cells #[.int .u64 (x3 : Nat), .int .u64 (y3 : Nat)] 26) ∧ (w8).drew.heap[w.heap.size + 1 + 1 + 1]? = some (Obj.cells #[.int .u64 0, .int .u64 0] 26) ∧ (w8).drew.heap[w.heap.size + 1 + 1 + 1 + 1]? = some (Obj.cells #[.int .u64 (x1 : Nat), .int .u64 (y1 : Nat), .int .u64 (x2 : Nat), .int .u64 (y2 : Nat), .int .u64 (x3 : Nat), .int .u64 (y3 : Nat)] 26) ∧ (w8).drew.cell? ⟨w.heap.size, 0, none⟩ = some (.int .u64 (x1 : Nat)) ∧ (w8).drew.cell? ⟨w.heap.size, 1, none⟩ = some (.int .u64 (y1 : Nat)) ∧ (w8).drew.cell? ⟨w.heap.size + 1, 0, none⟩ = some (.int .u64 (x2 : Nat)) ∧ (w8).drew.cell? ⟨w.heap.size + 1, 1, none⟩ = some (.int .u64 (y2 : Nat)) := ⟨B8.drew, Ra_8, Rb_8, Rc_8, Rz_8, Rl_8, cell7 (Ra_8) 0 _ rfl, cell7 (Ra_8) 1 _ rfl, cell7 (Rb_8) 0 _ rfl, cell7 (Rb_8) 1 _ rfl⟩
          go_wp2_with fail
          go_region_held3 (fun W => Below w.heap.size w W ∧ W.heap[w.heap.size]? = some (Obj.cells #[.int .u64 (x1 : Nat), .int .u64 (y1 : Nat)] 26) ∧ W.heap[w.heap.size + 1]? = some (Obj.cells #[.int .u64 (x2 : Nat), .int .u64 (y2 : Nat)] 26) ∧ W.heap[w.heap.size + 1 + 1]? = some (Obj.cells #[.int .u64 (x3 : Nat), .int .u64 (y3 : Nat)] 26) ∧ W.heap[w.heap.size + 1 + 1 + 1]? = some (Obj.cells #[.int .u64 0, .int .u64 0] 26) ∧ W.heap[w.heap.size + 1 + 1 + 1 + 1]? = some (Obj.cells #[.int .u64 (x1 : Nat), .int .u64 (y1 : Nat), .int .u64 (x2 : Nat), .int .u64 (y2 : Nat), .int .u64 (x3 : Nat), .int .u64 (y3 : Nat)] 26) ∧ W.cell? ⟨w.heap.size, 0, none⟩ = some (.int .u64 (x1 : Nat)) ∧ W.cell? ⟨w.heap.size, 1, none⟩ = some (.int .u64 (y1 : Nat)) ∧ W.cell? ⟨w.heap.size + 1, 0, none⟩ = some (.int .u64 (x2 : Nat)) ∧ W.cell? ⟨w.heap.size + 1, 1, none⟩ = some (.int .u64 (y2 : Nat))) (first | exact s1 | exact s0)
            (first | (go_at_call_of 43 (Value.agg #[.int .u64 (x1 : Nat), .int .u64 (y1 : Nat)]); refine (KS1.out _).mono ?_; rintro r wq ⟨rfl, bq⟩; (first | have s1 := sS.out _ _ s1 bq | have s1 := sS.out _ _ s0 bq); clear bq) | (go_at_call_of 43 (Value.agg #[.int .u64 (x2 : Nat), .int .u64 (y2 : Nat)]); refine (KS2.out _).mono ?_; rintro r wq ⟨rfl, bq⟩; (first | have s1 := sS.out _ _ s1 bq | have s1 := sS.out _ _ s0 bq); clear bq) | fail)
          have B9 := (And.left s1)
          have Ra_9 := s1.2.1
          have Rb_9 := s1.2.2.1
          have Rc_9 := s1.2.2.2.1
          have Rz_9 := s1.2.2.2.2.1
          have Rl_9 := s1.2.2.2.2.2.1
          clear s0 s1 sS B8 Ra_8 ca_8_0 ca_8_1 Rb_8 cb_8_0 cb_8_1 Rc_8 cc_8_0 cc_8_1 Rz_8 Rl_8
          obtain ⟨ca_9_0, ca_9_1⟩ := cells2s Ra_9
          obtain ⟨cb_9_0, cb_9_1⟩ := cells2s Rb_9
          obtain ⟨cc_9_0, cc_9_1⟩ := cells2s Rc_9
          rcases Hbbb.out with ⟨KI3, KS3, h3, KR, rfl⟩ | ⟨KI3, KS3, h3, KR, rfl⟩ | ⟨KI3, KR, rfl⟩
          · clear Hbbb
            go_wp2_with fail
            refine (KI3.out _).mono ?_
            rintro r w10 ⟨rfl, b10⟩
            have B10 : Below w.heap.size w w10 := btr B9 b10
            have Ra_10 := heap_of b10 _ _ _ Ra_9
            have Rb_10 := heap_of b10 _ _ _ Rb_9
            have Rc_10 := heap_of b10 _ _ _ Rc_9
            have Rz_10 := heap_of b10 _ _ _ Rz_9
            have Rl_10 := heap_of b10 _ _ _ Rl_9
            clear b10 B9 Ra_9 ca_9_0 ca_9_1 Rb_9 cb_9_0 cb_9_1 Rc_9 cc_9_0 cc_9_1 Rz_9 Rl_9
            obtain ⟨ca_10_0, ca_10_1⟩ := cells2s Ra_10
            obtain ⟨cb_10_0, cb_10_1⟩ := cells2s Rb_10
            obtain ⟨cc_10_0, cc_10_1⟩ := cells2s Rc_10
            go_wp2_with fail
            refine (KS3.out _).mono ?_
            rintro r w11 ⟨rfl, b11⟩
            have B11 : Below w.heap.size w w11 := btr B10 b11
            have Ra_11 := heap_of b11 _ _ _ Ra_10
            have Rb_11 := heap_of b11 _ _ _ Rb_10
            have Rc_11 := heap_of b11 _ _ _ Rc_10
            have Rz_11 := heap_of b11 _ _ _ Rz_10
            have Rl_11 := heap_of b11 _ _ _ Rl_10
            clear b11 B10 Ra_10 ca_10_0 ca_10_1 Rb_10 cb_10_0 cb_10_1 Rc_10 cc_10_0 cc_10_1 Rz_10 Rl_10
            obtain ⟨ca_11_0, ca_11_1⟩ := cells2s Ra_11
            obtain ⟨cb_11_0, cb_11_1⟩ := cells2s Rb_11
            obtain ⟨cc_11_0, cc_11_1⟩ := cells2s Rc_11
            go_wp2_with fail
            refine (KR.out _).mono ?_
            rintro r w12 ⟨rfl, b12⟩
            have B12 : Below w.heap.size w w12 := btr B11 b12
            have Ra_12 := heap_of b12 _ _ _ Ra_11
            have Rb_12 := heap_of b12 _ _ _ Rb_11
            have Rc_12 := heap_of b12 _ _ _ Rc_11
            have Rz_12 := heap_of b12 _ _ _ Rz_11
            have Rl_12 := heap_of b12 _ _ _ Rl_11
            clear b12 B11 Ra_11 ca_11_0 ca_11_1 Rb_11 cb_11_0 cb_11_1 Rc_11 cc_11_0 cc_11_1 Rz_11 Rl_11
            obtain ⟨ca_12_0, ca_12_1⟩ := cells2s Ra_12
            obtain ⟨cb_12_0, cb_12_1⟩ := cells2s Rb_12
            obtain ⟨cc_12_0, cc_12_1⟩ := cells2s Rc_12
            obtain ⟨cz_12_0, cz_12_1⟩ := cells2s Rz_12
            have q0 := fz (k := 0) Rz_12
            have q1 := fz (k := 1) Rz_12
            obtain ⟨E0, E1⟩ := set2_cells Rz_12 (.int .u64 (u : Nat)) (.int .u64 (v : Nat))
            go_wp2
            exact bodyPost_ret (v := .tuple #[.agg #[.int .u64 (u : Nat), .int .u64 (v : Nat)], .int .u8 16, .int .i64 0]) (by simp [results, Tryz.results13, go_sem, E0, E1]) rfl ⟨rfl, set2_below B12 (by first | exact Nat.le_refl _ | omega | (skip; omega)) _ _⟩
          · clear Hbbb
            go_wp2_with fail
            refine (KI3.out _).mono ?_
            rintro r w10 ⟨rfl, b10⟩
            have B10 : Below w.heap.size w w10 := btr B9 b10
            have Ra_10 := heap_of b10 _ _ _ Ra_9
            have Rb_10 := heap_of b10 _ _ _ Rb_9
            have Rc_10 := heap_of b10 _ _ _ Rc_9
            have Rz_10 := heap_of b10 _ _ _ Rz_9
            have Rl_10 := heap_of b10 _ _ _ Rl_9
            clear b10 B9 Ra_9 ca_9_0 ca_9_1 Rb_9 cb_9_0 cb_9_1 Rc_9 cc_9_0 cc_9_1 Rz_9 Rl_9
            obtain ⟨ca_10_0, ca_10_1⟩ := cells2s Ra_10
            obtain ⟨cb_10_0, cb_10_1⟩ := cells2s Rb_10
            obtain ⟨cc_10_0, cc_10_1⟩ := cells2s Rc_10
            go_wp2_with fail
            refine (KS3.out _).mono ?_
            rintro r w11 ⟨rfl, b11⟩
            have B11 : Below w.heap.size w w11 := btr B10 b11
            have Ra_11 := heap_of b11 _ _ _ Ra_10
            have Rb_11 := heap_of b11 _ _ _ Rb_10
            have Rc_11 := heap_of b11 _ _ _ Rc_10
            have Rz_11 := heap_of b11 _ _ _ Rz_10
            have Rl_11 := heap_of b11 _ _ _ Rl_10
            clear b11 B10 Ra_10 ca_10_0 ca_10_1 Rb_10 cb_10_0 cb_10_1 Rc_10 cc_10_0 cc_10_1 Rz_10 Rl_10
            obtain ⟨ca_11_0, ca_11_1⟩ := cells2s Ra_11
            obtain ⟨cb_11_0, cb_11_1⟩ := cells2s Rb_11
            obtain ⟨cc_11_0, cc_11_1⟩ := cells2s Rc_11
            go_wp2_with fail
            refine (KR.out _).mono ?_
            rintro r w12 ⟨rfl, b12⟩
            have B12 : Below w.heap.size w w12 := btr B11 b12
            have Ra_12 := heap_of b12 _ _ _ Ra_11
            have Rb_12 := heap_of b12 _ _ _ Rb_11
            have Rc_12 := heap_of b12 _ _ _ Rc_11
            have Rz_12 := heap_of b12 _ _ _ Rz_11
            have Rl_12 := heap_of b12 _ _ _ Rl_11
            clear b12 B11 Ra_11 ca_11_0 ca_11_1 Rb_11 cb_11_0 cb_11_1 Rc_11 cc_11_0 cc_11_1 Rz_11 Rl_11
            obtain ⟨ca_12_0, ca_12_1⟩ := cells2s Ra_12
            obtain ⟨cb_12_0, cb_12_1⟩ := cells2s Rb_12
            obtain ⟨cc_12_0, cc_12_1⟩ := cells2s Rc_12
            obtain ⟨cz_12_0, cz_12_1⟩ := cells2s Rz_12
            have q0 := fz (k := 0) Rz_12
            have q1 := fz (k := 1) Rz_12
            obtain ⟨E0, E1⟩ := set2_cells Rz_12 (.int .u64 (u : Nat)) (.int .u64 (v : Nat))
            go_wp2
            exact bodyPost_ret (v := .tuple #[.agg #[.int .u64 (u : Nat), .int .u64 (v : Nat)], .int .u8 0, .int .i64 0]) (by simp [results, Tryz.results13, go_sem, E0, E1]) rfl ⟨rfl, set2_below B12 (by first | exact Nat.le_refl _ | omega | (skip; omega)) _ _⟩
          · clear Hbbb
            go_wp2_with fail
            refine (KI3.out _).mono ?_
            rintro r w10 ⟨rfl, b10⟩
            have B10 : Below w.heap.size w w10 := btr B9 b10
            have Ra_10 := heap_of b10 _ _ _ Ra_9
            have Rb_10 := heap_of b10 _ _ _ Rb_9
            have Rc_10 := heap_of b10 _ _ _ Rc_9
            have Rz_10 := heap_of b10 _ _ _ Rz_9
            have Rl_10 := heap_of b10 _ _ _ Rl_9
            clear b10 B9 Ra_9 ca_9_0 ca_9_1 Rb_9 cb_9_0 cb_9_1 Rc_9 cc_9_0 cc_9_1 Rz_9 Rl_9
            obtain ⟨ca_10_0, ca_10_1⟩ := cells2s Ra_10
            obtain ⟨cb_10_0, cb_10_1⟩ := cells2s Rb_10
            obtain ⟨cc_10_0, cc_10_1⟩ := cells2s Rc_10
            go_wp2_with fail
            refine (KR.out _).mono ?_
            rintro r w11 ⟨rfl, b11⟩
            have B11 : Below w.heap.size w w11 := btr B10 b11
            have Ra_11 := heap_of b11 _ _ _ Ra_10
            have Rb_11 := heap_of b11 _ _ _ Rb_10
            have Rc_11 := heap_of b11 _ _ _ Rc_10
            have Rz_11 := heap_of b11 _ _ _ Rz_10
            have Rl_11 := heap_of b11 _ _ _ Rl_10
            clear b11 B10 Ra_10 ca_10_0 ca_10_1 Rb_10 cb_10_0 cb_10_1 Rc_10 cc_10_0 cc_10_1 Rz_10 Rl_10
            obtain ⟨ca_11_0, ca_11_1⟩ := cells2s Ra_11
            obtain ⟨cb_11_0, cb_11_1⟩ := cells2s Rb_11
            obtain ⟨cc_11_0, cc_11_1⟩ := cells2s Rc_11
            obtain ⟨cz_11_0, cz_11_1⟩ := cells2s Rz_11
            have q0 := fz (k := 0) Rz_11
            have q1 := fz (k := 1) Rz_11
            obtain ⟨E0, E1⟩ := set2_cells Rz_11 (.int .u64 (u : Nat)) (.int .u64 (v : Nat))
            go_wp2
            exact bodyPost_ret (v := .tuple #[.agg #[.int .u64 (u : Nat), .int .u64 (v : Nat)], .int .u8 0, .int .i64 0]) (by simp [results, Tryz.results13, go_sem, E0, E1]) rfl ⟨rfl, set2_below B11 (by first | exact Nat.le_refl _ | omega | (skip; omega)) _ _⟩
set_option maxRecDepth 100000 in
set_option maxHeartbeats 8000000 in
theorem rfm_zero (f m : Int) (x1 y1 x2 y2 x3 y3 u v : Nat) (fl : Int) (s1 s2 s3 neg : Bool) (hng : (!(s1 == s2)) = neg) (b1 : Bool) (n1 d1 : ByteArray) (e1 : Int) (b2 : Bool) (n2 d2 : ByteArray) (e2 : Int) (b3 : Bool) (n3 d3 : ByteArray) (e3 : Int) (b4 : Bool) (n4 d4 : ByteArray) (e4 : Int) (b5 : Bool) (n5 d5 : ByteArray) (e5 : Int) (w : World)
    (KF : Box (∀ (T : TypeId) (g : Nat) (w : World), w.heap[g]? = some (.cells #[.int .u64 (x1 : Nat), .int .u64 (y1 : Nat), .int .u64 (x2 : Nat), .int .u64 (y2 : Nat), .int .u64 (x3 : Nat), .int .u64 (y3 : Nat)] T) → Calls Tryz.prog 40 #[.int .u8 f, .int .u8 m, .slice (some ⟨g, 0, none⟩) 3 3] w fun r w' => r = .returned (.bool true) ∧ Below w.heap.size w w'))
    (KI1 : Box (∀ w, Calls Tryz.prog 31 #[.int .u8 f, .agg #[.int .u64 (x1 : Nat), .int .u64 (y1 : Nat)]] w fun r w' => r = .returned (.bool false) ∧ Below w.heap.size w w'))
    (KI2 : Box (∀ w, Calls Tryz.prog 31 #[.int .u8 f, .agg #[.int .u64 (x2 : Nat), .int .u64 (y2 : Nat)]] w fun r w' => r = .returned (.bool false) ∧ Below w.heap.size w w'))
    (H2 : Box ((Box (∀ w, Calls Tryz.prog 44 #[.int .u8 f, .agg #[.int .u64 (x1 : Nat), .int .u64 (y1 : Nat)]] w fun r w' => r = .returned (.bool true) ∧ Below w.heap.size w w')) ∨ (Box (∀ w, Calls Tryz.prog 44 #[.int .u8 f, .agg #[.int .u64 (x1 : Nat), .int .u64 (y1 : Nat)]] w fun r w' => r = .returned (.bool false) ∧ Below w.heap.size w w') ∧ Box (∀ w, Calls Tryz.prog 44 #[.int .u8 f, .agg #[.int .u64 (x2 : Nat), .int .u64 (y2 : Nat)]] w fun r w' => r = .returned (.bool true) ∧ Below w.heap.size w w'))))
    (H : Box ((Box (∀ w, Calls Tryz.prog 41 #[.int .u8 f, .agg #[.int .u64 (x1 : Nat), .int .u64 (y1 : Nat)]] w fun r w' => r = .returned (.bool true) ∧ Below w.heap.size w w') ∧ Box (∀ (T : TypeId) (g : Nat) (w : World), w.heap[g]? = some (.cells #[.int .u64 (x1 : Nat), .int .u64 (y1 : Nat), .int .u64 (x2 : Nat), .int .u64 (y2 : Nat), .int .u64 (x3 : Nat), .int .u64 (y3 : Nat)] T) → Calls Tryz.prog 42 #[.int .u8 f, .slice (some ⟨g, 0, none⟩) 3 3] w fun r w' => r = .returned (.tuple #[.agg #[.int .u64 (u : Nat), .int .u64 (v : Nat)], .int .u8 fl]) ∧ Below w.heap.size w w')) ∨ (Box (∀ w, Calls Tryz.prog 41 #[.int .u8 f, .agg #[.int .u64 (x1 : Nat), .int .u64 (y1 : Nat)]] w fun r w' => r = .returned (.bool false) ∧ Below w.heap.size w w') ∧ Box ((Box (∀ w, Calls Tryz.prog 41 #[.int .u8 f, .agg #[.int .u64 (x2 : Nat), .int .u64 (y2 : Nat)]] w fun r w' => r = .returned (.bool true) ∧ Below w.heap.size w w') ∧ Box (∀ (T : TypeId) (g : Nat) (w : World), w.heap[g]? = some (.cells #[.int .u64 (x1 : Nat), .int .u64 (y1 : Nat), .int .u64 (x2 : Nat), .int .u64 (y2 : Nat), .int .u64 (x3 : Nat), .int .u64 (y3 : Nat)] T) → Calls Tryz.prog 42 #[.int .u8 f, .slice (some ⟨g, 0, none⟩) 3 3] w fun r w' => r = .returned (.tuple #[.agg #[.int .u64 (u : Nat), .int .u64 (v : Nat)], .int .u8 fl]) ∧ Below w.heap.size w w')) ∨ (Box (∀ w, Calls Tryz.prog 41 #[.int .u8 f, .agg #[.int .u64 (x2 : Nat), .int .u64 (y2 : Nat)]] w fun r w' => r = .returned (.bool false) ∧ Below w.heap.size w w') ∧ Box ((Box (∀ w, Calls Tryz.prog 41 #[.int .u8 f, .agg #[.int .u64 (x3 : Nat), .int .u64 (y3 : Nat)]] w fun r w' => r = .returned (.bool true) ∧ Below w.heap.size w w') ∧ Box (∀ (T : TypeId) (g : Nat) (w : World), w.heap[g]? = some (.cells #[.int .u64 (x1 : Nat), .int .u64 (y1 : Nat), .int .u64 (x2 : Nat), .int .u64 (y2 : Nat), .int .u64 (x3 : Nat), .int .u64 (y3 : Nat)] T) → Calls Tryz.prog 42 #[.int .u8 f, .slice (some ⟨g, 0, none⟩) 3 3] w fun r w' => r = .returned (.tuple #[.agg #[.int .u64 (u : Nat), .int .u64 (v : Nat)], .int .u8 fl]) ∧ Below w.heap.size w w')) ∨ (Box (∀ w, Calls Tryz.prog 41 #[.int .u8 f, .agg #[.int .u64 (x3 : Nat), .int .u64 (y3 : Nat)]] w fun r w' => r = .returned (.bool false) ∧ Below w.heap.size w w') ∧ Box (∀ w, Calls Tryz.prog 43 #[.int .u8 f, .agg #[.int .u64 (x1 : Nat), .int .u64 (y1 : Nat)]] w fun r w' => r = .returned (.bool s1) ∧ Below w.heap.size w w') ∧ Box (∀ w, Calls Tryz.prog 43 #[.int .u8 f, .agg #[.int .u64 (x2 : Nat), .int .u64 (y2 : Nat)]] w fun r w' => r = .returned (.bool s2) ∧ Below w.heap.size w w') ∧ Box ((Box (∀ w, Calls Tryz.prog 31 #[.int .u8 f, .agg #[.int .u64 (x3 : Nat), .int .u64 (y3 : Nat)]] w fun r w' => r = .returned (.bool true) ∧ Below w.heap.size w w') ∧ x3 = u ∧ y3 = v ∧ fl = 0) ∨ (Box (∀ w, Calls Tryz.prog 31 #[.int .u8 f, .agg #[.int .u64 (x3 : Nat), .int .u64 (y3 : Nat)]] w fun r w' => r = .returned (.bool false) ∧ Below w.heap.size w w') ∧ Box ((Box (∀ w, Calls Tryz.prog 44 #[.int .u8 f, .agg #[.int .u64 (x3 : Nat), .int .u64 (y3 : Nat)]] w fun r w' => r = .returned (.bool true) ∧ Below w.heap.size w w') ∧ Box (∀ w, Calls Tryz.prog 43 #[.int .u8 f, .agg #[.int .u64 (x3 : Nat), .int .u64 (y3 : Nat)]] w fun r w' => r = .returned (.bool s3) ∧ Below w.heap.size w w') ∧ (s3 == neg) = true ∧ x3 = u ∧ y3 = v ∧ fl = 0) ∨ (Box (∀ w, Calls Tryz.prog 44 #[.int .u8 f, .agg #[.int .u64 (x3 : Nat), .int .u64 (y3 : Nat)]] w fun r w' => r = .returned (.bool true) ∧ Below w.heap.size w w') ∧ Box (∀ w, Calls Tryz.prog 43 #[.int .u8 f, .agg #[.int .u64 (x3 : Nat), .int .u64 (y3 : Nat)]] w fun r w' => r = .returned (.bool s3) ∧ Below w.heap.size w w') ∧ (s3 == neg) = false ∧ Box (∀ w, Calls Tryz.prog 52 #[.int .u8 f, .int .u8 m] w fun r w' => r = .returned (.agg #[.int .u64 (u : Nat), .int .u64 (v : Nat)]) ∧ Below w.heap.size w w') ∧ fl = 0) ∨ (Box (∀ w, Calls Tryz.prog 44 #[.int .u8 f, .agg #[.int .u64 (x3 : Nat), .int .u64 (y3 : Nat)]] w fun r w' => r = .returned (.bool false) ∧ Below w.heap.size w w') ∧ Box (∀ w, Calls Tryz.prog 48 #[.int .u8 f, .agg #[.int .u64 (x1 : Nat), .int .u64 (y1 : Nat)]] w fun r w' => r = .returned (.tuple #[.agg #[.bool b1, .string n1, .string d1, .int .i64 e1], .int .i64 0]) ∧ Below w.heap.size w w') ∧ Box (∀ w, Calls Tryz.prog 48 #[.int .u8 f, .agg #[.int .u64 (x2 : Nat), .int .u64 (y2 : Nat)]] w fun r w' => r = .returned (.tuple #[.agg #[.bool b2, .string n2, .string d2, .int .i64 e2], .int .i64 0]) ∧ Below w.heap.size w w') ∧ Box (∀ w, Calls Tryz.prog 48 #[.int .u8 f, .agg #[.int .u64 (x3 : Nat), .int .u64 (y3 : Nat)]] w fun r w' => r = .returned (.tuple #[.agg #[.bool b3, .string n3, .string d3, .int .i64 e3], .int .i64 0]) ∧ Below w.heap.size w w') ∧ Box (∀ w, Calls Tryz.prog 53 #[.agg #[.bool b1, .string n1, .string d1, .int .i64 e1], .agg #[.bool b2, .string n2, .string d2, .int .i64 e2]] w fun r w' => r = .returned (.tuple #[.agg #[.bool b4, .string n4, .string d4, .int .i64 e4], .int .i64 0]) ∧ Below w.heap.size w w') ∧ Box (∀ w, Calls Tryz.prog 54 #[.agg #[.bool b4, .string n4, .string d4, .int .i64 e4], .agg #[.bool b3, .string n3, .string d3, .int .i64 e3]] w fun r w' => r = .returned (.tuple #[.agg #[.bool b5, .string n5, .string d5, .int .i64 e5], .int .i64 0]) ∧ Below w.heap.size w w') ∧ Box ((n5.toList.isEmpty = false ∧ Box (∀ w, Calls Tryz.prog 50 #[.int .u8 f, .int .u8 m, .agg #[.bool b5, .string n5, .string d5, .int .i64 e5]] w fun r w' => r = .returned (.tuple #[.agg #[.int .u64 (u : Nat), .int .u64 (v : Nat)], .int .u8 fl, .int .i64 0]) ∧ Below w.heap.size w w')) ∨ (n5.toList.isEmpty = true ∧ Box (∀ w, Calls Tryz.prog 52 #[.int .u8 f, .int .u8 m] w fun r w' => r = .returned (.agg #[.int .u64 (u : Nat), .int .u64 (v : Nat)]) ∧ Below w.heap.size w w') ∧ fl = 0)))))))))))))
    : Calls Tryz.prog 13 #[.int .u8 f, .int .u8 m, .agg #[.int .u64 (x1 : Nat), .int .u64 (y1 : Nat)], .agg #[.int .u64 (x2 : Nat), .int .u64 (y2 : Nat)], .agg #[.int .u64 (x3 : Nat), .int .u64 (y3 : Nat)]] w fun r w' => r = .returned (.tuple #[.agg #[.int .u64 (u : Nat), .int .u64 (v : Nat)], .int .u8 fl, .int .i64 0]) ∧ Below w.heap.size w w' := by
  have Ra_0 : (((((w.alloc (Obj.cells #[.int .u64 (x1 : Nat), .int .u64 (y1 : Nat)] 26)).alloc (Obj.cells #[.int .u64 (x2 : Nat), .int .u64 (y2 : Nat)] 26)).alloc (Obj.cells #[.int .u64 (x3 : Nat), .int .u64 (y3 : Nat)] 26)).alloc (Obj.cells #[.int .u64 0, .int .u64 0] 26)).alloc (Obj.cells #[.int .u64 (x1 : Nat), .int .u64 (y1 : Nat), .int .u64 (x2 : Nat), .int .u64 (y2 : Nat), .int .u64 (x3 : Nat), .int .u64 (y3 : Nat)] 26)).heap[w.heap.size]? = some (Obj.cells #[.int .u64 (x1 : Nat), .int .u64 (y1 : Nat)] 26) := by rw [heap_below _ _ _ (by simp only [size_al]; omega), heap_below _ _ _ (by simp only [size_al]; omega), heap_below _ _ _ (by simp only [size_al]; omega), heap_below _ _ _ (by simp only [size_al]; omega)]; have := heap_alloc_last w (Obj.cells #[.int .u64 (x1 : Nat), .int .u64 (y1 : Nat)] 26); simpa only [size_al] using this
  have Rb_0 : (((((w.alloc (Obj.cells #[.int .u64 (x1 : Nat), .int .u64 (y1 : Nat)] 26)).alloc (Obj.cells #[.int .u64 (x2 : Nat), .int .u64 (y2 : Nat)] 26)).alloc (Obj.cells #[.int .u64 (x3 : Nat), .int .u64 (y3 : Nat)] 26)).alloc (Obj.cells #[.int .u64 0, .int .u64 0] 26)).alloc (Obj.cells #[.int .u64 (x1 : Nat), .int .u64 (y1 : Nat), .int .u64 (x2 : Nat), .int .u64 (y2 : Nat), .int .u64 (x3 : Nat), .int .u64 (y3 : Nat)] 26)).heap[w.heap.size + 1]? = some (Obj.cells #[.int .u64 (x2 : Nat), .int .u64 (y2 : Nat)] 26) := by rw [heap_below _ _ _ (by simp only [size_al]; omega), heap_below _ _ _ (by simp only [size_al]; omega), heap_below _ _ _ (by simp only [size_al]; omega)]; have := heap_alloc_last (w.alloc (Obj.cells #[.int .u64 (x1 : Nat), .int .u64 (y1 : Nat)] 26)) (Obj.cells #[.int .u64 (x2 : Nat), .int .u64 (y2 : Nat)] 26); simpa only [size_al] using this
  have Rc_0 : (((((w.alloc (Obj.cells #[.int .u64 (x1 : Nat), .int .u64 (y1 : Nat)] 26)).alloc (Obj.cells #[.int .u64 (x2 : Nat), .int .u64 (y2 : Nat)] 26)).alloc (Obj.cells #[.int .u64 (x3 : Nat), .int .u64 (y3 : Nat)] 26)).alloc (Obj.cells #[.int .u64 0, .int .u64 0] 26)).alloc (Obj.cells #[.int .u64 (x1 : Nat), .int .u64 (y1 : Nat), .int .u64 (x2 : Nat), .int .u64 (y2 : Nat), .int .u64 (x3 : Nat), .int .u64 (y3 : Nat)] 26)).heap[w.heap.size + 1 + 1]? = some (Obj.cells #[.int .u64 (x3 : Nat), .int .u64 (y3 : Nat)] 26) := by rw [heap_below _ _ _ (by simp only [size_al]; omega), heap_below _ _ _ (by simp only [size_al]; omega)]; have := heap_alloc_last ((w.alloc (Obj.cells #[.int .u64 (x1 : Nat), .int .u64 (y1 : Nat)] 26)).alloc (Obj.cells #[.int .u64 (x2 : Nat), .int .u64 (y2 : Nat)] 26)) (Obj.cells #[.int .u64 (x3 : Nat), .int .u64 (y3 : Nat)] 26); simpa only [size_al] using this
  have Rz_0 : (((((w.alloc (Obj.cells #[.int .u64 (x1 : Nat), .int .u64 (y1 : Nat)] 26)).alloc (Obj.cells #[.int .u64 (x2 : Nat), .int .u64 (y2 : Nat)] 26)).alloc (Obj.cells #[.int .u64 (x3 : Nat), .int .u64 (y3 : Nat)] 26)).alloc (Obj.cells #[.int .u64 0, .int .u64 0] 26)).alloc (Obj.cells #[.int .u64 (x1 : Nat), .int .u64 (y1 : Nat), .int .u64 (x2 : Nat), .int .u64 (y2 : Nat), .int .u64 (x3 : Nat), .int .u64 (y3 : Nat)] 26)).heap[w.heap.size + 1 + 1 + 1]? = some (Obj.cells #[.int .u64 0, .int .u64 0] 26) := by rw [heap_below _ _ _ (by simp only [size_al]; omega)]; have := heap_alloc_last (((w.alloc (Obj.cells #[.int .u64 (x1 : Nat), .int .u64 (y1 : Nat)] 26)).alloc (Obj.cells #[.int .u64 (x2 : Nat), .int .u64 (y2 : Nat)] 26)).alloc (Obj.cells #[.int .u64 (x3 : Nat), .int .u64 (y3 : Nat)] 26)) (Obj.cells #[.int .u64 0, .int .u64 0] 26); simpa only [size_al] using this
  have Rl_0 : (((((w.alloc (Obj.cells #[.int .u64 (x1 : Nat), .int .u64 (y1 : Nat)] 26)).alloc (Obj.cells #[.int .u64 (x2 : Nat), .int .u64 (y2 : Nat)] 26)).alloc (Obj.cells #[.int .u64 (x3 : Nat), .int .u64 (y3 : Nat)] 26)).alloc (Obj.cells #[.int .u64 0, .int .u64 0] 26)).alloc (Obj.cells #[.int .u64 (x1 : Nat), .int .u64 (y1 : Nat), .int .u64 (x2 : Nat), .int .u64 (y2 : Nat), .int .u64 (x3 : Nat), .int .u64 (y3 : Nat)] 26)).heap[w.heap.size + 1 + 1 + 1 + 1]? = some (Obj.cells #[.int .u64 (x1 : Nat), .int .u64 (y1 : Nat), .int .u64 (x2 : Nat), .int .u64 (y2 : Nat), .int .u64 (x3 : Nat), .int .u64 (y3 : Nat)] 26) := by have := heap_alloc_last ((((w.alloc (Obj.cells #[.int .u64 (x1 : Nat), .int .u64 (y1 : Nat)] 26)).alloc (Obj.cells #[.int .u64 (x2 : Nat), .int .u64 (y2 : Nat)] 26)).alloc (Obj.cells #[.int .u64 (x3 : Nat), .int .u64 (y3 : Nat)] 26)).alloc (Obj.cells #[.int .u64 0, .int .u64 0] 26)) (Obj.cells #[.int .u64 (x1 : Nat), .int .u64 (y1 : Nat), .int .u64 (x2 : Nat), .int .u64 (y2 : Nat), .int .u64 (x3 : Nat), .int .u64 (y3 : Nat)] 26); simpa only [size_al] using this
  have B0 : Below w.heap.size w (((((w.alloc (Obj.cells #[.int .u64 (x1 : Nat), .int .u64 (y1 : Nat)] 26)).alloc (Obj.cells #[.int .u64 (x2 : Nat), .int .u64 (y2 : Nat)] 26)).alloc (Obj.cells #[.int .u64 (x3 : Nat), .int .u64 (y3 : Nat)] 26)).alloc (Obj.cells #[.int .u64 0, .int .u64 0] 26)).alloc (Obj.cells #[.int .u64 (x1 : Nat), .int .u64 (y1 : Nat), .int .u64 (x2 : Nat), .int .u64 (y2 : Nat), .int .u64 (x3 : Nat), .int .u64 (y3 : Nat)] 26)) := ((((((Below.refl _ _).alloc (by first | omega | (simp only [size_al]; omega)) _).alloc (by first | omega | (simp only [size_al]; omega)) _).alloc (by first | omega | (simp only [size_al]; omega)) _).alloc (by first | omega | (simp only [size_al]; omega)) _).alloc (by first | omega | (simp only [size_al]; omega)) _)
  go_enter Tryz.func13, Tryz.ntmps13
  obtain ⟨ca_0_0, ca_0_1⟩ := cells2s Ra_0
  obtain ⟨cb_0_0, cb_0_1⟩ := cells2s Rb_0
  obtain ⟨cc_0_0, cc_0_1⟩ := cells2s Rc_0
  go_wp2_with fail
  refine (KF.out _ _ _ (by assumption)).mono ?_
  rintro r w1 ⟨rfl, b1⟩
  have B1 : Below w.heap.size w w1 := btr B0 b1
  have Ra_1 := heap_of b1 _ _ _ Ra_0
  have Rb_1 := heap_of b1 _ _ _ Rb_0
  have Rc_1 := heap_of b1 _ _ _ Rc_0
  have Rz_1 := heap_of b1 _ _ _ Rz_0
  have Rl_1 := heap_of b1 _ _ _ Rl_0
  clear b1 B0 Ra_0 ca_0_0 ca_0_1 Rb_0 cb_0_0 cb_0_1 Rc_0 cc_0_0 cc_0_1 Rz_0 Rl_0
  obtain ⟨ca_1_0, ca_1_1⟩ := cells2s Ra_1
  obtain ⟨cb_1_0, cb_1_1⟩ := cells2s Rb_1
  obtain ⟨cc_1_0, cc_1_1⟩ := cells2s Rc_1
  go_wp2_with fail
  refine (KI1.out _).mono ?_
  rintro r w2 ⟨rfl, b2⟩
  have B2 : Below w.heap.size w w2 := btr B1 b2
  have Ra_2 := heap_of b2 _ _ _ Ra_1
  have Rb_2 := heap_of b2 _ _ _ Rb_1
  have Rc_2 := heap_of b2 _ _ _ Rc_1
  have Rz_2 := heap_of b2 _ _ _ Rz_1
  have Rl_2 := heap_of b2 _ _ _ Rl_1
  clear b2 B1 Ra_1 ca_1_0 ca_1_1 Rb_1 cb_1_0 cb_1_1 Rc_1 cc_1_0 cc_1_1 Rz_1 Rl_1
  obtain ⟨ca_2_0, ca_2_1⟩ := cells2s Ra_2
  obtain ⟨cb_2_0, cb_2_1⟩ := cells2s Rb_2
  obtain ⟨cc_2_0, cc_2_1⟩ := cells2s Rc_2
  go_wp2_with fail
  refine (KI2.out _).mono ?_
  rintro r w3 ⟨rfl, b3⟩
  have B3 : Below w.heap.size w w3 := btr B2 b3
  have Ra_3 := heap_of b3 _ _ _ Ra_2
  have Rb_3 := heap_of b3 _ _ _ Rb_2
  have Rc_3 := heap_of b3 _ _ _ Rc_2
  have Rz_3 := heap_of b3 _ _ _ Rz_2
  have Rl_3 := heap_of b3 _ _ _ Rl_2
  clear b3 B2 Ra_2 ca_2_0 ca_2_1 Rb_2 cb_2_0 cb_2_1 Rc_2 cc_2_0 cc_2_1 Rz_2 Rl_2
  obtain ⟨ca_3_0, ca_3_1⟩ := cells2s Ra_3
  obtain ⟨cb_3_0, cb_3_1⟩ := cells2s Rb_3
  obtain ⟨cc_3_0, cc_3_1⟩ := cells2s Rc_3
  rcases H2.out with KZ1 | ⟨KZ1, KZ2⟩
  case' inl =>
    go_wp2_with fail
    refine (KZ1.out _).mono ?_
    rintro r w4 ⟨rfl, b4⟩
    have B4 : Below w.heap.size w w4 := btr B3 b4
    have Ra_4 := heap_of b4 _ _ _ Ra_3
    have Rb_4 := heap_of b4 _ _ _ Rb_3
    have Rc_4 := heap_of b4 _ _ _ Rc_3
    have Rz_4 := heap_of b4 _ _ _ Rz_3
    have Rl_4 := heap_of b4 _ _ _ Rl_3
    clear b4 B3 Ra_3 ca_3_0 ca_3_1 Rb_3 cb_3_0 cb_3_1 Rc_3 cc_3_0 cc_3_1 Rz_3 Rl_3
    obtain ⟨ca_4_0, ca_4_1⟩ := cells2s Ra_4
    obtain ⟨cb_4_0, cb_4_1⟩ := cells2s Rb_4
    obtain ⟨cc_4_0, cc_4_1⟩ := cells2s Rc_4
    obtain ⟨w5, hw⟩ : ∃ W, W = w4 := ⟨_, rfl⟩
    subst hw
    have B5 := B4
    have Ra_5 := Ra_4
    have Rb_5 := Rb_4
    have Rc_5 := Rc_4
    have Rz_5 := Rz_4
    have Rl_5 := Rl_4
    clear B4 Ra_4 ca_4_0 ca_4_1 Rb_4 cb_4_0 cb_4_1 Rc_4 cc_4_0 cc_4_1 Rz_4 Rl_4
    obtain ⟨ca_5_0, ca_5_1⟩ := cells2s Ra_5
    obtain ⟨cb_5_0, cb_5_1⟩ := cells2s Rb_5
    obtain ⟨cc_5_0, cc_5_1⟩ := cells2s Rc_5
  case' inr =>
    go_wp2_with fail
    refine (KZ1.out _).mono ?_
    rintro r w4 ⟨rfl, b4⟩
    have B4 : Below w.heap.size w w4 := btr B3 b4
    have Ra_4 := heap_of b4 _ _ _ Ra_3
    have Rb_4 := heap_of b4 _ _ _ Rb_3
    have Rc_4 := heap_of b4 _ _ _ Rc_3
    have Rz_4 := heap_of b4 _ _ _ Rz_3
    have Rl_4 := heap_of b4 _ _ _ Rl_3
    clear b4 B3 Ra_3 ca_3_0 ca_3_1 Rb_3 cb_3_0 cb_3_1 Rc_3 cc_3_0 cc_3_1 Rz_3 Rl_3
    obtain ⟨ca_4_0, ca_4_1⟩ := cells2s Ra_4
    obtain ⟨cb_4_0, cb_4_1⟩ := cells2s Rb_4
    obtain ⟨cc_4_0, cc_4_1⟩ := cells2s Rc_4
    go_wp2_with fail
    refine (KZ2.out _).mono ?_
    rintro r w5 ⟨rfl, b5⟩
    have B5 : Below w.heap.size w w5 := btr B4 b5
    have Ra_5 := heap_of b5 _ _ _ Ra_4
    have Rb_5 := heap_of b5 _ _ _ Rb_4
    have Rc_5 := heap_of b5 _ _ _ Rc_4
    have Rz_5 := heap_of b5 _ _ _ Rz_4
    have Rl_5 := heap_of b5 _ _ _ Rl_4
    clear b5 B4 Ra_4 ca_4_0 ca_4_1 Rb_4 cb_4_0 cb_4_1 Rc_4 cc_4_0 cc_4_1 Rz_4 Rl_4
    obtain ⟨ca_5_0, ca_5_1⟩ := cells2s Ra_5
    obtain ⟨cb_5_0, cb_5_1⟩ := cells2s Rb_5
    obtain ⟨cc_5_0, cc_5_1⟩ := cells2s Rc_5
  all_goals
    rcases H.out with ⟨KN1, KC⟩ | ⟨KN1, Hb⟩
    · clear H
      go_wp2_with fail
      refine (KN1.out _).mono ?_
      rintro r w6 ⟨rfl, b6⟩
      have B6 : Below w.heap.size w w6 := btr B5 b6
      have Ra_6 := heap_of b6 _ _ _ Ra_5
      have Rb_6 := heap_of b6 _ _ _ Rb_5
      have Rc_6 := heap_of b6 _ _ _ Rc_5
      have Rz_6 := heap_of b6 _ _ _ Rz_5
      have Rl_6 := heap_of b6 _ _ _ Rl_5
      clear b6 B5 Ra_5 ca_5_0 ca_5_1 Rb_5 cb_5_0 cb_5_1 Rc_5 cc_5_0 cc_5_1 Rz_5 Rl_5
      obtain ⟨ca_6_0, ca_6_1⟩ := cells2s Ra_6
      obtain ⟨cb_6_0, cb_6_1⟩ := cells2s Rb_6
      obtain ⟨cc_6_0, cc_6_1⟩ := cells2s Rc_6
      go_wp2_with fail
      refine (KC.out _ _ _ (by assumption)).mono ?_
      rintro r w7 ⟨rfl, b7⟩
      have B7 : Below w.heap.size w w7 := btr B6 b7
      have Ra_7 := heap_of b7 _ _ _ Ra_6
      have Rb_7 := heap_of b7 _ _ _ Rb_6
      have Rc_7 := heap_of b7 _ _ _ Rc_6
      have Rz_7 := heap_of b7 _ _ _ Rz_6
      have Rl_7 := heap_of b7 _ _ _ Rl_6
      clear b7 B6 Ra_6 ca_6_0 ca_6_1 Rb_6 cb_6_0 cb_6_1 Rc_6 cc_6_0 cc_6_1 Rz_6 Rl_6
      obtain ⟨ca_7_0, ca_7_1⟩ := cells2s Ra_7
      obtain ⟨cb_7_0, cb_7_1⟩ := cells2s Rb_7
      obtain ⟨cc_7_0, cc_7_1⟩ := cells2s Rc_7
      have S8 := box B7.size
      have La_8 : Box (w.heap.size < w7.heap.size) := box (Array.getElem?_eq_some_iff.1 Ra_7).1
      have Lb_8 : Box (w.heap.size + 1 < w7.heap.size) := box (Array.getElem?_eq_some_iff.1 Rb_7).1
      have Lc_8 : Box (w.heap.size + 1 + 1 < w7.heap.size) := box (Array.getElem?_eq_some_iff.1 Rc_7).1
      have Lz_8 : Box (w.heap.size + 1 + 1 + 1 < w7.heap.size) := box (Array.getElem?_eq_some_iff.1 Rz_7).1
      have Ll_8 : Box (w.heap.size + 1 + 1 + 1 + 1 < w7.heap.size) := box (Array.getElem?_eq_some_iff.1 Rl_7).1
      have Rq_8 := heap_alloc_last w7 (Obj.cells #[.int .u64 (u : Nat), .int .u64 (v : Nat)] 26)
      have B8 := btr B7 (bal w7 (Obj.cells #[.int .u64 (u : Nat), .int .u64 (v : Nat)] 26))
      have Ra_8 := heap_of (bal w7 (Obj.cells #[.int .u64 (u : Nat), .int .u64 (v : Nat)] 26)) _ _ _ Ra_7
      have Rb_8 := heap_of (bal w7 (Obj.cells #[.int .u64 (u : Nat), .int .u64 (v : Nat)] 26)) _ _ _ Rb_7
      have Rc_8 := heap_of (bal w7 (Obj.cells #[.int .u64 (u : Nat), .int .u64 (v : Nat)] 26)) _ _ _ Rc_7
      have Rz_8 := heap_of (bal w7 (Obj.cells #[.int .u64 (u : Nat), .int .u64 (v : Nat)] 26)) _ _ _ Rz_7
      have Rl_8 := heap_of (bal w7 (Obj.cells #[.int .u64 (u : Nat), .int .u64 (v : Nat)] 26)) _ _ _ Rl_7
      clear B7 Ra_7 ca_7_0 ca_7_1 Rb_7 cb_7_0 cb_7_1 Rc_7 cc_7_0 cc_7_1 Rz_7 Rl_7
      obtain ⟨ca_8_0, ca_8_1⟩ := cells2s Ra_8
      obtain ⟨cb_8_0, cb_8_1⟩ := cells2s Rb_8
      obtain ⟨cc_8_0, cc_8_1⟩ := cells2s Rc_8
      obtain ⟨cq_8_0, cq_8_1⟩ := cells2s Rq_8
      obtain ⟨cz_8_0, cz_8_1⟩ := cells2s Rz_8
      have q0 := fz (k := 0) Rz_8
      have q1 := fz (k := 1) Rz_8
      obtain ⟨E0, E1⟩ := set2_cells Rz_8 (.int .u64 (u : Nat)) (.int .u64 (v : Nat))
      go_wp2
      exact bodyPost_ret (v := .tuple #[.agg #[.int .u64 (u : Nat), .int .u64 (v : Nat)], .int .u8 fl, .int .i64 0]) (by simp [results, Tryz.results13, go_sem, E0, E1]) rfl ⟨rfl, set2_below B8 (by first | exact Nat.le_refl _ | omega | (have := S8.out; have := La_8.out; have := Lb_8.out; have := Lc_8.out; have := Lz_8.out; have := Ll_8.out; omega)) _ _⟩
    · clear H
      go_wp2_with fail
      refine (KN1.out _).mono ?_
      rintro r w6 ⟨rfl, b6⟩
      have B6 : Below w.heap.size w w6 := btr B5 b6
      have Ra_6 := heap_of b6 _ _ _ Ra_5
      have Rb_6 := heap_of b6 _ _ _ Rb_5
      have Rc_6 := heap_of b6 _ _ _ Rc_5
      have Rz_6 := heap_of b6 _ _ _ Rz_5
      have Rl_6 := heap_of b6 _ _ _ Rl_5
      clear b6 B5 Ra_5 ca_5_0 ca_5_1 Rb_5 cb_5_0 cb_5_1 Rc_5 cc_5_0 cc_5_1 Rz_5 Rl_5
      obtain ⟨ca_6_0, ca_6_1⟩ := cells2s Ra_6
      obtain ⟨cb_6_0, cb_6_1⟩ := cells2s Rb_6
      obtain ⟨cc_6_0, cc_6_1⟩ := cells2s Rc_6
      rcases Hb.out with ⟨KN2, KC⟩ | ⟨KN2, Hbb⟩
      · clear Hb
        go_wp2_with fail
        refine (KN2.out _).mono ?_
        rintro r w7 ⟨rfl, b7⟩
        have B7 : Below w.heap.size w w7 := btr B6 b7
        have Ra_7 := heap_of b7 _ _ _ Ra_6
        have Rb_7 := heap_of b7 _ _ _ Rb_6
        have Rc_7 := heap_of b7 _ _ _ Rc_6
        have Rz_7 := heap_of b7 _ _ _ Rz_6
        have Rl_7 := heap_of b7 _ _ _ Rl_6
        clear b7 B6 Ra_6 ca_6_0 ca_6_1 Rb_6 cb_6_0 cb_6_1 Rc_6 cc_6_0 cc_6_1 Rz_6 Rl_6
        obtain ⟨ca_7_0, ca_7_1⟩ := cells2s Ra_7
        obtain ⟨cb_7_0, cb_7_1⟩ := cells2s Rb_7
        obtain ⟨cc_7_0, cc_7_1⟩ := cells2s Rc_7
        go_wp2_with fail
        refine (KC.out _ _ _ (by assumption)).mono ?_
        rintro r w8 ⟨rfl, b8⟩
        have B8 : Below w.heap.size w w8 := btr B7 b8
        have Ra_8 := heap_of b8 _ _ _ Ra_7
        have Rb_8 := heap_of b8 _ _ _ Rb_7
        have Rc_8 := heap_of b8 _ _ _ Rc_7
        have Rz_8 := heap_of b8 _ _ _ Rz_7
        have Rl_8 := heap_of b8 _ _ _ Rl_7
        clear b8 B7 Ra_7 ca_7_0 ca_7_1 Rb_7 cb_7_0 cb_7_1 Rc_7 cc_7_0 cc_7_1 Rz_7 Rl_7
        obtain ⟨ca_8_0, ca_8_1⟩ := cells2s Ra_8
        obtain ⟨cb_8_0, cb_8_1⟩ := cells2s Rb_8
        obtain ⟨cc_8_0, cc_8_1⟩ := cells2s Rc_8
        have S9 := box B8.size
        have La_9 : Box (w.heap.size < w8.heap.size) := box (Array.getElem?_eq_some_iff.1 Ra_8).1
        have Lb_9 : Box (w.heap.size + 1 < w8.heap.size) := box (Array.getElem?_eq_some_iff.1 Rb_8).1
        have Lc_9 : Box (w.heap.size + 1 + 1 < w8.heap.size) := box (Array.getElem?_eq_some_iff.1 Rc_8).1
        have Lz_9 : Box (w.heap.size + 1 + 1 + 1 < w8.heap.size) := box (Array.getElem?_eq_some_iff.1 Rz_8).1
        have Ll_9 : Box (w.heap.size + 1 + 1 + 1 + 1 < w8.heap.size) := box (Array.getElem?_eq_some_iff.1 Rl_8).1
        have Rq_9 := heap_alloc_last w8 (Obj.cells #[.int .u64 (u : Nat), .int .u64 (v : Nat)] 26)
        have B9 := btr B8 (bal w8 (Obj.cells #[.int .u64 (u : Nat), .int .u64 (v : Nat)] 26))
        have Ra_9 := heap_of (bal w8 (Obj.cells #[.int .u64 (u : Nat), .int .u64 (v : Nat)] 26)) _ _ _ Ra_8
        have Rb_9 := heap_of (bal w8 (Obj.cells #[.int .u64 (u : Nat), .int .u64 (v : Nat)] 26)) _ _ _ Rb_8
        have Rc_9 := heap_of (bal w8 (Obj.cells #[.int .u64 (u : Nat), .int .u64 (v : Nat)] 26)) _ _ _ Rc_8
        have Rz_9 := heap_of (bal w8 (Obj.cells #[.int .u64 (u : Nat), .int .u64 (v : Nat)] 26)) _ _ _ Rz_8
        have Rl_9 := heap_of (bal w8 (Obj.cells #[.int .u64 (u : Nat), .int .u64 (v : Nat)] 26)) _ _ _ Rl_8
        clear B8 Ra_8 ca_8_0 ca_8_1 Rb_8 cb_8_0 cb_8_1 Rc_8 cc_8_0 cc_8_1 Rz_8 Rl_8
        obtain ⟨ca_9_0, ca_9_1⟩ := cells2s Ra_9
        obtain ⟨cb_9_0, cb_9_1⟩ := cells2s Rb_9
        obtain ⟨cc_9_0, cc_9_1⟩ := cells2s Rc_9
        obtain ⟨cq_9_0, cq_9_1⟩ := cells2s Rq_9
        obtain ⟨cz_9_0, cz_9_1⟩ := cells2s Rz_9
        have q0 := fz (k := 0) Rz_9
        have q1 := fz (k := 1) Rz_9
        obtain ⟨E0, E1⟩ := set2_cells Rz_9 (.int .u64 (u : Nat)) (.int .u64 (v : Nat))
        go_wp2
        exact bodyPost_ret (v := .tuple #[.agg #[.int .u64 (u : Nat), .int .u64 (v : Nat)], .int .u8 fl, .int .i64 0]) (by simp [results, Tryz.results13, go_sem, E0, E1]) rfl ⟨rfl, set2_below B9 (by first | exact Nat.le_refl _ | omega | (have := S9.out; have := La_9.out; have := Lb_9.out; have := Lc_9.out; have := Lz_9.out; have := Ll_9.out; omega)) _ _⟩
      · clear Hb
        go_wp2_with fail
        refine (KN2.out _).mono ?_
        rintro r w7 ⟨rfl, b7⟩
        have B7 : Below w.heap.size w w7 := btr B6 b7
        have Ra_7 := heap_of b7 _ _ _ Ra_6
        have Rb_7 := heap_of b7 _ _ _ Rb_6
        have Rc_7 := heap_of b7 _ _ _ Rc_6
        have Rz_7 := heap_of b7 _ _ _ Rz_6
        have Rl_7 := heap_of b7 _ _ _ Rl_6
        clear b7 B6 Ra_6 ca_6_0 ca_6_1 Rb_6 cb_6_0 cb_6_1 Rc_6 cc_6_0 cc_6_1 Rz_6 Rl_6
        obtain ⟨ca_7_0, ca_7_1⟩ := cells2s Ra_7
        obtain ⟨cb_7_0, cb_7_1⟩ := cells2s Rb_7
        obtain ⟨cc_7_0, cc_7_1⟩ := cells2s Rc_7
        rcases Hbb.out with ⟨KN3, KC⟩ | ⟨KN3, KS1, KS2, Hbbb⟩
        · clear Hbb
          go_wp2_with fail
          refine (KN3.out _).mono ?_
          rintro r w8 ⟨rfl, b8⟩
          have B8 : Below w.heap.size w w8 := btr B7 b8
          have Ra_8 := heap_of b8 _ _ _ Ra_7
          have Rb_8 := heap_of b8 _ _ _ Rb_7
          have Rc_8 := heap_of b8 _ _ _ Rc_7
          have Rz_8 := heap_of b8 _ _ _ Rz_7
          have Rl_8 := heap_of b8 _ _ _ Rl_7
          clear b8 B7 Ra_7 ca_7_0 ca_7_1 Rb_7 cb_7_0 cb_7_1 Rc_7 cc_7_0 cc_7_1 Rz_7 Rl_7
          obtain ⟨ca_8_0, ca_8_1⟩ := cells2s Ra_8
          obtain ⟨cb_8_0, cb_8_1⟩ := cells2s Rb_8
          obtain ⟨cc_8_0, cc_8_1⟩ := cells2s Rc_8
          go_wp2_with fail
          refine (KC.out _ _ _ (by assumption)).mono ?_
          rintro r w9 ⟨rfl, b9⟩
          have B9 : Below w.heap.size w w9 := btr B8 b9
          have Ra_9 := heap_of b9 _ _ _ Ra_8
          have Rb_9 := heap_of b9 _ _ _ Rb_8
          have Rc_9 := heap_of b9 _ _ _ Rc_8
          have Rz_9 := heap_of b9 _ _ _ Rz_8
          have Rl_9 := heap_of b9 _ _ _ Rl_8
          clear b9 B8 Ra_8 ca_8_0 ca_8_1 Rb_8 cb_8_0 cb_8_1 Rc_8 cc_8_0 cc_8_1 Rz_8 Rl_8
          obtain ⟨ca_9_0, ca_9_1⟩ := cells2s Ra_9
          obtain ⟨cb_9_0, cb_9_1⟩ := cells2s Rb_9
          obtain ⟨cc_9_0, cc_9_1⟩ := cells2s Rc_9
          have S10 := box B9.size
          have La_10 : Box (w.heap.size < w9.heap.size) := box (Array.getElem?_eq_some_iff.1 Ra_9).1
          have Lb_10 : Box (w.heap.size + 1 < w9.heap.size) := box (Array.getElem?_eq_some_iff.1 Rb_9).1
          have Lc_10 : Box (w.heap.size + 1 + 1 < w9.heap.size) := box (Array.getElem?_eq_some_iff.1 Rc_9).1
          have Lz_10 : Box (w.heap.size + 1 + 1 + 1 < w9.heap.size) := box (Array.getElem?_eq_some_iff.1 Rz_9).1
          have Ll_10 : Box (w.heap.size + 1 + 1 + 1 + 1 < w9.heap.size) := box (Array.getElem?_eq_some_iff.1 Rl_9).1
          have Rq_10 := heap_alloc_last w9 (Obj.cells #[.int .u64 (u : Nat), .int .u64 (v : Nat)] 26)
          have B10 := btr B9 (bal w9 (Obj.cells #[.int .u64 (u : Nat), .int .u64 (v : Nat)] 26))
          have Ra_10 := heap_of (bal w9 (Obj.cells #[.int .u64 (u : Nat), .int .u64 (v : Nat)] 26)) _ _ _ Ra_9
          have Rb_10 := heap_of (bal w9 (Obj.cells #[.int .u64 (u : Nat), .int .u64 (v : Nat)] 26)) _ _ _ Rb_9
          have Rc_10 := heap_of (bal w9 (Obj.cells #[.int .u64 (u : Nat), .int .u64 (v : Nat)] 26)) _ _ _ Rc_9
          have Rz_10 := heap_of (bal w9 (Obj.cells #[.int .u64 (u : Nat), .int .u64 (v : Nat)] 26)) _ _ _ Rz_9
          have Rl_10 := heap_of (bal w9 (Obj.cells #[.int .u64 (u : Nat), .int .u64 (v : Nat)] 26)) _ _ _ Rl_9
          clear B9 Ra_9 ca_9_0 ca_9_1 Rb_9 cb_9_0 cb_9_1 Rc_9 cc_9_0 cc_9_1 Rz_9 Rl_9
          obtain ⟨ca_10_0, ca_10_1⟩ := cells2s Ra_10
          obtain ⟨cb_10_0, cb_10_1⟩ := cells2s Rb_10
          obtain ⟨cc_10_0, cc_10_1⟩ := cells2s Rc_10
          obtain ⟨cq_10_0, cq_10_1⟩ := cells2s Rq_10
          obtain ⟨cz_10_0, cz_10_1⟩ := cells2s Rz_10
          have q0 := fz (k := 0) Rz_10
          have q1 := fz (k := 1) Rz_10
          obtain ⟨E0, E1⟩ := set2_cells Rz_10 (.int .u64 (u : Nat)) (.int .u64 (v : Nat))
          go_wp2
          exact bodyPost_ret (v := .tuple #[.agg #[.int .u64 (u : Nat), .int .u64 (v : Nat)], .int .u8 fl, .int .i64 0]) (by simp [results, Tryz.results13, go_sem, E0, E1]) rfl ⟨rfl, set2_below B10 (by first | exact Nat.le_refl _ | omega | (have := S10.out; have := La_10.out; have := Lb_10.out; have := Lc_10.out; have := Lz_10.out; have := Ll_10.out; omega)) _ _⟩
        · clear Hbb
          go_wp2_with fail
          refine (KN3.out _).mono ?_
          rintro r w8 ⟨rfl, b8⟩
          have B8 : Below w.heap.size w w8 := btr B7 b8
          have Ra_8 := heap_of b8 _ _ _ Ra_7
          have Rb_8 := heap_of b8 _ _ _ Rb_7
          have Rc_8 := heap_of b8 _ _ _ Rc_7
          have Rz_8 := heap_of b8 _ _ _ Rz_7
          have Rl_8 := heap_of b8 _ _ _ Rl_7
          clear b8 B7 Ra_7 ca_7_0 ca_7_1 Rb_7 cb_7_0 cb_7_1 Rc_7 cc_7_0 cc_7_1 Rz_7 Rl_7
          obtain ⟨ca_8_0, ca_8_1⟩ := cells2s Ra_8
          obtain ⟨cb_8_0, cb_8_1⟩ := cells2s Rb_8
          obtain ⟨cc_8_0, cc_8_1⟩ := cells2s Rc_8
          have sS : Box (∀ W W1 : World, (Below w.heap.size w W ∧ W.heap[w.heap.size]? = some (Obj.cells #[.int .u64 (x1 : Nat), .int .u64 (y1 : Nat)] 26) ∧ W.heap[w.heap.size + 1]? = some (Obj.cells #[.int .u64 (x2 : Nat), .int .u64 (y2 : Nat)] 26) ∧ W.heap[w.heap.size + 1 + 1]? = some (Obj.cells #[.int .u64 (x3 : Nat), .int .u64 (y3 : Nat)] 26) ∧ W.heap[w.heap.size + 1 + 1 + 1]? = some (Obj.cells #[.int .u64 0, .int .u64 0] 26) ∧ W.heap[w.heap.size + 1 + 1 + 1 + 1]? = some (Obj.cells #[.int .u64 (x1 : Nat), .int .u64 (y1 : Nat), .int .u64 (x2 : Nat), .int .u64 (y2 : Nat), .int .u64 (x3 : Nat), .int .u64 (y3 : Nat)] 26) ∧ W.cell? ⟨w.heap.size, 0, none⟩ = some (.int .u64 (x1 : Nat)) ∧ W.cell? ⟨w.heap.size, 1, none⟩ = some (.int .u64 (y1 : Nat)) ∧ W.cell? ⟨w.heap.size + 1, 0, none⟩ = some (.int .u64 (x2 : Nat)) ∧ W.cell? ⟨w.heap.size + 1, 1, none⟩ = some (.int .u64 (y2 : Nat))) → Below W.heap.size W W1 → (Below w.heap.size w W1 ∧ W1.heap[w.heap.size]? = some (Obj.cells #[.int .u64 (x1 : Nat), .int .u64 (y1 : Nat)] 26) ∧ W1.heap[w.heap.size + 1]? = some (Obj.cells #[.int .u64 (x2 : Nat), .int .u64 (y2 : Nat)] 26) ∧ W1.heap[w.heap.size + 1 + 1]? = some (Obj.cells #[.int .u64 (x3 : Nat), .int .u64 (y3 : Nat)] 26) ∧ W1.heap[w.heap.size + 1 + 1 + 1]? = some (Obj.cells #[.int .u64 0, .int .u64 0] 26) ∧ W1.heap[w.heap.size + 1 + 1 + 1 + 1]? = some (Obj.cells #[.int .u64 (x1 : Nat), .int .u64 (y1 : Nat), .int .u64 (x2 : Nat), .int .u64 (y2 : Nat), .int .u64 (x3 : Nat), .int .u64 (y3 : Nat)] 26) ∧ W1.cell? ⟨w.heap.size, 0, none⟩ = some (.int .u64 (x1 : Nat)) ∧ W1.cell? ⟨w.heap.size, 1, none⟩ = some (.int .u64 (y1 : Nat)) ∧ W1.cell? ⟨w.heap.size + 1, 0, none⟩ = some (.int .u64 (x2 : Nat)) ∧ W1.cell? ⟨w.heap.size + 1, 1, none⟩ = some (.int .u64 (y2 : Nat)))) := box (fun W W1 h b => ⟨btr h.1 b, heap_of b _ _ _ h.2.1, heap_of b _ _ _ h.2.2.1, heap_of b _ _ _ h.2.2.2.1, heap_of b _ _ _ h.2.2.2.2.1, heap_of b _ _ _ h.2.2.2.2.2.1, cell7 (heap_of b _ _ _ h.2.1) 0 _ rfl, cell7 (heap_of b _ _ _ h.2.1) 1 _ rfl, cell7 (heap_of b _ _ _ h.2.2.1) 0 _ rfl, cell7 (heap_of b _ _ _ h.2.2.1) 1 _ rfl⟩)
          have s0 : Below w.heap.size w (w8).drew ∧ (w8).drew.heap[w.heap.size]? = some (Obj.cells #[.int .u64 (x1 : Nat), .int .u64 (y1 : Nat)] 26) ∧ (w8).drew.heap[w.heap.size + 1]? = some (Obj.cells #[.int .u64 (x2 : Nat), .int .u64 (y2 : Nat)] 26) ∧ (w8).drew.heap[w.heap.size + 1 + 1]? = some (Obj.cells #[.int .u64 (x3 : Nat), .int .u64 (y3 : Nat)] 26) ∧ (w8).drew.heap[w.heap.size + 1 + 1 + 1]? = some (Obj.cells #[.int .u64 0, .int .u64 0] 26) ∧ (w8).drew.heap[w.heap.size + 1 + 1 + 1 + 1]? = some (Obj.cells #[.int .u64 (x1 : Nat), .int .u64 (y1 : Nat), .int .u64 (x2 : Nat), .int .u64 (y2 : Nat), .int .u64 (x3 : Nat), .int .u64 (y3 : Nat)] 26) ∧ (w8).drew.cell? ⟨w.heap.size, 0, none⟩ = some (.int .u64 (x1 : Nat)) ∧ (w8).drew.cell? ⟨w.heap.size, 1, none⟩ = some (.int .u64 (y1 : Nat)) ∧ (w8).drew.cell? ⟨w.heap.size + 1, 0, none⟩ = some (.int .u64 (x2 : Nat)) ∧ (w8).drew.cell? ⟨w.heap.size + 1, 1, none⟩ = some (.int .u64 (y2 : Nat)) := ⟨B8.drew, Ra_8, Rb_8, Rc_8, Rz_8, Rl_8, cell7 (Ra_8) 0 _ rfl, cell7 (Ra_8) 1 _ rfl, cell7 (Rb_8) 0 _ rfl, cell7 (Rb_8) 1 _ rfl⟩
          go_wp2_with fail
          go_region_held3 (fun W => Below w.heap.size w W ∧ W.heap[w.heap.size]? = some (Obj.cells #[.int .u64 (x1 : Nat), .int .u64 (y1 : Nat)] 26) ∧ W.heap[w.heap.size + 1]? = some (Obj.cells #[.int .u64 (x2 : Nat), .int .u64 (y2 : Nat)] 26) ∧ W.heap[w.heap.size + 1 + 1]? = some (Obj.cells #[.int .u64 (x3 : Nat), .int .u64 (y3 : Nat)] 26) ∧ W.heap[w.heap.size + 1 + 1 + 1]? = some (Obj.cells #[.int .u64 0, .int .u64 0] 26) ∧ W.heap[w.heap.size + 1 + 1 + 1 + 1]? = some (Obj.cells #[.int .u64 (x1 : Nat), .int .u64 (y1 : Nat), .int .u64 (x2 : Nat), .int .u64 (y2 : Nat), .int .u64 (x3 : Nat), .int .u64 (y3 : Nat)] 26) ∧ W.cell? ⟨w.heap.size, 0, none⟩ = some (.int .u64 (x1 : Nat)) ∧ W.cell? ⟨w.heap.size, 1, none⟩ = some (.int .u64 (y1 : Nat)) ∧ W.cell? ⟨w.heap.size + 1, 0, none⟩ = some (.int .u64 (x2 : Nat)) ∧ W.cell? ⟨w.heap.size + 1, 1, none⟩ = some (.int .u64 (y2 : Nat))) (first | exact s1 | exact s0)
            (first | (go_at_call_of 43 (Value.agg #[.int .u64 (x1 : Nat), .int .u64 (y1 : Nat)]); refine (KS1.out _).mono ?_; rintro r wq ⟨rfl, bq⟩; (first | have s1 := sS.out _ _ s1 bq | have s1 := sS.out _ _ s0 bq); clear bq) | (go_at_call_of 43 (Value.agg #[.int .u64 (x2 : Nat), .int .u64 (y2 : Nat)]); refine (KS2.out _).mono ?_; rintro r wq ⟨rfl, bq⟩; (first | have s1 := sS.out _ _ s1 bq | have s1 := sS.out _ _ s0 bq); clear bq) | fail)
          have B9 := (And.left s1)
          have Ra_9 := s1.2.1
          have Rb_9 := s1.2.2.1
          have Rc_9 := s1.2.2.2.1
          have Rz_9 := s1.2.2.2.2.1
          have Rl_9 := s1.2.2.2.2.2.1
          clear s0 s1 sS B8 Ra_8 ca_8_0 ca_8_1 Rb_8 cb_8_0 cb_8_1 Rc_8 cc_8_0 cc_8_1 Rz_8 Rl_8
          obtain ⟨ca_9_0, ca_9_1⟩ := cells2s Ra_9
          obtain ⟨cb_9_0, cb_9_1⟩ := cells2s Rb_9
          obtain ⟨cc_9_0, cc_9_1⟩ := cells2s Rc_9
          rcases Hbbb.out with ⟨KI3, rfl, rfl, rfl⟩ | ⟨KI3, Hbbbb⟩
          · clear Hbbb
            go_wp2_with fail
            refine (KI3.out _).mono ?_
            rintro r w10 ⟨rfl, b10⟩
            have B10 : Below w.heap.size w w10 := btr B9 b10
            have Ra_10 := heap_of b10 _ _ _ Ra_9
            have Rb_10 := heap_of b10 _ _ _ Rb_9
            have Rc_10 := heap_of b10 _ _ _ Rc_9
            have Rz_10 := heap_of b10 _ _ _ Rz_9
            have Rl_10 := heap_of b10 _ _ _ Rl_9
            clear b10 B9 Ra_9 ca_9_0 ca_9_1 Rb_9 cb_9_0 cb_9_1 Rc_9 cc_9_0 cc_9_1 Rz_9 Rl_9
            obtain ⟨ca_10_0, ca_10_1⟩ := cells2s Ra_10
            obtain ⟨cb_10_0, cb_10_1⟩ := cells2s Rb_10
            obtain ⟨cc_10_0, cc_10_1⟩ := cells2s Rc_10
            obtain ⟨cz_10_0, cz_10_1⟩ := cells2s Rz_10
            have q0 := fz (k := 0) Rz_10
            have q1 := fz (k := 1) Rz_10
            obtain ⟨E0, E1⟩ := set2_cells Rz_10 (.int .u64 (x3 : Nat)) (.int .u64 (y3 : Nat))
            go_wp2
            exact bodyPost_ret (v := .tuple #[.agg #[.int .u64 (x3 : Nat), .int .u64 (y3 : Nat)], .int .u8 0, .int .i64 0]) (by simp [results, Tryz.results13, go_sem, E0, E1]) rfl ⟨rfl, set2_below B10 (by first | exact Nat.le_refl _ | omega | (skip; omega)) _ _⟩
          · clear Hbbb
            go_wp2_with fail
            refine (KI3.out _).mono ?_
            rintro r w10 ⟨rfl, b10⟩
            have B10 : Below w.heap.size w w10 := btr B9 b10
            have Ra_10 := heap_of b10 _ _ _ Ra_9
            have Rb_10 := heap_of b10 _ _ _ Rb_9
            have Rc_10 := heap_of b10 _ _ _ Rc_9
            have Rz_10 := heap_of b10 _ _ _ Rz_9
            have Rl_10 := heap_of b10 _ _ _ Rl_9
            clear b10 B9 Ra_9 ca_9_0 ca_9_1 Rb_9 cb_9_0 cb_9_1 Rc_9 cc_9_0 cc_9_1 Rz_9 Rl_9
            obtain ⟨ca_10_0, ca_10_1⟩ := cells2s Ra_10
            obtain ⟨cb_10_0, cb_10_1⟩ := cells2s Rb_10
            obtain ⟨cc_10_0, cc_10_1⟩ := cells2s Rc_10
            rcases Hbbbb.out with ⟨KZ3, KS3, h3, rfl, rfl, rfl⟩ | ⟨KZ3, KS3, h3, KR, rfl⟩ | ⟨KZ3, KV1, KV2, KV3, KM, KA, Hbbbbc⟩
            · clear Hbbbb
              go_wp2_with fail
              refine (KZ3.out _).mono ?_
              rintro r w11 ⟨rfl, b11⟩
              have B11 : Below w.heap.size w w11 := btr B10 b11
              have Ra_11 := heap_of b11 _ _ _ Ra_10
              have Rb_11 := heap_of b11 _ _ _ Rb_10
              have Rc_11 := heap_of b11 _ _ _ Rc_10
              have Rz_11 := heap_of b11 _ _ _ Rz_10
              have Rl_11 := heap_of b11 _ _ _ Rl_10
              clear b11 B10 Ra_10 ca_10_0 ca_10_1 Rb_10 cb_10_0 cb_10_1 Rc_10 cc_10_0 cc_10_1 Rz_10 Rl_10
              obtain ⟨ca_11_0, ca_11_1⟩ := cells2s Ra_11
              obtain ⟨cb_11_0, cb_11_1⟩ := cells2s Rb_11
              obtain ⟨cc_11_0, cc_11_1⟩ := cells2s Rc_11
              go_wp2_with fail
              refine (KS3.out _).mono ?_
              rintro r w12 ⟨rfl, b12⟩
              have B12 : Below w.heap.size w w12 := btr B11 b12
              have Ra_12 := heap_of b12 _ _ _ Ra_11
              have Rb_12 := heap_of b12 _ _ _ Rb_11
              have Rc_12 := heap_of b12 _ _ _ Rc_11
              have Rz_12 := heap_of b12 _ _ _ Rz_11
              have Rl_12 := heap_of b12 _ _ _ Rl_11
              clear b12 B11 Ra_11 ca_11_0 ca_11_1 Rb_11 cb_11_0 cb_11_1 Rc_11 cc_11_0 cc_11_1 Rz_11 Rl_11
              obtain ⟨ca_12_0, ca_12_1⟩ := cells2s Ra_12
              obtain ⟨cb_12_0, cb_12_1⟩ := cells2s Rb_12
              obtain ⟨cc_12_0, cc_12_1⟩ := cells2s Rc_12
              obtain ⟨cz_12_0, cz_12_1⟩ := cells2s Rz_12
              have q0 := fz (k := 0) Rz_12
              have q1 := fz (k := 1) Rz_12
              obtain ⟨E0, E1⟩ := set2_cells Rz_12 (.int .u64 (x3 : Nat)) (.int .u64 (y3 : Nat))
              go_wp2
              exact bodyPost_ret (v := .tuple #[.agg #[.int .u64 (x3 : Nat), .int .u64 (y3 : Nat)], .int .u8 0, .int .i64 0]) (by simp [results, Tryz.results13, go_sem, E0, E1]) rfl ⟨rfl, set2_below B12 (by first | exact Nat.le_refl _ | omega | (skip; omega)) _ _⟩
            · clear Hbbbb
              go_wp2_with fail
              refine (KZ3.out _).mono ?_
              rintro r w11 ⟨rfl, b11⟩
              have B11 : Below w.heap.size w w11 := btr B10 b11
              have Ra_11 := heap_of b11 _ _ _ Ra_10
              have Rb_11 := heap_of b11 _ _ _ Rb_10
              have Rc_11 := heap_of b11 _ _ _ Rc_10
              have Rz_11 := heap_of b11 _ _ _ Rz_10
              have Rl_11 := heap_of b11 _ _ _ Rl_10
              clear b11 B10 Ra_10 ca_10_0 ca_10_1 Rb_10 cb_10_0 cb_10_1 Rc_10 cc_10_0 cc_10_1 Rz_10 Rl_10
              obtain ⟨ca_11_0, ca_11_1⟩ := cells2s Ra_11
              obtain ⟨cb_11_0, cb_11_1⟩ := cells2s Rb_11
              obtain ⟨cc_11_0, cc_11_1⟩ := cells2s Rc_11
              go_wp2_with fail
              refine (KS3.out _).mono ?_
              rintro r w12 ⟨rfl, b12⟩
              have B12 : Below w.heap.size w w12 := btr B11 b12
              have Ra_12 := heap_of b12 _ _ _ Ra_11
              have Rb_12 := heap_of b12 _ _ _ Rb_11
              have Rc_12 := heap_of b12 _ _ _ Rc_11
              have Rz_12 := heap_of b12 _ _ _ Rz_11
              have Rl_12 := heap_of b12 _ _ _ Rl_11
              clear b12 B11 Ra_11 ca_11_0 ca_11_1 Rb_11 cb_11_0 cb_11_1 Rc_11 cc_11_0 cc_11_1 Rz_11 Rl_11
              obtain ⟨ca_12_0, ca_12_1⟩ := cells2s Ra_12
              obtain ⟨cb_12_0, cb_12_1⟩ := cells2s Rb_12
              obtain ⟨cc_12_0, cc_12_1⟩ := cells2s Rc_12
              go_wp2_with fail
              refine (KR.out _).mono ?_
              rintro r w13 ⟨rfl, b13⟩
              have B13 : Below w.heap.size w w13 := btr B12 b13
              have Ra_13 := heap_of b13 _ _ _ Ra_12
              have Rb_13 := heap_of b13 _ _ _ Rb_12
              have Rc_13 := heap_of b13 _ _ _ Rc_12
              have Rz_13 := heap_of b13 _ _ _ Rz_12
              have Rl_13 := heap_of b13 _ _ _ Rl_12
              clear b13 B12 Ra_12 ca_12_0 ca_12_1 Rb_12 cb_12_0 cb_12_1 Rc_12 cc_12_0 cc_12_1 Rz_12 Rl_12
              obtain ⟨ca_13_0, ca_13_1⟩ := cells2s Ra_13
              obtain ⟨cb_13_0, cb_13_1⟩ := cells2s Rb_13
              obtain ⟨cc_13_0, cc_13_1⟩ := cells2s Rc_13
              obtain ⟨cz_13_0, cz_13_1⟩ := cells2s Rz_13
              have q0 := fz (k := 0) Rz_13
              have q1 := fz (k := 1) Rz_13
              obtain ⟨E0, E1⟩ := set2_cells Rz_13 (.int .u64 (u : Nat)) (.int .u64 (v : Nat))
              go_wp2
              exact bodyPost_ret (v := .tuple #[.agg #[.int .u64 (u : Nat), .int .u64 (v : Nat)], .int .u8 0, .int .i64 0]) (by simp [results, Tryz.results13, go_sem, E0, E1]) rfl ⟨rfl, set2_below B13 (by first | exact Nat.le_refl _ | omega | (skip; omega)) _ _⟩
            · clear Hbbbb
              go_wp2_with fail
              refine (KZ3.out _).mono ?_
              rintro r w11 ⟨rfl, b11⟩
              have B11 : Below w.heap.size w w11 := btr B10 b11
              have Ra_11 := heap_of b11 _ _ _ Ra_10
              have Rb_11 := heap_of b11 _ _ _ Rb_10
              have Rc_11 := heap_of b11 _ _ _ Rc_10
              have Rz_11 := heap_of b11 _ _ _ Rz_10
              have Rl_11 := heap_of b11 _ _ _ Rl_10
              clear b11 B10 Ra_10 ca_10_0 ca_10_1 Rb_10 cb_10_0 cb_10_1 Rc_10 cc_10_0 cc_10_1 Rz_10 Rl_10
              obtain ⟨ca_11_0, ca_11_1⟩ := cells2s Ra_11
              obtain ⟨cb_11_0, cb_11_1⟩ := cells2s Rb_11
              obtain ⟨cc_11_0, cc_11_1⟩ := cells2s Rc_11
              go_wp2_with fail
              refine (KV1.out _).mono ?_
              rintro r w12 ⟨rfl, b12⟩
              have B12 : Below w.heap.size w w12 := btr B11 b12
              have Ra_12 := heap_of b12 _ _ _ Ra_11
              have Rb_12 := heap_of b12 _ _ _ Rb_11
              have Rc_12 := heap_of b12 _ _ _ Rc_11
              have Rz_12 := heap_of b12 _ _ _ Rz_11
              have Rl_12 := heap_of b12 _ _ _ Rl_11
              clear b12 B11 Ra_11 ca_11_0 ca_11_1 Rb_11 cb_11_0 cb_11_1 Rc_11 cc_11_0 cc_11_1 Rz_11 Rl_11
              obtain ⟨ca_12_0, ca_12_1⟩ := cells2s Ra_12
              obtain ⟨cb_12_0, cb_12_1⟩ := cells2s Rb_12
              obtain ⟨cc_12_0, cc_12_1⟩ := cells2s Rc_12
              have S13 := box B12.size
              have La_13 : Box (w.heap.size < w12.heap.size) := box (Array.getElem?_eq_some_iff.1 Ra_12).1
              have Lb_13 : Box (w.heap.size + 1 < w12.heap.size) := box (Array.getElem?_eq_some_iff.1 Rb_12).1
              have Lc_13 : Box (w.heap.size + 1 + 1 < w12.heap.size) := box (Array.getElem?_eq_some_iff.1 Rc_12).1
              have Lz_13 : Box (w.heap.size + 1 + 1 + 1 < w12.heap.size) := box (Array.getElem?_eq_some_iff.1 Rz_12).1
              have Ll_13 : Box (w.heap.size + 1 + 1 + 1 + 1 < w12.heap.size) := box (Array.getElem?_eq_some_iff.1 Rl_12).1
              have Rx_13 := heap_alloc_last w12 (Obj.cells #[.bool b1, .string n1, .string d1, .int .i64 e1] 70)
              have B13 := btr B12 (bal w12 (Obj.cells #[.bool b1, .string n1, .string d1, .int .i64 e1] 70))
              have Ra_13 := heap_of (bal w12 (Obj.cells #[.bool b1, .string n1, .string d1, .int .i64 e1] 70)) _ _ _ Ra_12
              have Rb_13 := heap_of (bal w12 (Obj.cells #[.bool b1, .string n1, .string d1, .int .i64 e1] 70)) _ _ _ Rb_12
              have Rc_13 := heap_of (bal w12 (Obj.cells #[.bool b1, .string n1, .string d1, .int .i64 e1] 70)) _ _ _ Rc_12
              have Rz_13 := heap_of (bal w12 (Obj.cells #[.bool b1, .string n1, .string d1, .int .i64 e1] 70)) _ _ _ Rz_12
              have Rl_13 := heap_of (bal w12 (Obj.cells #[.bool b1, .string n1, .string d1, .int .i64 e1] 70)) _ _ _ Rl_12
              clear B12 Ra_12 ca_12_0 ca_12_1 Rb_12 cb_12_0 cb_12_1 Rc_12 cc_12_0 cc_12_1 Rz_12 Rl_12
              obtain ⟨ca_13_0, ca_13_1⟩ := cells2s Ra_13
              obtain ⟨cb_13_0, cb_13_1⟩ := cells2s Rb_13
              obtain ⟨cc_13_0, cc_13_1⟩ := cells2s Rc_13
              obtain ⟨cx_13_0, cx_13_1, cx_13_2, cx_13_3⟩ := cells4s Rx_13
              go_wp2_with fail
              refine (KV2.out _).mono ?_
              rintro r w14 ⟨rfl, b14⟩
              have B14 : Below w.heap.size w w14 := btr B13 b14
              have Ra_14 := heap_of b14 _ _ _ Ra_13
              have Rb_14 := heap_of b14 _ _ _ Rb_13
              have Rc_14 := heap_of b14 _ _ _ Rc_13
              have Rz_14 := heap_of b14 _ _ _ Rz_13
              have Rl_14 := heap_of b14 _ _ _ Rl_13
              have Rx_14 := heap_of b14 _ _ _ Rx_13
              clear b14 B13 Ra_13 ca_13_0 ca_13_1 Rb_13 cb_13_0 cb_13_1 Rc_13 cc_13_0 cc_13_1 Rz_13 Rl_13 Rx_13 cx_13_0 cx_13_1 cx_13_2 cx_13_3
              obtain ⟨ca_14_0, ca_14_1⟩ := cells2s Ra_14
              obtain ⟨cb_14_0, cb_14_1⟩ := cells2s Rb_14
              obtain ⟨cc_14_0, cc_14_1⟩ := cells2s Rc_14
              obtain ⟨cx_14_0, cx_14_1, cx_14_2, cx_14_3⟩ := cells4s Rx_14
              have S15 := box B14.size
              have La_15 : Box (w.heap.size < w14.heap.size) := box (Array.getElem?_eq_some_iff.1 Ra_14).1
              have Lb_15 : Box (w.heap.size + 1 < w14.heap.size) := box (Array.getElem?_eq_some_iff.1 Rb_14).1
              have Lc_15 : Box (w.heap.size + 1 + 1 < w14.heap.size) := box (Array.getElem?_eq_some_iff.1 Rc_14).1
              have Lz_15 : Box (w.heap.size + 1 + 1 + 1 < w14.heap.size) := box (Array.getElem?_eq_some_iff.1 Rz_14).1
              have Ll_15 : Box (w.heap.size + 1 + 1 + 1 + 1 < w14.heap.size) := box (Array.getElem?_eq_some_iff.1 Rl_14).1
              have Lx_15 : Box (w12.heap.size < w14.heap.size) := box (Array.getElem?_eq_some_iff.1 Rx_14).1
              have Ry_15 := heap_alloc_last w14 (Obj.cells #[.bool b2, .string n2, .string d2, .int .i64 e2] 70)
              have B15 := btr B14 (bal w14 (Obj.cells #[.bool b2, .string n2, .string d2, .int .i64 e2] 70))
              have Ra_15 := heap_of (bal w14 (Obj.cells #[.bool b2, .string n2, .string d2, .int .i64 e2] 70)) _ _ _ Ra_14
              have Rb_15 := heap_of (bal w14 (Obj.cells #[.bool b2, .string n2, .string d2, .int .i64 e2] 70)) _ _ _ Rb_14
              have Rc_15 := heap_of (bal w14 (Obj.cells #[.bool b2, .string n2, .string d2, .int .i64 e2] 70)) _ _ _ Rc_14
              have Rz_15 := heap_of (bal w14 (Obj.cells #[.bool b2, .string n2, .string d2, .int .i64 e2] 70)) _ _ _ Rz_14
              have Rl_15 := heap_of (bal w14 (Obj.cells #[.bool b2, .string n2, .string d2, .int .i64 e2] 70)) _ _ _ Rl_14
              have Rx_15 := heap_of (bal w14 (Obj.cells #[.bool b2, .string n2, .string d2, .int .i64 e2] 70)) _ _ _ Rx_14
              clear B14 Ra_14 ca_14_0 ca_14_1 Rb_14 cb_14_0 cb_14_1 Rc_14 cc_14_0 cc_14_1 Rz_14 Rl_14 Rx_14 cx_14_0 cx_14_1 cx_14_2 cx_14_3
              obtain ⟨ca_15_0, ca_15_1⟩ := cells2s Ra_15
              obtain ⟨cb_15_0, cb_15_1⟩ := cells2s Rb_15
              obtain ⟨cc_15_0, cc_15_1⟩ := cells2s Rc_15
              obtain ⟨cx_15_0, cx_15_1, cx_15_2, cx_15_3⟩ := cells4s Rx_15
              obtain ⟨cy_15_0, cy_15_1, cy_15_2, cy_15_3⟩ := cells4s Ry_15
              clear ca_15_0 ca_15_1
              clear cb_15_0 cb_15_1
              go_wp2_with fail
              refine (KV3.out _).mono ?_
              rintro r w16 ⟨rfl, b16⟩
              have B16 : Below w.heap.size w w16 := btr B15 b16
              have Ra_16 := heap_of b16 _ _ _ Ra_15
              have Rb_16 := heap_of b16 _ _ _ Rb_15
              have Rc_16 := heap_of b16 _ _ _ Rc_15
              have Rz_16 := heap_of b16 _ _ _ Rz_15
              have Rl_16 := heap_of b16 _ _ _ Rl_15
              have Rx_16 := heap_of b16 _ _ _ Rx_15
              have Ry_16 := heap_of b16 _ _ _ Ry_15
              clear b16 B15 Ra_15 Rb_15 Rc_15 cc_15_0 cc_15_1 Rz_15 Rl_15 Rx_15 cx_15_0 cx_15_1 cx_15_2 cx_15_3 Ry_15 cy_15_0 cy_15_1 cy_15_2 cy_15_3
              obtain ⟨cc_16_0, cc_16_1⟩ := cells2s Rc_16
              obtain ⟨cx_16_0, cx_16_1, cx_16_2, cx_16_3⟩ := cells4s Rx_16
              obtain ⟨cy_16_0, cy_16_1, cy_16_2, cy_16_3⟩ := cells4s Ry_16
              have S17 := box B16.size
              have La_17 : Box (w.heap.size < w16.heap.size) := box (Array.getElem?_eq_some_iff.1 Ra_16).1
              have Lb_17 : Box (w.heap.size + 1 < w16.heap.size) := box (Array.getElem?_eq_some_iff.1 Rb_16).1
              have Lc_17 : Box (w.heap.size + 1 + 1 < w16.heap.size) := box (Array.getElem?_eq_some_iff.1 Rc_16).1
              have Lz_17 : Box (w.heap.size + 1 + 1 + 1 < w16.heap.size) := box (Array.getElem?_eq_some_iff.1 Rz_16).1
              have Ll_17 : Box (w.heap.size + 1 + 1 + 1 + 1 < w16.heap.size) := box (Array.getElem?_eq_some_iff.1 Rl_16).1
              have Lx_17 : Box (w12.heap.size < w16.heap.size) := box (Array.getElem?_eq_some_iff.1 Rx_16).1
              have Ly_17 : Box (w14.heap.size < w16.heap.size) := box (Array.getElem?_eq_some_iff.1 Ry_16).1
              have Rt_17 := heap_alloc_last w16 (Obj.cells #[.bool b3, .string n3, .string d3, .int .i64 e3] 70)
              have B17 := btr B16 (bal w16 (Obj.cells #[.bool b3, .string n3, .string d3, .int .i64 e3] 70))
              have Ra_17 := heap_of (bal w16 (Obj.cells #[.bool b3, .string n3, .string d3, .int .i64 e3] 70)) _ _ _ Ra_16
              have Rb_17 := heap_of (bal w16 (Obj.cells #[.bool b3, .string n3, .string d3, .int .i64 e3] 70)) _ _ _ Rb_16
              have Rc_17 := heap_of (bal w16 (Obj.cells #[.bool b3, .string n3, .string d3, .int .i64 e3] 70)) _ _ _ Rc_16
              have Rz_17 := heap_of (bal w16 (Obj.cells #[.bool b3, .string n3, .string d3, .int .i64 e3] 70)) _ _ _ Rz_16
              have Rl_17 := heap_of (bal w16 (Obj.cells #[.bool b3, .string n3, .string d3, .int .i64 e3] 70)) _ _ _ Rl_16
              have Rx_17 := heap_of (bal w16 (Obj.cells #[.bool b3, .string n3, .string d3, .int .i64 e3] 70)) _ _ _ Rx_16
              have Ry_17 := heap_of (bal w16 (Obj.cells #[.bool b3, .string n3, .string d3, .int .i64 e3] 70)) _ _ _ Ry_16
              clear B16 Ra_16 Rb_16 Rc_16 cc_16_0 cc_16_1 Rz_16 Rl_16 Rx_16 cx_16_0 cx_16_1 cx_16_2 cx_16_3 Ry_16 cy_16_0 cy_16_1 cy_16_2 cy_16_3
              obtain ⟨cc_17_0, cc_17_1⟩ := cells2s Rc_17
              obtain ⟨cx_17_0, cx_17_1, cx_17_2, cx_17_3⟩ := cells4s Rx_17
              obtain ⟨cy_17_0, cy_17_1, cy_17_2, cy_17_3⟩ := cells4s Ry_17
              obtain ⟨ct_17_0, ct_17_1, ct_17_2, ct_17_3⟩ := cells4s Rt_17
              clear cc_17_0 cc_17_1
              go_wp2_with fail
              refine (KM.out _).mono ?_
              rintro r w18 ⟨rfl, b18⟩
              have B18 : Below w.heap.size w w18 := btr B17 b18
              have Ra_18 := heap_of b18 _ _ _ Ra_17
              have Rb_18 := heap_of b18 _ _ _ Rb_17
              have Rc_18 := heap_of b18 _ _ _ Rc_17
              have Rz_18 := heap_of b18 _ _ _ Rz_17
              have Rl_18 := heap_of b18 _ _ _ Rl_17
              have Rx_18 := heap_of b18 _ _ _ Rx_17
              have Ry_18 := heap_of b18 _ _ _ Ry_17
              have Rt_18 := heap_of b18 _ _ _ Rt_17
              clear b18 B17 Ra_17 Rb_17 Rc_17 Rz_17 Rl_17 Rx_17 cx_17_0 cx_17_1 cx_17_2 cx_17_3 Ry_17 cy_17_0 cy_17_1 cy_17_2 cy_17_3 Rt_17 ct_17_0 ct_17_1 ct_17_2 ct_17_3
              obtain ⟨cx_18_0, cx_18_1, cx_18_2, cx_18_3⟩ := cells4s Rx_18
              obtain ⟨cy_18_0, cy_18_1, cy_18_2, cy_18_3⟩ := cells4s Ry_18
              obtain ⟨ct_18_0, ct_18_1, ct_18_2, ct_18_3⟩ := cells4s Rt_18
              have S19 := box B18.size
              have La_19 : Box (w.heap.size < w18.heap.size) := box (Array.getElem?_eq_some_iff.1 Ra_18).1
              have Lb_19 : Box (w.heap.size + 1 < w18.heap.size) := box (Array.getElem?_eq_some_iff.1 Rb_18).1
              have Lc_19 : Box (w.heap.size + 1 + 1 < w18.heap.size) := box (Array.getElem?_eq_some_iff.1 Rc_18).1
              have Lz_19 : Box (w.heap.size + 1 + 1 + 1 < w18.heap.size) := box (Array.getElem?_eq_some_iff.1 Rz_18).1
              have Ll_19 : Box (w.heap.size + 1 + 1 + 1 + 1 < w18.heap.size) := box (Array.getElem?_eq_some_iff.1 Rl_18).1
              have Lx_19 : Box (w12.heap.size < w18.heap.size) := box (Array.getElem?_eq_some_iff.1 Rx_18).1
              have Ly_19 : Box (w14.heap.size < w18.heap.size) := box (Array.getElem?_eq_some_iff.1 Ry_18).1
              have Lt_19 : Box (w16.heap.size < w18.heap.size) := box (Array.getElem?_eq_some_iff.1 Rt_18).1
              have Rp_19 := heap_alloc_last w18 (Obj.cells #[.bool b4, .string n4, .string d4, .int .i64 e4] 70)
              have B19 := btr B18 (bal w18 (Obj.cells #[.bool b4, .string n4, .string d4, .int .i64 e4] 70))
              have Ra_19 := heap_of (bal w18 (Obj.cells #[.bool b4, .string n4, .string d4, .int .i64 e4] 70)) _ _ _ Ra_18
              have Rb_19 := heap_of (bal w18 (Obj.cells #[.bool b4, .string n4, .string d4, .int .i64 e4] 70)) _ _ _ Rb_18
              have Rc_19 := heap_of (bal w18 (Obj.cells #[.bool b4, .string n4, .string d4, .int .i64 e4] 70)) _ _ _ Rc_18
              have Rz_19 := heap_of (bal w18 (Obj.cells #[.bool b4, .string n4, .string d4, .int .i64 e4] 70)) _ _ _ Rz_18
              have Rl_19 := heap_of (bal w18 (Obj.cells #[.bool b4, .string n4, .string d4, .int .i64 e4] 70)) _ _ _ Rl_18
              have Rx_19 := heap_of (bal w18 (Obj.cells #[.bool b4, .string n4, .string d4, .int .i64 e4] 70)) _ _ _ Rx_18
              have Ry_19 := heap_of (bal w18 (Obj.cells #[.bool b4, .string n4, .string d4, .int .i64 e4] 70)) _ _ _ Ry_18
              have Rt_19 := heap_of (bal w18 (Obj.cells #[.bool b4, .string n4, .string d4, .int .i64 e4] 70)) _ _ _ Rt_18
              clear B18 Ra_18 Rb_18 Rc_18 Rz_18 Rl_18 Rx_18 cx_18_0 cx_18_1 cx_18_2 cx_18_3 Ry_18 cy_18_0 cy_18_1 cy_18_2 cy_18_3 Rt_18 ct_18_0 ct_18_1 ct_18_2 ct_18_3
              obtain ⟨cx_19_0, cx_19_1, cx_19_2, cx_19_3⟩ := cells4s Rx_19
              obtain ⟨cy_19_0, cy_19_1, cy_19_2, cy_19_3⟩ := cells4s Ry_19
              obtain ⟨ct_19_0, ct_19_1, ct_19_2, ct_19_3⟩ := cells4s Rt_19
              obtain ⟨cp_19_0, cp_19_1, cp_19_2, cp_19_3⟩ := cells4s Rp_19
              clear cx_19_0 cx_19_1 cx_19_2 cx_19_3
              clear cy_19_0 cy_19_1 cy_19_2 cy_19_3
              go_wp2_with fail
              refine (KA.out _).mono ?_
              rintro r w20 ⟨rfl, b20⟩
              have B20 : Below w.heap.size w w20 := btr B19 b20
              have Ra_20 := heap_of b20 _ _ _ Ra_19
              have Rb_20 := heap_of b20 _ _ _ Rb_19
              have Rc_20 := heap_of b20 _ _ _ Rc_19
              have Rz_20 := heap_of b20 _ _ _ Rz_19
              have Rl_20 := heap_of b20 _ _ _ Rl_19
              have Rx_20 := heap_of b20 _ _ _ Rx_19
              have Ry_20 := heap_of b20 _ _ _ Ry_19
              have Rt_20 := heap_of b20 _ _ _ Rt_19
              have Rp_20 := heap_of b20 _ _ _ Rp_19
              clear b20 B19 Ra_19 Rb_19 Rc_19 Rz_19 Rl_19 Rx_19 Ry_19 Rt_19 ct_19_0 ct_19_1 ct_19_2 ct_19_3 Rp_19 cp_19_0 cp_19_1 cp_19_2 cp_19_3
              obtain ⟨ct_20_0, ct_20_1, ct_20_2, ct_20_3⟩ := cells4s Rt_20
              obtain ⟨cp_20_0, cp_20_1, cp_20_2, cp_20_3⟩ := cells4s Rp_20
              have S21 := box B20.size
              have La_21 : Box (w.heap.size < w20.heap.size) := box (Array.getElem?_eq_some_iff.1 Ra_20).1
              have Lb_21 : Box (w.heap.size + 1 < w20.heap.size) := box (Array.getElem?_eq_some_iff.1 Rb_20).1
              have Lc_21 : Box (w.heap.size + 1 + 1 < w20.heap.size) := box (Array.getElem?_eq_some_iff.1 Rc_20).1
              have Lz_21 : Box (w.heap.size + 1 + 1 + 1 < w20.heap.size) := box (Array.getElem?_eq_some_iff.1 Rz_20).1
              have Ll_21 : Box (w.heap.size + 1 + 1 + 1 + 1 < w20.heap.size) := box (Array.getElem?_eq_some_iff.1 Rl_20).1
              have Lx_21 : Box (w12.heap.size < w20.heap.size) := box (Array.getElem?_eq_some_iff.1 Rx_20).1
              have Ly_21 : Box (w14.heap.size < w20.heap.size) := box (Array.getElem?_eq_some_iff.1 Ry_20).1
              have Lt_21 : Box (w16.heap.size < w20.heap.size) := box (Array.getElem?_eq_some_iff.1 Rt_20).1
              have Lp_21 : Box (w18.heap.size < w20.heap.size) := box (Array.getElem?_eq_some_iff.1 Rp_20).1
              have Rs_21 := heap_alloc_last w20 (Obj.cells #[.bool b5, .string n5, .string d5, .int .i64 e5] 70)
              have B21 := btr B20 (bal w20 (Obj.cells #[.bool b5, .string n5, .string d5, .int .i64 e5] 70))
              have Ra_21 := heap_of (bal w20 (Obj.cells #[.bool b5, .string n5, .string d5, .int .i64 e5] 70)) _ _ _ Ra_20
              have Rb_21 := heap_of (bal w20 (Obj.cells #[.bool b5, .string n5, .string d5, .int .i64 e5] 70)) _ _ _ Rb_20
              have Rc_21 := heap_of (bal w20 (Obj.cells #[.bool b5, .string n5, .string d5, .int .i64 e5] 70)) _ _ _ Rc_20
              have Rz_21 := heap_of (bal w20 (Obj.cells #[.bool b5, .string n5, .string d5, .int .i64 e5] 70)) _ _ _ Rz_20
              have Rl_21 := heap_of (bal w20 (Obj.cells #[.bool b5, .string n5, .string d5, .int .i64 e5] 70)) _ _ _ Rl_20
              have Rx_21 := heap_of (bal w20 (Obj.cells #[.bool b5, .string n5, .string d5, .int .i64 e5] 70)) _ _ _ Rx_20
              have Ry_21 := heap_of (bal w20 (Obj.cells #[.bool b5, .string n5, .string d5, .int .i64 e5] 70)) _ _ _ Ry_20
              have Rt_21 := heap_of (bal w20 (Obj.cells #[.bool b5, .string n5, .string d5, .int .i64 e5] 70)) _ _ _ Rt_20
              have Rp_21 := heap_of (bal w20 (Obj.cells #[.bool b5, .string n5, .string d5, .int .i64 e5] 70)) _ _ _ Rp_20
              clear B20 Ra_20 Rb_20 Rc_20 Rz_20 Rl_20 Rx_20 Ry_20 Rt_20 ct_20_0 ct_20_1 ct_20_2 ct_20_3 Rp_20 cp_20_0 cp_20_1 cp_20_2 cp_20_3
              obtain ⟨ct_21_0, ct_21_1, ct_21_2, ct_21_3⟩ := cells4s Rt_21
              obtain ⟨cp_21_0, cp_21_1, cp_21_2, cp_21_3⟩ := cells4s Rp_21
              obtain ⟨cs_21_0, cs_21_1, cs_21_2, cs_21_3⟩ := cells4s Rs_21
              clear ct_21_0 ct_21_1 ct_21_2 ct_21_3
              clear cp_21_0 cp_21_1 cp_21_2 cp_21_3
              rcases Hbbbbc.out with ⟨he, KR⟩ | ⟨he, KR, rfl⟩
              · clear Hbbbbc
                go_wp2_with fail
                refine (KR.out _).mono ?_
                rintro r w22 ⟨rfl, b22⟩
                have B22 : Below w.heap.size w w22 := btr B21 b22
                have Ra_22 := heap_of b22 _ _ _ Ra_21
                have Rb_22 := heap_of b22 _ _ _ Rb_21
                have Rc_22 := heap_of b22 _ _ _ Rc_21
                have Rz_22 := heap_of b22 _ _ _ Rz_21
                have Rl_22 := heap_of b22 _ _ _ Rl_21
                have Rx_22 := heap_of b22 _ _ _ Rx_21
                have Ry_22 := heap_of b22 _ _ _ Ry_21
                have Rt_22 := heap_of b22 _ _ _ Rt_21
                have Rp_22 := heap_of b22 _ _ _ Rp_21
                have Rs_22 := heap_of b22 _ _ _ Rs_21
                clear b22 B21 Ra_21 Rb_21 Rc_21 Rz_21 Rl_21 Rx_21 Ry_21 Rt_21 Rp_21 Rs_21 cs_21_0 cs_21_1 cs_21_2 cs_21_3
                obtain ⟨cs_22_0, cs_22_1, cs_22_2, cs_22_3⟩ := cells4s Rs_22
                obtain ⟨cz_22_0, cz_22_1⟩ := cells2s Rz_22
                have q0 := fz (k := 0) Rz_22
                have q1 := fz (k := 1) Rz_22
                obtain ⟨E0, E1⟩ := set2_cells Rz_22 (.int .u64 (u : Nat)) (.int .u64 (v : Nat))
                go_wp2
                exact bodyPost_ret (v := .tuple #[.agg #[.int .u64 (u : Nat), .int .u64 (v : Nat)], .int .u8 fl, .int .i64 0]) (by simp [results, Tryz.results13, go_sem, E0, E1]) rfl ⟨rfl, set2_below B22 (by first | exact Nat.le_refl _ | omega | (have := S13.out; have := La_13.out; have := Lb_13.out; have := Lc_13.out; have := Lz_13.out; have := Ll_13.out; have := S15.out; have := La_15.out; have := Lb_15.out; have := Lc_15.out; have := Lz_15.out; have := Ll_15.out; have := Lx_15.out; have := S17.out; have := La_17.out; have := Lb_17.out; have := Lc_17.out; have := Lz_17.out; have := Ll_17.out; have := Lx_17.out; have := Ly_17.out; have := S19.out; have := La_19.out; have := Lb_19.out; have := Lc_19.out; have := Lz_19.out; have := Ll_19.out; have := Lx_19.out; have := Ly_19.out; have := Lt_19.out; have := S21.out; have := La_21.out; have := Lb_21.out; have := Lc_21.out; have := Lz_21.out; have := Ll_21.out; have := Lx_21.out; have := Ly_21.out; have := Lt_21.out; have := Lp_21.out; omega)) _ _⟩
              · clear Hbbbbc
                go_wp2_with fail
                refine (KR.out _).mono ?_
                rintro r w22 ⟨rfl, b22⟩
                have B22 : Below w.heap.size w w22 := btr B21 b22
                have Ra_22 := heap_of b22 _ _ _ Ra_21
                have Rb_22 := heap_of b22 _ _ _ Rb_21
                have Rc_22 := heap_of b22 _ _ _ Rc_21
                have Rz_22 := heap_of b22 _ _ _ Rz_21
                have Rl_22 := heap_of b22 _ _ _ Rl_21
                have Rx_22 := heap_of b22 _ _ _ Rx_21
                have Ry_22 := heap_of b22 _ _ _ Ry_21
                have Rt_22 := heap_of b22 _ _ _ Rt_21
                have Rp_22 := heap_of b22 _ _ _ Rp_21
                have Rs_22 := heap_of b22 _ _ _ Rs_21
                clear b22 B21 Ra_21 Rb_21 Rc_21 Rz_21 Rl_21 Rx_21 Ry_21 Rt_21 Rp_21 Rs_21 cs_21_0 cs_21_1 cs_21_2 cs_21_3
                obtain ⟨cs_22_0, cs_22_1, cs_22_2, cs_22_3⟩ := cells4s Rs_22
                obtain ⟨cz_22_0, cz_22_1⟩ := cells2s Rz_22
                have q0 := fz (k := 0) Rz_22
                have q1 := fz (k := 1) Rz_22
                obtain ⟨E0, E1⟩ := set2_cells Rz_22 (.int .u64 (u : Nat)) (.int .u64 (v : Nat))
                go_wp2
                exact bodyPost_ret (v := .tuple #[.agg #[.int .u64 (u : Nat), .int .u64 (v : Nat)], .int .u8 0, .int .i64 0]) (by simp [results, Tryz.results13, go_sem, E0, E1]) rfl ⟨rfl, set2_below B22 (by first | exact Nat.le_refl _ | omega | (have := S13.out; have := La_13.out; have := Lb_13.out; have := Lc_13.out; have := Lz_13.out; have := Ll_13.out; have := S15.out; have := La_15.out; have := Lb_15.out; have := Lc_15.out; have := Lz_15.out; have := Ll_15.out; have := Lx_15.out; have := S17.out; have := La_17.out; have := Lb_17.out; have := Lc_17.out; have := Lz_17.out; have := Ll_17.out; have := Lx_17.out; have := Ly_17.out; have := S19.out; have := La_19.out; have := Lb_19.out; have := Lc_19.out; have := Lz_19.out; have := Ll_19.out; have := Lx_19.out; have := Ly_19.out; have := Lt_19.out; have := S21.out; have := La_21.out; have := Lb_21.out; have := Lc_21.out; have := Lz_21.out; have := Ll_21.out; have := Lx_21.out; have := Ly_21.out; have := Lt_21.out; have := Lp_21.out; omega)) _ _⟩
set_option maxRecDepth 100000 in
set_option maxHeartbeats 8000000 in
theorem rfm_fin (f m : Int) (x1 y1 x2 y2 x3 y3 u v : Nat) (fl : Int) (s1 s2 s3 neg : Bool) (hng : (!(s1 == s2)) = neg) (b1 : Bool) (n1 d1 : ByteArray) (e1 : Int) (b2 : Bool) (n2 d2 : ByteArray) (e2 : Int) (b3 : Bool) (n3 d3 : ByteArray) (e3 : Int) (b4 : Bool) (n4 d4 : ByteArray) (e4 : Int) (b5 : Bool) (n5 d5 : ByteArray) (e5 : Int) (w : World)
    (KF : Box (∀ (T : TypeId) (g : Nat) (w : World), w.heap[g]? = some (.cells #[.int .u64 (x1 : Nat), .int .u64 (y1 : Nat), .int .u64 (x2 : Nat), .int .u64 (y2 : Nat), .int .u64 (x3 : Nat), .int .u64 (y3 : Nat)] T) → Calls Tryz.prog 40 #[.int .u8 f, .int .u8 m, .slice (some ⟨g, 0, none⟩) 3 3] w fun r w' => r = .returned (.bool true) ∧ Below w.heap.size w w'))
    (KI1 : Box (∀ w, Calls Tryz.prog 31 #[.int .u8 f, .agg #[.int .u64 (x1 : Nat), .int .u64 (y1 : Nat)]] w fun r w' => r = .returned (.bool false) ∧ Below w.heap.size w w'))
    (KI2 : Box (∀ w, Calls Tryz.prog 31 #[.int .u8 f, .agg #[.int .u64 (x2 : Nat), .int .u64 (y2 : Nat)]] w fun r w' => r = .returned (.bool false) ∧ Below w.heap.size w w'))
    (KZ1 : Box (∀ w, Calls Tryz.prog 44 #[.int .u8 f, .agg #[.int .u64 (x1 : Nat), .int .u64 (y1 : Nat)]] w fun r w' => r = .returned (.bool false) ∧ Below w.heap.size w w'))
    (KZ2 : Box (∀ w, Calls Tryz.prog 44 #[.int .u8 f, .agg #[.int .u64 (x2 : Nat), .int .u64 (y2 : Nat)]] w fun r w' => r = .returned (.bool false) ∧ Below w.heap.size w w'))
    (H : Box ((Box (∀ w, Calls Tryz.prog 41 #[.int .u8 f, .agg #[.int .u64 (x1 : Nat), .int .u64 (y1 : Nat)]] w fun r w' => r = .returned (.bool true) ∧ Below w.heap.size w w') ∧ Box (∀ (T : TypeId) (g : Nat) (w : World), w.heap[g]? = some (.cells #[.int .u64 (x1 : Nat), .int .u64 (y1 : Nat), .int .u64 (x2 : Nat), .int .u64 (y2 : Nat), .int .u64 (x3 : Nat), .int .u64 (y3 : Nat)] T) → Calls Tryz.prog 42 #[.int .u8 f, .slice (some ⟨g, 0, none⟩) 3 3] w fun r w' => r = .returned (.tuple #[.agg #[.int .u64 (u : Nat), .int .u64 (v : Nat)], .int .u8 fl]) ∧ Below w.heap.size w w')) ∨ (Box (∀ w, Calls Tryz.prog 41 #[.int .u8 f, .agg #[.int .u64 (x1 : Nat), .int .u64 (y1 : Nat)]] w fun r w' => r = .returned (.bool false) ∧ Below w.heap.size w w') ∧ Box ((Box (∀ w, Calls Tryz.prog 41 #[.int .u8 f, .agg #[.int .u64 (x2 : Nat), .int .u64 (y2 : Nat)]] w fun r w' => r = .returned (.bool true) ∧ Below w.heap.size w w') ∧ Box (∀ (T : TypeId) (g : Nat) (w : World), w.heap[g]? = some (.cells #[.int .u64 (x1 : Nat), .int .u64 (y1 : Nat), .int .u64 (x2 : Nat), .int .u64 (y2 : Nat), .int .u64 (x3 : Nat), .int .u64 (y3 : Nat)] T) → Calls Tryz.prog 42 #[.int .u8 f, .slice (some ⟨g, 0, none⟩) 3 3] w fun r w' => r = .returned (.tuple #[.agg #[.int .u64 (u : Nat), .int .u64 (v : Nat)], .int .u8 fl]) ∧ Below w.heap.size w w')) ∨ (Box (∀ w, Calls Tryz.prog 41 #[.int .u8 f, .agg #[.int .u64 (x2 : Nat), .int .u64 (y2 : Nat)]] w fun r w' => r = .returned (.bool false) ∧ Below w.heap.size w w') ∧ Box ((Box (∀ w, Calls Tryz.prog 41 #[.int .u8 f, .agg #[.int .u64 (x3 : Nat), .int .u64 (y3 : Nat)]] w fun r w' => r = .returned (.bool true) ∧ Below w.heap.size w w') ∧ Box (∀ (T : TypeId) (g : Nat) (w : World), w.heap[g]? = some (.cells #[.int .u64 (x1 : Nat), .int .u64 (y1 : Nat), .int .u64 (x2 : Nat), .int .u64 (y2 : Nat), .int .u64 (x3 : Nat), .int .u64 (y3 : Nat)] T) → Calls Tryz.prog 42 #[.int .u8 f, .slice (some ⟨g, 0, none⟩) 3 3] w fun r w' => r = .returned (.tuple #[.agg #[.int .u64 (u : Nat), .int .u64 (v : Nat)], .int .u8 fl]) ∧ Below w.heap.size w w')) ∨ (Box (∀ w, Calls Tryz.prog 41 #[.int .u8 f, .agg #[.int .u64 (x3 : Nat), .int .u64 (y3 : Nat)]] w fun r w' => r = .returned (.bool false) ∧ Below w.heap.size w w') ∧ Box (∀ w, Calls Tryz.prog 43 #[.int .u8 f, .agg #[.int .u64 (x1 : Nat), .int .u64 (y1 : Nat)]] w fun r w' => r = .returned (.bool s1) ∧ Below w.heap.size w w') ∧ Box (∀ w, Calls Tryz.prog 43 #[.int .u8 f, .agg #[.int .u64 (x2 : Nat), .int .u64 (y2 : Nat)]] w fun r w' => r = .returned (.bool s2) ∧ Below w.heap.size w w') ∧ Box ((Box (∀ w, Calls Tryz.prog 31 #[.int .u8 f, .agg #[.int .u64 (x3 : Nat), .int .u64 (y3 : Nat)]] w fun r w' => r = .returned (.bool true) ∧ Below w.heap.size w w') ∧ x3 = u ∧ y3 = v ∧ fl = 0) ∨ (Box (∀ w, Calls Tryz.prog 31 #[.int .u8 f, .agg #[.int .u64 (x3 : Nat), .int .u64 (y3 : Nat)]] w fun r w' => r = .returned (.bool false) ∧ Below w.heap.size w w') ∧ Box (∀ w, Calls Tryz.prog 48 #[.int .u8 f, .agg #[.int .u64 (x1 : Nat), .int .u64 (y1 : Nat)]] w fun r w' => r = .returned (.tuple #[.agg #[.bool b1, .string n1, .string d1, .int .i64 e1], .int .i64 0]) ∧ Below w.heap.size w w') ∧ Box (∀ w, Calls Tryz.prog 48 #[.int .u8 f, .agg #[.int .u64 (x2 : Nat), .int .u64 (y2 : Nat)]] w fun r w' => r = .returned (.tuple #[.agg #[.bool b2, .string n2, .string d2, .int .i64 e2], .int .i64 0]) ∧ Below w.heap.size w w') ∧ Box (∀ w, Calls Tryz.prog 48 #[.int .u8 f, .agg #[.int .u64 (x3 : Nat), .int .u64 (y3 : Nat)]] w fun r w' => r = .returned (.tuple #[.agg #[.bool b3, .string n3, .string d3, .int .i64 e3], .int .i64 0]) ∧ Below w.heap.size w w') ∧ Box (∀ w, Calls Tryz.prog 53 #[.agg #[.bool b1, .string n1, .string d1, .int .i64 e1], .agg #[.bool b2, .string n2, .string d2, .int .i64 e2]] w fun r w' => r = .returned (.tuple #[.agg #[.bool b4, .string n4, .string d4, .int .i64 e4], .int .i64 0]) ∧ Below w.heap.size w w') ∧ Box (∀ w, Calls Tryz.prog 54 #[.agg #[.bool b4, .string n4, .string d4, .int .i64 e4], .agg #[.bool b3, .string n3, .string d3, .int .i64 e3]] w fun r w' => r = .returned (.tuple #[.agg #[.bool b5, .string n5, .string d5, .int .i64 e5], .int .i64 0]) ∧ Below w.heap.size w w') ∧ Box ((n5.toList.isEmpty = false ∧ Box (∀ w, Calls Tryz.prog 50 #[.int .u8 f, .int .u8 m, .agg #[.bool b5, .string n5, .string d5, .int .i64 e5]] w fun r w' => r = .returned (.tuple #[.agg #[.int .u64 (u : Nat), .int .u64 (v : Nat)], .int .u8 fl, .int .i64 0]) ∧ Below w.heap.size w w')) ∨ (n5.toList.isEmpty = true ∧ Box (∀ w, Calls Tryz.prog 52 #[.int .u8 f, .int .u8 m] w fun r w' => r = .returned (.agg #[.int .u64 (u : Nat), .int .u64 (v : Nat)]) ∧ Below w.heap.size w w') ∧ fl = 0)))))))))))
    : Calls Tryz.prog 13 #[.int .u8 f, .int .u8 m, .agg #[.int .u64 (x1 : Nat), .int .u64 (y1 : Nat)], .agg #[.int .u64 (x2 : Nat), .int .u64 (y2 : Nat)], .agg #[.int .u64 (x3 : Nat), .int .u64 (y3 : Nat)]] w fun r w' => r = .returned (.tuple #[.agg #[.int .u64 (u : Nat), .int .u64 (v : Nat)], .int .u8 fl, .int .i64 0]) ∧ Below w.heap.size w w' := by
  have Ra_0 : (((((w.alloc (Obj.cells #[.int .u64 (x1 : Nat), .int .u64 (y1 : Nat)] 26)).alloc (Obj.cells #[.int .u64 (x2 : Nat), .int .u64 (y2 : Nat)] 26)).alloc (Obj.cells #[.int .u64 (x3 : Nat), .int .u64 (y3 : Nat)] 26)).alloc (Obj.cells #[.int .u64 0, .int .u64 0] 26)).alloc (Obj.cells #[.int .u64 (x1 : Nat), .int .u64 (y1 : Nat), .int .u64 (x2 : Nat), .int .u64 (y2 : Nat), .int .u64 (x3 : Nat), .int .u64 (y3 : Nat)] 26)).heap[w.heap.size]? = some (Obj.cells #[.int .u64 (x1 : Nat), .int .u64 (y1 : Nat)] 26) := by rw [heap_below _ _ _ (by simp only [size_al]; omega), heap_below _ _ _ (by simp only [size_al]; omega), heap_below _ _ _ (by simp only [size_al]; omega), heap_below _ _ _ (by simp only [size_al]; omega)]; have := heap_alloc_last w (Obj.cells #[.int .u64 (x1 : Nat), .int .u64 (y1 : Nat)] 26); simpa only [size_al] using this
  have Rb_0 : (((((w.alloc (Obj.cells #[.int .u64 (x1 : Nat), .int .u64 (y1 : Nat)] 26)).alloc (Obj.cells #[.int .u64 (x2 : Nat), .int .u64 (y2 : Nat)] 26)).alloc (Obj.cells #[.int .u64 (x3 : Nat), .int .u64 (y3 : Nat)] 26)).alloc (Obj.cells #[.int .u64 0, .int .u64 0] 26)).alloc (Obj.cells #[.int .u64 (x1 : Nat), .int .u64 (y1 : Nat), .int .u64 (x2 : Nat), .int .u64 (y2 : Nat), .int .u64 (x3 : Nat), .int .u64 (y3 : Nat)] 26)).heap[w.heap.size + 1]? = some (Obj.cells #[.int .u64 (x2 : Nat), .int .u64 (y2 : Nat)] 26) := by rw [heap_below _ _ _ (by simp only [size_al]; omega), heap_below _ _ _ (by simp only [size_al]; omega), heap_below _ _ _ (by simp only [size_al]; omega)]; have := heap_alloc_last (w.alloc (Obj.cells #[.int .u64 (x1 : Nat), .int .u64 (y1 : Nat)] 26)) (Obj.cells #[.int .u64 (x2 : Nat), .int .u64 (y2 : Nat)] 26); simpa only [size_al] using this
  have Rc_0 : (((((w.alloc (Obj.cells #[.int .u64 (x1 : Nat), .int .u64 (y1 : Nat)] 26)).alloc (Obj.cells #[.int .u64 (x2 : Nat), .int .u64 (y2 : Nat)] 26)).alloc (Obj.cells #[.int .u64 (x3 : Nat), .int .u64 (y3 : Nat)] 26)).alloc (Obj.cells #[.int .u64 0, .int .u64 0] 26)).alloc (Obj.cells #[.int .u64 (x1 : Nat), .int .u64 (y1 : Nat), .int .u64 (x2 : Nat), .int .u64 (y2 : Nat), .int .u64 (x3 : Nat), .int .u64 (y3 : Nat)] 26)).heap[w.heap.size + 1 + 1]? = some (Obj.cells #[.int .u64 (x3 : Nat), .int .u64 (y3 : Nat)] 26) := by rw [heap_below _ _ _ (by simp only [size_al]; omega), heap_below _ _ _ (by simp only [size_al]; omega)]; have := heap_alloc_last ((w.alloc (Obj.cells #[.int .u64 (x1 : Nat), .int .u64 (y1 : Nat)] 26)).alloc (Obj.cells #[.int .u64 (x2 : Nat), .int .u64 (y2 : Nat)] 26)) (Obj.cells #[.int .u64 (x3 : Nat), .int .u64 (y3 : Nat)] 26); simpa only [size_al] using this
  have Rz_0 : (((((w.alloc (Obj.cells #[.int .u64 (x1 : Nat), .int .u64 (y1 : Nat)] 26)).alloc (Obj.cells #[.int .u64 (x2 : Nat), .int .u64 (y2 : Nat)] 26)).alloc (Obj.cells #[.int .u64 (x3 : Nat), .int .u64 (y3 : Nat)] 26)).alloc (Obj.cells #[.int .u64 0, .int .u64 0] 26)).alloc (Obj.cells #[.int .u64 (x1 : Nat), .int .u64 (y1 : Nat), .int .u64 (x2 : Nat), .int .u64 (y2 : Nat), .int .u64 (x3 : Nat), .int .u64 (y3 : Nat)] 26)).heap[w.heap.size + 1 + 1 + 1]? = some (Obj.cells #[.int .u64 0, .int .u64 0] 26) := by rw [heap_below _ _ _ (by simp only [size_al]; omega)]; have := heap_alloc_last (((w.alloc (Obj.cells #[.int .u64 (x1 : Nat), .int .u64 (y1 : Nat)] 26)).alloc (Obj.cells #[.int .u64 (x2 : Nat), .int .u64 (y2 : Nat)] 26)).alloc (Obj.cells #[.int .u64 (x3 : Nat), .int .u64 (y3 : Nat)] 26)) (Obj.cells #[.int .u64 0, .int .u64 0] 26); simpa only [size_al] using this
  have Rl_0 : (((((w.alloc (Obj.cells #[.int .u64 (x1 : Nat), .int .u64 (y1 : Nat)] 26)).alloc (Obj.cells #[.int .u64 (x2 : Nat), .int .u64 (y2 : Nat)] 26)).alloc (Obj.cells #[.int .u64 (x3 : Nat), .int .u64 (y3 : Nat)] 26)).alloc (Obj.cells #[.int .u64 0, .int .u64 0] 26)).alloc (Obj.cells #[.int .u64 (x1 : Nat), .int .u64 (y1 : Nat), .int .u64 (x2 : Nat), .int .u64 (y2 : Nat), .int .u64 (x3 : Nat), .int .u64 (y3 : Nat)] 26)).heap[w.heap.size + 1 + 1 + 1 + 1]? = some (Obj.cells #[.int .u64 (x1 : Nat), .int .u64 (y1 : Nat), .int .u64 (x2 : Nat), .int .u64 (y2 : Nat), .int .u64 (x3 : Nat), .int .u64 (y3 : Nat)] 26) := by have := heap_alloc_last ((((w.alloc (Obj.cells #[.int .u64 (x1 : Nat), .int .u64 (y1 : Nat)] 26)).alloc (Obj.cells #[.int .u64 (x2 : Nat), .int .u64 (y2 : Nat)] 26)).alloc (Obj.cells #[.int .u64 (x3 : Nat), .int .u64 (y3 : Nat)] 26)).alloc (Obj.cells #[.int .u64 0, .int .u64 0] 26)) (Obj.cells #[.int .u64 (x1 : Nat), .int .u64 (y1 : Nat), .int .u64 (x2 : Nat), .int .u64 (y2 : Nat), .int .u64 (x3 : Nat), .int .u64 (y3 : Nat)] 26); simpa only [size_al] using this
  have B0 : Below w.heap.size w (((((w.alloc (Obj.cells #[.int .u64 (x1 : Nat), .int .u64 (y1 : Nat)] 26)).alloc (Obj.cells #[.int .u64 (x2 : Nat), .int .u64 (y2 : Nat)] 26)).alloc (Obj.cells #[.int .u64 (x3 : Nat), .int .u64 (y3 : Nat)] 26)).alloc (Obj.cells #[.int .u64 0, .int .u64 0] 26)).alloc (Obj.cells #[.int .u64 (x1 : Nat), .int .u64 (y1 : Nat), .int .u64 (x2 : Nat), .int .u64 (y2 : Nat), .int .u64 (x3 : Nat), .int .u64 (y3 : Nat)] 26)) := ((((((Below.refl _ _).alloc (by first | omega | (simp only [size_al]; omega)) _).alloc (by first | omega | (simp only [size_al]; omega)) _).alloc (by first | omega | (simp only [size_al]; omega)) _).alloc (by first | omega | (simp only [size_al]; omega)) _).alloc (by first | omega | (simp only [size_al]; omega)) _)
  go_enter Tryz.func13, Tryz.ntmps13
  obtain ⟨ca_0_0, ca_0_1⟩ := cells2s Ra_0
  obtain ⟨cb_0_0, cb_0_1⟩ := cells2s Rb_0
  obtain ⟨cc_0_0, cc_0_1⟩ := cells2s Rc_0
  go_wp2_with fail
  refine (KF.out _ _ _ (by assumption)).mono ?_
  rintro r w1 ⟨rfl, b1⟩
  have B1 : Below w.heap.size w w1 := btr B0 b1
  have Ra_1 := heap_of b1 _ _ _ Ra_0
  have Rb_1 := heap_of b1 _ _ _ Rb_0
  have Rc_1 := heap_of b1 _ _ _ Rc_0
  have Rz_1 := heap_of b1 _ _ _ Rz_0
  have Rl_1 := heap_of b1 _ _ _ Rl_0
  clear b1 B0 Ra_0 ca_0_0 ca_0_1 Rb_0 cb_0_0 cb_0_1 Rc_0 cc_0_0 cc_0_1 Rz_0 Rl_0
  obtain ⟨ca_1_0, ca_1_1⟩ := cells2s Ra_1
  obtain ⟨cb_1_0, cb_1_1⟩ := cells2s Rb_1
  obtain ⟨cc_1_0, cc_1_1⟩ := cells2s Rc_1
  go_wp2_with fail
  refine (KI1.out _).mono ?_
  rintro r w2 ⟨rfl, b2⟩
  have B2 : Below w.heap.size w w2 := btr B1 b2
  have Ra_2 := heap_of b2 _ _ _ Ra_1
  have Rb_2 := heap_of b2 _ _ _ Rb_1
  have Rc_2 := heap_of b2 _ _ _ Rc_1
  have Rz_2 := heap_of b2 _ _ _ Rz_1
  have Rl_2 := heap_of b2 _ _ _ Rl_1
  clear b2 B1 Ra_1 ca_1_0 ca_1_1 Rb_1 cb_1_0 cb_1_1 Rc_1 cc_1_0 cc_1_1 Rz_1 Rl_1
  obtain ⟨ca_2_0, ca_2_1⟩ := cells2s Ra_2
  obtain ⟨cb_2_0, cb_2_1⟩ := cells2s Rb_2
  obtain ⟨cc_2_0, cc_2_1⟩ := cells2s Rc_2
  go_wp2_with fail
  refine (KI2.out _).mono ?_
  rintro r w3 ⟨rfl, b3⟩
  have B3 : Below w.heap.size w w3 := btr B2 b3
  have Ra_3 := heap_of b3 _ _ _ Ra_2
  have Rb_3 := heap_of b3 _ _ _ Rb_2
  have Rc_3 := heap_of b3 _ _ _ Rc_2
  have Rz_3 := heap_of b3 _ _ _ Rz_2
  have Rl_3 := heap_of b3 _ _ _ Rl_2
  clear b3 B2 Ra_2 ca_2_0 ca_2_1 Rb_2 cb_2_0 cb_2_1 Rc_2 cc_2_0 cc_2_1 Rz_2 Rl_2
  obtain ⟨ca_3_0, ca_3_1⟩ := cells2s Ra_3
  obtain ⟨cb_3_0, cb_3_1⟩ := cells2s Rb_3
  obtain ⟨cc_3_0, cc_3_1⟩ := cells2s Rc_3
  go_wp2_with fail
  refine (KZ1.out _).mono ?_
  rintro r w4 ⟨rfl, b4⟩
  have B4 : Below w.heap.size w w4 := btr B3 b4
  have Ra_4 := heap_of b4 _ _ _ Ra_3
  have Rb_4 := heap_of b4 _ _ _ Rb_3
  have Rc_4 := heap_of b4 _ _ _ Rc_3
  have Rz_4 := heap_of b4 _ _ _ Rz_3
  have Rl_4 := heap_of b4 _ _ _ Rl_3
  clear b4 B3 Ra_3 ca_3_0 ca_3_1 Rb_3 cb_3_0 cb_3_1 Rc_3 cc_3_0 cc_3_1 Rz_3 Rl_3
  obtain ⟨ca_4_0, ca_4_1⟩ := cells2s Ra_4
  obtain ⟨cb_4_0, cb_4_1⟩ := cells2s Rb_4
  obtain ⟨cc_4_0, cc_4_1⟩ := cells2s Rc_4
  go_wp2_with fail
  refine (KZ2.out _).mono ?_
  rintro r w5 ⟨rfl, b5⟩
  have B5 : Below w.heap.size w w5 := btr B4 b5
  have Ra_5 := heap_of b5 _ _ _ Ra_4
  have Rb_5 := heap_of b5 _ _ _ Rb_4
  have Rc_5 := heap_of b5 _ _ _ Rc_4
  have Rz_5 := heap_of b5 _ _ _ Rz_4
  have Rl_5 := heap_of b5 _ _ _ Rl_4
  clear b5 B4 Ra_4 ca_4_0 ca_4_1 Rb_4 cb_4_0 cb_4_1 Rc_4 cc_4_0 cc_4_1 Rz_4 Rl_4
  obtain ⟨ca_5_0, ca_5_1⟩ := cells2s Ra_5
  obtain ⟨cb_5_0, cb_5_1⟩ := cells2s Rb_5
  obtain ⟨cc_5_0, cc_5_1⟩ := cells2s Rc_5
  rcases H.out with ⟨KN1, KC⟩ | ⟨KN1, Hb⟩
  · clear H
    go_wp2_with fail
    refine (KN1.out _).mono ?_
    rintro r w6 ⟨rfl, b6⟩
    have B6 : Below w.heap.size w w6 := btr B5 b6
    have Ra_6 := heap_of b6 _ _ _ Ra_5
    have Rb_6 := heap_of b6 _ _ _ Rb_5
    have Rc_6 := heap_of b6 _ _ _ Rc_5
    have Rz_6 := heap_of b6 _ _ _ Rz_5
    have Rl_6 := heap_of b6 _ _ _ Rl_5
    clear b6 B5 Ra_5 ca_5_0 ca_5_1 Rb_5 cb_5_0 cb_5_1 Rc_5 cc_5_0 cc_5_1 Rz_5 Rl_5
    obtain ⟨ca_6_0, ca_6_1⟩ := cells2s Ra_6
    obtain ⟨cb_6_0, cb_6_1⟩ := cells2s Rb_6
    obtain ⟨cc_6_0, cc_6_1⟩ := cells2s Rc_6
    go_wp2_with fail
    refine (KC.out _ _ _ (by assumption)).mono ?_
    rintro r w7 ⟨rfl, b7⟩
    have B7 : Below w.heap.size w w7 := btr B6 b7
    have Ra_7 := heap_of b7 _ _ _ Ra_6
    have Rb_7 := heap_of b7 _ _ _ Rb_6
    have Rc_7 := heap_of b7 _ _ _ Rc_6
    have Rz_7 := heap_of b7 _ _ _ Rz_6
    have Rl_7 := heap_of b7 _ _ _ Rl_6
    clear b7 B6 Ra_6 ca_6_0 ca_6_1 Rb_6 cb_6_0 cb_6_1 Rc_6 cc_6_0 cc_6_1 Rz_6 Rl_6
    obtain ⟨ca_7_0, ca_7_1⟩ := cells2s Ra_7
    obtain ⟨cb_7_0, cb_7_1⟩ := cells2s Rb_7
    obtain ⟨cc_7_0, cc_7_1⟩ := cells2s Rc_7
    have S8 := box B7.size
    have La_8 : Box (w.heap.size < w7.heap.size) := box (Array.getElem?_eq_some_iff.1 Ra_7).1
    have Lb_8 : Box (w.heap.size + 1 < w7.heap.size) := box (Array.getElem?_eq_some_iff.1 Rb_7).1
    have Lc_8 : Box (w.heap.size + 1 + 1 < w7.heap.size) := box (Array.getElem?_eq_some_iff.1 Rc_7).1
    have Lz_8 : Box (w.heap.size + 1 + 1 + 1 < w7.heap.size) := box (Array.getElem?_eq_some_iff.1 Rz_7).1
    have Ll_8 : Box (w.heap.size + 1 + 1 + 1 + 1 < w7.heap.size) := box (Array.getElem?_eq_some_iff.1 Rl_7).1
    have Rq_8 := heap_alloc_last w7 (Obj.cells #[.int .u64 (u : Nat), .int .u64 (v : Nat)] 26)
    have B8 := btr B7 (bal w7 (Obj.cells #[.int .u64 (u : Nat), .int .u64 (v : Nat)] 26))
    have Ra_8 := heap_of (bal w7 (Obj.cells #[.int .u64 (u : Nat), .int .u64 (v : Nat)] 26)) _ _ _ Ra_7
    have Rb_8 := heap_of (bal w7 (Obj.cells #[.int .u64 (u : Nat), .int .u64 (v : Nat)] 26)) _ _ _ Rb_7
    have Rc_8 := heap_of (bal w7 (Obj.cells #[.int .u64 (u : Nat), .int .u64 (v : Nat)] 26)) _ _ _ Rc_7
    have Rz_8 := heap_of (bal w7 (Obj.cells #[.int .u64 (u : Nat), .int .u64 (v : Nat)] 26)) _ _ _ Rz_7
    have Rl_8 := heap_of (bal w7 (Obj.cells #[.int .u64 (u : Nat), .int .u64 (v : Nat)] 26)) _ _ _ Rl_7
    clear B7 Ra_7 ca_7_0 ca_7_1 Rb_7 cb_7_0 cb_7_1 Rc_7 cc_7_0 cc_7_1 Rz_7 Rl_7
    obtain ⟨ca_8_0, ca_8_1⟩ := cells2s Ra_8
    obtain ⟨cb_8_0, cb_8_1⟩ := cells2s Rb_8
    obtain ⟨cc_8_0, cc_8_1⟩ := cells2s Rc_8
    obtain ⟨cq_8_0, cq_8_1⟩ := cells2s Rq_8
    obtain ⟨cz_8_0, cz_8_1⟩ := cells2s Rz_8
    have q0 := fz (k := 0) Rz_8
    have q1 := fz (k := 1) Rz_8
    obtain ⟨E0, E1⟩ := set2_cells Rz_8 (.int .u64 (u : Nat)) (.int .u64 (v : Nat))
    go_wp2
    exact bodyPost_ret (v := .tuple #[.agg #[.int .u64 (u : Nat), .int .u64 (v : Nat)], .int .u8 fl, .int .i64 0]) (by simp [results, Tryz.results13, go_sem, E0, E1]) rfl ⟨rfl, set2_below B8 (by first | exact Nat.le_refl _ | omega | (have := S8.out; have := La_8.out; have := Lb_8.out; have := Lc_8.out; have := Lz_8.out; have := Ll_8.out; omega)) _ _⟩
  · clear H
    go_wp2_with fail
    refine (KN1.out _).mono ?_
    rintro r w6 ⟨rfl, b6⟩
    have B6 : Below w.heap.size w w6 := btr B5 b6
    have Ra_6 := heap_of b6 _ _ _ Ra_5
    have Rb_6 := heap_of b6 _ _ _ Rb_5
    have Rc_6 := heap_of b6 _ _ _ Rc_5
    have Rz_6 := heap_of b6 _ _ _ Rz_5
    have Rl_6 := heap_of b6 _ _ _ Rl_5
    clear b6 B5 Ra_5 ca_5_0 ca_5_1 Rb_5 cb_5_0 cb_5_1 Rc_5 cc_5_0 cc_5_1 Rz_5 Rl_5
    obtain ⟨ca_6_0, ca_6_1⟩ := cells2s Ra_6
    obtain ⟨cb_6_0, cb_6_1⟩ := cells2s Rb_6
    obtain ⟨cc_6_0, cc_6_1⟩ := cells2s Rc_6
    rcases Hb.out with ⟨KN2, KC⟩ | ⟨KN2, Hbb⟩
    · clear Hb
      go_wp2_with fail
      refine (KN2.out _).mono ?_
      rintro r w7 ⟨rfl, b7⟩
      have B7 : Below w.heap.size w w7 := btr B6 b7
      have Ra_7 := heap_of b7 _ _ _ Ra_6
      have Rb_7 := heap_of b7 _ _ _ Rb_6
      have Rc_7 := heap_of b7 _ _ _ Rc_6
      have Rz_7 := heap_of b7 _ _ _ Rz_6
      have Rl_7 := heap_of b7 _ _ _ Rl_6
      clear b7 B6 Ra_6 ca_6_0 ca_6_1 Rb_6 cb_6_0 cb_6_1 Rc_6 cc_6_0 cc_6_1 Rz_6 Rl_6
      obtain ⟨ca_7_0, ca_7_1⟩ := cells2s Ra_7
      obtain ⟨cb_7_0, cb_7_1⟩ := cells2s Rb_7
      obtain ⟨cc_7_0, cc_7_1⟩ := cells2s Rc_7
      go_wp2_with fail
      refine (KC.out _ _ _ (by assumption)).mono ?_
      rintro r w8 ⟨rfl, b8⟩
      have B8 : Below w.heap.size w w8 := btr B7 b8
      have Ra_8 := heap_of b8 _ _ _ Ra_7
      have Rb_8 := heap_of b8 _ _ _ Rb_7
      have Rc_8 := heap_of b8 _ _ _ Rc_7
      have Rz_8 := heap_of b8 _ _ _ Rz_7
      have Rl_8 := heap_of b8 _ _ _ Rl_7
      clear b8 B7 Ra_7 ca_7_0 ca_7_1 Rb_7 cb_7_0 cb_7_1 Rc_7 cc_7_0 cc_7_1 Rz_7 Rl_7
      obtain ⟨ca_8_0, ca_8_1⟩ := cells2s Ra_8
      obtain ⟨cb_8_0, cb_8_1⟩ := cells2s Rb_8
      obtain ⟨cc_8_0, cc_8_1⟩ := cells2s Rc_8
      have S9 := box B8.size
      have La_9 : Box (w.heap.size < w8.heap.size) := box (Array.getElem?_eq_some_iff.1 Ra_8).1
      have Lb_9 : Box (w.heap.size + 1 < w8.heap.size) := box (Array.getElem?_eq_some_iff.1 Rb_8).1
      have Lc_9 : Box (w.heap.size + 1 + 1 < w8.heap.size) := box (Array.getElem?_eq_some_iff.1 Rc_8).1
      have Lz_9 : Box (w.heap.size + 1 + 1 + 1 < w8.heap.size) := box (Array.getElem?_eq_some_iff.1 Rz_8).1
      have Ll_9 : Box (w.heap.size + 1 + 1 + 1 + 1 < w8.heap.size) := box (Array.getElem?_eq_some_iff.1 Rl_8).1
      have Rq_9 := heap_alloc_last w8 (Obj.cells #[.int .u64 (u : Nat), .int .u64 (v : Nat)] 26)
      have B9 := btr B8 (bal w8 (Obj.cells #[.int .u64 (u : Nat), .int .u64 (v : Nat)] 26))
      have Ra_9 := heap_of (bal w8 (Obj.cells #[.int .u64 (u : Nat), .int .u64 (v : Nat)] 26)) _ _ _ Ra_8
      have Rb_9 := heap_of (bal w8 (Obj.cells #[.int .u64 (u : Nat), .int .u64 (v : Nat)] 26)) _ _ _ Rb_8
      have Rc_9 := heap_of (bal w8 (Obj.cells #[.int .u64 (u : Nat), .int .u64 (v : Nat)] 26)) _ _ _ Rc_8
      have Rz_9 := heap_of (bal w8 (Obj.cells #[.int .u64 (u : Nat), .int .u64 (v : Nat)] 26)) _ _ _ Rz_8
      have Rl_9 := heap_of (bal w8 (Obj.cells #[.int .u64 (u : Nat), .int .u64 (v : Nat)] 26)) _ _ _ Rl_8
      clear B8 Ra_8 ca_8_0 ca_8_1 Rb_8 cb_8_0 cb_8_1 Rc_8 cc_8_0 cc_8_1 Rz_8 Rl_8
      obtain ⟨ca_9_0, ca_9_1⟩ := cells2s Ra_9
      obtain ⟨cb_9_0, cb_9_1⟩ := cells2s Rb_9
      obtain ⟨cc_9_0, cc_9_1⟩ := cells2s Rc_9
      obtain ⟨cq_9_0, cq_9_1⟩ := cells2s Rq_9
      obtain ⟨cz_9_0, cz_9_1⟩ := cells2s Rz_9
      have q0 := fz (k := 0) Rz_9
      have q1 := fz (k := 1) Rz_9
      obtain ⟨E0, E1⟩ := set2_cells Rz_9 (.int .u64 (u : Nat)) (.int .u64 (v : Nat))
      go_wp2
      exact bodyPost_ret (v := .tuple #[.agg #[.int .u64 (u : Nat), .int .u64 (v : Nat)], .int .u8 fl, .int .i64 0]) (by simp [results, Tryz.results13, go_sem, E0, E1]) rfl ⟨rfl, set2_below B9 (by first | exact Nat.le_refl _ | omega | (have := S9.out; have := La_9.out; have := Lb_9.out; have := Lc_9.out; have := Lz_9.out; have := Ll_9.out; omega)) _ _⟩
    · clear Hb
      go_wp2_with fail
      refine (KN2.out _).mono ?_
      rintro r w7 ⟨rfl, b7⟩
      have B7 : Below w.heap.size w w7 := btr B6 b7
      have Ra_7 := heap_of b7 _ _ _ Ra_6
      have Rb_7 := heap_of b7 _ _ _ Rb_6
      have Rc_7 := heap_of b7 _ _ _ Rc_6
      have Rz_7 := heap_of b7 _ _ _ Rz_6
      have Rl_7 := heap_of b7 _ _ _ Rl_6
      clear b7 B6 Ra_6 ca_6_0 ca_6_1 Rb_6 cb_6_0 cb_6_1 Rc_6 cc_6_0 cc_6_1 Rz_6 Rl_6
      obtain ⟨ca_7_0, ca_7_1⟩ := cells2s Ra_7
      obtain ⟨cb_7_0, cb_7_1⟩ := cells2s Rb_7
      obtain ⟨cc_7_0, cc_7_1⟩ := cells2s Rc_7
      rcases Hbb.out with ⟨KN3, KC⟩ | ⟨KN3, KS1, KS2, Hbbb⟩
      · clear Hbb
        go_wp2_with fail
        refine (KN3.out _).mono ?_
        rintro r w8 ⟨rfl, b8⟩
        have B8 : Below w.heap.size w w8 := btr B7 b8
        have Ra_8 := heap_of b8 _ _ _ Ra_7
        have Rb_8 := heap_of b8 _ _ _ Rb_7
        have Rc_8 := heap_of b8 _ _ _ Rc_7
        have Rz_8 := heap_of b8 _ _ _ Rz_7
        have Rl_8 := heap_of b8 _ _ _ Rl_7
        clear b8 B7 Ra_7 ca_7_0 ca_7_1 Rb_7 cb_7_0 cb_7_1 Rc_7 cc_7_0 cc_7_1 Rz_7 Rl_7
        obtain ⟨ca_8_0, ca_8_1⟩ := cells2s Ra_8
        obtain ⟨cb_8_0, cb_8_1⟩ := cells2s Rb_8
        obtain ⟨cc_8_0, cc_8_1⟩ := cells2s Rc_8
        go_wp2_with fail
        refine (KC.out _ _ _ (by assumption)).mono ?_
        rintro r w9 ⟨rfl, b9⟩
        have B9 : Below w.heap.size w w9 := btr B8 b9
        have Ra_9 := heap_of b9 _ _ _ Ra_8
        have Rb_9 := heap_of b9 _ _ _ Rb_8
        have Rc_9 := heap_of b9 _ _ _ Rc_8
        have Rz_9 := heap_of b9 _ _ _ Rz_8
        have Rl_9 := heap_of b9 _ _ _ Rl_8
        clear b9 B8 Ra_8 ca_8_0 ca_8_1 Rb_8 cb_8_0 cb_8_1 Rc_8 cc_8_0 cc_8_1 Rz_8 Rl_8
        obtain ⟨ca_9_0, ca_9_1⟩ := cells2s Ra_9
        obtain ⟨cb_9_0, cb_9_1⟩ := cells2s Rb_9
        obtain ⟨cc_9_0, cc_9_1⟩ := cells2s Rc_9
        have S10 := box B9.size
        have La_10 : Box (w.heap.size < w9.heap.size) := box (Array.getElem?_eq_some_iff.1 Ra_9).1
        have Lb_10 : Box (w.heap.size + 1 < w9.heap.size) := box (Array.getElem?_eq_some_iff.1 Rb_9).1
        have Lc_10 : Box (w.heap.size + 1 + 1 < w9.heap.size) := box (Array.getElem?_eq_some_iff.1 Rc_9).1
        have Lz_10 : Box (w.heap.size + 1 + 1 + 1 < w9.heap.size) := box (Array.getElem?_eq_some_iff.1 Rz_9).1
        have Ll_10 : Box (w.heap.size + 1 + 1 + 1 + 1 < w9.heap.size) := box (Array.getElem?_eq_some_iff.1 Rl_9).1
        have Rq_10 := heap_alloc_last w9 (Obj.cells #[.int .u64 (u : Nat), .int .u64 (v : Nat)] 26)
        have B10 := btr B9 (bal w9 (Obj.cells #[.int .u64 (u : Nat), .int .u64 (v : Nat)] 26))
        have Ra_10 := heap_of (bal w9 (Obj.cells #[.int .u64 (u : Nat), .int .u64 (v : Nat)] 26)) _ _ _ Ra_9
        have Rb_10 := heap_of (bal w9 (Obj.cells #[.int .u64 (u : Nat), .int .u64 (v : Nat)] 26)) _ _ _ Rb_9
        have Rc_10 := heap_of (bal w9 (Obj.cells #[.int .u64 (u : Nat), .int .u64 (v : Nat)] 26)) _ _ _ Rc_9
        have Rz_10 := heap_of (bal w9 (Obj.cells #[.int .u64 (u : Nat), .int .u64 (v : Nat)] 26)) _ _ _ Rz_9
        have Rl_10 := heap_of (bal w9 (Obj.cells #[.int .u64 (u : Nat), .int .u64 (v : Nat)] 26)) _ _ _ Rl_9
        clear B9 Ra_9 ca_9_0 ca_9_1 Rb_9 cb_9_0 cb_9_1 Rc_9 cc_9_0 cc_9_1 Rz_9 Rl_9
        obtain ⟨ca_10_0, ca_10_1⟩ := cells2s Ra_10
        obtain ⟨cb_10_0, cb_10_1⟩ := cells2s Rb_10
        obtain ⟨cc_10_0, cc_10_1⟩ := cells2s Rc_10
        obtain ⟨cq_10_0, cq_10_1⟩ := cells2s Rq_10
        obtain ⟨cz_10_0, cz_10_1⟩ := cells2s Rz_10
        have q0 := fz (k := 0) Rz_10
        have q1 := fz (k := 1) Rz_10
        obtain ⟨E0, E1⟩ := set2_cells Rz_10 (.int .u64 (u : Nat)) (.int .u64 (v : Nat))
        go_wp2
        exact bodyPost_ret (v := .tuple #[.agg #[.int .u64 (u : Nat), .int .u64 (v : Nat)], .int .u8 fl, .int .i64 0]) (by simp [results, Tryz.results13, go_sem, E0, E1]) rfl ⟨rfl, set2_below B10 (by first | exact Nat.le_refl _ | omega | (have := S10.out; have := La_10.out; have := Lb_10.out; have := Lc_10.out; have := Lz_10.out; have := Ll_10.out; omega)) _ _⟩
      · clear Hbb
        go_wp2_with fail
        refine (KN3.out _).mono ?_
        rintro r w8 ⟨rfl, b8⟩
        have B8 : Below w.heap.size w w8 := btr B7 b8
        have Ra_8 := heap_of b8 _ _ _ Ra_7
        have Rb_8 := heap_of b8 _ _ _ Rb_7
        have Rc_8 := heap_of b8 _ _ _ Rc_7
        have Rz_8 := heap_of b8 _ _ _ Rz_7
        have Rl_8 := heap_of b8 _ _ _ Rl_7
        clear b8 B7 Ra_7 ca_7_0 ca_7_1 Rb_7 cb_7_0 cb_7_1 Rc_7 cc_7_0 cc_7_1 Rz_7 Rl_7
        obtain ⟨ca_8_0, ca_8_1⟩ := cells2s Ra_8
        obtain ⟨cb_8_0, cb_8_1⟩ := cells2s Rb_8
        obtain ⟨cc_8_0, cc_8_1⟩ := cells2s Rc_8
        have sS : Box (∀ W W1 : World, (Below w.heap.size w W ∧ W.heap[w.heap.size]? = some (Obj.cells #[.int .u64 (x1 : Nat), .int .u64 (y1 : Nat)] 26) ∧ W.heap[w.heap.size + 1]? = some (Obj.cells #[.int .u64 (x2 : Nat), .int .u64 (y2 : Nat)] 26) ∧ W.heap[w.heap.size + 1 + 1]? = some (Obj.cells #[.int .u64 (x3 : Nat), .int .u64 (y3 : Nat)] 26) ∧ W.heap[w.heap.size + 1 + 1 + 1]? = some (Obj.cells #[.int .u64 0, .int .u64 0] 26) ∧ W.heap[w.heap.size + 1 + 1 + 1 + 1]? = some (Obj.cells #[.int .u64 (x1 : Nat), .int .u64 (y1 : Nat), .int .u64 (x2 : Nat), .int .u64 (y2 : Nat), .int .u64 (x3 : Nat), .int .u64 (y3 : Nat)] 26) ∧ W.cell? ⟨w.heap.size, 0, none⟩ = some (.int .u64 (x1 : Nat)) ∧ W.cell? ⟨w.heap.size, 1, none⟩ = some (.int .u64 (y1 : Nat)) ∧ W.cell? ⟨w.heap.size + 1, 0, none⟩ = some (.int .u64 (x2 : Nat)) ∧ W.cell? ⟨w.heap.size + 1, 1, none⟩ = some (.int .u64 (y2 : Nat))) → Below W.heap.size W W1 → (Below w.heap.size w W1 ∧ W1.heap[w.heap.size]? = some (Obj.cells #[.int .u64 (x1 : Nat), .int .u64 (y1 : Nat)] 26) ∧ W1.heap[w.heap.size + 1]? = some (Obj.cells #[.int .u64 (x2 : Nat), .int .u64 (y2 : Nat)] 26) ∧ W1.heap[w.heap.size + 1 + 1]? = some (Obj.cells #[.int .u64 (x3 : Nat), .int .u64 (y3 : Nat)] 26) ∧ W1.heap[w.heap.size + 1 + 1 + 1]? = some (Obj.cells #[.int .u64 0, .int .u64 0] 26) ∧ W1.heap[w.heap.size + 1 + 1 + 1 + 1]? = some (Obj.cells #[.int .u64 (x1 : Nat), .int .u64 (y1 : Nat), .int .u64 (x2 : Nat), .int .u64 (y2 : Nat), .int .u64 (x3 : Nat), .int .u64 (y3 : Nat)] 26) ∧ W1.cell? ⟨w.heap.size, 0, none⟩ = some (.int .u64 (x1 : Nat)) ∧ W1.cell? ⟨w.heap.size, 1, none⟩ = some (.int .u64 (y1 : Nat)) ∧ W1.cell? ⟨w.heap.size + 1, 0, none⟩ = some (.int .u64 (x2 : Nat)) ∧ W1.cell? ⟨w.heap.size + 1, 1, none⟩ = some (.int .u64 (y2 : Nat)))) := box (fun W W1 h b => ⟨btr h.1 b, heap_of b _ _ _ h.2.1, heap_of b _ _ _ h.2.2.1, heap_of b _ _ _ h.2.2.2.1, heap_of b _ _ _ h.2.2.2.2.1, heap_of b _ _ _ h.2.2.2.2.2.1, cell7 (heap_of b _ _ _ h.2.1) 0 _ rfl, cell7 (heap_of b _ _ _ h.2.1) 1 _ rfl, cell7 (heap_of b _ _ _ h.2.2.1) 0 _ rfl, cell7 (heap_of b _ _ _ h.2.2.1) 1 _ rfl⟩)
        have s0 : Below w.heap.size w (w8).drew ∧ (w8).drew.heap[w.heap.size]? = some (Obj.cells #[.int .u64 (x1 : Nat), .int .u64 (y1 : Nat)] 26) ∧ (w8).drew.heap[w.heap.size + 1]? = some (Obj.cells #[.int .u64 (x2 : Nat), .int .u64 (y2 : Nat)] 26) ∧ (w8).drew.heap[w.heap.size + 1 + 1]? = some (Obj.cells #[.int .u64 (x3 : Nat), .int .u64 (y3 : Nat)] 26) ∧ (w8).drew.heap[w.heap.size + 1 + 1 + 1]? = some (Obj.cells #[.int .u64 0, .int .u64 0] 26) ∧ (w8).drew.heap[w.heap.size + 1 + 1 + 1 + 1]? = some (Obj.cells #[.int .u64 (x1 : Nat), .int .u64 (y1 : Nat), .int .u64 (x2 : Nat), .int .u64 (y2 : Nat), .int .u64 (x3 : Nat), .int .u64 (y3 : Nat)] 26) ∧ (w8).drew.cell? ⟨w.heap.size, 0, none⟩ = some (.int .u64 (x1 : Nat)) ∧ (w8).drew.cell? ⟨w.heap.size, 1, none⟩ = some (.int .u64 (y1 : Nat)) ∧ (w8).drew.cell? ⟨w.heap.size + 1, 0, none⟩ = some (.int .u64 (x2 : Nat)) ∧ (w8).drew.cell? ⟨w.heap.size + 1, 1, none⟩ = some (.int .u64 (y2 : Nat)) := ⟨B8.drew, Ra_8, Rb_8, Rc_8, Rz_8, Rl_8, cell7 (Ra_8) 0 _ rfl, cell7 (Ra_8) 1 _ rfl, cell7 (Rb_8) 0 _ rfl, cell7 (Rb_8) 1 _ rfl⟩
        go_wp2_with fail
        go_region_held3 (fun W => Below w.heap.size w W ∧ W.heap[w.heap.size]? = some (Obj.cells #[.int .u64 (x1 : Nat), .int .u64 (y1 : Nat)] 26) ∧ W.heap[w.heap.size + 1]? = some (Obj.cells #[.int .u64 (x2 : Nat), .int .u64 (y2 : Nat)] 26) ∧ W.heap[w.heap.size + 1 + 1]? = some (Obj.cells #[.int .u64 (x3 : Nat), .int .u64 (y3 : Nat)] 26) ∧ W.heap[w.heap.size + 1 + 1 + 1]? = some (Obj.cells #[.int .u64 0, .int .u64 0] 26) ∧ W.heap[w.heap.size + 1 + 1 + 1 + 1]? = some (Obj.cells #[.int .u64 (x1 : Nat), .int .u64 (y1 : Nat), .int .u64 (x2 : Nat), .int .u64 (y2 : Nat), .int .u64 (x3 : Nat), .int .u64 (y3 : Nat)] 26) ∧ W.cell? ⟨w.heap.size, 0, none⟩ = some (.int .u64 (x1 : Nat)) ∧ W.cell? ⟨w.heap.size, 1, none⟩ = some (.int .u64 (y1 : Nat)) ∧ W.cell? ⟨w.heap.size + 1, 0, none⟩ = some (.int .u64 (x2 : Nat)) ∧ W.cell? ⟨w.heap.size + 1, 1, none⟩ = some (.int .u64 (y2 : Nat))) (first | exact s1 | exact s0)
          (first | (go_at_call_of 43 (Value.agg #[.int .u64 (x1 : Nat), .int .u64 (y1 : Nat)]); refine (KS1.out _).mono ?_; rintro r wq ⟨rfl, bq⟩; (first | have s1 := sS.out _ _ s1 bq | have s1 := sS.out _ _ s0 bq); clear bq) | (go_at_call_of 43 (Value.agg #[.int .u64 (x2 : Nat), .int .u64 (y2 : Nat)]); refine (KS2.out _).mono ?_; rintro r wq ⟨rfl, bq⟩; (first | have s1 := sS.out _ _ s1 bq | have s1 := sS.out _ _ s0 bq); clear bq) | fail)
        have B9 := (And.left s1)
        have Ra_9 := s1.2.1
        have Rb_9 := s1.2.2.1
        have Rc_9 := s1.2.2.2.1
        have Rz_9 := s1.2.2.2.2.1
        have Rl_9 := s1.2.2.2.2.2.1
        clear s0 s1 sS B8 Ra_8 ca_8_0 ca_8_1 Rb_8 cb_8_0 cb_8_1 Rc_8 cc_8_0 cc_8_1 Rz_8 Rl_8
        obtain ⟨ca_9_0, ca_9_1⟩ := cells2s Ra_9
        obtain ⟨cb_9_0, cb_9_1⟩ := cells2s Rb_9
        obtain ⟨cc_9_0, cc_9_1⟩ := cells2s Rc_9
        rcases Hbbb.out with ⟨KI3, rfl, rfl, rfl⟩ | ⟨KI3, KV1, KV2, KV3, KM, KA, Hbbbb⟩
        · clear Hbbb
          go_wp2_with fail
          refine (KI3.out _).mono ?_
          rintro r w10 ⟨rfl, b10⟩
          have B10 : Below w.heap.size w w10 := btr B9 b10
          have Ra_10 := heap_of b10 _ _ _ Ra_9
          have Rb_10 := heap_of b10 _ _ _ Rb_9
          have Rc_10 := heap_of b10 _ _ _ Rc_9
          have Rz_10 := heap_of b10 _ _ _ Rz_9
          have Rl_10 := heap_of b10 _ _ _ Rl_9
          clear b10 B9 Ra_9 ca_9_0 ca_9_1 Rb_9 cb_9_0 cb_9_1 Rc_9 cc_9_0 cc_9_1 Rz_9 Rl_9
          obtain ⟨ca_10_0, ca_10_1⟩ := cells2s Ra_10
          obtain ⟨cb_10_0, cb_10_1⟩ := cells2s Rb_10
          obtain ⟨cc_10_0, cc_10_1⟩ := cells2s Rc_10
          obtain ⟨cz_10_0, cz_10_1⟩ := cells2s Rz_10
          have q0 := fz (k := 0) Rz_10
          have q1 := fz (k := 1) Rz_10
          obtain ⟨E0, E1⟩ := set2_cells Rz_10 (.int .u64 (x3 : Nat)) (.int .u64 (y3 : Nat))
          go_wp2
          exact bodyPost_ret (v := .tuple #[.agg #[.int .u64 (x3 : Nat), .int .u64 (y3 : Nat)], .int .u8 0, .int .i64 0]) (by simp [results, Tryz.results13, go_sem, E0, E1]) rfl ⟨rfl, set2_below B10 (by first | exact Nat.le_refl _ | omega | (skip; omega)) _ _⟩
        · clear Hbbb
          go_wp2_with fail
          refine (KI3.out _).mono ?_
          rintro r w10 ⟨rfl, b10⟩
          have B10 : Below w.heap.size w w10 := btr B9 b10
          have Ra_10 := heap_of b10 _ _ _ Ra_9
          have Rb_10 := heap_of b10 _ _ _ Rb_9
          have Rc_10 := heap_of b10 _ _ _ Rc_9
          have Rz_10 := heap_of b10 _ _ _ Rz_9
          have Rl_10 := heap_of b10 _ _ _ Rl_9
          clear b10 B9 Ra_9 ca_9_0 ca_9_1 Rb_9 cb_9_0 cb_9_1 Rc_9 cc_9_0 cc_9_1 Rz_9 Rl_9
          obtain ⟨ca_10_0, ca_10_1⟩ := cells2s Ra_10
          obtain ⟨cb_10_0, cb_10_1⟩ := cells2s Rb_10
          obtain ⟨cc_10_0, cc_10_1⟩ := cells2s Rc_10
          go_wp2_with fail
          refine (KV1.out _).mono ?_
          rintro r w11 ⟨rfl, b11⟩
          have B11 : Below w.heap.size w w11 := btr B10 b11
          have Ra_11 := heap_of b11 _ _ _ Ra_10
          have Rb_11 := heap_of b11 _ _ _ Rb_10
          have Rc_11 := heap_of b11 _ _ _ Rc_10
          have Rz_11 := heap_of b11 _ _ _ Rz_10
          have Rl_11 := heap_of b11 _ _ _ Rl_10
          clear b11 B10 Ra_10 ca_10_0 ca_10_1 Rb_10 cb_10_0 cb_10_1 Rc_10 cc_10_0 cc_10_1 Rz_10 Rl_10
          obtain ⟨ca_11_0, ca_11_1⟩ := cells2s Ra_11
          obtain ⟨cb_11_0, cb_11_1⟩ := cells2s Rb_11
          obtain ⟨cc_11_0, cc_11_1⟩ := cells2s Rc_11
          have S12 := box B11.size
          have La_12 : Box (w.heap.size < w11.heap.size) := box (Array.getElem?_eq_some_iff.1 Ra_11).1
          have Lb_12 : Box (w.heap.size + 1 < w11.heap.size) := box (Array.getElem?_eq_some_iff.1 Rb_11).1
          have Lc_12 : Box (w.heap.size + 1 + 1 < w11.heap.size) := box (Array.getElem?_eq_some_iff.1 Rc_11).1
          have Lz_12 : Box (w.heap.size + 1 + 1 + 1 < w11.heap.size) := box (Array.getElem?_eq_some_iff.1 Rz_11).1
          have Ll_12 : Box (w.heap.size + 1 + 1 + 1 + 1 < w11.heap.size) := box (Array.getElem?_eq_some_iff.1 Rl_11).1
          have Rx_12 := heap_alloc_last w11 (Obj.cells #[.bool b1, .string n1, .string d1, .int .i64 e1] 70)
          have B12 := btr B11 (bal w11 (Obj.cells #[.bool b1, .string n1, .string d1, .int .i64 e1] 70))
          have Ra_12 := heap_of (bal w11 (Obj.cells #[.bool b1, .string n1, .string d1, .int .i64 e1] 70)) _ _ _ Ra_11
          have Rb_12 := heap_of (bal w11 (Obj.cells #[.bool b1, .string n1, .string d1, .int .i64 e1] 70)) _ _ _ Rb_11
          have Rc_12 := heap_of (bal w11 (Obj.cells #[.bool b1, .string n1, .string d1, .int .i64 e1] 70)) _ _ _ Rc_11
          have Rz_12 := heap_of (bal w11 (Obj.cells #[.bool b1, .string n1, .string d1, .int .i64 e1] 70)) _ _ _ Rz_11
          have Rl_12 := heap_of (bal w11 (Obj.cells #[.bool b1, .string n1, .string d1, .int .i64 e1] 70)) _ _ _ Rl_11
          clear B11 Ra_11 ca_11_0 ca_11_1 Rb_11 cb_11_0 cb_11_1 Rc_11 cc_11_0 cc_11_1 Rz_11 Rl_11
          obtain ⟨ca_12_0, ca_12_1⟩ := cells2s Ra_12
          obtain ⟨cb_12_0, cb_12_1⟩ := cells2s Rb_12
          obtain ⟨cc_12_0, cc_12_1⟩ := cells2s Rc_12
          obtain ⟨cx_12_0, cx_12_1, cx_12_2, cx_12_3⟩ := cells4s Rx_12
          go_wp2_with fail
          refine (KV2.out _).mono ?_
          rintro r w13 ⟨rfl, b13⟩
          have B13 : Below w.heap.size w w13 := btr B12 b13
          have Ra_13 := heap_of b13 _ _ _ Ra_12
          have Rb_13 := heap_of b13 _ _ _ Rb_12
          have Rc_13 := heap_of b13 _ _ _ Rc_12
          have Rz_13 := heap_of b13 _ _ _ Rz_12
          have Rl_13 := heap_of b13 _ _ _ Rl_12
          have Rx_13 := heap_of b13 _ _ _ Rx_12
          clear b13 B12 Ra_12 ca_12_0 ca_12_1 Rb_12 cb_12_0 cb_12_1 Rc_12 cc_12_0 cc_12_1 Rz_12 Rl_12 Rx_12 cx_12_0 cx_12_1 cx_12_2 cx_12_3
          obtain ⟨ca_13_0, ca_13_1⟩ := cells2s Ra_13
          obtain ⟨cb_13_0, cb_13_1⟩ := cells2s Rb_13
          obtain ⟨cc_13_0, cc_13_1⟩ := cells2s Rc_13
          obtain ⟨cx_13_0, cx_13_1, cx_13_2, cx_13_3⟩ := cells4s Rx_13
          have S14 := box B13.size
          have La_14 : Box (w.heap.size < w13.heap.size) := box (Array.getElem?_eq_some_iff.1 Ra_13).1
          have Lb_14 : Box (w.heap.size + 1 < w13.heap.size) := box (Array.getElem?_eq_some_iff.1 Rb_13).1
          have Lc_14 : Box (w.heap.size + 1 + 1 < w13.heap.size) := box (Array.getElem?_eq_some_iff.1 Rc_13).1
          have Lz_14 : Box (w.heap.size + 1 + 1 + 1 < w13.heap.size) := box (Array.getElem?_eq_some_iff.1 Rz_13).1
          have Ll_14 : Box (w.heap.size + 1 + 1 + 1 + 1 < w13.heap.size) := box (Array.getElem?_eq_some_iff.1 Rl_13).1
          have Lx_14 : Box (w11.heap.size < w13.heap.size) := box (Array.getElem?_eq_some_iff.1 Rx_13).1
          have Ry_14 := heap_alloc_last w13 (Obj.cells #[.bool b2, .string n2, .string d2, .int .i64 e2] 70)
          have B14 := btr B13 (bal w13 (Obj.cells #[.bool b2, .string n2, .string d2, .int .i64 e2] 70))
          have Ra_14 := heap_of (bal w13 (Obj.cells #[.bool b2, .string n2, .string d2, .int .i64 e2] 70)) _ _ _ Ra_13
          have Rb_14 := heap_of (bal w13 (Obj.cells #[.bool b2, .string n2, .string d2, .int .i64 e2] 70)) _ _ _ Rb_13
          have Rc_14 := heap_of (bal w13 (Obj.cells #[.bool b2, .string n2, .string d2, .int .i64 e2] 70)) _ _ _ Rc_13
          have Rz_14 := heap_of (bal w13 (Obj.cells #[.bool b2, .string n2, .string d2, .int .i64 e2] 70)) _ _ _ Rz_13
          have Rl_14 := heap_of (bal w13 (Obj.cells #[.bool b2, .string n2, .string d2, .int .i64 e2] 70)) _ _ _ Rl_13
          have Rx_14 := heap_of (bal w13 (Obj.cells #[.bool b2, .string n2, .string d2, .int .i64 e2] 70)) _ _ _ Rx_13
          clear B13 Ra_13 ca_13_0 ca_13_1 Rb_13 cb_13_0 cb_13_1 Rc_13 cc_13_0 cc_13_1 Rz_13 Rl_13 Rx_13 cx_13_0 cx_13_1 cx_13_2 cx_13_3
          obtain ⟨ca_14_0, ca_14_1⟩ := cells2s Ra_14
          obtain ⟨cb_14_0, cb_14_1⟩ := cells2s Rb_14
          obtain ⟨cc_14_0, cc_14_1⟩ := cells2s Rc_14
          obtain ⟨cx_14_0, cx_14_1, cx_14_2, cx_14_3⟩ := cells4s Rx_14
          obtain ⟨cy_14_0, cy_14_1, cy_14_2, cy_14_3⟩ := cells4s Ry_14
          clear ca_14_0 ca_14_1
          clear cb_14_0 cb_14_1
          go_wp2_with fail
          refine (KV3.out _).mono ?_
          rintro r w15 ⟨rfl, b15⟩
          have B15 : Below w.heap.size w w15 := btr B14 b15
          have Ra_15 := heap_of b15 _ _ _ Ra_14
          have Rb_15 := heap_of b15 _ _ _ Rb_14
          have Rc_15 := heap_of b15 _ _ _ Rc_14
          have Rz_15 := heap_of b15 _ _ _ Rz_14
          have Rl_15 := heap_of b15 _ _ _ Rl_14
          have Rx_15 := heap_of b15 _ _ _ Rx_14
          have Ry_15 := heap_of b15 _ _ _ Ry_14
          clear b15 B14 Ra_14 Rb_14 Rc_14 cc_14_0 cc_14_1 Rz_14 Rl_14 Rx_14 cx_14_0 cx_14_1 cx_14_2 cx_14_3 Ry_14 cy_14_0 cy_14_1 cy_14_2 cy_14_3
          obtain ⟨cc_15_0, cc_15_1⟩ := cells2s Rc_15
          obtain ⟨cx_15_0, cx_15_1, cx_15_2, cx_15_3⟩ := cells4s Rx_15
          obtain ⟨cy_15_0, cy_15_1, cy_15_2, cy_15_3⟩ := cells4s Ry_15
          have S16 := box B15.size
          have La_16 : Box (w.heap.size < w15.heap.size) := box (Array.getElem?_eq_some_iff.1 Ra_15).1
          have Lb_16 : Box (w.heap.size + 1 < w15.heap.size) := box (Array.getElem?_eq_some_iff.1 Rb_15).1
          have Lc_16 : Box (w.heap.size + 1 + 1 < w15.heap.size) := box (Array.getElem?_eq_some_iff.1 Rc_15).1
          have Lz_16 : Box (w.heap.size + 1 + 1 + 1 < w15.heap.size) := box (Array.getElem?_eq_some_iff.1 Rz_15).1
          have Ll_16 : Box (w.heap.size + 1 + 1 + 1 + 1 < w15.heap.size) := box (Array.getElem?_eq_some_iff.1 Rl_15).1
          have Lx_16 : Box (w11.heap.size < w15.heap.size) := box (Array.getElem?_eq_some_iff.1 Rx_15).1
          have Ly_16 : Box (w13.heap.size < w15.heap.size) := box (Array.getElem?_eq_some_iff.1 Ry_15).1
          have Rt_16 := heap_alloc_last w15 (Obj.cells #[.bool b3, .string n3, .string d3, .int .i64 e3] 70)
          have B16 := btr B15 (bal w15 (Obj.cells #[.bool b3, .string n3, .string d3, .int .i64 e3] 70))
          have Ra_16 := heap_of (bal w15 (Obj.cells #[.bool b3, .string n3, .string d3, .int .i64 e3] 70)) _ _ _ Ra_15
          have Rb_16 := heap_of (bal w15 (Obj.cells #[.bool b3, .string n3, .string d3, .int .i64 e3] 70)) _ _ _ Rb_15
          have Rc_16 := heap_of (bal w15 (Obj.cells #[.bool b3, .string n3, .string d3, .int .i64 e3] 70)) _ _ _ Rc_15
          have Rz_16 := heap_of (bal w15 (Obj.cells #[.bool b3, .string n3, .string d3, .int .i64 e3] 70)) _ _ _ Rz_15
          have Rl_16 := heap_of (bal w15 (Obj.cells #[.bool b3, .string n3, .string d3, .int .i64 e3] 70)) _ _ _ Rl_15
          have Rx_16 := heap_of (bal w15 (Obj.cells #[.bool b3, .string n3, .string d3, .int .i64 e3] 70)) _ _ _ Rx_15
          have Ry_16 := heap_of (bal w15 (Obj.cells #[.bool b3, .string n3, .string d3, .int .i64 e3] 70)) _ _ _ Ry_15
          clear B15 Ra_15 Rb_15 Rc_15 cc_15_0 cc_15_1 Rz_15 Rl_15 Rx_15 cx_15_0 cx_15_1 cx_15_2 cx_15_3 Ry_15 cy_15_0 cy_15_1 cy_15_2 cy_15_3
          obtain ⟨cc_16_0, cc_16_1⟩ := cells2s Rc_16
          obtain ⟨cx_16_0, cx_16_1, cx_16_2, cx_16_3⟩ := cells4s Rx_16
          obtain ⟨cy_16_0, cy_16_1, cy_16_2, cy_16_3⟩ := cells4s Ry_16
          obtain ⟨ct_16_0, ct_16_1, ct_16_2, ct_16_3⟩ := cells4s Rt_16
          clear cc_16_0 cc_16_1
          go_wp2_with fail
          refine (KM.out _).mono ?_
          rintro r w17 ⟨rfl, b17⟩
          have B17 : Below w.heap.size w w17 := btr B16 b17
          have Ra_17 := heap_of b17 _ _ _ Ra_16
          have Rb_17 := heap_of b17 _ _ _ Rb_16
          have Rc_17 := heap_of b17 _ _ _ Rc_16
          have Rz_17 := heap_of b17 _ _ _ Rz_16
          have Rl_17 := heap_of b17 _ _ _ Rl_16
          have Rx_17 := heap_of b17 _ _ _ Rx_16
          have Ry_17 := heap_of b17 _ _ _ Ry_16
          have Rt_17 := heap_of b17 _ _ _ Rt_16
          clear b17 B16 Ra_16 Rb_16 Rc_16 Rz_16 Rl_16 Rx_16 cx_16_0 cx_16_1 cx_16_2 cx_16_3 Ry_16 cy_16_0 cy_16_1 cy_16_2 cy_16_3 Rt_16 ct_16_0 ct_16_1 ct_16_2 ct_16_3
          obtain ⟨cx_17_0, cx_17_1, cx_17_2, cx_17_3⟩ := cells4s Rx_17
          obtain ⟨cy_17_0, cy_17_1, cy_17_2, cy_17_3⟩ := cells4s Ry_17
          obtain ⟨ct_17_0, ct_17_1, ct_17_2, ct_17_3⟩ := cells4s Rt_17
          have S18 := box B17.size
          have La_18 : Box (w.heap.size < w17.heap.size) := box (Array.getElem?_eq_some_iff.1 Ra_17).1
          have Lb_18 : Box (w.heap.size + 1 < w17.heap.size) := box (Array.getElem?_eq_some_iff.1 Rb_17).1
          have Lc_18 : Box (w.heap.size + 1 + 1 < w17.heap.size) := box (Array.getElem?_eq_some_iff.1 Rc_17).1
          have Lz_18 : Box (w.heap.size + 1 + 1 + 1 < w17.heap.size) := box (Array.getElem?_eq_some_iff.1 Rz_17).1
          have Ll_18 : Box (w.heap.size + 1 + 1 + 1 + 1 < w17.heap.size) := box (Array.getElem?_eq_some_iff.1 Rl_17).1
          have Lx_18 : Box (w11.heap.size < w17.heap.size) := box (Array.getElem?_eq_some_iff.1 Rx_17).1
          have Ly_18 : Box (w13.heap.size < w17.heap.size) := box (Array.getElem?_eq_some_iff.1 Ry_17).1
          have Lt_18 : Box (w15.heap.size < w17.heap.size) := box (Array.getElem?_eq_some_iff.1 Rt_17).1
          have Rp_18 := heap_alloc_last w17 (Obj.cells #[.bool b4, .string n4, .string d4, .int .i64 e4] 70)
          have B18 := btr B17 (bal w17 (Obj.cells #[.bool b4, .string n4, .string d4, .int .i64 e4] 70))
          have Ra_18 := heap_of (bal w17 (Obj.cells #[.bool b4, .string n4, .string d4, .int .i64 e4] 70)) _ _ _ Ra_17
          have Rb_18 := heap_of (bal w17 (Obj.cells #[.bool b4, .string n4, .string d4, .int .i64 e4] 70)) _ _ _ Rb_17
          have Rc_18 := heap_of (bal w17 (Obj.cells #[.bool b4, .string n4, .string d4, .int .i64 e4] 70)) _ _ _ Rc_17
          have Rz_18 := heap_of (bal w17 (Obj.cells #[.bool b4, .string n4, .string d4, .int .i64 e4] 70)) _ _ _ Rz_17
          have Rl_18 := heap_of (bal w17 (Obj.cells #[.bool b4, .string n4, .string d4, .int .i64 e4] 70)) _ _ _ Rl_17
          have Rx_18 := heap_of (bal w17 (Obj.cells #[.bool b4, .string n4, .string d4, .int .i64 e4] 70)) _ _ _ Rx_17
          have Ry_18 := heap_of (bal w17 (Obj.cells #[.bool b4, .string n4, .string d4, .int .i64 e4] 70)) _ _ _ Ry_17
          have Rt_18 := heap_of (bal w17 (Obj.cells #[.bool b4, .string n4, .string d4, .int .i64 e4] 70)) _ _ _ Rt_17
          clear B17 Ra_17 Rb_17 Rc_17 Rz_17 Rl_17 Rx_17 cx_17_0 cx_17_1 cx_17_2 cx_17_3 Ry_17 cy_17_0 cy_17_1 cy_17_2 cy_17_3 Rt_17 ct_17_0 ct_17_1 ct_17_2 ct_17_3
          obtain ⟨cx_18_0, cx_18_1, cx_18_2, cx_18_3⟩ := cells4s Rx_18
          obtain ⟨cy_18_0, cy_18_1, cy_18_2, cy_18_3⟩ := cells4s Ry_18
          obtain ⟨ct_18_0, ct_18_1, ct_18_2, ct_18_3⟩ := cells4s Rt_18
          obtain ⟨cp_18_0, cp_18_1, cp_18_2, cp_18_3⟩ := cells4s Rp_18
          clear cx_18_0 cx_18_1 cx_18_2 cx_18_3
          clear cy_18_0 cy_18_1 cy_18_2 cy_18_3
          go_wp2_with fail
          refine (KA.out _).mono ?_
          rintro r w19 ⟨rfl, b19⟩
          have B19 : Below w.heap.size w w19 := btr B18 b19
          have Ra_19 := heap_of b19 _ _ _ Ra_18
          have Rb_19 := heap_of b19 _ _ _ Rb_18
          have Rc_19 := heap_of b19 _ _ _ Rc_18
          have Rz_19 := heap_of b19 _ _ _ Rz_18
          have Rl_19 := heap_of b19 _ _ _ Rl_18
          have Rx_19 := heap_of b19 _ _ _ Rx_18
          have Ry_19 := heap_of b19 _ _ _ Ry_18
          have Rt_19 := heap_of b19 _ _ _ Rt_18
          have Rp_19 := heap_of b19 _ _ _ Rp_18
          clear b19 B18 Ra_18 Rb_18 Rc_18 Rz_18 Rl_18 Rx_18 Ry_18 Rt_18 ct_18_0 ct_18_1 ct_18_2 ct_18_3 Rp_18 cp_18_0 cp_18_1 cp_18_2 cp_18_3
          obtain ⟨ct_19_0, ct_19_1, ct_19_2, ct_19_3⟩ := cells4s Rt_19
          obtain ⟨cp_19_0, cp_19_1, cp_19_2, cp_19_3⟩ := cells4s Rp_19
          have S20 := box B19.size
          have La_20 : Box (w.heap.size < w19.heap.size) := box (Array.getElem?_eq_some_iff.1 Ra_19).1
          have Lb_20 : Box (w.heap.size + 1 < w19.heap.size) := box (Array.getElem?_eq_some_iff.1 Rb_19).1
          have Lc_20 : Box (w.heap.size + 1 + 1 < w19.heap.size) := box (Array.getElem?_eq_some_iff.1 Rc_19).1
          have Lz_20 : Box (w.heap.size + 1 + 1 + 1 < w19.heap.size) := box (Array.getElem?_eq_some_iff.1 Rz_19).1
          have Ll_20 : Box (w.heap.size + 1 + 1 + 1 + 1 < w19.heap.size) := box (Array.getElem?_eq_some_iff.1 Rl_19).1
          have Lx_20 : Box (w11.heap.size < w19.heap.size) := box (Array.getElem?_eq_some_iff.1 Rx_19).1
          have Ly_20 : Box (w13.heap.size < w19.heap.size) := box (Array.getElem?_eq_some_iff.1 Ry_19).1
          have Lt_20 : Box (w15.heap.size < w19.heap.size) := box (Array.getElem?_eq_some_iff.1 Rt_19).1
          have Lp_20 : Box (w17.heap.size < w19.heap.size) := box (Array.getElem?_eq_some_iff.1 Rp_19).1
          have Rs_20 := heap_alloc_last w19 (Obj.cells #[.bool b5, .string n5, .string d5, .int .i64 e5] 70)
          have B20 := btr B19 (bal w19 (Obj.cells #[.bool b5, .string n5, .string d5, .int .i64 e5] 70))
          have Ra_20 := heap_of (bal w19 (Obj.cells #[.bool b5, .string n5, .string d5, .int .i64 e5] 70)) _ _ _ Ra_19
          have Rb_20 := heap_of (bal w19 (Obj.cells #[.bool b5, .string n5, .string d5, .int .i64 e5] 70)) _ _ _ Rb_19
          have Rc_20 := heap_of (bal w19 (Obj.cells #[.bool b5, .string n5, .string d5, .int .i64 e5] 70)) _ _ _ Rc_19
          have Rz_20 := heap_of (bal w19 (Obj.cells #[.bool b5, .string n5, .string d5, .int .i64 e5] 70)) _ _ _ Rz_19
          have Rl_20 := heap_of (bal w19 (Obj.cells #[.bool b5, .string n5, .string d5, .int .i64 e5] 70)) _ _ _ Rl_19
          have Rx_20 := heap_of (bal w19 (Obj.cells #[.bool b5, .string n5, .string d5, .int .i64 e5] 70)) _ _ _ Rx_19
          have Ry_20 := heap_of (bal w19 (Obj.cells #[.bool b5, .string n5, .string d5, .int .i64 e5] 70)) _ _ _ Ry_19
          have Rt_20 := heap_of (bal w19 (Obj.cells #[.bool b5, .string n5, .string d5, .int .i64 e5] 70)) _ _ _ Rt_19
          have Rp_20 := heap_of (bal w19 (Obj.cells #[.bool b5, .string n5, .string d5, .int .i64 e5] 70)) _ _ _ Rp_19
          clear B19 Ra_19 Rb_19 Rc_19 Rz_19 Rl_19 Rx_19 Ry_19 Rt_19 ct_19_0 ct_19_1 ct_19_2 ct_19_3 Rp_19 cp_19_0 cp_19_1 cp_19_2 cp_19_3
          obtain ⟨ct_20_0, ct_20_1, ct_20_2, ct_20_3⟩ := cells4s Rt_20
          obtain ⟨cp_20_0, cp_20_1, cp_20_2, cp_20_3⟩ := cells4s Rp_20
          obtain ⟨cs_20_0, cs_20_1, cs_20_2, cs_20_3⟩ := cells4s Rs_20
          clear ct_20_0 ct_20_1 ct_20_2 ct_20_3
          clear cp_20_0 cp_20_1 cp_20_2 cp_20_3
          rcases Hbbbb.out with ⟨he, KR⟩ | ⟨he, KR, rfl⟩
          · clear Hbbbb
            go_wp2_with fail
            refine (KR.out _).mono ?_
            rintro r w21 ⟨rfl, b21⟩
            have B21 : Below w.heap.size w w21 := btr B20 b21
            have Ra_21 := heap_of b21 _ _ _ Ra_20
            have Rb_21 := heap_of b21 _ _ _ Rb_20
            have Rc_21 := heap_of b21 _ _ _ Rc_20
            have Rz_21 := heap_of b21 _ _ _ Rz_20
            have Rl_21 := heap_of b21 _ _ _ Rl_20
            have Rx_21 := heap_of b21 _ _ _ Rx_20
            have Ry_21 := heap_of b21 _ _ _ Ry_20
            have Rt_21 := heap_of b21 _ _ _ Rt_20
            have Rp_21 := heap_of b21 _ _ _ Rp_20
            have Rs_21 := heap_of b21 _ _ _ Rs_20
            clear b21 B20 Ra_20 Rb_20 Rc_20 Rz_20 Rl_20 Rx_20 Ry_20 Rt_20 Rp_20 Rs_20 cs_20_0 cs_20_1 cs_20_2 cs_20_3
            obtain ⟨cs_21_0, cs_21_1, cs_21_2, cs_21_3⟩ := cells4s Rs_21
            obtain ⟨cz_21_0, cz_21_1⟩ := cells2s Rz_21
            have q0 := fz (k := 0) Rz_21
            have q1 := fz (k := 1) Rz_21
            obtain ⟨E0, E1⟩ := set2_cells Rz_21 (.int .u64 (u : Nat)) (.int .u64 (v : Nat))
            go_wp2
            exact bodyPost_ret (v := .tuple #[.agg #[.int .u64 (u : Nat), .int .u64 (v : Nat)], .int .u8 fl, .int .i64 0]) (by simp [results, Tryz.results13, go_sem, E0, E1]) rfl ⟨rfl, set2_below B21 (by first | exact Nat.le_refl _ | omega | (have := S12.out; have := La_12.out; have := Lb_12.out; have := Lc_12.out; have := Lz_12.out; have := Ll_12.out; have := S14.out; have := La_14.out; have := Lb_14.out; have := Lc_14.out; have := Lz_14.out; have := Ll_14.out; have := Lx_14.out; have := S16.out; have := La_16.out; have := Lb_16.out; have := Lc_16.out; have := Lz_16.out; have := Ll_16.out; have := Lx_16.out; have := Ly_16.out; have := S18.out; have := La_18.out; have := Lb_18.out; have := Lc_18.out; have := Lz_18.out; have := Ll_18.out; have := Lx_18.out; have := Ly_18.out; have := Lt_18.out; have := S20.out; have := La_20.out; have := Lb_20.out; have := Lc_20.out; have := Lz_20.out; have := Ll_20.out; have := Lx_20.out; have := Ly_20.out; have := Lt_20.out; have := Lp_20.out; omega)) _ _⟩
          · clear Hbbbb
            go_wp2_with fail
            refine (KR.out _).mono ?_
            rintro r w21 ⟨rfl, b21⟩
            have B21 : Below w.heap.size w w21 := btr B20 b21
            have Ra_21 := heap_of b21 _ _ _ Ra_20
            have Rb_21 := heap_of b21 _ _ _ Rb_20
            have Rc_21 := heap_of b21 _ _ _ Rc_20
            have Rz_21 := heap_of b21 _ _ _ Rz_20
            have Rl_21 := heap_of b21 _ _ _ Rl_20
            have Rx_21 := heap_of b21 _ _ _ Rx_20
            have Ry_21 := heap_of b21 _ _ _ Ry_20
            have Rt_21 := heap_of b21 _ _ _ Rt_20
            have Rp_21 := heap_of b21 _ _ _ Rp_20
            have Rs_21 := heap_of b21 _ _ _ Rs_20
            clear b21 B20 Ra_20 Rb_20 Rc_20 Rz_20 Rl_20 Rx_20 Ry_20 Rt_20 Rp_20 Rs_20 cs_20_0 cs_20_1 cs_20_2 cs_20_3
            obtain ⟨cs_21_0, cs_21_1, cs_21_2, cs_21_3⟩ := cells4s Rs_21
            obtain ⟨cz_21_0, cz_21_1⟩ := cells2s Rz_21
            have q0 := fz (k := 0) Rz_21
            have q1 := fz (k := 1) Rz_21
            obtain ⟨E0, E1⟩ := set2_cells Rz_21 (.int .u64 (u : Nat)) (.int .u64 (v : Nat))
            go_wp2
            exact bodyPost_ret (v := .tuple #[.agg #[.int .u64 (u : Nat), .int .u64 (v : Nat)], .int .u8 0, .int .i64 0]) (by simp [results, Tryz.results13, go_sem, E0, E1]) rfl ⟨rfl, set2_below B21 (by first | exact Nat.le_refl _ | omega | (have := S12.out; have := La_12.out; have := Lb_12.out; have := Lc_12.out; have := Lz_12.out; have := Ll_12.out; have := S14.out; have := La_14.out; have := Lb_14.out; have := Lc_14.out; have := Lz_14.out; have := Ll_14.out; have := Lx_14.out; have := S16.out; have := La_16.out; have := Lb_16.out; have := Lc_16.out; have := Lz_16.out; have := Ll_16.out; have := Lx_16.out; have := Ly_16.out; have := S18.out; have := La_18.out; have := Lb_18.out; have := Lc_18.out; have := Lz_18.out; have := Ll_18.out; have := Lx_18.out; have := Ly_18.out; have := Lt_18.out; have := S20.out; have := La_20.out; have := Lb_20.out; have := Lc_20.out; have := Lz_20.out; have := Ll_20.out; have := Lx_20.out; have := Ly_20.out; have := Lt_20.out; have := Lp_20.out; omega)) _ _⟩
end Go.Proofs.YtapikkbifdldfaaGreatDoor
