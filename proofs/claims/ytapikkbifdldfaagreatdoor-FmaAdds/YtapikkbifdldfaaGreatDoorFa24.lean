/-
  What the functions that the statement reaches return: part 24 (F2).
-/
import Derived.Test.YtapikkbifdldfaaGreatDoorFa23
namespace Go.Proofs.YtapikkbifdldfaaGreatDoor
set_option maxRecDepth 100000
set_option maxHeartbeats 40000000
open Go.RowKit WMath
set_option linter.unusedSimpArgs false
set_option linter.unusedVariables false
theorem rfit3r (f m : Int) (h0 : 0 ≤ f) (x1 y1 a x2 y2 b x3 y3 c : Nat) (hx1 : x1 < 18446744073709551616) (hy1 : y1 < 18446744073709551616) (hx2 : x2 < 18446744073709551616) (hy2 : y2 < 18446744073709551616) (hx3 : x3 < 18446744073709551616) (hy3 : y3 < 18446744073709551616) (ha : y1 + 18446744073709551616 * x1 = a) (hb : y2 + 18446744073709551616 * x2 = b) (hc : y3 + 18446744073709551616 * x3 = c) (o : Bool) (ho : (decide (f ≤ 3 ∧ m ≤ 4) && okB f a && okB f b && okB f c) = o) :
  zR (∀ (T : TypeId) (g : Nat) (w : World), w.heap[g]? = some (.cells #[.int .u64 x1, .int .u64 y1, .int .u64 x2, .int .u64 y2, .int .u64 x3, .int .u64 y3] T) → Calls Tryz.prog 40 #[.int .u8 f, .int .u8 m, .slice (some ⟨g, 0, none⟩) 3 3] w fun r w' => r = .returned (.bool o) ∧ Below w.heap.size w w') := by
 refine zK (fun T g w row => ?_)
 have KR : zR (∀ w, Calls Tryz.prog 88 #[.int .u8 f] w fun r w' => r = .returned (.bool (decide (f ≤ 3))) ∧ Below w.heap.size w w') := zK (fun w => x7 (r_right f _ rfl w))
 have KM : zR (∀ w, Calls Tryz.prog 89 #[.int .u8 m] w fun r w' => r = .returned (.bool (decide (m ≤ 4))) ∧ Below w.heap.size w w') := zK (fun w => x7 (r_mode m _ rfl w))
 by_cases c1 : f ≤ 3
 ·
  rw [decide_eq_true c1] at KR
  by_cases c2 : m ≤ 4
  ·
   rw [decide_eq_true c2] at KM
   refine (rf_list f m h0 [(x1, y1), (x2, y2), (x3, y3)] 3 g 3 T _ rfl (by decide) (thr_lim hx1 hy1 hx2 hy2 hx3 hy3) row KR KM o ?_)
   rw [← ho, decide_eq_true (show f ≤ 3 ∧ m ≤ 4 from ⟨c1, c2⟩)]
   show (okP f (x1, y1) && (okP f (x2, y2) && (okP f (x3, y3) && true))) = _
   unfold okP
   rw [ha, hb, hc, Bool.and_true, Bool.true_and, Bool.and_assoc]
  ·
   rw [decide_eq_false c2] at KM
   have e : o = false := by rw [← ho, decide_eq_false (fun q => c2 q.2)]; rfl
   subst e
   exact (rf_nom f m _ _ KR KM)
 ·
  rw [decide_eq_false c1] at KR
  have e : o = false := by rw [← ho, decide_eq_false (fun q => c1 q.1)]; rfl
  subst e
  exact (rf_no f m _ _ KR)
theorem rcan3r (f : Int) (hf : y7 f) (x1 y1 a x2 y2 b x3 y3 c : Nat) (hx1 : x1 < 18446744073709551616) (hy1 : y1 < 18446744073709551616) (hx2 : x2 < 18446744073709551616) (hy2 : y2 < 18446744073709551616) (hx3 : x3 < 18446744073709551616) (hy3 : y3 < 18446744073709551616) (ha : y1 + 18446744073709551616 * x1 = a) (hb : y2 + 18446744073709551616 * x2 = b) (hc : y3 + 18446744073709551616 * x3 = c) (fa : Fit f a) (fb : Fit f b) (fc : Fit f c) (fl : Int) (hfl : (if kC f a = 8 ∨ kC f b = 8 ∨ kC f c = 8 then (16 : Int) else 0) = fl) (u v : Nat) (hv : qD (eNaN f) = (u, v)) :
  zR (∀ (T : TypeId) (g : Nat) (w : World), w.heap[g]? = some (.cells #[.int .u64 x1, .int .u64 y1, .int .u64 x2, .int .u64 y2, .int .u64 x3, .int .u64 y3] T) → Calls Tryz.prog 42 #[.int .u8 f, .slice (some ⟨g, 0, none⟩) 3 3] w fun r w' => r = .returned (.tuple #[.agg #[.int .u64 u, .int .u64 v], .int .u8 fl]) ∧ Below w.heap.size w w') := by
 refine zK (fun T g w row => ?_)
 have KN : zR (∀ w, Calls Tryz.prog 45 #[.int .u8 f] w fun r w' => r = .returned (.agg #[.int .u64 u, .int .u64 v]) ∧ Below w.heap.size w w') := zK (fun w => by
  have := r_nan f hf _ rfl w
  rw [hv] at this
  exact this)
 refine (rc_list f hf [(x1, y1), (x2, y2), (x3, y3)] 3 g 3 T _ rfl (by decide) (thr_lim hx1 hy1 hx2 hy2 hx3 hy3) ?_ row u v KN fl ?_)
 ·
  refine zK (fun p hp => ?_)
  rcases List.mem_cons.1 hp with rfl | h
  ·
   show Fit f (y1 + 18446744073709551616 * x1)
   rw [ha]
   exact fa
  ·
   rcases List.mem_cons.1 h with rfl | h
   ·
    show Fit f (y2 + 18446744073709551616 * x2)
    rw [hb]
    exact fb
   ·
    rcases List.mem_cons.1 h with rfl | h
    ·
     show Fit f (y3 + 18446744073709551616 * x3)
     rw [hc]
     exact fc
    ·
     exact absurd h List.not_mem_nil
 ·
  rw [← hfl]
  show (if (sgP f (x1, y1) || (sgP f (x2, y2) || (sgP f (x3, y3) || false))) = true then (16 : Int) else 0) = _
  unfold sgP
  rw [ha, hb, hc, Bool.or_false]
  by_cases cc : kC f a = 8 ∨ kC f b = 8 ∨ kC f c = 8
  ·
   rw [if_pos cc, if_pos]
   rw [← Bool.decide_or, ← Bool.decide_or, decide_eq_true_iff]
   exact cc
  ·
   rw [if_neg cc, if_neg]
   rw [← Bool.decide_or, ← Bool.decide_or, decide_eq_true_iff]
   exact cc
theorem rfm_no (f m : Int) (x1 y1 x2 y2 x3 y3 : Nat) (w : World)
  (KF : zR (∀ (T : TypeId) (g : Nat) (w : World), w.heap[g]? = some (.cells #[.int .u64 x1, .int .u64 y1, .int .u64 x2, .int .u64 y2, .int .u64 x3, .int .u64 y3] T) → Calls Tryz.prog 40 #[.int .u8 f, .int .u8 m, .slice (some ⟨g, 0, none⟩) 3 3] w fun r w' => r = .returned (.bool false) ∧ Below w.heap.size w w'))
  : Calls Tryz.prog 13 #[.int .u8 f, .int .u8 m, .agg #[.int .u64 x1, .int .u64 y1], .agg #[.int .u64 x2, .int .u64 y2], .agg #[.int .u64 x3, .int .u64 y3]] w fun r w' => r = .returned (.tuple #[.agg #[.int .u64 0, .int .u64 0], .int .u8 0, .int .i64 2]) ∧ Below w.heap.size w w' := by
 have Ab : (((((w.alloc (Obj.cells #[.int .u64 x1, .int .u64 y1] 26)).alloc (Obj.cells #[.int .u64 x2, .int .u64 y2] 26)).alloc (Obj.cells #[.int .u64 x3, .int .u64 y3] 26)).alloc (Obj.cells #[.int .u64 0, .int .u64 0] 26)).alloc (Obj.cells #[.int .u64 x1, .int .u64 y1, .int .u64 x2, .int .u64 y2, .int .u64 x3, .int .u64 y3] 26)).heap[w.heap.size]? = some (.cells #[.int .u64 x1, .int .u64 y1] 26) := by rw [zT _ _ _ (by simp only [zM]; omega), zT _ _ _ (by simp only [zM]; omega), zT _ _ _ (by simp only [zM]; omega), zT _ _ _ (by simp only [zM]; omega)]; have := heap_alloc_last w (Obj.cells #[.int .u64 x1, .int .u64 y1] 26); simpa only [zM] using this
 have Ac : (((((w.alloc (Obj.cells #[.int .u64 x1, .int .u64 y1] 26)).alloc (Obj.cells #[.int .u64 x2, .int .u64 y2] 26)).alloc (Obj.cells #[.int .u64 x3, .int .u64 y3] 26)).alloc (Obj.cells #[.int .u64 0, .int .u64 0] 26)).alloc (Obj.cells #[.int .u64 x1, .int .u64 y1, .int .u64 x2, .int .u64 y2, .int .u64 x3, .int .u64 y3] 26)).heap[w.heap.size + 1]? = some (.cells #[.int .u64 x2, .int .u64 y2] 26) := by rw [zT _ _ _ (by simp only [zM]; omega), zT _ _ _ (by simp only [zM]; omega), zT _ _ _ (by simp only [zM]; omega)]; have := heap_alloc_last (w.alloc (Obj.cells #[.int .u64 x1, .int .u64 y1] 26)) (Obj.cells #[.int .u64 x2, .int .u64 y2] 26); simpa only [zM] using this
 have Ad : (((((w.alloc (Obj.cells #[.int .u64 x1, .int .u64 y1] 26)).alloc (Obj.cells #[.int .u64 x2, .int .u64 y2] 26)).alloc (Obj.cells #[.int .u64 x3, .int .u64 y3] 26)).alloc (Obj.cells #[.int .u64 0, .int .u64 0] 26)).alloc (Obj.cells #[.int .u64 x1, .int .u64 y1, .int .u64 x2, .int .u64 y2, .int .u64 x3, .int .u64 y3] 26)).heap[w.heap.size + 1 + 1]? = some (.cells #[.int .u64 x3, .int .u64 y3] 26) := by rw [zT _ _ _ (by simp only [zM]; omega), zT _ _ _ (by simp only [zM]; omega)]; have := heap_alloc_last ((w.alloc (Obj.cells #[.int .u64 x1, .int .u64 y1] 26)).alloc (Obj.cells #[.int .u64 x2, .int .u64 y2] 26)) (Obj.cells #[.int .u64 x3, .int .u64 y3] 26); simpa only [zM] using this
 have Ae : (((((w.alloc (Obj.cells #[.int .u64 x1, .int .u64 y1] 26)).alloc (Obj.cells #[.int .u64 x2, .int .u64 y2] 26)).alloc (Obj.cells #[.int .u64 x3, .int .u64 y3] 26)).alloc (Obj.cells #[.int .u64 0, .int .u64 0] 26)).alloc (Obj.cells #[.int .u64 x1, .int .u64 y1, .int .u64 x2, .int .u64 y2, .int .u64 x3, .int .u64 y3] 26)).heap[w.heap.size + 1 + 1 + 1]? = some (.cells #[.int .u64 0, .int .u64 0] 26) := by rw [zT _ _ _ (by simp only [zM]; omega)]; have := heap_alloc_last (((w.alloc (Obj.cells #[.int .u64 x1, .int .u64 y1] 26)).alloc (Obj.cells #[.int .u64 x2, .int .u64 y2] 26)).alloc (Obj.cells #[.int .u64 x3, .int .u64 y3] 26)) (Obj.cells #[.int .u64 0, .int .u64 0] 26); simpa only [zM] using this
 have Af : (((((w.alloc (Obj.cells #[.int .u64 x1, .int .u64 y1] 26)).alloc (Obj.cells #[.int .u64 x2, .int .u64 y2] 26)).alloc (Obj.cells #[.int .u64 x3, .int .u64 y3] 26)).alloc (Obj.cells #[.int .u64 0, .int .u64 0] 26)).alloc (Obj.cells #[.int .u64 x1, .int .u64 y1, .int .u64 x2, .int .u64 y2, .int .u64 x3, .int .u64 y3] 26)).heap[w.heap.size + 1 + 1 + 1 + 1]? = some (.cells #[.int .u64 x1, .int .u64 y1, .int .u64 x2, .int .u64 y2, .int .u64 x3, .int .u64 y3] 26) := by have := heap_alloc_last ((((w.alloc (Obj.cells #[.int .u64 x1, .int .u64 y1] 26)).alloc (Obj.cells #[.int .u64 x2, .int .u64 y2] 26)).alloc (Obj.cells #[.int .u64 x3, .int .u64 y3] 26)).alloc (Obj.cells #[.int .u64 0, .int .u64 0] 26)) (Obj.cells #[.int .u64 x1, .int .u64 y1, .int .u64 x2, .int .u64 y2, .int .u64 x3, .int .u64 y3] 26); simpa only [zM] using this
 have B0 : Below w.heap.size w (((((w.alloc (Obj.cells #[.int .u64 x1, .int .u64 y1] 26)).alloc (Obj.cells #[.int .u64 x2, .int .u64 y2] 26)).alloc (Obj.cells #[.int .u64 x3, .int .u64 y3] 26)).alloc (Obj.cells #[.int .u64 0, .int .u64 0] 26)).alloc (Obj.cells #[.int .u64 x1, .int .u64 y1, .int .u64 x2, .int .u64 y2, .int .u64 x3, .int .u64 y3] 26)) := ((((((Below.refl _ _).alloc (by first | omega | (simp only [zM]; omega)) _).alloc (by first | omega | (simp only [zM]; omega)) _).alloc (by first | omega | (simp only [zM]; omega)) _).alloc (by first | omega | (simp only [zM]; omega)) _).alloc (by first | omega | (simp only [zM]; omega)) _)
 go_enter Tryz.func13, Tryz.ntmps13
 obtain ⟨Ag, Ah⟩ := zC Ab
 obtain ⟨Ai, Aj⟩ := zC Ac
 obtain ⟨Ak, Al⟩ := zC Ad
 go_wp2_with fail
 refine (KF.out _ _ _ (by assumption)).mono ?_
 rintro r w1 ⟨rfl, b1⟩
 have B1 := zW B0 b1
 obtain ⟨Am, An, Ao, Aa, Ap⟩ := yO b1 Ab Ac Ad Ae Af
 clear b1 B0 Ab Ag Ah Ac Ai Aj Ad Ak Al Ae Af
 obtain ⟨Aq, Ar⟩ := zC Am
 obtain ⟨As, At⟩ := zC An
 obtain ⟨Au, Av⟩ := zC Ao
 obtain ⟨Aw, Ax⟩ := zC Aa
 have q0 := fz (k := 0) Aa
 have q1 := fz (k := 1) Aa
 obtain ⟨E0, E1⟩ := zQ Aa (.int .u64 0) (.int .u64 0)
 go_wp2
 exact bodyPost_ret (v := .tuple #[.agg #[.int .u64 0, .int .u64 0], .int .u8 0, .int .i64 2]) (by simp [results, Tryz.results13, go_sem, E0, E1]) rfl ⟨rfl, zN B1 (by first | exact Nat.le_refl _ | omega | (skip; omega)) _ _⟩
theorem rfm_iz (f m : Int) (x1 y1 x2 y2 x3 y3 u v : Nat) (fl : Int) (w : World)
  (KF : zR (∀ (T : TypeId) (g : Nat) (w : World), w.heap[g]? = some (.cells #[.int .u64 x1, .int .u64 y1, .int .u64 x2, .int .u64 y2, .int .u64 x3, .int .u64 y3] T) → Calls Tryz.prog 40 #[.int .u8 f, .int .u8 m, .slice (some ⟨g, 0, none⟩) 3 3] w fun r w' => r = .returned (.bool true) ∧ Below w.heap.size w w'))
  (H : zR ((zR (∀ w, Calls Tryz.prog 31 #[.int .u8 f, .agg #[.int .u64 x1, .int .u64 y1]] w fun r w' => r = .returned (.bool true) ∧ Below w.heap.size w w') ∧ zR (∀ w, Calls Tryz.prog 44 #[.int .u8 f, .agg #[.int .u64 x1, .int .u64 y1]] w fun r w' => r = .returned (.bool false) ∧ Below w.heap.size w w') ∧ zR (∀ w, Calls Tryz.prog 44 #[.int .u8 f, .agg #[.int .u64 x2, .int .u64 y2]] w fun r w' => r = .returned (.bool true) ∧ Below w.heap.size w w') ∧ zR (∀ w, Calls Tryz.prog 45 #[.int .u8 f] w fun r w' => r = .returned (.agg #[.int .u64 u, .int .u64 v]) ∧ Below w.heap.size w w') ∧ fl = 16) ∨ (zR (∀ w, Calls Tryz.prog 31 #[.int .u8 f, .agg #[.int .u64 x1, .int .u64 y1]] w fun r w' => r = .returned (.bool false) ∧ Below w.heap.size w w') ∧ zR (∀ w, Calls Tryz.prog 31 #[.int .u8 f, .agg #[.int .u64 x2, .int .u64 y2]] w fun r w' => r = .returned (.bool true) ∧ Below w.heap.size w w') ∧ zR (∀ w, Calls Tryz.prog 44 #[.int .u8 f, .agg #[.int .u64 x1, .int .u64 y1]] w fun r w' => r = .returned (.bool true) ∧ Below w.heap.size w w') ∧ zR (∀ w, Calls Tryz.prog 45 #[.int .u8 f] w fun r w' => r = .returned (.agg #[.int .u64 u, .int .u64 v]) ∧ Below w.heap.size w w') ∧ fl = 16)))
  : Calls Tryz.prog 13 #[.int .u8 f, .int .u8 m, .agg #[.int .u64 x1, .int .u64 y1], .agg #[.int .u64 x2, .int .u64 y2], .agg #[.int .u64 x3, .int .u64 y3]] w fun r w' => r = .returned (.tuple #[.agg #[.int .u64 u, .int .u64 v], .int .u8 fl, .int .i64 0]) ∧ Below w.heap.size w w' := by
 have Av : (((((w.alloc (Obj.cells #[.int .u64 x1, .int .u64 y1] 26)).alloc (Obj.cells #[.int .u64 x2, .int .u64 y2] 26)).alloc (Obj.cells #[.int .u64 x3, .int .u64 y3] 26)).alloc (Obj.cells #[.int .u64 0, .int .u64 0] 26)).alloc (Obj.cells #[.int .u64 x1, .int .u64 y1, .int .u64 x2, .int .u64 y2, .int .u64 x3, .int .u64 y3] 26)).heap[w.heap.size]? = some (.cells #[.int .u64 x1, .int .u64 y1] 26) := by rw [zT _ _ _ (by simp only [zM]; omega), zT _ _ _ (by simp only [zM]; omega), zT _ _ _ (by simp only [zM]; omega), zT _ _ _ (by simp only [zM]; omega)]; have := heap_alloc_last w (Obj.cells #[.int .u64 x1, .int .u64 y1] 26); simpa only [zM] using this
 have Aw : (((((w.alloc (Obj.cells #[.int .u64 x1, .int .u64 y1] 26)).alloc (Obj.cells #[.int .u64 x2, .int .u64 y2] 26)).alloc (Obj.cells #[.int .u64 x3, .int .u64 y3] 26)).alloc (Obj.cells #[.int .u64 0, .int .u64 0] 26)).alloc (Obj.cells #[.int .u64 x1, .int .u64 y1, .int .u64 x2, .int .u64 y2, .int .u64 x3, .int .u64 y3] 26)).heap[w.heap.size + 1]? = some (.cells #[.int .u64 x2, .int .u64 y2] 26) := by rw [zT _ _ _ (by simp only [zM]; omega), zT _ _ _ (by simp only [zM]; omega), zT _ _ _ (by simp only [zM]; omega)]; have := heap_alloc_last (w.alloc (Obj.cells #[.int .u64 x1, .int .u64 y1] 26)) (Obj.cells #[.int .u64 x2, .int .u64 y2] 26); simpa only [zM] using this
 have Ax : (((((w.alloc (Obj.cells #[.int .u64 x1, .int .u64 y1] 26)).alloc (Obj.cells #[.int .u64 x2, .int .u64 y2] 26)).alloc (Obj.cells #[.int .u64 x3, .int .u64 y3] 26)).alloc (Obj.cells #[.int .u64 0, .int .u64 0] 26)).alloc (Obj.cells #[.int .u64 x1, .int .u64 y1, .int .u64 x2, .int .u64 y2, .int .u64 x3, .int .u64 y3] 26)).heap[w.heap.size + 1 + 1]? = some (.cells #[.int .u64 x3, .int .u64 y3] 26) := by rw [zT _ _ _ (by simp only [zM]; omega), zT _ _ _ (by simp only [zM]; omega)]; have := heap_alloc_last ((w.alloc (Obj.cells #[.int .u64 x1, .int .u64 y1] 26)).alloc (Obj.cells #[.int .u64 x2, .int .u64 y2] 26)) (Obj.cells #[.int .u64 x3, .int .u64 y3] 26); simpa only [zM] using this
 have AT : (((((w.alloc (Obj.cells #[.int .u64 x1, .int .u64 y1] 26)).alloc (Obj.cells #[.int .u64 x2, .int .u64 y2] 26)).alloc (Obj.cells #[.int .u64 x3, .int .u64 y3] 26)).alloc (Obj.cells #[.int .u64 0, .int .u64 0] 26)).alloc (Obj.cells #[.int .u64 x1, .int .u64 y1, .int .u64 x2, .int .u64 y2, .int .u64 x3, .int .u64 y3] 26)).heap[w.heap.size + 1 + 1 + 1]? = some (.cells #[.int .u64 0, .int .u64 0] 26) := by rw [zT _ _ _ (by simp only [zM]; omega)]; have := heap_alloc_last (((w.alloc (Obj.cells #[.int .u64 x1, .int .u64 y1] 26)).alloc (Obj.cells #[.int .u64 x2, .int .u64 y2] 26)).alloc (Obj.cells #[.int .u64 x3, .int .u64 y3] 26)) (Obj.cells #[.int .u64 0, .int .u64 0] 26); simpa only [zM] using this
 have AU : (((((w.alloc (Obj.cells #[.int .u64 x1, .int .u64 y1] 26)).alloc (Obj.cells #[.int .u64 x2, .int .u64 y2] 26)).alloc (Obj.cells #[.int .u64 x3, .int .u64 y3] 26)).alloc (Obj.cells #[.int .u64 0, .int .u64 0] 26)).alloc (Obj.cells #[.int .u64 x1, .int .u64 y1, .int .u64 x2, .int .u64 y2, .int .u64 x3, .int .u64 y3] 26)).heap[w.heap.size + 1 + 1 + 1 + 1]? = some (.cells #[.int .u64 x1, .int .u64 y1, .int .u64 x2, .int .u64 y2, .int .u64 x3, .int .u64 y3] 26) := by have := heap_alloc_last ((((w.alloc (Obj.cells #[.int .u64 x1, .int .u64 y1] 26)).alloc (Obj.cells #[.int .u64 x2, .int .u64 y2] 26)).alloc (Obj.cells #[.int .u64 x3, .int .u64 y3] 26)).alloc (Obj.cells #[.int .u64 0, .int .u64 0] 26)) (Obj.cells #[.int .u64 x1, .int .u64 y1, .int .u64 x2, .int .u64 y2, .int .u64 x3, .int .u64 y3] 26); simpa only [zM] using this
 have B0 : Below w.heap.size w (((((w.alloc (Obj.cells #[.int .u64 x1, .int .u64 y1] 26)).alloc (Obj.cells #[.int .u64 x2, .int .u64 y2] 26)).alloc (Obj.cells #[.int .u64 x3, .int .u64 y3] 26)).alloc (Obj.cells #[.int .u64 0, .int .u64 0] 26)).alloc (Obj.cells #[.int .u64 x1, .int .u64 y1, .int .u64 x2, .int .u64 y2, .int .u64 x3, .int .u64 y3] 26)) := ((((((Below.refl _ _).alloc (by first | omega | (simp only [zM]; omega)) _).alloc (by first | omega | (simp only [zM]; omega)) _).alloc (by first | omega | (simp only [zM]; omega)) _).alloc (by first | omega | (simp only [zM]; omega)) _).alloc (by first | omega | (simp only [zM]; omega)) _)
 go_enter Tryz.func13, Tryz.ntmps13
 obtain ⟨A1, A2⟩ := zC Av
 obtain ⟨A3, A4⟩ := zC Aw
 obtain ⟨A5, A6⟩ := zC Ax
 go_wp2_with fail
 refine (KF.out _ _ _ (by assumption)).mono ?_
 rintro r w1 ⟨rfl, b1⟩
 have B1 := zW B0 b1
 obtain ⟨Ak, Al, Am, At, Au⟩ := yO b1 Av Aw Ax AT AU
 clear b1 B0 Av A1 A2 Aw A3 A4 Ax A5 A6 AT AU
 obtain ⟨AV, AW⟩ := zC Ak
 obtain ⟨AX, AY⟩ := zC Al
 obtain ⟨AZ, A0⟩ := zC Am
 rcases H.out with ⟨KI1, KZ1, KZ2, KR, rfl⟩ | ⟨KI1, KI2, KZ1, KR, rfl⟩
 ·
  clear H
  go_wp2_with fail
  refine (KI1.out _).mono ?_
  rintro r w2 ⟨rfl, b2⟩
  have B2 := zW B1 b2
  obtain ⟨Ab, Ac, Ad, An, Ao⟩ := yO b2 Ak Al Am At Au
  clear b2 B1 Ak AV AW Al AX AY Am AZ A0 At Au
  obtain ⟨Ay, Az⟩ := zC Ab
  obtain ⟨AA, AB⟩ := zC Ac
  obtain ⟨AC, AD⟩ := zC Ad
  go_wp2_with fail
  refine (KZ1.out _).mono ?_
  rintro r w3 ⟨rfl, b3⟩
  have B3 := zW B2 b3
  obtain ⟨Ae, Af, Ag, Ap, Aq⟩ := yO b3 Ab Ac Ad An Ao
  clear b3 B2 Ab Ay Az Ac AA AB Ad AC AD An Ao
  obtain ⟨AE, AF⟩ := zC Ae
  obtain ⟨AG, AH⟩ := zC Af
  obtain ⟨AI, AJ⟩ := zC Ag
  go_wp2_with fail
  refine (KZ2.out _).mono ?_
  rintro r w4 ⟨rfl, b4⟩
  have B4 := zW B3 b4
  obtain ⟨Ah, Ai, Aj, Ar, As⟩ := yO b4 Ae Af Ag Ap Aq
  clear b4 B3 Ae AE AF Af AG AH Ag AI AJ Ap Aq
  obtain ⟨AK, AL⟩ := zC Ah
  obtain ⟨AM, AN⟩ := zC Ai
  obtain ⟨AO, AP⟩ := zC Aj
  go_wp2_with fail
  refine (KR.out _).mono ?_
  rintro r w5 ⟨rfl, b5⟩
  have B5 := zW B4 b5
  obtain ⟨AQ, AR, AS, Aa, A7⟩ := yO b5 Ah Ai Aj Ar As
  clear b5 B4 Ah AK AL Ai AM AN Aj AO AP Ar As
  obtain ⟨A8, A9⟩ := zC AQ
  obtain ⟨Ba, Bb⟩ := zC AR
  obtain ⟨Bc, Bd⟩ := zC AS
  obtain ⟨Be, Bf⟩ := zC Aa
  have q0 := fz (k := 0) Aa
  have q1 := fz (k := 1) Aa
  obtain ⟨E0, E1⟩ := zQ Aa (.int .u64 u) (.int .u64 v)
  go_wp2
  exact bodyPost_ret (v := .tuple #[.agg #[.int .u64 u, .int .u64 v], .int .u8 16, .int .i64 0]) (by simp [results, Tryz.results13, go_sem, E0, E1]) rfl ⟨rfl, zN B5 (by first | exact Nat.le_refl _ | omega | (skip; omega)) _ _⟩
 ·
  clear H
  go_wp2_with fail
  refine (KI1.out _).mono ?_
  rintro r w2 ⟨rfl, b2⟩
  have B2 := zW B1 b2
  obtain ⟨Ab, Ac, Ad, An, Ao⟩ := yO b2 Ak Al Am At Au
  clear b2 B1 Ak AV AW Al AX AY Am AZ A0 At Au
  obtain ⟨Ay, Az⟩ := zC Ab
  obtain ⟨AA, AB⟩ := zC Ac
  obtain ⟨AC, AD⟩ := zC Ad
  go_wp2_with fail
  refine (KI2.out _).mono ?_
  rintro r w3 ⟨rfl, b3⟩
  have B3 := zW B2 b3
  obtain ⟨Ae, Af, Ag, Ap, Aq⟩ := yO b3 Ab Ac Ad An Ao
  clear b3 B2 Ab Ay Az Ac AA AB Ad AC AD An Ao
  obtain ⟨AE, AF⟩ := zC Ae
  obtain ⟨AG, AH⟩ := zC Af
  obtain ⟨AI, AJ⟩ := zC Ag
  go_wp2_with fail
  refine (KZ1.out _).mono ?_
  rintro r w4 ⟨rfl, b4⟩
  have B4 := zW B3 b4
  obtain ⟨Ah, Ai, Aj, Ar, As⟩ := yO b4 Ae Af Ag Ap Aq
  clear b4 B3 Ae AE AF Af AG AH Ag AI AJ Ap Aq
  obtain ⟨AK, AL⟩ := zC Ah
  obtain ⟨AM, AN⟩ := zC Ai
  obtain ⟨AO, AP⟩ := zC Aj
  go_wp2_with fail
  refine (KR.out _).mono ?_
  rintro r w5 ⟨rfl, b5⟩
  have B5 := zW B4 b5
  obtain ⟨AQ, AR, AS, Aa, A7⟩ := yO b5 Ah Ai Aj Ar As
  clear b5 B4 Ah AK AL Ai AM AN Aj AO AP Ar As
  obtain ⟨A8, A9⟩ := zC AQ
  obtain ⟨Ba, Bb⟩ := zC AR
  obtain ⟨Bc, Bd⟩ := zC AS
  obtain ⟨Be, Bf⟩ := zC Aa
  have q0 := fz (k := 0) Aa
  have q1 := fz (k := 1) Aa
  obtain ⟨E0, E1⟩ := zQ Aa (.int .u64 u) (.int .u64 v)
  go_wp2
  exact bodyPost_ret (v := .tuple #[.agg #[.int .u64 u, .int .u64 v], .int .u8 16, .int .i64 0]) (by simp [results, Tryz.results13, go_sem, E0, E1]) rfl ⟨rfl, zN B5 (by first | exact Nat.le_refl _ | omega | (skip; omega)) _ _⟩
theorem rfm_inf (f m : Int) (x1 y1 x2 y2 x3 y3 u v : Nat) (fl : Int) (s1 s2 s3 neg : Bool) (hng : (!(s1 == s2)) = neg) (w : World)
  (KF : zR (∀ (T : TypeId) (g : Nat) (w : World), w.heap[g]? = some (.cells #[.int .u64 x1, .int .u64 y1, .int .u64 x2, .int .u64 y2, .int .u64 x3, .int .u64 y3] T) → Calls Tryz.prog 40 #[.int .u8 f, .int .u8 m, .slice (some ⟨g, 0, none⟩) 3 3] w fun r w' => r = .returned (.bool true) ∧ Below w.heap.size w w'))
  (KZ1 : zR (∀ w, Calls Tryz.prog 44 #[.int .u8 f, .agg #[.int .u64 x1, .int .u64 y1]] w fun r w' => r = .returned (.bool false) ∧ Below w.heap.size w w'))
  (KZ2 : zR (∀ w, Calls Tryz.prog 44 #[.int .u8 f, .agg #[.int .u64 x2, .int .u64 y2]] w fun r w' => r = .returned (.bool false) ∧ Below w.heap.size w w'))
  (H2 : zR ((zR (∀ w, Calls Tryz.prog 31 #[.int .u8 f, .agg #[.int .u64 x1, .int .u64 y1]] w fun r w' => r = .returned (.bool true) ∧ Below w.heap.size w w')) ∨ (zR (∀ w, Calls Tryz.prog 31 #[.int .u8 f, .agg #[.int .u64 x1, .int .u64 y1]] w fun r w' => r = .returned (.bool false) ∧ Below w.heap.size w w') ∧ zR (∀ w, Calls Tryz.prog 31 #[.int .u8 f, .agg #[.int .u64 x2, .int .u64 y2]] w fun r w' => r = .returned (.bool true) ∧ Below w.heap.size w w'))))
  (H : zR ((zR (∀ w, Calls Tryz.prog 41 #[.int .u8 f, .agg #[.int .u64 x1, .int .u64 y1]] w fun r w' => r = .returned (.bool true) ∧ Below w.heap.size w w') ∧ zR (∀ (T : TypeId) (g : Nat) (w : World), w.heap[g]? = some (.cells #[.int .u64 x1, .int .u64 y1, .int .u64 x2, .int .u64 y2, .int .u64 x3, .int .u64 y3] T) → Calls Tryz.prog 42 #[.int .u8 f, .slice (some ⟨g, 0, none⟩) 3 3] w fun r w' => r = .returned (.tuple #[.agg #[.int .u64 u, .int .u64 v], .int .u8 fl]) ∧ Below w.heap.size w w')) ∨ (zR (∀ w, Calls Tryz.prog 41 #[.int .u8 f, .agg #[.int .u64 x1, .int .u64 y1]] w fun r w' => r = .returned (.bool false) ∧ Below w.heap.size w w') ∧ zR ((zR (∀ w, Calls Tryz.prog 41 #[.int .u8 f, .agg #[.int .u64 x2, .int .u64 y2]] w fun r w' => r = .returned (.bool true) ∧ Below w.heap.size w w') ∧ zR (∀ (T : TypeId) (g : Nat) (w : World), w.heap[g]? = some (.cells #[.int .u64 x1, .int .u64 y1, .int .u64 x2, .int .u64 y2, .int .u64 x3, .int .u64 y3] T) → Calls Tryz.prog 42 #[.int .u8 f, .slice (some ⟨g, 0, none⟩) 3 3] w fun r w' => r = .returned (.tuple #[.agg #[.int .u64 u, .int .u64 v], .int .u8 fl]) ∧ Below w.heap.size w w')) ∨ (zR (∀ w, Calls Tryz.prog 41 #[.int .u8 f, .agg #[.int .u64 x2, .int .u64 y2]] w fun r w' => r = .returned (.bool false) ∧ Below w.heap.size w w') ∧ zR ((zR (∀ w, Calls Tryz.prog 41 #[.int .u8 f, .agg #[.int .u64 x3, .int .u64 y3]] w fun r w' => r = .returned (.bool true) ∧ Below w.heap.size w w') ∧ zR (∀ (T : TypeId) (g : Nat) (w : World), w.heap[g]? = some (.cells #[.int .u64 x1, .int .u64 y1, .int .u64 x2, .int .u64 y2, .int .u64 x3, .int .u64 y3] T) → Calls Tryz.prog 42 #[.int .u8 f, .slice (some ⟨g, 0, none⟩) 3 3] w fun r w' => r = .returned (.tuple #[.agg #[.int .u64 u, .int .u64 v], .int .u8 fl]) ∧ Below w.heap.size w w')) ∨ (zR (∀ w, Calls Tryz.prog 41 #[.int .u8 f, .agg #[.int .u64 x3, .int .u64 y3]] w fun r w' => r = .returned (.bool false) ∧ Below w.heap.size w w') ∧ zR (∀ w, Calls Tryz.prog 43 #[.int .u8 f, .agg #[.int .u64 x1, .int .u64 y1]] w fun r w' => r = .returned (.bool s1) ∧ Below w.heap.size w w') ∧ zR (∀ w, Calls Tryz.prog 43 #[.int .u8 f, .agg #[.int .u64 x2, .int .u64 y2]] w fun r w' => r = .returned (.bool s2) ∧ Below w.heap.size w w') ∧ zR ((zR (∀ w, Calls Tryz.prog 31 #[.int .u8 f, .agg #[.int .u64 x3, .int .u64 y3]] w fun r w' => r = .returned (.bool true) ∧ Below w.heap.size w w') ∧ zR (∀ w, Calls Tryz.prog 43 #[.int .u8 f, .agg #[.int .u64 x3, .int .u64 y3]] w fun r w' => r = .returned (.bool s3) ∧ Below w.heap.size w w') ∧ (!(s3 == neg)) = true ∧ zR (∀ w, Calls Tryz.prog 45 #[.int .u8 f] w fun r w' => r = .returned (.agg #[.int .u64 u, .int .u64 v]) ∧ Below w.heap.size w w') ∧ fl = 16) ∨ (zR (∀ w, Calls Tryz.prog 31 #[.int .u8 f, .agg #[.int .u64 x3, .int .u64 y3]] w fun r w' => r = .returned (.bool true) ∧ Below w.heap.size w w') ∧ zR (∀ w, Calls Tryz.prog 43 #[.int .u8 f, .agg #[.int .u64 x3, .int .u64 y3]] w fun r w' => r = .returned (.bool s3) ∧ Below w.heap.size w w') ∧ (!(s3 == neg)) = false ∧ zR (∀ w, Calls Tryz.prog 46 #[.int .u8 f, .bool neg] w fun r w' => r = .returned (.agg #[.int .u64 u, .int .u64 v]) ∧ Below w.heap.size w w') ∧ fl = 0) ∨ (zR (∀ w, Calls Tryz.prog 31 #[.int .u8 f, .agg #[.int .u64 x3, .int .u64 y3]] w fun r w' => r = .returned (.bool false) ∧ Below w.heap.size w w') ∧ zR (∀ w, Calls Tryz.prog 46 #[.int .u8 f, .bool neg] w fun r w' => r = .returned (.agg #[.int .u64 u, .int .u64 v]) ∧ Below w.heap.size w w') ∧ fl = 0)))))))))
  : Calls Tryz.prog 13 #[.int .u8 f, .int .u8 m, .agg #[.int .u64 x1, .int .u64 y1], .agg #[.int .u64 x2, .int .u64 y2], .agg #[.int .u64 x3, .int .u64 y3]] w fun r w' => r = .returned (.tuple #[.agg #[.int .u64 u, .int .u64 v], .int .u8 fl, .int .i64 0]) ∧ Below w.heap.size w w' := by
 have Bx : (((((w.alloc (Obj.cells #[.int .u64 x1, .int .u64 y1] 26)).alloc (Obj.cells #[.int .u64 x2, .int .u64 y2] 26)).alloc (Obj.cells #[.int .u64 x3, .int .u64 y3] 26)).alloc (Obj.cells #[.int .u64 0, .int .u64 0] 26)).alloc (Obj.cells #[.int .u64 x1, .int .u64 y1, .int .u64 x2, .int .u64 y2, .int .u64 x3, .int .u64 y3] 26)).heap[w.heap.size]? = some (.cells #[.int .u64 x1, .int .u64 y1] 26) := by rw [zT _ _ _ (by simp only [zM]; omega), zT _ _ _ (by simp only [zM]; omega), zT _ _ _ (by simp only [zM]; omega), zT _ _ _ (by simp only [zM]; omega)]; have := heap_alloc_last w (Obj.cells #[.int .u64 x1, .int .u64 y1] 26); simpa only [zM] using this
 have By : (((((w.alloc (Obj.cells #[.int .u64 x1, .int .u64 y1] 26)).alloc (Obj.cells #[.int .u64 x2, .int .u64 y2] 26)).alloc (Obj.cells #[.int .u64 x3, .int .u64 y3] 26)).alloc (Obj.cells #[.int .u64 0, .int .u64 0] 26)).alloc (Obj.cells #[.int .u64 x1, .int .u64 y1, .int .u64 x2, .int .u64 y2, .int .u64 x3, .int .u64 y3] 26)).heap[w.heap.size + 1]? = some (.cells #[.int .u64 x2, .int .u64 y2] 26) := by rw [zT _ _ _ (by simp only [zM]; omega), zT _ _ _ (by simp only [zM]; omega), zT _ _ _ (by simp only [zM]; omega)]; have := heap_alloc_last (w.alloc (Obj.cells #[.int .u64 x1, .int .u64 y1] 26)) (Obj.cells #[.int .u64 x2, .int .u64 y2] 26); simpa only [zM] using this
 have Bz : (((((w.alloc (Obj.cells #[.int .u64 x1, .int .u64 y1] 26)).alloc (Obj.cells #[.int .u64 x2, .int .u64 y2] 26)).alloc (Obj.cells #[.int .u64 x3, .int .u64 y3] 26)).alloc (Obj.cells #[.int .u64 0, .int .u64 0] 26)).alloc (Obj.cells #[.int .u64 x1, .int .u64 y1, .int .u64 x2, .int .u64 y2, .int .u64 x3, .int .u64 y3] 26)).heap[w.heap.size + 1 + 1]? = some (.cells #[.int .u64 x3, .int .u64 y3] 26) := by rw [zT _ _ _ (by simp only [zM]; omega), zT _ _ _ (by simp only [zM]; omega)]; have := heap_alloc_last ((w.alloc (Obj.cells #[.int .u64 x1, .int .u64 y1] 26)).alloc (Obj.cells #[.int .u64 x2, .int .u64 y2] 26)) (Obj.cells #[.int .u64 x3, .int .u64 y3] 26); simpa only [zM] using this
 have BO : (((((w.alloc (Obj.cells #[.int .u64 x1, .int .u64 y1] 26)).alloc (Obj.cells #[.int .u64 x2, .int .u64 y2] 26)).alloc (Obj.cells #[.int .u64 x3, .int .u64 y3] 26)).alloc (Obj.cells #[.int .u64 0, .int .u64 0] 26)).alloc (Obj.cells #[.int .u64 x1, .int .u64 y1, .int .u64 x2, .int .u64 y2, .int .u64 x3, .int .u64 y3] 26)).heap[w.heap.size + 1 + 1 + 1]? = some (.cells #[.int .u64 0, .int .u64 0] 26) := by rw [zT _ _ _ (by simp only [zM]; omega)]; have := heap_alloc_last (((w.alloc (Obj.cells #[.int .u64 x1, .int .u64 y1] 26)).alloc (Obj.cells #[.int .u64 x2, .int .u64 y2] 26)).alloc (Obj.cells #[.int .u64 x3, .int .u64 y3] 26)) (Obj.cells #[.int .u64 0, .int .u64 0] 26); simpa only [zM] using this
 have BP : (((((w.alloc (Obj.cells #[.int .u64 x1, .int .u64 y1] 26)).alloc (Obj.cells #[.int .u64 x2, .int .u64 y2] 26)).alloc (Obj.cells #[.int .u64 x3, .int .u64 y3] 26)).alloc (Obj.cells #[.int .u64 0, .int .u64 0] 26)).alloc (Obj.cells #[.int .u64 x1, .int .u64 y1, .int .u64 x2, .int .u64 y2, .int .u64 x3, .int .u64 y3] 26)).heap[w.heap.size + 1 + 1 + 1 + 1]? = some (.cells #[.int .u64 x1, .int .u64 y1, .int .u64 x2, .int .u64 y2, .int .u64 x3, .int .u64 y3] 26) := by have := heap_alloc_last ((((w.alloc (Obj.cells #[.int .u64 x1, .int .u64 y1] 26)).alloc (Obj.cells #[.int .u64 x2, .int .u64 y2] 26)).alloc (Obj.cells #[.int .u64 x3, .int .u64 y3] 26)).alloc (Obj.cells #[.int .u64 0, .int .u64 0] 26)) (Obj.cells #[.int .u64 x1, .int .u64 y1, .int .u64 x2, .int .u64 y2, .int .u64 x3, .int .u64 y3] 26); simpa only [zM] using this
 have B0 : Below w.heap.size w (((((w.alloc (Obj.cells #[.int .u64 x1, .int .u64 y1] 26)).alloc (Obj.cells #[.int .u64 x2, .int .u64 y2] 26)).alloc (Obj.cells #[.int .u64 x3, .int .u64 y3] 26)).alloc (Obj.cells #[.int .u64 0, .int .u64 0] 26)).alloc (Obj.cells #[.int .u64 x1, .int .u64 y1, .int .u64 x2, .int .u64 y2, .int .u64 x3, .int .u64 y3] 26)) := ((((((Below.refl _ _).alloc (by first | omega | (simp only [zM]; omega)) _).alloc (by first | omega | (simp only [zM]; omega)) _).alloc (by first | omega | (simp only [zM]; omega)) _).alloc (by first | omega | (simp only [zM]; omega)) _).alloc (by first | omega | (simp only [zM]; omega)) _)
 go_enter Tryz.func13, Tryz.ntmps13
 obtain ⟨Ck, Cl⟩ := zC Bx
 obtain ⟨Cm, Cn⟩ := zC By
 obtain ⟨Co, Cp⟩ := zC Bz
 go_wp2_with fail
 refine (KF.out _ _ _ (by assumption)).mono ?_
 rintro r w1 ⟨rfl, b1⟩
 have B1 := zW B0 b1
 obtain ⟨A6, A7, A8, Bh, Bi⟩ := yO b1 Bx By Bz BO BP
 clear b1 B0 Bx Ck Cl By Cm Cn Bz Co Cp BO BP
 obtain ⟨BQ, BR⟩ := zC A6
 obtain ⟨BS, BT⟩ := zC A7
 obtain ⟨BU, BV⟩ := zC A8
 rcases H2.out with KI1 | ⟨KI1, KI2⟩
 case' inl =>
  go_wp2_with fail
  refine (KI1.out _).mono ?_
  rintro r w2 ⟨rfl, b2⟩
  have B2 := zW B1 b2
  obtain ⟨AC, AD, AE, A9, Ba⟩ := yO b2 A6 A7 A8 Bh Bi
  clear b2 B1 A6 BQ BR A7 BS BT A8 BU BV Bh Bi
  obtain ⟨BA, BB⟩ := zC AC
  obtain ⟨BC, BD⟩ := zC AD
  obtain ⟨BE, BF⟩ := zC AE
  obtain ⟨w3, hw⟩ : ∃ W, W = w2 := ⟨_, rfl⟩
  subst hw
  have B3 := B2
  have Bb := AC
  have Bc := AD
  have Bd := AE
  have BG := A9
  have BH := Ba
  clear B2 AC BA BB AD BC BD AE BE BF A9 Ba
  obtain ⟨BW, BX⟩ := zC Bb
  obtain ⟨BY, BZ⟩ := zC Bc
  obtain ⟨Ca, Cb⟩ := zC Bd
 case' inr =>
  go_wp2_with fail
  refine (KI1.out _).mono ?_
  rintro r w2 ⟨rfl, b2⟩
  have B2 := zW B1 b2
  obtain ⟨AC, AD, AE, A9, Ba⟩ := yO b2 A6 A7 A8 Bh Bi
  clear b2 B1 A6 BQ BR A7 BS BT A8 BU BV Bh Bi
  obtain ⟨BA, BB⟩ := zC AC
  obtain ⟨BC, BD⟩ := zC AD
  obtain ⟨BE, BF⟩ := zC AE
  go_wp2_with fail
  refine (KI2.out _).mono ?_
  rintro r w3 ⟨rfl, b3⟩
  have B3 := zW B2 b3
  obtain ⟨Bb, Bc, Bd, BG, BH⟩ := yO b3 AC AD AE A9 Ba
  clear b3 B2 AC BA BB AD BC BD AE BE BF A9 Ba
  obtain ⟨BW, BX⟩ := zC Bb
  obtain ⟨BY, BZ⟩ := zC Bc
  obtain ⟨Ca, Cb⟩ := zC Bd
 all_goals
  go_wp2_with fail
  refine (KZ1.out _).mono ?_
  rintro r w4 ⟨rfl, b4⟩
  have B4 := zW B3 b4
  obtain ⟨BI, BJ, BK, Cc, Cd⟩ := yO b4 Bb Bc Bd BG BH
  clear b4 B3 Bb BW BX Bc BY BZ Bd Ca Cb BG BH
  obtain ⟨Cq, Cr⟩ := zC BI
  obtain ⟨Cs, Ct⟩ := zC BJ
  obtain ⟨Cu, Cv⟩ := zC BK
  go_wp2_with fail
  refine (KZ2.out _).mono ?_
  rintro r w5 ⟨rfl, b5⟩
  have B5 := zW B4 b5
  obtain ⟨Be, Bf, Bg, Bj, Bk⟩ := yO b5 BI BJ BK Cc Cd
  clear b5 B4 BI Cq Cr BJ Cs Ct BK Cu Cv Cc Cd
  obtain ⟨Ce, Cf⟩ := zC Be
  obtain ⟨Cg, Ch⟩ := zC Bf
  obtain ⟨Ci, Cj⟩ := zC Bg
  rcases H.out with ⟨KN1, KC⟩ | ⟨KN1, Hb⟩
  ·
   clear H
   go_wp2_with fail
   refine (KN1.out _).mono ?_
   rintro r w6 ⟨rfl, b6⟩
   have B6 := zW B5 b6
   obtain ⟨Au, Av, Aw, AF, AG⟩ := yO b6 Be Bf Bg Bj Bk
   clear b6 B5 Be Ce Cf Bf Cg Ch Bg Ci Cj Bj Bk
   obtain ⟨Bl, Bm⟩ := zC Au
   obtain ⟨Bn, Bo⟩ := zC Av
   obtain ⟨Bp, Bq⟩ := zC Aw
   go_wp2_with fail
   refine (KC.out _ _ _ (by assumption)).mono ?_
   rintro r w7 ⟨rfl, b7⟩
   have B7 := zW B6 b7
   obtain ⟨Ad, Ae, Af, Ap, Aq⟩ := yO b7 Au Av Aw AF AG
   clear b7 B6 Au Bl Bm Av Bn Bo Aw Bp Bq AF AG
   obtain ⟨AH, AI⟩ := zC Ad
   obtain ⟨AJ, AK⟩ := zC Ae
   obtain ⟨AL, AM⟩ := zC Af
   have S8 := zK B7.size
   have Cw := yC Ad
   have Cx := yC Ae
   have Cy := yC Af
   have Cz := yC Ap
   have CA := yC Aq
   have CB := heap_alloc_last w7 (Obj.cells #[.int .u64 u, .int .u64 v] 26)
   have B8 := zW B7 (yQ w7 (Obj.cells #[.int .u64 u, .int .u64 v] 26))
   obtain ⟨Aa, Ab, Ag, Ah, As⟩ := yO (yQ w7 (Obj.cells #[.int .u64 u, .int .u64 v] 26)) Ad Ae Af Ap Aq
   clear B7 Ad AH AI Ae AJ AK Af AL AM Ap Aq
   obtain ⟨AN, AO⟩ := zC Aa
   obtain ⟨AP, AQ⟩ := zC Ab
   obtain ⟨AR, AS⟩ := zC Ag
   obtain ⟨CX, CY⟩ := zC CB
   obtain ⟨CZ, C0⟩ := zC Ah
   have q0 := fz (k := 0) Ah
   have q1 := fz (k := 1) Ah
   obtain ⟨E0, E1⟩ := zQ Ah (.int .u64 u) (.int .u64 v)
   go_wp2
   exact bodyPost_ret (v := .tuple #[.agg #[.int .u64 u, .int .u64 v], .int .u8 fl, .int .i64 0]) (by simp [results, Tryz.results13, go_sem, E0, E1]) rfl ⟨rfl, zN B8 (by first | exact Nat.le_refl _ | omega | (have := S8.out; have := Cw.out; have := Cx.out; have := Cy.out; have := Cz.out; have := CA.out; omega)) _ _⟩
  ·
   clear H
   go_wp2_with fail
   refine (KN1.out _).mono ?_
   rintro r w6 ⟨rfl, b6⟩
   have B6 := zW B5 b6
   obtain ⟨Au, Av, Aw, AF, AG⟩ := yO b6 Be Bf Bg Bj Bk
   clear b6 B5 Be Ce Cf Bf Cg Ch Bg Ci Cj Bj Bk
   obtain ⟨Bl, Bm⟩ := zC Au
   obtain ⟨Bn, Bo⟩ := zC Av
   obtain ⟨Bp, Bq⟩ := zC Aw
   rcases Hb.out with ⟨KN2, KC⟩ | ⟨KN2, Hbb⟩
   ·
    clear Hb
    go_wp2_with fail
    refine (KN2.out _).mono ?_
    rintro r w7 ⟨rfl, b7⟩
    have B7 := zW B6 b7
    obtain ⟨Ad, Ae, Af, Ap, Aq⟩ := yO b7 Au Av Aw AF AG
    clear b7 B6 Au Bl Bm Av Bn Bo Aw Bp Bq AF AG
    obtain ⟨AH, AI⟩ := zC Ad
    obtain ⟨AJ, AK⟩ := zC Ae
    obtain ⟨AL, AM⟩ := zC Af
    go_wp2_with fail
    refine (KC.out _ _ _ (by assumption)).mono ?_
    rintro r w8 ⟨rfl, b8⟩
    have B8 := zW B7 b8
    obtain ⟨Aa, Ab, Ag, Ah, As⟩ := yO b8 Ad Ae Af Ap Aq
    clear b8 B7 Ad AH AI Ae AJ AK Af AL AM Ap Aq
    obtain ⟨AN, AO⟩ := zC Aa
    obtain ⟨AP, AQ⟩ := zC Ab
    obtain ⟨AR, AS⟩ := zC Ag
    have S9 := zK B8.size
    have CC := yC Aa
    have CD := yC Ab
    have CE := yC Ag
    have CF := yC Ah
    have CG := yC As
    have CH := heap_alloc_last w8 (Obj.cells #[.int .u64 u, .int .u64 v] 26)
    have B9 := zW B8 (yQ w8 (Obj.cells #[.int .u64 u, .int .u64 v] 26))
    obtain ⟨Ai, Aj, Ak, Ac, Ar⟩ := yO (yQ w8 (Obj.cells #[.int .u64 u, .int .u64 v] 26)) Aa Ab Ag Ah As
    clear B8 Aa AN AO Ab AP AQ Ag AR AS Ah As
    obtain ⟨AT, AU⟩ := zC Ai
    obtain ⟨AV, AW⟩ := zC Aj
    obtain ⟨AX, AY⟩ := zC Ak
    obtain ⟨C1, C2⟩ := zC CH
    obtain ⟨C3, C4⟩ := zC Ac
    have q0 := fz (k := 0) Ac
    have q1 := fz (k := 1) Ac
    obtain ⟨E0, E1⟩ := zQ Ac (.int .u64 u) (.int .u64 v)
    go_wp2
    exact bodyPost_ret (v := .tuple #[.agg #[.int .u64 u, .int .u64 v], .int .u8 fl, .int .i64 0]) (by simp [results, Tryz.results13, go_sem, E0, E1]) rfl ⟨rfl, zN B9 (by first | exact Nat.le_refl _ | omega | (have := S9.out; have := CC.out; have := CD.out; have := CE.out; have := CF.out; have := CG.out; omega)) _ _⟩
   ·
    clear Hb
    go_wp2_with fail
    refine (KN2.out _).mono ?_
    rintro r w7 ⟨rfl, b7⟩
    have B7 := zW B6 b7
    obtain ⟨Ad, Ae, Af, Ap, Aq⟩ := yO b7 Au Av Aw AF AG
    clear b7 B6 Au Bl Bm Av Bn Bo Aw Bp Bq AF AG
    obtain ⟨AH, AI⟩ := zC Ad
    obtain ⟨AJ, AK⟩ := zC Ae
    obtain ⟨AL, AM⟩ := zC Af
    rcases Hbb.out with ⟨KN3, KC⟩ | ⟨KN3, KS1, KS2, Hbbb⟩
    ·
     clear Hbb
     go_wp2_with fail
     refine (KN3.out _).mono ?_
     rintro r w8 ⟨rfl, b8⟩
     have B8 := zW B7 b8
     obtain ⟨Aa, Ab, Ag, Ah, As⟩ := yO b8 Ad Ae Af Ap Aq
     clear b8 B7 Ad AH AI Ae AJ AK Af AL AM Ap Aq
     obtain ⟨AN, AO⟩ := zC Aa
     obtain ⟨AP, AQ⟩ := zC Ab
     obtain ⟨AR, AS⟩ := zC Ag
     go_wp2_with fail
     refine (KC.out _ _ _ (by assumption)).mono ?_
     rintro r w9 ⟨rfl, b9⟩
     have B9 := zW B8 b9
     obtain ⟨Ai, Aj, Ak, Ac, Ar⟩ := yO b9 Aa Ab Ag Ah As
     clear b9 B8 Aa AN AO Ab AP AQ Ag AR AS Ah As
     obtain ⟨AT, AU⟩ := zC Ai
     obtain ⟨AV, AW⟩ := zC Aj
     obtain ⟨AX, AY⟩ := zC Ak
     have S10 := zK B9.size
     have CI := yC Ai
     have CJ := yC Aj
     have CK := yC Ak
     have CL := yC Ac
     have CM := yC Ar
     have CN := heap_alloc_last w9 (Obj.cells #[.int .u64 u, .int .u64 v] 26)
     have B10 := zW B9 (yQ w9 (Obj.cells #[.int .u64 u, .int .u64 v] 26))
     obtain ⟨Al, Am, An, Ao, Ax⟩ := yO (yQ w9 (Obj.cells #[.int .u64 u, .int .u64 v] 26)) Ai Aj Ak Ac Ar
     clear B9 Ai AT AU Aj AV AW Ak AX AY Ac Ar
     obtain ⟨AZ, A0⟩ := zC Al
     obtain ⟨A1, A2⟩ := zC Am
     obtain ⟨A3, A4⟩ := zC An
     obtain ⟨C5, C6⟩ := zC CN
     obtain ⟨C7, C8⟩ := zC Ao
     have q0 := fz (k := 0) Ao
     have q1 := fz (k := 1) Ao
     obtain ⟨E0, E1⟩ := zQ Ao (.int .u64 u) (.int .u64 v)
     go_wp2
     exact bodyPost_ret (v := .tuple #[.agg #[.int .u64 u, .int .u64 v], .int .u8 fl, .int .i64 0]) (by simp [results, Tryz.results13, go_sem, E0, E1]) rfl ⟨rfl, zN B10 (by first | exact Nat.le_refl _ | omega | (have := S10.out; have := CI.out; have := CJ.out; have := CK.out; have := CL.out; have := CM.out; omega)) _ _⟩
    ·
     clear Hbb
     go_wp2_with fail
     refine (KN3.out _).mono ?_
     rintro r w8 ⟨rfl, b8⟩
     have B8 := zW B7 b8
     obtain ⟨Aa, Ab, Ag, Ah, As⟩ := yO b8 Ad Ae Af Ap Aq
     clear b8 B7 Ad AH AI Ae AJ AK Af AL AM Ap Aq
     obtain ⟨AN, AO⟩ := zC Aa
     obtain ⟨AP, AQ⟩ := zC Ab
     obtain ⟨AR, AS⟩ := zC Ag
     have sS : zR (∀ W W1 : World, (Below w.heap.size w W ∧ W.heap[w.heap.size]? = some (.cells #[.int .u64 x1, .int .u64 y1] 26) ∧ W.heap[w.heap.size + 1]? = some (.cells #[.int .u64 x2, .int .u64 y2] 26) ∧ W.heap[w.heap.size + 1 + 1]? = some (.cells #[.int .u64 x3, .int .u64 y3] 26) ∧ W.heap[w.heap.size + 1 + 1 + 1]? = some (.cells #[.int .u64 0, .int .u64 0] 26) ∧ W.heap[w.heap.size + 1 + 1 + 1 + 1]? = some (.cells #[.int .u64 x1, .int .u64 y1, .int .u64 x2, .int .u64 y2, .int .u64 x3, .int .u64 y3] 26) ∧ W.cell? ⟨w.heap.size, 0, none⟩ = some (.int .u64 x1) ∧ W.cell? ⟨w.heap.size, 1, none⟩ = some (.int .u64 y1) ∧ W.cell? ⟨w.heap.size + 1, 0, none⟩ = some (.int .u64 x2) ∧ W.cell? ⟨w.heap.size + 1, 1, none⟩ = some (.int .u64 y2)) → Below W.heap.size W W1 → (Below w.heap.size w W1 ∧ W1.heap[w.heap.size]? = some (.cells #[.int .u64 x1, .int .u64 y1] 26) ∧ W1.heap[w.heap.size + 1]? = some (.cells #[.int .u64 x2, .int .u64 y2] 26) ∧ W1.heap[w.heap.size + 1 + 1]? = some (.cells #[.int .u64 x3, .int .u64 y3] 26) ∧ W1.heap[w.heap.size + 1 + 1 + 1]? = some (.cells #[.int .u64 0, .int .u64 0] 26) ∧ W1.heap[w.heap.size + 1 + 1 + 1 + 1]? = some (.cells #[.int .u64 x1, .int .u64 y1, .int .u64 x2, .int .u64 y2, .int .u64 x3, .int .u64 y3] 26) ∧ W1.cell? ⟨w.heap.size, 0, none⟩ = some (.int .u64 x1) ∧ W1.cell? ⟨w.heap.size, 1, none⟩ = some (.int .u64 y1) ∧ W1.cell? ⟨w.heap.size + 1, 0, none⟩ = some (.int .u64 x2) ∧ W1.cell? ⟨w.heap.size + 1, 1, none⟩ = some (.int .u64 y2))) := zK (fun W W1 h b => ⟨zW h.1 b, zA b _ _ _ h.2.1, zA b _ _ _ h.2.2.1, zA b _ _ _ h.2.2.2.1, zA b _ _ _ h.2.2.2.2.1, zA b _ _ _ h.2.2.2.2.2.1, zJ (zA b _ _ _ h.2.1) 0 _ rfl, zJ (zA b _ _ _ h.2.1) 1 _ rfl, zJ (zA b _ _ _ h.2.2.1) 0 _ rfl, zJ (zA b _ _ _ h.2.2.1) 1 _ rfl⟩)
     have s0 : Below w.heap.size w (w8).drew ∧ (w8).drew.heap[w.heap.size]? = some (.cells #[.int .u64 x1, .int .u64 y1] 26) ∧ (w8).drew.heap[w.heap.size + 1]? = some (.cells #[.int .u64 x2, .int .u64 y2] 26) ∧ (w8).drew.heap[w.heap.size + 1 + 1]? = some (.cells #[.int .u64 x3, .int .u64 y3] 26) ∧ (w8).drew.heap[w.heap.size + 1 + 1 + 1]? = some (.cells #[.int .u64 0, .int .u64 0] 26) ∧ (w8).drew.heap[w.heap.size + 1 + 1 + 1 + 1]? = some (.cells #[.int .u64 x1, .int .u64 y1, .int .u64 x2, .int .u64 y2, .int .u64 x3, .int .u64 y3] 26) ∧ (w8).drew.cell? ⟨w.heap.size, 0, none⟩ = some (.int .u64 x1) ∧ (w8).drew.cell? ⟨w.heap.size, 1, none⟩ = some (.int .u64 y1) ∧ (w8).drew.cell? ⟨w.heap.size + 1, 0, none⟩ = some (.int .u64 x2) ∧ (w8).drew.cell? ⟨w.heap.size + 1, 1, none⟩ = some (.int .u64 y2) := ⟨B8.drew, Aa, Ab, Ag, Ah, As, zJ (Aa) 0 _ rfl, zJ (Aa) 1 _ rfl, zJ (Ab) 0 _ rfl, zJ (Ab) 1 _ rfl⟩
     go_wp2_with fail
     go_region_held3 (fun W => Below w.heap.size w W ∧ W.heap[w.heap.size]? = some (.cells #[.int .u64 x1, .int .u64 y1] 26) ∧ W.heap[w.heap.size + 1]? = some (.cells #[.int .u64 x2, .int .u64 y2] 26) ∧ W.heap[w.heap.size + 1 + 1]? = some (.cells #[.int .u64 x3, .int .u64 y3] 26) ∧ W.heap[w.heap.size + 1 + 1 + 1]? = some (.cells #[.int .u64 0, .int .u64 0] 26) ∧ W.heap[w.heap.size + 1 + 1 + 1 + 1]? = some (.cells #[.int .u64 x1, .int .u64 y1, .int .u64 x2, .int .u64 y2, .int .u64 x3, .int .u64 y3] 26) ∧ W.cell? ⟨w.heap.size, 0, none⟩ = some (.int .u64 x1) ∧ W.cell? ⟨w.heap.size, 1, none⟩ = some (.int .u64 y1) ∧ W.cell? ⟨w.heap.size + 1, 0, none⟩ = some (.int .u64 x2) ∧ W.cell? ⟨w.heap.size + 1, 1, none⟩ = some (.int .u64 y2)) (first | exact s1 | exact s0)
      (((first | (go_at_call_of 43 (Value.agg #[.int .u64 x1, .int .u64 y1]); refine (KS1.out _).mono ?_) | (go_at_call_of 43 (Value.agg #[.int .u64 x2, .int .u64 y2]); refine (KS2.out _).mono ?_) | fail); rintro r wq ⟨rfl, bq⟩; (first | have s1 := sS.out _ _ s1 bq | have s1 := sS.out _ _ s0 bq); clear bq))
     have B9 := (And.left s1)
     have Ai := s1.2.1
     have Aj := s1.2.2.1
     have Ak := s1.2.2.2.1
     have Ac := s1.2.2.2.2.1
     have Ar := s1.2.2.2.2.2.1
     clear s0 s1 sS B8 Aa AN AO Ab AP AQ Ag AR AS Ah As
     obtain ⟨AT, AU⟩ := zC Ai
     obtain ⟨AV, AW⟩ := zC Aj
     obtain ⟨AX, AY⟩ := zC Ak
     rcases Hbbb.out with ⟨KI3, KS3, h3, KR, rfl⟩ | ⟨KI3, KS3, h3, KR, rfl⟩ | ⟨KI3, KR, rfl⟩
     ·
      clear Hbbb
      go_wp2_with fail
      refine (KI3.out _).mono ?_
      rintro r w10 ⟨rfl, b10⟩
      have B10 := zW B9 b10
      obtain ⟨Al, Am, An, Ao, Ax⟩ := yO b10 Ai Aj Ak Ac Ar
      clear b10 B9 Ai AT AU Aj AV AW Ak AX AY Ac Ar
      obtain ⟨AZ, A0⟩ := zC Al
      obtain ⟨A1, A2⟩ := zC Am
      obtain ⟨A3, A4⟩ := zC An
      go_wp2_with fail
      refine (KS3.out _).mono ?_
      rintro r w11 ⟨rfl, b11⟩
      have B11 := zW B10 b11
      obtain ⟨Ay, Az, AA, At, A5⟩ := yO b11 Al Am An Ao Ax
      clear b11 B10 Al AZ A0 Am A1 A2 An A3 A4 Ao Ax
      obtain ⟨Br, Bs⟩ := zC Ay
      obtain ⟨Bt, Bu⟩ := zC Az
      obtain ⟨Bv, Bw⟩ := zC AA
      go_wp2_with fail
      refine (KR.out _).mono ?_
      rintro r w12 ⟨rfl, b12⟩
      have B12 := zW B11 b12
      obtain ⟨BL, BM, BN, AB, CO⟩ := yO b12 Ay Az AA At A5
      clear b12 B11 Ay Br Bs Az Bt Bu AA Bv Bw At A5
      obtain ⟨CP, CQ⟩ := zC BL
      obtain ⟨CR, CS⟩ := zC BM
      obtain ⟨CT, CU⟩ := zC BN
      obtain ⟨CV, CW⟩ := zC AB
      have q0 := fz (k := 0) AB
      have q1 := fz (k := 1) AB
      obtain ⟨E0, E1⟩ := zQ AB (.int .u64 u) (.int .u64 v)
      go_wp2
      exact bodyPost_ret (v := .tuple #[.agg #[.int .u64 u, .int .u64 v], .int .u8 16, .int .i64 0]) (by simp [results, Tryz.results13, go_sem, E0, E1]) rfl ⟨rfl, zN B12 (by first | exact Nat.le_refl _ | omega | (skip; omega)) _ _⟩
     ·
      clear Hbbb
      go_wp2_with fail
      refine (KI3.out _).mono ?_
      rintro r w10 ⟨rfl, b10⟩
      have B10 := zW B9 b10
      obtain ⟨Al, Am, An, Ao, Ax⟩ := yO b10 Ai Aj Ak Ac Ar
      clear b10 B9 Ai AT AU Aj AV AW Ak AX AY Ac Ar
      obtain ⟨AZ, A0⟩ := zC Al
      obtain ⟨A1, A2⟩ := zC Am
      obtain ⟨A3, A4⟩ := zC An
      go_wp2_with fail
      refine (KS3.out _).mono ?_
      rintro r w11 ⟨rfl, b11⟩
      have B11 := zW B10 b11
      obtain ⟨Ay, Az, AA, At, A5⟩ := yO b11 Al Am An Ao Ax
      clear b11 B10 Al AZ A0 Am A1 A2 An A3 A4 Ao Ax
      obtain ⟨Br, Bs⟩ := zC Ay
      obtain ⟨Bt, Bu⟩ := zC Az
      obtain ⟨Bv, Bw⟩ := zC AA
      go_wp2_with fail
      refine (KR.out _).mono ?_
      rintro r w12 ⟨rfl, b12⟩
      have B12 := zW B11 b12
      obtain ⟨BL, BM, BN, AB, CO⟩ := yO b12 Ay Az AA At A5
      clear b12 B11 Ay Br Bs Az Bt Bu AA Bv Bw At A5
      obtain ⟨CP, CQ⟩ := zC BL
      obtain ⟨CR, CS⟩ := zC BM
      obtain ⟨CT, CU⟩ := zC BN
      obtain ⟨CV, CW⟩ := zC AB
      have q0 := fz (k := 0) AB
      have q1 := fz (k := 1) AB
      obtain ⟨E0, E1⟩ := zQ AB (.int .u64 u) (.int .u64 v)
      go_wp2
      exact bodyPost_ret (v := .tuple #[.agg #[.int .u64 u, .int .u64 v], .int .u8 0, .int .i64 0]) (by simp [results, Tryz.results13, go_sem, E0, E1]) rfl ⟨rfl, zN B12 (by first | exact Nat.le_refl _ | omega | (skip; omega)) _ _⟩
     ·
      clear Hbbb
      go_wp2_with fail
      refine (KI3.out _).mono ?_
      rintro r w10 ⟨rfl, b10⟩
      have B10 := zW B9 b10
      obtain ⟨Al, Am, An, Ao, Ax⟩ := yO b10 Ai Aj Ak Ac Ar
      clear b10 B9 Ai AT AU Aj AV AW Ak AX AY Ac Ar
      obtain ⟨AZ, A0⟩ := zC Al
      obtain ⟨A1, A2⟩ := zC Am
      obtain ⟨A3, A4⟩ := zC An
      go_wp2_with fail
      refine (KR.out _).mono ?_
      rintro r w11 ⟨rfl, b11⟩
      have B11 := zW B10 b11
      obtain ⟨Ay, Az, AA, At, A5⟩ := yO b11 Al Am An Ao Ax
      clear b11 B10 Al AZ A0 Am A1 A2 An A3 A4 Ao Ax
      obtain ⟨Br, Bs⟩ := zC Ay
      obtain ⟨Bt, Bu⟩ := zC Az
      obtain ⟨Bv, Bw⟩ := zC AA
      obtain ⟨C9, Da⟩ := zC At
      have q0 := fz (k := 0) At
      have q1 := fz (k := 1) At
      obtain ⟨E0, E1⟩ := zQ At (.int .u64 u) (.int .u64 v)
      go_wp2
      exact bodyPost_ret (v := .tuple #[.agg #[.int .u64 u, .int .u64 v], .int .u8 0, .int .i64 0]) (by simp [results, Tryz.results13, go_sem, E0, E1]) rfl ⟨rfl, zN B11 (by first | exact Nat.le_refl _ | omega | (skip; omega)) _ _⟩
theorem rfm_zero (f m : Int) (x1 y1 x2 y2 x3 y3 u v : Nat) (fl : Int) (s1 s2 s3 neg : Bool) (hng : (!(s1 == s2)) = neg) (b1 : Bool) (n1 d1 : ByteArray) (e1 : Int) (b2 : Bool) (n2 d2 : ByteArray) (e2 : Int) (b3 : Bool) (n3 d3 : ByteArray) (e3 : Int) (b4 : Bool) (n4 d4 : ByteArray) (e4 : Int) (b5 : Bool) (n5 d5 : ByteArray) (e5 : Int) (w : World)
  (KF : zR (∀ (T : TypeId) (g : Nat) (w : World), w.heap[g]? = some (.cells #[.int .u64 x1, .int .u64 y1, .int .u64 x2, .int .u64 y2, .int .u64 x3, .int .u64 y3] T) → Calls Tryz.prog 40 #[.int .u8 f, .int .u8 m, .slice (some ⟨g, 0, none⟩) 3 3] w fun r w' => r = .returned (.bool true) ∧ Below w.heap.size w w'))
  (KI1 : zR (∀ w, Calls Tryz.prog 31 #[.int .u8 f, .agg #[.int .u64 x1, .int .u64 y1]] w fun r w' => r = .returned (.bool false) ∧ Below w.heap.size w w'))
  (KI2 : zR (∀ w, Calls Tryz.prog 31 #[.int .u8 f, .agg #[.int .u64 x2, .int .u64 y2]] w fun r w' => r = .returned (.bool false) ∧ Below w.heap.size w w'))
  (H2 : zR ((zR (∀ w, Calls Tryz.prog 44 #[.int .u8 f, .agg #[.int .u64 x1, .int .u64 y1]] w fun r w' => r = .returned (.bool true) ∧ Below w.heap.size w w')) ∨ (zR (∀ w, Calls Tryz.prog 44 #[.int .u8 f, .agg #[.int .u64 x1, .int .u64 y1]] w fun r w' => r = .returned (.bool false) ∧ Below w.heap.size w w') ∧ zR (∀ w, Calls Tryz.prog 44 #[.int .u8 f, .agg #[.int .u64 x2, .int .u64 y2]] w fun r w' => r = .returned (.bool true) ∧ Below w.heap.size w w'))))
  (H : zR ((zR (∀ w, Calls Tryz.prog 41 #[.int .u8 f, .agg #[.int .u64 x1, .int .u64 y1]] w fun r w' => r = .returned (.bool true) ∧ Below w.heap.size w w') ∧ zR (∀ (T : TypeId) (g : Nat) (w : World), w.heap[g]? = some (.cells #[.int .u64 x1, .int .u64 y1, .int .u64 x2, .int .u64 y2, .int .u64 x3, .int .u64 y3] T) → Calls Tryz.prog 42 #[.int .u8 f, .slice (some ⟨g, 0, none⟩) 3 3] w fun r w' => r = .returned (.tuple #[.agg #[.int .u64 u, .int .u64 v], .int .u8 fl]) ∧ Below w.heap.size w w')) ∨ (zR (∀ w, Calls Tryz.prog 41 #[.int .u8 f, .agg #[.int .u64 x1, .int .u64 y1]] w fun r w' => r = .returned (.bool false) ∧ Below w.heap.size w w') ∧ zR ((zR (∀ w, Calls Tryz.prog 41 #[.int .u8 f, .agg #[.int .u64 x2, .int .u64 y2]] w fun r w' => r = .returned (.bool true) ∧ Below w.heap.size w w') ∧ zR (∀ (T : TypeId) (g : Nat) (w : World), w.heap[g]? = some (.cells #[.int .u64 x1, .int .u64 y1, .int .u64 x2, .int .u64 y2, .int .u64 x3, .int .u64 y3] T) → Calls Tryz.prog 42 #[.int .u8 f, .slice (some ⟨g, 0, none⟩) 3 3] w fun r w' => r = .returned (.tuple #[.agg #[.int .u64 u, .int .u64 v], .int .u8 fl]) ∧ Below w.heap.size w w')) ∨ (zR (∀ w, Calls Tryz.prog 41 #[.int .u8 f, .agg #[.int .u64 x2, .int .u64 y2]] w fun r w' => r = .returned (.bool false) ∧ Below w.heap.size w w') ∧ zR ((zR (∀ w, Calls Tryz.prog 41 #[.int .u8 f, .agg #[.int .u64 x3, .int .u64 y3]] w fun r w' => r = .returned (.bool true) ∧ Below w.heap.size w w') ∧ zR (∀ (T : TypeId) (g : Nat) (w : World), w.heap[g]? = some (.cells #[.int .u64 x1, .int .u64 y1, .int .u64 x2, .int .u64 y2, .int .u64 x3, .int .u64 y3] T) → Calls Tryz.prog 42 #[.int .u8 f, .slice (some ⟨g, 0, none⟩) 3 3] w fun r w' => r = .returned (.tuple #[.agg #[.int .u64 u, .int .u64 v], .int .u8 fl]) ∧ Below w.heap.size w w')) ∨ (zR (∀ w, Calls Tryz.prog 41 #[.int .u8 f, .agg #[.int .u64 x3, .int .u64 y3]] w fun r w' => r = .returned (.bool false) ∧ Below w.heap.size w w') ∧ zR (∀ w, Calls Tryz.prog 43 #[.int .u8 f, .agg #[.int .u64 x1, .int .u64 y1]] w fun r w' => r = .returned (.bool s1) ∧ Below w.heap.size w w') ∧ zR (∀ w, Calls Tryz.prog 43 #[.int .u8 f, .agg #[.int .u64 x2, .int .u64 y2]] w fun r w' => r = .returned (.bool s2) ∧ Below w.heap.size w w') ∧ zR ((zR (∀ w, Calls Tryz.prog 31 #[.int .u8 f, .agg #[.int .u64 x3, .int .u64 y3]] w fun r w' => r = .returned (.bool true) ∧ Below w.heap.size w w') ∧ x3 = u ∧ y3 = v ∧ fl = 0) ∨ (zR (∀ w, Calls Tryz.prog 31 #[.int .u8 f, .agg #[.int .u64 x3, .int .u64 y3]] w fun r w' => r = .returned (.bool false) ∧ Below w.heap.size w w') ∧ zR ((zR (∀ w, Calls Tryz.prog 44 #[.int .u8 f, .agg #[.int .u64 x3, .int .u64 y3]] w fun r w' => r = .returned (.bool true) ∧ Below w.heap.size w w') ∧ zR (∀ w, Calls Tryz.prog 43 #[.int .u8 f, .agg #[.int .u64 x3, .int .u64 y3]] w fun r w' => r = .returned (.bool s3) ∧ Below w.heap.size w w') ∧ (s3 == neg) = true ∧ x3 = u ∧ y3 = v ∧ fl = 0) ∨ (zR (∀ w, Calls Tryz.prog 44 #[.int .u8 f, .agg #[.int .u64 x3, .int .u64 y3]] w fun r w' => r = .returned (.bool true) ∧ Below w.heap.size w w') ∧ zR (∀ w, Calls Tryz.prog 43 #[.int .u8 f, .agg #[.int .u64 x3, .int .u64 y3]] w fun r w' => r = .returned (.bool s3) ∧ Below w.heap.size w w') ∧ (s3 == neg) = false ∧ zR (∀ w, Calls Tryz.prog 52 #[.int .u8 f, .int .u8 m] w fun r w' => r = .returned (.agg #[.int .u64 u, .int .u64 v]) ∧ Below w.heap.size w w') ∧ fl = 0) ∨ (zR (∀ w, Calls Tryz.prog 44 #[.int .u8 f, .agg #[.int .u64 x3, .int .u64 y3]] w fun r w' => r = .returned (.bool false) ∧ Below w.heap.size w w') ∧ zR (∀ w, Calls Tryz.prog 48 #[.int .u8 f, .agg #[.int .u64 x1, .int .u64 y1]] w fun r w' => r = .returned (.tuple #[.agg #[.bool b1, .string n1, .string d1, .int .i64 e1], .int .i64 0]) ∧ Below w.heap.size w w') ∧ zR (∀ w, Calls Tryz.prog 48 #[.int .u8 f, .agg #[.int .u64 x2, .int .u64 y2]] w fun r w' => r = .returned (.tuple #[.agg #[.bool b2, .string n2, .string d2, .int .i64 e2], .int .i64 0]) ∧ Below w.heap.size w w') ∧ zR (∀ w, Calls Tryz.prog 48 #[.int .u8 f, .agg #[.int .u64 x3, .int .u64 y3]] w fun r w' => r = .returned (.tuple #[.agg #[.bool b3, .string n3, .string d3, .int .i64 e3], .int .i64 0]) ∧ Below w.heap.size w w') ∧ zR (∀ w, Calls Tryz.prog 53 #[.agg #[.bool b1, .string n1, .string d1, .int .i64 e1], .agg #[.bool b2, .string n2, .string d2, .int .i64 e2]] w fun r w' => r = .returned (.tuple #[.agg #[.bool b4, .string n4, .string d4, .int .i64 e4], .int .i64 0]) ∧ Below w.heap.size w w') ∧ zR (∀ w, Calls Tryz.prog 54 #[.agg #[.bool b4, .string n4, .string d4, .int .i64 e4], .agg #[.bool b3, .string n3, .string d3, .int .i64 e3]] w fun r w' => r = .returned (.tuple #[.agg #[.bool b5, .string n5, .string d5, .int .i64 e5], .int .i64 0]) ∧ Below w.heap.size w w') ∧ zR ((n5.toList.isEmpty = false ∧ zR (∀ w, Calls Tryz.prog 50 #[.int .u8 f, .int .u8 m, .agg #[.bool b5, .string n5, .string d5, .int .i64 e5]] w fun r w' => r = .returned (.tuple #[.agg #[.int .u64 u, .int .u64 v], .int .u8 fl, .int .i64 0]) ∧ Below w.heap.size w w')) ∨ (n5.toList.isEmpty = true ∧ zR (∀ w, Calls Tryz.prog 52 #[.int .u8 f, .int .u8 m] w fun r w' => r = .returned (.agg #[.int .u64 u, .int .u64 v]) ∧ Below w.heap.size w w') ∧ fl = 0)))))))))))))
  : Calls Tryz.prog 13 #[.int .u8 f, .int .u8 m, .agg #[.int .u64 x1, .int .u64 y1], .agg #[.int .u64 x2, .int .u64 y2], .agg #[.int .u64 x3, .int .u64 y3]] w fun r w' => r = .returned (.tuple #[.agg #[.int .u64 u, .int .u64 v], .int .u8 fl, .int .i64 0]) ∧ Below w.heap.size w w' := by
 have Cf : (((((w.alloc (Obj.cells #[.int .u64 x1, .int .u64 y1] 26)).alloc (Obj.cells #[.int .u64 x2, .int .u64 y2] 26)).alloc (Obj.cells #[.int .u64 x3, .int .u64 y3] 26)).alloc (Obj.cells #[.int .u64 0, .int .u64 0] 26)).alloc (Obj.cells #[.int .u64 x1, .int .u64 y1, .int .u64 x2, .int .u64 y2, .int .u64 x3, .int .u64 y3] 26)).heap[w.heap.size]? = some (.cells #[.int .u64 x1, .int .u64 y1] 26) := by rw [zT _ _ _ (by simp only [zM]; omega), zT _ _ _ (by simp only [zM]; omega), zT _ _ _ (by simp only [zM]; omega), zT _ _ _ (by simp only [zM]; omega)]; have := heap_alloc_last w (Obj.cells #[.int .u64 x1, .int .u64 y1] 26); simpa only [zM] using this
 have Cg : (((((w.alloc (Obj.cells #[.int .u64 x1, .int .u64 y1] 26)).alloc (Obj.cells #[.int .u64 x2, .int .u64 y2] 26)).alloc (Obj.cells #[.int .u64 x3, .int .u64 y3] 26)).alloc (Obj.cells #[.int .u64 0, .int .u64 0] 26)).alloc (Obj.cells #[.int .u64 x1, .int .u64 y1, .int .u64 x2, .int .u64 y2, .int .u64 x3, .int .u64 y3] 26)).heap[w.heap.size + 1]? = some (.cells #[.int .u64 x2, .int .u64 y2] 26) := by rw [zT _ _ _ (by simp only [zM]; omega), zT _ _ _ (by simp only [zM]; omega), zT _ _ _ (by simp only [zM]; omega)]; have := heap_alloc_last (w.alloc (Obj.cells #[.int .u64 x1, .int .u64 y1] 26)) (Obj.cells #[.int .u64 x2, .int .u64 y2] 26); simpa only [zM] using this
 have Ch : (((((w.alloc (Obj.cells #[.int .u64 x1, .int .u64 y1] 26)).alloc (Obj.cells #[.int .u64 x2, .int .u64 y2] 26)).alloc (Obj.cells #[.int .u64 x3, .int .u64 y3] 26)).alloc (Obj.cells #[.int .u64 0, .int .u64 0] 26)).alloc (Obj.cells #[.int .u64 x1, .int .u64 y1, .int .u64 x2, .int .u64 y2, .int .u64 x3, .int .u64 y3] 26)).heap[w.heap.size + 1 + 1]? = some (.cells #[.int .u64 x3, .int .u64 y3] 26) := by rw [zT _ _ _ (by simp only [zM]; omega), zT _ _ _ (by simp only [zM]; omega)]; have := heap_alloc_last ((w.alloc (Obj.cells #[.int .u64 x1, .int .u64 y1] 26)).alloc (Obj.cells #[.int .u64 x2, .int .u64 y2] 26)) (Obj.cells #[.int .u64 x3, .int .u64 y3] 26); simpa only [zM] using this
 have C8 : (((((w.alloc (Obj.cells #[.int .u64 x1, .int .u64 y1] 26)).alloc (Obj.cells #[.int .u64 x2, .int .u64 y2] 26)).alloc (Obj.cells #[.int .u64 x3, .int .u64 y3] 26)).alloc (Obj.cells #[.int .u64 0, .int .u64 0] 26)).alloc (Obj.cells #[.int .u64 x1, .int .u64 y1, .int .u64 x2, .int .u64 y2, .int .u64 x3, .int .u64 y3] 26)).heap[w.heap.size + 1 + 1 + 1]? = some (.cells #[.int .u64 0, .int .u64 0] 26) := by rw [zT _ _ _ (by simp only [zM]; omega)]; have := heap_alloc_last (((w.alloc (Obj.cells #[.int .u64 x1, .int .u64 y1] 26)).alloc (Obj.cells #[.int .u64 x2, .int .u64 y2] 26)).alloc (Obj.cells #[.int .u64 x3, .int .u64 y3] 26)) (Obj.cells #[.int .u64 0, .int .u64 0] 26); simpa only [zM] using this
 have C9 : (((((w.alloc (Obj.cells #[.int .u64 x1, .int .u64 y1] 26)).alloc (Obj.cells #[.int .u64 x2, .int .u64 y2] 26)).alloc (Obj.cells #[.int .u64 x3, .int .u64 y3] 26)).alloc (Obj.cells #[.int .u64 0, .int .u64 0] 26)).alloc (Obj.cells #[.int .u64 x1, .int .u64 y1, .int .u64 x2, .int .u64 y2, .int .u64 x3, .int .u64 y3] 26)).heap[w.heap.size + 1 + 1 + 1 + 1]? = some (.cells #[.int .u64 x1, .int .u64 y1, .int .u64 x2, .int .u64 y2, .int .u64 x3, .int .u64 y3] 26) := by have := heap_alloc_last ((((w.alloc (Obj.cells #[.int .u64 x1, .int .u64 y1] 26)).alloc (Obj.cells #[.int .u64 x2, .int .u64 y2] 26)).alloc (Obj.cells #[.int .u64 x3, .int .u64 y3] 26)).alloc (Obj.cells #[.int .u64 0, .int .u64 0] 26)) (Obj.cells #[.int .u64 x1, .int .u64 y1, .int .u64 x2, .int .u64 y2, .int .u64 x3, .int .u64 y3] 26); simpa only [zM] using this
 have B0 : Below w.heap.size w (((((w.alloc (Obj.cells #[.int .u64 x1, .int .u64 y1] 26)).alloc (Obj.cells #[.int .u64 x2, .int .u64 y2] 26)).alloc (Obj.cells #[.int .u64 x3, .int .u64 y3] 26)).alloc (Obj.cells #[.int .u64 0, .int .u64 0] 26)).alloc (Obj.cells #[.int .u64 x1, .int .u64 y1, .int .u64 x2, .int .u64 y2, .int .u64 x3, .int .u64 y3] 26)) := ((((((Below.refl _ _).alloc (by first | omega | (simp only [zM]; omega)) _).alloc (by first | omega | (simp only [zM]; omega)) _).alloc (by first | omega | (simp only [zM]; omega)) _).alloc (by first | omega | (simp only [zM]; omega)) _).alloc (by first | omega | (simp only [zM]; omega)) _)
 go_enter Tryz.func13, Tryz.ntmps13
 obtain ⟨Ee, Ef⟩ := zC Cf
 obtain ⟨Eg, Eh⟩ := zC Cg
 obtain ⟨Ei, Ej⟩ := zC Ch
 go_wp2_with fail
 refine (KF.out _ _ _ (by assumption)).mono ?_
 rintro r w1 ⟨rfl, b1⟩
 have B1 := zW B0 b1
 obtain ⟨Ci, Cj, Ck, Da, Db⟩ := yO b1 Cf Cg Ch C8 C9
 clear b1 B0 Cf Ee Ef Cg Eg Eh Ch Ei Ej C8 C9
 obtain ⟨Ek, El⟩ := zC Ci
 obtain ⟨Em, En⟩ := zC Cj
 obtain ⟨Eo, Ep⟩ := zC Ck
 go_wp2_with fail
 refine (KI1.out _).mono ?_
 rintro r w2 ⟨rfl, b2⟩
 have B2 := zW B1 b2
 obtain ⟨Cl, Cm, Cn, Dc, Dd⟩ := yO b2 Ci Cj Ck Da Db
 clear b2 B1 Ci Ek El Cj Em En Ck Eo Ep Da Db
 obtain ⟨Eq, Er⟩ := zC Cl
 obtain ⟨Es, Et⟩ := zC Cm
 obtain ⟨Eu, Ev⟩ := zC Cn
 go_wp2_with fail
 refine (KI2.out _).mono ?_
 rintro r w3 ⟨rfl, b3⟩
 have B3 := zW B2 b3
 obtain ⟨A3, A4, A5, By, Bz⟩ := yO b3 Cl Cm Cn Dc Dd
 clear b3 B2 Cl Eq Er Cm Es Et Cn Eu Ev Dc Dd
 obtain ⟨De, Df⟩ := zC A3
 obtain ⟨Dg, Dh⟩ := zC A4
 obtain ⟨Di, Dj⟩ := zC A5
 rcases H2.out with KZ1 | ⟨KZ1, KZ2⟩
 case' inl =>
  go_wp2_with fail
  refine (KZ1.out _).mono ?_
  rintro r w4 ⟨rfl, b4⟩
  have B4 := zW B3 b4
  obtain ⟨AH, AI, AJ, A6, A7⟩ := yO b4 A3 A4 A5 By Bz
  clear b4 B3 A3 De Df A4 Dg Dh A5 Di Dj By Bz
  obtain ⟨Co, Cp⟩ := zC AH
  obtain ⟨Cq, Cr⟩ := zC AI
  obtain ⟨Cs, Ct⟩ := zC AJ
  obtain ⟨w5, hw⟩ : ∃ W, W = w4 := ⟨_, rfl⟩
  subst hw
  have B5 := B4
  have AK := AH
  have AL := AI
  have AM := AJ
  have A8 := A6
  have A9 := A7
  clear B4 AH Co Cp AI Cq Cr AJ Cs Ct A6 A7
  obtain ⟨Cu, Cv⟩ := zC AK
  obtain ⟨Cw, Cx⟩ := zC AL
  obtain ⟨Cy, Cz⟩ := zC AM
 case' inr =>
  go_wp2_with fail
  refine (KZ1.out _).mono ?_
  rintro r w4 ⟨rfl, b4⟩
  have B4 := zW B3 b4
  obtain ⟨AH, AI, AJ, A6, A7⟩ := yO b4 A3 A4 A5 By Bz
  clear b4 B3 A3 De Df A4 Dg Dh A5 Di Dj By Bz
  obtain ⟨Co, Cp⟩ := zC AH
  obtain ⟨Cq, Cr⟩ := zC AI
  obtain ⟨Cs, Ct⟩ := zC AJ
  go_wp2_with fail
  refine (KZ2.out _).mono ?_
  rintro r w5 ⟨rfl, b5⟩
  have B5 := zW B4 b5
  obtain ⟨AK, AL, AM, A8, A9⟩ := yO b5 AH AI AJ A6 A7
  clear b5 B4 AH Co Cp AI Cq Cr AJ Cs Ct A6 A7
  obtain ⟨Cu, Cv⟩ := zC AK
  obtain ⟨Cw, Cx⟩ := zC AL
  obtain ⟨Cy, Cz⟩ := zC AM
 all_goals
  rcases H.out with ⟨KN1, KC⟩ | ⟨KN1, Hb⟩
  ·
   clear H
   go_wp2_with fail
   refine (KN1.out _).mono ?_
   rintro r w6 ⟨rfl, b6⟩
   have B6 := zW B5 b6
   obtain ⟨Az, AA, AB, AN, AO⟩ := yO b6 AK AL AM A8 A9
   clear b6 B5 AK Cu Cv AL Cw Cx AM Cy Cz A8 A9
   obtain ⟨BA, BB⟩ := zC Az
   obtain ⟨BC, BD⟩ := zC AA
   obtain ⟨BE, BF⟩ := zC AB
   go_wp2_with fail
   refine (KC.out _ _ _ (by assumption)).mono ?_
   rintro r w7 ⟨rfl, b7⟩
   have B7 := zW B6 b7
   obtain ⟨Ad, Ae, Af, Am, An⟩ := yO b7 Az AA AB AN AO
   clear b7 B6 Az BA BB AA BC BD AB BE BF AN AO
   obtain ⟨AR, AS⟩ := zC Ad
   obtain ⟨AT, AU⟩ := zC Ae
   obtain ⟨AV, AW⟩ := zC Af
   have S8 := zK B7.size
   have Ew := yC Ad
   have Ex := yC Ae
   have Ey := yC Af
   have Ez := yC Am
   have EA := yC An
   have EB := heap_alloc_last w7 (Obj.cells #[.int .u64 u, .int .u64 v] 26)
   have B8 := zW B7 (yQ w7 (Obj.cells #[.int .u64 u, .int .u64 v] 26))
   obtain ⟨Aa, Ab, Ag, Ah, Av⟩ := yO (yQ w7 (Obj.cells #[.int .u64 u, .int .u64 v] 26)) Ad Ae Af Am An
   clear B7 Ad AR AS Ae AT AU Af AV AW Am An
   obtain ⟨AX, AY⟩ := zC Aa
   obtain ⟨AZ, A0⟩ := zC Ab
   obtain ⟨A1, A2⟩ := zC Ag
   obtain ⟨GE, GF⟩ := zC EB
   obtain ⟨GG, GH⟩ := zC Ah
   have q0 := fz (k := 0) Ah
   have q1 := fz (k := 1) Ah
   obtain ⟨E0, E1⟩ := zQ Ah (.int .u64 u) (.int .u64 v)
   go_wp2
   exact bodyPost_ret (v := .tuple #[.agg #[.int .u64 u, .int .u64 v], .int .u8 fl, .int .i64 0]) (by simp [results, Tryz.results13, go_sem, E0, E1]) rfl ⟨rfl, zN B8 (by first | exact Nat.le_refl _ | omega | (have := S8.out; have := Ew.out; have := Ex.out; have := Ey.out; have := Ez.out; have := EA.out; omega)) _ _⟩
  ·
   clear H
   go_wp2_with fail
   refine (KN1.out _).mono ?_
   rintro r w6 ⟨rfl, b6⟩
   have B6 := zW B5 b6
   obtain ⟨Az, AA, AB, AN, AO⟩ := yO b6 AK AL AM A8 A9
   clear b6 B5 AK Cu Cv AL Cw Cx AM Cy Cz A8 A9
   obtain ⟨BA, BB⟩ := zC Az
   obtain ⟨BC, BD⟩ := zC AA
   obtain ⟨BE, BF⟩ := zC AB
   rcases Hb.out with ⟨KN2, KC⟩ | ⟨KN2, Hbb⟩
   ·
    clear Hb
    go_wp2_with fail
    refine (KN2.out _).mono ?_
    rintro r w7 ⟨rfl, b7⟩
    have B7 := zW B6 b7
    obtain ⟨Ad, Ae, Af, Am, An⟩ := yO b7 Az AA AB AN AO
    clear b7 B6 Az BA BB AA BC BD AB BE BF AN AO
    obtain ⟨AR, AS⟩ := zC Ad
    obtain ⟨AT, AU⟩ := zC Ae
    obtain ⟨AV, AW⟩ := zC Af
    go_wp2_with fail
    refine (KC.out _ _ _ (by assumption)).mono ?_
    rintro r w8 ⟨rfl, b8⟩
    have B8 := zW B7 b8
    obtain ⟨Aa, Ab, Ag, Ah, Av⟩ := yO b8 Ad Ae Af Am An
    clear b8 B7 Ad AR AS Ae AT AU Af AV AW Am An
    obtain ⟨AX, AY⟩ := zC Aa
    obtain ⟨AZ, A0⟩ := zC Ab
    obtain ⟨A1, A2⟩ := zC Ag
    have S9 := zK B8.size
    have EC := yC Aa
    have ED := yC Ab
    have EE := yC Ag
    have EF := yC Ah
    have EG := yC Av
    have EH := heap_alloc_last w8 (Obj.cells #[.int .u64 u, .int .u64 v] 26)
    have B9 := zW B8 (yQ w8 (Obj.cells #[.int .u64 u, .int .u64 v] 26))
    obtain ⟨Aj, Ak, Al, Ai, AC⟩ := yO (yQ w8 (Obj.cells #[.int .u64 u, .int .u64 v] 26)) Aa Ab Ag Ah Av
    clear B8 Aa AX AY Ab AZ A0 Ag A1 A2 Ah Av
    obtain ⟨Ba, Bb⟩ := zC Aj
    obtain ⟨Bc, Bd⟩ := zC Ak
    obtain ⟨Be, Bf⟩ := zC Al
    obtain ⟨GI, GJ⟩ := zC EH
    obtain ⟨GK, GL⟩ := zC Ai
    have q0 := fz (k := 0) Ai
    have q1 := fz (k := 1) Ai
    obtain ⟨E0, E1⟩ := zQ Ai (.int .u64 u) (.int .u64 v)
    go_wp2
    exact bodyPost_ret (v := .tuple #[.agg #[.int .u64 u, .int .u64 v], .int .u8 fl, .int .i64 0]) (by simp [results, Tryz.results13, go_sem, E0, E1]) rfl ⟨rfl, zN B9 (by first | exact Nat.le_refl _ | omega | (have := S9.out; have := EC.out; have := ED.out; have := EE.out; have := EF.out; have := EG.out; omega)) _ _⟩
   ·
    clear Hb
    go_wp2_with fail
    refine (KN2.out _).mono ?_
    rintro r w7 ⟨rfl, b7⟩
    have B7 := zW B6 b7
    obtain ⟨Ad, Ae, Af, Am, An⟩ := yO b7 Az AA AB AN AO
    clear b7 B6 Az BA BB AA BC BD AB BE BF AN AO
    obtain ⟨AR, AS⟩ := zC Ad
    obtain ⟨AT, AU⟩ := zC Ae
    obtain ⟨AV, AW⟩ := zC Af
    rcases Hbb.out with ⟨KN3, KC⟩ | ⟨KN3, KS1, KS2, Hbbb⟩
    ·
     clear Hbb
     go_wp2_with fail
     refine (KN3.out _).mono ?_
     rintro r w8 ⟨rfl, b8⟩
     have B8 := zW B7 b8
     obtain ⟨Aa, Ab, Ag, Ah, Av⟩ := yO b8 Ad Ae Af Am An
     clear b8 B7 Ad AR AS Ae AT AU Af AV AW Am An
     obtain ⟨AX, AY⟩ := zC Aa
     obtain ⟨AZ, A0⟩ := zC Ab
     obtain ⟨A1, A2⟩ := zC Ag
     go_wp2_with fail
     refine (KC.out _ _ _ (by assumption)).mono ?_
     rintro r w9 ⟨rfl, b9⟩
     have B9 := zW B8 b9
     obtain ⟨Aj, Ak, Al, Ai, AC⟩ := yO b9 Aa Ab Ag Ah Av
     clear b9 B8 Aa AX AY Ab AZ A0 Ag A1 A2 Ah Av
     obtain ⟨Ba, Bb⟩ := zC Aj
     obtain ⟨Bc, Bd⟩ := zC Ak
     obtain ⟨Be, Bf⟩ := zC Al
     have S10 := zK B9.size
     have EI := yC Aj
     have EJ := yC Ak
     have EK := yC Al
     have EL := yC Ai
     have EM := yC AC
     have EN := heap_alloc_last w9 (Obj.cells #[.int .u64 u, .int .u64 v] 26)
     have B10 := zW B9 (yQ w9 (Obj.cells #[.int .u64 u, .int .u64 v] 26))
     obtain ⟨Ao, Ap, Aq, Ac, AE⟩ := yO (yQ w9 (Obj.cells #[.int .u64 u, .int .u64 v] 26)) Aj Ak Al Ai AC
     clear B9 Aj Ba Bb Ak Bc Bd Al Be Bf Ai AC
     obtain ⟨Bg, Bh⟩ := zC Ao
     obtain ⟨Bi, Bj⟩ := zC Ap
     obtain ⟨Bk, Bl⟩ := zC Aq
     obtain ⟨GM, GN⟩ := zC EN
     obtain ⟨EO, EP⟩ := zC Ac
     have q0 := fz (k := 0) Ac
     have q1 := fz (k := 1) Ac
     obtain ⟨E0, E1⟩ := zQ Ac (.int .u64 u) (.int .u64 v)
     go_wp2
     exact bodyPost_ret (v := .tuple #[.agg #[.int .u64 u, .int .u64 v], .int .u8 fl, .int .i64 0]) (by simp [results, Tryz.results13, go_sem, E0, E1]) rfl ⟨rfl, zN B10 (by first | exact Nat.le_refl _ | omega | (have := S10.out; have := EI.out; have := EJ.out; have := EK.out; have := EL.out; have := EM.out; omega)) _ _⟩
    ·
     clear Hbb
     go_wp2_with fail
     refine (KN3.out _).mono ?_
     rintro r w8 ⟨rfl, b8⟩
     have B8 := zW B7 b8
     obtain ⟨Aa, Ab, Ag, Ah, Av⟩ := yO b8 Ad Ae Af Am An
     clear b8 B7 Ad AR AS Ae AT AU Af AV AW Am An
     obtain ⟨AX, AY⟩ := zC Aa
     obtain ⟨AZ, A0⟩ := zC Ab
     obtain ⟨A1, A2⟩ := zC Ag
     have sS : zR (∀ W W1 : World, (Below w.heap.size w W ∧ W.heap[w.heap.size]? = some (.cells #[.int .u64 x1, .int .u64 y1] 26) ∧ W.heap[w.heap.size + 1]? = some (.cells #[.int .u64 x2, .int .u64 y2] 26) ∧ W.heap[w.heap.size + 1 + 1]? = some (.cells #[.int .u64 x3, .int .u64 y3] 26) ∧ W.heap[w.heap.size + 1 + 1 + 1]? = some (.cells #[.int .u64 0, .int .u64 0] 26) ∧ W.heap[w.heap.size + 1 + 1 + 1 + 1]? = some (.cells #[.int .u64 x1, .int .u64 y1, .int .u64 x2, .int .u64 y2, .int .u64 x3, .int .u64 y3] 26) ∧ W.cell? ⟨w.heap.size, 0, none⟩ = some (.int .u64 x1) ∧ W.cell? ⟨w.heap.size, 1, none⟩ = some (.int .u64 y1) ∧ W.cell? ⟨w.heap.size + 1, 0, none⟩ = some (.int .u64 x2) ∧ W.cell? ⟨w.heap.size + 1, 1, none⟩ = some (.int .u64 y2)) → Below W.heap.size W W1 → (Below w.heap.size w W1 ∧ W1.heap[w.heap.size]? = some (.cells #[.int .u64 x1, .int .u64 y1] 26) ∧ W1.heap[w.heap.size + 1]? = some (.cells #[.int .u64 x2, .int .u64 y2] 26) ∧ W1.heap[w.heap.size + 1 + 1]? = some (.cells #[.int .u64 x3, .int .u64 y3] 26) ∧ W1.heap[w.heap.size + 1 + 1 + 1]? = some (.cells #[.int .u64 0, .int .u64 0] 26) ∧ W1.heap[w.heap.size + 1 + 1 + 1 + 1]? = some (.cells #[.int .u64 x1, .int .u64 y1, .int .u64 x2, .int .u64 y2, .int .u64 x3, .int .u64 y3] 26) ∧ W1.cell? ⟨w.heap.size, 0, none⟩ = some (.int .u64 x1) ∧ W1.cell? ⟨w.heap.size, 1, none⟩ = some (.int .u64 y1) ∧ W1.cell? ⟨w.heap.size + 1, 0, none⟩ = some (.int .u64 x2) ∧ W1.cell? ⟨w.heap.size + 1, 1, none⟩ = some (.int .u64 y2))) := zK (fun W W1 h b => ⟨zW h.1 b, zA b _ _ _ h.2.1, zA b _ _ _ h.2.2.1, zA b _ _ _ h.2.2.2.1, zA b _ _ _ h.2.2.2.2.1, zA b _ _ _ h.2.2.2.2.2.1, zJ (zA b _ _ _ h.2.1) 0 _ rfl, zJ (zA b _ _ _ h.2.1) 1 _ rfl, zJ (zA b _ _ _ h.2.2.1) 0 _ rfl, zJ (zA b _ _ _ h.2.2.1) 1 _ rfl⟩)
     have s0 : Below w.heap.size w (w8).drew ∧ (w8).drew.heap[w.heap.size]? = some (.cells #[.int .u64 x1, .int .u64 y1] 26) ∧ (w8).drew.heap[w.heap.size + 1]? = some (.cells #[.int .u64 x2, .int .u64 y2] 26) ∧ (w8).drew.heap[w.heap.size + 1 + 1]? = some (.cells #[.int .u64 x3, .int .u64 y3] 26) ∧ (w8).drew.heap[w.heap.size + 1 + 1 + 1]? = some (.cells #[.int .u64 0, .int .u64 0] 26) ∧ (w8).drew.heap[w.heap.size + 1 + 1 + 1 + 1]? = some (.cells #[.int .u64 x1, .int .u64 y1, .int .u64 x2, .int .u64 y2, .int .u64 x3, .int .u64 y3] 26) ∧ (w8).drew.cell? ⟨w.heap.size, 0, none⟩ = some (.int .u64 x1) ∧ (w8).drew.cell? ⟨w.heap.size, 1, none⟩ = some (.int .u64 y1) ∧ (w8).drew.cell? ⟨w.heap.size + 1, 0, none⟩ = some (.int .u64 x2) ∧ (w8).drew.cell? ⟨w.heap.size + 1, 1, none⟩ = some (.int .u64 y2) := ⟨B8.drew, Aa, Ab, Ag, Ah, Av, zJ (Aa) 0 _ rfl, zJ (Aa) 1 _ rfl, zJ (Ab) 0 _ rfl, zJ (Ab) 1 _ rfl⟩
     go_wp2_with fail
     go_region_held3 (fun W => Below w.heap.size w W ∧ W.heap[w.heap.size]? = some (.cells #[.int .u64 x1, .int .u64 y1] 26) ∧ W.heap[w.heap.size + 1]? = some (.cells #[.int .u64 x2, .int .u64 y2] 26) ∧ W.heap[w.heap.size + 1 + 1]? = some (.cells #[.int .u64 x3, .int .u64 y3] 26) ∧ W.heap[w.heap.size + 1 + 1 + 1]? = some (.cells #[.int .u64 0, .int .u64 0] 26) ∧ W.heap[w.heap.size + 1 + 1 + 1 + 1]? = some (.cells #[.int .u64 x1, .int .u64 y1, .int .u64 x2, .int .u64 y2, .int .u64 x3, .int .u64 y3] 26) ∧ W.cell? ⟨w.heap.size, 0, none⟩ = some (.int .u64 x1) ∧ W.cell? ⟨w.heap.size, 1, none⟩ = some (.int .u64 y1) ∧ W.cell? ⟨w.heap.size + 1, 0, none⟩ = some (.int .u64 x2) ∧ W.cell? ⟨w.heap.size + 1, 1, none⟩ = some (.int .u64 y2)) (first | exact s1 | exact s0)
      (((first | (go_at_call_of 43 (Value.agg #[.int .u64 x1, .int .u64 y1]); refine (KS1.out _).mono ?_) | (go_at_call_of 43 (Value.agg #[.int .u64 x2, .int .u64 y2]); refine (KS2.out _).mono ?_) | fail); rintro r wq ⟨rfl, bq⟩; (first | have s1 := sS.out _ _ s1 bq | have s1 := sS.out _ _ s0 bq); clear bq))
     have B9 := (And.left s1)
     have Aj := s1.2.1
     have Ak := s1.2.2.1
     have Al := s1.2.2.2.1
     have Ai := s1.2.2.2.2.1
     have AC := s1.2.2.2.2.2.1
     clear s0 s1 sS B8 Aa AX AY Ab AZ A0 Ag A1 A2 Ah Av
     obtain ⟨Ba, Bb⟩ := zC Aj
     obtain ⟨Bc, Bd⟩ := zC Ak
     obtain ⟨Be, Bf⟩ := zC Al
     rcases Hbbb.out with ⟨KI3, rfl, rfl, rfl⟩ | ⟨KI3, Hbbbb⟩
     ·
      clear Hbbb
      go_wp2_with fail
      refine (KI3.out _).mono ?_
      rintro r w10 ⟨rfl, b10⟩
      have B10 := zW B9 b10
      obtain ⟨Ao, Ap, Aq, Ac, AE⟩ := yO b10 Aj Ak Al Ai AC
      clear b10 B9 Aj Ba Bb Ak Bc Bd Al Be Bf Ai AC
      obtain ⟨Bg, Bh⟩ := zC Ao
      obtain ⟨Bi, Bj⟩ := zC Ap
      obtain ⟨Bk, Bl⟩ := zC Aq
      obtain ⟨EO, EP⟩ := zC Ac
      have q0 := fz (k := 0) Ac
      have q1 := fz (k := 1) Ac
      obtain ⟨E0, E1⟩ := zQ Ac (.int .u64 x3) (.int .u64 y3)
      go_wp2
      exact bodyPost_ret (v := .tuple #[.agg #[.int .u64 x3, .int .u64 y3], .int .u8 0, .int .i64 0]) (by simp [results, Tryz.results13, go_sem, E0, E1]) rfl ⟨rfl, zN B10 (by first | exact Nat.le_refl _ | omega | (skip; omega)) _ _⟩
     ·
      clear Hbbb
      go_wp2_with fail
      refine (KI3.out _).mono ?_
      rintro r w10 ⟨rfl, b10⟩
      have B10 := zW B9 b10
      obtain ⟨Ao, Ap, Aq, Ac, AE⟩ := yO b10 Aj Ak Al Ai AC
      clear b10 B9 Aj Ba Bb Ak Bc Bd Al Be Bf Ai AC
      obtain ⟨Bg, Bh⟩ := zC Ao
      obtain ⟨Bi, Bj⟩ := zC Ap
      obtain ⟨Bk, Bl⟩ := zC Aq
      rcases Hbbbb.out with ⟨KZ3, KS3, h3, rfl, rfl, rfl⟩ | ⟨KZ3, KS3, h3, KR, rfl⟩ | ⟨KZ3, KV1, KV2, KV3, KM, KA, Hbbbbc⟩
      ·
       clear Hbbbb
       go_wp2_with fail
       refine (KZ3.out _).mono ?_
       rintro r w11 ⟨rfl, b11⟩
       have B11 := zW B10 b11
       obtain ⟨Ar, As, At, AF, AG⟩ := yO b11 Ao Ap Aq Ac AE
       clear b11 B10 Ao Bg Bh Ap Bi Bj Aq Bk Bl Ac AE
       obtain ⟨Bm, Bn⟩ := zC Ar
       obtain ⟨Bo, Bp⟩ := zC As
       obtain ⟨Bq, Br⟩ := zC At
       go_wp2_with fail
       refine (KS3.out _).mono ?_
       rintro r w12 ⟨rfl, b12⟩
       have B12 := zW B11 b12
       obtain ⟨Aw, Ax, Ay, Au, AP⟩ := yO b12 Ar As At AF AG
       clear b12 B11 Ar Bm Bn As Bo Bp At Bq Br AF AG
       obtain ⟨BG, BH⟩ := zC Aw
       obtain ⟨BI, BJ⟩ := zC Ax
       obtain ⟨BK, BL⟩ := zC Ay
       obtain ⟨GO, GP⟩ := zC Au
       have q0 := fz (k := 0) Au
       have q1 := fz (k := 1) Au
       obtain ⟨E0, E1⟩ := zQ Au (.int .u64 x3) (.int .u64 y3)
       go_wp2
       exact bodyPost_ret (v := .tuple #[.agg #[.int .u64 x3, .int .u64 y3], .int .u8 0, .int .i64 0]) (by simp [results, Tryz.results13, go_sem, E0, E1]) rfl ⟨rfl, zN B12 (by first | exact Nat.le_refl _ | omega | (skip; omega)) _ _⟩
      ·
       clear Hbbbb
       go_wp2_with fail
       refine (KZ3.out _).mono ?_
       rintro r w11 ⟨rfl, b11⟩
       have B11 := zW B10 b11
       obtain ⟨Ar, As, At, AF, AG⟩ := yO b11 Ao Ap Aq Ac AE
       clear b11 B10 Ao Bg Bh Ap Bi Bj Aq Bk Bl Ac AE
       obtain ⟨Bm, Bn⟩ := zC Ar
       obtain ⟨Bo, Bp⟩ := zC As
       obtain ⟨Bq, Br⟩ := zC At
       go_wp2_with fail
       refine (KS3.out _).mono ?_
       rintro r w12 ⟨rfl, b12⟩
       have B12 := zW B11 b12
       obtain ⟨Aw, Ax, Ay, Au, AP⟩ := yO b12 Ar As At AF AG
       clear b12 B11 Ar Bm Bn As Bo Bp At Bq Br AF AG
       obtain ⟨BG, BH⟩ := zC Aw
       obtain ⟨BI, BJ⟩ := zC Ax
       obtain ⟨BK, BL⟩ := zC Ay
       go_wp2_with fail
       refine (KR.out _).mono ?_
       rintro r w13 ⟨rfl, b13⟩
       have B13 := zW B12 b13
       obtain ⟨Bs, Bt, Bu, AQ, CA⟩ := yO b13 Aw Ax Ay Au AP
       clear b13 B12 Aw BG BH Ax BI BJ Ay BK BL Au AP
       obtain ⟨Dk, Dl⟩ := zC Bs
       obtain ⟨Dm, Dn⟩ := zC Bt
       obtain ⟨Do, Dp⟩ := zC Bu
       obtain ⟨GQ, GR⟩ := zC AQ
       have q0 := fz (k := 0) AQ
       have q1 := fz (k := 1) AQ
       obtain ⟨E0, E1⟩ := zQ AQ (.int .u64 u) (.int .u64 v)
       go_wp2
       exact bodyPost_ret (v := .tuple #[.agg #[.int .u64 u, .int .u64 v], .int .u8 0, .int .i64 0]) (by simp [results, Tryz.results13, go_sem, E0, E1]) rfl ⟨rfl, zN B13 (by first | exact Nat.le_refl _ | omega | (skip; omega)) _ _⟩
      ·
       clear Hbbbb
       go_wp2_with fail
       refine (KZ3.out _).mono ?_
       rintro r w11 ⟨rfl, b11⟩
       have B11 := zW B10 b11
       obtain ⟨Ar, As, At, AF, AG⟩ := yO b11 Ao Ap Aq Ac AE
       clear b11 B10 Ao Bg Bh Ap Bi Bj Aq Bk Bl Ac AE
       obtain ⟨Bm, Bn⟩ := zC Ar
       obtain ⟨Bo, Bp⟩ := zC As
       obtain ⟨Bq, Br⟩ := zC At
       go_wp2_with fail
       refine (KV1.out _).mono ?_
       rintro r w12 ⟨rfl, b12⟩
       have B12 := zW B11 b12
       obtain ⟨Aw, Ax, Ay, Au, AP⟩ := yO b12 Ar As At AF AG
       clear b12 B11 Ar Bm Bn As Bo Bp At Bq Br AF AG
       obtain ⟨BG, BH⟩ := zC Aw
       obtain ⟨BI, BJ⟩ := zC Ax
       obtain ⟨BK, BL⟩ := zC Ay
       have S13 := zK B12.size
       have Dq := yC Aw
       have Dr := yC Ax
       have Ds := yC Ay
       have Dt := yC Au
       have Du := yC AP
       have CB := heap_alloc_last w12 (Obj.cells #[.bool b1, .string n1, .string d1, .int .i64 e1] 70)
       have B13 := zW B12 (yQ w12 (Obj.cells #[.bool b1, .string n1, .string d1, .int .i64 e1] 70))
       obtain ⟨Bs, Bt, Bu, AQ, CA⟩ := yO (yQ w12 (Obj.cells #[.bool b1, .string n1, .string d1, .int .i64 e1] 70)) Aw Ax Ay Au AP
       clear B12 Aw BG BH Ax BI BJ Ay BK BL Au AP
       obtain ⟨Dk, Dl⟩ := zC Bs
       obtain ⟨Dm, Dn⟩ := zC Bt
       obtain ⟨Do, Dp⟩ := zC Bu
       obtain ⟨EQ, ER, ES, ET⟩ := zE CB
       go_wp2_with fail
       refine (KV2.out _).mono ?_
       rintro r w14 ⟨rfl, b14⟩
       have B14 := zW B13 b14
       obtain ⟨BM, BN, BO, CC, CD, BP⟩ := rws6 b14 Bs Bt Bu AQ CA CB
       clear b14 B13 Bs Dk Dl Bt Dm Dn Bu Do Dp AQ CA CB EQ ER ES ET
       obtain ⟨EU, EV⟩ := zC BM
       obtain ⟨EW, EX⟩ := zC BN
       obtain ⟨EY, EZ⟩ := zC BO
       obtain ⟨E2, E3, E4, E5⟩ := zE BP
       have S15 := zK B14.size
       have Dv := yC BM
       have Dw := yC BN
       have Dx := yC BO
       have Dy := yC CC
       have Dz := yC CD
       have DA := yC BP
       have CE := heap_alloc_last w14 (Obj.cells #[.bool b2, .string n2, .string d2, .int .i64 e2] 70)
       have B15 := zW B14 (yQ w14 (Obj.cells #[.bool b2, .string n2, .string d2, .int .i64 e2] 70))
       obtain ⟨CF, CG, CH, DB, DC, CI⟩ := rws6 (yQ w14 (Obj.cells #[.bool b2, .string n2, .string d2, .int .i64 e2] 70)) BM BN BO CC CD BP
       clear B14 BM EU EV BN EW EX BO EY EZ CC CD BP E2 E3 E4 E5
       obtain ⟨E6, E7⟩ := zC CF
       obtain ⟨E8, E9⟩ := zC CG
       obtain ⟨Fa, Fb⟩ := zC CH
       obtain ⟨Fc, Fd, Fe, Ff⟩ := zE CI
       obtain ⟨Fg, Fh, Fi, Fj⟩ := zE CE
       clear E6 E7
       clear E8 E9
       go_wp2_with fail
       refine (KV3.out _).mono ?_
       rintro r w16 ⟨rfl, b16⟩
       have B16 := zW B15 b16
       obtain ⟨CJ, CK, BQ, CL, CM, BR, BS⟩ := rws7 b16 CF CG CH DB DC CI CE
       clear b16 B15 CF CG CH Fa Fb DB DC CI Fc Fd Fe Ff CE Fg Fh Fi Fj
       obtain ⟨Fk, Fl⟩ := zC BQ
       obtain ⟨Fm, Fn, Fo, Fp⟩ := zE BR
       obtain ⟨Fq, Fr, Fs, Ft⟩ := zE BS
       have S17 := zK B16.size
       have DD := yC CJ
       have DE := yC CK
       have DF := yC BQ
       have DG := yC CL
       have DH := yC CM
       have DI := yC BR
       have DJ := yC BS
       have CN := heap_alloc_last w16 (Obj.cells #[.bool b3, .string n3, .string d3, .int .i64 e3] 70)
       have B17 := zW B16 (yQ w16 (Obj.cells #[.bool b3, .string n3, .string d3, .int .i64 e3] 70))
       obtain ⟨DK, DL, CO, DM, DN, CP, CQ⟩ := rws7 (yQ w16 (Obj.cells #[.bool b3, .string n3, .string d3, .int .i64 e3] 70)) CJ CK BQ CL CM BR BS
       clear B16 CJ CK BQ Fk Fl CL CM BR Fm Fn Fo Fp BS Fq Fr Fs Ft
       obtain ⟨Fu, Fv⟩ := zC CO
       obtain ⟨Fw, Fx, Fy, Fz⟩ := zE CP
       obtain ⟨FA, FB, FC, FD⟩ := zE CQ
       obtain ⟨FE, FF, FG, FH⟩ := zE CN
       clear Fu Fv
       go_wp2_with fail
       refine (KM.out _).mono ?_
       rintro r w18 ⟨rfl, b18⟩
       have B18 := zW B17 b18
       obtain ⟨CR, CS, CT, CU, CV, BT, BU, BV⟩ := rws8 b18 DK DL CO DM DN CP CQ CN
       clear b18 B17 DK DL CO DM DN CP Fw Fx Fy Fz CQ FA FB FC FD CN FE FF FG FH
       obtain ⟨FI, FJ, FK, FL⟩ := zE BT
       obtain ⟨FM, FN, FO, FP⟩ := zE BU
       obtain ⟨FQ, FR, FS, FT⟩ := zE BV
       have S19 := zK B18.size
       have DO := yC CR
       have DP := yC CS
       have DQ := yC CT
       have DR := yC CU
       have DS := yC CV
       have DT := yC BT
       have DU := yC BU
       have DV := yC BV
       have CW := heap_alloc_last w18 (Obj.cells #[.bool b4, .string n4, .string d4, .int .i64 e4] 70)
       have B19 := zW B18 (yQ w18 (Obj.cells #[.bool b4, .string n4, .string d4, .int .i64 e4] 70))
       obtain ⟨DW, DX, DY, DZ, D0, CX, CY, CZ⟩ := rws8 (yQ w18 (Obj.cells #[.bool b4, .string n4, .string d4, .int .i64 e4] 70)) CR CS CT CU CV BT BU BV
       clear B18 CR CS CT CU CV BT FI FJ FK FL BU FM FN FO FP BV FQ FR FS FT
       obtain ⟨FU, FV, FW, FX⟩ := zE CX
       obtain ⟨FY, FZ, F0, F1⟩ := zE CY
       obtain ⟨F2, F3, F4, F5⟩ := zE CZ
       obtain ⟨F6, F7, F8, F9⟩ := zE CW
       clear FU FV FW FX
       clear FY FZ F0 F1
       go_wp2_with fail
       refine (KA.out _).mono ?_
       rintro r w20 ⟨rfl, b20⟩
       have B20 := zW B19 b20
       obtain ⟨C0, C1, C2, C3, C4, C5, C6, BW, BX⟩ := rws9 b20 DW DX DY DZ D0 CX CY CZ CW
       clear b20 B19 DW DX DY DZ D0 CX CY CZ F2 F3 F4 F5 CW F6 F7 F8 F9
       obtain ⟨Ga, Gb, Gc, Gd⟩ := zE BW
       obtain ⟨Ge, Gf, Gg, Gh⟩ := zE BX
       have S21 := zK B20.size
       have D1 := yC C0
       have D2 := yC C1
       have D3 := yC C2
       have D4 := yC C3
       have D5 := yC C4
       have D6 := yC C5
       have D7 := yC C6
       have D8 := yC BW
       have D9 := yC BX
       have Bv := heap_alloc_last w20 (Obj.cells #[.bool b5, .string n5, .string d5, .int .i64 e5] 70)
       have B21 := zW B20 (yQ w20 (Obj.cells #[.bool b5, .string n5, .string d5, .int .i64 e5] 70))
       obtain ⟨BY, BZ, Ca, Cb, Cc, Cd, Ce, Bw, Bx⟩ := rws9 (yQ w20 (Obj.cells #[.bool b5, .string n5, .string d5, .int .i64 e5] 70)) C0 C1 C2 C3 C4 C5 C6 BW BX
       clear B20 C0 C1 C2 C3 C4 C5 C6 BW Ga Gb Gc Gd BX Ge Gf Gg Gh
       obtain ⟨Gi, Gj, Gk, Gl⟩ := zE Bw
       obtain ⟨Gm, Gn, Go, Gp⟩ := zE Bx
       obtain ⟨Ea, Eb, Ec, Ed⟩ := zE Bv
       clear Gi Gj Gk Gl
       clear Gm Gn Go Gp
       rcases Hbbbbc.out with ⟨he, KR⟩ | ⟨he, KR, rfl⟩
       ·
        clear Hbbbbc
        go_wp2_with fail
        refine (KR.out _).mono ?_
        rintro r w22 ⟨rfl, b22⟩
        have B22 := zW B21 b22
        obtain ⟨Gq, Gr, Gs, AD, Gt, Gu, Gv, Gw, Gx⟩ := rws9 b22 BY BZ Ca Cb Cc Cd Ce Bw Bx
        have C7 := zA b22 _ _ _ Bv
        clear b22 B21 BY BZ Ca Cb Cc Cd Ce Bw Bx Bv Ea Eb Ec Ed
        obtain ⟨Gy, Gz, GA, GB⟩ := zE C7
        obtain ⟨GC, GD⟩ := zC AD
        have q0 := fz (k := 0) AD
        have q1 := fz (k := 1) AD
        obtain ⟨E0, E1⟩ := zQ AD (.int .u64 u) (.int .u64 v)
        go_wp2
        exact bodyPost_ret (v := .tuple #[.agg #[.int .u64 u, .int .u64 v], .int .u8 fl, .int .i64 0]) (by simp [results, Tryz.results13, go_sem, E0, E1]) rfl ⟨rfl, zN B22 (by first | exact Nat.le_refl _ | omega | (have := S13.out; have := Dq.out; have := Dr.out; have := Ds.out; have := Dt.out; have := Du.out; have := S15.out; have := Dv.out; have := Dw.out; have := Dx.out; have := Dy.out; have := Dz.out; have := DA.out; have := S17.out; have := DD.out; have := DE.out; have := DF.out; have := DG.out; have := DH.out; have := DI.out; have := DJ.out; have := S19.out; have := DO.out; have := DP.out; have := DQ.out; have := DR.out; have := DS.out; have := DT.out; have := DU.out; have := DV.out; have := S21.out; have := D1.out; have := D2.out; have := D3.out; have := D4.out; have := D5.out; have := D6.out; have := D7.out; have := D8.out; have := D9.out; omega)) _ _⟩
       ·
        clear Hbbbbc
        go_wp2_with fail
        refine (KR.out _).mono ?_
        rintro r w22 ⟨rfl, b22⟩
        have B22 := zW B21 b22
        obtain ⟨Gq, Gr, Gs, AD, Gt, Gu, Gv, Gw, Gx⟩ := rws9 b22 BY BZ Ca Cb Cc Cd Ce Bw Bx
        have C7 := zA b22 _ _ _ Bv
        clear b22 B21 BY BZ Ca Cb Cc Cd Ce Bw Bx Bv Ea Eb Ec Ed
        obtain ⟨Gy, Gz, GA, GB⟩ := zE C7
        obtain ⟨GC, GD⟩ := zC AD
        have q0 := fz (k := 0) AD
        have q1 := fz (k := 1) AD
        obtain ⟨E0, E1⟩ := zQ AD (.int .u64 u) (.int .u64 v)
        go_wp2
        exact bodyPost_ret (v := .tuple #[.agg #[.int .u64 u, .int .u64 v], .int .u8 0, .int .i64 0]) (by simp [results, Tryz.results13, go_sem, E0, E1]) rfl ⟨rfl, zN B22 (by first | exact Nat.le_refl _ | omega | (have := S13.out; have := Dq.out; have := Dr.out; have := Ds.out; have := Dt.out; have := Du.out; have := S15.out; have := Dv.out; have := Dw.out; have := Dx.out; have := Dy.out; have := Dz.out; have := DA.out; have := S17.out; have := DD.out; have := DE.out; have := DF.out; have := DG.out; have := DH.out; have := DI.out; have := DJ.out; have := S19.out; have := DO.out; have := DP.out; have := DQ.out; have := DR.out; have := DS.out; have := DT.out; have := DU.out; have := DV.out; have := S21.out; have := D1.out; have := D2.out; have := D3.out; have := D4.out; have := D5.out; have := D6.out; have := D7.out; have := D8.out; have := D9.out; omega)) _ _⟩
theorem rfm_fin (f m : Int) (x1 y1 x2 y2 x3 y3 u v : Nat) (fl : Int) (s1 s2 s3 neg : Bool) (hng : (!(s1 == s2)) = neg) (b1 : Bool) (n1 d1 : ByteArray) (e1 : Int) (b2 : Bool) (n2 d2 : ByteArray) (e2 : Int) (b3 : Bool) (n3 d3 : ByteArray) (e3 : Int) (b4 : Bool) (n4 d4 : ByteArray) (e4 : Int) (b5 : Bool) (n5 d5 : ByteArray) (e5 : Int) (w : World)
  (KF : zR (∀ (T : TypeId) (g : Nat) (w : World), w.heap[g]? = some (.cells #[.int .u64 x1, .int .u64 y1, .int .u64 x2, .int .u64 y2, .int .u64 x3, .int .u64 y3] T) → Calls Tryz.prog 40 #[.int .u8 f, .int .u8 m, .slice (some ⟨g, 0, none⟩) 3 3] w fun r w' => r = .returned (.bool true) ∧ Below w.heap.size w w'))
  (KI1 : zR (∀ w, Calls Tryz.prog 31 #[.int .u8 f, .agg #[.int .u64 x1, .int .u64 y1]] w fun r w' => r = .returned (.bool false) ∧ Below w.heap.size w w'))
  (KI2 : zR (∀ w, Calls Tryz.prog 31 #[.int .u8 f, .agg #[.int .u64 x2, .int .u64 y2]] w fun r w' => r = .returned (.bool false) ∧ Below w.heap.size w w'))
  (KZ1 : zR (∀ w, Calls Tryz.prog 44 #[.int .u8 f, .agg #[.int .u64 x1, .int .u64 y1]] w fun r w' => r = .returned (.bool false) ∧ Below w.heap.size w w'))
  (KZ2 : zR (∀ w, Calls Tryz.prog 44 #[.int .u8 f, .agg #[.int .u64 x2, .int .u64 y2]] w fun r w' => r = .returned (.bool false) ∧ Below w.heap.size w w'))
  (H : zR ((zR (∀ w, Calls Tryz.prog 41 #[.int .u8 f, .agg #[.int .u64 x1, .int .u64 y1]] w fun r w' => r = .returned (.bool true) ∧ Below w.heap.size w w') ∧ zR (∀ (T : TypeId) (g : Nat) (w : World), w.heap[g]? = some (.cells #[.int .u64 x1, .int .u64 y1, .int .u64 x2, .int .u64 y2, .int .u64 x3, .int .u64 y3] T) → Calls Tryz.prog 42 #[.int .u8 f, .slice (some ⟨g, 0, none⟩) 3 3] w fun r w' => r = .returned (.tuple #[.agg #[.int .u64 u, .int .u64 v], .int .u8 fl]) ∧ Below w.heap.size w w')) ∨ (zR (∀ w, Calls Tryz.prog 41 #[.int .u8 f, .agg #[.int .u64 x1, .int .u64 y1]] w fun r w' => r = .returned (.bool false) ∧ Below w.heap.size w w') ∧ zR ((zR (∀ w, Calls Tryz.prog 41 #[.int .u8 f, .agg #[.int .u64 x2, .int .u64 y2]] w fun r w' => r = .returned (.bool true) ∧ Below w.heap.size w w') ∧ zR (∀ (T : TypeId) (g : Nat) (w : World), w.heap[g]? = some (.cells #[.int .u64 x1, .int .u64 y1, .int .u64 x2, .int .u64 y2, .int .u64 x3, .int .u64 y3] T) → Calls Tryz.prog 42 #[.int .u8 f, .slice (some ⟨g, 0, none⟩) 3 3] w fun r w' => r = .returned (.tuple #[.agg #[.int .u64 u, .int .u64 v], .int .u8 fl]) ∧ Below w.heap.size w w')) ∨ (zR (∀ w, Calls Tryz.prog 41 #[.int .u8 f, .agg #[.int .u64 x2, .int .u64 y2]] w fun r w' => r = .returned (.bool false) ∧ Below w.heap.size w w') ∧ zR ((zR (∀ w, Calls Tryz.prog 41 #[.int .u8 f, .agg #[.int .u64 x3, .int .u64 y3]] w fun r w' => r = .returned (.bool true) ∧ Below w.heap.size w w') ∧ zR (∀ (T : TypeId) (g : Nat) (w : World), w.heap[g]? = some (.cells #[.int .u64 x1, .int .u64 y1, .int .u64 x2, .int .u64 y2, .int .u64 x3, .int .u64 y3] T) → Calls Tryz.prog 42 #[.int .u8 f, .slice (some ⟨g, 0, none⟩) 3 3] w fun r w' => r = .returned (.tuple #[.agg #[.int .u64 u, .int .u64 v], .int .u8 fl]) ∧ Below w.heap.size w w')) ∨ (zR (∀ w, Calls Tryz.prog 41 #[.int .u8 f, .agg #[.int .u64 x3, .int .u64 y3]] w fun r w' => r = .returned (.bool false) ∧ Below w.heap.size w w') ∧ zR (∀ w, Calls Tryz.prog 43 #[.int .u8 f, .agg #[.int .u64 x1, .int .u64 y1]] w fun r w' => r = .returned (.bool s1) ∧ Below w.heap.size w w') ∧ zR (∀ w, Calls Tryz.prog 43 #[.int .u8 f, .agg #[.int .u64 x2, .int .u64 y2]] w fun r w' => r = .returned (.bool s2) ∧ Below w.heap.size w w') ∧ zR ((zR (∀ w, Calls Tryz.prog 31 #[.int .u8 f, .agg #[.int .u64 x3, .int .u64 y3]] w fun r w' => r = .returned (.bool true) ∧ Below w.heap.size w w') ∧ x3 = u ∧ y3 = v ∧ fl = 0) ∨ (zR (∀ w, Calls Tryz.prog 31 #[.int .u8 f, .agg #[.int .u64 x3, .int .u64 y3]] w fun r w' => r = .returned (.bool false) ∧ Below w.heap.size w w') ∧ zR (∀ w, Calls Tryz.prog 48 #[.int .u8 f, .agg #[.int .u64 x1, .int .u64 y1]] w fun r w' => r = .returned (.tuple #[.agg #[.bool b1, .string n1, .string d1, .int .i64 e1], .int .i64 0]) ∧ Below w.heap.size w w') ∧ zR (∀ w, Calls Tryz.prog 48 #[.int .u8 f, .agg #[.int .u64 x2, .int .u64 y2]] w fun r w' => r = .returned (.tuple #[.agg #[.bool b2, .string n2, .string d2, .int .i64 e2], .int .i64 0]) ∧ Below w.heap.size w w') ∧ zR (∀ w, Calls Tryz.prog 48 #[.int .u8 f, .agg #[.int .u64 x3, .int .u64 y3]] w fun r w' => r = .returned (.tuple #[.agg #[.bool b3, .string n3, .string d3, .int .i64 e3], .int .i64 0]) ∧ Below w.heap.size w w') ∧ zR (∀ w, Calls Tryz.prog 53 #[.agg #[.bool b1, .string n1, .string d1, .int .i64 e1], .agg #[.bool b2, .string n2, .string d2, .int .i64 e2]] w fun r w' => r = .returned (.tuple #[.agg #[.bool b4, .string n4, .string d4, .int .i64 e4], .int .i64 0]) ∧ Below w.heap.size w w') ∧ zR (∀ w, Calls Tryz.prog 54 #[.agg #[.bool b4, .string n4, .string d4, .int .i64 e4], .agg #[.bool b3, .string n3, .string d3, .int .i64 e3]] w fun r w' => r = .returned (.tuple #[.agg #[.bool b5, .string n5, .string d5, .int .i64 e5], .int .i64 0]) ∧ Below w.heap.size w w') ∧ zR ((n5.toList.isEmpty = false ∧ zR (∀ w, Calls Tryz.prog 50 #[.int .u8 f, .int .u8 m, .agg #[.bool b5, .string n5, .string d5, .int .i64 e5]] w fun r w' => r = .returned (.tuple #[.agg #[.int .u64 u, .int .u64 v], .int .u8 fl, .int .i64 0]) ∧ Below w.heap.size w w')) ∨ (n5.toList.isEmpty = true ∧ zR (∀ w, Calls Tryz.prog 52 #[.int .u8 f, .int .u8 m] w fun r w' => r = .returned (.agg #[.int .u64 u, .int .u64 v]) ∧ Below w.heap.size w w') ∧ fl = 0)))))))))))
  : Calls Tryz.prog 13 #[.int .u8 f, .int .u8 m, .agg #[.int .u64 x1, .int .u64 y1], .agg #[.int .u64 x2, .int .u64 y2], .agg #[.int .u64 x3, .int .u64 y3]] w fun r w' => r = .returned (.tuple #[.agg #[.int .u64 u, .int .u64 v], .int .u8 fl, .int .i64 0]) ∧ Below w.heap.size w w' := by
 have Bs : (((((w.alloc (Obj.cells #[.int .u64 x1, .int .u64 y1] 26)).alloc (Obj.cells #[.int .u64 x2, .int .u64 y2] 26)).alloc (Obj.cells #[.int .u64 x3, .int .u64 y3] 26)).alloc (Obj.cells #[.int .u64 0, .int .u64 0] 26)).alloc (Obj.cells #[.int .u64 x1, .int .u64 y1, .int .u64 x2, .int .u64 y2, .int .u64 x3, .int .u64 y3] 26)).heap[w.heap.size]? = some (.cells #[.int .u64 x1, .int .u64 y1] 26) := by rw [zT _ _ _ (by simp only [zM]; omega), zT _ _ _ (by simp only [zM]; omega), zT _ _ _ (by simp only [zM]; omega), zT _ _ _ (by simp only [zM]; omega)]; have := heap_alloc_last w (Obj.cells #[.int .u64 x1, .int .u64 y1] 26); simpa only [zM] using this
 have Bt : (((((w.alloc (Obj.cells #[.int .u64 x1, .int .u64 y1] 26)).alloc (Obj.cells #[.int .u64 x2, .int .u64 y2] 26)).alloc (Obj.cells #[.int .u64 x3, .int .u64 y3] 26)).alloc (Obj.cells #[.int .u64 0, .int .u64 0] 26)).alloc (Obj.cells #[.int .u64 x1, .int .u64 y1, .int .u64 x2, .int .u64 y2, .int .u64 x3, .int .u64 y3] 26)).heap[w.heap.size + 1]? = some (.cells #[.int .u64 x2, .int .u64 y2] 26) := by rw [zT _ _ _ (by simp only [zM]; omega), zT _ _ _ (by simp only [zM]; omega), zT _ _ _ (by simp only [zM]; omega)]; have := heap_alloc_last (w.alloc (Obj.cells #[.int .u64 x1, .int .u64 y1] 26)) (Obj.cells #[.int .u64 x2, .int .u64 y2] 26); simpa only [zM] using this
 have Bu : (((((w.alloc (Obj.cells #[.int .u64 x1, .int .u64 y1] 26)).alloc (Obj.cells #[.int .u64 x2, .int .u64 y2] 26)).alloc (Obj.cells #[.int .u64 x3, .int .u64 y3] 26)).alloc (Obj.cells #[.int .u64 0, .int .u64 0] 26)).alloc (Obj.cells #[.int .u64 x1, .int .u64 y1, .int .u64 x2, .int .u64 y2, .int .u64 x3, .int .u64 y3] 26)).heap[w.heap.size + 1 + 1]? = some (.cells #[.int .u64 x3, .int .u64 y3] 26) := by rw [zT _ _ _ (by simp only [zM]; omega), zT _ _ _ (by simp only [zM]; omega)]; have := heap_alloc_last ((w.alloc (Obj.cells #[.int .u64 x1, .int .u64 y1] 26)).alloc (Obj.cells #[.int .u64 x2, .int .u64 y2] 26)) (Obj.cells #[.int .u64 x3, .int .u64 y3] 26); simpa only [zM] using this
 have Cz : (((((w.alloc (Obj.cells #[.int .u64 x1, .int .u64 y1] 26)).alloc (Obj.cells #[.int .u64 x2, .int .u64 y2] 26)).alloc (Obj.cells #[.int .u64 x3, .int .u64 y3] 26)).alloc (Obj.cells #[.int .u64 0, .int .u64 0] 26)).alloc (Obj.cells #[.int .u64 x1, .int .u64 y1, .int .u64 x2, .int .u64 y2, .int .u64 x3, .int .u64 y3] 26)).heap[w.heap.size + 1 + 1 + 1]? = some (.cells #[.int .u64 0, .int .u64 0] 26) := by rw [zT _ _ _ (by simp only [zM]; omega)]; have := heap_alloc_last (((w.alloc (Obj.cells #[.int .u64 x1, .int .u64 y1] 26)).alloc (Obj.cells #[.int .u64 x2, .int .u64 y2] 26)).alloc (Obj.cells #[.int .u64 x3, .int .u64 y3] 26)) (Obj.cells #[.int .u64 0, .int .u64 0] 26); simpa only [zM] using this
 have CA : (((((w.alloc (Obj.cells #[.int .u64 x1, .int .u64 y1] 26)).alloc (Obj.cells #[.int .u64 x2, .int .u64 y2] 26)).alloc (Obj.cells #[.int .u64 x3, .int .u64 y3] 26)).alloc (Obj.cells #[.int .u64 0, .int .u64 0] 26)).alloc (Obj.cells #[.int .u64 x1, .int .u64 y1, .int .u64 x2, .int .u64 y2, .int .u64 x3, .int .u64 y3] 26)).heap[w.heap.size + 1 + 1 + 1 + 1]? = some (.cells #[.int .u64 x1, .int .u64 y1, .int .u64 x2, .int .u64 y2, .int .u64 x3, .int .u64 y3] 26) := by have := heap_alloc_last ((((w.alloc (Obj.cells #[.int .u64 x1, .int .u64 y1] 26)).alloc (Obj.cells #[.int .u64 x2, .int .u64 y2] 26)).alloc (Obj.cells #[.int .u64 x3, .int .u64 y3] 26)).alloc (Obj.cells #[.int .u64 0, .int .u64 0] 26)) (Obj.cells #[.int .u64 x1, .int .u64 y1, .int .u64 x2, .int .u64 y2, .int .u64 x3, .int .u64 y3] 26); simpa only [zM] using this
 have B0 : Below w.heap.size w (((((w.alloc (Obj.cells #[.int .u64 x1, .int .u64 y1] 26)).alloc (Obj.cells #[.int .u64 x2, .int .u64 y2] 26)).alloc (Obj.cells #[.int .u64 x3, .int .u64 y3] 26)).alloc (Obj.cells #[.int .u64 0, .int .u64 0] 26)).alloc (Obj.cells #[.int .u64 x1, .int .u64 y1, .int .u64 x2, .int .u64 y2, .int .u64 x3, .int .u64 y3] 26)) := ((((((Below.refl _ _).alloc (by first | omega | (simp only [zM]; omega)) _).alloc (by first | omega | (simp only [zM]; omega)) _).alloc (by first | omega | (simp only [zM]; omega)) _).alloc (by first | omega | (simp only [zM]; omega)) _).alloc (by first | omega | (simp only [zM]; omega)) _)
 go_enter Tryz.func13, Tryz.ntmps13
 obtain ⟨DF, DG⟩ := zC Bs
 obtain ⟨DH, DI⟩ := zC Bt
 obtain ⟨DJ, DK⟩ := zC Bu
 go_wp2_with fail
 refine (KF.out _ _ _ (by assumption)).mono ?_
 rintro r w1 ⟨rfl, b1⟩
 have B1 := zW B0 b1
 obtain ⟨Bv, Bw, Bx, CB, CC⟩ := yO b1 Bs Bt Bu Cz CA
 clear b1 B0 Bs DF DG Bt DH DI Bu DJ DK Cz CA
 obtain ⟨DL, DM⟩ := zC Bv
 obtain ⟨DN, DO⟩ := zC Bw
 obtain ⟨DP, DQ⟩ := zC Bx
 go_wp2_with fail
 refine (KI1.out _).mono ?_
 rintro r w2 ⟨rfl, b2⟩
 have B2 := zW B1 b2
 obtain ⟨By, Bz, BA, CD, CE⟩ := yO b2 Bv Bw Bx CB CC
 clear b2 B1 Bv DL DM Bw DN DO Bx DP DQ CB CC
 obtain ⟨DR, DS⟩ := zC By
 obtain ⟨DT, DU⟩ := zC Bz
 obtain ⟨DV, DW⟩ := zC BA
 go_wp2_with fail
 refine (KI2.out _).mono ?_
 rintro r w3 ⟨rfl, b3⟩
 have B3 := zW B2 b3
 obtain ⟨BB, BC, BD, CF, CG⟩ := yO b3 By Bz BA CD CE
 clear b3 B2 By DR DS Bz DT DU BA DV DW CD CE
 obtain ⟨DX, DY⟩ := zC BB
 obtain ⟨DZ, D0⟩ := zC BC
 obtain ⟨D1, D2⟩ := zC BD
 go_wp2_with fail
 refine (KZ1.out _).mono ?_
 rintro r w4 ⟨rfl, b4⟩
 have B4 := zW B3 b4
 obtain ⟨BE, BF, BG, CH, CI⟩ := yO b4 BB BC BD CF CG
 clear b4 B3 BB DX DY BC DZ D0 BD D1 D2 CF CG
 obtain ⟨D3, D4⟩ := zC BE
 obtain ⟨D5, D6⟩ := zC BF
 obtain ⟨D7, D8⟩ := zC BG
 go_wp2_with fail
 refine (KZ2.out _).mono ?_
 rintro r w5 ⟨rfl, b5⟩
 have B5 := zW B4 b5
 obtain ⟨AL, AM, AN, AX, AY⟩ := yO b5 BE BF BG CH CI
 clear b5 B4 BE D3 D4 BF D5 D6 BG D7 D8 CH CI
 obtain ⟨CJ, CK⟩ := zC AL
 obtain ⟨CL, CM⟩ := zC AM
 obtain ⟨CN, CO⟩ := zC AN
 rcases H.out with ⟨KN1, KC⟩ | ⟨KN1, Hb⟩
 ·
  clear H
  go_wp2_with fail
  refine (KN1.out _).mono ?_
  rintro r w6 ⟨rfl, b6⟩
  have B6 := zW B5 b6
  obtain ⟨Ap, Aq, Ar, Au, Av⟩ := yO b6 AL AM AN AX AY
  clear b6 B5 AL CJ CK AM CL CM AN CN CO AX AY
  obtain ⟨AZ, A0⟩ := zC Ap
  obtain ⟨A1, A2⟩ := zC Aq
  obtain ⟨A3, A4⟩ := zC Ar
  go_wp2_with fail
  refine (KC.out _ _ _ (by assumption)).mono ?_
  rintro r w7 ⟨rfl, b7⟩
  have B7 := zW B6 b7
  obtain ⟨Ac, Ad, Ae, Am, An⟩ := yO b7 Ap Aq Ar Au Av
  clear b7 B6 Ap AZ A0 Aq A1 A2 Ar A3 A4 Au Av
  obtain ⟨Az, AA⟩ := zC Ac
  obtain ⟨AB, AC⟩ := zC Ad
  obtain ⟨AD, AE⟩ := zC Ae
  have S8 := zK B7.size
  have D9 := yC Ac
  have Ea := yC Ad
  have Eb := yC Ae
  have Ec := yC Am
  have Ed := yC An
  have Ee := heap_alloc_last w7 (Obj.cells #[.int .u64 u, .int .u64 v] 26)
  have B8 := zW B7 (yQ w7 (Obj.cells #[.int .u64 u, .int .u64 v] 26))
  obtain ⟨Aa, Ab, Af, Ag, Ao⟩ := yO (yQ w7 (Obj.cells #[.int .u64 u, .int .u64 v] 26)) Ac Ad Ae Am An
  clear B7 Ac Az AA Ad AB AC Ae AD AE Am An
  obtain ⟨AF, AG⟩ := zC Aa
  obtain ⟨AH, AI⟩ := zC Ab
  obtain ⟨AJ, AK⟩ := zC Af
  obtain ⟨Gu, Gv⟩ := zC Ee
  obtain ⟨Gw, Gx⟩ := zC Ag
  have q0 := fz (k := 0) Ag
  have q1 := fz (k := 1) Ag
  obtain ⟨E0, E1⟩ := zQ Ag (.int .u64 u) (.int .u64 v)
  go_wp2
  exact bodyPost_ret (v := .tuple #[.agg #[.int .u64 u, .int .u64 v], .int .u8 fl, .int .i64 0]) (by simp [results, Tryz.results13, go_sem, E0, E1]) rfl ⟨rfl, zN B8 (by first | exact Nat.le_refl _ | omega | (have := S8.out; have := D9.out; have := Ea.out; have := Eb.out; have := Ec.out; have := Ed.out; omega)) _ _⟩
 ·
  clear H
  go_wp2_with fail
  refine (KN1.out _).mono ?_
  rintro r w6 ⟨rfl, b6⟩
  have B6 := zW B5 b6
  obtain ⟨Ap, Aq, Ar, Au, Av⟩ := yO b6 AL AM AN AX AY
  clear b6 B5 AL CJ CK AM CL CM AN CN CO AX AY
  obtain ⟨AZ, A0⟩ := zC Ap
  obtain ⟨A1, A2⟩ := zC Aq
  obtain ⟨A3, A4⟩ := zC Ar
  rcases Hb.out with ⟨KN2, KC⟩ | ⟨KN2, Hbb⟩
  ·
   clear Hb
   go_wp2_with fail
   refine (KN2.out _).mono ?_
   rintro r w7 ⟨rfl, b7⟩
   have B7 := zW B6 b7
   obtain ⟨Ac, Ad, Ae, Am, An⟩ := yO b7 Ap Aq Ar Au Av
   clear b7 B6 Ap AZ A0 Aq A1 A2 Ar A3 A4 Au Av
   obtain ⟨Az, AA⟩ := zC Ac
   obtain ⟨AB, AC⟩ := zC Ad
   obtain ⟨AD, AE⟩ := zC Ae
   go_wp2_with fail
   refine (KC.out _ _ _ (by assumption)).mono ?_
   rintro r w8 ⟨rfl, b8⟩
   have B8 := zW B7 b8
   obtain ⟨Aa, Ab, Af, Ag, Ao⟩ := yO b8 Ac Ad Ae Am An
   clear b8 B7 Ac Az AA Ad AB AC Ae AD AE Am An
   obtain ⟨AF, AG⟩ := zC Aa
   obtain ⟨AH, AI⟩ := zC Ab
   obtain ⟨AJ, AK⟩ := zC Af
   have S9 := zK B8.size
   have Ef := yC Aa
   have Eg := yC Ab
   have Eh := yC Af
   have Ei := yC Ag
   have Ej := yC Ao
   have Ek := heap_alloc_last w8 (Obj.cells #[.int .u64 u, .int .u64 v] 26)
   have B9 := zW B8 (yQ w8 (Obj.cells #[.int .u64 u, .int .u64 v] 26))
   obtain ⟨Ai, Aj, Ak, Ah, As⟩ := yO (yQ w8 (Obj.cells #[.int .u64 u, .int .u64 v] 26)) Aa Ab Af Ag Ao
   clear B8 Aa AF AG Ab AH AI Af AJ AK Ag Ao
   obtain ⟨AO, AP⟩ := zC Ai
   obtain ⟨AQ, AR⟩ := zC Aj
   obtain ⟨AS, AT⟩ := zC Ak
   obtain ⟨Gy, Gz⟩ := zC Ek
   obtain ⟨GA, GB⟩ := zC Ah
   have q0 := fz (k := 0) Ah
   have q1 := fz (k := 1) Ah
   obtain ⟨E0, E1⟩ := zQ Ah (.int .u64 u) (.int .u64 v)
   go_wp2
   exact bodyPost_ret (v := .tuple #[.agg #[.int .u64 u, .int .u64 v], .int .u8 fl, .int .i64 0]) (by simp [results, Tryz.results13, go_sem, E0, E1]) rfl ⟨rfl, zN B9 (by first | exact Nat.le_refl _ | omega | (have := S9.out; have := Ef.out; have := Eg.out; have := Eh.out; have := Ei.out; have := Ej.out; omega)) _ _⟩
  ·
   clear Hb
   go_wp2_with fail
   refine (KN2.out _).mono ?_
   rintro r w7 ⟨rfl, b7⟩
   have B7 := zW B6 b7
   obtain ⟨Ac, Ad, Ae, Am, An⟩ := yO b7 Ap Aq Ar Au Av
   clear b7 B6 Ap AZ A0 Aq A1 A2 Ar A3 A4 Au Av
   obtain ⟨Az, AA⟩ := zC Ac
   obtain ⟨AB, AC⟩ := zC Ad
   obtain ⟨AD, AE⟩ := zC Ae
   rcases Hbb.out with ⟨KN3, KC⟩ | ⟨KN3, KS1, KS2, Hbbb⟩
   ·
    clear Hbb
    go_wp2_with fail
    refine (KN3.out _).mono ?_
    rintro r w8 ⟨rfl, b8⟩
    have B8 := zW B7 b8
    obtain ⟨Aa, Ab, Af, Ag, Ao⟩ := yO b8 Ac Ad Ae Am An
    clear b8 B7 Ac Az AA Ad AB AC Ae AD AE Am An
    obtain ⟨AF, AG⟩ := zC Aa
    obtain ⟨AH, AI⟩ := zC Ab
    obtain ⟨AJ, AK⟩ := zC Af
    go_wp2_with fail
    refine (KC.out _ _ _ (by assumption)).mono ?_
    rintro r w9 ⟨rfl, b9⟩
    have B9 := zW B8 b9
    obtain ⟨Ai, Aj, Ak, Ah, As⟩ := yO b9 Aa Ab Af Ag Ao
    clear b9 B8 Aa AF AG Ab AH AI Af AJ AK Ag Ao
    obtain ⟨AO, AP⟩ := zC Ai
    obtain ⟨AQ, AR⟩ := zC Aj
    obtain ⟨AS, AT⟩ := zC Ak
    have S10 := zK B9.size
    have El := yC Ai
    have Em := yC Aj
    have En := yC Ak
    have Eo := yC Ah
    have Ep := yC As
    have Eq := heap_alloc_last w9 (Obj.cells #[.int .u64 u, .int .u64 v] 26)
    have B10 := zW B9 (yQ w9 (Obj.cells #[.int .u64 u, .int .u64 v] 26))
    obtain ⟨Aw, Ax, Ay, Al, A5⟩ := yO (yQ w9 (Obj.cells #[.int .u64 u, .int .u64 v] 26)) Ai Aj Ak Ah As
    clear B9 Ai AO AP Aj AQ AR Ak AS AT Ah As
    obtain ⟨BH, BI⟩ := zC Aw
    obtain ⟨BJ, BK⟩ := zC Ax
    obtain ⟨BL, BM⟩ := zC Ay
    obtain ⟨GC, GD⟩ := zC Eq
    obtain ⟨Er, Es⟩ := zC Al
    have q0 := fz (k := 0) Al
    have q1 := fz (k := 1) Al
    obtain ⟨E0, E1⟩ := zQ Al (.int .u64 u) (.int .u64 v)
    go_wp2
    exact bodyPost_ret (v := .tuple #[.agg #[.int .u64 u, .int .u64 v], .int .u8 fl, .int .i64 0]) (by simp [results, Tryz.results13, go_sem, E0, E1]) rfl ⟨rfl, zN B10 (by first | exact Nat.le_refl _ | omega | (have := S10.out; have := El.out; have := Em.out; have := En.out; have := Eo.out; have := Ep.out; omega)) _ _⟩
   ·
    clear Hbb
    go_wp2_with fail
    refine (KN3.out _).mono ?_
    rintro r w8 ⟨rfl, b8⟩
    have B8 := zW B7 b8
    obtain ⟨Aa, Ab, Af, Ag, Ao⟩ := yO b8 Ac Ad Ae Am An
    clear b8 B7 Ac Az AA Ad AB AC Ae AD AE Am An
    obtain ⟨AF, AG⟩ := zC Aa
    obtain ⟨AH, AI⟩ := zC Ab
    obtain ⟨AJ, AK⟩ := zC Af
    have sS : zR (∀ W W1 : World, (Below w.heap.size w W ∧ W.heap[w.heap.size]? = some (.cells #[.int .u64 x1, .int .u64 y1] 26) ∧ W.heap[w.heap.size + 1]? = some (.cells #[.int .u64 x2, .int .u64 y2] 26) ∧ W.heap[w.heap.size + 1 + 1]? = some (.cells #[.int .u64 x3, .int .u64 y3] 26) ∧ W.heap[w.heap.size + 1 + 1 + 1]? = some (.cells #[.int .u64 0, .int .u64 0] 26) ∧ W.heap[w.heap.size + 1 + 1 + 1 + 1]? = some (.cells #[.int .u64 x1, .int .u64 y1, .int .u64 x2, .int .u64 y2, .int .u64 x3, .int .u64 y3] 26) ∧ W.cell? ⟨w.heap.size, 0, none⟩ = some (.int .u64 x1) ∧ W.cell? ⟨w.heap.size, 1, none⟩ = some (.int .u64 y1) ∧ W.cell? ⟨w.heap.size + 1, 0, none⟩ = some (.int .u64 x2) ∧ W.cell? ⟨w.heap.size + 1, 1, none⟩ = some (.int .u64 y2)) → Below W.heap.size W W1 → (Below w.heap.size w W1 ∧ W1.heap[w.heap.size]? = some (.cells #[.int .u64 x1, .int .u64 y1] 26) ∧ W1.heap[w.heap.size + 1]? = some (.cells #[.int .u64 x2, .int .u64 y2] 26) ∧ W1.heap[w.heap.size + 1 + 1]? = some (.cells #[.int .u64 x3, .int .u64 y3] 26) ∧ W1.heap[w.heap.size + 1 + 1 + 1]? = some (.cells #[.int .u64 0, .int .u64 0] 26) ∧ W1.heap[w.heap.size + 1 + 1 + 1 + 1]? = some (.cells #[.int .u64 x1, .int .u64 y1, .int .u64 x2, .int .u64 y2, .int .u64 x3, .int .u64 y3] 26) ∧ W1.cell? ⟨w.heap.size, 0, none⟩ = some (.int .u64 x1) ∧ W1.cell? ⟨w.heap.size, 1, none⟩ = some (.int .u64 y1) ∧ W1.cell? ⟨w.heap.size + 1, 0, none⟩ = some (.int .u64 x2) ∧ W1.cell? ⟨w.heap.size + 1, 1, none⟩ = some (.int .u64 y2))) := zK (fun W W1 h b => ⟨zW h.1 b, zA b _ _ _ h.2.1, zA b _ _ _ h.2.2.1, zA b _ _ _ h.2.2.2.1, zA b _ _ _ h.2.2.2.2.1, zA b _ _ _ h.2.2.2.2.2.1, zJ (zA b _ _ _ h.2.1) 0 _ rfl, zJ (zA b _ _ _ h.2.1) 1 _ rfl, zJ (zA b _ _ _ h.2.2.1) 0 _ rfl, zJ (zA b _ _ _ h.2.2.1) 1 _ rfl⟩)
    have s0 : Below w.heap.size w (w8).drew ∧ (w8).drew.heap[w.heap.size]? = some (.cells #[.int .u64 x1, .int .u64 y1] 26) ∧ (w8).drew.heap[w.heap.size + 1]? = some (.cells #[.int .u64 x2, .int .u64 y2] 26) ∧ (w8).drew.heap[w.heap.size + 1 + 1]? = some (.cells #[.int .u64 x3, .int .u64 y3] 26) ∧ (w8).drew.heap[w.heap.size + 1 + 1 + 1]? = some (.cells #[.int .u64 0, .int .u64 0] 26) ∧ (w8).drew.heap[w.heap.size + 1 + 1 + 1 + 1]? = some (.cells #[.int .u64 x1, .int .u64 y1, .int .u64 x2, .int .u64 y2, .int .u64 x3, .int .u64 y3] 26) ∧ (w8).drew.cell? ⟨w.heap.size, 0, none⟩ = some (.int .u64 x1) ∧ (w8).drew.cell? ⟨w.heap.size, 1, none⟩ = some (.int .u64 y1) ∧ (w8).drew.cell? ⟨w.heap.size + 1, 0, none⟩ = some (.int .u64 x2) ∧ (w8).drew.cell? ⟨w.heap.size + 1, 1, none⟩ = some (.int .u64 y2) := ⟨B8.drew, Aa, Ab, Af, Ag, Ao, zJ (Aa) 0 _ rfl, zJ (Aa) 1 _ rfl, zJ (Ab) 0 _ rfl, zJ (Ab) 1 _ rfl⟩
    go_wp2_with fail
    go_region_held3 (fun W => Below w.heap.size w W ∧ W.heap[w.heap.size]? = some (.cells #[.int .u64 x1, .int .u64 y1] 26) ∧ W.heap[w.heap.size + 1]? = some (.cells #[.int .u64 x2, .int .u64 y2] 26) ∧ W.heap[w.heap.size + 1 + 1]? = some (.cells #[.int .u64 x3, .int .u64 y3] 26) ∧ W.heap[w.heap.size + 1 + 1 + 1]? = some (.cells #[.int .u64 0, .int .u64 0] 26) ∧ W.heap[w.heap.size + 1 + 1 + 1 + 1]? = some (.cells #[.int .u64 x1, .int .u64 y1, .int .u64 x2, .int .u64 y2, .int .u64 x3, .int .u64 y3] 26) ∧ W.cell? ⟨w.heap.size, 0, none⟩ = some (.int .u64 x1) ∧ W.cell? ⟨w.heap.size, 1, none⟩ = some (.int .u64 y1) ∧ W.cell? ⟨w.heap.size + 1, 0, none⟩ = some (.int .u64 x2) ∧ W.cell? ⟨w.heap.size + 1, 1, none⟩ = some (.int .u64 y2)) (first | exact s1 | exact s0)
     (((first | (go_at_call_of 43 (Value.agg #[.int .u64 x1, .int .u64 y1]); refine (KS1.out _).mono ?_) | (go_at_call_of 43 (Value.agg #[.int .u64 x2, .int .u64 y2]); refine (KS2.out _).mono ?_) | fail); rintro r wq ⟨rfl, bq⟩; (first | have s1 := sS.out _ _ s1 bq | have s1 := sS.out _ _ s0 bq); clear bq))
    have B9 := (And.left s1)
    have Ai := s1.2.1
    have Aj := s1.2.2.1
    have Ak := s1.2.2.2.1
    have Ah := s1.2.2.2.2.1
    have As := s1.2.2.2.2.2.1
    clear s0 s1 sS B8 Aa AF AG Ab AH AI Af AJ AK Ag Ao
    obtain ⟨AO, AP⟩ := zC Ai
    obtain ⟨AQ, AR⟩ := zC Aj
    obtain ⟨AS, AT⟩ := zC Ak
    rcases Hbbb.out with ⟨KI3, rfl, rfl, rfl⟩ | ⟨KI3, KV1, KV2, KV3, KM, KA, Hbbbb⟩
    ·
     clear Hbbb
     go_wp2_with fail
     refine (KI3.out _).mono ?_
     rintro r w10 ⟨rfl, b10⟩
     have B10 := zW B9 b10
     obtain ⟨Aw, Ax, Ay, Al, A5⟩ := yO b10 Ai Aj Ak Ah As
     clear b10 B9 Ai AO AP Aj AQ AR Ak AS AT Ah As
     obtain ⟨BH, BI⟩ := zC Aw
     obtain ⟨BJ, BK⟩ := zC Ax
     obtain ⟨BL, BM⟩ := zC Ay
     obtain ⟨Er, Es⟩ := zC Al
     have q0 := fz (k := 0) Al
     have q1 := fz (k := 1) Al
     obtain ⟨E0, E1⟩ := zQ Al (.int .u64 x3) (.int .u64 y3)
     go_wp2
     exact bodyPost_ret (v := .tuple #[.agg #[.int .u64 x3, .int .u64 y3], .int .u8 0, .int .i64 0]) (by simp [results, Tryz.results13, go_sem, E0, E1]) rfl ⟨rfl, zN B10 (by first | exact Nat.le_refl _ | omega | (skip; omega)) _ _⟩
    ·
     clear Hbbb
     go_wp2_with fail
     refine (KI3.out _).mono ?_
     rintro r w10 ⟨rfl, b10⟩
     have B10 := zW B9 b10
     obtain ⟨Aw, Ax, Ay, Al, A5⟩ := yO b10 Ai Aj Ak Ah As
     clear b10 B9 Ai AO AP Aj AQ AR Ak AS AT Ah As
     obtain ⟨BH, BI⟩ := zC Aw
     obtain ⟨BJ, BK⟩ := zC Ax
     obtain ⟨BL, BM⟩ := zC Ay
     go_wp2_with fail
     refine (KV1.out _).mono ?_
     rintro r w11 ⟨rfl, b11⟩
     have B11 := zW B10 b11
     obtain ⟨A6, A7, A8, BN, BO⟩ := yO b11 Aw Ax Ay Al A5
     clear b11 B10 Aw BH BI Ax BJ BK Ay BL BM Al A5
     obtain ⟨Et, Eu⟩ := zC A6
     obtain ⟨Ev, Ew⟩ := zC A7
     obtain ⟨Ex, Ey⟩ := zC A8
     have S12 := zK B11.size
     have CP := yC A6
     have CQ := yC A7
     have CR := yC A8
     have CS := yC BN
     have CT := yC BO
     have BP := heap_alloc_last w11 (Obj.cells #[.bool b1, .string n1, .string d1, .int .i64 e1] 70)
     have B12 := zW B11 (yQ w11 (Obj.cells #[.bool b1, .string n1, .string d1, .int .i64 e1] 70))
     obtain ⟨BQ, BR, BS, CU, CV⟩ := yO (yQ w11 (Obj.cells #[.bool b1, .string n1, .string d1, .int .i64 e1] 70)) A6 A7 A8 BN BO
     clear B11 A6 Et Eu A7 Ev Ew A8 Ex Ey BN BO
     obtain ⟨Ez, EA⟩ := zC BQ
     obtain ⟨EB, EC⟩ := zC BR
     obtain ⟨ED, EE⟩ := zC BS
     obtain ⟨EF, EG, EH, EI⟩ := zE BP
     go_wp2_with fail
     refine (KV2.out _).mono ?_
     rintro r w13 ⟨rfl, b13⟩
     have B13 := zW B12 b13
     obtain ⟨A9, Ba, Bb, BT, BU, Bc⟩ := rws6 b13 BQ BR BS CU CV BP
     clear b13 B12 BQ Ez EA BR EB EC BS ED EE CU CV BP EF EG EH EI
     obtain ⟨EJ, EK⟩ := zC A9
     obtain ⟨EL, EM⟩ := zC Ba
     obtain ⟨EN, EO⟩ := zC Bb
     obtain ⟨EP, EQ, ER, ES⟩ := zE Bc
     have S14 := zK B13.size
     have CW := yC A9
     have CX := yC Ba
     have CY := yC Bb
     have CZ := yC BT
     have C0 := yC BU
     have C1 := yC Bc
     have BV := heap_alloc_last w13 (Obj.cells #[.bool b2, .string n2, .string d2, .int .i64 e2] 70)
     have B14 := zW B13 (yQ w13 (Obj.cells #[.bool b2, .string n2, .string d2, .int .i64 e2] 70))
     obtain ⟨BW, BX, BY, C2, C3, BZ⟩ := rws6 (yQ w13 (Obj.cells #[.bool b2, .string n2, .string d2, .int .i64 e2] 70)) A9 Ba Bb BT BU Bc
     clear B13 A9 EJ EK Ba EL EM Bb EN EO BT BU Bc EP EQ ER ES
     obtain ⟨ET, EU⟩ := zC BW
     obtain ⟨EV, EW⟩ := zC BX
     obtain ⟨EX, EY⟩ := zC BY
     obtain ⟨EZ, E2, E3, E4⟩ := zE BZ
     obtain ⟨E5, E6, E7, E8⟩ := zE BV
     clear ET EU
     clear EV EW
     go_wp2_with fail
     refine (KV3.out _).mono ?_
     rintro r w15 ⟨rfl, b15⟩
     have B15 := zW B14 b15
     obtain ⟨Ca, Cb, Bd, Cc, Cd, Be, Bf⟩ := rws7 b15 BW BX BY C2 C3 BZ BV
     clear b15 B14 BW BX BY EX EY C2 C3 BZ EZ E2 E3 E4 BV E5 E6 E7 E8
     obtain ⟨E9, Fa⟩ := zC Bd
     obtain ⟨Fb, Fc, Fd, Fe⟩ := zE Be
     obtain ⟨Ff, Fg, Fh, Fi⟩ := zE Bf
     have S16 := zK B15.size
     have C4 := yC Ca
     have C5 := yC Cb
     have C6 := yC Bd
     have C7 := yC Cc
     have C8 := yC Cd
     have C9 := yC Be
     have Da := yC Bf
     have Ce := heap_alloc_last w15 (Obj.cells #[.bool b3, .string n3, .string d3, .int .i64 e3] 70)
     have B16 := zW B15 (yQ w15 (Obj.cells #[.bool b3, .string n3, .string d3, .int .i64 e3] 70))
     obtain ⟨Db, Dc, Cf, Dd, De, Cg, Ch⟩ := rws7 (yQ w15 (Obj.cells #[.bool b3, .string n3, .string d3, .int .i64 e3] 70)) Ca Cb Bd Cc Cd Be Bf
     clear B15 Ca Cb Bd E9 Fa Cc Cd Be Fb Fc Fd Fe Bf Ff Fg Fh Fi
     obtain ⟨Fj, Fk⟩ := zC Cf
     obtain ⟨Fl, Fm, Fn, Fo⟩ := zE Cg
     obtain ⟨Fp, Fq, Fr, Fs⟩ := zE Ch
     obtain ⟨Ft, Fu, Fv, Fw⟩ := zE Ce
     clear Fj Fk
     go_wp2_with fail
     refine (KM.out _).mono ?_
     rintro r w17 ⟨rfl, b17⟩
     have B17 := zW B16 b17
     obtain ⟨Ci, Cj, Ck, Cl, Cm, Bg, Bh, Bi⟩ := rws8 b17 Db Dc Cf Dd De Cg Ch Ce
     clear b17 B16 Db Dc Cf Dd De Cg Fl Fm Fn Fo Ch Fp Fq Fr Fs Ce Ft Fu Fv Fw
     obtain ⟨Fx, Fy, Fz, FA⟩ := zE Bg
     obtain ⟨FB, FC, FD, FE⟩ := zE Bh
     obtain ⟨FF, FG, FH, FI⟩ := zE Bi
     have S18 := zK B17.size
     have Df := yC Ci
     have Dg := yC Cj
     have Dh := yC Ck
     have Di := yC Cl
     have Dj := yC Cm
     have Dk := yC Bg
     have Dl := yC Bh
     have Dm := yC Bi
     have Cn := heap_alloc_last w17 (Obj.cells #[.bool b4, .string n4, .string d4, .int .i64 e4] 70)
     have B18 := zW B17 (yQ w17 (Obj.cells #[.bool b4, .string n4, .string d4, .int .i64 e4] 70))
     obtain ⟨Dn, Do, Dp, Dq, Dr, Co, Cp, Cq⟩ := rws8 (yQ w17 (Obj.cells #[.bool b4, .string n4, .string d4, .int .i64 e4] 70)) Ci Cj Ck Cl Cm Bg Bh Bi
     clear B17 Ci Cj Ck Cl Cm Bg Fx Fy Fz FA Bh FB FC FD FE Bi FF FG FH FI
     obtain ⟨FJ, FK, FL, FM⟩ := zE Co
     obtain ⟨FN, FO, FP, FQ⟩ := zE Cp
     obtain ⟨FR, FS, FT, FU⟩ := zE Cq
     obtain ⟨FV, FW, FX, FY⟩ := zE Cn
     clear FJ FK FL FM
     clear FN FO FP FQ
     go_wp2_with fail
     refine (KA.out _).mono ?_
     rintro r w19 ⟨rfl, b19⟩
     have B19 := zW B18 b19
     obtain ⟨Cr, Cs, Ct, Cu, Cv, Cw, Cx, Bj, Bk⟩ := rws9 b19 Dn Do Dp Dq Dr Co Cp Cq Cn
     clear b19 B18 Dn Do Dp Dq Dr Co Cp Cq FR FS FT FU Cn FV FW FX FY
     obtain ⟨FZ, F0, F1, F2⟩ := zE Bj
     obtain ⟨F3, F4, F5, F6⟩ := zE Bk
     have S20 := zK B19.size
     have Ds := yC Cr
     have Dt := yC Cs
     have Du := yC Ct
     have Dv := yC Cu
     have Dw := yC Cv
     have Dx := yC Cw
     have Dy := yC Cx
     have Dz := yC Bj
     have DA := yC Bk
     have AU := heap_alloc_last w19 (Obj.cells #[.bool b5, .string n5, .string d5, .int .i64 e5] 70)
     have B20 := zW B19 (yQ w19 (Obj.cells #[.bool b5, .string n5, .string d5, .int .i64 e5] 70))
     obtain ⟨Bl, Bm, Bn, Bo, Bp, Bq, Br, AV, AW⟩ := rws9 (yQ w19 (Obj.cells #[.bool b5, .string n5, .string d5, .int .i64 e5] 70)) Cr Cs Ct Cu Cv Cw Cx Bj Bk
     clear B19 Cr Cs Ct Cu Cv Cw Cx Bj FZ F0 F1 F2 Bk F3 F4 F5 F6
     obtain ⟨F7, F8, F9, Ga⟩ := zE AV
     obtain ⟨Gb, Gc, Gd, Ge⟩ := zE AW
     obtain ⟨DB, DC, DD, DE⟩ := zE AU
     clear F7 F8 F9 Ga
     clear Gb Gc Gd Ge
     rcases Hbbbb.out with ⟨he, KR⟩ | ⟨he, KR, rfl⟩
     ·
      clear Hbbbb
      go_wp2_with fail
      refine (KR.out _).mono ?_
      rintro r w21 ⟨rfl, b21⟩
      have B21 := zW B20 b21
      obtain ⟨Gf, Gg, Gh, At, Gi, Gj, Gk, Gl, Gm⟩ := rws9 b21 Bl Bm Bn Bo Bp Bq Br AV AW
      have Cy := zA b21 _ _ _ AU
      clear b21 B20 Bl Bm Bn Bo Bp Bq Br AV AW AU DB DC DD DE
      obtain ⟨Gn, Gp, Gq, Gr⟩ := zE Cy
      obtain ⟨Gs, Gt⟩ := zC At
      have q0 := fz (k := 0) At
      have q1 := fz (k := 1) At
      obtain ⟨E0, E1⟩ := zQ At (.int .u64 u) (.int .u64 v)
      go_wp2
      exact bodyPost_ret (v := .tuple #[.agg #[.int .u64 u, .int .u64 v], .int .u8 fl, .int .i64 0]) (by simp [results, Tryz.results13, go_sem, E0, E1]) rfl ⟨rfl, zN B21 (by first | exact Nat.le_refl _ | omega | (have := S12.out; have := CP.out; have := CQ.out; have := CR.out; have := CS.out; have := CT.out; have := S14.out; have := CW.out; have := CX.out; have := CY.out; have := CZ.out; have := C0.out; have := C1.out; have := S16.out; have := C4.out; have := C5.out; have := C6.out; have := C7.out; have := C8.out; have := C9.out; have := Da.out; have := S18.out; have := Df.out; have := Dg.out; have := Dh.out; have := Di.out; have := Dj.out; have := Dk.out; have := Dl.out; have := Dm.out; have := S20.out; have := Ds.out; have := Dt.out; have := Du.out; have := Dv.out; have := Dw.out; have := Dx.out; have := Dy.out; have := Dz.out; have := DA.out; omega)) _ _⟩
     ·
      clear Hbbbb
      go_wp2_with fail
      refine (KR.out _).mono ?_
      rintro r w21 ⟨rfl, b21⟩
      have B21 := zW B20 b21
      obtain ⟨Gf, Gg, Gh, At, Gi, Gj, Gk, Gl, Gm⟩ := rws9 b21 Bl Bm Bn Bo Bp Bq Br AV AW
      have Cy := zA b21 _ _ _ AU
      clear b21 B20 Bl Bm Bn Bo Bp Bq Br AV AW AU DB DC DD DE
      obtain ⟨Gn, Gp, Gq, Gr⟩ := zE Cy
      obtain ⟨Gs, Gt⟩ := zC At
      have q0 := fz (k := 0) At
      have q1 := fz (k := 1) At
      obtain ⟨E0, E1⟩ := zQ At (.int .u64 u) (.int .u64 v)
      go_wp2
      exact bodyPost_ret (v := .tuple #[.agg #[.int .u64 u, .int .u64 v], .int .u8 0, .int .i64 0]) (by simp [results, Tryz.results13, go_sem, E0, E1]) rfl ⟨rfl, zN B21 (by first | exact Nat.le_refl _ | omega | (have := S12.out; have := CP.out; have := CQ.out; have := CR.out; have := CS.out; have := CT.out; have := S14.out; have := CW.out; have := CX.out; have := CY.out; have := CZ.out; have := C0.out; have := C1.out; have := S16.out; have := C4.out; have := C5.out; have := C6.out; have := C7.out; have := C8.out; have := C9.out; have := Da.out; have := S18.out; have := Df.out; have := Dg.out; have := Dh.out; have := Di.out; have := Dj.out; have := Dk.out; have := Dl.out; have := Dm.out; have := S20.out; have := Ds.out; have := Dt.out; have := Du.out; have := Dv.out; have := Dw.out; have := Dx.out; have := Dy.out; have := Dz.out; have := DA.out; omega)) _ _⟩
end Go.Proofs.YtapikkbifdldfaaGreatDoor
