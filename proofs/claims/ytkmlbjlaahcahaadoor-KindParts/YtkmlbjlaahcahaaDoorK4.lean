/-
  Package kind: the fraction, the sign, the least exponent.
-/
import Derived.Test.YtkmlbjlaahcahaaDoorK3
import Derived.Lib.MinMax
namespace Go.Proofs.YtkmlbjlaahcahaaDoor
open Go.RowKit WMath
set_option linter.unusedSimpArgs false
set_option linter.unusedVariables false

theorem and_zero (a : Nat) (h : a < 18446744073709551616) : bits .and .u64 (a : Int) 0 = 0 := by
  have := and_mask a 0 h (by decide)
  simpa [Nat.mod_one] using this
theorem and_at (a k : Nat) (m : Int) (v : Nat) (h : a < 18446744073709551616) (hk : k ≤ 64) (hm : ((2 ^ k - 1 : Nat) : Int) = m) (hv : a % 2 ^ k = v) : bits .and .u64 (a : Int) m = (v : Int) := by
  subst hm hv
  exact and_mask a k h hk
set_option maxHeartbeats 1000000 in
theorem kfraction_is (f : Int) (hf : Is4 f) (x y n u v : Nat) (hx : x < 18446744073709551616) (hy : y < 18446744073709551616) (hn : y + 18446744073709551616 * x = n) (hv : bv7 (kT f n) = (u, v)) (w : World) (hT : FAt w) : Calls Tryd.prog 38 #[.int .u8 f, .agg #[.int .u64 (x : Nat), .int .u64 (y : Nat)]] w fun r w' => r = .returned (.agg #[.int .u64 (u : Nat), .int .u64 (v : Nat)]) ∧ Below w.heap.size w w' := by
  unfold bv7 kT at hv
  injection hv with h1 h2
  have TT := box hT
  rcases hf with rfl | rfl | rfl | rfl
  · rw [show pV 0 = 23 by decide] at h1 h2
    have hm : max (23 : Int) 64 = 64 := by decide
    have a1 := and_zero x hx
    have a2 := and_at y 23 8388607 v hy (by decide) (by decide) (by rw [← h2, ← hn]; simp only [Nat.reducePow]; omega)
    have u0 : u = 0 := by rw [← h1]; simp only [Nat.reducePow]; omega
    subst u0
    clear hT h1 h2 hn hx hy
    obtain ⟨Rb_0, Rz_0, B0⟩ := kopn2 w (Obj.cells #[.int .u64 (x : Nat), .int .u64 (y : Nat)] 25) (Obj.cells #[.int .u64 0, .int .u64 0] 25)
    go_enter Tryd.func38, Tryd.ntmps38
    go_wp2_with fail
    refine (kfw 0 (Or.inl rfl) 23 (by decide) _ (fatB TT.out B0)).mono ?_
    rintro r w1 ⟨rfl, b1⟩
    have B1 : Below w.heap.size w w1 := btr7 B0 b1
    have Rb_1 := heap_of b1 _ _ _ Rb_0
    have Rz_1 := heap_of b1 _ _ _ Rz_0
    clear b1 B0 Rb_0 Rz_0
    obtain ⟨cb_1_0, cb_1_1⟩ := cell7t Rb_1
    obtain ⟨cz_1_0, cz_1_1⟩ := cell7t Rz_1
    have q0 := fz (k := 0) Rz_1
    have q1 := fz (k := 1) Rz_1
    obtain ⟨E0, E1⟩ := set2_cells Rz_1 (.int .u64 0) (.int .u64 (v : Nat))
    go_wp2
    exact bodyPost_ret (v := .agg #[.int .u64 0, .int .u64 (v : Nat)]) (by simp [results, Tryd.results38, go_sem, E0, E1]) rfl ⟨rfl, set2_below B1 (by first | exact Nat.le_refl _ | omega | (skip; omega)) _ _⟩
  · rw [show pV 1 = 52 by decide] at h1 h2
    have hm : max (52 : Int) 64 = 64 := by decide
    have a1 := and_zero x hx
    have a2 := and_at y 52 4503599627370495 v hy (by decide) (by decide) (by rw [← h2, ← hn]; simp only [Nat.reducePow]; omega)
    have u0 : u = 0 := by rw [← h1]; simp only [Nat.reducePow]; omega
    subst u0
    clear hT h1 h2 hn hx hy
    obtain ⟨Rb_0, Rz_0, B0⟩ := kopn2 w (Obj.cells #[.int .u64 (x : Nat), .int .u64 (y : Nat)] 25) (Obj.cells #[.int .u64 0, .int .u64 0] 25)
    go_enter Tryd.func38, Tryd.ntmps38
    go_wp2_with fail
    refine (kfw 1 (Or.inr (Or.inl rfl)) 52 (by decide) _ (fatB TT.out B0)).mono ?_
    rintro r w1 ⟨rfl, b1⟩
    have B1 : Below w.heap.size w w1 := btr7 B0 b1
    have Rb_1 := heap_of b1 _ _ _ Rb_0
    have Rz_1 := heap_of b1 _ _ _ Rz_0
    clear b1 B0 Rb_0 Rz_0
    obtain ⟨cb_1_0, cb_1_1⟩ := cell7t Rb_1
    obtain ⟨cz_1_0, cz_1_1⟩ := cell7t Rz_1
    have q0 := fz (k := 0) Rz_1
    have q1 := fz (k := 1) Rz_1
    obtain ⟨E0, E1⟩ := set2_cells Rz_1 (.int .u64 0) (.int .u64 (v : Nat))
    go_wp2
    exact bodyPost_ret (v := .agg #[.int .u64 0, .int .u64 (v : Nat)]) (by simp [results, Tryd.results38, go_sem, E0, E1]) rfl ⟨rfl, set2_below B1 (by first | exact Nat.le_refl _ | omega | (skip; omega)) _ _⟩
  · rw [show pV 2 = 10 by decide] at h1 h2
    have hm : max (10 : Int) 64 = 64 := by decide
    have a1 := and_zero x hx
    have a2 := and_at y 10 1023 v hy (by decide) (by decide) (by rw [← h2, ← hn]; simp only [Nat.reducePow]; omega)
    have u0 : u = 0 := by rw [← h1]; simp only [Nat.reducePow]; omega
    subst u0
    clear hT h1 h2 hn hx hy
    obtain ⟨Rb_0, Rz_0, B0⟩ := kopn2 w (Obj.cells #[.int .u64 (x : Nat), .int .u64 (y : Nat)] 25) (Obj.cells #[.int .u64 0, .int .u64 0] 25)
    go_enter Tryd.func38, Tryd.ntmps38
    go_wp2_with fail
    refine (kfw 2 (Or.inr (Or.inr (Or.inl rfl))) 10 (by decide) _ (fatB TT.out B0)).mono ?_
    rintro r w1 ⟨rfl, b1⟩
    have B1 : Below w.heap.size w w1 := btr7 B0 b1
    have Rb_1 := heap_of b1 _ _ _ Rb_0
    have Rz_1 := heap_of b1 _ _ _ Rz_0
    clear b1 B0 Rb_0 Rz_0
    obtain ⟨cb_1_0, cb_1_1⟩ := cell7t Rb_1
    obtain ⟨cz_1_0, cz_1_1⟩ := cell7t Rz_1
    have q0 := fz (k := 0) Rz_1
    have q1 := fz (k := 1) Rz_1
    obtain ⟨E0, E1⟩ := set2_cells Rz_1 (.int .u64 0) (.int .u64 (v : Nat))
    go_wp2
    exact bodyPost_ret (v := .agg #[.int .u64 0, .int .u64 (v : Nat)]) (by simp [results, Tryd.results38, go_sem, E0, E1]) rfl ⟨rfl, set2_below B1 (by first | exact Nat.le_refl _ | omega | (skip; omega)) _ _⟩
  · rw [show pV 3 = 112 by decide] at h1 h2
    have hm : max (112 : Int) 64 = 112 := by decide
    have hm2 : IntKind.u64.wrap (IntKind.u64.wrap 18446744073709551616 - 1) = 18446744073709551615 := by decide
    have a1 := and_at x 48 281474976710655 u hx (by decide) (by decide) (by rw [← h1, ← hn]; simp only [Nat.reducePow]; omega)
    have a2 := and_at y 64 18446744073709551615 v hy (by decide) (by decide) (by rw [← h2, ← hn]; simp only [Nat.reducePow]; omega)
    clear hT h1 h2 hn hx hy
    obtain ⟨Rb_0, Rz_0, B0⟩ := kopn2 w (Obj.cells #[.int .u64 (x : Nat), .int .u64 (y : Nat)] 25) (Obj.cells #[.int .u64 0, .int .u64 0] 25)
    go_enter Tryd.func38, Tryd.ntmps38
    go_wp2_with fail
    refine (kfw 3 (Or.inr (Or.inr (Or.inr rfl))) 112 (by decide) _ (fatB TT.out B0)).mono ?_
    rintro r w1 ⟨rfl, b1⟩
    have B1 : Below w.heap.size w w1 := btr7 B0 b1
    have Rb_1 := heap_of b1 _ _ _ Rb_0
    have Rz_1 := heap_of b1 _ _ _ Rz_0
    clear b1 B0 Rb_0 Rz_0
    obtain ⟨cb_1_0, cb_1_1⟩ := cell7t Rb_1
    obtain ⟨cz_1_0, cz_1_1⟩ := cell7t Rz_1
    have q0 := fz (k := 0) Rz_1
    have q1 := fz (k := 1) Rz_1
    obtain ⟨E0, E1⟩ := set2_cells Rz_1 (.int .u64 (u : Nat)) (.int .u64 (v : Nat))
    go_wp2
    exact bodyPost_ret (v := .agg #[.int .u64 (u : Nat), .int .u64 (v : Nat)]) (by simp [results, Tryd.results38, go_sem, E0, E1]) rfl ⟨rfl, set2_below B1 (by first | exact Nat.le_refl _ | omega | (skip; omega)) _ _⟩

theorem ksign_is (f : Int) (hf : Is4 f) (x y n : Nat) (o : Bool) (hx : x < 18446744073709551616) (hy : y < 18446744073709551616) (hn : y + 18446744073709551616 * x = n) (ho : kN f n = o) (w : World) (hT : FAt w) : Calls Tryd.prog 42 #[.int .u8 f, .agg #[.int .u64 (x : Nat), .int .u64 (y : Nat)]] w fun r w' => r = .returned (.bool o) ∧ Below w.heap.size w w' := by
  have f4 := is4_ok hf
  obtain ⟨_, _, _, _, a5, a6, a7, a8⟩ := pV_lim hf
  have KB := box (kbit_is x y n (wV f) o hx hy hn a5 (by rw [sign_of hf, ho]))
  obtain ⟨q, hq⟩ : ∃ q, fW f = q := ⟨_, rfl⟩
  obtain ⟨k, hk⟩ : ∃ q, wV f = q := ⟨_, rfl⟩
  rw [hq, hk] at a7
  rw [hk] at KB a8
  have TT := box hT
  have HQ := box hq
  clear hT hf hq hk hn hx hy ho a5 a6
  obtain ⟨Rb_0, B0⟩ := kopn1 w (Obj.cells #[.int .u64 (x : Nat), .int .u64 (y : Nat)] 25)
  go_enter Tryd.func42, Tryd.ntmps42
  go_wp2_with fail
  obtain ⟨F, hF1, hF2⟩ := below_fun (w.alloc (Obj.cells #[.int .u64 (x : Nat), .int .u64 (y : Nat)] 25))
  have fb_0 := fun u => cell7 (heap_of (hF1 u) _ _ _ Rb_0) 0 _ rfl
  have fb_1 := fun u => cell7 (heap_of (hF1 u) _ _ _ Rb_0) 1 _ rfl
  have TF : Box (∀ u, FAt (F u)) := box (fun u => fatB TT.out (btr7 B0 (hF1 u)))
  refine wp_region_below F hF2 (by kernel_rfl) (by kernel_rfl) ?_
  repeat first | go_big_quiet_step (first | (go_at_call 36; exact quietF hF1 hF2 (kb_width f q f4.1 f4.2.1 HQ.out _ (TF.out _))) | (go_at_call 40; exact quietF hF1 hF2 (KB.out _)) | fail) | quiet_step (first | (go_at_call 36; exact quietF hF1 hF2 (kb_width f q f4.1 f4.2.1 HQ.out _ (TF.out _))) | (go_at_call 40; exact quietF hF1 hF2 (KB.out _)) | fail)
  refine wpQuiet_nil ?_
  rintro _ ⟨uW, rfl⟩
  have B1 := btr7 B0 (hF1 uW)
  have Rb_1 := heap_of (hF1 uW) _ _ _ Rb_0
  obtain ⟨w1, hw⟩ : ∃ V, F uW = V := ⟨_, rfl⟩
  rw [hw] at B1 Rb_1
  try rw [hw]
  clear hw hF1 hF2 B0 fb_0 fb_1 Rb_0
  clear TF
  clear F
  obtain ⟨cb_1_0, cb_1_1⟩ := cell7t Rb_1
  go_wp2
  go_ret
  exact ⟨rfl, B1⟩

theorem lx_lim {f : Int} (h : Is4 f) : IntKind.i64.wrap (1 - fE f - fP f) = 1 - fE f - fP f ∧ IntKind.i64.wrap (1 - fE f - fP f + 1) = lx f ∧ lx f ≤ 0 ∧ -16494 ≤ lx f ∧ lx f = 1 - fE f - fP f + 1 := by
  rcases h with rfl | rfl | rfl | rfl <;> decide +kernel
theorem kleast_is (f : Int) (hf : Is4 f) (v : Int) (hv : lx f = v) (w : World) (hT : FAt w) : Calls Tryd.prog 44 #[.int .u8 f] w fun r w' => r = .returned (.int .i64 v) ∧ Below w.heap.size w w' := by
  have f4 := is4_ok hf
  obtain ⟨a1, a2, _⟩ := lx_lim hf
  rw [hv] at a2
  obtain ⟨p, hp⟩ : ∃ q, fP f = q := ⟨_, rfl⟩
  obtain ⟨m, hm⟩ : ∃ q, 1 - fE f = q := ⟨_, rfl⟩
  rw [hm, hp] at a1 a2
  have TT := box hT
  have HP := box hp
  have HM := box hm
  clear hT hf hv hp hm
  have B0 : Below w.heap.size w w := (Below.refl _ _)
  go_enter Tryd.func44, Tryd.ntmps44
  go_wp2_with fail
  refine (s_emin f _ m f4.1 f4.2.1 rfl (by rw [if_pos f4.2.2.1]; exact HM.out) _ (fatB TT.out B0)).mono ?_
  rintro r w1 ⟨rfl, b1⟩
  have B1 : Below w.heap.size w w1 := btr7 B0 b1
  clear b1 B0 
  go_wp2_with fail
  refine (kb_precision f p f4.1 f4.2.1 HP.out _ (fatB TT.out B1)).mono ?_
  rintro r w2 ⟨rfl, b2⟩
  have B2 : Below w.heap.size w w2 := btr7 B1 b2
  clear b2 B1 
  go_wp2
  go_ret
  exact ⟨rfl, B2⟩
end Go.Proofs.YtkmlbjlaahcahaaDoor
