/-
  What the functions that the statement reaches return: part 13 (K7).
-/
import Derived.Test.YtkmlbjlaahcahaaGreatDoorNa12
namespace Go.Proofs.YtkmlbjlaahcahaaGreatDoor
set_option maxRecDepth 100000
open Go.RowKit WMath
set_option linter.unusedSimpArgs false
set_option linter.unusedVariables false

theorem bv_lt {n u v : Nat} (hn : n < 340282366920938463463374607431768211456) (h : bv7 n = (u, v)) : u < 18446744073709551616 ∧ v < 18446744073709551616 ∧ v + 18446744073709551616 * u = n := by
  unfold bv7 at h
  injection h with h1 h2
  omega
theorem k_lt {x y n : Nat} (hx : x < 18446744073709551616) (hy : y < 18446744073709551616) (hn : y + 18446744073709551616 * x = n) : n < 340282366920938463463374607431768211456 := by omega
theorem kclass_is (f : Int) (hf : Is4 f) (x y n c : Nat) (hx : x < 18446744073709551616) (hy : y < 18446744073709551616) (hn : y + 18446744073709551616 * x = n) (hc : kC f n = c) (w : World) (hT : FAt w) : Calls Tryz.prog 111 #[.int .u8 f, .agg #[.int .u64 (x : Nat), .int .u64 (y : Nat)]] w fun r w' => r = .returned (.int .u8 (c : Nat)) ∧ Below w.heap.size w w' := by
  obtain ⟨u, v, huv⟩ : ∃ u v, bv7 (kT f n) = (u, v) := ⟨_, _, rfl⟩
  obtain ⟨i, j, hij⟩ : ∃ u v, bv7 (eInf f false) = (u, v) := ⟨_, _, rfl⟩
  obtain ⟨f1, f2, f3, f4, f5, f6, f7⟩ := fm hf
  have tl := kT_lt (f := f) n
  have tn : kT f n < 340282366920938463463374607431768211456 := by rw [f1, Nat.add_mul] at f7; omega
  obtain ⟨u1, v1, t1⟩ := bv_lt tn huv
  obtain ⟨i1, j1, e1⟩ := bv_lt (einf_k hf).2 hij
  obtain ⟨_, _, _, p4, _⟩ := pV_lim hf
  have p1 : IntKind.u64.wrap ((pV f : Int) - 1) = ((pV f - 1 : Nat) : Int) := by rcases hf with rfl | rfl | rfl | rfl <;> decide +kernel
  refine kclass_walk f x y (kE f n) (oV f) (pV f) u v i j (decide (2 ^ (pV f - 1) ≤ kT f n)) (kN f n) _ w
    (box (fun w hT => kfield_is f hf x y n _ hx hy hn rfl w hT)) (box (fun w hT => kfraction_is f hf x y n u v hx hy hn huv w hT)) (box (fun w hT => sk_inf f false hf i j hij w hT))
    (box (fun w hT => kfield_is f hf i j _ _ i1 j1 e1 (einf_k hf).1 w hT)) (box (fun w hT => kfw f hf _ rfl w hT)) (box (fun w _ => kbit_is u v _ (pV f - 1) _ u1 v1 t1 (by omega) (quiet_of hf _ tl) w))
    (box (fun w hT => ksign_is f hf x y n _ hx hy hn rfl w hT)) p1 ?_ hT
  have z1 : (kT f n = 0 → u = 0 ∧ v = 0) ∧ (kT f n ≠ 0 → (((u : Int) == 0) = false ∨ (u = 0 ∧ ((v : Int) == 0) = false))) := by
    refine ⟨fun h => by omega, fun h => ?_⟩
    by_cases hu : u = 0
    · refine Or.inr ⟨hu, ?_⟩; simp; omega
    · refine Or.inl ?_; simp; omega
  subst hc
  unfold kC
  by_cases c1 : kE f n = oV f
  · have b1 : ((kE f n : Int) == (oV f : Int)) = true := by rw [c1]; simp
    rw [if_pos c1]
    by_cases c2 : kT f n = 0
    · rw [if_pos c2]
      refine Or.inr (Or.inr (Or.inl ⟨b1, ?_, (z1.1 c2).1, (z1.1 c2).2, ?_⟩))
      · rw [c2]; exact decide_eq_false (by omega)
      · cases kN f n <;> rfl
    · rw [if_neg c2]
      by_cases c3 : 2 ^ (pV f - 1) ≤ kT f n
      · rw [if_pos c3]
        exact Or.inl ⟨b1, decide_eq_true c3, rfl⟩
      · rw [if_neg c3]
        exact Or.inr (Or.inl ⟨b1, decide_eq_false c3, z1.2 c2, rfl⟩)
  · have b1 : ((kE f n : Int) == (oV f : Int)) = false := by simp; omega
    rw [if_neg c1]
    by_cases c2 : kE f n = 0
    · have b2 : ((kE f n : Int) != 0) = false := by rw [c2]; rfl
      rw [if_neg (by simpa using c2)]
      by_cases c3 : kT f n = 0
      · rw [if_neg (by simpa using c3)]
        refine Or.inr (Or.inr (Or.inr (Or.inr (Or.inr ⟨b1, b2, (z1.1 c3).1, (z1.1 c3).2, ?_⟩))))
        cases kN f n <;> rfl
      · rw [if_pos (by simpa using c3)]
        refine Or.inr (Or.inr (Or.inr (Or.inr (Or.inl ⟨b1, b2, z1.2 c3, ?_⟩))))
        cases kN f n <;> rfl
    · have b2 : ((kE f n : Int) != 0) = true := by simp; omega
      rw [if_pos (by simpa using c2)]
      refine Or.inr (Or.inr (Or.inr (Or.inl ⟨b1, b2, ?_⟩)))
      cases kN f n <;> rfl

theorem fit_iff {f : Int} (hf : Is4 f) (n : Nat) : ((blen n : Nat) : Int) ≤ fW f ↔ Fit f n := by
  have h := blen_iff n (wV f + 1)
  have e : fW f = ((wV f + 1 : Nat) : Int) := by rcases hf with rfl | rfl | rfl | rfl <;> decide +kernel
  unfold Fit
  rw [e, Nat.pow_succ, Nat.mul_comm] at *
  omega
def okB (f : Int) (n : Nat) : Bool := decide (f ≤ 3 ∧ n < 2 * 2 ^ wV f)
theorem okB_fits (f : Int) (h0 : 0 ≤ f) (x y n : Nat) (hn : y + 18446744073709551616 * x = n) : fitsB f (x, y) = okB f n := by
  unfold fitsB okB
  simp only []
  rw [hn]
  by_cases h : f ≤ 3
  · have k := fit_iff (is4_of h0 h) n
    by_cases h2 : Fit f n
    · rw [decide_eq_true h, decide_eq_true (k.2 h2), decide_eq_true ⟨h, h2⟩]; rfl
    · rw [decide_eq_false (fun a => h2 (k.1 a)), Bool.and_false]
      exact (decide_eq_false (fun a : f ≤ 3 ∧ n < 2 * 2 ^ wV f => h2 a.2)).symm
  · rw [decide_eq_false h, Bool.false_and]
    exact (decide_eq_false (fun a : f ≤ 3 ∧ n < 2 * 2 ^ wV f => h a.1)).symm
theorem sk_fits (f : Int) (x y n : Nat) (o : Bool) (h0 : 0 ≤ f) (h1 : f ≤ 255) (hx : x < 18446744073709551616) (hy : y < 18446744073709551616) (hn : y + 18446744073709551616 * x = n) (ho : okB f n = o) (w : World) (hT : FAt w) : Calls Tryz.prog 76 #[.int .u8 f, .agg #[.int .u64 (x : Nat), .int .u64 (y : Nat)]] w fun r w' => r = .returned (.bool o) ∧ Below w.heap.size w w' :=
  s_fits_is f (x, y) o h0 h1 hx hy (by rw [okB_fits f h0 x y n hn, ho]) w hT
theorem okB_yes {f : Int} {n : Nat} (h0 : 0 ≤ f) (h : okB f n = true) : Is4 f ∧ Fit f n := by
  have := of_decide_eq_true h
  exact ⟨is4_of h0 this.1, this.2⟩

theorem kClass_yes (f : Int) (hf : Is4 f) (x y n c : Nat) (hx : x < 18446744073709551616) (hy : y < 18446744073709551616) (hn : y + 18446744073709551616 * x = n) (ho : okB f n = true) (hc : kC f n = c) (w : World) (hT : FAt w) : Calls Tryz.prog 44 #[.int .u8 f, .agg #[.int .u64 (x : Nat), .int .u64 (y : Nat)]] w fun r w' => r = .returned (.tuple #[.int .u8 (c : Nat), .int .i64 0]) ∧ Below w.heap.size w w' := by
  have f4 := is4_ok hf
  have K1 := box (sk_fits f x y n true f4.1 f4.2.1 hx hy hn ho)
  have K2 := box (kclass_is f hf x y n c hx hy hn hc)
  have TT := box hT
  clear hT hf hx hy hn ho hc
  obtain ⟨Rb_0, B0⟩ := kopn1 w (Obj.cells #[.int .u64 (x : Nat), .int .u64 (y : Nat)] 25)
  go_enter Tryz.func44, Tryz.ntmps44
  go_wp2_with fail
  refine (K1.out _ (fatB TT.out B0)).mono ?_
  rintro r w1 ⟨rfl, b1⟩
  have B1 : Below w.heap.size w w1 := btr7 B0 b1
  have Rb_1 := heap_of b1 _ _ _ Rb_0
  clear b1 B0 Rb_0
  obtain ⟨cb_1_0, cb_1_1⟩ := cell7t Rb_1
  go_wp2_with fail
  refine (K2.out _ (fatB TT.out B1)).mono ?_
  rintro r w2 ⟨rfl, b2⟩
  have B2 : Below w.heap.size w w2 := btr7 B1 b2
  have Rb_2 := heap_of b2 _ _ _ Rb_1
  clear b2 B1 Rb_1 cb_1_0 cb_1_1
  obtain ⟨cb_2_0, cb_2_1⟩ := cell7t Rb_2
  go_wp2
  go_ret2
  exact ⟨rfl, B2⟩
theorem kClass_no (f : Int) (h0 : 0 ≤ f) (h1 : f ≤ 255) (x y n : Nat) (hx : x < 18446744073709551616) (hy : y < 18446744073709551616) (hn : y + 18446744073709551616 * x = n) (ho : okB f n = false) (w : World) (hT : FAt w) : Calls Tryz.prog 44 #[.int .u8 f, .agg #[.int .u64 (x : Nat), .int .u64 (y : Nat)]] w fun r w' => r = .returned (.tuple #[.int .u8 0, .int .i64 2]) ∧ Below w.heap.size w w' := by
  have K1 := box (sk_fits f x y n false h0 h1 hx hy hn ho)
  have TT := box hT
  clear hT hx hy hn ho
  obtain ⟨Rb_0, B0⟩ := kopn1 w (Obj.cells #[.int .u64 (x : Nat), .int .u64 (y : Nat)] 25)
  go_enter Tryz.func44, Tryz.ntmps44
  go_wp2_with fail
  refine (K1.out _ (fatB TT.out B0)).mono ?_
  rintro r w1 ⟨rfl, b1⟩
  have B1 : Below w.heap.size w w1 := btr7 B0 b1
  have Rb_1 := heap_of b1 _ _ _ Rb_0
  clear b1 B0 Rb_0
  obtain ⟨cb_1_0, cb_1_1⟩ := cell7t Rb_1
  go_wp2
  go_ret2
  exact ⟨rfl, B1⟩

theorem kplus_one (x y n u v : Nat) (hx : x < 18446744073709551616) (hy : y < 18446744073709551616) (hn : y + 18446744073709551616 * x = n) (hc : bv7 ((n + 340282366920938463463374607431768211455) % 340282366920938463463374607431768211456) = (u, v)) (w : World) : Calls Tryz.prog 79 #[.agg #[.int .u64 (x : Nat), .int .u64 (y : Nat)]] w fun r w' => r = .returned (.agg #[.int .u64 (u : Nat), .int .u64 (v : Nat)]) ∧ Below w.heap.size w w' := by
  have K := box (kplus_is x y 18446744073709551615 18446744073709551615 n 340282366920938463463374607431768211455 u v hx hy hn (by decide) (by decide) (by decide) hc)
  clear hx hy hn hc
  obtain ⟨Rb_0, Rz_0, B0⟩ := kopn2 w (Obj.cells #[.int .u64 (x : Nat), .int .u64 (y : Nat)] 25) (Obj.cells #[.int .u64 0, .int .u64 0] 25)
  go_enter Tryz.func79, Tryz.ntmps79
  go_wp2_with fail
  refine (K.out _).mono ?_
  rintro r w1 ⟨rfl, b1⟩
  have B1 : Below w.heap.size w w1 := btr7 B0 b1
  have Rb_1 := heap_of b1 _ _ _ Rb_0
  have Rz_1 := heap_of b1 _ _ _ Rz_0
  clear b1 B0 Rb_0 Rz_0
  obtain ⟨cb_1_0, cb_1_1⟩ := cell7t Rb_1
  obtain ⟨cz_1_0, cz_1_1⟩ := cell7t Rz_1
  have q0 := fz (k := 0) Rz_1
  have q1 := fz (k := 1) Rz_1
  obtain ⟨E0, E1⟩ := set2_cells Rz_1 (.int .u64 (u : Nat)) (.int .u64 (v : Nat))
  go_wp2
  exact bodyPost_ret (v := .agg #[.int .u64 (u : Nat), .int .u64 (v : Nat)]) (by simp [results, Tryz.results79, go_sem, E0, E1]) rfl ⟨rfl, set2_below B1 (by first | exact Nat.le_refl _ | omega | (skip; omega)) _ _⟩

/-- What Next answers. -/
def nx (f : Int) (n : Nat) : Nat × Int := if 7 ≤ kC f n then (0, 80) else if kC f n < 3 then (n - 1, 0) else if kC f n = 3 then (eLeast f false, 0) else (n + 1, 0)
theorem kNext_no (f : Int) (h0 : 0 ≤ f) (h1 : f ≤ 255) (x y n : Nat) (hx : x < 18446744073709551616) (hy : y < 18446744073709551616) (hn : y + 18446744073709551616 * x = n) (ho : okB f n = false) (w : World) (hT : FAt w) : Calls Tryz.prog 24 #[.int .u8 f, .agg #[.int .u64 (x : Nat), .int .u64 (y : Nat)]] w fun r w' => r = .returned (.tuple #[.agg #[.int .u64 0, .int .u64 0], .int .i64 2]) ∧ Below w.heap.size w w' := by
  have K1 := box (kClass_no f h0 h1 x y n hx hy hn ho)
  have TT := box hT
  clear hT hx hy hn ho
  obtain ⟨Rb_0, Rz_0, B0⟩ := kopn2 w (Obj.cells #[.int .u64 (x : Nat), .int .u64 (y : Nat)] 25) (Obj.cells #[.int .u64 0, .int .u64 0] 25)
  go_enter Tryz.func24, Tryz.ntmps24
  go_wp2_with fail
  refine (K1.out _ (fatB TT.out B0)).mono ?_
  rintro r w1 ⟨rfl, b1⟩
  have B1 : Below w.heap.size w w1 := btr7 B0 b1
  have Rb_1 := heap_of b1 _ _ _ Rb_0
  have Rz_1 := heap_of b1 _ _ _ Rz_0
  clear b1 B0 Rb_0 Rz_0
  obtain ⟨cb_1_0, cb_1_1⟩ := cell7t Rb_1
  obtain ⟨cz_1_0, cz_1_1⟩ := cell7t Rz_1
  have q0 := fz (k := 0) Rz_1
  have q1 := fz (k := 1) Rz_1
  obtain ⟨E0, E1⟩ := set2_cells Rz_1 (.int .u64 0) (.int .u64 0)
  go_wp2
  exact bodyPost_ret (v := .tuple #[.agg #[.int .u64 0, .int .u64 0], .int .i64 2]) (by simp [results, Tryz.results24, go_sem, E0, E1]) rfl ⟨rfl, set2_below B1 (by first | exact Nat.le_refl _ | omega | (skip; omega)) _ _⟩
set_option maxRecDepth 100000 in
set_option maxHeartbeats 2000000 in
theorem kNext_yes (f : Int) (hf : Is4 f) (x y n u v : Nat) (e : Int) (hx : x < 18446744073709551616) (hy : y < 18446744073709551616) (hn : y + 18446744073709551616 * x = n) (ho : okB f n = true) (m : Nat) (hr : nx f n = (m, e)) (hv : bv7 m = (u, v)) (w : World) (hT : FAt w) : Calls Tryz.prog 24 #[.int .u8 f, .agg #[.int .u64 (x : Nat), .int .u64 (y : Nat)]] w fun r w' => r = .returned (.tuple #[.agg #[.int .u64 (u : Nat), .int .u64 (v : Nat)], .int .i64 e]) ∧ Below w.heap.size w w' := by
  obtain ⟨c, hc⟩ : ∃ c, kC f n = c := ⟨_, rfl⟩
  have K1 := box (kClass_yes f hf x y n c hx hy hn ho hc)
  have TT := box hT
  have cl := kC_lt f n
  unfold nx at hr
  rw [hc] at hr cl
  have nf := (okB_yes (is4_ok hf).1 ho).2
  have nl := k_lt hx hy hn
  by_cases c7 : 7 ≤ c
  · rw [if_pos c7] at hr
    injection hr with h1 h2
    subst h1 h2
    injection hv with h1 h2
    subst h1 h2
    have hc2 : c = 7 ∨ c = 8 ∨ c = 9 := by omega
    clear hT hf hx hy hn ho hc nf nl cl c7
    rcases hc2 with rfl | rfl | rfl
    · obtain ⟨Rb_0, Rz_0, B0⟩ := kopn2 w (Obj.cells #[.int .u64 (x : Nat), .int .u64 (y : Nat)] 25) (Obj.cells #[.int .u64 0, .int .u64 0] 25)
      go_enter Tryz.func24, Tryz.ntmps24
      go_wp2_with fail
      refine (K1.out _ (fatB TT.out B0)).mono ?_
      rintro r w1 ⟨rfl, b1⟩
      have B1 : Below w.heap.size w w1 := btr7 B0 b1
      have Rb_1 := heap_of b1 _ _ _ Rb_0
      have Rz_1 := heap_of b1 _ _ _ Rz_0
      clear b1 B0 Rb_0 Rz_0
      obtain ⟨cb_1_0, cb_1_1⟩ := cell7t Rb_1
      obtain ⟨cz_1_0, cz_1_1⟩ := cell7t Rz_1
      have q0 := fz (k := 0) Rz_1
      have q1 := fz (k := 1) Rz_1
      obtain ⟨E0, E1⟩ := set2_cells Rz_1 (.int .u64 0) (.int .u64 0)
      go_wp2
      exact bodyPost_ret (v := .tuple #[.agg #[.int .u64 0, .int .u64 0], .int .i64 80]) (by simp [results, Tryz.results24, go_sem, E0, E1]) rfl ⟨rfl, set2_below B1 (by first | exact Nat.le_refl _ | omega | (skip; omega)) _ _⟩
    · obtain ⟨Rb_0, Rz_0, B0⟩ := kopn2 w (Obj.cells #[.int .u64 (x : Nat), .int .u64 (y : Nat)] 25) (Obj.cells #[.int .u64 0, .int .u64 0] 25)
      go_enter Tryz.func24, Tryz.ntmps24
      go_wp2_with fail
      refine (K1.out _ (fatB TT.out B0)).mono ?_
      rintro r w1 ⟨rfl, b1⟩
      have B1 : Below w.heap.size w w1 := btr7 B0 b1
      have Rb_1 := heap_of b1 _ _ _ Rb_0
      have Rz_1 := heap_of b1 _ _ _ Rz_0
      clear b1 B0 Rb_0 Rz_0
      obtain ⟨cb_1_0, cb_1_1⟩ := cell7t Rb_1
      obtain ⟨cz_1_0, cz_1_1⟩ := cell7t Rz_1
      have q0 := fz (k := 0) Rz_1
      have q1 := fz (k := 1) Rz_1
      obtain ⟨E0, E1⟩ := set2_cells Rz_1 (.int .u64 0) (.int .u64 0)
      go_wp2
      exact bodyPost_ret (v := .tuple #[.agg #[.int .u64 0, .int .u64 0], .int .i64 80]) (by simp [results, Tryz.results24, go_sem, E0, E1]) rfl ⟨rfl, set2_below B1 (by first | exact Nat.le_refl _ | omega | (skip; omega)) _ _⟩
    · obtain ⟨Rb_0, Rz_0, B0⟩ := kopn2 w (Obj.cells #[.int .u64 (x : Nat), .int .u64 (y : Nat)] 25) (Obj.cells #[.int .u64 0, .int .u64 0] 25)
      go_enter Tryz.func24, Tryz.ntmps24
      go_wp2_with fail
      refine (K1.out _ (fatB TT.out B0)).mono ?_
      rintro r w1 ⟨rfl, b1⟩
      have B1 : Below w.heap.size w w1 := btr7 B0 b1
      have Rb_1 := heap_of b1 _ _ _ Rb_0
      have Rz_1 := heap_of b1 _ _ _ Rz_0
      clear b1 B0 Rb_0 Rz_0
      obtain ⟨cb_1_0, cb_1_1⟩ := cell7t Rb_1
      obtain ⟨cz_1_0, cz_1_1⟩ := cell7t Rz_1
      have q0 := fz (k := 0) Rz_1
      have q1 := fz (k := 1) Rz_1
      obtain ⟨E0, E1⟩ := set2_cells Rz_1 (.int .u64 0) (.int .u64 0)
      go_wp2
      exact bodyPost_ret (v := .tuple #[.agg #[.int .u64 0, .int .u64 0], .int .i64 80]) (by simp [results, Tryz.results24, go_sem, E0, E1]) rfl ⟨rfl, set2_below B1 (by first | exact Nat.le_refl _ | omega | (skip; omega)) _ _⟩
  rw [if_neg c7] at hr
  by_cases c3 : c < 3
  · rw [if_pos c3] at hr
    injection hr with h1 h2
    subst h2
    have n0 : n ≠ 0 := by
      rintro rfl
      have e1 : kC f 0 = 4 := by rcases hf with rfl | rfl | rfl | rfl <;> decide +kernel
      omega
    have em : (n + 340282366920938463463374607431768211455) % 340282366920938463463374607431768211456 = n - 1 := by omega
    have K2 := box (kplus_one x y n u v hx hy hn (by rw [em, h1]; exact hv))
    clear em
    have hc2 : c = 0 ∨ c = 1 ∨ c = 2 := by omega
    clear hT hf hx hy hn ho hc nf nl cl c7 c3 n0 hv h1
    rcases hc2 with rfl | rfl | rfl
    · obtain ⟨Rb_0, Rz_0, B0⟩ := kopn2 w (Obj.cells #[.int .u64 (x : Nat), .int .u64 (y : Nat)] 25) (Obj.cells #[.int .u64 0, .int .u64 0] 25)
      go_enter Tryz.func24, Tryz.ntmps24
      go_wp2_with fail
      refine (K1.out _ (fatB TT.out B0)).mono ?_
      rintro r w1 ⟨rfl, b1⟩
      have B1 : Below w.heap.size w w1 := btr7 B0 b1
      have Rb_1 := heap_of b1 _ _ _ Rb_0
      have Rz_1 := heap_of b1 _ _ _ Rz_0
      clear b1 B0 Rb_0 Rz_0
      obtain ⟨cb_1_0, cb_1_1⟩ := cell7t Rb_1
      obtain ⟨cz_1_0, cz_1_1⟩ := cell7t Rz_1
      go_wp2_with fail
      refine (K2.out _).mono ?_
      rintro r w2 ⟨rfl, b2⟩
      have B2 : Below w.heap.size w w2 := btr7 B1 b2
      have Rb_2 := heap_of b2 _ _ _ Rb_1
      have Rz_2 := heap_of b2 _ _ _ Rz_1
      clear b2 B1 Rb_1 cb_1_0 cb_1_1 Rz_1 cz_1_0 cz_1_1
      obtain ⟨cb_2_0, cb_2_1⟩ := cell7t Rb_2
      obtain ⟨cz_2_0, cz_2_1⟩ := cell7t Rz_2
      have q0 := fz (k := 0) Rz_2
      have q1 := fz (k := 1) Rz_2
      obtain ⟨E0, E1⟩ := set2_cells Rz_2 (.int .u64 (u : Nat)) (.int .u64 (v : Nat))
      go_wp2
      exact bodyPost_ret (v := .tuple #[.agg #[.int .u64 (u : Nat), .int .u64 (v : Nat)], .int .i64 0]) (by simp [results, Tryz.results24, go_sem, E0, E1]) rfl ⟨rfl, set2_below B2 (by first | exact Nat.le_refl _ | omega | (skip; omega)) _ _⟩
    · obtain ⟨Rb_0, Rz_0, B0⟩ := kopn2 w (Obj.cells #[.int .u64 (x : Nat), .int .u64 (y : Nat)] 25) (Obj.cells #[.int .u64 0, .int .u64 0] 25)
      go_enter Tryz.func24, Tryz.ntmps24
      go_wp2_with fail
      refine (K1.out _ (fatB TT.out B0)).mono ?_
      rintro r w1 ⟨rfl, b1⟩
      have B1 : Below w.heap.size w w1 := btr7 B0 b1
      have Rb_1 := heap_of b1 _ _ _ Rb_0
      have Rz_1 := heap_of b1 _ _ _ Rz_0
      clear b1 B0 Rb_0 Rz_0
      obtain ⟨cb_1_0, cb_1_1⟩ := cell7t Rb_1
      obtain ⟨cz_1_0, cz_1_1⟩ := cell7t Rz_1
      go_wp2_with fail
      refine (K2.out _).mono ?_
      rintro r w2 ⟨rfl, b2⟩
      have B2 : Below w.heap.size w w2 := btr7 B1 b2
      have Rb_2 := heap_of b2 _ _ _ Rb_1
      have Rz_2 := heap_of b2 _ _ _ Rz_1
      clear b2 B1 Rb_1 cb_1_0 cb_1_1 Rz_1 cz_1_0 cz_1_1
      obtain ⟨cb_2_0, cb_2_1⟩ := cell7t Rb_2
      obtain ⟨cz_2_0, cz_2_1⟩ := cell7t Rz_2
      have q0 := fz (k := 0) Rz_2
      have q1 := fz (k := 1) Rz_2
      obtain ⟨E0, E1⟩ := set2_cells Rz_2 (.int .u64 (u : Nat)) (.int .u64 (v : Nat))
      go_wp2
      exact bodyPost_ret (v := .tuple #[.agg #[.int .u64 (u : Nat), .int .u64 (v : Nat)], .int .i64 0]) (by simp [results, Tryz.results24, go_sem, E0, E1]) rfl ⟨rfl, set2_below B2 (by first | exact Nat.le_refl _ | omega | (skip; omega)) _ _⟩
    · obtain ⟨Rb_0, Rz_0, B0⟩ := kopn2 w (Obj.cells #[.int .u64 (x : Nat), .int .u64 (y : Nat)] 25) (Obj.cells #[.int .u64 0, .int .u64 0] 25)
      go_enter Tryz.func24, Tryz.ntmps24
      go_wp2_with fail
      refine (K1.out _ (fatB TT.out B0)).mono ?_
      rintro r w1 ⟨rfl, b1⟩
      have B1 : Below w.heap.size w w1 := btr7 B0 b1
      have Rb_1 := heap_of b1 _ _ _ Rb_0
      have Rz_1 := heap_of b1 _ _ _ Rz_0
      clear b1 B0 Rb_0 Rz_0
      obtain ⟨cb_1_0, cb_1_1⟩ := cell7t Rb_1
      obtain ⟨cz_1_0, cz_1_1⟩ := cell7t Rz_1
      go_wp2_with fail
      refine (K2.out _).mono ?_
      rintro r w2 ⟨rfl, b2⟩
      have B2 : Below w.heap.size w w2 := btr7 B1 b2
      have Rb_2 := heap_of b2 _ _ _ Rb_1
      have Rz_2 := heap_of b2 _ _ _ Rz_1
      clear b2 B1 Rb_1 cb_1_0 cb_1_1 Rz_1 cz_1_0 cz_1_1
      obtain ⟨cb_2_0, cb_2_1⟩ := cell7t Rb_2
      obtain ⟨cz_2_0, cz_2_1⟩ := cell7t Rz_2
      have q0 := fz (k := 0) Rz_2
      have q1 := fz (k := 1) Rz_2
      obtain ⟨E0, E1⟩ := set2_cells Rz_2 (.int .u64 (u : Nat)) (.int .u64 (v : Nat))
      go_wp2
      exact bodyPost_ret (v := .tuple #[.agg #[.int .u64 (u : Nat), .int .u64 (v : Nat)], .int .i64 0]) (by simp [results, Tryz.results24, go_sem, E0, E1]) rfl ⟨rfl, set2_below B2 (by first | exact Nat.le_refl _ | omega | (skip; omega)) _ _⟩
  rw [if_neg c3] at hr
  by_cases c4 : c = 3
  · rw [if_pos c4] at hr
    injection hr with h1 h2
    subst h2 c4
    rw [← h1] at hv
    have K2 := box (sk_least f false hf u v hv)
    clear hT hf hx hy hn ho hc nf nl cl c7 c3 hv h1
    obtain ⟨Rb_0, Rz_0, B0⟩ := kopn2 w (Obj.cells #[.int .u64 (x : Nat), .int .u64 (y : Nat)] 25) (Obj.cells #[.int .u64 0, .int .u64 0] 25)
    go_enter Tryz.func24, Tryz.ntmps24
    go_wp2_with fail
    refine (K1.out _ (fatB TT.out B0)).mono ?_
    rintro r w1 ⟨rfl, b1⟩
    have B1 : Below w.heap.size w w1 := btr7 B0 b1
    have Rb_1 := heap_of b1 _ _ _ Rb_0
    have Rz_1 := heap_of b1 _ _ _ Rz_0
    clear b1 B0 Rb_0 Rz_0
    obtain ⟨cb_1_0, cb_1_1⟩ := cell7t Rb_1
    obtain ⟨cz_1_0, cz_1_1⟩ := cell7t Rz_1
    go_wp2_with fail
    refine (K2.out _ (fatB TT.out B1)).mono ?_
    rintro r w2 ⟨rfl, b2⟩
    have B2 : Below w.heap.size w w2 := btr7 B1 b2
    have Rb_2 := heap_of b2 _ _ _ Rb_1
    have Rz_2 := heap_of b2 _ _ _ Rz_1
    clear b2 B1 Rb_1 cb_1_0 cb_1_1 Rz_1 cz_1_0 cz_1_1
    obtain ⟨cb_2_0, cb_2_1⟩ := cell7t Rb_2
    obtain ⟨cz_2_0, cz_2_1⟩ := cell7t Rz_2
    have q0 := fz (k := 0) Rz_2
    have q1 := fz (k := 1) Rz_2
    obtain ⟨E0, E1⟩ := set2_cells Rz_2 (.int .u64 (u : Nat)) (.int .u64 (v : Nat))
    go_wp2
    exact bodyPost_ret (v := .tuple #[.agg #[.int .u64 (u : Nat), .int .u64 (v : Nat)], .int .i64 0]) (by simp [results, Tryz.results24, go_sem, E0, E1]) rfl ⟨rfl, set2_below B2 (by first | exact Nat.le_refl _ | omega | (skip; omega)) _ _⟩
  · rw [if_neg c4] at hr
    injection hr with h1 h2
    subst h2
    have n1 : n + 1 < 340282366920938463463374607431768211456 := by
      have h2 : kC f 340282366920938463463374607431768211455 = 9 := by rcases hf with rfl | rfl | rfl | rfl <;> decide +kernel
      by_cases e : n = 340282366920938463463374607431768211455
      · rw [e, h2] at hc; omega
      · omega
    have K2 := box (kplus_is x y 0 1 n 1 u v hx hy hn (by decide) (by decide) (by decide) (by rw [← hv, ← h1, Nat.mod_eq_of_lt n1]))
    have hc2 : c = 4 ∨ c = 5 ∨ c = 6 := by omega
    clear hT hf hx hy hn ho hc nf nl cl c7 c3 c4 n1 hv h1
    rcases hc2 with rfl | rfl | rfl
    · obtain ⟨Rb_0, Rz_0, B0⟩ := kopn2 w (Obj.cells #[.int .u64 (x : Nat), .int .u64 (y : Nat)] 25) (Obj.cells #[.int .u64 0, .int .u64 0] 25)
      go_enter Tryz.func24, Tryz.ntmps24
      go_wp2_with fail
      refine (K1.out _ (fatB TT.out B0)).mono ?_
      rintro r w1 ⟨rfl, b1⟩
      have B1 : Below w.heap.size w w1 := btr7 B0 b1
      have Rb_1 := heap_of b1 _ _ _ Rb_0
      have Rz_1 := heap_of b1 _ _ _ Rz_0
      clear b1 B0 Rb_0 Rz_0
      obtain ⟨cb_1_0, cb_1_1⟩ := cell7t Rb_1
      obtain ⟨cz_1_0, cz_1_1⟩ := cell7t Rz_1
      go_wp2_with fail
      refine (K2.out _).mono ?_
      rintro r w2 ⟨rfl, b2⟩
      have B2 : Below w.heap.size w w2 := btr7 B1 b2
      have Rb_2 := heap_of b2 _ _ _ Rb_1
      have Rz_2 := heap_of b2 _ _ _ Rz_1
      clear b2 B1 Rb_1 cb_1_0 cb_1_1 Rz_1 cz_1_0 cz_1_1
      obtain ⟨cb_2_0, cb_2_1⟩ := cell7t Rb_2
      obtain ⟨cz_2_0, cz_2_1⟩ := cell7t Rz_2
      have q0 := fz (k := 0) Rz_2
      have q1 := fz (k := 1) Rz_2
      obtain ⟨E0, E1⟩ := set2_cells Rz_2 (.int .u64 (u : Nat)) (.int .u64 (v : Nat))
      go_wp2
      exact bodyPost_ret (v := .tuple #[.agg #[.int .u64 (u : Nat), .int .u64 (v : Nat)], .int .i64 0]) (by simp [results, Tryz.results24, go_sem, E0, E1]) rfl ⟨rfl, set2_below B2 (by first | exact Nat.le_refl _ | omega | (skip; omega)) _ _⟩
    · obtain ⟨Rb_0, Rz_0, B0⟩ := kopn2 w (Obj.cells #[.int .u64 (x : Nat), .int .u64 (y : Nat)] 25) (Obj.cells #[.int .u64 0, .int .u64 0] 25)
      go_enter Tryz.func24, Tryz.ntmps24
      go_wp2_with fail
      refine (K1.out _ (fatB TT.out B0)).mono ?_
      rintro r w1 ⟨rfl, b1⟩
      have B1 : Below w.heap.size w w1 := btr7 B0 b1
      have Rb_1 := heap_of b1 _ _ _ Rb_0
      have Rz_1 := heap_of b1 _ _ _ Rz_0
      clear b1 B0 Rb_0 Rz_0
      obtain ⟨cb_1_0, cb_1_1⟩ := cell7t Rb_1
      obtain ⟨cz_1_0, cz_1_1⟩ := cell7t Rz_1
      go_wp2_with fail
      refine (K2.out _).mono ?_
      rintro r w2 ⟨rfl, b2⟩
      have B2 : Below w.heap.size w w2 := btr7 B1 b2
      have Rb_2 := heap_of b2 _ _ _ Rb_1
      have Rz_2 := heap_of b2 _ _ _ Rz_1
      clear b2 B1 Rb_1 cb_1_0 cb_1_1 Rz_1 cz_1_0 cz_1_1
      obtain ⟨cb_2_0, cb_2_1⟩ := cell7t Rb_2
      obtain ⟨cz_2_0, cz_2_1⟩ := cell7t Rz_2
      have q0 := fz (k := 0) Rz_2
      have q1 := fz (k := 1) Rz_2
      obtain ⟨E0, E1⟩ := set2_cells Rz_2 (.int .u64 (u : Nat)) (.int .u64 (v : Nat))
      go_wp2
      exact bodyPost_ret (v := .tuple #[.agg #[.int .u64 (u : Nat), .int .u64 (v : Nat)], .int .i64 0]) (by simp [results, Tryz.results24, go_sem, E0, E1]) rfl ⟨rfl, set2_below B2 (by first | exact Nat.le_refl _ | omega | (skip; omega)) _ _⟩
    · obtain ⟨Rb_0, Rz_0, B0⟩ := kopn2 w (Obj.cells #[.int .u64 (x : Nat), .int .u64 (y : Nat)] 25) (Obj.cells #[.int .u64 0, .int .u64 0] 25)
      go_enter Tryz.func24, Tryz.ntmps24
      go_wp2_with fail
      refine (K1.out _ (fatB TT.out B0)).mono ?_
      rintro r w1 ⟨rfl, b1⟩
      have B1 : Below w.heap.size w w1 := btr7 B0 b1
      have Rb_1 := heap_of b1 _ _ _ Rb_0
      have Rz_1 := heap_of b1 _ _ _ Rz_0
      clear b1 B0 Rb_0 Rz_0
      obtain ⟨cb_1_0, cb_1_1⟩ := cell7t Rb_1
      obtain ⟨cz_1_0, cz_1_1⟩ := cell7t Rz_1
      go_wp2_with fail
      refine (K2.out _).mono ?_
      rintro r w2 ⟨rfl, b2⟩
      have B2 : Below w.heap.size w w2 := btr7 B1 b2
      have Rb_2 := heap_of b2 _ _ _ Rb_1
      have Rz_2 := heap_of b2 _ _ _ Rz_1
      clear b2 B1 Rb_1 cb_1_0 cb_1_1 Rz_1 cz_1_0 cz_1_1
      obtain ⟨cb_2_0, cb_2_1⟩ := cell7t Rb_2
      obtain ⟨cz_2_0, cz_2_1⟩ := cell7t Rz_2
      have q0 := fz (k := 0) Rz_2
      have q1 := fz (k := 1) Rz_2
      obtain ⟨E0, E1⟩ := set2_cells Rz_2 (.int .u64 (u : Nat)) (.int .u64 (v : Nat))
      go_wp2
      exact bodyPost_ret (v := .tuple #[.agg #[.int .u64 (u : Nat), .int .u64 (v : Nat)], .int .i64 0]) (by simp [results, Tryz.results24, go_sem, E0, E1]) rfl ⟨rfl, set2_below B2 (by first | exact Nat.le_refl _ | omega | (skip; omega)) _ _⟩
end Go.Proofs.YtkmlbjlaahcahaaGreatDoor
