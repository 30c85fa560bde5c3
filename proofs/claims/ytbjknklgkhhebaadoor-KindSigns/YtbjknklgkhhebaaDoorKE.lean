/-
  What the laws ask first; the document's Next.
-/
import Derived.Test.YtbjknklgkhhebaaDoorKD
import Derived.Test.YtbjknklgkhhebaaDoorKA
namespace Go.Proofs.YtbjknklgkhhebaaDoor
open Go.RowKit WMath
set_option linter.unusedSimpArgs false
set_option linter.unusedVariables false

theorem rNext_is (f : Int) (hf : Is4 f) (x y n u v m : Nat) (e : Int) (hx : x < 18446744073709551616) (hy : y < 18446744073709551616) (hn : y + 18446744073709551616 * x = n) (ho : okB f n = true) (hr : nx f n = (m, e)) (hv : bv7 m = (u, v)) (w : World) :
    Calls Tryd.prog 21 #[.int .u8 f, .agg #[.int .u64 (x : Nat), .int .u64 (y : Nat)]] w fun r w' => r = .returned (.tuple #[.agg #[.int .u64 (u : Nat), .int .u64 (v : Nat)], .int .i64 e]) ∧ Below w.heap.size w w' := by
  have f4 := is4_ok hf
  obtain ⟨c, hc⟩ : ∃ c, kC f n = c := ⟨_, rfl⟩
  have nf := (okB_yes f4.1 ho).2
  have K1 := box (rk_class f hf x y n c hx hy hn nf hc)
  have cl := kC_lt f n
  unfold nx at hr
  rw [hc] at hr cl
  by_cases c7 : 7 ≤ c
  · rw [if_pos c7] at hr
    injection hr with h1 h2
    subst h1 h2
    injection hv with h1 h2
    subst h1 h2
    have hc2 : c = 8 ∨ c = 9 ∨ c = 7 := by omega
    clear hf hx hy hn ho nf cl c7
    rcases hc2 with hc2 | hc2 | hc2
    · have f8 : ((c : Int) == 8) = true := by rw [hc2]; rfl
      clear hc2 hc
      have Rb_0 : ((w.alloc (Obj.cells #[.int .u64 (x : Nat), .int .u64 (y : Nat)] 25)).alloc (Obj.cells #[.int .u64 0, .int .u64 0] 25)).heap[w.heap.size]? = some (Obj.cells #[.int .u64 (x : Nat), .int .u64 (y : Nat)] 25) := by rw [heap_below _ _ _ (by simp only [size_al]; omega)]; have := heap_alloc_last w (Obj.cells #[.int .u64 (x : Nat), .int .u64 (y : Nat)] 25); simpa only [size_al] using this
      have Rz_0 : ((w.alloc (Obj.cells #[.int .u64 (x : Nat), .int .u64 (y : Nat)] 25)).alloc (Obj.cells #[.int .u64 0, .int .u64 0] 25)).heap[w.heap.size + 1]? = some (Obj.cells #[.int .u64 0, .int .u64 0] 25) := by have := heap_alloc_last (w.alloc (Obj.cells #[.int .u64 (x : Nat), .int .u64 (y : Nat)] 25)) (Obj.cells #[.int .u64 0, .int .u64 0] 25); simpa only [size_al] using this
      have B0 : Below w.heap.size w ((w.alloc (Obj.cells #[.int .u64 (x : Nat), .int .u64 (y : Nat)] 25)).alloc (Obj.cells #[.int .u64 0, .int .u64 0] 25)) := (((Below.refl _ _).alloc (by first | omega | (simp only [size_al]; omega)) _).alloc (by first | omega | (simp only [size_al]; omega)) _)
      go_enter Tryd.func21, Tryd.ntmps21
      go_wp2_with fail
      refine (K1.out _).mono ?_
      rintro r w1 ⟨rfl, b1⟩
      have B1 : Below w.heap.size w w1 := btr7 B0 b1
      have Rb_1 : w1.heap[w.heap.size]? = some (Obj.cells #[.int .u64 (x : Nat), .int .u64 (y : Nat)] 25) := heap_of b1 _ _ _ Rb_0
      have Rz_1 : w1.heap[w.heap.size + 1]? = some (Obj.cells #[.int .u64 0, .int .u64 0] 25) := heap_of b1 _ _ _ Rz_0
      clear b1 B0 Rb_0 Rz_0
      have cb_1_0 := cell7 Rb_1 0 _ rfl
      have cb_1_1 := cell7 Rb_1 1 _ rfl
      have cz_1_0 := cell7 Rz_1 0 _ rfl
      have cz_1_1 := cell7 Rz_1 1 _ rfl
      have q0 := fz (k := 0) Rz_1
      have q1 := fz (k := 1) Rz_1
      obtain ⟨E0, E1⟩ := set2_cells Rz_1 (.int .u64 0) (.int .u64 0)
      go_wp2
      exact bodyPost_ret (v := .tuple #[.agg #[.int .u64 0, .int .u64 0], .int .i64 80]) (by simp [results, Tryd.results21, go_sem, E0, E1]) rfl ⟨rfl, set2_below B1 (by first | exact Nat.le_refl _ | omega | (skip; omega)) _ _⟩
    · have f8 : ((c : Int) == 8) = false := by rw [hc2]; rfl
      have f9 : ((c : Int) == 9) = true := by rw [hc2]; rfl
      clear hc2 hc
      have Rb_0 : ((w.alloc (Obj.cells #[.int .u64 (x : Nat), .int .u64 (y : Nat)] 25)).alloc (Obj.cells #[.int .u64 0, .int .u64 0] 25)).heap[w.heap.size]? = some (Obj.cells #[.int .u64 (x : Nat), .int .u64 (y : Nat)] 25) := by rw [heap_below _ _ _ (by simp only [size_al]; omega)]; have := heap_alloc_last w (Obj.cells #[.int .u64 (x : Nat), .int .u64 (y : Nat)] 25); simpa only [size_al] using this
      have Rz_0 : ((w.alloc (Obj.cells #[.int .u64 (x : Nat), .int .u64 (y : Nat)] 25)).alloc (Obj.cells #[.int .u64 0, .int .u64 0] 25)).heap[w.heap.size + 1]? = some (Obj.cells #[.int .u64 0, .int .u64 0] 25) := by have := heap_alloc_last (w.alloc (Obj.cells #[.int .u64 (x : Nat), .int .u64 (y : Nat)] 25)) (Obj.cells #[.int .u64 0, .int .u64 0] 25); simpa only [size_al] using this
      have B0 : Below w.heap.size w ((w.alloc (Obj.cells #[.int .u64 (x : Nat), .int .u64 (y : Nat)] 25)).alloc (Obj.cells #[.int .u64 0, .int .u64 0] 25)) := (((Below.refl _ _).alloc (by first | omega | (simp only [size_al]; omega)) _).alloc (by first | omega | (simp only [size_al]; omega)) _)
      go_enter Tryd.func21, Tryd.ntmps21
      go_wp2_with fail
      refine (K1.out _).mono ?_
      rintro r w1 ⟨rfl, b1⟩
      have B1 : Below w.heap.size w w1 := btr7 B0 b1
      have Rb_1 : w1.heap[w.heap.size]? = some (Obj.cells #[.int .u64 (x : Nat), .int .u64 (y : Nat)] 25) := heap_of b1 _ _ _ Rb_0
      have Rz_1 : w1.heap[w.heap.size + 1]? = some (Obj.cells #[.int .u64 0, .int .u64 0] 25) := heap_of b1 _ _ _ Rz_0
      clear b1 B0 Rb_0 Rz_0
      have cb_1_0 := cell7 Rb_1 0 _ rfl
      have cb_1_1 := cell7 Rb_1 1 _ rfl
      have cz_1_0 := cell7 Rz_1 0 _ rfl
      have cz_1_1 := cell7 Rz_1 1 _ rfl
      have q0 := fz (k := 0) Rz_1
      have q1 := fz (k := 1) Rz_1
      obtain ⟨E0, E1⟩ := set2_cells Rz_1 (.int .u64 0) (.int .u64 0)
      go_wp2
      exact bodyPost_ret (v := .tuple #[.agg #[.int .u64 0, .int .u64 0], .int .i64 80]) (by simp [results, Tryd.results21, go_sem, E0, E1]) rfl ⟨rfl, set2_below B1 (by first | exact Nat.le_refl _ | omega | (skip; omega)) _ _⟩
    · have f8 : ((c : Int) == 8) = false := by rw [hc2]; rfl
      have f9 : ((c : Int) == 9) = false := by rw [hc2]; rfl
      have f7 : ((c : Int) == 7) = true := by rw [hc2]; rfl
      clear hc2 hc
      have Rb_0 : ((w.alloc (Obj.cells #[.int .u64 (x : Nat), .int .u64 (y : Nat)] 25)).alloc (Obj.cells #[.int .u64 0, .int .u64 0] 25)).heap[w.heap.size]? = some (Obj.cells #[.int .u64 (x : Nat), .int .u64 (y : Nat)] 25) := by rw [heap_below _ _ _ (by simp only [size_al]; omega)]; have := heap_alloc_last w (Obj.cells #[.int .u64 (x : Nat), .int .u64 (y : Nat)] 25); simpa only [size_al] using this
      have Rz_0 : ((w.alloc (Obj.cells #[.int .u64 (x : Nat), .int .u64 (y : Nat)] 25)).alloc (Obj.cells #[.int .u64 0, .int .u64 0] 25)).heap[w.heap.size + 1]? = some (Obj.cells #[.int .u64 0, .int .u64 0] 25) := by have := heap_alloc_last (w.alloc (Obj.cells #[.int .u64 (x : Nat), .int .u64 (y : Nat)] 25)) (Obj.cells #[.int .u64 0, .int .u64 0] 25); simpa only [size_al] using this
      have B0 : Below w.heap.size w ((w.alloc (Obj.cells #[.int .u64 (x : Nat), .int .u64 (y : Nat)] 25)).alloc (Obj.cells #[.int .u64 0, .int .u64 0] 25)) := (((Below.refl _ _).alloc (by first | omega | (simp only [size_al]; omega)) _).alloc (by first | omega | (simp only [size_al]; omega)) _)
      go_enter Tryd.func21, Tryd.ntmps21
      go_wp2_with fail
      refine (K1.out _).mono ?_
      rintro r w1 ⟨rfl, b1⟩
      have B1 : Below w.heap.size w w1 := btr7 B0 b1
      have Rb_1 : w1.heap[w.heap.size]? = some (Obj.cells #[.int .u64 (x : Nat), .int .u64 (y : Nat)] 25) := heap_of b1 _ _ _ Rb_0
      have Rz_1 : w1.heap[w.heap.size + 1]? = some (Obj.cells #[.int .u64 0, .int .u64 0] 25) := heap_of b1 _ _ _ Rz_0
      clear b1 B0 Rb_0 Rz_0
      have cb_1_0 := cell7 Rb_1 0 _ rfl
      have cb_1_1 := cell7 Rb_1 1 _ rfl
      have cz_1_0 := cell7 Rz_1 0 _ rfl
      have cz_1_1 := cell7 Rz_1 1 _ rfl
      have q0 := fz (k := 0) Rz_1
      have q1 := fz (k := 1) Rz_1
      obtain ⟨E0, E1⟩ := set2_cells Rz_1 (.int .u64 0) (.int .u64 0)
      go_wp2
      exact bodyPost_ret (v := .tuple #[.agg #[.int .u64 0, .int .u64 0], .int .i64 80]) (by simp [results, Tryd.results21, go_sem, E0, E1]) rfl ⟨rfl, set2_below B1 (by first | exact Nat.le_refl _ | omega | (skip; omega)) _ _⟩
  rw [if_neg c7] at hr
  have f8 : ((c : Int) == 8) = false := by simp; omega
  have f9 : ((c : Int) == 9) = false := by simp; omega
  have f7 : ((c : Int) == 7) = false := by simp; omega
  by_cases c4 : c = 3
  · rw [if_neg (by omega), if_pos c4] at hr
    injection hr with h1 h2
    subst h2
    rw [← h1] at hv
    have K2 := box (rk_least f false hf u v hv)
    have f3 : ((c : Int) == 3) = true := by rw [c4]; rfl
    clear hf hx hy hn ho hc nf cl c7 hv h1 c4
    have Rb_0 : ((w.alloc (Obj.cells #[.int .u64 (x : Nat), .int .u64 (y : Nat)] 25)).alloc (Obj.cells #[.int .u64 0, .int .u64 0] 25)).heap[w.heap.size]? = some (Obj.cells #[.int .u64 (x : Nat), .int .u64 (y : Nat)] 25) := by rw [heap_below _ _ _ (by simp only [size_al]; omega)]; have := heap_alloc_last w (Obj.cells #[.int .u64 (x : Nat), .int .u64 (y : Nat)] 25); simpa only [size_al] using this
    have Rz_0 : ((w.alloc (Obj.cells #[.int .u64 (x : Nat), .int .u64 (y : Nat)] 25)).alloc (Obj.cells #[.int .u64 0, .int .u64 0] 25)).heap[w.heap.size + 1]? = some (Obj.cells #[.int .u64 0, .int .u64 0] 25) := by have := heap_alloc_last (w.alloc (Obj.cells #[.int .u64 (x : Nat), .int .u64 (y : Nat)] 25)) (Obj.cells #[.int .u64 0, .int .u64 0] 25); simpa only [size_al] using this
    have B0 : Below w.heap.size w ((w.alloc (Obj.cells #[.int .u64 (x : Nat), .int .u64 (y : Nat)] 25)).alloc (Obj.cells #[.int .u64 0, .int .u64 0] 25)) := (((Below.refl _ _).alloc (by first | omega | (simp only [size_al]; omega)) _).alloc (by first | omega | (simp only [size_al]; omega)) _)
    go_enter Tryd.func21, Tryd.ntmps21
    go_wp2_with fail
    refine (K1.out _).mono ?_
    rintro r w1 ⟨rfl, b1⟩
    have B1 : Below w.heap.size w w1 := btr7 B0 b1
    have Rb_1 : w1.heap[w.heap.size]? = some (Obj.cells #[.int .u64 (x : Nat), .int .u64 (y : Nat)] 25) := heap_of b1 _ _ _ Rb_0
    have Rz_1 : w1.heap[w.heap.size + 1]? = some (Obj.cells #[.int .u64 0, .int .u64 0] 25) := heap_of b1 _ _ _ Rz_0
    clear b1 B0 Rb_0 Rz_0
    have cb_1_0 := cell7 Rb_1 0 _ rfl
    have cb_1_1 := cell7 Rb_1 1 _ rfl
    have cz_1_0 := cell7 Rz_1 0 _ rfl
    have cz_1_1 := cell7 Rz_1 1 _ rfl
    go_wp2_with fail
    refine (K2.out _).mono ?_
    rintro r w2 ⟨rfl, b2⟩
    have B2 : Below w.heap.size w w2 := btr7 B1 b2
    have Rb_2 : w2.heap[w.heap.size]? = some (Obj.cells #[.int .u64 (x : Nat), .int .u64 (y : Nat)] 25) := heap_of b2 _ _ _ Rb_1
    have Rz_2 : w2.heap[w.heap.size + 1]? = some (Obj.cells #[.int .u64 0, .int .u64 0] 25) := heap_of b2 _ _ _ Rz_1
    clear b2 B1 Rb_1 cb_1_0 cb_1_1 Rz_1 cz_1_0 cz_1_1
    have cb_2_0 := cell7 Rb_2 0 _ rfl
    have cb_2_1 := cell7 Rb_2 1 _ rfl
    have cz_2_0 := cell7 Rz_2 0 _ rfl
    have cz_2_1 := cell7 Rz_2 1 _ rfl
    have q0 := fz (k := 0) Rz_2
    have q1 := fz (k := 1) Rz_2
    obtain ⟨E0, E1⟩ := set2_cells Rz_2 (.int .u64 (u : Nat)) (.int .u64 (v : Nat))
    go_wp2
    exact bodyPost_ret (v := .tuple #[.agg #[.int .u64 (u : Nat), .int .u64 (v : Nat)], .int .i64 0]) (by simp [results, Tryd.results21, go_sem, E0, E1]) rfl ⟨rfl, set2_below B2 (by first | exact Nat.le_refl _ | omega | (skip; omega)) _ _⟩
  have f3 : ((c : Int) == 3) = false := by simp; omega
  have cn : kN f n = decide (c < 3) := by
    rw [← hc]
    unfold kC at hc ⊢
    by_cases q1 : kE f n = oV f
    · rw [if_pos q1] at hc ⊢
      by_cases q2 : kT f n = 0
      · rw [if_pos q2] at hc ⊢
        cases hk : kN f n
        · rw [hk] at hc; simp only [Bool.false_eq_true, if_false] at hc; omega
        · rfl
      · rw [if_neg q2] at hc ⊢
        split at hc <;> omega
    · rw [if_neg q1] at hc ⊢
      by_cases q2 : kE f n = 0
      · rw [if_neg (by simpa using q2)] at hc ⊢
        by_cases q3 : kT f n = 0
        · rw [if_neg (by simpa using q3)] at hc ⊢
          cases hk : kN f n
          · rfl
          · rw [hk] at hc; simp only [if_true] at hc; omega
        · rw [if_pos (by simpa using q3)]
          cases kN f n <;> rfl
      · rw [if_pos (by simpa using q2)]
        cases kN f n <;> rfl
  have nl := k_lt hx hy hn
  by_cases c3 : c < 3
  · rw [if_pos c3] at hr
    injection hr with h1 h2
    subst h2
    have n0 : n ≠ 0 := by
      rintro rfl
      have e1 : kC f 0 = 4 := by rcases hf with rfl | rfl | rfl | rfl <;> decide +kernel
      omega
    have K2 := box (rSign_yes f hf x y n true hx hy hn ho (by rw [cn]; exact decide_eq_true c3))
    have K3 := box (rstep_is x y n m u v false hx hy hn (by simpa using h1) (fun _ => n0) (by omega) hv)
    clear hf hx hy hn ho hc nf cl c7 c3 c4 n0 hv h1 cn nl
    have Rb_0 : ((w.alloc (Obj.cells #[.int .u64 (x : Nat), .int .u64 (y : Nat)] 25)).alloc (Obj.cells #[.int .u64 0, .int .u64 0] 25)).heap[w.heap.size]? = some (Obj.cells #[.int .u64 (x : Nat), .int .u64 (y : Nat)] 25) := by rw [heap_below _ _ _ (by simp only [size_al]; omega)]; have := heap_alloc_last w (Obj.cells #[.int .u64 (x : Nat), .int .u64 (y : Nat)] 25); simpa only [size_al] using this
    have Rz_0 : ((w.alloc (Obj.cells #[.int .u64 (x : Nat), .int .u64 (y : Nat)] 25)).alloc (Obj.cells #[.int .u64 0, .int .u64 0] 25)).heap[w.heap.size + 1]? = some (Obj.cells #[.int .u64 0, .int .u64 0] 25) := by have := heap_alloc_last (w.alloc (Obj.cells #[.int .u64 (x : Nat), .int .u64 (y : Nat)] 25)) (Obj.cells #[.int .u64 0, .int .u64 0] 25); simpa only [size_al] using this
    have B0 : Below w.heap.size w ((w.alloc (Obj.cells #[.int .u64 (x : Nat), .int .u64 (y : Nat)] 25)).alloc (Obj.cells #[.int .u64 0, .int .u64 0] 25)) := (((Below.refl _ _).alloc (by first | omega | (simp only [size_al]; omega)) _).alloc (by first | omega | (simp only [size_al]; omega)) _)
    go_enter Tryd.func21, Tryd.ntmps21
    go_wp2_with fail
    refine (K1.out _).mono ?_
    rintro r w1 ⟨rfl, b1⟩
    have B1 : Below w.heap.size w w1 := btr7 B0 b1
    have Rb_1 : w1.heap[w.heap.size]? = some (Obj.cells #[.int .u64 (x : Nat), .int .u64 (y : Nat)] 25) := heap_of b1 _ _ _ Rb_0
    have Rz_1 : w1.heap[w.heap.size + 1]? = some (Obj.cells #[.int .u64 0, .int .u64 0] 25) := heap_of b1 _ _ _ Rz_0
    clear b1 B0 Rb_0 Rz_0
    have cb_1_0 := cell7 Rb_1 0 _ rfl
    have cb_1_1 := cell7 Rb_1 1 _ rfl
    have cz_1_0 := cell7 Rz_1 0 _ rfl
    have cz_1_1 := cell7 Rz_1 1 _ rfl
    have sS : Box (∀ W W1 : World, (Below w.heap.size w W ∧ W.heap[w.heap.size]? = some (Obj.cells #[.int .u64 (x : Nat), .int .u64 (y : Nat)] 25) ∧ W.cell? ⟨w.heap.size, 0, none⟩ = some (.int .u64 (x : Nat)) ∧ W.cell? ⟨w.heap.size, 1, none⟩ = some (.int .u64 (y : Nat))) → Below W.heap.size W W1 → (Below w.heap.size w W1 ∧ W1.heap[w.heap.size]? = some (Obj.cells #[.int .u64 (x : Nat), .int .u64 (y : Nat)] 25) ∧ W1.cell? ⟨w.heap.size, 0, none⟩ = some (.int .u64 (x : Nat)) ∧ W1.cell? ⟨w.heap.size, 1, none⟩ = some (.int .u64 (y : Nat)))) := box (fun W W1 h b => ⟨btr7 h.1 b, heap_of b _ _ _ h.2.1, cell7 (heap_of b _ _ _ h.2.1) 0 _ rfl, cell7 (heap_of b _ _ _ h.2.1) 1 _ rfl⟩)
    have sT : Box (∀ (W : World) (xA xB : Value), (Below w.heap.size w W ∧ W.heap[w.heap.size]? = some (Obj.cells #[.int .u64 (x : Nat), .int .u64 (y : Nat)] 25) ∧ W.cell? ⟨w.heap.size, 0, none⟩ = some (.int .u64 (x : Nat)) ∧ W.cell? ⟨w.heap.size, 1, none⟩ = some (.int .u64 (y : Nat))) → (Below w.heap.size w ((W.setCell ⟨w.heap.size + 1, 0, none⟩ xA).setCell ⟨w.heap.size + 1, 1, none⟩ xB) ∧ ((W.setCell ⟨w.heap.size + 1, 0, none⟩ xA).setCell ⟨w.heap.size + 1, 1, none⟩ xB).heap[w.heap.size]? = some (Obj.cells #[.int .u64 (x : Nat), .int .u64 (y : Nat)] 25) ∧ ((W.setCell ⟨w.heap.size + 1, 0, none⟩ xA).setCell ⟨w.heap.size + 1, 1, none⟩ xB).cell? ⟨w.heap.size, 0, none⟩ = some (.int .u64 (x : Nat)) ∧ ((W.setCell ⟨w.heap.size + 1, 0, none⟩ xA).setCell ⟨w.heap.size + 1, 1, none⟩ xB).cell? ⟨w.heap.size, 1, none⟩ = some (.int .u64 (y : Nat)))) := box (fun W xA xB h => ⟨set2_below h.1 (by first | exact Nat.le_refl _ | omega | (skip; omega)) xA xB, (setCell_other (by first | omega | (skip; omega))).trans ((setCell_other (by first | omega | (skip; omega))).trans h.2.1), cell7 ((setCell_other (by first | omega | (skip; omega))).trans ((setCell_other (by first | omega | (skip; omega))).trans h.2.1)) 0 _ rfl, cell7 ((setCell_other (by first | omega | (skip; omega))).trans ((setCell_other (by first | omega | (skip; omega))).trans h.2.1)) 1 _ rfl⟩)
    have s0 : Below w.heap.size w (w1).drew ∧ (w1).drew.heap[w.heap.size]? = some (Obj.cells #[.int .u64 (x : Nat), .int .u64 (y : Nat)] 25) ∧ (w1).drew.cell? ⟨w.heap.size, 0, none⟩ = some (.int .u64 (x : Nat)) ∧ (w1).drew.cell? ⟨w.heap.size, 1, none⟩ = some (.int .u64 (y : Nat)) := ⟨B1.drew, Rb_1, cell7 (Rb_1) 0 _ rfl, cell7 (Rb_1) 1 _ rfl⟩
    have rz : (w1).drew.heap[w.heap.size + 1]? = some (Obj.cells #[.int .u64 0, .int .u64 0] 25) := Rz_1
    have hq0 := fz (k := 0) rz
    have hq1 := fz (k := 1) rz
    have hc0 := cell7 rz 0 _ rfl
    have hc1 := cell7 rz 1 _ rfl
    go_wp2_with fail
    go_region_held3 (fun W => Below w.heap.size w W ∧ W.heap[w.heap.size]? = some (Obj.cells #[.int .u64 (x : Nat), .int .u64 (y : Nat)] 25) ∧ W.cell? ⟨w.heap.size, 0, none⟩ = some (.int .u64 (x : Nat)) ∧ W.cell? ⟨w.heap.size, 1, none⟩ = some (.int .u64 (y : Nat))) (first | exact s1 | exact s0 | exact sT.out _ _ _ s1 | exact sT.out _ _ _ s0)
      (first | (go_at_call 15; (first | refine (K2.out _).mono ?_ | refine (K2.out _).mono ?_); rintro r wq ⟨rfl, bq⟩; have s1 := (by first | exact sS.out _ _ s1 bq | exact sS.out _ _ s0 bq); have rz := heap_of bq _ _ _ rz; have hq0 := fz (k := 0) rz; have hq1 := fz (k := 1) rz; have hc0 := cell7 rz 0 _ rfl; have hc1 := cell7 rz 1 _ rfl; clear bq) | (go_at_call 53; (first | refine (K3.out _).mono ?_ | refine (K3.out _).mono ?_); rintro r wq ⟨rfl, bq⟩; have s1 := (by first | exact sS.out _ _ s1 bq | exact sS.out _ _ s0 bq); have rz := heap_of bq _ _ _ rz; have hq0 := fz (k := 0) rz; have hq1 := fz (k := 1) rz; have hc0 := cell7 rz 0 _ rfl; have hc1 := cell7 rz 1 _ rfl; clear bq) | fail)
    obtain ⟨E0, E1⟩ := set2_cells rz (.int .u64 (u : Nat)) (.int .u64 (v : Nat))
    have BZ := (by first | exact And.left s1 | exact And.left s0 : Below w.heap.size w _)
    go_wp2
    exact bodyPost_ret (v := .tuple #[.agg #[.int .u64 (u : Nat), .int .u64 (v : Nat)], .int .i64 0]) (by simp [results, Tryd.results21, go_sem, E0, E1]) rfl ⟨rfl, set2_below BZ (by first | exact Nat.le_refl _ | omega | (skip; omega)) _ _⟩
  · rw [if_neg c3, if_neg c4] at hr
    injection hr with h1 h2
    subst h2
    have n1 : n + 1 < 340282366920938463463374607431768211456 := by
      have h2 : kC f 340282366920938463463374607431768211455 = 9 := by rcases hf with rfl | rfl | rfl | rfl <;> decide +kernel
      by_cases e : n = 340282366920938463463374607431768211455
      · rw [e, h2] at hc; omega
      · omega
    have K2 := box (rSign_yes f hf x y n false hx hy hn ho (by rw [cn]; exact decide_eq_false c3))
    have K3 := box (rstep_is x y n m u v true hx hy hn (by simpa using h1) (fun h => by cases h) (by omega) hv)
    clear hf hx hy hn ho hc nf cl c7 c3 c4 n1 hv h1 cn nl
    have Rb_0 : ((w.alloc (Obj.cells #[.int .u64 (x : Nat), .int .u64 (y : Nat)] 25)).alloc (Obj.cells #[.int .u64 0, .int .u64 0] 25)).heap[w.heap.size]? = some (Obj.cells #[.int .u64 (x : Nat), .int .u64 (y : Nat)] 25) := by rw [heap_below _ _ _ (by simp only [size_al]; omega)]; have := heap_alloc_last w (Obj.cells #[.int .u64 (x : Nat), .int .u64 (y : Nat)] 25); simpa only [size_al] using this
    have Rz_0 : ((w.alloc (Obj.cells #[.int .u64 (x : Nat), .int .u64 (y : Nat)] 25)).alloc (Obj.cells #[.int .u64 0, .int .u64 0] 25)).heap[w.heap.size + 1]? = some (Obj.cells #[.int .u64 0, .int .u64 0] 25) := by have := heap_alloc_last (w.alloc (Obj.cells #[.int .u64 (x : Nat), .int .u64 (y : Nat)] 25)) (Obj.cells #[.int .u64 0, .int .u64 0] 25); simpa only [size_al] using this
    have B0 : Below w.heap.size w ((w.alloc (Obj.cells #[.int .u64 (x : Nat), .int .u64 (y : Nat)] 25)).alloc (Obj.cells #[.int .u64 0, .int .u64 0] 25)) := (((Below.refl _ _).alloc (by first | omega | (simp only [size_al]; omega)) _).alloc (by first | omega | (simp only [size_al]; omega)) _)
    go_enter Tryd.func21, Tryd.ntmps21
    go_wp2_with fail
    refine (K1.out _).mono ?_
    rintro r w1 ⟨rfl, b1⟩
    have B1 : Below w.heap.size w w1 := btr7 B0 b1
    have Rb_1 : w1.heap[w.heap.size]? = some (Obj.cells #[.int .u64 (x : Nat), .int .u64 (y : Nat)] 25) := heap_of b1 _ _ _ Rb_0
    have Rz_1 : w1.heap[w.heap.size + 1]? = some (Obj.cells #[.int .u64 0, .int .u64 0] 25) := heap_of b1 _ _ _ Rz_0
    clear b1 B0 Rb_0 Rz_0
    have cb_1_0 := cell7 Rb_1 0 _ rfl
    have cb_1_1 := cell7 Rb_1 1 _ rfl
    have cz_1_0 := cell7 Rz_1 0 _ rfl
    have cz_1_1 := cell7 Rz_1 1 _ rfl
    have sS : Box (∀ W W1 : World, (Below w.heap.size w W ∧ W.heap[w.heap.size]? = some (Obj.cells #[.int .u64 (x : Nat), .int .u64 (y : Nat)] 25) ∧ W.cell? ⟨w.heap.size, 0, none⟩ = some (.int .u64 (x : Nat)) ∧ W.cell? ⟨w.heap.size, 1, none⟩ = some (.int .u64 (y : Nat))) → Below W.heap.size W W1 → (Below w.heap.size w W1 ∧ W1.heap[w.heap.size]? = some (Obj.cells #[.int .u64 (x : Nat), .int .u64 (y : Nat)] 25) ∧ W1.cell? ⟨w.heap.size, 0, none⟩ = some (.int .u64 (x : Nat)) ∧ W1.cell? ⟨w.heap.size, 1, none⟩ = some (.int .u64 (y : Nat)))) := box (fun W W1 h b => ⟨btr7 h.1 b, heap_of b _ _ _ h.2.1, cell7 (heap_of b _ _ _ h.2.1) 0 _ rfl, cell7 (heap_of b _ _ _ h.2.1) 1 _ rfl⟩)
    have sT : Box (∀ (W : World) (xA xB : Value), (Below w.heap.size w W ∧ W.heap[w.heap.size]? = some (Obj.cells #[.int .u64 (x : Nat), .int .u64 (y : Nat)] 25) ∧ W.cell? ⟨w.heap.size, 0, none⟩ = some (.int .u64 (x : Nat)) ∧ W.cell? ⟨w.heap.size, 1, none⟩ = some (.int .u64 (y : Nat))) → (Below w.heap.size w ((W.setCell ⟨w.heap.size + 1, 0, none⟩ xA).setCell ⟨w.heap.size + 1, 1, none⟩ xB) ∧ ((W.setCell ⟨w.heap.size + 1, 0, none⟩ xA).setCell ⟨w.heap.size + 1, 1, none⟩ xB).heap[w.heap.size]? = some (Obj.cells #[.int .u64 (x : Nat), .int .u64 (y : Nat)] 25) ∧ ((W.setCell ⟨w.heap.size + 1, 0, none⟩ xA).setCell ⟨w.heap.size + 1, 1, none⟩ xB).cell? ⟨w.heap.size, 0, none⟩ = some (.int .u64 (x : Nat)) ∧ ((W.setCell ⟨w.heap.size + 1, 0, none⟩ xA).setCell ⟨w.heap.size + 1, 1, none⟩ xB).cell? ⟨w.heap.size, 1, none⟩ = some (.int .u64 (y : Nat)))) := box (fun W xA xB h => ⟨set2_below h.1 (by first | exact Nat.le_refl _ | omega | (skip; omega)) xA xB, (setCell_other (by first | omega | (skip; omega))).trans ((setCell_other (by first | omega | (skip; omega))).trans h.2.1), cell7 ((setCell_other (by first | omega | (skip; omega))).trans ((setCell_other (by first | omega | (skip; omega))).trans h.2.1)) 0 _ rfl, cell7 ((setCell_other (by first | omega | (skip; omega))).trans ((setCell_other (by first | omega | (skip; omega))).trans h.2.1)) 1 _ rfl⟩)
    have s0 : Below w.heap.size w (w1).drew ∧ (w1).drew.heap[w.heap.size]? = some (Obj.cells #[.int .u64 (x : Nat), .int .u64 (y : Nat)] 25) ∧ (w1).drew.cell? ⟨w.heap.size, 0, none⟩ = some (.int .u64 (x : Nat)) ∧ (w1).drew.cell? ⟨w.heap.size, 1, none⟩ = some (.int .u64 (y : Nat)) := ⟨B1.drew, Rb_1, cell7 (Rb_1) 0 _ rfl, cell7 (Rb_1) 1 _ rfl⟩
    have rz : (w1).drew.heap[w.heap.size + 1]? = some (Obj.cells #[.int .u64 0, .int .u64 0] 25) := Rz_1
    have hq0 := fz (k := 0) rz
    have hq1 := fz (k := 1) rz
    have hc0 := cell7 rz 0 _ rfl
    have hc1 := cell7 rz 1 _ rfl
    go_wp2_with fail
    go_region_held3 (fun W => Below w.heap.size w W ∧ W.heap[w.heap.size]? = some (Obj.cells #[.int .u64 (x : Nat), .int .u64 (y : Nat)] 25) ∧ W.cell? ⟨w.heap.size, 0, none⟩ = some (.int .u64 (x : Nat)) ∧ W.cell? ⟨w.heap.size, 1, none⟩ = some (.int .u64 (y : Nat))) (first | exact s1 | exact s0 | exact sT.out _ _ _ s1 | exact sT.out _ _ _ s0)
      (first | (go_at_call 15; (first | refine (K2.out _).mono ?_ | refine (K2.out _).mono ?_); rintro r wq ⟨rfl, bq⟩; have s1 := (by first | exact sS.out _ _ s1 bq | exact sS.out _ _ s0 bq); have rz := heap_of bq _ _ _ rz; have hq0 := fz (k := 0) rz; have hq1 := fz (k := 1) rz; have hc0 := cell7 rz 0 _ rfl; have hc1 := cell7 rz 1 _ rfl; clear bq) | (go_at_call 53; (first | refine (K3.out _).mono ?_ | refine (K3.out _).mono ?_); rintro r wq ⟨rfl, bq⟩; have s1 := (by first | exact sS.out _ _ s1 bq | exact sS.out _ _ s0 bq); have rz := heap_of bq _ _ _ rz; have hq0 := fz (k := 0) rz; have hq1 := fz (k := 1) rz; have hc0 := cell7 rz 0 _ rfl; have hc1 := cell7 rz 1 _ rfl; clear bq) | fail)
    obtain ⟨E0, E1⟩ := set2_cells rz (.int .u64 (u : Nat)) (.int .u64 (v : Nat))
    have BZ := (by first | exact And.left s1 | exact And.left s0 : Below w.heap.size w _)
    go_wp2
    exact bodyPost_ret (v := .tuple #[.agg #[.int .u64 (u : Nat), .int .u64 (v : Nat)], .int .i64 0]) (by simp [results, Tryd.results21, go_sem, E0, E1]) rfl ⟨rfl, set2_below BZ (by first | exact Nat.le_refl _ | omega | (skip; omega)) _ _⟩

set_option maxRecDepth 100000 in
set_option maxHeartbeats 1000000 in
theorem kalive (w : World) (hT : FAt w) : Calls Tryd.prog 12 #[] w fun r w' => r = .returned (.bool true) ∧ Below w.heap.size w w' := by
  have hf2 : Is4 2 := Or.inr (Or.inr (Or.inl rfl))
  have K1 : Box (∀ w, FAt w → Calls Tryd.prog 5 #[.int .u8 2, .agg #[.int .u64 0, .int .u64 32768]] w fun r w' => r = .returned (.tuple #[.int .u8 3, .int .i64 0]) ∧ Below w.heap.size w w') := box (fun w hT => kClass_yes 2 hf2 0 32768 32768 3 (by decide) (by decide) (by decide) (by decide +kernel) (by decide +kernel) w hT)
  have K2 : Box (∀ w, FAt w → Calls Tryd.prog 6 #[.int .u8 2, .agg #[.int .u64 0, .int .u64 15360]] w fun r w' => r = .returned (.tuple #[.agg (pt 6 1024 (-10) 0), .int .i64 0]) ∧ Below w.heap.size w w') := box (fun w hT => kUnpack_yes 2 hf2 0 15360 15360 6 1024 0 (-10) (by decide) (by decide) (by decide) (by decide +kernel) (by decide +kernel) w hT)
  have K3 : Box (∀ w, FAt w → Calls Tryd.prog 5 #[.int .u8 4, .agg #[.int .u64 0, .int .u64 0]] w fun r w' => r = .returned (.tuple #[.int .u8 0, .int .i64 2]) ∧ Below w.heap.size w w') := box (fun w hT => kClass_no 4 (by decide) (by decide) 0 0 0 (by decide) (by decide) (by decide) (by decide +kernel) w hT)
  have hat := cw_at 6
  have hz := cw6z
  have hff := cw6f
  have hs0 := st0
  have hcs : ∀ x, ((cw 6 x).size = 6) = True := fun x => eq_true (cw_size 6 x)
  have heq := eq6
  have hg := eqg6
  have h1024 : (1024 : Nat) < Q := lt_Q7 (by decide)
  have hset : (cw 6 0).setIfInBounds 0 (.int .u64 1024) = cw 6 1024 := set0 1024 (by decide)
  have hp1 := ptf
  have hp3 := ptz
  have hp4 := st_p0
  have hp5 : ∀ (c s : Nat) (x : Int) (r : Nat), ((pt c s x r).size = 14) = True := fun _ _ _ _ => eq_true rfl
  have ha1 := pt_at1
  have ha2 := pt_at2
  have ha3 := pt_at3
  have ha4 := pt_at4
  have ha5 := pt_at5
  have ha6 := pt_at6
  have ha7 := pt_at7
  have TT := box hT
  clear hT hf2
  have B0 : Below w.heap.size w w := (Below.refl _ _)
  go_enter Tryd.func12, Tryd.ntmps12
  go_wp2_with fail
  refine (K1.out _ (fatB TT.out B0)).mono ?_
  rintro r w1 ⟨rfl, b1⟩
  have B1 : Below w.heap.size w w1 := btr7 B0 b1
  clear b1 B0 
  go_wp2_with fail
  refine (K2.out _ (fatB TT.out B1)).mono ?_
  rintro r w2 ⟨rfl, b2⟩
  have B2 : Below w.heap.size w w2 := btr7 B1 b2
  clear b2 B1 
  have S3 := box B2.size
  have B3 : Below w.heap.size w (w2.alloc (Obj.cells (pt 6 1024 (-10) 0) 30)) := btr7 B2 (bal7 _ _)
  have Rp_3 : (w2.alloc (Obj.cells (pt 6 1024 (-10) 0) 30)).heap[w2.heap.size]? = some (Obj.cells (pt 6 1024 (-10) 0) 30) := heap_alloc_last _ _
  clear B2 
  have cp_3_0 := cell7 Rp_3 0 _ rfl
  have cp_3_1 := cell7 Rp_3 1 _ rfl
  have cp_3_2 := cell7 Rp_3 2 _ rfl
  have cp_3_3 := cell7 Rp_3 3 _ rfl
  have cp_3_4 := cell7 Rp_3 4 _ rfl
  have cp_3_5 := cell7 Rp_3 5 _ rfl
  have cp_3_6 := cell7 Rp_3 6 _ rfl
  have cp_3_7 := cell7 Rp_3 7 _ rfl
  have cp_3_8 := cell7 Rp_3 8 _ rfl
  have cp_3_9 := cell7 Rp_3 9 _ rfl
  have cp_3_10 := cell7 Rp_3 10 _ rfl
  have cp_3_11 := cell7 Rp_3 11 _ rfl
  have cp_3_12 := cell7 Rp_3 12 _ rfl
  have cp_3_13 := cell7 Rp_3 13 _ rfl
  go_wp2_with fail
  refine (K3.out _ (fatB TT.out B3)).mono ?_
  rintro r w4 ⟨rfl, b4⟩
  have B4 : Below w.heap.size w w4 := btr7 B3 b4
  have Rp_4 : w4.heap[w2.heap.size]? = some (Obj.cells (pt 6 1024 (-10) 0) 30) := heap_of b4 _ _ _ Rp_3
  clear b4 B3 Rp_3 cp_3_0 cp_3_1 cp_3_2 cp_3_3 cp_3_4 cp_3_5 cp_3_6 cp_3_7 cp_3_8 cp_3_9 cp_3_10 cp_3_11 cp_3_12 cp_3_13
  have cp_4_0 := cell7 Rp_4 0 _ rfl
  have cp_4_1 := cell7 Rp_4 1 _ rfl
  have cp_4_2 := cell7 Rp_4 2 _ rfl
  have cp_4_3 := cell7 Rp_4 3 _ rfl
  have cp_4_4 := cell7 Rp_4 4 _ rfl
  have cp_4_5 := cell7 Rp_4 5 _ rfl
  have cp_4_6 := cell7 Rp_4 6 _ rfl
  have cp_4_7 := cell7 Rp_4 7 _ rfl
  have cp_4_8 := cell7 Rp_4 8 _ rfl
  have cp_4_9 := cell7 Rp_4 9 _ rfl
  have cp_4_10 := cell7 Rp_4 10 _ rfl
  have cp_4_11 := cell7 Rp_4 11 _ rfl
  have cp_4_12 := cell7 Rp_4 12 _ rfl
  have cp_4_13 := cell7 Rp_4 13 _ rfl
  go_wp2
  go_ret
  exact ⟨rfl, B4⟩

theorem kfits_law (f : Int) (x y n : Nat) (o : Bool) (h0 : 0 ≤ f) (hx : x < 18446744073709551616) (hy : y < 18446744073709551616) (hn : y + 18446744073709551616 * x = n) (ho : okB f n = o) (w : World) : Calls Tryd.prog 7 #[.int .u8 f, .agg #[.int .u64 (x : Nat), .int .u64 (y : Nat)]] w fun r w' => r = .returned (.bool o) ∧ Below w.heap.size w w' := by
  have K1 := box (rk_fits f x y n o h0 hx hy hn ho)
  clear hx hy hn ho
  have Rb_0 : (w.alloc (Obj.cells #[.int .u64 (x : Nat), .int .u64 (y : Nat)] 25)).heap[w.heap.size]? = some (Obj.cells #[.int .u64 (x : Nat), .int .u64 (y : Nat)] 25) := by have := heap_alloc_last w (Obj.cells #[.int .u64 (x : Nat), .int .u64 (y : Nat)] 25); simpa only [size_al] using this
  have B0 : Below w.heap.size w (w.alloc (Obj.cells #[.int .u64 (x : Nat), .int .u64 (y : Nat)] 25)) := ((Below.refl _ _).alloc (by first | omega | (simp only [size_al]; omega)) _)
  go_enter Tryd.func7, Tryd.ntmps7
  go_wp2_with fail
  refine (K1.out _).mono ?_
  rintro r w1 ⟨rfl, b1⟩
  have B1 : Below w.heap.size w w1 := btr7 B0 b1
  have Rb_1 : w1.heap[w.heap.size]? = some (Obj.cells #[.int .u64 (x : Nat), .int .u64 (y : Nat)] 25) := heap_of b1 _ _ _ Rb_0
  clear b1 B0 Rb_0
  have cb_1_0 := cell7 Rb_1 0 _ rfl
  have cb_1_1 := cell7 Rb_1 1 _ rfl
  go_wp2
  go_ret
  exact ⟨rfl, B1⟩
theorem kQuiet_is (f : Int) (hf : Is4 f) (x y n u v : Nat) (hx : x < 18446744073709551616) (hy : y < 18446744073709551616) (hn : y + 18446744073709551616 * x = n) (ho : okB f n = true) (hv : bv7 (qt f n) = (u, v)) (w : World) (hT : FAt w) : Calls Tryd.prog 18 #[.int .u8 f, .agg #[.int .u64 (x : Nat), .int .u64 (y : Nat)]] w fun r w' => r = .returned (.agg #[.int .u64 (u : Nat), .int .u64 (v : Nat)]) ∧ Below w.heap.size w w' := by
  have nf := (okB_yes (is4_ok hf).1 ho).2
  by_cases h : kC f n = 8
  · have e1 := (qt_is hf nf (by omega)).1
    unfold qt at hv e1
    rw [if_pos h] at hv e1
    have fit2 : Fit f (n + 2 ^ (pV f - 1)) := by
      rw [← e1]
      exact (enc_k hf _ (kE_le n) (qt_is hf nf (by omega)).2).1
    have g7 := (fm hf).2.2.2.2.2.2
    unfold Fit at fit2
    exact kQuiet_set f hf x y n u v hx hy hn ho h (by rw [Nat.mod_eq_of_lt (by omega)]; exact hv) w hT
  · unfold qt at hv
    rw [if_neg h] at hv
    obtain ⟨n1, n2⟩ := words_of hy hn
    unfold bv7 at hv
    rw [n1, n2] at hv
    injection hv with h1 h2
    subst h1 h2
    exact kQuiet_same f hf x y n _ hx hy hn ho rfl h w hT
theorem rQuiet_is (f : Int) (hf : Is4 f) (x y n u v : Nat) (hx : x < 18446744073709551616) (hy : y < 18446744073709551616) (hn : y + 18446744073709551616 * x = n) (ho : okB f n = true) (hv : bv7 (qt f n) = (u, v)) (w : World) : Calls Tryd.prog 19 #[.int .u8 f, .agg #[.int .u64 (x : Nat), .int .u64 (y : Nat)]] w fun r w' => r = .returned (.agg #[.int .u64 (u : Nat), .int .u64 (v : Nat)]) ∧ Below w.heap.size w w' := by
  by_cases h : 8 ≤ kC f n
  · exact rQuiet_set f hf x y n u v hx hy hn ho h hv w
  · unfold qt at hv
    rw [if_neg (by omega)] at hv
    obtain ⟨n1, n2⟩ := words_of hy hn
    unfold bv7 at hv
    rw [n1, n2] at hv
    injection hv with h1 h2
    subst h1 h2
    exact rQuiet_same f hf x y n _ hx hy hn ho rfl (by omega) w
end Go.Proofs.YtbjknklgkhhebaaDoor
