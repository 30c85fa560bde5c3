/-
  What the functions Left and Right of package wide return.
-/
import Derived.Test.YtkmlbjlaahcahaaDoorWide3
import Derived.Test.YtkmlbjlaahcahaaDoorGx
namespace Go.Proofs.YtkmlbjlaahcahaaDoor
open Go.RowKit WMath

theorem left_lost (n c x : Nat) (hx : x = n * 2 ^ c % Q) : (!decide (x / 2 ^ c = n)) = decide (Q ≤ n * 2 ^ c) := by
  by_cases h : n * 2 ^ c < Q
  · rw [hx, Nat.mod_eq_of_lt h, Nat.mul_div_cancel _ (Nat.two_pow_pos c), decide_eq_false (show ¬ Q ≤ n * 2 ^ c by omega)]
    simp
  · have h1 : x < Q := by rw [hx]; exact Nat.mod_lt _ Q_pos
    have h2 : x / 2 ^ c ≠ n := by
      intro e
      have := Nat.div_mul_le_self x (2 ^ c)
      rw [e] at this
      omega
    rw [decide_eq_true (show Q ≤ n * 2 ^ c by omega), decide_eq_false h2]
    rfl
theorem right_lost (n c : Nat) (hn : n < Q) : (!decide (n / 2 ^ c * 2 ^ c % Q = n)) = decide (n % 2 ^ c ≠ 0) := by
  have h1 := Nat.div_add_mod' n (2 ^ c)
  rw [Nat.mod_eq_of_lt (by omega)]
  by_cases h : n % 2 ^ c = 0
  · rw [decide_eq_true (show n / 2 ^ c * 2 ^ c = n by omega), decide_eq_false (by omega)]; rfl
  · rw [decide_eq_false (show ¬ n / 2 ^ c * 2 ^ c = n by omega), decide_eq_true h]; rfl

theorem wleft_any (n : Nat) (s : Int) (hn : n < Q) (w : World) :
    Calls Tryd.prog 45 #[W n, .int .i64 s] w fun e w' => e = .returned (.tuple #[W (n * 2 ^ cnt6 s % Q), .bool (decide (Q ≤ n * 2 ^ cnt6 s))]) ∧ Below w.heap.size w w' := by
  have hs6 : cnt6 s ≤ 384 := by unfold cnt6; omega
  obtain ⟨x, hx⟩ : ∃ x, x = n * 2 ^ cnt6 s % Q := ⟨_, rfl⟩
  have hxQ : x < Q := by rw [hx]; exact Nat.mod_lt _ Q_pos
  unfold W
  have hat := cw_at 6
  have hz := cw6z
  have hf := cw6f
  have hW : ∀ x, W x = .agg (cw 6 x) := fun _ => rfl
  have heq := eq6
  have hg := eqg6
  have hdQ : x / 2 ^ cnt6 s < Q := Nat.lt_of_le_of_lt (Nat.div_le_self _ _) hxQ
  rw [← hx]
  have HX := box hx
  clear hx
  go_enter Tryd.func45, Tryd.ntmps45
  go_wp2_with (first | (go_at_call 66; refine (wcount_any _ _).mono ?_; rintro e w' ⟨rfl, rfl⟩))
  refine (wup_any n (cnt6 s) hn hs6 _).mono ?_
  rintro e w1 ⟨rfl, hb1⟩
  rw [← HX.out]
  unfold W
  have hr0 : w1.heap[w.heap.size]? = some (.cells (cw 6 n) 28) := heap_of hb1 _ _ _ (by rw [heap_below _ _ _ (by simp)]; exact heap_alloc_last w _)
  have hr1 : w1.heap[w.heap.size + 1]? = some (.cells (cw 6 0) 28) := heap_of hb1 _ _ _ (by rw [← size_al]; exact heap_alloc_last _ _)
  obtain ⟨w2, hw2⟩ : ∃ w2, w2 = w1.setRow (w.heap.size + 1) (cw 6 x) := ⟨_, rfl⟩
  have hst : (storeCells ⟨w.heap.size + 1, 0, none⟩ (cw 6 x).toList 0).run Tryd.prog w1 = .ok () w2 := by rw [hw2]; exact st_any w1 _ x 0 hr1
  have hq0 : w2.heap[w.heap.size]? = some (.cells (cw 6 n) 28) := by rw [hw2, setRow_other (by omega)]; exact hr0
  have hq1 : w2.heap[w.heap.size + 1]? = some (.cells (cw 6 x) 28) := by rw [hw2]; exact setRow_row hr1
  have hbw : Below w.heap.size w w2 := by
    rw [hw2]
    exact Below.setRow ((((Below.refl _ _).alloc (Nat.le_refl _) _).alloc (by simp) _).trans (hb1.mono (by simp <;> omega))) (by omega)
  have hs2 : w.heap.size + 1 < w2.heap.size := (Array.getElem?_eq_some_iff.1 hq1).1
  clear hb1 hr0 hr1 hw2
  obtain ⟨F, hF1, hF2⟩ := below_fun w2
  have hFn : ∀ u o, o < 6 → (F u).cell? ⟨w.heap.size, o, none⟩ = some (.int .u64 (wd n o : Nat)) := fun u => row_cell (heap_of (hF1 u) _ _ _ hq0)
  have hFx : ∀ u o, o < 6 → (F u).cell? ⟨w.heap.size + 1, o, none⟩ = some (.int .u64 (wd x o : Nat)) := fun u => row_cell (heap_of (hF1 u) _ _ _ hq1)
  have hFs : ∀ u, (storeCells ⟨w.heap.size + 1, 0, none⟩ (cw 6 x).toList 0).run Tryd.prog (F u) = .ok () (F u) := fun u => st_same _ _ _ (heap_of (hF1 u) _ _ _ hq1)
  go_wp2
  refine wp_region_below F hF2 (by kernel_rfl) (by kernel_rfl) ?_
  repeat quiet_step ((go_at_call 68; exact quietF hF1 hF2 (wdown_any x (cnt6 s) hxQ hs6 _)))
  refine wpQuiet_nil ?_
  rintro _ ⟨u, rfl⟩
  go_wp2
  exact bodyPost_ret (v := .tuple #[.agg (cw 6 x), .bool (!decide (x / 2 ^ cnt6 s = n))]) (by simp [results, Tryd.results45, go_sem, hFx, hf]) rfl ⟨by rw [left_lost n _ x HX.out], hbw.trans ((hF1 u).mono (by omega))⟩
theorem wleft_is (n v : Nat) (s : Int) (o : Bool) (hn : n < Q) (hv : n * 2 ^ cnt6 s % Q = v) (ho : decide (Q ≤ n * 2 ^ cnt6 s) = o) (w : World) :
    Calls Tryd.prog 45 #[.agg (cw 6 n), .int .i64 s] w fun e w' => e = .returned (.tuple #[.agg (cw 6 v), .bool o]) ∧ Below w.heap.size w w' := by
  subst hv; subst ho; exact wleft_any n s hn w
end Go.Proofs.YtkmlbjlaahcahaaDoor
