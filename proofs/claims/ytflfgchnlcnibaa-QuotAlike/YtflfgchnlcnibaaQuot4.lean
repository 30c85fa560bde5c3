/-
  What Digits of package quot returns.
-/
import Derived.Test.YtflfgchnlcnibaaQuot2
namespace Go.Proofs.Ytflfgchnlcnibaa
open Go.RowKit WMath

theorem rows_two2 {w w1 : World} {a b : Nat} (hb : Below (((w.alloc (.cells (cw 6 a) 24)).alloc (.cells (cw 6 b) 24)).alloc (.cells (cw 6 0) 24)).heap.size (((w.alloc (.cells (cw 6 a) 24)).alloc (.cells (cw 6 b) 24)).alloc (.cells (cw 6 0) 24)) w1) :
    RowsL w w1 [a, b, 0] := rowsL_below (rowsL_new (rowsL_new (rowsL_new (rowsL_nil w) rfl a) (by simp) b) (by simp) 0) hb

set_option maxRecDepth 100000 in
theorem qdigits_bad (a b : Nat) (n : Int) (hb : b < Q) (h : b = 0 ∨ n < 0 ∨ 384 < n) (w : World) :
    Calls Try.prog 14 #[.agg (cw 6 a), .agg (cw 6 b), .int .i64 n] w fun e w' => e = .returned (.tuple #[.agg (cw 6 0), .bool false, .int .i64 2]) ∧ Below w.heap.size w w' := by
  have hat := cw_at 6
  have hz := cw6z
  have hf := cw6f
  have hcs : ∀ x, ((cw 6 x).size = 6) = True := fun x => eq_true (cw_size 6 x)
  obtain ⟨o, ho⟩ : ∃ o, decide (b = 0) = o := ⟨_, rfl⟩
  have HO := box ho
  have hh : o = true ∨ (o = false ∧ decide (n < 0) = true) ∨ (o = false ∧ decide (n < 0) = false ∧ decide (384 < n) = true) := by
    rw [← ho]
    simp only [decide_eq_true_eq, decide_eq_false_iff_not]
    omega
  clear ho h
  rcases hh with rfl | ⟨rfl, h1⟩ | ⟨rfl, h1, h2⟩
  all_goals
    go_enter Try.func14, Try.ntmps14
    go_wp2_with fail
    refine (qzero_is b _ hb HO.out _).mono ?_
    rintro e w1 ⟨rfl, hb1⟩
    have R := rows_two2 hb1
    clear hb1
    have hs := st_same w1 (w.heap.size + 1 + 1) 0 (rows2 R)
    have c2 := row_cell (rows2 R)
    go_wp2
    exact bodyPost_ret (v := .tuple #[.agg (cw 6 0), .bool false, .int .i64 2]) (by simp [results, Try.results14, go_sem, c2, hf]) rfl ⟨rfl, R.2⟩

set_option maxRecDepth 100000 in
theorem qdigits_long (a b : Nat) (n : Int) (ha : a < Q) (hb : b < Q) (h : b ≠ 0) (h1 : 0 ≤ n) (h2 : n ≤ 384) (hl : Q ≤ a * 2 ^ cnt6 n) (w : World) :
    Calls Try.prog 14 #[.agg (cw 6 a), .agg (cw 6 b), .int .i64 n] w fun e w' => e = .returned (.tuple #[.agg (cw 6 0), .bool false, .int .i64 4]) ∧ Below w.heap.size w w' := by
  have hat := cw_at 6
  have hz := cw6z
  have hf := cw6f
  have hs0 := st0
  have hcs : ∀ x, ((cw 6 x).size = 6) = True := fun x => eq_true (cw_size 6 x)
  have HO : Box (decide (b = 0) = false) := box (decide_eq_false h)
  have HL : Box (decide (Q ≤ a * 2 ^ cnt6 n) = true) := box (decide_eq_true hl)
  obtain ⟨x, hx⟩ : ∃ x, a * 2 ^ cnt6 n % Q = x := ⟨_, rfl⟩
  have HX := box hx
  have d1 : decide (n < 0) = false := by rw [decide_eq_false_iff_not]; omega
  have d2 : decide (384 < n) = false := by rw [decide_eq_false_iff_not]; omega
  clear h hl hx
  go_enter Try.func14, Try.ntmps14
  go_wp2_with fail
  refine (qzero_is b _ hb HO.out _).mono ?_
  rintro e w1 ⟨rfl, hb1⟩
  have R := rows_two2 hb1
  clear hb1
  have c0 := row_cell (rows0 R)
  go_wp2_with fail
  refine (wleft_is a x n _ ha HX.out HL.out _).mono ?_
  rintro e w2 ⟨rfl, hb2⟩
  have R2 := rowsL_alloc (rowsL_below R hb2) (.cells (cw 6 x) 24)
  clear hb2 R c0
  have hs := st_same (w2.alloc (.cells (cw 6 x) 24)) (w.heap.size + 1 + 1) 0 (rows2 R2)
  have c2 := row_cell (rows2 R2)
  go_wp2
  exact bodyPost_ret (v := .tuple #[.agg (cw 6 0), .bool false, .int .i64 4]) (by simp [results, Try.results14, go_sem, c2, hf]) rfl ⟨rfl, R2.2⟩

set_option maxRecDepth 100000 in
set_option maxHeartbeats 1000000 in
theorem qdigits_is (a b x q : Nat) (n : Int) (m : Bool) (ha : a < Q) (hb : b < Q) (h : b ≠ 0) (h1 : 0 ≤ n) (h2 : n ≤ 384) (hx : a * 2 ^ cnt6 n = x) (xQ : x < Q) (hq : x / b = q) (hm : decide (x % b = 0) = !m) (w : World) :
    Calls Try.prog 14 #[.agg (cw 6 a), .agg (cw 6 b), .int .i64 n] w fun e w' => e = .returned (.tuple #[.agg (cw 6 q), .bool m, .int .i64 0]) ∧ Below w.heap.size w w' := by
  have hat := cw_at 6
  have hz := cw6z
  have hf := cw6f
  have hs0 := st0
  have hcs : ∀ x, ((cw 6 x).size = 6) = True := fun x => eq_true (cw_size 6 x)
  have HO : Box (decide (b = 0) = false) := box (decide_eq_false h)
  have HL : Box (decide (Q ≤ a * 2 ^ cnt6 n) = false) := box (decide_eq_false (by omega))
  have HX : Box (a * 2 ^ cnt6 n % Q = x) := box (by rw [hx, Nat.mod_eq_of_lt xQ])
  have d1 : decide (n < 0) = false := by rw [decide_eq_false_iff_not]; omega
  have d2 : decide (384 < n) = false := by rw [decide_eq_false_iff_not]; omega
  obtain ⟨r, hr⟩ : ∃ r, x % b = r := ⟨_, rfl⟩
  have rQ : r < Q := by rw [← hr]; exact Nat.lt_of_le_of_lt (Nat.mod_le _ _) xQ
  rw [hr] at hm
  have HQ := box hq
  have HR := box hr
  have HM := box hm
  have HB := box h
  clear h hx hq hr hm
  go_enter Try.func14, Try.ntmps14
  go_wp2_with fail
  refine (qzero_is b _ hb HO.out _).mono ?_
  rintro e w1 ⟨rfl, hb1⟩
  have R := rows_two2 hb1
  clear hb1
  have c0 := row_cell (rows0 R)
  go_wp2_with fail
  refine (wleft_is a x n _ ha HX.out HL.out _).mono ?_
  rintro e w2 ⟨rfl, hb2⟩
  have R2 := rowsL_alloc (rowsL_below R hb2) (.cells (cw 6 x) 24)
  clear hb2 R c0
  have c1 := row_cell (rows1 R2)
  go_wp2_with fail
  refine (qdiv_is x b q r xQ hb HB.out HQ.out HR.out _).mono ?_
  rintro e w3 ⟨rfl, hb3⟩
  have R3 := rowsL_below R2 hb3
  clear hb3 R2 c1
  have z3 : w.heap.size + 1 + 1 < w3.heap.size := (Array.getElem?_eq_some_iff.1 (rows2 R3)).1
  have R4 := rowsL_alloc R3 (.cells (cw 6 0) 24)
  have hs := st_any (w3.alloc (.cells (cw 6 0) 24)) (w.heap.size + 1 + 1) q 0 (rows2 R4)
  have R5 : RowsL w ((w3.alloc (.cells (cw 6 0) 24)).setRow (w.heap.size + 1 + 1) (cw 6 q)) [a, b, q] := rowsL_set R4 2 q _ (by simp) rfl rfl
  have S5 : ((w3.alloc (.cells (cw 6 0) 24)).setRow (w.heap.size + 1 + 1) (cw 6 q)).heap[w3.heap.size]? = some (.cells (cw 6 0) 24) := by rw [setRow_other (by omega)]; exact heap_alloc_last _ _
  obtain ⟨W5, hW5⟩ : ∃ W5, W5 = (w3.alloc (.cells (cw 6 0) 24)).setRow (w.heap.size + 1 + 1) (cw 6 q) := ⟨_, rfl⟩
  rw [← hW5] at hs R5 S5
  have hs6 := st_any W5 w3.heap.size r 0 S5
  obtain ⟨W6, hW6⟩ : ∃ W6, W6 = W5.setRow w3.heap.size (cw 6 r) := ⟨_, rfl⟩
  have S6 : W6.heap[w3.heap.size]? = some (.cells (cw 6 r) 24) := by rw [hW6]; exact setRow_row S5
  have Q6 : W6.heap[w.heap.size + 1 + 1]? = some (.cells (cw 6 q) 24) := by rw [hW6, setRow_other (by omega)]; exact rows2 R5
  have B6 : Below w.heap.size w W6 := by rw [hW6]; exact Below.setRow R5.2 (by omega)
  rw [← hW6] at hs6
  clear R3 R4 R5 S5 hW5 hW6
  go_wp2
  clear hs hs6
  obtain ⟨F, hF1, hF2⟩ := below_fun W6
  have f2 : ∀ u o, o < 6 → (F u).cell? ⟨w.heap.size + 1 + 1, o, none⟩ = some (.int .u64 (wd q o : Nat)) := fun u => row_cell (heap_of (hF1 u) _ _ _ Q6)
  have f3 : ∀ u o, o < 6 → (F u).cell? ⟨w3.heap.size, o, none⟩ = some (.int .u64 (wd r o : Nat)) := fun u => row_cell (heap_of (hF1 u) _ _ _ S6)
  have g2 : ∀ u, (storeCells ⟨w.heap.size + 1 + 1, 0, none⟩ (cw 6 q).toList 0).run Try.prog (F u) = .ok () (F u) := fun u => st_same _ _ _ (heap_of (hF1 u) _ _ _ Q6)
  have hmm : (!!m) = m := by cases m <;> rfl
  refine wp_region_below F hF2 (by kernel_rfl) (by kernel_rfl) ?_
  repeat quiet_step ((go_at_call 20; exact quietF hF1 hF2 (qzero_is r (!m) rQ HM.out _)))
  refine wpQuiet_nil ?_
  rintro _ ⟨u, rfl⟩
  go_wp2
  exact bodyPost_ret (v := .tuple #[.agg (cw 6 q), .bool m, .int .i64 0]) (by simp [results, Try.results14, go_sem, f2, hf]) rfl ⟨rfl, B6.trans ((hF1 u).mono B6.size)⟩
end Go.Proofs.Ytflfgchnlcnibaa
