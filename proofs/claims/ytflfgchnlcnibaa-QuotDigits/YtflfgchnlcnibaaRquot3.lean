/-
  What Digits of the document's answer for layer 3 returns.
-/
import Derived.Test.YtflfgchnlcnibaaRquot1
import Derived.Test.YtflfgchnlcnibaaQuot4
namespace Go.Proofs.Ytflfgchnlcnibaa
open Go.RowKit WMath

theorem rows_three (w : World) (a b c : Nat) : RowsL w (((w.alloc (.cells (cw 6 a) 24)).alloc (.cells (cw 6 b) 24)).alloc (.cells (cw 6 c) 24)) [a, b, c] := rowsL_new (rowsL_new (rowsL_new (rowsL_nil w) rfl a) (by simp) b) (by simp) c

set_option maxRecDepth 100000 in
theorem rdigits_bad (a b : Nat) (n : Int) (hb : b < Q) (h : b = 0 ∨ n < 0 ∨ 384 < n) (w : World) :
    Calls Try.prog 15 #[.agg (cw 6 a), .agg (cw 6 b), .int .i64 n] w fun e w' => e = .returned (.tuple #[.agg (cw 6 0), .bool false, .int .i64 2]) ∧ Below w.heap.size w w' := by
  have hat := cw_at 6
  have hz := cw6z
  have hf := cw6f
  have hs0 := st0
  have hcs : ∀ x, ((cw 6 x).size = 6) = True := fun x => eq_true (cw_size 6 x)
  have heq := eq6
  have hg := eqg6
  have hQ := Q_pos
  have hh : decide (b = 0) = true ∨ (decide (b = 0) = false ∧ decide (n < 0) = true) ∨ (decide (b = 0) = false ∧ decide (n < 0) = false ∧ decide (384 < n) = true) := by
    simp only [decide_eq_true_eq, decide_eq_false_iff_not]
    omega
  have R := rows_three w a b 0
  clear h
  rcases hh with h0 | ⟨h0, h1⟩ | ⟨h0, h1, h2⟩
  all_goals
    go_enter Try.func15, Try.ntmps15
    go_wp2
    exact bodyPost_ret (v := .tuple #[.agg (cw 6 0), .bool false, .int .i64 2]) (by simp [results, Try.results15, go_sem, hat, hf]) rfl ⟨rfl, R.2⟩

set_option maxRecDepth 100000 in
theorem rdigits_long (a b : Nat) (n : Int) (ha : a < Q) (hb : b < Q) (h : b ≠ 0) (h1 : 0 ≤ n) (h2 : n ≤ 384) (hl : Q ≤ a * 2 ^ cnt6 n) (w : World) :
    Calls Try.prog 15 #[.agg (cw 6 a), .agg (cw 6 b), .int .i64 n] w fun e w' => e = .returned (.tuple #[.agg (cw 6 0), .bool false, .int .i64 4]) ∧ Below w.heap.size w w' := by
  have hat := cw_at 6
  have hz := cw6z
  have hf := cw6f
  have hs0 := st0
  have hcs : ∀ x, ((cw 6 x).size = 6) = True := fun x => eq_true (cw_size 6 x)
  have heq := eq6
  have hg := eqg6
  have hQ := Q_pos
  have h0 : decide (b = 0) = false := decide_eq_false h
  have HL : Box (decide (Q ≤ a * 2 ^ cnt6 n) = true) := box (decide_eq_true hl)
  obtain ⟨x, hx⟩ : ∃ x, a * 2 ^ cnt6 n % Q = x := ⟨_, rfl⟩
  have HX := box hx
  have d1 : decide (n < 0) = false := by rw [decide_eq_false_iff_not]; omega
  have d2 : decide (384 < n) = false := by rw [decide_eq_false_iff_not]; omega
  clear h hl hx
  go_enter Try.func15, Try.ntmps15
  go_wp2_with fail
  refine (rwleft_is a x n _ ha HX.out HL.out _).mono ?_
  rintro e w2 ⟨rfl, hb2⟩
  have R2 := rowsL_alloc (rowsL_below (rows_three w a b 0) hb2) (.cells (cw 6 x) 24)
  clear hb2
  have hs := st_same (w2.alloc (.cells (cw 6 x) 24)) (w.heap.size + 1 + 1) 0 (rows2 R2)
  have c2 := row_cell (rows2 R2)
  go_wp2
  exact bodyPost_ret (v := .tuple #[.agg (cw 6 0), .bool false, .int .i64 4]) (by simp [results, Try.results15, go_sem, c2, hf]) rfl ⟨rfl, R2.2⟩

set_option maxRecDepth 100000 in
set_option maxHeartbeats 1000000 in
theorem rdigits_is (a b x q : Nat) (n : Int) (m : Bool) (ha : a < Q) (hb : b < Q) (h : b ≠ 0) (h1 : 0 ≤ n) (h2 : n ≤ 384) (hx : a * 2 ^ cnt6 n = x) (xQ : x < Q) (hq : x / b = q) (hm : decide (x % b = 0) = !m) (w : World) :
    Calls Try.prog 15 #[.agg (cw 6 a), .agg (cw 6 b), .int .i64 n] w fun e w' => e = .returned (.tuple #[.agg (cw 6 q), .bool m, .int .i64 0]) ∧ Below w.heap.size w w' := by
  have hat := cw_at 6
  have hz := cw6z
  have hf := cw6f
  have hs0 := st0
  have hs1 := st1
  have hcs : ∀ x, ((cw 6 x).size = 6) = True := fun x => eq_true (cw_size 6 x)
  have heq := eq6
  have hg := eqg6
  have hQ := Q_pos
  have h0 : decide (b = 0) = false := decide_eq_false h
  have HL : Box (decide (Q ≤ a * 2 ^ cnt6 n) = false) := box (decide_eq_false (by omega))
  have HX : Box (a * 2 ^ cnt6 n % Q = x) := box (by rw [hx, Nat.mod_eq_of_lt xQ])
  have d1 : decide (n < 0) = false := by rw [decide_eq_false_iff_not]; omega
  have d2 : decide (384 < n) = false := by rw [decide_eq_false_iff_not]; omega
  obtain ⟨r, hr⟩ : ∃ r, x % b = r := ⟨_, rfl⟩
  have rQ : r < Q := by rw [← hr]; exact Nat.lt_of_le_of_lt (Nat.mod_le _ _) xQ
  rw [hr] at hm
  have HQ := box hq
  have HR := box hr
  have HB := box h
  clear h hx hq hr
  go_enter Try.func15, Try.ntmps15
  go_wp2_with fail
  refine (rwleft_is a x n _ ha HX.out HL.out _).mono ?_
  rintro e w2 ⟨rfl, hb2⟩
  have R2 := rowsL_alloc (rowsL_below (rows_three w a b 0) hb2) (.cells (cw 6 x) 24)
  clear hb2
  have c1 := row_cell (rows1 R2)
  go_wp2_with fail
  refine (rdiv_is x b q r xQ hb HB.out HQ.out HR.out _).mono ?_
  rintro e w3 ⟨rfl, hb3⟩
  have R3 := rowsL_below R2 hb3
  clear hb3 R2 c1
  have z3 := rowsL_size R3 2 _ rfl
  have R5 := rowsL_alloc (rowsL_alloc R3 (.cells (cw 6 q) 24)) (.cells (cw 6 r) 24)
  have S5 : ((w3.alloc (.cells (cw 6 q) 24)).alloc (.cells (cw 6 r) 24)).heap[w3.heap.size]? = some (.cells (cw 6 q) 24) := by rw [heap_below _ _ _ (by simp)]; exact heap_alloc_last _ _
  have T5 : ((w3.alloc (.cells (cw 6 q) 24)).alloc (.cells (cw 6 r) 24)).heap[w3.heap.size + 1]? = some (.cells (cw 6 r) 24) := by rw [← size_al w3 (.cells (cw 6 q) 24)]; exact heap_alloc_last _ _
  obtain ⟨W5, hW5⟩ : ∃ W5, (w3.alloc (.cells (cw 6 q) 24)).alloc (.cells (cw 6 r) 24) = W5 := ⟨_, rfl⟩
  rw [hW5] at R5 S5 T5
  obtain ⟨W6, hW6⟩ : ∃ W6, W6 = W5.setRow (w.heap.size + 1 + 1) (cw 6 q) := ⟨_, rfl⟩
  have R6 : RowsL w W6 [a, b, q] := by rw [hW6]; exact rowsL_set R5 2 q _ (by simp) rfl rfl
  have g5 : (storeCells ⟨w.heap.size + 1 + 1, 0, none⟩ (cw 6 q).toList 0).run Try.prog W5.drew = .ok () W6.drew := by
    rw [hW6]; exact st_any (W5.drewN 1) _ q 0 (rows2 (rowsL_drew R5 1))
  have T6 : W6.heap[w3.heap.size + 1]? = some (.cells (cw 6 r) 24) := by rw [hW6, setRow_other (by omega)]; exact T5
  have cq := row_cell S5
  have cr := row_cell T5
  have cr6 := row_cell T6
  have d6 := row_cell (rows2 R6)
  have hm2 : (!decide (r = 0)) = m := by rw [hm]; cases m <;> rfl
  clear hW6 R3 hm
  go_wp2
  clear hW5
  go_region
  all_goals
    go_wp2
    exact bodyPost_ret (v := .tuple #[.agg (cw 6 q), .bool m, .int .i64 0]) (by simp [results, Try.results15, go_sem, d6, hf]) rfl ⟨rfl, (rowsL_drew R6 1).2⟩
end Go.Proofs.Ytflfgchnlcnibaa
