/-
  What Align, Cut and Top of the document's answer for layer 4 return.
-/
import Derived.Test.YtgiehfecljampaaRjam1
namespace Go.Proofs.Ytgiehfecljampaa
open Go.RowKit WMath

theorem rjalign_is (n v : Nat) (s : Int) (o : Bool) (hn : n < Q) (hv : n / 2 ^ cnt6 s = v) (ho : decide (n % 2 ^ cnt6 s ≠ 0) = o) (w : World) :
    Calls Try.prog 10 #[.agg (cw 6 n), .int .i64 s] w fun e w' => e = .returned (.tuple #[.agg (cw 6 v), .bool o]) ∧ Below w.heap.size w w' := by
  have hat := cw_at 6
  have hz := cw6z
  have hf := cw6f
  have hs0 := st0
  have hcs : ∀ x, ((cw 6 x).size = 6) = True := fun x => eq_true (cw_size 6 x)
  have HV := box hv
  have HO := box ho
  clear hv ho
  go_enter Try.func10, Try.ntmps10
  go_wp2_with fail
  refine (rwright_is n v s o hn HV.out HO.out _).mono ?_
  rintro e w1 ⟨rfl, hb1⟩
  have R1 := rowsL_below (rjrows2 w n) hb1
  clear hb1
  have hst := st_any w1 (w.heap.size + 1) v 0 (rows1 R1)
  have R2 : RowsL w (w1.setRow (w.heap.size + 1) (cw 6 v)) [n, v] := rowsL_set R1 1 v _ (by simp) rfl rfl
  have d := row_cell (rows1 R2)
  go_wp2
  exact bodyPost_ret (v := .tuple #[.agg (cw 6 v), .bool o]) (by simp [results, Try.results10, go_sem, d, hf]) rfl ⟨rfl, R2.2⟩

/-- By 0 and less: all is kept. -/
theorem rjcut_low (n : Nat) (s : Int) (hn : n < Q) (hs : s ≤ 0) (w : World) :
    Calls Try.prog 15 #[.agg (cw 6 n), .int .i64 s] w fun e w' => e = .returned (.tuple #[.agg (cw 6 n), .int .i64 (-1), .bool true]) ∧ Below w.heap.size w w' := by
  have hat := cw_at 6
  have hz := cw6z
  have hf := cw6f
  have hs0 := st0
  have hcs : ∀ x, ((cw 6 x).size = 6) = True := fun x => eq_true (cw_size 6 x)
  have HV : Box (n / 2 ^ cnt6 0 = n) := box (by rw [show cnt6 0 = 0 from rfl, Nat.pow_zero, Nat.div_one])
  have hh : decide (s < 0) = true ∨ s = 0 := by rw [decide_eq_true_iff]; omega
  clear hs
  rcases hh with h | rfl
  all_goals
    go_enter Try.func15, Try.ntmps15
    go_wp2_with fail
    refine (rwright_is n n 0 _ hn HV.out rfl _).mono ?_
    rintro e w1 ⟨rfl, hb1⟩
    have R1 := rowsL_below (rjrows2 w n) hb1
    clear hb1
    have R := rowsL_alloc R1 (.cells (cw 6 n) 24)
    clear R1
    have hst := st_any (w1.alloc (.cells (cw 6 n) 24)) (w.heap.size + 1) n 0 (rows1 R)
    have R2 : RowsL w ((w1.alloc (.cells (cw 6 n) 24)).setRow (w.heap.size + 1) (cw 6 n)) [n, n] := rowsL_set R 1 n _ (by simp) rfl rfl
    have c := row_cell (rows0 R)
    have d := row_cell (rows1 R2)
    go_wp2
    exact bodyPost_ret (v := .tuple #[.agg (cw 6 n), .int .i64 (-1), .bool true]) (by simp [results, Try.results15, go_sem, d, hf]) rfl ⟨rfl, R2.2⟩

set_option maxRecDepth 100000 in
/-- By 385 and more: nothing is kept. -/
theorem rjcut_high (n v : Nat) (s : Int) (o : Bool) (hn : n < Q) (hs : 385 ≤ s) (hv : n / 2 ^ cnt6 s = v) (ho : decide (n % 2 ^ cnt6 s = 0) = o) (w : World) :
    Calls Try.prog 15 #[.agg (cw 6 n), .int .i64 s] w fun e w' => e = .returned (.tuple #[.agg (cw 6 v), .int .i64 (-1), .bool o]) ∧ Below w.heap.size w w' := by
  have hat := cw_at 6
  have hz := cw6z
  have hf := cw6f
  have hs0 := st0
  have hcs : ∀ x, ((cw 6 x).size = 6) = True := fun x => eq_true (cw_size 6 x)
  have e : cnt6 s = cnt6 385 := by unfold cnt6; omega
  rw [e] at hv ho
  have HV := box hv
  have HO : Box (decide (n % 2 ^ cnt6 385 ≠ 0) = !o) := box (by rw [← ho, decide_not])
  have hoo : (!!o) = o := by cases o <;> rfl
  have d0 : decide (s < 0) = false := by rw [decide_eq_false_iff_not]; omega
  have hh : decide (385 < s) = true ∨ s = 385 := by rw [decide_eq_true_iff]; omega
  clear hs hv ho e
  rcases hh with h | rfl
  all_goals
    go_enter Try.func15, Try.ntmps15
    go_wp2_with fail
    refine (rwright_is n v 385 _ hn HV.out HO.out _).mono ?_
    rintro e w1 ⟨rfl, hb1⟩
    have R1 := rowsL_below (rjrows2 w n) hb1
    clear hb1
    have R := rowsL_alloc R1 (.cells (cw 6 v) 24)
    clear R1
    have hst := st_any (w1.alloc (.cells (cw 6 v) 24)) (w.heap.size + 1) v 0 (rows1 R)
    have R2 : RowsL w ((w1.alloc (.cells (cw 6 v) 24)).setRow (w.heap.size + 1) (cw 6 v)) [n, v] := rowsL_set R 1 v _ (by simp) rfl rfl
    have d := row_cell (rows1 R2)
    go_wp2
    exact bodyPost_ret (v := .tuple #[.agg (cw 6 v), .int .i64 (-1), .bool o]) (by simp [results, Try.results15, go_sem, d, hf]) rfl ⟨rfl, R2.2⟩

theorem setRow_keep {w W : World} {l : List Nat} {g b v r : Nat} (R : RowsL w W l) (S : W.heap[b]? = some (.cells (cw 6 v) 24)) (G : W.heap[g]? = some (.cells (cw 6 0) 24)) (h1 : w.heap.size + l.length ≤ g) (h2 : g ≠ b) :
    RowsL w (W.setRow g (cw 6 r)) l ∧ (W.setRow g (cw 6 r)).heap[b]? = some (.cells (cw 6 v) 24) ∧ (W.setRow g (cw 6 r)).heap[g]? = some (.cells (cw 6 r) 24) := by
  refine ⟨⟨fun i x h => ?_, Below.setRow R.2 (by omega)⟩, ?_, setRow_row G⟩
  · have hi : i < l.length := (List.getElem?_eq_some_iff.1 h).1
    rw [setRow_other (by omega)]
    exact R.1 i x h
  · rw [setRow_other h2]
    exact S
theorem alloc_keep {w W : World} {l : List Nat} {b v r : Nat} (R : RowsL w W l) (S : W.heap[b]? = some (.cells (cw 6 v) 24)) :
    RowsL w (W.alloc (.cells (cw 6 r) 24)) l ∧ (W.alloc (.cells (cw 6 r) 24)).heap[b]? = some (.cells (cw 6 v) 24) ∧ (W.alloc (.cells (cw 6 r) 24)).heap[W.heap.size]? = some (.cells (cw 6 r) 24) :=
  ⟨rowsL_alloc R _, by rw [heap_below _ _ _ (Array.getElem?_eq_some_iff.1 S).1]; exact S, heap_alloc_last _ _⟩

set_option maxRecDepth 100000 in
set_option maxHeartbeats 2000000 in
/-- By k + 1, at most 384: by the bit at k and those below it. -/
theorem rjcut_mid (n v k r : Nat) (t z o : Bool) (h : Int) (hn : n < Q) (hk : k < 384) (hv : n / 2 ^ cnt6 ((k + 1 : Nat) : Int) = v) (ho : decide (n % 2 ^ cnt6 ((k + 1 : Nat) : Int) = 0) = o)
    (ht : n.testBit k = t) (hr : n % 2 ^ k = r) (hz' : decide (r = 0) = z) (hh : (if t then (if z then 0 else 1) else -1) = h) (w : World) :
    Calls Try.prog 15 #[.agg (cw 6 n), .int .i64 ((k + 1 : Nat) : Int)] w fun e w' => e = .returned (.tuple #[.agg (cw 6 v), .int .i64 h, .bool o]) ∧ Below w.heap.size w w' := by
  have hat := cw_at 6
  have hz := cw6z
  have hf := cw6f
  have hs0 := st0
  have hcs : ∀ x, ((cw 6 x).size = 6) = True := fun x => eq_true (cw_size 6 x)
  have heq := eq6
  have hg := eqg6
  have hQ := Q_pos
  have rQ : r < Q := by rw [← hr]; exact Nat.lt_of_le_of_lt (Nat.mod_le _ _) hn
  obtain ⟨s, hs⟩ : ∃ s : Int, ((k + 1 : Nat) : Int) = s := ⟨_, rfl⟩
  rw [hs] at hv ho ⊢
  have d0 : decide (s < 0) = false := by rw [decide_eq_false_iff_not]; omega
  have d1 : decide (385 < s) = false := by rw [decide_eq_false_iff_not]; omega
  have d2 : (s == 0) = false := by simp only [beq_eq_false_iff_ne]; omega
  have d3 : (s == 385) = false := by simp only [beq_eq_false_iff_ne]; omega
  have n1 : IntKind.i64.wrap (s - 1) = (k : Int) := by rw [wrap_i64_is _ (by omega) (by omega)]; omega
  obtain ⟨m, hm⟩ : ∃ m, 2 ^ cnt6 (k : Int) - 1 = m := ⟨_, rfl⟩
  have HM := box hm
  have HA : Box (n &&& m = r) := box (by rw [← hm, jand_mask, show cnt6 (k : Int) = k by unfold cnt6; omega, hr])
  have HV := box hv
  have HO : Box (decide (n % 2 ^ cnt6 s ≠ 0) = !o) := box (by rw [← ho, decide_not])
  have hoo : (!!o) = o := by cases o <;> rfl
  have HT := box ht
  clear hv ho hs hr hm ht
  go_enter Try.func15, Try.ntmps15
  go_wp2_with fail
  refine (rwright_is n v s _ hn HV.out HO.out _).mono ?_
  rintro e w1 ⟨rfl, hb1⟩
  have R1 : RowsL w w1 [n, 0] := rowsL_below (rjrows2 w n) hb1
  clear hb1
  have z1 := rowsL_size R1 1 _ rfl
  have R := rowsL_alloc R1 (.cells (cw 6 v) 24)
  have S : (w1.alloc (.cells (cw 6 v) 24)).heap[w1.heap.size]? = some (.cells (cw 6 v) 24) := heap_alloc_last w1 _
  clear R1
  have c0 := row_cell (rows0 R)
  go_wp2_with fail
  refine (rwbit_any n k hk _).mono ?_
  rw [HT.out]
  rintro e w2 ⟨rfl, hb2⟩
  have R2 := rowsL_below R hb2
  have S2 := heap_of hb2 _ _ _ S
  clear hb2 R S c0
  have z2 : w1.heap.size < w2.heap.size := (Array.getElem?_eq_some_iff.1 S2).1
  have c2 := row_cell (rows0 R2)
  have c2a := row_cell (rows0 (rowsL_alloc R2 (.cells (cw 6 0) 24)))
  go_wp2
  go_region_with (first
    | (go_at_call 32; refine (rwmask_is (k : Int) m HM.out _).mono ?_; rintro e w3 ⟨rfl, hb3⟩; have R3 : RowsL w w3 [n, 0] := rowsL_below (by first | exact rowsL_drew R2 1 | exact rowsL_drew (rowsL_alloc R2 _) 1) hb3; have S3 : w3.heap[w1.heap.size]? = some (.cells (cw 6 v) 24) := heap_of hb3 _ _ _ (by first | exact S2 | exact (heap_below _ _ _ z2).trans S2); have z3 : w1.heap.size < w3.heap.size := (Array.getElem?_eq_some_iff.1 S3).1; have c3 := row_cell (rows0 R3); have c3a := row_cell (rows0 (rowsL_alloc R3 (.cells (cw 6 0) 24))); try (have G3 : w3.heap[w2.heap.size]? = some (.cells (cw 6 0) 24) := heap_of hb3 _ _ _ (heap_alloc_last w2 _)))
    | (go_at_call 31; refine (rwand_is n m r hn HA.out _).mono ?_; rintro e w4 ⟨rfl, hb4⟩; have R4 : RowsL w w4 [n, 0] := rowsL_below (by first | exact R3 | exact rowsL_alloc R3 _) hb4; have S4 : w4.heap[w1.heap.size]? = some (.cells (cw 6 v) 24) := heap_of hb4 _ _ _ (by first | exact S3 | exact (heap_below _ _ _ z3).trans S3); first | (have G4 : w4.heap[w2.heap.size]? = some (.cells (cw 6 0) 24) := heap_of hb4 _ _ _ G3; have hst := st_any w4 w2.heap.size r 0 G4) | (have G4 : w4.heap[w3.heap.size]? = some (.cells (cw 6 0) 24) := heap_of hb4 _ _ _ (heap_alloc_last w3 _); have hst := st_any w4 w3.heap.size r 0 G4) | skip))
  all_goals
    first
    | have K5 := setRow_keep (r := r) R4 S4 G4 (by first | (show w.heap.size + 2 ≤ w2.heap.size; omega) | (show w.heap.size + 2 ≤ w3.heap.size; omega)) (by first | (show w2.heap.size ≠ _; omega) | (show w3.heap.size ≠ _; omega))
    | have K5 := alloc_keep (r := r) R4 S4
    obtain ⟨R5, S5, G5⟩ := K5
    have c5 := row_cell S5
    have g5 := row_cell G5
    have hst5 := st_any _ (w.heap.size + 1) v 0 (rows1 R5)
    have R6 := rowsL_set R5 1 v (w.heap.size + 1) (by simp) rfl rfl
    have d6 := row_cell (rows1 R6)
    cases t <;> cases z <;> simp at hh <;> subst hh
    all_goals
      go_wp2
      first
      | exact bodyPost_ret (v := .tuple #[.agg (cw 6 v), .int .i64 (-1), .bool o]) (by simp [results, Try.results15, go_sem, d6, hf]) rfl ⟨rfl, R6.2⟩
      | exact bodyPost_ret (v := .tuple #[.agg (cw 6 v), .int .i64 0, .bool o]) (by simp [results, Try.results15, go_sem, d6, hf]) rfl ⟨rfl, R6.2⟩
      | exact bodyPost_ret (v := .tuple #[.agg (cw 6 v), .int .i64 1, .bool o]) (by simp [results, Try.results15, go_sem, d6, hf]) rfl ⟨rfl, R6.2⟩

/-- Cut of the document's answer. -/
theorem rjcut_is (n v : Nat) (s h : Int) (o : Bool) (hn : n < Q) (hv : n / 2 ^ cnt6 s = v) (hh : halfv n (cnt5 s) = h) (ho : decide (n % 2 ^ cnt6 s = 0) = o) (w : World) :
    Calls Try.prog 15 #[.agg (cw 6 n), .int .i64 s] w fun e w' => e = .returned (.tuple #[.agg (cw 6 v), .int .i64 h, .bool o]) ∧ Below w.heap.size w w' := by
  by_cases h0 : s ≤ 0
  · have e6 : cnt6 s = 0 := by unfold cnt6; omega
    have e5 : cnt5 s = 0 := by unfold cnt5; omega
    rw [e6, Nat.pow_zero] at hv ho
    rw [Nat.div_one] at hv
    rw [Nat.mod_one] at ho
    rw [e5] at hh
    have e1 : halfv n 0 = -1 := by unfold halfv; rw [if_pos (Or.inl rfl)]
    rw [e1] at hh
    subst hv hh ho
    exact rjcut_low n s hn h0 w
  · by_cases h1 : 385 ≤ s
    · have e5 : cnt5 s = 385 := by unfold cnt5; omega
      have e1 : halfv n 385 = -1 := by unfold halfv; rw [if_pos (Or.inr (by decide))]
      rw [e5, e1] at hh
      subst hh
      exact rjcut_high n v s o hn h1 hv ho w
    · obtain ⟨k, rfl⟩ : ∃ k : Nat, s = ((k + 1 : Nat) : Int) := ⟨(s - 1).toNat, by omega⟩
      have e5 : cnt5 ((k + 1 : Nat) : Int) = k + 1 := by unfold cnt5; omega
      rw [e5, halfv_bit n k (by omega)] at hh
      refine rjcut_mid n v k _ _ _ o h hn (by omega) hv ho rfl rfl rfl ?_ w
      rw [← hh]
      simp

set_option maxRecDepth 100000 in
theorem rjtop_bad (a : Nat) (s : Int) (ha : a < Q) (h : a = 0 ∨ s < 0 ∨ 384 ≤ s) (w : World) :
    Calls Try.prog 17 #[.agg (cw 6 a), .int .i64 s] w fun e w' => e = .returned (.tuple #[.agg (cw 6 0), .int .i64 0, .int .i64 2]) ∧ Below w.heap.size w w' := by
  have hat := cw_at 6
  have hz := cw6z
  have hf := cw6f
  have hs0 := st0
  have hcs : ∀ x, ((cw 6 x).size = 6) = True := fun x => eq_true (cw_size 6 x)
  have heq := eq6
  have hg := eqg6
  have hQ := Q_pos
  have hh : decide (a = 0) = true ∨ (decide (a = 0) = false ∧ decide (s < 0) = true) ∨ (decide (a = 0) = false ∧ decide (s < 0) = false ∧ decide (383 < s) = true) := by
    simp only [decide_eq_true_eq, decide_eq_false_iff_not]
    omega
  have R := rjrows2 w a
  clear h
  rcases hh with h0 | ⟨h0, h1⟩ | ⟨h0, h1, h2⟩
  all_goals
    go_enter Try.func17, Try.ntmps17
    go_wp2
    exact bodyPost_ret (v := .tuple #[.agg (cw 6 0), .int .i64 0, .int .i64 2]) (by simp [results, Try.results17, go_sem, hat, hf]) rfl ⟨rfl, R.2⟩

set_option maxRecDepth 100000 in
theorem rjtop_right (a v p l k : Nat) (m : Int) (ha : a < Q) (h0 : a ≠ 0) (hp : p < 384) (hl : blen a = l) (hm : (p : Int) + 1 - (l : Int) = m) (hk : m = -(k : Int)) (hk0 : 0 < k) (hv : jr a k = v) (w : World) :
    Calls Try.prog 17 #[.agg (cw 6 a), .int .i64 (p : Nat)] w fun e w' => e = .returned (.tuple #[.agg (cw 6 v), .int .i64 m, .int .i64 0]) ∧ Below w.heap.size w w' := by
  have hat := cw_at 6
  have hz := cw6z
  have hf := cw6f
  have hcs : ∀ x, ((cw 6 x).size = 6) = True := fun x => eq_true (cw_size 6 x)
  have heq := eq6
  have hg := eqg6
  have hQ := Q_pos
  have d0 : decide (a = 0) = false := decide_eq_false h0
  have HL := box hl
  have l6 := blen_le384 a ha
  rw [hl] at l6
  obtain ⟨s, hs⟩ : ∃ s : Int, (p : Int) = s := ⟨_, rfl⟩
  rw [hs] at hm ⊢
  have d1 : decide (s < 0) = false := by rw [decide_eq_false_iff_not]; omega
  have d2 : decide (383 < s) = false := by rw [decide_eq_false_iff_not]; omega
  have n1 : IntKind.i64.wrap ((l : Int) - 1) = (l : Int) - 1 := wrap_i64_is _ (by omega) (by omega)
  have n2 : IntKind.i64.wrap (s - ((l : Int) - 1)) = m := by rw [wrap_i64_is _ (by omega) (by omega)]; omega
  have d3 : decide (m < 0) = true := by rw [decide_eq_true_iff]; omega
  have n3 : IntKind.i64.wrap (-m) = (k : Int) := by rw [wrap_i64_is _ (by omega) (by omega)]; omega
  have HV : Box (jr a (cnt6 (k : Int)) = v) := box (by rw [show cnt6 (k : Int) = k by unfold cnt6; omega]; exact hv)
  clear h0 hl hm hv hs hp hk hk0 l6
  go_enter Try.func17, Try.ntmps17
  go_wp2_with fail
  refine (rwlen_is a l ha HL.out _).mono ?_
  rintro e w2 ⟨rfl, hb2⟩
  have R2 := rowsL_below (rjrows2 w a) hb2
  clear hb2
  have c2 := row_cell (rows0 R2)
  go_wp2_with fail
  refine (rjright_is a v (k : Int) ha HV.out _).mono ?_
  rintro e w3 ⟨rfl, hb3⟩
  have R3 := rowsL_below R2 hb3
  clear hb3 R2 c2
  have hst := st_any w3 (w.heap.size + 1) v 0 (rows1 R3)
  have R4 : RowsL w (w3.setRow (w.heap.size + 1) (cw 6 v)) [a, v] := rowsL_set R3 1 v _ (by simp) rfl rfl
  have d := row_cell (rows1 R4)
  go_wp2
  exact bodyPost_ret (v := .tuple #[.agg (cw 6 v), .int .i64 m, .int .i64 0]) (by simp [results, Try.results17, go_sem, d, hf]) rfl ⟨rfl, R4.2⟩

set_option maxRecDepth 100000 in
theorem rjtop_left (a v p l k : Nat) (ha : a < Q) (h0 : a ≠ 0) (hp : p < 384) (hl : blen a = l) (hk : p + 1 = l + k) (hv : a * 2 ^ k = v) (vQ : v < Q) (w : World) :
    Calls Try.prog 17 #[.agg (cw 6 a), .int .i64 (p : Nat)] w fun e w' => e = .returned (.tuple #[.agg (cw 6 v), .int .i64 (k : Nat), .int .i64 0]) ∧ Below w.heap.size w w' := by
  have hat := cw_at 6
  have hz := cw6z
  have hf := cw6f
  have hs0 := st0
  have hcs : ∀ x, ((cw 6 x).size = 6) = True := fun x => eq_true (cw_size 6 x)
  have heq := eq6
  have hg := eqg6
  have hQ := Q_pos
  have d0 : decide (a = 0) = false := decide_eq_false h0
  have HL := box hl
  have l6 := blen_le384 a ha
  rw [hl] at l6
  obtain ⟨s, hs⟩ : ∃ s : Int, (p : Int) = s := ⟨_, rfl⟩
  obtain ⟨m, hm⟩ : ∃ m : Int, (k : Int) = m := ⟨_, rfl⟩
  rw [hs, hm]
  have d1 : decide (s < 0) = false := by rw [decide_eq_false_iff_not]; omega
  have d2 : decide (383 < s) = false := by rw [decide_eq_false_iff_not]; omega
  have n1 : IntKind.i64.wrap ((l : Int) - 1) = (l : Int) - 1 := wrap_i64_is _ (by omega) (by omega)
  have n2 : IntKind.i64.wrap (s - ((l : Int) - 1)) = m := by rw [wrap_i64_is _ (by omega) (by omega)]; omega
  have d3 : decide (m < 0) = false := by rw [decide_eq_false_iff_not]; omega
  have HV : Box (a * 2 ^ cnt6 m % Q = v) := box (by rw [show cnt6 m = k by unfold cnt6; omega, hv, Nat.mod_eq_of_lt vQ])
  clear h0 hl hm hv hs hp hk l6
  go_enter Try.func17, Try.ntmps17
  go_wp2_with fail
  refine (rwlen_is a l ha HL.out _).mono ?_
  rintro e w2 ⟨rfl, hb2⟩
  have R2 := rowsL_below (rjrows2 w a) hb2
  clear hb2
  have c2 := row_cell (rows0 R2)
  go_wp2_with fail
  refine (rwleft_is a v m _ ha HV.out rfl _).mono ?_
  rintro e w3 ⟨rfl, hb3⟩
  have R3 := rowsL_alloc (rowsL_below R2 hb3) (.cells (cw 6 v) 24)
  clear hb3 R2 c2
  have hst := st_any (w3.alloc (.cells (cw 6 v) 24)) (w.heap.size + 1) v 0 (rows1 R3)
  have R4 : RowsL w ((w3.alloc (.cells (cw 6 v) 24)).setRow (w.heap.size + 1) (cw 6 v)) [a, v] := rowsL_set R3 1 v _ (by simp) rfl rfl
  have d := row_cell (rows1 R4)
  go_wp2
  exact bodyPost_ret (v := .tuple #[.agg (cw 6 v), .int .i64 m, .int .i64 0]) (by simp [results, Try.results17, go_sem, d, hf]) rfl ⟨rfl, R4.2⟩
end Go.Proofs.Ytgiehfecljampaa
