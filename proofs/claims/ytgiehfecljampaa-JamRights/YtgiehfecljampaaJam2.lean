/-
  What Cut and Top of package jam return.
-/
import Derived.Test.YtgiehfecljampaaJam1
namespace Go.Proofs.Ytgiehfecljampaa
open Go.RowKit WMath

set_option maxHeartbeats 2000000 in
theorem jcut_is (n v : Nat) (s h : Int) (o : Bool) (hn : n < Q) (hv : n / 2 ^ cnt6 s = v) (hh : halfv n (cnt5 s) = h) (ho : decide (n % 2 ^ cnt6 s = 0) = o) (w : World) :
    Calls Try.prog 14 #[.agg (cw 6 n), .int .i64 s] w fun e w' => e = .returned (.tuple #[.agg (cw 6 v), .int .i64 h, .bool o]) ∧ Below w.heap.size w w' := by
  have hat := cw_at 6
  have hz := cw6z
  have hf := cw6f
  have hs0 := st0
  have hcs : ∀ x, ((cw 6 x).size = 6) = True := fun x => eq_true (cw_size 6 x)
  obtain ⟨c, hc⟩ : ∃ c, cnt5 s = c := ⟨_, rfl⟩
  have c385 : c ≤ 385 := by rw [← hc]; unfold cnt5; omega
  have h65 : cnt6 (c : Int) = cnt6 s := by rw [← hc]; exact cnt65 s
  obtain ⟨r, hr⟩ : ∃ r, n % 2 ^ cnt6 (c : Int) = r := ⟨_, rfl⟩
  have rQ : r < Q := by rw [← hr]; exact Nat.lt_of_le_of_lt (Nat.mod_le _ _) hn
  rw [← h65] at hv ho
  rw [hr] at ho
  rw [hc] at hh
  have HV := box hv
  have HR := box hr
  have HC := box hc
  have HO := box ho
  have HH := box hh
  have C385 := box c385
  clear hv ho hc hr h65 hh c385
  go_enter Try.func14, Try.ntmps14
  go_wp2_with fail
  refine (jcount_any s _).mono ?_
  rw [HC.out]
  rintro e w' ⟨rfl, rfl⟩
  go_wp2_with fail
  refine (jleft_is n r (c : Int) hn HR.out _).mono ?_
  rintro e w1 ⟨rfl, hb1⟩
  have R1 : RowsL w w1 [n, 0] := rowsL_below (jrows2 w n) hb1
  clear hb1
  have z1 := rowsL_size R1 1 _ rfl
  have R := rowsL_alloc R1 (.cells (cw 6 r) 24)
  have S : (w1.alloc (.cells (cw 6 r) 24)).heap[w1.heap.size]? = some (.cells (cw 6 r) 24) := heap_alloc_last w1 _
  obtain ⟨W0, hW0⟩ : ∃ W0, w1.alloc (.cells (cw 6 r) 24) = W0 := ⟨_, rfl⟩
  rw [hW0] at R S
  have c0 := row_cell (rows0 R)
  have s0 := row_cell S
  clear R1
  go_wp2
  clear hW0
  go_region_with (first
    | (go_at_call 25; refine (jwhole_is n v (c : Int) hn HV.out _).mono ?_; rintro e w2 ⟨rfl, hb2⟩; have R2 := rowsL_below (rowsL_drew R _) hb2; have S2 := heap_of hb2 _ _ _ S; have s2 := row_cell S2)
    | (go_at_call 29; refine (jhalf_is n c r h rQ C385.out HR.out HH.out _).mono ?_; rintro e w3 ⟨rfl, hb3⟩; have R3 := rowsL_below R2 hb3; have s3 := row_cell (heap_of hb3 _ _ _ S2))
    | (go_at_call 26; refine (jzero_is r o rQ HO.out _).mono ?_; rintro e w4 ⟨rfl, hb4⟩; have R4 := rowsL_below R3 hb4; have hst := st_any w4 (w.heap.size + 1) v 0 (rows1 R4)))
  all_goals
    have R5 : RowsL w (w4.setRow (w.heap.size + 1) (cw 6 v)) [n, v] := rowsL_set R4 1 v _ (by simp) rfl rfl
    have d := row_cell (rows1 R5)
    go_wp2
    exact bodyPost_ret (v := .tuple #[.agg (cw 6 v), .int .i64 h, .bool o]) (by simp [results, Try.results14, go_sem, d, hf]) rfl ⟨rfl, R5.2⟩

set_option maxRecDepth 100000 in
theorem jtop_bad (a : Nat) (s : Int) (ha : a < Q) (h : a = 0 ∨ s < 0 ∨ 384 ≤ s) (w : World) :
    Calls Try.prog 16 #[.agg (cw 6 a), .int .i64 s] w fun e w' => e = .returned (.tuple #[.agg (cw 6 0), .int .i64 0, .int .i64 2]) ∧ Below w.heap.size w w' := by
  have hat := cw_at 6
  have hz := cw6z
  have hf := cw6f
  have hcs : ∀ x, ((cw 6 x).size = 6) = True := fun x => eq_true (cw_size 6 x)
  obtain ⟨o, ho⟩ : ∃ o, decide (a = 0) = o := ⟨_, rfl⟩
  have HO := box ho
  have hh : o = true ∨ (o = false ∧ decide (s < 0) = true) ∨ (o = false ∧ decide (s < 0) = false ∧ decide (384 ≤ s) = true) := by
    rw [← ho]
    simp only [decide_eq_true_eq, decide_eq_false_iff_not]
    omega
  clear ho h
  rcases hh with rfl | ⟨rfl, h1⟩ | ⟨rfl, h1, h2⟩
  all_goals
    go_enter Try.func16, Try.ntmps16
    go_wp2_with fail
    refine (jzero_is a _ ha HO.out _).mono ?_
    rintro e w1 ⟨rfl, hb1⟩
    have R := rowsL_below (jrows2 w a) hb1
    clear hb1
    have hs := st_same w1 (w.heap.size + 1) 0 (rows1 R)
    have c2 := row_cell (rows1 R)
    go_wp2
    exact bodyPost_ret (v := .tuple #[.agg (cw 6 0), .int .i64 0, .int .i64 2]) (by simp [results, Try.results16, go_sem, c2, hf]) rfl ⟨rfl, R.2⟩

set_option maxRecDepth 100000 in
theorem jtop_right (a v p l k : Nat) (m : Int) (ha : a < Q) (h0 : a ≠ 0) (hp : p < 384) (hl : blen a = l) (hm : (p : Int) + 1 - (l : Int) = m) (hk : m = -(k : Int)) (hk0 : 0 < k) (hv : jr a k = v) (w : World) :
    Calls Try.prog 16 #[.agg (cw 6 a), .int .i64 (p : Nat)] w fun e w' => e = .returned (.tuple #[.agg (cw 6 v), .int .i64 m, .int .i64 0]) ∧ Below w.heap.size w w' := by
  have hat := cw_at 6
  have hz := cw6z
  have hf := cw6f
  have hcs : ∀ x, ((cw 6 x).size = 6) = True := fun x => eq_true (cw_size 6 x)
  have HO : Box (decide (a = 0) = false) := box (decide_eq_false h0)
  have HL := box hl
  have l6 := blen_le384 a ha
  rw [hl] at l6
  obtain ⟨s, hs⟩ : ∃ s : Int, (p : Int) = s := ⟨_, rfl⟩
  rw [hs] at hm ⊢
  have d1 : decide (s < 0) = false := by rw [decide_eq_false_iff_not]; omega
  have d2 : decide (384 ≤ s) = false := by rw [decide_eq_false_iff_not]; omega
  have n1 : IntKind.i64.wrap (s + 1) = s + 1 := wrap_i64_is _ (by omega) (by omega)
  have n2 : IntKind.i64.wrap (s + 1 - (l : Int)) = m := by rw [wrap_i64_is _ (by omega) (by omega)]; omega
  have d3 : decide (m < 0) = true := by rw [decide_eq_true_iff]; omega
  have n3 : IntKind.i64.wrap (-m) = (k : Int) := by rw [wrap_i64_is _ (by omega) (by omega)]; omega
  have HV : Box (jr a (cnt6 (k : Int)) = v) := box (by rw [show cnt6 (k : Int) = k by unfold cnt6; omega]; exact hv)
  clear h0 hl hm hv hs hp hk hk0 l6
  go_enter Try.func16, Try.ntmps16
  go_wp2_with fail
  refine (jzero_is a _ ha HO.out _).mono ?_
  rintro e w1 ⟨rfl, hb1⟩
  have R1 := rowsL_below (jrows2 w a) hb1
  clear hb1
  have c1 := row_cell (rows0 R1)
  go_wp2_with fail
  refine (wlen_is a l ha HL.out _).mono ?_
  rintro e w2 ⟨rfl, hb2⟩
  have R2 := rowsL_below R1 hb2
  clear hb2 R1 c1
  have c2 := row_cell (rows0 R2)
  go_wp2_with fail
  refine (jright_is a v (k : Int) ha HV.out _).mono ?_
  rintro e w3 ⟨rfl, hb3⟩
  have R3 := rowsL_below R2 hb3
  clear hb3 R2 c2
  have hst := st_any w3 (w.heap.size + 1) v 0 (rows1 R3)
  have R4 : RowsL w (w3.setRow (w.heap.size + 1) (cw 6 v)) [a, v] := rowsL_set R3 1 v _ (by simp) rfl rfl
  have d := row_cell (rows1 R4)
  go_wp2
  exact bodyPost_ret (v := .tuple #[.agg (cw 6 v), .int .i64 m, .int .i64 0]) (by simp [results, Try.results16, go_sem, d, hf]) rfl ⟨rfl, R4.2⟩

set_option maxRecDepth 100000 in
theorem jtop_left (a v p l k : Nat) (ha : a < Q) (h0 : a ≠ 0) (hp : p < 384) (hl : blen a = l) (hk : p + 1 = l + k) (hv : a * 2 ^ k = v) (vQ : v < Q) (w : World) :
    Calls Try.prog 16 #[.agg (cw 6 a), .int .i64 (p : Nat)] w fun e w' => e = .returned (.tuple #[.agg (cw 6 v), .int .i64 (k : Nat), .int .i64 0]) ∧ Below w.heap.size w w' := by
  have hat := cw_at 6
  have hz := cw6z
  have hf := cw6f
  have hcs : ∀ x, ((cw 6 x).size = 6) = True := fun x => eq_true (cw_size 6 x)
  have HO : Box (decide (a = 0) = false) := box (decide_eq_false h0)
  have HL := box hl
  have l6 := blen_le384 a ha
  rw [hl] at l6
  obtain ⟨s, hs⟩ : ∃ s : Int, (p : Int) = s := ⟨_, rfl⟩
  obtain ⟨m, hm⟩ : ∃ m : Int, (k : Int) = m := ⟨_, rfl⟩
  rw [hs, hm]
  have d1 : decide (s < 0) = false := by rw [decide_eq_false_iff_not]; omega
  have d2 : decide (384 ≤ s) = false := by rw [decide_eq_false_iff_not]; omega
  have n1 : IntKind.i64.wrap (s + 1) = s + 1 := wrap_i64_is _ (by omega) (by omega)
  have n2 : IntKind.i64.wrap (s + 1 - (l : Int)) = m := by rw [wrap_i64_is _ (by omega) (by omega)]; omega
  have d3 : decide (m < 0) = false := by rw [decide_eq_false_iff_not]; omega
  have HV : Box (a * 2 ^ cnt6 m % Q = v) := box (by rw [show cnt6 m = k by unfold cnt6; omega, hv, Nat.mod_eq_of_lt vQ])
  clear h0 hl hm hv hs hp hk l6
  go_enter Try.func16, Try.ntmps16
  go_wp2_with fail
  refine (jzero_is a _ ha HO.out _).mono ?_
  rintro e w1 ⟨rfl, hb1⟩
  have R1 := rowsL_below (jrows2 w a) hb1
  clear hb1
  have c1 := row_cell (rows0 R1)
  go_wp2_with fail
  refine (wlen_is a l ha HL.out _).mono ?_
  rintro e w2 ⟨rfl, hb2⟩
  have R2 := rowsL_below R1 hb2
  clear hb2 R1 c1
  have c2 := row_cell (rows0 R2)
  go_wp2_with fail
  refine (wleft_is a v m _ ha HV.out rfl _).mono ?_
  rintro e w3 ⟨rfl, hb3⟩
  have R3 := rowsL_below R2 hb3
  clear hb3 R2 c2
  have hst := st_any w3 (w.heap.size + 1) v 0 (rows1 R3)
  obtain ⟨W4, hW4⟩ : ∃ W4, W4 = w3.setRow (w.heap.size + 1) (cw 6 v) := ⟨_, rfl⟩
  rw [← hW4] at hst
  have R4 : RowsL w W4 [a, v] := by rw [hW4]; exact rowsL_set R3 1 v _ (by simp) rfl rfl
  have d := row_cell (rows1 R4)
  have hst2 := st_same W4 (w.heap.size + 1) v (rows1 R4)
  clear hW4 R3
  go_wp2
  exact bodyPost_ret (v := .tuple #[.agg (cw 6 v), .int .i64 m, .int .i64 0]) (by simp [results, Try.results16, go_sem, d, hf]) rfl ⟨rfl, R4.2⟩
end Go.Proofs.Ytgiehfecljampaa
