/-
  What Sqrt of package quot returns.
-/
import Derived.Test.YtflfgchnlcnibaaQuot2
namespace Go.Proofs.Ytflfgchnlcnibaa
open Go.RowKit WMath

set_option maxRecDepth 100000 in
set_option maxHeartbeats 1000000 in
theorem qsqrt_is (a x y : Nat) (ha : a < Q) (hx : RootIs a x) (hy : a - x * x = y) (w : World) :
    Calls Try.prog 12 #[.agg (cw 6 a)] w fun e w' => e = .returned (.tuple #[.agg (cw 6 x), .agg (cw 6 y)]) ∧ Below w.heap.size w w' := by
  have hat := cw_at 6
  have hz := cw6z
  have hf := cw6f
  have hs2 := st0
  have hcs : ∀ x, ((cw 6 x).size = 6) = True := fun x => eq_true (cw_size 6 x)
  have HX := box hx
  have HY := box hy
  obtain ⟨la, hla⟩ : ∃ x, blen a = x := ⟨_, rfl⟩
  have LA := box hla
  have la6 : la ≤ 384 := by rw [← hla]; exact blen_le384 a ha
  clear hx hy hla
  go_enter Try.func12, Try.ntmps12
  go_wp2
  go_step3
  go_wp2_with fail
  go_step3
  go_wp2_with fail
  have R : RowsL w (((w.alloc (.cells (cw 6 a) 24)).alloc (.cells (cw 6 0) 24)).alloc (.cells (cw 6 a) 24)) [a, 0, a] := rowsL_new (rowsL_new (rowsL_new (rowsL_nil w) rfl a) (by simp) 0) (by simp) a
  refine (wlen_is a la ha LA.out _).mono ?_
  rintro e w1 ⟨rfl, hb1⟩
  have R1 : RowsL w w1 [a, 0, a] := rowsL_below R hb1
  clear hb1 R
  obtain ⟨N, hN⟩ : ∃ N : Nat, N = (la - 1) / 2 := ⟨_, rfl⟩
  have N1 : N ≤ 191 := by omega
  have N2 : la ≤ 2 * (N + 1) := by omega
  have N3 : ((la : Int) - 1).tdiv 2 = (N : Int) := by
    by_cases h : la = 0
    · subst h; subst hN; rfl
    · rw [Int.tdiv_eq_ediv_of_nonneg (by omega)]; omega
  clear hN
  have N4 := wrap_i64_is ((la : Int) - 1) (by omega) (by omega)
  have N5 := wrap_i64_is (N : Int) (by omega) (by omega)
  go_wp2
  go_loopw [4] (fun iv wr => ∃ (k root rest : Nat), iv = .int .i64 ((k : Int) - 1) ∧ k ≤ 192 ∧ RowsL w wr [a, root, rest] ∧ rest < Q ∧ Box (PsqSt a k root rest)) (fun iv _ => (intOf iv + 1).toNat)
  case atStart => exact ⟨N + 1, 0, a, by go_num, by omega, R1, ha, box (psq_start a (N + 1) (by rw [LA.out]; exact N2))⟩
  case round =>
    clear R1 N1 N2 N3 N4 N5
    obtain ⟨k, root, rest, rfl, k1, R, hr, HS⟩ := hrel
    by_cases hk : k = 0
    · obtain ⟨e1, e2⟩ := psq_end a k root rest hk HS.out
      have e3 := root_one e1 HX.out
      subst e3
      rw [HY.out] at e2
      subst e2
      subst hk
      go_wp2
      obtain ⟨F, hF1, hF2⟩ := below_fun wr
      have c1 : ∀ u o, o < 6 → (F u).cell? ⟨w.heap.size + 1, o, none⟩ = some (.int .u64 (wd root o : Nat)) := fun u => row_cell (rows1 (rowsL_below R (hF1 u)))
      have c2 : ∀ u o, o < 6 → (F u).cell? ⟨w.heap.size + 1 + 1, o, none⟩ = some (.int .u64 (wd y o : Nat)) := fun u => row_cell (rows2 (rowsL_below R (hF1 u)))
      have g1 : ∀ u, (storeCells ⟨w.heap.size + 1, 0, none⟩ (cw 6 root).toList 0).run Try.prog (F u) = .ok () (F u) := fun u => st_same _ _ _ (rows1 (rowsL_below R (hF1 u)))
      have g2 : ∀ u, (storeCells ⟨w.heap.size + 1 + 1, 0, none⟩ (cw 6 y).toList 0).run Try.prog (F u) = .ok () (F u) := fun u => st_same _ _ _ (rows2 (rowsL_below R (hF1 u)))
      refine wp_region_below F hF2 (by kernel_rfl) (by kernel_rfl) ?_
      repeat quiet_step (fail)
      refine wpQuiet_nil ?_
      rintro _ ⟨u, rfl⟩
      go_wp2
      rw [Exit.noGoto_ret]
      exact bodyPost_ret (v := .tuple #[.agg (cw 6 root), .agg (cw 6 y)]) (by simp [results, Try.results12, go_sem, c1, c2, hf]) rfl ⟨rfl, (rowsL_below R (hF1 u)).2⟩
    · obtain ⟨j, rfl⟩ : ∃ j, k = j + 1 := ⟨k - 1, by omega⟩
      have ej : (((j + 1 : Nat) : Int) - 1) = (j : Int) := by omega
      rw [ej]
      have j1 : j < 192 := by omega
      obtain ⟨step, h, e1, e2, sQ, hQ, pQ, rQ, tQ, f1, f2⟩ := psq_step a j root rest ha j1 HS.out
      obtain ⟨p, hp⟩ : ∃ p, 2 ^ (2 * j) = p := ⟨_, rfl⟩
      rw [hp] at e1 pQ tQ f2
      obtain ⟨t, ht⟩ : ∃ t, h ||| p = t := ⟨_, rfl⟩
      rw [ht] at tQ f2
      have E1 := box e1
      have E2 := box e2
      have HP := box hp
      have HT := box ht
      have F1 := box f1
      have F2 := box f2
      clear e1 e2 hp ht f1 f2 HS hk
      have ej2 : IntKind.i64.wrap (2 * (j : Int)) = ((2 * j : Nat) : Int) := by rw [wrap_i64_is _ (by omega) (by omega)]; omega
      go_wp2_with fail
      refine (qpower_is (2 * j) p _ (by first | rfl | omega) (by omega) HP.out _).mono ?_
      rintro e w2 ⟨rfl, hb2⟩
      have R2 := rowsL_below R hb2
      have z2 : w.heap.size + 1 + 1 < w2.heap.size := (Array.getElem?_eq_some_iff.1 (rows2 R2)).1
      clear hb2 R
      have c1 := row_cell (rows1 (rowsL_alloc R2 (.cells (cw 6 p) 24)))
      go_wp2_with fail
      refine (wor_is root p step rQ pQ E1.out _).mono ?_
      rintro e w3 ⟨rfl, hb3⟩
      have R3 := rowsL_below (rowsL_alloc R2 (.cells (cw 6 p) 24)) hb3
      have z3 : w.heap.size + 1 + 1 < w3.heap.size := (Array.getElem?_eq_some_iff.1 (rows2 R3)).1
      have P3 : w3.heap[w2.heap.size]? = some (.cells (cw 6 p) 24) := heap_of hb3 _ _ _ (heap_alloc_last _ _)
      clear hb3 R2 c1
      have c1 := row_cell (rows1 (rowsL_alloc R3 (.cells (cw 6 step) 24)))
      go_wp2_with fail
      refine (qhalf_is root h rQ E2.out _).mono ?_
      rintro e w4 ⟨rfl, hb4⟩
      have R4 := rowsL_below (rowsL_alloc R3 (.cells (cw 6 step) 24)) hb4
      have S4 : w4.heap[w3.heap.size]? = some (.cells (cw 6 step) 24) := heap_of hb4 _ _ _ (heap_alloc_last _ _)
      have P4 : w4.heap[w2.heap.size]? = some (.cells (cw 6 p) 24) := heap_of hb4 _ _ _ (by rw [heap_below _ _ _ (Array.getElem?_eq_some_iff.1 P3).1]; exact P3)
      clear hb4 R3 P3 c1
      have hs1 := st_any w4 (w.heap.size + 1) h root (rows1 R4)
      obtain ⟨W4, hW4⟩ : ∃ W4, W4 = w4.setRow (w.heap.size + 1) (cw 6 h) := ⟨_, rfl⟩
      rw [← hW4] at hs1
      have R5 : RowsL w W4 [a, h, rest] := by rw [hW4]; exact rowsL_set R4 1 h _ (by simp) rfl rfl
      have S5 : W4.heap[w3.heap.size]? = some (.cells (cw 6 step) 24) := by rw [hW4, setRow_other (by omega)]; exact S4
      have P5 : W4.heap[w2.heap.size]? = some (.cells (cw 6 p) 24) := by rw [hW4, setRow_other (by omega)]; exact P4
      clear R4 S4 P4 hW4
      have c2 := row_cell (rows2 R5)
      have cs := row_cell S5
      obtain ⟨c, hc⟩ : ∃ c, cmpv rest step = c := ⟨_, rfl⟩
      have CM := box hc
      by_cases hlt : rest < step
      · have hc2 : c = -1 := by rw [← hc]; unfold cmpv; rw [if_neg (by omega), if_pos hlt]
        subst hc2
        clear hc
        go_wp2_with fail
        refine (wcmp_is rest step (-1) hr sQ CM.out _).mono ?_
        rintro e w6 ⟨rfl, hb6⟩
        have R6 := rowsL_below R5 hb6
        clear hb6 R5 S5 P5 c2 cs hs1
        go_wp2
        go_roundw
        case rel => exact ⟨j, h, rest, by go_num, by omega, R6, hr, box (F1.out hlt)⟩
        case measure => simp [intOf] <;> omega
      · have hc2 : decide (c < 0) = false := by
          rw [← hc]; unfold cmpv
          by_cases e : rest = step
          · rw [if_pos e]; rfl
          · rw [if_neg e, if_neg hlt]; rfl
        clear hc
        go_wp2_with fail
        refine (wcmp_is rest step c hr sQ CM.out _).mono ?_
        rintro e w6 ⟨rfl, hb6⟩
        have R6 := rowsL_below R5 hb6
        have S6 := heap_of hb6 _ _ _ S5
        have P6 := heap_of hb6 _ _ _ P5
        clear hb6 R5 S5 P5 c2 cs hs1
        have c2 := row_cell (rows2 R6)
        have cs := row_cell S6
        obtain ⟨d, hd⟩ : ∃ d, rest - step = d := ⟨_, rfl⟩
        have dQ : d < Q := by omega
        have LS : Box ((rest + Q - step) % Q = d) := box (by rw [less_is rest step hr (by omega), hd])
        have ST2 : Box (PsqSt a j t d) := box (by rw [← hd]; exact F2.out (by omega))
        clear hd
        go_wp2_with fail
        refine (qless_is rest step d hr sQ LS.out _).mono ?_
        rintro e w7 ⟨rfl, hb7⟩
        have R7 := rowsL_below R6 hb7
        have P7 := heap_of hb7 _ _ _ P6
        clear hb7 R6 S6 P6 c2 cs
        have hs2' := st_any w7 (w.heap.size + 1 + 1) d rest (rows2 R7)
        obtain ⟨W7, hW7⟩ : ∃ W7, W7 = w7.setRow (w.heap.size + 1 + 1) (cw 6 d) := ⟨_, rfl⟩
        rw [← hW7] at hs2'
        have R8 : RowsL w W7 [a, h, d] := by rw [hW7]; exact rowsL_set R7 2 d _ (by simp) rfl rfl
        have P8 : W7.heap[w2.heap.size]? = some (.cells (cw 6 p) 24) := by rw [hW7, setRow_other (by omega)]; exact P7
        clear R7 P7 hW7
        have c1 := row_cell (rows1 R8)
        have cp := row_cell P8
        go_wp2_with fail
        refine (wor_is h p t hQ pQ HT.out _).mono ?_
        rintro e w9 ⟨rfl, hb9⟩
        have R9 := rowsL_below R8 hb9
        clear hb9 R8 P8 c1 cp hs2'
        have hs9 := st_any w9 (w.heap.size + 1) t h (rows1 R9)
        have R10 : RowsL w (w9.setRow (w.heap.size + 1) (cw 6 t)) [a, t, d] := rowsL_set R9 1 t _ (by simp) rfl rfl
        go_wp2
        go_roundw
        case rel => exact ⟨j, t, d, by go_num, by omega, R10, dQ, ST2⟩
        case measure => simp [intOf] <;> omega
end Go.Proofs.Ytflfgchnlcnibaa
