/-
  What Sqrt of the document's answer for layer 3 returns.
-/
import Derived.Test.YtflfgchnlcnibaaRquot1
import Derived.Test.YtflfgchnlcnibaaRwide3
namespace Go.Proofs.Ytflfgchnlcnibaa
open Go.RowKit WMath

set_option maxRecDepth 100000 in
set_option maxHeartbeats 2000000 in
theorem rsqrt_is (a x y : Nat) (ha : a < Q) (hx : RootIs a x) (hy : a - x * x = y) (w : World) :
    Calls Try.prog 13 #[.agg (cw 6 a)] w fun e w' => e = .returned (.tuple #[.agg (cw 6 x), .agg (cw 6 y)]) ∧ Below w.heap.size w w' := by
  have hat := cw_at 6
  have hz := cw6z
  have hf := cw6f
  have hs0 := st0
  have hcs : ∀ x, ((cw 6 x).size = 6) = True := fun x => eq_true (cw_size 6 x)
  have hQ := Q_pos
  have HX := box hx
  have HY := box hy
  have S0 : Box (SqrSt a 192 0) := box (by
    refine ⟨by omega, ?_, Nat.dvd_zero _⟩
    obtain ⟨L, hL, hQ⟩ := Qq384
    obtain ⟨M, hM⟩ : ∃ M, M = 192 := ⟨_, rfl⟩
    rw [← hM, Nat.zero_add, ← Nat.pow_add, show M + M = L by omega, ← hQ]
    exact ha)
  clear hx hy
  go_enter Try.func13, Try.ntmps13
  go_wp2
  have R1 : RowsL w ((((w.alloc (.cells (cw 6 a) 24)).alloc (.cells (cw 6 0) 24)).alloc (.cells (cw 6 0) 24)).alloc (.cells (cw 6 0) 24)) [a, 0, 0, 0] := rowsL_new (rowsL_new (rowsL_new (rowsL_new (rowsL_nil w) rfl a) (by simp) 0) (by simp) 0) (by simp) 0
  go_loopw [5] (fun iv wr => ∃ (k r : Nat), iv = .int .i64 ((k : Int) - 1) ∧ k ≤ 192 ∧ RowsL w wr [a, 0, 0, r] ∧ r < Q ∧ Box (SqrSt a k r)) (fun iv _ => (intOf iv + 1).toNat)
  case atStart => exact ⟨192, 0, rfl, by omega, R1, hQ, S0⟩
  case round =>
    clear R1 S0
    obtain ⟨k, r, rfl, k1, R, hr, HS⟩ := hrel
    by_cases hk : k = 0
    · have e1 := sqr_end a k r hk HS.out
      have e3 := root_one e1 HX.out
      subst e3
      subst hk
      obtain ⟨v, hv⟩ : ∃ v, r * r = v := ⟨_, rfl⟩
      have va : v ≤ a := by rw [← hv]; exact e1.1
      have vQ : v < Q := by omega
      have HM : Box (r * r % Q = v) := box (by rw [hv, Nat.mod_eq_of_lt vQ])
      have HV : Box ((a + Q - v) % Q = y) := box (by rw [less_is a v ha va, ← hv, HY.out])
      clear hv e1
      have c3 := row_cell (rows3 R)
      go_wp2_with fail
      refine (rwmul_is r r v _ hr hr HM.out rfl _).mono ?_
      rintro e w2 ⟨rfl, hb2⟩
      have R2 := rowsL_alloc (rowsL_below R hb2) (.cells (cw 6 v) 24)
      clear hb2 R c3
      have c0 := row_cell (rows0 R2)
      go_wp2_with fail
      refine (rwsub_is a v y _ ha vQ HV.out rfl _).mono ?_
      rintro e w3 ⟨rfl, hb3⟩
      have R3 := rowsL_alloc (rowsL_below R2 hb3) (.cells (cw 6 y) 24)
      have z3 := rowsL_size (rowsL_below R2 hb3) 3 _ rfl
      have Y3 : (w3.alloc (.cells (cw 6 y) 24)).heap[w3.heap.size]? = some (.cells (cw 6 y) 24) := heap_alloc_last _ _
      clear hb3 R2 c0
      obtain ⟨W4, hW4⟩ : ∃ W4, w3.alloc (.cells (cw 6 y) 24) = W4 := ⟨_, rfl⟩
      rw [hW4] at R3 Y3
      obtain ⟨W5, hW5⟩ : ∃ W5, W5 = W4.setRow (w.heap.size + 1) (cw 6 r) := ⟨_, rfl⟩
      have R5 : RowsL w W5 [a, r, 0, r] := by rw [hW5]; exact rowsL_set R3 1 r _ (by simp) rfl rfl
      have Y5 : W5.heap[w3.heap.size]? = some (.cells (cw 6 y) 24) := by rw [hW5, setRow_other (by omega)]; exact Y3
      have g5 : (storeCells ⟨w.heap.size + 1, 0, none⟩ (cw 6 r).toList 0).run Try.prog W4.drew = .ok () W5.drew := by
        rw [hW5]; exact st_any (W4.drewN 1) _ r 0 (rows1 (rowsL_drew R3 1))
      obtain ⟨W6, hW6⟩ : ∃ W6, W6 = W5.setRow (w.heap.size + 1 + 1) (cw 6 y) := ⟨_, rfl⟩
      have R6 : RowsL w W6 [a, r, y, r] := by rw [hW6]; exact rowsL_set R5 2 y _ (by simp) rfl rfl
      have g6 : (storeCells ⟨w.heap.size + 1 + 1, 0, none⟩ (cw 6 y).toList 0).run Try.prog W5.drew = .ok () W6.drew := by
        rw [hW6]; exact st_any (W5.drewN 1) _ y 0 (rows2 (rowsL_drew R5 1))
      have c3 := row_cell (rows3 R3)
      have cy := row_cell Y3
      have cy5 := row_cell Y5
      have d1 := row_cell (rows1 R6)
      have d2 := row_cell (rows2 R6)
      clear hW5 hW6
      go_wp2
      clear hW4
      go_region
      all_goals
        go_wp2
        exact bodyPost_ret (v := .tuple #[.agg (cw 6 r), .agg (cw 6 y)]) (by simp [results, Try.results13, go_sem, d1, d2, hf]) rfl ⟨rfl, (rowsL_drew R6 1).2⟩
    · obtain ⟨j, rfl⟩ : ∃ j, k = j + 1 := ⟨k - 1, by omega⟩
      have ej : (((j + 1 : Nat) : Int) - 1) = (j : Int) := by omega
      rw [ej]
      have j1 : j < 192 := by omega
      obtain ⟨t, ht⟩ : ∃ t, r + 2 ^ j = t := ⟨_, rfl⟩
      have hor := qor_pow r j HS.out.2.2
      rw [ht] at hor
      have tQ : t < Q := by rw [← hor]; exact or_ltQ _ _ hr (pow_ltQ j (by omega))
      have ST := sqr_step a j r HS.out
      rw [ht] at ST
      have STB := box ST
      obtain ⟨v, hv⟩ : ∃ v, t * t % Q = v := ⟨_, rfl⟩
      have vQ : v < Q := by rw [← hv]; exact Nat.mod_lt _ hQ
      obtain ⟨o, ho⟩ : ∃ o, decide (Q ≤ t * t) = o := ⟨_, rfl⟩
      obtain ⟨jq, hjq⟩ : ∃ q, q = j / 64 := ⟨_, rfl⟩
      obtain ⟨jr, hjr⟩ : ∃ r, r = j % 64 := ⟨_, rfl⟩
      have t2 : (j : Int) / 64 = (jq : Int) := by omega
      have t3 : (j : Int) % 64 = (jr : Int) := by omega
      have t4 : jq < 6 := by omega
      have t5 : jr < 64 := by omega
      obtain ⟨x, hx⟩ : ∃ x, x = 2 ^ jr := ⟨_, rfl⟩
      have x1 : x < 18446744073709551616 := by rw [hx]; exact v_word jr t5
      have x2 : IntKind.u64.wrap ((2 : Int) ^ jr) = (x : Int) := by rw [pow_cast, wrap_nat _ (v_word jr t5), hx]
      have x3 := bor r jq x x1
      have hcw : (cw 6 r).setIfInBounds jq (.int .u64 ((wd r jq ||| x : Nat) : Int)) = cw 6 t := cw_or 6 r jq x t t4 x1 (by rw [hx, one_bit j jq jr hjq hjr, hor])
      have HV := box hv
      have HO := box ho
      have cases3 : (o = true ∧ Box (SqrSt a j r)) ∨ (o = false ∧ v ≤ a ∧ Box (SqrSt a j t)) ∨ (o = false ∧ a < v ∧ Box (SqrSt a j r)) := by
        by_cases h1 : Q ≤ t * t
        · exact Or.inl ⟨by rw [← ho]; exact decide_eq_true h1, box (ST.1 (by omega))⟩
        · have e1 : o = false := by rw [← ho]; exact decide_eq_false h1
          have e2 : v = t * t := by rw [← hv, Nat.mod_eq_of_lt (by omega)]
          by_cases h2 : t * t ≤ a
          · exact Or.inr (Or.inl ⟨e1, by omega, box (ST.2 h2)⟩)
          · exact Or.inr (Or.inr ⟨e1, by omega, box (ST.1 (by omega))⟩)
      clear hjq hjr hx hv ho ht hor ST STB HS
      have c3 := row_cell (rows3 R)
      go_wp2_with fail
      refine (rwmul_is t t v o tQ tQ HV.out HO.out _).mono ?_
      rintro e w2 ⟨rfl, hb2⟩
      have T1 := heap_of hb2 _ _ _ (heap_alloc_last wr (.cells (cw 6 t) 24))
      have z2 : wr.heap.size < w2.heap.size := (Array.getElem?_eq_some_iff.1 T1).1
      have z1 := rowsL_size R 3 _ rfl
      have R2 := rowsL_alloc (rowsL_below (rowsL_alloc R (.cells (cw 6 t) 24)) hb2) (.cells (cw 6 v) 24)
      have T2 : (w2.alloc (.cells (cw 6 v) 24)).heap[wr.heap.size]? = some (.cells (cw 6 t) 24) := by rw [heap_below _ _ _ z2]; exact T1
      clear hb2 R c3 T1 hcw HV HO
      have c0 := row_cell (rows0 R2)
      rcases cases3 with ⟨rfl, ST⟩ | ⟨rfl, hle, ST⟩ | ⟨rfl, hlt, ST⟩
      · go_wp2
        go_roundw
        case rel => exact ⟨j, r, by go_num, by omega, R2, hr, ST⟩
        case measure => simp [intOf] <;> omega
      · obtain ⟨c, hc⟩ : ∃ c, cmpv v a = c := ⟨_, rfl⟩
        have CM := box hc
        have hc2 : decide (c ≤ 0) = true := by
          rw [← hc]; unfold cmpv
          by_cases e : v = a
          · rw [if_pos e]; rfl
          · rw [if_neg e, if_pos (by omega)]; rfl
        clear hc
        go_wp2_with fail
        refine (rwcmp_is v a c vQ ha CM.out _).mono ?_
        rintro e w6 ⟨rfl, hb6⟩
        have R6 := rowsL_below R2 hb6
        have T6 := heap_of hb6 _ _ _ T2
        clear hb6 R2 T2 c0
        have ct := row_cell T6
        have hs6 := st_any w6 (w.heap.size + 1 + 1 + 1) t r (rows3 R6)
        have R7 : RowsL w (w6.setRow (w.heap.size + 1 + 1 + 1) (cw 6 t)) [a, 0, 0, t] := rowsL_set R6 3 t _ (by simp) rfl rfl
        go_wp2
        go_roundw
        case rel => exact ⟨j, t, by go_num, by omega, R7, tQ, ST⟩
        case measure => simp [intOf] <;> omega
      · have CM : Box (cmpv v a = 1) := box (by unfold cmpv; rw [if_neg (by omega), if_neg (by omega)])
        go_wp2_with fail
        refine (rwcmp_is v a 1 vQ ha CM.out _).mono ?_
        rintro e w6 ⟨rfl, hb6⟩
        have R6 := rowsL_below R2 hb6
        clear hb6 R2 T2 c0
        go_wp2
        go_roundw
        case rel => exact ⟨j, r, by go_num, by omega, R6, hr, ST⟩
        case measure => simp [intOf] <;> omega
end Go.Proofs.Ytflfgchnlcnibaa
