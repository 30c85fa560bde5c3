/-
  What Div of package quot returns.
-/
import Derived.Test.YtflfgchnlcnibaaQuot1
import Derived.Deep.RegionWith
namespace Go.Proofs.Ytflfgchnlcnibaa
open Go.RowKit WMath

/-- The first boxes that a call has made, in their order; whatever was there before is as it was. -/
def RowsL (w wr : World) (l : List Nat) : Prop := (∀ i x, l[i]? = some x → wr.heap[w.heap.size + i]? = some (.cells (cw 6 x) 24)) ∧ Below w.heap.size w wr
theorem rowsL_nil (w : World) : RowsL w w [] := ⟨fun i x h => by simp at h, Below.refl _ _⟩
theorem rowsL_new {w wr : World} {l : List Nat} (h : RowsL w wr l) (hs : wr.heap.size = w.heap.size + l.length) (x : Nat) : RowsL w (wr.alloc (.cells (cw 6 x) 24)) (l ++ [x]) := by
  refine ⟨fun i y hy => ?_, h.2.alloc (by omega) _⟩
  rw [List.getElem?_append] at hy
  split at hy
  · rw [heap_below _ _ _ (by omega)]; exact h.1 i y hy
  · have e : i = l.length := by
      have := (List.getElem?_eq_some_iff.1 hy).1
      simp at this; omega
    subst e
    simp at hy
    subst hy
    rw [← hs]
    exact heap_alloc_last _ _
theorem rowsL_below {w wr w2 : World} {l : List Nat} (h : RowsL w wr l) (hb : Below wr.heap.size wr w2) : RowsL w w2 l :=
  ⟨fun i x hx => heap_of hb _ _ _ (h.1 i x hx), h.2.trans (hb.mono h.2.size)⟩
theorem rowsL_alloc {w wr : World} {l : List Nat} (h : RowsL w wr l) (o : Obj) : RowsL w (wr.alloc o) l :=
  rowsL_below h ((Below.refl _ _).alloc (Nat.le_refl _) _)
theorem rowsL_drew {w wr : World} {l : List Nat} (h : RowsL w wr l) (d : Nat) : RowsL w (wr.drewN d) l := ⟨h.1, below_drewN h.2 d⟩
theorem rowsL_set {w wr : World} {l l2 : List Nat} (h : RowsL w wr l) (i x b : Nat) (hi : i < l.length) (hb : b = w.heap.size + i) (hl : l2 = l.set i x) : RowsL w (wr.setRow b (cw 6 x)) l2 := by
  subst hb
  subst hl
  refine ⟨fun j y hy => ?_, Below.setRow h.2 (by omega)⟩
  by_cases e : i = j
  · subst e
    rw [List.getElem?_set_self hi] at hy
    cases hy
    exact setRow_row (h.1 i _ (List.getElem?_eq_getElem hi))
  · rw [List.getElem?_set_ne e] at hy
    rw [setRow_other (by omega)]
    exact h.1 j y hy

theorem rows0 {w wr : World} {x : Nat} {l : List Nat} (h : RowsL w wr (x :: l)) : wr.heap[w.heap.size]? = some (.cells (cw 6 x) 24) := h.1 0 _ rfl
theorem rows1 {w wr : World} {x y : Nat} {l : List Nat} (h : RowsL w wr (x :: y :: l)) : wr.heap[w.heap.size + 1]? = some (.cells (cw 6 y) 24) := h.1 1 _ rfl
theorem rows2 {w wr : World} {x y z : Nat} {l : List Nat} (h : RowsL w wr (x :: y :: z :: l)) : wr.heap[w.heap.size + 1 + 1]? = some (.cells (cw 6 z) 24) := h.1 2 _ rfl
theorem rows3 {w wr : World} {x y z u : Nat} {l : List Nat} (h : RowsL w wr (x :: y :: z :: u :: l)) : wr.heap[w.heap.size + 1 + 1 + 1]? = some (.cells (cw 6 u) 24) := h.1 3 _ rfl

theorem wrap_i64_is (n : Int) (h1 : -9223372036854775808 ≤ n) (h2 : n ≤ 9223372036854775807) : IntKind.i64.wrap n = n := by
  simp [IntKind.wrap, IntKind.bits, IntKind.signed]; omega

theorem less_is (r s : Nat) (hr : r < Q) (h : s ≤ r) : (r + Q - s) % Q = r - s := by
  rw [show r + Q - s = (r - s) + Q by omega, Nat.add_mod_right, Nat.mod_eq_of_lt (by omega)]

theorem qdiv_zero (a : Nat) (w : World) :
    Calls Try.prog 9 #[.agg (cw 6 a), .agg (cw 6 0)] w fun e w' => e = .returned (.tuple #[.agg (cw 6 0), .agg (cw 6 0), .int .i64 2]) ∧ Below w.heap.size w w' := by
  have hat := cw_at 6
  have hz := cw6z
  have hf := cw6f
  have hQ := Q_pos
  go_enter Try.func9, Try.ntmps9
  go_wp2_with fail
  have R := rowsL_new (rowsL_new (rowsL_new (rowsL_new (rowsL_nil w) rfl a) (by simp) 0) (by simp) 0) (by simp) 0
  refine (qzero_is 0 true hQ rfl _).mono ?_
  rintro e w1 ⟨rfl, hb1⟩
  have R1 : RowsL w w1 [a, 0, 0, 0] := rowsL_below R hb1
  clear hb1 R
  have hs2 := st_same w1 (w.heap.size + 1 + 1) 0 (rows2 R1)
  have hs3 := st_same w1 (w.heap.size + 1 + 1 + 1) 0 (rows3 R1)
  have c2 := row_cell (rows2 R1)
  have c3 := row_cell (rows3 R1)
  go_wp2
  exact bodyPost_ret (v := .tuple #[.agg (cw 6 0), .agg (cw 6 0), .int .i64 2]) (by simp [results, Try.results9, go_sem, c2, c3, hf]) rfl ⟨rfl, R1.2⟩

set_option maxRecDepth 100000 in
set_option maxHeartbeats 1000000 in
theorem qdiv_is (a b q0 r0 : Nat) (ha : a < Q) (hb : b < Q) (hb0 : b ≠ 0) (hq0 : a / b = q0) (hr0 : a % b = r0) (w : World) :
    Calls Try.prog 9 #[.agg (cw 6 a), .agg (cw 6 b)] w fun e w' => e = .returned (.tuple #[.agg (cw 6 q0), .agg (cw 6 r0), .int .i64 0]) ∧ Below w.heap.size w w' := by
  have hat := cw_at 6
  have hz := cw6z
  have hf := cw6f
  have hs0 := st0
  have hcs : ∀ x, ((cw 6 x).size = 6) = True := fun x => eq_true (cw_size 6 x)
  have HQ := box hq0
  have HR := box hr0
  have HB0 := box hb0
  have HZ : Box (decide (b = 0) = false) := box (decide_eq_false hb0)
  obtain ⟨la, hla⟩ : ∃ x, blen a = x := ⟨_, rfl⟩
  obtain ⟨lb, hlb⟩ : ∃ x, blen b = x := ⟨_, rfl⟩
  have LA := box hla
  have LB := box hlb
  have la6 : la ≤ 384 := by rw [← hla]; exact blen_le384 a ha
  have lb6 : lb ≤ 384 := by rw [← hlb]; exact blen_le384 b hb
  have lb0 : 0 < lb := by rw [← hlb]; exact blen_pos b hb0
  clear hq0 hr0 hb0 hla hlb
  go_enter Try.func9, Try.ntmps9
  go_wp2_with fail
  have R := rowsL_new (rowsL_new (rowsL_new (rowsL_new (rowsL_nil w) rfl a) (by simp) b) (by simp) 0) (by simp) 0
  refine (qzero_is b false hb HZ.out _).mono ?_
  rintro e w1 ⟨rfl, hb1⟩
  have R1 : RowsL w w1 [a, b, 0, 0] := rowsL_below R hb1
  clear hb1 R
  have hs3 := st_any w1 (w.heap.size + 1 + 1 + 1) a 0 (rows3 R1)
  have c0 := row_cell (rows0 R1)
  obtain ⟨W, hW⟩ : ∃ W, W = w1.setRow (w.heap.size + 1 + 1 + 1) (cw 6 a) := ⟨_, rfl⟩
  rw [← hW] at hs3
  have RW : RowsL w W [a, b, 0, a] := by rw [hW]; exact rowsL_set R1 3 a _ (by simp) rfl rfl
  clear R1 hW
  go_wp2
  obtain ⟨F, hF1, hF2⟩ := below_fun W
  have f0 : ∀ u o, o < 6 → (F u).cell? ⟨w.heap.size, o, none⟩ = some (.int .u64 (wd a o : Nat)) := fun u => row_cell (rows0 (rowsL_below RW (hF1 u)))
  have f1 : ∀ u o, o < 6 → (F u).cell? ⟨w.heap.size + 1, o, none⟩ = some (.int .u64 (wd b o : Nat)) := fun u => row_cell (rows1 (rowsL_below RW (hF1 u)))
  refine wp_region_below F hF2 (by kernel_rfl) (by kernel_rfl) ?_
  quiet_step (fail)
  quiet_step ((go_at_call 21; exact quietF hF1 hF2 (wlen_is a la ha LA.out _)))
  quiet_step (fail)
  quiet_step ((go_at_call 21; exact quietF hF1 hF2 (wlen_is b lb hb LB.out _)))
  repeat quiet_step (fail)
  refine wpQuiet_nil ?_
  rintro _ ⟨u, rfl⟩
  have RU := rowsL_below RW (hF1 u)
  generalize F u = W1 at RU ⊢
  clear hF1 hF2 f0 f1 RW hs3 c0
  obtain ⟨N, hN⟩ : ∃ N : Int, N = (la : Int) - (lb : Int) := ⟨_, rfl⟩
  have N1 : N ≤ 383 := by omega
  have N2 : -384 ≤ N := by omega
  have NE : Box (N = (blen a : Int) - (blen b : Int)) := box (by rw [LA.out, LB.out]; exact hN)
  rw [← hN, wrap_i64_is N (by omega) (by omega)]
  clear hN
  go_wp2
  go_loopw [7] (fun iv wr => ∃ (n : Int) (q r : Nat), iv = .int .i64 n ∧ -384 ≤ n + 1 ∧ n ≤ N ∧ RowsL w wr [a, b, q, r] ∧ q < Q ∧ r < Q ∧ Box (QdivSt a b (n + 1).toNat q r)) (fun iv _ => (intOf iv + 1).toNat)
  case atStart => exact ⟨N, 0, a, rfl, by omega, Int.le_refl _, RU, Q_pos, ha, box (qdiv_start a b N HB0.out NE.out)⟩
  case round =>
    clear RU
    obtain ⟨n, q, r, rfl, n1, n2, R, hq, hr, HS⟩ := hrel
    by_cases hn : n < 0
    · obtain ⟨e1, e2⟩ := qdiv_end a b _ q r (by omega) HS.out
      rw [HQ.out] at e1
      rw [HR.out] at e2
      subst e1
      subst e2
      go_wp2
      obtain ⟨F, hF1, hF2⟩ := below_fun wr
      have c2 : ∀ u o, o < 6 → (F u).cell? ⟨w.heap.size + 1 + 1, o, none⟩ = some (.int .u64 (wd q o : Nat)) := fun u => row_cell (rows2 (rowsL_below R (hF1 u)))
      have c3 : ∀ u o, o < 6 → (F u).cell? ⟨w.heap.size + 1 + 1 + 1, o, none⟩ = some (.int .u64 (wd r o : Nat)) := fun u => row_cell (rows3 (rowsL_below R (hF1 u)))
      have g2 : ∀ u, (storeCells ⟨w.heap.size + 1 + 1, 0, none⟩ (cw 6 q).toList 0).run Try.prog (F u) = .ok () (F u) := fun u => st_same _ _ _ (rows2 (rowsL_below R (hF1 u)))
      have g3 : ∀ u, (storeCells ⟨w.heap.size + 1 + 1 + 1, 0, none⟩ (cw 6 r).toList 0).run Try.prog (F u) = .ok () (F u) := fun u => st_same _ _ _ (rows3 (rowsL_below R (hF1 u)))
      refine wp_region_below F hF2 (by kernel_rfl) (by kernel_rfl) ?_
      repeat quiet_step (fail)
      refine wpQuiet_nil ?_
      rintro _ ⟨u, rfl⟩
      go_wp2
      exact bodyPost_ret (v := .tuple #[.agg (cw 6 q), .agg (cw 6 r), .int .i64 0]) (by simp [results, Try.results9, go_sem, c2, c3, hf]) rfl ⟨rfl, (rowsL_below R (hF1 u)).2⟩
    · obtain ⟨k, rfl⟩ : ∃ k : Nat, n = (k : Int) := ⟨n.toNat, by omega⟩
      rw [show ((k : Int) + 1).toNat = k + 1 by omega] at HS
      obtain ⟨s, hs⟩ : ∃ s, b * 2 ^ k = s := ⟨_, rfl⟩
      have sQ : s < Q := by rw [← hs]; exact qdiv_shift a b k ha N n2 NE.out
      have k6 : k < 384 := by omega
      have hc6 : cnt6 (k : Int) = k := by unfold cnt6; omega
      have UP : Box (b * 2 ^ cnt6 (k : Int) % Q = s) := box (by rw [hc6, hs, Nat.mod_eq_of_lt sQ])
      have ST := box (qdiv_step a b k q r HS.out)
      rw [hs] at ST
      clear hs hc6 HS
      have c1 := row_cell (rows1 R)
      go_wp2_with fail
      refine (qup_is b s (k : Int) hb UP.out _).mono ?_
      rintro e w2 ⟨rfl, hb2⟩
      have R2 := rowsL_below R hb2
      clear hb2 R c1
      have c3 := row_cell (rows3 (rowsL_alloc R2 (.cells (cw 6 s) 24)))
      obtain ⟨c, hc⟩ : ∃ c, cmpv r s = c := ⟨_, rfl⟩
      have CM := box hc
      by_cases hlt : r < s
      · have hc2 : c = -1 := by rw [← hc]; unfold cmpv; rw [if_neg (by omega), if_pos hlt]
        subst hc2
        clear hc
        go_wp2_with fail
        refine (wcmp_is r s (-1) hr sQ CM.out _).mono ?_
        rintro e w3 ⟨rfl, hb3⟩
        have R3 := rowsL_below (rowsL_alloc R2 (.cells (cw 6 s) 24)) hb3
        clear hb3 R2 c3
        go_wp2
        go_roundw
        case rel => exact ⟨(k : Int) - 1, q, r, by go_num, by omega, by omega, R3, hq, hr, box (by rw [show ((k : Int) - 1 + 1).toNat = k by omega]; exact ST.out.1 hlt)⟩
        case measure => simp [intOf] <;> omega
      · have hc2 : decide (0 ≤ c) = true := by
          rw [← hc]; unfold cmpv
          by_cases e : r = s
          · rw [if_pos e]; rfl
          · rw [if_neg e, if_neg hlt]; rfl
        clear hc
        go_wp2_with fail
        refine (wcmp_is r s c hr sQ CM.out _).mono ?_
        rintro e w3 ⟨rfl, hb3⟩
        have R3 := rowsL_below (rowsL_alloc R2 (.cells (cw 6 s) 24)) hb3
        have S3 : w3.heap[w2.heap.size]? = some (.cells (cw 6 s) 24) := heap_of hb3 _ _ _ (heap_alloc_last _ _)
        clear hb3 R2 c3
        have c3 := row_cell (rows3 R3)
        have cs := row_cell S3
        obtain ⟨d, hd⟩ : ∃ d, r - s = d := ⟨_, rfl⟩
        have dQ : d < Q := by omega
        have LS : Box ((r + Q - s) % Q = d) := box (by rw [less_is r s hr (by omega), hd])
        have ST2 : Box (QdivSt a b k (q ||| 2 ^ k) d) := box (by rw [← hd]; exact ST.out.2 (by omega))
        clear hd
        go_wp2_with fail
        refine (qless_is r s d hr sQ LS.out _).mono ?_
        rintro e w4 ⟨rfl, hb4⟩
        have R4 := rowsL_below R3 hb4
        clear hb4 R3 S3 c3 cs
        have hs3 := st_any w4 (w.heap.size + 1 + 1 + 1) d r (rows3 R4)
        obtain ⟨W4, hW4⟩ : ∃ W4, W4 = w4.setRow (w.heap.size + 1 + 1 + 1) (cw 6 d) := ⟨_, rfl⟩
        rw [← hW4] at hs3
        have R5 : RowsL w W4 [a, b, q, d] := by rw [hW4]; exact rowsL_set R4 3 d _ (by simp) rfl rfl
        clear R4 hW4
        obtain ⟨p, hp⟩ : ∃ p, 2 ^ k = p := ⟨_, rfl⟩
        have pQ : p < Q := by rw [← hp]; exact pow_ltQ k k6
        obtain ⟨t, ht⟩ : ∃ t, q ||| p = t := ⟨_, rfl⟩
        have tQ : t < Q := by rw [← ht]; exact or_ltQ q p hq pQ
        rw [hp, ht] at ST2
        have HP := box hp
        have HT := box ht
        clear hp ht
        go_wp2
        clear hs3
        have c5 := row_cell (rows2 R5)
        go_region_with (first
          | (go_at_call 25; refine (qpower_is k p (k : Int) rfl k6 HP.out _).mono ?_; rintro e w6 ⟨rfl, hb6⟩; have R6 := rowsL_below (rowsL_drew R5 _) hb6; have c6 := row_cell (rows2 R6))
          | (go_at_call 24; refine (wor_is q p t hq pQ HT.out _).mono ?_; rintro e w7 ⟨rfl, hb7⟩; have R7 := rowsL_below R6 hb7; have hst := st_any w7 (w.heap.size + 1 + 1) t q (rows2 R7)))
        all_goals
          have R8 : RowsL w (w7.setRow (w.heap.size + 1 + 1) (cw 6 t)) [a, b, t, d] := rowsL_set R7 2 t _ (by simp) rfl rfl
          go_wp2
          go_roundw
          case rel => exact ⟨(k : Int) - 1, t, d, by go_num, by omega, by omega, R8, tQ, dQ, box (by rw [show ((k : Int) - 1 + 1).toNat = k by omega]; exact ST2.out)⟩
          case measure => simp [intOf] <;> omega
end Go.Proofs.Ytflfgchnlcnibaa
