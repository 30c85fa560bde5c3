/-
  What Div of the document's answer for layer 3 returns.
-/
import Derived.Test.YtflfgchnlcnibaaQuot2
import Derived.Test.YtflfgchnlcnibaaRlen
import Derived.Test.YtflfgchnlcnibaaRwide1
import Derived.Test.YtflfgchnlcnibaaRwide2
namespace Go.Proofs.Ytflfgchnlcnibaa
open Go.RowKit WMath

theorem rows4 {w wr : World} {x0 x1 x2 x3 x : Nat} {l : List Nat} (h : RowsL w wr (x0 :: x1 :: x2 :: x3 :: x :: l)) : wr.heap[w.heap.size + 1 + 1 + 1 + 1]? = some (.cells (cw 6 x) 24) := h.1 4 _ rfl
theorem rows5 {w wr : World} {x0 x1 x2 x3 x4 x : Nat} {l : List Nat} (h : RowsL w wr (x0 :: x1 :: x2 :: x3 :: x4 :: x :: l)) : wr.heap[w.heap.size + 1 + 1 + 1 + 1 + 1]? = some (.cells (cw 6 x) 24) := h.1 5 _ rfl
theorem rowsL_setCell {w wr : World} {l l2 : List Nat} (h : RowsL w wr l) (i x y b o : Nat) (v : Value) (hi : l[i]? = some x) (hb : b = w.heap.size + i) (hv : (cw 6 x).setIfInBounds o v = cw 6 y) (hl : l2 = l.set i y) : RowsL w (wr.setCell ⟨b, o, none⟩ v) l2 := by
  subst hb
  subst hl
  refine ⟨fun j z hz => ?_, h.2.setCell (by show w.heap.size ≤ w.heap.size + i; omega) _⟩
  by_cases e : i = j
  · subst e
    rw [List.getElem?_set_self (List.getElem?_eq_some_iff.1 hi).1] at hz
    cases hz
    rw [setCell_row (h.1 i _ hi), hv]
  · rw [List.getElem?_set_ne e] at hz
    rw [setCell_other (by omega)]
    exact h.1 j z hz
theorem rowsL_other {w wr : World} {l : List Nat} (h : RowsL w wr l) (b o : Nat) (v : Value) (hb : w.heap.size + l.length ≤ b) : RowsL w (wr.setCell ⟨b, o, none⟩ v) l :=
  ⟨fun j z hz => by
    have := (List.getElem?_eq_some_iff.1 hz).1
    rw [setCell_other (by omega)]
    exact h.1 j z hz, h.2.setCell (by show w.heap.size ≤ b; omega) _⟩
theorem rowsL_size {w wr : World} {l : List Nat} (h : RowsL w wr l) (i x : Nat) (hi : l[i]? = some x) : w.heap.size + i < wr.heap.size :=
  (Array.getElem?_eq_some_iff.1 (h.1 i x hi)).1
theorem qor_one (s : Nat) (h : s % 2 = 0) : s ||| 1 * 2 ^ (64 * 0) = s + 1 := by
  rw [Nat.mul_zero, Nat.pow_zero, Nat.mul_one]
  exact qor_add s 1 1 ⟨s / 2, by omega⟩ (by decide)
/-- One bit as a word at its place. -/
theorem one_bit (j q r : Nat) (hq : q = j / 64) (hr : r = j % 64) : 2 ^ r * 2 ^ (64 * q) = 2 ^ j := by
  rw [← Nat.pow_add]; congr 1; omega

theorem rdiv_zero (a : Nat) (w : World) :
    Calls Try.prog 10 #[.agg (cw 6 a), .agg (cw 6 0)] w fun e w' => e = .returned (.tuple #[.agg (cw 6 0), .agg (cw 6 0), .int .i64 2]) ∧ Below w.heap.size w w' := by
  have hat := cw_at 6
  have hz := cw6z
  have hf := cw6f
  have hs0 := st0
  have hs1 := st1
  have heq := eq6
  have hg := eqg6
  have hQ := Q_pos
  have hcs : ∀ x, ((cw 6 x).size = 6) = True := fun x => eq_true (cw_size 6 x)
  go_enter Try.func10, Try.ntmps10
  go_wp2
  exact bodyPost_ret (v := .tuple #[.agg (cw 6 0), .agg (cw 6 0), .int .i64 2]) (by simp [results, Try.results10, go_sem, hat, hf]) rfl ⟨rfl, ((((Below.refl _ _).alloc (Nat.le_refl _) _).alloc (by simp <;> omega) _).alloc (by simp <;> omega) _).alloc (by simp <;> omega) _⟩

set_option maxRecDepth 100000 in
set_option maxHeartbeats 2000000 in
theorem rdiv_is (a b q0 r0 : Nat) (ha : a < Q) (hb : b < Q) (hb0 : b ≠ 0) (hq0 : a / b = q0) (hr0 : a % b = r0) (w : World) :
    Calls Try.prog 10 #[.agg (cw 6 a), .agg (cw 6 b)] w fun e w' => e = .returned (.tuple #[.agg (cw 6 q0), .agg (cw 6 r0), .int .i64 0]) ∧ Below w.heap.size w w' := by
  have hat := cw_at 6
  have hz := cw6z
  have hf := cw6f
  have hs0 := st0
  have hcs : ∀ x, ((cw 6 x).size = 6) = True := fun x => eq_true (cw_size 6 x)
  have heq := eq6
  have hg := eqg6
  have hQ := Q_pos
  have HQ := box hq0
  have HR := box hr0
  have hbz : decide (b = 0) = false := decide_eq_false hb0
  have HB0 : Box (0 < b) := box (by omega)
  obtain ⟨la, hla⟩ : ∃ x, blen a = x := ⟨_, rfl⟩
  have LA := box hla
  have la6 : la ≤ 384 := by rw [← hla]; exact blen_le384 a ha
  clear hq0 hr0 hb0 hla
  go_enter Try.func10, Try.ntmps10
  go_wp2_with fail
  have R := rowsL_new (rowsL_new (rowsL_new (rowsL_new (rowsL_new (rowsL_new (rowsL_nil w) rfl a) (by simp) b) (by simp) 0) (by simp) 0) (by simp) 0) (by simp) 0
  have L1 := rwlen_any a ha
  rw [LA.out] at L1
  refine (L1 _).mono ?_
  rintro e w1 ⟨rfl, hb1⟩
  have R1 : RowsL w w1 [a, b, 0, 0, 0, 0] := rowsL_below R hb1
  clear hb1 R L1 hbz
  have N4 := wrap_i64_is ((la : Int) - 1) (by omega) (by omega)
  go_wp2
  go_loopw [9] (fun iv wr => ∃ (k q r : Nat), iv = .int .i64 ((k : Int) - 1) ∧ k ≤ 384 ∧ RowsL w wr [a, b, 0, 0, q, r] ∧ q < Q ∧ r < Q ∧ Box (RdivSt a b k q r)) (fun iv _ => (intOf iv + 1).toNat)
  case atStart => exact ⟨la, 0, 0, by first | rfl | go_num, la6, R1, hQ, hQ, box (rdiv_start a b la LA.out.symm)⟩
  case round =>
    clear R1 N4 LA la6
    obtain ⟨k, q, r, rfl, k1, R, hq, hr, HS⟩ := hrel
    by_cases hk : k = 0
    · obtain ⟨e1, e2⟩ := rdiv_end a b k q r hk HS.out
      rw [HQ.out] at e1
      rw [HR.out] at e2
      subst e1
      subst e2
      subst hk
      obtain ⟨W2, hW2⟩ : ∃ W2, W2 = wr.setRow (w.heap.size + 1 + 1) (cw 6 q) := ⟨_, rfl⟩
      have R2 : RowsL w W2 [a, b, q, 0, q, r] := by rw [hW2]; exact rowsL_set R 2 q _ (by simp) rfl rfl
      have g2 : (storeCells ⟨w.heap.size + 1 + 1, 0, none⟩ (cw 6 q).toList 0).run Try.prog wr.drew = .ok () W2.drew := by
        rw [hW2]; exact st_any (wr.drewN 1) _ q 0 (rows2 (rowsL_drew R 1))
      obtain ⟨W3, hW3⟩ : ∃ W3, W3 = W2.setRow (w.heap.size + 1 + 1 + 1) (cw 6 r) := ⟨_, rfl⟩
      have R3 : RowsL w W3 [a, b, q, r, q, r] := by rw [hW3]; exact rowsL_set R2 3 r _ (by simp) rfl rfl
      have g3 : (storeCells ⟨w.heap.size + 1 + 1 + 1, 0, none⟩ (cw 6 r).toList 0).run Try.prog W2.drew = .ok () W3.drew := by
        rw [hW3]; exact st_any (W2.drewN 1) _ r 0 (rows3 (rowsL_drew R2 1))
      have c4 := row_cell (rows4 R)
      have c5 := row_cell (rows5 R)
      have c5' := row_cell (rows5 R2)
      have d2 := row_cell (rows2 R3)
      have d3 := row_cell (rows3 R3)
      clear hW2 hW3
      go_wp2
      go_region
      all_goals
        go_wp2
        exact bodyPost_ret (v := .tuple #[.agg (cw 6 q), .agg (cw 6 r), .int .i64 0]) (by simp [results, Try.results10, go_sem, d2, d3, hf]) rfl ⟨rfl, (rowsL_drew R3 1).2⟩
    · obtain ⟨j, rfl⟩ : ∃ j, k = j + 1 := ⟨k - 1, by omega⟩
      have ej : (((j + 1 : Nat) : Int) - 1) = (j : Int) := by omega
      rw [ej]
      have j1 : j < 384 := by omega
      obtain ⟨s, hs⟩ : ∃ s, (r + r) % Q = s := ⟨_, rfl⟩
      obtain ⟨o, ho⟩ : ∃ o, decide (Q ≤ r + r) = o := ⟨_, rfl⟩
      have RS := rdiv_step a b j q r s o HB0.out hb HS.out hs ho
      have HSs := box hs
      have HOo := box ho
      have sQ : s < Q := by rw [← hs]; exact Nat.mod_lt _ hQ
      clear hs ho HS
      have c5 := row_cell (rows5 R)
      go_wp2_with fail
      refine (rwadd_is r r s o hr hr HSs.out HOo.out _).mono ?_
      rintro e w2 ⟨rfl, hb2⟩
      have R2 := rowsL_below R hb2
      have z2 := rowsL_size R2 5 _ rfl
      clear hb2 R c5 HSs HOo
      have c0 := row_cell (rows0 (rowsL_alloc R2 (.cells (cw 6 s) 24)))
      go_wp2_with fail
      refine (rwbit_any a j j1 _).mono ?_
      obtain ⟨v, hv⟩ : ∃ v, s + (a.testBit j).toNat = v := ⟨_, rfl⟩
      rw [hv] at RS
      obtain ⟨RS1, RS2, se, vQ⟩ := RS
      have R1 := box RS1
      have RT := box RS2
      have HE := box (qor_one s se)
      have HV := box hv
      clear RS1 RS2 se hv
      obtain ⟨y, hy⟩ : ∃ y, (v + Q - b) % Q = y := ⟨_, rfl⟩
      have yQ : y < Q := by rw [← hy]; exact Nat.mod_lt _ hQ
      have HY := box hy
      obtain ⟨jq, hjq⟩ : ∃ q, q = j / 64 := ⟨_, rfl⟩
      obtain ⟨jr, hjr⟩ : ∃ r, r = j % 64 := ⟨_, rfl⟩
      have t2 : (j : Int) / 64 = (jq : Int) := by omega
      have t3 : (j : Int) % 64 = (jr : Int) := by omega
      have t4 : jq < 6 := by omega
      have t5 : jr < 64 := by omega
      obtain ⟨x, hx⟩ : ∃ x, x = 2 ^ jr := ⟨_, rfl⟩
      have x1 : x < 18446744073709551616 := by rw [hx]; exact v_word jr t5
      have x2 : IntKind.u64.wrap ((2 : Int) ^ jr) = (x : Int) := by rw [pow_cast, wrap_nat _ (v_word jr t5), hx]
      have x3 := bor q jq x x1
      have XJ : Box (x * 2 ^ (64 * jq) = 2 ^ j) := box (by rw [hx]; exact one_bit j jq jr hjq hjr)
      clear hy hjq hjr hx
      cases hbit : a.testBit j
      · rintro e w3 ⟨rfl, hb3⟩
        have R3 := rowsL_below (rowsL_alloc R2 (.cells (cw 6 s) 24)) hb3
        have S3 : w3.heap[w2.heap.size]? = some (.cells (cw 6 s) 24) := heap_of hb3 _ _ _ (heap_alloc_last _ _)
        obtain rfl : v = s := by have := HV.out; rw [hbit] at this; simpa using this.symm
        clear hb3 R2 c0 hbit
        have cs := row_cell S3
        have hs5 := st_any w3 (w.heap.size + 1 + 1 + 1 + 1 + 1) v r (rows5 R3)
        obtain ⟨W5, hW5⟩ : ∃ W5, W5 = w3.setRow (w.heap.size + 1 + 1 + 1 + 1 + 1) (cw 6 v) := ⟨_, rfl⟩
        have R5 : RowsL w W5 [a, b, 0, 0, q, v] := by rw [hW5]; exact rowsL_set R3 5 v _ (by simp) rfl rfl
        rw [← hW5] at hs5
        clear hW5 R3 S3
        have c5 := row_cell (rows5 R5)
        have c1 := row_cell (rows1 R5)
        cases o
        · obtain ⟨c, hc⟩ : ∃ c, cmpv v b = c := ⟨_, rfl⟩
          have CM := box hc
          by_cases hlt : v < b
          · have hc2 : c = -1 := by rw [← hc]; unfold cmpv; rw [if_neg (by omega), if_pos hlt]
            subst hc2
            have ST : Box (RdivSt a b j q v) := box (R1.out (by rw [decide_eq_false (by omega)]; rfl))
            clear hc
            go_wp2_with fail
            refine (rwcmp_is v b (-1) vQ hb CM.out _).mono ?_
            rintro e w6 ⟨rfl, hb6⟩
            have R6 := rowsL_below R5 hb6
            clear hb6 R5 c5 c1
            go_wp2
            go_roundw
            case rel => exact ⟨j, q, v, by go_num, by omega, R6, hq, vQ, ST⟩
            case measure => simp [intOf] <;> omega
          · have hc2 : decide (0 ≤ c) = true := by
              rw [← hc]; unfold cmpv
              by_cases e : v = b
              · rw [if_pos e]; rfl
              · rw [if_neg e, if_neg hlt]; rfl
            have ST := box (RT.out (by rw [decide_eq_true (by omega)]; rfl))
            clear hc
            go_wp2_with fail
            refine (rwcmp_is v b c vQ hb CM.out _).mono ?_
            rintro e w6 ⟨rfl, hb6⟩
            have R6 := rowsL_below R5 hb6
            clear hb6 R5 c5 c1
            have c5 := row_cell (rows5 R6)
            have c1 := row_cell (rows1 R6)
            go_wp2_with fail
            refine (rwsub_is v b y _ vQ hb HY.out rfl _).mono ?_
            rintro e w7 ⟨rfl, hb7⟩
            have R7 := rowsL_below R6 hb7
            clear hb7 c5 c1
            have hs7 := st_any w7 (w.heap.size + 1 + 1 + 1 + 1 + 1) y v (rows5 R7)
            obtain ⟨W8, hW8⟩ : ∃ W8, W8 = w7.setRow (w.heap.size + 1 + 1 + 1 + 1 + 1) (cw 6 y) := ⟨_, rfl⟩
            have R8 : RowsL w W8 [a, b, 0, 0, q, y] := by rw [hW8]; exact rowsL_set R7 5 y _ (by simp) rfl rfl
            rw [← hW8] at hs7
            clear hW8 R6 R7
            have C8 := row_cell (rows4 R8) jq t4
            have F8 := fz (k := jq) (rows4 R8)
            have R9 : RowsL w (W8.setCell ⟨w.heap.size + 1 + 1 + 1 + 1, jq, none⟩ (.int .u64 ((wd q jq ||| x : Nat) : Int))) [a, b, 0, 0, q ||| 2 ^ j, y] := rowsL_setCell R8 4 q _ _ _ _ rfl rfl (cw_or 6 q jq x _ t4 x1 (by rw [XJ.out])) rfl
            have qQ : q ||| 2 ^ j < Q := or_ltQ _ _ hq (pow_ltQ j j1)
            have QB := box qQ
            rw [HY.out] at ST
            clear qQ
            go_wp2
            go_roundw
            case rel => exact ⟨j, _, y, by go_num, by omega, R9, QB.out, yQ, ST⟩
            case measure => simp [intOf] <;> omega
        · have ST := box (RT.out rfl)
          obtain ⟨w6, hw6⟩ : ∃ w6, w6 = W5 := ⟨_, rfl⟩
          have R6 := R5
          rw [← hw6] at R6 c5 c1 hs5
          clear hw6
          go_wp2_with fail
          refine (rwsub_is v b y _ vQ hb HY.out rfl _).mono ?_
          rintro e w7 ⟨rfl, hb7⟩
          have R7 := rowsL_below R6 hb7
          clear hb7 c5 c1
          have hs7 := st_any w7 (w.heap.size + 1 + 1 + 1 + 1 + 1) y v (rows5 R7)
          obtain ⟨W8, hW8⟩ : ∃ W8, W8 = w7.setRow (w.heap.size + 1 + 1 + 1 + 1 + 1) (cw 6 y) := ⟨_, rfl⟩
          have R8 : RowsL w W8 [a, b, 0, 0, q, y] := by rw [hW8]; exact rowsL_set R7 5 y _ (by simp) rfl rfl
          rw [← hW8] at hs7
          clear hW8 R6 R7
          have C8 := row_cell (rows4 R8) jq t4
          have F8 := fz (k := jq) (rows4 R8)
          have R9 : RowsL w (W8.setCell ⟨w.heap.size + 1 + 1 + 1 + 1, jq, none⟩ (.int .u64 ((wd q jq ||| x : Nat) : Int))) [a, b, 0, 0, q ||| 2 ^ j, y] := rowsL_setCell R8 4 q _ _ _ _ rfl rfl (cw_or 6 q jq x _ t4 x1 (by rw [XJ.out])) rfl
          have qQ : q ||| 2 ^ j < Q := or_ltQ _ _ hq (pow_ltQ j j1)
          have QB := box qQ
          rw [HY.out] at ST
          clear qQ
          go_wp2
          go_roundw
          case rel => exact ⟨j, _, y, by go_num, by omega, R9, QB.out, yQ, ST⟩
          case measure => simp [intOf] <;> omega
      · rintro e w3 ⟨rfl, hb3⟩
        have R3 := rowsL_below (rowsL_alloc R2 (.cells (cw 6 s) 24)) hb3
        have S3 : w3.heap[w2.heap.size]? = some (.cells (cw 6 s) 24) := heap_of hb3 _ _ _ (heap_alloc_last _ _)
        have ev : s + 1 = v := by have := HV.out; rw [hbit] at this; simpa using this
        clear hb3 R2 c0 hbit
        have x4 : Box (bits .or .u64 (wd s 0 : Nat) 1 = ((wd s 0 ||| 1 : Nat) : Int)) := box (bor s 0 1 (by decide))
        have C3 := row_cell S3 0 (by decide)
        have F3 := fz (k := 0) S3
        obtain ⟨w4, hw4⟩ : ∃ w4, w4 = w3.setCell ⟨w2.heap.size, 0, none⟩ (.int .u64 (bits .or .u64 (wd s 0 : Nat) 1)) := ⟨_, rfl⟩
        have R4 : RowsL w w4 [a, b, 0, 0, q, r] := by rw [hw4]; exact rowsL_other R3 _ _ _ z2
        have S4 : w4.heap[w2.heap.size]? = some (.cells (cw 6 v) 24) := by rw [hw4, setCell_row S3, x4.out, cw_or 6 s 0 1 v (by decide) (by decide) (by rw [← ev]; exact HE.out.symm)]
        have hset := hw4.symm
        have cs := row_cell S4
        clear R3 hw4
        have hs5 := st_any w4 (w.heap.size + 1 + 1 + 1 + 1 + 1) v r (rows5 R4)
        obtain ⟨W5, hW5⟩ : ∃ W5, W5 = w4.setRow (w.heap.size + 1 + 1 + 1 + 1 + 1) (cw 6 v) := ⟨_, rfl⟩
        have R5 : RowsL w W5 [a, b, 0, 0, q, v] := by rw [hW5]; exact rowsL_set R4 5 v _ (by simp) rfl rfl
        rw [← hW5] at hs5
        clear hW5 R4 S4
        have c5 := row_cell (rows5 R5)
        have c1 := row_cell (rows1 R5)
        cases o
        · obtain ⟨c, hc⟩ : ∃ c, cmpv v b = c := ⟨_, rfl⟩
          have CM := box hc
          by_cases hlt : v < b
          · have hc2 : c = -1 := by rw [← hc]; unfold cmpv; rw [if_neg (by omega), if_pos hlt]
            subst hc2
            have ST : Box (RdivSt a b j q v) := box (R1.out (by rw [decide_eq_false (by omega)]; rfl))
            clear hc
            go_wp2_with fail
            refine (rwcmp_is v b (-1) vQ hb CM.out _).mono ?_
            rintro e w6 ⟨rfl, hb6⟩
            have R6 := rowsL_below R5 hb6
            clear hb6 R5 c5 c1
            go_wp2
            go_roundw
            case rel => exact ⟨j, q, v, by go_num, by omega, R6, hq, vQ, ST⟩
            case measure => simp [intOf] <;> omega
          · have hc2 : decide (0 ≤ c) = true := by
              rw [← hc]; unfold cmpv
              by_cases e : v = b
              · rw [if_pos e]; rfl
              · rw [if_neg e, if_neg hlt]; rfl
            have ST := box (RT.out (by rw [decide_eq_true (by omega)]; rfl))
            clear hc
            go_wp2_with fail
            refine (rwcmp_is v b c vQ hb CM.out _).mono ?_
            rintro e w6 ⟨rfl, hb6⟩
            have R6 := rowsL_below R5 hb6
            clear hb6 R5 c5 c1
            have c5 := row_cell (rows5 R6)
            have c1 := row_cell (rows1 R6)
            go_wp2_with fail
            refine (rwsub_is v b y _ vQ hb HY.out rfl _).mono ?_
            rintro e w7 ⟨rfl, hb7⟩
            have R7 := rowsL_below R6 hb7
            clear hb7 c5 c1
            have hs7 := st_any w7 (w.heap.size + 1 + 1 + 1 + 1 + 1) y v (rows5 R7)
            obtain ⟨W8, hW8⟩ : ∃ W8, W8 = w7.setRow (w.heap.size + 1 + 1 + 1 + 1 + 1) (cw 6 y) := ⟨_, rfl⟩
            have R8 : RowsL w W8 [a, b, 0, 0, q, y] := by rw [hW8]; exact rowsL_set R7 5 y _ (by simp) rfl rfl
            rw [← hW8] at hs7
            clear hW8 R6 R7
            have C8 := row_cell (rows4 R8) jq t4
            have F8 := fz (k := jq) (rows4 R8)
            have R9 : RowsL w (W8.setCell ⟨w.heap.size + 1 + 1 + 1 + 1, jq, none⟩ (.int .u64 ((wd q jq ||| x : Nat) : Int))) [a, b, 0, 0, q ||| 2 ^ j, y] := rowsL_setCell R8 4 q _ _ _ _ rfl rfl (cw_or 6 q jq x _ t4 x1 (by rw [XJ.out])) rfl
            have qQ : q ||| 2 ^ j < Q := or_ltQ _ _ hq (pow_ltQ j j1)
            have QB := box qQ
            rw [HY.out] at ST
            clear qQ
            go_wp2
            go_roundw
            case rel => exact ⟨j, _, y, by go_num, by omega, R9, QB.out, yQ, ST⟩
            case measure => simp [intOf] <;> omega
        · have ST := box (RT.out rfl)
          obtain ⟨w6, hw6⟩ : ∃ w6, w6 = W5 := ⟨_, rfl⟩
          have R6 := R5
          rw [← hw6] at R6 c5 c1 hs5
          clear hw6
          go_wp2_with fail
          refine (rwsub_is v b y _ vQ hb HY.out rfl _).mono ?_
          rintro e w7 ⟨rfl, hb7⟩
          have R7 := rowsL_below R6 hb7
          clear hb7 c5 c1
          have hs7 := st_any w7 (w.heap.size + 1 + 1 + 1 + 1 + 1) y v (rows5 R7)
          obtain ⟨W8, hW8⟩ : ∃ W8, W8 = w7.setRow (w.heap.size + 1 + 1 + 1 + 1 + 1) (cw 6 y) := ⟨_, rfl⟩
          have R8 : RowsL w W8 [a, b, 0, 0, q, y] := by rw [hW8]; exact rowsL_set R7 5 y _ (by simp) rfl rfl
          rw [← hW8] at hs7
          clear hW8 R6 R7
          have C8 := row_cell (rows4 R8) jq t4
          have F8 := fz (k := jq) (rows4 R8)
          have R9 : RowsL w (W8.setCell ⟨w.heap.size + 1 + 1 + 1 + 1, jq, none⟩ (.int .u64 ((wd q jq ||| x : Nat) : Int))) [a, b, 0, 0, q ||| 2 ^ j, y] := rowsL_setCell R8 4 q _ _ _ _ rfl rfl (cw_or 6 q jq x _ t4 x1 (by rw [XJ.out])) rfl
          have qQ : q ||| 2 ^ j < Q := or_ltQ _ _ hq (pow_ltQ j j1)
          have QB := box qQ
          rw [HY.out] at ST
          clear qQ
          go_wp2
          go_roundw
          case rel => exact ⟨j, _, y, by go_num, by omega, R9, QB.out, yQ, ST⟩
          case measure => simp [intOf] <;> omega
end Go.Proofs.Ytflfgchnlcnibaa
