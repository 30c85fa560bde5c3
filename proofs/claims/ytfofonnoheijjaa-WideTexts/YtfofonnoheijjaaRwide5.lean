/-
  What the function Read of the document's answer for layer 2 returns.
-/
import Derived.Test.YtfofonnoheijjaaRwide4
import Derived.Test.YtfofonnoheijjaaRwide2
import Derived.Test.YtfofonnoheijjaaWide10
namespace Go.Proofs.Ytfofonnoheijjaa
open Go.RowKit WMath

theorem rleft4 (n v : Nat) (hn : n < Q) (hv : n * 16 = v) (hq : v < Q) (w : World) :
    Calls Try.prog 24 #[.agg (cw 6 n), .int .i64 4] w fun e w' => e = .returned (.tuple #[.agg (cw 6 v), .bool false]) ∧ Below w.heap.size w w' := by
  have e4 : cnt6 4 = 4 := by decide
  refine rwleft_is n v 4 false hn ?_ ?_ w
  · rw [e4, show 2 ^ 4 = 16 by decide, hv, Nat.mod_eq_of_lt hq]
  · rw [e4, show 2 ^ 4 = 16 by decide, hv, decide_eq_false (by omega)]

theorem rd_err (l : List UInt8) (h : ¬ (1 ≤ l.length ∧ ¬ (l.head? = some 48 ∧ 1 < l.length))) : rd l = (0, 20) := by
  by_cases h96 : l.length ≤ 96
  · cases hv : vals l with
    | none => exact rd_none l hv
    | some v => exact rd_other l v hv (fun e => h ((good_iff l v h96 hv).1 e))
  · exact rd_long l h96

theorem head_get (s : ByteArray) (l : List UInt8) (hl : s.data.toList = l) (h : 0 < s.size) : l.head? = some (s[0]'h) := by
  subst hl
  rw [List.head?_eq_getElem?]
  have h' : 0 < s.data.toList.length := by simpa using h
  rw [List.getElem?_eq_getElem h']
  rfl

set_option maxRecDepth 100000 in
set_option maxHeartbeats 2000000 in
theorem rwread_is (s : ByteArray) (l : List UInt8) (V : Nat) (E : Int) (hs : s.size ≤ 9223372036854775807) (hl : s.data.toList = l) (hr : rd l = (V, E)) (w : World) :
    Calls Try.prog 28 #[.string s] w fun e w' => e = .returned (.tuple #[.agg (cw 6 V), .int .i64 E]) ∧ Below w.heap.size w w' := by
  have hat := cw_at 6
  have hz := cw6z
  have hf := cw6f
  have hs1 := st1
  have hsl : s.size = l.length := by rw [← hl, Array.length_toList]; rfl
  have bz : Below w.heap.size w ((w.alloc (.cells (cw 6 0) 26)).alloc (.cells (cw 6 0) 26)) := ((Below.refl _ _).alloc (Nat.le_refl _) _).alloc (by simp) _
  by_cases h0 : s.size = 0
  · have e := rd_err l (by omega)
    rw [hr] at e
    injection e with e1 e2
    subst e1
    subst e2
    have y1 : decide ((s.size : Int) < 1) = true := by simp; omega
    clear hr hl hsl
    go_enter Try.func28, Try.ntmps28
    go_wp2
    exact bodyPost_ret (v := .tuple #[.agg (cw 6 0), .int .i64 20]) (by simp [results, Try.results28, go_sem, hat, hf]) rfl ⟨rfl, bz⟩
  · have y1 : decide ((s.size : Int) < 1) = false := by simp; omega
    by_cases h96 : s.size ≤ 96
    · have y2 : decide ((96 : Int) < (s.size : Int)) = false := by simp; omega
      have hpos : 0 < s.size := by omega
      obtain ⟨c0, hc0⟩ : ∃ c0, s[0] = c0 := ⟨_, rfl⟩
      have hh := head_get s l hl hpos
      rw [hc0] at hh
      by_cases h48 : c0 = 48 ∧ 1 < s.size
      · have e := rd_err l (by
          rintro ⟨_, h⟩
          exact h ⟨by rw [hh, h48.1], by omega⟩)
        rw [hr] at e
        injection e with e1 e2
        subst e1
        subst e2
        obtain ⟨e48, h1⟩ := h48
        have y3 : ((c0.toNat : Int) == 48) = true := by rw [e48]; rfl
        have y4 : decide ((1 : Int) < (s.size : Int)) = true := by simp; omega
        clear hr hl hsl hh e48
        go_enter Try.func28, Try.ntmps28
        go_wp2
        exact bodyPost_ret (v := .tuple #[.agg (cw 6 0), .int .i64 20]) (by simp [results, Try.results28, go_sem, hat, hf]) rfl ⟨rfl, bz⟩
      · have hgood : 1 ≤ l.length ∧ ¬ (l.head? = some 48 ∧ 1 < l.length) := by
          refine ⟨by omega, fun ⟨a, b⟩ => h48 ⟨?_, by omega⟩⟩
          rw [hh] at a
          injection a
        have hcase : (((c0.toNat : Int) == 48) = false) ∨ (((c0.toNat : Int) == 48) = true ∧ decide ((1 : Int) < (s.size : Int)) = false) := by
          by_cases e48 : c0 = 48
          · right
            refine ⟨by rw [e48]; rfl, ?_⟩
            have : ¬ 1 < s.size := fun h => h48 ⟨e48, h⟩
            simp; omega
          · left
            have : c0.toNat ≠ 48 := fun h => e48 (by rw [← UInt8.ofNat_toNat (x := c0), h]; rfl)
            simp; omega
        have HG := box hgood
        have HR := box hr
        have HL := box hl
        have HSL := box hsl
        clear hr hl hsl hh h48 hgood
        rcases hcase with y3 | ⟨y3, y4⟩
        all_goals
          go_enter Try.func28, Try.ntmps28
          go_wp2
          go_loopw [5] (fun iv wr => ∃ k v : Nat, k ≤ s.size ∧ iv = .int .i64 k ∧ wr.heap[w.heap.size]? = some (.cells (cw 6 0) 26) ∧ wr.heap[w.heap.size + 1]? = some (.cells (cw 6 v) 26) ∧ Below w.heap.size w wr ∧ v < Q ∧ Box (vals (l.take k) = some v)) (fun iv _ => s.size - (intOf iv).toNat)
          case atStart =>
            refine ⟨0, 0, by omega, rfl, ?_, ?_, bz, Q_pos, box rfl⟩
            · rw [heap_below _ _ _ (by simp only [size_al]; omega)]; exact heap_alloc_last _ _
            · have := heap_alloc_last (w.alloc (.cells (cw 6 0) 26)) (.cells (cw 6 0) 26)
              simpa only [size_al] using this
          case round =>
            obtain ⟨k, v, hk, rfl, r0, r1, hbw, hvQ, HV⟩ := hrel
            by_cases hlt : k < s.size
            · obtain ⟨c, hc⟩ : ∃ c, s[k] = c := ⟨_, rfl⟩
              have hts : l.take (k + 1) = l.take k ++ [c] := by
                have hkl : k < l.length := by rw [← HSL.out]; exact hlt
                rw [List.take_succ_eq_append_getElem hkl]
                congr 2
                rw [← hc]
                have : ∀ h, l[k]'h = s.data.toList[k]'(by rw [HL.out]; exact h) := fun h => by simp [HL.out]
                rw [this]
                rfl
              have HVS : Box (vals (l.take (k + 1)) = vstep (some v) c) := box (by rw [hts, vals_snoc, HV.out])
              clear hts
              cases hd : dv c with
              | none =>
                have HD := box hd
                have HN : Box (rd l = (0, 20)) := box (rd_none l (vals_take_none l (k + 1) (by rw [HVS.out]; unfold vstep; rw [hd])))
                clear hd
                have e := HR.out
                rw [HN.out] at e
                injection e with e1 e2
                subst e1
                subst e2
                have hst := st_same wr _ 0 r0
                have cc := row_cell r0
                go_wp2_with fail
                refine (rdigit_none c HD.out _).mono ?_
                rintro e w' ⟨rfl, rfl⟩
                go_wp2
                exact bodyPost_ret (v := .tuple #[.agg (cw 6 0), .int .i64 20]) (by simp [results, Try.results28, go_sem, cc, hf]) rfl ⟨rfl, hbw⟩
              | some d =>
                have HD := box hd
                obtain ⟨hd16, _, _⟩ := dv_spec c d hd
                have HV2 : Box (vals (l.take (k + 1)) = some (16 * v + d)) := box (by rw [HVS.out]; unfold vstep; rw [hd])
                have hlen : (l.take (k + 1)).length = k + 1 := by rw [List.length_take, ← HSL.out]; omega
                have hvl := vals_lt (k + 1) _ _ hlen HV2.out
                have hpq := pow96 (k + 1) (by omega)
                obtain ⟨x, hx⟩ : ∃ x, v * 16 = x := ⟨_, rfl⟩
                have hor : x ||| d = 16 * v + d := by
                  have := or_disj d v 4 hd16
                  rw [Nat.or_comm, ← hx, show (16 : Nat) = 2 ^ 4 from rfl, ← this]
                  omega
                obtain ⟨v2, hv2⟩ : ∃ v2, v2 = 16 * v + d := ⟨_, rfl⟩
                rw [← hv2] at hor hvl HV2
                have xQ : x < Q := by omega
                have v2Q : v2 < Q := by omega
                have d64 : d < 18446744073709551616 := by omega
                have hbo := bor x 0 d d64
                have HX := box hx
                have HO := box hor
                clear hd hlen hvl hpq hx hor hv2
                have c1 := row_cell r1
                go_wp2_with fail
                refine (rdigit_some c d HD.out _).mono ?_
                rintro e w' ⟨rfl, rfl⟩
                go_wp2_with fail
                refine (rleft4 v x hvQ HX.out xQ _).mono ?_
                rintro e w2 ⟨rfl, hb2⟩
                have q0 := heap_of hb2 _ _ _ r0
                have q1 := heap_of hb2 _ _ _ r1
                have b2 := hbw.trans (hb2.mono hbw.size)
                obtain ⟨w3, hw3⟩ : ∃ w3, w3 = w2.setRow (w.heap.size + 1) (cw 6 x) := ⟨_, rfl⟩
                have hst : (storeCells ⟨w.heap.size + 1, 0, none⟩ (cw 6 x).toList 0).run Try.prog w2 = .ok () w3 := by rw [hw3]; exact st_any w2 _ x v q1
                have p0 : w3.heap[w.heap.size]? = some (.cells (cw 6 0) 26) := by rw [hw3, setRow_other (by omega)]; exact q0
                have p1 : w3.heap[w.heap.size + 1]? = some (.cells (cw 6 x) 26) := by rw [hw3]; exact setRow_row q1
                have b3 : Below w.heap.size w w3 := by rw [hw3]; exact Below.setRow b2 (by omega)
                have c3 := row_cell p1 0 (by omega)
                have f3 := fz (k := 0) p1
                clear hb2 hw3 q0 q1 b2 r0 r1 hbw c1
                go_wp2
                go_roundw
                case rel => exact ⟨k + 1, v2, by omega, by go_num, by rw [setCell_other (by omega)]; exact p0, by rw [setCell_row p1, cw_or 6 x 0 d v2 (by omega) d64 (by rw [Nat.mul_zero, Nat.pow_zero, Nat.mul_one]; exact HO.out.symm)], b3.setCell (by show w.heap.size ≤ w.heap.size + 1; omega) _, v2Q, HV2⟩
                case measure => simp [intOf] <;> omega
            · have htk : l.take k = l := List.take_of_length_le (by rw [← HSL.out]; omega)
              have hvl : vals l = some v := by rw [← htk]; exact HV.out
              have e := HR.out
              have h96' : l.length ≤ 96 := by rw [← HSL.out]; exact h96
              rw [rd_good l v h96' hvl ((good_iff l v h96' hvl).2 HG.out)] at e
              injection e with e1 e2
              subst e1
              subst e2
              clear htk hvl h96'
              have c1 := row_cell r1
              have hst := st_any wr _ v 0 r0
              have z0 : (wr.setRow w.heap.size (cw 6 v)).heap[w.heap.size]? = some (.cells (cw 6 v) 26) := setRow_row r0
              have c3 := row_cell z0
              go_wp2
              exact bodyPost_ret (v := .tuple #[.agg (cw 6 v), .int .i64 0]) (by simp [results, Try.results28, go_sem, c3, hf]) rfl ⟨rfl, Below.setRow hbw (Nat.le_refl _)⟩
    · have e := rd_long l (by omega)
      rw [hr] at e
      injection e with e1 e2
      subst e1
      subst e2
      have y2 : decide ((96 : Int) < (s.size : Int)) = true := by simp; omega
      clear hr hl hsl
      go_enter Try.func28, Try.ntmps28
      go_wp2
      exact bodyPost_ret (v := .tuple #[.agg (cw 6 0), .int .i64 20]) (by simp [results, Try.results28, go_sem, hat, hf]) rfl ⟨rfl, bz⟩
end Go.Proofs.Ytfofonnoheijjaa
