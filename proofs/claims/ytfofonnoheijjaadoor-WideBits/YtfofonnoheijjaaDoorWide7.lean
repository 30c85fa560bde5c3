/-
  What the function Text of package wide returns.
-/
import Derived.Test.YtfofonnoheijjaaDoorWide6
import Derived.Deep.OwnRows
import Derived.Laws.BytesString
namespace Go.Proofs.YtfofonnoheijjaaDoor
open Go.RowKit WMath

/-- Bytes, as cells. -/
def cb (l : List UInt8) : Array Value := (l.map fun b => Value.int .u8 (b.toNat : Int)).toArray

theorem cb_at (l : List UInt8) (k : Nat) (b : UInt8) (h : l[k]? = some b) : (cb l)[k]? = some (.int .u8 (b.toNat : Int)) := by simp [cb, h]
theorem cb_size (l : List UInt8) : (cb l).size = l.length := by simp [cb]
theorem cb_set (l : List UInt8) (k : Nat) (b : UInt8) : (cb l).setIfInBounds k (.int .u8 (b.toNat : Int)) = cb (l.set k b) := by
  simp [cb, List.map_set]
theorem cb_made (L : Nat) : madeCells #[.int .u8 0] L = cb (List.replicate L 0) := by
  apply Array.ext_getElem?
  intro i
  by_cases h : i < L
  · rw [cb_at _ i 0 (by simp [h])]
    simp [madeCells, h, Nat.mod_one]
  · rw [Array.getElem?_eq_none (by rw [size_madeCells]; omega), Array.getElem?_eq_none (by rw [cb_size]; simp; omega)]

/-- The first k letters written, noughts behind. -/
def wt (L n k : Nat) : List UInt8 := (hxs L n).take k ++ List.replicate (L - k) 0
theorem wt_zero (L n : Nat) : wt L n 0 = List.replicate L 0 := by simp [wt]
theorem wt_full (L n : Nat) : wt L n L = hxs L n := by simp [wt, List.take_of_length_le (Nat.le_of_eq (hxs_len L n))]
theorem wt_len (L n k : Nat) (h : k ≤ L) : (wt L n k).length = L := by simp [wt, hxs_len]; omega
theorem wt_step (L n k : Nat) (h : k < L) : (wt L n k).set k (dg (n / 16 ^ (L - 1 - k) % 16)) = wt L n (k + 1) := by
  apply List.ext_getElem?
  intro i
  rw [List.getElem?_set, wt_len L n k (by omega)]
  have a : ∀ k, k ≤ L → (wt L n k)[i]? = if i < k then (hxs L n)[i]? else if i < L then some 0 else none := by
    intro k hk
    unfold wt
    rw [List.getElem?_append, List.length_take, hxs_len, Nat.min_eq_left hk]
    split
    · rename_i h1; rw [List.getElem?_take, if_pos h1]
    · rename_i h1; rw [List.getElem?_replicate]
      by_cases h2 : i < L
      · rw [if_pos h2, if_pos (by omega)]
      · rw [if_neg h2, if_neg (by omega)]
  rw [a k (by omega), a (k + 1) (by omega)]
  by_cases e : k = i
  · subst e
    rw [if_pos rfl, if_pos h, if_pos (by omega), hxs_at L n k h]
  · rw [if_neg e]
    by_cases e2 : i < k
    · rw [if_pos e2, if_pos (by omega)]
    · rw [if_neg e2, if_neg (show ¬ i < k + 1 by omega)]

theorem fz {w : World} {b k : Nat} {c : Array Value} {t : TypeId} (h : w.heap[b]? = some (.cells c t)) : w.frozen? ⟨b, k, none⟩ = false := by simp [World.frozen?, h]
theorem setCell_row {w : World} {b k : Nat} {c : Array Value} {t : TypeId} {v : Value} (h : w.heap[b]? = some (.cells c t)) : (w.setCell ⟨b, k, none⟩ v).heap[b]? = some (.cells (c.setIfInBounds k v) t) := by
  simp [World.setCell, Array.getElem?_modify, h]
theorem setCell_other {w : World} {b b' k : Nat} {v : Value} (h : b ≠ b') : (w.setCell ⟨b, k, none⟩ v).heap[b']? = w.heap[b']? := by
  simp [World.setCell, Array.getElem?_modify, h]
theorem cb_cell {w : World} {b k : Nat} {l : List UInt8} {t : TypeId} {x : UInt8} (h : w.heap[b]? = some (.cells (cb l) t)) (hk : l[k]? = some x) : w.cell? ⟨b, k, none⟩ = some (.int .u8 (x.toNat : Int)) := by
  rw [cell_of_row w b k _ _ _ h, cb_at l k x hk]
theorem fold_bytes : ∀ (l : List UInt8) (a : Array UInt8), ((l.map fun b => (b.toNat : Int)).foldl (fun r n => r.push (UInt8.ofNat n.toNat)) (⟨a⟩ : ByteArray)) = ⟨a ++ l.toArray⟩
  | [], a => by simp
  | x :: l, a => by
    have := fold_bytes l (a.push x)
    simp only [List.map_cons, List.foldl_cons, Int.toNat_natCast, UInt8.ofNat_toNat]
    rw [show (ByteArray.mk a).push x = ⟨a.push x⟩ from rfl, this]
    simp
theorem str_of {w : World} {b c : Nat} {l : List UInt8} {t : TypeId} (h : w.heap[b]? = some (.cells (cb l) t)) :
    (convert 50 9 (.slice (some ⟨b, 0, none⟩) l.length c)).run Tryd.prog w = .ok (.string ⟨l.toArray⟩) w := by
  rw [run_convert_bytes_string w 50 9 5 _ _ _ Tryd.underlying50 Tryd.underlying5 Tryd.underlying9]
  have hl := run_loadCells_list (P := Tryd.prog) w ⟨b, 0, none⟩ (l.map fun x => Value.int .u8 (x.toNat : Int)) (fun j v hv => by
    have hadd : (⟨b, 0, none⟩ : Addr).add j = ⟨b, j, none⟩ := by unfold Addr.add; split <;> simp_all
    rw [hadd, cell_of_row w b j _ _ _ h]
    simpa [cb] using hv)
  rw [List.length_map] at hl
  rw [run_bytesToString (P := Tryd.prog) w ⟨b, 0, none⟩ l.length c (l.map fun x => (x.toNat : Int)) (by rw [hl]; simp), show ByteArray.empty = ⟨#[]⟩ from rfl, fold_bytes]
  simp

theorem dig_fact (w : World) (d : Nat) (h : d < 16) :
    (Instr.index 9 (.string ⟨#[48, 49, 50, 51, 52, 53, 54, 55, 56, 57, 97, 98, 99, 100, 101, 102]⟩) (.int .u64 (d : Nat))).run Tryd.prog w = .ok (.int .u8 ((dg d).toNat : Int)) w := by
  have hd : d = 0 ∨ d = 1 ∨ d = 2 ∨ d = 3 ∨ d = 4 ∨ d = 5 ∨ d = 6 ∨ d = 7 ∨ d = 8 ∨ d = 9 ∨ d = 10 ∨ d = 11 ∨ d = 12 ∨ d = 13 ∨ d = 14 ∨ d = 15 := by omega
  rcases hd with rfl | rfl | rfl | rfl | rfl | rfl | rfl | rfl | rfl | rfl | rfl | rfl | rfl | rfl | rfl | rfl <;> (rw [run_index_string (P := Tryd.prog) w 9 _ _ _ Tryd.underlying9]; rfl)

theorem wfield4 (n low : Nat) (hl : low < 384) (hc : low % 64 ≤ 60) (w : World) :
    Calls Tryd.prog 23 #[.agg (cw 6 n), .int .i64 low, .int .i64 4] w fun e w' => e = .returned (.int .u64 (n / 2 ^ low % 2 ^ 4 : Nat)) ∧ Below w.heap.size w w' := wfield_any n low 4 hl (by omega) w

set_option maxHeartbeats 1000000 in
theorem wtext_any (n : Nat) (hn : n < Q) (w : World) :
    Calls Tryd.prog 31 #[W n] w fun e w' => e = .returned (.string ⟨(tx n).toArray⟩) ∧ Below w.heap.size w w' := by
  have hnd := nd_le n hn
  obtain ⟨L, hL⟩ : ∃ L, nd n = L := ⟨_, rfl⟩
  rw [hL] at hnd
  obtain ⟨b, hb⟩ : ∃ b, blen n = b := ⟨_, rfl⟩
  have hb4 : b ≤ 384 := by
    obtain ⟨S, hS, hQ⟩ := Q_of
    rw [hQ] at hn
    have := blen_le_of n _ hn
    omega
  have hLb : L = max 1 ((b + 3) / 4) := by rw [← hL, ← hb]; rfl
  have HL := box hL
  have HB := box hb
  have HT : Box (tx n = hxs L n) := box (by unfold tx; rw [hL])
  unfold W
  have hat := cw_at 6
  have hf := cw6f
  have hmk : ∀ w, (Instr.makeSlice 50 (.int .i64 (L : Int)) (.int .i64 (L : Int))).run Tryd.prog w = .ok (.slice (some ⟨w.heap.size, 0, none⟩) L L) (w.alloc (.cells (cb (List.replicate L 0)) 5)) := fun w => by
    rw [← cb_made]
    exact run_make_row' (P := Tryd.prog) 50 5 (.int .u8 0) 1 Tryd.underlying50 (by kernel_rfl) rfl .i64 .i64 L (by omega) (by omega) w
  have hcase : (L = 1 ∧ ((b : Int) + 4 - 1) / 4 = 0) ∨ (L = 1 ∧ ((b : Int) + 4 - 1) / 4 = 1) ∨ (1 < L ∧ ((b : Int) + 4 - 1) / 4 = (L : Int)) := by omega
  clear hb hL hLb
  rcases hcase with ⟨hL1, hd⟩ | ⟨hL1, hd⟩ | ⟨h1, hd⟩
  · subst hL1
    try simp only [Int.ofNat_one] at hmk
    go_enter Tryd.func31, Tryd.ntmps31
    go_wp2_with fail
    refine (wlen_any n hn _).mono ?_
    rw [HB.out]
    rintro e w1 ⟨rfl, hb1⟩
    go_wp2
    clear hd
    have r0 : w1.heap[w.heap.size]? = some (.cells (cw 6 n) 24) := heap_of hb1 _ _ _ (heap_alloc_last w _)
    have s1 : w.heap.size < w1.heap.size := (Array.getElem?_eq_some_iff.1 r0).1
    have b1 : Below w.heap.size w w1 := ((Below.refl _ _).alloc (Nat.le_refl _) _).trans (hb1.mono (by simp))
    clear hb1
    go_loopw [16] (fun i wr => ∃ k : Nat, k ≤ 1 ∧ i = .int .i64 k ∧ wr.heap[w.heap.size]? = some (.cells (cw 6 n) 24) ∧ wr.heap[w1.heap.size]? = some (.cells (cb (wt 1 n k)) 5) ∧ Below w.heap.size w wr) (fun i _ => 1 - (intOf i).toNat)
    case atStart => exact ⟨0, by omega, rfl, by rw [heap_below _ _ _ s1]; exact r0, by rw [wt_zero]; exact heap_alloc_last _ _, b1.alloc (by omega) _⟩
    case round =>
      obtain ⟨k, hk, rfl, hr0, hr1, hbw⟩ := hrel
      by_cases hlt : k < 1
      · have hc := row_cell hr0
        obtain rfl : k = 0 := by omega
        obtain ⟨d, hd2⟩ : ∃ d, n / 2 ^ 0 % 2 ^ 4 = d := ⟨_, rfl⟩
        have hd16 : d < 16 := by rw [← hd2]; exact Nat.mod_lt _ (by decide)
        have hstep := wt_step 1 n 0 (by omega)
        have hdg : n / 16 ^ (1 - 1 - 0) % 16 = d := by
          rw [← hd2]
        rw [hdg] at hstep
        have HST := box hstep
        have HD := box hd2
        clear hstep hd2 hdg
        have hs2 : w1.heap.size < wr.heap.size := (Array.getElem?_eq_some_iff.1 hr1).1
        go_wp2_with fail
        refine (wfield4 n 0 (by omega) (by omega) _).mono ?_
        rw [HD.out]
        rintro e w2 ⟨rfl, hb2⟩
        have q0 : w2.heap[w.heap.size]? = some (.cells (cw 6 n) 24) := heap_of hb2 _ _ _ hr0
        have q1 : w2.heap[w1.heap.size]? = some (.cells (cb (wt 1 n 0)) 5) := heap_of hb2 _ _ _ hr1
        have hb3 : Below w.heap.size w w2 := hbw.trans (hb2.mono hbw.size)
        obtain ⟨x, hx⟩ : ∃ x, (wt 1 n 0)[0]? = some x := ⟨_, List.getElem?_eq_getElem (by rw [wt_len 1 n 0 (by omega)]; omega)⟩
        have hcell := cb_cell q1 hx
        have hfz := fz (k := 0) q1
        have hdf := dig_fact w2 d hd16
        clear hc hb2
        go_wp2
        go_roundw
        case rel => exact ⟨0 + 1, by omega, by go_num, by rw [setCell_other (by omega)]; exact q0, by rw [setCell_row q1, cb_set, HST.out], hb3.setCell (by show w.heap.size ≤ w1.heap.size; omega) _⟩
        case measure => simp [intOf] <;> omega
      · obtain rfl : k = 1 := by omega
        rw [wt_full] at hr1
        have hsv := str_of (c := 1) hr1
        rw [hxs_len] at hsv
        go_wp2
        go_ret
        exact ⟨(congrArg (fun l => Ending.returned (Value.string ⟨l⟩)) (congrArg List.toArray HT.out.symm)), hbw⟩
  · subst hL1
    try simp only [Int.ofNat_one] at hmk
    go_enter Tryd.func31, Tryd.ntmps31
    go_wp2_with fail
    refine (wlen_any n hn _).mono ?_
    rw [HB.out]
    rintro e w1 ⟨rfl, hb1⟩
    go_wp2
    clear hd
    have r0 : w1.heap[w.heap.size]? = some (.cells (cw 6 n) 24) := heap_of hb1 _ _ _ (heap_alloc_last w _)
    have s1 : w.heap.size < w1.heap.size := (Array.getElem?_eq_some_iff.1 r0).1
    have b1 : Below w.heap.size w w1 := ((Below.refl _ _).alloc (Nat.le_refl _) _).trans (hb1.mono (by simp))
    clear hb1
    go_loopw [16] (fun i wr => ∃ k : Nat, k ≤ 1 ∧ i = .int .i64 k ∧ wr.heap[w.heap.size]? = some (.cells (cw 6 n) 24) ∧ wr.heap[w1.heap.size]? = some (.cells (cb (wt 1 n k)) 5) ∧ Below w.heap.size w wr) (fun i _ => 1 - (intOf i).toNat)
    case atStart => exact ⟨0, by omega, rfl, by rw [heap_below _ _ _ s1]; exact r0, by rw [wt_zero]; exact heap_alloc_last _ _, b1.alloc (by omega) _⟩
    case round =>
      obtain ⟨k, hk, rfl, hr0, hr1, hbw⟩ := hrel
      by_cases hlt : k < 1
      · have hc := row_cell hr0
        obtain rfl : k = 0 := by omega
        obtain ⟨d, hd2⟩ : ∃ d, n / 2 ^ 0 % 2 ^ 4 = d := ⟨_, rfl⟩
        have hd16 : d < 16 := by rw [← hd2]; exact Nat.mod_lt _ (by decide)
        have hstep := wt_step 1 n 0 (by omega)
        have hdg : n / 16 ^ (1 - 1 - 0) % 16 = d := by
          rw [← hd2]
        rw [hdg] at hstep
        have HST := box hstep
        have HD := box hd2
        clear hstep hd2 hdg
        have hs2 : w1.heap.size < wr.heap.size := (Array.getElem?_eq_some_iff.1 hr1).1
        go_wp2_with fail
        refine (wfield4 n 0 (by omega) (by omega) _).mono ?_
        rw [HD.out]
        rintro e w2 ⟨rfl, hb2⟩
        have q0 : w2.heap[w.heap.size]? = some (.cells (cw 6 n) 24) := heap_of hb2 _ _ _ hr0
        have q1 : w2.heap[w1.heap.size]? = some (.cells (cb (wt 1 n 0)) 5) := heap_of hb2 _ _ _ hr1
        have hb3 : Below w.heap.size w w2 := hbw.trans (hb2.mono hbw.size)
        obtain ⟨x, hx⟩ : ∃ x, (wt 1 n 0)[0]? = some x := ⟨_, List.getElem?_eq_getElem (by rw [wt_len 1 n 0 (by omega)]; omega)⟩
        have hcell := cb_cell q1 hx
        have hfz := fz (k := 0) q1
        have hdf := dig_fact w2 d hd16
        clear hc hb2
        go_wp2
        go_roundw
        case rel => exact ⟨0 + 1, by omega, by go_num, by rw [setCell_other (by omega)]; exact q0, by rw [setCell_row q1, cb_set, HST.out], hb3.setCell (by show w.heap.size ≤ w1.heap.size; omega) _⟩
        case measure => simp [intOf] <;> omega
      · obtain rfl : k = 1 := by omega
        rw [wt_full] at hr1
        have hsv := str_of (c := 1) hr1
        rw [hxs_len] at hsv
        go_wp2
        go_ret
        exact ⟨(congrArg (fun l => Ending.returned (Value.string ⟨l⟩)) (congrArg List.toArray HT.out.symm)), hbw⟩
  · have hLi : (L : Int) ≤ 96 := by omega
    try simp only [Int.ofNat_one] at hmk
    go_enter Tryd.func31, Tryd.ntmps31
    go_wp2_with fail
    refine (wlen_any n hn _).mono ?_
    rw [HB.out]
    rintro e w1 ⟨rfl, hb1⟩
    go_wp2
    clear hd
    have r0 : w1.heap[w.heap.size]? = some (.cells (cw 6 n) 24) := heap_of hb1 _ _ _ (heap_alloc_last w _)
    have s1 : w.heap.size < w1.heap.size := (Array.getElem?_eq_some_iff.1 r0).1
    have b1 : Below w.heap.size w w1 := ((Below.refl _ _).alloc (Nat.le_refl _) _).trans (hb1.mono (by simp))
    clear hb1
    go_loopw [16] (fun i wr => ∃ k : Nat, k ≤ L ∧ i = .int .i64 k ∧ wr.heap[w.heap.size]? = some (.cells (cw 6 n) 24) ∧ wr.heap[w1.heap.size]? = some (.cells (cb (wt L n k)) 5) ∧ Below w.heap.size w wr) (fun i _ => L - (intOf i).toNat)
    case atStart => exact ⟨0, by omega, rfl, by rw [heap_below _ _ _ s1]; exact r0, by rw [wt_zero]; exact heap_alloc_last _ _, b1.alloc (by omega) _⟩
    case round =>
      obtain ⟨k, hk, rfl, hr0, hr1, hbw⟩ := hrel
      by_cases hlt : k < L
      · have hc := row_cell hr0
        obtain ⟨p, hp⟩ : ∃ p, p = L - 1 - k := ⟨_, rfl⟩
        obtain ⟨low, hlow⟩ : ∃ low, low = 4 * p := ⟨_, rfl⟩
        have hp1 : ((L : Int) - 1 - (k : Int)) * 4 = (low : Int) := by omega
        obtain ⟨d, hd2⟩ : ∃ d, n / 2 ^ low % 2 ^ 4 = d := ⟨_, rfl⟩
        have hd16 : d < 16 := by rw [← hd2]; exact Nat.mod_lt _ (by decide)
        have hstep := wt_step L n k (by omega)
        have hdg : n / 16 ^ (L - 1 - k) % 16 = d := by
          rw [← hd2, show (16 : Nat) = 2 ^ 4 from rfl, ← Nat.pow_mul]
          congr 3; omega
        rw [hdg] at hstep
        have HST := box hstep
        have HD := box hd2
        have f1 : low < 384 := by omega
        have f2 : low % 64 ≤ 60 := by omega
        clear hstep hd2 hdg hp hlow
        have hs2 : w1.heap.size < wr.heap.size := (Array.getElem?_eq_some_iff.1 hr1).1
        go_wp2_with fail
        refine (wfield4 n low f1 f2 _).mono ?_
        rw [HD.out]
        rintro e w2 ⟨rfl, hb2⟩
        have q0 : w2.heap[w.heap.size]? = some (.cells (cw 6 n) 24) := heap_of hb2 _ _ _ hr0
        have q1 : w2.heap[w1.heap.size]? = some (.cells (cb (wt L n k)) 5) := heap_of hb2 _ _ _ hr1
        have hb3 : Below w.heap.size w w2 := hbw.trans (hb2.mono hbw.size)
        obtain ⟨x, hx⟩ : ∃ x, (wt L n k)[k]? = some x := ⟨_, List.getElem?_eq_getElem (by rw [wt_len L n k (by omega)]; omega)⟩
        have hcell := cb_cell q1 hx
        have hfz := fz (k := k) q1
        have hdf := dig_fact w2 d hd16
        clear hc hb2
        go_wp2
        go_roundw
        case rel => exact ⟨k + 1, by omega, by go_num, by rw [setCell_other (by omega)]; exact q0, by rw [setCell_row q1, cb_set, HST.out], hb3.setCell (by show w.heap.size ≤ w1.heap.size; omega) _⟩
        case measure => simp [intOf] <;> omega
      · rw [show k = L by omega, wt_full] at hr1
        have hsv := str_of (c := L) hr1
        rw [hxs_len] at hsv
        go_wp2
        go_ret
        exact ⟨(congrArg (fun l => Ending.returned (Value.string ⟨l⟩)) (congrArg List.toArray HT.out.symm)), hbw⟩
end Go.Proofs.YtfofonnoheijjaaDoor
