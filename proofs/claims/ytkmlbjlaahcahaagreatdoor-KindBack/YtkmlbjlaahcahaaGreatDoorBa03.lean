/-
  What the functions that the statement reaches return: part 3 (Wide7, Wide8, Wide9, Wide10, Frame6, FrameB, Quot1, Quot2, Rlen, Rquot1, Nat0, Nat1, Nat2, Nat3, Nat4, Nat5, Nat6, List0).
-/
import Derived.Deep.OwnRows
import Derived.Laws.BytesString
import Derived.Test.YtkmlbjlaahcahaaGreatDoorRows
import Derived.WalkKit
import Derived.ProofKit
import Derived.OpenShut
import Derived.Laws.IdiomArrays
import Derived.Below
import Derived.Carry
import Derived.RegionTactic
import Derived.Deep.RegionWith
import Derived.Lib.BitFns
import Derived.Laws.Cover1
import Derived.Test.YtkmlbjlaahcahaaGreatDoorBa02
namespace Go.Proofs.YtkmlbjlaahcahaaGreatDoor
set_option maxRecDepth 100000
open Go.RowKit WMath

/-- Bytes, as cells. -/
def cb (l : List UInt8) : Array Value := (l.map fun b => Value.int .u8 (b.toNat : Int)).toArray

theorem cb_at (l : List UInt8) (k : Nat) (b : UInt8) (h : l[k]? = some b) : (cb l)[k]? = some (.int .u8 (b.toNat : Int)) := by simp [cb, h]
theorem cb_size (l : List UInt8) : (cb l).size = l.length := by simp [cb]
theorem cb_set (l : List UInt8) (k : Nat) (b : UInt8) : (cb l).setIfInBounds k (.int .u8 (b.toNat : Int)) = cb (l.set k b) := by
  simp [cb, List.map_set]
theorem cb_made (L : Nat) : madeCells #[.int .u8 0] L = cb (List.replicate L 0) := by
  apply Array.ext_getElem?
  intro i
  by_cases h : i < L
  · rw [cb_at _ i 0 (by simp [h])]
    simp [madeCells, h, Nat.mod_one]
  · rw [Array.getElem?_eq_none (by rw [size_madeCells]; omega), Array.getElem?_eq_none (by rw [cb_size]; simp; omega)]

/-- The first k letters written, noughts behind. -/
def wt (L n k : Nat) : List UInt8 := (hxs L n).take k ++ List.replicate (L - k) 0
theorem wt_zero (L n : Nat) : wt L n 0 = List.replicate L 0 := by simp [wt]
theorem wt_full (L n : Nat) : wt L n L = hxs L n := by simp [wt, List.take_of_length_le (Nat.le_of_eq (hxs_len L n))]
theorem wt_len (L n k : Nat) (h : k ≤ L) : (wt L n k).length = L := by simp [wt, hxs_len]; omega
theorem wt_step (L n k : Nat) (h : k < L) : (wt L n k).set k (dg (n / 16 ^ (L - 1 - k) % 16)) = wt L n (k + 1) := by
  apply List.ext_getElem?
  intro i
  rw [List.getElem?_set, wt_len L n k (by omega)]
  have a : ∀ k, k ≤ L → (wt L n k)[i]? = if i < k then (hxs L n)[i]? else if i < L then some 0 else none := by
    intro k hk
    unfold wt
    rw [List.getElem?_append, List.length_take, hxs_len, Nat.min_eq_left hk]
    split
    · rename_i h1; rw [List.getElem?_take, if_pos h1]
    · rename_i h1; rw [List.getElem?_replicate]
      by_cases h2 : i < L
      · rw [if_pos h2, if_pos (by omega)]
      · rw [if_neg h2, if_neg (by omega)]
  rw [a k (by omega), a (k + 1) (by omega)]
  by_cases e : k = i
  · subst e
    rw [if_pos rfl, if_pos h, if_pos (by omega), hxs_at L n k h]
  · rw [if_neg e]
    by_cases e2 : i < k
    · rw [if_pos e2, if_pos (by omega)]
    · rw [if_neg e2, if_neg (show ¬ i < k + 1 by omega)]

theorem fz {w : World} {b k : Nat} {c : Array Value} {t : TypeId} (h : w.heap[b]? = some (.cells c t)) : w.frozen? ⟨b, k, none⟩ = false := by simp [World.frozen?, h]
theorem setCell_row {w : World} {b k : Nat} {c : Array Value} {t : TypeId} {v : Value} (h : w.heap[b]? = some (.cells c t)) : (w.setCell ⟨b, k, none⟩ v).heap[b]? = some (.cells (c.setIfInBounds k v) t) := by
  simp [World.setCell, Array.getElem?_modify, h]
theorem setCell_other {w : World} {b b' k : Nat} {v : Value} (h : b ≠ b') : (w.setCell ⟨b, k, none⟩ v).heap[b']? = w.heap[b']? := by
  simp [World.setCell, Array.getElem?_modify, h]
theorem cb_cell {w : World} {b k : Nat} {l : List UInt8} {t : TypeId} {x : UInt8} (h : w.heap[b]? = some (.cells (cb l) t)) (hk : l[k]? = some x) : w.cell? ⟨b, k, none⟩ = some (.int .u8 (x.toNat : Int)) := by
  rw [cell_of_row w b k _ _ _ h, cb_at l k x hk]
theorem fold_bytes : ∀ (l : List UInt8) (a : Array UInt8), ((l.map fun b => (b.toNat : Int)).foldl (fun r n => r.push (UInt8.ofNat n.toNat)) (⟨a⟩ : ByteArray)) = ⟨a ++ l.toArray⟩
  | [], a => by simp
  | x :: l, a => by
    have := fold_bytes l (a.push x)
    simp only [List.map_cons, List.foldl_cons, Int.toNat_natCast, UInt8.ofNat_toNat]
    rw [show (ByteArray.mk a).push x = ⟨a.push x⟩ from rfl, this]
    simp
theorem str_of {w : World} {b c : Nat} {l : List UInt8} {t : TypeId} (h : w.heap[b]? = some (.cells (cb l) t)) :
    (convert 131 9 (.slice (some ⟨b, 0, none⟩) l.length c)).run Tryz.prog w = .ok (.string ⟨l.toArray⟩) w := by
  rw [run_convert_bytes_string w 131 9 5 _ _ _ Tryz.underlying131 Tryz.underlying5 Tryz.underlying9]
  have hl := run_loadCells_list (P := Tryz.prog) w ⟨b, 0, none⟩ (l.map fun x => Value.int .u8 (x.toNat : Int)) (fun j v hv => by
    have hadd : (⟨b, 0, none⟩ : Addr).add j = ⟨b, j, none⟩ := by unfold Addr.add; split <;> simp_all
    rw [hadd, cell_of_row w b j _ _ _ h]
    simpa [cb] using hv)
  rw [List.length_map] at hl
  rw [run_bytesToString (P := Tryz.prog) w ⟨b, 0, none⟩ l.length c (l.map fun x => (x.toNat : Int)) (by rw [hl]; simp), show ByteArray.empty = ⟨#[]⟩ from rfl, fold_bytes]
  simp

theorem dig_fact (w : World) (d : Nat) (h : d < 16) :
    (Instr.index 9 (.string ⟨#[48, 49, 50, 51, 52, 53, 54, 55, 56, 57, 97, 98, 99, 100, 101, 102]⟩) (.int .u64 (d : Nat))).run Tryz.prog w = .ok (.int .u8 ((dg d).toNat : Int)) w := by
  have hd : d = 0 ∨ d = 1 ∨ d = 2 ∨ d = 3 ∨ d = 4 ∨ d = 5 ∨ d = 6 ∨ d = 7 ∨ d = 8 ∨ d = 9 ∨ d = 10 ∨ d = 11 ∨ d = 12 ∨ d = 13 ∨ d = 14 ∨ d = 15 := by omega
  rcases hd with rfl | rfl | rfl | rfl | rfl | rfl | rfl | rfl | rfl | rfl | rfl | rfl | rfl | rfl | rfl | rfl <;> (rw [run_index_string (P := Tryz.prog) w 9 _ _ _ Tryz.underlying9]; rfl)

theorem wfield4 (n low : Nat) (hl : low < 384) (hc : low % 64 ≤ 60) (w : World) :
    Calls Tryz.prog 200 #[.agg (cw 6 n), .int .i64 low, .int .i64 4] w fun e w' => e = .returned (.int .u64 (n / 2 ^ low % 2 ^ 4 : Nat)) ∧ Below w.heap.size w w' := wfield_any n low 4 hl (by omega) w

set_option maxHeartbeats 1000000 in
theorem wtext_any (n : Nat) (hn : n < Q) (w : World) :
    Calls Tryz.prog 131 #[W n] w fun e w' => e = .returned (.string ⟨(tx n).toArray⟩) ∧ Below w.heap.size w w' := by
  have hnd := nd_le n hn
  obtain ⟨L, hL⟩ : ∃ L, nd n = L := ⟨_, rfl⟩
  rw [hL] at hnd
  obtain ⟨b, hb⟩ : ∃ b, blen n = b := ⟨_, rfl⟩
  have hb4 : b ≤ 384 := by
    obtain ⟨S, hS, hQ⟩ := Q_of
    rw [hQ] at hn
    have := blen_le_of n _ hn
    omega
  have hLb : L = max 1 ((b + 3) / 4) := by rw [← hL, ← hb]; rfl
  have HL := box hL
  have HB := box hb
  have HT : Box (tx n = hxs L n) := box (by unfold tx; rw [hL])
  unfold W
  have hat := cw_at 6
  have hf := cw6f
  have hmk : ∀ w, (Instr.makeSlice 131 (.int .i64 (L : Int)) (.int .i64 (L : Int))).run Tryz.prog w = .ok (.slice (some ⟨w.heap.size, 0, none⟩) L L) (w.alloc (.cells (cb (List.replicate L 0)) 5)) := fun w => by
    rw [← cb_made]
    exact run_make_row' (P := Tryz.prog) 131 5 (.int .u8 0) 1 Tryz.underlying131 (by kernel_rfl) rfl .i64 .i64 L (by omega) (by omega) w
  have hcase : (L = 1 ∧ ((b : Int) + 4 - 1) / 4 = 0) ∨ (L = 1 ∧ ((b : Int) + 4 - 1) / 4 = 1) ∨ (1 < L ∧ ((b : Int) + 4 - 1) / 4 = (L : Int)) := by omega
  clear hb hL hLb
  rcases hcase with ⟨hL1, hd⟩ | ⟨hL1, hd⟩ | ⟨h1, hd⟩
  · subst hL1
    try simp only [Int.ofNat_one] at hmk
    go_enter Tryz.func131, Tryz.ntmps131
    go_wp2_with fail
    refine (wlen_any n hn _).mono ?_
    rw [HB.out]
    rintro e w1 ⟨rfl, hb1⟩
    go_wp2
    clear hd
    have r0 : w1.heap[w.heap.size]? = some (.cells (cw 6 n) 53) := heap_of hb1 _ _ _ (heap_alloc_last w _)
    have s1 : w.heap.size < w1.heap.size := (Array.getElem?_eq_some_iff.1 r0).1
    have b1 : Below w.heap.size w w1 := ((Below.refl _ _).alloc (Nat.le_refl _) _).trans (hb1.mono (by simp))
    clear hb1
    go_loopw [16] (fun i wr => ∃ k : Nat, k ≤ 1 ∧ i = .int .i64 k ∧ wr.heap[w.heap.size]? = some (.cells (cw 6 n) 53) ∧ wr.heap[w1.heap.size]? = some (.cells (cb (wt 1 n k)) 5) ∧ Below w.heap.size w wr) (fun i _ => 1 - (intOf i).toNat)
    case atStart => exact ⟨0, by omega, rfl, by rw [heap_below _ _ _ s1]; exact r0, by rw [wt_zero]; exact heap_alloc_last _ _, b1.alloc (by omega) _⟩
    case round =>
      obtain ⟨k, hk, rfl, hr0, hr1, hbw⟩ := hrel
      by_cases hlt : k < 1
      · have hc := row_cell hr0
        obtain rfl : k = 0 := by omega
        obtain ⟨d, hd2⟩ : ∃ d, n / 2 ^ 0 % 2 ^ 4 = d := ⟨_, rfl⟩
        have hd16 : d < 16 := by rw [← hd2]; exact Nat.mod_lt _ (by decide)
        have hstep := wt_step 1 n 0 (by omega)
        have hdg : n / 16 ^ (1 - 1 - 0) % 16 = d := by
          rw [← hd2]
        rw [hdg] at hstep
        have HST := box hstep
        have HD := box hd2
        clear hstep hd2 hdg
        have hs2 : w1.heap.size < wr.heap.size := (Array.getElem?_eq_some_iff.1 hr1).1
        go_wp2_with fail
        refine (wfield4 n 0 (by omega) (by omega) _).mono ?_
        rw [HD.out]
        rintro e w2 ⟨rfl, hb2⟩
        have q0 : w2.heap[w.heap.size]? = some (.cells (cw 6 n) 53) := heap_of hb2 _ _ _ hr0
        have q1 : w2.heap[w1.heap.size]? = some (.cells (cb (wt 1 n 0)) 5) := heap_of hb2 _ _ _ hr1
        have hb3 : Below w.heap.size w w2 := hbw.trans (hb2.mono hbw.size)
        obtain ⟨x, hx⟩ : ∃ x, (wt 1 n 0)[0]? = some x := ⟨_, List.getElem?_eq_getElem (by rw [wt_len 1 n 0 (by omega)]; omega)⟩
        have hcell := cb_cell q1 hx
        have hfz := fz (k := 0) q1
        have hdf := dig_fact w2 d hd16
        clear hc hb2
        go_wp2
        go_roundw
        case rel => exact ⟨0 + 1, by omega, by go_num, by rw [setCell_other (by omega)]; exact q0, by rw [setCell_row q1, cb_set, HST.out], hb3.setCell (by show w.heap.size ≤ w1.heap.size; omega) _⟩
        case measure => simp [intOf] <;> omega
      · obtain rfl : k = 1 := by omega
        rw [wt_full] at hr1
        have hsv := str_of (c := 1) hr1
        rw [hxs_len] at hsv
        go_wp2
        go_ret
        exact ⟨(congrArg (fun l => Ending.returned (Value.string ⟨l⟩)) (congrArg List.toArray HT.out.symm)), hbw⟩
  · subst hL1
    try simp only [Int.ofNat_one] at hmk
    go_enter Tryz.func131, Tryz.ntmps131
    go_wp2_with fail
    refine (wlen_any n hn _).mono ?_
    rw [HB.out]
    rintro e w1 ⟨rfl, hb1⟩
    go_wp2
    clear hd
    have r0 : w1.heap[w.heap.size]? = some (.cells (cw 6 n) 53) := heap_of hb1 _ _ _ (heap_alloc_last w _)
    have s1 : w.heap.size < w1.heap.size := (Array.getElem?_eq_some_iff.1 r0).1
    have b1 : Below w.heap.size w w1 := ((Below.refl _ _).alloc (Nat.le_refl _) _).trans (hb1.mono (by simp))
    clear hb1
    go_loopw [16] (fun i wr => ∃ k : Nat, k ≤ 1 ∧ i = .int .i64 k ∧ wr.heap[w.heap.size]? = some (.cells (cw 6 n) 53) ∧ wr.heap[w1.heap.size]? = some (.cells (cb (wt 1 n k)) 5) ∧ Below w.heap.size w wr) (fun i _ => 1 - (intOf i).toNat)
    case atStart => exact ⟨0, by omega, rfl, by rw [heap_below _ _ _ s1]; exact r0, by rw [wt_zero]; exact heap_alloc_last _ _, b1.alloc (by omega) _⟩
    case round =>
      obtain ⟨k, hk, rfl, hr0, hr1, hbw⟩ := hrel
      by_cases hlt : k < 1
      · have hc := row_cell hr0
        obtain rfl : k = 0 := by omega
        obtain ⟨d, hd2⟩ : ∃ d, n / 2 ^ 0 % 2 ^ 4 = d := ⟨_, rfl⟩
        have hd16 : d < 16 := by rw [← hd2]; exact Nat.mod_lt _ (by decide)
        have hstep := wt_step 1 n 0 (by omega)
        have hdg : n / 16 ^ (1 - 1 - 0) % 16 = d := by
          rw [← hd2]
        rw [hdg] at hstep
        have HST := box hstep
        have HD := box hd2
        clear hstep hd2 hdg
        have hs2 : w1.heap.size < wr.heap.size := (Array.getElem?_eq_some_iff.1 hr1).1
        go_wp2_with fail
        refine (wfield4 n 0 (by omega) (by omega) _).mono ?_
        rw [HD.out]
        rintro e w2 ⟨rfl, hb2⟩
        have q0 : w2.heap[w.heap.size]? = some (.cells (cw 6 n) 53) := heap_of hb2 _ _ _ hr0
        have q1 : w2.heap[w1.heap.size]? = some (.cells (cb (wt 1 n 0)) 5) := heap_of hb2 _ _ _ hr1
        have hb3 : Below w.heap.size w w2 := hbw.trans (hb2.mono hbw.size)
        obtain ⟨x, hx⟩ : ∃ x, (wt 1 n 0)[0]? = some x := ⟨_, List.getElem?_eq_getElem (by rw [wt_len 1 n 0 (by omega)]; omega)⟩
        have hcell := cb_cell q1 hx
        have hfz := fz (k := 0) q1
        have hdf := dig_fact w2 d hd16
        clear hc hb2
        go_wp2
        go_roundw
        case rel => exact ⟨0 + 1, by omega, by go_num, by rw [setCell_other (by omega)]; exact q0, by rw [setCell_row q1, cb_set, HST.out], hb3.setCell (by show w.heap.size ≤ w1.heap.size; omega) _⟩
        case measure => simp [intOf] <;> omega
      · obtain rfl : k = 1 := by omega
        rw [wt_full] at hr1
        have hsv := str_of (c := 1) hr1
        rw [hxs_len] at hsv
        go_wp2
        go_ret
        exact ⟨(congrArg (fun l => Ending.returned (Value.string ⟨l⟩)) (congrArg List.toArray HT.out.symm)), hbw⟩
  · have hLi : (L : Int) ≤ 96 := by omega
    try simp only [Int.ofNat_one] at hmk
    go_enter Tryz.func131, Tryz.ntmps131
    go_wp2_with fail
    refine (wlen_any n hn _).mono ?_
    rw [HB.out]
    rintro e w1 ⟨rfl, hb1⟩
    go_wp2
    clear hd
    have r0 : w1.heap[w.heap.size]? = some (.cells (cw 6 n) 53) := heap_of hb1 _ _ _ (heap_alloc_last w _)
    have s1 : w.heap.size < w1.heap.size := (Array.getElem?_eq_some_iff.1 r0).1
    have b1 : Below w.heap.size w w1 := ((Below.refl _ _).alloc (Nat.le_refl _) _).trans (hb1.mono (by simp))
    clear hb1
    go_loopw [16] (fun i wr => ∃ k : Nat, k ≤ L ∧ i = .int .i64 k ∧ wr.heap[w.heap.size]? = some (.cells (cw 6 n) 53) ∧ wr.heap[w1.heap.size]? = some (.cells (cb (wt L n k)) 5) ∧ Below w.heap.size w wr) (fun i _ => L - (intOf i).toNat)
    case atStart => exact ⟨0, by omega, rfl, by rw [heap_below _ _ _ s1]; exact r0, by rw [wt_zero]; exact heap_alloc_last _ _, b1.alloc (by omega) _⟩
    case round =>
      obtain ⟨k, hk, rfl, hr0, hr1, hbw⟩ := hrel
      by_cases hlt : k < L
      · have hc := row_cell hr0
        obtain ⟨p, hp⟩ : ∃ p, p = L - 1 - k := ⟨_, rfl⟩
        obtain ⟨low, hlow⟩ : ∃ low, low = 4 * p := ⟨_, rfl⟩
        have hp1 : ((L : Int) - 1 - (k : Int)) * 4 = (low : Int) := by omega
        obtain ⟨d, hd2⟩ : ∃ d, n / 2 ^ low % 2 ^ 4 = d := ⟨_, rfl⟩
        have hd16 : d < 16 := by rw [← hd2]; exact Nat.mod_lt _ (by decide)
        have hstep := wt_step L n k (by omega)
        have hdg : n / 16 ^ (L - 1 - k) % 16 = d := by
          rw [← hd2, show (16 : Nat) = 2 ^ 4 from rfl, ← Nat.pow_mul]
          congr 3; omega
        rw [hdg] at hstep
        have HST := box hstep
        have HD := box hd2
        have f1 : low < 384 := by omega
        have f2 : low % 64 ≤ 60 := by omega
        clear hstep hd2 hdg hp hlow
        have hs2 : w1.heap.size < wr.heap.size := (Array.getElem?_eq_some_iff.1 hr1).1
        go_wp2_with fail
        refine (wfield4 n low f1 f2 _).mono ?_
        rw [HD.out]
        rintro e w2 ⟨rfl, hb2⟩
        have q0 : w2.heap[w.heap.size]? = some (.cells (cw 6 n) 53) := heap_of hb2 _ _ _ hr0
        have q1 : w2.heap[w1.heap.size]? = some (.cells (cb (wt L n k)) 5) := heap_of hb2 _ _ _ hr1
        have hb3 : Below w.heap.size w w2 := hbw.trans (hb2.mono hbw.size)
        obtain ⟨x, hx⟩ : ∃ x, (wt L n k)[k]? = some x := ⟨_, List.getElem?_eq_getElem (by rw [wt_len L n k (by omega)]; omega)⟩
        have hcell := cb_cell q1 hx
        have hfz := fz (k := k) q1
        have hdf := dig_fact w2 d hd16
        clear hc hb2
        go_wp2
        go_roundw
        case rel => exact ⟨k + 1, by omega, by go_num, by rw [setCell_other (by omega)]; exact q0, by rw [setCell_row q1, cb_set, HST.out], hb3.setCell (by show w.heap.size ≤ w1.heap.size; omega) _⟩
        case measure => simp [intOf] <;> omega
      · rw [show k = L by omega, wt_full] at hr1
        have hsv := str_of (c := L) hr1
        rw [hxs_len] at hsv
        go_wp2
        go_ret
        exact ⟨(congrArg (fun l => Ending.returned (Value.string ⟨l⟩)) (congrArg List.toArray HT.out.symm)), hbw⟩
end Go.Proofs.YtkmlbjlaahcahaaGreatDoor
namespace Go.Proofs.YtkmlbjlaahcahaaGreatDoor
set_option maxRecDepth 100000
open Go.RowKit WMath

theorem wof_al (n : Nat) (hn : n < 18446744073709551616) (w : World) : Calls Tryz.prog 152 #[.int .u64 n] w fun e w' => e = .returned (.agg (cw 6 n)) ∧ Below w.heap.size w w' := wof_any n hn w
end Go.Proofs.YtkmlbjlaahcahaaGreatDoor
namespace Go.Proofs.YtkmlbjlaahcahaaGreatDoor
set_option maxRecDepth 100000
open Go.RowKit WMath

/-- 128 bits, as a value: the upper word and the lower one. -/
def bitsV (b : Nat × Nat) : Value := .agg #[.int .u64 (b.1 : Nat), .int .u64 (b.2 : Nat)]

theorem set0 (x : Nat) (hx : x < 18446744073709551616) : (cw 6 0).setIfInBounds 0 (.int .u64 (x : Nat)) = cw 6 x := by
  rw [cw_set 6 0 0 x (by omega) hx, setw_low 0 0 x (by decide)]; simp
theorem set1 (x y : Nat) (hx : x < 18446744073709551616) (hy : y < 18446744073709551616) : (cw 6 x).setIfInBounds 1 (.int .u64 (y : Nat)) = cw 6 (x + 18446744073709551616 * y) := by
  rw [cw_set 6 x 1 y (by omega) hy, setw_low x 1 y (by rw [show 2 ^ (64 * 1) = 18446744073709551616 by decide]; exact hx)]
theorem bits_ltQ (x y : Nat) (hx : x < 18446744073709551616) (hy : y < 18446744073709551616) : x + 18446744073709551616 * y < Q := by
  obtain ⟨L, hL, hQ⟩ := Q_of
  rw [hQ]
  have h := push_lt x 1 y (by rw [show 2 ^ (64 * 1) = 18446744073709551616 by decide]; exact hx) hy
  have h2 : 2 ^ (64 * (1 + 1)) ≤ 2 ^ (64 * L) := Nat.pow_le_pow_right (by decide) (by omega)
  rw [show 2 ^ (64 * 1) = 18446744073709551616 by decide] at h
  omega

theorem wofbits_any (hi lo : Nat) (hh : hi < 18446744073709551616) (hl : lo < 18446744073709551616) (w : World) :
    Calls Tryz.prog 149 #[.agg #[.int .u64 hi, .int .u64 lo]] w fun e w' => e = .returned (.agg (cw 6 (lo + 18446744073709551616 * hi))) ∧ Below w.heap.size w w' := by
  have hat := cw_at 6
  have hz := cw6z
  have hf := cw6f
  have hs0 := st0
  obtain ⟨v, hv⟩ : ∃ v, v = lo + 18446744073709551616 * hi := ⟨_, rfl⟩
  have h1 := set0 lo hl
  have h2 := set1 lo hi hl hh
  rw [← hv] at h2 ⊢
  have h3 : (cw 6 0).toList.set 0 (.int .u64 lo) = (cw 6 lo).toList := by rw [← h1]; simp
  have h4 : (cw 6 lo).toList.set 1 (.int .u64 hi) = (cw 6 v).toList := by rw [← h2]; simp
  clear hv
  go_enter Tryz.func149, Tryz.ntmps149
  go_wp2
  exact bodyPost_ret (v := .agg (cw 6 v)) (by simp [results, Tryz.results149, go_sem, hat, hf]) rfl ⟨rfl, ((Below.refl _ _).alloc (Nat.le_refl _) _).alloc (by simp <;> omega) _⟩

theorem rwofbits_any (hi lo : Nat) (hh : hi < 18446744073709551616) (hl : lo < 18446744073709551616) (w : World) :
    Calls Tryz.prog 100 #[.agg #[.int .u64 hi, .int .u64 lo]] w fun e w' => e = .returned (.agg (cw 6 (lo + 18446744073709551616 * hi))) ∧ Below w.heap.size w w' := by
  have hat := cw_at 6
  have hz := cw6z
  have hf := cw6f
  have hs1 := st1
  obtain ⟨v, hv⟩ : ∃ v, v = lo + 18446744073709551616 * hi := ⟨_, rfl⟩
  have h1 := set0 lo hl
  have h2 := set1 lo hi hl hh
  rw [← hv] at h2 ⊢
  clear hv
  go_enter Tryz.func100, Tryz.ntmps100
  go_wp2
  exact bodyPost_ret (v := .agg (cw 6 v)) (by simp [results, Tryz.results100, go_sem, hat, hf]) rfl ⟨rfl, (((Below.refl _ _).alloc (Nat.le_refl _) _).alloc (by simp <;> omega) _).alloc (by simp <;> omega) _⟩

def cmpv (n m : Nat) : Int := if n = m then 0 else if n < m then -1 else 1

theorem wofbits_is (hi lo v : Nat) (hh : hi < 18446744073709551616) (hl : lo < 18446744073709551616) (hv : lo + 18446744073709551616 * hi = v) (w : World) :
    Calls Tryz.prog 149 #[.agg #[.int .u64 hi, .int .u64 lo]] w fun e w' => e = .returned (.agg (cw 6 v)) ∧ Below w.heap.size w w' := by
  subst hv; exact wofbits_any hi lo hh hl w

theorem wtobits_yes (n : Nat) (hn : n < Q) (hv : wd n 0 + 18446744073709551616 * wd n 1 = n) (w : World) :
    Calls Tryz.prog 119 #[.agg (cw 6 n)] w fun e w' => e = .returned (.tuple #[.agg #[.int .u64 (wd n 1 : Nat), .int .u64 (wd n 0 : Nat)], .bool true]) ∧ Below w.heap.size w w' := by
  have hat := cw_at 6
  have hf := cw6f
  have heq := eq6
  have hg := eqg6
  have HV := box hv
  clear hv
  obtain ⟨W, hW⟩ : ∃ W, W = (w.alloc (.cells (cw 6 n) 53)).alloc (.cells #[.int .u64 (wd n 1 : Nat), .int .u64 (wd n 0 : Nat)] 25) := ⟨_, rfl⟩
  have r0 : W.heap[w.heap.size]? = some (.cells (cw 6 n) 53) := by rw [hW, heap_below _ _ _ (by simp only [size_al]; omega)]; exact heap_alloc_last _ _
  have r1 : W.heap[w.heap.size + 1]? = some (.cells #[.int .u64 (wd n 1 : Nat), .int .u64 (wd n 0 : Nat)] 25) := by
    rw [hW]
    have := heap_alloc_last (w.alloc (.cells (cw 6 n) 53)) (.cells #[.int .u64 (wd n 1 : Nat), .int .u64 (wd n 0 : Nat)] 25)
    simpa only [size_al] using this
  have bW : Below w.heap.size w W := by rw [hW]; exact ((Below.refl _ _).alloc (Nat.le_refl _) _).alloc (by simp only [size_al]; omega) _
  obtain ⟨F, hF1, hF2⟩ := below_fun W
  have hFn : ∀ u o, o < 6 → (F u).cell? ⟨w.heap.size, o, none⟩ = some (.int .u64 (wd n o : Nat)) := fun u => row_cell (heap_of (hF1 u) _ _ _ r0)
  have hF3 : ∀ u, (F u).cell? ⟨w.heap.size + 1, 0, none⟩ = some (.int .u64 (wd n 1 : Nat)) := fun u => by rw [cell_of_row _ _ _ _ _ _ (heap_of (hF1 u) _ _ _ r1)]; rfl
  have hF4 : ∀ u, (F u).cell? ⟨w.heap.size + 1, 1, none⟩ = some (.int .u64 (wd n 0 : Nat)) := fun u => by rw [cell_of_row _ _ _ _ _ _ (heap_of (hF1 u) _ _ _ r1)]; rfl
  go_enter Tryz.func119, Tryz.ntmps119
  go_wp2
  rw [← hW]
  clear hW
  refine wp_region_below F hF2 (by kernel_rfl) (by kernel_rfl) ?_
  repeat quiet_step ((go_at_call 149; exact quietF hF1 hF2 (wofbits_is (wd n 1) (wd n 0) n (wd_lt _ _) (wd_lt _ _) HV.out _)))
  refine wpQuiet_nil ?_
  rintro _ ⟨u, rfl⟩
  have hz3 := hF3 u
  have hz4 := hF4 u
  have hz5 : ∀ o, (F u).frozen? ⟨w.heap.size + 1, o, none⟩ = false := fun o => fz (heap_of (hF1 u) _ _ _ r1)
  go_wp2
  exact bodyPost_ret (v := .tuple #[.agg #[.int .u64 (wd n 1 : Nat), .int .u64 (wd n 0 : Nat)], .bool true]) (by simp [results, Tryz.results119, go_sem, hz3, hz4]) rfl ⟨rfl, ((bW.trans ((hF1 u).mono bW.size)).setCell (by show w.heap.size ≤ w.heap.size + 1; omega) _).setCell (by show w.heap.size ≤ w.heap.size + 1; omega) _⟩
theorem wtobits_no (n : Nat) (hn : n < Q) (hv : ¬ wd n 0 + 18446744073709551616 * wd n 1 = n) (w : World) :
    Calls Tryz.prog 119 #[.agg (cw 6 n)] w fun e w' => e = .returned (.tuple #[.agg #[.int .u64 0, .int .u64 0], .bool false]) ∧ Below w.heap.size w w' := by
  have hat := cw_at 6
  have hf := cw6f
  have heq := eq6
  have hg := eqg6
  obtain ⟨v, hx⟩ : ∃ v, wd n 0 + 18446744073709551616 * wd n 1 = v := ⟨_, rfl⟩
  rw [hx] at hv
  have hvQ : v < Q := by rw [← hx]; exact bits_ltQ _ _ (wd_lt _ _) (wd_lt _ _)
  have HV := box hx
  clear hx
  obtain ⟨W, hW⟩ : ∃ W, W = (w.alloc (.cells (cw 6 n) 53)).alloc (.cells #[.int .u64 (wd n 1 : Nat), .int .u64 (wd n 0 : Nat)] 25) := ⟨_, rfl⟩
  have r0 : W.heap[w.heap.size]? = some (.cells (cw 6 n) 53) := by rw [hW, heap_below _ _ _ (by simp only [size_al]; omega)]; exact heap_alloc_last _ _
  have r1 : W.heap[w.heap.size + 1]? = some (.cells #[.int .u64 (wd n 1 : Nat), .int .u64 (wd n 0 : Nat)] 25) := by
    rw [hW]
    have := heap_alloc_last (w.alloc (.cells (cw 6 n) 53)) (.cells #[.int .u64 (wd n 1 : Nat), .int .u64 (wd n 0 : Nat)] 25)
    simpa only [size_al] using this
  have bW : Below w.heap.size w W := by rw [hW]; exact ((Below.refl _ _).alloc (Nat.le_refl _) _).alloc (by simp only [size_al]; omega) _
  obtain ⟨F, hF1, hF2⟩ := below_fun W
  have hFn : ∀ u o, o < 6 → (F u).cell? ⟨w.heap.size, o, none⟩ = some (.int .u64 (wd n o : Nat)) := fun u => row_cell (heap_of (hF1 u) _ _ _ r0)
  have hF3 : ∀ u, (F u).cell? ⟨w.heap.size + 1, 0, none⟩ = some (.int .u64 (wd n 1 : Nat)) := fun u => by rw [cell_of_row _ _ _ _ _ _ (heap_of (hF1 u) _ _ _ r1)]; rfl
  have hF4 : ∀ u, (F u).cell? ⟨w.heap.size + 1, 1, none⟩ = some (.int .u64 (wd n 0 : Nat)) := fun u => by rw [cell_of_row _ _ _ _ _ _ (heap_of (hF1 u) _ _ _ r1)]; rfl
  go_enter Tryz.func119, Tryz.ntmps119
  go_wp2
  rw [← hW]
  clear hW
  refine wp_region_below F hF2 (by kernel_rfl) (by kernel_rfl) ?_
  repeat quiet_step ((go_at_call 149; exact quietF hF1 hF2 (wofbits_is (wd n 1) (wd n 0) v (wd_lt _ _) (wd_lt _ _) HV.out _)))
  refine wpQuiet_nil ?_
  rintro _ ⟨u, rfl⟩
  have hz3 := hF3 u
  have hz4 := hF4 u
  have hz5 : ∀ o, (F u).frozen? ⟨w.heap.size + 1, o, none⟩ = false := fun o => fz (heap_of (hF1 u) _ _ _ r1)
  go_wp2
  exact bodyPost_ret (v := .tuple #[.agg #[.int .u64 0, .int .u64 0], .bool false]) (by simp [results, Tryz.results119, go_sem, hz3, hz4]) rfl ⟨rfl, ((bW.trans ((hF1 u).mono bW.size)).setCell (by show w.heap.size ≤ w.heap.size + 1; omega) _).setCell (by show w.heap.size ≤ w.heap.size + 1; omega) _⟩

theorem rwofbits_is (hi lo v : Nat) (hh : hi < 18446744073709551616) (hl : lo < 18446744073709551616) (hv : lo + 18446744073709551616 * hi = v) (w : World) :
    Calls Tryz.prog 100 #[.agg #[.int .u64 hi, .int .u64 lo]] w fun e w' => e = .returned (.agg (cw 6 v)) ∧ Below w.heap.size w w' := by
  subst hv; exact rwofbits_any hi lo hh hl w
end Go.Proofs.YtkmlbjlaahcahaaGreatDoor
namespace Go.Proofs.YtkmlbjlaahcahaaGreatDoor
set_option maxRecDepth 100000
open Go.RowKit WMath

def digs : ByteArray := ⟨#[48, 49, 50, 51, 52, 53, 54, 55, 56, 57, 97, 98, 99, 100, 101, 102]⟩
def dvi (c : UInt8) : Int := match dv c with | some d => (d : Int) | none => -1
theorem first_dvi (c : UInt8) : firstIdx digs c = dvi c := by
  have key : ∀ c : Fin 256, firstIdx digs (UInt8.ofNat c.val) = dvi (UInt8.ofNat c.val) := by decide +kernel
  have := key ⟨c.toNat, c.toNat_lt⟩
  simpa using this

theorem idx2_any (c : UInt8) (w : World) :
    Calls Tryz.prog 237 #[.string digs, .int .u8 (c.toNat : Int)] w fun e w' => e = .returned (.int .i64 (dvi c)) ∧ w' = w := by
  have hx := run_indexByte_string (P := Tryz.prog) digs (c.toNat : Int)
  have hc : (c.toNat : Int).toNat.toUInt8 = c := by simp
  rw [hc, first_dvi] at hx
  go_enter Tryz.func237, Tryz.ntmps237
  go_wp2
  rw [run_callFunc_extern Tryz.func265 (by kernel_rfl) (by kernel_rfl) (by kernel_rfl) (e := Extern.BytealgIndexByte.indexByte) (by kernel_rfl), hx]
  simp only [Result.andThen]
  rw [Oper.upon_value]
  go_wp2
  go_ret
  exact ⟨rfl, rfl⟩
theorem idx_any (c : UInt8) (w : World) :
    Calls Tryz.prog 204 #[.string digs, .int .u8 (c.toNat : Int)] w fun e w' => e = .returned (.int .i64 (dvi c)) ∧ w' = w := by
  go_enter Tryz.func204, Tryz.ntmps204
  go_wp2_with (go_at_call 237; refine (idx2_any c _).mono ?_; rintro e w' ⟨rfl, rfl⟩)
  go_ret
  exact ⟨rfl, rfl⟩
theorem idx_is (c : UInt8) (i : Int) (h : dvi c = i) (w : World) :
    Calls Tryz.prog 204 #[.string ⟨#[48, 49, 50, 51, 52, 53, 54, 55, 56, 57, 97, 98, 99, 100, 101, 102]⟩, .int .u8 (c.toNat : Int)] w fun e w' => e = .returned (.int .i64 i) ∧ w' = w := by
  subst h; exact idx_any c w

theorem wup4 (n v : Nat) (hn : n < Q) (hv : n * 16 = v) (hq : v < Q) (w : World) :
    Calls Tryz.prog 205 #[.agg (cw 6 n), .int .i64 4] w fun e w' => e = .returned (.agg (cw 6 v)) ∧ Below w.heap.size w w' := by
  have h := wup_any n 4 hn (by omega) w
  rw [show 2 ^ 4 = 16 by decide, hv, Nat.mod_eq_of_lt hq] at h
  exact h
theorem wor_is (n m v : Nat) (hn : n < Q) (hm : m < Q) (hv : n ||| m = v) (w : World) :
    Calls Tryz.prog 153 #[.agg (cw 6 n), .agg (cw 6 m)] w fun e w' => e = .returned (.agg (cw 6 v)) ∧ Below w.heap.size w w' := by
  subst hv; exact wor_any n m hn hm w

/-- What is read out of a text: the number, and the error. -/
def rd (l : List UInt8) : Nat × Int := if l.length ≤ 96 then (match vals l with | some v => if tx v = l then (v, 0) else (0, 20) | none => (0, 20)) else (0, 20)

theorem rd_long (l : List UInt8) (h : ¬ l.length ≤ 96) : rd l = (0, 20) := by unfold rd; rw [if_neg h]
theorem rd_none (l : List UInt8) (h : vals l = none) : rd l = (0, 20) := by unfold rd; rw [h]; simp
theorem rd_other (l : List UInt8) (v : Nat) (h : vals l = some v) (h2 : tx v ≠ l) : rd l = (0, 20) := by unfold rd; rw [h]; simp [h2]
theorem rd_good (l : List UInt8) (v : Nat) (hl : l.length ≤ 96) (h : vals l = some v) (h2 : tx v = l) : rd l = (v, 0) := by unfold rd; rw [if_pos hl, h]; simp [h2]

set_option maxRecDepth 100000 in
set_option maxHeartbeats 1000000 in
theorem wread_is (s : ByteArray) (l : List UInt8) (V : Nat) (E : Int) (hs : s.size ≤ 9223372036854775807) (hl : s.data.toList = l) (hr : rd l = (V, E)) (w : World) :
    Calls Tryz.prog 137 #[.string s] w fun e w' => e = .returned (.tuple #[.agg (cw 6 V), .int .i64 E]) ∧ Below w.heap.size w w' := by
  have hat := cw_at 6
  have hz := cw6z
  have hf := cw6f
  have hs0 := st0
  have hsl : s.size = l.length := by rw [← hl, Array.length_toList]; rfl
  by_cases h96 : s.size ≤ 96
  · have HR := box hr
    have HL := box hl
    have HSL := box hsl
    clear hr hl hsl
    have h96i : (s.size : Int) ≤ 96 := by omega
    go_enter Tryz.func137, Tryz.ntmps137
    go_wp2
    go_loopw [13] (fun iv wr => ∃ k v : Nat, k ≤ s.size ∧ iv = .int .i64 k ∧ wr.heap[w.heap.size]? = some (.cells (cw 6 0) 53) ∧ wr.heap[w.heap.size + 1]? = some (.cells (cw 6 v) 53) ∧ Below w.heap.size w wr ∧ v < Q ∧ Box (vals (l.take k) = some v)) (fun iv _ => s.size - (intOf iv).toNat)
    case atStart =>
      refine ⟨0, 0, by omega, rfl, ?_, ?_, ((Below.refl _ _).alloc (Nat.le_refl _) _).alloc (by simp) _, Q_pos, box rfl⟩
      · rw [heap_below _ _ _ (by simp only [size_al]; omega)]; exact heap_alloc_last _ _
      · have := heap_alloc_last (w.alloc (.cells (cw 6 0) 53)) (.cells (cw 6 0) 53)
        simpa only [size_al] using this
    case round =>
      obtain ⟨k, v, hk, rfl, r0, r1, hbw, hvQ, HV⟩ := hrel
      by_cases hlt : k < s.size
      · obtain ⟨c, hc⟩ : ∃ c, s[k] = c := ⟨_, rfl⟩
        have hts : l.take (k + 1) = l.take k ++ [c] := by
          have hkl : k < l.length := by rw [← HSL.out]; exact hlt
          rw [List.take_succ_eq_append_getElem hkl]
          congr 2
          rw [← hc]
          have : ∀ h, l[k]'h = s.data.toList[k]'(by rw [HL.out]; exact h) := fun h => by simp [HL.out]
          rw [this]
          rfl
        have HVS : Box (vals (l.take (k + 1)) = vstep (some v) c) := box (by rw [hts, vals_snoc, HV.out])
        clear hts
        cases hd : dv c with
        | none =>
          have hi : dvi c = -1 := by unfold dvi; rw [hd]
          have HI := box hi
          have HN : Box (rd l = (0, 20)) := box (rd_none l (vals_take_none l (k + 1) (by rw [HVS.out]; unfold vstep; rw [hd])))
          clear hi hd
          have e := HR.out
          rw [HN.out] at e
          injection e with e1 e2
          subst e1
          subst e2
          have hst := st_same wr _ 0 r0
          have c0 := row_cell r0
          go_wp2_with fail
          refine (idx_is c (-1) HI.out _).mono ?_
          rintro e w' ⟨rfl, rfl⟩
          go_wp2
          exact bodyPost_ret (v := .tuple #[.agg (cw 6 0), .int .i64 20]) (by simp [results, Tryz.results137, go_sem, c0, hf]) rfl ⟨rfl, hbw⟩
        | some d =>
          have hi : dvi c = (d : Int) := by unfold dvi; rw [hd]
          have HI := box hi
          obtain ⟨hd16, _, _⟩ := dv_spec c d hd
          have HV2 : Box (vals (l.take (k + 1)) = some (16 * v + d)) := box (by rw [HVS.out]; unfold vstep; rw [hd])
          have hlen : (l.take (k + 1)).length = k + 1 := by rw [List.length_take, ← HSL.out]; omega
          have hvl := vals_lt (k + 1) _ _ hlen HV2.out
          have hpq := pow96 (k + 1) (by omega)
          obtain ⟨x, hx⟩ : ∃ x, v * 16 = x := ⟨_, rfl⟩
          have hor : x ||| d = 16 * v + d := by
            have := or_disj d v 4 hd16
            rw [Nat.or_comm, ← hx, show (16 : Nat) = 2 ^ 4 from rfl, ← this]
            omega
          obtain ⟨v2, hv2⟩ : ∃ v2, v2 = 16 * v + d := ⟨_, rfl⟩
          rw [← hv2] at hor hvl HV2
          have xQ : x < Q := by omega
          have v2Q : v2 < Q := by omega
          have dQ : d < Q := by omega
          have d64 : d < 18446744073709551616 := by omega
          have hwd : IntKind.u64.wrap (d : Int) = (d : Int) := wrap_nat d d64
          have HX := box hx
          have HO := box hor
          clear hi hd hlen hvl hpq hx hor hv2
          have c1 := row_cell r1
          go_wp2_with fail
          refine (idx_is c (d : Int) HI.out _).mono ?_
          rintro e w' ⟨rfl, rfl⟩
          go_wp2_with fail
          refine (wup4 v x hvQ HX.out xQ _).mono ?_
          rintro e w2 ⟨rfl, hb2⟩
          go_wp2_with fail
          refine (wof_al d d64 _).mono ?_
          rintro e w3 ⟨rfl, hb3⟩
          go_wp2_with fail
          refine (wor_is x d v2 xQ dQ HO.out _).mono ?_
          rintro e w4 ⟨rfl, hb4⟩
          have q0 := heap_of hb4 _ _ _ (heap_of hb3 _ _ _ (heap_of hb2 _ _ _ r0))
          have q1 := heap_of hb4 _ _ _ (heap_of hb3 _ _ _ (heap_of hb2 _ _ _ r1))
          have b4 : Below w.heap.size w w4 := by
            have b2 := hbw.trans (hb2.mono hbw.size)
            have b3 := b2.trans (hb3.mono b2.size)
            exact b3.trans (hb4.mono b3.size)
          have hst := st_any w4 _ v2 v q1
          clear hb2 hb3 hb4 r0 r1 hbw c1
          go_wp2
          go_roundw
          case rel => exact ⟨k + 1, v2, by omega, by go_num, by rw [setRow_other (by omega)]; exact q0, setRow_row q1, Below.setRow b4 (by omega), v2Q, HV2⟩
          case measure => simp [intOf] <;> omega
      · have htk : l.take k = l := List.take_of_length_le (by rw [← HSL.out]; omega)
        have HVL : Box (vals l = some v) := box (by rw [← htk]; exact HV.out)
        clear htk
        have c1 := row_cell r1
        go_wp2_with fail
        refine (wtext_any v hvQ _).mono ?_
        rintro e w2 ⟨rfl, hb2⟩
        have q0 := heap_of hb2 _ _ _ r0
        have q1 := heap_of hb2 _ _ _ r1
        have b2 := hbw.trans (hb2.mono hbw.size)
        have d1 := row_cell q1
        have HTL : Box (s.toList = l) := box (by rw [ByteArray.toList_eq]; exact HL.out)
        by_cases ht : tx v = l
        · have e := HR.out
          rw [rd_good l v (by rw [← HSL.out]; exact h96) HVL.out ht] at e
          injection e with e1 e2
          subst e1
          subst e2
          have hst := st_any w2 _ v 0 q0
          have hcmp : (tx v == s.toList) = true := by rw [HTL.out, ht]; simp
          have z0 : (w2.setRow w.heap.size (cw 6 v)).heap[w.heap.size]? = some (.cells (cw 6 v) 53) := setRow_row q0
          have c3 := row_cell z0
          clear ht
          go_wp2
          exact bodyPost_ret (v := .tuple #[.agg (cw 6 v), .int .i64 0]) (by simp [results, Tryz.results137, go_sem, c3, hf]) rfl ⟨rfl, Below.setRow b2 (Nat.le_refl _)⟩
        · have e := HR.out
          rw [rd_other l v HVL.out ht] at e
          injection e with e1 e2
          subst e1
          subst e2
          have hst := st_same w2 _ 0 q0
          have c3 := row_cell q0
          have hcmp : (tx v == s.toList) = false := by rw [HTL.out]; simpa using ht
          clear ht
          go_wp2
          exact bodyPost_ret (v := .tuple #[.agg (cw 6 0), .int .i64 20]) (by simp [results, Tryz.results137, go_sem, c3, hf]) rfl ⟨rfl, b2⟩
  · have e := rd_long l (by omega)
    rw [hr] at e
    injection e with e1 e2
    subst e1
    subst e2
    have h96i : ¬ (s.size : Int) ≤ 96 := by omega
    clear hr hl hsl
    go_enter Tryz.func137, Tryz.ntmps137
    go_wp2
    exact bodyPost_ret (v := .tuple #[.agg (cw 6 0), .int .i64 20]) (by simp [results, Tryz.results137, go_sem, hat, hf]) rfl ⟨rfl, (Below.refl _ _).alloc (Nat.le_refl _) _⟩
end Go.Proofs.YtkmlbjlaahcahaaGreatDoor
namespace Go.Proofs.YtkmlbjlaahcahaaGreatDoor
set_option maxRecDepth 100000
open WMath
open Go.ChangeShapes Go.WideShapes Go.ChangeAt Go.RowKit

theorem nat_u64 {x : Int} (h : (Lit.int .u64 x).wf = true) : ∃ n : Nat, n < 18446744073709551616 ∧ x = (n : Int) := by
  have hb := bounds_u64 h
  obtain ⟨n, rfl⟩ := Int.eq_ofNat_of_zero_le hb.1
  exact ⟨n, by omega, rfl⟩
theorem u64_nat (n : Nat) (h : n < 18446744073709551616) : (Lit.int .u64 (n : Int)).wf = true := by
  first
    | exact WalkArith.wf_u64 (by omega)
    | exact WalkArith.wf_u64 (by omega) (by omega)

/-- A call whose arguments and results have no memory of their own: what it leaves of the world is enough. -/
theorem post_plain {H : Type} {enc : TypeId × Value → H} {P : Program} {f : Func} {s : ChangeSpec} {apart fresh handsOn again : Bool} {W W' : World} {args : Array Value} {v : Value} {ds gs : List (DataW H)}
    (hW : DataW.Whole enc P f.params.toList s.vars apart W args.toList ds gs [])
    (hres : ∀ (b : Nat) (sp : Nat → Bool) (hd : Bool), DataW.TrodAll enc P W' b sp hd f.resultTypes.toList (v.resultList f.resultTypes.size) (s.fn H (ds ++ gs)).results [])
    (hargs : ∀ sp : Nat → Bool, DataW.TrodAll enc P W' 0 sp true f.params.toList args.toList (s.fn H (ds ++ gs)).args [])
    (hvars : ∀ sp : Nat → Bool, DataW.TrodVars enc P W' sp s.vars (s.fn H (ds ++ gs)).vars [])
    (hk : Below W.heap.size W W')
    (hok : ∀ (j : Nat) (t : TypeId) (r : Value), f.resultTypes[j]? = some t → (v.resultList f.resultTypes.size)[j]? = some r → Value.okWide P W' .any 0 t r) :
    s.post enc P f apart fresh handsOn again W args v W' := by
  refine ⟨ds, gs, [], [], [], [], hW, hres _ _ _, hargs _, hvars _, hk.frame _, fun _ => ⟨hok, _, _, [], ⟨[], [], trodAll_append (hargs _) (hres _ _ _), hvars _, rfl, ?_, ?_⟩, ?_⟩⟩
  · intro _ _ hp
    cases hp
  · intro _
    exact List.Pairwise.nil
  · intro _ hp
    cases hp
end Go.Proofs.YtkmlbjlaahcahaaGreatDoor
namespace Go.Proofs.YtkmlbjlaahcahaaGreatDoor
set_option maxRecDepth 100000
open WMath
open Go.ChangeShapes Go.WideShapes Go.ChangeAt Go.RowKit

def dB (H : Type) (b : Nat × Nat) : DataW H := .agg [.lit (.int .u64 (b.1 : Nat)), .lit (.int .u64 (b.2 : Nat))]

theorem list2 {α : Type} (l : List α) (h : (⟨l⟩ : Array α).size = 2) : ∃ a b, l = [a, b] := by
  match l, h with
  | [a, b], _ => exact ⟨a, b, rfl⟩

theorem open_bits {H : Type} {enc : TypeId × Value → H} {w : World} {base b : Nat} {spare : Nat → Bool} {held : Bool} {v : Value} {d : DataW H} {p : List MemPlace}
    (hok : Value.okWide Tryz.prog w .any base 25 v) (h : DataW.Trod enc Tryz.prog w b spare held 25 v d p) : ∃ a : Nat × Nat, (a.1 < 18446744073709551616 ∧ a.2 < 18446744073709551616) ∧ v = bitsV a ∧ d = dB H a ∧ p = [] := by
  have hc : Tryz.prog.cellsOf 25 = 2 := by kernel_rfl
  have hce : Tryz.prog.cellsOf 23 = 1 := by kernel_rfl
  obtain ⟨cs, rfl, hsz⟩ := okWide_struct Tryz.underlying25 hok
  rw [hc] at hsz
  obtain ⟨l⟩ := cs
  obtain ⟨c0, c1, rfl⟩ := list2 l hsz
  obtain ⟨fuel, hf⟩ := h
  obtain ⟨y0, y1, n, hx, _, h0, h1⟩ := trod_struct2 Tryz.underlying25 hf
  simp only [hce] at h0 h1
  obtain ⟨x0, e0, g0, w0⟩ := DataW.trod_int Tryz.underlying23 h0
  obtain ⟨x1, e1, g1, w1⟩ := DataW.trod_int Tryz.underlying23 h1
  simp [Value.cells] at e0 e1
  subst e0 e1
  obtain ⟨a0, b0, rfl⟩ := nat_u64 w0
  obtain ⟨a1, b1, rfl⟩ := nat_u64 w1
  simp only [Prod.mk.injEq] at hx
  refine ⟨(a0, a1), ⟨b0, b1⟩, rfl, ?_, ?_⟩
  · rw [hx.1, g0, g1]; rfl
  · rw [hx.2, g0, g1]; rfl

theorem shut_bits {H : Type} {enc : TypeId × Value → H} {w : World} {b : Nat} {spare : Nat → Bool} {held : Bool} (a : Nat × Nat) (h : a.1 < 18446744073709551616 ∧ a.2 < 18446744073709551616) : DataW.Trod enc Tryz.prog w b spare held 25 (bitsV a) (dB H a) [] := by
  have hc : Tryz.prog.cellsOf 25 = 2 := by kernel_rfl
  have hce : Tryz.prog.cellsOf 23 = 1 := by kernel_rfl
  have k0 := u64_nat _ h.1
  have k1 := u64_nat _ h.2
  refine ⟨2, ?_⟩
  simp [DataW.trod, Value.cells, bitsV, Tryz.underlying25, Tryz.underlying23, hc, hce, k0, k1, dB]

end Go.Proofs.YtkmlbjlaahcahaaGreatDoor
namespace Go.Proofs.YtkmlbjlaahcahaaGreatDoor
set_option maxRecDepth 100000
open Go.RowKit WMath

theorem wlen_is (n l : Nat) (hn : n < Q) (hl : blen n = l) (w : World) :
    Calls Tryz.prog 99 #[.agg (cw 6 n)] w fun e w' => e = .returned (.int .i64 (l : Nat)) ∧ Below w.heap.size w w' := by
  subst hl; exact wlen_any n hn w

end Go.Proofs.YtkmlbjlaahcahaaGreatDoor
namespace Go.Proofs.YtkmlbjlaahcahaaGreatDoor
set_option maxRecDepth 100000
open Go.RowKit WMath

/-- The first boxes that a call has made, in their order; whatever was there before is as it was. -/
def RowsL (w wr : World) (l : List Nat) : Prop := (∀ i x, l[i]? = some x → wr.heap[w.heap.size + i]? = some (.cells (cw 6 x) 53)) ∧ Below w.heap.size w wr
theorem rowsL_nil (w : World) : RowsL w w [] := ⟨fun i x h => by simp at h, Below.refl _ _⟩
theorem rowsL_new {w wr : World} {l : List Nat} (h : RowsL w wr l) (hs : wr.heap.size = w.heap.size + l.length) (x : Nat) : RowsL w (wr.alloc (.cells (cw 6 x) 53)) (l ++ [x]) := by
  refine ⟨fun i y hy => ?_, h.2.alloc (by omega) _⟩
  rw [List.getElem?_append] at hy
  split at hy
  · rw [heap_below _ _ _ (by omega)]; exact h.1 i y hy
  · have e : i = l.length := by
      have := (List.getElem?_eq_some_iff.1 hy).1
      simp at this; omega
    subst e
    simp at hy
    subst hy
    rw [← hs]
    exact heap_alloc_last _ _
theorem rowsL_drew {w wr : World} {l : List Nat} (h : RowsL w wr l) (d : Nat) : RowsL w (wr.drewN d) l := ⟨h.1, below_drewN h.2 d⟩
theorem rowsL_set {w wr : World} {l l2 : List Nat} (h : RowsL w wr l) (i x b : Nat) (hi : i < l.length) (hb : b = w.heap.size + i) (hl : l2 = l.set i x) : RowsL w (wr.setRow b (cw 6 x)) l2 := by
  subst hb
  subst hl
  refine ⟨fun j y hy => ?_, Below.setRow h.2 (by omega)⟩
  by_cases e : i = j
  · subst e
    rw [List.getElem?_set_self hi] at hy
    cases hy
    exact setRow_row (h.1 i _ (List.getElem?_eq_getElem hi))
  · rw [List.getElem?_set_ne e] at hy
    rw [setRow_other (by omega)]
    exact h.1 j y hy

theorem rows0 {w wr : World} {x : Nat} {l : List Nat} (h : RowsL w wr (x :: l)) : wr.heap[w.heap.size]? = some (.cells (cw 6 x) 53) := h.1 0 _ rfl
theorem rows1 {w wr : World} {x y : Nat} {l : List Nat} (h : RowsL w wr (x :: y :: l)) : wr.heap[w.heap.size + 1]? = some (.cells (cw 6 y) 53) := h.1 1 _ rfl
theorem wrap_i64_is (n : Int) (h1 : -9223372036854775808 ≤ n) (h2 : n ≤ 9223372036854775807) : IntKind.i64.wrap n = n := by
  simp [IntKind.wrap, IntKind.bits, IntKind.signed]; omega

end Go.Proofs.YtkmlbjlaahcahaaGreatDoor
namespace Go.Proofs.YtkmlbjlaahcahaaGreatDoor
set_option maxRecDepth 100000
open Go.RowKit WMath

theorem rlen_is (x l : Nat) (hx : x < 18446744073709551616) (hl : blen x = l) (w : World) :
    Calls Tryz.prog 128 #[.int .u64 x] w fun e w' => e = .returned (.int .i64 (l : Nat)) ∧ w' = w := by
  subst hl; rw [← bitLen_blen x hx]; exact rlen_any x hx w

theorem nzf {x : Nat} (h : x = 0) : (((x : Nat) : Int) != 0) = false := by subst h; rfl
theorem nzt {x : Nat} (h : ¬ x = 0) : (((x : Nat) : Int) != 0) = true := by simp; omega

theorem rwlen_any (n : Nat) (hn : n < Q) (w : World) :
    Calls Tryz.prog 66 #[.agg (cw 6 n)] w fun e w' => e = .returned (.int .i64 (blen n : Nat)) ∧ Below w.heap.size w w' := by
  have hat := cw_at 6
  have bz : Below w.heap.size w (w.alloc (.cells (cw 6 n) 53)) := (Below.refl _ _).alloc (Nat.le_refl _) _
  go_enter Tryz.func66, Tryz.ntmps66
  go_wp2
  go_loop [3] (fun iv => ∃ k : Nat, k ≤ 6 ∧ iv = .int .i64 ((k : Int) - 1) ∧ Box (n < 2 ^ (64 * k))) (fun iv => (intOf iv + 1).toNat)
  case atStart => exact ⟨6, by omega, rfl, box (by rw [pwQ 6 rfl]; exact hn)⟩
  case round =>
    obtain ⟨k, hk, rfl, HE⟩ := hrel
    by_cases h0 : k = 0
    · subst h0
      have e : n = 0 := by have := HE.out; rw [Nat.mul_zero, Nat.pow_zero] at this; omega
      subst e
      go_wp2
      go_ret
      exact ⟨rfl, bz⟩
    · obtain ⟨j, rfl⟩ : ∃ j, k = j + 1 := ⟨k - 1, by omega⟩
      have ej : (((j + 1 : Nat) : Int) - 1) = (j : Int) := by omega
      rw [ej]
      have hj6 : j < 6 := by omega
      have hji : (j : Int) < 6 := by omega
      have ST := box (rlen_step n j HE.out)
      by_cases hw : wd n j = 0
      · have y := nzf hw
        have NX := box (ST.out.2 hw)
        clear hw
        go_wp2
        go_round
        case rel => exact ⟨j, by omega, rfl, NX⟩
        case measure => simp [intOf] <;> omega
      · have y := nzt hw
        obtain ⟨b, hb⟩ : ∃ b, blen (wd n j) = b := ⟨_, rfl⟩
        have hb64 : b ≤ 64 := by rw [← hb]; exact blen_le_of _ 64 (by rw [← two64]; exact wd_lt n j)
        have EN : Box (blen n = 64 * j + b) := box (by rw [ST.out.1 hw, hb])
        have HB := box hb
        clear hw hb
        go_wp2_with (go_at_call 128; refine (rlen_is _ b (wd_lt n j) HB.out _).mono ?_; rintro e w' ⟨rfl, rfl⟩)
        go_ret
        exact ⟨ret_int (by rw [EN.out]; simp), bz⟩
end Go.Proofs.YtkmlbjlaahcahaaGreatDoor
namespace Go.Proofs.YtkmlbjlaahcahaaGreatDoor
set_option maxRecDepth 100000
open Go.RowKit WMath

theorem rowsL_setCell {w wr : World} {l l2 : List Nat} (h : RowsL w wr l) (i x y b o : Nat) (v : Value) (hi : l[i]? = some x) (hb : b = w.heap.size + i) (hv : (cw 6 x).setIfInBounds o v = cw 6 y) (hl : l2 = l.set i y) : RowsL w (wr.setCell ⟨b, o, none⟩ v) l2 := by
  subst hb
  subst hl
  refine ⟨fun j z hz => ?_, h.2.setCell (by show w.heap.size ≤ w.heap.size + i; omega) _⟩
  by_cases e : i = j
  · subst e
    rw [List.getElem?_set_self (List.getElem?_eq_some_iff.1 hi).1] at hz
    cases hz
    rw [setCell_row (h.1 i _ hi), hv]
  · rw [List.getElem?_set_ne e] at hz
    rw [setCell_other (by omega)]
    exact h.1 j z hz
end Go.Proofs.YtkmlbjlaahcahaaGreatDoor
namespace Go.Proofs.YtkmlbjlaahcahaaGreatDoor
set_option maxRecDepth 100000
open Go.RowKit WMath

theorem c8_made (L : Nat) : madeCells #[.int .u8 0] L = c8 L 0 := by
  apply Array.ext_getElem?
  intro i
  by_cases h : i < L
  · rw [c8_at L 0 i h, d8_zero]
    simp [madeCells, h, Nat.mod_one]
  · rw [Array.getElem?_eq_none (by rw [size_madeCells]; omega), Array.getElem?_eq_none (by rw [c8_size]; omega)]
theorem c8_cell {w : World} {b k L n : Nat} {t : TypeId} (h : w.heap[b]? = some (.cells (c8 L n) t)) (hk : k < L) : w.cell? ⟨b, k, none⟩ = some (.int .u8 (d8 n k : Nat)) := by
  rw [cell_of_row w b k _ _ _ h, c8_at L n k hk]
theorem c8_make (L : Nat) (h : L ≤ 1000000) (w : World) : (Instr.makeSlice 131 (.int .i64 (L : Int)) (.int .i64 (L : Int))).run Tryz.prog w = .ok (.slice (some ⟨w.heap.size, 0, none⟩) L L) (w.alloc (.cells (c8 L 0) 5)) := by
  rw [← c8_made]
  exact run_make_row' (P := Tryz.prog) 131 5 (.int .u8 0) 1 Tryz.underlying131 (by kernel_rfl) rfl .i64 .i64 L (by omega) (by omega) w
theorem c8_makeI (L : Nat) (k : Int) (hk : k = (L : Int)) (h : L ≤ 1000000) (w : World) : (Instr.makeSlice 131 (.int .i64 k) (.int .i64 k)).run Tryz.prog w = .ok (.slice (some ⟨w.heap.size, 0, none⟩) L L) (w.alloc (.cells (c8 L 0) 5)) := by
  subst hk; exact c8_make L h w
end Go.Proofs.YtkmlbjlaahcahaaGreatDoor
namespace Go.Proofs.YtkmlbjlaahcahaaGreatDoor
set_option maxRecDepth 100000
open Go.RowKit WMath

/-- Whether a string is that of a number of at most 16384 bytes. -/
def mayB (s : ByteArray) : Bool := decide (s.size ≤ 16384) && (decide (s.size = 0) || decide (∃ h : 0 < s.size, (s[0]'h).toNat ≠ 0))

theorem toList_len (s : ByteArray) : s.toList.length = s.size := by rw [ByteArray.toList_eq, Array.length_toList]; rfl
theorem eq_empty (s : ByteArray) : (s.toList == []) = decide (s.size = 0) := by
  rw [← toList_len]
  cases s.toList with
  | nil => rfl
  | cons x l => simp

theorem mayB_nb (n : Nat) (h : nl n ≤ 16384) : mayB (nbA n) = true := by
  have hz := nbA_size n
  unfold mayB
  rw [show decide ((nbA n).size ≤ 16384) = true from decide_eq_true (by omega), Bool.true_and]
  by_cases h0 : (nbA n).size = 0
  · rw [decide_eq_true h0]; rfl
  · rw [decide_eq_false h0, Bool.false_or, decide_eq_true]
    exact ⟨by omega, nbA_first n _⟩
theorem mayB_is (s : ByteArray) (h : mayB s = true) : ∃ n, nbA n = s ∧ nl n ≤ 16384 := by
  unfold mayB at h
  rw [Bool.and_eq_true, Bool.or_eq_true, decide_eq_true_iff, decide_eq_true_iff, decide_eq_true_iff] at h
  obtain ⟨h1, h2⟩ := h
  obtain ⟨n, hn⟩ := nbA_of s (h2.imp id (fun ⟨a, b⟩ => ⟨a, fun c => b (by rw [c]; rfl)⟩))
  exact ⟨n, hn, by rw [← nbA_size, hn]; exact h1⟩

theorem bless_pre : ∀ (x y : List UInt8), x.length = y.length → (Op.bytesLess x y = decide (bvl x < bvl y))
  | [], [], _ => by rfl
  | [], _ :: _, h => by simp at h
  | _ :: _, [], h => by simp at h
  | a :: x, b :: y, h => by
    have hl : x.length = y.length := by simpa using h
    have ih := bless_pre x y hl
    have e : ∀ (c : UInt8) (z : List UInt8), bvl (c :: z) = c.toNat * 2 ^ (8 * z.length) + bvl z := by
      intro c z
      refine rev_ind (P := fun z => bvl (c :: z) = c.toNat * 2 ^ (8 * z.length) + bvl z) ?_ (fun l d ih => ?_) z
      · show 256 * 0 + c.toNat = c.toNat * 2 ^ (8 * 0) + 0
        simp
      · rw [← List.cons_append, bvl_snoc, ih, bvl_snoc, List.length_append, List.length_singleton, pow8, Nat.mul_add, ← Nat.mul_assoc (c.toNat)]
        omega
    have hx := bvl_lt x
    have hy := bvl_lt y
    rw [Op.bytesLess, ih, e a x, e b y, hl]
    rw [hl] at hx
    rcases Nat.lt_trichotomy a.toNat b.toNat with h1 | h1 | h1
    · have h2 : a < b := UInt8.lt_iff_toNat_lt.2 h1
      have h3 : (a.toNat + 1) * 2 ^ (8 * y.length) ≤ b.toNat * 2 ^ (8 * y.length) := Nat.mul_le_mul_right _ h1
      rw [Nat.add_mul, Nat.one_mul] at h3
      rw [decide_eq_true h2, Bool.true_or, decide_eq_true (by omega)]
    · have h2 : a = b := UInt8.toNat_inj.1 h1
      subst h2
      have h3 : ¬ a < a := fun h => Nat.lt_irrefl _ (UInt8.lt_iff_toNat_lt.1 h)
      rw [decide_eq_false h3, Bool.false_or, beq_self_eq_true, Bool.true_and]
      rw [Bool.eq_iff_iff, decide_eq_true_iff, decide_eq_true_iff]
      omega
    · have h2 : ¬ a < b := fun h => by have := UInt8.lt_iff_toNat_lt.1 h; omega
      have h3 : (b.toNat + 1) * 2 ^ (8 * y.length) ≤ a.toNat * 2 ^ (8 * y.length) := Nat.mul_le_mul_right _ h1
      rw [Nat.add_mul, Nat.one_mul] at h3
      have h4 : (a == b) = false := by simp only [beq_eq_false_iff_ne]; intro c; rw [c] at h1; omega
      rw [decide_eq_false h2, Bool.false_or, h4, Bool.false_and, decide_eq_false (by omega)]
theorem bvl_nbL (n : Nat) : bvl (nbL n) = n := by
  have h1 := bvl_lt (nbL n)
  rw [nbL_len] at h1
  refine d8_ext h1 (nl_lt n) (fun k hk => ?_)
  have h2 := bvl_d8 (nbL n) (nl n - 1 - k) (by rw [nbL_len]; omega)
  have hk2 : (nbL n).length - 1 - (nl n - 1 - k) = k := by rw [nbL_len]; omega
  rw [hk2] at h2
  rw [h2]
  have h3 := nbA_get n (nl n - 1 - k) (by rw [nbA_size]; omega)
  rw [show nl n - 1 - (nl n - 1 - k) = k by omega] at h3
  exact h3
theorem toList_nb (n : Nat) : (nbA n).toList = nbL n := by rw [ByteArray.toList_eq]; rfl
theorem bless_nb (a b : Nat) (h : nl a = nl b) : Op.bytesLess (nbA a).toList (nbA b).toList = decide (a < b) := by
  rw [toList_nb, toList_nb, bless_pre _ _ (by rw [nbL_len, nbL_len, h]), bvl_nbL, bvl_nbL]
theorem beq_nb (a b : Nat) : ((nbA a).toList == (nbA b).toList) = decide (a = b) := by
  rw [toList_nb, toList_nb, Bool.eq_iff_iff, beq_iff_eq, decide_eq_true_iff]
  constructor
  · intro h
    rw [← bvl_nbL a, h, bvl_nbL]
  · intro h; rw [h]

end Go.Proofs.YtkmlbjlaahcahaaGreatDoor
namespace Go.Proofs.YtkmlbjlaahcahaaGreatDoor
set_option maxRecDepth 100000
open Go.RowKit WMath

theorem wrap_u8_is (t x : Nat) (h : t % 256 = x) : IntKind.u8.wrap (t : Int) = (x : Int) := by
  rw [← h, IntKind.wrap_u8]; omega

end Go.Proofs.YtkmlbjlaahcahaaGreatDoor
namespace Go.Proofs.YtkmlbjlaahcahaaGreatDoor
set_option maxRecDepth 100000
open Go.RowKit WMath

/-- A result, or that it is too long. -/
def lg (x : Nat) : ByteArray × Int := if nl x ≤ 16384 then (nbA x, 0) else (⟨#[]⟩, 4)
/-- A difference, or that there is none. -/
def sb (a b : Nat) : ByteArray × Int := if a < b then (⟨#[]⟩, 2) else (nbA (a - b), 0)

end Go.Proofs.YtkmlbjlaahcahaaGreatDoor
namespace Go.Proofs.YtkmlbjlaahcahaaGreatDoor
set_option maxRecDepth 100000
open Go.RowKit WMath

theorem blen_nl (n L x : Nat) (h : n ≠ 0) (hL : nl n = L) (hx : d8 n (L - 1) = x) : 8 * (L - 1) + blen x = blen n := by
  have hp := nl_pos n h
  have ht := nl_top n h
  have hl := nl_lt n
  rw [hL] at hp ht hl
  rw [hx] at ht
  obtain ⟨k, rfl⟩ : ∃ k, L = k + 1 := ⟨L - 1, by omega⟩
  rw [Nat.add_sub_cancel] at hx ⊢
  have e := mod_d8 n k
  rw [Nat.mod_eq_of_lt hl, hx] at e
  rw [e, blen_push _ _ _ (Nat.mod_lt _ (Nat.two_pow_pos _)) ht]

/-- t is the place of the lowest bit of n that is 1. -/
def LowB (n t : Nat) : Prop := n % 2 ^ t = 0 ∧ n.testBit t = true
theorem lowB_one (n s t : Nat) (h : LowB n s) (g : LowB n t) : s = t := by
  have hlt : ∀ a b, LowB n a → LowB n b → ¬ a < b := by
    intro a b ha hb hab
    have h1 := Nat.testBit_mod_two_pow n b a
    rw [hb.1, ha.2] at h1
    simp [hab] at h1
  have h1 := hlt s t h g
  have h2 := hlt t s g h
  omega
theorem lowB_ex : ∀ (k n : Nat), n ≠ 0 → n < 2 ^ k → ∃ t, t < k ∧ LowB n t
  | 0, n, h, hn => by rw [Nat.pow_zero] at hn; omega
  | k + 1, n, h, hn => by
    by_cases h2 : n % 2 = 0
    · obtain ⟨t, h3, h4, h5⟩ := lowB_ex k (n / 2) (by omega) (by rw [Nat.pow_succ] at hn; omega)
      refine ⟨t + 1, by omega, ?_, ?_⟩
      · rw [Nat.pow_succ, Nat.mul_comm, Nat.mod_mul, h2, h4]
      · rw [Nat.testBit_succ]; exact h5
    · exact ⟨0, by omega, by rw [Nat.pow_zero, Nat.mod_one], by rw [Nat.testBit_zero]; simp; omega⟩
theorem lowB_any (n : Nat) (h : n ≠ 0) : ∃ t, LowB n t := by
  obtain ⟨t, _, ht⟩ := lowB_ex _ n h (blen_lt n)
  exact ⟨t, ht⟩
theorem lowB_d8 (n i r : Nat) (h0 : n % 2 ^ (8 * i) = 0) (h : LowB (d8 n i) r) (hr : r < 8) : LowB n (8 * i + r) := by
  have hb := d8_bit n i r
  refine ⟨?_, ?_⟩
  · rw [Nat.pow_add, Nat.mod_mul, h0, Nat.zero_add]
    have h1 := h.1
    unfold d8 at h1
    rw [two8, Nat.mod_mod_of_dvd _ (Nat.pow_dvd_pow 2 (by omega : r ≤ 8))] at h1
    rw [h1, Nat.mul_zero]
  · rw [h.2, decide_eq_true hr, Bool.true_and] at hb
    exact hb.symm

/-- The place of the lowest bit, 0 of 0. -/
def LowN (n t : Nat) : Prop := (n = 0 ∧ t = 0) ∨ (n ≠ 0 ∧ LowB n t)
theorem Q48 : ∃ L, L = 48 ∧ Q = 2 ^ (8 * L) := by
  obtain ⟨L, hL, hQ⟩ := Q_of
  exact ⟨8 * L, by omega, by rw [hQ]; congr 1; omega⟩

theorem toWide_step (n i q r x : Nat) (hq : q = i / 8) (hr : r = 8 * (i % 8)) (hx : d8 n i = x) : n % 2 ^ (8 * i) ||| x * 2 ^ r * 2 ^ (64 * q) = n % 2 ^ (8 * (i + 1)) := by
  rw [Nat.mul_assoc, ← Nat.pow_add, show r + 64 * q = 8 * i by omega, mod_d8, hx, Nat.mul_comm (2 ^ (8 * i)) x]
  exact (or_disj _ _ _ (Nat.mod_lt _ (Nat.two_pow_pos _))).symm

theorem trows2 (w : World) : RowsL w ((w.alloc (.cells (cw 6 0) 53)).alloc (.cells (cw 6 0) 53)) [0, 0] := rowsL_new (rowsL_new (rowsL_nil w) rfl 0) (by simp) 0

end Go.Proofs.YtkmlbjlaahcahaaGreatDoor
namespace Go.Proofs.YtkmlbjlaahcahaaGreatDoor
set_option maxRecDepth 100000
open Go.RowKit WMath

theorem lg_ok (n : Nat) (v : ByteArray) (h : nl n ≤ 16384) (hv : nbA n = v) : lg n = (v, 0) := by unfold lg; rw [if_pos h, hv]

end Go.Proofs.YtkmlbjlaahcahaaGreatDoor
namespace Go.Proofs.YtkmlbjlaahcahaaGreatDoor
set_option maxRecDepth 100000
open Go.RowKit WMath

/-- What is moved to the left, or that it is too long, or that the count is below 0. -/
def lf (a : Nat) (n : Int) : ByteArray × Int := if n < 0 then (⟨#[]⟩, 2) else lg (a * 2 ^ n.toNat)

theorem lost_low (a n t : Nat) (h : LowB a t) : (a % 2 ^ n ≠ 0) ↔ t < n := by
  constructor
  · intro h1
    rcases Nat.lt_or_ge t n with h2 | h2
    · exact h2
    · exfalso
      apply h1
      obtain ⟨d, hd⟩ := Nat.dvd_of_mod_eq_zero h.1
      apply Nat.mod_eq_zero_of_dvd
      refine Nat.dvd_trans (Nat.pow_dvd_pow 2 h2) ?_
      exact ⟨d, hd⟩
  · intro h1 h2
    have h3 := Nat.testBit_mod_two_pow a n t
    rw [h2, h.2, decide_eq_true h1, Nat.zero_testBit] at h3
    cases h3

end Go.Proofs.YtkmlbjlaahcahaaGreatDoor
namespace Go.Proofs.YtkmlbjlaahcahaaGreatDoor
set_option maxRecDepth 100000
open Go.RowKit WMath

/-- A slice of words that holds a number: L words from the place p on, in a block below B. -/
def SL (B : Nat) (w : World) (p : Option Addr) (L c n : Nat) : Prop := n < 2 ^ (64 * L) ∧ L ≤ c ∧ (0 < L → ∃ b o, p = some ⟨b, o, none⟩ ∧ b < B ∧ ∀ k, k < L → w.cell? ⟨b, o + k, none⟩ = some (.int .u64 (wd n k : Nat)))
theorem SL.mono {B B' : Nat} {w : World} {p : Option Addr} {L c n : Nat} (h : SL B w p L c n) (hB : B ≤ B') : SL B' w p L c n :=
  ⟨h.1, h.2.1, fun hL => by
    obtain ⟨b, o, hp, hlt, hc⟩ := h.2.2 hL
    exact ⟨b, o, hp, Nat.lt_of_lt_of_le hlt hB, hc⟩⟩
theorem SL.below {w w' : World} {p : Option Addr} {L c n B B' : Nat} (h : SL B w p L c n) (hb : Below B' w w') (hB : B ≤ B') : SL B w' p L c n := by
  refine ⟨h.1, h.2.1, fun hL => ?_⟩
  obtain ⟨b, o, hp, hlt, hc⟩ := h.2.2 hL
  refine ⟨b, o, hp, hlt, fun k hk => ?_⟩
  rw [hb.cell (p := ⟨b, o + k, none⟩) (show b < B' by omega)]
  exact hc k hk
theorem cell_size {w : World} {b o : Nat} {v : Value} (h : w.cell? ⟨b, o, none⟩ = some v) : b < w.heap.size := by
  by_cases e : b < w.heap.size
  · exact e
  · exfalso
    have : w.heap[b]? = none := Array.getElem?_eq_none (by omega)
    simp [World.cell?, this] at h
/-- Nothing but the block g is another. -/
def Only (g : Nat) (w w' : World) : Prop := w'.os = w.os ∧ w'.tape = w.tape ∧ w'.output = w.output ∧ w.heap.size ≤ w'.heap.size ∧ ∀ k, k < w.heap.size → k ≠ g → w'.heap[k]? = w.heap[k]?
theorem Only.refl (g : Nat) (w : World) : Only g w w := ⟨rfl, rfl, rfl, Nat.le_refl _, fun _ _ _ => rfl⟩
theorem Only.trans {g : Nat} {a b c : World} (h : Only g a b) (k : Only g b c) : Only g a c :=
  ⟨k.1.trans h.1, k.2.1.trans h.2.1, k.2.2.1.trans h.2.2.1, Nat.le_trans h.2.2.2.1 k.2.2.2.1, fun i hi hg => (k.2.2.2.2 i (Nat.lt_of_lt_of_le hi h.2.2.2.1) hg).trans (h.2.2.2.2 i hi hg)⟩
theorem Only.size {g : Nat} {a b : World} (h : Only g a b) : a.heap.size ≤ b.heap.size := h.2.2.2.1
theorem Only.ofBelow {g B : Nat} {a b : World} (h : Below B a b) (hB : a.heap.size ≤ B) : Only g a b := ⟨h.os, h.tape, h.output, h.size, fun k hk _ => h.block k (by omega)⟩
theorem Only.setCell {g o : Nat} {a w : World} (h : Only g a w) (u : Value) : Only g a (w.setCell ⟨g, o, none⟩ u) :=
  h.trans ⟨rfl, rfl, rfl, by simp [World.setCell], fun k _ hg => Below.heap_setCell _ _ _ _ hg⟩
theorem Only.drew {g : Nat} {a w : World} (h : Only g a w) : Only g a w.drew := h.trans ⟨rfl, rfl, rfl, Nat.le_refl _, fun _ _ _ => rfl⟩
theorem Only.toBelow {g B : Nat} {a w w' : World} (h : Below B a w) (k : Only g w w') (hB : B ≤ g) (hs : B ≤ w.heap.size) : Below B a w' :=
  h.trans ⟨k.1, k.2.1, k.2.2.1, k.2.2.2.1, fun i hi => k.2.2.2.2 i (by omega) (by omega)⟩
theorem Only.row {g b : Nat} {w w' : World} {c : Array Value} {t : TypeId} (k : Only g w w') (hb : b ≠ g) (h : w.heap[b]? = some (.cells c t)) : w'.heap[b]? = some (.cells c t) := by
  rw [k.2.2.2.2 b (Array.getElem?_eq_some_iff.1 h).1 hb, h]
theorem SL.only {B g : Nat} {w w' : World} {p : Option Addr} {L c n : Nat} (h : SL B w p L c n) (k : Only g w w') (hB : B ≤ g) : SL B w' p L c n := by
  refine ⟨h.1, h.2.1, fun hL => ?_⟩
  obtain ⟨b, o, hp, hlt, hc⟩ := h.2.2 hL
  refine ⟨b, o, hp, hlt, fun i hi => ?_⟩
  have h1 := hc i hi
  rw [World.cell?_of_block (w := w) (k.2.2.2.2 b (cell_size h1) (by omega))]
  exact h1

theorem l_at (w : World) (p : Option Addr) (L c n i x : Nat) {B : Nat} (h : SL B w p L c n) (hx : wd n i = x) (hL : L ≤ 100000) :
    Calls Tryz.prog 253 #[.slice p L c, .int .i64 (i : Nat)] w fun r w' => r = .returned (.int .u64 (x : Nat)) ∧ w' = w := by
  by_cases hi : L ≤ i
  · have e : x = 0 := by rw [← hx]; exact wd_high h.1 hi
    subst e
    have d1 : decide (L ≤ i) = true := decide_eq_true hi
    clear hx h
    go_enter Tryz.func253, Tryz.ntmps253
    go_wp2
    go_ret
    exact ⟨rfl, rfl⟩
  · obtain ⟨b, o, rfl, hlt, hc⟩ := h.2.2 (by omega)
    have c1 := hc i (by omega)
    have d1 : decide (L ≤ i) = false := decide_eq_false hi
    rw [hx] at c1
    clear hx h hc
    go_enter Tryz.func253, Tryz.ntmps253
    go_wp2
    go_ret
    exact ⟨rfl, rfl⟩
end Go.Proofs.YtkmlbjlaahcahaaGreatDoor
