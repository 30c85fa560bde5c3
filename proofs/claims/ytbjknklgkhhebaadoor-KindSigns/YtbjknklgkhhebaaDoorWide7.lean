/-
  What the function Text of package wide returns.
-/
import Derived.Test.YtbjknklgkhhebaaDoorWide6
import Derived.Deep.OwnRows
import Derived.Laws.BytesString
namespace Go.Proofs.YtbjknklgkhhebaaDoor
open Go.RowKit WMath

/-- Bytes, as cells. -/
def cb (l : List UInt8) : Array Value := (l.map fun b => Value.int .u8 (b.toNat : Int)).toArray

theorem cb_at (l : List UInt8) (k : Nat) (b : UInt8) (h : l[k]? = some b) : (cb l)[k]? = some (.int .u8 (b.toNat : Int)) := by simp [cb, h]
theorem cb_size (l : List UInt8) : (cb l).size = l.length := by simp [cb]
theorem cb_set (l : List UInt8) (k : Nat) (b : UInt8) : (cb l).setIfInBounds k (.int .u8 (b.toNat : Int)) = cb (l.set k b) := by
  simp [cb, List.map_set]
theorem cb_made (L : Nat) : madeCells #[.int .u8 0] L = cb (List.replicate L 0) := by
  apply Array.ext_getElem?
  intro i
  by_cases h : i < L
  · rw [cb_at _ i 0 (by simp [h])]
    simp [madeCells, h, Nat.mod_one]
  · rw [Array.getElem?_eq_none (by rw [size_madeCells]; omega), Array.getElem?_eq_none (by rw [cb_size]; simp; omega)]

/-- The first k letters written, noughts behind. -/
def wt (L n k : Nat) : List UInt8 := (hxs L n).take k ++ List.replicate (L - k) 0
theorem wt_zero (L n : Nat) : wt L n 0 = List.replicate L 0 := by simp [wt]
theorem wt_full (L n : Nat) : wt L n L = hxs L n := by simp [wt, List.take_of_length_le (Nat.le_of_eq (hxs_len L n))]
theorem wt_len (L n k : Nat) (h : k ≤ L) : (wt L n k).length = L := by simp [wt, hxs_len]; omega
theorem wt_step (L n k : Nat) (h : k < L) : (wt L n k).set k (dg (n / 16 ^ (L - 1 - k) % 16)) = wt L n (k + 1) := by
  apply List.ext_getElem?
  intro i
  rw [List.getElem?_set, wt_len L n k (by omega)]
  have a : ∀ k, k ≤ L → (wt L n k)[i]? = if i < k then (hxs L n)[i]? else if i < L then some 0 else none := by
    intro k hk
    unfold wt
    rw [List.getElem?_append, List.length_take, hxs_len, Nat.min_eq_left hk]
    split
    · rename_i h1; rw [List.getElem?_take, if_pos h1]
    · rename_i h1; rw [List.getElem?_replicate]
      by_cases h2 : i < L
      · rw [if_pos h2, if_pos (by omega)]
      · rw [if_neg h2, if_neg (by omega)]
  rw [a k (by omega), a (k + 1) (by omega)]
  by_cases e : k = i
  · subst e
    rw [if_pos rfl, if_pos h, if_pos (by omega), hxs_at L n k h]
  · rw [if_neg e]
    by_cases e2 : i < k
    · rw [if_pos e2, if_pos (by omega)]
    · rw [if_neg e2, if_neg (show ¬ i < k + 1 by omega)]

theorem fz {w : World} {b k : Nat} {c : Array Value} {t : TypeId} (h : w.heap[b]? = some (.cells c t)) : w.frozen? ⟨b, k, none⟩ = false := by simp [World.frozen?, h]
theorem setCell_row {w : World} {b k : Nat} {c : Array Value} {t : TypeId} {v : Value} (h : w.heap[b]? = some (.cells c t)) : (w.setCell ⟨b, k, none⟩ v).heap[b]? = some (.cells (c.setIfInBounds k v) t) := by
  simp [World.setCell, Array.getElem?_modify, h]
theorem setCell_other {w : World} {b b' k : Nat} {v : Value} (h : b ≠ b') : (w.setCell ⟨b, k, none⟩ v).heap[b']? = w.heap[b']? := by
  simp [World.setCell, Array.getElem?_modify, h]
theorem cb_cell {w : World} {b k : Nat} {l : List UInt8} {t : TypeId} {x : UInt8} (h : w.heap[b]? = some (.cells (cb l) t)) (hk : l[k]? = some x) : w.cell? ⟨b, k, none⟩ = some (.int .u8 (x.toNat : Int)) := by
  rw [cell_of_row w b k _ _ _ h, cb_at l k x hk]
theorem fold_bytes : ∀ (l : List UInt8) (a : Array UInt8), ((l.map fun b => (b.toNat : Int)).foldl (fun r n => r.push (UInt8.ofNat n.toNat)) (⟨a⟩ : ByteArray)) = ⟨a ++ l.toArray⟩
  | [], a => by simp
  | x :: l, a => by
    have := fold_bytes l (a.push x)
    simp only [List.map_cons, List.foldl_cons, Int.toNat_natCast, UInt8.ofNat_toNat]
    rw [show (ByteArray.mk a).push x = ⟨a.push x⟩ from rfl, this]
    simp
theorem dig_fact (w : World) (d : Nat) (h : d < 16) :
    (Instr.index 9 (.string ⟨#[48, 49, 50, 51, 52, 53, 54, 55, 56, 57, 97, 98, 99, 100, 101, 102]⟩) (.int .u64 (d : Nat))).run Tryd.prog w = .ok (.int .u8 ((dg d).toNat : Int)) w := by
  have hd : d = 0 ∨ d = 1 ∨ d = 2 ∨ d = 3 ∨ d = 4 ∨ d = 5 ∨ d = 6 ∨ d = 7 ∨ d = 8 ∨ d = 9 ∨ d = 10 ∨ d = 11 ∨ d = 12 ∨ d = 13 ∨ d = 14 ∨ d = 15 := by omega
  rcases hd with rfl | rfl | rfl | rfl | rfl | rfl | rfl | rfl | rfl | rfl | rfl | rfl | rfl | rfl | rfl | rfl <;> (rw [run_index_string (P := Tryd.prog) w 9 _ _ _ Tryd.underlying9]; rfl)

end Go.Proofs.YtbjknklgkhhebaaDoor
