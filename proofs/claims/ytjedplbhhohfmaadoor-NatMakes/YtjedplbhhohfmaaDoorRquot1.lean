/-
  What Div of the document's answer for layer 3 returns.
-/
import Derived.Test.YtjedplbhhohfmaaDoorQuot2
import Derived.Test.YtjedplbhhohfmaaDoorRlen
import Derived.Test.YtjedplbhhohfmaaDoorRwide1
import Derived.Test.YtjedplbhhohfmaaDoorRwide2
namespace Go.Proofs.YtjedplbhhohfmaaDoor
open Go.RowKit WMath

theorem rows4 {w wr : World} {x0 x1 x2 x3 x : Nat} {l : List Nat} (h : RowsL w wr (x0 :: x1 :: x2 :: x3 :: x :: l)) : wr.heap[w.heap.size + 1 + 1 + 1 + 1]? = some (.cells (cw 6 x) 24) := h.1 4 _ rfl
theorem rows5 {w wr : World} {x0 x1 x2 x3 x4 x : Nat} {l : List Nat} (h : RowsL w wr (x0 :: x1 :: x2 :: x3 :: x4 :: x :: l)) : wr.heap[w.heap.size + 1 + 1 + 1 + 1 + 1]? = some (.cells (cw 6 x) 24) := h.1 5 _ rfl
theorem rowsL_setCell {w wr : World} {l l2 : List Nat} (h : RowsL w wr l) (i x y b o : Nat) (v : Value) (hi : l[i]? = some x) (hb : b = w.heap.size + i) (hv : (cw 6 x).setIfInBounds o v = cw 6 y) (hl : l2 = l.set i y) : RowsL w (wr.setCell ⟨b, o, none⟩ v) l2 := by
  subst hb
  subst hl
  refine ⟨fun j z hz => ?_, h.2.setCell (by show w.heap.size ≤ w.heap.size + i; omega) _⟩
  by_cases e : i = j
  · subst e
    rw [List.getElem?_set_self (List.getElem?_eq_some_iff.1 hi).1] at hz
    cases hz
    rw [setCell_row (h.1 i _ hi), hv]
  · rw [List.getElem?_set_ne e] at hz
    rw [setCell_other (by omega)]
    exact h.1 j z hz
theorem rowsL_other {w wr : World} {l : List Nat} (h : RowsL w wr l) (b o : Nat) (v : Value) (hb : w.heap.size + l.length ≤ b) : RowsL w (wr.setCell ⟨b, o, none⟩ v) l :=
  ⟨fun j z hz => by
    have := (List.getElem?_eq_some_iff.1 hz).1
    rw [setCell_other (by omega)]
    exact h.1 j z hz, h.2.setCell (by show w.heap.size ≤ b; omega) _⟩
theorem rowsL_size {w wr : World} {l : List Nat} (h : RowsL w wr l) (i x : Nat) (hi : l[i]? = some x) : w.heap.size + i < wr.heap.size :=
  (Array.getElem?_eq_some_iff.1 (h.1 i x hi)).1
theorem qor_one (s : Nat) (h : s % 2 = 0) : s ||| 1 * 2 ^ (64 * 0) = s + 1 := by
  rw [Nat.mul_zero, Nat.pow_zero, Nat.mul_one]
  exact qor_add s 1 1 ⟨s / 2, by omega⟩ (by decide)
/-- One bit as a word at its place. -/
theorem one_bit (j q r : Nat) (hq : q = j / 64) (hr : r = j % 64) : 2 ^ r * 2 ^ (64 * q) = 2 ^ j := by
  rw [← Nat.pow_add]; congr 1; omega

end Go.Proofs.YtjedplbhhohfmaaDoor
