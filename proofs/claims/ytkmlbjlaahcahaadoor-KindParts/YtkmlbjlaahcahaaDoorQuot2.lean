/-
  What Div of package quot returns.
-/
import Derived.Test.YtkmlbjlaahcahaaDoorQuot1
import Derived.Deep.RegionWith
namespace Go.Proofs.YtkmlbjlaahcahaaDoor
open Go.RowKit WMath

/-- The first boxes that a call has made, in their order; whatever was there before is as it was. -/
def RowsL (w wr : World) (l : List Nat) : Prop := (∀ i x, l[i]? = some x → wr.heap[w.heap.size + i]? = some (.cells (cw 6 x) 28)) ∧ Below w.heap.size w wr
theorem rowsL_nil (w : World) : RowsL w w [] := ⟨fun i x h => by simp at h, Below.refl _ _⟩
theorem rowsL_new {w wr : World} {l : List Nat} (h : RowsL w wr l) (hs : wr.heap.size = w.heap.size + l.length) (x : Nat) : RowsL w (wr.alloc (.cells (cw 6 x) 28)) (l ++ [x]) := by
  refine ⟨fun i y hy => ?_, h.2.alloc (by omega) _⟩
  rw [List.getElem?_append] at hy
  split at hy
  · rw [heap_below _ _ _ (by omega)]; exact h.1 i y hy
  · have e : i = l.length := by
      have := (List.getElem?_eq_some_iff.1 hy).1
      simp at this; omega
    subst e
    simp at hy
    subst hy
    rw [← hs]
    exact heap_alloc_last _ _
theorem rowsL_below {w wr w2 : World} {l : List Nat} (h : RowsL w wr l) (hb : Below wr.heap.size wr w2) : RowsL w w2 l :=
  ⟨fun i x hx => heap_of hb _ _ _ (h.1 i x hx), h.2.trans (hb.mono h.2.size)⟩
theorem rowsL_alloc {w wr : World} {l : List Nat} (h : RowsL w wr l) (o : Obj) : RowsL w (wr.alloc o) l :=
  rowsL_below h ((Below.refl _ _).alloc (Nat.le_refl _) _)
theorem rowsL_drew {w wr : World} {l : List Nat} (h : RowsL w wr l) (d : Nat) : RowsL w (wr.drewN d) l := ⟨h.1, below_drewN h.2 d⟩
theorem rowsL_set {w wr : World} {l l2 : List Nat} (h : RowsL w wr l) (i x b : Nat) (hi : i < l.length) (hb : b = w.heap.size + i) (hl : l2 = l.set i x) : RowsL w (wr.setRow b (cw 6 x)) l2 := by
  subst hb
  subst hl
  refine ⟨fun j y hy => ?_, Below.setRow h.2 (by omega)⟩
  by_cases e : i = j
  · subst e
    rw [List.getElem?_set_self hi] at hy
    cases hy
    exact setRow_row (h.1 i _ (List.getElem?_eq_getElem hi))
  · rw [List.getElem?_set_ne e] at hy
    rw [setRow_other (by omega)]
    exact h.1 j y hy

theorem rows0 {w wr : World} {x : Nat} {l : List Nat} (h : RowsL w wr (x :: l)) : wr.heap[w.heap.size]? = some (.cells (cw 6 x) 28) := h.1 0 _ rfl
theorem rows1 {w wr : World} {x y : Nat} {l : List Nat} (h : RowsL w wr (x :: y :: l)) : wr.heap[w.heap.size + 1]? = some (.cells (cw 6 y) 28) := h.1 1 _ rfl
theorem rows2 {w wr : World} {x y z : Nat} {l : List Nat} (h : RowsL w wr (x :: y :: z :: l)) : wr.heap[w.heap.size + 1 + 1]? = some (.cells (cw 6 z) 28) := h.1 2 _ rfl
theorem rows3 {w wr : World} {x y z u : Nat} {l : List Nat} (h : RowsL w wr (x :: y :: z :: u :: l)) : wr.heap[w.heap.size + 1 + 1 + 1]? = some (.cells (cw 6 u) 28) := h.1 3 _ rfl

theorem wrap_i64_is (n : Int) (h1 : -9223372036854775808 ≤ n) (h2 : n ≤ 9223372036854775807) : IntKind.i64.wrap n = n := by
  simp [IntKind.wrap, IntKind.bits, IntKind.signed]; omega

theorem less_is (r s : Nat) (hr : r < Q) (h : s ≤ r) : (r + Q - s) % Q = r - s := by
  rw [show r + Q - s = (r - s) + Q by omega, Nat.add_mod_right, Nat.mod_eq_of_lt (by omega)]

end Go.Proofs.YtkmlbjlaahcahaaDoor
