/-
  What the small functions of package quot return: isZero, up, half, less, power.
-/
import Derived.Test.YtjedplbhhohfmaaDoorWide1
import Derived.Test.YtjedplbhhohfmaaDoorWide2
import Derived.Test.YtjedplbhhohfmaaDoorWide4
import Derived.Test.YtjedplbhhohfmaaDoorWide6
import Derived.Test.YtjedplbhhohfmaaDoorWide8
import Derived.Test.YtjedplbhhohfmaaDoorWide9
import Derived.Test.YtjedplbhhohfmaaDoorMx
namespace Go.Proofs.YtjedplbhhohfmaaDoor
open Go.RowKit WMath

/-- A row made by box and alloc, a call, and what it gave stored twice: the walk of up, half and less. -/
theorem rows_two {w w1 : World} {n : Nat} (hb : Below ((w.alloc (.cells (cw 6 n) 24)).alloc (.cells (cw 6 0) 24)).heap.size ((w.alloc (.cells (cw 6 n) 24)).alloc (.cells (cw 6 0) 24)) w1) :
    w1.heap[w.heap.size]? = some (.cells (cw 6 n) 24) ∧ w1.heap[w.heap.size + 1]? = some (.cells (cw 6 0) 24) ∧ Below w.heap.size w w1 ∧ w.heap.size + 1 < w1.heap.size := by
  have h1 : w1.heap[w.heap.size + 1]? = some (.cells (cw 6 0) 24) := heap_of hb _ _ _ (by rw [← size_al]; exact heap_alloc_last _ _)
  exact ⟨heap_of hb _ _ _ (by rw [heap_below _ _ _ (by simp only [size_al]; omega)]; exact heap_alloc_last w _), h1,
    (((Below.refl _ _).alloc (Nat.le_refl _) _).alloc (by simp only [size_al]; omega) _).trans (hb.mono (by simp only [size_al]; omega)), (Array.getElem?_eq_some_iff.1 h1).1⟩

end Go.Proofs.YtjedplbhhohfmaaDoor
