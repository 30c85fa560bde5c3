/-
  What the small functions of package quot return: isZero, up, half, less, power.
-/
import Derived.Test.YtkmlbjlaahcahaaDoorGx
import Derived.Test.YtkmlbjlaahcahaaDoorWide2
import Derived.Test.YtkmlbjlaahcahaaDoorWide4
import Derived.Test.YtkmlbjlaahcahaaDoorWide8
import Derived.Test.YtkmlbjlaahcahaaDoorWide9
import Derived.Test.YtkmlbjlaahcahaaDoorMx
namespace Go.Proofs.YtkmlbjlaahcahaaDoor
open Go.RowKit WMath

theorem wor_is (n m v : Nat) (hn : n < Q) (hm : m < Q) (hv : n ||| m = v) (w : World) :
    Calls Tryd.prog 48 #[.agg (cw 6 n), .agg (cw 6 m)] w fun e w' => e = .returned (.agg (cw 6 v)) ∧ Below w.heap.size w w' := by
  subst hv; exact wor_any n m hn hm w
/-- A row made by box and alloc, a call, and what it gave stored twice: the walk of up, half and less. -/
theorem rows_two {w w1 : World} {n : Nat} (hb : Below ((w.alloc (.cells (cw 6 n) 28)).alloc (.cells (cw 6 0) 28)).heap.size ((w.alloc (.cells (cw 6 n) 28)).alloc (.cells (cw 6 0) 28)) w1) :
    w1.heap[w.heap.size]? = some (.cells (cw 6 n) 28) ∧ w1.heap[w.heap.size + 1]? = some (.cells (cw 6 0) 28) ∧ Below w.heap.size w w1 ∧ w.heap.size + 1 < w1.heap.size := by
  have h1 : w1.heap[w.heap.size + 1]? = some (.cells (cw 6 0) 28) := heap_of hb _ _ _ (by rw [← size_al]; exact heap_alloc_last _ _)
  exact ⟨heap_of hb _ _ _ (by rw [heap_below _ _ _ (by simp only [size_al]; omega)]; exact heap_alloc_last w _), h1,
    (((Below.refl _ _).alloc (Nat.le_refl _) _).alloc (by simp only [size_al]; omega) _).trans (hb.mono (by simp only [size_al]; omega)), (Array.getElem?_eq_some_iff.1 h1).1⟩

end Go.Proofs.YtkmlbjlaahcahaaDoor
