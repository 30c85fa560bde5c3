/-
  Worlds that have grown out of one another; a box written over, and the others.
-/
import Derived.Test.YtknkkagapcigfaaGreatDoorX3m
namespace Go.Proofs.YtknkkagapcigfaaGreatDoor
open Go.RowKit WMath

theorem bel_drew {w w' : World} (h : Below w.drew.heap.size w.drew w') : Below w.heap.size w w' := ((Below.refl w.heap.size w).drew).trans h
theorem bel_alloc {w w' : World} {o : Obj} (h : Below (w.alloc o).heap.size (w.alloc o) w') : Below w.heap.size w w' := btr (bal w o) h
theorem set4_other {w : World} {g b : Nat} {c : Array Value} {T : TypeId} (h : w.heap[g]? = some (.cells c T)) (hb : b ≠ g) (v0 v1 v2 v3 : Value) :
    ((((w.setCell ⟨b, 0, none⟩ v0).setCell ⟨b, 1, none⟩ v1).setCell ⟨b, 2, none⟩ v2).setCell ⟨b, 3, none⟩ v3).heap[g]? = some (.cells c T) := by
  rw [setCell_other hb, setCell_other hb, setCell_other hb, setCell_other hb]
  exact h
end Go.Proofs.YtknkkagapcigfaaGreatDoor
