/-
  What the functions wrong and play of the statements of layer 5 return.
-/
import Derived.Test.YthiongcednmjiaaDoorGx
namespace Go.Proofs.YthiongcednmjiaaDoor
open Go.RowKit WMath

/-- A function that leaves the world alone leaves what lay there. -/
theorem bel {P : Program} {f : Nat} {args : Array Value} {e : Ending} {w : World} (h : Calls P f args w fun r w' => r = e ∧ w' = w) : Calls P f args w fun r w' => r = e ∧ Below w.heap.size w w' :=
  h.mono fun _ _ ⟨h1, h2⟩ => ⟨h1, by rw [h2]; exact Below.refl _ _⟩

end Go.Proofs.YthiongcednmjiaaDoor
