/-
  What the functions digit, Digit and Text of the document's answer for layer 2 return.
-/
import Derived.Test.YtknkkagapcigfaaDoorMx
import Derived.Test.YtknkkagapcigfaaDoorGx
namespace Go.Proofs.YtknkkagapcigfaaDoor
open Go.RowKit WMath

/-- The text of what stands above the place k; nothing, where that is nought and k is not. -/
def pre (n k : Nat) : List UInt8 := if k ≠ 0 ∧ n / 16 ^ k = 0 then [] else tx (n / 16 ^ k)

end Go.Proofs.YtknkkagapcigfaaDoor
