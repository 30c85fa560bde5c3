/-
  What the functions Len, Mul and Cmp of package nat return.
-/
import Derived.Test.YtknkkagapcigfaaDoorList7
namespace Go.Proofs.YtknkkagapcigfaaDoor
open Go.RowKit WMath

end Go.Proofs.YtknkkagapcigfaaDoor
