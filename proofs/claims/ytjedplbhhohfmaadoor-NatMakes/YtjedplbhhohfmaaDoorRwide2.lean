/-
  What the functions Count, Bit, Left and Right of the document's answer for layer 2 return.
-/
import Derived.Test.YtjedplbhhohfmaaDoorWide2
import Derived.Test.YtjedplbhhohfmaaDoorWide7
import Derived.Test.YtjedplbhhohfmaaDoorMx
namespace Go.Proofs.YtjedplbhhohfmaaDoor
open Go.RowKit WMath

end Go.Proofs.YtjedplbhhohfmaaDoor
