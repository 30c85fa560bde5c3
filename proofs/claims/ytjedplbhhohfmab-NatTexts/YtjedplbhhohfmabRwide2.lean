/-
  What the functions Count, Bit, Left and Right of the document's answer for layer 2 return.
-/
import Derived.Test.YtjedplbhhohfmabWide2
import Derived.Test.YtjedplbhhohfmabWide7
import Derived.Test.YtjedplbhhohfmabMx
namespace Go.Proofs.Ytjedplbhhohfmab
open Go.RowKit WMath

end Go.Proofs.Ytjedplbhhohfmab
