/-
  What the functions Count, Bit, Left and Right of the document's answer for layer 2 return.
-/
import Derived.Test.YtjedplbhhohfmaaWide2
import Derived.Test.YtjedplbhhohfmaaWide7
import Derived.Test.YtjedplbhhohfmaaMx
namespace Go.Proofs.Ytjedplbhhohfmaa
open Go.RowKit WMath

end Go.Proofs.Ytjedplbhhohfmaa
