/-
  What the small functions of package quot return: isZero, up, half, less, power.
-/
import Derived.Test.YtjedplbhhohfmabWide1
import Derived.Test.YtjedplbhhohfmabWide2
import Derived.Test.YtjedplbhhohfmabWide4
import Derived.Test.YtjedplbhhohfmabWide6
import Derived.Test.YtjedplbhhohfmabWide8
import Derived.Test.YtjedplbhhohfmabWide9
import Derived.Test.YtjedplbhhohfmabMx
namespace Go.Proofs.Ytjedplbhhohfmab
open Go.RowKit WMath

end Go.Proofs.Ytjedplbhhohfmab
