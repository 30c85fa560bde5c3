/-
  What the small functions of package quot return: isZero, up, half, less, power.
-/
import Derived.Test.YtjedplbhhohfmaaWide1
import Derived.Test.YtjedplbhhohfmaaWide2
import Derived.Test.YtjedplbhhohfmaaWide4
import Derived.Test.YtjedplbhhohfmaaWide6
import Derived.Test.YtjedplbhhohfmaaWide8
import Derived.Test.YtjedplbhhohfmaaWide9
import Derived.Test.YtjedplbhhohfmaaMx
namespace Go.Proofs.Ytjedplbhhohfmaa
open Go.RowKit WMath

end Go.Proofs.Ytjedplbhhohfmaa
