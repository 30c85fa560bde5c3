/-
  What the functions Len and field of package wide return.
-/
import Derived.Test.YtbjknklgkhhebaaDoorWord2
import Derived.Test.YtbjknklgkhhebaaDoorWord5
import Derived.Test.YtbjknklgkhhebaaDoorMx
import Derived.Test.YtbjknklgkhhebaaDoorQuiet2
namespace Go.Proofs.YtbjknklgkhhebaaDoor
open Go.RowKit WMath

end Go.Proofs.YtbjknklgkhhebaaDoor
