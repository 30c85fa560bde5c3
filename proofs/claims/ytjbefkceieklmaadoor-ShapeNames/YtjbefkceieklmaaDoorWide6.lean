/-
  What the functions Len and field of package wide return.
-/
import Derived.Test.YtjbefkceieklmaaDoorWord2
import Derived.Test.YtjbefkceieklmaaDoorWord5
import Derived.Test.YtjbefkceieklmaaDoorMx
import Derived.Test.YtjbefkceieklmaaDoorQuiet2
namespace Go.Proofs.YtjbefkceieklmaaDoor
open Go.RowKit WMath

end Go.Proofs.YtjbefkceieklmaaDoor
