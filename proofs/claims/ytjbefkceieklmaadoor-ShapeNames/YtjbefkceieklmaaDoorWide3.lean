/-
  What the functions up and down of package wide return.
-/
import Derived.Test.YtjbefkceieklmaaDoorWide2
import Derived.Test.YtjbefkceieklmaaDoorWord2
import Derived.Deep.RegionWith
namespace Go.Proofs.YtjbefkceieklmaaDoor
open Go.RowKit WMath

end Go.Proofs.YtjbefkceieklmaaDoor
