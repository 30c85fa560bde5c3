/-
  What the functions Or and count of package wide return.
-/
import Derived.Test.YtjbefkceieklmaaDoorWide1
namespace Go.Proofs.YtjbefkceieklmaaDoor
open Go.RowKit WMath

def cnt6 (n : Int) : Nat := min n.toNat 384
end Go.Proofs.YtjbefkceieklmaaDoor
