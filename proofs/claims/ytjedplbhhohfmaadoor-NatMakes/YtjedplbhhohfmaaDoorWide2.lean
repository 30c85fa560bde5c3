/-
  What the functions Or and count of package wide return.
-/
import Derived.Test.YtjedplbhhohfmaaDoorWide1
namespace Go.Proofs.YtjedplbhhohfmaaDoor
open Go.RowKit WMath

def cnt6 (n : Int) : Nat := min n.toNat 384
end Go.Proofs.YtjedplbhhohfmaaDoor
