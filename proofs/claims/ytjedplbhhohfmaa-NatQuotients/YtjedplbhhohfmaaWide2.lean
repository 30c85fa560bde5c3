/-
  What the functions Or and count of package wide return.
-/
import Derived.Test.YtjedplbhhohfmaaWide1
namespace Go.Proofs.Ytjedplbhhohfmaa
open Go.RowKit WMath

def cnt6 (n : Int) : Nat := min n.toNat 384
end Go.Proofs.Ytjedplbhhohfmaa
