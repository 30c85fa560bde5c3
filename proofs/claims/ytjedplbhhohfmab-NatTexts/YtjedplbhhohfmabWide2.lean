/-
  What the functions Or and count of package wide return.
-/
import Derived.Test.YtjedplbhhohfmabWide1
namespace Go.Proofs.Ytjedplbhhohfmab
open Go.RowKit WMath

def cnt6 (n : Int) : Nat := min n.toNat 384
end Go.Proofs.Ytjedplbhhohfmab
