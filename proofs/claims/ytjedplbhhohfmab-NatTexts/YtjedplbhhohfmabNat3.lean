/-
  What the functions Add, Sub, Of, OfWide, Len of the document's answer for layer 5 return.
-/
import Derived.Test.YtjedplbhhohfmabNat2
import Derived.Test.YtjedplbhhohfmabRlen
namespace Go.Proofs.Ytjedplbhhohfmab
open Go.RowKit WMath

/-- A result, or that it is too long. -/
def lg (x : Nat) : ByteArray × Int := if nl x ≤ 16384 then (nbA x, 0) else (⟨#[]⟩, 4)
/-- A difference, or that there is none. -/
def sb (a b : Nat) : ByteArray × Int := if a < b then (⟨#[]⟩, 2) else (nbA (a - b), 0)

end Go.Proofs.Ytjedplbhhohfmab
