/-
  DERIVED. GIVEN WITH THE SEED: THE CARDS: each row of YtfofonnoheijjaaDoorRows.lean that lists a variable, with what it lists TIED to the program's text (the seventh form; the later family's looks); each row that meets fmt, with fmt's text TOLD by the authors' own Lean function (tested against real Go, not proved from fmt's source: count such statements apart). THE CARD IS WHAT COUNTS. Prove the row's statement (the work); the ties are given (YtfofonnoheijjaaDoorTie.lean); close each card by the builder's one call (the guide's Derived/Test/ToyasCard.lean, 'card_holds'). Laid BY PROGRAM, IN A SANDBOX (cutbox-door.mjs). By AI agents, Wed Nov 11 2026. No macro, syntax, notation, axiom, sorry.
-/
import Derived.Test.YtfofonnoheijjaaDoorRows
import GoSem.ClaimSeven
namespace Go.Proofs.YtfofonnoheijjaaDoor
namespace Rows

/-- THE TIED CARD OF 'abacuslaw02.WideBits'. -/
def wideBitsCard : Claim7 := { stood := { row := wideBitsRow, standIns := [], harness := (true, "b0fcc7a75f5d1dfea75f5656d1ed4c321d7fdcff3b818cf4994a6d9f25bfbc88"), looks := false }, kinds := [], alts := [], laidByText := true, laidKinds := [.data], laidTests := true, laidLooks := .later }
def WideBitsCardSaid : Prop := Claim7.holds Tryd.pinned (.plain (OpenSpec.ofChange wideBitsSpec)) wideBitsCard

/-- THE SECOND FORM's CARD OF 'abacuslaw02.WideBits'. -/
def wideBitsUptoCard : Claim7 := { stood := { row := wideBitsUptoRow, standIns := [], harness := (true, "b0fcc7a75f5d1dfea75f5656d1ed4c321d7fdcff3b818cf4994a6d9f25bfbc88"), looks := false }, kinds := [], alts := [], laidByText := true, laidKinds := [.data], laidTests := true, laidLooks := .later }
def WideBitsUptoCardSaid : Prop := Claim7.holds Tryd.pinned (.plain (OpenSpec.upto wideBitsSpec)) wideBitsUptoCard
end Rows
end Go.Proofs.YtfofonnoheijjaaDoor
