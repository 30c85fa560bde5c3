/-
  DERIVED. GIVEN WITH THE SEED: THE CARDS: each row of YtfmmeifipbpbmaaDoorRows.lean that lists a variable, with what it lists TIED to the program's text (the seventh form; the later family's looks); each row that meets fmt, with fmt's text TOLD by the authors' own Lean function (tested against real Go, not proved from fmt's source: count such statements apart). THE CARD IS WHAT COUNTS. Prove the row's statement (the work); the ties are given (YtfmmeifipbpbmaaDoorTie.lean); close each card by the builder's one call (the guide's Derived/Test/ToyasCard.lean, 'card_holds'). Laid BY PROGRAM, IN A SANDBOX (cutbox-door.mjs). By AI agents, Wed Nov 11 2026. No macro, syntax, notation, axiom, sorry.
-/
import Derived.Test.YtfmmeifipbpbmaaDoorRows
import GoSem.ClaimSeven
namespace Go.Proofs.YtfmmeifipbpbmaaDoor
namespace Rows

/-- THE TIED CARD OF 'abacuslaw10.RoundOver'. -/
def roundOverCard : Claim7 := { stood := { row := roundOverRow, standIns := [], harness := (true, "c5b4cb0a2ba6d5902435594dd51034f531c79981ca9f7771c10e5b840070a79c"), looks := false }, kinds := [], alts := [], laidByText := true, laidKinds := [.data], laidTests := true, laidLooks := .later }
def RoundOverCardSaid : Prop := Claim7.holds Tryd.pinned (.plain (OpenSpec.ofChange roundOverSpec)) roundOverCard

/-- THE TIED CARD OF 'abacuslaw10.RoundDoubled'. -/
def roundDoubledCard : Claim7 := { stood := { row := roundDoubledRow, standIns := [], harness := (true, "c5b4cb0a2ba6d5902435594dd51034f531c79981ca9f7771c10e5b840070a79c"), looks := false }, kinds := [], alts := [], laidByText := true, laidKinds := [.data], laidTests := true, laidLooks := .later }
def RoundDoubledCardSaid : Prop := Claim7.holds Tryd.pinned (.plain (OpenSpec.ofChange roundDoubledSpec)) roundDoubledCard

/-- THE TIED CARD OF 'abacuslaw11.AddTurned'. -/
def addTurnedCard : Claim7 := { stood := { row := addTurnedRow, standIns := [], harness := (true, "c5b4cb0a2ba6d5902435594dd51034f531c79981ca9f7771c10e5b840070a79c"), looks := false }, kinds := [], alts := [], laidByText := true, laidKinds := [.data], laidTests := true, laidLooks := .later }
def AddTurnedCardSaid : Prop := Claim7.holds Tryd.pinned (.plain (OpenSpec.ofChange addTurnedSpec)) addTurnedCard

/-- THE SECOND FORM's CARD OF 'abacuslaw10.RoundOver'. -/
def roundOverUptoCard : Claim7 := { stood := { row := roundOverUptoRow, standIns := [], harness := (true, "c5b4cb0a2ba6d5902435594dd51034f531c79981ca9f7771c10e5b840070a79c"), looks := false }, kinds := [], alts := [], laidByText := true, laidKinds := [.data], laidTests := true, laidLooks := .later }
def RoundOverUptoCardSaid : Prop := Claim7.holds Tryd.pinned (.plain (OpenSpec.upto roundOverSpec)) roundOverUptoCard

/-- THE SECOND FORM's CARD OF 'abacuslaw10.RoundDoubled'. -/
def roundDoubledUptoCard : Claim7 := { stood := { row := roundDoubledUptoRow, standIns := [], harness := (true, "c5b4cb0a2ba6d5902435594dd51034f531c79981ca9f7771c10e5b840070a79c"), looks := false }, kinds := [], alts := [], laidByText := true, laidKinds := [.data], laidTests := true, laidLooks := .later }
def RoundDoubledUptoCardSaid : Prop := Claim7.holds Tryd.pinned (.plain (OpenSpec.upto roundDoubledSpec)) roundDoubledUptoCard

/-- THE SECOND FORM's CARD OF 'abacuslaw11.AddTurned'. -/
def addTurnedUptoCard : Claim7 := { stood := { row := addTurnedUptoRow, standIns := [], harness := (true, "c5b4cb0a2ba6d5902435594dd51034f531c79981ca9f7771c10e5b840070a79c"), looks := false }, kinds := [], alts := [], laidByText := true, laidKinds := [.data], laidTests := true, laidLooks := .later }
def AddTurnedUptoCardSaid : Prop := Claim7.holds Tryd.pinned (.plain (OpenSpec.upto addTurnedSpec)) addTurnedUptoCard
end Rows
end Go.Proofs.YtfmmeifipbpbmaaDoor
