/-
  DERIVED. GIVEN WITH THE SEED: THE CARDS: each row of YtoaaajeblhaeoaaDoorRows.lean that lists a variable, with what it lists TIED to the program's text (the seventh form; the later family's looks); each row that meets fmt, with fmt's text TOLD by the authors' own Lean function (tested against real Go, not proved from fmt's source: count such statements apart). THE CARD IS WHAT COUNTS. Prove the row's statement (the work); the ties are given (YtoaaajeblhaeoaaDoorTie.lean); close each card by the builder's one call (the guide's Derived/Test/ToyasCard.lean, 'card_holds'). Laid BY PROGRAM, IN A SANDBOX (cutbox-door.mjs). By AI agents, Wed Nov 11 2026. No macro, syntax, notation, axiom, sorry.
-/
import Derived.Test.YtoaaajeblhaeoaaDoorRows
import GoSem.ClaimSeven
namespace Go.Proofs.YtoaaajeblhaeoaaDoor
namespace Rows

/-- THE TIED CARD OF 'abacuslaw11.AddTurned'. -/
def addTurnedCard : Claim7 := { stood := { row := addTurnedRow, standIns := [], harness := (true, "b89e3e7563bb31faa411b1ebe10f63f3ce662ed04a35bb7e1902657ad532e23d"), looks := false }, kinds := [], alts := [], laidByText := true, laidKinds := [.data], laidTests := true, laidLooks := .later }
def AddTurnedCardSaid : Prop := Claim7.holds Tryd.pinned (.plain (OpenSpec.ofChange addTurnedSpec)) addTurnedCard

/-- THE TIED CARD OF 'abacuslaw12.MulTurned'. -/
def mulTurnedCard : Claim7 := { stood := { row := mulTurnedRow, standIns := [], harness := (true, "b89e3e7563bb31faa411b1ebe10f63f3ce662ed04a35bb7e1902657ad532e23d"), looks := false }, kinds := [], alts := [], laidByText := true, laidKinds := [.data], laidTests := true, laidLooks := .later }
def MulTurnedCardSaid : Prop := Claim7.holds Tryd.pinned (.plain (OpenSpec.ofChange mulTurnedSpec)) mulTurnedCard

/-- THE SECOND FORM's CARD OF 'abacuslaw11.AddTurned'. -/
def addTurnedUptoCard : Claim7 := { stood := { row := addTurnedUptoRow, standIns := [], harness := (true, "b89e3e7563bb31faa411b1ebe10f63f3ce662ed04a35bb7e1902657ad532e23d"), looks := false }, kinds := [], alts := [], laidByText := true, laidKinds := [.data], laidTests := true, laidLooks := .later }
def AddTurnedUptoCardSaid : Prop := Claim7.holds Tryd.pinned (.plain (OpenSpec.upto addTurnedSpec)) addTurnedUptoCard

/-- THE SECOND FORM's CARD OF 'abacuslaw12.MulTurned'. -/
def mulTurnedUptoCard : Claim7 := { stood := { row := mulTurnedUptoRow, standIns := [], harness := (true, "b89e3e7563bb31faa411b1ebe10f63f3ce662ed04a35bb7e1902657ad532e23d"), looks := false }, kinds := [], alts := [], laidByText := true, laidKinds := [.data], laidTests := true, laidLooks := .later }
def MulTurnedUptoCardSaid : Prop := Claim7.holds Tryd.pinned (.plain (OpenSpec.upto mulTurnedSpec)) mulTurnedUptoCard
end Rows
end Go.Proofs.YtoaaajeblhaeoaaDoor
