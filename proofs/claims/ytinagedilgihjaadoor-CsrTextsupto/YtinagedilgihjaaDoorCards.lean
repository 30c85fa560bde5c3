/-
  DERIVED. GIVEN WITH THE SEED: THE CARDS: each row of YtinagedilgihjaaDoorRows.lean that lists a variable, with what it lists TIED to the program's text (the seventh form; the later family's looks); each row that meets fmt, with fmt's text TOLD by the authors' own Lean function (tested against real Go, not proved from fmt's source: count such statements apart). THE CARD IS WHAT COUNTS. Prove the row's statement (the work); the ties are given (YtinagedilgihjaaDoorTie.lean); close each card by the builder's one call (the guide's Derived/Test/ToyasCard.lean, 'card_holds'). Laid BY PROGRAM, IN A SANDBOX (cutbox-door.mjs). By AI agents, Wed Nov 11 2026. No macro, syntax, notation, axiom, sorry.
-/
import Derived.Test.YtinagedilgihjaaDoorRows
import GoSem.ClaimSeven
namespace Go.Proofs.YtinagedilgihjaaDoor
namespace Rows

/-- THE TIED CARD OF 'abacuslaw21.CsrActs'. -/
def csrActsCard : Claim7 := { stood := { row := csrActsRow, standIns := [], harness := (true, "375cce892d96b730adb36b2b941e8718d7576af82eb314338b118ddbbcf03578"), looks := false }, kinds := [], alts := [], laidByText := true, laidKinds := [.data, .data], laidTests := true, laidLooks := .later }
def CsrActsCardSaid : Prop := Claim7.holds Tryd.pinned (.plain (OpenSpec.ofChange csrActsSpec)) csrActsCard

/-- THE TIED CARD OF 'abacuslaw21.CsrModes'. -/
def csrModesCard : Claim7 := { stood := { row := csrModesRow, standIns := [], harness := (true, "375cce892d96b730adb36b2b941e8718d7576af82eb314338b118ddbbcf03578"), looks := false }, kinds := [], alts := [], laidByText := true, laidKinds := [.data, .data], laidTests := true, laidLooks := .later }
def CsrModesCardSaid : Prop := Claim7.holds Tryd.pinned (.plain (OpenSpec.ofChange csrModesSpec)) csrModesCard

/-- THE TIED CARD OF 'abacuslaw21.CsrTexts'. -/
def csrTextsCard : Claim7 := { stood := { row := csrTextsRow, standIns := [], harness := (true, "375cce892d96b730adb36b2b941e8718d7576af82eb314338b118ddbbcf03578"), looks := false }, kinds := [], alts := [], laidByText := true, laidKinds := [.data, .data], laidTests := true, laidLooks := .later }
def CsrTextsCardSaid : Prop := Claim7.holds Tryd.pinned (.plain (OpenSpec.ofChange csrTextsSpec)) csrTextsCard

/-- THE TIED CARD OF 'abacuslaw21.CsrParts'. -/
def csrPartsCard : Claim7 := { stood := { row := csrPartsRow, standIns := [], harness := (true, "375cce892d96b730adb36b2b941e8718d7576af82eb314338b118ddbbcf03578"), looks := false }, kinds := [], alts := [], laidByText := true, laidKinds := [.data, .data], laidTests := true, laidLooks := .later }
def CsrPartsCardSaid : Prop := Claim7.holds Tryd.pinned (.plain (OpenSpec.ofChange csrPartsSpec)) csrPartsCard

/-- THE TIED CARD OF 'abacuslaw21.CsrTurns'. -/
def csrTurnsCard : Claim7 := { stood := { row := csrTurnsRow, standIns := [], harness := (true, "375cce892d96b730adb36b2b941e8718d7576af82eb314338b118ddbbcf03578"), looks := false }, kinds := [], alts := [], laidByText := true, laidKinds := [.data, .data], laidTests := true, laidLooks := .later }
def CsrTurnsCardSaid : Prop := Claim7.holds Tryd.pinned (.plain (OpenSpec.ofChange csrTurnsSpec)) csrTurnsCard

/-- THE SECOND FORM's CARD OF 'abacuslaw21.CsrActs'. -/
def csrActsUptoCard : Claim7 := { stood := { row := csrActsUptoRow, standIns := [], harness := (true, "375cce892d96b730adb36b2b941e8718d7576af82eb314338b118ddbbcf03578"), looks := false }, kinds := [], alts := [], laidByText := true, laidKinds := [.data, .data], laidTests := true, laidLooks := .later }
def CsrActsUptoCardSaid : Prop := Claim7.holds Tryd.pinned (.plain (OpenSpec.upto csrActsSpec)) csrActsUptoCard

/-- THE SECOND FORM's CARD OF 'abacuslaw21.CsrModes'. -/
def csrModesUptoCard : Claim7 := { stood := { row := csrModesUptoRow, standIns := [], harness := (true, "375cce892d96b730adb36b2b941e8718d7576af82eb314338b118ddbbcf03578"), looks := false }, kinds := [], alts := [], laidByText := true, laidKinds := [.data, .data], laidTests := true, laidLooks := .later }
def CsrModesUptoCardSaid : Prop := Claim7.holds Tryd.pinned (.plain (OpenSpec.upto csrModesSpec)) csrModesUptoCard

/-- THE SECOND FORM's CARD OF 'abacuslaw21.CsrTexts'. -/
def csrTextsUptoCard : Claim7 := { stood := { row := csrTextsUptoRow, standIns := [], harness := (true, "375cce892d96b730adb36b2b941e8718d7576af82eb314338b118ddbbcf03578"), looks := false }, kinds := [], alts := [], laidByText := true, laidKinds := [.data, .data], laidTests := true, laidLooks := .later }
def CsrTextsUptoCardSaid : Prop := Claim7.holds Tryd.pinned (.plain (OpenSpec.upto csrTextsSpec)) csrTextsUptoCard

/-- THE SECOND FORM's CARD OF 'abacuslaw21.CsrParts'. -/
def csrPartsUptoCard : Claim7 := { stood := { row := csrPartsUptoRow, standIns := [], harness := (true, "375cce892d96b730adb36b2b941e8718d7576af82eb314338b118ddbbcf03578"), looks := false }, kinds := [], alts := [], laidByText := true, laidKinds := [.data, .data], laidTests := true, laidLooks := .later }
def CsrPartsUptoCardSaid : Prop := Claim7.holds Tryd.pinned (.plain (OpenSpec.upto csrPartsSpec)) csrPartsUptoCard

/-- THE SECOND FORM's CARD OF 'abacuslaw21.CsrTurns'. -/
def csrTurnsUptoCard : Claim7 := { stood := { row := csrTurnsUptoRow, standIns := [], harness := (true, "375cce892d96b730adb36b2b941e8718d7576af82eb314338b118ddbbcf03578"), looks := false }, kinds := [], alts := [], laidByText := true, laidKinds := [.data, .data], laidTests := true, laidLooks := .later }
def CsrTurnsUptoCardSaid : Prop := Claim7.holds Tryd.pinned (.plain (OpenSpec.upto csrTurnsSpec)) csrTurnsUptoCard
end Rows
end Go.Proofs.YtinagedilgihjaaDoor
