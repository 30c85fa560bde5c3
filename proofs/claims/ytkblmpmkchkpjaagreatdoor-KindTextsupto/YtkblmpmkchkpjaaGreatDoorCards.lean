/-
  DERIVED. GIVEN WITH THE SEED: THE CARDS: each row of YtkblmpmkchkpjaaGreatDoorRows.lean that lists a variable, with what it lists TIED to the program's text (the seventh form; the later family's looks); each row that meets fmt, with fmt's text TOLD by the authors' own Lean function (tested against real Go, not proved from fmt's source: count such statements apart). THE CARD IS WHAT COUNTS. Prove the row's statement (the work); the ties are given (YtkblmpmkchkpjaaGreatDoorTie.lean); close each card by the builder's one call (the guide's Derived/Test/ToyasCard.lean, 'card_holds'). Laid BY PROGRAM, IN A SANDBOX (cutbox-door.mjs). By AI agents, Wed Nov 11 2026. No macro, syntax, notation, axiom, sorry.
-/
import Derived.Test.YtkblmpmkchkpjaaGreatDoorRows
import GoSem.ClaimSeven
namespace Go.Proofs.YtkblmpmkchkpjaaGreatDoor
namespace Rows

/-- THE TIED CARD OF 'abacuslaw08.KindTexts'. -/
def kindTextsCard : Claim7 := { stood := { row := kindTextsRow, standIns := [], harness := (true, "5189812f02db237da51da53b8cdef67772b1398a8830c5b22434590af2d81e8a"), looks := true }, kinds := [], alts := [], laidByText := true, laidKinds := [.data, .data, .data, .sentinel, .sentinel, .data], laidTests := true, laidLooks := .later }
def KindTextsCardSaid : Prop := Claim7.holds Tryz.pinned (.plain (OpenSpec.ofChange kindTextsSpec)) kindTextsCard

/-- THE TIED CARD OF 'abacuslaw09.RuleNearest'. -/
def ruleNearestCard : Claim7 := { stood := { row := ruleNearestRow, standIns := [], harness := (true, "5189812f02db237da51da53b8cdef67772b1398a8830c5b22434590af2d81e8a"), looks := true }, kinds := [], alts := [], laidByText := true, laidKinds := [.data, .data], laidTests := true, laidLooks := .later }
def RuleNearestCardSaid : Prop := Claim7.holds Tryz.pinned (.plain (OpenSpec.ofChange ruleNearestSpec)) ruleNearestCard

/-- THE TIED CARD OF 'abacuslaw13.DivQuotients'. -/
def divQuotientsCard : Claim7 := { stood := { row := divQuotientsRow, standIns := [], harness := (true, "5189812f02db237da51da53b8cdef67772b1398a8830c5b22434590af2d81e8a"), looks := true }, kinds := [], alts := [], laidByText := true, laidKinds := [.data], laidTests := true, laidLooks := .later }
def DivQuotientsCardSaid : Prop := Claim7.holds Tryz.pinned (.plain (OpenSpec.ofChange divQuotientsSpec)) divQuotientsCard

/-- THE SECOND FORM's CARD OF 'abacuslaw08.KindTexts'. -/
def kindTextsUptoCard : Claim7 := { stood := { row := kindTextsUptoRow, standIns := [], harness := (true, "5189812f02db237da51da53b8cdef67772b1398a8830c5b22434590af2d81e8a"), looks := true }, kinds := [], alts := [], laidByText := true, laidKinds := [.data, .data, .data, .sentinel, .sentinel, .data], laidTests := true, laidLooks := .later }
def KindTextsUptoCardSaid : Prop := Claim7.holds Tryz.pinned (.plain (OpenSpec.upto kindTextsSpec)) kindTextsUptoCard

/-- THE SECOND FORM's CARD OF 'abacuslaw09.RuleNearest'. -/
def ruleNearestUptoCard : Claim7 := { stood := { row := ruleNearestUptoRow, standIns := [], harness := (true, "5189812f02db237da51da53b8cdef67772b1398a8830c5b22434590af2d81e8a"), looks := true }, kinds := [], alts := [], laidByText := true, laidKinds := [.data, .data], laidTests := true, laidLooks := .later }
def RuleNearestUptoCardSaid : Prop := Claim7.holds Tryz.pinned (.plain (OpenSpec.upto ruleNearestSpec)) ruleNearestUptoCard

/-- THE SECOND FORM's CARD OF 'abacuslaw13.DivQuotients'. -/
def divQuotientsUptoCard : Claim7 := { stood := { row := divQuotientsUptoRow, standIns := [], harness := (true, "5189812f02db237da51da53b8cdef67772b1398a8830c5b22434590af2d81e8a"), looks := true }, kinds := [], alts := [], laidByText := true, laidKinds := [.data], laidTests := true, laidLooks := .later }
def DivQuotientsUptoCardSaid : Prop := Claim7.holds Tryz.pinned (.plain (OpenSpec.upto divQuotientsSpec)) divQuotientsUptoCard
end Rows
end Go.Proofs.YtkblmpmkchkpjaaGreatDoor
