/-
  DERIVED. GIVEN WITH THE SEED: THE CARDS: each row of YtfmmeifipbpbmaaGreatDoorRows.lean that lists a variable, with what it lists TIED to the program's text (the seventh form; the later family's looks); each row that meets fmt, with fmt's text TOLD by the authors' own Lean function (tested against real Go, not proved from fmt's source: count such statements apart). THE CARD IS WHAT COUNTS. Prove the row's statement (the work); the ties are given (YtfmmeifipbpbmaaGreatDoorTie.lean); close each card by the builder's one call (the guide's Derived/Test/ToyasCard.lean, 'card_holds'). Laid BY PROGRAM, IN A SANDBOX (cutbox-door.mjs). By AI agents, Wed Nov 11 2026. No macro, syntax, notation, axiom, sorry.
-/
import Derived.Test.YtfmmeifipbpbmaaGreatDoorRows
import GoSem.ClaimSeven
namespace Go.Proofs.YtfmmeifipbpbmaaGreatDoor
namespace Rows

/-- THE TIED CARD OF 'abacuslaw08.KindTexts'. -/
def kindTextsCard : Claim7 := { stood := { row := kindTextsRow, standIns := [], harness := (true, "7baa41e3f9a0e0cbcd2ab794102ed9129cff8907ce19e6b7f0bd13a27da82cc2"), looks := true }, kinds := [], alts := [], laidByText := true, laidKinds := [.data, .data, .data, .sentinel, .sentinel, .data], laidTests := true, laidLooks := .later }
def KindTextsCardSaid : Prop := Claim7.holds Tryz.pinned (.plain (OpenSpec.ofChange kindTextsSpec)) kindTextsCard

/-- THE TIED CARD OF 'abacuslaw09.RuleNearest'. -/
def ruleNearestCard : Claim7 := { stood := { row := ruleNearestRow, standIns := [], harness := (true, "7baa41e3f9a0e0cbcd2ab794102ed9129cff8907ce19e6b7f0bd13a27da82cc2"), looks := true }, kinds := [], alts := [], laidByText := true, laidKinds := [.data, .data], laidTests := true, laidLooks := .later }
def RuleNearestCardSaid : Prop := Claim7.holds Tryz.pinned (.plain (OpenSpec.ofChange ruleNearestSpec)) ruleNearestCard

/-- THE TIED CARD OF 'abacuslaw10.RoundPacks'. -/
def roundPacksCard : Claim7 := { stood := { row := roundPacksRow, standIns := [], harness := (true, "7baa41e3f9a0e0cbcd2ab794102ed9129cff8907ce19e6b7f0bd13a27da82cc2"), looks := true }, kinds := [], alts := [], laidByText := true, laidKinds := [.data], laidTests := true, laidLooks := .later }
def RoundPacksCardSaid : Prop := Claim7.holds Tryz.pinned (.plain (OpenSpec.ofChange roundPacksSpec)) roundPacksCard

/-- THE TIED CARD OF 'abacuslaw10.RoundRule'. -/
def roundRuleCard : Claim7 := { stood := { row := roundRuleRow, standIns := [], harness := (true, "7baa41e3f9a0e0cbcd2ab794102ed9129cff8907ce19e6b7f0bd13a27da82cc2"), looks := true }, kinds := [], alts := [], laidByText := true, laidKinds := [.data, .data], laidTests := true, laidLooks := .later }
def RoundRuleCardSaid : Prop := Claim7.holds Tryz.pinned (.plain (OpenSpec.ofChange roundRuleSpec)) roundRuleCard

/-- THE TIED CARD OF 'abacuslaw11.AddSums'. -/
def addSumsCard : Claim7 := { stood := { row := addSumsRow, standIns := [], harness := (true, "7baa41e3f9a0e0cbcd2ab794102ed9129cff8907ce19e6b7f0bd13a27da82cc2"), looks := true }, kinds := [], alts := [], laidByText := true, laidKinds := [.data], laidTests := true, laidLooks := .later }
def AddSumsCardSaid : Prop := Claim7.holds Tryz.pinned (.plain (OpenSpec.ofChange addSumsSpec)) addSumsCard

/-- THE TIED CARD OF 'abacuslaw11.AddLists'. -/
def addListsCard : Claim7 := { stood := { row := addListsRow, standIns := [], harness := (true, "7baa41e3f9a0e0cbcd2ab794102ed9129cff8907ce19e6b7f0bd13a27da82cc2"), looks := true }, kinds := [], alts := [], laidByText := true, laidKinds := [.data], laidTests := true, laidLooks := .later }
def AddListsCardSaid : Prop := Claim7.holds Tryz.pinned (.plain (OpenSpec.ofChange addListsSpec)) addListsCard

/-- THE TIED CARD OF 'abacuslaw11.AddNear'. -/
def addNearCard : Claim7 := { stood := { row := addNearRow, standIns := [], harness := (true, "7baa41e3f9a0e0cbcd2ab794102ed9129cff8907ce19e6b7f0bd13a27da82cc2"), looks := true }, kinds := [], alts := [], laidByText := true, laidKinds := [.data], laidTests := true, laidLooks := .later }
def AddNearCardSaid : Prop := Claim7.holds Tryz.pinned (.plain (OpenSpec.ofChange addNearSpec)) addNearCard

/-- THE SECOND FORM's CARD OF 'abacuslaw08.KindTexts'. -/
def kindTextsUptoCard : Claim7 := { stood := { row := kindTextsUptoRow, standIns := [], harness := (true, "7baa41e3f9a0e0cbcd2ab794102ed9129cff8907ce19e6b7f0bd13a27da82cc2"), looks := true }, kinds := [], alts := [], laidByText := true, laidKinds := [.data, .data, .data, .sentinel, .sentinel, .data], laidTests := true, laidLooks := .later }
def KindTextsUptoCardSaid : Prop := Claim7.holds Tryz.pinned (.plain (OpenSpec.upto kindTextsSpec)) kindTextsUptoCard

/-- THE SECOND FORM's CARD OF 'abacuslaw09.RuleNearest'. -/
def ruleNearestUptoCard : Claim7 := { stood := { row := ruleNearestUptoRow, standIns := [], harness := (true, "7baa41e3f9a0e0cbcd2ab794102ed9129cff8907ce19e6b7f0bd13a27da82cc2"), looks := true }, kinds := [], alts := [], laidByText := true, laidKinds := [.data, .data], laidTests := true, laidLooks := .later }
def RuleNearestUptoCardSaid : Prop := Claim7.holds Tryz.pinned (.plain (OpenSpec.upto ruleNearestSpec)) ruleNearestUptoCard

/-- THE SECOND FORM's CARD OF 'abacuslaw10.RoundPacks'. -/
def roundPacksUptoCard : Claim7 := { stood := { row := roundPacksUptoRow, standIns := [], harness := (true, "7baa41e3f9a0e0cbcd2ab794102ed9129cff8907ce19e6b7f0bd13a27da82cc2"), looks := true }, kinds := [], alts := [], laidByText := true, laidKinds := [.data], laidTests := true, laidLooks := .later }
def RoundPacksUptoCardSaid : Prop := Claim7.holds Tryz.pinned (.plain (OpenSpec.upto roundPacksSpec)) roundPacksUptoCard

/-- THE SECOND FORM's CARD OF 'abacuslaw10.RoundRule'. -/
def roundRuleUptoCard : Claim7 := { stood := { row := roundRuleUptoRow, standIns := [], harness := (true, "7baa41e3f9a0e0cbcd2ab794102ed9129cff8907ce19e6b7f0bd13a27da82cc2"), looks := true }, kinds := [], alts := [], laidByText := true, laidKinds := [.data, .data], laidTests := true, laidLooks := .later }
def RoundRuleUptoCardSaid : Prop := Claim7.holds Tryz.pinned (.plain (OpenSpec.upto roundRuleSpec)) roundRuleUptoCard

/-- THE SECOND FORM's CARD OF 'abacuslaw11.AddSums'. -/
def addSumsUptoCard : Claim7 := { stood := { row := addSumsUptoRow, standIns := [], harness := (true, "7baa41e3f9a0e0cbcd2ab794102ed9129cff8907ce19e6b7f0bd13a27da82cc2"), looks := true }, kinds := [], alts := [], laidByText := true, laidKinds := [.data], laidTests := true, laidLooks := .later }
def AddSumsUptoCardSaid : Prop := Claim7.holds Tryz.pinned (.plain (OpenSpec.upto addSumsSpec)) addSumsUptoCard

/-- THE SECOND FORM's CARD OF 'abacuslaw11.AddLists'. -/
def addListsUptoCard : Claim7 := { stood := { row := addListsUptoRow, standIns := [], harness := (true, "7baa41e3f9a0e0cbcd2ab794102ed9129cff8907ce19e6b7f0bd13a27da82cc2"), looks := true }, kinds := [], alts := [], laidByText := true, laidKinds := [.data], laidTests := true, laidLooks := .later }
def AddListsUptoCardSaid : Prop := Claim7.holds Tryz.pinned (.plain (OpenSpec.upto addListsSpec)) addListsUptoCard

/-- THE SECOND FORM's CARD OF 'abacuslaw11.AddNear'. -/
def addNearUptoCard : Claim7 := { stood := { row := addNearUptoRow, standIns := [], harness := (true, "7baa41e3f9a0e0cbcd2ab794102ed9129cff8907ce19e6b7f0bd13a27da82cc2"), looks := true }, kinds := [], alts := [], laidByText := true, laidKinds := [.data], laidTests := true, laidLooks := .later }
def AddNearUptoCardSaid : Prop := Claim7.holds Tryz.pinned (.plain (OpenSpec.upto addNearSpec)) addNearUptoCard
end Rows
end Go.Proofs.YtfmmeifipbpbmaaGreatDoor
