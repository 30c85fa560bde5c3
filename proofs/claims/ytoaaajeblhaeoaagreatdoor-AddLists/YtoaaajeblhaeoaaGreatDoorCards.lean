/-
  DERIVED. GIVEN WITH THE SEED: THE CARDS: each row of YtoaaajeblhaeoaaGreatDoorRows.lean that lists a variable, with what it lists TIED to the program's text (the seventh form; the later family's looks); each row that meets fmt, with fmt's text TOLD by the authors' own Lean function (tested against real Go, not proved from fmt's source: count such statements apart). THE CARD IS WHAT COUNTS. Prove the row's statement (the work); the ties are given (YtoaaajeblhaeoaaGreatDoorTie.lean); close each card by the builder's one call (the guide's Derived/Test/ToyasCard.lean, 'card_holds'). Laid BY PROGRAM, IN A SANDBOX (cutbox-door.mjs). By AI agents, Wed Nov 11 2026. No macro, syntax, notation, axiom, sorry.
-/
import Derived.Test.YtoaaajeblhaeoaaGreatDoorRows
import GoSem.ClaimSeven
namespace Go.Proofs.YtoaaajeblhaeoaaGreatDoor
namespace Rows

/-- THE TIED CARD OF 'abacuslaw08.KindTexts'. -/
def kindTextsCard : Claim7 := { stood := { row := kindTextsRow, standIns := [], harness := (true, "d0a81ac6fe1fc81a32ead08cd62c5b59191d01ba543c4da18876f891ab06cc94"), looks := true }, kinds := [], alts := [], laidByText := true, laidKinds := [.data, .data, .data, .sentinel, .sentinel, .data], laidTests := true, laidLooks := .later }
def KindTextsCardSaid : Prop := Claim7.holds Tryz.pinned (.plain (OpenSpec.ofChange kindTextsSpec)) kindTextsCard

/-- THE TIED CARD OF 'abacuslaw09.RuleNearest'. -/
def ruleNearestCard : Claim7 := { stood := { row := ruleNearestRow, standIns := [], harness := (true, "d0a81ac6fe1fc81a32ead08cd62c5b59191d01ba543c4da18876f891ab06cc94"), looks := true }, kinds := [], alts := [], laidByText := true, laidKinds := [.data, .data], laidTests := true, laidLooks := .later }
def RuleNearestCardSaid : Prop := Claim7.holds Tryz.pinned (.plain (OpenSpec.ofChange ruleNearestSpec)) ruleNearestCard

/-- THE TIED CARD OF 'abacuslaw11.AddSums'. -/
def addSumsCard : Claim7 := { stood := { row := addSumsRow, standIns := [], harness := (true, "d0a81ac6fe1fc81a32ead08cd62c5b59191d01ba543c4da18876f891ab06cc94"), looks := true }, kinds := [], alts := [], laidByText := true, laidKinds := [.data], laidTests := true, laidLooks := .later }
def AddSumsCardSaid : Prop := Claim7.holds Tryz.pinned (.plain (OpenSpec.ofChange addSumsSpec)) addSumsCard

/-- THE TIED CARD OF 'abacuslaw11.AddLists'. -/
def addListsCard : Claim7 := { stood := { row := addListsRow, standIns := [], harness := (true, "d0a81ac6fe1fc81a32ead08cd62c5b59191d01ba543c4da18876f891ab06cc94"), looks := true }, kinds := [], alts := [], laidByText := true, laidKinds := [.data], laidTests := true, laidLooks := .later }
def AddListsCardSaid : Prop := Claim7.holds Tryz.pinned (.plain (OpenSpec.ofChange addListsSpec)) addListsCard

/-- THE TIED CARD OF 'abacuslaw11.AddNear'. -/
def addNearCard : Claim7 := { stood := { row := addNearRow, standIns := [], harness := (true, "d0a81ac6fe1fc81a32ead08cd62c5b59191d01ba543c4da18876f891ab06cc94"), looks := true }, kinds := [], alts := [], laidByText := true, laidKinds := [.data], laidTests := true, laidLooks := .later }
def AddNearCardSaid : Prop := Claim7.holds Tryz.pinned (.plain (OpenSpec.ofChange addNearSpec)) addNearCard

/-- THE TIED CARD OF 'abacuslaw12.MulProducts'. -/
def mulProductsCard : Claim7 := { stood := { row := mulProductsRow, standIns := [], harness := (true, "d0a81ac6fe1fc81a32ead08cd62c5b59191d01ba543c4da18876f891ab06cc94"), looks := true }, kinds := [], alts := [], laidByText := true, laidKinds := [.data], laidTests := true, laidLooks := .later }
def MulProductsCardSaid : Prop := Claim7.holds Tryz.pinned (.plain (OpenSpec.ofChange mulProductsSpec)) mulProductsCard

/-- THE TIED CARD OF 'abacuslaw12.MulLists'. -/
def mulListsCard : Claim7 := { stood := { row := mulListsRow, standIns := [], harness := (true, "d0a81ac6fe1fc81a32ead08cd62c5b59191d01ba543c4da18876f891ab06cc94"), looks := true }, kinds := [], alts := [], laidByText := true, laidKinds := [.data], laidTests := true, laidLooks := .later }
def MulListsCardSaid : Prop := Claim7.holds Tryz.pinned (.plain (OpenSpec.ofChange mulListsSpec)) mulListsCard

/-- THE SECOND FORM's CARD OF 'abacuslaw08.KindTexts'. -/
def kindTextsUptoCard : Claim7 := { stood := { row := kindTextsUptoRow, standIns := [], harness := (true, "d0a81ac6fe1fc81a32ead08cd62c5b59191d01ba543c4da18876f891ab06cc94"), looks := true }, kinds := [], alts := [], laidByText := true, laidKinds := [.data, .data, .data, .sentinel, .sentinel, .data], laidTests := true, laidLooks := .later }
def KindTextsUptoCardSaid : Prop := Claim7.holds Tryz.pinned (.plain (OpenSpec.upto kindTextsSpec)) kindTextsUptoCard

/-- THE SECOND FORM's CARD OF 'abacuslaw09.RuleNearest'. -/
def ruleNearestUptoCard : Claim7 := { stood := { row := ruleNearestUptoRow, standIns := [], harness := (true, "d0a81ac6fe1fc81a32ead08cd62c5b59191d01ba543c4da18876f891ab06cc94"), looks := true }, kinds := [], alts := [], laidByText := true, laidKinds := [.data, .data], laidTests := true, laidLooks := .later }
def RuleNearestUptoCardSaid : Prop := Claim7.holds Tryz.pinned (.plain (OpenSpec.upto ruleNearestSpec)) ruleNearestUptoCard

/-- THE SECOND FORM's CARD OF 'abacuslaw11.AddSums'. -/
def addSumsUptoCard : Claim7 := { stood := { row := addSumsUptoRow, standIns := [], harness := (true, "d0a81ac6fe1fc81a32ead08cd62c5b59191d01ba543c4da18876f891ab06cc94"), looks := true }, kinds := [], alts := [], laidByText := true, laidKinds := [.data], laidTests := true, laidLooks := .later }
def AddSumsUptoCardSaid : Prop := Claim7.holds Tryz.pinned (.plain (OpenSpec.upto addSumsSpec)) addSumsUptoCard

/-- THE SECOND FORM's CARD OF 'abacuslaw11.AddLists'. -/
def addListsUptoCard : Claim7 := { stood := { row := addListsUptoRow, standIns := [], harness := (true, "d0a81ac6fe1fc81a32ead08cd62c5b59191d01ba543c4da18876f891ab06cc94"), looks := true }, kinds := [], alts := [], laidByText := true, laidKinds := [.data], laidTests := true, laidLooks := .later }
def AddListsUptoCardSaid : Prop := Claim7.holds Tryz.pinned (.plain (OpenSpec.upto addListsSpec)) addListsUptoCard

/-- THE SECOND FORM's CARD OF 'abacuslaw11.AddNear'. -/
def addNearUptoCard : Claim7 := { stood := { row := addNearUptoRow, standIns := [], harness := (true, "d0a81ac6fe1fc81a32ead08cd62c5b59191d01ba543c4da18876f891ab06cc94"), looks := true }, kinds := [], alts := [], laidByText := true, laidKinds := [.data], laidTests := true, laidLooks := .later }
def AddNearUptoCardSaid : Prop := Claim7.holds Tryz.pinned (.plain (OpenSpec.upto addNearSpec)) addNearUptoCard

/-- THE SECOND FORM's CARD OF 'abacuslaw12.MulProducts'. -/
def mulProductsUptoCard : Claim7 := { stood := { row := mulProductsUptoRow, standIns := [], harness := (true, "d0a81ac6fe1fc81a32ead08cd62c5b59191d01ba543c4da18876f891ab06cc94"), looks := true }, kinds := [], alts := [], laidByText := true, laidKinds := [.data], laidTests := true, laidLooks := .later }
def MulProductsUptoCardSaid : Prop := Claim7.holds Tryz.pinned (.plain (OpenSpec.upto mulProductsSpec)) mulProductsUptoCard

/-- THE SECOND FORM's CARD OF 'abacuslaw12.MulLists'. -/
def mulListsUptoCard : Claim7 := { stood := { row := mulListsUptoRow, standIns := [], harness := (true, "d0a81ac6fe1fc81a32ead08cd62c5b59191d01ba543c4da18876f891ab06cc94"), looks := true }, kinds := [], alts := [], laidByText := true, laidKinds := [.data], laidTests := true, laidLooks := .later }
def MulListsUptoCardSaid : Prop := Claim7.holds Tryz.pinned (.plain (OpenSpec.upto mulListsSpec)) mulListsUptoCard
end Rows
end Go.Proofs.YtoaaajeblhaeoaaGreatDoor
