/-
  DERIVED. GIVEN WITH THE SEED: THE CARDS: each row of YtakmlgcnfbiagaaDoorRows.lean that lists a variable, with what it lists TIED to the program's text (the seventh form; the later family's looks); each row that meets fmt, with fmt's text TOLD by the authors' own Lean function (tested against real Go, not proved from fmt's source: count such statements apart). THE CARD IS WHAT COUNTS. Prove the row's statement (the work); the ties are given (YtakmlgcnfbiagaaDoorTie.lean); close each card by the builder's one call (the guide's Derived/Test/ToyasCard.lean, 'card_holds'). Laid BY PROGRAM, IN A SANDBOX (cutbox-door.mjs). By AI agents, Wed Nov 11 2026. No macro, syntax, notation, axiom, sorry.
-/
import Derived.Test.YtakmlgcnfbiagaaDoorRows
import GoSem.ClaimSeven
namespace Go.Proofs.YtakmlgcnfbiagaaDoor
namespace Rows

/-- THE TIED CARD OF 'abacuslaw22.BoxReads'. -/
def boxReadsCard : Claim7 := { stood := { row := boxReadsRow, standIns := [], harness := (true, "3ce383b45b3f552e9b8325d228c3c96d3f9ac655d16250e875403aff7d21d05f"), looks := false }, kinds := [], alts := [], laidByText := true, laidKinds := [.data, .data], laidTests := true, laidLooks := .later }
def BoxReadsCardSaid : Prop := Claim7.holds Tryd.pinned (.plain (OpenSpec.ofChange boxReadsSpec)) boxReadsCard

/-- THE TIED CARD OF 'abacuslaw22.BoxForms'. -/
def boxFormsCard : Claim7 := { stood := { row := boxFormsRow, standIns := [], harness := (true, "3ce383b45b3f552e9b8325d228c3c96d3f9ac655d16250e875403aff7d21d05f"), looks := false }, kinds := [], alts := [], laidByText := true, laidKinds := [.data, .data], laidTests := true, laidLooks := .later }
def BoxFormsCardSaid : Prop := Claim7.holds Tryd.pinned (.plain (OpenSpec.ofChange boxFormsSpec)) boxFormsCard

/-- THE TIED CARD OF 'abacuslaw22.BoxBack'. -/
def boxBackCard : Claim7 := { stood := { row := boxBackRow, standIns := [], harness := (true, "3ce383b45b3f552e9b8325d228c3c96d3f9ac655d16250e875403aff7d21d05f"), looks := false }, kinds := [], alts := [], laidByText := true, laidKinds := [.data, .data], laidTests := true, laidLooks := .later }
def BoxBackCardSaid : Prop := Claim7.holds Tryd.pinned (.plain (OpenSpec.ofChange boxBackSpec)) boxBackCard

/-- THE TIED CARD OF 'abacuslaw22.BoxWithin'. -/
def boxWithinCard : Claim7 := { stood := { row := boxWithinRow, standIns := [], harness := (true, "3ce383b45b3f552e9b8325d228c3c96d3f9ac655d16250e875403aff7d21d05f"), looks := false }, kinds := [], alts := [], laidByText := true, laidKinds := [.data, .data], laidTests := true, laidLooks := .later }
def BoxWithinCardSaid : Prop := Claim7.holds Tryd.pinned (.plain (OpenSpec.ofChange boxWithinSpec)) boxWithinCard

/-- THE SECOND FORM's CARD OF 'abacuslaw22.BoxReads'. -/
def boxReadsUptoCard : Claim7 := { stood := { row := boxReadsUptoRow, standIns := [], harness := (true, "3ce383b45b3f552e9b8325d228c3c96d3f9ac655d16250e875403aff7d21d05f"), looks := false }, kinds := [], alts := [], laidByText := true, laidKinds := [.data, .data], laidTests := true, laidLooks := .later }
def BoxReadsUptoCardSaid : Prop := Claim7.holds Tryd.pinned (.plain (OpenSpec.upto boxReadsSpec)) boxReadsUptoCard

/-- THE SECOND FORM's CARD OF 'abacuslaw22.BoxForms'. -/
def boxFormsUptoCard : Claim7 := { stood := { row := boxFormsUptoRow, standIns := [], harness := (true, "3ce383b45b3f552e9b8325d228c3c96d3f9ac655d16250e875403aff7d21d05f"), looks := false }, kinds := [], alts := [], laidByText := true, laidKinds := [.data, .data], laidTests := true, laidLooks := .later }
def BoxFormsUptoCardSaid : Prop := Claim7.holds Tryd.pinned (.plain (OpenSpec.upto boxFormsSpec)) boxFormsUptoCard

/-- THE SECOND FORM's CARD OF 'abacuslaw22.BoxBack'. -/
def boxBackUptoCard : Claim7 := { stood := { row := boxBackUptoRow, standIns := [], harness := (true, "3ce383b45b3f552e9b8325d228c3c96d3f9ac655d16250e875403aff7d21d05f"), looks := false }, kinds := [], alts := [], laidByText := true, laidKinds := [.data, .data], laidTests := true, laidLooks := .later }
def BoxBackUptoCardSaid : Prop := Claim7.holds Tryd.pinned (.plain (OpenSpec.upto boxBackSpec)) boxBackUptoCard

/-- THE SECOND FORM's CARD OF 'abacuslaw22.BoxWithin'. -/
def boxWithinUptoCard : Claim7 := { stood := { row := boxWithinUptoRow, standIns := [], harness := (true, "3ce383b45b3f552e9b8325d228c3c96d3f9ac655d16250e875403aff7d21d05f"), looks := false }, kinds := [], alts := [], laidByText := true, laidKinds := [.data, .data], laidTests := true, laidLooks := .later }
def BoxWithinUptoCardSaid : Prop := Claim7.holds Tryd.pinned (.plain (OpenSpec.upto boxWithinSpec)) boxWithinUptoCard
end Rows
end Go.Proofs.YtakmlgcnfbiagaaDoor
