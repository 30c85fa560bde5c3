/-
  DERIVED. GIVEN WITH THE SEED: THE CARDS: each row of YtlpelcfaakfmiaaDoorRows.lean that lists a variable, with what it lists TIED to the program's text (the seventh form; the later family's looks); each row that meets fmt, with fmt's text TOLD by the authors' own Lean function (tested against real Go, not proved from fmt's source: count such statements apart). THE CARD IS WHAT COUNTS. Prove the row's statement (the work); the ties are given (YtlpelcfaakfmiaaDoorTie.lean); close each card by the builder's one call (the guide's Derived/Test/ToyasCard.lean, 'card_holds'). Laid BY PROGRAM, IN A SANDBOX (cutbox-door.mjs). By AI agents, Wed Nov 11 2026. No macro, syntax, notation, axiom, sorry.
-/
import Derived.Test.YtlpelcfaakfmiaaDoorRows
import GoSem.ClaimSeven
namespace Go.Proofs.YtlpelcfaakfmiaaDoor
namespace Rows

/-- THE TIED CARD OF 'abacuslaw19.TointWhole'. -/
def tointWholeCard : Claim7 := { stood := { row := tointWholeRow, standIns := [], harness := (true, "0727b7e3b6521da1a417bb0cf27ae803d19601800b12c11a384f8e0f4b355e83"), looks := false }, kinds := [], alts := [], laidByText := true, laidKinds := [.data, .data, .data], laidTests := true, laidLooks := .later }
def TointWholeCardSaid : Prop := Claim7.holds Tryd.pinned (.plain (OpenSpec.ofChange tointWholeSpec)) tointWholeCard

/-- THE SECOND FORM's CARD OF 'abacuslaw19.TointWhole'. -/
def tointWholeUptoCard : Claim7 := { stood := { row := tointWholeUptoRow, standIns := [], harness := (true, "0727b7e3b6521da1a417bb0cf27ae803d19601800b12c11a384f8e0f4b355e83"), looks := false }, kinds := [], alts := [], laidByText := true, laidKinds := [.data, .data, .data], laidTests := true, laidLooks := .later }
def TointWholeUptoCardSaid : Prop := Claim7.holds Tryd.pinned (.plain (OpenSpec.upto tointWholeSpec)) tointWholeUptoCard
end Rows
end Go.Proofs.YtlpelcfaakfmiaaDoor
