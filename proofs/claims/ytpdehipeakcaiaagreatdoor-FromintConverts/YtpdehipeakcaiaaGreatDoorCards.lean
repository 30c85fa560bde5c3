/-
  DERIVED. GIVEN WITH THE SEED: THE CARDS: each row of YtpdehipeakcaiaaGreatDoorRows.lean that lists a variable, with what it lists TIED to the program's text (the seventh form; the later family's looks); each row that meets fmt, with fmt's text TOLD by the authors' own Lean function (tested against real Go, not proved from fmt's source: count such statements apart). THE CARD IS WHAT COUNTS. Prove the row's statement (the work); the ties are given (YtpdehipeakcaiaaGreatDoorTie.lean); close each card by the builder's one call (the guide's Derived/Test/ToyasCard.lean, 'card_holds'). Laid BY PROGRAM, IN A SANDBOX (cutbox-door.mjs). By AI agents, Wed Nov 11 2026. No macro, syntax, notation, axiom, sorry.
-/
import Derived.Test.YtpdehipeakcaiaaGreatDoorRows
import GoSem.ClaimSeven
namespace Go.Proofs.YtpdehipeakcaiaaGreatDoor
namespace Rows

/-- THE TIED CARD OF 'abacuslaw20.FromintConverts'. -/
def fromintConvertsCard : Claim7 := { stood := { row := fromintConvertsRow, standIns := [], harness := (true, "7d5fc86ba4c7497c78ebd771bc677bac2ea4891986261470269898861e8805a9"), looks := false }, kinds := [], alts := [], laidByText := true, laidKinds := [.data], laidTests := true, laidLooks := .later }
def FromintConvertsCardSaid : Prop := Claim7.holds Tryz.pinned (.plain (OpenSpec.ofChange fromintConvertsSpec)) fromintConvertsCard

/-- THE SECOND FORM's CARD OF 'abacuslaw20.FromintConverts'. -/
def fromintConvertsUptoCard : Claim7 := { stood := { row := fromintConvertsUptoRow, standIns := [], harness := (true, "7d5fc86ba4c7497c78ebd771bc677bac2ea4891986261470269898861e8805a9"), looks := false }, kinds := [], alts := [], laidByText := true, laidKinds := [.data], laidTests := true, laidLooks := .later }
def FromintConvertsUptoCardSaid : Prop := Claim7.holds Tryz.pinned (.plain (OpenSpec.upto fromintConvertsSpec)) fromintConvertsUptoCard
end Rows
end Go.Proofs.YtpdehipeakcaiaaGreatDoor
