/-
  DERIVED. GIVEN WITH THE SEED: THE CARDS: each row of YtknkkagapcigfaaGreatDoorRows.lean that lists a variable, with what it lists TIED to the program's text (the seventh form; the later family's looks); each row that meets fmt, with fmt's text TOLD by the authors' own Lean function (tested against real Go, not proved from fmt's source: count such statements apart). THE CARD IS WHAT COUNTS. Prove the row's statement (the work); the ties are given (YtknkkagapcigfaaGreatDoorTie.lean); close each card by the builder's one call (the guide's Derived/Test/ToyasCard.lean, 'card_holds'). Laid BY PROGRAM, IN A SANDBOX (cutbox-door.mjs). By AI agents, Wed Nov 11 2026. No macro, syntax, notation, axiom, sorry.
-/
import Derived.Test.YtknkkagapcigfaaGreatDoorRows
import GoSem.ClaimSeven
namespace Go.Proofs.YtknkkagapcigfaaGreatDoor
namespace Rows

/-- THE TIED CARD OF 'abacuslaw06.ExactSums'. -/
def exactSumsCard : Claim7 := { stood := { row := exactSumsRow, standIns := [], harness := (true, "fd2b6211fff8ccb16e29b95d993efcfae30cb9d8df5b9734c1cda677ec59656e"), looks := false }, kinds := [], alts := [], laidByText := true, laidKinds := [.data], laidTests := true, laidLooks := .later }
def ExactSumsCardSaid : Prop := Claim7.holds Tryz.pinned (.plain (OpenSpec.ofChange exactSumsSpec)) exactSumsCard

/-- THE SECOND FORM's CARD OF 'abacuslaw06.ExactSums'. -/
def exactSumsUptoCard : Claim7 := { stood := { row := exactSumsUptoRow, standIns := [], harness := (true, "fd2b6211fff8ccb16e29b95d993efcfae30cb9d8df5b9734c1cda677ec59656e"), looks := false }, kinds := [], alts := [], laidByText := true, laidKinds := [.data], laidTests := true, laidLooks := .later }
def ExactSumsUptoCardSaid : Prop := Claim7.holds Tryz.pinned (.plain (OpenSpec.upto exactSumsSpec)) exactSumsUptoCard
end Rows
end Go.Proofs.YtknkkagapcigfaaGreatDoor
