/-
  DERIVED. GIVEN WITH THE SEED: THE CARDS: each row of YtdjlfhcalccajaaDoorRows.lean that lists a variable, with what it lists TIED to the program's text (the seventh form; the later family's looks); each row that meets fmt, with fmt's text TOLD by the authors' own Lean function (tested against real Go, not proved from fmt's source: count such statements apart). THE CARD IS WHAT COUNTS. Prove the row's statement (the work); the ties are given (YtdjlfhcalccajaaDoorTie.lean); close each card by the builder's one call (the guide's Derived/Test/ToyasCard.lean, 'card_holds'). Laid BY PROGRAM, IN A SANDBOX (cutbox-door.mjs). By AI agents, Wed Nov 11 2026. No macro, syntax, notation, axiom, sorry.
-/
import Derived.Test.YtdjlfhcalccajaaDoorRows
import GoSem.ClaimSeven
namespace Go.Proofs.YtdjlfhcalccajaaDoor
namespace Rows

/-- THE TIED CARD OF 'abacuslaw18.WidenBack'. -/
def widenBackCard : Claim7 := { stood := { row := widenBackRow, standIns := [], harness := (true, "038c1a985c19e3757c5cbecd2d8a532664f74bc5e7cdab455c4f449572571f82"), looks := false }, kinds := [], alts := [], laidByText := true, laidKinds := [.data], laidTests := true, laidLooks := .later }
def WidenBackCardSaid : Prop := Claim7.holds Tryd.pinned (.plain (OpenSpec.ofChange widenBackSpec)) widenBackCard

/-- THE SECOND FORM's CARD OF 'abacuslaw18.WidenBack'. -/
def widenBackUptoCard : Claim7 := { stood := { row := widenBackUptoRow, standIns := [], harness := (true, "038c1a985c19e3757c5cbecd2d8a532664f74bc5e7cdab455c4f449572571f82"), looks := false }, kinds := [], alts := [], laidByText := true, laidKinds := [.data], laidTests := true, laidLooks := .later }
def WidenBackUptoCardSaid : Prop := Claim7.holds Tryd.pinned (.plain (OpenSpec.upto widenBackSpec)) widenBackUptoCard
end Rows
end Go.Proofs.YtdjlfhcalccajaaDoor
