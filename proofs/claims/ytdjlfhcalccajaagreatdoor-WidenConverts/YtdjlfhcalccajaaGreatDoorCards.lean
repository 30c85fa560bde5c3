/-
  DERIVED. GIVEN WITH THE SEED: THE CARDS: each row of YtdjlfhcalccajaaGreatDoorRows.lean that lists a variable, with what it lists TIED to the program's text (the seventh form; the later family's looks); each row that meets fmt, with fmt's text TOLD by the authors' own Lean function (tested against real Go, not proved from fmt's source: count such statements apart). THE CARD IS WHAT COUNTS. Prove the row's statement (the work); the ties are given (YtdjlfhcalccajaaGreatDoorTie.lean); close each card by the builder's one call (the guide's Derived/Test/ToyasCard.lean, 'card_holds'). Laid BY PROGRAM, IN A SANDBOX (cutbox-door.mjs). By AI agents, Wed Nov 11 2026. No macro, syntax, notation, axiom, sorry.
-/
import Derived.Test.YtdjlfhcalccajaaGreatDoorRows
import GoSem.ClaimSeven
namespace Go.Proofs.YtdjlfhcalccajaaGreatDoor
namespace Rows

/-- THE TIED CARD OF 'abacuslaw18.WidenConverts'. -/
def widenConvertsCard : Claim7 := { stood := { row := widenConvertsRow, standIns := [], harness := (true, "5b0efea9dcb796c665cbce80f4e97f367a66e5a8c1c29833f7068a6a645bd076"), looks := false }, kinds := [], alts := [], laidByText := true, laidKinds := [.data], laidTests := true, laidLooks := .later }
def WidenConvertsCardSaid : Prop := Claim7.holds Tryz.pinned (.plain (OpenSpec.ofChange widenConvertsSpec)) widenConvertsCard

/-- THE TIED CARD OF 'abacuslaw18.WidenFits'. -/
def widenFitsCard : Claim7 := { stood := { row := widenFitsRow, standIns := [], harness := (true, "5b0efea9dcb796c665cbce80f4e97f367a66e5a8c1c29833f7068a6a645bd076"), looks := false }, kinds := [], alts := [], laidByText := true, laidKinds := [.data], laidTests := true, laidLooks := .later }
def WidenFitsCardSaid : Prop := Claim7.holds Tryz.pinned (.plain (OpenSpec.ofChange widenFitsSpec)) widenFitsCard

/-- THE SECOND FORM's CARD OF 'abacuslaw18.WidenConverts'. -/
def widenConvertsUptoCard : Claim7 := { stood := { row := widenConvertsUptoRow, standIns := [], harness := (true, "5b0efea9dcb796c665cbce80f4e97f367a66e5a8c1c29833f7068a6a645bd076"), looks := false }, kinds := [], alts := [], laidByText := true, laidKinds := [.data], laidTests := true, laidLooks := .later }
def WidenConvertsUptoCardSaid : Prop := Claim7.holds Tryz.pinned (.plain (OpenSpec.upto widenConvertsSpec)) widenConvertsUptoCard

/-- THE SECOND FORM's CARD OF 'abacuslaw18.WidenFits'. -/
def widenFitsUptoCard : Claim7 := { stood := { row := widenFitsUptoRow, standIns := [], harness := (true, "5b0efea9dcb796c665cbce80f4e97f367a66e5a8c1c29833f7068a6a645bd076"), looks := false }, kinds := [], alts := [], laidByText := true, laidKinds := [.data], laidTests := true, laidLooks := .later }
def WidenFitsUptoCardSaid : Prop := Claim7.holds Tryz.pinned (.plain (OpenSpec.upto widenFitsSpec)) widenFitsUptoCard
end Rows
end Go.Proofs.YtdjlfhcalccajaaGreatDoor
