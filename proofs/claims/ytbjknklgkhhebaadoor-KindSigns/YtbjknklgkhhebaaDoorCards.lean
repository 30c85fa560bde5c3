/-
  DERIVED. GIVEN WITH THE SEED: THE CARDS: each row of YtbjknklgkhhebaaDoorRows.lean that lists a variable, with what it lists TIED to the program's text (the seventh form; the later family's looks); each row that meets fmt, with fmt's text TOLD by the authors' own Lean function (tested against real Go, not proved from fmt's source: count such statements apart). THE CARD IS WHAT COUNTS. Prove the row's statement (the work); the ties are given (YtbjknklgkhhebaaDoorTie.lean); close each card by the builder's one call (the guide's Derived/Test/ToyasCard.lean, 'card_holds'). Laid BY PROGRAM, IN A SANDBOX (cutbox-door.mjs). By AI agents, Wed Nov 11 2026. No macro, syntax, notation, axiom, sorry.
-/
import Derived.Test.YtbjknklgkhhebaaDoorRows
import GoSem.ClaimSeven
namespace Go.Proofs.YtbjknklgkhhebaaDoor
namespace Rows

/-- THE TIED CARD OF 'abacuslaw08.KindParts'. -/
def kindPartsCard : Claim7 := { stood := { row := kindPartsRow, standIns := [], harness := (true, "4e6a352ed2de10235c42a902c872049ec0469baeafd43dcfeee6e9257fa62303"), looks := false }, kinds := [], alts := [], laidByText := true, laidKinds := [.data], laidTests := true, laidLooks := .later }
def KindPartsCardSaid : Prop := Claim7.holds Tryd.pinned (.plain (OpenSpec.ofChange kindPartsSpec)) kindPartsCard

/-- THE TIED CARD OF 'abacuslaw08.KindSigns'. -/
def kindSignsCard : Claim7 := { stood := { row := kindSignsRow, standIns := [], harness := (true, "4e6a352ed2de10235c42a902c872049ec0469baeafd43dcfeee6e9257fa62303"), looks := false }, kinds := [], alts := [], laidByText := true, laidKinds := [.data], laidTests := true, laidLooks := .later }
def KindSignsCardSaid : Prop := Claim7.holds Tryd.pinned (.plain (OpenSpec.ofChange kindSignsSpec)) kindSignsCard

/-- THE SECOND FORM's CARD OF 'abacuslaw08.KindParts'. -/
def kindPartsUptoCard : Claim7 := { stood := { row := kindPartsUptoRow, standIns := [], harness := (true, "4e6a352ed2de10235c42a902c872049ec0469baeafd43dcfeee6e9257fa62303"), looks := false }, kinds := [], alts := [], laidByText := true, laidKinds := [.data], laidTests := true, laidLooks := .later }
def KindPartsUptoCardSaid : Prop := Claim7.holds Tryd.pinned (.plain (OpenSpec.upto kindPartsSpec)) kindPartsUptoCard

/-- THE SECOND FORM's CARD OF 'abacuslaw08.KindSigns'. -/
def kindSignsUptoCard : Claim7 := { stood := { row := kindSignsUptoRow, standIns := [], harness := (true, "4e6a352ed2de10235c42a902c872049ec0469baeafd43dcfeee6e9257fa62303"), looks := false }, kinds := [], alts := [], laidByText := true, laidKinds := [.data], laidTests := true, laidLooks := .later }
def KindSignsUptoCardSaid : Prop := Claim7.holds Tryd.pinned (.plain (OpenSpec.upto kindSignsSpec)) kindSignsUptoCard
end Rows
end Go.Proofs.YtbjknklgkhhebaaDoor
