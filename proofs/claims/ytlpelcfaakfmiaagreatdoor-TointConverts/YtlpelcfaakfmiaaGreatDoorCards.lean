/-
  DERIVED. GIVEN WITH THE SEED: THE CARDS: each row of YtlpelcfaakfmiaaGreatDoorRows.lean that lists a variable, with what it lists TIED to the program's text (the seventh form; the later family's looks); each row that meets fmt, with fmt's text TOLD by the authors' own Lean function (tested against real Go, not proved from fmt's source: count such statements apart). THE CARD IS WHAT COUNTS. Prove the row's statement (the work); the ties are given (YtlpelcfaakfmiaaGreatDoorTie.lean); close each card by the builder's one call (the guide's Derived/Test/ToyasCard.lean, 'card_holds'). Laid BY PROGRAM, IN A SANDBOX (cutbox-door.mjs). By AI agents, Wed Nov 11 2026. No macro, syntax, notation, axiom, sorry.
-/
import Derived.Test.YtlpelcfaakfmiaaGreatDoorRows
import GoSem.ClaimSeven
namespace Go.Proofs.YtlpelcfaakfmiaaGreatDoor
namespace Rows

/-- THE TIED CARD OF 'abacuslaw19.TointConverts'. -/
def tointConvertsCard : Claim7 := { stood := { row := tointConvertsRow, standIns := [], harness := (true, "f60c391030288327e55e660a1e0ea6e6d303658d1a89b50c15825258217a0068"), looks := false }, kinds := [], alts := [], laidByText := true, laidKinds := [.data, .data, .data], laidTests := true, laidLooks := .later }
def TointConvertsCardSaid : Prop := Claim7.holds Tryz.pinned (.plain (OpenSpec.ofChange tointConvertsSpec)) tointConvertsCard

/-- THE TIED CARD OF 'abacuslaw19.TointEnds'. -/
def tointEndsCard : Claim7 := { stood := { row := tointEndsRow, standIns := [], harness := (true, "f60c391030288327e55e660a1e0ea6e6d303658d1a89b50c15825258217a0068"), looks := false }, kinds := [], alts := [], laidByText := true, laidKinds := [.data, .data, .data], laidTests := true, laidLooks := .later }
def TointEndsCardSaid : Prop := Claim7.holds Tryz.pinned (.plain (OpenSpec.ofChange tointEndsSpec)) tointEndsCard

/-- THE SECOND FORM's CARD OF 'abacuslaw19.TointConverts'. -/
def tointConvertsUptoCard : Claim7 := { stood := { row := tointConvertsUptoRow, standIns := [], harness := (true, "f60c391030288327e55e660a1e0ea6e6d303658d1a89b50c15825258217a0068"), looks := false }, kinds := [], alts := [], laidByText := true, laidKinds := [.data, .data, .data], laidTests := true, laidLooks := .later }
def TointConvertsUptoCardSaid : Prop := Claim7.holds Tryz.pinned (.plain (OpenSpec.upto tointConvertsSpec)) tointConvertsUptoCard

/-- THE SECOND FORM's CARD OF 'abacuslaw19.TointEnds'. -/
def tointEndsUptoCard : Claim7 := { stood := { row := tointEndsUptoRow, standIns := [], harness := (true, "f60c391030288327e55e660a1e0ea6e6d303658d1a89b50c15825258217a0068"), looks := false }, kinds := [], alts := [], laidByText := true, laidKinds := [.data, .data, .data], laidTests := true, laidLooks := .later }
def TointEndsUptoCardSaid : Prop := Claim7.holds Tryz.pinned (.plain (OpenSpec.upto tointEndsSpec)) tointEndsUptoCard
end Rows
end Go.Proofs.YtlpelcfaakfmiaaGreatDoor
