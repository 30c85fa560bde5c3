/-
  DERIVED. GIVEN WITH THE SEED: THE CARDS: each row of YtpgiabmmmpdobaaGreatDoorRows.lean that lists a variable, with what it lists TIED to the program's text (the seventh form; the later family's looks); each row that meets fmt, with fmt's text TOLD by the authors' own Lean function (tested against real Go, not proved from fmt's source: count such statements apart). THE CARD IS WHAT COUNTS. Prove the row's statement (the work); the ties are given (YtpgiabmmmpdobaaGreatDoorTie.lean); close each card by the builder's one call (the guide's Derived/Test/ToyasCard.lean, 'card_holds'). Laid BY PROGRAM, IN A SANDBOX (cutbox-door.mjs). By AI agents, Wed Nov 11 2026. No macro, syntax, notation, axiom, sorry.
-/
import Derived.Test.YtpgiabmmmpdobaaGreatDoorRows
import GoSem.ClaimSeven
namespace Go.Proofs.YtpgiabmmmpdobaaGreatDoor
namespace Rows

/-- THE TIED CARD OF 'abacuslaw13.DivQuotients'. -/
def divQuotientsCard : Claim7 := { stood := { row := divQuotientsRow, standIns := [], harness := (true, "825e7a7449db586128b5dd070bd800e876f8d42ba3547b5fe3fe9b63f52e0b1b"), looks := false }, kinds := [], alts := [], laidByText := true, laidKinds := [.data], laidTests := true, laidLooks := .later }
def DivQuotientsCardSaid : Prop := Claim7.holds Tryz.pinned (.plain (OpenSpec.ofChange divQuotientsSpec)) divQuotientsCard

/-- THE TIED CARD OF 'abacuslaw14.SqrtRoots'. -/
def sqrtRootsCard : Claim7 := { stood := { row := sqrtRootsRow, standIns := [], harness := (true, "825e7a7449db586128b5dd070bd800e876f8d42ba3547b5fe3fe9b63f52e0b1b"), looks := false }, kinds := [], alts := [], laidByText := true, laidKinds := [.data], laidTests := true, laidLooks := .later }
def SqrtRootsCardSaid : Prop := Claim7.holds Tryz.pinned (.plain (OpenSpec.ofChange sqrtRootsSpec)) sqrtRootsCard

/-- THE SECOND FORM's CARD OF 'abacuslaw13.DivQuotients'. -/
def divQuotientsUptoCard : Claim7 := { stood := { row := divQuotientsUptoRow, standIns := [], harness := (true, "825e7a7449db586128b5dd070bd800e876f8d42ba3547b5fe3fe9b63f52e0b1b"), looks := false }, kinds := [], alts := [], laidByText := true, laidKinds := [.data], laidTests := true, laidLooks := .later }
def DivQuotientsUptoCardSaid : Prop := Claim7.holds Tryz.pinned (.plain (OpenSpec.upto divQuotientsSpec)) divQuotientsUptoCard

/-- THE SECOND FORM's CARD OF 'abacuslaw14.SqrtRoots'. -/
def sqrtRootsUptoCard : Claim7 := { stood := { row := sqrtRootsUptoRow, standIns := [], harness := (true, "825e7a7449db586128b5dd070bd800e876f8d42ba3547b5fe3fe9b63f52e0b1b"), looks := false }, kinds := [], alts := [], laidByText := true, laidKinds := [.data], laidTests := true, laidLooks := .later }
def SqrtRootsUptoCardSaid : Prop := Claim7.holds Tryz.pinned (.plain (OpenSpec.upto sqrtRootsSpec)) sqrtRootsUptoCard
end Rows
end Go.Proofs.YtpgiabmmmpdobaaGreatDoor
