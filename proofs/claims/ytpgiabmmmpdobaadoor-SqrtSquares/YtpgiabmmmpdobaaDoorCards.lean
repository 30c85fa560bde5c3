/-
  DERIVED. GIVEN WITH THE SEED: THE CARDS: each row of YtpgiabmmmpdobaaDoorRows.lean that lists a variable, with what it lists TIED to the program's text (the seventh form; the later family's looks); each row that meets fmt, with fmt's text TOLD by the authors' own Lean function (tested against real Go, not proved from fmt's source: count such statements apart). THE CARD IS WHAT COUNTS. Prove the row's statement (the work); the ties are given (YtpgiabmmmpdobaaDoorTie.lean); close each card by the builder's one call (the guide's Derived/Test/ToyasCard.lean, 'card_holds'). Laid BY PROGRAM, IN A SANDBOX (cutbox-door.mjs). By AI agents, Wed Nov 11 2026. No macro, syntax, notation, axiom, sorry.
-/
import Derived.Test.YtpgiabmmmpdobaaDoorRows
import GoSem.ClaimSeven
namespace Go.Proofs.YtpgiabmmmpdobaaDoor
namespace Rows

/-- THE TIED CARD OF 'abacuslaw13.DivOne'. -/
def divOneCard : Claim7 := { stood := { row := divOneRow, standIns := [], harness := (true, "2d3df77ea83143fa0f00b96408c84b1399b61645fab5fe5b90ab850e070ace17"), looks := false }, kinds := [], alts := [], laidByText := true, laidKinds := [.data], laidTests := true, laidLooks := .later }
def DivOneCardSaid : Prop := Claim7.holds Tryd.pinned (.plain (OpenSpec.ofChange divOneSpec)) divOneCard

/-- THE TIED CARD OF 'abacuslaw14.SqrtSquares'. -/
def sqrtSquaresCard : Claim7 := { stood := { row := sqrtSquaresRow, standIns := [], harness := (true, "2d3df77ea83143fa0f00b96408c84b1399b61645fab5fe5b90ab850e070ace17"), looks := false }, kinds := [], alts := [], laidByText := true, laidKinds := [.data], laidTests := true, laidLooks := .later }
def SqrtSquaresCardSaid : Prop := Claim7.holds Tryd.pinned (.plain (OpenSpec.ofChange sqrtSquaresSpec)) sqrtSquaresCard

/-- THE SECOND FORM's CARD OF 'abacuslaw13.DivOne'. -/
def divOneUptoCard : Claim7 := { stood := { row := divOneUptoRow, standIns := [], harness := (true, "2d3df77ea83143fa0f00b96408c84b1399b61645fab5fe5b90ab850e070ace17"), looks := false }, kinds := [], alts := [], laidByText := true, laidKinds := [.data], laidTests := true, laidLooks := .later }
def DivOneUptoCardSaid : Prop := Claim7.holds Tryd.pinned (.plain (OpenSpec.upto divOneSpec)) divOneUptoCard

/-- THE SECOND FORM's CARD OF 'abacuslaw14.SqrtSquares'. -/
def sqrtSquaresUptoCard : Claim7 := { stood := { row := sqrtSquaresUptoRow, standIns := [], harness := (true, "2d3df77ea83143fa0f00b96408c84b1399b61645fab5fe5b90ab850e070ace17"), looks := false }, kinds := [], alts := [], laidByText := true, laidKinds := [.data], laidTests := true, laidLooks := .later }
def SqrtSquaresUptoCardSaid : Prop := Claim7.holds Tryd.pinned (.plain (OpenSpec.upto sqrtSquaresSpec)) sqrtSquaresUptoCard
end Rows
end Go.Proofs.YtpgiabmmmpdobaaDoor
