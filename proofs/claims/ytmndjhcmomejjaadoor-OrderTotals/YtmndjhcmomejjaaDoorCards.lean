/-
  DERIVED. GIVEN WITH THE SEED: THE CARDS: each row of YtmndjhcmomejjaaDoorRows.lean that lists a variable, with what it lists TIED to the program's text (the seventh form; the later family's looks); each row that meets fmt, with fmt's text TOLD by the authors' own Lean function (tested against real Go, not proved from fmt's source: count such statements apart). THE CARD IS WHAT COUNTS. Prove the row's statement (the work); the ties are given (YtmndjhcmomejjaaDoorTie.lean); close each card by the builder's one call (the guide's Derived/Test/ToyasCard.lean, 'card_holds'). Laid BY PROGRAM, IN A SANDBOX (cutbox-door.mjs). By AI agents, Wed Nov 11 2026. No macro, syntax, notation, axiom, sorry.
-/
import Derived.Test.YtmndjhcmomejjaaDoorRows
import GoSem.ClaimSeven
namespace Go.Proofs.YtmndjhcmomejjaaDoor
namespace Rows

/-- THE TIED CARD OF 'abacuslaw16.OrderCompares'. -/
def orderComparesCard : Claim7 := { stood := { row := orderComparesRow, standIns := [], harness := (true, "f4a805116b6eafa27d3b2c74e548b579f3e30c1f5ef76f63f13d17613e6aaee6"), looks := false }, kinds := [], alts := [], laidByText := true, laidKinds := [.data], laidTests := true, laidLooks := .later }
def OrderComparesCardSaid : Prop := Claim7.holds Tryd.pinned (.plain (OpenSpec.ofChange orderComparesSpec)) orderComparesCard

/-- THE TIED CARD OF 'abacuslaw16.OrderExtremes'. -/
def orderExtremesCard : Claim7 := { stood := { row := orderExtremesRow, standIns := [], harness := (true, "f4a805116b6eafa27d3b2c74e548b579f3e30c1f5ef76f63f13d17613e6aaee6"), looks := false }, kinds := [], alts := [], laidByText := true, laidKinds := [.data], laidTests := true, laidLooks := .later }
def OrderExtremesCardSaid : Prop := Claim7.holds Tryd.pinned (.plain (OpenSpec.ofChange orderExtremesSpec)) orderExtremesCard

/-- THE TIED CARD OF 'abacuslaw16.OrderTotals'. -/
def orderTotalsCard : Claim7 := { stood := { row := orderTotalsRow, standIns := [], harness := (true, "f4a805116b6eafa27d3b2c74e548b579f3e30c1f5ef76f63f13d17613e6aaee6"), looks := false }, kinds := [], alts := [], laidByText := true, laidKinds := [.data], laidTests := true, laidLooks := .later }
def OrderTotalsCardSaid : Prop := Claim7.holds Tryd.pinned (.plain (OpenSpec.ofChange orderTotalsSpec)) orderTotalsCard

/-- THE TIED CARD OF 'abacuslaw16.OrderTotal'. -/
def orderTotalCard : Claim7 := { stood := { row := orderTotalRow, standIns := [], harness := (true, "f4a805116b6eafa27d3b2c74e548b579f3e30c1f5ef76f63f13d17613e6aaee6"), looks := false }, kinds := [], alts := [], laidByText := true, laidKinds := [.data], laidTests := true, laidLooks := .later }
def OrderTotalCardSaid : Prop := Claim7.holds Tryd.pinned (.plain (OpenSpec.ofChange orderTotalSpec)) orderTotalCard

/-- THE TIED CARD OF 'abacuslaw16.OrderOne'. -/
def orderOneCard : Claim7 := { stood := { row := orderOneRow, standIns := [], harness := (true, "f4a805116b6eafa27d3b2c74e548b579f3e30c1f5ef76f63f13d17613e6aaee6"), looks := false }, kinds := [], alts := [], laidByText := true, laidKinds := [.data], laidTests := true, laidLooks := .later }
def OrderOneCardSaid : Prop := Claim7.holds Tryd.pinned (.plain (OpenSpec.ofChange orderOneSpec)) orderOneCard

/-- THE SECOND FORM's CARD OF 'abacuslaw16.OrderCompares'. -/
def orderComparesUptoCard : Claim7 := { stood := { row := orderComparesUptoRow, standIns := [], harness := (true, "f4a805116b6eafa27d3b2c74e548b579f3e30c1f5ef76f63f13d17613e6aaee6"), looks := false }, kinds := [], alts := [], laidByText := true, laidKinds := [.data], laidTests := true, laidLooks := .later }
def OrderComparesUptoCardSaid : Prop := Claim7.holds Tryd.pinned (.plain (OpenSpec.upto orderComparesSpec)) orderComparesUptoCard

/-- THE SECOND FORM's CARD OF 'abacuslaw16.OrderExtremes'. -/
def orderExtremesUptoCard : Claim7 := { stood := { row := orderExtremesUptoRow, standIns := [], harness := (true, "f4a805116b6eafa27d3b2c74e548b579f3e30c1f5ef76f63f13d17613e6aaee6"), looks := false }, kinds := [], alts := [], laidByText := true, laidKinds := [.data], laidTests := true, laidLooks := .later }
def OrderExtremesUptoCardSaid : Prop := Claim7.holds Tryd.pinned (.plain (OpenSpec.upto orderExtremesSpec)) orderExtremesUptoCard

/-- THE SECOND FORM's CARD OF 'abacuslaw16.OrderTotals'. -/
def orderTotalsUptoCard : Claim7 := { stood := { row := orderTotalsUptoRow, standIns := [], harness := (true, "f4a805116b6eafa27d3b2c74e548b579f3e30c1f5ef76f63f13d17613e6aaee6"), looks := false }, kinds := [], alts := [], laidByText := true, laidKinds := [.data], laidTests := true, laidLooks := .later }
def OrderTotalsUptoCardSaid : Prop := Claim7.holds Tryd.pinned (.plain (OpenSpec.upto orderTotalsSpec)) orderTotalsUptoCard

/-- THE SECOND FORM's CARD OF 'abacuslaw16.OrderTotal'. -/
def orderTotalUptoCard : Claim7 := { stood := { row := orderTotalUptoRow, standIns := [], harness := (true, "f4a805116b6eafa27d3b2c74e548b579f3e30c1f5ef76f63f13d17613e6aaee6"), looks := false }, kinds := [], alts := [], laidByText := true, laidKinds := [.data], laidTests := true, laidLooks := .later }
def OrderTotalUptoCardSaid : Prop := Claim7.holds Tryd.pinned (.plain (OpenSpec.upto orderTotalSpec)) orderTotalUptoCard

/-- THE SECOND FORM's CARD OF 'abacuslaw16.OrderOne'. -/
def orderOneUptoCard : Claim7 := { stood := { row := orderOneUptoRow, standIns := [], harness := (true, "f4a805116b6eafa27d3b2c74e548b579f3e30c1f5ef76f63f13d17613e6aaee6"), looks := false }, kinds := [], alts := [], laidByText := true, laidKinds := [.data], laidTests := true, laidLooks := .later }
def OrderOneUptoCardSaid : Prop := Claim7.holds Tryd.pinned (.plain (OpenSpec.upto orderOneSpec)) orderOneUptoCard
end Rows
end Go.Proofs.YtmndjhcmomejjaaDoor
