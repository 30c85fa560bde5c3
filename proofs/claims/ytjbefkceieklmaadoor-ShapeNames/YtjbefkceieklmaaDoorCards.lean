/-
  DERIVED. GIVEN WITH THE SEED: THE CARDS: each row of YtjbefkceieklmaaDoorRows.lean that lists a variable, with what it lists TIED to the program's text (the seventh form; the later family's looks); each row that meets fmt, with fmt's text TOLD by the authors' own Lean function (tested against real Go, not proved from fmt's source: count such statements apart). THE CARD IS WHAT COUNTS. Prove the row's statement (the work); the ties are given (YtjbefkceieklmaaDoorTie.lean); close each card by the builder's one call (the guide's Derived/Test/ToyasCard.lean, 'card_holds'). Laid BY PROGRAM, IN A SANDBOX (cutbox-door.mjs). By AI agents, Wed Nov 11 2026. No macro, syntax, notation, axiom, sorry.
-/
import Derived.Test.YtjbefkceieklmaaDoorRows
import GoSem.ClaimSeven
namespace Go.Proofs.YtjbefkceieklmaaDoor
namespace Rows

/-- THE TIED CARD OF 'abacuslaw07.ShapeNumbers'. -/
def shapeNumbersCard : Claim7 := { stood := { row := shapeNumbersRow, standIns := [], harness := (true, "c37990678c10b719edc1d93dd120d60deda3d1b1059eb7dbc9831a082f9c81fc"), looks := false }, kinds := [], alts := [], laidByText := true, laidKinds := [.data], laidTests := true, laidLooks := .later }
def ShapeNumbersCardSaid : Prop := Claim7.holds Tryd.pinned (.plain (OpenSpec.ofChange shapeNumbersSpec)) shapeNumbersCard

/-- THE TIED CARD OF 'abacuslaw07.ShapeMakes'. -/
def shapeMakesCard : Claim7 := { stood := { row := shapeMakesRow, standIns := [], harness := (true, "c37990678c10b719edc1d93dd120d60deda3d1b1059eb7dbc9831a082f9c81fc"), looks := false }, kinds := [], alts := [], laidByText := true, laidKinds := [.data], laidTests := true, laidLooks := .later }
def ShapeMakesCardSaid : Prop := Claim7.holds Tryd.pinned (.plain (OpenSpec.ofChange shapeMakesSpec)) shapeMakesCard

/-- THE TIED CARD OF 'abacuslaw07.ShapeNames'. -/
def shapeNamesCard : Claim7 := { stood := { row := shapeNamesRow, standIns := [], harness := (true, "c37990678c10b719edc1d93dd120d60deda3d1b1059eb7dbc9831a082f9c81fc"), looks := false }, kinds := [], alts := [], laidByText := true, laidKinds := [.data], laidTests := true, laidLooks := .later }
def ShapeNamesCardSaid : Prop := Claim7.holds Tryd.pinned (.plain (OpenSpec.ofChange shapeNamesSpec)) shapeNamesCard

/-- THE TIED CARD OF 'abacuslaw07.ShapeSigns'. -/
def shapeSignsCard : Claim7 := { stood := { row := shapeSignsRow, standIns := [], harness := (true, "c37990678c10b719edc1d93dd120d60deda3d1b1059eb7dbc9831a082f9c81fc"), looks := false }, kinds := [], alts := [], laidByText := true, laidKinds := [.data], laidTests := true, laidLooks := .later }
def ShapeSignsCardSaid : Prop := Claim7.holds Tryd.pinned (.plain (OpenSpec.ofChange shapeSignsSpec)) shapeSignsCard

/-- THE SECOND FORM's CARD OF 'abacuslaw07.ShapeNumbers'. -/
def shapeNumbersUptoCard : Claim7 := { stood := { row := shapeNumbersUptoRow, standIns := [], harness := (true, "c37990678c10b719edc1d93dd120d60deda3d1b1059eb7dbc9831a082f9c81fc"), looks := false }, kinds := [], alts := [], laidByText := true, laidKinds := [.data], laidTests := true, laidLooks := .later }
def ShapeNumbersUptoCardSaid : Prop := Claim7.holds Tryd.pinned (.plain (OpenSpec.upto shapeNumbersSpec)) shapeNumbersUptoCard

/-- THE SECOND FORM's CARD OF 'abacuslaw07.ShapeMakes'. -/
def shapeMakesUptoCard : Claim7 := { stood := { row := shapeMakesUptoRow, standIns := [], harness := (true, "c37990678c10b719edc1d93dd120d60deda3d1b1059eb7dbc9831a082f9c81fc"), looks := false }, kinds := [], alts := [], laidByText := true, laidKinds := [.data], laidTests := true, laidLooks := .later }
def ShapeMakesUptoCardSaid : Prop := Claim7.holds Tryd.pinned (.plain (OpenSpec.upto shapeMakesSpec)) shapeMakesUptoCard

/-- THE SECOND FORM's CARD OF 'abacuslaw07.ShapeNames'. -/
def shapeNamesUptoCard : Claim7 := { stood := { row := shapeNamesUptoRow, standIns := [], harness := (true, "c37990678c10b719edc1d93dd120d60deda3d1b1059eb7dbc9831a082f9c81fc"), looks := false }, kinds := [], alts := [], laidByText := true, laidKinds := [.data], laidTests := true, laidLooks := .later }
def ShapeNamesUptoCardSaid : Prop := Claim7.holds Tryd.pinned (.plain (OpenSpec.upto shapeNamesSpec)) shapeNamesUptoCard

/-- THE SECOND FORM's CARD OF 'abacuslaw07.ShapeSigns'. -/
def shapeSignsUptoCard : Claim7 := { stood := { row := shapeSignsUptoRow, standIns := [], harness := (true, "c37990678c10b719edc1d93dd120d60deda3d1b1059eb7dbc9831a082f9c81fc"), looks := false }, kinds := [], alts := [], laidByText := true, laidKinds := [.data], laidTests := true, laidLooks := .later }
def ShapeSignsUptoCardSaid : Prop := Claim7.holds Tryd.pinned (.plain (OpenSpec.upto shapeSignsSpec)) shapeSignsUptoCard
end Rows
end Go.Proofs.YtjbefkceieklmaaDoor
