/-
  DERIVED. GIVEN WITH THE SEED: THE CARDS: each row of YthiongcednmjiaaDoorRows.lean that lists a variable, with what it lists TIED to the program's text (the seventh form; the later family's looks); each row that meets fmt, with fmt's text TOLD by the authors' own Lean function (tested against real Go, not proved from fmt's source: count such statements apart). THE CARD IS WHAT COUNTS. Prove the row's statement (the work); the ties are given (YthiongcednmjiaaDoorTie.lean); close each card by the builder's one call (the guide's Derived/Test/ToyasCard.lean, 'card_holds'). Laid BY PROGRAM, IN A SANDBOX (cutbox-door.mjs). By AI agents, Wed Nov 11 2026. No macro, syntax, notation, axiom, sorry.
-/
import Derived.Test.YthiongcednmjiaaDoorRows
import GoSem.ClaimSeven
namespace Go.Proofs.YthiongcednmjiaaDoor
namespace Rows

/-- THE TIED CARD OF 'abacuslaw06.ExactMakes'. -/
def exactMakesCard : Claim7 := { stood := { row := exactMakesRow, standIns := [], harness := (true, "3e8d1fd3fa54bd73b2e4f17310d30ae8075bb6bb7b260c1ab5917f0247a466ea"), looks := false }, kinds := [], alts := [], laidByText := true, laidKinds := [.data], laidTests := true, laidLooks := .later }
def ExactMakesCardSaid : Prop := Claim7.holds Tryd.pinned (.plain (OpenSpec.ofChange exactMakesSpec)) exactMakesCard

/-- THE TIED CARD OF 'abacuslaw06.ExactSigns'. -/
def exactSignsCard : Claim7 := { stood := { row := exactSignsRow, standIns := [], harness := (true, "3e8d1fd3fa54bd73b2e4f17310d30ae8075bb6bb7b260c1ab5917f0247a466ea"), looks := false }, kinds := [], alts := [], laidByText := true, laidKinds := [.data], laidTests := true, laidLooks := .later }
def ExactSignsCardSaid : Prop := Claim7.holds Tryd.pinned (.plain (OpenSpec.ofChange exactSignsSpec)) exactSignsCard

/-- THE TIED CARD OF 'abacuslaw06.ExactProducts'. -/
def exactProductsCard : Claim7 := { stood := { row := exactProductsRow, standIns := [], harness := (true, "3e8d1fd3fa54bd73b2e4f17310d30ae8075bb6bb7b260c1ab5917f0247a466ea"), looks := false }, kinds := [], alts := [], laidByText := true, laidKinds := [.data], laidTests := true, laidLooks := .later }
def ExactProductsCardSaid : Prop := Claim7.holds Tryd.pinned (.plain (OpenSpec.ofChange exactProductsSpec)) exactProductsCard

/-- THE TIED CARD OF 'abacuslaw06.ExactPlaces'. -/
def exactPlacesCard : Claim7 := { stood := { row := exactPlacesRow, standIns := [], harness := (true, "3e8d1fd3fa54bd73b2e4f17310d30ae8075bb6bb7b260c1ab5917f0247a466ea"), looks := false }, kinds := [], alts := [], laidByText := true, laidKinds := [.data], laidTests := true, laidLooks := .later }
def ExactPlacesCardSaid : Prop := Claim7.holds Tryd.pinned (.plain (OpenSpec.ofChange exactPlacesSpec)) exactPlacesCard

/-- THE TIED CARD OF 'abacuslaw06.ExactTexts'. -/
def exactTextsCard : Claim7 := { stood := { row := exactTextsRow, standIns := [], harness := (true, "3e8d1fd3fa54bd73b2e4f17310d30ae8075bb6bb7b260c1ab5917f0247a466ea"), looks := false }, kinds := [], alts := [], laidByText := true, laidKinds := [.data, .data, .data], laidTests := true, laidLooks := .later }
def ExactTextsCardSaid : Prop := Claim7.holds Tryd.pinned (.plain (OpenSpec.ofChange exactTextsSpec)) exactTextsCard

/-- THE SECOND FORM's CARD OF 'abacuslaw06.ExactMakes'. -/
def exactMakesUptoCard : Claim7 := { stood := { row := exactMakesUptoRow, standIns := [], harness := (true, "3e8d1fd3fa54bd73b2e4f17310d30ae8075bb6bb7b260c1ab5917f0247a466ea"), looks := false }, kinds := [], alts := [], laidByText := true, laidKinds := [.data], laidTests := true, laidLooks := .later }
def ExactMakesUptoCardSaid : Prop := Claim7.holds Tryd.pinned (.plain (OpenSpec.upto exactMakesSpec)) exactMakesUptoCard

/-- THE SECOND FORM's CARD OF 'abacuslaw06.ExactSigns'. -/
def exactSignsUptoCard : Claim7 := { stood := { row := exactSignsUptoRow, standIns := [], harness := (true, "3e8d1fd3fa54bd73b2e4f17310d30ae8075bb6bb7b260c1ab5917f0247a466ea"), looks := false }, kinds := [], alts := [], laidByText := true, laidKinds := [.data], laidTests := true, laidLooks := .later }
def ExactSignsUptoCardSaid : Prop := Claim7.holds Tryd.pinned (.plain (OpenSpec.upto exactSignsSpec)) exactSignsUptoCard

/-- THE SECOND FORM's CARD OF 'abacuslaw06.ExactProducts'. -/
def exactProductsUptoCard : Claim7 := { stood := { row := exactProductsUptoRow, standIns := [], harness := (true, "3e8d1fd3fa54bd73b2e4f17310d30ae8075bb6bb7b260c1ab5917f0247a466ea"), looks := false }, kinds := [], alts := [], laidByText := true, laidKinds := [.data], laidTests := true, laidLooks := .later }
def ExactProductsUptoCardSaid : Prop := Claim7.holds Tryd.pinned (.plain (OpenSpec.upto exactProductsSpec)) exactProductsUptoCard

/-- THE SECOND FORM's CARD OF 'abacuslaw06.ExactPlaces'. -/
def exactPlacesUptoCard : Claim7 := { stood := { row := exactPlacesUptoRow, standIns := [], harness := (true, "3e8d1fd3fa54bd73b2e4f17310d30ae8075bb6bb7b260c1ab5917f0247a466ea"), looks := false }, kinds := [], alts := [], laidByText := true, laidKinds := [.data], laidTests := true, laidLooks := .later }
def ExactPlacesUptoCardSaid : Prop := Claim7.holds Tryd.pinned (.plain (OpenSpec.upto exactPlacesSpec)) exactPlacesUptoCard

/-- THE SECOND FORM's CARD OF 'abacuslaw06.ExactTexts'. -/
def exactTextsUptoCard : Claim7 := { stood := { row := exactTextsUptoRow, standIns := [], harness := (true, "3e8d1fd3fa54bd73b2e4f17310d30ae8075bb6bb7b260c1ab5917f0247a466ea"), looks := false }, kinds := [], alts := [], laidByText := true, laidKinds := [.data, .data, .data], laidTests := true, laidLooks := .later }
def ExactTextsUptoCardSaid : Prop := Claim7.holds Tryd.pinned (.plain (OpenSpec.upto exactTextsSpec)) exactTextsUptoCard
end Rows
end Go.Proofs.YthiongcednmjiaaDoor
