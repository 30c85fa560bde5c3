/-
  DERIVED. GIVEN WITH THE SEED: THE CARDS: each row of YtaoccmopfflkmaaDoorRows.lean that lists a variable, with what it lists TIED to the program's text (the seventh form; the later family's looks); each row that meets fmt, with fmt's text TOLD by the authors' own Lean function (tested against real Go, not proved from fmt's source: count such statements apart). THE CARD IS WHAT COUNTS. Prove the row's statement (the work); the ties are given (YtaoccmopfflkmaaDoorTie.lean); close each card by the builder's one call (the guide's Derived/Test/ToyasCard.lean, 'card_holds'). Laid BY PROGRAM, IN A SANDBOX (cutbox-door.mjs). By AI agents, Wed Nov 11 2026. No macro, syntax, notation, axiom, sorry.
-/
import Derived.Test.YtaoccmopfflkmaaDoorRows
import GoSem.ClaimSeven
namespace Go.Proofs.YtaoccmopfflkmaaDoor
namespace Rows

/-- THE TIED CARD OF 'abacuslaw26.EncodeInsts'. -/
def encodeInstsCard : Claim7 := { stood := { row := encodeInstsRow, standIns := [], harness := (true, "18b03fb99d45a6f6a0810599e5c84b3704e00e9e4baa89ffc198c56919b29d90"), looks := false }, kinds := [], alts := [], laidByText := true, laidKinds := [.data, .data, .data], laidTests := true, laidLooks := .later }
def EncodeInstsCardSaid : Prop := Claim7.holds Tryd.pinned (.plain (OpenSpec.ofChange encodeInstsSpec)) encodeInstsCard

/-- THE TIED CARD OF 'abacuslaw26.EncodeLists'. -/
def encodeListsCard : Claim7 := { stood := { row := encodeListsRow, standIns := [], harness := (true, "18b03fb99d45a6f6a0810599e5c84b3704e00e9e4baa89ffc198c56919b29d90"), looks := false }, kinds := [], alts := [], laidByText := true, laidKinds := [.data, .data, .data], laidTests := true, laidLooks := .later }
def EncodeListsCardSaid : Prop := Claim7.holds Tryd.pinned (.plain (OpenSpec.ofChange encodeListsSpec)) encodeListsCard

/-- THE TIED CARD OF 'abacuslaw26.EncodeWith'. -/
def encodeWithCard : Claim7 := { stood := { row := encodeWithRow, standIns := [], harness := (true, "18b03fb99d45a6f6a0810599e5c84b3704e00e9e4baa89ffc198c56919b29d90"), looks := false }, kinds := [], alts := [], laidByText := true, laidKinds := [.data, .data, .data], laidTests := true, laidLooks := .later }
def EncodeWithCardSaid : Prop := Claim7.holds Tryd.pinned (.plain (OpenSpec.ofChange encodeWithSpec)) encodeWithCard

/-- THE TIED CARD OF 'abacuslaw26.EncodeOps'. -/
def encodeOpsCard : Claim7 := { stood := { row := encodeOpsRow, standIns := [], harness := (true, "18b03fb99d45a6f6a0810599e5c84b3704e00e9e4baa89ffc198c56919b29d90"), looks := false }, kinds := [], alts := [], laidByText := true, laidKinds := [.data, .data, .data], laidTests := true, laidLooks := .later }
def EncodeOpsCardSaid : Prop := Claim7.holds Tryd.pinned (.plain (OpenSpec.ofChange encodeOpsSpec)) encodeOpsCard

/-- THE TIED CARD OF 'abacuslaw26.EncodeBack'. -/
def encodeBackCard : Claim7 := { stood := { row := encodeBackRow, standIns := [], harness := (true, "18b03fb99d45a6f6a0810599e5c84b3704e00e9e4baa89ffc198c56919b29d90"), looks := false }, kinds := [], alts := [], laidByText := true, laidKinds := [.data, .data, .data], laidTests := true, laidLooks := .later }
def EncodeBackCardSaid : Prop := Claim7.holds Tryd.pinned (.plain (OpenSpec.ofChange encodeBackSpec)) encodeBackCard

/-- THE TIED CARD OF 'abacuslaw26.EncodeFields'. -/
def encodeFieldsCard : Claim7 := { stood := { row := encodeFieldsRow, standIns := [], harness := (true, "18b03fb99d45a6f6a0810599e5c84b3704e00e9e4baa89ffc198c56919b29d90"), looks := false }, kinds := [], alts := [], laidByText := true, laidKinds := [.data, .data, .data], laidTests := true, laidLooks := .later }
def EncodeFieldsCardSaid : Prop := Claim7.holds Tryd.pinned (.plain (OpenSpec.ofChange encodeFieldsSpec)) encodeFieldsCard

/-- THE SECOND FORM's CARD OF 'abacuslaw26.EncodeInsts'. -/
def encodeInstsUptoCard : Claim7 := { stood := { row := encodeInstsUptoRow, standIns := [], harness := (true, "18b03fb99d45a6f6a0810599e5c84b3704e00e9e4baa89ffc198c56919b29d90"), looks := false }, kinds := [], alts := [], laidByText := true, laidKinds := [.data, .data, .data], laidTests := true, laidLooks := .later }
def EncodeInstsUptoCardSaid : Prop := Claim7.holds Tryd.pinned (.plain (OpenSpec.upto encodeInstsSpec)) encodeInstsUptoCard

/-- THE SECOND FORM's CARD OF 'abacuslaw26.EncodeLists'. -/
def encodeListsUptoCard : Claim7 := { stood := { row := encodeListsUptoRow, standIns := [], harness := (true, "18b03fb99d45a6f6a0810599e5c84b3704e00e9e4baa89ffc198c56919b29d90"), looks := false }, kinds := [], alts := [], laidByText := true, laidKinds := [.data, .data, .data], laidTests := true, laidLooks := .later }
def EncodeListsUptoCardSaid : Prop := Claim7.holds Tryd.pinned (.plain (OpenSpec.upto encodeListsSpec)) encodeListsUptoCard

/-- THE SECOND FORM's CARD OF 'abacuslaw26.EncodeWith'. -/
def encodeWithUptoCard : Claim7 := { stood := { row := encodeWithUptoRow, standIns := [], harness := (true, "18b03fb99d45a6f6a0810599e5c84b3704e00e9e4baa89ffc198c56919b29d90"), looks := false }, kinds := [], alts := [], laidByText := true, laidKinds := [.data, .data, .data], laidTests := true, laidLooks := .later }
def EncodeWithUptoCardSaid : Prop := Claim7.holds Tryd.pinned (.plain (OpenSpec.upto encodeWithSpec)) encodeWithUptoCard

/-- THE SECOND FORM's CARD OF 'abacuslaw26.EncodeOps'. -/
def encodeOpsUptoCard : Claim7 := { stood := { row := encodeOpsUptoRow, standIns := [], harness := (true, "18b03fb99d45a6f6a0810599e5c84b3704e00e9e4baa89ffc198c56919b29d90"), looks := false }, kinds := [], alts := [], laidByText := true, laidKinds := [.data, .data, .data], laidTests := true, laidLooks := .later }
def EncodeOpsUptoCardSaid : Prop := Claim7.holds Tryd.pinned (.plain (OpenSpec.upto encodeOpsSpec)) encodeOpsUptoCard

/-- THE SECOND FORM's CARD OF 'abacuslaw26.EncodeBack'. -/
def encodeBackUptoCard : Claim7 := { stood := { row := encodeBackUptoRow, standIns := [], harness := (true, "18b03fb99d45a6f6a0810599e5c84b3704e00e9e4baa89ffc198c56919b29d90"), looks := false }, kinds := [], alts := [], laidByText := true, laidKinds := [.data, .data, .data], laidTests := true, laidLooks := .later }
def EncodeBackUptoCardSaid : Prop := Claim7.holds Tryd.pinned (.plain (OpenSpec.upto encodeBackSpec)) encodeBackUptoCard

/-- THE SECOND FORM's CARD OF 'abacuslaw26.EncodeFields'. -/
def encodeFieldsUptoCard : Claim7 := { stood := { row := encodeFieldsUptoRow, standIns := [], harness := (true, "18b03fb99d45a6f6a0810599e5c84b3704e00e9e4baa89ffc198c56919b29d90"), looks := false }, kinds := [], alts := [], laidByText := true, laidKinds := [.data, .data, .data], laidTests := true, laidLooks := .later }
def EncodeFieldsUptoCardSaid : Prop := Claim7.holds Tryd.pinned (.plain (OpenSpec.upto encodeFieldsSpec)) encodeFieldsUptoCard
end Rows
end Go.Proofs.YtaoccmopfflkmaaDoor
