/-
  DERIVED. GIVEN WITH THE SEED: THE CARDS: each row of YtamlcgmipdcgjaaDoorRows.lean that lists a variable, with what it lists TIED to the program's text (the seventh form; the later family's looks); each row that meets fmt, with fmt's text TOLD by the authors' own Lean function (tested against real Go, not proved from fmt's source: count such statements apart). THE CARD IS WHAT COUNTS. Prove the row's statement (the work); the ties are given (YtamlcgmipdcgjaaDoorTie.lean); close each card by the builder's one call (the guide's Derived/Test/ToyasCard.lean, 'card_holds'). Laid BY PROGRAM, IN A SANDBOX (cutbox-door.mjs). By AI agents, Wed Nov 11 2026. No macro, syntax, notation, axiom, sorry.
-/
import Derived.Test.YtamlcgmipdcgjaaDoorRows
import GoSem.ClaimSeven
namespace Go.Proofs.YtamlcgmipdcgjaaDoor
namespace Rows

/-- THE TIED CARD OF 'abacuslaw25.DecodeWords'. -/
def decodeWordsCard : Claim7 := { stood := { row := decodeWordsRow, standIns := [], harness := (true, "41fac0a98010128a32444bca88dfa7f261c8ae458e6c82247bcee6699b98f8dc"), looks := false }, kinds := [], alts := [], laidByText := true, laidKinds := [.data, .data, .data], laidTests := true, laidLooks := .later }
def DecodeWordsCardSaid : Prop := Claim7.holds Tryd.pinned (.plain (OpenSpec.ofChange decodeWordsSpec)) decodeWordsCard

/-- THE TIED CARD OF 'abacuslaw25.DecodeLists'. -/
def decodeListsCard : Claim7 := { stood := { row := decodeListsRow, standIns := [], harness := (true, "41fac0a98010128a32444bca88dfa7f261c8ae458e6c82247bcee6699b98f8dc"), looks := false }, kinds := [], alts := [], laidByText := true, laidKinds := [.data, .data, .data], laidTests := true, laidLooks := .later }
def DecodeListsCardSaid : Prop := Claim7.holds Tryd.pinned (.plain (OpenSpec.ofChange decodeListsSpec)) decodeListsCard

/-- THE TIED CARD OF 'abacuslaw25.DecodeBytes'. -/
def decodeBytesCard : Claim7 := { stood := { row := decodeBytesRow, standIns := [], harness := (true, "41fac0a98010128a32444bca88dfa7f261c8ae458e6c82247bcee6699b98f8dc"), looks := false }, kinds := [], alts := [], laidByText := true, laidKinds := [.data, .data, .data], laidTests := true, laidLooks := .later }
def DecodeBytesCardSaid : Prop := Claim7.holds Tryd.pinned (.plain (OpenSpec.ofChange decodeBytesSpec)) decodeBytesCard

/-- THE TIED CARD OF 'abacuslaw25.DecodeRows'. -/
def decodeRowsCard : Claim7 := { stood := { row := decodeRowsRow, standIns := [], harness := (true, "41fac0a98010128a32444bca88dfa7f261c8ae458e6c82247bcee6699b98f8dc"), looks := false }, kinds := [], alts := [], laidByText := true, laidKinds := [.data, .data, .data], laidTests := true, laidLooks := .later }
def DecodeRowsCardSaid : Prop := Claim7.holds Tryd.pinned (.plain (OpenSpec.ofChange decodeRowsSpec)) decodeRowsCard

/-- THE TIED CARD OF 'abacuslaw25.DecodeNoBit'. -/
def decodeNoBitCard : Claim7 := { stood := { row := decodeNoBitRow, standIns := [], harness := (true, "41fac0a98010128a32444bca88dfa7f261c8ae458e6c82247bcee6699b98f8dc"), looks := false }, kinds := [], alts := [], laidByText := true, laidKinds := [.data, .data, .data], laidTests := true, laidLooks := .later }
def DecodeNoBitCardSaid : Prop := Claim7.holds Tryd.pinned (.plain (OpenSpec.ofChange decodeNoBitSpec)) decodeNoBitCard

/-- THE TIED CARD OF 'abacuslaw25.DecodeBounds'. -/
def decodeBoundsCard : Claim7 := { stood := { row := decodeBoundsRow, standIns := [], harness := (true, "41fac0a98010128a32444bca88dfa7f261c8ae458e6c82247bcee6699b98f8dc"), looks := false }, kinds := [], alts := [], laidByText := true, laidKinds := [.data, .data, .data], laidTests := true, laidLooks := .later }
def DecodeBoundsCardSaid : Prop := Claim7.holds Tryd.pinned (.plain (OpenSpec.ofChange decodeBoundsSpec)) decodeBoundsCard

/-- THE SECOND FORM's CARD OF 'abacuslaw25.DecodeWords'. -/
def decodeWordsUptoCard : Claim7 := { stood := { row := decodeWordsUptoRow, standIns := [], harness := (true, "41fac0a98010128a32444bca88dfa7f261c8ae458e6c82247bcee6699b98f8dc"), looks := false }, kinds := [], alts := [], laidByText := true, laidKinds := [.data, .data, .data], laidTests := true, laidLooks := .later }
def DecodeWordsUptoCardSaid : Prop := Claim7.holds Tryd.pinned (.plain (OpenSpec.upto decodeWordsSpec)) decodeWordsUptoCard

/-- THE SECOND FORM's CARD OF 'abacuslaw25.DecodeLists'. -/
def decodeListsUptoCard : Claim7 := { stood := { row := decodeListsUptoRow, standIns := [], harness := (true, "41fac0a98010128a32444bca88dfa7f261c8ae458e6c82247bcee6699b98f8dc"), looks := false }, kinds := [], alts := [], laidByText := true, laidKinds := [.data, .data, .data], laidTests := true, laidLooks := .later }
def DecodeListsUptoCardSaid : Prop := Claim7.holds Tryd.pinned (.plain (OpenSpec.upto decodeListsSpec)) decodeListsUptoCard

/-- THE SECOND FORM's CARD OF 'abacuslaw25.DecodeBytes'. -/
def decodeBytesUptoCard : Claim7 := { stood := { row := decodeBytesUptoRow, standIns := [], harness := (true, "41fac0a98010128a32444bca88dfa7f261c8ae458e6c82247bcee6699b98f8dc"), looks := false }, kinds := [], alts := [], laidByText := true, laidKinds := [.data, .data, .data], laidTests := true, laidLooks := .later }
def DecodeBytesUptoCardSaid : Prop := Claim7.holds Tryd.pinned (.plain (OpenSpec.upto decodeBytesSpec)) decodeBytesUptoCard

/-- THE SECOND FORM's CARD OF 'abacuslaw25.DecodeRows'. -/
def decodeRowsUptoCard : Claim7 := { stood := { row := decodeRowsUptoRow, standIns := [], harness := (true, "41fac0a98010128a32444bca88dfa7f261c8ae458e6c82247bcee6699b98f8dc"), looks := false }, kinds := [], alts := [], laidByText := true, laidKinds := [.data, .data, .data], laidTests := true, laidLooks := .later }
def DecodeRowsUptoCardSaid : Prop := Claim7.holds Tryd.pinned (.plain (OpenSpec.upto decodeRowsSpec)) decodeRowsUptoCard

/-- THE SECOND FORM's CARD OF 'abacuslaw25.DecodeNoBit'. -/
def decodeNoBitUptoCard : Claim7 := { stood := { row := decodeNoBitUptoRow, standIns := [], harness := (true, "41fac0a98010128a32444bca88dfa7f261c8ae458e6c82247bcee6699b98f8dc"), looks := false }, kinds := [], alts := [], laidByText := true, laidKinds := [.data, .data, .data], laidTests := true, laidLooks := .later }
def DecodeNoBitUptoCardSaid : Prop := Claim7.holds Tryd.pinned (.plain (OpenSpec.upto decodeNoBitSpec)) decodeNoBitUptoCard

/-- THE SECOND FORM's CARD OF 'abacuslaw25.DecodeBounds'. -/
def decodeBoundsUptoCard : Claim7 := { stood := { row := decodeBoundsUptoRow, standIns := [], harness := (true, "41fac0a98010128a32444bca88dfa7f261c8ae458e6c82247bcee6699b98f8dc"), looks := false }, kinds := [], alts := [], laidByText := true, laidKinds := [.data, .data, .data], laidTests := true, laidLooks := .later }
def DecodeBoundsUptoCardSaid : Prop := Claim7.holds Tryd.pinned (.plain (OpenSpec.upto decodeBoundsSpec)) decodeBoundsUptoCard
end Rows
end Go.Proofs.YtamlcgmipdcgjaaDoor
