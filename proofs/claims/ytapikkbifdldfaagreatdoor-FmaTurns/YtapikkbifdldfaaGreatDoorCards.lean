/-
  DERIVED. GIVEN WITH THE SEED: THE CARDS: each row of YtapikkbifdldfaaGreatDoorRows.lean that lists a variable, with what it lists TIED to the program's text (the seventh form; the later family's looks); each row that meets fmt, with fmt's text TOLD by the authors' own Lean function (tested against real Go, not proved from fmt's source: count such statements apart). THE CARD IS WHAT COUNTS. Prove the row's statement (the work); the ties are given (YtapikkbifdldfaaGreatDoorTie.lean); close each card by the builder's one call (the guide's Derived/Test/ToyasCard.lean, 'card_holds'). Laid BY PROGRAM, IN A SANDBOX (cutbox-door.mjs). By AI agents, Wed Nov 11 2026. No macro, syntax, notation, axiom, sorry.
-/
import Derived.Test.YtapikkbifdldfaaGreatDoorRows
import GoSem.ClaimSeven
namespace Go.Proofs.YtapikkbifdldfaaGreatDoor
namespace Rows

/-- THE TIED CARD OF 'abacuslaw13.DivQuotients'. -/
def divQuotientsCard : Claim7 := { stood := { row := divQuotientsRow, standIns := [], harness := (true, "23555940d19f8c80287f22facda927c85f8ade03e96f23874064bed5637a4e45"), looks := false }, kinds := [], alts := [], laidByText := true, laidKinds := [.data], laidTests := true, laidLooks := .later }
def DivQuotientsCardSaid : Prop := Claim7.holds Tryz.pinned (.plain (OpenSpec.ofChange divQuotientsSpec)) divQuotientsCard

/-- THE TIED CARD OF 'abacuslaw15.FmaAdds'. -/
def fmaAddsCard : Claim7 := { stood := { row := fmaAddsRow, standIns := [], harness := (true, "23555940d19f8c80287f22facda927c85f8ade03e96f23874064bed5637a4e45"), looks := false }, kinds := [], alts := [], laidByText := true, laidKinds := [.data], laidTests := true, laidLooks := .later }
def FmaAddsCardSaid : Prop := Claim7.holds Tryz.pinned (.plain (OpenSpec.ofChange fmaAddsSpec)) fmaAddsCard

/-- THE TIED CARD OF 'abacuslaw15.FmaTurns'. -/
def fmaTurnsCard : Claim7 := { stood := { row := fmaTurnsRow, standIns := [], harness := (true, "23555940d19f8c80287f22facda927c85f8ade03e96f23874064bed5637a4e45"), looks := false }, kinds := [], alts := [], laidByText := true, laidKinds := [.data], laidTests := true, laidLooks := .later }
def FmaTurnsCardSaid : Prop := Claim7.holds Tryz.pinned (.plain (OpenSpec.ofChange fmaTurnsSpec)) fmaTurnsCard

/-- THE TIED CARD OF 'abacuslaw15.FmaDots'. -/
def fmaDotsCard : Claim7 := { stood := { row := fmaDotsRow, standIns := [], harness := (true, "23555940d19f8c80287f22facda927c85f8ade03e96f23874064bed5637a4e45"), looks := false }, kinds := [], alts := [], laidByText := true, laidKinds := [.data], laidTests := true, laidLooks := .later }
def FmaDotsCardSaid : Prop := Claim7.holds Tryz.pinned (.plain (OpenSpec.ofChange fmaDotsSpec)) fmaDotsCard

/-- THE TIED CARD OF 'abacuslaw15.FmaSingle'. -/
def fmaSingleCard : Claim7 := { stood := { row := fmaSingleRow, standIns := [], harness := (true, "23555940d19f8c80287f22facda927c85f8ade03e96f23874064bed5637a4e45"), looks := false }, kinds := [], alts := [], laidByText := true, laidKinds := [.data], laidTests := true, laidLooks := .later }
def FmaSingleCardSaid : Prop := Claim7.holds Tryz.pinned (.plain (OpenSpec.ofChange fmaSingleSpec)) fmaSingleCard

/-- THE TIED CARD OF 'abacuslaw15.FmaInvalid'. -/
def fmaInvalidCard : Claim7 := { stood := { row := fmaInvalidRow, standIns := [], harness := (true, "23555940d19f8c80287f22facda927c85f8ade03e96f23874064bed5637a4e45"), looks := false }, kinds := [], alts := [], laidByText := true, laidKinds := [.data], laidTests := true, laidLooks := .later }
def FmaInvalidCardSaid : Prop := Claim7.holds Tryz.pinned (.plain (OpenSpec.ofChange fmaInvalidSpec)) fmaInvalidCard

/-- THE SECOND FORM's CARD OF 'abacuslaw13.DivQuotients'. -/
def divQuotientsUptoCard : Claim7 := { stood := { row := divQuotientsUptoRow, standIns := [], harness := (true, "23555940d19f8c80287f22facda927c85f8ade03e96f23874064bed5637a4e45"), looks := false }, kinds := [], alts := [], laidByText := true, laidKinds := [.data], laidTests := true, laidLooks := .later }
def DivQuotientsUptoCardSaid : Prop := Claim7.holds Tryz.pinned (.plain (OpenSpec.upto divQuotientsSpec)) divQuotientsUptoCard

/-- THE SECOND FORM's CARD OF 'abacuslaw15.FmaAdds'. -/
def fmaAddsUptoCard : Claim7 := { stood := { row := fmaAddsUptoRow, standIns := [], harness := (true, "23555940d19f8c80287f22facda927c85f8ade03e96f23874064bed5637a4e45"), looks := false }, kinds := [], alts := [], laidByText := true, laidKinds := [.data], laidTests := true, laidLooks := .later }
def FmaAddsUptoCardSaid : Prop := Claim7.holds Tryz.pinned (.plain (OpenSpec.upto fmaAddsSpec)) fmaAddsUptoCard

/-- THE SECOND FORM's CARD OF 'abacuslaw15.FmaTurns'. -/
def fmaTurnsUptoCard : Claim7 := { stood := { row := fmaTurnsUptoRow, standIns := [], harness := (true, "23555940d19f8c80287f22facda927c85f8ade03e96f23874064bed5637a4e45"), looks := false }, kinds := [], alts := [], laidByText := true, laidKinds := [.data], laidTests := true, laidLooks := .later }
def FmaTurnsUptoCardSaid : Prop := Claim7.holds Tryz.pinned (.plain (OpenSpec.upto fmaTurnsSpec)) fmaTurnsUptoCard

/-- THE SECOND FORM's CARD OF 'abacuslaw15.FmaDots'. -/
def fmaDotsUptoCard : Claim7 := { stood := { row := fmaDotsUptoRow, standIns := [], harness := (true, "23555940d19f8c80287f22facda927c85f8ade03e96f23874064bed5637a4e45"), looks := false }, kinds := [], alts := [], laidByText := true, laidKinds := [.data], laidTests := true, laidLooks := .later }
def FmaDotsUptoCardSaid : Prop := Claim7.holds Tryz.pinned (.plain (OpenSpec.upto fmaDotsSpec)) fmaDotsUptoCard

/-- THE SECOND FORM's CARD OF 'abacuslaw15.FmaSingle'. -/
def fmaSingleUptoCard : Claim7 := { stood := { row := fmaSingleUptoRow, standIns := [], harness := (true, "23555940d19f8c80287f22facda927c85f8ade03e96f23874064bed5637a4e45"), looks := false }, kinds := [], alts := [], laidByText := true, laidKinds := [.data], laidTests := true, laidLooks := .later }
def FmaSingleUptoCardSaid : Prop := Claim7.holds Tryz.pinned (.plain (OpenSpec.upto fmaSingleSpec)) fmaSingleUptoCard

/-- THE SECOND FORM's CARD OF 'abacuslaw15.FmaInvalid'. -/
def fmaInvalidUptoCard : Claim7 := { stood := { row := fmaInvalidUptoRow, standIns := [], harness := (true, "23555940d19f8c80287f22facda927c85f8ade03e96f23874064bed5637a4e45"), looks := false }, kinds := [], alts := [], laidByText := true, laidKinds := [.data], laidTests := true, laidLooks := .later }
def FmaInvalidUptoCardSaid : Prop := Claim7.holds Tryz.pinned (.plain (OpenSpec.upto fmaInvalidSpec)) fmaInvalidUptoCard
end Rows
end Go.Proofs.YtapikkbifdldfaaGreatDoor
