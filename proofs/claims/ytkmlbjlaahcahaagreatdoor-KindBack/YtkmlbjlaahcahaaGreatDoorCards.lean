/-
  DERIVED. GIVEN WITH THE SEED: THE CARDS: each row of YtkmlbjlaahcahaaGreatDoorRows.lean that lists a variable, with what it lists TIED to the program's text (the seventh form; the later family's looks); each row that meets fmt, with fmt's text TOLD by the authors' own Lean function (tested against real Go, not proved from fmt's source: count such statements apart). THE CARD IS WHAT COUNTS. Prove the row's statement (the work); the ties are given (YtkmlbjlaahcahaaGreatDoorTie.lean); close each card by the builder's one call (the guide's Derived/Test/ToyasCard.lean, 'card_holds'). Laid BY PROGRAM, IN A SANDBOX (cutbox-door.mjs). By AI agents, Wed Nov 11 2026. No macro, syntax, notation, axiom, sorry.
-/
import Derived.Test.YtkmlbjlaahcahaaGreatDoorRows
import GoSem.ClaimSeven
namespace Go.Proofs.YtkmlbjlaahcahaaGreatDoor
namespace Rows

/-- THE TIED CARD OF 'abacuslaw08.KindValues'. -/
def kindValuesCard : Claim7 := { stood := { row := kindValuesRow, standIns := [], harness := (true, "3a95303dbe32332eeb2ec9339e887f36374356c9f27641a682c1a91f2858f569"), looks := true }, kinds := [], alts := [], laidByText := true, laidKinds := [.data, .data], laidTests := true, laidLooks := .later }
def KindValuesCardSaid : Prop := Claim7.holds Tryz.pinned (.plain (OpenSpec.ofChange kindValuesSpec)) kindValuesCard

/-- THE TIED CARD OF 'abacuslaw08.KindTexts'. -/
def kindTextsCard : Claim7 := { stood := { row := kindTextsRow, standIns := [], harness := (true, "3a95303dbe32332eeb2ec9339e887f36374356c9f27641a682c1a91f2858f569"), looks := true }, kinds := [], alts := [], laidByText := true, laidKinds := [.data, .data, .data, .sentinel, .sentinel, .data], laidTests := true, laidLooks := .later }
def KindTextsCardSaid : Prop := Claim7.holds Tryz.pinned (.plain (OpenSpec.ofChange kindTextsSpec)) kindTextsCard

/-- THE TIED CARD OF 'abacuslaw08.KindBack'. -/
def kindBackCard : Claim7 := { stood := { row := kindBackRow, standIns := [], harness := (true, "3a95303dbe32332eeb2ec9339e887f36374356c9f27641a682c1a91f2858f569"), looks := true }, kinds := [], alts := [], laidByText := true, laidKinds := [.data, .data, .data, .sentinel, .sentinel, .data], laidTests := true, laidLooks := .later }
def KindBackCardSaid : Prop := Claim7.holds Tryz.pinned (.plain (OpenSpec.ofChange kindBackSpec)) kindBackCard

/-- THE TIED CARD OF 'abacuslaw08.KindNext'. -/
def kindNextCard : Claim7 := { stood := { row := kindNextRow, standIns := [], harness := (true, "3a95303dbe32332eeb2ec9339e887f36374356c9f27641a682c1a91f2858f569"), looks := true }, kinds := [], alts := [], laidByText := true, laidKinds := [.data, .data], laidTests := true, laidLooks := .later }
def KindNextCardSaid : Prop := Claim7.holds Tryz.pinned (.plain (OpenSpec.ofChange kindNextSpec)) kindNextCard

/-- THE TIED CARD OF 'abacuslaw09.RuleRounds'. -/
def ruleRoundsCard : Claim7 := { stood := { row := ruleRoundsRow, standIns := [], harness := (true, "3a95303dbe32332eeb2ec9339e887f36374356c9f27641a682c1a91f2858f569"), looks := true }, kinds := [], alts := [], laidByText := true, laidKinds := [.data, .data], laidTests := true, laidLooks := .later }
def RuleRoundsCardSaid : Prop := Claim7.holds Tryz.pinned (.plain (OpenSpec.ofChange ruleRoundsSpec)) ruleRoundsCard

/-- THE SECOND FORM's CARD OF 'abacuslaw08.KindValues'. -/
def kindValuesUptoCard : Claim7 := { stood := { row := kindValuesUptoRow, standIns := [], harness := (true, "3a95303dbe32332eeb2ec9339e887f36374356c9f27641a682c1a91f2858f569"), looks := true }, kinds := [], alts := [], laidByText := true, laidKinds := [.data, .data], laidTests := true, laidLooks := .later }
def KindValuesUptoCardSaid : Prop := Claim7.holds Tryz.pinned (.plain (OpenSpec.upto kindValuesSpec)) kindValuesUptoCard

/-- THE SECOND FORM's CARD OF 'abacuslaw08.KindTexts'. -/
def kindTextsUptoCard : Claim7 := { stood := { row := kindTextsUptoRow, standIns := [], harness := (true, "3a95303dbe32332eeb2ec9339e887f36374356c9f27641a682c1a91f2858f569"), looks := true }, kinds := [], alts := [], laidByText := true, laidKinds := [.data, .data, .data, .sentinel, .sentinel, .data], laidTests := true, laidLooks := .later }
def KindTextsUptoCardSaid : Prop := Claim7.holds Tryz.pinned (.plain (OpenSpec.upto kindTextsSpec)) kindTextsUptoCard

/-- THE SECOND FORM's CARD OF 'abacuslaw08.KindBack'. -/
def kindBackUptoCard : Claim7 := { stood := { row := kindBackUptoRow, standIns := [], harness := (true, "3a95303dbe32332eeb2ec9339e887f36374356c9f27641a682c1a91f2858f569"), looks := true }, kinds := [], alts := [], laidByText := true, laidKinds := [.data, .data, .data, .sentinel, .sentinel, .data], laidTests := true, laidLooks := .later }
def KindBackUptoCardSaid : Prop := Claim7.holds Tryz.pinned (.plain (OpenSpec.upto kindBackSpec)) kindBackUptoCard

/-- THE SECOND FORM's CARD OF 'abacuslaw08.KindNext'. -/
def kindNextUptoCard : Claim7 := { stood := { row := kindNextUptoRow, standIns := [], harness := (true, "3a95303dbe32332eeb2ec9339e887f36374356c9f27641a682c1a91f2858f569"), looks := true }, kinds := [], alts := [], laidByText := true, laidKinds := [.data, .data], laidTests := true, laidLooks := .later }
def KindNextUptoCardSaid : Prop := Claim7.holds Tryz.pinned (.plain (OpenSpec.upto kindNextSpec)) kindNextUptoCard

/-- THE SECOND FORM's CARD OF 'abacuslaw09.RuleRounds'. -/
def ruleRoundsUptoCard : Claim7 := { stood := { row := ruleRoundsUptoRow, standIns := [], harness := (true, "3a95303dbe32332eeb2ec9339e887f36374356c9f27641a682c1a91f2858f569"), looks := true }, kinds := [], alts := [], laidByText := true, laidKinds := [.data, .data], laidTests := true, laidLooks := .later }
def RuleRoundsUptoCardSaid : Prop := Claim7.holds Tryz.pinned (.plain (OpenSpec.upto ruleRoundsSpec)) ruleRoundsUptoCard
end Rows
end Go.Proofs.YtkmlbjlaahcahaaGreatDoor
