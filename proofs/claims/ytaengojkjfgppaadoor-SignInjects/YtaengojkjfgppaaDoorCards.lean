/-
  DERIVED. GIVEN WITH THE SEED: THE CARDS: each row of YtaengojkjfgppaaDoorRows.lean that lists a variable, with what it lists TIED to the program's text (the seventh form; the later family's looks); each row that meets fmt, with fmt's text TOLD by the authors' own Lean function (tested against real Go, not proved from fmt's source: count such statements apart). THE CARD IS WHAT COUNTS. Prove the row's statement (the work); the ties are given (YtaengojkjfgppaaDoorTie.lean); close each card by the builder's one call (the guide's Derived/Test/ToyasCard.lean, 'card_holds'). Laid BY PROGRAM, IN A SANDBOX (cutbox-door.mjs). By AI agents, Wed Nov 11 2026. No macro, syntax, notation, axiom, sorry.
-/
import Derived.Test.YtaengojkjfgppaaDoorRows
import GoSem.ClaimSeven
namespace Go.Proofs.YtaengojkjfgppaaDoor
namespace Rows

/-- THE TIED CARD OF 'abacuslaw17.SignInjects'. -/
def signInjectsCard : Claim7 := { stood := { row := signInjectsRow, standIns := [], harness := (true, "2e1f5047f68fb4cf8d204d1f40abbe9c542650a4697a6a98341e433243bd80b5"), looks := false }, kinds := [], alts := [], laidByText := true, laidKinds := [.data], laidTests := true, laidLooks := .later }
def SignInjectsCardSaid : Prop := Claim7.holds Tryd.pinned (.plain (OpenSpec.ofChange signInjectsSpec)) signInjectsCard

/-- THE TIED CARD OF 'abacuslaw17.SignWords'. -/
def signWordsCard : Claim7 := { stood := { row := signWordsRow, standIns := [], harness := (true, "2e1f5047f68fb4cf8d204d1f40abbe9c542650a4697a6a98341e433243bd80b5"), looks := false }, kinds := [], alts := [], laidByText := true, laidKinds := [.data], laidTests := true, laidLooks := .later }
def SignWordsCardSaid : Prop := Claim7.holds Tryd.pinned (.plain (OpenSpec.ofChange signWordsSpec)) signWordsCard

/-- THE TIED CARD OF 'abacuslaw17.SignBack'. -/
def signBackCard : Claim7 := { stood := { row := signBackRow, standIns := [], harness := (true, "2e1f5047f68fb4cf8d204d1f40abbe9c542650a4697a6a98341e433243bd80b5"), looks := false }, kinds := [], alts := [], laidByText := true, laidKinds := [.data], laidTests := true, laidLooks := .later }
def SignBackCardSaid : Prop := Claim7.holds Tryd.pinned (.plain (OpenSpec.ofChange signBackSpec)) signBackCard

/-- THE SECOND FORM's CARD OF 'abacuslaw17.SignInjects'. -/
def signInjectsUptoCard : Claim7 := { stood := { row := signInjectsUptoRow, standIns := [], harness := (true, "2e1f5047f68fb4cf8d204d1f40abbe9c542650a4697a6a98341e433243bd80b5"), looks := false }, kinds := [], alts := [], laidByText := true, laidKinds := [.data], laidTests := true, laidLooks := .later }
def SignInjectsUptoCardSaid : Prop := Claim7.holds Tryd.pinned (.plain (OpenSpec.upto signInjectsSpec)) signInjectsUptoCard

/-- THE SECOND FORM's CARD OF 'abacuslaw17.SignWords'. -/
def signWordsUptoCard : Claim7 := { stood := { row := signWordsUptoRow, standIns := [], harness := (true, "2e1f5047f68fb4cf8d204d1f40abbe9c542650a4697a6a98341e433243bd80b5"), looks := false }, kinds := [], alts := [], laidByText := true, laidKinds := [.data], laidTests := true, laidLooks := .later }
def SignWordsUptoCardSaid : Prop := Claim7.holds Tryd.pinned (.plain (OpenSpec.upto signWordsSpec)) signWordsUptoCard

/-- THE SECOND FORM's CARD OF 'abacuslaw17.SignBack'. -/
def signBackUptoCard : Claim7 := { stood := { row := signBackUptoRow, standIns := [], harness := (true, "2e1f5047f68fb4cf8d204d1f40abbe9c542650a4697a6a98341e433243bd80b5"), looks := false }, kinds := [], alts := [], laidByText := true, laidKinds := [.data], laidTests := true, laidLooks := .later }
def SignBackUptoCardSaid : Prop := Claim7.holds Tryd.pinned (.plain (OpenSpec.upto signBackSpec)) signBackUptoCard
end Rows
end Go.Proofs.YtaengojkjfgppaaDoor
