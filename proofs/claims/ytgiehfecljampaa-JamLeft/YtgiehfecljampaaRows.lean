/-
  No cell of these rows narrows 'for every input' (looked for: loops, veiled, ifaces, maps, wideKeys, modest, calm, conditions, laid).
  DERIVED. THE GIVEN ROWS OF THIS SEAT. 6 by the template 'for every input the law returns true; each argument reads behind the call as it read before'; 0 by the template 'total and deterministic' (their statements: YtgiehfecljampaaTotals.lean).
  GIVEN WITH THE SEED: the statements are not yours to turn. If you find one false, say at which input.
  Laid BY PROGRAM, IN A SANDBOX (cutbox-rows.mjs): the forced cells as the released guide's own fill.sh prints them over the translation 7d50f74c527b97f5… (all of the seat's roots in one cut). By AI agents, Wed Nov 11 2026. No macro, syntax, notation, axiom, sorry.
-/
import Derived.Test.YtgiehfecljampaaChecked
import GoSem.Claim
import GoSem.ClaimJoined
import GoSem.ClaimMapViews
import Derived.JoinedTies
import Derived.KernelRfl
namespace Go.Proofs.Ytgiehfecljampaa
/- THE CELL 'sum', in the pinned program and in every row, IS THE sha256 OF THE DUMP (.gsa) THAT YtgiehfecljampaaProg.lean LOADS. Nothing in Lean hashes anything: it is a label: what it is worth is what the hold of that sum in a sandbox is worth. -/
noncomputable def Try.pinned : Pinned := { name := "ytgiehfecljampaa", sum := "7d50f74c527b97f548122b35f426864932da10037cc11419279de8baaf317ac6", checked := Try.checked }
namespace Rows
def none {H : Type} : Left H := { results := [], args := [] }

/-- 'abacuslaw04.JamRights': WHATEVER THE INPUT: true; the input reads as it did. -/
def jamRightsSpec : ChangeSpec := { name := "jamRights", fn := fun _ => fun
  | [d1, d2] => { results := [.lit (.bool true)], args := [d1, d2] }
  | _ => none }
def jamRightsRow : OpenClaim := { program := "ytgiehfecljampaa", sum := "7d50f74c527b97f548122b35f426864932da10037cc11419279de8baaf317ac6", func := "abacus/abacuslaw04.JamRights", spec := "jamRights", apart := false }
def JamRightsSaid : Prop := jamRightsRow.holds Try.pinned (OpenSpec.ofChange jamRightsSpec)

/-- ITS FALSE NEIGHBOUR: 'it returns false'. Refute it at one input. -/
def jamRightsWrong : ChangeSpec := { name := "jamRights", fn := fun _ => fun
  | [d1, d2] => { results := [.lit (.bool false)], args := [d1, d2] }
  | _ => none }
def JamRightsWrongFalsely : Prop := jamRightsRow.holds Try.pinned (OpenSpec.ofChange jamRightsWrong)

/-- 'abacuslaw04.JamCuts': WHATEVER THE INPUT: true; the input reads as it did. -/
def jamCutsSpec : ChangeSpec := { name := "jamCuts", fn := fun _ => fun
  | [d1, d2] => { results := [.lit (.bool true)], args := [d1, d2] }
  | _ => none }
def jamCutsRow : OpenClaim := { program := "ytgiehfecljampaa", sum := "7d50f74c527b97f548122b35f426864932da10037cc11419279de8baaf317ac6", func := "abacus/abacuslaw04.JamCuts", spec := "jamCuts", apart := false }
def JamCutsSaid : Prop := jamCutsRow.holds Try.pinned (OpenSpec.ofChange jamCutsSpec)

/-- ITS FALSE NEIGHBOUR: 'it returns false'. Refute it at one input. -/
def jamCutsWrong : ChangeSpec := { name := "jamCuts", fn := fun _ => fun
  | [d1, d2] => { results := [.lit (.bool false)], args := [d1, d2] }
  | _ => none }
def JamCutsWrongFalsely : Prop := jamCutsRow.holds Try.pinned (OpenSpec.ofChange jamCutsWrong)

/-- 'abacuslaw04.JamTops': WHATEVER THE INPUT: true; the input reads as it did. -/
def jamTopsSpec : ChangeSpec := { name := "jamTops", fn := fun _ => fun
  | [d1, d2] => { results := [.lit (.bool true)], args := [d1, d2] }
  | _ => none }
def jamTopsRow : OpenClaim := { program := "ytgiehfecljampaa", sum := "7d50f74c527b97f548122b35f426864932da10037cc11419279de8baaf317ac6", func := "abacus/abacuslaw04.JamTops", spec := "jamTops", apart := false }
def JamTopsSaid : Prop := jamTopsRow.holds Try.pinned (OpenSpec.ofChange jamTopsSpec)

/-- ITS FALSE NEIGHBOUR: 'it returns false'. Refute it at one input. -/
def jamTopsWrong : ChangeSpec := { name := "jamTops", fn := fun _ => fun
  | [d1, d2] => { results := [.lit (.bool false)], args := [d1, d2] }
  | _ => none }
def JamTopsWrongFalsely : Prop := jamTopsRow.holds Try.pinned (OpenSpec.ofChange jamTopsWrong)

/-- 'abacuslaw04.JamTwice': WHATEVER THE INPUT: true; the input reads as it did. -/
def jamTwiceSpec : ChangeSpec := { name := "jamTwice", fn := fun _ => fun
  | [d1, d2, d3] => { results := [.lit (.bool true)], args := [d1, d2, d3] }
  | _ => none }
def jamTwiceRow : OpenClaim := { program := "ytgiehfecljampaa", sum := "7d50f74c527b97f548122b35f426864932da10037cc11419279de8baaf317ac6", func := "abacus/abacuslaw04.JamTwice", spec := "jamTwice", apart := false }
def JamTwiceSaid : Prop := jamTwiceRow.holds Try.pinned (OpenSpec.ofChange jamTwiceSpec)

/-- ITS FALSE NEIGHBOUR: 'it returns false'. Refute it at one input. -/
def jamTwiceWrong : ChangeSpec := { name := "jamTwice", fn := fun _ => fun
  | [d1, d2, d3] => { results := [.lit (.bool false)], args := [d1, d2, d3] }
  | _ => none }
def JamTwiceWrongFalsely : Prop := jamTwiceRow.holds Try.pinned (OpenSpec.ofChange jamTwiceWrong)

/-- 'abacuslaw04.JamParts': WHATEVER THE INPUT: true; the input reads as it did. -/
def jamPartsSpec : ChangeSpec := { name := "jamParts", fn := fun _ => fun
  | [d1, d2] => { results := [.lit (.bool true)], args := [d1, d2] }
  | _ => none }
def jamPartsRow : OpenClaim := { program := "ytgiehfecljampaa", sum := "7d50f74c527b97f548122b35f426864932da10037cc11419279de8baaf317ac6", func := "abacus/abacuslaw04.JamParts", spec := "jamParts", apart := false }
def JamPartsSaid : Prop := jamPartsRow.holds Try.pinned (OpenSpec.ofChange jamPartsSpec)

/-- ITS FALSE NEIGHBOUR: 'it returns false'. Refute it at one input. -/
def jamPartsWrong : ChangeSpec := { name := "jamParts", fn := fun _ => fun
  | [d1, d2] => { results := [.lit (.bool false)], args := [d1, d2] }
  | _ => none }
def JamPartsWrongFalsely : Prop := jamPartsRow.holds Try.pinned (OpenSpec.ofChange jamPartsWrong)

/-- 'abacuslaw04.JamLeft': WHATEVER THE INPUT: true; the input reads as it did. -/
def jamLeftSpec : ChangeSpec := { name := "jamLeft", fn := fun _ => fun
  | [d1, d2] => { results := [.lit (.bool true)], args := [d1, d2] }
  | _ => none }
def jamLeftRow : OpenClaim := { program := "ytgiehfecljampaa", sum := "7d50f74c527b97f548122b35f426864932da10037cc11419279de8baaf317ac6", func := "abacus/abacuslaw04.JamLeft", spec := "jamLeft", apart := false }
def JamLeftSaid : Prop := jamLeftRow.holds Try.pinned (OpenSpec.ofChange jamLeftSpec)

/-- ITS FALSE NEIGHBOUR: 'it returns false'. Refute it at one input. -/
def jamLeftWrong : ChangeSpec := { name := "jamLeft", fn := fun _ => fun
  | [d1, d2] => { results := [.lit (.bool false)], args := [d1, d2] }
  | _ => none }
def JamLeftWrongFalsely : Prop := jamLeftRow.holds Try.pinned (OpenSpec.ofChange jamLeftWrong)

/- THE SECOND FORM. 'bulk': how many values and letters a reading holds, each counted each time it is reached (what is shared counts as often as it is met; a slice's spare places count too). A statement '..UptoSaid' is the law's where the arguments, and the package variables that the reading takes, are together of bulk at most 1048576: NARROWER than '..Said'. Prove '..Said' where nothing that the law and all that it calls make is longer than what came in: it says more and counts as full. Else prove '..UptoSaid'. A law counts once. -/
mutual
def uptoBulk {H : Type} : DataW H → Nat
  | .lit (.string bytes) => bytes.length + 1
  | .lit _ => 1
  | .nil => 1
  | .ptr d => uptoBulk d + 1
  | .slice elems spare => uptoBulkAll elems + uptoBulkAll spare + 1
  | .agg parts => uptoBulkAll parts + 1
  | .iface _ d => uptoBulk d + 1
  | .map entries => uptoBulkEntries entries + 1
  | .held _ => 1
def uptoBulkAll {H : Type} : List (DataW H) → Nat
  | [] => 0
  | d :: r => uptoBulk d + uptoBulkAll r
def uptoBulkEntries {H : Type} : List (Lit × DataW H) → Nat
  | [] => 0
  | x :: r => uptoBulkEntry x + uptoBulkEntries r
def uptoBulkEntry {H : Type} : Lit × DataW H → Nat
  | (.string bytes, d) => bytes.length + uptoBulk d + 1
  | (_, d) => uptoBulk d + 1
 end
def uptoSmall : (H : Type) → List (DataW H) → Bool := fun _ ds => decide (uptoBulkAll ds ≤ 1048576)
def OpenSpec.upto (s : _root_.Go.ChangeSpec) : _root_.Go.OpenSpec := { _root_.Go.OpenSpec.ofChange s with cond := some uptoSmall }

/-- 'abacuslaw04.JamRights', WHERE WHAT IT READS IS OF BULK AT MOST 1048576: true; the input reads as it did. -/
def jamRightsUptoRow : OpenClaim := { program := "ytgiehfecljampaa", sum := "7d50f74c527b97f548122b35f426864932da10037cc11419279de8baaf317ac6", func := "abacus/abacuslaw04.JamRights", spec := "jamRights", apart := false, narrowed := true }
def JamRightsUptoSaid : Prop := jamRightsUptoRow.holds Try.pinned (OpenSpec.upto jamRightsSpec)

/-- 'abacuslaw04.JamCuts', WHERE WHAT IT READS IS OF BULK AT MOST 1048576: true; the input reads as it did. -/
def jamCutsUptoRow : OpenClaim := { program := "ytgiehfecljampaa", sum := "7d50f74c527b97f548122b35f426864932da10037cc11419279de8baaf317ac6", func := "abacus/abacuslaw04.JamCuts", spec := "jamCuts", apart := false, narrowed := true }
def JamCutsUptoSaid : Prop := jamCutsUptoRow.holds Try.pinned (OpenSpec.upto jamCutsSpec)

/-- 'abacuslaw04.JamTops', WHERE WHAT IT READS IS OF BULK AT MOST 1048576: true; the input reads as it did. -/
def jamTopsUptoRow : OpenClaim := { program := "ytgiehfecljampaa", sum := "7d50f74c527b97f548122b35f426864932da10037cc11419279de8baaf317ac6", func := "abacus/abacuslaw04.JamTops", spec := "jamTops", apart := false, narrowed := true }
def JamTopsUptoSaid : Prop := jamTopsUptoRow.holds Try.pinned (OpenSpec.upto jamTopsSpec)

/-- 'abacuslaw04.JamTwice', WHERE WHAT IT READS IS OF BULK AT MOST 1048576: true; the input reads as it did. -/
def jamTwiceUptoRow : OpenClaim := { program := "ytgiehfecljampaa", sum := "7d50f74c527b97f548122b35f426864932da10037cc11419279de8baaf317ac6", func := "abacus/abacuslaw04.JamTwice", spec := "jamTwice", apart := false, narrowed := true }
def JamTwiceUptoSaid : Prop := jamTwiceUptoRow.holds Try.pinned (OpenSpec.upto jamTwiceSpec)

/-- 'abacuslaw04.JamParts', WHERE WHAT IT READS IS OF BULK AT MOST 1048576: true; the input reads as it did. -/
def jamPartsUptoRow : OpenClaim := { program := "ytgiehfecljampaa", sum := "7d50f74c527b97f548122b35f426864932da10037cc11419279de8baaf317ac6", func := "abacus/abacuslaw04.JamParts", spec := "jamParts", apart := false, narrowed := true }
def JamPartsUptoSaid : Prop := jamPartsUptoRow.holds Try.pinned (OpenSpec.upto jamPartsSpec)

/-- 'abacuslaw04.JamLeft', WHERE WHAT IT READS IS OF BULK AT MOST 1048576: true; the input reads as it did. -/
def jamLeftUptoRow : OpenClaim := { program := "ytgiehfecljampaa", sum := "7d50f74c527b97f548122b35f426864932da10037cc11419279de8baaf317ac6", func := "abacus/abacuslaw04.JamLeft", spec := "jamLeft", apart := false, narrowed := true }
def JamLeftUptoSaid : Prop := jamLeftUptoRow.holds Try.pinned (OpenSpec.upto jamLeftSpec)

end Rows
end Go.Proofs.Ytgiehfecljampaa
