/-
  NARROWER THAN 'FOR EVERY INPUT', by the rows' own cells (each row's printed sentence says how): DivQuotients: laid · FmaAdds: laid · FmaTurns: laid · FmaDots: laid · FmaSingle: laid · FmaInvalid: laid.
  DERIVED. THE GIVEN ROWS OF THIS SEAT. 6 by the template 'for every input the law returns true; each argument reads behind the call as it read before'; 0 by the template 'total and deterministic' (their statements: YtapikkbifdldfaaGreatDoorTotals.lean).
  GIVEN WITH THE SEED: the statements are not yours to turn. If you find one false, say at which input.
  Laid BY PROGRAM, IN A SANDBOX (cutbox-rows.mjs): the forced cells as the released guide's own fill.sh prints them over the translation bc3eac8f7f450e4f… (all of the seat's roots in one cut). By AI agents, Wed Nov 11 2026. No macro, syntax, notation, axiom, sorry.
-/
import Derived.Test.YtapikkbifdldfaaGreatDoorChecked
import GoSem.Claim
import GoSem.ClaimJoined
import GoSem.ClaimMapViews
import Derived.JoinedTies
import Derived.KernelRfl
namespace Go.Proofs.YtapikkbifdldfaaGreatDoor
/- THE CELL 'sum', in the pinned program and in every row, IS THE sha256 OF THE DUMP (.gsa) THAT YtapikkbifdldfaaGreatDoorProg.lean LOADS. Nothing in Lean hashes anything: it is a label: what it is worth is what the hold of that sum in a sandbox is worth. -/
noncomputable def Tryz.pinned : Pinned := { name := "ytapikkbifdldfaagreatdoor", sum := "bc3eac8f7f450e4fae1a8354f8eb2ad5f8535ae9f30d40c94d12ffa6e8a998c6", checked := Tryz.checked }
namespace Rows
def none {H : Type} : Left H := { results := [], args := [] }

/- WHAT THE LISTED PACKAGE-LEVEL VARIABLES READ AS WHEN THE CALL BEGINS. Each datum BY PROGRAM (the guide's laid-datum.mjs) off the statement by which the dump's own 'gosem.cut.vars' lays the variable. In a bare row this is a premise. The card (YtapikkbifdldfaaGreatDoorCards.lean) ties it to the program's text. -/
def laid_abacus_shape_formats {H : Type} : DataW H := .agg [.agg [.lit (.int .i64 32), .lit (.int .i64 24), .lit (.int .i64 127), .lit (.string [115])], .agg [.lit (.int .i64 64), .lit (.int .i64 53), .lit (.int .i64 1023), .lit (.string [100])], .agg [.lit (.int .i64 16), .lit (.int .i64 11), .lit (.int .i64 15), .lit (.string [104])], .agg [.lit (.int .i64 128), .lit (.int .i64 113), .lit (.int .i64 16383), .lit (.string [113])]]

/-- 'abacuslaw13.DivQuotients': WHATEVER THE INPUT: true; the input reads as it did. -/
def divQuotientsSpec : ChangeSpec := { name := "divQuotients", fn := fun _ => fun
  | [d1, d2, d3, d4] => { results := [.lit (.bool true)], args := [d1, d2, d3, d4] }
  | _ => none }
def divQuotientsRow : OpenClaim := { program := "ytapikkbifdldfaagreatdoor", sum := "bc3eac8f7f450e4fae1a8354f8eb2ad5f8535ae9f30d40c94d12ffa6e8a998c6", func := "abacus/abacuslaw13.DivQuotients", spec := "divQuotients", named := ["abacus/shape.formats"], apart := false, laid := [("abacus/shape.formats", laid_abacus_shape_formats)] }
def DivQuotientsSaid : Prop := divQuotientsRow.holds Tryz.pinned (OpenSpec.ofChange divQuotientsSpec)

/-- ITS FALSE NEIGHBOUR: 'it returns false'. Refute it at one input. -/
def divQuotientsWrong : ChangeSpec := { name := "divQuotients", fn := fun _ => fun
  | [d1, d2, d3, d4] => { results := [.lit (.bool false)], args := [d1, d2, d3, d4] }
  | _ => none }
def DivQuotientsWrongFalsely : Prop := divQuotientsRow.holds Tryz.pinned (OpenSpec.ofChange divQuotientsWrong)

/-- 'abacuslaw15.FmaAdds': WHATEVER THE INPUT: true; the input reads as it did. -/
def fmaAddsSpec : ChangeSpec := { name := "fmaAdds", fn := fun _ => fun
  | [d1, d2, d3, d4, d5] => { results := [.lit (.bool true)], args := [d1, d2, d3, d4, d5] }
  | _ => none }
def fmaAddsRow : OpenClaim := { program := "ytapikkbifdldfaagreatdoor", sum := "bc3eac8f7f450e4fae1a8354f8eb2ad5f8535ae9f30d40c94d12ffa6e8a998c6", func := "abacus/abacuslaw15.FmaAdds", spec := "fmaAdds", named := ["abacus/shape.formats"], apart := false, laid := [("abacus/shape.formats", laid_abacus_shape_formats)] }
def FmaAddsSaid : Prop := fmaAddsRow.holds Tryz.pinned (OpenSpec.ofChange fmaAddsSpec)

/-- ITS FALSE NEIGHBOUR: 'it returns false'. Refute it at one input. -/
def fmaAddsWrong : ChangeSpec := { name := "fmaAdds", fn := fun _ => fun
  | [d1, d2, d3, d4, d5] => { results := [.lit (.bool false)], args := [d1, d2, d3, d4, d5] }
  | _ => none }
def FmaAddsWrongFalsely : Prop := fmaAddsRow.holds Tryz.pinned (OpenSpec.ofChange fmaAddsWrong)

/-- 'abacuslaw15.FmaTurns': WHATEVER THE INPUT: true; the input reads as it did. -/
def fmaTurnsSpec : ChangeSpec := { name := "fmaTurns", fn := fun _ => fun
  | [d1, d2, d3, d4, d5] => { results := [.lit (.bool true)], args := [d1, d2, d3, d4, d5] }
  | _ => none }
def fmaTurnsRow : OpenClaim := { program := "ytapikkbifdldfaagreatdoor", sum := "bc3eac8f7f450e4fae1a8354f8eb2ad5f8535ae9f30d40c94d12ffa6e8a998c6", func := "abacus/abacuslaw15.FmaTurns", spec := "fmaTurns", named := ["abacus/shape.formats"], apart := false, laid := [("abacus/shape.formats", laid_abacus_shape_formats)] }
def FmaTurnsSaid : Prop := fmaTurnsRow.holds Tryz.pinned (OpenSpec.ofChange fmaTurnsSpec)

/-- ITS FALSE NEIGHBOUR: 'it returns false'. Refute it at one input. -/
def fmaTurnsWrong : ChangeSpec := { name := "fmaTurns", fn := fun _ => fun
  | [d1, d2, d3, d4, d5] => { results := [.lit (.bool false)], args := [d1, d2, d3, d4, d5] }
  | _ => none }
def FmaTurnsWrongFalsely : Prop := fmaTurnsRow.holds Tryz.pinned (OpenSpec.ofChange fmaTurnsWrong)

/-- 'abacuslaw15.FmaDots': WHATEVER THE INPUT: true; the input reads as it did. -/
def fmaDotsSpec : ChangeSpec := { name := "fmaDots", fn := fun _ => fun
  | [d1, d2, d3, d4] => { results := [.lit (.bool true)], args := [d1, d2, d3, d4] }
  | _ => none }
def fmaDotsRow : OpenClaim := { program := "ytapikkbifdldfaagreatdoor", sum := "bc3eac8f7f450e4fae1a8354f8eb2ad5f8535ae9f30d40c94d12ffa6e8a998c6", func := "abacus/abacuslaw15.FmaDots", spec := "fmaDots", named := ["abacus/shape.formats"], apart := false, laid := [("abacus/shape.formats", laid_abacus_shape_formats)] }
def FmaDotsSaid : Prop := fmaDotsRow.holds Tryz.pinned (OpenSpec.ofChange fmaDotsSpec)

/-- ITS FALSE NEIGHBOUR: 'it returns false'. Refute it at one input. -/
def fmaDotsWrong : ChangeSpec := { name := "fmaDots", fn := fun _ => fun
  | [d1, d2, d3, d4] => { results := [.lit (.bool false)], args := [d1, d2, d3, d4] }
  | _ => none }
def FmaDotsWrongFalsely : Prop := fmaDotsRow.holds Tryz.pinned (OpenSpec.ofChange fmaDotsWrong)

/-- 'abacuslaw15.FmaSingle': WHATEVER THE INPUT: true; the input reads as it did. -/
def fmaSingleSpec : ChangeSpec := { name := "fmaSingle", fn := fun _ => fun
  | [d1, d2, d3, d4, d5] => { results := [.lit (.bool true)], args := [d1, d2, d3, d4, d5] }
  | _ => none }
def fmaSingleRow : OpenClaim := { program := "ytapikkbifdldfaagreatdoor", sum := "bc3eac8f7f450e4fae1a8354f8eb2ad5f8535ae9f30d40c94d12ffa6e8a998c6", func := "abacus/abacuslaw15.FmaSingle", spec := "fmaSingle", named := ["abacus/shape.formats"], apart := false, laid := [("abacus/shape.formats", laid_abacus_shape_formats)] }
def FmaSingleSaid : Prop := fmaSingleRow.holds Tryz.pinned (OpenSpec.ofChange fmaSingleSpec)

/-- ITS FALSE NEIGHBOUR: 'it returns false'. Refute it at one input. -/
def fmaSingleWrong : ChangeSpec := { name := "fmaSingle", fn := fun _ => fun
  | [d1, d2, d3, d4, d5] => { results := [.lit (.bool false)], args := [d1, d2, d3, d4, d5] }
  | _ => none }
def FmaSingleWrongFalsely : Prop := fmaSingleRow.holds Tryz.pinned (OpenSpec.ofChange fmaSingleWrong)

/-- 'abacuslaw15.FmaInvalid': WHATEVER THE INPUT: true; the input reads as it did. -/
def fmaInvalidSpec : ChangeSpec := { name := "fmaInvalid", fn := fun _ => fun
  | [d1, d2, d3, d4, d5, d6] => { results := [.lit (.bool true)], args := [d1, d2, d3, d4, d5, d6] }
  | _ => none }
def fmaInvalidRow : OpenClaim := { program := "ytapikkbifdldfaagreatdoor", sum := "bc3eac8f7f450e4fae1a8354f8eb2ad5f8535ae9f30d40c94d12ffa6e8a998c6", func := "abacus/abacuslaw15.FmaInvalid", spec := "fmaInvalid", named := ["abacus/shape.formats"], apart := false, laid := [("abacus/shape.formats", laid_abacus_shape_formats)] }
def FmaInvalidSaid : Prop := fmaInvalidRow.holds Tryz.pinned (OpenSpec.ofChange fmaInvalidSpec)

/-- ITS FALSE NEIGHBOUR: 'it returns false'. Refute it at one input. -/
def fmaInvalidWrong : ChangeSpec := { name := "fmaInvalid", fn := fun _ => fun
  | [d1, d2, d3, d4, d5, d6] => { results := [.lit (.bool false)], args := [d1, d2, d3, d4, d5, d6] }
  | _ => none }
def FmaInvalidWrongFalsely : Prop := fmaInvalidRow.holds Tryz.pinned (OpenSpec.ofChange fmaInvalidWrong)

/- THE SECOND FORM. 'bulk': how many values and letters a reading holds, each counted each time it is reached (what is shared counts as often as it is met; a slice's spare places count too). A statement '..UptoSaid' is the law's where the arguments, and the package variables that the reading takes, are together of bulk at most 1048576: NARROWER than '..Said'. Prove '..Said' where nothing that the law and all that it calls make is longer than what came in: it says more and counts as full. Else prove '..UptoSaid'. A law counts once. -/
mutual
def uptoBulk {H : Type} : DataW H → Nat
  | .lit (.string bytes) => bytes.length + 1
  | .lit _ => 1
  | .nil => 1
  | .ptr d => uptoBulk d + 1
  | .slice elems spare => uptoBulkAll elems + uptoBulkAll spare + 1
  | .agg parts => uptoBulkAll parts + 1
  | .iface _ d => uptoBulk d + 1
  | .map entries => uptoBulkEntries entries + 1
  | .held _ => 1
def uptoBulkAll {H : Type} : List (DataW H) → Nat
  | [] => 0
  | d :: r => uptoBulk d + uptoBulkAll r
def uptoBulkEntries {H : Type} : List (Lit × DataW H) → Nat
  | [] => 0
  | x :: r => uptoBulkEntry x + uptoBulkEntries r
def uptoBulkEntry {H : Type} : Lit × DataW H → Nat
  | (.string bytes, d) => bytes.length + uptoBulk d + 1
  | (_, d) => uptoBulk d + 1
 end
def uptoSmall : (H : Type) → List (DataW H) → Bool := fun _ ds => decide (uptoBulkAll ds ≤ 1048576)
def OpenSpec.upto (s : _root_.Go.ChangeSpec) : _root_.Go.OpenSpec := { _root_.Go.OpenSpec.ofChange s with cond := some uptoSmall }

/-- 'abacuslaw13.DivQuotients', WHERE WHAT IT READS IS OF BULK AT MOST 1048576: true; the input reads as it did. -/
def divQuotientsUptoRow : OpenClaim := { program := "ytapikkbifdldfaagreatdoor", sum := "bc3eac8f7f450e4fae1a8354f8eb2ad5f8535ae9f30d40c94d12ffa6e8a998c6", func := "abacus/abacuslaw13.DivQuotients", spec := "divQuotients", named := ["abacus/shape.formats"], apart := false, laid := [("abacus/shape.formats", laid_abacus_shape_formats)], narrowed := true }
def DivQuotientsUptoSaid : Prop := divQuotientsUptoRow.holds Tryz.pinned (OpenSpec.upto divQuotientsSpec)

/-- 'abacuslaw15.FmaAdds', WHERE WHAT IT READS IS OF BULK AT MOST 1048576: true; the input reads as it did. -/
def fmaAddsUptoRow : OpenClaim := { program := "ytapikkbifdldfaagreatdoor", sum := "bc3eac8f7f450e4fae1a8354f8eb2ad5f8535ae9f30d40c94d12ffa6e8a998c6", func := "abacus/abacuslaw15.FmaAdds", spec := "fmaAdds", named := ["abacus/shape.formats"], apart := false, laid := [("abacus/shape.formats", laid_abacus_shape_formats)], narrowed := true }
def FmaAddsUptoSaid : Prop := fmaAddsUptoRow.holds Tryz.pinned (OpenSpec.upto fmaAddsSpec)

/-- 'abacuslaw15.FmaTurns', WHERE WHAT IT READS IS OF BULK AT MOST 1048576: true; the input reads as it did. -/
def fmaTurnsUptoRow : OpenClaim := { program := "ytapikkbifdldfaagreatdoor", sum := "bc3eac8f7f450e4fae1a8354f8eb2ad5f8535ae9f30d40c94d12ffa6e8a998c6", func := "abacus/abacuslaw15.FmaTurns", spec := "fmaTurns", named := ["abacus/shape.formats"], apart := false, laid := [("abacus/shape.formats", laid_abacus_shape_formats)], narrowed := true }
def FmaTurnsUptoSaid : Prop := fmaTurnsUptoRow.holds Tryz.pinned (OpenSpec.upto fmaTurnsSpec)

/-- 'abacuslaw15.FmaDots', WHERE WHAT IT READS IS OF BULK AT MOST 1048576: true; the input reads as it did. -/
def fmaDotsUptoRow : OpenClaim := { program := "ytapikkbifdldfaagreatdoor", sum := "bc3eac8f7f450e4fae1a8354f8eb2ad5f8535ae9f30d40c94d12ffa6e8a998c6", func := "abacus/abacuslaw15.FmaDots", spec := "fmaDots", named := ["abacus/shape.formats"], apart := false, laid := [("abacus/shape.formats", laid_abacus_shape_formats)], narrowed := true }
def FmaDotsUptoSaid : Prop := fmaDotsUptoRow.holds Tryz.pinned (OpenSpec.upto fmaDotsSpec)

/-- 'abacuslaw15.FmaSingle', WHERE WHAT IT READS IS OF BULK AT MOST 1048576: true; the input reads as it did. -/
def fmaSingleUptoRow : OpenClaim := { program := "ytapikkbifdldfaagreatdoor", sum := "bc3eac8f7f450e4fae1a8354f8eb2ad5f8535ae9f30d40c94d12ffa6e8a998c6", func := "abacus/abacuslaw15.FmaSingle", spec := "fmaSingle", named := ["abacus/shape.formats"], apart := false, laid := [("abacus/shape.formats", laid_abacus_shape_formats)], narrowed := true }
def FmaSingleUptoSaid : Prop := fmaSingleUptoRow.holds Tryz.pinned (OpenSpec.upto fmaSingleSpec)

/-- 'abacuslaw15.FmaInvalid', WHERE WHAT IT READS IS OF BULK AT MOST 1048576: true; the input reads as it did. -/
def fmaInvalidUptoRow : OpenClaim := { program := "ytapikkbifdldfaagreatdoor", sum := "bc3eac8f7f450e4fae1a8354f8eb2ad5f8535ae9f30d40c94d12ffa6e8a998c6", func := "abacus/abacuslaw15.FmaInvalid", spec := "fmaInvalid", named := ["abacus/shape.formats"], apart := false, laid := [("abacus/shape.formats", laid_abacus_shape_formats)], narrowed := true }
def FmaInvalidUptoSaid : Prop := fmaInvalidUptoRow.holds Tryz.pinned (OpenSpec.upto fmaInvalidSpec)

end Rows
end Go.Proofs.YtapikkbifdldfaaGreatDoor
