/-
  NARROWER THAN 'FOR EVERY INPUT', by the rows' own cells (each row's printed sentence says how): BoxReads: laid · BoxForms: laid · BoxBack: laid · BoxWithin: laid.
  DERIVED. THE GIVEN ROWS OF THIS SEAT. 4 by the template 'for every input the law returns true; each argument reads behind the call as it read before'; 0 by the template 'total and deterministic' (their statements: YtakmlgcnfbiagaaDoorTotals.lean).
  GIVEN WITH THE SEED: the statements are not yours to turn. If you find one false, say at which input.
  Laid BY PROGRAM, IN A SANDBOX (cutbox-rows.mjs): the forced cells as the released guide's own fill.sh prints them over the translation 5cc8d4303ce2288f… (all of the seat's roots in one cut). By AI agents, Wed Nov 11 2026. No macro, syntax, notation, axiom, sorry.
-/
import Derived.Test.YtakmlgcnfbiagaaDoorChecked
import GoSem.Claim
import GoSem.ClaimJoined
import GoSem.ClaimMapViews
import Derived.JoinedTies
import Derived.KernelRfl
namespace Go.Proofs.YtakmlgcnfbiagaaDoor
/- THE CELL 'sum', in the pinned program and in every row, IS THE sha256 OF THE DUMP (.gsa) THAT YtakmlgcnfbiagaaDoorProg.lean LOADS. Nothing in Lean hashes anything: it is a label: what it is worth is what the hold of that sum in a sandbox is worth. -/
noncomputable def Tryd.pinned : Pinned := { name := "ytakmlgcnfbiagaadoor", sum := "5cc8d4303ce2288f31bf70c8a2f2176677a88cd0b174cbba4aa47d98f75c890d", checked := Tryd.checked }
namespace Rows
def none {H : Type} : Left H := { results := [], args := [] }

/- WHAT THE LISTED PACKAGE-LEVEL VARIABLES READ AS WHEN THE CALL BEGINS. Each datum BY PROGRAM (the guide's laid-datum.mjs) off the statement by which the dump's own 'gosem.cut.vars' lays the variable. In a bare row this is a premise. The card (YtakmlgcnfbiagaaDoorCards.lean) ties it to the program's text. -/
def laid_abacus_shape_formats {H : Type} : DataW H := .agg [.agg [.lit (.int .i64 32), .lit (.int .i64 24), .lit (.int .i64 127), .lit (.string [115])], .agg [.lit (.int .i64 64), .lit (.int .i64 53), .lit (.int .i64 1023), .lit (.string [100])], .agg [.lit (.int .i64 16), .lit (.int .i64 11), .lit (.int .i64 15), .lit (.string [104])], .agg [.lit (.int .i64 128), .lit (.int .i64 113), .lit (.int .i64 16383), .lit (.string [113])]]
def laid_abacus_box_above {H : Type} : DataW H := .agg [.agg [.lit (.int .u64 18446744073709551615), .lit (.int .u64 18446744069414584320)], .agg [.lit (.int .u64 18446744073709551615), .lit (.int .u64 0)], .agg [.lit (.int .u64 18446744073709551615), .lit (.int .u64 18446744073709486080)], .agg [.lit (.int .u64 0), .lit (.int .u64 0)]]

/-- 'abacuslaw22.BoxReads': WHATEVER THE INPUT: true; the input reads as it did. -/
def boxReadsSpec : ChangeSpec := { name := "boxReads", fn := fun _ => fun
  | [d1, d2] => { results := [.lit (.bool true)], args := [d1, d2] }
  | _ => none }
def boxReadsRow : OpenClaim := { program := "ytakmlgcnfbiagaadoor", sum := "5cc8d4303ce2288f31bf70c8a2f2176677a88cd0b174cbba4aa47d98f75c890d", func := "abacus/abacuslaw22.BoxReads", spec := "boxReads", named := ["abacus/box.above", "abacus/shape.formats"], apart := false, laid := [("abacus/shape.formats", laid_abacus_shape_formats), ("abacus/box.above", laid_abacus_box_above)] }
def BoxReadsSaid : Prop := boxReadsRow.holds Tryd.pinned (OpenSpec.ofChange boxReadsSpec)

/-- ITS FALSE NEIGHBOUR: 'it returns false'. Refute it at one input. -/
def boxReadsWrong : ChangeSpec := { name := "boxReads", fn := fun _ => fun
  | [d1, d2] => { results := [.lit (.bool false)], args := [d1, d2] }
  | _ => none }
def BoxReadsWrongFalsely : Prop := boxReadsRow.holds Tryd.pinned (OpenSpec.ofChange boxReadsWrong)

/-- 'abacuslaw22.BoxForms': WHATEVER THE INPUT: true; the input reads as it did. -/
def boxFormsSpec : ChangeSpec := { name := "boxForms", fn := fun _ => fun
  | [d1, d2, d3] => { results := [.lit (.bool true)], args := [d1, d2, d3] }
  | _ => none }
def boxFormsRow : OpenClaim := { program := "ytakmlgcnfbiagaadoor", sum := "5cc8d4303ce2288f31bf70c8a2f2176677a88cd0b174cbba4aa47d98f75c890d", func := "abacus/abacuslaw22.BoxForms", spec := "boxForms", unfollowed := true, recurses := true, named := ["abacus/box.above", "abacus/shape.formats"], apart := false, laid := [("abacus/shape.formats", laid_abacus_shape_formats), ("abacus/box.above", laid_abacus_box_above)] }
def BoxFormsSaid : Prop := boxFormsRow.holds Tryd.pinned (OpenSpec.ofChange boxFormsSpec)

/-- ITS FALSE NEIGHBOUR: 'it returns false'. Refute it at one input. -/
def boxFormsWrong : ChangeSpec := { name := "boxForms", fn := fun _ => fun
  | [d1, d2, d3] => { results := [.lit (.bool false)], args := [d1, d2, d3] }
  | _ => none }
def BoxFormsWrongFalsely : Prop := boxFormsRow.holds Tryd.pinned (OpenSpec.ofChange boxFormsWrong)

/-- 'abacuslaw22.BoxBack': WHATEVER THE INPUT: true; the input reads as it did. -/
def boxBackSpec : ChangeSpec := { name := "boxBack", fn := fun _ => fun
  | [d1, d2, d3] => { results := [.lit (.bool true)], args := [d1, d2, d3] }
  | _ => none }
def boxBackRow : OpenClaim := { program := "ytakmlgcnfbiagaadoor", sum := "5cc8d4303ce2288f31bf70c8a2f2176677a88cd0b174cbba4aa47d98f75c890d", func := "abacus/abacuslaw22.BoxBack", spec := "boxBack", named := ["abacus/box.above", "abacus/shape.formats"], apart := false, laid := [("abacus/shape.formats", laid_abacus_shape_formats), ("abacus/box.above", laid_abacus_box_above)] }
def BoxBackSaid : Prop := boxBackRow.holds Tryd.pinned (OpenSpec.ofChange boxBackSpec)

/-- ITS FALSE NEIGHBOUR: 'it returns false'. Refute it at one input. -/
def boxBackWrong : ChangeSpec := { name := "boxBack", fn := fun _ => fun
  | [d1, d2, d3] => { results := [.lit (.bool false)], args := [d1, d2, d3] }
  | _ => none }
def BoxBackWrongFalsely : Prop := boxBackRow.holds Tryd.pinned (OpenSpec.ofChange boxBackWrong)

/-- 'abacuslaw22.BoxWithin': WHATEVER THE INPUT: true; the input reads as it did. -/
def boxWithinSpec : ChangeSpec := { name := "boxWithin", fn := fun _ => fun
  | [d1, d2, d3] => { results := [.lit (.bool true)], args := [d1, d2, d3] }
  | _ => none }
def boxWithinRow : OpenClaim := { program := "ytakmlgcnfbiagaadoor", sum := "5cc8d4303ce2288f31bf70c8a2f2176677a88cd0b174cbba4aa47d98f75c890d", func := "abacus/abacuslaw22.BoxWithin", spec := "boxWithin", named := ["abacus/box.above", "abacus/shape.formats"], apart := false, laid := [("abacus/shape.formats", laid_abacus_shape_formats), ("abacus/box.above", laid_abacus_box_above)] }
def BoxWithinSaid : Prop := boxWithinRow.holds Tryd.pinned (OpenSpec.ofChange boxWithinSpec)

/-- ITS FALSE NEIGHBOUR: 'it returns false'. Refute it at one input. -/
def boxWithinWrong : ChangeSpec := { name := "boxWithin", fn := fun _ => fun
  | [d1, d2, d3] => { results := [.lit (.bool false)], args := [d1, d2, d3] }
  | _ => none }
def BoxWithinWrongFalsely : Prop := boxWithinRow.holds Tryd.pinned (OpenSpec.ofChange boxWithinWrong)

/- THE SECOND FORM. 'bulk': how many values and letters a reading holds, each counted each time it is reached (what is shared counts as often as it is met; a slice's spare places count too). A statement '..UptoSaid' is the law's where the arguments, and the package variables that the reading takes, are together of bulk at most 1048576: NARROWER than '..Said'. Prove '..Said' where nothing that the law and all that it calls make is longer than what came in: it says more and counts as full. Else prove '..UptoSaid'. A law counts once. -/
mutual
def uptoBulk {H : Type} : DataW H → Nat
  | .lit (.string bytes) => bytes.length + 1
  | .lit _ => 1
  | .nil => 1
  | .ptr d => uptoBulk d + 1
  | .slice elems spare => uptoBulkAll elems + uptoBulkAll spare + 1
  | .agg parts => uptoBulkAll parts + 1
  | .iface _ d => uptoBulk d + 1
  | .map entries => uptoBulkEntries entries + 1
  | .held _ => 1
def uptoBulkAll {H : Type} : List (DataW H) → Nat
  | [] => 0
  | d :: r => uptoBulk d + uptoBulkAll r
def uptoBulkEntries {H : Type} : List (Lit × DataW H) → Nat
  | [] => 0
  | x :: r => uptoBulkEntry x + uptoBulkEntries r
def uptoBulkEntry {H : Type} : Lit × DataW H → Nat
  | (.string bytes, d) => bytes.length + uptoBulk d + 1
  | (_, d) => uptoBulk d + 1
 end
def uptoSmall : (H : Type) → List (DataW H) → Bool := fun _ ds => decide (uptoBulkAll ds ≤ 1048576)
def OpenSpec.upto (s : _root_.Go.ChangeSpec) : _root_.Go.OpenSpec := { _root_.Go.OpenSpec.ofChange s with cond := some uptoSmall }

/-- 'abacuslaw22.BoxReads', WHERE WHAT IT READS IS OF BULK AT MOST 1048576: true; the input reads as it did. -/
def boxReadsUptoRow : OpenClaim := { program := "ytakmlgcnfbiagaadoor", sum := "5cc8d4303ce2288f31bf70c8a2f2176677a88cd0b174cbba4aa47d98f75c890d", func := "abacus/abacuslaw22.BoxReads", spec := "boxReads", named := ["abacus/box.above", "abacus/shape.formats"], apart := false, laid := [("abacus/shape.formats", laid_abacus_shape_formats), ("abacus/box.above", laid_abacus_box_above)], narrowed := true }
def BoxReadsUptoSaid : Prop := boxReadsUptoRow.holds Tryd.pinned (OpenSpec.upto boxReadsSpec)

/-- 'abacuslaw22.BoxForms', WHERE WHAT IT READS IS OF BULK AT MOST 1048576: true; the input reads as it did. -/
def boxFormsUptoRow : OpenClaim := { program := "ytakmlgcnfbiagaadoor", sum := "5cc8d4303ce2288f31bf70c8a2f2176677a88cd0b174cbba4aa47d98f75c890d", func := "abacus/abacuslaw22.BoxForms", spec := "boxForms", unfollowed := true, recurses := true, named := ["abacus/box.above", "abacus/shape.formats"], apart := false, laid := [("abacus/shape.formats", laid_abacus_shape_formats), ("abacus/box.above", laid_abacus_box_above)], narrowed := true }
def BoxFormsUptoSaid : Prop := boxFormsUptoRow.holds Tryd.pinned (OpenSpec.upto boxFormsSpec)

/-- 'abacuslaw22.BoxBack', WHERE WHAT IT READS IS OF BULK AT MOST 1048576: true; the input reads as it did. -/
def boxBackUptoRow : OpenClaim := { program := "ytakmlgcnfbiagaadoor", sum := "5cc8d4303ce2288f31bf70c8a2f2176677a88cd0b174cbba4aa47d98f75c890d", func := "abacus/abacuslaw22.BoxBack", spec := "boxBack", named := ["abacus/box.above", "abacus/shape.formats"], apart := false, laid := [("abacus/shape.formats", laid_abacus_shape_formats), ("abacus/box.above", laid_abacus_box_above)], narrowed := true }
def BoxBackUptoSaid : Prop := boxBackUptoRow.holds Tryd.pinned (OpenSpec.upto boxBackSpec)

/-- 'abacuslaw22.BoxWithin', WHERE WHAT IT READS IS OF BULK AT MOST 1048576: true; the input reads as it did. -/
def boxWithinUptoRow : OpenClaim := { program := "ytakmlgcnfbiagaadoor", sum := "5cc8d4303ce2288f31bf70c8a2f2176677a88cd0b174cbba4aa47d98f75c890d", func := "abacus/abacuslaw22.BoxWithin", spec := "boxWithin", named := ["abacus/box.above", "abacus/shape.formats"], apart := false, laid := [("abacus/shape.formats", laid_abacus_shape_formats), ("abacus/box.above", laid_abacus_box_above)], narrowed := true }
def BoxWithinUptoSaid : Prop := boxWithinUptoRow.holds Tryd.pinned (OpenSpec.upto boxWithinSpec)

end Rows
end Go.Proofs.YtakmlgcnfbiagaaDoor
