/-
  NARROWER THAN 'FOR EVERY INPUT', by the rows' own cells (each row's printed sentence says how): FromintBack: laid.
  DERIVED. THE GIVEN ROWS OF THIS SEAT. 1 by the template 'for every input the law returns true; each argument reads behind the call as it read before'; 0 by the template 'total and deterministic' (their statements: YtpdehipeakcaiaaDoorTotals.lean).
  GIVEN WITH THE SEED: the statements are not yours to turn. If you find one false, say at which input.
  Laid BY PROGRAM, IN A SANDBOX (cutbox-rows.mjs): the forced cells as the released guide's own fill.sh prints them over the translation 1e08d64cdae1775f… (all of the seat's roots in one cut). By AI agents, Wed Nov 11 2026. No macro, syntax, notation, axiom, sorry.
-/
import Derived.Test.YtpdehipeakcaiaaDoorChecked
import GoSem.Claim
import GoSem.ClaimJoined
import GoSem.ClaimMapViews
import Derived.JoinedTies
import Derived.KernelRfl
namespace Go.Proofs.YtpdehipeakcaiaaDoor
/- THE CELL 'sum', in the pinned program and in every row, IS THE sha256 OF THE DUMP (.gsa) THAT YtpdehipeakcaiaaDoorProg.lean LOADS. Nothing in Lean hashes anything: it is a label: what it is worth is what the hold of that sum in a sandbox is worth. -/
noncomputable def Tryd.pinned : Pinned := { name := "ytpdehipeakcaiaadoor", sum := "1e08d64cdae1775f9d2b215d26e6ec772e19796b436b3dcdb9640c843a2cf640", checked := Tryd.checked }
namespace Rows
def none {H : Type} : Left H := { results := [], args := [] }

/- WHAT THE LISTED PACKAGE-LEVEL VARIABLES READ AS WHEN THE CALL BEGINS. Each datum BY PROGRAM (the guide's laid-datum.mjs) off the statement by which the dump's own 'gosem.cut.vars' lays the variable. In a bare row this is a premise. The card (YtpdehipeakcaiaaDoorCards.lean) ties it to the program's text. -/
def laid_abacus_shape_formats {H : Type} : DataW H := .agg [.agg [.lit (.int .i64 32), .lit (.int .i64 24), .lit (.int .i64 127), .lit (.string [115])], .agg [.lit (.int .i64 64), .lit (.int .i64 53), .lit (.int .i64 1023), .lit (.string [100])], .agg [.lit (.int .i64 16), .lit (.int .i64 11), .lit (.int .i64 15), .lit (.string [104])], .agg [.lit (.int .i64 128), .lit (.int .i64 113), .lit (.int .i64 16383), .lit (.string [113])]]
def laid_abacus_toint_below {H : Type} : DataW H := .agg [.agg [.lit (.int .u64 2147483648), .lit (.int .u64 0), .lit (.int .u64 0), .lit (.int .u64 0), .lit (.int .u64 0), .lit (.int .u64 0)], .agg [.lit (.int .u64 0), .lit (.int .u64 0), .lit (.int .u64 0), .lit (.int .u64 0), .lit (.int .u64 0), .lit (.int .u64 0)], .agg [.lit (.int .u64 9223372036854775808), .lit (.int .u64 0), .lit (.int .u64 0), .lit (.int .u64 0), .lit (.int .u64 0), .lit (.int .u64 0)], .agg [.lit (.int .u64 0), .lit (.int .u64 0), .lit (.int .u64 0), .lit (.int .u64 0), .lit (.int .u64 0), .lit (.int .u64 0)]]
def laid_abacus_toint_above {H : Type} : DataW H := .agg [.agg [.lit (.int .u64 2147483647), .lit (.int .u64 0), .lit (.int .u64 0), .lit (.int .u64 0), .lit (.int .u64 0), .lit (.int .u64 0)], .agg [.lit (.int .u64 4294967295), .lit (.int .u64 0), .lit (.int .u64 0), .lit (.int .u64 0), .lit (.int .u64 0), .lit (.int .u64 0)], .agg [.lit (.int .u64 9223372036854775807), .lit (.int .u64 0), .lit (.int .u64 0), .lit (.int .u64 0), .lit (.int .u64 0), .lit (.int .u64 0)], .agg [.lit (.int .u64 18446744073709551615), .lit (.int .u64 0), .lit (.int .u64 0), .lit (.int .u64 0), .lit (.int .u64 0), .lit (.int .u64 0)]]

/-- 'abacuslaw20.FromintBack': WHATEVER THE INPUT: true; the input reads as it did. -/
def fromintBackSpec : ChangeSpec := { name := "fromintBack", fn := fun _ => fun
  | [d1, d2, d3, d4, d5] => { results := [.lit (.bool true)], args := [d1, d2, d3, d4, d5] }
  | _ => none }
def fromintBackRow : OpenClaim := { program := "ytpdehipeakcaiaadoor", sum := "1e08d64cdae1775f9d2b215d26e6ec772e19796b436b3dcdb9640c843a2cf640", func := "abacus/abacuslaw20.FromintBack", spec := "fromintBack", unfollowed := true, recurses := true, named := ["abacus/shape.formats", "abacus/toint.below", "abacus/toint.above"], apart := false, laid := [("abacus/shape.formats", laid_abacus_shape_formats), ("abacus/toint.below", laid_abacus_toint_below), ("abacus/toint.above", laid_abacus_toint_above)] }
def FromintBackSaid : Prop := fromintBackRow.holds Tryd.pinned (OpenSpec.ofChange fromintBackSpec)

/-- ITS FALSE NEIGHBOUR: 'it returns false'. Refute it at one input. -/
def fromintBackWrong : ChangeSpec := { name := "fromintBack", fn := fun _ => fun
  | [d1, d2, d3, d4, d5] => { results := [.lit (.bool false)], args := [d1, d2, d3, d4, d5] }
  | _ => none }
def FromintBackWrongFalsely : Prop := fromintBackRow.holds Tryd.pinned (OpenSpec.ofChange fromintBackWrong)

/- THE SECOND FORM. 'bulk': how many values and letters a reading holds, each counted each time it is reached (what is shared counts as often as it is met; a slice's spare places count too). A statement '..UptoSaid' is the law's where the arguments, and the package variables that the reading takes, are together of bulk at most 1048576: NARROWER than '..Said'. Prove '..Said' where nothing that the law and all that it calls make is longer than what came in: it says more and counts as full. Else prove '..UptoSaid'. A law counts once. -/
mutual
def uptoBulk {H : Type} : DataW H → Nat
  | .lit (.string bytes) => bytes.length + 1
  | .lit _ => 1
  | .nil => 1
  | .ptr d => uptoBulk d + 1
  | .slice elems spare => uptoBulkAll elems + uptoBulkAll spare + 1
  | .agg parts => uptoBulkAll parts + 1
  | .iface _ d => uptoBulk d + 1
  | .map entries => uptoBulkEntries entries + 1
  | .held _ => 1
def uptoBulkAll {H : Type} : List (DataW H) → Nat
  | [] => 0
  | d :: r => uptoBulk d + uptoBulkAll r
def uptoBulkEntries {H : Type} : List (Lit × DataW H) → Nat
  | [] => 0
  | x :: r => uptoBulkEntry x + uptoBulkEntries r
def uptoBulkEntry {H : Type} : Lit × DataW H → Nat
  | (.string bytes, d) => bytes.length + uptoBulk d + 1
  | (_, d) => uptoBulk d + 1
 end
def uptoSmall : (H : Type) → List (DataW H) → Bool := fun _ ds => decide (uptoBulkAll ds ≤ 1048576)
def OpenSpec.upto (s : _root_.Go.ChangeSpec) : _root_.Go.OpenSpec := { _root_.Go.OpenSpec.ofChange s with cond := some uptoSmall }

/-- 'abacuslaw20.FromintBack', WHERE WHAT IT READS IS OF BULK AT MOST 1048576: true; the input reads as it did. -/
def fromintBackUptoRow : OpenClaim := { program := "ytpdehipeakcaiaadoor", sum := "1e08d64cdae1775f9d2b215d26e6ec772e19796b436b3dcdb9640c843a2cf640", func := "abacus/abacuslaw20.FromintBack", spec := "fromintBack", unfollowed := true, recurses := true, named := ["abacus/shape.formats", "abacus/toint.below", "abacus/toint.above"], apart := false, laid := [("abacus/shape.formats", laid_abacus_shape_formats), ("abacus/toint.below", laid_abacus_toint_below), ("abacus/toint.above", laid_abacus_toint_above)], narrowed := true }
def FromintBackUptoSaid : Prop := fromintBackUptoRow.holds Tryd.pinned (OpenSpec.upto fromintBackSpec)

end Rows
end Go.Proofs.YtpdehipeakcaiaaDoor
