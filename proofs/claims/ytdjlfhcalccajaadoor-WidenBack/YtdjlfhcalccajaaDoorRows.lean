/-
  NARROWER THAN 'FOR EVERY INPUT', by the rows' own cells (each row's printed sentence says how): WidenBack: laid.
  DERIVED. THE GIVEN ROWS OF THIS SEAT. 1 by the template 'for every input the law returns true; each argument reads behind the call as it read before'; 0 by the template 'total and deterministic' (their statements: YtdjlfhcalccajaaDoorTotals.lean).
  GIVEN WITH THE SEED: the statements are not yours to turn. If you find one false, say at which input.
  Laid BY PROGRAM, IN A SANDBOX (cutbox-rows.mjs): the forced cells as the released guide's own fill.sh prints them over the translation e97701ea2ce6a34c… (all of the seat's roots in one cut). By AI agents, Wed Nov 11 2026. No macro, syntax, notation, axiom, sorry.
-/
import Derived.Test.YtdjlfhcalccajaaDoorChecked
import GoSem.Claim
import GoSem.ClaimJoined
import GoSem.ClaimMapViews
import Derived.JoinedTies
import Derived.KernelRfl
namespace Go.Proofs.YtdjlfhcalccajaaDoor
/- THE CELL 'sum', in the pinned program and in every row, IS THE sha256 OF THE DUMP (.gsa) THAT YtdjlfhcalccajaaDoorProg.lean LOADS. Nothing in Lean hashes anything: it is a label: what it is worth is what the hold of that sum in a sandbox is worth. -/
noncomputable def Tryd.pinned : Pinned := { name := "ytdjlfhcalccajaadoor", sum := "e97701ea2ce6a34c078e602bbe98cccf599906c6890a3b5042eaed9f7bf87005", checked := Tryd.checked }
namespace Rows
def none {H : Type} : Left H := { results := [], args := [] }

/- WHAT THE LISTED PACKAGE-LEVEL VARIABLES READ AS WHEN THE CALL BEGINS. Each datum BY PROGRAM (the guide's laid-datum.mjs) off the statement by which the dump's own 'gosem.cut.vars' lays the variable. In a bare row this is a premise. The card (YtdjlfhcalccajaaDoorCards.lean) ties it to the program's text. -/
def laid_abacus_shape_formats {H : Type} : DataW H := .agg [.agg [.lit (.int .i64 32), .lit (.int .i64 24), .lit (.int .i64 127), .lit (.string [115])], .agg [.lit (.int .i64 64), .lit (.int .i64 53), .lit (.int .i64 1023), .lit (.string [100])], .agg [.lit (.int .i64 16), .lit (.int .i64 11), .lit (.int .i64 15), .lit (.string [104])], .agg [.lit (.int .i64 128), .lit (.int .i64 113), .lit (.int .i64 16383), .lit (.string [113])]]

/-- 'abacuslaw18.WidenBack': WHATEVER THE INPUT: true; the input reads as it did. -/
def widenBackSpec : ChangeSpec := { name := "widenBack", fn := fun _ => fun
  | [d1, d2, d3, d4, d5] => { results := [.lit (.bool true)], args := [d1, d2, d3, d4, d5] }
  | _ => none }
def widenBackRow : OpenClaim := { program := "ytdjlfhcalccajaadoor", sum := "e97701ea2ce6a34c078e602bbe98cccf599906c6890a3b5042eaed9f7bf87005", func := "abacus/abacuslaw18.WidenBack", spec := "widenBack", named := ["abacus/shape.formats"], apart := false, laid := [("abacus/shape.formats", laid_abacus_shape_formats)] }
def WidenBackSaid : Prop := widenBackRow.holds Tryd.pinned (OpenSpec.ofChange widenBackSpec)

/-- ITS FALSE NEIGHBOUR: 'it returns false'. Refute it at one input. -/
def widenBackWrong : ChangeSpec := { name := "widenBack", fn := fun _ => fun
  | [d1, d2, d3, d4, d5] => { results := [.lit (.bool false)], args := [d1, d2, d3, d4, d5] }
  | _ => none }
def WidenBackWrongFalsely : Prop := widenBackRow.holds Tryd.pinned (OpenSpec.ofChange widenBackWrong)

/- THE SECOND FORM. 'bulk': how many values and letters a reading holds, each counted each time it is reached (what is shared counts as often as it is met; a slice's spare places count too). A statement '..UptoSaid' is the law's where the arguments, and the package variables that the reading takes, are together of bulk at most 1048576: NARROWER than '..Said'. Prove '..Said' where nothing that the law and all that it calls make is longer than what came in: it says more and counts as full. Else prove '..UptoSaid'. A law counts once. -/
mutual
def uptoBulk {H : Type} : DataW H → Nat
  | .lit (.string bytes) => bytes.length + 1
  | .lit _ => 1
  | .nil => 1
  | .ptr d => uptoBulk d + 1
  | .slice elems spare => uptoBulkAll elems + uptoBulkAll spare + 1
  | .agg parts => uptoBulkAll parts + 1
  | .iface _ d => uptoBulk d + 1
  | .map entries => uptoBulkEntries entries + 1
  | .held _ => 1
def uptoBulkAll {H : Type} : List (DataW H) → Nat
  | [] => 0
  | d :: r => uptoBulk d + uptoBulkAll r
def uptoBulkEntries {H : Type} : List (Lit × DataW H) → Nat
  | [] => 0
  | x :: r => uptoBulkEntry x + uptoBulkEntries r
def uptoBulkEntry {H : Type} : Lit × DataW H → Nat
  | (.string bytes, d) => bytes.length + uptoBulk d + 1
  | (_, d) => uptoBulk d + 1
 end
def uptoSmall : (H : Type) → List (DataW H) → Bool := fun _ ds => decide (uptoBulkAll ds ≤ 1048576)
def OpenSpec.upto (s : _root_.Go.ChangeSpec) : _root_.Go.OpenSpec := { _root_.Go.OpenSpec.ofChange s with cond := some uptoSmall }

/-- 'abacuslaw18.WidenBack', WHERE WHAT IT READS IS OF BULK AT MOST 1048576: true; the input reads as it did. -/
def widenBackUptoRow : OpenClaim := { program := "ytdjlfhcalccajaadoor", sum := "e97701ea2ce6a34c078e602bbe98cccf599906c6890a3b5042eaed9f7bf87005", func := "abacus/abacuslaw18.WidenBack", spec := "widenBack", named := ["abacus/shape.formats"], apart := false, laid := [("abacus/shape.formats", laid_abacus_shape_formats)], narrowed := true }
def WidenBackUptoSaid : Prop := widenBackUptoRow.holds Tryd.pinned (OpenSpec.upto widenBackSpec)

end Rows
end Go.Proofs.YtdjlfhcalccajaaDoor
