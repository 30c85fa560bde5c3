/-
  NARROWER THAN 'FOR EVERY INPUT', by the rows' own cells (each row's printed sentence says how): FromintConverts: laid.
  DERIVED. THE GIVEN ROWS OF THIS SEAT. 1 by the template 'for every input the law returns true; each argument reads behind the call as it read before'; 0 by the template 'total and deterministic' (their statements: YtpdehipeakcaiaaGreatDoorTotals.lean).
  GIVEN WITH THE SEED: the statements are not yours to turn. If you find one false, say at which input.
  Laid BY PROGRAM, IN A SANDBOX (cutbox-rows.mjs): the forced cells as the released guide's own fill.sh prints them over the translation 9fcde271f0317534… (all of the seat's roots in one cut). By AI agents, Wed Nov 11 2026. No macro, syntax, notation, axiom, sorry.
-/
import Derived.Test.YtpdehipeakcaiaaGreatDoorChecked
import GoSem.Claim
import GoSem.ClaimJoined
import GoSem.ClaimMapViews
import Derived.JoinedTies
import Derived.KernelRfl
namespace Go.Proofs.YtpdehipeakcaiaaGreatDoor
/- THE CELL 'sum', in the pinned program and in every row, IS THE sha256 OF THE DUMP (.gsa) THAT YtpdehipeakcaiaaGreatDoorProg.lean LOADS. Nothing in Lean hashes anything: it is a label: what it is worth is what the hold of that sum in a sandbox is worth. -/
noncomputable def Tryz.pinned : Pinned := { name := "ytpdehipeakcaiaagreatdoor", sum := "9fcde271f0317534601763266cfbae123928bdbc23487b638bdf2797628f972e", checked := Tryz.checked }
namespace Rows
def none {H : Type} : Left H := { results := [], args := [] }

/- WHAT THE LISTED PACKAGE-LEVEL VARIABLES READ AS WHEN THE CALL BEGINS. Each datum BY PROGRAM (the guide's laid-datum.mjs) off the statement by which the dump's own 'gosem.cut.vars' lays the variable. In a bare row this is a premise. The card (YtpdehipeakcaiaaGreatDoorCards.lean) ties it to the program's text. -/
def laid_abacus_shape_formats {H : Type} : DataW H := .agg [.agg [.lit (.int .i64 32), .lit (.int .i64 24), .lit (.int .i64 127), .lit (.string [115])], .agg [.lit (.int .i64 64), .lit (.int .i64 53), .lit (.int .i64 1023), .lit (.string [100])], .agg [.lit (.int .i64 16), .lit (.int .i64 11), .lit (.int .i64 15), .lit (.string [104])], .agg [.lit (.int .i64 128), .lit (.int .i64 113), .lit (.int .i64 16383), .lit (.string [113])]]

/-- 'abacuslaw20.FromintConverts': WHATEVER THE INPUT: true; the input reads as it did. -/
def fromintConvertsSpec : ChangeSpec := { name := "fromintConverts", fn := fun _ => fun
  | [d1, d2, d3, d4] => { results := [.lit (.bool true)], args := [d1, d2, d3, d4] }
  | _ => none }
def fromintConvertsRow : OpenClaim := { program := "ytpdehipeakcaiaagreatdoor", sum := "9fcde271f0317534601763266cfbae123928bdbc23487b638bdf2797628f972e", func := "abacus/abacuslaw20.FromintConverts", spec := "fromintConverts", unfollowed := true, recurses := true, named := ["abacus/shape.formats"], apart := false, laid := [("abacus/shape.formats", laid_abacus_shape_formats)] }
def FromintConvertsSaid : Prop := fromintConvertsRow.holds Tryz.pinned (OpenSpec.ofChange fromintConvertsSpec)

/-- ITS FALSE NEIGHBOUR: 'it returns false'. Refute it at one input. -/
def fromintConvertsWrong : ChangeSpec := { name := "fromintConverts", fn := fun _ => fun
  | [d1, d2, d3, d4] => { results := [.lit (.bool false)], args := [d1, d2, d3, d4] }
  | _ => none }
def FromintConvertsWrongFalsely : Prop := fromintConvertsRow.holds Tryz.pinned (OpenSpec.ofChange fromintConvertsWrong)

/- THE SECOND FORM. 'bulk': how many values and letters a reading holds, each counted each time it is reached (what is shared counts as often as it is met; a slice's spare places count too). A statement '..UptoSaid' is the law's where the arguments, and the package variables that the reading takes, are together of bulk at most 1048576: NARROWER than '..Said'. Prove '..Said' where nothing that the law and all that it calls make is longer than what came in: it says more and counts as full. Else prove '..UptoSaid'. A law counts once. -/
mutual
def uptoBulk {H : Type} : DataW H → Nat
  | .lit (.string bytes) => bytes.length + 1
  | .lit _ => 1
  | .nil => 1
  | .ptr d => uptoBulk d + 1
  | .slice elems spare => uptoBulkAll elems + uptoBulkAll spare + 1
  | .agg parts => uptoBulkAll parts + 1
  | .iface _ d => uptoBulk d + 1
  | .map entries => uptoBulkEntries entries + 1
  | .held _ => 1
def uptoBulkAll {H : Type} : List (DataW H) → Nat
  | [] => 0
  | d :: r => uptoBulk d + uptoBulkAll r
def uptoBulkEntries {H : Type} : List (Lit × DataW H) → Nat
  | [] => 0
  | x :: r => uptoBulkEntry x + uptoBulkEntries r
def uptoBulkEntry {H : Type} : Lit × DataW H → Nat
  | (.string bytes, d) => bytes.length + uptoBulk d + 1
  | (_, d) => uptoBulk d + 1
 end
def uptoSmall : (H : Type) → List (DataW H) → Bool := fun _ ds => decide (uptoBulkAll ds ≤ 1048576)
def OpenSpec.upto (s : _root_.Go.ChangeSpec) : _root_.Go.OpenSpec := { _root_.Go.OpenSpec.ofChange s with cond := some uptoSmall }

/-- 'abacuslaw20.FromintConverts', WHERE WHAT IT READS IS OF BULK AT MOST 1048576: true; the input reads as it did. -/
def fromintConvertsUptoRow : OpenClaim := { program := "ytpdehipeakcaiaagreatdoor", sum := "9fcde271f0317534601763266cfbae123928bdbc23487b638bdf2797628f972e", func := "abacus/abacuslaw20.FromintConverts", spec := "fromintConverts", unfollowed := true, recurses := true, named := ["abacus/shape.formats"], apart := false, laid := [("abacus/shape.formats", laid_abacus_shape_formats)], narrowed := true }
def FromintConvertsUptoSaid : Prop := fromintConvertsUptoRow.holds Tryz.pinned (OpenSpec.upto fromintConvertsSpec)

end Rows
end Go.Proofs.YtpdehipeakcaiaaGreatDoor
