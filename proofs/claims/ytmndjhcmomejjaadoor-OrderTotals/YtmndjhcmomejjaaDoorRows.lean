/-
  NARROWER THAN 'FOR EVERY INPUT', by the rows' own cells (each row's printed sentence says how): OrderCompares: laid · OrderExtremes: laid · OrderTotals: laid · OrderTotal: laid · OrderOne: laid.
  DERIVED. THE GIVEN ROWS OF THIS SEAT. 5 by the template 'for every input the law returns true; each argument reads behind the call as it read before'; 0 by the template 'total and deterministic' (their statements: YtmndjhcmomejjaaDoorTotals.lean).
  GIVEN WITH THE SEED: the statements are not yours to turn. If you find one false, say at which input.
  Laid BY PROGRAM, IN A SANDBOX (cutbox-rows.mjs): the forced cells as the released guide's own fill.sh prints them over the translation db707ad034a7775d… (all of the seat's roots in one cut). By AI agents, Wed Nov 11 2026. No macro, syntax, notation, axiom, sorry.
-/
import Derived.Test.YtmndjhcmomejjaaDoorChecked
import GoSem.Claim
import GoSem.ClaimJoined
import GoSem.ClaimMapViews
import Derived.JoinedTies
import Derived.KernelRfl
namespace Go.Proofs.YtmndjhcmomejjaaDoor
/- THE CELL 'sum', in the pinned program and in every row, IS THE sha256 OF THE DUMP (.gsa) THAT YtmndjhcmomejjaaDoorProg.lean LOADS. Nothing in Lean hashes anything: it is a label: what it is worth is what the hold of that sum in a sandbox is worth. -/
noncomputable def Tryd.pinned : Pinned := { name := "ytmndjhcmomejjaadoor", sum := "db707ad034a7775dd5c2701fcb117c278d917c7c0db2fb9c9988335702b70748", checked := Tryd.checked }
namespace Rows
def none {H : Type} : Left H := { results := [], args := [] }

/- WHAT THE LISTED PACKAGE-LEVEL VARIABLES READ AS WHEN THE CALL BEGINS. Each datum BY PROGRAM (the guide's laid-datum.mjs) off the statement by which the dump's own 'gosem.cut.vars' lays the variable. In a bare row this is a premise. The card (YtmndjhcmomejjaaDoorCards.lean) ties it to the program's text. -/
def laid_abacus_shape_formats {H : Type} : DataW H := .agg [.agg [.lit (.int .i64 32), .lit (.int .i64 24), .lit (.int .i64 127), .lit (.string [115])], .agg [.lit (.int .i64 64), .lit (.int .i64 53), .lit (.int .i64 1023), .lit (.string [100])], .agg [.lit (.int .i64 16), .lit (.int .i64 11), .lit (.int .i64 15), .lit (.string [104])], .agg [.lit (.int .i64 128), .lit (.int .i64 113), .lit (.int .i64 16383), .lit (.string [113])]]

/-- 'abacuslaw16.OrderCompares': WHATEVER THE INPUT: true; the input reads as it did. -/
def orderComparesSpec : ChangeSpec := { name := "orderCompares", fn := fun _ => fun
  | [d1, d2, d3] => { results := [.lit (.bool true)], args := [d1, d2, d3] }
  | _ => none }
def orderComparesRow : OpenClaim := { program := "ytmndjhcmomejjaadoor", sum := "db707ad034a7775dd5c2701fcb117c278d917c7c0db2fb9c9988335702b70748", func := "abacus/abacuslaw16.OrderCompares", spec := "orderCompares", named := ["abacus/shape.formats"], apart := false, laid := [("abacus/shape.formats", laid_abacus_shape_formats)] }
def OrderComparesSaid : Prop := orderComparesRow.holds Tryd.pinned (OpenSpec.ofChange orderComparesSpec)

/-- ITS FALSE NEIGHBOUR: 'it returns false'. Refute it at one input. -/
def orderComparesWrong : ChangeSpec := { name := "orderCompares", fn := fun _ => fun
  | [d1, d2, d3] => { results := [.lit (.bool false)], args := [d1, d2, d3] }
  | _ => none }
def OrderComparesWrongFalsely : Prop := orderComparesRow.holds Tryd.pinned (OpenSpec.ofChange orderComparesWrong)

/-- 'abacuslaw16.OrderExtremes': WHATEVER THE INPUT: true; the input reads as it did. -/
def orderExtremesSpec : ChangeSpec := { name := "orderExtremes", fn := fun _ => fun
  | [d1, d2, d3] => { results := [.lit (.bool true)], args := [d1, d2, d3] }
  | _ => none }
def orderExtremesRow : OpenClaim := { program := "ytmndjhcmomejjaadoor", sum := "db707ad034a7775dd5c2701fcb117c278d917c7c0db2fb9c9988335702b70748", func := "abacus/abacuslaw16.OrderExtremes", spec := "orderExtremes", named := ["abacus/shape.formats"], apart := false, laid := [("abacus/shape.formats", laid_abacus_shape_formats)] }
def OrderExtremesSaid : Prop := orderExtremesRow.holds Tryd.pinned (OpenSpec.ofChange orderExtremesSpec)

/-- ITS FALSE NEIGHBOUR: 'it returns false'. Refute it at one input. -/
def orderExtremesWrong : ChangeSpec := { name := "orderExtremes", fn := fun _ => fun
  | [d1, d2, d3] => { results := [.lit (.bool false)], args := [d1, d2, d3] }
  | _ => none }
def OrderExtremesWrongFalsely : Prop := orderExtremesRow.holds Tryd.pinned (OpenSpec.ofChange orderExtremesWrong)

/-- 'abacuslaw16.OrderTotals': WHATEVER THE INPUT: true; the input reads as it did. -/
def orderTotalsSpec : ChangeSpec := { name := "orderTotals", fn := fun _ => fun
  | [d1, d2] => { results := [.lit (.bool true)], args := [d1, d2] }
  | _ => none }
def orderTotalsRow : OpenClaim := { program := "ytmndjhcmomejjaadoor", sum := "db707ad034a7775dd5c2701fcb117c278d917c7c0db2fb9c9988335702b70748", func := "abacus/abacuslaw16.OrderTotals", spec := "orderTotals", unfollowed := true, recurses := true, named := ["abacus/shape.formats"], apart := false, laid := [("abacus/shape.formats", laid_abacus_shape_formats)] }
def OrderTotalsSaid : Prop := orderTotalsRow.holds Tryd.pinned (OpenSpec.ofChange orderTotalsSpec)

/-- ITS FALSE NEIGHBOUR: 'it returns false'. Refute it at one input. -/
def orderTotalsWrong : ChangeSpec := { name := "orderTotals", fn := fun _ => fun
  | [d1, d2] => { results := [.lit (.bool false)], args := [d1, d2] }
  | _ => none }
def OrderTotalsWrongFalsely : Prop := orderTotalsRow.holds Tryd.pinned (OpenSpec.ofChange orderTotalsWrong)

/-- 'abacuslaw16.OrderTotal': WHATEVER THE INPUT: true; the input reads as it did. -/
def orderTotalSpec : ChangeSpec := { name := "orderTotal", fn := fun _ => fun
  | [d1, d2, d3, d4] => { results := [.lit (.bool true)], args := [d1, d2, d3, d4] }
  | _ => none }
def orderTotalRow : OpenClaim := { program := "ytmndjhcmomejjaadoor", sum := "db707ad034a7775dd5c2701fcb117c278d917c7c0db2fb9c9988335702b70748", func := "abacus/abacuslaw16.OrderTotal", spec := "orderTotal", named := ["abacus/shape.formats"], apart := false, laid := [("abacus/shape.formats", laid_abacus_shape_formats)] }
def OrderTotalSaid : Prop := orderTotalRow.holds Tryd.pinned (OpenSpec.ofChange orderTotalSpec)

/-- ITS FALSE NEIGHBOUR: 'it returns false'. Refute it at one input. -/
def orderTotalWrong : ChangeSpec := { name := "orderTotal", fn := fun _ => fun
  | [d1, d2, d3, d4] => { results := [.lit (.bool false)], args := [d1, d2, d3, d4] }
  | _ => none }
def OrderTotalWrongFalsely : Prop := orderTotalRow.holds Tryd.pinned (OpenSpec.ofChange orderTotalWrong)

/-- 'abacuslaw16.OrderOne': WHATEVER THE INPUT: true; the input reads as it did. -/
def orderOneSpec : ChangeSpec := { name := "orderOne", fn := fun _ => fun
  | [d1, d2, d3] => { results := [.lit (.bool true)], args := [d1, d2, d3] }
  | _ => none }
def orderOneRow : OpenClaim := { program := "ytmndjhcmomejjaadoor", sum := "db707ad034a7775dd5c2701fcb117c278d917c7c0db2fb9c9988335702b70748", func := "abacus/abacuslaw16.OrderOne", spec := "orderOne", named := ["abacus/shape.formats"], apart := false, laid := [("abacus/shape.formats", laid_abacus_shape_formats)] }
def OrderOneSaid : Prop := orderOneRow.holds Tryd.pinned (OpenSpec.ofChange orderOneSpec)

/-- ITS FALSE NEIGHBOUR: 'it returns false'. Refute it at one input. -/
def orderOneWrong : ChangeSpec := { name := "orderOne", fn := fun _ => fun
  | [d1, d2, d3] => { results := [.lit (.bool false)], args := [d1, d2, d3] }
  | _ => none }
def OrderOneWrongFalsely : Prop := orderOneRow.holds Tryd.pinned (OpenSpec.ofChange orderOneWrong)

/- THE SECOND FORM. 'bulk': how many values and letters a reading holds, each counted each time it is reached (what is shared counts as often as it is met; a slice's spare places count too). A statement '..UptoSaid' is the law's where the arguments, and the package variables that the reading takes, are together of bulk at most 1048576: NARROWER than '..Said'. Prove '..Said' where nothing that the law and all that it calls make is longer than what came in: it says more and counts as full. Else prove '..UptoSaid'. A law counts once. -/
mutual
def uptoBulk {H : Type} : DataW H → Nat
  | .lit (.string bytes) => bytes.length + 1
  | .lit _ => 1
  | .nil => 1
  | .ptr d => uptoBulk d + 1
  | .slice elems spare => uptoBulkAll elems + uptoBulkAll spare + 1
  | .agg parts => uptoBulkAll parts + 1
  | .iface _ d => uptoBulk d + 1
  | .map entries => uptoBulkEntries entries + 1
  | .held _ => 1
def uptoBulkAll {H : Type} : List (DataW H) → Nat
  | [] => 0
  | d :: r => uptoBulk d + uptoBulkAll r
def uptoBulkEntries {H : Type} : List (Lit × DataW H) → Nat
  | [] => 0
  | x :: r => uptoBulkEntry x + uptoBulkEntries r
def uptoBulkEntry {H : Type} : Lit × DataW H → Nat
  | (.string bytes, d) => bytes.length + uptoBulk d + 1
  | (_, d) => uptoBulk d + 1
 end
def uptoSmall : (H : Type) → List (DataW H) → Bool := fun _ ds => decide (uptoBulkAll ds ≤ 1048576)
def OpenSpec.upto (s : _root_.Go.ChangeSpec) : _root_.Go.OpenSpec := { _root_.Go.OpenSpec.ofChange s with cond := some uptoSmall }

/-- 'abacuslaw16.OrderCompares', WHERE WHAT IT READS IS OF BULK AT MOST 1048576: true; the input reads as it did. -/
def orderComparesUptoRow : OpenClaim := { program := "ytmndjhcmomejjaadoor", sum := "db707ad034a7775dd5c2701fcb117c278d917c7c0db2fb9c9988335702b70748", func := "abacus/abacuslaw16.OrderCompares", spec := "orderCompares", named := ["abacus/shape.formats"], apart := false, laid := [("abacus/shape.formats", laid_abacus_shape_formats)], narrowed := true }
def OrderComparesUptoSaid : Prop := orderComparesUptoRow.holds Tryd.pinned (OpenSpec.upto orderComparesSpec)

/-- 'abacuslaw16.OrderExtremes', WHERE WHAT IT READS IS OF BULK AT MOST 1048576: true; the input reads as it did. -/
def orderExtremesUptoRow : OpenClaim := { program := "ytmndjhcmomejjaadoor", sum := "db707ad034a7775dd5c2701fcb117c278d917c7c0db2fb9c9988335702b70748", func := "abacus/abacuslaw16.OrderExtremes", spec := "orderExtremes", named := ["abacus/shape.formats"], apart := false, laid := [("abacus/shape.formats", laid_abacus_shape_formats)], narrowed := true }
def OrderExtremesUptoSaid : Prop := orderExtremesUptoRow.holds Tryd.pinned (OpenSpec.upto orderExtremesSpec)

/-- 'abacuslaw16.OrderTotals', WHERE WHAT IT READS IS OF BULK AT MOST 1048576: true; the input reads as it did. -/
def orderTotalsUptoRow : OpenClaim := { program := "ytmndjhcmomejjaadoor", sum := "db707ad034a7775dd5c2701fcb117c278d917c7c0db2fb9c9988335702b70748", func := "abacus/abacuslaw16.OrderTotals", spec := "orderTotals", unfollowed := true, recurses := true, named := ["abacus/shape.formats"], apart := false, laid := [("abacus/shape.formats", laid_abacus_shape_formats)], narrowed := true }
def OrderTotalsUptoSaid : Prop := orderTotalsUptoRow.holds Tryd.pinned (OpenSpec.upto orderTotalsSpec)

/-- 'abacuslaw16.OrderTotal', WHERE WHAT IT READS IS OF BULK AT MOST 1048576: true; the input reads as it did. -/
def orderTotalUptoRow : OpenClaim := { program := "ytmndjhcmomejjaadoor", sum := "db707ad034a7775dd5c2701fcb117c278d917c7c0db2fb9c9988335702b70748", func := "abacus/abacuslaw16.OrderTotal", spec := "orderTotal", named := ["abacus/shape.formats"], apart := false, laid := [("abacus/shape.formats", laid_abacus_shape_formats)], narrowed := true }
def OrderTotalUptoSaid : Prop := orderTotalUptoRow.holds Tryd.pinned (OpenSpec.upto orderTotalSpec)

/-- 'abacuslaw16.OrderOne', WHERE WHAT IT READS IS OF BULK AT MOST 1048576: true; the input reads as it did. -/
def orderOneUptoRow : OpenClaim := { program := "ytmndjhcmomejjaadoor", sum := "db707ad034a7775dd5c2701fcb117c278d917c7c0db2fb9c9988335702b70748", func := "abacus/abacuslaw16.OrderOne", spec := "orderOne", named := ["abacus/shape.formats"], apart := false, laid := [("abacus/shape.formats", laid_abacus_shape_formats)], narrowed := true }
def OrderOneUptoSaid : Prop := orderOneUptoRow.holds Tryd.pinned (OpenSpec.upto orderOneSpec)

end Rows
end Go.Proofs.YtmndjhcmomejjaaDoor
