/-
  NARROWER THAN 'FOR EVERY INPUT', by the rows' own cells (each row's printed sentence says how): ShapeNumbers: laid · ShapeMakes: laid · ShapeNames: laid · ShapeSigns: laid.
  DERIVED. THE GIVEN ROWS OF THIS SEAT. 4 by the template 'for every input the law returns true; each argument reads behind the call as it read before'; 0 by the template 'total and deterministic' (their statements: YtjbefkceieklmaaDoorTotals.lean).
  GIVEN WITH THE SEED: the statements are not yours to turn. If you find one false, say at which input.
  Laid BY PROGRAM, IN A SANDBOX (cutbox-rows.mjs): the forced cells as the released guide's own fill.sh prints them over the translation 60d72f78018bf64d… (all of the seat's roots in one cut). By AI agents, Wed Nov 11 2026. No macro, syntax, notation, axiom, sorry.
-/
import Derived.Test.YtjbefkceieklmaaDoorChecked
import GoSem.Claim
import GoSem.ClaimJoined
import GoSem.ClaimMapViews
import Derived.JoinedTies
import Derived.KernelRfl
namespace Go.Proofs.YtjbefkceieklmaaDoor
/- THE CELL 'sum', in the pinned program and in every row, IS THE sha256 OF THE DUMP (.gsa) THAT YtjbefkceieklmaaDoorProg.lean LOADS. Nothing in Lean hashes anything: it is a label: what it is worth is what the hold of that sum in a sandbox is worth. -/
noncomputable def Tryd.pinned : Pinned := { name := "ytjbefkceieklmaadoor", sum := "60d72f78018bf64dc6b74005c10daaa5fdb4c9c3f466d09f75b75e17b2cc9d93", checked := Tryd.checked }
namespace Rows
def none {H : Type} : Left H := { results := [], args := [] }

/- WHAT THE LISTED PACKAGE-LEVEL VARIABLES READ AS WHEN THE CALL BEGINS. Each datum BY PROGRAM (the guide's laid-datum.mjs) off the statement by which the dump's own 'gosem.cut.vars' lays the variable. In a bare row this is a premise. The card (YtjbefkceieklmaaDoorCards.lean) ties it to the program's text. -/
def laid_abacus_shape_formats {H : Type} : DataW H := .agg [.agg [.lit (.int .i64 32), .lit (.int .i64 24), .lit (.int .i64 127), .lit (.string [115])], .agg [.lit (.int .i64 64), .lit (.int .i64 53), .lit (.int .i64 1023), .lit (.string [100])], .agg [.lit (.int .i64 16), .lit (.int .i64 11), .lit (.int .i64 15), .lit (.string [104])], .agg [.lit (.int .i64 128), .lit (.int .i64 113), .lit (.int .i64 16383), .lit (.string [113])]]

/-- 'abacuslaw07.ShapeNumbers': WHATEVER THE INPUT: true; the input reads as it did. -/
def shapeNumbersSpec : ChangeSpec := { name := "shapeNumbers", fn := fun _ => fun
  | [d1, d2, d3] => { results := [.lit (.bool true)], args := [d1, d2, d3] }
  | _ => none }
def shapeNumbersRow : OpenClaim := { program := "ytjbefkceieklmaadoor", sum := "60d72f78018bf64dc6b74005c10daaa5fdb4c9c3f466d09f75b75e17b2cc9d93", func := "abacus/abacuslaw07.ShapeNumbers", spec := "shapeNumbers", named := ["abacus/shape.formats"], apart := false, laid := [("abacus/shape.formats", laid_abacus_shape_formats)] }
def ShapeNumbersSaid : Prop := shapeNumbersRow.holds Tryd.pinned (OpenSpec.ofChange shapeNumbersSpec)

/-- ITS FALSE NEIGHBOUR: 'it returns false'. Refute it at one input. -/
def shapeNumbersWrong : ChangeSpec := { name := "shapeNumbers", fn := fun _ => fun
  | [d1, d2, d3] => { results := [.lit (.bool false)], args := [d1, d2, d3] }
  | _ => none }
def ShapeNumbersWrongFalsely : Prop := shapeNumbersRow.holds Tryd.pinned (OpenSpec.ofChange shapeNumbersWrong)

/-- 'abacuslaw07.ShapeMakes': WHATEVER THE INPUT: true; the input reads as it did. -/
def shapeMakesSpec : ChangeSpec := { name := "shapeMakes", fn := fun _ => fun
  | [d1, d2] => { results := [.lit (.bool true)], args := [d1, d2] }
  | _ => none }
def shapeMakesRow : OpenClaim := { program := "ytjbefkceieklmaadoor", sum := "60d72f78018bf64dc6b74005c10daaa5fdb4c9c3f466d09f75b75e17b2cc9d93", func := "abacus/abacuslaw07.ShapeMakes", spec := "shapeMakes", named := ["abacus/shape.formats"], apart := false, laid := [("abacus/shape.formats", laid_abacus_shape_formats)] }
def ShapeMakesSaid : Prop := shapeMakesRow.holds Tryd.pinned (OpenSpec.ofChange shapeMakesSpec)

/-- ITS FALSE NEIGHBOUR: 'it returns false'. Refute it at one input. -/
def shapeMakesWrong : ChangeSpec := { name := "shapeMakes", fn := fun _ => fun
  | [d1, d2] => { results := [.lit (.bool false)], args := [d1, d2] }
  | _ => none }
def ShapeMakesWrongFalsely : Prop := shapeMakesRow.holds Tryd.pinned (OpenSpec.ofChange shapeMakesWrong)

/-- 'abacuslaw07.ShapeNames': WHATEVER THE INPUT: true; the input reads as it did. -/
def shapeNamesSpec : ChangeSpec := { name := "shapeNames", fn := fun _ => fun
  | [d1, d2, d3] => { results := [.lit (.bool true)], args := [d1, d2, d3] }
  | _ => none }
def shapeNamesRow : OpenClaim := { program := "ytjbefkceieklmaadoor", sum := "60d72f78018bf64dc6b74005c10daaa5fdb4c9c3f466d09f75b75e17b2cc9d93", func := "abacus/abacuslaw07.ShapeNames", spec := "shapeNames", unfollowed := true, recurses := true, named := ["abacus/shape.formats"], apart := false, laid := [("abacus/shape.formats", laid_abacus_shape_formats)] }
def ShapeNamesSaid : Prop := shapeNamesRow.holds Tryd.pinned (OpenSpec.ofChange shapeNamesSpec)

/-- ITS FALSE NEIGHBOUR: 'it returns false'. Refute it at one input. -/
def shapeNamesWrong : ChangeSpec := { name := "shapeNames", fn := fun _ => fun
  | [d1, d2, d3] => { results := [.lit (.bool false)], args := [d1, d2, d3] }
  | _ => none }
def ShapeNamesWrongFalsely : Prop := shapeNamesRow.holds Tryd.pinned (OpenSpec.ofChange shapeNamesWrong)

/-- 'abacuslaw07.ShapeSigns': WHATEVER THE INPUT: true; the input reads as it did. -/
def shapeSignsSpec : ChangeSpec := { name := "shapeSigns", fn := fun _ => fun
  | [d] => { results := [.lit (.bool true)], args := [d] }
  | _ => none }
def shapeSignsRow : OpenClaim := { program := "ytjbefkceieklmaadoor", sum := "60d72f78018bf64dc6b74005c10daaa5fdb4c9c3f466d09f75b75e17b2cc9d93", func := "abacus/abacuslaw07.ShapeSigns", spec := "shapeSigns", named := ["abacus/shape.formats"], apart := false, laid := [("abacus/shape.formats", laid_abacus_shape_formats)] }
def ShapeSignsSaid : Prop := shapeSignsRow.holds Tryd.pinned (OpenSpec.ofChange shapeSignsSpec)

/-- ITS FALSE NEIGHBOUR: 'it returns false'. Refute it at one input. -/
def shapeSignsWrong : ChangeSpec := { name := "shapeSigns", fn := fun _ => fun
  | [d] => { results := [.lit (.bool false)], args := [d] }
  | _ => none }
def ShapeSignsWrongFalsely : Prop := shapeSignsRow.holds Tryd.pinned (OpenSpec.ofChange shapeSignsWrong)

/- THE SECOND FORM. 'bulk': how many values and letters a reading holds, each counted each time it is reached (what is shared counts as often as it is met; a slice's spare places count too). A statement '..UptoSaid' is the law's where the arguments, and the package variables that the reading takes, are together of bulk at most 1048576: NARROWER than '..Said'. Prove '..Said' where nothing that the law and all that it calls make is longer than what came in: it says more and counts as full. Else prove '..UptoSaid'. A law counts once. -/
mutual
def uptoBulk {H : Type} : DataW H → Nat
  | .lit (.string bytes) => bytes.length + 1
  | .lit _ => 1
  | .nil => 1
  | .ptr d => uptoBulk d + 1
  | .slice elems spare => uptoBulkAll elems + uptoBulkAll spare + 1
  | .agg parts => uptoBulkAll parts + 1
  | .iface _ d => uptoBulk d + 1
  | .map entries => uptoBulkEntries entries + 1
  | .held _ => 1
def uptoBulkAll {H : Type} : List (DataW H) → Nat
  | [] => 0
  | d :: r => uptoBulk d + uptoBulkAll r
def uptoBulkEntries {H : Type} : List (Lit × DataW H) → Nat
  | [] => 0
  | x :: r => uptoBulkEntry x + uptoBulkEntries r
def uptoBulkEntry {H : Type} : Lit × DataW H → Nat
  | (.string bytes, d) => bytes.length + uptoBulk d + 1
  | (_, d) => uptoBulk d + 1
 end
def uptoSmall : (H : Type) → List (DataW H) → Bool := fun _ ds => decide (uptoBulkAll ds ≤ 1048576)
def OpenSpec.upto (s : _root_.Go.ChangeSpec) : _root_.Go.OpenSpec := { _root_.Go.OpenSpec.ofChange s with cond := some uptoSmall }

/-- 'abacuslaw07.ShapeNumbers', WHERE WHAT IT READS IS OF BULK AT MOST 1048576: true; the input reads as it did. -/
def shapeNumbersUptoRow : OpenClaim := { program := "ytjbefkceieklmaadoor", sum := "60d72f78018bf64dc6b74005c10daaa5fdb4c9c3f466d09f75b75e17b2cc9d93", func := "abacus/abacuslaw07.ShapeNumbers", spec := "shapeNumbers", named := ["abacus/shape.formats"], apart := false, laid := [("abacus/shape.formats", laid_abacus_shape_formats)], narrowed := true }
def ShapeNumbersUptoSaid : Prop := shapeNumbersUptoRow.holds Tryd.pinned (OpenSpec.upto shapeNumbersSpec)

/-- 'abacuslaw07.ShapeMakes', WHERE WHAT IT READS IS OF BULK AT MOST 1048576: true; the input reads as it did. -/
def shapeMakesUptoRow : OpenClaim := { program := "ytjbefkceieklmaadoor", sum := "60d72f78018bf64dc6b74005c10daaa5fdb4c9c3f466d09f75b75e17b2cc9d93", func := "abacus/abacuslaw07.ShapeMakes", spec := "shapeMakes", named := ["abacus/shape.formats"], apart := false, laid := [("abacus/shape.formats", laid_abacus_shape_formats)], narrowed := true }
def ShapeMakesUptoSaid : Prop := shapeMakesUptoRow.holds Tryd.pinned (OpenSpec.upto shapeMakesSpec)

/-- 'abacuslaw07.ShapeNames', WHERE WHAT IT READS IS OF BULK AT MOST 1048576: true; the input reads as it did. -/
def shapeNamesUptoRow : OpenClaim := { program := "ytjbefkceieklmaadoor", sum := "60d72f78018bf64dc6b74005c10daaa5fdb4c9c3f466d09f75b75e17b2cc9d93", func := "abacus/abacuslaw07.ShapeNames", spec := "shapeNames", unfollowed := true, recurses := true, named := ["abacus/shape.formats"], apart := false, laid := [("abacus/shape.formats", laid_abacus_shape_formats)], narrowed := true }
def ShapeNamesUptoSaid : Prop := shapeNamesUptoRow.holds Tryd.pinned (OpenSpec.upto shapeNamesSpec)

/-- 'abacuslaw07.ShapeSigns', WHERE WHAT IT READS IS OF BULK AT MOST 1048576: true; the input reads as it did. -/
def shapeSignsUptoRow : OpenClaim := { program := "ytjbefkceieklmaadoor", sum := "60d72f78018bf64dc6b74005c10daaa5fdb4c9c3f466d09f75b75e17b2cc9d93", func := "abacus/abacuslaw07.ShapeSigns", spec := "shapeSigns", named := ["abacus/shape.formats"], apart := false, laid := [("abacus/shape.formats", laid_abacus_shape_formats)], narrowed := true }
def ShapeSignsUptoSaid : Prop := shapeSignsUptoRow.holds Tryd.pinned (OpenSpec.upto shapeSignsSpec)

end Rows
end Go.Proofs.YtjbefkceieklmaaDoor
