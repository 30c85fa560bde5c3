/-
  NARROWER THAN 'FOR EVERY INPUT', by the rows' own cells (each row's printed sentence says how): EncodeInsts: laid · EncodeLists: laid · EncodeWith: laid · EncodeOps: laid · EncodeBack: laid · EncodeFields: laid.
  DERIVED. THE GIVEN ROWS OF THIS SEAT. 6 by the template 'for every input the law returns true; each argument reads behind the call as it read before'; 0 by the template 'total and deterministic' (their statements: YtaoccmopfflkmaaDoorTotals.lean).
  GIVEN WITH THE SEED: the statements are not yours to turn. If you find one false, say at which input.
  Laid BY PROGRAM, IN A SANDBOX (cutbox-rows.mjs): the forced cells as the released guide's own fill.sh prints them over the translation cf590e39f54f2407… (all of the seat's roots in one cut). By AI agents, Wed Nov 11 2026. No macro, syntax, notation, axiom, sorry.
-/
import Derived.Test.YtaoccmopfflkmaaDoorChecked
import GoSem.Claim
import GoSem.ClaimJoined
import GoSem.ClaimMapViews
import Derived.JoinedTies
import Derived.KernelRfl
namespace Go.Proofs.YtaoccmopfflkmaaDoor
/- THE CELL 'sum', in the pinned program and in every row, IS THE sha256 OF THE DUMP (.gsa) THAT YtaoccmopfflkmaaDoorProg.lean LOADS. Nothing in Lean hashes anything: it is a label: what it is worth is what the hold of that sum in a sandbox is worth. -/
noncomputable def Tryd.pinned : Pinned := { name := "ytaoccmopfflkmaadoor", sum := "cf590e39f54f2407e3807ae44abb615de38359e6d5f8243102abeb340ecb899f", checked := Tryd.checked }
namespace Rows
def none {H : Type} : Left H := { results := [], args := [] }

/- WHAT THE LISTED PACKAGE-LEVEL VARIABLES READ AS WHEN THE CALL BEGINS. Each datum BY PROGRAM (the guide's laid-datum.mjs) off the statement by which the dump's own 'gosem.cut.vars' lays the variable. In a bare row this is a premise. The card (YtaoccmopfflkmaaDoorCards.lean) ties it to the program's text. -/
def laid_abacus_table_fixed {H : Type} : DataW H := .agg [.lit (.int .u32 0), .lit (.int .u32 28799), .lit (.int .u32 28799), .lit (.int .u32 100663423), .lit (.int .u32 4261412991), .lit (.int .u32 4261441663), .lit (.int .u32 4293918847), .lit (.int .u32 4293947519), .lit (.int .u32 28799), .lit (.int .u32 28799)]
def laid_abacus_table_plans {H : Type} : DataW H := .slice [.agg [.lit (.string []), .lit (.int .u8 0), .lit (.int .u8 0), .lit (.int .u8 0), .lit (.int .u8 0)], .agg [.lit (.string [102, 108, 77]), .lit (.int .u8 7), .lit (.int .u8 0), .lit (.int .u8 0), .lit (.int .u8 1)], .agg [.lit (.string [102, 115, 77]), .lit (.int .u8 39), .lit (.int .u8 0), .lit (.int .u8 0), .lit (.int .u8 2)], .agg [.lit (.string [102, 109, 97, 100, 100, 46, 70]), .lit (.int .u8 67), .lit (.int .u8 0), .lit (.int .u8 0), .lit (.int .u8 3)], .agg [.lit (.string [102, 109, 115, 117, 98, 46, 70]), .lit (.int .u8 71), .lit (.int .u8 0), .lit (.int .u8 0), .lit (.int .u8 3)], .agg [.lit (.string [102, 110, 109, 115, 117, 98, 46, 70]), .lit (.int .u8 75), .lit (.int .u8 0), .lit (.int .u8 0), .lit (.int .u8 3)], .agg [.lit (.string [102, 110, 109, 97, 100, 100, 46, 70]), .lit (.int .u8 79), .lit (.int .u8 0), .lit (.int .u8 0), .lit (.int .u8 3)], .agg [.lit (.string [102, 97, 100, 100, 46, 70]), .lit (.int .u8 83), .lit (.int .u8 0), .lit (.int .u8 0), .lit (.int .u8 4)], .agg [.lit (.string [102, 115, 117, 98, 46, 70]), .lit (.int .u8 83), .lit (.int .u8 1), .lit (.int .u8 0), .lit (.int .u8 4)], .agg [.lit (.string [102, 109, 117, 108, 46, 70]), .lit (.int .u8 83), .lit (.int .u8 2), .lit (.int .u8 0), .lit (.int .u8 4)], .agg [.lit (.string [102, 100, 105, 118, 46, 70]), .lit (.int .u8 83), .lit (.int .u8 3), .lit (.int .u8 0), .lit (.int .u8 4)], .agg [.lit (.string [102, 115, 113, 114, 116, 46, 70]), .lit (.int .u8 83), .lit (.int .u8 11), .lit (.int .u8 0), .lit (.int .u8 6)], .agg [.lit (.string [102, 115, 103, 110, 106, 46, 70]), .lit (.int .u8 83), .lit (.int .u8 4), .lit (.int .u8 0), .lit (.int .u8 5)], .agg [.lit (.string [102, 115, 103, 110, 106, 110, 46, 70]), .lit (.int .u8 83), .lit (.int .u8 4), .lit (.int .u8 1), .lit (.int .u8 5)], .agg [.lit (.string [102, 115, 103, 110, 106, 120, 46, 70]), .lit (.int .u8 83), .lit (.int .u8 4), .lit (.int .u8 2), .lit (.int .u8 5)], .agg [.lit (.string [102, 109, 105, 110, 46, 70]), .lit (.int .u8 83), .lit (.int .u8 5), .lit (.int .u8 0), .lit (.int .u8 5)], .agg [.lit (.string [102, 109, 97, 120, 46, 70]), .lit (.int .u8 83), .lit (.int .u8 5), .lit (.int .u8 1), .lit (.int .u8 5)], .agg [.lit (.string [102, 99, 118, 116, 46, 70, 46, 71]), .lit (.int .u8 83), .lit (.int .u8 8), .lit (.int .u8 0), .lit (.int .u8 6)], .agg [.lit (.string [102, 101, 113, 46, 70]), .lit (.int .u8 83), .lit (.int .u8 20), .lit (.int .u8 2), .lit (.int .u8 5)], .agg [.lit (.string [102, 108, 116, 46, 70]), .lit (.int .u8 83), .lit (.int .u8 20), .lit (.int .u8 1), .lit (.int .u8 5)], .agg [.lit (.string [102, 108, 101, 46, 70]), .lit (.int .u8 83), .lit (.int .u8 20), .lit (.int .u8 0), .lit (.int .u8 5)], .agg [.lit (.string [102, 99, 118, 116, 46, 75, 46, 70]), .lit (.int .u8 83), .lit (.int .u8 24), .lit (.int .u8 0), .lit (.int .u8 6)], .agg [.lit (.string [102, 99, 118, 116, 46, 70, 46, 75]), .lit (.int .u8 83), .lit (.int .u8 26), .lit (.int .u8 0), .lit (.int .u8 6)], .agg [.lit (.string [102, 109, 118, 46, 120, 46, 77]), .lit (.int .u8 83), .lit (.int .u8 28), .lit (.int .u8 0), .lit (.int .u8 7)], .agg [.lit (.string [102, 99, 108, 97, 115, 115, 46, 70]), .lit (.int .u8 83), .lit (.int .u8 28), .lit (.int .u8 1), .lit (.int .u8 7)], .agg [.lit (.string [102, 109, 118, 46, 77, 46, 120]), .lit (.int .u8 83), .lit (.int .u8 30), .lit (.int .u8 0), .lit (.int .u8 7)], .agg [.lit (.string [99, 115, 114, 114, 119]), .lit (.int .u8 115), .lit (.int .u8 0), .lit (.int .u8 1), .lit (.int .u8 8)], .agg [.lit (.string [99, 115, 114, 114, 115]), .lit (.int .u8 115), .lit (.int .u8 0), .lit (.int .u8 2), .lit (.int .u8 8)], .agg [.lit (.string [99, 115, 114, 114, 99]), .lit (.int .u8 115), .lit (.int .u8 0), .lit (.int .u8 3), .lit (.int .u8 8)], .agg [.lit (.string [99, 115, 114, 114, 119, 105]), .lit (.int .u8 115), .lit (.int .u8 0), .lit (.int .u8 5), .lit (.int .u8 9)], .agg [.lit (.string [99, 115, 114, 114, 115, 105]), .lit (.int .u8 115), .lit (.int .u8 0), .lit (.int .u8 6), .lit (.int .u8 9)], .agg [.lit (.string [99, 115, 114, 114, 99, 105]), .lit (.int .u8 115), .lit (.int .u8 0), .lit (.int .u8 7), .lit (.int .u8 9)]] []
def laid_abacus_table_widths {H : Type} : DataW H := .agg [.lit (.int .u8 2), .lit (.int .u8 3), .lit (.int .u8 1), .lit (.int .u8 4)]

/-- 'abacuslaw26.EncodeInsts': WHATEVER THE INPUT: true; the input reads as it did. -/
def encodeInstsSpec : ChangeSpec := { name := "encodeInsts", fn := fun _ => fun
  | [d] => { results := [.lit (.bool true)], args := [d] }
  | _ => none }
def encodeInstsRow : OpenClaim := { program := "ytaoccmopfflkmaadoor", sum := "cf590e39f54f2407e3807ae44abb615de38359e6d5f8243102abeb340ecb899f", func := "abacus/abacuslaw26.EncodeInsts", spec := "encodeInsts", unfollowed := true, recurses := true, named := ["abacus/table.plans", "abacus/table.fixed", "abacus/table.widths"], plainKeys := false, apart := false, laid := [("abacus/table.fixed", laid_abacus_table_fixed), ("abacus/table.plans", laid_abacus_table_plans), ("abacus/table.widths", laid_abacus_table_widths)] }
def EncodeInstsSaid : Prop := encodeInstsRow.holds Tryd.pinned (OpenSpec.ofChange encodeInstsSpec)

/-- ITS FALSE NEIGHBOUR: 'it returns false'. Refute it at one input. -/
def encodeInstsWrong : ChangeSpec := { name := "encodeInsts", fn := fun _ => fun
  | [d] => { results := [.lit (.bool false)], args := [d] }
  | _ => none }
def EncodeInstsWrongFalsely : Prop := encodeInstsRow.holds Tryd.pinned (OpenSpec.ofChange encodeInstsWrong)

/-- 'abacuslaw26.EncodeLists': WHATEVER THE INPUT: true; the input reads as it did. -/
def encodeListsSpec : ChangeSpec := { name := "encodeLists", fn := fun _ => fun
  | [d] => { results := [.lit (.bool true)], args := [d] }
  | _ => none }
def encodeListsRow : OpenClaim := { program := "ytaoccmopfflkmaadoor", sum := "cf590e39f54f2407e3807ae44abb615de38359e6d5f8243102abeb340ecb899f", func := "abacus/abacuslaw26.EncodeLists", spec := "encodeLists", unfollowed := true, recurses := true, named := ["abacus/table.plans", "abacus/table.fixed", "abacus/table.widths"], plainKeys := false, apart := false, laid := [("abacus/table.fixed", laid_abacus_table_fixed), ("abacus/table.plans", laid_abacus_table_plans), ("abacus/table.widths", laid_abacus_table_widths)] }
def EncodeListsSaid : Prop := encodeListsRow.holds Tryd.pinned (OpenSpec.ofChange encodeListsSpec)

/-- ITS FALSE NEIGHBOUR: 'it returns false'. Refute it at one input. -/
def encodeListsWrong : ChangeSpec := { name := "encodeLists", fn := fun _ => fun
  | [d] => { results := [.lit (.bool false)], args := [d] }
  | _ => none }
def EncodeListsWrongFalsely : Prop := encodeListsRow.holds Tryd.pinned (OpenSpec.ofChange encodeListsWrong)

/-- 'abacuslaw26.EncodeWith': WHATEVER THE INPUT: true; the input reads as it did. -/
def encodeWithSpec : ChangeSpec := { name := "encodeWith", fn := fun _ => fun
  | [d1, d2] => { results := [.lit (.bool true)], args := [d1, d2] }
  | _ => none }
def encodeWithRow : OpenClaim := { program := "ytaoccmopfflkmaadoor", sum := "cf590e39f54f2407e3807ae44abb615de38359e6d5f8243102abeb340ecb899f", func := "abacus/abacuslaw26.EncodeWith", spec := "encodeWith", unfollowed := true, recurses := true, named := ["abacus/table.plans", "abacus/table.fixed", "abacus/table.widths"], plainKeys := false, apart := false, laid := [("abacus/table.fixed", laid_abacus_table_fixed), ("abacus/table.plans", laid_abacus_table_plans), ("abacus/table.widths", laid_abacus_table_widths)] }
def EncodeWithSaid : Prop := encodeWithRow.holds Tryd.pinned (OpenSpec.ofChange encodeWithSpec)

/-- ITS FALSE NEIGHBOUR: 'it returns false'. Refute it at one input. -/
def encodeWithWrong : ChangeSpec := { name := "encodeWith", fn := fun _ => fun
  | [d1, d2] => { results := [.lit (.bool false)], args := [d1, d2] }
  | _ => none }
def EncodeWithWrongFalsely : Prop := encodeWithRow.holds Tryd.pinned (OpenSpec.ofChange encodeWithWrong)

/-- 'abacuslaw26.EncodeOps': WHATEVER THE INPUT: true; the input reads as it did. -/
def encodeOpsSpec : ChangeSpec := { name := "encodeOps", fn := fun _ => fun
  | [d1, d2] => { results := [.lit (.bool true)], args := [d1, d2] }
  | _ => none }
def encodeOpsRow : OpenClaim := { program := "ytaoccmopfflkmaadoor", sum := "cf590e39f54f2407e3807ae44abb615de38359e6d5f8243102abeb340ecb899f", func := "abacus/abacuslaw26.EncodeOps", spec := "encodeOps", unfollowed := true, recurses := true, named := ["abacus/table.plans", "abacus/table.fixed", "abacus/table.widths"], plainKeys := false, apart := false, laid := [("abacus/table.fixed", laid_abacus_table_fixed), ("abacus/table.plans", laid_abacus_table_plans), ("abacus/table.widths", laid_abacus_table_widths)] }
def EncodeOpsSaid : Prop := encodeOpsRow.holds Tryd.pinned (OpenSpec.ofChange encodeOpsSpec)

/-- ITS FALSE NEIGHBOUR: 'it returns false'. Refute it at one input. -/
def encodeOpsWrong : ChangeSpec := { name := "encodeOps", fn := fun _ => fun
  | [d1, d2] => { results := [.lit (.bool false)], args := [d1, d2] }
  | _ => none }
def EncodeOpsWrongFalsely : Prop := encodeOpsRow.holds Tryd.pinned (OpenSpec.ofChange encodeOpsWrong)

/-- 'abacuslaw26.EncodeBack': WHATEVER THE INPUT: true; the input reads as it did. -/
def encodeBackSpec : ChangeSpec := { name := "encodeBack", fn := fun _ => fun
  | [d1, d2] => { results := [.lit (.bool true)], args := [d1, d2] }
  | _ => none }
def encodeBackRow : OpenClaim := { program := "ytaoccmopfflkmaadoor", sum := "cf590e39f54f2407e3807ae44abb615de38359e6d5f8243102abeb340ecb899f", func := "abacus/abacuslaw26.EncodeBack", spec := "encodeBack", unfollowed := true, recurses := true, named := ["abacus/table.plans", "abacus/table.fixed", "abacus/table.widths"], plainKeys := false, apart := false, laid := [("abacus/table.fixed", laid_abacus_table_fixed), ("abacus/table.plans", laid_abacus_table_plans), ("abacus/table.widths", laid_abacus_table_widths)] }
def EncodeBackSaid : Prop := encodeBackRow.holds Tryd.pinned (OpenSpec.ofChange encodeBackSpec)

/-- ITS FALSE NEIGHBOUR: 'it returns false'. Refute it at one input. -/
def encodeBackWrong : ChangeSpec := { name := "encodeBack", fn := fun _ => fun
  | [d1, d2] => { results := [.lit (.bool false)], args := [d1, d2] }
  | _ => none }
def EncodeBackWrongFalsely : Prop := encodeBackRow.holds Tryd.pinned (OpenSpec.ofChange encodeBackWrong)

/-- 'abacuslaw26.EncodeFields': WHATEVER THE INPUT: true; the input reads as it did. -/
def encodeFieldsSpec : ChangeSpec := { name := "encodeFields", fn := fun _ => fun
  | [d1, d2, d3] => { results := [.lit (.bool true)], args := [d1, d2, d3] }
  | _ => none }
def encodeFieldsRow : OpenClaim := { program := "ytaoccmopfflkmaadoor", sum := "cf590e39f54f2407e3807ae44abb615de38359e6d5f8243102abeb340ecb899f", func := "abacus/abacuslaw26.EncodeFields", spec := "encodeFields", unfollowed := true, recurses := true, named := ["abacus/table.plans", "abacus/table.fixed", "abacus/table.widths"], plainKeys := false, apart := false, laid := [("abacus/table.fixed", laid_abacus_table_fixed), ("abacus/table.plans", laid_abacus_table_plans), ("abacus/table.widths", laid_abacus_table_widths)] }
def EncodeFieldsSaid : Prop := encodeFieldsRow.holds Tryd.pinned (OpenSpec.ofChange encodeFieldsSpec)

/-- ITS FALSE NEIGHBOUR: 'it returns false'. Refute it at one input. -/
def encodeFieldsWrong : ChangeSpec := { name := "encodeFields", fn := fun _ => fun
  | [d1, d2, d3] => { results := [.lit (.bool false)], args := [d1, d2, d3] }
  | _ => none }
def EncodeFieldsWrongFalsely : Prop := encodeFieldsRow.holds Tryd.pinned (OpenSpec.ofChange encodeFieldsWrong)

/- THE SECOND FORM. 'bulk': how many values and letters a reading holds, each counted each time it is reached (what is shared counts as often as it is met; a slice's spare places count too). A statement '..UptoSaid' is the law's where the arguments, and the package variables that the reading takes, are together of bulk at most 1048576: NARROWER than '..Said'. Prove '..Said' where nothing that the law and all that it calls make is longer than what came in: it says more and counts as full. Else prove '..UptoSaid'. A law counts once. -/
mutual
def uptoBulk {H : Type} : DataW H → Nat
  | .lit (.string bytes) => bytes.length + 1
  | .lit _ => 1
  | .nil => 1
  | .ptr d => uptoBulk d + 1
  | .slice elems spare => uptoBulkAll elems + uptoBulkAll spare + 1
  | .agg parts => uptoBulkAll parts + 1
  | .iface _ d => uptoBulk d + 1
  | .map entries => uptoBulkEntries entries + 1
  | .held _ => 1
def uptoBulkAll {H : Type} : List (DataW H) → Nat
  | [] => 0
  | d :: r => uptoBulk d + uptoBulkAll r
def uptoBulkEntries {H : Type} : List (Lit × DataW H) → Nat
  | [] => 0
  | x :: r => uptoBulkEntry x + uptoBulkEntries r
def uptoBulkEntry {H : Type} : Lit × DataW H → Nat
  | (.string bytes, d) => bytes.length + uptoBulk d + 1
  | (_, d) => uptoBulk d + 1
 end
def uptoSmall : (H : Type) → List (DataW H) → Bool := fun _ ds => decide (uptoBulkAll ds ≤ 1048576)
def OpenSpec.upto (s : _root_.Go.ChangeSpec) : _root_.Go.OpenSpec := { _root_.Go.OpenSpec.ofChange s with cond := some uptoSmall }

/-- 'abacuslaw26.EncodeInsts', WHERE WHAT IT READS IS OF BULK AT MOST 1048576: true; the input reads as it did. -/
def encodeInstsUptoRow : OpenClaim := { program := "ytaoccmopfflkmaadoor", sum := "cf590e39f54f2407e3807ae44abb615de38359e6d5f8243102abeb340ecb899f", func := "abacus/abacuslaw26.EncodeInsts", spec := "encodeInsts", unfollowed := true, recurses := true, named := ["abacus/table.plans", "abacus/table.fixed", "abacus/table.widths"], plainKeys := false, apart := false, laid := [("abacus/table.fixed", laid_abacus_table_fixed), ("abacus/table.plans", laid_abacus_table_plans), ("abacus/table.widths", laid_abacus_table_widths)], narrowed := true }
def EncodeInstsUptoSaid : Prop := encodeInstsUptoRow.holds Tryd.pinned (OpenSpec.upto encodeInstsSpec)

/-- 'abacuslaw26.EncodeLists', WHERE WHAT IT READS IS OF BULK AT MOST 1048576: true; the input reads as it did. -/
def encodeListsUptoRow : OpenClaim := { program := "ytaoccmopfflkmaadoor", sum := "cf590e39f54f2407e3807ae44abb615de38359e6d5f8243102abeb340ecb899f", func := "abacus/abacuslaw26.EncodeLists", spec := "encodeLists", unfollowed := true, recurses := true, named := ["abacus/table.plans", "abacus/table.fixed", "abacus/table.widths"], plainKeys := false, apart := false, laid := [("abacus/table.fixed", laid_abacus_table_fixed), ("abacus/table.plans", laid_abacus_table_plans), ("abacus/table.widths", laid_abacus_table_widths)], narrowed := true }
def EncodeListsUptoSaid : Prop := encodeListsUptoRow.holds Tryd.pinned (OpenSpec.upto encodeListsSpec)

/-- 'abacuslaw26.EncodeWith', WHERE WHAT IT READS IS OF BULK AT MOST 1048576: true; the input reads as it did. -/
def encodeWithUptoRow : OpenClaim := { program := "ytaoccmopfflkmaadoor", sum := "cf590e39f54f2407e3807ae44abb615de38359e6d5f8243102abeb340ecb899f", func := "abacus/abacuslaw26.EncodeWith", spec := "encodeWith", unfollowed := true, recurses := true, named := ["abacus/table.plans", "abacus/table.fixed", "abacus/table.widths"], plainKeys := false, apart := false, laid := [("abacus/table.fixed", laid_abacus_table_fixed), ("abacus/table.plans", laid_abacus_table_plans), ("abacus/table.widths", laid_abacus_table_widths)], narrowed := true }
def EncodeWithUptoSaid : Prop := encodeWithUptoRow.holds Tryd.pinned (OpenSpec.upto encodeWithSpec)

/-- 'abacuslaw26.EncodeOps', WHERE WHAT IT READS IS OF BULK AT MOST 1048576: true; the input reads as it did. -/
def encodeOpsUptoRow : OpenClaim := { program := "ytaoccmopfflkmaadoor", sum := "cf590e39f54f2407e3807ae44abb615de38359e6d5f8243102abeb340ecb899f", func := "abacus/abacuslaw26.EncodeOps", spec := "encodeOps", unfollowed := true, recurses := true, named := ["abacus/table.plans", "abacus/table.fixed", "abacus/table.widths"], plainKeys := false, apart := false, laid := [("abacus/table.fixed", laid_abacus_table_fixed), ("abacus/table.plans", laid_abacus_table_plans), ("abacus/table.widths", laid_abacus_table_widths)], narrowed := true }
def EncodeOpsUptoSaid : Prop := encodeOpsUptoRow.holds Tryd.pinned (OpenSpec.upto encodeOpsSpec)

/-- 'abacuslaw26.EncodeBack', WHERE WHAT IT READS IS OF BULK AT MOST 1048576: true; the input reads as it did. -/
def encodeBackUptoRow : OpenClaim := { program := "ytaoccmopfflkmaadoor", sum := "cf590e39f54f2407e3807ae44abb615de38359e6d5f8243102abeb340ecb899f", func := "abacus/abacuslaw26.EncodeBack", spec := "encodeBack", unfollowed := true, recurses := true, named := ["abacus/table.plans", "abacus/table.fixed", "abacus/table.widths"], plainKeys := false, apart := false, laid := [("abacus/table.fixed", laid_abacus_table_fixed), ("abacus/table.plans", laid_abacus_table_plans), ("abacus/table.widths", laid_abacus_table_widths)], narrowed := true }
def EncodeBackUptoSaid : Prop := encodeBackUptoRow.holds Tryd.pinned (OpenSpec.upto encodeBackSpec)

/-- 'abacuslaw26.EncodeFields', WHERE WHAT IT READS IS OF BULK AT MOST 1048576: true; the input reads as it did. -/
def encodeFieldsUptoRow : OpenClaim := { program := "ytaoccmopfflkmaadoor", sum := "cf590e39f54f2407e3807ae44abb615de38359e6d5f8243102abeb340ecb899f", func := "abacus/abacuslaw26.EncodeFields", spec := "encodeFields", unfollowed := true, recurses := true, named := ["abacus/table.plans", "abacus/table.fixed", "abacus/table.widths"], plainKeys := false, apart := false, laid := [("abacus/table.fixed", laid_abacus_table_fixed), ("abacus/table.plans", laid_abacus_table_plans), ("abacus/table.widths", laid_abacus_table_widths)], narrowed := true }
def EncodeFieldsUptoSaid : Prop := encodeFieldsUptoRow.holds Tryd.pinned (OpenSpec.upto encodeFieldsSpec)

end Rows
end Go.Proofs.YtaoccmopfflkmaaDoor
