/-
  NARROWER THAN 'FOR EVERY INPUT', by the rows' own cells (each row's printed sentence says how): TableRows: laid · TableFinds: laid · TableFits: laid · TableAsks: laid · TableOne: laid · TablePairs: laid.
  DERIVED. THE GIVEN ROWS OF THIS SEAT. 6 by the template 'for every input the law returns true; each argument reads behind the call as it read before'; 0 by the template 'total and deterministic' (their statements: YtfdhglllmhggkaaDoorTotals.lean).
  GIVEN WITH THE SEED: the statements are not yours to turn. If you find one false, say at which input.
  Laid BY PROGRAM, IN A SANDBOX (cutbox-rows.mjs): the forced cells as the released guide's own fill.sh prints them over the translation 27dde4c283c0d5e9… (all of the seat's roots in one cut). By AI agents, Wed Nov 11 2026. No macro, syntax, notation, axiom, sorry.
-/
import Derived.Test.YtfdhglllmhggkaaDoorChecked
import GoSem.Claim
import GoSem.ClaimJoined
import GoSem.ClaimMapViews
import Derived.JoinedTies
import Derived.KernelRfl
namespace Go.Proofs.YtfdhglllmhggkaaDoor
/- THE CELL 'sum', in the pinned program and in every row, IS THE sha256 OF THE DUMP (.gsa) THAT YtfdhglllmhggkaaDoorProg.lean LOADS. Nothing in Lean hashes anything: it is a label: what it is worth is what the hold of that sum in a sandbox is worth. -/
noncomputable def Tryd.pinned : Pinned := { name := "ytfdhglllmhggkaadoor", sum := "27dde4c283c0d5e939c061b4cbda90324fa74b034120b8f7050715c1971b0c32", checked := Tryd.checked }
namespace Rows
def none {H : Type} : Left H := { results := [], args := [] }

/- WHAT THE LISTED PACKAGE-LEVEL VARIABLES READ AS WHEN THE CALL BEGINS. Each datum BY PROGRAM (the guide's laid-datum.mjs) off the statement by which the dump's own 'gosem.cut.vars' lays the variable. In a bare row this is a premise. The card (YtfdhglllmhggkaaDoorCards.lean) ties it to the program's text. -/
def laid_abacus_table_fixed {H : Type} : DataW H := .agg [.lit (.int .u32 0), .lit (.int .u32 28799), .lit (.int .u32 28799), .lit (.int .u32 100663423), .lit (.int .u32 4261412991), .lit (.int .u32 4261441663), .lit (.int .u32 4293918847), .lit (.int .u32 4293947519), .lit (.int .u32 28799), .lit (.int .u32 28799)]
def laid_abacus_table_kindNames {H : Type} : DataW H := .agg [.lit (.string [119]), .lit (.string [119, 117]), .lit (.string [108]), .lit (.string [108, 117])]
def laid_abacus_table_plans {H : Type} : DataW H := .slice [.agg [.lit (.string []), .lit (.int .u8 0), .lit (.int .u8 0), .lit (.int .u8 0), .lit (.int .u8 0)], .agg [.lit (.string [102, 108, 77]), .lit (.int .u8 7), .lit (.int .u8 0), .lit (.int .u8 0), .lit (.int .u8 1)], .agg [.lit (.string [102, 115, 77]), .lit (.int .u8 39), .lit (.int .u8 0), .lit (.int .u8 0), .lit (.int .u8 2)], .agg [.lit (.string [102, 109, 97, 100, 100, 46, 70]), .lit (.int .u8 67), .lit (.int .u8 0), .lit (.int .u8 0), .lit (.int .u8 3)], .agg [.lit (.string [102, 109, 115, 117, 98, 46, 70]), .lit (.int .u8 71), .lit (.int .u8 0), .lit (.int .u8 0), .lit (.int .u8 3)], .agg [.lit (.string [102, 110, 109, 115, 117, 98, 46, 70]), .lit (.int .u8 75), .lit (.int .u8 0), .lit (.int .u8 0), .lit (.int .u8 3)], .agg [.lit (.string [102, 110, 109, 97, 100, 100, 46, 70]), .lit (.int .u8 79), .lit (.int .u8 0), .lit (.int .u8 0), .lit (.int .u8 3)], .agg [.lit (.string [102, 97, 100, 100, 46, 70]), .lit (.int .u8 83), .lit (.int .u8 0), .lit (.int .u8 0), .lit (.int .u8 4)], .agg [.lit (.string [102, 115, 117, 98, 46, 70]), .lit (.int .u8 83), .lit (.int .u8 1), .lit (.int .u8 0), .lit (.int .u8 4)], .agg [.lit (.string [102, 109, 117, 108, 46, 70]), .lit (.int .u8 83), .lit (.int .u8 2), .lit (.int .u8 0), .lit (.int .u8 4)], .agg [.lit (.string [102, 100, 105, 118, 46, 70]), .lit (.int .u8 83), .lit (.int .u8 3), .lit (.int .u8 0), .lit (.int .u8 4)], .agg [.lit (.string [102, 115, 113, 114, 116, 46, 70]), .lit (.int .u8 83), .lit (.int .u8 11), .lit (.int .u8 0), .lit (.int .u8 6)], .agg [.lit (.string [102, 115, 103, 110, 106, 46, 70]), .lit (.int .u8 83), .lit (.int .u8 4), .lit (.int .u8 0), .lit (.int .u8 5)], .agg [.lit (.string [102, 115, 103, 110, 106, 110, 46, 70]), .lit (.int .u8 83), .lit (.int .u8 4), .lit (.int .u8 1), .lit (.int .u8 5)], .agg [.lit (.string [102, 115, 103, 110, 106, 120, 46, 70]), .lit (.int .u8 83), .lit (.int .u8 4), .lit (.int .u8 2), .lit (.int .u8 5)], .agg [.lit (.string [102, 109, 105, 110, 46, 70]), .lit (.int .u8 83), .lit (.int .u8 5), .lit (.int .u8 0), .lit (.int .u8 5)], .agg [.lit (.string [102, 109, 97, 120, 46, 70]), .lit (.int .u8 83), .lit (.int .u8 5), .lit (.int .u8 1), .lit (.int .u8 5)], .agg [.lit (.string [102, 99, 118, 116, 46, 70, 46, 71]), .lit (.int .u8 83), .lit (.int .u8 8), .lit (.int .u8 0), .lit (.int .u8 6)], .agg [.lit (.string [102, 101, 113, 46, 70]), .lit (.int .u8 83), .lit (.int .u8 20), .lit (.int .u8 2), .lit (.int .u8 5)], .agg [.lit (.string [102, 108, 116, 46, 70]), .lit (.int .u8 83), .lit (.int .u8 20), .lit (.int .u8 1), .lit (.int .u8 5)], .agg [.lit (.string [102, 108, 101, 46, 70]), .lit (.int .u8 83), .lit (.int .u8 20), .lit (.int .u8 0), .lit (.int .u8 5)], .agg [.lit (.string [102, 99, 118, 116, 46, 75, 46, 70]), .lit (.int .u8 83), .lit (.int .u8 24), .lit (.int .u8 0), .lit (.int .u8 6)], .agg [.lit (.string [102, 99, 118, 116, 46, 70, 46, 75]), .lit (.int .u8 83), .lit (.int .u8 26), .lit (.int .u8 0), .lit (.int .u8 6)], .agg [.lit (.string [102, 109, 118, 46, 120, 46, 77]), .lit (.int .u8 83), .lit (.int .u8 28), .lit (.int .u8 0), .lit (.int .u8 7)], .agg [.lit (.string [102, 99, 108, 97, 115, 115, 46, 70]), .lit (.int .u8 83), .lit (.int .u8 28), .lit (.int .u8 1), .lit (.int .u8 7)], .agg [.lit (.string [102, 109, 118, 46, 77, 46, 120]), .lit (.int .u8 83), .lit (.int .u8 30), .lit (.int .u8 0), .lit (.int .u8 7)], .agg [.lit (.string [99, 115, 114, 114, 119]), .lit (.int .u8 115), .lit (.int .u8 0), .lit (.int .u8 1), .lit (.int .u8 8)], .agg [.lit (.string [99, 115, 114, 114, 115]), .lit (.int .u8 115), .lit (.int .u8 0), .lit (.int .u8 2), .lit (.int .u8 8)], .agg [.lit (.string [99, 115, 114, 114, 99]), .lit (.int .u8 115), .lit (.int .u8 0), .lit (.int .u8 3), .lit (.int .u8 8)], .agg [.lit (.string [99, 115, 114, 114, 119, 105]), .lit (.int .u8 115), .lit (.int .u8 0), .lit (.int .u8 5), .lit (.int .u8 9)], .agg [.lit (.string [99, 115, 114, 114, 115, 105]), .lit (.int .u8 115), .lit (.int .u8 0), .lit (.int .u8 6), .lit (.int .u8 9)], .agg [.lit (.string [99, 115, 114, 114, 99, 105]), .lit (.int .u8 115), .lit (.int .u8 0), .lit (.int .u8 7), .lit (.int .u8 9)]] []
def laid_abacus_table_widths {H : Type} : DataW H := .agg [.lit (.int .u8 2), .lit (.int .u8 3), .lit (.int .u8 1), .lit (.int .u8 4)]

/-- 'abacuslaw24.TableRows': WHATEVER THE INPUT: true; the input reads as it did. -/
def tableRowsSpec : ChangeSpec := { name := "tableRows", fn := fun _ => fun
  | [] => { results := [.lit (.bool true)], args := [] }
  | _ => none }
def tableRowsRow : OpenClaim := { program := "ytfdhglllmhggkaadoor", sum := "27dde4c283c0d5e939c061b4cbda90324fa74b034120b8f7050715c1971b0c32", func := "abacus/abacuslaw24.TableRows", spec := "tableRows", unfollowed := true, recurses := true, named := ["abacus/table.plans", "abacus/table.fixed", "abacus/table.widths", "abacus/table.kindNames"], plainKeys := false, apart := false, laid := [("abacus/table.fixed", laid_abacus_table_fixed), ("abacus/table.kindNames", laid_abacus_table_kindNames), ("abacus/table.plans", laid_abacus_table_plans), ("abacus/table.widths", laid_abacus_table_widths)] }
def TableRowsSaid : Prop := tableRowsRow.holds Tryd.pinned (OpenSpec.ofChange tableRowsSpec)

/-- ITS FALSE NEIGHBOUR: 'it returns false'. Refute it at one input. -/
def tableRowsWrong : ChangeSpec := { name := "tableRows", fn := fun _ => fun
  | [] => { results := [.lit (.bool false)], args := [] }
  | _ => none }
def TableRowsWrongFalsely : Prop := tableRowsRow.holds Tryd.pinned (OpenSpec.ofChange tableRowsWrong)

/-- 'abacuslaw24.TableFinds': WHATEVER THE INPUT: true; the input reads as it did. -/
def tableFindsSpec : ChangeSpec := { name := "tableFinds", fn := fun _ => fun
  | [d] => { results := [.lit (.bool true)], args := [d] }
  | _ => none }
def tableFindsRow : OpenClaim := { program := "ytfdhglllmhggkaadoor", sum := "27dde4c283c0d5e939c061b4cbda90324fa74b034120b8f7050715c1971b0c32", func := "abacus/abacuslaw24.TableFinds", spec := "tableFinds", unfollowed := true, recurses := true, named := ["abacus/table.plans", "abacus/table.fixed", "abacus/table.widths", "abacus/table.kindNames"], plainKeys := false, apart := false, laid := [("abacus/table.fixed", laid_abacus_table_fixed), ("abacus/table.kindNames", laid_abacus_table_kindNames), ("abacus/table.plans", laid_abacus_table_plans), ("abacus/table.widths", laid_abacus_table_widths)] }
def TableFindsSaid : Prop := tableFindsRow.holds Tryd.pinned (OpenSpec.ofChange tableFindsSpec)

/-- ITS FALSE NEIGHBOUR: 'it returns false'. Refute it at one input. -/
def tableFindsWrong : ChangeSpec := { name := "tableFinds", fn := fun _ => fun
  | [d] => { results := [.lit (.bool false)], args := [d] }
  | _ => none }
def TableFindsWrongFalsely : Prop := tableFindsRow.holds Tryd.pinned (OpenSpec.ofChange tableFindsWrong)

/-- 'abacuslaw24.TableFits': WHATEVER THE INPUT: true; the input reads as it did. -/
def tableFitsSpec : ChangeSpec := { name := "tableFits", fn := fun _ => fun
  | [d1, d2] => { results := [.lit (.bool true)], args := [d1, d2] }
  | _ => none }
def tableFitsRow : OpenClaim := { program := "ytfdhglllmhggkaadoor", sum := "27dde4c283c0d5e939c061b4cbda90324fa74b034120b8f7050715c1971b0c32", func := "abacus/abacuslaw24.TableFits", spec := "tableFits", unfollowed := true, recurses := true, named := ["abacus/table.plans", "abacus/table.fixed", "abacus/table.widths", "abacus/table.kindNames"], plainKeys := false, apart := false, laid := [("abacus/table.fixed", laid_abacus_table_fixed), ("abacus/table.kindNames", laid_abacus_table_kindNames), ("abacus/table.plans", laid_abacus_table_plans), ("abacus/table.widths", laid_abacus_table_widths)] }
def TableFitsSaid : Prop := tableFitsRow.holds Tryd.pinned (OpenSpec.ofChange tableFitsSpec)

/-- ITS FALSE NEIGHBOUR: 'it returns false'. Refute it at one input. -/
def tableFitsWrong : ChangeSpec := { name := "tableFits", fn := fun _ => fun
  | [d1, d2] => { results := [.lit (.bool false)], args := [d1, d2] }
  | _ => none }
def TableFitsWrongFalsely : Prop := tableFitsRow.holds Tryd.pinned (OpenSpec.ofChange tableFitsWrong)

/-- 'abacuslaw24.TableAsks': WHATEVER THE INPUT: true; the input reads as it did. -/
def tableAsksSpec : ChangeSpec := { name := "tableAsks", fn := fun _ => fun
  | [d] => { results := [.lit (.bool true)], args := [d] }
  | _ => none }
def tableAsksRow : OpenClaim := { program := "ytfdhglllmhggkaadoor", sum := "27dde4c283c0d5e939c061b4cbda90324fa74b034120b8f7050715c1971b0c32", func := "abacus/abacuslaw24.TableAsks", spec := "tableAsks", unfollowed := true, recurses := true, named := ["abacus/table.plans", "abacus/table.fixed", "abacus/table.widths", "abacus/table.kindNames"], plainKeys := false, apart := false, laid := [("abacus/table.fixed", laid_abacus_table_fixed), ("abacus/table.kindNames", laid_abacus_table_kindNames), ("abacus/table.plans", laid_abacus_table_plans), ("abacus/table.widths", laid_abacus_table_widths)] }
def TableAsksSaid : Prop := tableAsksRow.holds Tryd.pinned (OpenSpec.ofChange tableAsksSpec)

/-- ITS FALSE NEIGHBOUR: 'it returns false'. Refute it at one input. -/
def tableAsksWrong : ChangeSpec := { name := "tableAsks", fn := fun _ => fun
  | [d] => { results := [.lit (.bool false)], args := [d] }
  | _ => none }
def TableAsksWrongFalsely : Prop := tableAsksRow.holds Tryd.pinned (OpenSpec.ofChange tableAsksWrong)

/-- 'abacuslaw24.TableOne': WHATEVER THE INPUT: true; the input reads as it did. -/
def tableOneSpec : ChangeSpec := { name := "tableOne", fn := fun _ => fun
  | [d] => { results := [.lit (.bool true)], args := [d] }
  | _ => none }
def tableOneRow : OpenClaim := { program := "ytfdhglllmhggkaadoor", sum := "27dde4c283c0d5e939c061b4cbda90324fa74b034120b8f7050715c1971b0c32", func := "abacus/abacuslaw24.TableOne", spec := "tableOne", unfollowed := true, recurses := true, named := ["abacus/table.plans", "abacus/table.fixed", "abacus/table.widths", "abacus/table.kindNames"], plainKeys := false, apart := false, laid := [("abacus/table.fixed", laid_abacus_table_fixed), ("abacus/table.kindNames", laid_abacus_table_kindNames), ("abacus/table.plans", laid_abacus_table_plans), ("abacus/table.widths", laid_abacus_table_widths)] }
def TableOneSaid : Prop := tableOneRow.holds Tryd.pinned (OpenSpec.ofChange tableOneSpec)

/-- ITS FALSE NEIGHBOUR: 'it returns false'. Refute it at one input. -/
def tableOneWrong : ChangeSpec := { name := "tableOne", fn := fun _ => fun
  | [d] => { results := [.lit (.bool false)], args := [d] }
  | _ => none }
def TableOneWrongFalsely : Prop := tableOneRow.holds Tryd.pinned (OpenSpec.ofChange tableOneWrong)

/-- 'abacuslaw24.TablePairs': WHATEVER THE INPUT: true; the input reads as it did. -/
def tablePairsSpec : ChangeSpec := { name := "tablePairs", fn := fun _ => fun
  | [] => { results := [.lit (.bool true)], args := [] }
  | _ => none }
def tablePairsRow : OpenClaim := { program := "ytfdhglllmhggkaadoor", sum := "27dde4c283c0d5e939c061b4cbda90324fa74b034120b8f7050715c1971b0c32", func := "abacus/abacuslaw24.TablePairs", spec := "tablePairs", unfollowed := true, recurses := true, named := ["abacus/table.plans", "abacus/table.fixed", "abacus/table.widths", "abacus/table.kindNames"], plainKeys := false, apart := false, laid := [("abacus/table.fixed", laid_abacus_table_fixed), ("abacus/table.kindNames", laid_abacus_table_kindNames), ("abacus/table.plans", laid_abacus_table_plans), ("abacus/table.widths", laid_abacus_table_widths)] }
def TablePairsSaid : Prop := tablePairsRow.holds Tryd.pinned (OpenSpec.ofChange tablePairsSpec)

/-- ITS FALSE NEIGHBOUR: 'it returns false'. Refute it at one input. -/
def tablePairsWrong : ChangeSpec := { name := "tablePairs", fn := fun _ => fun
  | [] => { results := [.lit (.bool false)], args := [] }
  | _ => none }
def TablePairsWrongFalsely : Prop := tablePairsRow.holds Tryd.pinned (OpenSpec.ofChange tablePairsWrong)

/- THE SECOND FORM. 'bulk': how many values and letters a reading holds, each counted each time it is reached (what is shared counts as often as it is met; a slice's spare places count too). A statement '..UptoSaid' is the law's where the arguments, and the package variables that the reading takes, are together of bulk at most 1048576: NARROWER than '..Said'. Prove '..Said' where nothing that the law and all that it calls make is longer than what came in: it says more and counts as full. Else prove '..UptoSaid'. A law counts once. -/
mutual
def uptoBulk {H : Type} : DataW H → Nat
  | .lit (.string bytes) => bytes.length + 1
  | .lit _ => 1
  | .nil => 1
  | .ptr d => uptoBulk d + 1
  | .slice elems spare => uptoBulkAll elems + uptoBulkAll spare + 1
  | .agg parts => uptoBulkAll parts + 1
  | .iface _ d => uptoBulk d + 1
  | .map entries => uptoBulkEntries entries + 1
  | .held _ => 1
def uptoBulkAll {H : Type} : List (DataW H) → Nat
  | [] => 0
  | d :: r => uptoBulk d + uptoBulkAll r
def uptoBulkEntries {H : Type} : List (Lit × DataW H) → Nat
  | [] => 0
  | x :: r => uptoBulkEntry x + uptoBulkEntries r
def uptoBulkEntry {H : Type} : Lit × DataW H → Nat
  | (.string bytes, d) => bytes.length + uptoBulk d + 1
  | (_, d) => uptoBulk d + 1
 end
def uptoSmall : (H : Type) → List (DataW H) → Bool := fun _ ds => decide (uptoBulkAll ds ≤ 1048576)
def OpenSpec.upto (s : _root_.Go.ChangeSpec) : _root_.Go.OpenSpec := { _root_.Go.OpenSpec.ofChange s with cond := some uptoSmall }

/-- 'abacuslaw24.TableRows', WHERE WHAT IT READS IS OF BULK AT MOST 1048576: true; the input reads as it did. -/
def tableRowsUptoRow : OpenClaim := { program := "ytfdhglllmhggkaadoor", sum := "27dde4c283c0d5e939c061b4cbda90324fa74b034120b8f7050715c1971b0c32", func := "abacus/abacuslaw24.TableRows", spec := "tableRows", unfollowed := true, recurses := true, named := ["abacus/table.plans", "abacus/table.fixed", "abacus/table.widths", "abacus/table.kindNames"], plainKeys := false, apart := false, laid := [("abacus/table.fixed", laid_abacus_table_fixed), ("abacus/table.kindNames", laid_abacus_table_kindNames), ("abacus/table.plans", laid_abacus_table_plans), ("abacus/table.widths", laid_abacus_table_widths)], narrowed := true }
def TableRowsUptoSaid : Prop := tableRowsUptoRow.holds Tryd.pinned (OpenSpec.upto tableRowsSpec)

/-- 'abacuslaw24.TableFinds', WHERE WHAT IT READS IS OF BULK AT MOST 1048576: true; the input reads as it did. -/
def tableFindsUptoRow : OpenClaim := { program := "ytfdhglllmhggkaadoor", sum := "27dde4c283c0d5e939c061b4cbda90324fa74b034120b8f7050715c1971b0c32", func := "abacus/abacuslaw24.TableFinds", spec := "tableFinds", unfollowed := true, recurses := true, named := ["abacus/table.plans", "abacus/table.fixed", "abacus/table.widths", "abacus/table.kindNames"], plainKeys := false, apart := false, laid := [("abacus/table.fixed", laid_abacus_table_fixed), ("abacus/table.kindNames", laid_abacus_table_kindNames), ("abacus/table.plans", laid_abacus_table_plans), ("abacus/table.widths", laid_abacus_table_widths)], narrowed := true }
def TableFindsUptoSaid : Prop := tableFindsUptoRow.holds Tryd.pinned (OpenSpec.upto tableFindsSpec)

/-- 'abacuslaw24.TableFits', WHERE WHAT IT READS IS OF BULK AT MOST 1048576: true; the input reads as it did. -/
def tableFitsUptoRow : OpenClaim := { program := "ytfdhglllmhggkaadoor", sum := "27dde4c283c0d5e939c061b4cbda90324fa74b034120b8f7050715c1971b0c32", func := "abacus/abacuslaw24.TableFits", spec := "tableFits", unfollowed := true, recurses := true, named := ["abacus/table.plans", "abacus/table.fixed", "abacus/table.widths", "abacus/table.kindNames"], plainKeys := false, apart := false, laid := [("abacus/table.fixed", laid_abacus_table_fixed), ("abacus/table.kindNames", laid_abacus_table_kindNames), ("abacus/table.plans", laid_abacus_table_plans), ("abacus/table.widths", laid_abacus_table_widths)], narrowed := true }
def TableFitsUptoSaid : Prop := tableFitsUptoRow.holds Tryd.pinned (OpenSpec.upto tableFitsSpec)

/-- 'abacuslaw24.TableAsks', WHERE WHAT IT READS IS OF BULK AT MOST 1048576: true; the input reads as it did. -/
def tableAsksUptoRow : OpenClaim := { program := "ytfdhglllmhggkaadoor", sum := "27dde4c283c0d5e939c061b4cbda90324fa74b034120b8f7050715c1971b0c32", func := "abacus/abacuslaw24.TableAsks", spec := "tableAsks", unfollowed := true, recurses := true, named := ["abacus/table.plans", "abacus/table.fixed", "abacus/table.widths", "abacus/table.kindNames"], plainKeys := false, apart := false, laid := [("abacus/table.fixed", laid_abacus_table_fixed), ("abacus/table.kindNames", laid_abacus_table_kindNames), ("abacus/table.plans", laid_abacus_table_plans), ("abacus/table.widths", laid_abacus_table_widths)], narrowed := true }
def TableAsksUptoSaid : Prop := tableAsksUptoRow.holds Tryd.pinned (OpenSpec.upto tableAsksSpec)

/-- 'abacuslaw24.TableOne', WHERE WHAT IT READS IS OF BULK AT MOST 1048576: true; the input reads as it did. -/
def tableOneUptoRow : OpenClaim := { program := "ytfdhglllmhggkaadoor", sum := "27dde4c283c0d5e939c061b4cbda90324fa74b034120b8f7050715c1971b0c32", func := "abacus/abacuslaw24.TableOne", spec := "tableOne", unfollowed := true, recurses := true, named := ["abacus/table.plans", "abacus/table.fixed", "abacus/table.widths", "abacus/table.kindNames"], plainKeys := false, apart := false, laid := [("abacus/table.fixed", laid_abacus_table_fixed), ("abacus/table.kindNames", laid_abacus_table_kindNames), ("abacus/table.plans", laid_abacus_table_plans), ("abacus/table.widths", laid_abacus_table_widths)], narrowed := true }
def TableOneUptoSaid : Prop := tableOneUptoRow.holds Tryd.pinned (OpenSpec.upto tableOneSpec)

/-- 'abacuslaw24.TablePairs', WHERE WHAT IT READS IS OF BULK AT MOST 1048576: true; the input reads as it did. -/
def tablePairsUptoRow : OpenClaim := { program := "ytfdhglllmhggkaadoor", sum := "27dde4c283c0d5e939c061b4cbda90324fa74b034120b8f7050715c1971b0c32", func := "abacus/abacuslaw24.TablePairs", spec := "tablePairs", unfollowed := true, recurses := true, named := ["abacus/table.plans", "abacus/table.fixed", "abacus/table.widths", "abacus/table.kindNames"], plainKeys := false, apart := false, laid := [("abacus/table.fixed", laid_abacus_table_fixed), ("abacus/table.kindNames", laid_abacus_table_kindNames), ("abacus/table.plans", laid_abacus_table_plans), ("abacus/table.widths", laid_abacus_table_widths)], narrowed := true }
def TablePairsUptoSaid : Prop := tablePairsUptoRow.holds Tryd.pinned (OpenSpec.upto tablePairsSpec)

end Rows
end Go.Proofs.YtfdhglllmhggkaaDoor
