/-
  NARROWER THAN 'FOR EVERY INPUT', by the rows' own cells (each row's printed sentence says how): DecodeWords: laid · DecodeLists: laid · DecodeBytes: laid · DecodeRows: laid · DecodeNoBit: laid · DecodeBounds: laid.
  DERIVED. THE GIVEN ROWS OF THIS SEAT. 6 by the template 'for every input the law returns true; each argument reads behind the call as it read before'; 0 by the template 'total and deterministic' (their statements: YtamlcgmipdcgjaaDoorTotals.lean).
  GIVEN WITH THE SEED: the statements are not yours to turn. If you find one false, say at which input.
  Laid BY PROGRAM, IN A SANDBOX (cutbox-rows.mjs): the forced cells as the released guide's own fill.sh prints them over the translation 6c742f51e2eaa13d… (all of the seat's roots in one cut). By AI agents, Wed Nov 11 2026. No macro, syntax, notation, axiom, sorry.
-/
import Derived.Test.YtamlcgmipdcgjaaDoorChecked
import GoSem.Claim
import GoSem.ClaimJoined
import GoSem.ClaimMapViews
import Derived.JoinedTies
import Derived.KernelRfl
namespace Go.Proofs.YtamlcgmipdcgjaaDoor
/- THE CELL 'sum', in the pinned program and in every row, IS THE sha256 OF THE DUMP (.gsa) THAT YtamlcgmipdcgjaaDoorProg.lean LOADS. Nothing in Lean hashes anything: it is a label: what it is worth is what the hold of that sum in a sandbox is worth. -/
noncomputable def Tryd.pinned : Pinned := { name := "ytamlcgmipdcgjaadoor", sum := "6c742f51e2eaa13d0e302118354d456c7e38951376ce37aa8450ebf909ff6692", checked := Tryd.checked }
namespace Rows
def none {H : Type} : Left H := { results := [], args := [] }

/- WHAT THE LISTED PACKAGE-LEVEL VARIABLES READ AS WHEN THE CALL BEGINS. Each datum BY PROGRAM (the guide's laid-datum.mjs) off the statement by which the dump's own 'gosem.cut.vars' lays the variable. In a bare row this is a premise. The card (YtamlcgmipdcgjaaDoorCards.lean) ties it to the program's text. -/
def laid_abacus_table_fixed {H : Type} : DataW H := .agg [.lit (.int .u32 0), .lit (.int .u32 28799), .lit (.int .u32 28799), .lit (.int .u32 100663423), .lit (.int .u32 4261412991), .lit (.int .u32 4261441663), .lit (.int .u32 4293918847), .lit (.int .u32 4293947519), .lit (.int .u32 28799), .lit (.int .u32 28799)]
def laid_abacus_table_plans {H : Type} : DataW H := .slice [.agg [.lit (.string []), .lit (.int .u8 0), .lit (.int .u8 0), .lit (.int .u8 0), .lit (.int .u8 0)], .agg [.lit (.string [102, 108, 77]), .lit (.int .u8 7), .lit (.int .u8 0), .lit (.int .u8 0), .lit (.int .u8 1)], .agg [.lit (.string [102, 115, 77]), .lit (.int .u8 39), .lit (.int .u8 0), .lit (.int .u8 0), .lit (.int .u8 2)], .agg [.lit (.string [102, 109, 97, 100, 100, 46, 70]), .lit (.int .u8 67), .lit (.int .u8 0), .lit (.int .u8 0), .lit (.int .u8 3)], .agg [.lit (.string [102, 109, 115, 117, 98, 46, 70]), .lit (.int .u8 71), .lit (.int .u8 0), .lit (.int .u8 0), .lit (.int .u8 3)], .agg [.lit (.string [102, 110, 109, 115, 117, 98, 46, 70]), .lit (.int .u8 75), .lit (.int .u8 0), .lit (.int .u8 0), .lit (.int .u8 3)], .agg [.lit (.string [102, 110, 109, 97, 100, 100, 46, 70]), .lit (.int .u8 79), .lit (.int .u8 0), .lit (.int .u8 0), .lit (.int .u8 3)], .agg [.lit (.string [102, 97, 100, 100, 46, 70]), .lit (.int .u8 83), .lit (.int .u8 0), .lit (.int .u8 0), .lit (.int .u8 4)], .agg [.lit (.string [102, 115, 117, 98, 46, 70]), .lit (.int .u8 83), .lit (.int .u8 1), .lit (.int .u8 0), .lit (.int .u8 4)], .agg [.lit (.string [102, 109, 117, 108, 46, 70]), .lit (.int .u8 83), .lit (.int .u8 2), .lit (.int .u8 0), .lit (.int .u8 4)], .agg [.lit (.string [102, 100, 105, 118, 46, 70]), .lit (.int .u8 83), .lit (.int .u8 3), .lit (.int .u8 0), .lit (.int .u8 4)], .agg [.lit (.string [102, 115, 113, 114, 116, 46, 70]), .lit (.int .u8 83), .lit (.int .u8 11), .lit (.int .u8 0), .lit (.int .u8 6)], .agg [.lit (.string [102, 115, 103, 110, 106, 46, 70]), .lit (.int .u8 83), .lit (.int .u8 4), .lit (.int .u8 0), .lit (.int .u8 5)], .agg [.lit (.string [102, 115, 103, 110, 106, 110, 46, 70]), .lit (.int .u8 83), .lit (.int .u8 4), .lit (.int .u8 1), .lit (.int .u8 5)], .agg [.lit (.string [102, 115, 103, 110, 106, 120, 46, 70]), .lit (.int .u8 83), .lit (.int .u8 4), .lit (.int .u8 2), .lit (.int .u8 5)], .agg [.lit (.string [102, 109, 105, 110, 46, 70]), .lit (.int .u8 83), .lit (.int .u8 5), .lit (.int .u8 0), .lit (.int .u8 5)], .agg [.lit (.string [102, 109, 97, 120, 46, 70]), .lit (.int .u8 83), .lit (.int .u8 5), .lit (.int .u8 1), .lit (.int .u8 5)], .agg [.lit (.string [102, 99, 118, 116, 46, 70, 46, 71]), .lit (.int .u8 83), .lit (.int .u8 8), .lit (.int .u8 0), .lit (.int .u8 6)], .agg [.lit (.string [102, 101, 113, 46, 70]), .lit (.int .u8 83), .lit (.int .u8 20), .lit (.int .u8 2), .lit (.int .u8 5)], .agg [.lit (.string [102, 108, 116, 46, 70]), .lit (.int .u8 83), .lit (.int .u8 20), .lit (.int .u8 1), .lit (.int .u8 5)], .agg [.lit (.string [102, 108, 101, 46, 70]), .lit (.int .u8 83), .lit (.int .u8 20), .lit (.int .u8 0), .lit (.int .u8 5)], .agg [.lit (.string [102, 99, 118, 116, 46, 75, 46, 70]), .lit (.int .u8 83), .lit (.int .u8 24), .lit (.int .u8 0), .lit (.int .u8 6)], .agg [.lit (.string [102, 99, 118, 116, 46, 70, 46, 75]), .lit (.int .u8 83), .lit (.int .u8 26), .lit (.int .u8 0), .lit (.int .u8 6)], .agg [.lit (.string [102, 109, 118, 46, 120, 46, 77]), .lit (.int .u8 83), .lit (.int .u8 28), .lit (.int .u8 0), .lit (.int .u8 7)], .agg [.lit (.string [102, 99, 108, 97, 115, 115, 46, 70]), .lit (.int .u8 83), .lit (.int .u8 28), .lit (.int .u8 1), .lit (.int .u8 7)], .agg [.lit (.string [102, 109, 118, 46, 77, 46, 120]), .lit (.int .u8 83), .lit (.int .u8 30), .lit (.int .u8 0), .lit (.int .u8 7)], .agg [.lit (.string [99, 115, 114, 114, 119]), .lit (.int .u8 115), .lit (.int .u8 0), .lit (.int .u8 1), .lit (.int .u8 8)], .agg [.lit (.string [99, 115, 114, 114, 115]), .lit (.int .u8 115), .lit (.int .u8 0), .lit (.int .u8 2), .lit (.int .u8 8)], .agg [.lit (.string [99, 115, 114, 114, 99]), .lit (.int .u8 115), .lit (.int .u8 0), .lit (.int .u8 3), .lit (.int .u8 8)], .agg [.lit (.string [99, 115, 114, 114, 119, 105]), .lit (.int .u8 115), .lit (.int .u8 0), .lit (.int .u8 5), .lit (.int .u8 9)], .agg [.lit (.string [99, 115, 114, 114, 115, 105]), .lit (.int .u8 115), .lit (.int .u8 0), .lit (.int .u8 6), .lit (.int .u8 9)], .agg [.lit (.string [99, 115, 114, 114, 99, 105]), .lit (.int .u8 115), .lit (.int .u8 0), .lit (.int .u8 7), .lit (.int .u8 9)]] []
def laid_abacus_table_widths {H : Type} : DataW H := .agg [.lit (.int .u8 2), .lit (.int .u8 3), .lit (.int .u8 1), .lit (.int .u8 4)]

/-- 'abacuslaw25.DecodeWords': WHATEVER THE INPUT: true; the input reads as it did. -/
def decodeWordsSpec : ChangeSpec := { name := "decodeWords", fn := fun _ => fun
  | [d] => { results := [.lit (.bool true)], args := [d] }
  | _ => none }
def decodeWordsRow : OpenClaim := { program := "ytamlcgmipdcgjaadoor", sum := "6c742f51e2eaa13d0e302118354d456c7e38951376ce37aa8450ebf909ff6692", func := "abacus/abacuslaw25.DecodeWords", spec := "decodeWords", unfollowed := true, recurses := true, named := ["abacus/table.plans", "abacus/table.fixed", "abacus/table.widths"], plainKeys := false, apart := false, laid := [("abacus/table.fixed", laid_abacus_table_fixed), ("abacus/table.plans", laid_abacus_table_plans), ("abacus/table.widths", laid_abacus_table_widths)] }
def DecodeWordsSaid : Prop := decodeWordsRow.holds Tryd.pinned (OpenSpec.ofChange decodeWordsSpec)

/-- ITS FALSE NEIGHBOUR: 'it returns false'. Refute it at one input. -/
def decodeWordsWrong : ChangeSpec := { name := "decodeWords", fn := fun _ => fun
  | [d] => { results := [.lit (.bool false)], args := [d] }
  | _ => none }
def DecodeWordsWrongFalsely : Prop := decodeWordsRow.holds Tryd.pinned (OpenSpec.ofChange decodeWordsWrong)

/-- 'abacuslaw25.DecodeLists': WHATEVER THE INPUT: true; the input reads as it did. -/
def decodeListsSpec : ChangeSpec := { name := "decodeLists", fn := fun _ => fun
  | [d] => { results := [.lit (.bool true)], args := [d] }
  | _ => none }
def decodeListsRow : OpenClaim := { program := "ytamlcgmipdcgjaadoor", sum := "6c742f51e2eaa13d0e302118354d456c7e38951376ce37aa8450ebf909ff6692", func := "abacus/abacuslaw25.DecodeLists", spec := "decodeLists", unfollowed := true, recurses := true, named := ["abacus/table.plans", "abacus/table.fixed", "abacus/table.widths"], plainKeys := false, apart := false, laid := [("abacus/table.fixed", laid_abacus_table_fixed), ("abacus/table.plans", laid_abacus_table_plans), ("abacus/table.widths", laid_abacus_table_widths)] }
def DecodeListsSaid : Prop := decodeListsRow.holds Tryd.pinned (OpenSpec.ofChange decodeListsSpec)

/-- ITS FALSE NEIGHBOUR: 'it returns false'. Refute it at one input. -/
def decodeListsWrong : ChangeSpec := { name := "decodeLists", fn := fun _ => fun
  | [d] => { results := [.lit (.bool false)], args := [d] }
  | _ => none }
def DecodeListsWrongFalsely : Prop := decodeListsRow.holds Tryd.pinned (OpenSpec.ofChange decodeListsWrong)

/-- 'abacuslaw25.DecodeBytes': WHATEVER THE INPUT: true; the input reads as it did. -/
def decodeBytesSpec : ChangeSpec := { name := "decodeBytes", fn := fun _ => fun
  | [d1, d2] => { results := [.lit (.bool true)], args := [d1, d2] }
  | _ => none }
def decodeBytesRow : OpenClaim := { program := "ytamlcgmipdcgjaadoor", sum := "6c742f51e2eaa13d0e302118354d456c7e38951376ce37aa8450ebf909ff6692", func := "abacus/abacuslaw25.DecodeBytes", spec := "decodeBytes", unfollowed := true, recurses := true, named := ["abacus/table.plans", "abacus/table.fixed", "abacus/table.widths"], plainKeys := false, apart := false, laid := [("abacus/table.fixed", laid_abacus_table_fixed), ("abacus/table.plans", laid_abacus_table_plans), ("abacus/table.widths", laid_abacus_table_widths)] }
def DecodeBytesSaid : Prop := decodeBytesRow.holds Tryd.pinned (OpenSpec.ofChange decodeBytesSpec)

/-- ITS FALSE NEIGHBOUR: 'it returns false'. Refute it at one input. -/
def decodeBytesWrong : ChangeSpec := { name := "decodeBytes", fn := fun _ => fun
  | [d1, d2] => { results := [.lit (.bool false)], args := [d1, d2] }
  | _ => none }
def DecodeBytesWrongFalsely : Prop := decodeBytesRow.holds Tryd.pinned (OpenSpec.ofChange decodeBytesWrong)

/-- 'abacuslaw25.DecodeRows': WHATEVER THE INPUT: true; the input reads as it did. -/
def decodeRowsSpec : ChangeSpec := { name := "decodeRows", fn := fun _ => fun
  | [d1, d2, d3] => { results := [.lit (.bool true)], args := [d1, d2, d3] }
  | _ => none }
def decodeRowsRow : OpenClaim := { program := "ytamlcgmipdcgjaadoor", sum := "6c742f51e2eaa13d0e302118354d456c7e38951376ce37aa8450ebf909ff6692", func := "abacus/abacuslaw25.DecodeRows", spec := "decodeRows", unfollowed := true, recurses := true, named := ["abacus/table.plans", "abacus/table.fixed", "abacus/table.widths"], plainKeys := false, apart := false, laid := [("abacus/table.fixed", laid_abacus_table_fixed), ("abacus/table.plans", laid_abacus_table_plans), ("abacus/table.widths", laid_abacus_table_widths)] }
def DecodeRowsSaid : Prop := decodeRowsRow.holds Tryd.pinned (OpenSpec.ofChange decodeRowsSpec)

/-- ITS FALSE NEIGHBOUR: 'it returns false'. Refute it at one input. -/
def decodeRowsWrong : ChangeSpec := { name := "decodeRows", fn := fun _ => fun
  | [d1, d2, d3] => { results := [.lit (.bool false)], args := [d1, d2, d3] }
  | _ => none }
def DecodeRowsWrongFalsely : Prop := decodeRowsRow.holds Tryd.pinned (OpenSpec.ofChange decodeRowsWrong)

/-- 'abacuslaw25.DecodeNoBit': WHATEVER THE INPUT: true; the input reads as it did. -/
def decodeNoBitSpec : ChangeSpec := { name := "decodeNoBit", fn := fun _ => fun
  | [d1, d2] => { results := [.lit (.bool true)], args := [d1, d2] }
  | _ => none }
def decodeNoBitRow : OpenClaim := { program := "ytamlcgmipdcgjaadoor", sum := "6c742f51e2eaa13d0e302118354d456c7e38951376ce37aa8450ebf909ff6692", func := "abacus/abacuslaw25.DecodeNoBit", spec := "decodeNoBit", unfollowed := true, recurses := true, named := ["abacus/table.plans", "abacus/table.fixed", "abacus/table.widths"], plainKeys := false, apart := false, laid := [("abacus/table.fixed", laid_abacus_table_fixed), ("abacus/table.plans", laid_abacus_table_plans), ("abacus/table.widths", laid_abacus_table_widths)] }
def DecodeNoBitSaid : Prop := decodeNoBitRow.holds Tryd.pinned (OpenSpec.ofChange decodeNoBitSpec)

/-- ITS FALSE NEIGHBOUR: 'it returns false'. Refute it at one input. -/
def decodeNoBitWrong : ChangeSpec := { name := "decodeNoBit", fn := fun _ => fun
  | [d1, d2] => { results := [.lit (.bool false)], args := [d1, d2] }
  | _ => none }
def DecodeNoBitWrongFalsely : Prop := decodeNoBitRow.holds Tryd.pinned (OpenSpec.ofChange decodeNoBitWrong)

/-- 'abacuslaw25.DecodeBounds': WHATEVER THE INPUT: true; the input reads as it did. -/
def decodeBoundsSpec : ChangeSpec := { name := "decodeBounds", fn := fun _ => fun
  | [d] => { results := [.lit (.bool true)], args := [d] }
  | _ => none }
def decodeBoundsRow : OpenClaim := { program := "ytamlcgmipdcgjaadoor", sum := "6c742f51e2eaa13d0e302118354d456c7e38951376ce37aa8450ebf909ff6692", func := "abacus/abacuslaw25.DecodeBounds", spec := "decodeBounds", unfollowed := true, recurses := true, named := ["abacus/table.plans", "abacus/table.fixed", "abacus/table.widths"], plainKeys := false, apart := false, laid := [("abacus/table.fixed", laid_abacus_table_fixed), ("abacus/table.plans", laid_abacus_table_plans), ("abacus/table.widths", laid_abacus_table_widths)] }
def DecodeBoundsSaid : Prop := decodeBoundsRow.holds Tryd.pinned (OpenSpec.ofChange decodeBoundsSpec)

/-- ITS FALSE NEIGHBOUR: 'it returns false'. Refute it at one input. -/
def decodeBoundsWrong : ChangeSpec := { name := "decodeBounds", fn := fun _ => fun
  | [d] => { results := [.lit (.bool false)], args := [d] }
  | _ => none }
def DecodeBoundsWrongFalsely : Prop := decodeBoundsRow.holds Tryd.pinned (OpenSpec.ofChange decodeBoundsWrong)

/- THE SECOND FORM. 'bulk': how many values and letters a reading holds, each counted each time it is reached (what is shared counts as often as it is met; a slice's spare places count too). A statement '..UptoSaid' is the law's where the arguments, and the package variables that the reading takes, are together of bulk at most 1048576: NARROWER than '..Said'. Prove '..Said' where nothing that the law and all that it calls make is longer than what came in: it says more and counts as full. Else prove '..UptoSaid'. A law counts once. -/
mutual
def uptoBulk {H : Type} : DataW H → Nat
  | .lit (.string bytes) => bytes.length + 1
  | .lit _ => 1
  | .nil => 1
  | .ptr d => uptoBulk d + 1
  | .slice elems spare => uptoBulkAll elems + uptoBulkAll spare + 1
  | .agg parts => uptoBulkAll parts + 1
  | .iface _ d => uptoBulk d + 1
  | .map entries => uptoBulkEntries entries + 1
  | .held _ => 1
def uptoBulkAll {H : Type} : List (DataW H) → Nat
  | [] => 0
  | d :: r => uptoBulk d + uptoBulkAll r
def uptoBulkEntries {H : Type} : List (Lit × DataW H) → Nat
  | [] => 0
  | x :: r => uptoBulkEntry x + uptoBulkEntries r
def uptoBulkEntry {H : Type} : Lit × DataW H → Nat
  | (.string bytes, d) => bytes.length + uptoBulk d + 1
  | (_, d) => uptoBulk d + 1
 end
def uptoSmall : (H : Type) → List (DataW H) → Bool := fun _ ds => decide (uptoBulkAll ds ≤ 1048576)
def OpenSpec.upto (s : _root_.Go.ChangeSpec) : _root_.Go.OpenSpec := { _root_.Go.OpenSpec.ofChange s with cond := some uptoSmall }

/-- 'abacuslaw25.DecodeWords', WHERE WHAT IT READS IS OF BULK AT MOST 1048576: true; the input reads as it did. -/
def decodeWordsUptoRow : OpenClaim := { program := "ytamlcgmipdcgjaadoor", sum := "6c742f51e2eaa13d0e302118354d456c7e38951376ce37aa8450ebf909ff6692", func := "abacus/abacuslaw25.DecodeWords", spec := "decodeWords", unfollowed := true, recurses := true, named := ["abacus/table.plans", "abacus/table.fixed", "abacus/table.widths"], plainKeys := false, apart := false, laid := [("abacus/table.fixed", laid_abacus_table_fixed), ("abacus/table.plans", laid_abacus_table_plans), ("abacus/table.widths", laid_abacus_table_widths)], narrowed := true }
def DecodeWordsUptoSaid : Prop := decodeWordsUptoRow.holds Tryd.pinned (OpenSpec.upto decodeWordsSpec)

/-- 'abacuslaw25.DecodeLists', WHERE WHAT IT READS IS OF BULK AT MOST 1048576: true; the input reads as it did. -/
def decodeListsUptoRow : OpenClaim := { program := "ytamlcgmipdcgjaadoor", sum := "6c742f51e2eaa13d0e302118354d456c7e38951376ce37aa8450ebf909ff6692", func := "abacus/abacuslaw25.DecodeLists", spec := "decodeLists", unfollowed := true, recurses := true, named := ["abacus/table.plans", "abacus/table.fixed", "abacus/table.widths"], plainKeys := false, apart := false, laid := [("abacus/table.fixed", laid_abacus_table_fixed), ("abacus/table.plans", laid_abacus_table_plans), ("abacus/table.widths", laid_abacus_table_widths)], narrowed := true }
def DecodeListsUptoSaid : Prop := decodeListsUptoRow.holds Tryd.pinned (OpenSpec.upto decodeListsSpec)

/-- 'abacuslaw25.DecodeBytes', WHERE WHAT IT READS IS OF BULK AT MOST 1048576: true; the input reads as it did. -/
def decodeBytesUptoRow : OpenClaim := { program := "ytamlcgmipdcgjaadoor", sum := "6c742f51e2eaa13d0e302118354d456c7e38951376ce37aa8450ebf909ff6692", func := "abacus/abacuslaw25.DecodeBytes", spec := "decodeBytes", unfollowed := true, recurses := true, named := ["abacus/table.plans", "abacus/table.fixed", "abacus/table.widths"], plainKeys := false, apart := false, laid := [("abacus/table.fixed", laid_abacus_table_fixed), ("abacus/table.plans", laid_abacus_table_plans), ("abacus/table.widths", laid_abacus_table_widths)], narrowed := true }
def DecodeBytesUptoSaid : Prop := decodeBytesUptoRow.holds Tryd.pinned (OpenSpec.upto decodeBytesSpec)

/-- 'abacuslaw25.DecodeRows', WHERE WHAT IT READS IS OF BULK AT MOST 1048576: true; the input reads as it did. -/
def decodeRowsUptoRow : OpenClaim := { program := "ytamlcgmipdcgjaadoor", sum := "6c742f51e2eaa13d0e302118354d456c7e38951376ce37aa8450ebf909ff6692", func := "abacus/abacuslaw25.DecodeRows", spec := "decodeRows", unfollowed := true, recurses := true, named := ["abacus/table.plans", "abacus/table.fixed", "abacus/table.widths"], plainKeys := false, apart := false, laid := [("abacus/table.fixed", laid_abacus_table_fixed), ("abacus/table.plans", laid_abacus_table_plans), ("abacus/table.widths", laid_abacus_table_widths)], narrowed := true }
def DecodeRowsUptoSaid : Prop := decodeRowsUptoRow.holds Tryd.pinned (OpenSpec.upto decodeRowsSpec)

/-- 'abacuslaw25.DecodeNoBit', WHERE WHAT IT READS IS OF BULK AT MOST 1048576: true; the input reads as it did. -/
def decodeNoBitUptoRow : OpenClaim := { program := "ytamlcgmipdcgjaadoor", sum := "6c742f51e2eaa13d0e302118354d456c7e38951376ce37aa8450ebf909ff6692", func := "abacus/abacuslaw25.DecodeNoBit", spec := "decodeNoBit", unfollowed := true, recurses := true, named := ["abacus/table.plans", "abacus/table.fixed", "abacus/table.widths"], plainKeys := false, apart := false, laid := [("abacus/table.fixed", laid_abacus_table_fixed), ("abacus/table.plans", laid_abacus_table_plans), ("abacus/table.widths", laid_abacus_table_widths)], narrowed := true }
def DecodeNoBitUptoSaid : Prop := decodeNoBitUptoRow.holds Tryd.pinned (OpenSpec.upto decodeNoBitSpec)

/-- 'abacuslaw25.DecodeBounds', WHERE WHAT IT READS IS OF BULK AT MOST 1048576: true; the input reads as it did. -/
def decodeBoundsUptoRow : OpenClaim := { program := "ytamlcgmipdcgjaadoor", sum := "6c742f51e2eaa13d0e302118354d456c7e38951376ce37aa8450ebf909ff6692", func := "abacus/abacuslaw25.DecodeBounds", spec := "decodeBounds", unfollowed := true, recurses := true, named := ["abacus/table.plans", "abacus/table.fixed", "abacus/table.widths"], plainKeys := false, apart := false, laid := [("abacus/table.fixed", laid_abacus_table_fixed), ("abacus/table.plans", laid_abacus_table_plans), ("abacus/table.widths", laid_abacus_table_widths)], narrowed := true }
def DecodeBoundsUptoSaid : Prop := decodeBoundsUptoRow.holds Tryd.pinned (OpenSpec.upto decodeBoundsSpec)

end Rows
end Go.Proofs.YtamlcgmipdcgjaaDoor
