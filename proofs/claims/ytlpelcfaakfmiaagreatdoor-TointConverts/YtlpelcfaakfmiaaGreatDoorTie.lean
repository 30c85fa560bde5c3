/-
  DERIVED. GIVEN WITH THE SEED: THE PROGRAM's TIES (one call each: nine closed facts by the kernel) AND EACH ROW's TIE, after the 31st guide's Derived/Test/Toyas{Tie, Card}.lean. No idea stands in it: it is a product of the set-up. Laid BY PROGRAM, IN A SANDBOX (cutbox-door.mjs). By AI agents, Wed Nov 11 2026. No macro, syntax, notation, axiom, sorry.
-/
import Derived.Test.YtlpelcfaakfmiaaGreatDoorRows
import Derived.LaidByTextLater
import Derived.SevenTiedAt
import Derived.LaidSub
import Derived.LaidOnce
namespace Go.Proofs.YtlpelcfaakfmiaaGreatDoor
open Go
set_option maxRecDepth 100000
theorem seatTie1 : Tryz.prog.laidByTextLater [("abacus/shape.formats", Rows.laid_abacus_shape_formats), ("abacus/toint.below", Rows.laid_abacus_toint_below), ("abacus/toint.above", Rows.laid_abacus_toint_above)] [.data, .data, .data] true :=
  Program.laidByTextLater_by_one 36 8 25 (by kernel_rfl) (by kernel_rfl) (by kernel_rfl) (by kernel_rfl) (by kernel_rfl) (by kernel_rfl) (fun _ _ => by kernel_rfl)
theorem noOwnUnsafe : Tryz.pinned.checked.prog.headLifts.contains "ownunsafe" = false := by kernel_rfl
theorem tie : Tryz.prog.laidByTextLater [("abacus/shape.formats", Rows.laid_abacus_shape_formats), ("abacus/toint.below", Rows.laid_abacus_toint_below), ("abacus/toint.above", Rows.laid_abacus_toint_above)] [.data, .data, .data] true :=
  Program.laidByTextLater.sub seatTie1 ["abacus/shape.formats", "abacus/toint.below", "abacus/toint.above"] (by kernel_rfl) (by kernel_rfl)
theorem tointConverts_row_tie : Rows.tointConvertsRow.laidByTextAt .later Tryz.pinned [.data, .data, .data] true :=
  OpenClaim.laidByTextAt_later rfl rfl tie noOwnUnsafe
theorem tointEnds_row_tie : Rows.tointEndsRow.laidByTextAt .later Tryz.pinned [.data, .data, .data] true :=
  OpenClaim.laidByTextAt_later rfl rfl tie noOwnUnsafe
theorem tointConvertsUpto_row_tie : Rows.tointConvertsUptoRow.laidByTextAt .later Tryz.pinned [.data, .data, .data] true :=
  OpenClaim.laidByTextAt_later rfl rfl tie noOwnUnsafe
theorem tointEndsUpto_row_tie : Rows.tointEndsUptoRow.laidByTextAt .later Tryz.pinned [.data, .data, .data] true :=
  OpenClaim.laidByTextAt_later rfl rfl tie noOwnUnsafe
end Go.Proofs.YtlpelcfaakfmiaaGreatDoor
