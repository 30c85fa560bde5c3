/-
  What the functions Len and field of package wide return.
-/
import Derived.Test.YtjedplbhhohfmaaDoorWord2
import Derived.Test.YtjedplbhhohfmaaDoorWord5
import Derived.Test.YtjedplbhhohfmaaDoorMx
import Derived.Test.YtjedplbhhohfmaaDoorQuiet2
namespace Go.Proofs.YtjedplbhhohfmaaDoor
open Go.RowKit WMath

theorem len_is (x l : Nat) (hx : x < 18446744073709551616) (hl : blen x = l) (w : World) :
    Calls Tryd.prog 28 #[.int .u64 x] w fun e w' => e = .returned (.int .i64 (l : Nat)) ∧ w' = w := by
  subst hl; rw [← bitLen_blen x hx]; exact len_any x hx w

end Go.Proofs.YtjedplbhhohfmaaDoor
