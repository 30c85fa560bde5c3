/-
  What the functions Len and field of package wide return.
-/
import Derived.Test.YtjedplbhhohfmaaWord2
import Derived.Test.YtjedplbhhohfmaaWord5
import Derived.Test.YtjedplbhhohfmaaMx
import Derived.Test.YtjedplbhhohfmaaQuiet2
namespace Go.Proofs.Ytjedplbhhohfmaa
open Go.RowKit WMath

theorem len_is (x l : Nat) (hx : x < 18446744073709551616) (hl : blen x = l) (w : World) :
    Calls Try.prog 59 #[.int .u64 x] w fun e w' => e = .returned (.int .i64 (l : Nat)) ∧ w' = w := by
  subst hl; rw [← bitLen_blen x hx]; exact len_any x hx w

end Go.Proofs.Ytjedplbhhohfmaa
