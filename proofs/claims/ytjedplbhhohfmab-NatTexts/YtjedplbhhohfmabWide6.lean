/-
  What the functions Len and field of package wide return.
-/
import Derived.Test.YtjedplbhhohfmabWord2
import Derived.Test.YtjedplbhhohfmabWord5
import Derived.Test.YtjedplbhhohfmabMx
import Derived.Test.YtjedplbhhohfmabQuiet2
namespace Go.Proofs.Ytjedplbhhohfmab
open Go.RowKit WMath

theorem len_is (x l : Nat) (hx : x < 18446744073709551616) (hl : blen x = l) (w : World) :
    Calls Try.prog 43 #[.int .u64 x] w fun e w' => e = .returned (.int .i64 (l : Nat)) ∧ w' = w := by
  subst hl; rw [← bitLen_blen x hx]; exact len_any x hx w

end Go.Proofs.Ytjedplbhhohfmab
