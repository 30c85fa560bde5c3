/-
  What Len of the document's answers for layers 1 and 2 returns.
-/
import Derived.Test.YtjedplbhhohfmaaRlen0
import Derived.Lib.BitFns
import Derived.Test.YtjedplbhhohfmaaMx
import Derived.Test.YtjedplbhhohfmaaWide6
namespace Go.Proofs.Ytjedplbhhohfmaa
open Go.RowKit WMath

theorem rlen_is (x l : Nat) (hx : x < 18446744073709551616) (hl : blen x = l) (w : World) :
    Calls Try.prog 64 #[.int .u64 x] w fun e w' => e = .returned (.int .i64 (l : Nat)) ∧ w' = w := by
  subst hl; rw [← bitLen_blen x hx]; exact rlen_any x hx w

theorem nzf {x : Nat} (h : x = 0) : (((x : Nat) : Int) != 0) = false := by subst h; rfl
theorem nzt {x : Nat} (h : ¬ x = 0) : (((x : Nat) : Int) != 0) = true := by simp; omega

end Go.Proofs.Ytjedplbhhohfmaa
