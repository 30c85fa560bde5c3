/-
  What Len of the document's answers for layers 1 and 2 returns.
-/
import Derived.Test.YtjedplbhhohfmabRlen0
import Derived.Lib.BitFns
import Derived.Test.YtjedplbhhohfmabMx
import Derived.Test.YtjedplbhhohfmabWide6
namespace Go.Proofs.Ytjedplbhhohfmab
open Go.RowKit WMath

theorem nzf {x : Nat} (h : x = 0) : (((x : Nat) : Int) != 0) = false := by subst h; rfl
theorem nzt {x : Nat} (h : ¬ x = 0) : (((x : Nat) : Int) != 0) = true := by simp; omega

end Go.Proofs.Ytjedplbhhohfmab
