/-
  What the functions up and down of package wide return.
-/
import Derived.Test.YtjedplbhhohfmaaWide2
import Derived.Test.YtjedplbhhohfmaaWord2
import Derived.Deep.RegionWith
namespace Go.Proofs.Ytjedplbhhohfmaa
open Go.RowKit WMath

theorem left_is (x : Nat) (n : Int) (v : Nat) (h : x * 2 ^ cnt n % 18446744073709551616 = v) (w : World) :
    Calls Try.prog 55 #[.int .u64 x, .int .i64 n] w fun e w' => e = .returned (.int .u64 (v : Nat)) ∧ w' = w := by
  subst h; exact left_any x n w
theorem right_is (x : Nat) (n : Int) (v : Nat) (h : x / 2 ^ cnt n = v) (w : World) :
    Calls Try.prog 57 #[.int .u64 x, .int .i64 n] w fun e w' => e = .returned (.int .u64 (v : Nat)) ∧ w' = w := by
  subst h; exact right_any x n w

end Go.Proofs.Ytjedplbhhohfmaa
