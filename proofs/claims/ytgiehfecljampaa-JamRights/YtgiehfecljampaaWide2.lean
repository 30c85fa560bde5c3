/-
  What the functions Or and count of package wide return.
-/
import Derived.Test.YtgiehfecljampaaWide1
namespace Go.Proofs.Ytgiehfecljampaa
open Go.RowKit WMath

def cnt6 (n : Int) : Nat := min n.toNat 384
theorem wcount_any (n : Int) (w : World) :
    Calls Try.prog 35 #[.int .i64 n] w fun e w' => e = .returned (.int .i64 (cnt6 n : Nat)) ∧ w' = w := by
  go_enter Try.func35, Try.ntmps35
  go_wp2
  all_goals go_ret
  all_goals
    refine ⟨ret_int ?_, rfl⟩
    unfold cnt6
    omega

end Go.Proofs.Ytgiehfecljampaa
