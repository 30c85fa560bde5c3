/-
  What Div of package quot returns.
-/
import Derived.Test.YtjedplbhhohfmaaQuot1
import Derived.Deep.RegionWith
namespace Go.Proofs.Ytjedplbhhohfmaa
open Go.RowKit WMath

theorem wrap_i64_is (n : Int) (h1 : -9223372036854775808 ≤ n) (h2 : n ≤ 9223372036854775807) : IntKind.i64.wrap n = n := by
  simp [IntKind.wrap, IntKind.bits, IntKind.signed]; omega

theorem less_is (r s : Nat) (hr : r < Q) (h : s ≤ r) : (r + Q - s) % Q = r - s := by
  rw [show r + Q - s = (r - s) + Q by omega, Nat.add_mod_right, Nat.mod_eq_of_lt (by omega)]

end Go.Proofs.Ytjedplbhhohfmaa
