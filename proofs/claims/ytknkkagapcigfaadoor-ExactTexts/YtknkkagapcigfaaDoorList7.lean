/-
  What the functions Check, Add, Sub, Mul and Cmp of package nat return.
-/
import Derived.Test.YtknkkagapcigfaaDoorList6
import Derived.Test.YtknkkagapcigfaaDoorNat4
namespace Go.Proofs.YtknkkagapcigfaaDoor
open Go.RowKit WMath

theorem pn_check (s : ByteArray) (e : Int) (he : (if mayB s then (0 : Int) else 2) = e) (w : World) :
    Calls Tryd.prog 19 #[.string s] w fun r w' => r = .returned (.int .i64 e) ∧ Below w.heap.size w w' := by
  subst he
  exact bel (n_check s _ rfl w)

theorem wl_of_nl (n : Nat) (h : nl n ≤ 16384) : wl n ≤ 2048 := by rw [wl_nl]; omega

end Go.Proofs.YtknkkagapcigfaaDoor
