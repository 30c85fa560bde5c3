/-
  What the functions Check, Add, Sub, Mul and Cmp of package nat return.
-/
import Derived.Test.YthiongcednmjiaaDoorList6
import Derived.Test.YthiongcednmjiaaDoorNat4
namespace Go.Proofs.YthiongcednmjiaaDoor
open Go.RowKit WMath

theorem pn_check (s : ByteArray) (e : Int) (he : (if mayB s then (0 : Int) else 2) = e) (w : World) :
    Calls Tryd.prog 36 #[.string s] w fun r w' => r = .returned (.int .i64 e) ∧ Below w.heap.size w w' := by
  subst he
  exact bel (n_check s _ rfl w)

theorem wl_of_nl (n : Nat) (h : nl n ≤ 16384) : wl n ≤ 2048 := by rw [wl_nl]; omega

theorem pn_mul_no (s t : ByteArray) (h : mayB s = false ∨ mayB t = false) (w : World) :
    Calls Tryd.prog 79 #[.string s, .string t] w fun r w' => r = .returned (.tuple #[.string ⟨#[]⟩, .int .i64 2]) ∧ Below w.heap.size w w' := by
  have HO := box (no2 h)
  clear h
  go_enter Tryd.func79, Tryd.ntmps79
  go_wp2_with fail
  refine (n_may2 s t false HO.out _ w).mono ?_
  rintro r w0 ⟨rfl, rfl⟩
  go_wp2
  go_ret2
  exact ⟨rfl, bal _ _⟩
theorem pn_cmp_no (s t : ByteArray) (h : mayB s = false ∨ mayB t = false) (w : World) :
    Calls Tryd.prog 82 #[.string s, .string t] w fun r w' => r = .returned (.tuple #[.int .i64 0, .int .i64 2]) ∧ Below w.heap.size w w' := by
  have HO := box (no2 h)
  clear h
  go_enter Tryd.func82, Tryd.ntmps82
  go_wp2_with fail
  refine (n_may2 s t false HO.out _ w).mono ?_
  rintro r w0 ⟨rfl, rfl⟩
  go_wp2
  go_ret2
  exact ⟨rfl, bal _ _⟩
end Go.Proofs.YthiongcednmjiaaDoor
