/-
  What the functions Count, Bit, Left and Right of the document's answer for layer 2 return.
-/
import Derived.Test.YtfofonnoheijjaaDoorWide2
import Derived.Test.YtfofonnoheijjaaDoorWide7
import Derived.Test.YtfofonnoheijjaaDoorSmath
namespace Go.Proofs.YtfofonnoheijjaaDoor
open Go.RowKit WMath

theorem rwcount_any (n : Int) (w : World) :
    Calls Tryd.prog 27 #[.int .i64 n] w fun e w' => e = .returned (.int .i64 (cnt6 n : Nat)) ∧ w' = w := by
  go_enter Tryd.func27, Tryd.ntmps27
  go_wp2
  all_goals go_ret
  all_goals
    refine ⟨ret_int ?_, rfl⟩
    unfold cnt6
    omega

theorem rwbit_any (n i : Nat) (hi : i < 384) (w : World) :
    Calls Tryd.prog 9 #[.agg (cw 6 n), .int .i64 i] w fun e w' => e = .returned (.bool (n.testBit i)) ∧ Below w.heap.size w w' := by
  have hat := cw_at 6
  obtain ⟨q, hq⟩ : ∃ q, q = i / 64 := ⟨_, rfl⟩
  obtain ⟨r, hr⟩ : ∃ r, r = i % 64 := ⟨_, rfl⟩
  have hq1 : (i : Int) / 64 = (q : Int) := by omega
  have hr1 : (i : Int) % 64 = (r : Int) := by omega
  have hq2 : q < 6 := by omega
  have hr2 : r < 64 := by omega
  have hi1 : decide ((i : Int) < 384) = true := by simp; omega
  have hi0 : decide ((0 : Int) ≤ (i : Int)) = true := by simp
  have HB := box (bit_of_wd n i)
  rw [← hq, ← hr] at HB
  clear hq hr
  go_enter Tryd.func9, Tryd.ntmps9
  go_wp2_with (go_at_call 24; refine (bit_any (wd n q) r (wd_lt _ _) hr2 _).mono ?_; rintro e w' ⟨rfl, rfl⟩)
  go_ret
  exact ⟨by rw [HB.out]; rfl, (Below.refl _ _).alloc (Nat.le_refl _) _⟩

end Go.Proofs.YtfofonnoheijjaaDoor
