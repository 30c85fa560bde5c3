/-
  What the functions wrong and play of the statements of layer 5 return.
-/
import Derived.Test.YtjedplbhhohfmaaDoorNat1
namespace Go.Proofs.YtjedplbhhohfmaaDoor
open Go.RowKit WMath

/-- A function that leaves the world alone leaves what lay there. -/
theorem bel {P : Program} {f : Nat} {args : Array Value} {e : Ending} {w : World} (h : Calls P f args w fun r w' => r = e ∧ w' = w) : Calls P f args w fun r w' => r = e ∧ Below w.heap.size w w' :=
  h.mono fun _ _ ⟨h1, h2⟩ => ⟨h1, by rw [h2]; exact Below.refl _ _⟩

theorem nat_wrong (s t : ByteArray) (o : Bool) (ho : (!mayB s || !mayB t) = o) (w : World) :
    Calls Tryd.prog 20 #[.string s, .string t] w fun r w' => r = .returned (.bool o) ∧ Below w.heap.size w w' := by
  obtain ⟨x, hx⟩ : ∃ x, mayB s = x := ⟨_, rfl⟩
  obtain ⟨y, hy⟩ : ∃ y, mayB t = y := ⟨_, rfl⟩
  rw [hx, hy] at ho
  have HX := box hx
  have HY := box hy
  clear hx hy
  cases x
  · have e : o = true := by rw [← ho]; rfl
    subst e
    clear ho
    go_enter Tryd.func20, Tryd.ntmps20
    go_wp2_with fail
    refine (nat_may s false HX.out _).mono ?_
    rintro r w' ⟨rfl, rfl⟩
    go_wp2
    go_ret
    exact ⟨rfl, Below.refl _ _⟩
  · have e : (!y) = o := by rw [← ho]; rfl
    clear ho
    go_enter Tryd.func20, Tryd.ntmps20
    go_wp2_with fail
    refine (nat_may s true HX.out _).mono ?_
    rintro r w' ⟨rfl, rfl⟩
    go_wp2_with fail
    refine (nat_may t y HY.out _).mono ?_
    rintro r w' ⟨rfl, rfl⟩
    go_wp2
    go_ret
    exact ⟨rfl, Below.refl _ _⟩

end Go.Proofs.YtjedplbhhohfmaaDoor
