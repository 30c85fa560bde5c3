/-
  What the functions wrong and play of the statements of layer 5 return.
-/
import Derived.Test.YtjedplbhhohfmaaNat1
namespace Go.Proofs.Ytjedplbhhohfmaa
open Go.RowKit WMath

/-- A function that leaves the world alone leaves what lay there. -/
theorem bel {P : Program} {f : Nat} {args : Array Value} {e : Ending} {w : World} (h : Calls P f args w fun r w' => r = e ∧ w' = w) : Calls P f args w fun r w' => r = e ∧ Below w.heap.size w w' :=
  h.mono fun _ _ ⟨h1, h2⟩ => ⟨h1, by rw [h2]; exact Below.refl _ _⟩

theorem nat_wrong (s t : ByteArray) (o : Bool) (ho : (!mayB s || !mayB t) = o) (w : World) :
    Calls Try.prog 10 #[.string s, .string t] w fun r w' => r = .returned (.bool o) ∧ Below w.heap.size w w' := by
  obtain ⟨x, hx⟩ : ∃ x, mayB s = x := ⟨_, rfl⟩
  obtain ⟨y, hy⟩ : ∃ y, mayB t = y := ⟨_, rfl⟩
  rw [hx, hy] at ho
  have HX := box hx
  have HY := box hy
  clear hx hy
  cases x
  · have e : o = true := by rw [← ho]; rfl
    subst e
    clear ho
    go_enter Try.func10, Try.ntmps10
    go_wp2_with fail
    refine (nat_may s false HX.out _).mono ?_
    rintro r w' ⟨rfl, rfl⟩
    go_wp2
    go_ret
    exact ⟨rfl, Below.refl _ _⟩
  · have e : (!y) = o := by rw [← ho]; rfl
    clear ho
    go_enter Try.func10, Try.ntmps10
    go_wp2_with fail
    refine (nat_may s true HX.out _).mono ?_
    rintro r w' ⟨rfl, rfl⟩
    go_wp2_with fail
    refine (nat_may t y HY.out _).mono ?_
    rintro r w' ⟨rfl, rfl⟩
    go_wp2
    go_ret
    exact ⟨rfl, Below.refl _ _⟩

theorem nat_play (s t : ByteArray) (m : Nat) (M : Int) (o : Bool) (hM : M = (m : Int)) (ho : (decide (s.size ≤ m) && decide (t.size ≤ m)) = o) (w : World) :
    Calls Try.prog 15 #[.string s, .string t, .int .i64 M] w fun r w' => r = .returned (.bool o) ∧ Below w.heap.size w w' := by
  subst hM
  obtain ⟨x, hx⟩ : ∃ x, decide (s.size ≤ m) = x := ⟨_, rfl⟩
  obtain ⟨y, hy⟩ : ∃ y, decide (t.size ≤ m) = y := ⟨_, rfl⟩
  rw [hx, hy] at ho
  cases x
  · have e : o = false := by rw [← ho]; rfl
    subst e
    clear ho hy
    go_enter Try.func15, Try.ntmps15
    go_wp2
    go_ret
    exact ⟨rfl, Below.refl _ _⟩
  · have e : y = o := by rw [← ho]; rfl
    subst e
    clear ho
    go_enter Try.func15, Try.ntmps15
    go_wp2
    go_ret
    exact ⟨rfl, Below.refl _ _⟩
end Go.Proofs.Ytjedplbhhohfmaa
