/-
  How long a number is that is told by short strings.
-/
import Derived.Test.YthiongcednmjiabDoorX1
namespace Go.Proofs.YthiongcednmjiabDoor
open Go.RowKit WMath XMath

theorem bd_of (b : Bool) (n f : Nat) (e : Int) (s t : ByteArray) (L p E : Nat) (hs : nbA n = s) (ht : nbA f = t) (h : (decide (s.size ≤ L) && decide (t.size ≤ L)) = true) (hp : 8 * L = p) (h1 : -(E : Int) ≤ e) (h2 : e ≤ (E : Int)) : Bd (XN.mk b n f e) p E := by
  have h6 : s.size ≤ L ∧ t.size ≤ L := by simpa using h
  rw [← hs, ← ht, nbA_size, nbA_size] at h6
  refine ⟨?_, ?_, h1, h2⟩
  · exact Nat.lt_of_lt_of_le (nl_lt n) (pow_le2 _ _ (by omega))
  · exact Nat.lt_of_lt_of_le (nl_lt f) (pow_le2 _ _ (by omega))
theorem sg_ne (b : Bool) (n f : Nat) (e : Int) (h : n ≠ 0) : sg (XN.mk b n f e) ≠ 0 := by
  unfold sg
  rw [if_neg h]
  cases b
  · exact (show (1 : Int) ≠ 0 by decide)
  · exact (show (-1 : Int) ≠ 0 by decide)
end Go.Proofs.YthiongcednmjiabDoor
