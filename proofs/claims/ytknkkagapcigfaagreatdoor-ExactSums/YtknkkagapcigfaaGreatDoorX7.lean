/-
  What the functions product, Mul and Quo of package exact return.
-/
import Derived.Test.YtknkkagapcigfaaGreatDoorX5
import Derived.Test.YtknkkagapcigfaaGreatDoorList8
namespace Go.Proofs.YtknkkagapcigfaaGreatDoor
open Go.RowKit WMath XMath

def prodX (b1 : Bool) (n1 d1 : Nat) (e1 : Int) (b2 : Bool) (n2 d2 : Nat) (e2 : Int) : XN × Int :=
  if nl (n1 * n2) ≤ 16384 ∧ nl (d1 * d2) ≤ 16384 then XMath.mk (b1 != b2) (n1 * n2) (d1 * d2) (e1 + e2) else (XZ, 4)
theorem lg_no (n : Nat) (h : ¬ nl n ≤ 16384) : lg n = (⟨#[]⟩, 4) := by unfold lg; rw [if_neg h]
theorem prod_mul (b : Bool) (n d : Nat) (e : Int) (c : Bool) (m f : Nat) (g : Int) (h : ¬ (n = 0 ∨ m = 0)) : mulX (XN.mk b n d e) (XN.mk c m f g) = prodX b n d e c m f g := by
  unfold mulX prodX
  rw [if_neg h]
theorem prod_quo (b : Bool) (n d : Nat) (e : Int) (c : Bool) (m f : Nat) (g : Int) (h : n ≠ 0) (k : m ≠ 0) : quoX (XN.mk b n d e) (XN.mk c m f g) = prodX b n d e c f m (-g) := by
  unfold quoX prodX
  rw [if_neg k, if_neg h, ← Int.sub_eq_add_neg]
end Go.Proofs.YtknkkagapcigfaaGreatDoor
