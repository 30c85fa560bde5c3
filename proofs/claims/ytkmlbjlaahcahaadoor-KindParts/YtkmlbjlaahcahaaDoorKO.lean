/-
  The document's Unpack and Pack, whole.
-/
import Derived.Test.YtkmlbjlaahcahaaDoorKN
import Derived.Test.YtkmlbjlaahcahaaDoorKU
namespace Go.Proofs.YtkmlbjlaahcahaaDoor
open Go.RowKit WMath
set_option linter.unusedSimpArgs false
set_option linter.unusedVariables false

/-- What is answered, once an encoding is put together. -/
theorem pk_fin {f : Int} (hf : Is4 f) {c s : Nat} {X : Int} {rr m : Nat} {e : Int} {u v N a b : Nat} (hp : pk f (c, s, X, rr) = (m, e)) (hv : bv7 m = (u, v)) (hc : cand f c s X rr = some N) (hN : bv7 N = (a, b)) {E : Bool}
    (hE : (decide (kC f N = c) && (decide (kS f N = s) && (decide (kX f N = X) && decide (kF f N = rr)))) = E) :
    (if E = true then (a : Int) else 0) = (u : Int) ∧ (if E = true then (b : Int) else 0) = (v : Int) ∧ (if E = true then (0 : Int) else 80) = e := by
  rw [cand_pk hf, hc] at hp
  simp only [] at hp
  cases E
  · have k : ¬ kp f N = (c, s, X, rr) := by
      intro k
      unfold kp at k
      injection k with k1 k2
      injection k2 with k2 k3
      injection k3 with k3 k4
      rw [k1, k2, k3, k4] at hE
      simp at hE
    rw [if_neg k] at hp
    injection hp with q1 q2
    rw [← q1] at hv
    injection hv with q3 q4
    subst q2 q3 q4
    exact ⟨rfl, rfl, rfl⟩
  · have k : kp f N = (c, s, X, rr) := by
      have := hE
      simp only [Bool.and_eq_true, decide_eq_true_eq] at this
      unfold kp
      rw [this.1, this.2.1, this.2.2.1, this.2.2.2]
    rw [if_pos k] at hp
    injection hp with q1 q2
    rw [← q1, hN] at hv
    injection hv with q3 q4
    subst q2 q3 q4
    exact ⟨rfl, rfl, rfl⟩
theorem pk_ref {f : Int} (hf : Is4 f) {c s : Nat} {X : Int} {rr m : Nat} {e : Int} {u v : Nat} (hp : pk f (c, s, X, rr) = (m, e)) (hv : bv7 m = (u, v)) (hc : cand f c s X rr = none) : u = 0 ∧ v = 0 ∧ e = 80 := by
  rw [cand_pk hf, hc] at hp
  simp only [] at hp
  injection hp with q1 q2
  rw [← q1] at hv
  injection hv with q3 q4
  exact ⟨q3.symm, q4.symm, q2.symm⟩
end Go.Proofs.YtkmlbjlaahcahaaDoor
