/-
  What the rounds of ShapeNames' loops keep: boxes in memory; parts of the list of formats.
-/
import Derived.Test.YtjbefkceieklmaaDoorN2
namespace Go.Proofs.YtjbefkceieklmaaDoor
open Go.RowKit Go.Shelf WMath
set_option linter.unusedVariables false

/-- The boxes: where to stop, the result, the document's list, the variable that holds it, the counter. -/
def RN (w : World) (g0 : Nat) (a2 q : Int) (W : World) : Prop :=
  Below w.heap.size w W ∧ W.heap[w.heap.size]? = some (.cells #[.int .i64 a2] 3) ∧ W.heap[w.heap.size + 1]? = some (.cells #[.bool false] 4) ∧ W.heap[g0]? = some (.cells lst7 22) ∧
    W.heap[g0 + 1]? = some (.cells #[.slice (some ⟨g0, 0, none⟩) 4 4] 47) ∧ W.heap[g0 + 1 + 1]? = some (.cells #[.int .i64 q] 3)

theorem row_grown {W W' : World} {row : Option Nat} {B g : Nat} {o : Obj} (h : W.heap[g]? = some o) (hg : W.grownBy W' row) (hr : ∀ r, row = some r → B ≤ r) (hb : g < B) : W'.heap[g]? = some o := by
  rw [hg.block g (Array.getElem?_eq_some_iff.1 h).1 (fun e => by have := hr g e.symm; omega)]
  exact h

theorem rn_grown {w : World} {g0 : Nat} {a2 q : Int} {W W' : World} {row : Option Nat} {B : Nat} (h : RN w g0 a2 q W) (hg : W.grownBy W' row) (hr : ∀ r, row = some r → B ≤ r) (h0 : w.heap.size + 1 < g0) (hb : g0 + 1 + 1 < B) : RN w g0 a2 q W' := by
  obtain ⟨hB, h1, h2, h3, h4, h5⟩ := h
  refine ⟨hB.grown hg hB.size (fun k e => by have := hr k e; omega), row_grown h1 hg hr (by omega), row_grown h2 hg hr (by omega), row_grown h3 hg hr (by omega), row_grown h4 hg hr (by omega), row_grown h5 hg hr (by omega)⟩

theorem rn_set {w : World} {g0 : Nat} {a2 q : Int} {W : World} (h : RN w g0 a2 q W) (h0 : w.heap.size + 1 < g0) (q' : Int) : RN w g0 a2 q' (W.setCell ⟨g0 + 1 + 1, 0, none⟩ (.int .i64 q')) := by
  obtain ⟨hB, h1, h2, h3, h4, h5⟩ := h
  refine ⟨hB.setCell (p := ⟨g0 + 1 + 1, 0, none⟩) (by simp; omega) _, ?_, ?_, ?_, ?_, ?_⟩
  · rw [setCell_other (by omega)]; exact h1
  · rw [setCell_other (by omega)]; exact h2
  · rw [setCell_other (by omega)]; exact h3
  · rw [setCell_other (by omega)]; exact h4
  · rw [setCell_row h5]; rfl

/-- What comes in the k-th round. -/
def vL (k : Nat) : Int := if k = 0 then 2 else if k = 1 then 0 else if k = 2 then 1 else 3
theorem pre_yes (pre : List F4) (x : F4) (k : Nat) (hk : k < 4) (hp : pre <+: fL) (hl : pre.length = k) (hx : x.1 = vL k) : pre ++ [x] <+: fL := by
  have e : pre = fL.take k := by rw [← hl]; exact (List.prefix_iff_eq_take.1 hp)
  have h4 : k = 0 ∨ k = 1 ∨ k = 2 ∨ k = 3 := by omega
  obtain ⟨x, hx2⟩ := x
  simp only at hx
  rcases h4 with rfl | rfl | rfl | rfl
  · have : x = 2 := hx
    subst this; subst e; exact List.take_prefix 1 fL
  · have : x = 0 := hx
    subst this; subst e; exact List.take_prefix 2 fL
  · have : x = 1 := hx
    subst this; subst e; exact List.take_prefix 3 fL
  · have : x = 3 := hx
    subst this; subst e; exact List.take_prefix 4 fL
theorem pre_no (pre : List F4) (x : F4) (k : Nat) (hk : k < 4) (hl : pre.length = k) (hx : ¬ x.1 = vL k) : ¬ pre ++ [x] <+: fL := by
  intro h
  have e := List.prefix_iff_eq_take.1 h
  have e2 : (pre ++ [x])[k]? = some x := by rw [← hl]; simp
  rw [e, List.getElem?_take, if_pos (by simp; omega)] at e2
  apply hx
  have h4 : k = 0 ∨ k = 1 ∨ k = 2 ∨ k = 3 := by omega
  rcases h4 with rfl | rfl | rfl | rfl
  · have := Option.some.inj e2; rw [← this]; rfl
  · have := Option.some.inj e2; rw [← this]; rfl
  · have := Option.some.inj e2; rw [← this]; rfl
  · have := Option.some.inj e2; rw [← this]; rfl
theorem lst_at (k : Nat) (hk : k < 4) : lst7[k]? = some (.int .u8 (vL k)) := by
  have h4 : k = 0 ∨ k = 1 ∨ k = 2 ∨ k = 3 := by omega
  rcases h4 with rfl | rfl | rfl | rfl <;> rfl
end Go.Proofs.YtjbefkceieklmaaDoor
