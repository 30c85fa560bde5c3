/-
  What the functions that the statement reaches return: part 23 (FrameX).
-/
import Derived.ChangeMaps5
import Derived.OpenShut
import Derived.Test.YtkmlbjlaahcahaaGreatDoorVa22
namespace Go.Proofs.YtkmlbjlaahcahaaGreatDoor
set_option maxRecDepth 100000
open WMath
open Go.ChangeShapes Go.WideShapes Go.ChangeAt Go.RowKit

def dX (H : Type) (b : Bool) (s t : ByteArray) (e : Int) : DataW H := .agg [.lit (.bool b), .lit (.string s.data.toList), .lit (.string t.data.toList), .lit (.int .i64 e)]
theorem list4 {α : Type} (l : List α) (h : (⟨l⟩ : Array α).size = 4) : ∃ a b c d, l = [a, b, c, d] := by
  match l, h with
  | [a, b, c, d], _ => exact ⟨a, b, c, d, rfl⟩
theorem trod_struct4 {H : Type} {enc : TypeId × Value → H} {P : Program} {w : World} {base : Nat} {spare : Nat → Bool} {held : Bool} {t : TypeId} {f0 f1 f2 f3 : Field} {fuel : Nat} {cs : List Value} {x : DataW H × List MemPlace} (ht : P.underlying t = some (.struct #[f0, f1, f2, f3])) (h : DataW.trod enc P w base spare held fuel t cs = some x) :
    ∃ y0 y1 y2 y3 n, x = (.agg [y0.1, y1.1, y2.1, y3.1], y0.2 ++ (y1.2 ++ (y2.2 ++ y3.2))) ∧ DataW.trod enc P w base spare held n f0.type ((cs.drop f0.offset).take (P.cellsOf f0.type)) = some y0 ∧
      DataW.trod enc P w base spare held n f1.type ((cs.drop f1.offset).take (P.cellsOf f1.type)) = some y1 ∧ DataW.trod enc P w base spare held n f2.type ((cs.drop f2.offset).take (P.cellsOf f2.type)) = some y2 ∧
      DataW.trod enc P w base spare held n f3.type ((cs.drop f3.offset).take (P.cellsOf f3.type)) = some y3 := by
  obtain ⟨xs, n, _, rfl, hl, hlen, hf⟩ := DataW.trod_struct ht h
  match xs, hlen with
  | [y0, y1, y2, y3], _ => exact ⟨y0, y1, y2, y3, n, by simp, by simpa using hf 0 f0 rfl, by simpa using hf 1 f1 rfl, by simpa using hf 2 f2 rfl, by simpa using hf 3 f3 rfl⟩

set_option maxRecDepth 100000 in
theorem open_exact {H : Type} {enc : TypeId × Value → H} {w : World} {base b : Nat} {spare : Nat → Bool} {held : Bool} {v : Value} {d : DataW H} {p : List MemPlace}
    (hok : Value.okWide Tryz.prog w .any base 28 v) (h : DataW.Trod enc Tryz.prog w b spare held 28 v d p) : ∃ (c : Bool) (s t : ByteArray) (e : Int), v = .agg #[.bool c, .string s, .string t, .int .i64 e] ∧ d = dX H c s t e ∧ p = [] ∧ (s.size ≤ maxLen ∧ t.size ≤ maxLen ∧ (Lit.int .i64 e).wf = true) := by
  have hc : Tryz.prog.cellsOf 28 = 4 := by kernel_rfl
  have h1 : Tryz.prog.cellsOf 4 = 1 := by kernel_rfl
  have h2 : Tryz.prog.cellsOf 26 = 1 := by kernel_rfl
  have h3 : Tryz.prog.cellsOf 3 = 1 := by kernel_rfl
  obtain ⟨cs, rfl, hsz⟩ := okWide_struct Tryz.underlying28 hok
  rw [hc] at hsz
  obtain ⟨l⟩ := cs
  obtain ⟨c0, c1, c2, c3, rfl⟩ := list4 l hsz
  obtain ⟨fuel, hf⟩ := h
  obtain ⟨y0, y1, y2, y3, n, hx, g0, g1, g2, g3⟩ := trod_struct4 Tryz.underlying28 hf
  simp only [h1, h2, h3] at g0 g1 g2 g3
  obtain ⟨x0, e0, k0⟩ := DataW.trod_bool Tryz.underlying4 g0
  obtain ⟨x1, e1, k1, w1⟩ := DataW.trod_string Tryz.underlying26 g1
  obtain ⟨x2, e2, k2, w2⟩ := DataW.trod_string Tryz.underlying26 g2
  obtain ⟨x3, e3, k3, w3⟩ := DataW.trod_int Tryz.underlying3 g3
  simp [Value.cells] at e0 e1 e2 e3
  subst e0 e1 e2 e3
  simp only [Prod.mk.injEq] at hx
  refine ⟨x0, x1, x2, x3, rfl, ?_, ?_, w1, w2, w3⟩
  · rw [hx.1, k0, k1, k2, k3]; rfl
  · rw [hx.2, k0, k1, k2, k3]; rfl

set_option maxRecDepth 100000 in
theorem shut_exact {H : Type} {enc : TypeId × Value → H} {w : World} {b : Nat} {spare : Nat → Bool} {held : Bool} {c : Bool} {s t : ByteArray} {e : Int} (h : s.size ≤ maxLen ∧ t.size ≤ maxLen ∧ (Lit.int .i64 e).wf = true) : DataW.Trod enc Tryz.prog w b spare held 28 (.agg #[.bool c, .string s, .string t, .int .i64 e]) (dX H c s t e) [] := by
  have hc : Tryz.prog.cellsOf 28 = 4 := by kernel_rfl
  have h1 : Tryz.prog.cellsOf 4 = 1 := by kernel_rfl
  have h2 : Tryz.prog.cellsOf 26 = 1 := by kernel_rfl
  have h3 : Tryz.prog.cellsOf 3 = 1 := by kernel_rfl
  refine ⟨2, ?_⟩
  simp [DataW.trod, Value.cells, Tryz.underlying28, Tryz.underlying4, Tryz.underlying26, Tryz.underlying3, hc, h1, h2, h3, h.1, h.2.1, h.2.2, dX]
end Go.Proofs.YtkmlbjlaahcahaaGreatDoor
