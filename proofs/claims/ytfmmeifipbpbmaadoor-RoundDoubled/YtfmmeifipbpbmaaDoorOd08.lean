/-
  What the functions that the statement reaches return: part 8 (FrameR, SL).
-/
import Derived.Test.YtfmmeifipbpbmaaDoorRows
import Derived.OpenShut
import Derived.LaidMore
import Derived.Lib.LaidTab
import Derived.Stop.Joined
import Derived.Test.YtfmmeifipbpbmaaDoorOd07
namespace Go.Proofs.YtfmmeifipbpbmaaDoor
set_option maxRecDepth 100000
open WMath
open Go.ChangeShapes Go.WideShapes Go.ChangeAt Go.RowKit

def dRg (H : Type) (c : Bool) (s : Nat) (x : Int) (r : Bool) : DataW H := .agg [.lit (.bool c), dW H s, .lit (.int .i64 x), .lit (.bool r)]

theorem trod_st4r {H : Type} {enc : TypeId × Value → H} {P : Program} {w : World} {base : Nat} {spare : Nat → Bool} {held : Bool} {t : TypeId} {f0 f1 f2 f3 : Field} {fuel : Nat} {cs : List Value} {x : DataW H × List MemPlace} (ht : P.underlying t = some (.struct #[f0, f1, f2, f3])) (h : DataW.trod enc P w base spare held fuel t cs = some x) :
    ∃ y0 y1 y2 y3 n, x = (.agg [y0.1, y1.1, y2.1, y3.1], y0.2 ++ (y1.2 ++ (y2.2 ++ y3.2))) ∧ DataW.trod enc P w base spare held n f0.type ((cs.drop f0.offset).take (P.cellsOf f0.type)) = some y0 ∧
      DataW.trod enc P w base spare held n f1.type ((cs.drop f1.offset).take (P.cellsOf f1.type)) = some y1 ∧ DataW.trod enc P w base spare held n f2.type ((cs.drop f2.offset).take (P.cellsOf f2.type)) = some y2 ∧
      DataW.trod enc P w base spare held n f3.type ((cs.drop f3.offset).take (P.cellsOf f3.type)) = some y3 := by
  obtain ⟨xs, n, _, rfl, hl, hlen, hf⟩ := DataW.trod_struct ht h
  match xs, hlen with
  | [y0, y1, y2, y3], _ => exact ⟨y0, y1, y2, y3, n, by simp, by simpa using hf 0 f0 rfl, by simpa using hf 1 f1 rfl, by simpa using hf 2 f2 rfl, by simpa using hf 3 f3 rfl⟩
theorem list9 {α : Type} (l : List α) (h : (⟨l⟩ : Array α).size = 9) : ∃ a0 a1 a2 a3 a4 a5 a6 a7 a8, l = [a0, a1, a2, a3, a4, a5, a6, a7, a8] := by
  match l, h with
  | [a0, a1, a2, a3, a4, a5, a6, a7, a8], _ => exact ⟨a0, a1, a2, a3, a4, a5, a6, a7, a8, rfl⟩
theorem rd6r {H : Type} {enc : TypeId × Value → H} {w : World} {base : Nat} {spare : Nat → Bool} {held : Bool} {fuel : Nat} {c0 c1 c2 c3 c4 c5 : Value} {x : DataW H × List MemPlace}
    (h : DataW.trod enc Tryd.prog w base spare held fuel 37 [c0, c1, c2, c3, c4, c5] = some x) : ∃ n, n < Q ∧ c0 = .int .u64 (wd n 0 : Nat) ∧ c1 = .int .u64 (wd n 1 : Nat) ∧ c2 = .int .u64 (wd n 2 : Nat) ∧ c3 = .int .u64 (wd n 3 : Nat) ∧ c4 = .int .u64 (wd n 4 : Nat) ∧ c5 = .int .u64 (wd n 5 : Nat) ∧ x = (dW H n, []) := by
  obtain ⟨y, m, hx, h0, h1, h2, h3, h4, h5⟩ := trod6 h
  obtain ⟨x0, e0, g0, w0⟩ := DataW.trod_int Tryd.underlying24 h0
  obtain ⟨x1, e1, g1, w1⟩ := DataW.trod_int Tryd.underlying24 h1
  obtain ⟨x2, e2, g2, w2⟩ := DataW.trod_int Tryd.underlying24 h2
  obtain ⟨x3, e3, g3, w3⟩ := DataW.trod_int Tryd.underlying24 h3
  obtain ⟨x4, e4, g4, w4⟩ := DataW.trod_int Tryd.underlying24 h4
  obtain ⟨x5, e5, g5, w5⟩ := DataW.trod_int Tryd.underlying24 h5
  simp at e0 e1 e2 e3 e4 e5
  subst e0 e1 e2 e3 e4 e5
  obtain ⟨a0, b0, rfl⟩ := nat_u64 w0
  obtain ⟨a1, b1, rfl⟩ := nat_u64 w1
  obtain ⟨a2, b2, rfl⟩ := nat_u64 w2
  obtain ⟨a3, b3, rfl⟩ := nat_u64 w3
  obtain ⟨a4, b4, rfl⟩ := nat_u64 w4
  obtain ⟨a5, b5, rfl⟩ := nat_u64 w5
  obtain ⟨n, hn, he⟩ := w6 a0 a1 a2 a3 a4 a5 b0 b1 b2 b3 b4 b5
  rw [cw6] at he
  simp only [Array.mk.injEq, List.cons.injEq, Value.int.injEq, true_and, and_true] at he
  obtain ⟨i0, i1, i2, i3, i4, i5⟩ := he
  refine ⟨n, hn, by rw [i0], by rw [i1], by rw [i2], by rw [i3], by rw [i4], by rw [i5], ?_⟩
  rw [hx, g0, g1, g2, g3, g4, g5]
  unfold dW
  rw [i0, i1, i2, i3, i4, i5]
  rfl
set_option maxRecDepth 100000 in
theorem open_rough {H : Type} {enc : TypeId × Value → H} {w : World} {base b : Nat} {spare : Nat → Bool} {held : Bool} {v : Value} {d : DataW H} {p : List MemPlace}
    (hok : Value.okWide Tryd.prog w .any base 39 v) (h : DataW.Trod enc Tryd.prog w b spare held 39 v d p) : ∃ (c : Bool) (s : Nat) (x : Int) (r : Bool), v = .agg (rg c s x r) ∧ d = dRg H c s x r ∧ p = [] ∧ (s < Q ∧ (Lit.int .i64 x).wf = true) := by
  have hc : Tryd.prog.cellsOf 39 = 9 := by kernel_rfl
  have h1 : Tryd.prog.cellsOf 4 = 1 := by kernel_rfl
  have h2 : Tryd.prog.cellsOf 37 = 6 := by kernel_rfl
  have h3 : Tryd.prog.cellsOf 3 = 1 := by kernel_rfl
  obtain ⟨cs, rfl, hsz⟩ := okWide_struct Tryd.underlying39 hok
  rw [hc] at hsz
  obtain ⟨l⟩ := cs
  obtain ⟨c0, c1, c2, c3, c4, c5, c6, c7, c8, rfl⟩ := list9 l hsz
  obtain ⟨fuel, hf⟩ := h
  obtain ⟨y0, y1, y2, y3, n, hx, g0, g1, g2, g3⟩ := trod_st4r Tryd.underlying39 hf
  simp only [h1, h2, h3] at g0 g1 g2 g3
  simp [Value.cells] at g0 g1 g2 g3
  obtain ⟨x0, e0, k0⟩ := DataW.trod_bool Tryd.underlying4 g0
  obtain ⟨s, ls, a0, a1, a2, a3, a4, a5, k1⟩ := rd6r g1
  obtain ⟨x2, e2, k2, w2⟩ := DataW.trod_int Tryd.underlying3 g2
  obtain ⟨x3, e3, k3⟩ := DataW.trod_bool Tryd.underlying4 g3
  simp at e0 e2 e3
  subst e0 e2 e3 a0 a1 a2 a3 a4 a5
  simp only [Prod.mk.injEq] at hx
  refine ⟨x0, s, x2, x3, rfl, ?_, ?_, ls, w2⟩
  · rw [hx.1, k0, k1, k2, k3]; rfl
  · rw [hx.2, k0, k1, k2, k3]; rfl
set_option maxRecDepth 100000 in
theorem shut_rough {H : Type} {enc : TypeId × Value → H} {w : World} {b : Nat} {spare : Nat → Bool} {held : Bool} {c : Bool} {s : Nat} {x : Int} {r : Bool} (h : s < Q ∧ (Lit.int .i64 x).wf = true) : DataW.Trod enc Tryd.prog w b spare held 39 (.agg (rg c s x r)) (dRg H c s x r) [] := by
  have hc : Tryd.prog.cellsOf 39 = 9 := by kernel_rfl
  have h1 : Tryd.prog.cellsOf 4 = 1 := by kernel_rfl
  have h2 : Tryd.prog.cellsOf 37 = 6 := by kernel_rfl
  have h3 : Tryd.prog.cellsOf 3 = 1 := by kernel_rfl
  have hce : Tryd.prog.cellsOf 24 = 1 := by kernel_rfl
  have k : ∀ n i, (Lit.int .u64 ((wd n i : Nat) : Int)).wf = true := fun n i => u64_nat _ (wd_lt n i)
  have k2 := h.2
  refine ⟨3, ?_⟩
  simp [DataW.trod, Value.cells, rg, Tryd.underlying39, Tryd.underlying4, Tryd.underlying3, Tryd.underlying37, Tryd.underlying24, hc, h1, h2, h3, hce, k, k2, show List.range 6 = [0, 1, 2, 3, 4, 5] from rfl, dW, dRg]
end Go.Proofs.YtfmmeifipbpbmaaDoor
namespace Go.Proofs.YtfmmeifipbpbmaaDoor
set_option maxRecDepth 100000
open WMath
open Go.ChangeShapes Go.WideShapes Go.ChangeAt Go.RowKit

theorem trod_row4 {H : Type} {enc : TypeId × Value → H} {P : Program} {w : World} {base : Nat} {spare : Nat → Bool} {held : Bool} {t : TypeId} {f0 f1 f2 f3 : Field} {fuel : Nat} {cs : List Value} {x : DataW H × List MemPlace} (ht : P.underlying t = some (.struct #[f0, f1, f2, f3])) (h : DataW.trod enc P w base spare held fuel t cs = some x) :
    ∃ y0 y1 y2 y3 n, x = (.agg [y0.1, y1.1, y2.1, y3.1], y0.2 ++ (y1.2 ++ (y2.2 ++ y3.2))) ∧ DataW.trod enc P w base spare held n f0.type ((cs.drop f0.offset).take (P.cellsOf f0.type)) = some y0 ∧
      DataW.trod enc P w base spare held n f1.type ((cs.drop f1.offset).take (P.cellsOf f1.type)) = some y1 ∧ DataW.trod enc P w base spare held n f2.type ((cs.drop f2.offset).take (P.cellsOf f2.type)) = some y2 ∧
      DataW.trod enc P w base spare held n f3.type ((cs.drop f3.offset).take (P.cellsOf f3.type)) = some y3 := by
  obtain ⟨xs, n, _, rfl, hl, hlen, hf⟩ := DataW.trod_struct ht h
  match xs, hlen with
  | [y0, y1, y2, y3], _ => exact ⟨y0, y1, y2, y3, n, by simp, by simpa using hf 0 f0 rfl, by simpa using hf 1 f1 rfl, by simpa using hf 2 f2 rfl, by simpa using hf 3 f3 rfl⟩


theorem list4' {α : Type} (l : List α) (h : l.length = 4) : ∃ a b c d, l = [a, b, c, d] := by
  match l, h with
  | [a, b, c, d], _ => exact ⟨a, b, c, d, rfl⟩

theorem row_read {w : World} {fuel : Nat} {enc : TypeId × Value → Unit} {base : Nat} {spare : Nat → Bool} {held : Bool} {l : List Value} {a b c : Int} {s : List UInt8} {p : List MemPlace}
    (h : DataW.trod enc Tryd.prog w base spare held fuel 81 l = some (.agg [.lit (.int .i64 a), .lit (.int .i64 b), .lit (.int .i64 c), .lit (.string s)], p)) (hl : l.length = 4) :
    l = [.int .i64 a, .int .i64 b, .int .i64 c, .string ⟨⟨s⟩⟩] := by
  have h3 : Tryd.prog.cellsOf 3 = 1 := by kernel_rfl
  have h9 : Tryd.prog.cellsOf 9 = 1 := by kernel_rfl
  obtain ⟨c0, c1, c2, c3, rfl⟩ := list4' l hl
  obtain ⟨y0, y1, y2, y3, n, hx, g0, g1, g2, g3⟩ := trod_row4 Tryd.underlying81 h
  simp only [h3, h9] at g0 g1 g2 g3
  obtain ⟨x0, e0, k0, w0⟩ := DataW.trod_int Tryd.underlying3 g0
  obtain ⟨x1, e1, k1, w1⟩ := DataW.trod_int Tryd.underlying3 g1
  obtain ⟨x2, e2, k2, w2⟩ := DataW.trod_int Tryd.underlying3 g2
  obtain ⟨x3, e3, k3, w3⟩ := DataW.trod_string Tryd.underlying9 g3
  simp at e0 e1 e2 e3
  subst e0 e1 e2 e3
  rw [k0, k1, k2, k3] at hx
  simp at hx
  obtain ⟨⟨rfl, rfl, rfl, rfl⟩, _⟩ := hx
  rfl

def laid7 : List (String × DataW Unit) := [("abacus/shape.formats", Rows.laid_abacus_shape_formats)]
theorem gTab7 : Tryd.prog.globalNamed "abacus/shape.formats" = some 0 := by kernel_rfl
theorem gType7 : (Tryd.prog.globals[0]?).map (·.type) = some 110 := by kernel_rfl

theorem of_laid7 {W : World} (h : laidMetH Tryd.prog laid7 W) : FAt W := by
  have hce : Tryd.prog.cellsOf 81 = 4 := by kernel_rfl
  have hct : Tryd.prog.cellsOf 110 = 16 := by kernel_rfl
  rw [MakeChecks.laidMetH_plain _ _ _ (by kernel_rfl)] at h
  obtain ⟨ps, ⟨g', t', cs, fuel, p, q, hg', ht', hvar, hd, _, _⟩, _⟩ := h
  obtain rfl := Option.some.inj (gTab7.symm.trans hg')
  obtain rfl := Option.some.inj (gType7.symm.trans ht')
  obtain ⟨xs, m, rfl, hx, hl, hxl, hel⟩ := DataW.trod_array Tryd.underlying110 hd
  rw [hce] at hel
  rw [hct] at hl
  have hl2 : cs.size = 16 := by simpa using hl
  match xs, hxl with
  | [y0, y1, y2, y3], _ =>
    have hx1 := congrArg Prod.fst hx
    simp [Rows.laid_abacus_shape_formats] at hx1
    obtain ⟨h0, h1, h2, h3⟩ := hx1
    have q0 := hel 0 (by decide)
    have q1 := hel 1 (by decide)
    have q2 := hel 2 (by decide)
    have q3 := hel 3 (by decide)
    simp only [List.getElem?_cons_zero, List.getElem?_cons_succ] at q0 q1 q2 q3
    have z0 := row_read (p := y0.2) (by rw [q0, h0]) (by simp; omega)
    have z1 := row_read (p := y1.2) (by rw [q1, h1]) (by simp; omega)
    have z2 := row_read (p := y2.2) (by rw [q2, h2]) (by simp; omega)
    have z3 := row_read (p := y3.2) (by rw [q3, h3]) (by simp; omega)
    have hcs : ∀ i, i < 16 → cs.toList[i]? = fcells[i]? := by
      intro i hi
      have e0 : cs.toList[i]? = (cs.toList.drop (i / 4 * 4))[i % 4]? := by rw [List.getElem?_drop]; congr 1; omega
      have e1 : (cs.toList.drop (i / 4 * 4))[i % 4]? = ((cs.toList.drop (i / 4 * 4)).take 4)[i % 4]? := by rw [List.getElem?_take, if_pos (by omega)]
      rw [e0, e1]
      have : i / 4 = 0 ∨ i / 4 = 1 ∨ i / 4 = 2 ∨ i / 4 = 3 := by omega
      have hj : i % 4 = 0 ∨ i % 4 = 1 ∨ i % 4 = 2 ∨ i % 4 = 3 := by omega
      have hi2 : i = i / 4 * 4 + i % 4 := by omega
      rcases this with e | e | e | e <;> rw [e] at hi2 ⊢ <;> rcases hj with k | k | k | k <;> rw [k] at hi2 ⊢ <;> subst hi2 <;> first | (rw [z0]; rfl) | (rw [z1]; rfl) | (rw [z2]; rfl) | (rw [z3]; rfl)
    intro i hi
    rw [World.var?_cell gTab7 hvar i, ← hcs i hi]
    simp

theorem door_met7 (os : Os) (args : Array Value) : laidMetH Tryd.prog laid7 ((World.doorLaid Tryd.prog 400 os).forCall (fun _ _ => 0) ⟨#[], args, []⟩).memory :=
  laidMetH_of_parts3 (fuel := 8) (laidMet_of_run' 8 (by kernel_rfl) (by kernel_rfl)) (by kernel_rfl) (by kernel_rfl)
end Go.Proofs.YtfmmeifipbpbmaaDoor
