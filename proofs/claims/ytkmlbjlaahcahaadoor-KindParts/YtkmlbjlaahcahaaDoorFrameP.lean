/-
  Parts as an argument: what they read as, and that they read so in every world.
-/
import Derived.Test.YtkmlbjlaahcahaaDoorFrameB
import Derived.Test.YtkmlbjlaahcahaaDoorKQ
namespace Go.Proofs.YtkmlbjlaahcahaaDoor
open WMath
open Go.ChangeShapes Go.WideShapes Go.ChangeAt Go.RowKit

def dP (H : Type) (c s : Nat) (x : Int) (r : Nat) : DataW H := .agg [.lit (.int .u8 (c : Nat)), dW H s, .lit (.int .i64 x), dW H r]

theorem trod_st4p {H : Type} {enc : TypeId × Value → H} {P : Program} {w : World} {base : Nat} {spare : Nat → Bool} {held : Bool} {t : TypeId} {f0 f1 f2 f3 : Field} {fuel : Nat} {cs : List Value} {x : DataW H × List MemPlace} (ht : P.underlying t = some (.struct #[f0, f1, f2, f3])) (h : DataW.trod enc P w base spare held fuel t cs = some x) :
    ∃ y0 y1 y2 y3 n, x = (.agg [y0.1, y1.1, y2.1, y3.1], y0.2 ++ (y1.2 ++ (y2.2 ++ y3.2))) ∧ DataW.trod enc P w base spare held n f0.type ((cs.drop f0.offset).take (P.cellsOf f0.type)) = some y0 ∧
      DataW.trod enc P w base spare held n f1.type ((cs.drop f1.offset).take (P.cellsOf f1.type)) = some y1 ∧ DataW.trod enc P w base spare held n f2.type ((cs.drop f2.offset).take (P.cellsOf f2.type)) = some y2 ∧
      DataW.trod enc P w base spare held n f3.type ((cs.drop f3.offset).take (P.cellsOf f3.type)) = some y3 := by
  obtain ⟨xs, n, _, rfl, hl, hlen, hf⟩ := DataW.trod_struct ht h
  match xs, hlen with
  | [y0, y1, y2, y3], _ => exact ⟨y0, y1, y2, y3, n, by simp, by simpa using hf 0 f0 rfl, by simpa using hf 1 f1 rfl, by simpa using hf 2 f2 rfl, by simpa using hf 3 f3 rfl⟩
theorem list14 {α : Type} (l : List α) (h : (⟨l⟩ : Array α).size = 14) : ∃ a0 a1 a2 a3 a4 a5 a6 a7 a8 a9 a10 a11 a12 a13, l = [a0, a1, a2, a3, a4, a5, a6, a7, a8, a9, a10, a11, a12, a13] := by
  match l, h with
  | [a0, a1, a2, a3, a4, a5, a6, a7, a8, a9, a10, a11, a12, a13], _ => exact ⟨a0, a1, a2, a3, a4, a5, a6, a7, a8, a9, a10, a11, a12, a13, rfl⟩
theorem rd6 {H : Type} {enc : TypeId × Value → H} {w : World} {base : Nat} {spare : Nat → Bool} {held : Bool} {fuel : Nat} {c0 c1 c2 c3 c4 c5 : Value} {x : DataW H × List MemPlace}
    (h : DataW.trod enc Tryd.prog w base spare held fuel 28 [c0, c1, c2, c3, c4, c5] = some x) : ∃ n, n < Q ∧ c0 = .int .u64 (wd n 0 : Nat) ∧ c1 = .int .u64 (wd n 1 : Nat) ∧ c2 = .int .u64 (wd n 2 : Nat) ∧ c3 = .int .u64 (wd n 3 : Nat) ∧ c4 = .int .u64 (wd n 4 : Nat) ∧ c5 = .int .u64 (wd n 5 : Nat) ∧ x = (dW H n, []) := by
  obtain ⟨y, m, hx, h0, h1, h2, h3, h4, h5⟩ := trod6 h
  obtain ⟨x0, e0, g0, w0⟩ := DataW.trod_int Tryd.underlying23 h0
  obtain ⟨x1, e1, g1, w1⟩ := DataW.trod_int Tryd.underlying23 h1
  obtain ⟨x2, e2, g2, w2⟩ := DataW.trod_int Tryd.underlying23 h2
  obtain ⟨x3, e3, g3, w3⟩ := DataW.trod_int Tryd.underlying23 h3
  obtain ⟨x4, e4, g4, w4⟩ := DataW.trod_int Tryd.underlying23 h4
  obtain ⟨x5, e5, g5, w5⟩ := DataW.trod_int Tryd.underlying23 h5
  simp at e0 e1 e2 e3 e4 e5
  subst e0 e1 e2 e3 e4 e5
  obtain ⟨a0, b0, rfl⟩ := nat_u64 w0
  obtain ⟨a1, b1, rfl⟩ := nat_u64 w1
  obtain ⟨a2, b2, rfl⟩ := nat_u64 w2
  obtain ⟨a3, b3, rfl⟩ := nat_u64 w3
  obtain ⟨a4, b4, rfl⟩ := nat_u64 w4
  obtain ⟨a5, b5, rfl⟩ := nat_u64 w5
  obtain ⟨n, hn, he⟩ := w6 a0 a1 a2 a3 a4 a5 b0 b1 b2 b3 b4 b5
  rw [cw6] at he
  simp only [Array.mk.injEq, List.cons.injEq, Value.int.injEq, true_and, and_true] at he
  obtain ⟨i0, i1, i2, i3, i4, i5⟩ := he
  refine ⟨n, hn, by rw [i0], by rw [i1], by rw [i2], by rw [i3], by rw [i4], by rw [i5], ?_⟩
  rw [hx, g0, g1, g2, g3, g4, g5]
  unfold dW
  rw [i0, i1, i2, i3, i4, i5]
  rfl
theorem nat_u8 {x : Int} (h : (Lit.int .u8 x).wf = true) : ∃ n : Nat, n < 256 ∧ x = (n : Int) := by
  have hb := bounds_u8 h
  obtain ⟨n, rfl⟩ := Int.eq_ofNat_of_zero_le hb.1
  exact ⟨n, by omega, rfl⟩
set_option maxRecDepth 100000 in
theorem open_parts {H : Type} {enc : TypeId × Value → H} {w : World} {base b : Nat} {spare : Nat → Bool} {held : Bool} {v : Value} {d : DataW H} {p : List MemPlace}
    (hok : Value.okWide Tryd.prog w .any base 30 v) (h : DataW.Trod enc Tryd.prog w b spare held 30 v d p) : ∃ (c s : Nat) (x : Int) (r : Nat), v = .agg (pt c s x r) ∧ d = dP H c s x r ∧ p = [] ∧ (c < 256 ∧ s < Q ∧ r < Q ∧ (Lit.int .i64 x).wf = true) := by
  have hc : Tryd.prog.cellsOf 30 = 14 := by kernel_rfl
  have h1 : Tryd.prog.cellsOf 26 = 1 := by kernel_rfl
  have h2 : Tryd.prog.cellsOf 28 = 6 := by kernel_rfl
  have h3 : Tryd.prog.cellsOf 3 = 1 := by kernel_rfl
  obtain ⟨cs, rfl, hsz⟩ := okWide_struct Tryd.underlying30 hok
  rw [hc] at hsz
  obtain ⟨l⟩ := cs
  obtain ⟨c0, c1, c2, c3, c4, c5, c6, c7, c8, c9, c10, c11, c12, c13, rfl⟩ := list14 l hsz
  obtain ⟨fuel, hf⟩ := h
  obtain ⟨y0, y1, y2, y3, n, hx, g0, g1, g2, g3⟩ := trod_st4p Tryd.underlying30 hf
  simp only [h1, h2, h3] at g0 g1 g2 g3
  simp [Value.cells] at g0 g1 g2 g3
  obtain ⟨x0, e0, k0, w0⟩ := DataW.trod_int Tryd.underlying26 g0
  obtain ⟨s, ls, a0, a1, a2, a3, a4, a5, k1⟩ := rd6 g1
  obtain ⟨x2, e2, k2, w2⟩ := DataW.trod_int Tryd.underlying3 g2
  obtain ⟨r, lr, b0, b1, b2, b3, b4, b5, k3⟩ := rd6 g3
  simp at e0 e2
  obtain ⟨c, lc, rfl⟩ := nat_u8 w0
  subst e0 e2 a0 a1 a2 a3 a4 a5 b0 b1 b2 b3 b4 b5
  simp only [Prod.mk.injEq] at hx
  refine ⟨c, s, x2, r, rfl, ?_, ?_, lc, ls, lr, w2⟩
  · rw [hx.1, k0, k1, k2, k3]; rfl
  · rw [hx.2, k0, k1, k2, k3]; rfl
theorem u8_nat (n : Nat) (h : n < 256) : (Lit.int .u8 (n : Int)).wf = true := by
  first
    | exact WalkArith.wf_u8 (by omega)
    | exact WalkArith.wf_u8 (by omega) (by omega)
set_option maxRecDepth 100000 in
theorem shut_parts {H : Type} {enc : TypeId × Value → H} {w : World} {b : Nat} {spare : Nat → Bool} {held : Bool} {c s : Nat} {x : Int} {r : Nat} (h : c < 256 ∧ s < Q ∧ r < Q ∧ (Lit.int .i64 x).wf = true) : DataW.Trod enc Tryd.prog w b spare held 30 (.agg (pt c s x r)) (dP H c s x r) [] := by
  have hc : Tryd.prog.cellsOf 30 = 14 := by kernel_rfl
  have h1 : Tryd.prog.cellsOf 26 = 1 := by kernel_rfl
  have h2 : Tryd.prog.cellsOf 28 = 6 := by kernel_rfl
  have h3 : Tryd.prog.cellsOf 3 = 1 := by kernel_rfl
  have hce : Tryd.prog.cellsOf 23 = 1 := by kernel_rfl
  have k : ∀ n i, (Lit.int .u64 ((wd n i : Nat) : Int)).wf = true := fun n i => u64_nat _ (wd_lt n i)
  have k0 := u8_nat c h.1
  have k2 := h.2.2.2
  refine ⟨3, ?_⟩
  simp [DataW.trod, Value.cells, pt, Tryd.underlying30, Tryd.underlying26, Tryd.underlying3, Tryd.underlying28, Tryd.underlying23, hc, h1, h2, h3, hce, k, k0, k2, show List.range 6 = [0, 1, 2, 3, 4, 5] from rfl, dW, dP]
end Go.Proofs.YtkmlbjlaahcahaaDoor
