/-
  128 bits as an argument: what they read as, and that they read so in every world; two of them compared.
-/
import Derived.Test.YtkmlbjlaahcahaaDoorFrame6
import Derived.Test.YtkmlbjlaahcahaaDoorWide9
namespace Go.Proofs.YtkmlbjlaahcahaaDoor
open WMath
open Go.ChangeShapes Go.WideShapes Go.ChangeAt Go.RowKit

def dB (H : Type) (b : Nat × Nat) : DataW H := .agg [.lit (.int .u64 (b.1 : Nat)), .lit (.int .u64 (b.2 : Nat))]

theorem list2 {α : Type} (l : List α) (h : (⟨l⟩ : Array α).size = 2) : ∃ a b, l = [a, b] := by
  match l, h with
  | [a, b], _ => exact ⟨a, b, rfl⟩

theorem open_bits {H : Type} {enc : TypeId × Value → H} {w : World} {base b : Nat} {spare : Nat → Bool} {held : Bool} {v : Value} {d : DataW H} {p : List MemPlace}
    (hok : Value.okWide Tryd.prog w .any base 25 v) (h : DataW.Trod enc Tryd.prog w b spare held 25 v d p) : ∃ a : Nat × Nat, (a.1 < 18446744073709551616 ∧ a.2 < 18446744073709551616) ∧ v = bitsV a ∧ d = dB H a ∧ p = [] := by
  have hc : Tryd.prog.cellsOf 25 = 2 := by kernel_rfl
  have hce : Tryd.prog.cellsOf 23 = 1 := by kernel_rfl
  obtain ⟨cs, rfl, hsz⟩ := okWide_struct Tryd.underlying25 hok
  rw [hc] at hsz
  obtain ⟨l⟩ := cs
  obtain ⟨c0, c1, rfl⟩ := list2 l hsz
  obtain ⟨fuel, hf⟩ := h
  obtain ⟨y0, y1, n, hx, _, h0, h1⟩ := trod_struct2 Tryd.underlying25 hf
  simp only [hce] at h0 h1
  obtain ⟨x0, e0, g0, w0⟩ := DataW.trod_int Tryd.underlying23 h0
  obtain ⟨x1, e1, g1, w1⟩ := DataW.trod_int Tryd.underlying23 h1
  simp [Value.cells] at e0 e1
  subst e0 e1
  obtain ⟨a0, b0, rfl⟩ := nat_u64 w0
  obtain ⟨a1, b1, rfl⟩ := nat_u64 w1
  simp only [Prod.mk.injEq] at hx
  refine ⟨(a0, a1), ⟨b0, b1⟩, rfl, ?_, ?_⟩
  · rw [hx.1, g0, g1]; rfl
  · rw [hx.2, g0, g1]; rfl

theorem shut_bits {H : Type} {enc : TypeId × Value → H} {w : World} {b : Nat} {spare : Nat → Bool} {held : Bool} (a : Nat × Nat) (h : a.1 < 18446744073709551616 ∧ a.2 < 18446744073709551616) : DataW.Trod enc Tryd.prog w b spare held 25 (bitsV a) (dB H a) [] := by
  have hc : Tryd.prog.cellsOf 25 = 2 := by kernel_rfl
  have hce : Tryd.prog.cellsOf 23 = 1 := by kernel_rfl
  have k0 := u64_nat _ h.1
  have k1 := u64_nat _ h.2
  refine ⟨2, ?_⟩
  simp [DataW.trod, Value.cells, bitsV, Tryd.underlying25, Tryd.underlying23, hc, hce, k0, k1, dB]

theorem eqB (p q : Nat) (w : World) : (Op.equalIn 10000 25 (.agg #[.int .u64 p, .int .u64 q]) (.agg #[.int .u64 p, .int .u64 q])).run Tryd.prog w = .ok true w := by
  have hu : Tryd.prog.underlying 25 = some (.struct (Tryd.prog.fieldsOf 25)) := by kernel_rfl
  have hp : Tryd.prog.stoodInHeld 25 = false := by kernel_rfl
  rw [run_equalIn_struct w 9999 25 _ _ hu hp]
  rw [Tryd.underlying25] at hu
  injection hu with hu
  injection hu with hu
  rw [← hu]
  simp [Op.eqFields, part, go_sem, Tryd.underlying23]
theorem eqgB : Tryd.prog.eqGuardType Tryd.prog.depth 25 = false := by kernel_rfl
end Go.Proofs.YtkmlbjlaahcahaaDoor
