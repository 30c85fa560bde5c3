/-
  strconv.Itoa, by the library's contract; the texts of exact numbers, of the program and of the document.
-/
import Derived.Test.YtknkkagapcigfaaDoorT1
import Derived.Test.YtknkkagapcigfaaDoorItoa
import Derived.Test.YtknkkagapcigfaaDoorList9
import Derived.Test.YtknkkagapcigfaaDoorX3m
namespace Go.Proofs.YtknkkagapcigfaaDoor
open Go.RowKit WMath XMath

/-- The library's powers of ten lie in their variable. -/
def P10 (w : World) : Prop := Lib.TabIs Tryd.prog w "internal/strconv.uint64pow10" .u64 Lib.pow10Tab

theorem gP10 : Tryd.prog.globalNamed "internal/strconv.uint64pow10" = some 0 := by kernel_rfl
theorem p10B {w w' : World} (h : P10 w) (hb : Below w.heap.size w w') : P10 w' := by
  unfold P10 Lib.TabIs World.var? at h ⊢
  rw [gP10] at h ⊢
  simp only [Option.bind_some] at h ⊢
  have h0 : 0 < w.heap.size := by
    rcases Nat.eq_zero_or_pos w.heap.size with e | e
    · have : w.heap[0]? = none := Array.getElem?_eq_none (by omega)
      rw [this] at h
      cases h
    · exact e
  rw [hb.block 0 h0]
  exact h

theorem t_itoa (e : Int) (v : ByteArray) (h0 : -1000000000 ≤ e) (h1 : e ≤ 1000000000) (hv : (⟨(Lib.itoa e).toArray⟩ : ByteArray) = v) (w : World) (hP : P10 w) :
    Calls Tryd.prog 12 #[.int .i64 e] w fun r w' => r = .returned (.string v) ∧ Below w.heap.size w w' := by
  have h := Any.strconv_Itoa Tryd.laysItoa e (by omega) (by omega) w hP
  refine h.mono ?_
  rintro r w' ⟨rfl, k, os, rfl⟩
  rw [hv]
  refine ⟨rfl, rfl, rfl, rfl, ?_, ?_⟩
  · simp [Sort.grow, World.drewN]
  · intro j hj
    simp only [Sort.grow, World.drewN]
    exact Array.getElem?_append_left hj
end Go.Proofs.YtknkkagapcigfaaDoor
