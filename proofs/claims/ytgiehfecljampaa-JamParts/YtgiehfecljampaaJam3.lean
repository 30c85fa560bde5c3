/-
  The function alive of the statements of layer 4 answers true.
-/
import Derived.Test.YtgiehfecljampaaJam2
namespace Go.Proofs.Ytgiehfecljampaa
open Go.RowKit WMath

theorem jalive_any (w : World) : Calls Try.prog 13 #[] w fun e w' => e = .returned (.bool true) ∧ Below w.heap.size w w' := by
  have hat := cw_at 6
  have hz := cw6z
  have hf := cw6f
  have hs0 := st0
  have hcs : ∀ x, ((cw 6 x).size = 6) = True := fun x => eq_true (cw_size 6 x)
  have heq := eq6
  have hg := eqg6
  have hQ := Q_big
  have q1 : 1 < Q := by omega
  have q3 : 3 < Q := by omega
  have q6 : 6 < Q := by omega
  have q9 : 9 < Q := by omega
  have b1 : (cw 6 0).setIfInBounds 0 (Value.int .u64 1) = cw 6 1 := set0 1 (by decide)
  have b3 : (cw 6 0).setIfInBounds 0 (Value.int .u64 3) = cw 6 3 := set0 3 (by decide)
  have b6 : (cw 6 0).setIfInBounds 0 (Value.int .u64 6) = cw 6 6 := set0 6 (by decide)
  have b9 : (cw 6 0).setIfInBounds 0 (Value.int .u64 9) = cw 6 9 := set0 9 (by decide)
  clear hQ
  go_enter Try.func13, Try.ntmps13
  go_wp2_with fail
  refine (jcut_is 6 1 2 0 false q6 (by decide) (by decide) (by decide) _).mono ?_
  rintro e w1 ⟨rfl, hb1⟩
  go_wp2_with fail
  refine (jright_is 9 3 2 q9 (by decide) _).mono ?_
  rintro e w2 ⟨rfl, hb2⟩
  have r0 : w2.heap[w1.heap.size]? = some (.cells (cw 6 1) 24) := heap_of hb2 _ _ _ (heap_alloc_last _ _)
  have B2 : Below w.heap.size w w2 := (hb1.alloc hb1.size _).trans (hb2.mono (by have := hb1.size; simp only [size_al]; omega))
  clear hb1 hb2
  have c0 := row_cell r0
  go_wp2
  go_ret
  exact ⟨rfl, B2⟩
end Go.Proofs.Ytgiehfecljampaa
