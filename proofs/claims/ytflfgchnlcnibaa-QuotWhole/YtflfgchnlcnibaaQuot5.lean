/-
  The function alive of the statements of layer 3 answers true.
-/
import Derived.Test.YtflfgchnlcnibaaQuot3
namespace Go.Proofs.Ytflfgchnlcnibaa
open Go.RowKit WMath

/-- Every number has a root. -/
theorem root_any : ∀ a : Nat, ∃ r, RootIs a r
  | 0 => ⟨0, Nat.le_refl _, by decide⟩
  | a + 1 => by
    obtain ⟨r, h1, h2⟩ := root_any a
    by_cases h : a + 1 < (r + 1) * (r + 1)
    · exact ⟨r, by omega, h⟩
    · refine ⟨r + 1, by omega, ?_⟩
      have e1 := sq_add (r + 1) 1
      have e2 : a + 1 = (r + 1) * (r + 1) := by omega
      rw [e1, e2]
      omega
theorem root_twice (a q : Nat) (ha : a < Q) (h : RootIs a q) : q + q < Q := by
  have hQ := Q_big
  by_cases h3 : q < 3
  · omega
  · have h4 : 3 * q ≤ q * q := Nat.mul_le_mul_right q (by omega)
    have := h.1
    omega

theorem qalive_any (w : World) : Calls Try.prog 11 #[] w fun e w' => e = .returned (.bool true) ∧ Below w.heap.size w w' := by
  have hat := cw_at 6
  have hz := cw6z
  have hf := cw6f
  have hs0 := st0
  have hs1 := st1
  have hcs : ∀ x, ((cw 6 x).size = 6) = True := fun x => eq_true (cw_size 6 x)
  have heq := eq6
  have hg := eqg6
  have hQ := Q_big
  have q1 : 1 < Q := by omega
  have q2 : 2 < Q := by omega
  have q3 : 3 < Q := by omega
  have q7 : 7 < Q := by omega
  have q9 : 9 < Q := by omega
  have q18 : 18 < Q := by omega
  have q99 : 99 < Q := by omega
  have b1 : (cw 6 0).setIfInBounds 0 (Value.int .u64 1) = cw 6 1 := set0 1 (by decide)
  have b2 : (cw 6 0).setIfInBounds 0 (Value.int .u64 2) = cw 6 2 := set0 2 (by decide)
  have b3 : (cw 6 0).setIfInBounds 0 (Value.int .u64 3) = cw 6 3 := set0 3 (by decide)
  have b7 : (cw 6 0).setIfInBounds 0 (Value.int .u64 7) = cw 6 7 := set0 7 (by decide)
  have b9 : (cw 6 0).setIfInBounds 0 (Value.int .u64 9) = cw 6 9 := set0 9 (by decide)
  have b18 : (cw 6 0).setIfInBounds 0 (Value.int .u64 18) = cw 6 18 := set0 18 (by decide)
  have b99 : (cw 6 0).setIfInBounds 0 (Value.int .u64 99) = cw 6 99 := set0 99 (by decide)
  clear hQ
  go_enter Try.func11, Try.ntmps11
  go_wp2_with fail
  refine (qdiv_is 7 2 3 1 q7 q2 (by decide) (by decide) (by decide) _).mono ?_
  rintro e w1 ⟨rfl, hb1⟩
  go_wp2_with fail
  refine (qsqrt_is 99 9 18 q99 ⟨by decide, by decide⟩ (by decide) _).mono ?_
  rintro e w2 ⟨rfl, hb2⟩
  have r0 : w2.heap[w1.heap.size]? = some (.cells (cw 6 3) 24) := heap_of hb2 _ _ _ (by rw [heap_below _ _ _ (by simp)]; exact heap_alloc_last _ _)
  have r1 : w2.heap[w1.heap.size + 1]? = some (.cells (cw 6 1) 24) := heap_of hb2 _ _ _ (by rw [← size_al w1 (.cells (cw 6 3) 24)]; exact heap_alloc_last _ _)
  have z1 : w1.heap.size + 1 < w2.heap.size := (Array.getElem?_eq_some_iff.1 r1).1
  have B2 : Below w.heap.size w w2 := ((hb1.alloc hb1.size _).alloc (by have := hb1.size; simp only [size_al]; omega) _).trans (hb2.mono (by have := hb1.size; simp only [size_al]; omega))
  clear hb1 hb2
  have s0 : ((w2.alloc (.cells (cw 6 9) 24)).alloc (.cells (cw 6 18) 24)).heap[w1.heap.size]? = some (.cells (cw 6 3) 24) := by rw [heap_below _ _ _ (by simp only [size_al]; omega), heap_below _ _ _ (by omega)]; exact r0
  have s1 : ((w2.alloc (.cells (cw 6 9) 24)).alloc (.cells (cw 6 18) 24)).heap[w1.heap.size + 1]? = some (.cells (cw 6 1) 24) := by rw [heap_below _ _ _ (by simp only [size_al]; omega), heap_below _ _ _ (by omega)]; exact r1
  have c0 := row_cell s0
  have c1 := row_cell s1
  go_wp2
  go_ret
  exact ⟨rfl, (B2.alloc B2.size _).alloc (by have := B2.size; simp only [size_al]; omega) _⟩
end Go.Proofs.Ytflfgchnlcnibaa
