/-
  What the functions sum, difference of package nat return.
-/
import Derived.Test.YtknkkagapcigfaaDoorList2
namespace Go.Proofs.YtknkkagapcigfaaDoor
open Go.RowKit WMath

theorem cw_made (L : Nat) : madeCells #[.int .u64 0] L = cw L 0 := by
  apply Array.ext_getElem?
  intro i
  by_cases h : i < L
  · rw [cw_at L 0 i h, wd_zero]
    simp [madeCells, h, Nat.mod_one]
  · rw [Array.getElem?_eq_none (by rw [size_madeCells]; omega), Array.getElem?_eq_none (by rw [cw_size]; omega)]
theorem cw_make (L : Nat) (k : Int) (hk : k = (L : Int)) (h : L ≤ 1000000) (w : World) : (Instr.makeSlice 79 (.int .i64 k) (.int .i64 k)).run Tryd.prog w = .ok (.slice (some ⟨w.heap.size, 0, none⟩) L L) (w.alloc (.cells (cw L 0) 66)) := by
  subst hk
  rw [← cw_made]
  exact run_make_row' (P := Tryd.prog) 79 66 (.int .u64 0) 8 Tryd.underlying79 (by kernel_rfl) rfl .i64 .i64 L (by omega) (by omega) w

/-- A copy of a list into a new row that is at least as long. -/
theorem copy_row {w : World} {g N X : Nat} {T : TypeId} (r : w.heap[g]? = some (.cells (cw N X) T)) (p : Option Addr) (L c a B : Nat) (h : SL B w p L c a) (hL : L ≤ N) (hX : X = 0) (ts : TypeId) (ty : TypeId) :
    (Builtin.copy_ #[79, ts] ty #[.slice (some ⟨g, 0, none⟩) N N, .slice p L c]).run Tryd.prog w = .ok (goInt L) (w.setRow g (cw N a)) := by
  subst hX
  have hsz : (Tryd.prog.info? 66).map (·.size) = some 1 := by kernel_rfl
  by_cases h0 : L = 0
  · subst h0
    have e : a = 0 := by have := h.1; rw [Nat.mul_zero, Nat.pow_zero] at this; omega
    subst e
    rw [setRow_self w g _ _ _ r]
    cases hq : Tryd.prog.info? 66 with
    | none => rw [hq] at hsz; simp at hsz
    | some i =>
      rcases p with _ | p
      · simp [Builtin.copy_, run_underlying Tryd.underlying79, Builtin.lenOf, Builtin.firstCells, sizeOf, typeInfo, hq, storeCells]
      · simp [Builtin.copy_, run_underlying Tryd.underlying79, Builtin.lenOf, Builtin.firstCells, sizeOf, typeInfo, hq, storeCells, loadCells, loadCellsFrom]
  · obtain ⟨b, o, rfl, hb⟩ := h.ptr (by omega)
    have hlen : (cw L a).toList.length = L := by simp [cw_size]
    have hadd : ∀ j, (⟨b, o, none⟩ : Addr).add j = ⟨b, o + j, none⟩ := fun j => by unfold Addr.add; split <;> simp_all
    have hrun := run_copy_row (P := Tryd.prog) w 79 ts ty 66 g 0 N N ⟨b, o, none⟩ L c (cw N 0) T (cw L a).toList Tryd.underlying79 hsz r (by rw [hlen]; exact (Nat.min_eq_left hL).symm)
      (fun j v hv => by
        have hj : j < L := by
          have := (List.getElem?_eq_some_iff.1 hv).1
          rwa [hlen] at this
        rw [hadd, h.cell j _ hj rfl, ← hv, Array.getElem?_toList, cw_at L a j hj]) (by rw [hlen, cw_size]; omega)
      (fun v hv => (Array.all_eq_true_iff_forall_mem.1 (cw_oneCell L a)) v (by simpa using hv))
    have e : ((cw N 0).toList.take 0 ++ (cw L a).toList ++ (cw N 0).toList.drop (0 + L)).toArray = cw N a := by
      apply Array.ext_getElem?
      intro k
      by_cases hk : k < N
      · rw [cw_at N a k hk]
        simp only [List.take_zero, List.nil_append, Nat.zero_add, List.getElem?_toArray]
        rw [List.getElem?_append, hlen]
        by_cases hk2 : k < L
        · rw [if_pos hk2, Array.getElem?_toList, cw_at L a k hk2]
        · rw [if_neg hk2, List.getElem?_drop, Array.getElem?_toList, show L + (k - L) = k by omega, cw_at N 0 k hk, wd_zero, wd_high h.1 (by omega)]
      · rw [Array.getElem?_eq_none (by simp [cw_size]; omega), Array.getElem?_eq_none (by rw [cw_size]; omega)]
    rw [hlen, e] at hrun
    exact hrun

theorem putw_whole (X N S : Nat) (hX : X < 2 ^ (64 * N)) : putw X 0 N S = S := by
  rw [putw_top X 0 N S (by rw [Nat.zero_add]; exact hX), Nat.mul_zero, Nat.pow_zero, Nat.mod_one]
  omega

end Go.Proofs.YtknkkagapcigfaaDoor
