/-
  What Align, Right, Cut and Top of the document's answer for layer 4 return.
-/
import Derived.Test.YtgiehfecljampaaRquot1
import Derived.Test.YtgiehfecljampaaWide12
import Derived.Test.YtgiehfecljampaaRlen
import Derived.Test.YtgiehfecljampaaJmath
import Derived.Deep.RegionWith
namespace Go.Proofs.Ytgiehfecljampaa
open Go.RowKit WMath

theorem rjrows2 (w : World) (n : Nat) : RowsL w ((w.alloc (.cells (cw 6 n) 24)).alloc (.cells (cw 6 0) 24)) [n, 0] := rowsL_new (rowsL_new (rowsL_nil w) rfl n) (by simp) 0

theorem rwlen_is (n l : Nat) (hn : n < Q) (hl : blen n = l) (w : World) :
    Calls Try.prog 33 #[.agg (cw 6 n)] w fun e w' => e = .returned (.int .i64 (l : Nat)) ∧ Below w.heap.size w w' := by
  subst hl; exact rwlen_any n hn w

theorem rjright_is (n v : Nat) (s : Int) (hn : n < Q) (hv : jr n (cnt6 s) = v) (w : World) :
    Calls Try.prog 12 #[.agg (cw 6 n), .int .i64 s] w fun e w' => e = .returned (.agg (cw 6 v)) ∧ Below w.heap.size w w' := by
  have hat := cw_at 6
  have hz := cw6z
  have hf := cw6f
  have hs0 := st0
  have hcs : ∀ x, ((cw 6 x).size = 6) = True := fun x => eq_true (cw_size 6 x)
  obtain ⟨x, hx⟩ : ∃ x, n / 2 ^ cnt6 s = x := ⟨_, rfl⟩
  obtain ⟨o, ho⟩ : ∃ o, decide (n % 2 ^ cnt6 s ≠ 0) = o := ⟨_, rfl⟩
  have hvo : v = if o then x ||| 1 else x := by
    rw [← hv, ← ho, ← hx]; unfold jr
    by_cases e : n % 2 ^ cnt6 s = 0 <;> simp [e]
  have HX := box hx
  have HO := box ho
  clear hv hx ho
  have x3 : bits .or .u64 (wd x 0 : Nat) 1 = ((wd x 0 ||| 1 : Nat) : Int) := bor x 0 1 (by decide)
  cases o
  · rw [if_neg (by decide)] at hvo
    subst hvo
    go_enter Try.func12, Try.ntmps12
    go_wp2_with fail
    refine (rwright_is n v s _ hn HX.out HO.out _).mono ?_
    rintro e w1 ⟨rfl, hb1⟩
    obtain ⟨r0, r1, b1, s1⟩ := rows_two hb1
    clear hb1
    have q1 : (w1.alloc (.cells (cw 6 v) 24)).heap[w.heap.size + 1]? = some (.cells (cw 6 0) 24) := by rw [heap_below _ _ _ s1]; exact r1
    have hst := st_any (w1.alloc (.cells (cw 6 v) 24)) (w.heap.size + 1) v 0 q1
    have q2 := row_cell (setRow_row (c' := cw 6 v) q1)
    have bz : Below w.heap.size w ((w1.alloc (.cells (cw 6 v) 24)).setRow (w.heap.size + 1) (cw 6 v)) := Below.setRow (b1.alloc b1.size _) (by omega)
    go_wp2
    exact bodyPost_ret (v := .agg (cw 6 v)) (by simp [results, Try.results12, go_sem, q2, hf]) rfl ⟨rfl, bz⟩
  · rw [if_pos rfl] at hvo
    have x4 : (cw 6 x).setIfInBounds 0 (.int .u64 ((wd x 0 ||| 1 : Nat) : Int)) = cw 6 v := cw_or 6 x 0 1 v (by omega) (by decide) (by rw [hvo])
    clear hvo
    go_enter Try.func12, Try.ntmps12
    go_wp2_with fail
    refine (rwright_is n x s _ hn HX.out HO.out _).mono ?_
    rintro e w1 ⟨rfl, hb1⟩
    obtain ⟨r0, r1, b1, s1⟩ := rows_two hb1
    clear hb1
    have q1 : (w1.alloc (.cells (cw 6 v) 24)).heap[w.heap.size + 1]? = some (.cells (cw 6 0) 24) := by rw [heap_below _ _ _ s1]; exact r1
    have hst := st_any (w1.alloc (.cells (cw 6 v) 24)) (w.heap.size + 1) v 0 q1
    have q2 := row_cell (setRow_row (c' := cw 6 v) q1)
    have bz : Below w.heap.size w ((w1.alloc (.cells (cw 6 v) 24)).setRow (w.heap.size + 1) (cw 6 v)) := Below.setRow (b1.alloc b1.size _) (by omega)
    go_wp2
    exact bodyPost_ret (v := .agg (cw 6 v)) (by simp [results, Try.results12, go_sem, q2, hf]) rfl ⟨rfl, bz⟩
end Go.Proofs.Ytgiehfecljampaa
