/-
  What the small functions of package quot return: isZero, up, half, less, power.
-/
import Derived.Test.YtflfgchnlcnibaaWide1
import Derived.Test.YtflfgchnlcnibaaWide2
import Derived.Test.YtflfgchnlcnibaaWide4
import Derived.Test.YtflfgchnlcnibaaWide6
import Derived.Test.YtflfgchnlcnibaaWide8
import Derived.Test.YtflfgchnlcnibaaWide9
import Derived.Test.YtflfgchnlcnibaaQmath
namespace Go.Proofs.Ytflfgchnlcnibaa
open Go.RowKit WMath

theorem wor_is (n m v : Nat) (hn : n < Q) (hm : m < Q) (hv : n ||| m = v) (w : World) :
    Calls Try.prog 24 #[.agg (cw 6 n), .agg (cw 6 m)] w fun e w' => e = .returned (.agg (cw 6 v)) ∧ Below w.heap.size w w' := by
  subst hv; exact wor_any n m hn hm w
theorem wlen_is (n l : Nat) (hn : n < Q) (hl : blen n = l) (w : World) :
    Calls Try.prog 21 #[.agg (cw 6 n)] w fun e w' => e = .returned (.int .i64 (l : Nat)) ∧ Below w.heap.size w w' := by
  subst hl; exact wlen_any n hn w

theorem qzero_is (n : Nat) (o : Bool) (hn : n < Q) (ho : decide (n = 0) = o) (w : World) :
    Calls Try.prog 20 #[.agg (cw 6 n)] w fun e w' => e = .returned (.bool o) ∧ Below w.heap.size w w' := by
  have hat := cw_at 6
  have hz := cw6z
  have hf := cw6f
  have heq := eq6
  have hg := eqg6
  have hQ := Q_pos
  have HO := box ho
  clear ho
  go_enter Try.func20, Try.ntmps20
  go_wp2
  go_ret
  exact ⟨by rw [HO.out]; rfl, (Below.refl _ _).alloc (Nat.le_refl _) _⟩

/-- A row made by box and alloc, a call, and what it gave stored twice: the walk of up, half and less. -/
theorem rows_two {w w1 : World} {n : Nat} (hb : Below ((w.alloc (.cells (cw 6 n) 24)).alloc (.cells (cw 6 0) 24)).heap.size ((w.alloc (.cells (cw 6 n) 24)).alloc (.cells (cw 6 0) 24)) w1) :
    w1.heap[w.heap.size]? = some (.cells (cw 6 n) 24) ∧ w1.heap[w.heap.size + 1]? = some (.cells (cw 6 0) 24) ∧ Below w.heap.size w w1 ∧ w.heap.size + 1 < w1.heap.size := by
  have h1 : w1.heap[w.heap.size + 1]? = some (.cells (cw 6 0) 24) := heap_of hb _ _ _ (by rw [← size_al]; exact heap_alloc_last _ _)
  exact ⟨heap_of hb _ _ _ (by rw [heap_below _ _ _ (by simp only [size_al]; omega)]; exact heap_alloc_last w _), h1,
    (((Below.refl _ _).alloc (Nat.le_refl _) _).alloc (by simp only [size_al]; omega) _).trans (hb.mono (by simp only [size_al]; omega)), (Array.getElem?_eq_some_iff.1 h1).1⟩

theorem qup_is (n v : Nat) (s : Int) (hn : n < Q) (hv : n * 2 ^ cnt6 s % Q = v) (w : World) :
    Calls Try.prog 22 #[.agg (cw 6 n), .int .i64 s] w fun e w' => e = .returned (.agg (cw 6 v)) ∧ Below w.heap.size w w' := by
  have hat := cw_at 6
  have hz := cw6z
  have hf := cw6f
  have hs0 := st0
  have hcs : ∀ x, ((cw 6 x).size = 6) = True := fun x => eq_true (cw_size 6 x)
  have HV := box hv
  clear hv
  go_enter Try.func22, Try.ntmps22
  go_wp2_with fail
  refine (wleft_is n v s _ hn HV.out rfl _).mono ?_
  rintro e w1 ⟨rfl, hb1⟩
  obtain ⟨r0, r1, b1, s1⟩ := rows_two hb1
  clear hb1
  have q1 : (w1.alloc (.cells (cw 6 v) 24)).heap[w.heap.size + 1]? = some (.cells (cw 6 0) 24) := by rw [heap_below _ _ _ s1]; exact r1
  have hst := st_any (w1.alloc (.cells (cw 6 v) 24)) (w.heap.size + 1) v 0 q1
  have q2 := row_cell (setRow_row (c' := cw 6 v) q1)
  have bz : Below w.heap.size w ((w1.alloc (.cells (cw 6 v) 24)).setRow (w.heap.size + 1) (cw 6 v)) := Below.setRow (b1.alloc b1.size _) (by omega)
  go_wp2
  exact bodyPost_ret (v := .agg (cw 6 v)) (by simp [results, Try.results22, go_sem, q2, hf]) rfl ⟨rfl, bz⟩

theorem qhalf_is (n v : Nat) (hn : n < Q) (hv : n / 2 ^ 1 = v) (w : World) :
    Calls Try.prog 31 #[.agg (cw 6 n)] w fun e w' => e = .returned (.agg (cw 6 v)) ∧ Below w.heap.size w w' := by
  have hat := cw_at 6
  have hz := cw6z
  have hf := cw6f
  have hs0 := st0
  have hcs : ∀ x, ((cw 6 x).size = 6) = True := fun x => eq_true (cw_size 6 x)
  have HV := box hv
  clear hv
  go_enter Try.func31, Try.ntmps31
  go_wp2_with fail
  refine (wright_is n v 1 _ hn HV.out rfl _).mono ?_
  rintro e w1 ⟨rfl, hb1⟩
  obtain ⟨r0, r1, b1, s1⟩ := rows_two hb1
  clear hb1
  have q1 : (w1.alloc (.cells (cw 6 v) 24)).heap[w.heap.size + 1]? = some (.cells (cw 6 0) 24) := by rw [heap_below _ _ _ s1]; exact r1
  have hst := st_any (w1.alloc (.cells (cw 6 v) 24)) (w.heap.size + 1) v 0 q1
  have q2 := row_cell (setRow_row (c' := cw 6 v) q1)
  have bz : Below w.heap.size w ((w1.alloc (.cells (cw 6 v) 24)).setRow (w.heap.size + 1) (cw 6 v)) := Below.setRow (b1.alloc b1.size _) (by omega)
  go_wp2
  exact bodyPost_ret (v := .agg (cw 6 v)) (by simp [results, Try.results31, go_sem, q2, hf]) rfl ⟨rfl, bz⟩

theorem qless_is (n m v : Nat) (hn : n < Q) (hm : m < Q) (hv : (n + Q - m) % Q = v) (w : World) :
    Calls Try.prog 23 #[.agg (cw 6 n), .agg (cw 6 m)] w fun e w' => e = .returned (.agg (cw 6 v)) ∧ Below w.heap.size w w' := by
  have hat := cw_at 6
  have hz := cw6z
  have hf := cw6f
  have hs0 := st0
  have hcs : ∀ x, ((cw 6 x).size = 6) = True := fun x => eq_true (cw_size 6 x)
  have HV := box hv
  clear hv
  go_enter Try.func23, Try.ntmps23
  go_wp2_with fail
  refine (wsub_is n m v _ hn hm HV.out rfl _).mono ?_
  rintro e w1 ⟨rfl, hb1⟩
  obtain ⟨r0, r1, b1, s1⟩ := rows_two hb1
  clear hb1
  rw [size_al] at r1 s1
  have q1 : (w1.alloc (.cells (cw 6 v) 24)).heap[w.heap.size + 1 + 1]? = some (.cells (cw 6 0) 24) := by rw [heap_below _ _ _ s1]; exact r1
  have hst := st_any (w1.alloc (.cells (cw 6 v) 24)) (w.heap.size + 1 + 1) v 0 q1
  have q2 := row_cell (setRow_row (c' := cw 6 v) q1)
  have b2 : Below w.heap.size w w1 := ((Below.refl _ _).alloc (Nat.le_refl _) _).trans (b1.mono (by simp only [size_al]; omega))
  have bz : Below w.heap.size w ((w1.alloc (.cells (cw 6 v) 24)).setRow (w.heap.size + 1 + 1) (cw 6 v)) := Below.setRow (b2.alloc b2.size _) (by omega)
  go_wp2
  exact bodyPost_ret (v := .agg (cw 6 v)) (by simp [results, Try.results23, go_sem, q2, hf]) rfl ⟨rfl, bz⟩

theorem qpower_is (k v : Nat) (s : Int) (hs : s = (k : Int)) (hk : k < 384) (hv : 2 ^ k = v) (w : World) :
    Calls Try.prog 25 #[.int .i64 s] w fun e w' => e = .returned (.agg (cw 6 v)) ∧ Below w.heap.size w w' := by
  have hat := cw_at 6
  have hz := cw6z
  have hf := cw6f
  have hs0 := st0
  have hcs : ∀ x, ((cw 6 x).size = 6) = True := fun x => eq_true (cw_size 6 x)
  have h1 : 1 * 2 ^ cnt6 s % Q = v := by
    have e : cnt6 s = k := by unfold cnt6; omega
    rw [e, Nat.one_mul, Nat.mod_eq_of_lt (pow_ltQ k hk), hv]
  have HV := box h1
  have hQ1 : 1 < Q := by have := Q_big; omega
  clear h1 hv hs
  go_enter Try.func25, Try.ntmps25
  go_wp2_with fail
  refine (wof_al 1 (by decide) _).mono ?_
  rintro e w1 ⟨rfl, hb1⟩
  go_wp2_with fail
  refine (qup_is 1 v s hQ1 HV.out _).mono ?_
  rintro e w2 ⟨rfl, hb2⟩
  have r0 : w2.heap[w.heap.size]? = some (.cells (cw 6 0) 24) := heap_of hb2 _ _ _ (heap_of hb1 _ _ _ (heap_alloc_last w _))
  have b1 : Below w.heap.size w w1 := ((Below.refl _ _).alloc (Nat.le_refl _) _).trans (hb1.mono (by simp only [size_al]; omega))
  have b2 : Below w.heap.size w w2 := b1.trans (hb2.mono b1.size)
  clear hb1 hb2 b1
  have hst := st_any w2 w.heap.size v 0 r0
  have q2 := row_cell (setRow_row (c' := cw 6 v) r0)
  have bz : Below w.heap.size w (w2.setRow w.heap.size (cw 6 v)) := Below.setRow b2 (Nat.le_refl _)
  go_wp2
  exact bodyPost_ret (v := .agg (cw 6 v)) (by simp [results, Try.results25, go_sem, q2, hf]) rfl ⟨rfl, bz⟩
end Go.Proofs.Ytflfgchnlcnibaa
