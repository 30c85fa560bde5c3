/-
  The document's Sign, Flip, Quiet and Next.
-/
import Derived.Test.YtbjknklgkhhebaaDoorK9
namespace Go.Proofs.YtbjknklgkhhebaaDoor
open Go.RowKit WMath
set_option linter.unusedSimpArgs false
set_option linter.unusedVariables false

theorem rk_enc (f : Int) (neg : Bool) (e T v a b : Nat) (hf : Is4 f) (hT : T < 2 ^ pV f) (hev : e ≤ oV f) (hv : enc7 f neg e T = v) (hab : bv7 v = (a, b)) (w : World) :
    Calls Tryd.prog 41 #[.int .u8 f, .bool neg, .int .i64 (e : Nat), .agg (cw 6 T)] w fun r w' => r = .returned (.agg #[.int .u64 (a : Nat), .int .u64 (b : Nat)]) ∧ Below w.heap.size w w' := by
  have h := r_enc f neg e T v hf (by have := (fm hf).2.2.2.2.2.1; omega) hT hv hev w
  rw [hab] at h
  exact h
theorem rk_least (f : Int) (neg : Bool) (hf : Is4 f) (u v : Nat) (hv : bv7 (eLeast f neg) = (u, v)) (w : World) : Calls Tryd.prog 52 #[.int .u8 f, .bool neg] w fun r w' => r = .returned (.agg #[.int .u64 (u : Nat), .int .u64 (v : Nat)]) ∧ Below w.heap.size w w' := by
  have := r_least f neg hf _ rfl w
  rw [hv] at this
  exact this
theorem rSign_yes (f : Int) (hf : Is4 f) (x y n : Nat) (o : Bool) (hx : x < 18446744073709551616) (hy : y < 18446744073709551616) (hn : y + 18446744073709551616 * x = n) (ho : okB f n = true) (hc : kN f n = o) (w : World) : Calls Tryd.prog 15 #[.int .u8 f, .agg #[.int .u64 (x : Nat), .int .u64 (y : Nat)]] w fun r w' => r = .returned (.bool o) ∧ Below w.heap.size w w' := by
  have hat := cw_at 6
  have hz := cw6z
  have hff := cw6f
  have hs0 := st0
  have hcs : ∀ x, ((cw 6 x).size = 6) = True := fun x => eq_true (cw_size 6 x)
  have f4 := is4_ok hf
  have fit := (okB_yes f4.1 ho).2
  have K1 := box (rk_fits f x y n true f4.1 hx hy hn ho)
  have K2 := box (rk_fields f hf x y n _ _ o hx hy hn fit hc rfl rfl)
  clear hf hx hy hn ho hc fit
  have Rb_0 : (w.alloc (Obj.cells #[.int .u64 (x : Nat), .int .u64 (y : Nat)] 25)).heap[w.heap.size]? = some (Obj.cells #[.int .u64 (x : Nat), .int .u64 (y : Nat)] 25) := by have := heap_alloc_last w (Obj.cells #[.int .u64 (x : Nat), .int .u64 (y : Nat)] 25); simpa only [size_al] using this
  have B0 : Below w.heap.size w (w.alloc (Obj.cells #[.int .u64 (x : Nat), .int .u64 (y : Nat)] 25)) := ((Below.refl _ _).alloc (by first | omega | (simp only [size_al]; omega)) _)
  go_enter Tryd.func15, Tryd.ntmps15
  go_wp2_with fail
  refine (K1.out _).mono ?_
  rintro r w1 ⟨rfl, b1⟩
  have B1 : Below w.heap.size w w1 := btr7 B0 b1
  have Rb_1 : w1.heap[w.heap.size]? = some (Obj.cells #[.int .u64 (x : Nat), .int .u64 (y : Nat)] 25) := heap_of b1 _ _ _ Rb_0
  clear b1 B0 Rb_0
  have cb_1_0 := cell7 Rb_1 0 _ rfl
  have cb_1_1 := cell7 Rb_1 1 _ rfl
  go_wp2_with fail
  refine (K2.out _).mono ?_
  rintro r w2 ⟨rfl, b2⟩
  have B2 : Below w.heap.size w w2 := btr7 B1 b2
  have Rb_2 : w2.heap[w.heap.size]? = some (Obj.cells #[.int .u64 (x : Nat), .int .u64 (y : Nat)] 25) := heap_of b2 _ _ _ Rb_1
  clear b2 B1 Rb_1 cb_1_0 cb_1_1
  have cb_2_0 := cell7 Rb_2 0 _ rfl
  have cb_2_1 := cell7 Rb_2 1 _ rfl
  have S3 := box B2.size
  have Lb_3 : Box (w.heap.size < w2.heap.size) := box (Array.getElem?_eq_some_iff.1 Rb_2).1
  have B3 : Below w.heap.size w (w2.alloc (Obj.cells (cw 6 (kT f n)) 28)) := btr7 B2 (bal7 _ _)
  have Rb_3 : (w2.alloc (Obj.cells (cw 6 (kT f n)) 28)).heap[w.heap.size]? = some (Obj.cells #[.int .u64 (x : Nat), .int .u64 (y : Nat)] 25) := heap_of (bal7 _ _) _ _ _ Rb_2
  have Rt_3 : (w2.alloc (Obj.cells (cw 6 (kT f n)) 28)).heap[w2.heap.size]? = some (Obj.cells (cw 6 (kT f n)) 28) := heap_alloc_last _ _
  clear B2 Rb_2 cb_2_0 cb_2_1
  have cb_3_0 := cell7 Rb_3 0 _ rfl
  have cb_3_1 := cell7 Rb_3 1 _ rfl
  have ct_3_0 := row_cell Rt_3
  go_wp2
  go_ret
  exact ⟨rfl, B3⟩
theorem rSign_no (f : Int) (h0 : 0 ≤ f) (x y n : Nat) (hx : x < 18446744073709551616) (hy : y < 18446744073709551616) (hn : y + 18446744073709551616 * x = n) (ho : okB f n = false) (w : World) : Calls Tryd.prog 15 #[.int .u8 f, .agg #[.int .u64 (x : Nat), .int .u64 (y : Nat)]] w fun r w' => r = .returned (.bool false) ∧ Below w.heap.size w w' := by
  have K1 := box (rk_fits f x y n false h0 hx hy hn ho)
  clear hx hy hn ho
  have Rb_0 : (w.alloc (Obj.cells #[.int .u64 (x : Nat), .int .u64 (y : Nat)] 25)).heap[w.heap.size]? = some (Obj.cells #[.int .u64 (x : Nat), .int .u64 (y : Nat)] 25) := by have := heap_alloc_last w (Obj.cells #[.int .u64 (x : Nat), .int .u64 (y : Nat)] 25); simpa only [size_al] using this
  have B0 : Below w.heap.size w (w.alloc (Obj.cells #[.int .u64 (x : Nat), .int .u64 (y : Nat)] 25)) := ((Below.refl _ _).alloc (by first | omega | (simp only [size_al]; omega)) _)
  go_enter Tryd.func15, Tryd.ntmps15
  go_wp2_with fail
  refine (K1.out _).mono ?_
  rintro r w1 ⟨rfl, b1⟩
  have B1 : Below w.heap.size w w1 := btr7 B0 b1
  have Rb_1 : w1.heap[w.heap.size]? = some (Obj.cells #[.int .u64 (x : Nat), .int .u64 (y : Nat)] 25) := heap_of b1 _ _ _ Rb_0
  clear b1 B0 Rb_0
  have cb_1_0 := cell7 Rb_1 0 _ rfl
  have cb_1_1 := cell7 Rb_1 1 _ rfl
  go_wp2
  go_ret
  exact ⟨rfl, B1⟩
theorem rFlip_no (f : Int) (h0 : 0 ≤ f) (x y n : Nat) (hx : x < 18446744073709551616) (hy : y < 18446744073709551616) (hn : y + 18446744073709551616 * x = n) (ho : okB f n = false) (w : World) : Calls Tryd.prog 17 #[.int .u8 f, .agg #[.int .u64 (x : Nat), .int .u64 (y : Nat)]] w fun r w' => r = .returned (.agg #[.int .u64 0, .int .u64 0]) ∧ Below w.heap.size w w' := by
  have K1 := box (rk_fits f x y n false h0 hx hy hn ho)
  clear hx hy hn ho
  have Rb_0 : ((w.alloc (Obj.cells #[.int .u64 (x : Nat), .int .u64 (y : Nat)] 25)).alloc (Obj.cells #[.int .u64 0, .int .u64 0] 25)).heap[w.heap.size]? = some (Obj.cells #[.int .u64 (x : Nat), .int .u64 (y : Nat)] 25) := by rw [heap_below _ _ _ (by simp only [size_al]; omega)]; have := heap_alloc_last w (Obj.cells #[.int .u64 (x : Nat), .int .u64 (y : Nat)] 25); simpa only [size_al] using this
  have Rz_0 : ((w.alloc (Obj.cells #[.int .u64 (x : Nat), .int .u64 (y : Nat)] 25)).alloc (Obj.cells #[.int .u64 0, .int .u64 0] 25)).heap[w.heap.size + 1]? = some (Obj.cells #[.int .u64 0, .int .u64 0] 25) := by have := heap_alloc_last (w.alloc (Obj.cells #[.int .u64 (x : Nat), .int .u64 (y : Nat)] 25)) (Obj.cells #[.int .u64 0, .int .u64 0] 25); simpa only [size_al] using this
  have B0 : Below w.heap.size w ((w.alloc (Obj.cells #[.int .u64 (x : Nat), .int .u64 (y : Nat)] 25)).alloc (Obj.cells #[.int .u64 0, .int .u64 0] 25)) := (((Below.refl _ _).alloc (by first | omega | (simp only [size_al]; omega)) _).alloc (by first | omega | (simp only [size_al]; omega)) _)
  go_enter Tryd.func17, Tryd.ntmps17
  go_wp2_with fail
  refine (K1.out _).mono ?_
  rintro r w1 ⟨rfl, b1⟩
  have B1 : Below w.heap.size w w1 := btr7 B0 b1
  have Rb_1 : w1.heap[w.heap.size]? = some (Obj.cells #[.int .u64 (x : Nat), .int .u64 (y : Nat)] 25) := heap_of b1 _ _ _ Rb_0
  have Rz_1 : w1.heap[w.heap.size + 1]? = some (Obj.cells #[.int .u64 0, .int .u64 0] 25) := heap_of b1 _ _ _ Rz_0
  clear b1 B0 Rb_0 Rz_0
  have cb_1_0 := cell7 Rb_1 0 _ rfl
  have cb_1_1 := cell7 Rb_1 1 _ rfl
  have cz_1_0 := cell7 Rz_1 0 _ rfl
  have cz_1_1 := cell7 Rz_1 1 _ rfl
  have q0 := fz (k := 0) Rz_1
  have q1 := fz (k := 1) Rz_1
  obtain ⟨E0, E1⟩ := set2_cells Rz_1 (.int .u64 0) (.int .u64 0)
  go_wp2
  exact bodyPost_ret (v := .agg #[.int .u64 0, .int .u64 0]) (by simp [results, Tryd.results17, go_sem, E0, E1]) rfl ⟨rfl, set2_below B1 (by first | exact Nat.le_refl _ | omega | (skip; omega)) _ _⟩
theorem flip_k {f : Int} (hf : Is4 f) {n : Nat} (hfit : Fit f n) : sgB f n true = enc7 f (!kN f n) (kE f n) (kT f n) := by
  rw [← flip_enc hf _ (kE_le n) (kT_lt n), k_enc hf hfit]
  rfl
theorem rFlip_yes (f : Int) (hf : Is4 f) (x y n u v : Nat) (hx : x < 18446744073709551616) (hy : y < 18446744073709551616) (hn : y + 18446744073709551616 * x = n) (ho : okB f n = true) (hc : bv7 (sgB f n true) = (u, v)) (w : World) : Calls Tryd.prog 17 #[.int .u8 f, .agg #[.int .u64 (x : Nat), .int .u64 (y : Nat)]] w fun r w' => r = .returned (.agg #[.int .u64 (u : Nat), .int .u64 (v : Nat)]) ∧ Below w.heap.size w w' := by
  have hat := cw_at 6
  have hz := cw6z
  have hff := cw6f
  have hs0 := st0
  have hcs : ∀ x, ((cw 6 x).size = 6) = True := fun x => eq_true (cw_size 6 x)
  have f4 := is4_ok hf
  have fit := (okB_yes f4.1 ho).2
  have K1 := box (rk_fits f x y n true f4.1 hx hy hn ho)
  have tl := kT_lt (f := f) n
  have el := kE_le (f := f) n
  have fk := flip_k hf fit
  obtain ⟨neg, hneg⟩ : ∃ q, kN f n = q := ⟨_, rfl⟩
  obtain ⟨e, he⟩ : ∃ q, kE f n = q := ⟨_, rfl⟩
  obtain ⟨t, ht⟩ : ∃ q, kT f n = q := ⟨_, rfl⟩
  have K2 := box (rk_fields f hf x y n e t neg hx hy hn fit hneg he ht)
  rw [hneg, he, ht] at fk
  rw [he] at el
  rw [ht] at tl
  have K3 := box (rk_enc f (!neg) e t _ u v hf tl el fk.symm hc)
  clear hf hx hy hn ho hc fit fk el tl hneg he ht
  cases neg
  · have Rb_0 : ((w.alloc (Obj.cells #[.int .u64 (x : Nat), .int .u64 (y : Nat)] 25)).alloc (Obj.cells #[.int .u64 0, .int .u64 0] 25)).heap[w.heap.size]? = some (Obj.cells #[.int .u64 (x : Nat), .int .u64 (y : Nat)] 25) := by rw [heap_below _ _ _ (by simp only [size_al]; omega)]; have := heap_alloc_last w (Obj.cells #[.int .u64 (x : Nat), .int .u64 (y : Nat)] 25); simpa only [size_al] using this
    have Rz_0 : ((w.alloc (Obj.cells #[.int .u64 (x : Nat), .int .u64 (y : Nat)] 25)).alloc (Obj.cells #[.int .u64 0, .int .u64 0] 25)).heap[w.heap.size + 1]? = some (Obj.cells #[.int .u64 0, .int .u64 0] 25) := by have := heap_alloc_last (w.alloc (Obj.cells #[.int .u64 (x : Nat), .int .u64 (y : Nat)] 25)) (Obj.cells #[.int .u64 0, .int .u64 0] 25); simpa only [size_al] using this
    have B0 : Below w.heap.size w ((w.alloc (Obj.cells #[.int .u64 (x : Nat), .int .u64 (y : Nat)] 25)).alloc (Obj.cells #[.int .u64 0, .int .u64 0] 25)) := (((Below.refl _ _).alloc (by first | omega | (simp only [size_al]; omega)) _).alloc (by first | omega | (simp only [size_al]; omega)) _)
    go_enter Tryd.func17, Tryd.ntmps17
    go_wp2_with fail
    refine (K1.out _).mono ?_
    rintro r w1 ⟨rfl, b1⟩
    have B1 : Below w.heap.size w w1 := btr7 B0 b1
    have Rb_1 : w1.heap[w.heap.size]? = some (Obj.cells #[.int .u64 (x : Nat), .int .u64 (y : Nat)] 25) := heap_of b1 _ _ _ Rb_0
    have Rz_1 : w1.heap[w.heap.size + 1]? = some (Obj.cells #[.int .u64 0, .int .u64 0] 25) := heap_of b1 _ _ _ Rz_0
    clear b1 B0 Rb_0 Rz_0
    have cb_1_0 := cell7 Rb_1 0 _ rfl
    have cb_1_1 := cell7 Rb_1 1 _ rfl
    have cz_1_0 := cell7 Rz_1 0 _ rfl
    have cz_1_1 := cell7 Rz_1 1 _ rfl
    go_wp2_with fail
    refine (K2.out _).mono ?_
    rintro r w2 ⟨rfl, b2⟩
    have B2 : Below w.heap.size w w2 := btr7 B1 b2
    have Rb_2 : w2.heap[w.heap.size]? = some (Obj.cells #[.int .u64 (x : Nat), .int .u64 (y : Nat)] 25) := heap_of b2 _ _ _ Rb_1
    have Rz_2 : w2.heap[w.heap.size + 1]? = some (Obj.cells #[.int .u64 0, .int .u64 0] 25) := heap_of b2 _ _ _ Rz_1
    clear b2 B1 Rb_1 cb_1_0 cb_1_1 Rz_1 cz_1_0 cz_1_1
    have cb_2_0 := cell7 Rb_2 0 _ rfl
    have cb_2_1 := cell7 Rb_2 1 _ rfl
    have cz_2_0 := cell7 Rz_2 0 _ rfl
    have cz_2_1 := cell7 Rz_2 1 _ rfl
    have S3 := box B2.size
    have Lb_3 : Box (w.heap.size < w2.heap.size) := box (Array.getElem?_eq_some_iff.1 Rb_2).1
    have Lz_3 : Box (w.heap.size + 1 < w2.heap.size) := box (Array.getElem?_eq_some_iff.1 Rz_2).1
    have B3 : Below w.heap.size w (w2.alloc (Obj.cells (cw 6 t) 28)) := btr7 B2 (bal7 _ _)
    have Rb_3 : (w2.alloc (Obj.cells (cw 6 t) 28)).heap[w.heap.size]? = some (Obj.cells #[.int .u64 (x : Nat), .int .u64 (y : Nat)] 25) := heap_of (bal7 _ _) _ _ _ Rb_2
    have Rz_3 : (w2.alloc (Obj.cells (cw 6 t) 28)).heap[w.heap.size + 1]? = some (Obj.cells #[.int .u64 0, .int .u64 0] 25) := heap_of (bal7 _ _) _ _ _ Rz_2
    have Rt_3 : (w2.alloc (Obj.cells (cw 6 t) 28)).heap[w2.heap.size]? = some (Obj.cells (cw 6 t) 28) := heap_alloc_last _ _
    clear B2 Rb_2 cb_2_0 cb_2_1 Rz_2 cz_2_0 cz_2_1
    have cb_3_0 := cell7 Rb_3 0 _ rfl
    have cb_3_1 := cell7 Rb_3 1 _ rfl
    have cz_3_0 := cell7 Rz_3 0 _ rfl
    have cz_3_1 := cell7 Rz_3 1 _ rfl
    have ct_3_0 := row_cell Rt_3
    go_wp2_with fail
    refine (K3.out _).mono ?_
    rintro r w4 ⟨rfl, b4⟩
    have B4 : Below w.heap.size w w4 := btr7 B3 b4
    have Rb_4 : w4.heap[w.heap.size]? = some (Obj.cells #[.int .u64 (x : Nat), .int .u64 (y : Nat)] 25) := heap_of b4 _ _ _ Rb_3
    have Rz_4 : w4.heap[w.heap.size + 1]? = some (Obj.cells #[.int .u64 0, .int .u64 0] 25) := heap_of b4 _ _ _ Rz_3
    have Rt_4 : w4.heap[w2.heap.size]? = some (Obj.cells (cw 6 t) 28) := heap_of b4 _ _ _ Rt_3
    clear b4 B3 Rb_3 cb_3_0 cb_3_1 Rz_3 cz_3_0 cz_3_1 Rt_3 ct_3_0
    have cb_4_0 := cell7 Rb_4 0 _ rfl
    have cb_4_1 := cell7 Rb_4 1 _ rfl
    have cz_4_0 := cell7 Rz_4 0 _ rfl
    have cz_4_1 := cell7 Rz_4 1 _ rfl
    have ct_4_0 := row_cell Rt_4
    have q0 := fz (k := 0) Rz_4
    have q1 := fz (k := 1) Rz_4
    obtain ⟨E0, E1⟩ := set2_cells Rz_4 (.int .u64 (u : Nat)) (.int .u64 (v : Nat))
    go_wp2
    exact bodyPost_ret (v := .agg #[.int .u64 (u : Nat), .int .u64 (v : Nat)]) (by simp [results, Tryd.results17, go_sem, E0, E1]) rfl ⟨rfl, set2_below B4 (by first | exact Nat.le_refl _ | omega | (have := S3.out; have := Lb_3.out; have := Lz_3.out; omega)) _ _⟩
  · have Rb_0 : ((w.alloc (Obj.cells #[.int .u64 (x : Nat), .int .u64 (y : Nat)] 25)).alloc (Obj.cells #[.int .u64 0, .int .u64 0] 25)).heap[w.heap.size]? = some (Obj.cells #[.int .u64 (x : Nat), .int .u64 (y : Nat)] 25) := by rw [heap_below _ _ _ (by simp only [size_al]; omega)]; have := heap_alloc_last w (Obj.cells #[.int .u64 (x : Nat), .int .u64 (y : Nat)] 25); simpa only [size_al] using this
    have Rz_0 : ((w.alloc (Obj.cells #[.int .u64 (x : Nat), .int .u64 (y : Nat)] 25)).alloc (Obj.cells #[.int .u64 0, .int .u64 0] 25)).heap[w.heap.size + 1]? = some (Obj.cells #[.int .u64 0, .int .u64 0] 25) := by have := heap_alloc_last (w.alloc (Obj.cells #[.int .u64 (x : Nat), .int .u64 (y : Nat)] 25)) (Obj.cells #[.int .u64 0, .int .u64 0] 25); simpa only [size_al] using this
    have B0 : Below w.heap.size w ((w.alloc (Obj.cells #[.int .u64 (x : Nat), .int .u64 (y : Nat)] 25)).alloc (Obj.cells #[.int .u64 0, .int .u64 0] 25)) := (((Below.refl _ _).alloc (by first | omega | (simp only [size_al]; omega)) _).alloc (by first | omega | (simp only [size_al]; omega)) _)
    go_enter Tryd.func17, Tryd.ntmps17
    go_wp2_with fail
    refine (K1.out _).mono ?_
    rintro r w1 ⟨rfl, b1⟩
    have B1 : Below w.heap.size w w1 := btr7 B0 b1
    have Rb_1 : w1.heap[w.heap.size]? = some (Obj.cells #[.int .u64 (x : Nat), .int .u64 (y : Nat)] 25) := heap_of b1 _ _ _ Rb_0
    have Rz_1 : w1.heap[w.heap.size + 1]? = some (Obj.cells #[.int .u64 0, .int .u64 0] 25) := heap_of b1 _ _ _ Rz_0
    clear b1 B0 Rb_0 Rz_0
    have cb_1_0 := cell7 Rb_1 0 _ rfl
    have cb_1_1 := cell7 Rb_1 1 _ rfl
    have cz_1_0 := cell7 Rz_1 0 _ rfl
    have cz_1_1 := cell7 Rz_1 1 _ rfl
    go_wp2_with fail
    refine (K2.out _).mono ?_
    rintro r w2 ⟨rfl, b2⟩
    have B2 : Below w.heap.size w w2 := btr7 B1 b2
    have Rb_2 : w2.heap[w.heap.size]? = some (Obj.cells #[.int .u64 (x : Nat), .int .u64 (y : Nat)] 25) := heap_of b2 _ _ _ Rb_1
    have Rz_2 : w2.heap[w.heap.size + 1]? = some (Obj.cells #[.int .u64 0, .int .u64 0] 25) := heap_of b2 _ _ _ Rz_1
    clear b2 B1 Rb_1 cb_1_0 cb_1_1 Rz_1 cz_1_0 cz_1_1
    have cb_2_0 := cell7 Rb_2 0 _ rfl
    have cb_2_1 := cell7 Rb_2 1 _ rfl
    have cz_2_0 := cell7 Rz_2 0 _ rfl
    have cz_2_1 := cell7 Rz_2 1 _ rfl
    have S3 := box B2.size
    have Lb_3 : Box (w.heap.size < w2.heap.size) := box (Array.getElem?_eq_some_iff.1 Rb_2).1
    have Lz_3 : Box (w.heap.size + 1 < w2.heap.size) := box (Array.getElem?_eq_some_iff.1 Rz_2).1
    have B3 : Below w.heap.size w (w2.alloc (Obj.cells (cw 6 t) 28)) := btr7 B2 (bal7 _ _)
    have Rb_3 : (w2.alloc (Obj.cells (cw 6 t) 28)).heap[w.heap.size]? = some (Obj.cells #[.int .u64 (x : Nat), .int .u64 (y : Nat)] 25) := heap_of (bal7 _ _) _ _ _ Rb_2
    have Rz_3 : (w2.alloc (Obj.cells (cw 6 t) 28)).heap[w.heap.size + 1]? = some (Obj.cells #[.int .u64 0, .int .u64 0] 25) := heap_of (bal7 _ _) _ _ _ Rz_2
    have Rt_3 : (w2.alloc (Obj.cells (cw 6 t) 28)).heap[w2.heap.size]? = some (Obj.cells (cw 6 t) 28) := heap_alloc_last _ _
    clear B2 Rb_2 cb_2_0 cb_2_1 Rz_2 cz_2_0 cz_2_1
    have cb_3_0 := cell7 Rb_3 0 _ rfl
    have cb_3_1 := cell7 Rb_3 1 _ rfl
    have cz_3_0 := cell7 Rz_3 0 _ rfl
    have cz_3_1 := cell7 Rz_3 1 _ rfl
    have ct_3_0 := row_cell Rt_3
    go_wp2_with fail
    refine (K3.out _).mono ?_
    rintro r w4 ⟨rfl, b4⟩
    have B4 : Below w.heap.size w w4 := btr7 B3 b4
    have Rb_4 : w4.heap[w.heap.size]? = some (Obj.cells #[.int .u64 (x : Nat), .int .u64 (y : Nat)] 25) := heap_of b4 _ _ _ Rb_3
    have Rz_4 : w4.heap[w.heap.size + 1]? = some (Obj.cells #[.int .u64 0, .int .u64 0] 25) := heap_of b4 _ _ _ Rz_3
    have Rt_4 : w4.heap[w2.heap.size]? = some (Obj.cells (cw 6 t) 28) := heap_of b4 _ _ _ Rt_3
    clear b4 B3 Rb_3 cb_3_0 cb_3_1 Rz_3 cz_3_0 cz_3_1 Rt_3 ct_3_0
    have cb_4_0 := cell7 Rb_4 0 _ rfl
    have cb_4_1 := cell7 Rb_4 1 _ rfl
    have cz_4_0 := cell7 Rz_4 0 _ rfl
    have cz_4_1 := cell7 Rz_4 1 _ rfl
    have ct_4_0 := row_cell Rt_4
    have q0 := fz (k := 0) Rz_4
    have q1 := fz (k := 1) Rz_4
    obtain ⟨E0, E1⟩ := set2_cells Rz_4 (.int .u64 (u : Nat)) (.int .u64 (v : Nat))
    go_wp2
    exact bodyPost_ret (v := .agg #[.int .u64 (u : Nat), .int .u64 (v : Nat)]) (by simp [results, Tryd.results17, go_sem, E0, E1]) rfl ⟨rfl, set2_below B4 (by first | exact Nat.le_refl _ | omega | (have := S3.out; have := Lb_3.out; have := Lz_3.out; omega)) _ _⟩
theorem rNaN_is (f : Int) (hf : Is4 f) (x y n c : Nat) (o : Bool) (hx : x < 18446744073709551616) (hy : y < 18446744073709551616) (hn : y + 18446744073709551616 * x = n) (hfit : Fit f n) (hc : kC f n = c) (ho : decide (8 ≤ c) = o) (w : World) : Calls Tryd.prog 48 #[.int .u8 f, .agg #[.int .u64 (x : Nat), .int .u64 (y : Nat)]] w fun r w' => r = .returned (.bool o) ∧ Below w.heap.size w w' := by
  have K1 := box (rk_class f hf x y n c hx hy hn hfit hc)
  have hd : decide ((8 : Int) ≤ (c : Int)) = o := by rw [← ho, decide_eq_decide]; omega
  clear hf hx hy hn hfit hc ho
  have Rb_0 : (w.alloc (Obj.cells #[.int .u64 (x : Nat), .int .u64 (y : Nat)] 25)).heap[w.heap.size]? = some (Obj.cells #[.int .u64 (x : Nat), .int .u64 (y : Nat)] 25) := by have := heap_alloc_last w (Obj.cells #[.int .u64 (x : Nat), .int .u64 (y : Nat)] 25); simpa only [size_al] using this
  have B0 : Below w.heap.size w (w.alloc (Obj.cells #[.int .u64 (x : Nat), .int .u64 (y : Nat)] 25)) := ((Below.refl _ _).alloc (by first | omega | (simp only [size_al]; omega)) _)
  go_enter Tryd.func48, Tryd.ntmps48
  go_wp2_with fail
  refine (K1.out _).mono ?_
  rintro r w1 ⟨rfl, b1⟩
  have B1 : Below w.heap.size w w1 := btr7 B0 b1
  have Rb_1 : w1.heap[w.heap.size]? = some (Obj.cells #[.int .u64 (x : Nat), .int .u64 (y : Nat)] 25) := heap_of b1 _ _ _ Rb_0
  clear b1 B0 Rb_0
  have cb_1_0 := cell7 Rb_1 0 _ rfl
  have cb_1_1 := cell7 Rb_1 1 _ rfl
  go_wp2
  go_ret
  exact ⟨rfl, B1⟩
theorem rQuiet_no (f : Int) (h0 : 0 ≤ f) (x y n : Nat) (hx : x < 18446744073709551616) (hy : y < 18446744073709551616) (hn : y + 18446744073709551616 * x = n) (ho : okB f n = false) (w : World) : Calls Tryd.prog 19 #[.int .u8 f, .agg #[.int .u64 (x : Nat), .int .u64 (y : Nat)]] w fun r w' => r = .returned (.agg #[.int .u64 0, .int .u64 0]) ∧ Below w.heap.size w w' := by
  have K1 := box (rk_fits f x y n false h0 hx hy hn ho)
  clear hx hy hn ho
  have Rb_0 : ((w.alloc (Obj.cells #[.int .u64 (x : Nat), .int .u64 (y : Nat)] 25)).alloc (Obj.cells #[.int .u64 0, .int .u64 0] 25)).heap[w.heap.size]? = some (Obj.cells #[.int .u64 (x : Nat), .int .u64 (y : Nat)] 25) := by rw [heap_below _ _ _ (by simp only [size_al]; omega)]; have := heap_alloc_last w (Obj.cells #[.int .u64 (x : Nat), .int .u64 (y : Nat)] 25); simpa only [size_al] using this
  have Rz_0 : ((w.alloc (Obj.cells #[.int .u64 (x : Nat), .int .u64 (y : Nat)] 25)).alloc (Obj.cells #[.int .u64 0, .int .u64 0] 25)).heap[w.heap.size + 1]? = some (Obj.cells #[.int .u64 0, .int .u64 0] 25) := by have := heap_alloc_last (w.alloc (Obj.cells #[.int .u64 (x : Nat), .int .u64 (y : Nat)] 25)) (Obj.cells #[.int .u64 0, .int .u64 0] 25); simpa only [size_al] using this
  have B0 : Below w.heap.size w ((w.alloc (Obj.cells #[.int .u64 (x : Nat), .int .u64 (y : Nat)] 25)).alloc (Obj.cells #[.int .u64 0, .int .u64 0] 25)) := (((Below.refl _ _).alloc (by first | omega | (simp only [size_al]; omega)) _).alloc (by first | omega | (simp only [size_al]; omega)) _)
  go_enter Tryd.func19, Tryd.ntmps19
  go_wp2_with fail
  refine (K1.out _).mono ?_
  rintro r w1 ⟨rfl, b1⟩
  have B1 : Below w.heap.size w w1 := btr7 B0 b1
  have Rb_1 : w1.heap[w.heap.size]? = some (Obj.cells #[.int .u64 (x : Nat), .int .u64 (y : Nat)] 25) := heap_of b1 _ _ _ Rb_0
  have Rz_1 : w1.heap[w.heap.size + 1]? = some (Obj.cells #[.int .u64 0, .int .u64 0] 25) := heap_of b1 _ _ _ Rz_0
  clear b1 B0 Rb_0 Rz_0
  have cb_1_0 := cell7 Rb_1 0 _ rfl
  have cb_1_1 := cell7 Rb_1 1 _ rfl
  have cz_1_0 := cell7 Rz_1 0 _ rfl
  have cz_1_1 := cell7 Rz_1 1 _ rfl
  have q0 := fz (k := 0) Rz_1
  have q1 := fz (k := 1) Rz_1
  obtain ⟨E0, E1⟩ := set2_cells Rz_1 (.int .u64 0) (.int .u64 0)
  go_wp2
  exact bodyPost_ret (v := .agg #[.int .u64 0, .int .u64 0]) (by simp [results, Tryd.results19, go_sem, E0, E1]) rfl ⟨rfl, set2_below B1 (by first | exact Nat.le_refl _ | omega | (skip; omega)) _ _⟩
theorem rQuiet_same (f : Int) (hf : Is4 f) (x y n c : Nat) (hx : x < 18446744073709551616) (hy : y < 18446744073709551616) (hn : y + 18446744073709551616 * x = n) (ho : okB f n = true) (hc : kC f n = c) (hne : c < 8) (w : World) : Calls Tryd.prog 19 #[.int .u8 f, .agg #[.int .u64 (x : Nat), .int .u64 (y : Nat)]] w fun r w' => r = .returned (.agg #[.int .u64 (x : Nat), .int .u64 (y : Nat)]) ∧ Below w.heap.size w w' := by
  have f4 := is4_ok hf
  have K1 := box (rk_fits f x y n true f4.1 hx hy hn ho)
  have K2 := box (rNaN_is f hf x y n c false hx hy hn (okB_yes f4.1 ho).2 hc (decide_eq_false (by omega)))
  clear hf hx hy hn ho hc hne
  have Rb_0 : ((w.alloc (Obj.cells #[.int .u64 (x : Nat), .int .u64 (y : Nat)] 25)).alloc (Obj.cells #[.int .u64 0, .int .u64 0] 25)).heap[w.heap.size]? = some (Obj.cells #[.int .u64 (x : Nat), .int .u64 (y : Nat)] 25) := by rw [heap_below _ _ _ (by simp only [size_al]; omega)]; have := heap_alloc_last w (Obj.cells #[.int .u64 (x : Nat), .int .u64 (y : Nat)] 25); simpa only [size_al] using this
  have Rz_0 : ((w.alloc (Obj.cells #[.int .u64 (x : Nat), .int .u64 (y : Nat)] 25)).alloc (Obj.cells #[.int .u64 0, .int .u64 0] 25)).heap[w.heap.size + 1]? = some (Obj.cells #[.int .u64 0, .int .u64 0] 25) := by have := heap_alloc_last (w.alloc (Obj.cells #[.int .u64 (x : Nat), .int .u64 (y : Nat)] 25)) (Obj.cells #[.int .u64 0, .int .u64 0] 25); simpa only [size_al] using this
  have B0 : Below w.heap.size w ((w.alloc (Obj.cells #[.int .u64 (x : Nat), .int .u64 (y : Nat)] 25)).alloc (Obj.cells #[.int .u64 0, .int .u64 0] 25)) := (((Below.refl _ _).alloc (by first | omega | (simp only [size_al]; omega)) _).alloc (by first | omega | (simp only [size_al]; omega)) _)
  go_enter Tryd.func19, Tryd.ntmps19
  go_wp2_with fail
  refine (K1.out _).mono ?_
  rintro r w1 ⟨rfl, b1⟩
  have B1 : Below w.heap.size w w1 := btr7 B0 b1
  have Rb_1 : w1.heap[w.heap.size]? = some (Obj.cells #[.int .u64 (x : Nat), .int .u64 (y : Nat)] 25) := heap_of b1 _ _ _ Rb_0
  have Rz_1 : w1.heap[w.heap.size + 1]? = some (Obj.cells #[.int .u64 0, .int .u64 0] 25) := heap_of b1 _ _ _ Rz_0
  clear b1 B0 Rb_0 Rz_0
  have cb_1_0 := cell7 Rb_1 0 _ rfl
  have cb_1_1 := cell7 Rb_1 1 _ rfl
  have cz_1_0 := cell7 Rz_1 0 _ rfl
  have cz_1_1 := cell7 Rz_1 1 _ rfl
  go_wp2_with fail
  refine (K2.out _).mono ?_
  rintro r w2 ⟨rfl, b2⟩
  have B2 : Below w.heap.size w w2 := btr7 B1 b2
  have Rb_2 : w2.heap[w.heap.size]? = some (Obj.cells #[.int .u64 (x : Nat), .int .u64 (y : Nat)] 25) := heap_of b2 _ _ _ Rb_1
  have Rz_2 : w2.heap[w.heap.size + 1]? = some (Obj.cells #[.int .u64 0, .int .u64 0] 25) := heap_of b2 _ _ _ Rz_1
  clear b2 B1 Rb_1 cb_1_0 cb_1_1 Rz_1 cz_1_0 cz_1_1
  have cb_2_0 := cell7 Rb_2 0 _ rfl
  have cb_2_1 := cell7 Rb_2 1 _ rfl
  have cz_2_0 := cell7 Rz_2 0 _ rfl
  have cz_2_1 := cell7 Rz_2 1 _ rfl
  have q0 := fz (k := 0) Rz_2
  have q1 := fz (k := 1) Rz_2
  obtain ⟨E0, E1⟩ := set2_cells Rz_2 (.int .u64 (x : Nat)) (.int .u64 (y : Nat))
  go_wp2
  exact bodyPost_ret (v := .agg #[.int .u64 (x : Nat), .int .u64 (y : Nat)]) (by simp [results, Tryd.results19, go_sem, E0, E1]) rfl ⟨rfl, set2_below B2 (by first | exact Nat.le_refl _ | omega | (skip; omega)) _ _⟩
/-- What a NaN is, made quiet. -/
def qt (f : Int) (n : Nat) : Nat := if kC f n = 8 then n + 2 ^ (pV f - 1) else n
theorem or_bit_lt (t k : Nat) (h : t < 2 ^ k) : t ||| 2 ^ k = t + 2 ^ k := by
  have e := Nat.two_pow_add_eq_or_of_lt h 1
  rw [Nat.mul_one] at e
  rw [Nat.or_comm, ← e, Nat.add_comm]
theorem or_bit_ge (t k : Nat) (h : 2 ^ k ≤ t) (h2 : t < 2 * 2 ^ k) : t ||| 2 ^ k = t := by
  obtain ⟨s, rfl⟩ : ∃ s, t = s + 2 ^ k := ⟨t - 2 ^ k, by omega⟩
  rw [← or_bit_lt s k (by omega), Nat.or_assoc, Nat.or_self]
theorem qt_is {f : Int} (hf : Is4 f) {n : Nat} (hfit : Fit f n) (hc : 8 ≤ kC f n) : enc7 f (kN f n) (kE f n) (kT f n ||| 2 ^ (pV f - 1)) = qt f n ∧ kT f n ||| 2 ^ (pV f - 1) < 2 ^ pV f := by
  obtain ⟨g1, g2, g3, g4, g5, g6, g7⟩ := fm hf
  have tl := kT_lt (f := f) n
  have e := k_enc hf hfit
  by_cases h : 2 ^ (pV f - 1) ≤ kT f n
  · have h9 : kC f n ≠ 8 := by
      unfold kC at hc ⊢
      repeat' split at hc <;> first | omega | skip
      all_goals (try split) <;> omega
    rw [or_bit_ge _ _ h (by omega)]
    unfold qt
    rw [if_neg h9]
    exact ⟨e, tl⟩
  · have h9 : kC f n = 8 := by
      unfold kC at hc ⊢
      repeat' split at hc <;> first | omega | skip
      all_goals first | contradiction | simp_all
    rw [or_bit_lt _ _ (by omega)]
    unfold qt
    rw [if_pos h9]
    refine ⟨?_, by omega⟩
    conv => rhs; rw [← e]
    unfold enc7
    omega

set_option maxHeartbeats 1000000 in
theorem rQuiet_set (f : Int) (hf : Is4 f) (x y n u v : Nat) (hx : x < 18446744073709551616) (hy : y < 18446744073709551616) (hn : y + 18446744073709551616 * x = n) (ho : okB f n = true) (hc : 8 ≤ kC f n) (hv : bv7 (qt f n) = (u, v)) (w : World) : Calls Tryd.prog 19 #[.int .u8 f, .agg #[.int .u64 (x : Nat), .int .u64 (y : Nat)]] w fun r w' => r = .returned (.agg #[.int .u64 (u : Nat), .int .u64 (v : Nat)]) ∧ Below w.heap.size w w' := by
  have hat := cw_at 6
  have hz := cw6z
  have hff := cw6f
  have hs0 := st0
  have hcs : ∀ x, ((cw 6 x).size = 6) = True := fun x => eq_true (cw_size 6 x)
  have f4 := is4_ok hf
  have fit := (okB_yes f4.1 ho).2
  have K1 := box (rk_fits f x y n true f4.1 hx hy hn ho)
  have K2 := box (rNaN_is f hf x y n _ true hx hy hn fit rfl (decide_eq_true hc))
  obtain ⟨q1, q2⟩ := qt_is hf fit hc
  have el := kE_le (f := f) n
  have tl := kT_lt (f := f) n
  obtain ⟨g1, g2, g3, g4, g5, g6, g7⟩ := fm hf
  obtain ⟨p1, p2, p3, p4, p5, p6, p7, p8⟩ := pV_lim hf
  have p9 : IntKind.i64.wrap (fP f - 2) = ((pV f - 1 : Nat) : Int) := by rcases hf with rfl | rfl | rfl | rfl <;> decide +kernel
  have pl : 2 ^ pV f < 340282366920938463463374607431768211456 := by rw [g1, Nat.add_mul] at g7; omega
  obtain ⟨neg, hneg⟩ : ∃ q, kN f n = q := ⟨_, rfl⟩
  obtain ⟨e, he⟩ : ∃ q, kE f n = q := ⟨_, rfl⟩
  obtain ⟨t, ht⟩ : ∃ q, kT f n = q := ⟨_, rfl⟩
  have K3 := box (rk_fields f hf x y n e t neg hx hy hn fit hneg he ht)
  rw [ht] at q1 q2 tl
  rw [hneg, he] at q1
  rw [he] at el
  obtain ⟨pm, hpm⟩ : ∃ q, pV f - 1 = q := ⟨_, rfl⟩
  rw [hpm] at q1 q2 p9 g3 g4
  obtain ⟨P, hP⟩ : ∃ q, 2 ^ pm = q := ⟨_, rfl⟩
  rw [hP] at q1 q2 g3 g4
  obtain ⟨T, hT⟩ : ∃ q, t ||| P = q := ⟨_, rfl⟩
  rw [hT] at q1 q2
  have K4 : Box (∀ w, Calls Tryd.prog 32 #[.int .u64 1] w fun r w' => r = .returned (.agg (cw 6 1)) ∧ Below w.heap.size w w') := box (fun w => rwof_any 1 (by omega) w)
  have K5 : Box (∀ w, Calls Tryd.prog 31 #[.agg (cw 6 1), .int .i64 (pm : Nat)] w fun r w' => r = .returned (.tuple #[.agg (cw 6 P), .bool false]) ∧ Below w.heap.size w w') := box (fun w => rwleft_is 1 P pm false (lt_Q7 (by omega)) (by rw [cnt_of (by omega), Nat.one_mul, hP, Nat.mod_eq_of_lt (lt_Q7 (by omega))]) (by rw [cnt_of (by omega), Nat.one_mul, hP]; have := lt_Q7 (v := P) (by omega); simp; omega) w)
  have K6 := box (rwor_is t P T (lt_Q7 (by omega)) (lt_Q7 (by omega)) hT)
  have K7 := box (rk_enc f neg e T _ u v hf q2 el q1 hv)
  obtain ⟨p, hp⟩ : ∃ q, fP f = q := ⟨_, rfl⟩
  rw [hp] at p9
  have KP := box (r_precision f p f4.1 hp)
  clear hf hx hy hn ho hc hv fit q1 q2 el tl g1 g2 g3 g4 g5 g6 g7 p1 p2 p3 p4 p5 p6 p7 p8 pl hneg he ht hpm hP hT hp f4
  have Rb_0 : ((w.alloc (Obj.cells #[.int .u64 (x : Nat), .int .u64 (y : Nat)] 25)).alloc (Obj.cells #[.int .u64 0, .int .u64 0] 25)).heap[w.heap.size]? = some (Obj.cells #[.int .u64 (x : Nat), .int .u64 (y : Nat)] 25) := by rw [heap_below _ _ _ (by simp only [size_al]; omega)]; have := heap_alloc_last w (Obj.cells #[.int .u64 (x : Nat), .int .u64 (y : Nat)] 25); simpa only [size_al] using this
  have Rz_0 : ((w.alloc (Obj.cells #[.int .u64 (x : Nat), .int .u64 (y : Nat)] 25)).alloc (Obj.cells #[.int .u64 0, .int .u64 0] 25)).heap[w.heap.size + 1]? = some (Obj.cells #[.int .u64 0, .int .u64 0] 25) := by have := heap_alloc_last (w.alloc (Obj.cells #[.int .u64 (x : Nat), .int .u64 (y : Nat)] 25)) (Obj.cells #[.int .u64 0, .int .u64 0] 25); simpa only [size_al] using this
  have B0 : Below w.heap.size w ((w.alloc (Obj.cells #[.int .u64 (x : Nat), .int .u64 (y : Nat)] 25)).alloc (Obj.cells #[.int .u64 0, .int .u64 0] 25)) := (((Below.refl _ _).alloc (by first | omega | (simp only [size_al]; omega)) _).alloc (by first | omega | (simp only [size_al]; omega)) _)
  go_enter Tryd.func19, Tryd.ntmps19
  go_wp2_with fail
  refine (K1.out _).mono ?_
  rintro r w1 ⟨rfl, b1⟩
  have B1 : Below w.heap.size w w1 := btr7 B0 b1
  have Rb_1 : w1.heap[w.heap.size]? = some (Obj.cells #[.int .u64 (x : Nat), .int .u64 (y : Nat)] 25) := heap_of b1 _ _ _ Rb_0
  have Rz_1 : w1.heap[w.heap.size + 1]? = some (Obj.cells #[.int .u64 0, .int .u64 0] 25) := heap_of b1 _ _ _ Rz_0
  clear b1 B0 Rb_0 Rz_0
  have cb_1_0 := cell7 Rb_1 0 _ rfl
  have cb_1_1 := cell7 Rb_1 1 _ rfl
  have cz_1_0 := cell7 Rz_1 0 _ rfl
  have cz_1_1 := cell7 Rz_1 1 _ rfl
  go_wp2_with fail
  refine (K2.out _).mono ?_
  rintro r w2 ⟨rfl, b2⟩
  have B2 : Below w.heap.size w w2 := btr7 B1 b2
  have Rb_2 : w2.heap[w.heap.size]? = some (Obj.cells #[.int .u64 (x : Nat), .int .u64 (y : Nat)] 25) := heap_of b2 _ _ _ Rb_1
  have Rz_2 : w2.heap[w.heap.size + 1]? = some (Obj.cells #[.int .u64 0, .int .u64 0] 25) := heap_of b2 _ _ _ Rz_1
  clear b2 B1 Rb_1 cb_1_0 cb_1_1 Rz_1 cz_1_0 cz_1_1
  have cb_2_0 := cell7 Rb_2 0 _ rfl
  have cb_2_1 := cell7 Rb_2 1 _ rfl
  have cz_2_0 := cell7 Rz_2 0 _ rfl
  have cz_2_1 := cell7 Rz_2 1 _ rfl
  go_wp2_with fail
  refine (K3.out _).mono ?_
  rintro r w3 ⟨rfl, b3⟩
  have B3 : Below w.heap.size w w3 := btr7 B2 b3
  have Rb_3 : w3.heap[w.heap.size]? = some (Obj.cells #[.int .u64 (x : Nat), .int .u64 (y : Nat)] 25) := heap_of b3 _ _ _ Rb_2
  have Rz_3 : w3.heap[w.heap.size + 1]? = some (Obj.cells #[.int .u64 0, .int .u64 0] 25) := heap_of b3 _ _ _ Rz_2
  clear b3 B2 Rb_2 cb_2_0 cb_2_1 Rz_2 cz_2_0 cz_2_1
  have cb_3_0 := cell7 Rb_3 0 _ rfl
  have cb_3_1 := cell7 Rb_3 1 _ rfl
  have cz_3_0 := cell7 Rz_3 0 _ rfl
  have cz_3_1 := cell7 Rz_3 1 _ rfl
  have S4 := box B3.size
  have Lb_4 : Box (w.heap.size < w3.heap.size) := box (Array.getElem?_eq_some_iff.1 Rb_3).1
  have Lz_4 : Box (w.heap.size + 1 < w3.heap.size) := box (Array.getElem?_eq_some_iff.1 Rz_3).1
  have B4 : Below w.heap.size w (w3.alloc (Obj.cells (cw 6 t) 28)) := btr7 B3 (bal7 _ _)
  have Rb_4 : (w3.alloc (Obj.cells (cw 6 t) 28)).heap[w.heap.size]? = some (Obj.cells #[.int .u64 (x : Nat), .int .u64 (y : Nat)] 25) := heap_of (bal7 _ _) _ _ _ Rb_3
  have Rz_4 : (w3.alloc (Obj.cells (cw 6 t) 28)).heap[w.heap.size + 1]? = some (Obj.cells #[.int .u64 0, .int .u64 0] 25) := heap_of (bal7 _ _) _ _ _ Rz_3
  have Rt_4 : (w3.alloc (Obj.cells (cw 6 t) 28)).heap[w3.heap.size]? = some (Obj.cells (cw 6 t) 28) := heap_alloc_last _ _
  clear B3 Rb_3 cb_3_0 cb_3_1 Rz_3 cz_3_0 cz_3_1
  have cb_4_0 := cell7 Rb_4 0 _ rfl
  have cb_4_1 := cell7 Rb_4 1 _ rfl
  have cz_4_0 := cell7 Rz_4 0 _ rfl
  have cz_4_1 := cell7 Rz_4 1 _ rfl
  have ct_4_0 := row_cell Rt_4
  go_wp2_with fail
  refine (K4.out _).mono ?_
  rintro r w5 ⟨rfl, b5⟩
  have B5 : Below w.heap.size w w5 := btr7 B4 b5
  have Rb_5 : w5.heap[w.heap.size]? = some (Obj.cells #[.int .u64 (x : Nat), .int .u64 (y : Nat)] 25) := heap_of b5 _ _ _ Rb_4
  have Rz_5 : w5.heap[w.heap.size + 1]? = some (Obj.cells #[.int .u64 0, .int .u64 0] 25) := heap_of b5 _ _ _ Rz_4
  have Rt_5 : w5.heap[w3.heap.size]? = some (Obj.cells (cw 6 t) 28) := heap_of b5 _ _ _ Rt_4
  clear b5 B4 Rb_4 cb_4_0 cb_4_1 Rz_4 cz_4_0 cz_4_1 Rt_4 ct_4_0
  have cb_5_0 := cell7 Rb_5 0 _ rfl
  have cb_5_1 := cell7 Rb_5 1 _ rfl
  have cz_5_0 := cell7 Rz_5 0 _ rfl
  have cz_5_1 := cell7 Rz_5 1 _ rfl
  have ct_5_0 := row_cell Rt_5
  go_wp2_with fail
  refine (KP.out _).mono ?_
  rintro r w' ⟨rfl, hw'⟩
  obtain rfl := hw'.symm
  go_wp2_with fail
  refine (K5.out _).mono ?_
  rintro r w6 ⟨rfl, b6⟩
  have B6 : Below w.heap.size w w6 := btr7 B5 b6
  have Rb_6 : w6.heap[w.heap.size]? = some (Obj.cells #[.int .u64 (x : Nat), .int .u64 (y : Nat)] 25) := heap_of b6 _ _ _ Rb_5
  have Rz_6 : w6.heap[w.heap.size + 1]? = some (Obj.cells #[.int .u64 0, .int .u64 0] 25) := heap_of b6 _ _ _ Rz_5
  have Rt_6 : w6.heap[w3.heap.size]? = some (Obj.cells (cw 6 t) 28) := heap_of b6 _ _ _ Rt_5
  clear b6 B5 Rb_5 cb_5_0 cb_5_1 Rz_5 cz_5_0 cz_5_1 Rt_5 ct_5_0
  have cb_6_0 := cell7 Rb_6 0 _ rfl
  have cb_6_1 := cell7 Rb_6 1 _ rfl
  have cz_6_0 := cell7 Rz_6 0 _ rfl
  have cz_6_1 := cell7 Rz_6 1 _ rfl
  have ct_6_0 := row_cell Rt_6
  have S7 := box B6.size
  have Lb_7 : Box (w.heap.size < w6.heap.size) := box (Array.getElem?_eq_some_iff.1 Rb_6).1
  have Lz_7 : Box (w.heap.size + 1 < w6.heap.size) := box (Array.getElem?_eq_some_iff.1 Rz_6).1
  have Lt_7 : Box (w3.heap.size < w6.heap.size) := box (Array.getElem?_eq_some_iff.1 Rt_6).1
  have B7 : Below w.heap.size w (w6.alloc (Obj.cells (cw 6 P) 28)) := btr7 B6 (bal7 _ _)
  have Rb_7 : (w6.alloc (Obj.cells (cw 6 P) 28)).heap[w.heap.size]? = some (Obj.cells #[.int .u64 (x : Nat), .int .u64 (y : Nat)] 25) := heap_of (bal7 _ _) _ _ _ Rb_6
  have Rz_7 : (w6.alloc (Obj.cells (cw 6 P) 28)).heap[w.heap.size + 1]? = some (Obj.cells #[.int .u64 0, .int .u64 0] 25) := heap_of (bal7 _ _) _ _ _ Rz_6
  have Rt_7 : (w6.alloc (Obj.cells (cw 6 P) 28)).heap[w3.heap.size]? = some (Obj.cells (cw 6 t) 28) := heap_of (bal7 _ _) _ _ _ Rt_6
  have Rq_7 : (w6.alloc (Obj.cells (cw 6 P) 28)).heap[w6.heap.size]? = some (Obj.cells (cw 6 P) 28) := heap_alloc_last _ _
  clear B6 Rb_6 cb_6_0 cb_6_1 Rz_6 cz_6_0 cz_6_1 Rt_6 ct_6_0
  have cb_7_0 := cell7 Rb_7 0 _ rfl
  have cb_7_1 := cell7 Rb_7 1 _ rfl
  have cz_7_0 := cell7 Rz_7 0 _ rfl
  have cz_7_1 := cell7 Rz_7 1 _ rfl
  have ct_7_0 := row_cell Rt_7
  have cq_7_0 := row_cell Rq_7
  go_wp2_with fail
  refine (K6.out _).mono ?_
  rintro r w8 ⟨rfl, b8⟩
  have B8 : Below w.heap.size w w8 := btr7 B7 b8
  have Rb_8 : w8.heap[w.heap.size]? = some (Obj.cells #[.int .u64 (x : Nat), .int .u64 (y : Nat)] 25) := heap_of b8 _ _ _ Rb_7
  have Rz_8 : w8.heap[w.heap.size + 1]? = some (Obj.cells #[.int .u64 0, .int .u64 0] 25) := heap_of b8 _ _ _ Rz_7
  have Rt_8 : w8.heap[w3.heap.size]? = some (Obj.cells (cw 6 t) 28) := heap_of b8 _ _ _ Rt_7
  have Rq_8 : w8.heap[w6.heap.size]? = some (Obj.cells (cw 6 P) 28) := heap_of b8 _ _ _ Rq_7
  clear b8 B7 Rb_7 cb_7_0 cb_7_1 Rz_7 cz_7_0 cz_7_1 Rt_7 ct_7_0 Rq_7 cq_7_0
  have cb_8_0 := cell7 Rb_8 0 _ rfl
  have cb_8_1 := cell7 Rb_8 1 _ rfl
  have cz_8_0 := cell7 Rz_8 0 _ rfl
  have cz_8_1 := cell7 Rz_8 1 _ rfl
  have ct_8_0 := row_cell Rt_8
  have cq_8_0 := row_cell Rq_8
  go_wp2_with fail
  refine (K7.out _).mono ?_
  rintro r w9 ⟨rfl, b9⟩
  have B9 : Below w.heap.size w w9 := btr7 B8 b9
  have Rb_9 : w9.heap[w.heap.size]? = some (Obj.cells #[.int .u64 (x : Nat), .int .u64 (y : Nat)] 25) := heap_of b9 _ _ _ Rb_8
  have Rz_9 : w9.heap[w.heap.size + 1]? = some (Obj.cells #[.int .u64 0, .int .u64 0] 25) := heap_of b9 _ _ _ Rz_8
  have Rt_9 : w9.heap[w3.heap.size]? = some (Obj.cells (cw 6 t) 28) := heap_of b9 _ _ _ Rt_8
  have Rq_9 : w9.heap[w6.heap.size]? = some (Obj.cells (cw 6 P) 28) := heap_of b9 _ _ _ Rq_8
  clear b9 B8 Rb_8 cb_8_0 cb_8_1 Rz_8 cz_8_0 cz_8_1 Rt_8 ct_8_0 Rq_8 cq_8_0
  have cb_9_0 := cell7 Rb_9 0 _ rfl
  have cb_9_1 := cell7 Rb_9 1 _ rfl
  have cz_9_0 := cell7 Rz_9 0 _ rfl
  have cz_9_1 := cell7 Rz_9 1 _ rfl
  have ct_9_0 := row_cell Rt_9
  have cq_9_0 := row_cell Rq_9
  have q0 := fz (k := 0) Rz_9
  have q1 := fz (k := 1) Rz_9
  obtain ⟨E0, E1⟩ := set2_cells Rz_9 (.int .u64 (u : Nat)) (.int .u64 (v : Nat))
  go_wp2
  exact bodyPost_ret (v := .agg #[.int .u64 (u : Nat), .int .u64 (v : Nat)]) (by simp [results, Tryd.results19, go_sem, E0, E1]) rfl ⟨rfl, set2_below B9 (by first | exact Nat.le_refl _ | omega | (have := S4.out; have := Lb_4.out; have := Lz_4.out; have := S7.out; have := Lb_7.out; have := Lz_7.out; have := Lt_7.out; omega)) _ _⟩

set_option maxHeartbeats 1000000 in
theorem rstep_is (x y n m u v : Nat) (up : Bool) (hx : x < 18446744073709551616) (hy : y < 18446744073709551616) (hn : y + 18446744073709551616 * x = n) (hm : (if up then n + 1 else n - 1) = m) (h0 : up = false → n ≠ 0) (hl : m < 340282366920938463463374607431768211456) (hv : bv7 m = (u, v)) (w : World) : Calls Tryd.prog 53 #[.agg #[.int .u64 (x : Nat), .int .u64 (y : Nat)], .bool up] w fun r w' => r = .returned (.agg #[.int .u64 (u : Nat), .int .u64 (v : Nat)]) ∧ Below w.heap.size w w' := by
  have hat := cw_at 6
  have hz := cw6z
  have hff := cw6f
  have hs0 := st0
  have hcs : ∀ x, ((cw 6 x).size = 6) = True := fun x => eq_true (cw_size 6 x)
  have nQ : n < Q := lt_Q7 (k_lt hx hy hn)
  have K1 := box (rwofbits_is x y n hx hy hn)
  have K4 : Box (∀ w, Calls Tryd.prog 32 #[.int .u64 1] w fun r w' => r = .returned (.agg (cw 6 1)) ∧ Below w.heap.size w w') := box (fun w => rwof_any 1 (by omega) w)
  have mQ := lt_Q7 hl
  obtain ⟨u1, v1, uv⟩ := bv_lt hl hv
  have W01 := wd01 hl
  have hu : m / 18446744073709551616 = u ∧ m % 18446744073709551616 = v := by omega
  have K6 : Box (∀ w, Calls Tryd.prog 76 #[.agg (cw 6 m)] w fun r w' => r = .returned (.tuple #[.agg #[.int .u64 (u : Nat), .int .u64 (v : Nat)], .bool true]) ∧ Below w.heap.size w w') := box (fun w => by
    have h := rwtobits_yes m mQ (by rw [W01.1, W01.2]; omega) w
    rw [W01.1, W01.2, hu.1, hu.2] at h
    exact h)
  have Q1 : 1 < Q := lt_Q7 (by omega)
  cases up
  · have K5 : Box (∀ w, Calls Tryd.prog 78 #[.agg (cw 6 n), .agg (cw 6 1)] w fun r w' => r = .returned (.tuple #[.agg (cw 6 m), .bool false]) ∧ Below w.heap.size w w') := box (fun w => rwsub_is n 1 m false nQ Q1 (by
      have := h0 rfl
      have e : n + Q - 1 = m + Q := by simp only [Bool.false_eq_true, if_false] at hm; omega
      rw [e, Nat.add_mod_right, Nat.mod_eq_of_lt mQ]) (decide_eq_false (by have := h0 rfl; omega)) w)
    clear hx hy hn hm h0 hl hv nQ mQ u1 v1 uv W01 hu Q1
    have Rb_0 : ((w.alloc (Obj.cells #[.int .u64 (x : Nat), .int .u64 (y : Nat)] 25)).alloc (Obj.cells #[.int .u64 0, .int .u64 0] 25)).heap[w.heap.size]? = some (Obj.cells #[.int .u64 (x : Nat), .int .u64 (y : Nat)] 25) := by rw [heap_below _ _ _ (by simp only [size_al]; omega)]; have := heap_alloc_last w (Obj.cells #[.int .u64 (x : Nat), .int .u64 (y : Nat)] 25); simpa only [size_al] using this
    have Rz_0 : ((w.alloc (Obj.cells #[.int .u64 (x : Nat), .int .u64 (y : Nat)] 25)).alloc (Obj.cells #[.int .u64 0, .int .u64 0] 25)).heap[w.heap.size + 1]? = some (Obj.cells #[.int .u64 0, .int .u64 0] 25) := by have := heap_alloc_last (w.alloc (Obj.cells #[.int .u64 (x : Nat), .int .u64 (y : Nat)] 25)) (Obj.cells #[.int .u64 0, .int .u64 0] 25); simpa only [size_al] using this
    have B0 : Below w.heap.size w ((w.alloc (Obj.cells #[.int .u64 (x : Nat), .int .u64 (y : Nat)] 25)).alloc (Obj.cells #[.int .u64 0, .int .u64 0] 25)) := (((Below.refl _ _).alloc (by first | omega | (simp only [size_al]; omega)) _).alloc (by first | omega | (simp only [size_al]; omega)) _)
    go_enter Tryd.func53, Tryd.ntmps53
    go_wp2_with fail
    refine (K1.out _).mono ?_
    rintro r w1 ⟨rfl, b1⟩
    have B1 : Below w.heap.size w w1 := btr7 B0 b1
    have Rb_1 : w1.heap[w.heap.size]? = some (Obj.cells #[.int .u64 (x : Nat), .int .u64 (y : Nat)] 25) := heap_of b1 _ _ _ Rb_0
    have Rz_1 : w1.heap[w.heap.size + 1]? = some (Obj.cells #[.int .u64 0, .int .u64 0] 25) := heap_of b1 _ _ _ Rz_0
    clear b1 B0 Rb_0 Rz_0
    have cb_1_0 := cell7 Rb_1 0 _ rfl
    have cb_1_1 := cell7 Rb_1 1 _ rfl
    have cz_1_0 := cell7 Rz_1 0 _ rfl
    have cz_1_1 := cell7 Rz_1 1 _ rfl
    have S2 := box B1.size
    have Lb_2 : Box (w.heap.size < w1.heap.size) := box (Array.getElem?_eq_some_iff.1 Rb_1).1
    have Lz_2 : Box (w.heap.size + 1 < w1.heap.size) := box (Array.getElem?_eq_some_iff.1 Rz_1).1
    have B2 : Below w.heap.size w (w1.alloc (Obj.cells (cw 6 n) 28)) := btr7 B1 (bal7 _ _)
    have Rb_2 : (w1.alloc (Obj.cells (cw 6 n) 28)).heap[w.heap.size]? = some (Obj.cells #[.int .u64 (x : Nat), .int .u64 (y : Nat)] 25) := heap_of (bal7 _ _) _ _ _ Rb_1
    have Rz_2 : (w1.alloc (Obj.cells (cw 6 n) 28)).heap[w.heap.size + 1]? = some (Obj.cells #[.int .u64 0, .int .u64 0] 25) := heap_of (bal7 _ _) _ _ _ Rz_1
    have Rw_2 : (w1.alloc (Obj.cells (cw 6 n) 28)).heap[w1.heap.size]? = some (Obj.cells (cw 6 n) 28) := heap_alloc_last _ _
    clear B1 Rb_1 cb_1_0 cb_1_1 Rz_1 cz_1_0 cz_1_1
    have cb_2_0 := cell7 Rb_2 0 _ rfl
    have cb_2_1 := cell7 Rb_2 1 _ rfl
    have cz_2_0 := cell7 Rz_2 0 _ rfl
    have cz_2_1 := cell7 Rz_2 1 _ rfl
    have cw_2_0 := row_cell Rw_2
    obtain ⟨g, hg⟩ : ∃ g, w1.heap.size = g := ⟨_, rfl⟩
    have SL : Box (w.heap.size + 1 < g) := box (by rw [← hg]; exact Lz_2.out)
    obtain ⟨W0, hW0⟩ : ∃ W0, w1.alloc (Obj.cells (cw 6 n) 28) = W0 := ⟨_, rfl⟩
    rw [hW0, hg] at Rw_2
    rw [hW0] at Rz_2 B2
    have cw0 := row_cell Rw_2
    have Rw0 : W0.drew.heap[g]? = some (.cells (cw 6 n) 28) := Rw_2
    have Rz0 : W0.drew.heap[w.heap.size + 1]? = some (.cells #[.int .u64 0, .int .u64 0] 25) := Rz_2
    have B0 : Below w.heap.size w W0.drew := B2.drew
    clear cb_2_0 cb_2_1 cz_2_0 cz_2_1 cw_2_0 Rb_2
    go_wp2_with fail
    try rw [hg]
    try rw [hW0]
    clear hg hW0 S2 Lb_2 Lz_2
    go_region_with (first
      | (go_at_call 32; refine (K4.out _).mono ?_; rintro r w3 ⟨rfl, b3⟩; have R3 := heap_of b3 _ _ _ Rw0; have Z3 := heap_of b3 _ _ _ Rz0; have B3 := btr7 B0 b3; have c3 := row_cell R3)
      | (go_at_call 78; refine (K5.out _).mono ?_; rintro r w4 ⟨rfl, b4⟩; have R4 := heap_of b4 _ _ _ R3; have Z4 := heap_of b4 _ _ _ Z3; have B4 := btr7 B3 b4; have hst := st_any w4 g m n R4))
    all_goals
      have RW5 : (w4.setRow g (cw 6 m)).heap[g]? = some (.cells (cw 6 m) 28) := setRow_row R4
      have RZ5 : (w4.setRow g (cw 6 m)).heap[w.heap.size + 1]? = some (.cells #[.int .u64 0, .int .u64 0] 25) := by rw [setRow_other (by have := SL.out; omega)]; exact Z4
      have B5 := bel_set (c := cw 6 m) B4 (show w.heap.size ≤ g by have := SL.out; omega)
      clear R3 Z3 B3 c3 b3 R4 Z4 B4 b4 Rw0 Rz0 B0 cw0
      have c5 := row_cell RW5
      go_wp2_with fail
      refine (K6.out _).mono ?_
      rintro r w6 ⟨rfl, b6⟩
      have RZ6 := row_al (heap_of b6 _ _ _ RZ5) (.cells #[.int .u64 (u : Nat), .int .u64 (v : Nat)] 25)
      have B6 := bel_al (btr7 B5 b6) (.cells #[.int .u64 (u : Nat), .int .u64 (v : Nat)] 25)
      have q0 := fz (k := 0) RZ6
      have q1 := fz (k := 1) RZ6
      have d0 := cell7 RZ6 0 _ rfl
      have d1 := cell7 RZ6 1 _ rfl
      have r6 := cell7 (last7 w6 (.cells #[.int .u64 (u : Nat), .int .u64 (v : Nat)] 25)) 0 _ rfl
      have r7 := cell7 (last7 w6 (.cells #[.int .u64 (u : Nat), .int .u64 (v : Nat)] 25)) 1 _ rfl
      obtain ⟨E0, E1⟩ := set2_cells RZ6 (.int .u64 (u : Nat)) (.int .u64 (v : Nat))
      go_wp2
      exact bodyPost_ret (v := .agg #[.int .u64 (u : Nat), .int .u64 (v : Nat)]) (by simp [results, Tryd.results53, go_sem, E0, E1]) rfl ⟨rfl, set2_below B6 (by omega) _ _⟩
  · have K5 : Box (∀ w, Calls Tryd.prog 33 #[.agg (cw 6 n), .agg (cw 6 1)] w fun r w' => r = .returned (.tuple #[.agg (cw 6 m), .bool false]) ∧ Below w.heap.size w w') := box (fun w => rwadd_is n 1 m false nQ Q1 (by
      have e : n + 1 = m := by simpa using hm
      rw [e, Nat.mod_eq_of_lt mQ]) (decide_eq_false (by have e : n + 1 = m := by simpa using hm
                                                        omega)) w)
    clear hx hy hn hm h0 hl hv nQ mQ u1 v1 uv W01 hu Q1
    have Rb_0 : ((w.alloc (Obj.cells #[.int .u64 (x : Nat), .int .u64 (y : Nat)] 25)).alloc (Obj.cells #[.int .u64 0, .int .u64 0] 25)).heap[w.heap.size]? = some (Obj.cells #[.int .u64 (x : Nat), .int .u64 (y : Nat)] 25) := by rw [heap_below _ _ _ (by simp only [size_al]; omega)]; have := heap_alloc_last w (Obj.cells #[.int .u64 (x : Nat), .int .u64 (y : Nat)] 25); simpa only [size_al] using this
    have Rz_0 : ((w.alloc (Obj.cells #[.int .u64 (x : Nat), .int .u64 (y : Nat)] 25)).alloc (Obj.cells #[.int .u64 0, .int .u64 0] 25)).heap[w.heap.size + 1]? = some (Obj.cells #[.int .u64 0, .int .u64 0] 25) := by have := heap_alloc_last (w.alloc (Obj.cells #[.int .u64 (x : Nat), .int .u64 (y : Nat)] 25)) (Obj.cells #[.int .u64 0, .int .u64 0] 25); simpa only [size_al] using this
    have B0 : Below w.heap.size w ((w.alloc (Obj.cells #[.int .u64 (x : Nat), .int .u64 (y : Nat)] 25)).alloc (Obj.cells #[.int .u64 0, .int .u64 0] 25)) := (((Below.refl _ _).alloc (by first | omega | (simp only [size_al]; omega)) _).alloc (by first | omega | (simp only [size_al]; omega)) _)
    go_enter Tryd.func53, Tryd.ntmps53
    go_wp2_with fail
    refine (K1.out _).mono ?_
    rintro r w1 ⟨rfl, b1⟩
    have B1 : Below w.heap.size w w1 := btr7 B0 b1
    have Rb_1 : w1.heap[w.heap.size]? = some (Obj.cells #[.int .u64 (x : Nat), .int .u64 (y : Nat)] 25) := heap_of b1 _ _ _ Rb_0
    have Rz_1 : w1.heap[w.heap.size + 1]? = some (Obj.cells #[.int .u64 0, .int .u64 0] 25) := heap_of b1 _ _ _ Rz_0
    clear b1 B0 Rb_0 Rz_0
    have cb_1_0 := cell7 Rb_1 0 _ rfl
    have cb_1_1 := cell7 Rb_1 1 _ rfl
    have cz_1_0 := cell7 Rz_1 0 _ rfl
    have cz_1_1 := cell7 Rz_1 1 _ rfl
    have S2 := box B1.size
    have Lb_2 : Box (w.heap.size < w1.heap.size) := box (Array.getElem?_eq_some_iff.1 Rb_1).1
    have Lz_2 : Box (w.heap.size + 1 < w1.heap.size) := box (Array.getElem?_eq_some_iff.1 Rz_1).1
    have B2 : Below w.heap.size w (w1.alloc (Obj.cells (cw 6 n) 28)) := btr7 B1 (bal7 _ _)
    have Rb_2 : (w1.alloc (Obj.cells (cw 6 n) 28)).heap[w.heap.size]? = some (Obj.cells #[.int .u64 (x : Nat), .int .u64 (y : Nat)] 25) := heap_of (bal7 _ _) _ _ _ Rb_1
    have Rz_2 : (w1.alloc (Obj.cells (cw 6 n) 28)).heap[w.heap.size + 1]? = some (Obj.cells #[.int .u64 0, .int .u64 0] 25) := heap_of (bal7 _ _) _ _ _ Rz_1
    have Rw_2 : (w1.alloc (Obj.cells (cw 6 n) 28)).heap[w1.heap.size]? = some (Obj.cells (cw 6 n) 28) := heap_alloc_last _ _
    clear B1 Rb_1 cb_1_0 cb_1_1 Rz_1 cz_1_0 cz_1_1
    have cb_2_0 := cell7 Rb_2 0 _ rfl
    have cb_2_1 := cell7 Rb_2 1 _ rfl
    have cz_2_0 := cell7 Rz_2 0 _ rfl
    have cz_2_1 := cell7 Rz_2 1 _ rfl
    have cw_2_0 := row_cell Rw_2
    obtain ⟨g, hg⟩ : ∃ g, w1.heap.size = g := ⟨_, rfl⟩
    have SL : Box (w.heap.size + 1 < g) := box (by rw [← hg]; exact Lz_2.out)
    obtain ⟨W0, hW0⟩ : ∃ W0, w1.alloc (Obj.cells (cw 6 n) 28) = W0 := ⟨_, rfl⟩
    rw [hW0, hg] at Rw_2
    rw [hW0] at Rz_2 B2
    have cw0 := row_cell Rw_2
    have Rw0 : W0.drew.heap[g]? = some (.cells (cw 6 n) 28) := Rw_2
    have Rz0 : W0.drew.heap[w.heap.size + 1]? = some (.cells #[.int .u64 0, .int .u64 0] 25) := Rz_2
    have B0 : Below w.heap.size w W0.drew := B2.drew
    clear cb_2_0 cb_2_1 cz_2_0 cz_2_1 cw_2_0 Rb_2
    go_wp2_with fail
    try rw [hg]
    try rw [hW0]
    clear hg hW0 S2 Lb_2 Lz_2
    go_region_with (first
      | (go_at_call 32; refine (K4.out _).mono ?_; rintro r w3 ⟨rfl, b3⟩; have R3 := heap_of b3 _ _ _ Rw0; have Z3 := heap_of b3 _ _ _ Rz0; have B3 := btr7 B0 b3; have c3 := row_cell R3)
      | (go_at_call 33; refine (K5.out _).mono ?_; rintro r w4 ⟨rfl, b4⟩; have R4 := heap_of b4 _ _ _ R3; have Z4 := heap_of b4 _ _ _ Z3; have B4 := btr7 B3 b4; have hst := st_any w4 g m n R4))
    all_goals
      have RW5 : (w4.setRow g (cw 6 m)).heap[g]? = some (.cells (cw 6 m) 28) := setRow_row R4
      have RZ5 : (w4.setRow g (cw 6 m)).heap[w.heap.size + 1]? = some (.cells #[.int .u64 0, .int .u64 0] 25) := by rw [setRow_other (by have := SL.out; omega)]; exact Z4
      have B5 := bel_set (c := cw 6 m) B4 (show w.heap.size ≤ g by have := SL.out; omega)
      clear R3 Z3 B3 c3 b3 R4 Z4 B4 b4 Rw0 Rz0 B0 cw0
      have c5 := row_cell RW5
      go_wp2_with fail
      refine (K6.out _).mono ?_
      rintro r w6 ⟨rfl, b6⟩
      have RZ6 := row_al (heap_of b6 _ _ _ RZ5) (.cells #[.int .u64 (u : Nat), .int .u64 (v : Nat)] 25)
      have B6 := bel_al (btr7 B5 b6) (.cells #[.int .u64 (u : Nat), .int .u64 (v : Nat)] 25)
      have q0 := fz (k := 0) RZ6
      have q1 := fz (k := 1) RZ6
      have d0 := cell7 RZ6 0 _ rfl
      have d1 := cell7 RZ6 1 _ rfl
      have r6 := cell7 (last7 w6 (.cells #[.int .u64 (u : Nat), .int .u64 (v : Nat)] 25)) 0 _ rfl
      have r7 := cell7 (last7 w6 (.cells #[.int .u64 (u : Nat), .int .u64 (v : Nat)] 25)) 1 _ rfl
      obtain ⟨E0, E1⟩ := set2_cells RZ6 (.int .u64 (u : Nat)) (.int .u64 (v : Nat))
      go_wp2
      exact bodyPost_ret (v := .agg #[.int .u64 (u : Nat), .int .u64 (v : Nat)]) (by simp [results, Tryd.results53, go_sem, E0, E1]) rfl ⟨rfl, set2_below B6 (by omega) _ _⟩
end Go.Proofs.YtbjknklgkhhebaaDoor
