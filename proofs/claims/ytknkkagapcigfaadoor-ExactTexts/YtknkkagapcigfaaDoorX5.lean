/-
  What the functions Make, ofWord, Word, Whole, sign, Sign, turned, Neg and Abs of package exact return.
-/
import Derived.Test.YtknkkagapcigfaaDoorX4
import Derived.Test.YtknkkagapcigfaaDoorX3m
namespace Go.Proofs.YtknkkagapcigfaaDoor
open Go.RowKit WMath XMath

theorem may_yes {b : Bool} {n d : Nat} {s t : ByteArray} {e : Int} (hs : nbA n = s) (ht : nbA d = t) (hc : (XN.mk b n d e).can) : IsM true b s t e := ⟨fun _ => ⟨n, d, hs, ht, hc⟩, fun _ => rfl⟩
theorem may_no {b : Bool} {s t : ByteArray} {e : Int} (h : ¬ MayX b s t e) : IsM false b s t e := ⟨fun h => absurd h (by decide), fun k => absurd k h⟩
theorem can_null {b : Bool} {n d : Nat} {e : Int} (hc : (XN.mk b n d e).can) (h0 : n = 0) : b = false ∧ d = 1 ∧ e = 0 := by
  have h := hc.null h0
  unfold X0 at h
  injection h with h1 h2 h3 h4
  exact ⟨h1, h3, h4⟩

theorem xz_is {rb : Bool} {rn rd : Nat} {re err : Int} (h : ((XZ, 4) : XN × Int) = (⟨rb, rn, rd, re⟩, err)) : rb = false ∧ rn = 0 ∧ rd = 0 ∧ re = 0 ∧ err = 4 := by
  injection h with h1 h2
  unfold XZ at h1
  injection h1 with a b c d
  exact ⟨a.symm, b.symm, c.symm, d.symm, h2.symm⟩

theorem x0_is {rb : Bool} {rn rd : Nat} {re err : Int} (h : ((X0, 0) : XN × Int) = (⟨rb, rn, rd, re⟩, err)) : rb = false ∧ rn = 0 ∧ rd = 1 ∧ re = 0 ∧ err = 0 := by
  injection h with h1 h2
  unfold X0 at h1
  injection h1 with a b c d
  exact ⟨a.symm, b.symm, c.symm, d.symm, h2.symm⟩
/-- A number that may be, and is not 0, is another one than 0, as values. -/
theorem x_cases {b : Bool} {n d : Nat} {e : Int} {s t : ByteArray} (hs : nbA n = s) (ht : nbA d = t) (hc : (XN.mk b n d e).can) : (n = 0 ∧ b = false ∧ s = ⟨#[]⟩ ∧ t = ⟨#[1]⟩ ∧ d = 1 ∧ e = 0) ∨ (n ≠ 0 ∧ (s.toList == []) = false) := by
  by_cases h0 : n = 0
  · obtain ⟨h1, h2, h3⟩ := can_null hc h0
    subst h0 h2
    exact Or.inl ⟨rfl, h1, by rw [← hs, nbA_zero], by rw [← ht, nb1], rfl, h3⟩
  · exact Or.inr ⟨h0, eq_nil n s hs h0⟩

set_option maxRecDepth 100000 in
set_option maxHeartbeats 1000000 in
theorem makex_ok (neg : Bool) (n d : Nat) (e : Int) (s t : ByteArray) (rb : Bool) (rn rd : Nat) (re err : Int) (u v : ByteArray) (hs : nbA n = s) (ht : nbA d = t) (ln : nl n ≤ 16384) (ld : nl d ≤ 16384) (d0 : d ≠ 0) (he1 : -1048576 ≤ e) (he2 : e ≤ 1048576)
    (hr : XMath.mk neg n d e = (⟨rb, rn, rd, re⟩, err)) (hu : nbA rn = u) (hv : nbA rd = v) (w : World) (hT : TabAt w) :
    Calls Tryd.prog 9 #[.bool neg, .string s, .string t, .int .i64 e] w fun r w' => r = .returned (.tuple #[.agg #[.bool rb, .string u, .string v, .int .i64 re], .int .i64 err]) ∧ Below w.heap.size w w' := by
  have e0 := eq_nil d t ht d0
  have H1 : Box (mayB s = true) := box (by rw [← hs]; exact mayB_nb n ln)
  have H2 : Box (mayB t = true) := box (by rw [← ht]; exact mayB_nb d ld)
  have HG : Box ((decide (-1048576 ≤ e) && decide (e ≤ 1048576)) = true) := box (by rw [decide_eq_true he1, decide_eq_true he2]; rfl)
  have HF := box (fun w hT => formx neg n d e s t rb rn rd re err u v hs ht ln ld d0 (by omega) (by omega) hr hu hv w hT)
  have TT := box hT
  clear hs ht ln ld d0 he1 he2 hr hu hv hT
  have Rz_0 : (w.alloc (Obj.cells #[.bool false, .string ⟨#[]⟩, .string ⟨#[]⟩, .int .i64 0] 24)).heap[w.heap.size]? = some (Obj.cells #[.bool false, .string ⟨#[]⟩, .string ⟨#[]⟩, .int .i64 0] 24) := by have := heap_alloc_last w (Obj.cells #[.bool false, .string ⟨#[]⟩, .string ⟨#[]⟩, .int .i64 0] 24); simpa only [size_al] using this
  have B0 : Below w.heap.size w (w.alloc (Obj.cells #[.bool false, .string ⟨#[]⟩, .string ⟨#[]⟩, .int .i64 0] 24)) := ((Below.refl _ _).alloc (by first | omega | (simp only [size_al]; omega)) _)
  go_enter Tryd.func9, Tryd.ntmps9
  go_wp2_with fail
  refine (n_check s true H1.out _).mono ?_
  rintro r w' ⟨rfl, rfl⟩
  go_wp2_with fail
  refine (n_check t true H2.out _).mono ?_
  rintro r w' ⟨rfl, rfl⟩
  go_wp2_with fail
  refine (withinx e 1048576 true (by decide) (by decide) HG.out _).mono ?_
  rintro r w1 ⟨rfl, b1⟩
  have B1 : Below w.heap.size w w1 := btr B0 b1
  have Rz_1 : w1.heap[w.heap.size]? = some (Obj.cells #[.bool false, .string ⟨#[]⟩, .string ⟨#[]⟩, .int .i64 0] 24) := heap_of b1 _ _ _ Rz_0
  clear b1 B0 Rz_0
  have cz_1_0 := cells4 Rz_1 0 _ rfl
  have cz_1_1 := cells4 Rz_1 1 _ rfl
  have cz_1_2 := cells4 Rz_1 2 _ rfl
  have cz_1_3 := cells4 Rz_1 3 _ rfl
  go_wp2_with fail
  refine (HF.out _ (tabB TT.out B1)).mono ?_
  rintro r w2 ⟨rfl, b2⟩
  have B2 : Below w.heap.size w w2 := btr B1 b2
  have Rz_2 : w2.heap[w.heap.size]? = some (Obj.cells #[.bool false, .string ⟨#[]⟩, .string ⟨#[]⟩, .int .i64 0] 24) := heap_of b2 _ _ _ Rz_1
  clear b2 B1 Rz_1 cz_1_0 cz_1_1 cz_1_2 cz_1_3
  have cz_2_0 := cells4 Rz_2 0 _ rfl
  have cz_2_1 := cells4 Rz_2 1 _ rfl
  have cz_2_2 := cells4 Rz_2 2 _ rfl
  have cz_2_3 := cells4 Rz_2 3 _ rfl
  have q0 := fz (k := 0) Rz_2
  have q1 := fz (k := 1) Rz_2
  have q2 := fz (k := 2) Rz_2
  have q3 := fz (k := 3) Rz_2
  obtain ⟨E0, E1, E2, E3⟩ := set4_cells Rz_2 rfl (.bool rb) (.string u) (.string v) (.int .i64 re)
  go_wp2
  exact bodyPost_ret (v := .tuple #[.agg #[.bool rb, .string u, .string v, .int .i64 re], .int .i64 err]) (by simp [results, Tryd.results9, go_sem, E0, E1, E2, E3]) rfl ⟨rfl, set4_below B2 (by first | exact Nat.le_refl _ | omega) _ _ _ _⟩

set_option maxRecDepth 100000 in
set_option maxHeartbeats 1000000 in
theorem makex_no (neg : Bool) (s t : ByteArray) (e : Int) (h : mayB s = false ∨ mayB t = false ∨ t.size = 0 ∨ e < -1048576 ∨ 1048576 < e) (w : World) :
    Calls Tryd.prog 9 #[.bool neg, .string s, .string t, .int .i64 e] w fun r w' => r = .returned (.tuple #[.agg #[.bool false, .string ⟨#[]⟩, .string ⟨#[]⟩, .int .i64 0], .int .i64 2]) ∧ Below w.heap.size w w' := by
  have e0 := eq_empty t
  cases hm1 : mayB s
  · have H1 := box hm1
    clear hm1 h e0
    have Rz_0 : (w.alloc (Obj.cells #[.bool false, .string ⟨#[]⟩, .string ⟨#[]⟩, .int .i64 0] 24)).heap[w.heap.size]? = some (Obj.cells #[.bool false, .string ⟨#[]⟩, .string ⟨#[]⟩, .int .i64 0] 24) := by have := heap_alloc_last w (Obj.cells #[.bool false, .string ⟨#[]⟩, .string ⟨#[]⟩, .int .i64 0] 24); simpa only [size_al] using this
    have B0 : Below w.heap.size w (w.alloc (Obj.cells #[.bool false, .string ⟨#[]⟩, .string ⟨#[]⟩, .int .i64 0] 24)) := ((Below.refl _ _).alloc (by first | omega | (simp only [size_al]; omega)) _)
    go_enter Tryd.func9, Tryd.ntmps9
    go_wp2_with fail
    refine (n_check s false H1.out _).mono ?_
    rintro r w' ⟨rfl, rfl⟩
    clear B0 Rz_0
    go_wp2
    exact bodyPost_ret (v := .tuple #[.agg #[.bool false, .string ⟨#[]⟩, .string ⟨#[]⟩, .int .i64 0], .int .i64 2]) (by simp [results, Tryd.results9, go_sem]) rfl ⟨rfl, ((Below.refl _ _).alloc (by first | omega | (simp only [size_al]; omega)) _)⟩
  cases hm2 : mayB t
  · have H1 := box hm1
    have H2 := box hm2
    clear hm1 hm2 h e0
    have Rz_0 : (w.alloc (Obj.cells #[.bool false, .string ⟨#[]⟩, .string ⟨#[]⟩, .int .i64 0] 24)).heap[w.heap.size]? = some (Obj.cells #[.bool false, .string ⟨#[]⟩, .string ⟨#[]⟩, .int .i64 0] 24) := by have := heap_alloc_last w (Obj.cells #[.bool false, .string ⟨#[]⟩, .string ⟨#[]⟩, .int .i64 0] 24); simpa only [size_al] using this
    have B0 : Below w.heap.size w (w.alloc (Obj.cells #[.bool false, .string ⟨#[]⟩, .string ⟨#[]⟩, .int .i64 0] 24)) := ((Below.refl _ _).alloc (by first | omega | (simp only [size_al]; omega)) _)
    go_enter Tryd.func9, Tryd.ntmps9
    go_wp2_with fail
    refine (n_check s true H1.out _).mono ?_
    rintro r w' ⟨rfl, rfl⟩
    go_wp2_with fail
    refine (n_check t false H2.out _).mono ?_
    rintro r w' ⟨rfl, rfl⟩
    clear B0 Rz_0
    go_wp2
    exact bodyPost_ret (v := .tuple #[.agg #[.bool false, .string ⟨#[]⟩, .string ⟨#[]⟩, .int .i64 0], .int .i64 2]) (by simp [results, Tryd.results9, go_sem]) rfl ⟨rfl, ((Below.refl _ _).alloc (by first | omega | (simp only [size_al]; omega)) _)⟩
  have H1 := box hm1
  have H2 := box hm2
  by_cases hz : t.size = 0
  · rw [decide_eq_true hz] at e0
    clear hm1 hm2 h hz
    have Rz_0 : (w.alloc (Obj.cells #[.bool false, .string ⟨#[]⟩, .string ⟨#[]⟩, .int .i64 0] 24)).heap[w.heap.size]? = some (Obj.cells #[.bool false, .string ⟨#[]⟩, .string ⟨#[]⟩, .int .i64 0] 24) := by have := heap_alloc_last w (Obj.cells #[.bool false, .string ⟨#[]⟩, .string ⟨#[]⟩, .int .i64 0] 24); simpa only [size_al] using this
    have B0 : Below w.heap.size w (w.alloc (Obj.cells #[.bool false, .string ⟨#[]⟩, .string ⟨#[]⟩, .int .i64 0] 24)) := ((Below.refl _ _).alloc (by first | omega | (simp only [size_al]; omega)) _)
    go_enter Tryd.func9, Tryd.ntmps9
    go_wp2_with fail
    refine (n_check s true H1.out _).mono ?_
    rintro r w' ⟨rfl, rfl⟩
    go_wp2_with fail
    refine (n_check t true H2.out _).mono ?_
    rintro r w' ⟨rfl, rfl⟩
    clear B0 Rz_0
    go_wp2
    exact bodyPost_ret (v := .tuple #[.agg #[.bool false, .string ⟨#[]⟩, .string ⟨#[]⟩, .int .i64 0], .int .i64 2]) (by simp [results, Tryd.results9, go_sem]) rfl ⟨rfl, ((Below.refl _ _).alloc (by first | omega | (simp only [size_al]; omega)) _)⟩
  · rw [decide_eq_false hz] at e0
    have HG : Box ((decide (-1048576 ≤ e) && decide (e ≤ 1048576)) = false) := box (by
      rw [Bool.eq_false_iff]
      intro k
      have k2 : -1048576 ≤ e ∧ e ≤ 1048576 := by simpa using k
      rcases h with h | h | h | h | h
      · rw [hm1] at h; exact absurd h (by decide)
      · rw [hm2] at h; exact absurd h (by decide)
      · exact hz h
      · omega
      · omega)
    clear hm1 hm2 h hz
    have Rz_0 : (w.alloc (Obj.cells #[.bool false, .string ⟨#[]⟩, .string ⟨#[]⟩, .int .i64 0] 24)).heap[w.heap.size]? = some (Obj.cells #[.bool false, .string ⟨#[]⟩, .string ⟨#[]⟩, .int .i64 0] 24) := by have := heap_alloc_last w (Obj.cells #[.bool false, .string ⟨#[]⟩, .string ⟨#[]⟩, .int .i64 0] 24); simpa only [size_al] using this
    have B0 : Below w.heap.size w (w.alloc (Obj.cells #[.bool false, .string ⟨#[]⟩, .string ⟨#[]⟩, .int .i64 0] 24)) := ((Below.refl _ _).alloc (by first | omega | (simp only [size_al]; omega)) _)
    go_enter Tryd.func9, Tryd.ntmps9
    go_wp2_with fail
    refine (n_check s true H1.out _).mono ?_
    rintro r w' ⟨rfl, rfl⟩
    go_wp2_with fail
    refine (n_check t true H2.out _).mono ?_
    rintro r w' ⟨rfl, rfl⟩
    go_wp2_with fail
    refine (withinx e 1048576 false (by decide) (by decide) HG.out _).mono ?_
    rintro r w1 ⟨rfl, b1⟩
    have B1 : Below w.heap.size w w1 := btr B0 b1
    have Rz_1 : w1.heap[w.heap.size]? = some (Obj.cells #[.bool false, .string ⟨#[]⟩, .string ⟨#[]⟩, .int .i64 0] 24) := heap_of b1 _ _ _ Rz_0
    clear b1 B0 Rz_0
    have cz_1_0 := cells4 Rz_1 0 _ rfl
    have cz_1_1 := cells4 Rz_1 1 _ rfl
    have cz_1_2 := cells4 Rz_1 2 _ rfl
    have cz_1_3 := cells4 Rz_1 3 _ rfl
    have q0 := fz (k := 0) Rz_1
    have q1 := fz (k := 1) Rz_1
    have q2 := fz (k := 2) Rz_1
    have q3 := fz (k := 3) Rz_1
    obtain ⟨E0, E1, E2, E3⟩ := set4_cells Rz_1 rfl (.bool false) (.string ⟨#[]⟩) (.string ⟨#[]⟩) (.int .i64 0)
    go_wp2
    exact bodyPost_ret (v := .tuple #[.agg #[.bool false, .string ⟨#[]⟩, .string ⟨#[]⟩, .int .i64 0], .int .i64 2]) (by simp [results, Tryd.results9, go_sem, E0, E1, E2, E3]) rfl ⟨rfl, set4_below B1 (by first | exact Nat.le_refl _ | omega) _ _ _ _⟩

end Go.Proofs.YtknkkagapcigfaaDoor
