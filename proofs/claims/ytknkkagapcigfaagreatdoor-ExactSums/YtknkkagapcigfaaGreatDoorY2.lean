/-
  What the functions Word, Whole, Sign, Neg and Abs of the document's answer for layer 6 return.
-/
import Derived.Test.YtknkkagapcigfaaGreatDoorY1
namespace Go.Proofs.YtknkkagapcigfaaGreatDoor
open Go.RowKit WMath XMath

theorem mk_sign (k : Nat) (rb : Bool) (rn rd : Nat) (re : Int) (k0 : k ≠ 0) (hr : XMath.mk true k 1 0 = (⟨rb, rn, rd, re⟩, 0)) : rb = true ∧ XMath.mk false k 1 0 = (⟨false, rn, rd, re⟩, 0) := by
  unfold XMath.mk at hr ⊢
  rw [if_neg k0] at hr ⊢
  split at hr
  · rename_i h
    rw [if_pos h]
    injection hr with h1 h2
    injection h1 with a b c d
    subst a b c d
    exact ⟨rfl, rfl⟩
  · injection hr with h1 h2
    exact absurd h2 (by decide)
theorem rNeg_ok (b : Bool) (n d : Nat) (e : Int) (s t : ByteArray) (c : Bool) (hs : nbA n = s) (ht : nbA d = t) (hc : (XN.mk b n d e).can) (hr : (negX (XN.mk b n d e)).b = c) (w : World) : Calls Tryz.prog 12 #[.agg #[.bool b, .string s, .string t, .int .i64 e]] w fun r w' => r = .returned (.agg #[.bool c, .string s, .string t, .int .i64 e]) ∧ Below w.heap.size w w' := by
  have M1 := box (may_yes hs ht hc)
  rcases x_cases hs ht hc with ⟨n0, rfl, rfl, rfl, rfl, rfl⟩ | ⟨n0, e0⟩
  · have ec : c = false := by rw [← hr]; unfold negX; rw [if_pos n0]
    subst ec
    clear hs ht hc hr n0
    have Rx_0 : ((w.alloc (Obj.cells #[.bool false, .string ⟨#[]⟩, .string ⟨#[1]⟩, .int .i64 0] 24)).alloc (Obj.cells #[.bool false, .string ⟨#[]⟩, .string ⟨#[]⟩, .int .i64 0] 24)).heap[w.heap.size]? = some (Obj.cells #[.bool false, .string ⟨#[]⟩, .string ⟨#[1]⟩, .int .i64 0] 24) := by rw [heap_below _ _ _ (by simp only [size_al]; omega)]; have := heap_alloc_last w (Obj.cells #[.bool false, .string ⟨#[]⟩, .string ⟨#[1]⟩, .int .i64 0] 24); simpa only [size_al] using this
    have Rz_0 : ((w.alloc (Obj.cells #[.bool false, .string ⟨#[]⟩, .string ⟨#[1]⟩, .int .i64 0] 24)).alloc (Obj.cells #[.bool false, .string ⟨#[]⟩, .string ⟨#[]⟩, .int .i64 0] 24)).heap[w.heap.size + 1]? = some (Obj.cells #[.bool false, .string ⟨#[]⟩, .string ⟨#[]⟩, .int .i64 0] 24) := by have := heap_alloc_last (w.alloc (Obj.cells #[.bool false, .string ⟨#[]⟩, .string ⟨#[1]⟩, .int .i64 0] 24)) (Obj.cells #[.bool false, .string ⟨#[]⟩, .string ⟨#[]⟩, .int .i64 0] 24); simpa only [size_al] using this
    have B0 : Below w.heap.size w ((w.alloc (Obj.cells #[.bool false, .string ⟨#[]⟩, .string ⟨#[1]⟩, .int .i64 0] 24)).alloc (Obj.cells #[.bool false, .string ⟨#[]⟩, .string ⟨#[]⟩, .int .i64 0] 24)) := (((Below.refl _ _).alloc (by first | omega | (simp only [size_al]; omega)) _).alloc (by first | omega | (simp only [size_al]; omega)) _)
    go_enter Tryz.func12, Tryz.ntmps12
    go_wp2_with fail
    refine (xmayM _ _ _ _ true M1.out _).mono ?_
    rintro r w1 ⟨rfl, b1⟩
    have B1 : Below w.heap.size w w1 := btr B0 b1
    have Rx_1 : w1.heap[w.heap.size]? = some (Obj.cells #[.bool false, .string ⟨#[]⟩, .string ⟨#[1]⟩, .int .i64 0] 24) := heap_of b1 _ _ _ Rx_0
    have Rz_1 : w1.heap[w.heap.size + 1]? = some (Obj.cells #[.bool false, .string ⟨#[]⟩, .string ⟨#[]⟩, .int .i64 0] 24) := heap_of b1 _ _ _ Rz_0
    clear b1 B0 Rx_0 Rz_0
    have cx_1_0 := cells4 Rx_1 0 _ rfl
    have cx_1_1 := cells4 Rx_1 1 _ rfl
    have cx_1_2 := cells4 Rx_1 2 _ rfl
    have cx_1_3 := cells4 Rx_1 3 _ rfl
    have cz_1_0 := cells4 Rz_1 0 _ rfl
    have cz_1_1 := cells4 Rz_1 1 _ rfl
    have cz_1_2 := cells4 Rz_1 2 _ rfl
    have cz_1_3 := cells4 Rz_1 3 _ rfl
    have q0 := fz (k := 0) Rz_1
    have q1 := fz (k := 1) Rz_1
    have q2 := fz (k := 2) Rz_1
    have q3 := fz (k := 3) Rz_1
    obtain ⟨E0, E1, E2, E3⟩ := set4_cells Rz_1 rfl (.bool false) (.string ⟨#[]⟩) (.string ⟨#[1]⟩) (.int .i64 0)
    go_wp2
    exact bodyPost_ret (v := .agg #[.bool false, .string ⟨#[]⟩, .string ⟨#[1]⟩, .int .i64 0]) (by simp [results, Tryz.results12, go_sem, E0, E1, E2, E3]) rfl ⟨rfl, set4_below B1 (by first | exact Nat.le_refl _ | omega) _ _ _ _⟩
  · have ec : c = !b := by rw [← hr]; unfold negX; rw [if_neg n0]
    clear hs ht hc hr n0
    cases b
    · subst ec
      have Rx_0 : ((w.alloc (Obj.cells #[.bool false, .string s, .string t, .int .i64 e] 24)).alloc (Obj.cells #[.bool false, .string ⟨#[]⟩, .string ⟨#[]⟩, .int .i64 0] 24)).heap[w.heap.size]? = some (Obj.cells #[.bool false, .string s, .string t, .int .i64 e] 24) := by rw [heap_below _ _ _ (by simp only [size_al]; omega)]; have := heap_alloc_last w (Obj.cells #[.bool false, .string s, .string t, .int .i64 e] 24); simpa only [size_al] using this
      have Rz_0 : ((w.alloc (Obj.cells #[.bool false, .string s, .string t, .int .i64 e] 24)).alloc (Obj.cells #[.bool false, .string ⟨#[]⟩, .string ⟨#[]⟩, .int .i64 0] 24)).heap[w.heap.size + 1]? = some (Obj.cells #[.bool false, .string ⟨#[]⟩, .string ⟨#[]⟩, .int .i64 0] 24) := by have := heap_alloc_last (w.alloc (Obj.cells #[.bool false, .string s, .string t, .int .i64 e] 24)) (Obj.cells #[.bool false, .string ⟨#[]⟩, .string ⟨#[]⟩, .int .i64 0] 24); simpa only [size_al] using this
      have B0 : Below w.heap.size w ((w.alloc (Obj.cells #[.bool false, .string s, .string t, .int .i64 e] 24)).alloc (Obj.cells #[.bool false, .string ⟨#[]⟩, .string ⟨#[]⟩, .int .i64 0] 24)) := (((Below.refl _ _).alloc (by first | omega | (simp only [size_al]; omega)) _).alloc (by first | omega | (simp only [size_al]; omega)) _)
      go_enter Tryz.func12, Tryz.ntmps12
      go_wp2_with fail
      refine (xmayM _ _ _ _ true M1.out _).mono ?_
      rintro r w1 ⟨rfl, b1⟩
      have B1 : Below w.heap.size w w1 := btr B0 b1
      have Rx_1 : w1.heap[w.heap.size]? = some (Obj.cells #[.bool false, .string s, .string t, .int .i64 e] 24) := heap_of b1 _ _ _ Rx_0
      have Rz_1 : w1.heap[w.heap.size + 1]? = some (Obj.cells #[.bool false, .string ⟨#[]⟩, .string ⟨#[]⟩, .int .i64 0] 24) := heap_of b1 _ _ _ Rz_0
      clear b1 B0 Rx_0 Rz_0
      have cx_1_0 := cells4 Rx_1 0 _ rfl
      have cx_1_1 := cells4 Rx_1 1 _ rfl
      have cx_1_2 := cells4 Rx_1 2 _ rfl
      have cx_1_3 := cells4 Rx_1 3 _ rfl
      have cz_1_0 := cells4 Rz_1 0 _ rfl
      have cz_1_1 := cells4 Rz_1 1 _ rfl
      have cz_1_2 := cells4 Rz_1 2 _ rfl
      have cz_1_3 := cells4 Rz_1 3 _ rfl
      have qx_1 := fz (k := 0) Rx_1
      have B2 : Below w.heap.size w (w1.setCell ⟨w.heap.size, 0, none⟩ (.bool true)) := B1.setCell (by first | exact Nat.le_refl _ | (skip; show w.heap.size ≤ w.heap.size; omega)) _
      have Rx_2 : (w1.setCell ⟨w.heap.size, 0, none⟩ (.bool true)).heap[w.heap.size]? = some (Obj.cells #[.bool true, .string s, .string t, .int .i64 e] 24) := by rw [setCell_row Rx_1]; rfl
      have Rz_2 : (w1.setCell ⟨w.heap.size, 0, none⟩ (.bool true)).heap[w.heap.size + 1]? = some (Obj.cells #[.bool false, .string ⟨#[]⟩, .string ⟨#[]⟩, .int .i64 0] 24) := by rw [setCell_other (by first | omega | (skip; omega))]; exact Rz_1
      have cx_2_0 := cells4 Rx_2 0 _ rfl
      have cx_2_1 := cells4 Rx_2 1 _ rfl
      have cx_2_2 := cells4 Rx_2 2 _ rfl
      have cx_2_3 := cells4 Rx_2 3 _ rfl
      have cz_2_0 := cells4 Rz_2 0 _ rfl
      have cz_2_1 := cells4 Rz_2 1 _ rfl
      have cz_2_2 := cells4 Rz_2 2 _ rfl
      have cz_2_3 := cells4 Rz_2 3 _ rfl
      have q0 := fz (k := 0) Rz_2
      have q1 := fz (k := 1) Rz_2
      have q2 := fz (k := 2) Rz_2
      have q3 := fz (k := 3) Rz_2
      obtain ⟨E0, E1, E2, E3⟩ := set4_cells Rz_2 rfl (.bool true) (.string s) (.string t) (.int .i64 e)
      go_wp2
      exact bodyPost_ret (v := .agg #[.bool true, .string s, .string t, .int .i64 e]) (by simp [results, Tryz.results12, go_sem, E0, E1, E2, E3]) rfl ⟨rfl, set4_below B2 (by first | exact Nat.le_refl _ | omega) _ _ _ _⟩
    · subst ec
      have Rx_0 : ((w.alloc (Obj.cells #[.bool true, .string s, .string t, .int .i64 e] 24)).alloc (Obj.cells #[.bool false, .string ⟨#[]⟩, .string ⟨#[]⟩, .int .i64 0] 24)).heap[w.heap.size]? = some (Obj.cells #[.bool true, .string s, .string t, .int .i64 e] 24) := by rw [heap_below _ _ _ (by simp only [size_al]; omega)]; have := heap_alloc_last w (Obj.cells #[.bool true, .string s, .string t, .int .i64 e] 24); simpa only [size_al] using this
      have Rz_0 : ((w.alloc (Obj.cells #[.bool true, .string s, .string t, .int .i64 e] 24)).alloc (Obj.cells #[.bool false, .string ⟨#[]⟩, .string ⟨#[]⟩, .int .i64 0] 24)).heap[w.heap.size + 1]? = some (Obj.cells #[.bool false, .string ⟨#[]⟩, .string ⟨#[]⟩, .int .i64 0] 24) := by have := heap_alloc_last (w.alloc (Obj.cells #[.bool true, .string s, .string t, .int .i64 e] 24)) (Obj.cells #[.bool false, .string ⟨#[]⟩, .string ⟨#[]⟩, .int .i64 0] 24); simpa only [size_al] using this
      have B0 : Below w.heap.size w ((w.alloc (Obj.cells #[.bool true, .string s, .string t, .int .i64 e] 24)).alloc (Obj.cells #[.bool false, .string ⟨#[]⟩, .string ⟨#[]⟩, .int .i64 0] 24)) := (((Below.refl _ _).alloc (by first | omega | (simp only [size_al]; omega)) _).alloc (by first | omega | (simp only [size_al]; omega)) _)
      go_enter Tryz.func12, Tryz.ntmps12
      go_wp2_with fail
      refine (xmayM _ _ _ _ true M1.out _).mono ?_
      rintro r w1 ⟨rfl, b1⟩
      have B1 : Below w.heap.size w w1 := btr B0 b1
      have Rx_1 : w1.heap[w.heap.size]? = some (Obj.cells #[.bool true, .string s, .string t, .int .i64 e] 24) := heap_of b1 _ _ _ Rx_0
      have Rz_1 : w1.heap[w.heap.size + 1]? = some (Obj.cells #[.bool false, .string ⟨#[]⟩, .string ⟨#[]⟩, .int .i64 0] 24) := heap_of b1 _ _ _ Rz_0
      clear b1 B0 Rx_0 Rz_0
      have cx_1_0 := cells4 Rx_1 0 _ rfl
      have cx_1_1 := cells4 Rx_1 1 _ rfl
      have cx_1_2 := cells4 Rx_1 2 _ rfl
      have cx_1_3 := cells4 Rx_1 3 _ rfl
      have cz_1_0 := cells4 Rz_1 0 _ rfl
      have cz_1_1 := cells4 Rz_1 1 _ rfl
      have cz_1_2 := cells4 Rz_1 2 _ rfl
      have cz_1_3 := cells4 Rz_1 3 _ rfl
      have qx_1 := fz (k := 0) Rx_1
      have B2 : Below w.heap.size w (w1.setCell ⟨w.heap.size, 0, none⟩ (.bool false)) := B1.setCell (by first | exact Nat.le_refl _ | (skip; show w.heap.size ≤ w.heap.size; omega)) _
      have Rx_2 : (w1.setCell ⟨w.heap.size, 0, none⟩ (.bool false)).heap[w.heap.size]? = some (Obj.cells #[.bool false, .string s, .string t, .int .i64 e] 24) := by rw [setCell_row Rx_1]; rfl
      have Rz_2 : (w1.setCell ⟨w.heap.size, 0, none⟩ (.bool false)).heap[w.heap.size + 1]? = some (Obj.cells #[.bool false, .string ⟨#[]⟩, .string ⟨#[]⟩, .int .i64 0] 24) := by rw [setCell_other (by first | omega | (skip; omega))]; exact Rz_1
      have cx_2_0 := cells4 Rx_2 0 _ rfl
      have cx_2_1 := cells4 Rx_2 1 _ rfl
      have cx_2_2 := cells4 Rx_2 2 _ rfl
      have cx_2_3 := cells4 Rx_2 3 _ rfl
      have cz_2_0 := cells4 Rz_2 0 _ rfl
      have cz_2_1 := cells4 Rz_2 1 _ rfl
      have cz_2_2 := cells4 Rz_2 2 _ rfl
      have cz_2_3 := cells4 Rz_2 3 _ rfl
      have q0 := fz (k := 0) Rz_2
      have q1 := fz (k := 1) Rz_2
      have q2 := fz (k := 2) Rz_2
      have q3 := fz (k := 3) Rz_2
      obtain ⟨E0, E1, E2, E3⟩ := set4_cells Rz_2 rfl (.bool false) (.string s) (.string t) (.int .i64 e)
      go_wp2
      exact bodyPost_ret (v := .agg #[.bool false, .string s, .string t, .int .i64 e]) (by simp [results, Tryz.results12, go_sem, E0, E1, E2, E3]) rfl ⟨rfl, set4_below B2 (by first | exact Nat.le_refl _ | omega) _ _ _ _⟩
theorem rNeg_no (b : Bool) (e : Int) (s t : ByteArray) (h : ¬ MayX b s t e) (w : World) : Calls Tryz.prog 12 #[.agg #[.bool b, .string s, .string t, .int .i64 e]] w fun r w' => r = .returned (.agg #[.bool false, .string ⟨#[]⟩, .string ⟨#[]⟩, .int .i64 0]) ∧ Below w.heap.size w w' := by
  have M1 := box (may_no h)
  clear h
  have Rx_0 : ((w.alloc (Obj.cells #[.bool b, .string s, .string t, .int .i64 e] 24)).alloc (Obj.cells #[.bool false, .string ⟨#[]⟩, .string ⟨#[]⟩, .int .i64 0] 24)).heap[w.heap.size]? = some (Obj.cells #[.bool b, .string s, .string t, .int .i64 e] 24) := by rw [heap_below _ _ _ (by simp only [size_al]; omega)]; have := heap_alloc_last w (Obj.cells #[.bool b, .string s, .string t, .int .i64 e] 24); simpa only [size_al] using this
  have Rz_0 : ((w.alloc (Obj.cells #[.bool b, .string s, .string t, .int .i64 e] 24)).alloc (Obj.cells #[.bool false, .string ⟨#[]⟩, .string ⟨#[]⟩, .int .i64 0] 24)).heap[w.heap.size + 1]? = some (Obj.cells #[.bool false, .string ⟨#[]⟩, .string ⟨#[]⟩, .int .i64 0] 24) := by have := heap_alloc_last (w.alloc (Obj.cells #[.bool b, .string s, .string t, .int .i64 e] 24)) (Obj.cells #[.bool false, .string ⟨#[]⟩, .string ⟨#[]⟩, .int .i64 0] 24); simpa only [size_al] using this
  have B0 : Below w.heap.size w ((w.alloc (Obj.cells #[.bool b, .string s, .string t, .int .i64 e] 24)).alloc (Obj.cells #[.bool false, .string ⟨#[]⟩, .string ⟨#[]⟩, .int .i64 0] 24)) := (((Below.refl _ _).alloc (by first | omega | (simp only [size_al]; omega)) _).alloc (by first | omega | (simp only [size_al]; omega)) _)
  go_enter Tryz.func12, Tryz.ntmps12
  go_wp2_with fail
  refine (xmayM _ _ _ _ false M1.out _).mono ?_
  rintro r w1 ⟨rfl, b1⟩
  have B1 : Below w.heap.size w w1 := btr B0 b1
  have Rx_1 : w1.heap[w.heap.size]? = some (Obj.cells #[.bool b, .string s, .string t, .int .i64 e] 24) := heap_of b1 _ _ _ Rx_0
  have Rz_1 : w1.heap[w.heap.size + 1]? = some (Obj.cells #[.bool false, .string ⟨#[]⟩, .string ⟨#[]⟩, .int .i64 0] 24) := heap_of b1 _ _ _ Rz_0
  clear b1 B0 Rx_0 Rz_0
  have cx_1_0 := cells4 Rx_1 0 _ rfl
  have cx_1_1 := cells4 Rx_1 1 _ rfl
  have cx_1_2 := cells4 Rx_1 2 _ rfl
  have cx_1_3 := cells4 Rx_1 3 _ rfl
  have cz_1_0 := cells4 Rz_1 0 _ rfl
  have cz_1_1 := cells4 Rz_1 1 _ rfl
  have cz_1_2 := cells4 Rz_1 2 _ rfl
  have cz_1_3 := cells4 Rz_1 3 _ rfl
  have q0 := fz (k := 0) Rz_1
  have q1 := fz (k := 1) Rz_1
  have q2 := fz (k := 2) Rz_1
  have q3 := fz (k := 3) Rz_1
  obtain ⟨E0, E1, E2, E3⟩ := set4_cells Rz_1 rfl (.bool false) (.string ⟨#[]⟩) (.string ⟨#[]⟩) (.int .i64 0)
  go_wp2
  exact bodyPost_ret (v := .agg #[.bool false, .string ⟨#[]⟩, .string ⟨#[]⟩, .int .i64 0]) (by simp [results, Tryz.results12, go_sem, E0, E1, E2, E3]) rfl ⟨rfl, set4_below B1 (by first | exact Nat.le_refl _ | omega) _ _ _ _⟩
end Go.Proofs.YtknkkagapcigfaaGreatDoor
