/-
  What the functions turned, Neg, Abs, ofWord, Word and Whole of package exact return.
-/
import Derived.Test.YtknkkagapcigfaaGreatDoorX5
namespace Go.Proofs.YtknkkagapcigfaaGreatDoor
open Go.RowKit WMath XMath

set_option maxRecDepth 100000 in
set_option maxHeartbeats 1000000 in
theorem turnedx (b : Bool) (n d : Nat) (e : Int) (s t : ByteArray) (c : Bool) (hs : nbA n = s) (ht : nbA d = t) (hc : (XN.mk b n d e).can) (hr : (negX (XN.mk b n d e)).b = c) (w : World) : Calls Tryz.prog 21 #[.agg #[.bool b, .string s, .string t, .int .i64 e]] w fun r w' => r = .returned (.agg #[.bool c, .string s, .string t, .int .i64 e]) ∧ Below w.heap.size w w' := by
  by_cases h0 : n = 0
  · obtain ⟨rfl, rfl, rfl⟩ := can_null hc h0
    subst h0
    rw [nbA_zero] at hs
    rw [nb1] at ht
    subst hs ht
    have ec : c = false := by rw [← hr]; rfl
    subst ec
    clear hr hc
    have Rx_0 : ((w.alloc (Obj.cells #[.bool false, .string ⟨#[]⟩, .string ⟨#[1]⟩, .int .i64 0] 24)).alloc (Obj.cells #[.bool false, .string ⟨#[]⟩, .string ⟨#[]⟩, .int .i64 0] 24)).heap[w.heap.size]? = some (Obj.cells #[.bool false, .string ⟨#[]⟩, .string ⟨#[1]⟩, .int .i64 0] 24) := by rw [heap_below _ _ _ (by simp only [size_al]; omega)]; have := heap_alloc_last w (Obj.cells #[.bool false, .string ⟨#[]⟩, .string ⟨#[1]⟩, .int .i64 0] 24); simpa only [size_al] using this
    have Rz_0 : ((w.alloc (Obj.cells #[.bool false, .string ⟨#[]⟩, .string ⟨#[1]⟩, .int .i64 0] 24)).alloc (Obj.cells #[.bool false, .string ⟨#[]⟩, .string ⟨#[]⟩, .int .i64 0] 24)).heap[w.heap.size + 1]? = some (Obj.cells #[.bool false, .string ⟨#[]⟩, .string ⟨#[]⟩, .int .i64 0] 24) := by have := heap_alloc_last (w.alloc (Obj.cells #[.bool false, .string ⟨#[]⟩, .string ⟨#[1]⟩, .int .i64 0] 24)) (Obj.cells #[.bool false, .string ⟨#[]⟩, .string ⟨#[]⟩, .int .i64 0] 24); simpa only [size_al] using this
    have B0 : Below w.heap.size w ((w.alloc (Obj.cells #[.bool false, .string ⟨#[]⟩, .string ⟨#[1]⟩, .int .i64 0] 24)).alloc (Obj.cells #[.bool false, .string ⟨#[]⟩, .string ⟨#[]⟩, .int .i64 0] 24)) := (((Below.refl _ _).alloc (by first | omega | (simp only [size_al]; omega)) _).alloc (by first | omega | (simp only [size_al]; omega)) _)
    go_enter Tryz.func21, Tryz.ntmps21
    go_wp2_with fail
    obtain ⟨F, hF1, hF2⟩ := below_fun ((w.alloc (Obj.cells #[.bool false, .string ⟨#[]⟩, .string ⟨#[1]⟩, .int .i64 0] 24)).alloc (Obj.cells #[.bool false, .string ⟨#[]⟩, .string ⟨#[]⟩, .int .i64 0] 24))
    have fx_0 := fun u => cells4 (heap_of (hF1 u) _ _ _ Rx_0) 0 _ rfl
    have fx_1 := fun u => cells4 (heap_of (hF1 u) _ _ _ Rx_0) 1 _ rfl
    have fx_2 := fun u => cells4 (heap_of (hF1 u) _ _ _ Rx_0) 2 _ rfl
    have fx_3 := fun u => cells4 (heap_of (hF1 u) _ _ _ Rx_0) 3 _ rfl
    have fz_0 := fun u => cells4 (heap_of (hF1 u) _ _ _ Rz_0) 0 _ rfl
    have fz_1 := fun u => cells4 (heap_of (hF1 u) _ _ _ Rz_0) 1 _ rfl
    have fz_2 := fun u => cells4 (heap_of (hF1 u) _ _ _ Rz_0) 2 _ rfl
    have fz_3 := fun u => cells4 (heap_of (hF1 u) _ _ _ Rz_0) 3 _ rfl
    refine wp_region_below F hF2 (by kernel_rfl) (by kernel_rfl) ?_
    repeat first | go_big_quiet_step (first | (go_at_call 37; exact quietF hF1 hF2 (zerox _)) | fail) | quiet_step (first | (go_at_call 37; exact quietF hF1 hF2 (zerox _)) | fail)
    refine wpQuiet_nil ?_
    rintro _ ⟨uW, rfl⟩
    have B1 := btr B0 (hF1 uW)
    have Rx_1 := heap_of (hF1 uW) _ _ _ Rx_0
    have Rz_1 := heap_of (hF1 uW) _ _ _ Rz_0
    obtain ⟨w1, hw⟩ : ∃ V, F uW = V := ⟨_, rfl⟩
    rw [hw] at B1 Rx_1 Rz_1
    try rw [hw]
    clear hw hF1 hF2 B0 fx_0 fx_1 fx_2 fx_3 fz_0 fz_1 fz_2 fz_3 Rx_0 Rz_0
    clear F
    have cx_1_0 := cells4 Rx_1 0 _ rfl
    have cx_1_1 := cells4 Rx_1 1 _ rfl
    have cx_1_2 := cells4 Rx_1 2 _ rfl
    have cx_1_3 := cells4 Rx_1 3 _ rfl
    have cz_1_0 := cells4 Rz_1 0 _ rfl
    have cz_1_1 := cells4 Rz_1 1 _ rfl
    have cz_1_2 := cells4 Rz_1 2 _ rfl
    have cz_1_3 := cells4 Rz_1 3 _ rfl
    have q0 := fz (k := 0) Rz_1
    have q1 := fz (k := 1) Rz_1
    have q2 := fz (k := 2) Rz_1
    have q3 := fz (k := 3) Rz_1
    obtain ⟨E0, E1, E2, E3⟩ := set4_cells Rz_1 rfl (.bool false) (.string ⟨#[]⟩) (.string ⟨#[1]⟩) (.int .i64 0)
    go_wp2
    exact bodyPost_ret (v := .agg #[.bool false, .string ⟨#[]⟩, .string ⟨#[1]⟩, .int .i64 0]) (by simp [results, Tryz.results21, go_sem, E0, E1, E2, E3]) rfl ⟨rfl, set4_below B1 (by first | exact Nat.le_refl _ | omega) _ _ _ _⟩
  · have e0 := eq_nil n s hs h0
    have ec : c = !b := by rw [← hr]; unfold negX; rw [if_neg h0]
    clear hr hc hs ht h0
    cases b
    · subst ec
      have Rx_0 : ((w.alloc (Obj.cells #[.bool false, .string s, .string t, .int .i64 e] 24)).alloc (Obj.cells #[.bool false, .string ⟨#[]⟩, .string ⟨#[]⟩, .int .i64 0] 24)).heap[w.heap.size]? = some (Obj.cells #[.bool false, .string s, .string t, .int .i64 e] 24) := by rw [heap_below _ _ _ (by simp only [size_al]; omega)]; have := heap_alloc_last w (Obj.cells #[.bool false, .string s, .string t, .int .i64 e] 24); simpa only [size_al] using this
      have Rz_0 : ((w.alloc (Obj.cells #[.bool false, .string s, .string t, .int .i64 e] 24)).alloc (Obj.cells #[.bool false, .string ⟨#[]⟩, .string ⟨#[]⟩, .int .i64 0] 24)).heap[w.heap.size + 1]? = some (Obj.cells #[.bool false, .string ⟨#[]⟩, .string ⟨#[]⟩, .int .i64 0] 24) := by have := heap_alloc_last (w.alloc (Obj.cells #[.bool false, .string s, .string t, .int .i64 e] 24)) (Obj.cells #[.bool false, .string ⟨#[]⟩, .string ⟨#[]⟩, .int .i64 0] 24); simpa only [size_al] using this
      have B0 : Below w.heap.size w ((w.alloc (Obj.cells #[.bool false, .string s, .string t, .int .i64 e] 24)).alloc (Obj.cells #[.bool false, .string ⟨#[]⟩, .string ⟨#[]⟩, .int .i64 0] 24)) := (((Below.refl _ _).alloc (by first | omega | (simp only [size_al]; omega)) _).alloc (by first | omega | (simp only [size_al]; omega)) _)
      go_enter Tryz.func21, Tryz.ntmps21
      go_wp2_with fail
      obtain ⟨F, hF1, hF2⟩ := below_fun ((w.alloc (Obj.cells #[.bool false, .string s, .string t, .int .i64 e] 24)).alloc (Obj.cells #[.bool false, .string ⟨#[]⟩, .string ⟨#[]⟩, .int .i64 0] 24))
      have fx_0 := fun u => cells4 (heap_of (hF1 u) _ _ _ Rx_0) 0 _ rfl
      have fx_1 := fun u => cells4 (heap_of (hF1 u) _ _ _ Rx_0) 1 _ rfl
      have fx_2 := fun u => cells4 (heap_of (hF1 u) _ _ _ Rx_0) 2 _ rfl
      have fx_3 := fun u => cells4 (heap_of (hF1 u) _ _ _ Rx_0) 3 _ rfl
      have fz_0 := fun u => cells4 (heap_of (hF1 u) _ _ _ Rz_0) 0 _ rfl
      have fz_1 := fun u => cells4 (heap_of (hF1 u) _ _ _ Rz_0) 1 _ rfl
      have fz_2 := fun u => cells4 (heap_of (hF1 u) _ _ _ Rz_0) 2 _ rfl
      have fz_3 := fun u => cells4 (heap_of (hF1 u) _ _ _ Rz_0) 3 _ rfl
      refine wp_region_below F hF2 (by kernel_rfl) (by kernel_rfl) ?_
      repeat first | go_big_quiet_step (first | (go_at_call 37; exact quietF hF1 hF2 (zerox _)) | fail) | quiet_step (first | (go_at_call 37; exact quietF hF1 hF2 (zerox _)) | fail)
      refine wpQuiet_nil ?_
      rintro _ ⟨uW, rfl⟩
      have B1 := btr B0 (hF1 uW)
      have Rx_1 := heap_of (hF1 uW) _ _ _ Rx_0
      have Rz_1 := heap_of (hF1 uW) _ _ _ Rz_0
      obtain ⟨w1, hw⟩ : ∃ V, F uW = V := ⟨_, rfl⟩
      rw [hw] at B1 Rx_1 Rz_1
      try rw [hw]
      clear hw hF1 hF2 B0 fx_0 fx_1 fx_2 fx_3 fz_0 fz_1 fz_2 fz_3 Rx_0 Rz_0
      clear F
      have cx_1_0 := cells4 Rx_1 0 _ rfl
      have cx_1_1 := cells4 Rx_1 1 _ rfl
      have cx_1_2 := cells4 Rx_1 2 _ rfl
      have cx_1_3 := cells4 Rx_1 3 _ rfl
      have cz_1_0 := cells4 Rz_1 0 _ rfl
      have cz_1_1 := cells4 Rz_1 1 _ rfl
      have cz_1_2 := cells4 Rz_1 2 _ rfl
      have cz_1_3 := cells4 Rz_1 3 _ rfl
      have qx_1 := fz (k := 0) Rx_1
      have B2 : Below w.heap.size w (w1.setCell ⟨w.heap.size, 0, none⟩ (.bool true)) := B1.setCell (by first | exact Nat.le_refl _ | (skip; show w.heap.size ≤ w.heap.size; omega)) _
      have Rx_2 : (w1.setCell ⟨w.heap.size, 0, none⟩ (.bool true)).heap[w.heap.size]? = some (Obj.cells #[.bool true, .string s, .string t, .int .i64 e] 24) := by rw [setCell_row Rx_1]; rfl
      have Rz_2 : (w1.setCell ⟨w.heap.size, 0, none⟩ (.bool true)).heap[w.heap.size + 1]? = some (Obj.cells #[.bool false, .string ⟨#[]⟩, .string ⟨#[]⟩, .int .i64 0] 24) := by rw [setCell_other (by first | omega | (skip; omega))]; exact Rz_1
      have cx_2_0 := cells4 Rx_2 0 _ rfl
      have cx_2_1 := cells4 Rx_2 1 _ rfl
      have cx_2_2 := cells4 Rx_2 2 _ rfl
      have cx_2_3 := cells4 Rx_2 3 _ rfl
      have cz_2_0 := cells4 Rz_2 0 _ rfl
      have cz_2_1 := cells4 Rz_2 1 _ rfl
      have cz_2_2 := cells4 Rz_2 2 _ rfl
      have cz_2_3 := cells4 Rz_2 3 _ rfl
      have q0 := fz (k := 0) Rz_2
      have q1 := fz (k := 1) Rz_2
      have q2 := fz (k := 2) Rz_2
      have q3 := fz (k := 3) Rz_2
      obtain ⟨E0, E1, E2, E3⟩ := set4_cells Rz_2 rfl (.bool true) (.string s) (.string t) (.int .i64 e)
      go_wp2
      exact bodyPost_ret (v := .agg #[.bool true, .string s, .string t, .int .i64 e]) (by simp [results, Tryz.results21, go_sem, E0, E1, E2, E3]) rfl ⟨rfl, set4_below B2 (by first | exact Nat.le_refl _ | omega) _ _ _ _⟩
    · subst ec
      have Rx_0 : ((w.alloc (Obj.cells #[.bool true, .string s, .string t, .int .i64 e] 24)).alloc (Obj.cells #[.bool false, .string ⟨#[]⟩, .string ⟨#[]⟩, .int .i64 0] 24)).heap[w.heap.size]? = some (Obj.cells #[.bool true, .string s, .string t, .int .i64 e] 24) := by rw [heap_below _ _ _ (by simp only [size_al]; omega)]; have := heap_alloc_last w (Obj.cells #[.bool true, .string s, .string t, .int .i64 e] 24); simpa only [size_al] using this
      have Rz_0 : ((w.alloc (Obj.cells #[.bool true, .string s, .string t, .int .i64 e] 24)).alloc (Obj.cells #[.bool false, .string ⟨#[]⟩, .string ⟨#[]⟩, .int .i64 0] 24)).heap[w.heap.size + 1]? = some (Obj.cells #[.bool false, .string ⟨#[]⟩, .string ⟨#[]⟩, .int .i64 0] 24) := by have := heap_alloc_last (w.alloc (Obj.cells #[.bool true, .string s, .string t, .int .i64 e] 24)) (Obj.cells #[.bool false, .string ⟨#[]⟩, .string ⟨#[]⟩, .int .i64 0] 24); simpa only [size_al] using this
      have B0 : Below w.heap.size w ((w.alloc (Obj.cells #[.bool true, .string s, .string t, .int .i64 e] 24)).alloc (Obj.cells #[.bool false, .string ⟨#[]⟩, .string ⟨#[]⟩, .int .i64 0] 24)) := (((Below.refl _ _).alloc (by first | omega | (simp only [size_al]; omega)) _).alloc (by first | omega | (simp only [size_al]; omega)) _)
      go_enter Tryz.func21, Tryz.ntmps21
      go_wp2_with fail
      obtain ⟨F, hF1, hF2⟩ := below_fun ((w.alloc (Obj.cells #[.bool true, .string s, .string t, .int .i64 e] 24)).alloc (Obj.cells #[.bool false, .string ⟨#[]⟩, .string ⟨#[]⟩, .int .i64 0] 24))
      have fx_0 := fun u => cells4 (heap_of (hF1 u) _ _ _ Rx_0) 0 _ rfl
      have fx_1 := fun u => cells4 (heap_of (hF1 u) _ _ _ Rx_0) 1 _ rfl
      have fx_2 := fun u => cells4 (heap_of (hF1 u) _ _ _ Rx_0) 2 _ rfl
      have fx_3 := fun u => cells4 (heap_of (hF1 u) _ _ _ Rx_0) 3 _ rfl
      have fz_0 := fun u => cells4 (heap_of (hF1 u) _ _ _ Rz_0) 0 _ rfl
      have fz_1 := fun u => cells4 (heap_of (hF1 u) _ _ _ Rz_0) 1 _ rfl
      have fz_2 := fun u => cells4 (heap_of (hF1 u) _ _ _ Rz_0) 2 _ rfl
      have fz_3 := fun u => cells4 (heap_of (hF1 u) _ _ _ Rz_0) 3 _ rfl
      refine wp_region_below F hF2 (by kernel_rfl) (by kernel_rfl) ?_
      repeat first | go_big_quiet_step (first | (go_at_call 37; exact quietF hF1 hF2 (zerox _)) | fail) | quiet_step (first | (go_at_call 37; exact quietF hF1 hF2 (zerox _)) | fail)
      refine wpQuiet_nil ?_
      rintro _ ⟨uW, rfl⟩
      have B1 := btr B0 (hF1 uW)
      have Rx_1 := heap_of (hF1 uW) _ _ _ Rx_0
      have Rz_1 := heap_of (hF1 uW) _ _ _ Rz_0
      obtain ⟨w1, hw⟩ : ∃ V, F uW = V := ⟨_, rfl⟩
      rw [hw] at B1 Rx_1 Rz_1
      try rw [hw]
      clear hw hF1 hF2 B0 fx_0 fx_1 fx_2 fx_3 fz_0 fz_1 fz_2 fz_3 Rx_0 Rz_0
      clear F
      have cx_1_0 := cells4 Rx_1 0 _ rfl
      have cx_1_1 := cells4 Rx_1 1 _ rfl
      have cx_1_2 := cells4 Rx_1 2 _ rfl
      have cx_1_3 := cells4 Rx_1 3 _ rfl
      have cz_1_0 := cells4 Rz_1 0 _ rfl
      have cz_1_1 := cells4 Rz_1 1 _ rfl
      have cz_1_2 := cells4 Rz_1 2 _ rfl
      have cz_1_3 := cells4 Rz_1 3 _ rfl
      have qx_1 := fz (k := 0) Rx_1
      have B2 : Below w.heap.size w (w1.setCell ⟨w.heap.size, 0, none⟩ (.bool false)) := B1.setCell (by first | exact Nat.le_refl _ | (skip; show w.heap.size ≤ w.heap.size; omega)) _
      have Rx_2 : (w1.setCell ⟨w.heap.size, 0, none⟩ (.bool false)).heap[w.heap.size]? = some (Obj.cells #[.bool false, .string s, .string t, .int .i64 e] 24) := by rw [setCell_row Rx_1]; rfl
      have Rz_2 : (w1.setCell ⟨w.heap.size, 0, none⟩ (.bool false)).heap[w.heap.size + 1]? = some (Obj.cells #[.bool false, .string ⟨#[]⟩, .string ⟨#[]⟩, .int .i64 0] 24) := by rw [setCell_other (by first | omega | (skip; omega))]; exact Rz_1
      have cx_2_0 := cells4 Rx_2 0 _ rfl
      have cx_2_1 := cells4 Rx_2 1 _ rfl
      have cx_2_2 := cells4 Rx_2 2 _ rfl
      have cx_2_3 := cells4 Rx_2 3 _ rfl
      have cz_2_0 := cells4 Rz_2 0 _ rfl
      have cz_2_1 := cells4 Rz_2 1 _ rfl
      have cz_2_2 := cells4 Rz_2 2 _ rfl
      have cz_2_3 := cells4 Rz_2 3 _ rfl
      have q0 := fz (k := 0) Rz_2
      have q1 := fz (k := 1) Rz_2
      have q2 := fz (k := 2) Rz_2
      have q3 := fz (k := 3) Rz_2
      obtain ⟨E0, E1, E2, E3⟩ := set4_cells Rz_2 rfl (.bool false) (.string s) (.string t) (.int .i64 e)
      go_wp2
      exact bodyPost_ret (v := .agg #[.bool false, .string s, .string t, .int .i64 e]) (by simp [results, Tryz.results21, go_sem, E0, E1, E2, E3]) rfl ⟨rfl, set4_below B2 (by first | exact Nat.le_refl _ | omega) _ _ _ _⟩
end Go.Proofs.YtknkkagapcigfaaGreatDoor
