/-
  What the functions Scale, top and Top of package exact return.
-/
import Derived.Test.YthiongcednmjiaaDoorX7
import Derived.Lib.MinMax
namespace Go.Proofs.YthiongcednmjiaaDoor
open Go.RowKit WMath XMath

set_option maxRecDepth 100000 in
set_option maxHeartbeats 1000000 in
theorem Scalex_ok (b : Bool) (n d : Nat) (e : Int) (s t : ByteArray) (k : Int) (rb : Bool) (rn rd : Nat) (re err : Int) (u v : ByteArray) (hs : nbA n = s) (ht : nbA d = t) (hc : (XN.mk b n d e).can) (k1 : -9223372036854775808 ≤ k) (k2 : k ≤ 9223372036854775807)
    (hr : scaleX (XN.mk b n d e) k = (⟨rb, rn, rd, re⟩, err)) (hu : nbA rn = u) (hv : nbA rd = v) (w : World) (hT : TabAt w) :
    Calls Tryd.prog 28 #[.agg #[.bool b, .string s, .string t, .int .i64 e], .int .i64 k] w fun r w' => r = .returned (.tuple #[.agg #[.bool rb, .string u, .string v, .int .i64 re], .int .i64 err]) ∧ Below w.heap.size w w' := by
  have M1 := box (may_yes hs ht hc)
  have TT := box hT
  unfold scaleX at hr
  rcases x_cases hs ht hc with ⟨n0, rfl, rfl, rfl, rfl, rfl⟩ | ⟨n0, e0⟩
  · rw [if_pos n0] at hr
    injection hr with h1 h2
    injection h1 with a1 a2 a3 a4
    subst a1 a2 a3 a4 h2 n0
    rw [nbA_zero] at hu
    rw [nb1] at hv
    subst hu hv
    clear hs ht hc hT k1 k2
    have Rx_0 : ((w.alloc (Obj.cells #[.bool false, .string ⟨#[]⟩, .string ⟨#[1]⟩, .int .i64 0] 24)).alloc (Obj.cells #[.bool false, .string ⟨#[]⟩, .string ⟨#[]⟩, .int .i64 0] 24)).heap[w.heap.size]? = some (Obj.cells #[.bool false, .string ⟨#[]⟩, .string ⟨#[1]⟩, .int .i64 0] 24) := by rw [heap_below _ _ _ (by simp only [size_al]; omega)]; have := heap_alloc_last w (Obj.cells #[.bool false, .string ⟨#[]⟩, .string ⟨#[1]⟩, .int .i64 0] 24); simpa only [size_al] using this
    have Rz_0 : ((w.alloc (Obj.cells #[.bool false, .string ⟨#[]⟩, .string ⟨#[1]⟩, .int .i64 0] 24)).alloc (Obj.cells #[.bool false, .string ⟨#[]⟩, .string ⟨#[]⟩, .int .i64 0] 24)).heap[w.heap.size + 1]? = some (Obj.cells #[.bool false, .string ⟨#[]⟩, .string ⟨#[]⟩, .int .i64 0] 24) := by have := heap_alloc_last (w.alloc (Obj.cells #[.bool false, .string ⟨#[]⟩, .string ⟨#[1]⟩, .int .i64 0] 24)) (Obj.cells #[.bool false, .string ⟨#[]⟩, .string ⟨#[]⟩, .int .i64 0] 24); simpa only [size_al] using this
    have B0 : Below w.heap.size w ((w.alloc (Obj.cells #[.bool false, .string ⟨#[]⟩, .string ⟨#[1]⟩, .int .i64 0] 24)).alloc (Obj.cells #[.bool false, .string ⟨#[]⟩, .string ⟨#[]⟩, .int .i64 0] 24)) := (((Below.refl _ _).alloc (by first | omega | (simp only [size_al]; omega)) _).alloc (by first | omega | (simp only [size_al]; omega)) _)
    go_enter Tryd.func28, Tryd.ntmps28
    go_wp2_with fail
    refine (xmay1 _ _ _ _ true M1.out _ ((w.alloc (Obj.cells #[.bool false, .string ⟨#[]⟩, .string ⟨#[1]⟩, .int .i64 0] 24)).alloc (Obj.cells #[.bool false, .string ⟨#[]⟩, .string ⟨#[]⟩, .int .i64 0] 24)) _ (by simp only [size_al]) (tabB TT.out B0)).mono ?_
    rintro r w1 ⟨rfl, b1⟩
    have B1 : Below w.heap.size w w1 := btr B0 b1
    have Rx_1 : w1.heap[w.heap.size]? = some (Obj.cells #[.bool false, .string ⟨#[]⟩, .string ⟨#[1]⟩, .int .i64 0] 24) := heap_of b1 _ _ _ Rx_0
    have Rz_1 : w1.heap[w.heap.size + 1]? = some (Obj.cells #[.bool false, .string ⟨#[]⟩, .string ⟨#[]⟩, .int .i64 0] 24) := heap_of b1 _ _ _ Rz_0
    clear b1 B0 Rx_0 Rz_0
    have cx_1_0 := cells4 Rx_1 0 _ rfl
    have cx_1_1 := cells4 Rx_1 1 _ rfl
    have cx_1_2 := cells4 Rx_1 2 _ rfl
    have cx_1_3 := cells4 Rx_1 3 _ rfl
    have cz_1_0 := cells4 Rz_1 0 _ rfl
    have cz_1_1 := cells4 Rz_1 1 _ rfl
    have cz_1_2 := cells4 Rz_1 2 _ rfl
    have cz_1_3 := cells4 Rz_1 3 _ rfl
    go_wp2_with fail
    obtain ⟨F, hF1, hF2⟩ := below_fun w1
    have fx_0 := fun u => cells4 (heap_of (hF1 u) _ _ _ Rx_1) 0 _ rfl
    have fx_1 := fun u => cells4 (heap_of (hF1 u) _ _ _ Rx_1) 1 _ rfl
    have fx_2 := fun u => cells4 (heap_of (hF1 u) _ _ _ Rx_1) 2 _ rfl
    have fx_3 := fun u => cells4 (heap_of (hF1 u) _ _ _ Rx_1) 3 _ rfl
    have fz_0 := fun u => cells4 (heap_of (hF1 u) _ _ _ Rz_1) 0 _ rfl
    have fz_1 := fun u => cells4 (heap_of (hF1 u) _ _ _ Rz_1) 1 _ rfl
    have fz_2 := fun u => cells4 (heap_of (hF1 u) _ _ _ Rz_1) 2 _ rfl
    have fz_3 := fun u => cells4 (heap_of (hF1 u) _ _ _ Rz_1) 3 _ rfl
    refine wp_region_below F hF2 (by kernel_rfl) (by kernel_rfl) ?_
    repeat first | go_big_quiet_step (first | (go_at_call 38; exact quietF hF1 hF2 (zerox _)) | fail) | quiet_step (first | (go_at_call 38; exact quietF hF1 hF2 (zerox _)) | fail)
    refine wpQuiet_nil ?_
    rintro _ ⟨uW, rfl⟩
    have B2 := btr B1 (hF1 uW)
    have Rx_2 := heap_of (hF1 uW) _ _ _ Rx_1
    have Rz_2 := heap_of (hF1 uW) _ _ _ Rz_1
    obtain ⟨w2, hw⟩ : ∃ V, F uW = V := ⟨_, rfl⟩
    rw [hw] at B2 Rx_2 Rz_2
    try rw [hw]
    clear hw hF1 hF2 B1 fx_0 fx_1 fx_2 fx_3 fz_0 fz_1 fz_2 fz_3 Rx_1 cx_1_0 cx_1_1 cx_1_2 cx_1_3 Rz_1 cz_1_0 cz_1_1 cz_1_2 cz_1_3
    clear F
    have cx_2_0 := cells4 Rx_2 0 _ rfl
    have cx_2_1 := cells4 Rx_2 1 _ rfl
    have cx_2_2 := cells4 Rx_2 2 _ rfl
    have cx_2_3 := cells4 Rx_2 3 _ rfl
    have cz_2_0 := cells4 Rz_2 0 _ rfl
    have cz_2_1 := cells4 Rz_2 1 _ rfl
    have cz_2_2 := cells4 Rz_2 2 _ rfl
    have cz_2_3 := cells4 Rz_2 3 _ rfl
    have q0 := fz (k := 0) Rz_2
    have q1 := fz (k := 1) Rz_2
    have q2 := fz (k := 2) Rz_2
    have q3 := fz (k := 3) Rz_2
    obtain ⟨E0, E1, E2, E3⟩ := set4_cells Rz_2 rfl (.bool false) (.string ⟨#[]⟩) (.string ⟨#[1]⟩) (.int .i64 0)
    go_wp2
    exact bodyPost_ret (v := .tuple #[.agg #[.bool false, .string ⟨#[]⟩, .string ⟨#[1]⟩, .int .i64 0], .int .i64 0]) (by simp [results, Tryd.results28, go_sem, E0, E1, E2, E3]) rfl ⟨rfl, set4_below B2 (by first | exact Nat.le_refl _ | omega) _ _ _ _⟩
  · rw [if_neg n0] at hr
    have he : -1048576 ≤ e ∧ e ≤ 1048576 := ⟨hc.2.2.1, hc.2.2.2.1⟩
    by_cases hin : -1048576 ≤ e + k ∧ e + k ≤ 1048576
    · rw [if_pos hin] at hr
      injection hr with h1 h2
      injection h1 with a1 a2 a3 a4
      subst a1 a2 a3 a4 h2
      rw [hs] at hu
      rw [ht] at hv
      subst hu hv
      obtain ⟨E, hE⟩ : ∃ E, e + k = E := ⟨_, rfl⟩
      have n1 : IntKind.i64.wrap (e + k) = E := by rw [wrap_i64_is _ (by omega) (by omega), hE]
      rw [hE] at hin ⊢
      have HG : Box ((decide (-1048576 ≤ E) && decide (E ≤ 1048576)) = true) := box (by rw [decide_eq_true hin.1, decide_eq_true hin.2]; rfl)
      clear hs ht hc hT k1 k2 hin hE he n0
      cases b
      · have Rx_0 : ((w.alloc (Obj.cells #[.bool false, .string s, .string t, .int .i64 e] 24)).alloc (Obj.cells #[.bool false, .string ⟨#[]⟩, .string ⟨#[]⟩, .int .i64 0] 24)).heap[w.heap.size]? = some (Obj.cells #[.bool false, .string s, .string t, .int .i64 e] 24) := by rw [heap_below _ _ _ (by simp only [size_al]; omega)]; have := heap_alloc_last w (Obj.cells #[.bool false, .string s, .string t, .int .i64 e] 24); simpa only [size_al] using this
        have Rz_0 : ((w.alloc (Obj.cells #[.bool false, .string s, .string t, .int .i64 e] 24)).alloc (Obj.cells #[.bool false, .string ⟨#[]⟩, .string ⟨#[]⟩, .int .i64 0] 24)).heap[w.heap.size + 1]? = some (Obj.cells #[.bool false, .string ⟨#[]⟩, .string ⟨#[]⟩, .int .i64 0] 24) := by have := heap_alloc_last (w.alloc (Obj.cells #[.bool false, .string s, .string t, .int .i64 e] 24)) (Obj.cells #[.bool false, .string ⟨#[]⟩, .string ⟨#[]⟩, .int .i64 0] 24); simpa only [size_al] using this
        have B0 : Below w.heap.size w ((w.alloc (Obj.cells #[.bool false, .string s, .string t, .int .i64 e] 24)).alloc (Obj.cells #[.bool false, .string ⟨#[]⟩, .string ⟨#[]⟩, .int .i64 0] 24)) := (((Below.refl _ _).alloc (by first | omega | (simp only [size_al]; omega)) _).alloc (by first | omega | (simp only [size_al]; omega)) _)
        go_enter Tryd.func28, Tryd.ntmps28
        go_wp2_with fail
        refine (xmay1 _ _ _ _ true M1.out _ ((w.alloc (Obj.cells #[.bool false, .string s, .string t, .int .i64 e] 24)).alloc (Obj.cells #[.bool false, .string ⟨#[]⟩, .string ⟨#[]⟩, .int .i64 0] 24)) _ (by simp only [size_al]) (tabB TT.out B0)).mono ?_
        rintro r w1 ⟨rfl, b1⟩
        have B1 : Below w.heap.size w w1 := btr B0 b1
        have Rx_1 : w1.heap[w.heap.size]? = some (Obj.cells #[.bool false, .string s, .string t, .int .i64 e] 24) := heap_of b1 _ _ _ Rx_0
        have Rz_1 : w1.heap[w.heap.size + 1]? = some (Obj.cells #[.bool false, .string ⟨#[]⟩, .string ⟨#[]⟩, .int .i64 0] 24) := heap_of b1 _ _ _ Rz_0
        clear b1 B0 Rx_0 Rz_0
        have cx_1_0 := cells4 Rx_1 0 _ rfl
        have cx_1_1 := cells4 Rx_1 1 _ rfl
        have cx_1_2 := cells4 Rx_1 2 _ rfl
        have cx_1_3 := cells4 Rx_1 3 _ rfl
        have cz_1_0 := cells4 Rz_1 0 _ rfl
        have cz_1_1 := cells4 Rz_1 1 _ rfl
        have cz_1_2 := cells4 Rz_1 2 _ rfl
        have cz_1_3 := cells4 Rz_1 3 _ rfl
        go_wp2_with fail
        obtain ⟨F, hF1, hF2⟩ := below_fun w1
        have fx_0 := fun u => cells4 (heap_of (hF1 u) _ _ _ Rx_1) 0 _ rfl
        have fx_1 := fun u => cells4 (heap_of (hF1 u) _ _ _ Rx_1) 1 _ rfl
        have fx_2 := fun u => cells4 (heap_of (hF1 u) _ _ _ Rx_1) 2 _ rfl
        have fx_3 := fun u => cells4 (heap_of (hF1 u) _ _ _ Rx_1) 3 _ rfl
        have fz_0 := fun u => cells4 (heap_of (hF1 u) _ _ _ Rz_1) 0 _ rfl
        have fz_1 := fun u => cells4 (heap_of (hF1 u) _ _ _ Rz_1) 1 _ rfl
        have fz_2 := fun u => cells4 (heap_of (hF1 u) _ _ _ Rz_1) 2 _ rfl
        have fz_3 := fun u => cells4 (heap_of (hF1 u) _ _ _ Rz_1) 3 _ rfl
        refine wp_region_below F hF2 (by kernel_rfl) (by kernel_rfl) ?_
        repeat first | go_big_quiet_step (first | (go_at_call 38; exact quietF hF1 hF2 (zerox _)) | fail) | quiet_step (first | (go_at_call 38; exact quietF hF1 hF2 (zerox _)) | fail)
        refine wpQuiet_nil ?_
        rintro _ ⟨uW, rfl⟩
        have B2 := btr B1 (hF1 uW)
        have Rx_2 := heap_of (hF1 uW) _ _ _ Rx_1
        have Rz_2 := heap_of (hF1 uW) _ _ _ Rz_1
        obtain ⟨w2, hw⟩ : ∃ V, F uW = V := ⟨_, rfl⟩
        rw [hw] at B2 Rx_2 Rz_2
        try rw [hw]
        clear hw hF1 hF2 B1 fx_0 fx_1 fx_2 fx_3 fz_0 fz_1 fz_2 fz_3 Rx_1 cx_1_0 cx_1_1 cx_1_2 cx_1_3 Rz_1 cz_1_0 cz_1_1 cz_1_2 cz_1_3
        clear F
        have cx_2_0 := cells4 Rx_2 0 _ rfl
        have cx_2_1 := cells4 Rx_2 1 _ rfl
        have cx_2_2 := cells4 Rx_2 2 _ rfl
        have cx_2_3 := cells4 Rx_2 3 _ rfl
        have cz_2_0 := cells4 Rz_2 0 _ rfl
        have cz_2_1 := cells4 Rz_2 1 _ rfl
        have cz_2_2 := cells4 Rz_2 2 _ rfl
        have cz_2_3 := cells4 Rz_2 3 _ rfl
        go_wp2_with fail
        refine (withinx E 1048576 true (by decide) (by decide) HG.out _).mono ?_
        rintro r w3 ⟨rfl, b3⟩
        have B3 : Below w.heap.size w w3 := btr B2 b3
        have Rx_3 : w3.heap[w.heap.size]? = some (Obj.cells #[.bool false, .string s, .string t, .int .i64 e] 24) := heap_of b3 _ _ _ Rx_2
        have Rz_3 : w3.heap[w.heap.size + 1]? = some (Obj.cells #[.bool false, .string ⟨#[]⟩, .string ⟨#[]⟩, .int .i64 0] 24) := heap_of b3 _ _ _ Rz_2
        clear b3 B2 Rx_2 cx_2_0 cx_2_1 cx_2_2 cx_2_3 Rz_2 cz_2_0 cz_2_1 cz_2_2 cz_2_3
        have cx_3_0 := cells4 Rx_3 0 _ rfl
        have cx_3_1 := cells4 Rx_3 1 _ rfl
        have cx_3_2 := cells4 Rx_3 2 _ rfl
        have cx_3_3 := cells4 Rx_3 3 _ rfl
        have cz_3_0 := cells4 Rz_3 0 _ rfl
        have cz_3_1 := cells4 Rz_3 1 _ rfl
        have cz_3_2 := cells4 Rz_3 2 _ rfl
        have cz_3_3 := cells4 Rz_3 3 _ rfl
        have qx_3 := fz (k := 3) Rx_3
        have B4 : Below w.heap.size w (w3.setCell ⟨w.heap.size, 3, none⟩ (.int .i64 E)) := B3.setCell (by first | exact Nat.le_refl _ | (skip; show w.heap.size ≤ w.heap.size; omega)) _
        have Rx_4 : (w3.setCell ⟨w.heap.size, 3, none⟩ (.int .i64 E)).heap[w.heap.size]? = some (Obj.cells #[.bool false, .string s, .string t, .int .i64 E] 24) := by rw [setCell_row Rx_3]; rfl
        have Rz_4 : (w3.setCell ⟨w.heap.size, 3, none⟩ (.int .i64 E)).heap[w.heap.size + 1]? = some (Obj.cells #[.bool false, .string ⟨#[]⟩, .string ⟨#[]⟩, .int .i64 0] 24) := by rw [setCell_other (by first | omega | (skip; omega))]; exact Rz_3
        have cx_4_0 := cells4 Rx_4 0 _ rfl
        have cx_4_1 := cells4 Rx_4 1 _ rfl
        have cx_4_2 := cells4 Rx_4 2 _ rfl
        have cx_4_3 := cells4 Rx_4 3 _ rfl
        have cz_4_0 := cells4 Rz_4 0 _ rfl
        have cz_4_1 := cells4 Rz_4 1 _ rfl
        have cz_4_2 := cells4 Rz_4 2 _ rfl
        have cz_4_3 := cells4 Rz_4 3 _ rfl
        have q0 := fz (k := 0) Rz_4
        have q1 := fz (k := 1) Rz_4
        have q2 := fz (k := 2) Rz_4
        have q3 := fz (k := 3) Rz_4
        obtain ⟨E0, E1, E2, E3⟩ := set4_cells Rz_4 rfl (.bool false) (.string s) (.string t) (.int .i64 E)
        go_wp2
        exact bodyPost_ret (v := .tuple #[.agg #[.bool false, .string s, .string t, .int .i64 E], .int .i64 0]) (by simp [results, Tryd.results28, go_sem, E0, E1, E2, E3]) rfl ⟨rfl, set4_below B4 (by first | exact Nat.le_refl _ | omega) _ _ _ _⟩
      · have Rx_0 : ((w.alloc (Obj.cells #[.bool true, .string s, .string t, .int .i64 e] 24)).alloc (Obj.cells #[.bool false, .string ⟨#[]⟩, .string ⟨#[]⟩, .int .i64 0] 24)).heap[w.heap.size]? = some (Obj.cells #[.bool true, .string s, .string t, .int .i64 e] 24) := by rw [heap_below _ _ _ (by simp only [size_al]; omega)]; have := heap_alloc_last w (Obj.cells #[.bool true, .string s, .string t, .int .i64 e] 24); simpa only [size_al] using this
        have Rz_0 : ((w.alloc (Obj.cells #[.bool true, .string s, .string t, .int .i64 e] 24)).alloc (Obj.cells #[.bool false, .string ⟨#[]⟩, .string ⟨#[]⟩, .int .i64 0] 24)).heap[w.heap.size + 1]? = some (Obj.cells #[.bool false, .string ⟨#[]⟩, .string ⟨#[]⟩, .int .i64 0] 24) := by have := heap_alloc_last (w.alloc (Obj.cells #[.bool true, .string s, .string t, .int .i64 e] 24)) (Obj.cells #[.bool false, .string ⟨#[]⟩, .string ⟨#[]⟩, .int .i64 0] 24); simpa only [size_al] using this
        have B0 : Below w.heap.size w ((w.alloc (Obj.cells #[.bool true, .string s, .string t, .int .i64 e] 24)).alloc (Obj.cells #[.bool false, .string ⟨#[]⟩, .string ⟨#[]⟩, .int .i64 0] 24)) := (((Below.refl _ _).alloc (by first | omega | (simp only [size_al]; omega)) _).alloc (by first | omega | (simp only [size_al]; omega)) _)
        go_enter Tryd.func28, Tryd.ntmps28
        go_wp2_with fail
        refine (xmay1 _ _ _ _ true M1.out _ ((w.alloc (Obj.cells #[.bool true, .string s, .string t, .int .i64 e] 24)).alloc (Obj.cells #[.bool false, .string ⟨#[]⟩, .string ⟨#[]⟩, .int .i64 0] 24)) _ (by simp only [size_al]) (tabB TT.out B0)).mono ?_
        rintro r w1 ⟨rfl, b1⟩
        have B1 : Below w.heap.size w w1 := btr B0 b1
        have Rx_1 : w1.heap[w.heap.size]? = some (Obj.cells #[.bool true, .string s, .string t, .int .i64 e] 24) := heap_of b1 _ _ _ Rx_0
        have Rz_1 : w1.heap[w.heap.size + 1]? = some (Obj.cells #[.bool false, .string ⟨#[]⟩, .string ⟨#[]⟩, .int .i64 0] 24) := heap_of b1 _ _ _ Rz_0
        clear b1 B0 Rx_0 Rz_0
        have cx_1_0 := cells4 Rx_1 0 _ rfl
        have cx_1_1 := cells4 Rx_1 1 _ rfl
        have cx_1_2 := cells4 Rx_1 2 _ rfl
        have cx_1_3 := cells4 Rx_1 3 _ rfl
        have cz_1_0 := cells4 Rz_1 0 _ rfl
        have cz_1_1 := cells4 Rz_1 1 _ rfl
        have cz_1_2 := cells4 Rz_1 2 _ rfl
        have cz_1_3 := cells4 Rz_1 3 _ rfl
        go_wp2_with fail
        obtain ⟨F, hF1, hF2⟩ := below_fun w1
        have fx_0 := fun u => cells4 (heap_of (hF1 u) _ _ _ Rx_1) 0 _ rfl
        have fx_1 := fun u => cells4 (heap_of (hF1 u) _ _ _ Rx_1) 1 _ rfl
        have fx_2 := fun u => cells4 (heap_of (hF1 u) _ _ _ Rx_1) 2 _ rfl
        have fx_3 := fun u => cells4 (heap_of (hF1 u) _ _ _ Rx_1) 3 _ rfl
        have fz_0 := fun u => cells4 (heap_of (hF1 u) _ _ _ Rz_1) 0 _ rfl
        have fz_1 := fun u => cells4 (heap_of (hF1 u) _ _ _ Rz_1) 1 _ rfl
        have fz_2 := fun u => cells4 (heap_of (hF1 u) _ _ _ Rz_1) 2 _ rfl
        have fz_3 := fun u => cells4 (heap_of (hF1 u) _ _ _ Rz_1) 3 _ rfl
        refine wp_region_below F hF2 (by kernel_rfl) (by kernel_rfl) ?_
        repeat first | go_big_quiet_step (first | (go_at_call 38; exact quietF hF1 hF2 (zerox _)) | fail) | quiet_step (first | (go_at_call 38; exact quietF hF1 hF2 (zerox _)) | fail)
        refine wpQuiet_nil ?_
        rintro _ ⟨uW, rfl⟩
        have B2 := btr B1 (hF1 uW)
        have Rx_2 := heap_of (hF1 uW) _ _ _ Rx_1
        have Rz_2 := heap_of (hF1 uW) _ _ _ Rz_1
        obtain ⟨w2, hw⟩ : ∃ V, F uW = V := ⟨_, rfl⟩
        rw [hw] at B2 Rx_2 Rz_2
        try rw [hw]
        clear hw hF1 hF2 B1 fx_0 fx_1 fx_2 fx_3 fz_0 fz_1 fz_2 fz_3 Rx_1 cx_1_0 cx_1_1 cx_1_2 cx_1_3 Rz_1 cz_1_0 cz_1_1 cz_1_2 cz_1_3
        clear F
        have cx_2_0 := cells4 Rx_2 0 _ rfl
        have cx_2_1 := cells4 Rx_2 1 _ rfl
        have cx_2_2 := cells4 Rx_2 2 _ rfl
        have cx_2_3 := cells4 Rx_2 3 _ rfl
        have cz_2_0 := cells4 Rz_2 0 _ rfl
        have cz_2_1 := cells4 Rz_2 1 _ rfl
        have cz_2_2 := cells4 Rz_2 2 _ rfl
        have cz_2_3 := cells4 Rz_2 3 _ rfl
        go_wp2_with fail
        refine (withinx E 1048576 true (by decide) (by decide) HG.out _).mono ?_
        rintro r w3 ⟨rfl, b3⟩
        have B3 : Below w.heap.size w w3 := btr B2 b3
        have Rx_3 : w3.heap[w.heap.size]? = some (Obj.cells #[.bool true, .string s, .string t, .int .i64 e] 24) := heap_of b3 _ _ _ Rx_2
        have Rz_3 : w3.heap[w.heap.size + 1]? = some (Obj.cells #[.bool false, .string ⟨#[]⟩, .string ⟨#[]⟩, .int .i64 0] 24) := heap_of b3 _ _ _ Rz_2
        clear b3 B2 Rx_2 cx_2_0 cx_2_1 cx_2_2 cx_2_3 Rz_2 cz_2_0 cz_2_1 cz_2_2 cz_2_3
        have cx_3_0 := cells4 Rx_3 0 _ rfl
        have cx_3_1 := cells4 Rx_3 1 _ rfl
        have cx_3_2 := cells4 Rx_3 2 _ rfl
        have cx_3_3 := cells4 Rx_3 3 _ rfl
        have cz_3_0 := cells4 Rz_3 0 _ rfl
        have cz_3_1 := cells4 Rz_3 1 _ rfl
        have cz_3_2 := cells4 Rz_3 2 _ rfl
        have cz_3_3 := cells4 Rz_3 3 _ rfl
        have qx_3 := fz (k := 3) Rx_3
        have B4 : Below w.heap.size w (w3.setCell ⟨w.heap.size, 3, none⟩ (.int .i64 E)) := B3.setCell (by first | exact Nat.le_refl _ | (skip; show w.heap.size ≤ w.heap.size; omega)) _
        have Rx_4 : (w3.setCell ⟨w.heap.size, 3, none⟩ (.int .i64 E)).heap[w.heap.size]? = some (Obj.cells #[.bool true, .string s, .string t, .int .i64 E] 24) := by rw [setCell_row Rx_3]; rfl
        have Rz_4 : (w3.setCell ⟨w.heap.size, 3, none⟩ (.int .i64 E)).heap[w.heap.size + 1]? = some (Obj.cells #[.bool false, .string ⟨#[]⟩, .string ⟨#[]⟩, .int .i64 0] 24) := by rw [setCell_other (by first | omega | (skip; omega))]; exact Rz_3
        have cx_4_0 := cells4 Rx_4 0 _ rfl
        have cx_4_1 := cells4 Rx_4 1 _ rfl
        have cx_4_2 := cells4 Rx_4 2 _ rfl
        have cx_4_3 := cells4 Rx_4 3 _ rfl
        have cz_4_0 := cells4 Rz_4 0 _ rfl
        have cz_4_1 := cells4 Rz_4 1 _ rfl
        have cz_4_2 := cells4 Rz_4 2 _ rfl
        have cz_4_3 := cells4 Rz_4 3 _ rfl
        have q0 := fz (k := 0) Rz_4
        have q1 := fz (k := 1) Rz_4
        have q2 := fz (k := 2) Rz_4
        have q3 := fz (k := 3) Rz_4
        obtain ⟨E0, E1, E2, E3⟩ := set4_cells Rz_4 rfl (.bool true) (.string s) (.string t) (.int .i64 E)
        go_wp2
        exact bodyPost_ret (v := .tuple #[.agg #[.bool true, .string s, .string t, .int .i64 E], .int .i64 0]) (by simp [results, Tryd.results28, go_sem, E0, E1, E2, E3]) rfl ⟨rfl, set4_below B4 (by first | exact Nat.le_refl _ | omega) _ _ _ _⟩
    · rw [if_neg hin] at hr
      obtain ⟨rfl, rfl, rfl, rfl, rfl⟩ := xz_is hr
      rw [nbA_zero] at hu hv
      subst hu hv
      obtain ⟨E, hE⟩ : ∃ E, IntKind.i64.wrap (e + k) = E := ⟨_, rfl⟩
      have hout : ¬ (-1048576 ≤ E ∧ E ≤ 1048576) := by
        rw [IntKind.wrap_i64] at hE
        omega
      have HG : Box ((decide (-1048576 ≤ E) && decide (E ≤ 1048576)) = false) := box (by
        rw [Bool.eq_false_iff]
        intro h
        exact hout (by simpa using h))
      clear hs ht hc hT k1 k2 hin he hout n0 hr
      cases b
      · have Rx_0 : ((w.alloc (Obj.cells #[.bool false, .string s, .string t, .int .i64 e] 24)).alloc (Obj.cells #[.bool false, .string ⟨#[]⟩, .string ⟨#[]⟩, .int .i64 0] 24)).heap[w.heap.size]? = some (Obj.cells #[.bool false, .string s, .string t, .int .i64 e] 24) := by rw [heap_below _ _ _ (by simp only [size_al]; omega)]; have := heap_alloc_last w (Obj.cells #[.bool false, .string s, .string t, .int .i64 e] 24); simpa only [size_al] using this
        have Rz_0 : ((w.alloc (Obj.cells #[.bool false, .string s, .string t, .int .i64 e] 24)).alloc (Obj.cells #[.bool false, .string ⟨#[]⟩, .string ⟨#[]⟩, .int .i64 0] 24)).heap[w.heap.size + 1]? = some (Obj.cells #[.bool false, .string ⟨#[]⟩, .string ⟨#[]⟩, .int .i64 0] 24) := by have := heap_alloc_last (w.alloc (Obj.cells #[.bool false, .string s, .string t, .int .i64 e] 24)) (Obj.cells #[.bool false, .string ⟨#[]⟩, .string ⟨#[]⟩, .int .i64 0] 24); simpa only [size_al] using this
        have B0 : Below w.heap.size w ((w.alloc (Obj.cells #[.bool false, .string s, .string t, .int .i64 e] 24)).alloc (Obj.cells #[.bool false, .string ⟨#[]⟩, .string ⟨#[]⟩, .int .i64 0] 24)) := (((Below.refl _ _).alloc (by first | omega | (simp only [size_al]; omega)) _).alloc (by first | omega | (simp only [size_al]; omega)) _)
        go_enter Tryd.func28, Tryd.ntmps28
        go_wp2_with fail
        refine (xmay1 _ _ _ _ true M1.out _ ((w.alloc (Obj.cells #[.bool false, .string s, .string t, .int .i64 e] 24)).alloc (Obj.cells #[.bool false, .string ⟨#[]⟩, .string ⟨#[]⟩, .int .i64 0] 24)) _ (by simp only [size_al]) (tabB TT.out B0)).mono ?_
        rintro r w1 ⟨rfl, b1⟩
        have B1 : Below w.heap.size w w1 := btr B0 b1
        have Rx_1 : w1.heap[w.heap.size]? = some (Obj.cells #[.bool false, .string s, .string t, .int .i64 e] 24) := heap_of b1 _ _ _ Rx_0
        have Rz_1 : w1.heap[w.heap.size + 1]? = some (Obj.cells #[.bool false, .string ⟨#[]⟩, .string ⟨#[]⟩, .int .i64 0] 24) := heap_of b1 _ _ _ Rz_0
        clear b1 B0 Rx_0 Rz_0
        have cx_1_0 := cells4 Rx_1 0 _ rfl
        have cx_1_1 := cells4 Rx_1 1 _ rfl
        have cx_1_2 := cells4 Rx_1 2 _ rfl
        have cx_1_3 := cells4 Rx_1 3 _ rfl
        have cz_1_0 := cells4 Rz_1 0 _ rfl
        have cz_1_1 := cells4 Rz_1 1 _ rfl
        have cz_1_2 := cells4 Rz_1 2 _ rfl
        have cz_1_3 := cells4 Rz_1 3 _ rfl
        go_wp2_with fail
        obtain ⟨F, hF1, hF2⟩ := below_fun w1
        have fx_0 := fun u => cells4 (heap_of (hF1 u) _ _ _ Rx_1) 0 _ rfl
        have fx_1 := fun u => cells4 (heap_of (hF1 u) _ _ _ Rx_1) 1 _ rfl
        have fx_2 := fun u => cells4 (heap_of (hF1 u) _ _ _ Rx_1) 2 _ rfl
        have fx_3 := fun u => cells4 (heap_of (hF1 u) _ _ _ Rx_1) 3 _ rfl
        have fz_0 := fun u => cells4 (heap_of (hF1 u) _ _ _ Rz_1) 0 _ rfl
        have fz_1 := fun u => cells4 (heap_of (hF1 u) _ _ _ Rz_1) 1 _ rfl
        have fz_2 := fun u => cells4 (heap_of (hF1 u) _ _ _ Rz_1) 2 _ rfl
        have fz_3 := fun u => cells4 (heap_of (hF1 u) _ _ _ Rz_1) 3 _ rfl
        refine wp_region_below F hF2 (by kernel_rfl) (by kernel_rfl) ?_
        repeat first | go_big_quiet_step (first | (go_at_call 38; exact quietF hF1 hF2 (zerox _)) | fail) | quiet_step (first | (go_at_call 38; exact quietF hF1 hF2 (zerox _)) | fail)
        refine wpQuiet_nil ?_
        rintro _ ⟨uW, rfl⟩
        have B2 := btr B1 (hF1 uW)
        have Rx_2 := heap_of (hF1 uW) _ _ _ Rx_1
        have Rz_2 := heap_of (hF1 uW) _ _ _ Rz_1
        obtain ⟨w2, hw⟩ : ∃ V, F uW = V := ⟨_, rfl⟩
        rw [hw] at B2 Rx_2 Rz_2
        try rw [hw]
        clear hw hF1 hF2 B1 fx_0 fx_1 fx_2 fx_3 fz_0 fz_1 fz_2 fz_3 Rx_1 cx_1_0 cx_1_1 cx_1_2 cx_1_3 Rz_1 cz_1_0 cz_1_1 cz_1_2 cz_1_3
        clear F
        have cx_2_0 := cells4 Rx_2 0 _ rfl
        have cx_2_1 := cells4 Rx_2 1 _ rfl
        have cx_2_2 := cells4 Rx_2 2 _ rfl
        have cx_2_3 := cells4 Rx_2 3 _ rfl
        have cz_2_0 := cells4 Rz_2 0 _ rfl
        have cz_2_1 := cells4 Rz_2 1 _ rfl
        have cz_2_2 := cells4 Rz_2 2 _ rfl
        have cz_2_3 := cells4 Rz_2 3 _ rfl
        go_wp2_with fail
        refine (withinx E 1048576 false (by decide) (by decide) HG.out _).mono ?_
        rintro r w3 ⟨rfl, b3⟩
        have B3 : Below w.heap.size w w3 := btr B2 b3
        have Rx_3 : w3.heap[w.heap.size]? = some (Obj.cells #[.bool false, .string s, .string t, .int .i64 e] 24) := heap_of b3 _ _ _ Rx_2
        have Rz_3 : w3.heap[w.heap.size + 1]? = some (Obj.cells #[.bool false, .string ⟨#[]⟩, .string ⟨#[]⟩, .int .i64 0] 24) := heap_of b3 _ _ _ Rz_2
        clear b3 B2 Rx_2 cx_2_0 cx_2_1 cx_2_2 cx_2_3 Rz_2 cz_2_0 cz_2_1 cz_2_2 cz_2_3
        have cx_3_0 := cells4 Rx_3 0 _ rfl
        have cx_3_1 := cells4 Rx_3 1 _ rfl
        have cx_3_2 := cells4 Rx_3 2 _ rfl
        have cx_3_3 := cells4 Rx_3 3 _ rfl
        have cz_3_0 := cells4 Rz_3 0 _ rfl
        have cz_3_1 := cells4 Rz_3 1 _ rfl
        have cz_3_2 := cells4 Rz_3 2 _ rfl
        have cz_3_3 := cells4 Rz_3 3 _ rfl
        have q0 := fz (k := 0) Rz_3
        have q1 := fz (k := 1) Rz_3
        have q2 := fz (k := 2) Rz_3
        have q3 := fz (k := 3) Rz_3
        obtain ⟨E0, E1, E2, E3⟩ := set4_cells Rz_3 rfl (.bool false) (.string ⟨#[]⟩) (.string ⟨#[]⟩) (.int .i64 0)
        go_wp2
        exact bodyPost_ret (v := .tuple #[.agg #[.bool false, .string ⟨#[]⟩, .string ⟨#[]⟩, .int .i64 0], .int .i64 4]) (by simp [results, Tryd.results28, go_sem, E0, E1, E2, E3]) rfl ⟨rfl, set4_below B3 (by first | exact Nat.le_refl _ | omega) _ _ _ _⟩
      · have Rx_0 : ((w.alloc (Obj.cells #[.bool true, .string s, .string t, .int .i64 e] 24)).alloc (Obj.cells #[.bool false, .string ⟨#[]⟩, .string ⟨#[]⟩, .int .i64 0] 24)).heap[w.heap.size]? = some (Obj.cells #[.bool true, .string s, .string t, .int .i64 e] 24) := by rw [heap_below _ _ _ (by simp only [size_al]; omega)]; have := heap_alloc_last w (Obj.cells #[.bool true, .string s, .string t, .int .i64 e] 24); simpa only [size_al] using this
        have Rz_0 : ((w.alloc (Obj.cells #[.bool true, .string s, .string t, .int .i64 e] 24)).alloc (Obj.cells #[.bool false, .string ⟨#[]⟩, .string ⟨#[]⟩, .int .i64 0] 24)).heap[w.heap.size + 1]? = some (Obj.cells #[.bool false, .string ⟨#[]⟩, .string ⟨#[]⟩, .int .i64 0] 24) := by have := heap_alloc_last (w.alloc (Obj.cells #[.bool true, .string s, .string t, .int .i64 e] 24)) (Obj.cells #[.bool false, .string ⟨#[]⟩, .string ⟨#[]⟩, .int .i64 0] 24); simpa only [size_al] using this
        have B0 : Below w.heap.size w ((w.alloc (Obj.cells #[.bool true, .string s, .string t, .int .i64 e] 24)).alloc (Obj.cells #[.bool false, .string ⟨#[]⟩, .string ⟨#[]⟩, .int .i64 0] 24)) := (((Below.refl _ _).alloc (by first | omega | (simp only [size_al]; omega)) _).alloc (by first | omega | (simp only [size_al]; omega)) _)
        go_enter Tryd.func28, Tryd.ntmps28
        go_wp2_with fail
        refine (xmay1 _ _ _ _ true M1.out _ ((w.alloc (Obj.cells #[.bool true, .string s, .string t, .int .i64 e] 24)).alloc (Obj.cells #[.bool false, .string ⟨#[]⟩, .string ⟨#[]⟩, .int .i64 0] 24)) _ (by simp only [size_al]) (tabB TT.out B0)).mono ?_
        rintro r w1 ⟨rfl, b1⟩
        have B1 : Below w.heap.size w w1 := btr B0 b1
        have Rx_1 : w1.heap[w.heap.size]? = some (Obj.cells #[.bool true, .string s, .string t, .int .i64 e] 24) := heap_of b1 _ _ _ Rx_0
        have Rz_1 : w1.heap[w.heap.size + 1]? = some (Obj.cells #[.bool false, .string ⟨#[]⟩, .string ⟨#[]⟩, .int .i64 0] 24) := heap_of b1 _ _ _ Rz_0
        clear b1 B0 Rx_0 Rz_0
        have cx_1_0 := cells4 Rx_1 0 _ rfl
        have cx_1_1 := cells4 Rx_1 1 _ rfl
        have cx_1_2 := cells4 Rx_1 2 _ rfl
        have cx_1_3 := cells4 Rx_1 3 _ rfl
        have cz_1_0 := cells4 Rz_1 0 _ rfl
        have cz_1_1 := cells4 Rz_1 1 _ rfl
        have cz_1_2 := cells4 Rz_1 2 _ rfl
        have cz_1_3 := cells4 Rz_1 3 _ rfl
        go_wp2_with fail
        obtain ⟨F, hF1, hF2⟩ := below_fun w1
        have fx_0 := fun u => cells4 (heap_of (hF1 u) _ _ _ Rx_1) 0 _ rfl
        have fx_1 := fun u => cells4 (heap_of (hF1 u) _ _ _ Rx_1) 1 _ rfl
        have fx_2 := fun u => cells4 (heap_of (hF1 u) _ _ _ Rx_1) 2 _ rfl
        have fx_3 := fun u => cells4 (heap_of (hF1 u) _ _ _ Rx_1) 3 _ rfl
        have fz_0 := fun u => cells4 (heap_of (hF1 u) _ _ _ Rz_1) 0 _ rfl
        have fz_1 := fun u => cells4 (heap_of (hF1 u) _ _ _ Rz_1) 1 _ rfl
        have fz_2 := fun u => cells4 (heap_of (hF1 u) _ _ _ Rz_1) 2 _ rfl
        have fz_3 := fun u => cells4 (heap_of (hF1 u) _ _ _ Rz_1) 3 _ rfl
        refine wp_region_below F hF2 (by kernel_rfl) (by kernel_rfl) ?_
        repeat first | go_big_quiet_step (first | (go_at_call 38; exact quietF hF1 hF2 (zerox _)) | fail) | quiet_step (first | (go_at_call 38; exact quietF hF1 hF2 (zerox _)) | fail)
        refine wpQuiet_nil ?_
        rintro _ ⟨uW, rfl⟩
        have B2 := btr B1 (hF1 uW)
        have Rx_2 := heap_of (hF1 uW) _ _ _ Rx_1
        have Rz_2 := heap_of (hF1 uW) _ _ _ Rz_1
        obtain ⟨w2, hw⟩ : ∃ V, F uW = V := ⟨_, rfl⟩
        rw [hw] at B2 Rx_2 Rz_2
        try rw [hw]
        clear hw hF1 hF2 B1 fx_0 fx_1 fx_2 fx_3 fz_0 fz_1 fz_2 fz_3 Rx_1 cx_1_0 cx_1_1 cx_1_2 cx_1_3 Rz_1 cz_1_0 cz_1_1 cz_1_2 cz_1_3
        clear F
        have cx_2_0 := cells4 Rx_2 0 _ rfl
        have cx_2_1 := cells4 Rx_2 1 _ rfl
        have cx_2_2 := cells4 Rx_2 2 _ rfl
        have cx_2_3 := cells4 Rx_2 3 _ rfl
        have cz_2_0 := cells4 Rz_2 0 _ rfl
        have cz_2_1 := cells4 Rz_2 1 _ rfl
        have cz_2_2 := cells4 Rz_2 2 _ rfl
        have cz_2_3 := cells4 Rz_2 3 _ rfl
        go_wp2_with fail
        refine (withinx E 1048576 false (by decide) (by decide) HG.out _).mono ?_
        rintro r w3 ⟨rfl, b3⟩
        have B3 : Below w.heap.size w w3 := btr B2 b3
        have Rx_3 : w3.heap[w.heap.size]? = some (Obj.cells #[.bool true, .string s, .string t, .int .i64 e] 24) := heap_of b3 _ _ _ Rx_2
        have Rz_3 : w3.heap[w.heap.size + 1]? = some (Obj.cells #[.bool false, .string ⟨#[]⟩, .string ⟨#[]⟩, .int .i64 0] 24) := heap_of b3 _ _ _ Rz_2
        clear b3 B2 Rx_2 cx_2_0 cx_2_1 cx_2_2 cx_2_3 Rz_2 cz_2_0 cz_2_1 cz_2_2 cz_2_3
        have cx_3_0 := cells4 Rx_3 0 _ rfl
        have cx_3_1 := cells4 Rx_3 1 _ rfl
        have cx_3_2 := cells4 Rx_3 2 _ rfl
        have cx_3_3 := cells4 Rx_3 3 _ rfl
        have cz_3_0 := cells4 Rz_3 0 _ rfl
        have cz_3_1 := cells4 Rz_3 1 _ rfl
        have cz_3_2 := cells4 Rz_3 2 _ rfl
        have cz_3_3 := cells4 Rz_3 3 _ rfl
        have q0 := fz (k := 0) Rz_3
        have q1 := fz (k := 1) Rz_3
        have q2 := fz (k := 2) Rz_3
        have q3 := fz (k := 3) Rz_3
        obtain ⟨E0, E1, E2, E3⟩ := set4_cells Rz_3 rfl (.bool false) (.string ⟨#[]⟩) (.string ⟨#[]⟩) (.int .i64 0)
        go_wp2
        exact bodyPost_ret (v := .tuple #[.agg #[.bool false, .string ⟨#[]⟩, .string ⟨#[]⟩, .int .i64 0], .int .i64 4]) (by simp [results, Tryd.results28, go_sem, E0, E1, E2, E3]) rfl ⟨rfl, set4_below B3 (by first | exact Nat.le_refl _ | omega) _ _ _ _⟩
theorem Scalex_no (b : Bool) (e : Int) (s t : ByteArray) (k : Int) (h : ¬ MayX b s t e) (w : World) (hT : TabAt w) :
    Calls Tryd.prog 28 #[.agg #[.bool b, .string s, .string t, .int .i64 e], .int .i64 k] w fun r w' => r = .returned (.tuple #[.agg #[.bool false, .string ⟨#[]⟩, .string ⟨#[]⟩, .int .i64 0], .int .i64 2]) ∧ Below w.heap.size w w' := by
  have M1 := box (may_no h)
  have TT := box hT
  clear h hT
  have Rx_0 : ((w.alloc (Obj.cells #[.bool b, .string s, .string t, .int .i64 e] 24)).alloc (Obj.cells #[.bool false, .string ⟨#[]⟩, .string ⟨#[]⟩, .int .i64 0] 24)).heap[w.heap.size]? = some (Obj.cells #[.bool b, .string s, .string t, .int .i64 e] 24) := by rw [heap_below _ _ _ (by simp only [size_al]; omega)]; have := heap_alloc_last w (Obj.cells #[.bool b, .string s, .string t, .int .i64 e] 24); simpa only [size_al] using this
  have Rz_0 : ((w.alloc (Obj.cells #[.bool b, .string s, .string t, .int .i64 e] 24)).alloc (Obj.cells #[.bool false, .string ⟨#[]⟩, .string ⟨#[]⟩, .int .i64 0] 24)).heap[w.heap.size + 1]? = some (Obj.cells #[.bool false, .string ⟨#[]⟩, .string ⟨#[]⟩, .int .i64 0] 24) := by have := heap_alloc_last (w.alloc (Obj.cells #[.bool b, .string s, .string t, .int .i64 e] 24)) (Obj.cells #[.bool false, .string ⟨#[]⟩, .string ⟨#[]⟩, .int .i64 0] 24); simpa only [size_al] using this
  have B0 : Below w.heap.size w ((w.alloc (Obj.cells #[.bool b, .string s, .string t, .int .i64 e] 24)).alloc (Obj.cells #[.bool false, .string ⟨#[]⟩, .string ⟨#[]⟩, .int .i64 0] 24)) := (((Below.refl _ _).alloc (by first | omega | (simp only [size_al]; omega)) _).alloc (by first | omega | (simp only [size_al]; omega)) _)
  go_enter Tryd.func28, Tryd.ntmps28
  go_wp2_with fail
  refine (xmay1 _ _ _ _ false M1.out _ ((w.alloc (Obj.cells #[.bool b, .string s, .string t, .int .i64 e] 24)).alloc (Obj.cells #[.bool false, .string ⟨#[]⟩, .string ⟨#[]⟩, .int .i64 0] 24)) _ (by simp only [size_al]) (tabB TT.out B0)).mono ?_
  rintro r w1 ⟨rfl, b1⟩
  have B1 : Below w.heap.size w w1 := btr B0 b1
  have Rx_1 : w1.heap[w.heap.size]? = some (Obj.cells #[.bool b, .string s, .string t, .int .i64 e] 24) := heap_of b1 _ _ _ Rx_0
  have Rz_1 : w1.heap[w.heap.size + 1]? = some (Obj.cells #[.bool false, .string ⟨#[]⟩, .string ⟨#[]⟩, .int .i64 0] 24) := heap_of b1 _ _ _ Rz_0
  clear b1 B0 Rx_0 Rz_0
  have cx_1_0 := cells4 Rx_1 0 _ rfl
  have cx_1_1 := cells4 Rx_1 1 _ rfl
  have cx_1_2 := cells4 Rx_1 2 _ rfl
  have cx_1_3 := cells4 Rx_1 3 _ rfl
  have cz_1_0 := cells4 Rz_1 0 _ rfl
  have cz_1_1 := cells4 Rz_1 1 _ rfl
  have cz_1_2 := cells4 Rz_1 2 _ rfl
  have cz_1_3 := cells4 Rz_1 3 _ rfl
  have q0 := fz (k := 0) Rz_1
  have q1 := fz (k := 1) Rz_1
  have q2 := fz (k := 2) Rz_1
  have q3 := fz (k := 3) Rz_1
  obtain ⟨E0, E1, E2, E3⟩ := set4_cells Rz_1 rfl (.bool false) (.string ⟨#[]⟩) (.string ⟨#[]⟩) (.int .i64 0)
  go_wp2
  exact bodyPost_ret (v := .tuple #[.agg #[.bool false, .string ⟨#[]⟩, .string ⟨#[]⟩, .int .i64 0], .int .i64 2]) (by simp [results, Tryd.results28, go_sem, E0, E1, E2, E3]) rfl ⟨rfl, set4_below B1 (by first | exact Nat.le_refl _ | omega) _ _ _ _⟩

theorem cmpv_neg (a b : Nat) : cmpv a b < 0 ↔ a < b := by
  unfold cmpv
  split
  · exact ⟨fun h => absurd h (by decide), fun h => by omega⟩
  · split
    · exact ⟨fun _ => by assumption, fun _ => by decide⟩
    · exact ⟨fun h => absurd h (by decide), fun h => by omega⟩
theorem lf_up (a : Nat) (k : Nat) (v : ByteArray) (h : nl (a * 2 ^ k) ≤ 16384) (hv : nbA (a * 2 ^ k) = v) : lf a (k : Int) = (v, 0) := by
  unfold lf
  rw [if_neg (by omega), Int.toNat_natCast]
  exact lg_ok _ v h hv
theorem nl_blen (a b : Nat) (h : blen a = blen b) (hb : nl b ≤ 16384) : nl a ≤ 16384 := by unfold nl at hb ⊢; rw [h]; exact hb
/-- How long both are that top compares. -/
theorem tAB_nl (x : XN) (n0 : x.n ≠ 0) (d0 : x.d ≠ 0) (ln : nl x.n ≤ 16384) (ld : nl x.d ≤ 16384) : nl (tA x) ≤ 16384 ∧ nl (tB x) ≤ 16384 := by
  obtain ⟨h1, _, _⟩ := tA_len x n0 d0
  by_cases h : 0 ≤ lenD x
  · have e : tA x = x.n := by unfold tA; rw [show (max (-lenD x) 0).toNat = 0 by omega, Nat.pow_zero, Nat.mul_one]
    have k : nl (tA x) ≤ 16384 := by rw [e]; exact ln
    exact ⟨k, nl_blen _ _ h1.symm k⟩
  · have e : tB x = x.d := by unfold tB; rw [show (max (lenD x) 0).toNat = 0 by omega, Nat.pow_zero, Nat.mul_one]
    have k : nl (tB x) ≤ 16384 := by rw [e]; exact ld
    exact ⟨nl_blen _ _ h1 k, k⟩

set_option maxRecDepth 100000 in
set_option maxHeartbeats 1000000 in
theorem topx (b : Bool) (n d : Nat) (e : Int) (s t : ByteArray) (T : Int) (hs : nbA n = s) (ht : nbA d = t) (n0 : n ≠ 0) (d0 : d ≠ 0) (ln : nl n ≤ 16384) (ld : nl d ≤ 16384) (he : -1048576 ≤ e ∧ e ≤ 1048576) (hr : topX (XN.mk b n d e) = T) (w : World) :
    Calls Tryd.prog 56 #[.agg #[.bool b, .string s, .string t, .int .i64 e]] w fun r w' => r = .returned (.int .i64 T) ∧ Below w.heap.size w w' := by
  obtain ⟨l1, l2⟩ := tAB_nl (XN.mk b n d e) n0 d0 ln ld
  obtain ⟨x, hx⟩ : ∃ x, blen n = x := ⟨_, rfl⟩
  obtain ⟨y, hy⟩ : ∃ x, blen d = x := ⟨_, rfl⟩
  have x2 : x ≤ 131072 := by unfold nl at ln; omega
  have y2 : y ≤ 131072 := by unfold nl at ld; omega
  obtain ⟨k, hk⟩ : ∃ k, (x : Int) - (y : Int) = k := ⟨_, rfl⟩
  have hlen : lenD (XN.mk b n d e) = k := by unfold lenD; show (blen n : Int) - (blen d : Int) = k; rw [hx, hy, hk]
  obtain ⟨i, hi⟩ : ∃ i, (max (-k) 0).toNat = i := ⟨_, rfl⟩
  obtain ⟨j, hj⟩ : ∃ i, (max k 0).toNat = i := ⟨_, rfl⟩
  have eA : tA (XN.mk b n d e) = n * 2 ^ i := by unfold tA; rw [hlen, hi]
  have eB : tB (XN.mk b n d e) = d * 2 ^ j := by unfold tB; rw [hlen, hj]
  rw [eA] at l1
  rw [eB] at l2
  obtain ⟨p, hp⟩ : ∃ p, nbA (n * 2 ^ i) = p := ⟨_, rfl⟩
  obtain ⟨q, hq⟩ : ∃ p, nbA (d * 2 ^ j) = p := ⟨_, rfl⟩
  have F1 := box (lf_up n i p l1 hp)
  have F2 := box (lf_up d j q l2 hq)
  obtain ⟨c, hc⟩ : ∃ c, cmpv (n * 2 ^ i) (d * 2 ^ j) = c := ⟨_, rfl⟩
  have hlt : decide (c < 0) = decide (n * 2 ^ i < d * 2 ^ j) := by rw [← hc, Bool.eq_iff_iff, decide_eq_true_iff, decide_eq_true_iff]; exact cmpv_neg _ _
  have hT2 : T = (if n * 2 ^ i < d * 2 ^ j then k - 1 else k) + e := by rw [← hr]; unfold topX; rw [eA, eB, hlen]
  have HS := box hs
  have HT := box ht
  have LN := box ln
  have LD := box ld
  have HX := box hx
  have HY := box hy
  have HP := box hp
  have HQ := box hq
  have L1 := box l1
  have L2 := box l2
  have HC := box hc
  have n1 : IntKind.i64.wrap ((x : Int) - (y : Int)) = k := by rw [wrap_i64_is _ (by omega) (by omega), hk]
  have n2 : IntKind.i64.wrap (-k) = -k := wrap_i64_is _ (by omega) (by omega)
  have n3 : max (-k) 0 = (i : Int) := by omega
  have n4 : max k 0 = (j : Int) := by omega
  have n5 : IntKind.i64.wrap (k - 1) = k - 1 := wrap_i64_is _ (by omega) (by omega)
  have n6 : IntKind.i64.wrap (k - 1 + e) = k - 1 + e := wrap_i64_is _ (by omega) (by omega)
  have n7 : IntKind.i64.wrap (k + e) = k + e := wrap_i64_is _ (by omega) (by omega)
  have i2 : i ≤ 131072 := by omega
  have j2 : j ≤ 131072 := by omega
  by_cases hl : n * 2 ^ i < d * 2 ^ j
  · rw [if_pos hl] at hT2
    rw [decide_eq_true hl] at hlt
    subst hT2
    clear hs ht ln ld hx hy hk hlen hi hj eA eB l1 l2 hp hq hc hl hr he n0 d0
    have Rx_0 : (w.alloc (Obj.cells #[.bool b, .string s, .string t, .int .i64 e] 24)).heap[w.heap.size]? = some (Obj.cells #[.bool b, .string s, .string t, .int .i64 e] 24) := by have := heap_alloc_last w (Obj.cells #[.bool b, .string s, .string t, .int .i64 e] 24); simpa only [size_al] using this
    have B0 : Below w.heap.size w (w.alloc (Obj.cells #[.bool b, .string s, .string t, .int .i64 e] 24)) := ((Below.refl _ _).alloc (by first | omega | (simp only [size_al]; omega)) _)
    go_enter Tryd.func56, Tryd.ntmps56
    go_wp2_with fail
    obtain ⟨F, hF1, hF2⟩ := below_fun (w.alloc (Obj.cells #[.bool b, .string s, .string t, .int .i64 e] 24))
    have fx_0 := fun u => cells4 (heap_of (hF1 u) _ _ _ Rx_0) 0 _ rfl
    have fx_1 := fun u => cells4 (heap_of (hF1 u) _ _ _ Rx_0) 1 _ rfl
    have fx_2 := fun u => cells4 (heap_of (hF1 u) _ _ _ Rx_0) 2 _ rfl
    have fx_3 := fun u => cells4 (heap_of (hF1 u) _ _ _ Rx_0) 3 _ rfl
    refine wp_region_below F hF2 (by kernel_rfl) (by kernel_rfl) ?_
    repeat first | go_big_quiet_step (first | (go_at_call_of 81 (Value.string s); exact quietF hF1 hF2 (pn_len_ok n x s HS.out LN.out HX.out _)) | (go_at_call_of 81 (Value.string t); exact quietF hF1 hF2 (pn_len_ok d y t HT.out LD.out HY.out _)) | fail) | quiet_step (first | (go_at_call_of 81 (Value.string s); exact quietF hF1 hF2 (pn_len_ok n x s HS.out LN.out HX.out _)) | (go_at_call_of 81 (Value.string t); exact quietF hF1 hF2 (pn_len_ok d y t HT.out LD.out HY.out _)) | fail)
    refine wpQuiet_nil ?_
    rintro _ ⟨uW, rfl⟩
    have B1 := btr B0 (hF1 uW)
    have Rx_1 := heap_of (hF1 uW) _ _ _ Rx_0
    obtain ⟨w1, hw⟩ : ∃ V, F uW = V := ⟨_, rfl⟩
    rw [hw] at B1 Rx_1
    try rw [hw]
    clear hw hF1 hF2 B0 fx_0 fx_1 fx_2 fx_3 Rx_0
    clear F
    have cx_1_0 := cells4 Rx_1 0 _ rfl
    have cx_1_1 := cells4 Rx_1 1 _ rfl
    have cx_1_2 := cells4 Rx_1 2 _ rfl
    have cx_1_3 := cells4 Rx_1 3 _ rfl
    go_wp2_with fail
    refine (pn_left_ok n (i : Int) s p 0 HS.out LN.out (by omega) (by omega) F1.out _).mono ?_
    rintro r w2 ⟨rfl, b2⟩
    have B2 : Below w.heap.size w w2 := btr B1 b2
    have Rx_2 : w2.heap[w.heap.size]? = some (Obj.cells #[.bool b, .string s, .string t, .int .i64 e] 24) := heap_of b2 _ _ _ Rx_1
    clear b2 B1 Rx_1 cx_1_0 cx_1_1 cx_1_2 cx_1_3
    have cx_2_0 := cells4 Rx_2 0 _ rfl
    have cx_2_1 := cells4 Rx_2 1 _ rfl
    have cx_2_2 := cells4 Rx_2 2 _ rfl
    have cx_2_3 := cells4 Rx_2 3 _ rfl
    go_wp2_with fail
    refine (pn_left_ok d (j : Int) t q 0 HT.out LD.out (by omega) (by omega) F2.out _).mono ?_
    rintro r w3 ⟨rfl, b3⟩
    have B3 : Below w.heap.size w w3 := btr B2 b3
    have Rx_3 : w3.heap[w.heap.size]? = some (Obj.cells #[.bool b, .string s, .string t, .int .i64 e] 24) := heap_of b3 _ _ _ Rx_2
    clear b3 B2 Rx_2 cx_2_0 cx_2_1 cx_2_2 cx_2_3
    have cx_3_0 := cells4 Rx_3 0 _ rfl
    have cx_3_1 := cells4 Rx_3 1 _ rfl
    have cx_3_2 := cells4 Rx_3 2 _ rfl
    have cx_3_3 := cells4 Rx_3 3 _ rfl
    go_wp2_with fail
    refine (pn_cmp_ok (n * 2 ^ i) (d * 2 ^ j) p q c HP.out HQ.out L1.out L2.out HC.out _).mono ?_
    rintro r w4 ⟨rfl, b4⟩
    have B4 : Below w.heap.size w w4 := btr B3 b4
    have Rx_4 : w4.heap[w.heap.size]? = some (Obj.cells #[.bool b, .string s, .string t, .int .i64 e] 24) := heap_of b4 _ _ _ Rx_3
    clear b4 B3 Rx_3 cx_3_0 cx_3_1 cx_3_2 cx_3_3
    have cx_4_0 := cells4 Rx_4 0 _ rfl
    have cx_4_1 := cells4 Rx_4 1 _ rfl
    have cx_4_2 := cells4 Rx_4 2 _ rfl
    have cx_4_3 := cells4 Rx_4 3 _ rfl
    go_wp2
    go_ret
    exact ⟨rfl, B4⟩
  · rw [if_neg hl] at hT2
    rw [decide_eq_false hl] at hlt
    subst hT2
    clear hs ht ln ld hx hy hk hlen hi hj eA eB l1 l2 hp hq hc hl hr he n0 d0
    have Rx_0 : (w.alloc (Obj.cells #[.bool b, .string s, .string t, .int .i64 e] 24)).heap[w.heap.size]? = some (Obj.cells #[.bool b, .string s, .string t, .int .i64 e] 24) := by have := heap_alloc_last w (Obj.cells #[.bool b, .string s, .string t, .int .i64 e] 24); simpa only [size_al] using this
    have B0 : Below w.heap.size w (w.alloc (Obj.cells #[.bool b, .string s, .string t, .int .i64 e] 24)) := ((Below.refl _ _).alloc (by first | omega | (simp only [size_al]; omega)) _)
    go_enter Tryd.func56, Tryd.ntmps56
    go_wp2_with fail
    obtain ⟨F, hF1, hF2⟩ := below_fun (w.alloc (Obj.cells #[.bool b, .string s, .string t, .int .i64 e] 24))
    have fx_0 := fun u => cells4 (heap_of (hF1 u) _ _ _ Rx_0) 0 _ rfl
    have fx_1 := fun u => cells4 (heap_of (hF1 u) _ _ _ Rx_0) 1 _ rfl
    have fx_2 := fun u => cells4 (heap_of (hF1 u) _ _ _ Rx_0) 2 _ rfl
    have fx_3 := fun u => cells4 (heap_of (hF1 u) _ _ _ Rx_0) 3 _ rfl
    refine wp_region_below F hF2 (by kernel_rfl) (by kernel_rfl) ?_
    repeat first | go_big_quiet_step (first | (go_at_call_of 81 (Value.string s); exact quietF hF1 hF2 (pn_len_ok n x s HS.out LN.out HX.out _)) | (go_at_call_of 81 (Value.string t); exact quietF hF1 hF2 (pn_len_ok d y t HT.out LD.out HY.out _)) | fail) | quiet_step (first | (go_at_call_of 81 (Value.string s); exact quietF hF1 hF2 (pn_len_ok n x s HS.out LN.out HX.out _)) | (go_at_call_of 81 (Value.string t); exact quietF hF1 hF2 (pn_len_ok d y t HT.out LD.out HY.out _)) | fail)
    refine wpQuiet_nil ?_
    rintro _ ⟨uW, rfl⟩
    have B1 := btr B0 (hF1 uW)
    have Rx_1 := heap_of (hF1 uW) _ _ _ Rx_0
    obtain ⟨w1, hw⟩ : ∃ V, F uW = V := ⟨_, rfl⟩
    rw [hw] at B1 Rx_1
    try rw [hw]
    clear hw hF1 hF2 B0 fx_0 fx_1 fx_2 fx_3 Rx_0
    clear F
    have cx_1_0 := cells4 Rx_1 0 _ rfl
    have cx_1_1 := cells4 Rx_1 1 _ rfl
    have cx_1_2 := cells4 Rx_1 2 _ rfl
    have cx_1_3 := cells4 Rx_1 3 _ rfl
    go_wp2_with fail
    refine (pn_left_ok n (i : Int) s p 0 HS.out LN.out (by omega) (by omega) F1.out _).mono ?_
    rintro r w2 ⟨rfl, b2⟩
    have B2 : Below w.heap.size w w2 := btr B1 b2
    have Rx_2 : w2.heap[w.heap.size]? = some (Obj.cells #[.bool b, .string s, .string t, .int .i64 e] 24) := heap_of b2 _ _ _ Rx_1
    clear b2 B1 Rx_1 cx_1_0 cx_1_1 cx_1_2 cx_1_3
    have cx_2_0 := cells4 Rx_2 0 _ rfl
    have cx_2_1 := cells4 Rx_2 1 _ rfl
    have cx_2_2 := cells4 Rx_2 2 _ rfl
    have cx_2_3 := cells4 Rx_2 3 _ rfl
    go_wp2_with fail
    refine (pn_left_ok d (j : Int) t q 0 HT.out LD.out (by omega) (by omega) F2.out _).mono ?_
    rintro r w3 ⟨rfl, b3⟩
    have B3 : Below w.heap.size w w3 := btr B2 b3
    have Rx_3 : w3.heap[w.heap.size]? = some (Obj.cells #[.bool b, .string s, .string t, .int .i64 e] 24) := heap_of b3 _ _ _ Rx_2
    clear b3 B2 Rx_2 cx_2_0 cx_2_1 cx_2_2 cx_2_3
    have cx_3_0 := cells4 Rx_3 0 _ rfl
    have cx_3_1 := cells4 Rx_3 1 _ rfl
    have cx_3_2 := cells4 Rx_3 2 _ rfl
    have cx_3_3 := cells4 Rx_3 3 _ rfl
    go_wp2_with fail
    refine (pn_cmp_ok (n * 2 ^ i) (d * 2 ^ j) p q c HP.out HQ.out L1.out L2.out HC.out _).mono ?_
    rintro r w4 ⟨rfl, b4⟩
    have B4 : Below w.heap.size w w4 := btr B3 b4
    have Rx_4 : w4.heap[w.heap.size]? = some (Obj.cells #[.bool b, .string s, .string t, .int .i64 e] 24) := heap_of b4 _ _ _ Rx_3
    clear b4 B3 Rx_3 cx_3_0 cx_3_1 cx_3_2 cx_3_3
    have cx_4_0 := cells4 Rx_4 0 _ rfl
    have cx_4_1 := cells4 Rx_4 1 _ rfl
    have cx_4_2 := cells4 Rx_4 2 _ rfl
    have cx_4_3 := cells4 Rx_4 3 _ rfl
    go_wp2
    go_ret
    exact ⟨rfl, B4⟩

set_option maxRecDepth 100000 in
set_option maxHeartbeats 1000000 in
theorem Topx_ok (b : Bool) (n d : Nat) (e : Int) (s t : ByteArray) (T : Int) (hs : nbA n = s) (ht : nbA d = t) (n0 : n ≠ 0) (hc : (XN.mk b n d e).can) (hr : topX (XN.mk b n d e) = T) (w : World) (hT : TabAt w) :
    Calls Tryd.prog 29 #[.agg #[.bool b, .string s, .string t, .int .i64 e]] w fun r w' => r = .returned (.tuple #[.int .i64 T, .int .i64 0]) ∧ Below w.heap.size w w' := by
  have M1 := box (may_yes hs ht hc)
  have TT := box hT
  have e0 := eq_nil n s hs n0
  have HF := box (fun w => topx b n d e s t T hs ht n0 hc.d0 hc.1 hc.2.1 ⟨hc.2.2.1, hc.2.2.2.1⟩ hr w)
  clear hs ht n0 hc hr hT
  cases b
  · have Rx_0 : (w.alloc (Obj.cells #[.bool false, .string s, .string t, .int .i64 e] 24)).heap[w.heap.size]? = some (Obj.cells #[.bool false, .string s, .string t, .int .i64 e] 24) := by have := heap_alloc_last w (Obj.cells #[.bool false, .string s, .string t, .int .i64 e] 24); simpa only [size_al] using this
    have B0 : Below w.heap.size w (w.alloc (Obj.cells #[.bool false, .string s, .string t, .int .i64 e] 24)) := ((Below.refl _ _).alloc (by first | omega | (simp only [size_al]; omega)) _)
    go_enter Tryd.func29, Tryd.ntmps29
    go_wp2_with fail
    apply cut_same
    · intro key
      go_region_with (first | (go_at_call 51; refine (xmay1d _ _ _ _ true M1.out _ (w.alloc (Obj.cells #[.bool false, .string s, .string t, .int .i64 e] 24)) _ (by simp only [size_al]) (tabB TT.out B0)).mono ?_; rintro r w1 ⟨rfl, b1⟩; have B1 : Below w.heap.size w w1 := btr B0 b1; have Rx_1 : w1.heap[w.heap.size]? = some (Obj.cells #[.bool false, .string s, .string t, .int .i64 e] 24) := heap_of b1 _ _ _ Rx_0; have cx_1_0 := cells4 Rx_1 0 _ rfl; have cx_1_1 := cells4 Rx_1 1 _ rfl; have cx_1_2 := cells4 Rx_1 2 _ rfl; have cx_1_3 := cells4 Rx_1 3 _ rfl) | (go_at_call 38; refine (zerox _).mono ?_; rintro r w2 ⟨rfl, b2⟩; have B2 : Below w.heap.size w w2 := btr B1 b2; have Rx_2 : w2.heap[w.heap.size]? = some (Obj.cells #[.bool false, .string s, .string t, .int .i64 e] 24) := heap_of b2 _ _ _ Rx_1; have cx_2_0 := cells4 Rx_2 0 _ rfl; have cx_2_1 := cells4 Rx_2 1 _ rfl; have cx_2_2 := cells4 Rx_2 2 _ rfl; have cx_2_3 := cells4 Rx_2 3 _ rfl))
      all_goals
        clear cx_2_0 cx_2_1 cx_2_2 cx_2_3 b2
        clear cx_1_0 cx_1_1 cx_1_2 cx_1_3 Rx_1 b1 B1
        clear w1
        revert w2
        exact key
    intro w2 B2 Rx_2
    clear B0 Rx_0
    have cx_2_0 := cells4 Rx_2 0 _ rfl
    have cx_2_1 := cells4 Rx_2 1 _ rfl
    have cx_2_2 := cells4 Rx_2 2 _ rfl
    have cx_2_3 := cells4 Rx_2 3 _ rfl
    go_wp2_with fail
    refine (HF.out _).mono ?_
    rintro r w3 ⟨rfl, b3⟩
    have B3 : Below w.heap.size w w3 := btr B2 b3
    have Rx_3 : w3.heap[w.heap.size]? = some (Obj.cells #[.bool false, .string s, .string t, .int .i64 e] 24) := heap_of b3 _ _ _ Rx_2
    clear b3 B2 Rx_2 cx_2_0 cx_2_1 cx_2_2 cx_2_3
    have cx_3_0 := cells4 Rx_3 0 _ rfl
    have cx_3_1 := cells4 Rx_3 1 _ rfl
    have cx_3_2 := cells4 Rx_3 2 _ rfl
    have cx_3_3 := cells4 Rx_3 3 _ rfl
    go_wp2
    go_ret2
    exact ⟨rfl, B3⟩
  · have Rx_0 : (w.alloc (Obj.cells #[.bool true, .string s, .string t, .int .i64 e] 24)).heap[w.heap.size]? = some (Obj.cells #[.bool true, .string s, .string t, .int .i64 e] 24) := by have := heap_alloc_last w (Obj.cells #[.bool true, .string s, .string t, .int .i64 e] 24); simpa only [size_al] using this
    have B0 : Below w.heap.size w (w.alloc (Obj.cells #[.bool true, .string s, .string t, .int .i64 e] 24)) := ((Below.refl _ _).alloc (by first | omega | (simp only [size_al]; omega)) _)
    go_enter Tryd.func29, Tryd.ntmps29
    go_wp2_with fail
    apply cut_same
    · intro key
      go_region_with (first | (go_at_call 51; refine (xmay1d _ _ _ _ true M1.out _ (w.alloc (Obj.cells #[.bool true, .string s, .string t, .int .i64 e] 24)) _ (by simp only [size_al]) (tabB TT.out B0)).mono ?_; rintro r w1 ⟨rfl, b1⟩; have B1 : Below w.heap.size w w1 := btr B0 b1; have Rx_1 : w1.heap[w.heap.size]? = some (Obj.cells #[.bool true, .string s, .string t, .int .i64 e] 24) := heap_of b1 _ _ _ Rx_0; have cx_1_0 := cells4 Rx_1 0 _ rfl; have cx_1_1 := cells4 Rx_1 1 _ rfl; have cx_1_2 := cells4 Rx_1 2 _ rfl; have cx_1_3 := cells4 Rx_1 3 _ rfl) | (go_at_call 38; refine (zerox _).mono ?_; rintro r w2 ⟨rfl, b2⟩; have B2 : Below w.heap.size w w2 := btr B1 b2; have Rx_2 : w2.heap[w.heap.size]? = some (Obj.cells #[.bool true, .string s, .string t, .int .i64 e] 24) := heap_of b2 _ _ _ Rx_1; have cx_2_0 := cells4 Rx_2 0 _ rfl; have cx_2_1 := cells4 Rx_2 1 _ rfl; have cx_2_2 := cells4 Rx_2 2 _ rfl; have cx_2_3 := cells4 Rx_2 3 _ rfl))
      all_goals
        clear cx_2_0 cx_2_1 cx_2_2 cx_2_3 b2
        clear cx_1_0 cx_1_1 cx_1_2 cx_1_3 Rx_1 b1 B1
        clear w1
        revert w2
        exact key
    intro w2 B2 Rx_2
    clear B0 Rx_0
    have cx_2_0 := cells4 Rx_2 0 _ rfl
    have cx_2_1 := cells4 Rx_2 1 _ rfl
    have cx_2_2 := cells4 Rx_2 2 _ rfl
    have cx_2_3 := cells4 Rx_2 3 _ rfl
    go_wp2_with fail
    refine (HF.out _).mono ?_
    rintro r w3 ⟨rfl, b3⟩
    have B3 : Below w.heap.size w w3 := btr B2 b3
    have Rx_3 : w3.heap[w.heap.size]? = some (Obj.cells #[.bool true, .string s, .string t, .int .i64 e] 24) := heap_of b3 _ _ _ Rx_2
    clear b3 B2 Rx_2 cx_2_0 cx_2_1 cx_2_2 cx_2_3
    have cx_3_0 := cells4 Rx_3 0 _ rfl
    have cx_3_1 := cells4 Rx_3 1 _ rfl
    have cx_3_2 := cells4 Rx_3 2 _ rfl
    have cx_3_3 := cells4 Rx_3 3 _ rfl
    go_wp2
    go_ret2
    exact ⟨rfl, B3⟩
set_option maxRecDepth 100000 in
theorem Topx_null (w : World) (hT : TabAt w) : Calls Tryd.prog 29 #[.agg #[.bool false, .string ⟨#[]⟩, .string ⟨#[1]⟩, .int .i64 0]] w fun r w' => r = .returned (.tuple #[.int .i64 0, .int .i64 2]) ∧ Below w.heap.size w w' := by
  have M1 : Box (IsM true false ⟨#[]⟩ ⟨#[1]⟩ 0) := box (may_yes nbA_zero nb1 x0_can)
  have TT := box hT
  clear hT
  have Rx_0 : (w.alloc (Obj.cells #[.bool false, .string ⟨#[]⟩, .string ⟨#[1]⟩, .int .i64 0] 24)).heap[w.heap.size]? = some (Obj.cells #[.bool false, .string ⟨#[]⟩, .string ⟨#[1]⟩, .int .i64 0] 24) := by have := heap_alloc_last w (Obj.cells #[.bool false, .string ⟨#[]⟩, .string ⟨#[1]⟩, .int .i64 0] 24); simpa only [size_al] using this
  have B0 : Below w.heap.size w (w.alloc (Obj.cells #[.bool false, .string ⟨#[]⟩, .string ⟨#[1]⟩, .int .i64 0] 24)) := ((Below.refl _ _).alloc (by first | omega | (simp only [size_al]; omega)) _)
  go_enter Tryd.func29, Tryd.ntmps29
  go_wp2_with fail
  apply cut_same
  · intro key
    go_region_with (first | (go_at_call 51; refine (xmay1d _ _ _ _ true M1.out _ (w.alloc (Obj.cells #[.bool false, .string ⟨#[]⟩, .string ⟨#[1]⟩, .int .i64 0] 24)) _ (by simp only [size_al]) (tabB TT.out B0)).mono ?_; rintro r w1 ⟨rfl, b1⟩; have B1 : Below w.heap.size w w1 := btr B0 b1; have Rx_1 : w1.heap[w.heap.size]? = some (Obj.cells #[.bool false, .string ⟨#[]⟩, .string ⟨#[1]⟩, .int .i64 0] 24) := heap_of b1 _ _ _ Rx_0; have cx_1_0 := cells4 Rx_1 0 _ rfl; have cx_1_1 := cells4 Rx_1 1 _ rfl; have cx_1_2 := cells4 Rx_1 2 _ rfl; have cx_1_3 := cells4 Rx_1 3 _ rfl) | (go_at_call 38; refine (zerox _).mono ?_; rintro r w2 ⟨rfl, b2⟩; have B2 : Below w.heap.size w w2 := btr B1 b2; have Rx_2 : w2.heap[w.heap.size]? = some (Obj.cells #[.bool false, .string ⟨#[]⟩, .string ⟨#[1]⟩, .int .i64 0] 24) := heap_of b2 _ _ _ Rx_1; have cx_2_0 := cells4 Rx_2 0 _ rfl; have cx_2_1 := cells4 Rx_2 1 _ rfl; have cx_2_2 := cells4 Rx_2 2 _ rfl; have cx_2_3 := cells4 Rx_2 3 _ rfl))
    all_goals
      clear cx_2_0 cx_2_1 cx_2_2 cx_2_3 b2
      clear cx_1_0 cx_1_1 cx_1_2 cx_1_3 Rx_1 b1 B1
      clear w1
      revert w2
      exact key
  intro w2 B2 Rx_2
  clear B0 Rx_0
  have cx_2_0 := cells4 Rx_2 0 _ rfl
  have cx_2_1 := cells4 Rx_2 1 _ rfl
  have cx_2_2 := cells4 Rx_2 2 _ rfl
  have cx_2_3 := cells4 Rx_2 3 _ rfl
  go_wp2
  go_ret2
  exact ⟨rfl, B2⟩
set_option maxRecDepth 100000 in
theorem Topx_no (b : Bool) (e : Int) (s t : ByteArray) (h : ¬ MayX b s t e) (w : World) (hT : TabAt w) : Calls Tryd.prog 29 #[.agg #[.bool b, .string s, .string t, .int .i64 e]] w fun r w' => r = .returned (.tuple #[.int .i64 0, .int .i64 2]) ∧ Below w.heap.size w w' := by
  have M1 := box (may_no h)
  have TT := box hT
  clear h hT
  have Rx_0 : (w.alloc (Obj.cells #[.bool b, .string s, .string t, .int .i64 e] 24)).heap[w.heap.size]? = some (Obj.cells #[.bool b, .string s, .string t, .int .i64 e] 24) := by have := heap_alloc_last w (Obj.cells #[.bool b, .string s, .string t, .int .i64 e] 24); simpa only [size_al] using this
  have B0 : Below w.heap.size w (w.alloc (Obj.cells #[.bool b, .string s, .string t, .int .i64 e] 24)) := ((Below.refl _ _).alloc (by first | omega | (simp only [size_al]; omega)) _)
  go_enter Tryd.func29, Tryd.ntmps29
  go_wp2_with fail
  apply cut_same
  · intro key
    go_region_with (first | (go_at_call 51; refine (xmay1d _ _ _ _ false M1.out _ (w.alloc (Obj.cells #[.bool b, .string s, .string t, .int .i64 e] 24)) _ (by simp only [size_al]) (tabB TT.out B0)).mono ?_; rintro r w1 ⟨rfl, b1⟩; have B1 : Below w.heap.size w w1 := btr B0 b1; have Rx_1 : w1.heap[w.heap.size]? = some (Obj.cells #[.bool b, .string s, .string t, .int .i64 e] 24) := heap_of b1 _ _ _ Rx_0; have cx_1_0 := cells4 Rx_1 0 _ rfl; have cx_1_1 := cells4 Rx_1 1 _ rfl; have cx_1_2 := cells4 Rx_1 2 _ rfl; have cx_1_3 := cells4 Rx_1 3 _ rfl))
    all_goals
      clear cx_1_0 cx_1_1 cx_1_2 cx_1_3 b1
      revert w1
      exact key
  intro w1 B1 Rx_1
  clear B0 Rx_0
  have cx_1_0 := cells4 Rx_1 0 _ rfl
  have cx_1_1 := cells4 Rx_1 1 _ rfl
  have cx_1_2 := cells4 Rx_1 2 _ rfl
  have cx_1_3 := cells4 Rx_1 3 _ rfl
  go_wp2
  go_ret2
  exact ⟨rfl, B1⟩
end Go.Proofs.YthiongcednmjiaaDoor
