/-
  What the functions that the statement reaches return: part 10 (X12).
-/
import Derived.Test.YtkmlbjlaahcahaaGreatDoorNa09
namespace Go.Proofs.YtkmlbjlaahcahaaGreatDoor
set_option maxRecDepth 100000
open Go.RowKit WMath XMath

theorem sS_nl (x y : XN) (hx : nl (XMath.sA x y) ≤ 16384) (hy : nl (XMath.sA y x) ≤ 16384) (hb : x.b ≠ y.b) : nl (sS x y) ≤ 16384 := by
  unfold sS
  rw [if_neg hb]
  split
  · exact Nat.le_trans (nl_mono _ _ (Nat.sub_le _ _)) hy
  · exact Nat.le_trans (nl_mono _ _ (Nat.sub_le _ _)) hx

set_option maxRecDepth 100000 in
set_option maxHeartbeats 4000000 in
theorem sumx (b : Bool) (n d : Nat) (e : Int) (s t : ByteArray) (c : Bool) (m f : Nat) (g : Int) (p q : ByteArray) (rb : Bool) (rn rd : Nat) (re err : Int) (u v : ByteArray)
    (hs : nbA n = s) (ht : nbA d = t) (hp : nbA m = p) (hq : nbA f = q) (hx : (XN.mk b n d e).can) (hy : (XN.mk c m f g).can) (hr : addX (XN.mk b n d e) (XN.mk c m f g) = (⟨rb, rn, rd, re⟩, err)) (hu : nbA rn = u) (hv : nbA rd = v) (w : World) (hT : TabAt w) :
    Calls Tryz.prog 87 #[.agg #[.bool b, .string s, .string t, .int .i64 e], .agg #[.bool c, .string p, .string q, .int .i64 g]] w fun r w' => r = .returned (.tuple #[.agg #[.bool rb, .string u, .string v, .int .i64 re], .int .i64 err]) ∧ Below w.heap.size w w' := by
  have TT := box hT
  unfold addX at hr
  rcases x_cases hs ht hx with ⟨n0, rfl, rfl, rfl, rfl, rfl⟩ | ⟨n0, e0⟩
  · rw [if_pos n0] at hr
    injection hr with h1 h2
    injection h1 with a1 a2 a3 a4
    subst a1 a2 a3 a4 h2
    rw [hp] at hu
    rw [hq] at hv
    subst hu hv
    clear hs ht hp hq hx hy hT n0
    obtain ⟨Rx_0, Ry_0, Rz_0, B0⟩ := opn3 w (Obj.cells #[.bool false, .string ⟨#[]⟩, .string ⟨#[1]⟩, .int .i64 0] 28) (Obj.cells #[.bool c, .string p, .string q, .int .i64 g] 28) (Obj.cells #[.bool false, .string ⟨#[]⟩, .string ⟨#[]⟩, .int .i64 0] 28)
    go_enter Tryz.func87, Tryz.ntmps87
    go_wp2_with fail
    obtain ⟨F, hF1, hF2⟩ := below_fun (((w.alloc (Obj.cells #[.bool false, .string ⟨#[]⟩, .string ⟨#[1]⟩, .int .i64 0] 28)).alloc (Obj.cells #[.bool c, .string p, .string q, .int .i64 g] 28)).alloc (Obj.cells #[.bool false, .string ⟨#[]⟩, .string ⟨#[]⟩, .int .i64 0] 28))
    have fx_0 := fun u => cells4 (heap_of (hF1 u) _ _ _ Rx_0) 0 _ rfl
    have fx_1 := fun u => cells4 (heap_of (hF1 u) _ _ _ Rx_0) 1 _ rfl
    have fx_2 := fun u => cells4 (heap_of (hF1 u) _ _ _ Rx_0) 2 _ rfl
    have fx_3 := fun u => cells4 (heap_of (hF1 u) _ _ _ Rx_0) 3 _ rfl
    have fy_0 := fun u => cells4 (heap_of (hF1 u) _ _ _ Ry_0) 0 _ rfl
    have fy_1 := fun u => cells4 (heap_of (hF1 u) _ _ _ Ry_0) 1 _ rfl
    have fy_2 := fun u => cells4 (heap_of (hF1 u) _ _ _ Ry_0) 2 _ rfl
    have fy_3 := fun u => cells4 (heap_of (hF1 u) _ _ _ Ry_0) 3 _ rfl
    have fz_0 := fun u => cells4 (heap_of (hF1 u) _ _ _ Rz_0) 0 _ rfl
    have fz_1 := fun u => cells4 (heap_of (hF1 u) _ _ _ Rz_0) 1 _ rfl
    have fz_2 := fun u => cells4 (heap_of (hF1 u) _ _ _ Rz_0) 2 _ rfl
    have fz_3 := fun u => cells4 (heap_of (hF1 u) _ _ _ Rz_0) 3 _ rfl
    refine wp_region_below F hF2 (by kernel_rfl) (by kernel_rfl) ?_
    repeat first | go_big_quiet_step (first | (go_at_call 88; exact quietF hF1 hF2 (zerox _)) | fail) | quiet_step (first | (go_at_call 88; exact quietF hF1 hF2 (zerox _)) | fail)
    refine wpQuiet_nil ?_
    rintro _ ⟨uW, rfl⟩
    have B1 := btr B0 (hF1 uW)
    have Rx_1 := heap_of (hF1 uW) _ _ _ Rx_0
    have Ry_1 := heap_of (hF1 uW) _ _ _ Ry_0
    have Rz_1 := heap_of (hF1 uW) _ _ _ Rz_0
    obtain ⟨w1, hw⟩ : ∃ V, F uW = V := ⟨_, rfl⟩
    rw [hw] at B1 Rx_1 Ry_1 Rz_1
    try rw [hw]
    clear hw hF1 hF2 B0 fx_0 fx_1 fx_2 fx_3 fy_0 fy_1 fy_2 fy_3 fz_0 fz_1 fz_2 fz_3 Rx_0 Ry_0 Rz_0
    clear F
    obtain ⟨cx_1_0, cx_1_1, cx_1_2, cx_1_3⟩ := cells4s Rx_1
    obtain ⟨cy_1_0, cy_1_1, cy_1_2, cy_1_3⟩ := cells4s Ry_1
    obtain ⟨cz_1_0, cz_1_1, cz_1_2, cz_1_3⟩ := cells4s Rz_1
    have q0 := fz (k := 0) Rz_1
    have q1 := fz (k := 1) Rz_1
    have q2 := fz (k := 2) Rz_1
    have q3 := fz (k := 3) Rz_1
    obtain ⟨E0, E1, E2, E3⟩ := set4_cells Rz_1 rfl (.bool c) (.string p) (.string q) (.int .i64 g)
    go_wp2
    exact bodyPost_ret (v := .tuple #[.agg #[.bool c, .string p, .string q, .int .i64 g], .int .i64 0]) (by simp [results, Tryz.results87, go_sem, E0, E1, E2, E3]) rfl ⟨rfl, set4_below B1 (by first | exact Nat.le_refl _ | omega) _ _ _ _⟩
  · rw [if_neg n0] at hr
    rcases x_cases hp hq hy with ⟨m0, rfl, rfl, rfl, rfl, rfl⟩ | ⟨m0, e1⟩
    · rw [if_pos m0] at hr
      injection hr with h1 h2
      injection h1 with a1 a2 a3 a4
      subst a1 a2 a3 a4 h2
      rw [hs] at hu
      rw [ht] at hv
      subst hu hv
      clear hs ht hp hq hx hy hT n0 m0
      cases b
      · obtain ⟨Rx_0, Ry_0, Rz_0, B0⟩ := opn3 w (Obj.cells #[.bool false, .string s, .string t, .int .i64 e] 28) (Obj.cells #[.bool false, .string ⟨#[]⟩, .string ⟨#[1]⟩, .int .i64 0] 28) (Obj.cells #[.bool false, .string ⟨#[]⟩, .string ⟨#[]⟩, .int .i64 0] 28)
        go_enter Tryz.func87, Tryz.ntmps87
        go_wp2_with fail
        obtain ⟨F, hF1, hF2⟩ := below_fun (((w.alloc (Obj.cells #[.bool false, .string s, .string t, .int .i64 e] 28)).alloc (Obj.cells #[.bool false, .string ⟨#[]⟩, .string ⟨#[1]⟩, .int .i64 0] 28)).alloc (Obj.cells #[.bool false, .string ⟨#[]⟩, .string ⟨#[]⟩, .int .i64 0] 28))
        have fx_0 := fun u => cells4 (heap_of (hF1 u) _ _ _ Rx_0) 0 _ rfl
        have fx_1 := fun u => cells4 (heap_of (hF1 u) _ _ _ Rx_0) 1 _ rfl
        have fx_2 := fun u => cells4 (heap_of (hF1 u) _ _ _ Rx_0) 2 _ rfl
        have fx_3 := fun u => cells4 (heap_of (hF1 u) _ _ _ Rx_0) 3 _ rfl
        have fy_0 := fun u => cells4 (heap_of (hF1 u) _ _ _ Ry_0) 0 _ rfl
        have fy_1 := fun u => cells4 (heap_of (hF1 u) _ _ _ Ry_0) 1 _ rfl
        have fy_2 := fun u => cells4 (heap_of (hF1 u) _ _ _ Ry_0) 2 _ rfl
        have fy_3 := fun u => cells4 (heap_of (hF1 u) _ _ _ Ry_0) 3 _ rfl
        have fz_0 := fun u => cells4 (heap_of (hF1 u) _ _ _ Rz_0) 0 _ rfl
        have fz_1 := fun u => cells4 (heap_of (hF1 u) _ _ _ Rz_0) 1 _ rfl
        have fz_2 := fun u => cells4 (heap_of (hF1 u) _ _ _ Rz_0) 2 _ rfl
        have fz_3 := fun u => cells4 (heap_of (hF1 u) _ _ _ Rz_0) 3 _ rfl
        refine wp_region_below F hF2 (by kernel_rfl) (by kernel_rfl) ?_
        repeat first | go_big_quiet_step (first | (go_at_call 88; exact quietF hF1 hF2 (zerox _)) | fail) | quiet_step (first | (go_at_call 88; exact quietF hF1 hF2 (zerox _)) | fail)
        refine wpQuiet_nil ?_
        rintro _ ⟨uW, rfl⟩
        have B1 := btr B0 (hF1 uW)
        have Rx_1 := heap_of (hF1 uW) _ _ _ Rx_0
        have Ry_1 := heap_of (hF1 uW) _ _ _ Ry_0
        have Rz_1 := heap_of (hF1 uW) _ _ _ Rz_0
        obtain ⟨w1, hw⟩ : ∃ V, F uW = V := ⟨_, rfl⟩
        rw [hw] at B1 Rx_1 Ry_1 Rz_1
        try rw [hw]
        clear hw hF1 hF2 B0 fx_0 fx_1 fx_2 fx_3 fy_0 fy_1 fy_2 fy_3 fz_0 fz_1 fz_2 fz_3 Rx_0 Ry_0 Rz_0
        clear F
        obtain ⟨cx_1_0, cx_1_1, cx_1_2, cx_1_3⟩ := cells4s Rx_1
        obtain ⟨cy_1_0, cy_1_1, cy_1_2, cy_1_3⟩ := cells4s Ry_1
        obtain ⟨cz_1_0, cz_1_1, cz_1_2, cz_1_3⟩ := cells4s Rz_1
        go_wp2_with fail
        obtain ⟨F, hF1, hF2⟩ := below_fun w1
        have fx_0 := fun u => cells4 (heap_of (hF1 u) _ _ _ Rx_1) 0 _ rfl
        have fx_1 := fun u => cells4 (heap_of (hF1 u) _ _ _ Rx_1) 1 _ rfl
        have fx_2 := fun u => cells4 (heap_of (hF1 u) _ _ _ Rx_1) 2 _ rfl
        have fx_3 := fun u => cells4 (heap_of (hF1 u) _ _ _ Rx_1) 3 _ rfl
        have fy_0 := fun u => cells4 (heap_of (hF1 u) _ _ _ Ry_1) 0 _ rfl
        have fy_1 := fun u => cells4 (heap_of (hF1 u) _ _ _ Ry_1) 1 _ rfl
        have fy_2 := fun u => cells4 (heap_of (hF1 u) _ _ _ Ry_1) 2 _ rfl
        have fy_3 := fun u => cells4 (heap_of (hF1 u) _ _ _ Ry_1) 3 _ rfl
        have fz_0 := fun u => cells4 (heap_of (hF1 u) _ _ _ Rz_1) 0 _ rfl
        have fz_1 := fun u => cells4 (heap_of (hF1 u) _ _ _ Rz_1) 1 _ rfl
        have fz_2 := fun u => cells4 (heap_of (hF1 u) _ _ _ Rz_1) 2 _ rfl
        have fz_3 := fun u => cells4 (heap_of (hF1 u) _ _ _ Rz_1) 3 _ rfl
        refine wp_region_below F hF2 (by kernel_rfl) (by kernel_rfl) ?_
        repeat first | go_big_quiet_step (first | (go_at_call 88; exact quietF hF1 hF2 (zerox _)) | fail) | quiet_step (first | (go_at_call 88; exact quietF hF1 hF2 (zerox _)) | fail)
        refine wpQuiet_nil ?_
        rintro _ ⟨uW, rfl⟩
        have B2 := btr B1 (hF1 uW)
        have Rx_2 := heap_of (hF1 uW) _ _ _ Rx_1
        have Ry_2 := heap_of (hF1 uW) _ _ _ Ry_1
        have Rz_2 := heap_of (hF1 uW) _ _ _ Rz_1
        obtain ⟨w2, hw⟩ : ∃ V, F uW = V := ⟨_, rfl⟩
        rw [hw] at B2 Rx_2 Ry_2 Rz_2
        try rw [hw]
        clear hw hF1 hF2 B1 fx_0 fx_1 fx_2 fx_3 fy_0 fy_1 fy_2 fy_3 fz_0 fz_1 fz_2 fz_3 Rx_1 cx_1_0 cx_1_1 cx_1_2 cx_1_3 Ry_1 cy_1_0 cy_1_1 cy_1_2 cy_1_3 Rz_1 cz_1_0 cz_1_1 cz_1_2 cz_1_3
        clear F
        obtain ⟨cx_2_0, cx_2_1, cx_2_2, cx_2_3⟩ := cells4s Rx_2
        obtain ⟨cy_2_0, cy_2_1, cy_2_2, cy_2_3⟩ := cells4s Ry_2
        obtain ⟨cz_2_0, cz_2_1, cz_2_2, cz_2_3⟩ := cells4s Rz_2
        have q0 := fz (k := 0) Rz_2
        have q1 := fz (k := 1) Rz_2
        have q2 := fz (k := 2) Rz_2
        have q3 := fz (k := 3) Rz_2
        obtain ⟨E0, E1, E2, E3⟩ := set4_cells Rz_2 rfl (.bool false) (.string s) (.string t) (.int .i64 e)
        go_wp2
        exact bodyPost_ret (v := .tuple #[.agg #[.bool false, .string s, .string t, .int .i64 e], .int .i64 0]) (by simp [results, Tryz.results87, go_sem, E0, E1, E2, E3]) rfl ⟨rfl, set4_below B2 (by first | exact Nat.le_refl _ | omega) _ _ _ _⟩
      · obtain ⟨Rx_0, Ry_0, Rz_0, B0⟩ := opn3 w (Obj.cells #[.bool true, .string s, .string t, .int .i64 e] 28) (Obj.cells #[.bool false, .string ⟨#[]⟩, .string ⟨#[1]⟩, .int .i64 0] 28) (Obj.cells #[.bool false, .string ⟨#[]⟩, .string ⟨#[]⟩, .int .i64 0] 28)
        go_enter Tryz.func87, Tryz.ntmps87
        go_wp2_with fail
        obtain ⟨F, hF1, hF2⟩ := below_fun (((w.alloc (Obj.cells #[.bool true, .string s, .string t, .int .i64 e] 28)).alloc (Obj.cells #[.bool false, .string ⟨#[]⟩, .string ⟨#[1]⟩, .int .i64 0] 28)).alloc (Obj.cells #[.bool false, .string ⟨#[]⟩, .string ⟨#[]⟩, .int .i64 0] 28))
        have fx_0 := fun u => cells4 (heap_of (hF1 u) _ _ _ Rx_0) 0 _ rfl
        have fx_1 := fun u => cells4 (heap_of (hF1 u) _ _ _ Rx_0) 1 _ rfl
        have fx_2 := fun u => cells4 (heap_of (hF1 u) _ _ _ Rx_0) 2 _ rfl
        have fx_3 := fun u => cells4 (heap_of (hF1 u) _ _ _ Rx_0) 3 _ rfl
        have fy_0 := fun u => cells4 (heap_of (hF1 u) _ _ _ Ry_0) 0 _ rfl
        have fy_1 := fun u => cells4 (heap_of (hF1 u) _ _ _ Ry_0) 1 _ rfl
        have fy_2 := fun u => cells4 (heap_of (hF1 u) _ _ _ Ry_0) 2 _ rfl
        have fy_3 := fun u => cells4 (heap_of (hF1 u) _ _ _ Ry_0) 3 _ rfl
        have fz_0 := fun u => cells4 (heap_of (hF1 u) _ _ _ Rz_0) 0 _ rfl
        have fz_1 := fun u => cells4 (heap_of (hF1 u) _ _ _ Rz_0) 1 _ rfl
        have fz_2 := fun u => cells4 (heap_of (hF1 u) _ _ _ Rz_0) 2 _ rfl
        have fz_3 := fun u => cells4 (heap_of (hF1 u) _ _ _ Rz_0) 3 _ rfl
        refine wp_region_below F hF2 (by kernel_rfl) (by kernel_rfl) ?_
        repeat first | go_big_quiet_step (first | (go_at_call 88; exact quietF hF1 hF2 (zerox _)) | fail) | quiet_step (first | (go_at_call 88; exact quietF hF1 hF2 (zerox _)) | fail)
        refine wpQuiet_nil ?_
        rintro _ ⟨uW, rfl⟩
        have B1 := btr B0 (hF1 uW)
        have Rx_1 := heap_of (hF1 uW) _ _ _ Rx_0
        have Ry_1 := heap_of (hF1 uW) _ _ _ Ry_0
        have Rz_1 := heap_of (hF1 uW) _ _ _ Rz_0
        obtain ⟨w1, hw⟩ : ∃ V, F uW = V := ⟨_, rfl⟩
        rw [hw] at B1 Rx_1 Ry_1 Rz_1
        try rw [hw]
        clear hw hF1 hF2 B0 fx_0 fx_1 fx_2 fx_3 fy_0 fy_1 fy_2 fy_3 fz_0 fz_1 fz_2 fz_3 Rx_0 Ry_0 Rz_0
        clear F
        obtain ⟨cx_1_0, cx_1_1, cx_1_2, cx_1_3⟩ := cells4s Rx_1
        obtain ⟨cy_1_0, cy_1_1, cy_1_2, cy_1_3⟩ := cells4s Ry_1
        obtain ⟨cz_1_0, cz_1_1, cz_1_2, cz_1_3⟩ := cells4s Rz_1
        go_wp2_with fail
        obtain ⟨F, hF1, hF2⟩ := below_fun w1
        have fx_0 := fun u => cells4 (heap_of (hF1 u) _ _ _ Rx_1) 0 _ rfl
        have fx_1 := fun u => cells4 (heap_of (hF1 u) _ _ _ Rx_1) 1 _ rfl
        have fx_2 := fun u => cells4 (heap_of (hF1 u) _ _ _ Rx_1) 2 _ rfl
        have fx_3 := fun u => cells4 (heap_of (hF1 u) _ _ _ Rx_1) 3 _ rfl
        have fy_0 := fun u => cells4 (heap_of (hF1 u) _ _ _ Ry_1) 0 _ rfl
        have fy_1 := fun u => cells4 (heap_of (hF1 u) _ _ _ Ry_1) 1 _ rfl
        have fy_2 := fun u => cells4 (heap_of (hF1 u) _ _ _ Ry_1) 2 _ rfl
        have fy_3 := fun u => cells4 (heap_of (hF1 u) _ _ _ Ry_1) 3 _ rfl
        have fz_0 := fun u => cells4 (heap_of (hF1 u) _ _ _ Rz_1) 0 _ rfl
        have fz_1 := fun u => cells4 (heap_of (hF1 u) _ _ _ Rz_1) 1 _ rfl
        have fz_2 := fun u => cells4 (heap_of (hF1 u) _ _ _ Rz_1) 2 _ rfl
        have fz_3 := fun u => cells4 (heap_of (hF1 u) _ _ _ Rz_1) 3 _ rfl
        refine wp_region_below F hF2 (by kernel_rfl) (by kernel_rfl) ?_
        repeat first | go_big_quiet_step (first | (go_at_call 88; exact quietF hF1 hF2 (zerox _)) | fail) | quiet_step (first | (go_at_call 88; exact quietF hF1 hF2 (zerox _)) | fail)
        refine wpQuiet_nil ?_
        rintro _ ⟨uW, rfl⟩
        have B2 := btr B1 (hF1 uW)
        have Rx_2 := heap_of (hF1 uW) _ _ _ Rx_1
        have Ry_2 := heap_of (hF1 uW) _ _ _ Ry_1
        have Rz_2 := heap_of (hF1 uW) _ _ _ Rz_1
        obtain ⟨w2, hw⟩ : ∃ V, F uW = V := ⟨_, rfl⟩
        rw [hw] at B2 Rx_2 Ry_2 Rz_2
        try rw [hw]
        clear hw hF1 hF2 B1 fx_0 fx_1 fx_2 fx_3 fy_0 fy_1 fy_2 fy_3 fz_0 fz_1 fz_2 fz_3 Rx_1 cx_1_0 cx_1_1 cx_1_2 cx_1_3 Ry_1 cy_1_0 cy_1_1 cy_1_2 cy_1_3 Rz_1 cz_1_0 cz_1_1 cz_1_2 cz_1_3
        clear F
        obtain ⟨cx_2_0, cx_2_1, cx_2_2, cx_2_3⟩ := cells4s Rx_2
        obtain ⟨cy_2_0, cy_2_1, cy_2_2, cy_2_3⟩ := cells4s Ry_2
        obtain ⟨cz_2_0, cz_2_1, cz_2_2, cz_2_3⟩ := cells4s Rz_2
        have q0 := fz (k := 0) Rz_2
        have q1 := fz (k := 1) Rz_2
        have q2 := fz (k := 2) Rz_2
        have q3 := fz (k := 3) Rz_2
        obtain ⟨E0, E1, E2, E3⟩ := set4_cells Rz_2 rfl (.bool true) (.string s) (.string t) (.int .i64 e)
        go_wp2
        exact bodyPost_ret (v := .tuple #[.agg #[.bool true, .string s, .string t, .int .i64 e], .int .i64 0]) (by simp [results, Tryz.results87, go_sem, E0, E1, E2, E3]) rfl ⟨rfl, set4_below B2 (by first | exact Nat.le_refl _ | omega) _ _ _ _⟩
    · rw [if_neg m0] at hr
      have ha : -1048576 ≤ e ∧ e ≤ 1048576 ∧ -1048576 ≤ g ∧ g ≤ 1048576 := ⟨hx.2.2.1, hx.2.2.2.1, hy.2.2.1, hy.2.2.2.1⟩
      have l1 : nl n ≤ 16384 := hx.1
      have l2 : nl d ≤ 16384 := hx.2.1
      have l3 : nl m ≤ 16384 := hy.1
      have l4 : nl f ≤ 16384 := hy.2.1
      have d1 : d ≠ 0 := hx.d0
      have d2 : f ≠ 0 := hy.d0
      obtain ⟨A, hA⟩ : ∃ A, XMath.sA (XN.mk b n d e) (XN.mk c m f g) = A := ⟨_, rfl⟩
      obtain ⟨B, hB⟩ : ∃ A, XMath.sA (XN.mk c m f g) (XN.mk b n d e) = A := ⟨_, rfl⟩
      obtain ⟨S, hS⟩ : ∃ A, sS (XN.mk b n d e) (XN.mk c m f g) = A := ⟨_, rfl⟩
      obtain ⟨Z, hZ⟩ : ∃ A, sN (XN.mk b n d e) (XN.mk c m f g) = A := ⟨_, rfl⟩
      obtain ⟨L, hL⟩ : ∃ L, min e g = L := ⟨_, rfl⟩
      have hS2 : S = (if b = c then A + B else if A < B then B - A else A - B) := by rw [← hS]; unfold sS; rw [hA, hB]
      have hZ2 : Z = (if b = c then b else if A < B then c else b) := by rw [← hZ]; unfold sN; rw [hA, hB]
      have hr2 : (if nl A ≤ 16384 ∧ nl B ≤ 16384 ∧ nl (d * f) ≤ 16384 ∧ nl S ≤ 16384 then XMath.mk Z S (d * f) L else (XZ, 4)) = (⟨rb, rn, rd, re⟩, err) := by rw [← hA, ← hB, ← hS, ← hZ, ← hL]; exact hr
      have HT2 := box ht
      have HQ2 := box hq
      have L2 := box l2
      have L4 := box l4
      by_cases h12 : nl A ≤ 16384 ∧ nl B ≤ 16384
      · obtain ⟨x, hxa⟩ : ∃ x, nbA A = x := ⟨_, rfl⟩
        obtain ⟨y, hyb⟩ : ∃ x, nbA B = x := ⟨_, rfl⟩
        have K1 := box (fun w => alikex b n d e s t c m f g p q x y 0 hs ht hp hq l1 l2 l3 l4 ha (by rw [hA, hB, if_pos h12, hxa, hyb]) w)
        by_cases h3 : nl (d * f) ≤ 16384
        · obtain ⟨z, hz⟩ : ∃ x, nbA (d * f) = x := ⟨_, rfl⟩
          have HX := box (lg_ok (d * f) z h3 hz)
          by_cases h4 : nl S ≤ 16384
          · obtain ⟨y2, hy2⟩ : ∃ x, nbA S = x := ⟨_, rfl⟩
            rw [if_pos ⟨h12.1, h12.2, h3, h4⟩] at hr2
            have K2 := box (fun w => signedSumx b c A B x y Z y2 0 hxa hyb h12.1 h12.2 (by
              unfold ssX
              rw [hZ2, ← hy2, hS2]
              by_cases hb : b = c
              · rw [if_pos hb, if_pos hb, if_pos hb]
                rw [hS2, if_pos hb] at h4
                rw [lg_ok _ _ h4 rfl]
              · rw [if_neg hb, if_neg hb, if_neg hb]
                by_cases hl : A < B
                · rw [if_pos hl, if_pos hl, if_pos hl]
                · rw [if_neg hl, if_neg hl, if_neg hl]) w)
            have K3 := box (fun w hT => formx Z S (d * f) L y2 z rb rn rd re err u v hy2 hz h4 h3 (mul_ne d1 d2) (by omega) (by omega) hr2 hu hv w hT)
            clear hs ht hp hq hx hy hr hr2 hu hv hT n0 m0 l1 l2 l3 l4 d1 d2 hA hB hS hZ hS2 hZ2 h12 h3 h4 hxa hyb hz hy2 ha
            cases b
            · obtain ⟨Rx_0, Ry_0, Rz_0, B0⟩ := opn3 w (Obj.cells #[.bool false, .string s, .string t, .int .i64 e] 28) (Obj.cells #[.bool c, .string p, .string q, .int .i64 g] 28) (Obj.cells #[.bool false, .string ⟨#[]⟩, .string ⟨#[]⟩, .int .i64 0] 28)
              go_enter Tryz.func87, Tryz.ntmps87
              go_wp2_with fail
              obtain ⟨F, hF1, hF2⟩ := below_fun (((w.alloc (Obj.cells #[.bool false, .string s, .string t, .int .i64 e] 28)).alloc (Obj.cells #[.bool c, .string p, .string q, .int .i64 g] 28)).alloc (Obj.cells #[.bool false, .string ⟨#[]⟩, .string ⟨#[]⟩, .int .i64 0] 28))
              have fx_0 := fun u => cells4 (heap_of (hF1 u) _ _ _ Rx_0) 0 _ rfl
              have fx_1 := fun u => cells4 (heap_of (hF1 u) _ _ _ Rx_0) 1 _ rfl
              have fx_2 := fun u => cells4 (heap_of (hF1 u) _ _ _ Rx_0) 2 _ rfl
              have fx_3 := fun u => cells4 (heap_of (hF1 u) _ _ _ Rx_0) 3 _ rfl
              have fy_0 := fun u => cells4 (heap_of (hF1 u) _ _ _ Ry_0) 0 _ rfl
              have fy_1 := fun u => cells4 (heap_of (hF1 u) _ _ _ Ry_0) 1 _ rfl
              have fy_2 := fun u => cells4 (heap_of (hF1 u) _ _ _ Ry_0) 2 _ rfl
              have fy_3 := fun u => cells4 (heap_of (hF1 u) _ _ _ Ry_0) 3 _ rfl
              have fz_0 := fun u => cells4 (heap_of (hF1 u) _ _ _ Rz_0) 0 _ rfl
              have fz_1 := fun u => cells4 (heap_of (hF1 u) _ _ _ Rz_0) 1 _ rfl
              have fz_2 := fun u => cells4 (heap_of (hF1 u) _ _ _ Rz_0) 2 _ rfl
              have fz_3 := fun u => cells4 (heap_of (hF1 u) _ _ _ Rz_0) 3 _ rfl
              refine wp_region_below F hF2 (by kernel_rfl) (by kernel_rfl) ?_
              repeat first | go_big_quiet_step (first | (go_at_call 88; exact quietF hF1 hF2 (zerox _)) | fail) | quiet_step (first | (go_at_call 88; exact quietF hF1 hF2 (zerox _)) | fail)
              refine wpQuiet_nil ?_
              rintro _ ⟨uW, rfl⟩
              have B1 := btr B0 (hF1 uW)
              have Rx_1 := heap_of (hF1 uW) _ _ _ Rx_0
              have Ry_1 := heap_of (hF1 uW) _ _ _ Ry_0
              have Rz_1 := heap_of (hF1 uW) _ _ _ Rz_0
              obtain ⟨w1, hw⟩ : ∃ V, F uW = V := ⟨_, rfl⟩
              rw [hw] at B1 Rx_1 Ry_1 Rz_1
              try rw [hw]
              clear hw hF1 hF2 B0 fx_0 fx_1 fx_2 fx_3 fy_0 fy_1 fy_2 fy_3 fz_0 fz_1 fz_2 fz_3 Rx_0 Ry_0 Rz_0
              clear F
              obtain ⟨cx_1_0, cx_1_1, cx_1_2, cx_1_3⟩ := cells4s Rx_1
              obtain ⟨cy_1_0, cy_1_1, cy_1_2, cy_1_3⟩ := cells4s Ry_1
              obtain ⟨cz_1_0, cz_1_1, cz_1_2, cz_1_3⟩ := cells4s Rz_1
              cases c
              · skip
                go_wp2_with fail
                obtain ⟨F, hF1, hF2⟩ := below_fun w1
                have fx_0 := fun u => cells4 (heap_of (hF1 u) _ _ _ Rx_1) 0 _ rfl
                have fx_1 := fun u => cells4 (heap_of (hF1 u) _ _ _ Rx_1) 1 _ rfl
                have fx_2 := fun u => cells4 (heap_of (hF1 u) _ _ _ Rx_1) 2 _ rfl
                have fx_3 := fun u => cells4 (heap_of (hF1 u) _ _ _ Rx_1) 3 _ rfl
                have fy_0 := fun u => cells4 (heap_of (hF1 u) _ _ _ Ry_1) 0 _ rfl
                have fy_1 := fun u => cells4 (heap_of (hF1 u) _ _ _ Ry_1) 1 _ rfl
                have fy_2 := fun u => cells4 (heap_of (hF1 u) _ _ _ Ry_1) 2 _ rfl
                have fy_3 := fun u => cells4 (heap_of (hF1 u) _ _ _ Ry_1) 3 _ rfl
                have fz_0 := fun u => cells4 (heap_of (hF1 u) _ _ _ Rz_1) 0 _ rfl
                have fz_1 := fun u => cells4 (heap_of (hF1 u) _ _ _ Rz_1) 1 _ rfl
                have fz_2 := fun u => cells4 (heap_of (hF1 u) _ _ _ Rz_1) 2 _ rfl
                have fz_3 := fun u => cells4 (heap_of (hF1 u) _ _ _ Rz_1) 3 _ rfl
                refine wp_region_below F hF2 (by kernel_rfl) (by kernel_rfl) ?_
                repeat first | go_big_quiet_step (first | (go_at_call 88; exact quietF hF1 hF2 (zerox _)) | fail) | quiet_step (first | (go_at_call 88; exact quietF hF1 hF2 (zerox _)) | fail)
                refine wpQuiet_nil ?_
                rintro _ ⟨uW, rfl⟩
                have B2 := btr B1 (hF1 uW)
                have Rx_2 := heap_of (hF1 uW) _ _ _ Rx_1
                have Ry_2 := heap_of (hF1 uW) _ _ _ Ry_1
                have Rz_2 := heap_of (hF1 uW) _ _ _ Rz_1
                obtain ⟨w2, hw⟩ : ∃ V, F uW = V := ⟨_, rfl⟩
                rw [hw] at B2 Rx_2 Ry_2 Rz_2
                try rw [hw]
                clear hw hF1 hF2 B1 fx_0 fx_1 fx_2 fx_3 fy_0 fy_1 fy_2 fy_3 fz_0 fz_1 fz_2 fz_3 Rx_1 cx_1_0 cx_1_1 cx_1_2 cx_1_3 Ry_1 cy_1_0 cy_1_1 cy_1_2 cy_1_3 Rz_1 cz_1_0 cz_1_1 cz_1_2 cz_1_3
                clear F
                obtain ⟨cx_2_0, cx_2_1, cx_2_2, cx_2_3⟩ := cells4s Rx_2
                obtain ⟨cy_2_0, cy_2_1, cy_2_2, cy_2_3⟩ := cells4s Ry_2
                obtain ⟨cz_2_0, cz_2_1, cz_2_2, cz_2_3⟩ := cells4s Rz_2
                go_wp2_with fail
                refine (K1.out _).mono ?_
                rintro r w3 ⟨rfl, b3⟩
                have B3 : Below w.heap.size w w3 := btr B2 b3
                have Rx_3 := heap_of b3 _ _ _ Rx_2
                have Ry_3 := heap_of b3 _ _ _ Ry_2
                have Rz_3 := heap_of b3 _ _ _ Rz_2
                clear b3 B2 Rx_2 cx_2_0 cx_2_1 cx_2_2 cx_2_3 Ry_2 cy_2_0 cy_2_1 cy_2_2 cy_2_3 Rz_2 cz_2_0 cz_2_1 cz_2_2 cz_2_3
                obtain ⟨cx_3_0, cx_3_1, cx_3_2, cx_3_3⟩ := cells4s Rx_3
                obtain ⟨cy_3_0, cy_3_1, cy_3_2, cy_3_3⟩ := cells4s Ry_3
                obtain ⟨cz_3_0, cz_3_1, cz_3_2, cz_3_3⟩ := cells4s Rz_3
                go_wp2_with fail
                refine (pn_mul_ok d f t q z 0 HT2.out HQ2.out L2.out L4.out HX.out _).mono ?_
                rintro r w4 ⟨rfl, b4⟩
                have B4 : Below w.heap.size w w4 := btr B3 b4
                have Rx_4 := heap_of b4 _ _ _ Rx_3
                have Ry_4 := heap_of b4 _ _ _ Ry_3
                have Rz_4 := heap_of b4 _ _ _ Rz_3
                clear b4 B3 Rx_3 cx_3_0 cx_3_1 cx_3_2 cx_3_3 Ry_3 cy_3_0 cy_3_1 cy_3_2 cy_3_3 Rz_3 cz_3_0 cz_3_1 cz_3_2 cz_3_3
                obtain ⟨cx_4_0, cx_4_1, cx_4_2, cx_4_3⟩ := cells4s Rx_4
                obtain ⟨cy_4_0, cy_4_1, cy_4_2, cy_4_3⟩ := cells4s Ry_4
                obtain ⟨cz_4_0, cz_4_1, cz_4_2, cz_4_3⟩ := cells4s Rz_4
                go_wp2_with fail
                refine (K2.out _).mono ?_
                rintro r w5 ⟨rfl, b5⟩
                have B5 : Below w.heap.size w w5 := btr B4 b5
                have Rx_5 := heap_of b5 _ _ _ Rx_4
                have Ry_5 := heap_of b5 _ _ _ Ry_4
                have Rz_5 := heap_of b5 _ _ _ Rz_4
                clear b5 B4 Rx_4 cx_4_0 cx_4_1 cx_4_2 cx_4_3 Ry_4 cy_4_0 cy_4_1 cy_4_2 cy_4_3 Rz_4 cz_4_0 cz_4_1 cz_4_2 cz_4_3
                obtain ⟨cx_5_0, cx_5_1, cx_5_2, cx_5_3⟩ := cells4s Rx_5
                obtain ⟨cy_5_0, cy_5_1, cy_5_2, cy_5_3⟩ := cells4s Ry_5
                obtain ⟨cz_5_0, cz_5_1, cz_5_2, cz_5_3⟩ := cells4s Rz_5
                go_wp2_with fail
                refine (K3.out _ (tabB TT.out B5)).mono ?_
                rintro r w6 ⟨rfl, b6⟩
                have B6 : Below w.heap.size w w6 := btr B5 b6
                have Rx_6 := heap_of b6 _ _ _ Rx_5
                have Ry_6 := heap_of b6 _ _ _ Ry_5
                have Rz_6 := heap_of b6 _ _ _ Rz_5
                clear b6 B5 Rx_5 cx_5_0 cx_5_1 cx_5_2 cx_5_3 Ry_5 cy_5_0 cy_5_1 cy_5_2 cy_5_3 Rz_5 cz_5_0 cz_5_1 cz_5_2 cz_5_3
                obtain ⟨cx_6_0, cx_6_1, cx_6_2, cx_6_3⟩ := cells4s Rx_6
                obtain ⟨cy_6_0, cy_6_1, cy_6_2, cy_6_3⟩ := cells4s Ry_6
                obtain ⟨cz_6_0, cz_6_1, cz_6_2, cz_6_3⟩ := cells4s Rz_6
                have q0 := fz (k := 0) Rz_6
                have q1 := fz (k := 1) Rz_6
                have q2 := fz (k := 2) Rz_6
                have q3 := fz (k := 3) Rz_6
                obtain ⟨E0, E1, E2, E3⟩ := set4_cells Rz_6 rfl (.bool rb) (.string u) (.string v) (.int .i64 re)
                go_wp2
                exact bodyPost_ret (v := .tuple #[.agg #[.bool rb, .string u, .string v, .int .i64 re], .int .i64 err]) (by simp [results, Tryz.results87, go_sem, E0, E1, E2, E3]) rfl ⟨rfl, set4_below B6 (by first | exact Nat.le_refl _ | omega) _ _ _ _⟩
              · skip
                go_wp2_with fail
                obtain ⟨F, hF1, hF2⟩ := below_fun w1
                have fx_0 := fun u => cells4 (heap_of (hF1 u) _ _ _ Rx_1) 0 _ rfl
                have fx_1 := fun u => cells4 (heap_of (hF1 u) _ _ _ Rx_1) 1 _ rfl
                have fx_2 := fun u => cells4 (heap_of (hF1 u) _ _ _ Rx_1) 2 _ rfl
                have fx_3 := fun u => cells4 (heap_of (hF1 u) _ _ _ Rx_1) 3 _ rfl
                have fy_0 := fun u => cells4 (heap_of (hF1 u) _ _ _ Ry_1) 0 _ rfl
                have fy_1 := fun u => cells4 (heap_of (hF1 u) _ _ _ Ry_1) 1 _ rfl
                have fy_2 := fun u => cells4 (heap_of (hF1 u) _ _ _ Ry_1) 2 _ rfl
                have fy_3 := fun u => cells4 (heap_of (hF1 u) _ _ _ Ry_1) 3 _ rfl
                have fz_0 := fun u => cells4 (heap_of (hF1 u) _ _ _ Rz_1) 0 _ rfl
                have fz_1 := fun u => cells4 (heap_of (hF1 u) _ _ _ Rz_1) 1 _ rfl
                have fz_2 := fun u => cells4 (heap_of (hF1 u) _ _ _ Rz_1) 2 _ rfl
                have fz_3 := fun u => cells4 (heap_of (hF1 u) _ _ _ Rz_1) 3 _ rfl
                refine wp_region_below F hF2 (by kernel_rfl) (by kernel_rfl) ?_
                repeat first | go_big_quiet_step (first | (go_at_call 88; exact quietF hF1 hF2 (zerox _)) | fail) | quiet_step (first | (go_at_call 88; exact quietF hF1 hF2 (zerox _)) | fail)
                refine wpQuiet_nil ?_
                rintro _ ⟨uW, rfl⟩
                have B2 := btr B1 (hF1 uW)
                have Rx_2 := heap_of (hF1 uW) _ _ _ Rx_1
                have Ry_2 := heap_of (hF1 uW) _ _ _ Ry_1
                have Rz_2 := heap_of (hF1 uW) _ _ _ Rz_1
                obtain ⟨w2, hw⟩ : ∃ V, F uW = V := ⟨_, rfl⟩
                rw [hw] at B2 Rx_2 Ry_2 Rz_2
                try rw [hw]
                clear hw hF1 hF2 B1 fx_0 fx_1 fx_2 fx_3 fy_0 fy_1 fy_2 fy_3 fz_0 fz_1 fz_2 fz_3 Rx_1 cx_1_0 cx_1_1 cx_1_2 cx_1_3 Ry_1 cy_1_0 cy_1_1 cy_1_2 cy_1_3 Rz_1 cz_1_0 cz_1_1 cz_1_2 cz_1_3
                clear F
                obtain ⟨cx_2_0, cx_2_1, cx_2_2, cx_2_3⟩ := cells4s Rx_2
                obtain ⟨cy_2_0, cy_2_1, cy_2_2, cy_2_3⟩ := cells4s Ry_2
                obtain ⟨cz_2_0, cz_2_1, cz_2_2, cz_2_3⟩ := cells4s Rz_2
                go_wp2_with fail
                refine (K1.out _).mono ?_
                rintro r w3 ⟨rfl, b3⟩
                have B3 : Below w.heap.size w w3 := btr B2 b3
                have Rx_3 := heap_of b3 _ _ _ Rx_2
                have Ry_3 := heap_of b3 _ _ _ Ry_2
                have Rz_3 := heap_of b3 _ _ _ Rz_2
                clear b3 B2 Rx_2 cx_2_0 cx_2_1 cx_2_2 cx_2_3 Ry_2 cy_2_0 cy_2_1 cy_2_2 cy_2_3 Rz_2 cz_2_0 cz_2_1 cz_2_2 cz_2_3
                obtain ⟨cx_3_0, cx_3_1, cx_3_2, cx_3_3⟩ := cells4s Rx_3
                obtain ⟨cy_3_0, cy_3_1, cy_3_2, cy_3_3⟩ := cells4s Ry_3
                obtain ⟨cz_3_0, cz_3_1, cz_3_2, cz_3_3⟩ := cells4s Rz_3
                go_wp2_with fail
                refine (pn_mul_ok d f t q z 0 HT2.out HQ2.out L2.out L4.out HX.out _).mono ?_
                rintro r w4 ⟨rfl, b4⟩
                have B4 : Below w.heap.size w w4 := btr B3 b4
                have Rx_4 := heap_of b4 _ _ _ Rx_3
                have Ry_4 := heap_of b4 _ _ _ Ry_3
                have Rz_4 := heap_of b4 _ _ _ Rz_3
                clear b4 B3 Rx_3 cx_3_0 cx_3_1 cx_3_2 cx_3_3 Ry_3 cy_3_0 cy_3_1 cy_3_2 cy_3_3 Rz_3 cz_3_0 cz_3_1 cz_3_2 cz_3_3
                obtain ⟨cx_4_0, cx_4_1, cx_4_2, cx_4_3⟩ := cells4s Rx_4
                obtain ⟨cy_4_0, cy_4_1, cy_4_2, cy_4_3⟩ := cells4s Ry_4
                obtain ⟨cz_4_0, cz_4_1, cz_4_2, cz_4_3⟩ := cells4s Rz_4
                go_wp2_with fail
                refine (K2.out _).mono ?_
                rintro r w5 ⟨rfl, b5⟩
                have B5 : Below w.heap.size w w5 := btr B4 b5
                have Rx_5 := heap_of b5 _ _ _ Rx_4
                have Ry_5 := heap_of b5 _ _ _ Ry_4
                have Rz_5 := heap_of b5 _ _ _ Rz_4
                clear b5 B4 Rx_4 cx_4_0 cx_4_1 cx_4_2 cx_4_3 Ry_4 cy_4_0 cy_4_1 cy_4_2 cy_4_3 Rz_4 cz_4_0 cz_4_1 cz_4_2 cz_4_3
                obtain ⟨cx_5_0, cx_5_1, cx_5_2, cx_5_3⟩ := cells4s Rx_5
                obtain ⟨cy_5_0, cy_5_1, cy_5_2, cy_5_3⟩ := cells4s Ry_5
                obtain ⟨cz_5_0, cz_5_1, cz_5_2, cz_5_3⟩ := cells4s Rz_5
                go_wp2_with fail
                refine (K3.out _ (tabB TT.out B5)).mono ?_
                rintro r w6 ⟨rfl, b6⟩
                have B6 : Below w.heap.size w w6 := btr B5 b6
                have Rx_6 := heap_of b6 _ _ _ Rx_5
                have Ry_6 := heap_of b6 _ _ _ Ry_5
                have Rz_6 := heap_of b6 _ _ _ Rz_5
                clear b6 B5 Rx_5 cx_5_0 cx_5_1 cx_5_2 cx_5_3 Ry_5 cy_5_0 cy_5_1 cy_5_2 cy_5_3 Rz_5 cz_5_0 cz_5_1 cz_5_2 cz_5_3
                obtain ⟨cx_6_0, cx_6_1, cx_6_2, cx_6_3⟩ := cells4s Rx_6
                obtain ⟨cy_6_0, cy_6_1, cy_6_2, cy_6_3⟩ := cells4s Ry_6
                obtain ⟨cz_6_0, cz_6_1, cz_6_2, cz_6_3⟩ := cells4s Rz_6
                have q0 := fz (k := 0) Rz_6
                have q1 := fz (k := 1) Rz_6
                have q2 := fz (k := 2) Rz_6
                have q3 := fz (k := 3) Rz_6
                obtain ⟨E0, E1, E2, E3⟩ := set4_cells Rz_6 rfl (.bool rb) (.string u) (.string v) (.int .i64 re)
                go_wp2
                exact bodyPost_ret (v := .tuple #[.agg #[.bool rb, .string u, .string v, .int .i64 re], .int .i64 err]) (by simp [results, Tryz.results87, go_sem, E0, E1, E2, E3]) rfl ⟨rfl, set4_below B6 (by first | exact Nat.le_refl _ | omega) _ _ _ _⟩
            · obtain ⟨Rx_0, Ry_0, Rz_0, B0⟩ := opn3 w (Obj.cells #[.bool true, .string s, .string t, .int .i64 e] 28) (Obj.cells #[.bool c, .string p, .string q, .int .i64 g] 28) (Obj.cells #[.bool false, .string ⟨#[]⟩, .string ⟨#[]⟩, .int .i64 0] 28)
              go_enter Tryz.func87, Tryz.ntmps87
              go_wp2_with fail
              obtain ⟨F, hF1, hF2⟩ := below_fun (((w.alloc (Obj.cells #[.bool true, .string s, .string t, .int .i64 e] 28)).alloc (Obj.cells #[.bool c, .string p, .string q, .int .i64 g] 28)).alloc (Obj.cells #[.bool false, .string ⟨#[]⟩, .string ⟨#[]⟩, .int .i64 0] 28))
              have fx_0 := fun u => cells4 (heap_of (hF1 u) _ _ _ Rx_0) 0 _ rfl
              have fx_1 := fun u => cells4 (heap_of (hF1 u) _ _ _ Rx_0) 1 _ rfl
              have fx_2 := fun u => cells4 (heap_of (hF1 u) _ _ _ Rx_0) 2 _ rfl
              have fx_3 := fun u => cells4 (heap_of (hF1 u) _ _ _ Rx_0) 3 _ rfl
              have fy_0 := fun u => cells4 (heap_of (hF1 u) _ _ _ Ry_0) 0 _ rfl
              have fy_1 := fun u => cells4 (heap_of (hF1 u) _ _ _ Ry_0) 1 _ rfl
              have fy_2 := fun u => cells4 (heap_of (hF1 u) _ _ _ Ry_0) 2 _ rfl
              have fy_3 := fun u => cells4 (heap_of (hF1 u) _ _ _ Ry_0) 3 _ rfl
              have fz_0 := fun u => cells4 (heap_of (hF1 u) _ _ _ Rz_0) 0 _ rfl
              have fz_1 := fun u => cells4 (heap_of (hF1 u) _ _ _ Rz_0) 1 _ rfl
              have fz_2 := fun u => cells4 (heap_of (hF1 u) _ _ _ Rz_0) 2 _ rfl
              have fz_3 := fun u => cells4 (heap_of (hF1 u) _ _ _ Rz_0) 3 _ rfl
              refine wp_region_below F hF2 (by kernel_rfl) (by kernel_rfl) ?_
              repeat first | go_big_quiet_step (first | (go_at_call 88; exact quietF hF1 hF2 (zerox _)) | fail) | quiet_step (first | (go_at_call 88; exact quietF hF1 hF2 (zerox _)) | fail)
              refine wpQuiet_nil ?_
              rintro _ ⟨uW, rfl⟩
              have B1 := btr B0 (hF1 uW)
              have Rx_1 := heap_of (hF1 uW) _ _ _ Rx_0
              have Ry_1 := heap_of (hF1 uW) _ _ _ Ry_0
              have Rz_1 := heap_of (hF1 uW) _ _ _ Rz_0
              obtain ⟨w1, hw⟩ : ∃ V, F uW = V := ⟨_, rfl⟩
              rw [hw] at B1 Rx_1 Ry_1 Rz_1
              try rw [hw]
              clear hw hF1 hF2 B0 fx_0 fx_1 fx_2 fx_3 fy_0 fy_1 fy_2 fy_3 fz_0 fz_1 fz_2 fz_3 Rx_0 Ry_0 Rz_0
              clear F
              obtain ⟨cx_1_0, cx_1_1, cx_1_2, cx_1_3⟩ := cells4s Rx_1
              obtain ⟨cy_1_0, cy_1_1, cy_1_2, cy_1_3⟩ := cells4s Ry_1
              obtain ⟨cz_1_0, cz_1_1, cz_1_2, cz_1_3⟩ := cells4s Rz_1
              cases c
              · skip
                go_wp2_with fail
                obtain ⟨F, hF1, hF2⟩ := below_fun w1
                have fx_0 := fun u => cells4 (heap_of (hF1 u) _ _ _ Rx_1) 0 _ rfl
                have fx_1 := fun u => cells4 (heap_of (hF1 u) _ _ _ Rx_1) 1 _ rfl
                have fx_2 := fun u => cells4 (heap_of (hF1 u) _ _ _ Rx_1) 2 _ rfl
                have fx_3 := fun u => cells4 (heap_of (hF1 u) _ _ _ Rx_1) 3 _ rfl
                have fy_0 := fun u => cells4 (heap_of (hF1 u) _ _ _ Ry_1) 0 _ rfl
                have fy_1 := fun u => cells4 (heap_of (hF1 u) _ _ _ Ry_1) 1 _ rfl
                have fy_2 := fun u => cells4 (heap_of (hF1 u) _ _ _ Ry_1) 2 _ rfl
                have fy_3 := fun u => cells4 (heap_of (hF1 u) _ _ _ Ry_1) 3 _ rfl
                have fz_0 := fun u => cells4 (heap_of (hF1 u) _ _ _ Rz_1) 0 _ rfl
                have fz_1 := fun u => cells4 (heap_of (hF1 u) _ _ _ Rz_1) 1 _ rfl
                have fz_2 := fun u => cells4 (heap_of (hF1 u) _ _ _ Rz_1) 2 _ rfl
                have fz_3 := fun u => cells4 (heap_of (hF1 u) _ _ _ Rz_1) 3 _ rfl
                refine wp_region_below F hF2 (by kernel_rfl) (by kernel_rfl) ?_
                repeat first | go_big_quiet_step (first | (go_at_call 88; exact quietF hF1 hF2 (zerox _)) | fail) | quiet_step (first | (go_at_call 88; exact quietF hF1 hF2 (zerox _)) | fail)
                refine wpQuiet_nil ?_
                rintro _ ⟨uW, rfl⟩
                have B2 := btr B1 (hF1 uW)
                have Rx_2 := heap_of (hF1 uW) _ _ _ Rx_1
                have Ry_2 := heap_of (hF1 uW) _ _ _ Ry_1
                have Rz_2 := heap_of (hF1 uW) _ _ _ Rz_1
                obtain ⟨w2, hw⟩ : ∃ V, F uW = V := ⟨_, rfl⟩
                rw [hw] at B2 Rx_2 Ry_2 Rz_2
                try rw [hw]
                clear hw hF1 hF2 B1 fx_0 fx_1 fx_2 fx_3 fy_0 fy_1 fy_2 fy_3 fz_0 fz_1 fz_2 fz_3 Rx_1 cx_1_0 cx_1_1 cx_1_2 cx_1_3 Ry_1 cy_1_0 cy_1_1 cy_1_2 cy_1_3 Rz_1 cz_1_0 cz_1_1 cz_1_2 cz_1_3
                clear F
                obtain ⟨cx_2_0, cx_2_1, cx_2_2, cx_2_3⟩ := cells4s Rx_2
                obtain ⟨cy_2_0, cy_2_1, cy_2_2, cy_2_3⟩ := cells4s Ry_2
                obtain ⟨cz_2_0, cz_2_1, cz_2_2, cz_2_3⟩ := cells4s Rz_2
                go_wp2_with fail
                refine (K1.out _).mono ?_
                rintro r w3 ⟨rfl, b3⟩
                have B3 : Below w.heap.size w w3 := btr B2 b3
                have Rx_3 := heap_of b3 _ _ _ Rx_2
                have Ry_3 := heap_of b3 _ _ _ Ry_2
                have Rz_3 := heap_of b3 _ _ _ Rz_2
                clear b3 B2 Rx_2 cx_2_0 cx_2_1 cx_2_2 cx_2_3 Ry_2 cy_2_0 cy_2_1 cy_2_2 cy_2_3 Rz_2 cz_2_0 cz_2_1 cz_2_2 cz_2_3
                obtain ⟨cx_3_0, cx_3_1, cx_3_2, cx_3_3⟩ := cells4s Rx_3
                obtain ⟨cy_3_0, cy_3_1, cy_3_2, cy_3_3⟩ := cells4s Ry_3
                obtain ⟨cz_3_0, cz_3_1, cz_3_2, cz_3_3⟩ := cells4s Rz_3
                go_wp2_with fail
                refine (pn_mul_ok d f t q z 0 HT2.out HQ2.out L2.out L4.out HX.out _).mono ?_
                rintro r w4 ⟨rfl, b4⟩
                have B4 : Below w.heap.size w w4 := btr B3 b4
                have Rx_4 := heap_of b4 _ _ _ Rx_3
                have Ry_4 := heap_of b4 _ _ _ Ry_3
                have Rz_4 := heap_of b4 _ _ _ Rz_3
                clear b4 B3 Rx_3 cx_3_0 cx_3_1 cx_3_2 cx_3_3 Ry_3 cy_3_0 cy_3_1 cy_3_2 cy_3_3 Rz_3 cz_3_0 cz_3_1 cz_3_2 cz_3_3
                obtain ⟨cx_4_0, cx_4_1, cx_4_2, cx_4_3⟩ := cells4s Rx_4
                obtain ⟨cy_4_0, cy_4_1, cy_4_2, cy_4_3⟩ := cells4s Ry_4
                obtain ⟨cz_4_0, cz_4_1, cz_4_2, cz_4_3⟩ := cells4s Rz_4
                go_wp2_with fail
                refine (K2.out _).mono ?_
                rintro r w5 ⟨rfl, b5⟩
                have B5 : Below w.heap.size w w5 := btr B4 b5
                have Rx_5 := heap_of b5 _ _ _ Rx_4
                have Ry_5 := heap_of b5 _ _ _ Ry_4
                have Rz_5 := heap_of b5 _ _ _ Rz_4
                clear b5 B4 Rx_4 cx_4_0 cx_4_1 cx_4_2 cx_4_3 Ry_4 cy_4_0 cy_4_1 cy_4_2 cy_4_3 Rz_4 cz_4_0 cz_4_1 cz_4_2 cz_4_3
                obtain ⟨cx_5_0, cx_5_1, cx_5_2, cx_5_3⟩ := cells4s Rx_5
                obtain ⟨cy_5_0, cy_5_1, cy_5_2, cy_5_3⟩ := cells4s Ry_5
                obtain ⟨cz_5_0, cz_5_1, cz_5_2, cz_5_3⟩ := cells4s Rz_5
                go_wp2_with fail
                refine (K3.out _ (tabB TT.out B5)).mono ?_
                rintro r w6 ⟨rfl, b6⟩
                have B6 : Below w.heap.size w w6 := btr B5 b6
                have Rx_6 := heap_of b6 _ _ _ Rx_5
                have Ry_6 := heap_of b6 _ _ _ Ry_5
                have Rz_6 := heap_of b6 _ _ _ Rz_5
                clear b6 B5 Rx_5 cx_5_0 cx_5_1 cx_5_2 cx_5_3 Ry_5 cy_5_0 cy_5_1 cy_5_2 cy_5_3 Rz_5 cz_5_0 cz_5_1 cz_5_2 cz_5_3
                obtain ⟨cx_6_0, cx_6_1, cx_6_2, cx_6_3⟩ := cells4s Rx_6
                obtain ⟨cy_6_0, cy_6_1, cy_6_2, cy_6_3⟩ := cells4s Ry_6
                obtain ⟨cz_6_0, cz_6_1, cz_6_2, cz_6_3⟩ := cells4s Rz_6
                have q0 := fz (k := 0) Rz_6
                have q1 := fz (k := 1) Rz_6
                have q2 := fz (k := 2) Rz_6
                have q3 := fz (k := 3) Rz_6
                obtain ⟨E0, E1, E2, E3⟩ := set4_cells Rz_6 rfl (.bool rb) (.string u) (.string v) (.int .i64 re)
                go_wp2
                exact bodyPost_ret (v := .tuple #[.agg #[.bool rb, .string u, .string v, .int .i64 re], .int .i64 err]) (by simp [results, Tryz.results87, go_sem, E0, E1, E2, E3]) rfl ⟨rfl, set4_below B6 (by first | exact Nat.le_refl _ | omega) _ _ _ _⟩
              · skip
                go_wp2_with fail
                obtain ⟨F, hF1, hF2⟩ := below_fun w1
                have fx_0 := fun u => cells4 (heap_of (hF1 u) _ _ _ Rx_1) 0 _ rfl
                have fx_1 := fun u => cells4 (heap_of (hF1 u) _ _ _ Rx_1) 1 _ rfl
                have fx_2 := fun u => cells4 (heap_of (hF1 u) _ _ _ Rx_1) 2 _ rfl
                have fx_3 := fun u => cells4 (heap_of (hF1 u) _ _ _ Rx_1) 3 _ rfl
                have fy_0 := fun u => cells4 (heap_of (hF1 u) _ _ _ Ry_1) 0 _ rfl
                have fy_1 := fun u => cells4 (heap_of (hF1 u) _ _ _ Ry_1) 1 _ rfl
                have fy_2 := fun u => cells4 (heap_of (hF1 u) _ _ _ Ry_1) 2 _ rfl
                have fy_3 := fun u => cells4 (heap_of (hF1 u) _ _ _ Ry_1) 3 _ rfl
                have fz_0 := fun u => cells4 (heap_of (hF1 u) _ _ _ Rz_1) 0 _ rfl
                have fz_1 := fun u => cells4 (heap_of (hF1 u) _ _ _ Rz_1) 1 _ rfl
                have fz_2 := fun u => cells4 (heap_of (hF1 u) _ _ _ Rz_1) 2 _ rfl
                have fz_3 := fun u => cells4 (heap_of (hF1 u) _ _ _ Rz_1) 3 _ rfl
                refine wp_region_below F hF2 (by kernel_rfl) (by kernel_rfl) ?_
                repeat first | go_big_quiet_step (first | (go_at_call 88; exact quietF hF1 hF2 (zerox _)) | fail) | quiet_step (first | (go_at_call 88; exact quietF hF1 hF2 (zerox _)) | fail)
                refine wpQuiet_nil ?_
                rintro _ ⟨uW, rfl⟩
                have B2 := btr B1 (hF1 uW)
                have Rx_2 := heap_of (hF1 uW) _ _ _ Rx_1
                have Ry_2 := heap_of (hF1 uW) _ _ _ Ry_1
                have Rz_2 := heap_of (hF1 uW) _ _ _ Rz_1
                obtain ⟨w2, hw⟩ : ∃ V, F uW = V := ⟨_, rfl⟩
                rw [hw] at B2 Rx_2 Ry_2 Rz_2
                try rw [hw]
                clear hw hF1 hF2 B1 fx_0 fx_1 fx_2 fx_3 fy_0 fy_1 fy_2 fy_3 fz_0 fz_1 fz_2 fz_3 Rx_1 cx_1_0 cx_1_1 cx_1_2 cx_1_3 Ry_1 cy_1_0 cy_1_1 cy_1_2 cy_1_3 Rz_1 cz_1_0 cz_1_1 cz_1_2 cz_1_3
                clear F
                obtain ⟨cx_2_0, cx_2_1, cx_2_2, cx_2_3⟩ := cells4s Rx_2
                obtain ⟨cy_2_0, cy_2_1, cy_2_2, cy_2_3⟩ := cells4s Ry_2
                obtain ⟨cz_2_0, cz_2_1, cz_2_2, cz_2_3⟩ := cells4s Rz_2
                go_wp2_with fail
                refine (K1.out _).mono ?_
                rintro r w3 ⟨rfl, b3⟩
                have B3 : Below w.heap.size w w3 := btr B2 b3
                have Rx_3 := heap_of b3 _ _ _ Rx_2
                have Ry_3 := heap_of b3 _ _ _ Ry_2
                have Rz_3 := heap_of b3 _ _ _ Rz_2
                clear b3 B2 Rx_2 cx_2_0 cx_2_1 cx_2_2 cx_2_3 Ry_2 cy_2_0 cy_2_1 cy_2_2 cy_2_3 Rz_2 cz_2_0 cz_2_1 cz_2_2 cz_2_3
                obtain ⟨cx_3_0, cx_3_1, cx_3_2, cx_3_3⟩ := cells4s Rx_3
                obtain ⟨cy_3_0, cy_3_1, cy_3_2, cy_3_3⟩ := cells4s Ry_3
                obtain ⟨cz_3_0, cz_3_1, cz_3_2, cz_3_3⟩ := cells4s Rz_3
                go_wp2_with fail
                refine (pn_mul_ok d f t q z 0 HT2.out HQ2.out L2.out L4.out HX.out _).mono ?_
                rintro r w4 ⟨rfl, b4⟩
                have B4 : Below w.heap.size w w4 := btr B3 b4
                have Rx_4 := heap_of b4 _ _ _ Rx_3
                have Ry_4 := heap_of b4 _ _ _ Ry_3
                have Rz_4 := heap_of b4 _ _ _ Rz_3
                clear b4 B3 Rx_3 cx_3_0 cx_3_1 cx_3_2 cx_3_3 Ry_3 cy_3_0 cy_3_1 cy_3_2 cy_3_3 Rz_3 cz_3_0 cz_3_1 cz_3_2 cz_3_3
                obtain ⟨cx_4_0, cx_4_1, cx_4_2, cx_4_3⟩ := cells4s Rx_4
                obtain ⟨cy_4_0, cy_4_1, cy_4_2, cy_4_3⟩ := cells4s Ry_4
                obtain ⟨cz_4_0, cz_4_1, cz_4_2, cz_4_3⟩ := cells4s Rz_4
                go_wp2_with fail
                refine (K2.out _).mono ?_
                rintro r w5 ⟨rfl, b5⟩
                have B5 : Below w.heap.size w w5 := btr B4 b5
                have Rx_5 := heap_of b5 _ _ _ Rx_4
                have Ry_5 := heap_of b5 _ _ _ Ry_4
                have Rz_5 := heap_of b5 _ _ _ Rz_4
                clear b5 B4 Rx_4 cx_4_0 cx_4_1 cx_4_2 cx_4_3 Ry_4 cy_4_0 cy_4_1 cy_4_2 cy_4_3 Rz_4 cz_4_0 cz_4_1 cz_4_2 cz_4_3
                obtain ⟨cx_5_0, cx_5_1, cx_5_2, cx_5_3⟩ := cells4s Rx_5
                obtain ⟨cy_5_0, cy_5_1, cy_5_2, cy_5_3⟩ := cells4s Ry_5
                obtain ⟨cz_5_0, cz_5_1, cz_5_2, cz_5_3⟩ := cells4s Rz_5
                go_wp2_with fail
                refine (K3.out _ (tabB TT.out B5)).mono ?_
                rintro r w6 ⟨rfl, b6⟩
                have B6 : Below w.heap.size w w6 := btr B5 b6
                have Rx_6 := heap_of b6 _ _ _ Rx_5
                have Ry_6 := heap_of b6 _ _ _ Ry_5
                have Rz_6 := heap_of b6 _ _ _ Rz_5
                clear b6 B5 Rx_5 cx_5_0 cx_5_1 cx_5_2 cx_5_3 Ry_5 cy_5_0 cy_5_1 cy_5_2 cy_5_3 Rz_5 cz_5_0 cz_5_1 cz_5_2 cz_5_3
                obtain ⟨cx_6_0, cx_6_1, cx_6_2, cx_6_3⟩ := cells4s Rx_6
                obtain ⟨cy_6_0, cy_6_1, cy_6_2, cy_6_3⟩ := cells4s Ry_6
                obtain ⟨cz_6_0, cz_6_1, cz_6_2, cz_6_3⟩ := cells4s Rz_6
                have q0 := fz (k := 0) Rz_6
                have q1 := fz (k := 1) Rz_6
                have q2 := fz (k := 2) Rz_6
                have q3 := fz (k := 3) Rz_6
                obtain ⟨E0, E1, E2, E3⟩ := set4_cells Rz_6 rfl (.bool rb) (.string u) (.string v) (.int .i64 re)
                go_wp2
                exact bodyPost_ret (v := .tuple #[.agg #[.bool rb, .string u, .string v, .int .i64 re], .int .i64 err]) (by simp [results, Tryz.results87, go_sem, E0, E1, E2, E3]) rfl ⟨rfl, set4_below B6 (by first | exact Nat.le_refl _ | omega) _ _ _ _⟩
          · rw [if_neg (fun h => h4 h.2.2.2)] at hr2
            obtain ⟨rfl, rfl, rfl, rfl, rfl⟩ := xz_is hr2
            rw [nbA_zero] at hu hv
            subst hu hv
            have hbc : b = c := by
              cases hk : decide (b = c)
              · have hne : b ≠ c := of_decide_eq_false hk
                exact absurd (by rw [← hS]; exact sS_nl (XN.mk b n d e) (XN.mk c m f g) (by rw [hA]; exact h12.1) (by rw [hB]; exact h12.2) hne) h4
              · exact of_decide_eq_true hk
            rw [if_pos hbc] at hS2
            have K2 := box (fun w => signedSumx b c A B x y b ⟨#[]⟩ 4 hxa hyb h12.1 h12.2 (by
              unfold ssX
              rw [if_pos hbc, lg_no _ (by rw [← hS2]; exact h4)]) w)
            subst hbc
            clear hs ht hp hq hx hy hr hr2 hT n0 m0 l1 l2 l3 l4 d1 d2 hA hB hS hZ hS2 hZ2 h12 h3 h4 hxa hyb hz ha
            cases b
            · obtain ⟨Rx_0, Ry_0, Rz_0, B0⟩ := opn3 w (Obj.cells #[.bool false, .string s, .string t, .int .i64 e] 28) (Obj.cells #[.bool false, .string p, .string q, .int .i64 g] 28) (Obj.cells #[.bool false, .string ⟨#[]⟩, .string ⟨#[]⟩, .int .i64 0] 28)
              go_enter Tryz.func87, Tryz.ntmps87
              go_wp2_with fail
              obtain ⟨F, hF1, hF2⟩ := below_fun (((w.alloc (Obj.cells #[.bool false, .string s, .string t, .int .i64 e] 28)).alloc (Obj.cells #[.bool false, .string p, .string q, .int .i64 g] 28)).alloc (Obj.cells #[.bool false, .string ⟨#[]⟩, .string ⟨#[]⟩, .int .i64 0] 28))
              have fx_0 := fun u => cells4 (heap_of (hF1 u) _ _ _ Rx_0) 0 _ rfl
              have fx_1 := fun u => cells4 (heap_of (hF1 u) _ _ _ Rx_0) 1 _ rfl
              have fx_2 := fun u => cells4 (heap_of (hF1 u) _ _ _ Rx_0) 2 _ rfl
              have fx_3 := fun u => cells4 (heap_of (hF1 u) _ _ _ Rx_0) 3 _ rfl
              have fy_0 := fun u => cells4 (heap_of (hF1 u) _ _ _ Ry_0) 0 _ rfl
              have fy_1 := fun u => cells4 (heap_of (hF1 u) _ _ _ Ry_0) 1 _ rfl
              have fy_2 := fun u => cells4 (heap_of (hF1 u) _ _ _ Ry_0) 2 _ rfl
              have fy_3 := fun u => cells4 (heap_of (hF1 u) _ _ _ Ry_0) 3 _ rfl
              have fz_0 := fun u => cells4 (heap_of (hF1 u) _ _ _ Rz_0) 0 _ rfl
              have fz_1 := fun u => cells4 (heap_of (hF1 u) _ _ _ Rz_0) 1 _ rfl
              have fz_2 := fun u => cells4 (heap_of (hF1 u) _ _ _ Rz_0) 2 _ rfl
              have fz_3 := fun u => cells4 (heap_of (hF1 u) _ _ _ Rz_0) 3 _ rfl
              refine wp_region_below F hF2 (by kernel_rfl) (by kernel_rfl) ?_
              repeat first | go_big_quiet_step (first | (go_at_call 88; exact quietF hF1 hF2 (zerox _)) | fail) | quiet_step (first | (go_at_call 88; exact quietF hF1 hF2 (zerox _)) | fail)
              refine wpQuiet_nil ?_
              rintro _ ⟨uW, rfl⟩
              have B1 := btr B0 (hF1 uW)
              have Rx_1 := heap_of (hF1 uW) _ _ _ Rx_0
              have Ry_1 := heap_of (hF1 uW) _ _ _ Ry_0
              have Rz_1 := heap_of (hF1 uW) _ _ _ Rz_0
              obtain ⟨w1, hw⟩ : ∃ V, F uW = V := ⟨_, rfl⟩
              rw [hw] at B1 Rx_1 Ry_1 Rz_1
              try rw [hw]
              clear hw hF1 hF2 B0 fx_0 fx_1 fx_2 fx_3 fy_0 fy_1 fy_2 fy_3 fz_0 fz_1 fz_2 fz_3 Rx_0 Ry_0 Rz_0
              clear F
              obtain ⟨cx_1_0, cx_1_1, cx_1_2, cx_1_3⟩ := cells4s Rx_1
              obtain ⟨cy_1_0, cy_1_1, cy_1_2, cy_1_3⟩ := cells4s Ry_1
              obtain ⟨cz_1_0, cz_1_1, cz_1_2, cz_1_3⟩ := cells4s Rz_1
              go_wp2_with fail
              obtain ⟨F, hF1, hF2⟩ := below_fun w1
              have fx_0 := fun u => cells4 (heap_of (hF1 u) _ _ _ Rx_1) 0 _ rfl
              have fx_1 := fun u => cells4 (heap_of (hF1 u) _ _ _ Rx_1) 1 _ rfl
              have fx_2 := fun u => cells4 (heap_of (hF1 u) _ _ _ Rx_1) 2 _ rfl
              have fx_3 := fun u => cells4 (heap_of (hF1 u) _ _ _ Rx_1) 3 _ rfl
              have fy_0 := fun u => cells4 (heap_of (hF1 u) _ _ _ Ry_1) 0 _ rfl
              have fy_1 := fun u => cells4 (heap_of (hF1 u) _ _ _ Ry_1) 1 _ rfl
              have fy_2 := fun u => cells4 (heap_of (hF1 u) _ _ _ Ry_1) 2 _ rfl
              have fy_3 := fun u => cells4 (heap_of (hF1 u) _ _ _ Ry_1) 3 _ rfl
              have fz_0 := fun u => cells4 (heap_of (hF1 u) _ _ _ Rz_1) 0 _ rfl
              have fz_1 := fun u => cells4 (heap_of (hF1 u) _ _ _ Rz_1) 1 _ rfl
              have fz_2 := fun u => cells4 (heap_of (hF1 u) _ _ _ Rz_1) 2 _ rfl
              have fz_3 := fun u => cells4 (heap_of (hF1 u) _ _ _ Rz_1) 3 _ rfl
              refine wp_region_below F hF2 (by kernel_rfl) (by kernel_rfl) ?_
              repeat first | go_big_quiet_step (first | (go_at_call 88; exact quietF hF1 hF2 (zerox _)) | fail) | quiet_step (first | (go_at_call 88; exact quietF hF1 hF2 (zerox _)) | fail)
              refine wpQuiet_nil ?_
              rintro _ ⟨uW, rfl⟩
              have B2 := btr B1 (hF1 uW)
              have Rx_2 := heap_of (hF1 uW) _ _ _ Rx_1
              have Ry_2 := heap_of (hF1 uW) _ _ _ Ry_1
              have Rz_2 := heap_of (hF1 uW) _ _ _ Rz_1
              obtain ⟨w2, hw⟩ : ∃ V, F uW = V := ⟨_, rfl⟩
              rw [hw] at B2 Rx_2 Ry_2 Rz_2
              try rw [hw]
              clear hw hF1 hF2 B1 fx_0 fx_1 fx_2 fx_3 fy_0 fy_1 fy_2 fy_3 fz_0 fz_1 fz_2 fz_3 Rx_1 cx_1_0 cx_1_1 cx_1_2 cx_1_3 Ry_1 cy_1_0 cy_1_1 cy_1_2 cy_1_3 Rz_1 cz_1_0 cz_1_1 cz_1_2 cz_1_3
              clear F
              obtain ⟨cx_2_0, cx_2_1, cx_2_2, cx_2_3⟩ := cells4s Rx_2
              obtain ⟨cy_2_0, cy_2_1, cy_2_2, cy_2_3⟩ := cells4s Ry_2
              obtain ⟨cz_2_0, cz_2_1, cz_2_2, cz_2_3⟩ := cells4s Rz_2
              go_wp2_with fail
              refine (K1.out _).mono ?_
              rintro r w3 ⟨rfl, b3⟩
              have B3 : Below w.heap.size w w3 := btr B2 b3
              have Rx_3 := heap_of b3 _ _ _ Rx_2
              have Ry_3 := heap_of b3 _ _ _ Ry_2
              have Rz_3 := heap_of b3 _ _ _ Rz_2
              clear b3 B2 Rx_2 cx_2_0 cx_2_1 cx_2_2 cx_2_3 Ry_2 cy_2_0 cy_2_1 cy_2_2 cy_2_3 Rz_2 cz_2_0 cz_2_1 cz_2_2 cz_2_3
              obtain ⟨cx_3_0, cx_3_1, cx_3_2, cx_3_3⟩ := cells4s Rx_3
              obtain ⟨cy_3_0, cy_3_1, cy_3_2, cy_3_3⟩ := cells4s Ry_3
              obtain ⟨cz_3_0, cz_3_1, cz_3_2, cz_3_3⟩ := cells4s Rz_3
              go_wp2_with fail
              refine (pn_mul_ok d f t q z 0 HT2.out HQ2.out L2.out L4.out HX.out _).mono ?_
              rintro r w4 ⟨rfl, b4⟩
              have B4 : Below w.heap.size w w4 := btr B3 b4
              have Rx_4 := heap_of b4 _ _ _ Rx_3
              have Ry_4 := heap_of b4 _ _ _ Ry_3
              have Rz_4 := heap_of b4 _ _ _ Rz_3
              clear b4 B3 Rx_3 cx_3_0 cx_3_1 cx_3_2 cx_3_3 Ry_3 cy_3_0 cy_3_1 cy_3_2 cy_3_3 Rz_3 cz_3_0 cz_3_1 cz_3_2 cz_3_3
              obtain ⟨cx_4_0, cx_4_1, cx_4_2, cx_4_3⟩ := cells4s Rx_4
              obtain ⟨cy_4_0, cy_4_1, cy_4_2, cy_4_3⟩ := cells4s Ry_4
              obtain ⟨cz_4_0, cz_4_1, cz_4_2, cz_4_3⟩ := cells4s Rz_4
              go_wp2_with fail
              refine (K2.out _).mono ?_
              rintro r w5 ⟨rfl, b5⟩
              have B5 : Below w.heap.size w w5 := btr B4 b5
              have Rx_5 := heap_of b5 _ _ _ Rx_4
              have Ry_5 := heap_of b5 _ _ _ Ry_4
              have Rz_5 := heap_of b5 _ _ _ Rz_4
              clear b5 B4 Rx_4 cx_4_0 cx_4_1 cx_4_2 cx_4_3 Ry_4 cy_4_0 cy_4_1 cy_4_2 cy_4_3 Rz_4 cz_4_0 cz_4_1 cz_4_2 cz_4_3
              obtain ⟨cx_5_0, cx_5_1, cx_5_2, cx_5_3⟩ := cells4s Rx_5
              obtain ⟨cy_5_0, cy_5_1, cy_5_2, cy_5_3⟩ := cells4s Ry_5
              obtain ⟨cz_5_0, cz_5_1, cz_5_2, cz_5_3⟩ := cells4s Rz_5
              have q0 := fz (k := 0) Rz_5
              have q1 := fz (k := 1) Rz_5
              have q2 := fz (k := 2) Rz_5
              have q3 := fz (k := 3) Rz_5
              obtain ⟨E0, E1, E2, E3⟩ := set4_cells Rz_5 rfl (.bool false) (.string ⟨#[]⟩) (.string ⟨#[]⟩) (.int .i64 0)
              go_wp2
              exact bodyPost_ret (v := .tuple #[.agg #[.bool false, .string ⟨#[]⟩, .string ⟨#[]⟩, .int .i64 0], .int .i64 4]) (by simp [results, Tryz.results87, go_sem, E0, E1, E2, E3]) rfl ⟨rfl, set4_below B5 (by first | exact Nat.le_refl _ | omega) _ _ _ _⟩
            · obtain ⟨Rx_0, Ry_0, Rz_0, B0⟩ := opn3 w (Obj.cells #[.bool true, .string s, .string t, .int .i64 e] 28) (Obj.cells #[.bool true, .string p, .string q, .int .i64 g] 28) (Obj.cells #[.bool false, .string ⟨#[]⟩, .string ⟨#[]⟩, .int .i64 0] 28)
              go_enter Tryz.func87, Tryz.ntmps87
              go_wp2_with fail
              obtain ⟨F, hF1, hF2⟩ := below_fun (((w.alloc (Obj.cells #[.bool true, .string s, .string t, .int .i64 e] 28)).alloc (Obj.cells #[.bool true, .string p, .string q, .int .i64 g] 28)).alloc (Obj.cells #[.bool false, .string ⟨#[]⟩, .string ⟨#[]⟩, .int .i64 0] 28))
              have fx_0 := fun u => cells4 (heap_of (hF1 u) _ _ _ Rx_0) 0 _ rfl
              have fx_1 := fun u => cells4 (heap_of (hF1 u) _ _ _ Rx_0) 1 _ rfl
              have fx_2 := fun u => cells4 (heap_of (hF1 u) _ _ _ Rx_0) 2 _ rfl
              have fx_3 := fun u => cells4 (heap_of (hF1 u) _ _ _ Rx_0) 3 _ rfl
              have fy_0 := fun u => cells4 (heap_of (hF1 u) _ _ _ Ry_0) 0 _ rfl
              have fy_1 := fun u => cells4 (heap_of (hF1 u) _ _ _ Ry_0) 1 _ rfl
              have fy_2 := fun u => cells4 (heap_of (hF1 u) _ _ _ Ry_0) 2 _ rfl
              have fy_3 := fun u => cells4 (heap_of (hF1 u) _ _ _ Ry_0) 3 _ rfl
              have fz_0 := fun u => cells4 (heap_of (hF1 u) _ _ _ Rz_0) 0 _ rfl
              have fz_1 := fun u => cells4 (heap_of (hF1 u) _ _ _ Rz_0) 1 _ rfl
              have fz_2 := fun u => cells4 (heap_of (hF1 u) _ _ _ Rz_0) 2 _ rfl
              have fz_3 := fun u => cells4 (heap_of (hF1 u) _ _ _ Rz_0) 3 _ rfl
              refine wp_region_below F hF2 (by kernel_rfl) (by kernel_rfl) ?_
              repeat first | go_big_quiet_step (first | (go_at_call 88; exact quietF hF1 hF2 (zerox _)) | fail) | quiet_step (first | (go_at_call 88; exact quietF hF1 hF2 (zerox _)) | fail)
              refine wpQuiet_nil ?_
              rintro _ ⟨uW, rfl⟩
              have B1 := btr B0 (hF1 uW)
              have Rx_1 := heap_of (hF1 uW) _ _ _ Rx_0
              have Ry_1 := heap_of (hF1 uW) _ _ _ Ry_0
              have Rz_1 := heap_of (hF1 uW) _ _ _ Rz_0
              obtain ⟨w1, hw⟩ : ∃ V, F uW = V := ⟨_, rfl⟩
              rw [hw] at B1 Rx_1 Ry_1 Rz_1
              try rw [hw]
              clear hw hF1 hF2 B0 fx_0 fx_1 fx_2 fx_3 fy_0 fy_1 fy_2 fy_3 fz_0 fz_1 fz_2 fz_3 Rx_0 Ry_0 Rz_0
              clear F
              obtain ⟨cx_1_0, cx_1_1, cx_1_2, cx_1_3⟩ := cells4s Rx_1
              obtain ⟨cy_1_0, cy_1_1, cy_1_2, cy_1_3⟩ := cells4s Ry_1
              obtain ⟨cz_1_0, cz_1_1, cz_1_2, cz_1_3⟩ := cells4s Rz_1
              go_wp2_with fail
              obtain ⟨F, hF1, hF2⟩ := below_fun w1
              have fx_0 := fun u => cells4 (heap_of (hF1 u) _ _ _ Rx_1) 0 _ rfl
              have fx_1 := fun u => cells4 (heap_of (hF1 u) _ _ _ Rx_1) 1 _ rfl
              have fx_2 := fun u => cells4 (heap_of (hF1 u) _ _ _ Rx_1) 2 _ rfl
              have fx_3 := fun u => cells4 (heap_of (hF1 u) _ _ _ Rx_1) 3 _ rfl
              have fy_0 := fun u => cells4 (heap_of (hF1 u) _ _ _ Ry_1) 0 _ rfl
              have fy_1 := fun u => cells4 (heap_of (hF1 u) _ _ _ Ry_1) 1 _ rfl
              have fy_2 := fun u => cells4 (heap_of (hF1 u) _ _ _ Ry_1) 2 _ rfl
              have fy_3 := fun u => cells4 (heap_of (hF1 u) _ _ _ Ry_1) 3 _ rfl
              have fz_0 := fun u => cells4 (heap_of (hF1 u) _ _ _ Rz_1) 0 _ rfl
              have fz_1 := fun u => cells4 (heap_of (hF1 u) _ _ _ Rz_1) 1 _ rfl
              have fz_2 := fun u => cells4 (heap_of (hF1 u) _ _ _ Rz_1) 2 _ rfl
              have fz_3 := fun u => cells4 (heap_of (hF1 u) _ _ _ Rz_1) 3 _ rfl
              refine wp_region_below F hF2 (by kernel_rfl) (by kernel_rfl) ?_
              repeat first | go_big_quiet_step (first | (go_at_call 88; exact quietF hF1 hF2 (zerox _)) | fail) | quiet_step (first | (go_at_call 88; exact quietF hF1 hF2 (zerox _)) | fail)
              refine wpQuiet_nil ?_
              rintro _ ⟨uW, rfl⟩
              have B2 := btr B1 (hF1 uW)
              have Rx_2 := heap_of (hF1 uW) _ _ _ Rx_1
              have Ry_2 := heap_of (hF1 uW) _ _ _ Ry_1
              have Rz_2 := heap_of (hF1 uW) _ _ _ Rz_1
              obtain ⟨w2, hw⟩ : ∃ V, F uW = V := ⟨_, rfl⟩
              rw [hw] at B2 Rx_2 Ry_2 Rz_2
              try rw [hw]
              clear hw hF1 hF2 B1 fx_0 fx_1 fx_2 fx_3 fy_0 fy_1 fy_2 fy_3 fz_0 fz_1 fz_2 fz_3 Rx_1 cx_1_0 cx_1_1 cx_1_2 cx_1_3 Ry_1 cy_1_0 cy_1_1 cy_1_2 cy_1_3 Rz_1 cz_1_0 cz_1_1 cz_1_2 cz_1_3
              clear F
              obtain ⟨cx_2_0, cx_2_1, cx_2_2, cx_2_3⟩ := cells4s Rx_2
              obtain ⟨cy_2_0, cy_2_1, cy_2_2, cy_2_3⟩ := cells4s Ry_2
              obtain ⟨cz_2_0, cz_2_1, cz_2_2, cz_2_3⟩ := cells4s Rz_2
              go_wp2_with fail
              refine (K1.out _).mono ?_
              rintro r w3 ⟨rfl, b3⟩
              have B3 : Below w.heap.size w w3 := btr B2 b3
              have Rx_3 := heap_of b3 _ _ _ Rx_2
              have Ry_3 := heap_of b3 _ _ _ Ry_2
              have Rz_3 := heap_of b3 _ _ _ Rz_2
              clear b3 B2 Rx_2 cx_2_0 cx_2_1 cx_2_2 cx_2_3 Ry_2 cy_2_0 cy_2_1 cy_2_2 cy_2_3 Rz_2 cz_2_0 cz_2_1 cz_2_2 cz_2_3
              obtain ⟨cx_3_0, cx_3_1, cx_3_2, cx_3_3⟩ := cells4s Rx_3
              obtain ⟨cy_3_0, cy_3_1, cy_3_2, cy_3_3⟩ := cells4s Ry_3
              obtain ⟨cz_3_0, cz_3_1, cz_3_2, cz_3_3⟩ := cells4s Rz_3
              go_wp2_with fail
              refine (pn_mul_ok d f t q z 0 HT2.out HQ2.out L2.out L4.out HX.out _).mono ?_
              rintro r w4 ⟨rfl, b4⟩
              have B4 : Below w.heap.size w w4 := btr B3 b4
              have Rx_4 := heap_of b4 _ _ _ Rx_3
              have Ry_4 := heap_of b4 _ _ _ Ry_3
              have Rz_4 := heap_of b4 _ _ _ Rz_3
              clear b4 B3 Rx_3 cx_3_0 cx_3_1 cx_3_2 cx_3_3 Ry_3 cy_3_0 cy_3_1 cy_3_2 cy_3_3 Rz_3 cz_3_0 cz_3_1 cz_3_2 cz_3_3
              obtain ⟨cx_4_0, cx_4_1, cx_4_2, cx_4_3⟩ := cells4s Rx_4
              obtain ⟨cy_4_0, cy_4_1, cy_4_2, cy_4_3⟩ := cells4s Ry_4
              obtain ⟨cz_4_0, cz_4_1, cz_4_2, cz_4_3⟩ := cells4s Rz_4
              go_wp2_with fail
              refine (K2.out _).mono ?_
              rintro r w5 ⟨rfl, b5⟩
              have B5 : Below w.heap.size w w5 := btr B4 b5
              have Rx_5 := heap_of b5 _ _ _ Rx_4
              have Ry_5 := heap_of b5 _ _ _ Ry_4
              have Rz_5 := heap_of b5 _ _ _ Rz_4
              clear b5 B4 Rx_4 cx_4_0 cx_4_1 cx_4_2 cx_4_3 Ry_4 cy_4_0 cy_4_1 cy_4_2 cy_4_3 Rz_4 cz_4_0 cz_4_1 cz_4_2 cz_4_3
              obtain ⟨cx_5_0, cx_5_1, cx_5_2, cx_5_3⟩ := cells4s Rx_5
              obtain ⟨cy_5_0, cy_5_1, cy_5_2, cy_5_3⟩ := cells4s Ry_5
              obtain ⟨cz_5_0, cz_5_1, cz_5_2, cz_5_3⟩ := cells4s Rz_5
              have q0 := fz (k := 0) Rz_5
              have q1 := fz (k := 1) Rz_5
              have q2 := fz (k := 2) Rz_5
              have q3 := fz (k := 3) Rz_5
              obtain ⟨E0, E1, E2, E3⟩ := set4_cells Rz_5 rfl (.bool false) (.string ⟨#[]⟩) (.string ⟨#[]⟩) (.int .i64 0)
              go_wp2
              exact bodyPost_ret (v := .tuple #[.agg #[.bool false, .string ⟨#[]⟩, .string ⟨#[]⟩, .int .i64 0], .int .i64 4]) (by simp [results, Tryz.results87, go_sem, E0, E1, E2, E3]) rfl ⟨rfl, set4_below B5 (by first | exact Nat.le_refl _ | omega) _ _ _ _⟩
        · have HX := box (lg_no (d * f) h3)
          rw [if_neg (fun h => h3 h.2.2.1)] at hr2
          obtain ⟨rfl, rfl, rfl, rfl, rfl⟩ := xz_is hr2
          rw [nbA_zero] at hu hv
          subst hu hv
          clear hs ht hp hq hx hy hr hr2 hT n0 m0 l1 l2 l3 l4 d1 d2 hA hB hS hZ hS2 hZ2 h12 h3 hxa hyb ha
          cases b
          all_goals cases c
          · obtain ⟨Rx_0, Ry_0, Rz_0, B0⟩ := opn3 w (Obj.cells #[.bool false, .string s, .string t, .int .i64 e] 28) (Obj.cells #[.bool false, .string p, .string q, .int .i64 g] 28) (Obj.cells #[.bool false, .string ⟨#[]⟩, .string ⟨#[]⟩, .int .i64 0] 28)
            go_enter Tryz.func87, Tryz.ntmps87
            go_wp2_with fail
            obtain ⟨F, hF1, hF2⟩ := below_fun (((w.alloc (Obj.cells #[.bool false, .string s, .string t, .int .i64 e] 28)).alloc (Obj.cells #[.bool false, .string p, .string q, .int .i64 g] 28)).alloc (Obj.cells #[.bool false, .string ⟨#[]⟩, .string ⟨#[]⟩, .int .i64 0] 28))
            have fx_0 := fun u => cells4 (heap_of (hF1 u) _ _ _ Rx_0) 0 _ rfl
            have fx_1 := fun u => cells4 (heap_of (hF1 u) _ _ _ Rx_0) 1 _ rfl
            have fx_2 := fun u => cells4 (heap_of (hF1 u) _ _ _ Rx_0) 2 _ rfl
            have fx_3 := fun u => cells4 (heap_of (hF1 u) _ _ _ Rx_0) 3 _ rfl
            have fy_0 := fun u => cells4 (heap_of (hF1 u) _ _ _ Ry_0) 0 _ rfl
            have fy_1 := fun u => cells4 (heap_of (hF1 u) _ _ _ Ry_0) 1 _ rfl
            have fy_2 := fun u => cells4 (heap_of (hF1 u) _ _ _ Ry_0) 2 _ rfl
            have fy_3 := fun u => cells4 (heap_of (hF1 u) _ _ _ Ry_0) 3 _ rfl
            have fz_0 := fun u => cells4 (heap_of (hF1 u) _ _ _ Rz_0) 0 _ rfl
            have fz_1 := fun u => cells4 (heap_of (hF1 u) _ _ _ Rz_0) 1 _ rfl
            have fz_2 := fun u => cells4 (heap_of (hF1 u) _ _ _ Rz_0) 2 _ rfl
            have fz_3 := fun u => cells4 (heap_of (hF1 u) _ _ _ Rz_0) 3 _ rfl
            refine wp_region_below F hF2 (by kernel_rfl) (by kernel_rfl) ?_
            repeat first | go_big_quiet_step (first | (go_at_call 88; exact quietF hF1 hF2 (zerox _)) | fail) | quiet_step (first | (go_at_call 88; exact quietF hF1 hF2 (zerox _)) | fail)
            refine wpQuiet_nil ?_
            rintro _ ⟨uW, rfl⟩
            have B1 := btr B0 (hF1 uW)
            have Rx_1 := heap_of (hF1 uW) _ _ _ Rx_0
            have Ry_1 := heap_of (hF1 uW) _ _ _ Ry_0
            have Rz_1 := heap_of (hF1 uW) _ _ _ Rz_0
            obtain ⟨w1, hw⟩ : ∃ V, F uW = V := ⟨_, rfl⟩
            rw [hw] at B1 Rx_1 Ry_1 Rz_1
            try rw [hw]
            clear hw hF1 hF2 B0 fx_0 fx_1 fx_2 fx_3 fy_0 fy_1 fy_2 fy_3 fz_0 fz_1 fz_2 fz_3 Rx_0 Ry_0 Rz_0
            clear F
            obtain ⟨cx_1_0, cx_1_1, cx_1_2, cx_1_3⟩ := cells4s Rx_1
            obtain ⟨cy_1_0, cy_1_1, cy_1_2, cy_1_3⟩ := cells4s Ry_1
            obtain ⟨cz_1_0, cz_1_1, cz_1_2, cz_1_3⟩ := cells4s Rz_1
            go_wp2_with fail
            obtain ⟨F, hF1, hF2⟩ := below_fun w1
            have fx_0 := fun u => cells4 (heap_of (hF1 u) _ _ _ Rx_1) 0 _ rfl
            have fx_1 := fun u => cells4 (heap_of (hF1 u) _ _ _ Rx_1) 1 _ rfl
            have fx_2 := fun u => cells4 (heap_of (hF1 u) _ _ _ Rx_1) 2 _ rfl
            have fx_3 := fun u => cells4 (heap_of (hF1 u) _ _ _ Rx_1) 3 _ rfl
            have fy_0 := fun u => cells4 (heap_of (hF1 u) _ _ _ Ry_1) 0 _ rfl
            have fy_1 := fun u => cells4 (heap_of (hF1 u) _ _ _ Ry_1) 1 _ rfl
            have fy_2 := fun u => cells4 (heap_of (hF1 u) _ _ _ Ry_1) 2 _ rfl
            have fy_3 := fun u => cells4 (heap_of (hF1 u) _ _ _ Ry_1) 3 _ rfl
            have fz_0 := fun u => cells4 (heap_of (hF1 u) _ _ _ Rz_1) 0 _ rfl
            have fz_1 := fun u => cells4 (heap_of (hF1 u) _ _ _ Rz_1) 1 _ rfl
            have fz_2 := fun u => cells4 (heap_of (hF1 u) _ _ _ Rz_1) 2 _ rfl
            have fz_3 := fun u => cells4 (heap_of (hF1 u) _ _ _ Rz_1) 3 _ rfl
            refine wp_region_below F hF2 (by kernel_rfl) (by kernel_rfl) ?_
            repeat first | go_big_quiet_step (first | (go_at_call 88; exact quietF hF1 hF2 (zerox _)) | fail) | quiet_step (first | (go_at_call 88; exact quietF hF1 hF2 (zerox _)) | fail)
            refine wpQuiet_nil ?_
            rintro _ ⟨uW, rfl⟩
            have B2 := btr B1 (hF1 uW)
            have Rx_2 := heap_of (hF1 uW) _ _ _ Rx_1
            have Ry_2 := heap_of (hF1 uW) _ _ _ Ry_1
            have Rz_2 := heap_of (hF1 uW) _ _ _ Rz_1
            obtain ⟨w2, hw⟩ : ∃ V, F uW = V := ⟨_, rfl⟩
            rw [hw] at B2 Rx_2 Ry_2 Rz_2
            try rw [hw]
            clear hw hF1 hF2 B1 fx_0 fx_1 fx_2 fx_3 fy_0 fy_1 fy_2 fy_3 fz_0 fz_1 fz_2 fz_3 Rx_1 cx_1_0 cx_1_1 cx_1_2 cx_1_3 Ry_1 cy_1_0 cy_1_1 cy_1_2 cy_1_3 Rz_1 cz_1_0 cz_1_1 cz_1_2 cz_1_3
            clear F
            obtain ⟨cx_2_0, cx_2_1, cx_2_2, cx_2_3⟩ := cells4s Rx_2
            obtain ⟨cy_2_0, cy_2_1, cy_2_2, cy_2_3⟩ := cells4s Ry_2
            obtain ⟨cz_2_0, cz_2_1, cz_2_2, cz_2_3⟩ := cells4s Rz_2
            go_wp2_with fail
            refine (K1.out _).mono ?_
            rintro r w3 ⟨rfl, b3⟩
            have B3 : Below w.heap.size w w3 := btr B2 b3
            have Rx_3 := heap_of b3 _ _ _ Rx_2
            have Ry_3 := heap_of b3 _ _ _ Ry_2
            have Rz_3 := heap_of b3 _ _ _ Rz_2
            clear b3 B2 Rx_2 cx_2_0 cx_2_1 cx_2_2 cx_2_3 Ry_2 cy_2_0 cy_2_1 cy_2_2 cy_2_3 Rz_2 cz_2_0 cz_2_1 cz_2_2 cz_2_3
            obtain ⟨cx_3_0, cx_3_1, cx_3_2, cx_3_3⟩ := cells4s Rx_3
            obtain ⟨cy_3_0, cy_3_1, cy_3_2, cy_3_3⟩ := cells4s Ry_3
            obtain ⟨cz_3_0, cz_3_1, cz_3_2, cz_3_3⟩ := cells4s Rz_3
            go_wp2_with fail
            refine (pn_mul_ok d f t q _ 4 HT2.out HQ2.out L2.out L4.out HX.out _).mono ?_
            rintro r w4 ⟨rfl, b4⟩
            have B4 : Below w.heap.size w w4 := btr B3 b4
            have Rx_4 := heap_of b4 _ _ _ Rx_3
            have Ry_4 := heap_of b4 _ _ _ Ry_3
            have Rz_4 := heap_of b4 _ _ _ Rz_3
            clear b4 B3 Rx_3 cx_3_0 cx_3_1 cx_3_2 cx_3_3 Ry_3 cy_3_0 cy_3_1 cy_3_2 cy_3_3 Rz_3 cz_3_0 cz_3_1 cz_3_2 cz_3_3
            obtain ⟨cx_4_0, cx_4_1, cx_4_2, cx_4_3⟩ := cells4s Rx_4
            obtain ⟨cy_4_0, cy_4_1, cy_4_2, cy_4_3⟩ := cells4s Ry_4
            obtain ⟨cz_4_0, cz_4_1, cz_4_2, cz_4_3⟩ := cells4s Rz_4
            have q0 := fz (k := 0) Rz_4
            have q1 := fz (k := 1) Rz_4
            have q2 := fz (k := 2) Rz_4
            have q3 := fz (k := 3) Rz_4
            obtain ⟨E0, E1, E2, E3⟩ := set4_cells Rz_4 rfl (.bool false) (.string ⟨#[]⟩) (.string ⟨#[]⟩) (.int .i64 0)
            go_wp2
            exact bodyPost_ret (v := .tuple #[.agg #[.bool false, .string ⟨#[]⟩, .string ⟨#[]⟩, .int .i64 0], .int .i64 4]) (by simp [results, Tryz.results87, go_sem, E0, E1, E2, E3]) rfl ⟨rfl, set4_below B4 (by first | exact Nat.le_refl _ | omega) _ _ _ _⟩
          · obtain ⟨Rx_0, Ry_0, Rz_0, B0⟩ := opn3 w (Obj.cells #[.bool false, .string s, .string t, .int .i64 e] 28) (Obj.cells #[.bool true, .string p, .string q, .int .i64 g] 28) (Obj.cells #[.bool false, .string ⟨#[]⟩, .string ⟨#[]⟩, .int .i64 0] 28)
            go_enter Tryz.func87, Tryz.ntmps87
            go_wp2_with fail
            obtain ⟨F, hF1, hF2⟩ := below_fun (((w.alloc (Obj.cells #[.bool false, .string s, .string t, .int .i64 e] 28)).alloc (Obj.cells #[.bool true, .string p, .string q, .int .i64 g] 28)).alloc (Obj.cells #[.bool false, .string ⟨#[]⟩, .string ⟨#[]⟩, .int .i64 0] 28))
            have fx_0 := fun u => cells4 (heap_of (hF1 u) _ _ _ Rx_0) 0 _ rfl
            have fx_1 := fun u => cells4 (heap_of (hF1 u) _ _ _ Rx_0) 1 _ rfl
            have fx_2 := fun u => cells4 (heap_of (hF1 u) _ _ _ Rx_0) 2 _ rfl
            have fx_3 := fun u => cells4 (heap_of (hF1 u) _ _ _ Rx_0) 3 _ rfl
            have fy_0 := fun u => cells4 (heap_of (hF1 u) _ _ _ Ry_0) 0 _ rfl
            have fy_1 := fun u => cells4 (heap_of (hF1 u) _ _ _ Ry_0) 1 _ rfl
            have fy_2 := fun u => cells4 (heap_of (hF1 u) _ _ _ Ry_0) 2 _ rfl
            have fy_3 := fun u => cells4 (heap_of (hF1 u) _ _ _ Ry_0) 3 _ rfl
            have fz_0 := fun u => cells4 (heap_of (hF1 u) _ _ _ Rz_0) 0 _ rfl
            have fz_1 := fun u => cells4 (heap_of (hF1 u) _ _ _ Rz_0) 1 _ rfl
            have fz_2 := fun u => cells4 (heap_of (hF1 u) _ _ _ Rz_0) 2 _ rfl
            have fz_3 := fun u => cells4 (heap_of (hF1 u) _ _ _ Rz_0) 3 _ rfl
            refine wp_region_below F hF2 (by kernel_rfl) (by kernel_rfl) ?_
            repeat first | go_big_quiet_step (first | (go_at_call 88; exact quietF hF1 hF2 (zerox _)) | fail) | quiet_step (first | (go_at_call 88; exact quietF hF1 hF2 (zerox _)) | fail)
            refine wpQuiet_nil ?_
            rintro _ ⟨uW, rfl⟩
            have B1 := btr B0 (hF1 uW)
            have Rx_1 := heap_of (hF1 uW) _ _ _ Rx_0
            have Ry_1 := heap_of (hF1 uW) _ _ _ Ry_0
            have Rz_1 := heap_of (hF1 uW) _ _ _ Rz_0
            obtain ⟨w1, hw⟩ : ∃ V, F uW = V := ⟨_, rfl⟩
            rw [hw] at B1 Rx_1 Ry_1 Rz_1
            try rw [hw]
            clear hw hF1 hF2 B0 fx_0 fx_1 fx_2 fx_3 fy_0 fy_1 fy_2 fy_3 fz_0 fz_1 fz_2 fz_3 Rx_0 Ry_0 Rz_0
            clear F
            obtain ⟨cx_1_0, cx_1_1, cx_1_2, cx_1_3⟩ := cells4s Rx_1
            obtain ⟨cy_1_0, cy_1_1, cy_1_2, cy_1_3⟩ := cells4s Ry_1
            obtain ⟨cz_1_0, cz_1_1, cz_1_2, cz_1_3⟩ := cells4s Rz_1
            go_wp2_with fail
            obtain ⟨F, hF1, hF2⟩ := below_fun w1
            have fx_0 := fun u => cells4 (heap_of (hF1 u) _ _ _ Rx_1) 0 _ rfl
            have fx_1 := fun u => cells4 (heap_of (hF1 u) _ _ _ Rx_1) 1 _ rfl
            have fx_2 := fun u => cells4 (heap_of (hF1 u) _ _ _ Rx_1) 2 _ rfl
            have fx_3 := fun u => cells4 (heap_of (hF1 u) _ _ _ Rx_1) 3 _ rfl
            have fy_0 := fun u => cells4 (heap_of (hF1 u) _ _ _ Ry_1) 0 _ rfl
            have fy_1 := fun u => cells4 (heap_of (hF1 u) _ _ _ Ry_1) 1 _ rfl
            have fy_2 := fun u => cells4 (heap_of (hF1 u) _ _ _ Ry_1) 2 _ rfl
            have fy_3 := fun u => cells4 (heap_of (hF1 u) _ _ _ Ry_1) 3 _ rfl
            have fz_0 := fun u => cells4 (heap_of (hF1 u) _ _ _ Rz_1) 0 _ rfl
            have fz_1 := fun u => cells4 (heap_of (hF1 u) _ _ _ Rz_1) 1 _ rfl
            have fz_2 := fun u => cells4 (heap_of (hF1 u) _ _ _ Rz_1) 2 _ rfl
            have fz_3 := fun u => cells4 (heap_of (hF1 u) _ _ _ Rz_1) 3 _ rfl
            refine wp_region_below F hF2 (by kernel_rfl) (by kernel_rfl) ?_
            repeat first | go_big_quiet_step (first | (go_at_call 88; exact quietF hF1 hF2 (zerox _)) | fail) | quiet_step (first | (go_at_call 88; exact quietF hF1 hF2 (zerox _)) | fail)
            refine wpQuiet_nil ?_
            rintro _ ⟨uW, rfl⟩
            have B2 := btr B1 (hF1 uW)
            have Rx_2 := heap_of (hF1 uW) _ _ _ Rx_1
            have Ry_2 := heap_of (hF1 uW) _ _ _ Ry_1
            have Rz_2 := heap_of (hF1 uW) _ _ _ Rz_1
            obtain ⟨w2, hw⟩ : ∃ V, F uW = V := ⟨_, rfl⟩
            rw [hw] at B2 Rx_2 Ry_2 Rz_2
            try rw [hw]
            clear hw hF1 hF2 B1 fx_0 fx_1 fx_2 fx_3 fy_0 fy_1 fy_2 fy_3 fz_0 fz_1 fz_2 fz_3 Rx_1 cx_1_0 cx_1_1 cx_1_2 cx_1_3 Ry_1 cy_1_0 cy_1_1 cy_1_2 cy_1_3 Rz_1 cz_1_0 cz_1_1 cz_1_2 cz_1_3
            clear F
            obtain ⟨cx_2_0, cx_2_1, cx_2_2, cx_2_3⟩ := cells4s Rx_2
            obtain ⟨cy_2_0, cy_2_1, cy_2_2, cy_2_3⟩ := cells4s Ry_2
            obtain ⟨cz_2_0, cz_2_1, cz_2_2, cz_2_3⟩ := cells4s Rz_2
            go_wp2_with fail
            refine (K1.out _).mono ?_
            rintro r w3 ⟨rfl, b3⟩
            have B3 : Below w.heap.size w w3 := btr B2 b3
            have Rx_3 := heap_of b3 _ _ _ Rx_2
            have Ry_3 := heap_of b3 _ _ _ Ry_2
            have Rz_3 := heap_of b3 _ _ _ Rz_2
            clear b3 B2 Rx_2 cx_2_0 cx_2_1 cx_2_2 cx_2_3 Ry_2 cy_2_0 cy_2_1 cy_2_2 cy_2_3 Rz_2 cz_2_0 cz_2_1 cz_2_2 cz_2_3
            obtain ⟨cx_3_0, cx_3_1, cx_3_2, cx_3_3⟩ := cells4s Rx_3
            obtain ⟨cy_3_0, cy_3_1, cy_3_2, cy_3_3⟩ := cells4s Ry_3
            obtain ⟨cz_3_0, cz_3_1, cz_3_2, cz_3_3⟩ := cells4s Rz_3
            go_wp2_with fail
            refine (pn_mul_ok d f t q _ 4 HT2.out HQ2.out L2.out L4.out HX.out _).mono ?_
            rintro r w4 ⟨rfl, b4⟩
            have B4 : Below w.heap.size w w4 := btr B3 b4
            have Rx_4 := heap_of b4 _ _ _ Rx_3
            have Ry_4 := heap_of b4 _ _ _ Ry_3
            have Rz_4 := heap_of b4 _ _ _ Rz_3
            clear b4 B3 Rx_3 cx_3_0 cx_3_1 cx_3_2 cx_3_3 Ry_3 cy_3_0 cy_3_1 cy_3_2 cy_3_3 Rz_3 cz_3_0 cz_3_1 cz_3_2 cz_3_3
            obtain ⟨cx_4_0, cx_4_1, cx_4_2, cx_4_3⟩ := cells4s Rx_4
            obtain ⟨cy_4_0, cy_4_1, cy_4_2, cy_4_3⟩ := cells4s Ry_4
            obtain ⟨cz_4_0, cz_4_1, cz_4_2, cz_4_3⟩ := cells4s Rz_4
            have q0 := fz (k := 0) Rz_4
            have q1 := fz (k := 1) Rz_4
            have q2 := fz (k := 2) Rz_4
            have q3 := fz (k := 3) Rz_4
            obtain ⟨E0, E1, E2, E3⟩ := set4_cells Rz_4 rfl (.bool false) (.string ⟨#[]⟩) (.string ⟨#[]⟩) (.int .i64 0)
            go_wp2
            exact bodyPost_ret (v := .tuple #[.agg #[.bool false, .string ⟨#[]⟩, .string ⟨#[]⟩, .int .i64 0], .int .i64 4]) (by simp [results, Tryz.results87, go_sem, E0, E1, E2, E3]) rfl ⟨rfl, set4_below B4 (by first | exact Nat.le_refl _ | omega) _ _ _ _⟩
          · obtain ⟨Rx_0, Ry_0, Rz_0, B0⟩ := opn3 w (Obj.cells #[.bool true, .string s, .string t, .int .i64 e] 28) (Obj.cells #[.bool false, .string p, .string q, .int .i64 g] 28) (Obj.cells #[.bool false, .string ⟨#[]⟩, .string ⟨#[]⟩, .int .i64 0] 28)
            go_enter Tryz.func87, Tryz.ntmps87
            go_wp2_with fail
            obtain ⟨F, hF1, hF2⟩ := below_fun (((w.alloc (Obj.cells #[.bool true, .string s, .string t, .int .i64 e] 28)).alloc (Obj.cells #[.bool false, .string p, .string q, .int .i64 g] 28)).alloc (Obj.cells #[.bool false, .string ⟨#[]⟩, .string ⟨#[]⟩, .int .i64 0] 28))
            have fx_0 := fun u => cells4 (heap_of (hF1 u) _ _ _ Rx_0) 0 _ rfl
            have fx_1 := fun u => cells4 (heap_of (hF1 u) _ _ _ Rx_0) 1 _ rfl
            have fx_2 := fun u => cells4 (heap_of (hF1 u) _ _ _ Rx_0) 2 _ rfl
            have fx_3 := fun u => cells4 (heap_of (hF1 u) _ _ _ Rx_0) 3 _ rfl
            have fy_0 := fun u => cells4 (heap_of (hF1 u) _ _ _ Ry_0) 0 _ rfl
            have fy_1 := fun u => cells4 (heap_of (hF1 u) _ _ _ Ry_0) 1 _ rfl
            have fy_2 := fun u => cells4 (heap_of (hF1 u) _ _ _ Ry_0) 2 _ rfl
            have fy_3 := fun u => cells4 (heap_of (hF1 u) _ _ _ Ry_0) 3 _ rfl
            have fz_0 := fun u => cells4 (heap_of (hF1 u) _ _ _ Rz_0) 0 _ rfl
            have fz_1 := fun u => cells4 (heap_of (hF1 u) _ _ _ Rz_0) 1 _ rfl
            have fz_2 := fun u => cells4 (heap_of (hF1 u) _ _ _ Rz_0) 2 _ rfl
            have fz_3 := fun u => cells4 (heap_of (hF1 u) _ _ _ Rz_0) 3 _ rfl
            refine wp_region_below F hF2 (by kernel_rfl) (by kernel_rfl) ?_
            repeat first | go_big_quiet_step (first | (go_at_call 88; exact quietF hF1 hF2 (zerox _)) | fail) | quiet_step (first | (go_at_call 88; exact quietF hF1 hF2 (zerox _)) | fail)
            refine wpQuiet_nil ?_
            rintro _ ⟨uW, rfl⟩
            have B1 := btr B0 (hF1 uW)
            have Rx_1 := heap_of (hF1 uW) _ _ _ Rx_0
            have Ry_1 := heap_of (hF1 uW) _ _ _ Ry_0
            have Rz_1 := heap_of (hF1 uW) _ _ _ Rz_0
            obtain ⟨w1, hw⟩ : ∃ V, F uW = V := ⟨_, rfl⟩
            rw [hw] at B1 Rx_1 Ry_1 Rz_1
            try rw [hw]
            clear hw hF1 hF2 B0 fx_0 fx_1 fx_2 fx_3 fy_0 fy_1 fy_2 fy_3 fz_0 fz_1 fz_2 fz_3 Rx_0 Ry_0 Rz_0
            clear F
            obtain ⟨cx_1_0, cx_1_1, cx_1_2, cx_1_3⟩ := cells4s Rx_1
            obtain ⟨cy_1_0, cy_1_1, cy_1_2, cy_1_3⟩ := cells4s Ry_1
            obtain ⟨cz_1_0, cz_1_1, cz_1_2, cz_1_3⟩ := cells4s Rz_1
            go_wp2_with fail
            obtain ⟨F, hF1, hF2⟩ := below_fun w1
            have fx_0 := fun u => cells4 (heap_of (hF1 u) _ _ _ Rx_1) 0 _ rfl
            have fx_1 := fun u => cells4 (heap_of (hF1 u) _ _ _ Rx_1) 1 _ rfl
            have fx_2 := fun u => cells4 (heap_of (hF1 u) _ _ _ Rx_1) 2 _ rfl
            have fx_3 := fun u => cells4 (heap_of (hF1 u) _ _ _ Rx_1) 3 _ rfl
            have fy_0 := fun u => cells4 (heap_of (hF1 u) _ _ _ Ry_1) 0 _ rfl
            have fy_1 := fun u => cells4 (heap_of (hF1 u) _ _ _ Ry_1) 1 _ rfl
            have fy_2 := fun u => cells4 (heap_of (hF1 u) _ _ _ Ry_1) 2 _ rfl
            have fy_3 := fun u => cells4 (heap_of (hF1 u) _ _ _ Ry_1) 3 _ rfl
            have fz_0 := fun u => cells4 (heap_of (hF1 u) _ _ _ Rz_1) 0 _ rfl
            have fz_1 := fun u => cells4 (heap_of (hF1 u) _ _ _ Rz_1) 1 _ rfl
            have fz_2 := fun u => cells4 (heap_of (hF1 u) _ _ _ Rz_1) 2 _ rfl
            have fz_3 := fun u => cells4 (heap_of (hF1 u) _ _ _ Rz_1) 3 _ rfl
            refine wp_region_below F hF2 (by kernel_rfl) (by kernel_rfl) ?_
            repeat first | go_big_quiet_step (first | (go_at_call 88; exact quietF hF1 hF2 (zerox _)) | fail) | quiet_step (first | (go_at_call 88; exact quietF hF1 hF2 (zerox _)) | fail)
            refine wpQuiet_nil ?_
            rintro _ ⟨uW, rfl⟩
            have B2 := btr B1 (hF1 uW)
            have Rx_2 := heap_of (hF1 uW) _ _ _ Rx_1
            have Ry_2 := heap_of (hF1 uW) _ _ _ Ry_1
            have Rz_2 := heap_of (hF1 uW) _ _ _ Rz_1
            obtain ⟨w2, hw⟩ : ∃ V, F uW = V := ⟨_, rfl⟩
            rw [hw] at B2 Rx_2 Ry_2 Rz_2
            try rw [hw]
            clear hw hF1 hF2 B1 fx_0 fx_1 fx_2 fx_3 fy_0 fy_1 fy_2 fy_3 fz_0 fz_1 fz_2 fz_3 Rx_1 cx_1_0 cx_1_1 cx_1_2 cx_1_3 Ry_1 cy_1_0 cy_1_1 cy_1_2 cy_1_3 Rz_1 cz_1_0 cz_1_1 cz_1_2 cz_1_3
            clear F
            obtain ⟨cx_2_0, cx_2_1, cx_2_2, cx_2_3⟩ := cells4s Rx_2
            obtain ⟨cy_2_0, cy_2_1, cy_2_2, cy_2_3⟩ := cells4s Ry_2
            obtain ⟨cz_2_0, cz_2_1, cz_2_2, cz_2_3⟩ := cells4s Rz_2
            go_wp2_with fail
            refine (K1.out _).mono ?_
            rintro r w3 ⟨rfl, b3⟩
            have B3 : Below w.heap.size w w3 := btr B2 b3
            have Rx_3 := heap_of b3 _ _ _ Rx_2
            have Ry_3 := heap_of b3 _ _ _ Ry_2
            have Rz_3 := heap_of b3 _ _ _ Rz_2
            clear b3 B2 Rx_2 cx_2_0 cx_2_1 cx_2_2 cx_2_3 Ry_2 cy_2_0 cy_2_1 cy_2_2 cy_2_3 Rz_2 cz_2_0 cz_2_1 cz_2_2 cz_2_3
            obtain ⟨cx_3_0, cx_3_1, cx_3_2, cx_3_3⟩ := cells4s Rx_3
            obtain ⟨cy_3_0, cy_3_1, cy_3_2, cy_3_3⟩ := cells4s Ry_3
            obtain ⟨cz_3_0, cz_3_1, cz_3_2, cz_3_3⟩ := cells4s Rz_3
            go_wp2_with fail
            refine (pn_mul_ok d f t q _ 4 HT2.out HQ2.out L2.out L4.out HX.out _).mono ?_
            rintro r w4 ⟨rfl, b4⟩
            have B4 : Below w.heap.size w w4 := btr B3 b4
            have Rx_4 := heap_of b4 _ _ _ Rx_3
            have Ry_4 := heap_of b4 _ _ _ Ry_3
            have Rz_4 := heap_of b4 _ _ _ Rz_3
            clear b4 B3 Rx_3 cx_3_0 cx_3_1 cx_3_2 cx_3_3 Ry_3 cy_3_0 cy_3_1 cy_3_2 cy_3_3 Rz_3 cz_3_0 cz_3_1 cz_3_2 cz_3_3
            obtain ⟨cx_4_0, cx_4_1, cx_4_2, cx_4_3⟩ := cells4s Rx_4
            obtain ⟨cy_4_0, cy_4_1, cy_4_2, cy_4_3⟩ := cells4s Ry_4
            obtain ⟨cz_4_0, cz_4_1, cz_4_2, cz_4_3⟩ := cells4s Rz_4
            have q0 := fz (k := 0) Rz_4
            have q1 := fz (k := 1) Rz_4
            have q2 := fz (k := 2) Rz_4
            have q3 := fz (k := 3) Rz_4
            obtain ⟨E0, E1, E2, E3⟩ := set4_cells Rz_4 rfl (.bool false) (.string ⟨#[]⟩) (.string ⟨#[]⟩) (.int .i64 0)
            go_wp2
            exact bodyPost_ret (v := .tuple #[.agg #[.bool false, .string ⟨#[]⟩, .string ⟨#[]⟩, .int .i64 0], .int .i64 4]) (by simp [results, Tryz.results87, go_sem, E0, E1, E2, E3]) rfl ⟨rfl, set4_below B4 (by first | exact Nat.le_refl _ | omega) _ _ _ _⟩
          · obtain ⟨Rx_0, Ry_0, Rz_0, B0⟩ := opn3 w (Obj.cells #[.bool true, .string s, .string t, .int .i64 e] 28) (Obj.cells #[.bool true, .string p, .string q, .int .i64 g] 28) (Obj.cells #[.bool false, .string ⟨#[]⟩, .string ⟨#[]⟩, .int .i64 0] 28)
            go_enter Tryz.func87, Tryz.ntmps87
            go_wp2_with fail
            obtain ⟨F, hF1, hF2⟩ := below_fun (((w.alloc (Obj.cells #[.bool true, .string s, .string t, .int .i64 e] 28)).alloc (Obj.cells #[.bool true, .string p, .string q, .int .i64 g] 28)).alloc (Obj.cells #[.bool false, .string ⟨#[]⟩, .string ⟨#[]⟩, .int .i64 0] 28))
            have fx_0 := fun u => cells4 (heap_of (hF1 u) _ _ _ Rx_0) 0 _ rfl
            have fx_1 := fun u => cells4 (heap_of (hF1 u) _ _ _ Rx_0) 1 _ rfl
            have fx_2 := fun u => cells4 (heap_of (hF1 u) _ _ _ Rx_0) 2 _ rfl
            have fx_3 := fun u => cells4 (heap_of (hF1 u) _ _ _ Rx_0) 3 _ rfl
            have fy_0 := fun u => cells4 (heap_of (hF1 u) _ _ _ Ry_0) 0 _ rfl
            have fy_1 := fun u => cells4 (heap_of (hF1 u) _ _ _ Ry_0) 1 _ rfl
            have fy_2 := fun u => cells4 (heap_of (hF1 u) _ _ _ Ry_0) 2 _ rfl
            have fy_3 := fun u => cells4 (heap_of (hF1 u) _ _ _ Ry_0) 3 _ rfl
            have fz_0 := fun u => cells4 (heap_of (hF1 u) _ _ _ Rz_0) 0 _ rfl
            have fz_1 := fun u => cells4 (heap_of (hF1 u) _ _ _ Rz_0) 1 _ rfl
            have fz_2 := fun u => cells4 (heap_of (hF1 u) _ _ _ Rz_0) 2 _ rfl
            have fz_3 := fun u => cells4 (heap_of (hF1 u) _ _ _ Rz_0) 3 _ rfl
            refine wp_region_below F hF2 (by kernel_rfl) (by kernel_rfl) ?_
            repeat first | go_big_quiet_step (first | (go_at_call 88; exact quietF hF1 hF2 (zerox _)) | fail) | quiet_step (first | (go_at_call 88; exact quietF hF1 hF2 (zerox _)) | fail)
            refine wpQuiet_nil ?_
            rintro _ ⟨uW, rfl⟩
            have B1 := btr B0 (hF1 uW)
            have Rx_1 := heap_of (hF1 uW) _ _ _ Rx_0
            have Ry_1 := heap_of (hF1 uW) _ _ _ Ry_0
            have Rz_1 := heap_of (hF1 uW) _ _ _ Rz_0
            obtain ⟨w1, hw⟩ : ∃ V, F uW = V := ⟨_, rfl⟩
            rw [hw] at B1 Rx_1 Ry_1 Rz_1
            try rw [hw]
            clear hw hF1 hF2 B0 fx_0 fx_1 fx_2 fx_3 fy_0 fy_1 fy_2 fy_3 fz_0 fz_1 fz_2 fz_3 Rx_0 Ry_0 Rz_0
            clear F
            obtain ⟨cx_1_0, cx_1_1, cx_1_2, cx_1_3⟩ := cells4s Rx_1
            obtain ⟨cy_1_0, cy_1_1, cy_1_2, cy_1_3⟩ := cells4s Ry_1
            obtain ⟨cz_1_0, cz_1_1, cz_1_2, cz_1_3⟩ := cells4s Rz_1
            go_wp2_with fail
            obtain ⟨F, hF1, hF2⟩ := below_fun w1
            have fx_0 := fun u => cells4 (heap_of (hF1 u) _ _ _ Rx_1) 0 _ rfl
            have fx_1 := fun u => cells4 (heap_of (hF1 u) _ _ _ Rx_1) 1 _ rfl
            have fx_2 := fun u => cells4 (heap_of (hF1 u) _ _ _ Rx_1) 2 _ rfl
            have fx_3 := fun u => cells4 (heap_of (hF1 u) _ _ _ Rx_1) 3 _ rfl
            have fy_0 := fun u => cells4 (heap_of (hF1 u) _ _ _ Ry_1) 0 _ rfl
            have fy_1 := fun u => cells4 (heap_of (hF1 u) _ _ _ Ry_1) 1 _ rfl
            have fy_2 := fun u => cells4 (heap_of (hF1 u) _ _ _ Ry_1) 2 _ rfl
            have fy_3 := fun u => cells4 (heap_of (hF1 u) _ _ _ Ry_1) 3 _ rfl
            have fz_0 := fun u => cells4 (heap_of (hF1 u) _ _ _ Rz_1) 0 _ rfl
            have fz_1 := fun u => cells4 (heap_of (hF1 u) _ _ _ Rz_1) 1 _ rfl
            have fz_2 := fun u => cells4 (heap_of (hF1 u) _ _ _ Rz_1) 2 _ rfl
            have fz_3 := fun u => cells4 (heap_of (hF1 u) _ _ _ Rz_1) 3 _ rfl
            refine wp_region_below F hF2 (by kernel_rfl) (by kernel_rfl) ?_
            repeat first | go_big_quiet_step (first | (go_at_call 88; exact quietF hF1 hF2 (zerox _)) | fail) | quiet_step (first | (go_at_call 88; exact quietF hF1 hF2 (zerox _)) | fail)
            refine wpQuiet_nil ?_
            rintro _ ⟨uW, rfl⟩
            have B2 := btr B1 (hF1 uW)
            have Rx_2 := heap_of (hF1 uW) _ _ _ Rx_1
            have Ry_2 := heap_of (hF1 uW) _ _ _ Ry_1
            have Rz_2 := heap_of (hF1 uW) _ _ _ Rz_1
            obtain ⟨w2, hw⟩ : ∃ V, F uW = V := ⟨_, rfl⟩
            rw [hw] at B2 Rx_2 Ry_2 Rz_2
            try rw [hw]
            clear hw hF1 hF2 B1 fx_0 fx_1 fx_2 fx_3 fy_0 fy_1 fy_2 fy_3 fz_0 fz_1 fz_2 fz_3 Rx_1 cx_1_0 cx_1_1 cx_1_2 cx_1_3 Ry_1 cy_1_0 cy_1_1 cy_1_2 cy_1_3 Rz_1 cz_1_0 cz_1_1 cz_1_2 cz_1_3
            clear F
            obtain ⟨cx_2_0, cx_2_1, cx_2_2, cx_2_3⟩ := cells4s Rx_2
            obtain ⟨cy_2_0, cy_2_1, cy_2_2, cy_2_3⟩ := cells4s Ry_2
            obtain ⟨cz_2_0, cz_2_1, cz_2_2, cz_2_3⟩ := cells4s Rz_2
            go_wp2_with fail
            refine (K1.out _).mono ?_
            rintro r w3 ⟨rfl, b3⟩
            have B3 : Below w.heap.size w w3 := btr B2 b3
            have Rx_3 := heap_of b3 _ _ _ Rx_2
            have Ry_3 := heap_of b3 _ _ _ Ry_2
            have Rz_3 := heap_of b3 _ _ _ Rz_2
            clear b3 B2 Rx_2 cx_2_0 cx_2_1 cx_2_2 cx_2_3 Ry_2 cy_2_0 cy_2_1 cy_2_2 cy_2_3 Rz_2 cz_2_0 cz_2_1 cz_2_2 cz_2_3
            obtain ⟨cx_3_0, cx_3_1, cx_3_2, cx_3_3⟩ := cells4s Rx_3
            obtain ⟨cy_3_0, cy_3_1, cy_3_2, cy_3_3⟩ := cells4s Ry_3
            obtain ⟨cz_3_0, cz_3_1, cz_3_2, cz_3_3⟩ := cells4s Rz_3
            go_wp2_with fail
            refine (pn_mul_ok d f t q _ 4 HT2.out HQ2.out L2.out L4.out HX.out _).mono ?_
            rintro r w4 ⟨rfl, b4⟩
            have B4 : Below w.heap.size w w4 := btr B3 b4
            have Rx_4 := heap_of b4 _ _ _ Rx_3
            have Ry_4 := heap_of b4 _ _ _ Ry_3
            have Rz_4 := heap_of b4 _ _ _ Rz_3
            clear b4 B3 Rx_3 cx_3_0 cx_3_1 cx_3_2 cx_3_3 Ry_3 cy_3_0 cy_3_1 cy_3_2 cy_3_3 Rz_3 cz_3_0 cz_3_1 cz_3_2 cz_3_3
            obtain ⟨cx_4_0, cx_4_1, cx_4_2, cx_4_3⟩ := cells4s Rx_4
            obtain ⟨cy_4_0, cy_4_1, cy_4_2, cy_4_3⟩ := cells4s Ry_4
            obtain ⟨cz_4_0, cz_4_1, cz_4_2, cz_4_3⟩ := cells4s Rz_4
            have q0 := fz (k := 0) Rz_4
            have q1 := fz (k := 1) Rz_4
            have q2 := fz (k := 2) Rz_4
            have q3 := fz (k := 3) Rz_4
            obtain ⟨E0, E1, E2, E3⟩ := set4_cells Rz_4 rfl (.bool false) (.string ⟨#[]⟩) (.string ⟨#[]⟩) (.int .i64 0)
            go_wp2
            exact bodyPost_ret (v := .tuple #[.agg #[.bool false, .string ⟨#[]⟩, .string ⟨#[]⟩, .int .i64 0], .int .i64 4]) (by simp [results, Tryz.results87, go_sem, E0, E1, E2, E3]) rfl ⟨rfl, set4_below B4 (by first | exact Nat.le_refl _ | omega) _ _ _ _⟩
      · have K1 := box (fun w => alikex b n d e s t c m f g p q ⟨#[]⟩ ⟨#[]⟩ 4 hs ht hp hq l1 l2 l3 l4 ha (by rw [hA, hB, if_neg h12]) w)
        rw [if_neg (fun h => h12 ⟨h.1, h.2.1⟩)] at hr2
        obtain ⟨rfl, rfl, rfl, rfl, rfl⟩ := xz_is hr2
        rw [nbA_zero] at hu hv
        subst hu hv
        clear hs ht hp hq hx hy hr hr2 hT n0 m0 l1 l2 l3 l4 d1 d2 hA hB hS hZ hS2 hZ2 h12 ha
        cases b
        all_goals cases c
        · obtain ⟨Rx_0, Ry_0, Rz_0, B0⟩ := opn3 w (Obj.cells #[.bool false, .string s, .string t, .int .i64 e] 28) (Obj.cells #[.bool false, .string p, .string q, .int .i64 g] 28) (Obj.cells #[.bool false, .string ⟨#[]⟩, .string ⟨#[]⟩, .int .i64 0] 28)
          go_enter Tryz.func87, Tryz.ntmps87
          go_wp2_with fail
          obtain ⟨F, hF1, hF2⟩ := below_fun (((w.alloc (Obj.cells #[.bool false, .string s, .string t, .int .i64 e] 28)).alloc (Obj.cells #[.bool false, .string p, .string q, .int .i64 g] 28)).alloc (Obj.cells #[.bool false, .string ⟨#[]⟩, .string ⟨#[]⟩, .int .i64 0] 28))
          have fx_0 := fun u => cells4 (heap_of (hF1 u) _ _ _ Rx_0) 0 _ rfl
          have fx_1 := fun u => cells4 (heap_of (hF1 u) _ _ _ Rx_0) 1 _ rfl
          have fx_2 := fun u => cells4 (heap_of (hF1 u) _ _ _ Rx_0) 2 _ rfl
          have fx_3 := fun u => cells4 (heap_of (hF1 u) _ _ _ Rx_0) 3 _ rfl
          have fy_0 := fun u => cells4 (heap_of (hF1 u) _ _ _ Ry_0) 0 _ rfl
          have fy_1 := fun u => cells4 (heap_of (hF1 u) _ _ _ Ry_0) 1 _ rfl
          have fy_2 := fun u => cells4 (heap_of (hF1 u) _ _ _ Ry_0) 2 _ rfl
          have fy_3 := fun u => cells4 (heap_of (hF1 u) _ _ _ Ry_0) 3 _ rfl
          have fz_0 := fun u => cells4 (heap_of (hF1 u) _ _ _ Rz_0) 0 _ rfl
          have fz_1 := fun u => cells4 (heap_of (hF1 u) _ _ _ Rz_0) 1 _ rfl
          have fz_2 := fun u => cells4 (heap_of (hF1 u) _ _ _ Rz_0) 2 _ rfl
          have fz_3 := fun u => cells4 (heap_of (hF1 u) _ _ _ Rz_0) 3 _ rfl
          refine wp_region_below F hF2 (by kernel_rfl) (by kernel_rfl) ?_
          repeat first | go_big_quiet_step (first | (go_at_call 88; exact quietF hF1 hF2 (zerox _)) | fail) | quiet_step (first | (go_at_call 88; exact quietF hF1 hF2 (zerox _)) | fail)
          refine wpQuiet_nil ?_
          rintro _ ⟨uW, rfl⟩
          have B1 := btr B0 (hF1 uW)
          have Rx_1 := heap_of (hF1 uW) _ _ _ Rx_0
          have Ry_1 := heap_of (hF1 uW) _ _ _ Ry_0
          have Rz_1 := heap_of (hF1 uW) _ _ _ Rz_0
          obtain ⟨w1, hw⟩ : ∃ V, F uW = V := ⟨_, rfl⟩
          rw [hw] at B1 Rx_1 Ry_1 Rz_1
          try rw [hw]
          clear hw hF1 hF2 B0 fx_0 fx_1 fx_2 fx_3 fy_0 fy_1 fy_2 fy_3 fz_0 fz_1 fz_2 fz_3 Rx_0 Ry_0 Rz_0
          clear F
          obtain ⟨cx_1_0, cx_1_1, cx_1_2, cx_1_3⟩ := cells4s Rx_1
          obtain ⟨cy_1_0, cy_1_1, cy_1_2, cy_1_3⟩ := cells4s Ry_1
          obtain ⟨cz_1_0, cz_1_1, cz_1_2, cz_1_3⟩ := cells4s Rz_1
          go_wp2_with fail
          obtain ⟨F, hF1, hF2⟩ := below_fun w1
          have fx_0 := fun u => cells4 (heap_of (hF1 u) _ _ _ Rx_1) 0 _ rfl
          have fx_1 := fun u => cells4 (heap_of (hF1 u) _ _ _ Rx_1) 1 _ rfl
          have fx_2 := fun u => cells4 (heap_of (hF1 u) _ _ _ Rx_1) 2 _ rfl
          have fx_3 := fun u => cells4 (heap_of (hF1 u) _ _ _ Rx_1) 3 _ rfl
          have fy_0 := fun u => cells4 (heap_of (hF1 u) _ _ _ Ry_1) 0 _ rfl
          have fy_1 := fun u => cells4 (heap_of (hF1 u) _ _ _ Ry_1) 1 _ rfl
          have fy_2 := fun u => cells4 (heap_of (hF1 u) _ _ _ Ry_1) 2 _ rfl
          have fy_3 := fun u => cells4 (heap_of (hF1 u) _ _ _ Ry_1) 3 _ rfl
          have fz_0 := fun u => cells4 (heap_of (hF1 u) _ _ _ Rz_1) 0 _ rfl
          have fz_1 := fun u => cells4 (heap_of (hF1 u) _ _ _ Rz_1) 1 _ rfl
          have fz_2 := fun u => cells4 (heap_of (hF1 u) _ _ _ Rz_1) 2 _ rfl
          have fz_3 := fun u => cells4 (heap_of (hF1 u) _ _ _ Rz_1) 3 _ rfl
          refine wp_region_below F hF2 (by kernel_rfl) (by kernel_rfl) ?_
          repeat first | go_big_quiet_step (first | (go_at_call 88; exact quietF hF1 hF2 (zerox _)) | fail) | quiet_step (first | (go_at_call 88; exact quietF hF1 hF2 (zerox _)) | fail)
          refine wpQuiet_nil ?_
          rintro _ ⟨uW, rfl⟩
          have B2 := btr B1 (hF1 uW)
          have Rx_2 := heap_of (hF1 uW) _ _ _ Rx_1
          have Ry_2 := heap_of (hF1 uW) _ _ _ Ry_1
          have Rz_2 := heap_of (hF1 uW) _ _ _ Rz_1
          obtain ⟨w2, hw⟩ : ∃ V, F uW = V := ⟨_, rfl⟩
          rw [hw] at B2 Rx_2 Ry_2 Rz_2
          try rw [hw]
          clear hw hF1 hF2 B1 fx_0 fx_1 fx_2 fx_3 fy_0 fy_1 fy_2 fy_3 fz_0 fz_1 fz_2 fz_3 Rx_1 cx_1_0 cx_1_1 cx_1_2 cx_1_3 Ry_1 cy_1_0 cy_1_1 cy_1_2 cy_1_3 Rz_1 cz_1_0 cz_1_1 cz_1_2 cz_1_3
          clear F
          obtain ⟨cx_2_0, cx_2_1, cx_2_2, cx_2_3⟩ := cells4s Rx_2
          obtain ⟨cy_2_0, cy_2_1, cy_2_2, cy_2_3⟩ := cells4s Ry_2
          obtain ⟨cz_2_0, cz_2_1, cz_2_2, cz_2_3⟩ := cells4s Rz_2
          go_wp2_with fail
          refine (K1.out _).mono ?_
          rintro r w3 ⟨rfl, b3⟩
          have B3 : Below w.heap.size w w3 := btr B2 b3
          have Rx_3 := heap_of b3 _ _ _ Rx_2
          have Ry_3 := heap_of b3 _ _ _ Ry_2
          have Rz_3 := heap_of b3 _ _ _ Rz_2
          clear b3 B2 Rx_2 cx_2_0 cx_2_1 cx_2_2 cx_2_3 Ry_2 cy_2_0 cy_2_1 cy_2_2 cy_2_3 Rz_2 cz_2_0 cz_2_1 cz_2_2 cz_2_3
          obtain ⟨cx_3_0, cx_3_1, cx_3_2, cx_3_3⟩ := cells4s Rx_3
          obtain ⟨cy_3_0, cy_3_1, cy_3_2, cy_3_3⟩ := cells4s Ry_3
          obtain ⟨cz_3_0, cz_3_1, cz_3_2, cz_3_3⟩ := cells4s Rz_3
          have q0 := fz (k := 0) Rz_3
          have q1 := fz (k := 1) Rz_3
          have q2 := fz (k := 2) Rz_3
          have q3 := fz (k := 3) Rz_3
          obtain ⟨E0, E1, E2, E3⟩ := set4_cells Rz_3 rfl (.bool false) (.string ⟨#[]⟩) (.string ⟨#[]⟩) (.int .i64 0)
          go_wp2
          exact bodyPost_ret (v := .tuple #[.agg #[.bool false, .string ⟨#[]⟩, .string ⟨#[]⟩, .int .i64 0], .int .i64 4]) (by simp [results, Tryz.results87, go_sem, E0, E1, E2, E3]) rfl ⟨rfl, set4_below B3 (by first | exact Nat.le_refl _ | omega) _ _ _ _⟩
        · obtain ⟨Rx_0, Ry_0, Rz_0, B0⟩ := opn3 w (Obj.cells #[.bool false, .string s, .string t, .int .i64 e] 28) (Obj.cells #[.bool true, .string p, .string q, .int .i64 g] 28) (Obj.cells #[.bool false, .string ⟨#[]⟩, .string ⟨#[]⟩, .int .i64 0] 28)
          go_enter Tryz.func87, Tryz.ntmps87
          go_wp2_with fail
          obtain ⟨F, hF1, hF2⟩ := below_fun (((w.alloc (Obj.cells #[.bool false, .string s, .string t, .int .i64 e] 28)).alloc (Obj.cells #[.bool true, .string p, .string q, .int .i64 g] 28)).alloc (Obj.cells #[.bool false, .string ⟨#[]⟩, .string ⟨#[]⟩, .int .i64 0] 28))
          have fx_0 := fun u => cells4 (heap_of (hF1 u) _ _ _ Rx_0) 0 _ rfl
          have fx_1 := fun u => cells4 (heap_of (hF1 u) _ _ _ Rx_0) 1 _ rfl
          have fx_2 := fun u => cells4 (heap_of (hF1 u) _ _ _ Rx_0) 2 _ rfl
          have fx_3 := fun u => cells4 (heap_of (hF1 u) _ _ _ Rx_0) 3 _ rfl
          have fy_0 := fun u => cells4 (heap_of (hF1 u) _ _ _ Ry_0) 0 _ rfl
          have fy_1 := fun u => cells4 (heap_of (hF1 u) _ _ _ Ry_0) 1 _ rfl
          have fy_2 := fun u => cells4 (heap_of (hF1 u) _ _ _ Ry_0) 2 _ rfl
          have fy_3 := fun u => cells4 (heap_of (hF1 u) _ _ _ Ry_0) 3 _ rfl
          have fz_0 := fun u => cells4 (heap_of (hF1 u) _ _ _ Rz_0) 0 _ rfl
          have fz_1 := fun u => cells4 (heap_of (hF1 u) _ _ _ Rz_0) 1 _ rfl
          have fz_2 := fun u => cells4 (heap_of (hF1 u) _ _ _ Rz_0) 2 _ rfl
          have fz_3 := fun u => cells4 (heap_of (hF1 u) _ _ _ Rz_0) 3 _ rfl
          refine wp_region_below F hF2 (by kernel_rfl) (by kernel_rfl) ?_
          repeat first | go_big_quiet_step (first | (go_at_call 88; exact quietF hF1 hF2 (zerox _)) | fail) | quiet_step (first | (go_at_call 88; exact quietF hF1 hF2 (zerox _)) | fail)
          refine wpQuiet_nil ?_
          rintro _ ⟨uW, rfl⟩
          have B1 := btr B0 (hF1 uW)
          have Rx_1 := heap_of (hF1 uW) _ _ _ Rx_0
          have Ry_1 := heap_of (hF1 uW) _ _ _ Ry_0
          have Rz_1 := heap_of (hF1 uW) _ _ _ Rz_0
          obtain ⟨w1, hw⟩ : ∃ V, F uW = V := ⟨_, rfl⟩
          rw [hw] at B1 Rx_1 Ry_1 Rz_1
          try rw [hw]
          clear hw hF1 hF2 B0 fx_0 fx_1 fx_2 fx_3 fy_0 fy_1 fy_2 fy_3 fz_0 fz_1 fz_2 fz_3 Rx_0 Ry_0 Rz_0
          clear F
          obtain ⟨cx_1_0, cx_1_1, cx_1_2, cx_1_3⟩ := cells4s Rx_1
          obtain ⟨cy_1_0, cy_1_1, cy_1_2, cy_1_3⟩ := cells4s Ry_1
          obtain ⟨cz_1_0, cz_1_1, cz_1_2, cz_1_3⟩ := cells4s Rz_1
          go_wp2_with fail
          obtain ⟨F, hF1, hF2⟩ := below_fun w1
          have fx_0 := fun u => cells4 (heap_of (hF1 u) _ _ _ Rx_1) 0 _ rfl
          have fx_1 := fun u => cells4 (heap_of (hF1 u) _ _ _ Rx_1) 1 _ rfl
          have fx_2 := fun u => cells4 (heap_of (hF1 u) _ _ _ Rx_1) 2 _ rfl
          have fx_3 := fun u => cells4 (heap_of (hF1 u) _ _ _ Rx_1) 3 _ rfl
          have fy_0 := fun u => cells4 (heap_of (hF1 u) _ _ _ Ry_1) 0 _ rfl
          have fy_1 := fun u => cells4 (heap_of (hF1 u) _ _ _ Ry_1) 1 _ rfl
          have fy_2 := fun u => cells4 (heap_of (hF1 u) _ _ _ Ry_1) 2 _ rfl
          have fy_3 := fun u => cells4 (heap_of (hF1 u) _ _ _ Ry_1) 3 _ rfl
          have fz_0 := fun u => cells4 (heap_of (hF1 u) _ _ _ Rz_1) 0 _ rfl
          have fz_1 := fun u => cells4 (heap_of (hF1 u) _ _ _ Rz_1) 1 _ rfl
          have fz_2 := fun u => cells4 (heap_of (hF1 u) _ _ _ Rz_1) 2 _ rfl
          have fz_3 := fun u => cells4 (heap_of (hF1 u) _ _ _ Rz_1) 3 _ rfl
          refine wp_region_below F hF2 (by kernel_rfl) (by kernel_rfl) ?_
          repeat first | go_big_quiet_step (first | (go_at_call 88; exact quietF hF1 hF2 (zerox _)) | fail) | quiet_step (first | (go_at_call 88; exact quietF hF1 hF2 (zerox _)) | fail)
          refine wpQuiet_nil ?_
          rintro _ ⟨uW, rfl⟩
          have B2 := btr B1 (hF1 uW)
          have Rx_2 := heap_of (hF1 uW) _ _ _ Rx_1
          have Ry_2 := heap_of (hF1 uW) _ _ _ Ry_1
          have Rz_2 := heap_of (hF1 uW) _ _ _ Rz_1
          obtain ⟨w2, hw⟩ : ∃ V, F uW = V := ⟨_, rfl⟩
          rw [hw] at B2 Rx_2 Ry_2 Rz_2
          try rw [hw]
          clear hw hF1 hF2 B1 fx_0 fx_1 fx_2 fx_3 fy_0 fy_1 fy_2 fy_3 fz_0 fz_1 fz_2 fz_3 Rx_1 cx_1_0 cx_1_1 cx_1_2 cx_1_3 Ry_1 cy_1_0 cy_1_1 cy_1_2 cy_1_3 Rz_1 cz_1_0 cz_1_1 cz_1_2 cz_1_3
          clear F
          obtain ⟨cx_2_0, cx_2_1, cx_2_2, cx_2_3⟩ := cells4s Rx_2
          obtain ⟨cy_2_0, cy_2_1, cy_2_2, cy_2_3⟩ := cells4s Ry_2
          obtain ⟨cz_2_0, cz_2_1, cz_2_2, cz_2_3⟩ := cells4s Rz_2
          go_wp2_with fail
          refine (K1.out _).mono ?_
          rintro r w3 ⟨rfl, b3⟩
          have B3 : Below w.heap.size w w3 := btr B2 b3
          have Rx_3 := heap_of b3 _ _ _ Rx_2
          have Ry_3 := heap_of b3 _ _ _ Ry_2
          have Rz_3 := heap_of b3 _ _ _ Rz_2
          clear b3 B2 Rx_2 cx_2_0 cx_2_1 cx_2_2 cx_2_3 Ry_2 cy_2_0 cy_2_1 cy_2_2 cy_2_3 Rz_2 cz_2_0 cz_2_1 cz_2_2 cz_2_3
          obtain ⟨cx_3_0, cx_3_1, cx_3_2, cx_3_3⟩ := cells4s Rx_3
          obtain ⟨cy_3_0, cy_3_1, cy_3_2, cy_3_3⟩ := cells4s Ry_3
          obtain ⟨cz_3_0, cz_3_1, cz_3_2, cz_3_3⟩ := cells4s Rz_3
          have q0 := fz (k := 0) Rz_3
          have q1 := fz (k := 1) Rz_3
          have q2 := fz (k := 2) Rz_3
          have q3 := fz (k := 3) Rz_3
          obtain ⟨E0, E1, E2, E3⟩ := set4_cells Rz_3 rfl (.bool false) (.string ⟨#[]⟩) (.string ⟨#[]⟩) (.int .i64 0)
          go_wp2
          exact bodyPost_ret (v := .tuple #[.agg #[.bool false, .string ⟨#[]⟩, .string ⟨#[]⟩, .int .i64 0], .int .i64 4]) (by simp [results, Tryz.results87, go_sem, E0, E1, E2, E3]) rfl ⟨rfl, set4_below B3 (by first | exact Nat.le_refl _ | omega) _ _ _ _⟩
        · obtain ⟨Rx_0, Ry_0, Rz_0, B0⟩ := opn3 w (Obj.cells #[.bool true, .string s, .string t, .int .i64 e] 28) (Obj.cells #[.bool false, .string p, .string q, .int .i64 g] 28) (Obj.cells #[.bool false, .string ⟨#[]⟩, .string ⟨#[]⟩, .int .i64 0] 28)
          go_enter Tryz.func87, Tryz.ntmps87
          go_wp2_with fail
          obtain ⟨F, hF1, hF2⟩ := below_fun (((w.alloc (Obj.cells #[.bool true, .string s, .string t, .int .i64 e] 28)).alloc (Obj.cells #[.bool false, .string p, .string q, .int .i64 g] 28)).alloc (Obj.cells #[.bool false, .string ⟨#[]⟩, .string ⟨#[]⟩, .int .i64 0] 28))
          have fx_0 := fun u => cells4 (heap_of (hF1 u) _ _ _ Rx_0) 0 _ rfl
          have fx_1 := fun u => cells4 (heap_of (hF1 u) _ _ _ Rx_0) 1 _ rfl
          have fx_2 := fun u => cells4 (heap_of (hF1 u) _ _ _ Rx_0) 2 _ rfl
          have fx_3 := fun u => cells4 (heap_of (hF1 u) _ _ _ Rx_0) 3 _ rfl
          have fy_0 := fun u => cells4 (heap_of (hF1 u) _ _ _ Ry_0) 0 _ rfl
          have fy_1 := fun u => cells4 (heap_of (hF1 u) _ _ _ Ry_0) 1 _ rfl
          have fy_2 := fun u => cells4 (heap_of (hF1 u) _ _ _ Ry_0) 2 _ rfl
          have fy_3 := fun u => cells4 (heap_of (hF1 u) _ _ _ Ry_0) 3 _ rfl
          have fz_0 := fun u => cells4 (heap_of (hF1 u) _ _ _ Rz_0) 0 _ rfl
          have fz_1 := fun u => cells4 (heap_of (hF1 u) _ _ _ Rz_0) 1 _ rfl
          have fz_2 := fun u => cells4 (heap_of (hF1 u) _ _ _ Rz_0) 2 _ rfl
          have fz_3 := fun u => cells4 (heap_of (hF1 u) _ _ _ Rz_0) 3 _ rfl
          refine wp_region_below F hF2 (by kernel_rfl) (by kernel_rfl) ?_
          repeat first | go_big_quiet_step (first | (go_at_call 88; exact quietF hF1 hF2 (zerox _)) | fail) | quiet_step (first | (go_at_call 88; exact quietF hF1 hF2 (zerox _)) | fail)
          refine wpQuiet_nil ?_
          rintro _ ⟨uW, rfl⟩
          have B1 := btr B0 (hF1 uW)
          have Rx_1 := heap_of (hF1 uW) _ _ _ Rx_0
          have Ry_1 := heap_of (hF1 uW) _ _ _ Ry_0
          have Rz_1 := heap_of (hF1 uW) _ _ _ Rz_0
          obtain ⟨w1, hw⟩ : ∃ V, F uW = V := ⟨_, rfl⟩
          rw [hw] at B1 Rx_1 Ry_1 Rz_1
          try rw [hw]
          clear hw hF1 hF2 B0 fx_0 fx_1 fx_2 fx_3 fy_0 fy_1 fy_2 fy_3 fz_0 fz_1 fz_2 fz_3 Rx_0 Ry_0 Rz_0
          clear F
          obtain ⟨cx_1_0, cx_1_1, cx_1_2, cx_1_3⟩ := cells4s Rx_1
          obtain ⟨cy_1_0, cy_1_1, cy_1_2, cy_1_3⟩ := cells4s Ry_1
          obtain ⟨cz_1_0, cz_1_1, cz_1_2, cz_1_3⟩ := cells4s Rz_1
          go_wp2_with fail
          obtain ⟨F, hF1, hF2⟩ := below_fun w1
          have fx_0 := fun u => cells4 (heap_of (hF1 u) _ _ _ Rx_1) 0 _ rfl
          have fx_1 := fun u => cells4 (heap_of (hF1 u) _ _ _ Rx_1) 1 _ rfl
          have fx_2 := fun u => cells4 (heap_of (hF1 u) _ _ _ Rx_1) 2 _ rfl
          have fx_3 := fun u => cells4 (heap_of (hF1 u) _ _ _ Rx_1) 3 _ rfl
          have fy_0 := fun u => cells4 (heap_of (hF1 u) _ _ _ Ry_1) 0 _ rfl
          have fy_1 := fun u => cells4 (heap_of (hF1 u) _ _ _ Ry_1) 1 _ rfl
          have fy_2 := fun u => cells4 (heap_of (hF1 u) _ _ _ Ry_1) 2 _ rfl
          have fy_3 := fun u => cells4 (heap_of (hF1 u) _ _ _ Ry_1) 3 _ rfl
          have fz_0 := fun u => cells4 (heap_of (hF1 u) _ _ _ Rz_1) 0 _ rfl
          have fz_1 := fun u => cells4 (heap_of (hF1 u) _ _ _ Rz_1) 1 _ rfl
          have fz_2 := fun u => cells4 (heap_of (hF1 u) _ _ _ Rz_1) 2 _ rfl
          have fz_3 := fun u => cells4 (heap_of (hF1 u) _ _ _ Rz_1) 3 _ rfl
          refine wp_region_below F hF2 (by kernel_rfl) (by kernel_rfl) ?_
          repeat first | go_big_quiet_step (first | (go_at_call 88; exact quietF hF1 hF2 (zerox _)) | fail) | quiet_step (first | (go_at_call 88; exact quietF hF1 hF2 (zerox _)) | fail)
          refine wpQuiet_nil ?_
          rintro _ ⟨uW, rfl⟩
          have B2 := btr B1 (hF1 uW)
          have Rx_2 := heap_of (hF1 uW) _ _ _ Rx_1
          have Ry_2 := heap_of (hF1 uW) _ _ _ Ry_1
          have Rz_2 := heap_of (hF1 uW) _ _ _ Rz_1
          obtain ⟨w2, hw⟩ : ∃ V, F uW = V := ⟨_, rfl⟩
          rw [hw] at B2 Rx_2 Ry_2 Rz_2
          try rw [hw]
          clear hw hF1 hF2 B1 fx_0 fx_1 fx_2 fx_3 fy_0 fy_1 fy_2 fy_3 fz_0 fz_1 fz_2 fz_3 Rx_1 cx_1_0 cx_1_1 cx_1_2 cx_1_3 Ry_1 cy_1_0 cy_1_1 cy_1_2 cy_1_3 Rz_1 cz_1_0 cz_1_1 cz_1_2 cz_1_3
          clear F
          obtain ⟨cx_2_0, cx_2_1, cx_2_2, cx_2_3⟩ := cells4s Rx_2
          obtain ⟨cy_2_0, cy_2_1, cy_2_2, cy_2_3⟩ := cells4s Ry_2
          obtain ⟨cz_2_0, cz_2_1, cz_2_2, cz_2_3⟩ := cells4s Rz_2
          go_wp2_with fail
          refine (K1.out _).mono ?_
          rintro r w3 ⟨rfl, b3⟩
          have B3 : Below w.heap.size w w3 := btr B2 b3
          have Rx_3 := heap_of b3 _ _ _ Rx_2
          have Ry_3 := heap_of b3 _ _ _ Ry_2
          have Rz_3 := heap_of b3 _ _ _ Rz_2
          clear b3 B2 Rx_2 cx_2_0 cx_2_1 cx_2_2 cx_2_3 Ry_2 cy_2_0 cy_2_1 cy_2_2 cy_2_3 Rz_2 cz_2_0 cz_2_1 cz_2_2 cz_2_3
          obtain ⟨cx_3_0, cx_3_1, cx_3_2, cx_3_3⟩ := cells4s Rx_3
          obtain ⟨cy_3_0, cy_3_1, cy_3_2, cy_3_3⟩ := cells4s Ry_3
          obtain ⟨cz_3_0, cz_3_1, cz_3_2, cz_3_3⟩ := cells4s Rz_3
          have q0 := fz (k := 0) Rz_3
          have q1 := fz (k := 1) Rz_3
          have q2 := fz (k := 2) Rz_3
          have q3 := fz (k := 3) Rz_3
          obtain ⟨E0, E1, E2, E3⟩ := set4_cells Rz_3 rfl (.bool false) (.string ⟨#[]⟩) (.string ⟨#[]⟩) (.int .i64 0)
          go_wp2
          exact bodyPost_ret (v := .tuple #[.agg #[.bool false, .string ⟨#[]⟩, .string ⟨#[]⟩, .int .i64 0], .int .i64 4]) (by simp [results, Tryz.results87, go_sem, E0, E1, E2, E3]) rfl ⟨rfl, set4_below B3 (by first | exact Nat.le_refl _ | omega) _ _ _ _⟩
        · obtain ⟨Rx_0, Ry_0, Rz_0, B0⟩ := opn3 w (Obj.cells #[.bool true, .string s, .string t, .int .i64 e] 28) (Obj.cells #[.bool true, .string p, .string q, .int .i64 g] 28) (Obj.cells #[.bool false, .string ⟨#[]⟩, .string ⟨#[]⟩, .int .i64 0] 28)
          go_enter Tryz.func87, Tryz.ntmps87
          go_wp2_with fail
          obtain ⟨F, hF1, hF2⟩ := below_fun (((w.alloc (Obj.cells #[.bool true, .string s, .string t, .int .i64 e] 28)).alloc (Obj.cells #[.bool true, .string p, .string q, .int .i64 g] 28)).alloc (Obj.cells #[.bool false, .string ⟨#[]⟩, .string ⟨#[]⟩, .int .i64 0] 28))
          have fx_0 := fun u => cells4 (heap_of (hF1 u) _ _ _ Rx_0) 0 _ rfl
          have fx_1 := fun u => cells4 (heap_of (hF1 u) _ _ _ Rx_0) 1 _ rfl
          have fx_2 := fun u => cells4 (heap_of (hF1 u) _ _ _ Rx_0) 2 _ rfl
          have fx_3 := fun u => cells4 (heap_of (hF1 u) _ _ _ Rx_0) 3 _ rfl
          have fy_0 := fun u => cells4 (heap_of (hF1 u) _ _ _ Ry_0) 0 _ rfl
          have fy_1 := fun u => cells4 (heap_of (hF1 u) _ _ _ Ry_0) 1 _ rfl
          have fy_2 := fun u => cells4 (heap_of (hF1 u) _ _ _ Ry_0) 2 _ rfl
          have fy_3 := fun u => cells4 (heap_of (hF1 u) _ _ _ Ry_0) 3 _ rfl
          have fz_0 := fun u => cells4 (heap_of (hF1 u) _ _ _ Rz_0) 0 _ rfl
          have fz_1 := fun u => cells4 (heap_of (hF1 u) _ _ _ Rz_0) 1 _ rfl
          have fz_2 := fun u => cells4 (heap_of (hF1 u) _ _ _ Rz_0) 2 _ rfl
          have fz_3 := fun u => cells4 (heap_of (hF1 u) _ _ _ Rz_0) 3 _ rfl
          refine wp_region_below F hF2 (by kernel_rfl) (by kernel_rfl) ?_
          repeat first | go_big_quiet_step (first | (go_at_call 88; exact quietF hF1 hF2 (zerox _)) | fail) | quiet_step (first | (go_at_call 88; exact quietF hF1 hF2 (zerox _)) | fail)
          refine wpQuiet_nil ?_
          rintro _ ⟨uW, rfl⟩
          have B1 := btr B0 (hF1 uW)
          have Rx_1 := heap_of (hF1 uW) _ _ _ Rx_0
          have Ry_1 := heap_of (hF1 uW) _ _ _ Ry_0
          have Rz_1 := heap_of (hF1 uW) _ _ _ Rz_0
          obtain ⟨w1, hw⟩ : ∃ V, F uW = V := ⟨_, rfl⟩
          rw [hw] at B1 Rx_1 Ry_1 Rz_1
          try rw [hw]
          clear hw hF1 hF2 B0 fx_0 fx_1 fx_2 fx_3 fy_0 fy_1 fy_2 fy_3 fz_0 fz_1 fz_2 fz_3 Rx_0 Ry_0 Rz_0
          clear F
          obtain ⟨cx_1_0, cx_1_1, cx_1_2, cx_1_3⟩ := cells4s Rx_1
          obtain ⟨cy_1_0, cy_1_1, cy_1_2, cy_1_3⟩ := cells4s Ry_1
          obtain ⟨cz_1_0, cz_1_1, cz_1_2, cz_1_3⟩ := cells4s Rz_1
          go_wp2_with fail
          obtain ⟨F, hF1, hF2⟩ := below_fun w1
          have fx_0 := fun u => cells4 (heap_of (hF1 u) _ _ _ Rx_1) 0 _ rfl
          have fx_1 := fun u => cells4 (heap_of (hF1 u) _ _ _ Rx_1) 1 _ rfl
          have fx_2 := fun u => cells4 (heap_of (hF1 u) _ _ _ Rx_1) 2 _ rfl
          have fx_3 := fun u => cells4 (heap_of (hF1 u) _ _ _ Rx_1) 3 _ rfl
          have fy_0 := fun u => cells4 (heap_of (hF1 u) _ _ _ Ry_1) 0 _ rfl
          have fy_1 := fun u => cells4 (heap_of (hF1 u) _ _ _ Ry_1) 1 _ rfl
          have fy_2 := fun u => cells4 (heap_of (hF1 u) _ _ _ Ry_1) 2 _ rfl
          have fy_3 := fun u => cells4 (heap_of (hF1 u) _ _ _ Ry_1) 3 _ rfl
          have fz_0 := fun u => cells4 (heap_of (hF1 u) _ _ _ Rz_1) 0 _ rfl
          have fz_1 := fun u => cells4 (heap_of (hF1 u) _ _ _ Rz_1) 1 _ rfl
          have fz_2 := fun u => cells4 (heap_of (hF1 u) _ _ _ Rz_1) 2 _ rfl
          have fz_3 := fun u => cells4 (heap_of (hF1 u) _ _ _ Rz_1) 3 _ rfl
          refine wp_region_below F hF2 (by kernel_rfl) (by kernel_rfl) ?_
          repeat first | go_big_quiet_step (first | (go_at_call 88; exact quietF hF1 hF2 (zerox _)) | fail) | quiet_step (first | (go_at_call 88; exact quietF hF1 hF2 (zerox _)) | fail)
          refine wpQuiet_nil ?_
          rintro _ ⟨uW, rfl⟩
          have B2 := btr B1 (hF1 uW)
          have Rx_2 := heap_of (hF1 uW) _ _ _ Rx_1
          have Ry_2 := heap_of (hF1 uW) _ _ _ Ry_1
          have Rz_2 := heap_of (hF1 uW) _ _ _ Rz_1
          obtain ⟨w2, hw⟩ : ∃ V, F uW = V := ⟨_, rfl⟩
          rw [hw] at B2 Rx_2 Ry_2 Rz_2
          try rw [hw]
          clear hw hF1 hF2 B1 fx_0 fx_1 fx_2 fx_3 fy_0 fy_1 fy_2 fy_3 fz_0 fz_1 fz_2 fz_3 Rx_1 cx_1_0 cx_1_1 cx_1_2 cx_1_3 Ry_1 cy_1_0 cy_1_1 cy_1_2 cy_1_3 Rz_1 cz_1_0 cz_1_1 cz_1_2 cz_1_3
          clear F
          obtain ⟨cx_2_0, cx_2_1, cx_2_2, cx_2_3⟩ := cells4s Rx_2
          obtain ⟨cy_2_0, cy_2_1, cy_2_2, cy_2_3⟩ := cells4s Ry_2
          obtain ⟨cz_2_0, cz_2_1, cz_2_2, cz_2_3⟩ := cells4s Rz_2
          go_wp2_with fail
          refine (K1.out _).mono ?_
          rintro r w3 ⟨rfl, b3⟩
          have B3 : Below w.heap.size w w3 := btr B2 b3
          have Rx_3 := heap_of b3 _ _ _ Rx_2
          have Ry_3 := heap_of b3 _ _ _ Ry_2
          have Rz_3 := heap_of b3 _ _ _ Rz_2
          clear b3 B2 Rx_2 cx_2_0 cx_2_1 cx_2_2 cx_2_3 Ry_2 cy_2_0 cy_2_1 cy_2_2 cy_2_3 Rz_2 cz_2_0 cz_2_1 cz_2_2 cz_2_3
          obtain ⟨cx_3_0, cx_3_1, cx_3_2, cx_3_3⟩ := cells4s Rx_3
          obtain ⟨cy_3_0, cy_3_1, cy_3_2, cy_3_3⟩ := cells4s Ry_3
          obtain ⟨cz_3_0, cz_3_1, cz_3_2, cz_3_3⟩ := cells4s Rz_3
          have q0 := fz (k := 0) Rz_3
          have q1 := fz (k := 1) Rz_3
          have q2 := fz (k := 2) Rz_3
          have q3 := fz (k := 3) Rz_3
          obtain ⟨E0, E1, E2, E3⟩ := set4_cells Rz_3 rfl (.bool false) (.string ⟨#[]⟩) (.string ⟨#[]⟩) (.int .i64 0)
          go_wp2
          exact bodyPost_ret (v := .tuple #[.agg #[.bool false, .string ⟨#[]⟩, .string ⟨#[]⟩, .int .i64 0], .int .i64 4]) (by simp [results, Tryz.results87, go_sem, E0, E1, E2, E3]) rfl ⟨rfl, set4_below B3 (by first | exact Nat.le_refl _ | omega) _ _ _ _⟩
end Go.Proofs.YtkmlbjlaahcahaaGreatDoor
