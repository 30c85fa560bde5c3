/-
  What the functions that the statement reaches return: part 17 (X13, VB, VC).
-/
import Derived.Test.YtkmlbjlaahcahaaGreatDoorNa16
namespace Go.Proofs.YtkmlbjlaahcahaaGreatDoor
set_option maxRecDepth 100000
open Go.RowKit WMath XMath

set_option maxRecDepth 100000 in
set_option maxHeartbeats 1000000 in
theorem Addx_ok (b : Bool) (n d : Nat) (e : Int) (s t : ByteArray) (c : Bool) (m f : Nat) (g : Int) (p q : ByteArray) (rb : Bool) (rn rd : Nat) (re err : Int) (u v : ByteArray)
    (hs : nbA n = s) (ht : nbA d = t) (hp : nbA m = p) (hq : nbA f = q) (hx : (XN.mk b n d e).can) (hy : (XN.mk c m f g).can) (hr : addX (XN.mk b n d e) (XN.mk c m f g) = (⟨rb, rn, rd, re⟩, err)) (hu : nbA rn = u) (hv : nbA rd = v) (w : World) (hT : TabAt w) :
    Calls Tryz.prog 29 #[.agg #[.bool b, .string s, .string t, .int .i64 e], .agg #[.bool c, .string p, .string q, .int .i64 g]] w fun r w' => r = .returned (.tuple #[.agg #[.bool rb, .string u, .string v, .int .i64 re], .int .i64 err]) ∧ Below w.heap.size w w' := by
  have M1 := box (may_yes hs ht hx)
  have M2 := box (may_yes hp hq hy)
  have HF := box (fun w hT => sumx b n d e s t c m f g p q rb rn rd re err u v hs ht hp hq hx hy hr hu hv w hT)
  have TT := box hT
  clear hs ht hp hq hx hy hr hu hv hT
  obtain ⟨Rx_0, Ry_0, Rz_0, B0⟩ := opn3 w (Obj.cells #[.bool b, .string s, .string t, .int .i64 e] 28) (Obj.cells #[.bool c, .string p, .string q, .int .i64 g] 28) (Obj.cells #[.bool false, .string ⟨#[]⟩, .string ⟨#[]⟩, .int .i64 0] 28)
  go_enter Tryz.func29, Tryz.ntmps29
  go_wp2_with fail
  refine (xmay2 _ _ _ _ _ _ _ _ true true true M1.out M2.out rfl _ (((w.alloc (Obj.cells #[.bool b, .string s, .string t, .int .i64 e] 28)).alloc (Obj.cells #[.bool c, .string p, .string q, .int .i64 g] 28)).alloc (Obj.cells #[.bool false, .string ⟨#[]⟩, .string ⟨#[]⟩, .int .i64 0] 28)) _ (by simp only [size_al]) (tabB TT.out B0)).mono ?_
  rintro r w1 ⟨rfl, b1⟩
  have B1 : Below w.heap.size w w1 := btr B0 b1
  have Rx_1 := heap_of b1 _ _ _ Rx_0
  have Ry_1 := heap_of b1 _ _ _ Ry_0
  have Rz_1 := heap_of b1 _ _ _ Rz_0
  clear b1 B0 Rx_0 Ry_0 Rz_0
  obtain ⟨cx_1_0, cx_1_1, cx_1_2, cx_1_3⟩ := cells4s Rx_1
  obtain ⟨cy_1_0, cy_1_1, cy_1_2, cy_1_3⟩ := cells4s Ry_1
  obtain ⟨cz_1_0, cz_1_1, cz_1_2, cz_1_3⟩ := cells4s Rz_1
  go_wp2_with fail
  refine (HF.out _ (tabB TT.out B1)).mono ?_
  rintro r w2 ⟨rfl, b2⟩
  have B2 : Below w.heap.size w w2 := btr B1 b2
  have Rx_2 := heap_of b2 _ _ _ Rx_1
  have Ry_2 := heap_of b2 _ _ _ Ry_1
  have Rz_2 := heap_of b2 _ _ _ Rz_1
  clear b2 B1 Rx_1 cx_1_0 cx_1_1 cx_1_2 cx_1_3 Ry_1 cy_1_0 cy_1_1 cy_1_2 cy_1_3 Rz_1 cz_1_0 cz_1_1 cz_1_2 cz_1_3
  obtain ⟨cx_2_0, cx_2_1, cx_2_2, cx_2_3⟩ := cells4s Rx_2
  obtain ⟨cy_2_0, cy_2_1, cy_2_2, cy_2_3⟩ := cells4s Ry_2
  obtain ⟨cz_2_0, cz_2_1, cz_2_2, cz_2_3⟩ := cells4s Rz_2
  have q0 := fz (k := 0) Rz_2
  have q1 := fz (k := 1) Rz_2
  have q2 := fz (k := 2) Rz_2
  have q3 := fz (k := 3) Rz_2
  obtain ⟨E0, E1, E2, E3⟩ := set4_cells Rz_2 rfl (.bool rb) (.string u) (.string v) (.int .i64 re)
  go_wp2
  exact bodyPost_ret (v := .tuple #[.agg #[.bool rb, .string u, .string v, .int .i64 re], .int .i64 err]) (by simp [results, Tryz.results29, go_sem, E0, E1, E2, E3]) rfl ⟨rfl, set4_below B2 (by first | exact Nat.le_refl _ | omega) _ _ _ _⟩
theorem cmpv_bd (a b : Nat) : cmpv a b = -1 ∨ cmpv a b = 0 ∨ cmpv a b = 1 := by
  unfold cmpv
  split
  · exact Or.inr (Or.inl rfl)
  · split
    · exact Or.inl rfl
    · exact Or.inr (Or.inr rfl)
theorem sg_bd (x : XN) : sg x = -1 ∨ sg x = 0 ∨ sg x = 1 := by
  unfold sg
  split
  · exact Or.inr (Or.inl rfl)
  · split
    · exact Or.inl rfl
    · exact Or.inr (Or.inr rfl)
set_option maxRecDepth 100000 in
set_option maxHeartbeats 2000000 in
theorem Cmpx_ok (b : Bool) (n d : Nat) (e : Int) (s t : ByteArray) (c : Bool) (m f : Nat) (g : Int) (p q : ByteArray) (k err : Int)
    (hs : nbA n = s) (ht : nbA d = t) (hp : nbA m = p) (hq : nbA f = q) (hx : (XN.mk b n d e).can) (hy : (XN.mk c m f g).can) (hr : cmpX (XN.mk b n d e) (XN.mk c m f g) = (k, err)) (w : World) (hT : TabAt w) :
    Calls Tryz.prog 26 #[.agg #[.bool b, .string s, .string t, .int .i64 e], .agg #[.bool c, .string p, .string q, .int .i64 g]] w fun r w' => r = .returned (.tuple #[.int .i64 k, .int .i64 err]) ∧ Below w.heap.size w w' := by
  have M1 := box (may_yes hs ht hx)
  have M2 := box (may_yes hp hq hy)
  have TT := box hT
  obtain ⟨S, hS⟩ : ∃ S, sg (XN.mk b n d e) = S := ⟨_, rfl⟩
  obtain ⟨T, hTt⟩ : ∃ S, sg (XN.mk c m f g) = S := ⟨_, rfl⟩
  have HF := box (fun w => signx b n d e s t S hs ht hx hS w)
  have HG := box (fun w => signx c m f g p q T hp hq hy hTt w)
  have sb := sg_bd (XN.mk b n d e)
  rw [hS] at sb
  unfold cmpX at hr
  rw [hS, hTt] at hr
  by_cases h1 : S < T
  · rw [if_pos h1] at hr
    cases hr
    have d1 : decide (S < T) = true := decide_eq_true h1
    clear hs ht hp hq hx hy hT hS hTt h1 sb
    obtain ⟨Rx_0, Ry_0, B0⟩ := opn2 w (Obj.cells #[.bool b, .string s, .string t, .int .i64 e] 28) (Obj.cells #[.bool c, .string p, .string q, .int .i64 g] 28)
    go_enter Tryz.func26, Tryz.ntmps26
    go_wp2_with fail
    refine (xmay2 _ _ _ _ _ _ _ _ true true true M1.out M2.out rfl _ ((w.alloc (Obj.cells #[.bool b, .string s, .string t, .int .i64 e] 28)).alloc (Obj.cells #[.bool c, .string p, .string q, .int .i64 g] 28)) _ (by simp only [size_al]) (tabB TT.out B0)).mono ?_
    rintro r w1 ⟨rfl, b1⟩
    have B1 : Below w.heap.size w w1 := btr B0 b1
    have Rx_1 := heap_of b1 _ _ _ Rx_0
    have Ry_1 := heap_of b1 _ _ _ Ry_0
    clear b1 B0 Rx_0 Ry_0
    obtain ⟨cx_1_0, cx_1_1, cx_1_2, cx_1_3⟩ := cells4s Rx_1
    obtain ⟨cy_1_0, cy_1_1, cy_1_2, cy_1_3⟩ := cells4s Ry_1
    go_wp2_with fail
    obtain ⟨F, hF1, hF2⟩ := below_fun w1
    have fx_0 := fun u => cells4 (heap_of (hF1 u) _ _ _ Rx_1) 0 _ rfl
    have fx_1 := fun u => cells4 (heap_of (hF1 u) _ _ _ Rx_1) 1 _ rfl
    have fx_2 := fun u => cells4 (heap_of (hF1 u) _ _ _ Rx_1) 2 _ rfl
    have fx_3 := fun u => cells4 (heap_of (hF1 u) _ _ _ Rx_1) 3 _ rfl
    have fy_0 := fun u => cells4 (heap_of (hF1 u) _ _ _ Ry_1) 0 _ rfl
    have fy_1 := fun u => cells4 (heap_of (hF1 u) _ _ _ Ry_1) 1 _ rfl
    have fy_2 := fun u => cells4 (heap_of (hF1 u) _ _ _ Ry_1) 2 _ rfl
    have fy_3 := fun u => cells4 (heap_of (hF1 u) _ _ _ Ry_1) 3 _ rfl
    refine wp_region_below F hF2 (by kernel_rfl) (by kernel_rfl) ?_
    repeat first | go_big_quiet_step (first | (go_at_call_of 84 (Value.agg #[.bool b, .string s, .string t, .int .i64 e]); exact quietF hF1 hF2 (HF.out _)) | (go_at_call_of 84 (Value.agg #[.bool c, .string p, .string q, .int .i64 g]); exact quietF hF1 hF2 (HG.out _)) | fail) | quiet_step (first | (go_at_call_of 84 (Value.agg #[.bool b, .string s, .string t, .int .i64 e]); exact quietF hF1 hF2 (HF.out _)) | (go_at_call_of 84 (Value.agg #[.bool c, .string p, .string q, .int .i64 g]); exact quietF hF1 hF2 (HG.out _)) | fail)
    refine wpQuiet_nil ?_
    rintro _ ⟨uW, rfl⟩
    have B2 := btr B1 (hF1 uW)
    have Rx_2 := heap_of (hF1 uW) _ _ _ Rx_1
    have Ry_2 := heap_of (hF1 uW) _ _ _ Ry_1
    obtain ⟨w2, hw⟩ : ∃ V, F uW = V := ⟨_, rfl⟩
    rw [hw] at B2 Rx_2 Ry_2
    try rw [hw]
    clear hw hF1 hF2 B1 fx_0 fx_1 fx_2 fx_3 fy_0 fy_1 fy_2 fy_3 Rx_1 cx_1_0 cx_1_1 cx_1_2 cx_1_3 Ry_1 cy_1_0 cy_1_1 cy_1_2 cy_1_3
    clear F
    obtain ⟨cx_2_0, cx_2_1, cx_2_2, cx_2_3⟩ := cells4s Rx_2
    obtain ⟨cy_2_0, cy_2_1, cy_2_2, cy_2_3⟩ := cells4s Ry_2
    go_wp2
    go_ret2
    exact ⟨rfl, B2⟩
  rw [if_neg h1] at hr
  have d1 : decide (S < T) = false := decide_eq_false h1
  by_cases h2 : T < S
  · rw [if_pos h2] at hr
    cases hr
    have d2 : decide (T < S) = true := decide_eq_true h2
    clear hs ht hp hq hx hy hT hS hTt h1 h2 sb
    obtain ⟨Rx_0, Ry_0, B0⟩ := opn2 w (Obj.cells #[.bool b, .string s, .string t, .int .i64 e] 28) (Obj.cells #[.bool c, .string p, .string q, .int .i64 g] 28)
    go_enter Tryz.func26, Tryz.ntmps26
    go_wp2_with fail
    refine (xmay2 _ _ _ _ _ _ _ _ true true true M1.out M2.out rfl _ ((w.alloc (Obj.cells #[.bool b, .string s, .string t, .int .i64 e] 28)).alloc (Obj.cells #[.bool c, .string p, .string q, .int .i64 g] 28)) _ (by simp only [size_al]) (tabB TT.out B0)).mono ?_
    rintro r w1 ⟨rfl, b1⟩
    have B1 : Below w.heap.size w w1 := btr B0 b1
    have Rx_1 := heap_of b1 _ _ _ Rx_0
    have Ry_1 := heap_of b1 _ _ _ Ry_0
    clear b1 B0 Rx_0 Ry_0
    obtain ⟨cx_1_0, cx_1_1, cx_1_2, cx_1_3⟩ := cells4s Rx_1
    obtain ⟨cy_1_0, cy_1_1, cy_1_2, cy_1_3⟩ := cells4s Ry_1
    go_wp2_with fail
    obtain ⟨F, hF1, hF2⟩ := below_fun w1
    have fx_0 := fun u => cells4 (heap_of (hF1 u) _ _ _ Rx_1) 0 _ rfl
    have fx_1 := fun u => cells4 (heap_of (hF1 u) _ _ _ Rx_1) 1 _ rfl
    have fx_2 := fun u => cells4 (heap_of (hF1 u) _ _ _ Rx_1) 2 _ rfl
    have fx_3 := fun u => cells4 (heap_of (hF1 u) _ _ _ Rx_1) 3 _ rfl
    have fy_0 := fun u => cells4 (heap_of (hF1 u) _ _ _ Ry_1) 0 _ rfl
    have fy_1 := fun u => cells4 (heap_of (hF1 u) _ _ _ Ry_1) 1 _ rfl
    have fy_2 := fun u => cells4 (heap_of (hF1 u) _ _ _ Ry_1) 2 _ rfl
    have fy_3 := fun u => cells4 (heap_of (hF1 u) _ _ _ Ry_1) 3 _ rfl
    refine wp_region_below F hF2 (by kernel_rfl) (by kernel_rfl) ?_
    repeat first | go_big_quiet_step (first | (go_at_call_of 84 (Value.agg #[.bool b, .string s, .string t, .int .i64 e]); exact quietF hF1 hF2 (HF.out _)) | (go_at_call_of 84 (Value.agg #[.bool c, .string p, .string q, .int .i64 g]); exact quietF hF1 hF2 (HG.out _)) | fail) | quiet_step (first | (go_at_call_of 84 (Value.agg #[.bool b, .string s, .string t, .int .i64 e]); exact quietF hF1 hF2 (HF.out _)) | (go_at_call_of 84 (Value.agg #[.bool c, .string p, .string q, .int .i64 g]); exact quietF hF1 hF2 (HG.out _)) | fail)
    refine wpQuiet_nil ?_
    rintro _ ⟨uW, rfl⟩
    have B2 := btr B1 (hF1 uW)
    have Rx_2 := heap_of (hF1 uW) _ _ _ Rx_1
    have Ry_2 := heap_of (hF1 uW) _ _ _ Ry_1
    obtain ⟨w2, hw⟩ : ∃ V, F uW = V := ⟨_, rfl⟩
    rw [hw] at B2 Rx_2 Ry_2
    try rw [hw]
    clear hw hF1 hF2 B1 fx_0 fx_1 fx_2 fx_3 fy_0 fy_1 fy_2 fy_3 Rx_1 cx_1_0 cx_1_1 cx_1_2 cx_1_3 Ry_1 cy_1_0 cy_1_1 cy_1_2 cy_1_3
    clear F
    obtain ⟨cx_2_0, cx_2_1, cx_2_2, cx_2_3⟩ := cells4s Rx_2
    obtain ⟨cy_2_0, cy_2_1, cy_2_2, cy_2_3⟩ := cells4s Ry_2
    go_wp2
    go_ret2
    exact ⟨rfl, B2⟩
  rw [if_neg h2] at hr
  have d2 : decide (T < S) = false := decide_eq_false h2
  by_cases h3 : S = 0
  · rw [if_pos h3] at hr
    cases hr
    have d3 : (S == 0) = true := by rw [h3]; rfl
    have d3' : decide (S = 0) = true := decide_eq_true h3
    clear hs ht hp hq hx hy hT hS hTt h1 h2 h3 sb
    obtain ⟨Rx_0, Ry_0, B0⟩ := opn2 w (Obj.cells #[.bool b, .string s, .string t, .int .i64 e] 28) (Obj.cells #[.bool c, .string p, .string q, .int .i64 g] 28)
    go_enter Tryz.func26, Tryz.ntmps26
    go_wp2_with fail
    refine (xmay2 _ _ _ _ _ _ _ _ true true true M1.out M2.out rfl _ ((w.alloc (Obj.cells #[.bool b, .string s, .string t, .int .i64 e] 28)).alloc (Obj.cells #[.bool c, .string p, .string q, .int .i64 g] 28)) _ (by simp only [size_al]) (tabB TT.out B0)).mono ?_
    rintro r w1 ⟨rfl, b1⟩
    have B1 : Below w.heap.size w w1 := btr B0 b1
    have Rx_1 := heap_of b1 _ _ _ Rx_0
    have Ry_1 := heap_of b1 _ _ _ Ry_0
    clear b1 B0 Rx_0 Ry_0
    obtain ⟨cx_1_0, cx_1_1, cx_1_2, cx_1_3⟩ := cells4s Rx_1
    obtain ⟨cy_1_0, cy_1_1, cy_1_2, cy_1_3⟩ := cells4s Ry_1
    go_wp2_with fail
    obtain ⟨F, hF1, hF2⟩ := below_fun w1
    have fx_0 := fun u => cells4 (heap_of (hF1 u) _ _ _ Rx_1) 0 _ rfl
    have fx_1 := fun u => cells4 (heap_of (hF1 u) _ _ _ Rx_1) 1 _ rfl
    have fx_2 := fun u => cells4 (heap_of (hF1 u) _ _ _ Rx_1) 2 _ rfl
    have fx_3 := fun u => cells4 (heap_of (hF1 u) _ _ _ Rx_1) 3 _ rfl
    have fy_0 := fun u => cells4 (heap_of (hF1 u) _ _ _ Ry_1) 0 _ rfl
    have fy_1 := fun u => cells4 (heap_of (hF1 u) _ _ _ Ry_1) 1 _ rfl
    have fy_2 := fun u => cells4 (heap_of (hF1 u) _ _ _ Ry_1) 2 _ rfl
    have fy_3 := fun u => cells4 (heap_of (hF1 u) _ _ _ Ry_1) 3 _ rfl
    refine wp_region_below F hF2 (by kernel_rfl) (by kernel_rfl) ?_
    repeat first | go_big_quiet_step (first | (go_at_call_of 84 (Value.agg #[.bool b, .string s, .string t, .int .i64 e]); exact quietF hF1 hF2 (HF.out _)) | (go_at_call_of 84 (Value.agg #[.bool c, .string p, .string q, .int .i64 g]); exact quietF hF1 hF2 (HG.out _)) | fail) | quiet_step (first | (go_at_call_of 84 (Value.agg #[.bool b, .string s, .string t, .int .i64 e]); exact quietF hF1 hF2 (HF.out _)) | (go_at_call_of 84 (Value.agg #[.bool c, .string p, .string q, .int .i64 g]); exact quietF hF1 hF2 (HG.out _)) | fail)
    refine wpQuiet_nil ?_
    rintro _ ⟨uW, rfl⟩
    have B2 := btr B1 (hF1 uW)
    have Rx_2 := heap_of (hF1 uW) _ _ _ Rx_1
    have Ry_2 := heap_of (hF1 uW) _ _ _ Ry_1
    obtain ⟨w2, hw⟩ : ∃ V, F uW = V := ⟨_, rfl⟩
    rw [hw] at B2 Rx_2 Ry_2
    try rw [hw]
    clear hw hF1 hF2 B1 fx_0 fx_1 fx_2 fx_3 fy_0 fy_1 fy_2 fy_3 Rx_1 cx_1_0 cx_1_1 cx_1_2 cx_1_3 Ry_1 cy_1_0 cy_1_1 cy_1_2 cy_1_3
    clear F
    obtain ⟨cx_2_0, cx_2_1, cx_2_2, cx_2_3⟩ := cells4s Rx_2
    obtain ⟨cy_2_0, cy_2_1, cy_2_2, cy_2_3⟩ := cells4s Ry_2
    go_wp2
    go_ret2
    exact ⟨rfl, B2⟩
  rw [if_neg h3] at hr
  have d3 : (S == 0) = false := by rw [Bool.eq_false_iff]; intro h; exact h3 (by simpa using h)
  have d3' : decide (S = 0) = false := decide_eq_false h3
  have ha : -1048576 ≤ e ∧ e ≤ 1048576 ∧ -1048576 ≤ g ∧ g ≤ 1048576 := ⟨hx.2.2.1, hx.2.2.2.1, hy.2.2.1, hy.2.2.2.1⟩
  obtain ⟨A, hA⟩ : ∃ A, XMath.sA (XN.mk b n d e) (XN.mk c m f g) = A := ⟨_, rfl⟩
  obtain ⟨B, hB⟩ : ∃ A, XMath.sA (XN.mk c m f g) (XN.mk b n d e) = A := ⟨_, rfl⟩
  rw [hA, hB] at hr
  by_cases h4 : nl A ≤ 16384 ∧ nl B ≤ 16384
  · rw [if_pos h4] at hr
    cases hr
    obtain ⟨x, hxa⟩ : ∃ x, nbA A = x := ⟨_, rfl⟩
    obtain ⟨y, hyb⟩ : ∃ x, nbA B = x := ⟨_, rfl⟩
    have K1 := box (fun w => alikex b n d e s t c m f g p q x y 0 hs ht hp hq hx.1 hx.2.1 hy.1 hy.2.1 ha (by rw [hA, hB, if_pos h4, hxa, hyb]) w)
    obtain ⟨z, hz⟩ : ∃ z, cmpv A B = z := ⟨_, rfl⟩
    have zb := cmpv_bd A B
    rw [hz] at zb
    have K2 := box (fun w => pn_cmp_ok A B x y z hxa hyb h4.1 h4.2 hz w)
    have n1 : IntKind.i64.wrap (S * z) = S * z := wrap_i64_is _ (by rcases sb with h | h | h <;> rcases zb with k | k | k <;> rw [h, k] <;> decide) (by rcases sb with h | h | h <;> rcases zb with k | k | k <;> rw [h, k] <;> decide)
    rw [hz]
    clear hs ht hp hq hx hy hT hS hTt h1 h2 h3 sb ha hA hB h4 hxa hyb hz zb
    obtain ⟨Rx_0, Ry_0, B0⟩ := opn2 w (Obj.cells #[.bool b, .string s, .string t, .int .i64 e] 28) (Obj.cells #[.bool c, .string p, .string q, .int .i64 g] 28)
    go_enter Tryz.func26, Tryz.ntmps26
    go_wp2_with fail
    refine (xmay2 _ _ _ _ _ _ _ _ true true true M1.out M2.out rfl _ ((w.alloc (Obj.cells #[.bool b, .string s, .string t, .int .i64 e] 28)).alloc (Obj.cells #[.bool c, .string p, .string q, .int .i64 g] 28)) _ (by simp only [size_al]) (tabB TT.out B0)).mono ?_
    rintro r w1 ⟨rfl, b1⟩
    have B1 : Below w.heap.size w w1 := btr B0 b1
    have Rx_1 := heap_of b1 _ _ _ Rx_0
    have Ry_1 := heap_of b1 _ _ _ Ry_0
    clear b1 B0 Rx_0 Ry_0
    obtain ⟨cx_1_0, cx_1_1, cx_1_2, cx_1_3⟩ := cells4s Rx_1
    obtain ⟨cy_1_0, cy_1_1, cy_1_2, cy_1_3⟩ := cells4s Ry_1
    go_wp2_with fail
    obtain ⟨F, hF1, hF2⟩ := below_fun w1
    have fx_0 := fun u => cells4 (heap_of (hF1 u) _ _ _ Rx_1) 0 _ rfl
    have fx_1 := fun u => cells4 (heap_of (hF1 u) _ _ _ Rx_1) 1 _ rfl
    have fx_2 := fun u => cells4 (heap_of (hF1 u) _ _ _ Rx_1) 2 _ rfl
    have fx_3 := fun u => cells4 (heap_of (hF1 u) _ _ _ Rx_1) 3 _ rfl
    have fy_0 := fun u => cells4 (heap_of (hF1 u) _ _ _ Ry_1) 0 _ rfl
    have fy_1 := fun u => cells4 (heap_of (hF1 u) _ _ _ Ry_1) 1 _ rfl
    have fy_2 := fun u => cells4 (heap_of (hF1 u) _ _ _ Ry_1) 2 _ rfl
    have fy_3 := fun u => cells4 (heap_of (hF1 u) _ _ _ Ry_1) 3 _ rfl
    refine wp_region_below F hF2 (by kernel_rfl) (by kernel_rfl) ?_
    repeat first | go_big_quiet_step (first | (go_at_call_of 84 (Value.agg #[.bool b, .string s, .string t, .int .i64 e]); exact quietF hF1 hF2 (HF.out _)) | (go_at_call_of 84 (Value.agg #[.bool c, .string p, .string q, .int .i64 g]); exact quietF hF1 hF2 (HG.out _)) | fail) | quiet_step (first | (go_at_call_of 84 (Value.agg #[.bool b, .string s, .string t, .int .i64 e]); exact quietF hF1 hF2 (HF.out _)) | (go_at_call_of 84 (Value.agg #[.bool c, .string p, .string q, .int .i64 g]); exact quietF hF1 hF2 (HG.out _)) | fail)
    refine wpQuiet_nil ?_
    rintro _ ⟨uW, rfl⟩
    have B2 := btr B1 (hF1 uW)
    have Rx_2 := heap_of (hF1 uW) _ _ _ Rx_1
    have Ry_2 := heap_of (hF1 uW) _ _ _ Ry_1
    obtain ⟨w2, hw⟩ : ∃ V, F uW = V := ⟨_, rfl⟩
    rw [hw] at B2 Rx_2 Ry_2
    try rw [hw]
    clear hw hF1 hF2 B1 fx_0 fx_1 fx_2 fx_3 fy_0 fy_1 fy_2 fy_3 Rx_1 cx_1_0 cx_1_1 cx_1_2 cx_1_3 Ry_1 cy_1_0 cy_1_1 cy_1_2 cy_1_3
    clear F
    obtain ⟨cx_2_0, cx_2_1, cx_2_2, cx_2_3⟩ := cells4s Rx_2
    obtain ⟨cy_2_0, cy_2_1, cy_2_2, cy_2_3⟩ := cells4s Ry_2
    go_wp2_with fail
    refine (K1.out _).mono ?_
    rintro r w3 ⟨rfl, b3⟩
    have B3 : Below w.heap.size w w3 := btr B2 b3
    have Rx_3 := heap_of b3 _ _ _ Rx_2
    have Ry_3 := heap_of b3 _ _ _ Ry_2
    clear b3 B2 Rx_2 cx_2_0 cx_2_1 cx_2_2 cx_2_3 Ry_2 cy_2_0 cy_2_1 cy_2_2 cy_2_3
    obtain ⟨cx_3_0, cx_3_1, cx_3_2, cx_3_3⟩ := cells4s Rx_3
    obtain ⟨cy_3_0, cy_3_1, cy_3_2, cy_3_3⟩ := cells4s Ry_3
    go_wp2_with fail
    refine (K2.out _).mono ?_
    rintro r w4 ⟨rfl, b4⟩
    have B4 : Below w.heap.size w w4 := btr B3 b4
    have Rx_4 := heap_of b4 _ _ _ Rx_3
    have Ry_4 := heap_of b4 _ _ _ Ry_3
    clear b4 B3 Rx_3 cx_3_0 cx_3_1 cx_3_2 cx_3_3 Ry_3 cy_3_0 cy_3_1 cy_3_2 cy_3_3
    obtain ⟨cx_4_0, cx_4_1, cx_4_2, cx_4_3⟩ := cells4s Rx_4
    obtain ⟨cy_4_0, cy_4_1, cy_4_2, cy_4_3⟩ := cells4s Ry_4
    go_wp2
    go_ret2
    exact ⟨rfl, B4⟩
  · rw [if_neg h4] at hr
    cases hr
    have K1 := box (fun w => alikex b n d e s t c m f g p q ⟨#[]⟩ ⟨#[]⟩ 4 hs ht hp hq hx.1 hx.2.1 hy.1 hy.2.1 ha (by rw [hA, hB, if_neg h4]) w)
    clear hs ht hp hq hx hy hT hS hTt h1 h2 h3 sb ha hA hB h4
    obtain ⟨Rx_0, Ry_0, B0⟩ := opn2 w (Obj.cells #[.bool b, .string s, .string t, .int .i64 e] 28) (Obj.cells #[.bool c, .string p, .string q, .int .i64 g] 28)
    go_enter Tryz.func26, Tryz.ntmps26
    go_wp2_with fail
    refine (xmay2 _ _ _ _ _ _ _ _ true true true M1.out M2.out rfl _ ((w.alloc (Obj.cells #[.bool b, .string s, .string t, .int .i64 e] 28)).alloc (Obj.cells #[.bool c, .string p, .string q, .int .i64 g] 28)) _ (by simp only [size_al]) (tabB TT.out B0)).mono ?_
    rintro r w1 ⟨rfl, b1⟩
    have B1 : Below w.heap.size w w1 := btr B0 b1
    have Rx_1 := heap_of b1 _ _ _ Rx_0
    have Ry_1 := heap_of b1 _ _ _ Ry_0
    clear b1 B0 Rx_0 Ry_0
    obtain ⟨cx_1_0, cx_1_1, cx_1_2, cx_1_3⟩ := cells4s Rx_1
    obtain ⟨cy_1_0, cy_1_1, cy_1_2, cy_1_3⟩ := cells4s Ry_1
    go_wp2_with fail
    obtain ⟨F, hF1, hF2⟩ := below_fun w1
    have fx_0 := fun u => cells4 (heap_of (hF1 u) _ _ _ Rx_1) 0 _ rfl
    have fx_1 := fun u => cells4 (heap_of (hF1 u) _ _ _ Rx_1) 1 _ rfl
    have fx_2 := fun u => cells4 (heap_of (hF1 u) _ _ _ Rx_1) 2 _ rfl
    have fx_3 := fun u => cells4 (heap_of (hF1 u) _ _ _ Rx_1) 3 _ rfl
    have fy_0 := fun u => cells4 (heap_of (hF1 u) _ _ _ Ry_1) 0 _ rfl
    have fy_1 := fun u => cells4 (heap_of (hF1 u) _ _ _ Ry_1) 1 _ rfl
    have fy_2 := fun u => cells4 (heap_of (hF1 u) _ _ _ Ry_1) 2 _ rfl
    have fy_3 := fun u => cells4 (heap_of (hF1 u) _ _ _ Ry_1) 3 _ rfl
    refine wp_region_below F hF2 (by kernel_rfl) (by kernel_rfl) ?_
    repeat first | go_big_quiet_step (first | (go_at_call_of 84 (Value.agg #[.bool b, .string s, .string t, .int .i64 e]); exact quietF hF1 hF2 (HF.out _)) | (go_at_call_of 84 (Value.agg #[.bool c, .string p, .string q, .int .i64 g]); exact quietF hF1 hF2 (HG.out _)) | fail) | quiet_step (first | (go_at_call_of 84 (Value.agg #[.bool b, .string s, .string t, .int .i64 e]); exact quietF hF1 hF2 (HF.out _)) | (go_at_call_of 84 (Value.agg #[.bool c, .string p, .string q, .int .i64 g]); exact quietF hF1 hF2 (HG.out _)) | fail)
    refine wpQuiet_nil ?_
    rintro _ ⟨uW, rfl⟩
    have B2 := btr B1 (hF1 uW)
    have Rx_2 := heap_of (hF1 uW) _ _ _ Rx_1
    have Ry_2 := heap_of (hF1 uW) _ _ _ Ry_1
    obtain ⟨w2, hw⟩ : ∃ V, F uW = V := ⟨_, rfl⟩
    rw [hw] at B2 Rx_2 Ry_2
    try rw [hw]
    clear hw hF1 hF2 B1 fx_0 fx_1 fx_2 fx_3 fy_0 fy_1 fy_2 fy_3 Rx_1 cx_1_0 cx_1_1 cx_1_2 cx_1_3 Ry_1 cy_1_0 cy_1_1 cy_1_2 cy_1_3
    clear F
    obtain ⟨cx_2_0, cx_2_1, cx_2_2, cx_2_3⟩ := cells4s Rx_2
    obtain ⟨cy_2_0, cy_2_1, cy_2_2, cy_2_3⟩ := cells4s Ry_2
    go_wp2_with fail
    refine (K1.out _).mono ?_
    rintro r w3 ⟨rfl, b3⟩
    have B3 : Below w.heap.size w w3 := btr B2 b3
    have Rx_3 := heap_of b3 _ _ _ Rx_2
    have Ry_3 := heap_of b3 _ _ _ Ry_2
    clear b3 B2 Rx_2 cx_2_0 cx_2_1 cx_2_2 cx_2_3 Ry_2 cy_2_0 cy_2_1 cy_2_2 cy_2_3
    obtain ⟨cx_3_0, cx_3_1, cx_3_2, cx_3_3⟩ := cells4s Rx_3
    obtain ⟨cy_3_0, cy_3_1, cy_3_2, cy_3_3⟩ := cells4s Ry_3
    go_wp2
    go_ret2
    exact ⟨rfl, B3⟩
end Go.Proofs.YtkmlbjlaahcahaaGreatDoor
namespace Go.Proofs.YtkmlbjlaahcahaaGreatDoor
set_option maxRecDepth 100000
open Go.RowKit WMath XMath
set_option linter.unusedSimpArgs false
set_option linter.unusedVariables false

theorem ok_enc {f : Int} (hf : Is4 f) (neg : Bool) (e t : Nat) (he : e ≤ oV f) (ht : t < 2 ^ pV f) : okB f (enc7 f neg e t) = true := by
  have h1 := (enc_k hf neg he ht).1
  unfold okB
  rw [decide_eq_true_iff]
  exact ⟨by rcases hf with rfl | rfl | rfl | rfl <;> decide, h1⟩
theorem bits_of {f : Int} (hf : Is4 f) {n : Nat} (ho : okB f n = true) : ∃ u v : Nat, bv7 n = (u, v) ∧ u < 18446744073709551616 ∧ v < 18446744073709551616 ∧ v + 18446744073709551616 * u = n := by
  obtain ⟨u, v, h⟩ : ∃ u v, bv7 n = (u, v) := ⟨_, _, rfl⟩
  have fit := (okB_yes (is4_ok hf).1 ho).2
  unfold Fit at fit
  have := (fm hf).2.2.2.2.2.2
  obtain ⟨a, b, c⟩ := bv_lt (show n < 340282366920938463463374607431768211456 by omega) h
  exact ⟨u, v, h, a, b, c⟩
theorem bv_eq {x y n : Nat} (hx : x < 18446744073709551616) (hy : y < 18446744073709551616) (hn : y + 18446744073709551616 * x = n) : bv7 n = (x, y) := by
  unfold bv7
  rw [← hn]
  congr 1 <;> omega
def NE (x y i j : Nat) : Prop := ((x : Int) == (i : Int)) = false ∨ (((x : Int) == (i : Int)) = true ∧ ((y : Int) == (j : Int)) = false)
theorem ne_of {x y i j n m : Nat} (hn : y + 18446744073709551616 * x = n) (hm : j + 18446744073709551616 * i = m) (h : n ≠ m) : NE x y i j := by
  unfold NE
  by_cases c : x = i
  · exact Or.inr ⟨by rw [beq_iff_eq]; omega, by rw [beq_eq_false_iff_ne]; omega⟩
  · exact Or.inl (by rw [beq_eq_false_iff_ne]; omega)
theorem pred {f : Int} (e t : Nat) (ht : t < 2 ^ pV f) (h : ¬ (e = 0 ∧ t = 0)) : ∃ e1 t1, t1 < 2 ^ pV f ∧ upE f e1 t1 = e ∧ upT f t1 = t := by
  have p := Nat.two_pow_pos (pV f)
  by_cases c : t = 0
  · refine ⟨e - 1, 2 ^ pV f - 1, by omega, ?_, ?_⟩
    · unfold upE; rw [if_pos (by omega)]; omega
    · unfold upT; rw [if_pos (by omega)]; omega
  · refine ⟨e, t - 1, by omega, ?_, ?_⟩
    · unfold upE; rw [if_neg (by omega)]
    · unfold upT; rw [if_neg (by omega)]; omega
theorem val_two (f : Int) (hf : Is4 f) (x y n : Nat) (hx : x < 18446744073709551616) (hy : y < 18446744073709551616) (hn : y + 18446744073709551616 * x = n) (ho : okB f n = true) : ∃ (b : Bool) (s t : ByteArray) (e g : Int), ∀ w, FAt w → TabAt w → Calls Tryz.prog 8 #[.int .u8 f, .agg #[.int .u64 (x : Nat), .int .u64 (y : Nat)]] w fun r w' => r = .returned (.tuple #[.agg #[.bool b, .string s, .string t, .int .i64 e], .int .i64 g]) ∧ Below w.heap.size w w' := by
  by_cases hc : 0 < kC f n ∧ kC f n < 7
  · obtain ⟨⟨rb, rn, rd, re⟩, hv⟩ : ∃ q, vX f n = q := ⟨_, rfl⟩
    exact ⟨rb, _, _, re, 0, fun w hT hT2 => kValue_yes f hf x y n hx hy hn ho hc rb rn rd re _ _ hv rfl rfl w hT hT2⟩
  · exact ⟨false, ⟨#[]⟩, ⟨#[]⟩, 0, 80, fun w hT _ => kValue_inf f hf x y n hx hy hn ho hc w hT⟩
/-- What the statement meets of two numbers that stand side by side. -/
theorem side (f : Int) (hf : Is4 f) (x y n u v m : Nat) (hx : x < 18446744073709551616) (hy : y < 18446744073709551616) (hn : y + 18446744073709551616 * x = n) (hu : u < 18446744073709551616) (hv : v < 18446744073709551616) (hm : v + 18446744073709551616 * u = m) (ho : okB f n = true) (ho2 : okB f m = true)
    (hc : 0 < kC f n ∧ kC f n < 7) (hc2 : 0 < kC f m ∧ kC f m < 7) (c1 : (vX f n).can) (c2 : (vX f m).can) (c : Int) (hcmp : cmpX (vX f n) (vX f m) = (c, 0)) :
    ∃ (b1 : Bool) (s1 t1 : ByteArray) (e1 : Int) (b2 : Bool) (s2 t2 : ByteArray) (e2 : Int), (∀ w, FAt w → TabAt w → Calls Tryz.prog 8 #[.int .u8 f, .agg #[.int .u64 (x : Nat), .int .u64 (y : Nat)]] w fun r w' => r = .returned (.tuple #[.agg #[.bool b1, .string s1, .string t1, .int .i64 e1], .int .i64 0]) ∧ Below w.heap.size w w') ∧ (∀ w, FAt w → TabAt w → Calls Tryz.prog 8 #[.int .u8 f, .agg #[.int .u64 (u : Nat), .int .u64 (v : Nat)]] w fun r w' => r = .returned (.tuple #[.agg #[.bool b2, .string s2, .string t2, .int .i64 e2], .int .i64 0]) ∧ Below w.heap.size w w') ∧ (∀ w, TabAt w → Calls Tryz.prog 26 #[.agg #[.bool b1, .string s1, .string t1, .int .i64 e1], .agg #[.bool b2, .string s2, .string t2, .int .i64 e2]] w fun r w' => r = .returned (.tuple #[.int .i64 c, .int .i64 0]) ∧ Below w.heap.size w w') ∧
      (∀ Z M, addX (vX f n) (vX f m) = (Z, 0) → Z.can → scaleX Z (-1) = (M, 0) → M.can → ofX f M = (0, false) → ∃ (b3 : Bool) (s3 t3 : ByteArray) (e3 : Int) (b4 : Bool) (s4 t4 : ByteArray) (e4 : Int), (∀ w, TabAt w → Calls Tryz.prog 29 #[.agg #[.bool b1, .string s1, .string t1, .int .i64 e1], .agg #[.bool b2, .string s2, .string t2, .int .i64 e2]] w fun r w' => r = .returned (.tuple #[.agg #[.bool b3, .string s3, .string t3, .int .i64 e3], .int .i64 0]) ∧ Below w.heap.size w w') ∧ (∀ w, TabAt w → Calls Tryz.prog 30 #[.agg #[.bool b3, .string s3, .string t3, .int .i64 e3], .int .i64 (-1)] w fun r w' => r = .returned (.tuple #[.agg #[.bool b4, .string s4, .string t4, .int .i64 e4], .int .i64 0]) ∧ Below w.heap.size w w') ∧ (∀ w, FAt w → TabAt w → Calls Tryz.prog 12 #[.int .u8 f, .agg #[.bool b4, .string s4, .string t4, .int .i64 e4]] w fun r w' => r = .returned (.tuple #[.agg #[.int .u64 0, .int .u64 0], .bool false, .int .i64 0]) ∧ Below w.heap.size w w')) := by
  obtain ⟨⟨b1, n1, d1, e1⟩, h1⟩ : ∃ q, vX f n = q := ⟨_, rfl⟩
  obtain ⟨⟨b2, n2, d2, e2⟩, h2⟩ : ∃ q, vX f m = q := ⟨_, rfl⟩
  rw [h1] at c1 hcmp
  rw [h2] at c2 hcmp
  refine ⟨b1, nbA n1, nbA d1, e1, b2, nbA n2, nbA d2, e2, fun w hT hT2 => kValue_yes f hf x y n hx hy hn ho hc b1 n1 d1 e1 _ _ h1 rfl rfl w hT hT2, fun w hT hT2 => kValue_yes f hf u v m hu hv hm ho2 hc2 b2 n2 d2 e2 _ _ h2 rfl rfl w hT hT2, fun w hT => Cmpx_ok b1 n1 d1 e1 _ _ b2 n2 d2 e2 _ _ c 0 rfl rfl rfl rfl c1 c2 hcmp w hT, ?_⟩
  intro Z M hZ cZ hM cM hof
  rw [h1, h2] at hZ
  obtain ⟨b3, n3, d3, e3⟩ := Z
  obtain ⟨b4, n4, d4, e4⟩ := M
  exact ⟨b3, nbA n3, nbA d3, e3, b4, nbA n4, nbA d4, e4, fun w hT => Addx_ok b1 n1 d1 e1 _ _ b2 n2 d2 e2 _ _ b3 n3 d3 e3 0 _ _ rfl rfl rfl rfl c1 c2 hZ rfl rfl w hT, fun w hT => Scalex_ok b3 n3 d3 e3 _ _ (-1) b4 n4 d4 e4 0 _ _ rfl rfl cZ (by decide) (by decide) hM rfl rfl w hT, fun w hT hT2 => kOf_is f hf b4 n4 d4 _ _ e4 rfl rfl cM 0 false 0 0 hof rfl w hT hT2⟩
end Go.Proofs.YtkmlbjlaahcahaaGreatDoor
namespace Go.Proofs.YtkmlbjlaahcahaaGreatDoor
set_option maxRecDepth 100000
open Go.RowKit WMath XMath
set_option linter.unusedSimpArgs false
set_option linter.unusedVariables false

/-- Two numbers that stand side by side, the lower one first: in order, and nothing between. -/
theorem pair_pos {f : Int} (hf : Is4 f) (e t : Nat) (he : upE f e t < oV f) (ht : t < 2 ^ pV f) : ∃ c Z M, cmpX (vX f (enc7 f false e t)) (vX f (enc7 f false (upE f e t) (upT f t))) = (c, 0) ∧ c < 0 ∧ addX (vX f (enc7 f false e t)) (vX f (enc7 f false (upE f e t) (upT f t))) = (Z, 0) ∧ Z.can ∧ scaleX Z (-1) = (M, 0) ∧ M.can ∧ ofX f M = (0, false) := by
  have e1 : e < oV f := by unfold upE at he; split at he <;> omega
  obtain ⟨u1, u2, u3⟩ := up_lim hf e t ht
  obtain ⟨_, c1, v1, b1, z1, y1⟩ := vX_enc hf false e t e1 ht
  obtain ⟨_, c2, v2, b2, z2, y2⟩ := vX_enc hf false (upE f e t) (upT f t) he u1
  obtain ⟨Z, M, a1, a2, a3, a4, a5⟩ := near hf false e t he ht _ _ (Or.inl ⟨rfl, rfl⟩)
  have bf : (vX f (enc7 f false e t)).b = false := by
    by_cases s : sV f e t = 0
    · rw [z1 s]; rfl
    · exact (y1 s).2
  obtain ⟨c, k1, k2⟩ := cmp_pos _ _ c1 c2 b1 b2 bf (y2 u3).1 (y2 u3).2 (up_lt hf e t he ht).1
  exact ⟨c, Z, M, k1, k2, a1, a2, a3, a4, a5⟩
theorem pair_neg {f : Int} (hf : Is4 f) (e t : Nat) (he : upE f e t < oV f) (ht : t < 2 ^ pV f) (hz : sV f e t ≠ 0) : ∃ c Z M, cmpX (vX f (enc7 f true (upE f e t) (upT f t))) (vX f (enc7 f true e t)) = (c, 0) ∧ c < 0 ∧ addX (vX f (enc7 f true (upE f e t) (upT f t))) (vX f (enc7 f true e t)) = (Z, 0) ∧ Z.can ∧ scaleX Z (-1) = (M, 0) ∧ M.can ∧ ofX f M = (0, false) := by
  have e1 : e < oV f := by unfold upE at he; split at he <;> omega
  obtain ⟨u1, u2, u3⟩ := up_lim hf e t ht
  obtain ⟨_, c1, v1, b1, z1, y1⟩ := vX_enc hf true e t e1 ht
  obtain ⟨_, c2, v2, b2, z2, y2⟩ := vX_enc hf true (upE f e t) (upT f t) he u1
  obtain ⟨Z, M, a1, a2, a3, a4, a5⟩ := near hf true e t he ht _ _ (Or.inr ⟨rfl, rfl⟩)
  obtain ⟨c, k1, k2⟩ := cmp_neg _ _ c2 c1 b2 b1 (y2 u3).1 (y2 u3).2 (y1 hz).1 (y1 hz).2 (up_lt hf e t he ht).2
  exact ⟨c, Z, M, k1, k2, a1, a2, a3, a4, a5⟩
/-- What the statement comes to, once the next number is known. -/
def Road (f : Int) (x y u v : Nat) : Prop :=
  (∃ (b1 : Bool) (s1 t1 : ByteArray) (e1 : Int) (b2 : Bool) (s2 t2 : ByteArray) (e2 h : Int), Box (∀ w, FAt w → TabAt w → Calls Tryz.prog 8 #[.int .u8 f, .agg #[.int .u64 (x : Nat), .int .u64 (y : Nat)]] w fun r w' => r = .returned (.tuple #[.agg #[.bool b1, .string s1, .string t1, .int .i64 e1], .int .i64 80]) ∧ Below w.heap.size w w') ∧ Box (∀ w, FAt w → TabAt w → Calls Tryz.prog 8 #[.int .u8 f, .agg #[.int .u64 (u : Nat), .int .u64 (v : Nat)]] w fun r w' => r = .returned (.tuple #[.agg #[.bool b2, .string s2, .string t2, .int .i64 e2], .int .i64 h]) ∧ Below w.heap.size w w') ∧ Box (∀ w, FAt w → Calls Tryz.prog 25 #[.int .u8 f, .bool true] w fun r w' => r = .returned (.agg #[.int .u64 (x : Nat), .int .u64 (y : Nat)]) ∧ Below w.heap.size w w')) ∨
  (∃ (b1 : Bool) (s1 t1 : ByteArray) (e1 : Int) (b2 : Bool) (s2 t2 : ByteArray) (e2 : Int) (i j : Nat), Box (∀ w, FAt w → TabAt w → Calls Tryz.prog 8 #[.int .u8 f, .agg #[.int .u64 (x : Nat), .int .u64 (y : Nat)]] w fun r w' => r = .returned (.tuple #[.agg #[.bool b1, .string s1, .string t1, .int .i64 e1], .int .i64 0]) ∧ Below w.heap.size w w') ∧ Box (∀ w, FAt w → TabAt w → Calls Tryz.prog 8 #[.int .u8 f, .agg #[.int .u64 (u : Nat), .int .u64 (v : Nat)]] w fun r w' => r = .returned (.tuple #[.agg #[.bool b2, .string s2, .string t2, .int .i64 e2], .int .i64 80]) ∧ Below w.heap.size w w') ∧ Box (∀ w, FAt w → Calls Tryz.prog 25 #[.int .u8 f, .bool true] w fun r w' => r = .returned (.agg #[.int .u64 (i : Nat), .int .u64 (j : Nat)]) ∧ Below w.heap.size w w') ∧ NE x y i j ∧ Box (∀ w, FAt w → Calls Tryz.prog 25 #[.int .u8 f, .bool false] w fun r w' => r = .returned (.agg #[.int .u64 (u : Nat), .int .u64 (v : Nat)]) ∧ Below w.heap.size w w')) ∨
  (∃ (b1 : Bool) (s1 t1 : ByteArray) (e1 : Int) (b2 : Bool) (s2 t2 : ByteArray) (e2 c : Int), Box (∀ w, FAt w → TabAt w → Calls Tryz.prog 8 #[.int .u8 f, .agg #[.int .u64 (x : Nat), .int .u64 (y : Nat)]] w fun r w' => r = .returned (.tuple #[.agg #[.bool b1, .string s1, .string t1, .int .i64 e1], .int .i64 0]) ∧ Below w.heap.size w w') ∧ Box (∀ w, FAt w → TabAt w → Calls Tryz.prog 8 #[.int .u8 f, .agg #[.int .u64 (u : Nat), .int .u64 (v : Nat)]] w fun r w' => r = .returned (.tuple #[.agg #[.bool b2, .string s2, .string t2, .int .i64 e2], .int .i64 0]) ∧ Below w.heap.size w w') ∧ Box (∀ w, TabAt w → Calls Tryz.prog 26 #[.agg #[.bool b1, .string s1, .string t1, .int .i64 e1], .agg #[.bool b2, .string s2, .string t2, .int .i64 e2]] w fun r w' => r = .returned (.tuple #[.int .i64 c, .int .i64 0]) ∧ Below w.heap.size w w') ∧ decide (c < 0) = true ∧
    ((Box (∀ w, FAt w → Calls Tryz.prog 27 #[.int .u8 f, .bool true] w fun r w' => r = .returned (.agg #[.int .u64 (x : Nat), .int .u64 (y : Nat)]) ∧ Below w.heap.size w w') ∧ Box (∀ w, FAt w → Calls Tryz.prog 28 #[.int .u8 f, .bool true] w fun r w' => r = .returned (.agg #[.int .u64 (u : Nat), .int .u64 (v : Nat)]) ∧ Below w.heap.size w w')) ∨
     (∃ (i j : Nat) (b3 : Bool) (s3 t3 : ByteArray) (e3 : Int) (b4 : Bool) (s4 t4 : ByteArray) (e4 : Int), Box (∀ w, FAt w → Calls Tryz.prog 27 #[.int .u8 f, .bool true] w fun r w' => r = .returned (.agg #[.int .u64 (i : Nat), .int .u64 (j : Nat)]) ∧ Below w.heap.size w w') ∧ NE x y i j ∧ Box (∀ w, TabAt w → Calls Tryz.prog 29 #[.agg #[.bool b1, .string s1, .string t1, .int .i64 e1], .agg #[.bool b2, .string s2, .string t2, .int .i64 e2]] w fun r w' => r = .returned (.tuple #[.agg #[.bool b3, .string s3, .string t3, .int .i64 e3], .int .i64 0]) ∧ Below w.heap.size w w') ∧ Box (∀ w, TabAt w → Calls Tryz.prog 30 #[.agg #[.bool b3, .string s3, .string t3, .int .i64 e3], .int .i64 (-1)] w fun r w' => r = .returned (.tuple #[.agg #[.bool b4, .string s4, .string t4, .int .i64 e4], .int .i64 0]) ∧ Below w.heap.size w w') ∧ Box (∀ w, FAt w → TabAt w → Calls Tryz.prog 12 #[.int .u8 f, .agg #[.bool b4, .string s4, .string t4, .int .i64 e4]] w fun r w' => r = .returned (.tuple #[.agg #[.int .u64 0, .int .u64 0], .bool false, .int .i64 0]) ∧ Below w.heap.size w w'))))
theorem road_mid (f : Int) (hf : Is4 f) (x y n u v m : Nat) (hx : x < 18446744073709551616) (hy : y < 18446744073709551616) (hn : y + 18446744073709551616 * x = n) (hu : u < 18446744073709551616) (hv : v < 18446744073709551616) (hm : v + 18446744073709551616 * u = m) (ho : okB f n = true) (ho2 : okB f m = true)
    (hc : 0 < kC f n ∧ kC f n < 7) (hc2 : 0 < kC f m ∧ kC f m < 7) (c1 : (vX f n).can) (c2 : (vX f m).can) (hne : n ≠ eLeast f true)
    (h : ∃ c Z M, cmpX (vX f n) (vX f m) = (c, 0) ∧ c < 0 ∧ addX (vX f n) (vX f m) = (Z, 0) ∧ Z.can ∧ scaleX Z (-1) = (M, 0) ∧ M.can ∧ ofX f M = (0, false)) : Road f x y u v := by
  obtain ⟨c, Z, M, k1, k2, k3, k4, k5, k6, k7⟩ := h
  obtain ⟨b1, s1, t1, e1, b2, s2, t2, e2, g1, g2, g3, g4⟩ := side f hf x y n u v m hx hy hn hu hv hm ho ho2 hc hc2 c1 c2 c k1
  obtain ⟨b3, s3, t3, e3, b4, s4, t4, e4, g5, g6, g7⟩ := g4 Z M k3 k4 k5 k6 k7
  obtain ⟨i, j, q1, q2, q3, q4⟩ := bits_of hf (ok_enc hf true 0 1 (by omega) (by have := (fm hf).2.2.1; have := (fm hf).2.2.2.1; omega))
  exact Or.inr (Or.inr ⟨b1, s1, t1, e1, b2, s2, t2, e2, c, box g1, box g2, box g3, decide_eq_true k2, Or.inr ⟨i, j, b3, s3, t3, e3, b4, s4, t4, e4, box (fun w hT => sk_least f true hf i j q1 w hT), ne_of hn q4 hne, box g5, box g6, box g7⟩⟩)
theorem roads (f : Int) (hf : Is4 f) (x y n u v m : Nat) (hx : x < 18446744073709551616) (hy : y < 18446744073709551616) (hn : y + 18446744073709551616 * x = n) (ho : okB f n = true) (hr : nx f n = (m, 0)) (hm : bv7 m = (u, v)) : Road f x y u v := by
  obtain ⟨g1, g2, g3, g4, g5, g6, g7⟩ := fm hf
  have hfit := (okB_yes (is4_ok hf).1 ho).2
  have tl := kT_lt (f := f) n
  have el := kE_le (f := f) n
  have en := k_enc hf hfit
  have p0 := Nat.two_pow_pos (pV f)
  obtain ⟨neg, e, t, hneg, he, ht⟩ : ∃ neg e t, kN f n = neg ∧ kE f n = e ∧ kT f n = t := ⟨_, _, _, rfl, rfl, rfl⟩
  rw [hneg, he, ht] at en
  rw [ht] at tl
  rw [he] at el
  have hC := kC_cases hf neg e t el tl
  rw [en] at hC
  unfold nx at hr
  by_cases c7 : 7 ≤ kC f n
  · rw [if_pos c7] at hr; injection hr with _ h2; exact absurd h2 (by decide)
  rw [if_neg c7] at hr
  by_cases eo : e = oV f
  · -- the infinity below 0
    rw [if_pos eo] at hC
    have t0 : t = 0 := by
      by_cases t0 : t = 0
      · exact t0
      · rw [if_neg t0] at hC
        exfalso
        split at hC <;> omega
    rw [if_pos t0] at hC
    have nt : neg = true := by
      cases neg
      · rw [if_neg (by decide)] at hC; omega
      · rfl
    rw [nt, if_pos rfl] at hC
    rw [hC, if_pos (by decide)] at hr
    injection hr with hr _
    obtain ⟨e1, t1, q1, q2, q3⟩ := pred (f := f) e t tl (by omega)
    have um := up_enc hf true e1 t1 q1
    rw [q2, q3, ← nt, en] at um
    have e1o : e1 ≤ oV f := by rw [eo] at q2; unfold upE at q2; split at q2 <;> omega
    have mo : okB f m = true := by rw [← hr, um, Nat.add_sub_cancel]; rw [nt]; exact ok_enc hf true e1 t1 e1o q1
    obtain ⟨u', v', b1, b2, b3, b4⟩ := bits_of hf mo
    rw [hm] at b1
    injection b1 with b5 b6
    subst b5 b6
    obtain ⟨bb, ss, tt, ee, gg, hval⟩ := val_two f hf u v m b2 b3 b4 mo
    have ni : n = eInf f true := by unfold eInf; rw [← en, nt, eo, t0]
    exact Or.inl ⟨_, _, _, _, bb, ss, tt, ee, gg, box (fun w hT _ => kValue_inf f hf x y n hx hy hn ho (by omega) w hT), box hval, box (fun w hT => sk_inf f true hf x y (by rw [← ni]; exact bv_eq hx hy hn) w hT)⟩
  rw [if_neg eo] at hC
  have eo' : e < oV f := by omega
  obtain ⟨vc, vcan, vval, vbd, vz, vnz⟩ := vX_enc hf neg e t eo' tl
  rw [en] at vc vcan vval vbd vz vnz
  by_cases z : e = 0 ∧ t = 0
  · -- a zero: the least number above 0
    obtain ⟨e0, t0⟩ := z
    rw [if_neg (by omega), if_neg (by omega)] at hC
    have me : m = enc7 f false (upE f 0 0) (upT f 0) := by
      rw [up_enc hf false 0 0 p0]
      cases neg
      · rw [if_neg (by decide)] at hC
        rw [hC, if_neg (by decide), if_neg (by decide)] at hr
        injection hr with hr _
        rw [← hr, ← en, e0, t0]
      · rw [if_pos rfl] at hC
        rw [hC, if_neg (by decide), if_pos rfl] at hr
        injection hr with hr _
        rw [← hr]
        unfold eLeast enc7
        omega
    have ue : upE f 0 0 = 0 := by unfold upE; rw [if_neg (by omega)]
    obtain ⟨u1, u2, u3⟩ := up_lim hf 0 0 p0
    have mo : okB f m = true := by rw [me]; exact ok_enc hf false _ _ (by omega) u1
    obtain ⟨u', v', b1, b2, b3, b4⟩ := bits_of hf mo
    rw [hm] at b1
    injection b1 with b5 b6
    subst b5 b6
    obtain ⟨mc, mcan, _, _, _, _⟩ := vX_enc hf false (upE f 0 0) (upT f 0) (by omega) u1
    rw [← me] at mc mcan
    have pr := pair_pos hf 0 0 (by omega) p0
    have hv0 : vX f n = vX f (enc7 f false 0 0) := by
      have s0 : sV f 0 0 = 0 := by unfold sV; rw [if_pos rfl]
      rw [vz (by rw [e0, t0]; exact s0)]
      exact ((vX_enc hf false 0 0 (by omega) p0).2.2.2.2.1 s0).symm
    rw [← hv0, ← me] at pr
    refine road_mid f hf x y n u v m hx hy hn b2 b3 b4 ho mo vc mc vcan mcan ?_ pr
    rw [← en, e0, t0]
    unfold eLeast enc7
    cases neg <;> simp <;> omega
  · cases neg
    · -- above 0
      have c6 : kC f n = 6 ∨ kC f n = 5 := by
        rw [hC]
        split
        · exact Or.inl rfl
        · rw [if_pos (by omega)]; exact Or.inr rfl
      rw [if_neg (by omega), if_neg (by omega)] at hr
      injection hr with hr _
      have ue := up_enc hf false e t tl
      rw [en, hr] at ue
      obtain ⟨u1, u2, u3⟩ := up_lim hf e t tl
      by_cases uo : upE f e t = oV f
      · have ut : upT f t = 0 := by
          unfold upE at uo
          unfold upT
          split at uo
          · rename_i h; rw [if_pos h]
          · omega
        have mi : m = eInf f false := by rw [← ue, uo, ut]; rfl
        have mo : okB f m = true := by rw [mi]; exact ok_enc hf false _ _ (Nat.le_refl _) p0
        obtain ⟨u', v', b1, b2, b3, b4⟩ := bits_of hf mo
        rw [hm] at b1
        injection b1 with b5 b6
        subst b5 b6
        have mc : kC f m = 7 := by
          have := kC_cases hf false (oV f) 0 (Nat.le_refl _) p0
          rw [if_pos rfl, if_pos rfl, if_neg (by decide)] at this
          rw [mi]
          exact this
        obtain ⟨i, j, q1, q2, q3, q4⟩ := bits_of hf (ok_enc hf true (oV f) 0 (Nat.le_refl _) p0)
        obtain ⟨⟨rb, rn, rd, re⟩, hv⟩ : ∃ q, vX f n = q := ⟨_, rfl⟩
        refine Or.inr (Or.inl ⟨rb, _, _, re, _, _, _, _, i, j, box (fun w hT hT2 => kValue_yes f hf x y n hx hy hn ho vc rb rn rd re _ _ hv rfl rfl w hT hT2), box (fun w hT _ => kValue_inf f hf u v m b2 b3 b4 mo (by omega) w hT), box (fun w hT => sk_inf f true hf i j q1 w hT), ne_of hn q4 ?_, box (fun w hT => sk_inf f false hf u v (by rw [← mi]; exact hm) w hT)⟩)
        intro k
        have a1 := (enc_k hf false (Nat.le_of_lt eo') tl).2.1
        have a2 := (enc_k hf true (Nat.le_refl (oV f)) p0).2.1
        rw [en, k, a2] at a1
        exact Bool.noConfusion a1
      · have uo' : upE f e t < oV f := by unfold upE at uo ⊢; split <;> split at uo <;> omega
        have mo : okB f m = true := by rw [← ue]; exact ok_enc hf false _ _ (by omega) u1
        obtain ⟨u', v', b1, b2, b3, b4⟩ := bits_of hf mo
        rw [hm] at b1
        injection b1 with b5 b6
        subst b5 b6
        obtain ⟨mc, mcan, _, _, _, _⟩ := vX_enc hf false (upE f e t) (upT f t) uo' u1
        rw [ue] at mc mcan
        have pr := pair_pos hf e t uo' tl
        rw [ue, en] at pr
        refine road_mid f hf x y n u v m hx hy hn b2 b3 b4 ho mo vc mc vcan mcan ?_ pr
        intro k
        have a1 := (enc_k hf false (Nat.le_of_lt eo') tl).2.1
        have a2 := (enc_k hf true (show 0 ≤ oV f by omega) (show 1 < 2 ^ pV f by omega)).2.1
        rw [en, k] at a1
        unfold eLeast at a1
        rw [a2] at a1
        exact Bool.noConfusion a1
    · -- below 0
      have c1 : kC f n = 1 ∨ kC f n = 2 := by
        rw [hC]
        split
        · exact Or.inl rfl
        · rw [if_pos (by omega)]; exact Or.inr rfl
      rw [if_pos (by omega)] at hr
      injection hr with hr _
      obtain ⟨e1, t1, q1, q2, q3⟩ := pred (f := f) e t tl z
      have um := up_enc hf true e1 t1 q1
      rw [q2, q3, en] at um
      have e1o : e1 < oV f := by unfold upE at q2; split at q2 <;> omega
      have me : enc7 f true e1 t1 = m := by omega
      have mo : okB f m = true := by rw [← me]; exact ok_enc hf true e1 t1 (by omega) q1
      obtain ⟨u', v', b1, b2, b3, b4⟩ := bits_of hf mo
      rw [hm] at b1
      injection b1 with b5 b6
      subst b5 b6
      obtain ⟨mc, mcan, _, _, mz, mnz⟩ := vX_enc hf true e1 t1 e1o q1
      rw [me] at mc mcan mz mnz
      by_cases sz : sV f e1 t1 = 0
      · have ez : e1 = 0 ∧ t1 = 0 := by unfold sV at sz; split at sz <;> omega
        have nl : n = eLeast f true := by
          rw [um, ez.1, ez.2]
          unfold eLeast enc7
          omega
        have ns : sV f e t ≠ 0 := by
          have := (up_lim hf e1 t1 q1).2.2
          rw [q2, q3] at this
          exact this
        have cn := cmp_null (vX f n) (vnz ns).1 (vnz ns).2
        rw [← mz sz] at cn
        obtain ⟨c, k1, k2⟩ := cn
        obtain ⟨b1, s1, t1', e1', b2', s2, t2, e2, g1, g2, g3, _⟩ := side f hf x y n u v m hx hy hn b2 b3 b4 ho mo vc mc vcan mcan c k1
        refine Or.inr (Or.inr ⟨b1, s1, t1', e1', b2', s2, t2, e2, c, box g1, box g2, box g3, decide_eq_true k2, Or.inl ⟨box (fun w hT => sk_least f true hf x y (by rw [← nl]; exact bv_eq hx hy hn) w hT), box (fun w hT => sk_zero f true hf u v (by unfold eZero; rw [ez.1, ez.2] at me; rw [me]; exact hm) w hT)⟩⟩)
      · have pr := pair_neg hf e1 t1 (by rw [q2]; exact eo') q1 sz
        rw [q2, q3, en, me] at pr
        refine road_mid f hf x y n u v m hx hy hn b2 b3 b4 ho mo vc mc vcan mcan ?_ pr
        intro k
        have a1 := enc_k hf true (Nat.le_of_lt eo') tl
        have a2 := enc_k hf true (show 0 ≤ oV f by omega) (show 1 < 2 ^ pV f by omega)
        rw [en, k] at a1
        unfold eLeast at a1
        have he0 : e = 0 := by rw [← a1.2.2.1, a2.2.2.1]
        have ht1 : t = 1 := by rw [← a1.2.2.2, a2.2.2.2]
        have : e1 * 2 ^ pV f + t1 = 0 := by
          have := (up_lim hf e1 t1 q1).2.1
          rw [q2, q3, he0, ht1] at this
          omega
        have : t1 = 0 := by omega
        have e10 : e1 = 0 := by
          rcases Nat.mul_eq_zero.1 (show e1 * 2 ^ pV f = 0 by omega) with h | h
          · exact h
          · omega
        apply sz
        unfold sV
        rw [if_pos e10]
        exact this
end Go.Proofs.YtkmlbjlaahcahaaGreatDoor
