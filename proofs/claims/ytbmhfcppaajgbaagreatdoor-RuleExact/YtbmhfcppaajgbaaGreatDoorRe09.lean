/-
  What the functions that the statement reaches return: part 9 (X7, X9).
-/
import Derived.Lib.MinMax
import Derived.Test.YtbmhfcppaajgbaaGreatDoorRe08
namespace Go.Proofs.YtbmhfcppaajgbaaGreatDoor
set_option maxRecDepth 100000
open Go.RowKit WMath XMath

def prodX (b1 : Bool) (n1 d1 : Nat) (e1 : Int) (b2 : Bool) (n2 d2 : Nat) (e2 : Int) : XN × Int :=
  if nl (n1 * n2) ≤ 16384 ∧ nl (d1 * d2) ≤ 16384 then XMath.mk (b1 != b2) (n1 * n2) (d1 * d2) (e1 + e2) else (XZ, 4)
theorem lg_no (n : Nat) (h : ¬ nl n ≤ 16384) : lg n = (⟨#[]⟩, 4) := by unfold lg; rw [if_neg h]
set_option maxRecDepth 100000 in
set_option maxHeartbeats 2000000 in
theorem productx (b : Bool) (n d : Nat) (e : Int) (s t : ByteArray) (c : Bool) (m f : Nat) (g : Int) (p q : ByteArray) (rb : Bool) (rn rd : Nat) (re err : Int) (u v : ByteArray)
    (hs : nbA n = s) (ht : nbA d = t) (hp : nbA m = p) (hq : nbA f = q) (ln : nl n ≤ 16384) (ld : nl d ≤ 16384) (lm : nl m ≤ 16384) (lf : nl f ≤ 16384) (d0 : d * f ≠ 0) (he : -10000000 ≤ e ∧ e ≤ 10000000 ∧ -10000000 ≤ g ∧ g ≤ 10000000)
    (hr : prodX b n d e c m f g = (⟨rb, rn, rd, re⟩, err)) (hu : nbA rn = u) (hv : nbA rd = v) (w : World) (hT : TabAt w) :
    Calls Tryz.prog 91 #[.agg #[.bool b, .string s, .string t, .int .i64 e], .agg #[.bool c, .string p, .string q, .int .i64 g]] w fun r w' => r = .returned (.tuple #[.agg #[.bool rb, .string u, .string v, .int .i64 re], .int .i64 err]) ∧ Below w.heap.size w w' := by
  have HS := box hs
  have HT := box ht
  have HP := box hp
  have HQ := box hq
  have LN := box ln
  have LD := box ld
  have LM := box lm
  have LF := box lf
  have TT := box hT
  unfold prodX at hr
  by_cases h1 : nl (n * m) ≤ 16384
  · obtain ⟨x, hx⟩ : ∃ x, nbA (n * m) = x := ⟨_, rfl⟩
    have HX := box (lg_ok (n * m) x h1 hx)
    by_cases h2 : nl (d * f) ≤ 16384
    · obtain ⟨y, hy⟩ : ∃ x, nbA (d * f) = x := ⟨_, rfl⟩
      have HY := box (lg_ok (d * f) y h2 hy)
      rw [if_pos ⟨h1, h2⟩] at hr
      have n1 : IntKind.i64.wrap (e + g) = e + g := wrap_i64_is _ (by omega) (by omega)
      have HF := box (fun w hT => formx (b != c) (n * m) (d * f) (e + g) x y rb rn rd re err u v hx hy h1 h2 d0 (by omega) (by omega) hr hu hv w hT)
      clear hs ht hp hq ln ld lm lf hT hr hu hv h1 h2 hx hy d0 he
      obtain ⟨Rx_0, Ry_0, Rz_0, B0⟩ := opn3 w (Obj.cells #[.bool b, .string s, .string t, .int .i64 e] 41) (Obj.cells #[.bool c, .string p, .string q, .int .i64 g] 41) (Obj.cells #[.bool false, .string ⟨#[]⟩, .string ⟨#[]⟩, .int .i64 0] 41)
      go_enter Tryz.func91, Tryz.ntmps91
      go_wp2_with fail
      refine (pn_mul_ok n m s p x 0 HS.out HP.out LN.out LM.out HX.out _).mono ?_
      rintro r w1 ⟨rfl, b1⟩
      have B1 : Below w.heap.size w w1 := btr B0 b1
      have Rx_1 := heap_of b1 _ _ _ Rx_0
      have Ry_1 := heap_of b1 _ _ _ Ry_0
      have Rz_1 := heap_of b1 _ _ _ Rz_0
      clear b1 B0 Rx_0 Ry_0 Rz_0
      obtain ⟨cx_1_0, cx_1_1, cx_1_2, cx_1_3⟩ := cells4s Rx_1
      obtain ⟨cy_1_0, cy_1_1, cy_1_2, cy_1_3⟩ := cells4s Ry_1
      obtain ⟨cz_1_0, cz_1_1, cz_1_2, cz_1_3⟩ := cells4s Rz_1
      go_wp2_with fail
      refine (pn_mul_ok d f t q y 0 HT.out HQ.out LD.out LF.out HY.out _).mono ?_
      rintro r w2 ⟨rfl, b2⟩
      have B2 : Below w.heap.size w w2 := btr B1 b2
      have Rx_2 := heap_of b2 _ _ _ Rx_1
      have Ry_2 := heap_of b2 _ _ _ Ry_1
      have Rz_2 := heap_of b2 _ _ _ Rz_1
      clear b2 B1 Rx_1 cx_1_0 cx_1_1 cx_1_2 cx_1_3 Ry_1 cy_1_0 cy_1_1 cy_1_2 cy_1_3 Rz_1 cz_1_0 cz_1_1 cz_1_2 cz_1_3
      obtain ⟨cx_2_0, cx_2_1, cx_2_2, cx_2_3⟩ := cells4s Rx_2
      obtain ⟨cy_2_0, cy_2_1, cy_2_2, cy_2_3⟩ := cells4s Ry_2
      obtain ⟨cz_2_0, cz_2_1, cz_2_2, cz_2_3⟩ := cells4s Rz_2
      go_wp2_with fail
      refine (HF.out _ (tabB TT.out B2)).mono ?_
      rintro r w3 ⟨rfl, b3⟩
      have B3 : Below w.heap.size w w3 := btr B2 b3
      have Rx_3 := heap_of b3 _ _ _ Rx_2
      have Ry_3 := heap_of b3 _ _ _ Ry_2
      have Rz_3 := heap_of b3 _ _ _ Rz_2
      clear b3 B2 Rx_2 cx_2_0 cx_2_1 cx_2_2 cx_2_3 Ry_2 cy_2_0 cy_2_1 cy_2_2 cy_2_3 Rz_2 cz_2_0 cz_2_1 cz_2_2 cz_2_3
      obtain ⟨cx_3_0, cx_3_1, cx_3_2, cx_3_3⟩ := cells4s Rx_3
      obtain ⟨cy_3_0, cy_3_1, cy_3_2, cy_3_3⟩ := cells4s Ry_3
      obtain ⟨cz_3_0, cz_3_1, cz_3_2, cz_3_3⟩ := cells4s Rz_3
      have q0 := fz (k := 0) Rz_3
      have q1 := fz (k := 1) Rz_3
      have q2 := fz (k := 2) Rz_3
      have q3 := fz (k := 3) Rz_3
      obtain ⟨E0, E1, E2, E3⟩ := set4_cells Rz_3 rfl (.bool rb) (.string u) (.string v) (.int .i64 re)
      go_wp2
      exact bodyPost_ret (v := .tuple #[.agg #[.bool rb, .string u, .string v, .int .i64 re], .int .i64 err]) (by simp [results, Tryz.results91, go_sem, E0, E1, E2, E3]) rfl ⟨rfl, set4_below B3 (by first | exact Nat.le_refl _ | omega) _ _ _ _⟩
    · have HY := box (lg_no (d * f) h2)
      rw [if_neg (fun h => h2 h.2)] at hr
      obtain ⟨rfl, rfl, rfl, rfl, rfl⟩ := xz_is hr
      rw [nbA_zero] at hu hv
      subst hu hv
      clear hs ht hp hq ln ld lm lf hT hr h1 h2 hx d0 he
      obtain ⟨Rx_0, Ry_0, Rz_0, B0⟩ := opn3 w (Obj.cells #[.bool b, .string s, .string t, .int .i64 e] 41) (Obj.cells #[.bool c, .string p, .string q, .int .i64 g] 41) (Obj.cells #[.bool false, .string ⟨#[]⟩, .string ⟨#[]⟩, .int .i64 0] 41)
      go_enter Tryz.func91, Tryz.ntmps91
      go_wp2_with fail
      refine (pn_mul_ok n m s p x 0 HS.out HP.out LN.out LM.out HX.out _).mono ?_
      rintro r w1 ⟨rfl, b1⟩
      have B1 : Below w.heap.size w w1 := btr B0 b1
      have Rx_1 := heap_of b1 _ _ _ Rx_0
      have Ry_1 := heap_of b1 _ _ _ Ry_0
      have Rz_1 := heap_of b1 _ _ _ Rz_0
      clear b1 B0 Rx_0 Ry_0 Rz_0
      obtain ⟨cx_1_0, cx_1_1, cx_1_2, cx_1_3⟩ := cells4s Rx_1
      obtain ⟨cy_1_0, cy_1_1, cy_1_2, cy_1_3⟩ := cells4s Ry_1
      obtain ⟨cz_1_0, cz_1_1, cz_1_2, cz_1_3⟩ := cells4s Rz_1
      go_wp2_with fail
      refine (pn_mul_ok d f t q _ 4 HT.out HQ.out LD.out LF.out HY.out _).mono ?_
      rintro r w2 ⟨rfl, b2⟩
      have B2 : Below w.heap.size w w2 := btr B1 b2
      have Rx_2 := heap_of b2 _ _ _ Rx_1
      have Ry_2 := heap_of b2 _ _ _ Ry_1
      have Rz_2 := heap_of b2 _ _ _ Rz_1
      clear b2 B1 Rx_1 cx_1_0 cx_1_1 cx_1_2 cx_1_3 Ry_1 cy_1_0 cy_1_1 cy_1_2 cy_1_3 Rz_1 cz_1_0 cz_1_1 cz_1_2 cz_1_3
      obtain ⟨cx_2_0, cx_2_1, cx_2_2, cx_2_3⟩ := cells4s Rx_2
      obtain ⟨cy_2_0, cy_2_1, cy_2_2, cy_2_3⟩ := cells4s Ry_2
      obtain ⟨cz_2_0, cz_2_1, cz_2_2, cz_2_3⟩ := cells4s Rz_2
      have q0 := fz (k := 0) Rz_2
      have q1 := fz (k := 1) Rz_2
      have q2 := fz (k := 2) Rz_2
      have q3 := fz (k := 3) Rz_2
      obtain ⟨E0, E1, E2, E3⟩ := set4_cells Rz_2 rfl (.bool false) (.string ⟨#[]⟩) (.string ⟨#[]⟩) (.int .i64 0)
      go_wp2
      exact bodyPost_ret (v := .tuple #[.agg #[.bool false, .string ⟨#[]⟩, .string ⟨#[]⟩, .int .i64 0], .int .i64 4]) (by simp [results, Tryz.results91, go_sem, E0, E1, E2, E3]) rfl ⟨rfl, set4_below B2 (by first | exact Nat.le_refl _ | omega) _ _ _ _⟩
  · have HX := box (lg_no (n * m) h1)
    rw [if_neg (fun h => h1 h.1)] at hr
    obtain ⟨rfl, rfl, rfl, rfl, rfl⟩ := xz_is hr
    rw [nbA_zero] at hu hv
    subst hu hv
    clear hs ht hp hq ln ld lm lf hT hr h1 d0 he
    obtain ⟨Rx_0, Ry_0, Rz_0, B0⟩ := opn3 w (Obj.cells #[.bool b, .string s, .string t, .int .i64 e] 41) (Obj.cells #[.bool c, .string p, .string q, .int .i64 g] 41) (Obj.cells #[.bool false, .string ⟨#[]⟩, .string ⟨#[]⟩, .int .i64 0] 41)
    go_enter Tryz.func91, Tryz.ntmps91
    go_wp2_with fail
    refine (pn_mul_ok n m s p _ 4 HS.out HP.out LN.out LM.out HX.out _).mono ?_
    rintro r w1 ⟨rfl, b1⟩
    have B1 : Below w.heap.size w w1 := btr B0 b1
    have Rx_1 := heap_of b1 _ _ _ Rx_0
    have Ry_1 := heap_of b1 _ _ _ Ry_0
    have Rz_1 := heap_of b1 _ _ _ Rz_0
    clear b1 B0 Rx_0 Ry_0 Rz_0
    obtain ⟨cx_1_0, cx_1_1, cx_1_2, cx_1_3⟩ := cells4s Rx_1
    obtain ⟨cy_1_0, cy_1_1, cy_1_2, cy_1_3⟩ := cells4s Ry_1
    obtain ⟨cz_1_0, cz_1_1, cz_1_2, cz_1_3⟩ := cells4s Rz_1
    have q0 := fz (k := 0) Rz_1
    have q1 := fz (k := 1) Rz_1
    have q2 := fz (k := 2) Rz_1
    have q3 := fz (k := 3) Rz_1
    obtain ⟨E0, E1, E2, E3⟩ := set4_cells Rz_1 rfl (.bool false) (.string ⟨#[]⟩) (.string ⟨#[]⟩) (.int .i64 0)
    go_wp2
    exact bodyPost_ret (v := .tuple #[.agg #[.bool false, .string ⟨#[]⟩, .string ⟨#[]⟩, .int .i64 0], .int .i64 4]) (by simp [results, Tryz.results91, go_sem, E0, E1, E2, E3]) rfl ⟨rfl, set4_below B1 (by first | exact Nat.le_refl _ | omega) _ _ _ _⟩

theorem prod_mul (b : Bool) (n d : Nat) (e : Int) (c : Bool) (m f : Nat) (g : Int) (h : ¬ (n = 0 ∨ m = 0)) : mulX (XN.mk b n d e) (XN.mk c m f g) = prodX b n d e c m f g := by
  unfold mulX prodX
  rw [if_neg h]
set_option maxRecDepth 100000 in
set_option maxHeartbeats 4000000 in
theorem Mulx_ok (b : Bool) (n d : Nat) (e : Int) (s t : ByteArray) (c : Bool) (m f : Nat) (g : Int) (p q : ByteArray) (rb : Bool) (rn rd : Nat) (re err : Int) (u v : ByteArray)
    (hs : nbA n = s) (ht : nbA d = t) (hp : nbA m = p) (hq : nbA f = q) (hx : (XN.mk b n d e).can) (hy : (XN.mk c m f g).can) (hr : mulX (XN.mk b n d e) (XN.mk c m f g) = (⟨rb, rn, rd, re⟩, err)) (hu : nbA rn = u) (hv : nbA rd = v) (w : World) (hT : TabAt w) :
    Calls Tryz.prog 42 #[.agg #[.bool b, .string s, .string t, .int .i64 e], .agg #[.bool c, .string p, .string q, .int .i64 g]] w fun r w' => r = .returned (.tuple #[.agg #[.bool rb, .string u, .string v, .int .i64 re], .int .i64 err]) ∧ Below w.heap.size w w' := by
  have M1 := box (may_yes hs ht hx)
  have M2 := box (may_yes hp hq hy)
  have TT := box hT
  rcases x_cases hs ht hx with ⟨n0, rfl, rfl, rfl, rfl, rfl⟩ | ⟨n0, e0⟩
  · obtain ⟨rfl, rfl, rfl, rfl, rfl⟩ := x0_is (by rw [← hr]; unfold mulX; rw [if_pos (Or.inl n0)])
    rw [nbA_zero] at hu
    rw [nb1] at hv
    subst hu hv
    clear hs ht hp hq hx hy hr hT n0
    obtain ⟨Rx_0, Ry_0, Rz_0, B0⟩ := opn3 w (Obj.cells #[.bool false, .string ⟨#[]⟩, .string ⟨#[1]⟩, .int .i64 0] 41) (Obj.cells #[.bool c, .string p, .string q, .int .i64 g] 41) (Obj.cells #[.bool false, .string ⟨#[]⟩, .string ⟨#[]⟩, .int .i64 0] 41)
    go_enter Tryz.func42, Tryz.ntmps42
    go_wp2_with fail
    refine (xmay2 _ _ _ _ _ _ _ _ true true true M1.out M2.out rfl _ (((w.alloc (Obj.cells #[.bool false, .string ⟨#[]⟩, .string ⟨#[1]⟩, .int .i64 0] 41)).alloc (Obj.cells #[.bool c, .string p, .string q, .int .i64 g] 41)).alloc (Obj.cells #[.bool false, .string ⟨#[]⟩, .string ⟨#[]⟩, .int .i64 0] 41)) _ (by simp only [size_al]) (tabB TT.out B0)).mono ?_
    rintro r w1 ⟨rfl, b1⟩
    have B1 : Below w.heap.size w w1 := btr B0 b1
    have Rx_1 := heap_of b1 _ _ _ Rx_0
    have Ry_1 := heap_of b1 _ _ _ Ry_0
    have Rz_1 := heap_of b1 _ _ _ Rz_0
    clear b1 B0 Rx_0 Ry_0 Rz_0
    obtain ⟨cx_1_0, cx_1_1, cx_1_2, cx_1_3⟩ := cells4s Rx_1
    obtain ⟨cy_1_0, cy_1_1, cy_1_2, cy_1_3⟩ := cells4s Ry_1
    obtain ⟨cz_1_0, cz_1_1, cz_1_2, cz_1_3⟩ := cells4s Rz_1
    go_wp2_with fail
    obtain ⟨F, hF1, hF2⟩ := below_fun w1
    have fx_0 := fun u => cells4 (heap_of (hF1 u) _ _ _ Rx_1) 0 _ rfl
    have fx_1 := fun u => cells4 (heap_of (hF1 u) _ _ _ Rx_1) 1 _ rfl
    have fx_2 := fun u => cells4 (heap_of (hF1 u) _ _ _ Rx_1) 2 _ rfl
    have fx_3 := fun u => cells4 (heap_of (hF1 u) _ _ _ Rx_1) 3 _ rfl
    have fy_0 := fun u => cells4 (heap_of (hF1 u) _ _ _ Ry_1) 0 _ rfl
    have fy_1 := fun u => cells4 (heap_of (hF1 u) _ _ _ Ry_1) 1 _ rfl
    have fy_2 := fun u => cells4 (heap_of (hF1 u) _ _ _ Ry_1) 2 _ rfl
    have fy_3 := fun u => cells4 (heap_of (hF1 u) _ _ _ Ry_1) 3 _ rfl
    have fz_0 := fun u => cells4 (heap_of (hF1 u) _ _ _ Rz_1) 0 _ rfl
    have fz_1 := fun u => cells4 (heap_of (hF1 u) _ _ _ Rz_1) 1 _ rfl
    have fz_2 := fun u => cells4 (heap_of (hF1 u) _ _ _ Rz_1) 2 _ rfl
    have fz_3 := fun u => cells4 (heap_of (hF1 u) _ _ _ Rz_1) 3 _ rfl
    refine wp_region_below F hF2 (by kernel_rfl) (by kernel_rfl) ?_
    repeat first | go_big_quiet_step (first | (go_at_call 90; exact quietF hF1 hF2 (zerox _)) | fail) | quiet_step (first | (go_at_call 90; exact quietF hF1 hF2 (zerox _)) | fail)
    refine wpQuiet_nil ?_
    rintro _ ⟨uW, rfl⟩
    have B2 := btr B1 (hF1 uW)
    have Rx_2 := heap_of (hF1 uW) _ _ _ Rx_1
    have Ry_2 := heap_of (hF1 uW) _ _ _ Ry_1
    have Rz_2 := heap_of (hF1 uW) _ _ _ Rz_1
    obtain ⟨w2, hw⟩ : ∃ V, F uW = V := ⟨_, rfl⟩
    rw [hw] at B2 Rx_2 Ry_2 Rz_2
    try rw [hw]
    clear hw hF1 hF2 B1 fx_0 fx_1 fx_2 fx_3 fy_0 fy_1 fy_2 fy_3 fz_0 fz_1 fz_2 fz_3 Rx_1 cx_1_0 cx_1_1 cx_1_2 cx_1_3 Ry_1 cy_1_0 cy_1_1 cy_1_2 cy_1_3 Rz_1 cz_1_0 cz_1_1 cz_1_2 cz_1_3
    clear F
    obtain ⟨cx_2_0, cx_2_1, cx_2_2, cx_2_3⟩ := cells4s Rx_2
    obtain ⟨cy_2_0, cy_2_1, cy_2_2, cy_2_3⟩ := cells4s Ry_2
    obtain ⟨cz_2_0, cz_2_1, cz_2_2, cz_2_3⟩ := cells4s Rz_2
    go_wp2_with fail
    refine (zerox _).mono ?_
    rintro r w3 ⟨rfl, b3⟩
    have B3 : Below w.heap.size w w3 := btr B2 b3
    have Rx_3 := heap_of b3 _ _ _ Rx_2
    have Ry_3 := heap_of b3 _ _ _ Ry_2
    have Rz_3 := heap_of b3 _ _ _ Rz_2
    clear b3 B2 Rx_2 cx_2_0 cx_2_1 cx_2_2 cx_2_3 Ry_2 cy_2_0 cy_2_1 cy_2_2 cy_2_3 Rz_2 cz_2_0 cz_2_1 cz_2_2 cz_2_3
    obtain ⟨cx_3_0, cx_3_1, cx_3_2, cx_3_3⟩ := cells4s Rx_3
    obtain ⟨cy_3_0, cy_3_1, cy_3_2, cy_3_3⟩ := cells4s Ry_3
    obtain ⟨cz_3_0, cz_3_1, cz_3_2, cz_3_3⟩ := cells4s Rz_3
    have q0 := fz (k := 0) Rz_3
    have q1 := fz (k := 1) Rz_3
    have q2 := fz (k := 2) Rz_3
    have q3 := fz (k := 3) Rz_3
    obtain ⟨E0, E1, E2, E3⟩ := set4_cells Rz_3 rfl (.bool false) (.string ⟨#[]⟩) (.string ⟨#[1]⟩) (.int .i64 0)
    go_wp2
    exact bodyPost_ret (v := .tuple #[.agg #[.bool false, .string ⟨#[]⟩, .string ⟨#[1]⟩, .int .i64 0], .int .i64 0]) (by simp [results, Tryz.results42, go_sem, E0, E1, E2, E3]) rfl ⟨rfl, set4_below B3 (by first | exact Nat.le_refl _ | omega) _ _ _ _⟩
  · rcases x_cases hp hq hy with ⟨m0, rfl, rfl, rfl, rfl, rfl⟩ | ⟨m0, e1⟩
    · obtain ⟨rfl, rfl, rfl, rfl, rfl⟩ := x0_is (by rw [← hr]; unfold mulX; rw [if_pos (Or.inr m0)])
      rw [nbA_zero] at hu
      rw [nb1] at hv
      subst hu hv
      clear hs ht hp hq hx hy hr hT n0 m0
      cases b
      · obtain ⟨Rx_0, Ry_0, Rz_0, B0⟩ := opn3 w (Obj.cells #[.bool false, .string s, .string t, .int .i64 e] 41) (Obj.cells #[.bool false, .string ⟨#[]⟩, .string ⟨#[1]⟩, .int .i64 0] 41) (Obj.cells #[.bool false, .string ⟨#[]⟩, .string ⟨#[]⟩, .int .i64 0] 41)
        go_enter Tryz.func42, Tryz.ntmps42
        go_wp2_with fail
        refine (xmay2 _ _ _ _ _ _ _ _ true true true M1.out M2.out rfl _ (((w.alloc (Obj.cells #[.bool false, .string s, .string t, .int .i64 e] 41)).alloc (Obj.cells #[.bool false, .string ⟨#[]⟩, .string ⟨#[1]⟩, .int .i64 0] 41)).alloc (Obj.cells #[.bool false, .string ⟨#[]⟩, .string ⟨#[]⟩, .int .i64 0] 41)) _ (by simp only [size_al]) (tabB TT.out B0)).mono ?_
        rintro r w1 ⟨rfl, b1⟩
        have B1 : Below w.heap.size w w1 := btr B0 b1
        have Rx_1 := heap_of b1 _ _ _ Rx_0
        have Ry_1 := heap_of b1 _ _ _ Ry_0
        have Rz_1 := heap_of b1 _ _ _ Rz_0
        clear b1 B0 Rx_0 Ry_0 Rz_0
        obtain ⟨cx_1_0, cx_1_1, cx_1_2, cx_1_3⟩ := cells4s Rx_1
        obtain ⟨cy_1_0, cy_1_1, cy_1_2, cy_1_3⟩ := cells4s Ry_1
        obtain ⟨cz_1_0, cz_1_1, cz_1_2, cz_1_3⟩ := cells4s Rz_1
        go_wp2_with fail
        obtain ⟨F, hF1, hF2⟩ := below_fun w1
        have fx_0 := fun u => cells4 (heap_of (hF1 u) _ _ _ Rx_1) 0 _ rfl
        have fx_1 := fun u => cells4 (heap_of (hF1 u) _ _ _ Rx_1) 1 _ rfl
        have fx_2 := fun u => cells4 (heap_of (hF1 u) _ _ _ Rx_1) 2 _ rfl
        have fx_3 := fun u => cells4 (heap_of (hF1 u) _ _ _ Rx_1) 3 _ rfl
        have fy_0 := fun u => cells4 (heap_of (hF1 u) _ _ _ Ry_1) 0 _ rfl
        have fy_1 := fun u => cells4 (heap_of (hF1 u) _ _ _ Ry_1) 1 _ rfl
        have fy_2 := fun u => cells4 (heap_of (hF1 u) _ _ _ Ry_1) 2 _ rfl
        have fy_3 := fun u => cells4 (heap_of (hF1 u) _ _ _ Ry_1) 3 _ rfl
        have fz_0 := fun u => cells4 (heap_of (hF1 u) _ _ _ Rz_1) 0 _ rfl
        have fz_1 := fun u => cells4 (heap_of (hF1 u) _ _ _ Rz_1) 1 _ rfl
        have fz_2 := fun u => cells4 (heap_of (hF1 u) _ _ _ Rz_1) 2 _ rfl
        have fz_3 := fun u => cells4 (heap_of (hF1 u) _ _ _ Rz_1) 3 _ rfl
        refine wp_region_below F hF2 (by kernel_rfl) (by kernel_rfl) ?_
        repeat first | go_big_quiet_step (first | (go_at_call 90; exact quietF hF1 hF2 (zerox _)) | fail) | quiet_step (first | (go_at_call 90; exact quietF hF1 hF2 (zerox _)) | fail)
        refine wpQuiet_nil ?_
        rintro _ ⟨uW, rfl⟩
        have B2 := btr B1 (hF1 uW)
        have Rx_2 := heap_of (hF1 uW) _ _ _ Rx_1
        have Ry_2 := heap_of (hF1 uW) _ _ _ Ry_1
        have Rz_2 := heap_of (hF1 uW) _ _ _ Rz_1
        obtain ⟨w2, hw⟩ : ∃ V, F uW = V := ⟨_, rfl⟩
        rw [hw] at B2 Rx_2 Ry_2 Rz_2
        try rw [hw]
        clear hw hF1 hF2 B1 fx_0 fx_1 fx_2 fx_3 fy_0 fy_1 fy_2 fy_3 fz_0 fz_1 fz_2 fz_3 Rx_1 cx_1_0 cx_1_1 cx_1_2 cx_1_3 Ry_1 cy_1_0 cy_1_1 cy_1_2 cy_1_3 Rz_1 cz_1_0 cz_1_1 cz_1_2 cz_1_3
        clear F
        obtain ⟨cx_2_0, cx_2_1, cx_2_2, cx_2_3⟩ := cells4s Rx_2
        obtain ⟨cy_2_0, cy_2_1, cy_2_2, cy_2_3⟩ := cells4s Ry_2
        obtain ⟨cz_2_0, cz_2_1, cz_2_2, cz_2_3⟩ := cells4s Rz_2
        go_wp2_with fail
        refine (zerox _).mono ?_
        rintro r w3 ⟨rfl, b3⟩
        have B3 : Below w.heap.size w w3 := btr B2 b3
        have Rx_3 := heap_of b3 _ _ _ Rx_2
        have Ry_3 := heap_of b3 _ _ _ Ry_2
        have Rz_3 := heap_of b3 _ _ _ Rz_2
        clear b3 B2 Rx_2 cx_2_0 cx_2_1 cx_2_2 cx_2_3 Ry_2 cy_2_0 cy_2_1 cy_2_2 cy_2_3 Rz_2 cz_2_0 cz_2_1 cz_2_2 cz_2_3
        obtain ⟨cx_3_0, cx_3_1, cx_3_2, cx_3_3⟩ := cells4s Rx_3
        obtain ⟨cy_3_0, cy_3_1, cy_3_2, cy_3_3⟩ := cells4s Ry_3
        obtain ⟨cz_3_0, cz_3_1, cz_3_2, cz_3_3⟩ := cells4s Rz_3
        have q0 := fz (k := 0) Rz_3
        have q1 := fz (k := 1) Rz_3
        have q2 := fz (k := 2) Rz_3
        have q3 := fz (k := 3) Rz_3
        obtain ⟨E0, E1, E2, E3⟩ := set4_cells Rz_3 rfl (.bool false) (.string ⟨#[]⟩) (.string ⟨#[1]⟩) (.int .i64 0)
        go_wp2
        exact bodyPost_ret (v := .tuple #[.agg #[.bool false, .string ⟨#[]⟩, .string ⟨#[1]⟩, .int .i64 0], .int .i64 0]) (by simp [results, Tryz.results42, go_sem, E0, E1, E2, E3]) rfl ⟨rfl, set4_below B3 (by first | exact Nat.le_refl _ | omega) _ _ _ _⟩
      · obtain ⟨Rx_0, Ry_0, Rz_0, B0⟩ := opn3 w (Obj.cells #[.bool true, .string s, .string t, .int .i64 e] 41) (Obj.cells #[.bool false, .string ⟨#[]⟩, .string ⟨#[1]⟩, .int .i64 0] 41) (Obj.cells #[.bool false, .string ⟨#[]⟩, .string ⟨#[]⟩, .int .i64 0] 41)
        go_enter Tryz.func42, Tryz.ntmps42
        go_wp2_with fail
        refine (xmay2 _ _ _ _ _ _ _ _ true true true M1.out M2.out rfl _ (((w.alloc (Obj.cells #[.bool true, .string s, .string t, .int .i64 e] 41)).alloc (Obj.cells #[.bool false, .string ⟨#[]⟩, .string ⟨#[1]⟩, .int .i64 0] 41)).alloc (Obj.cells #[.bool false, .string ⟨#[]⟩, .string ⟨#[]⟩, .int .i64 0] 41)) _ (by simp only [size_al]) (tabB TT.out B0)).mono ?_
        rintro r w1 ⟨rfl, b1⟩
        have B1 : Below w.heap.size w w1 := btr B0 b1
        have Rx_1 := heap_of b1 _ _ _ Rx_0
        have Ry_1 := heap_of b1 _ _ _ Ry_0
        have Rz_1 := heap_of b1 _ _ _ Rz_0
        clear b1 B0 Rx_0 Ry_0 Rz_0
        obtain ⟨cx_1_0, cx_1_1, cx_1_2, cx_1_3⟩ := cells4s Rx_1
        obtain ⟨cy_1_0, cy_1_1, cy_1_2, cy_1_3⟩ := cells4s Ry_1
        obtain ⟨cz_1_0, cz_1_1, cz_1_2, cz_1_3⟩ := cells4s Rz_1
        go_wp2_with fail
        obtain ⟨F, hF1, hF2⟩ := below_fun w1
        have fx_0 := fun u => cells4 (heap_of (hF1 u) _ _ _ Rx_1) 0 _ rfl
        have fx_1 := fun u => cells4 (heap_of (hF1 u) _ _ _ Rx_1) 1 _ rfl
        have fx_2 := fun u => cells4 (heap_of (hF1 u) _ _ _ Rx_1) 2 _ rfl
        have fx_3 := fun u => cells4 (heap_of (hF1 u) _ _ _ Rx_1) 3 _ rfl
        have fy_0 := fun u => cells4 (heap_of (hF1 u) _ _ _ Ry_1) 0 _ rfl
        have fy_1 := fun u => cells4 (heap_of (hF1 u) _ _ _ Ry_1) 1 _ rfl
        have fy_2 := fun u => cells4 (heap_of (hF1 u) _ _ _ Ry_1) 2 _ rfl
        have fy_3 := fun u => cells4 (heap_of (hF1 u) _ _ _ Ry_1) 3 _ rfl
        have fz_0 := fun u => cells4 (heap_of (hF1 u) _ _ _ Rz_1) 0 _ rfl
        have fz_1 := fun u => cells4 (heap_of (hF1 u) _ _ _ Rz_1) 1 _ rfl
        have fz_2 := fun u => cells4 (heap_of (hF1 u) _ _ _ Rz_1) 2 _ rfl
        have fz_3 := fun u => cells4 (heap_of (hF1 u) _ _ _ Rz_1) 3 _ rfl
        refine wp_region_below F hF2 (by kernel_rfl) (by kernel_rfl) ?_
        repeat first | go_big_quiet_step (first | (go_at_call 90; exact quietF hF1 hF2 (zerox _)) | fail) | quiet_step (first | (go_at_call 90; exact quietF hF1 hF2 (zerox _)) | fail)
        refine wpQuiet_nil ?_
        rintro _ ⟨uW, rfl⟩
        have B2 := btr B1 (hF1 uW)
        have Rx_2 := heap_of (hF1 uW) _ _ _ Rx_1
        have Ry_2 := heap_of (hF1 uW) _ _ _ Ry_1
        have Rz_2 := heap_of (hF1 uW) _ _ _ Rz_1
        obtain ⟨w2, hw⟩ : ∃ V, F uW = V := ⟨_, rfl⟩
        rw [hw] at B2 Rx_2 Ry_2 Rz_2
        try rw [hw]
        clear hw hF1 hF2 B1 fx_0 fx_1 fx_2 fx_3 fy_0 fy_1 fy_2 fy_3 fz_0 fz_1 fz_2 fz_3 Rx_1 cx_1_0 cx_1_1 cx_1_2 cx_1_3 Ry_1 cy_1_0 cy_1_1 cy_1_2 cy_1_3 Rz_1 cz_1_0 cz_1_1 cz_1_2 cz_1_3
        clear F
        obtain ⟨cx_2_0, cx_2_1, cx_2_2, cx_2_3⟩ := cells4s Rx_2
        obtain ⟨cy_2_0, cy_2_1, cy_2_2, cy_2_3⟩ := cells4s Ry_2
        obtain ⟨cz_2_0, cz_2_1, cz_2_2, cz_2_3⟩ := cells4s Rz_2
        go_wp2_with fail
        refine (zerox _).mono ?_
        rintro r w3 ⟨rfl, b3⟩
        have B3 : Below w.heap.size w w3 := btr B2 b3
        have Rx_3 := heap_of b3 _ _ _ Rx_2
        have Ry_3 := heap_of b3 _ _ _ Ry_2
        have Rz_3 := heap_of b3 _ _ _ Rz_2
        clear b3 B2 Rx_2 cx_2_0 cx_2_1 cx_2_2 cx_2_3 Ry_2 cy_2_0 cy_2_1 cy_2_2 cy_2_3 Rz_2 cz_2_0 cz_2_1 cz_2_2 cz_2_3
        obtain ⟨cx_3_0, cx_3_1, cx_3_2, cx_3_3⟩ := cells4s Rx_3
        obtain ⟨cy_3_0, cy_3_1, cy_3_2, cy_3_3⟩ := cells4s Ry_3
        obtain ⟨cz_3_0, cz_3_1, cz_3_2, cz_3_3⟩ := cells4s Rz_3
        have q0 := fz (k := 0) Rz_3
        have q1 := fz (k := 1) Rz_3
        have q2 := fz (k := 2) Rz_3
        have q3 := fz (k := 3) Rz_3
        obtain ⟨E0, E1, E2, E3⟩ := set4_cells Rz_3 rfl (.bool false) (.string ⟨#[]⟩) (.string ⟨#[1]⟩) (.int .i64 0)
        go_wp2
        exact bodyPost_ret (v := .tuple #[.agg #[.bool false, .string ⟨#[]⟩, .string ⟨#[1]⟩, .int .i64 0], .int .i64 0]) (by simp [results, Tryz.results42, go_sem, E0, E1, E2, E3]) rfl ⟨rfl, set4_below B3 (by first | exact Nat.le_refl _ | omega) _ _ _ _⟩
    · rw [prod_mul b n d e c m f g (by omega)] at hr
      obtain ⟨a1, a2, a3, a4, a5⟩ := hx
      obtain ⟨z1, z2, z3, z4, z5⟩ := hy
      have df : d * f ≠ 0 := by
        have k1 := M1.out.1 rfl
        have k2 := M2.out.1 rfl
        rw [mayX_iff b n d s t e hs ht] at k1
        rw [mayX_iff c m f p q g hp hq] at k2
        exact mul_ne k1.d0 k2.d0
      have HF := box (fun w hT => productx b n d e s t c m f g p q rb rn rd re err u v hs ht hp hq a1 a2 z1 z2 df ⟨by have : -1048576 ≤ e := a3; omega, by have : e ≤ 1048576 := a4; omega, by have : -1048576 ≤ g := z3; omega, by have : g ≤ 1048576 := z4; omega⟩ hr hu hv w hT)
      clear hs ht hp hq a1 a2 a3 a4 a5 z1 z2 z3 z4 z5 df hr hu hv hT n0 m0
      cases b
      all_goals cases c
      · obtain ⟨Rx_0, Ry_0, Rz_0, B0⟩ := opn3 w (Obj.cells #[.bool false, .string s, .string t, .int .i64 e] 41) (Obj.cells #[.bool false, .string p, .string q, .int .i64 g] 41) (Obj.cells #[.bool false, .string ⟨#[]⟩, .string ⟨#[]⟩, .int .i64 0] 41)
        go_enter Tryz.func42, Tryz.ntmps42
        go_wp2_with fail
        refine (xmay2 _ _ _ _ _ _ _ _ true true true M1.out M2.out rfl _ (((w.alloc (Obj.cells #[.bool false, .string s, .string t, .int .i64 e] 41)).alloc (Obj.cells #[.bool false, .string p, .string q, .int .i64 g] 41)).alloc (Obj.cells #[.bool false, .string ⟨#[]⟩, .string ⟨#[]⟩, .int .i64 0] 41)) _ (by simp only [size_al]) (tabB TT.out B0)).mono ?_
        rintro r w1 ⟨rfl, b1⟩
        have B1 : Below w.heap.size w w1 := btr B0 b1
        have Rx_1 := heap_of b1 _ _ _ Rx_0
        have Ry_1 := heap_of b1 _ _ _ Ry_0
        have Rz_1 := heap_of b1 _ _ _ Rz_0
        clear b1 B0 Rx_0 Ry_0 Rz_0
        obtain ⟨cx_1_0, cx_1_1, cx_1_2, cx_1_3⟩ := cells4s Rx_1
        obtain ⟨cy_1_0, cy_1_1, cy_1_2, cy_1_3⟩ := cells4s Ry_1
        obtain ⟨cz_1_0, cz_1_1, cz_1_2, cz_1_3⟩ := cells4s Rz_1
        go_wp2_with fail
        obtain ⟨F, hF1, hF2⟩ := below_fun w1
        have fx_0 := fun u => cells4 (heap_of (hF1 u) _ _ _ Rx_1) 0 _ rfl
        have fx_1 := fun u => cells4 (heap_of (hF1 u) _ _ _ Rx_1) 1 _ rfl
        have fx_2 := fun u => cells4 (heap_of (hF1 u) _ _ _ Rx_1) 2 _ rfl
        have fx_3 := fun u => cells4 (heap_of (hF1 u) _ _ _ Rx_1) 3 _ rfl
        have fy_0 := fun u => cells4 (heap_of (hF1 u) _ _ _ Ry_1) 0 _ rfl
        have fy_1 := fun u => cells4 (heap_of (hF1 u) _ _ _ Ry_1) 1 _ rfl
        have fy_2 := fun u => cells4 (heap_of (hF1 u) _ _ _ Ry_1) 2 _ rfl
        have fy_3 := fun u => cells4 (heap_of (hF1 u) _ _ _ Ry_1) 3 _ rfl
        have fz_0 := fun u => cells4 (heap_of (hF1 u) _ _ _ Rz_1) 0 _ rfl
        have fz_1 := fun u => cells4 (heap_of (hF1 u) _ _ _ Rz_1) 1 _ rfl
        have fz_2 := fun u => cells4 (heap_of (hF1 u) _ _ _ Rz_1) 2 _ rfl
        have fz_3 := fun u => cells4 (heap_of (hF1 u) _ _ _ Rz_1) 3 _ rfl
        refine wp_region_below F hF2 (by kernel_rfl) (by kernel_rfl) ?_
        repeat first | go_big_quiet_step (first | (go_at_call 90; exact quietF hF1 hF2 (zerox _)) | fail) | quiet_step (first | (go_at_call 90; exact quietF hF1 hF2 (zerox _)) | fail)
        refine wpQuiet_nil ?_
        rintro _ ⟨uW, rfl⟩
        have B2 := btr B1 (hF1 uW)
        have Rx_2 := heap_of (hF1 uW) _ _ _ Rx_1
        have Ry_2 := heap_of (hF1 uW) _ _ _ Ry_1
        have Rz_2 := heap_of (hF1 uW) _ _ _ Rz_1
        obtain ⟨w2, hw⟩ : ∃ V, F uW = V := ⟨_, rfl⟩
        rw [hw] at B2 Rx_2 Ry_2 Rz_2
        try rw [hw]
        clear hw hF1 hF2 B1 fx_0 fx_1 fx_2 fx_3 fy_0 fy_1 fy_2 fy_3 fz_0 fz_1 fz_2 fz_3 Rx_1 cx_1_0 cx_1_1 cx_1_2 cx_1_3 Ry_1 cy_1_0 cy_1_1 cy_1_2 cy_1_3 Rz_1 cz_1_0 cz_1_1 cz_1_2 cz_1_3
        clear F
        obtain ⟨cx_2_0, cx_2_1, cx_2_2, cx_2_3⟩ := cells4s Rx_2
        obtain ⟨cy_2_0, cy_2_1, cy_2_2, cy_2_3⟩ := cells4s Ry_2
        obtain ⟨cz_2_0, cz_2_1, cz_2_2, cz_2_3⟩ := cells4s Rz_2
        go_wp2_with fail
        refine (HF.out _ (tabB TT.out B2)).mono ?_
        rintro r w3 ⟨rfl, b3⟩
        have B3 : Below w.heap.size w w3 := btr B2 b3
        have Rx_3 := heap_of b3 _ _ _ Rx_2
        have Ry_3 := heap_of b3 _ _ _ Ry_2
        have Rz_3 := heap_of b3 _ _ _ Rz_2
        clear b3 B2 Rx_2 cx_2_0 cx_2_1 cx_2_2 cx_2_3 Ry_2 cy_2_0 cy_2_1 cy_2_2 cy_2_3 Rz_2 cz_2_0 cz_2_1 cz_2_2 cz_2_3
        obtain ⟨cx_3_0, cx_3_1, cx_3_2, cx_3_3⟩ := cells4s Rx_3
        obtain ⟨cy_3_0, cy_3_1, cy_3_2, cy_3_3⟩ := cells4s Ry_3
        obtain ⟨cz_3_0, cz_3_1, cz_3_2, cz_3_3⟩ := cells4s Rz_3
        have q0 := fz (k := 0) Rz_3
        have q1 := fz (k := 1) Rz_3
        have q2 := fz (k := 2) Rz_3
        have q3 := fz (k := 3) Rz_3
        obtain ⟨E0, E1, E2, E3⟩ := set4_cells Rz_3 rfl (.bool rb) (.string u) (.string v) (.int .i64 re)
        go_wp2
        exact bodyPost_ret (v := .tuple #[.agg #[.bool rb, .string u, .string v, .int .i64 re], .int .i64 err]) (by simp [results, Tryz.results42, go_sem, E0, E1, E2, E3]) rfl ⟨rfl, set4_below B3 (by first | exact Nat.le_refl _ | omega) _ _ _ _⟩
      · obtain ⟨Rx_0, Ry_0, Rz_0, B0⟩ := opn3 w (Obj.cells #[.bool false, .string s, .string t, .int .i64 e] 41) (Obj.cells #[.bool true, .string p, .string q, .int .i64 g] 41) (Obj.cells #[.bool false, .string ⟨#[]⟩, .string ⟨#[]⟩, .int .i64 0] 41)
        go_enter Tryz.func42, Tryz.ntmps42
        go_wp2_with fail
        refine (xmay2 _ _ _ _ _ _ _ _ true true true M1.out M2.out rfl _ (((w.alloc (Obj.cells #[.bool false, .string s, .string t, .int .i64 e] 41)).alloc (Obj.cells #[.bool true, .string p, .string q, .int .i64 g] 41)).alloc (Obj.cells #[.bool false, .string ⟨#[]⟩, .string ⟨#[]⟩, .int .i64 0] 41)) _ (by simp only [size_al]) (tabB TT.out B0)).mono ?_
        rintro r w1 ⟨rfl, b1⟩
        have B1 : Below w.heap.size w w1 := btr B0 b1
        have Rx_1 := heap_of b1 _ _ _ Rx_0
        have Ry_1 := heap_of b1 _ _ _ Ry_0
        have Rz_1 := heap_of b1 _ _ _ Rz_0
        clear b1 B0 Rx_0 Ry_0 Rz_0
        obtain ⟨cx_1_0, cx_1_1, cx_1_2, cx_1_3⟩ := cells4s Rx_1
        obtain ⟨cy_1_0, cy_1_1, cy_1_2, cy_1_3⟩ := cells4s Ry_1
        obtain ⟨cz_1_0, cz_1_1, cz_1_2, cz_1_3⟩ := cells4s Rz_1
        go_wp2_with fail
        obtain ⟨F, hF1, hF2⟩ := below_fun w1
        have fx_0 := fun u => cells4 (heap_of (hF1 u) _ _ _ Rx_1) 0 _ rfl
        have fx_1 := fun u => cells4 (heap_of (hF1 u) _ _ _ Rx_1) 1 _ rfl
        have fx_2 := fun u => cells4 (heap_of (hF1 u) _ _ _ Rx_1) 2 _ rfl
        have fx_3 := fun u => cells4 (heap_of (hF1 u) _ _ _ Rx_1) 3 _ rfl
        have fy_0 := fun u => cells4 (heap_of (hF1 u) _ _ _ Ry_1) 0 _ rfl
        have fy_1 := fun u => cells4 (heap_of (hF1 u) _ _ _ Ry_1) 1 _ rfl
        have fy_2 := fun u => cells4 (heap_of (hF1 u) _ _ _ Ry_1) 2 _ rfl
        have fy_3 := fun u => cells4 (heap_of (hF1 u) _ _ _ Ry_1) 3 _ rfl
        have fz_0 := fun u => cells4 (heap_of (hF1 u) _ _ _ Rz_1) 0 _ rfl
        have fz_1 := fun u => cells4 (heap_of (hF1 u) _ _ _ Rz_1) 1 _ rfl
        have fz_2 := fun u => cells4 (heap_of (hF1 u) _ _ _ Rz_1) 2 _ rfl
        have fz_3 := fun u => cells4 (heap_of (hF1 u) _ _ _ Rz_1) 3 _ rfl
        refine wp_region_below F hF2 (by kernel_rfl) (by kernel_rfl) ?_
        repeat first | go_big_quiet_step (first | (go_at_call 90; exact quietF hF1 hF2 (zerox _)) | fail) | quiet_step (first | (go_at_call 90; exact quietF hF1 hF2 (zerox _)) | fail)
        refine wpQuiet_nil ?_
        rintro _ ⟨uW, rfl⟩
        have B2 := btr B1 (hF1 uW)
        have Rx_2 := heap_of (hF1 uW) _ _ _ Rx_1
        have Ry_2 := heap_of (hF1 uW) _ _ _ Ry_1
        have Rz_2 := heap_of (hF1 uW) _ _ _ Rz_1
        obtain ⟨w2, hw⟩ : ∃ V, F uW = V := ⟨_, rfl⟩
        rw [hw] at B2 Rx_2 Ry_2 Rz_2
        try rw [hw]
        clear hw hF1 hF2 B1 fx_0 fx_1 fx_2 fx_3 fy_0 fy_1 fy_2 fy_3 fz_0 fz_1 fz_2 fz_3 Rx_1 cx_1_0 cx_1_1 cx_1_2 cx_1_3 Ry_1 cy_1_0 cy_1_1 cy_1_2 cy_1_3 Rz_1 cz_1_0 cz_1_1 cz_1_2 cz_1_3
        clear F
        obtain ⟨cx_2_0, cx_2_1, cx_2_2, cx_2_3⟩ := cells4s Rx_2
        obtain ⟨cy_2_0, cy_2_1, cy_2_2, cy_2_3⟩ := cells4s Ry_2
        obtain ⟨cz_2_0, cz_2_1, cz_2_2, cz_2_3⟩ := cells4s Rz_2
        go_wp2_with fail
        refine (HF.out _ (tabB TT.out B2)).mono ?_
        rintro r w3 ⟨rfl, b3⟩
        have B3 : Below w.heap.size w w3 := btr B2 b3
        have Rx_3 := heap_of b3 _ _ _ Rx_2
        have Ry_3 := heap_of b3 _ _ _ Ry_2
        have Rz_3 := heap_of b3 _ _ _ Rz_2
        clear b3 B2 Rx_2 cx_2_0 cx_2_1 cx_2_2 cx_2_3 Ry_2 cy_2_0 cy_2_1 cy_2_2 cy_2_3 Rz_2 cz_2_0 cz_2_1 cz_2_2 cz_2_3
        obtain ⟨cx_3_0, cx_3_1, cx_3_2, cx_3_3⟩ := cells4s Rx_3
        obtain ⟨cy_3_0, cy_3_1, cy_3_2, cy_3_3⟩ := cells4s Ry_3
        obtain ⟨cz_3_0, cz_3_1, cz_3_2, cz_3_3⟩ := cells4s Rz_3
        have q0 := fz (k := 0) Rz_3
        have q1 := fz (k := 1) Rz_3
        have q2 := fz (k := 2) Rz_3
        have q3 := fz (k := 3) Rz_3
        obtain ⟨E0, E1, E2, E3⟩ := set4_cells Rz_3 rfl (.bool rb) (.string u) (.string v) (.int .i64 re)
        go_wp2
        exact bodyPost_ret (v := .tuple #[.agg #[.bool rb, .string u, .string v, .int .i64 re], .int .i64 err]) (by simp [results, Tryz.results42, go_sem, E0, E1, E2, E3]) rfl ⟨rfl, set4_below B3 (by first | exact Nat.le_refl _ | omega) _ _ _ _⟩
      · obtain ⟨Rx_0, Ry_0, Rz_0, B0⟩ := opn3 w (Obj.cells #[.bool true, .string s, .string t, .int .i64 e] 41) (Obj.cells #[.bool false, .string p, .string q, .int .i64 g] 41) (Obj.cells #[.bool false, .string ⟨#[]⟩, .string ⟨#[]⟩, .int .i64 0] 41)
        go_enter Tryz.func42, Tryz.ntmps42
        go_wp2_with fail
        refine (xmay2 _ _ _ _ _ _ _ _ true true true M1.out M2.out rfl _ (((w.alloc (Obj.cells #[.bool true, .string s, .string t, .int .i64 e] 41)).alloc (Obj.cells #[.bool false, .string p, .string q, .int .i64 g] 41)).alloc (Obj.cells #[.bool false, .string ⟨#[]⟩, .string ⟨#[]⟩, .int .i64 0] 41)) _ (by simp only [size_al]) (tabB TT.out B0)).mono ?_
        rintro r w1 ⟨rfl, b1⟩
        have B1 : Below w.heap.size w w1 := btr B0 b1
        have Rx_1 := heap_of b1 _ _ _ Rx_0
        have Ry_1 := heap_of b1 _ _ _ Ry_0
        have Rz_1 := heap_of b1 _ _ _ Rz_0
        clear b1 B0 Rx_0 Ry_0 Rz_0
        obtain ⟨cx_1_0, cx_1_1, cx_1_2, cx_1_3⟩ := cells4s Rx_1
        obtain ⟨cy_1_0, cy_1_1, cy_1_2, cy_1_3⟩ := cells4s Ry_1
        obtain ⟨cz_1_0, cz_1_1, cz_1_2, cz_1_3⟩ := cells4s Rz_1
        go_wp2_with fail
        obtain ⟨F, hF1, hF2⟩ := below_fun w1
        have fx_0 := fun u => cells4 (heap_of (hF1 u) _ _ _ Rx_1) 0 _ rfl
        have fx_1 := fun u => cells4 (heap_of (hF1 u) _ _ _ Rx_1) 1 _ rfl
        have fx_2 := fun u => cells4 (heap_of (hF1 u) _ _ _ Rx_1) 2 _ rfl
        have fx_3 := fun u => cells4 (heap_of (hF1 u) _ _ _ Rx_1) 3 _ rfl
        have fy_0 := fun u => cells4 (heap_of (hF1 u) _ _ _ Ry_1) 0 _ rfl
        have fy_1 := fun u => cells4 (heap_of (hF1 u) _ _ _ Ry_1) 1 _ rfl
        have fy_2 := fun u => cells4 (heap_of (hF1 u) _ _ _ Ry_1) 2 _ rfl
        have fy_3 := fun u => cells4 (heap_of (hF1 u) _ _ _ Ry_1) 3 _ rfl
        have fz_0 := fun u => cells4 (heap_of (hF1 u) _ _ _ Rz_1) 0 _ rfl
        have fz_1 := fun u => cells4 (heap_of (hF1 u) _ _ _ Rz_1) 1 _ rfl
        have fz_2 := fun u => cells4 (heap_of (hF1 u) _ _ _ Rz_1) 2 _ rfl
        have fz_3 := fun u => cells4 (heap_of (hF1 u) _ _ _ Rz_1) 3 _ rfl
        refine wp_region_below F hF2 (by kernel_rfl) (by kernel_rfl) ?_
        repeat first | go_big_quiet_step (first | (go_at_call 90; exact quietF hF1 hF2 (zerox _)) | fail) | quiet_step (first | (go_at_call 90; exact quietF hF1 hF2 (zerox _)) | fail)
        refine wpQuiet_nil ?_
        rintro _ ⟨uW, rfl⟩
        have B2 := btr B1 (hF1 uW)
        have Rx_2 := heap_of (hF1 uW) _ _ _ Rx_1
        have Ry_2 := heap_of (hF1 uW) _ _ _ Ry_1
        have Rz_2 := heap_of (hF1 uW) _ _ _ Rz_1
        obtain ⟨w2, hw⟩ : ∃ V, F uW = V := ⟨_, rfl⟩
        rw [hw] at B2 Rx_2 Ry_2 Rz_2
        try rw [hw]
        clear hw hF1 hF2 B1 fx_0 fx_1 fx_2 fx_3 fy_0 fy_1 fy_2 fy_3 fz_0 fz_1 fz_2 fz_3 Rx_1 cx_1_0 cx_1_1 cx_1_2 cx_1_3 Ry_1 cy_1_0 cy_1_1 cy_1_2 cy_1_3 Rz_1 cz_1_0 cz_1_1 cz_1_2 cz_1_3
        clear F
        obtain ⟨cx_2_0, cx_2_1, cx_2_2, cx_2_3⟩ := cells4s Rx_2
        obtain ⟨cy_2_0, cy_2_1, cy_2_2, cy_2_3⟩ := cells4s Ry_2
        obtain ⟨cz_2_0, cz_2_1, cz_2_2, cz_2_3⟩ := cells4s Rz_2
        go_wp2_with fail
        refine (HF.out _ (tabB TT.out B2)).mono ?_
        rintro r w3 ⟨rfl, b3⟩
        have B3 : Below w.heap.size w w3 := btr B2 b3
        have Rx_3 := heap_of b3 _ _ _ Rx_2
        have Ry_3 := heap_of b3 _ _ _ Ry_2
        have Rz_3 := heap_of b3 _ _ _ Rz_2
        clear b3 B2 Rx_2 cx_2_0 cx_2_1 cx_2_2 cx_2_3 Ry_2 cy_2_0 cy_2_1 cy_2_2 cy_2_3 Rz_2 cz_2_0 cz_2_1 cz_2_2 cz_2_3
        obtain ⟨cx_3_0, cx_3_1, cx_3_2, cx_3_3⟩ := cells4s Rx_3
        obtain ⟨cy_3_0, cy_3_1, cy_3_2, cy_3_3⟩ := cells4s Ry_3
        obtain ⟨cz_3_0, cz_3_1, cz_3_2, cz_3_3⟩ := cells4s Rz_3
        have q0 := fz (k := 0) Rz_3
        have q1 := fz (k := 1) Rz_3
        have q2 := fz (k := 2) Rz_3
        have q3 := fz (k := 3) Rz_3
        obtain ⟨E0, E1, E2, E3⟩ := set4_cells Rz_3 rfl (.bool rb) (.string u) (.string v) (.int .i64 re)
        go_wp2
        exact bodyPost_ret (v := .tuple #[.agg #[.bool rb, .string u, .string v, .int .i64 re], .int .i64 err]) (by simp [results, Tryz.results42, go_sem, E0, E1, E2, E3]) rfl ⟨rfl, set4_below B3 (by first | exact Nat.le_refl _ | omega) _ _ _ _⟩
      · obtain ⟨Rx_0, Ry_0, Rz_0, B0⟩ := opn3 w (Obj.cells #[.bool true, .string s, .string t, .int .i64 e] 41) (Obj.cells #[.bool true, .string p, .string q, .int .i64 g] 41) (Obj.cells #[.bool false, .string ⟨#[]⟩, .string ⟨#[]⟩, .int .i64 0] 41)
        go_enter Tryz.func42, Tryz.ntmps42
        go_wp2_with fail
        refine (xmay2 _ _ _ _ _ _ _ _ true true true M1.out M2.out rfl _ (((w.alloc (Obj.cells #[.bool true, .string s, .string t, .int .i64 e] 41)).alloc (Obj.cells #[.bool true, .string p, .string q, .int .i64 g] 41)).alloc (Obj.cells #[.bool false, .string ⟨#[]⟩, .string ⟨#[]⟩, .int .i64 0] 41)) _ (by simp only [size_al]) (tabB TT.out B0)).mono ?_
        rintro r w1 ⟨rfl, b1⟩
        have B1 : Below w.heap.size w w1 := btr B0 b1
        have Rx_1 := heap_of b1 _ _ _ Rx_0
        have Ry_1 := heap_of b1 _ _ _ Ry_0
        have Rz_1 := heap_of b1 _ _ _ Rz_0
        clear b1 B0 Rx_0 Ry_0 Rz_0
        obtain ⟨cx_1_0, cx_1_1, cx_1_2, cx_1_3⟩ := cells4s Rx_1
        obtain ⟨cy_1_0, cy_1_1, cy_1_2, cy_1_3⟩ := cells4s Ry_1
        obtain ⟨cz_1_0, cz_1_1, cz_1_2, cz_1_3⟩ := cells4s Rz_1
        go_wp2_with fail
        obtain ⟨F, hF1, hF2⟩ := below_fun w1
        have fx_0 := fun u => cells4 (heap_of (hF1 u) _ _ _ Rx_1) 0 _ rfl
        have fx_1 := fun u => cells4 (heap_of (hF1 u) _ _ _ Rx_1) 1 _ rfl
        have fx_2 := fun u => cells4 (heap_of (hF1 u) _ _ _ Rx_1) 2 _ rfl
        have fx_3 := fun u => cells4 (heap_of (hF1 u) _ _ _ Rx_1) 3 _ rfl
        have fy_0 := fun u => cells4 (heap_of (hF1 u) _ _ _ Ry_1) 0 _ rfl
        have fy_1 := fun u => cells4 (heap_of (hF1 u) _ _ _ Ry_1) 1 _ rfl
        have fy_2 := fun u => cells4 (heap_of (hF1 u) _ _ _ Ry_1) 2 _ rfl
        have fy_3 := fun u => cells4 (heap_of (hF1 u) _ _ _ Ry_1) 3 _ rfl
        have fz_0 := fun u => cells4 (heap_of (hF1 u) _ _ _ Rz_1) 0 _ rfl
        have fz_1 := fun u => cells4 (heap_of (hF1 u) _ _ _ Rz_1) 1 _ rfl
        have fz_2 := fun u => cells4 (heap_of (hF1 u) _ _ _ Rz_1) 2 _ rfl
        have fz_3 := fun u => cells4 (heap_of (hF1 u) _ _ _ Rz_1) 3 _ rfl
        refine wp_region_below F hF2 (by kernel_rfl) (by kernel_rfl) ?_
        repeat first | go_big_quiet_step (first | (go_at_call 90; exact quietF hF1 hF2 (zerox _)) | fail) | quiet_step (first | (go_at_call 90; exact quietF hF1 hF2 (zerox _)) | fail)
        refine wpQuiet_nil ?_
        rintro _ ⟨uW, rfl⟩
        have B2 := btr B1 (hF1 uW)
        have Rx_2 := heap_of (hF1 uW) _ _ _ Rx_1
        have Ry_2 := heap_of (hF1 uW) _ _ _ Ry_1
        have Rz_2 := heap_of (hF1 uW) _ _ _ Rz_1
        obtain ⟨w2, hw⟩ : ∃ V, F uW = V := ⟨_, rfl⟩
        rw [hw] at B2 Rx_2 Ry_2 Rz_2
        try rw [hw]
        clear hw hF1 hF2 B1 fx_0 fx_1 fx_2 fx_3 fy_0 fy_1 fy_2 fy_3 fz_0 fz_1 fz_2 fz_3 Rx_1 cx_1_0 cx_1_1 cx_1_2 cx_1_3 Ry_1 cy_1_0 cy_1_1 cy_1_2 cy_1_3 Rz_1 cz_1_0 cz_1_1 cz_1_2 cz_1_3
        clear F
        obtain ⟨cx_2_0, cx_2_1, cx_2_2, cx_2_3⟩ := cells4s Rx_2
        obtain ⟨cy_2_0, cy_2_1, cy_2_2, cy_2_3⟩ := cells4s Ry_2
        obtain ⟨cz_2_0, cz_2_1, cz_2_2, cz_2_3⟩ := cells4s Rz_2
        go_wp2_with fail
        refine (HF.out _ (tabB TT.out B2)).mono ?_
        rintro r w3 ⟨rfl, b3⟩
        have B3 : Below w.heap.size w w3 := btr B2 b3
        have Rx_3 := heap_of b3 _ _ _ Rx_2
        have Ry_3 := heap_of b3 _ _ _ Ry_2
        have Rz_3 := heap_of b3 _ _ _ Rz_2
        clear b3 B2 Rx_2 cx_2_0 cx_2_1 cx_2_2 cx_2_3 Ry_2 cy_2_0 cy_2_1 cy_2_2 cy_2_3 Rz_2 cz_2_0 cz_2_1 cz_2_2 cz_2_3
        obtain ⟨cx_3_0, cx_3_1, cx_3_2, cx_3_3⟩ := cells4s Rx_3
        obtain ⟨cy_3_0, cy_3_1, cy_3_2, cy_3_3⟩ := cells4s Ry_3
        obtain ⟨cz_3_0, cz_3_1, cz_3_2, cz_3_3⟩ := cells4s Rz_3
        have q0 := fz (k := 0) Rz_3
        have q1 := fz (k := 1) Rz_3
        have q2 := fz (k := 2) Rz_3
        have q3 := fz (k := 3) Rz_3
        obtain ⟨E0, E1, E2, E3⟩ := set4_cells Rz_3 rfl (.bool rb) (.string u) (.string v) (.int .i64 re)
        go_wp2
        exact bodyPost_ret (v := .tuple #[.agg #[.bool rb, .string u, .string v, .int .i64 re], .int .i64 err]) (by simp [results, Tryz.results42, go_sem, E0, E1, E2, E3]) rfl ⟨rfl, set4_below B3 (by first | exact Nat.le_refl _ | omega) _ _ _ _⟩
end Go.Proofs.YtbmhfcppaajgbaaGreatDoor
namespace Go.Proofs.YtbmhfcppaajgbaaGreatDoor
set_option maxRecDepth 100000
open Go.RowKit WMath XMath

theorem cmpv_neg (a b : Nat) : cmpv a b < 0 ↔ a < b := by
  unfold cmpv
  split
  · exact ⟨fun h => absurd h (by decide), fun h => by omega⟩
  · split
    · exact ⟨fun _ => by assumption, fun _ => by decide⟩
    · exact ⟨fun h => absurd h (by decide), fun h => by omega⟩
theorem lf_up (a : Nat) (k : Nat) (v : ByteArray) (h : nl (a * 2 ^ k) ≤ 16384) (hv : nbA (a * 2 ^ k) = v) : lf a (k : Int) = (v, 0) := by
  unfold lf
  rw [if_neg (by omega), Int.toNat_natCast]
  exact lg_ok _ v h hv
theorem nl_blen (a b : Nat) (h : blen a = blen b) (hb : nl b ≤ 16384) : nl a ≤ 16384 := by unfold nl at hb ⊢; rw [h]; exact hb
/-- How long both are that top compares. -/
theorem tAB_nl (x : XN) (n0 : x.n ≠ 0) (d0 : x.d ≠ 0) (ln : nl x.n ≤ 16384) (ld : nl x.d ≤ 16384) : nl (tA x) ≤ 16384 ∧ nl (tB x) ≤ 16384 := by
  obtain ⟨h1, _, _⟩ := tA_len x n0 d0
  by_cases h : 0 ≤ lenD x
  · have e : tA x = x.n := by unfold tA; rw [show (max (-lenD x) 0).toNat = 0 by omega, Nat.pow_zero, Nat.mul_one]
    have k : nl (tA x) ≤ 16384 := by rw [e]; exact ln
    exact ⟨k, nl_blen _ _ h1.symm k⟩
  · have e : tB x = x.d := by unfold tB; rw [show (max (lenD x) 0).toNat = 0 by omega, Nat.pow_zero, Nat.mul_one]
    have k : nl (tB x) ≤ 16384 := by rw [e]; exact ld
    exact ⟨nl_blen _ _ h1 k, k⟩

set_option maxRecDepth 100000 in
set_option maxHeartbeats 1000000 in
theorem topx (b : Bool) (n d : Nat) (e : Int) (s t : ByteArray) (T : Int) (hs : nbA n = s) (ht : nbA d = t) (n0 : n ≠ 0) (d0 : d ≠ 0) (ln : nl n ≤ 16384) (ld : nl d ≤ 16384) (he : -1048576 ≤ e ∧ e ≤ 1048576) (hr : topX (XN.mk b n d e) = T) (w : World) :
    Calls Tryz.prog 276 #[.agg #[.bool b, .string s, .string t, .int .i64 e]] w fun r w' => r = .returned (.int .i64 T) ∧ Below w.heap.size w w' := by
  obtain ⟨l1, l2⟩ := tAB_nl (XN.mk b n d e) n0 d0 ln ld
  obtain ⟨x, hx⟩ : ∃ x, blen n = x := ⟨_, rfl⟩
  obtain ⟨y, hy⟩ : ∃ x, blen d = x := ⟨_, rfl⟩
  have x2 : x ≤ 131072 := by unfold nl at ln; omega
  have y2 : y ≤ 131072 := by unfold nl at ld; omega
  obtain ⟨k, hk⟩ : ∃ k, (x : Int) - (y : Int) = k := ⟨_, rfl⟩
  have hlen : lenD (XN.mk b n d e) = k := by unfold lenD; show (blen n : Int) - (blen d : Int) = k; rw [hx, hy, hk]
  obtain ⟨i, hi⟩ : ∃ i, (max (-k) 0).toNat = i := ⟨_, rfl⟩
  obtain ⟨j, hj⟩ : ∃ i, (max k 0).toNat = i := ⟨_, rfl⟩
  have eA : tA (XN.mk b n d e) = n * 2 ^ i := by unfold tA; rw [hlen, hi]
  have eB : tB (XN.mk b n d e) = d * 2 ^ j := by unfold tB; rw [hlen, hj]
  rw [eA] at l1
  rw [eB] at l2
  obtain ⟨p, hp⟩ : ∃ p, nbA (n * 2 ^ i) = p := ⟨_, rfl⟩
  obtain ⟨q, hq⟩ : ∃ p, nbA (d * 2 ^ j) = p := ⟨_, rfl⟩
  have F1 := box (lf_up n i p l1 hp)
  have F2 := box (lf_up d j q l2 hq)
  obtain ⟨c, hc⟩ : ∃ c, cmpv (n * 2 ^ i) (d * 2 ^ j) = c := ⟨_, rfl⟩
  have hlt : decide (c < 0) = decide (n * 2 ^ i < d * 2 ^ j) := by rw [← hc, Bool.eq_iff_iff, decide_eq_true_iff, decide_eq_true_iff]; exact cmpv_neg _ _
  have hT2 : T = (if n * 2 ^ i < d * 2 ^ j then k - 1 else k) + e := by rw [← hr]; unfold topX; rw [eA, eB, hlen]
  have HS := box hs
  have HT := box ht
  have LN := box ln
  have LD := box ld
  have HX := box hx
  have HY := box hy
  have HP := box hp
  have HQ := box hq
  have L1 := box l1
  have L2 := box l2
  have HC := box hc
  have n1 : IntKind.i64.wrap ((x : Int) - (y : Int)) = k := by rw [wrap_i64_is _ (by omega) (by omega), hk]
  have n2 : IntKind.i64.wrap (-k) = -k := wrap_i64_is _ (by omega) (by omega)
  have n3 : max (-k) 0 = (i : Int) := by omega
  have n4 : max k 0 = (j : Int) := by omega
  have n5 : IntKind.i64.wrap (k - 1) = k - 1 := wrap_i64_is _ (by omega) (by omega)
  have n6 : IntKind.i64.wrap (k - 1 + e) = k - 1 + e := wrap_i64_is _ (by omega) (by omega)
  have n7 : IntKind.i64.wrap (k + e) = k + e := wrap_i64_is _ (by omega) (by omega)
  have i2 : i ≤ 131072 := by omega
  have j2 : j ≤ 131072 := by omega
  by_cases hl : n * 2 ^ i < d * 2 ^ j
  · rw [if_pos hl] at hT2
    rw [decide_eq_true hl] at hlt
    subst hT2
    clear hs ht ln ld hx hy hk hlen hi hj eA eB l1 l2 hp hq hc hl hr he n0 d0
    obtain ⟨Rx_0, B0⟩ := opn1 w (Obj.cells #[.bool b, .string s, .string t, .int .i64 e] 41)
    go_enter Tryz.func276, Tryz.ntmps276
    go_wp2_with fail
    obtain ⟨F, hF1, hF2⟩ := below_fun (w.alloc (Obj.cells #[.bool b, .string s, .string t, .int .i64 e] 41))
    have fx_0 := fun u => cells4 (heap_of (hF1 u) _ _ _ Rx_0) 0 _ rfl
    have fx_1 := fun u => cells4 (heap_of (hF1 u) _ _ _ Rx_0) 1 _ rfl
    have fx_2 := fun u => cells4 (heap_of (hF1 u) _ _ _ Rx_0) 2 _ rfl
    have fx_3 := fun u => cells4 (heap_of (hF1 u) _ _ _ Rx_0) 3 _ rfl
    refine wp_region_below F hF2 (by kernel_rfl) (by kernel_rfl) ?_
    repeat first | go_big_quiet_step (first | (go_at_call_of 225 (Value.string s); exact quietF hF1 hF2 (pn_len_ok n x s HS.out LN.out HX.out _)) | (go_at_call_of 225 (Value.string t); exact quietF hF1 hF2 (pn_len_ok d y t HT.out LD.out HY.out _)) | fail) | quiet_step (first | (go_at_call_of 225 (Value.string s); exact quietF hF1 hF2 (pn_len_ok n x s HS.out LN.out HX.out _)) | (go_at_call_of 225 (Value.string t); exact quietF hF1 hF2 (pn_len_ok d y t HT.out LD.out HY.out _)) | fail)
    refine wpQuiet_nil ?_
    rintro _ ⟨uW, rfl⟩
    have B1 := btr B0 (hF1 uW)
    have Rx_1 := heap_of (hF1 uW) _ _ _ Rx_0
    obtain ⟨w1, hw⟩ : ∃ V, F uW = V := ⟨_, rfl⟩
    rw [hw] at B1 Rx_1
    try rw [hw]
    clear hw hF1 hF2 B0 fx_0 fx_1 fx_2 fx_3 Rx_0
    clear F
    obtain ⟨cx_1_0, cx_1_1, cx_1_2, cx_1_3⟩ := cells4s Rx_1
    go_wp2_with fail
    refine (pn_left_ok n (i : Int) s p 0 HS.out LN.out (by omega) (by omega) F1.out _).mono ?_
    rintro r w2 ⟨rfl, b2⟩
    have B2 : Below w.heap.size w w2 := btr B1 b2
    have Rx_2 := heap_of b2 _ _ _ Rx_1
    clear b2 B1 Rx_1 cx_1_0 cx_1_1 cx_1_2 cx_1_3
    obtain ⟨cx_2_0, cx_2_1, cx_2_2, cx_2_3⟩ := cells4s Rx_2
    go_wp2_with fail
    refine (pn_left_ok d (j : Int) t q 0 HT.out LD.out (by omega) (by omega) F2.out _).mono ?_
    rintro r w3 ⟨rfl, b3⟩
    have B3 : Below w.heap.size w w3 := btr B2 b3
    have Rx_3 := heap_of b3 _ _ _ Rx_2
    clear b3 B2 Rx_2 cx_2_0 cx_2_1 cx_2_2 cx_2_3
    obtain ⟨cx_3_0, cx_3_1, cx_3_2, cx_3_3⟩ := cells4s Rx_3
    go_wp2_with fail
    refine (pn_cmp_ok (n * 2 ^ i) (d * 2 ^ j) p q c HP.out HQ.out L1.out L2.out HC.out _).mono ?_
    rintro r w4 ⟨rfl, b4⟩
    have B4 : Below w.heap.size w w4 := btr B3 b4
    have Rx_4 := heap_of b4 _ _ _ Rx_3
    clear b4 B3 Rx_3 cx_3_0 cx_3_1 cx_3_2 cx_3_3
    obtain ⟨cx_4_0, cx_4_1, cx_4_2, cx_4_3⟩ := cells4s Rx_4
    go_wp2
    go_ret
    exact ⟨rfl, B4⟩
  · rw [if_neg hl] at hT2
    rw [decide_eq_false hl] at hlt
    subst hT2
    clear hs ht ln ld hx hy hk hlen hi hj eA eB l1 l2 hp hq hc hl hr he n0 d0
    obtain ⟨Rx_0, B0⟩ := opn1 w (Obj.cells #[.bool b, .string s, .string t, .int .i64 e] 41)
    go_enter Tryz.func276, Tryz.ntmps276
    go_wp2_with fail
    obtain ⟨F, hF1, hF2⟩ := below_fun (w.alloc (Obj.cells #[.bool b, .string s, .string t, .int .i64 e] 41))
    have fx_0 := fun u => cells4 (heap_of (hF1 u) _ _ _ Rx_0) 0 _ rfl
    have fx_1 := fun u => cells4 (heap_of (hF1 u) _ _ _ Rx_0) 1 _ rfl
    have fx_2 := fun u => cells4 (heap_of (hF1 u) _ _ _ Rx_0) 2 _ rfl
    have fx_3 := fun u => cells4 (heap_of (hF1 u) _ _ _ Rx_0) 3 _ rfl
    refine wp_region_below F hF2 (by kernel_rfl) (by kernel_rfl) ?_
    repeat first | go_big_quiet_step (first | (go_at_call_of 225 (Value.string s); exact quietF hF1 hF2 (pn_len_ok n x s HS.out LN.out HX.out _)) | (go_at_call_of 225 (Value.string t); exact quietF hF1 hF2 (pn_len_ok d y t HT.out LD.out HY.out _)) | fail) | quiet_step (first | (go_at_call_of 225 (Value.string s); exact quietF hF1 hF2 (pn_len_ok n x s HS.out LN.out HX.out _)) | (go_at_call_of 225 (Value.string t); exact quietF hF1 hF2 (pn_len_ok d y t HT.out LD.out HY.out _)) | fail)
    refine wpQuiet_nil ?_
    rintro _ ⟨uW, rfl⟩
    have B1 := btr B0 (hF1 uW)
    have Rx_1 := heap_of (hF1 uW) _ _ _ Rx_0
    obtain ⟨w1, hw⟩ : ∃ V, F uW = V := ⟨_, rfl⟩
    rw [hw] at B1 Rx_1
    try rw [hw]
    clear hw hF1 hF2 B0 fx_0 fx_1 fx_2 fx_3 Rx_0
    clear F
    obtain ⟨cx_1_0, cx_1_1, cx_1_2, cx_1_3⟩ := cells4s Rx_1
    go_wp2_with fail
    refine (pn_left_ok n (i : Int) s p 0 HS.out LN.out (by omega) (by omega) F1.out _).mono ?_
    rintro r w2 ⟨rfl, b2⟩
    have B2 : Below w.heap.size w w2 := btr B1 b2
    have Rx_2 := heap_of b2 _ _ _ Rx_1
    clear b2 B1 Rx_1 cx_1_0 cx_1_1 cx_1_2 cx_1_3
    obtain ⟨cx_2_0, cx_2_1, cx_2_2, cx_2_3⟩ := cells4s Rx_2
    go_wp2_with fail
    refine (pn_left_ok d (j : Int) t q 0 HT.out LD.out (by omega) (by omega) F2.out _).mono ?_
    rintro r w3 ⟨rfl, b3⟩
    have B3 : Below w.heap.size w w3 := btr B2 b3
    have Rx_3 := heap_of b3 _ _ _ Rx_2
    clear b3 B2 Rx_2 cx_2_0 cx_2_1 cx_2_2 cx_2_3
    obtain ⟨cx_3_0, cx_3_1, cx_3_2, cx_3_3⟩ := cells4s Rx_3
    go_wp2_with fail
    refine (pn_cmp_ok (n * 2 ^ i) (d * 2 ^ j) p q c HP.out HQ.out L1.out L2.out HC.out _).mono ?_
    rintro r w4 ⟨rfl, b4⟩
    have B4 : Below w.heap.size w w4 := btr B3 b4
    have Rx_4 := heap_of b4 _ _ _ Rx_3
    clear b4 B3 Rx_3 cx_3_0 cx_3_1 cx_3_2 cx_3_3
    obtain ⟨cx_4_0, cx_4_1, cx_4_2, cx_4_3⟩ := cells4s Rx_4
    go_wp2
    go_ret
    exact ⟨rfl, B4⟩

set_option maxRecDepth 100000 in
set_option maxHeartbeats 1000000 in
theorem Topx_ok (b : Bool) (n d : Nat) (e : Int) (s t : ByteArray) (T : Int) (hs : nbA n = s) (ht : nbA d = t) (n0 : n ≠ 0) (hc : (XN.mk b n d e).can) (hr : topX (XN.mk b n d e) = T) (w : World) (hT : TabAt w) :
    Calls Tryz.prog 227 #[.agg #[.bool b, .string s, .string t, .int .i64 e]] w fun r w' => r = .returned (.tuple #[.int .i64 T, .int .i64 0]) ∧ Below w.heap.size w w' := by
  have M1 := box (may_yes hs ht hc)
  have TT := box hT
  have e0 := eq_nil n s hs n0
  have HF := box (fun w => topx b n d e s t T hs ht n0 hc.d0 hc.1 hc.2.1 ⟨hc.2.2.1, hc.2.2.2.1⟩ hr w)
  clear hs ht n0 hc hr hT
  cases b
  · obtain ⟨Rx_0, B0⟩ := opn1 w (Obj.cells #[.bool false, .string s, .string t, .int .i64 e] 41)
    go_enter Tryz.func227, Tryz.ntmps227
    go_wp2_with fail
    apply cut_same
    · intro key
      go_region_with (first | (go_at_call 80; refine (xmay1d _ _ _ _ true M1.out _ (w.alloc (Obj.cells #[.bool false, .string s, .string t, .int .i64 e] 41)) _ (by simp only [size_al]) (tabB TT.out B0)).mono ?_; rintro r w1 ⟨rfl, b1⟩; have B1 : Below w.heap.size w w1 := btr B0 b1; have Rx_1 := heap_of b1 _ _ _ Rx_0; have cx_1_0 := cells4 Rx_1 0 _ rfl; have cx_1_1 := cells4 Rx_1 1 _ rfl; have cx_1_2 := cells4 Rx_1 2 _ rfl; have cx_1_3 := cells4 Rx_1 3 _ rfl) | (go_at_call 90; refine (zerox _).mono ?_; rintro r w2 ⟨rfl, b2⟩; have B2 : Below w.heap.size w w2 := btr B1 b2; have Rx_2 := heap_of b2 _ _ _ Rx_1; have cx_2_0 := cells4 Rx_2 0 _ rfl; have cx_2_1 := cells4 Rx_2 1 _ rfl; have cx_2_2 := cells4 Rx_2 2 _ rfl; have cx_2_3 := cells4 Rx_2 3 _ rfl))
      all_goals
        clear cx_2_0 cx_2_1 cx_2_2 cx_2_3 b2
        clear cx_1_0 cx_1_1 cx_1_2 cx_1_3 Rx_1 b1 B1
        clear w1
        revert w2
        exact key
    intro w2 B2 Rx_2
    clear B0 Rx_0
    obtain ⟨cx_2_0, cx_2_1, cx_2_2, cx_2_3⟩ := cells4s Rx_2
    go_wp2_with fail
    refine (HF.out _).mono ?_
    rintro r w3 ⟨rfl, b3⟩
    have B3 : Below w.heap.size w w3 := btr B2 b3
    have Rx_3 := heap_of b3 _ _ _ Rx_2
    clear b3 B2 Rx_2 cx_2_0 cx_2_1 cx_2_2 cx_2_3
    obtain ⟨cx_3_0, cx_3_1, cx_3_2, cx_3_3⟩ := cells4s Rx_3
    go_wp2
    go_ret2
    exact ⟨rfl, B3⟩
  · obtain ⟨Rx_0, B0⟩ := opn1 w (Obj.cells #[.bool true, .string s, .string t, .int .i64 e] 41)
    go_enter Tryz.func227, Tryz.ntmps227
    go_wp2_with fail
    apply cut_same
    · intro key
      go_region_with (first | (go_at_call 80; refine (xmay1d _ _ _ _ true M1.out _ (w.alloc (Obj.cells #[.bool true, .string s, .string t, .int .i64 e] 41)) _ (by simp only [size_al]) (tabB TT.out B0)).mono ?_; rintro r w1 ⟨rfl, b1⟩; have B1 : Below w.heap.size w w1 := btr B0 b1; have Rx_1 := heap_of b1 _ _ _ Rx_0; have cx_1_0 := cells4 Rx_1 0 _ rfl; have cx_1_1 := cells4 Rx_1 1 _ rfl; have cx_1_2 := cells4 Rx_1 2 _ rfl; have cx_1_3 := cells4 Rx_1 3 _ rfl) | (go_at_call 90; refine (zerox _).mono ?_; rintro r w2 ⟨rfl, b2⟩; have B2 : Below w.heap.size w w2 := btr B1 b2; have Rx_2 := heap_of b2 _ _ _ Rx_1; have cx_2_0 := cells4 Rx_2 0 _ rfl; have cx_2_1 := cells4 Rx_2 1 _ rfl; have cx_2_2 := cells4 Rx_2 2 _ rfl; have cx_2_3 := cells4 Rx_2 3 _ rfl))
      all_goals
        clear cx_2_0 cx_2_1 cx_2_2 cx_2_3 b2
        clear cx_1_0 cx_1_1 cx_1_2 cx_1_3 Rx_1 b1 B1
        clear w1
        revert w2
        exact key
    intro w2 B2 Rx_2
    clear B0 Rx_0
    obtain ⟨cx_2_0, cx_2_1, cx_2_2, cx_2_3⟩ := cells4s Rx_2
    go_wp2_with fail
    refine (HF.out _).mono ?_
    rintro r w3 ⟨rfl, b3⟩
    have B3 : Below w.heap.size w w3 := btr B2 b3
    have Rx_3 := heap_of b3 _ _ _ Rx_2
    clear b3 B2 Rx_2 cx_2_0 cx_2_1 cx_2_2 cx_2_3
    obtain ⟨cx_3_0, cx_3_1, cx_3_2, cx_3_3⟩ := cells4s Rx_3
    go_wp2
    go_ret2
    exact ⟨rfl, B3⟩
set_option maxRecDepth 100000 in
theorem Topx_null (w : World) (hT : TabAt w) : Calls Tryz.prog 227 #[.agg #[.bool false, .string ⟨#[]⟩, .string ⟨#[1]⟩, .int .i64 0]] w fun r w' => r = .returned (.tuple #[.int .i64 0, .int .i64 2]) ∧ Below w.heap.size w w' := by
  have M1 : Box (IsM true false ⟨#[]⟩ ⟨#[1]⟩ 0) := box (may_yes nbA_zero nb1 x0_can)
  have TT := box hT
  clear hT
  obtain ⟨Rx_0, B0⟩ := opn1 w (Obj.cells #[.bool false, .string ⟨#[]⟩, .string ⟨#[1]⟩, .int .i64 0] 41)
  go_enter Tryz.func227, Tryz.ntmps227
  go_wp2_with fail
  apply cut_same
  · intro key
    go_region_with (first | (go_at_call 80; refine (xmay1d _ _ _ _ true M1.out _ (w.alloc (Obj.cells #[.bool false, .string ⟨#[]⟩, .string ⟨#[1]⟩, .int .i64 0] 41)) _ (by simp only [size_al]) (tabB TT.out B0)).mono ?_; rintro r w1 ⟨rfl, b1⟩; have B1 : Below w.heap.size w w1 := btr B0 b1; have Rx_1 := heap_of b1 _ _ _ Rx_0; have cx_1_0 := cells4 Rx_1 0 _ rfl; have cx_1_1 := cells4 Rx_1 1 _ rfl; have cx_1_2 := cells4 Rx_1 2 _ rfl; have cx_1_3 := cells4 Rx_1 3 _ rfl) | (go_at_call 90; refine (zerox _).mono ?_; rintro r w2 ⟨rfl, b2⟩; have B2 : Below w.heap.size w w2 := btr B1 b2; have Rx_2 := heap_of b2 _ _ _ Rx_1; have cx_2_0 := cells4 Rx_2 0 _ rfl; have cx_2_1 := cells4 Rx_2 1 _ rfl; have cx_2_2 := cells4 Rx_2 2 _ rfl; have cx_2_3 := cells4 Rx_2 3 _ rfl))
    all_goals
      clear cx_2_0 cx_2_1 cx_2_2 cx_2_3 b2
      clear cx_1_0 cx_1_1 cx_1_2 cx_1_3 Rx_1 b1 B1
      clear w1
      revert w2
      exact key
  intro w2 B2 Rx_2
  clear B0 Rx_0
  obtain ⟨cx_2_0, cx_2_1, cx_2_2, cx_2_3⟩ := cells4s Rx_2
  go_wp2
  go_ret2
  exact ⟨rfl, B2⟩
end Go.Proofs.YtbmhfcppaajgbaaGreatDoor
