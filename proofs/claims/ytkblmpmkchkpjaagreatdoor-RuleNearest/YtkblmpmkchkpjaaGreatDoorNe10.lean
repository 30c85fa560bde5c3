/-
  What the functions that the statement reaches return: part 10 (X12).
-/
import Derived.Test.YtkblmpmkchkpjaaGreatDoorNe09
namespace Go.Proofs.YtkblmpmkchkpjaaGreatDoor
set_option maxRecDepth 100000
set_option maxHeartbeats 40000000
open Go.RowKit WMath XMath
theorem sS_nl (x y : XN) (hx : nl (XMath.sA x y) ≤ 16384) (hy : nl (XMath.sA y x) ≤ 16384) (hb : x.b ≠ y.b) : nl (sS x y) ≤ 16384 := by
 unfold sS
 rw [if_neg hb]
 split
 ·
  exact Nat.le_trans (xF _ _ (Nat.sub_le _ _)) hy
 ·
  exact Nat.le_trans (xF _ _ (Nat.sub_le _ _)) hx

theorem sumx (b : Bool) (n d : Nat) (e : Int) (s t : ByteArray) (c : Bool) (m f : Nat) (g : Int) (p q : ByteArray) (rb : Bool) (rn rd : Nat) (re err : Int) (u v : ByteArray)
  (hs : yG n = s) (ht : yG d = t) (hp : yG m = p) (hq : yG f = q) (hx : (XN.mk b n d e).can) (hy : (XN.mk c m f g).can) (hr : addX (XN.mk b n d e) (XN.mk c m f g) = (⟨rb, rn, rd, re⟩, err)) (hu : yG rn = u) (hv : yG rd = v) (w : World) (hT : zN w) :
  Calls Tryz.prog 55 #[.agg #[.bool b, .string s, .string t, .int .i64 e], .agg #[.bool c, .string p, .string q, .int .i64 g]] w fun r w' => r = .returned (.tuple #[.agg #[.bool rb, .string u, .string v, .int .i64 re], .int .i64 err]) ∧ Below w.heap.size w w' := by
 have TT := zH hT
 unfold addX at hr
 rcases x_cases hs ht hx with ⟨n0, rfl, rfl, rfl, rfl, rfl⟩ | ⟨n0, e0⟩
 ·
  rw [if_pos n0] at hr
  injection hr with h1 h2
  injection h1 with a1 a2 a3 a4
  subst a1 a2 a3 a4 h2
  rw [hp] at hu
  rw [hq] at hv
  subst hu hv
  clear hs ht hp hq hx hy hT n0
  obtain ⟨Ad, Ae, Af, B0⟩ := opn3 w (Obj.cells #[.bool false, .string ⟨#[]⟩, .string ⟨#[1]⟩, .int .i64 0] 41) (Obj.cells #[.bool c, .string p, .string q, .int .i64 g] 41) (Obj.cells #[.bool false, .string ⟨#[]⟩, .string ⟨#[]⟩, .int .i64 0] 41)
  go_enter Tryz.func55, Tryz.ntmps55
  go_wp2_with fail
  obtain ⟨F, hF1, hF2⟩ := zQ (((w.alloc (Obj.cells #[.bool false, .string ⟨#[]⟩, .string ⟨#[1]⟩, .int .i64 0] 41)).alloc (Obj.cells #[.bool c, .string p, .string q, .int .i64 g] 41)).alloc (Obj.cells #[.bool false, .string ⟨#[]⟩, .string ⟨#[]⟩, .int .i64 0] 41))
  have fx_0 := fun u => zE (zA (hF1 u) _ _ _ Ad) 0 _ rfl
  have fx_1 := fun u => zE (zA (hF1 u) _ _ _ Ad) 1 _ rfl
  have fx_2 := fun u => zE (zA (hF1 u) _ _ _ Ad) 2 _ rfl
  have fx_3 := fun u => zE (zA (hF1 u) _ _ _ Ad) 3 _ rfl
  have fy_0 := fun u => zE (zA (hF1 u) _ _ _ Ae) 0 _ rfl
  have fy_1 := fun u => zE (zA (hF1 u) _ _ _ Ae) 1 _ rfl
  have fy_2 := fun u => zE (zA (hF1 u) _ _ _ Ae) 2 _ rfl
  have fy_3 := fun u => zE (zA (hF1 u) _ _ _ Ae) 3 _ rfl
  have fz_0 := fun u => zE (zA (hF1 u) _ _ _ Af) 0 _ rfl
  have fz_1 := fun u => zE (zA (hF1 u) _ _ _ Af) 1 _ rfl
  have fz_2 := fun u => zE (zA (hF1 u) _ _ _ Af) 2 _ rfl
  have fz_3 := fun u => zE (zA (hF1 u) _ _ _ Af) 3 _ rfl
  refine zI F hF2 (by kernel_rfl) (by kernel_rfl) ?_
  repeat first | go_big_quiet_step (first | (go_at_call 111; exact zJ hF1 hF2 (zZ _)) | fail) | quiet_step (first | (go_at_call 111; exact zJ hF1 hF2 (zZ _)) | fail)
  refine wpQuiet_nil ?_
  rintro _ ⟨uW, rfl⟩
  have B1 := zO B0 (hF1 uW)
  obtain ⟨Ab, Ac, Aa⟩ := yA (hF1 uW) Ad Ae Af
  obtain ⟨w1, hw⟩ : ∃ V, F uW = V := ⟨_, rfl⟩
  rw [hw] at B1 Ab Ac Aa
  try rw [hw]
  clear hw hF1 hF2 B0 fx_0 fx_1 fx_2 fx_3 fy_0 fy_1 fy_2 fy_3 fz_0 fz_1 fz_2 fz_3 Ad Ae Af
  clear F
  obtain ⟨Ap, Aq, Ar, As⟩ := zC Ab
  obtain ⟨At, Au, Av, Aw⟩ := zC Ac
  obtain ⟨Ax, Ay, Az, AA⟩ := zC Aa
  have q0 := fz (k := 0) Aa
  have q1 := fz (k := 1) Aa
  have q2 := fz (k := 2) Aa
  have q3 := fz (k := 3) Aa
  obtain ⟨E0, E1, E2, E3⟩ := yC Aa rfl (.bool c) (.string p) (.string q) (.int .i64 g)
  go_wp2
  exact bodyPost_ret (v := .tuple #[.agg #[.bool c, .string p, .string q, .int .i64 g], .int .i64 0]) (by simp [results, Tryz.results55, go_sem, E0, E1, E2, E3]) rfl ⟨rfl, z9 B1 (by first | exact Nat.le_refl _ | omega) _ _ _ _⟩
 ·
  rw [if_neg n0] at hr
  rcases x_cases hp hq hy with ⟨m0, rfl, rfl, rfl, rfl, rfl⟩ | ⟨m0, e1⟩
  ·
   rw [if_pos m0] at hr
   injection hr with h1 h2
   injection h1 with a1 a2 a3 a4
   subst a1 a2 a3 a4 h2
   rw [hs] at hu
   rw [ht] at hv
   subst hu hv
   clear hs ht hp hq hx hy hT n0 m0
   cases b
   ·
    obtain ⟨Ad, Ae, Af, B0⟩ := opn3 w (Obj.cells #[.bool false, .string s, .string t, .int .i64 e] 41) (Obj.cells #[.bool false, .string ⟨#[]⟩, .string ⟨#[1]⟩, .int .i64 0] 41) (Obj.cells #[.bool false, .string ⟨#[]⟩, .string ⟨#[]⟩, .int .i64 0] 41)
    go_enter Tryz.func55, Tryz.ntmps55
    go_wp2_with fail
    obtain ⟨F, hF1, hF2⟩ := zQ (((w.alloc (Obj.cells #[.bool false, .string s, .string t, .int .i64 e] 41)).alloc (Obj.cells #[.bool false, .string ⟨#[]⟩, .string ⟨#[1]⟩, .int .i64 0] 41)).alloc (Obj.cells #[.bool false, .string ⟨#[]⟩, .string ⟨#[]⟩, .int .i64 0] 41))
    have fx_0 := fun u => zE (zA (hF1 u) _ _ _ Ad) 0 _ rfl
    have fx_1 := fun u => zE (zA (hF1 u) _ _ _ Ad) 1 _ rfl
    have fx_2 := fun u => zE (zA (hF1 u) _ _ _ Ad) 2 _ rfl
    have fx_3 := fun u => zE (zA (hF1 u) _ _ _ Ad) 3 _ rfl
    have fy_0 := fun u => zE (zA (hF1 u) _ _ _ Ae) 0 _ rfl
    have fy_1 := fun u => zE (zA (hF1 u) _ _ _ Ae) 1 _ rfl
    have fy_2 := fun u => zE (zA (hF1 u) _ _ _ Ae) 2 _ rfl
    have fy_3 := fun u => zE (zA (hF1 u) _ _ _ Ae) 3 _ rfl
    have fz_0 := fun u => zE (zA (hF1 u) _ _ _ Af) 0 _ rfl
    have fz_1 := fun u => zE (zA (hF1 u) _ _ _ Af) 1 _ rfl
    have fz_2 := fun u => zE (zA (hF1 u) _ _ _ Af) 2 _ rfl
    have fz_3 := fun u => zE (zA (hF1 u) _ _ _ Af) 3 _ rfl
    refine zI F hF2 (by kernel_rfl) (by kernel_rfl) ?_
    repeat first | go_big_quiet_step (first | (go_at_call 111; exact zJ hF1 hF2 (zZ _)) | fail) | quiet_step (first | (go_at_call 111; exact zJ hF1 hF2 (zZ _)) | fail)
    refine wpQuiet_nil ?_
    rintro _ ⟨uW, rfl⟩
    have B1 := zO B0 (hF1 uW)
    obtain ⟨Ab, Ac, Aa⟩ := yA (hF1 uW) Ad Ae Af
    obtain ⟨w1, hw⟩ : ∃ V, F uW = V := ⟨_, rfl⟩
    rw [hw] at B1 Ab Ac Aa
    try rw [hw]
    clear hw hF1 hF2 B0 fx_0 fx_1 fx_2 fx_3 fy_0 fy_1 fy_2 fy_3 fz_0 fz_1 fz_2 fz_3 Ad Ae Af
    clear F
    obtain ⟨Ap, Aq, Ar, As⟩ := zC Ab
    obtain ⟨At, Au, Av, Aw⟩ := zC Ac
    obtain ⟨Ax, Ay, Az, AA⟩ := zC Aa
    go_wp2_with fail
    obtain ⟨F, hF1, hF2⟩ := zQ w1
    have fx_0 := fun u => zE (zA (hF1 u) _ _ _ Ab) 0 _ rfl
    have fx_1 := fun u => zE (zA (hF1 u) _ _ _ Ab) 1 _ rfl
    have fx_2 := fun u => zE (zA (hF1 u) _ _ _ Ab) 2 _ rfl
    have fx_3 := fun u => zE (zA (hF1 u) _ _ _ Ab) 3 _ rfl
    have fy_0 := fun u => zE (zA (hF1 u) _ _ _ Ac) 0 _ rfl
    have fy_1 := fun u => zE (zA (hF1 u) _ _ _ Ac) 1 _ rfl
    have fy_2 := fun u => zE (zA (hF1 u) _ _ _ Ac) 2 _ rfl
    have fy_3 := fun u => zE (zA (hF1 u) _ _ _ Ac) 3 _ rfl
    have fz_0 := fun u => zE (zA (hF1 u) _ _ _ Aa) 0 _ rfl
    have fz_1 := fun u => zE (zA (hF1 u) _ _ _ Aa) 1 _ rfl
    have fz_2 := fun u => zE (zA (hF1 u) _ _ _ Aa) 2 _ rfl
    have fz_3 := fun u => zE (zA (hF1 u) _ _ _ Aa) 3 _ rfl
    refine zI F hF2 (by kernel_rfl) (by kernel_rfl) ?_
    repeat first | go_big_quiet_step (first | (go_at_call 111; exact zJ hF1 hF2 (zZ _)) | fail) | quiet_step (first | (go_at_call 111; exact zJ hF1 hF2 (zZ _)) | fail)
    refine wpQuiet_nil ?_
    rintro _ ⟨uW, rfl⟩
    have B2 := zO B1 (hF1 uW)
    obtain ⟨Ah, Ai, Ag⟩ := yA (hF1 uW) Ab Ac Aa
    obtain ⟨w2, hw⟩ : ∃ V, F uW = V := ⟨_, rfl⟩
    rw [hw] at B2 Ah Ai Ag
    try rw [hw]
    clear hw hF1 hF2 B1 fx_0 fx_1 fx_2 fx_3 fy_0 fy_1 fy_2 fy_3 fz_0 fz_1 fz_2 fz_3 Ab Ap Aq Ar As Ac At Au Av Aw Aa Ax Ay Az AA
    clear F
    obtain ⟨AB, AC, AD, AE⟩ := zC Ah
    obtain ⟨AF, AG, AH, AI⟩ := zC Ai
    obtain ⟨AJ, AK, AL, AM⟩ := zC Ag
    have q0 := fz (k := 0) Ag
    have q1 := fz (k := 1) Ag
    have q2 := fz (k := 2) Ag
    have q3 := fz (k := 3) Ag
    obtain ⟨E0, E1, E2, E3⟩ := yC Ag rfl (.bool false) (.string s) (.string t) (.int .i64 e)
    go_wp2
    exact bodyPost_ret (v := .tuple #[.agg #[.bool false, .string s, .string t, .int .i64 e], .int .i64 0]) (by simp [results, Tryz.results55, go_sem, E0, E1, E2, E3]) rfl ⟨rfl, z9 B2 (by first | exact Nat.le_refl _ | omega) _ _ _ _⟩
   ·
    obtain ⟨Ad, Ae, Af, B0⟩ := opn3 w (Obj.cells #[.bool true, .string s, .string t, .int .i64 e] 41) (Obj.cells #[.bool false, .string ⟨#[]⟩, .string ⟨#[1]⟩, .int .i64 0] 41) (Obj.cells #[.bool false, .string ⟨#[]⟩, .string ⟨#[]⟩, .int .i64 0] 41)
    go_enter Tryz.func55, Tryz.ntmps55
    go_wp2_with fail
    obtain ⟨F, hF1, hF2⟩ := zQ (((w.alloc (Obj.cells #[.bool true, .string s, .string t, .int .i64 e] 41)).alloc (Obj.cells #[.bool false, .string ⟨#[]⟩, .string ⟨#[1]⟩, .int .i64 0] 41)).alloc (Obj.cells #[.bool false, .string ⟨#[]⟩, .string ⟨#[]⟩, .int .i64 0] 41))
    have fx_0 := fun u => zE (zA (hF1 u) _ _ _ Ad) 0 _ rfl
    have fx_1 := fun u => zE (zA (hF1 u) _ _ _ Ad) 1 _ rfl
    have fx_2 := fun u => zE (zA (hF1 u) _ _ _ Ad) 2 _ rfl
    have fx_3 := fun u => zE (zA (hF1 u) _ _ _ Ad) 3 _ rfl
    have fy_0 := fun u => zE (zA (hF1 u) _ _ _ Ae) 0 _ rfl
    have fy_1 := fun u => zE (zA (hF1 u) _ _ _ Ae) 1 _ rfl
    have fy_2 := fun u => zE (zA (hF1 u) _ _ _ Ae) 2 _ rfl
    have fy_3 := fun u => zE (zA (hF1 u) _ _ _ Ae) 3 _ rfl
    have fz_0 := fun u => zE (zA (hF1 u) _ _ _ Af) 0 _ rfl
    have fz_1 := fun u => zE (zA (hF1 u) _ _ _ Af) 1 _ rfl
    have fz_2 := fun u => zE (zA (hF1 u) _ _ _ Af) 2 _ rfl
    have fz_3 := fun u => zE (zA (hF1 u) _ _ _ Af) 3 _ rfl
    refine zI F hF2 (by kernel_rfl) (by kernel_rfl) ?_
    repeat first | go_big_quiet_step (first | (go_at_call 111; exact zJ hF1 hF2 (zZ _)) | fail) | quiet_step (first | (go_at_call 111; exact zJ hF1 hF2 (zZ _)) | fail)
    refine wpQuiet_nil ?_
    rintro _ ⟨uW, rfl⟩
    have B1 := zO B0 (hF1 uW)
    obtain ⟨Ab, Ac, Aa⟩ := yA (hF1 uW) Ad Ae Af
    obtain ⟨w1, hw⟩ : ∃ V, F uW = V := ⟨_, rfl⟩
    rw [hw] at B1 Ab Ac Aa
    try rw [hw]
    clear hw hF1 hF2 B0 fx_0 fx_1 fx_2 fx_3 fy_0 fy_1 fy_2 fy_3 fz_0 fz_1 fz_2 fz_3 Ad Ae Af
    clear F
    obtain ⟨Ap, Aq, Ar, As⟩ := zC Ab
    obtain ⟨At, Au, Av, Aw⟩ := zC Ac
    obtain ⟨Ax, Ay, Az, AA⟩ := zC Aa
    go_wp2_with fail
    obtain ⟨F, hF1, hF2⟩ := zQ w1
    have fx_0 := fun u => zE (zA (hF1 u) _ _ _ Ab) 0 _ rfl
    have fx_1 := fun u => zE (zA (hF1 u) _ _ _ Ab) 1 _ rfl
    have fx_2 := fun u => zE (zA (hF1 u) _ _ _ Ab) 2 _ rfl
    have fx_3 := fun u => zE (zA (hF1 u) _ _ _ Ab) 3 _ rfl
    have fy_0 := fun u => zE (zA (hF1 u) _ _ _ Ac) 0 _ rfl
    have fy_1 := fun u => zE (zA (hF1 u) _ _ _ Ac) 1 _ rfl
    have fy_2 := fun u => zE (zA (hF1 u) _ _ _ Ac) 2 _ rfl
    have fy_3 := fun u => zE (zA (hF1 u) _ _ _ Ac) 3 _ rfl
    have fz_0 := fun u => zE (zA (hF1 u) _ _ _ Aa) 0 _ rfl
    have fz_1 := fun u => zE (zA (hF1 u) _ _ _ Aa) 1 _ rfl
    have fz_2 := fun u => zE (zA (hF1 u) _ _ _ Aa) 2 _ rfl
    have fz_3 := fun u => zE (zA (hF1 u) _ _ _ Aa) 3 _ rfl
    refine zI F hF2 (by kernel_rfl) (by kernel_rfl) ?_
    repeat first | go_big_quiet_step (first | (go_at_call 111; exact zJ hF1 hF2 (zZ _)) | fail) | quiet_step (first | (go_at_call 111; exact zJ hF1 hF2 (zZ _)) | fail)
    refine wpQuiet_nil ?_
    rintro _ ⟨uW, rfl⟩
    have B2 := zO B1 (hF1 uW)
    obtain ⟨Ah, Ai, Ag⟩ := yA (hF1 uW) Ab Ac Aa
    obtain ⟨w2, hw⟩ : ∃ V, F uW = V := ⟨_, rfl⟩
    rw [hw] at B2 Ah Ai Ag
    try rw [hw]
    clear hw hF1 hF2 B1 fx_0 fx_1 fx_2 fx_3 fy_0 fy_1 fy_2 fy_3 fz_0 fz_1 fz_2 fz_3 Ab Ap Aq Ar As Ac At Au Av Aw Aa Ax Ay Az AA
    clear F
    obtain ⟨AB, AC, AD, AE⟩ := zC Ah
    obtain ⟨AF, AG, AH, AI⟩ := zC Ai
    obtain ⟨AJ, AK, AL, AM⟩ := zC Ag
    have q0 := fz (k := 0) Ag
    have q1 := fz (k := 1) Ag
    have q2 := fz (k := 2) Ag
    have q3 := fz (k := 3) Ag
    obtain ⟨E0, E1, E2, E3⟩ := yC Ag rfl (.bool true) (.string s) (.string t) (.int .i64 e)
    go_wp2
    exact bodyPost_ret (v := .tuple #[.agg #[.bool true, .string s, .string t, .int .i64 e], .int .i64 0]) (by simp [results, Tryz.results55, go_sem, E0, E1, E2, E3]) rfl ⟨rfl, z9 B2 (by first | exact Nat.le_refl _ | omega) _ _ _ _⟩
  ·
   rw [if_neg m0] at hr
   have ha : -1048576 ≤ e ∧ e ≤ 1048576 ∧ -1048576 ≤ g ∧ g ≤ 1048576 := ⟨hx.2.2.1, hx.2.2.2.1, hy.2.2.1, hy.2.2.2.1⟩
   have l1 : nl n ≤ 16384 := hx.1
   have l2 : nl d ≤ 16384 := hx.2.1
   have l3 : nl m ≤ 16384 := hy.1
   have l4 : nl f ≤ 16384 := hy.2.1
   have d1 : d ≠ 0 := hx.d0
   have d2 : f ≠ 0 := hy.d0
   obtain ⟨A, hA⟩ : ∃ A, XMath.sA (XN.mk b n d e) (XN.mk c m f g) = A := ⟨_, rfl⟩
   obtain ⟨B, hB⟩ : ∃ A, XMath.sA (XN.mk c m f g) (XN.mk b n d e) = A := ⟨_, rfl⟩
   obtain ⟨S, hS⟩ : ∃ A, sS (XN.mk b n d e) (XN.mk c m f g) = A := ⟨_, rfl⟩
   obtain ⟨Z, hZ⟩ : ∃ A, sN (XN.mk b n d e) (XN.mk c m f g) = A := ⟨_, rfl⟩
   obtain ⟨L, hL⟩ : ∃ L, min e g = L := ⟨_, rfl⟩
   have hS2 : S = (if b = c then A + B else if A < B then B - A else A - B) := by rw [← hS]; unfold sS; rw [hA, hB]
   have hZ2 : Z = (if b = c then b else if A < B then c else b) := by rw [← hZ]; unfold sN; rw [hA, hB]
   have hr2 : (if nl A ≤ 16384 ∧ nl B ≤ 16384 ∧ nl (d * f) ≤ 16384 ∧ nl S ≤ 16384 then XMath.mk Z S (d * f) L else (XZ, 4)) = (⟨rb, rn, rd, re⟩, err) := by rw [← hA, ← hB, ← hS, ← hZ, ← hL]; exact hr
   have HT2 := zH ht
   have HQ2 := zH hq
   have L2 := zH l2
   have L4 := zH l4
   by_cases h12 : nl A ≤ 16384 ∧ nl B ≤ 16384
   ·
    obtain ⟨x, hxa⟩ : ∃ x, yG A = x := ⟨_, rfl⟩
    obtain ⟨y, hyb⟩ : ∃ x, yG B = x := ⟨_, rfl⟩
    have K1 := zH (fun w => alikex b n d e s t c m f g p q x y 0 hs ht hp hq l1 l2 l3 l4 ha (by rw [hA, hB, if_pos h12, hxa, hyb]) w)
    by_cases h3 : nl (d * f) ≤ 16384
    ·
     obtain ⟨z, hz⟩ : ∃ x, yG (d * f) = x := ⟨_, rfl⟩
     have HX := zH (lg_ok (d * f) z h3 hz)
     by_cases h4 : nl S ≤ 16384
     ·
      obtain ⟨y2, hy2⟩ : ∃ x, yG S = x := ⟨_, rfl⟩
      rw [if_pos ⟨h12.1, h12.2, h3, h4⟩] at hr2
      have K2 := zH (fun w => signedSumx b c A B x y Z y2 0 hxa hyb h12.1 h12.2 (by
       unfold ssX
       rw [hZ2, ← hy2, hS2]
       by_cases hb : b = c
       ·
        rw [if_pos hb, if_pos hb, if_pos hb]
        rw [hS2, if_pos hb] at h4
        rw [lg_ok _ _ h4 rfl]
       ·
        rw [if_neg hb, if_neg hb, if_neg hb]
        by_cases hl : A < B
        ·
         rw [if_pos hl, if_pos hl, if_pos hl]
        ·
         rw [if_neg hl, if_neg hl, if_neg hl]) w)
      have K3 := zH (fun w hT => formx Z S (d * f) L y2 z rb rn rd re err u v hy2 hz h4 h3 (mul_ne d1 d2) (by omega) (by omega) hr2 hu hv w hT)
      clear hs ht hp hq hx hy hr hr2 hu hv hT n0 m0 l1 l2 l3 l4 d1 d2 hA hB hS hZ hS2 hZ2 h12 h3 h4 hxa hyb hz hy2 ha
      cases b
      ·
       obtain ⟨Ad, Ae, Af, B0⟩ := opn3 w (Obj.cells #[.bool false, .string s, .string t, .int .i64 e] 41) (Obj.cells #[.bool c, .string p, .string q, .int .i64 g] 41) (Obj.cells #[.bool false, .string ⟨#[]⟩, .string ⟨#[]⟩, .int .i64 0] 41)
       go_enter Tryz.func55, Tryz.ntmps55
       go_wp2_with fail
       obtain ⟨F, hF1, hF2⟩ := zQ (((w.alloc (Obj.cells #[.bool false, .string s, .string t, .int .i64 e] 41)).alloc (Obj.cells #[.bool c, .string p, .string q, .int .i64 g] 41)).alloc (Obj.cells #[.bool false, .string ⟨#[]⟩, .string ⟨#[]⟩, .int .i64 0] 41))
       have fx_0 := fun u => zE (zA (hF1 u) _ _ _ Ad) 0 _ rfl
       have fx_1 := fun u => zE (zA (hF1 u) _ _ _ Ad) 1 _ rfl
       have fx_2 := fun u => zE (zA (hF1 u) _ _ _ Ad) 2 _ rfl
       have fx_3 := fun u => zE (zA (hF1 u) _ _ _ Ad) 3 _ rfl
       have fy_0 := fun u => zE (zA (hF1 u) _ _ _ Ae) 0 _ rfl
       have fy_1 := fun u => zE (zA (hF1 u) _ _ _ Ae) 1 _ rfl
       have fy_2 := fun u => zE (zA (hF1 u) _ _ _ Ae) 2 _ rfl
       have fy_3 := fun u => zE (zA (hF1 u) _ _ _ Ae) 3 _ rfl
       have fz_0 := fun u => zE (zA (hF1 u) _ _ _ Af) 0 _ rfl
       have fz_1 := fun u => zE (zA (hF1 u) _ _ _ Af) 1 _ rfl
       have fz_2 := fun u => zE (zA (hF1 u) _ _ _ Af) 2 _ rfl
       have fz_3 := fun u => zE (zA (hF1 u) _ _ _ Af) 3 _ rfl
       refine zI F hF2 (by kernel_rfl) (by kernel_rfl) ?_
       repeat first | go_big_quiet_step (first | (go_at_call 111; exact zJ hF1 hF2 (zZ _)) | fail) | quiet_step (first | (go_at_call 111; exact zJ hF1 hF2 (zZ _)) | fail)
       refine wpQuiet_nil ?_
       rintro _ ⟨uW, rfl⟩
       have B1 := zO B0 (hF1 uW)
       obtain ⟨Ab, Ac, Aa⟩ := yA (hF1 uW) Ad Ae Af
       obtain ⟨w1, hw⟩ : ∃ V, F uW = V := ⟨_, rfl⟩
       rw [hw] at B1 Ab Ac Aa
       try rw [hw]
       clear hw hF1 hF2 B0 fx_0 fx_1 fx_2 fx_3 fy_0 fy_1 fy_2 fy_3 fz_0 fz_1 fz_2 fz_3 Ad Ae Af
       clear F
       obtain ⟨Ap, Aq, Ar, As⟩ := zC Ab
       obtain ⟨At, Au, Av, Aw⟩ := zC Ac
       obtain ⟨Ax, Ay, Az, AA⟩ := zC Aa
       cases c
       ·
        skip
        go_wp2_with fail
        obtain ⟨F, hF1, hF2⟩ := zQ w1
        have fx_0 := fun u => zE (zA (hF1 u) _ _ _ Ab) 0 _ rfl
        have fx_1 := fun u => zE (zA (hF1 u) _ _ _ Ab) 1 _ rfl
        have fx_2 := fun u => zE (zA (hF1 u) _ _ _ Ab) 2 _ rfl
        have fx_3 := fun u => zE (zA (hF1 u) _ _ _ Ab) 3 _ rfl
        have fy_0 := fun u => zE (zA (hF1 u) _ _ _ Ac) 0 _ rfl
        have fy_1 := fun u => zE (zA (hF1 u) _ _ _ Ac) 1 _ rfl
        have fy_2 := fun u => zE (zA (hF1 u) _ _ _ Ac) 2 _ rfl
        have fy_3 := fun u => zE (zA (hF1 u) _ _ _ Ac) 3 _ rfl
        have fz_0 := fun u => zE (zA (hF1 u) _ _ _ Aa) 0 _ rfl
        have fz_1 := fun u => zE (zA (hF1 u) _ _ _ Aa) 1 _ rfl
        have fz_2 := fun u => zE (zA (hF1 u) _ _ _ Aa) 2 _ rfl
        have fz_3 := fun u => zE (zA (hF1 u) _ _ _ Aa) 3 _ rfl
        refine zI F hF2 (by kernel_rfl) (by kernel_rfl) ?_
        repeat first | go_big_quiet_step (first | (go_at_call 111; exact zJ hF1 hF2 (zZ _)) | fail) | quiet_step (first | (go_at_call 111; exact zJ hF1 hF2 (zZ _)) | fail)
        refine wpQuiet_nil ?_
        rintro _ ⟨uW, rfl⟩
        have B2 := zO B1 (hF1 uW)
        obtain ⟨Ah, Ai, Ag⟩ := yA (hF1 uW) Ab Ac Aa
        obtain ⟨w2, hw⟩ : ∃ V, F uW = V := ⟨_, rfl⟩
        rw [hw] at B2 Ah Ai Ag
        try rw [hw]
        clear hw hF1 hF2 B1 fx_0 fx_1 fx_2 fx_3 fy_0 fy_1 fy_2 fy_3 fz_0 fz_1 fz_2 fz_3 Ab Ap Aq Ar As Ac At Au Av Aw Aa Ax Ay Az AA
        clear F
        obtain ⟨AB, AC, AD, AE⟩ := zC Ah
        obtain ⟨AF, AG, AH, AI⟩ := zC Ai
        obtain ⟨AJ, AK, AL, AM⟩ := zC Ag
        go_wp2_with fail
        refine (K1.out _).mono ?_
        rintro r w3 ⟨rfl, b3⟩
        have B3 := zO B2 b3
        obtain ⟨Al, Am, Aj⟩ := yA b3 Ah Ai Ag
        clear b3 B2 Ah AB AC AD AE Ai AF AG AH AI Ag AJ AK AL AM
        obtain ⟨AP, AQ, AR, AS⟩ := zC Al
        obtain ⟨AT, AU, AV, AW⟩ := zC Am
        obtain ⟨AX, AY, AZ, A0⟩ := zC Aj
        go_wp2_with fail
        refine (xO d f t q z 0 HT2.out HQ2.out L2.out L4.out HX.out _).mono ?_
        rintro r w4 ⟨rfl, b4⟩
        have B4 := zO B3 b4
        obtain ⟨An, Ao, Ak⟩ := yA b4 Al Am Aj
        clear b4 B3 Al AP AQ AR AS Am AT AU AV AW Aj AX AY AZ A0
        obtain ⟨A3, A4, A5, A6⟩ := zC An
        obtain ⟨A7, A8, A9, Ba⟩ := zC Ao
        obtain ⟨Bb, Bc, Bd, Be⟩ := zC Ak
        go_wp2_with fail
        refine (K2.out _).mono ?_
        rintro r w5 ⟨rfl, b5⟩
        have B5 := zO B4 b5
        obtain ⟨A1, A2, AN⟩ := yA b5 An Ao Ak
        clear b5 B4 An A3 A4 A5 A6 Ao A7 A8 A9 Ba Ak Bb Bc Bd Be
        obtain ⟨Bf, Bg, Bh, Bi⟩ := zC A1
        obtain ⟨Bj, Bk, Bl, Bm⟩ := zC A2
        obtain ⟨Bn, Bo, Bp, Bq⟩ := zC AN
        go_wp2_with fail
        refine (K3.out _ (zV TT.out B5)).mono ?_
        rintro r w6 ⟨rfl, b6⟩
        have B6 := zO B5 b6
        obtain ⟨Br, Bs, AO⟩ := yA b6 A1 A2 AN
        clear b6 B5 A1 Bf Bg Bh Bi A2 Bj Bk Bl Bm AN Bn Bo Bp Bq
        obtain ⟨Bt, Bu, Bv, Bw⟩ := zC Br
        obtain ⟨Bx, By, Bz, BA⟩ := zC Bs
        obtain ⟨BB, BC, BD, BE⟩ := zC AO
        have q0 := fz (k := 0) AO
        have q1 := fz (k := 1) AO
        have q2 := fz (k := 2) AO
        have q3 := fz (k := 3) AO
        obtain ⟨E0, E1, E2, E3⟩ := yC AO rfl (.bool rb) (.string u) (.string v) (.int .i64 re)
        go_wp2
        exact bodyPost_ret (v := .tuple #[.agg #[.bool rb, .string u, .string v, .int .i64 re], .int .i64 err]) (by simp [results, Tryz.results55, go_sem, E0, E1, E2, E3]) rfl ⟨rfl, z9 B6 (by first | exact Nat.le_refl _ | omega) _ _ _ _⟩
       ·
        skip
        go_wp2_with fail
        obtain ⟨F, hF1, hF2⟩ := zQ w1
        have fx_0 := fun u => zE (zA (hF1 u) _ _ _ Ab) 0 _ rfl
        have fx_1 := fun u => zE (zA (hF1 u) _ _ _ Ab) 1 _ rfl
        have fx_2 := fun u => zE (zA (hF1 u) _ _ _ Ab) 2 _ rfl
        have fx_3 := fun u => zE (zA (hF1 u) _ _ _ Ab) 3 _ rfl
        have fy_0 := fun u => zE (zA (hF1 u) _ _ _ Ac) 0 _ rfl
        have fy_1 := fun u => zE (zA (hF1 u) _ _ _ Ac) 1 _ rfl
        have fy_2 := fun u => zE (zA (hF1 u) _ _ _ Ac) 2 _ rfl
        have fy_3 := fun u => zE (zA (hF1 u) _ _ _ Ac) 3 _ rfl
        have fz_0 := fun u => zE (zA (hF1 u) _ _ _ Aa) 0 _ rfl
        have fz_1 := fun u => zE (zA (hF1 u) _ _ _ Aa) 1 _ rfl
        have fz_2 := fun u => zE (zA (hF1 u) _ _ _ Aa) 2 _ rfl
        have fz_3 := fun u => zE (zA (hF1 u) _ _ _ Aa) 3 _ rfl
        refine zI F hF2 (by kernel_rfl) (by kernel_rfl) ?_
        repeat first | go_big_quiet_step (first | (go_at_call 111; exact zJ hF1 hF2 (zZ _)) | fail) | quiet_step (first | (go_at_call 111; exact zJ hF1 hF2 (zZ _)) | fail)
        refine wpQuiet_nil ?_
        rintro _ ⟨uW, rfl⟩
        have B2 := zO B1 (hF1 uW)
        obtain ⟨Ah, Ai, Ag⟩ := yA (hF1 uW) Ab Ac Aa
        obtain ⟨w2, hw⟩ : ∃ V, F uW = V := ⟨_, rfl⟩
        rw [hw] at B2 Ah Ai Ag
        try rw [hw]
        clear hw hF1 hF2 B1 fx_0 fx_1 fx_2 fx_3 fy_0 fy_1 fy_2 fy_3 fz_0 fz_1 fz_2 fz_3 Ab Ap Aq Ar As Ac At Au Av Aw Aa Ax Ay Az AA
        clear F
        obtain ⟨AB, AC, AD, AE⟩ := zC Ah
        obtain ⟨AF, AG, AH, AI⟩ := zC Ai
        obtain ⟨AJ, AK, AL, AM⟩ := zC Ag
        go_wp2_with fail
        refine (K1.out _).mono ?_
        rintro r w3 ⟨rfl, b3⟩
        have B3 := zO B2 b3
        obtain ⟨Al, Am, Aj⟩ := yA b3 Ah Ai Ag
        clear b3 B2 Ah AB AC AD AE Ai AF AG AH AI Ag AJ AK AL AM
        obtain ⟨AP, AQ, AR, AS⟩ := zC Al
        obtain ⟨AT, AU, AV, AW⟩ := zC Am
        obtain ⟨AX, AY, AZ, A0⟩ := zC Aj
        go_wp2_with fail
        refine (xO d f t q z 0 HT2.out HQ2.out L2.out L4.out HX.out _).mono ?_
        rintro r w4 ⟨rfl, b4⟩
        have B4 := zO B3 b4
        obtain ⟨An, Ao, Ak⟩ := yA b4 Al Am Aj
        clear b4 B3 Al AP AQ AR AS Am AT AU AV AW Aj AX AY AZ A0
        obtain ⟨A3, A4, A5, A6⟩ := zC An
        obtain ⟨A7, A8, A9, Ba⟩ := zC Ao
        obtain ⟨Bb, Bc, Bd, Be⟩ := zC Ak
        go_wp2_with fail
        refine (K2.out _).mono ?_
        rintro r w5 ⟨rfl, b5⟩
        have B5 := zO B4 b5
        obtain ⟨A1, A2, AN⟩ := yA b5 An Ao Ak
        clear b5 B4 An A3 A4 A5 A6 Ao A7 A8 A9 Ba Ak Bb Bc Bd Be
        obtain ⟨Bf, Bg, Bh, Bi⟩ := zC A1
        obtain ⟨Bj, Bk, Bl, Bm⟩ := zC A2
        obtain ⟨Bn, Bo, Bp, Bq⟩ := zC AN
        go_wp2_with fail
        refine (K3.out _ (zV TT.out B5)).mono ?_
        rintro r w6 ⟨rfl, b6⟩
        have B6 := zO B5 b6
        obtain ⟨Br, Bs, AO⟩ := yA b6 A1 A2 AN
        clear b6 B5 A1 Bf Bg Bh Bi A2 Bj Bk Bl Bm AN Bn Bo Bp Bq
        obtain ⟨Bt, Bu, Bv, Bw⟩ := zC Br
        obtain ⟨Bx, By, Bz, BA⟩ := zC Bs
        obtain ⟨BB, BC, BD, BE⟩ := zC AO
        have q0 := fz (k := 0) AO
        have q1 := fz (k := 1) AO
        have q2 := fz (k := 2) AO
        have q3 := fz (k := 3) AO
        obtain ⟨E0, E1, E2, E3⟩ := yC AO rfl (.bool rb) (.string u) (.string v) (.int .i64 re)
        go_wp2
        exact bodyPost_ret (v := .tuple #[.agg #[.bool rb, .string u, .string v, .int .i64 re], .int .i64 err]) (by simp [results, Tryz.results55, go_sem, E0, E1, E2, E3]) rfl ⟨rfl, z9 B6 (by first | exact Nat.le_refl _ | omega) _ _ _ _⟩
      ·
       obtain ⟨Ad, Ae, Af, B0⟩ := opn3 w (Obj.cells #[.bool true, .string s, .string t, .int .i64 e] 41) (Obj.cells #[.bool c, .string p, .string q, .int .i64 g] 41) (Obj.cells #[.bool false, .string ⟨#[]⟩, .string ⟨#[]⟩, .int .i64 0] 41)
       go_enter Tryz.func55, Tryz.ntmps55
       go_wp2_with fail
       obtain ⟨F, hF1, hF2⟩ := zQ (((w.alloc (Obj.cells #[.bool true, .string s, .string t, .int .i64 e] 41)).alloc (Obj.cells #[.bool c, .string p, .string q, .int .i64 g] 41)).alloc (Obj.cells #[.bool false, .string ⟨#[]⟩, .string ⟨#[]⟩, .int .i64 0] 41))
       have fx_0 := fun u => zE (zA (hF1 u) _ _ _ Ad) 0 _ rfl
       have fx_1 := fun u => zE (zA (hF1 u) _ _ _ Ad) 1 _ rfl
       have fx_2 := fun u => zE (zA (hF1 u) _ _ _ Ad) 2 _ rfl
       have fx_3 := fun u => zE (zA (hF1 u) _ _ _ Ad) 3 _ rfl
       have fy_0 := fun u => zE (zA (hF1 u) _ _ _ Ae) 0 _ rfl
       have fy_1 := fun u => zE (zA (hF1 u) _ _ _ Ae) 1 _ rfl
       have fy_2 := fun u => zE (zA (hF1 u) _ _ _ Ae) 2 _ rfl
       have fy_3 := fun u => zE (zA (hF1 u) _ _ _ Ae) 3 _ rfl
       have fz_0 := fun u => zE (zA (hF1 u) _ _ _ Af) 0 _ rfl
       have fz_1 := fun u => zE (zA (hF1 u) _ _ _ Af) 1 _ rfl
       have fz_2 := fun u => zE (zA (hF1 u) _ _ _ Af) 2 _ rfl
       have fz_3 := fun u => zE (zA (hF1 u) _ _ _ Af) 3 _ rfl
       refine zI F hF2 (by kernel_rfl) (by kernel_rfl) ?_
       repeat first | go_big_quiet_step (first | (go_at_call 111; exact zJ hF1 hF2 (zZ _)) | fail) | quiet_step (first | (go_at_call 111; exact zJ hF1 hF2 (zZ _)) | fail)
       refine wpQuiet_nil ?_
       rintro _ ⟨uW, rfl⟩
       have B1 := zO B0 (hF1 uW)
       obtain ⟨Ab, Ac, Aa⟩ := yA (hF1 uW) Ad Ae Af
       obtain ⟨w1, hw⟩ : ∃ V, F uW = V := ⟨_, rfl⟩
       rw [hw] at B1 Ab Ac Aa
       try rw [hw]
       clear hw hF1 hF2 B0 fx_0 fx_1 fx_2 fx_3 fy_0 fy_1 fy_2 fy_3 fz_0 fz_1 fz_2 fz_3 Ad Ae Af
       clear F
       obtain ⟨Ap, Aq, Ar, As⟩ := zC Ab
       obtain ⟨At, Au, Av, Aw⟩ := zC Ac
       obtain ⟨Ax, Ay, Az, AA⟩ := zC Aa
       cases c
       ·
        skip
        go_wp2_with fail
        obtain ⟨F, hF1, hF2⟩ := zQ w1
        have fx_0 := fun u => zE (zA (hF1 u) _ _ _ Ab) 0 _ rfl
        have fx_1 := fun u => zE (zA (hF1 u) _ _ _ Ab) 1 _ rfl
        have fx_2 := fun u => zE (zA (hF1 u) _ _ _ Ab) 2 _ rfl
        have fx_3 := fun u => zE (zA (hF1 u) _ _ _ Ab) 3 _ rfl
        have fy_0 := fun u => zE (zA (hF1 u) _ _ _ Ac) 0 _ rfl
        have fy_1 := fun u => zE (zA (hF1 u) _ _ _ Ac) 1 _ rfl
        have fy_2 := fun u => zE (zA (hF1 u) _ _ _ Ac) 2 _ rfl
        have fy_3 := fun u => zE (zA (hF1 u) _ _ _ Ac) 3 _ rfl
        have fz_0 := fun u => zE (zA (hF1 u) _ _ _ Aa) 0 _ rfl
        have fz_1 := fun u => zE (zA (hF1 u) _ _ _ Aa) 1 _ rfl
        have fz_2 := fun u => zE (zA (hF1 u) _ _ _ Aa) 2 _ rfl
        have fz_3 := fun u => zE (zA (hF1 u) _ _ _ Aa) 3 _ rfl
        refine zI F hF2 (by kernel_rfl) (by kernel_rfl) ?_
        repeat first | go_big_quiet_step (first | (go_at_call 111; exact zJ hF1 hF2 (zZ _)) | fail) | quiet_step (first | (go_at_call 111; exact zJ hF1 hF2 (zZ _)) | fail)
        refine wpQuiet_nil ?_
        rintro _ ⟨uW, rfl⟩
        have B2 := zO B1 (hF1 uW)
        obtain ⟨Ah, Ai, Ag⟩ := yA (hF1 uW) Ab Ac Aa
        obtain ⟨w2, hw⟩ : ∃ V, F uW = V := ⟨_, rfl⟩
        rw [hw] at B2 Ah Ai Ag
        try rw [hw]
        clear hw hF1 hF2 B1 fx_0 fx_1 fx_2 fx_3 fy_0 fy_1 fy_2 fy_3 fz_0 fz_1 fz_2 fz_3 Ab Ap Aq Ar As Ac At Au Av Aw Aa Ax Ay Az AA
        clear F
        obtain ⟨AB, AC, AD, AE⟩ := zC Ah
        obtain ⟨AF, AG, AH, AI⟩ := zC Ai
        obtain ⟨AJ, AK, AL, AM⟩ := zC Ag
        go_wp2_with fail
        refine (K1.out _).mono ?_
        rintro r w3 ⟨rfl, b3⟩
        have B3 := zO B2 b3
        obtain ⟨Al, Am, Aj⟩ := yA b3 Ah Ai Ag
        clear b3 B2 Ah AB AC AD AE Ai AF AG AH AI Ag AJ AK AL AM
        obtain ⟨AP, AQ, AR, AS⟩ := zC Al
        obtain ⟨AT, AU, AV, AW⟩ := zC Am
        obtain ⟨AX, AY, AZ, A0⟩ := zC Aj
        go_wp2_with fail
        refine (xO d f t q z 0 HT2.out HQ2.out L2.out L4.out HX.out _).mono ?_
        rintro r w4 ⟨rfl, b4⟩
        have B4 := zO B3 b4
        obtain ⟨An, Ao, Ak⟩ := yA b4 Al Am Aj
        clear b4 B3 Al AP AQ AR AS Am AT AU AV AW Aj AX AY AZ A0
        obtain ⟨A3, A4, A5, A6⟩ := zC An
        obtain ⟨A7, A8, A9, Ba⟩ := zC Ao
        obtain ⟨Bb, Bc, Bd, Be⟩ := zC Ak
        go_wp2_with fail
        refine (K2.out _).mono ?_
        rintro r w5 ⟨rfl, b5⟩
        have B5 := zO B4 b5
        obtain ⟨A1, A2, AN⟩ := yA b5 An Ao Ak
        clear b5 B4 An A3 A4 A5 A6 Ao A7 A8 A9 Ba Ak Bb Bc Bd Be
        obtain ⟨Bf, Bg, Bh, Bi⟩ := zC A1
        obtain ⟨Bj, Bk, Bl, Bm⟩ := zC A2
        obtain ⟨Bn, Bo, Bp, Bq⟩ := zC AN
        go_wp2_with fail
        refine (K3.out _ (zV TT.out B5)).mono ?_
        rintro r w6 ⟨rfl, b6⟩
        have B6 := zO B5 b6
        obtain ⟨Br, Bs, AO⟩ := yA b6 A1 A2 AN
        clear b6 B5 A1 Bf Bg Bh Bi A2 Bj Bk Bl Bm AN Bn Bo Bp Bq
        obtain ⟨Bt, Bu, Bv, Bw⟩ := zC Br
        obtain ⟨Bx, By, Bz, BA⟩ := zC Bs
        obtain ⟨BB, BC, BD, BE⟩ := zC AO
        have q0 := fz (k := 0) AO
        have q1 := fz (k := 1) AO
        have q2 := fz (k := 2) AO
        have q3 := fz (k := 3) AO
        obtain ⟨E0, E1, E2, E3⟩ := yC AO rfl (.bool rb) (.string u) (.string v) (.int .i64 re)
        go_wp2
        exact bodyPost_ret (v := .tuple #[.agg #[.bool rb, .string u, .string v, .int .i64 re], .int .i64 err]) (by simp [results, Tryz.results55, go_sem, E0, E1, E2, E3]) rfl ⟨rfl, z9 B6 (by first | exact Nat.le_refl _ | omega) _ _ _ _⟩
       ·
        skip
        go_wp2_with fail
        obtain ⟨F, hF1, hF2⟩ := zQ w1
        have fx_0 := fun u => zE (zA (hF1 u) _ _ _ Ab) 0 _ rfl
        have fx_1 := fun u => zE (zA (hF1 u) _ _ _ Ab) 1 _ rfl
        have fx_2 := fun u => zE (zA (hF1 u) _ _ _ Ab) 2 _ rfl
        have fx_3 := fun u => zE (zA (hF1 u) _ _ _ Ab) 3 _ rfl
        have fy_0 := fun u => zE (zA (hF1 u) _ _ _ Ac) 0 _ rfl
        have fy_1 := fun u => zE (zA (hF1 u) _ _ _ Ac) 1 _ rfl
        have fy_2 := fun u => zE (zA (hF1 u) _ _ _ Ac) 2 _ rfl
        have fy_3 := fun u => zE (zA (hF1 u) _ _ _ Ac) 3 _ rfl
        have fz_0 := fun u => zE (zA (hF1 u) _ _ _ Aa) 0 _ rfl
        have fz_1 := fun u => zE (zA (hF1 u) _ _ _ Aa) 1 _ rfl
        have fz_2 := fun u => zE (zA (hF1 u) _ _ _ Aa) 2 _ rfl
        have fz_3 := fun u => zE (zA (hF1 u) _ _ _ Aa) 3 _ rfl
        refine zI F hF2 (by kernel_rfl) (by kernel_rfl) ?_
        repeat first | go_big_quiet_step (first | (go_at_call 111; exact zJ hF1 hF2 (zZ _)) | fail) | quiet_step (first | (go_at_call 111; exact zJ hF1 hF2 (zZ _)) | fail)
        refine wpQuiet_nil ?_
        rintro _ ⟨uW, rfl⟩
        have B2 := zO B1 (hF1 uW)
        obtain ⟨Ah, Ai, Ag⟩ := yA (hF1 uW) Ab Ac Aa
        obtain ⟨w2, hw⟩ : ∃ V, F uW = V := ⟨_, rfl⟩
        rw [hw] at B2 Ah Ai Ag
        try rw [hw]
        clear hw hF1 hF2 B1 fx_0 fx_1 fx_2 fx_3 fy_0 fy_1 fy_2 fy_3 fz_0 fz_1 fz_2 fz_3 Ab Ap Aq Ar As Ac At Au Av Aw Aa Ax Ay Az AA
        clear F
        obtain ⟨AB, AC, AD, AE⟩ := zC Ah
        obtain ⟨AF, AG, AH, AI⟩ := zC Ai
        obtain ⟨AJ, AK, AL, AM⟩ := zC Ag
        go_wp2_with fail
        refine (K1.out _).mono ?_
        rintro r w3 ⟨rfl, b3⟩
        have B3 := zO B2 b3
        obtain ⟨Al, Am, Aj⟩ := yA b3 Ah Ai Ag
        clear b3 B2 Ah AB AC AD AE Ai AF AG AH AI Ag AJ AK AL AM
        obtain ⟨AP, AQ, AR, AS⟩ := zC Al
        obtain ⟨AT, AU, AV, AW⟩ := zC Am
        obtain ⟨AX, AY, AZ, A0⟩ := zC Aj
        go_wp2_with fail
        refine (xO d f t q z 0 HT2.out HQ2.out L2.out L4.out HX.out _).mono ?_
        rintro r w4 ⟨rfl, b4⟩
        have B4 := zO B3 b4
        obtain ⟨An, Ao, Ak⟩ := yA b4 Al Am Aj
        clear b4 B3 Al AP AQ AR AS Am AT AU AV AW Aj AX AY AZ A0
        obtain ⟨A3, A4, A5, A6⟩ := zC An
        obtain ⟨A7, A8, A9, Ba⟩ := zC Ao
        obtain ⟨Bb, Bc, Bd, Be⟩ := zC Ak
        go_wp2_with fail
        refine (K2.out _).mono ?_
        rintro r w5 ⟨rfl, b5⟩
        have B5 := zO B4 b5
        obtain ⟨A1, A2, AN⟩ := yA b5 An Ao Ak
        clear b5 B4 An A3 A4 A5 A6 Ao A7 A8 A9 Ba Ak Bb Bc Bd Be
        obtain ⟨Bf, Bg, Bh, Bi⟩ := zC A1
        obtain ⟨Bj, Bk, Bl, Bm⟩ := zC A2
        obtain ⟨Bn, Bo, Bp, Bq⟩ := zC AN
        go_wp2_with fail
        refine (K3.out _ (zV TT.out B5)).mono ?_
        rintro r w6 ⟨rfl, b6⟩
        have B6 := zO B5 b6
        obtain ⟨Br, Bs, AO⟩ := yA b6 A1 A2 AN
        clear b6 B5 A1 Bf Bg Bh Bi A2 Bj Bk Bl Bm AN Bn Bo Bp Bq
        obtain ⟨Bt, Bu, Bv, Bw⟩ := zC Br
        obtain ⟨Bx, By, Bz, BA⟩ := zC Bs
        obtain ⟨BB, BC, BD, BE⟩ := zC AO
        have q0 := fz (k := 0) AO
        have q1 := fz (k := 1) AO
        have q2 := fz (k := 2) AO
        have q3 := fz (k := 3) AO
        obtain ⟨E0, E1, E2, E3⟩ := yC AO rfl (.bool rb) (.string u) (.string v) (.int .i64 re)
        go_wp2
        exact bodyPost_ret (v := .tuple #[.agg #[.bool rb, .string u, .string v, .int .i64 re], .int .i64 err]) (by simp [results, Tryz.results55, go_sem, E0, E1, E2, E3]) rfl ⟨rfl, z9 B6 (by first | exact Nat.le_refl _ | omega) _ _ _ _⟩
     ·
      rw [if_neg (fun h => h4 h.2.2.2)] at hr2
      obtain ⟨rfl, rfl, rfl, rfl, rfl⟩ := xz_is hr2
      rw [yM] at hu hv
      subst hu hv
      have hbc : b = c := by
       cases hk : decide (b = c)
       ·
        have hne : b ≠ c := of_decide_eq_false hk
        exact absurd (by rw [← hS]; exact sS_nl (XN.mk b n d e) (XN.mk c m f g) (by rw [hA]; exact h12.1) (by rw [hB]; exact h12.2) hne) h4
       ·
        exact of_decide_eq_true hk
      rw [if_pos hbc] at hS2
      have K2 := zH (fun w => signedSumx b c A B x y b ⟨#[]⟩ 4 hxa hyb h12.1 h12.2 (by
       unfold ssX
       rw [if_pos hbc, lg_no _ (by rw [← hS2]; exact h4)]) w)
      subst hbc
      clear hs ht hp hq hx hy hr hr2 hT n0 m0 l1 l2 l3 l4 d1 d2 hA hB hS hZ hS2 hZ2 h12 h3 h4 hxa hyb hz ha
      cases b
      ·
       obtain ⟨Ad, Ae, Af, B0⟩ := opn3 w (Obj.cells #[.bool false, .string s, .string t, .int .i64 e] 41) (Obj.cells #[.bool false, .string p, .string q, .int .i64 g] 41) (Obj.cells #[.bool false, .string ⟨#[]⟩, .string ⟨#[]⟩, .int .i64 0] 41)
       go_enter Tryz.func55, Tryz.ntmps55
       go_wp2_with fail
       obtain ⟨F, hF1, hF2⟩ := zQ (((w.alloc (Obj.cells #[.bool false, .string s, .string t, .int .i64 e] 41)).alloc (Obj.cells #[.bool false, .string p, .string q, .int .i64 g] 41)).alloc (Obj.cells #[.bool false, .string ⟨#[]⟩, .string ⟨#[]⟩, .int .i64 0] 41))
       have fx_0 := fun u => zE (zA (hF1 u) _ _ _ Ad) 0 _ rfl
       have fx_1 := fun u => zE (zA (hF1 u) _ _ _ Ad) 1 _ rfl
       have fx_2 := fun u => zE (zA (hF1 u) _ _ _ Ad) 2 _ rfl
       have fx_3 := fun u => zE (zA (hF1 u) _ _ _ Ad) 3 _ rfl
       have fy_0 := fun u => zE (zA (hF1 u) _ _ _ Ae) 0 _ rfl
       have fy_1 := fun u => zE (zA (hF1 u) _ _ _ Ae) 1 _ rfl
       have fy_2 := fun u => zE (zA (hF1 u) _ _ _ Ae) 2 _ rfl
       have fy_3 := fun u => zE (zA (hF1 u) _ _ _ Ae) 3 _ rfl
       have fz_0 := fun u => zE (zA (hF1 u) _ _ _ Af) 0 _ rfl
       have fz_1 := fun u => zE (zA (hF1 u) _ _ _ Af) 1 _ rfl
       have fz_2 := fun u => zE (zA (hF1 u) _ _ _ Af) 2 _ rfl
       have fz_3 := fun u => zE (zA (hF1 u) _ _ _ Af) 3 _ rfl
       refine zI F hF2 (by kernel_rfl) (by kernel_rfl) ?_
       repeat first | go_big_quiet_step (first | (go_at_call 111; exact zJ hF1 hF2 (zZ _)) | fail) | quiet_step (first | (go_at_call 111; exact zJ hF1 hF2 (zZ _)) | fail)
       refine wpQuiet_nil ?_
       rintro _ ⟨uW, rfl⟩
       have B1 := zO B0 (hF1 uW)
       obtain ⟨Ab, Ac, Aa⟩ := yA (hF1 uW) Ad Ae Af
       obtain ⟨w1, hw⟩ : ∃ V, F uW = V := ⟨_, rfl⟩
       rw [hw] at B1 Ab Ac Aa
       try rw [hw]
       clear hw hF1 hF2 B0 fx_0 fx_1 fx_2 fx_3 fy_0 fy_1 fy_2 fy_3 fz_0 fz_1 fz_2 fz_3 Ad Ae Af
       clear F
       obtain ⟨Ap, Aq, Ar, As⟩ := zC Ab
       obtain ⟨At, Au, Av, Aw⟩ := zC Ac
       obtain ⟨Ax, Ay, Az, AA⟩ := zC Aa
       go_wp2_with fail
       obtain ⟨F, hF1, hF2⟩ := zQ w1
       have fx_0 := fun u => zE (zA (hF1 u) _ _ _ Ab) 0 _ rfl
       have fx_1 := fun u => zE (zA (hF1 u) _ _ _ Ab) 1 _ rfl
       have fx_2 := fun u => zE (zA (hF1 u) _ _ _ Ab) 2 _ rfl
       have fx_3 := fun u => zE (zA (hF1 u) _ _ _ Ab) 3 _ rfl
       have fy_0 := fun u => zE (zA (hF1 u) _ _ _ Ac) 0 _ rfl
       have fy_1 := fun u => zE (zA (hF1 u) _ _ _ Ac) 1 _ rfl
       have fy_2 := fun u => zE (zA (hF1 u) _ _ _ Ac) 2 _ rfl
       have fy_3 := fun u => zE (zA (hF1 u) _ _ _ Ac) 3 _ rfl
       have fz_0 := fun u => zE (zA (hF1 u) _ _ _ Aa) 0 _ rfl
       have fz_1 := fun u => zE (zA (hF1 u) _ _ _ Aa) 1 _ rfl
       have fz_2 := fun u => zE (zA (hF1 u) _ _ _ Aa) 2 _ rfl
       have fz_3 := fun u => zE (zA (hF1 u) _ _ _ Aa) 3 _ rfl
       refine zI F hF2 (by kernel_rfl) (by kernel_rfl) ?_
       repeat first | go_big_quiet_step (first | (go_at_call 111; exact zJ hF1 hF2 (zZ _)) | fail) | quiet_step (first | (go_at_call 111; exact zJ hF1 hF2 (zZ _)) | fail)
       refine wpQuiet_nil ?_
       rintro _ ⟨uW, rfl⟩
       have B2 := zO B1 (hF1 uW)
       obtain ⟨Ah, Ai, Ag⟩ := yA (hF1 uW) Ab Ac Aa
       obtain ⟨w2, hw⟩ : ∃ V, F uW = V := ⟨_, rfl⟩
       rw [hw] at B2 Ah Ai Ag
       try rw [hw]
       clear hw hF1 hF2 B1 fx_0 fx_1 fx_2 fx_3 fy_0 fy_1 fy_2 fy_3 fz_0 fz_1 fz_2 fz_3 Ab Ap Aq Ar As Ac At Au Av Aw Aa Ax Ay Az AA
       clear F
       obtain ⟨AB, AC, AD, AE⟩ := zC Ah
       obtain ⟨AF, AG, AH, AI⟩ := zC Ai
       obtain ⟨AJ, AK, AL, AM⟩ := zC Ag
       go_wp2_with fail
       refine (K1.out _).mono ?_
       rintro r w3 ⟨rfl, b3⟩
       have B3 := zO B2 b3
       obtain ⟨Al, Am, Aj⟩ := yA b3 Ah Ai Ag
       clear b3 B2 Ah AB AC AD AE Ai AF AG AH AI Ag AJ AK AL AM
       obtain ⟨AP, AQ, AR, AS⟩ := zC Al
       obtain ⟨AT, AU, AV, AW⟩ := zC Am
       obtain ⟨AX, AY, AZ, A0⟩ := zC Aj
       go_wp2_with fail
       refine (xO d f t q z 0 HT2.out HQ2.out L2.out L4.out HX.out _).mono ?_
       rintro r w4 ⟨rfl, b4⟩
       have B4 := zO B3 b4
       obtain ⟨An, Ao, Ak⟩ := yA b4 Al Am Aj
       clear b4 B3 Al AP AQ AR AS Am AT AU AV AW Aj AX AY AZ A0
       obtain ⟨A3, A4, A5, A6⟩ := zC An
       obtain ⟨A7, A8, A9, Ba⟩ := zC Ao
       obtain ⟨Bb, Bc, Bd, Be⟩ := zC Ak
       go_wp2_with fail
       refine (K2.out _).mono ?_
       rintro r w5 ⟨rfl, b5⟩
       have B5 := zO B4 b5
       obtain ⟨A1, A2, AN⟩ := yA b5 An Ao Ak
       clear b5 B4 An A3 A4 A5 A6 Ao A7 A8 A9 Ba Ak Bb Bc Bd Be
       obtain ⟨Bf, Bg, Bh, Bi⟩ := zC A1
       obtain ⟨Bj, Bk, Bl, Bm⟩ := zC A2
       obtain ⟨Bn, Bo, Bp, Bq⟩ := zC AN
       have q0 := fz (k := 0) AN
       have q1 := fz (k := 1) AN
       have q2 := fz (k := 2) AN
       have q3 := fz (k := 3) AN
       obtain ⟨E0, E1, E2, E3⟩ := yC AN rfl (.bool false) (.string ⟨#[]⟩) (.string ⟨#[]⟩) (.int .i64 0)
       go_wp2
       exact bodyPost_ret (v := .tuple #[.agg #[.bool false, .string ⟨#[]⟩, .string ⟨#[]⟩, .int .i64 0], .int .i64 4]) (by simp [results, Tryz.results55, go_sem, E0, E1, E2, E3]) rfl ⟨rfl, z9 B5 (by first | exact Nat.le_refl _ | omega) _ _ _ _⟩
      ·
       obtain ⟨Ad, Ae, Af, B0⟩ := opn3 w (Obj.cells #[.bool true, .string s, .string t, .int .i64 e] 41) (Obj.cells #[.bool true, .string p, .string q, .int .i64 g] 41) (Obj.cells #[.bool false, .string ⟨#[]⟩, .string ⟨#[]⟩, .int .i64 0] 41)
       go_enter Tryz.func55, Tryz.ntmps55
       go_wp2_with fail
       obtain ⟨F, hF1, hF2⟩ := zQ (((w.alloc (Obj.cells #[.bool true, .string s, .string t, .int .i64 e] 41)).alloc (Obj.cells #[.bool true, .string p, .string q, .int .i64 g] 41)).alloc (Obj.cells #[.bool false, .string ⟨#[]⟩, .string ⟨#[]⟩, .int .i64 0] 41))
       have fx_0 := fun u => zE (zA (hF1 u) _ _ _ Ad) 0 _ rfl
       have fx_1 := fun u => zE (zA (hF1 u) _ _ _ Ad) 1 _ rfl
       have fx_2 := fun u => zE (zA (hF1 u) _ _ _ Ad) 2 _ rfl
       have fx_3 := fun u => zE (zA (hF1 u) _ _ _ Ad) 3 _ rfl
       have fy_0 := fun u => zE (zA (hF1 u) _ _ _ Ae) 0 _ rfl
       have fy_1 := fun u => zE (zA (hF1 u) _ _ _ Ae) 1 _ rfl
       have fy_2 := fun u => zE (zA (hF1 u) _ _ _ Ae) 2 _ rfl
       have fy_3 := fun u => zE (zA (hF1 u) _ _ _ Ae) 3 _ rfl
       have fz_0 := fun u => zE (zA (hF1 u) _ _ _ Af) 0 _ rfl
       have fz_1 := fun u => zE (zA (hF1 u) _ _ _ Af) 1 _ rfl
       have fz_2 := fun u => zE (zA (hF1 u) _ _ _ Af) 2 _ rfl
       have fz_3 := fun u => zE (zA (hF1 u) _ _ _ Af) 3 _ rfl
       refine zI F hF2 (by kernel_rfl) (by kernel_rfl) ?_
       repeat first | go_big_quiet_step (first | (go_at_call 111; exact zJ hF1 hF2 (zZ _)) | fail) | quiet_step (first | (go_at_call 111; exact zJ hF1 hF2 (zZ _)) | fail)
       refine wpQuiet_nil ?_
       rintro _ ⟨uW, rfl⟩
       have B1 := zO B0 (hF1 uW)
       obtain ⟨Ab, Ac, Aa⟩ := yA (hF1 uW) Ad Ae Af
       obtain ⟨w1, hw⟩ : ∃ V, F uW = V := ⟨_, rfl⟩
       rw [hw] at B1 Ab Ac Aa
       try rw [hw]
       clear hw hF1 hF2 B0 fx_0 fx_1 fx_2 fx_3 fy_0 fy_1 fy_2 fy_3 fz_0 fz_1 fz_2 fz_3 Ad Ae Af
       clear F
       obtain ⟨Ap, Aq, Ar, As⟩ := zC Ab
       obtain ⟨At, Au, Av, Aw⟩ := zC Ac
       obtain ⟨Ax, Ay, Az, AA⟩ := zC Aa
       go_wp2_with fail
       obtain ⟨F, hF1, hF2⟩ := zQ w1
       have fx_0 := fun u => zE (zA (hF1 u) _ _ _ Ab) 0 _ rfl
       have fx_1 := fun u => zE (zA (hF1 u) _ _ _ Ab) 1 _ rfl
       have fx_2 := fun u => zE (zA (hF1 u) _ _ _ Ab) 2 _ rfl
       have fx_3 := fun u => zE (zA (hF1 u) _ _ _ Ab) 3 _ rfl
       have fy_0 := fun u => zE (zA (hF1 u) _ _ _ Ac) 0 _ rfl
       have fy_1 := fun u => zE (zA (hF1 u) _ _ _ Ac) 1 _ rfl
       have fy_2 := fun u => zE (zA (hF1 u) _ _ _ Ac) 2 _ rfl
       have fy_3 := fun u => zE (zA (hF1 u) _ _ _ Ac) 3 _ rfl
       have fz_0 := fun u => zE (zA (hF1 u) _ _ _ Aa) 0 _ rfl
       have fz_1 := fun u => zE (zA (hF1 u) _ _ _ Aa) 1 _ rfl
       have fz_2 := fun u => zE (zA (hF1 u) _ _ _ Aa) 2 _ rfl
       have fz_3 := fun u => zE (zA (hF1 u) _ _ _ Aa) 3 _ rfl
       refine zI F hF2 (by kernel_rfl) (by kernel_rfl) ?_
       repeat first | go_big_quiet_step (first | (go_at_call 111; exact zJ hF1 hF2 (zZ _)) | fail) | quiet_step (first | (go_at_call 111; exact zJ hF1 hF2 (zZ _)) | fail)
       refine wpQuiet_nil ?_
       rintro _ ⟨uW, rfl⟩
       have B2 := zO B1 (hF1 uW)
       obtain ⟨Ah, Ai, Ag⟩ := yA (hF1 uW) Ab Ac Aa
       obtain ⟨w2, hw⟩ : ∃ V, F uW = V := ⟨_, rfl⟩
       rw [hw] at B2 Ah Ai Ag
       try rw [hw]
       clear hw hF1 hF2 B1 fx_0 fx_1 fx_2 fx_3 fy_0 fy_1 fy_2 fy_3 fz_0 fz_1 fz_2 fz_3 Ab Ap Aq Ar As Ac At Au Av Aw Aa Ax Ay Az AA
       clear F
       obtain ⟨AB, AC, AD, AE⟩ := zC Ah
       obtain ⟨AF, AG, AH, AI⟩ := zC Ai
       obtain ⟨AJ, AK, AL, AM⟩ := zC Ag
       go_wp2_with fail
       refine (K1.out _).mono ?_
       rintro r w3 ⟨rfl, b3⟩
       have B3 := zO B2 b3
       obtain ⟨Al, Am, Aj⟩ := yA b3 Ah Ai Ag
       clear b3 B2 Ah AB AC AD AE Ai AF AG AH AI Ag AJ AK AL AM
       obtain ⟨AP, AQ, AR, AS⟩ := zC Al
       obtain ⟨AT, AU, AV, AW⟩ := zC Am
       obtain ⟨AX, AY, AZ, A0⟩ := zC Aj
       go_wp2_with fail
       refine (xO d f t q z 0 HT2.out HQ2.out L2.out L4.out HX.out _).mono ?_
       rintro r w4 ⟨rfl, b4⟩
       have B4 := zO B3 b4
       obtain ⟨An, Ao, Ak⟩ := yA b4 Al Am Aj
       clear b4 B3 Al AP AQ AR AS Am AT AU AV AW Aj AX AY AZ A0
       obtain ⟨A3, A4, A5, A6⟩ := zC An
       obtain ⟨A7, A8, A9, Ba⟩ := zC Ao
       obtain ⟨Bb, Bc, Bd, Be⟩ := zC Ak
       go_wp2_with fail
       refine (K2.out _).mono ?_
       rintro r w5 ⟨rfl, b5⟩
       have B5 := zO B4 b5
       obtain ⟨A1, A2, AN⟩ := yA b5 An Ao Ak
       clear b5 B4 An A3 A4 A5 A6 Ao A7 A8 A9 Ba Ak Bb Bc Bd Be
       obtain ⟨Bf, Bg, Bh, Bi⟩ := zC A1
       obtain ⟨Bj, Bk, Bl, Bm⟩ := zC A2
       obtain ⟨Bn, Bo, Bp, Bq⟩ := zC AN
       have q0 := fz (k := 0) AN
       have q1 := fz (k := 1) AN
       have q2 := fz (k := 2) AN
       have q3 := fz (k := 3) AN
       obtain ⟨E0, E1, E2, E3⟩ := yC AN rfl (.bool false) (.string ⟨#[]⟩) (.string ⟨#[]⟩) (.int .i64 0)
       go_wp2
       exact bodyPost_ret (v := .tuple #[.agg #[.bool false, .string ⟨#[]⟩, .string ⟨#[]⟩, .int .i64 0], .int .i64 4]) (by simp [results, Tryz.results55, go_sem, E0, E1, E2, E3]) rfl ⟨rfl, z9 B5 (by first | exact Nat.le_refl _ | omega) _ _ _ _⟩
    ·
     have HX := zH (lg_no (d * f) h3)
     rw [if_neg (fun h => h3 h.2.2.1)] at hr2
     obtain ⟨rfl, rfl, rfl, rfl, rfl⟩ := xz_is hr2
     rw [yM] at hu hv
     subst hu hv
     clear hs ht hp hq hx hy hr hr2 hT n0 m0 l1 l2 l3 l4 d1 d2 hA hB hS hZ hS2 hZ2 h12 h3 hxa hyb ha
     cases b
     all_goals cases c
     ·
      obtain ⟨Ad, Ae, Af, B0⟩ := opn3 w (Obj.cells #[.bool false, .string s, .string t, .int .i64 e] 41) (Obj.cells #[.bool false, .string p, .string q, .int .i64 g] 41) (Obj.cells #[.bool false, .string ⟨#[]⟩, .string ⟨#[]⟩, .int .i64 0] 41)
      go_enter Tryz.func55, Tryz.ntmps55
      go_wp2_with fail
      obtain ⟨F, hF1, hF2⟩ := zQ (((w.alloc (Obj.cells #[.bool false, .string s, .string t, .int .i64 e] 41)).alloc (Obj.cells #[.bool false, .string p, .string q, .int .i64 g] 41)).alloc (Obj.cells #[.bool false, .string ⟨#[]⟩, .string ⟨#[]⟩, .int .i64 0] 41))
      have fx_0 := fun u => zE (zA (hF1 u) _ _ _ Ad) 0 _ rfl
      have fx_1 := fun u => zE (zA (hF1 u) _ _ _ Ad) 1 _ rfl
      have fx_2 := fun u => zE (zA (hF1 u) _ _ _ Ad) 2 _ rfl
      have fx_3 := fun u => zE (zA (hF1 u) _ _ _ Ad) 3 _ rfl
      have fy_0 := fun u => zE (zA (hF1 u) _ _ _ Ae) 0 _ rfl
      have fy_1 := fun u => zE (zA (hF1 u) _ _ _ Ae) 1 _ rfl
      have fy_2 := fun u => zE (zA (hF1 u) _ _ _ Ae) 2 _ rfl
      have fy_3 := fun u => zE (zA (hF1 u) _ _ _ Ae) 3 _ rfl
      have fz_0 := fun u => zE (zA (hF1 u) _ _ _ Af) 0 _ rfl
      have fz_1 := fun u => zE (zA (hF1 u) _ _ _ Af) 1 _ rfl
      have fz_2 := fun u => zE (zA (hF1 u) _ _ _ Af) 2 _ rfl
      have fz_3 := fun u => zE (zA (hF1 u) _ _ _ Af) 3 _ rfl
      refine zI F hF2 (by kernel_rfl) (by kernel_rfl) ?_
      repeat first | go_big_quiet_step (first | (go_at_call 111; exact zJ hF1 hF2 (zZ _)) | fail) | quiet_step (first | (go_at_call 111; exact zJ hF1 hF2 (zZ _)) | fail)
      refine wpQuiet_nil ?_
      rintro _ ⟨uW, rfl⟩
      have B1 := zO B0 (hF1 uW)
      obtain ⟨Ab, Ac, Aa⟩ := yA (hF1 uW) Ad Ae Af
      obtain ⟨w1, hw⟩ : ∃ V, F uW = V := ⟨_, rfl⟩
      rw [hw] at B1 Ab Ac Aa
      try rw [hw]
      clear hw hF1 hF2 B0 fx_0 fx_1 fx_2 fx_3 fy_0 fy_1 fy_2 fy_3 fz_0 fz_1 fz_2 fz_3 Ad Ae Af
      clear F
      obtain ⟨Ap, Aq, Ar, As⟩ := zC Ab
      obtain ⟨At, Au, Av, Aw⟩ := zC Ac
      obtain ⟨Ax, Ay, Az, AA⟩ := zC Aa
      go_wp2_with fail
      obtain ⟨F, hF1, hF2⟩ := zQ w1
      have fx_0 := fun u => zE (zA (hF1 u) _ _ _ Ab) 0 _ rfl
      have fx_1 := fun u => zE (zA (hF1 u) _ _ _ Ab) 1 _ rfl
      have fx_2 := fun u => zE (zA (hF1 u) _ _ _ Ab) 2 _ rfl
      have fx_3 := fun u => zE (zA (hF1 u) _ _ _ Ab) 3 _ rfl
      have fy_0 := fun u => zE (zA (hF1 u) _ _ _ Ac) 0 _ rfl
      have fy_1 := fun u => zE (zA (hF1 u) _ _ _ Ac) 1 _ rfl
      have fy_2 := fun u => zE (zA (hF1 u) _ _ _ Ac) 2 _ rfl
      have fy_3 := fun u => zE (zA (hF1 u) _ _ _ Ac) 3 _ rfl
      have fz_0 := fun u => zE (zA (hF1 u) _ _ _ Aa) 0 _ rfl
      have fz_1 := fun u => zE (zA (hF1 u) _ _ _ Aa) 1 _ rfl
      have fz_2 := fun u => zE (zA (hF1 u) _ _ _ Aa) 2 _ rfl
      have fz_3 := fun u => zE (zA (hF1 u) _ _ _ Aa) 3 _ rfl
      refine zI F hF2 (by kernel_rfl) (by kernel_rfl) ?_
      repeat first | go_big_quiet_step (first | (go_at_call 111; exact zJ hF1 hF2 (zZ _)) | fail) | quiet_step (first | (go_at_call 111; exact zJ hF1 hF2 (zZ _)) | fail)
      refine wpQuiet_nil ?_
      rintro _ ⟨uW, rfl⟩
      have B2 := zO B1 (hF1 uW)
      obtain ⟨Ah, Ai, Ag⟩ := yA (hF1 uW) Ab Ac Aa
      obtain ⟨w2, hw⟩ : ∃ V, F uW = V := ⟨_, rfl⟩
      rw [hw] at B2 Ah Ai Ag
      try rw [hw]
      clear hw hF1 hF2 B1 fx_0 fx_1 fx_2 fx_3 fy_0 fy_1 fy_2 fy_3 fz_0 fz_1 fz_2 fz_3 Ab Ap Aq Ar As Ac At Au Av Aw Aa Ax Ay Az AA
      clear F
      obtain ⟨AB, AC, AD, AE⟩ := zC Ah
      obtain ⟨AF, AG, AH, AI⟩ := zC Ai
      obtain ⟨AJ, AK, AL, AM⟩ := zC Ag
      go_wp2_with fail
      refine (K1.out _).mono ?_
      rintro r w3 ⟨rfl, b3⟩
      have B3 := zO B2 b3
      obtain ⟨Al, Am, Aj⟩ := yA b3 Ah Ai Ag
      clear b3 B2 Ah AB AC AD AE Ai AF AG AH AI Ag AJ AK AL AM
      obtain ⟨AP, AQ, AR, AS⟩ := zC Al
      obtain ⟨AT, AU, AV, AW⟩ := zC Am
      obtain ⟨AX, AY, AZ, A0⟩ := zC Aj
      go_wp2_with fail
      refine (xO d f t q _ 4 HT2.out HQ2.out L2.out L4.out HX.out _).mono ?_
      rintro r w4 ⟨rfl, b4⟩
      have B4 := zO B3 b4
      obtain ⟨An, Ao, Ak⟩ := yA b4 Al Am Aj
      clear b4 B3 Al AP AQ AR AS Am AT AU AV AW Aj AX AY AZ A0
      obtain ⟨A3, A4, A5, A6⟩ := zC An
      obtain ⟨A7, A8, A9, Ba⟩ := zC Ao
      obtain ⟨Bb, Bc, Bd, Be⟩ := zC Ak
      have q0 := fz (k := 0) Ak
      have q1 := fz (k := 1) Ak
      have q2 := fz (k := 2) Ak
      have q3 := fz (k := 3) Ak
      obtain ⟨E0, E1, E2, E3⟩ := yC Ak rfl (.bool false) (.string ⟨#[]⟩) (.string ⟨#[]⟩) (.int .i64 0)
      go_wp2
      exact bodyPost_ret (v := .tuple #[.agg #[.bool false, .string ⟨#[]⟩, .string ⟨#[]⟩, .int .i64 0], .int .i64 4]) (by simp [results, Tryz.results55, go_sem, E0, E1, E2, E3]) rfl ⟨rfl, z9 B4 (by first | exact Nat.le_refl _ | omega) _ _ _ _⟩
     ·
      obtain ⟨Ad, Ae, Af, B0⟩ := opn3 w (Obj.cells #[.bool false, .string s, .string t, .int .i64 e] 41) (Obj.cells #[.bool true, .string p, .string q, .int .i64 g] 41) (Obj.cells #[.bool false, .string ⟨#[]⟩, .string ⟨#[]⟩, .int .i64 0] 41)
      go_enter Tryz.func55, Tryz.ntmps55
      go_wp2_with fail
      obtain ⟨F, hF1, hF2⟩ := zQ (((w.alloc (Obj.cells #[.bool false, .string s, .string t, .int .i64 e] 41)).alloc (Obj.cells #[.bool true, .string p, .string q, .int .i64 g] 41)).alloc (Obj.cells #[.bool false, .string ⟨#[]⟩, .string ⟨#[]⟩, .int .i64 0] 41))
      have fx_0 := fun u => zE (zA (hF1 u) _ _ _ Ad) 0 _ rfl
      have fx_1 := fun u => zE (zA (hF1 u) _ _ _ Ad) 1 _ rfl
      have fx_2 := fun u => zE (zA (hF1 u) _ _ _ Ad) 2 _ rfl
      have fx_3 := fun u => zE (zA (hF1 u) _ _ _ Ad) 3 _ rfl
      have fy_0 := fun u => zE (zA (hF1 u) _ _ _ Ae) 0 _ rfl
      have fy_1 := fun u => zE (zA (hF1 u) _ _ _ Ae) 1 _ rfl
      have fy_2 := fun u => zE (zA (hF1 u) _ _ _ Ae) 2 _ rfl
      have fy_3 := fun u => zE (zA (hF1 u) _ _ _ Ae) 3 _ rfl
      have fz_0 := fun u => zE (zA (hF1 u) _ _ _ Af) 0 _ rfl
      have fz_1 := fun u => zE (zA (hF1 u) _ _ _ Af) 1 _ rfl
      have fz_2 := fun u => zE (zA (hF1 u) _ _ _ Af) 2 _ rfl
      have fz_3 := fun u => zE (zA (hF1 u) _ _ _ Af) 3 _ rfl
      refine zI F hF2 (by kernel_rfl) (by kernel_rfl) ?_
      repeat first | go_big_quiet_step (first | (go_at_call 111; exact zJ hF1 hF2 (zZ _)) | fail) | quiet_step (first | (go_at_call 111; exact zJ hF1 hF2 (zZ _)) | fail)
      refine wpQuiet_nil ?_
      rintro _ ⟨uW, rfl⟩
      have B1 := zO B0 (hF1 uW)
      obtain ⟨Ab, Ac, Aa⟩ := yA (hF1 uW) Ad Ae Af
      obtain ⟨w1, hw⟩ : ∃ V, F uW = V := ⟨_, rfl⟩
      rw [hw] at B1 Ab Ac Aa
      try rw [hw]
      clear hw hF1 hF2 B0 fx_0 fx_1 fx_2 fx_3 fy_0 fy_1 fy_2 fy_3 fz_0 fz_1 fz_2 fz_3 Ad Ae Af
      clear F
      obtain ⟨Ap, Aq, Ar, As⟩ := zC Ab
      obtain ⟨At, Au, Av, Aw⟩ := zC Ac
      obtain ⟨Ax, Ay, Az, AA⟩ := zC Aa
      go_wp2_with fail
      obtain ⟨F, hF1, hF2⟩ := zQ w1
      have fx_0 := fun u => zE (zA (hF1 u) _ _ _ Ab) 0 _ rfl
      have fx_1 := fun u => zE (zA (hF1 u) _ _ _ Ab) 1 _ rfl
      have fx_2 := fun u => zE (zA (hF1 u) _ _ _ Ab) 2 _ rfl
      have fx_3 := fun u => zE (zA (hF1 u) _ _ _ Ab) 3 _ rfl
      have fy_0 := fun u => zE (zA (hF1 u) _ _ _ Ac) 0 _ rfl
      have fy_1 := fun u => zE (zA (hF1 u) _ _ _ Ac) 1 _ rfl
      have fy_2 := fun u => zE (zA (hF1 u) _ _ _ Ac) 2 _ rfl
      have fy_3 := fun u => zE (zA (hF1 u) _ _ _ Ac) 3 _ rfl
      have fz_0 := fun u => zE (zA (hF1 u) _ _ _ Aa) 0 _ rfl
      have fz_1 := fun u => zE (zA (hF1 u) _ _ _ Aa) 1 _ rfl
      have fz_2 := fun u => zE (zA (hF1 u) _ _ _ Aa) 2 _ rfl
      have fz_3 := fun u => zE (zA (hF1 u) _ _ _ Aa) 3 _ rfl
      refine zI F hF2 (by kernel_rfl) (by kernel_rfl) ?_
      repeat first | go_big_quiet_step (first | (go_at_call 111; exact zJ hF1 hF2 (zZ _)) | fail) | quiet_step (first | (go_at_call 111; exact zJ hF1 hF2 (zZ _)) | fail)
      refine wpQuiet_nil ?_
      rintro _ ⟨uW, rfl⟩
      have B2 := zO B1 (hF1 uW)
      obtain ⟨Ah, Ai, Ag⟩ := yA (hF1 uW) Ab Ac Aa
      obtain ⟨w2, hw⟩ : ∃ V, F uW = V := ⟨_, rfl⟩
      rw [hw] at B2 Ah Ai Ag
      try rw [hw]
      clear hw hF1 hF2 B1 fx_0 fx_1 fx_2 fx_3 fy_0 fy_1 fy_2 fy_3 fz_0 fz_1 fz_2 fz_3 Ab Ap Aq Ar As Ac At Au Av Aw Aa Ax Ay Az AA
      clear F
      obtain ⟨AB, AC, AD, AE⟩ := zC Ah
      obtain ⟨AF, AG, AH, AI⟩ := zC Ai
      obtain ⟨AJ, AK, AL, AM⟩ := zC Ag
      go_wp2_with fail
      refine (K1.out _).mono ?_
      rintro r w3 ⟨rfl, b3⟩
      have B3 := zO B2 b3
      obtain ⟨Al, Am, Aj⟩ := yA b3 Ah Ai Ag
      clear b3 B2 Ah AB AC AD AE Ai AF AG AH AI Ag AJ AK AL AM
      obtain ⟨AP, AQ, AR, AS⟩ := zC Al
      obtain ⟨AT, AU, AV, AW⟩ := zC Am
      obtain ⟨AX, AY, AZ, A0⟩ := zC Aj
      go_wp2_with fail
      refine (xO d f t q _ 4 HT2.out HQ2.out L2.out L4.out HX.out _).mono ?_
      rintro r w4 ⟨rfl, b4⟩
      have B4 := zO B3 b4
      obtain ⟨An, Ao, Ak⟩ := yA b4 Al Am Aj
      clear b4 B3 Al AP AQ AR AS Am AT AU AV AW Aj AX AY AZ A0
      obtain ⟨A3, A4, A5, A6⟩ := zC An
      obtain ⟨A7, A8, A9, Ba⟩ := zC Ao
      obtain ⟨Bb, Bc, Bd, Be⟩ := zC Ak
      have q0 := fz (k := 0) Ak
      have q1 := fz (k := 1) Ak
      have q2 := fz (k := 2) Ak
      have q3 := fz (k := 3) Ak
      obtain ⟨E0, E1, E2, E3⟩ := yC Ak rfl (.bool false) (.string ⟨#[]⟩) (.string ⟨#[]⟩) (.int .i64 0)
      go_wp2
      exact bodyPost_ret (v := .tuple #[.agg #[.bool false, .string ⟨#[]⟩, .string ⟨#[]⟩, .int .i64 0], .int .i64 4]) (by simp [results, Tryz.results55, go_sem, E0, E1, E2, E3]) rfl ⟨rfl, z9 B4 (by first | exact Nat.le_refl _ | omega) _ _ _ _⟩
     ·
      obtain ⟨Ad, Ae, Af, B0⟩ := opn3 w (Obj.cells #[.bool true, .string s, .string t, .int .i64 e] 41) (Obj.cells #[.bool false, .string p, .string q, .int .i64 g] 41) (Obj.cells #[.bool false, .string ⟨#[]⟩, .string ⟨#[]⟩, .int .i64 0] 41)
      go_enter Tryz.func55, Tryz.ntmps55
      go_wp2_with fail
      obtain ⟨F, hF1, hF2⟩ := zQ (((w.alloc (Obj.cells #[.bool true, .string s, .string t, .int .i64 e] 41)).alloc (Obj.cells #[.bool false, .string p, .string q, .int .i64 g] 41)).alloc (Obj.cells #[.bool false, .string ⟨#[]⟩, .string ⟨#[]⟩, .int .i64 0] 41))
      have fx_0 := fun u => zE (zA (hF1 u) _ _ _ Ad) 0 _ rfl
      have fx_1 := fun u => zE (zA (hF1 u) _ _ _ Ad) 1 _ rfl
      have fx_2 := fun u => zE (zA (hF1 u) _ _ _ Ad) 2 _ rfl
      have fx_3 := fun u => zE (zA (hF1 u) _ _ _ Ad) 3 _ rfl
      have fy_0 := fun u => zE (zA (hF1 u) _ _ _ Ae) 0 _ rfl
      have fy_1 := fun u => zE (zA (hF1 u) _ _ _ Ae) 1 _ rfl
      have fy_2 := fun u => zE (zA (hF1 u) _ _ _ Ae) 2 _ rfl
      have fy_3 := fun u => zE (zA (hF1 u) _ _ _ Ae) 3 _ rfl
      have fz_0 := fun u => zE (zA (hF1 u) _ _ _ Af) 0 _ rfl
      have fz_1 := fun u => zE (zA (hF1 u) _ _ _ Af) 1 _ rfl
      have fz_2 := fun u => zE (zA (hF1 u) _ _ _ Af) 2 _ rfl
      have fz_3 := fun u => zE (zA (hF1 u) _ _ _ Af) 3 _ rfl
      refine zI F hF2 (by kernel_rfl) (by kernel_rfl) ?_
      repeat first | go_big_quiet_step (first | (go_at_call 111; exact zJ hF1 hF2 (zZ _)) | fail) | quiet_step (first | (go_at_call 111; exact zJ hF1 hF2 (zZ _)) | fail)
      refine wpQuiet_nil ?_
      rintro _ ⟨uW, rfl⟩
      have B1 := zO B0 (hF1 uW)
      obtain ⟨Ab, Ac, Aa⟩ := yA (hF1 uW) Ad Ae Af
      obtain ⟨w1, hw⟩ : ∃ V, F uW = V := ⟨_, rfl⟩
      rw [hw] at B1 Ab Ac Aa
      try rw [hw]
      clear hw hF1 hF2 B0 fx_0 fx_1 fx_2 fx_3 fy_0 fy_1 fy_2 fy_3 fz_0 fz_1 fz_2 fz_3 Ad Ae Af
      clear F
      obtain ⟨Ap, Aq, Ar, As⟩ := zC Ab
      obtain ⟨At, Au, Av, Aw⟩ := zC Ac
      obtain ⟨Ax, Ay, Az, AA⟩ := zC Aa
      go_wp2_with fail
      obtain ⟨F, hF1, hF2⟩ := zQ w1
      have fx_0 := fun u => zE (zA (hF1 u) _ _ _ Ab) 0 _ rfl
      have fx_1 := fun u => zE (zA (hF1 u) _ _ _ Ab) 1 _ rfl
      have fx_2 := fun u => zE (zA (hF1 u) _ _ _ Ab) 2 _ rfl
      have fx_3 := fun u => zE (zA (hF1 u) _ _ _ Ab) 3 _ rfl
      have fy_0 := fun u => zE (zA (hF1 u) _ _ _ Ac) 0 _ rfl
      have fy_1 := fun u => zE (zA (hF1 u) _ _ _ Ac) 1 _ rfl
      have fy_2 := fun u => zE (zA (hF1 u) _ _ _ Ac) 2 _ rfl
      have fy_3 := fun u => zE (zA (hF1 u) _ _ _ Ac) 3 _ rfl
      have fz_0 := fun u => zE (zA (hF1 u) _ _ _ Aa) 0 _ rfl
      have fz_1 := fun u => zE (zA (hF1 u) _ _ _ Aa) 1 _ rfl
      have fz_2 := fun u => zE (zA (hF1 u) _ _ _ Aa) 2 _ rfl
      have fz_3 := fun u => zE (zA (hF1 u) _ _ _ Aa) 3 _ rfl
      refine zI F hF2 (by kernel_rfl) (by kernel_rfl) ?_
      repeat first | go_big_quiet_step (first | (go_at_call 111; exact zJ hF1 hF2 (zZ _)) | fail) | quiet_step (first | (go_at_call 111; exact zJ hF1 hF2 (zZ _)) | fail)
      refine wpQuiet_nil ?_
      rintro _ ⟨uW, rfl⟩
      have B2 := zO B1 (hF1 uW)
      obtain ⟨Ah, Ai, Ag⟩ := yA (hF1 uW) Ab Ac Aa
      obtain ⟨w2, hw⟩ : ∃ V, F uW = V := ⟨_, rfl⟩
      rw [hw] at B2 Ah Ai Ag
      try rw [hw]
      clear hw hF1 hF2 B1 fx_0 fx_1 fx_2 fx_3 fy_0 fy_1 fy_2 fy_3 fz_0 fz_1 fz_2 fz_3 Ab Ap Aq Ar As Ac At Au Av Aw Aa Ax Ay Az AA
      clear F
      obtain ⟨AB, AC, AD, AE⟩ := zC Ah
      obtain ⟨AF, AG, AH, AI⟩ := zC Ai
      obtain ⟨AJ, AK, AL, AM⟩ := zC Ag
      go_wp2_with fail
      refine (K1.out _).mono ?_
      rintro r w3 ⟨rfl, b3⟩
      have B3 := zO B2 b3
      obtain ⟨Al, Am, Aj⟩ := yA b3 Ah Ai Ag
      clear b3 B2 Ah AB AC AD AE Ai AF AG AH AI Ag AJ AK AL AM
      obtain ⟨AP, AQ, AR, AS⟩ := zC Al
      obtain ⟨AT, AU, AV, AW⟩ := zC Am
      obtain ⟨AX, AY, AZ, A0⟩ := zC Aj
      go_wp2_with fail
      refine (xO d f t q _ 4 HT2.out HQ2.out L2.out L4.out HX.out _).mono ?_
      rintro r w4 ⟨rfl, b4⟩
      have B4 := zO B3 b4
      obtain ⟨An, Ao, Ak⟩ := yA b4 Al Am Aj
      clear b4 B3 Al AP AQ AR AS Am AT AU AV AW Aj AX AY AZ A0
      obtain ⟨A3, A4, A5, A6⟩ := zC An
      obtain ⟨A7, A8, A9, Ba⟩ := zC Ao
      obtain ⟨Bb, Bc, Bd, Be⟩ := zC Ak
      have q0 := fz (k := 0) Ak
      have q1 := fz (k := 1) Ak
      have q2 := fz (k := 2) Ak
      have q3 := fz (k := 3) Ak
      obtain ⟨E0, E1, E2, E3⟩ := yC Ak rfl (.bool false) (.string ⟨#[]⟩) (.string ⟨#[]⟩) (.int .i64 0)
      go_wp2
      exact bodyPost_ret (v := .tuple #[.agg #[.bool false, .string ⟨#[]⟩, .string ⟨#[]⟩, .int .i64 0], .int .i64 4]) (by simp [results, Tryz.results55, go_sem, E0, E1, E2, E3]) rfl ⟨rfl, z9 B4 (by first | exact Nat.le_refl _ | omega) _ _ _ _⟩
     ·
      obtain ⟨Ad, Ae, Af, B0⟩ := opn3 w (Obj.cells #[.bool true, .string s, .string t, .int .i64 e] 41) (Obj.cells #[.bool true, .string p, .string q, .int .i64 g] 41) (Obj.cells #[.bool false, .string ⟨#[]⟩, .string ⟨#[]⟩, .int .i64 0] 41)
      go_enter Tryz.func55, Tryz.ntmps55
      go_wp2_with fail
      obtain ⟨F, hF1, hF2⟩ := zQ (((w.alloc (Obj.cells #[.bool true, .string s, .string t, .int .i64 e] 41)).alloc (Obj.cells #[.bool true, .string p, .string q, .int .i64 g] 41)).alloc (Obj.cells #[.bool false, .string ⟨#[]⟩, .string ⟨#[]⟩, .int .i64 0] 41))
      have fx_0 := fun u => zE (zA (hF1 u) _ _ _ Ad) 0 _ rfl
      have fx_1 := fun u => zE (zA (hF1 u) _ _ _ Ad) 1 _ rfl
      have fx_2 := fun u => zE (zA (hF1 u) _ _ _ Ad) 2 _ rfl
      have fx_3 := fun u => zE (zA (hF1 u) _ _ _ Ad) 3 _ rfl
      have fy_0 := fun u => zE (zA (hF1 u) _ _ _ Ae) 0 _ rfl
      have fy_1 := fun u => zE (zA (hF1 u) _ _ _ Ae) 1 _ rfl
      have fy_2 := fun u => zE (zA (hF1 u) _ _ _ Ae) 2 _ rfl
      have fy_3 := fun u => zE (zA (hF1 u) _ _ _ Ae) 3 _ rfl
      have fz_0 := fun u => zE (zA (hF1 u) _ _ _ Af) 0 _ rfl
      have fz_1 := fun u => zE (zA (hF1 u) _ _ _ Af) 1 _ rfl
      have fz_2 := fun u => zE (zA (hF1 u) _ _ _ Af) 2 _ rfl
      have fz_3 := fun u => zE (zA (hF1 u) _ _ _ Af) 3 _ rfl
      refine zI F hF2 (by kernel_rfl) (by kernel_rfl) ?_
      repeat first | go_big_quiet_step (first | (go_at_call 111; exact zJ hF1 hF2 (zZ _)) | fail) | quiet_step (first | (go_at_call 111; exact zJ hF1 hF2 (zZ _)) | fail)
      refine wpQuiet_nil ?_
      rintro _ ⟨uW, rfl⟩
      have B1 := zO B0 (hF1 uW)
      obtain ⟨Ab, Ac, Aa⟩ := yA (hF1 uW) Ad Ae Af
      obtain ⟨w1, hw⟩ : ∃ V, F uW = V := ⟨_, rfl⟩
      rw [hw] at B1 Ab Ac Aa
      try rw [hw]
      clear hw hF1 hF2 B0 fx_0 fx_1 fx_2 fx_3 fy_0 fy_1 fy_2 fy_3 fz_0 fz_1 fz_2 fz_3 Ad Ae Af
      clear F
      obtain ⟨Ap, Aq, Ar, As⟩ := zC Ab
      obtain ⟨At, Au, Av, Aw⟩ := zC Ac
      obtain ⟨Ax, Ay, Az, AA⟩ := zC Aa
      go_wp2_with fail
      obtain ⟨F, hF1, hF2⟩ := zQ w1
      have fx_0 := fun u => zE (zA (hF1 u) _ _ _ Ab) 0 _ rfl
      have fx_1 := fun u => zE (zA (hF1 u) _ _ _ Ab) 1 _ rfl
      have fx_2 := fun u => zE (zA (hF1 u) _ _ _ Ab) 2 _ rfl
      have fx_3 := fun u => zE (zA (hF1 u) _ _ _ Ab) 3 _ rfl
      have fy_0 := fun u => zE (zA (hF1 u) _ _ _ Ac) 0 _ rfl
      have fy_1 := fun u => zE (zA (hF1 u) _ _ _ Ac) 1 _ rfl
      have fy_2 := fun u => zE (zA (hF1 u) _ _ _ Ac) 2 _ rfl
      have fy_3 := fun u => zE (zA (hF1 u) _ _ _ Ac) 3 _ rfl
      have fz_0 := fun u => zE (zA (hF1 u) _ _ _ Aa) 0 _ rfl
      have fz_1 := fun u => zE (zA (hF1 u) _ _ _ Aa) 1 _ rfl
      have fz_2 := fun u => zE (zA (hF1 u) _ _ _ Aa) 2 _ rfl
      have fz_3 := fun u => zE (zA (hF1 u) _ _ _ Aa) 3 _ rfl
      refine zI F hF2 (by kernel_rfl) (by kernel_rfl) ?_
      repeat first | go_big_quiet_step (first | (go_at_call 111; exact zJ hF1 hF2 (zZ _)) | fail) | quiet_step (first | (go_at_call 111; exact zJ hF1 hF2 (zZ _)) | fail)
      refine wpQuiet_nil ?_
      rintro _ ⟨uW, rfl⟩
      have B2 := zO B1 (hF1 uW)
      obtain ⟨Ah, Ai, Ag⟩ := yA (hF1 uW) Ab Ac Aa
      obtain ⟨w2, hw⟩ : ∃ V, F uW = V := ⟨_, rfl⟩
      rw [hw] at B2 Ah Ai Ag
      try rw [hw]
      clear hw hF1 hF2 B1 fx_0 fx_1 fx_2 fx_3 fy_0 fy_1 fy_2 fy_3 fz_0 fz_1 fz_2 fz_3 Ab Ap Aq Ar As Ac At Au Av Aw Aa Ax Ay Az AA
      clear F
      obtain ⟨AB, AC, AD, AE⟩ := zC Ah
      obtain ⟨AF, AG, AH, AI⟩ := zC Ai
      obtain ⟨AJ, AK, AL, AM⟩ := zC Ag
      go_wp2_with fail
      refine (K1.out _).mono ?_
      rintro r w3 ⟨rfl, b3⟩
      have B3 := zO B2 b3
      obtain ⟨Al, Am, Aj⟩ := yA b3 Ah Ai Ag
      clear b3 B2 Ah AB AC AD AE Ai AF AG AH AI Ag AJ AK AL AM
      obtain ⟨AP, AQ, AR, AS⟩ := zC Al
      obtain ⟨AT, AU, AV, AW⟩ := zC Am
      obtain ⟨AX, AY, AZ, A0⟩ := zC Aj
      go_wp2_with fail
      refine (xO d f t q _ 4 HT2.out HQ2.out L2.out L4.out HX.out _).mono ?_
      rintro r w4 ⟨rfl, b4⟩
      have B4 := zO B3 b4
      obtain ⟨An, Ao, Ak⟩ := yA b4 Al Am Aj
      clear b4 B3 Al AP AQ AR AS Am AT AU AV AW Aj AX AY AZ A0
      obtain ⟨A3, A4, A5, A6⟩ := zC An
      obtain ⟨A7, A8, A9, Ba⟩ := zC Ao
      obtain ⟨Bb, Bc, Bd, Be⟩ := zC Ak
      have q0 := fz (k := 0) Ak
      have q1 := fz (k := 1) Ak
      have q2 := fz (k := 2) Ak
      have q3 := fz (k := 3) Ak
      obtain ⟨E0, E1, E2, E3⟩ := yC Ak rfl (.bool false) (.string ⟨#[]⟩) (.string ⟨#[]⟩) (.int .i64 0)
      go_wp2
      exact bodyPost_ret (v := .tuple #[.agg #[.bool false, .string ⟨#[]⟩, .string ⟨#[]⟩, .int .i64 0], .int .i64 4]) (by simp [results, Tryz.results55, go_sem, E0, E1, E2, E3]) rfl ⟨rfl, z9 B4 (by first | exact Nat.le_refl _ | omega) _ _ _ _⟩
   ·
    have K1 := zH (fun w => alikex b n d e s t c m f g p q ⟨#[]⟩ ⟨#[]⟩ 4 hs ht hp hq l1 l2 l3 l4 ha (by rw [hA, hB, if_neg h12]) w)
    rw [if_neg (fun h => h12 ⟨h.1, h.2.1⟩)] at hr2
    obtain ⟨rfl, rfl, rfl, rfl, rfl⟩ := xz_is hr2
    rw [yM] at hu hv
    subst hu hv
    clear hs ht hp hq hx hy hr hr2 hT n0 m0 l1 l2 l3 l4 d1 d2 hA hB hS hZ hS2 hZ2 h12 ha
    cases b
    all_goals cases c
    ·
     obtain ⟨Ad, Ae, Af, B0⟩ := opn3 w (Obj.cells #[.bool false, .string s, .string t, .int .i64 e] 41) (Obj.cells #[.bool false, .string p, .string q, .int .i64 g] 41) (Obj.cells #[.bool false, .string ⟨#[]⟩, .string ⟨#[]⟩, .int .i64 0] 41)
     go_enter Tryz.func55, Tryz.ntmps55
     go_wp2_with fail
     obtain ⟨F, hF1, hF2⟩ := zQ (((w.alloc (Obj.cells #[.bool false, .string s, .string t, .int .i64 e] 41)).alloc (Obj.cells #[.bool false, .string p, .string q, .int .i64 g] 41)).alloc (Obj.cells #[.bool false, .string ⟨#[]⟩, .string ⟨#[]⟩, .int .i64 0] 41))
     have fx_0 := fun u => zE (zA (hF1 u) _ _ _ Ad) 0 _ rfl
     have fx_1 := fun u => zE (zA (hF1 u) _ _ _ Ad) 1 _ rfl
     have fx_2 := fun u => zE (zA (hF1 u) _ _ _ Ad) 2 _ rfl
     have fx_3 := fun u => zE (zA (hF1 u) _ _ _ Ad) 3 _ rfl
     have fy_0 := fun u => zE (zA (hF1 u) _ _ _ Ae) 0 _ rfl
     have fy_1 := fun u => zE (zA (hF1 u) _ _ _ Ae) 1 _ rfl
     have fy_2 := fun u => zE (zA (hF1 u) _ _ _ Ae) 2 _ rfl
     have fy_3 := fun u => zE (zA (hF1 u) _ _ _ Ae) 3 _ rfl
     have fz_0 := fun u => zE (zA (hF1 u) _ _ _ Af) 0 _ rfl
     have fz_1 := fun u => zE (zA (hF1 u) _ _ _ Af) 1 _ rfl
     have fz_2 := fun u => zE (zA (hF1 u) _ _ _ Af) 2 _ rfl
     have fz_3 := fun u => zE (zA (hF1 u) _ _ _ Af) 3 _ rfl
     refine zI F hF2 (by kernel_rfl) (by kernel_rfl) ?_
     repeat first | go_big_quiet_step (first | (go_at_call 111; exact zJ hF1 hF2 (zZ _)) | fail) | quiet_step (first | (go_at_call 111; exact zJ hF1 hF2 (zZ _)) | fail)
     refine wpQuiet_nil ?_
     rintro _ ⟨uW, rfl⟩
     have B1 := zO B0 (hF1 uW)
     obtain ⟨Ab, Ac, Aa⟩ := yA (hF1 uW) Ad Ae Af
     obtain ⟨w1, hw⟩ : ∃ V, F uW = V := ⟨_, rfl⟩
     rw [hw] at B1 Ab Ac Aa
     try rw [hw]
     clear hw hF1 hF2 B0 fx_0 fx_1 fx_2 fx_3 fy_0 fy_1 fy_2 fy_3 fz_0 fz_1 fz_2 fz_3 Ad Ae Af
     clear F
     obtain ⟨Ap, Aq, Ar, As⟩ := zC Ab
     obtain ⟨At, Au, Av, Aw⟩ := zC Ac
     obtain ⟨Ax, Ay, Az, AA⟩ := zC Aa
     go_wp2_with fail
     obtain ⟨F, hF1, hF2⟩ := zQ w1
     have fx_0 := fun u => zE (zA (hF1 u) _ _ _ Ab) 0 _ rfl
     have fx_1 := fun u => zE (zA (hF1 u) _ _ _ Ab) 1 _ rfl
     have fx_2 := fun u => zE (zA (hF1 u) _ _ _ Ab) 2 _ rfl
     have fx_3 := fun u => zE (zA (hF1 u) _ _ _ Ab) 3 _ rfl
     have fy_0 := fun u => zE (zA (hF1 u) _ _ _ Ac) 0 _ rfl
     have fy_1 := fun u => zE (zA (hF1 u) _ _ _ Ac) 1 _ rfl
     have fy_2 := fun u => zE (zA (hF1 u) _ _ _ Ac) 2 _ rfl
     have fy_3 := fun u => zE (zA (hF1 u) _ _ _ Ac) 3 _ rfl
     have fz_0 := fun u => zE (zA (hF1 u) _ _ _ Aa) 0 _ rfl
     have fz_1 := fun u => zE (zA (hF1 u) _ _ _ Aa) 1 _ rfl
     have fz_2 := fun u => zE (zA (hF1 u) _ _ _ Aa) 2 _ rfl
     have fz_3 := fun u => zE (zA (hF1 u) _ _ _ Aa) 3 _ rfl
     refine zI F hF2 (by kernel_rfl) (by kernel_rfl) ?_
     repeat first | go_big_quiet_step (first | (go_at_call 111; exact zJ hF1 hF2 (zZ _)) | fail) | quiet_step (first | (go_at_call 111; exact zJ hF1 hF2 (zZ _)) | fail)
     refine wpQuiet_nil ?_
     rintro _ ⟨uW, rfl⟩
     have B2 := zO B1 (hF1 uW)
     obtain ⟨Ah, Ai, Ag⟩ := yA (hF1 uW) Ab Ac Aa
     obtain ⟨w2, hw⟩ : ∃ V, F uW = V := ⟨_, rfl⟩
     rw [hw] at B2 Ah Ai Ag
     try rw [hw]
     clear hw hF1 hF2 B1 fx_0 fx_1 fx_2 fx_3 fy_0 fy_1 fy_2 fy_3 fz_0 fz_1 fz_2 fz_3 Ab Ap Aq Ar As Ac At Au Av Aw Aa Ax Ay Az AA
     clear F
     obtain ⟨AB, AC, AD, AE⟩ := zC Ah
     obtain ⟨AF, AG, AH, AI⟩ := zC Ai
     obtain ⟨AJ, AK, AL, AM⟩ := zC Ag
     go_wp2_with fail
     refine (K1.out _).mono ?_
     rintro r w3 ⟨rfl, b3⟩
     have B3 := zO B2 b3
     obtain ⟨Al, Am, Aj⟩ := yA b3 Ah Ai Ag
     clear b3 B2 Ah AB AC AD AE Ai AF AG AH AI Ag AJ AK AL AM
     obtain ⟨AP, AQ, AR, AS⟩ := zC Al
     obtain ⟨AT, AU, AV, AW⟩ := zC Am
     obtain ⟨AX, AY, AZ, A0⟩ := zC Aj
     have q0 := fz (k := 0) Aj
     have q1 := fz (k := 1) Aj
     have q2 := fz (k := 2) Aj
     have q3 := fz (k := 3) Aj
     obtain ⟨E0, E1, E2, E3⟩ := yC Aj rfl (.bool false) (.string ⟨#[]⟩) (.string ⟨#[]⟩) (.int .i64 0)
     go_wp2
     exact bodyPost_ret (v := .tuple #[.agg #[.bool false, .string ⟨#[]⟩, .string ⟨#[]⟩, .int .i64 0], .int .i64 4]) (by simp [results, Tryz.results55, go_sem, E0, E1, E2, E3]) rfl ⟨rfl, z9 B3 (by first | exact Nat.le_refl _ | omega) _ _ _ _⟩
    ·
     obtain ⟨Ad, Ae, Af, B0⟩ := opn3 w (Obj.cells #[.bool false, .string s, .string t, .int .i64 e] 41) (Obj.cells #[.bool true, .string p, .string q, .int .i64 g] 41) (Obj.cells #[.bool false, .string ⟨#[]⟩, .string ⟨#[]⟩, .int .i64 0] 41)
     go_enter Tryz.func55, Tryz.ntmps55
     go_wp2_with fail
     obtain ⟨F, hF1, hF2⟩ := zQ (((w.alloc (Obj.cells #[.bool false, .string s, .string t, .int .i64 e] 41)).alloc (Obj.cells #[.bool true, .string p, .string q, .int .i64 g] 41)).alloc (Obj.cells #[.bool false, .string ⟨#[]⟩, .string ⟨#[]⟩, .int .i64 0] 41))
     have fx_0 := fun u => zE (zA (hF1 u) _ _ _ Ad) 0 _ rfl
     have fx_1 := fun u => zE (zA (hF1 u) _ _ _ Ad) 1 _ rfl
     have fx_2 := fun u => zE (zA (hF1 u) _ _ _ Ad) 2 _ rfl
     have fx_3 := fun u => zE (zA (hF1 u) _ _ _ Ad) 3 _ rfl
     have fy_0 := fun u => zE (zA (hF1 u) _ _ _ Ae) 0 _ rfl
     have fy_1 := fun u => zE (zA (hF1 u) _ _ _ Ae) 1 _ rfl
     have fy_2 := fun u => zE (zA (hF1 u) _ _ _ Ae) 2 _ rfl
     have fy_3 := fun u => zE (zA (hF1 u) _ _ _ Ae) 3 _ rfl
     have fz_0 := fun u => zE (zA (hF1 u) _ _ _ Af) 0 _ rfl
     have fz_1 := fun u => zE (zA (hF1 u) _ _ _ Af) 1 _ rfl
     have fz_2 := fun u => zE (zA (hF1 u) _ _ _ Af) 2 _ rfl
     have fz_3 := fun u => zE (zA (hF1 u) _ _ _ Af) 3 _ rfl
     refine zI F hF2 (by kernel_rfl) (by kernel_rfl) ?_
     repeat first | go_big_quiet_step (first | (go_at_call 111; exact zJ hF1 hF2 (zZ _)) | fail) | quiet_step (first | (go_at_call 111; exact zJ hF1 hF2 (zZ _)) | fail)
     refine wpQuiet_nil ?_
     rintro _ ⟨uW, rfl⟩
     have B1 := zO B0 (hF1 uW)
     obtain ⟨Ab, Ac, Aa⟩ := yA (hF1 uW) Ad Ae Af
     obtain ⟨w1, hw⟩ : ∃ V, F uW = V := ⟨_, rfl⟩
     rw [hw] at B1 Ab Ac Aa
     try rw [hw]
     clear hw hF1 hF2 B0 fx_0 fx_1 fx_2 fx_3 fy_0 fy_1 fy_2 fy_3 fz_0 fz_1 fz_2 fz_3 Ad Ae Af
     clear F
     obtain ⟨Ap, Aq, Ar, As⟩ := zC Ab
     obtain ⟨At, Au, Av, Aw⟩ := zC Ac
     obtain ⟨Ax, Ay, Az, AA⟩ := zC Aa
     go_wp2_with fail
     obtain ⟨F, hF1, hF2⟩ := zQ w1
     have fx_0 := fun u => zE (zA (hF1 u) _ _ _ Ab) 0 _ rfl
     have fx_1 := fun u => zE (zA (hF1 u) _ _ _ Ab) 1 _ rfl
     have fx_2 := fun u => zE (zA (hF1 u) _ _ _ Ab) 2 _ rfl
     have fx_3 := fun u => zE (zA (hF1 u) _ _ _ Ab) 3 _ rfl
     have fy_0 := fun u => zE (zA (hF1 u) _ _ _ Ac) 0 _ rfl
     have fy_1 := fun u => zE (zA (hF1 u) _ _ _ Ac) 1 _ rfl
     have fy_2 := fun u => zE (zA (hF1 u) _ _ _ Ac) 2 _ rfl
     have fy_3 := fun u => zE (zA (hF1 u) _ _ _ Ac) 3 _ rfl
     have fz_0 := fun u => zE (zA (hF1 u) _ _ _ Aa) 0 _ rfl
     have fz_1 := fun u => zE (zA (hF1 u) _ _ _ Aa) 1 _ rfl
     have fz_2 := fun u => zE (zA (hF1 u) _ _ _ Aa) 2 _ rfl
     have fz_3 := fun u => zE (zA (hF1 u) _ _ _ Aa) 3 _ rfl
     refine zI F hF2 (by kernel_rfl) (by kernel_rfl) ?_
     repeat first | go_big_quiet_step (first | (go_at_call 111; exact zJ hF1 hF2 (zZ _)) | fail) | quiet_step (first | (go_at_call 111; exact zJ hF1 hF2 (zZ _)) | fail)
     refine wpQuiet_nil ?_
     rintro _ ⟨uW, rfl⟩
     have B2 := zO B1 (hF1 uW)
     obtain ⟨Ah, Ai, Ag⟩ := yA (hF1 uW) Ab Ac Aa
     obtain ⟨w2, hw⟩ : ∃ V, F uW = V := ⟨_, rfl⟩
     rw [hw] at B2 Ah Ai Ag
     try rw [hw]
     clear hw hF1 hF2 B1 fx_0 fx_1 fx_2 fx_3 fy_0 fy_1 fy_2 fy_3 fz_0 fz_1 fz_2 fz_3 Ab Ap Aq Ar As Ac At Au Av Aw Aa Ax Ay Az AA
     clear F
     obtain ⟨AB, AC, AD, AE⟩ := zC Ah
     obtain ⟨AF, AG, AH, AI⟩ := zC Ai
     obtain ⟨AJ, AK, AL, AM⟩ := zC Ag
     go_wp2_with fail
     refine (K1.out _).mono ?_
     rintro r w3 ⟨rfl, b3⟩
     have B3 := zO B2 b3
     obtain ⟨Al, Am, Aj⟩ := yA b3 Ah Ai Ag
     clear b3 B2 Ah AB AC AD AE Ai AF AG AH AI Ag AJ AK AL AM
     obtain ⟨AP, AQ, AR, AS⟩ := zC Al
     obtain ⟨AT, AU, AV, AW⟩ := zC Am
     obtain ⟨AX, AY, AZ, A0⟩ := zC Aj
     have q0 := fz (k := 0) Aj
     have q1 := fz (k := 1) Aj
     have q2 := fz (k := 2) Aj
     have q3 := fz (k := 3) Aj
     obtain ⟨E0, E1, E2, E3⟩ := yC Aj rfl (.bool false) (.string ⟨#[]⟩) (.string ⟨#[]⟩) (.int .i64 0)
     go_wp2
     exact bodyPost_ret (v := .tuple #[.agg #[.bool false, .string ⟨#[]⟩, .string ⟨#[]⟩, .int .i64 0], .int .i64 4]) (by simp [results, Tryz.results55, go_sem, E0, E1, E2, E3]) rfl ⟨rfl, z9 B3 (by first | exact Nat.le_refl _ | omega) _ _ _ _⟩
    ·
     obtain ⟨Ad, Ae, Af, B0⟩ := opn3 w (Obj.cells #[.bool true, .string s, .string t, .int .i64 e] 41) (Obj.cells #[.bool false, .string p, .string q, .int .i64 g] 41) (Obj.cells #[.bool false, .string ⟨#[]⟩, .string ⟨#[]⟩, .int .i64 0] 41)
     go_enter Tryz.func55, Tryz.ntmps55
     go_wp2_with fail
     obtain ⟨F, hF1, hF2⟩ := zQ (((w.alloc (Obj.cells #[.bool true, .string s, .string t, .int .i64 e] 41)).alloc (Obj.cells #[.bool false, .string p, .string q, .int .i64 g] 41)).alloc (Obj.cells #[.bool false, .string ⟨#[]⟩, .string ⟨#[]⟩, .int .i64 0] 41))
     have fx_0 := fun u => zE (zA (hF1 u) _ _ _ Ad) 0 _ rfl
     have fx_1 := fun u => zE (zA (hF1 u) _ _ _ Ad) 1 _ rfl
     have fx_2 := fun u => zE (zA (hF1 u) _ _ _ Ad) 2 _ rfl
     have fx_3 := fun u => zE (zA (hF1 u) _ _ _ Ad) 3 _ rfl
     have fy_0 := fun u => zE (zA (hF1 u) _ _ _ Ae) 0 _ rfl
     have fy_1 := fun u => zE (zA (hF1 u) _ _ _ Ae) 1 _ rfl
     have fy_2 := fun u => zE (zA (hF1 u) _ _ _ Ae) 2 _ rfl
     have fy_3 := fun u => zE (zA (hF1 u) _ _ _ Ae) 3 _ rfl
     have fz_0 := fun u => zE (zA (hF1 u) _ _ _ Af) 0 _ rfl
     have fz_1 := fun u => zE (zA (hF1 u) _ _ _ Af) 1 _ rfl
     have fz_2 := fun u => zE (zA (hF1 u) _ _ _ Af) 2 _ rfl
     have fz_3 := fun u => zE (zA (hF1 u) _ _ _ Af) 3 _ rfl
     refine zI F hF2 (by kernel_rfl) (by kernel_rfl) ?_
     repeat first | go_big_quiet_step (first | (go_at_call 111; exact zJ hF1 hF2 (zZ _)) | fail) | quiet_step (first | (go_at_call 111; exact zJ hF1 hF2 (zZ _)) | fail)
     refine wpQuiet_nil ?_
     rintro _ ⟨uW, rfl⟩
     have B1 := zO B0 (hF1 uW)
     obtain ⟨Ab, Ac, Aa⟩ := yA (hF1 uW) Ad Ae Af
     obtain ⟨w1, hw⟩ : ∃ V, F uW = V := ⟨_, rfl⟩
     rw [hw] at B1 Ab Ac Aa
     try rw [hw]
     clear hw hF1 hF2 B0 fx_0 fx_1 fx_2 fx_3 fy_0 fy_1 fy_2 fy_3 fz_0 fz_1 fz_2 fz_3 Ad Ae Af
     clear F
     obtain ⟨Ap, Aq, Ar, As⟩ := zC Ab
     obtain ⟨At, Au, Av, Aw⟩ := zC Ac
     obtain ⟨Ax, Ay, Az, AA⟩ := zC Aa
     go_wp2_with fail
     obtain ⟨F, hF1, hF2⟩ := zQ w1
     have fx_0 := fun u => zE (zA (hF1 u) _ _ _ Ab) 0 _ rfl
     have fx_1 := fun u => zE (zA (hF1 u) _ _ _ Ab) 1 _ rfl
     have fx_2 := fun u => zE (zA (hF1 u) _ _ _ Ab) 2 _ rfl
     have fx_3 := fun u => zE (zA (hF1 u) _ _ _ Ab) 3 _ rfl
     have fy_0 := fun u => zE (zA (hF1 u) _ _ _ Ac) 0 _ rfl
     have fy_1 := fun u => zE (zA (hF1 u) _ _ _ Ac) 1 _ rfl
     have fy_2 := fun u => zE (zA (hF1 u) _ _ _ Ac) 2 _ rfl
     have fy_3 := fun u => zE (zA (hF1 u) _ _ _ Ac) 3 _ rfl
     have fz_0 := fun u => zE (zA (hF1 u) _ _ _ Aa) 0 _ rfl
     have fz_1 := fun u => zE (zA (hF1 u) _ _ _ Aa) 1 _ rfl
     have fz_2 := fun u => zE (zA (hF1 u) _ _ _ Aa) 2 _ rfl
     have fz_3 := fun u => zE (zA (hF1 u) _ _ _ Aa) 3 _ rfl
     refine zI F hF2 (by kernel_rfl) (by kernel_rfl) ?_
     repeat first | go_big_quiet_step (first | (go_at_call 111; exact zJ hF1 hF2 (zZ _)) | fail) | quiet_step (first | (go_at_call 111; exact zJ hF1 hF2 (zZ _)) | fail)
     refine wpQuiet_nil ?_
     rintro _ ⟨uW, rfl⟩
     have B2 := zO B1 (hF1 uW)
     obtain ⟨Ah, Ai, Ag⟩ := yA (hF1 uW) Ab Ac Aa
     obtain ⟨w2, hw⟩ : ∃ V, F uW = V := ⟨_, rfl⟩
     rw [hw] at B2 Ah Ai Ag
     try rw [hw]
     clear hw hF1 hF2 B1 fx_0 fx_1 fx_2 fx_3 fy_0 fy_1 fy_2 fy_3 fz_0 fz_1 fz_2 fz_3 Ab Ap Aq Ar As Ac At Au Av Aw Aa Ax Ay Az AA
     clear F
     obtain ⟨AB, AC, AD, AE⟩ := zC Ah
     obtain ⟨AF, AG, AH, AI⟩ := zC Ai
     obtain ⟨AJ, AK, AL, AM⟩ := zC Ag
     go_wp2_with fail
     refine (K1.out _).mono ?_
     rintro r w3 ⟨rfl, b3⟩
     have B3 := zO B2 b3
     obtain ⟨Al, Am, Aj⟩ := yA b3 Ah Ai Ag
     clear b3 B2 Ah AB AC AD AE Ai AF AG AH AI Ag AJ AK AL AM
     obtain ⟨AP, AQ, AR, AS⟩ := zC Al
     obtain ⟨AT, AU, AV, AW⟩ := zC Am
     obtain ⟨AX, AY, AZ, A0⟩ := zC Aj
     have q0 := fz (k := 0) Aj
     have q1 := fz (k := 1) Aj
     have q2 := fz (k := 2) Aj
     have q3 := fz (k := 3) Aj
     obtain ⟨E0, E1, E2, E3⟩ := yC Aj rfl (.bool false) (.string ⟨#[]⟩) (.string ⟨#[]⟩) (.int .i64 0)
     go_wp2
     exact bodyPost_ret (v := .tuple #[.agg #[.bool false, .string ⟨#[]⟩, .string ⟨#[]⟩, .int .i64 0], .int .i64 4]) (by simp [results, Tryz.results55, go_sem, E0, E1, E2, E3]) rfl ⟨rfl, z9 B3 (by first | exact Nat.le_refl _ | omega) _ _ _ _⟩
    ·
     obtain ⟨Ad, Ae, Af, B0⟩ := opn3 w (Obj.cells #[.bool true, .string s, .string t, .int .i64 e] 41) (Obj.cells #[.bool true, .string p, .string q, .int .i64 g] 41) (Obj.cells #[.bool false, .string ⟨#[]⟩, .string ⟨#[]⟩, .int .i64 0] 41)
     go_enter Tryz.func55, Tryz.ntmps55
     go_wp2_with fail
     obtain ⟨F, hF1, hF2⟩ := zQ (((w.alloc (Obj.cells #[.bool true, .string s, .string t, .int .i64 e] 41)).alloc (Obj.cells #[.bool true, .string p, .string q, .int .i64 g] 41)).alloc (Obj.cells #[.bool false, .string ⟨#[]⟩, .string ⟨#[]⟩, .int .i64 0] 41))
     have fx_0 := fun u => zE (zA (hF1 u) _ _ _ Ad) 0 _ rfl
     have fx_1 := fun u => zE (zA (hF1 u) _ _ _ Ad) 1 _ rfl
     have fx_2 := fun u => zE (zA (hF1 u) _ _ _ Ad) 2 _ rfl
     have fx_3 := fun u => zE (zA (hF1 u) _ _ _ Ad) 3 _ rfl
     have fy_0 := fun u => zE (zA (hF1 u) _ _ _ Ae) 0 _ rfl
     have fy_1 := fun u => zE (zA (hF1 u) _ _ _ Ae) 1 _ rfl
     have fy_2 := fun u => zE (zA (hF1 u) _ _ _ Ae) 2 _ rfl
     have fy_3 := fun u => zE (zA (hF1 u) _ _ _ Ae) 3 _ rfl
     have fz_0 := fun u => zE (zA (hF1 u) _ _ _ Af) 0 _ rfl
     have fz_1 := fun u => zE (zA (hF1 u) _ _ _ Af) 1 _ rfl
     have fz_2 := fun u => zE (zA (hF1 u) _ _ _ Af) 2 _ rfl
     have fz_3 := fun u => zE (zA (hF1 u) _ _ _ Af) 3 _ rfl
     refine zI F hF2 (by kernel_rfl) (by kernel_rfl) ?_
     repeat first | go_big_quiet_step (first | (go_at_call 111; exact zJ hF1 hF2 (zZ _)) | fail) | quiet_step (first | (go_at_call 111; exact zJ hF1 hF2 (zZ _)) | fail)
     refine wpQuiet_nil ?_
     rintro _ ⟨uW, rfl⟩
     have B1 := zO B0 (hF1 uW)
     obtain ⟨Ab, Ac, Aa⟩ := yA (hF1 uW) Ad Ae Af
     obtain ⟨w1, hw⟩ : ∃ V, F uW = V := ⟨_, rfl⟩
     rw [hw] at B1 Ab Ac Aa
     try rw [hw]
     clear hw hF1 hF2 B0 fx_0 fx_1 fx_2 fx_3 fy_0 fy_1 fy_2 fy_3 fz_0 fz_1 fz_2 fz_3 Ad Ae Af
     clear F
     obtain ⟨Ap, Aq, Ar, As⟩ := zC Ab
     obtain ⟨At, Au, Av, Aw⟩ := zC Ac
     obtain ⟨Ax, Ay, Az, AA⟩ := zC Aa
     go_wp2_with fail
     obtain ⟨F, hF1, hF2⟩ := zQ w1
     have fx_0 := fun u => zE (zA (hF1 u) _ _ _ Ab) 0 _ rfl
     have fx_1 := fun u => zE (zA (hF1 u) _ _ _ Ab) 1 _ rfl
     have fx_2 := fun u => zE (zA (hF1 u) _ _ _ Ab) 2 _ rfl
     have fx_3 := fun u => zE (zA (hF1 u) _ _ _ Ab) 3 _ rfl
     have fy_0 := fun u => zE (zA (hF1 u) _ _ _ Ac) 0 _ rfl
     have fy_1 := fun u => zE (zA (hF1 u) _ _ _ Ac) 1 _ rfl
     have fy_2 := fun u => zE (zA (hF1 u) _ _ _ Ac) 2 _ rfl
     have fy_3 := fun u => zE (zA (hF1 u) _ _ _ Ac) 3 _ rfl
     have fz_0 := fun u => zE (zA (hF1 u) _ _ _ Aa) 0 _ rfl
     have fz_1 := fun u => zE (zA (hF1 u) _ _ _ Aa) 1 _ rfl
     have fz_2 := fun u => zE (zA (hF1 u) _ _ _ Aa) 2 _ rfl
     have fz_3 := fun u => zE (zA (hF1 u) _ _ _ Aa) 3 _ rfl
     refine zI F hF2 (by kernel_rfl) (by kernel_rfl) ?_
     repeat first | go_big_quiet_step (first | (go_at_call 111; exact zJ hF1 hF2 (zZ _)) | fail) | quiet_step (first | (go_at_call 111; exact zJ hF1 hF2 (zZ _)) | fail)
     refine wpQuiet_nil ?_
     rintro _ ⟨uW, rfl⟩
     have B2 := zO B1 (hF1 uW)
     obtain ⟨Ah, Ai, Ag⟩ := yA (hF1 uW) Ab Ac Aa
     obtain ⟨w2, hw⟩ : ∃ V, F uW = V := ⟨_, rfl⟩
     rw [hw] at B2 Ah Ai Ag
     try rw [hw]
     clear hw hF1 hF2 B1 fx_0 fx_1 fx_2 fx_3 fy_0 fy_1 fy_2 fy_3 fz_0 fz_1 fz_2 fz_3 Ab Ap Aq Ar As Ac At Au Av Aw Aa Ax Ay Az AA
     clear F
     obtain ⟨AB, AC, AD, AE⟩ := zC Ah
     obtain ⟨AF, AG, AH, AI⟩ := zC Ai
     obtain ⟨AJ, AK, AL, AM⟩ := zC Ag
     go_wp2_with fail
     refine (K1.out _).mono ?_
     rintro r w3 ⟨rfl, b3⟩
     have B3 := zO B2 b3
     obtain ⟨Al, Am, Aj⟩ := yA b3 Ah Ai Ag
     clear b3 B2 Ah AB AC AD AE Ai AF AG AH AI Ag AJ AK AL AM
     obtain ⟨AP, AQ, AR, AS⟩ := zC Al
     obtain ⟨AT, AU, AV, AW⟩ := zC Am
     obtain ⟨AX, AY, AZ, A0⟩ := zC Aj
     have q0 := fz (k := 0) Aj
     have q1 := fz (k := 1) Aj
     have q2 := fz (k := 2) Aj
     have q3 := fz (k := 3) Aj
     obtain ⟨E0, E1, E2, E3⟩ := yC Aj rfl (.bool false) (.string ⟨#[]⟩) (.string ⟨#[]⟩) (.int .i64 0)
     go_wp2
     exact bodyPost_ret (v := .tuple #[.agg #[.bool false, .string ⟨#[]⟩, .string ⟨#[]⟩, .int .i64 0], .int .i64 4]) (by simp [results, Tryz.results55, go_sem, E0, E1, E2, E3]) rfl ⟨rfl, z9 B3 (by first | exact Nat.le_refl _ | omega) _ _ _ _⟩
end Go.Proofs.YtkblmpmkchkpjaaGreatDoor
