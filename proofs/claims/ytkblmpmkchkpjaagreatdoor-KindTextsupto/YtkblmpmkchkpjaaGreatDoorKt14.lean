/-
  What the functions that the statement reaches return: part 14 (KN, KO, KQ, V1, V2, V9, VA, R1, R5, R30, RC, RE, R14, R34, SL, VL).
-/
import Derived.Deep.RegionHeld3
import Derived.Lib.MinMax
import Derived.Test.YtkblmpmkchkpjaaGreatDoorRows
import Derived.OpenShut
import Derived.LaidMore
import Derived.Lib.LaidTab
import Derived.Stop.Joined
import Derived.Stop.LaidErr
import Derived.Test.YtkblmpmkchkpjaaGreatDoorKt13
namespace Go.Proofs.YtkblmpmkchkpjaaGreatDoor
set_option maxRecDepth 100000
set_option maxHeartbeats 40000000
open Go.RowKit WMath
set_option linter.unusedSimpArgs false
set_option linter.unusedVariables false
theorem rpack_xn (f q X : Int) (c s rr : Nat) (l : Nat) (k : Int) (w : World)
  (KP : zP (∀ w, Calls Tryz.prog 87 #[.int .u8 f] w fun r w' => r = .returned (.int .i64 q) ∧ w' = w))
  (KN : zP (∀ w, Calls Tryz.prog 82 #[.agg (cw 6 rr)] w fun r w' => r = .returned (.int .i64 (l : Nat)) ∧ Below w.heap.size w w')) (h1 : IntKind.i64.wrap (q - 1) = k)
  (hl : decide (k < (l : Int)) = true)
  (hc : c = 8 ∨ c = 9) : Calls Tryz.prog 107 #[.int .u8 f, .agg (pt c s X rr)] w fun r w' => r = .returned (.tuple #[.agg #[.int .u64 0, .int .u64 0], .int .i64 80]) ∧ Below w.heap.size w w' := by
 have hat := zU 6
 have hz := yB
 have hff := z8
 have hs0 := xO
 have hcs : ∀ x, ((cw 6 x).size = 6) = True := fun x => eq_true (zR 6 x)
 have hp1 := xP
 have hp3 := ptz
 have hp4 := yI
 have hp5 : ∀ (c s : Nat) (x : Int) (r : Nat), ((pt c s x r).size = 14) = True := fun _ _ _ _ => eq_true rfl
 have heq := eqp
 have hg := eqgp
 have ha0 := xH
 have ha1 := xD
 have ha2 := xC
 have ha3 := y9
 have ha4 := y8
 have ha5 := y7
 have ha6 := y6
 have ha7 := yZ
 have ha8 := xG
 have ha9 := xF
 have ha10 := yQ
 have ha11 := yP
 have ha12 := yO
 have ha13 := yN
 have hb0 := pt_q0
 have hb1 := pt_q1
 have hb2 := pt_q2
 have hb3 := pt_q3
 have hb4 := pt_q4
 have hb5 := pt_q5
 have hb6 := pt_q6
 have hb7 := pt_q7
 have hb8 := pt_q8
 have hb9 := pt_q9
 have hb10 := pt_q10
 have hb11 := pt_q11
 have hb12 := pt_q12
 have hb13 := pt_q13
 rcases hc with hc | hc
 ·
  have f0 : ((c : Int) == 0) = false := by rw [hc]; rfl
  have f7 : ((c : Int) == 7) = false := by rw [hc]; rfl
  have f3 : ((c : Int) == 3) = false := by rw [hc]; rfl
  have f4 : ((c : Int) == 4) = false := by rw [hc]; rfl
  have f8 : ((c : Int) == 8) = true := by rw [hc]; rfl
  clear hc
  obtain ⟨Ab, Ac, Ad, B0⟩ := yX w (Obj.cells (pt c s X rr) 68) (Obj.cells #[.int .u64 0, .int .u64 0] 25) (Obj.cells #[.int .u64 0, .int .u64 0] 25)
  go_enter Tryz.func107, Tryz.ntmps107
  go_wp2_with fail
  refine (KP.out _).mono ?_
  rintro r w' ⟨rfl, hw'⟩
  obtain rfl := hw'.symm
  go_wp2_with fail
  refine (KN.out _).mono ?_
  rintro r w1 ⟨rfl, b1⟩
  have B1 : Below w.heap.size w w1 := zL B0 b1
  obtain ⟨Ae, Aa, Af⟩ := zZ b1 Ab Ac Ad
  clear b1 B0 Ab Ac Ad
  obtain ⟨Ag, Ah, Ai, Aj, Ak, Al, Am, An, Ao, Ap, Aq, Ar, As, At⟩ := zD Ae
  obtain ⟨Au, Av⟩ := zF Aa
  obtain ⟨Aw, Ax⟩ := zF Af
  have q0 := fz (k := 0) Aa
  have q1 := fz (k := 1) Aa
  obtain ⟨E0, E1⟩ := zM Aa (.int .u64 0) (.int .u64 0)
  go_wp2
  exact bodyPost_ret (v := .tuple #[.agg #[.int .u64 0, .int .u64 0], .int .i64 80]) (by simp [results, Tryz.results107, go_sem, E0, E1]) rfl ⟨rfl, zI B1 (by first | exact Nat.le_refl _ | omega | (skip; omega)) _ _⟩
 ·
  have f0 : ((c : Int) == 0) = false := by rw [hc]; rfl
  have f7 : ((c : Int) == 7) = false := by rw [hc]; rfl
  have f3 : ((c : Int) == 3) = false := by rw [hc]; rfl
  have f4 : ((c : Int) == 4) = false := by rw [hc]; rfl
  have f8 : ((c : Int) == 8) = false := by rw [hc]; rfl
  have f9 : ((c : Int) == 9) = true := by rw [hc]; rfl
  clear hc
  obtain ⟨Ab, Ac, Ad, B0⟩ := yX w (Obj.cells (pt c s X rr) 68) (Obj.cells #[.int .u64 0, .int .u64 0] 25) (Obj.cells #[.int .u64 0, .int .u64 0] 25)
  go_enter Tryz.func107, Tryz.ntmps107
  go_wp2_with fail
  refine (KP.out _).mono ?_
  rintro r w' ⟨rfl, hw'⟩
  obtain rfl := hw'.symm
  go_wp2_with fail
  refine (KN.out _).mono ?_
  rintro r w1 ⟨rfl, b1⟩
  have B1 : Below w.heap.size w w1 := zL B0 b1
  obtain ⟨Ae, Aa, Af⟩ := zZ b1 Ab Ac Ad
  clear b1 B0 Ab Ac Ad
  obtain ⟨Ag, Ah, Ai, Aj, Ak, Al, Am, An, Ao, Ap, Aq, Ar, As, At⟩ := zD Ae
  obtain ⟨Au, Av⟩ := zF Aa
  obtain ⟨Aw, Ax⟩ := zF Af
  have q0 := fz (k := 0) Aa
  have q1 := fz (k := 1) Aa
  obtain ⟨E0, E1⟩ := zM Aa (.int .u64 0) (.int .u64 0)
  go_wp2
  exact bodyPost_ret (v := .tuple #[.agg #[.int .u64 0, .int .u64 0], .int .i64 80]) (by simp [results, Tryz.results107, go_sem, E0, E1]) rfl ⟨rfl, zI B1 (by first | exact Nat.le_refl _ | omega | (skip; omega)) _ _⟩
theorem rpack_xs (f q X : Int) (c s rr : Nat) (l : Nat) (k : Int) (w : World)
  (KP : zP (∀ w, Calls Tryz.prog 87 #[.int .u8 f] w fun r w' => r = .returned (.int .i64 q) ∧ w' = w))
  (KN : zP (∀ w, Calls Tryz.prog 82 #[.agg (cw 6 s)] w fun r w' => r = .returned (.int .i64 (l : Nat)) ∧ Below w.heap.size w w')) (h1 : IntKind.i64.wrap (q - 1) = k)
  (hl : decide (k < (l : Int)) = true)
  (hc : c = 2 ∨ c = 5) : Calls Tryz.prog 107 #[.int .u8 f, .agg (pt c s X rr)] w fun r w' => r = .returned (.tuple #[.agg #[.int .u64 0, .int .u64 0], .int .i64 80]) ∧ Below w.heap.size w w' := by
 have hat := zU 6
 have hz := yB
 have hff := z8
 have hs0 := xO
 have hcs : ∀ x, ((cw 6 x).size = 6) = True := fun x => eq_true (zR 6 x)
 have hp1 := xP
 have hp3 := ptz
 have hp4 := yI
 have hp5 : ∀ (c s : Nat) (x : Int) (r : Nat), ((pt c s x r).size = 14) = True := fun _ _ _ _ => eq_true rfl
 have heq := eqp
 have hg := eqgp
 have ha0 := xH
 have ha1 := xD
 have ha2 := xC
 have ha3 := y9
 have ha4 := y8
 have ha5 := y7
 have ha6 := y6
 have ha7 := yZ
 have ha8 := xG
 have ha9 := xF
 have ha10 := yQ
 have ha11 := yP
 have ha12 := yO
 have ha13 := yN
 have hb0 := pt_q0
 have hb1 := pt_q1
 have hb2 := pt_q2
 have hb3 := pt_q3
 have hb4 := pt_q4
 have hb5 := pt_q5
 have hb6 := pt_q6
 have hb7 := pt_q7
 have hb8 := pt_q8
 have hb9 := pt_q9
 have hb10 := pt_q10
 have hb11 := pt_q11
 have hb12 := pt_q12
 have hb13 := pt_q13
 rcases hc with hc | hc
 ·
  have f0 : ((c : Int) == 0) = false := by rw [hc]; rfl
  have f7 : ((c : Int) == 7) = false := by rw [hc]; rfl
  have f3 : ((c : Int) == 3) = false := by rw [hc]; rfl
  have f4 : ((c : Int) == 4) = false := by rw [hc]; rfl
  have f8 : ((c : Int) == 8) = false := by rw [hc]; rfl
  have f9 : ((c : Int) == 9) = false := by rw [hc]; rfl
  have f2 : ((c : Int) == 2) = true := by rw [hc]; rfl
  clear hc
  obtain ⟨Ab, Ac, Ad, B0⟩ := yX w (Obj.cells (pt c s X rr) 68) (Obj.cells #[.int .u64 0, .int .u64 0] 25) (Obj.cells #[.int .u64 0, .int .u64 0] 25)
  go_enter Tryz.func107, Tryz.ntmps107
  go_wp2_with fail
  refine (KP.out _).mono ?_
  rintro r w' ⟨rfl, hw'⟩
  obtain rfl := hw'.symm
  go_wp2_with fail
  refine (KN.out _).mono ?_
  rintro r w1 ⟨rfl, b1⟩
  have B1 : Below w.heap.size w w1 := zL B0 b1
  obtain ⟨Ae, Aa, Af⟩ := zZ b1 Ab Ac Ad
  clear b1 B0 Ab Ac Ad
  obtain ⟨Ag, Ah, Ai, Aj, Ak, Al, Am, An, Ao, Ap, Aq, Ar, As, At⟩ := zD Ae
  obtain ⟨Au, Av⟩ := zF Aa
  obtain ⟨Aw, Ax⟩ := zF Af
  have q0 := fz (k := 0) Aa
  have q1 := fz (k := 1) Aa
  obtain ⟨E0, E1⟩ := zM Aa (.int .u64 0) (.int .u64 0)
  go_wp2
  exact bodyPost_ret (v := .tuple #[.agg #[.int .u64 0, .int .u64 0], .int .i64 80]) (by simp [results, Tryz.results107, go_sem, E0, E1]) rfl ⟨rfl, zI B1 (by first | exact Nat.le_refl _ | omega | (skip; omega)) _ _⟩
 ·
  have f0 : ((c : Int) == 0) = false := by rw [hc]; rfl
  have f7 : ((c : Int) == 7) = false := by rw [hc]; rfl
  have f3 : ((c : Int) == 3) = false := by rw [hc]; rfl
  have f4 : ((c : Int) == 4) = false := by rw [hc]; rfl
  have f8 : ((c : Int) == 8) = false := by rw [hc]; rfl
  have f9 : ((c : Int) == 9) = false := by rw [hc]; rfl
  have f2 : ((c : Int) == 2) = false := by rw [hc]; rfl
  have f5 : ((c : Int) == 5) = true := by rw [hc]; rfl
  clear hc
  obtain ⟨Ab, Ac, Ad, B0⟩ := yX w (Obj.cells (pt c s X rr) 68) (Obj.cells #[.int .u64 0, .int .u64 0] 25) (Obj.cells #[.int .u64 0, .int .u64 0] 25)
  go_enter Tryz.func107, Tryz.ntmps107
  go_wp2_with fail
  refine (KP.out _).mono ?_
  rintro r w' ⟨rfl, hw'⟩
  obtain rfl := hw'.symm
  go_wp2_with fail
  refine (KN.out _).mono ?_
  rintro r w1 ⟨rfl, b1⟩
  have B1 : Below w.heap.size w w1 := zL B0 b1
  obtain ⟨Ae, Aa, Af⟩ := zZ b1 Ab Ac Ad
  clear b1 B0 Ab Ac Ad
  obtain ⟨Ag, Ah, Ai, Aj, Ak, Al, Am, An, Ao, Ap, Aq, Ar, As, At⟩ := zD Ae
  obtain ⟨Au, Av⟩ := zF Aa
  obtain ⟨Aw, Ax⟩ := zF Af
  have q0 := fz (k := 0) Aa
  have q1 := fz (k := 1) Aa
  obtain ⟨E0, E1⟩ := zM Aa (.int .u64 0) (.int .u64 0)
  go_wp2
  exact bodyPost_ret (v := .tuple #[.agg #[.int .u64 0, .int .u64 0], .int .i64 80]) (by simp [results, Tryz.results107, go_sem, E0, E1]) rfl ⟨rfl, zI B1 (by first | exact Nat.le_refl _ | omega | (skip; omega)) _ _⟩
theorem rpack_xm (f q X : Int) (c s rr : Nat) (l : Nat) (k m M L M2 : Int) (w : World)
  (KP : zP (∀ w, Calls Tryz.prog 87 #[.int .u8 f] w fun r w' => r = .returned (.int .i64 q) ∧ w' = w))
  (KN : zP (∀ w, Calls Tryz.prog 82 #[.agg (cw 6 s)] w fun r w' => r = .returned (.int .i64 (l : Nat)) ∧ Below w.heap.size w w')) (h1 : IntKind.i64.wrap (q - 1) = k)
  (KE : zP (∀ w, Calls Tryz.prog 88 #[.int .u8 f] w fun r w' => r = .returned (.int .i64 m) ∧ w' = w)) (h2 : IntKind.i64.wrap (m - q) = m - q) (h3 : IntKind.i64.wrap (m - q + 1) = L)
  (KX : zP (∀ w, Calls Tryz.prog 92 #[.int .u8 f] w fun r w' => r = .returned (.int .i64 M) ∧ w' = w)) (h4 : IntKind.i64.wrap (M - q) = M - q) (h5 : IntKind.i64.wrap (M - q + 1) = M2)
  (hw : ((l : Int) != q) = true ∨ (((l : Int) != q) = false ∧ decide (X < L) = true) ∨ (((l : Int) != q) = false ∧ decide (X < L) = false ∧ decide (M2 < X) = true))
  (hc : c = 1 ∨ c = 6) : Calls Tryz.prog 107 #[.int .u8 f, .agg (pt c s X rr)] w fun r w' => r = .returned (.tuple #[.agg #[.int .u64 0, .int .u64 0], .int .i64 80]) ∧ Below w.heap.size w w' := by
 have hat := zU 6
 have hz := yB
 have hff := z8
 have hs0 := xO
 have hcs : ∀ x, ((cw 6 x).size = 6) = True := fun x => eq_true (zR 6 x)
 have hp1 := xP
 have hp3 := ptz
 have hp4 := yI
 have hp5 : ∀ (c s : Nat) (x : Int) (r : Nat), ((pt c s x r).size = 14) = True := fun _ _ _ _ => eq_true rfl
 have heq := eqp
 have hg := eqgp
 have ha0 := xH
 have ha1 := xD
 have ha2 := xC
 have ha3 := y9
 have ha4 := y8
 have ha5 := y7
 have ha6 := y6
 have ha7 := yZ
 have ha8 := xG
 have ha9 := xF
 have ha10 := yQ
 have ha11 := yP
 have ha12 := yO
 have ha13 := yN
 have hb0 := pt_q0
 have hb1 := pt_q1
 have hb2 := pt_q2
 have hb3 := pt_q3
 have hb4 := pt_q4
 have hb5 := pt_q5
 have hb6 := pt_q6
 have hb7 := pt_q7
 have hb8 := pt_q8
 have hb9 := pt_q9
 have hb10 := pt_q10
 have hb11 := pt_q11
 have hb12 := pt_q12
 have hb13 := pt_q13
 rcases hc with hc | hc
 ·
  have f0 : ((c : Int) == 0) = false := by rw [hc]; rfl
  have f7 : ((c : Int) == 7) = false := by rw [hc]; rfl
  have f3 : ((c : Int) == 3) = false := by rw [hc]; rfl
  have f4 : ((c : Int) == 4) = false := by rw [hc]; rfl
  have f8 : ((c : Int) == 8) = false := by rw [hc]; rfl
  have f9 : ((c : Int) == 9) = false := by rw [hc]; rfl
  have f2 : ((c : Int) == 2) = false := by rw [hc]; rfl
  have f5 : ((c : Int) == 5) = false := by rw [hc]; rfl
  have f1 : ((c : Int) == 1) = true := by rw [hc]; rfl
  clear hc
  rcases hw with c1 | ⟨c1, c2⟩ | ⟨c1, c2, c3⟩
  ·
   obtain ⟨Aa, Ac, Ad, B0⟩ := yX w (Obj.cells (pt c s X rr) 68) (Obj.cells #[.int .u64 0, .int .u64 0] 25) (Obj.cells #[.int .u64 0, .int .u64 0] 25)
   go_enter Tryz.func107, Tryz.ntmps107
   go_wp2_with fail
   refine (KP.out _).mono ?_
   rintro r w' ⟨rfl, hw'⟩
   obtain rfl := hw'.symm
   go_wp2_with fail
   refine (KE.out _).mono ?_
   rintro r w' ⟨rfl, hw'⟩
   obtain rfl := hw'.symm
   go_wp2_with fail
   obtain ⟨F, hF1, hF2⟩ := zS (((w.alloc (Obj.cells (pt c s X rr) 68)).alloc (Obj.cells #[.int .u64 0, .int .u64 0] 25)).alloc (Obj.cells #[.int .u64 0, .int .u64 0] 25))
   have fp_0 := fun u => zC (zA (hF1 u) _ _ _ Aa) 0 _ rfl
   have fp_1 := fun u => zC (zA (hF1 u) _ _ _ Aa) 1 _ rfl
   have fp_2 := fun u => zC (zA (hF1 u) _ _ _ Aa) 2 _ rfl
   have fp_3 := fun u => zC (zA (hF1 u) _ _ _ Aa) 3 _ rfl
   have fp_4 := fun u => zC (zA (hF1 u) _ _ _ Aa) 4 _ rfl
   have fp_5 := fun u => zC (zA (hF1 u) _ _ _ Aa) 5 _ rfl
   have fp_6 := fun u => zC (zA (hF1 u) _ _ _ Aa) 6 _ rfl
   have fp_7 := fun u => zC (zA (hF1 u) _ _ _ Aa) 7 _ rfl
   have fp_8 := fun u => zC (zA (hF1 u) _ _ _ Aa) 8 _ rfl
   have fp_9 := fun u => zC (zA (hF1 u) _ _ _ Aa) 9 _ rfl
   have fp_10 := fun u => zC (zA (hF1 u) _ _ _ Aa) 10 _ rfl
   have fp_11 := fun u => zC (zA (hF1 u) _ _ _ Aa) 11 _ rfl
   have fp_12 := fun u => zC (zA (hF1 u) _ _ _ Aa) 12 _ rfl
   have fp_13 := fun u => zC (zA (hF1 u) _ _ _ Aa) 13 _ rfl
   have fz_0 := fun u => zC (zA (hF1 u) _ _ _ Ac) 0 _ rfl
   have fz_1 := fun u => zC (zA (hF1 u) _ _ _ Ac) 1 _ rfl
   have fb_0 := fun u => zC (zA (hF1 u) _ _ _ Ad) 0 _ rfl
   have fb_1 := fun u => zC (zA (hF1 u) _ _ _ Ad) 1 _ rfl
   refine zJ F hF2 (by kernel_rfl) (by kernel_rfl) ?_
   repeat first | go_big_quiet_step (first | (go_at_call 82; exact zN hF1 hF2 (KN.out _)) | (go_at_call 92; exact yG (KX.out _)) | fail) | quiet_step (first | (go_at_call 82; exact zN hF1 hF2 (KN.out _)) | (go_at_call 92; exact yG (KX.out _)) | fail)
   refine wpQuiet_nil ?_
   rintro _ ⟨uW, rfl⟩
   have B1 := zL B0 (hF1 uW)
   obtain ⟨Ae, Ab, Af⟩ := zZ (hF1 uW) Aa Ac Ad
   obtain ⟨w1, hw⟩ : ∃ V, F uW = V := ⟨_, rfl⟩
   rw [hw] at B1 Ae Ab Af
   try rw [hw]
   clear hw hF1 hF2 B0 fp_0 fp_1 fp_2 fp_3 fp_4 fp_5 fp_6 fp_7 fp_8 fp_9 fp_10 fp_11 fp_12 fp_13 fz_0 fz_1 fb_0 fb_1 Aa Ac Ad
   clear F
   obtain ⟨Ag, Ah, Ai, Aj, Ak, Al, Am, An, Ao, Ap, Aq, Ar, As, At⟩ := zD Ae
   obtain ⟨Au, Av⟩ := zF Ab
   obtain ⟨Aw, Ax⟩ := zF Af
   have q0 := fz (k := 0) Ab
   have q1 := fz (k := 1) Ab
   obtain ⟨E0, E1⟩ := zM Ab (.int .u64 0) (.int .u64 0)
   go_wp2
   exact bodyPost_ret (v := .tuple #[.agg #[.int .u64 0, .int .u64 0], .int .i64 80]) (by simp [results, Tryz.results107, go_sem, E0, E1]) rfl ⟨rfl, zI B1 (by first | exact Nat.le_refl _ | omega | (skip; omega)) _ _⟩
  ·
   obtain ⟨Aa, Ac, Ad, B0⟩ := yX w (Obj.cells (pt c s X rr) 68) (Obj.cells #[.int .u64 0, .int .u64 0] 25) (Obj.cells #[.int .u64 0, .int .u64 0] 25)
   go_enter Tryz.func107, Tryz.ntmps107
   go_wp2_with fail
   refine (KP.out _).mono ?_
   rintro r w' ⟨rfl, hw'⟩
   obtain rfl := hw'.symm
   go_wp2_with fail
   refine (KE.out _).mono ?_
   rintro r w' ⟨rfl, hw'⟩
   obtain rfl := hw'.symm
   go_wp2_with fail
   obtain ⟨F, hF1, hF2⟩ := zS (((w.alloc (Obj.cells (pt c s X rr) 68)).alloc (Obj.cells #[.int .u64 0, .int .u64 0] 25)).alloc (Obj.cells #[.int .u64 0, .int .u64 0] 25))
   have fp_0 := fun u => zC (zA (hF1 u) _ _ _ Aa) 0 _ rfl
   have fp_1 := fun u => zC (zA (hF1 u) _ _ _ Aa) 1 _ rfl
   have fp_2 := fun u => zC (zA (hF1 u) _ _ _ Aa) 2 _ rfl
   have fp_3 := fun u => zC (zA (hF1 u) _ _ _ Aa) 3 _ rfl
   have fp_4 := fun u => zC (zA (hF1 u) _ _ _ Aa) 4 _ rfl
   have fp_5 := fun u => zC (zA (hF1 u) _ _ _ Aa) 5 _ rfl
   have fp_6 := fun u => zC (zA (hF1 u) _ _ _ Aa) 6 _ rfl
   have fp_7 := fun u => zC (zA (hF1 u) _ _ _ Aa) 7 _ rfl
   have fp_8 := fun u => zC (zA (hF1 u) _ _ _ Aa) 8 _ rfl
   have fp_9 := fun u => zC (zA (hF1 u) _ _ _ Aa) 9 _ rfl
   have fp_10 := fun u => zC (zA (hF1 u) _ _ _ Aa) 10 _ rfl
   have fp_11 := fun u => zC (zA (hF1 u) _ _ _ Aa) 11 _ rfl
   have fp_12 := fun u => zC (zA (hF1 u) _ _ _ Aa) 12 _ rfl
   have fp_13 := fun u => zC (zA (hF1 u) _ _ _ Aa) 13 _ rfl
   have fz_0 := fun u => zC (zA (hF1 u) _ _ _ Ac) 0 _ rfl
   have fz_1 := fun u => zC (zA (hF1 u) _ _ _ Ac) 1 _ rfl
   have fb_0 := fun u => zC (zA (hF1 u) _ _ _ Ad) 0 _ rfl
   have fb_1 := fun u => zC (zA (hF1 u) _ _ _ Ad) 1 _ rfl
   refine zJ F hF2 (by kernel_rfl) (by kernel_rfl) ?_
   repeat first | go_big_quiet_step (first | (go_at_call 82; exact zN hF1 hF2 (KN.out _)) | (go_at_call 92; exact yG (KX.out _)) | fail) | quiet_step (first | (go_at_call 82; exact zN hF1 hF2 (KN.out _)) | (go_at_call 92; exact yG (KX.out _)) | fail)
   refine wpQuiet_nil ?_
   rintro _ ⟨uW, rfl⟩
   have B1 := zL B0 (hF1 uW)
   obtain ⟨Ae, Ab, Af⟩ := zZ (hF1 uW) Aa Ac Ad
   obtain ⟨w1, hw⟩ : ∃ V, F uW = V := ⟨_, rfl⟩
   rw [hw] at B1 Ae Ab Af
   try rw [hw]
   clear hw hF1 hF2 B0 fp_0 fp_1 fp_2 fp_3 fp_4 fp_5 fp_6 fp_7 fp_8 fp_9 fp_10 fp_11 fp_12 fp_13 fz_0 fz_1 fb_0 fb_1 Aa Ac Ad
   clear F
   obtain ⟨Ag, Ah, Ai, Aj, Ak, Al, Am, An, Ao, Ap, Aq, Ar, As, At⟩ := zD Ae
   obtain ⟨Au, Av⟩ := zF Ab
   obtain ⟨Aw, Ax⟩ := zF Af
   have q0 := fz (k := 0) Ab
   have q1 := fz (k := 1) Ab
   obtain ⟨E0, E1⟩ := zM Ab (.int .u64 0) (.int .u64 0)
   go_wp2
   exact bodyPost_ret (v := .tuple #[.agg #[.int .u64 0, .int .u64 0], .int .i64 80]) (by simp [results, Tryz.results107, go_sem, E0, E1]) rfl ⟨rfl, zI B1 (by first | exact Nat.le_refl _ | omega | (skip; omega)) _ _⟩
  ·
   obtain ⟨Aa, Ac, Ad, B0⟩ := yX w (Obj.cells (pt c s X rr) 68) (Obj.cells #[.int .u64 0, .int .u64 0] 25) (Obj.cells #[.int .u64 0, .int .u64 0] 25)
   go_enter Tryz.func107, Tryz.ntmps107
   go_wp2_with fail
   refine (KP.out _).mono ?_
   rintro r w' ⟨rfl, hw'⟩
   obtain rfl := hw'.symm
   go_wp2_with fail
   refine (KE.out _).mono ?_
   rintro r w' ⟨rfl, hw'⟩
   obtain rfl := hw'.symm
   go_wp2_with fail
   obtain ⟨F, hF1, hF2⟩ := zS (((w.alloc (Obj.cells (pt c s X rr) 68)).alloc (Obj.cells #[.int .u64 0, .int .u64 0] 25)).alloc (Obj.cells #[.int .u64 0, .int .u64 0] 25))
   have fp_0 := fun u => zC (zA (hF1 u) _ _ _ Aa) 0 _ rfl
   have fp_1 := fun u => zC (zA (hF1 u) _ _ _ Aa) 1 _ rfl
   have fp_2 := fun u => zC (zA (hF1 u) _ _ _ Aa) 2 _ rfl
   have fp_3 := fun u => zC (zA (hF1 u) _ _ _ Aa) 3 _ rfl
   have fp_4 := fun u => zC (zA (hF1 u) _ _ _ Aa) 4 _ rfl
   have fp_5 := fun u => zC (zA (hF1 u) _ _ _ Aa) 5 _ rfl
   have fp_6 := fun u => zC (zA (hF1 u) _ _ _ Aa) 6 _ rfl
   have fp_7 := fun u => zC (zA (hF1 u) _ _ _ Aa) 7 _ rfl
   have fp_8 := fun u => zC (zA (hF1 u) _ _ _ Aa) 8 _ rfl
   have fp_9 := fun u => zC (zA (hF1 u) _ _ _ Aa) 9 _ rfl
   have fp_10 := fun u => zC (zA (hF1 u) _ _ _ Aa) 10 _ rfl
   have fp_11 := fun u => zC (zA (hF1 u) _ _ _ Aa) 11 _ rfl
   have fp_12 := fun u => zC (zA (hF1 u) _ _ _ Aa) 12 _ rfl
   have fp_13 := fun u => zC (zA (hF1 u) _ _ _ Aa) 13 _ rfl
   have fz_0 := fun u => zC (zA (hF1 u) _ _ _ Ac) 0 _ rfl
   have fz_1 := fun u => zC (zA (hF1 u) _ _ _ Ac) 1 _ rfl
   have fb_0 := fun u => zC (zA (hF1 u) _ _ _ Ad) 0 _ rfl
   have fb_1 := fun u => zC (zA (hF1 u) _ _ _ Ad) 1 _ rfl
   refine zJ F hF2 (by kernel_rfl) (by kernel_rfl) ?_
   repeat first | go_big_quiet_step (first | (go_at_call 82; exact zN hF1 hF2 (KN.out _)) | (go_at_call 92; exact yG (KX.out _)) | fail) | quiet_step (first | (go_at_call 82; exact zN hF1 hF2 (KN.out _)) | (go_at_call 92; exact yG (KX.out _)) | fail)
   refine wpQuiet_nil ?_
   rintro _ ⟨uW, rfl⟩
   have B1 := zL B0 (hF1 uW)
   obtain ⟨Ae, Ab, Af⟩ := zZ (hF1 uW) Aa Ac Ad
   obtain ⟨w1, hw⟩ : ∃ V, F uW = V := ⟨_, rfl⟩
   rw [hw] at B1 Ae Ab Af
   try rw [hw]
   clear hw hF1 hF2 B0 fp_0 fp_1 fp_2 fp_3 fp_4 fp_5 fp_6 fp_7 fp_8 fp_9 fp_10 fp_11 fp_12 fp_13 fz_0 fz_1 fb_0 fb_1 Aa Ac Ad
   clear F
   obtain ⟨Ag, Ah, Ai, Aj, Ak, Al, Am, An, Ao, Ap, Aq, Ar, As, At⟩ := zD Ae
   obtain ⟨Au, Av⟩ := zF Ab
   obtain ⟨Aw, Ax⟩ := zF Af
   have q0 := fz (k := 0) Ab
   have q1 := fz (k := 1) Ab
   obtain ⟨E0, E1⟩ := zM Ab (.int .u64 0) (.int .u64 0)
   go_wp2
   exact bodyPost_ret (v := .tuple #[.agg #[.int .u64 0, .int .u64 0], .int .i64 80]) (by simp [results, Tryz.results107, go_sem, E0, E1]) rfl ⟨rfl, zI B1 (by first | exact Nat.le_refl _ | omega | (skip; omega)) _ _⟩
 ·
  have f0 : ((c : Int) == 0) = false := by rw [hc]; rfl
  have f7 : ((c : Int) == 7) = false := by rw [hc]; rfl
  have f3 : ((c : Int) == 3) = false := by rw [hc]; rfl
  have f4 : ((c : Int) == 4) = false := by rw [hc]; rfl
  have f8 : ((c : Int) == 8) = false := by rw [hc]; rfl
  have f9 : ((c : Int) == 9) = false := by rw [hc]; rfl
  have f2 : ((c : Int) == 2) = false := by rw [hc]; rfl
  have f5 : ((c : Int) == 5) = false := by rw [hc]; rfl
  have f1 : ((c : Int) == 1) = false := by rw [hc]; rfl
  have f6 : ((c : Int) == 6) = true := by rw [hc]; rfl
  clear hc
  rcases hw with c1 | ⟨c1, c2⟩ | ⟨c1, c2, c3⟩
  ·
   obtain ⟨Aa, Ac, Ad, B0⟩ := yX w (Obj.cells (pt c s X rr) 68) (Obj.cells #[.int .u64 0, .int .u64 0] 25) (Obj.cells #[.int .u64 0, .int .u64 0] 25)
   go_enter Tryz.func107, Tryz.ntmps107
   go_wp2_with fail
   refine (KP.out _).mono ?_
   rintro r w' ⟨rfl, hw'⟩
   obtain rfl := hw'.symm
   go_wp2_with fail
   refine (KE.out _).mono ?_
   rintro r w' ⟨rfl, hw'⟩
   obtain rfl := hw'.symm
   go_wp2_with fail
   obtain ⟨F, hF1, hF2⟩ := zS (((w.alloc (Obj.cells (pt c s X rr) 68)).alloc (Obj.cells #[.int .u64 0, .int .u64 0] 25)).alloc (Obj.cells #[.int .u64 0, .int .u64 0] 25))
   have fp_0 := fun u => zC (zA (hF1 u) _ _ _ Aa) 0 _ rfl
   have fp_1 := fun u => zC (zA (hF1 u) _ _ _ Aa) 1 _ rfl
   have fp_2 := fun u => zC (zA (hF1 u) _ _ _ Aa) 2 _ rfl
   have fp_3 := fun u => zC (zA (hF1 u) _ _ _ Aa) 3 _ rfl
   have fp_4 := fun u => zC (zA (hF1 u) _ _ _ Aa) 4 _ rfl
   have fp_5 := fun u => zC (zA (hF1 u) _ _ _ Aa) 5 _ rfl
   have fp_6 := fun u => zC (zA (hF1 u) _ _ _ Aa) 6 _ rfl
   have fp_7 := fun u => zC (zA (hF1 u) _ _ _ Aa) 7 _ rfl
   have fp_8 := fun u => zC (zA (hF1 u) _ _ _ Aa) 8 _ rfl
   have fp_9 := fun u => zC (zA (hF1 u) _ _ _ Aa) 9 _ rfl
   have fp_10 := fun u => zC (zA (hF1 u) _ _ _ Aa) 10 _ rfl
   have fp_11 := fun u => zC (zA (hF1 u) _ _ _ Aa) 11 _ rfl
   have fp_12 := fun u => zC (zA (hF1 u) _ _ _ Aa) 12 _ rfl
   have fp_13 := fun u => zC (zA (hF1 u) _ _ _ Aa) 13 _ rfl
   have fz_0 := fun u => zC (zA (hF1 u) _ _ _ Ac) 0 _ rfl
   have fz_1 := fun u => zC (zA (hF1 u) _ _ _ Ac) 1 _ rfl
   have fb_0 := fun u => zC (zA (hF1 u) _ _ _ Ad) 0 _ rfl
   have fb_1 := fun u => zC (zA (hF1 u) _ _ _ Ad) 1 _ rfl
   refine zJ F hF2 (by kernel_rfl) (by kernel_rfl) ?_
   repeat first | go_big_quiet_step (first | (go_at_call 82; exact zN hF1 hF2 (KN.out _)) | (go_at_call 92; exact yG (KX.out _)) | fail) | quiet_step (first | (go_at_call 82; exact zN hF1 hF2 (KN.out _)) | (go_at_call 92; exact yG (KX.out _)) | fail)
   refine wpQuiet_nil ?_
   rintro _ ⟨uW, rfl⟩
   have B1 := zL B0 (hF1 uW)
   obtain ⟨Ae, Ab, Af⟩ := zZ (hF1 uW) Aa Ac Ad
   obtain ⟨w1, hw⟩ : ∃ V, F uW = V := ⟨_, rfl⟩
   rw [hw] at B1 Ae Ab Af
   try rw [hw]
   clear hw hF1 hF2 B0 fp_0 fp_1 fp_2 fp_3 fp_4 fp_5 fp_6 fp_7 fp_8 fp_9 fp_10 fp_11 fp_12 fp_13 fz_0 fz_1 fb_0 fb_1 Aa Ac Ad
   clear F
   obtain ⟨Ag, Ah, Ai, Aj, Ak, Al, Am, An, Ao, Ap, Aq, Ar, As, At⟩ := zD Ae
   obtain ⟨Au, Av⟩ := zF Ab
   obtain ⟨Aw, Ax⟩ := zF Af
   have q0 := fz (k := 0) Ab
   have q1 := fz (k := 1) Ab
   obtain ⟨E0, E1⟩ := zM Ab (.int .u64 0) (.int .u64 0)
   go_wp2
   exact bodyPost_ret (v := .tuple #[.agg #[.int .u64 0, .int .u64 0], .int .i64 80]) (by simp [results, Tryz.results107, go_sem, E0, E1]) rfl ⟨rfl, zI B1 (by first | exact Nat.le_refl _ | omega | (skip; omega)) _ _⟩
  ·
   obtain ⟨Aa, Ac, Ad, B0⟩ := yX w (Obj.cells (pt c s X rr) 68) (Obj.cells #[.int .u64 0, .int .u64 0] 25) (Obj.cells #[.int .u64 0, .int .u64 0] 25)
   go_enter Tryz.func107, Tryz.ntmps107
   go_wp2_with fail
   refine (KP.out _).mono ?_
   rintro r w' ⟨rfl, hw'⟩
   obtain rfl := hw'.symm
   go_wp2_with fail
   refine (KE.out _).mono ?_
   rintro r w' ⟨rfl, hw'⟩
   obtain rfl := hw'.symm
   go_wp2_with fail
   obtain ⟨F, hF1, hF2⟩ := zS (((w.alloc (Obj.cells (pt c s X rr) 68)).alloc (Obj.cells #[.int .u64 0, .int .u64 0] 25)).alloc (Obj.cells #[.int .u64 0, .int .u64 0] 25))
   have fp_0 := fun u => zC (zA (hF1 u) _ _ _ Aa) 0 _ rfl
   have fp_1 := fun u => zC (zA (hF1 u) _ _ _ Aa) 1 _ rfl
   have fp_2 := fun u => zC (zA (hF1 u) _ _ _ Aa) 2 _ rfl
   have fp_3 := fun u => zC (zA (hF1 u) _ _ _ Aa) 3 _ rfl
   have fp_4 := fun u => zC (zA (hF1 u) _ _ _ Aa) 4 _ rfl
   have fp_5 := fun u => zC (zA (hF1 u) _ _ _ Aa) 5 _ rfl
   have fp_6 := fun u => zC (zA (hF1 u) _ _ _ Aa) 6 _ rfl
   have fp_7 := fun u => zC (zA (hF1 u) _ _ _ Aa) 7 _ rfl
   have fp_8 := fun u => zC (zA (hF1 u) _ _ _ Aa) 8 _ rfl
   have fp_9 := fun u => zC (zA (hF1 u) _ _ _ Aa) 9 _ rfl
   have fp_10 := fun u => zC (zA (hF1 u) _ _ _ Aa) 10 _ rfl
   have fp_11 := fun u => zC (zA (hF1 u) _ _ _ Aa) 11 _ rfl
   have fp_12 := fun u => zC (zA (hF1 u) _ _ _ Aa) 12 _ rfl
   have fp_13 := fun u => zC (zA (hF1 u) _ _ _ Aa) 13 _ rfl
   have fz_0 := fun u => zC (zA (hF1 u) _ _ _ Ac) 0 _ rfl
   have fz_1 := fun u => zC (zA (hF1 u) _ _ _ Ac) 1 _ rfl
   have fb_0 := fun u => zC (zA (hF1 u) _ _ _ Ad) 0 _ rfl
   have fb_1 := fun u => zC (zA (hF1 u) _ _ _ Ad) 1 _ rfl
   refine zJ F hF2 (by kernel_rfl) (by kernel_rfl) ?_
   repeat first | go_big_quiet_step (first | (go_at_call 82; exact zN hF1 hF2 (KN.out _)) | (go_at_call 92; exact yG (KX.out _)) | fail) | quiet_step (first | (go_at_call 82; exact zN hF1 hF2 (KN.out _)) | (go_at_call 92; exact yG (KX.out _)) | fail)
   refine wpQuiet_nil ?_
   rintro _ ⟨uW, rfl⟩
   have B1 := zL B0 (hF1 uW)
   obtain ⟨Ae, Ab, Af⟩ := zZ (hF1 uW) Aa Ac Ad
   obtain ⟨w1, hw⟩ : ∃ V, F uW = V := ⟨_, rfl⟩
   rw [hw] at B1 Ae Ab Af
   try rw [hw]
   clear hw hF1 hF2 B0 fp_0 fp_1 fp_2 fp_3 fp_4 fp_5 fp_6 fp_7 fp_8 fp_9 fp_10 fp_11 fp_12 fp_13 fz_0 fz_1 fb_0 fb_1 Aa Ac Ad
   clear F
   obtain ⟨Ag, Ah, Ai, Aj, Ak, Al, Am, An, Ao, Ap, Aq, Ar, As, At⟩ := zD Ae
   obtain ⟨Au, Av⟩ := zF Ab
   obtain ⟨Aw, Ax⟩ := zF Af
   have q0 := fz (k := 0) Ab
   have q1 := fz (k := 1) Ab
   obtain ⟨E0, E1⟩ := zM Ab (.int .u64 0) (.int .u64 0)
   go_wp2
   exact bodyPost_ret (v := .tuple #[.agg #[.int .u64 0, .int .u64 0], .int .i64 80]) (by simp [results, Tryz.results107, go_sem, E0, E1]) rfl ⟨rfl, zI B1 (by first | exact Nat.le_refl _ | omega | (skip; omega)) _ _⟩
  ·
   obtain ⟨Aa, Ac, Ad, B0⟩ := yX w (Obj.cells (pt c s X rr) 68) (Obj.cells #[.int .u64 0, .int .u64 0] 25) (Obj.cells #[.int .u64 0, .int .u64 0] 25)
   go_enter Tryz.func107, Tryz.ntmps107
   go_wp2_with fail
   refine (KP.out _).mono ?_
   rintro r w' ⟨rfl, hw'⟩
   obtain rfl := hw'.symm
   go_wp2_with fail
   refine (KE.out _).mono ?_
   rintro r w' ⟨rfl, hw'⟩
   obtain rfl := hw'.symm
   go_wp2_with fail
   obtain ⟨F, hF1, hF2⟩ := zS (((w.alloc (Obj.cells (pt c s X rr) 68)).alloc (Obj.cells #[.int .u64 0, .int .u64 0] 25)).alloc (Obj.cells #[.int .u64 0, .int .u64 0] 25))
   have fp_0 := fun u => zC (zA (hF1 u) _ _ _ Aa) 0 _ rfl
   have fp_1 := fun u => zC (zA (hF1 u) _ _ _ Aa) 1 _ rfl
   have fp_2 := fun u => zC (zA (hF1 u) _ _ _ Aa) 2 _ rfl
   have fp_3 := fun u => zC (zA (hF1 u) _ _ _ Aa) 3 _ rfl
   have fp_4 := fun u => zC (zA (hF1 u) _ _ _ Aa) 4 _ rfl
   have fp_5 := fun u => zC (zA (hF1 u) _ _ _ Aa) 5 _ rfl
   have fp_6 := fun u => zC (zA (hF1 u) _ _ _ Aa) 6 _ rfl
   have fp_7 := fun u => zC (zA (hF1 u) _ _ _ Aa) 7 _ rfl
   have fp_8 := fun u => zC (zA (hF1 u) _ _ _ Aa) 8 _ rfl
   have fp_9 := fun u => zC (zA (hF1 u) _ _ _ Aa) 9 _ rfl
   have fp_10 := fun u => zC (zA (hF1 u) _ _ _ Aa) 10 _ rfl
   have fp_11 := fun u => zC (zA (hF1 u) _ _ _ Aa) 11 _ rfl
   have fp_12 := fun u => zC (zA (hF1 u) _ _ _ Aa) 12 _ rfl
   have fp_13 := fun u => zC (zA (hF1 u) _ _ _ Aa) 13 _ rfl
   have fz_0 := fun u => zC (zA (hF1 u) _ _ _ Ac) 0 _ rfl
   have fz_1 := fun u => zC (zA (hF1 u) _ _ _ Ac) 1 _ rfl
   have fb_0 := fun u => zC (zA (hF1 u) _ _ _ Ad) 0 _ rfl
   have fb_1 := fun u => zC (zA (hF1 u) _ _ _ Ad) 1 _ rfl
   refine zJ F hF2 (by kernel_rfl) (by kernel_rfl) ?_
   repeat first | go_big_quiet_step (first | (go_at_call 82; exact zN hF1 hF2 (KN.out _)) | (go_at_call 92; exact yG (KX.out _)) | fail) | quiet_step (first | (go_at_call 82; exact zN hF1 hF2 (KN.out _)) | (go_at_call 92; exact yG (KX.out _)) | fail)
   refine wpQuiet_nil ?_
   rintro _ ⟨uW, rfl⟩
   have B1 := zL B0 (hF1 uW)
   obtain ⟨Ae, Ab, Af⟩ := zZ (hF1 uW) Aa Ac Ad
   obtain ⟨w1, hw⟩ : ∃ V, F uW = V := ⟨_, rfl⟩
   rw [hw] at B1 Ae Ab Af
   try rw [hw]
   clear hw hF1 hF2 B0 fp_0 fp_1 fp_2 fp_3 fp_4 fp_5 fp_6 fp_7 fp_8 fp_9 fp_10 fp_11 fp_12 fp_13 fz_0 fz_1 fb_0 fb_1 Aa Ac Ad
   clear F
   obtain ⟨Ag, Ah, Ai, Aj, Ak, Al, Am, An, Ao, Ap, Aq, Ar, As, At⟩ := zD Ae
   obtain ⟨Au, Av⟩ := zF Ab
   obtain ⟨Aw, Ax⟩ := zF Af
   have q0 := fz (k := 0) Ab
   have q1 := fz (k := 1) Ab
   obtain ⟨E0, E1⟩ := zM Ab (.int .u64 0) (.int .u64 0)
   go_wp2
   exact bodyPost_ret (v := .tuple #[.agg #[.int .u64 0, .int .u64 0], .int .i64 80]) (by simp [results, Tryz.results107, go_sem, E0, E1]) rfl ⟨rfl, zI B1 (by first | exact Nat.le_refl _ | omega | (skip; omega)) _ _⟩
theorem rpack_xd (f q X : Int) (c s rr : Nat) (w : World)
  (KP : zP (∀ w, Calls Tryz.prog 87 #[.int .u8 f] w fun r w' => r = .returned (.int .i64 q) ∧ w' = w))
  (hc : 10 ≤ c) : Calls Tryz.prog 107 #[.int .u8 f, .agg (pt c s X rr)] w fun r w' => r = .returned (.tuple #[.agg #[.int .u64 0, .int .u64 0], .int .i64 80]) ∧ Below w.heap.size w w' := by
 have hat := zU 6
 have hz := yB
 have hff := z8
 have hs0 := xO
 have hcs : ∀ x, ((cw 6 x).size = 6) = True := fun x => eq_true (zR 6 x)
 have hp1 := xP
 have hp3 := ptz
 have hp4 := yI
 have hp5 : ∀ (c s : Nat) (x : Int) (r : Nat), ((pt c s x r).size = 14) = True := fun _ _ _ _ => eq_true rfl
 have heq := eqp
 have hg := eqgp
 have ha0 := xH
 have ha1 := xD
 have ha2 := xC
 have ha3 := y9
 have ha4 := y8
 have ha5 := y7
 have ha6 := y6
 have ha7 := yZ
 have ha8 := xG
 have ha9 := xF
 have ha10 := yQ
 have ha11 := yP
 have ha12 := yO
 have ha13 := yN
 have hb0 := pt_q0
 have hb1 := pt_q1
 have hb2 := pt_q2
 have hb3 := pt_q3
 have hb4 := pt_q4
 have hb5 := pt_q5
 have hb6 := pt_q6
 have hb7 := pt_q7
 have hb8 := pt_q8
 have hb9 := pt_q9
 have hb10 := pt_q10
 have hb11 := pt_q11
 have hb12 := pt_q12
 have hb13 := pt_q13
 ·
  have f0 : ((c : Int) == 0) = false := by simp; omega
  have f7 : ((c : Int) == 7) = false := by simp; omega
  have f3 : ((c : Int) == 3) = false := by simp; omega
  have f4 : ((c : Int) == 4) = false := by simp; omega
  have f8 : ((c : Int) == 8) = false := by simp; omega
  have f9 : ((c : Int) == 9) = false := by simp; omega
  have f2 : ((c : Int) == 2) = false := by simp; omega
  have f5 : ((c : Int) == 5) = false := by simp; omega
  have f1 : ((c : Int) == 1) = false := by simp; omega
  have f6 : ((c : Int) == 6) = false := by simp; omega
  clear hc
  obtain ⟨Aa, Ab, Ac, B0⟩ := yX w (Obj.cells (pt c s X rr) 68) (Obj.cells #[.int .u64 0, .int .u64 0] 25) (Obj.cells #[.int .u64 0, .int .u64 0] 25)
  go_enter Tryz.func107, Tryz.ntmps107
  go_wp2_with fail
  refine (KP.out _).mono ?_
  rintro r w' ⟨rfl, hw'⟩
  obtain rfl := hw'.symm
  clear B0 Aa Ab Ac
  go_wp2
  exact bodyPost_ret (v := .tuple #[.agg #[.int .u64 0, .int .u64 0], .int .i64 80]) (by simp [results, Tryz.results107, go_sem]) rfl ⟨rfl, ((((Below.refl _ _).alloc (by first | omega | (simp only [zT]; omega)) _).alloc (by first | omega | (simp only [zT]; omega)) _).alloc (by first | omega | (simp only [zT]; omega)) _)⟩
theorem pk_fin {f : Int} (hf : yT f) {c s : Nat} {X : Int} {rr m : Nat} {e : Int} {u v N a b : Nat} (hp : pk f (c, s, X, rr) = (m, e)) (hv : xL m = (u, v)) (hc : xN f c s X rr = some N) (hN : xL N = (a, b)) {E : Bool}
  (hE : (decide (kC f N = c) && (decide (kS f N = s) && (decide (kX f N = X) && decide (kF f N = rr)))) = E) :
  (if E = true then (a : Int) else 0) = (u : Int) ∧ (if E = true then (b : Int) else 0) = (v : Int) ∧ (if E = true then (0 : Int) else 80) = e := by
 rw [cand_pk hf, hc] at hp
 simp only [] at hp
 cases E
 ·
  have k : ¬ kp f N = (c, s, X, rr) := by
   intro k
   unfold kp at k
   injection k with k1 k2
   injection k2 with k2 k3
   injection k3 with k3 k4
   rw [k1, k2, k3, k4] at hE
   simp at hE
  rw [if_neg k] at hp
  injection hp with q1 q2
  rw [← q1] at hv
  injection hv with q3 q4
  subst q2 q3 q4
  exact ⟨rfl, rfl, rfl⟩
 ·
  have k : kp f N = (c, s, X, rr) := by
   have := hE
   simp only [Bool.and_eq_true, decide_eq_true_eq] at this
   unfold kp
   rw [this.1, this.2.1, this.2.2.1, this.2.2.2]
  rw [if_pos k] at hp
  injection hp with q1 q2
  rw [← q1, hN] at hv
  injection hv with q3 q4
  subst q2 q3 q4
  exact ⟨rfl, rfl, rfl⟩
theorem pk_ref {f : Int} (hf : yT f) {c s : Nat} {X : Int} {rr m : Nat} {e : Int} {u v : Nat} (hp : pk f (c, s, X, rr) = (m, e)) (hv : xL m = (u, v)) (hc : xN f c s X rr = none) : u = 0 ∧ v = 0 ∧ e = 80 := by
 rw [cand_pk hf, hc] at hp
 simp only [] at hp
 injection hp with q1 q2
 rw [← q1] at hv
 injection hv with q3 q4
 exact ⟨q3.symm, q4.symm, q2.symm⟩
theorem rk_inf (f : Int) (neg : Bool) (hf : yT f) (u v : Nat) (hv : xL (eInf f neg) = (u, v)) (w : World) : Calls Tryz.prog 72 #[.int .u8 f, .bool neg] w fun r w' => r = .returned (.agg #[.int .u64 u, .int .u64 v]) ∧ Below w.heap.size w w' := by
 have := r_inf f neg hf _ rfl w
 rw [hv] at this
 exact this
theorem rk_zero (f : Int) (neg : Bool) (hf : yT f) (u v : Nat) (hv : xL (eZero f neg) = (u, v)) (w : World) : Calls Tryz.prog 73 #[.int .u8 f, .bool neg] w fun r w' => r = .returned (.agg #[.int .u64 u, .int .u64 v]) ∧ Below w.heap.size w w' := by
 have := r_zero f neg hf _ rfl w
 rw [hv] at this
 exact this
theorem rPack_is (f : Int) (hf : yT f) (c s rr u v m : Nat) (X e : Int) (hs : s < Q) (hr : rr < Q) (x1 : -9223372036854775808 ≤ X) (x2 : X ≤ 9223372036854775807) (hp : pk f (c, s, X, rr) = (m, e)) (hv : xL m = (u, v)) (w : World) :
  Calls Tryz.prog 107 #[.int .u8 f, .agg (pt c s X rr)] w fun r w' => r = .returned (.tuple #[.agg #[.int .u64 u, .int .u64 v], .int .i64 e]) ∧ Below w.heap.size w w' := by
 have f4 := yL hf
 obtain ⟨g1, g2, g3, g4, g5, g6, g7⟩ := fm hf
 obtain ⟨m1, m2, m3, m4, m5, m6, m7, m8, m9, m10, m11, m12, m13⟩ := em_lim hf
 obtain ⟨n1, n2⟩ := nm hf
 obtain ⟨p1, p2, p3, p4, _⟩ := pV_lim hf
 have hz := Nat.two_pow_pos (pV f)
 have KP : zP (∀ w, Calls Tryz.prog 87 #[.int .u8 f] w fun r w' => r = .returned (.int .i64 (fP f)) ∧ w' = w) := zK (fun w => x6 f _ f4.1 rfl w)
 have KE : zP (∀ w, Calls Tryz.prog 88 #[.int .u8 f] w fun r w' => r = .returned (.int .i64 (1 - fE f)) ∧ w' = w) := zK (fun w => r_emin f _ _ f4.1 rfl m5 w)
 have KX : zP (∀ w, Calls Tryz.prog 92 #[.int .u8 f] w fun r w' => r = .returned (.int .i64 (fE f)) ∧ w' = w) := zK (fun w => r_emax f _ f4.1 rfl w)
 have KO : zP (∀ w, Calls Tryz.prog 105 #[.int .u8 f] w fun r w' => r = .returned (.int .i64 ((oV f : Nat) : Int)) ∧ w' = w) := zK (fun w => r_ones f _ _ f4.1 rfl m6 w)
 have KU : ∀ N a b, Fit f N → xL N = (a, b) → zP (∀ w, Calls Tryz.prog 33 #[.int .u8 f, .agg #[.int .u64 a, .int .u64 b]] w fun r w' => r = .returned (.agg (pt (kC f N) (kS f N) (kX f N) (kF f N))) ∧ Below w.heap.size w w') := fun N a b fit hab => zK (fun w => by
  obtain ⟨a1, b1, ab⟩ := bv_lt (by unfold Fit at fit; omega) hab
  exact rUnpack_is f hf a b N a1 b1 ab fit w)
 have QL := fun N => kS_lt hf N
 have lenS : ∀ z, z < Q → zP (∀ w, Calls Tryz.prog 82 #[.agg (cw 6 z)] w fun r w' => r = .returned (.int .i64 ((zW z : Nat) : Int)) ∧ Below w.heap.size w w') := fun z hz => zK (fun w => rwlen_any z hz w)
 have bl : ∀ z, zW z ≤ pV f ↔ z < 2 ^ pV f := fun z => yY z _
 have bl1 : ∀ z, zW z ≤ pV f + 1 ↔ z < 2 * 2 ^ pV f := fun z => by rw [yY, Nat.pow_succ, Nat.mul_comm]
 have fin : ∀ N a b, xN f c s X rr = some N → xL N = (a, b) → (∀ E, (decide (kC f N = c) && (decide (kS f N = s) && (decide (kX f N = X) && decide (kF f N = rr)))) = E → Calls Tryz.prog 107 #[.int .u8 f, .agg (pt c s X rr)] w fun r w' => r = .returned (.tuple #[.agg #[.int .u64 (if E = true then (a : Int) else 0), .int .u64 (if E = true then (b : Int) else 0)], .int .i64 (if E = true then 0 else 80)]) ∧ Below w.heap.size w w') → Calls Tryz.prog 107 #[.int .u8 f, .agg (pt c s X rr)] w fun r w' => r = .returned (.tuple #[.agg #[.int .u64 u, .int .u64 v], .int .i64 e]) ∧ Below w.heap.size w w' := by
  intro N a b hc hab hE
  obtain ⟨e1, e2, e3⟩ := pk_fin hf hp hv hc hab rfl
  have k := hE _ rfl
  rw [e1, e2, e3] at k
  exact k
 have noo : xN f c s X rr = none → (Calls Tryz.prog 107 #[.int .u8 f, .agg (pt c s X rr)] w fun r w' => r = .returned (.tuple #[.agg #[.int .u64 0, .int .u64 0], .int .i64 80]) ∧ Below w.heap.size w w') → Calls Tryz.prog 107 #[.int .u8 f, .agg (pt c s X rr)] w fun r w' => r = .returned (.tuple #[.agg #[.int .u64 u, .int .u64 v], .int .i64 e]) ∧ Below w.heap.size w w' := by
  intro hc k
  obtain ⟨rfl, rfl, rfl⟩ := pk_ref hf hp hv hc
  exact k
 obtain ⟨N, hN⟩ : ∃ N, xN f c s X rr = N := ⟨_, rfl⟩
 by_cases c0 : c = 0
 ·
  have hc : xN f c s X rr = some (eInf f true) := by unfold xN; rw [if_pos c0]
  obtain ⟨a, b, hab⟩ : ∃ a b, xL (eInf f true) = (a, b) := ⟨_, _, rfl⟩
  exact fin _ a b hc hab (fun E hE => rpack_i0 f (fP f) X _ c s rr a b _ _ _ E w KP (KU _ a b (xX hf hc).1 hab) (QL _).1 (QL _).2 hs hr hE (zK (fun w => rk_inf f true hf a b hab w)) c0)
 by_cases c7 : c = 7
 ·
  have hc : xN f c s X rr = some (eInf f false) := by unfold xN; rw [if_neg c0, if_pos c7]
  obtain ⟨a, b, hab⟩ : ∃ a b, xL (eInf f false) = (a, b) := ⟨_, _, rfl⟩
  exact fin _ a b hc hab (fun E hE => rpack_i7 f (fP f) X _ c s rr a b _ _ _ E w KP (KU _ a b (xX hf hc).1 hab) (QL _).1 (QL _).2 hs hr hE (zK (fun w => rk_inf f false hf a b hab w)) c7)
 by_cases c3 : c = 3
 ·
  have hc : xN f c s X rr = some (eZero f true) := by unfold xN; rw [if_neg c0, if_neg c7, if_pos c3]
  obtain ⟨a, b, hab⟩ : ∃ a b, xL (eZero f true) = (a, b) := ⟨_, _, rfl⟩
  exact fin _ a b hc hab (fun E hE => rpack_z3 f (fP f) X _ c s rr a b _ _ _ E w KP (KU _ a b (xX hf hc).1 hab) (QL _).1 (QL _).2 hs hr hE (zK (fun w => rk_zero f true hf a b hab w)) c3)
 by_cases c4 : c = 4
 ·
  have hc : xN f c s X rr = some (eZero f false) := by unfold xN; rw [if_neg c0, if_neg c7, if_neg c3, if_pos c4]
  obtain ⟨a, b, hab⟩ : ∃ a b, xL (eZero f false) = (a, b) := ⟨_, _, rfl⟩
  exact fin _ a b hc hab (fun E hE => rpack_z4 f (fP f) X _ c s rr a b _ _ _ E w KP (KU _ a b (xX hf hc).1 hab) (QL _).1 (QL _).2 hs hr hE (zK (fun w => rk_zero f false hf a b hab w)) c4)
 by_cases c8 : c = 8 ∨ c = 9
 ·
  by_cases hl : rr < 2 ^ pV f
  ·
   have hc : xN f c s X rr = some (yK f false (oV f) rr) := by unfold xN; rw [if_neg c0, if_neg c7, if_neg c3, if_neg c4, if_pos c8, if_pos hl]
   obtain ⟨a, b, hab⟩ : ∃ a b, xL (yK f false (oV f) rr) = (a, b) := ⟨_, _, rfl⟩
   exact fin _ a b hc hab (fun E hE => rpack_nan f (fP f) X _ c s rr a b _ _ _ E (zW rr) (oV f) (pV f) w KP (KU _ a b (xX hf hc).1 hab) (QL _).1 (QL _).2 hs hr hE (lenS rr hr) p2 (decide_eq_false (by have := (bl rr).2 hl; omega)) KO (zK (fun w => rk_enc f false (oV f) rr _ a b hf hl (Nat.le_refl _) rfl hab w)) c8)
  ·
   have hc : xN f c s X rr = none := by unfold xN; rw [if_neg c0, if_neg c7, if_neg c3, if_neg c4, if_pos c8, if_neg hl]
   exact noo hc (rpack_xn f (fP f) X c s rr (zW rr) (pV f) w KP (lenS rr hr) p2 (decide_eq_true (by have := bl rr; omega)) c8)
 by_cases c2 : c = 2 ∨ c = 5
 ·
  by_cases hl : s < 2 ^ pV f
  ·
   have hc : xN f c s X rr = some (yK f (decide (c = 2)) 0 s) := by unfold xN; rw [if_neg c0, if_neg c7, if_neg c3, if_neg c4, if_neg c8, if_pos c2, if_pos hl]
   obtain ⟨a, b, hab⟩ : ∃ a b, xL (yK f (decide (c = 2)) 0 s) = (a, b) := ⟨_, _, rfl⟩
   have hl2 : decide (((pV f : Nat) : Int) < ((zW s : Nat) : Int)) = false := decide_eq_false (by have := (bl s).2 hl; omega)
   refine fin _ a b hc hab (fun E hE => ?_)
   rcases c2 with c2 | c2
   ·
    exact rpack_s2 f (fP f) X _ c s rr a b _ _ _ E (zW s) (pV f) w KP (KU _ a b (xX hf hc).1 hab) (QL _).1 (QL _).2 hs hr hE (lenS s hs) p2 hl2 (zK (fun w => rk_enc f true 0 s _ a b hf hl (Nat.zero_le _) (by rw [decide_eq_true c2]) hab w)) c2
   ·
    exact rpack_s5 f (fP f) X _ c s rr a b _ _ _ E (zW s) (pV f) w KP (KU _ a b (xX hf hc).1 hab) (QL _).1 (QL _).2 hs hr hE (lenS s hs) p2 hl2 (zK (fun w => rk_enc f false 0 s _ a b hf hl (Nat.zero_le _) (by rw [decide_eq_false (by omega)]) hab w)) c2
  ·
   have hc : xN f c s X rr = none := by unfold xN; rw [if_neg c0, if_neg c7, if_neg c3, if_neg c4, if_neg c8, if_pos c2, if_neg hl]
   exact noo hc (rpack_xs f (fP f) X c s rr (zW s) (pV f) w KP (lenS s hs) p2 (decide_eq_true (by have := bl s; omega)) c2)
 by_cases c1 : c = 1 ∨ c = 6
 ·
  have b0 := bl s
  have b1 := bl1 s
  by_cases hl : (2 ^ pV f ≤ s ∧ s < 2 * 2 ^ pV f) ∧ lx f ≤ X ∧ X ≤ fE f - (pV f : Int)
  ·
   have hc : xN f c s X rr = some (yK f (decide (c = 1)) (X - lx f + 1).toNat (s % 2 ^ pV f)) := by unfold xN; rw [if_neg c0, if_neg c7, if_neg c3, if_neg c4, if_neg c8, if_neg c2, if_pos c1, if_pos hl]
   obtain ⟨a, b, hab⟩ : ∃ a b, xL (yK f (decide (c = 1)) (X - lx f + 1).toNat (s % 2 ^ pV f)) = (a, b) := ⟨_, _, rfl⟩
   have e1 : (((zW s : Nat) : Int) != fP f) = false := by simp; omega
   have e2 : decide (X < lx f) = false := decide_eq_false (by omega)
   have e3 : decide (fE f - (pV f : Int) < X) = false := decide_eq_false (by omega)
   have h6 : IntKind.i64.wrap (X - lx f) = X - lx f := by rw [IntKind.wrap_i64]; omega
   have h7 : IntKind.i64.wrap (X - lx f + 1) = (((X - lx f + 1).toNat : Nat) : Int) := by rw [IntKind.wrap_i64]; omega
   have KM : zP (∀ w, Calls Tryz.prog 173 #[.int .i64 (pV f : Nat)] w fun r w' => r = .returned (.agg (cw 6 (2 ^ pV f - 1))) ∧ Below w.heap.size w w') := zK (fun w => rwmask_is _ _ (by rw [cnt_k8 (by omega)]) w)
   have KA : zP (∀ w, Calls Tryz.prog 172 #[.agg (cw 6 s), .agg (cw 6 (2 ^ pV f - 1))] w fun r w' => r = .returned (.agg (cw 6 (s % 2 ^ pV f))) ∧ Below w.heap.size w w') := zK (fun w => rwand_is s _ _ hs (Nat.and_two_pow_sub_one_eq_mod _ _) w)
   have hev : (X - lx f + 1).toNat ≤ oV f := by omega
   refine fin _ a b hc hab (fun E hE => ?_)
   rcases c1 with c1 | c1
   ·
    exact rpack_n1 f (fP f) X _ c s rr a b _ _ _ E (zW s) (s % 2 ^ pV f) (2 ^ pV f - 1) (X - lx f + 1).toNat (pV f) (1 - fE f) (fE f) (lx f) (fE f - (pV f : Int)) w KP (KU _ a b (xX hf hc).1 hab) (QL _).1 (QL _).2 hs hr hE (lenS s hs) p2 KE m1 m2 KX m3 m4 e1 e2 e3 KM KA h6 h7 (zK (fun w => rk_enc f true _ _ _ a b hf (Nat.mod_lt _ hz) hev (by rw [decide_eq_true c1]) hab w)) c1
   ·
    exact rpack_n6 f (fP f) X _ c s rr a b _ _ _ E (zW s) (s % 2 ^ pV f) (2 ^ pV f - 1) (X - lx f + 1).toNat (pV f) (1 - fE f) (fE f) (lx f) (fE f - (pV f : Int)) w KP (KU _ a b (xX hf hc).1 hab) (QL _).1 (QL _).2 hs hr hE (lenS s hs) p2 KE m1 m2 KX m3 m4 e1 e2 e3 KM KA h6 h7 (zK (fun w => rk_enc f false _ _ _ a b hf (Nat.mod_lt _ hz) hev (by rw [decide_eq_false (by omega)]) hab w)) c1
  ·
   have hc : xN f c s X rr = none := by unfold xN; rw [if_neg c0, if_neg c7, if_neg c3, if_neg c4, if_neg c8, if_neg c2, if_pos c1, if_neg hl]
   refine noo hc (rpack_xm f (fP f) X c s rr (zW s) (pV f) (1 - fE f) (fE f) (lx f) (fE f - (pV f : Int)) w KP (lenS s hs) p2 KE m1 m2 KX m3 m4 ?_ c1)
   by_cases q1 : ((zW s : Nat) : Int) = fP f
   ·
    have e1 : (((zW s : Nat) : Int) != fP f) = false := by simp [q1]
    by_cases q2 : X < lx f
    ·
     exact Or.inr (Or.inl ⟨e1, decide_eq_true q2⟩)
    ·
     exact Or.inr (Or.inr ⟨e1, decide_eq_false q2, decide_eq_true (by omega)⟩)
   ·
    exact Or.inl (by simp [q1])
 ·
  have hc : xN f c s X rr = none := by unfold xN; rw [if_neg c0, if_neg c7, if_neg c3, if_neg c4, if_neg c8, if_neg c2, if_neg c1]
  exact noo hc (rpack_xd f (fP f) X c s rr w KP (by omega))
end Go.Proofs.YtkblmpmkchkpjaaGreatDoor
namespace Go.Proofs.YtkblmpmkchkpjaaGreatDoor
set_option maxRecDepth 100000
set_option maxHeartbeats 40000000
open Go.RowKit WMath XMath
set_option linter.unusedSimpArgs false
set_option linter.unusedVariables false
theorem blen_low (n : Nat) (h : n ≠ 0) : 1 ≤ zW n ∧ 2 ^ (zW n - 1) ≤ n ∧ n < 2 ^ zW n := by
 have h1 := yY n (zW n - 1)
 have h2 := (yY n (zW n)).1 (Nat.le_refl _)
 have h3 := yY n 0
 have h4 : 1 ≤ zW n := by
  rcases Nat.eq_zero_or_pos (zW n) with e | e
  ·
   have := h3.1 (by omega)
   rw [Nat.pow_zero] at this
   omega
  ·
   exact e
 exact ⟨h4, by omega, h2⟩
theorem blen_one : zW 1 = 1 := by decide
theorem top_whole (b : Bool) (n : Nat) (e : Int) (h : n ≠ 0) : topX ⟨b, n, 1, e⟩ = (zW n : Int) - 1 + e := by
 obtain ⟨h1, h2, h3⟩ := blen_low n h
 unfold topX tA tB lenD
 simp only [blen_one]
 have e1 : (max (-((zW n : Int) - ((1 : Nat) : Int))) 0).toNat = 0 := by omega
 have e2 : (max ((zW n : Int) - ((1 : Nat) : Int)) 0).toNat = zW n - 1 := by omega
 rw [e1, e2, Nat.pow_zero, Nat.mul_one, Nat.one_mul, if_neg (by omega)]
 omega
theorem fl_yes (x : XN) (a : Int) (n0 : x.n ≠ 0) (hd : x.d = 1) (h : a ≤ x.e) (h1 : -2097152 ≤ a) (h2 : a ≤ 2097152) (hl : nl (x.n * 2 ^ (x.e - a).toNat) ≤ 16384) : flX x a = ((x.n * 2 ^ (x.e - a).toNat, true), 0) := by
 unfold flX
 rw [if_neg (by omega), if_neg n0, if_pos h, if_pos hl, hd, Nat.div_one, Nat.mod_one]
 rfl
theorem nm8 {f : Int} (hf : yT f) : fE f - (pV f : Int) - lx f + 1 = ((oV f - 1 : Nat) : Int) ∧ 1 ≤ oV f ∧ lx f = 1 - fE f - (pV f : Int) ∧ pV f < 128 ∧ fE f ≤ 16383 ∧ 0 ≤ fE f := by
 rcases hf with rfl | rfl | rfl | rfl <;> decide +kernel
theorem blen_is (n k : Nat) (h1 : 2 ^ k ≤ n) (h2 : n < 2 ^ (k + 1)) : zW n = k + 1 := by
 have a := (yY n (k + 1)).2 h2
 have b := yY n k
 omega
theorem blen_shift (n k : Nat) (h : n ≠ 0) : zW (n * 2 ^ k) = zW n + k := by
 obtain ⟨l1, l2, l3⟩ := blen_low n h
 have := blen_is (n * 2 ^ k) (zW n - 1 + k) (by rw [Nat.pow_add]; exact Nat.mul_le_mul_right _ l2) (by
  rw [show zW n - 1 + k + 1 = zW n + k by omega, Nat.pow_add]
  exact Nat.mul_lt_mul_of_pos_right l3 (Nat.two_pow_pos _))
 omega
theorem mk_whole (neg : Bool) (s : Nat) (x : Int) (s0 : s ≠ 0) (h1 : -1048576 ≤ x) (h2 : x + (tz s : Int) ≤ 1048576) : mk neg s 1 x = (⟨neg, od s, 1, x + (tz s : Int)⟩, 0) := by
 have o1 : od 1 = 1 := od_odd 1 rfl
 have t1 : tz 1 = 0 := tz_odd 1 rfl
 unfold mk
 rw [if_neg s0, o1, t1, Nat.gcd_one_right, Nat.div_one, Nat.div_one]
 rw [if_pos (by omega)]
 congr 2
 omega
def sV (f : Int) (e t : Nat) : Nat := if e = 0 then t else 2 ^ pV f + t
def xV (f : Int) (e : Nat) : Int := if e = 0 then lx f else lx f + (e : Int) - 1
theorem kS_lim {f : Int} (hf : yT f) (n : Nat) : kS f n < 340282366920938463463374607431768211456 ∧ -20000 ≤ kX f n ∧ kX f n ≤ 20000 := by
 obtain ⟨g1, g2, g3, g4, g5, g6, g7⟩ := fm hf
 obtain ⟨l1, l2, l3, l4, l5⟩ := lx_lim hf
 obtain ⟨n1, n2, n3, n4, n5, n6⟩ := nm8 hf
 have tl := xR (f := f) n
 have el := kE_le (f := f) n
 have oe : (oV f : Int) = 2 * fE f + 1 := by unfold oV; omega
 have pn : 2 ^ pV f + kT f n < 340282366920938463463374607431768211456 := by rw [g1, Nat.add_mul] at g7; have := Nat.mul_le_mul_right (2 ^ pV f) g5; omega
 refine ⟨?_, ?_, ?_⟩
 ·
  unfold kS; split <;> (try split) <;> omega
 ·
  unfold kX; split <;> (try split) <;> omega
 ·
  unfold kX; split <;> (try split) <;> omega
theorem k_parts {f : Int} (n : Nat) (h : kC f n = 1 ∨ kC f n = 2 ∨ kC f n = 5 ∨ kC f n = 6) : kE f n < oV f ∧ kS f n = sV f (kE f n) (kT f n) ∧ kX f n = xV f (kE f n) ∧ kS f n ≠ 0 := by
 have el := kE_le (f := f) n
 have p := Nat.two_pow_pos (pV f)
 have h2 := h
 unfold kC at h2
 by_cases c1 : kE f n = oV f
 ·
  rw [if_pos c1] at h2
  exfalso
  (repeat' split at h2) <;> omega
 ·
  rw [if_neg c1] at h2
  unfold kS kX sV xV
  by_cases c2 : kE f n = 0
  ·
   rw [if_neg (by omega)] at h2
   by_cases c3 : kT f n = 0
   ·
    rw [if_neg (by omega)] at h2
    exfalso
    split at h2 <;> omega
   ·
    rw [if_pos c3] at h2
    have hc : kC f n = 2 ∨ kC f n = 5 := by
     unfold kC
     rw [if_neg c1, if_neg (by omega), if_pos c3]
     cases kN f n <;> simp
    rw [if_pos hc, if_pos hc, if_pos c2, if_pos c2]
    exact ⟨by omega, rfl, rfl, c3⟩
  ·
   have hc : kC f n = 1 ∨ kC f n = 6 := by
    unfold kC
    rw [if_neg c1, if_pos c2]
    cases kN f n <;> simp
   have hn : ¬ (kC f n = 2 ∨ kC f n = 5) := by omega
   rw [if_neg hn, if_neg hn, if_pos hc, if_pos hc, if_neg c2, if_neg c2]
   exact ⟨by omega, rfl, rfl, by omega⟩
theorem bel_same {P : Program} {k : FuncId} {a : Array Value} {w : World} {v : Value} (h : Calls P k a w fun r w' => r = .returned v ∧ w' = w) : Calls P k a w fun r w' => r = .returned v ∧ Below w.heap.size w w' :=
 h.mono fun _ _ h => ⟨h.1, by rw [h.2]; exact Below.refl _ _⟩
theorem fC_yes {f : Int} (hf : yT f) : fC f = 0 := (yL hf).2.2.1
theorem fC_no {f : Int} (h0 : 0 ≤ f) (hf : ¬ yT f) : fC f = 2 := by
 unfold yT at hf
 unfold fC
 rw [if_neg (by omega)]
theorem nb_p {f : Int} (hf : yT f) : 2 * 2 ^ pV f ≤ 2 ^ 128 ∧ (oV f : Int) = 2 * fE f + 1 ∧ fE f ≤ 16383 ∧ 0 ≤ fE f ∧ lx f = 1 - fE f - (pV f : Int) ∧ pV f < 128 ∧ 3 ≤ oV f := by
 obtain ⟨n1, n2, n3, n4, n5, n6⟩ := nm8 hf
 obtain ⟨g1, g2, g3, g4, g5, g6, g7⟩ := fm hf
 have oe : (oV f : Int) = 2 * fE f + 1 := by unfold oV; omega
 refine ⟨?_, oe, n5, n6, n3, n4, g5⟩
 have := Nat.pow_le_pow_right (show 0 < 2 by decide) (show pV f + 1 ≤ 128 by omega)
 rw [Nat.pow_succ] at this
 omega
theorem addX_is (X Y Z : XN) (hx : X.can) (hy : Y.can) (hz : Z.can) (bx : Bd X 128 20200) (bz : Bd Y 128 20200) (hv : X.val + Y.val = Z.val) : addX X Y = (Z, 0) := by
 have h1 := add_ok X Y 128 128 20200 20200 40657 81057 hx hy bx bz rfl rfl (by decide) (by decide)
 have h2 := add_good X Y hx hy h1.1
 have h3 := can_inj _ Z h2.1 hz (by rw [h2.2, hv])
 exact Prod.ext h3 h1.1
def gO (m : Int) (neg odd half more : Bool) : Bool :=
  if m = 0 then half && (more || odd) else if m = 4 then half else if m = 2 then (half || more) && neg else if m = 3 then (half || more) && !neg else false
def rS (W k : Nat) : Nat := W / 2 ^ k / 2
def rH (W k : Nat) : Bool := decide (W / 2 ^ k % 2 = 1)
def rM (W k : Nat) (more : Bool) : Bool := decide (W % 2 ^ k ≠ 0) || more
def rO (W k : Nat) : Bool := decide (rS W k % 2 = 1)
def rG (m : Int) (neg : Bool) (W k : Nat) (more : Bool) : Nat := if gO m neg (rO W k) (rH W k) (rM W k more) = true then rS W k + 1 else rS W k
def stE (f T : Int) : Int := max T (1 - fE f)
def eS (f : Int) (neg : Bool) (j S : Nat) : Nat := j * 2 ^ pV f + S + (if neg then 2 ^ wV f else 0)
def ovB (f m : Int) (neg : Bool) : Nat := if gO m neg false true true = true then eInf f neg else eGreatest f neg
def tnB (f m : Int) (neg : Bool) (T : Int) (W : Nat) (more : Bool) : Bool := decide (T - fP f + (zW (rG m neg W 0 more) : Int) < 1 - fE f)
def dK (f T : Int) : Nat := (stE f T - T).toNat
def dJ (f T : Int) : Nat := (stE f T - (1 - fE f)).toNat
def dlv (f m : Int) (neg : Bool) (T : Int) (W : Nat) (more : Bool) : Nat × Int :=
  if fE f < stE f T - fP f + (zW (rG m neg W (dK f T) more) : Int) then (ovB f m neg, 5)
  else (eS f neg (dJ f T) (rG m neg W (dK f T) more), if (rH W (dK f T) || rM W (dK f T) more) = true then (if tnB f m neg T W more = true then 3 else 1) else 0)

theorem fp8 {f : Int} (hf : yT f) : fP f = (pV f : Int) + 1 := by rcases hf with rfl | rfl | rfl | rfl <;> decide
theorem nl_1 : nl 1 ≤ 16384 := Nat.le_trans (nl_le_of 1 1 (by decide)) (by decide)
def xW (f : Int) (x : XN) : Nat := (flX x (topX x - fP f)).1.1
def xM (f : Int) (x : XN) : Bool := !(flX x (topX x - fP f)).1.2
def qW (P n : Nat) : Nat := if P + 1 ≤ zW n then n / 2 ^ (zW n - (P + 1)) else n * 2 ^ (P + 1 - zW n)
def qM (P n : Nat) (more : Bool) : Bool := if P + 1 ≤ zW n then decide (n % 2 ^ (zW n - (P + 1)) ≠ 0) || more else more
theorem blen_more (s n q : Nat) (s0 : s ≠ 0) (hq : q < 2 ^ n) : zW (s * 2 ^ n + q) = zW s + n := by
 have h := blen_push q n s hq s0
 rw [Nat.add_comm q, Nat.mul_comm (2 ^ n) s] at h
 omega
theorem div_more (s n q : Nat) (hq : q < 2 ^ n) : (s * 2 ^ n + q) / 2 ^ n = s := by
 rw [Nat.add_comm, Nat.add_mul_div_right _ _ (Nat.two_pow_pos n), Nat.div_eq_of_lt hq, Nat.zero_add]
theorem mod_more (s n q : Nat) (hq : q < 2 ^ n) : (s * 2 ^ n + q) % 2 ^ n = q := by
 rw [Nat.add_comm, Nat.add_mul_mod_self_right, Nat.mod_eq_of_lt hq]
theorem qdec_or {a b c : Prop} [Decidable a] [Decidable b] [Decidable c] (h : a ↔ (b ∨ c)) : decide a = (decide b || decide c) := by
 rw [Bool.eq_iff_iff, Bool.or_eq_true, decide_eq_true_iff, decide_eq_true_iff, decide_eq_true_iff]
 exact h
theorem q_more (P s n q : Nat) (s0 : s ≠ 0) (hq : q < 2 ^ n) (h : q ≠ 0 → P + 1 ≤ zW s) : qW P (s * 2 ^ n + q) = qW P s ∧ qM P (s * 2 ^ n + q) false = qM P s (decide (q ≠ 0)) := by
 have hb := blen_more s n q s0 hq
 unfold qW qM
 rw [hb]
 by_cases c : P + 1 ≤ zW s
 ·
  rw [if_pos c, if_pos c, if_pos (by omega), if_pos (by omega), show zW s + n - (P + 1) = n + (zW s - (P + 1)) by omega]
  constructor
  ·
   rw [Nat.pow_add, ← Nat.div_div_eq_div_mul, div_more s n q hq]
  ·
   rw [Bool.or_false, Bool.or_comm]
   refine qdec_or ?_
   have := mod_pow_zero (s * 2 ^ n + q) n (zW s - (P + 1))
   rw [mod_more s n q hq, div_more s n q hq] at this
   rw [Ne, this]
   omega
 ·
  have q0 : q = 0 := by omega
  subst q0
  have z0 : decide ((0 : Nat) ≠ 0) = false := rfl
  rw [if_neg c, if_neg c, z0]
  simp only [Nat.add_zero]
  by_cases c2 : P + 1 ≤ zW s + n
  ·
   rw [if_pos c2, if_pos c2]
   have e : s * 2 ^ n = s * 2 ^ (P + 1 - zW s) * 2 ^ (zW s + n - (P + 1)) := by
    rw [Nat.mul_assoc, ← Nat.pow_add]
    congr 2
    omega
   rw [e]
   refine ⟨Nat.mul_div_cancel _ (Nat.two_pow_pos _), ?_⟩
   rw [Bool.or_false, decide_eq_false_iff_not]
   exact fun q => q (Nat.mul_mod_left _ _)
  ·
   rw [if_neg c2, if_neg c2, Nat.mul_assoc, ← Nat.pow_add]
   exact ⟨by congr 2; omega, rfl⟩
theorem q_longer (P s n : Nat) (s0 : s ≠ 0) : qW P (s * 2 ^ n) = qW P s ∧ qM P (s * 2 ^ n) false = qM P s false := by
 have := q_more P s n 0 s0 (Nat.two_pow_pos n) (fun h => absurd rfl h)
 have z0 : decide ((0 : Nat) ≠ 0) = false := rfl
 rw [Nat.add_zero, z0] at this
 exact this
theorem x_odd {f : Int} (hf : yT f) (b : Bool) (n : Nat) (e : Int) (ho : n % 2 = 1) (hl : zW n ≤ 45000) (h1 : -1200000 ≤ e) (h2 : e ≤ 1200000) :
  xW f ⟨b, n, 1, e⟩ = qW (pV f + 1) n ∧ xM f ⟨b, n, 1, e⟩ = qM (pV f + 1) n false := by
 have n0 : n ≠ 0 := by omega
 obtain ⟨n1, n2, n3, n4, n5, n6⟩ := nm8 hf
 have hp := fp8 hf
 have tw := top_whole b n e n0
 obtain ⟨l1, l2, l3⟩ := blen_low n n0
 unfold xW xM qW qM
 obtain ⟨a, hA⟩ : ∃ a, topX ⟨b, n, 1, e⟩ - fP f = a := ⟨_, rfl⟩
 rw [hA]
 by_cases c : a ≤ e
 ·
  have sh := blen_shift n (e - a).toNat n0
  have := fl_yes ⟨b, n, 1, e⟩ a n0 rfl c (by omega) (by omega) (by
   show nl (n * 2 ^ (e - a).toNat) ≤ 16384
   unfold nl
   omega)
  rw [this]
  simp only
  by_cases c2 : pV f + 1 + 1 ≤ zW n
  ·
   have : zW n = pV f + 1 + 1 := by omega
   have z : (e - a).toNat = 0 := by omega
   rw [if_pos c2, if_pos c2, this, Nat.sub_self, z, Nat.pow_zero, Nat.div_one, Nat.mul_one, Nat.mod_one]
   exact ⟨rfl, rfl⟩
  ·
   rw [if_neg c2, if_neg c2, show (e - a).toNat = pV f + 1 + 1 - zW n by omega]
   exact ⟨rfl, rfl⟩
 ·
  have z : flX ⟨b, n, 1, e⟩ a = ((n / (1 * 2 ^ (a - e).toNat), false), 0) := by
   unfold flX
   rw [if_neg (by omega), if_neg n0, if_neg c, if_neg (by omega)]
  rw [z, Nat.one_mul, if_pos (by omega), if_pos (by omega), show (a - e).toNat = zW n - (pV f + 1 + 1) by omega]
  refine ⟨rfl, ?_⟩
  have : n % 2 ^ (zW n - (pV f + 1 + 1)) ≠ 0 := by
   obtain ⟨i, hi⟩ : ∃ i, zW n - (pV f + 1 + 1) = i + 1 := ⟨zW n - (pV f + 1 + 1) - 1, by omega⟩
   rw [hi]
   intro q
   have := (mod_pow_zero n 1 i).1 (by rw [Nat.add_comm]; exact q)
   omega
  rw [decide_eq_true this]
  rfl
theorem x_whole {f : Int} (hf : yT f) (b : Bool) (N : Nat) (e : Int) (n0 : N ≠ 0) (hl : zW N ≤ 45000) (h1 : -1000000 ≤ e) (h2 : e ≤ 1000000) :
  mk b N 1 e = (⟨b, od N, 1, e + (tz N : Int)⟩, 0) ∧ (XN.mk b (od N) 1 (e + (tz N : Int))).can ∧ od N ≠ 0 ∧ nl (od N) ≤ 8192 ∧ topX ⟨b, od N, 1, e + (tz N : Int)⟩ = e + (zW N : Int) - 1 ∧ xW f ⟨b, od N, 1, e + (tz N : Int)⟩ = qW (pV f + 1) N ∧ xM f ⟨b, od N, 1, e + (tz N : Int)⟩ = qM (pV f + 1) N false := by
 obtain ⟨o1, o2⟩ := od_is N n0
 have od0 : od N ≠ 0 := by omega
 have tl := tz_blen N
 have bs := blen_shift (od N) (tz N) od0
 rw [← o1] at bs
 have m := mk_whole b N e n0 (by omega) (by omega)
 have lo : nl (od N) ≤ 8192 := by unfold nl; omega
 have lN : nl N ≤ 16384 := by unfold nl; omega
 obtain ⟨x1, x2⟩ := x_odd hf b (od N) (e + (tz N : Int)) o2 (by omega) (by omega) (by omega)
 have ql := q_longer (pV f + 1) (od N) (tz N) od0
 rw [← o1] at ql
 refine ⟨m, ?_, od0, lo, ?_, by rw [x1, ql.1], by rw [x2, ql.2]⟩
 ·
  have := mk_can b N 1 e lN nl_1 (by decide) (by rw [m])
  rw [m] at this
  exact this
 ·
  rw [top_whole b (od N) _ od0]
  omega
theorem r_prec_b (f : Int) (hf : yT f) (w : World) : Calls Tryz.prog 87 #[.int .u8 f] w fun r w' => r = .returned (.int .i64 (fP f)) ∧ Below w.heap.size w w' := bel_same (x6 f _ (yL hf).1 rfl w)
def rnd (f m : Int) (x : XN) : Nat × Int := if x.n = 0 then (0, 0) else dlv f m x.b (topX x) (xW f x) (xM f x)
end Go.Proofs.YtkblmpmkchkpjaaGreatDoor
namespace Go.Proofs.YtkblmpmkchkpjaaGreatDoor
set_option maxRecDepth 100000
set_option maxHeartbeats 40000000
open Go.RowKit WMath
set_option linter.unusedSimpArgs false
set_option linter.unusedVariables false
theorem cw_zip (K : Nat) : (cw 6 K).zipIdx = #[(.int .u64 (wd K 0), 0), (.int .u64 (wd K 1), 1), (.int .u64 (wd K 2), 2), (.int .u64 (wd K 3), 3), (.int .u64 (wd K 4), 4), (.int .u64 (wd K 5), 5)] := by kernel_rfl
theorem is4_le {f : Int} (hf : yT f) : f ≤ 3 := by rcases hf with rfl | rfl | rfl | rfl <;> decide
end Go.Proofs.YtkblmpmkchkpjaaGreatDoor
namespace Go.Proofs.YtkblmpmkchkpjaaGreatDoor
set_option maxRecDepth 100000
set_option maxHeartbeats 40000000
open WMath
open Go.ChangeShapes Go.WideShapes Go.ChangeAt Go.RowKit
theorem trod_row4 {H : Type} {enc : TypeId × Value → H} {P : Program} {w : World} {base : Nat} {spare : Nat → Bool} {held : Bool} {t : TypeId} {f0 f1 f2 f3 : Field} {fuel : Nat} {cs : List Value} {x : DataW H × List MemPlace} (ht : P.underlying t = some (.struct #[f0, f1, f2, f3])) (h : DataW.trod enc P w base spare held fuel t cs = some x) :
  ∃ y0 y1 y2 y3 n, x = (.agg [y0.1, y1.1, y2.1, y3.1], y0.2 ++ (y1.2 ++ (y2.2 ++ y3.2))) ∧ DataW.trod enc P w base spare held n f0.type ((cs.drop f0.offset).take (P.cellsOf f0.type)) = some y0 ∧
   DataW.trod enc P w base spare held n f1.type ((cs.drop f1.offset).take (P.cellsOf f1.type)) = some y1 ∧ DataW.trod enc P w base spare held n f2.type ((cs.drop f2.offset).take (P.cellsOf f2.type)) = some y2 ∧
   DataW.trod enc P w base spare held n f3.type ((cs.drop f3.offset).take (P.cellsOf f3.type)) = some y3 := by
 obtain ⟨xs, n, _, rfl, hl, hlen, hf⟩ := DataW.trod_struct ht h
 match xs, hlen with
 | [y0, y1, y2, y3], _ => exact ⟨y0, y1, y2, y3, n, by simp, by simpa using hf 0 f0 rfl, by simpa using hf 1 f1 rfl, by simpa using hf 2 f2 rfl, by simpa using hf 3 f3 rfl⟩


theorem list4' {α : Type} (l : List α) (h : l.length = 4) : ∃ a b c d, l = [a, b, c, d] := by
 match l, h with
 | [a, b, c, d], _ => exact ⟨a, b, c, d, rfl⟩

theorem row_read {w : World} {fuel : Nat} {enc : TypeId × Value → Unit} {base : Nat} {spare : Nat → Bool} {held : Bool} {l : List Value} {a b c : Int} {s : List UInt8} {p : List MemPlace}
  (h : DataW.trod enc Tryz.prog w base spare held fuel 200 l = some (.agg [.lit (.int .i64 a), .lit (.int .i64 b), .lit (.int .i64 c), .lit (.string s)], p)) (hl : l.length = 4) :
  l = [.int .i64 a, .int .i64 b, .int .i64 c, .string ⟨⟨s⟩⟩] := by
 have h3 : Tryz.prog.cellsOf 3 = 1 := by kernel_rfl
 have h9 : Tryz.prog.cellsOf 9 = 1 := by kernel_rfl
 obtain ⟨c0, c1, c2, c3, rfl⟩ := list4' l hl
 obtain ⟨y0, y1, y2, y3, n, hx, g0, g1, g2, g3⟩ := trod_row4 Tryz.underlying200 h
 simp only [h3, h9] at g0 g1 g2 g3
 obtain ⟨x0, e0, k0, w0⟩ := DataW.trod_int Tryz.underlying3 g0
 obtain ⟨x1, e1, k1, w1⟩ := DataW.trod_int Tryz.underlying3 g1
 obtain ⟨x2, e2, k2, w2⟩ := DataW.trod_int Tryz.underlying3 g2
 obtain ⟨x3, e3, k3, w3⟩ := DataW.trod_string Tryz.underlying9 g3
 simp at e0 e1 e2 e3
 subst e0 e1 e2 e3
 rw [k0, k1, k2, k3] at hx
 simp at hx
 obtain ⟨⟨rfl, rfl, rfl, rfl⟩, _⟩ := hx
 rfl

def laid7 : List (String × DataW Unit) := [("abacus/shape.formats", Rows.laid_abacus_shape_formats)]
theorem gTab7 : Tryz.prog.globalNamed "abacus/shape.formats" = some 0 := by kernel_rfl
theorem gType7 : (Tryz.prog.globals[0]?).map (·.type) = some 261 := by kernel_rfl

theorem of_laid7 {W : World} (h : laidMetH Tryz.prog laid7 W) : yF W := by
 have hce : Tryz.prog.cellsOf 200 = 4 := by kernel_rfl
 have hct : Tryz.prog.cellsOf 261 = 16 := by kernel_rfl
 rw [MakeChecks.laidMetH_plain _ _ _ (by kernel_rfl)] at h
 obtain ⟨ps, ⟨g', t', cs, fuel, p, q, hg', ht', hvar, hd, _, _⟩, _⟩ := h
 obtain rfl := Option.some.inj (gTab7.symm.trans hg')
 obtain rfl := Option.some.inj (gType7.symm.trans ht')
 obtain ⟨xs, m, rfl, hx, hl, hxl, hel⟩ := DataW.trod_array Tryz.underlying261 hd
 rw [hce] at hel
 rw [hct] at hl
 have hl2 : cs.size = 16 := by simpa using hl
 match xs, hxl with
 | [y0, y1, y2, y3], _ =>
  have hx1 := congrArg Prod.fst hx
  simp [Rows.laid_abacus_shape_formats] at hx1
  obtain ⟨h0, h1, h2, h3⟩ := hx1
  have q0 := hel 0 (by decide)
  have q1 := hel 1 (by decide)
  have q2 := hel 2 (by decide)
  have q3 := hel 3 (by decide)
  simp only [List.getElem?_cons_zero, List.getElem?_cons_succ] at q0 q1 q2 q3
  have z0 := row_read (p := y0.2) (by rw [q0, h0]) (by simp; omega)
  have z1 := row_read (p := y1.2) (by rw [q1, h1]) (by simp; omega)
  have z2 := row_read (p := y2.2) (by rw [q2, h2]) (by simp; omega)
  have z3 := row_read (p := y3.2) (by rw [q3, h3]) (by simp; omega)
  have hcs : ∀ i, i < 16 → cs.toList[i]? = fcells[i]? := by
   intro i hi
   have e0 : cs.toList[i]? = (cs.toList.drop (i / 4 * 4))[i % 4]? := by rw [List.getElem?_drop]; congr 1; omega
   have e1 : (cs.toList.drop (i / 4 * 4))[i % 4]? = ((cs.toList.drop (i / 4 * 4)).take 4)[i % 4]? := by rw [List.getElem?_take, if_pos (by omega)]
   rw [e0, e1]
   have : i / 4 = 0 ∨ i / 4 = 1 ∨ i / 4 = 2 ∨ i / 4 = 3 := by omega
   have hj : i % 4 = 0 ∨ i % 4 = 1 ∨ i % 4 = 2 ∨ i % 4 = 3 := by omega
   have hi2 : i = i / 4 * 4 + i % 4 := by omega
   rcases this with e | e | e | e <;> rw [e] at hi2 ⊢ <;> rcases hj with k | k | k | k <;> rw [k] at hi2 ⊢ <;> subst hi2 <;> first | (rw [z0]; rfl) | (rw [z1]; rfl) | (rw [z2]; rfl) | (rw [z3]; rfl)
  intro i hi
  rw [World.var?_cell gTab7 hvar i, ← hcs i hi]
  simp

def tabZ8 : List Int := [0, 1, 56, 2, 57, 49, 28, 3, 61, 58, 42, 50, 38, 29, 17, 4, 62, 47, 59, 36, 45, 43, 51, 22, 53, 39, 33, 30, 24, 18, 12, 5, 63, 55, 48, 27, 60, 41, 37, 16, 46, 35, 44, 21, 52, 32, 23, 11, 54, 26, 40, 15, 34, 20, 31, 10, 25, 14, 19, 9, 13, 8, 7, 6]
theorem gTab8 : Tryz.prog.globalNamed "math/bits.deBruijn64tab" = some 5 := by kernel_rfl
theorem gType8 : (Tryz.prog.globals[5]?).map (·.type) = some 325 := by kernel_rfl
theorem cells58 : Tryz.prog.cellsOf 5 = 1 := by kernel_rfl
theorem cellsT8 : Tryz.prog.cellsOf 325 = 64 := by kernel_rfl
theorem tab_at8 : ∀ i : Fin 64, tabZ8.getD i.val 0 = ((Lib.deBruijn64tab.getD i.val 0 : Nat) : Int) := by decide +kernel

end Go.Proofs.YtkblmpmkchkpjaaGreatDoor
