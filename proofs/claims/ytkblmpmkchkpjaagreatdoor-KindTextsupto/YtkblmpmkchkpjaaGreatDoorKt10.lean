/-
  What the functions that the statement reaches return: part 10 (KI, KU).
-/
import Derived.Test.YtkblmpmkchkpjaaGreatDoorKt09
namespace Go.Proofs.YtkblmpmkchkpjaaGreatDoor
set_option maxRecDepth 100000
set_option maxHeartbeats 40000000
open Go.RowKit WMath
set_option linter.unusedSimpArgs false
set_option linter.unusedVariables false
theorem rparts_nan (f q : Int) (x y c e t : Nat) (neg : Bool) (w : World)
  (KC : zP (∀ w, Calls Tryz.prog 85 #[.int .u8 f, .agg #[.int .u64 x, .int .u64 y]] w fun r w' => r = .returned (.int .u8 c) ∧ Below w.heap.size w w'))
  (KF : zP (∀ w, Calls Tryz.prog 86 #[.int .u8 f, .agg #[.int .u64 x, .int .u64 y]] w fun r w' => r = .returned (.tuple #[.bool neg, .int .i64 (e : Nat), .agg (cw 6 t)]) ∧ Below w.heap.size w w'))
  (KP : zP (∀ w, Calls Tryz.prog 87 #[.int .u8 f] w fun r w' => r = .returned (.int .i64 q) ∧ w' = w))
  (hc : c = 8 ∨ c = 9) : Calls Tryz.prog 33 #[.int .u8 f, .agg #[.int .u64 x, .int .u64 y]] w fun r w' => r = .returned (.agg (pt c 0 0 t)) ∧ Below w.heap.size w w' := by
 have hat := zU 6
 have hz := yB
 have hff := z8
 have hs0 := xO
 have hcs : ∀ x, ((cw 6 x).size = 6) = True := fun x => eq_true (zR 6 x)
 have hp1 := xP
 have hp2 := ptc
 have hp3 := ptz
 have hp4 := yI
 have hp6 := pt_set
 have hp7 := pt_setl
 have hp5 : ∀ (c s : Nat) (x : Int) (r : Nat), ((pt c s x r).size = 14) = True := fun _ _ _ _ => eq_true rfl
 have ha0 := xH
 have ha1 := xD
 have ha2 := xC
 have ha3 := y9
 have ha4 := y8
 have ha5 := y7
 have ha6 := y6
 have ha7 := yZ
 have ha8 := xG
 have ha9 := xF
 have ha10 := yQ
 have ha11 := yP
 have ha12 := yO
 have ha13 := yN
 rcases hc with hc | hc
 ·
  have f8 : ((c : Int) == 8) = true := by rw [hc]; rfl
  clear hc
  obtain ⟨Ap, Aq, B0⟩ := yS w (Obj.cells #[.int .u64 x, .int .u64 y] 25) (Obj.cells (pt 0 0 0 0) 68)
  go_enter Tryz.func33, Tryz.ntmps33
  go_wp2_with fail
  refine (KC.out _).mono ?_
  rintro r w1 ⟨rfl, b1⟩
  have B1 : Below w.heap.size w w1 := zL B0 b1
  obtain ⟨Af, Ag⟩ := zV b1 Ap Aq
  clear b1 B0 Ap Aq
  obtain ⟨Ax, Ay⟩ := zF Af
  obtain ⟨Az, AA, AB, AC, AD, AE, AF, AG, AH, AI, AJ, AK, AL, AM⟩ := zD Ag
  have S2 := zK B1.size
  have Aa := yA Af
  have Ab := yA Ag
  have Al := heap_alloc_last w1 (Obj.cells (pt c 0 0 0) 68)
  have B2 := zL B1 (zQ w1 (Obj.cells (pt c 0 0 0) 68))
  obtain ⟨Am, An⟩ := zV (zQ w1 (Obj.cells (pt c 0 0 0) 68)) Af Ag
  clear B1 Af Ax Ay Ag Az AA AB AC AD AE AF AG AH AI AJ AK AL AM
  obtain ⟨AN, AO⟩ := zF Am
  obtain ⟨AP, AQ, AR, AS, AT, AU, AV, AW, AX, AY, AZ, A0, A1, A2⟩ := zD An
  obtain ⟨A3, A4, A5, A6, A7, A8, A9, Ba, Bb, Bc, Bd, Be, Bf, Bg⟩ := zD Al
  go_wp2_with fail
  refine (KF.out _).mono ?_
  rintro r w3 ⟨rfl, b3⟩
  have B3 : Below w.heap.size w w3 := zL B2 b3
  obtain ⟨Ah, Ai, Aj⟩ := zZ b3 Am An Al
  clear b3 B2 Am AN AO An AP AQ AR AS AT AU AV AW AX AY AZ A0 A1 A2 Al A3 A4 A5 A6 A7 A8 A9 Ba Bb Bc Bd Be Bf Bg
  obtain ⟨Bh, Bi⟩ := zF Ah
  obtain ⟨Bj, Bk, Bl, Bm, Bn, Bo, Bp, Bq, Br, Bs, Bt, Bu, Bv, Bw⟩ := zD Ai
  obtain ⟨Bx, By, Bz, BA, BB, BC, BD, BE, BF, BG, BH, BI, BJ, BK⟩ := zD Aj
  have S4 := zK B3.size
  have Ac := yA Ah
  have Ad := yA Ai
  have Ae := yA Aj
  have Ar := heap_alloc_last w3 (Obj.cells (cw 6 t) 66)
  have B4 := zL B3 (zQ w3 (Obj.cells (cw 6 t) 66))
  obtain ⟨As, At, Ao⟩ := zZ (zQ w3 (Obj.cells (cw 6 t) 66)) Ah Ai Aj
  clear B3 Ah Bh Bi Ai Bj Bk Bl Bm Bn Bo Bp Bq Br Bs Bt Bu Bv Bw Aj Bx By Bz BA BB BC BD BE BF BG BH BI BJ BK
  obtain ⟨BN, BO⟩ := zF As
  obtain ⟨BP, BQ, BR, BS, BT, BU, BV, BW, BX, BY, BZ, B6, B7, B8⟩ := zD At
  obtain ⟨B9, Ca, Cb, Cc, Cd, Ce, Cf, Cg, Ch, Ci, Cj, Ck, Cl, Cm⟩ := zD Ao
  have Cn := zE Ar
  go_wp2_with fail
  refine (KP.out _).mono ?_
  rintro r w' ⟨rfl, hw'⟩
  obtain rfl := hw'.symm
  have BL := st_p8 (w3.alloc (Obj.cells (cw 6 t) 66)) (w1.heap.size) c 0 0 0 t Ao
  have B5 := zX (c := (pt c 0 0 t)) B4 (show w.heap.size ≤ w1.heap.size by first | exact Nat.le_refl _ | omega | (have := S2.out; have := Aa.out; have := Ab.out; have := S4.out; have := Ac.out; have := Ad.out; have := Ae.out; omega))
  have Au := zO (c' := (pt c 0 0 t)) Ao
  have Av : ((w3.alloc (Obj.cells (cw 6 t) 66)).setRow (w1.heap.size) (pt c 0 0 t)).heap[w.heap.size]? = some (.cells #[.int .u64 x, .int .u64 y] 25) := by rw [zH (by first | omega | (have := S2.out; have := Aa.out; have := Ab.out; have := S4.out; have := Ac.out; have := Ad.out; have := Ae.out; omega))]; exact As
  have Ak : ((w3.alloc (Obj.cells (cw 6 t) 66)).setRow (w1.heap.size) (pt c 0 0 t)).heap[w.heap.size + 1]? = some (.cells (pt 0 0 0 0) 68) := by rw [zH (by first | omega | (have := S2.out; have := Aa.out; have := Ab.out; have := S4.out; have := Ac.out; have := Ad.out; have := Ae.out; omega))]; exact At
  have Aw : ((w3.alloc (Obj.cells (cw 6 t) 66)).setRow (w1.heap.size) (pt c 0 0 t)).heap[w3.heap.size]? = some (.cells (cw 6 t) 66) := by rw [zH (by first | omega | (have := S2.out; have := Aa.out; have := Ab.out; have := S4.out; have := Ac.out; have := Ad.out; have := Ae.out; omega))]; exact Ar
  obtain ⟨w5, BM⟩ : ∃ V, (w3.alloc (Obj.cells (cw 6 t) 66)).setRow (w1.heap.size) (pt c 0 0 t) = V := ⟨_, rfl⟩
  rw [BM] at BL B5 Av Ak Au Aw
  obtain ⟨Co, Cp⟩ := zF Av
  obtain ⟨Cq, Cr, Cs, Ct, Cu, Cv, Cw, Cx, Cy, Cz, CA, CB, CC, CD⟩ := zD Ak
  obtain ⟨CE, CF, CG, CH, CI, CJ, CK, CL, CM, CN, CO, CP, CQ, CR⟩ := zD Au
  have CS := zE Aw
  have hstz := st_p w5 (w.heap.size + 1) c 0 0 t 0 0 0 0 Ak
  have RZ := zO (c' := pt c 0 0 t) Ak
  obtain ⟨dz0, dz1, dz2, dz3, dz4, dz5, dz6, dz7, dz8, dz9, dz10, dz11, dz12, dz13⟩ := zD RZ
  have bz := zX (c := pt c 0 0 t) B5 (show w.heap.size ≤ w.heap.size + 1 by first | exact Nat.le_refl _ | omega | (have := S2.out; have := Aa.out; have := Ab.out; have := S4.out; have := Ac.out; have := Ad.out; have := Ae.out; omega))
  go_wp2
  exact bodyPost_ret (v := .agg (pt c 0 0 t)) (by simp [results, Tryz.results33, go_sem, dz0, dz1, dz2, dz3, dz4, dz5, dz6, dz7, dz8, dz9, dz10, dz11, dz12, dz13, xP] <;> rfl) rfl ⟨rfl, bz⟩
 ·
  have f8 : ((c : Int) == 8) = false := by rw [hc]; rfl
  have f9 : ((c : Int) == 9) = true := by rw [hc]; rfl
  clear hc
  obtain ⟨Ap, Aq, B0⟩ := yS w (Obj.cells #[.int .u64 x, .int .u64 y] 25) (Obj.cells (pt 0 0 0 0) 68)
  go_enter Tryz.func33, Tryz.ntmps33
  go_wp2_with fail
  refine (KC.out _).mono ?_
  rintro r w1 ⟨rfl, b1⟩
  have B1 : Below w.heap.size w w1 := zL B0 b1
  obtain ⟨Af, Ag⟩ := zV b1 Ap Aq
  clear b1 B0 Ap Aq
  obtain ⟨Ax, Ay⟩ := zF Af
  obtain ⟨Az, AA, AB, AC, AD, AE, AF, AG, AH, AI, AJ, AK, AL, AM⟩ := zD Ag
  have S2 := zK B1.size
  have Aa := yA Af
  have Ab := yA Ag
  have Al := heap_alloc_last w1 (Obj.cells (pt c 0 0 0) 68)
  have B2 := zL B1 (zQ w1 (Obj.cells (pt c 0 0 0) 68))
  obtain ⟨Am, An⟩ := zV (zQ w1 (Obj.cells (pt c 0 0 0) 68)) Af Ag
  clear B1 Af Ax Ay Ag Az AA AB AC AD AE AF AG AH AI AJ AK AL AM
  obtain ⟨AN, AO⟩ := zF Am
  obtain ⟨AP, AQ, AR, AS, AT, AU, AV, AW, AX, AY, AZ, A0, A1, A2⟩ := zD An
  obtain ⟨A3, A4, A5, A6, A7, A8, A9, Ba, Bb, Bc, Bd, Be, Bf, Bg⟩ := zD Al
  go_wp2_with fail
  refine (KF.out _).mono ?_
  rintro r w3 ⟨rfl, b3⟩
  have B3 : Below w.heap.size w w3 := zL B2 b3
  obtain ⟨Ah, Ai, Aj⟩ := zZ b3 Am An Al
  clear b3 B2 Am AN AO An AP AQ AR AS AT AU AV AW AX AY AZ A0 A1 A2 Al A3 A4 A5 A6 A7 A8 A9 Ba Bb Bc Bd Be Bf Bg
  obtain ⟨Bh, Bi⟩ := zF Ah
  obtain ⟨Bj, Bk, Bl, Bm, Bn, Bo, Bp, Bq, Br, Bs, Bt, Bu, Bv, Bw⟩ := zD Ai
  obtain ⟨Bx, By, Bz, BA, BB, BC, BD, BE, BF, BG, BH, BI, BJ, BK⟩ := zD Aj
  have S4 := zK B3.size
  have Ac := yA Ah
  have Ad := yA Ai
  have Ae := yA Aj
  have Ar := heap_alloc_last w3 (Obj.cells (cw 6 t) 66)
  have B4 := zL B3 (zQ w3 (Obj.cells (cw 6 t) 66))
  obtain ⟨As, At, Ao⟩ := zZ (zQ w3 (Obj.cells (cw 6 t) 66)) Ah Ai Aj
  clear B3 Ah Bh Bi Ai Bj Bk Bl Bm Bn Bo Bp Bq Br Bs Bt Bu Bv Bw Aj Bx By Bz BA BB BC BD BE BF BG BH BI BJ BK
  obtain ⟨BN, BO⟩ := zF As
  obtain ⟨BP, BQ, BR, BS, BT, BU, BV, BW, BX, BY, BZ, B6, B7, B8⟩ := zD At
  obtain ⟨B9, Ca, Cb, Cc, Cd, Ce, Cf, Cg, Ch, Ci, Cj, Ck, Cl, Cm⟩ := zD Ao
  have Cn := zE Ar
  go_wp2_with fail
  refine (KP.out _).mono ?_
  rintro r w' ⟨rfl, hw'⟩
  obtain rfl := hw'.symm
  have BL := st_p8 (w3.alloc (Obj.cells (cw 6 t) 66)) (w1.heap.size) c 0 0 0 t Ao
  have B5 := zX (c := (pt c 0 0 t)) B4 (show w.heap.size ≤ w1.heap.size by first | exact Nat.le_refl _ | omega | (have := S2.out; have := Aa.out; have := Ab.out; have := S4.out; have := Ac.out; have := Ad.out; have := Ae.out; omega))
  have Au := zO (c' := (pt c 0 0 t)) Ao
  have Av : ((w3.alloc (Obj.cells (cw 6 t) 66)).setRow (w1.heap.size) (pt c 0 0 t)).heap[w.heap.size]? = some (.cells #[.int .u64 x, .int .u64 y] 25) := by rw [zH (by first | omega | (have := S2.out; have := Aa.out; have := Ab.out; have := S4.out; have := Ac.out; have := Ad.out; have := Ae.out; omega))]; exact As
  have Ak : ((w3.alloc (Obj.cells (cw 6 t) 66)).setRow (w1.heap.size) (pt c 0 0 t)).heap[w.heap.size + 1]? = some (.cells (pt 0 0 0 0) 68) := by rw [zH (by first | omega | (have := S2.out; have := Aa.out; have := Ab.out; have := S4.out; have := Ac.out; have := Ad.out; have := Ae.out; omega))]; exact At
  have Aw : ((w3.alloc (Obj.cells (cw 6 t) 66)).setRow (w1.heap.size) (pt c 0 0 t)).heap[w3.heap.size]? = some (.cells (cw 6 t) 66) := by rw [zH (by first | omega | (have := S2.out; have := Aa.out; have := Ab.out; have := S4.out; have := Ac.out; have := Ad.out; have := Ae.out; omega))]; exact Ar
  obtain ⟨w5, BM⟩ : ∃ V, (w3.alloc (Obj.cells (cw 6 t) 66)).setRow (w1.heap.size) (pt c 0 0 t) = V := ⟨_, rfl⟩
  rw [BM] at BL B5 Av Ak Au Aw
  obtain ⟨Co, Cp⟩ := zF Av
  obtain ⟨Cq, Cr, Cs, Ct, Cu, Cv, Cw, Cx, Cy, Cz, CA, CB, CC, CD⟩ := zD Ak
  obtain ⟨CE, CF, CG, CH, CI, CJ, CK, CL, CM, CN, CO, CP, CQ, CR⟩ := zD Au
  have CS := zE Aw
  have hstz := st_p w5 (w.heap.size + 1) c 0 0 t 0 0 0 0 Ak
  have RZ := zO (c' := pt c 0 0 t) Ak
  obtain ⟨dz0, dz1, dz2, dz3, dz4, dz5, dz6, dz7, dz8, dz9, dz10, dz11, dz12, dz13⟩ := zD RZ
  have bz := zX (c := pt c 0 0 t) B5 (show w.heap.size ≤ w.heap.size + 1 by first | exact Nat.le_refl _ | omega | (have := S2.out; have := Aa.out; have := Ab.out; have := S4.out; have := Ac.out; have := Ad.out; have := Ae.out; omega))
  go_wp2
  exact bodyPost_ret (v := .agg (pt c 0 0 t)) (by simp [results, Tryz.results33, go_sem, dz0, dz1, dz2, dz3, dz4, dz5, dz6, dz7, dz8, dz9, dz10, dz11, dz12, dz13, xP] <;> rfl) rfl ⟨rfl, bz⟩
theorem rparts_none (f q : Int) (x y c e t : Nat) (neg : Bool) (w : World)
  (KC : zP (∀ w, Calls Tryz.prog 85 #[.int .u8 f, .agg #[.int .u64 x, .int .u64 y]] w fun r w' => r = .returned (.int .u8 c) ∧ Below w.heap.size w w'))
  (KF : zP (∀ w, Calls Tryz.prog 86 #[.int .u8 f, .agg #[.int .u64 x, .int .u64 y]] w fun r w' => r = .returned (.tuple #[.bool neg, .int .i64 (e : Nat), .agg (cw 6 t)]) ∧ Below w.heap.size w w'))
  (KP : zP (∀ w, Calls Tryz.prog 87 #[.int .u8 f] w fun r w' => r = .returned (.int .i64 q) ∧ w' = w))
  (hc : c = 0 ∨ c = 3 ∨ c = 4 ∨ c = 7) : Calls Tryz.prog 33 #[.int .u8 f, .agg #[.int .u64 x, .int .u64 y]] w fun r w' => r = .returned (.agg (pt c 0 0 0)) ∧ Below w.heap.size w w' := by
 have hat := zU 6
 have hz := yB
 have hff := z8
 have hs0 := xO
 have hcs : ∀ x, ((cw 6 x).size = 6) = True := fun x => eq_true (zR 6 x)
 have hp1 := xP
 have hp2 := ptc
 have hp3 := ptz
 have hp4 := yI
 have hp6 := pt_set
 have hp7 := pt_setl
 have hp5 : ∀ (c s : Nat) (x : Int) (r : Nat), ((pt c s x r).size = 14) = True := fun _ _ _ _ => eq_true rfl
 have ha0 := xH
 have ha1 := xD
 have ha2 := xC
 have ha3 := y9
 have ha4 := y8
 have ha5 := y7
 have ha6 := y6
 have ha7 := yZ
 have ha8 := xG
 have ha9 := xF
 have ha10 := yQ
 have ha11 := yP
 have ha12 := yO
 have ha13 := yN
 rcases hc with hc | hc | hc | hc
 ·
  have f8 : ((c : Int) == 8) = false := by rw [hc]; rfl
  have f9 : ((c : Int) == 9) = false := by rw [hc]; rfl
  have f2 : ((c : Int) == 2) = false := by rw [hc]; rfl
  have f5 : ((c : Int) == 5) = false := by rw [hc]; rfl
  have f1 : ((c : Int) == 1) = false := by rw [hc]; rfl
  have f6 : ((c : Int) == 6) = false := by rw [hc]; rfl
  clear hc
  obtain ⟨Aj, Ak, B0⟩ := yS w (Obj.cells #[.int .u64 x, .int .u64 y] 25) (Obj.cells (pt 0 0 0 0) 68)
  go_enter Tryz.func33, Tryz.ntmps33
  go_wp2_with fail
  refine (KC.out _).mono ?_
  rintro r w1 ⟨rfl, b1⟩
  have B1 : Below w.heap.size w w1 := zL B0 b1
  obtain ⟨Aa, Ab⟩ := zV b1 Aj Ak
  clear b1 B0 Aj Ak
  obtain ⟨Al, Am⟩ := zF Aa
  obtain ⟨An, Ao, Ap, Aq, Ar, As, At, Au, Av, Aw, Ax, Ay, Az, AA⟩ := zD Ab
  have S2 := zK B1.size
  have AB := yA Aa
  have AC := yA Ab
  have Af := heap_alloc_last w1 (Obj.cells (pt c 0 0 0) 68)
  have B2 := zL B1 (zQ w1 (Obj.cells (pt c 0 0 0) 68))
  obtain ⟨Ag, Ah⟩ := zV (zQ w1 (Obj.cells (pt c 0 0 0) 68)) Aa Ab
  clear B1 Aa Al Am Ab An Ao Ap Aq Ar As At Au Av Aw Ax Ay Az AA
  obtain ⟨AD, AE⟩ := zF Ag
  obtain ⟨AF, AG, AH, AI, AJ, AK, AL, AM, AN, AO, AP, AQ, AR, AS⟩ := zD Ah
  obtain ⟨AT, AU, AV, AW, AX, AY, AZ, A0, A1, A2, A3, A4, A5, A6⟩ := zD Af
  go_wp2_with fail
  refine (KF.out _).mono ?_
  rintro r w3 ⟨rfl, b3⟩
  have B3 : Below w.heap.size w w3 := zL B2 b3
  obtain ⟨Ac, Ad, Ae⟩ := zZ b3 Ag Ah Af
  clear b3 B2 Ag AD AE Ah AF AG AH AI AJ AK AL AM AN AO AP AQ AR AS Af AT AU AV AW AX AY AZ A0 A1 A2 A3 A4 A5 A6
  obtain ⟨A7, A8⟩ := zF Ac
  obtain ⟨A9, Ba, Bb, Bc, Bd, Be, Bf, Bg, Bh, Bi, Bj, Bk, Bl, Bm⟩ := zD Ad
  obtain ⟨Bn, Bo, Bp, Bq, Br, Bs, Bt, Bu, Bv, Bw, Bx, By, Bz, BA⟩ := zD Ae
  have S4 := zK B3.size
  have BB := yA Ac
  have BC := yA Ad
  have BD := yA Ae
  have BE := heap_alloc_last w3 (Obj.cells (cw 6 t) 66)
  have B4 := zL B3 (zQ w3 (Obj.cells (cw 6 t) 66))
  obtain ⟨BF, Ai, BG⟩ := zZ (zQ w3 (Obj.cells (cw 6 t) 66)) Ac Ad Ae
  clear B3 Ac A7 A8 Ad A9 Ba Bb Bc Bd Be Bf Bg Bh Bi Bj Bk Bl Bm Ae Bn Bo Bp Bq Br Bs Bt Bu Bv Bw Bx By Bz BA
  obtain ⟨BH, BI⟩ := zF BF
  obtain ⟨BJ, BK, BL, BM, BN, BO, BP, BQ, BR, BS, BT, BU, BV, BW⟩ := zD Ai
  obtain ⟨BX, BY, BZ, B5, B6, B7, B8, B9, Ca, Cb, Cc, Cd, Ce, Cf⟩ := zD BG
  have Cg := zE BE
  go_wp2_with fail
  refine (KP.out _).mono ?_
  rintro r w' ⟨rfl, hw'⟩
  obtain rfl := hw'.symm
  have hstz := st_p (w3.alloc (Obj.cells (cw 6 t) 66)) (w.heap.size + 1) c 0 0 0 0 0 0 0 Ai
  have RZ := zO (c' := pt c 0 0 0) Ai
  obtain ⟨dz0, dz1, dz2, dz3, dz4, dz5, dz6, dz7, dz8, dz9, dz10, dz11, dz12, dz13⟩ := zD RZ
  have bz := zX (c := pt c 0 0 0) B4 (show w.heap.size ≤ w.heap.size + 1 by first | exact Nat.le_refl _ | omega | (have := S2.out; have := AB.out; have := AC.out; have := S4.out; have := BB.out; have := BC.out; have := BD.out; omega))
  go_wp2
  exact bodyPost_ret (v := .agg (pt c 0 0 0)) (by simp [results, Tryz.results33, go_sem, dz0, dz1, dz2, dz3, dz4, dz5, dz6, dz7, dz8, dz9, dz10, dz11, dz12, dz13, xP] <;> rfl) rfl ⟨rfl, bz⟩
 ·
  have f8 : ((c : Int) == 8) = false := by rw [hc]; rfl
  have f9 : ((c : Int) == 9) = false := by rw [hc]; rfl
  have f2 : ((c : Int) == 2) = false := by rw [hc]; rfl
  have f5 : ((c : Int) == 5) = false := by rw [hc]; rfl
  have f1 : ((c : Int) == 1) = false := by rw [hc]; rfl
  have f6 : ((c : Int) == 6) = false := by rw [hc]; rfl
  clear hc
  obtain ⟨Aj, Ak, B0⟩ := yS w (Obj.cells #[.int .u64 x, .int .u64 y] 25) (Obj.cells (pt 0 0 0 0) 68)
  go_enter Tryz.func33, Tryz.ntmps33
  go_wp2_with fail
  refine (KC.out _).mono ?_
  rintro r w1 ⟨rfl, b1⟩
  have B1 : Below w.heap.size w w1 := zL B0 b1
  obtain ⟨Aa, Ab⟩ := zV b1 Aj Ak
  clear b1 B0 Aj Ak
  obtain ⟨Al, Am⟩ := zF Aa
  obtain ⟨An, Ao, Ap, Aq, Ar, As, At, Au, Av, Aw, Ax, Ay, Az, AA⟩ := zD Ab
  have S2 := zK B1.size
  have AB := yA Aa
  have AC := yA Ab
  have Af := heap_alloc_last w1 (Obj.cells (pt c 0 0 0) 68)
  have B2 := zL B1 (zQ w1 (Obj.cells (pt c 0 0 0) 68))
  obtain ⟨Ag, Ah⟩ := zV (zQ w1 (Obj.cells (pt c 0 0 0) 68)) Aa Ab
  clear B1 Aa Al Am Ab An Ao Ap Aq Ar As At Au Av Aw Ax Ay Az AA
  obtain ⟨AD, AE⟩ := zF Ag
  obtain ⟨AF, AG, AH, AI, AJ, AK, AL, AM, AN, AO, AP, AQ, AR, AS⟩ := zD Ah
  obtain ⟨AT, AU, AV, AW, AX, AY, AZ, A0, A1, A2, A3, A4, A5, A6⟩ := zD Af
  go_wp2_with fail
  refine (KF.out _).mono ?_
  rintro r w3 ⟨rfl, b3⟩
  have B3 : Below w.heap.size w w3 := zL B2 b3
  obtain ⟨Ac, Ad, Ae⟩ := zZ b3 Ag Ah Af
  clear b3 B2 Ag AD AE Ah AF AG AH AI AJ AK AL AM AN AO AP AQ AR AS Af AT AU AV AW AX AY AZ A0 A1 A2 A3 A4 A5 A6
  obtain ⟨A7, A8⟩ := zF Ac
  obtain ⟨A9, Ba, Bb, Bc, Bd, Be, Bf, Bg, Bh, Bi, Bj, Bk, Bl, Bm⟩ := zD Ad
  obtain ⟨Bn, Bo, Bp, Bq, Br, Bs, Bt, Bu, Bv, Bw, Bx, By, Bz, BA⟩ := zD Ae
  have S4 := zK B3.size
  have BB := yA Ac
  have BC := yA Ad
  have BD := yA Ae
  have BE := heap_alloc_last w3 (Obj.cells (cw 6 t) 66)
  have B4 := zL B3 (zQ w3 (Obj.cells (cw 6 t) 66))
  obtain ⟨BF, Ai, BG⟩ := zZ (zQ w3 (Obj.cells (cw 6 t) 66)) Ac Ad Ae
  clear B3 Ac A7 A8 Ad A9 Ba Bb Bc Bd Be Bf Bg Bh Bi Bj Bk Bl Bm Ae Bn Bo Bp Bq Br Bs Bt Bu Bv Bw Bx By Bz BA
  obtain ⟨BH, BI⟩ := zF BF
  obtain ⟨BJ, BK, BL, BM, BN, BO, BP, BQ, BR, BS, BT, BU, BV, BW⟩ := zD Ai
  obtain ⟨BX, BY, BZ, B5, B6, B7, B8, B9, Ca, Cb, Cc, Cd, Ce, Cf⟩ := zD BG
  have Cg := zE BE
  go_wp2_with fail
  refine (KP.out _).mono ?_
  rintro r w' ⟨rfl, hw'⟩
  obtain rfl := hw'.symm
  have hstz := st_p (w3.alloc (Obj.cells (cw 6 t) 66)) (w.heap.size + 1) c 0 0 0 0 0 0 0 Ai
  have RZ := zO (c' := pt c 0 0 0) Ai
  obtain ⟨dz0, dz1, dz2, dz3, dz4, dz5, dz6, dz7, dz8, dz9, dz10, dz11, dz12, dz13⟩ := zD RZ
  have bz := zX (c := pt c 0 0 0) B4 (show w.heap.size ≤ w.heap.size + 1 by first | exact Nat.le_refl _ | omega | (have := S2.out; have := AB.out; have := AC.out; have := S4.out; have := BB.out; have := BC.out; have := BD.out; omega))
  go_wp2
  exact bodyPost_ret (v := .agg (pt c 0 0 0)) (by simp [results, Tryz.results33, go_sem, dz0, dz1, dz2, dz3, dz4, dz5, dz6, dz7, dz8, dz9, dz10, dz11, dz12, dz13, xP] <;> rfl) rfl ⟨rfl, bz⟩
 ·
  have f8 : ((c : Int) == 8) = false := by rw [hc]; rfl
  have f9 : ((c : Int) == 9) = false := by rw [hc]; rfl
  have f2 : ((c : Int) == 2) = false := by rw [hc]; rfl
  have f5 : ((c : Int) == 5) = false := by rw [hc]; rfl
  have f1 : ((c : Int) == 1) = false := by rw [hc]; rfl
  have f6 : ((c : Int) == 6) = false := by rw [hc]; rfl
  clear hc
  obtain ⟨Aj, Ak, B0⟩ := yS w (Obj.cells #[.int .u64 x, .int .u64 y] 25) (Obj.cells (pt 0 0 0 0) 68)
  go_enter Tryz.func33, Tryz.ntmps33
  go_wp2_with fail
  refine (KC.out _).mono ?_
  rintro r w1 ⟨rfl, b1⟩
  have B1 : Below w.heap.size w w1 := zL B0 b1
  obtain ⟨Aa, Ab⟩ := zV b1 Aj Ak
  clear b1 B0 Aj Ak
  obtain ⟨Al, Am⟩ := zF Aa
  obtain ⟨An, Ao, Ap, Aq, Ar, As, At, Au, Av, Aw, Ax, Ay, Az, AA⟩ := zD Ab
  have S2 := zK B1.size
  have AB := yA Aa
  have AC := yA Ab
  have Af := heap_alloc_last w1 (Obj.cells (pt c 0 0 0) 68)
  have B2 := zL B1 (zQ w1 (Obj.cells (pt c 0 0 0) 68))
  obtain ⟨Ag, Ah⟩ := zV (zQ w1 (Obj.cells (pt c 0 0 0) 68)) Aa Ab
  clear B1 Aa Al Am Ab An Ao Ap Aq Ar As At Au Av Aw Ax Ay Az AA
  obtain ⟨AD, AE⟩ := zF Ag
  obtain ⟨AF, AG, AH, AI, AJ, AK, AL, AM, AN, AO, AP, AQ, AR, AS⟩ := zD Ah
  obtain ⟨AT, AU, AV, AW, AX, AY, AZ, A0, A1, A2, A3, A4, A5, A6⟩ := zD Af
  go_wp2_with fail
  refine (KF.out _).mono ?_
  rintro r w3 ⟨rfl, b3⟩
  have B3 : Below w.heap.size w w3 := zL B2 b3
  obtain ⟨Ac, Ad, Ae⟩ := zZ b3 Ag Ah Af
  clear b3 B2 Ag AD AE Ah AF AG AH AI AJ AK AL AM AN AO AP AQ AR AS Af AT AU AV AW AX AY AZ A0 A1 A2 A3 A4 A5 A6
  obtain ⟨A7, A8⟩ := zF Ac
  obtain ⟨A9, Ba, Bb, Bc, Bd, Be, Bf, Bg, Bh, Bi, Bj, Bk, Bl, Bm⟩ := zD Ad
  obtain ⟨Bn, Bo, Bp, Bq, Br, Bs, Bt, Bu, Bv, Bw, Bx, By, Bz, BA⟩ := zD Ae
  have S4 := zK B3.size
  have BB := yA Ac
  have BC := yA Ad
  have BD := yA Ae
  have BE := heap_alloc_last w3 (Obj.cells (cw 6 t) 66)
  have B4 := zL B3 (zQ w3 (Obj.cells (cw 6 t) 66))
  obtain ⟨BF, Ai, BG⟩ := zZ (zQ w3 (Obj.cells (cw 6 t) 66)) Ac Ad Ae
  clear B3 Ac A7 A8 Ad A9 Ba Bb Bc Bd Be Bf Bg Bh Bi Bj Bk Bl Bm Ae Bn Bo Bp Bq Br Bs Bt Bu Bv Bw Bx By Bz BA
  obtain ⟨BH, BI⟩ := zF BF
  obtain ⟨BJ, BK, BL, BM, BN, BO, BP, BQ, BR, BS, BT, BU, BV, BW⟩ := zD Ai
  obtain ⟨BX, BY, BZ, B5, B6, B7, B8, B9, Ca, Cb, Cc, Cd, Ce, Cf⟩ := zD BG
  have Cg := zE BE
  go_wp2_with fail
  refine (KP.out _).mono ?_
  rintro r w' ⟨rfl, hw'⟩
  obtain rfl := hw'.symm
  have hstz := st_p (w3.alloc (Obj.cells (cw 6 t) 66)) (w.heap.size + 1) c 0 0 0 0 0 0 0 Ai
  have RZ := zO (c' := pt c 0 0 0) Ai
  obtain ⟨dz0, dz1, dz2, dz3, dz4, dz5, dz6, dz7, dz8, dz9, dz10, dz11, dz12, dz13⟩ := zD RZ
  have bz := zX (c := pt c 0 0 0) B4 (show w.heap.size ≤ w.heap.size + 1 by first | exact Nat.le_refl _ | omega | (have := S2.out; have := AB.out; have := AC.out; have := S4.out; have := BB.out; have := BC.out; have := BD.out; omega))
  go_wp2
  exact bodyPost_ret (v := .agg (pt c 0 0 0)) (by simp [results, Tryz.results33, go_sem, dz0, dz1, dz2, dz3, dz4, dz5, dz6, dz7, dz8, dz9, dz10, dz11, dz12, dz13, xP] <;> rfl) rfl ⟨rfl, bz⟩
 ·
  have f8 : ((c : Int) == 8) = false := by rw [hc]; rfl
  have f9 : ((c : Int) == 9) = false := by rw [hc]; rfl
  have f2 : ((c : Int) == 2) = false := by rw [hc]; rfl
  have f5 : ((c : Int) == 5) = false := by rw [hc]; rfl
  have f1 : ((c : Int) == 1) = false := by rw [hc]; rfl
  have f6 : ((c : Int) == 6) = false := by rw [hc]; rfl
  clear hc
  obtain ⟨Aj, Ak, B0⟩ := yS w (Obj.cells #[.int .u64 x, .int .u64 y] 25) (Obj.cells (pt 0 0 0 0) 68)
  go_enter Tryz.func33, Tryz.ntmps33
  go_wp2_with fail
  refine (KC.out _).mono ?_
  rintro r w1 ⟨rfl, b1⟩
  have B1 : Below w.heap.size w w1 := zL B0 b1
  obtain ⟨Aa, Ab⟩ := zV b1 Aj Ak
  clear b1 B0 Aj Ak
  obtain ⟨Al, Am⟩ := zF Aa
  obtain ⟨An, Ao, Ap, Aq, Ar, As, At, Au, Av, Aw, Ax, Ay, Az, AA⟩ := zD Ab
  have S2 := zK B1.size
  have AB := yA Aa
  have AC := yA Ab
  have Af := heap_alloc_last w1 (Obj.cells (pt c 0 0 0) 68)
  have B2 := zL B1 (zQ w1 (Obj.cells (pt c 0 0 0) 68))
  obtain ⟨Ag, Ah⟩ := zV (zQ w1 (Obj.cells (pt c 0 0 0) 68)) Aa Ab
  clear B1 Aa Al Am Ab An Ao Ap Aq Ar As At Au Av Aw Ax Ay Az AA
  obtain ⟨AD, AE⟩ := zF Ag
  obtain ⟨AF, AG, AH, AI, AJ, AK, AL, AM, AN, AO, AP, AQ, AR, AS⟩ := zD Ah
  obtain ⟨AT, AU, AV, AW, AX, AY, AZ, A0, A1, A2, A3, A4, A5, A6⟩ := zD Af
  go_wp2_with fail
  refine (KF.out _).mono ?_
  rintro r w3 ⟨rfl, b3⟩
  have B3 : Below w.heap.size w w3 := zL B2 b3
  obtain ⟨Ac, Ad, Ae⟩ := zZ b3 Ag Ah Af
  clear b3 B2 Ag AD AE Ah AF AG AH AI AJ AK AL AM AN AO AP AQ AR AS Af AT AU AV AW AX AY AZ A0 A1 A2 A3 A4 A5 A6
  obtain ⟨A7, A8⟩ := zF Ac
  obtain ⟨A9, Ba, Bb, Bc, Bd, Be, Bf, Bg, Bh, Bi, Bj, Bk, Bl, Bm⟩ := zD Ad
  obtain ⟨Bn, Bo, Bp, Bq, Br, Bs, Bt, Bu, Bv, Bw, Bx, By, Bz, BA⟩ := zD Ae
  have S4 := zK B3.size
  have BB := yA Ac
  have BC := yA Ad
  have BD := yA Ae
  have BE := heap_alloc_last w3 (Obj.cells (cw 6 t) 66)
  have B4 := zL B3 (zQ w3 (Obj.cells (cw 6 t) 66))
  obtain ⟨BF, Ai, BG⟩ := zZ (zQ w3 (Obj.cells (cw 6 t) 66)) Ac Ad Ae
  clear B3 Ac A7 A8 Ad A9 Ba Bb Bc Bd Be Bf Bg Bh Bi Bj Bk Bl Bm Ae Bn Bo Bp Bq Br Bs Bt Bu Bv Bw Bx By Bz BA
  obtain ⟨BH, BI⟩ := zF BF
  obtain ⟨BJ, BK, BL, BM, BN, BO, BP, BQ, BR, BS, BT, BU, BV, BW⟩ := zD Ai
  obtain ⟨BX, BY, BZ, B5, B6, B7, B8, B9, Ca, Cb, Cc, Cd, Ce, Cf⟩ := zD BG
  have Cg := zE BE
  go_wp2_with fail
  refine (KP.out _).mono ?_
  rintro r w' ⟨rfl, hw'⟩
  obtain rfl := hw'.symm
  have hstz := st_p (w3.alloc (Obj.cells (cw 6 t) 66)) (w.heap.size + 1) c 0 0 0 0 0 0 0 Ai
  have RZ := zO (c' := pt c 0 0 0) Ai
  obtain ⟨dz0, dz1, dz2, dz3, dz4, dz5, dz6, dz7, dz8, dz9, dz10, dz11, dz12, dz13⟩ := zD RZ
  have bz := zX (c := pt c 0 0 0) B4 (show w.heap.size ≤ w.heap.size + 1 by first | exact Nat.le_refl _ | omega | (have := S2.out; have := AB.out; have := AC.out; have := S4.out; have := BB.out; have := BC.out; have := BD.out; omega))
  go_wp2
  exact bodyPost_ret (v := .agg (pt c 0 0 0)) (by simp [results, Tryz.results33, go_sem, dz0, dz1, dz2, dz3, dz4, dz5, dz6, dz7, dz8, dz9, dz10, dz11, dz12, dz13, xP] <;> rfl) rfl ⟨rfl, bz⟩
theorem rparts_sub (f q : Int) (x y c e t : Nat) (neg : Bool) (m X : Int) (w : World)
  (KC : zP (∀ w, Calls Tryz.prog 85 #[.int .u8 f, .agg #[.int .u64 x, .int .u64 y]] w fun r w' => r = .returned (.int .u8 c) ∧ Below w.heap.size w w'))
  (KF : zP (∀ w, Calls Tryz.prog 86 #[.int .u8 f, .agg #[.int .u64 x, .int .u64 y]] w fun r w' => r = .returned (.tuple #[.bool neg, .int .i64 (e : Nat), .agg (cw 6 t)]) ∧ Below w.heap.size w w'))
  (KP : zP (∀ w, Calls Tryz.prog 87 #[.int .u8 f] w fun r w' => r = .returned (.int .i64 q) ∧ w' = w))
  (KE : zP (∀ w, Calls Tryz.prog 88 #[.int .u8 f] w fun r w' => r = .returned (.int .i64 m) ∧ Below w.heap.size w w'))
  (h1 : IntKind.i64.wrap (m - q) = m - q) (h2 : IntKind.i64.wrap (m - q + 1) = X)
  (hc : c = 2 ∨ c = 5) : Calls Tryz.prog 33 #[.int .u8 f, .agg #[.int .u64 x, .int .u64 y]] w fun r w' => r = .returned (.agg (pt c t X 0)) ∧ Below w.heap.size w w' := by
 have hat := zU 6
 have hz := yB
 have hff := z8
 have hs0 := xO
 have hcs : ∀ x, ((cw 6 x).size = 6) = True := fun x => eq_true (zR 6 x)
 have hp1 := xP
 have hp2 := ptc
 have hp3 := ptz
 have hp4 := yI
 have hp6 := pt_set
 have hp7 := pt_setl
 have hp5 : ∀ (c s : Nat) (x : Int) (r : Nat), ((pt c s x r).size = 14) = True := fun _ _ _ _ => eq_true rfl
 have ha0 := xH
 have ha1 := xD
 have ha2 := xC
 have ha3 := y9
 have ha4 := y8
 have ha5 := y7
 have ha6 := y6
 have ha7 := yZ
 have ha8 := xG
 have ha9 := xF
 have ha10 := yQ
 have ha11 := yP
 have ha12 := yO
 have ha13 := yN
 rcases hc with hc | hc
 ·
  have f8 : ((c : Int) == 8) = false := by rw [hc]; rfl
  have f9 : ((c : Int) == 9) = false := by rw [hc]; rfl
  have f2 : ((c : Int) == 2) = true := by rw [hc]; rfl
  clear hc
  obtain ⟨Au, Av, B0⟩ := yS w (Obj.cells #[.int .u64 x, .int .u64 y] 25) (Obj.cells (pt 0 0 0 0) 68)
  go_enter Tryz.func33, Tryz.ntmps33
  go_wp2_with fail
  refine (KC.out _).mono ?_
  rintro r w1 ⟨rfl, b1⟩
  have B1 : Below w.heap.size w w1 := zL B0 b1
  obtain ⟨Af, Ag⟩ := zV b1 Au Av
  clear b1 B0 Au Av
  obtain ⟨AC, AD⟩ := zF Af
  obtain ⟨AE, AF, AG, AH, AI, AJ, AK, AL, AM, AN, AO, AP, AQ, AR⟩ := zD Ag
  have S2 := zK B1.size
  have Aa := yA Af
  have Ab := yA Ag
  have Ao := heap_alloc_last w1 (Obj.cells (pt c 0 0 0) 68)
  have B2 := zL B1 (zQ w1 (Obj.cells (pt c 0 0 0) 68))
  obtain ⟨Ap, Aq⟩ := zV (zQ w1 (Obj.cells (pt c 0 0 0) 68)) Af Ag
  clear B1 Af AC AD Ag AE AF AG AH AI AJ AK AL AM AN AO AP AQ AR
  obtain ⟨AS, AT⟩ := zF Ap
  obtain ⟨AU, AV, AW, AX, AY, AZ, A0, A1, A2, A3, A4, A5, A6, A7⟩ := zD Aq
  obtain ⟨A8, A9, Ba, Bb, Bc, Bd, Be, Bf, Bg, Bh, Bi, Bj, Bk, Bl⟩ := zD Ao
  go_wp2_with fail
  refine (KF.out _).mono ?_
  rintro r w3 ⟨rfl, b3⟩
  have B3 : Below w.heap.size w w3 := zL B2 b3
  obtain ⟨Ah, Ai, Aj⟩ := zZ b3 Ap Aq Ao
  clear b3 B2 Ap AS AT Aq AU AV AW AX AY AZ A0 A1 A2 A3 A4 A5 A6 A7 Ao A8 A9 Ba Bb Bc Bd Be Bf Bg Bh Bi Bj Bk Bl
  obtain ⟨Bm, Bn⟩ := zF Ah
  obtain ⟨Bo, Bp, Bq, Br, Bs, Bt, Bu, Bv, Bw, Bx, By, Bz, BA, BB⟩ := zD Ai
  obtain ⟨BC, BD, BE, BF, BG, BH, BI, BJ, BK, BL, BM, BN, BO, BP⟩ := zD Aj
  have S4 := zK B3.size
  have Ac := yA Ah
  have Ad := yA Ai
  have Ae := yA Aj
  have Aw := heap_alloc_last w3 (Obj.cells (cw 6 t) 66)
  have B4 := zL B3 (zQ w3 (Obj.cells (cw 6 t) 66))
  obtain ⟨Ax, Ay, Ar⟩ := zZ (zQ w3 (Obj.cells (cw 6 t) 66)) Ah Ai Aj
  clear B3 Ah Bm Bn Ai Bo Bp Bq Br Bs Bt Bu Bv Bw Bx By Bz BA BB Aj BC BD BE BF BG BH BI BJ BK BL BM BN BO BP
  obtain ⟨Cy, Cz⟩ := zF Ax
  obtain ⟨CA, CB, CC, CD, CE, CF, CG, CH, CI, CJ, CK, CL, CM, CN⟩ := zD Ay
  obtain ⟨CO, CP, CQ, CR, CS, CT, CU, CV, CW, CX, CY, CZ, C0, C1⟩ := zD Ar
  have C2 := zE Aw
  go_wp2_with fail
  refine (KP.out _).mono ?_
  rintro r w' ⟨rfl, hw'⟩
  obtain rfl := hw'.symm
  have BQ := st_p1 (w3.alloc (Obj.cells (cw 6 t) 66)) (w1.heap.size) c 0 0 0 t Ar
  have B5 := zX (c := (pt c t 0 0)) B4 (show w.heap.size ≤ w1.heap.size by first | exact Nat.le_refl _ | omega | (have := S2.out; have := Aa.out; have := Ab.out; have := S4.out; have := Ac.out; have := Ad.out; have := Ae.out; omega))
  have Ak := zO (c' := (pt c t 0 0)) Ar
  have Al : ((w3.alloc (Obj.cells (cw 6 t) 66)).setRow (w1.heap.size) (pt c t 0 0)).heap[w.heap.size]? = some (.cells #[.int .u64 x, .int .u64 y] 25) := by rw [zH (by first | omega | (have := S2.out; have := Aa.out; have := Ab.out; have := S4.out; have := Ac.out; have := Ad.out; have := Ae.out; omega))]; exact Ax
  have Am : ((w3.alloc (Obj.cells (cw 6 t) 66)).setRow (w1.heap.size) (pt c t 0 0)).heap[w.heap.size + 1]? = some (.cells (pt 0 0 0 0) 68) := by rw [zH (by first | omega | (have := S2.out; have := Aa.out; have := Ab.out; have := S4.out; have := Ac.out; have := Ad.out; have := Ae.out; omega))]; exact Ay
  have An : ((w3.alloc (Obj.cells (cw 6 t) 66)).setRow (w1.heap.size) (pt c t 0 0)).heap[w3.heap.size]? = some (.cells (cw 6 t) 66) := by rw [zH (by first | omega | (have := S2.out; have := Aa.out; have := Ab.out; have := S4.out; have := Ac.out; have := Ad.out; have := Ae.out; omega))]; exact Aw
  obtain ⟨w5, BR⟩ : ∃ V, (w3.alloc (Obj.cells (cw 6 t) 66)).setRow (w1.heap.size) (pt c t 0 0) = V := ⟨_, rfl⟩
  rw [BR] at BQ B5 Al Am Ak An
  obtain ⟨BS, BT⟩ := zF Al
  obtain ⟨BU, BV, BW, BX, BY, BZ, B8, B9, Ca, Cb, Cc, Cd, Ce, Cf⟩ := zD Am
  obtain ⟨Cg, Ch, Ci, Cj, Ck, Cl, Cm, Cn, Co, Cp, Cq, Cr, Cs, Ct⟩ := zD Ak
  have Cu := zE An
  go_wp2_with fail
  refine (KE.out _).mono ?_
  rintro r w6 ⟨rfl, b6⟩
  have B6 : Below w.heap.size w w6 := zL B5 b6
  obtain ⟨Az, AA, As, AB⟩ := rws4 b6 Al Am Ak An
  clear b6 B5 Al BS BT Am BU BV BW BX BY BZ B8 B9 Ca Cb Cc Cd Ce Cf Ak Cg Ch Ci Cj Ck Cl Cm Cn Co Cp Cq Cr Cs Ct An Cu
  obtain ⟨C3, C4⟩ := zF Az
  obtain ⟨C5, C6, C7, C8, C9, Da, Db, Dc, Dd, De, Df, Dg, Dh, Di⟩ := zD AA
  obtain ⟨Dj, Dk, Dl, Dm, Dn, Do, Dp, Dq, Dr, Ds, Dt, Du, Dv, Dw⟩ := zD As
  have Dx := zE AB
  have qp_6 := fz (k := 7) As
  have B7 : Below w.heap.size w (w6.setCell ⟨w1.heap.size, 7, none⟩ (.int .i64 X)) := B6.setCell (by first | exact Nat.le_refl _ | (have := S2.out; have := Aa.out; have := Ab.out; have := S4.out; have := Ac.out; have := Ad.out; have := Ae.out; show w.heap.size ≤ w1.heap.size; omega)) _
  have Cv : (w6.setCell ⟨w1.heap.size, 7, none⟩ (.int .i64 X)).heap[w1.heap.size]? = some (.cells (pt c t X 0) 68) := by rw [yC As]; rfl
  have Cw : (w6.setCell ⟨w1.heap.size, 7, none⟩ (.int .i64 X)).heap[w.heap.size]? = some (.cells #[.int .u64 x, .int .u64 y] 25) := by rw [zB (by first | omega | (have := S2.out; have := Aa.out; have := Ab.out; have := S4.out; have := Ac.out; have := Ad.out; have := Ae.out; omega))]; exact Az
  have At : (w6.setCell ⟨w1.heap.size, 7, none⟩ (.int .i64 X)).heap[w.heap.size + 1]? = some (.cells (pt 0 0 0 0) 68) := by rw [zB (by first | omega | (have := S2.out; have := Aa.out; have := Ab.out; have := S4.out; have := Ac.out; have := Ad.out; have := Ae.out; omega))]; exact AA
  have Cx : (w6.setCell ⟨w1.heap.size, 7, none⟩ (.int .i64 X)).heap[w3.heap.size]? = some (.cells (cw 6 t) 66) := by rw [zB (by first | omega | (have := S2.out; have := Aa.out; have := Ab.out; have := S4.out; have := Ac.out; have := Ad.out; have := Ae.out; omega))]; exact AB
  obtain ⟨Dy, Dz⟩ := zF Cw
  obtain ⟨DA, DB, DC, DD, DE, DF, DG, DH, DI, DJ, DK, DL, DM, DN⟩ := zD At
  obtain ⟨DO, DP, DQ, DR, DS, DT, DU, DV, DW, DX, DY, DZ, D0, D1⟩ := zD Cv
  have D2 := zE Cx
  have hstz := st_p (w6.setCell ⟨w1.heap.size, 7, none⟩ (.int .i64 X)) (w.heap.size + 1) c t X 0 0 0 0 0 At
  have RZ := zO (c' := pt c t X 0) At
  obtain ⟨dz0, dz1, dz2, dz3, dz4, dz5, dz6, dz7, dz8, dz9, dz10, dz11, dz12, dz13⟩ := zD RZ
  have bz := zX (c := pt c t X 0) B7 (show w.heap.size ≤ w.heap.size + 1 by first | exact Nat.le_refl _ | omega | (have := S2.out; have := Aa.out; have := Ab.out; have := S4.out; have := Ac.out; have := Ad.out; have := Ae.out; omega))
  go_wp2
  exact bodyPost_ret (v := .agg (pt c t X 0)) (by simp [results, Tryz.results33, go_sem, dz0, dz1, dz2, dz3, dz4, dz5, dz6, dz7, dz8, dz9, dz10, dz11, dz12, dz13, xP] <;> rfl) rfl ⟨rfl, bz⟩
 ·
  have f8 : ((c : Int) == 8) = false := by rw [hc]; rfl
  have f9 : ((c : Int) == 9) = false := by rw [hc]; rfl
  have f2 : ((c : Int) == 2) = false := by rw [hc]; rfl
  have f5 : ((c : Int) == 5) = true := by rw [hc]; rfl
  clear hc
  obtain ⟨Au, Av, B0⟩ := yS w (Obj.cells #[.int .u64 x, .int .u64 y] 25) (Obj.cells (pt 0 0 0 0) 68)
  go_enter Tryz.func33, Tryz.ntmps33
  go_wp2_with fail
  refine (KC.out _).mono ?_
  rintro r w1 ⟨rfl, b1⟩
  have B1 : Below w.heap.size w w1 := zL B0 b1
  obtain ⟨Af, Ag⟩ := zV b1 Au Av
  clear b1 B0 Au Av
  obtain ⟨AC, AD⟩ := zF Af
  obtain ⟨AE, AF, AG, AH, AI, AJ, AK, AL, AM, AN, AO, AP, AQ, AR⟩ := zD Ag
  have S2 := zK B1.size
  have Aa := yA Af
  have Ab := yA Ag
  have Ao := heap_alloc_last w1 (Obj.cells (pt c 0 0 0) 68)
  have B2 := zL B1 (zQ w1 (Obj.cells (pt c 0 0 0) 68))
  obtain ⟨Ap, Aq⟩ := zV (zQ w1 (Obj.cells (pt c 0 0 0) 68)) Af Ag
  clear B1 Af AC AD Ag AE AF AG AH AI AJ AK AL AM AN AO AP AQ AR
  obtain ⟨AS, AT⟩ := zF Ap
  obtain ⟨AU, AV, AW, AX, AY, AZ, A0, A1, A2, A3, A4, A5, A6, A7⟩ := zD Aq
  obtain ⟨A8, A9, Ba, Bb, Bc, Bd, Be, Bf, Bg, Bh, Bi, Bj, Bk, Bl⟩ := zD Ao
  go_wp2_with fail
  refine (KF.out _).mono ?_
  rintro r w3 ⟨rfl, b3⟩
  have B3 : Below w.heap.size w w3 := zL B2 b3
  obtain ⟨Ah, Ai, Aj⟩ := zZ b3 Ap Aq Ao
  clear b3 B2 Ap AS AT Aq AU AV AW AX AY AZ A0 A1 A2 A3 A4 A5 A6 A7 Ao A8 A9 Ba Bb Bc Bd Be Bf Bg Bh Bi Bj Bk Bl
  obtain ⟨Bm, Bn⟩ := zF Ah
  obtain ⟨Bo, Bp, Bq, Br, Bs, Bt, Bu, Bv, Bw, Bx, By, Bz, BA, BB⟩ := zD Ai
  obtain ⟨BC, BD, BE, BF, BG, BH, BI, BJ, BK, BL, BM, BN, BO, BP⟩ := zD Aj
  have S4 := zK B3.size
  have Ac := yA Ah
  have Ad := yA Ai
  have Ae := yA Aj
  have Aw := heap_alloc_last w3 (Obj.cells (cw 6 t) 66)
  have B4 := zL B3 (zQ w3 (Obj.cells (cw 6 t) 66))
  obtain ⟨Ax, Ay, Ar⟩ := zZ (zQ w3 (Obj.cells (cw 6 t) 66)) Ah Ai Aj
  clear B3 Ah Bm Bn Ai Bo Bp Bq Br Bs Bt Bu Bv Bw Bx By Bz BA BB Aj BC BD BE BF BG BH BI BJ BK BL BM BN BO BP
  obtain ⟨Cy, Cz⟩ := zF Ax
  obtain ⟨CA, CB, CC, CD, CE, CF, CG, CH, CI, CJ, CK, CL, CM, CN⟩ := zD Ay
  obtain ⟨CO, CP, CQ, CR, CS, CT, CU, CV, CW, CX, CY, CZ, C0, C1⟩ := zD Ar
  have C2 := zE Aw
  go_wp2_with fail
  refine (KP.out _).mono ?_
  rintro r w' ⟨rfl, hw'⟩
  obtain rfl := hw'.symm
  have BQ := st_p1 (w3.alloc (Obj.cells (cw 6 t) 66)) (w1.heap.size) c 0 0 0 t Ar
  have B5 := zX (c := (pt c t 0 0)) B4 (show w.heap.size ≤ w1.heap.size by first | exact Nat.le_refl _ | omega | (have := S2.out; have := Aa.out; have := Ab.out; have := S4.out; have := Ac.out; have := Ad.out; have := Ae.out; omega))
  have Ak := zO (c' := (pt c t 0 0)) Ar
  have Al : ((w3.alloc (Obj.cells (cw 6 t) 66)).setRow (w1.heap.size) (pt c t 0 0)).heap[w.heap.size]? = some (.cells #[.int .u64 x, .int .u64 y] 25) := by rw [zH (by first | omega | (have := S2.out; have := Aa.out; have := Ab.out; have := S4.out; have := Ac.out; have := Ad.out; have := Ae.out; omega))]; exact Ax
  have Am : ((w3.alloc (Obj.cells (cw 6 t) 66)).setRow (w1.heap.size) (pt c t 0 0)).heap[w.heap.size + 1]? = some (.cells (pt 0 0 0 0) 68) := by rw [zH (by first | omega | (have := S2.out; have := Aa.out; have := Ab.out; have := S4.out; have := Ac.out; have := Ad.out; have := Ae.out; omega))]; exact Ay
  have An : ((w3.alloc (Obj.cells (cw 6 t) 66)).setRow (w1.heap.size) (pt c t 0 0)).heap[w3.heap.size]? = some (.cells (cw 6 t) 66) := by rw [zH (by first | omega | (have := S2.out; have := Aa.out; have := Ab.out; have := S4.out; have := Ac.out; have := Ad.out; have := Ae.out; omega))]; exact Aw
  obtain ⟨w5, BR⟩ : ∃ V, (w3.alloc (Obj.cells (cw 6 t) 66)).setRow (w1.heap.size) (pt c t 0 0) = V := ⟨_, rfl⟩
  rw [BR] at BQ B5 Al Am Ak An
  obtain ⟨BS, BT⟩ := zF Al
  obtain ⟨BU, BV, BW, BX, BY, BZ, B8, B9, Ca, Cb, Cc, Cd, Ce, Cf⟩ := zD Am
  obtain ⟨Cg, Ch, Ci, Cj, Ck, Cl, Cm, Cn, Co, Cp, Cq, Cr, Cs, Ct⟩ := zD Ak
  have Cu := zE An
  go_wp2_with fail
  refine (KE.out _).mono ?_
  rintro r w6 ⟨rfl, b6⟩
  have B6 : Below w.heap.size w w6 := zL B5 b6
  obtain ⟨Az, AA, As, AB⟩ := rws4 b6 Al Am Ak An
  clear b6 B5 Al BS BT Am BU BV BW BX BY BZ B8 B9 Ca Cb Cc Cd Ce Cf Ak Cg Ch Ci Cj Ck Cl Cm Cn Co Cp Cq Cr Cs Ct An Cu
  obtain ⟨C3, C4⟩ := zF Az
  obtain ⟨C5, C6, C7, C8, C9, Da, Db, Dc, Dd, De, Df, Dg, Dh, Di⟩ := zD AA
  obtain ⟨Dj, Dk, Dl, Dm, Dn, Do, Dp, Dq, Dr, Ds, Dt, Du, Dv, Dw⟩ := zD As
  have Dx := zE AB
  have qp_6 := fz (k := 7) As
  have B7 : Below w.heap.size w (w6.setCell ⟨w1.heap.size, 7, none⟩ (.int .i64 X)) := B6.setCell (by first | exact Nat.le_refl _ | (have := S2.out; have := Aa.out; have := Ab.out; have := S4.out; have := Ac.out; have := Ad.out; have := Ae.out; show w.heap.size ≤ w1.heap.size; omega)) _
  have Cv : (w6.setCell ⟨w1.heap.size, 7, none⟩ (.int .i64 X)).heap[w1.heap.size]? = some (.cells (pt c t X 0) 68) := by rw [yC As]; rfl
  have Cw : (w6.setCell ⟨w1.heap.size, 7, none⟩ (.int .i64 X)).heap[w.heap.size]? = some (.cells #[.int .u64 x, .int .u64 y] 25) := by rw [zB (by first | omega | (have := S2.out; have := Aa.out; have := Ab.out; have := S4.out; have := Ac.out; have := Ad.out; have := Ae.out; omega))]; exact Az
  have At : (w6.setCell ⟨w1.heap.size, 7, none⟩ (.int .i64 X)).heap[w.heap.size + 1]? = some (.cells (pt 0 0 0 0) 68) := by rw [zB (by first | omega | (have := S2.out; have := Aa.out; have := Ab.out; have := S4.out; have := Ac.out; have := Ad.out; have := Ae.out; omega))]; exact AA
  have Cx : (w6.setCell ⟨w1.heap.size, 7, none⟩ (.int .i64 X)).heap[w3.heap.size]? = some (.cells (cw 6 t) 66) := by rw [zB (by first | omega | (have := S2.out; have := Aa.out; have := Ab.out; have := S4.out; have := Ac.out; have := Ad.out; have := Ae.out; omega))]; exact AB
  obtain ⟨Dy, Dz⟩ := zF Cw
  obtain ⟨DA, DB, DC, DD, DE, DF, DG, DH, DI, DJ, DK, DL, DM, DN⟩ := zD At
  obtain ⟨DO, DP, DQ, DR, DS, DT, DU, DV, DW, DX, DY, DZ, D0, D1⟩ := zD Cv
  have D2 := zE Cx
  have hstz := st_p (w6.setCell ⟨w1.heap.size, 7, none⟩ (.int .i64 X)) (w.heap.size + 1) c t X 0 0 0 0 0 At
  have RZ := zO (c' := pt c t X 0) At
  obtain ⟨dz0, dz1, dz2, dz3, dz4, dz5, dz6, dz7, dz8, dz9, dz10, dz11, dz12, dz13⟩ := zD RZ
  have bz := zX (c := pt c t X 0) B7 (show w.heap.size ≤ w.heap.size + 1 by first | exact Nat.le_refl _ | omega | (have := S2.out; have := Aa.out; have := Ab.out; have := S4.out; have := Ac.out; have := Ad.out; have := Ae.out; omega))
  go_wp2
  exact bodyPost_ret (v := .agg (pt c t X 0)) (by simp [results, Tryz.results33, go_sem, dz0, dz1, dz2, dz3, dz4, dz5, dz6, dz7, dz8, dz9, dz10, dz11, dz12, dz13, xP] <;> rfl) rfl ⟨rfl, bz⟩
theorem rparts_norm (f q : Int) (x y c e t : Nat) (neg : Bool) (m X : Int) (k P S : Nat) (w : World)
  (KC : zP (∀ w, Calls Tryz.prog 85 #[.int .u8 f, .agg #[.int .u64 x, .int .u64 y]] w fun r w' => r = .returned (.int .u8 c) ∧ Below w.heap.size w w'))
  (KF : zP (∀ w, Calls Tryz.prog 86 #[.int .u8 f, .agg #[.int .u64 x, .int .u64 y]] w fun r w' => r = .returned (.tuple #[.bool neg, .int .i64 (e : Nat), .agg (cw 6 t)]) ∧ Below w.heap.size w w'))
  (KP : zP (∀ w, Calls Tryz.prog 87 #[.int .u8 f] w fun r w' => r = .returned (.int .i64 q) ∧ w' = w))
  (K1 : zP (∀ w, Calls Tryz.prog 90 #[.int .u64 1] w fun r w' => r = .returned (.agg (cw 6 1)) ∧ Below w.heap.size w w'))
  (KW : zP (∀ w, Calls Tryz.prog 89 #[.agg (cw 6 1), .int .i64 (k : Nat)] w fun r w' => r = .returned (.tuple #[.agg (cw 6 P), .bool false]) ∧ Below w.heap.size w w'))
  (KR : zP (∀ w, Calls Tryz.prog 91 #[.agg (cw 6 P), .agg (cw 6 t)] w fun r w' => r = .returned (.tuple #[.agg (cw 6 S), .bool false]) ∧ Below w.heap.size w w'))
  (KE : zP (∀ w, Calls Tryz.prog 92 #[.int .u8 f] w fun r w' => r = .returned (.int .i64 m) ∧ Below w.heap.size w w'))
  (h0 : IntKind.i64.wrap (q - 1) = (k : Int)) (h1 : IntKind.i64.wrap ((e : Int) - m) = (e : Int) - m) (h2 : IntKind.i64.wrap ((e : Int) - m - q) = (e : Int) - m - q) (h3 : IntKind.i64.wrap ((e : Int) - m - q + 1) = X)
  (hc : c = 1 ∨ c = 6) : Calls Tryz.prog 33 #[.int .u8 f, .agg #[.int .u64 x, .int .u64 y]] w fun r w' => r = .returned (.agg (pt c S X 0)) ∧ Below w.heap.size w w' := by
 have hat := zU 6
 have hz := yB
 have hff := z8
 have hs0 := xO
 have hcs : ∀ x, ((cw 6 x).size = 6) = True := fun x => eq_true (zR 6 x)
 have hp1 := xP
 have hp2 := ptc
 have hp3 := ptz
 have hp4 := yI
 have hp6 := pt_set
 have hp7 := pt_setl
 have hp5 : ∀ (c s : Nat) (x : Int) (r : Nat), ((pt c s x r).size = 14) = True := fun _ _ _ _ => eq_true rfl
 have ha0 := xH
 have ha1 := xD
 have ha2 := xC
 have ha3 := y9
 have ha4 := y8
 have ha5 := y7
 have ha6 := y6
 have ha7 := yZ
 have ha8 := xG
 have ha9 := xF
 have ha10 := yQ
 have ha11 := yP
 have ha12 := yO
 have ha13 := yN
 rcases hc with hc | hc
 ·
  have f8 : ((c : Int) == 8) = false := by rw [hc]; rfl
  have f9 : ((c : Int) == 9) = false := by rw [hc]; rfl
  have f2 : ((c : Int) == 2) = false := by rw [hc]; rfl
  have f5 : ((c : Int) == 5) = false := by rw [hc]; rfl
  have f1 : ((c : Int) == 1) = true := by rw [hc]; rfl
  clear hc
  obtain ⟨AQ, AR, B0⟩ := yS w (Obj.cells #[.int .u64 x, .int .u64 y] 25) (Obj.cells (pt 0 0 0 0) 68)
  go_enter Tryz.func33, Tryz.ntmps33
  go_wp2_with fail
  refine (KC.out _).mono ?_
  rintro r w1 ⟨rfl, b1⟩
  have B1 : Below w.heap.size w w1 := zL B0 b1
  obtain ⟨Aj, Ak⟩ := zV b1 AQ AR
  clear b1 B0 AQ AR
  obtain ⟨A0, A1⟩ := zF Aj
  obtain ⟨A2, A3, A4, A5, A6, A7, A8, A9, Ba, Bb, Bc, Bd, Be, Bf⟩ := zD Ak
  have S2 := zK B1.size
  have Aa := yA Aj
  have Ab := yA Ak
  have Ax := heap_alloc_last w1 (Obj.cells (pt c 0 0 0) 68)
  have B2 := zL B1 (zQ w1 (Obj.cells (pt c 0 0 0) 68))
  obtain ⟨Ay, Az⟩ := zV (zQ w1 (Obj.cells (pt c 0 0 0) 68)) Aj Ak
  clear B1 Aj A0 A1 Ak A2 A3 A4 A5 A6 A7 A8 A9 Ba Bb Bc Bd Be Bf
  obtain ⟨Bg, Bh⟩ := zF Ay
  obtain ⟨Bi, Bj, Bk, Bl, Bm, Bn, Bo, Bp, Bq, Br, Bs, Bt, Bu, Bv⟩ := zD Az
  obtain ⟨Bw, Bx, By, Bz, BA, BB, BC, BD, BE, BF, BG, BH, BI, BJ⟩ := zD Ax
  go_wp2_with fail
  refine (KF.out _).mono ?_
  rintro r w3 ⟨rfl, b3⟩
  have B3 : Below w.heap.size w w3 := zL B2 b3
  obtain ⟨Al, Am, An⟩ := zZ b3 Ay Az Ax
  clear b3 B2 Ay Bg Bh Az Bi Bj Bk Bl Bm Bn Bo Bp Bq Br Bs Bt Bu Bv Ax Bw Bx By Bz BA BB BC BD BE BF BG BH BI BJ
  obtain ⟨BK, BL⟩ := zF Al
  obtain ⟨BM, BN, BO, BP, BQ, BR, BS, BT, BU, BV, BW, BX, BY, BZ⟩ := zD Am
  obtain ⟨Ca, Cb, Cc, Cd, Ce, Cf, Cg, Ch, Ci, Cj, Ck, Cl, Cm, Cn⟩ := zD An
  have S4 := zK B3.size
  have Ac := yA Al
  have Ad := yA Am
  have Ae := yA An
  have AA := heap_alloc_last w3 (Obj.cells (cw 6 t) 66)
  have B4 := zL B3 (zQ w3 (Obj.cells (cw 6 t) 66))
  obtain ⟨AB, AC, AD⟩ := zZ (zQ w3 (Obj.cells (cw 6 t) 66)) Al Am An
  clear B3 Al BK BL Am BM BN BO BP BQ BR BS BT BU BV BW BX BY BZ An Ca Cb Cc Cd Ce Cf Cg Ch Ci Cj Ck Cl Cm Cn
  obtain ⟨Co, Cp⟩ := zF AB
  obtain ⟨Cq, Cr, Cs, Ct, Cu, Cv, Cw, Cx, Cy, Cz, CA, CB, CC, CD⟩ := zD AC
  obtain ⟨CE, CF, CG, CH, CI, CJ, CK, CL, CM, CN, CO, CP, CQ, CR⟩ := zD AD
  have CS := zE AA
  go_wp2_with fail
  refine (KP.out _).mono ?_
  rintro r w' ⟨rfl, hw'⟩
  obtain rfl := hw'.symm
  go_wp2_with fail
  refine (K1.out _).mono ?_
  rintro r w5 ⟨rfl, b5⟩
  have B5 : Below w.heap.size w w5 := zL B4 b5
  obtain ⟨AE, AF, AG, AH⟩ := rws4 b5 AB AC AD AA
  clear b5 B4 AB Co Cp AC Cq Cr Cs Ct Cu Cv Cw Cx Cy Cz CA CB CC CD AD CE CF CG CH CI CJ CK CL CM CN CO CP CQ CR AA CS
  obtain ⟨CT, CU⟩ := zF AE
  obtain ⟨CV, CW, CX, CY, CZ, C0, C1, C2, C3, C4, C5, C6, C7, C8⟩ := zD AF
  obtain ⟨C9, Da, Db, Dc, Dd, De, Df, Dg, Dh, Di, Dj, Dk, Dl, Dm⟩ := zD AG
  have Dn := zE AH
  go_wp2_with fail
  refine (KW.out _).mono ?_
  rintro r w6 ⟨rfl, b6⟩
  have B6 : Below w.heap.size w w6 := zL B5 b6
  obtain ⟨Ao, Ap, Aq, Ar⟩ := rws4 b6 AE AF AG AH
  clear b6 B5 AE CT CU AF CV CW CX CY CZ C0 C1 C2 C3 C4 C5 C6 C7 C8 AG C9 Da Db Dc Dd De Df Dg Dh Di Dj Dk Dl Dm AH Dn
  obtain ⟨Do, Dp⟩ := zF Ao
  obtain ⟨Dq, Dr, Ds, Dt, Du, Dv, Dw, Dx, Dy, Dz, DA, DB, DC, DD⟩ := zD Ap
  obtain ⟨DE, DF, DG, DH, DI, DJ, DK, DL, DM, DN, DO, DP, DQ, DR⟩ := zD Aq
  have DS := zE Ar
  have S7 := zK B6.size
  have Af := yA Ao
  have Ag := yA Ap
  have Ah := yA Aq
  have Ai := yA Ar
  have AI := heap_alloc_last w6 (Obj.cells (cw 6 P) 66)
  have B7 := zL B6 (zQ w6 (Obj.cells (cw 6 P) 66))
  obtain ⟨AJ, AK, AL, AM⟩ := rws4 (zQ w6 (Obj.cells (cw 6 P) 66)) Ao Ap Aq Ar
  clear B6 Ao Do Dp Ap Dq Dr Ds Dt Du Dv Dw Dx Dy Dz DA DB DC DD Aq DE DF DG DH DI DJ DK DL DM DN DO DP DQ DR Ar DS
  obtain ⟨DT, DU⟩ := zF AJ
  obtain ⟨DV, DW, DX, DY, DZ, D0, D1, D2, D3, D4, D5, D6, D7, D8⟩ := zD AK
  obtain ⟨D9, Ea, Eb, Ec, Ed, Ee, Ef, Eg, Eh, Ei, Ej, Ek, El, Em⟩ := zD AL
  have En := zE AM
  have Eo := zE AI
  go_wp2_with fail
  refine (KR.out _).mono ?_
  rintro r w8 ⟨rfl, b8⟩
  have B8 : Below w.heap.size w w8 := zL B7 b8
  obtain ⟨AS, AT, AN, AU, AV⟩ := rws5 b8 AJ AK AL AM AI
  clear b8 B7 AJ DT DU AK DV DW DX DY DZ D0 D1 D2 D3 D4 D5 D6 D7 D8 AL D9 Ea Eb Ec Ed Ee Ef Eg Eh Ei Ej Ek El Em AM En AI Eo
  obtain ⟨E1, E2⟩ := zF AS
  obtain ⟨E3, E4, E5, E6, E7, E8, E9, Fa, Fb, Fc, Fd, Fe, Ff, Fg⟩ := zD AT
  obtain ⟨Fh, Fi, Fj, Fk, Fl, Fm, Fn, Fo, Fp, Fq, Fr, Fs, Ft, Fu⟩ := zD AN
  have Fv := zE AU
  have Fw := zE AV
  have Ep := st_p1 w8 (w1.heap.size) c 0 0 0 S AN
  have B9 := zX (c := (pt c S 0 0)) B8 (show w.heap.size ≤ w1.heap.size by first | exact Nat.le_refl _ | omega | (have := S2.out; have := Aa.out; have := Ab.out; have := S4.out; have := Ac.out; have := Ad.out; have := Ae.out; have := S7.out; have := Af.out; have := Ag.out; have := Ah.out; have := Ai.out; omega))
  have As := zO (c' := (pt c S 0 0)) AN
  have At : (w8.setRow (w1.heap.size) (pt c S 0 0)).heap[w.heap.size]? = some (.cells #[.int .u64 x, .int .u64 y] 25) := by rw [zH (by first | omega | (have := S2.out; have := Aa.out; have := Ab.out; have := S4.out; have := Ac.out; have := Ad.out; have := Ae.out; have := S7.out; have := Af.out; have := Ag.out; have := Ah.out; have := Ai.out; omega))]; exact AS
  have Au : (w8.setRow (w1.heap.size) (pt c S 0 0)).heap[w.heap.size + 1]? = some (.cells (pt 0 0 0 0) 68) := by rw [zH (by first | omega | (have := S2.out; have := Aa.out; have := Ab.out; have := S4.out; have := Ac.out; have := Ad.out; have := Ae.out; have := S7.out; have := Af.out; have := Ag.out; have := Ah.out; have := Ai.out; omega))]; exact AT
  have Av : (w8.setRow (w1.heap.size) (pt c S 0 0)).heap[w3.heap.size]? = some (.cells (cw 6 t) 66) := by rw [zH (by first | omega | (have := S2.out; have := Aa.out; have := Ab.out; have := S4.out; have := Ac.out; have := Ad.out; have := Ae.out; have := S7.out; have := Af.out; have := Ag.out; have := Ah.out; have := Ai.out; omega))]; exact AU
  have Aw : (w8.setRow (w1.heap.size) (pt c S 0 0)).heap[w6.heap.size]? = some (.cells (cw 6 P) 66) := by rw [zH (by first | omega | (have := S2.out; have := Aa.out; have := Ab.out; have := S4.out; have := Ac.out; have := Ad.out; have := Ae.out; have := S7.out; have := Af.out; have := Ag.out; have := Ah.out; have := Ai.out; omega))]; exact AV
  obtain ⟨w9, Eq⟩ : ∃ V, w8.setRow (w1.heap.size) (pt c S 0 0) = V := ⟨_, rfl⟩
  rw [Eq] at Ep B9 At Au As Av Aw
  obtain ⟨Er, Es⟩ := zF At
  obtain ⟨Et, Eu, Ev, Ew, Ex, Ey, Ez, EA, EB, EC, ED, EE, EF, EG⟩ := zD Au
  obtain ⟨EH, EI, EJ, EK, EL, EM, EN, EO, EP, EQ, ER, ES, ET, EU⟩ := zD As
  have EV := zE Av
  have EW := zE Aw
  go_wp2_with fail
  refine (KE.out _).mono ?_
  rintro r w10 ⟨rfl, b10⟩
  have B10 : Below w.heap.size w w10 := zL B9 b10
  obtain ⟨AW, AX, AO, AY, AZ⟩ := rws5 b10 At Au As Av Aw
  clear b10 B9 At Er Es Au Et Eu Ev Ew Ex Ey Ez EA EB EC ED EE EF EG As EH EI EJ EK EL EM EN EO EP EQ ER ES ET EU Av EV Aw EW
  obtain ⟨Fx, Fy⟩ := zF AW
  obtain ⟨Fz, FA, FB, FC, FD, FE, FF, FG, FH, FI, FJ, FK, FL, FM⟩ := zD AX
  obtain ⟨FN, FO, FP, FQ, FR, FS, FT, FU, FV, FW, FX, FY, FZ, F0⟩ := zD AO
  have F1 := zE AY
  have F2 := zE AZ
  have qp_10 := fz (k := 7) AO
  have B11 : Below w.heap.size w (w10.setCell ⟨w1.heap.size, 7, none⟩ (.int .i64 X)) := B10.setCell (by first | exact Nat.le_refl _ | (have := S2.out; have := Aa.out; have := Ab.out; have := S4.out; have := Ac.out; have := Ad.out; have := Ae.out; have := S7.out; have := Af.out; have := Ag.out; have := Ah.out; have := Ai.out; show w.heap.size ≤ w1.heap.size; omega)) _
  have EX : (w10.setCell ⟨w1.heap.size, 7, none⟩ (.int .i64 X)).heap[w1.heap.size]? = some (.cells (pt c S X 0) 68) := by rw [yC AO]; rfl
  have EY : (w10.setCell ⟨w1.heap.size, 7, none⟩ (.int .i64 X)).heap[w.heap.size]? = some (.cells #[.int .u64 x, .int .u64 y] 25) := by rw [zB (by first | omega | (have := S2.out; have := Aa.out; have := Ab.out; have := S4.out; have := Ac.out; have := Ad.out; have := Ae.out; have := S7.out; have := Af.out; have := Ag.out; have := Ah.out; have := Ai.out; omega))]; exact AW
  have AP : (w10.setCell ⟨w1.heap.size, 7, none⟩ (.int .i64 X)).heap[w.heap.size + 1]? = some (.cells (pt 0 0 0 0) 68) := by rw [zB (by first | omega | (have := S2.out; have := Aa.out; have := Ab.out; have := S4.out; have := Ac.out; have := Ad.out; have := Ae.out; have := S7.out; have := Af.out; have := Ag.out; have := Ah.out; have := Ai.out; omega))]; exact AX
  have EZ : (w10.setCell ⟨w1.heap.size, 7, none⟩ (.int .i64 X)).heap[w3.heap.size]? = some (.cells (cw 6 t) 66) := by rw [zB (by first | omega | (have := S2.out; have := Aa.out; have := Ab.out; have := S4.out; have := Ac.out; have := Ad.out; have := Ae.out; have := S7.out; have := Af.out; have := Ag.out; have := Ah.out; have := Ai.out; omega))]; exact AY
  have E0 : (w10.setCell ⟨w1.heap.size, 7, none⟩ (.int .i64 X)).heap[w6.heap.size]? = some (.cells (cw 6 P) 66) := by rw [zB (by first | omega | (have := S2.out; have := Aa.out; have := Ab.out; have := S4.out; have := Ac.out; have := Ad.out; have := Ae.out; have := S7.out; have := Af.out; have := Ag.out; have := Ah.out; have := Ai.out; omega))]; exact AZ
  obtain ⟨F3, F4⟩ := zF EY
  obtain ⟨F5, F6, F7, F8, F9, Ga, Gb, Gc, Gd, Ge, Gf, Gg, Gh, Gi⟩ := zD AP
  obtain ⟨Gj, Gk, Gl, Gm, Gn, Gp, Gq, Gr, Gs, Gt, Gu, Gv, Gw, Gx⟩ := zD EX
  have Gy := zE EZ
  have Gz := zE E0
  have hstz := st_p (w10.setCell ⟨w1.heap.size, 7, none⟩ (.int .i64 X)) (w.heap.size + 1) c S X 0 0 0 0 0 AP
  have RZ := zO (c' := pt c S X 0) AP
  obtain ⟨dz0, dz1, dz2, dz3, dz4, dz5, dz6, dz7, dz8, dz9, dz10, dz11, dz12, dz13⟩ := zD RZ
  have bz := zX (c := pt c S X 0) B11 (show w.heap.size ≤ w.heap.size + 1 by first | exact Nat.le_refl _ | omega | (have := S2.out; have := Aa.out; have := Ab.out; have := S4.out; have := Ac.out; have := Ad.out; have := Ae.out; have := S7.out; have := Af.out; have := Ag.out; have := Ah.out; have := Ai.out; omega))
  go_wp2
  exact bodyPost_ret (v := .agg (pt c S X 0)) (by simp [results, Tryz.results33, go_sem, dz0, dz1, dz2, dz3, dz4, dz5, dz6, dz7, dz8, dz9, dz10, dz11, dz12, dz13, xP] <;> rfl) rfl ⟨rfl, bz⟩
 ·
  have f8 : ((c : Int) == 8) = false := by rw [hc]; rfl
  have f9 : ((c : Int) == 9) = false := by rw [hc]; rfl
  have f2 : ((c : Int) == 2) = false := by rw [hc]; rfl
  have f5 : ((c : Int) == 5) = false := by rw [hc]; rfl
  have f1 : ((c : Int) == 1) = false := by rw [hc]; rfl
  have f6 : ((c : Int) == 6) = true := by rw [hc]; rfl
  clear hc
  obtain ⟨AQ, AR, B0⟩ := yS w (Obj.cells #[.int .u64 x, .int .u64 y] 25) (Obj.cells (pt 0 0 0 0) 68)
  go_enter Tryz.func33, Tryz.ntmps33
  go_wp2_with fail
  refine (KC.out _).mono ?_
  rintro r w1 ⟨rfl, b1⟩
  have B1 : Below w.heap.size w w1 := zL B0 b1
  obtain ⟨Aj, Ak⟩ := zV b1 AQ AR
  clear b1 B0 AQ AR
  obtain ⟨A0, A1⟩ := zF Aj
  obtain ⟨A2, A3, A4, A5, A6, A7, A8, A9, Ba, Bb, Bc, Bd, Be, Bf⟩ := zD Ak
  have S2 := zK B1.size
  have Aa := yA Aj
  have Ab := yA Ak
  have Ax := heap_alloc_last w1 (Obj.cells (pt c 0 0 0) 68)
  have B2 := zL B1 (zQ w1 (Obj.cells (pt c 0 0 0) 68))
  obtain ⟨Ay, Az⟩ := zV (zQ w1 (Obj.cells (pt c 0 0 0) 68)) Aj Ak
  clear B1 Aj A0 A1 Ak A2 A3 A4 A5 A6 A7 A8 A9 Ba Bb Bc Bd Be Bf
  obtain ⟨Bg, Bh⟩ := zF Ay
  obtain ⟨Bi, Bj, Bk, Bl, Bm, Bn, Bo, Bp, Bq, Br, Bs, Bt, Bu, Bv⟩ := zD Az
  obtain ⟨Bw, Bx, By, Bz, BA, BB, BC, BD, BE, BF, BG, BH, BI, BJ⟩ := zD Ax
  go_wp2_with fail
  refine (KF.out _).mono ?_
  rintro r w3 ⟨rfl, b3⟩
  have B3 : Below w.heap.size w w3 := zL B2 b3
  obtain ⟨Al, Am, An⟩ := zZ b3 Ay Az Ax
  clear b3 B2 Ay Bg Bh Az Bi Bj Bk Bl Bm Bn Bo Bp Bq Br Bs Bt Bu Bv Ax Bw Bx By Bz BA BB BC BD BE BF BG BH BI BJ
  obtain ⟨BK, BL⟩ := zF Al
  obtain ⟨BM, BN, BO, BP, BQ, BR, BS, BT, BU, BV, BW, BX, BY, BZ⟩ := zD Am
  obtain ⟨Ca, Cb, Cc, Cd, Ce, Cf, Cg, Ch, Ci, Cj, Ck, Cl, Cm, Cn⟩ := zD An
  have S4 := zK B3.size
  have Ac := yA Al
  have Ad := yA Am
  have Ae := yA An
  have AA := heap_alloc_last w3 (Obj.cells (cw 6 t) 66)
  have B4 := zL B3 (zQ w3 (Obj.cells (cw 6 t) 66))
  obtain ⟨AB, AC, AD⟩ := zZ (zQ w3 (Obj.cells (cw 6 t) 66)) Al Am An
  clear B3 Al BK BL Am BM BN BO BP BQ BR BS BT BU BV BW BX BY BZ An Ca Cb Cc Cd Ce Cf Cg Ch Ci Cj Ck Cl Cm Cn
  obtain ⟨Co, Cp⟩ := zF AB
  obtain ⟨Cq, Cr, Cs, Ct, Cu, Cv, Cw, Cx, Cy, Cz, CA, CB, CC, CD⟩ := zD AC
  obtain ⟨CE, CF, CG, CH, CI, CJ, CK, CL, CM, CN, CO, CP, CQ, CR⟩ := zD AD
  have CS := zE AA
  go_wp2_with fail
  refine (KP.out _).mono ?_
  rintro r w' ⟨rfl, hw'⟩
  obtain rfl := hw'.symm
  go_wp2_with fail
  refine (K1.out _).mono ?_
  rintro r w5 ⟨rfl, b5⟩
  have B5 : Below w.heap.size w w5 := zL B4 b5
  obtain ⟨AE, AF, AG, AH⟩ := rws4 b5 AB AC AD AA
  clear b5 B4 AB Co Cp AC Cq Cr Cs Ct Cu Cv Cw Cx Cy Cz CA CB CC CD AD CE CF CG CH CI CJ CK CL CM CN CO CP CQ CR AA CS
  obtain ⟨CT, CU⟩ := zF AE
  obtain ⟨CV, CW, CX, CY, CZ, C0, C1, C2, C3, C4, C5, C6, C7, C8⟩ := zD AF
  obtain ⟨C9, Da, Db, Dc, Dd, De, Df, Dg, Dh, Di, Dj, Dk, Dl, Dm⟩ := zD AG
  have Dn := zE AH
  go_wp2_with fail
  refine (KW.out _).mono ?_
  rintro r w6 ⟨rfl, b6⟩
  have B6 : Below w.heap.size w w6 := zL B5 b6
  obtain ⟨Ao, Ap, Aq, Ar⟩ := rws4 b6 AE AF AG AH
  clear b6 B5 AE CT CU AF CV CW CX CY CZ C0 C1 C2 C3 C4 C5 C6 C7 C8 AG C9 Da Db Dc Dd De Df Dg Dh Di Dj Dk Dl Dm AH Dn
  obtain ⟨Do, Dp⟩ := zF Ao
  obtain ⟨Dq, Dr, Ds, Dt, Du, Dv, Dw, Dx, Dy, Dz, DA, DB, DC, DD⟩ := zD Ap
  obtain ⟨DE, DF, DG, DH, DI, DJ, DK, DL, DM, DN, DO, DP, DQ, DR⟩ := zD Aq
  have DS := zE Ar
  have S7 := zK B6.size
  have Af := yA Ao
  have Ag := yA Ap
  have Ah := yA Aq
  have Ai := yA Ar
  have AI := heap_alloc_last w6 (Obj.cells (cw 6 P) 66)
  have B7 := zL B6 (zQ w6 (Obj.cells (cw 6 P) 66))
  obtain ⟨AJ, AK, AL, AM⟩ := rws4 (zQ w6 (Obj.cells (cw 6 P) 66)) Ao Ap Aq Ar
  clear B6 Ao Do Dp Ap Dq Dr Ds Dt Du Dv Dw Dx Dy Dz DA DB DC DD Aq DE DF DG DH DI DJ DK DL DM DN DO DP DQ DR Ar DS
  obtain ⟨DT, DU⟩ := zF AJ
  obtain ⟨DV, DW, DX, DY, DZ, D0, D1, D2, D3, D4, D5, D6, D7, D8⟩ := zD AK
  obtain ⟨D9, Ea, Eb, Ec, Ed, Ee, Ef, Eg, Eh, Ei, Ej, Ek, El, Em⟩ := zD AL
  have En := zE AM
  have Eo := zE AI
  go_wp2_with fail
  refine (KR.out _).mono ?_
  rintro r w8 ⟨rfl, b8⟩
  have B8 : Below w.heap.size w w8 := zL B7 b8
  obtain ⟨AS, AT, AN, AU, AV⟩ := rws5 b8 AJ AK AL AM AI
  clear b8 B7 AJ DT DU AK DV DW DX DY DZ D0 D1 D2 D3 D4 D5 D6 D7 D8 AL D9 Ea Eb Ec Ed Ee Ef Eg Eh Ei Ej Ek El Em AM En AI Eo
  obtain ⟨E1, E2⟩ := zF AS
  obtain ⟨E3, E4, E5, E6, E7, E8, E9, Fa, Fb, Fc, Fd, Fe, Ff, Fg⟩ := zD AT
  obtain ⟨Fh, Fi, Fj, Fk, Fl, Fm, Fn, Fo, Fp, Fq, Fr, Fs, Ft, Fu⟩ := zD AN
  have Fv := zE AU
  have Fw := zE AV
  have Ep := st_p1 w8 (w1.heap.size) c 0 0 0 S AN
  have B9 := zX (c := (pt c S 0 0)) B8 (show w.heap.size ≤ w1.heap.size by first | exact Nat.le_refl _ | omega | (have := S2.out; have := Aa.out; have := Ab.out; have := S4.out; have := Ac.out; have := Ad.out; have := Ae.out; have := S7.out; have := Af.out; have := Ag.out; have := Ah.out; have := Ai.out; omega))
  have As := zO (c' := (pt c S 0 0)) AN
  have At : (w8.setRow (w1.heap.size) (pt c S 0 0)).heap[w.heap.size]? = some (.cells #[.int .u64 x, .int .u64 y] 25) := by rw [zH (by first | omega | (have := S2.out; have := Aa.out; have := Ab.out; have := S4.out; have := Ac.out; have := Ad.out; have := Ae.out; have := S7.out; have := Af.out; have := Ag.out; have := Ah.out; have := Ai.out; omega))]; exact AS
  have Au : (w8.setRow (w1.heap.size) (pt c S 0 0)).heap[w.heap.size + 1]? = some (.cells (pt 0 0 0 0) 68) := by rw [zH (by first | omega | (have := S2.out; have := Aa.out; have := Ab.out; have := S4.out; have := Ac.out; have := Ad.out; have := Ae.out; have := S7.out; have := Af.out; have := Ag.out; have := Ah.out; have := Ai.out; omega))]; exact AT
  have Av : (w8.setRow (w1.heap.size) (pt c S 0 0)).heap[w3.heap.size]? = some (.cells (cw 6 t) 66) := by rw [zH (by first | omega | (have := S2.out; have := Aa.out; have := Ab.out; have := S4.out; have := Ac.out; have := Ad.out; have := Ae.out; have := S7.out; have := Af.out; have := Ag.out; have := Ah.out; have := Ai.out; omega))]; exact AU
  have Aw : (w8.setRow (w1.heap.size) (pt c S 0 0)).heap[w6.heap.size]? = some (.cells (cw 6 P) 66) := by rw [zH (by first | omega | (have := S2.out; have := Aa.out; have := Ab.out; have := S4.out; have := Ac.out; have := Ad.out; have := Ae.out; have := S7.out; have := Af.out; have := Ag.out; have := Ah.out; have := Ai.out; omega))]; exact AV
  obtain ⟨w9, Eq⟩ : ∃ V, w8.setRow (w1.heap.size) (pt c S 0 0) = V := ⟨_, rfl⟩
  rw [Eq] at Ep B9 At Au As Av Aw
  obtain ⟨Er, Es⟩ := zF At
  obtain ⟨Et, Eu, Ev, Ew, Ex, Ey, Ez, EA, EB, EC, ED, EE, EF, EG⟩ := zD Au
  obtain ⟨EH, EI, EJ, EK, EL, EM, EN, EO, EP, EQ, ER, ES, ET, EU⟩ := zD As
  have EV := zE Av
  have EW := zE Aw
  go_wp2_with fail
  refine (KE.out _).mono ?_
  rintro r w10 ⟨rfl, b10⟩
  have B10 : Below w.heap.size w w10 := zL B9 b10
  obtain ⟨AW, AX, AO, AY, AZ⟩ := rws5 b10 At Au As Av Aw
  clear b10 B9 At Er Es Au Et Eu Ev Ew Ex Ey Ez EA EB EC ED EE EF EG As EH EI EJ EK EL EM EN EO EP EQ ER ES ET EU Av EV Aw EW
  obtain ⟨Fx, Fy⟩ := zF AW
  obtain ⟨Fz, FA, FB, FC, FD, FE, FF, FG, FH, FI, FJ, FK, FL, FM⟩ := zD AX
  obtain ⟨FN, FO, FP, FQ, FR, FS, FT, FU, FV, FW, FX, FY, FZ, F0⟩ := zD AO
  have F1 := zE AY
  have F2 := zE AZ
  have qp_10 := fz (k := 7) AO
  have B11 : Below w.heap.size w (w10.setCell ⟨w1.heap.size, 7, none⟩ (.int .i64 X)) := B10.setCell (by first | exact Nat.le_refl _ | (have := S2.out; have := Aa.out; have := Ab.out; have := S4.out; have := Ac.out; have := Ad.out; have := Ae.out; have := S7.out; have := Af.out; have := Ag.out; have := Ah.out; have := Ai.out; show w.heap.size ≤ w1.heap.size; omega)) _
  have EX : (w10.setCell ⟨w1.heap.size, 7, none⟩ (.int .i64 X)).heap[w1.heap.size]? = some (.cells (pt c S X 0) 68) := by rw [yC AO]; rfl
  have EY : (w10.setCell ⟨w1.heap.size, 7, none⟩ (.int .i64 X)).heap[w.heap.size]? = some (.cells #[.int .u64 x, .int .u64 y] 25) := by rw [zB (by first | omega | (have := S2.out; have := Aa.out; have := Ab.out; have := S4.out; have := Ac.out; have := Ad.out; have := Ae.out; have := S7.out; have := Af.out; have := Ag.out; have := Ah.out; have := Ai.out; omega))]; exact AW
  have AP : (w10.setCell ⟨w1.heap.size, 7, none⟩ (.int .i64 X)).heap[w.heap.size + 1]? = some (.cells (pt 0 0 0 0) 68) := by rw [zB (by first | omega | (have := S2.out; have := Aa.out; have := Ab.out; have := S4.out; have := Ac.out; have := Ad.out; have := Ae.out; have := S7.out; have := Af.out; have := Ag.out; have := Ah.out; have := Ai.out; omega))]; exact AX
  have EZ : (w10.setCell ⟨w1.heap.size, 7, none⟩ (.int .i64 X)).heap[w3.heap.size]? = some (.cells (cw 6 t) 66) := by rw [zB (by first | omega | (have := S2.out; have := Aa.out; have := Ab.out; have := S4.out; have := Ac.out; have := Ad.out; have := Ae.out; have := S7.out; have := Af.out; have := Ag.out; have := Ah.out; have := Ai.out; omega))]; exact AY
  have E0 : (w10.setCell ⟨w1.heap.size, 7, none⟩ (.int .i64 X)).heap[w6.heap.size]? = some (.cells (cw 6 P) 66) := by rw [zB (by first | omega | (have := S2.out; have := Aa.out; have := Ab.out; have := S4.out; have := Ac.out; have := Ad.out; have := Ae.out; have := S7.out; have := Af.out; have := Ag.out; have := Ah.out; have := Ai.out; omega))]; exact AZ
  obtain ⟨F3, F4⟩ := zF EY
  obtain ⟨F5, F6, F7, F8, F9, Ga, Gb, Gc, Gd, Ge, Gf, Gg, Gh, Gi⟩ := zD AP
  obtain ⟨Gj, Gk, Gl, Gm, Gn, Gp, Gq, Gr, Gs, Gt, Gu, Gv, Gw, Gx⟩ := zD EX
  have Gy := zE EZ
  have Gz := zE E0
  have hstz := st_p (w10.setCell ⟨w1.heap.size, 7, none⟩ (.int .i64 X)) (w.heap.size + 1) c S X 0 0 0 0 0 AP
  have RZ := zO (c' := pt c S X 0) AP
  obtain ⟨dz0, dz1, dz2, dz3, dz4, dz5, dz6, dz7, dz8, dz9, dz10, dz11, dz12, dz13⟩ := zD RZ
  have bz := zX (c := pt c S X 0) B11 (show w.heap.size ≤ w.heap.size + 1 by first | exact Nat.le_refl _ | omega | (have := S2.out; have := Aa.out; have := Ab.out; have := S4.out; have := Ac.out; have := Ad.out; have := Ae.out; have := S7.out; have := Af.out; have := Ag.out; have := Ah.out; have := Ai.out; omega))
  go_wp2
  exact bodyPost_ret (v := .agg (pt c S X 0)) (by simp [results, Tryz.results33, go_sem, dz0, dz1, dz2, dz3, dz4, dz5, dz6, dz7, dz8, dz9, dz10, dz11, dz12, dz13, xP] <;> rfl) rfl ⟨rfl, bz⟩
theorem em_lim {f : Int} (hf : yT f) : IntKind.i64.wrap (1 - fE f - fP f) = 1 - fE f - fP f ∧ IntKind.i64.wrap (1 - fE f - fP f + 1) = lx f ∧ IntKind.i64.wrap (fE f - fP f) = fE f - fP f ∧ IntKind.i64.wrap (fE f - fP f + 1) = fE f - (pV f : Int) ∧ (if fC f = 0 then 1 - fE f else 0) = 1 - fE f ∧ 2 * fE f + 1 = (oV f : Int) ∧ 0 ≤ fE f ∧ fE f ≤ 16383 ∧ fP f = (pV f : Int) + 1 ∧ lx f = 1 - fE f - fP f + 1 ∧ pV f < 128 ∧ -16494 ≤ lx f ∧ lx f ≤ 0 := by
 rcases hf with rfl | rfl | rfl | rfl <;> decide +kernel
theorem rUnpack_is (f : Int) (hf : yT f) (x y n : Nat) (hx : x < 18446744073709551616) (hy : y < 18446744073709551616) (hn : y + 18446744073709551616 * x = n) (hfit : Fit f n) (w : World) :
  Calls Tryz.prog 33 #[.int .u8 f, .agg #[.int .u64 x, .int .u64 y]] w fun r w' => r = .returned (.agg (pt (kC f n) (kS f n) (kX f n) (kF f n))) ∧ Below w.heap.size w w' := by
 have f4 := yL hf
 obtain ⟨g1, g2, g3, g4, g5, g6, g7⟩ := fm hf
 obtain ⟨m1, m2, m3, m4, m5, m6, m7, m8, m9, m10, m11, m12, m13⟩ := em_lim hf
 have tl := xR (f := f) n
 have el := kE_le (f := f) n
 have pn : 2 ^ pV f + kT f n < 340282366920938463463374607431768211456 := by rw [g1, Nat.add_mul] at g7; have := Nat.mul_le_mul_right (2 ^ pV f) g5; omega
 obtain ⟨p1, p2, p3, p4, _⟩ := pV_lim hf
 have KC : zP (∀ w, Calls Tryz.prog 85 #[.int .u8 f, .agg #[.int .u64 x, .int .u64 y]] w fun r w' => r = .returned (.int .u8 ((kC f n : Nat) : Int)) ∧ Below w.heap.size w w') := zK (fun w => rk_class f hf x y n _ hx hy hn hfit rfl w)
 have KF : zP (∀ w, Calls Tryz.prog 86 #[.int .u8 f, .agg #[.int .u64 x, .int .u64 y]] w fun r w' => r = .returned (.tuple #[.bool (kN f n), .int .i64 ((kE f n : Nat) : Int), .agg (cw 6 (kT f n))]) ∧ Below w.heap.size w w') := zK (fun w => rk_fields f hf x y n _ _ _ hx hy hn hfit rfl rfl rfl w)
 have KP : zP (∀ w, Calls Tryz.prog 87 #[.int .u8 f] w fun r w' => r = .returned (.int .i64 (fP f)) ∧ w' = w) := zK (fun w => x6 f _ f4.1 rfl w)
 have cl := kC_lt f n
 by_cases c1 : kC f n = 8 ∨ kC f n = 9
 ·
  have e1 : kS f n = 0 ∧ kX f n = 0 ∧ kF f n = kT f n := by
   unfold kS kX kF
   rw [if_neg (by omega), if_neg (by omega), if_neg (by omega), if_neg (by omega), if_pos c1]
   exact ⟨rfl, rfl, rfl⟩
  rw [e1.1, e1.2.1, e1.2.2]
  exact rparts_nan f _ x y _ _ _ _ w KC KF KP c1
 by_cases c2 : kC f n = 2 ∨ kC f n = 5
 ·
  have e1 : kS f n = kT f n ∧ kX f n = lx f ∧ kF f n = 0 := by
   unfold kS kX kF
   rw [if_pos c2, if_pos c2, if_neg c1]
   exact ⟨rfl, rfl, rfl⟩
  rw [e1.1, e1.2.1, e1.2.2]
  exact rparts_sub f _ x y _ _ _ _ (1 - fE f) _ w KC KF KP (zK (fun w => (r_emin f _ _ f4.1 rfl m5 w).mono fun _ _ h => ⟨h.1, by rw [h.2]; exact Below.refl _ _⟩)) m1 m2 c2
 by_cases c3 : kC f n = 1 ∨ kC f n = 6
 ·
  have e1 : kS f n = 2 ^ pV f + kT f n ∧ kX f n = lx f + (kE f n : Int) - 1 ∧ kF f n = 0 := by
   unfold kS kX kF
   rw [if_neg c2, if_neg c2, if_neg c1, if_pos c3, if_pos c3]
   exact ⟨rfl, rfl, rfl⟩
  rw [e1.1, e1.2.1, e1.2.2]
  have pl : 2 ^ pV f < Q := yR (by omega)
  have sl := yR pn
  exact rparts_norm f (fP f) x y _ _ _ _ (fE f) _ (pV f) (2 ^ pV f) _ w KC KF KP (zK (fun w => rwof_any 1 (by omega) w))
   (zK (fun w => rwleft_is 1 (2 ^ pV f) _ false (yR (by omega)) (by rw [cnt_k8 (by omega), Nat.one_mul, Nat.mod_eq_of_lt pl]) (by rw [cnt_k8 (by omega), Nat.one_mul]; simp; omega) w))
   (zK (fun w => rwadd_is (2 ^ pV f) (kT f n) _ false pl (yR (by omega)) (Nat.mod_eq_of_lt sl) (by simp; omega) w))
   (zK (fun w => (r_emax f _ f4.1 rfl w).mono fun _ _ h => ⟨h.1, by rw [h.2]; exact Below.refl _ _⟩)) p2 (by rw [IntKind.wrap_i64]; omega) (by rw [IntKind.wrap_i64]; omega) (by rw [IntKind.wrap_i64]; omega) c3
 ·
  have e1 : kS f n = 0 ∧ kX f n = 0 ∧ kF f n = 0 := by
   unfold kS kX kF
   rw [if_neg c2, if_neg c2, if_neg c1, if_neg c3, if_neg c3]
   exact ⟨rfl, rfl, rfl⟩
  rw [e1.1, e1.2.1, e1.2.2]
  exact rparts_none f _ x y _ _ _ _ w KC KF KP (by omega)
end Go.Proofs.YtkblmpmkchkpjaaGreatDoor
