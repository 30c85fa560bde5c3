/-
  What the functions that the statement reaches return: part 14 (KI, KU).
-/
import Derived.Test.YtapikkbifdldfaaGreatDoorFa13
namespace Go.Proofs.YtapikkbifdldfaaGreatDoor
set_option maxRecDepth 100000
set_option maxHeartbeats 40000000
open Go.RowKit WMath
set_option linter.unusedSimpArgs false
set_option linter.unusedVariables false
theorem rparts_nan (f q : Int) (x y c e t : Nat) (neg : Bool) (w : World)
  (KC : zR (∀ w, Calls Tryz.prog 67 #[.int .u8 f, .agg #[.int .u64 x, .int .u64 y]] w fun r w' => r = .returned (.int .u8 c) ∧ Below w.heap.size w w'))
  (KF : zR (∀ w, Calls Tryz.prog 92 #[.int .u8 f, .agg #[.int .u64 x, .int .u64 y]] w fun r w' => r = .returned (.tuple #[.bool neg, .int .i64 (e : Nat), .agg (cw 6 t)]) ∧ Below w.heap.size w w'))
  (KP : zR (∀ w, Calls Tryz.prog 95 #[.int .u8 f] w fun r w' => r = .returned (.int .i64 q) ∧ w' = w))
  (hc : c = 8 ∨ c = 9) : Calls Tryz.prog 98 #[.int .u8 f, .agg #[.int .u64 x, .int .u64 y]] w fun r w' => r = .returned (.agg (pt c 0 0 t)) ∧ Below w.heap.size w w' := by
 have hat := yD 6
 have hz := yZ
 have hff := yY
 have hs0 := q8
 have hcs : ∀ x, ((cw 6 x).size = 6) = True := fun x => eq_true (z7 6 x)
 have hp1 := ptf
 have hp2 := ptc
 have hp3 := ptz
 have hp4 := st_p0
 have hp6 := pt_set
 have hp7 := pt_setl
 have hp5 : ∀ (c s : Nat) (x : Int) (r : Nat), ((pt c s x r).size = 14) = True := fun _ _ _ _ => eq_true rfl
 have ha0 := pt_at0
 have ha1 := pt_at1
 have ha2 := pt_at2
 have ha3 := pt_at3
 have ha4 := pt_at4
 have ha5 := pt_at5
 have ha6 := pt_at6
 have ha7 := pt_at7
 have ha8 := pt_at8
 have ha9 := pt_at9
 have ha10 := pt_at10
 have ha11 := pt_at11
 have ha12 := pt_at12
 have ha13 := pt_at13
 rcases hc with hc | hc
 ·
  have f8 : ((c : Int) == 8) = true := by rw [hc]; rfl
  clear hc
  obtain ⟨Ap, Aq, B0⟩ := x5 w (Obj.cells #[.int .u64 x, .int .u64 y] 26) (Obj.cells (pt 0 0 0 0) 54)
  go_enter Tryz.func98, Tryz.ntmps98
  go_wp2_with fail
  refine (KC.out _).mono ?_
  rintro r w1 ⟨rfl, b1⟩
  have B1 : Below w.heap.size w w1 := zX B0 b1
  obtain ⟨Af, Ag⟩ := z6 b1 Ap Aq
  clear b1 B0 Ap Aq
  obtain ⟨Ax, Ay⟩ := zO Af
  obtain ⟨Az, AA, AB, AC, AD, AE, AF, AG, AH, AI, AJ, AK, AL, AM⟩ := zG Ag
  have S2 := zK B1.size
  have Aa := yC Af
  have Ab := yC Ag
  have Al := heap_alloc_last w1 (Obj.cells (pt c 0 0 0) 54)
  have B2 := zX B1 (yB w1 (Obj.cells (pt c 0 0 0) 54))
  obtain ⟨Am, An⟩ := z6 (yB w1 (Obj.cells (pt c 0 0 0) 54)) Af Ag
  clear B1 Af Ax Ay Ag Az AA AB AC AD AE AF AG AH AI AJ AK AL AM
  obtain ⟨AN, AO⟩ := zO Am
  obtain ⟨AP, AQ, AR, AS, AT, AU, AV, AW, AX, AY, AZ, A0, A1, A2⟩ := zG An
  obtain ⟨A3, A4, A5, A6, A7, A8, A9, Ba, Bb, Bc, Bd, Be, Bf, Bg⟩ := zG Al
  go_wp2_with fail
  refine (KF.out _).mono ?_
  rintro r w3 ⟨rfl, b3⟩
  have B3 : Below w.heap.size w w3 := zX B2 b3
  obtain ⟨Ah, Ai, Aj⟩ := yI b3 Am An Al
  clear b3 B2 Am AN AO An AP AQ AR AS AT AU AV AW AX AY AZ A0 A1 A2 Al A3 A4 A5 A6 A7 A8 A9 Ba Bb Bc Bd Be Bf Bg
  obtain ⟨Bh, Bi⟩ := zO Ah
  obtain ⟨Bj, Bk, Bl, Bm, Bn, Bo, Bp, Bq, Br, Bs, Bt, Bu, Bv, Bw⟩ := zG Ai
  obtain ⟨Bx, By, Bz, BA, BB, BC, BD, BE, BF, BG, BH, BI, BJ, BK⟩ := zG Aj
  have S4 := zK B3.size
  have Ac := yC Ah
  have Ad := yC Ai
  have Ae := yC Aj
  have Ar := heap_alloc_last w3 (Obj.cells (cw 6 t) 52)
  have B4 := zX B3 (yB w3 (Obj.cells (cw 6 t) 52))
  obtain ⟨As, At, Ao⟩ := yI (yB w3 (Obj.cells (cw 6 t) 52)) Ah Ai Aj
  clear B3 Ah Bh Bi Ai Bj Bk Bl Bm Bn Bo Bp Bq Br Bs Bt Bu Bv Bw Aj Bx By Bz BA BB BC BD BE BF BG BH BI BJ BK
  obtain ⟨BN, BO⟩ := zO As
  obtain ⟨BP, BQ, BR, BS, BT, BU, BV, BW, BX, BY, BZ, B6, B7, B8⟩ := zG At
  obtain ⟨B9, Ca, Cb, Cc, Cd, Ce, Cf, Cg, Ch, Ci, Cj, Ck, Cl, Cm⟩ := zG Ao
  have Cn := zF Ar
  go_wp2_with fail
  refine (KP.out _).mono ?_
  rintro r w' ⟨rfl, hw'⟩
  obtain rfl := hw'.symm
  have BL := st_p8 (w3.alloc (Obj.cells (cw 6 t) 52)) (w1.heap.size) c 0 0 0 t Ao
  have B5 := z9 (c := (pt c 0 0 t)) B4 (show w.heap.size ≤ w1.heap.size by first | exact Nat.le_refl _ | omega | (have := S2.out; have := Aa.out; have := Ab.out; have := S4.out; have := Ac.out; have := Ad.out; have := Ae.out; omega))
  have Au := zU (c' := (pt c 0 0 t)) Ao
  have Av : ((w3.alloc (Obj.cells (cw 6 t) 52)).setRow (w1.heap.size) (pt c 0 0 t)).heap[w.heap.size]? = some (.cells #[.int .u64 x, .int .u64 y] 26) := by rw [zI (by first | omega | (have := S2.out; have := Aa.out; have := Ab.out; have := S4.out; have := Ac.out; have := Ad.out; have := Ae.out; omega))]; exact As
  have Ak : ((w3.alloc (Obj.cells (cw 6 t) 52)).setRow (w1.heap.size) (pt c 0 0 t)).heap[w.heap.size + 1]? = some (.cells (pt 0 0 0 0) 54) := by rw [zI (by first | omega | (have := S2.out; have := Aa.out; have := Ab.out; have := S4.out; have := Ac.out; have := Ad.out; have := Ae.out; omega))]; exact At
  have Aw : ((w3.alloc (Obj.cells (cw 6 t) 52)).setRow (w1.heap.size) (pt c 0 0 t)).heap[w3.heap.size]? = some (.cells (cw 6 t) 52) := by rw [zI (by first | omega | (have := S2.out; have := Aa.out; have := Ab.out; have := S4.out; have := Ac.out; have := Ad.out; have := Ae.out; omega))]; exact Ar
  obtain ⟨w5, BM⟩ : ∃ V, (w3.alloc (Obj.cells (cw 6 t) 52)).setRow (w1.heap.size) (pt c 0 0 t) = V := ⟨_, rfl⟩
  rw [BM] at BL B5 Av Ak Au Aw
  obtain ⟨Co, Cp⟩ := zO Av
  obtain ⟨Cq, Cr, Cs, Ct, Cu, Cv, Cw, Cx, Cy, Cz, CA, CB, CC, CD⟩ := zG Ak
  obtain ⟨CE, CF, CG, CH, CI, CJ, CK, CL, CM, CN, CO, CP, CQ, CR⟩ := zG Au
  have CS := zF Aw
  have hstz := st_p w5 (w.heap.size + 1) c 0 0 t 0 0 0 0 Ak
  have RZ := zU (c' := pt c 0 0 t) Ak
  obtain ⟨dz0, dz1, dz2, dz3, dz4, dz5, dz6, dz7, dz8, dz9, dz10, dz11, dz12, dz13⟩ := zG RZ
  have bz := z9 (c := pt c 0 0 t) B5 (show w.heap.size ≤ w.heap.size + 1 by first | exact Nat.le_refl _ | omega | (have := S2.out; have := Aa.out; have := Ab.out; have := S4.out; have := Ac.out; have := Ad.out; have := Ae.out; omega))
  go_wp2
  exact bodyPost_ret (v := .agg (pt c 0 0 t)) (by simp [results, Tryz.results98, go_sem, dz0, dz1, dz2, dz3, dz4, dz5, dz6, dz7, dz8, dz9, dz10, dz11, dz12, dz13, ptf] <;> rfl) rfl ⟨rfl, bz⟩
 ·
  have f8 : ((c : Int) == 8) = false := by rw [hc]; rfl
  have f9 : ((c : Int) == 9) = true := by rw [hc]; rfl
  clear hc
  obtain ⟨Ap, Aq, B0⟩ := x5 w (Obj.cells #[.int .u64 x, .int .u64 y] 26) (Obj.cells (pt 0 0 0 0) 54)
  go_enter Tryz.func98, Tryz.ntmps98
  go_wp2_with fail
  refine (KC.out _).mono ?_
  rintro r w1 ⟨rfl, b1⟩
  have B1 : Below w.heap.size w w1 := zX B0 b1
  obtain ⟨Af, Ag⟩ := z6 b1 Ap Aq
  clear b1 B0 Ap Aq
  obtain ⟨Ax, Ay⟩ := zO Af
  obtain ⟨Az, AA, AB, AC, AD, AE, AF, AG, AH, AI, AJ, AK, AL, AM⟩ := zG Ag
  have S2 := zK B1.size
  have Aa := yC Af
  have Ab := yC Ag
  have Al := heap_alloc_last w1 (Obj.cells (pt c 0 0 0) 54)
  have B2 := zX B1 (yB w1 (Obj.cells (pt c 0 0 0) 54))
  obtain ⟨Am, An⟩ := z6 (yB w1 (Obj.cells (pt c 0 0 0) 54)) Af Ag
  clear B1 Af Ax Ay Ag Az AA AB AC AD AE AF AG AH AI AJ AK AL AM
  obtain ⟨AN, AO⟩ := zO Am
  obtain ⟨AP, AQ, AR, AS, AT, AU, AV, AW, AX, AY, AZ, A0, A1, A2⟩ := zG An
  obtain ⟨A3, A4, A5, A6, A7, A8, A9, Ba, Bb, Bc, Bd, Be, Bf, Bg⟩ := zG Al
  go_wp2_with fail
  refine (KF.out _).mono ?_
  rintro r w3 ⟨rfl, b3⟩
  have B3 : Below w.heap.size w w3 := zX B2 b3
  obtain ⟨Ah, Ai, Aj⟩ := yI b3 Am An Al
  clear b3 B2 Am AN AO An AP AQ AR AS AT AU AV AW AX AY AZ A0 A1 A2 Al A3 A4 A5 A6 A7 A8 A9 Ba Bb Bc Bd Be Bf Bg
  obtain ⟨Bh, Bi⟩ := zO Ah
  obtain ⟨Bj, Bk, Bl, Bm, Bn, Bo, Bp, Bq, Br, Bs, Bt, Bu, Bv, Bw⟩ := zG Ai
  obtain ⟨Bx, By, Bz, BA, BB, BC, BD, BE, BF, BG, BH, BI, BJ, BK⟩ := zG Aj
  have S4 := zK B3.size
  have Ac := yC Ah
  have Ad := yC Ai
  have Ae := yC Aj
  have Ar := heap_alloc_last w3 (Obj.cells (cw 6 t) 52)
  have B4 := zX B3 (yB w3 (Obj.cells (cw 6 t) 52))
  obtain ⟨As, At, Ao⟩ := yI (yB w3 (Obj.cells (cw 6 t) 52)) Ah Ai Aj
  clear B3 Ah Bh Bi Ai Bj Bk Bl Bm Bn Bo Bp Bq Br Bs Bt Bu Bv Bw Aj Bx By Bz BA BB BC BD BE BF BG BH BI BJ BK
  obtain ⟨BN, BO⟩ := zO As
  obtain ⟨BP, BQ, BR, BS, BT, BU, BV, BW, BX, BY, BZ, B6, B7, B8⟩ := zG At
  obtain ⟨B9, Ca, Cb, Cc, Cd, Ce, Cf, Cg, Ch, Ci, Cj, Ck, Cl, Cm⟩ := zG Ao
  have Cn := zF Ar
  go_wp2_with fail
  refine (KP.out _).mono ?_
  rintro r w' ⟨rfl, hw'⟩
  obtain rfl := hw'.symm
  have BL := st_p8 (w3.alloc (Obj.cells (cw 6 t) 52)) (w1.heap.size) c 0 0 0 t Ao
  have B5 := z9 (c := (pt c 0 0 t)) B4 (show w.heap.size ≤ w1.heap.size by first | exact Nat.le_refl _ | omega | (have := S2.out; have := Aa.out; have := Ab.out; have := S4.out; have := Ac.out; have := Ad.out; have := Ae.out; omega))
  have Au := zU (c' := (pt c 0 0 t)) Ao
  have Av : ((w3.alloc (Obj.cells (cw 6 t) 52)).setRow (w1.heap.size) (pt c 0 0 t)).heap[w.heap.size]? = some (.cells #[.int .u64 x, .int .u64 y] 26) := by rw [zI (by first | omega | (have := S2.out; have := Aa.out; have := Ab.out; have := S4.out; have := Ac.out; have := Ad.out; have := Ae.out; omega))]; exact As
  have Ak : ((w3.alloc (Obj.cells (cw 6 t) 52)).setRow (w1.heap.size) (pt c 0 0 t)).heap[w.heap.size + 1]? = some (.cells (pt 0 0 0 0) 54) := by rw [zI (by first | omega | (have := S2.out; have := Aa.out; have := Ab.out; have := S4.out; have := Ac.out; have := Ad.out; have := Ae.out; omega))]; exact At
  have Aw : ((w3.alloc (Obj.cells (cw 6 t) 52)).setRow (w1.heap.size) (pt c 0 0 t)).heap[w3.heap.size]? = some (.cells (cw 6 t) 52) := by rw [zI (by first | omega | (have := S2.out; have := Aa.out; have := Ab.out; have := S4.out; have := Ac.out; have := Ad.out; have := Ae.out; omega))]; exact Ar
  obtain ⟨w5, BM⟩ : ∃ V, (w3.alloc (Obj.cells (cw 6 t) 52)).setRow (w1.heap.size) (pt c 0 0 t) = V := ⟨_, rfl⟩
  rw [BM] at BL B5 Av Ak Au Aw
  obtain ⟨Co, Cp⟩ := zO Av
  obtain ⟨Cq, Cr, Cs, Ct, Cu, Cv, Cw, Cx, Cy, Cz, CA, CB, CC, CD⟩ := zG Ak
  obtain ⟨CE, CF, CG, CH, CI, CJ, CK, CL, CM, CN, CO, CP, CQ, CR⟩ := zG Au
  have CS := zF Aw
  have hstz := st_p w5 (w.heap.size + 1) c 0 0 t 0 0 0 0 Ak
  have RZ := zU (c' := pt c 0 0 t) Ak
  obtain ⟨dz0, dz1, dz2, dz3, dz4, dz5, dz6, dz7, dz8, dz9, dz10, dz11, dz12, dz13⟩ := zG RZ
  have bz := z9 (c := pt c 0 0 t) B5 (show w.heap.size ≤ w.heap.size + 1 by first | exact Nat.le_refl _ | omega | (have := S2.out; have := Aa.out; have := Ab.out; have := S4.out; have := Ac.out; have := Ad.out; have := Ae.out; omega))
  go_wp2
  exact bodyPost_ret (v := .agg (pt c 0 0 t)) (by simp [results, Tryz.results98, go_sem, dz0, dz1, dz2, dz3, dz4, dz5, dz6, dz7, dz8, dz9, dz10, dz11, dz12, dz13, ptf] <;> rfl) rfl ⟨rfl, bz⟩
theorem rparts_none (f q : Int) (x y c e t : Nat) (neg : Bool) (w : World)
  (KC : zR (∀ w, Calls Tryz.prog 67 #[.int .u8 f, .agg #[.int .u64 x, .int .u64 y]] w fun r w' => r = .returned (.int .u8 c) ∧ Below w.heap.size w w'))
  (KF : zR (∀ w, Calls Tryz.prog 92 #[.int .u8 f, .agg #[.int .u64 x, .int .u64 y]] w fun r w' => r = .returned (.tuple #[.bool neg, .int .i64 (e : Nat), .agg (cw 6 t)]) ∧ Below w.heap.size w w'))
  (KP : zR (∀ w, Calls Tryz.prog 95 #[.int .u8 f] w fun r w' => r = .returned (.int .i64 q) ∧ w' = w))
  (hc : c = 0 ∨ c = 3 ∨ c = 4 ∨ c = 7) : Calls Tryz.prog 98 #[.int .u8 f, .agg #[.int .u64 x, .int .u64 y]] w fun r w' => r = .returned (.agg (pt c 0 0 0)) ∧ Below w.heap.size w w' := by
 have hat := yD 6
 have hz := yZ
 have hff := yY
 have hs0 := q8
 have hcs : ∀ x, ((cw 6 x).size = 6) = True := fun x => eq_true (z7 6 x)
 have hp1 := ptf
 have hp2 := ptc
 have hp3 := ptz
 have hp4 := st_p0
 have hp6 := pt_set
 have hp7 := pt_setl
 have hp5 : ∀ (c s : Nat) (x : Int) (r : Nat), ((pt c s x r).size = 14) = True := fun _ _ _ _ => eq_true rfl
 have ha0 := pt_at0
 have ha1 := pt_at1
 have ha2 := pt_at2
 have ha3 := pt_at3
 have ha4 := pt_at4
 have ha5 := pt_at5
 have ha6 := pt_at6
 have ha7 := pt_at7
 have ha8 := pt_at8
 have ha9 := pt_at9
 have ha10 := pt_at10
 have ha11 := pt_at11
 have ha12 := pt_at12
 have ha13 := pt_at13
 rcases hc with hc | hc | hc | hc
 ·
  have f8 : ((c : Int) == 8) = false := by rw [hc]; rfl
  have f9 : ((c : Int) == 9) = false := by rw [hc]; rfl
  have f2 : ((c : Int) == 2) = false := by rw [hc]; rfl
  have f5 : ((c : Int) == 5) = false := by rw [hc]; rfl
  have f1 : ((c : Int) == 1) = false := by rw [hc]; rfl
  have f6 : ((c : Int) == 6) = false := by rw [hc]; rfl
  clear hc
  obtain ⟨Aj, Ak, B0⟩ := x5 w (Obj.cells #[.int .u64 x, .int .u64 y] 26) (Obj.cells (pt 0 0 0 0) 54)
  go_enter Tryz.func98, Tryz.ntmps98
  go_wp2_with fail
  refine (KC.out _).mono ?_
  rintro r w1 ⟨rfl, b1⟩
  have B1 : Below w.heap.size w w1 := zX B0 b1
  obtain ⟨Aa, Ab⟩ := z6 b1 Aj Ak
  clear b1 B0 Aj Ak
  obtain ⟨Al, Am⟩ := zO Aa
  obtain ⟨An, Ao, Ap, Aq, Ar, As, At, Au, Av, Aw, Ax, Ay, Az, AA⟩ := zG Ab
  have S2 := zK B1.size
  have AB := yC Aa
  have AC := yC Ab
  have Af := heap_alloc_last w1 (Obj.cells (pt c 0 0 0) 54)
  have B2 := zX B1 (yB w1 (Obj.cells (pt c 0 0 0) 54))
  obtain ⟨Ag, Ah⟩ := z6 (yB w1 (Obj.cells (pt c 0 0 0) 54)) Aa Ab
  clear B1 Aa Al Am Ab An Ao Ap Aq Ar As At Au Av Aw Ax Ay Az AA
  obtain ⟨AD, AE⟩ := zO Ag
  obtain ⟨AF, AG, AH, AI, AJ, AK, AL, AM, AN, AO, AP, AQ, AR, AS⟩ := zG Ah
  obtain ⟨AT, AU, AV, AW, AX, AY, AZ, A0, A1, A2, A3, A4, A5, A6⟩ := zG Af
  go_wp2_with fail
  refine (KF.out _).mono ?_
  rintro r w3 ⟨rfl, b3⟩
  have B3 : Below w.heap.size w w3 := zX B2 b3
  obtain ⟨Ac, Ad, Ae⟩ := yI b3 Ag Ah Af
  clear b3 B2 Ag AD AE Ah AF AG AH AI AJ AK AL AM AN AO AP AQ AR AS Af AT AU AV AW AX AY AZ A0 A1 A2 A3 A4 A5 A6
  obtain ⟨A7, A8⟩ := zO Ac
  obtain ⟨A9, Ba, Bb, Bc, Bd, Be, Bf, Bg, Bh, Bi, Bj, Bk, Bl, Bm⟩ := zG Ad
  obtain ⟨Bn, Bo, Bp, Bq, Br, Bs, Bt, Bu, Bv, Bw, Bx, By, Bz, BA⟩ := zG Ae
  have S4 := zK B3.size
  have BB := yC Ac
  have BC := yC Ad
  have BD := yC Ae
  have BE := heap_alloc_last w3 (Obj.cells (cw 6 t) 52)
  have B4 := zX B3 (yB w3 (Obj.cells (cw 6 t) 52))
  obtain ⟨BF, Ai, BG⟩ := yI (yB w3 (Obj.cells (cw 6 t) 52)) Ac Ad Ae
  clear B3 Ac A7 A8 Ad A9 Ba Bb Bc Bd Be Bf Bg Bh Bi Bj Bk Bl Bm Ae Bn Bo Bp Bq Br Bs Bt Bu Bv Bw Bx By Bz BA
  obtain ⟨BH, BI⟩ := zO BF
  obtain ⟨BJ, BK, BL, BM, BN, BO, BP, BQ, BR, BS, BT, BU, BV, BW⟩ := zG Ai
  obtain ⟨BX, BY, BZ, B5, B6, B7, B8, B9, Ca, Cb, Cc, Cd, Ce, Cf⟩ := zG BG
  have Cg := zF BE
  go_wp2_with fail
  refine (KP.out _).mono ?_
  rintro r w' ⟨rfl, hw'⟩
  obtain rfl := hw'.symm
  have hstz := st_p (w3.alloc (Obj.cells (cw 6 t) 52)) (w.heap.size + 1) c 0 0 0 0 0 0 0 Ai
  have RZ := zU (c' := pt c 0 0 0) Ai
  obtain ⟨dz0, dz1, dz2, dz3, dz4, dz5, dz6, dz7, dz8, dz9, dz10, dz11, dz12, dz13⟩ := zG RZ
  have bz := z9 (c := pt c 0 0 0) B4 (show w.heap.size ≤ w.heap.size + 1 by first | exact Nat.le_refl _ | omega | (have := S2.out; have := AB.out; have := AC.out; have := S4.out; have := BB.out; have := BC.out; have := BD.out; omega))
  go_wp2
  exact bodyPost_ret (v := .agg (pt c 0 0 0)) (by simp [results, Tryz.results98, go_sem, dz0, dz1, dz2, dz3, dz4, dz5, dz6, dz7, dz8, dz9, dz10, dz11, dz12, dz13, ptf] <;> rfl) rfl ⟨rfl, bz⟩
 ·
  have f8 : ((c : Int) == 8) = false := by rw [hc]; rfl
  have f9 : ((c : Int) == 9) = false := by rw [hc]; rfl
  have f2 : ((c : Int) == 2) = false := by rw [hc]; rfl
  have f5 : ((c : Int) == 5) = false := by rw [hc]; rfl
  have f1 : ((c : Int) == 1) = false := by rw [hc]; rfl
  have f6 : ((c : Int) == 6) = false := by rw [hc]; rfl
  clear hc
  obtain ⟨Aj, Ak, B0⟩ := x5 w (Obj.cells #[.int .u64 x, .int .u64 y] 26) (Obj.cells (pt 0 0 0 0) 54)
  go_enter Tryz.func98, Tryz.ntmps98
  go_wp2_with fail
  refine (KC.out _).mono ?_
  rintro r w1 ⟨rfl, b1⟩
  have B1 : Below w.heap.size w w1 := zX B0 b1
  obtain ⟨Aa, Ab⟩ := z6 b1 Aj Ak
  clear b1 B0 Aj Ak
  obtain ⟨Al, Am⟩ := zO Aa
  obtain ⟨An, Ao, Ap, Aq, Ar, As, At, Au, Av, Aw, Ax, Ay, Az, AA⟩ := zG Ab
  have S2 := zK B1.size
  have AB := yC Aa
  have AC := yC Ab
  have Af := heap_alloc_last w1 (Obj.cells (pt c 0 0 0) 54)
  have B2 := zX B1 (yB w1 (Obj.cells (pt c 0 0 0) 54))
  obtain ⟨Ag, Ah⟩ := z6 (yB w1 (Obj.cells (pt c 0 0 0) 54)) Aa Ab
  clear B1 Aa Al Am Ab An Ao Ap Aq Ar As At Au Av Aw Ax Ay Az AA
  obtain ⟨AD, AE⟩ := zO Ag
  obtain ⟨AF, AG, AH, AI, AJ, AK, AL, AM, AN, AO, AP, AQ, AR, AS⟩ := zG Ah
  obtain ⟨AT, AU, AV, AW, AX, AY, AZ, A0, A1, A2, A3, A4, A5, A6⟩ := zG Af
  go_wp2_with fail
  refine (KF.out _).mono ?_
  rintro r w3 ⟨rfl, b3⟩
  have B3 : Below w.heap.size w w3 := zX B2 b3
  obtain ⟨Ac, Ad, Ae⟩ := yI b3 Ag Ah Af
  clear b3 B2 Ag AD AE Ah AF AG AH AI AJ AK AL AM AN AO AP AQ AR AS Af AT AU AV AW AX AY AZ A0 A1 A2 A3 A4 A5 A6
  obtain ⟨A7, A8⟩ := zO Ac
  obtain ⟨A9, Ba, Bb, Bc, Bd, Be, Bf, Bg, Bh, Bi, Bj, Bk, Bl, Bm⟩ := zG Ad
  obtain ⟨Bn, Bo, Bp, Bq, Br, Bs, Bt, Bu, Bv, Bw, Bx, By, Bz, BA⟩ := zG Ae
  have S4 := zK B3.size
  have BB := yC Ac
  have BC := yC Ad
  have BD := yC Ae
  have BE := heap_alloc_last w3 (Obj.cells (cw 6 t) 52)
  have B4 := zX B3 (yB w3 (Obj.cells (cw 6 t) 52))
  obtain ⟨BF, Ai, BG⟩ := yI (yB w3 (Obj.cells (cw 6 t) 52)) Ac Ad Ae
  clear B3 Ac A7 A8 Ad A9 Ba Bb Bc Bd Be Bf Bg Bh Bi Bj Bk Bl Bm Ae Bn Bo Bp Bq Br Bs Bt Bu Bv Bw Bx By Bz BA
  obtain ⟨BH, BI⟩ := zO BF
  obtain ⟨BJ, BK, BL, BM, BN, BO, BP, BQ, BR, BS, BT, BU, BV, BW⟩ := zG Ai
  obtain ⟨BX, BY, BZ, B5, B6, B7, B8, B9, Ca, Cb, Cc, Cd, Ce, Cf⟩ := zG BG
  have Cg := zF BE
  go_wp2_with fail
  refine (KP.out _).mono ?_
  rintro r w' ⟨rfl, hw'⟩
  obtain rfl := hw'.symm
  have hstz := st_p (w3.alloc (Obj.cells (cw 6 t) 52)) (w.heap.size + 1) c 0 0 0 0 0 0 0 Ai
  have RZ := zU (c' := pt c 0 0 0) Ai
  obtain ⟨dz0, dz1, dz2, dz3, dz4, dz5, dz6, dz7, dz8, dz9, dz10, dz11, dz12, dz13⟩ := zG RZ
  have bz := z9 (c := pt c 0 0 0) B4 (show w.heap.size ≤ w.heap.size + 1 by first | exact Nat.le_refl _ | omega | (have := S2.out; have := AB.out; have := AC.out; have := S4.out; have := BB.out; have := BC.out; have := BD.out; omega))
  go_wp2
  exact bodyPost_ret (v := .agg (pt c 0 0 0)) (by simp [results, Tryz.results98, go_sem, dz0, dz1, dz2, dz3, dz4, dz5, dz6, dz7, dz8, dz9, dz10, dz11, dz12, dz13, ptf] <;> rfl) rfl ⟨rfl, bz⟩
 ·
  have f8 : ((c : Int) == 8) = false := by rw [hc]; rfl
  have f9 : ((c : Int) == 9) = false := by rw [hc]; rfl
  have f2 : ((c : Int) == 2) = false := by rw [hc]; rfl
  have f5 : ((c : Int) == 5) = false := by rw [hc]; rfl
  have f1 : ((c : Int) == 1) = false := by rw [hc]; rfl
  have f6 : ((c : Int) == 6) = false := by rw [hc]; rfl
  clear hc
  obtain ⟨Aj, Ak, B0⟩ := x5 w (Obj.cells #[.int .u64 x, .int .u64 y] 26) (Obj.cells (pt 0 0 0 0) 54)
  go_enter Tryz.func98, Tryz.ntmps98
  go_wp2_with fail
  refine (KC.out _).mono ?_
  rintro r w1 ⟨rfl, b1⟩
  have B1 : Below w.heap.size w w1 := zX B0 b1
  obtain ⟨Aa, Ab⟩ := z6 b1 Aj Ak
  clear b1 B0 Aj Ak
  obtain ⟨Al, Am⟩ := zO Aa
  obtain ⟨An, Ao, Ap, Aq, Ar, As, At, Au, Av, Aw, Ax, Ay, Az, AA⟩ := zG Ab
  have S2 := zK B1.size
  have AB := yC Aa
  have AC := yC Ab
  have Af := heap_alloc_last w1 (Obj.cells (pt c 0 0 0) 54)
  have B2 := zX B1 (yB w1 (Obj.cells (pt c 0 0 0) 54))
  obtain ⟨Ag, Ah⟩ := z6 (yB w1 (Obj.cells (pt c 0 0 0) 54)) Aa Ab
  clear B1 Aa Al Am Ab An Ao Ap Aq Ar As At Au Av Aw Ax Ay Az AA
  obtain ⟨AD, AE⟩ := zO Ag
  obtain ⟨AF, AG, AH, AI, AJ, AK, AL, AM, AN, AO, AP, AQ, AR, AS⟩ := zG Ah
  obtain ⟨AT, AU, AV, AW, AX, AY, AZ, A0, A1, A2, A3, A4, A5, A6⟩ := zG Af
  go_wp2_with fail
  refine (KF.out _).mono ?_
  rintro r w3 ⟨rfl, b3⟩
  have B3 : Below w.heap.size w w3 := zX B2 b3
  obtain ⟨Ac, Ad, Ae⟩ := yI b3 Ag Ah Af
  clear b3 B2 Ag AD AE Ah AF AG AH AI AJ AK AL AM AN AO AP AQ AR AS Af AT AU AV AW AX AY AZ A0 A1 A2 A3 A4 A5 A6
  obtain ⟨A7, A8⟩ := zO Ac
  obtain ⟨A9, Ba, Bb, Bc, Bd, Be, Bf, Bg, Bh, Bi, Bj, Bk, Bl, Bm⟩ := zG Ad
  obtain ⟨Bn, Bo, Bp, Bq, Br, Bs, Bt, Bu, Bv, Bw, Bx, By, Bz, BA⟩ := zG Ae
  have S4 := zK B3.size
  have BB := yC Ac
  have BC := yC Ad
  have BD := yC Ae
  have BE := heap_alloc_last w3 (Obj.cells (cw 6 t) 52)
  have B4 := zX B3 (yB w3 (Obj.cells (cw 6 t) 52))
  obtain ⟨BF, Ai, BG⟩ := yI (yB w3 (Obj.cells (cw 6 t) 52)) Ac Ad Ae
  clear B3 Ac A7 A8 Ad A9 Ba Bb Bc Bd Be Bf Bg Bh Bi Bj Bk Bl Bm Ae Bn Bo Bp Bq Br Bs Bt Bu Bv Bw Bx By Bz BA
  obtain ⟨BH, BI⟩ := zO BF
  obtain ⟨BJ, BK, BL, BM, BN, BO, BP, BQ, BR, BS, BT, BU, BV, BW⟩ := zG Ai
  obtain ⟨BX, BY, BZ, B5, B6, B7, B8, B9, Ca, Cb, Cc, Cd, Ce, Cf⟩ := zG BG
  have Cg := zF BE
  go_wp2_with fail
  refine (KP.out _).mono ?_
  rintro r w' ⟨rfl, hw'⟩
  obtain rfl := hw'.symm
  have hstz := st_p (w3.alloc (Obj.cells (cw 6 t) 52)) (w.heap.size + 1) c 0 0 0 0 0 0 0 Ai
  have RZ := zU (c' := pt c 0 0 0) Ai
  obtain ⟨dz0, dz1, dz2, dz3, dz4, dz5, dz6, dz7, dz8, dz9, dz10, dz11, dz12, dz13⟩ := zG RZ
  have bz := z9 (c := pt c 0 0 0) B4 (show w.heap.size ≤ w.heap.size + 1 by first | exact Nat.le_refl _ | omega | (have := S2.out; have := AB.out; have := AC.out; have := S4.out; have := BB.out; have := BC.out; have := BD.out; omega))
  go_wp2
  exact bodyPost_ret (v := .agg (pt c 0 0 0)) (by simp [results, Tryz.results98, go_sem, dz0, dz1, dz2, dz3, dz4, dz5, dz6, dz7, dz8, dz9, dz10, dz11, dz12, dz13, ptf] <;> rfl) rfl ⟨rfl, bz⟩
 ·
  have f8 : ((c : Int) == 8) = false := by rw [hc]; rfl
  have f9 : ((c : Int) == 9) = false := by rw [hc]; rfl
  have f2 : ((c : Int) == 2) = false := by rw [hc]; rfl
  have f5 : ((c : Int) == 5) = false := by rw [hc]; rfl
  have f1 : ((c : Int) == 1) = false := by rw [hc]; rfl
  have f6 : ((c : Int) == 6) = false := by rw [hc]; rfl
  clear hc
  obtain ⟨Aj, Ak, B0⟩ := x5 w (Obj.cells #[.int .u64 x, .int .u64 y] 26) (Obj.cells (pt 0 0 0 0) 54)
  go_enter Tryz.func98, Tryz.ntmps98
  go_wp2_with fail
  refine (KC.out _).mono ?_
  rintro r w1 ⟨rfl, b1⟩
  have B1 : Below w.heap.size w w1 := zX B0 b1
  obtain ⟨Aa, Ab⟩ := z6 b1 Aj Ak
  clear b1 B0 Aj Ak
  obtain ⟨Al, Am⟩ := zO Aa
  obtain ⟨An, Ao, Ap, Aq, Ar, As, At, Au, Av, Aw, Ax, Ay, Az, AA⟩ := zG Ab
  have S2 := zK B1.size
  have AB := yC Aa
  have AC := yC Ab
  have Af := heap_alloc_last w1 (Obj.cells (pt c 0 0 0) 54)
  have B2 := zX B1 (yB w1 (Obj.cells (pt c 0 0 0) 54))
  obtain ⟨Ag, Ah⟩ := z6 (yB w1 (Obj.cells (pt c 0 0 0) 54)) Aa Ab
  clear B1 Aa Al Am Ab An Ao Ap Aq Ar As At Au Av Aw Ax Ay Az AA
  obtain ⟨AD, AE⟩ := zO Ag
  obtain ⟨AF, AG, AH, AI, AJ, AK, AL, AM, AN, AO, AP, AQ, AR, AS⟩ := zG Ah
  obtain ⟨AT, AU, AV, AW, AX, AY, AZ, A0, A1, A2, A3, A4, A5, A6⟩ := zG Af
  go_wp2_with fail
  refine (KF.out _).mono ?_
  rintro r w3 ⟨rfl, b3⟩
  have B3 : Below w.heap.size w w3 := zX B2 b3
  obtain ⟨Ac, Ad, Ae⟩ := yI b3 Ag Ah Af
  clear b3 B2 Ag AD AE Ah AF AG AH AI AJ AK AL AM AN AO AP AQ AR AS Af AT AU AV AW AX AY AZ A0 A1 A2 A3 A4 A5 A6
  obtain ⟨A7, A8⟩ := zO Ac
  obtain ⟨A9, Ba, Bb, Bc, Bd, Be, Bf, Bg, Bh, Bi, Bj, Bk, Bl, Bm⟩ := zG Ad
  obtain ⟨Bn, Bo, Bp, Bq, Br, Bs, Bt, Bu, Bv, Bw, Bx, By, Bz, BA⟩ := zG Ae
  have S4 := zK B3.size
  have BB := yC Ac
  have BC := yC Ad
  have BD := yC Ae
  have BE := heap_alloc_last w3 (Obj.cells (cw 6 t) 52)
  have B4 := zX B3 (yB w3 (Obj.cells (cw 6 t) 52))
  obtain ⟨BF, Ai, BG⟩ := yI (yB w3 (Obj.cells (cw 6 t) 52)) Ac Ad Ae
  clear B3 Ac A7 A8 Ad A9 Ba Bb Bc Bd Be Bf Bg Bh Bi Bj Bk Bl Bm Ae Bn Bo Bp Bq Br Bs Bt Bu Bv Bw Bx By Bz BA
  obtain ⟨BH, BI⟩ := zO BF
  obtain ⟨BJ, BK, BL, BM, BN, BO, BP, BQ, BR, BS, BT, BU, BV, BW⟩ := zG Ai
  obtain ⟨BX, BY, BZ, B5, B6, B7, B8, B9, Ca, Cb, Cc, Cd, Ce, Cf⟩ := zG BG
  have Cg := zF BE
  go_wp2_with fail
  refine (KP.out _).mono ?_
  rintro r w' ⟨rfl, hw'⟩
  obtain rfl := hw'.symm
  have hstz := st_p (w3.alloc (Obj.cells (cw 6 t) 52)) (w.heap.size + 1) c 0 0 0 0 0 0 0 Ai
  have RZ := zU (c' := pt c 0 0 0) Ai
  obtain ⟨dz0, dz1, dz2, dz3, dz4, dz5, dz6, dz7, dz8, dz9, dz10, dz11, dz12, dz13⟩ := zG RZ
  have bz := z9 (c := pt c 0 0 0) B4 (show w.heap.size ≤ w.heap.size + 1 by first | exact Nat.le_refl _ | omega | (have := S2.out; have := AB.out; have := AC.out; have := S4.out; have := BB.out; have := BC.out; have := BD.out; omega))
  go_wp2
  exact bodyPost_ret (v := .agg (pt c 0 0 0)) (by simp [results, Tryz.results98, go_sem, dz0, dz1, dz2, dz3, dz4, dz5, dz6, dz7, dz8, dz9, dz10, dz11, dz12, dz13, ptf] <;> rfl) rfl ⟨rfl, bz⟩
theorem rparts_sub (f q : Int) (x y c e t : Nat) (neg : Bool) (m X : Int) (w : World)
  (KC : zR (∀ w, Calls Tryz.prog 67 #[.int .u8 f, .agg #[.int .u64 x, .int .u64 y]] w fun r w' => r = .returned (.int .u8 c) ∧ Below w.heap.size w w'))
  (KF : zR (∀ w, Calls Tryz.prog 92 #[.int .u8 f, .agg #[.int .u64 x, .int .u64 y]] w fun r w' => r = .returned (.tuple #[.bool neg, .int .i64 (e : Nat), .agg (cw 6 t)]) ∧ Below w.heap.size w w'))
  (KP : zR (∀ w, Calls Tryz.prog 95 #[.int .u8 f] w fun r w' => r = .returned (.int .i64 q) ∧ w' = w))
  (KE : zR (∀ w, Calls Tryz.prog 150 #[.int .u8 f] w fun r w' => r = .returned (.int .i64 m) ∧ Below w.heap.size w w'))
  (h1 : IntKind.i64.wrap (m - q) = m - q) (h2 : IntKind.i64.wrap (m - q + 1) = X)
  (hc : c = 2 ∨ c = 5) : Calls Tryz.prog 98 #[.int .u8 f, .agg #[.int .u64 x, .int .u64 y]] w fun r w' => r = .returned (.agg (pt c t X 0)) ∧ Below w.heap.size w w' := by
 have hat := yD 6
 have hz := yZ
 have hff := yY
 have hs0 := q8
 have hcs : ∀ x, ((cw 6 x).size = 6) = True := fun x => eq_true (z7 6 x)
 have hp1 := ptf
 have hp2 := ptc
 have hp3 := ptz
 have hp4 := st_p0
 have hp6 := pt_set
 have hp7 := pt_setl
 have hp5 : ∀ (c s : Nat) (x : Int) (r : Nat), ((pt c s x r).size = 14) = True := fun _ _ _ _ => eq_true rfl
 have ha0 := pt_at0
 have ha1 := pt_at1
 have ha2 := pt_at2
 have ha3 := pt_at3
 have ha4 := pt_at4
 have ha5 := pt_at5
 have ha6 := pt_at6
 have ha7 := pt_at7
 have ha8 := pt_at8
 have ha9 := pt_at9
 have ha10 := pt_at10
 have ha11 := pt_at11
 have ha12 := pt_at12
 have ha13 := pt_at13
 rcases hc with hc | hc
 ·
  have f8 : ((c : Int) == 8) = false := by rw [hc]; rfl
  have f9 : ((c : Int) == 9) = false := by rw [hc]; rfl
  have f2 : ((c : Int) == 2) = true := by rw [hc]; rfl
  clear hc
  obtain ⟨Au, Av, B0⟩ := x5 w (Obj.cells #[.int .u64 x, .int .u64 y] 26) (Obj.cells (pt 0 0 0 0) 54)
  go_enter Tryz.func98, Tryz.ntmps98
  go_wp2_with fail
  refine (KC.out _).mono ?_
  rintro r w1 ⟨rfl, b1⟩
  have B1 : Below w.heap.size w w1 := zX B0 b1
  obtain ⟨Af, Ag⟩ := z6 b1 Au Av
  clear b1 B0 Au Av
  obtain ⟨AC, AD⟩ := zO Af
  obtain ⟨AE, AF, AG, AH, AI, AJ, AK, AL, AM, AN, AO, AP, AQ, AR⟩ := zG Ag
  have S2 := zK B1.size
  have Aa := yC Af
  have Ab := yC Ag
  have Ao := heap_alloc_last w1 (Obj.cells (pt c 0 0 0) 54)
  have B2 := zX B1 (yB w1 (Obj.cells (pt c 0 0 0) 54))
  obtain ⟨Ap, Aq⟩ := z6 (yB w1 (Obj.cells (pt c 0 0 0) 54)) Af Ag
  clear B1 Af AC AD Ag AE AF AG AH AI AJ AK AL AM AN AO AP AQ AR
  obtain ⟨AS, AT⟩ := zO Ap
  obtain ⟨AU, AV, AW, AX, AY, AZ, A0, A1, A2, A3, A4, A5, A6, A7⟩ := zG Aq
  obtain ⟨A8, A9, Ba, Bb, Bc, Bd, Be, Bf, Bg, Bh, Bi, Bj, Bk, Bl⟩ := zG Ao
  go_wp2_with fail
  refine (KF.out _).mono ?_
  rintro r w3 ⟨rfl, b3⟩
  have B3 : Below w.heap.size w w3 := zX B2 b3
  obtain ⟨Ah, Ai, Aj⟩ := yI b3 Ap Aq Ao
  clear b3 B2 Ap AS AT Aq AU AV AW AX AY AZ A0 A1 A2 A3 A4 A5 A6 A7 Ao A8 A9 Ba Bb Bc Bd Be Bf Bg Bh Bi Bj Bk Bl
  obtain ⟨Bm, Bn⟩ := zO Ah
  obtain ⟨Bo, Bp, Bq, Br, Bs, Bt, Bu, Bv, Bw, Bx, By, Bz, BA, BB⟩ := zG Ai
  obtain ⟨BC, BD, BE, BF, BG, BH, BI, BJ, BK, BL, BM, BN, BO, BP⟩ := zG Aj
  have S4 := zK B3.size
  have Ac := yC Ah
  have Ad := yC Ai
  have Ae := yC Aj
  have Aw := heap_alloc_last w3 (Obj.cells (cw 6 t) 52)
  have B4 := zX B3 (yB w3 (Obj.cells (cw 6 t) 52))
  obtain ⟨Ax, Ay, Ar⟩ := yI (yB w3 (Obj.cells (cw 6 t) 52)) Ah Ai Aj
  clear B3 Ah Bm Bn Ai Bo Bp Bq Br Bs Bt Bu Bv Bw Bx By Bz BA BB Aj BC BD BE BF BG BH BI BJ BK BL BM BN BO BP
  obtain ⟨Cy, Cz⟩ := zO Ax
  obtain ⟨CA, CB, CC, CD, CE, CF, CG, CH, CI, CJ, CK, CL, CM, CN⟩ := zG Ay
  obtain ⟨CO, CP, CQ, CR, CS, CT, CU, CV, CW, CX, CY, CZ, C0, C1⟩ := zG Ar
  have C2 := zF Aw
  go_wp2_with fail
  refine (KP.out _).mono ?_
  rintro r w' ⟨rfl, hw'⟩
  obtain rfl := hw'.symm
  have BQ := st_p1 (w3.alloc (Obj.cells (cw 6 t) 52)) (w1.heap.size) c 0 0 0 t Ar
  have B5 := z9 (c := (pt c t 0 0)) B4 (show w.heap.size ≤ w1.heap.size by first | exact Nat.le_refl _ | omega | (have := S2.out; have := Aa.out; have := Ab.out; have := S4.out; have := Ac.out; have := Ad.out; have := Ae.out; omega))
  have Ak := zU (c' := (pt c t 0 0)) Ar
  have Al : ((w3.alloc (Obj.cells (cw 6 t) 52)).setRow (w1.heap.size) (pt c t 0 0)).heap[w.heap.size]? = some (.cells #[.int .u64 x, .int .u64 y] 26) := by rw [zI (by first | omega | (have := S2.out; have := Aa.out; have := Ab.out; have := S4.out; have := Ac.out; have := Ad.out; have := Ae.out; omega))]; exact Ax
  have Am : ((w3.alloc (Obj.cells (cw 6 t) 52)).setRow (w1.heap.size) (pt c t 0 0)).heap[w.heap.size + 1]? = some (.cells (pt 0 0 0 0) 54) := by rw [zI (by first | omega | (have := S2.out; have := Aa.out; have := Ab.out; have := S4.out; have := Ac.out; have := Ad.out; have := Ae.out; omega))]; exact Ay
  have An : ((w3.alloc (Obj.cells (cw 6 t) 52)).setRow (w1.heap.size) (pt c t 0 0)).heap[w3.heap.size]? = some (.cells (cw 6 t) 52) := by rw [zI (by first | omega | (have := S2.out; have := Aa.out; have := Ab.out; have := S4.out; have := Ac.out; have := Ad.out; have := Ae.out; omega))]; exact Aw
  obtain ⟨w5, BR⟩ : ∃ V, (w3.alloc (Obj.cells (cw 6 t) 52)).setRow (w1.heap.size) (pt c t 0 0) = V := ⟨_, rfl⟩
  rw [BR] at BQ B5 Al Am Ak An
  obtain ⟨BS, BT⟩ := zO Al
  obtain ⟨BU, BV, BW, BX, BY, BZ, B8, B9, Ca, Cb, Cc, Cd, Ce, Cf⟩ := zG Am
  obtain ⟨Cg, Ch, Ci, Cj, Ck, Cl, Cm, Cn, Co, Cp, Cq, Cr, Cs, Ct⟩ := zG Ak
  have Cu := zF An
  go_wp2_with fail
  refine (KE.out _).mono ?_
  rintro r w6 ⟨rfl, b6⟩
  have B6 : Below w.heap.size w w6 := zX B5 b6
  obtain ⟨Az, AA, As, AB⟩ := rws4 b6 Al Am Ak An
  clear b6 B5 Al BS BT Am BU BV BW BX BY BZ B8 B9 Ca Cb Cc Cd Ce Cf Ak Cg Ch Ci Cj Ck Cl Cm Cn Co Cp Cq Cr Cs Ct An Cu
  obtain ⟨C3, C4⟩ := zO Az
  obtain ⟨C5, C6, C7, C8, C9, Da, Db, Dc, Dd, De, Df, Dg, Dh, Di⟩ := zG AA
  obtain ⟨Dj, Dk, Dl, Dm, Dn, Do, Dp, Dq, Dr, Ds, Dt, Du, Dv, Dw⟩ := zG As
  have Dx := zF AB
  have qp_6 := fz (k := 7) As
  have B7 : Below w.heap.size w (w6.setCell ⟨w1.heap.size, 7, none⟩ (.int .i64 X)) := B6.setCell (by first | exact Nat.le_refl _ | (have := S2.out; have := Aa.out; have := Ab.out; have := S4.out; have := Ac.out; have := Ad.out; have := Ae.out; show w.heap.size ≤ w1.heap.size; omega)) _
  have Cv : (w6.setCell ⟨w1.heap.size, 7, none⟩ (.int .i64 X)).heap[w1.heap.size]? = some (.cells (pt c t X 0) 54) := by rw [zY As]; rfl
  have Cw : (w6.setCell ⟨w1.heap.size, 7, none⟩ (.int .i64 X)).heap[w.heap.size]? = some (.cells #[.int .u64 x, .int .u64 y] 26) := by rw [zH (by first | omega | (have := S2.out; have := Aa.out; have := Ab.out; have := S4.out; have := Ac.out; have := Ad.out; have := Ae.out; omega))]; exact Az
  have At : (w6.setCell ⟨w1.heap.size, 7, none⟩ (.int .i64 X)).heap[w.heap.size + 1]? = some (.cells (pt 0 0 0 0) 54) := by rw [zH (by first | omega | (have := S2.out; have := Aa.out; have := Ab.out; have := S4.out; have := Ac.out; have := Ad.out; have := Ae.out; omega))]; exact AA
  have Cx : (w6.setCell ⟨w1.heap.size, 7, none⟩ (.int .i64 X)).heap[w3.heap.size]? = some (.cells (cw 6 t) 52) := by rw [zH (by first | omega | (have := S2.out; have := Aa.out; have := Ab.out; have := S4.out; have := Ac.out; have := Ad.out; have := Ae.out; omega))]; exact AB
  obtain ⟨Dy, Dz⟩ := zO Cw
  obtain ⟨DA, DB, DC, DD, DE, DF, DG, DH, DI, DJ, DK, DL, DM, DN⟩ := zG At
  obtain ⟨DO, DP, DQ, DR, DS, DT, DU, DV, DW, DX, DY, DZ, D0, D1⟩ := zG Cv
  have D2 := zF Cx
  have hstz := st_p (w6.setCell ⟨w1.heap.size, 7, none⟩ (.int .i64 X)) (w.heap.size + 1) c t X 0 0 0 0 0 At
  have RZ := zU (c' := pt c t X 0) At
  obtain ⟨dz0, dz1, dz2, dz3, dz4, dz5, dz6, dz7, dz8, dz9, dz10, dz11, dz12, dz13⟩ := zG RZ
  have bz := z9 (c := pt c t X 0) B7 (show w.heap.size ≤ w.heap.size + 1 by first | exact Nat.le_refl _ | omega | (have := S2.out; have := Aa.out; have := Ab.out; have := S4.out; have := Ac.out; have := Ad.out; have := Ae.out; omega))
  go_wp2
  exact bodyPost_ret (v := .agg (pt c t X 0)) (by simp [results, Tryz.results98, go_sem, dz0, dz1, dz2, dz3, dz4, dz5, dz6, dz7, dz8, dz9, dz10, dz11, dz12, dz13, ptf] <;> rfl) rfl ⟨rfl, bz⟩
 ·
  have f8 : ((c : Int) == 8) = false := by rw [hc]; rfl
  have f9 : ((c : Int) == 9) = false := by rw [hc]; rfl
  have f2 : ((c : Int) == 2) = false := by rw [hc]; rfl
  have f5 : ((c : Int) == 5) = true := by rw [hc]; rfl
  clear hc
  obtain ⟨Au, Av, B0⟩ := x5 w (Obj.cells #[.int .u64 x, .int .u64 y] 26) (Obj.cells (pt 0 0 0 0) 54)
  go_enter Tryz.func98, Tryz.ntmps98
  go_wp2_with fail
  refine (KC.out _).mono ?_
  rintro r w1 ⟨rfl, b1⟩
  have B1 : Below w.heap.size w w1 := zX B0 b1
  obtain ⟨Af, Ag⟩ := z6 b1 Au Av
  clear b1 B0 Au Av
  obtain ⟨AC, AD⟩ := zO Af
  obtain ⟨AE, AF, AG, AH, AI, AJ, AK, AL, AM, AN, AO, AP, AQ, AR⟩ := zG Ag
  have S2 := zK B1.size
  have Aa := yC Af
  have Ab := yC Ag
  have Ao := heap_alloc_last w1 (Obj.cells (pt c 0 0 0) 54)
  have B2 := zX B1 (yB w1 (Obj.cells (pt c 0 0 0) 54))
  obtain ⟨Ap, Aq⟩ := z6 (yB w1 (Obj.cells (pt c 0 0 0) 54)) Af Ag
  clear B1 Af AC AD Ag AE AF AG AH AI AJ AK AL AM AN AO AP AQ AR
  obtain ⟨AS, AT⟩ := zO Ap
  obtain ⟨AU, AV, AW, AX, AY, AZ, A0, A1, A2, A3, A4, A5, A6, A7⟩ := zG Aq
  obtain ⟨A8, A9, Ba, Bb, Bc, Bd, Be, Bf, Bg, Bh, Bi, Bj, Bk, Bl⟩ := zG Ao
  go_wp2_with fail
  refine (KF.out _).mono ?_
  rintro r w3 ⟨rfl, b3⟩
  have B3 : Below w.heap.size w w3 := zX B2 b3
  obtain ⟨Ah, Ai, Aj⟩ := yI b3 Ap Aq Ao
  clear b3 B2 Ap AS AT Aq AU AV AW AX AY AZ A0 A1 A2 A3 A4 A5 A6 A7 Ao A8 A9 Ba Bb Bc Bd Be Bf Bg Bh Bi Bj Bk Bl
  obtain ⟨Bm, Bn⟩ := zO Ah
  obtain ⟨Bo, Bp, Bq, Br, Bs, Bt, Bu, Bv, Bw, Bx, By, Bz, BA, BB⟩ := zG Ai
  obtain ⟨BC, BD, BE, BF, BG, BH, BI, BJ, BK, BL, BM, BN, BO, BP⟩ := zG Aj
  have S4 := zK B3.size
  have Ac := yC Ah
  have Ad := yC Ai
  have Ae := yC Aj
  have Aw := heap_alloc_last w3 (Obj.cells (cw 6 t) 52)
  have B4 := zX B3 (yB w3 (Obj.cells (cw 6 t) 52))
  obtain ⟨Ax, Ay, Ar⟩ := yI (yB w3 (Obj.cells (cw 6 t) 52)) Ah Ai Aj
  clear B3 Ah Bm Bn Ai Bo Bp Bq Br Bs Bt Bu Bv Bw Bx By Bz BA BB Aj BC BD BE BF BG BH BI BJ BK BL BM BN BO BP
  obtain ⟨Cy, Cz⟩ := zO Ax
  obtain ⟨CA, CB, CC, CD, CE, CF, CG, CH, CI, CJ, CK, CL, CM, CN⟩ := zG Ay
  obtain ⟨CO, CP, CQ, CR, CS, CT, CU, CV, CW, CX, CY, CZ, C0, C1⟩ := zG Ar
  have C2 := zF Aw
  go_wp2_with fail
  refine (KP.out _).mono ?_
  rintro r w' ⟨rfl, hw'⟩
  obtain rfl := hw'.symm
  have BQ := st_p1 (w3.alloc (Obj.cells (cw 6 t) 52)) (w1.heap.size) c 0 0 0 t Ar
  have B5 := z9 (c := (pt c t 0 0)) B4 (show w.heap.size ≤ w1.heap.size by first | exact Nat.le_refl _ | omega | (have := S2.out; have := Aa.out; have := Ab.out; have := S4.out; have := Ac.out; have := Ad.out; have := Ae.out; omega))
  have Ak := zU (c' := (pt c t 0 0)) Ar
  have Al : ((w3.alloc (Obj.cells (cw 6 t) 52)).setRow (w1.heap.size) (pt c t 0 0)).heap[w.heap.size]? = some (.cells #[.int .u64 x, .int .u64 y] 26) := by rw [zI (by first | omega | (have := S2.out; have := Aa.out; have := Ab.out; have := S4.out; have := Ac.out; have := Ad.out; have := Ae.out; omega))]; exact Ax
  have Am : ((w3.alloc (Obj.cells (cw 6 t) 52)).setRow (w1.heap.size) (pt c t 0 0)).heap[w.heap.size + 1]? = some (.cells (pt 0 0 0 0) 54) := by rw [zI (by first | omega | (have := S2.out; have := Aa.out; have := Ab.out; have := S4.out; have := Ac.out; have := Ad.out; have := Ae.out; omega))]; exact Ay
  have An : ((w3.alloc (Obj.cells (cw 6 t) 52)).setRow (w1.heap.size) (pt c t 0 0)).heap[w3.heap.size]? = some (.cells (cw 6 t) 52) := by rw [zI (by first | omega | (have := S2.out; have := Aa.out; have := Ab.out; have := S4.out; have := Ac.out; have := Ad.out; have := Ae.out; omega))]; exact Aw
  obtain ⟨w5, BR⟩ : ∃ V, (w3.alloc (Obj.cells (cw 6 t) 52)).setRow (w1.heap.size) (pt c t 0 0) = V := ⟨_, rfl⟩
  rw [BR] at BQ B5 Al Am Ak An
  obtain ⟨BS, BT⟩ := zO Al
  obtain ⟨BU, BV, BW, BX, BY, BZ, B8, B9, Ca, Cb, Cc, Cd, Ce, Cf⟩ := zG Am
  obtain ⟨Cg, Ch, Ci, Cj, Ck, Cl, Cm, Cn, Co, Cp, Cq, Cr, Cs, Ct⟩ := zG Ak
  have Cu := zF An
  go_wp2_with fail
  refine (KE.out _).mono ?_
  rintro r w6 ⟨rfl, b6⟩
  have B6 : Below w.heap.size w w6 := zX B5 b6
  obtain ⟨Az, AA, As, AB⟩ := rws4 b6 Al Am Ak An
  clear b6 B5 Al BS BT Am BU BV BW BX BY BZ B8 B9 Ca Cb Cc Cd Ce Cf Ak Cg Ch Ci Cj Ck Cl Cm Cn Co Cp Cq Cr Cs Ct An Cu
  obtain ⟨C3, C4⟩ := zO Az
  obtain ⟨C5, C6, C7, C8, C9, Da, Db, Dc, Dd, De, Df, Dg, Dh, Di⟩ := zG AA
  obtain ⟨Dj, Dk, Dl, Dm, Dn, Do, Dp, Dq, Dr, Ds, Dt, Du, Dv, Dw⟩ := zG As
  have Dx := zF AB
  have qp_6 := fz (k := 7) As
  have B7 : Below w.heap.size w (w6.setCell ⟨w1.heap.size, 7, none⟩ (.int .i64 X)) := B6.setCell (by first | exact Nat.le_refl _ | (have := S2.out; have := Aa.out; have := Ab.out; have := S4.out; have := Ac.out; have := Ad.out; have := Ae.out; show w.heap.size ≤ w1.heap.size; omega)) _
  have Cv : (w6.setCell ⟨w1.heap.size, 7, none⟩ (.int .i64 X)).heap[w1.heap.size]? = some (.cells (pt c t X 0) 54) := by rw [zY As]; rfl
  have Cw : (w6.setCell ⟨w1.heap.size, 7, none⟩ (.int .i64 X)).heap[w.heap.size]? = some (.cells #[.int .u64 x, .int .u64 y] 26) := by rw [zH (by first | omega | (have := S2.out; have := Aa.out; have := Ab.out; have := S4.out; have := Ac.out; have := Ad.out; have := Ae.out; omega))]; exact Az
  have At : (w6.setCell ⟨w1.heap.size, 7, none⟩ (.int .i64 X)).heap[w.heap.size + 1]? = some (.cells (pt 0 0 0 0) 54) := by rw [zH (by first | omega | (have := S2.out; have := Aa.out; have := Ab.out; have := S4.out; have := Ac.out; have := Ad.out; have := Ae.out; omega))]; exact AA
  have Cx : (w6.setCell ⟨w1.heap.size, 7, none⟩ (.int .i64 X)).heap[w3.heap.size]? = some (.cells (cw 6 t) 52) := by rw [zH (by first | omega | (have := S2.out; have := Aa.out; have := Ab.out; have := S4.out; have := Ac.out; have := Ad.out; have := Ae.out; omega))]; exact AB
  obtain ⟨Dy, Dz⟩ := zO Cw
  obtain ⟨DA, DB, DC, DD, DE, DF, DG, DH, DI, DJ, DK, DL, DM, DN⟩ := zG At
  obtain ⟨DO, DP, DQ, DR, DS, DT, DU, DV, DW, DX, DY, DZ, D0, D1⟩ := zG Cv
  have D2 := zF Cx
  have hstz := st_p (w6.setCell ⟨w1.heap.size, 7, none⟩ (.int .i64 X)) (w.heap.size + 1) c t X 0 0 0 0 0 At
  have RZ := zU (c' := pt c t X 0) At
  obtain ⟨dz0, dz1, dz2, dz3, dz4, dz5, dz6, dz7, dz8, dz9, dz10, dz11, dz12, dz13⟩ := zG RZ
  have bz := z9 (c := pt c t X 0) B7 (show w.heap.size ≤ w.heap.size + 1 by first | exact Nat.le_refl _ | omega | (have := S2.out; have := Aa.out; have := Ab.out; have := S4.out; have := Ac.out; have := Ad.out; have := Ae.out; omega))
  go_wp2
  exact bodyPost_ret (v := .agg (pt c t X 0)) (by simp [results, Tryz.results98, go_sem, dz0, dz1, dz2, dz3, dz4, dz5, dz6, dz7, dz8, dz9, dz10, dz11, dz12, dz13, ptf] <;> rfl) rfl ⟨rfl, bz⟩
theorem rparts_norm (f q : Int) (x y c e t : Nat) (neg : Bool) (m X : Int) (k P S : Nat) (w : World)
  (KC : zR (∀ w, Calls Tryz.prog 67 #[.int .u8 f, .agg #[.int .u64 x, .int .u64 y]] w fun r w' => r = .returned (.int .u8 c) ∧ Below w.heap.size w w'))
  (KF : zR (∀ w, Calls Tryz.prog 92 #[.int .u8 f, .agg #[.int .u64 x, .int .u64 y]] w fun r w' => r = .returned (.tuple #[.bool neg, .int .i64 (e : Nat), .agg (cw 6 t)]) ∧ Below w.heap.size w w'))
  (KP : zR (∀ w, Calls Tryz.prog 95 #[.int .u8 f] w fun r w' => r = .returned (.int .i64 q) ∧ w' = w))
  (K1 : zR (∀ w, Calls Tryz.prog 94 #[.int .u64 1] w fun r w' => r = .returned (.agg (cw 6 1)) ∧ Below w.heap.size w w'))
  (KW : zR (∀ w, Calls Tryz.prog 93 #[.agg (cw 6 1), .int .i64 (k : Nat)] w fun r w' => r = .returned (.tuple #[.agg (cw 6 P), .bool false]) ∧ Below w.heap.size w w'))
  (KR : zR (∀ w, Calls Tryz.prog 147 #[.agg (cw 6 P), .agg (cw 6 t)] w fun r w' => r = .returned (.tuple #[.agg (cw 6 S), .bool false]) ∧ Below w.heap.size w w'))
  (KE : zR (∀ w, Calls Tryz.prog 149 #[.int .u8 f] w fun r w' => r = .returned (.int .i64 m) ∧ Below w.heap.size w w'))
  (h0 : IntKind.i64.wrap (q - 1) = (k : Int)) (h1 : IntKind.i64.wrap ((e : Int) - m) = (e : Int) - m) (h2 : IntKind.i64.wrap ((e : Int) - m - q) = (e : Int) - m - q) (h3 : IntKind.i64.wrap ((e : Int) - m - q + 1) = X)
  (hc : c = 1 ∨ c = 6) : Calls Tryz.prog 98 #[.int .u8 f, .agg #[.int .u64 x, .int .u64 y]] w fun r w' => r = .returned (.agg (pt c S X 0)) ∧ Below w.heap.size w w' := by
 have hat := yD 6
 have hz := yZ
 have hff := yY
 have hs0 := q8
 have hcs : ∀ x, ((cw 6 x).size = 6) = True := fun x => eq_true (z7 6 x)
 have hp1 := ptf
 have hp2 := ptc
 have hp3 := ptz
 have hp4 := st_p0
 have hp6 := pt_set
 have hp7 := pt_setl
 have hp5 : ∀ (c s : Nat) (x : Int) (r : Nat), ((pt c s x r).size = 14) = True := fun _ _ _ _ => eq_true rfl
 have ha0 := pt_at0
 have ha1 := pt_at1
 have ha2 := pt_at2
 have ha3 := pt_at3
 have ha4 := pt_at4
 have ha5 := pt_at5
 have ha6 := pt_at6
 have ha7 := pt_at7
 have ha8 := pt_at8
 have ha9 := pt_at9
 have ha10 := pt_at10
 have ha11 := pt_at11
 have ha12 := pt_at12
 have ha13 := pt_at13
 rcases hc with hc | hc
 ·
  have f8 : ((c : Int) == 8) = false := by rw [hc]; rfl
  have f9 : ((c : Int) == 9) = false := by rw [hc]; rfl
  have f2 : ((c : Int) == 2) = false := by rw [hc]; rfl
  have f5 : ((c : Int) == 5) = false := by rw [hc]; rfl
  have f1 : ((c : Int) == 1) = true := by rw [hc]; rfl
  clear hc
  obtain ⟨AQ, AR, B0⟩ := x5 w (Obj.cells #[.int .u64 x, .int .u64 y] 26) (Obj.cells (pt 0 0 0 0) 54)
  go_enter Tryz.func98, Tryz.ntmps98
  go_wp2_with fail
  refine (KC.out _).mono ?_
  rintro r w1 ⟨rfl, b1⟩
  have B1 : Below w.heap.size w w1 := zX B0 b1
  obtain ⟨Aj, Ak⟩ := z6 b1 AQ AR
  clear b1 B0 AQ AR
  obtain ⟨A0, A1⟩ := zO Aj
  obtain ⟨A2, A3, A4, A5, A6, A7, A8, A9, Ba, Bb, Bc, Bd, Be, Bf⟩ := zG Ak
  have S2 := zK B1.size
  have Aa := yC Aj
  have Ab := yC Ak
  have Ax := heap_alloc_last w1 (Obj.cells (pt c 0 0 0) 54)
  have B2 := zX B1 (yB w1 (Obj.cells (pt c 0 0 0) 54))
  obtain ⟨Ay, Az⟩ := z6 (yB w1 (Obj.cells (pt c 0 0 0) 54)) Aj Ak
  clear B1 Aj A0 A1 Ak A2 A3 A4 A5 A6 A7 A8 A9 Ba Bb Bc Bd Be Bf
  obtain ⟨Bg, Bh⟩ := zO Ay
  obtain ⟨Bi, Bj, Bk, Bl, Bm, Bn, Bo, Bp, Bq, Br, Bs, Bt, Bu, Bv⟩ := zG Az
  obtain ⟨Bw, Bx, By, Bz, BA, BB, BC, BD, BE, BF, BG, BH, BI, BJ⟩ := zG Ax
  go_wp2_with fail
  refine (KF.out _).mono ?_
  rintro r w3 ⟨rfl, b3⟩
  have B3 : Below w.heap.size w w3 := zX B2 b3
  obtain ⟨Al, Am, An⟩ := yI b3 Ay Az Ax
  clear b3 B2 Ay Bg Bh Az Bi Bj Bk Bl Bm Bn Bo Bp Bq Br Bs Bt Bu Bv Ax Bw Bx By Bz BA BB BC BD BE BF BG BH BI BJ
  obtain ⟨BK, BL⟩ := zO Al
  obtain ⟨BM, BN, BO, BP, BQ, BR, BS, BT, BU, BV, BW, BX, BY, BZ⟩ := zG Am
  obtain ⟨Ca, Cb, Cc, Cd, Ce, Cf, Cg, Ch, Ci, Cj, Ck, Cl, Cm, Cn⟩ := zG An
  have S4 := zK B3.size
  have Ac := yC Al
  have Ad := yC Am
  have Ae := yC An
  have AA := heap_alloc_last w3 (Obj.cells (cw 6 t) 52)
  have B4 := zX B3 (yB w3 (Obj.cells (cw 6 t) 52))
  obtain ⟨AB, AC, AD⟩ := yI (yB w3 (Obj.cells (cw 6 t) 52)) Al Am An
  clear B3 Al BK BL Am BM BN BO BP BQ BR BS BT BU BV BW BX BY BZ An Ca Cb Cc Cd Ce Cf Cg Ch Ci Cj Ck Cl Cm Cn
  obtain ⟨Co, Cp⟩ := zO AB
  obtain ⟨Cq, Cr, Cs, Ct, Cu, Cv, Cw, Cx, Cy, Cz, CA, CB, CC, CD⟩ := zG AC
  obtain ⟨CE, CF, CG, CH, CI, CJ, CK, CL, CM, CN, CO, CP, CQ, CR⟩ := zG AD
  have CS := zF AA
  go_wp2_with fail
  refine (KP.out _).mono ?_
  rintro r w' ⟨rfl, hw'⟩
  obtain rfl := hw'.symm
  go_wp2_with fail
  refine (K1.out _).mono ?_
  rintro r w5 ⟨rfl, b5⟩
  have B5 : Below w.heap.size w w5 := zX B4 b5
  obtain ⟨AE, AF, AG, AH⟩ := rws4 b5 AB AC AD AA
  clear b5 B4 AB Co Cp AC Cq Cr Cs Ct Cu Cv Cw Cx Cy Cz CA CB CC CD AD CE CF CG CH CI CJ CK CL CM CN CO CP CQ CR AA CS
  obtain ⟨CT, CU⟩ := zO AE
  obtain ⟨CV, CW, CX, CY, CZ, C0, C1, C2, C3, C4, C5, C6, C7, C8⟩ := zG AF
  obtain ⟨C9, Da, Db, Dc, Dd, De, Df, Dg, Dh, Di, Dj, Dk, Dl, Dm⟩ := zG AG
  have Dn := zF AH
  go_wp2_with fail
  refine (KW.out _).mono ?_
  rintro r w6 ⟨rfl, b6⟩
  have B6 : Below w.heap.size w w6 := zX B5 b6
  obtain ⟨Ao, Ap, Aq, Ar⟩ := rws4 b6 AE AF AG AH
  clear b6 B5 AE CT CU AF CV CW CX CY CZ C0 C1 C2 C3 C4 C5 C6 C7 C8 AG C9 Da Db Dc Dd De Df Dg Dh Di Dj Dk Dl Dm AH Dn
  obtain ⟨Do, Dp⟩ := zO Ao
  obtain ⟨Dq, Dr, Ds, Dt, Du, Dv, Dw, Dx, Dy, Dz, DA, DB, DC, DD⟩ := zG Ap
  obtain ⟨DE, DF, DG, DH, DI, DJ, DK, DL, DM, DN, DO, DP, DQ, DR⟩ := zG Aq
  have DS := zF Ar
  have S7 := zK B6.size
  have Af := yC Ao
  have Ag := yC Ap
  have Ah := yC Aq
  have Ai := yC Ar
  have AI := heap_alloc_last w6 (Obj.cells (cw 6 P) 52)
  have B7 := zX B6 (yB w6 (Obj.cells (cw 6 P) 52))
  obtain ⟨AJ, AK, AL, AM⟩ := rws4 (yB w6 (Obj.cells (cw 6 P) 52)) Ao Ap Aq Ar
  clear B6 Ao Do Dp Ap Dq Dr Ds Dt Du Dv Dw Dx Dy Dz DA DB DC DD Aq DE DF DG DH DI DJ DK DL DM DN DO DP DQ DR Ar DS
  obtain ⟨DT, DU⟩ := zO AJ
  obtain ⟨DV, DW, DX, DY, DZ, D0, D1, D2, D3, D4, D5, D6, D7, D8⟩ := zG AK
  obtain ⟨D9, Ea, Eb, Ec, Ed, Ee, Ef, Eg, Eh, Ei, Ej, Ek, El, Em⟩ := zG AL
  have En := zF AM
  have Eo := zF AI
  go_wp2_with fail
  refine (KR.out _).mono ?_
  rintro r w8 ⟨rfl, b8⟩
  have B8 : Below w.heap.size w w8 := zX B7 b8
  obtain ⟨AS, AT, AN, AU, AV⟩ := yO b8 AJ AK AL AM AI
  clear b8 B7 AJ DT DU AK DV DW DX DY DZ D0 D1 D2 D3 D4 D5 D6 D7 D8 AL D9 Ea Eb Ec Ed Ee Ef Eg Eh Ei Ej Ek El Em AM En AI Eo
  obtain ⟨E1, E2⟩ := zO AS
  obtain ⟨E3, E4, E5, E6, E7, E8, E9, Fa, Fb, Fc, Fd, Fe, Ff, Fg⟩ := zG AT
  obtain ⟨Fh, Fi, Fj, Fk, Fl, Fm, Fn, Fo, Fp, Fq, Fr, Fs, Ft, Fu⟩ := zG AN
  have Fv := zF AU
  have Fw := zF AV
  have Ep := st_p1 w8 (w1.heap.size) c 0 0 0 S AN
  have B9 := z9 (c := (pt c S 0 0)) B8 (show w.heap.size ≤ w1.heap.size by first | exact Nat.le_refl _ | omega | (have := S2.out; have := Aa.out; have := Ab.out; have := S4.out; have := Ac.out; have := Ad.out; have := Ae.out; have := S7.out; have := Af.out; have := Ag.out; have := Ah.out; have := Ai.out; omega))
  have As := zU (c' := (pt c S 0 0)) AN
  have At : (w8.setRow (w1.heap.size) (pt c S 0 0)).heap[w.heap.size]? = some (.cells #[.int .u64 x, .int .u64 y] 26) := by rw [zI (by first | omega | (have := S2.out; have := Aa.out; have := Ab.out; have := S4.out; have := Ac.out; have := Ad.out; have := Ae.out; have := S7.out; have := Af.out; have := Ag.out; have := Ah.out; have := Ai.out; omega))]; exact AS
  have Au : (w8.setRow (w1.heap.size) (pt c S 0 0)).heap[w.heap.size + 1]? = some (.cells (pt 0 0 0 0) 54) := by rw [zI (by first | omega | (have := S2.out; have := Aa.out; have := Ab.out; have := S4.out; have := Ac.out; have := Ad.out; have := Ae.out; have := S7.out; have := Af.out; have := Ag.out; have := Ah.out; have := Ai.out; omega))]; exact AT
  have Av : (w8.setRow (w1.heap.size) (pt c S 0 0)).heap[w3.heap.size]? = some (.cells (cw 6 t) 52) := by rw [zI (by first | omega | (have := S2.out; have := Aa.out; have := Ab.out; have := S4.out; have := Ac.out; have := Ad.out; have := Ae.out; have := S7.out; have := Af.out; have := Ag.out; have := Ah.out; have := Ai.out; omega))]; exact AU
  have Aw : (w8.setRow (w1.heap.size) (pt c S 0 0)).heap[w6.heap.size]? = some (.cells (cw 6 P) 52) := by rw [zI (by first | omega | (have := S2.out; have := Aa.out; have := Ab.out; have := S4.out; have := Ac.out; have := Ad.out; have := Ae.out; have := S7.out; have := Af.out; have := Ag.out; have := Ah.out; have := Ai.out; omega))]; exact AV
  obtain ⟨w9, Eq⟩ : ∃ V, w8.setRow (w1.heap.size) (pt c S 0 0) = V := ⟨_, rfl⟩
  rw [Eq] at Ep B9 At Au As Av Aw
  obtain ⟨Er, Es⟩ := zO At
  obtain ⟨Et, Eu, Ev, Ew, Ex, Ey, Ez, EA, EB, EC, ED, EE, EF, EG⟩ := zG Au
  obtain ⟨EH, EI, EJ, EK, EL, EM, EN, EO, EP, EQ, ER, ES, ET, EU⟩ := zG As
  have EV := zF Av
  have EW := zF Aw
  go_wp2_with fail
  refine (KE.out _).mono ?_
  rintro r w10 ⟨rfl, b10⟩
  have B10 : Below w.heap.size w w10 := zX B9 b10
  obtain ⟨AW, AX, AO, AY, AZ⟩ := yO b10 At Au As Av Aw
  clear b10 B9 At Er Es Au Et Eu Ev Ew Ex Ey Ez EA EB EC ED EE EF EG As EH EI EJ EK EL EM EN EO EP EQ ER ES ET EU Av EV Aw EW
  obtain ⟨Fx, Fy⟩ := zO AW
  obtain ⟨Fz, FA, FB, FC, FD, FE, FF, FG, FH, FI, FJ, FK, FL, FM⟩ := zG AX
  obtain ⟨FN, FO, FP, FQ, FR, FS, FT, FU, FV, FW, FX, FY, FZ, F0⟩ := zG AO
  have F1 := zF AY
  have F2 := zF AZ
  have qp_10 := fz (k := 7) AO
  have B11 : Below w.heap.size w (w10.setCell ⟨w1.heap.size, 7, none⟩ (.int .i64 X)) := B10.setCell (by first | exact Nat.le_refl _ | (have := S2.out; have := Aa.out; have := Ab.out; have := S4.out; have := Ac.out; have := Ad.out; have := Ae.out; have := S7.out; have := Af.out; have := Ag.out; have := Ah.out; have := Ai.out; show w.heap.size ≤ w1.heap.size; omega)) _
  have EX : (w10.setCell ⟨w1.heap.size, 7, none⟩ (.int .i64 X)).heap[w1.heap.size]? = some (.cells (pt c S X 0) 54) := by rw [zY AO]; rfl
  have EY : (w10.setCell ⟨w1.heap.size, 7, none⟩ (.int .i64 X)).heap[w.heap.size]? = some (.cells #[.int .u64 x, .int .u64 y] 26) := by rw [zH (by first | omega | (have := S2.out; have := Aa.out; have := Ab.out; have := S4.out; have := Ac.out; have := Ad.out; have := Ae.out; have := S7.out; have := Af.out; have := Ag.out; have := Ah.out; have := Ai.out; omega))]; exact AW
  have AP : (w10.setCell ⟨w1.heap.size, 7, none⟩ (.int .i64 X)).heap[w.heap.size + 1]? = some (.cells (pt 0 0 0 0) 54) := by rw [zH (by first | omega | (have := S2.out; have := Aa.out; have := Ab.out; have := S4.out; have := Ac.out; have := Ad.out; have := Ae.out; have := S7.out; have := Af.out; have := Ag.out; have := Ah.out; have := Ai.out; omega))]; exact AX
  have EZ : (w10.setCell ⟨w1.heap.size, 7, none⟩ (.int .i64 X)).heap[w3.heap.size]? = some (.cells (cw 6 t) 52) := by rw [zH (by first | omega | (have := S2.out; have := Aa.out; have := Ab.out; have := S4.out; have := Ac.out; have := Ad.out; have := Ae.out; have := S7.out; have := Af.out; have := Ag.out; have := Ah.out; have := Ai.out; omega))]; exact AY
  have E0 : (w10.setCell ⟨w1.heap.size, 7, none⟩ (.int .i64 X)).heap[w6.heap.size]? = some (.cells (cw 6 P) 52) := by rw [zH (by first | omega | (have := S2.out; have := Aa.out; have := Ab.out; have := S4.out; have := Ac.out; have := Ad.out; have := Ae.out; have := S7.out; have := Af.out; have := Ag.out; have := Ah.out; have := Ai.out; omega))]; exact AZ
  obtain ⟨F3, F4⟩ := zO EY
  obtain ⟨F5, F6, F7, F8, F9, Ga, Gb, Gc, Gd, Ge, Gf, Gg, Gh, Gi⟩ := zG AP
  obtain ⟨Gj, Gk, Gl, Gm, Gn, Gp, Gq, Gr, Gs, Gt, Gu, Gv, Gw, Gx⟩ := zG EX
  have Gy := zF EZ
  have Gz := zF E0
  have hstz := st_p (w10.setCell ⟨w1.heap.size, 7, none⟩ (.int .i64 X)) (w.heap.size + 1) c S X 0 0 0 0 0 AP
  have RZ := zU (c' := pt c S X 0) AP
  obtain ⟨dz0, dz1, dz2, dz3, dz4, dz5, dz6, dz7, dz8, dz9, dz10, dz11, dz12, dz13⟩ := zG RZ
  have bz := z9 (c := pt c S X 0) B11 (show w.heap.size ≤ w.heap.size + 1 by first | exact Nat.le_refl _ | omega | (have := S2.out; have := Aa.out; have := Ab.out; have := S4.out; have := Ac.out; have := Ad.out; have := Ae.out; have := S7.out; have := Af.out; have := Ag.out; have := Ah.out; have := Ai.out; omega))
  go_wp2
  exact bodyPost_ret (v := .agg (pt c S X 0)) (by simp [results, Tryz.results98, go_sem, dz0, dz1, dz2, dz3, dz4, dz5, dz6, dz7, dz8, dz9, dz10, dz11, dz12, dz13, ptf] <;> rfl) rfl ⟨rfl, bz⟩
 ·
  have f8 : ((c : Int) == 8) = false := by rw [hc]; rfl
  have f9 : ((c : Int) == 9) = false := by rw [hc]; rfl
  have f2 : ((c : Int) == 2) = false := by rw [hc]; rfl
  have f5 : ((c : Int) == 5) = false := by rw [hc]; rfl
  have f1 : ((c : Int) == 1) = false := by rw [hc]; rfl
  have f6 : ((c : Int) == 6) = true := by rw [hc]; rfl
  clear hc
  obtain ⟨AQ, AR, B0⟩ := x5 w (Obj.cells #[.int .u64 x, .int .u64 y] 26) (Obj.cells (pt 0 0 0 0) 54)
  go_enter Tryz.func98, Tryz.ntmps98
  go_wp2_with fail
  refine (KC.out _).mono ?_
  rintro r w1 ⟨rfl, b1⟩
  have B1 : Below w.heap.size w w1 := zX B0 b1
  obtain ⟨Aj, Ak⟩ := z6 b1 AQ AR
  clear b1 B0 AQ AR
  obtain ⟨A0, A1⟩ := zO Aj
  obtain ⟨A2, A3, A4, A5, A6, A7, A8, A9, Ba, Bb, Bc, Bd, Be, Bf⟩ := zG Ak
  have S2 := zK B1.size
  have Aa := yC Aj
  have Ab := yC Ak
  have Ax := heap_alloc_last w1 (Obj.cells (pt c 0 0 0) 54)
  have B2 := zX B1 (yB w1 (Obj.cells (pt c 0 0 0) 54))
  obtain ⟨Ay, Az⟩ := z6 (yB w1 (Obj.cells (pt c 0 0 0) 54)) Aj Ak
  clear B1 Aj A0 A1 Ak A2 A3 A4 A5 A6 A7 A8 A9 Ba Bb Bc Bd Be Bf
  obtain ⟨Bg, Bh⟩ := zO Ay
  obtain ⟨Bi, Bj, Bk, Bl, Bm, Bn, Bo, Bp, Bq, Br, Bs, Bt, Bu, Bv⟩ := zG Az
  obtain ⟨Bw, Bx, By, Bz, BA, BB, BC, BD, BE, BF, BG, BH, BI, BJ⟩ := zG Ax
  go_wp2_with fail
  refine (KF.out _).mono ?_
  rintro r w3 ⟨rfl, b3⟩
  have B3 : Below w.heap.size w w3 := zX B2 b3
  obtain ⟨Al, Am, An⟩ := yI b3 Ay Az Ax
  clear b3 B2 Ay Bg Bh Az Bi Bj Bk Bl Bm Bn Bo Bp Bq Br Bs Bt Bu Bv Ax Bw Bx By Bz BA BB BC BD BE BF BG BH BI BJ
  obtain ⟨BK, BL⟩ := zO Al
  obtain ⟨BM, BN, BO, BP, BQ, BR, BS, BT, BU, BV, BW, BX, BY, BZ⟩ := zG Am
  obtain ⟨Ca, Cb, Cc, Cd, Ce, Cf, Cg, Ch, Ci, Cj, Ck, Cl, Cm, Cn⟩ := zG An
  have S4 := zK B3.size
  have Ac := yC Al
  have Ad := yC Am
  have Ae := yC An
  have AA := heap_alloc_last w3 (Obj.cells (cw 6 t) 52)
  have B4 := zX B3 (yB w3 (Obj.cells (cw 6 t) 52))
  obtain ⟨AB, AC, AD⟩ := yI (yB w3 (Obj.cells (cw 6 t) 52)) Al Am An
  clear B3 Al BK BL Am BM BN BO BP BQ BR BS BT BU BV BW BX BY BZ An Ca Cb Cc Cd Ce Cf Cg Ch Ci Cj Ck Cl Cm Cn
  obtain ⟨Co, Cp⟩ := zO AB
  obtain ⟨Cq, Cr, Cs, Ct, Cu, Cv, Cw, Cx, Cy, Cz, CA, CB, CC, CD⟩ := zG AC
  obtain ⟨CE, CF, CG, CH, CI, CJ, CK, CL, CM, CN, CO, CP, CQ, CR⟩ := zG AD
  have CS := zF AA
  go_wp2_with fail
  refine (KP.out _).mono ?_
  rintro r w' ⟨rfl, hw'⟩
  obtain rfl := hw'.symm
  go_wp2_with fail
  refine (K1.out _).mono ?_
  rintro r w5 ⟨rfl, b5⟩
  have B5 : Below w.heap.size w w5 := zX B4 b5
  obtain ⟨AE, AF, AG, AH⟩ := rws4 b5 AB AC AD AA
  clear b5 B4 AB Co Cp AC Cq Cr Cs Ct Cu Cv Cw Cx Cy Cz CA CB CC CD AD CE CF CG CH CI CJ CK CL CM CN CO CP CQ CR AA CS
  obtain ⟨CT, CU⟩ := zO AE
  obtain ⟨CV, CW, CX, CY, CZ, C0, C1, C2, C3, C4, C5, C6, C7, C8⟩ := zG AF
  obtain ⟨C9, Da, Db, Dc, Dd, De, Df, Dg, Dh, Di, Dj, Dk, Dl, Dm⟩ := zG AG
  have Dn := zF AH
  go_wp2_with fail
  refine (KW.out _).mono ?_
  rintro r w6 ⟨rfl, b6⟩
  have B6 : Below w.heap.size w w6 := zX B5 b6
  obtain ⟨Ao, Ap, Aq, Ar⟩ := rws4 b6 AE AF AG AH
  clear b6 B5 AE CT CU AF CV CW CX CY CZ C0 C1 C2 C3 C4 C5 C6 C7 C8 AG C9 Da Db Dc Dd De Df Dg Dh Di Dj Dk Dl Dm AH Dn
  obtain ⟨Do, Dp⟩ := zO Ao
  obtain ⟨Dq, Dr, Ds, Dt, Du, Dv, Dw, Dx, Dy, Dz, DA, DB, DC, DD⟩ := zG Ap
  obtain ⟨DE, DF, DG, DH, DI, DJ, DK, DL, DM, DN, DO, DP, DQ, DR⟩ := zG Aq
  have DS := zF Ar
  have S7 := zK B6.size
  have Af := yC Ao
  have Ag := yC Ap
  have Ah := yC Aq
  have Ai := yC Ar
  have AI := heap_alloc_last w6 (Obj.cells (cw 6 P) 52)
  have B7 := zX B6 (yB w6 (Obj.cells (cw 6 P) 52))
  obtain ⟨AJ, AK, AL, AM⟩ := rws4 (yB w6 (Obj.cells (cw 6 P) 52)) Ao Ap Aq Ar
  clear B6 Ao Do Dp Ap Dq Dr Ds Dt Du Dv Dw Dx Dy Dz DA DB DC DD Aq DE DF DG DH DI DJ DK DL DM DN DO DP DQ DR Ar DS
  obtain ⟨DT, DU⟩ := zO AJ
  obtain ⟨DV, DW, DX, DY, DZ, D0, D1, D2, D3, D4, D5, D6, D7, D8⟩ := zG AK
  obtain ⟨D9, Ea, Eb, Ec, Ed, Ee, Ef, Eg, Eh, Ei, Ej, Ek, El, Em⟩ := zG AL
  have En := zF AM
  have Eo := zF AI
  go_wp2_with fail
  refine (KR.out _).mono ?_
  rintro r w8 ⟨rfl, b8⟩
  have B8 : Below w.heap.size w w8 := zX B7 b8
  obtain ⟨AS, AT, AN, AU, AV⟩ := yO b8 AJ AK AL AM AI
  clear b8 B7 AJ DT DU AK DV DW DX DY DZ D0 D1 D2 D3 D4 D5 D6 D7 D8 AL D9 Ea Eb Ec Ed Ee Ef Eg Eh Ei Ej Ek El Em AM En AI Eo
  obtain ⟨E1, E2⟩ := zO AS
  obtain ⟨E3, E4, E5, E6, E7, E8, E9, Fa, Fb, Fc, Fd, Fe, Ff, Fg⟩ := zG AT
  obtain ⟨Fh, Fi, Fj, Fk, Fl, Fm, Fn, Fo, Fp, Fq, Fr, Fs, Ft, Fu⟩ := zG AN
  have Fv := zF AU
  have Fw := zF AV
  have Ep := st_p1 w8 (w1.heap.size) c 0 0 0 S AN
  have B9 := z9 (c := (pt c S 0 0)) B8 (show w.heap.size ≤ w1.heap.size by first | exact Nat.le_refl _ | omega | (have := S2.out; have := Aa.out; have := Ab.out; have := S4.out; have := Ac.out; have := Ad.out; have := Ae.out; have := S7.out; have := Af.out; have := Ag.out; have := Ah.out; have := Ai.out; omega))
  have As := zU (c' := (pt c S 0 0)) AN
  have At : (w8.setRow (w1.heap.size) (pt c S 0 0)).heap[w.heap.size]? = some (.cells #[.int .u64 x, .int .u64 y] 26) := by rw [zI (by first | omega | (have := S2.out; have := Aa.out; have := Ab.out; have := S4.out; have := Ac.out; have := Ad.out; have := Ae.out; have := S7.out; have := Af.out; have := Ag.out; have := Ah.out; have := Ai.out; omega))]; exact AS
  have Au : (w8.setRow (w1.heap.size) (pt c S 0 0)).heap[w.heap.size + 1]? = some (.cells (pt 0 0 0 0) 54) := by rw [zI (by first | omega | (have := S2.out; have := Aa.out; have := Ab.out; have := S4.out; have := Ac.out; have := Ad.out; have := Ae.out; have := S7.out; have := Af.out; have := Ag.out; have := Ah.out; have := Ai.out; omega))]; exact AT
  have Av : (w8.setRow (w1.heap.size) (pt c S 0 0)).heap[w3.heap.size]? = some (.cells (cw 6 t) 52) := by rw [zI (by first | omega | (have := S2.out; have := Aa.out; have := Ab.out; have := S4.out; have := Ac.out; have := Ad.out; have := Ae.out; have := S7.out; have := Af.out; have := Ag.out; have := Ah.out; have := Ai.out; omega))]; exact AU
  have Aw : (w8.setRow (w1.heap.size) (pt c S 0 0)).heap[w6.heap.size]? = some (.cells (cw 6 P) 52) := by rw [zI (by first | omega | (have := S2.out; have := Aa.out; have := Ab.out; have := S4.out; have := Ac.out; have := Ad.out; have := Ae.out; have := S7.out; have := Af.out; have := Ag.out; have := Ah.out; have := Ai.out; omega))]; exact AV
  obtain ⟨w9, Eq⟩ : ∃ V, w8.setRow (w1.heap.size) (pt c S 0 0) = V := ⟨_, rfl⟩
  rw [Eq] at Ep B9 At Au As Av Aw
  obtain ⟨Er, Es⟩ := zO At
  obtain ⟨Et, Eu, Ev, Ew, Ex, Ey, Ez, EA, EB, EC, ED, EE, EF, EG⟩ := zG Au
  obtain ⟨EH, EI, EJ, EK, EL, EM, EN, EO, EP, EQ, ER, ES, ET, EU⟩ := zG As
  have EV := zF Av
  have EW := zF Aw
  go_wp2_with fail
  refine (KE.out _).mono ?_
  rintro r w10 ⟨rfl, b10⟩
  have B10 : Below w.heap.size w w10 := zX B9 b10
  obtain ⟨AW, AX, AO, AY, AZ⟩ := yO b10 At Au As Av Aw
  clear b10 B9 At Er Es Au Et Eu Ev Ew Ex Ey Ez EA EB EC ED EE EF EG As EH EI EJ EK EL EM EN EO EP EQ ER ES ET EU Av EV Aw EW
  obtain ⟨Fx, Fy⟩ := zO AW
  obtain ⟨Fz, FA, FB, FC, FD, FE, FF, FG, FH, FI, FJ, FK, FL, FM⟩ := zG AX
  obtain ⟨FN, FO, FP, FQ, FR, FS, FT, FU, FV, FW, FX, FY, FZ, F0⟩ := zG AO
  have F1 := zF AY
  have F2 := zF AZ
  have qp_10 := fz (k := 7) AO
  have B11 : Below w.heap.size w (w10.setCell ⟨w1.heap.size, 7, none⟩ (.int .i64 X)) := B10.setCell (by first | exact Nat.le_refl _ | (have := S2.out; have := Aa.out; have := Ab.out; have := S4.out; have := Ac.out; have := Ad.out; have := Ae.out; have := S7.out; have := Af.out; have := Ag.out; have := Ah.out; have := Ai.out; show w.heap.size ≤ w1.heap.size; omega)) _
  have EX : (w10.setCell ⟨w1.heap.size, 7, none⟩ (.int .i64 X)).heap[w1.heap.size]? = some (.cells (pt c S X 0) 54) := by rw [zY AO]; rfl
  have EY : (w10.setCell ⟨w1.heap.size, 7, none⟩ (.int .i64 X)).heap[w.heap.size]? = some (.cells #[.int .u64 x, .int .u64 y] 26) := by rw [zH (by first | omega | (have := S2.out; have := Aa.out; have := Ab.out; have := S4.out; have := Ac.out; have := Ad.out; have := Ae.out; have := S7.out; have := Af.out; have := Ag.out; have := Ah.out; have := Ai.out; omega))]; exact AW
  have AP : (w10.setCell ⟨w1.heap.size, 7, none⟩ (.int .i64 X)).heap[w.heap.size + 1]? = some (.cells (pt 0 0 0 0) 54) := by rw [zH (by first | omega | (have := S2.out; have := Aa.out; have := Ab.out; have := S4.out; have := Ac.out; have := Ad.out; have := Ae.out; have := S7.out; have := Af.out; have := Ag.out; have := Ah.out; have := Ai.out; omega))]; exact AX
  have EZ : (w10.setCell ⟨w1.heap.size, 7, none⟩ (.int .i64 X)).heap[w3.heap.size]? = some (.cells (cw 6 t) 52) := by rw [zH (by first | omega | (have := S2.out; have := Aa.out; have := Ab.out; have := S4.out; have := Ac.out; have := Ad.out; have := Ae.out; have := S7.out; have := Af.out; have := Ag.out; have := Ah.out; have := Ai.out; omega))]; exact AY
  have E0 : (w10.setCell ⟨w1.heap.size, 7, none⟩ (.int .i64 X)).heap[w6.heap.size]? = some (.cells (cw 6 P) 52) := by rw [zH (by first | omega | (have := S2.out; have := Aa.out; have := Ab.out; have := S4.out; have := Ac.out; have := Ad.out; have := Ae.out; have := S7.out; have := Af.out; have := Ag.out; have := Ah.out; have := Ai.out; omega))]; exact AZ
  obtain ⟨F3, F4⟩ := zO EY
  obtain ⟨F5, F6, F7, F8, F9, Ga, Gb, Gc, Gd, Ge, Gf, Gg, Gh, Gi⟩ := zG AP
  obtain ⟨Gj, Gk, Gl, Gm, Gn, Gp, Gq, Gr, Gs, Gt, Gu, Gv, Gw, Gx⟩ := zG EX
  have Gy := zF EZ
  have Gz := zF E0
  have hstz := st_p (w10.setCell ⟨w1.heap.size, 7, none⟩ (.int .i64 X)) (w.heap.size + 1) c S X 0 0 0 0 0 AP
  have RZ := zU (c' := pt c S X 0) AP
  obtain ⟨dz0, dz1, dz2, dz3, dz4, dz5, dz6, dz7, dz8, dz9, dz10, dz11, dz12, dz13⟩ := zG RZ
  have bz := z9 (c := pt c S X 0) B11 (show w.heap.size ≤ w.heap.size + 1 by first | exact Nat.le_refl _ | omega | (have := S2.out; have := Aa.out; have := Ab.out; have := S4.out; have := Ac.out; have := Ad.out; have := Ae.out; have := S7.out; have := Af.out; have := Ag.out; have := Ah.out; have := Ai.out; omega))
  go_wp2
  exact bodyPost_ret (v := .agg (pt c S X 0)) (by simp [results, Tryz.results98, go_sem, dz0, dz1, dz2, dz3, dz4, dz5, dz6, dz7, dz8, dz9, dz10, dz11, dz12, dz13, ptf] <;> rfl) rfl ⟨rfl, bz⟩
theorem em_lim {f : Int} (hf : y7 f) : IntKind.i64.wrap (1 - fE f - fP f) = 1 - fE f - fP f ∧ IntKind.i64.wrap (1 - fE f - fP f + 1) = lx f ∧ IntKind.i64.wrap (fE f - fP f) = fE f - fP f ∧ IntKind.i64.wrap (fE f - fP f + 1) = fE f - (pV f : Int) ∧ (if fC f = 0 then 1 - fE f else 0) = 1 - fE f ∧ 2 * fE f + 1 = (oV f : Int) ∧ 0 ≤ fE f ∧ fE f ≤ 16383 ∧ fP f = (pV f : Int) + 1 ∧ lx f = 1 - fE f - fP f + 1 ∧ pV f < 128 ∧ -16494 ≤ lx f ∧ lx f ≤ 0 := by
 rcases hf with rfl | rfl | rfl | rfl <;> decide +kernel
theorem rUnpack_is (f : Int) (hf : y7 f) (x y n : Nat) (hx : x < 18446744073709551616) (hy : y < 18446744073709551616) (hn : y + 18446744073709551616 * x = n) (hfit : Fit f n) (w : World) :
  Calls Tryz.prog 98 #[.int .u8 f, .agg #[.int .u64 x, .int .u64 y]] w fun r w' => r = .returned (.agg (pt (kC f n) (kS f n) (kX f n) (kF f n))) ∧ Below w.heap.size w w' := by
 have f4 := yW hf
 obtain ⟨g1, g2, g3, g4, g5, g6, g7⟩ := fm hf
 obtain ⟨m1, m2, m3, m4, m5, m6, m7, m8, m9, m10, m11, m12, m13⟩ := em_lim hf
 have tl := kT_lt (f := f) n
 have el := kE_le (f := f) n
 have pn : 2 ^ pV f + kT f n < 340282366920938463463374607431768211456 := by rw [g1, Nat.add_mul] at g7; have := Nat.mul_le_mul_right (2 ^ pV f) g5; omega
 obtain ⟨p1, p2, p3, p4, _⟩ := pV_lim hf
 have KC : zR (∀ w, Calls Tryz.prog 67 #[.int .u8 f, .agg #[.int .u64 x, .int .u64 y]] w fun r w' => r = .returned (.int .u8 ((kC f n : Nat) : Int)) ∧ Below w.heap.size w w') := zK (fun w => rk_class f hf x y n _ hx hy hn hfit rfl w)
 have KF : zR (∀ w, Calls Tryz.prog 92 #[.int .u8 f, .agg #[.int .u64 x, .int .u64 y]] w fun r w' => r = .returned (.tuple #[.bool (kN f n), .int .i64 ((kE f n : Nat) : Int), .agg (cw 6 (kT f n))]) ∧ Below w.heap.size w w') := zK (fun w => rk_fields f hf x y n _ _ _ hx hy hn hfit rfl rfl rfl w)
 have KP : zR (∀ w, Calls Tryz.prog 95 #[.int .u8 f] w fun r w' => r = .returned (.int .i64 (fP f)) ∧ w' = w) := zK (fun w => xZ f _ f4.1 rfl w)
 have cl := kC_lt f n
 by_cases c1 : kC f n = 8 ∨ kC f n = 9
 ·
  have e1 : kS f n = 0 ∧ kX f n = 0 ∧ kF f n = kT f n := by
   unfold kS kX kF
   rw [if_neg (by omega), if_neg (by omega), if_neg (by omega), if_neg (by omega), if_pos c1]
   exact ⟨rfl, rfl, rfl⟩
  rw [e1.1, e1.2.1, e1.2.2]
  exact rparts_nan f _ x y _ _ _ _ w KC KF KP c1
 by_cases c2 : kC f n = 2 ∨ kC f n = 5
 ·
  have e1 : kS f n = kT f n ∧ kX f n = lx f ∧ kF f n = 0 := by
   unfold kS kX kF
   rw [if_pos c2, if_pos c2, if_neg c1]
   exact ⟨rfl, rfl, rfl⟩
  rw [e1.1, e1.2.1, e1.2.2]
  exact rparts_sub f _ x y _ _ _ _ (1 - fE f) _ w KC KF KP (zK (fun w => (r_emin f _ _ f4.1 rfl m5 w).mono fun _ _ h => ⟨h.1, by rw [h.2]; exact Below.refl _ _⟩)) m1 m2 c2
 by_cases c3 : kC f n = 1 ∨ kC f n = 6
 ·
  have e1 : kS f n = 2 ^ pV f + kT f n ∧ kX f n = lx f + (kE f n : Int) - 1 ∧ kF f n = 0 := by
   unfold kS kX kF
   rw [if_neg c2, if_neg c2, if_neg c1, if_pos c3, if_pos c3]
   exact ⟨rfl, rfl, rfl⟩
  rw [e1.1, e1.2.1, e1.2.2]
  have pl : 2 ^ pV f < Q := xT (by omega)
  have sl := xT pn
  exact rparts_norm f (fP f) x y _ _ _ _ (fE f) _ (pV f) (2 ^ pV f) _ w KC KF KP (zK (fun w => rwof_any 1 (by omega) w))
   (zK (fun w => rwleft_is 1 (2 ^ pV f) _ false (xT (by omega)) (by rw [cnt_k8 (by omega), Nat.one_mul, Nat.mod_eq_of_lt pl]) (by rw [cnt_k8 (by omega), Nat.one_mul]; simp; omega) w))
   (zK (fun w => rwadd_is (2 ^ pV f) (kT f n) _ false pl (xT (by omega)) (Nat.mod_eq_of_lt sl) (by simp; omega) w))
   (zK (fun w => (r_emax f _ f4.1 rfl w).mono fun _ _ h => ⟨h.1, by rw [h.2]; exact Below.refl _ _⟩)) p2 (by rw [IntKind.wrap_i64]; omega) (by rw [IntKind.wrap_i64]; omega) (by rw [IntKind.wrap_i64]; omega) c3
 ·
  have e1 : kS f n = 0 ∧ kX f n = 0 ∧ kF f n = 0 := by
   unfold kS kX kF
   rw [if_neg c2, if_neg c2, if_neg c1, if_neg c3, if_neg c3]
   exact ⟨rfl, rfl, rfl⟩
  rw [e1.1, e1.2.1, e1.2.2]
  exact rparts_none f _ x y _ _ _ _ w KC KF KP (by omega)
end Go.Proofs.YtapikkbifdldfaaGreatDoor
