/-
  What the functions that the statement reaches return: part 19 (R20, R21, R22, U1).
-/
import Derived.Test.YtkblmpmkchkpjaaGreatDoorNe18
namespace Go.Proofs.YtkblmpmkchkpjaaGreatDoor
set_option maxRecDepth 100000
set_option maxHeartbeats 40000000
open Go.RowKit WMath
set_option linter.unusedSimpArgs false
set_option linter.unusedVariables false
theorem dr_cell {V : World} {a : Addr} {x : Value} (h : V.cell? a = some x) : V.drew.cell? a = some x := h
theorem two_boxes {n : Nat} {w W : World} {ga gb : Nat} {T T' : TypeId} {a0 a1 b0 b1 : Value} (hB : Below n w W) (RA : W.heap[ga]? = some (.cells #[a0, a1] T)) (RB : W.heap[gb]? = some (.cells #[b0, b1] T')) (hne : ga ≠ gb) (h1 : n ≤ ga) (h2 : n ≤ gb) (v0 v1 u0 u1 : Value) :
  ((((W.setCell ⟨ga, 0, none⟩ v0).setCell ⟨ga, 1, none⟩ v1).setCell ⟨gb, 0, none⟩ u0).setCell ⟨gb, 1, none⟩ u1).drew.cell? ⟨ga, 0, none⟩ = some v0 ∧
  ((((W.setCell ⟨ga, 0, none⟩ v0).setCell ⟨ga, 1, none⟩ v1).setCell ⟨gb, 0, none⟩ u0).setCell ⟨gb, 1, none⟩ u1).drew.cell? ⟨ga, 1, none⟩ = some v1 ∧
  ((((W.setCell ⟨ga, 0, none⟩ v0).setCell ⟨ga, 1, none⟩ v1).setCell ⟨gb, 0, none⟩ u0).setCell ⟨gb, 1, none⟩ u1).drew.cell? ⟨gb, 0, none⟩ = some u0 ∧
  ((((W.setCell ⟨ga, 0, none⟩ v0).setCell ⟨ga, 1, none⟩ v1).setCell ⟨gb, 0, none⟩ u0).setCell ⟨gb, 1, none⟩ u1).drew.cell? ⟨gb, 1, none⟩ = some u1 ∧
  Below n w ((((W.setCell ⟨ga, 0, none⟩ v0).setCell ⟨ga, 1, none⟩ v1).setCell ⟨gb, 0, none⟩ u0).setCell ⟨gb, 1, none⟩ u1).drew := by
 have r1 := yJ RA v0 v1
 have r2 : ((W.setCell ⟨ga, 0, none⟩ v0).setCell ⟨ga, 1, none⟩ v1).heap[gb]? = some (.cells #[b0, b1] T') := by rw [zG (by omega), zG (by omega)]; exact RB
 have r3 := yJ r2 u0 u1
 have r4 : ((((W.setCell ⟨ga, 0, none⟩ v0).setCell ⟨ga, 1, none⟩ v1).setCell ⟨gb, 0, none⟩ u0).setCell ⟨gb, 1, none⟩ u1).heap[ga]? = some (.cells #[v0, v1] T) := by rw [zG (by omega), zG (by omega)]; exact r1
 exact ⟨dr_cell (zE r4 0 _ rfl), dr_cell (zE r4 1 _ rfl), dr_cell (zE r3 0 _ rfl), dr_cell (zE r3 1 _ rfl), (zY (zY hB h1 v0 v1) h2 u0 u1).drew⟩
theorem ru_Near_eq (f : Int) (b : Bool) (s t : ByteArray) (e : Int) (nb : Bool) (T La : Int) (ws : ByteArray) (more : Bool) (u1 v1 u2 v2 zu zv : Nat) (f1 f2 : Int) (w : World)
  (KC : zS (∀ w, zN w → Calls Tryz.prog 48 #[.int .u8 f, .int .u8 2, .agg #[.bool b, .string s, .string t, .int .i64 e]] w fun r w' => r = .returned (.int .i64 0) ∧ Below w.heap.size w w'))
  (KX : zS (∀ w, yF w → zN w → Calls Tryz.prog 50 #[.int .u8 f, .agg #[.bool b, .string s, .string t, .int .i64 e]] w fun r w' => r = .returned (.agg #[.bool nb, .int .i64 T, .int .i64 La, .string ws, .bool more]) ∧ Below w.heap.size w w'))
  (K1 : zS (∀ w, yF w → zN w → Calls Tryz.prog 49 #[.int .u8 f, .int .u8 2, .agg #[.bool nb, .int .i64 T, .int .i64 La, .string ws, .bool more]] w fun r w' => r = .returned (.tuple #[.agg #[.int .u64 u1, .int .u64 v1], .int .u8 f1]) ∧ Below w.heap.size w w'))
  (K2 : zS (∀ w, yF w → zN w → Calls Tryz.prog 49 #[.int .u8 f, .int .u8 3, .agg #[.bool nb, .int .i64 T, .int .i64 La, .string ws, .bool more]] w fun r w' => r = .returned (.tuple #[.agg #[.int .u64 u2, .int .u64 v2], .int .u8 f2]) ∧ Below w.heap.size w w'))
  (KZ : zS (∀ w, yF w → Calls Tryz.prog 51 #[.int .u8 f, .bool true] w fun r w' => r = .returned (.agg #[.int .u64 zu, .int .u64 zv]) ∧ Below w.heap.size w w'))
  (K0 : zS (∀ w, yF w → Calls Tryz.prog 51 #[.int .u8 f, .bool false] w fun r w' => r = .returned (.agg #[.int .u64 0, .int .u64 0]) ∧ Below w.heap.size w w')) (hu : u2 = zu) (hv : v2 = zv)
  (hT : yF w) (hT2 : zN w) : Calls Tryz.prog 19 #[.int .u8 f, .agg #[.bool b, .string s, .string t, .int .i64 e]] w fun r w' => r = .returned (.tuple #[.agg #[.int .u64 u1, .int .u64 v1], .agg #[.int .u64 0, .int .u64 0], .int .i64 0]) ∧ Below w.heap.size w w' := by
 have FF := zH hT
 have TT := zH hT2
 clear hT hT2
 subst hu hv
 obtain ⟨AM, AN, AO, B0⟩ := opn3 w (Obj.cells #[.bool b, .string s, .string t, .int .i64 e] 41) (Obj.cells #[.int .u64 0, .int .u64 0] 25) (Obj.cells #[.int .u64 0, .int .u64 0] 25)
 go_enter Tryz.func19, Tryz.ntmps19
 go_wp2_with fail
 refine (KC.out _ (zV TT.out B0)).mono ?_
 rintro r w1 ⟨rfl, b1⟩
 have B1 := zO B0 b1
 obtain ⟨AA, AB, AC⟩ := yA b1 AM AN AO
 clear b1 B0 AM AN AO
 obtain ⟨AX, AY, AZ, A0⟩ := zC AA
 obtain ⟨A1, A2⟩ := zF AB
 obtain ⟨A3, A4⟩ := zF AC
 go_wp2_with fail
 refine (KX.out _ (zW FF.out B1) (zV TT.out B1)).mono ?_
 rintro r w2 ⟨rfl, b2⟩
 have B2 := zO B1 b2
 obtain ⟨Ar, As, At⟩ := yA b2 AA AB AC
 clear b2 B1 AA AX AY AZ A0 AB A1 A2 AC A3 A4
 obtain ⟨A5, A6, A7, A8⟩ := zC Ar
 obtain ⟨A9, Ba⟩ := zF As
 obtain ⟨Bb, Bc⟩ := zF At
 have S3 := zH B2.size
 have Aa := z8 Ar
 have Ab := z8 As
 have Ac := z8 At
 have Ah := heap_alloc_last w2 (Obj.cells #[.bool nb, .int .i64 T, .int .i64 La, .string ws, .bool more] 89)
 have B3 := zO B2 (yK w2 (Obj.cells #[.bool nb, .int .i64 T, .int .i64 La, .string ws, .bool more] 89))
 obtain ⟨AD, AE, AF⟩ := yA (yK w2 (Obj.cells #[.bool nb, .int .i64 T, .int .i64 La, .string ws, .bool more] 89)) Ar As At
 clear B2 Ar A5 A6 A7 A8 As A9 Ba At Bb Bc
 obtain ⟨Bd, Be, Bf, Bg⟩ := zC AD
 obtain ⟨Bh, Bi⟩ := zF AE
 obtain ⟨Bj, Bk⟩ := zF AF
 have Bl := zE Ah 0 _ rfl
 have Bm := zE Ah 1 _ rfl
 have Bn := zE Ah 2 _ rfl
 have Bo := zE Ah 3 _ rfl
 have Bp := zE Ah 4 _ rfl
 go_wp2_with fail
 refine (K1.out _ (zW FF.out B3) (zV TT.out B3)).mono ?_
 rintro r w4 ⟨rfl, b4⟩
 have B4 := zO B3 b4
 obtain ⟨AP, Au, AQ, Al⟩ := qT b4 AD AE AF Ah
 clear b4 B3 AD Bd Be Bf Bg AE Bh Bi AF Bj Bk Ah Bl Bm Bn Bo Bp
 obtain ⟨Cq, Cr, Cs, Ct⟩ := zC AP
 obtain ⟨Cu, Cv⟩ := zF Au
 obtain ⟨Cw, Cx⟩ := zF AQ
 have Cy := zE Al 0 _ rfl
 have Cz := zE Al 1 _ rfl
 have CA := zE Al 2 _ rfl
 have CB := zE Al 3 _ rfl
 have CC := zE Al 4 _ rfl
 have q0_5 := fz (k := 0) Au
 have q1_5 := fz (k := 1) Au
 have B5 := zY B4 (show w.heap.size ≤ w.heap.size + 1 by first | exact Nat.le_refl _ | omega | (have := S3.out; have := Aa.out; have := Ab.out; have := Ac.out; omega)) (.int .u64 u1) (.int .u64 v1)
 have AG : ((w4.setCell ⟨w.heap.size + 1, 0, none⟩ (.int .u64 u1)).setCell ⟨w.heap.size + 1, 1, none⟩ (.int .u64 v1)).heap[w.heap.size + 1]? = some (.cells #[.int .u64 u1, .int .u64 v1] 25) := yJ Au _ _
 have HH := zH (And.intro S3.out (And.intro Aa.out (And.intro Ab.out Ac.out)))
 have AH : ((w4.setCell ⟨w.heap.size + 1, 0, none⟩ (.int .u64 u1)).setCell ⟨w.heap.size + 1, 1, none⟩ (.int .u64 v1)).heap[w.heap.size]? = some (.cells #[.bool b, .string s, .string t, .int .i64 e] 41) := (zG (by first | omega | (have := HH.out; omega))).trans ((zG (by first | omega | (have := HH.out; omega))).trans AP)
 have HH := zH (And.intro S3.out (And.intro Aa.out (And.intro Ab.out Ac.out)))
 have AI : ((w4.setCell ⟨w.heap.size + 1, 0, none⟩ (.int .u64 u1)).setCell ⟨w.heap.size + 1, 1, none⟩ (.int .u64 v1)).heap[w.heap.size + 1 + 1]? = some (.cells #[.int .u64 0, .int .u64 0] 25) := (zG (by first | omega | (have := HH.out; omega))).trans ((zG (by first | omega | (have := HH.out; omega))).trans AQ)
 have HH := zH (And.intro S3.out (And.intro Aa.out (And.intro Ab.out Ac.out)))
 have Ai : ((w4.setCell ⟨w.heap.size + 1, 0, none⟩ (.int .u64 u1)).setCell ⟨w.heap.size + 1, 1, none⟩ (.int .u64 v1)).heap[w2.heap.size]? = some (.cells #[.bool nb, .int .i64 T, .int .i64 La, .string ws, .bool more] 89) := (zG (by first | omega | (have := HH.out; omega))).trans ((zG (by first | omega | (have := HH.out; omega))).trans Al)
 obtain ⟨Bq, Br, Bs, Bt⟩ := zC AH
 obtain ⟨Bu, Bv⟩ := zF AG
 obtain ⟨Bw, Bx⟩ := zF AI
 have By := zE Ai 0 _ rfl
 have Bz := zE Ai 1 _ rfl
 have BA := zE Ai 2 _ rfl
 have BB := zE Ai 3 _ rfl
 have BC := zE Ai 4 _ rfl
 go_wp2_with fail
 refine (K2.out _ (zW FF.out B5) (zV TT.out B5)).mono ?_
 rintro r w6 ⟨rfl, b6⟩
 have B6 := zO B5 b6
 obtain ⟨AR, AS, Av, Am⟩ := qT b6 AH AG AI Ai
 clear b6 B5 AH Bq Br Bs Bt AG Bu Bv AI Bw Bx Ai By Bz BA BB BC
 obtain ⟨CD, CE, CF, CG⟩ := zC AR
 obtain ⟨CH, CI⟩ := zF AS
 obtain ⟨CJ, CK⟩ := zF Av
 have CL := zE Am 0 _ rfl
 have CM := zE Am 1 _ rfl
 have CN := zE Am 2 _ rfl
 have CO := zE Am 3 _ rfl
 have CP := zE Am 4 _ rfl
 have q0_7 := fz (k := 0) Av
 have q1_7 := fz (k := 1) Av
 have B7 := zY B6 (show w.heap.size ≤ w.heap.size + 1 + 1 by first | exact Nat.le_refl _ | omega | (have := S3.out; have := Aa.out; have := Ab.out; have := Ac.out; omega)) (.int .u64 u2) (.int .u64 v2)
 have Ap : ((w6.setCell ⟨w.heap.size + 1 + 1, 0, none⟩ (.int .u64 u2)).setCell ⟨w.heap.size + 1 + 1, 1, none⟩ (.int .u64 v2)).heap[w.heap.size + 1 + 1]? = some (.cells #[.int .u64 u2, .int .u64 v2] 25) := yJ Av _ _
 have HH := zH (And.intro S3.out (And.intro Aa.out (And.intro Ab.out Ac.out)))
 have Aj : ((w6.setCell ⟨w.heap.size + 1 + 1, 0, none⟩ (.int .u64 u2)).setCell ⟨w.heap.size + 1 + 1, 1, none⟩ (.int .u64 v2)).heap[w.heap.size]? = some (.cells #[.bool b, .string s, .string t, .int .i64 e] 41) := (zG (by first | omega | (have := HH.out; omega))).trans ((zG (by first | omega | (have := HH.out; omega))).trans AR)
 have HH := zH (And.intro S3.out (And.intro Aa.out (And.intro Ab.out Ac.out)))
 have Aq : ((w6.setCell ⟨w.heap.size + 1 + 1, 0, none⟩ (.int .u64 u2)).setCell ⟨w.heap.size + 1 + 1, 1, none⟩ (.int .u64 v2)).heap[w.heap.size + 1]? = some (.cells #[.int .u64 u1, .int .u64 v1] 25) := (zG (by first | omega | (have := HH.out; omega))).trans ((zG (by first | omega | (have := HH.out; omega))).trans AS)
 have HH := zH (And.intro S3.out (And.intro Aa.out (And.intro Ab.out Ac.out)))
 have Ad : ((w6.setCell ⟨w.heap.size + 1 + 1, 0, none⟩ (.int .u64 u2)).setCell ⟨w.heap.size + 1 + 1, 1, none⟩ (.int .u64 v2)).heap[w2.heap.size]? = some (.cells #[.bool nb, .int .i64 T, .int .i64 La, .string ws, .bool more] 89) := (zG (by first | omega | (have := HH.out; omega))).trans ((zG (by first | omega | (have := HH.out; omega))).trans Am)
 obtain ⟨BD, BE, BF, BG⟩ := zC Aj
 obtain ⟨BH, BI⟩ := zF Aq
 obtain ⟨BJ, BK⟩ := zF Ap
 have BL := zE Ad 0 _ rfl
 have BM := zE Ad 1 _ rfl
 have BN := zE Ad 2 _ rfl
 have BO := zE Ad 3 _ rfl
 have BP := zE Ad 4 _ rfl
 go_wp2_with fail
 obtain ⟨F, hF1, hF2⟩ := zQ ((w6.setCell ⟨w.heap.size + 1 + 1, 0, none⟩ (.int .u64 u2)).setCell ⟨w.heap.size + 1 + 1, 1, none⟩ (.int .u64 v2))
 have fx_0 := fun u => zE (zA (hF1 u) _ _ _ Aj) 0 _ rfl
 have fx_1 := fun u => zE (zA (hF1 u) _ _ _ Aj) 1 _ rfl
 have fx_2 := fun u => zE (zA (hF1 u) _ _ _ Aj) 2 _ rfl
 have fx_3 := fun u => zE (zA (hF1 u) _ _ _ Aj) 3 _ rfl
 have fl_0 := fun u => zE (zA (hF1 u) _ _ _ Aq) 0 _ rfl
 have fl_1 := fun u => zE (zA (hF1 u) _ _ _ Aq) 1 _ rfl
 have fh_0 := fun u => zE (zA (hF1 u) _ _ _ Ap) 0 _ rfl
 have fh_1 := fun u => zE (zA (hF1 u) _ _ _ Ap) 1 _ rfl
 have fn_0 := fun u => zE (zA (hF1 u) _ _ _ Ad) 0 _ rfl
 have fn_1 := fun u => zE (zA (hF1 u) _ _ _ Ad) 1 _ rfl
 have fn_2 := fun u => zE (zA (hF1 u) _ _ _ Ad) 2 _ rfl
 have fn_3 := fun u => zE (zA (hF1 u) _ _ _ Ad) 3 _ rfl
 have fn_4 := fun u => zE (zA (hF1 u) _ _ _ Ad) 4 _ rfl
 have FG : zS (∀ u, yF (F u)) := zH (fun u => zW FF.out (zO B7 (hF1 u)))
 refine zI F hF2 (by kernel_rfl) (by kernel_rfl) ?_
 repeat first | go_big_quiet_step (first | (go_at_call 51; exact zJ hF1 hF2 (KZ.out _ (FG.out _))) | fail) | quiet_step (first | (go_at_call 51; exact zJ hF1 hF2 (KZ.out _ (FG.out _))) | fail)
 refine wpQuiet_nil ?_
 rintro _ ⟨uW, rfl⟩
 have B8 := zO B7 (hF1 uW)
 obtain ⟨Aw, Ax, Ay, Ag⟩ := qT (hF1 uW) Aj Aq Ap Ad
 obtain ⟨w8, hw⟩ : ∃ V, F uW = V := ⟨_, rfl⟩
 rw [hw] at B8 Aw Ax Ay Ag
 try rw [hw]
 clear hw hF1 hF2 B7 fx_0 fx_1 fx_2 fx_3 fl_0 fl_1 fh_0 fh_1 fn_0 fn_1 fn_2 fn_3 fn_4 Aj BD BE BF BG Aq BH BI Ap BJ BK Ad BL BM BN BO BP
 clear FG
 clear F
 obtain ⟨BQ, BR, BS, BT⟩ := zC Aw
 obtain ⟨BU, BV⟩ := zF Ax
 obtain ⟨BW, BX⟩ := zF Ay
 have BY := zE Ag 0 _ rfl
 have BZ := zE Ag 1 _ rfl
 have Ca := zE Ag 2 _ rfl
 have Cb := zE Ag 3 _ rfl
 have Cc := zE Ag 4 _ rfl
 go_wp2_with fail
 refine (K0.out _ (zW FF.out B8)).mono ?_
 rintro r w9 ⟨rfl, b9⟩
 have B9 := zO B8 b9
 obtain ⟨AT, AU, Az, An⟩ := qT b9 Aw Ax Ay Ag
 clear b9 B8 Aw BQ BR BS BT Ax BU BV Ay BW BX Ag BY BZ Ca Cb Cc
 obtain ⟨CQ, CR, CS, CT⟩ := zC AT
 obtain ⟨CU, CV⟩ := zF AU
 obtain ⟨CW, CX⟩ := zF Az
 have CY := zE An 0 _ rfl
 have CZ := zE An 1 _ rfl
 have C0 := zE An 2 _ rfl
 have C1 := zE An 3 _ rfl
 have C2 := zE An 4 _ rfl
 have q0_10 := fz (k := 0) Az
 have q1_10 := fz (k := 1) Az
 have B10 := zY B9 (show w.heap.size ≤ w.heap.size + 1 + 1 by first | exact Nat.le_refl _ | omega | (have := S3.out; have := Aa.out; have := Ab.out; have := Ac.out; omega)) (.int .u64 0) (.int .u64 0)
 have AJ : ((w9.setCell ⟨w.heap.size + 1 + 1, 0, none⟩ (.int .u64 0)).setCell ⟨w.heap.size + 1 + 1, 1, none⟩ (.int .u64 0)).heap[w.heap.size + 1 + 1]? = some (.cells #[.int .u64 0, .int .u64 0] 25) := yJ Az _ _
 have HH := zH (And.intro S3.out (And.intro Aa.out (And.intro Ab.out Ac.out)))
 have AK : ((w9.setCell ⟨w.heap.size + 1 + 1, 0, none⟩ (.int .u64 0)).setCell ⟨w.heap.size + 1 + 1, 1, none⟩ (.int .u64 0)).heap[w.heap.size]? = some (.cells #[.bool b, .string s, .string t, .int .i64 e] 41) := (zG (by first | omega | (have := HH.out; omega))).trans ((zG (by first | omega | (have := HH.out; omega))).trans AT)
 have HH := zH (And.intro S3.out (And.intro Aa.out (And.intro Ab.out Ac.out)))
 have AL : ((w9.setCell ⟨w.heap.size + 1 + 1, 0, none⟩ (.int .u64 0)).setCell ⟨w.heap.size + 1 + 1, 1, none⟩ (.int .u64 0)).heap[w.heap.size + 1]? = some (.cells #[.int .u64 u1, .int .u64 v1] 25) := (zG (by first | omega | (have := HH.out; omega))).trans ((zG (by first | omega | (have := HH.out; omega))).trans AU)
 have HH := zH (And.intro S3.out (And.intro Aa.out (And.intro Ab.out Ac.out)))
 have Ak : ((w9.setCell ⟨w.heap.size + 1 + 1, 0, none⟩ (.int .u64 0)).setCell ⟨w.heap.size + 1 + 1, 1, none⟩ (.int .u64 0)).heap[w2.heap.size]? = some (.cells #[.bool nb, .int .i64 T, .int .i64 La, .string ws, .bool more] 89) := (zG (by first | omega | (have := HH.out; omega))).trans ((zG (by first | omega | (have := HH.out; omega))).trans An)
 obtain ⟨Cd, Ce, Cf, Cg⟩ := zC AK
 obtain ⟨Ch, Ci⟩ := zF AL
 obtain ⟨Cj, Ck⟩ := zF AJ
 have Cl := zE Ak 0 _ rfl
 have Cm := zE Ak 1 _ rfl
 have Cn := zE Ak 2 _ rfl
 have Co := zE Ak 3 _ rfl
 have Cp := zE Ak 4 _ rfl
 go_wp2_with fail
 obtain ⟨w11, AV⟩ : ∃ V, ((w9.setCell ⟨w.heap.size + 1 + 1, 0, none⟩ (.int .u64 0)).setCell ⟨w.heap.size + 1 + 1, 1, none⟩ (.int .u64 0)) = V := ⟨_, rfl⟩
 have AW := AK
 have Ae := AL
 have Af := AJ
 have Ao := Ak
 have B11 := B10
 rw [AV] at B11 AW Ae Af Ao ⊢
 clear AV B10 AK Cd Ce Cf Cg AL Ch Ci AJ Cj Ck Ak Cl Cm Cn Co Cp
 obtain ⟨C3, C4, C5, C6⟩ := zC AW
 obtain ⟨C7, C8⟩ := zF Ae
 obtain ⟨C9, Da⟩ := zF Af
 have Db := zE Ao 0 _ rfl
 have Dc := zE Ao 1 _ rfl
 have Dd := zE Ao 2 _ rfl
 have De := zE Ao 3 _ rfl
 have Df := zE Ao 4 _ rfl
 have HH := zH (And.intro S3.out (And.intro Aa.out (And.intro Ab.out Ac.out)))
 have sTA : zS (∀ W : World, (Below w.heap.size w W ∧ W.heap[w.heap.size + 1]? = some (.cells #[.int .u64 u1, .int .u64 v1] 25) ∧ W.heap[w.heap.size + 1 + 1]? = some (.cells #[.int .u64 0, .int .u64 0] 25) ∧ W.cell? ⟨w.heap.size + 1, 0, none⟩ = some (.int .u64 u1) ∧ W.cell? ⟨w.heap.size + 1, 1, none⟩ = some (.int .u64 v1) ∧ W.cell? ⟨w.heap.size + 1 + 1, 0, none⟩ = some (.int .u64 0) ∧ W.cell? ⟨w.heap.size + 1 + 1, 1, none⟩ = some (.int .u64 0) ∧ W.frozen? ⟨w.heap.size + 1, 0, none⟩ = false ∧ W.frozen? ⟨w.heap.size + 1, 1, none⟩ = false ∧ W.frozen? ⟨w.heap.size + 1 + 1, 0, none⟩ = false ∧ W.frozen? ⟨w.heap.size + 1 + 1, 1, none⟩ = false) → (Below w.heap.size w ((W.setCell ⟨w.heap.size + 1, 0, none⟩ (.int .u64 u1)).setCell ⟨w.heap.size + 1, 1, none⟩ (.int .u64 v1)) ∧ ((W.setCell ⟨w.heap.size + 1, 0, none⟩ (.int .u64 u1)).setCell ⟨w.heap.size + 1, 1, none⟩ (.int .u64 v1)).heap[w.heap.size + 1]? = some (.cells #[.int .u64 u1, .int .u64 v1] 25) ∧ ((W.setCell ⟨w.heap.size + 1, 0, none⟩ (.int .u64 u1)).setCell ⟨w.heap.size + 1, 1, none⟩ (.int .u64 v1)).heap[w.heap.size + 1 + 1]? = some (.cells #[.int .u64 0, .int .u64 0] 25) ∧ ((W.setCell ⟨w.heap.size + 1, 0, none⟩ (.int .u64 u1)).setCell ⟨w.heap.size + 1, 1, none⟩ (.int .u64 v1)).cell? ⟨w.heap.size + 1, 0, none⟩ = some (.int .u64 u1) ∧ ((W.setCell ⟨w.heap.size + 1, 0, none⟩ (.int .u64 u1)).setCell ⟨w.heap.size + 1, 1, none⟩ (.int .u64 v1)).cell? ⟨w.heap.size + 1, 1, none⟩ = some (.int .u64 v1) ∧ ((W.setCell ⟨w.heap.size + 1, 0, none⟩ (.int .u64 u1)).setCell ⟨w.heap.size + 1, 1, none⟩ (.int .u64 v1)).cell? ⟨w.heap.size + 1 + 1, 0, none⟩ = some (.int .u64 0) ∧ ((W.setCell ⟨w.heap.size + 1, 0, none⟩ (.int .u64 u1)).setCell ⟨w.heap.size + 1, 1, none⟩ (.int .u64 v1)).cell? ⟨w.heap.size + 1 + 1, 1, none⟩ = some (.int .u64 0) ∧ ((W.setCell ⟨w.heap.size + 1, 0, none⟩ (.int .u64 u1)).setCell ⟨w.heap.size + 1, 1, none⟩ (.int .u64 v1)).frozen? ⟨w.heap.size + 1, 0, none⟩ = false ∧ ((W.setCell ⟨w.heap.size + 1, 0, none⟩ (.int .u64 u1)).setCell ⟨w.heap.size + 1, 1, none⟩ (.int .u64 v1)).frozen? ⟨w.heap.size + 1, 1, none⟩ = false ∧ ((W.setCell ⟨w.heap.size + 1, 0, none⟩ (.int .u64 u1)).setCell ⟨w.heap.size + 1, 1, none⟩ (.int .u64 v1)).frozen? ⟨w.heap.size + 1 + 1, 0, none⟩ = false ∧ ((W.setCell ⟨w.heap.size + 1, 0, none⟩ (.int .u64 u1)).setCell ⟨w.heap.size + 1, 1, none⟩ (.int .u64 v1)).frozen? ⟨w.heap.size + 1 + 1, 1, none⟩ = false)) := zH (fun W h => ⟨zY h.1 (show w.heap.size ≤ w.heap.size + 1 by first | exact Nat.le_refl _ | omega | (have := HH.out; omega)) _ _, yJ h.2.1 (.int .u64 u1) (.int .u64 v1), (zG (by first | omega | (have := HH.out; omega))).trans ((zG (by first | omega | (have := HH.out; omega))).trans h.2.2.1), zL (yJ h.2.1 (.int .u64 u1) (.int .u64 v1)) 0 _ rfl, zL (yJ h.2.1 (.int .u64 u1) (.int .u64 v1)) 1 _ rfl, zL ((zG (by first | omega | (have := HH.out; omega))).trans ((zG (by first | omega | (have := HH.out; omega))).trans h.2.2.1)) 0 _ rfl, zL ((zG (by first | omega | (have := HH.out; omega))).trans ((zG (by first | omega | (have := HH.out; omega))).trans h.2.2.1)) 1 _ rfl, fz (k := 0) (yJ h.2.1 (.int .u64 u1) (.int .u64 v1)), fz (k := 1) (yJ h.2.1 (.int .u64 u1) (.int .u64 v1)), fz (k := 0) ((zG (by first | omega | (have := HH.out; omega))).trans ((zG (by first | omega | (have := HH.out; omega))).trans h.2.2.1)), fz (k := 1) ((zG (by first | omega | (have := HH.out; omega))).trans ((zG (by first | omega | (have := HH.out; omega))).trans h.2.2.1))⟩)
 have HH := zH (And.intro S3.out (And.intro Aa.out (And.intro Ab.out Ac.out)))
 have sTB : zS (∀ W : World, (Below w.heap.size w W ∧ W.heap[w.heap.size + 1]? = some (.cells #[.int .u64 u1, .int .u64 v1] 25) ∧ W.heap[w.heap.size + 1 + 1]? = some (.cells #[.int .u64 0, .int .u64 0] 25) ∧ W.cell? ⟨w.heap.size + 1, 0, none⟩ = some (.int .u64 u1) ∧ W.cell? ⟨w.heap.size + 1, 1, none⟩ = some (.int .u64 v1) ∧ W.cell? ⟨w.heap.size + 1 + 1, 0, none⟩ = some (.int .u64 0) ∧ W.cell? ⟨w.heap.size + 1 + 1, 1, none⟩ = some (.int .u64 0) ∧ W.frozen? ⟨w.heap.size + 1, 0, none⟩ = false ∧ W.frozen? ⟨w.heap.size + 1, 1, none⟩ = false ∧ W.frozen? ⟨w.heap.size + 1 + 1, 0, none⟩ = false ∧ W.frozen? ⟨w.heap.size + 1 + 1, 1, none⟩ = false) → (Below w.heap.size w ((W.setCell ⟨w.heap.size + 1 + 1, 0, none⟩ (.int .u64 0)).setCell ⟨w.heap.size + 1 + 1, 1, none⟩ (.int .u64 0)) ∧ ((W.setCell ⟨w.heap.size + 1 + 1, 0, none⟩ (.int .u64 0)).setCell ⟨w.heap.size + 1 + 1, 1, none⟩ (.int .u64 0)).heap[w.heap.size + 1]? = some (.cells #[.int .u64 u1, .int .u64 v1] 25) ∧ ((W.setCell ⟨w.heap.size + 1 + 1, 0, none⟩ (.int .u64 0)).setCell ⟨w.heap.size + 1 + 1, 1, none⟩ (.int .u64 0)).heap[w.heap.size + 1 + 1]? = some (.cells #[.int .u64 0, .int .u64 0] 25) ∧ ((W.setCell ⟨w.heap.size + 1 + 1, 0, none⟩ (.int .u64 0)).setCell ⟨w.heap.size + 1 + 1, 1, none⟩ (.int .u64 0)).cell? ⟨w.heap.size + 1, 0, none⟩ = some (.int .u64 u1) ∧ ((W.setCell ⟨w.heap.size + 1 + 1, 0, none⟩ (.int .u64 0)).setCell ⟨w.heap.size + 1 + 1, 1, none⟩ (.int .u64 0)).cell? ⟨w.heap.size + 1, 1, none⟩ = some (.int .u64 v1) ∧ ((W.setCell ⟨w.heap.size + 1 + 1, 0, none⟩ (.int .u64 0)).setCell ⟨w.heap.size + 1 + 1, 1, none⟩ (.int .u64 0)).cell? ⟨w.heap.size + 1 + 1, 0, none⟩ = some (.int .u64 0) ∧ ((W.setCell ⟨w.heap.size + 1 + 1, 0, none⟩ (.int .u64 0)).setCell ⟨w.heap.size + 1 + 1, 1, none⟩ (.int .u64 0)).cell? ⟨w.heap.size + 1 + 1, 1, none⟩ = some (.int .u64 0) ∧ ((W.setCell ⟨w.heap.size + 1 + 1, 0, none⟩ (.int .u64 0)).setCell ⟨w.heap.size + 1 + 1, 1, none⟩ (.int .u64 0)).frozen? ⟨w.heap.size + 1, 0, none⟩ = false ∧ ((W.setCell ⟨w.heap.size + 1 + 1, 0, none⟩ (.int .u64 0)).setCell ⟨w.heap.size + 1 + 1, 1, none⟩ (.int .u64 0)).frozen? ⟨w.heap.size + 1, 1, none⟩ = false ∧ ((W.setCell ⟨w.heap.size + 1 + 1, 0, none⟩ (.int .u64 0)).setCell ⟨w.heap.size + 1 + 1, 1, none⟩ (.int .u64 0)).frozen? ⟨w.heap.size + 1 + 1, 0, none⟩ = false ∧ ((W.setCell ⟨w.heap.size + 1 + 1, 0, none⟩ (.int .u64 0)).setCell ⟨w.heap.size + 1 + 1, 1, none⟩ (.int .u64 0)).frozen? ⟨w.heap.size + 1 + 1, 1, none⟩ = false)) := zH (fun W h => ⟨zY h.1 (show w.heap.size ≤ w.heap.size + 1 + 1 by first | exact Nat.le_refl _ | omega | (have := HH.out; omega)) _ _, (zG (by first | omega | (have := HH.out; omega))).trans ((zG (by first | omega | (have := HH.out; omega))).trans h.2.1), yJ h.2.2.1 (.int .u64 0) (.int .u64 0), zL ((zG (by first | omega | (have := HH.out; omega))).trans ((zG (by first | omega | (have := HH.out; omega))).trans h.2.1)) 0 _ rfl, zL ((zG (by first | omega | (have := HH.out; omega))).trans ((zG (by first | omega | (have := HH.out; omega))).trans h.2.1)) 1 _ rfl, zL (yJ h.2.2.1 (.int .u64 0) (.int .u64 0)) 0 _ rfl, zL (yJ h.2.2.1 (.int .u64 0) (.int .u64 0)) 1 _ rfl, fz (k := 0) ((zG (by first | omega | (have := HH.out; omega))).trans ((zG (by first | omega | (have := HH.out; omega))).trans h.2.1)), fz (k := 1) ((zG (by first | omega | (have := HH.out; omega))).trans ((zG (by first | omega | (have := HH.out; omega))).trans h.2.1)), fz (k := 0) (yJ h.2.2.1 (.int .u64 0) (.int .u64 0)), fz (k := 1) (yJ h.2.2.1 (.int .u64 0) (.int .u64 0))⟩)
 have s0 : Below w.heap.size w (w11).drew ∧ (w11).drew.heap[w.heap.size + 1]? = some (.cells #[.int .u64 u1, .int .u64 v1] 25) ∧ (w11).drew.heap[w.heap.size + 1 + 1]? = some (.cells #[.int .u64 0, .int .u64 0] 25) ∧ (w11).drew.cell? ⟨w.heap.size + 1, 0, none⟩ = some (.int .u64 u1) ∧ (w11).drew.cell? ⟨w.heap.size + 1, 1, none⟩ = some (.int .u64 v1) ∧ (w11).drew.cell? ⟨w.heap.size + 1 + 1, 0, none⟩ = some (.int .u64 0) ∧ (w11).drew.cell? ⟨w.heap.size + 1 + 1, 1, none⟩ = some (.int .u64 0) ∧ (w11).drew.frozen? ⟨w.heap.size + 1, 0, none⟩ = false ∧ (w11).drew.frozen? ⟨w.heap.size + 1, 1, none⟩ = false ∧ (w11).drew.frozen? ⟨w.heap.size + 1 + 1, 0, none⟩ = false ∧ (w11).drew.frozen? ⟨w.heap.size + 1 + 1, 1, none⟩ = false := ⟨B11.drew, Ae, Af, zL (Ae) 0 _ rfl, zL (Ae) 1 _ rfl, zL (Af) 0 _ rfl, zL (Af) 1 _ rfl, fz (k := 0) (Ae), fz (k := 1) (Ae), fz (k := 0) (Af), fz (k := 1) (Af)⟩
 have s1 := sTA.out _ s0
 have s2 := sTB.out _ s1
 have hA0 := fz (k := 0) (s0.2.1)
 have hA1 := fz (k := 1) (s0.2.1)
 have hB0 := fz (k := 0) (s1.2.2.1)
 have hB1 := fz (k := 1) (s1.2.2.1)
 have il0 := fz (k := 0) Ae
 have il1 := fz (k := 1) Ae
 have ih0 := fz (k := 0) Af
 have ih1 := fz (k := 1) Af
 go_wp2_with fail
 go_region_held3 (fun W => Below w.heap.size w W ∧ W.heap[w.heap.size + 1]? = some (.cells #[.int .u64 u1, .int .u64 v1] 25) ∧ W.heap[w.heap.size + 1 + 1]? = some (.cells #[.int .u64 0, .int .u64 0] 25) ∧ W.cell? ⟨w.heap.size + 1, 0, none⟩ = some (.int .u64 u1) ∧ W.cell? ⟨w.heap.size + 1, 1, none⟩ = some (.int .u64 v1) ∧ W.cell? ⟨w.heap.size + 1 + 1, 0, none⟩ = some (.int .u64 0) ∧ W.cell? ⟨w.heap.size + 1 + 1, 1, none⟩ = some (.int .u64 0) ∧ W.frozen? ⟨w.heap.size + 1, 0, none⟩ = false ∧ W.frozen? ⟨w.heap.size + 1, 1, none⟩ = false ∧ W.frozen? ⟨w.heap.size + 1 + 1, 0, none⟩ = false ∧ W.frozen? ⟨w.heap.size + 1 + 1, 1, none⟩ = false) (first | exact s0 | exact s1 | exact s2)
  (fail)
 obtain ⟨D0, D1, D2, D3, BV9⟩ := two_boxes B11 Ae Af (by first | omega | (have := S3.out; have := Aa.out; have := Ab.out; have := Ac.out; omega)) (show w.heap.size ≤ w.heap.size + 1 by first | exact Nat.le_refl _ | omega | (have := S3.out; have := Aa.out; have := Ab.out; have := Ac.out; omega)) (show w.heap.size ≤ w.heap.size + 1 + 1 by first | exact Nat.le_refl _ | omega | (have := S3.out; have := Aa.out; have := Ab.out; have := Ac.out; omega)) (.int .u64 u1) (.int .u64 v1) (.int .u64 0) (.int .u64 0)
 obtain ⟨V9, hV9⟩ : ∃ V, ((((w11.setCell ⟨w.heap.size + 1, 0, none⟩ (.int .u64 u1)).setCell ⟨w.heap.size + 1, 1, none⟩ (.int .u64 v1)).setCell ⟨w.heap.size + 1 + 1, 0, none⟩ (.int .u64 0)).setCell ⟨w.heap.size + 1 + 1, 1, none⟩ (.int .u64 0)).drew = V := ⟨_, rfl⟩
 rw [hV9] at D0 D1 D2 D3 BV9 ⊢
 clear s0 s1 s2 sTA sTB hA0 hA1 hB0 hB1 hV9 il0 il1 ih0 ih1
 go_wp2
 exact bodyPost_ret (v := .tuple #[.agg #[.int .u64 u1, .int .u64 v1], .agg #[.int .u64 0, .int .u64 0], .int .i64 0]) (by simp [results, Tryz.results19, go_sem, D0, D1, D2, D3]) rfl ⟨rfl, BV9⟩
theorem ru_Near_ne (f : Int) (b : Bool) (s t : ByteArray) (e : Int) (nb : Bool) (T La : Int) (ws : ByteArray) (more : Bool) (u1 v1 u2 v2 zu zv : Nat) (f1 f2 : Int) (w : World)
  (KC : zS (∀ w, zN w → Calls Tryz.prog 48 #[.int .u8 f, .int .u8 2, .agg #[.bool b, .string s, .string t, .int .i64 e]] w fun r w' => r = .returned (.int .i64 0) ∧ Below w.heap.size w w'))
  (KX : zS (∀ w, yF w → zN w → Calls Tryz.prog 50 #[.int .u8 f, .agg #[.bool b, .string s, .string t, .int .i64 e]] w fun r w' => r = .returned (.agg #[.bool nb, .int .i64 T, .int .i64 La, .string ws, .bool more]) ∧ Below w.heap.size w w'))
  (K1 : zS (∀ w, yF w → zN w → Calls Tryz.prog 49 #[.int .u8 f, .int .u8 2, .agg #[.bool nb, .int .i64 T, .int .i64 La, .string ws, .bool more]] w fun r w' => r = .returned (.tuple #[.agg #[.int .u64 u1, .int .u64 v1], .int .u8 f1]) ∧ Below w.heap.size w w'))
  (K2 : zS (∀ w, yF w → zN w → Calls Tryz.prog 49 #[.int .u8 f, .int .u8 3, .agg #[.bool nb, .int .i64 T, .int .i64 La, .string ws, .bool more]] w fun r w' => r = .returned (.tuple #[.agg #[.int .u64 u2, .int .u64 v2], .int .u8 f2]) ∧ Below w.heap.size w w'))
  (KZ : zS (∀ w, yF w → Calls Tryz.prog 51 #[.int .u8 f, .bool true] w fun r w' => r = .returned (.agg #[.int .u64 zu, .int .u64 zv]) ∧ Below w.heap.size w w'))
  (hx : (((u2 : Nat) : Int) == ((zu : Nat) : Int)) = false ∧ decide (u2 = zu) = false ∨ u2 = zu ∧ ((((v2 : Nat) : Int) == ((zv : Nat) : Int)) = false ∧ decide (v2 = zv) = false))
  (hT : yF w) (hT2 : zN w) : Calls Tryz.prog 19 #[.int .u8 f, .agg #[.bool b, .string s, .string t, .int .i64 e]] w fun r w' => r = .returned (.tuple #[.agg #[.int .u64 u1, .int .u64 v1], .agg #[.int .u64 u2, .int .u64 v2], .int .i64 0]) ∧ Below w.heap.size w w' := by
 have FF := zH hT
 have TT := zH hT2
 clear hT hT2
 rcases hx with ⟨x1, x2⟩ | ⟨rfl, x1, x2⟩
 all_goals
  obtain ⟨AC, AD, AE, B0⟩ := opn3 w (Obj.cells #[.bool b, .string s, .string t, .int .i64 e] 41) (Obj.cells #[.int .u64 0, .int .u64 0] 25) (Obj.cells #[.int .u64 0, .int .u64 0] 25)
  go_enter Tryz.func19, Tryz.ntmps19
  go_wp2_with fail
  refine (KC.out _ (zV TT.out B0)).mono ?_
  rintro r w1 ⟨rfl, b1⟩
  have B1 := zO B0 b1
  obtain ⟨At, Au, Av⟩ := yA b1 AC AD AE
  clear b1 B0 AC AD AE
  obtain ⟨AK, AL, AM, AN⟩ := zC At
  obtain ⟨AO, AP⟩ := zF Au
  obtain ⟨AQ, AR⟩ := zF Av
  go_wp2_with fail
  refine (KX.out _ (zW FF.out B1) (zV TT.out B1)).mono ?_
  rintro r w2 ⟨rfl, b2⟩
  have B2 := zO B1 b2
  obtain ⟨Ao, Ap, Aq⟩ := yA b2 At Au Av
  clear b2 B1 At AK AL AM AN Au AO AP Av AQ AR
  obtain ⟨AS, AT, AU, AV⟩ := zC Ao
  obtain ⟨AW, AX⟩ := zF Ap
  obtain ⟨AY, AZ⟩ := zF Aq
  have S3 := zH B2.size
  have Aa := z8 Ao
  have Ab := z8 Ap
  have Ac := z8 Aq
  have Ag := heap_alloc_last w2 (Obj.cells #[.bool nb, .int .i64 T, .int .i64 La, .string ws, .bool more] 89)
  have B3 := zO B2 (yK w2 (Obj.cells #[.bool nb, .int .i64 T, .int .i64 La, .string ws, .bool more] 89))
  obtain ⟨Aw, Ax, Ay⟩ := yA (yK w2 (Obj.cells #[.bool nb, .int .i64 T, .int .i64 La, .string ws, .bool more] 89)) Ao Ap Aq
  clear B2 Ao AS AT AU AV Ap AW AX Aq AY AZ
  obtain ⟨A0, A1, A2, A3⟩ := zC Aw
  obtain ⟨A4, A5⟩ := zF Ax
  obtain ⟨A6, A7⟩ := zF Ay
  have A8 := zE Ag 0 _ rfl
  have A9 := zE Ag 1 _ rfl
  have Ba := zE Ag 2 _ rfl
  have Bb := zE Ag 3 _ rfl
  have Bc := zE Ag 4 _ rfl
  go_wp2_with fail
  refine (K1.out _ (zW FF.out B3) (zV TT.out B3)).mono ?_
  rintro r w4 ⟨rfl, b4⟩
  have B4 := zO B3 b4
  obtain ⟨AF, Ar, AG, Aj⟩ := qT b4 Aw Ax Ay Ag
  clear b4 B3 Aw A0 A1 A2 A3 Ax A4 A5 Ay A6 A7 Ag A8 A9 Ba Bb Bc
  obtain ⟨BD, BE, BF, BG⟩ := zC AF
  obtain ⟨BH, BI⟩ := zF Ar
  obtain ⟨BJ, BK⟩ := zF AG
  have BL := zE Aj 0 _ rfl
  have BM := zE Aj 1 _ rfl
  have BN := zE Aj 2 _ rfl
  have BO := zE Aj 3 _ rfl
  have BP := zE Aj 4 _ rfl
  have q0_5 := fz (k := 0) Ar
  have q1_5 := fz (k := 1) Ar
  have B5 := zY B4 (show w.heap.size ≤ w.heap.size + 1 by first | exact Nat.le_refl _ | omega | (have := S3.out; have := Aa.out; have := Ab.out; have := Ac.out; omega)) (.int .u64 u1) (.int .u64 v1)
  have Az : ((w4.setCell ⟨w.heap.size + 1, 0, none⟩ (.int .u64 u1)).setCell ⟨w.heap.size + 1, 1, none⟩ (.int .u64 v1)).heap[w.heap.size + 1]? = some (.cells #[.int .u64 u1, .int .u64 v1] 25) := yJ Ar _ _
  have HH := zH (And.intro S3.out (And.intro Aa.out (And.intro Ab.out Ac.out)))
  have AA : ((w4.setCell ⟨w.heap.size + 1, 0, none⟩ (.int .u64 u1)).setCell ⟨w.heap.size + 1, 1, none⟩ (.int .u64 v1)).heap[w.heap.size]? = some (.cells #[.bool b, .string s, .string t, .int .i64 e] 41) := (zG (by first | omega | (have := HH.out; omega))).trans ((zG (by first | omega | (have := HH.out; omega))).trans AF)
  have HH := zH (And.intro S3.out (And.intro Aa.out (And.intro Ab.out Ac.out)))
  have AB : ((w4.setCell ⟨w.heap.size + 1, 0, none⟩ (.int .u64 u1)).setCell ⟨w.heap.size + 1, 1, none⟩ (.int .u64 v1)).heap[w.heap.size + 1 + 1]? = some (.cells #[.int .u64 0, .int .u64 0] 25) := (zG (by first | omega | (have := HH.out; omega))).trans ((zG (by first | omega | (have := HH.out; omega))).trans AG)
  have HH := zH (And.intro S3.out (And.intro Aa.out (And.intro Ab.out Ac.out)))
  have Ah : ((w4.setCell ⟨w.heap.size + 1, 0, none⟩ (.int .u64 u1)).setCell ⟨w.heap.size + 1, 1, none⟩ (.int .u64 v1)).heap[w2.heap.size]? = some (.cells #[.bool nb, .int .i64 T, .int .i64 La, .string ws, .bool more] 89) := (zG (by first | omega | (have := HH.out; omega))).trans ((zG (by first | omega | (have := HH.out; omega))).trans Aj)
  obtain ⟨Bd, Be, Bf, Bg⟩ := zC AA
  obtain ⟨Bh, Bi⟩ := zF Az
  obtain ⟨Bj, Bk⟩ := zF AB
  have Bl := zE Ah 0 _ rfl
  have Bm := zE Ah 1 _ rfl
  have Bn := zE Ah 2 _ rfl
  have Bo := zE Ah 3 _ rfl
  have Bp := zE Ah 4 _ rfl
  go_wp2_with fail
  refine (K2.out _ (zW FF.out B5) (zV TT.out B5)).mono ?_
  rintro r w6 ⟨rfl, b6⟩
  have B6 := zO B5 b6
  obtain ⟨AH, AI, As, Ak⟩ := qT b6 AA Az AB Ah
  clear b6 B5 AA Bd Be Bf Bg Az Bh Bi AB Bj Bk Ah Bl Bm Bn Bo Bp
  obtain ⟨BQ, BR, BS, BT⟩ := zC AH
  obtain ⟨BU, BV⟩ := zF AI
  obtain ⟨BW, BX⟩ := zF As
  have BY := zE Ak 0 _ rfl
  have BZ := zE Ak 1 _ rfl
  have B9 := zE Ak 2 _ rfl
  have Ca := zE Ak 3 _ rfl
  have Cb := zE Ak 4 _ rfl
  have q0_7 := fz (k := 0) As
  have q1_7 := fz (k := 1) As
  have B7 := zY B6 (show w.heap.size ≤ w.heap.size + 1 + 1 by first | exact Nat.le_refl _ | omega | (have := S3.out; have := Aa.out; have := Ab.out; have := Ac.out; omega)) (.int .u64 u2) (.int .u64 v2)
  have Am : ((w6.setCell ⟨w.heap.size + 1 + 1, 0, none⟩ (.int .u64 u2)).setCell ⟨w.heap.size + 1 + 1, 1, none⟩ (.int .u64 v2)).heap[w.heap.size + 1 + 1]? = some (.cells #[.int .u64 u2, .int .u64 v2] 25) := yJ As _ _
  have HH := zH (And.intro S3.out (And.intro Aa.out (And.intro Ab.out Ac.out)))
  have Ai : ((w6.setCell ⟨w.heap.size + 1 + 1, 0, none⟩ (.int .u64 u2)).setCell ⟨w.heap.size + 1 + 1, 1, none⟩ (.int .u64 v2)).heap[w.heap.size]? = some (.cells #[.bool b, .string s, .string t, .int .i64 e] 41) := (zG (by first | omega | (have := HH.out; omega))).trans ((zG (by first | omega | (have := HH.out; omega))).trans AH)
  have HH := zH (And.intro S3.out (And.intro Aa.out (And.intro Ab.out Ac.out)))
  have An : ((w6.setCell ⟨w.heap.size + 1 + 1, 0, none⟩ (.int .u64 u2)).setCell ⟨w.heap.size + 1 + 1, 1, none⟩ (.int .u64 v2)).heap[w.heap.size + 1]? = some (.cells #[.int .u64 u1, .int .u64 v1] 25) := (zG (by first | omega | (have := HH.out; omega))).trans ((zG (by first | omega | (have := HH.out; omega))).trans AI)
  have HH := zH (And.intro S3.out (And.intro Aa.out (And.intro Ab.out Ac.out)))
  have Ad : ((w6.setCell ⟨w.heap.size + 1 + 1, 0, none⟩ (.int .u64 u2)).setCell ⟨w.heap.size + 1 + 1, 1, none⟩ (.int .u64 v2)).heap[w2.heap.size]? = some (.cells #[.bool nb, .int .i64 T, .int .i64 La, .string ws, .bool more] 89) := (zG (by first | omega | (have := HH.out; omega))).trans ((zG (by first | omega | (have := HH.out; omega))).trans Ak)
  obtain ⟨Bq, Br, Bs, Bt⟩ := zC Ai
  obtain ⟨Bu, Bv⟩ := zF An
  obtain ⟨Bw, Bx⟩ := zF Am
  have By := zE Ad 0 _ rfl
  have Bz := zE Ad 1 _ rfl
  have BA := zE Ad 2 _ rfl
  have BB := zE Ad 3 _ rfl
  have BC := zE Ad 4 _ rfl
  go_wp2_with fail
  obtain ⟨F, hF1, hF2⟩ := zQ ((w6.setCell ⟨w.heap.size + 1 + 1, 0, none⟩ (.int .u64 u2)).setCell ⟨w.heap.size + 1 + 1, 1, none⟩ (.int .u64 v2))
  have fx_0 := fun u => zE (zA (hF1 u) _ _ _ Ai) 0 _ rfl
  have fx_1 := fun u => zE (zA (hF1 u) _ _ _ Ai) 1 _ rfl
  have fx_2 := fun u => zE (zA (hF1 u) _ _ _ Ai) 2 _ rfl
  have fx_3 := fun u => zE (zA (hF1 u) _ _ _ Ai) 3 _ rfl
  have fl_0 := fun u => zE (zA (hF1 u) _ _ _ An) 0 _ rfl
  have fl_1 := fun u => zE (zA (hF1 u) _ _ _ An) 1 _ rfl
  have fh_0 := fun u => zE (zA (hF1 u) _ _ _ Am) 0 _ rfl
  have fh_1 := fun u => zE (zA (hF1 u) _ _ _ Am) 1 _ rfl
  have fn_0 := fun u => zE (zA (hF1 u) _ _ _ Ad) 0 _ rfl
  have fn_1 := fun u => zE (zA (hF1 u) _ _ _ Ad) 1 _ rfl
  have fn_2 := fun u => zE (zA (hF1 u) _ _ _ Ad) 2 _ rfl
  have fn_3 := fun u => zE (zA (hF1 u) _ _ _ Ad) 3 _ rfl
  have fn_4 := fun u => zE (zA (hF1 u) _ _ _ Ad) 4 _ rfl
  have FG : zS (∀ u, yF (F u)) := zH (fun u => zW FF.out (zO B7 (hF1 u)))
  refine zI F hF2 (by kernel_rfl) (by kernel_rfl) ?_
  repeat first | go_big_quiet_step (first | (go_at_call 51; exact zJ hF1 hF2 (KZ.out _ (FG.out _))) | fail) | quiet_step (first | (go_at_call 51; exact zJ hF1 hF2 (KZ.out _ (FG.out _))) | fail)
  refine wpQuiet_nil ?_
  rintro _ ⟨uW, rfl⟩
  have B8 := zO B7 (hF1 uW)
  obtain ⟨AJ, Ae, Af, Al⟩ := qT (hF1 uW) Ai An Am Ad
  obtain ⟨w8, hw⟩ : ∃ V, F uW = V := ⟨_, rfl⟩
  rw [hw] at B8 AJ Ae Af Al
  try rw [hw]
  clear hw hF1 hF2 B7 fx_0 fx_1 fx_2 fx_3 fl_0 fl_1 fh_0 fh_1 fn_0 fn_1 fn_2 fn_3 fn_4 Ai Bq Br Bs Bt An Bu Bv Am Bw Bx Ad By Bz BA BB BC
  clear FG
  clear F
  obtain ⟨Cc, Cd, Ce, Cf⟩ := zC AJ
  obtain ⟨Cg, Ch⟩ := zF Ae
  obtain ⟨Ci, Cj⟩ := zF Af
  have Ck := zE Al 0 _ rfl
  have Cl := zE Al 1 _ rfl
  have Cm := zE Al 2 _ rfl
  have Cn := zE Al 3 _ rfl
  have Co := zE Al 4 _ rfl
  have HH := zH (And.intro S3.out (And.intro Aa.out (And.intro Ab.out Ac.out)))
  have sTA : zS (∀ W : World, (Below w.heap.size w W ∧ W.heap[w.heap.size + 1]? = some (.cells #[.int .u64 u1, .int .u64 v1] 25) ∧ W.heap[w.heap.size + 1 + 1]? = some (.cells #[.int .u64 u2, .int .u64 v2] 25) ∧ W.cell? ⟨w.heap.size + 1, 0, none⟩ = some (.int .u64 u1) ∧ W.cell? ⟨w.heap.size + 1, 1, none⟩ = some (.int .u64 v1) ∧ W.cell? ⟨w.heap.size + 1 + 1, 0, none⟩ = some (.int .u64 u2) ∧ W.cell? ⟨w.heap.size + 1 + 1, 1, none⟩ = some (.int .u64 v2) ∧ W.frozen? ⟨w.heap.size + 1, 0, none⟩ = false ∧ W.frozen? ⟨w.heap.size + 1, 1, none⟩ = false ∧ W.frozen? ⟨w.heap.size + 1 + 1, 0, none⟩ = false ∧ W.frozen? ⟨w.heap.size + 1 + 1, 1, none⟩ = false) → (Below w.heap.size w ((W.setCell ⟨w.heap.size + 1, 0, none⟩ (.int .u64 u1)).setCell ⟨w.heap.size + 1, 1, none⟩ (.int .u64 v1)) ∧ ((W.setCell ⟨w.heap.size + 1, 0, none⟩ (.int .u64 u1)).setCell ⟨w.heap.size + 1, 1, none⟩ (.int .u64 v1)).heap[w.heap.size + 1]? = some (.cells #[.int .u64 u1, .int .u64 v1] 25) ∧ ((W.setCell ⟨w.heap.size + 1, 0, none⟩ (.int .u64 u1)).setCell ⟨w.heap.size + 1, 1, none⟩ (.int .u64 v1)).heap[w.heap.size + 1 + 1]? = some (.cells #[.int .u64 u2, .int .u64 v2] 25) ∧ ((W.setCell ⟨w.heap.size + 1, 0, none⟩ (.int .u64 u1)).setCell ⟨w.heap.size + 1, 1, none⟩ (.int .u64 v1)).cell? ⟨w.heap.size + 1, 0, none⟩ = some (.int .u64 u1) ∧ ((W.setCell ⟨w.heap.size + 1, 0, none⟩ (.int .u64 u1)).setCell ⟨w.heap.size + 1, 1, none⟩ (.int .u64 v1)).cell? ⟨w.heap.size + 1, 1, none⟩ = some (.int .u64 v1) ∧ ((W.setCell ⟨w.heap.size + 1, 0, none⟩ (.int .u64 u1)).setCell ⟨w.heap.size + 1, 1, none⟩ (.int .u64 v1)).cell? ⟨w.heap.size + 1 + 1, 0, none⟩ = some (.int .u64 u2) ∧ ((W.setCell ⟨w.heap.size + 1, 0, none⟩ (.int .u64 u1)).setCell ⟨w.heap.size + 1, 1, none⟩ (.int .u64 v1)).cell? ⟨w.heap.size + 1 + 1, 1, none⟩ = some (.int .u64 v2) ∧ ((W.setCell ⟨w.heap.size + 1, 0, none⟩ (.int .u64 u1)).setCell ⟨w.heap.size + 1, 1, none⟩ (.int .u64 v1)).frozen? ⟨w.heap.size + 1, 0, none⟩ = false ∧ ((W.setCell ⟨w.heap.size + 1, 0, none⟩ (.int .u64 u1)).setCell ⟨w.heap.size + 1, 1, none⟩ (.int .u64 v1)).frozen? ⟨w.heap.size + 1, 1, none⟩ = false ∧ ((W.setCell ⟨w.heap.size + 1, 0, none⟩ (.int .u64 u1)).setCell ⟨w.heap.size + 1, 1, none⟩ (.int .u64 v1)).frozen? ⟨w.heap.size + 1 + 1, 0, none⟩ = false ∧ ((W.setCell ⟨w.heap.size + 1, 0, none⟩ (.int .u64 u1)).setCell ⟨w.heap.size + 1, 1, none⟩ (.int .u64 v1)).frozen? ⟨w.heap.size + 1 + 1, 1, none⟩ = false)) := zH (fun W h => ⟨zY h.1 (show w.heap.size ≤ w.heap.size + 1 by first | exact Nat.le_refl _ | omega | (have := HH.out; omega)) _ _, yJ h.2.1 (.int .u64 u1) (.int .u64 v1), (zG (by first | omega | (have := HH.out; omega))).trans ((zG (by first | omega | (have := HH.out; omega))).trans h.2.2.1), zL (yJ h.2.1 (.int .u64 u1) (.int .u64 v1)) 0 _ rfl, zL (yJ h.2.1 (.int .u64 u1) (.int .u64 v1)) 1 _ rfl, zL ((zG (by first | omega | (have := HH.out; omega))).trans ((zG (by first | omega | (have := HH.out; omega))).trans h.2.2.1)) 0 _ rfl, zL ((zG (by first | omega | (have := HH.out; omega))).trans ((zG (by first | omega | (have := HH.out; omega))).trans h.2.2.1)) 1 _ rfl, fz (k := 0) (yJ h.2.1 (.int .u64 u1) (.int .u64 v1)), fz (k := 1) (yJ h.2.1 (.int .u64 u1) (.int .u64 v1)), fz (k := 0) ((zG (by first | omega | (have := HH.out; omega))).trans ((zG (by first | omega | (have := HH.out; omega))).trans h.2.2.1)), fz (k := 1) ((zG (by first | omega | (have := HH.out; omega))).trans ((zG (by first | omega | (have := HH.out; omega))).trans h.2.2.1))⟩)
  have HH := zH (And.intro S3.out (And.intro Aa.out (And.intro Ab.out Ac.out)))
  have sTB : zS (∀ W : World, (Below w.heap.size w W ∧ W.heap[w.heap.size + 1]? = some (.cells #[.int .u64 u1, .int .u64 v1] 25) ∧ W.heap[w.heap.size + 1 + 1]? = some (.cells #[.int .u64 u2, .int .u64 v2] 25) ∧ W.cell? ⟨w.heap.size + 1, 0, none⟩ = some (.int .u64 u1) ∧ W.cell? ⟨w.heap.size + 1, 1, none⟩ = some (.int .u64 v1) ∧ W.cell? ⟨w.heap.size + 1 + 1, 0, none⟩ = some (.int .u64 u2) ∧ W.cell? ⟨w.heap.size + 1 + 1, 1, none⟩ = some (.int .u64 v2) ∧ W.frozen? ⟨w.heap.size + 1, 0, none⟩ = false ∧ W.frozen? ⟨w.heap.size + 1, 1, none⟩ = false ∧ W.frozen? ⟨w.heap.size + 1 + 1, 0, none⟩ = false ∧ W.frozen? ⟨w.heap.size + 1 + 1, 1, none⟩ = false) → (Below w.heap.size w ((W.setCell ⟨w.heap.size + 1 + 1, 0, none⟩ (.int .u64 u2)).setCell ⟨w.heap.size + 1 + 1, 1, none⟩ (.int .u64 v2)) ∧ ((W.setCell ⟨w.heap.size + 1 + 1, 0, none⟩ (.int .u64 u2)).setCell ⟨w.heap.size + 1 + 1, 1, none⟩ (.int .u64 v2)).heap[w.heap.size + 1]? = some (.cells #[.int .u64 u1, .int .u64 v1] 25) ∧ ((W.setCell ⟨w.heap.size + 1 + 1, 0, none⟩ (.int .u64 u2)).setCell ⟨w.heap.size + 1 + 1, 1, none⟩ (.int .u64 v2)).heap[w.heap.size + 1 + 1]? = some (.cells #[.int .u64 u2, .int .u64 v2] 25) ∧ ((W.setCell ⟨w.heap.size + 1 + 1, 0, none⟩ (.int .u64 u2)).setCell ⟨w.heap.size + 1 + 1, 1, none⟩ (.int .u64 v2)).cell? ⟨w.heap.size + 1, 0, none⟩ = some (.int .u64 u1) ∧ ((W.setCell ⟨w.heap.size + 1 + 1, 0, none⟩ (.int .u64 u2)).setCell ⟨w.heap.size + 1 + 1, 1, none⟩ (.int .u64 v2)).cell? ⟨w.heap.size + 1, 1, none⟩ = some (.int .u64 v1) ∧ ((W.setCell ⟨w.heap.size + 1 + 1, 0, none⟩ (.int .u64 u2)).setCell ⟨w.heap.size + 1 + 1, 1, none⟩ (.int .u64 v2)).cell? ⟨w.heap.size + 1 + 1, 0, none⟩ = some (.int .u64 u2) ∧ ((W.setCell ⟨w.heap.size + 1 + 1, 0, none⟩ (.int .u64 u2)).setCell ⟨w.heap.size + 1 + 1, 1, none⟩ (.int .u64 v2)).cell? ⟨w.heap.size + 1 + 1, 1, none⟩ = some (.int .u64 v2) ∧ ((W.setCell ⟨w.heap.size + 1 + 1, 0, none⟩ (.int .u64 u2)).setCell ⟨w.heap.size + 1 + 1, 1, none⟩ (.int .u64 v2)).frozen? ⟨w.heap.size + 1, 0, none⟩ = false ∧ ((W.setCell ⟨w.heap.size + 1 + 1, 0, none⟩ (.int .u64 u2)).setCell ⟨w.heap.size + 1 + 1, 1, none⟩ (.int .u64 v2)).frozen? ⟨w.heap.size + 1, 1, none⟩ = false ∧ ((W.setCell ⟨w.heap.size + 1 + 1, 0, none⟩ (.int .u64 u2)).setCell ⟨w.heap.size + 1 + 1, 1, none⟩ (.int .u64 v2)).frozen? ⟨w.heap.size + 1 + 1, 0, none⟩ = false ∧ ((W.setCell ⟨w.heap.size + 1 + 1, 0, none⟩ (.int .u64 u2)).setCell ⟨w.heap.size + 1 + 1, 1, none⟩ (.int .u64 v2)).frozen? ⟨w.heap.size + 1 + 1, 1, none⟩ = false)) := zH (fun W h => ⟨zY h.1 (show w.heap.size ≤ w.heap.size + 1 + 1 by first | exact Nat.le_refl _ | omega | (have := HH.out; omega)) _ _, (zG (by first | omega | (have := HH.out; omega))).trans ((zG (by first | omega | (have := HH.out; omega))).trans h.2.1), yJ h.2.2.1 (.int .u64 u2) (.int .u64 v2), zL ((zG (by first | omega | (have := HH.out; omega))).trans ((zG (by first | omega | (have := HH.out; omega))).trans h.2.1)) 0 _ rfl, zL ((zG (by first | omega | (have := HH.out; omega))).trans ((zG (by first | omega | (have := HH.out; omega))).trans h.2.1)) 1 _ rfl, zL (yJ h.2.2.1 (.int .u64 u2) (.int .u64 v2)) 0 _ rfl, zL (yJ h.2.2.1 (.int .u64 u2) (.int .u64 v2)) 1 _ rfl, fz (k := 0) ((zG (by first | omega | (have := HH.out; omega))).trans ((zG (by first | omega | (have := HH.out; omega))).trans h.2.1)), fz (k := 1) ((zG (by first | omega | (have := HH.out; omega))).trans ((zG (by first | omega | (have := HH.out; omega))).trans h.2.1)), fz (k := 0) (yJ h.2.2.1 (.int .u64 u2) (.int .u64 v2)), fz (k := 1) (yJ h.2.2.1 (.int .u64 u2) (.int .u64 v2))⟩)
  have s0 : Below w.heap.size w (w8).drew ∧ (w8).drew.heap[w.heap.size + 1]? = some (.cells #[.int .u64 u1, .int .u64 v1] 25) ∧ (w8).drew.heap[w.heap.size + 1 + 1]? = some (.cells #[.int .u64 u2, .int .u64 v2] 25) ∧ (w8).drew.cell? ⟨w.heap.size + 1, 0, none⟩ = some (.int .u64 u1) ∧ (w8).drew.cell? ⟨w.heap.size + 1, 1, none⟩ = some (.int .u64 v1) ∧ (w8).drew.cell? ⟨w.heap.size + 1 + 1, 0, none⟩ = some (.int .u64 u2) ∧ (w8).drew.cell? ⟨w.heap.size + 1 + 1, 1, none⟩ = some (.int .u64 v2) ∧ (w8).drew.frozen? ⟨w.heap.size + 1, 0, none⟩ = false ∧ (w8).drew.frozen? ⟨w.heap.size + 1, 1, none⟩ = false ∧ (w8).drew.frozen? ⟨w.heap.size + 1 + 1, 0, none⟩ = false ∧ (w8).drew.frozen? ⟨w.heap.size + 1 + 1, 1, none⟩ = false := ⟨B8.drew, Ae, Af, zL (Ae) 0 _ rfl, zL (Ae) 1 _ rfl, zL (Af) 0 _ rfl, zL (Af) 1 _ rfl, fz (k := 0) (Ae), fz (k := 1) (Ae), fz (k := 0) (Af), fz (k := 1) (Af)⟩
  have s1 := sTA.out _ s0
  have s2 := sTB.out _ s1
  have hA0 := fz (k := 0) (s0.2.1)
  have hA1 := fz (k := 1) (s0.2.1)
  have hB0 := fz (k := 0) (s1.2.2.1)
  have hB1 := fz (k := 1) (s1.2.2.1)
  have il0 := fz (k := 0) Ae
  have il1 := fz (k := 1) Ae
  have ih0 := fz (k := 0) Af
  have ih1 := fz (k := 1) Af
  go_wp2_with fail
  go_region_held3 (fun W => Below w.heap.size w W ∧ W.heap[w.heap.size + 1]? = some (.cells #[.int .u64 u1, .int .u64 v1] 25) ∧ W.heap[w.heap.size + 1 + 1]? = some (.cells #[.int .u64 u2, .int .u64 v2] 25) ∧ W.cell? ⟨w.heap.size + 1, 0, none⟩ = some (.int .u64 u1) ∧ W.cell? ⟨w.heap.size + 1, 1, none⟩ = some (.int .u64 v1) ∧ W.cell? ⟨w.heap.size + 1 + 1, 0, none⟩ = some (.int .u64 u2) ∧ W.cell? ⟨w.heap.size + 1 + 1, 1, none⟩ = some (.int .u64 v2) ∧ W.frozen? ⟨w.heap.size + 1, 0, none⟩ = false ∧ W.frozen? ⟨w.heap.size + 1, 1, none⟩ = false ∧ W.frozen? ⟨w.heap.size + 1 + 1, 0, none⟩ = false ∧ W.frozen? ⟨w.heap.size + 1 + 1, 1, none⟩ = false) (first | exact s0 | exact s1 | exact s2)
   (fail)
  obtain ⟨D0, D1, D2, D3, BV9⟩ := two_boxes B8 Ae Af (by first | omega | (have := S3.out; have := Aa.out; have := Ab.out; have := Ac.out; omega)) (show w.heap.size ≤ w.heap.size + 1 by first | exact Nat.le_refl _ | omega | (have := S3.out; have := Aa.out; have := Ab.out; have := Ac.out; omega)) (show w.heap.size ≤ w.heap.size + 1 + 1 by first | exact Nat.le_refl _ | omega | (have := S3.out; have := Aa.out; have := Ab.out; have := Ac.out; omega)) (.int .u64 u1) (.int .u64 v1) (.int .u64 u2) (.int .u64 v2)
  obtain ⟨V9, hV9⟩ : ∃ V, ((((w8.setCell ⟨w.heap.size + 1, 0, none⟩ (.int .u64 u1)).setCell ⟨w.heap.size + 1, 1, none⟩ (.int .u64 v1)).setCell ⟨w.heap.size + 1 + 1, 0, none⟩ (.int .u64 u2)).setCell ⟨w.heap.size + 1 + 1, 1, none⟩ (.int .u64 v2)).drew = V := ⟨_, rfl⟩
  rw [hV9] at D0 D1 D2 D3 BV9 ⊢
  clear s0 s1 s2 sTA sTB hA0 hA1 hB0 hB1 hV9 il0 il1 ih0 ih1
  go_wp2
  exact bodyPost_ret (v := .tuple #[.agg #[.int .u64 u1, .int .u64 v1], .agg #[.int .u64 u2, .int .u64 v2], .int .i64 0]) (by simp [results, Tryz.results19, go_sem, D0, D1, D2, D3]) rfl ⟨rfl, BV9⟩
end Go.Proofs.YtkblmpmkchkpjaaGreatDoor
namespace Go.Proofs.YtkblmpmkchkpjaaGreatDoor
set_option maxRecDepth 100000
set_option maxHeartbeats 40000000
open Go.RowKit WMath XMath
set_option linter.unusedSimpArgs false
set_option linter.unusedVariables false
def qJ (f : Int) (M : Nat) : Nat := if M = jA f true then 0 else M
theorem kC_null {f : Int} (hf : xH f) (neg : Bool) (e t : Nat) (he : e ≤ oV f) (ht : t < 2 ^ pV f) : (kC f (yQ f neg e t) = 3 ∨ kC f (yQ f neg e t) = 4) ↔ (e = 0 ∧ t = 0) := by
 obtain ⟨a, b, c, d⟩ := qC hf neg he ht
 have o := (nm8 hf).2.1
 unfold kC
 rw [b, c, d]
 constructor
 ·
  intro h
  by_cases c1 : e = oV f
  ·
   rw [if_pos c1] at h
   exfalso
   revert h
   (repeat' split) <;> omega
  ·
   rw [if_neg c1] at h
   by_cases c2 : e = 0
   ·
    rw [if_neg (by omega)] at h
    by_cases c3 : t = 0
    ·
     exact ⟨c2, c3⟩
    ·
     rw [if_pos c3] at h
     exfalso
     revert h
     split <;> omega
   ·
    rw [if_pos c2] at h
    exfalso
    revert h
    split <;> omega
 ·
  rintro ⟨rfl, rfl⟩
  rw [if_neg (by omega), if_neg (by omega), if_neg (by omega)]
  cases neg <;> simp
theorem nz_enc {f : Int} (hf : xH f) (neg : Bool) (e t : Nat) (he : e ≤ oV f) (ht : t < 2 ^ pV f) : qJ f (yQ f neg e t) = (if e = 0 ∧ t = 0 then 0 else yQ f neg e t) := by
 unfold qJ
 by_cases h : e = 0 ∧ t = 0
 ·
  rw [if_pos h]
  obtain ⟨rfl, rfl⟩ := h
  cases neg
  ·
   split
   ·
    rfl
   ·
    unfold yQ
    simp
  ·
   rw [if_pos (show yQ f true 0 0 = jA f true from rfl)]
 ·
  rw [if_neg h, if_neg]
  intro q
  unfold jA at q
  obtain ⟨a, b, c, d⟩ := qC hf neg he ht
  obtain ⟨a', b', c', d'⟩ := qC hf true (e := 0) (t := 0) (by omega) (Nat.two_pow_pos _)
  rw [q] at c d
  exact h ⟨by omega, by omega⟩
theorem low_ne {f : Int} (hf : xH f) {W : Nat} (hW : Wok f W) (neg : Bool) (T : Int) (more : Bool) : (dlv f 2 neg T W more).1 ≠ jA f true := by
 obtain ⟨e, t, fl, h1, h2, h2b, h3, h4⟩ := dlv_enc hf hW 2 neg T more
 intro q
 rw [h3] at q
 have q : yQ f neg e t = jA f true := q
 unfold jA at q
 obtain ⟨a, b, c, d⟩ := qC hf neg h1 h2
 obtain ⟨a', b', c', d'⟩ := qC hf true (e := 0) (t := 0) (by omega) (Nat.two_pow_pos _)
 rw [q] at b c d
 obtain rfl : true = neg := by rw [← b', b]
 obtain rfl : 0 = e := by rw [← c', c]
 obtain rfl : 0 = t := by rw [← d', d]
 have lim := rG_lim hW 2 true (dK f T) more
 unfold dlv at h3
 split at h3
 ·
  injection h3 with h5 h6
  have o := (nm8 hf).2.1
  unfold ovB at h5
  split at h5
  ·
   obtain ⟨_, _, x, _⟩ := qC hf true (e := oV f) (t := 0) (Nat.le_refl _) (Nat.two_pow_pos _)
   unfold eInf at h5
   rw [h5] at x
   omega
  ·
   obtain ⟨_, _, x, y⟩ := qC hf true (e := oV f - 1) (t := 2 ^ pV f - 1) (by omega) (by have := Nat.two_pow_pos (pV f); omega)
   unfold qH at h5
   rw [h5] at x y
   have := (fm hf).2.2.2.1
   have := (fm hf).2.2.1
   omega
 ·
  injection h3 with h5 h6
  unfold eS yQ at h5
  have s0 : rG 2 true W (dK f T) more = 0 := by omega
  obtain ⟨k3, kl⟩ := null_lim hf hW 2 true (dK f T) more s0
  unfold rG at s0
  rw [if_pos] at s0
  ·
   omega
  ·
   unfold gO
   rw [if_neg (by decide), if_neg (by decide), if_pos rfl, kl]
   rfl
theorem near_ne {a b c d : Nat} (h : ¬ (a = c ∧ b = d)) : (((a : Nat) : Int) == ((c : Nat) : Int)) = false ∧ decide (a = c) = false ∨ a = c ∧ ((((b : Nat) : Int) == ((d : Nat) : Int)) = false ∧ decide (b = d) = false) := by
 by_cases q : a = c
 ·
  exact Or.inr ⟨q, by rw [beq_eq_false_iff_ne]; omega, by rw [decide_eq_false_iff_not]; omega⟩
 ·
  exact Or.inl ⟨by rw [beq_eq_false_iff_ne]; omega, by rw [decide_eq_false_iff_not]; omega⟩
theorem zero_bits {f : Int} (hf : xH f) : jA f true ≠ 0 ∧ jA f true < 340282366920938463463374607431768211456 := by
 have h := (fm hf).2.2.2.2.2.2
 have p := Nat.two_pow_pos (wV f)
 rw [ezero_is]
 omega
theorem k_zero0 (f : Int) (hf : xH f) (w : World) (hT : yF w) : Calls Tryz.prog 51 #[.int .u8 f, .bool false] w fun r w' => r = .returned (.agg #[.int .u64 0, .int .u64 0]) ∧ Below w.heap.size w w' := sk_zero f false hf 0 0 (by rcases hf with rfl | rfl | rfl | rfl <;> decide +kernel) w hT
theorem gO_left {m : Int} {neg o h mo : Bool} (q : gO m neg o h mo = true) : (h || mo) = true ∧ gO m neg false true true = true := by
 unfold gO at q ⊢
 by_cases c0 : m = 0
 ·
  rw [if_pos c0] at q ⊢
  cases h <;> cases mo <;> simp_all
 rw [if_neg c0] at q ⊢
 by_cases c4 : m = 4
 ·
  rw [if_pos c4] at q ⊢
  cases h <;> cases mo <;> simp_all
 rw [if_neg c4] at q ⊢
 by_cases c2 : m = 2
 ·
  rw [if_pos c2] at q ⊢
  cases h <;> cases mo <;> cases neg <;> simp_all
 rw [if_neg c2] at q ⊢
 by_cases c3 : m = 3
 ·
  rw [if_pos c3] at q ⊢
  cases h <;> cases mo <;> cases neg <;> simp_all
 rw [if_neg c3] at q
 exact absurd q (by decide)
theorem gO_two (neg o h mo : Bool) : gO 2 neg o h mo = ((h || mo) && neg) := by unfold gO; rw [if_neg (by decide), if_neg (by decide), if_pos rfl]
theorem gO_three (neg o h mo : Bool) : gO 3 neg o h mo = ((h || mo) && !neg) := by unfold gO; rw [if_neg (by decide), if_neg (by decide), if_neg (by decide), if_pos rfl]
theorem gO_one (neg o h mo : Bool) : gO 1 neg o h mo = false := by unfold gO; rw [if_neg (by decide), if_neg (by decide), if_neg (by decide), if_neg (by decide)]
theorem blen_succ (S : Nat) : z7 S ≤ z7 (S + 1) := (y6 _ _).2 (by have := xN (S + 1); omega)
def dG (f : Int) (neg inf I : Bool) (T : Int) (tn : Bool) (G : Nat) : Nat × Int :=
  if fE f < stE f T - fP f + (z7 G : Int) then (if inf = true then eInf f neg else qH f neg, 5) else (eS f neg (dJ f T) G, if I = true then (if tn = true then 3 else 1) else 0)
theorem dlv_dG (f m : Int) (neg : Bool) (T : Int) (W : Nat) (more : Bool) : dlv f m neg T W more = dG f neg (gO m neg false true true) (rH W (dK f T) || rM W (dK f T) more) T (tnB f m neg T W more) (if gO m neg (rO W (dK f T)) (rH W (dK f T)) (rM W (dK f T) more) = true then rS W (dK f T) + 1 else rS W (dK f T)) := rfl
theorem inf_gr {f : Int} (hf : xH f) (neg : Bool) : eInf f neg ≠ qH f neg := fun q => by
 obtain ⟨a, b, c, d⟩ := qC hf neg (e := oV f) (t := 0) (by omega) (Nat.two_pow_pos _)
 obtain ⟨a', b', c', d'⟩ := qC hf neg (e := oV f - 1) (t := 2 ^ pV f - 1) (by omega) (by have := Nat.two_pow_pos (pV f); omega)
 have q : yQ f neg (oV f) 0 = yQ f neg (oV f - 1) (2 ^ pV f - 1) := q
 rw [q, c'] at c
 have := (nm8 hf).2.1
 omega
theorem eS_inf {f : Int} (hf : xH f) (neg : Bool) (j S : Nat) (hS : S ≤ 2 * 2 ^ pV f) (hj : j = 0 ∨ 2 ^ pV f ≤ S) (ht : lx f + (j : Int) - 1 + (z7 S : Int) ≤ fE f) : eInf f neg ≠ eS f neg j S := fun q => by
 obtain ⟨e, t, h1, h2, h3⟩ := eS_enc hf j S hS hj ht
 obtain ⟨a, b, c, d⟩ := qC hf neg (e := oV f) (t := 0) (by omega) (Nat.two_pow_pos _)
 obtain ⟨a', b', c', d'⟩ := qC hf neg (e := e) (t := t) (by omega) h2
 have q : yQ f neg (oV f) 0 = eS f neg j S := q
 rw [q, h3 neg, c'] at c
 omega
theorem near_raw {f : Int} (hf : xH f) {W : Nat} (hW : Wok f W) (m : Int) (neg : Bool) (T : Int) (more : Bool) (M fl L Hh : Int) (b lo hi : Nat) (l2 h2 : Int) (hb : dlv f m neg T W more = (b, fl)) (hlo : dlv f 2 neg T W more = (lo, l2)) (hhi : dlv f 3 neg T W more = (hi, h2)) :
  (b = lo ∨ b = hi) ∧ (fl = 0 ↔ lo = hi) ∧ (fl = 0 ∨ fl = 1 ∨ fl = 3 ∨ fl = 5) ∧ (m = 1 → b = if neg = true then hi else lo) := by
 obtain ⟨s1, s2, s3⟩ := rS_lim hW (dK f T)
 have sl := st_lx hf T
 have hjk := jk (f := f) T
 obtain ⟨k, hk⟩ : ∃ k, dK f T = k := ⟨_, rfl⟩
 obtain ⟨j, hj⟩ : ∃ k, dJ f T = k := ⟨_, rfl⟩
 rw [dlv_dG] at hb hlo hhi
 rw [gO_two, gO_two] at hlo
 rw [gO_three, gO_three] at hhi
 have g1 := gO_one neg (rO W k) (rH W k) (rM W k more)
 have gl := fun q => gO_left (m := m) (neg := neg) (o := rO W k) (h := rH W k) (mo := rM W k more) q
 rw [hk] at hb hlo hhi s1 s2 s3 hjk
 rw [hj] at hjk sl
 obtain ⟨S, hS⟩ : ∃ S, rS W k = S := ⟨_, rfl⟩
 obtain ⟨I, hI⟩ : ∃ I, (rH W k || rM W k more) = I := ⟨_, rfl⟩
 obtain ⟨g, hg⟩ : ∃ g, gO m neg (rO W k) (rH W k) (rM W k more) = g := ⟨_, rfl⟩
 obtain ⟨i, hi'⟩ : ∃ g, gO m neg false true true = g := ⟨_, rfl⟩
 obtain ⟨t0, ht0⟩ : ∃ t, tnB f m neg T W more = t := ⟨_, rfl⟩
 obtain ⟨t2, ht2⟩ : ∃ t, tnB f 2 neg T W more = t := ⟨_, rfl⟩
 obtain ⟨t3, ht3⟩ : ∃ t, tnB f 3 neg T W more = t := ⟨_, rfl⟩
 rw [hg, hI, hi', hS, ht0] at hb
 rw [hI, hS, ht2] at hlo
 rw [hI, hS, ht3] at hhi
 rw [hS] at s1 s2 s3
 rw [hg, hi', hI] at gl
 have m1 : m = 1 → g = false := fun q => by subst q; rw [← hg]; exact g1
 have mi : m = 1 → i = false := fun q => by subst q; rw [← hi']; exact gO_one _ _ _ _
 clear g1 hg hi' hI hS ht0 ht2 ht3
 have ig := inf_gr hf neg
 have ov := blen_succ S
 have jS : j = 0 ∨ 2 ^ pV f ≤ S := by rcases hjk with q | q <;> omega
 have e0 := fun q => eS_inf hf neg j S (by omega) jS q
 have e1 := fun q => eS_inf hf neg j (S + 1) (by omega) (by omega) q
 have ne : eS f neg j S ≠ eS f neg j (S + 1) := by unfold eS; omega
 unfold dG at hb hlo hhi
 rw [hj] at hb hlo hhi
 cases I
 ·
  have g0 : g = false := by
   cases g
   ·
    rfl
   ·
    exact absurd (gl rfl).1 (by decide)
  subst g0
  simp only [Bool.false_and, Bool.false_eq_true, if_false, Bool.true_or, Bool.true_and] at hb hlo hhi
  by_cases o : fE f < stE f T - fP f + (z7 S : Int)
  ·
   rw [if_pos o] at hb hlo hhi
   cases neg
   ·
    simp only [Bool.not_false, Bool.not_true, Bool.false_eq_true, if_true, if_false] at hb hlo hhi ⊢
    injection hb with b1 b2
    injection hlo with l1 l2'
    injection hhi with h1 h2'
    refine ⟨?_, ⟨fun q => absurd q (by omega), fun q => ?_⟩, by omega, fun q => ?_⟩
    ·
     rw [← b1, ← l1, ← h1]
     cases i <;> simp
    ·
     rw [← l1, ← h1] at q
     exact absurd q.symm ig
    ·
     rw [mi q] at b1
     rw [← b1, ← l1]
     rfl
   ·
    simp only [Bool.not_false, Bool.not_true, Bool.false_eq_true, if_true, if_false] at hb hlo hhi ⊢
    injection hb with b1 b2
    injection hlo with l1 l2'
    injection hhi with h1 h2'
    refine ⟨?_, ⟨fun q => absurd q (by omega), fun q => ?_⟩, by omega, fun q => ?_⟩
    ·
     rw [← b1, ← l1, ← h1]
     cases i <;> simp
    ·
     rw [← l1, ← h1] at q
     exact absurd q ig
    ·
     rw [mi q] at b1
     rw [← b1, ← h1]
     rfl
  ·
   rw [if_neg o] at hb hlo hhi
   simp only [Prod.mk.injEq] at hb hlo hhi
   obtain ⟨rfl, rfl⟩ := hb
   obtain ⟨rfl, rfl⟩ := hlo
   obtain ⟨rfl, rfl⟩ := hhi
   exact ⟨by simp, by simp, by simp, fun _ => by simp⟩
 ·
  have fl0 : fl ≠ 0 ∧ (fl = 0 ∨ fl = 1 ∨ fl = 3 ∨ fl = 5) := by
   obtain ⟨G, hG⟩ : ∃ G, (if g = true then S + 1 else S) = G := ⟨_, rfl⟩
   have hb2 := hb
   rw [hG] at hb2
   by_cases o : fE f < stE f T - fP f + (z7 G : Int)
   ·
    rw [if_pos o] at hb2
    injection hb2 with q1 q2
    omega
   ·
    rw [if_neg o] at hb2
    injection hb2 with q1 q2
    cases t0 <;> simp at q2 <;> omega
  have od : lo ≠ hi ∧ (g = true → b = (if neg = true then lo else hi)) ∧ (g = false → b = lo ∨ b = hi) ∧ (g = false → i = false → b = if neg = true then hi else lo) := by
   cases neg
   ·
    simp only [Bool.and_false, Bool.not_false, Bool.and_true, Bool.true_or, Bool.true_and, Bool.false_eq_true, if_true, if_false] at hb hlo hhi ⊢
    by_cases o1 : fE f < stE f T - fP f + (z7 (S + 1) : Int)
    ·
     rw [if_pos o1] at hhi
     injection hhi with q1 q2
     by_cases o : fE f < stE f T - fP f + (z7 S : Int)
     ·
      rw [if_pos o] at hlo
      injection hlo with q3 q4
      refine ⟨by rw [← q1, ← q3]; exact ig.symm, fun gt => ?_, fun gf => ?_, fun gf jf => ?_⟩
      ·
       subst gt
       rw [if_pos rfl, if_pos o1, if_pos (gl rfl).2] at hb
       injection hb with q5 q6
       rw [← q5, q1]
      ·
       subst gf
       rw [if_neg (show ¬ (false = true) by decide), if_pos o] at hb
       injection hb with q5 q6
       rw [← q5, ← q1, ← q3]
       cases i <;> simp
      ·
       subst gf jf
       rw [if_neg (show ¬ (false = true) by decide), if_pos o] at hb
       injection hb with q5 q6
       rw [← q5, ← q3]
       rfl
     ·
      rw [if_neg o] at hlo
      injection hlo with q3 q4
      refine ⟨by rw [← q1, ← q3]; exact (e0 (by omega)).symm, fun gt => ?_, fun gf => ?_, fun gf jf => ?_⟩
      ·
       subst gt
       rw [if_pos rfl, if_pos o1, if_pos (gl rfl).2] at hb
       injection hb with q5 q6
       rw [← q5, q1]
      ·
       subst gf
       rw [if_neg (show ¬ (false = true) by decide), if_neg o] at hb
       injection hb with q5 q6
       exact Or.inl (by rw [← q5, q3])
      ·
       subst gf
       rw [if_neg (show ¬ (false = true) by decide), if_neg o] at hb
       injection hb with q5 q6
       rw [← q5, q3]
    ·
     have o : ¬ fE f < stE f T - fP f + (z7 S : Int) := by omega
     rw [if_neg o1] at hhi
     rw [if_neg o] at hlo
     injection hhi with q1 q2
     injection hlo with q3 q4
     refine ⟨by rw [← q1, ← q3]; exact ne, fun gt => ?_, fun gf => ?_, fun gf jf => ?_⟩
     ·
      subst gt
      rw [if_pos rfl, if_neg o1] at hb
      injection hb with q5 q6
      rw [← q5, q1]
     ·
      subst gf
      rw [if_neg (show ¬ (false = true) by decide), if_neg o] at hb
      injection hb with q5 q6
      exact Or.inl (by rw [← q5, q3])
     ·
      subst gf
      rw [if_neg (show ¬ (false = true) by decide), if_neg o] at hb
      injection hb with q5 q6
      rw [← q5, q3]
   ·
    simp only [Bool.and_false, Bool.not_true, Bool.and_true, Bool.true_or, Bool.true_and, Bool.false_eq_true, if_true, if_false] at hb hlo hhi ⊢
    by_cases o1 : fE f < stE f T - fP f + (z7 (S + 1) : Int)
    ·
     rw [if_pos o1] at hlo
     injection hlo with q1 q2
     by_cases o : fE f < stE f T - fP f + (z7 S : Int)
     ·
      rw [if_pos o] at hhi
      injection hhi with q3 q4
      refine ⟨by rw [← q1, ← q3]; exact ig, fun gt => ?_, fun gf => ?_, fun gf jf => ?_⟩
      ·
       subst gt
       rw [if_pos rfl, if_pos o1, if_pos (gl rfl).2] at hb
       injection hb with q5 q6
       rw [← q5, q1]
      ·
       subst gf
       rw [if_neg (show ¬ (false = true) by decide), if_pos o] at hb
       injection hb with q5 q6
       rw [← q5, ← q1, ← q3]
       cases i <;> simp
      ·
       subst gf jf
       rw [if_neg (show ¬ (false = true) by decide), if_pos o] at hb
       injection hb with q5 q6
       rw [← q5, ← q3]
       rfl
     ·
      rw [if_neg o] at hhi
      injection hhi with q3 q4
      refine ⟨by rw [← q1, ← q3]; exact (e0 (by omega)), fun gt => ?_, fun gf => ?_, fun gf jf => ?_⟩
      ·
       subst gt
       rw [if_pos rfl, if_pos o1, if_pos (gl rfl).2] at hb
       injection hb with q5 q6
       rw [← q5, q1]
      ·
       subst gf
       rw [if_neg (show ¬ (false = true) by decide), if_neg o] at hb
       injection hb with q5 q6
       exact Or.inr (by rw [← q5, q3])
      ·
       subst gf
       rw [if_neg (show ¬ (false = true) by decide), if_neg o] at hb
       injection hb with q5 q6
       rw [← q5, q3]
    ·
     have o : ¬ fE f < stE f T - fP f + (z7 S : Int) := by omega
     rw [if_neg o1] at hlo
     rw [if_neg o] at hhi
     injection hlo with q1 q2
     injection hhi with q3 q4
     refine ⟨by rw [← q1, ← q3]; exact ne.symm, fun gt => ?_, fun gf => ?_, fun gf jf => ?_⟩
     ·
      subst gt
      rw [if_pos rfl, if_neg o1] at hb
      injection hb with q5 q6
      rw [← q5, q1]
     ·
      subst gf
      rw [if_neg (show ¬ (false = true) by decide), if_neg o] at hb
      injection hb with q5 q6
      exact Or.inr (by rw [← q5, q3])
     ·
      subst gf
      rw [if_neg (show ¬ (false = true) by decide), if_neg o] at hb
      injection hb with q5 q6
      rw [← q5, q3]
  obtain ⟨o1, o2, o3, o4⟩ := od
  refine ⟨?_, ⟨fun q => absurd q fl0.1, fun q => absurd q o1⟩, fl0.2, fun q => o4 (m1 q) (mi q)⟩
  cases g
  ·
   exact o3 rfl
  ·
   have := o2 rfl
   rw [this]
   cases neg <;> simp
end Go.Proofs.YtkblmpmkchkpjaaGreatDoor
