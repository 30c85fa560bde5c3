/-
  What the functions that the statement reaches return: part 22 (U5).
-/
import Derived.Test.YtkblmpmkchkpjaaGreatDoorNe21
namespace Go.Proofs.YtkblmpmkchkpjaaGreatDoor
set_option maxRecDepth 100000
set_option maxHeartbeats 40000000
open Go.RowKit WMath XMath
set_option linter.unusedSimpArgs false
set_option linter.unusedVariables false
theorem nst_inf (f m : Int) (b : Bool) (s t : ByteArray) (e : Int) (o3 o4 : Bool) (g : Int) (bu bv lu lv hu hv : Nat) (fl : Int) (c : Nat) (e0 : Bool) (vb : Bool) (vn vd : ByteArray) (ve : Int) (w : World)
  (KS : zS (∀ w, Calls Tryz.prog 13 #[.agg #[.bool b, .string s, .string t, .int .i64 e]] w fun r w' => r = .returned (.bool true) ∧ Below w.heap.size w w'))
  (KM : zS (∀ w, Calls Tryz.prog 14 #[.agg #[.bool b, .string s, .string t, .int .i64 e]] w fun r w' => r = .returned (.bool true) ∧ Below w.heap.size w w'))
  (KF : zS (∀ w, Calls Tryz.prog 10 #[.int .u8 f] w fun r w' => r = .returned (.bool o3) ∧ Below w.heap.size w w'))
  (KO : zS (∀ w, Calls Tryz.prog 15 #[.int .u8 m] w fun r w' => r = .returned (.bool o4) ∧ Below w.heap.size w w'))
  (KG : zS (∀ w, zN w → Calls Tryz.prog 16 #[.agg #[.bool b, .string s, .string t, .int .i64 e]] w fun r w' => r = .returned (.int .i64 g) ∧ Below w.heap.size w w'))
  (h3 : o3 = true) (h4 : o4 = true) (hg : (g == 0) = false)
  (K1 : zS (∀ w, yF w → zN w → Calls Tryz.prog 18 #[.int .u8 f, .int .u8 m, .agg #[.bool b, .string s, .string t, .int .i64 e]] w fun r w' => r = .returned (.tuple #[.agg #[.int .u64 bu, .int .u64 bv], .int .u8 fl, .int .i64 0]) ∧ Below w.heap.size w w'))
  (K2 : zS (∀ w, yF w → zN w → Calls Tryz.prog 19 #[.int .u8 f, .agg #[.bool b, .string s, .string t, .int .i64 e]] w fun r w' => r = .returned (.tuple #[.agg #[.int .u64 lu, .int .u64 lv], .agg #[.int .u64 hu, .int .u64 hv], .int .i64 0]) ∧ Below w.heap.size w w'))
  (KC : zS (∀ w, yF w → Calls Tryz.prog 20 #[.int .u8 f, .agg #[.int .u64 bu, .int .u64 bv]] w fun r w' => r = .returned (.tuple #[.int .u8 c, .int .i64 0]) ∧ Below w.heap.size w w'))
  (KN : zS (∀ w, yF w → Calls Tryz.prog 21 #[.int .u8 f, .agg #[.int .u64 bu, .int .u64 bv]] w fun r w' => r = .returned (.bool (decide (g < 0))) ∧ Below w.heap.size w w'))
  (KA : zS (∀ w, yF w → zN w → Calls Tryz.prog 17 #[] w fun r w' => r = .returned (.bool true) ∧ Below w.heap.size w w'))
  (KV : zS (∀ w, yF w → zN w → Calls Tryz.prog 22 #[.int .u8 f, .agg #[.int .u64 bu, .int .u64 bv]] w fun r w' => r = .returned (.tuple #[.agg #[.bool vb, .string vn, .string vd, .int .i64 ve], .bool false]) ∧ Below w.heap.size w w'))
  (h4f : bits .and .u8 fl 4 = 4)
  (hm : ((m == 2) = false ∧ (m == 3) = false ∧ (m == 1) = false)) (he0 : (fl == 0) = e0) (hlh : yX (lu : Nat) (lv : Nat) (hu : Nat) (hv : Nat) = e0)
  (H : zS (((((c : Int) == 3) = false ∧ ((c : Int) == 4) = false ∧ bits .and .u8 fl 6 = 4 ∧ bits .and .u8 fl 1 = 1 ∧ yX (bu : Nat) (bv : Nat) (lu : Nat) (lv : Nat) = true) ∨ (((c : Int) == 3) = false ∧ ((c : Int) == 4) = false ∧ bits .and .u8 fl 6 = 4 ∧ bits .and .u8 fl 1 = 1 ∧ yX (bu : Nat) (bv : Nat) (lu : Nat) (lv : Nat) = false ∧ yX (bu : Nat) (bv : Nat) (hu : Nat) (hv : Nat) = true))))
  (hT : yF w) (hT2 : zN w) : Calls Tryz.prog 4 #[.int .u8 f, .int .u8 m, .agg #[.bool b, .string s, .string t, .int .i64 e]] w fun r w' => r = .returned (.bool true) ∧ Below w.heap.size w w' := by
 have FF := zH hT
 have TT := zH hT2
 clear hT hT2
 subst h3 h4
 have heb := eqb
 have hb1 : ∀ x : Bool, (x == x) = true := fun x => by cases x <;> rfl
 have hb2 : ∀ x : Bool, (x != x) = false := fun x => by cases x <;> rfl
 obtain ⟨m2, m3, m1⟩ := hm
 obtain ⟨AM, B0⟩ := yO w (Obj.cells #[.bool b, .string s, .string t, .int .i64 e] 41)
 go_enter Tryz.func4, Tryz.ntmps4
 go_wp2_with fail
 refine (KS.out _).mono ?_
 rintro r w1 ⟨rfl, b1⟩
 have B1 := zO B0 b1
 have Ap := zA b1 _ _ _ AM
 clear b1 B0 AM
 obtain ⟨AP, AQ, AR, AS⟩ := zC Ap
 go_wp2_with fail
 refine (KM.out _).mono ?_
 rintro r w2 ⟨rfl, b2⟩
 have B2 := zO B1 b2
 have Aq := zA b2 _ _ _ Ap
 clear b2 B1 Ap AP AQ AR AS
 obtain ⟨AT, AU, AV, AW⟩ := zC Aq
 go_wp2_with fail
 refine (KF.out _).mono ?_
 rintro r w3 ⟨rfl, b3⟩
 have B3 := zO B2 b3
 have Ar := zA b3 _ _ _ Aq
 clear b3 B2 Aq AT AU AV AW
 obtain ⟨AX, AY, AZ, A0⟩ := zC Ar
 go_wp2_with fail
 refine (KO.out _).mono ?_
 rintro r w4 ⟨rfl, b4⟩
 have B4 := zO B3 b4
 have As := zA b4 _ _ _ Ar
 clear b4 B3 Ar AX AY AZ A0
 obtain ⟨A1, A2, A3, A4⟩ := zC As
 go_wp2_with fail
 refine (KG.out _ (zV TT.out B4)).mono ?_
 rintro r w5 ⟨rfl, b5⟩
 have B5 := zO B4 b5
 have At := zA b5 _ _ _ As
 clear b5 B4 As A1 A2 A3 A4
 obtain ⟨A5, A6, A7, A8⟩ := zC At
 go_wp2_with fail
 refine (K1.out _ (zW FF.out B5) (zV TT.out B5)).mono ?_
 rintro r w6 ⟨rfl, b6⟩
 have B6 := zO B5 b6
 have Aa := zA b6 _ _ _ At
 clear b6 B5 At A5 A6 A7 A8
 obtain ⟨A9, Ba, Bb, Bc⟩ := zC Aa
 have S7 := zH B6.size
 have CL := z8 Aa
 have Au := heap_alloc_last w6 (Obj.cells #[.int .u64 bu, .int .u64 bv] 25)
 have B7 := zO B6 (yK w6 (Obj.cells #[.int .u64 bu, .int .u64 bv] 25))
 have Av := zA (yK w6 (Obj.cells #[.int .u64 bu, .int .u64 bv] 25)) _ _ _ Aa
 clear B6 Aa A9 Ba Bb Bc
 obtain ⟨Bd, Be, Bf, Bg⟩ := zC Av
 obtain ⟨Bh, Bi⟩ := zF Au
 go_wp2_with fail
 refine (K2.out _ (zW FF.out B7) (zV TT.out B7)).mono ?_
 rintro r w8 ⟨rfl, b8⟩
 have B8 := zO B7 b8
 obtain ⟨Ab, Ac⟩ := yB b8 Av Au
 clear b8 B7 Av Bd Be Bf Bg Au Bh Bi
 obtain ⟨Bj, Bk, Bl, Bm⟩ := zC Ab
 obtain ⟨Bn, Bo⟩ := zF Ac
 have S9 := zH B8.size
 have CM := z8 Ab
 have CN := z8 Ac
 have Ad := heap_alloc_last w8 (Obj.cells #[.int .u64 lu, .int .u64 lv] 25)
 have B9 := zO B8 (yK w8 (Obj.cells #[.int .u64 lu, .int .u64 lv] 25))
 obtain ⟨Ae, Af⟩ := yB (yK w8 (Obj.cells #[.int .u64 lu, .int .u64 lv] 25)) Ab Ac
 clear B8 Ab Bj Bk Bl Bm Ac Bn Bo
 obtain ⟨Bp, Bq, Br, Bs⟩ := zC Ae
 obtain ⟨Bt, Bu⟩ := zF Af
 obtain ⟨Bv, Bw⟩ := zF Ad
 have S10 := zH B9.size
 have CO := z8 Ae
 have CP := z8 Af
 have CQ := z8 Ad
 have Z10 := zH (zX w8 (Obj.cells #[.int .u64 lu, .int .u64 lv] 25))
 have Ag : ((w8.alloc (Obj.cells #[.int .u64 lu, .int .u64 lv] 25)).alloc (Obj.cells #[.int .u64 hu, .int .u64 hv] 25)).heap[w8.heap.size + 1]? = some (.cells #[.int .u64 hu, .int .u64 hv] 25) := by have := heap_alloc_last (w8.alloc (Obj.cells #[.int .u64 lu, .int .u64 lv] 25)) (Obj.cells #[.int .u64 hu, .int .u64 hv] 25); simpa only [zX] using this
 have B10 := zO B9 (yK (w8.alloc (Obj.cells #[.int .u64 lu, .int .u64 lv] 25)) (Obj.cells #[.int .u64 hu, .int .u64 hv] 25))
 obtain ⟨Ah, Ai, Aj⟩ := yA (yK (w8.alloc (Obj.cells #[.int .u64 lu, .int .u64 lv] 25)) (Obj.cells #[.int .u64 hu, .int .u64 hv] 25)) Ae Af Ad
 clear B9 Ae Bp Bq Br Bs Af Bt Bu Ad Bv Bw
 obtain ⟨Bx, By, Bz, BA⟩ := zC Ah
 obtain ⟨AN, AO⟩ := zF Ai
 obtain ⟨BB, BC⟩ := zF Aj
 obtain ⟨BD, BE⟩ := zF Ag
 have kb0 := AN
 have kb1 := AO
 have S11 := zH B10.size
 have CR := z8 Ah
 have CS := z8 Ai
 have CT := z8 Aj
 have CU := z8 Ag
 have Z11 := zH (zX (w8.alloc (Obj.cells #[.int .u64 lu, .int .u64 lv] 25)) (Obj.cells #[.int .u64 hu, .int .u64 hv] 25))
 have Aw : (((w8.alloc (Obj.cells #[.int .u64 lu, .int .u64 lv] 25)).alloc (Obj.cells #[.int .u64 hu, .int .u64 hv] 25)).alloc (Obj.cells #[.int .u64 bu, .int .u64 bv] 25)).heap[w8.heap.size + 1 + 1]? = some (.cells #[.int .u64 bu, .int .u64 bv] 25) := by have := heap_alloc_last ((w8.alloc (Obj.cells #[.int .u64 lu, .int .u64 lv] 25)).alloc (Obj.cells #[.int .u64 hu, .int .u64 hv] 25)) (Obj.cells #[.int .u64 bu, .int .u64 bv] 25); simpa only [zX] using this
 have B11 := zO B10 (yK ((w8.alloc (Obj.cells #[.int .u64 lu, .int .u64 lv] 25)).alloc (Obj.cells #[.int .u64 hu, .int .u64 hv] 25)) (Obj.cells #[.int .u64 bu, .int .u64 bv] 25))
 obtain ⟨Ax, Ay, Az, AA⟩ := qT (yK ((w8.alloc (Obj.cells #[.int .u64 lu, .int .u64 lv] 25)).alloc (Obj.cells #[.int .u64 hu, .int .u64 hv] 25)) (Obj.cells #[.int .u64 bu, .int .u64 bv] 25)) Ah Ai Aj Ag
 clear B10 Ah Bx By Bz BA Ai AN AO Aj BB BC Ag BD BE
 obtain ⟨BF, BG, BH, BI⟩ := zC Ax
 obtain ⟨BJ, BK⟩ := zF Ay
 obtain ⟨BL, BM⟩ := zF Az
 obtain ⟨BN, BO⟩ := zF AA
 obtain ⟨BP, BQ⟩ := zF Aw
 go_wp2_with fail
 refine (KC.out _ (zW FF.out B11)).mono ?_
 rintro r w12 ⟨rfl, b12⟩
 have B12 := zO B11 b12
 obtain ⟨AB, AC, AD, AE, AF⟩ := xP b12 Ax Ay Az AA Aw
 clear b12 B11 Ax BF BG BH BI Ay BJ BK Az BL BM AA BN BO Aw BP BQ
 obtain ⟨BR, BS, BT, BU⟩ := zC AB
 obtain ⟨BV, BW⟩ := zF AC
 obtain ⟨BX, BY⟩ := zF AD
 obtain ⟨BZ, Ca⟩ := zF AE
 obtain ⟨Cb, Cc⟩ := zF AF
 clear kb0 kb1
 have HZ := H.out
 clear H
 rcases HZ with ⟨c3, c4, n6e, n1e, ql⟩ | ⟨c3, c4, n6e, n1e, ql, qh⟩
 all_goals
  go_wp2_with fail
  refine (KV.out _ (zW FF.out B12) (zV TT.out B12)).mono ?_
  rintro r w13 ⟨rfl, b13⟩
  have B13 := zO B12 b13
  obtain ⟨Ak, Al, Am, An, Ao⟩ := xP b13 AB AC AD AE AF
  clear b13 B12 AB BR BS BT BU AC BV BW AD BX BY AE BZ Ca AF Cb Cc
  obtain ⟨Cd, Ce, Cf, Cg⟩ := zC Ak
  obtain ⟨Ch, Ci⟩ := zF Al
  obtain ⟨Cj, Ck⟩ := zF Am
  obtain ⟨Cl, Cm⟩ := zF An
  obtain ⟨Cn, Co⟩ := zF Ao
  have S14 := zH B13.size
  have CV := z8 Ak
  have CW := z8 Al
  have CX := z8 Am
  have CY := z8 An
  have CZ := z8 Ao
  have AG := heap_alloc_last w13 (Obj.cells #[.bool vb, .string vn, .string vd, .int .i64 ve] 41)
  have B14 := zO B13 (yK w13 (Obj.cells #[.bool vb, .string vn, .string vd, .int .i64 ve] 41))
  obtain ⟨AH, AI, AJ, AK, AL⟩ := xP (yK w13 (Obj.cells #[.bool vb, .string vn, .string vd, .int .i64 ve] 41)) Ak Al Am An Ao
  clear B13 Ak Cd Ce Cf Cg Al Ch Ci Am Cj Ck An Cl Cm Ao Cn Co
  obtain ⟨Cp, Cq, Cr, Cs⟩ := zC AH
  obtain ⟨Ct, Cu⟩ := zF AI
  obtain ⟨Cv, Cw⟩ := zF AJ
  obtain ⟨Cx, Cy⟩ := zF AK
  obtain ⟨Cz, CA⟩ := zF AL
  obtain ⟨CB, CC, CD, CE⟩ := zC AG
  go_wp2_with fail
  refine (KA.out _ (zW FF.out B14) (zV TT.out B14)).mono ?_
  rintro r w15 ⟨rfl, b15⟩
  have B15 := zO B14 b15
  obtain ⟨CF, CG, CH, CI, CJ, CK⟩ := rws6 b15 AH AI AJ AK AL AG
  clear b15 B14 AH Cp Cq Cr Cs AI Ct Cu AJ Cv Cw AK Cx Cy AL Cz CA AG CB CC CD CE
  obtain ⟨C0, C1, C2, C3⟩ := zC CF
  obtain ⟨C4, C5⟩ := zF CG
  obtain ⟨C6, C7⟩ := zF CH
  obtain ⟨C8, C9⟩ := zF CI
  obtain ⟨Da, Db⟩ := zF CJ
  obtain ⟨Dc, Dd, De, Df⟩ := zC CK
  go_wp2
  go_ret
  exact ⟨rfl, B15⟩
theorem x8 (f m : Int) (b : Bool) (s t : ByteArray) (e : Int) (o3 o4 : Bool) (g : Int) (bu bv lu lv hu hv : Nat) (fl : Int) (c : Nat) (e0 : Bool) (vb : Bool) (vn vd : ByteArray) (ve : Int) (w : World)
  (KS : zS (∀ w, Calls Tryz.prog 13 #[.agg #[.bool b, .string s, .string t, .int .i64 e]] w fun r w' => r = .returned (.bool true) ∧ Below w.heap.size w w'))
  (KM : zS (∀ w, Calls Tryz.prog 14 #[.agg #[.bool b, .string s, .string t, .int .i64 e]] w fun r w' => r = .returned (.bool true) ∧ Below w.heap.size w w'))
  (KF : zS (∀ w, Calls Tryz.prog 10 #[.int .u8 f] w fun r w' => r = .returned (.bool o3) ∧ Below w.heap.size w w'))
  (KO : zS (∀ w, Calls Tryz.prog 15 #[.int .u8 m] w fun r w' => r = .returned (.bool o4) ∧ Below w.heap.size w w'))
  (KG : zS (∀ w, zN w → Calls Tryz.prog 16 #[.agg #[.bool b, .string s, .string t, .int .i64 e]] w fun r w' => r = .returned (.int .i64 g) ∧ Below w.heap.size w w'))
  (h3 : o3 = true) (h4 : o4 = true) (hg : (g == 0) = false)
  (K1 : zS (∀ w, yF w → zN w → Calls Tryz.prog 18 #[.int .u8 f, .int .u8 m, .agg #[.bool b, .string s, .string t, .int .i64 e]] w fun r w' => r = .returned (.tuple #[.agg #[.int .u64 bu, .int .u64 bv], .int .u8 fl, .int .i64 0]) ∧ Below w.heap.size w w'))
  (K2 : zS (∀ w, yF w → zN w → Calls Tryz.prog 19 #[.int .u8 f, .agg #[.bool b, .string s, .string t, .int .i64 e]] w fun r w' => r = .returned (.tuple #[.agg #[.int .u64 lu, .int .u64 lv], .agg #[.int .u64 hu, .int .u64 hv], .int .i64 0]) ∧ Below w.heap.size w w'))
  (KC : zS (∀ w, yF w → Calls Tryz.prog 20 #[.int .u8 f, .agg #[.int .u64 bu, .int .u64 bv]] w fun r w' => r = .returned (.tuple #[.int .u8 c, .int .i64 0]) ∧ Below w.heap.size w w'))
  (KN : zS (∀ w, yF w → Calls Tryz.prog 21 #[.int .u8 f, .agg #[.int .u64 bu, .int .u64 bv]] w fun r w' => r = .returned (.bool (decide (g < 0))) ∧ Below w.heap.size w w'))
  (KA : zS (∀ w, yF w → zN w → Calls Tryz.prog 17 #[] w fun r w' => r = .returned (.bool true) ∧ Below w.heap.size w w'))
  (KV : zS (∀ w, yF w → zN w → Calls Tryz.prog 22 #[.int .u8 f, .agg #[.int .u64 bu, .int .u64 bv]] w fun r w' => r = .returned (.tuple #[.agg #[.bool vb, .string vn, .string vd, .int .i64 ve], .bool true]) ∧ Below w.heap.size w w'))
  (hl : decide (17000 < e) = true)
  (hm : ((m == 2) = false ∧ (m == 3) = false ∧ (m == 1) = false)) (he0 : (fl == 0) = e0) (hlh : yX (lu : Nat) (lv : Nat) (hu : Nat) (hv : Nat) = e0)
  (H : zS (((((c : Int) == 3) = true ∧ bits .and .u8 fl 6 = 2 ∧ bits .and .u8 fl 1 = 1 ∧ yX 0 0 (lu : Nat) (lv : Nat) = true) ∨ (((c : Int) == 3) = true ∧ bits .and .u8 fl 6 = 2 ∧ bits .and .u8 fl 1 = 1 ∧ yX 0 0 (lu : Nat) (lv : Nat) = false ∧ yX 0 0 (hu : Nat) (hv : Nat) = true) ∨ (((c : Int) == 3) = false ∧ ((c : Int) == 4) = true ∧ bits .and .u8 fl 6 = 2 ∧ bits .and .u8 fl 1 = 1 ∧ yX 0 0 (lu : Nat) (lv : Nat) = true) ∨ (((c : Int) == 3) = false ∧ ((c : Int) == 4) = true ∧ bits .and .u8 fl 6 = 2 ∧ bits .and .u8 fl 1 = 1 ∧ yX 0 0 (lu : Nat) (lv : Nat) = false ∧ yX 0 0 (hu : Nat) (hv : Nat) = true)) ∨
   ((((c : Int) == 3) = false ∧ ((c : Int) == 4) = false ∧ bits .and .u8 fl 6 = 0 ∧ yX (bu : Nat) (bv : Nat) (lu : Nat) (lv : Nat) = true) ∨ (((c : Int) == 3) = false ∧ ((c : Int) == 4) = false ∧ bits .and .u8 fl 6 = 0 ∧ yX (bu : Nat) (bv : Nat) (lu : Nat) (lv : Nat) = false ∧ yX (bu : Nat) (bv : Nat) (hu : Nat) (hv : Nat) = true) ∨ (((c : Int) == 3) = false ∧ ((c : Int) == 4) = false ∧ bits .and .u8 fl 6 = 2 ∧ bits .and .u8 fl 1 = 1 ∧ yX (bu : Nat) (bv : Nat) (lu : Nat) (lv : Nat) = true) ∨ (((c : Int) == 3) = false ∧ ((c : Int) == 4) = false ∧ bits .and .u8 fl 6 = 2 ∧ bits .and .u8 fl 1 = 1 ∧ yX (bu : Nat) (bv : Nat) (lu : Nat) (lv : Nat) = false ∧ yX (bu : Nat) (bv : Nat) (hu : Nat) (hv : Nat) = true) ∨ (((c : Int) == 3) = false ∧ ((c : Int) == 4) = false ∧ bits .and .u8 fl 6 = 4 ∧ bits .and .u8 fl 1 = 1 ∧ yX (bu : Nat) (bv : Nat) (lu : Nat) (lv : Nat) = true) ∨ (((c : Int) == 3) = false ∧ ((c : Int) == 4) = false ∧ bits .and .u8 fl 6 = 4 ∧ bits .and .u8 fl 1 = 1 ∧ yX (bu : Nat) (bv : Nat) (lu : Nat) (lv : Nat) = false ∧ yX (bu : Nat) (bv : Nat) (hu : Nat) (hv : Nat) = true))))
  (hT : yF w) (hT2 : zN w) : Calls Tryz.prog 4 #[.int .u8 f, .int .u8 m, .agg #[.bool b, .string s, .string t, .int .i64 e]] w fun r w' => r = .returned (.bool true) ∧ Below w.heap.size w w' := by
 have FF := zH hT
 have TT := zH hT2
 clear hT hT2
 subst h3 h4
 have heb := eqb
 have hb1 : ∀ x : Bool, (x == x) = true := fun x => by cases x <;> rfl
 have hb2 : ∀ x : Bool, (x != x) = false := fun x => by cases x <;> rfl
 obtain ⟨m2, m3, m1⟩ := hm
 obtain ⟨Bj, B0⟩ := yO w (Obj.cells #[.bool b, .string s, .string t, .int .i64 e] 41)
 go_enter Tryz.func4, Tryz.ntmps4
 go_wp2_with fail
 refine (KS.out _).mono ?_
 rintro r w1 ⟨rfl, b1⟩
 have B1 := zO B0 b1
 have AO := zA b1 _ _ _ Bj
 clear b1 B0 Bj
 obtain ⟨BW, BX, BY, BZ⟩ := zC AO
 go_wp2_with fail
 refine (KM.out _).mono ?_
 rintro r w2 ⟨rfl, b2⟩
 have B2 := zO B1 b2
 have AP := zA b2 _ _ _ AO
 clear b2 B1 AO BW BX BY BZ
 obtain ⟨Ca, Cb, Cc, Cd⟩ := zC AP
 go_wp2_with fail
 refine (KF.out _).mono ?_
 rintro r w3 ⟨rfl, b3⟩
 have B3 := zO B2 b3
 have AQ := zA b3 _ _ _ AP
 clear b3 B2 AP Ca Cb Cc Cd
 obtain ⟨Ce, Cf, Cg, Ch⟩ := zC AQ
 go_wp2_with fail
 refine (KO.out _).mono ?_
 rintro r w4 ⟨rfl, b4⟩
 have B4 := zO B3 b4
 have AR := zA b4 _ _ _ AQ
 clear b4 B3 AQ Ce Cf Cg Ch
 obtain ⟨Ci, Cj, Ck, Cl⟩ := zC AR
 go_wp2_with fail
 refine (KG.out _ (zV TT.out B4)).mono ?_
 rintro r w5 ⟨rfl, b5⟩
 have B5 := zO B4 b5
 have AS := zA b5 _ _ _ AR
 clear b5 B4 AR Ci Cj Ck Cl
 obtain ⟨Cm, Cn, Co, Cp⟩ := zC AS
 go_wp2_with fail
 refine (K1.out _ (zW FF.out B5) (zV TT.out B5)).mono ?_
 rintro r w6 ⟨rfl, b6⟩
 have B6 := zO B5 b6
 have AE := zA b6 _ _ _ AS
 clear b6 B5 AS Cm Cn Co Cp
 obtain ⟨Cq, Cr, Cs, Ct⟩ := zC AE
 have S7 := zH B6.size
 have Ar := z8 AE
 have AT := heap_alloc_last w6 (Obj.cells #[.int .u64 bu, .int .u64 bv] 25)
 have B7 := zO B6 (yK w6 (Obj.cells #[.int .u64 bu, .int .u64 bv] 25))
 have AU := zA (yK w6 (Obj.cells #[.int .u64 bu, .int .u64 bv] 25)) _ _ _ AE
 clear B6 AE Cq Cr Cs Ct
 obtain ⟨Cu, Cv, Cw, Cx⟩ := zC AU
 obtain ⟨Cy, Cz⟩ := zF AT
 go_wp2_with fail
 refine (K2.out _ (zW FF.out B7) (zV TT.out B7)).mono ?_
 rintro r w8 ⟨rfl, b8⟩
 have B8 := zO B7 b8
 obtain ⟨AF, AG⟩ := yB b8 AU AT
 clear b8 B7 AU Cu Cv Cw Cx AT Cy Cz
 obtain ⟨CA, CB, CC, CD⟩ := zC AF
 obtain ⟨CE, CF⟩ := zF AG
 have S9 := zH B8.size
 have As := z8 AF
 have At := z8 AG
 have AH := heap_alloc_last w8 (Obj.cells #[.int .u64 lu, .int .u64 lv] 25)
 have B9 := zO B8 (yK w8 (Obj.cells #[.int .u64 lu, .int .u64 lv] 25))
 obtain ⟨AI, AJ⟩ := yB (yK w8 (Obj.cells #[.int .u64 lu, .int .u64 lv] 25)) AF AG
 clear B8 AF CA CB CC CD AG CE CF
 obtain ⟨CG, CH, CI, CJ⟩ := zC AI
 obtain ⟨CK, CL⟩ := zF AJ
 obtain ⟨CM, CN⟩ := zF AH
 have S10 := zH B9.size
 have Au := z8 AI
 have Av := z8 AJ
 have Aw := z8 AH
 have Z10 := zH (zX w8 (Obj.cells #[.int .u64 lu, .int .u64 lv] 25))
 have AK : ((w8.alloc (Obj.cells #[.int .u64 lu, .int .u64 lv] 25)).alloc (Obj.cells #[.int .u64 hu, .int .u64 hv] 25)).heap[w8.heap.size + 1]? = some (.cells #[.int .u64 hu, .int .u64 hv] 25) := by have := heap_alloc_last (w8.alloc (Obj.cells #[.int .u64 lu, .int .u64 lv] 25)) (Obj.cells #[.int .u64 hu, .int .u64 hv] 25); simpa only [zX] using this
 have B10 := zO B9 (yK (w8.alloc (Obj.cells #[.int .u64 lu, .int .u64 lv] 25)) (Obj.cells #[.int .u64 hu, .int .u64 hv] 25))
 obtain ⟨AL, AM, AN⟩ := yA (yK (w8.alloc (Obj.cells #[.int .u64 lu, .int .u64 lv] 25)) (Obj.cells #[.int .u64 hu, .int .u64 hv] 25)) AI AJ AH
 clear B9 AI CG CH CI CJ AJ CK CL AH CM CN
 obtain ⟨CO, CP, CQ, CR⟩ := zC AL
 obtain ⟨Bk, Bl⟩ := zF AM
 obtain ⟨CS, CT⟩ := zF AN
 obtain ⟨CU, CV⟩ := zF AK
 have kb0 := Bk
 have kb1 := Bl
 have S11 := zH B10.size
 have Ax := z8 AL
 have Ay := z8 AM
 have Az := z8 AN
 have AA := z8 AK
 have Z11 := zH (zX (w8.alloc (Obj.cells #[.int .u64 lu, .int .u64 lv] 25)) (Obj.cells #[.int .u64 hu, .int .u64 hv] 25))
 have AV : (((w8.alloc (Obj.cells #[.int .u64 lu, .int .u64 lv] 25)).alloc (Obj.cells #[.int .u64 hu, .int .u64 hv] 25)).alloc (Obj.cells #[.int .u64 bu, .int .u64 bv] 25)).heap[w8.heap.size + 1 + 1]? = some (.cells #[.int .u64 bu, .int .u64 bv] 25) := by have := heap_alloc_last ((w8.alloc (Obj.cells #[.int .u64 lu, .int .u64 lv] 25)).alloc (Obj.cells #[.int .u64 hu, .int .u64 hv] 25)) (Obj.cells #[.int .u64 bu, .int .u64 bv] 25); simpa only [zX] using this
 have B11 := zO B10 (yK ((w8.alloc (Obj.cells #[.int .u64 lu, .int .u64 lv] 25)).alloc (Obj.cells #[.int .u64 hu, .int .u64 hv] 25)) (Obj.cells #[.int .u64 bu, .int .u64 bv] 25))
 obtain ⟨AW, AX, AY, AZ⟩ := qT (yK ((w8.alloc (Obj.cells #[.int .u64 lu, .int .u64 lv] 25)).alloc (Obj.cells #[.int .u64 hu, .int .u64 hv] 25)) (Obj.cells #[.int .u64 bu, .int .u64 bv] 25)) AL AM AN AK
 clear B10 AL CO CP CQ CR AM Bk Bl AN CS CT AK CU CV
 obtain ⟨CW, CX, CY, CZ⟩ := zC AW
 obtain ⟨C0, C1⟩ := zF AX
 obtain ⟨C2, C3⟩ := zF AY
 obtain ⟨C4, C5⟩ := zF AZ
 obtain ⟨C6, C7⟩ := zF AV
 go_wp2_with fail
 refine (KC.out _ (zW FF.out B11)).mono ?_
 rintro r w12 ⟨rfl, b12⟩
 have B12 := zO B11 b12
 obtain ⟨Aa, Ac, AB, AC, AD⟩ := xP b12 AW AX AY AZ AV
 clear b12 B11 AW CW CX CY CZ AX C0 C1 AY C2 C3 AZ C4 C5 AV C6 C7
 obtain ⟨Bm, Bn, Bo, Bp⟩ := zC Aa
 obtain ⟨Bq, Br⟩ := zF Ac
 obtain ⟨Bs, Bt⟩ := zF AB
 obtain ⟨Bu, Bv⟩ := zF AC
 obtain ⟨Bw, Bx⟩ := zF AD
 clear kb0 kb1
 rcases H.out with HZ | HZ
 ·
  clear H
  rcases HZ with ⟨c3, n6e, n1e, ql⟩ | ⟨c3, n6e, n1e, ql, qh⟩ | ⟨c3, c4, n6e, n1e, ql⟩ | ⟨c3, c4, n6e, n1e, ql, qh⟩
  all_goals
   have sS : zS (∀ W W1 : World, (Below w.heap.size w W ∧ W.heap[w.heap.size]? = some (.cells #[.bool b, .string s, .string t, .int .i64 e] 41) ∧ W.heap[w6.heap.size]? = some (.cells #[.int .u64 bu, .int .u64 bv] 25) ∧ W.heap[w8.heap.size]? = some (.cells #[.int .u64 lu, .int .u64 lv] 25) ∧ W.heap[w8.heap.size + 1]? = some (.cells #[.int .u64 hu, .int .u64 hv] 25) ∧ W.heap[w8.heap.size + 1 + 1]? = some (.cells #[.int .u64 bu, .int .u64 bv] 25) ∧ W.cell? ⟨w.heap.size, 0, none⟩ = some (.bool b) ∧ W.cell? ⟨w.heap.size, 1, none⟩ = some (.string s) ∧ W.cell? ⟨w.heap.size, 2, none⟩ = some (.string t) ∧ W.cell? ⟨w.heap.size, 3, none⟩ = some (.int .i64 e) ∧ W.cell? ⟨w6.heap.size, 0, none⟩ = some (.int .u64 bu) ∧ W.cell? ⟨w6.heap.size, 1, none⟩ = some (.int .u64 bv)) → Below W.heap.size W W1 → (Below w.heap.size w W1 ∧ W1.heap[w.heap.size]? = some (.cells #[.bool b, .string s, .string t, .int .i64 e] 41) ∧ W1.heap[w6.heap.size]? = some (.cells #[.int .u64 bu, .int .u64 bv] 25) ∧ W1.heap[w8.heap.size]? = some (.cells #[.int .u64 lu, .int .u64 lv] 25) ∧ W1.heap[w8.heap.size + 1]? = some (.cells #[.int .u64 hu, .int .u64 hv] 25) ∧ W1.heap[w8.heap.size + 1 + 1]? = some (.cells #[.int .u64 bu, .int .u64 bv] 25) ∧ W1.cell? ⟨w.heap.size, 0, none⟩ = some (.bool b) ∧ W1.cell? ⟨w.heap.size, 1, none⟩ = some (.string s) ∧ W1.cell? ⟨w.heap.size, 2, none⟩ = some (.string t) ∧ W1.cell? ⟨w.heap.size, 3, none⟩ = some (.int .i64 e) ∧ W1.cell? ⟨w6.heap.size, 0, none⟩ = some (.int .u64 bu) ∧ W1.cell? ⟨w6.heap.size, 1, none⟩ = some (.int .u64 bv))) := zH (fun W W1 h b => ⟨zO h.1 b, zA b _ _ _ h.2.1, zA b _ _ _ h.2.2.1, zA b _ _ _ h.2.2.2.1, zA b _ _ _ h.2.2.2.2.1, zA b _ _ _ h.2.2.2.2.2.1, zL (zA b _ _ _ h.2.1) 0 _ rfl, zL (zA b _ _ _ h.2.1) 1 _ rfl, zL (zA b _ _ _ h.2.1) 2 _ rfl, zL (zA b _ _ _ h.2.1) 3 _ rfl, zL (zA b _ _ _ h.2.2.1) 0 _ rfl, zL (zA b _ _ _ h.2.2.1) 1 _ rfl⟩)
   have s0 : Below w.heap.size w (w12).drew ∧ (w12).drew.heap[w.heap.size]? = some (.cells #[.bool b, .string s, .string t, .int .i64 e] 41) ∧ (w12).drew.heap[w6.heap.size]? = some (.cells #[.int .u64 bu, .int .u64 bv] 25) ∧ (w12).drew.heap[w8.heap.size]? = some (.cells #[.int .u64 lu, .int .u64 lv] 25) ∧ (w12).drew.heap[w8.heap.size + 1]? = some (.cells #[.int .u64 hu, .int .u64 hv] 25) ∧ (w12).drew.heap[w8.heap.size + 1 + 1]? = some (.cells #[.int .u64 bu, .int .u64 bv] 25) ∧ (w12).drew.cell? ⟨w.heap.size, 0, none⟩ = some (.bool b) ∧ (w12).drew.cell? ⟨w.heap.size, 1, none⟩ = some (.string s) ∧ (w12).drew.cell? ⟨w.heap.size, 2, none⟩ = some (.string t) ∧ (w12).drew.cell? ⟨w.heap.size, 3, none⟩ = some (.int .i64 e) ∧ (w12).drew.cell? ⟨w6.heap.size, 0, none⟩ = some (.int .u64 bu) ∧ (w12).drew.cell? ⟨w6.heap.size, 1, none⟩ = some (.int .u64 bv) := ⟨B12.drew, Aa, Ac, AB, AC, AD, zL (Aa) 0 _ rfl, zL (Aa) 1 _ rfl, zL (Aa) 2 _ rfl, zL (Aa) 3 _ rfl, zL (Ac) 0 _ rfl, zL (Ac) 1 _ rfl⟩
   go_wp2_with fail
   go_region_held3 (fun W => Below w.heap.size w W ∧ W.heap[w.heap.size]? = some (.cells #[.bool b, .string s, .string t, .int .i64 e] 41) ∧ W.heap[w6.heap.size]? = some (.cells #[.int .u64 bu, .int .u64 bv] 25) ∧ W.heap[w8.heap.size]? = some (.cells #[.int .u64 lu, .int .u64 lv] 25) ∧ W.heap[w8.heap.size + 1]? = some (.cells #[.int .u64 hu, .int .u64 hv] 25) ∧ W.heap[w8.heap.size + 1 + 1]? = some (.cells #[.int .u64 bu, .int .u64 bv] 25) ∧ W.cell? ⟨w.heap.size, 0, none⟩ = some (.bool b) ∧ W.cell? ⟨w.heap.size, 1, none⟩ = some (.string s) ∧ W.cell? ⟨w.heap.size, 2, none⟩ = some (.string t) ∧ W.cell? ⟨w.heap.size, 3, none⟩ = some (.int .i64 e) ∧ W.cell? ⟨w6.heap.size, 0, none⟩ = some (.int .u64 bu) ∧ W.cell? ⟨w6.heap.size, 1, none⟩ = some (.int .u64 bv)) (first | exact s1 | exact s0)
    (((first | (go_at_call 21; (first | refine (KN.out _ (zW FF.out (And.left s1))).mono ?_ | refine (KN.out _ (zW FF.out (And.left s0))).mono ?_)) | (go_at_call 16; (first | refine (KG.out _ (zV TT.out (And.left s1))).mono ?_ | refine (KG.out _ (zV TT.out (And.left s0))).mono ?_)) | fail); rintro r wq ⟨rfl, bq⟩; (first | have s1 := sS.out _ _ s1 bq | have s1 := sS.out _ _ s0 bq); clear bq))
   have B13 := (And.left s1)
   have Ad := s1.2.1
   have Ae := s1.2.2.1
   have Af := s1.2.2.2.1
   have Ag := s1.2.2.2.2.1
   have Ab := s1.2.2.2.2.2.1
   clear s0 s1 sS B12 Aa Bm Bn Bo Bp Ac Bq Br AB Bs Bt AC Bu Bv AD Bw Bx
   obtain ⟨By, Bz, BA, BB⟩ := zC Ad
   obtain ⟨BC, BD⟩ := zF Ae
   obtain ⟨BE, BF⟩ := zF Af
   obtain ⟨BG, BH⟩ := zF Ag
   obtain ⟨BI, BJ⟩ := zF Ab
   have q0_14 := fz (k := 0) Ab
   have q1_14 := fz (k := 1) Ab
   have B14 := zY B13 (show w.heap.size ≤ w8.heap.size + 1 + 1 by first | exact Nat.le_refl _ | omega | (have := S7.out; have := Ar.out; have := S9.out; have := As.out; have := At.out; have := Z10.out; have := S10.out; have := Au.out; have := Av.out; have := Aw.out; have := Z11.out; have := S11.out; have := Ax.out; have := Ay.out; have := Az.out; have := AA.out; omega)) (.int .u64 0) (.int .u64 0)
   have Ah : ((wq.setCell ⟨w8.heap.size + 1 + 1, 0, none⟩ (.int .u64 0)).setCell ⟨w8.heap.size + 1 + 1, 1, none⟩ (.int .u64 0)).heap[w8.heap.size + 1 + 1]? = some (.cells #[.int .u64 0, .int .u64 0] 25) := yJ Ab _ _
   have HH := zH (And.intro S7.out (And.intro Ar.out (And.intro S9.out (And.intro As.out (And.intro At.out (And.intro Z10.out (And.intro S10.out (And.intro Au.out (And.intro Av.out (And.intro Aw.out (And.intro Z11.out (And.intro S11.out (And.intro Ax.out (And.intro Ay.out (And.intro Az.out AA.out)))))))))))))))
   have Ai : ((wq.setCell ⟨w8.heap.size + 1 + 1, 0, none⟩ (.int .u64 0)).setCell ⟨w8.heap.size + 1 + 1, 1, none⟩ (.int .u64 0)).heap[w.heap.size]? = some (.cells #[.bool b, .string s, .string t, .int .i64 e] 41) := (zG (by first | omega | (have := HH.out; omega))).trans ((zG (by first | omega | (have := HH.out; omega))).trans Ad)
   have HH := zH (And.intro S7.out (And.intro Ar.out (And.intro S9.out (And.intro As.out (And.intro At.out (And.intro Z10.out (And.intro S10.out (And.intro Au.out (And.intro Av.out (And.intro Aw.out (And.intro Z11.out (And.intro S11.out (And.intro Ax.out (And.intro Ay.out (And.intro Az.out AA.out)))))))))))))))
   have Aj : ((wq.setCell ⟨w8.heap.size + 1 + 1, 0, none⟩ (.int .u64 0)).setCell ⟨w8.heap.size + 1 + 1, 1, none⟩ (.int .u64 0)).heap[w6.heap.size]? = some (.cells #[.int .u64 bu, .int .u64 bv] 25) := (zG (by first | omega | (have := HH.out; omega))).trans ((zG (by first | omega | (have := HH.out; omega))).trans Ae)
   have HH := zH (And.intro S7.out (And.intro Ar.out (And.intro S9.out (And.intro As.out (And.intro At.out (And.intro Z10.out (And.intro S10.out (And.intro Au.out (And.intro Av.out (And.intro Aw.out (And.intro Z11.out (And.intro S11.out (And.intro Ax.out (And.intro Ay.out (And.intro Az.out AA.out)))))))))))))))
   have Ak : ((wq.setCell ⟨w8.heap.size + 1 + 1, 0, none⟩ (.int .u64 0)).setCell ⟨w8.heap.size + 1 + 1, 1, none⟩ (.int .u64 0)).heap[w8.heap.size]? = some (.cells #[.int .u64 lu, .int .u64 lv] 25) := (zG (by first | omega | (have := HH.out; omega))).trans ((zG (by first | omega | (have := HH.out; omega))).trans Af)
   have HH := zH (And.intro S7.out (And.intro Ar.out (And.intro S9.out (And.intro As.out (And.intro At.out (And.intro Z10.out (And.intro S10.out (And.intro Au.out (And.intro Av.out (And.intro Aw.out (And.intro Z11.out (And.intro S11.out (And.intro Ax.out (And.intro Ay.out (And.intro Az.out AA.out)))))))))))))))
   have Al : ((wq.setCell ⟨w8.heap.size + 1 + 1, 0, none⟩ (.int .u64 0)).setCell ⟨w8.heap.size + 1 + 1, 1, none⟩ (.int .u64 0)).heap[w8.heap.size + 1]? = some (.cells #[.int .u64 hu, .int .u64 hv] 25) := (zG (by first | omega | (have := HH.out; omega))).trans ((zG (by first | omega | (have := HH.out; omega))).trans Ag)
   obtain ⟨A0, A1, A2, A3⟩ := zC Ai
   obtain ⟨A4, A5⟩ := zF Aj
   obtain ⟨A6, A7⟩ := zF Ak
   obtain ⟨A8, A9⟩ := zF Al
   obtain ⟨Ba, Bb⟩ := zF Ah
   go_wp2_with fail
   refine (KV.out _ (zW FF.out B14) (zV TT.out B14)).mono ?_
   rintro r w15 ⟨rfl, b15⟩
   have B15 := zO B14 b15
   obtain ⟨Am, An, Ao, Ap, Aq⟩ := xP b15 Ai Aj Ak Al Ah
   clear b15 B14 Ai A0 A1 A2 A3 Aj A4 A5 Ak A6 A7 Al A8 A9 Ah Ba Bb
   obtain ⟨BK, BL, BM, BN⟩ := zC Am
   obtain ⟨BO, BP⟩ := zF An
   obtain ⟨BQ, BR⟩ := zF Ao
   obtain ⟨BS, BT⟩ := zF Ap
   obtain ⟨BU, BV⟩ := zF Aq
   have S16 := zH B15.size
   have Dz := z8 Am
   have DA := z8 An
   have DB := z8 Ao
   have DC := z8 Ap
   have DD := z8 Aq
   have Bc := heap_alloc_last w15 (Obj.cells #[.bool vb, .string vn, .string vd, .int .i64 ve] 41)
   have B16 := zO B15 (yK w15 (Obj.cells #[.bool vb, .string vn, .string vd, .int .i64 ve] 41))
   obtain ⟨Bd, Be, Bf, Bg, Bh⟩ := xP (yK w15 (Obj.cells #[.bool vb, .string vn, .string vd, .int .i64 ve] 41)) Am An Ao Ap Aq
   clear B15 Am BK BL BM BN An BO BP Ao BQ BR Ap BS BT Aq BU BV
   obtain ⟨C8, C9, Da, Db⟩ := zC Bd
   obtain ⟨Dc, Dd⟩ := zF Be
   obtain ⟨De, Df⟩ := zF Bf
   obtain ⟨Dg, Dh⟩ := zF Bg
   obtain ⟨Di, Dj⟩ := zF Bh
   obtain ⟨Dk, Dl, Dm, Dn⟩ := zC Bc
   go_wp2_with fail
   refine (KA.out _ (zW FF.out B16) (zV TT.out B16)).mono ?_
   rintro r w17 ⟨rfl, b17⟩
   have B17 := zO B16 b17
   obtain ⟨Do, Dp, Dq, Dr, Ds, Dt⟩ := rws6 b17 Bd Be Bf Bg Bh Bc
   clear b17 B16 Bd C8 C9 Da Db Be Dc Dd Bf De Df Bg Dg Dh Bh Di Dj Bc Dk Dl Dm Dn
   obtain ⟨DE, DF, DG, DH⟩ := zC Do
   obtain ⟨DI, DJ⟩ := zF Dp
   obtain ⟨DK, DL⟩ := zF Dq
   obtain ⟨DM, DN⟩ := zF Dr
   obtain ⟨DO, DP⟩ := zF Ds
   obtain ⟨DQ, DR, DS, DT⟩ := zC Dt
   go_wp2
   go_ret
   exact ⟨rfl, B17⟩
 ·
  clear H
  rcases HZ with ⟨c3, c4, n6e, ql⟩ | ⟨c3, c4, n6e, ql, qh⟩ | ⟨c3, c4, n6e, n1e, ql⟩ | ⟨c3, c4, n6e, n1e, ql, qh⟩ | ⟨c3, c4, n6e, n1e, ql⟩ | ⟨c3, c4, n6e, n1e, ql, qh⟩
  all_goals
   go_wp2_with fail
   refine (KV.out _ (zW FF.out B12) (zV TT.out B12)).mono ?_
   rintro r w13 ⟨rfl, b13⟩
   have B13 := zO B12 b13
   obtain ⟨Ad, Ae, Af, Ag, Ab⟩ := xP b13 Aa Ac AB AC AD
   clear b13 B12 Aa Bm Bn Bo Bp Ac Bq Br AB Bs Bt AC Bu Bv AD Bw Bx
   obtain ⟨By, Bz, BA, BB⟩ := zC Ad
   obtain ⟨BC, BD⟩ := zF Ae
   obtain ⟨BE, BF⟩ := zF Af
   obtain ⟨BG, BH⟩ := zF Ag
   obtain ⟨BI, BJ⟩ := zF Ab
   have S14 := zH B13.size
   have DU := z8 Ad
   have DV := z8 Ae
   have DW := z8 Af
   have DX := z8 Ag
   have DY := z8 Ab
   have Bi := heap_alloc_last w13 (Obj.cells #[.bool vb, .string vn, .string vd, .int .i64 ve] 41)
   have B14 := zO B13 (yK w13 (Obj.cells #[.bool vb, .string vn, .string vd, .int .i64 ve] 41))
   obtain ⟨Ai, Aj, Ak, Al, Ah⟩ := xP (yK w13 (Obj.cells #[.bool vb, .string vn, .string vd, .int .i64 ve] 41)) Ad Ae Af Ag Ab
   clear B13 Ad By Bz BA BB Ae BC BD Af BE BF Ag BG BH Ab BI BJ
   obtain ⟨A0, A1, A2, A3⟩ := zC Ai
   obtain ⟨A4, A5⟩ := zF Aj
   obtain ⟨A6, A7⟩ := zF Ak
   obtain ⟨A8, A9⟩ := zF Al
   obtain ⟨Ba, Bb⟩ := zF Ah
   obtain ⟨Du, Dv, Dw, Dx⟩ := zC Bi
   go_wp2_with fail
   refine (KA.out _ (zW FF.out B14) (zV TT.out B14)).mono ?_
   rintro r w15 ⟨rfl, b15⟩
   have B15 := zO B14 b15
   obtain ⟨Am, An, Ao, Ap, Aq, Dy⟩ := rws6 b15 Ai Aj Ak Al Ah Bi
   clear b15 B14 Ai A0 A1 A2 A3 Aj A4 A5 Ak A6 A7 Al A8 A9 Ah Ba Bb Bi Du Dv Dw Dx
   obtain ⟨BK, BL, BM, BN⟩ := zC Am
   obtain ⟨BO, BP⟩ := zF An
   obtain ⟨BQ, BR⟩ := zF Ao
   obtain ⟨BS, BT⟩ := zF Ap
   obtain ⟨BU, BV⟩ := zF Aq
   obtain ⟨DZ, D0, D1, D2⟩ := zC Dy
   go_wp2
   go_ret
   exact ⟨rfl, B15⟩
theorem x5 (f m : Int) (b : Bool) (s t : ByteArray) (e : Int) (o3 o4 : Bool) (g : Int) (bu bv lu lv hu hv : Nat) (fl : Int) (c : Nat) (e0 : Bool) (vb : Bool) (vn vd : ByteArray) (ve : Int) (w : World)
  (KS : zS (∀ w, Calls Tryz.prog 13 #[.agg #[.bool b, .string s, .string t, .int .i64 e]] w fun r w' => r = .returned (.bool true) ∧ Below w.heap.size w w'))
  (KM : zS (∀ w, Calls Tryz.prog 14 #[.agg #[.bool b, .string s, .string t, .int .i64 e]] w fun r w' => r = .returned (.bool true) ∧ Below w.heap.size w w'))
  (KF : zS (∀ w, Calls Tryz.prog 10 #[.int .u8 f] w fun r w' => r = .returned (.bool o3) ∧ Below w.heap.size w w'))
  (KO : zS (∀ w, Calls Tryz.prog 15 #[.int .u8 m] w fun r w' => r = .returned (.bool o4) ∧ Below w.heap.size w w'))
  (KG : zS (∀ w, zN w → Calls Tryz.prog 16 #[.agg #[.bool b, .string s, .string t, .int .i64 e]] w fun r w' => r = .returned (.int .i64 g) ∧ Below w.heap.size w w'))
  (h3 : o3 = true) (h4 : o4 = true) (hg : (g == 0) = false)
  (K1 : zS (∀ w, yF w → zN w → Calls Tryz.prog 18 #[.int .u8 f, .int .u8 m, .agg #[.bool b, .string s, .string t, .int .i64 e]] w fun r w' => r = .returned (.tuple #[.agg #[.int .u64 bu, .int .u64 bv], .int .u8 fl, .int .i64 0]) ∧ Below w.heap.size w w'))
  (K2 : zS (∀ w, yF w → zN w → Calls Tryz.prog 19 #[.int .u8 f, .agg #[.bool b, .string s, .string t, .int .i64 e]] w fun r w' => r = .returned (.tuple #[.agg #[.int .u64 lu, .int .u64 lv], .agg #[.int .u64 hu, .int .u64 hv], .int .i64 0]) ∧ Below w.heap.size w w'))
  (KC : zS (∀ w, yF w → Calls Tryz.prog 20 #[.int .u8 f, .agg #[.int .u64 bu, .int .u64 bv]] w fun r w' => r = .returned (.tuple #[.int .u8 c, .int .i64 0]) ∧ Below w.heap.size w w'))
  (KN : zS (∀ w, yF w → Calls Tryz.prog 21 #[.int .u8 f, .agg #[.int .u64 bu, .int .u64 bv]] w fun r w' => r = .returned (.bool (decide (g < 0))) ∧ Below w.heap.size w w'))
  (KA : zS (∀ w, yF w → zN w → Calls Tryz.prog 17 #[] w fun r w' => r = .returned (.bool true) ∧ Below w.heap.size w w'))
  (KV : zS (∀ w, yF w → zN w → Calls Tryz.prog 22 #[.int .u8 f, .agg #[.int .u64 bu, .int .u64 bv]] w fun r w' => r = .returned (.tuple #[.agg #[.bool vb, .string vn, .string vd, .int .i64 ve], .bool true]) ∧ Below w.heap.size w w'))
  (hl : decide (17000 < e) = false) (hl2 : decide (e < -17000) = true)
  (hm : ((m == 2) = false ∧ (m == 3) = false ∧ (m == 1) = false)) (he0 : (fl == 0) = e0) (hlh : yX (lu : Nat) (lv : Nat) (hu : Nat) (hv : Nat) = e0)
  (H : zS (((((c : Int) == 3) = true ∧ bits .and .u8 fl 6 = 2 ∧ bits .and .u8 fl 1 = 1 ∧ yX 0 0 (lu : Nat) (lv : Nat) = true) ∨ (((c : Int) == 3) = true ∧ bits .and .u8 fl 6 = 2 ∧ bits .and .u8 fl 1 = 1 ∧ yX 0 0 (lu : Nat) (lv : Nat) = false ∧ yX 0 0 (hu : Nat) (hv : Nat) = true) ∨ (((c : Int) == 3) = false ∧ ((c : Int) == 4) = true ∧ bits .and .u8 fl 6 = 2 ∧ bits .and .u8 fl 1 = 1 ∧ yX 0 0 (lu : Nat) (lv : Nat) = true) ∨ (((c : Int) == 3) = false ∧ ((c : Int) == 4) = true ∧ bits .and .u8 fl 6 = 2 ∧ bits .and .u8 fl 1 = 1 ∧ yX 0 0 (lu : Nat) (lv : Nat) = false ∧ yX 0 0 (hu : Nat) (hv : Nat) = true)) ∨
   ((((c : Int) == 3) = false ∧ ((c : Int) == 4) = false ∧ bits .and .u8 fl 6 = 0 ∧ yX (bu : Nat) (bv : Nat) (lu : Nat) (lv : Nat) = true) ∨ (((c : Int) == 3) = false ∧ ((c : Int) == 4) = false ∧ bits .and .u8 fl 6 = 0 ∧ yX (bu : Nat) (bv : Nat) (lu : Nat) (lv : Nat) = false ∧ yX (bu : Nat) (bv : Nat) (hu : Nat) (hv : Nat) = true) ∨ (((c : Int) == 3) = false ∧ ((c : Int) == 4) = false ∧ bits .and .u8 fl 6 = 2 ∧ bits .and .u8 fl 1 = 1 ∧ yX (bu : Nat) (bv : Nat) (lu : Nat) (lv : Nat) = true) ∨ (((c : Int) == 3) = false ∧ ((c : Int) == 4) = false ∧ bits .and .u8 fl 6 = 2 ∧ bits .and .u8 fl 1 = 1 ∧ yX (bu : Nat) (bv : Nat) (lu : Nat) (lv : Nat) = false ∧ yX (bu : Nat) (bv : Nat) (hu : Nat) (hv : Nat) = true) ∨ (((c : Int) == 3) = false ∧ ((c : Int) == 4) = false ∧ bits .and .u8 fl 6 = 4 ∧ bits .and .u8 fl 1 = 1 ∧ yX (bu : Nat) (bv : Nat) (lu : Nat) (lv : Nat) = true) ∨ (((c : Int) == 3) = false ∧ ((c : Int) == 4) = false ∧ bits .and .u8 fl 6 = 4 ∧ bits .and .u8 fl 1 = 1 ∧ yX (bu : Nat) (bv : Nat) (lu : Nat) (lv : Nat) = false ∧ yX (bu : Nat) (bv : Nat) (hu : Nat) (hv : Nat) = true))))
  (hT : yF w) (hT2 : zN w) : Calls Tryz.prog 4 #[.int .u8 f, .int .u8 m, .agg #[.bool b, .string s, .string t, .int .i64 e]] w fun r w' => r = .returned (.bool true) ∧ Below w.heap.size w w' := by
 have FF := zH hT
 have TT := zH hT2
 clear hT hT2
 subst h3 h4
 have heb := eqb
 have hb1 : ∀ x : Bool, (x == x) = true := fun x => by cases x <;> rfl
 have hb2 : ∀ x : Bool, (x != x) = false := fun x => by cases x <;> rfl
 obtain ⟨m2, m3, m1⟩ := hm
 obtain ⟨Bj, B0⟩ := yO w (Obj.cells #[.bool b, .string s, .string t, .int .i64 e] 41)
 go_enter Tryz.func4, Tryz.ntmps4
 go_wp2_with fail
 refine (KS.out _).mono ?_
 rintro r w1 ⟨rfl, b1⟩
 have B1 := zO B0 b1
 have AO := zA b1 _ _ _ Bj
 clear b1 B0 Bj
 obtain ⟨BW, BX, BY, BZ⟩ := zC AO
 go_wp2_with fail
 refine (KM.out _).mono ?_
 rintro r w2 ⟨rfl, b2⟩
 have B2 := zO B1 b2
 have AP := zA b2 _ _ _ AO
 clear b2 B1 AO BW BX BY BZ
 obtain ⟨Ca, Cb, Cc, Cd⟩ := zC AP
 go_wp2_with fail
 refine (KF.out _).mono ?_
 rintro r w3 ⟨rfl, b3⟩
 have B3 := zO B2 b3
 have AQ := zA b3 _ _ _ AP
 clear b3 B2 AP Ca Cb Cc Cd
 obtain ⟨Ce, Cf, Cg, Ch⟩ := zC AQ
 go_wp2_with fail
 refine (KO.out _).mono ?_
 rintro r w4 ⟨rfl, b4⟩
 have B4 := zO B3 b4
 have AR := zA b4 _ _ _ AQ
 clear b4 B3 AQ Ce Cf Cg Ch
 obtain ⟨Ci, Cj, Ck, Cl⟩ := zC AR
 go_wp2_with fail
 refine (KG.out _ (zV TT.out B4)).mono ?_
 rintro r w5 ⟨rfl, b5⟩
 have B5 := zO B4 b5
 have AS := zA b5 _ _ _ AR
 clear b5 B4 AR Ci Cj Ck Cl
 obtain ⟨Cm, Cn, Co, Cp⟩ := zC AS
 go_wp2_with fail
 refine (K1.out _ (zW FF.out B5) (zV TT.out B5)).mono ?_
 rintro r w6 ⟨rfl, b6⟩
 have B6 := zO B5 b6
 have AE := zA b6 _ _ _ AS
 clear b6 B5 AS Cm Cn Co Cp
 obtain ⟨Cq, Cr, Cs, Ct⟩ := zC AE
 have S7 := zH B6.size
 have Ar := z8 AE
 have AT := heap_alloc_last w6 (Obj.cells #[.int .u64 bu, .int .u64 bv] 25)
 have B7 := zO B6 (yK w6 (Obj.cells #[.int .u64 bu, .int .u64 bv] 25))
 have AU := zA (yK w6 (Obj.cells #[.int .u64 bu, .int .u64 bv] 25)) _ _ _ AE
 clear B6 AE Cq Cr Cs Ct
 obtain ⟨Cu, Cv, Cw, Cx⟩ := zC AU
 obtain ⟨Cy, Cz⟩ := zF AT
 go_wp2_with fail
 refine (K2.out _ (zW FF.out B7) (zV TT.out B7)).mono ?_
 rintro r w8 ⟨rfl, b8⟩
 have B8 := zO B7 b8
 obtain ⟨AF, AG⟩ := yB b8 AU AT
 clear b8 B7 AU Cu Cv Cw Cx AT Cy Cz
 obtain ⟨CA, CB, CC, CD⟩ := zC AF
 obtain ⟨CE, CF⟩ := zF AG
 have S9 := zH B8.size
 have As := z8 AF
 have At := z8 AG
 have AH := heap_alloc_last w8 (Obj.cells #[.int .u64 lu, .int .u64 lv] 25)
 have B9 := zO B8 (yK w8 (Obj.cells #[.int .u64 lu, .int .u64 lv] 25))
 obtain ⟨AI, AJ⟩ := yB (yK w8 (Obj.cells #[.int .u64 lu, .int .u64 lv] 25)) AF AG
 clear B8 AF CA CB CC CD AG CE CF
 obtain ⟨CG, CH, CI, CJ⟩ := zC AI
 obtain ⟨CK, CL⟩ := zF AJ
 obtain ⟨CM, CN⟩ := zF AH
 have S10 := zH B9.size
 have Au := z8 AI
 have Av := z8 AJ
 have Aw := z8 AH
 have Z10 := zH (zX w8 (Obj.cells #[.int .u64 lu, .int .u64 lv] 25))
 have AK : ((w8.alloc (Obj.cells #[.int .u64 lu, .int .u64 lv] 25)).alloc (Obj.cells #[.int .u64 hu, .int .u64 hv] 25)).heap[w8.heap.size + 1]? = some (.cells #[.int .u64 hu, .int .u64 hv] 25) := by have := heap_alloc_last (w8.alloc (Obj.cells #[.int .u64 lu, .int .u64 lv] 25)) (Obj.cells #[.int .u64 hu, .int .u64 hv] 25); simpa only [zX] using this
 have B10 := zO B9 (yK (w8.alloc (Obj.cells #[.int .u64 lu, .int .u64 lv] 25)) (Obj.cells #[.int .u64 hu, .int .u64 hv] 25))
 obtain ⟨AL, AM, AN⟩ := yA (yK (w8.alloc (Obj.cells #[.int .u64 lu, .int .u64 lv] 25)) (Obj.cells #[.int .u64 hu, .int .u64 hv] 25)) AI AJ AH
 clear B9 AI CG CH CI CJ AJ CK CL AH CM CN
 obtain ⟨CO, CP, CQ, CR⟩ := zC AL
 obtain ⟨Bk, Bl⟩ := zF AM
 obtain ⟨CS, CT⟩ := zF AN
 obtain ⟨CU, CV⟩ := zF AK
 have kb0 := Bk
 have kb1 := Bl
 have S11 := zH B10.size
 have Ax := z8 AL
 have Ay := z8 AM
 have Az := z8 AN
 have AA := z8 AK
 have Z11 := zH (zX (w8.alloc (Obj.cells #[.int .u64 lu, .int .u64 lv] 25)) (Obj.cells #[.int .u64 hu, .int .u64 hv] 25))
 have AV : (((w8.alloc (Obj.cells #[.int .u64 lu, .int .u64 lv] 25)).alloc (Obj.cells #[.int .u64 hu, .int .u64 hv] 25)).alloc (Obj.cells #[.int .u64 bu, .int .u64 bv] 25)).heap[w8.heap.size + 1 + 1]? = some (.cells #[.int .u64 bu, .int .u64 bv] 25) := by have := heap_alloc_last ((w8.alloc (Obj.cells #[.int .u64 lu, .int .u64 lv] 25)).alloc (Obj.cells #[.int .u64 hu, .int .u64 hv] 25)) (Obj.cells #[.int .u64 bu, .int .u64 bv] 25); simpa only [zX] using this
 have B11 := zO B10 (yK ((w8.alloc (Obj.cells #[.int .u64 lu, .int .u64 lv] 25)).alloc (Obj.cells #[.int .u64 hu, .int .u64 hv] 25)) (Obj.cells #[.int .u64 bu, .int .u64 bv] 25))
 obtain ⟨AW, AX, AY, AZ⟩ := qT (yK ((w8.alloc (Obj.cells #[.int .u64 lu, .int .u64 lv] 25)).alloc (Obj.cells #[.int .u64 hu, .int .u64 hv] 25)) (Obj.cells #[.int .u64 bu, .int .u64 bv] 25)) AL AM AN AK
 clear B10 AL CO CP CQ CR AM Bk Bl AN CS CT AK CU CV
 obtain ⟨CW, CX, CY, CZ⟩ := zC AW
 obtain ⟨C0, C1⟩ := zF AX
 obtain ⟨C2, C3⟩ := zF AY
 obtain ⟨C4, C5⟩ := zF AZ
 obtain ⟨C6, C7⟩ := zF AV
 go_wp2_with fail
 refine (KC.out _ (zW FF.out B11)).mono ?_
 rintro r w12 ⟨rfl, b12⟩
 have B12 := zO B11 b12
 obtain ⟨Aa, Ac, AB, AC, AD⟩ := xP b12 AW AX AY AZ AV
 clear b12 B11 AW CW CX CY CZ AX C0 C1 AY C2 C3 AZ C4 C5 AV C6 C7
 obtain ⟨Bm, Bn, Bo, Bp⟩ := zC Aa
 obtain ⟨Bq, Br⟩ := zF Ac
 obtain ⟨Bs, Bt⟩ := zF AB
 obtain ⟨Bu, Bv⟩ := zF AC
 obtain ⟨Bw, Bx⟩ := zF AD
 clear kb0 kb1
 rcases H.out with HZ | HZ
 ·
  clear H
  rcases HZ with ⟨c3, n6e, n1e, ql⟩ | ⟨c3, n6e, n1e, ql, qh⟩ | ⟨c3, c4, n6e, n1e, ql⟩ | ⟨c3, c4, n6e, n1e, ql, qh⟩
  all_goals
   have sS : zS (∀ W W1 : World, (Below w.heap.size w W ∧ W.heap[w.heap.size]? = some (.cells #[.bool b, .string s, .string t, .int .i64 e] 41) ∧ W.heap[w6.heap.size]? = some (.cells #[.int .u64 bu, .int .u64 bv] 25) ∧ W.heap[w8.heap.size]? = some (.cells #[.int .u64 lu, .int .u64 lv] 25) ∧ W.heap[w8.heap.size + 1]? = some (.cells #[.int .u64 hu, .int .u64 hv] 25) ∧ W.heap[w8.heap.size + 1 + 1]? = some (.cells #[.int .u64 bu, .int .u64 bv] 25) ∧ W.cell? ⟨w.heap.size, 0, none⟩ = some (.bool b) ∧ W.cell? ⟨w.heap.size, 1, none⟩ = some (.string s) ∧ W.cell? ⟨w.heap.size, 2, none⟩ = some (.string t) ∧ W.cell? ⟨w.heap.size, 3, none⟩ = some (.int .i64 e) ∧ W.cell? ⟨w6.heap.size, 0, none⟩ = some (.int .u64 bu) ∧ W.cell? ⟨w6.heap.size, 1, none⟩ = some (.int .u64 bv)) → Below W.heap.size W W1 → (Below w.heap.size w W1 ∧ W1.heap[w.heap.size]? = some (.cells #[.bool b, .string s, .string t, .int .i64 e] 41) ∧ W1.heap[w6.heap.size]? = some (.cells #[.int .u64 bu, .int .u64 bv] 25) ∧ W1.heap[w8.heap.size]? = some (.cells #[.int .u64 lu, .int .u64 lv] 25) ∧ W1.heap[w8.heap.size + 1]? = some (.cells #[.int .u64 hu, .int .u64 hv] 25) ∧ W1.heap[w8.heap.size + 1 + 1]? = some (.cells #[.int .u64 bu, .int .u64 bv] 25) ∧ W1.cell? ⟨w.heap.size, 0, none⟩ = some (.bool b) ∧ W1.cell? ⟨w.heap.size, 1, none⟩ = some (.string s) ∧ W1.cell? ⟨w.heap.size, 2, none⟩ = some (.string t) ∧ W1.cell? ⟨w.heap.size, 3, none⟩ = some (.int .i64 e) ∧ W1.cell? ⟨w6.heap.size, 0, none⟩ = some (.int .u64 bu) ∧ W1.cell? ⟨w6.heap.size, 1, none⟩ = some (.int .u64 bv))) := zH (fun W W1 h b => ⟨zO h.1 b, zA b _ _ _ h.2.1, zA b _ _ _ h.2.2.1, zA b _ _ _ h.2.2.2.1, zA b _ _ _ h.2.2.2.2.1, zA b _ _ _ h.2.2.2.2.2.1, zL (zA b _ _ _ h.2.1) 0 _ rfl, zL (zA b _ _ _ h.2.1) 1 _ rfl, zL (zA b _ _ _ h.2.1) 2 _ rfl, zL (zA b _ _ _ h.2.1) 3 _ rfl, zL (zA b _ _ _ h.2.2.1) 0 _ rfl, zL (zA b _ _ _ h.2.2.1) 1 _ rfl⟩)
   have s0 : Below w.heap.size w (w12).drew ∧ (w12).drew.heap[w.heap.size]? = some (.cells #[.bool b, .string s, .string t, .int .i64 e] 41) ∧ (w12).drew.heap[w6.heap.size]? = some (.cells #[.int .u64 bu, .int .u64 bv] 25) ∧ (w12).drew.heap[w8.heap.size]? = some (.cells #[.int .u64 lu, .int .u64 lv] 25) ∧ (w12).drew.heap[w8.heap.size + 1]? = some (.cells #[.int .u64 hu, .int .u64 hv] 25) ∧ (w12).drew.heap[w8.heap.size + 1 + 1]? = some (.cells #[.int .u64 bu, .int .u64 bv] 25) ∧ (w12).drew.cell? ⟨w.heap.size, 0, none⟩ = some (.bool b) ∧ (w12).drew.cell? ⟨w.heap.size, 1, none⟩ = some (.string s) ∧ (w12).drew.cell? ⟨w.heap.size, 2, none⟩ = some (.string t) ∧ (w12).drew.cell? ⟨w.heap.size, 3, none⟩ = some (.int .i64 e) ∧ (w12).drew.cell? ⟨w6.heap.size, 0, none⟩ = some (.int .u64 bu) ∧ (w12).drew.cell? ⟨w6.heap.size, 1, none⟩ = some (.int .u64 bv) := ⟨B12.drew, Aa, Ac, AB, AC, AD, zL (Aa) 0 _ rfl, zL (Aa) 1 _ rfl, zL (Aa) 2 _ rfl, zL (Aa) 3 _ rfl, zL (Ac) 0 _ rfl, zL (Ac) 1 _ rfl⟩
   go_wp2_with fail
   go_region_held3 (fun W => Below w.heap.size w W ∧ W.heap[w.heap.size]? = some (.cells #[.bool b, .string s, .string t, .int .i64 e] 41) ∧ W.heap[w6.heap.size]? = some (.cells #[.int .u64 bu, .int .u64 bv] 25) ∧ W.heap[w8.heap.size]? = some (.cells #[.int .u64 lu, .int .u64 lv] 25) ∧ W.heap[w8.heap.size + 1]? = some (.cells #[.int .u64 hu, .int .u64 hv] 25) ∧ W.heap[w8.heap.size + 1 + 1]? = some (.cells #[.int .u64 bu, .int .u64 bv] 25) ∧ W.cell? ⟨w.heap.size, 0, none⟩ = some (.bool b) ∧ W.cell? ⟨w.heap.size, 1, none⟩ = some (.string s) ∧ W.cell? ⟨w.heap.size, 2, none⟩ = some (.string t) ∧ W.cell? ⟨w.heap.size, 3, none⟩ = some (.int .i64 e) ∧ W.cell? ⟨w6.heap.size, 0, none⟩ = some (.int .u64 bu) ∧ W.cell? ⟨w6.heap.size, 1, none⟩ = some (.int .u64 bv)) (first | exact s1 | exact s0)
    (((first | (go_at_call 21; (first | refine (KN.out _ (zW FF.out (And.left s1))).mono ?_ | refine (KN.out _ (zW FF.out (And.left s0))).mono ?_)) | (go_at_call 16; (first | refine (KG.out _ (zV TT.out (And.left s1))).mono ?_ | refine (KG.out _ (zV TT.out (And.left s0))).mono ?_)) | fail); rintro r wq ⟨rfl, bq⟩; (first | have s1 := sS.out _ _ s1 bq | have s1 := sS.out _ _ s0 bq); clear bq))
   have B13 := (And.left s1)
   have Ad := s1.2.1
   have Ae := s1.2.2.1
   have Af := s1.2.2.2.1
   have Ag := s1.2.2.2.2.1
   have Ab := s1.2.2.2.2.2.1
   clear s0 s1 sS B12 Aa Bm Bn Bo Bp Ac Bq Br AB Bs Bt AC Bu Bv AD Bw Bx
   obtain ⟨By, Bz, BA, BB⟩ := zC Ad
   obtain ⟨BC, BD⟩ := zF Ae
   obtain ⟨BE, BF⟩ := zF Af
   obtain ⟨BG, BH⟩ := zF Ag
   obtain ⟨BI, BJ⟩ := zF Ab
   have q0_14 := fz (k := 0) Ab
   have q1_14 := fz (k := 1) Ab
   have B14 := zY B13 (show w.heap.size ≤ w8.heap.size + 1 + 1 by first | exact Nat.le_refl _ | omega | (have := S7.out; have := Ar.out; have := S9.out; have := As.out; have := At.out; have := Z10.out; have := S10.out; have := Au.out; have := Av.out; have := Aw.out; have := Z11.out; have := S11.out; have := Ax.out; have := Ay.out; have := Az.out; have := AA.out; omega)) (.int .u64 0) (.int .u64 0)
   have Ah : ((wq.setCell ⟨w8.heap.size + 1 + 1, 0, none⟩ (.int .u64 0)).setCell ⟨w8.heap.size + 1 + 1, 1, none⟩ (.int .u64 0)).heap[w8.heap.size + 1 + 1]? = some (.cells #[.int .u64 0, .int .u64 0] 25) := yJ Ab _ _
   have HH := zH (And.intro S7.out (And.intro Ar.out (And.intro S9.out (And.intro As.out (And.intro At.out (And.intro Z10.out (And.intro S10.out (And.intro Au.out (And.intro Av.out (And.intro Aw.out (And.intro Z11.out (And.intro S11.out (And.intro Ax.out (And.intro Ay.out (And.intro Az.out AA.out)))))))))))))))
   have Ai : ((wq.setCell ⟨w8.heap.size + 1 + 1, 0, none⟩ (.int .u64 0)).setCell ⟨w8.heap.size + 1 + 1, 1, none⟩ (.int .u64 0)).heap[w.heap.size]? = some (.cells #[.bool b, .string s, .string t, .int .i64 e] 41) := (zG (by first | omega | (have := HH.out; omega))).trans ((zG (by first | omega | (have := HH.out; omega))).trans Ad)
   have HH := zH (And.intro S7.out (And.intro Ar.out (And.intro S9.out (And.intro As.out (And.intro At.out (And.intro Z10.out (And.intro S10.out (And.intro Au.out (And.intro Av.out (And.intro Aw.out (And.intro Z11.out (And.intro S11.out (And.intro Ax.out (And.intro Ay.out (And.intro Az.out AA.out)))))))))))))))
   have Aj : ((wq.setCell ⟨w8.heap.size + 1 + 1, 0, none⟩ (.int .u64 0)).setCell ⟨w8.heap.size + 1 + 1, 1, none⟩ (.int .u64 0)).heap[w6.heap.size]? = some (.cells #[.int .u64 bu, .int .u64 bv] 25) := (zG (by first | omega | (have := HH.out; omega))).trans ((zG (by first | omega | (have := HH.out; omega))).trans Ae)
   have HH := zH (And.intro S7.out (And.intro Ar.out (And.intro S9.out (And.intro As.out (And.intro At.out (And.intro Z10.out (And.intro S10.out (And.intro Au.out (And.intro Av.out (And.intro Aw.out (And.intro Z11.out (And.intro S11.out (And.intro Ax.out (And.intro Ay.out (And.intro Az.out AA.out)))))))))))))))
   have Ak : ((wq.setCell ⟨w8.heap.size + 1 + 1, 0, none⟩ (.int .u64 0)).setCell ⟨w8.heap.size + 1 + 1, 1, none⟩ (.int .u64 0)).heap[w8.heap.size]? = some (.cells #[.int .u64 lu, .int .u64 lv] 25) := (zG (by first | omega | (have := HH.out; omega))).trans ((zG (by first | omega | (have := HH.out; omega))).trans Af)
   have HH := zH (And.intro S7.out (And.intro Ar.out (And.intro S9.out (And.intro As.out (And.intro At.out (And.intro Z10.out (And.intro S10.out (And.intro Au.out (And.intro Av.out (And.intro Aw.out (And.intro Z11.out (And.intro S11.out (And.intro Ax.out (And.intro Ay.out (And.intro Az.out AA.out)))))))))))))))
   have Al : ((wq.setCell ⟨w8.heap.size + 1 + 1, 0, none⟩ (.int .u64 0)).setCell ⟨w8.heap.size + 1 + 1, 1, none⟩ (.int .u64 0)).heap[w8.heap.size + 1]? = some (.cells #[.int .u64 hu, .int .u64 hv] 25) := (zG (by first | omega | (have := HH.out; omega))).trans ((zG (by first | omega | (have := HH.out; omega))).trans Ag)
   obtain ⟨A0, A1, A2, A3⟩ := zC Ai
   obtain ⟨A4, A5⟩ := zF Aj
   obtain ⟨A6, A7⟩ := zF Ak
   obtain ⟨A8, A9⟩ := zF Al
   obtain ⟨Ba, Bb⟩ := zF Ah
   go_wp2_with fail
   refine (KV.out _ (zW FF.out B14) (zV TT.out B14)).mono ?_
   rintro r w15 ⟨rfl, b15⟩
   have B15 := zO B14 b15
   obtain ⟨Am, An, Ao, Ap, Aq⟩ := xP b15 Ai Aj Ak Al Ah
   clear b15 B14 Ai A0 A1 A2 A3 Aj A4 A5 Ak A6 A7 Al A8 A9 Ah Ba Bb
   obtain ⟨BK, BL, BM, BN⟩ := zC Am
   obtain ⟨BO, BP⟩ := zF An
   obtain ⟨BQ, BR⟩ := zF Ao
   obtain ⟨BS, BT⟩ := zF Ap
   obtain ⟨BU, BV⟩ := zF Aq
   have S16 := zH B15.size
   have Dz := z8 Am
   have DA := z8 An
   have DB := z8 Ao
   have DC := z8 Ap
   have DD := z8 Aq
   have Bc := heap_alloc_last w15 (Obj.cells #[.bool vb, .string vn, .string vd, .int .i64 ve] 41)
   have B16 := zO B15 (yK w15 (Obj.cells #[.bool vb, .string vn, .string vd, .int .i64 ve] 41))
   obtain ⟨Bd, Be, Bf, Bg, Bh⟩ := xP (yK w15 (Obj.cells #[.bool vb, .string vn, .string vd, .int .i64 ve] 41)) Am An Ao Ap Aq
   clear B15 Am BK BL BM BN An BO BP Ao BQ BR Ap BS BT Aq BU BV
   obtain ⟨C8, C9, Da, Db⟩ := zC Bd
   obtain ⟨Dc, Dd⟩ := zF Be
   obtain ⟨De, Df⟩ := zF Bf
   obtain ⟨Dg, Dh⟩ := zF Bg
   obtain ⟨Di, Dj⟩ := zF Bh
   obtain ⟨Dk, Dl, Dm, Dn⟩ := zC Bc
   go_wp2_with fail
   refine (KA.out _ (zW FF.out B16) (zV TT.out B16)).mono ?_
   rintro r w17 ⟨rfl, b17⟩
   have B17 := zO B16 b17
   obtain ⟨Do, Dp, Dq, Dr, Ds, Dt⟩ := rws6 b17 Bd Be Bf Bg Bh Bc
   clear b17 B16 Bd C8 C9 Da Db Be Dc Dd Bf De Df Bg Dg Dh Bh Di Dj Bc Dk Dl Dm Dn
   obtain ⟨DE, DF, DG, DH⟩ := zC Do
   obtain ⟨DI, DJ⟩ := zF Dp
   obtain ⟨DK, DL⟩ := zF Dq
   obtain ⟨DM, DN⟩ := zF Dr
   obtain ⟨DO, DP⟩ := zF Ds
   obtain ⟨DQ, DR, DS, DT⟩ := zC Dt
   go_wp2
   go_ret
   exact ⟨rfl, B17⟩
 ·
  clear H
  rcases HZ with ⟨c3, c4, n6e, ql⟩ | ⟨c3, c4, n6e, ql, qh⟩ | ⟨c3, c4, n6e, n1e, ql⟩ | ⟨c3, c4, n6e, n1e, ql, qh⟩ | ⟨c3, c4, n6e, n1e, ql⟩ | ⟨c3, c4, n6e, n1e, ql, qh⟩
  all_goals
   go_wp2_with fail
   refine (KV.out _ (zW FF.out B12) (zV TT.out B12)).mono ?_
   rintro r w13 ⟨rfl, b13⟩
   have B13 := zO B12 b13
   obtain ⟨Ad, Ae, Af, Ag, Ab⟩ := xP b13 Aa Ac AB AC AD
   clear b13 B12 Aa Bm Bn Bo Bp Ac Bq Br AB Bs Bt AC Bu Bv AD Bw Bx
   obtain ⟨By, Bz, BA, BB⟩ := zC Ad
   obtain ⟨BC, BD⟩ := zF Ae
   obtain ⟨BE, BF⟩ := zF Af
   obtain ⟨BG, BH⟩ := zF Ag
   obtain ⟨BI, BJ⟩ := zF Ab
   have S14 := zH B13.size
   have DU := z8 Ad
   have DV := z8 Ae
   have DW := z8 Af
   have DX := z8 Ag
   have DY := z8 Ab
   have Bi := heap_alloc_last w13 (Obj.cells #[.bool vb, .string vn, .string vd, .int .i64 ve] 41)
   have B14 := zO B13 (yK w13 (Obj.cells #[.bool vb, .string vn, .string vd, .int .i64 ve] 41))
   obtain ⟨Ai, Aj, Ak, Al, Ah⟩ := xP (yK w13 (Obj.cells #[.bool vb, .string vn, .string vd, .int .i64 ve] 41)) Ad Ae Af Ag Ab
   clear B13 Ad By Bz BA BB Ae BC BD Af BE BF Ag BG BH Ab BI BJ
   obtain ⟨A0, A1, A2, A3⟩ := zC Ai
   obtain ⟨A4, A5⟩ := zF Aj
   obtain ⟨A6, A7⟩ := zF Ak
   obtain ⟨A8, A9⟩ := zF Al
   obtain ⟨Ba, Bb⟩ := zF Ah
   obtain ⟨Du, Dv, Dw, Dx⟩ := zC Bi
   go_wp2_with fail
   refine (KA.out _ (zW FF.out B14) (zV TT.out B14)).mono ?_
   rintro r w15 ⟨rfl, b15⟩
   have B15 := zO B14 b15
   obtain ⟨Am, An, Ao, Ap, Aq, Dy⟩ := rws6 b15 Ai Aj Ak Al Ah Bi
   clear b15 B14 Ai A0 A1 A2 A3 Aj A4 A5 Ak A6 A7 Al A8 A9 Ah Ba Bb Bi Du Dv Dw Dx
   obtain ⟨BK, BL, BM, BN⟩ := zC Am
   obtain ⟨BO, BP⟩ := zF An
   obtain ⟨BQ, BR⟩ := zF Ao
   obtain ⟨BS, BT⟩ := zF Ap
   obtain ⟨BU, BV⟩ := zF Aq
   obtain ⟨DZ, D0, D1, D2⟩ := zC Dy
   go_wp2
   go_ret
   exact ⟨rfl, B15⟩
end Go.Proofs.YtkblmpmkchkpjaaGreatDoor
