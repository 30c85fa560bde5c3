/-
  What the functions that the statement reaches return: part 24 (U7, U9).
-/
import Derived.Test.YtkblmpmkchkpjaaGreatDoorNe23
namespace Go.Proofs.YtkblmpmkchkpjaaGreatDoor
set_option maxRecDepth 100000
set_option maxHeartbeats 40000000
open Go.RowKit WMath XMath
set_option linter.unusedSimpArgs false
set_option linter.unusedVariables false
theorem nst_loopn (f m : Int) (b : Bool) (s t : ByteArray) (e : Int) (o3 o4 : Bool) (g : Int) (bu bv lu lv hu hv : Nat) (fl : Int) (c : Nat) (e0 : Bool) (vb : Bool) (vn vd : ByteArray) (ve : Int) (db : Bool) (dn dd : ByteArray) (de dg : Int) (b7 : Bool) (n7 d7 : ByteArray) (e7 : Int) (o7 : Bool) (tb7 : Bool) (tn7 td7 : ByteArray) (te7 tg7 cc7 ch7 : Int) (b8 : Bool) (n8 d8 : ByteArray) (e8 : Int) (o8 : Bool) (tb8 : Bool) (tn8 td8 : ByteArray) (te8 tg8 cc8 ch8 : Int) (w : World)
  (KS : zS (∀ w, Calls Tryz.prog 13 #[.agg #[.bool b, .string s, .string t, .int .i64 e]] w fun r w' => r = .returned (.bool true) ∧ Below w.heap.size w w'))
  (KM : zS (∀ w, Calls Tryz.prog 14 #[.agg #[.bool b, .string s, .string t, .int .i64 e]] w fun r w' => r = .returned (.bool true) ∧ Below w.heap.size w w'))
  (KF : zS (∀ w, Calls Tryz.prog 10 #[.int .u8 f] w fun r w' => r = .returned (.bool o3) ∧ Below w.heap.size w w'))
  (KO : zS (∀ w, Calls Tryz.prog 15 #[.int .u8 m] w fun r w' => r = .returned (.bool o4) ∧ Below w.heap.size w w'))
  (KG : zS (∀ w, zN w → Calls Tryz.prog 16 #[.agg #[.bool b, .string s, .string t, .int .i64 e]] w fun r w' => r = .returned (.int .i64 g) ∧ Below w.heap.size w w'))
  (h3 : o3 = true) (h4 : o4 = true) (hg : (g == 0) = false)
  (K1 : zS (∀ w, yF w → zN w → Calls Tryz.prog 18 #[.int .u8 f, .int .u8 m, .agg #[.bool b, .string s, .string t, .int .i64 e]] w fun r w' => r = .returned (.tuple #[.agg #[.int .u64 bu, .int .u64 bv], .int .u8 fl, .int .i64 0]) ∧ Below w.heap.size w w'))
  (K2 : zS (∀ w, yF w → zN w → Calls Tryz.prog 19 #[.int .u8 f, .agg #[.bool b, .string s, .string t, .int .i64 e]] w fun r w' => r = .returned (.tuple #[.agg #[.int .u64 lu, .int .u64 lv], .agg #[.int .u64 hu, .int .u64 hv], .int .i64 0]) ∧ Below w.heap.size w w'))
  (KC : zS (∀ w, yF w → Calls Tryz.prog 20 #[.int .u8 f, .agg #[.int .u64 bu, .int .u64 bv]] w fun r w' => r = .returned (.tuple #[.int .u8 c, .int .i64 0]) ∧ Below w.heap.size w w'))
  (KN : zS (∀ w, yF w → Calls Tryz.prog 21 #[.int .u8 f, .agg #[.int .u64 bu, .int .u64 bv]] w fun r w' => r = .returned (.bool (decide (g < 0))) ∧ Below w.heap.size w w'))
  (KA : zS (∀ w, yF w → zN w → Calls Tryz.prog 17 #[] w fun r w' => r = .returned (.bool true) ∧ Below w.heap.size w w'))
  (KV : zS (∀ w, yF w → zN w → Calls Tryz.prog 22 #[.int .u8 f, .agg #[.int .u64 bu, .int .u64 bv]] w fun r w' => r = .returned (.tuple #[.agg #[.bool vb, .string vn, .string vd, .int .i64 ve], .bool true]) ∧ Below w.heap.size w w'))
  (hl : decide (17000 < e) = false) (hl2 : decide (e < -17000) = false)
  (KD : zS (∀ w, zN w → Calls Tryz.prog 23 #[.agg #[.bool b, .string s, .string t, .int .i64 e], .agg #[.bool vb, .string vn, .string vd, .int .i64 ve]] w fun r w' => r = .returned (.tuple #[.agg #[.bool db, .string dn, .string dd, .int .i64 de], .int .i64 dg]) ∧ Below w.heap.size w w'))
  (KAd : zS (∀ w, zN w → Calls Tryz.prog 25 #[.agg #[.bool db, .string dn, .string dd, .int .i64 de]] w fun r w' => r = .returned (.agg #[.bool false, .string dn, .string dd, .int .i64 de]) ∧ Below w.heap.size w w'))
  (KL7 : zS (∀ w, yF w → zN w → Calls Tryz.prog 22 #[.int .u8 f, .agg #[.int .u64 lu, .int .u64 lv]] w fun r w' => r = .returned (.tuple #[.agg #[.bool b7, .string n7, .string d7, .int .i64 e7], .bool o7]) ∧ Below w.heap.size w w'))
  (HL7 : zS (o7 = false ∨ (o7 = true ∧ zS (∀ w, zN w → Calls Tryz.prog 23 #[.agg #[.bool b, .string s, .string t, .int .i64 e], .agg #[.bool b7, .string n7, .string d7, .int .i64 e7]] w fun r w' => r = .returned (.tuple #[.agg #[.bool tb7, .string tn7, .string td7, .int .i64 te7], .int .i64 tg7]) ∧ Below w.heap.size w w') ∧ zS (∀ w, zN w → Calls Tryz.prog 25 #[.agg #[.bool tb7, .string tn7, .string td7, .int .i64 te7]] w fun r w' => r = .returned (.agg #[.bool false, .string tn7, .string td7, .int .i64 te7]) ∧ Below w.heap.size w w') ∧ zS (∀ w, zN w → Calls Tryz.prog 24 #[.agg #[.bool false, .string dn, .string dd, .int .i64 de], .agg #[.bool false, .string tn7, .string td7, .int .i64 te7]] w fun r w' => r = .returned (.tuple #[.int .i64 cc7, .int .i64 ch7]) ∧ Below w.heap.size w w') ∧ ((ch7 == 0) = false ∨ ((ch7 == 0) = true ∧ decide (0 < cc7) = false)))))
  (KL8 : zS (∀ w, yF w → zN w → Calls Tryz.prog 22 #[.int .u8 f, .agg #[.int .u64 hu, .int .u64 hv]] w fun r w' => r = .returned (.tuple #[.agg #[.bool b8, .string n8, .string d8, .int .i64 e8], .bool o8]) ∧ Below w.heap.size w w'))
  (HL8 : zS (o8 = false ∨ (o8 = true ∧ zS (∀ w, zN w → Calls Tryz.prog 23 #[.agg #[.bool b, .string s, .string t, .int .i64 e], .agg #[.bool b8, .string n8, .string d8, .int .i64 e8]] w fun r w' => r = .returned (.tuple #[.agg #[.bool tb8, .string tn8, .string td8, .int .i64 te8], .int .i64 tg8]) ∧ Below w.heap.size w w') ∧ zS (∀ w, zN w → Calls Tryz.prog 25 #[.agg #[.bool tb8, .string tn8, .string td8, .int .i64 te8]] w fun r w' => r = .returned (.agg #[.bool false, .string tn8, .string td8, .int .i64 te8]) ∧ Below w.heap.size w w') ∧ zS (∀ w, zN w → Calls Tryz.prog 24 #[.agg #[.bool false, .string dn, .string dd, .int .i64 de], .agg #[.bool false, .string tn8, .string td8, .int .i64 te8]] w fun r w' => r = .returned (.tuple #[.int .i64 cc8, .int .i64 ch8]) ∧ Below w.heap.size w w') ∧ ((ch8 == 0) = false ∨ ((ch8 == 0) = true ∧ decide (0 < cc8) = false)))))
  (hm : ((m == 2) = false ∧ (m == 3) = false ∧ (m == 1) = false)) (he0 : (fl == 0) = e0) (hlh : yX (lu : Nat) (lv : Nat) (hu : Nat) (hv : Nat) = e0)
  (H : zS (((((c : Int) == 3) = false ∧ ((c : Int) == 4) = false ∧ bits .and .u8 fl 6 = 0 ∧ yX (bu : Nat) (bv : Nat) (lu : Nat) (lv : Nat) = true) ∨ (((c : Int) == 3) = false ∧ ((c : Int) == 4) = false ∧ bits .and .u8 fl 6 = 0 ∧ yX (bu : Nat) (bv : Nat) (lu : Nat) (lv : Nat) = false ∧ yX (bu : Nat) (bv : Nat) (hu : Nat) (hv : Nat) = true) ∨ (((c : Int) == 3) = false ∧ ((c : Int) == 4) = false ∧ bits .and .u8 fl 6 = 2 ∧ bits .and .u8 fl 1 = 1 ∧ yX (bu : Nat) (bv : Nat) (lu : Nat) (lv : Nat) = true) ∨ (((c : Int) == 3) = false ∧ ((c : Int) == 4) = false ∧ bits .and .u8 fl 6 = 2 ∧ bits .and .u8 fl 1 = 1 ∧ yX (bu : Nat) (bv : Nat) (lu : Nat) (lv : Nat) = false ∧ yX (bu : Nat) (bv : Nat) (hu : Nat) (hv : Nat) = true) ∨ (((c : Int) == 3) = false ∧ ((c : Int) == 4) = false ∧ bits .and .u8 fl 6 = 4 ∧ bits .and .u8 fl 1 = 1 ∧ yX (bu : Nat) (bv : Nat) (lu : Nat) (lv : Nat) = true) ∨ (((c : Int) == 3) = false ∧ ((c : Int) == 4) = false ∧ bits .and .u8 fl 6 = 4 ∧ bits .and .u8 fl 1 = 1 ∧ yX (bu : Nat) (bv : Nat) (lu : Nat) (lv : Nat) = false ∧ yX (bu : Nat) (bv : Nat) (hu : Nat) (hv : Nat) = true))))
  (hT : yF w) (hT2 : zN w) : Calls Tryz.prog 4 #[.int .u8 f, .int .u8 m, .agg #[.bool b, .string s, .string t, .int .i64 e]] w fun r w' => r = .returned (.bool true) ∧ Below w.heap.size w w' := by
 have FF := zH hT
 have TT := zH hT2
 clear hT hT2
 subst h3 h4
 have heb := eqb
 have hb1 : ∀ x : Bool, (x == x) = true := fun x => by cases x <;> rfl
 have hb2 : ∀ x : Bool, (x != x) = false := fun x => by cases x <;> rfl
 obtain ⟨m2, m3, m1⟩ := hm
 obtain ⟨Dk, B0⟩ := yO w (Obj.cells #[.bool b, .string s, .string t, .int .i64 e] 41)
 go_enter Tryz.func4, Tryz.ntmps4
 go_wp2_with fail
 refine (KS.out _).mono ?_
 rintro r w1 ⟨rfl, b1⟩
 have B1 := zO B0 b1
 have Bu := zA b1 _ _ _ Dk
 clear b1 B0 Dk
 obtain ⟨Dq, Dr, Ds, Dt⟩ := zC Bu
 go_wp2_with fail
 refine (KM.out _).mono ?_
 rintro r w2 ⟨rfl, b2⟩
 have B2 := zO B1 b2
 have Bv := zA b2 _ _ _ Bu
 clear b2 B1 Bu Dq Dr Ds Dt
 obtain ⟨Du, Dv, Dw, Dx⟩ := zC Bv
 go_wp2_with fail
 refine (KF.out _).mono ?_
 rintro r w3 ⟨rfl, b3⟩
 have B3 := zO B2 b3
 have Bw := zA b3 _ _ _ Bv
 clear b3 B2 Bv Du Dv Dw Dx
 obtain ⟨Dy, Dz, DA, DB⟩ := zC Bw
 go_wp2_with fail
 refine (KO.out _).mono ?_
 rintro r w4 ⟨rfl, b4⟩
 have B4 := zO B3 b4
 have Bx := zA b4 _ _ _ Bw
 clear b4 B3 Bw Dy Dz DA DB
 obtain ⟨DC, DD, DE, DF⟩ := zC Bx
 go_wp2_with fail
 refine (KG.out _ (zV TT.out B4)).mono ?_
 rintro r w5 ⟨rfl, b5⟩
 have B5 := zO B4 b5
 have By := zA b5 _ _ _ Bx
 clear b5 B4 Bx DC DD DE DF
 obtain ⟨DG, DH, DI, DJ⟩ := zC By
 go_wp2_with fail
 refine (K1.out _ (zW FF.out B5) (zV TT.out B5)).mono ?_
 rintro r w6 ⟨rfl, b6⟩
 have B6 := zO B5 b6
 have AX := zA b6 _ _ _ By
 clear b6 B5 By DG DH DI DJ
 obtain ⟨DK, DL, DM, DN⟩ := zC AX
 have S7 := zH B6.size
 have Gj := z8 AX
 have Bz := heap_alloc_last w6 (Obj.cells #[.int .u64 bu, .int .u64 bv] 25)
 have B7 := zO B6 (yK w6 (Obj.cells #[.int .u64 bu, .int .u64 bv] 25))
 have BA := zA (yK w6 (Obj.cells #[.int .u64 bu, .int .u64 bv] 25)) _ _ _ AX
 clear B6 AX DK DL DM DN
 obtain ⟨DO, DP, DQ, DR⟩ := zC BA
 obtain ⟨DS, DT⟩ := zF Bz
 go_wp2_with fail
 refine (K2.out _ (zW FF.out B7) (zV TT.out B7)).mono ?_
 rintro r w8 ⟨rfl, b8⟩
 have B8 := zO B7 b8
 obtain ⟨AY, AZ⟩ := yB b8 BA Bz
 clear b8 B7 BA DO DP DQ DR Bz DS DT
 obtain ⟨DU, DV, DW, DX⟩ := zC AY
 obtain ⟨DY, DZ⟩ := zF AZ
 have S9 := zH B8.size
 have Gk := z8 AY
 have Gl := z8 AZ
 have A0 := heap_alloc_last w8 (Obj.cells #[.int .u64 lu, .int .u64 lv] 25)
 have B9 := zO B8 (yK w8 (Obj.cells #[.int .u64 lu, .int .u64 lv] 25))
 obtain ⟨A1, A2⟩ := yB (yK w8 (Obj.cells #[.int .u64 lu, .int .u64 lv] 25)) AY AZ
 clear B8 AY DU DV DW DX AZ DY DZ
 obtain ⟨D0, D1, D2, D3⟩ := zC A1
 obtain ⟨D4, D5⟩ := zF A2
 obtain ⟨D6, D7⟩ := zF A0
 have S10 := zH B9.size
 have Gm := z8 A1
 have Gn := z8 A2
 have Gp := z8 A0
 have Z10 := zH (zX w8 (Obj.cells #[.int .u64 lu, .int .u64 lv] 25))
 have A3 : ((w8.alloc (Obj.cells #[.int .u64 lu, .int .u64 lv] 25)).alloc (Obj.cells #[.int .u64 hu, .int .u64 hv] 25)).heap[w8.heap.size + 1]? = some (.cells #[.int .u64 hu, .int .u64 hv] 25) := by have := heap_alloc_last (w8.alloc (Obj.cells #[.int .u64 lu, .int .u64 lv] 25)) (Obj.cells #[.int .u64 hu, .int .u64 hv] 25); simpa only [zX] using this
 have B10 := zO B9 (yK (w8.alloc (Obj.cells #[.int .u64 lu, .int .u64 lv] 25)) (Obj.cells #[.int .u64 hu, .int .u64 hv] 25))
 obtain ⟨A4, A5, A6⟩ := yA (yK (w8.alloc (Obj.cells #[.int .u64 lu, .int .u64 lv] 25)) (Obj.cells #[.int .u64 hu, .int .u64 hv] 25)) A1 A2 A0
 clear B9 A1 D0 D1 D2 D3 A2 D4 D5 A0 D6 D7
 obtain ⟨D8, D9, Ea, Eb⟩ := zC A4
 obtain ⟨Dl, Dm⟩ := zF A5
 obtain ⟨Ec, Ed⟩ := zF A6
 obtain ⟨Ee, Ef⟩ := zF A3
 have kb0 := Dl
 have kb1 := Dm
 have S11 := zH B10.size
 have Gq := z8 A4
 have Gr := z8 A5
 have Gs := z8 A6
 have Gt := z8 A3
 have Z11 := zH (zX (w8.alloc (Obj.cells #[.int .u64 lu, .int .u64 lv] 25)) (Obj.cells #[.int .u64 hu, .int .u64 hv] 25))
 have BB : (((w8.alloc (Obj.cells #[.int .u64 lu, .int .u64 lv] 25)).alloc (Obj.cells #[.int .u64 hu, .int .u64 hv] 25)).alloc (Obj.cells #[.int .u64 bu, .int .u64 bv] 25)).heap[w8.heap.size + 1 + 1]? = some (.cells #[.int .u64 bu, .int .u64 bv] 25) := by have := heap_alloc_last ((w8.alloc (Obj.cells #[.int .u64 lu, .int .u64 lv] 25)).alloc (Obj.cells #[.int .u64 hu, .int .u64 hv] 25)) (Obj.cells #[.int .u64 bu, .int .u64 bv] 25); simpa only [zX] using this
 have B11 := zO B10 (yK ((w8.alloc (Obj.cells #[.int .u64 lu, .int .u64 lv] 25)).alloc (Obj.cells #[.int .u64 hu, .int .u64 hv] 25)) (Obj.cells #[.int .u64 bu, .int .u64 bv] 25))
 obtain ⟨BC, BD, BE, BF⟩ := qT (yK ((w8.alloc (Obj.cells #[.int .u64 lu, .int .u64 lv] 25)).alloc (Obj.cells #[.int .u64 hu, .int .u64 hv] 25)) (Obj.cells #[.int .u64 bu, .int .u64 bv] 25)) A4 A5 A6 A3
 clear B10 A4 D8 D9 Ea Eb A5 Dl Dm A6 Ec Ed A3 Ee Ef
 obtain ⟨Eg, Eh, Ei, Ej⟩ := zC BC
 obtain ⟨Ek, El⟩ := zF BD
 obtain ⟨Em, En⟩ := zF BE
 obtain ⟨Eo, Ep⟩ := zF BF
 obtain ⟨Eq, Er⟩ := zF BB
 go_wp2_with fail
 refine (KC.out _ (zW FF.out B11)).mono ?_
 rintro r w12 ⟨rfl, b12⟩
 have B12 := zO B11 b12
 obtain ⟨BG, BH, BI, BJ, BK⟩ := xP b12 BC BD BE BF BB
 clear b12 B11 BC Eg Eh Ei Ej BD Ek El BE Em En BF Eo Ep BB Eq Er
 obtain ⟨Es, Et, Eu, Ev⟩ := zC BG
 obtain ⟨Ew, Ex⟩ := zF BH
 obtain ⟨Ey, Ez⟩ := zF BI
 obtain ⟨EA, EB⟩ := zF BJ
 obtain ⟨EC, ED⟩ := zF BK
 clear kb0 kb1
 have HZ := H.out
 clear H
 rcases HZ with ⟨c3, c4, n6e, ql⟩ | ⟨c3, c4, n6e, ql, qh⟩ | ⟨c3, c4, n6e, n1e, ql⟩ | ⟨c3, c4, n6e, n1e, ql, qh⟩ | ⟨c3, c4, n6e, n1e, ql⟩ | ⟨c3, c4, n6e, n1e, ql, qh⟩
 all_goals
  go_wp2_with fail
  refine (KV.out _ (zW FF.out B12) (zV TT.out B12)).mono ?_
  rintro r w13 ⟨rfl, b13⟩
  have B13 := zO B12 b13
  obtain ⟨A7, A8, A9, Ba, Bb⟩ := xP b13 BG BH BI BJ BK
  clear b13 B12 BG Es Et Eu Ev BH Ew Ex BI Ey Ez BJ EA EB BK EC ED
  obtain ⟨EE, EF, EG, EH⟩ := zC A7
  obtain ⟨EI, EJ⟩ := zF A8
  obtain ⟨EK, EL⟩ := zF A9
  obtain ⟨EM, EN⟩ := zF Ba
  obtain ⟨EO, EP⟩ := zF Bb
  have S14 := zH B13.size
  have Gu := z8 A7
  have Gv := z8 A8
  have Gw := z8 A9
  have Gx := z8 Ba
  have Gy := z8 Bb
  have BL := heap_alloc_last w13 (Obj.cells #[.bool vb, .string vn, .string vd, .int .i64 ve] 41)
  have B14 := zO B13 (yK w13 (Obj.cells #[.bool vb, .string vn, .string vd, .int .i64 ve] 41))
  obtain ⟨BM, BN, BO, BP, BQ⟩ := xP (yK w13 (Obj.cells #[.bool vb, .string vn, .string vd, .int .i64 ve] 41)) A7 A8 A9 Ba Bb
  clear B13 A7 EE EF EG EH A8 EI EJ A9 EK EL Ba EM EN Bb EO EP
  obtain ⟨EQ, ER, ES, ET⟩ := zC BM
  obtain ⟨EU, EV⟩ := zF BN
  obtain ⟨EW, EX⟩ := zF BO
  obtain ⟨EY, EZ⟩ := zF BP
  obtain ⟨E0, E1⟩ := zF BQ
  obtain ⟨E2, E3, E4, E5⟩ := zC BL
  go_wp2_with fail
  refine (KD.out _ (zV TT.out B14)).mono ?_
  rintro r w15 ⟨rfl, b15⟩
  have B15 := zO B14 b15
  obtain ⟨Bc, Bd, Be, Bf, Bg, Bh⟩ := rws6 b15 BM BN BO BP BQ BL
  clear b15 B14 BM EQ ER ES ET BN EU EV BO EW EX BP EY EZ BQ E0 E1 BL E2 E3 E4 E5
  obtain ⟨E6, E7, E8, E9⟩ := zC Bc
  obtain ⟨Fa, Fb⟩ := zF Bd
  obtain ⟨Fc, Fd⟩ := zF Be
  obtain ⟨Fe, Ff⟩ := zF Bf
  obtain ⟨Fg, Fh⟩ := zF Bg
  obtain ⟨Fi, Fj, Fk, Fl⟩ := zC Bh
  have S16 := zH B15.size
  have Gz := z8 Bc
  have GA := z8 Bd
  have GB := z8 Be
  have GC := z8 Bf
  have GD := z8 Bg
  have GE := z8 Bh
  have BR := heap_alloc_last w15 (Obj.cells #[.bool db, .string dn, .string dd, .int .i64 de] 41)
  have B16 := zO B15 (yK w15 (Obj.cells #[.bool db, .string dn, .string dd, .int .i64 de] 41))
  obtain ⟨BS, Dn, BT, BU, Do, Dp⟩ := rws6 (yK w15 (Obj.cells #[.bool db, .string dn, .string dd, .int .i64 de] 41)) Bc Bd Be Bf Bg Bh
  clear B15 Bc E6 E7 E8 E9 Bd Fa Fb Be Fc Fd Bf Fe Ff Bg Fg Fh Bh Fi Fj Fk Fl
  obtain ⟨Fm, Fn, Fo, Fp⟩ := zC BS
  obtain ⟨Fq, Fr⟩ := zF Dn
  obtain ⟨Fs, Ft⟩ := zF BT
  obtain ⟨Fu, Fv⟩ := zF BU
  obtain ⟨Fw, Fx⟩ := zF Do
  obtain ⟨Fy, Fz, FA, FB⟩ := zC Dp
  obtain ⟨FC, FD, FE, FG⟩ := zC BR
  clear Dn Fq Fr
  clear Do Fw Fx
  clear Dp Fy Fz FA FB
  go_wp2_with fail
  go_loopw [20] (fun iv wr => ∃ k : Int, (k = 0 ∨ k = 1 ∨ k = 2) ∧ iv = .int .i64 k ∧ Below w.heap.size w wr ∧ wr.heap[w.heap.size]? = some (.cells #[.bool b, .string s, .string t, .int .i64 e] 41) ∧ wr.heap[w8.heap.size]? = some (.cells #[.int .u64 lu, .int .u64 lv] 25) ∧ wr.heap[w8.heap.size + 1]? = some (.cells #[.int .u64 hu, .int .u64 hv] 25) ∧ wr.heap[w15.heap.size]? = some (.cells #[.bool db, .string dn, .string dd, .int .i64 de] 41)) (fun iv _ => 2 - (intOf iv).toNat)
  case atStart => exact ⟨0, by omega, rfl, B16, BS, BT, BU, BR⟩
  case round =>
   obtain ⟨k, hk, rfl, B40, Ab, Ac, Aa, Ad⟩ := hrel
   obtain ⟨w40, FH⟩ : ∃ w40, w40 = wr := ⟨_, rfl⟩
   subst FH
   clear B16 BS BT BU BR Fm Fn Fo Fp Fs Ft Fu Fv FC FD FE FG
   rcases hk with rfl | rfl | rfl
   ·
    skip
    obtain ⟨AN, AO, AP, AQ⟩ := zC Ab
    obtain ⟨Ax, Ay⟩ := zF Ac
    obtain ⟨AR, AS⟩ := zF Aa
    obtain ⟨AT, AU, AV, AW⟩ := zC Ad
    have kl0 := Ax
    have kl1 := Ay
    have S41 := zH B40.size
    have FI := z8 Ab
    have FJ := z8 Ac
    have FK := z8 Aa
    have FL := z8 Ad
    have Az := heap_alloc_last w40 (Obj.cells #[.int .u64 lu, .int .u64 lv] 25)
    have B41 := zO B40 (yK w40 (Obj.cells #[.int .u64 lu, .int .u64 lv] 25))
    obtain ⟨Ae, Af, Ag, Ah⟩ := qT (yK w40 (Obj.cells #[.int .u64 lu, .int .u64 lv] 25)) Ab Ac Aa Ad
    clear B40 Ab AN AO AP AQ Ac Ax Ay Aa AR AS Ad AT AU AV AW
    obtain ⟨Bi, Bj, Bk, Bl⟩ := zC Ae
    obtain ⟨Bm, Bn⟩ := zF Af
    obtain ⟨Bo, Bp⟩ := zF Ag
    obtain ⟨Bq, Br, Bs, Bt⟩ := zC Ah
    obtain ⟨BV, BW⟩ := zF Az
    go_wp2_with fail
    refine (KL7.out _ (zW FF.out B41) (zV TT.out B41)).mono ?_
    rintro r w42 ⟨rfl, b42⟩
    have B42 := zO B41 b42
    obtain ⟨Ai, Aj, Ak, Al, Am⟩ := xP b42 Ae Af Ag Ah Az
    clear b42 B41 Ae Bi Bj Bk Bl Af Bm Bn Ag Bo Bp Ah Bq Br Bs Bt Az BV BW
    obtain ⟨BX, BY, BZ, Ca⟩ := zC Ai
    obtain ⟨Cb, Cc⟩ := zF Aj
    obtain ⟨Cd, Ce⟩ := zF Ak
    obtain ⟨Cf, Cg, Ch, Ci⟩ := zC Al
    obtain ⟨Cj, Ck⟩ := zF Am
    clear kl0 kl1
    have S43 := zH B42.size
    have FM := z8 Ai
    have FN := z8 Aj
    have FO := z8 Ak
    have FP := z8 Al
    have FQ := z8 Am
    have AA := heap_alloc_last w42 (Obj.cells #[.bool b7, .string n7, .string d7, .int .i64 e7] 41)
    have B43 := zO B42 (yK w42 (Obj.cells #[.bool b7, .string n7, .string d7, .int .i64 e7] 41))
    obtain ⟨An, Ao, Ap, Aq, AB⟩ := xP (yK w42 (Obj.cells #[.bool b7, .string n7, .string d7, .int .i64 e7] 41)) Ai Aj Ak Al Am
    clear B42 Ai BX BY BZ Ca Aj Cb Cc Ak Cd Ce Al Cf Cg Ch Ci Am Cj Ck
    obtain ⟨Cl, Cm, Cn, Co⟩ := zC An
    obtain ⟨Cp, Cq⟩ := zF Ao
    obtain ⟨Cr, Cs⟩ := zF Ap
    obtain ⟨Ct, Cu, Cv, Cw⟩ := zC Aq
    obtain ⟨Cx, Cy⟩ := zF AB
    obtain ⟨Cz, CA, CB, CC⟩ := zC AA
    rcases HL7.out with rfl | ⟨rfl, KT, KAt, KCm, hcc⟩
    ·
     skip
     go_wp2
     go_roundw
     case rel => exact ⟨1, by omega, rfl, B43, An, Ao, Ap, Aq⟩
     case measure => simp [intOf]
    ·
     skip
     go_wp2_with fail
     refine (KT.out _ (zV TT.out B43)).mono ?_
     rintro r w44 ⟨rfl, b44⟩
     have B44 := zO B43 b44
     obtain ⟨Ar, As, At, Au, Av, Aw⟩ := rws6 b44 An Ao Ap Aq AB AA
     clear b44 B43 An Cl Cm Cn Co Ao Cp Cq Ap Cr Cs Aq Ct Cu Cv Cw AB Cx Cy AA Cz CA CB CC
     obtain ⟨CD, CE, CF, CG⟩ := zC Ar
     obtain ⟨CH, CI⟩ := zF As
     obtain ⟨CJ, CK⟩ := zF At
     obtain ⟨CL, CM, CN, CO⟩ := zC Au
     obtain ⟨CP, CQ⟩ := zF Av
     obtain ⟨CR, CS, CT, CU⟩ := zC Aw
     have S45 := zH B44.size
     have FR := z8 Ar
     have FS := z8 As
     have FT := z8 At
     have FU := z8 Au
     have FV := z8 Av
     have FW := z8 Aw
     have AC := heap_alloc_last w44 (Obj.cells #[.bool tb7, .string tn7, .string td7, .int .i64 te7] 41)
     have B45 := zO B44 (yK w44 (Obj.cells #[.bool tb7, .string tn7, .string td7, .int .i64 te7] 41))
     obtain ⟨AD, AE, AF, AG, AH, AI⟩ := rws6 (yK w44 (Obj.cells #[.bool tb7, .string tn7, .string td7, .int .i64 te7] 41)) Ar As At Au Av Aw
     clear B44 Ar CD CE CF CG As CH CI At CJ CK Au CL CM CN CO Av CP CQ Aw CR CS CT CU
     obtain ⟨CV, CW, CX, CY⟩ := zC AD
     obtain ⟨CZ, C0⟩ := zF AE
     obtain ⟨C1, C2⟩ := zF AF
     obtain ⟨C3, C4, C5, C6⟩ := zC AG
     obtain ⟨C7, C8⟩ := zF AH
     obtain ⟨C9, Da, Db, Dc⟩ := zC AI
     obtain ⟨Dd, De, Df, Dg⟩ := zC AC
     have sS : zS (∀ W W1 : World, (Below w.heap.size w W ∧ W.heap[w.heap.size]? = some (.cells #[.bool b, .string s, .string t, .int .i64 e] 41) ∧ W.heap[w8.heap.size]? = some (.cells #[.int .u64 lu, .int .u64 lv] 25) ∧ W.heap[w8.heap.size + 1]? = some (.cells #[.int .u64 hu, .int .u64 hv] 25) ∧ W.heap[w15.heap.size]? = some (.cells #[.bool db, .string dn, .string dd, .int .i64 de] 41) ∧ W.heap[w40.heap.size]? = some (.cells #[.int .u64 lu, .int .u64 lv] 25) ∧ W.heap[w42.heap.size]? = some (.cells #[.bool b7, .string n7, .string d7, .int .i64 e7] 41) ∧ W.heap[w44.heap.size]? = some (.cells #[.bool tb7, .string tn7, .string td7, .int .i64 te7] 41)) → Below W.heap.size W W1 → (Below w.heap.size w W1 ∧ W1.heap[w.heap.size]? = some (.cells #[.bool b, .string s, .string t, .int .i64 e] 41) ∧ W1.heap[w8.heap.size]? = some (.cells #[.int .u64 lu, .int .u64 lv] 25) ∧ W1.heap[w8.heap.size + 1]? = some (.cells #[.int .u64 hu, .int .u64 hv] 25) ∧ W1.heap[w15.heap.size]? = some (.cells #[.bool db, .string dn, .string dd, .int .i64 de] 41) ∧ W1.heap[w40.heap.size]? = some (.cells #[.int .u64 lu, .int .u64 lv] 25) ∧ W1.heap[w42.heap.size]? = some (.cells #[.bool b7, .string n7, .string d7, .int .i64 e7] 41) ∧ W1.heap[w44.heap.size]? = some (.cells #[.bool tb7, .string tn7, .string td7, .int .i64 te7] 41))) := zH (fun W W1 h b => ⟨zO h.1 b, zA b _ _ _ h.2.1, zA b _ _ _ h.2.2.1, zA b _ _ _ h.2.2.2.1, zA b _ _ _ h.2.2.2.2.1, zA b _ _ _ h.2.2.2.2.2.1, zA b _ _ _ h.2.2.2.2.2.2.1, zA b _ _ _ h.2.2.2.2.2.2.2⟩)
     have sC : zS (∀ W : World, (Below w.heap.size w W ∧ W.heap[w.heap.size]? = some (.cells #[.bool b, .string s, .string t, .int .i64 e] 41) ∧ W.heap[w8.heap.size]? = some (.cells #[.int .u64 lu, .int .u64 lv] 25) ∧ W.heap[w8.heap.size + 1]? = some (.cells #[.int .u64 hu, .int .u64 hv] 25) ∧ W.heap[w15.heap.size]? = some (.cells #[.bool db, .string dn, .string dd, .int .i64 de] 41) ∧ W.heap[w40.heap.size]? = some (.cells #[.int .u64 lu, .int .u64 lv] 25) ∧ W.heap[w42.heap.size]? = some (.cells #[.bool b7, .string n7, .string d7, .int .i64 e7] 41) ∧ W.heap[w44.heap.size]? = some (.cells #[.bool tb7, .string tn7, .string td7, .int .i64 te7] 41)) → (Below w.heap.size w W ∧ W.heap[w.heap.size]? = some (.cells #[.bool b, .string s, .string t, .int .i64 e] 41) ∧ W.heap[w8.heap.size]? = some (.cells #[.int .u64 lu, .int .u64 lv] 25) ∧ W.heap[w8.heap.size + 1]? = some (.cells #[.int .u64 hu, .int .u64 hv] 25) ∧ W.heap[w15.heap.size]? = some (.cells #[.bool db, .string dn, .string dd, .int .i64 de] 41) ∧ W.heap[w40.heap.size]? = some (.cells #[.int .u64 lu, .int .u64 lv] 25) ∧ W.heap[w42.heap.size]? = some (.cells #[.bool b7, .string n7, .string d7, .int .i64 e7] 41) ∧ W.heap[w44.heap.size]? = some (.cells #[.bool tb7, .string tn7, .string td7, .int .i64 te7] 41) ∧ W.cell? ⟨w15.heap.size, 0, none⟩ = some (.bool db) ∧ W.cell? ⟨w15.heap.size, 1, none⟩ = some (.string dn) ∧ W.cell? ⟨w15.heap.size, 2, none⟩ = some (.string dd) ∧ W.cell? ⟨w15.heap.size, 3, none⟩ = some (.int .i64 de) ∧ W.cell? ⟨w44.heap.size, 0, none⟩ = some (.bool tb7) ∧ W.cell? ⟨w44.heap.size, 1, none⟩ = some (.string tn7) ∧ W.cell? ⟨w44.heap.size, 2, none⟩ = some (.string td7) ∧ W.cell? ⟨w44.heap.size, 3, none⟩ = some (.int .i64 te7))) := zH (fun W h => ⟨h.1, h.2.1, h.2.2.1, h.2.2.2.1, h.2.2.2.2.1, h.2.2.2.2.2.1, h.2.2.2.2.2.2.1, h.2.2.2.2.2.2.2, zL (h.2.2.2.2.1) 0 _ rfl, zL (h.2.2.2.2.1) 1 _ rfl, zL (h.2.2.2.2.1) 2 _ rfl, zL (h.2.2.2.2.1) 3 _ rfl, zL (h.2.2.2.2.2.2.2) 0 _ rfl, zL (h.2.2.2.2.2.2.2) 1 _ rfl, zL (h.2.2.2.2.2.2.2) 2 _ rfl, zL (h.2.2.2.2.2.2.2) 3 _ rfl⟩)
     have s0 : Below w.heap.size w ((w44.alloc (Obj.cells #[.bool tb7, .string tn7, .string td7, .int .i64 te7] 41))).drew ∧ ((w44.alloc (Obj.cells #[.bool tb7, .string tn7, .string td7, .int .i64 te7] 41))).drew.heap[w.heap.size]? = some (.cells #[.bool b, .string s, .string t, .int .i64 e] 41) ∧ ((w44.alloc (Obj.cells #[.bool tb7, .string tn7, .string td7, .int .i64 te7] 41))).drew.heap[w8.heap.size]? = some (.cells #[.int .u64 lu, .int .u64 lv] 25) ∧ ((w44.alloc (Obj.cells #[.bool tb7, .string tn7, .string td7, .int .i64 te7] 41))).drew.heap[w8.heap.size + 1]? = some (.cells #[.int .u64 hu, .int .u64 hv] 25) ∧ ((w44.alloc (Obj.cells #[.bool tb7, .string tn7, .string td7, .int .i64 te7] 41))).drew.heap[w15.heap.size]? = some (.cells #[.bool db, .string dn, .string dd, .int .i64 de] 41) ∧ ((w44.alloc (Obj.cells #[.bool tb7, .string tn7, .string td7, .int .i64 te7] 41))).drew.heap[w40.heap.size]? = some (.cells #[.int .u64 lu, .int .u64 lv] 25) ∧ ((w44.alloc (Obj.cells #[.bool tb7, .string tn7, .string td7, .int .i64 te7] 41))).drew.heap[w42.heap.size]? = some (.cells #[.bool b7, .string n7, .string d7, .int .i64 e7] 41) ∧ ((w44.alloc (Obj.cells #[.bool tb7, .string tn7, .string td7, .int .i64 te7] 41))).drew.heap[w44.heap.size]? = some (.cells #[.bool tb7, .string tn7, .string td7, .int .i64 te7] 41) := ⟨B45.drew, AD, AE, AF, AG, AH, AI, AC⟩
     go_wp2_with fail
     go_region_held3 (fun W => Below w.heap.size w W ∧ W.heap[w.heap.size]? = some (.cells #[.bool b, .string s, .string t, .int .i64 e] 41) ∧ W.heap[w8.heap.size]? = some (.cells #[.int .u64 lu, .int .u64 lv] 25) ∧ W.heap[w8.heap.size + 1]? = some (.cells #[.int .u64 hu, .int .u64 hv] 25) ∧ W.heap[w15.heap.size]? = some (.cells #[.bool db, .string dn, .string dd, .int .i64 de] 41) ∧ W.heap[w40.heap.size]? = some (.cells #[.int .u64 lu, .int .u64 lv] 25) ∧ W.heap[w42.heap.size]? = some (.cells #[.bool b7, .string n7, .string d7, .int .i64 e7] 41) ∧ W.heap[w44.heap.size]? = some (.cells #[.bool tb7, .string tn7, .string td7, .int .i64 te7] 41) ∧ W.cell? ⟨w15.heap.size, 0, none⟩ = some (.bool db) ∧ W.cell? ⟨w15.heap.size, 1, none⟩ = some (.string dn) ∧ W.cell? ⟨w15.heap.size, 2, none⟩ = some (.string dd) ∧ W.cell? ⟨w15.heap.size, 3, none⟩ = some (.int .i64 de) ∧ W.cell? ⟨w44.heap.size, 0, none⟩ = some (.bool tb7) ∧ W.cell? ⟨w44.heap.size, 1, none⟩ = some (.string tn7) ∧ W.cell? ⟨w44.heap.size, 2, none⟩ = some (.string td7) ∧ W.cell? ⟨w44.heap.size, 3, none⟩ = some (.int .i64 te7)) (first | exact sC.out _ s1 | exact sC.out _ s0)
      (((first | (go_at_call_of 25 (Value.agg #[.bool db, .string dn, .string dd, .int .i64 de]); (first | refine (KAd.out _ (zV TT.out (And.left s1))).mono ?_ | refine (KAd.out _ (zV TT.out (And.left s0))).mono ?_)) | (go_at_call_of 25 (Value.agg #[.bool tb7, .string tn7, .string td7, .int .i64 te7]); (first | refine (KAt.out _ (zV TT.out (And.left s1))).mono ?_ | refine (KAt.out _ (zV TT.out (And.left s0))).mono ?_)) | (go_at_call 24; (first | refine (KCm.out _ (zV TT.out (And.left s1))).mono ?_ | refine (KCm.out _ (zV TT.out (And.left s0))).mono ?_)) | fail); rintro r wq ⟨rfl, bq⟩; (first | have s1 := sS.out _ _ s1 bq | have s1 := sS.out _ _ s0 bq); clear bq))
     have B46 := (And.left s1)
     have AJ := s1.2.1
     have AK := s1.2.2.1
     have AL := s1.2.2.2.1
     have AM := s1.2.2.2.2.1
     have Dh := s1.2.2.2.2.2.1
     have Di := s1.2.2.2.2.2.2.1
     have Dj := s1.2.2.2.2.2.2.2
     clear s0 s1 sS sC B45 AD CV CW CX CY AE CZ C0 AF C1 C2 AG C3 C4 C5 C6 AH C7 C8 AI C9 Da Db Dc AC Dd De Df Dg
     obtain ⟨FX, FY, FZ, F0⟩ := zC AJ
     obtain ⟨F1, F2⟩ := zF AK
     obtain ⟨F3, F4⟩ := zF AL
     obtain ⟨F5, F6, F7, F8⟩ := zC AM
     obtain ⟨F9, Ga⟩ := zF Dh
     obtain ⟨Gb, Gc, Gd, Ge⟩ := zC Di
     obtain ⟨Gf, Gg, Gh, Gi⟩ := zC Dj
     rcases hcc with hcc | ⟨hcc, hcd⟩
     ·
      go_wp2
      go_roundw
      case rel => exact ⟨1, by omega, rfl, B46, AJ, AK, AL, AM⟩
      case measure => simp [intOf]
     ·
      go_wp2
      go_roundw
      case rel => exact ⟨1, by omega, rfl, B46, AJ, AK, AL, AM⟩
      case measure => simp [intOf]
   ·
    skip
    obtain ⟨AN, AO, AP, AQ⟩ := zC Ab
    obtain ⟨Ax, Ay⟩ := zF Ac
    obtain ⟨AR, AS⟩ := zF Aa
    obtain ⟨AT, AU, AV, AW⟩ := zC Ad
    have kl0 := Ax
    have kl1 := Ay
    have kR := zA (yK w40 (Obj.cells #[.int .u64 lu, .int .u64 lv] 25)) _ _ _ Aa
    obtain ⟨kh0, kh1⟩ := zF kR
    have S41 := zH B40.size
    have FI := z8 Ab
    have FJ := z8 Ac
    have FK := z8 Aa
    have FL := z8 Ad
    have Az := heap_alloc_last w40 (Obj.cells #[.int .u64 hu, .int .u64 hv] 25)
    have B41 := zO B40 (yK w40 (Obj.cells #[.int .u64 hu, .int .u64 hv] 25))
    obtain ⟨Ae, Af, Ag, Ah⟩ := qT (yK w40 (Obj.cells #[.int .u64 hu, .int .u64 hv] 25)) Ab Ac Aa Ad
    clear B40 Ab AN AO AP AQ Ac Ax Ay Aa AR AS Ad AT AU AV AW
    obtain ⟨Bi, Bj, Bk, Bl⟩ := zC Ae
    obtain ⟨Bm, Bn⟩ := zF Af
    obtain ⟨Bo, Bp⟩ := zF Ag
    obtain ⟨Bq, Br, Bs, Bt⟩ := zC Ah
    obtain ⟨BV, BW⟩ := zF Az
    go_wp2_with fail
    refine (KL8.out _ (zW FF.out B41) (zV TT.out B41)).mono ?_
    rintro r w42 ⟨rfl, b42⟩
    have B42 := zO B41 b42
    obtain ⟨Ai, Aj, Ak, Al, Am⟩ := xP b42 Ae Af Ag Ah Az
    clear b42 B41 Ae Bi Bj Bk Bl Af Bm Bn Ag Bo Bp Ah Bq Br Bs Bt Az BV BW
    obtain ⟨BX, BY, BZ, Ca⟩ := zC Ai
    obtain ⟨Cb, Cc⟩ := zF Aj
    obtain ⟨Cd, Ce⟩ := zF Ak
    obtain ⟨Cf, Cg, Ch, Ci⟩ := zC Al
    obtain ⟨Cj, Ck⟩ := zF Am
    clear kl0 kl1 kR kh0 kh1
    have S43 := zH B42.size
    have FM := z8 Ai
    have FN := z8 Aj
    have FO := z8 Ak
    have FP := z8 Al
    have FQ := z8 Am
    have AA := heap_alloc_last w42 (Obj.cells #[.bool b8, .string n8, .string d8, .int .i64 e8] 41)
    have B43 := zO B42 (yK w42 (Obj.cells #[.bool b8, .string n8, .string d8, .int .i64 e8] 41))
    obtain ⟨An, Ao, Ap, Aq, AB⟩ := xP (yK w42 (Obj.cells #[.bool b8, .string n8, .string d8, .int .i64 e8] 41)) Ai Aj Ak Al Am
    clear B42 Ai BX BY BZ Ca Aj Cb Cc Ak Cd Ce Al Cf Cg Ch Ci Am Cj Ck
    obtain ⟨Cl, Cm, Cn, Co⟩ := zC An
    obtain ⟨Cp, Cq⟩ := zF Ao
    obtain ⟨Cr, Cs⟩ := zF Ap
    obtain ⟨Ct, Cu, Cv, Cw⟩ := zC Aq
    obtain ⟨Cx, Cy⟩ := zF AB
    obtain ⟨Cz, CA, CB, CC⟩ := zC AA
    rcases HL8.out with rfl | ⟨rfl, KT, KAt, KCm, hcc⟩
    ·
     skip
     go_wp2
     go_roundw
     case rel => exact ⟨2, by omega, rfl, B43, An, Ao, Ap, Aq⟩
     case measure => simp [intOf]
    ·
     skip
     go_wp2_with fail
     refine (KT.out _ (zV TT.out B43)).mono ?_
     rintro r w44 ⟨rfl, b44⟩
     have B44 := zO B43 b44
     obtain ⟨Ar, As, At, Au, Av, Aw⟩ := rws6 b44 An Ao Ap Aq AB AA
     clear b44 B43 An Cl Cm Cn Co Ao Cp Cq Ap Cr Cs Aq Ct Cu Cv Cw AB Cx Cy AA Cz CA CB CC
     obtain ⟨CD, CE, CF, CG⟩ := zC Ar
     obtain ⟨CH, CI⟩ := zF As
     obtain ⟨CJ, CK⟩ := zF At
     obtain ⟨CL, CM, CN, CO⟩ := zC Au
     obtain ⟨CP, CQ⟩ := zF Av
     obtain ⟨CR, CS, CT, CU⟩ := zC Aw
     have S45 := zH B44.size
     have FR := z8 Ar
     have FS := z8 As
     have FT := z8 At
     have FU := z8 Au
     have FV := z8 Av
     have FW := z8 Aw
     have AC := heap_alloc_last w44 (Obj.cells #[.bool tb8, .string tn8, .string td8, .int .i64 te8] 41)
     have B45 := zO B44 (yK w44 (Obj.cells #[.bool tb8, .string tn8, .string td8, .int .i64 te8] 41))
     obtain ⟨AD, AE, AF, AG, AH, AI⟩ := rws6 (yK w44 (Obj.cells #[.bool tb8, .string tn8, .string td8, .int .i64 te8] 41)) Ar As At Au Av Aw
     clear B44 Ar CD CE CF CG As CH CI At CJ CK Au CL CM CN CO Av CP CQ Aw CR CS CT CU
     obtain ⟨CV, CW, CX, CY⟩ := zC AD
     obtain ⟨CZ, C0⟩ := zF AE
     obtain ⟨C1, C2⟩ := zF AF
     obtain ⟨C3, C4, C5, C6⟩ := zC AG
     obtain ⟨C7, C8⟩ := zF AH
     obtain ⟨C9, Da, Db, Dc⟩ := zC AI
     obtain ⟨Dd, De, Df, Dg⟩ := zC AC
     have sS : zS (∀ W W1 : World, (Below w.heap.size w W ∧ W.heap[w.heap.size]? = some (.cells #[.bool b, .string s, .string t, .int .i64 e] 41) ∧ W.heap[w8.heap.size]? = some (.cells #[.int .u64 lu, .int .u64 lv] 25) ∧ W.heap[w8.heap.size + 1]? = some (.cells #[.int .u64 hu, .int .u64 hv] 25) ∧ W.heap[w15.heap.size]? = some (.cells #[.bool db, .string dn, .string dd, .int .i64 de] 41) ∧ W.heap[w40.heap.size]? = some (.cells #[.int .u64 hu, .int .u64 hv] 25) ∧ W.heap[w42.heap.size]? = some (.cells #[.bool b8, .string n8, .string d8, .int .i64 e8] 41) ∧ W.heap[w44.heap.size]? = some (.cells #[.bool tb8, .string tn8, .string td8, .int .i64 te8] 41)) → Below W.heap.size W W1 → (Below w.heap.size w W1 ∧ W1.heap[w.heap.size]? = some (.cells #[.bool b, .string s, .string t, .int .i64 e] 41) ∧ W1.heap[w8.heap.size]? = some (.cells #[.int .u64 lu, .int .u64 lv] 25) ∧ W1.heap[w8.heap.size + 1]? = some (.cells #[.int .u64 hu, .int .u64 hv] 25) ∧ W1.heap[w15.heap.size]? = some (.cells #[.bool db, .string dn, .string dd, .int .i64 de] 41) ∧ W1.heap[w40.heap.size]? = some (.cells #[.int .u64 hu, .int .u64 hv] 25) ∧ W1.heap[w42.heap.size]? = some (.cells #[.bool b8, .string n8, .string d8, .int .i64 e8] 41) ∧ W1.heap[w44.heap.size]? = some (.cells #[.bool tb8, .string tn8, .string td8, .int .i64 te8] 41))) := zH (fun W W1 h b => ⟨zO h.1 b, zA b _ _ _ h.2.1, zA b _ _ _ h.2.2.1, zA b _ _ _ h.2.2.2.1, zA b _ _ _ h.2.2.2.2.1, zA b _ _ _ h.2.2.2.2.2.1, zA b _ _ _ h.2.2.2.2.2.2.1, zA b _ _ _ h.2.2.2.2.2.2.2⟩)
     have sC : zS (∀ W : World, (Below w.heap.size w W ∧ W.heap[w.heap.size]? = some (.cells #[.bool b, .string s, .string t, .int .i64 e] 41) ∧ W.heap[w8.heap.size]? = some (.cells #[.int .u64 lu, .int .u64 lv] 25) ∧ W.heap[w8.heap.size + 1]? = some (.cells #[.int .u64 hu, .int .u64 hv] 25) ∧ W.heap[w15.heap.size]? = some (.cells #[.bool db, .string dn, .string dd, .int .i64 de] 41) ∧ W.heap[w40.heap.size]? = some (.cells #[.int .u64 hu, .int .u64 hv] 25) ∧ W.heap[w42.heap.size]? = some (.cells #[.bool b8, .string n8, .string d8, .int .i64 e8] 41) ∧ W.heap[w44.heap.size]? = some (.cells #[.bool tb8, .string tn8, .string td8, .int .i64 te8] 41)) → (Below w.heap.size w W ∧ W.heap[w.heap.size]? = some (.cells #[.bool b, .string s, .string t, .int .i64 e] 41) ∧ W.heap[w8.heap.size]? = some (.cells #[.int .u64 lu, .int .u64 lv] 25) ∧ W.heap[w8.heap.size + 1]? = some (.cells #[.int .u64 hu, .int .u64 hv] 25) ∧ W.heap[w15.heap.size]? = some (.cells #[.bool db, .string dn, .string dd, .int .i64 de] 41) ∧ W.heap[w40.heap.size]? = some (.cells #[.int .u64 hu, .int .u64 hv] 25) ∧ W.heap[w42.heap.size]? = some (.cells #[.bool b8, .string n8, .string d8, .int .i64 e8] 41) ∧ W.heap[w44.heap.size]? = some (.cells #[.bool tb8, .string tn8, .string td8, .int .i64 te8] 41) ∧ W.cell? ⟨w15.heap.size, 0, none⟩ = some (.bool db) ∧ W.cell? ⟨w15.heap.size, 1, none⟩ = some (.string dn) ∧ W.cell? ⟨w15.heap.size, 2, none⟩ = some (.string dd) ∧ W.cell? ⟨w15.heap.size, 3, none⟩ = some (.int .i64 de) ∧ W.cell? ⟨w44.heap.size, 0, none⟩ = some (.bool tb8) ∧ W.cell? ⟨w44.heap.size, 1, none⟩ = some (.string tn8) ∧ W.cell? ⟨w44.heap.size, 2, none⟩ = some (.string td8) ∧ W.cell? ⟨w44.heap.size, 3, none⟩ = some (.int .i64 te8))) := zH (fun W h => ⟨h.1, h.2.1, h.2.2.1, h.2.2.2.1, h.2.2.2.2.1, h.2.2.2.2.2.1, h.2.2.2.2.2.2.1, h.2.2.2.2.2.2.2, zL (h.2.2.2.2.1) 0 _ rfl, zL (h.2.2.2.2.1) 1 _ rfl, zL (h.2.2.2.2.1) 2 _ rfl, zL (h.2.2.2.2.1) 3 _ rfl, zL (h.2.2.2.2.2.2.2) 0 _ rfl, zL (h.2.2.2.2.2.2.2) 1 _ rfl, zL (h.2.2.2.2.2.2.2) 2 _ rfl, zL (h.2.2.2.2.2.2.2) 3 _ rfl⟩)
     have s0 : Below w.heap.size w ((w44.alloc (Obj.cells #[.bool tb8, .string tn8, .string td8, .int .i64 te8] 41))).drew ∧ ((w44.alloc (Obj.cells #[.bool tb8, .string tn8, .string td8, .int .i64 te8] 41))).drew.heap[w.heap.size]? = some (.cells #[.bool b, .string s, .string t, .int .i64 e] 41) ∧ ((w44.alloc (Obj.cells #[.bool tb8, .string tn8, .string td8, .int .i64 te8] 41))).drew.heap[w8.heap.size]? = some (.cells #[.int .u64 lu, .int .u64 lv] 25) ∧ ((w44.alloc (Obj.cells #[.bool tb8, .string tn8, .string td8, .int .i64 te8] 41))).drew.heap[w8.heap.size + 1]? = some (.cells #[.int .u64 hu, .int .u64 hv] 25) ∧ ((w44.alloc (Obj.cells #[.bool tb8, .string tn8, .string td8, .int .i64 te8] 41))).drew.heap[w15.heap.size]? = some (.cells #[.bool db, .string dn, .string dd, .int .i64 de] 41) ∧ ((w44.alloc (Obj.cells #[.bool tb8, .string tn8, .string td8, .int .i64 te8] 41))).drew.heap[w40.heap.size]? = some (.cells #[.int .u64 hu, .int .u64 hv] 25) ∧ ((w44.alloc (Obj.cells #[.bool tb8, .string tn8, .string td8, .int .i64 te8] 41))).drew.heap[w42.heap.size]? = some (.cells #[.bool b8, .string n8, .string d8, .int .i64 e8] 41) ∧ ((w44.alloc (Obj.cells #[.bool tb8, .string tn8, .string td8, .int .i64 te8] 41))).drew.heap[w44.heap.size]? = some (.cells #[.bool tb8, .string tn8, .string td8, .int .i64 te8] 41) := ⟨B45.drew, AD, AE, AF, AG, AH, AI, AC⟩
     go_wp2_with fail
     go_region_held3 (fun W => Below w.heap.size w W ∧ W.heap[w.heap.size]? = some (.cells #[.bool b, .string s, .string t, .int .i64 e] 41) ∧ W.heap[w8.heap.size]? = some (.cells #[.int .u64 lu, .int .u64 lv] 25) ∧ W.heap[w8.heap.size + 1]? = some (.cells #[.int .u64 hu, .int .u64 hv] 25) ∧ W.heap[w15.heap.size]? = some (.cells #[.bool db, .string dn, .string dd, .int .i64 de] 41) ∧ W.heap[w40.heap.size]? = some (.cells #[.int .u64 hu, .int .u64 hv] 25) ∧ W.heap[w42.heap.size]? = some (.cells #[.bool b8, .string n8, .string d8, .int .i64 e8] 41) ∧ W.heap[w44.heap.size]? = some (.cells #[.bool tb8, .string tn8, .string td8, .int .i64 te8] 41) ∧ W.cell? ⟨w15.heap.size, 0, none⟩ = some (.bool db) ∧ W.cell? ⟨w15.heap.size, 1, none⟩ = some (.string dn) ∧ W.cell? ⟨w15.heap.size, 2, none⟩ = some (.string dd) ∧ W.cell? ⟨w15.heap.size, 3, none⟩ = some (.int .i64 de) ∧ W.cell? ⟨w44.heap.size, 0, none⟩ = some (.bool tb8) ∧ W.cell? ⟨w44.heap.size, 1, none⟩ = some (.string tn8) ∧ W.cell? ⟨w44.heap.size, 2, none⟩ = some (.string td8) ∧ W.cell? ⟨w44.heap.size, 3, none⟩ = some (.int .i64 te8)) (first | exact sC.out _ s1 | exact sC.out _ s0)
      (((first | (go_at_call_of 25 (Value.agg #[.bool db, .string dn, .string dd, .int .i64 de]); (first | refine (KAd.out _ (zV TT.out (And.left s1))).mono ?_ | refine (KAd.out _ (zV TT.out (And.left s0))).mono ?_)) | (go_at_call_of 25 (Value.agg #[.bool tb8, .string tn8, .string td8, .int .i64 te8]); (first | refine (KAt.out _ (zV TT.out (And.left s1))).mono ?_ | refine (KAt.out _ (zV TT.out (And.left s0))).mono ?_)) | (go_at_call 24; (first | refine (KCm.out _ (zV TT.out (And.left s1))).mono ?_ | refine (KCm.out _ (zV TT.out (And.left s0))).mono ?_)) | fail); rintro r wq ⟨rfl, bq⟩; (first | have s1 := sS.out _ _ s1 bq | have s1 := sS.out _ _ s0 bq); clear bq))
     have B46 := (And.left s1)
     have AJ := s1.2.1
     have AK := s1.2.2.1
     have AL := s1.2.2.2.1
     have AM := s1.2.2.2.2.1
     have Dh := s1.2.2.2.2.2.1
     have Di := s1.2.2.2.2.2.2.1
     have Dj := s1.2.2.2.2.2.2.2
     clear s0 s1 sS sC B45 AD CV CW CX CY AE CZ C0 AF C1 C2 AG C3 C4 C5 C6 AH C7 C8 AI C9 Da Db Dc AC Dd De Df Dg
     obtain ⟨FX, FY, FZ, F0⟩ := zC AJ
     obtain ⟨F1, F2⟩ := zF AK
     obtain ⟨F3, F4⟩ := zF AL
     obtain ⟨F5, F6, F7, F8⟩ := zC AM
     obtain ⟨F9, Ga⟩ := zF Dh
     obtain ⟨Gb, Gc, Gd, Ge⟩ := zC Di
     obtain ⟨Gf, Gg, Gh, Gi⟩ := zC Dj
     rcases hcc with hcc | ⟨hcc, hcd⟩
     ·
      go_wp2
      go_roundw
      case rel => exact ⟨2, by omega, rfl, B46, AJ, AK, AL, AM⟩
      case measure => simp [intOf]
     ·
      go_wp2
      go_roundw
      case rel => exact ⟨2, by omega, rfl, B46, AJ, AK, AL, AM⟩
      case measure => simp [intOf]
   ·
    skip
    obtain ⟨AN, AO, AP, AQ⟩ := zC Ab
    obtain ⟨Ax, Ay⟩ := zF Ac
    obtain ⟨AR, AS⟩ := zF Aa
    obtain ⟨AT, AU, AV, AW⟩ := zC Ad
    go_wp2_with fail
    refine (KA.out _ (zW FF.out B40) (zV TT.out B40)).mono ?_
    rintro r w41 ⟨rfl, b41⟩
    have B41 := zO B40 b41
    obtain ⟨Ae, Af, Ag, Ah⟩ := qT b41 Ab Ac Aa Ad
    clear b41 B40 Ab AN AO AP AQ Ac Ax Ay Aa AR AS Ad AT AU AV AW
    obtain ⟨Bi, Bj, Bk, Bl⟩ := zC Ae
    obtain ⟨Bm, Bn⟩ := zF Af
    obtain ⟨Bo, Bp⟩ := zF Ag
    obtain ⟨Bq, Br, Bs, Bt⟩ := zC Ah
    go_wp2
    go_ret
    exact ⟨rfl, B41⟩
theorem ieq9 {c : Nat} {k : Int} (h : (c : Int) = k) : ((c : Int) == k) = true := by rw [h]; exact beq_self_eq_true k
theorem ine9 {c : Nat} {k : Int} (h : (c : Int) ≠ k) : ((c : Int) == k) = false := beq_eq_false_iff_ne.2 h
theorem kNear_is (f : Int) (hf : xH f) (b : Bool) (n d : Nat) (s t : ByteArray) (e : Int) (hs : yG n = s) (ht : yG d = t) (hc : (XN.mk b n d e).can) (n0 : n ≠ 0) (ln : nl n ≤ 8192) (ld : nl d ≤ 8192) (L H : Nat) (l2 h2 : Int) (hL : rnd f 2 ⟨b, n, d, e⟩ = (L, l2)) (hH : rnd f 3 ⟨b, n, d, e⟩ = (H, h2)) (u1 v1 i2 j2 : Nat) (hu1 : bv7 L = (u1, v1)) (hi2 : bv7 (qJ f H) = (i2, j2)) (w : World) (hT : yF w) (hT2 : zN w) :
  Calls Tryz.prog 19 #[.int .u8 f, .agg #[.bool b, .string s, .string t, .int .i64 e]] w fun r w' => r = .returned (.tuple #[.agg #[.int .u64 u1, .int .u64 v1], .agg #[.int .u64 i2, .int .u64 j2], .int .i64 0]) ∧ Below w.heap.size w w' := by
 have h0 := (yY hf).1
 have h1 := (yY hf).2.1
 have KC := zH (fun w hT => kcheck f 2 h0 h1 b s t e true (qQ hs ht hc) 0 (flt_ok hf (by decide) hs ht ln ld) w hT)
 obtain ⟨z0, z1⟩ := zero_bits hf
 obtain ⟨zu, zv, hz⟩ : ∃ zu zv, bv7 (jA f true) = (zu, zv) := ⟨_, _, rfl⟩
 have KZ := zH (fun w hT => sk_zero f true hf zu zv hz w hT)
 obtain ⟨y1, y2, y3⟩ := bv_lt z1 hz
 obtain ⟨t1, t2⟩ := top_lim hc
 obtain ⟨q1, q2⟩ := fnd_x hf hc n0 ld
 unfold rnd at hL hH
 rw [if_neg n0] at hL hH
 obtain ⟨E2, T2, F2, o1, o2, _, o3, _⟩ := dlv_enc hf q1 3 b (yI ⟨b, n, d, e⟩) (xM f ⟨b, n, d, e⟩)
 have HH := hH
 rw [show (XN.mk b n d e).b = b from rfl, o3] at HH
 injection HH with H1 H2
 obtain ⟨u2, v2, hu2⟩ : ∃ u v, bv7 H = (u, v) := ⟨_, _, rfl⟩
 have fit := (qC hf b o1 o2).1
 have lim : H < 340282366920938463463374607431768211456 := by have := (fm hf).2.2.2.2.2.2; rw [← H1]; unfold Fit at fit; omega
 obtain ⟨x1, x2, x3⟩ := bv_lt lim hu2
 have KX := zH (fun w hT hT2 => kofExact f hf b n d s t e hs ht hc n0 ld _ _ rfl rfl _ _ _ rfl rfl rfl w hT hT2)
 have K1 := zH (fun w hT hT2 => kdelivered f 2 hf (by decide) b _ (show -1300000 ≤ yI ⟨b, n, d, e⟩ by omega) (by omega) _ (xM f ⟨b, n, d, e⟩) q1 _ rfl _ rfl _ l2 hL u1 v1 hu1 w hT hT2)
 have K2 := zH (fun w hT hT2 => kdelivered f 3 hf (by decide) b _ (show -1300000 ≤ yI ⟨b, n, d, e⟩ by omega) (by omega) _ (xM f ⟨b, n, d, e⟩) q1 _ rfl _ rfl _ h2 hH u2 v2 hu2 w hT hT2)
 by_cases q : H = jA f true
 ·
  rw [q, hz] at hu2
  injection hu2 with w1 w2
  have : qJ f H = 0 := by unfold qJ; rw [if_pos q]
  rw [this] at hi2
  injection hi2 with w3 w4
  subst w3 w4
  exact ru_Near_eq f b s t e _ _ _ _ _ u1 v1 u2 v2 zu zv l2 h2 w KC KX K1 K2 KZ (zH (fun w hT => k_zero0 f hf w hT)) w1.symm w2.symm hT hT2
 ·
  have : qJ f H = H := by unfold qJ; rw [if_neg q]
  rw [this, hu2] at hi2
  injection hi2 with w3 w4
  subst w3 w4
  exact ru_Near_ne f b s t e _ _ _ _ _ u1 v1 u2 v2 zu zv l2 h2 w KC KX K1 K2 KZ (near_ne (by omega)) hT hT2
end Go.Proofs.YtkblmpmkchkpjaaGreatDoor
