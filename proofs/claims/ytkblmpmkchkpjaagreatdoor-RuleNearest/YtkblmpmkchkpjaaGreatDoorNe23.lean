/-
  What the functions that the statement reaches return: part 23 (U6).
-/
import Derived.Test.YtkblmpmkchkpjaaGreatDoorNe22
namespace Go.Proofs.YtkblmpmkchkpjaaGreatDoor
set_option maxRecDepth 100000
set_option maxHeartbeats 40000000
open Go.RowKit WMath XMath
set_option linter.unusedSimpArgs false
set_option linter.unusedVariables false
theorem nst_loopz (f m : Int) (b : Bool) (s t : ByteArray) (e : Int) (o3 o4 : Bool) (g : Int) (bu bv lu lv hu hv : Nat) (fl : Int) (c : Nat) (e0 : Bool) (vb : Bool) (vn vd : ByteArray) (ve : Int) (db : Bool) (dn dd : ByteArray) (de dg : Int) (b7 : Bool) (n7 d7 : ByteArray) (e7 : Int) (o7 : Bool) (tb7 : Bool) (tn7 td7 : ByteArray) (te7 tg7 cc7 ch7 : Int) (b8 : Bool) (n8 d8 : ByteArray) (e8 : Int) (o8 : Bool) (tb8 : Bool) (tn8 td8 : ByteArray) (te8 tg8 cc8 ch8 : Int) (w : World)
  (KS : zS (∀ w, Calls Tryz.prog 13 #[.agg #[.bool b, .string s, .string t, .int .i64 e]] w fun r w' => r = .returned (.bool true) ∧ Below w.heap.size w w'))
  (KM : zS (∀ w, Calls Tryz.prog 14 #[.agg #[.bool b, .string s, .string t, .int .i64 e]] w fun r w' => r = .returned (.bool true) ∧ Below w.heap.size w w'))
  (KF : zS (∀ w, Calls Tryz.prog 10 #[.int .u8 f] w fun r w' => r = .returned (.bool o3) ∧ Below w.heap.size w w'))
  (KO : zS (∀ w, Calls Tryz.prog 15 #[.int .u8 m] w fun r w' => r = .returned (.bool o4) ∧ Below w.heap.size w w'))
  (KG : zS (∀ w, zN w → Calls Tryz.prog 16 #[.agg #[.bool b, .string s, .string t, .int .i64 e]] w fun r w' => r = .returned (.int .i64 g) ∧ Below w.heap.size w w'))
  (h3 : o3 = true) (h4 : o4 = true) (hg : (g == 0) = false)
  (K1 : zS (∀ w, yF w → zN w → Calls Tryz.prog 18 #[.int .u8 f, .int .u8 m, .agg #[.bool b, .string s, .string t, .int .i64 e]] w fun r w' => r = .returned (.tuple #[.agg #[.int .u64 bu, .int .u64 bv], .int .u8 fl, .int .i64 0]) ∧ Below w.heap.size w w'))
  (K2 : zS (∀ w, yF w → zN w → Calls Tryz.prog 19 #[.int .u8 f, .agg #[.bool b, .string s, .string t, .int .i64 e]] w fun r w' => r = .returned (.tuple #[.agg #[.int .u64 lu, .int .u64 lv], .agg #[.int .u64 hu, .int .u64 hv], .int .i64 0]) ∧ Below w.heap.size w w'))
  (KC : zS (∀ w, yF w → Calls Tryz.prog 20 #[.int .u8 f, .agg #[.int .u64 bu, .int .u64 bv]] w fun r w' => r = .returned (.tuple #[.int .u8 c, .int .i64 0]) ∧ Below w.heap.size w w'))
  (KN : zS (∀ w, yF w → Calls Tryz.prog 21 #[.int .u8 f, .agg #[.int .u64 bu, .int .u64 bv]] w fun r w' => r = .returned (.bool (decide (g < 0))) ∧ Below w.heap.size w w'))
  (KA : zS (∀ w, yF w → zN w → Calls Tryz.prog 17 #[] w fun r w' => r = .returned (.bool true) ∧ Below w.heap.size w w'))
  (KV : zS (∀ w, yF w → zN w → Calls Tryz.prog 22 #[.int .u8 f, .agg #[.int .u64 bu, .int .u64 bv]] w fun r w' => r = .returned (.tuple #[.agg #[.bool vb, .string vn, .string vd, .int .i64 ve], .bool true]) ∧ Below w.heap.size w w'))
  (hl : decide (17000 < e) = false) (hl2 : decide (e < -17000) = false)
  (KD : zS (∀ w, zN w → Calls Tryz.prog 23 #[.agg #[.bool b, .string s, .string t, .int .i64 e], .agg #[.bool vb, .string vn, .string vd, .int .i64 ve]] w fun r w' => r = .returned (.tuple #[.agg #[.bool db, .string dn, .string dd, .int .i64 de], .int .i64 dg]) ∧ Below w.heap.size w w'))
  (KAd : zS (∀ w, zN w → Calls Tryz.prog 25 #[.agg #[.bool db, .string dn, .string dd, .int .i64 de]] w fun r w' => r = .returned (.agg #[.bool false, .string dn, .string dd, .int .i64 de]) ∧ Below w.heap.size w w'))
  (KL7 : zS (∀ w, yF w → zN w → Calls Tryz.prog 22 #[.int .u8 f, .agg #[.int .u64 lu, .int .u64 lv]] w fun r w' => r = .returned (.tuple #[.agg #[.bool b7, .string n7, .string d7, .int .i64 e7], .bool o7]) ∧ Below w.heap.size w w'))
  (HL7 : zS (o7 = false ∨ (o7 = true ∧ zS (∀ w, zN w → Calls Tryz.prog 23 #[.agg #[.bool b, .string s, .string t, .int .i64 e], .agg #[.bool b7, .string n7, .string d7, .int .i64 e7]] w fun r w' => r = .returned (.tuple #[.agg #[.bool tb7, .string tn7, .string td7, .int .i64 te7], .int .i64 tg7]) ∧ Below w.heap.size w w') ∧ zS (∀ w, zN w → Calls Tryz.prog 25 #[.agg #[.bool tb7, .string tn7, .string td7, .int .i64 te7]] w fun r w' => r = .returned (.agg #[.bool false, .string tn7, .string td7, .int .i64 te7]) ∧ Below w.heap.size w w') ∧ zS (∀ w, zN w → Calls Tryz.prog 24 #[.agg #[.bool false, .string dn, .string dd, .int .i64 de], .agg #[.bool false, .string tn7, .string td7, .int .i64 te7]] w fun r w' => r = .returned (.tuple #[.int .i64 cc7, .int .i64 ch7]) ∧ Below w.heap.size w w') ∧ ((ch7 == 0) = false ∨ ((ch7 == 0) = true ∧ decide (0 < cc7) = false)))))
  (KL8 : zS (∀ w, yF w → zN w → Calls Tryz.prog 22 #[.int .u8 f, .agg #[.int .u64 hu, .int .u64 hv]] w fun r w' => r = .returned (.tuple #[.agg #[.bool b8, .string n8, .string d8, .int .i64 e8], .bool o8]) ∧ Below w.heap.size w w'))
  (HL8 : zS (o8 = false ∨ (o8 = true ∧ zS (∀ w, zN w → Calls Tryz.prog 23 #[.agg #[.bool b, .string s, .string t, .int .i64 e], .agg #[.bool b8, .string n8, .string d8, .int .i64 e8]] w fun r w' => r = .returned (.tuple #[.agg #[.bool tb8, .string tn8, .string td8, .int .i64 te8], .int .i64 tg8]) ∧ Below w.heap.size w w') ∧ zS (∀ w, zN w → Calls Tryz.prog 25 #[.agg #[.bool tb8, .string tn8, .string td8, .int .i64 te8]] w fun r w' => r = .returned (.agg #[.bool false, .string tn8, .string td8, .int .i64 te8]) ∧ Below w.heap.size w w') ∧ zS (∀ w, zN w → Calls Tryz.prog 24 #[.agg #[.bool false, .string dn, .string dd, .int .i64 de], .agg #[.bool false, .string tn8, .string td8, .int .i64 te8]] w fun r w' => r = .returned (.tuple #[.int .i64 cc8, .int .i64 ch8]) ∧ Below w.heap.size w w') ∧ ((ch8 == 0) = false ∨ ((ch8 == 0) = true ∧ decide (0 < cc8) = false)))))
  (hm : ((m == 2) = false ∧ (m == 3) = false ∧ (m == 1) = false)) (he0 : (fl == 0) = e0) (hlh : yX (lu : Nat) (lv : Nat) (hu : Nat) (hv : Nat) = e0)
  (H : zS (((((c : Int) == 3) = true ∧ bits .and .u8 fl 6 = 2 ∧ bits .and .u8 fl 1 = 1 ∧ yX 0 0 (lu : Nat) (lv : Nat) = true) ∨ (((c : Int) == 3) = true ∧ bits .and .u8 fl 6 = 2 ∧ bits .and .u8 fl 1 = 1 ∧ yX 0 0 (lu : Nat) (lv : Nat) = false ∧ yX 0 0 (hu : Nat) (hv : Nat) = true) ∨ (((c : Int) == 3) = false ∧ ((c : Int) == 4) = true ∧ bits .and .u8 fl 6 = 2 ∧ bits .and .u8 fl 1 = 1 ∧ yX 0 0 (lu : Nat) (lv : Nat) = true) ∨ (((c : Int) == 3) = false ∧ ((c : Int) == 4) = true ∧ bits .and .u8 fl 6 = 2 ∧ bits .and .u8 fl 1 = 1 ∧ yX 0 0 (lu : Nat) (lv : Nat) = false ∧ yX 0 0 (hu : Nat) (hv : Nat) = true))))
  (hT : yF w) (hT2 : zN w) : Calls Tryz.prog 4 #[.int .u8 f, .int .u8 m, .agg #[.bool b, .string s, .string t, .int .i64 e]] w fun r w' => r = .returned (.bool true) ∧ Below w.heap.size w w' := by
 have FF := zH hT
 have TT := zH hT2
 clear hT hT2
 subst h3 h4
 have heb := eqb
 have hb1 : ∀ x : Bool, (x == x) = true := fun x => by cases x <;> rfl
 have hb2 : ∀ x : Bool, (x != x) = false := fun x => by cases x <;> rfl
 obtain ⟨m2, m3, m1⟩ := hm
 obtain ⟨DA, B0⟩ := yO w (Obj.cells #[.bool b, .string s, .string t, .int .i64 e] 41)
 go_enter Tryz.func4, Tryz.ntmps4
 go_wp2_with fail
 refine (KS.out _).mono ?_
 rintro r w1 ⟨rfl, b1⟩
 have B1 := zO B0 b1
 have BF := zA b1 _ _ _ DA
 clear b1 B0 DA
 obtain ⟨DK, DL, DM, DN⟩ := zC BF
 go_wp2_with fail
 refine (KM.out _).mono ?_
 rintro r w2 ⟨rfl, b2⟩
 have B2 := zO B1 b2
 have BG := zA b2 _ _ _ BF
 clear b2 B1 BF DK DL DM DN
 obtain ⟨DO, DP, DQ, DR⟩ := zC BG
 go_wp2_with fail
 refine (KF.out _).mono ?_
 rintro r w3 ⟨rfl, b3⟩
 have B3 := zO B2 b3
 have BH := zA b3 _ _ _ BG
 clear b3 B2 BG DO DP DQ DR
 obtain ⟨DS, DT, DU, DV⟩ := zC BH
 go_wp2_with fail
 refine (KO.out _).mono ?_
 rintro r w4 ⟨rfl, b4⟩
 have B4 := zO B3 b4
 have BI := zA b4 _ _ _ BH
 clear b4 B3 BH DS DT DU DV
 obtain ⟨DW, DX, DY, DZ⟩ := zC BI
 go_wp2_with fail
 refine (KG.out _ (zV TT.out B4)).mono ?_
 rintro r w5 ⟨rfl, b5⟩
 have B5 := zO B4 b5
 have BJ := zA b5 _ _ _ BI
 clear b5 B4 BI DW DX DY DZ
 obtain ⟨D0, D1, D2, D3⟩ := zC BJ
 go_wp2_with fail
 refine (K1.out _ (zW FF.out B5) (zV TT.out B5)).mono ?_
 rintro r w6 ⟨rfl, b6⟩
 have B6 := zO B5 b6
 have A7 := zA b6 _ _ _ BJ
 clear b6 B5 BJ D0 D1 D2 D3
 obtain ⟨D4, D5, D6, D7⟩ := zC A7
 have S7 := zH B6.size
 have AN := z8 A7
 have BK := heap_alloc_last w6 (Obj.cells #[.int .u64 bu, .int .u64 bv] 25)
 have B7 := zO B6 (yK w6 (Obj.cells #[.int .u64 bu, .int .u64 bv] 25))
 have BL := zA (yK w6 (Obj.cells #[.int .u64 bu, .int .u64 bv] 25)) _ _ _ A7
 clear B6 A7 D4 D5 D6 D7
 obtain ⟨D8, D9, Ea, Eb⟩ := zC BL
 obtain ⟨Ec, Ed⟩ := zF BK
 go_wp2_with fail
 refine (K2.out _ (zW FF.out B7) (zV TT.out B7)).mono ?_
 rintro r w8 ⟨rfl, b8⟩
 have B8 := zO B7 b8
 obtain ⟨A8, A9⟩ := yB b8 BL BK
 clear b8 B7 BL D8 D9 Ea Eb BK Ec Ed
 obtain ⟨Ee, Ef, Eg, Eh⟩ := zC A8
 obtain ⟨Ei, Ej⟩ := zF A9
 have S9 := zH B8.size
 have AO := z8 A8
 have AP := z8 A9
 have Ba := heap_alloc_last w8 (Obj.cells #[.int .u64 lu, .int .u64 lv] 25)
 have B9 := zO B8 (yK w8 (Obj.cells #[.int .u64 lu, .int .u64 lv] 25))
 obtain ⟨Bb, Bc⟩ := yB (yK w8 (Obj.cells #[.int .u64 lu, .int .u64 lv] 25)) A8 A9
 clear B8 A8 Ee Ef Eg Eh A9 Ei Ej
 obtain ⟨Ek, El, Em, En⟩ := zC Bb
 obtain ⟨Eo, Ep⟩ := zF Bc
 obtain ⟨Eq, Er⟩ := zF Ba
 have S10 := zH B9.size
 have AQ := z8 Bb
 have AR := z8 Bc
 have AS := z8 Ba
 have Z10 := zH (zX w8 (Obj.cells #[.int .u64 lu, .int .u64 lv] 25))
 have Bd : ((w8.alloc (Obj.cells #[.int .u64 lu, .int .u64 lv] 25)).alloc (Obj.cells #[.int .u64 hu, .int .u64 hv] 25)).heap[w8.heap.size + 1]? = some (.cells #[.int .u64 hu, .int .u64 hv] 25) := by have := heap_alloc_last (w8.alloc (Obj.cells #[.int .u64 lu, .int .u64 lv] 25)) (Obj.cells #[.int .u64 hu, .int .u64 hv] 25); simpa only [zX] using this
 have B10 := zO B9 (yK (w8.alloc (Obj.cells #[.int .u64 lu, .int .u64 lv] 25)) (Obj.cells #[.int .u64 hu, .int .u64 hv] 25))
 obtain ⟨Be, Bf, Bg⟩ := yA (yK (w8.alloc (Obj.cells #[.int .u64 lu, .int .u64 lv] 25)) (Obj.cells #[.int .u64 hu, .int .u64 hv] 25)) Bb Bc Ba
 clear B9 Bb Ek El Em En Bc Eo Ep Ba Eq Er
 obtain ⟨Es, Et, Eu, Ev⟩ := zC Be
 obtain ⟨DB, DC⟩ := zF Bf
 obtain ⟨Ew, Ex⟩ := zF Bg
 obtain ⟨Ey, Ez⟩ := zF Bd
 have kb0 := DB
 have kb1 := DC
 have S11 := zH B10.size
 have AT := z8 Be
 have AU := z8 Bf
 have AV := z8 Bg
 have AW := z8 Bd
 have Z11 := zH (zX (w8.alloc (Obj.cells #[.int .u64 lu, .int .u64 lv] 25)) (Obj.cells #[.int .u64 hu, .int .u64 hv] 25))
 have BM : (((w8.alloc (Obj.cells #[.int .u64 lu, .int .u64 lv] 25)).alloc (Obj.cells #[.int .u64 hu, .int .u64 hv] 25)).alloc (Obj.cells #[.int .u64 bu, .int .u64 bv] 25)).heap[w8.heap.size + 1 + 1]? = some (.cells #[.int .u64 bu, .int .u64 bv] 25) := by have := heap_alloc_last ((w8.alloc (Obj.cells #[.int .u64 lu, .int .u64 lv] 25)).alloc (Obj.cells #[.int .u64 hu, .int .u64 hv] 25)) (Obj.cells #[.int .u64 bu, .int .u64 bv] 25); simpa only [zX] using this
 have B11 := zO B10 (yK ((w8.alloc (Obj.cells #[.int .u64 lu, .int .u64 lv] 25)).alloc (Obj.cells #[.int .u64 hu, .int .u64 hv] 25)) (Obj.cells #[.int .u64 bu, .int .u64 bv] 25))
 obtain ⟨BN, BO, BP, BQ⟩ := qT (yK ((w8.alloc (Obj.cells #[.int .u64 lu, .int .u64 lv] 25)).alloc (Obj.cells #[.int .u64 hu, .int .u64 hv] 25)) (Obj.cells #[.int .u64 bu, .int .u64 bv] 25)) Be Bf Bg Bd
 clear B10 Be Es Et Eu Ev Bf DB DC Bg Ew Ex Bd Ey Ez
 obtain ⟨EA, EB, EC, ED⟩ := zC BN
 obtain ⟨EE, EF⟩ := zF BO
 obtain ⟨EG, EH⟩ := zF BP
 obtain ⟨EI, EJ⟩ := zF BQ
 obtain ⟨EK, EL⟩ := zF BM
 go_wp2_with fail
 refine (KC.out _ (zW FF.out B11)).mono ?_
 rintro r w12 ⟨rfl, b12⟩
 have B12 := zO B11 b12
 obtain ⟨BR, BS, BT, BU, BV⟩ := xP b12 BN BO BP BQ BM
 clear b12 B11 BN EA EB EC ED BO EE EF BP EG EH BQ EI EJ BM EK EL
 obtain ⟨EM, EN, EO, EP⟩ := zC BR
 obtain ⟨EQ, ER⟩ := zF BS
 obtain ⟨ES, ET⟩ := zF BT
 obtain ⟨EU, EV⟩ := zF BU
 obtain ⟨EW, EX⟩ := zF BV
 clear kb0 kb1
 have HZ := H.out
 clear H
 rcases HZ with ⟨c3, n6e, n1e, ql⟩ | ⟨c3, n6e, n1e, ql, qh⟩ | ⟨c3, c4, n6e, n1e, ql⟩ | ⟨c3, c4, n6e, n1e, ql, qh⟩
 all_goals
  have sS : zS (∀ W W1 : World, (Below w.heap.size w W ∧ W.heap[w.heap.size]? = some (.cells #[.bool b, .string s, .string t, .int .i64 e] 41) ∧ W.heap[w6.heap.size]? = some (.cells #[.int .u64 bu, .int .u64 bv] 25) ∧ W.heap[w8.heap.size]? = some (.cells #[.int .u64 lu, .int .u64 lv] 25) ∧ W.heap[w8.heap.size + 1]? = some (.cells #[.int .u64 hu, .int .u64 hv] 25) ∧ W.heap[w8.heap.size + 1 + 1]? = some (.cells #[.int .u64 bu, .int .u64 bv] 25)) → Below W.heap.size W W1 → (Below w.heap.size w W1 ∧ W1.heap[w.heap.size]? = some (.cells #[.bool b, .string s, .string t, .int .i64 e] 41) ∧ W1.heap[w6.heap.size]? = some (.cells #[.int .u64 bu, .int .u64 bv] 25) ∧ W1.heap[w8.heap.size]? = some (.cells #[.int .u64 lu, .int .u64 lv] 25) ∧ W1.heap[w8.heap.size + 1]? = some (.cells #[.int .u64 hu, .int .u64 hv] 25) ∧ W1.heap[w8.heap.size + 1 + 1]? = some (.cells #[.int .u64 bu, .int .u64 bv] 25))) := zH (fun W W1 h b => ⟨zO h.1 b, zA b _ _ _ h.2.1, zA b _ _ _ h.2.2.1, zA b _ _ _ h.2.2.2.1, zA b _ _ _ h.2.2.2.2.1, zA b _ _ _ h.2.2.2.2.2⟩)
  have sC : zS (∀ W : World, (Below w.heap.size w W ∧ W.heap[w.heap.size]? = some (.cells #[.bool b, .string s, .string t, .int .i64 e] 41) ∧ W.heap[w6.heap.size]? = some (.cells #[.int .u64 bu, .int .u64 bv] 25) ∧ W.heap[w8.heap.size]? = some (.cells #[.int .u64 lu, .int .u64 lv] 25) ∧ W.heap[w8.heap.size + 1]? = some (.cells #[.int .u64 hu, .int .u64 hv] 25) ∧ W.heap[w8.heap.size + 1 + 1]? = some (.cells #[.int .u64 bu, .int .u64 bv] 25)) → (Below w.heap.size w W ∧ W.heap[w.heap.size]? = some (.cells #[.bool b, .string s, .string t, .int .i64 e] 41) ∧ W.heap[w6.heap.size]? = some (.cells #[.int .u64 bu, .int .u64 bv] 25) ∧ W.heap[w8.heap.size]? = some (.cells #[.int .u64 lu, .int .u64 lv] 25) ∧ W.heap[w8.heap.size + 1]? = some (.cells #[.int .u64 hu, .int .u64 hv] 25) ∧ W.heap[w8.heap.size + 1 + 1]? = some (.cells #[.int .u64 bu, .int .u64 bv] 25) ∧ W.cell? ⟨w.heap.size, 0, none⟩ = some (.bool b) ∧ W.cell? ⟨w.heap.size, 1, none⟩ = some (.string s) ∧ W.cell? ⟨w.heap.size, 2, none⟩ = some (.string t) ∧ W.cell? ⟨w.heap.size, 3, none⟩ = some (.int .i64 e) ∧ W.cell? ⟨w6.heap.size, 0, none⟩ = some (.int .u64 bu) ∧ W.cell? ⟨w6.heap.size, 1, none⟩ = some (.int .u64 bv))) := zH (fun W h => ⟨h.1, h.2.1, h.2.2.1, h.2.2.2.1, h.2.2.2.2.1, h.2.2.2.2.2, zL (h.2.1) 0 _ rfl, zL (h.2.1) 1 _ rfl, zL (h.2.1) 2 _ rfl, zL (h.2.1) 3 _ rfl, zL (h.2.2.1) 0 _ rfl, zL (h.2.2.1) 1 _ rfl⟩)
  have s0 : Below w.heap.size w (w12).drew ∧ (w12).drew.heap[w.heap.size]? = some (.cells #[.bool b, .string s, .string t, .int .i64 e] 41) ∧ (w12).drew.heap[w6.heap.size]? = some (.cells #[.int .u64 bu, .int .u64 bv] 25) ∧ (w12).drew.heap[w8.heap.size]? = some (.cells #[.int .u64 lu, .int .u64 lv] 25) ∧ (w12).drew.heap[w8.heap.size + 1]? = some (.cells #[.int .u64 hu, .int .u64 hv] 25) ∧ (w12).drew.heap[w8.heap.size + 1 + 1]? = some (.cells #[.int .u64 bu, .int .u64 bv] 25) := ⟨B12.drew, BR, BS, BT, BU, BV⟩
  go_wp2_with fail
  go_region_held3 (fun W => Below w.heap.size w W ∧ W.heap[w.heap.size]? = some (.cells #[.bool b, .string s, .string t, .int .i64 e] 41) ∧ W.heap[w6.heap.size]? = some (.cells #[.int .u64 bu, .int .u64 bv] 25) ∧ W.heap[w8.heap.size]? = some (.cells #[.int .u64 lu, .int .u64 lv] 25) ∧ W.heap[w8.heap.size + 1]? = some (.cells #[.int .u64 hu, .int .u64 hv] 25) ∧ W.heap[w8.heap.size + 1 + 1]? = some (.cells #[.int .u64 bu, .int .u64 bv] 25) ∧ W.cell? ⟨w.heap.size, 0, none⟩ = some (.bool b) ∧ W.cell? ⟨w.heap.size, 1, none⟩ = some (.string s) ∧ W.cell? ⟨w.heap.size, 2, none⟩ = some (.string t) ∧ W.cell? ⟨w.heap.size, 3, none⟩ = some (.int .i64 e) ∧ W.cell? ⟨w6.heap.size, 0, none⟩ = some (.int .u64 bu) ∧ W.cell? ⟨w6.heap.size, 1, none⟩ = some (.int .u64 bv)) (first | exact sC.out _ s1 | exact sC.out _ s0)
   (((first | (go_at_call 21; (first | refine (KN.out _ (zW FF.out (And.left s1))).mono ?_ | refine (KN.out _ (zW FF.out (And.left s0))).mono ?_)) | (go_at_call 16; (first | refine (KG.out _ (zV TT.out (And.left s1))).mono ?_ | refine (KG.out _ (zV TT.out (And.left s0))).mono ?_)) | fail); rintro r wq ⟨rfl, bq⟩; (first | have s1 := sS.out _ _ s1 bq | have s1 := sS.out _ _ s0 bq); clear bq))
  have B13 := (And.left s1)
  have DD := s1.2.1
  have DE := s1.2.2.1
  have DF := s1.2.2.2.1
  have DG := s1.2.2.2.2.1
  have Bh := s1.2.2.2.2.2
  clear s0 s1 sS sC B12 BR EM EN EO EP BS EQ ER BT ES ET BU EU EV BV EW EX
  obtain ⟨GQ, GR, GS, GT⟩ := zC DD
  obtain ⟨GU, GV⟩ := zF DE
  obtain ⟨GW, GX⟩ := zF DF
  obtain ⟨GY, GZ⟩ := zF DG
  obtain ⟨G0, G1⟩ := zF Bh
  have q0_14 := fz (k := 0) Bh
  have q1_14 := fz (k := 1) Bh
  have B14 := zY B13 (show w.heap.size ≤ w8.heap.size + 1 + 1 by first | exact Nat.le_refl _ | omega | (have := S7.out; have := AN.out; have := S9.out; have := AO.out; have := AP.out; have := Z10.out; have := S10.out; have := AQ.out; have := AR.out; have := AS.out; have := Z11.out; have := S11.out; have := AT.out; have := AU.out; have := AV.out; have := AW.out; omega)) (.int .u64 0) (.int .u64 0)
  have BW : ((wq.setCell ⟨w8.heap.size + 1 + 1, 0, none⟩ (.int .u64 0)).setCell ⟨w8.heap.size + 1 + 1, 1, none⟩ (.int .u64 0)).heap[w8.heap.size + 1 + 1]? = some (.cells #[.int .u64 0, .int .u64 0] 25) := yJ Bh _ _
  have HH := zH (And.intro S7.out (And.intro AN.out (And.intro S9.out (And.intro AO.out (And.intro AP.out (And.intro Z10.out (And.intro S10.out (And.intro AQ.out (And.intro AR.out (And.intro AS.out (And.intro Z11.out (And.intro S11.out (And.intro AT.out (And.intro AU.out (And.intro AV.out AW.out)))))))))))))))
  have BX : ((wq.setCell ⟨w8.heap.size + 1 + 1, 0, none⟩ (.int .u64 0)).setCell ⟨w8.heap.size + 1 + 1, 1, none⟩ (.int .u64 0)).heap[w.heap.size]? = some (.cells #[.bool b, .string s, .string t, .int .i64 e] 41) := (zG (by first | omega | (have := HH.out; omega))).trans ((zG (by first | omega | (have := HH.out; omega))).trans DD)
  have HH := zH (And.intro S7.out (And.intro AN.out (And.intro S9.out (And.intro AO.out (And.intro AP.out (And.intro Z10.out (And.intro S10.out (And.intro AQ.out (And.intro AR.out (And.intro AS.out (And.intro Z11.out (And.intro S11.out (And.intro AT.out (And.intro AU.out (And.intro AV.out AW.out)))))))))))))))
  have BY : ((wq.setCell ⟨w8.heap.size + 1 + 1, 0, none⟩ (.int .u64 0)).setCell ⟨w8.heap.size + 1 + 1, 1, none⟩ (.int .u64 0)).heap[w6.heap.size]? = some (.cells #[.int .u64 bu, .int .u64 bv] 25) := (zG (by first | omega | (have := HH.out; omega))).trans ((zG (by first | omega | (have := HH.out; omega))).trans DE)
  have HH := zH (And.intro S7.out (And.intro AN.out (And.intro S9.out (And.intro AO.out (And.intro AP.out (And.intro Z10.out (And.intro S10.out (And.intro AQ.out (And.intro AR.out (And.intro AS.out (And.intro Z11.out (And.intro S11.out (And.intro AT.out (And.intro AU.out (And.intro AV.out AW.out)))))))))))))))
  have BZ : ((wq.setCell ⟨w8.heap.size + 1 + 1, 0, none⟩ (.int .u64 0)).setCell ⟨w8.heap.size + 1 + 1, 1, none⟩ (.int .u64 0)).heap[w8.heap.size]? = some (.cells #[.int .u64 lu, .int .u64 lv] 25) := (zG (by first | omega | (have := HH.out; omega))).trans ((zG (by first | omega | (have := HH.out; omega))).trans DF)
  have HH := zH (And.intro S7.out (And.intro AN.out (And.intro S9.out (And.intro AO.out (And.intro AP.out (And.intro Z10.out (And.intro S10.out (And.intro AQ.out (And.intro AR.out (And.intro AS.out (And.intro Z11.out (And.intro S11.out (And.intro AT.out (And.intro AU.out (And.intro AV.out AW.out)))))))))))))))
  have Ca : ((wq.setCell ⟨w8.heap.size + 1 + 1, 0, none⟩ (.int .u64 0)).setCell ⟨w8.heap.size + 1 + 1, 1, none⟩ (.int .u64 0)).heap[w8.heap.size + 1]? = some (.cells #[.int .u64 hu, .int .u64 hv] 25) := (zG (by first | omega | (have := HH.out; omega))).trans ((zG (by first | omega | (have := HH.out; omega))).trans DG)
  obtain ⟨EY, EZ, E0, E1⟩ := zC BX
  obtain ⟨E2, E3⟩ := zF BY
  obtain ⟨E4, E5⟩ := zF BZ
  obtain ⟨E6, E7⟩ := zF Ca
  obtain ⟨E8, E9⟩ := zF BW
  go_wp2_with fail
  refine (KV.out _ (zW FF.out B14) (zV TT.out B14)).mono ?_
  rintro r w15 ⟨rfl, b15⟩
  have B15 := zO B14 b15
  obtain ⟨Bi, Bj, Bk, Bl, Bm⟩ := xP b15 BX BY BZ Ca BW
  clear b15 B14 BX EY EZ E0 E1 BY E2 E3 BZ E4 E5 Ca E6 E7 BW E8 E9
  obtain ⟨Fa, Fb, Fc, Fd⟩ := zC Bi
  obtain ⟨Fe, Ff⟩ := zF Bj
  obtain ⟨Fg, Fh⟩ := zF Bk
  obtain ⟨Fi, Fj⟩ := zF Bl
  obtain ⟨Fk, Fl⟩ := zF Bm
  have S16 := zH B15.size
  have G2 := z8 Bi
  have G3 := z8 Bj
  have G4 := z8 Bk
  have G5 := z8 Bl
  have G6 := z8 Bm
  have Cb := heap_alloc_last w15 (Obj.cells #[.bool vb, .string vn, .string vd, .int .i64 ve] 41)
  have B16 := zO B15 (yK w15 (Obj.cells #[.bool vb, .string vn, .string vd, .int .i64 ve] 41))
  obtain ⟨Cc, Cd, Ce, Cf, Cg⟩ := xP (yK w15 (Obj.cells #[.bool vb, .string vn, .string vd, .int .i64 ve] 41)) Bi Bj Bk Bl Bm
  clear B15 Bi Fa Fb Fc Fd Bj Fe Ff Bk Fg Fh Bl Fi Fj Bm Fk Fl
  obtain ⟨Fm, Fn, Fo, Fp⟩ := zC Cc
  obtain ⟨Fq, Fr⟩ := zF Cd
  obtain ⟨Fs, Ft⟩ := zF Ce
  obtain ⟨Fu, Fv⟩ := zF Cf
  obtain ⟨Fw, Fx⟩ := zF Cg
  obtain ⟨Fy, Fz, FA, FB⟩ := zC Cb
  go_wp2_with fail
  refine (KD.out _ (zV TT.out B16)).mono ?_
  rintro r w17 ⟨rfl, b17⟩
  have B17 := zO B16 b17
  obtain ⟨Bn, Bo, Bp, Bq, Br, Bs⟩ := rws6 b17 Cc Cd Ce Cf Cg Cb
  clear b17 B16 Cc Fm Fn Fo Fp Cd Fq Fr Ce Fs Ft Cf Fu Fv Cg Fw Fx Cb Fy Fz FA FB
  obtain ⟨FC, FD, FE, FG⟩ := zC Bn
  obtain ⟨FH, FI⟩ := zF Bo
  obtain ⟨FJ, FK⟩ := zF Bp
  obtain ⟨FL, FM⟩ := zF Bq
  obtain ⟨FN, FO⟩ := zF Br
  obtain ⟨FP, FQ, FR, FS⟩ := zC Bs
  have S18 := zH B17.size
  have G7 := z8 Bn
  have G8 := z8 Bo
  have G9 := z8 Bp
  have Ha := z8 Bq
  have Hb := z8 Br
  have Hc := z8 Bs
  have Ch := heap_alloc_last w17 (Obj.cells #[.bool db, .string dn, .string dd, .int .i64 de] 41)
  have B18 := zO B17 (yK w17 (Obj.cells #[.bool db, .string dn, .string dd, .int .i64 de] 41))
  obtain ⟨Ci, DH, Cj, Ck, DI, DJ⟩ := rws6 (yK w17 (Obj.cells #[.bool db, .string dn, .string dd, .int .i64 de] 41)) Bn Bo Bp Bq Br Bs
  clear B17 Bn FC FD FE FG Bo FH FI Bp FJ FK Bq FL FM Br FN FO Bs FP FQ FR FS
  obtain ⟨FT, FU, FV, FW⟩ := zC Ci
  obtain ⟨FX, FY⟩ := zF DH
  obtain ⟨FZ, F0⟩ := zF Cj
  obtain ⟨F1, F2⟩ := zF Ck
  obtain ⟨F3, F4⟩ := zF DI
  obtain ⟨F5, F6, F7, F8⟩ := zC DJ
  obtain ⟨F9, Ga, Gb, Gc⟩ := zC Ch
  clear DH FX FY
  clear DI F3 F4
  clear DJ F5 F6 F7 F8
  go_wp2_with fail
  go_loopw [20] (fun iv wr => ∃ k : Int, (k = 0 ∨ k = 1 ∨ k = 2) ∧ iv = .int .i64 k ∧ Below w.heap.size w wr ∧ wr.heap[w.heap.size]? = some (.cells #[.bool b, .string s, .string t, .int .i64 e] 41) ∧ wr.heap[w8.heap.size]? = some (.cells #[.int .u64 lu, .int .u64 lv] 25) ∧ wr.heap[w8.heap.size + 1]? = some (.cells #[.int .u64 hu, .int .u64 hv] 25) ∧ wr.heap[w17.heap.size]? = some (.cells #[.bool db, .string dn, .string dd, .int .i64 de] 41)) (fun iv _ => 2 - (intOf iv).toNat)
  case atStart => exact ⟨0, by omega, rfl, B18, Ci, Cj, Ck, Ch⟩
  case round =>
   obtain ⟨k, hk, rfl, B40, Ab, Ac, Aa, Ad⟩ := hrel
   obtain ⟨w40, Gd⟩ : ∃ w40, w40 = wr := ⟨_, rfl⟩
   subst Gd
   clear B18 Ci Cj Ck Ch FT FU FV FW FZ F0 F1 F2 F9 Ga Gb Gc
   rcases hk with rfl | rfl | rfl
   ·
    skip
    obtain ⟨AX, AY, AZ, A0⟩ := zC Ab
    obtain ⟨Ax, Ay⟩ := zF Ac
    obtain ⟨A1, A2⟩ := zF Aa
    obtain ⟨A3, A4, A5, A6⟩ := zC Ad
    have kl0 := Ax
    have kl1 := Ay
    have S41 := zH B40.size
    have Ge := z8 Ab
    have Gf := z8 Ac
    have Gg := z8 Aa
    have Gh := z8 Ad
    have Az := heap_alloc_last w40 (Obj.cells #[.int .u64 lu, .int .u64 lv] 25)
    have B41 := zO B40 (yK w40 (Obj.cells #[.int .u64 lu, .int .u64 lv] 25))
    obtain ⟨Ae, Af, Ag, Ah⟩ := qT (yK w40 (Obj.cells #[.int .u64 lu, .int .u64 lv] 25)) Ab Ac Aa Ad
    clear B40 Ab AX AY AZ A0 Ac Ax Ay Aa A1 A2 Ad A3 A4 A5 A6
    obtain ⟨Bt, Bu, Bv, Bw⟩ := zC Ae
    obtain ⟨Bx, By⟩ := zF Af
    obtain ⟨Bz, BA⟩ := zF Ag
    obtain ⟨BB, BC, BD, BE⟩ := zC Ah
    obtain ⟨Cl, Cm⟩ := zF Az
    go_wp2_with fail
    refine (KL7.out _ (zW FF.out B41) (zV TT.out B41)).mono ?_
    rintro r w42 ⟨rfl, b42⟩
    have B42 := zO B41 b42
    obtain ⟨Ai, Aj, Ak, Al, Am⟩ := xP b42 Ae Af Ag Ah Az
    clear b42 B41 Ae Bt Bu Bv Bw Af Bx By Ag Bz BA Ah BB BC BD BE Az Cl Cm
    obtain ⟨Cn, Co, Cp, Cq⟩ := zC Ai
    obtain ⟨Cr, Cs⟩ := zF Aj
    obtain ⟨Ct, Cu⟩ := zF Ak
    obtain ⟨Cv, Cw, Cx, Cy⟩ := zC Al
    obtain ⟨Cz, CA⟩ := zF Am
    clear kl0 kl1
    have S43 := zH B42.size
    have Gi := z8 Ai
    have Gj := z8 Aj
    have Gk := z8 Ak
    have Gl := z8 Al
    have Gm := z8 Am
    have AA := heap_alloc_last w42 (Obj.cells #[.bool b7, .string n7, .string d7, .int .i64 e7] 41)
    have B43 := zO B42 (yK w42 (Obj.cells #[.bool b7, .string n7, .string d7, .int .i64 e7] 41))
    obtain ⟨An, Ao, Ap, Aq, AB⟩ := xP (yK w42 (Obj.cells #[.bool b7, .string n7, .string d7, .int .i64 e7] 41)) Ai Aj Ak Al Am
    clear B42 Ai Cn Co Cp Cq Aj Cr Cs Ak Ct Cu Al Cv Cw Cx Cy Am Cz CA
    obtain ⟨CB, CC, CD, CE⟩ := zC An
    obtain ⟨CF, CG⟩ := zF Ao
    obtain ⟨CH, CI⟩ := zF Ap
    obtain ⟨CJ, CK, CL, CM⟩ := zC Aq
    obtain ⟨CN, CO⟩ := zF AB
    obtain ⟨CP, CQ, CR, CS⟩ := zC AA
    rcases HL7.out with rfl | ⟨rfl, KT, KAt, KCm, hcc⟩
    ·
     skip
     go_wp2
     go_roundw
     case rel => exact ⟨1, by omega, rfl, B43, An, Ao, Ap, Aq⟩
     case measure => simp [intOf]
    ·
     skip
     go_wp2_with fail
     refine (KT.out _ (zV TT.out B43)).mono ?_
     rintro r w44 ⟨rfl, b44⟩
     have B44 := zO B43 b44
     obtain ⟨Ar, As, At, Au, Av, Aw⟩ := rws6 b44 An Ao Ap Aq AB AA
     clear b44 B43 An CB CC CD CE Ao CF CG Ap CH CI Aq CJ CK CL CM AB CN CO AA CP CQ CR CS
     obtain ⟨CT, CU, CV, CW⟩ := zC Ar
     obtain ⟨CX, CY⟩ := zF As
     obtain ⟨CZ, C0⟩ := zF At
     obtain ⟨C1, C2, C3, C4⟩ := zC Au
     obtain ⟨C5, C6⟩ := zF Av
     obtain ⟨C7, C8, C9, Da⟩ := zC Aw
     have S45 := zH B44.size
     have Gn := z8 Ar
     have Gp := z8 As
     have Gq := z8 At
     have Gr := z8 Au
     have Gs := z8 Av
     have Gt := z8 Aw
     have AC := heap_alloc_last w44 (Obj.cells #[.bool tb7, .string tn7, .string td7, .int .i64 te7] 41)
     have B45 := zO B44 (yK w44 (Obj.cells #[.bool tb7, .string tn7, .string td7, .int .i64 te7] 41))
     obtain ⟨AD, AE, AF, AG, AH, AI⟩ := rws6 (yK w44 (Obj.cells #[.bool tb7, .string tn7, .string td7, .int .i64 te7] 41)) Ar As At Au Av Aw
     clear B44 Ar CT CU CV CW As CX CY At CZ C0 Au C1 C2 C3 C4 Av C5 C6 Aw C7 C8 C9 Da
     obtain ⟨Db, Dc, Dd, De⟩ := zC AD
     obtain ⟨Df, Dg⟩ := zF AE
     obtain ⟨Dh, Di⟩ := zF AF
     obtain ⟨Dj, Dk, Dl, Dm⟩ := zC AG
     obtain ⟨Dn, Do⟩ := zF AH
     obtain ⟨Dp, Dq, Dr, Ds⟩ := zC AI
     obtain ⟨Dt, Du, Dv, Dw⟩ := zC AC
     have sS : zS (∀ W W1 : World, (Below w.heap.size w W ∧ W.heap[w.heap.size]? = some (.cells #[.bool b, .string s, .string t, .int .i64 e] 41) ∧ W.heap[w8.heap.size]? = some (.cells #[.int .u64 lu, .int .u64 lv] 25) ∧ W.heap[w8.heap.size + 1]? = some (.cells #[.int .u64 hu, .int .u64 hv] 25) ∧ W.heap[w17.heap.size]? = some (.cells #[.bool db, .string dn, .string dd, .int .i64 de] 41) ∧ W.heap[w40.heap.size]? = some (.cells #[.int .u64 lu, .int .u64 lv] 25) ∧ W.heap[w42.heap.size]? = some (.cells #[.bool b7, .string n7, .string d7, .int .i64 e7] 41) ∧ W.heap[w44.heap.size]? = some (.cells #[.bool tb7, .string tn7, .string td7, .int .i64 te7] 41)) → Below W.heap.size W W1 → (Below w.heap.size w W1 ∧ W1.heap[w.heap.size]? = some (.cells #[.bool b, .string s, .string t, .int .i64 e] 41) ∧ W1.heap[w8.heap.size]? = some (.cells #[.int .u64 lu, .int .u64 lv] 25) ∧ W1.heap[w8.heap.size + 1]? = some (.cells #[.int .u64 hu, .int .u64 hv] 25) ∧ W1.heap[w17.heap.size]? = some (.cells #[.bool db, .string dn, .string dd, .int .i64 de] 41) ∧ W1.heap[w40.heap.size]? = some (.cells #[.int .u64 lu, .int .u64 lv] 25) ∧ W1.heap[w42.heap.size]? = some (.cells #[.bool b7, .string n7, .string d7, .int .i64 e7] 41) ∧ W1.heap[w44.heap.size]? = some (.cells #[.bool tb7, .string tn7, .string td7, .int .i64 te7] 41))) := zH (fun W W1 h b => ⟨zO h.1 b, zA b _ _ _ h.2.1, zA b _ _ _ h.2.2.1, zA b _ _ _ h.2.2.2.1, zA b _ _ _ h.2.2.2.2.1, zA b _ _ _ h.2.2.2.2.2.1, zA b _ _ _ h.2.2.2.2.2.2.1, zA b _ _ _ h.2.2.2.2.2.2.2⟩)
     have sC : zS (∀ W : World, (Below w.heap.size w W ∧ W.heap[w.heap.size]? = some (.cells #[.bool b, .string s, .string t, .int .i64 e] 41) ∧ W.heap[w8.heap.size]? = some (.cells #[.int .u64 lu, .int .u64 lv] 25) ∧ W.heap[w8.heap.size + 1]? = some (.cells #[.int .u64 hu, .int .u64 hv] 25) ∧ W.heap[w17.heap.size]? = some (.cells #[.bool db, .string dn, .string dd, .int .i64 de] 41) ∧ W.heap[w40.heap.size]? = some (.cells #[.int .u64 lu, .int .u64 lv] 25) ∧ W.heap[w42.heap.size]? = some (.cells #[.bool b7, .string n7, .string d7, .int .i64 e7] 41) ∧ W.heap[w44.heap.size]? = some (.cells #[.bool tb7, .string tn7, .string td7, .int .i64 te7] 41)) → (Below w.heap.size w W ∧ W.heap[w.heap.size]? = some (.cells #[.bool b, .string s, .string t, .int .i64 e] 41) ∧ W.heap[w8.heap.size]? = some (.cells #[.int .u64 lu, .int .u64 lv] 25) ∧ W.heap[w8.heap.size + 1]? = some (.cells #[.int .u64 hu, .int .u64 hv] 25) ∧ W.heap[w17.heap.size]? = some (.cells #[.bool db, .string dn, .string dd, .int .i64 de] 41) ∧ W.heap[w40.heap.size]? = some (.cells #[.int .u64 lu, .int .u64 lv] 25) ∧ W.heap[w42.heap.size]? = some (.cells #[.bool b7, .string n7, .string d7, .int .i64 e7] 41) ∧ W.heap[w44.heap.size]? = some (.cells #[.bool tb7, .string tn7, .string td7, .int .i64 te7] 41) ∧ W.cell? ⟨w17.heap.size, 0, none⟩ = some (.bool db) ∧ W.cell? ⟨w17.heap.size, 1, none⟩ = some (.string dn) ∧ W.cell? ⟨w17.heap.size, 2, none⟩ = some (.string dd) ∧ W.cell? ⟨w17.heap.size, 3, none⟩ = some (.int .i64 de) ∧ W.cell? ⟨w44.heap.size, 0, none⟩ = some (.bool tb7) ∧ W.cell? ⟨w44.heap.size, 1, none⟩ = some (.string tn7) ∧ W.cell? ⟨w44.heap.size, 2, none⟩ = some (.string td7) ∧ W.cell? ⟨w44.heap.size, 3, none⟩ = some (.int .i64 te7))) := zH (fun W h => ⟨h.1, h.2.1, h.2.2.1, h.2.2.2.1, h.2.2.2.2.1, h.2.2.2.2.2.1, h.2.2.2.2.2.2.1, h.2.2.2.2.2.2.2, zL (h.2.2.2.2.1) 0 _ rfl, zL (h.2.2.2.2.1) 1 _ rfl, zL (h.2.2.2.2.1) 2 _ rfl, zL (h.2.2.2.2.1) 3 _ rfl, zL (h.2.2.2.2.2.2.2) 0 _ rfl, zL (h.2.2.2.2.2.2.2) 1 _ rfl, zL (h.2.2.2.2.2.2.2) 2 _ rfl, zL (h.2.2.2.2.2.2.2) 3 _ rfl⟩)
     have s0 : Below w.heap.size w ((w44.alloc (Obj.cells #[.bool tb7, .string tn7, .string td7, .int .i64 te7] 41))).drew ∧ ((w44.alloc (Obj.cells #[.bool tb7, .string tn7, .string td7, .int .i64 te7] 41))).drew.heap[w.heap.size]? = some (.cells #[.bool b, .string s, .string t, .int .i64 e] 41) ∧ ((w44.alloc (Obj.cells #[.bool tb7, .string tn7, .string td7, .int .i64 te7] 41))).drew.heap[w8.heap.size]? = some (.cells #[.int .u64 lu, .int .u64 lv] 25) ∧ ((w44.alloc (Obj.cells #[.bool tb7, .string tn7, .string td7, .int .i64 te7] 41))).drew.heap[w8.heap.size + 1]? = some (.cells #[.int .u64 hu, .int .u64 hv] 25) ∧ ((w44.alloc (Obj.cells #[.bool tb7, .string tn7, .string td7, .int .i64 te7] 41))).drew.heap[w17.heap.size]? = some (.cells #[.bool db, .string dn, .string dd, .int .i64 de] 41) ∧ ((w44.alloc (Obj.cells #[.bool tb7, .string tn7, .string td7, .int .i64 te7] 41))).drew.heap[w40.heap.size]? = some (.cells #[.int .u64 lu, .int .u64 lv] 25) ∧ ((w44.alloc (Obj.cells #[.bool tb7, .string tn7, .string td7, .int .i64 te7] 41))).drew.heap[w42.heap.size]? = some (.cells #[.bool b7, .string n7, .string d7, .int .i64 e7] 41) ∧ ((w44.alloc (Obj.cells #[.bool tb7, .string tn7, .string td7, .int .i64 te7] 41))).drew.heap[w44.heap.size]? = some (.cells #[.bool tb7, .string tn7, .string td7, .int .i64 te7] 41) := ⟨B45.drew, AD, AE, AF, AG, AH, AI, AC⟩
     go_wp2_with fail
     go_region_held3 (fun W => Below w.heap.size w W ∧ W.heap[w.heap.size]? = some (.cells #[.bool b, .string s, .string t, .int .i64 e] 41) ∧ W.heap[w8.heap.size]? = some (.cells #[.int .u64 lu, .int .u64 lv] 25) ∧ W.heap[w8.heap.size + 1]? = some (.cells #[.int .u64 hu, .int .u64 hv] 25) ∧ W.heap[w17.heap.size]? = some (.cells #[.bool db, .string dn, .string dd, .int .i64 de] 41) ∧ W.heap[w40.heap.size]? = some (.cells #[.int .u64 lu, .int .u64 lv] 25) ∧ W.heap[w42.heap.size]? = some (.cells #[.bool b7, .string n7, .string d7, .int .i64 e7] 41) ∧ W.heap[w44.heap.size]? = some (.cells #[.bool tb7, .string tn7, .string td7, .int .i64 te7] 41) ∧ W.cell? ⟨w17.heap.size, 0, none⟩ = some (.bool db) ∧ W.cell? ⟨w17.heap.size, 1, none⟩ = some (.string dn) ∧ W.cell? ⟨w17.heap.size, 2, none⟩ = some (.string dd) ∧ W.cell? ⟨w17.heap.size, 3, none⟩ = some (.int .i64 de) ∧ W.cell? ⟨w44.heap.size, 0, none⟩ = some (.bool tb7) ∧ W.cell? ⟨w44.heap.size, 1, none⟩ = some (.string tn7) ∧ W.cell? ⟨w44.heap.size, 2, none⟩ = some (.string td7) ∧ W.cell? ⟨w44.heap.size, 3, none⟩ = some (.int .i64 te7)) (first | exact sC.out _ s1 | exact sC.out _ s0)
      (((first | (go_at_call_of 25 (Value.agg #[.bool db, .string dn, .string dd, .int .i64 de]); (first | refine (KAd.out _ (zV TT.out (And.left s1))).mono ?_ | refine (KAd.out _ (zV TT.out (And.left s0))).mono ?_)) | (go_at_call_of 25 (Value.agg #[.bool tb7, .string tn7, .string td7, .int .i64 te7]); (first | refine (KAt.out _ (zV TT.out (And.left s1))).mono ?_ | refine (KAt.out _ (zV TT.out (And.left s0))).mono ?_)) | (go_at_call 24; (first | refine (KCm.out _ (zV TT.out (And.left s1))).mono ?_ | refine (KCm.out _ (zV TT.out (And.left s0))).mono ?_)) | fail); rintro r wq ⟨rfl, bq⟩; (first | have s1 := sS.out _ _ s1 bq | have s1 := sS.out _ _ s0 bq); clear bq))
     have B46 := (And.left s1)
     have AJ := s1.2.1
     have AK := s1.2.2.1
     have AL := s1.2.2.2.1
     have AM := s1.2.2.2.2.1
     have Dx := s1.2.2.2.2.2.1
     have Dy := s1.2.2.2.2.2.2.1
     have Dz := s1.2.2.2.2.2.2.2
     clear s0 s1 sS sC B45 AD Db Dc Dd De AE Df Dg AF Dh Di AG Dj Dk Dl Dm AH Dn Do AI Dp Dq Dr Ds AC Dt Du Dv Dw
     obtain ⟨Gu, Gv, Gw, Gx⟩ := zC AJ
     obtain ⟨Gy, Gz⟩ := zF AK
     obtain ⟨GA, GB⟩ := zF AL
     obtain ⟨GC, GD, GE, GF⟩ := zC AM
     obtain ⟨GG, GH⟩ := zF Dx
     obtain ⟨GI, GJ, GK, GL⟩ := zC Dy
     obtain ⟨GM, GN, GO, GP⟩ := zC Dz
     rcases hcc with hcc | ⟨hcc, hcd⟩
     ·
      go_wp2
      go_roundw
      case rel => exact ⟨1, by omega, rfl, B46, AJ, AK, AL, AM⟩
      case measure => simp [intOf]
     ·
      go_wp2
      go_roundw
      case rel => exact ⟨1, by omega, rfl, B46, AJ, AK, AL, AM⟩
      case measure => simp [intOf]
   ·
    skip
    obtain ⟨AX, AY, AZ, A0⟩ := zC Ab
    obtain ⟨Ax, Ay⟩ := zF Ac
    obtain ⟨A1, A2⟩ := zF Aa
    obtain ⟨A3, A4, A5, A6⟩ := zC Ad
    have kl0 := Ax
    have kl1 := Ay
    have kR := zA (yK w40 (Obj.cells #[.int .u64 lu, .int .u64 lv] 25)) _ _ _ Aa
    obtain ⟨kh0, kh1⟩ := zF kR
    have S41 := zH B40.size
    have Ge := z8 Ab
    have Gf := z8 Ac
    have Gg := z8 Aa
    have Gh := z8 Ad
    have Az := heap_alloc_last w40 (Obj.cells #[.int .u64 hu, .int .u64 hv] 25)
    have B41 := zO B40 (yK w40 (Obj.cells #[.int .u64 hu, .int .u64 hv] 25))
    obtain ⟨Ae, Af, Ag, Ah⟩ := qT (yK w40 (Obj.cells #[.int .u64 hu, .int .u64 hv] 25)) Ab Ac Aa Ad
    clear B40 Ab AX AY AZ A0 Ac Ax Ay Aa A1 A2 Ad A3 A4 A5 A6
    obtain ⟨Bt, Bu, Bv, Bw⟩ := zC Ae
    obtain ⟨Bx, By⟩ := zF Af
    obtain ⟨Bz, BA⟩ := zF Ag
    obtain ⟨BB, BC, BD, BE⟩ := zC Ah
    obtain ⟨Cl, Cm⟩ := zF Az
    go_wp2_with fail
    refine (KL8.out _ (zW FF.out B41) (zV TT.out B41)).mono ?_
    rintro r w42 ⟨rfl, b42⟩
    have B42 := zO B41 b42
    obtain ⟨Ai, Aj, Ak, Al, Am⟩ := xP b42 Ae Af Ag Ah Az
    clear b42 B41 Ae Bt Bu Bv Bw Af Bx By Ag Bz BA Ah BB BC BD BE Az Cl Cm
    obtain ⟨Cn, Co, Cp, Cq⟩ := zC Ai
    obtain ⟨Cr, Cs⟩ := zF Aj
    obtain ⟨Ct, Cu⟩ := zF Ak
    obtain ⟨Cv, Cw, Cx, Cy⟩ := zC Al
    obtain ⟨Cz, CA⟩ := zF Am
    clear kl0 kl1 kR kh0 kh1
    have S43 := zH B42.size
    have Gi := z8 Ai
    have Gj := z8 Aj
    have Gk := z8 Ak
    have Gl := z8 Al
    have Gm := z8 Am
    have AA := heap_alloc_last w42 (Obj.cells #[.bool b8, .string n8, .string d8, .int .i64 e8] 41)
    have B43 := zO B42 (yK w42 (Obj.cells #[.bool b8, .string n8, .string d8, .int .i64 e8] 41))
    obtain ⟨An, Ao, Ap, Aq, AB⟩ := xP (yK w42 (Obj.cells #[.bool b8, .string n8, .string d8, .int .i64 e8] 41)) Ai Aj Ak Al Am
    clear B42 Ai Cn Co Cp Cq Aj Cr Cs Ak Ct Cu Al Cv Cw Cx Cy Am Cz CA
    obtain ⟨CB, CC, CD, CE⟩ := zC An
    obtain ⟨CF, CG⟩ := zF Ao
    obtain ⟨CH, CI⟩ := zF Ap
    obtain ⟨CJ, CK, CL, CM⟩ := zC Aq
    obtain ⟨CN, CO⟩ := zF AB
    obtain ⟨CP, CQ, CR, CS⟩ := zC AA
    rcases HL8.out with rfl | ⟨rfl, KT, KAt, KCm, hcc⟩
    ·
     skip
     go_wp2
     go_roundw
     case rel => exact ⟨2, by omega, rfl, B43, An, Ao, Ap, Aq⟩
     case measure => simp [intOf]
    ·
     skip
     go_wp2_with fail
     refine (KT.out _ (zV TT.out B43)).mono ?_
     rintro r w44 ⟨rfl, b44⟩
     have B44 := zO B43 b44
     obtain ⟨Ar, As, At, Au, Av, Aw⟩ := rws6 b44 An Ao Ap Aq AB AA
     clear b44 B43 An CB CC CD CE Ao CF CG Ap CH CI Aq CJ CK CL CM AB CN CO AA CP CQ CR CS
     obtain ⟨CT, CU, CV, CW⟩ := zC Ar
     obtain ⟨CX, CY⟩ := zF As
     obtain ⟨CZ, C0⟩ := zF At
     obtain ⟨C1, C2, C3, C4⟩ := zC Au
     obtain ⟨C5, C6⟩ := zF Av
     obtain ⟨C7, C8, C9, Da⟩ := zC Aw
     have S45 := zH B44.size
     have Gn := z8 Ar
     have Gp := z8 As
     have Gq := z8 At
     have Gr := z8 Au
     have Gs := z8 Av
     have Gt := z8 Aw
     have AC := heap_alloc_last w44 (Obj.cells #[.bool tb8, .string tn8, .string td8, .int .i64 te8] 41)
     have B45 := zO B44 (yK w44 (Obj.cells #[.bool tb8, .string tn8, .string td8, .int .i64 te8] 41))
     obtain ⟨AD, AE, AF, AG, AH, AI⟩ := rws6 (yK w44 (Obj.cells #[.bool tb8, .string tn8, .string td8, .int .i64 te8] 41)) Ar As At Au Av Aw
     clear B44 Ar CT CU CV CW As CX CY At CZ C0 Au C1 C2 C3 C4 Av C5 C6 Aw C7 C8 C9 Da
     obtain ⟨Db, Dc, Dd, De⟩ := zC AD
     obtain ⟨Df, Dg⟩ := zF AE
     obtain ⟨Dh, Di⟩ := zF AF
     obtain ⟨Dj, Dk, Dl, Dm⟩ := zC AG
     obtain ⟨Dn, Do⟩ := zF AH
     obtain ⟨Dp, Dq, Dr, Ds⟩ := zC AI
     obtain ⟨Dt, Du, Dv, Dw⟩ := zC AC
     have sS : zS (∀ W W1 : World, (Below w.heap.size w W ∧ W.heap[w.heap.size]? = some (.cells #[.bool b, .string s, .string t, .int .i64 e] 41) ∧ W.heap[w8.heap.size]? = some (.cells #[.int .u64 lu, .int .u64 lv] 25) ∧ W.heap[w8.heap.size + 1]? = some (.cells #[.int .u64 hu, .int .u64 hv] 25) ∧ W.heap[w17.heap.size]? = some (.cells #[.bool db, .string dn, .string dd, .int .i64 de] 41) ∧ W.heap[w40.heap.size]? = some (.cells #[.int .u64 hu, .int .u64 hv] 25) ∧ W.heap[w42.heap.size]? = some (.cells #[.bool b8, .string n8, .string d8, .int .i64 e8] 41) ∧ W.heap[w44.heap.size]? = some (.cells #[.bool tb8, .string tn8, .string td8, .int .i64 te8] 41)) → Below W.heap.size W W1 → (Below w.heap.size w W1 ∧ W1.heap[w.heap.size]? = some (.cells #[.bool b, .string s, .string t, .int .i64 e] 41) ∧ W1.heap[w8.heap.size]? = some (.cells #[.int .u64 lu, .int .u64 lv] 25) ∧ W1.heap[w8.heap.size + 1]? = some (.cells #[.int .u64 hu, .int .u64 hv] 25) ∧ W1.heap[w17.heap.size]? = some (.cells #[.bool db, .string dn, .string dd, .int .i64 de] 41) ∧ W1.heap[w40.heap.size]? = some (.cells #[.int .u64 hu, .int .u64 hv] 25) ∧ W1.heap[w42.heap.size]? = some (.cells #[.bool b8, .string n8, .string d8, .int .i64 e8] 41) ∧ W1.heap[w44.heap.size]? = some (.cells #[.bool tb8, .string tn8, .string td8, .int .i64 te8] 41))) := zH (fun W W1 h b => ⟨zO h.1 b, zA b _ _ _ h.2.1, zA b _ _ _ h.2.2.1, zA b _ _ _ h.2.2.2.1, zA b _ _ _ h.2.2.2.2.1, zA b _ _ _ h.2.2.2.2.2.1, zA b _ _ _ h.2.2.2.2.2.2.1, zA b _ _ _ h.2.2.2.2.2.2.2⟩)
     have sC : zS (∀ W : World, (Below w.heap.size w W ∧ W.heap[w.heap.size]? = some (.cells #[.bool b, .string s, .string t, .int .i64 e] 41) ∧ W.heap[w8.heap.size]? = some (.cells #[.int .u64 lu, .int .u64 lv] 25) ∧ W.heap[w8.heap.size + 1]? = some (.cells #[.int .u64 hu, .int .u64 hv] 25) ∧ W.heap[w17.heap.size]? = some (.cells #[.bool db, .string dn, .string dd, .int .i64 de] 41) ∧ W.heap[w40.heap.size]? = some (.cells #[.int .u64 hu, .int .u64 hv] 25) ∧ W.heap[w42.heap.size]? = some (.cells #[.bool b8, .string n8, .string d8, .int .i64 e8] 41) ∧ W.heap[w44.heap.size]? = some (.cells #[.bool tb8, .string tn8, .string td8, .int .i64 te8] 41)) → (Below w.heap.size w W ∧ W.heap[w.heap.size]? = some (.cells #[.bool b, .string s, .string t, .int .i64 e] 41) ∧ W.heap[w8.heap.size]? = some (.cells #[.int .u64 lu, .int .u64 lv] 25) ∧ W.heap[w8.heap.size + 1]? = some (.cells #[.int .u64 hu, .int .u64 hv] 25) ∧ W.heap[w17.heap.size]? = some (.cells #[.bool db, .string dn, .string dd, .int .i64 de] 41) ∧ W.heap[w40.heap.size]? = some (.cells #[.int .u64 hu, .int .u64 hv] 25) ∧ W.heap[w42.heap.size]? = some (.cells #[.bool b8, .string n8, .string d8, .int .i64 e8] 41) ∧ W.heap[w44.heap.size]? = some (.cells #[.bool tb8, .string tn8, .string td8, .int .i64 te8] 41) ∧ W.cell? ⟨w17.heap.size, 0, none⟩ = some (.bool db) ∧ W.cell? ⟨w17.heap.size, 1, none⟩ = some (.string dn) ∧ W.cell? ⟨w17.heap.size, 2, none⟩ = some (.string dd) ∧ W.cell? ⟨w17.heap.size, 3, none⟩ = some (.int .i64 de) ∧ W.cell? ⟨w44.heap.size, 0, none⟩ = some (.bool tb8) ∧ W.cell? ⟨w44.heap.size, 1, none⟩ = some (.string tn8) ∧ W.cell? ⟨w44.heap.size, 2, none⟩ = some (.string td8) ∧ W.cell? ⟨w44.heap.size, 3, none⟩ = some (.int .i64 te8))) := zH (fun W h => ⟨h.1, h.2.1, h.2.2.1, h.2.2.2.1, h.2.2.2.2.1, h.2.2.2.2.2.1, h.2.2.2.2.2.2.1, h.2.2.2.2.2.2.2, zL (h.2.2.2.2.1) 0 _ rfl, zL (h.2.2.2.2.1) 1 _ rfl, zL (h.2.2.2.2.1) 2 _ rfl, zL (h.2.2.2.2.1) 3 _ rfl, zL (h.2.2.2.2.2.2.2) 0 _ rfl, zL (h.2.2.2.2.2.2.2) 1 _ rfl, zL (h.2.2.2.2.2.2.2) 2 _ rfl, zL (h.2.2.2.2.2.2.2) 3 _ rfl⟩)
     have s0 : Below w.heap.size w ((w44.alloc (Obj.cells #[.bool tb8, .string tn8, .string td8, .int .i64 te8] 41))).drew ∧ ((w44.alloc (Obj.cells #[.bool tb8, .string tn8, .string td8, .int .i64 te8] 41))).drew.heap[w.heap.size]? = some (.cells #[.bool b, .string s, .string t, .int .i64 e] 41) ∧ ((w44.alloc (Obj.cells #[.bool tb8, .string tn8, .string td8, .int .i64 te8] 41))).drew.heap[w8.heap.size]? = some (.cells #[.int .u64 lu, .int .u64 lv] 25) ∧ ((w44.alloc (Obj.cells #[.bool tb8, .string tn8, .string td8, .int .i64 te8] 41))).drew.heap[w8.heap.size + 1]? = some (.cells #[.int .u64 hu, .int .u64 hv] 25) ∧ ((w44.alloc (Obj.cells #[.bool tb8, .string tn8, .string td8, .int .i64 te8] 41))).drew.heap[w17.heap.size]? = some (.cells #[.bool db, .string dn, .string dd, .int .i64 de] 41) ∧ ((w44.alloc (Obj.cells #[.bool tb8, .string tn8, .string td8, .int .i64 te8] 41))).drew.heap[w40.heap.size]? = some (.cells #[.int .u64 hu, .int .u64 hv] 25) ∧ ((w44.alloc (Obj.cells #[.bool tb8, .string tn8, .string td8, .int .i64 te8] 41))).drew.heap[w42.heap.size]? = some (.cells #[.bool b8, .string n8, .string d8, .int .i64 e8] 41) ∧ ((w44.alloc (Obj.cells #[.bool tb8, .string tn8, .string td8, .int .i64 te8] 41))).drew.heap[w44.heap.size]? = some (.cells #[.bool tb8, .string tn8, .string td8, .int .i64 te8] 41) := ⟨B45.drew, AD, AE, AF, AG, AH, AI, AC⟩
     go_wp2_with fail
     go_region_held3 (fun W => Below w.heap.size w W ∧ W.heap[w.heap.size]? = some (.cells #[.bool b, .string s, .string t, .int .i64 e] 41) ∧ W.heap[w8.heap.size]? = some (.cells #[.int .u64 lu, .int .u64 lv] 25) ∧ W.heap[w8.heap.size + 1]? = some (.cells #[.int .u64 hu, .int .u64 hv] 25) ∧ W.heap[w17.heap.size]? = some (.cells #[.bool db, .string dn, .string dd, .int .i64 de] 41) ∧ W.heap[w40.heap.size]? = some (.cells #[.int .u64 hu, .int .u64 hv] 25) ∧ W.heap[w42.heap.size]? = some (.cells #[.bool b8, .string n8, .string d8, .int .i64 e8] 41) ∧ W.heap[w44.heap.size]? = some (.cells #[.bool tb8, .string tn8, .string td8, .int .i64 te8] 41) ∧ W.cell? ⟨w17.heap.size, 0, none⟩ = some (.bool db) ∧ W.cell? ⟨w17.heap.size, 1, none⟩ = some (.string dn) ∧ W.cell? ⟨w17.heap.size, 2, none⟩ = some (.string dd) ∧ W.cell? ⟨w17.heap.size, 3, none⟩ = some (.int .i64 de) ∧ W.cell? ⟨w44.heap.size, 0, none⟩ = some (.bool tb8) ∧ W.cell? ⟨w44.heap.size, 1, none⟩ = some (.string tn8) ∧ W.cell? ⟨w44.heap.size, 2, none⟩ = some (.string td8) ∧ W.cell? ⟨w44.heap.size, 3, none⟩ = some (.int .i64 te8)) (first | exact sC.out _ s1 | exact sC.out _ s0)
      (((first | (go_at_call_of 25 (Value.agg #[.bool db, .string dn, .string dd, .int .i64 de]); (first | refine (KAd.out _ (zV TT.out (And.left s1))).mono ?_ | refine (KAd.out _ (zV TT.out (And.left s0))).mono ?_)) | (go_at_call_of 25 (Value.agg #[.bool tb8, .string tn8, .string td8, .int .i64 te8]); (first | refine (KAt.out _ (zV TT.out (And.left s1))).mono ?_ | refine (KAt.out _ (zV TT.out (And.left s0))).mono ?_)) | (go_at_call 24; (first | refine (KCm.out _ (zV TT.out (And.left s1))).mono ?_ | refine (KCm.out _ (zV TT.out (And.left s0))).mono ?_)) | fail); rintro r wq ⟨rfl, bq⟩; (first | have s1 := sS.out _ _ s1 bq | have s1 := sS.out _ _ s0 bq); clear bq))
     have B46 := (And.left s1)
     have AJ := s1.2.1
     have AK := s1.2.2.1
     have AL := s1.2.2.2.1
     have AM := s1.2.2.2.2.1
     have Dx := s1.2.2.2.2.2.1
     have Dy := s1.2.2.2.2.2.2.1
     have Dz := s1.2.2.2.2.2.2.2
     clear s0 s1 sS sC B45 AD Db Dc Dd De AE Df Dg AF Dh Di AG Dj Dk Dl Dm AH Dn Do AI Dp Dq Dr Ds AC Dt Du Dv Dw
     obtain ⟨Gu, Gv, Gw, Gx⟩ := zC AJ
     obtain ⟨Gy, Gz⟩ := zF AK
     obtain ⟨GA, GB⟩ := zF AL
     obtain ⟨GC, GD, GE, GF⟩ := zC AM
     obtain ⟨GG, GH⟩ := zF Dx
     obtain ⟨GI, GJ, GK, GL⟩ := zC Dy
     obtain ⟨GM, GN, GO, GP⟩ := zC Dz
     rcases hcc with hcc | ⟨hcc, hcd⟩
     ·
      go_wp2
      go_roundw
      case rel => exact ⟨2, by omega, rfl, B46, AJ, AK, AL, AM⟩
      case measure => simp [intOf]
     ·
      go_wp2
      go_roundw
      case rel => exact ⟨2, by omega, rfl, B46, AJ, AK, AL, AM⟩
      case measure => simp [intOf]
   ·
    skip
    obtain ⟨AX, AY, AZ, A0⟩ := zC Ab
    obtain ⟨Ax, Ay⟩ := zF Ac
    obtain ⟨A1, A2⟩ := zF Aa
    obtain ⟨A3, A4, A5, A6⟩ := zC Ad
    go_wp2_with fail
    refine (KA.out _ (zW FF.out B40) (zV TT.out B40)).mono ?_
    rintro r w41 ⟨rfl, b41⟩
    have B41 := zO B40 b41
    obtain ⟨Ae, Af, Ag, Ah⟩ := qT b41 Ab Ac Aa Ad
    clear b41 B40 Ab AX AY AZ A0 Ac Ax Ay Aa A1 A2 Ad A3 A4 A5 A6
    obtain ⟨Bt, Bu, Bv, Bw⟩ := zC Ae
    obtain ⟨Bx, By⟩ := zF Af
    obtain ⟨Bz, BA⟩ := zF Ag
    obtain ⟨BB, BC, BD, BE⟩ := zC Ah
    go_wp2
    go_ret
    exact ⟨rfl, B41⟩
end Go.Proofs.YtkblmpmkchkpjaaGreatDoor
