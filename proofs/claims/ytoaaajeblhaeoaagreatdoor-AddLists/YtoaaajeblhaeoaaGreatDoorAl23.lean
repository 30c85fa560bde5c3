/-
  What the functions that the statement reaches return: part 23 (D3, M0, M2, A0).
-/
import Derived.Test.YtoaaajeblhaeoaaGreatDoorAl22
namespace Go.Proofs.YtoaaajeblhaeoaaGreatDoor
set_option maxRecDepth 100000
set_option maxHeartbeats 40000000
open Go.RowKit WMath
set_option linter.unusedSimpArgs false
set_option linter.unusedVariables false
theorem r_nought (f m : Int) (dn : Bool) (hdn : (m == 2) = dn) (u v : Nat) (w : World) (KZ : zO (∀ w, Calls Tryz.prog 91 #[.int .u8 f, .bool dn] w fun r w' => r = .returned (.agg #[.int .u64 u, .int .u64 v]) ∧ Below w.heap.size w w')) : Calls Tryz.prog 82 #[.int .u8 f, .int .u8 m] w fun r w' => r = .returned (.agg #[.int .u64 u, .int .u64 v]) ∧ Below w.heap.size w w' := by
 obtain ⟨Ab, B0⟩ := yL w (Obj.cells #[.int .u64 0, .int .u64 0] 25)
 go_enter Tryz.func82, Tryz.ntmps82
 go_wp2_with fail
 refine (KZ.out _).mono ?_
 rintro r w1 ⟨rfl, b1⟩
 have B1 := zU B0 b1
 have Aa := zA b1 _ _ _ Ab
 clear b1 B0 Ab
 obtain ⟨Ac, Ad⟩ := zC Aa
 have q0 := fz (k := 0) Aa
 have q1 := fz (k := 1) Aa
 obtain ⟨E0, E1⟩ := zN Aa (.int .u64 u) (.int .u64 v)
 go_wp2
 exact bodyPost_ret (v := .agg #[.int .u64 u, .int .u64 v]) (by simp [results, Tryz.results82, go_sem, E0, E1]) rfl ⟨rfl, zM B1 (by first | exact Nat.le_refl _ | omega | (skip; omega)) _ _⟩
theorem qO (f m : Int) (x1 y1 x2 y2 u v : Nat) (fl : Int) (b1 : Bool) (n1 d1 : ByteArray) (e1 : Int) (b2 : Bool) (n2 d2 : ByteArray) (e2 : Int) (b3 : Bool) (n3 d3 : ByteArray) (e3 g3 : Int) (w : World)
  (KF : zO (∀ (T : TypeId) (g : Nat) (w : World), w.heap.size = g → Calls Tryz.prog 77 #[.int .u8 f, .int .u8 m, .slice (some ⟨g, 0, none⟩) 2 2] (w.alloc (.cells #[.int .u64 x1, .int .u64 y1, .int .u64 x2, .int .u64 y2] T)) fun r w' => r = .returned (.bool true) ∧ Below w.heap.size w w'))
  (H : zO ((zO (∀ w, Calls Tryz.prog 78 #[.int .u8 f, .agg #[.int .u64 x1, .int .u64 y1]] w fun r w' => r = .returned (.bool true) ∧ Below w.heap.size w w') ∧ zO (∀ (T : TypeId) (g : Nat) (w : World), w.heap.size = g → Calls Tryz.prog 79 #[.int .u8 f, .slice (some ⟨g, 0, none⟩) 2 2] (w.alloc (.cells #[.int .u64 x1, .int .u64 y1, .int .u64 x2, .int .u64 y2] T)) fun r w' => r = .returned (.tuple #[.agg #[.int .u64 u, .int .u64 v], .int .u8 fl]) ∧ Below w.heap.size w w')) ∨ (zO (∀ w, Calls Tryz.prog 78 #[.int .u8 f, .agg #[.int .u64 x1, .int .u64 y1]] w fun r w' => r = .returned (.bool false) ∧ Below w.heap.size w w') ∧ zO ((zO (∀ w, Calls Tryz.prog 78 #[.int .u8 f, .agg #[.int .u64 x2, .int .u64 y2]] w fun r w' => r = .returned (.bool true) ∧ Below w.heap.size w w') ∧ zO (∀ (T : TypeId) (g : Nat) (w : World), w.heap.size = g → Calls Tryz.prog 79 #[.int .u8 f, .slice (some ⟨g, 0, none⟩) 2 2] (w.alloc (.cells #[.int .u64 x1, .int .u64 y1, .int .u64 x2, .int .u64 y2] T)) fun r w' => r = .returned (.tuple #[.agg #[.int .u64 u, .int .u64 v], .int .u8 fl]) ∧ Below w.heap.size w w')) ∨ (zO (∀ w, Calls Tryz.prog 78 #[.int .u8 f, .agg #[.int .u64 x2, .int .u64 y2]] w fun r w' => r = .returned (.bool false) ∧ Below w.heap.size w w') ∧ zO ((zO (∀ w, Calls Tryz.prog 80 #[.int .u8 f, .agg #[.int .u64 x1, .int .u64 y1]] w fun r w' => r = .returned (.bool true) ∧ Below w.heap.size w w') ∧ zO ((zO (∀ w, Calls Tryz.prog 80 #[.int .u8 f, .agg #[.int .u64 x2, .int .u64 y2]] w fun r w' => r = .returned (.bool true) ∧ Below w.heap.size w w') ∧ ¬ (x1 = x2 ∧ y1 = y2) ∧ zO (∀ w, Calls Tryz.prog 81 #[.int .u8 f] w fun r w' => r = .returned (.agg #[.int .u64 u, .int .u64 v]) ∧ Below w.heap.size w w') ∧ fl = 16) ∨ (zO (∀ w, Calls Tryz.prog 80 #[.int .u8 f, .agg #[.int .u64 x2, .int .u64 y2]] w fun r w' => r = .returned (.bool true) ∧ Below w.heap.size w w') ∧ x1 = x2 ∧ y1 = y2 ∧ x1 = u ∧ y1 = v ∧ fl = 0) ∨ (zO (∀ w, Calls Tryz.prog 80 #[.int .u8 f, .agg #[.int .u64 x2, .int .u64 y2]] w fun r w' => r = .returned (.bool false) ∧ Below w.heap.size w w') ∧ x1 = u ∧ y1 = v ∧ fl = 0))) ∨ (zO (∀ w, Calls Tryz.prog 80 #[.int .u8 f, .agg #[.int .u64 x1, .int .u64 y1]] w fun r w' => r = .returned (.bool false) ∧ Below w.heap.size w w') ∧ zO ((zO (∀ w, Calls Tryz.prog 80 #[.int .u8 f, .agg #[.int .u64 x2, .int .u64 y2]] w fun r w' => r = .returned (.bool true) ∧ Below w.heap.size w w') ∧ x2 = u ∧ y2 = v ∧ fl = 0) ∨ (zO (∀ w, Calls Tryz.prog 80 #[.int .u8 f, .agg #[.int .u64 x2, .int .u64 y2]] w fun r w' => r = .returned (.bool false) ∧ Below w.heap.size w w') ∧ zO ((zO (∀ w, Calls Tryz.prog 38 #[.int .u8 f, .agg #[.int .u64 x1, .int .u64 y1]] w fun r w' => r = .returned (.bool true) ∧ Below w.heap.size w w') ∧ zO (∀ w, Calls Tryz.prog 38 #[.int .u8 f, .agg #[.int .u64 x2, .int .u64 y2]] w fun r w' => r = .returned (.bool true) ∧ Below w.heap.size w w') ∧ x1 = x2 ∧ y1 = y2 ∧ x1 = u ∧ y1 = v ∧ fl = 0) ∨ (zO (∀ w, Calls Tryz.prog 38 #[.int .u8 f, .agg #[.int .u64 x1, .int .u64 y1]] w fun r w' => r = .returned (.bool true) ∧ Below w.heap.size w w') ∧ zO (∀ w, Calls Tryz.prog 38 #[.int .u8 f, .agg #[.int .u64 x2, .int .u64 y2]] w fun r w' => r = .returned (.bool true) ∧ Below w.heap.size w w') ∧ ¬ (x1 = x2 ∧ y1 = y2) ∧ zO (∀ w, Calls Tryz.prog 82 #[.int .u8 f, .int .u8 m] w fun r w' => r = .returned (.agg #[.int .u64 u, .int .u64 v]) ∧ Below w.heap.size w w') ∧ fl = 0) ∨ (zO (∀ w, Calls Tryz.prog 38 #[.int .u8 f, .agg #[.int .u64 x1, .int .u64 y1]] w fun r w' => r = .returned (.bool true) ∧ Below w.heap.size w w') ∧ zO (∀ w, Calls Tryz.prog 38 #[.int .u8 f, .agg #[.int .u64 x2, .int .u64 y2]] w fun r w' => r = .returned (.bool false) ∧ Below w.heap.size w w') ∧ zO (∀ w, Calls Tryz.prog 83 #[.int .u8 f, .agg #[.int .u64 x1, .int .u64 y1]] w fun r w' => r = .returned (.tuple #[.agg #[.bool b1, .string n1, .string d1, .int .i64 e1], .int .i64 0]) ∧ Below w.heap.size w w') ∧ zO (∀ w, Calls Tryz.prog 83 #[.int .u8 f, .agg #[.int .u64 x2, .int .u64 y2]] w fun r w' => r = .returned (.tuple #[.agg #[.bool b2, .string n2, .string d2, .int .i64 e2], .int .i64 0]) ∧ Below w.heap.size w w') ∧ zO (∀ w, Calls Tryz.prog 84 #[.agg #[.bool b1, .string n1, .string d1, .int .i64 e1], .agg #[.bool b2, .string n2, .string d2, .int .i64 e2]] w fun r w' => r = .returned (.tuple #[.agg #[.bool b3, .string n3, .string d3, .int .i64 e3], .int .i64 g3]) ∧ Below w.heap.size w w') ∧ zO ((n3.toList.isEmpty = false ∧ zO (∀ w, Calls Tryz.prog 85 #[.int .u8 f, .int .u8 m, .agg #[.bool b3, .string n3, .string d3, .int .i64 e3]] w fun r w' => r = .returned (.tuple #[.agg #[.int .u64 u, .int .u64 v], .int .u8 fl, .int .i64 0]) ∧ Below w.heap.size w w')) ∨ (n3.toList.isEmpty = true ∧ zO (∀ w, Calls Tryz.prog 82 #[.int .u8 f, .int .u8 m] w fun r w' => r = .returned (.agg #[.int .u64 u, .int .u64 v]) ∧ Below w.heap.size w w') ∧ fl = 0))) ∨ (zO (∀ w, Calls Tryz.prog 38 #[.int .u8 f, .agg #[.int .u64 x1, .int .u64 y1]] w fun r w' => r = .returned (.bool false) ∧ Below w.heap.size w w') ∧ zO (∀ w, Calls Tryz.prog 83 #[.int .u8 f, .agg #[.int .u64 x1, .int .u64 y1]] w fun r w' => r = .returned (.tuple #[.agg #[.bool b1, .string n1, .string d1, .int .i64 e1], .int .i64 0]) ∧ Below w.heap.size w w') ∧ zO (∀ w, Calls Tryz.prog 83 #[.int .u8 f, .agg #[.int .u64 x2, .int .u64 y2]] w fun r w' => r = .returned (.tuple #[.agg #[.bool b2, .string n2, .string d2, .int .i64 e2], .int .i64 0]) ∧ Below w.heap.size w w') ∧ zO (∀ w, Calls Tryz.prog 84 #[.agg #[.bool b1, .string n1, .string d1, .int .i64 e1], .agg #[.bool b2, .string n2, .string d2, .int .i64 e2]] w fun r w' => r = .returned (.tuple #[.agg #[.bool b3, .string n3, .string d3, .int .i64 e3], .int .i64 g3]) ∧ Below w.heap.size w w') ∧ zO ((n3.toList.isEmpty = false ∧ zO (∀ w, Calls Tryz.prog 85 #[.int .u8 f, .int .u8 m, .agg #[.bool b3, .string n3, .string d3, .int .i64 e3]] w fun r w' => r = .returned (.tuple #[.agg #[.int .u64 u, .int .u64 v], .int .u8 fl, .int .i64 0]) ∧ Below w.heap.size w w')) ∨ (n3.toList.isEmpty = true ∧ zO (∀ w, Calls Tryz.prog 82 #[.int .u8 f, .int .u8 m] w fun r w' => r = .returned (.agg #[.int .u64 u, .int .u64 v]) ∧ Below w.heap.size w w') ∧ fl = 0)))))))))))))
  : Calls Tryz.prog 31 #[.int .u8 f, .int .u8 m, .agg #[.int .u64 x1, .int .u64 y1], .agg #[.int .u64 x2, .int .u64 y2]] w fun r w' => r = .returned (.tuple #[.agg #[.int .u64 u, .int .u64 v], .int .u8 fl, .int .i64 0]) ∧ Below w.heap.size w w' := by
 obtain ⟨Cb, Cc, CM, B0⟩ := opn3 w (Obj.cells #[.int .u64 x1, .int .u64 y1] 25) (Obj.cells #[.int .u64 x2, .int .u64 y2] 25) (Obj.cells #[.int .u64 0, .int .u64 0] 25)
 go_enter Tryz.func31, Tryz.ntmps31
 obtain ⟨Dj, Dk⟩ := zC Cb
 obtain ⟨Dl, Dm⟩ := zC Cc
 go_wp2_with fail
 refine (KF.out _ _ (((w.alloc (Obj.cells #[.int .u64 x1, .int .u64 y1] 25)).alloc (Obj.cells #[.int .u64 x2, .int .u64 y2] 25)).alloc (Obj.cells #[.int .u64 0, .int .u64 0] 25)) (by first | rfl | simp only [zW])).mono ?_
 rintro r w1 ⟨rfl, b1⟩
 have B1 := zU B0 b1
 obtain ⟨Bl, Bm, Bs⟩ := yA b1 Cb Cc CM
 clear b1 B0 Cb Dj Dk Cc Dl Dm CM
 obtain ⟨CN, CO⟩ := zC Bl
 obtain ⟨CP, CQ⟩ := zC Bm
 rcases H.out with ⟨KN1, KC⟩ | ⟨KN1, Hb⟩
 ·
  clear H
  go_wp2_with fail
  refine (KN1.out _).mono ?_
  rintro r w2 ⟨rfl, b2⟩
  have B2 := zU B1 b2
  obtain ⟨AE, AF, A5⟩ := yA b2 Bl Bm Bs
  clear b2 B1 Bl CN CO Bm CP CQ Bs
  obtain ⟨Bt, Bu⟩ := zC AE
  obtain ⟨Bv, Bw⟩ := zC AF
  go_wp2_with fail
  refine (KC.out _ _ w2 (by first | rfl | simp only [zW])).mono ?_
  rintro r w3 ⟨rfl, b3⟩
  have B3 := zU B2 b3
  obtain ⟨Ap, Aq, Au⟩ := yA b3 AE AF A5
  clear b3 B2 AE Bt Bu AF Bv Bw A5
  obtain ⟨Be, Bf⟩ := zC Ap
  obtain ⟨Bg, Bh⟩ := zC Aq
  have S4 := zJ B3.size
  have Dn := yE Ap
  have Do := yE Aq
  have Dp := yE Au
  have Dq := heap_alloc_last w3 (Obj.cells #[.int .u64 u, .int .u64 v] 25)
  have B4 := zU B3 (yO w3 (Obj.cells #[.int .u64 u, .int .u64 v] 25))
  obtain ⟨Ag, Ah, Ai⟩ := yA (yO w3 (Obj.cells #[.int .u64 u, .int .u64 v] 25)) Ap Aq Au
  clear B3 Ap Be Bf Aq Bg Bh Au
  obtain ⟨AQ, AR⟩ := zC Ag
  obtain ⟨AS, AT⟩ := zC Ah
  obtain ⟨DZ, D0⟩ := zC Dq
  obtain ⟨D1, D2⟩ := zC Ai
  have q0 := fz (k := 0) Ai
  have q1 := fz (k := 1) Ai
  obtain ⟨E0, E1⟩ := zN Ai (.int .u64 u) (.int .u64 v)
  go_wp2
  exact bodyPost_ret (v := .tuple #[.agg #[.int .u64 u, .int .u64 v], .int .u8 fl, .int .i64 0]) (by simp [results, Tryz.results31, go_sem, E0, E1]) rfl ⟨rfl, zM B4 (by first | exact Nat.le_refl _ | omega | (have := S4.out; have := Dn.out; have := Do.out; have := Dp.out; omega)) _ _⟩
 ·
  clear H
  go_wp2_with fail
  refine (KN1.out _).mono ?_
  rintro r w2 ⟨rfl, b2⟩
  have B2 := zU B1 b2
  obtain ⟨AE, AF, A5⟩ := yA b2 Bl Bm Bs
  clear b2 B1 Bl CN CO Bm CP CQ Bs
  obtain ⟨Bt, Bu⟩ := zC AE
  obtain ⟨Bv, Bw⟩ := zC AF
  rcases Hb.out with ⟨KN2, KC⟩ | ⟨KN2, Hbb⟩
  ·
   clear Hb
   go_wp2_with fail
   refine (KN2.out _).mono ?_
   rintro r w3 ⟨rfl, b3⟩
   have B3 := zU B2 b3
   obtain ⟨Ap, Aq, Au⟩ := yA b3 AE AF A5
   clear b3 B2 AE Bt Bu AF Bv Bw A5
   obtain ⟨Be, Bf⟩ := zC Ap
   obtain ⟨Bg, Bh⟩ := zC Aq
   go_wp2_with fail
   refine (KC.out _ _ w3 (by first | rfl | simp only [zW])).mono ?_
   rintro r w4 ⟨rfl, b4⟩
   have B4 := zU B3 b4
   obtain ⟨Ag, Ah, Ai⟩ := yA b4 Ap Aq Au
   clear b4 B3 Ap Be Bf Aq Bg Bh Au
   obtain ⟨AQ, AR⟩ := zC Ag
   obtain ⟨AS, AT⟩ := zC Ah
   have S5 := zJ B4.size
   have Dr := yE Ag
   have Ds := yE Ah
   have Dt := yE Ai
   have Du := heap_alloc_last w4 (Obj.cells #[.int .u64 u, .int .u64 v] 25)
   have B5 := zU B4 (yO w4 (Obj.cells #[.int .u64 u, .int .u64 v] 25))
   obtain ⟨Ab, Ac, Ad⟩ := yA (yO w4 (Obj.cells #[.int .u64 u, .int .u64 v] 25)) Ag Ah Ai
   clear B4 Ag AQ AR Ah AS AT Ai
   obtain ⟨Aw, Ax⟩ := zC Ab
   obtain ⟨Ay, Az⟩ := zC Ac
   obtain ⟨D3, D4⟩ := zC Du
   obtain ⟨D5, D6⟩ := zC Ad
   have q0 := fz (k := 0) Ad
   have q1 := fz (k := 1) Ad
   obtain ⟨E0, E1⟩ := zN Ad (.int .u64 u) (.int .u64 v)
   go_wp2
   exact bodyPost_ret (v := .tuple #[.agg #[.int .u64 u, .int .u64 v], .int .u8 fl, .int .i64 0]) (by simp [results, Tryz.results31, go_sem, E0, E1]) rfl ⟨rfl, zM B5 (by first | exact Nat.le_refl _ | omega | (have := S5.out; have := Dr.out; have := Ds.out; have := Dt.out; omega)) _ _⟩
  ·
   clear Hb
   go_wp2_with fail
   refine (KN2.out _).mono ?_
   rintro r w3 ⟨rfl, b3⟩
   have B3 := zU B2 b3
   obtain ⟨Ap, Aq, Au⟩ := yA b3 AE AF A5
   clear b3 B2 AE Bt Bu AF Bv Bw A5
   obtain ⟨Be, Bf⟩ := zC Ap
   obtain ⟨Bg, Bh⟩ := zC Aq
   rcases Hbb.out with ⟨KI1, Hbba⟩ | ⟨KI1, Hbbb⟩
   ·
    clear Hbb
    go_wp2_with fail
    refine (KI1.out _).mono ?_
    rintro r w4 ⟨rfl, b4⟩
    have B4 := zU B3 b4
    obtain ⟨Ag, Ah, Ai⟩ := yA b4 Ap Aq Au
    clear b4 B3 Ap Be Bf Aq Bg Bh Au
    obtain ⟨AQ, AR⟩ := zC Ag
    obtain ⟨AS, AT⟩ := zC Ah
    rcases Hbba.out with ⟨KI2, hne, KR, rfl⟩ | ⟨KI2, rfl, rfl, rfl, rfl, rfl⟩ | ⟨KI2, rfl, rfl, rfl⟩
    ·
     clear Hbba
     go_wp2_with fail
     refine (KI2.out _).mono ?_
     rintro r w5 ⟨rfl, b5⟩
     have B5 := zU B4 b5
     obtain ⟨Ab, Ac, Ad⟩ := yA b5 Ag Ah Ai
     clear b5 B4 Ag AQ AR Ah AS AT Ai
     obtain ⟨Aw, Ax⟩ := zC Ab
     obtain ⟨Ay, Az⟩ := zC Ac
     by_cases hx : x1 = x2
     ·
      subst hx
      have hy : (((y1 : Nat) : Int) = ((y2 : Nat) : Int)) = False := eq_false (by omega)
      clear hne
      go_wp2_with fail
      refine (KR.out _).mono ?_
      rintro r w6 ⟨rfl, b6⟩
      have B6 := zU B5 b6
      obtain ⟨Ae, Af, Aa⟩ := yA b6 Ab Ac Ad
      clear b6 B5 Ab Aw Ax Ac Ay Az Ad
      obtain ⟨AG, AH⟩ := zC Ae
      obtain ⟨AI, AJ⟩ := zC Af
      obtain ⟨Bx, By⟩ := zC Aa
      have q0 := fz (k := 0) Aa
      have q1 := fz (k := 1) Aa
      obtain ⟨E0, E1⟩ := zN Aa (.int .u64 u) (.int .u64 v)
      go_wp2
      exact bodyPost_ret (v := .tuple #[.agg #[.int .u64 u, .int .u64 v], .int .u8 16, .int .i64 0]) (by simp [results, Tryz.results31, go_sem, E0, E1]) rfl ⟨rfl, zM B6 (by first | exact Nat.le_refl _ | omega | (skip; omega)) _ _⟩
     ·
      have hy : (((x1 : Nat) : Int) = ((x2 : Nat) : Int)) = False := eq_false (by omega)
      clear hx
      clear hne
      go_wp2_with fail
      refine (KR.out _).mono ?_
      rintro r w6 ⟨rfl, b6⟩
      have B6 := zU B5 b6
      obtain ⟨Ae, Af, Aa⟩ := yA b6 Ab Ac Ad
      clear b6 B5 Ab Aw Ax Ac Ay Az Ad
      obtain ⟨AG, AH⟩ := zC Ae
      obtain ⟨AI, AJ⟩ := zC Af
      obtain ⟨Bx, By⟩ := zC Aa
      have q0 := fz (k := 0) Aa
      have q1 := fz (k := 1) Aa
      obtain ⟨E0, E1⟩ := zN Aa (.int .u64 u) (.int .u64 v)
      go_wp2
      exact bodyPost_ret (v := .tuple #[.agg #[.int .u64 u, .int .u64 v], .int .u8 16, .int .i64 0]) (by simp [results, Tryz.results31, go_sem, E0, E1]) rfl ⟨rfl, zM B6 (by first | exact Nat.le_refl _ | omega | (skip; omega)) _ _⟩
    ·
     clear Hbba
     go_wp2_with fail
     refine (KI2.out _).mono ?_
     rintro r w5 ⟨rfl, b5⟩
     have B5 := zU B4 b5
     obtain ⟨Ab, Ac, Ad⟩ := yA b5 Ag Ah Ai
     clear b5 B4 Ag AQ AR Ah AS AT Ai
     obtain ⟨Aw, Ax⟩ := zC Ab
     obtain ⟨Ay, Az⟩ := zC Ac
     go_wp2_with fail
     refine (KI1.out _).mono ?_
     rintro r w6 ⟨rfl, b6⟩
     have B6 := zU B5 b6
     obtain ⟨Ae, Af, Aa⟩ := yA b6 Ab Ac Ad
     clear b6 B5 Ab Aw Ax Ac Ay Az Ad
     obtain ⟨AG, AH⟩ := zC Ae
     obtain ⟨AI, AJ⟩ := zC Af
     obtain ⟨Bx, By⟩ := zC Aa
     have q0 := fz (k := 0) Aa
     have q1 := fz (k := 1) Aa
     obtain ⟨E0, E1⟩ := zN Aa (.int .u64 x1) (.int .u64 y1)
     go_wp2
     exact bodyPost_ret (v := .tuple #[.agg #[.int .u64 x1, .int .u64 y1], .int .u8 0, .int .i64 0]) (by simp [results, Tryz.results31, go_sem, E0, E1]) rfl ⟨rfl, zM B6 (by first | exact Nat.le_refl _ | omega | (skip; omega)) _ _⟩
    ·
     clear Hbba
     go_wp2_with fail
     refine (KI2.out _).mono ?_
     rintro r w5 ⟨rfl, b5⟩
     have B5 := zU B4 b5
     obtain ⟨Ab, Ac, Ad⟩ := yA b5 Ag Ah Ai
     clear b5 B4 Ag AQ AR Ah AS AT Ai
     obtain ⟨Aw, Ax⟩ := zC Ab
     obtain ⟨Ay, Az⟩ := zC Ac
     go_wp2_with fail
     refine (KI1.out _).mono ?_
     rintro r w6 ⟨rfl, b6⟩
     have B6 := zU B5 b6
     obtain ⟨Ae, Af, Aa⟩ := yA b6 Ab Ac Ad
     clear b6 B5 Ab Aw Ax Ac Ay Az Ad
     obtain ⟨AG, AH⟩ := zC Ae
     obtain ⟨AI, AJ⟩ := zC Af
     obtain ⟨Bx, By⟩ := zC Aa
     have q0 := fz (k := 0) Aa
     have q1 := fz (k := 1) Aa
     obtain ⟨E0, E1⟩ := zN Aa (.int .u64 x1) (.int .u64 y1)
     go_wp2
     exact bodyPost_ret (v := .tuple #[.agg #[.int .u64 x1, .int .u64 y1], .int .u8 0, .int .i64 0]) (by simp [results, Tryz.results31, go_sem, E0, E1]) rfl ⟨rfl, zM B6 (by first | exact Nat.le_refl _ | omega | (skip; omega)) _ _⟩
   ·
    clear Hbb
    go_wp2_with fail
    refine (KI1.out _).mono ?_
    rintro r w4 ⟨rfl, b4⟩
    have B4 := zU B3 b4
    obtain ⟨Ag, Ah, Ai⟩ := yA b4 Ap Aq Au
    clear b4 B3 Ap Be Bf Aq Bg Bh Au
    obtain ⟨AQ, AR⟩ := zC Ag
    obtain ⟨AS, AT⟩ := zC Ah
    go_wp2_with fail
    refine (KI1.out _).mono ?_
    rintro r w5 ⟨rfl, b5⟩
    have B5 := zU B4 b5
    obtain ⟨Ab, Ac, Ad⟩ := yA b5 Ag Ah Ai
    clear b5 B4 Ag AQ AR Ah AS AT Ai
    obtain ⟨Aw, Ax⟩ := zC Ab
    obtain ⟨Ay, Az⟩ := zC Ac
    rcases Hbbb.out with ⟨KI2, rfl, rfl, rfl⟩ | ⟨KI2, Hbbbb⟩
    ·
     clear Hbbb
     go_wp2_with fail
     refine (KI2.out _).mono ?_
     rintro r w6 ⟨rfl, b6⟩
     have B6 := zU B5 b6
     obtain ⟨Ae, Af, Aa⟩ := yA b6 Ab Ac Ad
     clear b6 B5 Ab Aw Ax Ac Ay Az Ad
     obtain ⟨AG, AH⟩ := zC Ae
     obtain ⟨AI, AJ⟩ := zC Af
     obtain ⟨Bx, By⟩ := zC Aa
     have q0 := fz (k := 0) Aa
     have q1 := fz (k := 1) Aa
     obtain ⟨E0, E1⟩ := zN Aa (.int .u64 x2) (.int .u64 y2)
     go_wp2
     exact bodyPost_ret (v := .tuple #[.agg #[.int .u64 x2, .int .u64 y2], .int .u8 0, .int .i64 0]) (by simp [results, Tryz.results31, go_sem, E0, E1]) rfl ⟨rfl, zM B6 (by first | exact Nat.le_refl _ | omega | (skip; omega)) _ _⟩
    ·
     clear Hbbb
     go_wp2_with fail
     refine (KI2.out _).mono ?_
     rintro r w6 ⟨rfl, b6⟩
     have B6 := zU B5 b6
     obtain ⟨Ae, Af, Aa⟩ := yA b6 Ab Ac Ad
     clear b6 B5 Ab Aw Ax Ac Ay Az Ad
     obtain ⟨AG, AH⟩ := zC Ae
     obtain ⟨AI, AJ⟩ := zC Af
     rcases Hbbbb.out with ⟨KZ1, KZ2, rfl, rfl, rfl, rfl, rfl⟩ | ⟨KZ1, KZ2, hne, KR, rfl⟩ | ⟨KZ1, KZ2, KV1, KV2, KM, Hbbbbc⟩ | ⟨KZ1, KV1, KV2, KM, Hbbbbd⟩
     ·
      clear Hbbbb
      go_wp2_with fail
      refine (KZ1.out _).mono ?_
      rintro r w7 ⟨rfl, b7⟩
      have B7 := zU B6 b7
      obtain ⟨An, Ao, Av⟩ := yA b7 Ae Af Aa
      clear b7 B6 Ae AG AH Af AI AJ Aa
      obtain ⟨A6, A7⟩ := zC An
      obtain ⟨A8, A9⟩ := zC Ao
      go_wp2_with fail
      refine (KZ2.out _).mono ?_
      rintro r w8 ⟨rfl, b8⟩
      have B8 := zU B7 b8
      obtain ⟨Aj, Ak, Al⟩ := yA b8 An Ao Av
      clear b8 B7 An A6 A7 Ao A8 A9 Av
      obtain ⟨Ba, Bb⟩ := zC Aj
      obtain ⟨Bc, Bd⟩ := zC Ak
      obtain ⟨D7, D8⟩ := zC Al
      have q0 := fz (k := 0) Al
      have q1 := fz (k := 1) Al
      obtain ⟨E0, E1⟩ := zN Al (.int .u64 x1) (.int .u64 y1)
      go_wp2
      exact bodyPost_ret (v := .tuple #[.agg #[.int .u64 x1, .int .u64 y1], .int .u8 0, .int .i64 0]) (by simp [results, Tryz.results31, go_sem, E0, E1]) rfl ⟨rfl, zM B8 (by first | exact Nat.le_refl _ | omega | (skip; omega)) _ _⟩
     ·
      clear Hbbbb
      go_wp2_with fail
      refine (KZ1.out _).mono ?_
      rintro r w7 ⟨rfl, b7⟩
      have B7 := zU B6 b7
      obtain ⟨An, Ao, Av⟩ := yA b7 Ae Af Aa
      clear b7 B6 Ae AG AH Af AI AJ Aa
      obtain ⟨A6, A7⟩ := zC An
      obtain ⟨A8, A9⟩ := zC Ao
      go_wp2_with fail
      refine (KZ2.out _).mono ?_
      rintro r w8 ⟨rfl, b8⟩
      have B8 := zU B7 b8
      obtain ⟨Aj, Ak, Al⟩ := yA b8 An Ao Av
      clear b8 B7 An A6 A7 Ao A8 A9 Av
      obtain ⟨Ba, Bb⟩ := zC Aj
      obtain ⟨Bc, Bd⟩ := zC Ak
      by_cases hx : x1 = x2
      ·
       subst hx
       have hy : (((y1 : Nat) : Int) = ((y2 : Nat) : Int)) = False := eq_false (by omega)
       clear hne
       go_wp2_with fail
       refine (KR.out _).mono ?_
       rintro r w9 ⟨rfl, b9⟩
       have B9 := zU B8 b9
       obtain ⟨As, At, Am⟩ := yA b9 Aj Ak Al
       clear b9 B8 Aj Ba Bb Ak Bc Bd Al
       obtain ⟨Bn, Bo⟩ := zC As
       obtain ⟨Bp, Bq⟩ := zC At
       obtain ⟨Dv, Dw⟩ := zC Am
       have q0 := fz (k := 0) Am
       have q1 := fz (k := 1) Am
       obtain ⟨E0, E1⟩ := zN Am (.int .u64 u) (.int .u64 v)
       go_wp2
       exact bodyPost_ret (v := .tuple #[.agg #[.int .u64 u, .int .u64 v], .int .u8 0, .int .i64 0]) (by simp [results, Tryz.results31, go_sem, E0, E1]) rfl ⟨rfl, zM B9 (by first | exact Nat.le_refl _ | omega | (skip; omega)) _ _⟩
      ·
       have hy : (((x1 : Nat) : Int) = ((x2 : Nat) : Int)) = False := eq_false (by omega)
       clear hx
       clear hne
       go_wp2_with fail
       refine (KR.out _).mono ?_
       rintro r w9 ⟨rfl, b9⟩
       have B9 := zU B8 b9
       obtain ⟨As, At, Am⟩ := yA b9 Aj Ak Al
       clear b9 B8 Aj Ba Bb Ak Bc Bd Al
       obtain ⟨Bn, Bo⟩ := zC As
       obtain ⟨Bp, Bq⟩ := zC At
       obtain ⟨Dv, Dw⟩ := zC Am
       have q0 := fz (k := 0) Am
       have q1 := fz (k := 1) Am
       obtain ⟨E0, E1⟩ := zN Am (.int .u64 u) (.int .u64 v)
       go_wp2
       exact bodyPost_ret (v := .tuple #[.agg #[.int .u64 u, .int .u64 v], .int .u8 0, .int .i64 0]) (by simp [results, Tryz.results31, go_sem, E0, E1]) rfl ⟨rfl, zM B9 (by first | exact Nat.le_refl _ | omega | (skip; omega)) _ _⟩
     ·
      clear Hbbbb
      go_wp2_with fail
      refine (KZ1.out _).mono ?_
      rintro r w7 ⟨rfl, b7⟩
      have B7 := zU B6 b7
      obtain ⟨An, Ao, Av⟩ := yA b7 Ae Af Aa
      clear b7 B6 Ae AG AH Af AI AJ Aa
      obtain ⟨A6, A7⟩ := zC An
      obtain ⟨A8, A9⟩ := zC Ao
      go_wp2_with fail
      refine (KZ2.out _).mono ?_
      rintro r w8 ⟨rfl, b8⟩
      have B8 := zU B7 b8
      obtain ⟨Aj, Ak, Al⟩ := yA b8 An Ao Av
      clear b8 B7 An A6 A7 Ao A8 A9 Av
      obtain ⟨Ba, Bb⟩ := zC Aj
      obtain ⟨Bc, Bd⟩ := zC Ak
      go_wp2_with fail
      refine (KV1.out _).mono ?_
      rintro r w9 ⟨rfl, b9⟩
      have B9 := zU B8 b9
      obtain ⟨As, At, Am⟩ := yA b9 Aj Ak Al
      clear b9 B8 Aj Ba Bb Ak Bc Bd Al
      obtain ⟨Bn, Bo⟩ := zC As
      obtain ⟨Bp, Bq⟩ := zC At
      have S10 := zJ B9.size
      have CR := yE As
      have CS := yE At
      have CT := yE Am
      have AU := heap_alloc_last w9 (Obj.cells #[.bool b1, .string n1, .string d1, .int .i64 e1] 41)
      have B10 := zU B9 (yO w9 (Obj.cells #[.bool b1, .string n1, .string d1, .int .i64 e1] 41))
      obtain ⟨AV, AW, Bi⟩ := yA (yO w9 (Obj.cells #[.bool b1, .string n1, .string d1, .int .i64 e1] 41)) As At Am
      clear B9 As Bn Bo At Bp Bq Am
      obtain ⟨Cd, Ce⟩ := zC AV
      obtain ⟨Cf, Cg⟩ := zC AW
      obtain ⟨Ch, Ci, Cj, Ck⟩ := zG AU
      go_wp2_with fail
      refine (KV2.out _).mono ?_
      rintro r w11 ⟨rfl, b11⟩
      have B11 := zU B10 b11
      obtain ⟨AX, AY, Bj, AZ⟩ := qJ b11 AV AW Bi AU
      clear b11 B10 AV Cd Ce AW Cf Cg Bi AU Ch Ci Cj Ck
      obtain ⟨Cl, Cm⟩ := zC AX
      obtain ⟨Cn, Co⟩ := zC AY
      obtain ⟨Cp, Cq, Cr, Cs⟩ := zG AZ
      have S12 := zJ B11.size
      have CU := yE AX
      have CV := yE AY
      have CW := yE Bj
      have CX := yE AZ
      have A0 := heap_alloc_last w11 (Obj.cells #[.bool b2, .string n2, .string d2, .int .i64 e2] 41)
      have B12 := zU B11 (yO w11 (Obj.cells #[.bool b2, .string n2, .string d2, .int .i64 e2] 41))
      obtain ⟨A1, A2, Bk, A3⟩ := qJ (yO w11 (Obj.cells #[.bool b2, .string n2, .string d2, .int .i64 e2] 41)) AX AY Bj AZ
      clear B11 AX Cl Cm AY Cn Co Bj AZ Cp Cq Cr Cs
      obtain ⟨Ct, Cu⟩ := zC A1
      obtain ⟨Cv, Cw⟩ := zC A2
      obtain ⟨Cx, Cy, Cz, CA⟩ := zG A3
      obtain ⟨CB, CC, CD, CE⟩ := zG A0
      go_wp2_with fail
      refine (KM.out _).mono ?_
      rintro r w13 ⟨rfl, b13⟩
      have B13 := zU B12 b13
      obtain ⟨AA, AB, A4, AC, AD⟩ := xO b13 A1 A2 Bk A3 A0
      clear b13 B12 A1 Ct Cu A2 Cv Cw Bk A3 Cx Cy Cz CA A0 CB CC CD CE
      obtain ⟨Bz, BA⟩ := zC AA
      obtain ⟨BB, BC⟩ := zC AB
      obtain ⟨BD, BE, BF, BG⟩ := zG AC
      obtain ⟨BH, BI, BJ, BK⟩ := zG AD
      have S14 := zJ B13.size
      have CY := yE AA
      have CZ := yE AB
      have C0 := yE A4
      have C1 := yE AC
      have C2 := yE AD
      have AK := heap_alloc_last w13 (Obj.cells #[.bool b3, .string n3, .string d3, .int .i64 e3] 41)
      have B14 := zU B13 (yO w13 (Obj.cells #[.bool b3, .string n3, .string d3, .int .i64 e3] 41))
      obtain ⟨AL, AM, Ar, AN, AO⟩ := xO (yO w13 (Obj.cells #[.bool b3, .string n3, .string d3, .int .i64 e3] 41)) AA AB A4 AC AD
      clear B13 AA Bz BA AB BB BC A4 AC BD BE BF BG AD BH BI BJ BK
      obtain ⟨BL, BM⟩ := zC AL
      obtain ⟨BN, BO⟩ := zC AM
      obtain ⟨BP, BQ, BR, BS⟩ := zG AN
      obtain ⟨BT, BU, BV, BW⟩ := zG AO
      obtain ⟨BX, BY, BZ, Ca⟩ := zG AK
      rcases Hbbbbc.out with ⟨he, KR⟩ | ⟨he, KR, rfl⟩
      ·
       clear Hbbbbc
       go_wp2_with fail
       refine (KR.out _).mono ?_
       rintro r w15 ⟨rfl, b15⟩
       have B15 := zU B14 b15
       obtain ⟨CF, CG, AP, CH, CI, CJ⟩ := rws6 b15 AL AM Ar AN AO AK
       clear b15 B14 AL BL BM AM BN BO Ar AN BP BQ BR BS AO BT BU BV BW AK BX BY BZ Ca
       obtain ⟨Dx, Dy⟩ := zC CF
       obtain ⟨Dz, DA⟩ := zC CG
       obtain ⟨DB, DC, DD, DE⟩ := zG CH
       obtain ⟨DF, DG, DH, DI⟩ := zG CI
       obtain ⟨DJ, DK, DL, DM⟩ := zG CJ
       obtain ⟨DN, DO⟩ := zC AP
       have q0 := fz (k := 0) AP
       have q1 := fz (k := 1) AP
       obtain ⟨E0, E1⟩ := zN AP (.int .u64 u) (.int .u64 v)
       go_wp2
       exact bodyPost_ret (v := .tuple #[.agg #[.int .u64 u, .int .u64 v], .int .u8 fl, .int .i64 0]) (by simp [results, Tryz.results31, go_sem, E0, E1]) rfl ⟨rfl, zM B15 (by first | exact Nat.le_refl _ | omega | (have := S10.out; have := CR.out; have := CS.out; have := CT.out; have := S12.out; have := CU.out; have := CV.out; have := CW.out; have := CX.out; have := S14.out; have := CY.out; have := CZ.out; have := C0.out; have := C1.out; have := C2.out; omega)) _ _⟩
      ·
       clear Hbbbbc
       go_wp2_with fail
       refine (KR.out _).mono ?_
       rintro r w15 ⟨rfl, b15⟩
       have B15 := zU B14 b15
       obtain ⟨CF, CG, AP, CH, CI, CJ⟩ := rws6 b15 AL AM Ar AN AO AK
       clear b15 B14 AL BL BM AM BN BO Ar AN BP BQ BR BS AO BT BU BV BW AK BX BY BZ Ca
       obtain ⟨Dx, Dy⟩ := zC CF
       obtain ⟨Dz, DA⟩ := zC CG
       obtain ⟨DB, DC, DD, DE⟩ := zG CH
       obtain ⟨DF, DG, DH, DI⟩ := zG CI
       obtain ⟨DJ, DK, DL, DM⟩ := zG CJ
       obtain ⟨DN, DO⟩ := zC AP
       have q0 := fz (k := 0) AP
       have q1 := fz (k := 1) AP
       obtain ⟨E0, E1⟩ := zN AP (.int .u64 u) (.int .u64 v)
       go_wp2
       exact bodyPost_ret (v := .tuple #[.agg #[.int .u64 u, .int .u64 v], .int .u8 0, .int .i64 0]) (by simp [results, Tryz.results31, go_sem, E0, E1]) rfl ⟨rfl, zM B15 (by first | exact Nat.le_refl _ | omega | (have := S10.out; have := CR.out; have := CS.out; have := CT.out; have := S12.out; have := CU.out; have := CV.out; have := CW.out; have := CX.out; have := S14.out; have := CY.out; have := CZ.out; have := C0.out; have := C1.out; have := C2.out; omega)) _ _⟩
     ·
      clear Hbbbb
      go_wp2_with fail
      refine (KZ1.out _).mono ?_
      rintro r w7 ⟨rfl, b7⟩
      have B7 := zU B6 b7
      obtain ⟨An, Ao, Av⟩ := yA b7 Ae Af Aa
      clear b7 B6 Ae AG AH Af AI AJ Aa
      obtain ⟨A6, A7⟩ := zC An
      obtain ⟨A8, A9⟩ := zC Ao
      go_wp2_with fail
      refine (KV1.out _).mono ?_
      rintro r w8 ⟨rfl, b8⟩
      have B8 := zU B7 b8
      obtain ⟨Aj, Ak, Al⟩ := yA b8 An Ao Av
      clear b8 B7 An A6 A7 Ao A8 A9 Av
      obtain ⟨Ba, Bb⟩ := zC Aj
      obtain ⟨Bc, Bd⟩ := zC Ak
      have S9 := zJ B8.size
      have C3 := yE Aj
      have C4 := yE Ak
      have C5 := yE Al
      have CK := heap_alloc_last w8 (Obj.cells #[.bool b1, .string n1, .string d1, .int .i64 e1] 41)
      have B9 := zU B8 (yO w8 (Obj.cells #[.bool b1, .string n1, .string d1, .int .i64 e1] 41))
      obtain ⟨As, At, Am⟩ := yA (yO w8 (Obj.cells #[.bool b1, .string n1, .string d1, .int .i64 e1] 41)) Aj Ak Al
      clear B8 Aj Ba Bb Ak Bc Bd Al
      obtain ⟨Bn, Bo⟩ := zC As
      obtain ⟨Bp, Bq⟩ := zC At
      obtain ⟨DP, DQ, DR, DS⟩ := zG CK
      go_wp2_with fail
      refine (KV2.out _).mono ?_
      rintro r w10 ⟨rfl, b10⟩
      have B10 := zU B9 b10
      obtain ⟨AV, AW, Bi, AU⟩ := qJ b10 As At Am CK
      clear b10 B9 As Bn Bo At Bp Bq Am CK DP DQ DR DS
      obtain ⟨Cd, Ce⟩ := zC AV
      obtain ⟨Cf, Cg⟩ := zC AW
      obtain ⟨Ch, Ci, Cj, Ck⟩ := zG AU
      have S11 := zJ B10.size
      have C6 := yE AV
      have C7 := yE AW
      have C8 := yE Bi
      have C9 := yE AU
      have CL := heap_alloc_last w10 (Obj.cells #[.bool b2, .string n2, .string d2, .int .i64 e2] 41)
      have B11 := zU B10 (yO w10 (Obj.cells #[.bool b2, .string n2, .string d2, .int .i64 e2] 41))
      obtain ⟨AX, AY, Bj, AZ⟩ := qJ (yO w10 (Obj.cells #[.bool b2, .string n2, .string d2, .int .i64 e2] 41)) AV AW Bi AU
      clear B10 AV Cd Ce AW Cf Cg Bi AU Ch Ci Cj Ck
      obtain ⟨Cl, Cm⟩ := zC AX
      obtain ⟨Cn, Co⟩ := zC AY
      obtain ⟨Cp, Cq, Cr, Cs⟩ := zG AZ
      obtain ⟨DT, DU, DV, DW⟩ := zG CL
      go_wp2_with fail
      refine (KM.out _).mono ?_
      rintro r w12 ⟨rfl, b12⟩
      have B12 := zU B11 b12
      obtain ⟨A1, A2, Bk, A3, A0⟩ := xO b12 AX AY Bj AZ CL
      clear b12 B11 AX Cl Cm AY Cn Co Bj AZ Cp Cq Cr Cs CL DT DU DV DW
      obtain ⟨Ct, Cu⟩ := zC A1
      obtain ⟨Cv, Cw⟩ := zC A2
      obtain ⟨Cx, Cy, Cz, CA⟩ := zG A3
      obtain ⟨CB, CC, CD, CE⟩ := zG A0
      have S13 := zJ B12.size
      have Da := yE A1
      have Db := yE A2
      have Dc := yE Bk
      have Dd := yE A3
      have De := yE A0
      have Br := heap_alloc_last w12 (Obj.cells #[.bool b3, .string n3, .string d3, .int .i64 e3] 41)
      have B13 := zU B12 (yO w12 (Obj.cells #[.bool b3, .string n3, .string d3, .int .i64 e3] 41))
      obtain ⟨AA, AB, A4, AC, AD⟩ := xO (yO w12 (Obj.cells #[.bool b3, .string n3, .string d3, .int .i64 e3] 41)) A1 A2 Bk A3 A0
      clear B12 A1 Ct Cu A2 Cv Cw Bk A3 Cx Cy Cz CA A0 CB CC CD CE
      obtain ⟨Bz, BA⟩ := zC AA
      obtain ⟨BB, BC⟩ := zC AB
      obtain ⟨BD, BE, BF, BG⟩ := zG AC
      obtain ⟨BH, BI, BJ, BK⟩ := zG AD
      obtain ⟨Df, Dg, Dh, Di⟩ := zG Br
      rcases Hbbbbd.out with ⟨he, KR⟩ | ⟨he, KR, rfl⟩
      ·
       clear Hbbbbd
       go_wp2_with fail
       refine (KR.out _).mono ?_
       rintro r w14 ⟨rfl, b14⟩
       have B14 := zU B13 b14
       obtain ⟨AL, AM, Ar, AN, AO, AK⟩ := rws6 b14 AA AB A4 AC AD Br
       clear b14 B13 AA Bz BA AB BB BC A4 AC BD BE BF BG AD BH BI BJ BK Br Df Dg Dh Di
       obtain ⟨BL, BM⟩ := zC AL
       obtain ⟨BN, BO⟩ := zC AM
       obtain ⟨BP, BQ, BR, BS⟩ := zG AN
       obtain ⟨BT, BU, BV, BW⟩ := zG AO
       obtain ⟨BX, BY, BZ, Ca⟩ := zG AK
       obtain ⟨DX, DY⟩ := zC Ar
       have q0 := fz (k := 0) Ar
       have q1 := fz (k := 1) Ar
       obtain ⟨E0, E1⟩ := zN Ar (.int .u64 u) (.int .u64 v)
       go_wp2
       exact bodyPost_ret (v := .tuple #[.agg #[.int .u64 u, .int .u64 v], .int .u8 fl, .int .i64 0]) (by simp [results, Tryz.results31, go_sem, E0, E1]) rfl ⟨rfl, zM B14 (by first | exact Nat.le_refl _ | omega | (have := S9.out; have := C3.out; have := C4.out; have := C5.out; have := S11.out; have := C6.out; have := C7.out; have := C8.out; have := C9.out; have := S13.out; have := Da.out; have := Db.out; have := Dc.out; have := Dd.out; have := De.out; omega)) _ _⟩
      ·
       clear Hbbbbd
       go_wp2_with fail
       refine (KR.out _).mono ?_
       rintro r w14 ⟨rfl, b14⟩
       have B14 := zU B13 b14
       obtain ⟨AL, AM, Ar, AN, AO, AK⟩ := rws6 b14 AA AB A4 AC AD Br
       clear b14 B13 AA Bz BA AB BB BC A4 AC BD BE BF BG AD BH BI BJ BK Br Df Dg Dh Di
       obtain ⟨BL, BM⟩ := zC AL
       obtain ⟨BN, BO⟩ := zC AM
       obtain ⟨BP, BQ, BR, BS⟩ := zG AN
       obtain ⟨BT, BU, BV, BW⟩ := zG AO
       obtain ⟨BX, BY, BZ, Ca⟩ := zG AK
       obtain ⟨DX, DY⟩ := zC Ar
       have q0 := fz (k := 0) Ar
       have q1 := fz (k := 1) Ar
       obtain ⟨E0, E1⟩ := zN Ar (.int .u64 u) (.int .u64 v)
       go_wp2
       exact bodyPost_ret (v := .tuple #[.agg #[.int .u64 u, .int .u64 v], .int .u8 0, .int .i64 0]) (by simp [results, Tryz.results31, go_sem, E0, E1]) rfl ⟨rfl, zM B14 (by first | exact Nat.le_refl _ | omega | (have := S9.out; have := C3.out; have := C4.out; have := C5.out; have := S11.out; have := C6.out; have := C7.out; have := C8.out; have := C9.out; have := S13.out; have := Da.out; have := Db.out; have := Dc.out; have := Dd.out; have := De.out; omega)) _ _⟩
end Go.Proofs.YtoaaajeblhaeoaaGreatDoor
namespace Go.Proofs.YtoaaajeblhaeoaaGreatDoor
set_option maxRecDepth 100000
set_option maxHeartbeats 40000000
open Go.RowKit WMath XMath
set_option linter.unusedSimpArgs false
set_option linter.unusedVariables false
theorem vX_whole {f : Int} (hf : yU f) (n : Nat) (h : 0 < kC f n ∧ kC f n < 7) (h2 : ¬ (kC f n = 3 ∨ kC f n = 4)) : kS f n ≠ 0 ∧ kS f n < 2 ^ 128 ∧ vX f n = ⟨kN f n, od (kS f n), 1, kX f n + (tz (kS f n) : Int)⟩ ∧ (vX f n).can := by
 obtain ⟨l1, l2, l3⟩ := kS_lim hf n
 obtain ⟨a, b, d, e⟩ := k_parts (f := f) n (by omega)
 have l4 : kS f n < 2 ^ 128 := l1
 obtain ⟨w1, w2, w3, w4, w5, w6, w7⟩ := x_whole hf (kN f n) (kS f n) (kX f n) e (by have := (yW (kS f n) 128).2 l4; omega) (by omega) (by omega)
 have := vX_mk hf n h
 rw [w1] at this
 injection this with h3 h4
 exact ⟨e, l4, h3.symm, by rw [← h3]; exact w2⟩
theorem ov_inf (f : Int) (neg : Bool) : ovB f 0 neg = eInf f neg := by
 unfold ovB
 rw [if_pos (by unfold gO; rw [if_pos rfl]; rfl)]
theorem nan_or {f : Int} (hf : yU f) : eInf f false ||| eInf f false / 2 = eNaN f ∧ eInf f false < 340282366920938463463374607431768211456 ∧ eNaN f < 340282366920938463463374607431768211456 := by
 rcases hf with rfl | rfl | rfl | rfl <;> decide +kernel
theorem kInf_is (f : Int) (hf : yU f) (neg : Bool) (u v : Nat) (hv : xU (eInf f neg) = (u, v)) (w : World) (hT : yG w) : Calls Tryz.prog 172 #[.int .u8 f, .bool neg] w fun r w' => r = .returned (.agg #[.int .u64 u, .int .u64 v]) ∧ Below w.heap.size w w' :=
 op_inf f neg u v w (zJ (fun w hT => kover f 0 hf (by decide) neg u v (by rw [ov_inf]; exact hv) w hT)) hT
theorem kNaN_is (f : Int) (hf : yU f) (u v : Nat) (hv : xU (eNaN f) = (u, v)) (w : World) (hT : yG w) : Calls Tryz.prog 157 #[.int .u8 f] w fun r w' => r = .returned (.agg #[.int .u64 u, .int .u64 v]) ∧ Below w.heap.size w w' := by
 obtain ⟨n1, n2, n3⟩ := nan_or hf
 obtain ⟨iu, iv, hi⟩ : ∃ iu iv, xU (eInf f false) = (iu, iv) := ⟨_, _, rfl⟩
 obtain ⟨i1, i2, i3⟩ := bv_lt n2 hi
 obtain ⟨w0, w1⟩ := wd01 n3
 have hQ := xL n2
 have hQ2 := xL n3
 have hQ3 : eInf f false / 2 < Q := Nat.lt_of_le_of_lt (Nat.div_le_self _ _) hQ
 unfold xU at hv
 injection hv with v1 v2
 have KT : zO (∀ w, Calls Tryz.prog 204 #[.agg (cw 6 (eNaN f))] w fun r w' => r = .returned (.tuple #[.agg #[.int .u64 u, .int .u64 v], .bool true]) ∧ Below w.heap.size w w') := zJ (fun w => by
  have := wtobits_yes (eNaN f) hQ2 (by rw [w0, w1]; exact Nat.mod_add_div _ _) w
  rw [w0, w1, v1, v2] at this
  exact this)
 exact op_nan f iu iv _ _ _ u v _ true w (zJ (fun w hT => kInf_is f hf false iu iv hi w hT)) (zJ (fun w => qR iu iv _ i1 i2 i3 w))
  (zJ (fun w => wright_is (eInf f false) (eInf f false / 2) 1 _ hQ rfl rfl w)) (zJ (fun w => wor_is _ _ _ hQ hQ3 n1 w)) KT hT
theorem ieq {c : Nat} {k : Int} (h : (c : Int) = k) : ((c : Int) == k) = true := by rw [h]; exact beq_self_eq_true k
theorem ine {c : Nat} {k : Int} (h : (c : Int) ≠ k) : ((c : Int) == k) = false := beq_eq_false_iff_ne.2 h
theorem three_up (N : Nat) : N * 2 ^ 3 = 8 * N := by omega
theorem sum_exact (P S N n : Nat) (S0 : S ≠ 0) (N0 : N ≠ 0) (h : S * 2 ^ n = 8 * N) : zT S + n = zT N + 3 ∧ qW P S = qW P N ∧ qM P S false = qM P N false := by
 have b1 := x5 S n S0
 have b2 := x5 N 3 N0
 have q1 := q_longer P S n S0
 have q2 := q_longer P N 3 N0
 rw [three_up] at b2 q2
 rw [h] at b1 q1
 exact ⟨by omega, by rw [← q1.1, q2.1], by rw [← q1.2, q2.2]⟩
theorem sum_lost (P s N n r : Nat) (N0 : N ≠ 0) (hs : P + 2 ≤ zT s) (r0 : r ≠ 0) (hr : r < 2 ^ n) (h : s * 2 ^ n + r = 8 * N) : zT (s / 2 * 2 + 1) + n = zT N + 3 ∧ qW P (s / 2 * 2 + 1) = qW P N ∧ qM P (s / 2 * 2 + 1) false = qM P N false := by
 have s0 : s ≠ 0 := by intro e; subst e; rw [blen_zero] at hs; omega
 obtain ⟨j1, j2, j3, j4⟩ := q_jam P s hs
 have b1 := blen_more s n r s0 hr
 have b2 := x5 N 3 N0
 have q1 := q_more P s n r s0 hr (fun _ => by omega)
 have q2 := q_longer P N 3 N0
 rw [three_up] at b2 q2
 rw [h] at b1 q1
 rw [decide_eq_true r0] at q1
 exact ⟨by omega, by rw [j2, ← q1.1, q2.1], by rw [j3, ← q2.2, q1.2, j4]⟩
theorem lost_four (Y n : Nat) (h : 8 * Y % 2 ^ n ≠ 0) : 4 ≤ n := by
 rcases Nat.lt_or_ge n 4 with c | c
 ·
  exfalso
  apply h
  have : n = 0 ∨ n = 1 ∨ n = 2 ∨ n = 3 := by omega
  rcases this with rfl | rfl | rfl | rfl <;> omega
 ·
  exact c
theorem sum_like (p X Y n : Nat) (X0 : X ≠ 0) (hl : 8 * Y % 2 ^ n ≠ 0 → 2 ^ p ≤ X) : zT (8 * X + jr (8 * Y) n) + n = zT (X * 2 ^ n + Y) + 3 ∧ qW (p + 1) (8 * X + jr (8 * Y) n) = qW (p + 1) (X * 2 ^ n + Y) ∧ qM (p + 1) (8 * X + jr (8 * Y) n) false = qM (p + 1) (X * 2 ^ n + Y) false := by
 have p0 := Nat.two_pow_pos n
 have dm := Nat.div_add_mod (8 * Y) (2 ^ n)
 have lt := Nat.mod_lt (8 * Y) p0
 have XN : X * 2 ^ n + Y ≠ 0 := by
  have := Nat.mul_pos (Nat.pos_of_ne_zero X0) p0
  omega
 obtain ⟨A, hA⟩ : ∃ A, 8 * Y / 2 ^ n = A := ⟨_, rfl⟩
 obtain ⟨r, hr⟩ : ∃ r, 8 * Y % 2 ^ n = r := ⟨_, rfl⟩
 have e8 : (8 * X + A) * 2 ^ n + r = 8 * (X * 2 ^ n + Y) := by
  rw [hA, hr, Nat.mul_comm] at dm
  rw [Nat.add_mul, Nat.mul_assoc, Nat.mul_add]
  omega
 by_cases c : 8 * Y % 2 ^ n = 0
 ·
  rw [jr_even _ _ c, hA]
  rw [hr] at c
  rw [c, Nat.add_zero] at e8
  exact sum_exact (p + 1) _ _ n (by omega) XN e8
 ·
  rw [jr_odd _ _ c, hA]
  have hX := hl c
  rw [hr] at c lt
  have e : 8 * X + (A / 2 * 2 + 1) = (8 * X + A) / 2 * 2 + 1 := by omega
  rw [e]
  refine sum_lost (p + 1) _ _ n r XN ?_ c lt e8
  have := (qE (8 * X + A) (by omega)).2.2
  have l : 2 ^ (p + 3) ≤ 8 * X + A := by rw [Nat.pow_add]; omega
  have : 2 ^ (p + 3) < 2 ^ zT (8 * X + A) := by omega
  have := (Nat.pow_lt_pow_iff_right (show 1 < 2 by decide)).1 this
  omega
theorem sum_unlike (p X Y n : Nat) (hl : 8 * Y % 2 ^ n ≠ 0 → 2 ^ p ≤ X) (hY : Y < 2 * 2 ^ p) (hg : Y ≤ X * 2 ^ n) :
  jr (8 * Y) n ≤ 8 * X ∧ (X * 2 ^ n - Y = 0 ↔ 8 * X - jr (8 * Y) n = 0) ∧ (X * 2 ^ n - Y ≠ 0 → zT (8 * X - jr (8 * Y) n) + n = zT (X * 2 ^ n - Y) + 3 ∧ qW (p + 1) (8 * X - jr (8 * Y) n) = qW (p + 1) (X * 2 ^ n - Y) ∧ qM (p + 1) (8 * X - jr (8 * Y) n) false = qM (p + 1) (X * 2 ^ n - Y) false) := by
 have p0 := Nat.two_pow_pos n
 have dm := Nat.div_add_mod (8 * Y) (2 ^ n)
 have lt := Nat.mod_lt (8 * Y) p0
 obtain ⟨A, hA⟩ : ∃ A, 8 * Y / 2 ^ n = A := ⟨_, rfl⟩
 obtain ⟨r, hr⟩ : ∃ r, 8 * Y % 2 ^ n = r := ⟨_, rfl⟩
 obtain ⟨N, hN⟩ : ∃ N, X * 2 ^ n - Y = N := ⟨_, rfl⟩
 have eX : 8 * (X * 2 ^ n) = 8 * X * 2 ^ n := (Nat.mul_assoc 8 X (2 ^ n)).symm
 have eN : 8 * N + 8 * Y = 8 * X * 2 ^ n := by omega
 rw [hA, hr, Nat.mul_comm] at dm
 by_cases c : 8 * Y % 2 ^ n = 0
 ·
  rw [jr_even _ _ c, hA, hN]
  rw [hr] at c
  rw [c, Nat.add_zero] at dm
  have le : A ≤ 8 * X := by
   have : A * 2 ^ n ≤ 8 * X * 2 ^ n := by omega
   exact Nat.le_of_mul_le_mul_right this p0
  have eS : (8 * X - A) * 2 ^ n = 8 * N := by
   rw [Nat.sub_mul]
   omega
  refine ⟨le, ⟨fun h => ?_, fun h => ?_⟩, fun N0 => ?_⟩
  ·
   rw [h] at eS
   rcases Nat.mul_eq_zero.1 (eS.trans (Nat.mul_zero 8)) with q | q
   ·
    exact q
   ·
    omega
  ·
   rw [h, Nat.zero_mul] at eS
   omega
  ·
   refine sum_exact (p + 1) _ _ n (fun h => ?_) N0 eS
   rw [h, Nat.zero_mul] at eS
   omega
 ·
  have n4 := lost_four Y n c
  have hX := hl c
  rw [jr_odd _ _ c, hA, hN]
  rw [hr] at c lt
  have AY : A < 2 ^ p := by
   have h16 : 2 ^ 4 ≤ 2 ^ n := Nat.pow_le_pow_right (by decide) n4
   have h1 : A * 2 ^ 4 ≤ A * 2 ^ n := Nat.mul_le_mul_left A h16
   omega
  have X8 : 2 ^ (p + 3) ≤ 8 * X := by rw [Nat.pow_add]; omega
  have P3 : 2 ^ (p + 3) = 8 * 2 ^ p := by rw [Nat.pow_add]; omega
  have e8 : (8 * X - A - 1) * 2 ^ n + (2 ^ n - r) = 8 * N := by
   rw [Nat.sub_mul, Nat.sub_mul, Nat.one_mul]
   have : A * 2 ^ n + 2 ^ n ≤ 8 * X * 2 ^ n := by
    have := Nat.mul_le_mul_right (2 ^ n) (show A + 1 ≤ 8 * X by omega)
    rw [Nat.add_mul, Nat.one_mul] at this
    exact this
   omega
  have N0 : N ≠ 0 := by omega
  have e : 8 * X - (A / 2 * 2 + 1) = (8 * X - A - 1) / 2 * 2 + 1 := by omega
  refine ⟨by omega, ⟨fun h => absurd h N0, fun h => ?_⟩, fun _ => ?_⟩
  ·
   exfalso
   omega
  ·
   rw [e]
   refine sum_lost (p + 1) _ _ n (2 ^ n - r) N0 ?_ (by omega) (by omega) e8
   have := (qE (8 * X - A - 1) (by omega)).2.2
   have l : 2 ^ (p + 2) ≤ 8 * X - A - 1 := by
    have : 2 ^ (p + 2) = 4 * 2 ^ p := by rw [Nat.pow_add]; omega
    omega
   have : 2 ^ (p + 2) < 2 ^ zT (8 * X - A - 1) := by omega
   have := (Nat.pow_lt_pow_iff_right (show 1 < 2 by decide)).1 this
   omega
def sumN (sa sb : Bool) (X Y n : Nat) : Nat := if sa = sb then X * 2 ^ n + Y else X * 2 ^ n - Y
theorem sum_rat (sa sb : Bool) (X Y n : Nat) (ey : Int) (hg : Y ≤ X * 2 ^ n) : sgn sa * ((X : Rat) / ((1 : Nat) : Rat)) * (2 : Rat) ^ (ey + (n : Int)) + sgn sb * ((Y : Rat) / ((1 : Nat) : Rat)) * (2 : Rat) ^ ey = sgn sa * (((sumN sa sb X Y n : Nat) : Rat) / ((1 : Nat) : Rat)) * (2 : Rat) ^ ey := by
 have one : ∀ z : Rat, z / ((1 : Nat) : Rat) = z := fun z => by
  rw [show ((1 : Nat) : Rat) = 1 from rfl, Rat.div_def, show (1 : Rat)⁻¹ = 1 by decide +kernel, Rat.mul_one]
 rw [one, one, one, p2add, p2nat]
 generalize (2 : Rat) ^ ey = E
 unfold sumN
 by_cases c : sa = sb
 ·
  subst c
  rw [if_pos rfl, Rat.natCast_add, Rat.natCast_mul]
  generalize ((2 ^ n : Nat) : Rat) = H
  grind
 ·
  rw [if_neg c]
  have hs : sgn sb = - sgn sa := by
   unfold sgn
   cases sa <;> cases sb <;> first | exact absurd rfl c | decide +kernel
  have hN : ((X * 2 ^ n - Y : Nat) : Rat) + (Y : Rat) = (X : Rat) * ((2 ^ n : Nat) : Rat) := by
   rw [← Rat.natCast_add, ← Rat.natCast_mul, Nat.sub_add_cancel hg]
  rw [hs]
  generalize ((2 ^ n : Nat) : Rat) = H at *
  generalize ((X * 2 ^ n - Y : Nat) : Rat) = K at *
  grind
theorem bd_whole (b : Bool) (A : Nat) (x : Int) (A0 : A ≠ 0) (hA : A < 2 ^ 128) (x1 : -20000 ≤ x) (x2 : x ≤ 20000) : Bd ⟨b, od A, 1, x + (tz A : Int)⟩ 128 20200 := by
 have tA := tz_blen A
 have bA := (yW A 128).2 hA
 obtain ⟨o1, o2⟩ := od_is A A0
 have le : od A ≤ A := by
  have p := Nat.two_pow_pos (tz A)
  have := Nat.mul_le_mul_left (od A) p
  rw [Nat.mul_one] at this
  omega
 exact ⟨Nat.lt_of_le_of_lt le hA, by show 1 < 2 ^ 128; decide, by show -((20200 : Nat) : Int) ≤ x + (tz A : Int); omega, by show x + (tz A : Int) ≤ ((20200 : Nat) : Int); omega⟩
theorem add_num {f : Int} (hf : yU f) (m : Int) (sa sb : Bool) (X Y n : Nat) (ex ey : Int) (X0 : X ≠ 0) (Y0 : Y ≠ 0) (hX : X < 2 ^ 128) (hY : Y < 2 ^ 128) (hn : ex = ey + (n : Int)) (hg : Y ≤ X * 2 ^ n) (x1 : -20000 ≤ ex) (x2 : ex ≤ 20000) (y1 : -20000 ≤ ey) (y2 : ey ≤ 20000) (N : Nat) (hN : sumN sa sb X Y n = N) (N0 : N ≠ 0) :
  ∃ (k : Nat) (e : Int), addX ⟨sa, od X, 1, ex + (tz X : Int)⟩ ⟨sb, od Y, 1, ey + (tz Y : Int)⟩ = (⟨sa, k, 1, e⟩, 0) ∧ addX ⟨sb, od Y, 1, ey + (tz Y : Int)⟩ ⟨sa, od X, 1, ex + (tz X : Int)⟩ = (⟨sa, k, 1, e⟩, 0) ∧ (XN.mk sa k 1 e).can ∧ nl k ≤ 8192 ∧ k ≠ 0 ∧
   rnd f m ⟨sa, k, 1, e⟩ = dlv f m sa (ey + (zT N : Int) - 1) (qW (pV f + 1) N) (qM (pV f + 1) N false) := by
 have bX := (yW X 128).2 hX
 have bY := (yW Y 128).2 hY
 have bN : zT N ≤ 45000 := by
  have : zT N ≤ 128 + n + 1 := by
   apply yZ
   have h1 : X * 2 ^ n < 2 ^ (128 + n) := by rw [Nat.pow_add]; exact (Nat.mul_lt_mul_right (Nat.two_pow_pos n)).2 hX
   have h2 : N ≤ X * 2 ^ n + X * 2 ^ n := by rw [← hN]; unfold sumN; split <;> omega
   rw [Nat.pow_succ]
   omega
  omega
 obtain ⟨w1, w2, w3, w4, w5, w6, w7⟩ := x_whole hf sa N ey N0 bN (by omega) (by omega)
 obtain ⟨u1, u2, u3, u4, u5, u6, u7⟩ := x_whole hf sa X ex X0 (by omega) (by omega) (by omega)
 obtain ⟨v1, v2, v3, v4, v5, v6, v7⟩ := x_whole hf sb Y ey Y0 (by omega) (by omega) (by omega)
 have wv := mk_val sa N 1 ey (by decide) (by rw [w1])
 have uv := mk_val sa X 1 ex (by decide) (by rw [u1])
 have vv := mk_val sb Y 1 ey (by decide) (by rw [v1])
 rw [w1] at wv
 rw [u1] at uv
 rw [v1] at vv
 have sr := sum_rat sa sb X Y n ey hg
 rw [← hn, hN] at sr
 have hv : (XN.mk sa (od X) 1 (ex + (tz X : Int))).val + (XN.mk sb (od Y) 1 (ey + (tz Y : Int))).val = (XN.mk sa (od N) 1 (ey + (tz N : Int))).val := by
  rw [uv, vv, wv]
  exact sr
 have B1 := bd_whole sa X ex X0 hX x1 x2
 have B2 := bd_whole sb Y ey Y0 hY y1 y2
 refine ⟨od N, ey + (tz N : Int), addX_is _ _ _ u2 v2 w2 B1 B2 hv, addX_is _ _ _ v2 u2 w2 B2 B1 (by rw [Rat.add_comm]; exact hv), w2, w4, w3, ?_⟩
 unfold rnd
 rw [if_neg w3, w5, w6, w7]
theorem add_null {f : Int} (hf : yU f) (sa sb : Bool) (X Y n : Nat) (ex ey : Int) (X0 : X ≠ 0) (Y0 : Y ≠ 0) (hX : X < 2 ^ 128) (hY : Y < 2 ^ 128) (hn : ex = ey + (n : Int)) (hg : Y ≤ X * 2 ^ n) (x1 : -20000 ≤ ex) (x2 : ex ≤ 20000) (y1 : -20000 ≤ ey) (y2 : ey ≤ 20000) (hN : sumN sa sb X Y n = 0) :
  addX ⟨sa, od X, 1, ex + (tz X : Int)⟩ ⟨sb, od Y, 1, ey + (tz Y : Int)⟩ = (XMath.X0, 0) ∧ addX ⟨sb, od Y, 1, ey + (tz Y : Int)⟩ ⟨sa, od X, 1, ex + (tz X : Int)⟩ = (XMath.X0, 0) := by
 have bX := (yW X 128).2 hX
 have bY := (yW Y 128).2 hY
 obtain ⟨u1, u2, u3, u4, u5, u6, u7⟩ := x_whole hf sa X ex X0 (by omega) (by omega) (by omega)
 obtain ⟨v1, v2, v3, v4, v5, v6, v7⟩ := x_whole hf sb Y ey Y0 (by omega) (by omega) (by omega)
 have uv := mk_val sa X 1 ex (by decide) (by rw [u1])
 have vv := mk_val sb Y 1 ey (by decide) (by rw [v1])
 rw [u1] at uv
 rw [v1] at vv
 have sr := sum_rat sa sb X Y n ey hg
 rw [← hn, hN] at sr
 have z : (XMath.X0).val = 0 := by
  show sgn false * (((0 : Nat) : Rat) / ((1 : Nat) : Rat)) * (2 : Rat) ^ (0 : Int) = 0
  rw [show ((0 : Nat) : Rat) = 0 from rfl, Rat.div_def, Rat.zero_mul, Rat.mul_zero, Rat.zero_mul]
 have hv : (XN.mk sa (od X) 1 (ex + (tz X : Int))).val + (XN.mk sb (od Y) 1 (ey + (tz Y : Int))).val = (XMath.X0).val := by
  rw [uv, vv, z, sr, show ((0 : Nat) : Rat) = 0 from rfl, Rat.div_def, Rat.zero_mul, Rat.mul_zero, Rat.zero_mul]
 have B1 := bd_whole sa X ex X0 hX x1 x2
 have B2 := bd_whole sb Y ey Y0 hY y1 y2
 exact ⟨addX_is _ _ _ u2 v2 x0_can B1 B2 hv, addX_is _ _ _ v2 u2 x0_can B2 B1 (by rw [Rat.add_comm]; exact hv)⟩
end Go.Proofs.YtoaaajeblhaeoaaGreatDoor
