/-
  What the functions that the statement reaches return: part 23 (D3, M0, M2, A0).
-/
import Derived.Test.YtoaaajeblhaeoaaGreatDoorAa22
namespace Go.Proofs.YtoaaajeblhaeoaaGreatDoor
set_option maxRecDepth 100000
set_option maxHeartbeats 40000000
set_option maxRecDepth 100000
open Go.RowKit WMath
set_option linter.unusedSimpArgs false
set_option linter.unusedVariables false
theorem r_nought (f m : Int) (dn : Bool) (hdn : (m == 2) = dn) (u v : Nat) (w : World) (KZ : Box (∀ w, Calls Tryz.prog 91 #[.int .u8 f, .bool dn] w fun r w' => r = .returned (.agg #[.int .u64 u, .int .u64 v]) ∧ Below w.heap.size w w')) : Calls Tryz.prog 82 #[.int .u8 f, .int .u8 m] w fun r w' => r = .returned (.agg #[.int .u64 u, .int .u64 v]) ∧ Below w.heap.size w w' := by
 obtain ⟨Ab, B0⟩ := opn1 w (Obj.cells #[.int .u64 0, .int .u64 0] 25)
 go_enter Tryz.func82, Tryz.ntmps82
 go_wp2_with fail
 refine (KZ.out _).mono ?_
 rintro r w1 ⟨rfl, b1⟩
 have B1 := btr B0 b1
 have Aa := heap_of b1 _ _ _ Ab
 clear b1 B0 Ab
 obtain ⟨Ac, Ad⟩ := cells2s Aa
 have q0 := fz (k := 0) Aa
 have q1 := fz (k := 1) Aa
 obtain ⟨E0, E1⟩ := set2_cells Aa (.int .u64 u) (.int .u64 v)
 go_wp2
 exact bodyPost_ret (v := .agg #[.int .u64 u, .int .u64 v]) (by simp [results, Tryz.results82, go_sem, E0, E1]) rfl ⟨rfl, set2_below B1 (by first | exact Nat.le_refl _ | omega | (skip; omega)) _ _⟩
theorem rad_no (f m : Int) (x1 y1 x2 y2 u v : Nat) (w : World) 
  (KF : Box (∀ (T : TypeId) (g : Nat) (w : World), w.heap.size = g → Calls Tryz.prog 77 #[.int .u8 f, .int .u8 m, .slice (some ⟨g, 0, none⟩) 2 2] (w.alloc (.cells #[.int .u64 x1, .int .u64 y1, .int .u64 x2, .int .u64 y2] T)) fun r w' => r = .returned (.bool false) ∧ Below w.heap.size w w'))
  : Calls Tryz.prog 31 #[.int .u8 f, .int .u8 m, .agg #[.int .u64 x1, .int .u64 y1], .agg #[.int .u64 x2, .int .u64 y2]] w fun r w' => r = .returned (.tuple #[.agg #[.int .u64 0, .int .u64 0], .int .u8 0, .int .i64 2]) ∧ Below w.heap.size w w' := by
 obtain ⟨Ab, Ac, Ad, B0⟩ := opn3 w (Obj.cells #[.int .u64 x1, .int .u64 y1] 25) (Obj.cells #[.int .u64 x2, .int .u64 y2] 25) (Obj.cells #[.int .u64 0, .int .u64 0] 25)
 go_enter Tryz.func31, Tryz.ntmps31
 obtain ⟨Ae, Af⟩ := cells2s Ab
 obtain ⟨Ag, Ah⟩ := cells2s Ac
 go_wp2_with fail
 refine (KF.out _ _ (((w.alloc (Obj.cells #[.int .u64 x1, .int .u64 y1] 25)).alloc (Obj.cells #[.int .u64 x2, .int .u64 y2] 25)).alloc (Obj.cells #[.int .u64 0, .int .u64 0] 25)) (by first | rfl | simp only [size_al])).mono ?_
 rintro r w1 ⟨rfl, b1⟩
 have B1 := btr B0 b1
 obtain ⟨Ai, Aj, Aa⟩ := rws3 b1 Ab Ac Ad
 clear b1 B0 Ab Ae Af Ac Ag Ah Ad
 obtain ⟨Ak, Al⟩ := cells2s Ai
 obtain ⟨Am, An⟩ := cells2s Aj
 obtain ⟨Ao, Ap⟩ := cells2s Aa
 have q0 := fz (k := 0) Aa
 have q1 := fz (k := 1) Aa
 obtain ⟨E0, E1⟩ := set2_cells Aa (.int .u64 0) (.int .u64 0)
 go_wp2
 exact bodyPost_ret (v := .tuple #[.agg #[.int .u64 0, .int .u64 0], .int .u8 0, .int .i64 2]) (by simp [results, Tryz.results31, go_sem, E0, E1]) rfl ⟨rfl, set2_below B1 (by first | exact Nat.le_refl _ | omega | (skip; omega)) _ _⟩
theorem rad_all (f m : Int) (x1 y1 x2 y2 u v : Nat) (fl : Int) (b1 : Bool) (n1 d1 : ByteArray) (e1 : Int) (b2 : Bool) (n2 d2 : ByteArray) (e2 : Int) (b3 : Bool) (n3 d3 : ByteArray) (e3 g3 : Int) (w : World)
  (KF : Box (∀ (T : TypeId) (g : Nat) (w : World), w.heap.size = g → Calls Tryz.prog 77 #[.int .u8 f, .int .u8 m, .slice (some ⟨g, 0, none⟩) 2 2] (w.alloc (.cells #[.int .u64 x1, .int .u64 y1, .int .u64 x2, .int .u64 y2] T)) fun r w' => r = .returned (.bool true) ∧ Below w.heap.size w w'))
  (H : Box ((Box (∀ w, Calls Tryz.prog 78 #[.int .u8 f, .agg #[.int .u64 x1, .int .u64 y1]] w fun r w' => r = .returned (.bool true) ∧ Below w.heap.size w w') ∧ Box (∀ (T : TypeId) (g : Nat) (w : World), w.heap.size = g → Calls Tryz.prog 79 #[.int .u8 f, .slice (some ⟨g, 0, none⟩) 2 2] (w.alloc (.cells #[.int .u64 x1, .int .u64 y1, .int .u64 x2, .int .u64 y2] T)) fun r w' => r = .returned (.tuple #[.agg #[.int .u64 u, .int .u64 v], .int .u8 fl]) ∧ Below w.heap.size w w')) ∨ (Box (∀ w, Calls Tryz.prog 78 #[.int .u8 f, .agg #[.int .u64 x1, .int .u64 y1]] w fun r w' => r = .returned (.bool false) ∧ Below w.heap.size w w') ∧ Box ((Box (∀ w, Calls Tryz.prog 78 #[.int .u8 f, .agg #[.int .u64 x2, .int .u64 y2]] w fun r w' => r = .returned (.bool true) ∧ Below w.heap.size w w') ∧ Box (∀ (T : TypeId) (g : Nat) (w : World), w.heap.size = g → Calls Tryz.prog 79 #[.int .u8 f, .slice (some ⟨g, 0, none⟩) 2 2] (w.alloc (.cells #[.int .u64 x1, .int .u64 y1, .int .u64 x2, .int .u64 y2] T)) fun r w' => r = .returned (.tuple #[.agg #[.int .u64 u, .int .u64 v], .int .u8 fl]) ∧ Below w.heap.size w w')) ∨ (Box (∀ w, Calls Tryz.prog 78 #[.int .u8 f, .agg #[.int .u64 x2, .int .u64 y2]] w fun r w' => r = .returned (.bool false) ∧ Below w.heap.size w w') ∧ Box ((Box (∀ w, Calls Tryz.prog 80 #[.int .u8 f, .agg #[.int .u64 x1, .int .u64 y1]] w fun r w' => r = .returned (.bool true) ∧ Below w.heap.size w w') ∧ Box ((Box (∀ w, Calls Tryz.prog 80 #[.int .u8 f, .agg #[.int .u64 x2, .int .u64 y2]] w fun r w' => r = .returned (.bool true) ∧ Below w.heap.size w w') ∧ ¬ (x1 = x2 ∧ y1 = y2) ∧ Box (∀ w, Calls Tryz.prog 81 #[.int .u8 f] w fun r w' => r = .returned (.agg #[.int .u64 u, .int .u64 v]) ∧ Below w.heap.size w w') ∧ fl = 16) ∨ (Box (∀ w, Calls Tryz.prog 80 #[.int .u8 f, .agg #[.int .u64 x2, .int .u64 y2]] w fun r w' => r = .returned (.bool true) ∧ Below w.heap.size w w') ∧ x1 = x2 ∧ y1 = y2 ∧ x1 = u ∧ y1 = v ∧ fl = 0) ∨ (Box (∀ w, Calls Tryz.prog 80 #[.int .u8 f, .agg #[.int .u64 x2, .int .u64 y2]] w fun r w' => r = .returned (.bool false) ∧ Below w.heap.size w w') ∧ x1 = u ∧ y1 = v ∧ fl = 0))) ∨ (Box (∀ w, Calls Tryz.prog 80 #[.int .u8 f, .agg #[.int .u64 x1, .int .u64 y1]] w fun r w' => r = .returned (.bool false) ∧ Below w.heap.size w w') ∧ Box ((Box (∀ w, Calls Tryz.prog 80 #[.int .u8 f, .agg #[.int .u64 x2, .int .u64 y2]] w fun r w' => r = .returned (.bool true) ∧ Below w.heap.size w w') ∧ x2 = u ∧ y2 = v ∧ fl = 0) ∨ (Box (∀ w, Calls Tryz.prog 80 #[.int .u8 f, .agg #[.int .u64 x2, .int .u64 y2]] w fun r w' => r = .returned (.bool false) ∧ Below w.heap.size w w') ∧ Box ((Box (∀ w, Calls Tryz.prog 38 #[.int .u8 f, .agg #[.int .u64 x1, .int .u64 y1]] w fun r w' => r = .returned (.bool true) ∧ Below w.heap.size w w') ∧ Box (∀ w, Calls Tryz.prog 38 #[.int .u8 f, .agg #[.int .u64 x2, .int .u64 y2]] w fun r w' => r = .returned (.bool true) ∧ Below w.heap.size w w') ∧ x1 = x2 ∧ y1 = y2 ∧ x1 = u ∧ y1 = v ∧ fl = 0) ∨ (Box (∀ w, Calls Tryz.prog 38 #[.int .u8 f, .agg #[.int .u64 x1, .int .u64 y1]] w fun r w' => r = .returned (.bool true) ∧ Below w.heap.size w w') ∧ Box (∀ w, Calls Tryz.prog 38 #[.int .u8 f, .agg #[.int .u64 x2, .int .u64 y2]] w fun r w' => r = .returned (.bool true) ∧ Below w.heap.size w w') ∧ ¬ (x1 = x2 ∧ y1 = y2) ∧ Box (∀ w, Calls Tryz.prog 82 #[.int .u8 f, .int .u8 m] w fun r w' => r = .returned (.agg #[.int .u64 u, .int .u64 v]) ∧ Below w.heap.size w w') ∧ fl = 0) ∨ (Box (∀ w, Calls Tryz.prog 38 #[.int .u8 f, .agg #[.int .u64 x1, .int .u64 y1]] w fun r w' => r = .returned (.bool true) ∧ Below w.heap.size w w') ∧ Box (∀ w, Calls Tryz.prog 38 #[.int .u8 f, .agg #[.int .u64 x2, .int .u64 y2]] w fun r w' => r = .returned (.bool false) ∧ Below w.heap.size w w') ∧ Box (∀ w, Calls Tryz.prog 83 #[.int .u8 f, .agg #[.int .u64 x1, .int .u64 y1]] w fun r w' => r = .returned (.tuple #[.agg #[.bool b1, .string n1, .string d1, .int .i64 e1], .int .i64 0]) ∧ Below w.heap.size w w') ∧ Box (∀ w, Calls Tryz.prog 83 #[.int .u8 f, .agg #[.int .u64 x2, .int .u64 y2]] w fun r w' => r = .returned (.tuple #[.agg #[.bool b2, .string n2, .string d2, .int .i64 e2], .int .i64 0]) ∧ Below w.heap.size w w') ∧ Box (∀ w, Calls Tryz.prog 84 #[.agg #[.bool b1, .string n1, .string d1, .int .i64 e1], .agg #[.bool b2, .string n2, .string d2, .int .i64 e2]] w fun r w' => r = .returned (.tuple #[.agg #[.bool b3, .string n3, .string d3, .int .i64 e3], .int .i64 g3]) ∧ Below w.heap.size w w') ∧ Box ((n3.toList.isEmpty = false ∧ Box (∀ w, Calls Tryz.prog 85 #[.int .u8 f, .int .u8 m, .agg #[.bool b3, .string n3, .string d3, .int .i64 e3]] w fun r w' => r = .returned (.tuple #[.agg #[.int .u64 u, .int .u64 v], .int .u8 fl, .int .i64 0]) ∧ Below w.heap.size w w')) ∨ (n3.toList.isEmpty = true ∧ Box (∀ w, Calls Tryz.prog 82 #[.int .u8 f, .int .u8 m] w fun r w' => r = .returned (.agg #[.int .u64 u, .int .u64 v]) ∧ Below w.heap.size w w') ∧ fl = 0))) ∨ (Box (∀ w, Calls Tryz.prog 38 #[.int .u8 f, .agg #[.int .u64 x1, .int .u64 y1]] w fun r w' => r = .returned (.bool false) ∧ Below w.heap.size w w') ∧ Box (∀ w, Calls Tryz.prog 83 #[.int .u8 f, .agg #[.int .u64 x1, .int .u64 y1]] w fun r w' => r = .returned (.tuple #[.agg #[.bool b1, .string n1, .string d1, .int .i64 e1], .int .i64 0]) ∧ Below w.heap.size w w') ∧ Box (∀ w, Calls Tryz.prog 83 #[.int .u8 f, .agg #[.int .u64 x2, .int .u64 y2]] w fun r w' => r = .returned (.tuple #[.agg #[.bool b2, .string n2, .string d2, .int .i64 e2], .int .i64 0]) ∧ Below w.heap.size w w') ∧ Box (∀ w, Calls Tryz.prog 84 #[.agg #[.bool b1, .string n1, .string d1, .int .i64 e1], .agg #[.bool b2, .string n2, .string d2, .int .i64 e2]] w fun r w' => r = .returned (.tuple #[.agg #[.bool b3, .string n3, .string d3, .int .i64 e3], .int .i64 g3]) ∧ Below w.heap.size w w') ∧ Box ((n3.toList.isEmpty = false ∧ Box (∀ w, Calls Tryz.prog 85 #[.int .u8 f, .int .u8 m, .agg #[.bool b3, .string n3, .string d3, .int .i64 e3]] w fun r w' => r = .returned (.tuple #[.agg #[.int .u64 u, .int .u64 v], .int .u8 fl, .int .i64 0]) ∧ Below w.heap.size w w')) ∨ (n3.toList.isEmpty = true ∧ Box (∀ w, Calls Tryz.prog 82 #[.int .u8 f, .int .u8 m] w fun r w' => r = .returned (.agg #[.int .u64 u, .int .u64 v]) ∧ Below w.heap.size w w') ∧ fl = 0)))))))))))))
  : Calls Tryz.prog 31 #[.int .u8 f, .int .u8 m, .agg #[.int .u64 x1, .int .u64 y1], .agg #[.int .u64 x2, .int .u64 y2]] w fun r w' => r = .returned (.tuple #[.agg #[.int .u64 u, .int .u64 v], .int .u8 fl, .int .i64 0]) ∧ Below w.heap.size w w' := by
 obtain ⟨Cb, Cc, CM, B0⟩ := opn3 w (Obj.cells #[.int .u64 x1, .int .u64 y1] 25) (Obj.cells #[.int .u64 x2, .int .u64 y2] 25) (Obj.cells #[.int .u64 0, .int .u64 0] 25)
 go_enter Tryz.func31, Tryz.ntmps31
 obtain ⟨Dj, Dk⟩ := cells2s Cb
 obtain ⟨Dl, Dm⟩ := cells2s Cc
 go_wp2_with fail
 refine (KF.out _ _ (((w.alloc (Obj.cells #[.int .u64 x1, .int .u64 y1] 25)).alloc (Obj.cells #[.int .u64 x2, .int .u64 y2] 25)).alloc (Obj.cells #[.int .u64 0, .int .u64 0] 25)) (by first | rfl | simp only [size_al])).mono ?_
 rintro r w1 ⟨rfl, b1⟩
 have B1 := btr B0 b1
 obtain ⟨Bl, Bm, Bs⟩ := rws3 b1 Cb Cc CM
 clear b1 B0 Cb Dj Dk Cc Dl Dm CM
 obtain ⟨CN, CO⟩ := cells2s Bl
 obtain ⟨CP, CQ⟩ := cells2s Bm
 rcases H.out with ⟨KN1, KC⟩ | ⟨KN1, Hb⟩
 ·
  clear H
  go_wp2_with fail
  refine (KN1.out _).mono ?_
  rintro r w2 ⟨rfl, b2⟩
  have B2 := btr B1 b2
  obtain ⟨AE, AF, A5⟩ := rws3 b2 Bl Bm Bs
  clear b2 B1 Bl CN CO Bm CP CQ Bs
  obtain ⟨Bt, Bu⟩ := cells2s AE
  obtain ⟨Bv, Bw⟩ := cells2s AF
  go_wp2_with fail
  refine (KC.out _ _ w2 (by first | rfl | simp only [size_al])).mono ?_
  rintro r w3 ⟨rfl, b3⟩
  have B3 := btr B2 b3
  obtain ⟨Ap, Aq, Au⟩ := rws3 b3 AE AF A5
  clear b3 B2 AE Bt Bu AF Bv Bw A5
  obtain ⟨Be, Bf⟩ := cells2s Ap
  obtain ⟨Bg, Bh⟩ := cells2s Aq
  have S4 := box B3.size
  have Dn := ltR Ap
  have Do := ltR Aq
  have Dp := ltR Au
  have Dq := heap_alloc_last w3 (Obj.cells #[.int .u64 u, .int .u64 v] 25)
  have B4 := btr B3 (bal w3 (Obj.cells #[.int .u64 u, .int .u64 v] 25))
  obtain ⟨Ag, Ah, Ai⟩ := rws3 (bal w3 (Obj.cells #[.int .u64 u, .int .u64 v] 25)) Ap Aq Au
  clear B3 Ap Be Bf Aq Bg Bh Au
  obtain ⟨AQ, AR⟩ := cells2s Ag
  obtain ⟨AS, AT⟩ := cells2s Ah
  obtain ⟨DZ, D0⟩ := cells2s Dq
  obtain ⟨D1, D2⟩ := cells2s Ai
  have q0 := fz (k := 0) Ai
  have q1 := fz (k := 1) Ai
  obtain ⟨E0, E1⟩ := set2_cells Ai (.int .u64 u) (.int .u64 v)
  go_wp2
  exact bodyPost_ret (v := .tuple #[.agg #[.int .u64 u, .int .u64 v], .int .u8 fl, .int .i64 0]) (by simp [results, Tryz.results31, go_sem, E0, E1]) rfl ⟨rfl, set2_below B4 (by first | exact Nat.le_refl _ | omega | (have := S4.out; have := Dn.out; have := Do.out; have := Dp.out; omega)) _ _⟩
 ·
  clear H
  go_wp2_with fail
  refine (KN1.out _).mono ?_
  rintro r w2 ⟨rfl, b2⟩
  have B2 := btr B1 b2
  obtain ⟨AE, AF, A5⟩ := rws3 b2 Bl Bm Bs
  clear b2 B1 Bl CN CO Bm CP CQ Bs
  obtain ⟨Bt, Bu⟩ := cells2s AE
  obtain ⟨Bv, Bw⟩ := cells2s AF
  rcases Hb.out with ⟨KN2, KC⟩ | ⟨KN2, Hbb⟩
  ·
   clear Hb
   go_wp2_with fail
   refine (KN2.out _).mono ?_
   rintro r w3 ⟨rfl, b3⟩
   have B3 := btr B2 b3
   obtain ⟨Ap, Aq, Au⟩ := rws3 b3 AE AF A5
   clear b3 B2 AE Bt Bu AF Bv Bw A5
   obtain ⟨Be, Bf⟩ := cells2s Ap
   obtain ⟨Bg, Bh⟩ := cells2s Aq
   go_wp2_with fail
   refine (KC.out _ _ w3 (by first | rfl | simp only [size_al])).mono ?_
   rintro r w4 ⟨rfl, b4⟩
   have B4 := btr B3 b4
   obtain ⟨Ag, Ah, Ai⟩ := rws3 b4 Ap Aq Au
   clear b4 B3 Ap Be Bf Aq Bg Bh Au
   obtain ⟨AQ, AR⟩ := cells2s Ag
   obtain ⟨AS, AT⟩ := cells2s Ah
   have S5 := box B4.size
   have Dr := ltR Ag
   have Ds := ltR Ah
   have Dt := ltR Ai
   have Du := heap_alloc_last w4 (Obj.cells #[.int .u64 u, .int .u64 v] 25)
   have B5 := btr B4 (bal w4 (Obj.cells #[.int .u64 u, .int .u64 v] 25))
   obtain ⟨Ab, Ac, Ad⟩ := rws3 (bal w4 (Obj.cells #[.int .u64 u, .int .u64 v] 25)) Ag Ah Ai
   clear B4 Ag AQ AR Ah AS AT Ai
   obtain ⟨Aw, Ax⟩ := cells2s Ab
   obtain ⟨Ay, Az⟩ := cells2s Ac
   obtain ⟨D3, D4⟩ := cells2s Du
   obtain ⟨D5, D6⟩ := cells2s Ad
   have q0 := fz (k := 0) Ad
   have q1 := fz (k := 1) Ad
   obtain ⟨E0, E1⟩ := set2_cells Ad (.int .u64 u) (.int .u64 v)
   go_wp2
   exact bodyPost_ret (v := .tuple #[.agg #[.int .u64 u, .int .u64 v], .int .u8 fl, .int .i64 0]) (by simp [results, Tryz.results31, go_sem, E0, E1]) rfl ⟨rfl, set2_below B5 (by first | exact Nat.le_refl _ | omega | (have := S5.out; have := Dr.out; have := Ds.out; have := Dt.out; omega)) _ _⟩
  ·
   clear Hb
   go_wp2_with fail
   refine (KN2.out _).mono ?_
   rintro r w3 ⟨rfl, b3⟩
   have B3 := btr B2 b3
   obtain ⟨Ap, Aq, Au⟩ := rws3 b3 AE AF A5
   clear b3 B2 AE Bt Bu AF Bv Bw A5
   obtain ⟨Be, Bf⟩ := cells2s Ap
   obtain ⟨Bg, Bh⟩ := cells2s Aq
   rcases Hbb.out with ⟨KI1, Hbba⟩ | ⟨KI1, Hbbb⟩
   ·
    clear Hbb
    go_wp2_with fail
    refine (KI1.out _).mono ?_
    rintro r w4 ⟨rfl, b4⟩
    have B4 := btr B3 b4
    obtain ⟨Ag, Ah, Ai⟩ := rws3 b4 Ap Aq Au
    clear b4 B3 Ap Be Bf Aq Bg Bh Au
    obtain ⟨AQ, AR⟩ := cells2s Ag
    obtain ⟨AS, AT⟩ := cells2s Ah
    rcases Hbba.out with ⟨KI2, hne, KR, rfl⟩ | ⟨KI2, rfl, rfl, rfl, rfl, rfl⟩ | ⟨KI2, rfl, rfl, rfl⟩
    ·
     clear Hbba
     go_wp2_with fail
     refine (KI2.out _).mono ?_
     rintro r w5 ⟨rfl, b5⟩
     have B5 := btr B4 b5
     obtain ⟨Ab, Ac, Ad⟩ := rws3 b5 Ag Ah Ai
     clear b5 B4 Ag AQ AR Ah AS AT Ai
     obtain ⟨Aw, Ax⟩ := cells2s Ab
     obtain ⟨Ay, Az⟩ := cells2s Ac
     by_cases hx : x1 = x2
     ·
      subst hx
      have hy : (((y1 : Nat) : Int) = ((y2 : Nat) : Int)) = False := eq_false (by omega)
      clear hne
      go_wp2_with fail
      refine (KR.out _).mono ?_
      rintro r w6 ⟨rfl, b6⟩
      have B6 := btr B5 b6
      obtain ⟨Ae, Af, Aa⟩ := rws3 b6 Ab Ac Ad
      clear b6 B5 Ab Aw Ax Ac Ay Az Ad
      obtain ⟨AG, AH⟩ := cells2s Ae
      obtain ⟨AI, AJ⟩ := cells2s Af
      obtain ⟨Bx, By⟩ := cells2s Aa
      have q0 := fz (k := 0) Aa
      have q1 := fz (k := 1) Aa
      obtain ⟨E0, E1⟩ := set2_cells Aa (.int .u64 u) (.int .u64 v)
      go_wp2
      exact bodyPost_ret (v := .tuple #[.agg #[.int .u64 u, .int .u64 v], .int .u8 16, .int .i64 0]) (by simp [results, Tryz.results31, go_sem, E0, E1]) rfl ⟨rfl, set2_below B6 (by first | exact Nat.le_refl _ | omega | (skip; omega)) _ _⟩
     ·
      have hy : (((x1 : Nat) : Int) = ((x2 : Nat) : Int)) = False := eq_false (by omega)
      clear hx
      clear hne
      go_wp2_with fail
      refine (KR.out _).mono ?_
      rintro r w6 ⟨rfl, b6⟩
      have B6 := btr B5 b6
      obtain ⟨Ae, Af, Aa⟩ := rws3 b6 Ab Ac Ad
      clear b6 B5 Ab Aw Ax Ac Ay Az Ad
      obtain ⟨AG, AH⟩ := cells2s Ae
      obtain ⟨AI, AJ⟩ := cells2s Af
      obtain ⟨Bx, By⟩ := cells2s Aa
      have q0 := fz (k := 0) Aa
      have q1 := fz (k := 1) Aa
      obtain ⟨E0, E1⟩ := set2_cells Aa (.int .u64 u) (.int .u64 v)
      go_wp2
      exact bodyPost_ret (v := .tuple #[.agg #[.int .u64 u, .int .u64 v], .int .u8 16, .int .i64 0]) (by simp [results, Tryz.results31, go_sem, E0, E1]) rfl ⟨rfl, set2_below B6 (by first | exact Nat.le_refl _ | omega | (skip; omega)) _ _⟩
    ·
     clear Hbba
     go_wp2_with fail
     refine (KI2.out _).mono ?_
     rintro r w5 ⟨rfl, b5⟩
     have B5 := btr B4 b5
     obtain ⟨Ab, Ac, Ad⟩ := rws3 b5 Ag Ah Ai
     clear b5 B4 Ag AQ AR Ah AS AT Ai
     obtain ⟨Aw, Ax⟩ := cells2s Ab
     obtain ⟨Ay, Az⟩ := cells2s Ac
     go_wp2_with fail
     refine (KI1.out _).mono ?_
     rintro r w6 ⟨rfl, b6⟩
     have B6 := btr B5 b6
     obtain ⟨Ae, Af, Aa⟩ := rws3 b6 Ab Ac Ad
     clear b6 B5 Ab Aw Ax Ac Ay Az Ad
     obtain ⟨AG, AH⟩ := cells2s Ae
     obtain ⟨AI, AJ⟩ := cells2s Af
     obtain ⟨Bx, By⟩ := cells2s Aa
     have q0 := fz (k := 0) Aa
     have q1 := fz (k := 1) Aa
     obtain ⟨E0, E1⟩ := set2_cells Aa (.int .u64 x1) (.int .u64 y1)
     go_wp2
     exact bodyPost_ret (v := .tuple #[.agg #[.int .u64 x1, .int .u64 y1], .int .u8 0, .int .i64 0]) (by simp [results, Tryz.results31, go_sem, E0, E1]) rfl ⟨rfl, set2_below B6 (by first | exact Nat.le_refl _ | omega | (skip; omega)) _ _⟩
    ·
     clear Hbba
     go_wp2_with fail
     refine (KI2.out _).mono ?_
     rintro r w5 ⟨rfl, b5⟩
     have B5 := btr B4 b5
     obtain ⟨Ab, Ac, Ad⟩ := rws3 b5 Ag Ah Ai
     clear b5 B4 Ag AQ AR Ah AS AT Ai
     obtain ⟨Aw, Ax⟩ := cells2s Ab
     obtain ⟨Ay, Az⟩ := cells2s Ac
     go_wp2_with fail
     refine (KI1.out _).mono ?_
     rintro r w6 ⟨rfl, b6⟩
     have B6 := btr B5 b6
     obtain ⟨Ae, Af, Aa⟩ := rws3 b6 Ab Ac Ad
     clear b6 B5 Ab Aw Ax Ac Ay Az Ad
     obtain ⟨AG, AH⟩ := cells2s Ae
     obtain ⟨AI, AJ⟩ := cells2s Af
     obtain ⟨Bx, By⟩ := cells2s Aa
     have q0 := fz (k := 0) Aa
     have q1 := fz (k := 1) Aa
     obtain ⟨E0, E1⟩ := set2_cells Aa (.int .u64 x1) (.int .u64 y1)
     go_wp2
     exact bodyPost_ret (v := .tuple #[.agg #[.int .u64 x1, .int .u64 y1], .int .u8 0, .int .i64 0]) (by simp [results, Tryz.results31, go_sem, E0, E1]) rfl ⟨rfl, set2_below B6 (by first | exact Nat.le_refl _ | omega | (skip; omega)) _ _⟩
   ·
    clear Hbb
    go_wp2_with fail
    refine (KI1.out _).mono ?_
    rintro r w4 ⟨rfl, b4⟩
    have B4 := btr B3 b4
    obtain ⟨Ag, Ah, Ai⟩ := rws3 b4 Ap Aq Au
    clear b4 B3 Ap Be Bf Aq Bg Bh Au
    obtain ⟨AQ, AR⟩ := cells2s Ag
    obtain ⟨AS, AT⟩ := cells2s Ah
    go_wp2_with fail
    refine (KI1.out _).mono ?_
    rintro r w5 ⟨rfl, b5⟩
    have B5 := btr B4 b5
    obtain ⟨Ab, Ac, Ad⟩ := rws3 b5 Ag Ah Ai
    clear b5 B4 Ag AQ AR Ah AS AT Ai
    obtain ⟨Aw, Ax⟩ := cells2s Ab
    obtain ⟨Ay, Az⟩ := cells2s Ac
    rcases Hbbb.out with ⟨KI2, rfl, rfl, rfl⟩ | ⟨KI2, Hbbbb⟩
    ·
     clear Hbbb
     go_wp2_with fail
     refine (KI2.out _).mono ?_
     rintro r w6 ⟨rfl, b6⟩
     have B6 := btr B5 b6
     obtain ⟨Ae, Af, Aa⟩ := rws3 b6 Ab Ac Ad
     clear b6 B5 Ab Aw Ax Ac Ay Az Ad
     obtain ⟨AG, AH⟩ := cells2s Ae
     obtain ⟨AI, AJ⟩ := cells2s Af
     obtain ⟨Bx, By⟩ := cells2s Aa
     have q0 := fz (k := 0) Aa
     have q1 := fz (k := 1) Aa
     obtain ⟨E0, E1⟩ := set2_cells Aa (.int .u64 x2) (.int .u64 y2)
     go_wp2
     exact bodyPost_ret (v := .tuple #[.agg #[.int .u64 x2, .int .u64 y2], .int .u8 0, .int .i64 0]) (by simp [results, Tryz.results31, go_sem, E0, E1]) rfl ⟨rfl, set2_below B6 (by first | exact Nat.le_refl _ | omega | (skip; omega)) _ _⟩
    ·
     clear Hbbb
     go_wp2_with fail
     refine (KI2.out _).mono ?_
     rintro r w6 ⟨rfl, b6⟩
     have B6 := btr B5 b6
     obtain ⟨Ae, Af, Aa⟩ := rws3 b6 Ab Ac Ad
     clear b6 B5 Ab Aw Ax Ac Ay Az Ad
     obtain ⟨AG, AH⟩ := cells2s Ae
     obtain ⟨AI, AJ⟩ := cells2s Af
     rcases Hbbbb.out with ⟨KZ1, KZ2, rfl, rfl, rfl, rfl, rfl⟩ | ⟨KZ1, KZ2, hne, KR, rfl⟩ | ⟨KZ1, KZ2, KV1, KV2, KM, Hbbbbc⟩ | ⟨KZ1, KV1, KV2, KM, Hbbbbd⟩
     ·
      clear Hbbbb
      go_wp2_with fail
      refine (KZ1.out _).mono ?_
      rintro r w7 ⟨rfl, b7⟩
      have B7 := btr B6 b7
      obtain ⟨An, Ao, Av⟩ := rws3 b7 Ae Af Aa
      clear b7 B6 Ae AG AH Af AI AJ Aa
      obtain ⟨A6, A7⟩ := cells2s An
      obtain ⟨A8, A9⟩ := cells2s Ao
      go_wp2_with fail
      refine (KZ2.out _).mono ?_
      rintro r w8 ⟨rfl, b8⟩
      have B8 := btr B7 b8
      obtain ⟨Aj, Ak, Al⟩ := rws3 b8 An Ao Av
      clear b8 B7 An A6 A7 Ao A8 A9 Av
      obtain ⟨Ba, Bb⟩ := cells2s Aj
      obtain ⟨Bc, Bd⟩ := cells2s Ak
      obtain ⟨D7, D8⟩ := cells2s Al
      have q0 := fz (k := 0) Al
      have q1 := fz (k := 1) Al
      obtain ⟨E0, E1⟩ := set2_cells Al (.int .u64 x1) (.int .u64 y1)
      go_wp2
      exact bodyPost_ret (v := .tuple #[.agg #[.int .u64 x1, .int .u64 y1], .int .u8 0, .int .i64 0]) (by simp [results, Tryz.results31, go_sem, E0, E1]) rfl ⟨rfl, set2_below B8 (by first | exact Nat.le_refl _ | omega | (skip; omega)) _ _⟩
     ·
      clear Hbbbb
      go_wp2_with fail
      refine (KZ1.out _).mono ?_
      rintro r w7 ⟨rfl, b7⟩
      have B7 := btr B6 b7
      obtain ⟨An, Ao, Av⟩ := rws3 b7 Ae Af Aa
      clear b7 B6 Ae AG AH Af AI AJ Aa
      obtain ⟨A6, A7⟩ := cells2s An
      obtain ⟨A8, A9⟩ := cells2s Ao
      go_wp2_with fail
      refine (KZ2.out _).mono ?_
      rintro r w8 ⟨rfl, b8⟩
      have B8 := btr B7 b8
      obtain ⟨Aj, Ak, Al⟩ := rws3 b8 An Ao Av
      clear b8 B7 An A6 A7 Ao A8 A9 Av
      obtain ⟨Ba, Bb⟩ := cells2s Aj
      obtain ⟨Bc, Bd⟩ := cells2s Ak
      by_cases hx : x1 = x2
      ·
       subst hx
       have hy : (((y1 : Nat) : Int) = ((y2 : Nat) : Int)) = False := eq_false (by omega)
       clear hne
       go_wp2_with fail
       refine (KR.out _).mono ?_
       rintro r w9 ⟨rfl, b9⟩
       have B9 := btr B8 b9
       obtain ⟨As, At, Am⟩ := rws3 b9 Aj Ak Al
       clear b9 B8 Aj Ba Bb Ak Bc Bd Al
       obtain ⟨Bn, Bo⟩ := cells2s As
       obtain ⟨Bp, Bq⟩ := cells2s At
       obtain ⟨Dv, Dw⟩ := cells2s Am
       have q0 := fz (k := 0) Am
       have q1 := fz (k := 1) Am
       obtain ⟨E0, E1⟩ := set2_cells Am (.int .u64 u) (.int .u64 v)
       go_wp2
       exact bodyPost_ret (v := .tuple #[.agg #[.int .u64 u, .int .u64 v], .int .u8 0, .int .i64 0]) (by simp [results, Tryz.results31, go_sem, E0, E1]) rfl ⟨rfl, set2_below B9 (by first | exact Nat.le_refl _ | omega | (skip; omega)) _ _⟩
      ·
       have hy : (((x1 : Nat) : Int) = ((x2 : Nat) : Int)) = False := eq_false (by omega)
       clear hx
       clear hne
       go_wp2_with fail
       refine (KR.out _).mono ?_
       rintro r w9 ⟨rfl, b9⟩
       have B9 := btr B8 b9
       obtain ⟨As, At, Am⟩ := rws3 b9 Aj Ak Al
       clear b9 B8 Aj Ba Bb Ak Bc Bd Al
       obtain ⟨Bn, Bo⟩ := cells2s As
       obtain ⟨Bp, Bq⟩ := cells2s At
       obtain ⟨Dv, Dw⟩ := cells2s Am
       have q0 := fz (k := 0) Am
       have q1 := fz (k := 1) Am
       obtain ⟨E0, E1⟩ := set2_cells Am (.int .u64 u) (.int .u64 v)
       go_wp2
       exact bodyPost_ret (v := .tuple #[.agg #[.int .u64 u, .int .u64 v], .int .u8 0, .int .i64 0]) (by simp [results, Tryz.results31, go_sem, E0, E1]) rfl ⟨rfl, set2_below B9 (by first | exact Nat.le_refl _ | omega | (skip; omega)) _ _⟩
     ·
      clear Hbbbb
      go_wp2_with fail
      refine (KZ1.out _).mono ?_
      rintro r w7 ⟨rfl, b7⟩
      have B7 := btr B6 b7
      obtain ⟨An, Ao, Av⟩ := rws3 b7 Ae Af Aa
      clear b7 B6 Ae AG AH Af AI AJ Aa
      obtain ⟨A6, A7⟩ := cells2s An
      obtain ⟨A8, A9⟩ := cells2s Ao
      go_wp2_with fail
      refine (KZ2.out _).mono ?_
      rintro r w8 ⟨rfl, b8⟩
      have B8 := btr B7 b8
      obtain ⟨Aj, Ak, Al⟩ := rws3 b8 An Ao Av
      clear b8 B7 An A6 A7 Ao A8 A9 Av
      obtain ⟨Ba, Bb⟩ := cells2s Aj
      obtain ⟨Bc, Bd⟩ := cells2s Ak
      go_wp2_with fail
      refine (KV1.out _).mono ?_
      rintro r w9 ⟨rfl, b9⟩
      have B9 := btr B8 b9
      obtain ⟨As, At, Am⟩ := rws3 b9 Aj Ak Al
      clear b9 B8 Aj Ba Bb Ak Bc Bd Al
      obtain ⟨Bn, Bo⟩ := cells2s As
      obtain ⟨Bp, Bq⟩ := cells2s At
      have S10 := box B9.size
      have CR := ltR As
      have CS := ltR At
      have CT := ltR Am
      have AU := heap_alloc_last w9 (Obj.cells #[.bool b1, .string n1, .string d1, .int .i64 e1] 41)
      have B10 := btr B9 (bal w9 (Obj.cells #[.bool b1, .string n1, .string d1, .int .i64 e1] 41))
      obtain ⟨AV, AW, Bi⟩ := rws3 (bal w9 (Obj.cells #[.bool b1, .string n1, .string d1, .int .i64 e1] 41)) As At Am
      clear B9 As Bn Bo At Bp Bq Am
      obtain ⟨Cd, Ce⟩ := cells2s AV
      obtain ⟨Cf, Cg⟩ := cells2s AW
      obtain ⟨Ch, Ci, Cj, Ck⟩ := cells4s AU
      go_wp2_with fail
      refine (KV2.out _).mono ?_
      rintro r w11 ⟨rfl, b11⟩
      have B11 := btr B10 b11
      obtain ⟨AX, AY, Bj, AZ⟩ := rws4 b11 AV AW Bi AU
      clear b11 B10 AV Cd Ce AW Cf Cg Bi AU Ch Ci Cj Ck
      obtain ⟨Cl, Cm⟩ := cells2s AX
      obtain ⟨Cn, Co⟩ := cells2s AY
      obtain ⟨Cp, Cq, Cr, Cs⟩ := cells4s AZ
      have S12 := box B11.size
      have CU := ltR AX
      have CV := ltR AY
      have CW := ltR Bj
      have CX := ltR AZ
      have A0 := heap_alloc_last w11 (Obj.cells #[.bool b2, .string n2, .string d2, .int .i64 e2] 41)
      have B12 := btr B11 (bal w11 (Obj.cells #[.bool b2, .string n2, .string d2, .int .i64 e2] 41))
      obtain ⟨A1, A2, Bk, A3⟩ := rws4 (bal w11 (Obj.cells #[.bool b2, .string n2, .string d2, .int .i64 e2] 41)) AX AY Bj AZ
      clear B11 AX Cl Cm AY Cn Co Bj AZ Cp Cq Cr Cs
      obtain ⟨Ct, Cu⟩ := cells2s A1
      obtain ⟨Cv, Cw⟩ := cells2s A2
      obtain ⟨Cx, Cy, Cz, CA⟩ := cells4s A3
      obtain ⟨CB, CC, CD, CE⟩ := cells4s A0
      go_wp2_with fail
      refine (KM.out _).mono ?_
      rintro r w13 ⟨rfl, b13⟩
      have B13 := btr B12 b13
      obtain ⟨AA, AB, A4, AC, AD⟩ := rws5 b13 A1 A2 Bk A3 A0
      clear b13 B12 A1 Ct Cu A2 Cv Cw Bk A3 Cx Cy Cz CA A0 CB CC CD CE
      obtain ⟨Bz, BA⟩ := cells2s AA
      obtain ⟨BB, BC⟩ := cells2s AB
      obtain ⟨BD, BE, BF, BG⟩ := cells4s AC
      obtain ⟨BH, BI, BJ, BK⟩ := cells4s AD
      have S14 := box B13.size
      have CY := ltR AA
      have CZ := ltR AB
      have C0 := ltR A4
      have C1 := ltR AC
      have C2 := ltR AD
      have AK := heap_alloc_last w13 (Obj.cells #[.bool b3, .string n3, .string d3, .int .i64 e3] 41)
      have B14 := btr B13 (bal w13 (Obj.cells #[.bool b3, .string n3, .string d3, .int .i64 e3] 41))
      obtain ⟨AL, AM, Ar, AN, AO⟩ := rws5 (bal w13 (Obj.cells #[.bool b3, .string n3, .string d3, .int .i64 e3] 41)) AA AB A4 AC AD
      clear B13 AA Bz BA AB BB BC A4 AC BD BE BF BG AD BH BI BJ BK
      obtain ⟨BL, BM⟩ := cells2s AL
      obtain ⟨BN, BO⟩ := cells2s AM
      obtain ⟨BP, BQ, BR, BS⟩ := cells4s AN
      obtain ⟨BT, BU, BV, BW⟩ := cells4s AO
      obtain ⟨BX, BY, BZ, Ca⟩ := cells4s AK
      rcases Hbbbbc.out with ⟨he, KR⟩ | ⟨he, KR, rfl⟩
      ·
       clear Hbbbbc
       go_wp2_with fail
       refine (KR.out _).mono ?_
       rintro r w15 ⟨rfl, b15⟩
       have B15 := btr B14 b15
       obtain ⟨CF, CG, AP, CH, CI, CJ⟩ := rws6 b15 AL AM Ar AN AO AK
       clear b15 B14 AL BL BM AM BN BO Ar AN BP BQ BR BS AO BT BU BV BW AK BX BY BZ Ca
       obtain ⟨Dx, Dy⟩ := cells2s CF
       obtain ⟨Dz, DA⟩ := cells2s CG
       obtain ⟨DB, DC, DD, DE⟩ := cells4s CH
       obtain ⟨DF, DG, DH, DI⟩ := cells4s CI
       obtain ⟨DJ, DK, DL, DM⟩ := cells4s CJ
       obtain ⟨DN, DO⟩ := cells2s AP
       have q0 := fz (k := 0) AP
       have q1 := fz (k := 1) AP
       obtain ⟨E0, E1⟩ := set2_cells AP (.int .u64 u) (.int .u64 v)
       go_wp2
       exact bodyPost_ret (v := .tuple #[.agg #[.int .u64 u, .int .u64 v], .int .u8 fl, .int .i64 0]) (by simp [results, Tryz.results31, go_sem, E0, E1]) rfl ⟨rfl, set2_below B15 (by first | exact Nat.le_refl _ | omega | (have := S10.out; have := CR.out; have := CS.out; have := CT.out; have := S12.out; have := CU.out; have := CV.out; have := CW.out; have := CX.out; have := S14.out; have := CY.out; have := CZ.out; have := C0.out; have := C1.out; have := C2.out; omega)) _ _⟩
      ·
       clear Hbbbbc
       go_wp2_with fail
       refine (KR.out _).mono ?_
       rintro r w15 ⟨rfl, b15⟩
       have B15 := btr B14 b15
       obtain ⟨CF, CG, AP, CH, CI, CJ⟩ := rws6 b15 AL AM Ar AN AO AK
       clear b15 B14 AL BL BM AM BN BO Ar AN BP BQ BR BS AO BT BU BV BW AK BX BY BZ Ca
       obtain ⟨Dx, Dy⟩ := cells2s CF
       obtain ⟨Dz, DA⟩ := cells2s CG
       obtain ⟨DB, DC, DD, DE⟩ := cells4s CH
       obtain ⟨DF, DG, DH, DI⟩ := cells4s CI
       obtain ⟨DJ, DK, DL, DM⟩ := cells4s CJ
       obtain ⟨DN, DO⟩ := cells2s AP
       have q0 := fz (k := 0) AP
       have q1 := fz (k := 1) AP
       obtain ⟨E0, E1⟩ := set2_cells AP (.int .u64 u) (.int .u64 v)
       go_wp2
       exact bodyPost_ret (v := .tuple #[.agg #[.int .u64 u, .int .u64 v], .int .u8 0, .int .i64 0]) (by simp [results, Tryz.results31, go_sem, E0, E1]) rfl ⟨rfl, set2_below B15 (by first | exact Nat.le_refl _ | omega | (have := S10.out; have := CR.out; have := CS.out; have := CT.out; have := S12.out; have := CU.out; have := CV.out; have := CW.out; have := CX.out; have := S14.out; have := CY.out; have := CZ.out; have := C0.out; have := C1.out; have := C2.out; omega)) _ _⟩
     ·
      clear Hbbbb
      go_wp2_with fail
      refine (KZ1.out _).mono ?_
      rintro r w7 ⟨rfl, b7⟩
      have B7 := btr B6 b7
      obtain ⟨An, Ao, Av⟩ := rws3 b7 Ae Af Aa
      clear b7 B6 Ae AG AH Af AI AJ Aa
      obtain ⟨A6, A7⟩ := cells2s An
      obtain ⟨A8, A9⟩ := cells2s Ao
      go_wp2_with fail
      refine (KV1.out _).mono ?_
      rintro r w8 ⟨rfl, b8⟩
      have B8 := btr B7 b8
      obtain ⟨Aj, Ak, Al⟩ := rws3 b8 An Ao Av
      clear b8 B7 An A6 A7 Ao A8 A9 Av
      obtain ⟨Ba, Bb⟩ := cells2s Aj
      obtain ⟨Bc, Bd⟩ := cells2s Ak
      have S9 := box B8.size
      have C3 := ltR Aj
      have C4 := ltR Ak
      have C5 := ltR Al
      have CK := heap_alloc_last w8 (Obj.cells #[.bool b1, .string n1, .string d1, .int .i64 e1] 41)
      have B9 := btr B8 (bal w8 (Obj.cells #[.bool b1, .string n1, .string d1, .int .i64 e1] 41))
      obtain ⟨As, At, Am⟩ := rws3 (bal w8 (Obj.cells #[.bool b1, .string n1, .string d1, .int .i64 e1] 41)) Aj Ak Al
      clear B8 Aj Ba Bb Ak Bc Bd Al
      obtain ⟨Bn, Bo⟩ := cells2s As
      obtain ⟨Bp, Bq⟩ := cells2s At
      obtain ⟨DP, DQ, DR, DS⟩ := cells4s CK
      go_wp2_with fail
      refine (KV2.out _).mono ?_
      rintro r w10 ⟨rfl, b10⟩
      have B10 := btr B9 b10
      obtain ⟨AV, AW, Bi, AU⟩ := rws4 b10 As At Am CK
      clear b10 B9 As Bn Bo At Bp Bq Am CK DP DQ DR DS
      obtain ⟨Cd, Ce⟩ := cells2s AV
      obtain ⟨Cf, Cg⟩ := cells2s AW
      obtain ⟨Ch, Ci, Cj, Ck⟩ := cells4s AU
      have S11 := box B10.size
      have C6 := ltR AV
      have C7 := ltR AW
      have C8 := ltR Bi
      have C9 := ltR AU
      have CL := heap_alloc_last w10 (Obj.cells #[.bool b2, .string n2, .string d2, .int .i64 e2] 41)
      have B11 := btr B10 (bal w10 (Obj.cells #[.bool b2, .string n2, .string d2, .int .i64 e2] 41))
      obtain ⟨AX, AY, Bj, AZ⟩ := rws4 (bal w10 (Obj.cells #[.bool b2, .string n2, .string d2, .int .i64 e2] 41)) AV AW Bi AU
      clear B10 AV Cd Ce AW Cf Cg Bi AU Ch Ci Cj Ck
      obtain ⟨Cl, Cm⟩ := cells2s AX
      obtain ⟨Cn, Co⟩ := cells2s AY
      obtain ⟨Cp, Cq, Cr, Cs⟩ := cells4s AZ
      obtain ⟨DT, DU, DV, DW⟩ := cells4s CL
      go_wp2_with fail
      refine (KM.out _).mono ?_
      rintro r w12 ⟨rfl, b12⟩
      have B12 := btr B11 b12
      obtain ⟨A1, A2, Bk, A3, A0⟩ := rws5 b12 AX AY Bj AZ CL
      clear b12 B11 AX Cl Cm AY Cn Co Bj AZ Cp Cq Cr Cs CL DT DU DV DW
      obtain ⟨Ct, Cu⟩ := cells2s A1
      obtain ⟨Cv, Cw⟩ := cells2s A2
      obtain ⟨Cx, Cy, Cz, CA⟩ := cells4s A3
      obtain ⟨CB, CC, CD, CE⟩ := cells4s A0
      have S13 := box B12.size
      have Da := ltR A1
      have Db := ltR A2
      have Dc := ltR Bk
      have Dd := ltR A3
      have De := ltR A0
      have Br := heap_alloc_last w12 (Obj.cells #[.bool b3, .string n3, .string d3, .int .i64 e3] 41)
      have B13 := btr B12 (bal w12 (Obj.cells #[.bool b3, .string n3, .string d3, .int .i64 e3] 41))
      obtain ⟨AA, AB, A4, AC, AD⟩ := rws5 (bal w12 (Obj.cells #[.bool b3, .string n3, .string d3, .int .i64 e3] 41)) A1 A2 Bk A3 A0
      clear B12 A1 Ct Cu A2 Cv Cw Bk A3 Cx Cy Cz CA A0 CB CC CD CE
      obtain ⟨Bz, BA⟩ := cells2s AA
      obtain ⟨BB, BC⟩ := cells2s AB
      obtain ⟨BD, BE, BF, BG⟩ := cells4s AC
      obtain ⟨BH, BI, BJ, BK⟩ := cells4s AD
      obtain ⟨Df, Dg, Dh, Di⟩ := cells4s Br
      rcases Hbbbbd.out with ⟨he, KR⟩ | ⟨he, KR, rfl⟩
      ·
       clear Hbbbbd
       go_wp2_with fail
       refine (KR.out _).mono ?_
       rintro r w14 ⟨rfl, b14⟩
       have B14 := btr B13 b14
       obtain ⟨AL, AM, Ar, AN, AO, AK⟩ := rws6 b14 AA AB A4 AC AD Br
       clear b14 B13 AA Bz BA AB BB BC A4 AC BD BE BF BG AD BH BI BJ BK Br Df Dg Dh Di
       obtain ⟨BL, BM⟩ := cells2s AL
       obtain ⟨BN, BO⟩ := cells2s AM
       obtain ⟨BP, BQ, BR, BS⟩ := cells4s AN
       obtain ⟨BT, BU, BV, BW⟩ := cells4s AO
       obtain ⟨BX, BY, BZ, Ca⟩ := cells4s AK
       obtain ⟨DX, DY⟩ := cells2s Ar
       have q0 := fz (k := 0) Ar
       have q1 := fz (k := 1) Ar
       obtain ⟨E0, E1⟩ := set2_cells Ar (.int .u64 u) (.int .u64 v)
       go_wp2
       exact bodyPost_ret (v := .tuple #[.agg #[.int .u64 u, .int .u64 v], .int .u8 fl, .int .i64 0]) (by simp [results, Tryz.results31, go_sem, E0, E1]) rfl ⟨rfl, set2_below B14 (by first | exact Nat.le_refl _ | omega | (have := S9.out; have := C3.out; have := C4.out; have := C5.out; have := S11.out; have := C6.out; have := C7.out; have := C8.out; have := C9.out; have := S13.out; have := Da.out; have := Db.out; have := Dc.out; have := Dd.out; have := De.out; omega)) _ _⟩
      ·
       clear Hbbbbd
       go_wp2_with fail
       refine (KR.out _).mono ?_
       rintro r w14 ⟨rfl, b14⟩
       have B14 := btr B13 b14
       obtain ⟨AL, AM, Ar, AN, AO, AK⟩ := rws6 b14 AA AB A4 AC AD Br
       clear b14 B13 AA Bz BA AB BB BC A4 AC BD BE BF BG AD BH BI BJ BK Br Df Dg Dh Di
       obtain ⟨BL, BM⟩ := cells2s AL
       obtain ⟨BN, BO⟩ := cells2s AM
       obtain ⟨BP, BQ, BR, BS⟩ := cells4s AN
       obtain ⟨BT, BU, BV, BW⟩ := cells4s AO
       obtain ⟨BX, BY, BZ, Ca⟩ := cells4s AK
       obtain ⟨DX, DY⟩ := cells2s Ar
       have q0 := fz (k := 0) Ar
       have q1 := fz (k := 1) Ar
       obtain ⟨E0, E1⟩ := set2_cells Ar (.int .u64 u) (.int .u64 v)
       go_wp2
       exact bodyPost_ret (v := .tuple #[.agg #[.int .u64 u, .int .u64 v], .int .u8 0, .int .i64 0]) (by simp [results, Tryz.results31, go_sem, E0, E1]) rfl ⟨rfl, set2_below B14 (by first | exact Nat.le_refl _ | omega | (have := S9.out; have := C3.out; have := C4.out; have := C5.out; have := S11.out; have := C6.out; have := C7.out; have := C8.out; have := C9.out; have := S13.out; have := Da.out; have := Db.out; have := Dc.out; have := Dd.out; have := De.out; omega)) _ _⟩
theorem rsu_no (f m : Int) (x1 y1 x2 y2 u v p q : Nat) (fl c : Int) (w : World)
  (KF : Box (∀ (T : TypeId) (g : Nat) (w : World), w.heap.size = g → Calls Tryz.prog 77 #[.int .u8 f, .int .u8 m, .slice (some ⟨g, 0, none⟩) 2 2] (w.alloc (.cells #[.int .u64 x1, .int .u64 y1, .int .u64 x2, .int .u64 y2] T)) fun r w' => r = .returned (.bool false) ∧ Below w.heap.size w w'))
  : Calls Tryz.prog 33 #[.int .u8 f, .int .u8 m, .agg #[.int .u64 x1, .int .u64 y1], .agg #[.int .u64 x2, .int .u64 y2]] w fun r w' => r = .returned (.tuple #[.agg #[.int .u64 0, .int .u64 0], .int .u8 0, .int .i64 2]) ∧ Below w.heap.size w w' := by
 obtain ⟨Ab, Ac, Ad, B0⟩ := opn3 w (Obj.cells #[.int .u64 x1, .int .u64 y1] 25) (Obj.cells #[.int .u64 x2, .int .u64 y2] 25) (Obj.cells #[.int .u64 0, .int .u64 0] 25)
 go_enter Tryz.func33, Tryz.ntmps33
 obtain ⟨Ae, Af⟩ := cells2s Ab
 obtain ⟨Ag, Ah⟩ := cells2s Ac
 go_wp2_with fail
 refine (KF.out _ _ (((w.alloc (Obj.cells #[.int .u64 x1, .int .u64 y1] 25)).alloc (Obj.cells #[.int .u64 x2, .int .u64 y2] 25)).alloc (Obj.cells #[.int .u64 0, .int .u64 0] 25)) (by first | rfl | simp only [size_al])).mono ?_
 rintro r w1 ⟨rfl, b1⟩
 have B1 := btr B0 b1
 obtain ⟨Ai, Aj, Aa⟩ := rws3 b1 Ab Ac Ad
 clear b1 B0 Ab Ae Af Ac Ag Ah Ad
 obtain ⟨Ak, Al⟩ := cells2s Ai
 obtain ⟨Am, An⟩ := cells2s Aj
 obtain ⟨Ao, Ap⟩ := cells2s Aa
 have q0 := fz (k := 0) Aa
 have q1 := fz (k := 1) Aa
 obtain ⟨E0, E1⟩ := set2_cells Aa (.int .u64 0) (.int .u64 0)
 go_wp2
 exact bodyPost_ret (v := .tuple #[.agg #[.int .u64 0, .int .u64 0], .int .u8 0, .int .i64 2]) (by simp [results, Tryz.results33, go_sem, E0, E1]) rfl ⟨rfl, set2_below B1 (by first | exact Nat.le_refl _ | omega | (skip; omega)) _ _⟩
theorem rsu_yes (f m : Int) (x1 y1 x2 y2 u v p q : Nat) (fl c : Int) (w : World)
  (KF : Box (∀ (T : TypeId) (g : Nat) (w : World), w.heap.size = g → Calls Tryz.prog 77 #[.int .u8 f, .int .u8 m, .slice (some ⟨g, 0, none⟩) 2 2] (w.alloc (.cells #[.int .u64 x1, .int .u64 y1, .int .u64 x2, .int .u64 y2] T)) fun r w' => r = .returned (.bool true) ∧ Below w.heap.size w w'))
  (KL : Box (∀ w, Calls Tryz.prog 87 #[.int .u8 f, .agg #[.int .u64 x2, .int .u64 y2]] w fun r w' => r = .returned (.agg #[.int .u64 p, .int .u64 q]) ∧ Below w.heap.size w w'))
  (KT : Box (∀ w, Calls Tryz.prog 31 #[.int .u8 f, .int .u8 m, .agg #[.int .u64 x1, .int .u64 y1], .agg #[.int .u64 p, .int .u64 q]] w fun r w' => r = .returned (.tuple #[.agg #[.int .u64 u, .int .u64 v], .int .u8 fl, .int .i64 c]) ∧ Below w.heap.size w w'))
  : Calls Tryz.prog 33 #[.int .u8 f, .int .u8 m, .agg #[.int .u64 x1, .int .u64 y1], .agg #[.int .u64 x2, .int .u64 y2]] w fun r w' => r = .returned (.tuple #[.agg #[.int .u64 u, .int .u64 v], .int .u8 fl, .int .i64 c]) ∧ Below w.heap.size w w' := by
 obtain ⟨Aa, Ab, Ac, B0⟩ := opn3 w (Obj.cells #[.int .u64 x1, .int .u64 y1] 25) (Obj.cells #[.int .u64 x2, .int .u64 y2] 25) (Obj.cells #[.int .u64 0, .int .u64 0] 25)
 go_enter Tryz.func33, Tryz.ntmps33
 obtain ⟨Aj, Ak⟩ := cells2s Aa
 obtain ⟨Al, Am⟩ := cells2s Ab
 go_wp2_with fail
 refine (KF.out _ _ (((w.alloc (Obj.cells #[.int .u64 x1, .int .u64 y1] 25)).alloc (Obj.cells #[.int .u64 x2, .int .u64 y2] 25)).alloc (Obj.cells #[.int .u64 0, .int .u64 0] 25)) (by first | rfl | simp only [size_al])).mono ?_
 rintro r w1 ⟨rfl, b1⟩
 have B1 := btr B0 b1
 obtain ⟨Ad, Ae, An⟩ := rws3 b1 Aa Ab Ac
 clear b1 B0 Aa Aj Ak Ab Al Am Ac
 obtain ⟨Ao, Ap⟩ := cells2s Ad
 obtain ⟨Aq, Ar⟩ := cells2s Ae
 have sS : Box (∀ W W1 : World, (Below w.heap.size w W ∧ W.heap[w.heap.size]? = some (.cells #[.int .u64 x1, .int .u64 y1] 25) ∧ W.heap[w.heap.size + 1]? = some (.cells #[.int .u64 x2, .int .u64 y2] 25)) → Below W.heap.size W W1 → (Below w.heap.size w W1 ∧ W1.heap[w.heap.size]? = some (.cells #[.int .u64 x1, .int .u64 y1] 25) ∧ W1.heap[w.heap.size + 1]? = some (.cells #[.int .u64 x2, .int .u64 y2] 25))) := box (fun W W1 h b => ⟨btr h.1 b, heap_of b _ _ _ h.2.1, heap_of b _ _ _ h.2.2⟩)
 have sT : Box (∀ (W : World) (xA xB : Value), (Below w.heap.size w W ∧ W.heap[w.heap.size]? = some (.cells #[.int .u64 x1, .int .u64 y1] 25) ∧ W.heap[w.heap.size + 1]? = some (.cells #[.int .u64 x2, .int .u64 y2] 25)) → (Below w.heap.size w ((W.setCell ⟨w.heap.size + 1 + 1, 0, none⟩ xA).setCell ⟨w.heap.size + 1 + 1, 1, none⟩ xB) ∧ ((W.setCell ⟨w.heap.size + 1 + 1, 0, none⟩ xA).setCell ⟨w.heap.size + 1 + 1, 1, none⟩ xB).heap[w.heap.size]? = some (.cells #[.int .u64 x1, .int .u64 y1] 25) ∧ ((W.setCell ⟨w.heap.size + 1 + 1, 0, none⟩ xA).setCell ⟨w.heap.size + 1 + 1, 1, none⟩ xB).heap[w.heap.size + 1]? = some (.cells #[.int .u64 x2, .int .u64 y2] 25))) := box (fun W xA xB h => ⟨set2_below h.1 (by first | exact Nat.le_refl _ | omega | (skip; omega)) xA xB, ((setCell_other (by first | omega | (skip; omega))).trans ((setCell_other (by first | omega | (skip; omega))).trans h.2.1)), ((setCell_other (by first | omega | (skip; omega))).trans ((setCell_other (by first | omega | (skip; omega))).trans h.2.2))⟩)
 have sC : Box (∀ W : World, (Below w.heap.size w W ∧ W.heap[w.heap.size]? = some (.cells #[.int .u64 x1, .int .u64 y1] 25) ∧ W.heap[w.heap.size + 1]? = some (.cells #[.int .u64 x2, .int .u64 y2] 25)) → (Below w.heap.size w W ∧ W.heap[w.heap.size]? = some (.cells #[.int .u64 x1, .int .u64 y1] 25) ∧ W.heap[w.heap.size + 1]? = some (.cells #[.int .u64 x2, .int .u64 y2] 25) ∧ W.cell? ⟨w.heap.size, 0, none⟩ = some (.int .u64 x1) ∧ W.cell? ⟨w.heap.size, 1, none⟩ = some (.int .u64 y1) ∧ W.cell? ⟨w.heap.size + 1, 0, none⟩ = some (.int .u64 x2) ∧ W.cell? ⟨w.heap.size + 1, 1, none⟩ = some (.int .u64 y2))) := box (fun W h => ⟨h.1, h.2.1, h.2.2, cell7 (h.2.1) 0 _ rfl, cell7 (h.2.1) 1 _ rfl, cell7 (h.2.2) 0 _ rfl, cell7 (h.2.2) 1 _ rfl⟩)
 have s0 : Below w.heap.size w (w1).drew ∧ (w1).drew.heap[w.heap.size]? = some (.cells #[.int .u64 x1, .int .u64 y1] 25) ∧ (w1).drew.heap[w.heap.size + 1]? = some (.cells #[.int .u64 x2, .int .u64 y2] 25) := ⟨B1.drew, Ad, Ae⟩
 have rz : (w1).drew.heap[w.heap.size + 1 + 1]? = some (.cells #[.int .u64 0, .int .u64 0] 25) := An
 have Af := fz (k := 0) rz
 have Ag := fz (k := 1) rz
 have Ah := cell7 rz 0 _ rfl
 have Ai := cell7 rz 1 _ rfl
 go_wp2_with fail
 go_region_held3 (fun W => Below w.heap.size w W ∧ W.heap[w.heap.size]? = some (.cells #[.int .u64 x1, .int .u64 y1] 25) ∧ W.heap[w.heap.size + 1]? = some (.cells #[.int .u64 x2, .int .u64 y2] 25) ∧ W.cell? ⟨w.heap.size, 0, none⟩ = some (.int .u64 x1) ∧ W.cell? ⟨w.heap.size, 1, none⟩ = some (.int .u64 y1) ∧ W.cell? ⟨w.heap.size + 1, 0, none⟩ = some (.int .u64 x2) ∧ W.cell? ⟨w.heap.size + 1, 1, none⟩ = some (.int .u64 y2)) (first | exact sC.out _ s1 | exact sC.out _ s0 | exact sC.out _ (sT.out _ _ _ s1) | exact sC.out _ (sT.out _ _ _ s0))
  (first | (go_at_call 87; (first | refine (KL.out _).mono ?_ | refine (KL.out _).mono ?_); rintro r wq ⟨rfl, bq⟩; have s1 := (by first | exact sS.out _ _ s1 bq | exact sS.out _ _ s0 bq); have rz := heap_of bq _ _ _ rz; have Af := fz (k := 0) rz; have Ah := cell7 rz 0 _ rfl; have Ag := fz (k := 1) rz; have Ai := cell7 rz 1 _ rfl; clear bq) | (go_at_call 31; (first | refine (KT.out _).mono ?_ | refine (KT.out _).mono ?_); rintro r wq ⟨rfl, bq⟩; have s1 := (by first | exact sS.out _ _ s1 bq | exact sS.out _ _ s0 bq); have rz := heap_of bq _ _ _ rz; have Af := fz (k := 0) rz; have Ah := cell7 rz 0 _ rfl; have Ag := fz (k := 1) rz; have Ai := cell7 rz 1 _ rfl; clear bq) | fail)
 obtain ⟨E0, E1⟩ := set2_cells rz (.int .u64 u) (.int .u64 v)
 have BZ := (by first | exact And.left s1 | exact And.left s0 : Below w.heap.size w _)
 go_wp2
 exact bodyPost_ret (v := .tuple #[.agg #[.int .u64 u, .int .u64 v], .int .u8 fl, .int .i64 c]) (by simp [results, Tryz.results33, go_sem, E0, E1]) rfl ⟨rfl, set2_below BZ (by first | exact Nat.le_refl _ | omega | (skip; omega)) _ _⟩
end Go.Proofs.YtoaaajeblhaeoaaGreatDoor
namespace Go.Proofs.YtoaaajeblhaeoaaGreatDoor
set_option maxRecDepth 100000
set_option maxHeartbeats 40000000
set_option maxRecDepth 100000
open Go.RowKit WMath XMath
set_option linter.unusedSimpArgs false
set_option linter.unusedVariables false
theorem vX_whole {f : Int} (hf : Is4 f) (n : Nat) (h : 0 < kC f n ∧ kC f n < 7) (h2 : ¬ (kC f n = 3 ∨ kC f n = 4)) : kS f n ≠ 0 ∧ kS f n < 2 ^ 128 ∧ vX f n = ⟨kN f n, od (kS f n), 1, kX f n + (tz (kS f n) : Int)⟩ ∧ (vX f n).can := by
 obtain ⟨l1, l2, l3⟩ := kS_lim hf n
 obtain ⟨a, b, d, e⟩ := k_parts (f := f) n (by omega)
 have l4 : kS f n < 2 ^ 128 := l1
 obtain ⟨w1, w2, w3, w4, w5, w6, w7⟩ := x_whole hf (kN f n) (kS f n) (kX f n) e (by have := (blen_iff (kS f n) 128).2 l4; omega) (by omega) (by omega)
 have := vX_mk hf n h
 rw [w1] at this
 injection this with h3 h4
 exact ⟨e, l4, h3.symm, by rw [← h3]; exact w2⟩
theorem ov_inf (f : Int) (neg : Bool) : ovB f 0 neg = eInf f neg := by
 unfold ovB
 rw [if_pos (by unfold gO; rw [if_pos rfl]; rfl)]
theorem nan_or {f : Int} (hf : Is4 f) : eInf f false ||| eInf f false / 2 = eNaN f ∧ eInf f false < 340282366920938463463374607431768211456 ∧ eNaN f < 340282366920938463463374607431768211456 := by
 rcases hf with rfl | rfl | rfl | rfl <;> decide +kernel
theorem kInf_is (f : Int) (hf : Is4 f) (neg : Bool) (u v : Nat) (hv : bv7 (eInf f neg) = (u, v)) (w : World) (hT : FAt w) : Calls Tryz.prog 172 #[.int .u8 f, .bool neg] w fun r w' => r = .returned (.agg #[.int .u64 u, .int .u64 v]) ∧ Below w.heap.size w w' :=
 op_inf f neg u v w (box (fun w hT => kover f 0 hf (by decide) neg u v (by rw [ov_inf]; exact hv) w hT)) hT
theorem kNaN_is (f : Int) (hf : Is4 f) (u v : Nat) (hv : bv7 (eNaN f) = (u, v)) (w : World) (hT : FAt w) : Calls Tryz.prog 157 #[.int .u8 f] w fun r w' => r = .returned (.agg #[.int .u64 u, .int .u64 v]) ∧ Below w.heap.size w w' := by
 obtain ⟨n1, n2, n3⟩ := nan_or hf
 obtain ⟨iu, iv, hi⟩ : ∃ iu iv, bv7 (eInf f false) = (iu, iv) := ⟨_, _, rfl⟩
 obtain ⟨i1, i2, i3⟩ := bv_lt n2 hi
 obtain ⟨w0, w1⟩ := wd01 n3
 have hQ := lt_Q7 n2
 have hQ2 := lt_Q7 n3
 have hQ3 : eInf f false / 2 < Q := Nat.lt_of_le_of_lt (Nat.div_le_self _ _) hQ
 unfold bv7 at hv
 injection hv with v1 v2
 have KT : Box (∀ w, Calls Tryz.prog 204 #[.agg (cw 6 (eNaN f))] w fun r w' => r = .returned (.tuple #[.agg #[.int .u64 u, .int .u64 v], .bool true]) ∧ Below w.heap.size w w') := box (fun w => by
  have := wtobits_yes (eNaN f) hQ2 (by rw [w0, w1]; exact Nat.mod_add_div _ _) w
  rw [w0, w1, v1, v2] at this
  exact this)
 exact op_nan f iu iv _ _ _ u v _ true w (box (fun w hT => kInf_is f hf false iu iv hi w hT)) (box (fun w => wofbits_is iu iv _ i1 i2 i3 w))
  (box (fun w => wright_is (eInf f false) (eInf f false / 2) 1 _ hQ rfl rfl w)) (box (fun w => wor_is _ _ _ hQ hQ3 n1 w)) KT hT
theorem ieq {c : Nat} {k : Int} (h : (c : Int) = k) : ((c : Int) == k) = true := by rw [h]; exact beq_self_eq_true k
theorem ine {c : Nat} {k : Int} (h : (c : Int) ≠ k) : ((c : Int) == k) = false := beq_eq_false_iff_ne.2 h
theorem three_up (N : Nat) : N * 2 ^ 3 = 8 * N := by omega
theorem sum_exact (P S N n : Nat) (S0 : S ≠ 0) (N0 : N ≠ 0) (h : S * 2 ^ n = 8 * N) : blen S + n = blen N + 3 ∧ qW P S = qW P N ∧ qM P S false = qM P N false := by
 have b1 := blen_shift S n S0
 have b2 := blen_shift N 3 N0
 have q1 := q_longer P S n S0
 have q2 := q_longer P N 3 N0
 rw [three_up] at b2 q2
 rw [h] at b1 q1
 exact ⟨by omega, by rw [← q1.1, q2.1], by rw [← q1.2, q2.2]⟩
theorem sum_lost (P s N n r : Nat) (N0 : N ≠ 0) (hs : P + 2 ≤ blen s) (r0 : r ≠ 0) (hr : r < 2 ^ n) (h : s * 2 ^ n + r = 8 * N) : blen (s / 2 * 2 + 1) + n = blen N + 3 ∧ qW P (s / 2 * 2 + 1) = qW P N ∧ qM P (s / 2 * 2 + 1) false = qM P N false := by
 have s0 : s ≠ 0 := by intro e; subst e; rw [blen_zero] at hs; omega
 obtain ⟨j1, j2, j3, j4⟩ := q_jam P s hs
 have b1 := blen_more s n r s0 hr
 have b2 := blen_shift N 3 N0
 have q1 := q_more P s n r s0 hr (fun _ => by omega)
 have q2 := q_longer P N 3 N0
 rw [three_up] at b2 q2
 rw [h] at b1 q1
 rw [decide_eq_true r0] at q1
 exact ⟨by omega, by rw [j2, ← q1.1, q2.1], by rw [j3, ← q2.2, q1.2, j4]⟩
theorem lost_four (Y n : Nat) (h : 8 * Y % 2 ^ n ≠ 0) : 4 ≤ n := by
 rcases Nat.lt_or_ge n 4 with c | c
 ·
  exfalso
  apply h
  have : n = 0 ∨ n = 1 ∨ n = 2 ∨ n = 3 := by omega
  rcases this with rfl | rfl | rfl | rfl <;> omega
 ·
  exact c
theorem sum_like (p X Y n : Nat) (X0 : X ≠ 0) (hl : 8 * Y % 2 ^ n ≠ 0 → 2 ^ p ≤ X) : blen (8 * X + jr (8 * Y) n) + n = blen (X * 2 ^ n + Y) + 3 ∧ qW (p + 1) (8 * X + jr (8 * Y) n) = qW (p + 1) (X * 2 ^ n + Y) ∧ qM (p + 1) (8 * X + jr (8 * Y) n) false = qM (p + 1) (X * 2 ^ n + Y) false := by
 have p0 := Nat.two_pow_pos n
 have dm := Nat.div_add_mod (8 * Y) (2 ^ n)
 have lt := Nat.mod_lt (8 * Y) p0
 have XN : X * 2 ^ n + Y ≠ 0 := by
  have := Nat.mul_pos (Nat.pos_of_ne_zero X0) p0
  omega
 obtain ⟨A, hA⟩ : ∃ A, 8 * Y / 2 ^ n = A := ⟨_, rfl⟩
 obtain ⟨r, hr⟩ : ∃ r, 8 * Y % 2 ^ n = r := ⟨_, rfl⟩
 have e8 : (8 * X + A) * 2 ^ n + r = 8 * (X * 2 ^ n + Y) := by
  rw [hA, hr, Nat.mul_comm] at dm
  rw [Nat.add_mul, Nat.mul_assoc, Nat.mul_add]
  omega
 by_cases c : 8 * Y % 2 ^ n = 0
 ·
  rw [jr_even _ _ c, hA]
  rw [hr] at c
  rw [c, Nat.add_zero] at e8
  exact sum_exact (p + 1) _ _ n (by omega) XN e8
 ·
  rw [jr_odd _ _ c, hA]
  have hX := hl c
  rw [hr] at c lt
  have e : 8 * X + (A / 2 * 2 + 1) = (8 * X + A) / 2 * 2 + 1 := by omega
  rw [e]
  refine sum_lost (p + 1) _ _ n r XN ?_ c lt e8
  have := (blen_low (8 * X + A) (by omega)).2.2
  have l : 2 ^ (p + 3) ≤ 8 * X + A := by rw [Nat.pow_add]; omega
  have : 2 ^ (p + 3) < 2 ^ blen (8 * X + A) := by omega
  have := (Nat.pow_lt_pow_iff_right (show 1 < 2 by decide)).1 this
  omega
theorem sum_unlike (p X Y n : Nat) (hl : 8 * Y % 2 ^ n ≠ 0 → 2 ^ p ≤ X) (hY : Y < 2 * 2 ^ p) (hg : Y ≤ X * 2 ^ n) :
  jr (8 * Y) n ≤ 8 * X ∧ (X * 2 ^ n - Y = 0 ↔ 8 * X - jr (8 * Y) n = 0) ∧ (X * 2 ^ n - Y ≠ 0 → blen (8 * X - jr (8 * Y) n) + n = blen (X * 2 ^ n - Y) + 3 ∧ qW (p + 1) (8 * X - jr (8 * Y) n) = qW (p + 1) (X * 2 ^ n - Y) ∧ qM (p + 1) (8 * X - jr (8 * Y) n) false = qM (p + 1) (X * 2 ^ n - Y) false) := by
 have p0 := Nat.two_pow_pos n
 have dm := Nat.div_add_mod (8 * Y) (2 ^ n)
 have lt := Nat.mod_lt (8 * Y) p0
 obtain ⟨A, hA⟩ : ∃ A, 8 * Y / 2 ^ n = A := ⟨_, rfl⟩
 obtain ⟨r, hr⟩ : ∃ r, 8 * Y % 2 ^ n = r := ⟨_, rfl⟩
 obtain ⟨N, hN⟩ : ∃ N, X * 2 ^ n - Y = N := ⟨_, rfl⟩
 have eX : 8 * (X * 2 ^ n) = 8 * X * 2 ^ n := (Nat.mul_assoc 8 X (2 ^ n)).symm
 have eN : 8 * N + 8 * Y = 8 * X * 2 ^ n := by omega
 rw [hA, hr, Nat.mul_comm] at dm
 by_cases c : 8 * Y % 2 ^ n = 0
 ·
  rw [jr_even _ _ c, hA, hN]
  rw [hr] at c
  rw [c, Nat.add_zero] at dm
  have le : A ≤ 8 * X := by
   have : A * 2 ^ n ≤ 8 * X * 2 ^ n := by omega
   exact Nat.le_of_mul_le_mul_right this p0
  have eS : (8 * X - A) * 2 ^ n = 8 * N := by
   rw [Nat.sub_mul]
   omega
  refine ⟨le, ⟨fun h => ?_, fun h => ?_⟩, fun N0 => ?_⟩
  ·
   rw [h] at eS
   rcases Nat.mul_eq_zero.1 (eS.trans (Nat.mul_zero 8)) with q | q
   ·
    exact q
   ·
    omega
  ·
   rw [h, Nat.zero_mul] at eS
   omega
  ·
   refine sum_exact (p + 1) _ _ n (fun h => ?_) N0 eS
   rw [h, Nat.zero_mul] at eS
   omega
 ·
  have n4 := lost_four Y n c
  have hX := hl c
  rw [jr_odd _ _ c, hA, hN]
  rw [hr] at c lt
  have AY : A < 2 ^ p := by
   have h16 : 2 ^ 4 ≤ 2 ^ n := Nat.pow_le_pow_right (by decide) n4
   have h1 : A * 2 ^ 4 ≤ A * 2 ^ n := Nat.mul_le_mul_left A h16
   omega
  have X8 : 2 ^ (p + 3) ≤ 8 * X := by rw [Nat.pow_add]; omega
  have P3 : 2 ^ (p + 3) = 8 * 2 ^ p := by rw [Nat.pow_add]; omega
  have e8 : (8 * X - A - 1) * 2 ^ n + (2 ^ n - r) = 8 * N := by
   rw [Nat.sub_mul, Nat.sub_mul, Nat.one_mul]
   have : A * 2 ^ n + 2 ^ n ≤ 8 * X * 2 ^ n := by
    have := Nat.mul_le_mul_right (2 ^ n) (show A + 1 ≤ 8 * X by omega)
    rw [Nat.add_mul, Nat.one_mul] at this
    exact this
   omega
  have N0 : N ≠ 0 := by omega
  have e : 8 * X - (A / 2 * 2 + 1) = (8 * X - A - 1) / 2 * 2 + 1 := by omega
  refine ⟨by omega, ⟨fun h => absurd h N0, fun h => ?_⟩, fun _ => ?_⟩
  ·
   exfalso
   omega
  ·
   rw [e]
   refine sum_lost (p + 1) _ _ n (2 ^ n - r) N0 ?_ (by omega) (by omega) e8
   have := (blen_low (8 * X - A - 1) (by omega)).2.2
   have l : 2 ^ (p + 2) ≤ 8 * X - A - 1 := by
    have : 2 ^ (p + 2) = 4 * 2 ^ p := by rw [Nat.pow_add]; omega
    omega
   have : 2 ^ (p + 2) < 2 ^ blen (8 * X - A - 1) := by omega
   have := (Nat.pow_lt_pow_iff_right (show 1 < 2 by decide)).1 this
   omega
def sumN (sa sb : Bool) (X Y n : Nat) : Nat := if sa = sb then X * 2 ^ n + Y else X * 2 ^ n - Y
theorem sum_rat (sa sb : Bool) (X Y n : Nat) (ey : Int) (hg : Y ≤ X * 2 ^ n) : sgn sa * ((X : Rat) / ((1 : Nat) : Rat)) * (2 : Rat) ^ (ey + (n : Int)) + sgn sb * ((Y : Rat) / ((1 : Nat) : Rat)) * (2 : Rat) ^ ey = sgn sa * (((sumN sa sb X Y n : Nat) : Rat) / ((1 : Nat) : Rat)) * (2 : Rat) ^ ey := by
 have one : ∀ z : Rat, z / ((1 : Nat) : Rat) = z := fun z => by
  rw [show ((1 : Nat) : Rat) = 1 from rfl, Rat.div_def, show (1 : Rat)⁻¹ = 1 by decide +kernel, Rat.mul_one]
 rw [one, one, one, p2add, p2nat]
 generalize (2 : Rat) ^ ey = E
 unfold sumN
 by_cases c : sa = sb
 ·
  subst c
  rw [if_pos rfl, Rat.natCast_add, Rat.natCast_mul]
  generalize ((2 ^ n : Nat) : Rat) = H
  grind
 ·
  rw [if_neg c]
  have hs : sgn sb = - sgn sa := by
   unfold sgn
   cases sa <;> cases sb <;> first | exact absurd rfl c | decide +kernel
  have hN : ((X * 2 ^ n - Y : Nat) : Rat) + (Y : Rat) = (X : Rat) * ((2 ^ n : Nat) : Rat) := by
   rw [← Rat.natCast_add, ← Rat.natCast_mul, Nat.sub_add_cancel hg]
  rw [hs]
  generalize ((2 ^ n : Nat) : Rat) = H at *
  generalize ((X * 2 ^ n - Y : Nat) : Rat) = K at *
  grind
theorem bd_whole (b : Bool) (A : Nat) (x : Int) (A0 : A ≠ 0) (hA : A < 2 ^ 128) (x1 : -20000 ≤ x) (x2 : x ≤ 20000) : Bd ⟨b, od A, 1, x + (tz A : Int)⟩ 128 20200 := by
 have tA := tz_blen A
 have bA := (blen_iff A 128).2 hA
 obtain ⟨o1, o2⟩ := od_is A A0
 have le : od A ≤ A := by
  have p := Nat.two_pow_pos (tz A)
  have := Nat.mul_le_mul_left (od A) p
  rw [Nat.mul_one] at this
  omega
 exact ⟨Nat.lt_of_le_of_lt le hA, by show 1 < 2 ^ 128; decide, by show -((20200 : Nat) : Int) ≤ x + (tz A : Int); omega, by show x + (tz A : Int) ≤ ((20200 : Nat) : Int); omega⟩
theorem add_num {f : Int} (hf : Is4 f) (m : Int) (sa sb : Bool) (X Y n : Nat) (ex ey : Int) (X0 : X ≠ 0) (Y0 : Y ≠ 0) (hX : X < 2 ^ 128) (hY : Y < 2 ^ 128) (hn : ex = ey + (n : Int)) (hg : Y ≤ X * 2 ^ n) (x1 : -20000 ≤ ex) (x2 : ex ≤ 20000) (y1 : -20000 ≤ ey) (y2 : ey ≤ 20000) (N : Nat) (hN : sumN sa sb X Y n = N) (N0 : N ≠ 0) :
  ∃ (k : Nat) (e : Int), addX ⟨sa, od X, 1, ex + (tz X : Int)⟩ ⟨sb, od Y, 1, ey + (tz Y : Int)⟩ = (⟨sa, k, 1, e⟩, 0) ∧ addX ⟨sb, od Y, 1, ey + (tz Y : Int)⟩ ⟨sa, od X, 1, ex + (tz X : Int)⟩ = (⟨sa, k, 1, e⟩, 0) ∧ (XN.mk sa k 1 e).can ∧ nl k ≤ 8192 ∧ k ≠ 0 ∧
   rnd f m ⟨sa, k, 1, e⟩ = dlv f m sa (ey + (blen N : Int) - 1) (qW (pV f + 1) N) (qM (pV f + 1) N false) := by
 have bX := (blen_iff X 128).2 hX
 have bY := (blen_iff Y 128).2 hY
 have bN : blen N ≤ 45000 := by
  have : blen N ≤ 128 + n + 1 := by
   apply blen_le_of
   have h1 : X * 2 ^ n < 2 ^ (128 + n) := by rw [Nat.pow_add]; exact (Nat.mul_lt_mul_right (Nat.two_pow_pos n)).2 hX
   have h2 : N ≤ X * 2 ^ n + X * 2 ^ n := by rw [← hN]; unfold sumN; split <;> omega
   rw [Nat.pow_succ]
   omega
  omega
 obtain ⟨w1, w2, w3, w4, w5, w6, w7⟩ := x_whole hf sa N ey N0 bN (by omega) (by omega)
 obtain ⟨u1, u2, u3, u4, u5, u6, u7⟩ := x_whole hf sa X ex X0 (by omega) (by omega) (by omega)
 obtain ⟨v1, v2, v3, v4, v5, v6, v7⟩ := x_whole hf sb Y ey Y0 (by omega) (by omega) (by omega)
 have wv := mk_val sa N 1 ey (by decide) (by rw [w1])
 have uv := mk_val sa X 1 ex (by decide) (by rw [u1])
 have vv := mk_val sb Y 1 ey (by decide) (by rw [v1])
 rw [w1] at wv
 rw [u1] at uv
 rw [v1] at vv
 have sr := sum_rat sa sb X Y n ey hg
 rw [← hn, hN] at sr
 have hv : (XN.mk sa (od X) 1 (ex + (tz X : Int))).val + (XN.mk sb (od Y) 1 (ey + (tz Y : Int))).val = (XN.mk sa (od N) 1 (ey + (tz N : Int))).val := by
  rw [uv, vv, wv]
  exact sr
 have B1 := bd_whole sa X ex X0 hX x1 x2
 have B2 := bd_whole sb Y ey Y0 hY y1 y2
 refine ⟨od N, ey + (tz N : Int), addX_is _ _ _ u2 v2 w2 B1 B2 hv, addX_is _ _ _ v2 u2 w2 B2 B1 (by rw [Rat.add_comm]; exact hv), w2, w4, w3, ?_⟩
 unfold rnd
 rw [if_neg w3, w5, w6, w7]
theorem add_null {f : Int} (hf : Is4 f) (sa sb : Bool) (X Y n : Nat) (ex ey : Int) (X0 : X ≠ 0) (Y0 : Y ≠ 0) (hX : X < 2 ^ 128) (hY : Y < 2 ^ 128) (hn : ex = ey + (n : Int)) (hg : Y ≤ X * 2 ^ n) (x1 : -20000 ≤ ex) (x2 : ex ≤ 20000) (y1 : -20000 ≤ ey) (y2 : ey ≤ 20000) (hN : sumN sa sb X Y n = 0) :
  addX ⟨sa, od X, 1, ex + (tz X : Int)⟩ ⟨sb, od Y, 1, ey + (tz Y : Int)⟩ = (XMath.X0, 0) ∧ addX ⟨sb, od Y, 1, ey + (tz Y : Int)⟩ ⟨sa, od X, 1, ex + (tz X : Int)⟩ = (XMath.X0, 0) := by
 have bX := (blen_iff X 128).2 hX
 have bY := (blen_iff Y 128).2 hY
 obtain ⟨u1, u2, u3, u4, u5, u6, u7⟩ := x_whole hf sa X ex X0 (by omega) (by omega) (by omega)
 obtain ⟨v1, v2, v3, v4, v5, v6, v7⟩ := x_whole hf sb Y ey Y0 (by omega) (by omega) (by omega)
 have uv := mk_val sa X 1 ex (by decide) (by rw [u1])
 have vv := mk_val sb Y 1 ey (by decide) (by rw [v1])
 rw [u1] at uv
 rw [v1] at vv
 have sr := sum_rat sa sb X Y n ey hg
 rw [← hn, hN] at sr
 have z : (XMath.X0).val = 0 := by
  show sgn false * (((0 : Nat) : Rat) / ((1 : Nat) : Rat)) * (2 : Rat) ^ (0 : Int) = 0
  rw [show ((0 : Nat) : Rat) = 0 from rfl, Rat.div_def, Rat.zero_mul, Rat.mul_zero, Rat.zero_mul]
 have hv : (XN.mk sa (od X) 1 (ex + (tz X : Int))).val + (XN.mk sb (od Y) 1 (ey + (tz Y : Int))).val = (XMath.X0).val := by
  rw [uv, vv, z, sr, show ((0 : Nat) : Rat) = 0 from rfl, Rat.div_def, Rat.zero_mul, Rat.mul_zero, Rat.zero_mul]
 have B1 := bd_whole sa X ex X0 hX x1 x2
 have B2 := bd_whole sb Y ey Y0 hY y1 y2
 exact ⟨addX_is _ _ _ u2 v2 x0_can B1 B2 hv, addX_is _ _ _ v2 u2 x0_can B2 B1 (by rw [Rat.add_comm]; exact hv)⟩
end Go.Proofs.YtoaaajeblhaeoaaGreatDoor
