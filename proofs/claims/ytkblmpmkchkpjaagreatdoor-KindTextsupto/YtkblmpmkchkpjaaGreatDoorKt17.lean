/-
  What the functions that the statement reaches return: part 17 (TO, TP).
-/
import Derived.Test.YtkblmpmkchkpjaaGreatDoorKt16
namespace Go.Proofs.YtkblmpmkchkpjaaGreatDoor
set_option maxRecDepth 100000
set_option maxHeartbeats 40000000
open Go.RowKit WMath
set_option linter.unusedSimpArgs false
set_option linter.unusedVariables false
theorem rwhole_no (s m : ByteArray) (neg : Bool) (HS : zP ((neg = false ∧ m = s ∧ (s.toList == []) = true) ∨ (neg = false ∧ m = s ∧ (s.toList == []) = false ∧ ∃ h : 0 < s.size, ((s[0].toNat : Int) == 45) = false) ∨ (neg = true ∧ (s.toList == []) = false ∧ (∃ h : 0 < s.size, ((s[0].toNat : Int) == 45) = true) ∧ ∀ w, (Instr.slice 9 (.string s) (some (.int .i64 1)) none none).run Tryz.prog w = .ok (.string m) w))) (H : zP ((m.toList == []) = true ∨ ((m.toList == []) = false ∧ decide ((6 : Int) < (m.size : Int)) = true))) (w : World) :
  Calls Tryz.prog 106 #[.string s] w fun r w' => r = .returned (.tuple #[.int .i64 0, .bool false]) ∧ Below w.heap.size w w' := by
 rcases HS.out with ⟨rfl, rfl, g1⟩ | ⟨rfl, rfl, g1, g2, g3⟩ | ⟨rfl, g1, ⟨g2, g3⟩, g4⟩
 all_goals
  clear HS
  rcases H.out with k1 | ⟨k1, k2⟩
  all_goals
   first
   | (rw [g1] at k1; exact absurd k1 (by decide))
   | skip
   all_goals
    go_enter Tryz.func106, Tryz.ntmps106
    go_wp2
    exact bodyPost_ret (v := .tuple #[.int .i64 0, .bool false]) (by simp [results, Tryz.results106, go_sem]) rfl ⟨rfl, Below.refl _ _⟩
theorem rg_inf (f : Int) (s m : ByteArray) (neg : Bool) (u v : Nat)  (w : World) (HS : zP ((neg = false ∧ m = s ∧ (s.toList == []) = true) ∨ (neg = false ∧ m = s ∧ (s.toList == []) = false ∧ ∃ h : 0 < s.size, ((s[0].toNat : Int) == 45) = false) ∨ (neg = true ∧ (s.toList == []) = false ∧ (∃ h : 0 < s.size, ((s[0].toNat : Int) == 45) = true) ∧ ∀ w, (Instr.slice 9 (.string s) (some (.int .i64 1)) none none).run Tryz.prog w = .ok (.string m) w)))
  (hi : (m.toList == [105, 110, 102]) = true)
  (KI : zP (∀ w, Calls Tryz.prog 72 #[.int .u8 f, .bool neg] w fun r w' => r = .returned (.agg #[.int .u64 u, .int .u64 v]) ∧ Below w.heap.size w w'))
  : Calls Tryz.prog 41 #[.int .u8 f, .string s] w fun r w' => r = .returned (.agg #[.int .u64 u, .int .u64 v]) ∧ Below w.heap.size w w' := by
 rcases HS.out with ⟨rfl, rfl, g1⟩ | ⟨rfl, rfl, g1, g2, g3⟩ | ⟨rfl, g1, ⟨g2, g3⟩, g4⟩
 all_goals
  clear HS
  have hat := zU 6
  have hz := yB
  have hff := z8
  have hs0 := xO
  have hcs : ∀ x, ((cw 6 x).size = 6) = True := fun x => eq_true (zR 6 x)
  have hzi := cw_zip
  have hps5 : ∀ (V : Nat) (X : Int), ((((((((pt 0 0 0 0).setIfInBounds 0 (.int .u8 5)).setIfInBounds 1 (.int .u64 (wd V 0))).setIfInBounds 2 (.int .u64 (wd V 1))).setIfInBounds 3 (.int .u64 (wd V 2))).setIfInBounds 4 (.int .u64 (wd V 3))).setIfInBounds 5 (.int .u64 (wd V 4))).setIfInBounds 6 (.int .u64 (wd V 5))).setIfInBounds 7 (.int .i64 X) = pt 5 V X 0 := fun _ _ => rfl
  have hps6 : ∀ (V : Nat) (X : Int), ((((((((pt 0 0 0 0).setIfInBounds 0 (.int .u8 6)).setIfInBounds 1 (.int .u64 (wd V 0))).setIfInBounds 2 (.int .u64 (wd V 1))).setIfInBounds 3 (.int .u64 (wd V 2))).setIfInBounds 4 (.int .u64 (wd V 3))).setIfInBounds 5 (.int .u64 (wd V 4))).setIfInBounds 6 (.int .u64 (wd V 5))).setIfInBounds 7 (.int .i64 X) = pt 6 V X 0 := fun _ _ => rfl
  have Ac := xP
  have Ad := ptz
  have Ae : ∀ (c s : Nat) (x : Int) (r : Nat), ((pt c s x r).size = 14) = True := fun _ _ _ _ => eq_true rfl
  obtain ⟨Ab, B0⟩ := xJ w (Obj.cells #[.int .u64 0, .int .u64 0] 25)
  go_enter Tryz.func41, Tryz.ntmps41
  go_wp2_with fail
  refine (KI.out _).mono ?_
  rintro r w1 ⟨rfl, b1⟩
  have B1 := yD B0 b1
  have Aa := zA b1 _ _ _ Ab
  clear b1 B0 Ab
  obtain ⟨Af, Ag⟩ := zG Aa
  have q0 := fz (k := 0) Aa
  have q1 := fz (k := 1) Aa
  obtain ⟨E0, E1⟩ := zM Aa (.int .u64 u) (.int .u64 v)
  go_wp2
  exact bodyPost_ret (v := .agg #[.int .u64 u, .int .u64 v]) (by simp [results, Tryz.results41, go_sem, E0, E1]) rfl ⟨rfl, zI B1 (by first | exact Nat.le_refl _ | omega | (skip; omega)) _ _⟩
theorem rg_zero (f : Int) (s m : ByteArray) (neg : Bool) (u v : Nat)  (w : World) (HS : zP ((neg = false ∧ m = s ∧ (s.toList == []) = true) ∨ (neg = false ∧ m = s ∧ (s.toList == []) = false ∧ ∃ h : 0 < s.size, ((s[0].toNat : Int) == 45) = false) ∨ (neg = true ∧ (s.toList == []) = false ∧ (∃ h : 0 < s.size, ((s[0].toNat : Int) == 45) = true) ∧ ∀ w, (Instr.slice 9 (.string s) (some (.int .i64 1)) none none).run Tryz.prog w = .ok (.string m) w)))
  (hi : (m.toList == [105, 110, 102]) = false)
  (hz : (m.toList == [48]) = true)
  (KZ : zP (∀ w, Calls Tryz.prog 73 #[.int .u8 f, .bool neg] w fun r w' => r = .returned (.agg #[.int .u64 u, .int .u64 v]) ∧ Below w.heap.size w w'))
  : Calls Tryz.prog 41 #[.int .u8 f, .string s] w fun r w' => r = .returned (.agg #[.int .u64 u, .int .u64 v]) ∧ Below w.heap.size w w' := by
 rcases HS.out with ⟨rfl, rfl, g1⟩ | ⟨rfl, rfl, g1, g2, g3⟩ | ⟨rfl, g1, ⟨g2, g3⟩, g4⟩
 all_goals
  clear HS
  have hat := zU 6
  have hz := yB
  have hff := z8
  have hs0 := xO
  have hcs : ∀ x, ((cw 6 x).size = 6) = True := fun x => eq_true (zR 6 x)
  have hzi := cw_zip
  have hps5 : ∀ (V : Nat) (X : Int), ((((((((pt 0 0 0 0).setIfInBounds 0 (.int .u8 5)).setIfInBounds 1 (.int .u64 (wd V 0))).setIfInBounds 2 (.int .u64 (wd V 1))).setIfInBounds 3 (.int .u64 (wd V 2))).setIfInBounds 4 (.int .u64 (wd V 3))).setIfInBounds 5 (.int .u64 (wd V 4))).setIfInBounds 6 (.int .u64 (wd V 5))).setIfInBounds 7 (.int .i64 X) = pt 5 V X 0 := fun _ _ => rfl
  have hps6 : ∀ (V : Nat) (X : Int), ((((((((pt 0 0 0 0).setIfInBounds 0 (.int .u8 6)).setIfInBounds 1 (.int .u64 (wd V 0))).setIfInBounds 2 (.int .u64 (wd V 1))).setIfInBounds 3 (.int .u64 (wd V 2))).setIfInBounds 4 (.int .u64 (wd V 3))).setIfInBounds 5 (.int .u64 (wd V 4))).setIfInBounds 6 (.int .u64 (wd V 5))).setIfInBounds 7 (.int .i64 X) = pt 6 V X 0 := fun _ _ => rfl
  have Ac := xP
  have Ad := ptz
  have Ae : ∀ (c s : Nat) (x : Int) (r : Nat), ((pt c s x r).size = 14) = True := fun _ _ _ _ => eq_true rfl
  obtain ⟨Ab, B0⟩ := xJ w (Obj.cells #[.int .u64 0, .int .u64 0] 25)
  go_enter Tryz.func41, Tryz.ntmps41
  go_wp2_with fail
  refine (KZ.out _).mono ?_
  rintro r w1 ⟨rfl, b1⟩
  have B1 := yD B0 b1
  have Aa := zA b1 _ _ _ Ab
  clear b1 B0 Ab
  obtain ⟨Af, Ag⟩ := zG Aa
  have q0 := fz (k := 0) Aa
  have q1 := fz (k := 1) Aa
  obtain ⟨E0, E1⟩ := zM Aa (.int .u64 u) (.int .u64 v)
  go_wp2
  exact bodyPost_ret (v := .agg #[.int .u64 u, .int .u64 v]) (by simp [results, Tryz.results41, go_sem, E0, E1]) rfl ⟨rfl, zI B1 (by first | exact Nat.le_refl _ | omega | (skip; omega)) _ _⟩
theorem rg_cl (f : Int) (s m : ByteArray) (neg : Bool) (u v : Nat) (k : Nat) (t1 : ByteArray) (V l : Nat) (E P P1 : Int) (w : World) (HS : zP ((neg = false ∧ m = s ∧ (s.toList == []) = true) ∨ (neg = false ∧ m = s ∧ (s.toList == []) = false ∧ ∃ h : 0 < s.size, ((s[0].toNat : Int) == 45) = false) ∨ (neg = true ∧ (s.toList == []) = false ∧ (∃ h : 0 < s.size, ((s[0].toNat : Int) == 45) = true) ∧ ∀ w, (Instr.slice 9 (.string s) (some (.int .i64 1)) none none).run Tryz.prog w = .ok (.string m) w)))
  (hi : (m.toList == [105, 110, 102]) = false)
  (hz : (m.toList == [48]) = false)
  (KF : zP (∀ w, Calls Tryz.prog 102 #[.string m, .int .u8 58] w fun r w' => r = .returned (.int .i64 (k : Nat)) ∧ Below w.heap.size w w'))
  (hk : IntKind.i64.wrap ((k : Int) + 1) = (k : Int) + 1) (dk : decide ((0 : Int) ≤ (k : Int)) = true) (dk2 : decide ((k : Int) < 0) = false)
  (hs1 : ∀ w, (Instr.slice 9 (.string m) (some (.int .i64 ((k : Int) + 1))) none none).run Tryz.prog w = .ok (.string t1) w)
  (KR : zP (∀ w, Calls Tryz.prog 103 #[.string t1] w fun r w' => r = .returned (.tuple #[.agg (cw 6 V), .int .i64 E]) ∧ Below w.heap.size w w'))
  (KL : zP (∀ w, Calls Tryz.prog 82 #[.agg (cw 6 V)] w fun r w' => r = .returned (.int .i64 (l : Nat)) ∧ Below w.heap.size w w'))
  (KP : zP (∀ w, Calls Tryz.prog 87 #[.int .u8 f] w fun r w' => r = .returned (.int .i64 P) ∧ Below w.heap.size w w'))
  (hP : IntKind.i64.wrap (P - 1) = P1) (hl : decide (P1 < (l : Int)) = true)
  : Calls Tryz.prog 41 #[.int .u8 f, .string s] w fun r w' => r = .returned (.agg #[.int .u64 0, .int .u64 0]) ∧ Below w.heap.size w w' := by
 rcases HS.out with ⟨rfl, rfl, g1⟩ | ⟨rfl, rfl, g1, g2, g3⟩ | ⟨rfl, g1, ⟨g2, g3⟩, g4⟩
 all_goals
  clear HS
  have hat := zU 6
  have hz := yB
  have hff := z8
  have hs0 := xO
  have hcs : ∀ x, ((cw 6 x).size = 6) = True := fun x => eq_true (zR 6 x)
  have hzi := cw_zip
  have hps5 : ∀ (V : Nat) (X : Int), ((((((((pt 0 0 0 0).setIfInBounds 0 (.int .u8 5)).setIfInBounds 1 (.int .u64 (wd V 0))).setIfInBounds 2 (.int .u64 (wd V 1))).setIfInBounds 3 (.int .u64 (wd V 2))).setIfInBounds 4 (.int .u64 (wd V 3))).setIfInBounds 5 (.int .u64 (wd V 4))).setIfInBounds 6 (.int .u64 (wd V 5))).setIfInBounds 7 (.int .i64 X) = pt 5 V X 0 := fun _ _ => rfl
  have hps6 : ∀ (V : Nat) (X : Int), ((((((((pt 0 0 0 0).setIfInBounds 0 (.int .u8 6)).setIfInBounds 1 (.int .u64 (wd V 0))).setIfInBounds 2 (.int .u64 (wd V 1))).setIfInBounds 3 (.int .u64 (wd V 2))).setIfInBounds 4 (.int .u64 (wd V 3))).setIfInBounds 5 (.int .u64 (wd V 4))).setIfInBounds 6 (.int .u64 (wd V 5))).setIfInBounds 7 (.int .i64 X) = pt 6 V X 0 := fun _ _ => rfl
  have Au := xP
  have Av := ptz
  have Aw : ∀ (c s : Nat) (x : Int) (r : Nat), ((pt c s x r).size = 14) = True := fun _ _ _ _ => eq_true rfl
  obtain ⟨Ah, B0⟩ := xJ w (Obj.cells #[.int .u64 0, .int .u64 0] 25)
  go_enter Tryz.func41, Tryz.ntmps41
  go_wp2_with fail
  refine (KF.out _).mono ?_
  rintro r w1 ⟨rfl, b1⟩
  have B1 := yD B0 b1
  have Ac := zA b1 _ _ _ Ah
  clear b1 B0 Ah
  obtain ⟨Ai, Aj⟩ := zG Ac
  go_wp2_with fail
  refine (KR.out _).mono ?_
  rintro r w2 ⟨rfl, b2⟩
  have B2 := yD B1 b2
  have Aa := zA b2 _ _ _ Ac
  clear b2 B1 Ac Ai Aj
  obtain ⟨Ak, Al⟩ := zG Aa
  have S3 := zK B2.size
  have Am := yA Aa
  have Ad := heap_alloc_last w2 (Obj.cells (cw 6 V) 66)
  have B3 := yD B2 (xY w2 (Obj.cells (cw 6 V) 66))
  have Ae := zA (xY w2 (Obj.cells (cw 6 V) 66)) _ _ _ Aa
  clear B2 Aa Ak Al
  obtain ⟨An, Ao⟩ := zG Ae
  have Ap := zE Ad
  go_wp2_with fail
  refine (KL.out _).mono ?_
  rintro r w4 ⟨rfl, b4⟩
  have B4 := yD B3 b4
  obtain ⟨Af, Ag⟩ := zV b4 Ae Ad
  clear b4 B3 Ae An Ao Ad Ap
  obtain ⟨Aq, Ar⟩ := zG Af
  have As := zE Ag
  go_wp2_with fail
  refine (KP.out _).mono ?_
  rintro r w5 ⟨rfl, b5⟩
  have B5 := yD B4 b5
  obtain ⟨Ab, At⟩ := zV b5 Af Ag
  clear b5 B4 Af Aq Ar Ag As
  obtain ⟨Ax, Ay⟩ := zG Ab
  have Az := zE At
  have q0 := fz (k := 0) Ab
  have q1 := fz (k := 1) Ab
  obtain ⟨E0, E1⟩ := zM Ab (.int .u64 0) (.int .u64 0)
  go_wp2
  exact bodyPost_ret (v := .agg #[.int .u64 0, .int .u64 0]) (by simp [results, Tryz.results41, go_sem, E0, E1]) rfl ⟨rfl, zI B5 (by first | exact Nat.le_refl _ | omega | (have := S3.out; have := Am.out; omega)) _ _⟩
theorem rg_cb (f : Int) (s m : ByteArray) (neg : Bool) (u v : Nat) (k : Nat) (t1 : ByteArray) (V l : Nat) (E P P1 On : Int) (w : World) (HS : zP ((neg = false ∧ m = s ∧ (s.toList == []) = true) ∨ (neg = false ∧ m = s ∧ (s.toList == []) = false ∧ ∃ h : 0 < s.size, ((s[0].toNat : Int) == 45) = false) ∨ (neg = true ∧ (s.toList == []) = false ∧ (∃ h : 0 < s.size, ((s[0].toNat : Int) == 45) = true) ∧ ∀ w, (Instr.slice 9 (.string s) (some (.int .i64 1)) none none).run Tryz.prog w = .ok (.string m) w)))
  (hi : (m.toList == [105, 110, 102]) = false)
  (hz : (m.toList == [48]) = false)
  (KF : zP (∀ w, Calls Tryz.prog 102 #[.string m, .int .u8 58] w fun r w' => r = .returned (.int .i64 (k : Nat)) ∧ Below w.heap.size w w'))
  (hk : IntKind.i64.wrap ((k : Int) + 1) = (k : Int) + 1) (dk : decide ((0 : Int) ≤ (k : Int)) = true) (dk2 : decide ((k : Int) < 0) = false)
  (hs1 : ∀ w, (Instr.slice 9 (.string m) (some (.int .i64 ((k : Int) + 1))) none none).run Tryz.prog w = .ok (.string t1) w)
  (KR : zP (∀ w, Calls Tryz.prog 103 #[.string t1] w fun r w' => r = .returned (.tuple #[.agg (cw 6 V), .int .i64 E]) ∧ Below w.heap.size w w'))
  (KL : zP (∀ w, Calls Tryz.prog 82 #[.agg (cw 6 V)] w fun r w' => r = .returned (.int .i64 (l : Nat)) ∧ Below w.heap.size w w'))
  (KP : zP (∀ w, Calls Tryz.prog 87 #[.int .u8 f] w fun r w' => r = .returned (.int .i64 P) ∧ Below w.heap.size w w'))
  (hP : IntKind.i64.wrap (P - 1) = P1) (hl : decide (P1 < (l : Int)) = false)
  (KO : zP (∀ w, Calls Tryz.prog 105 #[.int .u8 f] w fun r w' => r = .returned (.int .i64 On) ∧ Below w.heap.size w w'))
  (KB : zP (∀ w, Calls Tryz.prog 104 #[.int .u8 f, .bool neg, .int .i64 On, .agg (cw 6 V)] w fun r w' => r = .returned (.agg #[.int .u64 u, .int .u64 v]) ∧ Below w.heap.size w w'))
  : Calls Tryz.prog 41 #[.int .u8 f, .string s] w fun r w' => r = .returned (.agg #[.int .u64 u, .int .u64 v]) ∧ Below w.heap.size w w' := by
 rcases HS.out with ⟨rfl, rfl, g1⟩ | ⟨rfl, rfl, g1, g2, g3⟩ | ⟨rfl, g1, ⟨g2, g3⟩, g4⟩
 all_goals
  clear HS
  have hat := zU 6
  have hz := yB
  have hff := z8
  have hs0 := xO
  have hcs : ∀ x, ((cw 6 x).size = 6) = True := fun x => eq_true (zR 6 x)
  have hzi := cw_zip
  have hps5 : ∀ (V : Nat) (X : Int), ((((((((pt 0 0 0 0).setIfInBounds 0 (.int .u8 5)).setIfInBounds 1 (.int .u64 (wd V 0))).setIfInBounds 2 (.int .u64 (wd V 1))).setIfInBounds 3 (.int .u64 (wd V 2))).setIfInBounds 4 (.int .u64 (wd V 3))).setIfInBounds 5 (.int .u64 (wd V 4))).setIfInBounds 6 (.int .u64 (wd V 5))).setIfInBounds 7 (.int .i64 X) = pt 5 V X 0 := fun _ _ => rfl
  have hps6 : ∀ (V : Nat) (X : Int), ((((((((pt 0 0 0 0).setIfInBounds 0 (.int .u8 6)).setIfInBounds 1 (.int .u64 (wd V 0))).setIfInBounds 2 (.int .u64 (wd V 1))).setIfInBounds 3 (.int .u64 (wd V 2))).setIfInBounds 4 (.int .u64 (wd V 3))).setIfInBounds 5 (.int .u64 (wd V 4))).setIfInBounds 6 (.int .u64 (wd V 5))).setIfInBounds 7 (.int .i64 X) = pt 6 V X 0 := fun _ _ => rfl
  have Ab := xP
  have Ay := ptz
  have Az : ∀ (c s : Nat) (x : Int) (r : Nat), ((pt c s x r).size = 14) = True := fun _ _ _ _ => eq_true rfl
  obtain ⟨Ah, B0⟩ := xJ w (Obj.cells #[.int .u64 0, .int .u64 0] 25)
  go_enter Tryz.func41, Tryz.ntmps41
  go_wp2_with fail
  refine (KF.out _).mono ?_
  rintro r w1 ⟨rfl, b1⟩
  have B1 := yD B0 b1
  have Ac := zA b1 _ _ _ Ah
  clear b1 B0 Ah
  obtain ⟨Ao, Ap⟩ := zG Ac
  go_wp2_with fail
  refine (KR.out _).mono ?_
  rintro r w2 ⟨rfl, b2⟩
  have B2 := yD B1 b2
  have Aa := zA b2 _ _ _ Ac
  clear b2 B1 Ac Ao Ap
  obtain ⟨Aq, Ar⟩ := zG Aa
  have S3 := zK B2.size
  have Ai := yA Aa
  have Ad := heap_alloc_last w2 (Obj.cells (cw 6 V) 66)
  have B3 := yD B2 (xY w2 (Obj.cells (cw 6 V) 66))
  have Ae := zA (xY w2 (Obj.cells (cw 6 V) 66)) _ _ _ Aa
  clear B2 Aa Aq Ar
  obtain ⟨As, At⟩ := zG Ae
  have Au := zE Ad
  go_wp2_with fail
  refine (KL.out _).mono ?_
  rintro r w4 ⟨rfl, b4⟩
  have B4 := yD B3 b4
  obtain ⟨Af, Ag⟩ := zV b4 Ae Ad
  clear b4 B3 Ae As At Ad Au
  obtain ⟨Av, Aw⟩ := zG Af
  have Ax := zE Ag
  go_wp2_with fail
  refine (KP.out _).mono ?_
  rintro r w5 ⟨rfl, b5⟩
  have B5 := yD B4 b5
  obtain ⟨Aj, Ak⟩ := zV b5 Af Ag
  clear b5 B4 Af Av Aw Ag Ax
  obtain ⟨AA, AB⟩ := zG Aj
  have AC := zE Ak
  have sS : zP (∀ W W1 : World, (Below w.heap.size w W ∧ W.heap[w2.heap.size]? = some (.cells (cw 6 V) 66)) → Below W.heap.size W W1 → (Below w.heap.size w W1 ∧ W1.heap[w2.heap.size]? = some (.cells (cw 6 V) 66))) := zK (fun W W1 h b => ⟨yD h.1 b, zA b _ _ _ h.2⟩)
  have HH := zK (And.intro S3.out Ai.out)
  have sT : zP (∀ (W : World) (xA xB : Value), (Below w.heap.size w W ∧ W.heap[w2.heap.size]? = some (.cells (cw 6 V) 66)) → (Below w.heap.size w ((W.setCell ⟨w.heap.size, 0, none⟩ xA).setCell ⟨w.heap.size, 1, none⟩ xB) ∧ ((W.setCell ⟨w.heap.size, 0, none⟩ xA).setCell ⟨w.heap.size, 1, none⟩ xB).heap[w2.heap.size]? = some (.cells (cw 6 V) 66))) := zK (fun W xA xB h => ⟨zI h.1 (by first | exact Nat.le_refl _ | omega | (have := HH.out; omega)) xA xB, ((zB (by first | omega | (have := HH.out; omega))).trans ((zB (by first | omega | (have := HH.out; omega))).trans h.2))⟩)
  have sC : zP (∀ W : World, (Below w.heap.size w W ∧ W.heap[w2.heap.size]? = some (.cells (cw 6 V) 66)) → (Below w.heap.size w W ∧ W.heap[w2.heap.size]? = some (.cells (cw 6 V) 66) ∧ W.cell? ⟨w2.heap.size, 0, none⟩ = some (.int .u64 (wd V 0)) ∧ W.cell? ⟨w2.heap.size, 1, none⟩ = some (.int .u64 (wd V 1)) ∧ W.cell? ⟨w2.heap.size, 2, none⟩ = some (.int .u64 (wd V 2)) ∧ W.cell? ⟨w2.heap.size, 3, none⟩ = some (.int .u64 (wd V 3)) ∧ W.cell? ⟨w2.heap.size, 4, none⟩ = some (.int .u64 (wd V 4)) ∧ W.cell? ⟨w2.heap.size, 5, none⟩ = some (.int .u64 (wd V 5)))) := zK (fun W h => ⟨h.1, h.2, zE (h.2) 0 (by decide), zE (h.2) 1 (by decide), zE (h.2) 2 (by decide), zE (h.2) 3 (by decide), zE (h.2) 4 (by decide), zE (h.2) 5 (by decide)⟩)
  have s0 : Below w.heap.size w (w5).drew ∧ (w5).drew.heap[w2.heap.size]? = some (.cells (cw 6 V) 66) := ⟨B5.drew, Ak⟩
  have rz : (w5).drew.heap[w.heap.size]? = some (.cells #[.int .u64 0, .int .u64 0] 25) := Aj
  have Al := fz (k := 0) rz
  have Ab := fz (k := 1) rz
  have Am := zC rz 0 _ rfl
  have An := zC rz 1 _ rfl
  go_wp2_with fail
  go_region_held3 (fun W => Below w.heap.size w W ∧ W.heap[w2.heap.size]? = some (.cells (cw 6 V) 66) ∧ W.cell? ⟨w2.heap.size, 0, none⟩ = some (.int .u64 (wd V 0)) ∧ W.cell? ⟨w2.heap.size, 1, none⟩ = some (.int .u64 (wd V 1)) ∧ W.cell? ⟨w2.heap.size, 2, none⟩ = some (.int .u64 (wd V 2)) ∧ W.cell? ⟨w2.heap.size, 3, none⟩ = some (.int .u64 (wd V 3)) ∧ W.cell? ⟨w2.heap.size, 4, none⟩ = some (.int .u64 (wd V 4)) ∧ W.cell? ⟨w2.heap.size, 5, none⟩ = some (.int .u64 (wd V 5))) (first | exact sC.out _ s1 | exact sC.out _ s0 | exact sC.out _ (sT.out _ _ _ s1) | exact sC.out _ (sT.out _ _ _ s0))
   (((first | (go_at_call 105; (first | refine (KO.out _).mono ?_ | refine (KO.out _).mono ?_)) | (go_at_call 104; (first | refine (KB.out _).mono ?_ | refine (KB.out _).mono ?_)) | fail); rintro r wq ⟨rfl, bq⟩; have s1 := (by first | exact sS.out _ _ s1 bq | exact sS.out _ _ s0 bq); have rz := zA bq _ _ _ rz; have Al := fz (k := 0) rz; have Am := zC rz 0 _ rfl; have Ab := fz (k := 1) rz; have An := zC rz 1 _ rfl; clear bq))
  obtain ⟨E0, E1⟩ := zM rz (.int .u64 u) (.int .u64 v)
  have BZ := (by first | exact And.left s1 | exact And.left s0 : Below w.heap.size w _)
  go_wp2
  exact bodyPost_ret (v := .agg #[.int .u64 u, .int .u64 v]) (by simp [results, Tryz.results41, go_sem, E0, E1]) rfl ⟨rfl, zI BZ (by first | exact Nat.le_refl _ | omega | (have := S3.out; have := Ai.out; omega)) _ _⟩
theorem rg_np (f : Int) (s m : ByteArray) (neg : Bool) (u v : Nat)  (w : World) (HS : zP ((neg = false ∧ m = s ∧ (s.toList == []) = true) ∨ (neg = false ∧ m = s ∧ (s.toList == []) = false ∧ ∃ h : 0 < s.size, ((s[0].toNat : Int) == 45) = false) ∨ (neg = true ∧ (s.toList == []) = false ∧ (∃ h : 0 < s.size, ((s[0].toNat : Int) == 45) = true) ∧ ∀ w, (Instr.slice 9 (.string s) (some (.int .i64 1)) none none).run Tryz.prog w = .ok (.string m) w)))
  (hi : (m.toList == [105, 110, 102]) = false)
  (hz : (m.toList == [48]) = false)
  (KF : zP (∀ w, Calls Tryz.prog 102 #[.string m, .int .u8 58] w fun r w' => r = .returned (.int .i64 (-1)) ∧ Below w.heap.size w w'))
  (KG : zP (∀ w, Calls Tryz.prog 102 #[.string m, .int .u8 112] w fun r w' => r = .returned (.int .i64 (-1)) ∧ Below w.heap.size w w'))
  : Calls Tryz.prog 41 #[.int .u8 f, .string s] w fun r w' => r = .returned (.agg #[.int .u64 0, .int .u64 0]) ∧ Below w.heap.size w w' := by
 rcases HS.out with ⟨rfl, rfl, g1⟩ | ⟨rfl, rfl, g1, g2, g3⟩ | ⟨rfl, g1, ⟨g2, g3⟩, g4⟩
 all_goals
  clear HS
  have hat := zU 6
  have hz := yB
  have hff := z8
  have hs0 := xO
  have hcs : ∀ x, ((cw 6 x).size = 6) = True := fun x => eq_true (zR 6 x)
  have hzi := cw_zip
  have hps5 : ∀ (V : Nat) (X : Int), ((((((((pt 0 0 0 0).setIfInBounds 0 (.int .u8 5)).setIfInBounds 1 (.int .u64 (wd V 0))).setIfInBounds 2 (.int .u64 (wd V 1))).setIfInBounds 3 (.int .u64 (wd V 2))).setIfInBounds 4 (.int .u64 (wd V 3))).setIfInBounds 5 (.int .u64 (wd V 4))).setIfInBounds 6 (.int .u64 (wd V 5))).setIfInBounds 7 (.int .i64 X) = pt 5 V X 0 := fun _ _ => rfl
  have hps6 : ∀ (V : Nat) (X : Int), ((((((((pt 0 0 0 0).setIfInBounds 0 (.int .u8 6)).setIfInBounds 1 (.int .u64 (wd V 0))).setIfInBounds 2 (.int .u64 (wd V 1))).setIfInBounds 3 (.int .u64 (wd V 2))).setIfInBounds 4 (.int .u64 (wd V 3))).setIfInBounds 5 (.int .u64 (wd V 4))).setIfInBounds 6 (.int .u64 (wd V 5))).setIfInBounds 7 (.int .i64 X) = pt 6 V X 0 := fun _ _ => rfl
  have Af := xP
  have Ag := ptz
  have Ah : ∀ (c s : Nat) (x : Int) (r : Nat), ((pt c s x r).size = 14) = True := fun _ _ _ _ => eq_true rfl
  obtain ⟨Ac, B0⟩ := xJ w (Obj.cells #[.int .u64 0, .int .u64 0] 25)
  go_enter Tryz.func41, Tryz.ntmps41
  go_wp2_with fail
  refine (KF.out _).mono ?_
  rintro r w1 ⟨rfl, b1⟩
  have B1 := yD B0 b1
  have Ab := zA b1 _ _ _ Ac
  clear b1 B0 Ac
  obtain ⟨Ad, Ae⟩ := zG Ab
  go_wp2_with fail
  refine (KG.out _).mono ?_
  rintro r w2 ⟨rfl, b2⟩
  have B2 := yD B1 b2
  have Aa := zA b2 _ _ _ Ab
  clear b2 B1 Ab Ad Ae
  obtain ⟨Ai, Aj⟩ := zG Aa
  have q0 := fz (k := 0) Aa
  have q1 := fz (k := 1) Aa
  obtain ⟨E0, E1⟩ := zM Aa (.int .u64 0) (.int .u64 0)
  go_wp2
  exact bodyPost_ret (v := .agg #[.int .u64 0, .int .u64 0]) (by simp [results, Tryz.results41, go_sem, E0, E1]) rfl ⟨rfl, zI B2 (by first | exact Nat.le_refl _ | omega | (skip; omega)) _ _⟩
theorem rg_nw (f : Int) (s m : ByteArray) (neg : Bool) (u v : Nat) (k : Nat) (t0 t1 : ByteArray) (V l : Nat) (E P X : Int) (w : World) (HS : zP ((neg = false ∧ m = s ∧ (s.toList == []) = true) ∨ (neg = false ∧ m = s ∧ (s.toList == []) = false ∧ ∃ h : 0 < s.size, ((s[0].toNat : Int) == 45) = false) ∨ (neg = true ∧ (s.toList == []) = false ∧ (∃ h : 0 < s.size, ((s[0].toNat : Int) == 45) = true) ∧ ∀ w, (Instr.slice 9 (.string s) (some (.int .i64 1)) none none).run Tryz.prog w = .ok (.string m) w)))
  (hi : (m.toList == [105, 110, 102]) = false)
  (hz : (m.toList == [48]) = false)
  (KF : zP (∀ w, Calls Tryz.prog 102 #[.string m, .int .u8 58] w fun r w' => r = .returned (.int .i64 (-1)) ∧ Below w.heap.size w w'))
  (KG : zP (∀ w, Calls Tryz.prog 102 #[.string m, .int .u8 112] w fun r w' => r = .returned (.int .i64 (k : Nat)) ∧ Below w.heap.size w w'))
  (hk : IntKind.i64.wrap ((k : Int) + 1) = (k : Int) + 1) (dk : decide ((0 : Int) ≤ (k : Int)) = true) (dk2 : decide ((k : Int) < 0) = false)
  (hs0 : ∀ w, (Instr.slice 9 (.string m) none (some (.int .i64 (k : Nat))) none).run Tryz.prog w = .ok (.string t0) w)
  (hs1 : ∀ w, (Instr.slice 9 (.string m) (some (.int .i64 ((k : Int) + 1))) none none).run Tryz.prog w = .ok (.string t1) w)
  (KR : zP (∀ w, Calls Tryz.prog 103 #[.string t0] w fun r w' => r = .returned (.tuple #[.agg (cw 6 V), .int .i64 E]) ∧ Below w.heap.size w w'))
  (KL : zP (∀ w, Calls Tryz.prog 82 #[.agg (cw 6 V)] w fun r w' => r = .returned (.int .i64 (l : Nat)) ∧ Below w.heap.size w w'))
  (KP : zP (∀ w, Calls Tryz.prog 87 #[.int .u8 f] w fun r w' => r = .returned (.int .i64 P) ∧ Below w.heap.size w w'))
  (KW : zP (∀ w, Calls Tryz.prog 106 #[.string t1] w fun r w' => r = .returned (.tuple #[.int .i64 X, .bool false]) ∧ Below w.heap.size w w'))
  : Calls Tryz.prog 41 #[.int .u8 f, .string s] w fun r w' => r = .returned (.agg #[.int .u64 0, .int .u64 0]) ∧ Below w.heap.size w w' := by
 rcases HS.out with ⟨rfl, rfl, g1⟩ | ⟨rfl, rfl, g1, g2, g3⟩ | ⟨rfl, g1, ⟨g2, g3⟩, g4⟩
 all_goals
  clear HS
  have hat := zU 6
  have hz := yB
  have hff := z8
  have hs0 := xO
  have hcs : ∀ x, ((cw 6 x).size = 6) = True := fun x => eq_true (zR 6 x)
  have hzi := cw_zip
  have hps5 : ∀ (V : Nat) (X : Int), ((((((((pt 0 0 0 0).setIfInBounds 0 (.int .u8 5)).setIfInBounds 1 (.int .u64 (wd V 0))).setIfInBounds 2 (.int .u64 (wd V 1))).setIfInBounds 3 (.int .u64 (wd V 2))).setIfInBounds 4 (.int .u64 (wd V 3))).setIfInBounds 5 (.int .u64 (wd V 4))).setIfInBounds 6 (.int .u64 (wd V 5))).setIfInBounds 7 (.int .i64 X) = pt 5 V X 0 := fun _ _ => rfl
  have hps6 : ∀ (V : Nat) (X : Int), ((((((((pt 0 0 0 0).setIfInBounds 0 (.int .u8 6)).setIfInBounds 1 (.int .u64 (wd V 0))).setIfInBounds 2 (.int .u64 (wd V 1))).setIfInBounds 3 (.int .u64 (wd V 2))).setIfInBounds 4 (.int .u64 (wd V 3))).setIfInBounds 5 (.int .u64 (wd V 4))).setIfInBounds 6 (.int .u64 (wd V 5))).setIfInBounds 7 (.int .i64 X) = pt 6 V X 0 := fun _ _ => rfl
  have As := xP
  have At := ptz
  have Au : ∀ (c s : Nat) (x : Int) (r : Nat), ((pt c s x r).size = 14) = True := fun _ _ _ _ => eq_true rfl
  obtain ⟨Ag, B0⟩ := xJ w (Obj.cells #[.int .u64 0, .int .u64 0] 25)
  go_enter Tryz.func41, Tryz.ntmps41
  go_wp2_with fail
  refine (KF.out _).mono ?_
  rintro r w1 ⟨rfl, b1⟩
  have B1 := yD B0 b1
  have Ac := zA b1 _ _ _ Ag
  clear b1 B0 Ag
  obtain ⟨Ah, Ai⟩ := zG Ac
  go_wp2_with fail
  refine (KG.out _).mono ?_
  rintro r w2 ⟨rfl, b2⟩
  have B2 := yD B1 b2
  have Ad := zA b2 _ _ _ Ac
  clear b2 B1 Ac Ah Ai
  obtain ⟨Aj, Ak⟩ := zG Ad
  go_wp2_with fail
  refine (KR.out _).mono ?_
  rintro r w3 ⟨rfl, b3⟩
  have B3 := yD B2 b3
  have Aa := zA b3 _ _ _ Ad
  clear b3 B2 Ad Aj Ak
  obtain ⟨Al, Am⟩ := zG Aa
  have S4 := zK B3.size
  have An := yA Aa
  have Ae := heap_alloc_last w3 (Obj.cells (cw 6 V) 66)
  have B4 := yD B3 (xY w3 (Obj.cells (cw 6 V) 66))
  have Af := zA (xY w3 (Obj.cells (cw 6 V) 66)) _ _ _ Aa
  clear B3 Aa Al Am
  obtain ⟨Ao, Ap⟩ := zG Af
  have Aq := zE Ae
  go_wp2_with fail
  refine (KW.out _).mono ?_
  rintro r w5 ⟨rfl, b5⟩
  have B5 := yD B4 b5
  obtain ⟨Ab, Ar⟩ := zV b5 Af Ae
  clear b5 B4 Af Ao Ap Ae Aq
  obtain ⟨Av, Aw⟩ := zG Ab
  have Ax := zE Ar
  have q0 := fz (k := 0) Ab
  have q1 := fz (k := 1) Ab
  obtain ⟨E0, E1⟩ := zM Ab (.int .u64 0) (.int .u64 0)
  go_wp2
  exact bodyPost_ret (v := .agg #[.int .u64 0, .int .u64 0]) (by simp [results, Tryz.results41, go_sem, E0, E1]) rfl ⟨rfl, zI B5 (by first | exact Nat.le_refl _ | omega | (have := S4.out; have := An.out; omega)) _ _⟩
theorem rg_ns (f : Int) (s m : ByteArray) (neg : Bool) (u v : Nat) (k : Nat) (t0 t1 : ByteArray) (V l : Nat) (E P X pe : Int) (i j : Nat) (w : World) (HS : zP ((neg = false ∧ m = s ∧ (s.toList == []) = true) ∨ (neg = false ∧ m = s ∧ (s.toList == []) = false ∧ ∃ h : 0 < s.size, ((s[0].toNat : Int) == 45) = false) ∨ (neg = true ∧ (s.toList == []) = false ∧ (∃ h : 0 < s.size, ((s[0].toNat : Int) == 45) = true) ∧ ∀ w, (Instr.slice 9 (.string s) (some (.int .i64 1)) none none).run Tryz.prog w = .ok (.string m) w)))
  (hi : (m.toList == [105, 110, 102]) = false)
  (hz : (m.toList == [48]) = false)
  (KF : zP (∀ w, Calls Tryz.prog 102 #[.string m, .int .u8 58] w fun r w' => r = .returned (.int .i64 (-1)) ∧ Below w.heap.size w w'))
  (KG : zP (∀ w, Calls Tryz.prog 102 #[.string m, .int .u8 112] w fun r w' => r = .returned (.int .i64 (k : Nat)) ∧ Below w.heap.size w w'))
  (hk : IntKind.i64.wrap ((k : Int) + 1) = (k : Int) + 1) (dk : decide ((0 : Int) ≤ (k : Int)) = true) (dk2 : decide ((k : Int) < 0) = false)
  (hs0 : ∀ w, (Instr.slice 9 (.string m) none (some (.int .i64 (k : Nat))) none).run Tryz.prog w = .ok (.string t0) w)
  (hs1 : ∀ w, (Instr.slice 9 (.string m) (some (.int .i64 ((k : Int) + 1))) none none).run Tryz.prog w = .ok (.string t1) w)
  (KR : zP (∀ w, Calls Tryz.prog 103 #[.string t0] w fun r w' => r = .returned (.tuple #[.agg (cw 6 V), .int .i64 E]) ∧ Below w.heap.size w w'))
  (KL : zP (∀ w, Calls Tryz.prog 82 #[.agg (cw 6 V)] w fun r w' => r = .returned (.int .i64 (l : Nat)) ∧ Below w.heap.size w w'))
  (KP : zP (∀ w, Calls Tryz.prog 87 #[.int .u8 f] w fun r w' => r = .returned (.int .i64 P) ∧ Below w.heap.size w w'))
  (KW : zP (∀ w, Calls Tryz.prog 106 #[.string t1] w fun r w' => r = .returned (.tuple #[.int .i64 X, .bool true]) ∧ Below w.heap.size w w'))
  (hl : decide ((l : Int) < P) = true)
  (KK : zP (∀ w, Calls Tryz.prog 107 #[.int .u8 f, .agg (pt 5 V X 0)] w fun r w' => r = .returned (.tuple #[.agg #[.int .u64 i, .int .u64 j], .int .i64 pe]) ∧ Below w.heap.size w w'))
  (HF : zP ((neg = false ∧ u = i ∧ v = j) ∨ (neg = true ∧ zP (∀ w, Calls Tryz.prog 108 #[.int .u8 f, .agg #[.int .u64 i, .int .u64 j]] w fun r w' => r = .returned (.agg #[.int .u64 u, .int .u64 v]) ∧ Below w.heap.size w w'))))
  : Calls Tryz.prog 41 #[.int .u8 f, .string s] w fun r w' => r = .returned (.agg #[.int .u64 u, .int .u64 v]) ∧ Below w.heap.size w w' := by
 rcases HS.out with ⟨rfl, rfl, g1⟩ | ⟨rfl, rfl, g1, g2, g3⟩ | ⟨rfl, g1, ⟨g2, g3⟩, g4⟩
 all_goals
  clear HS
  have hat := zU 6
  have hz := yB
  have hff := z8
  have hs0 := xO
  have hcs : ∀ x, ((cw 6 x).size = 6) = True := fun x => eq_true (zR 6 x)
  have hzi := cw_zip
  have hps5 : ∀ (V : Nat) (X : Int), ((((((((pt 0 0 0 0).setIfInBounds 0 (.int .u8 5)).setIfInBounds 1 (.int .u64 (wd V 0))).setIfInBounds 2 (.int .u64 (wd V 1))).setIfInBounds 3 (.int .u64 (wd V 2))).setIfInBounds 4 (.int .u64 (wd V 3))).setIfInBounds 5 (.int .u64 (wd V 4))).setIfInBounds 6 (.int .u64 (wd V 5))).setIfInBounds 7 (.int .i64 X) = pt 5 V X 0 := fun _ _ => rfl
  have hps6 : ∀ (V : Nat) (X : Int), ((((((((pt 0 0 0 0).setIfInBounds 0 (.int .u8 6)).setIfInBounds 1 (.int .u64 (wd V 0))).setIfInBounds 2 (.int .u64 (wd V 1))).setIfInBounds 3 (.int .u64 (wd V 2))).setIfInBounds 4 (.int .u64 (wd V 3))).setIfInBounds 5 (.int .u64 (wd V 4))).setIfInBounds 6 (.int .u64 (wd V 5))).setIfInBounds 7 (.int .i64 X) = pt 6 V X 0 := fun _ _ => rfl
  have AX := xP
  have AY := ptz
  have AZ : ∀ (c s : Nat) (x : Int) (r : Nat), ((pt c s x r).size = 14) = True := fun _ _ _ _ => eq_true rfl
  obtain ⟨Ar, B0⟩ := xJ w (Obj.cells #[.int .u64 0, .int .u64 0] 25)
  go_enter Tryz.func41, Tryz.ntmps41
  go_wp2_with fail
  refine (KF.out _).mono ?_
  rintro r w1 ⟨rfl, b1⟩
  have B1 := yD B0 b1
  have Af := zA b1 _ _ _ Ar
  clear b1 B0 Ar
  obtain ⟨Av, Aw⟩ := zG Af
  go_wp2_with fail
  refine (KG.out _).mono ?_
  rintro r w2 ⟨rfl, b2⟩
  have B2 := yD B1 b2
  have Ag := zA b2 _ _ _ Af
  clear b2 B1 Af Av Aw
  obtain ⟨Ax, Ay⟩ := zG Ag
  go_wp2_with fail
  refine (KR.out _).mono ?_
  rintro r w3 ⟨rfl, b3⟩
  have B3 := yD B2 b3
  have Ab := zA b3 _ _ _ Ag
  clear b3 B2 Ag Ax Ay
  obtain ⟨Az, AA⟩ := zG Ab
  have S4 := zK B3.size
  have As := yA Ab
  have Ah := heap_alloc_last w3 (Obj.cells (cw 6 V) 66)
  have B4 := yD B3 (xY w3 (Obj.cells (cw 6 V) 66))
  have Ai := zA (xY w3 (Obj.cells (cw 6 V) 66)) _ _ _ Ab
  clear B3 Ab Az AA
  obtain ⟨AB, AC⟩ := zG Ai
  have AD := zE Ah
  go_wp2_with fail
  refine (KW.out _).mono ?_
  rintro r w5 ⟨rfl, b5⟩
  have B5 := yD B4 b5
  obtain ⟨Aj, Ak⟩ := zV b5 Ai Ah
  clear b5 B4 Ai AB AC Ah AD
  obtain ⟨AE, AF⟩ := zG Aj
  have AG := zE Ak
  go_wp2_with fail
  refine (KL.out _).mono ?_
  rintro r w6 ⟨rfl, b6⟩
  have B6 := yD B5 b6
  obtain ⟨Al, Am⟩ := zV b6 Aj Ak
  clear b6 B5 Aj AE AF Ak AG
  obtain ⟨AH, AI⟩ := zG Al
  have AJ := zE Am
  go_wp2_with fail
  refine (KP.out _).mono ?_
  rintro r w7 ⟨rfl, b7⟩
  have B7 := yD B6 b7
  obtain ⟨An, Ao⟩ := zV b7 Al Am
  clear b7 B6 Al AH AI Am AJ
  obtain ⟨AK, AL⟩ := zG An
  have AM := zE Ao
  go_wp2_with fail
  refine (KK.out _).mono ?_
  rintro r w8 ⟨rfl, b8⟩
  have B8 := yD B7 b8
  obtain ⟨Ac, Ad⟩ := zV b8 An Ao
  clear b8 B7 An AK AL Ao AM
  obtain ⟨AN, AO⟩ := zG Ac
  have AP := zE Ad
  have S9 := zK B8.size
  have At := yA Ac
  have Au := yA Ad
  have Ap := heap_alloc_last w8 (Obj.cells #[.int .u64 i, .int .u64 j] 25)
  have B9 := yD B8 (xY w8 (Obj.cells #[.int .u64 i, .int .u64 j] 25))
  obtain ⟨Aa, Aq⟩ := zV (xY w8 (Obj.cells #[.int .u64 i, .int .u64 j] 25)) Ac Ad
  clear B8 Ac AN AO Ad AP
  obtain ⟨AQ, AR⟩ := zG Aa
  have AS := zE Aq
  obtain ⟨AT, AU⟩ := zG Ap
  rcases HF.out with ⟨h1, h2, h3⟩ | ⟨h1, KX⟩
  ·
   first | exact absurd h1 (by decide) | skip
   all_goals
    subst h2 h3
    have q0 := fz (k := 0) Aa
    have q1 := fz (k := 1) Aa
    obtain ⟨E0, E1⟩ := zM Aa (.int .u64 u) (.int .u64 v)
    go_wp2
    exact bodyPost_ret (v := .agg #[.int .u64 u, .int .u64 v]) (by simp [results, Tryz.results41, go_sem, E0, E1]) rfl ⟨rfl, zI B9 (by first | exact Nat.le_refl _ | omega | (have := S4.out; have := As.out; have := S9.out; have := At.out; have := Au.out; omega)) _ _⟩
  ·
   first | exact absurd h1 (by decide) | skip
   all_goals
    go_wp2_with fail
    refine (KX.out _).mono ?_
    rintro r w10 ⟨rfl, b10⟩
    have B10 := yD B9 b10
    obtain ⟨Ae, AV, AW⟩ := zZ b10 Aa Aq Ap
    clear b10 B9 Aa AQ AR Aq AS Ap AT AU
    obtain ⟨A0, A1⟩ := zG Ae
    have A2 := zE AV
    obtain ⟨A3, A4⟩ := zG AW
    have q0 := fz (k := 0) Ae
    have q1 := fz (k := 1) Ae
    obtain ⟨E0, E1⟩ := zM Ae (.int .u64 u) (.int .u64 v)
    go_wp2
    exact bodyPost_ret (v := .agg #[.int .u64 u, .int .u64 v]) (by simp [results, Tryz.results41, go_sem, E0, E1]) rfl ⟨rfl, zI B10 (by first | exact Nat.le_refl _ | omega | (have := S4.out; have := As.out; have := S9.out; have := At.out; have := Au.out; omega)) _ _⟩
theorem rg_nn (f : Int) (s m : ByteArray) (neg : Bool) (u v : Nat) (k : Nat) (t0 t1 : ByteArray) (V l : Nat) (E P X pe : Int) (i j : Nat) (w : World) (HS : zP ((neg = false ∧ m = s ∧ (s.toList == []) = true) ∨ (neg = false ∧ m = s ∧ (s.toList == []) = false ∧ ∃ h : 0 < s.size, ((s[0].toNat : Int) == 45) = false) ∨ (neg = true ∧ (s.toList == []) = false ∧ (∃ h : 0 < s.size, ((s[0].toNat : Int) == 45) = true) ∧ ∀ w, (Instr.slice 9 (.string s) (some (.int .i64 1)) none none).run Tryz.prog w = .ok (.string m) w)))
  (hi : (m.toList == [105, 110, 102]) = false)
  (hz : (m.toList == [48]) = false)
  (KF : zP (∀ w, Calls Tryz.prog 102 #[.string m, .int .u8 58] w fun r w' => r = .returned (.int .i64 (-1)) ∧ Below w.heap.size w w'))
  (KG : zP (∀ w, Calls Tryz.prog 102 #[.string m, .int .u8 112] w fun r w' => r = .returned (.int .i64 (k : Nat)) ∧ Below w.heap.size w w'))
  (hk : IntKind.i64.wrap ((k : Int) + 1) = (k : Int) + 1) (dk : decide ((0 : Int) ≤ (k : Int)) = true) (dk2 : decide ((k : Int) < 0) = false)
  (hs0 : ∀ w, (Instr.slice 9 (.string m) none (some (.int .i64 (k : Nat))) none).run Tryz.prog w = .ok (.string t0) w)
  (hs1 : ∀ w, (Instr.slice 9 (.string m) (some (.int .i64 ((k : Int) + 1))) none none).run Tryz.prog w = .ok (.string t1) w)
  (KR : zP (∀ w, Calls Tryz.prog 103 #[.string t0] w fun r w' => r = .returned (.tuple #[.agg (cw 6 V), .int .i64 E]) ∧ Below w.heap.size w w'))
  (KL : zP (∀ w, Calls Tryz.prog 82 #[.agg (cw 6 V)] w fun r w' => r = .returned (.int .i64 (l : Nat)) ∧ Below w.heap.size w w'))
  (KP : zP (∀ w, Calls Tryz.prog 87 #[.int .u8 f] w fun r w' => r = .returned (.int .i64 P) ∧ Below w.heap.size w w'))
  (KW : zP (∀ w, Calls Tryz.prog 106 #[.string t1] w fun r w' => r = .returned (.tuple #[.int .i64 X, .bool true]) ∧ Below w.heap.size w w'))
  (hl : decide ((l : Int) < P) = false)
  (KK : zP (∀ w, Calls Tryz.prog 107 #[.int .u8 f, .agg (pt 6 V X 0)] w fun r w' => r = .returned (.tuple #[.agg #[.int .u64 i, .int .u64 j], .int .i64 pe]) ∧ Below w.heap.size w w'))
  (HF : zP ((neg = false ∧ u = i ∧ v = j) ∨ (neg = true ∧ zP (∀ w, Calls Tryz.prog 108 #[.int .u8 f, .agg #[.int .u64 i, .int .u64 j]] w fun r w' => r = .returned (.agg #[.int .u64 u, .int .u64 v]) ∧ Below w.heap.size w w'))))
  : Calls Tryz.prog 41 #[.int .u8 f, .string s] w fun r w' => r = .returned (.agg #[.int .u64 u, .int .u64 v]) ∧ Below w.heap.size w w' := by
 rcases HS.out with ⟨rfl, rfl, g1⟩ | ⟨rfl, rfl, g1, g2, g3⟩ | ⟨rfl, g1, ⟨g2, g3⟩, g4⟩
 all_goals
  clear HS
  have hat := zU 6
  have hz := yB
  have hff := z8
  have hs0 := xO
  have hcs : ∀ x, ((cw 6 x).size = 6) = True := fun x => eq_true (zR 6 x)
  have hzi := cw_zip
  have hps5 : ∀ (V : Nat) (X : Int), ((((((((pt 0 0 0 0).setIfInBounds 0 (.int .u8 5)).setIfInBounds 1 (.int .u64 (wd V 0))).setIfInBounds 2 (.int .u64 (wd V 1))).setIfInBounds 3 (.int .u64 (wd V 2))).setIfInBounds 4 (.int .u64 (wd V 3))).setIfInBounds 5 (.int .u64 (wd V 4))).setIfInBounds 6 (.int .u64 (wd V 5))).setIfInBounds 7 (.int .i64 X) = pt 5 V X 0 := fun _ _ => rfl
  have hps6 : ∀ (V : Nat) (X : Int), ((((((((pt 0 0 0 0).setIfInBounds 0 (.int .u8 6)).setIfInBounds 1 (.int .u64 (wd V 0))).setIfInBounds 2 (.int .u64 (wd V 1))).setIfInBounds 3 (.int .u64 (wd V 2))).setIfInBounds 4 (.int .u64 (wd V 3))).setIfInBounds 5 (.int .u64 (wd V 4))).setIfInBounds 6 (.int .u64 (wd V 5))).setIfInBounds 7 (.int .i64 X) = pt 6 V X 0 := fun _ _ => rfl
  have AX := xP
  have AY := ptz
  have AZ : ∀ (c s : Nat) (x : Int) (r : Nat), ((pt c s x r).size = 14) = True := fun _ _ _ _ => eq_true rfl
  obtain ⟨Ar, B0⟩ := xJ w (Obj.cells #[.int .u64 0, .int .u64 0] 25)
  go_enter Tryz.func41, Tryz.ntmps41
  go_wp2_with fail
  refine (KF.out _).mono ?_
  rintro r w1 ⟨rfl, b1⟩
  have B1 := yD B0 b1
  have Af := zA b1 _ _ _ Ar
  clear b1 B0 Ar
  obtain ⟨Av, Aw⟩ := zG Af
  go_wp2_with fail
  refine (KG.out _).mono ?_
  rintro r w2 ⟨rfl, b2⟩
  have B2 := yD B1 b2
  have Ag := zA b2 _ _ _ Af
  clear b2 B1 Af Av Aw
  obtain ⟨Ax, Ay⟩ := zG Ag
  go_wp2_with fail
  refine (KR.out _).mono ?_
  rintro r w3 ⟨rfl, b3⟩
  have B3 := yD B2 b3
  have Ab := zA b3 _ _ _ Ag
  clear b3 B2 Ag Ax Ay
  obtain ⟨Az, AA⟩ := zG Ab
  have S4 := zK B3.size
  have As := yA Ab
  have Ah := heap_alloc_last w3 (Obj.cells (cw 6 V) 66)
  have B4 := yD B3 (xY w3 (Obj.cells (cw 6 V) 66))
  have Ai := zA (xY w3 (Obj.cells (cw 6 V) 66)) _ _ _ Ab
  clear B3 Ab Az AA
  obtain ⟨AB, AC⟩ := zG Ai
  have AD := zE Ah
  go_wp2_with fail
  refine (KW.out _).mono ?_
  rintro r w5 ⟨rfl, b5⟩
  have B5 := yD B4 b5
  obtain ⟨Aj, Ak⟩ := zV b5 Ai Ah
  clear b5 B4 Ai AB AC Ah AD
  obtain ⟨AE, AF⟩ := zG Aj
  have AG := zE Ak
  go_wp2_with fail
  refine (KL.out _).mono ?_
  rintro r w6 ⟨rfl, b6⟩
  have B6 := yD B5 b6
  obtain ⟨Al, Am⟩ := zV b6 Aj Ak
  clear b6 B5 Aj AE AF Ak AG
  obtain ⟨AH, AI⟩ := zG Al
  have AJ := zE Am
  go_wp2_with fail
  refine (KP.out _).mono ?_
  rintro r w7 ⟨rfl, b7⟩
  have B7 := yD B6 b7
  obtain ⟨An, Ao⟩ := zV b7 Al Am
  clear b7 B6 Al AH AI Am AJ
  obtain ⟨AK, AL⟩ := zG An
  have AM := zE Ao
  go_wp2_with fail
  refine (KK.out _).mono ?_
  rintro r w8 ⟨rfl, b8⟩
  have B8 := yD B7 b8
  obtain ⟨Ac, Ad⟩ := zV b8 An Ao
  clear b8 B7 An AK AL Ao AM
  obtain ⟨AN, AO⟩ := zG Ac
  have AP := zE Ad
  have S9 := zK B8.size
  have At := yA Ac
  have Au := yA Ad
  have Ap := heap_alloc_last w8 (Obj.cells #[.int .u64 i, .int .u64 j] 25)
  have B9 := yD B8 (xY w8 (Obj.cells #[.int .u64 i, .int .u64 j] 25))
  obtain ⟨Aa, Aq⟩ := zV (xY w8 (Obj.cells #[.int .u64 i, .int .u64 j] 25)) Ac Ad
  clear B8 Ac AN AO Ad AP
  obtain ⟨AQ, AR⟩ := zG Aa
  have AS := zE Aq
  obtain ⟨AT, AU⟩ := zG Ap
  rcases HF.out with ⟨h1, h2, h3⟩ | ⟨h1, KX⟩
  ·
   first | exact absurd h1 (by decide) | skip
   all_goals
    subst h2 h3
    have q0 := fz (k := 0) Aa
    have q1 := fz (k := 1) Aa
    obtain ⟨E0, E1⟩ := zM Aa (.int .u64 u) (.int .u64 v)
    go_wp2
    exact bodyPost_ret (v := .agg #[.int .u64 u, .int .u64 v]) (by simp [results, Tryz.results41, go_sem, E0, E1]) rfl ⟨rfl, zI B9 (by first | exact Nat.le_refl _ | omega | (have := S4.out; have := As.out; have := S9.out; have := At.out; have := Au.out; omega)) _ _⟩
  ·
   first | exact absurd h1 (by decide) | skip
   all_goals
    go_wp2_with fail
    refine (KX.out _).mono ?_
    rintro r w10 ⟨rfl, b10⟩
    have B10 := yD B9 b10
    obtain ⟨Ae, AV, AW⟩ := zZ b10 Aa Aq Ap
    clear b10 B9 Aa AQ AR Aq AS Ap AT AU
    obtain ⟨A0, A1⟩ := zG Ae
    have A2 := zE AV
    obtain ⟨A3, A4⟩ := zG AW
    have q0 := fz (k := 0) Ae
    have q1 := fz (k := 1) Ae
    obtain ⟨E0, E1⟩ := zM Ae (.int .u64 u) (.int .u64 v)
    go_wp2
    exact bodyPost_ret (v := .agg #[.int .u64 u, .int .u64 v]) (by simp [results, Tryz.results41, go_sem, E0, E1]) rfl ⟨rfl, zI B10 (by first | exact Nat.le_refl _ | omega | (have := S4.out; have := As.out; have := S9.out; have := At.out; have := Au.out; omega)) _ _⟩
theorem qeq {c : Nat} {k : Int} (h : (c : Int) = k) : ((c : Int) == k) = true := by rw [h]; exact beq_self_eq_true k
theorem qne {c : Nat} {k : Int} (h : (c : Int) ≠ k) : ((c : Int) == k) = false := beq_eq_false_iff_ne.2 h
theorem rText_is (f : Int) (hf : yT f) (x y n : Nat) (hx : x < 18446744073709551616) (hy : y < 18446744073709551616) (hn : y + 18446744073709551616 * x = n) (ho : okB f n = true) (v : ByteArray) (hv : (⟨(kTx f n).toArray⟩ : ByteArray) = v) (w : World) : Calls Tryz.prog 8 #[.int .u8 f, .agg #[.int .u64 x, .int .u64 y]] w fun r w' => r = .returned (.string v) ∧ Below w.heap.size w w' := by
 have f4 := yL hf
 have fit := (okB_yes f4.1 ho).2
 obtain ⟨s1, s2, s3⟩ := kS_lim hf n
 have r1 := kF_lim hf n
 obtain ⟨_, l1, l2, l3⟩ := mTx_len f hf n
 have cl := kC_lt f n
 have KU := zK (fun w => rUnpack_is f hf x y n hx hy hn fit w)
 have KS := fun o (h : kN f n = o) => zK (fun w => rSign_yes f hf x y n o hx hy hn ho h w)
 have KT := zK (fun w => rtext_any (kF f n) (yR r1) w)
 have KT2 := zK (fun w => rtext_any (kS f n) (yR s1) w)
 have KN := zK (fun w => rnum_is (kX f n) _ (by omega) (by omega) rfl w)
 have e1 : ∀ l : List UInt8, (⟨#[]⟩ : ByteArray) ++ ⟨l.toArray⟩ = ⟨l.toArray⟩ := fun l => xZ [] l
 have e2 : ∀ l : List UInt8, (⟨#[45]⟩ : ByteArray) ++ ⟨l.toArray⟩ = ⟨(45 :: l).toArray⟩ := fun l => xZ [45] l
 unfold kTx sTx at hv
 by_cases c8 : kC f n = 8
 ·
  rw [show mTx (kC f n) (kS f n) (kX f n) (kF f n) = [115, 110, 97, 110, 58] ++ tx (kF f n) by unfold mTx; rw [if_neg (by omega), if_pos c8]] at hv
  cases sg : kN f n <;> rw [sg] at hv
  ·
   exact rtx_sp f x y _ _ _ _ _ v w KU (KS _ sg) (qeq (by omega)) (by rw [yJ]; omega) KT (by rw [← hv]; show ((⟨#[]⟩ : ByteArray) ++ ⟨([115, 110, 97, 110, 58] : List UInt8).toArray⟩) ++ ⟨(tx (kF f n)).toArray⟩ = _; rw [e1, xZ]; rfl)
  ·
   exact rtx_sn f x y _ _ _ _ _ v w KU (KS _ sg) (qeq (by omega)) (by rw [yJ]; omega) KT (by rw [← hv]; show ((⟨#[45]⟩ : ByteArray) ++ ⟨([115, 110, 97, 110, 58] : List UInt8).toArray⟩) ++ ⟨(tx (kF f n)).toArray⟩ = _; rw [e2, xZ]; rfl)
 have h8 : ((kC f n : Int) == 8) = false := qne (by omega)
 by_cases c9 : kC f n = 9
 ·
  rw [show mTx (kC f n) (kS f n) (kX f n) (kF f n) = [110, 97, 110, 58] ++ tx (kF f n) by unfold mTx; rw [if_pos c9]] at hv
  cases sg : kN f n <;> rw [sg] at hv
  ·
   exact rtx_qp f x y _ _ _ _ _ v w KU (KS _ sg) h8 (qeq (by omega)) (by rw [yJ]; omega) KT (by rw [← hv]; show ((⟨#[]⟩ : ByteArray) ++ ⟨([110, 97, 110, 58] : List UInt8).toArray⟩) ++ ⟨(tx (kF f n)).toArray⟩ = _; rw [e1, xZ]; rfl)
  ·
   exact rtx_qn f x y _ _ _ _ _ v w KU (KS _ sg) h8 (qeq (by omega)) (by rw [yJ]; omega) KT (by rw [← hv]; show ((⟨#[45]⟩ : ByteArray) ++ ⟨([110, 97, 110, 58] : List UInt8).toArray⟩) ++ ⟨(tx (kF f n)).toArray⟩ = _; rw [e2, xZ]; rfl)
 have h9 : ((kC f n : Int) == 9) = false := qne (by omega)
 by_cases c0 : kC f n = 0 ∨ kC f n = 7
 ·
  rw [show mTx (kC f n) (kS f n) (kX f n) (kF f n) = [105, 110, 102] by unfold mTx; rw [if_neg c9, if_neg c8, if_pos c0]] at hv
  have q : ((kC f n : Int) == 0) = true ∨ (((kC f n : Int) == 0) = false ∧ ((kC f n : Int) == 7) = true) := by
   by_cases z : kC f n = 0
   ·
    exact Or.inl (qeq (by omega))
   ·
    exact Or.inr ⟨qne (by omega), qeq (by omega)⟩
  cases sg : kN f n <;> rw [sg] at hv
  ·
   exact rtx_ip f x y _ _ _ _ v w KU (KS _ sg) h8 h9 q (by rw [← hv]; exact e1 [105, 110, 102])
  ·
   exact rtx_in f x y _ _ _ _ v w KU (KS _ sg) h8 h9 q (by rw [← hv]; exact e2 [105, 110, 102])
 have h0 : ((kC f n : Int) == 0) = false := qne (by omega)
 have h7 : ((kC f n : Int) == 7) = false := qne (by omega)
 by_cases c3 : kC f n = 3 ∨ kC f n = 4
 ·
  rw [show mTx (kC f n) (kS f n) (kX f n) (kF f n) = [48] by unfold mTx; rw [if_neg c9, if_neg c8, if_neg c0, if_pos c3]] at hv
  have q : ((kC f n : Int) == 3) = true ∨ (((kC f n : Int) == 3) = false ∧ ((kC f n : Int) == 4) = true) := by
   by_cases z : kC f n = 3
   ·
    exact Or.inl (qeq (by omega))
   ·
    exact Or.inr ⟨qne (by omega), qeq (by omega)⟩
  cases sg : kN f n <;> rw [sg] at hv
  ·
   exact rtx_zp f x y _ _ _ _ v w KU (KS _ sg) h8 h9 h0 h7 q (by rw [← hv]; exact e1 [48])
  ·
   exact rtx_zn f x y _ _ _ _ v w KU (KS _ sg) h8 h9 h0 h7 q (by rw [← hv]; exact e2 [48])
 have h3 : ((kC f n : Int) == 3) = false := qne (by omega)
 have h4 : ((kC f n : Int) == 4) = false := qne (by omega)
 rw [show mTx (kC f n) (kS f n) (kX f n) (kF f n) = tx (kS f n) ++ [112] ++ Lib.itoa (kX f n) by unfold mTx; rw [if_neg c9, if_neg c8, if_neg c0, if_neg c3]] at hv
 cases sg : kN f n <;> rw [sg] at hv
 ·
  exact rtx_np f x y _ _ _ _ _ _ v w KU (KS _ sg) h8 h9 h0 h7 h3 h4 (by rw [yJ]; omega) (by rw [yJ]; omega) KT2 KN (by rw [← hv]; show ((⟨#[]⟩ : ByteArray) ++ ⟨(tx (kS f n)).toArray⟩) ++ ⟨([112] : List UInt8).toArray⟩ ++ ⟨(Lib.itoa (kX f n)).toArray⟩ = _; rw [e1, xZ, xZ]; rfl)
 ·
  exact rtx_nn f x y _ _ _ _ _ _ v w KU (KS _ sg) h8 h9 h0 h7 h3 h4 (by rw [yJ]; omega) (by rw [yJ]; omega) KT2 KN (by rw [← hv]; show ((⟨#[45]⟩ : ByteArray) ++ ⟨(tx (kS f n)).toArray⟩) ++ ⟨([112] : List UInt8).toArray⟩ ++ ⟨(Lib.itoa (kX f n)).toArray⟩ = _; rw [e2, xZ, xZ]; rfl)
theorem sgn_road (l : List UInt8) : ∃ (neg : Bool) (m : List UInt8), m.length ≤ l.length ∧ zP ((neg = false ∧ (⟨m.toArray⟩ : ByteArray) = ⟨l.toArray⟩ ∧ ((⟨l.toArray⟩ : ByteArray).toList == []) = true) ∨ (neg = false ∧ (⟨m.toArray⟩ : ByteArray) = ⟨l.toArray⟩ ∧ ((⟨l.toArray⟩ : ByteArray).toList == []) = false ∧ ∃ h : 0 < (⟨l.toArray⟩ : ByteArray).size, (((⟨l.toArray⟩ : ByteArray)[0].toNat : Int) == 45) = false) ∨ (neg = true ∧ ((⟨l.toArray⟩ : ByteArray).toList == []) = false ∧ (∃ h : 0 < (⟨l.toArray⟩ : ByteArray).size, (((⟨l.toArray⟩ : ByteArray)[0].toNat : Int) == 45) = true) ∧ ∀ w, (Instr.slice 9 (.string ⟨l.toArray⟩) (some (.int .i64 1)) none none).run Tryz.prog w = .ok (.string ⟨m.toArray⟩) w)) ∧
  l = sTx neg m ∧ ∀ (ng : Bool) (q : List UInt8), Lib.hasPrefix q [45] = false → l = sTx ng q → neg = ng ∧ m = q := by
 cases l with
 | nil =>
  refine ⟨false, [], Nat.le_refl _, zK (Or.inl ⟨rfl, rfl, by rw [ByteArray.toList_eq]; rfl⟩), rfl, fun ng q h e => ?_⟩
  cases ng
  ·
   exact ⟨rfl, e⟩
  ·
   exact absurd e (by unfold sTx; simp)
 | cons c t =>
  have ne : ((⟨(c :: t).toArray⟩ : ByteArray).toList == []) = false := xT _ _ (by simp)
  have hp : 0 < (⟨(c :: t).toArray⟩ : ByteArray).size := by rw [yJ]; simp
  have g0 : (⟨(c :: t).toArray⟩ : ByteArray)[0] = c := get_l _ 0 hp c rfl
  by_cases h : c = 45
  ·
   subst h
   refine ⟨true, t, by simp, zK (Or.inr (Or.inr ⟨rfl, ne, ⟨hp, by rw [g0]; rfl⟩, fun w => sl_from _ t 1 1 rfl (by simp) rfl w⟩)), rfl, fun ng q hq e => ?_⟩
   cases ng
   ·
    have e : 45 :: t = q := e
    subst e
    exact absurd hq (by unfold Lib.hasPrefix; simp [List.isPrefixOf])
   ·
    have e : 45 :: t = 45 :: q := e
    injection e with _ e
    exact ⟨rfl, e⟩
  ·
   refine ⟨false, c :: t, Nat.le_refl _, zK (Or.inr (Or.inl ⟨rfl, rfl, ne, hp, by rw [g0]; exact u8_ne (d := 45) h⟩)), rfl, fun ng q hq e => ?_⟩
   cases ng
   ·
    exact ⟨rfl, e⟩
   ·
    have e : c :: t = 45 :: q := e
    injection e with e _
    exact absurd e h
theorem rwhole_any (l : List UInt8) (hl : l.length ≤ 1000000000) : ∃ (n : Int) (o : Bool), (-1000000 ≤ n ∧ n ≤ 1000000) ∧ zP (∀ w, Calls Tryz.prog 106 #[.string ⟨l.toArray⟩] w fun r w' => r = .returned (.tuple #[.int .i64 n, .bool o]) ∧ Below w.heap.size w w') ∧ ∀ X : Int, -20000 ≤ X → X ≤ 20000 → l = Lib.itoa X → n = X ∧ o = true := by
 obtain ⟨neg, m, ml, HS, e0, uq⟩ := sgn_road l
 have back : ∀ X : Int, -20000 ≤ X → X ≤ 20000 → l = Lib.itoa X → neg = decide (X < 0) ∧ m = Lib.decDigits X.natAbs := fun X x1 x2 e => by
  have hd : Lib.hasPrefix (Lib.decDigits X.natAbs) [45] = false := by
   cases hh : Lib.decDigits X.natAbs with
   | nil => rfl
   | cons b r =>
    have := (dec_byte X.natAbs b (by rw [hh]; exact List.mem_cons_self ..)).2.2.1
    unfold Lib.hasPrefix
    simp [List.isPrefixOf, Ne.symm this]
  refine uq _ _ hd ?_
  rw [e]
  unfold Lib.itoa sTx
  by_cases h : X < 0
  ·
   rw [if_pos h, decide_eq_true h]
   rfl
  ·
   rw [if_neg h, decide_eq_false h]
   show Lib.decDigits X.toNat = Lib.decDigits X.natAbs
   congr 1
   omega
 by_cases c1 : 1 ≤ m.length ∧ m.length ≤ 6
 ·
  have HG : zP (∀ k (h : k < (⟨m.toArray⟩ : ByteArray).size) c, m[k]? = some c → (⟨m.toArray⟩ : ByteArray)[k] = c) := zK (fun k h c hc => get_l m k h c hc)
  have HS2 : zP ((neg = false ∧ (⟨l.toArray⟩ : ByteArray) = ⟨m.toArray⟩ ∧ ∃ c0 : UInt8, m[0]? = some c0 ∧ ((c0.toNat : Int) == 45) = false) ∨ (neg = true ∧ ((⟨l.toArray⟩ : ByteArray).toList == []) = false ∧ (∃ h : 0 < (⟨l.toArray⟩ : ByteArray).size, (((⟨l.toArray⟩ : ByteArray)[0].toNat : Int) == 45) = true) ∧ ∀ w, (Instr.slice 9 (.string ⟨l.toArray⟩) (some (.int .i64 1)) none none).run Tryz.prog w = .ok (.string ⟨m.toArray⟩) w)) := by
   rcases HS.out with ⟨q1, q2, q3⟩ | ⟨q1, q2, q3, q4, q5⟩ | q
   ·
    exfalso
    rw [← q2] at q3
    rw [xT m [] (by intro z; rw [z] at c1; simp at c1)] at q3
    exact absurd q3 (by decide)
   ·
    refine zK (Or.inl ⟨q1, q2.symm, ?_⟩)
    have hm : m = l := by
     have := congrArg (fun b : ByteArray => b.data.toList) q2
     simpa using this
    subst hm
    have h0 : 0 < m.length := by omega
    refine ⟨m[0]'h0, List.getElem?_eq_getElem h0, ?_⟩
    have := get_l m 0 q4 (m[0]'h0) (List.getElem?_eq_getElem h0)
    rw [this] at q5
    exact q5
   ·
    exact zK (Or.inr q)
  cases hd : Lib.decFrom 0 m with
  | none =>
   refine ⟨0, false, by omega, zK (fun w => rwhole_go neg _ ⟨m.toArray⟩ m 0 false c1.1 c1.2 (yJ m) HG HS2 (zK (Or.inr ⟨hd, rfl, rfl⟩)) w), fun X x1 x2 e => ?_⟩
   obtain ⟨b1, b2⟩ := back X x1 x2 e
   rw [b2, dec_val] at hd
   exact absurd hd (by simp)
  | some k =>
   have kb : k < 1000000 := dec_lt6 m k c1.2 hd
   refine ⟨if neg = true then -(k : Int) else (k : Int), true, by split <;> omega, zK (fun w => rwhole_go neg _ ⟨m.toArray⟩ m _ true c1.1 c1.2 (yJ m) HG HS2 (zK (Or.inl ⟨k, hd, rfl, rfl⟩)) w), fun X x1 x2 e => ?_⟩
   obtain ⟨b1, b2⟩ := back X x1 x2 e
   rw [b2, dec_val] at hd
   injection hd with hd
   refine ⟨?_, rfl⟩
   rw [← hd, b1]
   by_cases h : X < 0
   ·
    rw [decide_eq_true h, if_pos rfl]
    omega
   ·
    rw [decide_eq_false h, if_neg (by decide)]
    omega
 ·
  refine ⟨0, false, by omega, zK (fun w => rwhole_no _ ⟨m.toArray⟩ neg HS (zK ?_) w), fun X x1 x2 e => ?_⟩
  ·
   by_cases z : m = []
   ·
    subst z
    exact Or.inl (by rw [ByteArray.toList_eq]; rfl)
   ·
    refine Or.inr ⟨xT _ _ z, decide_eq_true ?_⟩
    have : 0 < m.length := List.length_pos_iff.2 z
    rw [yJ]
    omega
  ·
   exfalso
   obtain ⟨b1, b2⟩ := back X x1 x2 e
   have z := Lib.decDigits_length X.natAbs
   have d5 := dec_le 5 X.natAbs (by decide) (by omega)
   have p1 : 0 < (Lib.decDigits X.natAbs).length := List.length_pos_iff.2 (dec_ne _)
   rw [b2] at c1
   omega
end Go.Proofs.YtkblmpmkchkpjaaGreatDoor
