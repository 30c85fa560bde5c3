/-
  What the functions that the statement reaches return: part 23 (Z2, Z3, Z4).
-/
import Derived.Test.YtapikkbifdldfaaGreatDoorDq22
namespace Go.Proofs.YtapikkbifdldfaaGreatDoor
set_option maxRecDepth 100000
set_option maxHeartbeats 40000000
set_option maxRecDepth 100000
open Go.RowKit WMath
set_option linter.unusedSimpArgs false
set_option linter.unusedVariables false
theorem rdv_no (f m : Int) (x1 y1 x2 y2 : Nat) (w : World)
  (KF : Box (∀ (T : TypeId) (g : Nat) (w : World), w.heap.size = g → Calls Tryz.prog 40 #[.int .u8 f, .int .u8 m, .slice (some ⟨g, 0, none⟩) 2 2] (w.alloc (.cells #[.int .u64 x1, .int .u64 y1, .int .u64 x2, .int .u64 y2] T)) fun r w' => r = .returned (.bool false) ∧ Below w.heap.size w w'))
  : Calls Tryz.prog 10 #[.int .u8 f, .int .u8 m, .agg #[.int .u64 x1, .int .u64 y1], .agg #[.int .u64 x2, .int .u64 y2]] w fun r w' => r = .returned (.tuple #[.agg #[.int .u64 0, .int .u64 0], .int .u8 0, .int .i64 2]) ∧ Below w.heap.size w w' := by
 obtain ⟨Ab, Ac, Ad, B0⟩ := opn3 w (Obj.cells #[.int .u64 x1, .int .u64 y1] 26) (Obj.cells #[.int .u64 x2, .int .u64 y2] 26) (Obj.cells #[.int .u64 0, .int .u64 0] 26)
 go_enter Tryz.func10, Tryz.ntmps10
 obtain ⟨Ae, Af⟩ := cells2s Ab
 obtain ⟨Ag, Ah⟩ := cells2s Ac
 go_wp2_with fail
 refine (KF.out _ _ (((w.alloc (Obj.cells #[.int .u64 x1, .int .u64 y1] 26)).alloc (Obj.cells #[.int .u64 x2, .int .u64 y2] 26)).alloc (Obj.cells #[.int .u64 0, .int .u64 0] 26)) (by first | rfl | simp only [size_al])).mono ?_
 rintro r w1 ⟨rfl, b1⟩
 have B1 := btr B0 b1
 obtain ⟨Ai, Aj, Aa⟩ := rws3 b1 Ab Ac Ad
 clear b1 B0 Ab Ae Af Ac Ag Ah Ad
 obtain ⟨Ak, Al⟩ := cells2s Ai
 obtain ⟨Am, An⟩ := cells2s Aj
 obtain ⟨Ao, Ap⟩ := cells2s Aa
 have q0 := fz (k := 0) Aa
 have q1 := fz (k := 1) Aa
 obtain ⟨E0, E1⟩ := set2_cells Aa (.int .u64 0) (.int .u64 0)
 go_wp2
 exact bodyPost_ret (v := .tuple #[.agg #[.int .u64 0, .int .u64 0], .int .u8 0, .int .i64 2]) (by simp [results, Tryz.results10, go_sem, E0, E1]) rfl ⟨rfl, set2_below B1 (by first | exact Nat.le_refl _ | omega | (skip; omega)) _ _⟩
theorem rdv_nx (f m : Int) (x1 y1 x2 y2 u v : Nat) (fl : Int) (w : World)
  (KF : Box (∀ (T : TypeId) (g : Nat) (w : World), w.heap.size = g → Calls Tryz.prog 40 #[.int .u8 f, .int .u8 m, .slice (some ⟨g, 0, none⟩) 2 2] (w.alloc (.cells #[.int .u64 x1, .int .u64 y1, .int .u64 x2, .int .u64 y2] T)) fun r w' => r = .returned (.bool true) ∧ Below w.heap.size w w'))
  (KN1 : Box (∀ w, Calls Tryz.prog 41 #[.int .u8 f, .agg #[.int .u64 x1, .int .u64 y1]] w fun r w' => r = .returned (.bool true) ∧ Below w.heap.size w w'))
  (KC : Box (∀ (T : TypeId) (g : Nat) (w : World), w.heap.size = g → Calls Tryz.prog 42 #[.int .u8 f, .slice (some ⟨g, 0, none⟩) 2 2] (w.alloc (.cells #[.int .u64 x1, .int .u64 y1, .int .u64 x2, .int .u64 y2] T)) fun r w' => r = .returned (.tuple #[.agg #[.int .u64 u, .int .u64 v], .int .u8 fl]) ∧ Below w.heap.size w w'))
  : Calls Tryz.prog 10 #[.int .u8 f, .int .u8 m, .agg #[.int .u64 x1, .int .u64 y1], .agg #[.int .u64 x2, .int .u64 y2]] w fun r w' => r = .returned (.tuple #[.agg #[.int .u64 u, .int .u64 v], .int .u8 fl, .int .i64 0]) ∧ Below w.heap.size w w' := by
 obtain ⟨Ad, Ae, Ak, B0⟩ := opn3 w (Obj.cells #[.int .u64 x1, .int .u64 y1] 26) (Obj.cells #[.int .u64 x2, .int .u64 y2] 26) (Obj.cells #[.int .u64 0, .int .u64 0] 26)
 go_enter Tryz.func10, Tryz.ntmps10
 obtain ⟨An, Ao⟩ := cells2s Ad
 obtain ⟨Ap, Aq⟩ := cells2s Ae
 go_wp2_with fail
 refine (KF.out _ _ (((w.alloc (Obj.cells #[.int .u64 x1, .int .u64 y1] 26)).alloc (Obj.cells #[.int .u64 x2, .int .u64 y2] 26)).alloc (Obj.cells #[.int .u64 0, .int .u64 0] 26)) (by first | rfl | simp only [size_al])).mono ?_
 rintro r w1 ⟨rfl, b1⟩
 have B1 := btr B0 b1
 obtain ⟨Af, Ag, Al⟩ := rws3 b1 Ad Ae Ak
 clear b1 B0 Ad An Ao Ae Ap Aq Ak
 obtain ⟨Ar, As⟩ := cells2s Af
 obtain ⟨At, Au⟩ := cells2s Ag
 go_wp2_with fail
 refine (KN1.out _).mono ?_
 rintro r w2 ⟨rfl, b2⟩
 have B2 := btr B1 b2
 obtain ⟨Ah, Ai, Am⟩ := rws3 b2 Af Ag Al
 clear b2 B1 Af Ar As Ag At Au Al
 obtain ⟨Av, Aw⟩ := cells2s Ah
 obtain ⟨Ax, Ay⟩ := cells2s Ai
 go_wp2_with fail
 refine (KC.out _ _ w2 (by first | rfl | simp only [size_al])).mono ?_
 rintro r w3 ⟨rfl, b3⟩
 have B3 := btr B2 b3
 obtain ⟨Aa, Ab, Aj⟩ := rws3 b3 Ah Ai Am
 clear b3 B2 Ah Av Aw Ai Ax Ay Am
 obtain ⟨Az, AA⟩ := cells2s Aa
 obtain ⟨AB, AC⟩ := cells2s Ab
 have S4 := box B3.size
 have AD := ltR Aa
 have AE := ltR Ab
 have AF := ltR Aj
 have AG := heap_alloc_last w3 (Obj.cells #[.int .u64 u, .int .u64 v] 26)
 have B4 := btr B3 (bal w3 (Obj.cells #[.int .u64 u, .int .u64 v] 26))
 obtain ⟨AH, AI, Ac⟩ := rws3 (bal w3 (Obj.cells #[.int .u64 u, .int .u64 v] 26)) Aa Ab Aj
 clear B3 Aa Az AA Ab AB AC Aj
 obtain ⟨AJ, AK⟩ := cells2s AH
 obtain ⟨AL, AM⟩ := cells2s AI
 obtain ⟨AN, AO⟩ := cells2s AG
 obtain ⟨AP, AQ⟩ := cells2s Ac
 have q0 := fz (k := 0) Ac
 have q1 := fz (k := 1) Ac
 obtain ⟨E0, E1⟩ := set2_cells Ac (.int .u64 u) (.int .u64 v)
 go_wp2
 exact bodyPost_ret (v := .tuple #[.agg #[.int .u64 u, .int .u64 v], .int .u8 fl, .int .i64 0]) (by simp [results, Tryz.results10, go_sem, E0, E1]) rfl ⟨rfl, set2_below B4 (by first | exact Nat.le_refl _ | omega | (have := S4.out; have := AD.out; have := AE.out; have := AF.out; omega)) _ _⟩
theorem rdv_ny (f m : Int) (x1 y1 x2 y2 u v : Nat) (fl : Int) (w : World)
  (KF : Box (∀ (T : TypeId) (g : Nat) (w : World), w.heap.size = g → Calls Tryz.prog 40 #[.int .u8 f, .int .u8 m, .slice (some ⟨g, 0, none⟩) 2 2] (w.alloc (.cells #[.int .u64 x1, .int .u64 y1, .int .u64 x2, .int .u64 y2] T)) fun r w' => r = .returned (.bool true) ∧ Below w.heap.size w w'))
  (KN1 : Box (∀ w, Calls Tryz.prog 41 #[.int .u8 f, .agg #[.int .u64 x1, .int .u64 y1]] w fun r w' => r = .returned (.bool false) ∧ Below w.heap.size w w'))
  (KN2 : Box (∀ w, Calls Tryz.prog 41 #[.int .u8 f, .agg #[.int .u64 x2, .int .u64 y2]] w fun r w' => r = .returned (.bool true) ∧ Below w.heap.size w w'))
  (KC : Box (∀ (T : TypeId) (g : Nat) (w : World), w.heap.size = g → Calls Tryz.prog 42 #[.int .u8 f, .slice (some ⟨g, 0, none⟩) 2 2] (w.alloc (.cells #[.int .u64 x1, .int .u64 y1, .int .u64 x2, .int .u64 y2] T)) fun r w' => r = .returned (.tuple #[.agg #[.int .u64 u, .int .u64 v], .int .u8 fl]) ∧ Below w.heap.size w w'))
  : Calls Tryz.prog 10 #[.int .u8 f, .int .u8 m, .agg #[.int .u64 x1, .int .u64 y1], .agg #[.int .u64 x2, .int .u64 y2]] w fun r w' => r = .returned (.tuple #[.agg #[.int .u64 u, .int .u64 v], .int .u8 fl, .int .i64 0]) ∧ Below w.heap.size w w' := by
 obtain ⟨Ad, Ae, Am, B0⟩ := opn3 w (Obj.cells #[.int .u64 x1, .int .u64 y1] 26) (Obj.cells #[.int .u64 x2, .int .u64 y2] 26) (Obj.cells #[.int .u64 0, .int .u64 0] 26)
 go_enter Tryz.func10, Tryz.ntmps10
 obtain ⟨Aq, Ar⟩ := cells2s Ad
 obtain ⟨As, At⟩ := cells2s Ae
 go_wp2_with fail
 refine (KF.out _ _ (((w.alloc (Obj.cells #[.int .u64 x1, .int .u64 y1] 26)).alloc (Obj.cells #[.int .u64 x2, .int .u64 y2] 26)).alloc (Obj.cells #[.int .u64 0, .int .u64 0] 26)) (by first | rfl | simp only [size_al])).mono ?_
 rintro r w1 ⟨rfl, b1⟩
 have B1 := btr B0 b1
 obtain ⟨Af, Ag, An⟩ := rws3 b1 Ad Ae Am
 clear b1 B0 Ad Aq Ar Ae As At Am
 obtain ⟨Au, Av⟩ := cells2s Af
 obtain ⟨Aw, Ax⟩ := cells2s Ag
 go_wp2_with fail
 refine (KN1.out _).mono ?_
 rintro r w2 ⟨rfl, b2⟩
 have B2 := btr B1 b2
 obtain ⟨Ah, Ai, Ao⟩ := rws3 b2 Af Ag An
 clear b2 B1 Af Au Av Ag Aw Ax An
 obtain ⟨Ay, Az⟩ := cells2s Ah
 obtain ⟨AA, AB⟩ := cells2s Ai
 go_wp2_with fail
 refine (KN2.out _).mono ?_
 rintro r w3 ⟨rfl, b3⟩
 have B3 := btr B2 b3
 obtain ⟨Aj, Ak, Ap⟩ := rws3 b3 Ah Ai Ao
 clear b3 B2 Ah Ay Az Ai AA AB Ao
 obtain ⟨AC, AD⟩ := cells2s Aj
 obtain ⟨AE, AF⟩ := cells2s Ak
 go_wp2_with fail
 refine (KC.out _ _ w3 (by first | rfl | simp only [size_al])).mono ?_
 rintro r w4 ⟨rfl, b4⟩
 have B4 := btr B3 b4
 obtain ⟨Aa, Ab, Al⟩ := rws3 b4 Aj Ak Ap
 clear b4 B3 Aj AC AD Ak AE AF Ap
 obtain ⟨AG, AH⟩ := cells2s Aa
 obtain ⟨AI, AJ⟩ := cells2s Ab
 have S5 := box B4.size
 have AK := ltR Aa
 have AL := ltR Ab
 have AM := ltR Al
 have AN := heap_alloc_last w4 (Obj.cells #[.int .u64 u, .int .u64 v] 26)
 have B5 := btr B4 (bal w4 (Obj.cells #[.int .u64 u, .int .u64 v] 26))
 obtain ⟨AO, AP, Ac⟩ := rws3 (bal w4 (Obj.cells #[.int .u64 u, .int .u64 v] 26)) Aa Ab Al
 clear B4 Aa AG AH Ab AI AJ Al
 obtain ⟨AQ, AR⟩ := cells2s AO
 obtain ⟨AS, AT⟩ := cells2s AP
 obtain ⟨AU, AV⟩ := cells2s AN
 obtain ⟨AW, AX⟩ := cells2s Ac
 have q0 := fz (k := 0) Ac
 have q1 := fz (k := 1) Ac
 obtain ⟨E0, E1⟩ := set2_cells Ac (.int .u64 u) (.int .u64 v)
 go_wp2
 exact bodyPost_ret (v := .tuple #[.agg #[.int .u64 u, .int .u64 v], .int .u8 fl, .int .i64 0]) (by simp [results, Tryz.results10, go_sem, E0, E1]) rfl ⟨rfl, set2_below B5 (by first | exact Nat.le_refl _ | omega | (have := S5.out; have := AK.out; have := AL.out; have := AM.out; omega)) _ _⟩
theorem rdv_all (f m : Int) (x1 y1 x2 y2 u v : Nat) (s1 s2 neg : Bool) (hng : (!(s1 == s2)) = neg) (b1 : Bool) (n1 d1 : ByteArray) (e1 : Int) (b2 : Bool) (n2 d2 : ByteArray) (e2 : Int) (b3 : Bool) (n3 d3 : ByteArray) (e3 g3 fl : Int) (w : World)
  (KF : Box (∀ (T : TypeId) (g : Nat) (w : World), w.heap.size = g → Calls Tryz.prog 40 #[.int .u8 f, .int .u8 m, .slice (some ⟨g, 0, none⟩) 2 2] (w.alloc (.cells #[.int .u64 x1, .int .u64 y1, .int .u64 x2, .int .u64 y2] T)) fun r w' => r = .returned (.bool true) ∧ Below w.heap.size w w'))
  (KN1 : Box (∀ w, Calls Tryz.prog 41 #[.int .u8 f, .agg #[.int .u64 x1, .int .u64 y1]] w fun r w' => r = .returned (.bool false) ∧ Below w.heap.size w w'))
  (KN2 : Box (∀ w, Calls Tryz.prog 41 #[.int .u8 f, .agg #[.int .u64 x2, .int .u64 y2]] w fun r w' => r = .returned (.bool false) ∧ Below w.heap.size w w'))
  (KS1 : Box (∀ w, Calls Tryz.prog 43 #[.int .u8 f, .agg #[.int .u64 x1, .int .u64 y1]] w fun r w' => r = .returned (.bool s1) ∧ Below w.heap.size w w'))
  (KS2 : Box (∀ w, Calls Tryz.prog 43 #[.int .u8 f, .agg #[.int .u64 x2, .int .u64 y2]] w fun r w' => r = .returned (.bool s2) ∧ Below w.heap.size w w'))
  (H : Box ((Box (∀ w, Calls Tryz.prog 31 #[.int .u8 f, .agg #[.int .u64 x1, .int .u64 y1]] w fun r w' => r = .returned (.bool true) ∧ Below w.heap.size w w') ∧ Box (∀ w, Calls Tryz.prog 31 #[.int .u8 f, .agg #[.int .u64 x2, .int .u64 y2]] w fun r w' => r = .returned (.bool true) ∧ Below w.heap.size w w') ∧ Box (∀ w, Calls Tryz.prog 45 #[.int .u8 f] w fun r w' => r = .returned (.agg #[.int .u64 u, .int .u64 v]) ∧ Below w.heap.size w w') ∧ fl = 16) ∨
   (Box (∀ w, Calls Tryz.prog 31 #[.int .u8 f, .agg #[.int .u64 x1, .int .u64 y1]] w fun r w' => r = .returned (.bool false) ∧ Below w.heap.size w w') ∧ Box (∀ w, Calls Tryz.prog 44 #[.int .u8 f, .agg #[.int .u64 x1, .int .u64 y1]] w fun r w' => r = .returned (.bool true) ∧ Below w.heap.size w w') ∧ Box (∀ w, Calls Tryz.prog 44 #[.int .u8 f, .agg #[.int .u64 x2, .int .u64 y2]] w fun r w' => r = .returned (.bool true) ∧ Below w.heap.size w w') ∧ Box (∀ w, Calls Tryz.prog 45 #[.int .u8 f] w fun r w' => r = .returned (.agg #[.int .u64 u, .int .u64 v]) ∧ Below w.heap.size w w') ∧ fl = 16) ∨
   (Box (∀ w, Calls Tryz.prog 31 #[.int .u8 f, .agg #[.int .u64 x1, .int .u64 y1]] w fun r w' => r = .returned (.bool true) ∧ Below w.heap.size w w') ∧ Box (∀ w, Calls Tryz.prog 31 #[.int .u8 f, .agg #[.int .u64 x2, .int .u64 y2]] w fun r w' => r = .returned (.bool false) ∧ Below w.heap.size w w') ∧ Box (∀ w, Calls Tryz.prog 44 #[.int .u8 f, .agg #[.int .u64 x1, .int .u64 y1]] w fun r w' => r = .returned (.bool false) ∧ Below w.heap.size w w') ∧ Box (∀ w, Calls Tryz.prog 46 #[.int .u8 f, .bool neg] w fun r w' => r = .returned (.agg #[.int .u64 u, .int .u64 v]) ∧ Below w.heap.size w w') ∧ fl = 0) ∨
   (Box (∀ w, Calls Tryz.prog 31 #[.int .u8 f, .agg #[.int .u64 x1, .int .u64 y1]] w fun r w' => r = .returned (.bool false) ∧ Below w.heap.size w w') ∧ Box (∀ w, Calls Tryz.prog 44 #[.int .u8 f, .agg #[.int .u64 x1, .int .u64 y1]] w fun r w' => r = .returned (.bool false) ∧ Below w.heap.size w w') ∧ Box (∀ w, Calls Tryz.prog 31 #[.int .u8 f, .agg #[.int .u64 x2, .int .u64 y2]] w fun r w' => r = .returned (.bool true) ∧ Below w.heap.size w w') ∧ Box (∀ w, Calls Tryz.prog 47 #[.int .u8 f, .bool neg] w fun r w' => r = .returned (.agg #[.int .u64 u, .int .u64 v]) ∧ Below w.heap.size w w') ∧ fl = 0) ∨
   (Box (∀ w, Calls Tryz.prog 31 #[.int .u8 f, .agg #[.int .u64 x1, .int .u64 y1]] w fun r w' => r = .returned (.bool false) ∧ Below w.heap.size w w') ∧ Box (∀ w, Calls Tryz.prog 44 #[.int .u8 f, .agg #[.int .u64 x1, .int .u64 y1]] w fun r w' => r = .returned (.bool true) ∧ Below w.heap.size w w') ∧ Box (∀ w, Calls Tryz.prog 44 #[.int .u8 f, .agg #[.int .u64 x2, .int .u64 y2]] w fun r w' => r = .returned (.bool false) ∧ Below w.heap.size w w') ∧ Box (∀ w, Calls Tryz.prog 31 #[.int .u8 f, .agg #[.int .u64 x2, .int .u64 y2]] w fun r w' => r = .returned (.bool true) ∧ Below w.heap.size w w') ∧ Box (∀ w, Calls Tryz.prog 47 #[.int .u8 f, .bool neg] w fun r w' => r = .returned (.agg #[.int .u64 u, .int .u64 v]) ∧ Below w.heap.size w w') ∧ fl = 0) ∨
   (Box (∀ w, Calls Tryz.prog 31 #[.int .u8 f, .agg #[.int .u64 x1, .int .u64 y1]] w fun r w' => r = .returned (.bool false) ∧ Below w.heap.size w w') ∧ Box (∀ w, Calls Tryz.prog 44 #[.int .u8 f, .agg #[.int .u64 x1, .int .u64 y1]] w fun r w' => r = .returned (.bool true) ∧ Below w.heap.size w w') ∧ Box (∀ w, Calls Tryz.prog 44 #[.int .u8 f, .agg #[.int .u64 x2, .int .u64 y2]] w fun r w' => r = .returned (.bool false) ∧ Below w.heap.size w w') ∧ Box (∀ w, Calls Tryz.prog 31 #[.int .u8 f, .agg #[.int .u64 x2, .int .u64 y2]] w fun r w' => r = .returned (.bool false) ∧ Below w.heap.size w w') ∧ Box (∀ w, Calls Tryz.prog 47 #[.int .u8 f, .bool neg] w fun r w' => r = .returned (.agg #[.int .u64 u, .int .u64 v]) ∧ Below w.heap.size w w') ∧ fl = 0) ∨
   (Box (∀ w, Calls Tryz.prog 31 #[.int .u8 f, .agg #[.int .u64 x1, .int .u64 y1]] w fun r w' => r = .returned (.bool false) ∧ Below w.heap.size w w') ∧ Box (∀ w, Calls Tryz.prog 44 #[.int .u8 f, .agg #[.int .u64 x1, .int .u64 y1]] w fun r w' => r = .returned (.bool false) ∧ Below w.heap.size w w') ∧ Box (∀ w, Calls Tryz.prog 31 #[.int .u8 f, .agg #[.int .u64 x2, .int .u64 y2]] w fun r w' => r = .returned (.bool false) ∧ Below w.heap.size w w') ∧ Box (∀ w, Calls Tryz.prog 44 #[.int .u8 f, .agg #[.int .u64 x2, .int .u64 y2]] w fun r w' => r = .returned (.bool true) ∧ Below w.heap.size w w') ∧ Box (∀ w, Calls Tryz.prog 46 #[.int .u8 f, .bool neg] w fun r w' => r = .returned (.agg #[.int .u64 u, .int .u64 v]) ∧ Below w.heap.size w w') ∧ fl = 8) ∨
   (Box (∀ w, Calls Tryz.prog 31 #[.int .u8 f, .agg #[.int .u64 x1, .int .u64 y1]] w fun r w' => r = .returned (.bool false) ∧ Below w.heap.size w w') ∧ Box (∀ w, Calls Tryz.prog 44 #[.int .u8 f, .agg #[.int .u64 x1, .int .u64 y1]] w fun r w' => r = .returned (.bool false) ∧ Below w.heap.size w w') ∧ Box (∀ w, Calls Tryz.prog 31 #[.int .u8 f, .agg #[.int .u64 x2, .int .u64 y2]] w fun r w' => r = .returned (.bool false) ∧ Below w.heap.size w w') ∧ Box (∀ w, Calls Tryz.prog 44 #[.int .u8 f, .agg #[.int .u64 x2, .int .u64 y2]] w fun r w' => r = .returned (.bool false) ∧ Below w.heap.size w w') ∧ Box (∀ w, Calls Tryz.prog 48 #[.int .u8 f, .agg #[.int .u64 x1, .int .u64 y1]] w fun r w' => r = .returned (.tuple #[.agg #[.bool b1, .string n1, .string d1, .int .i64 e1], .int .i64 0]) ∧ Below w.heap.size w w') ∧ Box (∀ w, Calls Tryz.prog 48 #[.int .u8 f, .agg #[.int .u64 x2, .int .u64 y2]] w fun r w' => r = .returned (.tuple #[.agg #[.bool b2, .string n2, .string d2, .int .i64 e2], .int .i64 0]) ∧ Below w.heap.size w w') ∧ Box (∀ w, Calls Tryz.prog 49 #[.agg #[.bool b1, .string n1, .string d1, .int .i64 e1], .agg #[.bool b2, .string n2, .string d2, .int .i64 e2]] w fun r w' => r = .returned (.tuple #[.agg #[.bool b3, .string n3, .string d3, .int .i64 e3], .int .i64 g3]) ∧ Below w.heap.size w w') ∧ Box (∀ w, Calls Tryz.prog 50 #[.int .u8 f, .int .u8 m, .agg #[.bool b3, .string n3, .string d3, .int .i64 e3]] w fun r w' => r = .returned (.tuple #[.agg #[.int .u64 u, .int .u64 v], .int .u8 fl, .int .i64 0]) ∧ Below w.heap.size w w'))))
  : Calls Tryz.prog 10 #[.int .u8 f, .int .u8 m, .agg #[.int .u64 x1, .int .u64 y1], .agg #[.int .u64 x2, .int .u64 y2]] w fun r w' => r = .returned (.tuple #[.agg #[.int .u64 u, .int .u64 v], .int .u8 fl, .int .i64 0]) ∧ Below w.heap.size w w' := by
 obtain ⟨A8, A9, By, B0⟩ := opn3 w (Obj.cells #[.int .u64 x1, .int .u64 y1] 26) (Obj.cells #[.int .u64 x2, .int .u64 y2] 26) (Obj.cells #[.int .u64 0, .int .u64 0] 26)
 go_enter Tryz.func10, Tryz.ntmps10
 obtain ⟨BF, BG⟩ := cells2s A8
 obtain ⟨BH, BI⟩ := cells2s A9
 go_wp2_with fail
 refine (KF.out _ _ (((w.alloc (Obj.cells #[.int .u64 x1, .int .u64 y1] 26)).alloc (Obj.cells #[.int .u64 x2, .int .u64 y2] 26)).alloc (Obj.cells #[.int .u64 0, .int .u64 0] 26)) (by first | rfl | simp only [size_al])).mono ?_
 rintro r w1 ⟨rfl, b1⟩
 have B1 := btr B0 b1
 obtain ⟨Ba, Bb, Bz⟩ := rws3 b1 A8 A9 By
 clear b1 B0 A8 BF BG A9 BH BI By
 obtain ⟨BJ, BK⟩ := cells2s Ba
 obtain ⟨BL, BM⟩ := cells2s Bb
 go_wp2_with fail
 refine (KN1.out _).mono ?_
 rintro r w2 ⟨rfl, b2⟩
 have B2 := btr B1 b2
 obtain ⟨Bc, Bd, BA⟩ := rws3 b2 Ba Bb Bz
 clear b2 B1 Ba BJ BK Bb BL BM Bz
 obtain ⟨BN, BO⟩ := cells2s Bc
 obtain ⟨BP, BQ⟩ := cells2s Bd
 go_wp2_with fail
 refine (KN2.out _).mono ?_
 rintro r w3 ⟨rfl, b3⟩
 have B3 := btr B2 b3
 obtain ⟨Be, Bf, BB⟩ := rws3 b3 Bc Bd BA
 clear b3 B2 Bc BN BO Bd BP BQ BA
 obtain ⟨BR, BS⟩ := cells2s Be
 obtain ⟨BT, BU⟩ := cells2s Bf
 have sS : Box (∀ W W1 : World, (Below w.heap.size w W ∧ W.heap[w.heap.size]? = some (.cells #[.int .u64 x1, .int .u64 y1] 26) ∧ W.heap[w.heap.size + 1]? = some (.cells #[.int .u64 x2, .int .u64 y2] 26) ∧ W.heap[w.heap.size + 1 + 1]? = some (.cells #[.int .u64 0, .int .u64 0] 26)) → Below W.heap.size W W1 → (Below w.heap.size w W1 ∧ W1.heap[w.heap.size]? = some (.cells #[.int .u64 x1, .int .u64 y1] 26) ∧ W1.heap[w.heap.size + 1]? = some (.cells #[.int .u64 x2, .int .u64 y2] 26) ∧ W1.heap[w.heap.size + 1 + 1]? = some (.cells #[.int .u64 0, .int .u64 0] 26))) := box (fun W W1 h b => ⟨btr h.1 b, heap_of b _ _ _ h.2.1, heap_of b _ _ _ h.2.2.1, heap_of b _ _ _ h.2.2.2⟩)
 have sC : Box (∀ W : World, (Below w.heap.size w W ∧ W.heap[w.heap.size]? = some (.cells #[.int .u64 x1, .int .u64 y1] 26) ∧ W.heap[w.heap.size + 1]? = some (.cells #[.int .u64 x2, .int .u64 y2] 26) ∧ W.heap[w.heap.size + 1 + 1]? = some (.cells #[.int .u64 0, .int .u64 0] 26)) → (Below w.heap.size w W ∧ W.heap[w.heap.size]? = some (.cells #[.int .u64 x1, .int .u64 y1] 26) ∧ W.heap[w.heap.size + 1]? = some (.cells #[.int .u64 x2, .int .u64 y2] 26) ∧ W.heap[w.heap.size + 1 + 1]? = some (.cells #[.int .u64 0, .int .u64 0] 26) ∧ W.cell? ⟨w.heap.size, 0, none⟩ = some (.int .u64 x1) ∧ W.cell? ⟨w.heap.size, 1, none⟩ = some (.int .u64 y1) ∧ W.cell? ⟨w.heap.size + 1, 0, none⟩ = some (.int .u64 x2) ∧ W.cell? ⟨w.heap.size + 1, 1, none⟩ = some (.int .u64 y2) ∧ W.cell? ⟨w.heap.size + 1 + 1, 0, none⟩ = some (.int .u64 0) ∧ W.cell? ⟨w.heap.size + 1 + 1, 1, none⟩ = some (.int .u64 0))) := box (fun W h => ⟨h.1, h.2.1, h.2.2.1, h.2.2.2, cell7 (h.2.1) 0 _ rfl, cell7 (h.2.1) 1 _ rfl, cell7 (h.2.2.1) 0 _ rfl, cell7 (h.2.2.1) 1 _ rfl, cell7 (h.2.2.2) 0 _ rfl, cell7 (h.2.2.2) 1 _ rfl⟩)
 have s0 : Below w.heap.size w (w3).drew ∧ (w3).drew.heap[w.heap.size]? = some (.cells #[.int .u64 x1, .int .u64 y1] 26) ∧ (w3).drew.heap[w.heap.size + 1]? = some (.cells #[.int .u64 x2, .int .u64 y2] 26) ∧ (w3).drew.heap[w.heap.size + 1 + 1]? = some (.cells #[.int .u64 0, .int .u64 0] 26) := ⟨B3.drew, Be, Bf, BB⟩
 go_wp2_with fail
 go_region_held3 (fun W => Below w.heap.size w W ∧ W.heap[w.heap.size]? = some (.cells #[.int .u64 x1, .int .u64 y1] 26) ∧ W.heap[w.heap.size + 1]? = some (.cells #[.int .u64 x2, .int .u64 y2] 26) ∧ W.heap[w.heap.size + 1 + 1]? = some (.cells #[.int .u64 0, .int .u64 0] 26) ∧ W.cell? ⟨w.heap.size, 0, none⟩ = some (.int .u64 x1) ∧ W.cell? ⟨w.heap.size, 1, none⟩ = some (.int .u64 y1) ∧ W.cell? ⟨w.heap.size + 1, 0, none⟩ = some (.int .u64 x2) ∧ W.cell? ⟨w.heap.size + 1, 1, none⟩ = some (.int .u64 y2) ∧ W.cell? ⟨w.heap.size + 1 + 1, 0, none⟩ = some (.int .u64 0) ∧ W.cell? ⟨w.heap.size + 1 + 1, 1, none⟩ = some (.int .u64 0)) (first | exact sC.out _ s1 | exact sC.out _ s0)
  (((first | (go_at_call_of 43 (Value.agg #[.int .u64 x1, .int .u64 y1]); (first | refine (KS1.out _).mono ?_ | refine (KS1.out _).mono ?_)) | (go_at_call_of 43 (Value.agg #[.int .u64 x2, .int .u64 y2]); (first | refine (KS2.out _).mono ?_ | refine (KS2.out _).mono ?_)) | fail); rintro r wq ⟨rfl, bq⟩; have s1 := (by first | exact sS.out _ _ s1 bq | exact sS.out _ _ s0 bq); clear bq))
 have B4 := (And.left s1)
 have Ap := s1.2.1
 have Aq := s1.2.2.1
 have Ar := s1.2.2.2
 clear s0 s1 sS sC B3 Be BR BS Bf BT BU BB
 obtain ⟨AQ, AR⟩ := cells2s Ap
 obtain ⟨AS, AT⟩ := cells2s Aq
 rcases H.out with ⟨KI1, KI2, KR, rfl⟩ | ⟨KI1, KZ1, KZ2, KR, rfl⟩ | ⟨KI1, KI2, KZ1, KR, rfl⟩ | ⟨KI1, KZ1, KI2, KR, rfl⟩ | ⟨KI1, KZ1, KZ2, KI2, KR, rfl⟩ | ⟨KI1, KZ1, KZ2, KI2, KR, rfl⟩ | ⟨KI1, KZ1, KI2, KZ2, KR, rfl⟩ | ⟨KI1, KZ1, KI2, KZ2, KV1, KV2, KM, KR⟩
 ·
  clear H
  go_wp2_with fail
  refine (KI1.out _).mono ?_
  rintro r w5 ⟨rfl, b5⟩
  have B5 := btr B4 b5
  obtain ⟨Aa, Ab, Aj⟩ := rws3 b5 Ap Aq Ar
  clear b5 B4 Ap AQ AR Aq AS AT Ar
  obtain ⟨As, At⟩ := cells2s Aa
  obtain ⟨Au, Av⟩ := cells2s Ab
  go_wp2_with fail
  refine (KI2.out _).mono ?_
  rintro r w6 ⟨rfl, b6⟩
  have B6 := btr B5 b6
  obtain ⟨Ac, Ad, Ak⟩ := rws3 b6 Aa Ab Aj
  clear b6 B5 Aa As At Ab Au Av Aj
  obtain ⟨Aw, Ax⟩ := cells2s Ac
  obtain ⟨Ay, Az⟩ := cells2s Ad
  go_wp2_with fail
  refine (KR.out _).mono ?_
  rintro r w7 ⟨rfl, b7⟩
  have B7 := btr B6 b7
  obtain ⟨Ae, Af, Ag⟩ := rws3 b7 Ac Ad Ak
  clear b7 B6 Ac Aw Ax Ad Ay Az Ak
  obtain ⟨AA, AB⟩ := cells2s Ae
  obtain ⟨AC, AD⟩ := cells2s Af
  obtain ⟨Dk, Dl⟩ := cells2s Ag
  have q0 := fz (k := 0) Ag
  have q1 := fz (k := 1) Ag
  obtain ⟨E0, E1⟩ := set2_cells Ag (.int .u64 u) (.int .u64 v)
  go_wp2
  exact bodyPost_ret (v := .tuple #[.agg #[.int .u64 u, .int .u64 v], .int .u8 16, .int .i64 0]) (by simp [results, Tryz.results10, go_sem, E0, E1]) rfl ⟨rfl, set2_below B7 (by first | exact Nat.le_refl _ | omega | (skip; omega)) _ _⟩
 ·
  clear H
  go_wp2_with fail
  refine (KI1.out _).mono ?_
  rintro r w5 ⟨rfl, b5⟩
  have B5 := btr B4 b5
  obtain ⟨Aa, Ab, Aj⟩ := rws3 b5 Ap Aq Ar
  clear b5 B4 Ap AQ AR Aq AS AT Ar
  obtain ⟨As, At⟩ := cells2s Aa
  obtain ⟨Au, Av⟩ := cells2s Ab
  go_wp2_with fail
  refine (KZ1.out _).mono ?_
  rintro r w6 ⟨rfl, b6⟩
  have B6 := btr B5 b6
  obtain ⟨Ac, Ad, Ak⟩ := rws3 b6 Aa Ab Aj
  clear b6 B5 Aa As At Ab Au Av Aj
  obtain ⟨Aw, Ax⟩ := cells2s Ac
  obtain ⟨Ay, Az⟩ := cells2s Ad
  go_wp2_with fail
  refine (KZ2.out _).mono ?_
  rintro r w7 ⟨rfl, b7⟩
  have B7 := btr B6 b7
  obtain ⟨Ae, Af, Ag⟩ := rws3 b7 Ac Ad Ak
  clear b7 B6 Ac Aw Ax Ad Ay Az Ak
  obtain ⟨AA, AB⟩ := cells2s Ae
  obtain ⟨AC, AD⟩ := cells2s Af
  go_wp2_with fail
  refine (KR.out _).mono ?_
  rintro r w8 ⟨rfl, b8⟩
  have B8 := btr B7 b8
  obtain ⟨Ah, Ai, Al⟩ := rws3 b8 Ae Af Ag
  clear b8 B7 Ae AA AB Af AC AD Ag
  obtain ⟨AI, AJ⟩ := cells2s Ah
  obtain ⟨AK, AL⟩ := cells2s Ai
  obtain ⟨Dm, Dn⟩ := cells2s Al
  have q0 := fz (k := 0) Al
  have q1 := fz (k := 1) Al
  obtain ⟨E0, E1⟩ := set2_cells Al (.int .u64 u) (.int .u64 v)
  go_wp2
  exact bodyPost_ret (v := .tuple #[.agg #[.int .u64 u, .int .u64 v], .int .u8 16, .int .i64 0]) (by simp [results, Tryz.results10, go_sem, E0, E1]) rfl ⟨rfl, set2_below B8 (by first | exact Nat.le_refl _ | omega | (skip; omega)) _ _⟩
 ·
  clear H
  go_wp2_with fail
  refine (KI1.out _).mono ?_
  rintro r w5 ⟨rfl, b5⟩
  have B5 := btr B4 b5
  obtain ⟨Aa, Ab, Aj⟩ := rws3 b5 Ap Aq Ar
  clear b5 B4 Ap AQ AR Aq AS AT Ar
  obtain ⟨As, At⟩ := cells2s Aa
  obtain ⟨Au, Av⟩ := cells2s Ab
  go_wp2_with fail
  refine (KI2.out _).mono ?_
  rintro r w6 ⟨rfl, b6⟩
  have B6 := btr B5 b6
  obtain ⟨Ac, Ad, Ak⟩ := rws3 b6 Aa Ab Aj
  clear b6 B5 Aa As At Ab Au Av Aj
  obtain ⟨Aw, Ax⟩ := cells2s Ac
  obtain ⟨Ay, Az⟩ := cells2s Ad
  go_wp2_with fail
  refine (KZ1.out _).mono ?_
  rintro r w7 ⟨rfl, b7⟩
  have B7 := btr B6 b7
  obtain ⟨Ae, Af, Ag⟩ := rws3 b7 Ac Ad Ak
  clear b7 B6 Ac Aw Ax Ad Ay Az Ak
  obtain ⟨AA, AB⟩ := cells2s Ae
  obtain ⟨AC, AD⟩ := cells2s Af
  go_wp2_with fail
  refine (KI1.out _).mono ?_
  rintro r w8 ⟨rfl, b8⟩
  have B8 := btr B7 b8
  obtain ⟨Ah, Ai, Al⟩ := rws3 b8 Ae Af Ag
  clear b8 B7 Ae AA AB Af AC AD Ag
  obtain ⟨AI, AJ⟩ := cells2s Ah
  obtain ⟨AK, AL⟩ := cells2s Ai
  go_wp2_with fail
  refine (KR.out _).mono ?_
  rintro r w9 ⟨rfl, b9⟩
  have B9 := btr B8 b9
  obtain ⟨An, Ao, Am⟩ := rws3 b9 Ah Ai Al
  clear b9 B8 Ah AI AJ Ai AK AL Al
  obtain ⟨AM, AN⟩ := cells2s An
  obtain ⟨AO, AP⟩ := cells2s Ao
  obtain ⟨BV, BW⟩ := cells2s Am
  have q0 := fz (k := 0) Am
  have q1 := fz (k := 1) Am
  obtain ⟨E0, E1⟩ := set2_cells Am (.int .u64 u) (.int .u64 v)
  go_wp2
  exact bodyPost_ret (v := .tuple #[.agg #[.int .u64 u, .int .u64 v], .int .u8 0, .int .i64 0]) (by simp [results, Tryz.results10, go_sem, E0, E1]) rfl ⟨rfl, set2_below B9 (by first | exact Nat.le_refl _ | omega | (skip; omega)) _ _⟩
 ·
  clear H
  go_wp2_with fail
  refine (KI1.out _).mono ?_
  rintro r w5 ⟨rfl, b5⟩
  have B5 := btr B4 b5
  obtain ⟨Aa, Ab, Aj⟩ := rws3 b5 Ap Aq Ar
  clear b5 B4 Ap AQ AR Aq AS AT Ar
  obtain ⟨As, At⟩ := cells2s Aa
  obtain ⟨Au, Av⟩ := cells2s Ab
  go_wp2_with fail
  refine (KZ1.out _).mono ?_
  rintro r w6 ⟨rfl, b6⟩
  have B6 := btr B5 b6
  obtain ⟨Ac, Ad, Ak⟩ := rws3 b6 Aa Ab Aj
  clear b6 B5 Aa As At Ab Au Av Aj
  obtain ⟨Aw, Ax⟩ := cells2s Ac
  obtain ⟨Ay, Az⟩ := cells2s Ad
  go_wp2_with fail
  refine (KI1.out _).mono ?_
  rintro r w7 ⟨rfl, b7⟩
  have B7 := btr B6 b7
  obtain ⟨Ae, Af, Ag⟩ := rws3 b7 Ac Ad Ak
  clear b7 B6 Ac Aw Ax Ad Ay Az Ak
  obtain ⟨AA, AB⟩ := cells2s Ae
  obtain ⟨AC, AD⟩ := cells2s Af
  go_wp2_with fail
  refine (KI2.out _).mono ?_
  rintro r w8 ⟨rfl, b8⟩
  have B8 := btr B7 b8
  obtain ⟨Ah, Ai, Al⟩ := rws3 b8 Ae Af Ag
  clear b8 B7 Ae AA AB Af AC AD Ag
  obtain ⟨AI, AJ⟩ := cells2s Ah
  obtain ⟨AK, AL⟩ := cells2s Ai
  go_wp2_with fail
  refine (KR.out _).mono ?_
  rintro r w9 ⟨rfl, b9⟩
  have B9 := btr B8 b9
  obtain ⟨An, Ao, Am⟩ := rws3 b9 Ah Ai Al
  clear b9 B8 Ah AI AJ Ai AK AL Al
  obtain ⟨AM, AN⟩ := cells2s An
  obtain ⟨AO, AP⟩ := cells2s Ao
  obtain ⟨BV, BW⟩ := cells2s Am
  have q0 := fz (k := 0) Am
  have q1 := fz (k := 1) Am
  obtain ⟨E0, E1⟩ := set2_cells Am (.int .u64 u) (.int .u64 v)
  go_wp2
  exact bodyPost_ret (v := .tuple #[.agg #[.int .u64 u, .int .u64 v], .int .u8 0, .int .i64 0]) (by simp [results, Tryz.results10, go_sem, E0, E1]) rfl ⟨rfl, set2_below B9 (by first | exact Nat.le_refl _ | omega | (skip; omega)) _ _⟩
 ·
  clear H
  go_wp2_with fail
  refine (KI1.out _).mono ?_
  rintro r w5 ⟨rfl, b5⟩
  have B5 := btr B4 b5
  obtain ⟨Aa, Ab, Aj⟩ := rws3 b5 Ap Aq Ar
  clear b5 B4 Ap AQ AR Aq AS AT Ar
  obtain ⟨As, At⟩ := cells2s Aa
  obtain ⟨Au, Av⟩ := cells2s Ab
  go_wp2_with fail
  refine (KZ1.out _).mono ?_
  rintro r w6 ⟨rfl, b6⟩
  have B6 := btr B5 b6
  obtain ⟨Ac, Ad, Ak⟩ := rws3 b6 Aa Ab Aj
  clear b6 B5 Aa As At Ab Au Av Aj
  obtain ⟨Aw, Ax⟩ := cells2s Ac
  obtain ⟨Ay, Az⟩ := cells2s Ad
  go_wp2_with fail
  refine (KZ2.out _).mono ?_
  rintro r w7 ⟨rfl, b7⟩
  have B7 := btr B6 b7
  obtain ⟨Ae, Af, Ag⟩ := rws3 b7 Ac Ad Ak
  clear b7 B6 Ac Aw Ax Ad Ay Az Ak
  obtain ⟨AA, AB⟩ := cells2s Ae
  obtain ⟨AC, AD⟩ := cells2s Af
  go_wp2_with fail
  refine (KI1.out _).mono ?_
  rintro r w8 ⟨rfl, b8⟩
  have B8 := btr B7 b8
  obtain ⟨Ah, Ai, Al⟩ := rws3 b8 Ae Af Ag
  clear b8 B7 Ae AA AB Af AC AD Ag
  obtain ⟨AI, AJ⟩ := cells2s Ah
  obtain ⟨AK, AL⟩ := cells2s Ai
  go_wp2_with fail
  refine (KI2.out _).mono ?_
  rintro r w9 ⟨rfl, b9⟩
  have B9 := btr B8 b9
  obtain ⟨An, Ao, Am⟩ := rws3 b9 Ah Ai Al
  clear b9 B8 Ah AI AJ Ai AK AL Al
  obtain ⟨AM, AN⟩ := cells2s An
  obtain ⟨AO, AP⟩ := cells2s Ao
  go_wp2_with fail
  refine (KR.out _).mono ?_
  rintro r w10 ⟨rfl, b10⟩
  have B10 := btr B9 b10
  obtain ⟨AE, AF, AG⟩ := rws3 b10 An Ao Am
  clear b10 B9 An AM AN Ao AO AP Am
  obtain ⟨AW, AX⟩ := cells2s AE
  obtain ⟨AY, AZ⟩ := cells2s AF
  obtain ⟨Do, Dp⟩ := cells2s AG
  have q0 := fz (k := 0) AG
  have q1 := fz (k := 1) AG
  obtain ⟨E0, E1⟩ := set2_cells AG (.int .u64 u) (.int .u64 v)
  go_wp2
  exact bodyPost_ret (v := .tuple #[.agg #[.int .u64 u, .int .u64 v], .int .u8 0, .int .i64 0]) (by simp [results, Tryz.results10, go_sem, E0, E1]) rfl ⟨rfl, set2_below B10 (by first | exact Nat.le_refl _ | omega | (skip; omega)) _ _⟩
 ·
  clear H
  go_wp2_with fail
  refine (KI1.out _).mono ?_
  rintro r w5 ⟨rfl, b5⟩
  have B5 := btr B4 b5
  obtain ⟨Aa, Ab, Aj⟩ := rws3 b5 Ap Aq Ar
  clear b5 B4 Ap AQ AR Aq AS AT Ar
  obtain ⟨As, At⟩ := cells2s Aa
  obtain ⟨Au, Av⟩ := cells2s Ab
  go_wp2_with fail
  refine (KZ1.out _).mono ?_
  rintro r w6 ⟨rfl, b6⟩
  have B6 := btr B5 b6
  obtain ⟨Ac, Ad, Ak⟩ := rws3 b6 Aa Ab Aj
  clear b6 B5 Aa As At Ab Au Av Aj
  obtain ⟨Aw, Ax⟩ := cells2s Ac
  obtain ⟨Ay, Az⟩ := cells2s Ad
  go_wp2_with fail
  refine (KZ2.out _).mono ?_
  rintro r w7 ⟨rfl, b7⟩
  have B7 := btr B6 b7
  obtain ⟨Ae, Af, Ag⟩ := rws3 b7 Ac Ad Ak
  clear b7 B6 Ac Aw Ax Ad Ay Az Ak
  obtain ⟨AA, AB⟩ := cells2s Ae
  obtain ⟨AC, AD⟩ := cells2s Af
  go_wp2_with fail
  refine (KI1.out _).mono ?_
  rintro r w8 ⟨rfl, b8⟩
  have B8 := btr B7 b8
  obtain ⟨Ah, Ai, Al⟩ := rws3 b8 Ae Af Ag
  clear b8 B7 Ae AA AB Af AC AD Ag
  obtain ⟨AI, AJ⟩ := cells2s Ah
  obtain ⟨AK, AL⟩ := cells2s Ai
  go_wp2_with fail
  refine (KI2.out _).mono ?_
  rintro r w9 ⟨rfl, b9⟩
  have B9 := btr B8 b9
  obtain ⟨An, Ao, Am⟩ := rws3 b9 Ah Ai Al
  clear b9 B8 Ah AI AJ Ai AK AL Al
  obtain ⟨AM, AN⟩ := cells2s An
  obtain ⟨AO, AP⟩ := cells2s Ao
  go_wp2_with fail
  refine (KZ1.out _).mono ?_
  rintro r w10 ⟨rfl, b10⟩
  have B10 := btr B9 b10
  obtain ⟨AE, AF, AG⟩ := rws3 b10 An Ao Am
  clear b10 B9 An AM AN Ao AO AP Am
  obtain ⟨AW, AX⟩ := cells2s AE
  obtain ⟨AY, AZ⟩ := cells2s AF
  go_wp2_with fail
  refine (KR.out _).mono ?_
  rintro r w11 ⟨rfl, b11⟩
  have B11 := btr B10 b11
  obtain ⟨AU, AV, AH⟩ := rws3 b11 AE AF AG
  clear b11 B10 AE AW AX AF AY AZ AG
  obtain ⟨Bg, Bh⟩ := cells2s AU
  obtain ⟨Bi, Bj⟩ := cells2s AV
  obtain ⟨BX, BY⟩ := cells2s AH
  have q0 := fz (k := 0) AH
  have q1 := fz (k := 1) AH
  obtain ⟨E0, E1⟩ := set2_cells AH (.int .u64 u) (.int .u64 v)
  go_wp2
  exact bodyPost_ret (v := .tuple #[.agg #[.int .u64 u, .int .u64 v], .int .u8 0, .int .i64 0]) (by simp [results, Tryz.results10, go_sem, E0, E1]) rfl ⟨rfl, set2_below B11 (by first | exact Nat.le_refl _ | omega | (skip; omega)) _ _⟩
 ·
  clear H
  go_wp2_with fail
  refine (KI1.out _).mono ?_
  rintro r w5 ⟨rfl, b5⟩
  have B5 := btr B4 b5
  obtain ⟨Aa, Ab, Aj⟩ := rws3 b5 Ap Aq Ar
  clear b5 B4 Ap AQ AR Aq AS AT Ar
  obtain ⟨As, At⟩ := cells2s Aa
  obtain ⟨Au, Av⟩ := cells2s Ab
  go_wp2_with fail
  refine (KZ1.out _).mono ?_
  rintro r w6 ⟨rfl, b6⟩
  have B6 := btr B5 b6
  obtain ⟨Ac, Ad, Ak⟩ := rws3 b6 Aa Ab Aj
  clear b6 B5 Aa As At Ab Au Av Aj
  obtain ⟨Aw, Ax⟩ := cells2s Ac
  obtain ⟨Ay, Az⟩ := cells2s Ad
  go_wp2_with fail
  refine (KI1.out _).mono ?_
  rintro r w7 ⟨rfl, b7⟩
  have B7 := btr B6 b7
  obtain ⟨Ae, Af, Ag⟩ := rws3 b7 Ac Ad Ak
  clear b7 B6 Ac Aw Ax Ad Ay Az Ak
  obtain ⟨AA, AB⟩ := cells2s Ae
  obtain ⟨AC, AD⟩ := cells2s Af
  go_wp2_with fail
  refine (KI2.out _).mono ?_
  rintro r w8 ⟨rfl, b8⟩
  have B8 := btr B7 b8
  obtain ⟨Ah, Ai, Al⟩ := rws3 b8 Ae Af Ag
  clear b8 B7 Ae AA AB Af AC AD Ag
  obtain ⟨AI, AJ⟩ := cells2s Ah
  obtain ⟨AK, AL⟩ := cells2s Ai
  go_wp2_with fail
  refine (KZ1.out _).mono ?_
  rintro r w9 ⟨rfl, b9⟩
  have B9 := btr B8 b9
  obtain ⟨An, Ao, Am⟩ := rws3 b9 Ah Ai Al
  clear b9 B8 Ah AI AJ Ai AK AL Al
  obtain ⟨AM, AN⟩ := cells2s An
  obtain ⟨AO, AP⟩ := cells2s Ao
  go_wp2_with fail
  refine (KZ2.out _).mono ?_
  rintro r w10 ⟨rfl, b10⟩
  have B10 := btr B9 b10
  obtain ⟨AE, AF, AG⟩ := rws3 b10 An Ao Am
  clear b10 B9 An AM AN Ao AO AP Am
  obtain ⟨AW, AX⟩ := cells2s AE
  obtain ⟨AY, AZ⟩ := cells2s AF
  go_wp2_with fail
  refine (KR.out _).mono ?_
  rintro r w11 ⟨rfl, b11⟩
  have B11 := btr B10 b11
  obtain ⟨AU, AV, AH⟩ := rws3 b11 AE AF AG
  clear b11 B10 AE AW AX AF AY AZ AG
  obtain ⟨Bg, Bh⟩ := cells2s AU
  obtain ⟨Bi, Bj⟩ := cells2s AV
  obtain ⟨BX, BY⟩ := cells2s AH
  have q0 := fz (k := 0) AH
  have q1 := fz (k := 1) AH
  obtain ⟨E0, E1⟩ := set2_cells AH (.int .u64 u) (.int .u64 v)
  go_wp2
  exact bodyPost_ret (v := .tuple #[.agg #[.int .u64 u, .int .u64 v], .int .u8 8, .int .i64 0]) (by simp [results, Tryz.results10, go_sem, E0, E1]) rfl ⟨rfl, set2_below B11 (by first | exact Nat.le_refl _ | omega | (skip; omega)) _ _⟩
 ·
  clear H
  go_wp2_with fail
  refine (KI1.out _).mono ?_
  rintro r w5 ⟨rfl, b5⟩
  have B5 := btr B4 b5
  obtain ⟨Aa, Ab, Aj⟩ := rws3 b5 Ap Aq Ar
  clear b5 B4 Ap AQ AR Aq AS AT Ar
  obtain ⟨As, At⟩ := cells2s Aa
  obtain ⟨Au, Av⟩ := cells2s Ab
  go_wp2_with fail
  refine (KZ1.out _).mono ?_
  rintro r w6 ⟨rfl, b6⟩
  have B6 := btr B5 b6
  obtain ⟨Ac, Ad, Ak⟩ := rws3 b6 Aa Ab Aj
  clear b6 B5 Aa As At Ab Au Av Aj
  obtain ⟨Aw, Ax⟩ := cells2s Ac
  obtain ⟨Ay, Az⟩ := cells2s Ad
  go_wp2_with fail
  refine (KI1.out _).mono ?_
  rintro r w7 ⟨rfl, b7⟩
  have B7 := btr B6 b7
  obtain ⟨Ae, Af, Ag⟩ := rws3 b7 Ac Ad Ak
  clear b7 B6 Ac Aw Ax Ad Ay Az Ak
  obtain ⟨AA, AB⟩ := cells2s Ae
  obtain ⟨AC, AD⟩ := cells2s Af
  go_wp2_with fail
  refine (KI2.out _).mono ?_
  rintro r w8 ⟨rfl, b8⟩
  have B8 := btr B7 b8
  obtain ⟨Ah, Ai, Al⟩ := rws3 b8 Ae Af Ag
  clear b8 B7 Ae AA AB Af AC AD Ag
  obtain ⟨AI, AJ⟩ := cells2s Ah
  obtain ⟨AK, AL⟩ := cells2s Ai
  go_wp2_with fail
  refine (KZ1.out _).mono ?_
  rintro r w9 ⟨rfl, b9⟩
  have B9 := btr B8 b9
  obtain ⟨An, Ao, Am⟩ := rws3 b9 Ah Ai Al
  clear b9 B8 Ah AI AJ Ai AK AL Al
  obtain ⟨AM, AN⟩ := cells2s An
  obtain ⟨AO, AP⟩ := cells2s Ao
  go_wp2_with fail
  refine (KZ2.out _).mono ?_
  rintro r w10 ⟨rfl, b10⟩
  have B10 := btr B9 b10
  obtain ⟨AE, AF, AG⟩ := rws3 b10 An Ao Am
  clear b10 B9 An AM AN Ao AO AP Am
  obtain ⟨AW, AX⟩ := cells2s AE
  obtain ⟨AY, AZ⟩ := cells2s AF
  go_wp2_with fail
  refine (KV1.out _).mono ?_
  rintro r w11 ⟨rfl, b11⟩
  have B11 := btr B10 b11
  obtain ⟨AU, AV, AH⟩ := rws3 b11 AE AF AG
  clear b11 B10 AE AW AX AF AY AZ AG
  obtain ⟨Bg, Bh⟩ := cells2s AU
  obtain ⟨Bi, Bj⟩ := cells2s AV
  have S12 := box B11.size
  have BZ := ltR AU
  have Ca := ltR AV
  have Cb := ltR AH
  have Bk := heap_alloc_last w11 (Obj.cells #[.bool b1, .string n1, .string d1, .int .i64 e1] 70)
  have B12 := btr B11 (bal w11 (Obj.cells #[.bool b1, .string n1, .string d1, .int .i64 e1] 70))
  obtain ⟨Bl, Bm, BC⟩ := rws3 (bal w11 (Obj.cells #[.bool b1, .string n1, .string d1, .int .i64 e1] 70)) AU AV AH
  clear B11 AU Bg Bh AV Bi Bj AH
  obtain ⟨Cc, Cd⟩ := cells2s Bl
  obtain ⟨Ce, Cf⟩ := cells2s Bm
  obtain ⟨Cg, Ch, Ci, Cj⟩ := cells4s Bk
  go_wp2_with fail
  refine (KV2.out _).mono ?_
  rintro r w13 ⟨rfl, b13⟩
  have B13 := btr B12 b13
  obtain ⟨A0, A1, Bn, A2⟩ := rws4 b13 Bl Bm BC Bk
  clear b13 B12 Bl Cc Cd Bm Ce Cf BC Bk Cg Ch Ci Cj
  obtain ⟨Ck, Cl⟩ := cells2s A0
  obtain ⟨Cm, Cn⟩ := cells2s A1
  obtain ⟨Co, Cp, Cq, Cr⟩ := cells4s A2
  have S14 := box B13.size
  have Cs := ltR A0
  have Ct := ltR A1
  have Cu := ltR Bn
  have Cv := ltR A2
  have Bo := heap_alloc_last w13 (Obj.cells #[.bool b2, .string n2, .string d2, .int .i64 e2] 70)
  have B14 := btr B13 (bal w13 (Obj.cells #[.bool b2, .string n2, .string d2, .int .i64 e2] 70))
  obtain ⟨Bp, Bq, BD, Br⟩ := rws4 (bal w13 (Obj.cells #[.bool b2, .string n2, .string d2, .int .i64 e2] 70)) A0 A1 Bn A2
  clear B13 A0 Ck Cl A1 Cm Cn Bn A2 Co Cp Cq Cr
  obtain ⟨Cw, Cx⟩ := cells2s Bp
  obtain ⟨Cy, Cz⟩ := cells2s Bq
  obtain ⟨CA, CB, CC, CD⟩ := cells4s Br
  obtain ⟨CE, CF, CG, CH⟩ := cells4s Bo
  go_wp2_with fail
  refine (KM.out _).mono ?_
  rintro r w15 ⟨rfl, b15⟩
  have B15 := btr B14 b15
  obtain ⟨A3, A4, Bs, A5, A6⟩ := rws5 b15 Bp Bq BD Br Bo
  clear b15 B14 Bp Cw Cx Bq Cy Cz BD Br CA CB CC CD Bo CE CF CG CH
  obtain ⟨CI, CJ⟩ := cells2s A3
  obtain ⟨CK, CL⟩ := cells2s A4
  obtain ⟨CM, CN, CO, CP⟩ := cells4s A5
  obtain ⟨CQ, CR, CS, CT⟩ := cells4s A6
  have S16 := box B15.size
  have CU := ltR A3
  have CV := ltR A4
  have CW := ltR Bs
  have CX := ltR A5
  have CY := ltR A6
  have Bt := heap_alloc_last w15 (Obj.cells #[.bool b3, .string n3, .string d3, .int .i64 e3] 70)
  have B16 := btr B15 (bal w15 (Obj.cells #[.bool b3, .string n3, .string d3, .int .i64 e3] 70))
  obtain ⟨Bu, Bv, BE, Bw, Bx⟩ := rws5 (bal w15 (Obj.cells #[.bool b3, .string n3, .string d3, .int .i64 e3] 70)) A3 A4 Bs A5 A6
  clear B15 A3 CI CJ A4 CK CL Bs A5 CM CN CO CP A6 CQ CR CS CT
  obtain ⟨CZ, C0⟩ := cells2s Bu
  obtain ⟨C1, C2⟩ := cells2s Bv
  obtain ⟨C3, C4, C5, C6⟩ := cells4s Bw
  obtain ⟨C7, C8, C9, Da⟩ := cells4s Bx
  obtain ⟨Db, Dc, Dd, De⟩ := cells4s Bt
  go_wp2_with fail
  refine (KR.out _).mono ?_
  rintro r w17 ⟨rfl, b17⟩
  have B17 := btr B16 b17
  obtain ⟨Df, Dg, A7, Dh, Di, Dj⟩ := rws6 b17 Bu Bv BE Bw Bx Bt
  clear b17 B16 Bu CZ C0 Bv C1 C2 BE Bw C3 C4 C5 C6 Bx C7 C8 C9 Da Bt Db Dc Dd De
  obtain ⟨Dq, Dr⟩ := cells2s Df
  obtain ⟨Ds, Dt⟩ := cells2s Dg
  obtain ⟨Du, Dv, Dw, Dx⟩ := cells4s Dh
  obtain ⟨Dy, Dz, DA, DB⟩ := cells4s Di
  obtain ⟨DC, DD, DE, DF⟩ := cells4s Dj
  obtain ⟨DG, DH⟩ := cells2s A7
  have q0 := fz (k := 0) A7
  have q1 := fz (k := 1) A7
  obtain ⟨E0, E1⟩ := set2_cells A7 (.int .u64 u) (.int .u64 v)
  go_wp2
  exact bodyPost_ret (v := .tuple #[.agg #[.int .u64 u, .int .u64 v], .int .u8 fl, .int .i64 0]) (by simp [results, Tryz.results10, go_sem, E0, E1]) rfl ⟨rfl, set2_below B17 (by first | exact Nat.le_refl _ | omega | (have := S12.out; have := BZ.out; have := Ca.out; have := Cb.out; have := S14.out; have := Cs.out; have := Ct.out; have := Cu.out; have := Cv.out; have := S16.out; have := CU.out; have := CV.out; have := CW.out; have := CX.out; have := CY.out; omega)) _ _⟩
end Go.Proofs.YtapikkbifdldfaaGreatDoor
namespace Go.Proofs.YtapikkbifdldfaaGreatDoor
set_option maxRecDepth 100000
set_option maxHeartbeats 40000000
set_option maxRecDepth 100000
open Go.RowKit WMath XMath
set_option linter.unusedSimpArgs false
set_option linter.unusedVariables false
def qK (A B : Nat) : Nat := 115 + blen B - blen A
def divR (f m : Int) (a b : Nat) : Nat × Int :=
  if kC f a = 8 ∨ kC f b = 8 then (eNaN f, 16)
  else if kC f a = 9 ∨ kC f b = 9 then (eNaN f, 0)
  else if ((kC f a = 0 ∨ kC f a = 7) ∧ (kC f b = 0 ∨ kC f b = 7)) ∨ ((kC f a = 3 ∨ kC f a = 4) ∧ (kC f b = 3 ∨ kC f b = 4)) then (eNaN f, 16)
  else if kC f a = 0 ∨ kC f a = 7 then (eInf f (kN f a != kN f b), 0)
  else if (kC f b = 0 ∨ kC f b = 7) ∨ (kC f a = 3 ∨ kC f a = 4) then (eZero f (kN f a != kN f b), 0)
  else if kC f b = 3 ∨ kC f b = 4 then (eInf f (kN f a != kN f b), 8)
  else dlv f m (kN f a != kN f b) (kX f a - kX f b - (qK (kS f a) (kS f b) : Int) + (blen (kS f a * 2 ^ qK (kS f a) (kS f b) / kS f b) : Int) - 1) (qW (pV f + 1) (kS f a * 2 ^ qK (kS f a) (kS f b) / kS f b)) (qM (pV f + 1) (kS f a * 2 ^ qK (kS f a) (kS f b) / kS f b) (decide (kS f a * 2 ^ qK (kS f a) (kS f b) % kS f b ≠ 0)))
theorem knanF (p1 p2 fl : Int) (h : (if p1 = 8 ∨ p2 = 8 then 16 else 0) = fl) : Box (∀ w, Calls Tryz.prog 39 #[.agg #[.int .u8 p1, .int .u8 p2]] w fun r w' => r = .returned (.int .u8 fl) ∧ Below w.heap.size w w') := by
 by_cases c1 : p1 = 8
 ·
  rw [if_pos (Or.inl c1)] at h
  subst h
  exact box (fun w => dv_nan_a p1 p2 (by rw [c1]; rfl) w)
 by_cases c2 : p2 = 8
 ·
  rw [if_pos (Or.inr c2)] at h
  subst h
  exact box (fun w => dv_nan_b p1 p2 (beq_eq_false_iff_ne.2 c1) (by rw [c2]; rfl) w)
 rw [if_neg (by omega)] at h
 subst h
 exact box (fun w => dv_nan_c p1 p2 (beq_eq_false_iff_ne.2 c1) (beq_eq_false_iff_ne.2 c2) w)
theorem kDiv_is (f m : Int) (hf : Is4 f) (hm : 0 ≤ m ∧ m ≤ 4) (x1 y1 a x2 y2 b : Nat) (hx1 : x1 < 18446744073709551616) (hy1 : y1 < 18446744073709551616) (ha : y1 + 18446744073709551616 * x1 = a) (hx2 : x2 < 18446744073709551616) (hy2 : y2 < 18446744073709551616) (hb : y2 + 18446744073709551616 * x2 = b)
  (oa : okB f a = true) (ob : okB f b = true) (M : Nat) (fl : Int) (hr : divR f m a b = (M, fl)) (u v : Nat) (hv : bv7 M = (u, v)) (w : World) (hT : FAt w) :
  Calls Tryz.prog 9 #[.int .u8 f, .int .u8 m, .agg #[.int .u64 x1, .int .u64 y1], .agg #[.int .u64 x2, .int .u64 y2]] w fun r w' => r = .returned (.tuple #[.agg #[.int .u64 u, .int .u64 v], .int .u8 fl, .int .i64 0]) ∧ Below w.heap.size w w' := by
 have KF := kmay2 f m (is4_ok hf).1 (is4_ok hf).2.1 hm.1 x1 y1 a x2 y2 b hx1 hy1 ha hx2 hy2 hb true (by rw [oa, ob, decide_eq_true (show f ≤ 3 ∧ m ≤ 4 from ⟨is4_le hf, hm.2⟩)]; rfl)
 obtain ⟨sa1, sa2, sa3⟩ := kS_lim hf a
 obtain ⟨sb1, sb2, sb3⟩ := kS_lim hf b
 have ba := fun h => kS_blen hf a h
 have bb := fun h => kS_blen hf b h
 obtain ⟨c1, Aa⟩ : ∃ c, kC f a = c := ⟨_, rfl⟩
 obtain ⟨c2, Ab⟩ : ∃ c, kC f b = c := ⟨_, rfl⟩
 obtain ⟨m1, hm1⟩ : ∃ c, kS f a = c := ⟨_, rfl⟩
 obtain ⟨m2, hm2⟩ : ∃ c, kS f b = c := ⟨_, rfl⟩
 obtain ⟨X1, hX1⟩ : ∃ c, kX f a = c := ⟨_, rfl⟩
 obtain ⟨X2, hX2⟩ : ∃ c, kX f b = c := ⟨_, rfl⟩
 obtain ⟨s1, hs1⟩ : ∃ c, kN f a = c := ⟨_, rfl⟩
 obtain ⟨s2, hs2⟩ : ∃ c, kN f b = c := ⟨_, rfl⟩
 obtain ⟨neg, hng⟩ : ∃ c, (s1 != s2) = c := ⟨_, rfl⟩
 have KU1 : Box (∀ w, FAt w → Calls Tryz.prog 33 #[.int .u8 f, .agg #[.int .u64 x1, .int .u64 y1]] w fun r w' => r = .returned (.tuple #[.agg (pt c1 m1 X1 (kF f a)), .int .i64 0]) ∧ Below w.heap.size w w') := box (fun w hT => kUnpack_yes f hf x1 y1 a c1 m1 (kF f a) X1 hx1 hy1 ha oa (by unfold kp; rw [Aa, hm1, hX1]) w hT)
 have KU2 : Box (∀ w, FAt w → Calls Tryz.prog 33 #[.int .u8 f, .agg #[.int .u64 x2, .int .u64 y2]] w fun r w' => r = .returned (.tuple #[.agg (pt c2 m2 X2 (kF f b)), .int .i64 0]) ∧ Below w.heap.size w w') := box (fun w hT => kUnpack_yes f hf x2 y2 b c2 m2 (kF f b) X2 hx2 hy2 hb ob (by unfold kp; rw [Ab, hm2, hX2]) w hT)
 have KS1 : Box (∀ w, FAt w → Calls Tryz.prog 22 #[.int .u8 f, .agg #[.int .u64 x1, .int .u64 y1]] w fun r w' => r = .returned (.bool s1) ∧ Below w.heap.size w w') := box (fun w hT => kSign_yes f hf x1 y1 a s1 hx1 hy1 ha oa hs1 w hT)
 have KS2 : Box (∀ w, FAt w → Calls Tryz.prog 22 #[.int .u8 f, .agg #[.int .u64 x2, .int .u64 y2]] w fun r w' => r = .returned (.bool s2) ∧ Below w.heap.size w w') := box (fun w hT => kSign_yes f hf x2 y2 b s2 hx2 hy2 hb ob hs2 w hT)
 have p1 := fun h => k_parts (f := f) a h
 have p2 := fun h => k_parts (f := f) b h
 unfold divR at hr
 rw [Aa, Ab, hs1, hs2, hng, hX1, hX2, hm1, hm2] at hr
 rw [Aa, hm1] at p1 ba
 rw [Ab, hm2] at p2 bb
 rw [hm1] at sa1
 rw [hX1] at sa2 sa3
 rw [hm2] at sb1
 rw [hX2] at sb2 sb3
 have lc1 : c1 ≤ 9 := by rw [← Aa]; have := kC_lt f a; omega
 have lc2 : c2 ≤ 9 := by rw [← Ab]; have := kC_lt f b; omega
 have KP1 := kplain c1 lc1
 have KP2 := kplain c2 lc2
 have KN : bv7 (eNaN f) = (u, v) → Box (∀ w, FAt w → Calls Tryz.prog 35 #[.int .u8 f] w fun r w' => r = .returned (.agg #[.int .u64 u, .int .u64 v]) ∧ Below w.heap.size w w') := fun h => box (fun w hT => kNaN_is f hf u v h w hT)
 have KI : bv7 (eInf f neg) = (u, v) → Box (∀ w, FAt w → Calls Tryz.prog 36 #[.int .u8 f, .bool neg] w fun r w' => r = .returned (.agg #[.int .u64 u, .int .u64 v]) ∧ Below w.heap.size w w') := fun h => box (fun w hT => kInf_is f hf neg u v h w hT)
 have KZ : bv7 (eZero f neg) = (u, v) → Box (∀ w, FAt w → Calls Tryz.prog 37 #[.int .u8 f, .int .u8 m, .agg (rg neg 0 0 false)] w fun r w' => r = .returned (.tuple #[.agg #[.int .u64 u, .int .u64 v], .int .u8 0, .int .i64 0]) ∧ Below w.heap.size w w') := fun h => box (fun w hT => kPack_zero f m hf hm neg 0 (by decide) (by decide) u v h w hT)
 by_cases n0 : 8 ≤ c1 ∨ 8 ≤ c2
 ·
  have hM : M = eNaN f ∧ (if plC c1 = 8 ∨ plC c2 = 8 then 16 else 0) = fl := by
   have e1 : plC c1 = 8 ↔ c1 = 8 := by unfold plC; split <;> (try split) <;> (try split) <;> omega
   have e2 : plC c2 = 8 ↔ c2 = 8 := by unfold plC; split <;> (try split) <;> (try split) <;> omega
   by_cases s0 : c1 = 8 ∨ c2 = 8
   ·
    rw [if_pos s0] at hr
    rw [if_pos (by rw [e1, e2]; exact s0)]
    injection hr with r1 r2
    exact ⟨r1.symm, r2⟩
   ·
    rw [if_neg s0, if_pos (by omega)] at hr
    rw [if_neg (by rw [e1, e2]; exact s0)]
    injection hr with r1 r2
    exact ⟨r1.symm, r2⟩
  have KX := knanF (plC c1) (plC c2) fl hM.2
  have KN := KN (by rw [← hM.1]; exact hv)
  by_cases n1 : 8 ≤ c1
  ·
   have e : plC c1 = (c1 : Int) := by unfold plC; rw [if_neg (by omega), if_neg (by omega), if_pos (by omega)]
   exact dv_all f m x1 y1 x2 y2 u v c1 m1 X1 _ c2 m2 X2 _ s1 s2 neg (plC c1) (plC c2) 0 0 _ false w hng KF KU1 KU2 KS1 KS2 (KP1 _ rfl) (KP2 _ rfl) (box (Or.inr (Or.inr (Or.inr (Or.inr (Or.inr (Or.inr (Or.inr (Or.inr (Or.inr (Or.inl (⟨(by rw [e]; exact ine (by omega)), (by rw [e]; exact ine (by omega)), (by rw [e]; exact ine (by omega)), KN, KX⟩)))))))))))) hT
  ·
   have e : plC c2 = (c2 : Int) := by unfold plC; rw [if_neg (by omega), if_neg (by omega), if_pos (by omega)]
   exact dv_all f m x1 y1 x2 y2 u v c1 m1 X1 _ c2 m2 X2 _ s1 s2 neg (plC c1) (plC c2) 0 0 _ false w hng KF KU1 KU2 KS1 KS2 (KP1 _ rfl) (KP2 _ rfl) (box (Or.inr (Or.inr (Or.inr (Or.inr (Or.inr (Or.inr (Or.inr (Or.inr (Or.inr (Or.inr (⟨(by rw [e]; exact ine (by omega)), (by rw [e]; exact ine (by omega)), (by rw [e]; exact ine (by omega)), KN, KX⟩)))))))))))) hT
 rw [if_neg (by omega), if_neg (by omega)] at hr
 by_cases d1 : ((c1 = 0 ∨ c1 = 7) ∧ (c2 = 0 ∨ c2 = 7)) ∨ ((c1 = 3 ∨ c1 = 4) ∧ (c2 = 3 ∨ c2 = 4))
 ·
  rw [if_pos d1] at hr
  injection hr with r1 r2
  subst r1 r2
  rcases d1 with ⟨i, j⟩ | ⟨i, j⟩
  ·
   exact dv_all f m x1 y1 x2 y2 u v c1 m1 X1 _ c2 m2 X2 _ s1 s2 neg 7 7 0 0 _ false w hng KF KU1 KU2 KS1 KS2 (KP1 _ (by unfold plC; rw [if_pos (by omega)])) (KP2 _ (by unfold plC; rw [if_pos (by omega)])) (box (Or.inl (⟨rfl, rfl, KN hv, rfl⟩))) hT
  ·
   exact dv_all f m x1 y1 x2 y2 u v c1 m1 X1 _ c2 m2 X2 _ s1 s2 neg 4 4 0 0 _ false w hng KF KU1 KU2 KS1 KS2 (KP1 _ (by unfold plC; rw [if_neg (by omega), if_pos (by omega)])) (KP2 _ (by unfold plC; rw [if_neg (by omega), if_pos (by omega)])) (box (Or.inr (Or.inl (⟨rfl, rfl, KN hv, rfl⟩)))) hT
 rw [if_neg d1] at hr
 by_cases i1 : c1 = 0 ∨ c1 = 7
 ·
  rw [if_pos i1] at hr
  injection hr with r1 r2
  subst r1 r2
  by_cases z2 : c2 = 3 ∨ c2 = 4
  ·
   exact dv_all f m x1 y1 x2 y2 u v c1 m1 X1 _ c2 m2 X2 _ s1 s2 neg 7 4 0 0 _ false w hng KF KU1 KU2 KS1 KS2 (KP1 _ (by unfold plC; rw [if_pos (by omega)])) (KP2 _ (by unfold plC; rw [if_neg (by omega), if_pos (by omega)])) (box (Or.inr (Or.inr (Or.inr (Or.inl (⟨rfl, rfl, KI hv, rfl⟩)))))) hT
  ·
   exact dv_all f m x1 y1 x2 y2 u v c1 m1 X1 _ c2 m2 X2 _ s1 s2 neg 7 6 0 0 _ false w hng KF KU1 KU2 KS1 KS2 (KP1 _ (by unfold plC; rw [if_pos (by omega)])) (KP2 _ (by unfold plC; rw [if_neg (by omega), if_neg (by omega), if_neg (by omega)])) (box (Or.inr (Or.inr (Or.inl (⟨rfl, rfl, KI hv, rfl⟩))))) hT
 rw [if_neg i1] at hr
 by_cases o1 : (c2 = 0 ∨ c2 = 7) ∨ (c1 = 3 ∨ c1 = 4)
 ·
  rw [if_pos o1] at hr
  injection hr with r1 r2
  subst r1 r2
  by_cases i2 : c2 = 0 ∨ c2 = 7
  ·
   by_cases z1 : c1 = 3 ∨ c1 = 4
   ·
    exact dv_all f m x1 y1 x2 y2 u v c1 m1 X1 _ c2 m2 X2 _ s1 s2 neg 4 7 0 0 _ false w hng KF KU1 KU2 KS1 KS2 (KP1 _ (by unfold plC; rw [if_neg (by omega), if_pos (by omega)])) (KP2 _ (by unfold plC; rw [if_pos (by omega)])) (box (Or.inr (Or.inr (Or.inr (Or.inr (Or.inr (Or.inl (⟨rfl, rfl, KZ hv⟩)))))))) hT
   ·
    exact dv_all f m x1 y1 x2 y2 u v c1 m1 X1 _ c2 m2 X2 _ s1 s2 neg 6 7 0 0 _ false w hng KF KU1 KU2 KS1 KS2 (KP1 _ (by unfold plC; rw [if_neg (by omega), if_neg (by omega), if_neg (by omega)])) (KP2 _ (by unfold plC; rw [if_pos (by omega)])) (box (Or.inr (Or.inr (Or.inr (Or.inr (Or.inl (⟨rfl, rfl, KZ hv⟩))))))) hT
  ·
   exact dv_all f m x1 y1 x2 y2 u v c1 m1 X1 _ c2 m2 X2 _ s1 s2 neg 4 6 0 0 _ false w hng KF KU1 KU2 KS1 KS2 (KP1 _ (by unfold plC; rw [if_neg (by omega), if_pos (by omega)])) (KP2 _ (by unfold plC; rw [if_neg (by omega), if_neg (by omega), if_neg (by omega)])) (box (Or.inr (Or.inr (Or.inr (Or.inr (Or.inr (Or.inr (Or.inl (⟨rfl, rfl, KZ hv⟩))))))))) hT
 rw [if_neg o1] at hr
 by_cases z2 : c2 = 3 ∨ c2 = 4
 ·
  rw [if_pos z2] at hr
  injection hr with r1 r2
  subst r1 r2
  exact dv_all f m x1 y1 x2 y2 u v c1 m1 X1 _ c2 m2 X2 _ s1 s2 neg 6 4 0 0 _ false w hng KF KU1 KU2 KS1 KS2 (KP1 _ (by unfold plC; rw [if_neg (by omega), if_neg (by omega), if_neg (by omega)])) (KP2 _ (by unfold plC; rw [if_neg (by omega), if_pos (by omega)])) (box (Or.inr (Or.inr (Or.inr (Or.inr (Or.inr (Or.inr (Or.inr (Or.inl (⟨rfl, rfl, KI hv, rfl⟩)))))))))) hT
 rw [if_neg z2] at hr
 obtain ⟨a1, a2⟩ := ba (by omega)
 obtain ⟨b1, b2⟩ := bb (by omega)
 have m10 := (p1 (by omega)).2.2.2
 have m20 := (p2 (by omega)).2.2.2
 obtain ⟨k, hk⟩ : ∃ k, qK m1 m2 = k := ⟨_, rfl⟩
 rw [hk] at hr
 unfold qK at hk
 obtain ⟨q1, q2⟩ := quo_len m1 m2 k m10 m20 (by omega)
 have bs := blen_shift m1 k m10
 obtain ⟨x, hx⟩ : ∃ x, m1 * 2 ^ k = x := ⟨_, rfl⟩
 rw [hx] at hr q1 q2 bs
 obtain ⟨S, hS⟩ : ∃ S, x / m2 = S := ⟨_, rfl⟩
 obtain ⟨more, hmo⟩ : ∃ o, decide (x % m2 ≠ 0) = o := ⟨_, rfl⟩
 rw [hS, hmo] at hr
 rw [hS] at q1 q2
 have xQ : x < Q := q256 ((blen_iff x 256).1 (by omega))
 have SQ : S < Q := q256 ((blen_iff S 256).1 (by omega))
 have S0 : S ≠ 0 := fun h => by
  rw [h] at q1
  have : blen 0 = 0 := by unfold blen; rw [if_pos rfl]
  omega
 have ck : cnt6 (k : Int) = k := by unfold cnt6; omega
 have KL1 : Box (∀ w, Calls Tryz.prog 86 #[.agg (cw 6 m1)] w fun r w' => r = .returned (.int .i64 (blen m1 : Nat)) ∧ Below w.heap.size w w') := box (fun w => wlen_is m1 _ (lt_Q7 sa1) rfl w)
 have KL2 : Box (∀ w, Calls Tryz.prog 86 #[.agg (cw 6 m2)] w fun r w' => r = .returned (.int .i64 (blen m2 : Nat)) ∧ Below w.heap.size w w') := box (fun w => wlen_is m2 _ (lt_Q7 sb1) rfl w)
 have KD : Box (∀ w, Calls Tryz.prog 87 #[.agg (cw 6 m1), .agg (cw 6 m2), .int .i64 (k : Nat)] w fun r w' => r = .returned (.tuple #[.agg (cw 6 S), .bool more, .int .i64 0]) ∧ Below w.heap.size w w') := box (fun w => qdigits_is m1 m2 x S (k : Int) more (lt_Q7 sa1) (lt_Q7 sb1) m20 (by omega) (by omega) (by rw [ck]; exact hx) xQ hS (by rw [← hmo]; by_cases c : x % m2 = 0 <;> simp [c]) w)
 have KX : Box (∀ w, Calls Tryz.prog 38 #[.bool neg, .agg (pt c1 m1 X1 (kF f a)), .agg (pt c2 m2 X2 (kF f b))] w fun r w' => r = .returned (.agg (rg neg S (X1 - X2 - (k : Int)) more)) ∧ Below w.heap.size w w') := box (fun w => dv_digits neg c1 m1 X1 _ c2 m2 X2 _ S _ _ (115 + (blen m2 : Int)) (k : Int) (X1 - X2) _ more 0 w KL1 KL2 (wrap_i64_is _ (by omega) (by omega)) (by rw [wrap_i64_is _ (by omega) (by omega)]; omega) KD (wrap_i64_is _ (by omega) (by omega)) (wrap_i64_is _ (by omega) (by omega)))
 have l112 : pV f ≤ 112 := by rcases hf with rfl | rfl | rfl | rfl <;> decide
 exact dv_all f m x1 y1 x2 y2 u v c1 m1 X1 _ c2 m2 X2 _ s1 s2 neg 6 6 S _ fl more w hng KF KU1 KU2 KS1 KS2 (KP1 _ (by unfold plC; rw [if_neg (by omega), if_neg (by omega), if_neg (by omega)])) (KP2 _ (by unfold plC; rw [if_neg (by omega), if_neg (by omega), if_neg (by omega)])) (box (Or.inr (Or.inr (Or.inr (Or.inr (Or.inr (Or.inr (Or.inr (Or.inr (Or.inl (⟨rfl, rfl, KX, box (fun w hT => kPack_is f m hf hm neg S SQ S0 (X1 - X2 - (k : Int)) more (by omega) (by omega) (fun _ => by omega) M fl hr u v hv w hT)⟩))))))))))) hT
theorem rDiv_is (f m : Int) (hf : Is4 f) (hm : 0 ≤ m ∧ m ≤ 4) (x1 y1 a x2 y2 b : Nat) (hx1 : x1 < 18446744073709551616) (hy1 : y1 < 18446744073709551616) (ha : y1 + 18446744073709551616 * x1 = a) (hx2 : x2 < 18446744073709551616) (hy2 : y2 < 18446744073709551616) (hb : y2 + 18446744073709551616 * x2 = b)
  (oa : okB f a = true) (ob : okB f b = true) (M : Nat) (fl : Int) (hr : divR f m a b = (M, fl)) (u v : Nat) (hv : bv7 M = (u, v)) (w : World) :
  Calls Tryz.prog 10 #[.int .u8 f, .int .u8 m, .agg #[.int .u64 x1, .int .u64 y1], .agg #[.int .u64 x2, .int .u64 y2]] w fun r w' => r = .returned (.tuple #[.agg #[.int .u64 u, .int .u64 v], .int .u8 fl, .int .i64 0]) ∧ Below w.heap.size w w' := by
 have h0 := (is4_ok hf).1
 have fa := (okB_yes h0 oa).2
 have fb := (okB_yes h0 ob).2
 have KF := rfit2 f m h0 x1 y1 a x2 y2 b hx1 hy1 ha hx2 hy2 hb true (by rw [oa, ob, decide_eq_true (show f ≤ 3 ∧ m ≤ 4 from ⟨is4_le hf, hm.2⟩)]; rfl)
 obtain ⟨c1, Aa⟩ : ∃ c, kC f a = c := ⟨_, rfl⟩
 obtain ⟨c2, Ab⟩ : ∃ c, kC f b = c := ⟨_, rfl⟩
 have lc1 : c1 ≤ 9 := by rw [← Aa]; have := kC_lt f a; omega
 have lc2 : c2 ≤ 9 := by rw [← Ab]; have := kC_lt f b; omega
 have KN1 : ∀ o, decide (8 ≤ c1) = o → Box (∀ w, Calls Tryz.prog 41 #[.int .u8 f, .agg #[.int .u64 x1, .int .u64 y1]] w fun r w' => r = .returned (.bool o) ∧ Below w.heap.size w w') := fun o h => box (fun w => rNaN_is f hf x1 y1 a c1 o hx1 hy1 ha fa Aa h w)
 have KN2 : ∀ o, decide (8 ≤ c2) = o → Box (∀ w, Calls Tryz.prog 41 #[.int .u8 f, .agg #[.int .u64 x2, .int .u64 y2]] w fun r w' => r = .returned (.bool o) ∧ Below w.heap.size w w') := fun o h => box (fun w => rNaN_is f hf x2 y2 b c2 o hx2 hy2 hb fb Ab h w)
 unfold divR at hr
 rw [Aa, Ab] at hr
 by_cases n0 : 8 ≤ c1 ∨ 8 ≤ c2
 ·
  have hM : M = eNaN f ∧ fl = if c1 = 8 ∨ c2 = 8 then 16 else 0 := by
   by_cases s0 : c1 = 8 ∨ c2 = 8
   ·
    rw [if_pos s0] at hr ⊢
    injection hr with r1 r2
    exact ⟨r1.symm, r2.symm⟩
   ·
    rw [if_neg s0, if_pos (by omega)] at hr
    rw [if_neg s0]
    injection hr with r1 r2
    exact ⟨r1.symm, r2.symm⟩
  have KC := rcan2 f hf x1 y1 a x2 y2 b hx1 hy1 ha hx2 hy2 hb fa fb fl (by rw [Aa, Ab]; exact hM.2.symm) u v (by rw [← hM.1]; exact hv)
  by_cases n1 : 8 ≤ c1
  ·
   exact rdv_nx f m x1 y1 x2 y2 u v fl w KF (KN1 true (decide_eq_true n1)) KC
  ·
   exact rdv_ny f m x1 y1 x2 y2 u v fl w KF (KN1 false (decide_eq_false n1)) (KN2 true (decide_eq_true (n0.resolve_left n1))) KC
 have KN1 := KN1 false (decide_eq_false (by omega))
 have KN2 := KN2 false (decide_eq_false (by omega))
 rw [if_neg (by omega), if_neg (by omega)] at hr
 obtain ⟨s1, hs1⟩ : ∃ c, kN f a = c := ⟨_, rfl⟩
 obtain ⟨s2, hs2⟩ : ∃ c, kN f b = c := ⟨_, rfl⟩
 obtain ⟨neg, hng⟩ : ∃ c, (s1 != s2) = c := ⟨_, rfl⟩
 rw [hs1, hs2, hng] at hr
 have KS1 : Box (∀ w, Calls Tryz.prog 43 #[.int .u8 f, .agg #[.int .u64 x1, .int .u64 y1]] w fun r w' => r = .returned (.bool s1) ∧ Below w.heap.size w w') := box (fun w => rSign_yes f hf x1 y1 a s1 hx1 hy1 ha oa hs1 w)
 have KS2 : Box (∀ w, Calls Tryz.prog 43 #[.int .u8 f, .agg #[.int .u64 x2, .int .u64 y2]] w fun r w' => r = .returned (.bool s2) ∧ Below w.heap.size w w') := box (fun w => rSign_yes f hf x2 y2 b s2 hx2 hy2 hb ob hs2 w)
 have KI1 : ∀ o, decide (c1 = 0 ∨ c1 = 7) = o → Box (∀ w, Calls Tryz.prog 31 #[.int .u8 f, .agg #[.int .u64 x1, .int .u64 y1]] w fun r w' => r = .returned (.bool o) ∧ Below w.heap.size w w') := fun o h => box (fun w => rInf_is f hf x1 y1 a c1 o hx1 hy1 ha fa Aa (by rw [← Bool.decide_or]; exact h) w)
 have KI2 : ∀ o, decide (c2 = 0 ∨ c2 = 7) = o → Box (∀ w, Calls Tryz.prog 31 #[.int .u8 f, .agg #[.int .u64 x2, .int .u64 y2]] w fun r w' => r = .returned (.bool o) ∧ Below w.heap.size w w') := fun o h => box (fun w => rInf_is f hf x2 y2 b c2 o hx2 hy2 hb fb Ab (by rw [← Bool.decide_or]; exact h) w)
 have KZ1 : ∀ o, decide (c1 = 3 ∨ c1 = 4) = o → Box (∀ w, Calls Tryz.prog 44 #[.int .u8 f, .agg #[.int .u64 x1, .int .u64 y1]] w fun r w' => r = .returned (.bool o) ∧ Below w.heap.size w w') := fun o h => box (fun w => rZero_is f hf x1 y1 a c1 o hx1 hy1 ha fa Aa (by rw [← Bool.decide_or]; exact h) w)
 have KZ2 : ∀ o, decide (c2 = 3 ∨ c2 = 4) = o → Box (∀ w, Calls Tryz.prog 44 #[.int .u8 f, .agg #[.int .u64 x2, .int .u64 y2]] w fun r w' => r = .returned (.bool o) ∧ Below w.heap.size w w') := fun o h => box (fun w => rZero_is f hf x2 y2 b c2 o hx2 hy2 hb fb Ab (by rw [← Bool.decide_or]; exact h) w)
 have KRN : bv7 (eNaN f) = (u, v) → Box (∀ w, Calls Tryz.prog 45 #[.int .u8 f] w fun r w' => r = .returned (.agg #[.int .u64 u, .int .u64 v]) ∧ Below w.heap.size w w') := fun h => box (fun w => by
  have := r_nan f hf _ rfl w
  rw [h] at this
  exact this)
 have KRI : bv7 (eInf f neg) = (u, v) → Box (∀ w, Calls Tryz.prog 46 #[.int .u8 f, .bool neg] w fun r w' => r = .returned (.agg #[.int .u64 u, .int .u64 v]) ∧ Below w.heap.size w w') := fun h => box (fun w => by
  have := r_inf f neg hf _ rfl w
  rw [h] at this
  exact this)
 have KRZ : bv7 (eZero f neg) = (u, v) → Box (∀ w, Calls Tryz.prog 47 #[.int .u8 f, .bool neg] w fun r w' => r = .returned (.agg #[.int .u64 u, .int .u64 v]) ∧ Below w.heap.size w w') := fun h => box (fun w => by
  have := r_zero f neg hf _ rfl w
  rw [h] at this
  exact this)
 by_cases d1 : ((c1 = 0 ∨ c1 = 7) ∧ (c2 = 0 ∨ c2 = 7)) ∨ ((c1 = 3 ∨ c1 = 4) ∧ (c2 = 3 ∨ c2 = 4))
 ·
  rw [if_pos d1] at hr
  injection hr with r1 r2
  subst r1 r2
  rcases d1 with ⟨i, j⟩ | ⟨i, j⟩
  ·
   exact rdv_all f m x1 y1 x2 y2 u v s1 s2 neg hng false ByteArray.empty ByteArray.empty 0 false ByteArray.empty ByteArray.empty 0 false ByteArray.empty ByteArray.empty 0 0 _ w KF KN1 KN2 KS1 KS2 (box (Or.inl (⟨KI1 true (decide_eq_true i), KI2 true (decide_eq_true j), KRN hv, rfl⟩)))
  ·
   exact rdv_all f m x1 y1 x2 y2 u v s1 s2 neg hng false ByteArray.empty ByteArray.empty 0 false ByteArray.empty ByteArray.empty 0 false ByteArray.empty ByteArray.empty 0 0 _ w KF KN1 KN2 KS1 KS2 (box (Or.inr (Or.inl (⟨KI1 false (decide_eq_false (by omega)), KZ1 true (decide_eq_true i), KZ2 true (decide_eq_true j), KRN hv, rfl⟩))))
 rw [if_neg d1] at hr
 by_cases i1 : c1 = 0 ∨ c1 = 7
 ·
  rw [if_pos i1] at hr
  injection hr with r1 r2
  subst r1 r2
  exact rdv_all f m x1 y1 x2 y2 u v s1 s2 neg hng false ByteArray.empty ByteArray.empty 0 false ByteArray.empty ByteArray.empty 0 false ByteArray.empty ByteArray.empty 0 0 _ w KF KN1 KN2 KS1 KS2 (box (Or.inr (Or.inr (Or.inl (⟨KI1 true (decide_eq_true i1), KI2 false (decide_eq_false (by omega)), KZ1 false (decide_eq_false (by omega)), KRI hv, rfl⟩)))))
 rw [if_neg i1] at hr
 by_cases o1 : (c2 = 0 ∨ c2 = 7) ∨ (c1 = 3 ∨ c1 = 4)
 ·
  rw [if_pos o1] at hr
  injection hr with r1 r2
  subst r1 r2
  by_cases i2 : c2 = 0 ∨ c2 = 7
  ·
   by_cases z1 : c1 = 3 ∨ c1 = 4
   ·
    exact rdv_all f m x1 y1 x2 y2 u v s1 s2 neg hng false ByteArray.empty ByteArray.empty 0 false ByteArray.empty ByteArray.empty 0 false ByteArray.empty ByteArray.empty 0 0 _ w KF KN1 KN2 KS1 KS2 (box (Or.inr (Or.inr (Or.inr (Or.inr (Or.inl (⟨KI1 false (decide_eq_false (by omega)), KZ1 true (decide_eq_true z1), KZ2 false (decide_eq_false (by omega)), KI2 true (decide_eq_true i2), KRZ hv, rfl⟩)))))))
   ·
    exact rdv_all f m x1 y1 x2 y2 u v s1 s2 neg hng false ByteArray.empty ByteArray.empty 0 false ByteArray.empty ByteArray.empty 0 false ByteArray.empty ByteArray.empty 0 0 _ w KF KN1 KN2 KS1 KS2 (box (Or.inr (Or.inr (Or.inr (Or.inl (⟨KI1 false (decide_eq_false (by omega)), KZ1 false (decide_eq_false (by omega)), KI2 true (decide_eq_true i2), KRZ hv, rfl⟩))))))
  ·
   exact rdv_all f m x1 y1 x2 y2 u v s1 s2 neg hng false ByteArray.empty ByteArray.empty 0 false ByteArray.empty ByteArray.empty 0 false ByteArray.empty ByteArray.empty 0 0 _ w KF KN1 KN2 KS1 KS2 (box (Or.inr (Or.inr (Or.inr (Or.inr (Or.inr (Or.inl (⟨KI1 false (decide_eq_false (by omega)), KZ1 true (decide_eq_true (o1.resolve_left i2)), KZ2 false (decide_eq_false (by omega)), KI2 false (decide_eq_false (by omega)), KRZ hv, rfl⟩))))))))
 rw [if_neg o1] at hr
 by_cases z2 : c2 = 3 ∨ c2 = 4
 ·
  rw [if_pos z2] at hr
  injection hr with r1 r2
  subst r1 r2
  exact rdv_all f m x1 y1 x2 y2 u v s1 s2 neg hng false ByteArray.empty ByteArray.empty 0 false ByteArray.empty ByteArray.empty 0 false ByteArray.empty ByteArray.empty 0 0 _ w KF KN1 KN2 KS1 KS2 (box (Or.inr (Or.inr (Or.inr (Or.inr (Or.inr (Or.inr (Or.inl (⟨KI1 false (decide_eq_false (by omega)), KZ1 false (decide_eq_false (by omega)), KI2 false (decide_eq_false (by omega)), KZ2 true (decide_eq_true z2), KRI hv, rfl⟩)))))))))
 rw [if_neg z2] at hr
 obtain ⟨a1, a2, a3, a4⟩ := vX_whole hf a (by omega) (by omega)
 obtain ⟨b1, b2, b3, b4⟩ := vX_whole hf b (by omega) (by omega)
 obtain ⟨sa1, sa2, sa3⟩ := kS_lim hf a
 obtain ⟨sb1, sb2, sb3⟩ := kS_lim hf b
 obtain ⟨la1, la2⟩ := kS_blen hf a (by omega)
 obtain ⟨lb1, lb2⟩ := kS_blen hf b (by omega)
 obtain ⟨k, hk⟩ : ∃ k, qK (kS f a) (kS f b) = k := ⟨_, rfl⟩
 rw [hk] at hr
 unfold qK at hk
 obtain ⟨l1, l2⟩ := quo_len (kS f a) (kS f b) k a1 b1 (by omega)
 have l112 : pV f ≤ 112 := by rcases hf with rfl | rfl | rfl | rfl <;> decide
 obtain ⟨n, d, e, q1, q2, q3, q4, q5, q6⟩ := div_num hf m s1 s2 (kS f a) (kS f b) k _ (decide (kS f a * 2 ^ k % kS f b ≠ 0)) (kX f a) (kX f b) a1 b1 a2 b2 sa2 sa3 sb2 sb3 (by omega) rfl (by by_cases c : kS f a * 2 ^ k % kS f b = 0 <;> simp [c]) (by omega) (by omega)
 rw [hs1] at a3
 rw [hs2] at b3
 rw [hng] at q1 q2 q6
 rw [a3] at a4
 rw [b3] at b4
 exact rdv_all f m x1 y1 x2 y2 u v s1 s2 neg hng s1 _ _ _ s2 _ _ _ neg _ _ e 0 fl w KF KN1 KN2 KS1 KS2 (box (Or.inr (Or.inr (Or.inr (Or.inr (Or.inr (Or.inr (Or.inr (⟨KI1 false (decide_eq_false (by omega)), KZ1 false (decide_eq_false (by omega)), KI2 false (decide_eq_false (by omega)), KZ2 false (decide_eq_false (by omega)), box (fun w => rValue_yes f hf x1 y1 a hx1 hy1 ha oa fa (by omega) _ _ _ _ _ _ a3 rfl rfl w), box (fun w => rValue_yes f hf x2 y2 b hx2 hy2 hb ob fb (by omega) _ _ _ _ _ _ b3 rfl rfl w), box (fun w => rQuo_ok _ _ _ _ _ _ _ _ _ _ _ _ neg n d e 0 _ _ rfl rfl rfl rfl a4 b4 q1 rfl rfl w), box (fun w => rRound_is0 f m hf hm neg n d _ _ e rfl rfl q2 q3 q4 M fl (by rw [q6]; exact hr) u v hv w)⟩)))))))))
theorem both_div (f m : Int) (h0 : 0 ≤ f) (h1 : f ≤ 255) (m0 : 0 ≤ m) (x1 y1 x2 y2 : Nat) (hx1 : x1 < 18446744073709551616) (hy1 : y1 < 18446744073709551616) (hx2 : x2 < 18446744073709551616) (hy2 : y2 < 18446744073709551616) : ∃ (u v : Nat) (fl c : Int), Box (∀ w, FAt w → Calls Tryz.prog 9 #[.int .u8 f, .int .u8 m, .agg #[.int .u64 x1, .int .u64 y1], .agg #[.int .u64 x2, .int .u64 y2]] w fun r w' => r = .returned (.tuple #[.agg #[.int .u64 u, .int .u64 v], .int .u8 fl, .int .i64 c]) ∧ Below w.heap.size w w') ∧ Box (∀ w, Calls Tryz.prog 10 #[.int .u8 f, .int .u8 m, .agg #[.int .u64 x1, .int .u64 y1], .agg #[.int .u64 x2, .int .u64 y2]] w fun r w' => r = .returned (.tuple #[.agg #[.int .u64 u, .int .u64 v], .int .u8 fl, .int .i64 c]) ∧ Below w.heap.size w w') ∧ IntKind.i64.wrap c = c := by
 obtain ⟨a, ha⟩ : ∃ a, y1 + 18446744073709551616 * x1 = a := ⟨_, rfl⟩
 obtain ⟨b, hb⟩ : ∃ b, y2 + 18446744073709551616 * x2 = b := ⟨_, rfl⟩
 by_cases h : (f ≤ 3 ∧ m ≤ 4) ∧ okB f a = true ∧ okB f b = true
 ·
  obtain ⟨⟨c1, c2⟩, oa, ob⟩ := h
  have hf := is4_of h0 c1
  obtain ⟨M, fl, hr⟩ : ∃ M fl, divR f m a b = (M, fl) := ⟨_, _, rfl⟩
  obtain ⟨u, v, hv⟩ : ∃ u v, bv7 M = (u, v) := ⟨_, _, rfl⟩
  exact ⟨u, v, fl, 0, box (fun w hT => kDiv_is f m hf ⟨m0, c2⟩ x1 y1 a x2 y2 b hx1 hy1 ha hx2 hy2 hb oa ob M fl hr u v hv w hT), box (fun w => rDiv_is f m hf ⟨m0, c2⟩ x1 y1 a x2 y2 b hx1 hy1 ha hx2 hy2 hb oa ob M fl hr u v hv w), by decide⟩
 ·
  have hn : (decide (f ≤ 3 ∧ m ≤ 4) && okB f a && okB f b) = false := by
   rw [Bool.eq_false_iff]
   intro q
   rw [Bool.and_eq_true, Bool.and_eq_true, decide_eq_true_iff] at q
   exact h ⟨q.1.1, q.1.2, q.2⟩
  exact ⟨0, 0, 0, 2, box (fun w hT => dv_no f m x1 y1 x2 y2 w (kmay2 f m h0 h1 m0 x1 y1 a x2 y2 b hx1 hy1 ha hx2 hy2 hb false hn) hT), box (fun w => rdv_no f m x1 y1 x2 y2 w (rfit2 f m h0 x1 y1 a x2 y2 b hx1 hy1 ha hx2 hy2 hb false hn)), by decide⟩
theorem al13 : divR 2 0 17920 16896 = (16384, 0) ∧ okB 2 17920 = true ∧ okB 2 16896 = true := by decide +kernel
theorem r13alive (w : World) (hT : FAt w) : Calls Tryz.prog 11 #[] w fun r w' => r = .returned (.bool true) ∧ Below w.heap.size w w' := by
 have FF := box hT
 have K1 : Box (∀ w, FAt w → Calls Tryz.prog 9 #[.int .u8 2, .int .u8 0, .agg #[.int .u64 0, .int .u64 17920], .agg #[.int .u64 0, .int .u64 16896]] w fun r w' => r = .returned (.tuple #[.agg #[.int .u64 0, .int .u64 16384], .int .u8 0, .int .i64 0]) ∧ Below w.heap.size w w') := box (fun w hT => kDiv_is 2 0 (by unfold Is4; omega) (by decide) 0 17920 17920 0 16896 16896 (by decide) (by decide) rfl (by decide) (by decide) rfl al13.2.1 al13.2.2 _ _ al13.1 0 16384 rfl w hT)
 clear hT
 have B0 : Below w.heap.size w w := (Below.refl _ _)
 go_enter Tryz.func11, Tryz.ntmps11
 go_wp2_with fail
 refine (K1.out _ (fatB FF.out B0)).mono ?_
 rintro r w1 ⟨rfl, b1⟩
 have B1 := btr B0 b1
 clear b1 B0 
 have S2 := box B1.size
 have Aa := heap_alloc_last w1 (Obj.cells #[.int .u64 0, .int .u64 16384] 26)
 have B2 := btr B1 (bal w1 (Obj.cells #[.int .u64 0, .int .u64 16384] 26))
 clear B1 
 obtain ⟨Ab, Ac⟩ := cells2s Aa
 go_wp2
 go_ret
 exact ⟨rfl, B2⟩
end Go.Proofs.YtapikkbifdldfaaGreatDoor
