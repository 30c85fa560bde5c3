/-
  What the functions that the statement reaches return: part 16 (V6, V9, VA, VB, Shelf, TA).
-/
import Derived.Lib.MinMax
import Derived.Deep.RegionHeld3
import Derived.Shelf.Strconv.Itoa3
import Derived.Shelf.Strconv.ErrVarAll
import Derived.Shelf.Strings.Cut
import Derived.Shelf.Small.Wraps
import Derived.Ground.NamesProg
import Derived.Test.YtkmlbjlaahcahaaGreatDoorProg
import Derived.Test.YtkmlbjlaahcahaaGreatDoorBa15
namespace Go.Proofs.YtkmlbjlaahcahaaGreatDoor
set_option maxRecDepth 100000
open Go.RowKit WMath
set_option linter.unusedSimpArgs false
set_option linter.unusedVariables false

set_option maxRecDepth 100000 in
set_option maxHeartbeats 2000000 in
theorem kof_zero (f : Int) (b : Bool) (s t : ByteArray) (e : Int) (w : World)
    (KC : Box (∀ w, Calls Tryz.prog 45 #[.int .u8 f] w fun r w' => r = .returned (.int .i64 0) ∧ Below w.heap.size w w'))
    (KX : Box (∀ w, TabAt w → Calls Tryz.prog 46 #[.agg #[.bool b, .string s, .string t, .int .i64 e]] w fun r w' => r = .returned (.int .i64 0) ∧ Below w.heap.size w w'))
    (KS : Box (∀ w, TabAt w → Calls Tryz.prog 47 #[.agg #[.bool b, .string s, .string t, .int .i64 e]] w fun r w' => r = .returned (.int .i64 0) ∧ Below w.heap.size w w'))
    (KZ : Box (∀ w, FAt w → Calls Tryz.prog 28 #[.int .u8 f, .bool false] w fun r w' => r = .returned (.agg #[.int .u64 0, .int .u64 0]) ∧ Below w.heap.size w w'))
    (hT : FAt w) (hT2 : TabAt w) : Calls Tryz.prog 12 #[.int .u8 f, .agg #[.bool b, .string s, .string t, .int .i64 e]] w fun r w' => r = .returned (.tuple #[.agg #[.int .u64 0, .int .u64 0], .bool true, .int .i64 0]) ∧ Below w.heap.size w w' := by
  have FF := box hT
  have TT := box hT2
  clear hT hT2
  have hat := cw_at 6
  have hz := cw6z
  have hff := cw6f
  have hs0 := st0
  have hcs : ∀ x, ((cw 6 x).size = 6) = True := fun x => eq_true (cw_size 6 x)
  obtain ⟨Rx_0, Rz_0, B0⟩ := opn2 w (Obj.cells #[.bool b, .string s, .string t, .int .i64 e] 28) (Obj.cells #[.int .u64 0, .int .u64 0] 25)
  go_enter Tryz.func12, Tryz.ntmps12
  go_wp2_with fail
  refine (KC.out _).mono ?_
  rintro r w1 ⟨rfl, b1⟩
  have B1 : Below w.heap.size w w1 := btr B0 b1
  have Rx_1 := heap_of b1 _ _ _ Rx_0
  have Rz_1 := heap_of b1 _ _ _ Rz_0
  clear b1 B0 Rx_0 Rz_0
  obtain ⟨cx_1_0, cx_1_1, cx_1_2, cx_1_3⟩ := cells4s Rx_1
  obtain ⟨cz_1_0, cz_1_1⟩ := cells2s Rz_1
  go_wp2_with fail
  refine (KX.out _ (tabB TT.out B1)).mono ?_
  rintro r w2 ⟨rfl, b2⟩
  have B2 : Below w.heap.size w w2 := btr B1 b2
  have Rx_2 := heap_of b2 _ _ _ Rx_1
  have Rz_2 := heap_of b2 _ _ _ Rz_1
  clear b2 B1 Rx_1 cx_1_0 cx_1_1 cx_1_2 cx_1_3 Rz_1 cz_1_0 cz_1_1
  obtain ⟨cx_2_0, cx_2_1, cx_2_2, cx_2_3⟩ := cells4s Rx_2
  obtain ⟨cz_2_0, cz_2_1⟩ := cells2s Rz_2
  go_wp2_with fail
  refine (KS.out _ (tabB TT.out B2)).mono ?_
  rintro r w3 ⟨rfl, b3⟩
  have B3 : Below w.heap.size w w3 := btr B2 b3
  have Rx_3 := heap_of b3 _ _ _ Rx_2
  have Rz_3 := heap_of b3 _ _ _ Rz_2
  clear b3 B2 Rx_2 cx_2_0 cx_2_1 cx_2_2 cx_2_3 Rz_2 cz_2_0 cz_2_1
  obtain ⟨cx_3_0, cx_3_1, cx_3_2, cx_3_3⟩ := cells4s Rx_3
  obtain ⟨cz_3_0, cz_3_1⟩ := cells2s Rz_3
  go_wp2_with fail
  refine (KZ.out _ (fatB FF.out B3)).mono ?_
  rintro r w4 ⟨rfl, b4⟩
  have B4 : Below w.heap.size w w4 := btr B3 b4
  have Rx_4 := heap_of b4 _ _ _ Rx_3
  have Rz_4 := heap_of b4 _ _ _ Rz_3
  clear b4 B3 Rx_3 cx_3_0 cx_3_1 cx_3_2 cx_3_3 Rz_3 cz_3_0 cz_3_1
  obtain ⟨cx_4_0, cx_4_1, cx_4_2, cx_4_3⟩ := cells4s Rx_4
  obtain ⟨cz_4_0, cz_4_1⟩ := cells2s Rz_4
  have q0 := fz (k := 0) Rz_4
  have q1 := fz (k := 1) Rz_4
  obtain ⟨E0, E1⟩ := set2_cells Rz_4 (.int .u64 0) (.int .u64 0)
  go_wp2
  exact bodyPost_ret (v := .tuple #[.agg #[.int .u64 0, .int .u64 0], .bool true, .int .i64 0]) (by simp [results, Tryz.results12, go_sem, E0, E1]) rfl ⟨rfl, set2_below B4 (by first | exact Nat.le_refl _ | omega | (skip; omega)) _ _⟩
set_option maxRecDepth 100000 in
set_option maxHeartbeats 2000000 in
theorem kof_over (f : Int) (b : Bool) (s t : ByteArray) (e : Int) (g T E : Int) (w : World)
    (KC : Box (∀ w, Calls Tryz.prog 45 #[.int .u8 f] w fun r w' => r = .returned (.int .i64 0) ∧ Below w.heap.size w w'))
    (KX : Box (∀ w, TabAt w → Calls Tryz.prog 46 #[.agg #[.bool b, .string s, .string t, .int .i64 e]] w fun r w' => r = .returned (.int .i64 0) ∧ Below w.heap.size w w'))
    (KS : Box (∀ w, TabAt w → Calls Tryz.prog 47 #[.agg #[.bool b, .string s, .string t, .int .i64 e]] w fun r w' => r = .returned (.int .i64 g) ∧ Below w.heap.size w w'))
    (KT : Box (∀ w, TabAt w → Calls Tryz.prog 48 #[.agg #[.bool b, .string s, .string t, .int .i64 e]] w fun r w' => r = .returned (.tuple #[.int .i64 T, .int .i64 0]) ∧ Below w.heap.size w w'))
    (KE : Box (∀ w, FAt w → Calls Tryz.prog 49 #[.int .u8 f] w fun r w' => r = .returned (.int .i64 E) ∧ Below w.heap.size w w'))
    (hg : (g == 0) = false) (ho : decide (E < T) = true)
    (hT : FAt w) (hT2 : TabAt w) : Calls Tryz.prog 12 #[.int .u8 f, .agg #[.bool b, .string s, .string t, .int .i64 e]] w fun r w' => r = .returned (.tuple #[.agg #[.int .u64 0, .int .u64 0], .bool false, .int .i64 0]) ∧ Below w.heap.size w w' := by
  have FF := box hT
  have TT := box hT2
  clear hT hT2
  have hat := cw_at 6
  have hz := cw6z
  have hff := cw6f
  have hs0 := st0
  have hcs : ∀ x, ((cw 6 x).size = 6) = True := fun x => eq_true (cw_size 6 x)
  obtain ⟨Rx_0, Rz_0, B0⟩ := opn2 w (Obj.cells #[.bool b, .string s, .string t, .int .i64 e] 28) (Obj.cells #[.int .u64 0, .int .u64 0] 25)
  go_enter Tryz.func12, Tryz.ntmps12
  go_wp2_with fail
  refine (KC.out _).mono ?_
  rintro r w1 ⟨rfl, b1⟩
  have B1 : Below w.heap.size w w1 := btr B0 b1
  have Rx_1 := heap_of b1 _ _ _ Rx_0
  have Rz_1 := heap_of b1 _ _ _ Rz_0
  clear b1 B0 Rx_0 Rz_0
  obtain ⟨cx_1_0, cx_1_1, cx_1_2, cx_1_3⟩ := cells4s Rx_1
  obtain ⟨cz_1_0, cz_1_1⟩ := cells2s Rz_1
  go_wp2_with fail
  refine (KX.out _ (tabB TT.out B1)).mono ?_
  rintro r w2 ⟨rfl, b2⟩
  have B2 : Below w.heap.size w w2 := btr B1 b2
  have Rx_2 := heap_of b2 _ _ _ Rx_1
  have Rz_2 := heap_of b2 _ _ _ Rz_1
  clear b2 B1 Rx_1 cx_1_0 cx_1_1 cx_1_2 cx_1_3 Rz_1 cz_1_0 cz_1_1
  obtain ⟨cx_2_0, cx_2_1, cx_2_2, cx_2_3⟩ := cells4s Rx_2
  obtain ⟨cz_2_0, cz_2_1⟩ := cells2s Rz_2
  go_wp2_with fail
  refine (KS.out _ (tabB TT.out B2)).mono ?_
  rintro r w3 ⟨rfl, b3⟩
  have B3 : Below w.heap.size w w3 := btr B2 b3
  have Rx_3 := heap_of b3 _ _ _ Rx_2
  have Rz_3 := heap_of b3 _ _ _ Rz_2
  clear b3 B2 Rx_2 cx_2_0 cx_2_1 cx_2_2 cx_2_3 Rz_2 cz_2_0 cz_2_1
  obtain ⟨cx_3_0, cx_3_1, cx_3_2, cx_3_3⟩ := cells4s Rx_3
  obtain ⟨cz_3_0, cz_3_1⟩ := cells2s Rz_3
  go_wp2_with fail
  refine (KT.out _ (tabB TT.out B3)).mono ?_
  rintro r w4 ⟨rfl, b4⟩
  have B4 : Below w.heap.size w w4 := btr B3 b4
  have Rx_4 := heap_of b4 _ _ _ Rx_3
  have Rz_4 := heap_of b4 _ _ _ Rz_3
  clear b4 B3 Rx_3 cx_3_0 cx_3_1 cx_3_2 cx_3_3 Rz_3 cz_3_0 cz_3_1
  obtain ⟨cx_4_0, cx_4_1, cx_4_2, cx_4_3⟩ := cells4s Rx_4
  obtain ⟨cz_4_0, cz_4_1⟩ := cells2s Rz_4
  go_wp2_with fail
  refine (KE.out _ (fatB FF.out B4)).mono ?_
  rintro r w5 ⟨rfl, b5⟩
  have B5 : Below w.heap.size w w5 := btr B4 b5
  have Rx_5 := heap_of b5 _ _ _ Rx_4
  have Rz_5 := heap_of b5 _ _ _ Rz_4
  clear b5 B4 Rx_4 cx_4_0 cx_4_1 cx_4_2 cx_4_3 Rz_4 cz_4_0 cz_4_1
  obtain ⟨cx_5_0, cx_5_1, cx_5_2, cx_5_3⟩ := cells4s Rx_5
  obtain ⟨cz_5_0, cz_5_1⟩ := cells2s Rz_5
  have q0 := fz (k := 0) Rz_5
  have q1 := fz (k := 1) Rz_5
  obtain ⟨E0, E1⟩ := set2_cells Rz_5 (.int .u64 0) (.int .u64 0)
  go_wp2
  exact bodyPost_ret (v := .tuple #[.agg #[.int .u64 0, .int .u64 0], .bool false, .int .i64 0]) (by simp [results, Tryz.results12, go_sem, E0, E1]) rfl ⟨rfl, set2_below B5 (by first | exact Nat.le_refl _ | omega | (skip; omega)) _ _⟩
set_option maxRecDepth 100000 in
set_option maxHeartbeats 2000000 in
theorem kof_frac (f : Int) (b : Bool) (s t : ByteArray) (e : Int) (g T E I P A1 A fe : Int) (m : ByteArray) (w : World)
    (KC : Box (∀ w, Calls Tryz.prog 45 #[.int .u8 f] w fun r w' => r = .returned (.int .i64 0) ∧ Below w.heap.size w w'))
    (KX : Box (∀ w, TabAt w → Calls Tryz.prog 46 #[.agg #[.bool b, .string s, .string t, .int .i64 e]] w fun r w' => r = .returned (.int .i64 0) ∧ Below w.heap.size w w'))
    (KS : Box (∀ w, TabAt w → Calls Tryz.prog 47 #[.agg #[.bool b, .string s, .string t, .int .i64 e]] w fun r w' => r = .returned (.int .i64 g) ∧ Below w.heap.size w w'))
    (KT : Box (∀ w, TabAt w → Calls Tryz.prog 48 #[.agg #[.bool b, .string s, .string t, .int .i64 e]] w fun r w' => r = .returned (.tuple #[.int .i64 T, .int .i64 0]) ∧ Below w.heap.size w w'))
    (KE : Box (∀ w, FAt w → Calls Tryz.prog 49 #[.int .u8 f] w fun r w' => r = .returned (.int .i64 E) ∧ Below w.heap.size w w'))
    (KI : Box (∀ w, FAt w → Calls Tryz.prog 50 #[.int .u8 f] w fun r w' => r = .returned (.int .i64 I) ∧ Below w.heap.size w w'))
    (KP : Box (∀ w, FAt w → Calls Tryz.prog 51 #[.int .u8 f] w fun r w' => r = .returned (.int .i64 P) ∧ Below w.heap.size w w'))
    (KF : Box (∀ w, TabAt w → Calls Tryz.prog 52 #[.agg #[.bool b, .string s, .string t, .int .i64 e], .int .i64 A] w fun r w' => r = .returned (.tuple #[.string m, .bool false, .int .i64 fe]) ∧ Below w.heap.size w w'))
    (hg : (g == 0) = false) (ho : decide (E < T) = false) (h1 : IntKind.i64.wrap (max T I - P) = A1) (h2 : IntKind.i64.wrap (A1 + 1) = A)
    (hT : FAt w) (hT2 : TabAt w) : Calls Tryz.prog 12 #[.int .u8 f, .agg #[.bool b, .string s, .string t, .int .i64 e]] w fun r w' => r = .returned (.tuple #[.agg #[.int .u64 0, .int .u64 0], .bool false, .int .i64 0]) ∧ Below w.heap.size w w' := by
  have FF := box hT
  have TT := box hT2
  clear hT hT2
  have hat := cw_at 6
  have hz := cw6z
  have hff := cw6f
  have hs0 := st0
  have hcs : ∀ x, ((cw 6 x).size = 6) = True := fun x => eq_true (cw_size 6 x)
  obtain ⟨Rx_0, Rz_0, B0⟩ := opn2 w (Obj.cells #[.bool b, .string s, .string t, .int .i64 e] 28) (Obj.cells #[.int .u64 0, .int .u64 0] 25)
  go_enter Tryz.func12, Tryz.ntmps12
  go_wp2_with fail
  refine (KC.out _).mono ?_
  rintro r w1 ⟨rfl, b1⟩
  have B1 : Below w.heap.size w w1 := btr B0 b1
  have Rx_1 := heap_of b1 _ _ _ Rx_0
  have Rz_1 := heap_of b1 _ _ _ Rz_0
  clear b1 B0 Rx_0 Rz_0
  obtain ⟨cx_1_0, cx_1_1, cx_1_2, cx_1_3⟩ := cells4s Rx_1
  obtain ⟨cz_1_0, cz_1_1⟩ := cells2s Rz_1
  go_wp2_with fail
  refine (KX.out _ (tabB TT.out B1)).mono ?_
  rintro r w2 ⟨rfl, b2⟩
  have B2 : Below w.heap.size w w2 := btr B1 b2
  have Rx_2 := heap_of b2 _ _ _ Rx_1
  have Rz_2 := heap_of b2 _ _ _ Rz_1
  clear b2 B1 Rx_1 cx_1_0 cx_1_1 cx_1_2 cx_1_3 Rz_1 cz_1_0 cz_1_1
  obtain ⟨cx_2_0, cx_2_1, cx_2_2, cx_2_3⟩ := cells4s Rx_2
  obtain ⟨cz_2_0, cz_2_1⟩ := cells2s Rz_2
  go_wp2_with fail
  refine (KS.out _ (tabB TT.out B2)).mono ?_
  rintro r w3 ⟨rfl, b3⟩
  have B3 : Below w.heap.size w w3 := btr B2 b3
  have Rx_3 := heap_of b3 _ _ _ Rx_2
  have Rz_3 := heap_of b3 _ _ _ Rz_2
  clear b3 B2 Rx_2 cx_2_0 cx_2_1 cx_2_2 cx_2_3 Rz_2 cz_2_0 cz_2_1
  obtain ⟨cx_3_0, cx_3_1, cx_3_2, cx_3_3⟩ := cells4s Rx_3
  obtain ⟨cz_3_0, cz_3_1⟩ := cells2s Rz_3
  go_wp2_with fail
  refine (KT.out _ (tabB TT.out B3)).mono ?_
  rintro r w4 ⟨rfl, b4⟩
  have B4 : Below w.heap.size w w4 := btr B3 b4
  have Rx_4 := heap_of b4 _ _ _ Rx_3
  have Rz_4 := heap_of b4 _ _ _ Rz_3
  clear b4 B3 Rx_3 cx_3_0 cx_3_1 cx_3_2 cx_3_3 Rz_3 cz_3_0 cz_3_1
  obtain ⟨cx_4_0, cx_4_1, cx_4_2, cx_4_3⟩ := cells4s Rx_4
  obtain ⟨cz_4_0, cz_4_1⟩ := cells2s Rz_4
  go_wp2_with fail
  refine (KE.out _ (fatB FF.out B4)).mono ?_
  rintro r w5 ⟨rfl, b5⟩
  have B5 : Below w.heap.size w w5 := btr B4 b5
  have Rx_5 := heap_of b5 _ _ _ Rx_4
  have Rz_5 := heap_of b5 _ _ _ Rz_4
  clear b5 B4 Rx_4 cx_4_0 cx_4_1 cx_4_2 cx_4_3 Rz_4 cz_4_0 cz_4_1
  obtain ⟨cx_5_0, cx_5_1, cx_5_2, cx_5_3⟩ := cells4s Rx_5
  obtain ⟨cz_5_0, cz_5_1⟩ := cells2s Rz_5
  go_wp2_with fail
  refine (KI.out _ (fatB FF.out B5)).mono ?_
  rintro r w6 ⟨rfl, b6⟩
  have B6 : Below w.heap.size w w6 := btr B5 b6
  have Rx_6 := heap_of b6 _ _ _ Rx_5
  have Rz_6 := heap_of b6 _ _ _ Rz_5
  clear b6 B5 Rx_5 cx_5_0 cx_5_1 cx_5_2 cx_5_3 Rz_5 cz_5_0 cz_5_1
  obtain ⟨cx_6_0, cx_6_1, cx_6_2, cx_6_3⟩ := cells4s Rx_6
  obtain ⟨cz_6_0, cz_6_1⟩ := cells2s Rz_6
  go_wp2_with fail
  refine (KP.out _ (fatB FF.out B6)).mono ?_
  rintro r w7 ⟨rfl, b7⟩
  have B7 : Below w.heap.size w w7 := btr B6 b7
  have Rx_7 := heap_of b7 _ _ _ Rx_6
  have Rz_7 := heap_of b7 _ _ _ Rz_6
  clear b7 B6 Rx_6 cx_6_0 cx_6_1 cx_6_2 cx_6_3 Rz_6 cz_6_0 cz_6_1
  obtain ⟨cx_7_0, cx_7_1, cx_7_2, cx_7_3⟩ := cells4s Rx_7
  obtain ⟨cz_7_0, cz_7_1⟩ := cells2s Rz_7
  go_wp2_with fail
  refine (KF.out _ (tabB TT.out B7)).mono ?_
  rintro r w8 ⟨rfl, b8⟩
  have B8 : Below w.heap.size w w8 := btr B7 b8
  have Rx_8 := heap_of b8 _ _ _ Rx_7
  have Rz_8 := heap_of b8 _ _ _ Rz_7
  clear b8 B7 Rx_7 cx_7_0 cx_7_1 cx_7_2 cx_7_3 Rz_7 cz_7_0 cz_7_1
  obtain ⟨cx_8_0, cx_8_1, cx_8_2, cx_8_3⟩ := cells4s Rx_8
  obtain ⟨cz_8_0, cz_8_1⟩ := cells2s Rz_8
  have q0 := fz (k := 0) Rz_8
  have q1 := fz (k := 1) Rz_8
  obtain ⟨E0, E1⟩ := set2_cells Rz_8 (.int .u64 0) (.int .u64 0)
  go_wp2
  exact bodyPost_ret (v := .tuple #[.agg #[.int .u64 0, .int .u64 0], .bool false, .int .i64 0]) (by simp [results, Tryz.results12, go_sem, E0, E1]) rfl ⟨rfl, set2_below B8 (by first | exact Nat.le_refl _ | omega | (skip; omega)) _ _⟩
set_option maxRecDepth 100000 in
set_option maxHeartbeats 2000000 in
theorem kof_yes (f : Int) (b : Bool) (s t : ByteArray) (e : Int) (g T E I P A1 A fe : Int) (m : ByteArray) (M i j u v : Nat) (w : World)
    (KC : Box (∀ w, Calls Tryz.prog 45 #[.int .u8 f] w fun r w' => r = .returned (.int .i64 0) ∧ Below w.heap.size w w'))
    (KX : Box (∀ w, TabAt w → Calls Tryz.prog 46 #[.agg #[.bool b, .string s, .string t, .int .i64 e]] w fun r w' => r = .returned (.int .i64 0) ∧ Below w.heap.size w w'))
    (KS : Box (∀ w, TabAt w → Calls Tryz.prog 47 #[.agg #[.bool b, .string s, .string t, .int .i64 e]] w fun r w' => r = .returned (.int .i64 g) ∧ Below w.heap.size w w'))
    (KT : Box (∀ w, TabAt w → Calls Tryz.prog 48 #[.agg #[.bool b, .string s, .string t, .int .i64 e]] w fun r w' => r = .returned (.tuple #[.int .i64 T, .int .i64 0]) ∧ Below w.heap.size w w'))
    (KE : Box (∀ w, FAt w → Calls Tryz.prog 49 #[.int .u8 f] w fun r w' => r = .returned (.int .i64 E) ∧ Below w.heap.size w w'))
    (KI : Box (∀ w, FAt w → Calls Tryz.prog 50 #[.int .u8 f] w fun r w' => r = .returned (.int .i64 I) ∧ Below w.heap.size w w'))
    (KP : Box (∀ w, FAt w → Calls Tryz.prog 51 #[.int .u8 f] w fun r w' => r = .returned (.int .i64 P) ∧ Below w.heap.size w w'))
    (KF : Box (∀ w, TabAt w → Calls Tryz.prog 52 #[.agg #[.bool b, .string s, .string t, .int .i64 e], .int .i64 A] w fun r w' => r = .returned (.tuple #[.string m, .bool true, .int .i64 fe]) ∧ Below w.heap.size w w'))
    (KW : Box (∀ w, Calls Tryz.prog 55 #[.string m] w fun r w' => r = .returned (.agg (cw 6 M)) ∧ Below w.heap.size w w'))
    (KB : Box (∀ w, FAt w → Calls Tryz.prog 54 #[.int .u8 f, .agg (cw 6 M), .int .i64 A] w fun r w' => r = .returned (.agg #[.int .u64 (i : Nat), .int .u64 (j : Nat)]) ∧ Below w.heap.size w w'))
    (KG : Box (∀ w, FAt w → Calls Tryz.prog 53 #[.int .u8 f, .agg #[.int .u64 (i : Nat), .int .u64 (j : Nat)], .bool b] w fun r w' => r = .returned (.agg #[.int .u64 (u : Nat), .int .u64 (v : Nat)]) ∧ Below w.heap.size w w'))
    (hg : (g == 0) = false) (ho : decide (E < T) = false) (h1 : IntKind.i64.wrap (max T I - P) = A1) (h2 : IntKind.i64.wrap (A1 + 1) = A)
    (hT : FAt w) (hT2 : TabAt w) : Calls Tryz.prog 12 #[.int .u8 f, .agg #[.bool b, .string s, .string t, .int .i64 e]] w fun r w' => r = .returned (.tuple #[.agg #[.int .u64 (u : Nat), .int .u64 (v : Nat)], .bool true, .int .i64 0]) ∧ Below w.heap.size w w' := by
  have FF := box hT
  have TT := box hT2
  clear hT hT2
  have hat := cw_at 6
  have hz := cw6z
  have hff := cw6f
  have hs0 := st0
  have hcs : ∀ x, ((cw 6 x).size = 6) = True := fun x => eq_true (cw_size 6 x)
  obtain ⟨Rx_0, Rz_0, B0⟩ := opn2 w (Obj.cells #[.bool b, .string s, .string t, .int .i64 e] 28) (Obj.cells #[.int .u64 0, .int .u64 0] 25)
  go_enter Tryz.func12, Tryz.ntmps12
  go_wp2_with fail
  refine (KC.out _).mono ?_
  rintro r w1 ⟨rfl, b1⟩
  have B1 : Below w.heap.size w w1 := btr B0 b1
  have Rx_1 := heap_of b1 _ _ _ Rx_0
  have Rz_1 := heap_of b1 _ _ _ Rz_0
  clear b1 B0 Rx_0 Rz_0
  obtain ⟨cx_1_0, cx_1_1, cx_1_2, cx_1_3⟩ := cells4s Rx_1
  obtain ⟨cz_1_0, cz_1_1⟩ := cells2s Rz_1
  go_wp2_with fail
  refine (KX.out _ (tabB TT.out B1)).mono ?_
  rintro r w2 ⟨rfl, b2⟩
  have B2 : Below w.heap.size w w2 := btr B1 b2
  have Rx_2 := heap_of b2 _ _ _ Rx_1
  have Rz_2 := heap_of b2 _ _ _ Rz_1
  clear b2 B1 Rx_1 cx_1_0 cx_1_1 cx_1_2 cx_1_3 Rz_1 cz_1_0 cz_1_1
  obtain ⟨cx_2_0, cx_2_1, cx_2_2, cx_2_3⟩ := cells4s Rx_2
  obtain ⟨cz_2_0, cz_2_1⟩ := cells2s Rz_2
  go_wp2_with fail
  refine (KS.out _ (tabB TT.out B2)).mono ?_
  rintro r w3 ⟨rfl, b3⟩
  have B3 : Below w.heap.size w w3 := btr B2 b3
  have Rx_3 := heap_of b3 _ _ _ Rx_2
  have Rz_3 := heap_of b3 _ _ _ Rz_2
  clear b3 B2 Rx_2 cx_2_0 cx_2_1 cx_2_2 cx_2_3 Rz_2 cz_2_0 cz_2_1
  obtain ⟨cx_3_0, cx_3_1, cx_3_2, cx_3_3⟩ := cells4s Rx_3
  obtain ⟨cz_3_0, cz_3_1⟩ := cells2s Rz_3
  go_wp2_with fail
  refine (KT.out _ (tabB TT.out B3)).mono ?_
  rintro r w4 ⟨rfl, b4⟩
  have B4 : Below w.heap.size w w4 := btr B3 b4
  have Rx_4 := heap_of b4 _ _ _ Rx_3
  have Rz_4 := heap_of b4 _ _ _ Rz_3
  clear b4 B3 Rx_3 cx_3_0 cx_3_1 cx_3_2 cx_3_3 Rz_3 cz_3_0 cz_3_1
  obtain ⟨cx_4_0, cx_4_1, cx_4_2, cx_4_3⟩ := cells4s Rx_4
  obtain ⟨cz_4_0, cz_4_1⟩ := cells2s Rz_4
  go_wp2_with fail
  refine (KE.out _ (fatB FF.out B4)).mono ?_
  rintro r w5 ⟨rfl, b5⟩
  have B5 : Below w.heap.size w w5 := btr B4 b5
  have Rx_5 := heap_of b5 _ _ _ Rx_4
  have Rz_5 := heap_of b5 _ _ _ Rz_4
  clear b5 B4 Rx_4 cx_4_0 cx_4_1 cx_4_2 cx_4_3 Rz_4 cz_4_0 cz_4_1
  obtain ⟨cx_5_0, cx_5_1, cx_5_2, cx_5_3⟩ := cells4s Rx_5
  obtain ⟨cz_5_0, cz_5_1⟩ := cells2s Rz_5
  go_wp2_with fail
  refine (KI.out _ (fatB FF.out B5)).mono ?_
  rintro r w6 ⟨rfl, b6⟩
  have B6 : Below w.heap.size w w6 := btr B5 b6
  have Rx_6 := heap_of b6 _ _ _ Rx_5
  have Rz_6 := heap_of b6 _ _ _ Rz_5
  clear b6 B5 Rx_5 cx_5_0 cx_5_1 cx_5_2 cx_5_3 Rz_5 cz_5_0 cz_5_1
  obtain ⟨cx_6_0, cx_6_1, cx_6_2, cx_6_3⟩ := cells4s Rx_6
  obtain ⟨cz_6_0, cz_6_1⟩ := cells2s Rz_6
  go_wp2_with fail
  refine (KP.out _ (fatB FF.out B6)).mono ?_
  rintro r w7 ⟨rfl, b7⟩
  have B7 : Below w.heap.size w w7 := btr B6 b7
  have Rx_7 := heap_of b7 _ _ _ Rx_6
  have Rz_7 := heap_of b7 _ _ _ Rz_6
  clear b7 B6 Rx_6 cx_6_0 cx_6_1 cx_6_2 cx_6_3 Rz_6 cz_6_0 cz_6_1
  obtain ⟨cx_7_0, cx_7_1, cx_7_2, cx_7_3⟩ := cells4s Rx_7
  obtain ⟨cz_7_0, cz_7_1⟩ := cells2s Rz_7
  go_wp2_with fail
  refine (KF.out _ (tabB TT.out B7)).mono ?_
  rintro r w8 ⟨rfl, b8⟩
  have B8 : Below w.heap.size w w8 := btr B7 b8
  have Rx_8 := heap_of b8 _ _ _ Rx_7
  have Rz_8 := heap_of b8 _ _ _ Rz_7
  clear b8 B7 Rx_7 cx_7_0 cx_7_1 cx_7_2 cx_7_3 Rz_7 cz_7_0 cz_7_1
  obtain ⟨cx_8_0, cx_8_1, cx_8_2, cx_8_3⟩ := cells4s Rx_8
  obtain ⟨cz_8_0, cz_8_1⟩ := cells2s Rz_8
  have sS : Box (∀ W W1 : World, (Below w.heap.size w W ∧ W.heap[w.heap.size]? = some (Obj.cells #[.bool b, .string s, .string t, .int .i64 e] 28) ∧ W.cell? ⟨w.heap.size, 0, none⟩ = some (.bool b) ∧ W.cell? ⟨w.heap.size, 1, none⟩ = some (.string s) ∧ W.cell? ⟨w.heap.size, 2, none⟩ = some (.string t) ∧ W.cell? ⟨w.heap.size, 3, none⟩ = some (.int .i64 e)) → Below W.heap.size W W1 → (Below w.heap.size w W1 ∧ W1.heap[w.heap.size]? = some (Obj.cells #[.bool b, .string s, .string t, .int .i64 e] 28) ∧ W1.cell? ⟨w.heap.size, 0, none⟩ = some (.bool b) ∧ W1.cell? ⟨w.heap.size, 1, none⟩ = some (.string s) ∧ W1.cell? ⟨w.heap.size, 2, none⟩ = some (.string t) ∧ W1.cell? ⟨w.heap.size, 3, none⟩ = some (.int .i64 e))) := box (fun W W1 h b => ⟨btr h.1 b, heap_of b _ _ _ h.2.1, cell7 (heap_of b _ _ _ h.2.1) 0 _ rfl, cell7 (heap_of b _ _ _ h.2.1) 1 _ rfl, cell7 (heap_of b _ _ _ h.2.1) 2 _ rfl, cell7 (heap_of b _ _ _ h.2.1) 3 _ rfl⟩)
  have sT : Box (∀ (W : World) (xA xB : Value), (Below w.heap.size w W ∧ W.heap[w.heap.size]? = some (Obj.cells #[.bool b, .string s, .string t, .int .i64 e] 28) ∧ W.cell? ⟨w.heap.size, 0, none⟩ = some (.bool b) ∧ W.cell? ⟨w.heap.size, 1, none⟩ = some (.string s) ∧ W.cell? ⟨w.heap.size, 2, none⟩ = some (.string t) ∧ W.cell? ⟨w.heap.size, 3, none⟩ = some (.int .i64 e)) → (Below w.heap.size w ((W.setCell ⟨w.heap.size + 1, 0, none⟩ xA).setCell ⟨w.heap.size + 1, 1, none⟩ xB) ∧ ((W.setCell ⟨w.heap.size + 1, 0, none⟩ xA).setCell ⟨w.heap.size + 1, 1, none⟩ xB).heap[w.heap.size]? = some (Obj.cells #[.bool b, .string s, .string t, .int .i64 e] 28) ∧ ((W.setCell ⟨w.heap.size + 1, 0, none⟩ xA).setCell ⟨w.heap.size + 1, 1, none⟩ xB).cell? ⟨w.heap.size, 0, none⟩ = some (.bool b) ∧ ((W.setCell ⟨w.heap.size + 1, 0, none⟩ xA).setCell ⟨w.heap.size + 1, 1, none⟩ xB).cell? ⟨w.heap.size, 1, none⟩ = some (.string s) ∧ ((W.setCell ⟨w.heap.size + 1, 0, none⟩ xA).setCell ⟨w.heap.size + 1, 1, none⟩ xB).cell? ⟨w.heap.size, 2, none⟩ = some (.string t) ∧ ((W.setCell ⟨w.heap.size + 1, 0, none⟩ xA).setCell ⟨w.heap.size + 1, 1, none⟩ xB).cell? ⟨w.heap.size, 3, none⟩ = some (.int .i64 e))) := box (fun W xA xB h => ⟨set2_below h.1 (by first | exact Nat.le_refl _ | omega | (skip; omega)) xA xB, ((setCell_other (by first | omega | (skip; omega))).trans ((setCell_other (by first | omega | (skip; omega))).trans h.2.1)), cell7 (((setCell_other (by first | omega | (skip; omega))).trans ((setCell_other (by first | omega | (skip; omega))).trans h.2.1))) 0 _ rfl, cell7 (((setCell_other (by first | omega | (skip; omega))).trans ((setCell_other (by first | omega | (skip; omega))).trans h.2.1))) 1 _ rfl, cell7 (((setCell_other (by first | omega | (skip; omega))).trans ((setCell_other (by first | omega | (skip; omega))).trans h.2.1))) 2 _ rfl, cell7 (((setCell_other (by first | omega | (skip; omega))).trans ((setCell_other (by first | omega | (skip; omega))).trans h.2.1))) 3 _ rfl⟩)
  have s0 : Below w.heap.size w (w8).drew ∧ (w8).drew.heap[w.heap.size]? = some (Obj.cells #[.bool b, .string s, .string t, .int .i64 e] 28) ∧ (w8).drew.cell? ⟨w.heap.size, 0, none⟩ = some (.bool b) ∧ (w8).drew.cell? ⟨w.heap.size, 1, none⟩ = some (.string s) ∧ (w8).drew.cell? ⟨w.heap.size, 2, none⟩ = some (.string t) ∧ (w8).drew.cell? ⟨w.heap.size, 3, none⟩ = some (.int .i64 e) := ⟨B8.drew, Rx_8, cell7 (Rx_8) 0 _ rfl, cell7 (Rx_8) 1 _ rfl, cell7 (Rx_8) 2 _ rfl, cell7 (Rx_8) 3 _ rfl⟩
  have rz : (w8).drew.heap[w.heap.size + 1]? = some (Obj.cells #[.int .u64 0, .int .u64 0] 25) := Rz_8
  have hq0 := fz (k := 0) rz
  have hq1 := fz (k := 1) rz
  have hc0 := cell7 rz 0 _ rfl
  have hc1 := cell7 rz 1 _ rfl
  go_wp2_with fail
  go_region_held3 (fun W => Below w.heap.size w W ∧ W.heap[w.heap.size]? = some (Obj.cells #[.bool b, .string s, .string t, .int .i64 e] 28) ∧ W.cell? ⟨w.heap.size, 0, none⟩ = some (.bool b) ∧ W.cell? ⟨w.heap.size, 1, none⟩ = some (.string s) ∧ W.cell? ⟨w.heap.size, 2, none⟩ = some (.string t) ∧ W.cell? ⟨w.heap.size, 3, none⟩ = some (.int .i64 e)) (first | exact s1 | exact s0 | exact sT.out _ _ _ s1 | exact sT.out _ _ _ s0)
    (first | (go_at_call 55; (first | refine (KW.out _).mono ?_ | refine (KW.out _).mono ?_); rintro r wq ⟨rfl, bq⟩; have s1 := (by first | exact sS.out _ _ s1 bq | exact sS.out _ _ s0 bq); have rz := heap_of bq _ _ _ rz; have hq0 := fz (k := 0) rz; have hc0 := cell7 rz 0 _ rfl; have hq1 := fz (k := 1) rz; have hc1 := cell7 rz 1 _ rfl; clear bq) | (go_at_call 54; (first | refine (KB.out _ (fatB FF.out (And.left s1))).mono ?_ | refine (KB.out _ (fatB FF.out (And.left s0))).mono ?_); rintro r wq ⟨rfl, bq⟩; have s1 := (by first | exact sS.out _ _ s1 bq | exact sS.out _ _ s0 bq); have rz := heap_of bq _ _ _ rz; have hq0 := fz (k := 0) rz; have hc0 := cell7 rz 0 _ rfl; have hq1 := fz (k := 1) rz; have hc1 := cell7 rz 1 _ rfl; clear bq) | (go_at_call 53; (first | refine (KG.out _ (fatB FF.out (And.left s1))).mono ?_ | refine (KG.out _ (fatB FF.out (And.left s0))).mono ?_); rintro r wq ⟨rfl, bq⟩; have s1 := (by first | exact sS.out _ _ s1 bq | exact sS.out _ _ s0 bq); have rz := heap_of bq _ _ _ rz; have hq0 := fz (k := 0) rz; have hc0 := cell7 rz 0 _ rfl; have hq1 := fz (k := 1) rz; have hc1 := cell7 rz 1 _ rfl; clear bq) | fail)
  obtain ⟨E0, E1⟩ := set2_cells rz (.int .u64 (u : Nat)) (.int .u64 (v : Nat))
  have BZ := (by first | exact And.left s1 | exact And.left s0 : Below w.heap.size w _)
  go_wp2
  exact bodyPost_ret (v := .tuple #[.agg #[.int .u64 (u : Nat), .int .u64 (v : Nat)], .bool true, .int .i64 0]) (by simp [results, Tryz.results12, go_sem, E0, E1]) rfl ⟨rfl, set2_below BZ (by first | exact Nat.le_refl _ | omega | (skip; omega)) _ _⟩
end Go.Proofs.YtkmlbjlaahcahaaGreatDoor
namespace Go.Proofs.YtkmlbjlaahcahaaGreatDoor
set_option maxRecDepth 100000
open Go.RowKit WMath XMath
set_option linter.unusedSimpArgs false
set_option linter.unusedVariables false

/-- The value of a finite encoding. -/
def vX (f : Int) (n : Nat) : XN := (mk (kN f n) (kS f n) 1 (kX f n)).1
theorem kS_lim {f : Int} (hf : Is4 f) (n : Nat) : kS f n < 340282366920938463463374607431768211456 ∧ -20000 ≤ kX f n ∧ kX f n ≤ 20000 := by
  obtain ⟨g1, g2, g3, g4, g5, g6, g7⟩ := fm hf
  obtain ⟨l1, l2, l3, l4, l5⟩ := lx_lim hf
  obtain ⟨n1, n2, n3, n4, n5, n6⟩ := nm8 hf
  have tl := kT_lt (f := f) n
  have el := kE_le (f := f) n
  have oe : (oV f : Int) = 2 * fE f + 1 := by unfold oV; omega
  have pn : 2 ^ pV f + kT f n < 340282366920938463463374607431768211456 := by rw [g1, Nat.add_mul] at g7; have := Nat.mul_le_mul_right (2 ^ pV f) g5; omega
  refine ⟨?_, ?_, ?_⟩
  · unfold kS; split <;> (try split) <;> omega
  · unfold kX; split <;> (try split) <;> omega
  · unfold kX; split <;> (try split) <;> omega
theorem k_parts {f : Int} (n : Nat) (h : kC f n = 1 ∨ kC f n = 2 ∨ kC f n = 5 ∨ kC f n = 6) : kE f n < oV f ∧ kS f n = sV f (kE f n) (kT f n) ∧ kX f n = xV f (kE f n) ∧ kS f n ≠ 0 := by
  have el := kE_le (f := f) n
  have p := Nat.two_pow_pos (pV f)
  have h2 := h
  unfold kC at h2
  by_cases c1 : kE f n = oV f
  · rw [if_pos c1] at h2
    exfalso
    (repeat' split at h2) <;> omega
  · rw [if_neg c1] at h2
    unfold kS kX sV xV
    by_cases c2 : kE f n = 0
    · rw [if_neg (by omega)] at h2
      by_cases c3 : kT f n = 0
      · rw [if_neg (by omega)] at h2
        exfalso
        split at h2 <;> omega
      · rw [if_pos c3] at h2
        have hc : kC f n = 2 ∨ kC f n = 5 := by
          unfold kC
          rw [if_neg c1, if_neg (by omega), if_pos c3]
          cases kN f n <;> simp
        rw [if_pos hc, if_pos hc, if_pos c2, if_pos c2]
        exact ⟨by omega, rfl, rfl, c3⟩
    · have hc : kC f n = 1 ∨ kC f n = 6 := by
        unfold kC
        rw [if_neg c1, if_pos c2]
        cases kN f n <;> simp
      have hn : ¬ (kC f n = 2 ∨ kC f n = 5) := by omega
      rw [if_neg hn, if_neg hn, if_pos hc, if_pos hc, if_neg c2, if_neg c2]
      exact ⟨by omega, rfl, rfl, by omega⟩
theorem k_null {f : Int} (n : Nat) (h : kC f n = 3 ∨ kC f n = 4) : kS f n = 0 ∧ kX f n = 0 := by
  unfold kS kX
  rw [if_neg (by omega), if_neg (by omega), if_neg (by omega), if_neg (by omega)]
  exact ⟨rfl, rfl⟩
theorem vX_mk {f : Int} (hf : Is4 f) (n : Nat) (h : 0 < kC f n ∧ kC f n < 7) : mk (kN f n) (kS f n) 1 (kX f n) = (vX f n, 0) := by
  unfold vX
  by_cases c : kC f n = 3 ∨ kC f n = 4
  · rw [(k_null n c).1, mk_null]
  · obtain ⟨a, b, d, e⟩ := k_parts (f := f) n (by omega)
    have := (val_of hf (kN f n) (kE f n) (kT f n) a (kT_lt n) (by rw [← b]; exact e)).1
    rw [b, d, this]
theorem kValue_inf (f : Int) (hf : Is4 f) (x y n : Nat) (hx : x < 18446744073709551616) (hy : y < 18446744073709551616) (hn : y + 18446744073709551616 * x = n) (ho : okB f n = true) (hc : ¬ (0 < kC f n ∧ kC f n < 7)) (w : World) (hT : FAt w) : Calls Tryz.prog 8 #[.int .u8 f, .agg #[.int .u64 (x : Nat), .int .u64 (y : Nat)]] w fun r w' => r = .returned (.tuple #[.agg #[.bool false, .string ⟨#[]⟩, .string ⟨#[]⟩, .int .i64 0], .int .i64 80]) ∧ Below w.heap.size w w' :=
  kvalue_inf f x y (kC f n) (kS f n) (kF f n) (kX f n) w (box (fun w hT => kUnpack_yes f hf x y n _ _ _ _ hx hy hn ho rfl w hT)) (box (fun w => kfin_is _ false (by simp only [Bool.and_eq_false_iff, decide_eq_false_iff_not]; omega) w)) hT
theorem kValue_yes (f : Int) (hf : Is4 f) (x y n : Nat) (hx : x < 18446744073709551616) (hy : y < 18446744073709551616) (hn : y + 18446744073709551616 * x = n) (ho : okB f n = true) (hc : 0 < kC f n ∧ kC f n < 7) (rb : Bool) (rn rd : Nat) (re : Int) (u v : ByteArray) (hv : vX f n = ⟨rb, rn, rd, re⟩) (hu1 : nbA rn = u) (hu2 : nbA rd = v) (w : World) (hT : FAt w) (hT2 : TabAt w) : Calls Tryz.prog 8 #[.int .u8 f, .agg #[.int .u64 (x : Nat), .int .u64 (y : Nat)]] w fun r w' => r = .returned (.tuple #[.agg #[.bool rb, .string u, .string v, .int .i64 re], .int .i64 0]) ∧ Below w.heap.size w w' := by
  obtain ⟨s1, s2, s3⟩ := kS_lim hf n
  have hm := vX_mk hf n hc
  rw [hv] at hm
  have ls : nl (kS f n) ≤ 16384 := nl_pow _ 128 (by rw [show (2 : Nat) ^ 128 = 340282366920938463463374607431768211456 by decide]; exact s1) (by decide)
  exact kvalue_yes f x y (kC f n) (kS f n) (kF f n) (kX f n) (kN f n) _ rb u v re 0 w (box (fun w hT => kUnpack_yes f hf x y n _ _ _ _ hx hy hn ho rfl w hT)) (box (fun w => kfin_is _ true (by simp only [Bool.and_eq_true, decide_eq_true_eq]; exact hc) w))
    (box (fun w hT => ksign_is f hf x y n _ hx hy hn rfl w hT)) (box (fun w => knatOf_is _ _ (lt_Q7 s1) rfl w)) (box (fun w hT => makex_ok _ _ 1 _ _ _ rb rn rd re 0 u v rfl nb1 ls nl1 (by decide) (by omega) (by omega) hm hu1 hu2 w hT)) hT hT2
theorem top_lim {x : XN} (hx : x.can) : -1200000 ≤ topX x ∧ topX x ≤ 1200000 := by
  obtain ⟨h1, h2, h3, h4, _⟩ := hx
  unfold nl at h1 h2
  unfold topX lenD
  split <;> omega
theorem bel_same {P : Program} {k : FuncId} {a : Array Value} {w : World} {v : Value} (h : Calls P k a w fun r w' => r = .returned v ∧ w' = w) : Calls P k a w fun r w' => r = .returned v ∧ Below w.heap.size w w' :=
  h.mono fun _ _ h => ⟨h.1, by rw [h.2]; exact Below.refl _ _⟩
theorem fC_yes {f : Int} (hf : Is4 f) : fC f = 0 := (is4_ok hf).2.2.1
theorem kOf_is (f : Int) (hf : Is4 f) (b : Bool) (n d : Nat) (s t : ByteArray) (e : Int) (hs : nbA n = s) (ht : nbA d = t) (hc : (XN.mk b n d e).can) (M : Nat) (is : Bool) (u v : Nat) (hr : ofX f ⟨b, n, d, e⟩ = (M, is)) (hv : bv7 M = (u, v)) (w : World) (hT : FAt w) (hT2 : TabAt w) : Calls Tryz.prog 12 #[.int .u8 f, .agg #[.bool b, .string s, .string t, .int .i64 e]] w fun r w' => r = .returned (.tuple #[.agg #[.int .u64 (u : Nat), .int .u64 (v : Nat)], .bool is, .int .i64 0]) ∧ Below w.heap.size w w' := by
  have f4 := is4_ok hf
  obtain ⟨n1, n2, n3, n4, n5, n6⟩ := nm8 hf
  have K1 : Box (∀ w, Calls Tryz.prog 45 #[.int .u8 f] w fun r w' => r = .returned (.int .i64 0) ∧ Below w.heap.size w w') := box (fun w => bel_same (s_check_is f 0 f4.1 f4.2.1 (fC_yes hf) w))
  have K2 : Box (∀ w, TabAt w → Calls Tryz.prog 46 #[.agg #[.bool b, .string s, .string t, .int .i64 e]] w fun r w' => r = .returned (.int .i64 0) ∧ Below w.heap.size w w') := box (fun w hT => xcheckM b s t e true (may_yes hs ht hc) 0 rfl w hT)
  by_cases n0 : n = 0
  · unfold ofX at hr
    rw [if_pos n0] at hr
    injection hr with h1 h2
    subst h1 h2
    injection hv with h3 h4
    subst h3 h4
    exact kof_zero f b s t e w K1 K2 (box (fun w hT => Signx_ok b n d e s t 0 hs ht hc (by unfold sg; rw [if_pos n0]) w hT)) (box (fun w hT => sk_zero f false hf 0 0 (by rcases hf with rfl | rfl | rfl | rfl <;> decide +kernel) w hT)) hT hT2
  · obtain ⟨g, hg⟩ : ∃ g, sg (XN.mk b n d e) = g := ⟨_, rfl⟩
    have g0 : (g == 0) = false := by
      rw [← hg, beq_eq_false_iff_ne]
      unfold sg
      rw [if_neg n0]
      cases b
      · show (if false = true then (-1 : Int) else 1) ≠ 0
        decide
      · show (if true = true then (-1 : Int) else 1) ≠ 0
        decide
    obtain ⟨T, hTop⟩ : ∃ T, topX (XN.mk b n d e) = T := ⟨_, rfl⟩
    obtain ⟨t1, t2⟩ := top_lim hc
    rw [hTop] at t1 t2
    have K3 : Box (∀ w, TabAt w → Calls Tryz.prog 47 #[.agg #[.bool b, .string s, .string t, .int .i64 e]] w fun r w' => r = .returned (.int .i64 g) ∧ Below w.heap.size w w') := box (fun w hT => Signx_ok b n d e s t g hs ht hc hg w hT)
    have K4 : Box (∀ w, TabAt w → Calls Tryz.prog 48 #[.agg #[.bool b, .string s, .string t, .int .i64 e]] w fun r w' => r = .returned (.tuple #[.int .i64 T, .int .i64 0]) ∧ Below w.heap.size w w') := box (fun w hT => Topx_ok b n d e s t T hs ht n0 hc hTop w hT)
    have K5 : Box (∀ w, FAt w → Calls Tryz.prog 49 #[.int .u8 f] w fun r w' => r = .returned (.int .i64 (fE f)) ∧ Below w.heap.size w w') := box (fun w hT => kb_emax f _ f4.1 f4.2.1 rfl w hT)
    by_cases hE : fE f < T
    · unfold ofX at hr
      rw [if_neg n0, if_pos (by rw [hTop]; exact hE)] at hr
      injection hr with h1 h2
      subst h1 h2
      injection hv with h3 h4
      subst h3 h4
      exact kof_over f b s t e g T _ w K1 K2 K3 K4 K5 g0 (decide_eq_true hE) hT hT2
    · obtain ⟨A, hA⟩ : ∃ A, ofA f (XN.mk b n d e) = A := ⟨_, rfl⟩
      have hA2 := hA
      unfold ofA at hA2
      rw [hTop] at hA2
      have fp : fP f = (pV f : Int) + 1 := (em_lim hf).2.2.2.2.2.2.2.2.1
      have K6 : Box (∀ w, FAt w → Calls Tryz.prog 50 #[.int .u8 f] w fun r w' => r = .returned (.int .i64 (1 - fE f)) ∧ Below w.heap.size w w') := box (fun w hT => s_emin f _ _ f4.1 f4.2.1 rfl (em_lim hf).2.2.2.2.1 w hT)
      have K7 : Box (∀ w, FAt w → Calls Tryz.prog 51 #[.int .u8 f] w fun r w' => r = .returned (.int .i64 (fP f)) ∧ Below w.heap.size w w') := box (fun w hT => kb_precision f _ f4.1 f4.2.1 rfl w hT)
      obtain ⟨⟨⟨m, o⟩, fe⟩, hfl⟩ : ∃ q, flX (XN.mk b n d e) A = q := ⟨_, rfl⟩
      obtain ⟨z, hz⟩ : ∃ z, nbA m = z := ⟨_, rfl⟩
      have K8 : Box (∀ w, TabAt w → Calls Tryz.prog 52 #[.agg #[.bool b, .string s, .string t, .int .i64 e], .int .i64 A] w fun r w' => r = .returned (.tuple #[.string z, .bool o, .int .i64 fe]) ∧ Below w.heap.size w w') := box (fun w hT => Floorx_ok b n d e s t A m o fe z hs ht hc (by omega) (by omega) hfl hz w hT)
      have a1 : IntKind.i64.wrap (max T (1 - fE f) - fP f) = max T (1 - fE f) - fP f := wrap_i64_is _ (by omega) (by omega)
      have a2 : IntKind.i64.wrap (max T (1 - fE f) - fP f + 1) = A := by rw [wrap_i64_is _ (by omega) (by omega)]; omega
      have dE : decide (fE f < T) = false := decide_eq_false hE
      unfold ofX at hr
      rw [if_neg n0, if_neg (by rw [hTop]; exact hE), hA, hfl] at hr
      simp only [] at hr
      cases o
      · rw [if_neg (by decide)] at hr
        injection hr with h1 h2
        subst h1 h2
        injection hv with h3 h4
        subst h3 h4
        exact kof_frac f b s t e g T _ _ _ _ A fe z w K1 K2 K3 K4 K5 K6 K7 K8 g0 dE a1 a2 hT hT2
      · rw [if_pos rfl] at hr
        injection hr with h1 h2
        subst h2
        have hd : d = 1 ∧ A ≤ e := by
          have h3 : ¬ (d ≠ 1 ∨ e < A) := fun h3 => by
            have := fl_no (XN.mk b n d e) A hc n0 h3
            rw [hfl] at this
            exact Bool.noConfusion (show true = false from this)
          omega
        obtain ⟨rfl, hAe⟩ := hd
        obtain ⟨m', k, tt, q1, q2, q3, q4, q5⟩ := of_yes hf b n e n0 (by rw [hTop]; omega) (by rw [hA]; exact hAe)
        rw [hA] at q1 q5
        have hm : m = m' := by
          have lim : m' < 340282366920938463463374607431768211456 := by
            obtain ⟨g1, g2, g3, g4, g5, g6, g7⟩ := fm hf
            rw [g1, Nat.add_mul] at g7
            have := Nat.mul_le_mul_right (2 ^ pV f) g5
            rcases q5 with ⟨_, q, _⟩ | ⟨_, q, _⟩ <;> omega
          have := fl_yes (XN.mk b n 1 e) A n0 rfl hAe (by omega) (by omega) (by
            show nl (n * 2 ^ (e - A).toNat) ≤ 16384
            rw [← q1]
            exact nl_pow _ 128 (by rw [show (2 : Nat) ^ 128 = 340282366920938463463374607431768211456 by decide]; exact lim) (by decide))
          rw [hfl] at this
          injection this with e1 e2
          injection e1 with e3 e4
          rw [e3, q1]
        have lim : m < 340282366920938463463374607431768211456 := by
          obtain ⟨g1, g2, g3, g4, g5, g6, g7⟩ := fm hf
          rw [g1, Nat.add_mul] at g7
          have := Nat.mul_le_mul_right (2 ^ pV f) g5
          rw [hm]
          rcases q5 with ⟨_, q, _⟩ | ⟨_, q, _⟩ <;> omega
        obtain ⟨i, j, hij⟩ : ∃ i j, bv7 (fb f m A) = (i, j) := ⟨_, _, rfl⟩
        obtain ⟨i1, j1, ij⟩ := bv_lt (by unfold fb; exact Nat.mod_lt _ (by decide)) hij
        exact kof_yes f b s t e g T _ _ _ _ A fe z m i j u v w K1 K2 K3 K4 K5 K6 K7 K8
          (box (fun w => kwideOf_is m z hz (by
            have := nl_le_of m 16 (by rw [show (2 : Nat) ^ (8 * 16) = 340282366920938463463374607431768211456 by decide]; exact lim)
            omega) w))
          (box (fun w hT => kfinite_is f hf m i j A (lt_Q7 lim) (by omega) (by omega) hij w hT))
          (box (fun w hT => ksigned_is f hf i j _ u v b i1 j1 ij (by rw [h1]; exact hv) w hT)) g0 dE a1 a2 hT hT2
end Go.Proofs.YtkmlbjlaahcahaaGreatDoor
namespace Go.Proofs.YtkmlbjlaahcahaaGreatDoor
set_option maxRecDepth 100000
open Go.RowKit WMath XMath
set_option linter.unusedSimpArgs false
set_option linter.unusedVariables false

theorem nb_p {f : Int} (hf : Is4 f) : 2 * 2 ^ pV f ≤ 2 ^ 128 ∧ (oV f : Int) = 2 * fE f + 1 ∧ fE f ≤ 16383 ∧ 0 ≤ fE f ∧ lx f = 1 - fE f - (pV f : Int) ∧ pV f < 128 ∧ 3 ≤ oV f := by
  obtain ⟨n1, n2, n3, n4, n5, n6⟩ := nm8 hf
  obtain ⟨g1, g2, g3, g4, g5, g6, g7⟩ := fm hf
  have oe : (oV f : Int) = 2 * fE f + 1 := by unfold oV; omega
  refine ⟨?_, oe, n5, n6, n3, n4, g5⟩
  have := Nat.pow_le_pow_right (show 0 < 2 by decide) (show pV f + 1 ≤ 128 by omega)
  rw [Nat.pow_succ] at this
  omega
theorem vX_enc {f : Int} (hf : Is4 f) (neg : Bool) (e t : Nat) (he : e < oV f) (ht : t < 2 ^ pV f) :
    (0 < kC f (enc7 f neg e t) ∧ kC f (enc7 f neg e t) < 7) ∧ (vX f (enc7 f neg e t)).can ∧ (vX f (enc7 f neg e t)).val = sgn neg * ((sV f e t : Nat) : Rat) * (2 : Rat) ^ (xV f e) ∧ Bd (vX f (enc7 f neg e t)) 128 20200 ∧
    (sV f e t = 0 → vX f (enc7 f neg e t) = X0) ∧ (sV f e t ≠ 0 → (vX f (enc7 f neg e t)).n ≠ 0 ∧ (vX f (enc7 f neg e t)).b = neg) := by
  obtain ⟨p1, p2', p3, p4, p5, p6, p7⟩ := nb_p hf
  obtain ⟨k1, k2, k3, k4⟩ := enc_k hf neg (Nat.le_of_lt he) ht
  have hC := kC_cases hf neg e t (Nat.le_of_lt he) ht
  have sl : sV f e t < 2 ^ 128 := by unfold sV; split <;> omega
  have xl : -20000 ≤ xV f e ∧ xV f e ≤ 20000 := by unfold xV; split <;> omega
  rw [if_neg (by omega)] at hC
  by_cases s0 : sV f e t = 0
  · have e0 : e = 0 ∧ t = 0 := by
      unfold sV at s0
      have := Nat.two_pow_pos (pV f)
      split at s0 <;> omega
    rw [if_neg (by omega), if_neg (by omega)] at hC
    have hc : kC f (enc7 f neg e t) = 3 ∨ kC f (enc7 f neg e t) = 4 := by rw [hC]; cases neg <;> simp
    have hv : vX f (enc7 f neg e t) = X0 := by
      unfold vX
      rw [(k_null _ hc).1, mk_null]
    rw [hv]
    refine ⟨by omega, x0_can, ?_, ⟨Nat.two_pow_pos _, by show 1 < 2 ^ 128; decide, by decide, by decide⟩, fun _ => rfl, fun h => absurd s0 h⟩
    rw [s0]
    show sgn false * (((0 : Nat) : Rat) / ((1 : Nat) : Rat)) * (2 : Rat) ^ (0 : Int) = _
    have z : ((0 : Nat) : Rat) = 0 := rfl
    rw [z, Rat.mul_zero, Rat.zero_mul, Rat.div_def, Rat.zero_mul, Rat.mul_zero, Rat.zero_mul]
  · have hc : kC f (enc7 f neg e t) = 1 ∨ kC f (enc7 f neg e t) = 2 ∨ kC f (enc7 f neg e t) = 5 ∨ kC f (enc7 f neg e t) = 6 := by
      rw [hC]
      by_cases e0 : e = 0
      · have t0 : t ≠ 0 := by
          unfold sV at s0
          rw [if_pos e0] at s0
          exact s0
        rw [if_neg (by omega), if_pos t0]
        cases neg <;> simp
      · rw [if_pos e0]
        cases neg <;> simp
    obtain ⟨q1, q2, q3, q4⟩ := k_parts (f := f) _ hc
    rw [k3, k4] at q2
    rw [k3] at q3
    have hm := vX_mk hf (enc7 f neg e t) (by omega)
    rw [k2, q2, q3] at hm
    have w := mk_whole neg (sV f e t) (xV f e) s0 (by omega) (by
      have := tz_blen (sV f e t)
      have := blen_le_of (sV f e t) 128 sl
      omega)
    have hv : vX f (enc7 f neg e t) = ⟨neg, od (sV f e t), 1, xV f e + (tz (sV f e t) : Int)⟩ := by
      rw [hm] at w
      injection w
    have o1 := od_is (sV f e t) s0
    have od0 : od (sV f e t) ≠ 0 := by omega
    have me : (mk neg (sV f e t) 1 (xV f e)).2 = 0 := by rw [hm]
    have mv := mk_val neg (sV f e t) 1 (xV f e) (by decide) me
    have mc := mk_can neg (sV f e t) 1 (xV f e) (nl_pow _ 128 sl (by decide)) (nl_pow 1 1 (by decide) (by decide)) (by decide) me
    have mb := (mk_ok neg (sV f e t) 1 (xV f e) 128 20000 20128 sl (by decide) rfl (by omega) (by omega) rfl (by decide)).2
    rw [hm] at mv mc mb
    simp only [] at mv mc mb
    refine ⟨by omega, mc, ?_, ⟨mb.1, mb.2.1, by have := mb.2.2.1; omega, by have := mb.2.2.2; omega⟩, fun h => absurd h s0, fun _ => ?_⟩
    · rw [mv, show ((1 : Nat) : Rat) = 1 from rfl, Rat.div_def, show (1 : Rat)⁻¹ = 1 by decide +kernel, Rat.mul_one]
    · rw [hv]
      exact ⟨od0, rfl⟩
end Go.Proofs.YtkmlbjlaahcahaaGreatDoor
namespace Go.Proofs.YtkmlbjlaahcahaaGreatDoor
set_option maxRecDepth 100000
open Go.RowKit WMath XMath
set_option linter.unusedSimpArgs false
set_option linter.unusedVariables false

theorem ok_enc {f : Int} (hf : Is4 f) (neg : Bool) (e t : Nat) (he : e ≤ oV f) (ht : t < 2 ^ pV f) : okB f (enc7 f neg e t) = true := by
  have h1 := (enc_k hf neg he ht).1
  unfold okB
  rw [decide_eq_true_iff]
  exact ⟨by rcases hf with rfl | rfl | rfl | rfl <;> decide, h1⟩
theorem bits_of {f : Int} (hf : Is4 f) {n : Nat} (ho : okB f n = true) : ∃ u v : Nat, bv7 n = (u, v) ∧ u < 18446744073709551616 ∧ v < 18446744073709551616 ∧ v + 18446744073709551616 * u = n := by
  obtain ⟨u, v, h⟩ : ∃ u v, bv7 n = (u, v) := ⟨_, _, rfl⟩
  have fit := (okB_yes (is4_ok hf).1 ho).2
  unfold Fit at fit
  have := (fm hf).2.2.2.2.2.2
  obtain ⟨a, b, c⟩ := bv_lt (show n < 340282366920938463463374607431768211456 by omega) h
  exact ⟨u, v, h, a, b, c⟩
theorem bv_eq {x y n : Nat} (hx : x < 18446744073709551616) (hy : y < 18446744073709551616) (hn : y + 18446744073709551616 * x = n) : bv7 n = (x, y) := by
  unfold bv7
  rw [← hn]
  congr 1 <;> omega
def NE (x y i j : Nat) : Prop := ((x : Int) == (i : Int)) = false ∨ (((x : Int) == (i : Int)) = true ∧ ((y : Int) == (j : Int)) = false)
theorem ne_of {x y i j n m : Nat} (hn : y + 18446744073709551616 * x = n) (hm : j + 18446744073709551616 * i = m) (h : n ≠ m) : NE x y i j := by
  unfold NE
  by_cases c : x = i
  · exact Or.inr ⟨by rw [beq_iff_eq]; omega, by rw [beq_eq_false_iff_ne]; omega⟩
  · exact Or.inl (by rw [beq_eq_false_iff_ne]; omega)
end Go.Proofs.YtkmlbjlaahcahaaGreatDoor
namespace Go.Proofs
open Go.Shelf
def Tryz.laysItoa_ren : Go.Shelf.Ren := ⟨fun | 171 => 132 | 243 => 201 | 246 => 235 | 283 => 258 | 284 => 259 | 285 => 260 | 286 => 261 | 129 => 225 | 317 => 277 | 318 => 278 | 319 => 279 | 320 => 280 | 337 => 287 | 338 => 249 | n => n, fun | 3 => 3 | 9 => 9 | 2 => 2 | 4 => 4 | 171 => 265 | 0 => 0 | 53 => 23 | 37 => 131 | 5 => 5 | 173 => 267 | 212 => 288 | 51 => 289 | 20 => 20 | 213 => 290 | 46 => 130 | 232 => 303 | 233 => 277 | n => n, fun | 17 => 5 | 18 => 6 | 19 => 4 | n => n⟩
theorem Tryz.laysItoa : Go.Proofs.LaysM.n171 Tryz.prog Tryz.laysItoa_ren := {
  mixed := by kernel_rfl
  f129 := Tryz.func225.trans (congrArg some (by kernel_rfl))
  f171 := Tryz.func132.trans (congrArg some (by kernel_rfl))
  f243 := Tryz.func201.trans (congrArg some (by kernel_rfl))
  f246 := Tryz.func235.trans (congrArg some (by kernel_rfl))
  f283 := Tryz.func258.trans (congrArg some (by kernel_rfl))
  f284 := Tryz.func259.trans (congrArg some (by kernel_rfl))
  f285 := Tryz.func260.trans (congrArg some (by kernel_rfl))
  f286 := Tryz.func261.trans (congrArg some (by kernel_rfl))
  f317 := Tryz.func277.trans (congrArg some (by kernel_rfl))
  f318 := Tryz.func278.trans (congrArg some (by kernel_rfl))
  f319 := Tryz.func279.trans (congrArg some (by kernel_rfl))
  f320 := Tryz.func280.trans (congrArg some (by kernel_rfl))
  f337 := Tryz.func287.trans (congrArg some (by kernel_rfl))
  f338 := Tryz.func249.trans (congrArg some (by kernel_rfl))
  t0 := Tryz.underlying0
  a0 := Tryz.isAgg0
  z0 := Tryz.sizeOf0
  v0 := Tryz.zeroValue0
  t2 := Tryz.underlying2
  a2 := Tryz.isAgg2
  z2 := Tryz.sizeOf2
  v2 := Tryz.zeroValue2
  t3 := Tryz.underlying3
  a3 := Tryz.isAgg3
  z3 := Tryz.sizeOf3
  v3 := Tryz.zeroValue3
  t4 := Tryz.underlying4
  a4 := Tryz.isAgg4
  z4 := Tryz.sizeOf4
  v4 := Tryz.zeroValue4
  t5 := Tryz.underlying5
  a5 := Tryz.isAgg5
  z5 := Tryz.sizeOf5
  v5 := Tryz.zeroValue5
  t9 := Tryz.underlying9
  a9 := Tryz.isAgg9
  z9 := Tryz.sizeOf9
  v9 := Tryz.zeroValue9
  t20 := Tryz.underlying20
  a20 := Tryz.isAgg20
  z20 := Tryz.sizeOf20
  v20 := Tryz.zeroValue20
  t37 := Tryz.underlying131
  a37 := Tryz.isAgg131
  z37 := Tryz.sizeOf131
  v37 := Tryz.zeroValue131
  t46 := Tryz.underlying130
  a46 := Tryz.isAgg130
  z46 := Tryz.sizeOf130
  v46 := Tryz.zeroValue130
  t51 := Tryz.underlying289
  a51 := Tryz.isAgg289
  z51 := Tryz.sizeOf289
  v51 := Tryz.zeroValue289
  t53 := Tryz.underlying23
  a53 := Tryz.isAgg23
  z53 := Tryz.sizeOf23
  v53 := Tryz.zeroValue23
  t171 := Tryz.underlying265
  a171 := Tryz.isAgg265
  z171 := Tryz.sizeOf265
  v171 := Tryz.zeroValue265
  t173 := Tryz.underlying267
  a173 := Tryz.isAgg267
  z173 := Tryz.sizeOf267
  v173 := Tryz.zeroValue267
  t212 := Tryz.underlying288
  a212 := Tryz.isAgg288
  z212 := Tryz.sizeOf288
  v212 := Tryz.zeroValue288
  t213 := Tryz.underlying290
  a213 := Tryz.isAgg290
  z213 := Tryz.sizeOf290
  t232 := Tryz.underlying303
  a232 := Tryz.isAgg303
  z232 := Tryz.sizeOf303
  v232 := Tryz.zeroValue303
  t233 := Tryz.underlying277
  a233 := Tryz.isAgg277
  z233 := Tryz.sizeOf277
  v233 := Tryz.zeroValue277
  g17 := by kernel_rfl
  g18 := by kernel_rfl
  g19 := by kernel_rfl
  i0 := by kernel_rfl
  i2 := by kernel_rfl
  i3 := by kernel_rfl
  i4 := by kernel_rfl
  i5 := by kernel_rfl
  i9 := by kernel_rfl
  i20 := by kernel_rfl
  i37 := by kernel_rfl
  i46 := by kernel_rfl
  i51 := by kernel_rfl
  i53 := by kernel_rfl
  i171 := by kernel_rfl
  i173 := by kernel_rfl
  i212 := by kernel_rfl
  i232 := by kernel_rfl
  i233 := by kernel_rfl
  m17 := by kernel_rfl
  m18 := by kernel_rfl
  m19 := by kernel_rfl }
def Tryz.laysAtoi_ren : Go.Shelf.Ren := ⟨fun | 172 => 139 | 244 => 206 | 245 => 207 | 247 => 238 | 279 => 239 | 280 => 240 | 281 => 241 | 282 => 242 | 287 => 266 | 316 => 267 | 171 => 132 | 205 => 268 | 321 => 282 | 322 => 283 | 243 => 201 | 246 => 235 | 283 => 258 | 284 => 259 | 285 => 260 | 286 => 261 | 129 => 225 | 317 => 277 | 318 => 278 | 319 => 279 | 320 => 280 | 337 => 287 | 338 => 249 | n => n, fun | 9 => 9 | 3 => 3 | 75 => 170 | 76 => 171 | 4 => 4 | 5 => 5 | 167 => 249 | 37 => 131 | 0 => 0 | 85 => 250 | 2 => 2 | 168 => 252 | 53 => 23 | 175 => 269 | 46 => 130 | 210 => 273 | 127 => 295 | 145 => 298 | 143 => 296 | 21 => 21 | 171 => 265 | 173 => 267 | 212 => 288 | 51 => 289 | 20 => 20 | 213 => 290 | 232 => 303 | 233 => 277 | 80 => 304 | n => n, fun | 15 => 2 | 16 => 3 | 17 => 5 | 18 => 6 | 19 => 4 | n => n⟩
theorem Tryz.laysAtoi : Go.Proofs.LaysC.n172 Tryz.prog Tryz.laysAtoi_ren := {
  mixed := by kernel_rfl
  f129 := Tryz.func225.trans (congrArg some (by kernel_rfl))
  f171 := Tryz.func132.trans (congrArg some (by kernel_rfl))
  f172 := Tryz.func139.trans (congrArg some (by kernel_rfl))
  f205 := Tryz.func268.trans (congrArg some (by kernel_rfl))
  f243 := Tryz.func201.trans (congrArg some (by kernel_rfl))
  f244 := Tryz.func206.trans (congrArg some (by kernel_rfl))
  f245 := Tryz.func207.trans (congrArg some (by kernel_rfl))
  f246 := Tryz.func235.trans (congrArg some (by kernel_rfl))
  f247 := Tryz.func238.trans (congrArg some (by kernel_rfl))
  f279 := Tryz.func239.trans (congrArg some (by kernel_rfl))
  f280 := Tryz.func240.trans (congrArg some (by kernel_rfl))
  f281 := Tryz.func241.trans (congrArg some (by kernel_rfl))
  f282 := Tryz.func242.trans (congrArg some (by kernel_rfl))
  f283 := Tryz.func258.trans (congrArg some (by kernel_rfl))
  f284 := Tryz.func259.trans (congrArg some (by kernel_rfl))
  f285 := Tryz.func260.trans (congrArg some (by kernel_rfl))
  f286 := Tryz.func261.trans (congrArg some (by kernel_rfl))
  f287 := Tryz.func266.trans (congrArg some (by kernel_rfl))
  f316 := Tryz.func267.trans (congrArg some (by kernel_rfl))
  f317 := Tryz.func277.trans (congrArg some (by kernel_rfl))
  f318 := Tryz.func278.trans (congrArg some (by kernel_rfl))
  f319 := Tryz.func279.trans (congrArg some (by kernel_rfl))
  f320 := Tryz.func280.trans (congrArg some (by kernel_rfl))
  f321 := Tryz.func282.trans (congrArg some (by kernel_rfl))
  f322 := Tryz.func283.trans (congrArg some (by kernel_rfl))
  f337 := Tryz.func287.trans (congrArg some (by kernel_rfl))
  f338 := Tryz.func249.trans (congrArg some (by kernel_rfl))
  t0 := Tryz.underlying0
  a0 := Tryz.isAgg0
  z0 := Tryz.sizeOf0
  v0 := Tryz.zeroValue0
  t2 := Tryz.underlying2
  a2 := Tryz.isAgg2
  z2 := Tryz.sizeOf2
  v2 := Tryz.zeroValue2
  t3 := Tryz.underlying3
  a3 := Tryz.isAgg3
  z3 := Tryz.sizeOf3
  v3 := Tryz.zeroValue3
  t4 := Tryz.underlying4
  a4 := Tryz.isAgg4
  z4 := Tryz.sizeOf4
  v4 := Tryz.zeroValue4
  t5 := Tryz.underlying5
  a5 := Tryz.isAgg5
  z5 := Tryz.sizeOf5
  v5 := Tryz.zeroValue5
  t9 := Tryz.underlying9
  a9 := Tryz.isAgg9
  z9 := Tryz.sizeOf9
  v9 := Tryz.zeroValue9
  t20 := Tryz.underlying20
  a20 := Tryz.isAgg20
  z20 := Tryz.sizeOf20
  v20 := Tryz.zeroValue20
  t21 := Tryz.underlying21
  a21 := Tryz.isAgg21
  z21 := Tryz.sizeOf21
  v21 := Tryz.zeroValue21
  t37 := Tryz.underlying131
  a37 := Tryz.isAgg131
  z37 := Tryz.sizeOf131
  v37 := Tryz.zeroValue131
  t46 := Tryz.underlying130
  a46 := Tryz.isAgg130
  z46 := Tryz.sizeOf130
  v46 := Tryz.zeroValue130
  t51 := Tryz.underlying289
  a51 := Tryz.isAgg289
  z51 := Tryz.sizeOf289
  v51 := Tryz.zeroValue289
  t53 := Tryz.underlying23
  a53 := Tryz.isAgg23
  z53 := Tryz.sizeOf23
  v53 := Tryz.zeroValue23
  t75 := Tryz.underlying170
  a75 := Tryz.isAgg170
  z75 := Tryz.sizeOf170
  v75 := Tryz.zeroValue170
  t76 := Tryz.underlying171
  a76 := Tryz.isAgg171
  z76 := Tryz.sizeOf171
  v76 := Tryz.zeroValue171
  t85 := Tryz.underlying250
  a85 := Tryz.isAgg250
  z85 := Tryz.sizeOf250
  v85 := Tryz.zeroValue250
  t127 := Tryz.underlying295
  a127 := Tryz.isAgg295
  z127 := Tryz.sizeOf295
  v127 := Tryz.zeroValue295
  t143 := Tryz.underlying296
  a143 := Tryz.isAgg296
  z143 := Tryz.sizeOf296
  v143 := Tryz.zeroValue296
  t145 := Tryz.underlying298
  a145 := Tryz.isAgg298
  z145 := Tryz.sizeOf298
  v145 := Tryz.zeroValue298
  t167 := Tryz.underlying249
  a167 := Tryz.isAgg249
  z167 := Tryz.sizeOf249
  v167 := Tryz.zeroValue249
  t168 := Tryz.underlying252
  a168 := Tryz.isAgg252
  z168 := Tryz.sizeOf252
  v168 := Tryz.zeroValue252
  t171 := Tryz.underlying265
  a171 := Tryz.isAgg265
  z171 := Tryz.sizeOf265
  v171 := Tryz.zeroValue265
  t173 := Tryz.underlying267
  a173 := Tryz.isAgg267
  z173 := Tryz.sizeOf267
  v173 := Tryz.zeroValue267
  t175 := Tryz.underlying269
  a175 := Tryz.isAgg269
  z175 := Tryz.sizeOf269
  v175 := Tryz.zeroValue269
  t210 := Tryz.underlying273
  a210 := Tryz.isAgg273
  z210 := Tryz.sizeOf273
  v210 := Tryz.zeroValue273
  t212 := Tryz.underlying288
  a212 := Tryz.isAgg288
  z212 := Tryz.sizeOf288
  v212 := Tryz.zeroValue288
  t213 := Tryz.underlying290
  a213 := Tryz.isAgg290
  z213 := Tryz.sizeOf290
  t232 := Tryz.underlying303
  a232 := Tryz.isAgg303
  z232 := Tryz.sizeOf303
  v232 := Tryz.zeroValue303
  t233 := Tryz.underlying277
  a233 := Tryz.isAgg277
  z233 := Tryz.sizeOf277
  v233 := Tryz.zeroValue277
  g15 := by kernel_rfl
  g16 := by kernel_rfl
  g17 := by kernel_rfl
  g18 := by kernel_rfl
  g19 := by kernel_rfl
  t80 := Tryz.underlying304
  a80 := Tryz.isAgg304
  z80 := Tryz.sizeOf304
  v80 := Tryz.zeroValue304
  i0 := by kernel_rfl
  i2 := by kernel_rfl
  i3 := by kernel_rfl
  i4 := by kernel_rfl
  i5 := by kernel_rfl
  i9 := by kernel_rfl
  i20 := by kernel_rfl
  i21 := by kernel_rfl
  i37 := by kernel_rfl
  i46 := by kernel_rfl
  i51 := by kernel_rfl
  i53 := by kernel_rfl
  i75 := by kernel_rfl
  i76 := by kernel_rfl
  i80 := by kernel_rfl
  i85 := by kernel_rfl
  i127 := by kernel_rfl
  i143 := by kernel_rfl
  i145 := by kernel_rfl
  i167 := by kernel_rfl
  i168 := by kernel_rfl
  i171 := by kernel_rfl
  i173 := by kernel_rfl
  i175 := by kernel_rfl
  i210 := by kernel_rfl
  i212 := by kernel_rfl
  i232 := by kernel_rfl
  i233 := by kernel_rfl
  m15 := by kernel_rfl
  m16 := by kernel_rfl
  m17 := by kernel_rfl
  m18 := by kernel_rfl
  m19 := by kernel_rfl
  c0 := by kernel_rfl
  c2 := by kernel_rfl
  c3 := by kernel_rfl
  c4 := by kernel_rfl
  c5 := by kernel_rfl
  c9 := by kernel_rfl
  c20 := by kernel_rfl
  c21 := by kernel_rfl
  c37 := by kernel_rfl
  c46 := by kernel_rfl
  c51 := by kernel_rfl
  c53 := by kernel_rfl
  c75 := by kernel_rfl
  c76 := by kernel_rfl
  c80 := by kernel_rfl
  c85 := by kernel_rfl
  c127 := by kernel_rfl
  c143 := by kernel_rfl
  c145 := by kernel_rfl
  c167 := by kernel_rfl
  c168 := by kernel_rfl
  c171 := by kernel_rfl
  c173 := by kernel_rfl
  c175 := by kernel_rfl
  c210 := by kernel_rfl
  c212 := by kernel_rfl
  c213 := by kernel_rfl
  c232 := by kernel_rfl
  c233 := by kernel_rfl }
def Tryz.laysCut_ren : Go.Shelf.Ren := ⟨fun | 145 => 136 | 220 => 203 | 219 => 236 | 217 => 237 | 225 => 262 | 224 => 263 | 267 => 264 | 266 => 265 | 314 => 281 | n => n, fun | 9 => 9 | 4 => 4 | 59 => 164 | 3 => 3 | 5 => 5 | 46 => 130 | 146 => 292 | 51 => 289 | n => n, fun | 1 => 1 | n => n⟩
theorem Tryz.laysCut : Go.Proofs.Lays.n145 Tryz.prog Tryz.laysCut_ren := {
  mixed := by kernel_rfl
  f145 := Tryz.func136.trans (congrArg some (by kernel_rfl))
  f217 := Tryz.func237.trans (congrArg some (by kernel_rfl))
  f219 := Tryz.func236.trans (congrArg some (by kernel_rfl))
  f220 := Tryz.func203.trans (congrArg some (by kernel_rfl))
  f224 := Tryz.func263.trans (congrArg some (by kernel_rfl))
  f225 := Tryz.func262.trans (congrArg some (by kernel_rfl))
  f266 := Tryz.func265.trans (congrArg some (by kernel_rfl))
  f267 := Tryz.func264.trans (congrArg some (by kernel_rfl))
  f314 := Tryz.func281.trans (congrArg some (by kernel_rfl))
  t3 := Tryz.underlying3
  a3 := Tryz.isAgg3
  z3 := Tryz.sizeOf3
  v3 := Tryz.zeroValue3
  t4 := Tryz.underlying4
  a4 := Tryz.isAgg4
  z4 := Tryz.sizeOf4
  v4 := Tryz.zeroValue4
  t5 := Tryz.underlying5
  a5 := Tryz.isAgg5
  z5 := Tryz.sizeOf5
  v5 := Tryz.zeroValue5
  t9 := Tryz.underlying9
  a9 := Tryz.isAgg9
  z9 := Tryz.sizeOf9
  v9 := Tryz.zeroValue9
  t46 := Tryz.underlying130
  a46 := Tryz.isAgg130
  z46 := Tryz.sizeOf130
  v46 := Tryz.zeroValue130
  t51 := Tryz.underlying289
  a51 := Tryz.isAgg289
  z51 := Tryz.sizeOf289
  v51 := Tryz.zeroValue289
  t59 := Tryz.underlying164
  a59 := Tryz.isAgg164
  z59 := Tryz.sizeOf164
  v59 := Tryz.zeroValue164
  t146 := Tryz.underlying292
  a146 := Tryz.isAgg292
  z146 := Tryz.sizeOf292
  v146 := Tryz.zeroValue292
  g1 := by kernel_rfl }
def Tryz.laysCutPrefix_ren : Go.Shelf.Ren := ⟨fun | 103 => 73 | 210 => 135 | 206 => 202 | n => n, fun | 9 => 9 | 4 => 4 | 24 => 106 | 3 => 3 | n => n, fun | n => n⟩
theorem Tryz.laysCutPrefix : Go.Proofs.Lays.n103 Tryz.prog Tryz.laysCutPrefix_ren := {
  mixed := by kernel_rfl
  f103 := Tryz.func73.trans (congrArg some (by kernel_rfl))
  f206 := Tryz.func202.trans (congrArg some (by kernel_rfl))
  f210 := Tryz.func135.trans (congrArg some (by kernel_rfl))
  t3 := Tryz.underlying3
  a3 := Tryz.isAgg3
  z3 := Tryz.sizeOf3
  v3 := Tryz.zeroValue3
  t4 := Tryz.underlying4
  a4 := Tryz.isAgg4
  z4 := Tryz.sizeOf4
  v4 := Tryz.zeroValue4
  t9 := Tryz.underlying9
  a9 := Tryz.isAgg9
  z9 := Tryz.sizeOf9
  v9 := Tryz.zeroValue9
  t24 := Tryz.underlying106
  a24 := Tryz.isAgg106
  z24 := Tryz.sizeOf106
  v24 := Tryz.zeroValue106 }
end Go.Proofs
namespace Go.Proofs.YtkmlbjlaahcahaaGreatDoor
set_option maxRecDepth 100000
open Go.RowKit WMath

/-- The library's powers of ten lie in their variable. -/
def P10 (w : World) : Prop := Lib.TabIs Tryz.prog w "internal/strconv.uint64pow10" .u64 Lib.pow10Tab
theorem gP10 : Tryz.prog.globalNamed "internal/strconv.uint64pow10" = some 5 := by kernel_rfl
theorem p10B {w w' : World} (h : P10 w) (hb : Below w.heap.size w w') : P10 w' := by
  unfold P10 Lib.TabIs World.var? at h ⊢
  rw [gP10] at h ⊢
  simp only [Option.bind_some] at h ⊢
  have h0 : 5 < w.heap.size := by
    rcases Nat.lt_or_ge 5 w.heap.size with e | e
    · exact e
    · have : w.heap[5]? = none := Array.getElem?_eq_none e
      rw [this] at h
      cases h
  rw [hb.block 5 h0]
  exact h
theorem t_itoa (e : Int) (v : ByteArray) (h0 : -1000000000 ≤ e) (h1 : e ≤ 1000000000) (hv : (⟨(Lib.itoa e).toArray⟩ : ByteArray) = v) (w : World) (hP : P10 w) :
    Calls Tryz.prog 132 #[.int .i64 e] w fun r w' => r = .returned (.string v) ∧ Below w.heap.size w w' := by
  have h := Any.strconv_Itoa Tryz.laysItoa e (by omega) (by omega) w hP
  refine h.mono ?_
  rintro r w' ⟨rfl, k, os, rfl⟩
  rw [hv]
  refine ⟨rfl, rfl, rfl, rfl, ?_, ?_⟩
  · simp [Sort.grow, World.drewN]
  · intro j hj
    simp only [Sort.grow, World.drewN]
    exact Array.getElem?_append_left hj
theorem wtext_is (n : Nat) (v : ByteArray) (hn : n < Q) (hv : (⟨(tx n).toArray⟩ : ByteArray) = v) (w : World) :
    Calls Tryz.prog 131 #[.agg (cw 6 n)] w fun r w' => r = .returned (.string v) ∧ Below w.heap.size w w' := by
  subst hv
  exact wtext_any n hn w
end Go.Proofs.YtkmlbjlaahcahaaGreatDoor
