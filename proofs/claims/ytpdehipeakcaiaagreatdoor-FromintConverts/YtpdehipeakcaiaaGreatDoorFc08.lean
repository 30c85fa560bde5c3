/-
  What the functions that the statement reaches return: part 8 (V8, V9, VA).
-/
import Derived.Deep.RegionHeld3
import Derived.Lib.MinMax
import Derived.Test.YtpdehipeakcaiaaGreatDoorFc07
namespace Go.Proofs.YtpdehipeakcaiaaGreatDoor
set_option maxRecDepth 100000
set_option maxHeartbeats 40000000
set_option maxRecDepth 100000
open Go.RowKit WMath
set_option linter.unusedSimpArgs false
set_option linter.unusedVariables false
theorem gen_abacusref08_Of_15 {X : Act → World → Prop} {R : World → Nat → Prop} {t0 t1 t2 t3 t4 t5 t6 t7 t8 t9 t10 t11 t12 t13 t14 t16 t17 t18 t19 t20 t21 t22 t23 t24 t25 t26 t27 t28 t29 t30 t31 t32 t33 t34 t35 t36 t37 t38 t39 t40 t41 t42 t43 t44 t45 t46 t47 t48 t49 t50 t51 t52 t53 t54 t55 t56 t57 t58 t59 t60 t61 t62 t63 t64 t65 t66 t67 t68 t69 t70 t71 t72 t73 t74 t75 t76 t77 t78 t79 t80 t81 t82 t83 t84 t85 t86 t87 t88 t89 : Value} {d : List Deferred} {W : World} {G : Nat}
    (key : ∀ w5 g, R w5 g → X ⟨#[t0, t1, t2, t3, t4, t5, t6, t7, t8, t9, t10, t11, t12, t13, t14, .pointer (some ⟨g, 0, none⟩), t16, t17, t18, t19, t20, t21, t22, t23, t24, t25, t26, t27, t28, t29, t30, t31, t32, t33, t34, t35, t36, t37, t38, t39, t40, t41, t42, t43, t44, t45, t46, t47, t48, t49, t50, t51, t52, t53, t54, t55, t56, t57, t58, t59, t60, t61, t62, t63, t64, t65, t66, t67, t68, t69, t70, t71, t72, t73, t74, t75, t76, t77, t78, t79, t80, t81, t82, t83, t84, t85, t86, t87, t88, t89], d⟩ w5) (r : R W G) : X ⟨#[t0, t1, t2, t3, t4, t5, t6, t7, t8, t9, t10, t11, t12, t13, t14, .pointer (some ⟨G, 0, none⟩), t16, t17, t18, t19, t20, t21, t22, t23, t24, t25, t26, t27, t28, t29, t30, t31, t32, t33, t34, t35, t36, t37, t38, t39, t40, t41, t42, t43, t44, t45, t46, t47, t48, t49, t50, t51, t52, t53, t54, t55, t56, t57, t58, t59, t60, t61, t62, t63, t64, t65, t66, t67, t68, t69, t70, t71, t72, t73, t74, t75, t76, t77, t78, t79, t80, t81, t82, t83, t84, t85, t86, t87, t88, t89], d⟩ W := key W G r

set_option maxRecDepth 100000 in
set_option maxHeartbeats 4000000 in
theorem rof_zero (f : Int) (b : Bool) (t : ByteArray) (e : Int) (w : World)
     : Calls Tryz.prog 82 #[.int .u8 f, .agg #[.bool b, .string ⟨#[]⟩, .string t, .int .i64 e]] w fun r w' => r = .returned (.tuple #[.agg #[.int .u64 0, .int .u64 0], .bool true]) ∧ Below w.heap.size w w' := by
  have hat := cw_at 6
  have hz := cw6z
  have hff := cw6f
  have hs0 := st0
  have hcs : ∀ x, ((cw 6 x).size = 6) = True := fun x => eq_true (cw_size 6 x)
  obtain ⟨Rx_0, Rz_0, B0⟩ := opn2 w (Obj.cells #[.bool b, .string ⟨#[]⟩, .string t, .int .i64 e] 50) (Obj.cells #[.int .u64 0, .int .u64 0] 27)
  go_enter Tryz.func82, Tryz.ntmps82
  clear B0 Rx_0 Rz_0
  go_wp2
  exact bodyPost_ret (v := .tuple #[.agg #[.int .u64 0, .int .u64 0], .bool true]) (by simp [results, Tryz.results82, go_sem]) rfl ⟨rfl, (((Below.refl _ _).alloc (by first | omega | (simp only [size_al]; omega)) _).alloc (by first | omega | (simp only [size_al]; omega)) _)⟩
set_option maxRecDepth 100000 in
set_option maxHeartbeats 4000000 in
theorem rof_den (f : Int) (b : Bool) (s t : ByteArray) (e : Int) (P T : Int) (w : World)
    (KP : Box (∀ w, Calls Tryz.prog 75 #[.int .u8 f] w fun r w' => r = .returned (.int .i64 P) ∧ Below w.heap.size w w'))
    (KT : Box (∀ w, Calls Tryz.prog 104 #[.agg #[.bool b, .string s, .string t, .int .i64 e]] w fun r w' => r = .returned (.tuple #[.int .i64 T, .int .i64 0]) ∧ Below w.heap.size w w'))
    (hs : (s.toList == []) = false)
    (ht : (t.toList == [1]) = false)
     : Calls Tryz.prog 82 #[.int .u8 f, .agg #[.bool b, .string s, .string t, .int .i64 e]] w fun r w' => r = .returned (.tuple #[.agg #[.int .u64 0, .int .u64 0], .bool false]) ∧ Below w.heap.size w w' := by
  have hat := cw_at 6
  have hz := cw6z
  have hff := cw6f
  have hs0 := st0
  have hcs : ∀ x, ((cw 6 x).size = 6) = True := fun x => eq_true (cw_size 6 x)
  obtain ⟨Rx_0, Rz_0, B0⟩ := opn2 w (Obj.cells #[.bool b, .string s, .string t, .int .i64 e] 50) (Obj.cells #[.int .u64 0, .int .u64 0] 27)
  go_enter Tryz.func82, Tryz.ntmps82
  go_wp2_with fail
  refine (KP.out _).mono ?_
  rintro r w1 ⟨rfl, b1⟩
  have B1 : Below w.heap.size w w1 := btr B0 b1
  have Rx_1 := heap_of b1 _ _ _ Rx_0
  have Rz_1 := heap_of b1 _ _ _ Rz_0
  clear b1 B0 Rx_0 Rz_0
  obtain ⟨cx_1_0, cx_1_1, cx_1_2, cx_1_3⟩ := cells4s Rx_1
  obtain ⟨cz_1_0, cz_1_1⟩ := cells2s Rz_1
  go_wp2_with fail
  refine (KT.out _).mono ?_
  rintro r w2 ⟨rfl, b2⟩
  have B2 : Below w.heap.size w w2 := btr B1 b2
  have Rx_2 := heap_of b2 _ _ _ Rx_1
  have Rz_2 := heap_of b2 _ _ _ Rz_1
  clear b2 B1 Rx_1 cx_1_0 cx_1_1 cx_1_2 cx_1_3 Rz_1 cz_1_0 cz_1_1
  obtain ⟨cx_2_0, cx_2_1, cx_2_2, cx_2_3⟩ := cells4s Rx_2
  obtain ⟨cz_2_0, cz_2_1⟩ := cells2s Rz_2
  have q0 := fz (k := 0) Rz_2
  have q1 := fz (k := 1) Rz_2
  obtain ⟨E0, E1⟩ := set2_cells Rz_2 (.int .u64 0) (.int .u64 0)
  go_wp2
  exact bodyPost_ret (v := .tuple #[.agg #[.int .u64 0, .int .u64 0], .bool false]) (by simp [results, Tryz.results82, go_sem, E0, E1]) rfl ⟨rfl, set2_below B2 (by first | exact Nat.le_refl _ | omega | (skip; omega)) _ _⟩
set_option maxRecDepth 100000 in
set_option maxHeartbeats 4000000 in
theorem rof_over (f : Int) (b : Bool) (s t : ByteArray) (e : Int) (P T E : Int) (w : World)
    (KP : Box (∀ w, Calls Tryz.prog 75 #[.int .u8 f] w fun r w' => r = .returned (.int .i64 P) ∧ Below w.heap.size w w'))
    (KT : Box (∀ w, Calls Tryz.prog 104 #[.agg #[.bool b, .string s, .string t, .int .i64 e]] w fun r w' => r = .returned (.tuple #[.int .i64 T, .int .i64 0]) ∧ Below w.heap.size w w'))
    (KE : Box (∀ w, Calls Tryz.prog 76 #[.int .u8 f] w fun r w' => r = .returned (.int .i64 E) ∧ Below w.heap.size w w'))
    (hs : (s.toList == []) = false)
    (ht : (t.toList == [1]) = true)
    (ho : decide (E < T) = true)
     : Calls Tryz.prog 82 #[.int .u8 f, .agg #[.bool b, .string s, .string t, .int .i64 e]] w fun r w' => r = .returned (.tuple #[.agg #[.int .u64 0, .int .u64 0], .bool false]) ∧ Below w.heap.size w w' := by
  have hat := cw_at 6
  have hz := cw6z
  have hff := cw6f
  have hs0 := st0
  have hcs : ∀ x, ((cw 6 x).size = 6) = True := fun x => eq_true (cw_size 6 x)
  obtain ⟨Rx_0, Rz_0, B0⟩ := opn2 w (Obj.cells #[.bool b, .string s, .string t, .int .i64 e] 50) (Obj.cells #[.int .u64 0, .int .u64 0] 27)
  go_enter Tryz.func82, Tryz.ntmps82
  go_wp2_with fail
  refine (KP.out _).mono ?_
  rintro r w1 ⟨rfl, b1⟩
  have B1 : Below w.heap.size w w1 := btr B0 b1
  have Rx_1 := heap_of b1 _ _ _ Rx_0
  have Rz_1 := heap_of b1 _ _ _ Rz_0
  clear b1 B0 Rx_0 Rz_0
  obtain ⟨cx_1_0, cx_1_1, cx_1_2, cx_1_3⟩ := cells4s Rx_1
  obtain ⟨cz_1_0, cz_1_1⟩ := cells2s Rz_1
  go_wp2_with fail
  refine (KT.out _).mono ?_
  rintro r w2 ⟨rfl, b2⟩
  have B2 : Below w.heap.size w w2 := btr B1 b2
  have Rx_2 := heap_of b2 _ _ _ Rx_1
  have Rz_2 := heap_of b2 _ _ _ Rz_1
  clear b2 B1 Rx_1 cx_1_0 cx_1_1 cx_1_2 cx_1_3 Rz_1 cz_1_0 cz_1_1
  obtain ⟨cx_2_0, cx_2_1, cx_2_2, cx_2_3⟩ := cells4s Rx_2
  obtain ⟨cz_2_0, cz_2_1⟩ := cells2s Rz_2
  go_wp2_with fail
  refine (KE.out _).mono ?_
  rintro r w3 ⟨rfl, b3⟩
  have B3 : Below w.heap.size w w3 := btr B2 b3
  have Rx_3 := heap_of b3 _ _ _ Rx_2
  have Rz_3 := heap_of b3 _ _ _ Rz_2
  clear b3 B2 Rx_2 cx_2_0 cx_2_1 cx_2_2 cx_2_3 Rz_2 cz_2_0 cz_2_1
  obtain ⟨cx_3_0, cx_3_1, cx_3_2, cx_3_3⟩ := cells4s Rx_3
  obtain ⟨cz_3_0, cz_3_1⟩ := cells2s Rz_3
  have q0 := fz (k := 0) Rz_3
  have q1 := fz (k := 1) Rz_3
  obtain ⟨E0, E1⟩ := set2_cells Rz_3 (.int .u64 0) (.int .u64 0)
  go_wp2
  exact bodyPost_ret (v := .tuple #[.agg #[.int .u64 0, .int .u64 0], .bool false]) (by simp [results, Tryz.results82, go_sem, E0, E1]) rfl ⟨rfl, set2_below B3 (by first | exact Nat.le_refl _ | omega | (skip; omega)) _ _⟩
set_option maxRecDepth 100000 in
set_option maxHeartbeats 8000000 in
theorem rof_low (f : Int) (b : Bool) (s t : ByteArray) (e : Int) (P T E I A0 A1 A : Int) (w : World)
    (KP : Box (∀ w, Calls Tryz.prog 75 #[.int .u8 f] w fun r w' => r = .returned (.int .i64 P) ∧ Below w.heap.size w w'))
    (KT : Box (∀ w, Calls Tryz.prog 104 #[.agg #[.bool b, .string s, .string t, .int .i64 e]] w fun r w' => r = .returned (.tuple #[.int .i64 T, .int .i64 0]) ∧ Below w.heap.size w w'))
    (KE : Box (∀ w, Calls Tryz.prog 76 #[.int .u8 f] w fun r w' => r = .returned (.int .i64 E) ∧ Below w.heap.size w w'))
    (KI : Box (∀ w, Calls Tryz.prog 78 #[.int .u8 f] w fun r w' => r = .returned (.int .i64 I) ∧ w' = w))
    (hs : (s.toList == []) = false)
    (ht : (t.toList == [1]) = true)
    (hI : (decide (T < I) = true ∧ A0 = I) ∨ (decide (T < I) = false ∧ A0 = T)) (ho : decide (E < T) = false) (h1 : IntKind.i64.wrap (A0 - P) = A1) (h2 : IntKind.i64.wrap (A1 + 1) = A)
    (hl : decide (e < A) = true)
     : Calls Tryz.prog 82 #[.int .u8 f, .agg #[.bool b, .string s, .string t, .int .i64 e]] w fun r w' => r = .returned (.tuple #[.agg #[.int .u64 0, .int .u64 0], .bool false]) ∧ Below w.heap.size w w' := by
  have hat := cw_at 6
  have hz := cw6z
  have hff := cw6f
  have hs0 := st0
  have hcs : ∀ x, ((cw 6 x).size = 6) = True := fun x => eq_true (cw_size 6 x)
  rcases hI with ⟨hI, rfl⟩ | ⟨hI, rfl⟩
  all_goals
    obtain ⟨Rx_0, Rz_0, B0⟩ := opn2 w (Obj.cells #[.bool b, .string s, .string t, .int .i64 e] 50) (Obj.cells #[.int .u64 0, .int .u64 0] 27)
    go_enter Tryz.func82, Tryz.ntmps82
    go_wp2_with fail
    refine (KP.out _).mono ?_
    rintro r w1 ⟨rfl, b1⟩
    have B1 : Below w.heap.size w w1 := btr B0 b1
    have Rx_1 := heap_of b1 _ _ _ Rx_0
    have Rz_1 := heap_of b1 _ _ _ Rz_0
    clear b1 B0 Rx_0 Rz_0
    obtain ⟨cx_1_0, cx_1_1, cx_1_2, cx_1_3⟩ := cells4s Rx_1
    obtain ⟨cz_1_0, cz_1_1⟩ := cells2s Rz_1
    go_wp2_with fail
    refine (KT.out _).mono ?_
    rintro r w2 ⟨rfl, b2⟩
    have B2 : Below w.heap.size w w2 := btr B1 b2
    have Rx_2 := heap_of b2 _ _ _ Rx_1
    have Rz_2 := heap_of b2 _ _ _ Rz_1
    clear b2 B1 Rx_1 cx_1_0 cx_1_1 cx_1_2 cx_1_3 Rz_1 cz_1_0 cz_1_1
    obtain ⟨cx_2_0, cx_2_1, cx_2_2, cx_2_3⟩ := cells4s Rx_2
    obtain ⟨cz_2_0, cz_2_1⟩ := cells2s Rz_2
    go_wp2_with fail
    refine (KE.out _).mono ?_
    rintro r w3 ⟨rfl, b3⟩
    have B3 : Below w.heap.size w w3 := btr B2 b3
    have Rx_3 := heap_of b3 _ _ _ Rx_2
    have Rz_3 := heap_of b3 _ _ _ Rz_2
    clear b3 B2 Rx_2 cx_2_0 cx_2_1 cx_2_2 cx_2_3 Rz_2 cz_2_0 cz_2_1
    obtain ⟨cx_3_0, cx_3_1, cx_3_2, cx_3_3⟩ := cells4s Rx_3
    obtain ⟨cz_3_0, cz_3_1⟩ := cells2s Rz_3
    go_wp2_with fail
    refine (KI.out _).mono ?_
    rintro r w' ⟨rfl, rfl⟩
    try (go_wp2_with fail; refine (KI.out _).mono ?_; rintro r w' ⟨rfl, hw'⟩; obtain rfl := hw'.symm)
    have q0 := fz (k := 0) Rz_3
    have q1 := fz (k := 1) Rz_3
    obtain ⟨E0, E1⟩ := set2_cells Rz_3 (.int .u64 0) (.int .u64 0)
    go_wp2
    exact bodyPost_ret (v := .tuple #[.agg #[.int .u64 0, .int .u64 0], .bool false]) (by simp [results, Tryz.results82, go_sem, E0, E1]) rfl ⟨rfl, set2_below B3 (by first | exact Nat.le_refl _ | omega | (skip; omega)) _ _⟩
set_option maxRecDepth 100000 in
set_option maxHeartbeats 8000000 in
theorem rof_sub (f : Int) (b : Bool) (s t : ByteArray) (e : Int) (P T E I A0 A1 A fe : Int) (is : Bool) (m : ByteArray) (M l u v : Nat) (w : World)
    (KP : Box (∀ w, Calls Tryz.prog 75 #[.int .u8 f] w fun r w' => r = .returned (.int .i64 P) ∧ Below w.heap.size w w'))
    (KT : Box (∀ w, Calls Tryz.prog 104 #[.agg #[.bool b, .string s, .string t, .int .i64 e]] w fun r w' => r = .returned (.tuple #[.int .i64 T, .int .i64 0]) ∧ Below w.heap.size w w'))
    (KE : Box (∀ w, Calls Tryz.prog 76 #[.int .u8 f] w fun r w' => r = .returned (.int .i64 E) ∧ Below w.heap.size w w'))
    (KI : Box (∀ w, Calls Tryz.prog 78 #[.int .u8 f] w fun r w' => r = .returned (.int .i64 I) ∧ w' = w))
    (KF : Box (∀ w, Calls Tryz.prog 107 #[.agg #[.bool b, .string s, .string t, .int .i64 e], .int .i64 A] w fun r w' => r = .returned (.tuple #[.string m, .bool is, .int .i64 fe]) ∧ Below w.heap.size w w'))
    (KW : Box (∀ w, Calls Tryz.prog 113 #[.string m] w fun r w' => r = .returned (.tuple #[.agg (cw 6 M), .bool true]) ∧ Below w.heap.size w w'))
    (KL : Box (∀ w, Calls Tryz.prog 114 #[.agg (cw 6 M)] w fun r w' => r = .returned (.int .i64 (l : Nat)) ∧ Below w.heap.size w w'))
    (KB : Box (∀ w, Calls Tryz.prog 112 #[.int .u8 f, .bool b, .int .i64 0, .agg (cw 6 M)] w fun r w' => r = .returned (.agg #[.int .u64 (u : Nat), .int .u64 (v : Nat)]) ∧ Below w.heap.size w w'))
    (hs : (s.toList == []) = false)
    (ht : (t.toList == [1]) = true)
    (hI : (decide (T < I) = true ∧ A0 = I) ∨ (decide (T < I) = false ∧ A0 = T)) (ho : decide (E < T) = false) (h1 : IntKind.i64.wrap (A0 - P) = A1) (h2 : IntKind.i64.wrap (A1 + 1) = A)
    (hl : decide (e < A) = false) (hL : decide ((l : Int) < P) = true)
     : Calls Tryz.prog 82 #[.int .u8 f, .agg #[.bool b, .string s, .string t, .int .i64 e]] w fun r w' => r = .returned (.tuple #[.agg #[.int .u64 (u : Nat), .int .u64 (v : Nat)], .bool true]) ∧ Below w.heap.size w w' := by
  have hat := cw_at 6
  have hz := cw6z
  have hff := cw6f
  have hs0 := st0
  have hcs : ∀ x, ((cw 6 x).size = 6) = True := fun x => eq_true (cw_size 6 x)
  rcases hI with ⟨hI, rfl⟩ | ⟨hI, rfl⟩
  all_goals
    obtain ⟨Rx_0, Rz_0, B0⟩ := opn2 w (Obj.cells #[.bool b, .string s, .string t, .int .i64 e] 50) (Obj.cells #[.int .u64 0, .int .u64 0] 27)
    go_enter Tryz.func82, Tryz.ntmps82
    go_wp2_with fail
    refine (KP.out _).mono ?_
    rintro r w1 ⟨rfl, b1⟩
    have B1 : Below w.heap.size w w1 := btr B0 b1
    have Rx_1 := heap_of b1 _ _ _ Rx_0
    have Rz_1 := heap_of b1 _ _ _ Rz_0
    clear b1 B0 Rx_0 Rz_0
    obtain ⟨cx_1_0, cx_1_1, cx_1_2, cx_1_3⟩ := cells4s Rx_1
    obtain ⟨cz_1_0, cz_1_1⟩ := cells2s Rz_1
    go_wp2_with fail
    refine (KT.out _).mono ?_
    rintro r w2 ⟨rfl, b2⟩
    have B2 : Below w.heap.size w w2 := btr B1 b2
    have Rx_2 := heap_of b2 _ _ _ Rx_1
    have Rz_2 := heap_of b2 _ _ _ Rz_1
    clear b2 B1 Rx_1 cx_1_0 cx_1_1 cx_1_2 cx_1_3 Rz_1 cz_1_0 cz_1_1
    obtain ⟨cx_2_0, cx_2_1, cx_2_2, cx_2_3⟩ := cells4s Rx_2
    obtain ⟨cz_2_0, cz_2_1⟩ := cells2s Rz_2
    go_wp2_with fail
    refine (KE.out _).mono ?_
    rintro r w3 ⟨rfl, b3⟩
    have B3 : Below w.heap.size w w3 := btr B2 b3
    have Rx_3 := heap_of b3 _ _ _ Rx_2
    have Rz_3 := heap_of b3 _ _ _ Rz_2
    clear b3 B2 Rx_2 cx_2_0 cx_2_1 cx_2_2 cx_2_3 Rz_2 cz_2_0 cz_2_1
    obtain ⟨cx_3_0, cx_3_1, cx_3_2, cx_3_3⟩ := cells4s Rx_3
    obtain ⟨cz_3_0, cz_3_1⟩ := cells2s Rz_3
    go_wp2_with fail
    refine (KI.out _).mono ?_
    rintro r w' ⟨rfl, rfl⟩
    try (go_wp2_with fail; refine (KI.out _).mono ?_; rintro r w' ⟨rfl, hw'⟩; obtain rfl := hw'.symm)
    go_wp2_with fail
    refine (KF.out _).mono ?_
    rintro r w4 ⟨rfl, b4⟩
    have B4 : Below w.heap.size w w4 := btr B3 b4
    have Rx_4 := heap_of b4 _ _ _ Rx_3
    have Rz_4 := heap_of b4 _ _ _ Rz_3
    clear b4 B3 Rx_3 cx_3_0 cx_3_1 cx_3_2 cx_3_3 Rz_3 cz_3_0 cz_3_1
    obtain ⟨cx_4_0, cx_4_1, cx_4_2, cx_4_3⟩ := cells4s Rx_4
    obtain ⟨cz_4_0, cz_4_1⟩ := cells2s Rz_4
    go_wp2_with fail
    refine (KW.out _).mono ?_
    rintro r w5 ⟨rfl, b5⟩
    have B5 : Below w.heap.size w w5 := btr B4 b5
    have Rx_5 := heap_of b5 _ _ _ Rx_4
    have Rz_5 := heap_of b5 _ _ _ Rz_4
    clear b5 B4 Rx_4 cx_4_0 cx_4_1 cx_4_2 cx_4_3 Rz_4 cz_4_0 cz_4_1
    obtain ⟨cx_5_0, cx_5_1, cx_5_2, cx_5_3⟩ := cells4s Rx_5
    obtain ⟨cz_5_0, cz_5_1⟩ := cells2s Rz_5
    have S6 := box B5.size
    have Lx_6 : Box (w.heap.size < w5.heap.size) := box (Array.getElem?_eq_some_iff.1 Rx_5).1
    have Lz_6 : Box (w.heap.size + 1 < w5.heap.size) := box (Array.getElem?_eq_some_iff.1 Rz_5).1
    have Rw_6 := heap_alloc_last w5 (Obj.cells (cw 6 M) 42)
    have B6 := btr B5 (bal w5 (Obj.cells (cw 6 M) 42))
    have Rx_6 := heap_of (bal w5 (Obj.cells (cw 6 M) 42)) _ _ _ Rx_5
    have Rz_6 := heap_of (bal w5 (Obj.cells (cw 6 M) 42)) _ _ _ Rz_5
    clear B5 Rx_5 cx_5_0 cx_5_1 cx_5_2 cx_5_3 Rz_5 cz_5_0 cz_5_1
    obtain ⟨cx_6_0, cx_6_1, cx_6_2, cx_6_3⟩ := cells4s Rx_6
    obtain ⟨cz_6_0, cz_6_1⟩ := cells2s Rz_6
    have cw_6_0 := row_cell Rw_6
    go_wp2_with fail
    refine (KL.out _).mono ?_
    rintro r w7 ⟨rfl, b7⟩
    have B7 : Below w.heap.size w w7 := btr B6 b7
    have Rx_7 := heap_of b7 _ _ _ Rx_6
    have Rz_7 := heap_of b7 _ _ _ Rz_6
    have Rw_7 := heap_of b7 _ _ _ Rw_6
    clear b7 B6 Rx_6 cx_6_0 cx_6_1 cx_6_2 cx_6_3 Rz_6 cz_6_0 cz_6_1 Rw_6 cw_6_0
    obtain ⟨cx_7_0, cx_7_1, cx_7_2, cx_7_3⟩ := cells4s Rx_7
    obtain ⟨cz_7_0, cz_7_1⟩ := cells2s Rz_7
    have cw_7_0 := row_cell Rw_7
    go_wp2_with fail
    refine (KB.out _).mono ?_
    rintro r w8 ⟨rfl, b8⟩
    have B8 : Below w.heap.size w w8 := btr B7 b8
    have Rx_8 := heap_of b8 _ _ _ Rx_7
    have Rz_8 := heap_of b8 _ _ _ Rz_7
    have Rw_8 := heap_of b8 _ _ _ Rw_7
    clear b8 B7 Rx_7 cx_7_0 cx_7_1 cx_7_2 cx_7_3 Rz_7 cz_7_0 cz_7_1 Rw_7 cw_7_0
    obtain ⟨cx_8_0, cx_8_1, cx_8_2, cx_8_3⟩ := cells4s Rx_8
    obtain ⟨cz_8_0, cz_8_1⟩ := cells2s Rz_8
    have cw_8_0 := row_cell Rw_8
    have q0 := fz (k := 0) Rz_8
    have q1 := fz (k := 1) Rz_8
    obtain ⟨E0, E1⟩ := set2_cells Rz_8 (.int .u64 (u : Nat)) (.int .u64 (v : Nat))
    go_wp2
    exact bodyPost_ret (v := .tuple #[.agg #[.int .u64 (u : Nat), .int .u64 (v : Nat)], .bool true]) (by simp [results, Tryz.results82, go_sem, E0, E1]) rfl ⟨rfl, set2_below B8 (by first | exact Nat.le_refl _ | omega | (have := S6.out; have := Lx_6.out; have := Lz_6.out; omega)) _ _⟩
set_option maxRecDepth 100000 in
set_option maxHeartbeats 8000000 in
theorem rof_norm (f : Int) (b : Bool) (s t : ByteArray) (e : Int) (P T E I A0 A1 A fe : Int) (is : Bool) (m : ByteArray) (M l u v : Nat) (P1 Q1 : Int) (K t1 q : Nat) (w : World)
    (KP : Box (∀ w, Calls Tryz.prog 75 #[.int .u8 f] w fun r w' => r = .returned (.int .i64 P) ∧ Below w.heap.size w w'))
    (KT : Box (∀ w, Calls Tryz.prog 104 #[.agg #[.bool b, .string s, .string t, .int .i64 e]] w fun r w' => r = .returned (.tuple #[.int .i64 T, .int .i64 0]) ∧ Below w.heap.size w w'))
    (KE : Box (∀ w, Calls Tryz.prog 76 #[.int .u8 f] w fun r w' => r = .returned (.int .i64 E) ∧ Below w.heap.size w w'))
    (KI : Box (∀ w, Calls Tryz.prog 78 #[.int .u8 f] w fun r w' => r = .returned (.int .i64 I) ∧ w' = w))
    (KF : Box (∀ w, Calls Tryz.prog 107 #[.agg #[.bool b, .string s, .string t, .int .i64 e], .int .i64 A] w fun r w' => r = .returned (.tuple #[.string m, .bool is, .int .i64 fe]) ∧ Below w.heap.size w w'))
    (KW : Box (∀ w, Calls Tryz.prog 113 #[.string m] w fun r w' => r = .returned (.tuple #[.agg (cw 6 M), .bool true]) ∧ Below w.heap.size w w'))
    (KL : Box (∀ w, Calls Tryz.prog 114 #[.agg (cw 6 M)] w fun r w' => r = .returned (.int .i64 (l : Nat)) ∧ Below w.heap.size w w'))
    (KK : Box (∀ w, Calls Tryz.prog 116 #[.int .i64 P1] w fun r w' => r = .returned (.agg (cw 6 K)) ∧ Below w.heap.size w w'))
    (KA : Box (∀ w, Calls Tryz.prog 115 #[.agg (cw 6 M), .agg (cw 6 K)] w fun r w' => r = .returned (.agg (cw 6 t1)) ∧ Below w.heap.size w w'))
    (KB : Box (∀ w, Calls Tryz.prog 112 #[.int .u8 f, .bool b, .int .i64 (q : Nat), .agg (cw 6 t1)] w fun r w' => r = .returned (.agg #[.int .u64 (u : Nat), .int .u64 (v : Nat)]) ∧ Below w.heap.size w w'))
    (hs : (s.toList == []) = false)
    (ht : (t.toList == [1]) = true)
    (hI : (decide (T < I) = true ∧ A0 = I) ∨ (decide (T < I) = false ∧ A0 = T)) (ho : decide (E < T) = false) (h1 : IntKind.i64.wrap (A0 - P) = A1) (h2 : IntKind.i64.wrap (A1 + 1) = A)
    (hl : decide (e < A) = false) (hL : decide ((l : Int) < P) = false) (h3 : IntKind.i64.wrap (P - 1) = P1) (h4 : IntKind.i64.wrap (A - I) = Q1) (h5 : IntKind.i64.wrap (Q1 + P) = (q : Int))
     : Calls Tryz.prog 82 #[.int .u8 f, .agg #[.bool b, .string s, .string t, .int .i64 e]] w fun r w' => r = .returned (.tuple #[.agg #[.int .u64 (u : Nat), .int .u64 (v : Nat)], .bool true]) ∧ Below w.heap.size w w' := by
  have hat := cw_at 6
  have hz := cw6z
  have hff := cw6f
  have hs0 := st0
  have hcs : ∀ x, ((cw 6 x).size = 6) = True := fun x => eq_true (cw_size 6 x)
  rcases hI with ⟨hI, rfl⟩ | ⟨hI, rfl⟩
  all_goals
    obtain ⟨Rx_0, Rz_0, B0⟩ := opn2 w (Obj.cells #[.bool b, .string s, .string t, .int .i64 e] 50) (Obj.cells #[.int .u64 0, .int .u64 0] 27)
    go_enter Tryz.func82, Tryz.ntmps82
    go_wp2_with fail
    refine (KP.out _).mono ?_
    rintro r w1 ⟨rfl, b1⟩
    have B1 : Below w.heap.size w w1 := btr B0 b1
    have Rx_1 := heap_of b1 _ _ _ Rx_0
    have Rz_1 := heap_of b1 _ _ _ Rz_0
    clear b1 B0 Rx_0 Rz_0
    obtain ⟨cx_1_0, cx_1_1, cx_1_2, cx_1_3⟩ := cells4s Rx_1
    obtain ⟨cz_1_0, cz_1_1⟩ := cells2s Rz_1
    go_wp2_with fail
    refine (KT.out _).mono ?_
    rintro r w2 ⟨rfl, b2⟩
    have B2 : Below w.heap.size w w2 := btr B1 b2
    have Rx_2 := heap_of b2 _ _ _ Rx_1
    have Rz_2 := heap_of b2 _ _ _ Rz_1
    clear b2 B1 Rx_1 cx_1_0 cx_1_1 cx_1_2 cx_1_3 Rz_1 cz_1_0 cz_1_1
    obtain ⟨cx_2_0, cx_2_1, cx_2_2, cx_2_3⟩ := cells4s Rx_2
    obtain ⟨cz_2_0, cz_2_1⟩ := cells2s Rz_2
    go_wp2_with fail
    refine (KE.out _).mono ?_
    rintro r w3 ⟨rfl, b3⟩
    have B3 : Below w.heap.size w w3 := btr B2 b3
    have Rx_3 := heap_of b3 _ _ _ Rx_2
    have Rz_3 := heap_of b3 _ _ _ Rz_2
    clear b3 B2 Rx_2 cx_2_0 cx_2_1 cx_2_2 cx_2_3 Rz_2 cz_2_0 cz_2_1
    obtain ⟨cx_3_0, cx_3_1, cx_3_2, cx_3_3⟩ := cells4s Rx_3
    obtain ⟨cz_3_0, cz_3_1⟩ := cells2s Rz_3
    go_wp2_with fail
    refine (KI.out _).mono ?_
    rintro r w' ⟨rfl, rfl⟩
    try (go_wp2_with fail; refine (KI.out _).mono ?_; rintro r w' ⟨rfl, hw'⟩; obtain rfl := hw'.symm)
    go_wp2_with fail
    refine (KF.out _).mono ?_
    rintro r w4 ⟨rfl, b4⟩
    have B4 : Below w.heap.size w w4 := btr B3 b4
    have Rx_4 := heap_of b4 _ _ _ Rx_3
    have Rz_4 := heap_of b4 _ _ _ Rz_3
    clear b4 B3 Rx_3 cx_3_0 cx_3_1 cx_3_2 cx_3_3 Rz_3 cz_3_0 cz_3_1
    obtain ⟨cx_4_0, cx_4_1, cx_4_2, cx_4_3⟩ := cells4s Rx_4
    obtain ⟨cz_4_0, cz_4_1⟩ := cells2s Rz_4
    go_wp2_with fail
    refine (KW.out _).mono ?_
    rintro r w5 ⟨rfl, b5⟩
    have B5 : Below w.heap.size w w5 := btr B4 b5
    have Rx_5 := heap_of b5 _ _ _ Rx_4
    have Rz_5 := heap_of b5 _ _ _ Rz_4
    clear b5 B4 Rx_4 cx_4_0 cx_4_1 cx_4_2 cx_4_3 Rz_4 cz_4_0 cz_4_1
    obtain ⟨cx_5_0, cx_5_1, cx_5_2, cx_5_3⟩ := cells4s Rx_5
    obtain ⟨cz_5_0, cz_5_1⟩ := cells2s Rz_5
    have S6 := box B5.size
    have Lx_6 : Box (w.heap.size < w5.heap.size) := box (Array.getElem?_eq_some_iff.1 Rx_5).1
    have Lz_6 : Box (w.heap.size + 1 < w5.heap.size) := box (Array.getElem?_eq_some_iff.1 Rz_5).1
    have Rw_6 := heap_alloc_last w5 (Obj.cells (cw 6 M) 42)
    have B6 := btr B5 (bal w5 (Obj.cells (cw 6 M) 42))
    have Rx_6 := heap_of (bal w5 (Obj.cells (cw 6 M) 42)) _ _ _ Rx_5
    have Rz_6 := heap_of (bal w5 (Obj.cells (cw 6 M) 42)) _ _ _ Rz_5
    clear B5 Rx_5 cx_5_0 cx_5_1 cx_5_2 cx_5_3 Rz_5 cz_5_0 cz_5_1
    obtain ⟨cx_6_0, cx_6_1, cx_6_2, cx_6_3⟩ := cells4s Rx_6
    obtain ⟨cz_6_0, cz_6_1⟩ := cells2s Rz_6
    have cw_6_0 := row_cell Rw_6
    go_wp2_with fail
    refine (KL.out _).mono ?_
    rintro r w7 ⟨rfl, b7⟩
    have B7 : Below w.heap.size w w7 := btr B6 b7
    have Rx_7 := heap_of b7 _ _ _ Rx_6
    have Rz_7 := heap_of b7 _ _ _ Rz_6
    have Rw_7 := heap_of b7 _ _ _ Rw_6
    clear b7 B6 Rx_6 cx_6_0 cx_6_1 cx_6_2 cx_6_3 Rz_6 cz_6_0 cz_6_1 Rw_6 cw_6_0
    obtain ⟨cx_7_0, cx_7_1, cx_7_2, cx_7_3⟩ := cells4s Rx_7
    obtain ⟨cz_7_0, cz_7_1⟩ := cells2s Rz_7
    have cw_7_0 := row_cell Rw_7
    have sS : Box (∀ W W1 : World, (Below w.heap.size w W ∧ W.heap[w.heap.size]? = some (Obj.cells #[.bool b, .string s, .string t, .int .i64 e] 50) ∧ W.heap[w.heap.size + 1]? = some (Obj.cells #[.int .u64 0, .int .u64 0] 27) ∧ W.heap[w5.heap.size]? = some (Obj.cells (cw 6 M) 42) ∧ W.cell? ⟨w.heap.size, 0, none⟩ = some (.bool b) ∧ W.cell? ⟨w.heap.size, 1, none⟩ = some (.string s) ∧ W.cell? ⟨w.heap.size, 2, none⟩ = some (.string t) ∧ W.cell? ⟨w.heap.size, 3, none⟩ = some (.int .i64 e) ∧ W.cell? ⟨w.heap.size + 1, 0, none⟩ = some (.int .u64 0) ∧ W.cell? ⟨w.heap.size + 1, 1, none⟩ = some (.int .u64 0) ∧ W.cell? ⟨w5.heap.size, 0, none⟩ = some (.int .u64 ((wd M 0 : Nat) : Int)) ∧ W.cell? ⟨w5.heap.size, 1, none⟩ = some (.int .u64 ((wd M 1 : Nat) : Int)) ∧ W.cell? ⟨w5.heap.size, 2, none⟩ = some (.int .u64 ((wd M 2 : Nat) : Int)) ∧ W.cell? ⟨w5.heap.size, 3, none⟩ = some (.int .u64 ((wd M 3 : Nat) : Int)) ∧ W.cell? ⟨w5.heap.size, 4, none⟩ = some (.int .u64 ((wd M 4 : Nat) : Int)) ∧ W.cell? ⟨w5.heap.size, 5, none⟩ = some (.int .u64 ((wd M 5 : Nat) : Int))) → Below W.heap.size W W1 → (Below w.heap.size w W1 ∧ W1.heap[w.heap.size]? = some (Obj.cells #[.bool b, .string s, .string t, .int .i64 e] 50) ∧ W1.heap[w.heap.size + 1]? = some (Obj.cells #[.int .u64 0, .int .u64 0] 27) ∧ W1.heap[w5.heap.size]? = some (Obj.cells (cw 6 M) 42) ∧ W1.cell? ⟨w.heap.size, 0, none⟩ = some (.bool b) ∧ W1.cell? ⟨w.heap.size, 1, none⟩ = some (.string s) ∧ W1.cell? ⟨w.heap.size, 2, none⟩ = some (.string t) ∧ W1.cell? ⟨w.heap.size, 3, none⟩ = some (.int .i64 e) ∧ W1.cell? ⟨w.heap.size + 1, 0, none⟩ = some (.int .u64 0) ∧ W1.cell? ⟨w.heap.size + 1, 1, none⟩ = some (.int .u64 0) ∧ W1.cell? ⟨w5.heap.size, 0, none⟩ = some (.int .u64 ((wd M 0 : Nat) : Int)) ∧ W1.cell? ⟨w5.heap.size, 1, none⟩ = some (.int .u64 ((wd M 1 : Nat) : Int)) ∧ W1.cell? ⟨w5.heap.size, 2, none⟩ = some (.int .u64 ((wd M 2 : Nat) : Int)) ∧ W1.cell? ⟨w5.heap.size, 3, none⟩ = some (.int .u64 ((wd M 3 : Nat) : Int)) ∧ W1.cell? ⟨w5.heap.size, 4, none⟩ = some (.int .u64 ((wd M 4 : Nat) : Int)) ∧ W1.cell? ⟨w5.heap.size, 5, none⟩ = some (.int .u64 ((wd M 5 : Nat) : Int)))) := box (fun W W1 h b => ⟨btr h.1 b, heap_of b _ _ _ h.2.1, heap_of b _ _ _ h.2.2.1, heap_of b _ _ _ h.2.2.2.1, cell7 (heap_of b _ _ _ h.2.1) 0 _ rfl, cell7 (heap_of b _ _ _ h.2.1) 1 _ rfl, cell7 (heap_of b _ _ _ h.2.1) 2 _ rfl, cell7 (heap_of b _ _ _ h.2.1) 3 _ rfl, cell7 (heap_of b _ _ _ h.2.2.1) 0 _ rfl, cell7 (heap_of b _ _ _ h.2.2.1) 1 _ rfl, row_cell (heap_of b _ _ _ h.2.2.2.1) 0 (by decide), row_cell (heap_of b _ _ _ h.2.2.2.1) 1 (by decide), row_cell (heap_of b _ _ _ h.2.2.2.1) 2 (by decide), row_cell (heap_of b _ _ _ h.2.2.2.1) 3 (by decide), row_cell (heap_of b _ _ _ h.2.2.2.1) 4 (by decide), row_cell (heap_of b _ _ _ h.2.2.2.1) 5 (by decide)⟩)
    have sL : Box (∀ W : World, (Below w.heap.size w W ∧ W.heap[w.heap.size]? = some (Obj.cells #[.bool b, .string s, .string t, .int .i64 e] 50) ∧ W.heap[w.heap.size + 1]? = some (Obj.cells #[.int .u64 0, .int .u64 0] 27) ∧ W.heap[w5.heap.size]? = some (Obj.cells (cw 6 M) 42) ∧ W.cell? ⟨w.heap.size, 0, none⟩ = some (.bool b) ∧ W.cell? ⟨w.heap.size, 1, none⟩ = some (.string s) ∧ W.cell? ⟨w.heap.size, 2, none⟩ = some (.string t) ∧ W.cell? ⟨w.heap.size, 3, none⟩ = some (.int .i64 e) ∧ W.cell? ⟨w.heap.size + 1, 0, none⟩ = some (.int .u64 0) ∧ W.cell? ⟨w.heap.size + 1, 1, none⟩ = some (.int .u64 0) ∧ W.cell? ⟨w5.heap.size, 0, none⟩ = some (.int .u64 ((wd M 0 : Nat) : Int)) ∧ W.cell? ⟨w5.heap.size, 1, none⟩ = some (.int .u64 ((wd M 1 : Nat) : Int)) ∧ W.cell? ⟨w5.heap.size, 2, none⟩ = some (.int .u64 ((wd M 2 : Nat) : Int)) ∧ W.cell? ⟨w5.heap.size, 3, none⟩ = some (.int .u64 ((wd M 3 : Nat) : Int)) ∧ W.cell? ⟨w5.heap.size, 4, none⟩ = some (.int .u64 ((wd M 4 : Nat) : Int)) ∧ W.cell? ⟨w5.heap.size, 5, none⟩ = some (.int .u64 ((wd M 5 : Nat) : Int))) → (w.heap.size < W.heap.size ∧ w.heap.size + 1 < W.heap.size ∧ w5.heap.size < W.heap.size)) := box (fun W h => ⟨(Array.getElem?_eq_some_iff.1 h.2.1).1, (Array.getElem?_eq_some_iff.1 h.2.2.1).1, (Array.getElem?_eq_some_iff.1 h.2.2.2.1).1⟩)
    have sT : Box (∀ (W : World) (gN : Nat) (xA : Array Value), (Below w.heap.size w W ∧ W.heap[w.heap.size]? = some (Obj.cells #[.bool b, .string s, .string t, .int .i64 e] 50) ∧ W.heap[w.heap.size + 1]? = some (Obj.cells #[.int .u64 0, .int .u64 0] 27) ∧ W.heap[w5.heap.size]? = some (Obj.cells (cw 6 M) 42) ∧ W.cell? ⟨w.heap.size, 0, none⟩ = some (.bool b) ∧ W.cell? ⟨w.heap.size, 1, none⟩ = some (.string s) ∧ W.cell? ⟨w.heap.size, 2, none⟩ = some (.string t) ∧ W.cell? ⟨w.heap.size, 3, none⟩ = some (.int .i64 e) ∧ W.cell? ⟨w.heap.size + 1, 0, none⟩ = some (.int .u64 0) ∧ W.cell? ⟨w.heap.size + 1, 1, none⟩ = some (.int .u64 0) ∧ W.cell? ⟨w5.heap.size, 0, none⟩ = some (.int .u64 ((wd M 0 : Nat) : Int)) ∧ W.cell? ⟨w5.heap.size, 1, none⟩ = some (.int .u64 ((wd M 1 : Nat) : Int)) ∧ W.cell? ⟨w5.heap.size, 2, none⟩ = some (.int .u64 ((wd M 2 : Nat) : Int)) ∧ W.cell? ⟨w5.heap.size, 3, none⟩ = some (.int .u64 ((wd M 3 : Nat) : Int)) ∧ W.cell? ⟨w5.heap.size, 4, none⟩ = some (.int .u64 ((wd M 4 : Nat) : Int)) ∧ W.cell? ⟨w5.heap.size, 5, none⟩ = some (.int .u64 ((wd M 5 : Nat) : Int))) → (w.heap.size < gN ∧ w.heap.size + 1 < gN ∧ w5.heap.size < gN) → (Below w.heap.size w (W.setRow gN xA) ∧ (W.setRow gN xA).heap[w.heap.size]? = some (Obj.cells #[.bool b, .string s, .string t, .int .i64 e] 50) ∧ (W.setRow gN xA).heap[w.heap.size + 1]? = some (Obj.cells #[.int .u64 0, .int .u64 0] 27) ∧ (W.setRow gN xA).heap[w5.heap.size]? = some (Obj.cells (cw 6 M) 42) ∧ (W.setRow gN xA).cell? ⟨w.heap.size, 0, none⟩ = some (.bool b) ∧ (W.setRow gN xA).cell? ⟨w.heap.size, 1, none⟩ = some (.string s) ∧ (W.setRow gN xA).cell? ⟨w.heap.size, 2, none⟩ = some (.string t) ∧ (W.setRow gN xA).cell? ⟨w.heap.size, 3, none⟩ = some (.int .i64 e) ∧ (W.setRow gN xA).cell? ⟨w.heap.size + 1, 0, none⟩ = some (.int .u64 0) ∧ (W.setRow gN xA).cell? ⟨w.heap.size + 1, 1, none⟩ = some (.int .u64 0) ∧ (W.setRow gN xA).cell? ⟨w5.heap.size, 0, none⟩ = some (.int .u64 ((wd M 0 : Nat) : Int)) ∧ (W.setRow gN xA).cell? ⟨w5.heap.size, 1, none⟩ = some (.int .u64 ((wd M 1 : Nat) : Int)) ∧ (W.setRow gN xA).cell? ⟨w5.heap.size, 2, none⟩ = some (.int .u64 ((wd M 2 : Nat) : Int)) ∧ (W.setRow gN xA).cell? ⟨w5.heap.size, 3, none⟩ = some (.int .u64 ((wd M 3 : Nat) : Int)) ∧ (W.setRow gN xA).cell? ⟨w5.heap.size, 4, none⟩ = some (.int .u64 ((wd M 4 : Nat) : Int)) ∧ (W.setRow gN xA).cell? ⟨w5.heap.size, 5, none⟩ = some (.int .u64 ((wd M 5 : Nat) : Int)))) := box (fun W gN xA h l => ⟨bel_set h.1 (show w.heap.size ≤ gN by have := l.1; omega), (setRow_other (by have := l.1; omega)).trans h.2.1, (setRow_other (by have := l.2.1; omega)).trans h.2.2.1, (setRow_other (by have := l.2.2; omega)).trans h.2.2.2.1, cell7 ((setRow_other (by have := l.1; omega)).trans h.2.1) 0 _ rfl, cell7 ((setRow_other (by have := l.1; omega)).trans h.2.1) 1 _ rfl, cell7 ((setRow_other (by have := l.1; omega)).trans h.2.1) 2 _ rfl, cell7 ((setRow_other (by have := l.1; omega)).trans h.2.1) 3 _ rfl, cell7 ((setRow_other (by have := l.2.1; omega)).trans h.2.2.1) 0 _ rfl, cell7 ((setRow_other (by have := l.2.1; omega)).trans h.2.2.1) 1 _ rfl, row_cell ((setRow_other (by have := l.2.2; omega)).trans h.2.2.2.1) 0 (by decide), row_cell ((setRow_other (by have := l.2.2; omega)).trans h.2.2.2.1) 1 (by decide), row_cell ((setRow_other (by have := l.2.2; omega)).trans h.2.2.2.1) 2 (by decide), row_cell ((setRow_other (by have := l.2.2; omega)).trans h.2.2.2.1) 3 (by decide), row_cell ((setRow_other (by have := l.2.2; omega)).trans h.2.2.2.1) 4 (by decide), row_cell ((setRow_other (by have := l.2.2; omega)).trans h.2.2.2.1) 5 (by decide)⟩)
    have s0 : Below w.heap.size w (w7).drew ∧ (w7).drew.heap[w.heap.size]? = some (Obj.cells #[.bool b, .string s, .string t, .int .i64 e] 50) ∧ (w7).drew.heap[w.heap.size + 1]? = some (Obj.cells #[.int .u64 0, .int .u64 0] 27) ∧ (w7).drew.heap[w5.heap.size]? = some (Obj.cells (cw 6 M) 42) ∧ (w7).drew.cell? ⟨w.heap.size, 0, none⟩ = some (.bool b) ∧ (w7).drew.cell? ⟨w.heap.size, 1, none⟩ = some (.string s) ∧ (w7).drew.cell? ⟨w.heap.size, 2, none⟩ = some (.string t) ∧ (w7).drew.cell? ⟨w.heap.size, 3, none⟩ = some (.int .i64 e) ∧ (w7).drew.cell? ⟨w.heap.size + 1, 0, none⟩ = some (.int .u64 0) ∧ (w7).drew.cell? ⟨w.heap.size + 1, 1, none⟩ = some (.int .u64 0) ∧ (w7).drew.cell? ⟨w5.heap.size, 0, none⟩ = some (.int .u64 ((wd M 0 : Nat) : Int)) ∧ (w7).drew.cell? ⟨w5.heap.size, 1, none⟩ = some (.int .u64 ((wd M 1 : Nat) : Int)) ∧ (w7).drew.cell? ⟨w5.heap.size, 2, none⟩ = some (.int .u64 ((wd M 2 : Nat) : Int)) ∧ (w7).drew.cell? ⟨w5.heap.size, 3, none⟩ = some (.int .u64 ((wd M 3 : Nat) : Int)) ∧ (w7).drew.cell? ⟨w5.heap.size, 4, none⟩ = some (.int .u64 ((wd M 4 : Nat) : Int)) ∧ (w7).drew.cell? ⟨w5.heap.size, 5, none⟩ = some (.int .u64 ((wd M 5 : Nat) : Int)) := ⟨B7.drew, Rx_7, Rz_7, Rw_7, cell7 (Rx_7) 0 _ rfl, cell7 (Rx_7) 1 _ rfl, cell7 (Rx_7) 2 _ rfl, cell7 (Rx_7) 3 _ rfl, cell7 (Rz_7) 0 _ rfl, cell7 (Rz_7) 1 _ rfl, row_cell (Rw_7) 0 (by decide), row_cell (Rw_7) 1 (by decide), row_cell (Rw_7) 2 (by decide), row_cell (Rw_7) 3 (by decide), row_cell (Rw_7) 4 (by decide), row_cell (Rw_7) 5 (by decide)⟩
    clear B7 Rx_7 cx_7_0 cx_7_1 cx_7_2 cx_7_3 Rz_7 cz_7_0 cz_7_1 Rw_7 cw_7_0
    go_wp2_with fail
    apply cut7
    · intro key0
      have key := box key0
      clear key0
      go_region_held3 (fun W => Below w.heap.size w W ∧ W.heap[w.heap.size]? = some (Obj.cells #[.bool b, .string s, .string t, .int .i64 e] 50) ∧ W.heap[w.heap.size + 1]? = some (Obj.cells #[.int .u64 0, .int .u64 0] 27) ∧ W.heap[w5.heap.size]? = some (Obj.cells (cw 6 M) 42) ∧ W.cell? ⟨w.heap.size, 0, none⟩ = some (.bool b) ∧ W.cell? ⟨w.heap.size, 1, none⟩ = some (.string s) ∧ W.cell? ⟨w.heap.size, 2, none⟩ = some (.string t) ∧ W.cell? ⟨w.heap.size, 3, none⟩ = some (.int .i64 e) ∧ W.cell? ⟨w.heap.size + 1, 0, none⟩ = some (.int .u64 0) ∧ W.cell? ⟨w.heap.size + 1, 1, none⟩ = some (.int .u64 0) ∧ W.cell? ⟨w5.heap.size, 0, none⟩ = some (.int .u64 ((wd M 0 : Nat) : Int)) ∧ W.cell? ⟨w5.heap.size, 1, none⟩ = some (.int .u64 ((wd M 1 : Nat) : Int)) ∧ W.cell? ⟨w5.heap.size, 2, none⟩ = some (.int .u64 ((wd M 2 : Nat) : Int)) ∧ W.cell? ⟨w5.heap.size, 3, none⟩ = some (.int .u64 ((wd M 3 : Nat) : Int)) ∧ W.cell? ⟨w5.heap.size, 4, none⟩ = some (.int .u64 ((wd M 4 : Nat) : Int)) ∧ W.cell? ⟨w5.heap.size, 5, none⟩ = some (.int .u64 ((wd M 5 : Nat) : Int))) (first | exact s1 | exact s0 | exact sS.out _ _ s1 (bal _ _) | exact sS.out _ _ s0 (bal _ _) | exact sT.out _ _ _ s1 hl)
        (first | (go_at_call 116; (first | refine (KK.out _).mono ?_ | refine (KK.out _).mono ?_); rintro r wq ⟨rfl, bq⟩; (first | (have hg := heap_of bq _ _ _ (heap_alloc_last _ _); have hl := (by first | exact sL.out _ s1 | exact sL.out _ s0)) | have hg := heap_of bq _ _ _ hg | skip); (try simp only [size_dr, size_al] at hg hl); (first | have hst := st_any _ _ (t1) 0 hg | skip); have s2 := (by first | exact sS.out _ _ s1 bq | exact sS.out _ _ s0 bq | exact sS.out _ _ (sS.out _ _ s1 (bal _ _)) bq | exact sS.out _ _ (sS.out _ _ s0 (bal _ _)) bq); (try clear s1); have s1 := s2; clear s2 bq) | (go_at_call 115; (first | refine (KA.out _).mono ?_ | refine (KA.out _).mono ?_); rintro r wq ⟨rfl, bq⟩; (first | (have hg := heap_of bq _ _ _ (heap_alloc_last _ _); have hl := (by first | exact sL.out _ s1 | exact sL.out _ s0)) | have hg := heap_of bq _ _ _ hg | skip); (try simp only [size_dr, size_al] at hg hl); (first | have hst := st_any _ _ (t1) 0 hg | skip); have s2 := (by first | exact sS.out _ _ s1 bq | exact sS.out _ _ s0 bq | exact sS.out _ _ (sS.out _ _ s1 (bal _ _)) bq | exact sS.out _ _ (sS.out _ _ s0 (bal _ _)) bq); (try clear s1); have s1 := s2; clear s2 bq) | fail)
      all_goals
        refine gen_abacusref08_Of_15 (R := fun W gN => (Below w.heap.size w W ∧ W.heap[w.heap.size]? = some (Obj.cells #[.bool b, .string s, .string t, .int .i64 e] 50) ∧ W.heap[w.heap.size + 1]? = some (Obj.cells #[.int .u64 0, .int .u64 0] 27) ∧ W.heap[w5.heap.size]? = some (Obj.cells (cw 6 M) 42) ∧ W.cell? ⟨w.heap.size, 0, none⟩ = some (.bool b) ∧ W.cell? ⟨w.heap.size, 1, none⟩ = some (.string s) ∧ W.cell? ⟨w.heap.size, 2, none⟩ = some (.string t) ∧ W.cell? ⟨w.heap.size, 3, none⟩ = some (.int .i64 e) ∧ W.cell? ⟨w.heap.size + 1, 0, none⟩ = some (.int .u64 0) ∧ W.cell? ⟨w.heap.size + 1, 1, none⟩ = some (.int .u64 0) ∧ W.cell? ⟨w5.heap.size, 0, none⟩ = some (.int .u64 ((wd M 0 : Nat) : Int)) ∧ W.cell? ⟨w5.heap.size, 1, none⟩ = some (.int .u64 ((wd M 1 : Nat) : Int)) ∧ W.cell? ⟨w5.heap.size, 2, none⟩ = some (.int .u64 ((wd M 2 : Nat) : Int)) ∧ W.cell? ⟨w5.heap.size, 3, none⟩ = some (.int .u64 ((wd M 3 : Nat) : Int)) ∧ W.cell? ⟨w5.heap.size, 4, none⟩ = some (.int .u64 ((wd M 4 : Nat) : Int)) ∧ W.cell? ⟨w5.heap.size, 5, none⟩ = some (.int .u64 ((wd M 5 : Nat) : Int))) ∧ W.heap[gN]? = some (Obj.cells (cw 6 t1) 42) ∧ (w.heap.size < gN ∧ w.heap.size + 1 < gN ∧ w5.heap.size < gN)) key.out ?_
        first
          | exact ⟨(sT.out _ _ _ s1 hl), setRow_row hg, hl⟩
          | exact ⟨sS.out _ _ s1 (bal _ _), heap_alloc_last _ _, sL.out _ s1⟩
          | exact ⟨sS.out _ _ s0 (bal _ _), heap_alloc_last _ _, sL.out _ s0⟩
    rintro w8 g8 ⟨s1, Rk_8, l8⟩
    have B8 := And.left s1
    have Rx_8 := s1.2.1
    have Rz_8 := s1.2.2.1
    have Rw_8 := s1.2.2.2.1
    have H8 := box l8
    clear s0 s1 sS sL sT l8
    obtain ⟨cx_8_0, cx_8_1, cx_8_2, cx_8_3⟩ := cells4s Rx_8
    obtain ⟨cz_8_0, cz_8_1⟩ := cells2s Rz_8
    have cw_8_0 := row_cell Rw_8
    have ck_8_0 := row_cell Rk_8
    have sS : Box (∀ W W1 : World, (Below w.heap.size w W ∧ W.heap[w.heap.size]? = some (Obj.cells #[.bool b, .string s, .string t, .int .i64 e] 50) ∧ W.heap[w5.heap.size]? = some (Obj.cells (cw 6 M) 42) ∧ W.heap[g8]? = some (Obj.cells (cw 6 t1) 42) ∧ W.cell? ⟨w.heap.size, 0, none⟩ = some (.bool b) ∧ W.cell? ⟨w.heap.size, 1, none⟩ = some (.string s) ∧ W.cell? ⟨w.heap.size, 2, none⟩ = some (.string t) ∧ W.cell? ⟨w.heap.size, 3, none⟩ = some (.int .i64 e) ∧ W.cell? ⟨w5.heap.size, 0, none⟩ = some (.int .u64 ((wd M 0 : Nat) : Int)) ∧ W.cell? ⟨w5.heap.size, 1, none⟩ = some (.int .u64 ((wd M 1 : Nat) : Int)) ∧ W.cell? ⟨w5.heap.size, 2, none⟩ = some (.int .u64 ((wd M 2 : Nat) : Int)) ∧ W.cell? ⟨w5.heap.size, 3, none⟩ = some (.int .u64 ((wd M 3 : Nat) : Int)) ∧ W.cell? ⟨w5.heap.size, 4, none⟩ = some (.int .u64 ((wd M 4 : Nat) : Int)) ∧ W.cell? ⟨w5.heap.size, 5, none⟩ = some (.int .u64 ((wd M 5 : Nat) : Int)) ∧ W.cell? ⟨g8, 0, none⟩ = some (.int .u64 ((wd t1 0 : Nat) : Int)) ∧ W.cell? ⟨g8, 1, none⟩ = some (.int .u64 ((wd t1 1 : Nat) : Int)) ∧ W.cell? ⟨g8, 2, none⟩ = some (.int .u64 ((wd t1 2 : Nat) : Int)) ∧ W.cell? ⟨g8, 3, none⟩ = some (.int .u64 ((wd t1 3 : Nat) : Int)) ∧ W.cell? ⟨g8, 4, none⟩ = some (.int .u64 ((wd t1 4 : Nat) : Int)) ∧ W.cell? ⟨g8, 5, none⟩ = some (.int .u64 ((wd t1 5 : Nat) : Int))) → Below W.heap.size W W1 → (Below w.heap.size w W1 ∧ W1.heap[w.heap.size]? = some (Obj.cells #[.bool b, .string s, .string t, .int .i64 e] 50) ∧ W1.heap[w5.heap.size]? = some (Obj.cells (cw 6 M) 42) ∧ W1.heap[g8]? = some (Obj.cells (cw 6 t1) 42) ∧ W1.cell? ⟨w.heap.size, 0, none⟩ = some (.bool b) ∧ W1.cell? ⟨w.heap.size, 1, none⟩ = some (.string s) ∧ W1.cell? ⟨w.heap.size, 2, none⟩ = some (.string t) ∧ W1.cell? ⟨w.heap.size, 3, none⟩ = some (.int .i64 e) ∧ W1.cell? ⟨w5.heap.size, 0, none⟩ = some (.int .u64 ((wd M 0 : Nat) : Int)) ∧ W1.cell? ⟨w5.heap.size, 1, none⟩ = some (.int .u64 ((wd M 1 : Nat) : Int)) ∧ W1.cell? ⟨w5.heap.size, 2, none⟩ = some (.int .u64 ((wd M 2 : Nat) : Int)) ∧ W1.cell? ⟨w5.heap.size, 3, none⟩ = some (.int .u64 ((wd M 3 : Nat) : Int)) ∧ W1.cell? ⟨w5.heap.size, 4, none⟩ = some (.int .u64 ((wd M 4 : Nat) : Int)) ∧ W1.cell? ⟨w5.heap.size, 5, none⟩ = some (.int .u64 ((wd M 5 : Nat) : Int)) ∧ W1.cell? ⟨g8, 0, none⟩ = some (.int .u64 ((wd t1 0 : Nat) : Int)) ∧ W1.cell? ⟨g8, 1, none⟩ = some (.int .u64 ((wd t1 1 : Nat) : Int)) ∧ W1.cell? ⟨g8, 2, none⟩ = some (.int .u64 ((wd t1 2 : Nat) : Int)) ∧ W1.cell? ⟨g8, 3, none⟩ = some (.int .u64 ((wd t1 3 : Nat) : Int)) ∧ W1.cell? ⟨g8, 4, none⟩ = some (.int .u64 ((wd t1 4 : Nat) : Int)) ∧ W1.cell? ⟨g8, 5, none⟩ = some (.int .u64 ((wd t1 5 : Nat) : Int)))) := box (fun W W1 h b => ⟨btr h.1 b, heap_of b _ _ _ h.2.1, heap_of b _ _ _ h.2.2.1, heap_of b _ _ _ h.2.2.2.1, cell7 (heap_of b _ _ _ h.2.1) 0 _ rfl, cell7 (heap_of b _ _ _ h.2.1) 1 _ rfl, cell7 (heap_of b _ _ _ h.2.1) 2 _ rfl, cell7 (heap_of b _ _ _ h.2.1) 3 _ rfl, row_cell (heap_of b _ _ _ h.2.2.1) 0 (by decide), row_cell (heap_of b _ _ _ h.2.2.1) 1 (by decide), row_cell (heap_of b _ _ _ h.2.2.1) 2 (by decide), row_cell (heap_of b _ _ _ h.2.2.1) 3 (by decide), row_cell (heap_of b _ _ _ h.2.2.1) 4 (by decide), row_cell (heap_of b _ _ _ h.2.2.1) 5 (by decide), row_cell (heap_of b _ _ _ h.2.2.2.1) 0 (by decide), row_cell (heap_of b _ _ _ h.2.2.2.1) 1 (by decide), row_cell (heap_of b _ _ _ h.2.2.2.1) 2 (by decide), row_cell (heap_of b _ _ _ h.2.2.2.1) 3 (by decide), row_cell (heap_of b _ _ _ h.2.2.2.1) 4 (by decide), row_cell (heap_of b _ _ _ h.2.2.2.1) 5 (by decide)⟩)
    have sT : Box (∀ (W : World) (xA xB : Value), (Below w.heap.size w W ∧ W.heap[w.heap.size]? = some (Obj.cells #[.bool b, .string s, .string t, .int .i64 e] 50) ∧ W.heap[w5.heap.size]? = some (Obj.cells (cw 6 M) 42) ∧ W.heap[g8]? = some (Obj.cells (cw 6 t1) 42) ∧ W.cell? ⟨w.heap.size, 0, none⟩ = some (.bool b) ∧ W.cell? ⟨w.heap.size, 1, none⟩ = some (.string s) ∧ W.cell? ⟨w.heap.size, 2, none⟩ = some (.string t) ∧ W.cell? ⟨w.heap.size, 3, none⟩ = some (.int .i64 e) ∧ W.cell? ⟨w5.heap.size, 0, none⟩ = some (.int .u64 ((wd M 0 : Nat) : Int)) ∧ W.cell? ⟨w5.heap.size, 1, none⟩ = some (.int .u64 ((wd M 1 : Nat) : Int)) ∧ W.cell? ⟨w5.heap.size, 2, none⟩ = some (.int .u64 ((wd M 2 : Nat) : Int)) ∧ W.cell? ⟨w5.heap.size, 3, none⟩ = some (.int .u64 ((wd M 3 : Nat) : Int)) ∧ W.cell? ⟨w5.heap.size, 4, none⟩ = some (.int .u64 ((wd M 4 : Nat) : Int)) ∧ W.cell? ⟨w5.heap.size, 5, none⟩ = some (.int .u64 ((wd M 5 : Nat) : Int)) ∧ W.cell? ⟨g8, 0, none⟩ = some (.int .u64 ((wd t1 0 : Nat) : Int)) ∧ W.cell? ⟨g8, 1, none⟩ = some (.int .u64 ((wd t1 1 : Nat) : Int)) ∧ W.cell? ⟨g8, 2, none⟩ = some (.int .u64 ((wd t1 2 : Nat) : Int)) ∧ W.cell? ⟨g8, 3, none⟩ = some (.int .u64 ((wd t1 3 : Nat) : Int)) ∧ W.cell? ⟨g8, 4, none⟩ = some (.int .u64 ((wd t1 4 : Nat) : Int)) ∧ W.cell? ⟨g8, 5, none⟩ = some (.int .u64 ((wd t1 5 : Nat) : Int))) → (Below w.heap.size w ((W.setCell ⟨w.heap.size + 1, 0, none⟩ xA).setCell ⟨w.heap.size + 1, 1, none⟩ xB) ∧ ((W.setCell ⟨w.heap.size + 1, 0, none⟩ xA).setCell ⟨w.heap.size + 1, 1, none⟩ xB).heap[w.heap.size]? = some (Obj.cells #[.bool b, .string s, .string t, .int .i64 e] 50) ∧ ((W.setCell ⟨w.heap.size + 1, 0, none⟩ xA).setCell ⟨w.heap.size + 1, 1, none⟩ xB).heap[w5.heap.size]? = some (Obj.cells (cw 6 M) 42) ∧ ((W.setCell ⟨w.heap.size + 1, 0, none⟩ xA).setCell ⟨w.heap.size + 1, 1, none⟩ xB).heap[g8]? = some (Obj.cells (cw 6 t1) 42) ∧ ((W.setCell ⟨w.heap.size + 1, 0, none⟩ xA).setCell ⟨w.heap.size + 1, 1, none⟩ xB).cell? ⟨w.heap.size, 0, none⟩ = some (.bool b) ∧ ((W.setCell ⟨w.heap.size + 1, 0, none⟩ xA).setCell ⟨w.heap.size + 1, 1, none⟩ xB).cell? ⟨w.heap.size, 1, none⟩ = some (.string s) ∧ ((W.setCell ⟨w.heap.size + 1, 0, none⟩ xA).setCell ⟨w.heap.size + 1, 1, none⟩ xB).cell? ⟨w.heap.size, 2, none⟩ = some (.string t) ∧ ((W.setCell ⟨w.heap.size + 1, 0, none⟩ xA).setCell ⟨w.heap.size + 1, 1, none⟩ xB).cell? ⟨w.heap.size, 3, none⟩ = some (.int .i64 e) ∧ ((W.setCell ⟨w.heap.size + 1, 0, none⟩ xA).setCell ⟨w.heap.size + 1, 1, none⟩ xB).cell? ⟨w5.heap.size, 0, none⟩ = some (.int .u64 ((wd M 0 : Nat) : Int)) ∧ ((W.setCell ⟨w.heap.size + 1, 0, none⟩ xA).setCell ⟨w.heap.size + 1, 1, none⟩ xB).cell? ⟨w5.heap.size, 1, none⟩ = some (.int .u64 ((wd M 1 : Nat) : Int)) ∧ ((W.setCell ⟨w.heap.size + 1, 0, none⟩ xA).setCell ⟨w.heap.size + 1, 1, none⟩ xB).cell? ⟨w5.heap.size, 2, none⟩ = some (.int .u64 ((wd M 2 : Nat) : Int)) ∧ ((W.setCell ⟨w.heap.size + 1, 0, none⟩ xA).setCell ⟨w.heap.size + 1, 1, none⟩ xB).cell? ⟨w5.heap.size, 3, none⟩ = some (.int .u64 ((wd M 3 : Nat) : Int)) ∧ ((W.setCell ⟨w.heap.size + 1, 0, none⟩ xA).setCell ⟨w.heap.size + 1, 1, none⟩ xB).cell? ⟨w5.heap.size, 4, none⟩ = some (.int .u64 ((wd M 4 : Nat) : Int)) ∧ ((W.setCell ⟨w.heap.size + 1, 0, none⟩ xA).setCell ⟨w.heap.size + 1, 1, none⟩ xB).cell? ⟨w5.heap.size, 5, none⟩ = some (.int .u64 ((wd M 5 : Nat) : Int)) ∧ ((W.setCell ⟨w.heap.size + 1, 0, none⟩ xA).setCell ⟨w.heap.size + 1, 1, none⟩ xB).cell? ⟨g8, 0, none⟩ = some (.int .u64 ((wd t1 0 : Nat) : Int)) ∧ ((W.setCell ⟨w.heap.size + 1, 0, none⟩ xA).setCell ⟨w.heap.size + 1, 1, none⟩ xB).cell? ⟨g8, 1, none⟩ = some (.int .u64 ((wd t1 1 : Nat) : Int)) ∧ ((W.setCell ⟨w.heap.size + 1, 0, none⟩ xA).setCell ⟨w.heap.size + 1, 1, none⟩ xB).cell? ⟨g8, 2, none⟩ = some (.int .u64 ((wd t1 2 : Nat) : Int)) ∧ ((W.setCell ⟨w.heap.size + 1, 0, none⟩ xA).setCell ⟨w.heap.size + 1, 1, none⟩ xB).cell? ⟨g8, 3, none⟩ = some (.int .u64 ((wd t1 3 : Nat) : Int)) ∧ ((W.setCell ⟨w.heap.size + 1, 0, none⟩ xA).setCell ⟨w.heap.size + 1, 1, none⟩ xB).cell? ⟨g8, 4, none⟩ = some (.int .u64 ((wd t1 4 : Nat) : Int)) ∧ ((W.setCell ⟨w.heap.size + 1, 0, none⟩ xA).setCell ⟨w.heap.size + 1, 1, none⟩ xB).cell? ⟨g8, 5, none⟩ = some (.int .u64 ((wd t1 5 : Nat) : Int)))) := box (fun W xA xB h => ⟨set2_below h.1 (by first | exact Nat.le_refl _ | omega | (have := S6.out; have := Lx_6.out; have := Lz_6.out; have := H8.out; omega)) xA xB, ((setCell_other (by first | omega | (have := S6.out; have := Lx_6.out; have := Lz_6.out; have := H8.out; omega))).trans ((setCell_other (by first | omega | (have := S6.out; have := Lx_6.out; have := Lz_6.out; have := H8.out; omega))).trans h.2.1)), ((setCell_other (by first | omega | (have := S6.out; have := Lx_6.out; have := Lz_6.out; have := H8.out; omega))).trans ((setCell_other (by first | omega | (have := S6.out; have := Lx_6.out; have := Lz_6.out; have := H8.out; omega))).trans h.2.2.1)), ((setCell_other (by first | omega | (have := S6.out; have := Lx_6.out; have := Lz_6.out; have := H8.out; omega))).trans ((setCell_other (by first | omega | (have := S6.out; have := Lx_6.out; have := Lz_6.out; have := H8.out; omega))).trans h.2.2.2.1)), cell7 (((setCell_other (by first | omega | (have := S6.out; have := Lx_6.out; have := Lz_6.out; have := H8.out; omega))).trans ((setCell_other (by first | omega | (have := S6.out; have := Lx_6.out; have := Lz_6.out; have := H8.out; omega))).trans h.2.1))) 0 _ rfl, cell7 (((setCell_other (by first | omega | (have := S6.out; have := Lx_6.out; have := Lz_6.out; have := H8.out; omega))).trans ((setCell_other (by first | omega | (have := S6.out; have := Lx_6.out; have := Lz_6.out; have := H8.out; omega))).trans h.2.1))) 1 _ rfl, cell7 (((setCell_other (by first | omega | (have := S6.out; have := Lx_6.out; have := Lz_6.out; have := H8.out; omega))).trans ((setCell_other (by first | omega | (have := S6.out; have := Lx_6.out; have := Lz_6.out; have := H8.out; omega))).trans h.2.1))) 2 _ rfl, cell7 (((setCell_other (by first | omega | (have := S6.out; have := Lx_6.out; have := Lz_6.out; have := H8.out; omega))).trans ((setCell_other (by first | omega | (have := S6.out; have := Lx_6.out; have := Lz_6.out; have := H8.out; omega))).trans h.2.1))) 3 _ rfl, row_cell (((setCell_other (by first | omega | (have := S6.out; have := Lx_6.out; have := Lz_6.out; have := H8.out; omega))).trans ((setCell_other (by first | omega | (have := S6.out; have := Lx_6.out; have := Lz_6.out; have := H8.out; omega))).trans h.2.2.1))) 0 (by decide), row_cell (((setCell_other (by first | omega | (have := S6.out; have := Lx_6.out; have := Lz_6.out; have := H8.out; omega))).trans ((setCell_other (by first | omega | (have := S6.out; have := Lx_6.out; have := Lz_6.out; have := H8.out; omega))).trans h.2.2.1))) 1 (by decide), row_cell (((setCell_other (by first | omega | (have := S6.out; have := Lx_6.out; have := Lz_6.out; have := H8.out; omega))).trans ((setCell_other (by first | omega | (have := S6.out; have := Lx_6.out; have := Lz_6.out; have := H8.out; omega))).trans h.2.2.1))) 2 (by decide), row_cell (((setCell_other (by first | omega | (have := S6.out; have := Lx_6.out; have := Lz_6.out; have := H8.out; omega))).trans ((setCell_other (by first | omega | (have := S6.out; have := Lx_6.out; have := Lz_6.out; have := H8.out; omega))).trans h.2.2.1))) 3 (by decide), row_cell (((setCell_other (by first | omega | (have := S6.out; have := Lx_6.out; have := Lz_6.out; have := H8.out; omega))).trans ((setCell_other (by first | omega | (have := S6.out; have := Lx_6.out; have := Lz_6.out; have := H8.out; omega))).trans h.2.2.1))) 4 (by decide), row_cell (((setCell_other (by first | omega | (have := S6.out; have := Lx_6.out; have := Lz_6.out; have := H8.out; omega))).trans ((setCell_other (by first | omega | (have := S6.out; have := Lx_6.out; have := Lz_6.out; have := H8.out; omega))).trans h.2.2.1))) 5 (by decide), row_cell (((setCell_other (by first | omega | (have := S6.out; have := Lx_6.out; have := Lz_6.out; have := H8.out; omega))).trans ((setCell_other (by first | omega | (have := S6.out; have := Lx_6.out; have := Lz_6.out; have := H8.out; omega))).trans h.2.2.2.1))) 0 (by decide), row_cell (((setCell_other (by first | omega | (have := S6.out; have := Lx_6.out; have := Lz_6.out; have := H8.out; omega))).trans ((setCell_other (by first | omega | (have := S6.out; have := Lx_6.out; have := Lz_6.out; have := H8.out; omega))).trans h.2.2.2.1))) 1 (by decide), row_cell (((setCell_other (by first | omega | (have := S6.out; have := Lx_6.out; have := Lz_6.out; have := H8.out; omega))).trans ((setCell_other (by first | omega | (have := S6.out; have := Lx_6.out; have := Lz_6.out; have := H8.out; omega))).trans h.2.2.2.1))) 2 (by decide), row_cell (((setCell_other (by first | omega | (have := S6.out; have := Lx_6.out; have := Lz_6.out; have := H8.out; omega))).trans ((setCell_other (by first | omega | (have := S6.out; have := Lx_6.out; have := Lz_6.out; have := H8.out; omega))).trans h.2.2.2.1))) 3 (by decide), row_cell (((setCell_other (by first | omega | (have := S6.out; have := Lx_6.out; have := Lz_6.out; have := H8.out; omega))).trans ((setCell_other (by first | omega | (have := S6.out; have := Lx_6.out; have := Lz_6.out; have := H8.out; omega))).trans h.2.2.2.1))) 4 (by decide), row_cell (((setCell_other (by first | omega | (have := S6.out; have := Lx_6.out; have := Lz_6.out; have := H8.out; omega))).trans ((setCell_other (by first | omega | (have := S6.out; have := Lx_6.out; have := Lz_6.out; have := H8.out; omega))).trans h.2.2.2.1))) 5 (by decide)⟩)
    have s0 : Below w.heap.size w (w8).drew ∧ (w8).drew.heap[w.heap.size]? = some (Obj.cells #[.bool b, .string s, .string t, .int .i64 e] 50) ∧ (w8).drew.heap[w5.heap.size]? = some (Obj.cells (cw 6 M) 42) ∧ (w8).drew.heap[g8]? = some (Obj.cells (cw 6 t1) 42) ∧ (w8).drew.cell? ⟨w.heap.size, 0, none⟩ = some (.bool b) ∧ (w8).drew.cell? ⟨w.heap.size, 1, none⟩ = some (.string s) ∧ (w8).drew.cell? ⟨w.heap.size, 2, none⟩ = some (.string t) ∧ (w8).drew.cell? ⟨w.heap.size, 3, none⟩ = some (.int .i64 e) ∧ (w8).drew.cell? ⟨w5.heap.size, 0, none⟩ = some (.int .u64 ((wd M 0 : Nat) : Int)) ∧ (w8).drew.cell? ⟨w5.heap.size, 1, none⟩ = some (.int .u64 ((wd M 1 : Nat) : Int)) ∧ (w8).drew.cell? ⟨w5.heap.size, 2, none⟩ = some (.int .u64 ((wd M 2 : Nat) : Int)) ∧ (w8).drew.cell? ⟨w5.heap.size, 3, none⟩ = some (.int .u64 ((wd M 3 : Nat) : Int)) ∧ (w8).drew.cell? ⟨w5.heap.size, 4, none⟩ = some (.int .u64 ((wd M 4 : Nat) : Int)) ∧ (w8).drew.cell? ⟨w5.heap.size, 5, none⟩ = some (.int .u64 ((wd M 5 : Nat) : Int)) ∧ (w8).drew.cell? ⟨g8, 0, none⟩ = some (.int .u64 ((wd t1 0 : Nat) : Int)) ∧ (w8).drew.cell? ⟨g8, 1, none⟩ = some (.int .u64 ((wd t1 1 : Nat) : Int)) ∧ (w8).drew.cell? ⟨g8, 2, none⟩ = some (.int .u64 ((wd t1 2 : Nat) : Int)) ∧ (w8).drew.cell? ⟨g8, 3, none⟩ = some (.int .u64 ((wd t1 3 : Nat) : Int)) ∧ (w8).drew.cell? ⟨g8, 4, none⟩ = some (.int .u64 ((wd t1 4 : Nat) : Int)) ∧ (w8).drew.cell? ⟨g8, 5, none⟩ = some (.int .u64 ((wd t1 5 : Nat) : Int)) := ⟨B8.drew, Rx_8, Rw_8, Rk_8, cell7 (Rx_8) 0 _ rfl, cell7 (Rx_8) 1 _ rfl, cell7 (Rx_8) 2 _ rfl, cell7 (Rx_8) 3 _ rfl, row_cell (Rw_8) 0 (by decide), row_cell (Rw_8) 1 (by decide), row_cell (Rw_8) 2 (by decide), row_cell (Rw_8) 3 (by decide), row_cell (Rw_8) 4 (by decide), row_cell (Rw_8) 5 (by decide), row_cell (Rk_8) 0 (by decide), row_cell (Rk_8) 1 (by decide), row_cell (Rk_8) 2 (by decide), row_cell (Rk_8) 3 (by decide), row_cell (Rk_8) 4 (by decide), row_cell (Rk_8) 5 (by decide)⟩
    have rz : (w8).drew.heap[w.heap.size + 1]? = some (Obj.cells #[.int .u64 0, .int .u64 0] 27) := Rz_8
    have hq0 := fz (k := 0) rz
    have hq1 := fz (k := 1) rz
    have hc0 := cell7 rz 0 _ rfl
    have hc1 := cell7 rz 1 _ rfl
    go_wp2_with fail
    go_region_held3 (fun W => Below w.heap.size w W ∧ W.heap[w.heap.size]? = some (Obj.cells #[.bool b, .string s, .string t, .int .i64 e] 50) ∧ W.heap[w5.heap.size]? = some (Obj.cells (cw 6 M) 42) ∧ W.heap[g8]? = some (Obj.cells (cw 6 t1) 42) ∧ W.cell? ⟨w.heap.size, 0, none⟩ = some (.bool b) ∧ W.cell? ⟨w.heap.size, 1, none⟩ = some (.string s) ∧ W.cell? ⟨w.heap.size, 2, none⟩ = some (.string t) ∧ W.cell? ⟨w.heap.size, 3, none⟩ = some (.int .i64 e) ∧ W.cell? ⟨w5.heap.size, 0, none⟩ = some (.int .u64 ((wd M 0 : Nat) : Int)) ∧ W.cell? ⟨w5.heap.size, 1, none⟩ = some (.int .u64 ((wd M 1 : Nat) : Int)) ∧ W.cell? ⟨w5.heap.size, 2, none⟩ = some (.int .u64 ((wd M 2 : Nat) : Int)) ∧ W.cell? ⟨w5.heap.size, 3, none⟩ = some (.int .u64 ((wd M 3 : Nat) : Int)) ∧ W.cell? ⟨w5.heap.size, 4, none⟩ = some (.int .u64 ((wd M 4 : Nat) : Int)) ∧ W.cell? ⟨w5.heap.size, 5, none⟩ = some (.int .u64 ((wd M 5 : Nat) : Int)) ∧ W.cell? ⟨g8, 0, none⟩ = some (.int .u64 ((wd t1 0 : Nat) : Int)) ∧ W.cell? ⟨g8, 1, none⟩ = some (.int .u64 ((wd t1 1 : Nat) : Int)) ∧ W.cell? ⟨g8, 2, none⟩ = some (.int .u64 ((wd t1 2 : Nat) : Int)) ∧ W.cell? ⟨g8, 3, none⟩ = some (.int .u64 ((wd t1 3 : Nat) : Int)) ∧ W.cell? ⟨g8, 4, none⟩ = some (.int .u64 ((wd t1 4 : Nat) : Int)) ∧ W.cell? ⟨g8, 5, none⟩ = some (.int .u64 ((wd t1 5 : Nat) : Int))) (first | exact s1 | exact s0 | exact sT.out _ _ _ s1 | exact sT.out _ _ _ s0)
      (first | (go_at_call 78; (first | refine (KI.out _).mono ?_ | refine (KI.out _).mono ?_); rintro r wz ⟨rfl, rfl⟩) | (go_at_call 112; (first | refine (KB.out _).mono ?_ | refine (KB.out _).mono ?_); rintro r wq ⟨rfl, bq⟩; have s1 := (by first | exact sS.out _ _ s1 bq | exact sS.out _ _ s0 bq); have rz := heap_of bq _ _ _ rz; have hq0 := fz (k := 0) rz; have hc0 := cell7 rz 0 _ rfl; have hq1 := fz (k := 1) rz; have hc1 := cell7 rz 1 _ rfl; clear bq) | fail)
    obtain ⟨E0, E1⟩ := set2_cells rz (.int .u64 (u : Nat)) (.int .u64 (v : Nat))
    have BZ := (by first | exact And.left s1 | exact And.left s0 : Below w.heap.size w _)
    go_wp2
    exact bodyPost_ret (v := .tuple #[.agg #[.int .u64 (u : Nat), .int .u64 (v : Nat)], .bool true]) (by simp [results, Tryz.results82, go_sem, E0, E1]) rfl ⟨rfl, set2_below BZ (by first | exact Nat.le_refl _ | omega | (have := S6.out; have := Lx_6.out; have := Lz_6.out; have := H8.out; omega)) _ _⟩
end Go.Proofs.YtpdehipeakcaiaaGreatDoor
namespace Go.Proofs.YtpdehipeakcaiaaGreatDoor
set_option maxRecDepth 100000
set_option maxHeartbeats 40000000
set_option maxRecDepth 100000
open Go.RowKit WMath XMath
set_option linter.unusedSimpArgs false
set_option linter.unusedVariables false
theorem top_lim {x : XN} (hx : x.can) : -1200000 ≤ topX x ∧ topX x ≤ 1200000 := by
  obtain ⟨h1, h2, h3, h4, _⟩ := hx
  unfold nl at h1 h2
  unfold topX lenD
  split <;> omega
theorem bel_same {P : Program} {k : FuncId} {a : Array Value} {w : World} {v : Value} (h : Calls P k a w fun r w' => r = .returned v ∧ w' = w) : Calls P k a w fun r w' => r = .returned v ∧ Below w.heap.size w w' :=
  h.mono fun _ _ h => ⟨h.1, by rw [h.2]; exact Below.refl _ _⟩
theorem fC_yes {f : Int} (hf : Is4 f) : fC f = 0 := (is4_ok hf).2.2.1
theorem fC_no {f : Int} (h0 : 0 ≤ f) (hf : ¬ Is4 f) : fC f = 2 := by
  unfold Is4 at hf
  unfold fC
  rw [if_neg (by omega)]
theorem rOf_is (f : Int) (hf : Is4 f) (b : Bool) (n d : Nat) (s t : ByteArray) (e : Int) (hs : nbA n = s) (ht : nbA d = t) (hc : (XN.mk b n d e).can) (M : Nat) (is : Bool) (u v : Nat) (hr : ofX f ⟨b, n, d, e⟩ = (M, is)) (hv : bv7 M = (u, v)) (w : World) : Calls Tryz.prog 82 #[.int .u8 f, .agg #[.bool b, .string s, .string t, .int .i64 e]] w fun r w' => r = .returned (.tuple #[.agg #[.int .u64 (u : Nat), .int .u64 (v : Nat)], .bool is]) ∧ Below w.heap.size w w' := by
  have f4 := is4_ok hf
  obtain ⟨n1, n2, n3, n4, n5, n6⟩ := nm8 hf
  have fp : fP f = (pV f : Int) + 1 := (em_lim hf).2.2.2.2.2.2.2.2.1
  by_cases n0 : n = 0
  · unfold ofX at hr
    rw [if_pos n0] at hr
    injection hr with h1 h2
    subst h1 h2
    injection hv with h3 h4
    subst h3 h4
    have : s = ⟨#[]⟩ := by rw [← hs, n0, nbA_zero]
    subst this
    exact rof_zero f b t e w
  · have es := eq_nil n s hs n0
    have et := eq_one d t ht
    obtain ⟨T, hTop⟩ : ∃ T, topX (XN.mk b n d e) = T := ⟨_, rfl⟩
    obtain ⟨t1, t2⟩ := top_lim hc
    rw [hTop] at t1 t2
    have K1 : Box (∀ w, Calls Tryz.prog 75 #[.int .u8 f] w fun r w' => r = .returned (.int .i64 (fP f)) ∧ Below w.heap.size w w') := box (fun w => bel_same (r_precision f _ f4.1 rfl w))
    have K2 : Box (∀ w, Calls Tryz.prog 104 #[.agg #[.bool b, .string s, .string t, .int .i64 e]] w fun r w' => r = .returned (.tuple #[.int .i64 T, .int .i64 0]) ∧ Below w.heap.size w w') := box (fun w => rTop_ok b n d e s t T hs ht n0 hc hTop w)
    have K3 : Box (∀ w, Calls Tryz.prog 76 #[.int .u8 f] w fun r w' => r = .returned (.int .i64 (fE f)) ∧ Below w.heap.size w w') := box (fun w => bel_same (r_emax f _ f4.1 rfl w))
    have K4 : Box (∀ w, Calls Tryz.prog 78 #[.int .u8 f] w fun r w' => r = .returned (.int .i64 (1 - fE f)) ∧ w' = w) := box (fun w => r_emin f _ _ f4.1 rfl (em_lim hf).2.2.2.2.1 w)
    by_cases d1 : d = 1
    case neg =>
      rw [of_no (XN.mk b n d e) hc n0 (Or.inr (Or.inl d1))] at hr
      injection hr with h1 h2
      subst h1 h2
      injection hv with h3 h4
      subst h3 h4
      exact rof_den f b s t e _ T w K1 K2 es (by rw [et]; exact decide_eq_false d1)
    rw [decide_eq_true d1] at et
    by_cases hE : fE f < T
    · rw [of_no (XN.mk b n d e) hc n0 (Or.inl (by rw [hTop]; exact hE))] at hr
      injection hr with h1 h2
      subst h1 h2
      injection hv with h3 h4
      subst h3 h4
      exact rof_over f b s t e _ T _ w K1 K2 K3 es et (decide_eq_true hE)
    have dE : decide (fE f < T) = false := decide_eq_false hE
    obtain ⟨A, hA⟩ : ∃ A, ofA f (XN.mk b n d e) = A := ⟨_, rfl⟩
    have hA2 := hA
    unfold ofA at hA2
    rw [hTop] at hA2
    obtain ⟨A0, hI, hA0⟩ : ∃ A0, ((decide (T < 1 - fE f) = true ∧ A0 = 1 - fE f) ∨ (decide (T < 1 - fE f) = false ∧ A0 = T)) ∧ A0 = max T (1 - fE f) := by
      by_cases hI : T < 1 - fE f
      · exact ⟨1 - fE f, Or.inl ⟨decide_eq_true hI, rfl⟩, by omega⟩
      · exact ⟨T, Or.inr ⟨decide_eq_false hI, rfl⟩, by omega⟩
    have a1 : IntKind.i64.wrap (A0 - fP f) = A0 - fP f := wrap_i64_is _ (by omega) (by omega)
    have a2 : IntKind.i64.wrap (A0 - fP f + 1) = A := by rw [wrap_i64_is _ (by omega) (by omega)]; omega
    by_cases hl : e < A
    · rw [of_no (XN.mk b n d e) hc n0 (Or.inr (Or.inr (by rw [hA]; exact hl)))] at hr
      injection hr with h1 h2
      subst h1 h2
      injection hv with h3 h4
      subst h3 h4
      exact rof_low f b s t e _ T _ _ A0 _ A w K1 K2 K3 K4 es et hI dE a1 a2 (decide_eq_true hl)
    have dl : decide (e < A) = false := decide_eq_false hl
    subst d1
    obtain ⟨m, k, tt, q1, q2, q3, q4, q5⟩ := of_yes hf b n e n0 (by rw [hTop]; omega) (by rw [hA]; omega)
    rw [hA] at q1 q5
    rw [q4] at hr
    injection hr with h1 h2
    subst h2
    have lim : m < 340282366920938463463374607431768211456 := by
      obtain ⟨g1, g2, g3, g4, g5, g6, g7⟩ := fm hf
      rw [g1, Nat.add_mul] at g7
      have := Nat.mul_le_mul_right (2 ^ pV f) g5
      rcases q5 with ⟨_, q, _⟩ | ⟨_, q, _⟩ <;> omega
    have hfl := fl_yes (XN.mk b n 1 e) A n0 rfl (show A ≤ e by omega) (by omega) (by omega) (by
      show nl (n * 2 ^ (e - A).toNat) ≤ 16384
      rw [← q1]
      exact nl_pow _ 128 (by rw [show (2 : Nat) ^ 128 = 340282366920938463463374607431768211456 by decide]; exact lim) (by decide))
    have hfl2 : flX (XN.mk b n 1 e) A = ((m, true), 0) := by rw [hfl, q1]
    obtain ⟨z, hz⟩ : ∃ z, nbA m = z := ⟨_, rfl⟩
    have K5 : Box (∀ w, Calls Tryz.prog 107 #[.agg #[.bool b, .string s, .string t, .int .i64 e], .int .i64 A] w fun r w' => r = .returned (.tuple #[.string z, .bool true, .int .i64 0]) ∧ Below w.heap.size w w') := box (fun w => rFloor_ok b n 1 e s t A m true 0 z hs ht hc (by omega) (by omega) hfl2 hz w)
    have K6 : Box (∀ w, Calls Tryz.prog 113 #[.string z] w fun r w' => r = .returned (.tuple #[.agg (cw 6 m), .bool true]) ∧ Below w.heap.size w w') := box (fun w => nat_ToWide m z hz (by
      have := nl_le_of m 16 (by rw [show (2 : Nat) ^ (8 * 16) = 340282366920938463463374607431768211456 by decide]; exact lim)
      omega) w)
    have K7 : Box (∀ w, Calls Tryz.prog 114 #[.agg (cw 6 m)] w fun r w' => r = .returned (.int .i64 ((blen m : Nat) : Int)) ∧ Below w.heap.size w w') := box (fun w => rwlen_any m (lt_Q7 lim) w)
    have bl := blen_iff m (pV f)
    rcases q5 with ⟨k0, mt, hAl⟩ | ⟨k1, mt, hAl⟩
    · have dL : decide (((blen m : Nat) : Int) < fP f) = true := decide_eq_true (by have := bl.2 (by omega); omega)
      have KB : Box (∀ w, Calls Tryz.prog 112 #[.int .u8 f, .bool b, .int .i64 0, .agg (cw 6 m)] w fun r w' => r = .returned (.agg #[.int .u64 (u : Nat), .int .u64 (v : Nat)]) ∧ Below w.heap.size w w') := box (fun w => rk_enc f b 0 m _ u v hf (by omega) (by omega) (by rw [← k0, mt]) (by rw [h1]; exact hv) w)
      exact rof_sub f b s t e _ T _ _ A0 _ A 0 true z m _ u v w K1 K2 K3 K4 K5 K6 K7 KB es et hI dE a1 a2 dl dL
    · have dL : decide (((blen m : Nat) : Int) < fP f) = false := decide_eq_false (by
        intro h
        have := bl.1 (by omega)
        omega)
      have KK : Box (∀ w, Calls Tryz.prog 116 #[.int .i64 (pV f : Nat)] w fun r w' => r = .returned (.agg (cw 6 (2 ^ pV f - 1))) ∧ Below w.heap.size w w') := box (fun w => rwmask_is _ _ (by rw [cnt_k8 (by omega)]) w)
      have KA : Box (∀ w, Calls Tryz.prog 115 #[.agg (cw 6 m), .agg (cw 6 (2 ^ pV f - 1))] w fun r w' => r = .returned (.agg (cw 6 tt)) ∧ Below w.heap.size w w') := box (fun w => rwand_is m _ _ (lt_Q7 lim) (by rw [Nat.and_two_pow_sub_one_eq_mod, mt, Nat.add_mod_left, Nat.mod_eq_of_lt q3]) w)
      have KB : Box (∀ w, Calls Tryz.prog 112 #[.int .u8 f, .bool b, .int .i64 (k : Nat), .agg (cw 6 tt)] w fun r w' => r = .returned (.agg #[.int .u64 (u : Nat), .int .u64 (v : Nat)]) ∧ Below w.heap.size w w') := box (fun w => rk_enc f b k tt _ u v hf q3 (by omega) rfl (by rw [h1]; exact hv) w)
      have p1 : IntKind.i64.wrap (fP f - 1) = ((pV f : Nat) : Int) := by rw [wrap_i64_is _ (by omega) (by omega)]; omega
      have p2 : IntKind.i64.wrap (A - (1 - fE f)) = A - (1 - fE f) := wrap_i64_is _ (by omega) (by omega)
      have p3 : IntKind.i64.wrap (A - (1 - fE f) + fP f) = ((k : Nat) : Int) := by rw [wrap_i64_is _ (by omega) (by omega)]; omega
      exact rof_norm f b s t e _ T _ _ A0 _ A 0 true z m _ u v _ _ _ tt k w K1 K2 K3 K4 K5 K6 K7 KK KA KB es et hI dE a1 a2 dl dL p1 p2 p3
theorem addX_is (X Y Z : XN) (hx : X.can) (hy : Y.can) (hz : Z.can) (bx : Bd X 128 20200) (bz : Bd Y 128 20200) (hv : X.val + Y.val = Z.val) : addX X Y = (Z, 0) := by
  have h1 := add_ok X Y 128 128 20200 20200 40657 81057 hx hy bx bz rfl rfl (by decide) (by decide)
  have h2 := add_good X Y hx hy h1.1
  have h3 := can_inj _ Z h2.1 hz (by rw [h2.2, hv])
  exact Prod.ext h3 h1.1
end Go.Proofs.YtpdehipeakcaiaaGreatDoor
