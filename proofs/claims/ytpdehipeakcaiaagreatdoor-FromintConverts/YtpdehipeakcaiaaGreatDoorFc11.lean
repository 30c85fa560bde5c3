/-
  What the functions that the statement reaches return: part 11 (R9).
-/
import Derived.Deep.RegionHeld3
import Derived.Test.YtpdehipeakcaiaaGreatDoorFc10
namespace Go.Proofs.YtpdehipeakcaiaaGreatDoor
set_option maxRecDepth 100000
set_option maxHeartbeats 40000000
set_option maxRecDepth 100000
open Go.RowKit WMath XMath
set_option linter.unusedSimpArgs false
set_option linter.unusedVariables false
theorem gen_abacusref09_tiny_11 {X : Act → World → Prop} {R : World → Nat → Prop} {t0 t1 t2 t3 t4 t5 t6 t7 t8 t9 t10 t12 t13 t14 t15 t16 t17 t18 t19 t20 t21 t22 t23 t24 t25 t26 t27 t28 t29 t30 t31 t32 t33 t34 t35 t36 t37 t38 t39 t40 : Value} {d : List Deferred} {W : World} {G : Nat}
    (key : ∀ w5 g, R w5 g → X ⟨#[t0, t1, t2, t3, t4, t5, t6, t7, t8, t9, t10, .pointer (some ⟨g, 0, none⟩), t12, t13, t14, t15, t16, t17, t18, t19, t20, t21, t22, t23, t24, t25, t26, t27, t28, t29, t30, t31, t32, t33, t34, t35, t36, t37, t38, t39, t40], d⟩ w5) (r : R W G) : X ⟨#[t0, t1, t2, t3, t4, t5, t6, t7, t8, t9, t10, .pointer (some ⟨G, 0, none⟩), t12, t13, t14, t15, t16, t17, t18, t19, t20, t21, t22, t23, t24, t25, t26, t27, t28, t29, t30, t31, t32, t33, t34, t35, t36, t37, t38, t39, t40], d⟩ W := key W G r
theorem gen_abacusref09_deliver_14 {X : Act → World → Prop} {R : World → Nat → Prop} {t0 t1 t2 t3 t4 t5 t6 t7 t8 t9 t10 t11 t12 t13 t15 t16 t17 t18 t19 t20 t21 t22 t23 t24 t25 t26 t27 t28 t29 t30 t31 t32 t33 t34 t35 t36 t37 t38 t39 t40 t41 t42 t43 t44 t45 t46 t47 t48 t49 t50 t51 t52 t53 t54 t55 t56 t57 t58 t59 t60 t61 t62 t63 t64 t65 t66 t67 t68 t69 t70 t71 t72 t73 t74 t75 t76 t77 t78 t79 t80 t81 t82 t83 t84 t85 t86 t87 t88 : Value} {d : List Deferred} {W : World} {G : Nat}
    (key : ∀ w5 g, R w5 g → X ⟨#[t0, t1, t2, t3, t4, t5, t6, t7, t8, t9, t10, t11, t12, t13, .pointer (some ⟨g, 0, none⟩), t15, t16, t17, t18, t19, t20, t21, t22, t23, t24, t25, t26, t27, t28, t29, t30, t31, t32, t33, t34, t35, t36, t37, t38, t39, t40, t41, t42, t43, t44, t45, t46, t47, t48, t49, t50, t51, t52, t53, t54, t55, t56, t57, t58, t59, t60, t61, t62, t63, t64, t65, t66, t67, t68, t69, t70, t71, t72, t73, t74, t75, t76, t77, t78, t79, t80, t81, t82, t83, t84, t85, t86, t87, t88], d⟩ w5) (r : R W G) : X ⟨#[t0, t1, t2, t3, t4, t5, t6, t7, t8, t9, t10, t11, t12, t13, .pointer (some ⟨G, 0, none⟩), t15, t16, t17, t18, t19, t20, t21, t22, t23, t24, t25, t26, t27, t28, t29, t30, t31, t32, t33, t34, t35, t36, t37, t38, t39, t40, t41, t42, t43, t44, t45, t46, t47, t48, t49, t50, t51, t52, t53, t54, t55, t56, t57, t58, t59, t60, t61, t62, t63, t64, t65, t66, t67, t68, t69, t70, t71, t72, t73, t74, t75, t76, t77, t78, t79, t80, t81, t82, t83, t84, t85, t86, t87, t88], d⟩ W := key W G r

set_option maxRecDepth 100000 in
set_option maxHeartbeats 4000000 in
theorem rf_tiny_hi (f m : Int) (b : Bool) (s t : ByteArray) (e : Int) (rt : Bool) (T I I1 P A1 A H : Int) (M rs : ByteArray) (ex o : Bool) (l : Int) (w : World)
    (KT : Box (∀ w, Calls Tryz.prog 74 #[.agg #[.bool b, .string s, .string t, .int .i64 e], .bool rt] w fun r w' => r = .returned (.int .i64 T) ∧ Below w.heap.size w w'))
    (KI : Box (∀ w, Calls Tryz.prog 78 #[.int .u8 f] w fun r w' => r = .returned (.int .i64 I) ∧ Below w.heap.size w w'))
    (h1 : decide (I ≤ T) = true)
    : Calls Tryz.prog 83 #[.int .u8 f, .int .u8 m, .agg #[.bool b, .string s, .string t, .int .i64 e], .bool rt] w fun r w' => r = .returned (.bool false) ∧ Below w.heap.size w w' := by
  obtain ⟨Rx_0, B0⟩ := opn1 w (Obj.cells #[.bool b, .string s, .string t, .int .i64 e] 50)
  go_enter Tryz.func83, Tryz.ntmps83
  go_wp2_with fail
  refine (KT.out _).mono ?_
  rintro r w1 ⟨rfl, b1⟩
  have B1 : Below w.heap.size w w1 := btr B0 b1
  have Rx_1 := heap_of b1 _ _ _ Rx_0
  clear b1 B0 Rx_0
  obtain ⟨cx_1_0, cx_1_1, cx_1_2, cx_1_3⟩ := cells4s Rx_1
  go_wp2_with fail
  refine (KI.out _).mono ?_
  rintro r w2 ⟨rfl, b2⟩
  have B2 : Below w.heap.size w w2 := btr B1 b2
  have Rx_2 := heap_of b2 _ _ _ Rx_1
  clear b2 B1 Rx_1 cx_1_0 cx_1_1 cx_1_2 cx_1_3
  obtain ⟨cx_2_0, cx_2_1, cx_2_2, cx_2_3⟩ := cells4s Rx_2
  go_wp2
  go_ret
  exact ⟨rfl, B2⟩
set_option maxRecDepth 100000 in
set_option maxHeartbeats 4000000 in
theorem rf_tiny_lo (f m : Int) (b : Bool) (s t : ByteArray) (e : Int) (rt : Bool) (T I I1 P A1 A H : Int) (M rs : ByteArray) (ex o : Bool) (l : Int) (w : World)
    (KT : Box (∀ w, Calls Tryz.prog 74 #[.agg #[.bool b, .string s, .string t, .int .i64 e], .bool rt] w fun r w' => r = .returned (.int .i64 T) ∧ Below w.heap.size w w'))
    (KI : Box (∀ w, Calls Tryz.prog 78 #[.int .u8 f] w fun r w' => r = .returned (.int .i64 I) ∧ Below w.heap.size w w'))
    (h1 : decide (I ≤ T) = false) (h2 : IntKind.i64.wrap (I - 1) = I1) (h3 : decide (T < I1) = true)
    : Calls Tryz.prog 83 #[.int .u8 f, .int .u8 m, .agg #[.bool b, .string s, .string t, .int .i64 e], .bool rt] w fun r w' => r = .returned (.bool true) ∧ Below w.heap.size w w' := by
  obtain ⟨Rx_0, B0⟩ := opn1 w (Obj.cells #[.bool b, .string s, .string t, .int .i64 e] 50)
  go_enter Tryz.func83, Tryz.ntmps83
  go_wp2_with fail
  refine (KT.out _).mono ?_
  rintro r w1 ⟨rfl, b1⟩
  have B1 : Below w.heap.size w w1 := btr B0 b1
  have Rx_1 := heap_of b1 _ _ _ Rx_0
  clear b1 B0 Rx_0
  obtain ⟨cx_1_0, cx_1_1, cx_1_2, cx_1_3⟩ := cells4s Rx_1
  go_wp2_with fail
  refine (KI.out _).mono ?_
  rintro r w2 ⟨rfl, b2⟩
  have B2 : Below w.heap.size w w2 := btr B1 b2
  have Rx_2 := heap_of b2 _ _ _ Rx_1
  clear b2 B1 Rx_1 cx_1_0 cx_1_1 cx_1_2 cx_1_3
  obtain ⟨cx_2_0, cx_2_1, cx_2_2, cx_2_3⟩ := cells4s Rx_2
  go_wp2
  go_ret
  exact ⟨rfl, B2⟩
set_option maxRecDepth 100000 in
set_option maxHeartbeats 4000000 in
theorem rf_tiny_mid (f m : Int) (b : Bool) (s t : ByteArray) (e : Int) (rt : Bool) (T I I1 P A1 A H : Int) (M rs : ByteArray) (ex o : Bool) (l : Int) (w : World)
    (KT : Box (∀ w, Calls Tryz.prog 74 #[.agg #[.bool b, .string s, .string t, .int .i64 e], .bool rt] w fun r w' => r = .returned (.int .i64 T) ∧ Below w.heap.size w w'))
    (KI : Box (∀ w, Calls Tryz.prog 78 #[.int .u8 f] w fun r w' => r = .returned (.int .i64 I) ∧ Below w.heap.size w w'))
    (KP : Box (∀ w, Calls Tryz.prog 75 #[.int .u8 f] w fun r w' => r = .returned (.int .i64 P) ∧ Below w.heap.size w w'))
    (KF : Box (∀ w, Calls Tryz.prog 79 #[.agg #[.bool b, .string s, .string t, .int .i64 e], .bool rt, .int .i64 A] w fun r w' => r = .returned (.agg #[.string M, .int .i64 A, .int .i64 H, .bool ex]) ∧ Below w.heap.size w w'))
    (KK : Box (∀ w, Calls Tryz.prog 80 #[.int .u8 m, .bool b, .agg #[.string M, .int .i64 A, .int .i64 H, .bool ex]] w fun r w' => r = .returned (.string rs) ∧ Below w.heap.size w w'))
    (KL : Box (∀ w, Calls Tryz.prog 69 #[.string rs] w fun r w' => r = .returned (.int .i64 l) ∧ Below w.heap.size w w'))
    (h1 : decide (I ≤ T) = false) (h2 : IntKind.i64.wrap (I - 1) = I1) (h3 : decide (T < I1) = false) (h4 : IntKind.i64.wrap (T - P) = A1) (h5 : IntKind.i64.wrap (A1 + 1) = A) (ho : decide (l ≤ P) = o)
    : Calls Tryz.prog 83 #[.int .u8 f, .int .u8 m, .agg #[.bool b, .string s, .string t, .int .i64 e], .bool rt] w fun r w' => r = .returned (.bool o) ∧ Below w.heap.size w w' := by
  obtain ⟨Rx_0, B0⟩ := opn1 w (Obj.cells #[.bool b, .string s, .string t, .int .i64 e] 50)
  go_enter Tryz.func83, Tryz.ntmps83
  go_wp2_with fail
  refine (KT.out _).mono ?_
  rintro r w1 ⟨rfl, b1⟩
  have B1 : Below w.heap.size w w1 := btr B0 b1
  have Rx_1 := heap_of b1 _ _ _ Rx_0
  clear b1 B0 Rx_0
  obtain ⟨cx_1_0, cx_1_1, cx_1_2, cx_1_3⟩ := cells4s Rx_1
  go_wp2_with fail
  refine (KI.out _).mono ?_
  rintro r w2 ⟨rfl, b2⟩
  have B2 : Below w.heap.size w w2 := btr B1 b2
  have Rx_2 := heap_of b2 _ _ _ Rx_1
  clear b2 B1 Rx_1 cx_1_0 cx_1_1 cx_1_2 cx_1_3
  obtain ⟨cx_2_0, cx_2_1, cx_2_2, cx_2_3⟩ := cells4s Rx_2
  have sS : Box (∀ W W1 : World, (Below w.heap.size w W ∧ W.heap[w.heap.size]? = some (Obj.cells #[.bool b, .string s, .string t, .int .i64 e] 50) ∧ W.cell? ⟨w.heap.size, 0, none⟩ = some (.bool b) ∧ W.cell? ⟨w.heap.size, 1, none⟩ = some (.string s) ∧ W.cell? ⟨w.heap.size, 2, none⟩ = some (.string t) ∧ W.cell? ⟨w.heap.size, 3, none⟩ = some (.int .i64 e)) → Below W.heap.size W W1 → (Below w.heap.size w W1 ∧ W1.heap[w.heap.size]? = some (Obj.cells #[.bool b, .string s, .string t, .int .i64 e] 50) ∧ W1.cell? ⟨w.heap.size, 0, none⟩ = some (.bool b) ∧ W1.cell? ⟨w.heap.size, 1, none⟩ = some (.string s) ∧ W1.cell? ⟨w.heap.size, 2, none⟩ = some (.string t) ∧ W1.cell? ⟨w.heap.size, 3, none⟩ = some (.int .i64 e))) := box (fun W W1 h b => ⟨btr h.1 b, heap_of b _ _ _ h.2.1, cell7 (heap_of b _ _ _ h.2.1) 0 _ rfl, cell7 (heap_of b _ _ _ h.2.1) 1 _ rfl, cell7 (heap_of b _ _ _ h.2.1) 2 _ rfl, cell7 (heap_of b _ _ _ h.2.1) 3 _ rfl⟩)
  have sL : Box (∀ W : World, (Below w.heap.size w W ∧ W.heap[w.heap.size]? = some (Obj.cells #[.bool b, .string s, .string t, .int .i64 e] 50) ∧ W.cell? ⟨w.heap.size, 0, none⟩ = some (.bool b) ∧ W.cell? ⟨w.heap.size, 1, none⟩ = some (.string s) ∧ W.cell? ⟨w.heap.size, 2, none⟩ = some (.string t) ∧ W.cell? ⟨w.heap.size, 3, none⟩ = some (.int .i64 e)) → (w.heap.size < W.heap.size)) := box (fun W h => (Array.getElem?_eq_some_iff.1 h.2.1).1)
  have sT : Box (∀ (W : World) (gN : Nat) (xA xB xC xD : Value), (Below w.heap.size w W ∧ W.heap[w.heap.size]? = some (Obj.cells #[.bool b, .string s, .string t, .int .i64 e] 50) ∧ W.cell? ⟨w.heap.size, 0, none⟩ = some (.bool b) ∧ W.cell? ⟨w.heap.size, 1, none⟩ = some (.string s) ∧ W.cell? ⟨w.heap.size, 2, none⟩ = some (.string t) ∧ W.cell? ⟨w.heap.size, 3, none⟩ = some (.int .i64 e)) → (w.heap.size < gN) → (Below w.heap.size w ((((W.setCell ⟨gN, 0, none⟩ xA).setCell ⟨gN, 1, none⟩ xB).setCell ⟨gN, 2, none⟩ xC).setCell ⟨gN, 3, none⟩ xD) ∧ ((((W.setCell ⟨gN, 0, none⟩ xA).setCell ⟨gN, 1, none⟩ xB).setCell ⟨gN, 2, none⟩ xC).setCell ⟨gN, 3, none⟩ xD).heap[w.heap.size]? = some (Obj.cells #[.bool b, .string s, .string t, .int .i64 e] 50) ∧ ((((W.setCell ⟨gN, 0, none⟩ xA).setCell ⟨gN, 1, none⟩ xB).setCell ⟨gN, 2, none⟩ xC).setCell ⟨gN, 3, none⟩ xD).cell? ⟨w.heap.size, 0, none⟩ = some (.bool b) ∧ ((((W.setCell ⟨gN, 0, none⟩ xA).setCell ⟨gN, 1, none⟩ xB).setCell ⟨gN, 2, none⟩ xC).setCell ⟨gN, 3, none⟩ xD).cell? ⟨w.heap.size, 1, none⟩ = some (.string s) ∧ ((((W.setCell ⟨gN, 0, none⟩ xA).setCell ⟨gN, 1, none⟩ xB).setCell ⟨gN, 2, none⟩ xC).setCell ⟨gN, 3, none⟩ xD).cell? ⟨w.heap.size, 2, none⟩ = some (.string t) ∧ ((((W.setCell ⟨gN, 0, none⟩ xA).setCell ⟨gN, 1, none⟩ xB).setCell ⟨gN, 2, none⟩ xC).setCell ⟨gN, 3, none⟩ xD).cell? ⟨w.heap.size, 3, none⟩ = some (.int .i64 e))) := box (fun W gN xA xB xC xD h l => ⟨set4_below h.1 (show w.heap.size ≤ gN by have := l; omega) _ _ _ _, (setCell_other (by have := l; omega)).trans ((setCell_other (by have := l; omega)).trans ((setCell_other (by have := l; omega)).trans ((setCell_other (by have := l; omega)).trans h.2.1))), cell7 ((setCell_other (by have := l; omega)).trans ((setCell_other (by have := l; omega)).trans ((setCell_other (by have := l; omega)).trans ((setCell_other (by have := l; omega)).trans h.2.1)))) 0 _ rfl, cell7 ((setCell_other (by have := l; omega)).trans ((setCell_other (by have := l; omega)).trans ((setCell_other (by have := l; omega)).trans ((setCell_other (by have := l; omega)).trans h.2.1)))) 1 _ rfl, cell7 ((setCell_other (by have := l; omega)).trans ((setCell_other (by have := l; omega)).trans ((setCell_other (by have := l; omega)).trans ((setCell_other (by have := l; omega)).trans h.2.1)))) 2 _ rfl, cell7 ((setCell_other (by have := l; omega)).trans ((setCell_other (by have := l; omega)).trans ((setCell_other (by have := l; omega)).trans ((setCell_other (by have := l; omega)).trans h.2.1)))) 3 _ rfl⟩)
  have s0 : Below w.heap.size w (w2).drew ∧ (w2).drew.heap[w.heap.size]? = some (Obj.cells #[.bool b, .string s, .string t, .int .i64 e] 50) ∧ (w2).drew.cell? ⟨w.heap.size, 0, none⟩ = some (.bool b) ∧ (w2).drew.cell? ⟨w.heap.size, 1, none⟩ = some (.string s) ∧ (w2).drew.cell? ⟨w.heap.size, 2, none⟩ = some (.string t) ∧ (w2).drew.cell? ⟨w.heap.size, 3, none⟩ = some (.int .i64 e) := ⟨B2.drew, Rx_2, cell7 (Rx_2) 0 _ rfl, cell7 (Rx_2) 1 _ rfl, cell7 (Rx_2) 2 _ rfl, cell7 (Rx_2) 3 _ rfl⟩
  clear B2 Rx_2 cx_2_0 cx_2_1 cx_2_2 cx_2_3
  go_wp2_with fail
  apply cut7
  · intro key0
    have key := box key0
    clear key0
    go_region_held3 (fun W => Below w.heap.size w W ∧ W.heap[w.heap.size]? = some (Obj.cells #[.bool b, .string s, .string t, .int .i64 e] 50) ∧ W.cell? ⟨w.heap.size, 0, none⟩ = some (.bool b) ∧ W.cell? ⟨w.heap.size, 1, none⟩ = some (.string s) ∧ W.cell? ⟨w.heap.size, 2, none⟩ = some (.string t) ∧ W.cell? ⟨w.heap.size, 3, none⟩ = some (.int .i64 e)) (first | exact s1 | exact s0 | exact sS.out _ _ s1 (bal _ _) | exact sS.out _ _ s0 (bal _ _) | exact sT.out _ _ _ _ _ _ s1 hl)
      (first | (go_at_call 75; (first | refine (KP.out _).mono ?_ | refine (KP.out _).mono ?_); rintro r wq ⟨rfl, bq⟩; (first | (have hg := heap_of bq _ _ _ (heap_alloc_last _ _); have hl := (by first | exact sL.out _ s1 | exact sL.out _ s0)) | have hg := heap_of bq _ _ _ hg | skip); (try simp only [size_dr, size_al] at hg hl); (first | (have hq0 := fz (k := 0) hg; have hq1 := fz (k := 1) hg; have hq2 := fz (k := 2) hg; have hq3 := fz (k := 3) hg; have hc0 := cell7 hg 0 _ rfl; have hc1 := cell7 hg 1 _ rfl; have hc2 := cell7 hg 2 _ rfl; have hc3 := cell7 hg 3 _ rfl) | skip); have s2 := (by first | exact sS.out _ _ s1 bq | exact sS.out _ _ s0 bq | exact sS.out _ _ (sS.out _ _ s1 (bal _ _)) bq | exact sS.out _ _ (sS.out _ _ s0 (bal _ _)) bq); (try clear s1); have s1 := s2; clear s2 bq) | (go_at_call 79; (first | refine (KF.out _).mono ?_ | refine (KF.out _).mono ?_); rintro r wq ⟨rfl, bq⟩; (first | (have hg := heap_of bq _ _ _ (heap_alloc_last _ _); have hl := (by first | exact sL.out _ s1 | exact sL.out _ s0)) | have hg := heap_of bq _ _ _ hg | skip); (try simp only [size_dr, size_al] at hg hl); (first | (have hq0 := fz (k := 0) hg; have hq1 := fz (k := 1) hg; have hq2 := fz (k := 2) hg; have hq3 := fz (k := 3) hg; have hc0 := cell7 hg 0 _ rfl; have hc1 := cell7 hg 1 _ rfl; have hc2 := cell7 hg 2 _ rfl; have hc3 := cell7 hg 3 _ rfl) | skip); have s2 := (by first | exact sS.out _ _ s1 bq | exact sS.out _ _ s0 bq | exact sS.out _ _ (sS.out _ _ s1 (bal _ _)) bq | exact sS.out _ _ (sS.out _ _ s0 (bal _ _)) bq); (try clear s1); have s1 := s2; clear s2 bq) | fail)
    all_goals
      refine gen_abacusref09_tiny_11 (R := fun W gN => (Below w.heap.size w W ∧ W.heap[w.heap.size]? = some (Obj.cells #[.bool b, .string s, .string t, .int .i64 e] 50) ∧ W.cell? ⟨w.heap.size, 0, none⟩ = some (.bool b) ∧ W.cell? ⟨w.heap.size, 1, none⟩ = some (.string s) ∧ W.cell? ⟨w.heap.size, 2, none⟩ = some (.string t) ∧ W.cell? ⟨w.heap.size, 3, none⟩ = some (.int .i64 e)) ∧ W.heap[gN]? = some (Obj.cells #[.string M, .int .i64 A, .int .i64 H, .bool ex] 118) ∧ (w.heap.size < gN)) key.out ?_
      first
        | exact ⟨(sT.out _ _ _ _ _ _ s1 hl), set4_row hg rfl _ _ _ _, hl⟩
        | exact ⟨sS.out _ _ s1 (bal _ _), heap_alloc_last _ _, sL.out _ s1⟩
        | exact ⟨sS.out _ _ s0 (bal _ _), heap_alloc_last _ _, sL.out _ s0⟩
  rintro w3 g3 ⟨s1, Rd_3, l3⟩
  have B3 := And.left s1
  have Rx_3 := s1.2.1
  have H3 := box l3
  clear s0 s1 sS sL sT l3
  obtain ⟨cx_3_0, cx_3_1, cx_3_2, cx_3_3⟩ := cells4s Rx_3
  obtain ⟨cd_3_0, cd_3_1, cd_3_2, cd_3_3⟩ := cells4s Rd_3
  go_wp2_with fail
  refine (KK.out _).mono ?_
  rintro r w4 ⟨rfl, b4⟩
  have B4 : Below w.heap.size w w4 := btr B3 b4
  have Rx_4 := heap_of b4 _ _ _ Rx_3
  have Rd_4 := heap_of b4 _ _ _ Rd_3
  clear b4 B3 Rx_3 cx_3_0 cx_3_1 cx_3_2 cx_3_3 Rd_3 cd_3_0 cd_3_1 cd_3_2 cd_3_3
  obtain ⟨cx_4_0, cx_4_1, cx_4_2, cx_4_3⟩ := cells4s Rx_4
  obtain ⟨cd_4_0, cd_4_1, cd_4_2, cd_4_3⟩ := cells4s Rd_4
  go_wp2_with fail
  refine (KL.out _).mono ?_
  rintro r w5 ⟨rfl, b5⟩
  have B5 : Below w.heap.size w w5 := btr B4 b5
  have Rx_5 := heap_of b5 _ _ _ Rx_4
  have Rd_5 := heap_of b5 _ _ _ Rd_4
  clear b5 B4 Rx_4 cx_4_0 cx_4_1 cx_4_2 cx_4_3 Rd_4 cd_4_0 cd_4_1 cd_4_2 cd_4_3
  obtain ⟨cx_5_0, cx_5_1, cx_5_2, cx_5_3⟩ := cells4s Rx_5
  obtain ⟨cd_5_0, cd_5_1, cd_5_2, cd_5_3⟩ := cells4s Rd_5
  go_wp2_with fail
  refine (KP.out _).mono ?_
  rintro r w6 ⟨rfl, b6⟩
  have B6 : Below w.heap.size w w6 := btr B5 b6
  have Rx_6 := heap_of b6 _ _ _ Rx_5
  have Rd_6 := heap_of b6 _ _ _ Rd_5
  clear b6 B5 Rx_5 cx_5_0 cx_5_1 cx_5_2 cx_5_3 Rd_5 cd_5_0 cd_5_1 cd_5_2 cd_5_3
  obtain ⟨cx_6_0, cx_6_1, cx_6_2, cx_6_3⟩ := cells4s Rx_6
  obtain ⟨cd_6_0, cd_6_1, cd_6_2, cd_6_3⟩ := cells4s Rd_6
  go_wp2
  go_ret
  exact ⟨rfl, B6⟩
set_option maxRecDepth 100000 in
set_option maxHeartbeats 4000000 in
theorem rf_del_over (f m : Int) (b : Bool) (s t : ByteArray) (e : Int) (rt : Bool) (T E P I A0 A1 A H : Int) (M rs : ByteArray) (ex : Bool) (rb : Bool) (ru rv : ByteArray) (re me : Int) (u v : Nat) (ok : Bool) (w : World)
    (KT : Box (∀ w, Calls Tryz.prog 74 #[.agg #[.bool b, .string s, .string t, .int .i64 e], .bool rt] w fun r w' => r = .returned (.int .i64 T) ∧ Below w.heap.size w w'))
    (KP : Box (∀ w, Calls Tryz.prog 75 #[.int .u8 f] w fun r w' => r = .returned (.int .i64 P) ∧ Below w.heap.size w w'))
    (KE : Box (∀ w, Calls Tryz.prog 76 #[.int .u8 f] w fun r w' => r = .returned (.int .i64 E) ∧ Below w.heap.size w w'))
    (KO : Box (∀ w, Calls Tryz.prog 77 #[.int .u8 f, .int .u8 m, .bool b] w fun r w' => r = .returned (.agg #[.int .u64 (u : Nat), .int .u64 (v : Nat)]) ∧ Below w.heap.size w w'))
    (h1 : decide (E < T) = true)
    : Calls Tryz.prog 40 #[.int .u8 f, .int .u8 m, .agg #[.bool b, .string s, .string t, .int .i64 e], .bool rt] w fun r w' => r = .returned (.tuple #[.agg #[.int .u64 (u : Nat), .int .u64 (v : Nat)], .int .u8 5]) ∧ Below w.heap.size w w' := by
  obtain ⟨Rx_0, Rz_0, B0⟩ := opn2 w (Obj.cells #[.bool b, .string s, .string t, .int .i64 e] 50) (Obj.cells #[.int .u64 0, .int .u64 0] 27)
  go_enter Tryz.func40, Tryz.ntmps40
  go_wp2_with fail
  refine (KT.out _).mono ?_
  rintro r w1 ⟨rfl, b1⟩
  have B1 : Below w.heap.size w w1 := btr B0 b1
  have Rx_1 := heap_of b1 _ _ _ Rx_0
  have Rz_1 := heap_of b1 _ _ _ Rz_0
  clear b1 B0 Rx_0 Rz_0
  obtain ⟨cx_1_0, cx_1_1, cx_1_2, cx_1_3⟩ := cells4s Rx_1
  obtain ⟨cz_1_0, cz_1_1⟩ := cells2s Rz_1
  go_wp2_with fail
  refine (KP.out _).mono ?_
  rintro r w2 ⟨rfl, b2⟩
  have B2 : Below w.heap.size w w2 := btr B1 b2
  have Rx_2 := heap_of b2 _ _ _ Rx_1
  have Rz_2 := heap_of b2 _ _ _ Rz_1
  clear b2 B1 Rx_1 cx_1_0 cx_1_1 cx_1_2 cx_1_3 Rz_1 cz_1_0 cz_1_1
  obtain ⟨cx_2_0, cx_2_1, cx_2_2, cx_2_3⟩ := cells4s Rx_2
  obtain ⟨cz_2_0, cz_2_1⟩ := cells2s Rz_2
  go_wp2_with fail
  refine (KE.out _).mono ?_
  rintro r w3 ⟨rfl, b3⟩
  have B3 : Below w.heap.size w w3 := btr B2 b3
  have Rx_3 := heap_of b3 _ _ _ Rx_2
  have Rz_3 := heap_of b3 _ _ _ Rz_2
  clear b3 B2 Rx_2 cx_2_0 cx_2_1 cx_2_2 cx_2_3 Rz_2 cz_2_0 cz_2_1
  obtain ⟨cx_3_0, cx_3_1, cx_3_2, cx_3_3⟩ := cells4s Rx_3
  obtain ⟨cz_3_0, cz_3_1⟩ := cells2s Rz_3
  go_wp2_with fail
  refine (KO.out _).mono ?_
  rintro r w4 ⟨rfl, b4⟩
  have B4 : Below w.heap.size w w4 := btr B3 b4
  have Rx_4 := heap_of b4 _ _ _ Rx_3
  have Rz_4 := heap_of b4 _ _ _ Rz_3
  clear b4 B3 Rx_3 cx_3_0 cx_3_1 cx_3_2 cx_3_3 Rz_3 cz_3_0 cz_3_1
  obtain ⟨cx_4_0, cx_4_1, cx_4_2, cx_4_3⟩ := cells4s Rx_4
  obtain ⟨cz_4_0, cz_4_1⟩ := cells2s Rz_4
  have q0 := fz (k := 0) Rz_4
  have q1 := fz (k := 1) Rz_4
  obtain ⟨E0, E1⟩ := set2_cells Rz_4 (.int .u64 (u : Nat)) (.int .u64 (v : Nat))
  go_wp2
  exact bodyPost_ret (v := .tuple #[.agg #[.int .u64 (u : Nat), .int .u64 (v : Nat)], .int .u8 5]) (by simp [results, Tryz.results40, go_sem, E0, E1]) rfl ⟨rfl, set2_below B4 (by first | exact Nat.le_refl _ | omega | (skip; omega)) _ _⟩
set_option maxRecDepth 100000 in
set_option maxHeartbeats 16000000 in
theorem rf_deliver_a (f m : Int) (b : Bool) (s t : ByteArray) (e : Int) (rt : Bool) (T E P I A0 A1 A H fl : Int) (M rs : ByteArray) (ex : Bool) (rb : Bool) (ru rv : ByteArray) (re me : Int) (u v i j : Nat) (ok nul o : Bool) (w : World)
    (KT : Box (∀ w, Calls Tryz.prog 74 #[.agg #[.bool b, .string s, .string t, .int .i64 e], .bool rt] w fun r w' => r = .returned (.int .i64 T) ∧ Below w.heap.size w w'))
    (KP : Box (∀ w, Calls Tryz.prog 75 #[.int .u8 f] w fun r w' => r = .returned (.int .i64 P) ∧ Below w.heap.size w w'))
    (KE : Box (∀ w, Calls Tryz.prog 76 #[.int .u8 f] w fun r w' => r = .returned (.int .i64 E) ∧ Below w.heap.size w w'))
    (KI : Box (∀ w, Calls Tryz.prog 78 #[.int .u8 f] w fun r w' => r = .returned (.int .i64 I) ∧ Below w.heap.size w w'))
    (KF : Box (∀ w, Calls Tryz.prog 79 #[.agg #[.bool b, .string s, .string t, .int .i64 e], .bool rt, .int .i64 A] w fun r w' => r = .returned (.agg #[.string M, .int .i64 A, .int .i64 H, .bool ex]) ∧ Below w.heap.size w w'))
    (KK : Box (∀ w, Calls Tryz.prog 80 #[.int .u8 m, .bool b, .agg #[.string M, .int .i64 A, .int .i64 H, .bool ex]] w fun r w' => r = .returned (.string rs) ∧ Below w.heap.size w w'))
    (KM : Box (∀ w, Calls Tryz.prog 13 #[.bool b, .string rs, .string ⟨#[1]⟩, .int .i64 A] w fun r w' => r = .returned (.tuple #[.agg #[.bool rb, .string ru, .string rv, .int .i64 re], .int .i64 me]) ∧ Below w.heap.size w w'))
    (KZ : Box (nul = true → ∀ w, Calls Tryz.prog 81 #[.int .u8 f, .bool b] w fun r w' => r = .returned (.agg #[.int .u64 (u : Nat), .int .u64 (v : Nat)]) ∧ Below w.heap.size w w'))
    (KB : Box (nul = false → ∀ w, Calls Tryz.prog 82 #[.int .u8 f, .agg #[.bool rb, .string ru, .string rv, .int .i64 re]] w fun r w' => r = .returned (.tuple #[.agg #[.int .u64 (i : Nat), .int .u64 (j : Nat)], .bool ok]) ∧ Below w.heap.size w w'))
    (KO : Box (ok = false → ∀ w, Calls Tryz.prog 77 #[.int .u8 f, .int .u8 m, .bool b] w fun r w' => r = .returned (.agg #[.int .u64 (u : Nat), .int .u64 (v : Nat)]) ∧ Below w.heap.size w w'))
    (hij : ok = true → i = u ∧ j = v)
    (KN : Box (∀ w, Calls Tryz.prog 83 #[.int .u8 f, .int .u8 m, .agg #[.bool b, .string s, .string t, .int .i64 e], .bool rt] w fun r w' => r = .returned (.bool o) ∧ Below w.heap.size w w'))
    (h1 : decide (E < T) = false) (hI : decide (T < I) = true) (h2 : IntKind.i64.wrap (A0 - P) = A1) (h3 : IntKind.i64.wrap (A1 + 1) = A) (hA0 : A0 = I)
    (hn : (ru.toList == []) = nul) (hfl : (if nul = true then (3 : Int) else if ok = true then (if ex = true then 0 else if o = true then 3 else 1) else 5) = fl)
    : Calls Tryz.prog 40 #[.int .u8 f, .int .u8 m, .agg #[.bool b, .string s, .string t, .int .i64 e], .bool rt] w fun r w' => r = .returned (.tuple #[.agg #[.int .u64 (u : Nat), .int .u64 (v : Nat)], .int .u8 fl]) ∧ Below w.heap.size w w' := by
  subst hA0
  have HFL := box hfl
  have HIJ := box hij
  clear hfl hij
  obtain ⟨Rx_0, Rz_0, B0⟩ := opn2 w (Obj.cells #[.bool b, .string s, .string t, .int .i64 e] 50) (Obj.cells #[.int .u64 0, .int .u64 0] 27)
  go_enter Tryz.func40, Tryz.ntmps40
  go_wp2_with fail
  refine (KT.out _).mono ?_
  rintro r w1 ⟨rfl, b1⟩
  have B1 : Below w.heap.size w w1 := btr B0 b1
  have Rx_1 := heap_of b1 _ _ _ Rx_0
  have Rz_1 := heap_of b1 _ _ _ Rz_0
  clear b1 B0 Rx_0 Rz_0
  obtain ⟨cx_1_0, cx_1_1, cx_1_2, cx_1_3⟩ := cells4s Rx_1
  obtain ⟨cz_1_0, cz_1_1⟩ := cells2s Rz_1
  go_wp2_with fail
  refine (KP.out _).mono ?_
  rintro r w2 ⟨rfl, b2⟩
  have B2 : Below w.heap.size w w2 := btr B1 b2
  have Rx_2 := heap_of b2 _ _ _ Rx_1
  have Rz_2 := heap_of b2 _ _ _ Rz_1
  clear b2 B1 Rx_1 cx_1_0 cx_1_1 cx_1_2 cx_1_3 Rz_1 cz_1_0 cz_1_1
  obtain ⟨cx_2_0, cx_2_1, cx_2_2, cx_2_3⟩ := cells4s Rx_2
  obtain ⟨cz_2_0, cz_2_1⟩ := cells2s Rz_2
  go_wp2_with fail
  refine (KE.out _).mono ?_
  rintro r w3 ⟨rfl, b3⟩
  have B3 : Below w.heap.size w w3 := btr B2 b3
  have Rx_3 := heap_of b3 _ _ _ Rx_2
  have Rz_3 := heap_of b3 _ _ _ Rz_2
  clear b3 B2 Rx_2 cx_2_0 cx_2_1 cx_2_2 cx_2_3 Rz_2 cz_2_0 cz_2_1
  obtain ⟨cx_3_0, cx_3_1, cx_3_2, cx_3_3⟩ := cells4s Rx_3
  obtain ⟨cz_3_0, cz_3_1⟩ := cells2s Rz_3
  go_wp2_with fail
  refine (KI.out _).mono ?_
  rintro r w4 ⟨rfl, b4⟩
  have B4 : Below w.heap.size w w4 := btr B3 b4
  have Rx_4 := heap_of b4 _ _ _ Rx_3
  have Rz_4 := heap_of b4 _ _ _ Rz_3
  clear b4 B3 Rx_3 cx_3_0 cx_3_1 cx_3_2 cx_3_3 Rz_3 cz_3_0 cz_3_1
  obtain ⟨cx_4_0, cx_4_1, cx_4_2, cx_4_3⟩ := cells4s Rx_4
  obtain ⟨cz_4_0, cz_4_1⟩ := cells2s Rz_4
  go_wp2_with fail
  refine (KI.out _).mono ?_
  rintro r w5 ⟨rfl, b5⟩
  have B5 : Below w.heap.size w w5 := btr B4 b5
  have Rx_5 := heap_of b5 _ _ _ Rx_4
  have Rz_5 := heap_of b5 _ _ _ Rz_4
  clear b5 B4 Rx_4 cx_4_0 cx_4_1 cx_4_2 cx_4_3 Rz_4 cz_4_0 cz_4_1
  obtain ⟨cx_5_0, cx_5_1, cx_5_2, cx_5_3⟩ := cells4s Rx_5
  obtain ⟨cz_5_0, cz_5_1⟩ := cells2s Rz_5
  go_wp2_with fail
  refine (KF.out _).mono ?_
  rintro r w6 ⟨rfl, b6⟩
  have B6 : Below w.heap.size w w6 := btr B5 b6
  have Rx_6 := heap_of b6 _ _ _ Rx_5
  have Rz_6 := heap_of b6 _ _ _ Rz_5
  clear b6 B5 Rx_5 cx_5_0 cx_5_1 cx_5_2 cx_5_3 Rz_5 cz_5_0 cz_5_1
  obtain ⟨cx_6_0, cx_6_1, cx_6_2, cx_6_3⟩ := cells4s Rx_6
  obtain ⟨cz_6_0, cz_6_1⟩ := cells2s Rz_6
  have S7 := box B6.size
  have Lx_7 : Box (w.heap.size < w6.heap.size) := box (Array.getElem?_eq_some_iff.1 Rx_6).1
  have Lz_7 : Box (w.heap.size + 1 < w6.heap.size) := box (Array.getElem?_eq_some_iff.1 Rz_6).1
  have Rd_7 := heap_alloc_last w6 (Obj.cells #[.string M, .int .i64 A, .int .i64 H, .bool ex] 118)
  have B7 := btr B6 (bal w6 (Obj.cells #[.string M, .int .i64 A, .int .i64 H, .bool ex] 118))
  have Rx_7 := heap_of (bal w6 (Obj.cells #[.string M, .int .i64 A, .int .i64 H, .bool ex] 118)) _ _ _ Rx_6
  have Rz_7 := heap_of (bal w6 (Obj.cells #[.string M, .int .i64 A, .int .i64 H, .bool ex] 118)) _ _ _ Rz_6
  clear B6 Rx_6 cx_6_0 cx_6_1 cx_6_2 cx_6_3 Rz_6 cz_6_0 cz_6_1
  obtain ⟨cx_7_0, cx_7_1, cx_7_2, cx_7_3⟩ := cells4s Rx_7
  obtain ⟨cz_7_0, cz_7_1⟩ := cells2s Rz_7
  obtain ⟨cd_7_0, cd_7_1, cd_7_2, cd_7_3⟩ := cells4s Rd_7
  have sS : Box (∀ W W1 : World, (Below w.heap.size w W ∧ W.heap[w.heap.size]? = some (Obj.cells #[.bool b, .string s, .string t, .int .i64 e] 50) ∧ W.heap[w.heap.size + 1]? = some (Obj.cells #[.int .u64 0, .int .u64 0] 27) ∧ W.heap[w6.heap.size]? = some (Obj.cells #[.string M, .int .i64 A, .int .i64 H, .bool ex] 118) ∧ W.cell? ⟨w.heap.size, 0, none⟩ = some (.bool b) ∧ W.cell? ⟨w.heap.size, 1, none⟩ = some (.string s) ∧ W.cell? ⟨w.heap.size, 2, none⟩ = some (.string t) ∧ W.cell? ⟨w.heap.size, 3, none⟩ = some (.int .i64 e) ∧ W.cell? ⟨w.heap.size + 1, 0, none⟩ = some (.int .u64 0) ∧ W.cell? ⟨w.heap.size + 1, 1, none⟩ = some (.int .u64 0) ∧ W.cell? ⟨w6.heap.size, 0, none⟩ = some (.string M) ∧ W.cell? ⟨w6.heap.size, 1, none⟩ = some (.int .i64 A) ∧ W.cell? ⟨w6.heap.size, 2, none⟩ = some (.int .i64 H) ∧ W.cell? ⟨w6.heap.size, 3, none⟩ = some (.bool ex)) → Below W.heap.size W W1 → (Below w.heap.size w W1 ∧ W1.heap[w.heap.size]? = some (Obj.cells #[.bool b, .string s, .string t, .int .i64 e] 50) ∧ W1.heap[w.heap.size + 1]? = some (Obj.cells #[.int .u64 0, .int .u64 0] 27) ∧ W1.heap[w6.heap.size]? = some (Obj.cells #[.string M, .int .i64 A, .int .i64 H, .bool ex] 118) ∧ W1.cell? ⟨w.heap.size, 0, none⟩ = some (.bool b) ∧ W1.cell? ⟨w.heap.size, 1, none⟩ = some (.string s) ∧ W1.cell? ⟨w.heap.size, 2, none⟩ = some (.string t) ∧ W1.cell? ⟨w.heap.size, 3, none⟩ = some (.int .i64 e) ∧ W1.cell? ⟨w.heap.size + 1, 0, none⟩ = some (.int .u64 0) ∧ W1.cell? ⟨w.heap.size + 1, 1, none⟩ = some (.int .u64 0) ∧ W1.cell? ⟨w6.heap.size, 0, none⟩ = some (.string M) ∧ W1.cell? ⟨w6.heap.size, 1, none⟩ = some (.int .i64 A) ∧ W1.cell? ⟨w6.heap.size, 2, none⟩ = some (.int .i64 H) ∧ W1.cell? ⟨w6.heap.size, 3, none⟩ = some (.bool ex))) := box (fun W W1 h b => ⟨btr h.1 b, heap_of b _ _ _ h.2.1, heap_of b _ _ _ h.2.2.1, heap_of b _ _ _ h.2.2.2.1, cell7 (heap_of b _ _ _ h.2.1) 0 _ rfl, cell7 (heap_of b _ _ _ h.2.1) 1 _ rfl, cell7 (heap_of b _ _ _ h.2.1) 2 _ rfl, cell7 (heap_of b _ _ _ h.2.1) 3 _ rfl, cell7 (heap_of b _ _ _ h.2.2.1) 0 _ rfl, cell7 (heap_of b _ _ _ h.2.2.1) 1 _ rfl, cell7 (heap_of b _ _ _ h.2.2.2.1) 0 _ rfl, cell7 (heap_of b _ _ _ h.2.2.2.1) 1 _ rfl, cell7 (heap_of b _ _ _ h.2.2.2.1) 2 _ rfl, cell7 (heap_of b _ _ _ h.2.2.2.1) 3 _ rfl⟩)
  have sL : Box (∀ W : World, (Below w.heap.size w W ∧ W.heap[w.heap.size]? = some (Obj.cells #[.bool b, .string s, .string t, .int .i64 e] 50) ∧ W.heap[w.heap.size + 1]? = some (Obj.cells #[.int .u64 0, .int .u64 0] 27) ∧ W.heap[w6.heap.size]? = some (Obj.cells #[.string M, .int .i64 A, .int .i64 H, .bool ex] 118) ∧ W.cell? ⟨w.heap.size, 0, none⟩ = some (.bool b) ∧ W.cell? ⟨w.heap.size, 1, none⟩ = some (.string s) ∧ W.cell? ⟨w.heap.size, 2, none⟩ = some (.string t) ∧ W.cell? ⟨w.heap.size, 3, none⟩ = some (.int .i64 e) ∧ W.cell? ⟨w.heap.size + 1, 0, none⟩ = some (.int .u64 0) ∧ W.cell? ⟨w.heap.size + 1, 1, none⟩ = some (.int .u64 0) ∧ W.cell? ⟨w6.heap.size, 0, none⟩ = some (.string M) ∧ W.cell? ⟨w6.heap.size, 1, none⟩ = some (.int .i64 A) ∧ W.cell? ⟨w6.heap.size, 2, none⟩ = some (.int .i64 H) ∧ W.cell? ⟨w6.heap.size, 3, none⟩ = some (.bool ex)) → (w.heap.size < W.heap.size ∧ w.heap.size + 1 < W.heap.size ∧ w6.heap.size < W.heap.size)) := box (fun W h => ⟨(Array.getElem?_eq_some_iff.1 h.2.1).1, (Array.getElem?_eq_some_iff.1 h.2.2.1).1, (Array.getElem?_eq_some_iff.1 h.2.2.2.1).1⟩)
  have sT : Box (∀ (W : World) (gN : Nat) (xA xB xC xD : Value), (Below w.heap.size w W ∧ W.heap[w.heap.size]? = some (Obj.cells #[.bool b, .string s, .string t, .int .i64 e] 50) ∧ W.heap[w.heap.size + 1]? = some (Obj.cells #[.int .u64 0, .int .u64 0] 27) ∧ W.heap[w6.heap.size]? = some (Obj.cells #[.string M, .int .i64 A, .int .i64 H, .bool ex] 118) ∧ W.cell? ⟨w.heap.size, 0, none⟩ = some (.bool b) ∧ W.cell? ⟨w.heap.size, 1, none⟩ = some (.string s) ∧ W.cell? ⟨w.heap.size, 2, none⟩ = some (.string t) ∧ W.cell? ⟨w.heap.size, 3, none⟩ = some (.int .i64 e) ∧ W.cell? ⟨w.heap.size + 1, 0, none⟩ = some (.int .u64 0) ∧ W.cell? ⟨w.heap.size + 1, 1, none⟩ = some (.int .u64 0) ∧ W.cell? ⟨w6.heap.size, 0, none⟩ = some (.string M) ∧ W.cell? ⟨w6.heap.size, 1, none⟩ = some (.int .i64 A) ∧ W.cell? ⟨w6.heap.size, 2, none⟩ = some (.int .i64 H) ∧ W.cell? ⟨w6.heap.size, 3, none⟩ = some (.bool ex)) → (w.heap.size < gN ∧ w.heap.size + 1 < gN ∧ w6.heap.size < gN) → (Below w.heap.size w ((((W.setCell ⟨gN, 0, none⟩ xA).setCell ⟨gN, 1, none⟩ xB).setCell ⟨gN, 2, none⟩ xC).setCell ⟨gN, 3, none⟩ xD) ∧ ((((W.setCell ⟨gN, 0, none⟩ xA).setCell ⟨gN, 1, none⟩ xB).setCell ⟨gN, 2, none⟩ xC).setCell ⟨gN, 3, none⟩ xD).heap[w.heap.size]? = some (Obj.cells #[.bool b, .string s, .string t, .int .i64 e] 50) ∧ ((((W.setCell ⟨gN, 0, none⟩ xA).setCell ⟨gN, 1, none⟩ xB).setCell ⟨gN, 2, none⟩ xC).setCell ⟨gN, 3, none⟩ xD).heap[w.heap.size + 1]? = some (Obj.cells #[.int .u64 0, .int .u64 0] 27) ∧ ((((W.setCell ⟨gN, 0, none⟩ xA).setCell ⟨gN, 1, none⟩ xB).setCell ⟨gN, 2, none⟩ xC).setCell ⟨gN, 3, none⟩ xD).heap[w6.heap.size]? = some (Obj.cells #[.string M, .int .i64 A, .int .i64 H, .bool ex] 118) ∧ ((((W.setCell ⟨gN, 0, none⟩ xA).setCell ⟨gN, 1, none⟩ xB).setCell ⟨gN, 2, none⟩ xC).setCell ⟨gN, 3, none⟩ xD).cell? ⟨w.heap.size, 0, none⟩ = some (.bool b) ∧ ((((W.setCell ⟨gN, 0, none⟩ xA).setCell ⟨gN, 1, none⟩ xB).setCell ⟨gN, 2, none⟩ xC).setCell ⟨gN, 3, none⟩ xD).cell? ⟨w.heap.size, 1, none⟩ = some (.string s) ∧ ((((W.setCell ⟨gN, 0, none⟩ xA).setCell ⟨gN, 1, none⟩ xB).setCell ⟨gN, 2, none⟩ xC).setCell ⟨gN, 3, none⟩ xD).cell? ⟨w.heap.size, 2, none⟩ = some (.string t) ∧ ((((W.setCell ⟨gN, 0, none⟩ xA).setCell ⟨gN, 1, none⟩ xB).setCell ⟨gN, 2, none⟩ xC).setCell ⟨gN, 3, none⟩ xD).cell? ⟨w.heap.size, 3, none⟩ = some (.int .i64 e) ∧ ((((W.setCell ⟨gN, 0, none⟩ xA).setCell ⟨gN, 1, none⟩ xB).setCell ⟨gN, 2, none⟩ xC).setCell ⟨gN, 3, none⟩ xD).cell? ⟨w.heap.size + 1, 0, none⟩ = some (.int .u64 0) ∧ ((((W.setCell ⟨gN, 0, none⟩ xA).setCell ⟨gN, 1, none⟩ xB).setCell ⟨gN, 2, none⟩ xC).setCell ⟨gN, 3, none⟩ xD).cell? ⟨w.heap.size + 1, 1, none⟩ = some (.int .u64 0) ∧ ((((W.setCell ⟨gN, 0, none⟩ xA).setCell ⟨gN, 1, none⟩ xB).setCell ⟨gN, 2, none⟩ xC).setCell ⟨gN, 3, none⟩ xD).cell? ⟨w6.heap.size, 0, none⟩ = some (.string M) ∧ ((((W.setCell ⟨gN, 0, none⟩ xA).setCell ⟨gN, 1, none⟩ xB).setCell ⟨gN, 2, none⟩ xC).setCell ⟨gN, 3, none⟩ xD).cell? ⟨w6.heap.size, 1, none⟩ = some (.int .i64 A) ∧ ((((W.setCell ⟨gN, 0, none⟩ xA).setCell ⟨gN, 1, none⟩ xB).setCell ⟨gN, 2, none⟩ xC).setCell ⟨gN, 3, none⟩ xD).cell? ⟨w6.heap.size, 2, none⟩ = some (.int .i64 H) ∧ ((((W.setCell ⟨gN, 0, none⟩ xA).setCell ⟨gN, 1, none⟩ xB).setCell ⟨gN, 2, none⟩ xC).setCell ⟨gN, 3, none⟩ xD).cell? ⟨w6.heap.size, 3, none⟩ = some (.bool ex))) := box (fun W gN xA xB xC xD h l => ⟨set4_below h.1 (show w.heap.size ≤ gN by have := l.1; omega) _ _ _ _, (setCell_other (by have := l.1; omega)).trans ((setCell_other (by have := l.1; omega)).trans ((setCell_other (by have := l.1; omega)).trans ((setCell_other (by have := l.1; omega)).trans h.2.1))), (setCell_other (by have := l.2.1; omega)).trans ((setCell_other (by have := l.2.1; omega)).trans ((setCell_other (by have := l.2.1; omega)).trans ((setCell_other (by have := l.2.1; omega)).trans h.2.2.1))), (setCell_other (by have := l.2.2; omega)).trans ((setCell_other (by have := l.2.2; omega)).trans ((setCell_other (by have := l.2.2; omega)).trans ((setCell_other (by have := l.2.2; omega)).trans h.2.2.2.1))), cell7 ((setCell_other (by have := l.1; omega)).trans ((setCell_other (by have := l.1; omega)).trans ((setCell_other (by have := l.1; omega)).trans ((setCell_other (by have := l.1; omega)).trans h.2.1)))) 0 _ rfl, cell7 ((setCell_other (by have := l.1; omega)).trans ((setCell_other (by have := l.1; omega)).trans ((setCell_other (by have := l.1; omega)).trans ((setCell_other (by have := l.1; omega)).trans h.2.1)))) 1 _ rfl, cell7 ((setCell_other (by have := l.1; omega)).trans ((setCell_other (by have := l.1; omega)).trans ((setCell_other (by have := l.1; omega)).trans ((setCell_other (by have := l.1; omega)).trans h.2.1)))) 2 _ rfl, cell7 ((setCell_other (by have := l.1; omega)).trans ((setCell_other (by have := l.1; omega)).trans ((setCell_other (by have := l.1; omega)).trans ((setCell_other (by have := l.1; omega)).trans h.2.1)))) 3 _ rfl, cell7 ((setCell_other (by have := l.2.1; omega)).trans ((setCell_other (by have := l.2.1; omega)).trans ((setCell_other (by have := l.2.1; omega)).trans ((setCell_other (by have := l.2.1; omega)).trans h.2.2.1)))) 0 _ rfl, cell7 ((setCell_other (by have := l.2.1; omega)).trans ((setCell_other (by have := l.2.1; omega)).trans ((setCell_other (by have := l.2.1; omega)).trans ((setCell_other (by have := l.2.1; omega)).trans h.2.2.1)))) 1 _ rfl, cell7 ((setCell_other (by have := l.2.2; omega)).trans ((setCell_other (by have := l.2.2; omega)).trans ((setCell_other (by have := l.2.2; omega)).trans ((setCell_other (by have := l.2.2; omega)).trans h.2.2.2.1)))) 0 _ rfl, cell7 ((setCell_other (by have := l.2.2; omega)).trans ((setCell_other (by have := l.2.2; omega)).trans ((setCell_other (by have := l.2.2; omega)).trans ((setCell_other (by have := l.2.2; omega)).trans h.2.2.2.1)))) 1 _ rfl, cell7 ((setCell_other (by have := l.2.2; omega)).trans ((setCell_other (by have := l.2.2; omega)).trans ((setCell_other (by have := l.2.2; omega)).trans ((setCell_other (by have := l.2.2; omega)).trans h.2.2.2.1)))) 2 _ rfl, cell7 ((setCell_other (by have := l.2.2; omega)).trans ((setCell_other (by have := l.2.2; omega)).trans ((setCell_other (by have := l.2.2; omega)).trans ((setCell_other (by have := l.2.2; omega)).trans h.2.2.2.1)))) 3 _ rfl⟩)
  have s0 : Below w.heap.size w ((w6.alloc (Obj.cells #[.string M, .int .i64 A, .int .i64 H, .bool ex] 118))).drew ∧ ((w6.alloc (Obj.cells #[.string M, .int .i64 A, .int .i64 H, .bool ex] 118))).drew.heap[w.heap.size]? = some (Obj.cells #[.bool b, .string s, .string t, .int .i64 e] 50) ∧ ((w6.alloc (Obj.cells #[.string M, .int .i64 A, .int .i64 H, .bool ex] 118))).drew.heap[w.heap.size + 1]? = some (Obj.cells #[.int .u64 0, .int .u64 0] 27) ∧ ((w6.alloc (Obj.cells #[.string M, .int .i64 A, .int .i64 H, .bool ex] 118))).drew.heap[w6.heap.size]? = some (Obj.cells #[.string M, .int .i64 A, .int .i64 H, .bool ex] 118) ∧ ((w6.alloc (Obj.cells #[.string M, .int .i64 A, .int .i64 H, .bool ex] 118))).drew.cell? ⟨w.heap.size, 0, none⟩ = some (.bool b) ∧ ((w6.alloc (Obj.cells #[.string M, .int .i64 A, .int .i64 H, .bool ex] 118))).drew.cell? ⟨w.heap.size, 1, none⟩ = some (.string s) ∧ ((w6.alloc (Obj.cells #[.string M, .int .i64 A, .int .i64 H, .bool ex] 118))).drew.cell? ⟨w.heap.size, 2, none⟩ = some (.string t) ∧ ((w6.alloc (Obj.cells #[.string M, .int .i64 A, .int .i64 H, .bool ex] 118))).drew.cell? ⟨w.heap.size, 3, none⟩ = some (.int .i64 e) ∧ ((w6.alloc (Obj.cells #[.string M, .int .i64 A, .int .i64 H, .bool ex] 118))).drew.cell? ⟨w.heap.size + 1, 0, none⟩ = some (.int .u64 0) ∧ ((w6.alloc (Obj.cells #[.string M, .int .i64 A, .int .i64 H, .bool ex] 118))).drew.cell? ⟨w.heap.size + 1, 1, none⟩ = some (.int .u64 0) ∧ ((w6.alloc (Obj.cells #[.string M, .int .i64 A, .int .i64 H, .bool ex] 118))).drew.cell? ⟨w6.heap.size, 0, none⟩ = some (.string M) ∧ ((w6.alloc (Obj.cells #[.string M, .int .i64 A, .int .i64 H, .bool ex] 118))).drew.cell? ⟨w6.heap.size, 1, none⟩ = some (.int .i64 A) ∧ ((w6.alloc (Obj.cells #[.string M, .int .i64 A, .int .i64 H, .bool ex] 118))).drew.cell? ⟨w6.heap.size, 2, none⟩ = some (.int .i64 H) ∧ ((w6.alloc (Obj.cells #[.string M, .int .i64 A, .int .i64 H, .bool ex] 118))).drew.cell? ⟨w6.heap.size, 3, none⟩ = some (.bool ex) := ⟨B7.drew, Rx_7, Rz_7, Rd_7, cell7 (Rx_7) 0 _ rfl, cell7 (Rx_7) 1 _ rfl, cell7 (Rx_7) 2 _ rfl, cell7 (Rx_7) 3 _ rfl, cell7 (Rz_7) 0 _ rfl, cell7 (Rz_7) 1 _ rfl, cell7 (Rd_7) 0 _ rfl, cell7 (Rd_7) 1 _ rfl, cell7 (Rd_7) 2 _ rfl, cell7 (Rd_7) 3 _ rfl⟩
  clear B7 Rx_7 cx_7_0 cx_7_1 cx_7_2 cx_7_3 Rz_7 cz_7_0 cz_7_1 Rd_7 cd_7_0 cd_7_1 cd_7_2 cd_7_3
  go_wp2_with fail
  apply cut7
  · intro key0
    have key := box key0
    clear key0
    go_region_held3 (fun W => Below w.heap.size w W ∧ W.heap[w.heap.size]? = some (Obj.cells #[.bool b, .string s, .string t, .int .i64 e] 50) ∧ W.heap[w.heap.size + 1]? = some (Obj.cells #[.int .u64 0, .int .u64 0] 27) ∧ W.heap[w6.heap.size]? = some (Obj.cells #[.string M, .int .i64 A, .int .i64 H, .bool ex] 118) ∧ W.cell? ⟨w.heap.size, 0, none⟩ = some (.bool b) ∧ W.cell? ⟨w.heap.size, 1, none⟩ = some (.string s) ∧ W.cell? ⟨w.heap.size, 2, none⟩ = some (.string t) ∧ W.cell? ⟨w.heap.size, 3, none⟩ = some (.int .i64 e) ∧ W.cell? ⟨w.heap.size + 1, 0, none⟩ = some (.int .u64 0) ∧ W.cell? ⟨w.heap.size + 1, 1, none⟩ = some (.int .u64 0) ∧ W.cell? ⟨w6.heap.size, 0, none⟩ = some (.string M) ∧ W.cell? ⟨w6.heap.size, 1, none⟩ = some (.int .i64 A) ∧ W.cell? ⟨w6.heap.size, 2, none⟩ = some (.int .i64 H) ∧ W.cell? ⟨w6.heap.size, 3, none⟩ = some (.bool ex)) (first | exact s1 | exact s0 | exact sS.out _ _ s1 (bal _ _) | exact sS.out _ _ s0 (bal _ _) | exact sT.out _ _ _ _ _ _ s1 hl)
      (first | (go_at_call 80; (first | refine (KK.out _).mono ?_ | refine (KK.out _).mono ?_); rintro r wq ⟨rfl, bq⟩; (first | (have hg := heap_of bq _ _ _ (heap_alloc_last _ _); have hl := (by first | exact sL.out _ s1 | exact sL.out _ s0)) | have hg := heap_of bq _ _ _ hg | skip); (try simp only [size_dr, size_al] at hg hl); (first | (have hq0 := fz (k := 0) hg; have hq1 := fz (k := 1) hg; have hq2 := fz (k := 2) hg; have hq3 := fz (k := 3) hg; have hc0 := cell7 hg 0 _ rfl; have hc1 := cell7 hg 1 _ rfl; have hc2 := cell7 hg 2 _ rfl; have hc3 := cell7 hg 3 _ rfl) | skip); have s2 := (by first | exact sS.out _ _ s1 bq | exact sS.out _ _ s0 bq | exact sS.out _ _ (sS.out _ _ s1 (bal _ _)) bq | exact sS.out _ _ (sS.out _ _ s0 (bal _ _)) bq); (try clear s1); have s1 := s2; clear s2 bq) | (go_at_call 13; (first | refine (KM.out _).mono ?_ | refine (KM.out _).mono ?_); rintro r wq ⟨rfl, bq⟩; (first | (have hg := heap_of bq _ _ _ (heap_alloc_last _ _); have hl := (by first | exact sL.out _ s1 | exact sL.out _ s0)) | have hg := heap_of bq _ _ _ hg | skip); (try simp only [size_dr, size_al] at hg hl); (first | (have hq0 := fz (k := 0) hg; have hq1 := fz (k := 1) hg; have hq2 := fz (k := 2) hg; have hq3 := fz (k := 3) hg; have hc0 := cell7 hg 0 _ rfl; have hc1 := cell7 hg 1 _ rfl; have hc2 := cell7 hg 2 _ rfl; have hc3 := cell7 hg 3 _ rfl) | skip); have s2 := (by first | exact sS.out _ _ s1 bq | exact sS.out _ _ s0 bq | exact sS.out _ _ (sS.out _ _ s1 (bal _ _)) bq | exact sS.out _ _ (sS.out _ _ s0 (bal _ _)) bq); (try clear s1); have s1 := s2; clear s2 bq) | fail)
    all_goals
      refine gen_abacusref09_deliver_14 (R := fun W gN => (Below w.heap.size w W ∧ W.heap[w.heap.size]? = some (Obj.cells #[.bool b, .string s, .string t, .int .i64 e] 50) ∧ W.heap[w.heap.size + 1]? = some (Obj.cells #[.int .u64 0, .int .u64 0] 27) ∧ W.heap[w6.heap.size]? = some (Obj.cells #[.string M, .int .i64 A, .int .i64 H, .bool ex] 118) ∧ W.cell? ⟨w.heap.size, 0, none⟩ = some (.bool b) ∧ W.cell? ⟨w.heap.size, 1, none⟩ = some (.string s) ∧ W.cell? ⟨w.heap.size, 2, none⟩ = some (.string t) ∧ W.cell? ⟨w.heap.size, 3, none⟩ = some (.int .i64 e) ∧ W.cell? ⟨w.heap.size + 1, 0, none⟩ = some (.int .u64 0) ∧ W.cell? ⟨w.heap.size + 1, 1, none⟩ = some (.int .u64 0) ∧ W.cell? ⟨w6.heap.size, 0, none⟩ = some (.string M) ∧ W.cell? ⟨w6.heap.size, 1, none⟩ = some (.int .i64 A) ∧ W.cell? ⟨w6.heap.size, 2, none⟩ = some (.int .i64 H) ∧ W.cell? ⟨w6.heap.size, 3, none⟩ = some (.bool ex)) ∧ W.heap[gN]? = some (Obj.cells #[.bool rb, .string ru, .string rv, .int .i64 re] 50) ∧ (w.heap.size < gN ∧ w.heap.size + 1 < gN ∧ w6.heap.size < gN)) key.out ?_
      first
        | exact ⟨(sT.out _ _ _ _ _ _ s1 hl), set4_row hg rfl _ _ _ _, hl⟩
        | exact ⟨sS.out _ _ s1 (bal _ _), heap_alloc_last _ _, sL.out _ s1⟩
        | exact ⟨sS.out _ _ s0 (bal _ _), heap_alloc_last _ _, sL.out _ s0⟩
  rintro w8 g8 ⟨s1, Rr_8, l8⟩
  have B8 := And.left s1
  have Rx_8 := s1.2.1
  have Rz_8 := s1.2.2.1
  have Rd_8 := s1.2.2.2.1
  have H8 := box l8
  clear s0 s1 sS sL sT l8
  obtain ⟨cx_8_0, cx_8_1, cx_8_2, cx_8_3⟩ := cells4s Rx_8
  obtain ⟨cz_8_0, cz_8_1⟩ := cells2s Rz_8
  obtain ⟨cd_8_0, cd_8_1, cd_8_2, cd_8_3⟩ := cells4s Rd_8
  obtain ⟨cr_8_0, cr_8_1, cr_8_2, cr_8_3⟩ := cells4s Rr_8
  cases nul
  · have K5 := box (KB.out rfl)
    clear KZ KB
    go_wp2_with fail
    refine (K5.out _).mono ?_
    rintro r w9 ⟨rfl, b9⟩
    have B9 : Below w.heap.size w w9 := btr B8 b9
    have Rx_9 := heap_of b9 _ _ _ Rx_8
    have Rz_9 := heap_of b9 _ _ _ Rz_8
    have Rd_9 := heap_of b9 _ _ _ Rd_8
    have Rr_9 := heap_of b9 _ _ _ Rr_8
    clear b9 B8 Rx_8 cx_8_0 cx_8_1 cx_8_2 cx_8_3 Rz_8 cz_8_0 cz_8_1 Rd_8 cd_8_0 cd_8_1 cd_8_2 cd_8_3 Rr_8 cr_8_0 cr_8_1 cr_8_2 cr_8_3
    obtain ⟨cx_9_0, cx_9_1, cx_9_2, cx_9_3⟩ := cells4s Rx_9
    obtain ⟨cz_9_0, cz_9_1⟩ := cells2s Rz_9
    obtain ⟨cd_9_0, cd_9_1, cd_9_2, cd_9_3⟩ := cells4s Rd_9
    obtain ⟨cr_9_0, cr_9_1, cr_9_2, cr_9_3⟩ := cells4s Rr_9
    have S10 := box B9.size
    have Lx_10 : Box (w.heap.size < w9.heap.size) := box (Array.getElem?_eq_some_iff.1 Rx_9).1
    have Lz_10 : Box (w.heap.size + 1 < w9.heap.size) := box (Array.getElem?_eq_some_iff.1 Rz_9).1
    have Ld_10 : Box (w6.heap.size < w9.heap.size) := box (Array.getElem?_eq_some_iff.1 Rd_9).1
    have Lr_10 : Box (g8 < w9.heap.size) := box (Array.getElem?_eq_some_iff.1 Rr_9).1
    have Rb_10 := heap_alloc_last w9 (Obj.cells #[.int .u64 (i : Nat), .int .u64 (j : Nat)] 27)
    have B10 := btr B9 (bal w9 (Obj.cells #[.int .u64 (i : Nat), .int .u64 (j : Nat)] 27))
    have Rx_10 := heap_of (bal w9 (Obj.cells #[.int .u64 (i : Nat), .int .u64 (j : Nat)] 27)) _ _ _ Rx_9
    have Rz_10 := heap_of (bal w9 (Obj.cells #[.int .u64 (i : Nat), .int .u64 (j : Nat)] 27)) _ _ _ Rz_9
    have Rd_10 := heap_of (bal w9 (Obj.cells #[.int .u64 (i : Nat), .int .u64 (j : Nat)] 27)) _ _ _ Rd_9
    have Rr_10 := heap_of (bal w9 (Obj.cells #[.int .u64 (i : Nat), .int .u64 (j : Nat)] 27)) _ _ _ Rr_9
    clear B9 Rx_9 cx_9_0 cx_9_1 cx_9_2 cx_9_3 Rz_9 cz_9_0 cz_9_1 Rd_9 cd_9_0 cd_9_1 cd_9_2 cd_9_3 Rr_9 cr_9_0 cr_9_1 cr_9_2 cr_9_3
    obtain ⟨cx_10_0, cx_10_1, cx_10_2, cx_10_3⟩ := cells4s Rx_10
    obtain ⟨cz_10_0, cz_10_1⟩ := cells2s Rz_10
    obtain ⟨cd_10_0, cd_10_1, cd_10_2, cd_10_3⟩ := cells4s Rd_10
    obtain ⟨cr_10_0, cr_10_1, cr_10_2, cr_10_3⟩ := cells4s Rr_10
    obtain ⟨cb_10_0, cb_10_1⟩ := cells2s Rb_10
    cases ok
    · have K6 := box (KO.out rfl)
      clear KO
      obtain rfl : (5 : Int) = fl := HFL.out
      go_wp2_with fail
      refine (K6.out _).mono ?_
      rintro r w11 ⟨rfl, b11⟩
      have B11 : Below w.heap.size w w11 := btr B10 b11
      have Rx_11 := heap_of b11 _ _ _ Rx_10
      have Rz_11 := heap_of b11 _ _ _ Rz_10
      have Rd_11 := heap_of b11 _ _ _ Rd_10
      have Rr_11 := heap_of b11 _ _ _ Rr_10
      have Rb_11 := heap_of b11 _ _ _ Rb_10
      clear b11 B10 Rx_10 cx_10_0 cx_10_1 cx_10_2 cx_10_3 Rz_10 cz_10_0 cz_10_1 Rd_10 cd_10_0 cd_10_1 cd_10_2 cd_10_3 Rr_10 cr_10_0 cr_10_1 cr_10_2 cr_10_3 Rb_10 cb_10_0 cb_10_1
      obtain ⟨cx_11_0, cx_11_1, cx_11_2, cx_11_3⟩ := cells4s Rx_11
      obtain ⟨cz_11_0, cz_11_1⟩ := cells2s Rz_11
      obtain ⟨cd_11_0, cd_11_1, cd_11_2, cd_11_3⟩ := cells4s Rd_11
      obtain ⟨cr_11_0, cr_11_1, cr_11_2, cr_11_3⟩ := cells4s Rr_11
      obtain ⟨cb_11_0, cb_11_1⟩ := cells2s Rb_11
      have q0 := fz (k := 0) Rz_11
      have q1 := fz (k := 1) Rz_11
      obtain ⟨E0, E1⟩ := set2_cells Rz_11 (.int .u64 (u : Nat)) (.int .u64 (v : Nat))
      go_wp2
      exact bodyPost_ret (v := .tuple #[.agg #[.int .u64 (u : Nat), .int .u64 (v : Nat)], .int .u8 5]) (by simp [results, Tryz.results40, go_sem, E0, E1]) rfl ⟨rfl, set2_below B11 (by first | exact Nat.le_refl _ | omega | (have := S7.out; have := Lx_7.out; have := Lz_7.out; have := H8.out; have := S10.out; have := Lx_10.out; have := Lz_10.out; have := Ld_10.out; have := Lr_10.out; omega)) _ _⟩
    · obtain ⟨rfl, rfl⟩ := HIJ.out rfl
      clear KO
      cases ex
      · cases o
        · obtain rfl : (1 : Int) = fl := HFL.out
          go_wp2_with fail
          refine (KN.out _).mono ?_
          rintro r w11 ⟨rfl, b11⟩
          have B11 : Below w.heap.size w w11 := btr B10 b11
          have Rx_11 := heap_of b11 _ _ _ Rx_10
          have Rz_11 := heap_of b11 _ _ _ Rz_10
          have Rd_11 := heap_of b11 _ _ _ Rd_10
          have Rr_11 := heap_of b11 _ _ _ Rr_10
          have Rb_11 := heap_of b11 _ _ _ Rb_10
          clear b11 B10 Rx_10 cx_10_0 cx_10_1 cx_10_2 cx_10_3 Rz_10 cz_10_0 cz_10_1 Rd_10 cd_10_0 cd_10_1 cd_10_2 cd_10_3 Rr_10 cr_10_0 cr_10_1 cr_10_2 cr_10_3 Rb_10 cb_10_0 cb_10_1
          obtain ⟨cx_11_0, cx_11_1, cx_11_2, cx_11_3⟩ := cells4s Rx_11
          obtain ⟨cz_11_0, cz_11_1⟩ := cells2s Rz_11
          obtain ⟨cd_11_0, cd_11_1, cd_11_2, cd_11_3⟩ := cells4s Rd_11
          obtain ⟨cr_11_0, cr_11_1, cr_11_2, cr_11_3⟩ := cells4s Rr_11
          obtain ⟨cb_11_0, cb_11_1⟩ := cells2s Rb_11
          have q0 := fz (k := 0) Rz_11
          have q1 := fz (k := 1) Rz_11
          obtain ⟨E0, E1⟩ := set2_cells Rz_11 (.int .u64 (i : Nat)) (.int .u64 (j : Nat))
          go_wp2
          exact bodyPost_ret (v := .tuple #[.agg #[.int .u64 (i : Nat), .int .u64 (j : Nat)], .int .u8 1]) (by simp [results, Tryz.results40, go_sem, E0, E1]) rfl ⟨rfl, set2_below B11 (by first | exact Nat.le_refl _ | omega | (have := S7.out; have := Lx_7.out; have := Lz_7.out; have := H8.out; have := S10.out; have := Lx_10.out; have := Lz_10.out; have := Ld_10.out; have := Lr_10.out; omega)) _ _⟩
        · obtain rfl : (3 : Int) = fl := HFL.out
          go_wp2_with fail
          refine (KN.out _).mono ?_
          rintro r w11 ⟨rfl, b11⟩
          have B11 : Below w.heap.size w w11 := btr B10 b11
          have Rx_11 := heap_of b11 _ _ _ Rx_10
          have Rz_11 := heap_of b11 _ _ _ Rz_10
          have Rd_11 := heap_of b11 _ _ _ Rd_10
          have Rr_11 := heap_of b11 _ _ _ Rr_10
          have Rb_11 := heap_of b11 _ _ _ Rb_10
          clear b11 B10 Rx_10 cx_10_0 cx_10_1 cx_10_2 cx_10_3 Rz_10 cz_10_0 cz_10_1 Rd_10 cd_10_0 cd_10_1 cd_10_2 cd_10_3 Rr_10 cr_10_0 cr_10_1 cr_10_2 cr_10_3 Rb_10 cb_10_0 cb_10_1
          obtain ⟨cx_11_0, cx_11_1, cx_11_2, cx_11_3⟩ := cells4s Rx_11
          obtain ⟨cz_11_0, cz_11_1⟩ := cells2s Rz_11
          obtain ⟨cd_11_0, cd_11_1, cd_11_2, cd_11_3⟩ := cells4s Rd_11
          obtain ⟨cr_11_0, cr_11_1, cr_11_2, cr_11_3⟩ := cells4s Rr_11
          obtain ⟨cb_11_0, cb_11_1⟩ := cells2s Rb_11
          have q0 := fz (k := 0) Rz_11
          have q1 := fz (k := 1) Rz_11
          obtain ⟨E0, E1⟩ := set2_cells Rz_11 (.int .u64 (i : Nat)) (.int .u64 (j : Nat))
          go_wp2
          exact bodyPost_ret (v := .tuple #[.agg #[.int .u64 (i : Nat), .int .u64 (j : Nat)], .int .u8 3]) (by simp [results, Tryz.results40, go_sem, E0, E1]) rfl ⟨rfl, set2_below B11 (by first | exact Nat.le_refl _ | omega | (have := S7.out; have := Lx_7.out; have := Lz_7.out; have := H8.out; have := S10.out; have := Lx_10.out; have := Lz_10.out; have := Ld_10.out; have := Lr_10.out; omega)) _ _⟩
      · obtain rfl : (0 : Int) = fl := HFL.out
        have q0 := fz (k := 0) Rz_10
        have q1 := fz (k := 1) Rz_10
        obtain ⟨E0, E1⟩ := set2_cells Rz_10 (.int .u64 (i : Nat)) (.int .u64 (j : Nat))
        go_wp2
        exact bodyPost_ret (v := .tuple #[.agg #[.int .u64 (i : Nat), .int .u64 (j : Nat)], .int .u8 0]) (by simp [results, Tryz.results40, go_sem, E0, E1]) rfl ⟨rfl, set2_below B10 (by first | exact Nat.le_refl _ | omega | (have := S7.out; have := Lx_7.out; have := Lz_7.out; have := H8.out; have := S10.out; have := Lx_10.out; have := Lz_10.out; have := Ld_10.out; have := Lr_10.out; omega)) _ _⟩
  · have K5 := box (KZ.out rfl)
    clear KZ KB
    obtain rfl : (3 : Int) = fl := HFL.out
    go_wp2_with fail
    refine (K5.out _).mono ?_
    rintro r w9 ⟨rfl, b9⟩
    have B9 : Below w.heap.size w w9 := btr B8 b9
    have Rx_9 := heap_of b9 _ _ _ Rx_8
    have Rz_9 := heap_of b9 _ _ _ Rz_8
    have Rd_9 := heap_of b9 _ _ _ Rd_8
    have Rr_9 := heap_of b9 _ _ _ Rr_8
    clear b9 B8 Rx_8 cx_8_0 cx_8_1 cx_8_2 cx_8_3 Rz_8 cz_8_0 cz_8_1 Rd_8 cd_8_0 cd_8_1 cd_8_2 cd_8_3 Rr_8 cr_8_0 cr_8_1 cr_8_2 cr_8_3
    obtain ⟨cx_9_0, cx_9_1, cx_9_2, cx_9_3⟩ := cells4s Rx_9
    obtain ⟨cz_9_0, cz_9_1⟩ := cells2s Rz_9
    obtain ⟨cd_9_0, cd_9_1, cd_9_2, cd_9_3⟩ := cells4s Rd_9
    obtain ⟨cr_9_0, cr_9_1, cr_9_2, cr_9_3⟩ := cells4s Rr_9
    have q0 := fz (k := 0) Rz_9
    have q1 := fz (k := 1) Rz_9
    obtain ⟨E0, E1⟩ := set2_cells Rz_9 (.int .u64 (u : Nat)) (.int .u64 (v : Nat))
    go_wp2
    exact bodyPost_ret (v := .tuple #[.agg #[.int .u64 (u : Nat), .int .u64 (v : Nat)], .int .u8 3]) (by simp [results, Tryz.results40, go_sem, E0, E1]) rfl ⟨rfl, set2_below B9 (by first | exact Nat.le_refl _ | omega | (have := S7.out; have := Lx_7.out; have := Lz_7.out; have := H8.out; omega)) _ _⟩
set_option maxRecDepth 100000 in
set_option maxHeartbeats 16000000 in
theorem rf_deliver_b (f m : Int) (b : Bool) (s t : ByteArray) (e : Int) (rt : Bool) (T E P I A0 A1 A H fl : Int) (M rs : ByteArray) (ex : Bool) (rb : Bool) (ru rv : ByteArray) (re me : Int) (u v i j : Nat) (ok nul o : Bool) (w : World)
    (KT : Box (∀ w, Calls Tryz.prog 74 #[.agg #[.bool b, .string s, .string t, .int .i64 e], .bool rt] w fun r w' => r = .returned (.int .i64 T) ∧ Below w.heap.size w w'))
    (KP : Box (∀ w, Calls Tryz.prog 75 #[.int .u8 f] w fun r w' => r = .returned (.int .i64 P) ∧ Below w.heap.size w w'))
    (KE : Box (∀ w, Calls Tryz.prog 76 #[.int .u8 f] w fun r w' => r = .returned (.int .i64 E) ∧ Below w.heap.size w w'))
    (KI : Box (∀ w, Calls Tryz.prog 78 #[.int .u8 f] w fun r w' => r = .returned (.int .i64 I) ∧ Below w.heap.size w w'))
    (KF : Box (∀ w, Calls Tryz.prog 79 #[.agg #[.bool b, .string s, .string t, .int .i64 e], .bool rt, .int .i64 A] w fun r w' => r = .returned (.agg #[.string M, .int .i64 A, .int .i64 H, .bool ex]) ∧ Below w.heap.size w w'))
    (KK : Box (∀ w, Calls Tryz.prog 80 #[.int .u8 m, .bool b, .agg #[.string M, .int .i64 A, .int .i64 H, .bool ex]] w fun r w' => r = .returned (.string rs) ∧ Below w.heap.size w w'))
    (KM : Box (∀ w, Calls Tryz.prog 13 #[.bool b, .string rs, .string ⟨#[1]⟩, .int .i64 A] w fun r w' => r = .returned (.tuple #[.agg #[.bool rb, .string ru, .string rv, .int .i64 re], .int .i64 me]) ∧ Below w.heap.size w w'))
    (KZ : Box (nul = true → ∀ w, Calls Tryz.prog 81 #[.int .u8 f, .bool b] w fun r w' => r = .returned (.agg #[.int .u64 (u : Nat), .int .u64 (v : Nat)]) ∧ Below w.heap.size w w'))
    (KB : Box (nul = false → ∀ w, Calls Tryz.prog 82 #[.int .u8 f, .agg #[.bool rb, .string ru, .string rv, .int .i64 re]] w fun r w' => r = .returned (.tuple #[.agg #[.int .u64 (i : Nat), .int .u64 (j : Nat)], .bool ok]) ∧ Below w.heap.size w w'))
    (KO : Box (ok = false → ∀ w, Calls Tryz.prog 77 #[.int .u8 f, .int .u8 m, .bool b] w fun r w' => r = .returned (.agg #[.int .u64 (u : Nat), .int .u64 (v : Nat)]) ∧ Below w.heap.size w w'))
    (hij : ok = true → i = u ∧ j = v)
    (KN : Box (∀ w, Calls Tryz.prog 83 #[.int .u8 f, .int .u8 m, .agg #[.bool b, .string s, .string t, .int .i64 e], .bool rt] w fun r w' => r = .returned (.bool o) ∧ Below w.heap.size w w'))
    (h1 : decide (E < T) = false) (hI : decide (T < I) = false) (h2 : IntKind.i64.wrap (A0 - P) = A1) (h3 : IntKind.i64.wrap (A1 + 1) = A) (hA0 : A0 = T)
    (hn : (ru.toList == []) = nul) (hfl : (if nul = true then (3 : Int) else if ok = true then (if ex = true then 0 else if o = true then 3 else 1) else 5) = fl)
    : Calls Tryz.prog 40 #[.int .u8 f, .int .u8 m, .agg #[.bool b, .string s, .string t, .int .i64 e], .bool rt] w fun r w' => r = .returned (.tuple #[.agg #[.int .u64 (u : Nat), .int .u64 (v : Nat)], .int .u8 fl]) ∧ Below w.heap.size w w' := by
  subst hA0
  have HFL := box hfl
  have HIJ := box hij
  clear hfl hij
  obtain ⟨Rx_0, Rz_0, B0⟩ := opn2 w (Obj.cells #[.bool b, .string s, .string t, .int .i64 e] 50) (Obj.cells #[.int .u64 0, .int .u64 0] 27)
  go_enter Tryz.func40, Tryz.ntmps40
  go_wp2_with fail
  refine (KT.out _).mono ?_
  rintro r w1 ⟨rfl, b1⟩
  have B1 : Below w.heap.size w w1 := btr B0 b1
  have Rx_1 := heap_of b1 _ _ _ Rx_0
  have Rz_1 := heap_of b1 _ _ _ Rz_0
  clear b1 B0 Rx_0 Rz_0
  obtain ⟨cx_1_0, cx_1_1, cx_1_2, cx_1_3⟩ := cells4s Rx_1
  obtain ⟨cz_1_0, cz_1_1⟩ := cells2s Rz_1
  go_wp2_with fail
  refine (KP.out _).mono ?_
  rintro r w2 ⟨rfl, b2⟩
  have B2 : Below w.heap.size w w2 := btr B1 b2
  have Rx_2 := heap_of b2 _ _ _ Rx_1
  have Rz_2 := heap_of b2 _ _ _ Rz_1
  clear b2 B1 Rx_1 cx_1_0 cx_1_1 cx_1_2 cx_1_3 Rz_1 cz_1_0 cz_1_1
  obtain ⟨cx_2_0, cx_2_1, cx_2_2, cx_2_3⟩ := cells4s Rx_2
  obtain ⟨cz_2_0, cz_2_1⟩ := cells2s Rz_2
  go_wp2_with fail
  refine (KE.out _).mono ?_
  rintro r w3 ⟨rfl, b3⟩
  have B3 : Below w.heap.size w w3 := btr B2 b3
  have Rx_3 := heap_of b3 _ _ _ Rx_2
  have Rz_3 := heap_of b3 _ _ _ Rz_2
  clear b3 B2 Rx_2 cx_2_0 cx_2_1 cx_2_2 cx_2_3 Rz_2 cz_2_0 cz_2_1
  obtain ⟨cx_3_0, cx_3_1, cx_3_2, cx_3_3⟩ := cells4s Rx_3
  obtain ⟨cz_3_0, cz_3_1⟩ := cells2s Rz_3
  go_wp2_with fail
  refine (KI.out _).mono ?_
  rintro r w4 ⟨rfl, b4⟩
  have B4 : Below w.heap.size w w4 := btr B3 b4
  have Rx_4 := heap_of b4 _ _ _ Rx_3
  have Rz_4 := heap_of b4 _ _ _ Rz_3
  clear b4 B3 Rx_3 cx_3_0 cx_3_1 cx_3_2 cx_3_3 Rz_3 cz_3_0 cz_3_1
  obtain ⟨cx_4_0, cx_4_1, cx_4_2, cx_4_3⟩ := cells4s Rx_4
  obtain ⟨cz_4_0, cz_4_1⟩ := cells2s Rz_4
  go_wp2_with fail
  refine (KF.out _).mono ?_
  rintro r w5 ⟨rfl, b5⟩
  have B5 : Below w.heap.size w w5 := btr B4 b5
  have Rx_5 := heap_of b5 _ _ _ Rx_4
  have Rz_5 := heap_of b5 _ _ _ Rz_4
  clear b5 B4 Rx_4 cx_4_0 cx_4_1 cx_4_2 cx_4_3 Rz_4 cz_4_0 cz_4_1
  obtain ⟨cx_5_0, cx_5_1, cx_5_2, cx_5_3⟩ := cells4s Rx_5
  obtain ⟨cz_5_0, cz_5_1⟩ := cells2s Rz_5
  have S6 := box B5.size
  have Lx_6 : Box (w.heap.size < w5.heap.size) := box (Array.getElem?_eq_some_iff.1 Rx_5).1
  have Lz_6 : Box (w.heap.size + 1 < w5.heap.size) := box (Array.getElem?_eq_some_iff.1 Rz_5).1
  have Rd_6 := heap_alloc_last w5 (Obj.cells #[.string M, .int .i64 A, .int .i64 H, .bool ex] 118)
  have B6 := btr B5 (bal w5 (Obj.cells #[.string M, .int .i64 A, .int .i64 H, .bool ex] 118))
  have Rx_6 := heap_of (bal w5 (Obj.cells #[.string M, .int .i64 A, .int .i64 H, .bool ex] 118)) _ _ _ Rx_5
  have Rz_6 := heap_of (bal w5 (Obj.cells #[.string M, .int .i64 A, .int .i64 H, .bool ex] 118)) _ _ _ Rz_5
  clear B5 Rx_5 cx_5_0 cx_5_1 cx_5_2 cx_5_3 Rz_5 cz_5_0 cz_5_1
  obtain ⟨cx_6_0, cx_6_1, cx_6_2, cx_6_3⟩ := cells4s Rx_6
  obtain ⟨cz_6_0, cz_6_1⟩ := cells2s Rz_6
  obtain ⟨cd_6_0, cd_6_1, cd_6_2, cd_6_3⟩ := cells4s Rd_6
  have sS : Box (∀ W W1 : World, (Below w.heap.size w W ∧ W.heap[w.heap.size]? = some (Obj.cells #[.bool b, .string s, .string t, .int .i64 e] 50) ∧ W.heap[w.heap.size + 1]? = some (Obj.cells #[.int .u64 0, .int .u64 0] 27) ∧ W.heap[w5.heap.size]? = some (Obj.cells #[.string M, .int .i64 A, .int .i64 H, .bool ex] 118) ∧ W.cell? ⟨w.heap.size, 0, none⟩ = some (.bool b) ∧ W.cell? ⟨w.heap.size, 1, none⟩ = some (.string s) ∧ W.cell? ⟨w.heap.size, 2, none⟩ = some (.string t) ∧ W.cell? ⟨w.heap.size, 3, none⟩ = some (.int .i64 e) ∧ W.cell? ⟨w.heap.size + 1, 0, none⟩ = some (.int .u64 0) ∧ W.cell? ⟨w.heap.size + 1, 1, none⟩ = some (.int .u64 0) ∧ W.cell? ⟨w5.heap.size, 0, none⟩ = some (.string M) ∧ W.cell? ⟨w5.heap.size, 1, none⟩ = some (.int .i64 A) ∧ W.cell? ⟨w5.heap.size, 2, none⟩ = some (.int .i64 H) ∧ W.cell? ⟨w5.heap.size, 3, none⟩ = some (.bool ex)) → Below W.heap.size W W1 → (Below w.heap.size w W1 ∧ W1.heap[w.heap.size]? = some (Obj.cells #[.bool b, .string s, .string t, .int .i64 e] 50) ∧ W1.heap[w.heap.size + 1]? = some (Obj.cells #[.int .u64 0, .int .u64 0] 27) ∧ W1.heap[w5.heap.size]? = some (Obj.cells #[.string M, .int .i64 A, .int .i64 H, .bool ex] 118) ∧ W1.cell? ⟨w.heap.size, 0, none⟩ = some (.bool b) ∧ W1.cell? ⟨w.heap.size, 1, none⟩ = some (.string s) ∧ W1.cell? ⟨w.heap.size, 2, none⟩ = some (.string t) ∧ W1.cell? ⟨w.heap.size, 3, none⟩ = some (.int .i64 e) ∧ W1.cell? ⟨w.heap.size + 1, 0, none⟩ = some (.int .u64 0) ∧ W1.cell? ⟨w.heap.size + 1, 1, none⟩ = some (.int .u64 0) ∧ W1.cell? ⟨w5.heap.size, 0, none⟩ = some (.string M) ∧ W1.cell? ⟨w5.heap.size, 1, none⟩ = some (.int .i64 A) ∧ W1.cell? ⟨w5.heap.size, 2, none⟩ = some (.int .i64 H) ∧ W1.cell? ⟨w5.heap.size, 3, none⟩ = some (.bool ex))) := box (fun W W1 h b => ⟨btr h.1 b, heap_of b _ _ _ h.2.1, heap_of b _ _ _ h.2.2.1, heap_of b _ _ _ h.2.2.2.1, cell7 (heap_of b _ _ _ h.2.1) 0 _ rfl, cell7 (heap_of b _ _ _ h.2.1) 1 _ rfl, cell7 (heap_of b _ _ _ h.2.1) 2 _ rfl, cell7 (heap_of b _ _ _ h.2.1) 3 _ rfl, cell7 (heap_of b _ _ _ h.2.2.1) 0 _ rfl, cell7 (heap_of b _ _ _ h.2.2.1) 1 _ rfl, cell7 (heap_of b _ _ _ h.2.2.2.1) 0 _ rfl, cell7 (heap_of b _ _ _ h.2.2.2.1) 1 _ rfl, cell7 (heap_of b _ _ _ h.2.2.2.1) 2 _ rfl, cell7 (heap_of b _ _ _ h.2.2.2.1) 3 _ rfl⟩)
  have sL : Box (∀ W : World, (Below w.heap.size w W ∧ W.heap[w.heap.size]? = some (Obj.cells #[.bool b, .string s, .string t, .int .i64 e] 50) ∧ W.heap[w.heap.size + 1]? = some (Obj.cells #[.int .u64 0, .int .u64 0] 27) ∧ W.heap[w5.heap.size]? = some (Obj.cells #[.string M, .int .i64 A, .int .i64 H, .bool ex] 118) ∧ W.cell? ⟨w.heap.size, 0, none⟩ = some (.bool b) ∧ W.cell? ⟨w.heap.size, 1, none⟩ = some (.string s) ∧ W.cell? ⟨w.heap.size, 2, none⟩ = some (.string t) ∧ W.cell? ⟨w.heap.size, 3, none⟩ = some (.int .i64 e) ∧ W.cell? ⟨w.heap.size + 1, 0, none⟩ = some (.int .u64 0) ∧ W.cell? ⟨w.heap.size + 1, 1, none⟩ = some (.int .u64 0) ∧ W.cell? ⟨w5.heap.size, 0, none⟩ = some (.string M) ∧ W.cell? ⟨w5.heap.size, 1, none⟩ = some (.int .i64 A) ∧ W.cell? ⟨w5.heap.size, 2, none⟩ = some (.int .i64 H) ∧ W.cell? ⟨w5.heap.size, 3, none⟩ = some (.bool ex)) → (w.heap.size < W.heap.size ∧ w.heap.size + 1 < W.heap.size ∧ w5.heap.size < W.heap.size)) := box (fun W h => ⟨(Array.getElem?_eq_some_iff.1 h.2.1).1, (Array.getElem?_eq_some_iff.1 h.2.2.1).1, (Array.getElem?_eq_some_iff.1 h.2.2.2.1).1⟩)
  have sT : Box (∀ (W : World) (gN : Nat) (xA xB xC xD : Value), (Below w.heap.size w W ∧ W.heap[w.heap.size]? = some (Obj.cells #[.bool b, .string s, .string t, .int .i64 e] 50) ∧ W.heap[w.heap.size + 1]? = some (Obj.cells #[.int .u64 0, .int .u64 0] 27) ∧ W.heap[w5.heap.size]? = some (Obj.cells #[.string M, .int .i64 A, .int .i64 H, .bool ex] 118) ∧ W.cell? ⟨w.heap.size, 0, none⟩ = some (.bool b) ∧ W.cell? ⟨w.heap.size, 1, none⟩ = some (.string s) ∧ W.cell? ⟨w.heap.size, 2, none⟩ = some (.string t) ∧ W.cell? ⟨w.heap.size, 3, none⟩ = some (.int .i64 e) ∧ W.cell? ⟨w.heap.size + 1, 0, none⟩ = some (.int .u64 0) ∧ W.cell? ⟨w.heap.size + 1, 1, none⟩ = some (.int .u64 0) ∧ W.cell? ⟨w5.heap.size, 0, none⟩ = some (.string M) ∧ W.cell? ⟨w5.heap.size, 1, none⟩ = some (.int .i64 A) ∧ W.cell? ⟨w5.heap.size, 2, none⟩ = some (.int .i64 H) ∧ W.cell? ⟨w5.heap.size, 3, none⟩ = some (.bool ex)) → (w.heap.size < gN ∧ w.heap.size + 1 < gN ∧ w5.heap.size < gN) → (Below w.heap.size w ((((W.setCell ⟨gN, 0, none⟩ xA).setCell ⟨gN, 1, none⟩ xB).setCell ⟨gN, 2, none⟩ xC).setCell ⟨gN, 3, none⟩ xD) ∧ ((((W.setCell ⟨gN, 0, none⟩ xA).setCell ⟨gN, 1, none⟩ xB).setCell ⟨gN, 2, none⟩ xC).setCell ⟨gN, 3, none⟩ xD).heap[w.heap.size]? = some (Obj.cells #[.bool b, .string s, .string t, .int .i64 e] 50) ∧ ((((W.setCell ⟨gN, 0, none⟩ xA).setCell ⟨gN, 1, none⟩ xB).setCell ⟨gN, 2, none⟩ xC).setCell ⟨gN, 3, none⟩ xD).heap[w.heap.size + 1]? = some (Obj.cells #[.int .u64 0, .int .u64 0] 27) ∧ ((((W.setCell ⟨gN, 0, none⟩ xA).setCell ⟨gN, 1, none⟩ xB).setCell ⟨gN, 2, none⟩ xC).setCell ⟨gN, 3, none⟩ xD).heap[w5.heap.size]? = some (Obj.cells #[.string M, .int .i64 A, .int .i64 H, .bool ex] 118) ∧ ((((W.setCell ⟨gN, 0, none⟩ xA).setCell ⟨gN, 1, none⟩ xB).setCell ⟨gN, 2, none⟩ xC).setCell ⟨gN, 3, none⟩ xD).cell? ⟨w.heap.size, 0, none⟩ = some (.bool b) ∧ ((((W.setCell ⟨gN, 0, none⟩ xA).setCell ⟨gN, 1, none⟩ xB).setCell ⟨gN, 2, none⟩ xC).setCell ⟨gN, 3, none⟩ xD).cell? ⟨w.heap.size, 1, none⟩ = some (.string s) ∧ ((((W.setCell ⟨gN, 0, none⟩ xA).setCell ⟨gN, 1, none⟩ xB).setCell ⟨gN, 2, none⟩ xC).setCell ⟨gN, 3, none⟩ xD).cell? ⟨w.heap.size, 2, none⟩ = some (.string t) ∧ ((((W.setCell ⟨gN, 0, none⟩ xA).setCell ⟨gN, 1, none⟩ xB).setCell ⟨gN, 2, none⟩ xC).setCell ⟨gN, 3, none⟩ xD).cell? ⟨w.heap.size, 3, none⟩ = some (.int .i64 e) ∧ ((((W.setCell ⟨gN, 0, none⟩ xA).setCell ⟨gN, 1, none⟩ xB).setCell ⟨gN, 2, none⟩ xC).setCell ⟨gN, 3, none⟩ xD).cell? ⟨w.heap.size + 1, 0, none⟩ = some (.int .u64 0) ∧ ((((W.setCell ⟨gN, 0, none⟩ xA).setCell ⟨gN, 1, none⟩ xB).setCell ⟨gN, 2, none⟩ xC).setCell ⟨gN, 3, none⟩ xD).cell? ⟨w.heap.size + 1, 1, none⟩ = some (.int .u64 0) ∧ ((((W.setCell ⟨gN, 0, none⟩ xA).setCell ⟨gN, 1, none⟩ xB).setCell ⟨gN, 2, none⟩ xC).setCell ⟨gN, 3, none⟩ xD).cell? ⟨w5.heap.size, 0, none⟩ = some (.string M) ∧ ((((W.setCell ⟨gN, 0, none⟩ xA).setCell ⟨gN, 1, none⟩ xB).setCell ⟨gN, 2, none⟩ xC).setCell ⟨gN, 3, none⟩ xD).cell? ⟨w5.heap.size, 1, none⟩ = some (.int .i64 A) ∧ ((((W.setCell ⟨gN, 0, none⟩ xA).setCell ⟨gN, 1, none⟩ xB).setCell ⟨gN, 2, none⟩ xC).setCell ⟨gN, 3, none⟩ xD).cell? ⟨w5.heap.size, 2, none⟩ = some (.int .i64 H) ∧ ((((W.setCell ⟨gN, 0, none⟩ xA).setCell ⟨gN, 1, none⟩ xB).setCell ⟨gN, 2, none⟩ xC).setCell ⟨gN, 3, none⟩ xD).cell? ⟨w5.heap.size, 3, none⟩ = some (.bool ex))) := box (fun W gN xA xB xC xD h l => ⟨set4_below h.1 (show w.heap.size ≤ gN by have := l.1; omega) _ _ _ _, (setCell_other (by have := l.1; omega)).trans ((setCell_other (by have := l.1; omega)).trans ((setCell_other (by have := l.1; omega)).trans ((setCell_other (by have := l.1; omega)).trans h.2.1))), (setCell_other (by have := l.2.1; omega)).trans ((setCell_other (by have := l.2.1; omega)).trans ((setCell_other (by have := l.2.1; omega)).trans ((setCell_other (by have := l.2.1; omega)).trans h.2.2.1))), (setCell_other (by have := l.2.2; omega)).trans ((setCell_other (by have := l.2.2; omega)).trans ((setCell_other (by have := l.2.2; omega)).trans ((setCell_other (by have := l.2.2; omega)).trans h.2.2.2.1))), cell7 ((setCell_other (by have := l.1; omega)).trans ((setCell_other (by have := l.1; omega)).trans ((setCell_other (by have := l.1; omega)).trans ((setCell_other (by have := l.1; omega)).trans h.2.1)))) 0 _ rfl, cell7 ((setCell_other (by have := l.1; omega)).trans ((setCell_other (by have := l.1; omega)).trans ((setCell_other (by have := l.1; omega)).trans ((setCell_other (by have := l.1; omega)).trans h.2.1)))) 1 _ rfl, cell7 ((setCell_other (by have := l.1; omega)).trans ((setCell_other (by have := l.1; omega)).trans ((setCell_other (by have := l.1; omega)).trans ((setCell_other (by have := l.1; omega)).trans h.2.1)))) 2 _ rfl, cell7 ((setCell_other (by have := l.1; omega)).trans ((setCell_other (by have := l.1; omega)).trans ((setCell_other (by have := l.1; omega)).trans ((setCell_other (by have := l.1; omega)).trans h.2.1)))) 3 _ rfl, cell7 ((setCell_other (by have := l.2.1; omega)).trans ((setCell_other (by have := l.2.1; omega)).trans ((setCell_other (by have := l.2.1; omega)).trans ((setCell_other (by have := l.2.1; omega)).trans h.2.2.1)))) 0 _ rfl, cell7 ((setCell_other (by have := l.2.1; omega)).trans ((setCell_other (by have := l.2.1; omega)).trans ((setCell_other (by have := l.2.1; omega)).trans ((setCell_other (by have := l.2.1; omega)).trans h.2.2.1)))) 1 _ rfl, cell7 ((setCell_other (by have := l.2.2; omega)).trans ((setCell_other (by have := l.2.2; omega)).trans ((setCell_other (by have := l.2.2; omega)).trans ((setCell_other (by have := l.2.2; omega)).trans h.2.2.2.1)))) 0 _ rfl, cell7 ((setCell_other (by have := l.2.2; omega)).trans ((setCell_other (by have := l.2.2; omega)).trans ((setCell_other (by have := l.2.2; omega)).trans ((setCell_other (by have := l.2.2; omega)).trans h.2.2.2.1)))) 1 _ rfl, cell7 ((setCell_other (by have := l.2.2; omega)).trans ((setCell_other (by have := l.2.2; omega)).trans ((setCell_other (by have := l.2.2; omega)).trans ((setCell_other (by have := l.2.2; omega)).trans h.2.2.2.1)))) 2 _ rfl, cell7 ((setCell_other (by have := l.2.2; omega)).trans ((setCell_other (by have := l.2.2; omega)).trans ((setCell_other (by have := l.2.2; omega)).trans ((setCell_other (by have := l.2.2; omega)).trans h.2.2.2.1)))) 3 _ rfl⟩)
  have s0 : Below w.heap.size w ((w5.alloc (Obj.cells #[.string M, .int .i64 A, .int .i64 H, .bool ex] 118))).drew ∧ ((w5.alloc (Obj.cells #[.string M, .int .i64 A, .int .i64 H, .bool ex] 118))).drew.heap[w.heap.size]? = some (Obj.cells #[.bool b, .string s, .string t, .int .i64 e] 50) ∧ ((w5.alloc (Obj.cells #[.string M, .int .i64 A, .int .i64 H, .bool ex] 118))).drew.heap[w.heap.size + 1]? = some (Obj.cells #[.int .u64 0, .int .u64 0] 27) ∧ ((w5.alloc (Obj.cells #[.string M, .int .i64 A, .int .i64 H, .bool ex] 118))).drew.heap[w5.heap.size]? = some (Obj.cells #[.string M, .int .i64 A, .int .i64 H, .bool ex] 118) ∧ ((w5.alloc (Obj.cells #[.string M, .int .i64 A, .int .i64 H, .bool ex] 118))).drew.cell? ⟨w.heap.size, 0, none⟩ = some (.bool b) ∧ ((w5.alloc (Obj.cells #[.string M, .int .i64 A, .int .i64 H, .bool ex] 118))).drew.cell? ⟨w.heap.size, 1, none⟩ = some (.string s) ∧ ((w5.alloc (Obj.cells #[.string M, .int .i64 A, .int .i64 H, .bool ex] 118))).drew.cell? ⟨w.heap.size, 2, none⟩ = some (.string t) ∧ ((w5.alloc (Obj.cells #[.string M, .int .i64 A, .int .i64 H, .bool ex] 118))).drew.cell? ⟨w.heap.size, 3, none⟩ = some (.int .i64 e) ∧ ((w5.alloc (Obj.cells #[.string M, .int .i64 A, .int .i64 H, .bool ex] 118))).drew.cell? ⟨w.heap.size + 1, 0, none⟩ = some (.int .u64 0) ∧ ((w5.alloc (Obj.cells #[.string M, .int .i64 A, .int .i64 H, .bool ex] 118))).drew.cell? ⟨w.heap.size + 1, 1, none⟩ = some (.int .u64 0) ∧ ((w5.alloc (Obj.cells #[.string M, .int .i64 A, .int .i64 H, .bool ex] 118))).drew.cell? ⟨w5.heap.size, 0, none⟩ = some (.string M) ∧ ((w5.alloc (Obj.cells #[.string M, .int .i64 A, .int .i64 H, .bool ex] 118))).drew.cell? ⟨w5.heap.size, 1, none⟩ = some (.int .i64 A) ∧ ((w5.alloc (Obj.cells #[.string M, .int .i64 A, .int .i64 H, .bool ex] 118))).drew.cell? ⟨w5.heap.size, 2, none⟩ = some (.int .i64 H) ∧ ((w5.alloc (Obj.cells #[.string M, .int .i64 A, .int .i64 H, .bool ex] 118))).drew.cell? ⟨w5.heap.size, 3, none⟩ = some (.bool ex) := ⟨B6.drew, Rx_6, Rz_6, Rd_6, cell7 (Rx_6) 0 _ rfl, cell7 (Rx_6) 1 _ rfl, cell7 (Rx_6) 2 _ rfl, cell7 (Rx_6) 3 _ rfl, cell7 (Rz_6) 0 _ rfl, cell7 (Rz_6) 1 _ rfl, cell7 (Rd_6) 0 _ rfl, cell7 (Rd_6) 1 _ rfl, cell7 (Rd_6) 2 _ rfl, cell7 (Rd_6) 3 _ rfl⟩
  clear B6 Rx_6 cx_6_0 cx_6_1 cx_6_2 cx_6_3 Rz_6 cz_6_0 cz_6_1 Rd_6 cd_6_0 cd_6_1 cd_6_2 cd_6_3
  go_wp2_with fail
  apply cut7
  · intro key0
    have key := box key0
    clear key0
    go_region_held3 (fun W => Below w.heap.size w W ∧ W.heap[w.heap.size]? = some (Obj.cells #[.bool b, .string s, .string t, .int .i64 e] 50) ∧ W.heap[w.heap.size + 1]? = some (Obj.cells #[.int .u64 0, .int .u64 0] 27) ∧ W.heap[w5.heap.size]? = some (Obj.cells #[.string M, .int .i64 A, .int .i64 H, .bool ex] 118) ∧ W.cell? ⟨w.heap.size, 0, none⟩ = some (.bool b) ∧ W.cell? ⟨w.heap.size, 1, none⟩ = some (.string s) ∧ W.cell? ⟨w.heap.size, 2, none⟩ = some (.string t) ∧ W.cell? ⟨w.heap.size, 3, none⟩ = some (.int .i64 e) ∧ W.cell? ⟨w.heap.size + 1, 0, none⟩ = some (.int .u64 0) ∧ W.cell? ⟨w.heap.size + 1, 1, none⟩ = some (.int .u64 0) ∧ W.cell? ⟨w5.heap.size, 0, none⟩ = some (.string M) ∧ W.cell? ⟨w5.heap.size, 1, none⟩ = some (.int .i64 A) ∧ W.cell? ⟨w5.heap.size, 2, none⟩ = some (.int .i64 H) ∧ W.cell? ⟨w5.heap.size, 3, none⟩ = some (.bool ex)) (first | exact s1 | exact s0 | exact sS.out _ _ s1 (bal _ _) | exact sS.out _ _ s0 (bal _ _) | exact sT.out _ _ _ _ _ _ s1 hl)
      (first | (go_at_call 80; (first | refine (KK.out _).mono ?_ | refine (KK.out _).mono ?_); rintro r wq ⟨rfl, bq⟩; (first | (have hg := heap_of bq _ _ _ (heap_alloc_last _ _); have hl := (by first | exact sL.out _ s1 | exact sL.out _ s0)) | have hg := heap_of bq _ _ _ hg | skip); (try simp only [size_dr, size_al] at hg hl); (first | (have hq0 := fz (k := 0) hg; have hq1 := fz (k := 1) hg; have hq2 := fz (k := 2) hg; have hq3 := fz (k := 3) hg; have hc0 := cell7 hg 0 _ rfl; have hc1 := cell7 hg 1 _ rfl; have hc2 := cell7 hg 2 _ rfl; have hc3 := cell7 hg 3 _ rfl) | skip); have s2 := (by first | exact sS.out _ _ s1 bq | exact sS.out _ _ s0 bq | exact sS.out _ _ (sS.out _ _ s1 (bal _ _)) bq | exact sS.out _ _ (sS.out _ _ s0 (bal _ _)) bq); (try clear s1); have s1 := s2; clear s2 bq) | (go_at_call 13; (first | refine (KM.out _).mono ?_ | refine (KM.out _).mono ?_); rintro r wq ⟨rfl, bq⟩; (first | (have hg := heap_of bq _ _ _ (heap_alloc_last _ _); have hl := (by first | exact sL.out _ s1 | exact sL.out _ s0)) | have hg := heap_of bq _ _ _ hg | skip); (try simp only [size_dr, size_al] at hg hl); (first | (have hq0 := fz (k := 0) hg; have hq1 := fz (k := 1) hg; have hq2 := fz (k := 2) hg; have hq3 := fz (k := 3) hg; have hc0 := cell7 hg 0 _ rfl; have hc1 := cell7 hg 1 _ rfl; have hc2 := cell7 hg 2 _ rfl; have hc3 := cell7 hg 3 _ rfl) | skip); have s2 := (by first | exact sS.out _ _ s1 bq | exact sS.out _ _ s0 bq | exact sS.out _ _ (sS.out _ _ s1 (bal _ _)) bq | exact sS.out _ _ (sS.out _ _ s0 (bal _ _)) bq); (try clear s1); have s1 := s2; clear s2 bq) | fail)
    all_goals
      refine gen_abacusref09_deliver_14 (R := fun W gN => (Below w.heap.size w W ∧ W.heap[w.heap.size]? = some (Obj.cells #[.bool b, .string s, .string t, .int .i64 e] 50) ∧ W.heap[w.heap.size + 1]? = some (Obj.cells #[.int .u64 0, .int .u64 0] 27) ∧ W.heap[w5.heap.size]? = some (Obj.cells #[.string M, .int .i64 A, .int .i64 H, .bool ex] 118) ∧ W.cell? ⟨w.heap.size, 0, none⟩ = some (.bool b) ∧ W.cell? ⟨w.heap.size, 1, none⟩ = some (.string s) ∧ W.cell? ⟨w.heap.size, 2, none⟩ = some (.string t) ∧ W.cell? ⟨w.heap.size, 3, none⟩ = some (.int .i64 e) ∧ W.cell? ⟨w.heap.size + 1, 0, none⟩ = some (.int .u64 0) ∧ W.cell? ⟨w.heap.size + 1, 1, none⟩ = some (.int .u64 0) ∧ W.cell? ⟨w5.heap.size, 0, none⟩ = some (.string M) ∧ W.cell? ⟨w5.heap.size, 1, none⟩ = some (.int .i64 A) ∧ W.cell? ⟨w5.heap.size, 2, none⟩ = some (.int .i64 H) ∧ W.cell? ⟨w5.heap.size, 3, none⟩ = some (.bool ex)) ∧ W.heap[gN]? = some (Obj.cells #[.bool rb, .string ru, .string rv, .int .i64 re] 50) ∧ (w.heap.size < gN ∧ w.heap.size + 1 < gN ∧ w5.heap.size < gN)) key.out ?_
      first
        | exact ⟨(sT.out _ _ _ _ _ _ s1 hl), set4_row hg rfl _ _ _ _, hl⟩
        | exact ⟨sS.out _ _ s1 (bal _ _), heap_alloc_last _ _, sL.out _ s1⟩
        | exact ⟨sS.out _ _ s0 (bal _ _), heap_alloc_last _ _, sL.out _ s0⟩
  rintro w7 g7 ⟨s1, Rr_7, l7⟩
  have B7 := And.left s1
  have Rx_7 := s1.2.1
  have Rz_7 := s1.2.2.1
  have Rd_7 := s1.2.2.2.1
  have H7 := box l7
  clear s0 s1 sS sL sT l7
  obtain ⟨cx_7_0, cx_7_1, cx_7_2, cx_7_3⟩ := cells4s Rx_7
  obtain ⟨cz_7_0, cz_7_1⟩ := cells2s Rz_7
  obtain ⟨cd_7_0, cd_7_1, cd_7_2, cd_7_3⟩ := cells4s Rd_7
  obtain ⟨cr_7_0, cr_7_1, cr_7_2, cr_7_3⟩ := cells4s Rr_7
  cases nul
  · have K5 := box (KB.out rfl)
    clear KZ KB
    go_wp2_with fail
    refine (K5.out _).mono ?_
    rintro r w8 ⟨rfl, b8⟩
    have B8 : Below w.heap.size w w8 := btr B7 b8
    have Rx_8 := heap_of b8 _ _ _ Rx_7
    have Rz_8 := heap_of b8 _ _ _ Rz_7
    have Rd_8 := heap_of b8 _ _ _ Rd_7
    have Rr_8 := heap_of b8 _ _ _ Rr_7
    clear b8 B7 Rx_7 cx_7_0 cx_7_1 cx_7_2 cx_7_3 Rz_7 cz_7_0 cz_7_1 Rd_7 cd_7_0 cd_7_1 cd_7_2 cd_7_3 Rr_7 cr_7_0 cr_7_1 cr_7_2 cr_7_3
    obtain ⟨cx_8_0, cx_8_1, cx_8_2, cx_8_3⟩ := cells4s Rx_8
    obtain ⟨cz_8_0, cz_8_1⟩ := cells2s Rz_8
    obtain ⟨cd_8_0, cd_8_1, cd_8_2, cd_8_3⟩ := cells4s Rd_8
    obtain ⟨cr_8_0, cr_8_1, cr_8_2, cr_8_3⟩ := cells4s Rr_8
    have S9 := box B8.size
    have Lx_9 : Box (w.heap.size < w8.heap.size) := box (Array.getElem?_eq_some_iff.1 Rx_8).1
    have Lz_9 : Box (w.heap.size + 1 < w8.heap.size) := box (Array.getElem?_eq_some_iff.1 Rz_8).1
    have Ld_9 : Box (w5.heap.size < w8.heap.size) := box (Array.getElem?_eq_some_iff.1 Rd_8).1
    have Lr_9 : Box (g7 < w8.heap.size) := box (Array.getElem?_eq_some_iff.1 Rr_8).1
    have Rb_9 := heap_alloc_last w8 (Obj.cells #[.int .u64 (i : Nat), .int .u64 (j : Nat)] 27)
    have B9 := btr B8 (bal w8 (Obj.cells #[.int .u64 (i : Nat), .int .u64 (j : Nat)] 27))
    have Rx_9 := heap_of (bal w8 (Obj.cells #[.int .u64 (i : Nat), .int .u64 (j : Nat)] 27)) _ _ _ Rx_8
    have Rz_9 := heap_of (bal w8 (Obj.cells #[.int .u64 (i : Nat), .int .u64 (j : Nat)] 27)) _ _ _ Rz_8
    have Rd_9 := heap_of (bal w8 (Obj.cells #[.int .u64 (i : Nat), .int .u64 (j : Nat)] 27)) _ _ _ Rd_8
    have Rr_9 := heap_of (bal w8 (Obj.cells #[.int .u64 (i : Nat), .int .u64 (j : Nat)] 27)) _ _ _ Rr_8
    clear B8 Rx_8 cx_8_0 cx_8_1 cx_8_2 cx_8_3 Rz_8 cz_8_0 cz_8_1 Rd_8 cd_8_0 cd_8_1 cd_8_2 cd_8_3 Rr_8 cr_8_0 cr_8_1 cr_8_2 cr_8_3
    obtain ⟨cx_9_0, cx_9_1, cx_9_2, cx_9_3⟩ := cells4s Rx_9
    obtain ⟨cz_9_0, cz_9_1⟩ := cells2s Rz_9
    obtain ⟨cd_9_0, cd_9_1, cd_9_2, cd_9_3⟩ := cells4s Rd_9
    obtain ⟨cr_9_0, cr_9_1, cr_9_2, cr_9_3⟩ := cells4s Rr_9
    obtain ⟨cb_9_0, cb_9_1⟩ := cells2s Rb_9
    cases ok
    · have K6 := box (KO.out rfl)
      clear KO
      obtain rfl : (5 : Int) = fl := HFL.out
      go_wp2_with fail
      refine (K6.out _).mono ?_
      rintro r w10 ⟨rfl, b10⟩
      have B10 : Below w.heap.size w w10 := btr B9 b10
      have Rx_10 := heap_of b10 _ _ _ Rx_9
      have Rz_10 := heap_of b10 _ _ _ Rz_9
      have Rd_10 := heap_of b10 _ _ _ Rd_9
      have Rr_10 := heap_of b10 _ _ _ Rr_9
      have Rb_10 := heap_of b10 _ _ _ Rb_9
      clear b10 B9 Rx_9 cx_9_0 cx_9_1 cx_9_2 cx_9_3 Rz_9 cz_9_0 cz_9_1 Rd_9 cd_9_0 cd_9_1 cd_9_2 cd_9_3 Rr_9 cr_9_0 cr_9_1 cr_9_2 cr_9_3 Rb_9 cb_9_0 cb_9_1
      obtain ⟨cx_10_0, cx_10_1, cx_10_2, cx_10_3⟩ := cells4s Rx_10
      obtain ⟨cz_10_0, cz_10_1⟩ := cells2s Rz_10
      obtain ⟨cd_10_0, cd_10_1, cd_10_2, cd_10_3⟩ := cells4s Rd_10
      obtain ⟨cr_10_0, cr_10_1, cr_10_2, cr_10_3⟩ := cells4s Rr_10
      obtain ⟨cb_10_0, cb_10_1⟩ := cells2s Rb_10
      have q0 := fz (k := 0) Rz_10
      have q1 := fz (k := 1) Rz_10
      obtain ⟨E0, E1⟩ := set2_cells Rz_10 (.int .u64 (u : Nat)) (.int .u64 (v : Nat))
      go_wp2
      exact bodyPost_ret (v := .tuple #[.agg #[.int .u64 (u : Nat), .int .u64 (v : Nat)], .int .u8 5]) (by simp [results, Tryz.results40, go_sem, E0, E1]) rfl ⟨rfl, set2_below B10 (by first | exact Nat.le_refl _ | omega | (have := S6.out; have := Lx_6.out; have := Lz_6.out; have := H7.out; have := S9.out; have := Lx_9.out; have := Lz_9.out; have := Ld_9.out; have := Lr_9.out; omega)) _ _⟩
    · obtain ⟨rfl, rfl⟩ := HIJ.out rfl
      clear KO
      cases ex
      · cases o
        · obtain rfl : (1 : Int) = fl := HFL.out
          go_wp2_with fail
          refine (KN.out _).mono ?_
          rintro r w10 ⟨rfl, b10⟩
          have B10 : Below w.heap.size w w10 := btr B9 b10
          have Rx_10 := heap_of b10 _ _ _ Rx_9
          have Rz_10 := heap_of b10 _ _ _ Rz_9
          have Rd_10 := heap_of b10 _ _ _ Rd_9
          have Rr_10 := heap_of b10 _ _ _ Rr_9
          have Rb_10 := heap_of b10 _ _ _ Rb_9
          clear b10 B9 Rx_9 cx_9_0 cx_9_1 cx_9_2 cx_9_3 Rz_9 cz_9_0 cz_9_1 Rd_9 cd_9_0 cd_9_1 cd_9_2 cd_9_3 Rr_9 cr_9_0 cr_9_1 cr_9_2 cr_9_3 Rb_9 cb_9_0 cb_9_1
          obtain ⟨cx_10_0, cx_10_1, cx_10_2, cx_10_3⟩ := cells4s Rx_10
          obtain ⟨cz_10_0, cz_10_1⟩ := cells2s Rz_10
          obtain ⟨cd_10_0, cd_10_1, cd_10_2, cd_10_3⟩ := cells4s Rd_10
          obtain ⟨cr_10_0, cr_10_1, cr_10_2, cr_10_3⟩ := cells4s Rr_10
          obtain ⟨cb_10_0, cb_10_1⟩ := cells2s Rb_10
          have q0 := fz (k := 0) Rz_10
          have q1 := fz (k := 1) Rz_10
          obtain ⟨E0, E1⟩ := set2_cells Rz_10 (.int .u64 (i : Nat)) (.int .u64 (j : Nat))
          go_wp2
          exact bodyPost_ret (v := .tuple #[.agg #[.int .u64 (i : Nat), .int .u64 (j : Nat)], .int .u8 1]) (by simp [results, Tryz.results40, go_sem, E0, E1]) rfl ⟨rfl, set2_below B10 (by first | exact Nat.le_refl _ | omega | (have := S6.out; have := Lx_6.out; have := Lz_6.out; have := H7.out; have := S9.out; have := Lx_9.out; have := Lz_9.out; have := Ld_9.out; have := Lr_9.out; omega)) _ _⟩
        · obtain rfl : (3 : Int) = fl := HFL.out
          go_wp2_with fail
          refine (KN.out _).mono ?_
          rintro r w10 ⟨rfl, b10⟩
          have B10 : Below w.heap.size w w10 := btr B9 b10
          have Rx_10 := heap_of b10 _ _ _ Rx_9
          have Rz_10 := heap_of b10 _ _ _ Rz_9
          have Rd_10 := heap_of b10 _ _ _ Rd_9
          have Rr_10 := heap_of b10 _ _ _ Rr_9
          have Rb_10 := heap_of b10 _ _ _ Rb_9
          clear b10 B9 Rx_9 cx_9_0 cx_9_1 cx_9_2 cx_9_3 Rz_9 cz_9_0 cz_9_1 Rd_9 cd_9_0 cd_9_1 cd_9_2 cd_9_3 Rr_9 cr_9_0 cr_9_1 cr_9_2 cr_9_3 Rb_9 cb_9_0 cb_9_1
          obtain ⟨cx_10_0, cx_10_1, cx_10_2, cx_10_3⟩ := cells4s Rx_10
          obtain ⟨cz_10_0, cz_10_1⟩ := cells2s Rz_10
          obtain ⟨cd_10_0, cd_10_1, cd_10_2, cd_10_3⟩ := cells4s Rd_10
          obtain ⟨cr_10_0, cr_10_1, cr_10_2, cr_10_3⟩ := cells4s Rr_10
          obtain ⟨cb_10_0, cb_10_1⟩ := cells2s Rb_10
          have q0 := fz (k := 0) Rz_10
          have q1 := fz (k := 1) Rz_10
          obtain ⟨E0, E1⟩ := set2_cells Rz_10 (.int .u64 (i : Nat)) (.int .u64 (j : Nat))
          go_wp2
          exact bodyPost_ret (v := .tuple #[.agg #[.int .u64 (i : Nat), .int .u64 (j : Nat)], .int .u8 3]) (by simp [results, Tryz.results40, go_sem, E0, E1]) rfl ⟨rfl, set2_below B10 (by first | exact Nat.le_refl _ | omega | (have := S6.out; have := Lx_6.out; have := Lz_6.out; have := H7.out; have := S9.out; have := Lx_9.out; have := Lz_9.out; have := Ld_9.out; have := Lr_9.out; omega)) _ _⟩
      · obtain rfl : (0 : Int) = fl := HFL.out
        have q0 := fz (k := 0) Rz_9
        have q1 := fz (k := 1) Rz_9
        obtain ⟨E0, E1⟩ := set2_cells Rz_9 (.int .u64 (i : Nat)) (.int .u64 (j : Nat))
        go_wp2
        exact bodyPost_ret (v := .tuple #[.agg #[.int .u64 (i : Nat), .int .u64 (j : Nat)], .int .u8 0]) (by simp [results, Tryz.results40, go_sem, E0, E1]) rfl ⟨rfl, set2_below B9 (by first | exact Nat.le_refl _ | omega | (have := S6.out; have := Lx_6.out; have := Lz_6.out; have := H7.out; have := S9.out; have := Lx_9.out; have := Lz_9.out; have := Ld_9.out; have := Lr_9.out; omega)) _ _⟩
  · have K5 := box (KZ.out rfl)
    clear KZ KB
    obtain rfl : (3 : Int) = fl := HFL.out
    go_wp2_with fail
    refine (K5.out _).mono ?_
    rintro r w8 ⟨rfl, b8⟩
    have B8 : Below w.heap.size w w8 := btr B7 b8
    have Rx_8 := heap_of b8 _ _ _ Rx_7
    have Rz_8 := heap_of b8 _ _ _ Rz_7
    have Rd_8 := heap_of b8 _ _ _ Rd_7
    have Rr_8 := heap_of b8 _ _ _ Rr_7
    clear b8 B7 Rx_7 cx_7_0 cx_7_1 cx_7_2 cx_7_3 Rz_7 cz_7_0 cz_7_1 Rd_7 cd_7_0 cd_7_1 cd_7_2 cd_7_3 Rr_7 cr_7_0 cr_7_1 cr_7_2 cr_7_3
    obtain ⟨cx_8_0, cx_8_1, cx_8_2, cx_8_3⟩ := cells4s Rx_8
    obtain ⟨cz_8_0, cz_8_1⟩ := cells2s Rz_8
    obtain ⟨cd_8_0, cd_8_1, cd_8_2, cd_8_3⟩ := cells4s Rd_8
    obtain ⟨cr_8_0, cr_8_1, cr_8_2, cr_8_3⟩ := cells4s Rr_8
    have q0 := fz (k := 0) Rz_8
    have q1 := fz (k := 1) Rz_8
    obtain ⟨E0, E1⟩ := set2_cells Rz_8 (.int .u64 (u : Nat)) (.int .u64 (v : Nat))
    go_wp2
    exact bodyPost_ret (v := .tuple #[.agg #[.int .u64 (u : Nat), .int .u64 (v : Nat)], .int .u8 3]) (by simp [results, Tryz.results40, go_sem, E0, E1]) rfl ⟨rfl, set2_below B8 (by first | exact Nat.le_refl _ | omega | (have := S6.out; have := Lx_6.out; have := Lz_6.out; have := H7.out; omega)) _ _⟩
end Go.Proofs.YtpdehipeakcaiaaGreatDoor
