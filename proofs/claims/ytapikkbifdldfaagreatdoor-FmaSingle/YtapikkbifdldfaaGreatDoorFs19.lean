/-
  What the functions that the statement reaches return: part 19 (F9).
-/
import Derived.Test.YtapikkbifdldfaaGreatDoorFs18
namespace Go.Proofs.YtapikkbifdldfaaGreatDoor
set_option maxRecDepth 100000
set_option maxHeartbeats 40000000
set_option maxRecDepth 100000
open Go.RowKit WMath
set_option linter.unusedSimpArgs false
set_option linter.unusedVariables false
theorem gen_abacuslaw15_FmaSingle_17 {X : Act → World → Prop} {R : World → Nat → Prop} {t0 t1 t2 t3 t4 t5 t6 t7 t8 t9 t10 t11 t12 t13 t14 t15 t16 t18 t19 t20 t21 t22 t23 t24 t25 t26 t27 t28 t29 t30 t31 t32 t33 t34 t35 t36 t37 t38 t39 t40 t41 t42 t43 t44 t45 t46 t47 t48 t49 t50 t51 t52 t53 t54 t55 t56 t57 t58 t59 t60 t61 t62 t63 t64 t65 t66 t67 t68 t69 t70 t71 t72 t73 t74 t75 t76 t77 t78 t79 t80 t81 t82 t83 t84 t85 t86 t87 t88 t89 t90 t91 t92 t93 t94 t95 t96 t97 t98 t99 t100 t101 t102 t103 t104 t105 t106 t107 t108 t109 t110 t111 t112 t113 t114 t115 t116 t117 t118 t119 t120 t121 t122 t123 t124 t125 t126 t127 t128 t129 t130 t131 t132 t133 t134 t135 t136 t137 t138 t139 t140 t141 t142 t143 t144 t145 t146 : Value} {d : List Deferred} {W : World} {G : Nat}
    (key : ∀ w5 g, R w5 g → X ⟨#[t0, t1, t2, t3, t4, t5, t6, t7, t8, t9, t10, t11, t12, t13, t14, t15, t16, .pointer (some ⟨g, 0, none⟩), t18, t19, t20, t21, t22, t23, t24, t25, t26, t27, t28, t29, t30, t31, t32, t33, t34, t35, t36, t37, t38, t39, t40, t41, t42, t43, t44, t45, t46, t47, t48, t49, t50, t51, t52, t53, t54, t55, t56, t57, t58, t59, t60, t61, t62, t63, t64, t65, t66, t67, t68, t69, t70, t71, t72, t73, t74, t75, t76, t77, t78, t79, t80, t81, t82, t83, t84, t85, t86, t87, t88, t89, t90, t91, t92, t93, t94, t95, t96, t97, t98, t99, t100, t101, t102, t103, t104, t105, t106, t107, t108, t109, t110, t111, t112, t113, t114, t115, t116, t117, t118, t119, t120, t121, t122, t123, t124, t125, t126, t127, t128, t129, t130, t131, t132, t133, t134, t135, t136, t137, t138, t139, t140, t141, t142, t143, t144, t145, t146], d⟩ w5) (r : R W G) : X ⟨#[t0, t1, t2, t3, t4, t5, t6, t7, t8, t9, t10, t11, t12, t13, t14, t15, t16, .pointer (some ⟨G, 0, none⟩), t18, t19, t20, t21, t22, t23, t24, t25, t26, t27, t28, t29, t30, t31, t32, t33, t34, t35, t36, t37, t38, t39, t40, t41, t42, t43, t44, t45, t46, t47, t48, t49, t50, t51, t52, t53, t54, t55, t56, t57, t58, t59, t60, t61, t62, t63, t64, t65, t66, t67, t68, t69, t70, t71, t72, t73, t74, t75, t76, t77, t78, t79, t80, t81, t82, t83, t84, t85, t86, t87, t88, t89, t90, t91, t92, t93, t94, t95, t96, t97, t98, t99, t100, t101, t102, t103, t104, t105, t106, t107, t108, t109, t110, t111, t112, t113, t114, t115, t116, t117, t118, t119, t120, t121, t122, t123, t124, t125, t126, t127, t128, t129, t130, t131, t132, t133, t134, t135, t136, t137, t138, t139, t140, t141, t142, t143, t144, t145, t146], d⟩ W := key W G r
theorem gen_abacuslaw15_FmaSingle_23 {X : Act → World → Prop} {R : World → Nat → Prop} {t0 t1 t2 t3 t4 t5 t6 t7 t8 t9 t10 t11 t12 t13 t14 t15 t16 t17 t18 t19 t20 t21 t22 t24 t25 t26 t27 t28 t29 t30 t31 t32 t33 t34 t35 t36 t37 t38 t39 t40 t41 t42 t43 t44 t45 t46 t47 t48 t49 t50 t51 t52 t53 t54 t55 t56 t57 t58 t59 t60 t61 t62 t63 t64 t65 t66 t67 t68 t69 t70 t71 t72 t73 t74 t75 t76 t77 t78 t79 t80 t81 t82 t83 t84 t85 t86 t87 t88 t89 t90 t91 t92 t93 t94 t95 t96 t97 t98 t99 t100 t101 t102 t103 t104 t105 t106 t107 t108 t109 t110 t111 t112 t113 t114 t115 t116 t117 t118 t119 t120 t121 t122 t123 t124 t125 t126 t127 t128 t129 t130 t131 t132 t133 t134 t135 t136 t137 t138 t139 t140 t141 t142 t143 t144 t145 t146 : Value} {d : List Deferred} {W : World} {G : Nat}
    (key : ∀ w5 g, R w5 g → X ⟨#[t0, t1, t2, t3, t4, t5, t6, t7, t8, t9, t10, t11, t12, t13, t14, t15, t16, t17, t18, t19, t20, t21, t22, .pointer (some ⟨g, 0, none⟩), t24, t25, t26, t27, t28, t29, t30, t31, t32, t33, t34, t35, t36, t37, t38, t39, t40, t41, t42, t43, t44, t45, t46, t47, t48, t49, t50, t51, t52, t53, t54, t55, t56, t57, t58, t59, t60, t61, t62, t63, t64, t65, t66, t67, t68, t69, t70, t71, t72, t73, t74, t75, t76, t77, t78, t79, t80, t81, t82, t83, t84, t85, t86, t87, t88, t89, t90, t91, t92, t93, t94, t95, t96, t97, t98, t99, t100, t101, t102, t103, t104, t105, t106, t107, t108, t109, t110, t111, t112, t113, t114, t115, t116, t117, t118, t119, t120, t121, t122, t123, t124, t125, t126, t127, t128, t129, t130, t131, t132, t133, t134, t135, t136, t137, t138, t139, t140, t141, t142, t143, t144, t145, t146], d⟩ w5) (r : R W G) : X ⟨#[t0, t1, t2, t3, t4, t5, t6, t7, t8, t9, t10, t11, t12, t13, t14, t15, t16, t17, t18, t19, t20, t21, t22, .pointer (some ⟨G, 0, none⟩), t24, t25, t26, t27, t28, t29, t30, t31, t32, t33, t34, t35, t36, t37, t38, t39, t40, t41, t42, t43, t44, t45, t46, t47, t48, t49, t50, t51, t52, t53, t54, t55, t56, t57, t58, t59, t60, t61, t62, t63, t64, t65, t66, t67, t68, t69, t70, t71, t72, t73, t74, t75, t76, t77, t78, t79, t80, t81, t82, t83, t84, t85, t86, t87, t88, t89, t90, t91, t92, t93, t94, t95, t96, t97, t98, t99, t100, t101, t102, t103, t104, t105, t106, t107, t108, t109, t110, t111, t112, t113, t114, t115, t116, t117, t118, t119, t120, t121, t122, t123, t124, t125, t126, t127, t128, t129, t130, t131, t132, t133, t134, t135, t136, t137, t138, t139, t140, t141, t142, t143, t144, t145, t146], d⟩ W := key W G r

set_option maxRecDepth 100000 in
set_option maxHeartbeats 8000000 in
theorem fs_err (f m : Int) (x1 y1 x2 y2 x3 y3 : Nat) (u v : Nat) (fl : Int) (w : World)
    (K1 : Box (∀ w, FAt w → Calls Tryz.prog 12 #[.int .u8 f, .int .u8 m, .agg #[.int .u64 (x1 : Nat), .int .u64 (y1 : Nat)], .agg #[.int .u64 (x2 : Nat), .int .u64 (y2 : Nat)], .agg #[.int .u64 (x3 : Nat), .int .u64 (y3 : Nat)]] w fun r w' => r = .returned (.tuple #[.agg #[.int .u64 (u : Nat), .int .u64 (v : Nat)], .int .u8 fl, .int .i64 2]) ∧ Below w.heap.size w w'))
    (K2 : Box (∀ w, FAt w → Calls Tryz.prog 12 #[.int .u8 f, .int .u8 m, .agg #[.int .u64 (x2 : Nat), .int .u64 (y2 : Nat)], .agg #[.int .u64 (x1 : Nat), .int .u64 (y1 : Nat)], .agg #[.int .u64 (x3 : Nat), .int .u64 (y3 : Nat)]] w fun r w' => r = .returned (.tuple #[.agg #[.int .u64 (u : Nat), .int .u64 (v : Nat)], .int .u8 fl, .int .i64 2]) ∧ Below w.heap.size w w'))
    (KA : Box (∀ w, FAt w → Calls Tryz.prog 14 #[] w fun r w' => r = .returned (.bool true) ∧ Below w.heap.size w w')) (hT : FAt w) : Calls Tryz.prog 7 #[.int .u8 f, .int .u8 m, .agg #[.int .u64 (x1 : Nat), .int .u64 (y1 : Nat)], .agg #[.int .u64 (x2 : Nat), .int .u64 (y2 : Nat)], .agg #[.int .u64 (x3 : Nat), .int .u64 (y3 : Nat)]] w fun r w' => r = .returned (.bool true) ∧ Below w.heap.size w w' := by
  have FF := box hT
  clear hT
  obtain ⟨Ra_0, Rb_0, Rc_0, B0⟩ := opn3 w (Obj.cells #[.int .u64 (x1 : Nat), .int .u64 (y1 : Nat)] 26) (Obj.cells #[.int .u64 (x2 : Nat), .int .u64 (y2 : Nat)] 26) (Obj.cells #[.int .u64 (x3 : Nat), .int .u64 (y3 : Nat)] 26)
  go_enter Tryz.func7, Tryz.ntmps7
  obtain ⟨ca_0_0, ca_0_1⟩ := cells2s Ra_0
  obtain ⟨cb_0_0, cb_0_1⟩ := cells2s Rb_0
  obtain ⟨cc_0_0, cc_0_1⟩ := cells2s Rc_0
  go_wp2_with fail
  refine (K1.out _ (fatB FF.out B0)).mono ?_
  rintro r w1 ⟨rfl, b1⟩
  have B1 : Below w.heap.size w w1 := btr B0 b1
  have Ra_1 := heap_of b1 _ _ _ Ra_0
  have Rb_1 := heap_of b1 _ _ _ Rb_0
  have Rc_1 := heap_of b1 _ _ _ Rc_0
  clear b1 B0 Ra_0 ca_0_0 ca_0_1 Rb_0 cb_0_0 cb_0_1 Rc_0 cc_0_0 cc_0_1
  obtain ⟨ca_1_0, ca_1_1⟩ := cells2s Ra_1
  obtain ⟨cb_1_0, cb_1_1⟩ := cells2s Rb_1
  obtain ⟨cc_1_0, cc_1_1⟩ := cells2s Rc_1
  have S2 := box B1.size
  have La_2 : Box (w.heap.size < w1.heap.size) := box (Array.getElem?_eq_some_iff.1 Ra_1).1
  have Lb_2 : Box (w.heap.size + 1 < w1.heap.size) := box (Array.getElem?_eq_some_iff.1 Rb_1).1
  have Lc_2 : Box (w.heap.size + 1 + 1 < w1.heap.size) := box (Array.getElem?_eq_some_iff.1 Rc_1).1
  have Rx_2 := heap_alloc_last w1 (Obj.cells #[.int .u64 (u : Nat), .int .u64 (v : Nat)] 26)
  have B2 := btr B1 (bal w1 (Obj.cells #[.int .u64 (u : Nat), .int .u64 (v : Nat)] 26))
  have Ra_2 := heap_of (bal w1 (Obj.cells #[.int .u64 (u : Nat), .int .u64 (v : Nat)] 26)) _ _ _ Ra_1
  have Rb_2 := heap_of (bal w1 (Obj.cells #[.int .u64 (u : Nat), .int .u64 (v : Nat)] 26)) _ _ _ Rb_1
  have Rc_2 := heap_of (bal w1 (Obj.cells #[.int .u64 (u : Nat), .int .u64 (v : Nat)] 26)) _ _ _ Rc_1
  clear B1 Ra_1 ca_1_0 ca_1_1 Rb_1 cb_1_0 cb_1_1 Rc_1 cc_1_0 cc_1_1
  obtain ⟨ca_2_0, ca_2_1⟩ := cells2s Ra_2
  obtain ⟨cb_2_0, cb_2_1⟩ := cells2s Rb_2
  obtain ⟨cc_2_0, cc_2_1⟩ := cells2s Rc_2
  obtain ⟨cx_2_0, cx_2_1⟩ := cells2s Rx_2
  go_wp2_with fail
  refine (K2.out _ (fatB FF.out B2)).mono ?_
  rintro r w3 ⟨rfl, b3⟩
  have B3 : Below w.heap.size w w3 := btr B2 b3
  have Ra_3 := heap_of b3 _ _ _ Ra_2
  have Rb_3 := heap_of b3 _ _ _ Rb_2
  have Rc_3 := heap_of b3 _ _ _ Rc_2
  have Rx_3 := heap_of b3 _ _ _ Rx_2
  clear b3 B2 Ra_2 ca_2_0 ca_2_1 Rb_2 cb_2_0 cb_2_1 Rc_2 cc_2_0 cc_2_1 Rx_2 cx_2_0 cx_2_1
  obtain ⟨ca_3_0, ca_3_1⟩ := cells2s Ra_3
  obtain ⟨cb_3_0, cb_3_1⟩ := cells2s Rb_3
  obtain ⟨cc_3_0, cc_3_1⟩ := cells2s Rc_3
  obtain ⟨cx_3_0, cx_3_1⟩ := cells2s Rx_3
  have S4 := box B3.size
  have La_4 : Box (w.heap.size < w3.heap.size) := box (Array.getElem?_eq_some_iff.1 Ra_3).1
  have Lb_4 : Box (w.heap.size + 1 < w3.heap.size) := box (Array.getElem?_eq_some_iff.1 Rb_3).1
  have Lc_4 : Box (w.heap.size + 1 + 1 < w3.heap.size) := box (Array.getElem?_eq_some_iff.1 Rc_3).1
  have Lx_4 : Box (w1.heap.size < w3.heap.size) := box (Array.getElem?_eq_some_iff.1 Rx_3).1
  have Ry_4 := heap_alloc_last w3 (Obj.cells #[.int .u64 (u : Nat), .int .u64 (v : Nat)] 26)
  have B4 := btr B3 (bal w3 (Obj.cells #[.int .u64 (u : Nat), .int .u64 (v : Nat)] 26))
  have Ra_4 := heap_of (bal w3 (Obj.cells #[.int .u64 (u : Nat), .int .u64 (v : Nat)] 26)) _ _ _ Ra_3
  have Rb_4 := heap_of (bal w3 (Obj.cells #[.int .u64 (u : Nat), .int .u64 (v : Nat)] 26)) _ _ _ Rb_3
  have Rc_4 := heap_of (bal w3 (Obj.cells #[.int .u64 (u : Nat), .int .u64 (v : Nat)] 26)) _ _ _ Rc_3
  have Rx_4 := heap_of (bal w3 (Obj.cells #[.int .u64 (u : Nat), .int .u64 (v : Nat)] 26)) _ _ _ Rx_3
  clear B3 Ra_3 ca_3_0 ca_3_1 Rb_3 cb_3_0 cb_3_1 Rc_3 cc_3_0 cc_3_1 Rx_3 cx_3_0 cx_3_1
  obtain ⟨ca_4_0, ca_4_1⟩ := cells2s Ra_4
  obtain ⟨cb_4_0, cb_4_1⟩ := cells2s Rb_4
  obtain ⟨cc_4_0, cc_4_1⟩ := cells2s Rc_4
  obtain ⟨cx_4_0, cx_4_1⟩ := cells2s Rx_4
  obtain ⟨cy_4_0, cy_4_1⟩ := cells2s Ry_4
  go_wp2_with fail
  refine (KA.out _ (fatB FF.out B4)).mono ?_
  rintro r w5 ⟨rfl, b5⟩
  have B5 : Below w.heap.size w w5 := btr B4 b5
  have Ra_5 := heap_of b5 _ _ _ Ra_4
  have Rb_5 := heap_of b5 _ _ _ Rb_4
  have Rc_5 := heap_of b5 _ _ _ Rc_4
  have Rx_5 := heap_of b5 _ _ _ Rx_4
  have Ry_5 := heap_of b5 _ _ _ Ry_4
  clear b5 B4 Ra_4 ca_4_0 ca_4_1 Rb_4 cb_4_0 cb_4_1 Rc_4 cc_4_0 cc_4_1 Rx_4 cx_4_0 cx_4_1 Ry_4 cy_4_0 cy_4_1
  obtain ⟨ca_5_0, ca_5_1⟩ := cells2s Ra_5
  obtain ⟨cb_5_0, cb_5_1⟩ := cells2s Rb_5
  obtain ⟨cc_5_0, cc_5_1⟩ := cells2s Rc_5
  obtain ⟨cx_5_0, cx_5_1⟩ := cells2s Rx_5
  obtain ⟨cy_5_0, cy_5_1⟩ := cells2s Ry_5
  go_wp2
  go_ret
  exact ⟨rfl, B5⟩
set_option maxRecDepth 100000 in
set_option maxHeartbeats 8000000 in
theorem fs_yes (f m : Int) (x1 y1 x2 y2 x3 y3 : Nat) (u v : Nat) (fl : Int) (s1 s2 neg : Bool) (hng : (!(s1 == s2)) = neg) (p q i j : Nat) (gl : Int) (d h k l : Nat) (hl : Int) (w : World)
    (K1 : Box (∀ w, FAt w → Calls Tryz.prog 12 #[.int .u8 f, .int .u8 m, .agg #[.int .u64 (x1 : Nat), .int .u64 (y1 : Nat)], .agg #[.int .u64 (x2 : Nat), .int .u64 (y2 : Nat)], .agg #[.int .u64 (x3 : Nat), .int .u64 (y3 : Nat)]] w fun r w' => r = .returned (.tuple #[.agg #[.int .u64 (u : Nat), .int .u64 (v : Nat)], .int .u8 fl, .int .i64 0]) ∧ Below w.heap.size w w'))
    (K2 : Box (∀ w, FAt w → Calls Tryz.prog 12 #[.int .u8 f, .int .u8 m, .agg #[.int .u64 (x2 : Nat), .int .u64 (y2 : Nat)], .agg #[.int .u64 (x1 : Nat), .int .u64 (y1 : Nat)], .agg #[.int .u64 (x3 : Nat), .int .u64 (y3 : Nat)]] w fun r w' => r = .returned (.tuple #[.agg #[.int .u64 (u : Nat), .int .u64 (v : Nat)], .int .u8 fl, .int .i64 0]) ∧ Below w.heap.size w w'))
    (KS1 : Box (∀ w, FAt w → Calls Tryz.prog 22 #[.int .u8 f, .agg #[.int .u64 (x1 : Nat), .int .u64 (y1 : Nat)]] w fun r w' => r = .returned (.bool s1) ∧ Below w.heap.size w w'))
    (KS2 : Box (∀ w, FAt w → Calls Tryz.prog 22 #[.int .u8 f, .agg #[.int .u64 (x2 : Nat), .int .u64 (y2 : Nat)]] w fun r w' => r = .returned (.bool s2) ∧ Below w.heap.size w w'))
    (KZ : Box (∀ w, FAt w → Calls Tryz.prog 21 #[.int .u8 f, .bool neg] w fun r w' => r = .returned (.agg #[.int .u64 (p : Nat), .int .u64 (q : Nat)]) ∧ Below w.heap.size w w'))
    (K3 : Box (∀ w, FAt w → Calls Tryz.prog 12 #[.int .u8 f, .int .u8 m, .agg #[.int .u64 (x1 : Nat), .int .u64 (y1 : Nat)], .agg #[.int .u64 (x2 : Nat), .int .u64 (y2 : Nat)], .agg #[.int .u64 (p : Nat), .int .u64 (q : Nat)]] w fun r w' => r = .returned (.tuple #[.agg #[.int .u64 (i : Nat), .int .u64 (j : Nat)], .int .u8 gl, .int .i64 0]) ∧ Below w.heap.size w w'))
    (K4 : Box (∀ w, FAt w → Calls Tryz.prog 23 #[.int .u8 f, .int .u8 m, .agg #[.int .u64 (x1 : Nat), .int .u64 (y1 : Nat)], .agg #[.int .u64 (x2 : Nat), .int .u64 (y2 : Nat)]] w fun r w' => r = .returned (.tuple #[.agg #[.int .u64 (i : Nat), .int .u64 (j : Nat)], .int .u8 gl, .int .i64 0]) ∧ Below w.heap.size w w'))
    (KO : Box (∀ w, FAt w → Calls Tryz.prog 24 #[.int .u8 f, .bool false] w fun r w' => r = .returned (.agg #[.int .u64 (d : Nat), .int .u64 (h : Nat)]) ∧ Below w.heap.size w w'))
    (K5 : Box (∀ w, FAt w → Calls Tryz.prog 12 #[.int .u8 f, .int .u8 m, .agg #[.int .u64 (x1 : Nat), .int .u64 (y1 : Nat)], .agg #[.int .u64 (d : Nat), .int .u64 (h : Nat)], .agg #[.int .u64 (x3 : Nat), .int .u64 (y3 : Nat)]] w fun r w' => r = .returned (.tuple #[.agg #[.int .u64 (k : Nat), .int .u64 (l : Nat)], .int .u8 hl, .int .i64 0]) ∧ Below w.heap.size w w'))
    (K6 : Box (∀ w, FAt w → Calls Tryz.prog 25 #[.int .u8 f, .int .u8 m, .agg #[.int .u64 (x1 : Nat), .int .u64 (y1 : Nat)], .agg #[.int .u64 (x3 : Nat), .int .u64 (y3 : Nat)]] w fun r w' => r = .returned (.tuple #[.agg #[.int .u64 (k : Nat), .int .u64 (l : Nat)], .int .u8 hl, .int .i64 0]) ∧ Below w.heap.size w w'))
    (KA : Box (∀ w, FAt w → Calls Tryz.prog 14 #[] w fun r w' => r = .returned (.bool true) ∧ Below w.heap.size w w')) (hT : FAt w) : Calls Tryz.prog 7 #[.int .u8 f, .int .u8 m, .agg #[.int .u64 (x1 : Nat), .int .u64 (y1 : Nat)], .agg #[.int .u64 (x2 : Nat), .int .u64 (y2 : Nat)], .agg #[.int .u64 (x3 : Nat), .int .u64 (y3 : Nat)]] w fun r w' => r = .returned (.bool true) ∧ Below w.heap.size w w' := by
  have FF := box hT
  clear hT
  obtain ⟨Ra_0, Rb_0, Rc_0, B0⟩ := opn3 w (Obj.cells #[.int .u64 (x1 : Nat), .int .u64 (y1 : Nat)] 26) (Obj.cells #[.int .u64 (x2 : Nat), .int .u64 (y2 : Nat)] 26) (Obj.cells #[.int .u64 (x3 : Nat), .int .u64 (y3 : Nat)] 26)
  go_enter Tryz.func7, Tryz.ntmps7
  obtain ⟨ca_0_0, ca_0_1⟩ := cells2s Ra_0
  obtain ⟨cb_0_0, cb_0_1⟩ := cells2s Rb_0
  obtain ⟨cc_0_0, cc_0_1⟩ := cells2s Rc_0
  go_wp2_with fail
  refine (K1.out _ (fatB FF.out B0)).mono ?_
  rintro r w1 ⟨rfl, b1⟩
  have B1 : Below w.heap.size w w1 := btr B0 b1
  have Ra_1 := heap_of b1 _ _ _ Ra_0
  have Rb_1 := heap_of b1 _ _ _ Rb_0
  have Rc_1 := heap_of b1 _ _ _ Rc_0
  clear b1 B0 Ra_0 ca_0_0 ca_0_1 Rb_0 cb_0_0 cb_0_1 Rc_0 cc_0_0 cc_0_1
  obtain ⟨ca_1_0, ca_1_1⟩ := cells2s Ra_1
  obtain ⟨cb_1_0, cb_1_1⟩ := cells2s Rb_1
  obtain ⟨cc_1_0, cc_1_1⟩ := cells2s Rc_1
  have S2 := box B1.size
  have La_2 : Box (w.heap.size < w1.heap.size) := box (Array.getElem?_eq_some_iff.1 Ra_1).1
  have Lb_2 : Box (w.heap.size + 1 < w1.heap.size) := box (Array.getElem?_eq_some_iff.1 Rb_1).1
  have Lc_2 : Box (w.heap.size + 1 + 1 < w1.heap.size) := box (Array.getElem?_eq_some_iff.1 Rc_1).1
  have Rx_2 := heap_alloc_last w1 (Obj.cells #[.int .u64 (u : Nat), .int .u64 (v : Nat)] 26)
  have B2 := btr B1 (bal w1 (Obj.cells #[.int .u64 (u : Nat), .int .u64 (v : Nat)] 26))
  have Ra_2 := heap_of (bal w1 (Obj.cells #[.int .u64 (u : Nat), .int .u64 (v : Nat)] 26)) _ _ _ Ra_1
  have Rb_2 := heap_of (bal w1 (Obj.cells #[.int .u64 (u : Nat), .int .u64 (v : Nat)] 26)) _ _ _ Rb_1
  have Rc_2 := heap_of (bal w1 (Obj.cells #[.int .u64 (u : Nat), .int .u64 (v : Nat)] 26)) _ _ _ Rc_1
  clear B1 Ra_1 ca_1_0 ca_1_1 Rb_1 cb_1_0 cb_1_1 Rc_1 cc_1_0 cc_1_1
  obtain ⟨ca_2_0, ca_2_1⟩ := cells2s Ra_2
  obtain ⟨cb_2_0, cb_2_1⟩ := cells2s Rb_2
  obtain ⟨cc_2_0, cc_2_1⟩ := cells2s Rc_2
  obtain ⟨cx_2_0, cx_2_1⟩ := cells2s Rx_2
  go_wp2_with fail
  refine (K2.out _ (fatB FF.out B2)).mono ?_
  rintro r w3 ⟨rfl, b3⟩
  have B3 : Below w.heap.size w w3 := btr B2 b3
  have Ra_3 := heap_of b3 _ _ _ Ra_2
  have Rb_3 := heap_of b3 _ _ _ Rb_2
  have Rc_3 := heap_of b3 _ _ _ Rc_2
  have Rx_3 := heap_of b3 _ _ _ Rx_2
  clear b3 B2 Ra_2 ca_2_0 ca_2_1 Rb_2 cb_2_0 cb_2_1 Rc_2 cc_2_0 cc_2_1 Rx_2 cx_2_0 cx_2_1
  obtain ⟨ca_3_0, ca_3_1⟩ := cells2s Ra_3
  obtain ⟨cb_3_0, cb_3_1⟩ := cells2s Rb_3
  obtain ⟨cc_3_0, cc_3_1⟩ := cells2s Rc_3
  obtain ⟨cx_3_0, cx_3_1⟩ := cells2s Rx_3
  have S4 := box B3.size
  have La_4 : Box (w.heap.size < w3.heap.size) := box (Array.getElem?_eq_some_iff.1 Ra_3).1
  have Lb_4 : Box (w.heap.size + 1 < w3.heap.size) := box (Array.getElem?_eq_some_iff.1 Rb_3).1
  have Lc_4 : Box (w.heap.size + 1 + 1 < w3.heap.size) := box (Array.getElem?_eq_some_iff.1 Rc_3).1
  have Lx_4 : Box (w1.heap.size < w3.heap.size) := box (Array.getElem?_eq_some_iff.1 Rx_3).1
  have Ry_4 := heap_alloc_last w3 (Obj.cells #[.int .u64 (u : Nat), .int .u64 (v : Nat)] 26)
  have B4 := btr B3 (bal w3 (Obj.cells #[.int .u64 (u : Nat), .int .u64 (v : Nat)] 26))
  have Ra_4 := heap_of (bal w3 (Obj.cells #[.int .u64 (u : Nat), .int .u64 (v : Nat)] 26)) _ _ _ Ra_3
  have Rb_4 := heap_of (bal w3 (Obj.cells #[.int .u64 (u : Nat), .int .u64 (v : Nat)] 26)) _ _ _ Rb_3
  have Rc_4 := heap_of (bal w3 (Obj.cells #[.int .u64 (u : Nat), .int .u64 (v : Nat)] 26)) _ _ _ Rc_3
  have Rx_4 := heap_of (bal w3 (Obj.cells #[.int .u64 (u : Nat), .int .u64 (v : Nat)] 26)) _ _ _ Rx_3
  clear B3 Ra_3 ca_3_0 ca_3_1 Rb_3 cb_3_0 cb_3_1 Rc_3 cc_3_0 cc_3_1 Rx_3 cx_3_0 cx_3_1
  obtain ⟨ca_4_0, ca_4_1⟩ := cells2s Ra_4
  obtain ⟨cb_4_0, cb_4_1⟩ := cells2s Rb_4
  obtain ⟨cc_4_0, cc_4_1⟩ := cells2s Rc_4
  obtain ⟨cx_4_0, cx_4_1⟩ := cells2s Rx_4
  obtain ⟨cy_4_0, cy_4_1⟩ := cells2s Ry_4
  go_wp2_with fail
  clear cx_4_0 cx_4_1
  clear cy_4_0 cy_4_1
  have sS : Box (∀ W W1 : World, (Below w.heap.size w W ∧ W.heap[w.heap.size]? = some (Obj.cells #[.int .u64 (x1 : Nat), .int .u64 (y1 : Nat)] 26) ∧ W.heap[w.heap.size + 1]? = some (Obj.cells #[.int .u64 (x2 : Nat), .int .u64 (y2 : Nat)] 26) ∧ W.heap[w.heap.size + 1 + 1]? = some (Obj.cells #[.int .u64 (x3 : Nat), .int .u64 (y3 : Nat)] 26) ∧ W.heap[w1.heap.size]? = some (Obj.cells #[.int .u64 (u : Nat), .int .u64 (v : Nat)] 26) ∧ W.heap[w3.heap.size]? = some (Obj.cells #[.int .u64 (u : Nat), .int .u64 (v : Nat)] 26) ∧ W.cell? ⟨w.heap.size, 0, none⟩ = some (.int .u64 (x1 : Nat)) ∧ W.cell? ⟨w.heap.size, 1, none⟩ = some (.int .u64 (y1 : Nat)) ∧ W.cell? ⟨w.heap.size + 1, 0, none⟩ = some (.int .u64 (x2 : Nat)) ∧ W.cell? ⟨w.heap.size + 1, 1, none⟩ = some (.int .u64 (y2 : Nat)) ∧ W.cell? ⟨w.heap.size + 1 + 1, 0, none⟩ = some (.int .u64 (x3 : Nat)) ∧ W.cell? ⟨w.heap.size + 1 + 1, 1, none⟩ = some (.int .u64 (y3 : Nat)) ∧ W.cell? ⟨w1.heap.size, 0, none⟩ = some (.int .u64 (u : Nat)) ∧ W.cell? ⟨w1.heap.size, 1, none⟩ = some (.int .u64 (v : Nat)) ∧ W.cell? ⟨w3.heap.size, 0, none⟩ = some (.int .u64 (u : Nat)) ∧ W.cell? ⟨w3.heap.size, 1, none⟩ = some (.int .u64 (v : Nat))) → Below W.heap.size W W1 → (Below w.heap.size w W1 ∧ W1.heap[w.heap.size]? = some (Obj.cells #[.int .u64 (x1 : Nat), .int .u64 (y1 : Nat)] 26) ∧ W1.heap[w.heap.size + 1]? = some (Obj.cells #[.int .u64 (x2 : Nat), .int .u64 (y2 : Nat)] 26) ∧ W1.heap[w.heap.size + 1 + 1]? = some (Obj.cells #[.int .u64 (x3 : Nat), .int .u64 (y3 : Nat)] 26) ∧ W1.heap[w1.heap.size]? = some (Obj.cells #[.int .u64 (u : Nat), .int .u64 (v : Nat)] 26) ∧ W1.heap[w3.heap.size]? = some (Obj.cells #[.int .u64 (u : Nat), .int .u64 (v : Nat)] 26) ∧ W1.cell? ⟨w.heap.size, 0, none⟩ = some (.int .u64 (x1 : Nat)) ∧ W1.cell? ⟨w.heap.size, 1, none⟩ = some (.int .u64 (y1 : Nat)) ∧ W1.cell? ⟨w.heap.size + 1, 0, none⟩ = some (.int .u64 (x2 : Nat)) ∧ W1.cell? ⟨w.heap.size + 1, 1, none⟩ = some (.int .u64 (y2 : Nat)) ∧ W1.cell? ⟨w.heap.size + 1 + 1, 0, none⟩ = some (.int .u64 (x3 : Nat)) ∧ W1.cell? ⟨w.heap.size + 1 + 1, 1, none⟩ = some (.int .u64 (y3 : Nat)) ∧ W1.cell? ⟨w1.heap.size, 0, none⟩ = some (.int .u64 (u : Nat)) ∧ W1.cell? ⟨w1.heap.size, 1, none⟩ = some (.int .u64 (v : Nat)) ∧ W1.cell? ⟨w3.heap.size, 0, none⟩ = some (.int .u64 (u : Nat)) ∧ W1.cell? ⟨w3.heap.size, 1, none⟩ = some (.int .u64 (v : Nat)))) := box (fun W W1 h b => ⟨btr h.1 b, heap_of b _ _ _ h.2.1, heap_of b _ _ _ h.2.2.1, heap_of b _ _ _ h.2.2.2.1, heap_of b _ _ _ h.2.2.2.2.1, heap_of b _ _ _ h.2.2.2.2.2.1, cell7 (heap_of b _ _ _ h.2.1) 0 _ rfl, cell7 (heap_of b _ _ _ h.2.1) 1 _ rfl, cell7 (heap_of b _ _ _ h.2.2.1) 0 _ rfl, cell7 (heap_of b _ _ _ h.2.2.1) 1 _ rfl, cell7 (heap_of b _ _ _ h.2.2.2.1) 0 _ rfl, cell7 (heap_of b _ _ _ h.2.2.2.1) 1 _ rfl, cell7 (heap_of b _ _ _ h.2.2.2.2.1) 0 _ rfl, cell7 (heap_of b _ _ _ h.2.2.2.2.1) 1 _ rfl, cell7 (heap_of b _ _ _ h.2.2.2.2.2.1) 0 _ rfl, cell7 (heap_of b _ _ _ h.2.2.2.2.2.1) 1 _ rfl⟩)
  have sL : Box (∀ W : World, (Below w.heap.size w W ∧ W.heap[w.heap.size]? = some (Obj.cells #[.int .u64 (x1 : Nat), .int .u64 (y1 : Nat)] 26) ∧ W.heap[w.heap.size + 1]? = some (Obj.cells #[.int .u64 (x2 : Nat), .int .u64 (y2 : Nat)] 26) ∧ W.heap[w.heap.size + 1 + 1]? = some (Obj.cells #[.int .u64 (x3 : Nat), .int .u64 (y3 : Nat)] 26) ∧ W.heap[w1.heap.size]? = some (Obj.cells #[.int .u64 (u : Nat), .int .u64 (v : Nat)] 26) ∧ W.heap[w3.heap.size]? = some (Obj.cells #[.int .u64 (u : Nat), .int .u64 (v : Nat)] 26) ∧ W.cell? ⟨w.heap.size, 0, none⟩ = some (.int .u64 (x1 : Nat)) ∧ W.cell? ⟨w.heap.size, 1, none⟩ = some (.int .u64 (y1 : Nat)) ∧ W.cell? ⟨w.heap.size + 1, 0, none⟩ = some (.int .u64 (x2 : Nat)) ∧ W.cell? ⟨w.heap.size + 1, 1, none⟩ = some (.int .u64 (y2 : Nat)) ∧ W.cell? ⟨w.heap.size + 1 + 1, 0, none⟩ = some (.int .u64 (x3 : Nat)) ∧ W.cell? ⟨w.heap.size + 1 + 1, 1, none⟩ = some (.int .u64 (y3 : Nat)) ∧ W.cell? ⟨w1.heap.size, 0, none⟩ = some (.int .u64 (u : Nat)) ∧ W.cell? ⟨w1.heap.size, 1, none⟩ = some (.int .u64 (v : Nat)) ∧ W.cell? ⟨w3.heap.size, 0, none⟩ = some (.int .u64 (u : Nat)) ∧ W.cell? ⟨w3.heap.size, 1, none⟩ = some (.int .u64 (v : Nat))) → (w.heap.size < W.heap.size ∧ w.heap.size + 1 < W.heap.size ∧ w.heap.size + 1 + 1 < W.heap.size ∧ w1.heap.size < W.heap.size ∧ w3.heap.size < W.heap.size)) := box (fun W h => ⟨(Array.getElem?_eq_some_iff.1 h.2.1).1, (Array.getElem?_eq_some_iff.1 h.2.2.1).1, (Array.getElem?_eq_some_iff.1 h.2.2.2.1).1, (Array.getElem?_eq_some_iff.1 h.2.2.2.2.1).1, (Array.getElem?_eq_some_iff.1 h.2.2.2.2.2.1).1⟩)
  have sT : Box (∀ (W : World) (gN : Nat) (xA xB : Value), (Below w.heap.size w W ∧ W.heap[w.heap.size]? = some (Obj.cells #[.int .u64 (x1 : Nat), .int .u64 (y1 : Nat)] 26) ∧ W.heap[w.heap.size + 1]? = some (Obj.cells #[.int .u64 (x2 : Nat), .int .u64 (y2 : Nat)] 26) ∧ W.heap[w.heap.size + 1 + 1]? = some (Obj.cells #[.int .u64 (x3 : Nat), .int .u64 (y3 : Nat)] 26) ∧ W.heap[w1.heap.size]? = some (Obj.cells #[.int .u64 (u : Nat), .int .u64 (v : Nat)] 26) ∧ W.heap[w3.heap.size]? = some (Obj.cells #[.int .u64 (u : Nat), .int .u64 (v : Nat)] 26) ∧ W.cell? ⟨w.heap.size, 0, none⟩ = some (.int .u64 (x1 : Nat)) ∧ W.cell? ⟨w.heap.size, 1, none⟩ = some (.int .u64 (y1 : Nat)) ∧ W.cell? ⟨w.heap.size + 1, 0, none⟩ = some (.int .u64 (x2 : Nat)) ∧ W.cell? ⟨w.heap.size + 1, 1, none⟩ = some (.int .u64 (y2 : Nat)) ∧ W.cell? ⟨w.heap.size + 1 + 1, 0, none⟩ = some (.int .u64 (x3 : Nat)) ∧ W.cell? ⟨w.heap.size + 1 + 1, 1, none⟩ = some (.int .u64 (y3 : Nat)) ∧ W.cell? ⟨w1.heap.size, 0, none⟩ = some (.int .u64 (u : Nat)) ∧ W.cell? ⟨w1.heap.size, 1, none⟩ = some (.int .u64 (v : Nat)) ∧ W.cell? ⟨w3.heap.size, 0, none⟩ = some (.int .u64 (u : Nat)) ∧ W.cell? ⟨w3.heap.size, 1, none⟩ = some (.int .u64 (v : Nat))) → (w.heap.size < gN ∧ w.heap.size + 1 < gN ∧ w.heap.size + 1 + 1 < gN ∧ w1.heap.size < gN ∧ w3.heap.size < gN) → (Below w.heap.size w ((W.setCell ⟨gN, 0, none⟩ xA).setCell ⟨gN, 1, none⟩ xB) ∧ ((W.setCell ⟨gN, 0, none⟩ xA).setCell ⟨gN, 1, none⟩ xB).heap[w.heap.size]? = some (Obj.cells #[.int .u64 (x1 : Nat), .int .u64 (y1 : Nat)] 26) ∧ ((W.setCell ⟨gN, 0, none⟩ xA).setCell ⟨gN, 1, none⟩ xB).heap[w.heap.size + 1]? = some (Obj.cells #[.int .u64 (x2 : Nat), .int .u64 (y2 : Nat)] 26) ∧ ((W.setCell ⟨gN, 0, none⟩ xA).setCell ⟨gN, 1, none⟩ xB).heap[w.heap.size + 1 + 1]? = some (Obj.cells #[.int .u64 (x3 : Nat), .int .u64 (y3 : Nat)] 26) ∧ ((W.setCell ⟨gN, 0, none⟩ xA).setCell ⟨gN, 1, none⟩ xB).heap[w1.heap.size]? = some (Obj.cells #[.int .u64 (u : Nat), .int .u64 (v : Nat)] 26) ∧ ((W.setCell ⟨gN, 0, none⟩ xA).setCell ⟨gN, 1, none⟩ xB).heap[w3.heap.size]? = some (Obj.cells #[.int .u64 (u : Nat), .int .u64 (v : Nat)] 26) ∧ ((W.setCell ⟨gN, 0, none⟩ xA).setCell ⟨gN, 1, none⟩ xB).cell? ⟨w.heap.size, 0, none⟩ = some (.int .u64 (x1 : Nat)) ∧ ((W.setCell ⟨gN, 0, none⟩ xA).setCell ⟨gN, 1, none⟩ xB).cell? ⟨w.heap.size, 1, none⟩ = some (.int .u64 (y1 : Nat)) ∧ ((W.setCell ⟨gN, 0, none⟩ xA).setCell ⟨gN, 1, none⟩ xB).cell? ⟨w.heap.size + 1, 0, none⟩ = some (.int .u64 (x2 : Nat)) ∧ ((W.setCell ⟨gN, 0, none⟩ xA).setCell ⟨gN, 1, none⟩ xB).cell? ⟨w.heap.size + 1, 1, none⟩ = some (.int .u64 (y2 : Nat)) ∧ ((W.setCell ⟨gN, 0, none⟩ xA).setCell ⟨gN, 1, none⟩ xB).cell? ⟨w.heap.size + 1 + 1, 0, none⟩ = some (.int .u64 (x3 : Nat)) ∧ ((W.setCell ⟨gN, 0, none⟩ xA).setCell ⟨gN, 1, none⟩ xB).cell? ⟨w.heap.size + 1 + 1, 1, none⟩ = some (.int .u64 (y3 : Nat)) ∧ ((W.setCell ⟨gN, 0, none⟩ xA).setCell ⟨gN, 1, none⟩ xB).cell? ⟨w1.heap.size, 0, none⟩ = some (.int .u64 (u : Nat)) ∧ ((W.setCell ⟨gN, 0, none⟩ xA).setCell ⟨gN, 1, none⟩ xB).cell? ⟨w1.heap.size, 1, none⟩ = some (.int .u64 (v : Nat)) ∧ ((W.setCell ⟨gN, 0, none⟩ xA).setCell ⟨gN, 1, none⟩ xB).cell? ⟨w3.heap.size, 0, none⟩ = some (.int .u64 (u : Nat)) ∧ ((W.setCell ⟨gN, 0, none⟩ xA).setCell ⟨gN, 1, none⟩ xB).cell? ⟨w3.heap.size, 1, none⟩ = some (.int .u64 (v : Nat)))) := box (fun W gN xA xB h l => ⟨set2_below h.1 (show w.heap.size ≤ gN by have := l.1; omega) _ _, (setCell_other (by have := l.1; omega)).trans ((setCell_other (by have := l.1; omega)).trans h.2.1), (setCell_other (by have := l.2.1; omega)).trans ((setCell_other (by have := l.2.1; omega)).trans h.2.2.1), (setCell_other (by have := l.2.2.1; omega)).trans ((setCell_other (by have := l.2.2.1; omega)).trans h.2.2.2.1), (setCell_other (by have := l.2.2.2.1; omega)).trans ((setCell_other (by have := l.2.2.2.1; omega)).trans h.2.2.2.2.1), (setCell_other (by have := l.2.2.2.2; omega)).trans ((setCell_other (by have := l.2.2.2.2; omega)).trans h.2.2.2.2.2.1), cell7 ((setCell_other (by have := l.1; omega)).trans ((setCell_other (by have := l.1; omega)).trans h.2.1)) 0 _ rfl, cell7 ((setCell_other (by have := l.1; omega)).trans ((setCell_other (by have := l.1; omega)).trans h.2.1)) 1 _ rfl, cell7 ((setCell_other (by have := l.2.1; omega)).trans ((setCell_other (by have := l.2.1; omega)).trans h.2.2.1)) 0 _ rfl, cell7 ((setCell_other (by have := l.2.1; omega)).trans ((setCell_other (by have := l.2.1; omega)).trans h.2.2.1)) 1 _ rfl, cell7 ((setCell_other (by have := l.2.2.1; omega)).trans ((setCell_other (by have := l.2.2.1; omega)).trans h.2.2.2.1)) 0 _ rfl, cell7 ((setCell_other (by have := l.2.2.1; omega)).trans ((setCell_other (by have := l.2.2.1; omega)).trans h.2.2.2.1)) 1 _ rfl, cell7 ((setCell_other (by have := l.2.2.2.1; omega)).trans ((setCell_other (by have := l.2.2.2.1; omega)).trans h.2.2.2.2.1)) 0 _ rfl, cell7 ((setCell_other (by have := l.2.2.2.1; omega)).trans ((setCell_other (by have := l.2.2.2.1; omega)).trans h.2.2.2.2.1)) 1 _ rfl, cell7 ((setCell_other (by have := l.2.2.2.2; omega)).trans ((setCell_other (by have := l.2.2.2.2; omega)).trans h.2.2.2.2.2.1)) 0 _ rfl, cell7 ((setCell_other (by have := l.2.2.2.2; omega)).trans ((setCell_other (by have := l.2.2.2.2; omega)).trans h.2.2.2.2.2.1)) 1 _ rfl⟩)
  have s0 : Below w.heap.size w ((w3.alloc (Obj.cells #[.int .u64 (u : Nat), .int .u64 (v : Nat)] 26))).drew ∧ ((w3.alloc (Obj.cells #[.int .u64 (u : Nat), .int .u64 (v : Nat)] 26))).drew.heap[w.heap.size]? = some (Obj.cells #[.int .u64 (x1 : Nat), .int .u64 (y1 : Nat)] 26) ∧ ((w3.alloc (Obj.cells #[.int .u64 (u : Nat), .int .u64 (v : Nat)] 26))).drew.heap[w.heap.size + 1]? = some (Obj.cells #[.int .u64 (x2 : Nat), .int .u64 (y2 : Nat)] 26) ∧ ((w3.alloc (Obj.cells #[.int .u64 (u : Nat), .int .u64 (v : Nat)] 26))).drew.heap[w.heap.size + 1 + 1]? = some (Obj.cells #[.int .u64 (x3 : Nat), .int .u64 (y3 : Nat)] 26) ∧ ((w3.alloc (Obj.cells #[.int .u64 (u : Nat), .int .u64 (v : Nat)] 26))).drew.heap[w1.heap.size]? = some (Obj.cells #[.int .u64 (u : Nat), .int .u64 (v : Nat)] 26) ∧ ((w3.alloc (Obj.cells #[.int .u64 (u : Nat), .int .u64 (v : Nat)] 26))).drew.heap[w3.heap.size]? = some (Obj.cells #[.int .u64 (u : Nat), .int .u64 (v : Nat)] 26) ∧ ((w3.alloc (Obj.cells #[.int .u64 (u : Nat), .int .u64 (v : Nat)] 26))).drew.cell? ⟨w.heap.size, 0, none⟩ = some (.int .u64 (x1 : Nat)) ∧ ((w3.alloc (Obj.cells #[.int .u64 (u : Nat), .int .u64 (v : Nat)] 26))).drew.cell? ⟨w.heap.size, 1, none⟩ = some (.int .u64 (y1 : Nat)) ∧ ((w3.alloc (Obj.cells #[.int .u64 (u : Nat), .int .u64 (v : Nat)] 26))).drew.cell? ⟨w.heap.size + 1, 0, none⟩ = some (.int .u64 (x2 : Nat)) ∧ ((w3.alloc (Obj.cells #[.int .u64 (u : Nat), .int .u64 (v : Nat)] 26))).drew.cell? ⟨w.heap.size + 1, 1, none⟩ = some (.int .u64 (y2 : Nat)) ∧ ((w3.alloc (Obj.cells #[.int .u64 (u : Nat), .int .u64 (v : Nat)] 26))).drew.cell? ⟨w.heap.size + 1 + 1, 0, none⟩ = some (.int .u64 (x3 : Nat)) ∧ ((w3.alloc (Obj.cells #[.int .u64 (u : Nat), .int .u64 (v : Nat)] 26))).drew.cell? ⟨w.heap.size + 1 + 1, 1, none⟩ = some (.int .u64 (y3 : Nat)) ∧ ((w3.alloc (Obj.cells #[.int .u64 (u : Nat), .int .u64 (v : Nat)] 26))).drew.cell? ⟨w1.heap.size, 0, none⟩ = some (.int .u64 (u : Nat)) ∧ ((w3.alloc (Obj.cells #[.int .u64 (u : Nat), .int .u64 (v : Nat)] 26))).drew.cell? ⟨w1.heap.size, 1, none⟩ = some (.int .u64 (v : Nat)) ∧ ((w3.alloc (Obj.cells #[.int .u64 (u : Nat), .int .u64 (v : Nat)] 26))).drew.cell? ⟨w3.heap.size, 0, none⟩ = some (.int .u64 (u : Nat)) ∧ ((w3.alloc (Obj.cells #[.int .u64 (u : Nat), .int .u64 (v : Nat)] 26))).drew.cell? ⟨w3.heap.size, 1, none⟩ = some (.int .u64 (v : Nat)) := ⟨B4.drew, Ra_4, Rb_4, Rc_4, Rx_4, Ry_4, cell7 (Ra_4) 0 _ rfl, cell7 (Ra_4) 1 _ rfl, cell7 (Rb_4) 0 _ rfl, cell7 (Rb_4) 1 _ rfl, cell7 (Rc_4) 0 _ rfl, cell7 (Rc_4) 1 _ rfl, cell7 (Rx_4) 0 _ rfl, cell7 (Rx_4) 1 _ rfl, cell7 (Ry_4) 0 _ rfl, cell7 (Ry_4) 1 _ rfl⟩
  clear B4 Ra_4 ca_4_0 ca_4_1 Rb_4 cb_4_0 cb_4_1 Rc_4 cc_4_0 cc_4_1 Rx_4 Ry_4
  go_wp2_with fail
  apply cut7
  · intro key0
    have key := box key0
    clear key0
    go_region_held3 (fun W => Below w.heap.size w W ∧ W.heap[w.heap.size]? = some (Obj.cells #[.int .u64 (x1 : Nat), .int .u64 (y1 : Nat)] 26) ∧ W.heap[w.heap.size + 1]? = some (Obj.cells #[.int .u64 (x2 : Nat), .int .u64 (y2 : Nat)] 26) ∧ W.heap[w.heap.size + 1 + 1]? = some (Obj.cells #[.int .u64 (x3 : Nat), .int .u64 (y3 : Nat)] 26) ∧ W.heap[w1.heap.size]? = some (Obj.cells #[.int .u64 (u : Nat), .int .u64 (v : Nat)] 26) ∧ W.heap[w3.heap.size]? = some (Obj.cells #[.int .u64 (u : Nat), .int .u64 (v : Nat)] 26) ∧ W.cell? ⟨w.heap.size, 0, none⟩ = some (.int .u64 (x1 : Nat)) ∧ W.cell? ⟨w.heap.size, 1, none⟩ = some (.int .u64 (y1 : Nat)) ∧ W.cell? ⟨w.heap.size + 1, 0, none⟩ = some (.int .u64 (x2 : Nat)) ∧ W.cell? ⟨w.heap.size + 1, 1, none⟩ = some (.int .u64 (y2 : Nat)) ∧ W.cell? ⟨w.heap.size + 1 + 1, 0, none⟩ = some (.int .u64 (x3 : Nat)) ∧ W.cell? ⟨w.heap.size + 1 + 1, 1, none⟩ = some (.int .u64 (y3 : Nat)) ∧ W.cell? ⟨w1.heap.size, 0, none⟩ = some (.int .u64 (u : Nat)) ∧ W.cell? ⟨w1.heap.size, 1, none⟩ = some (.int .u64 (v : Nat)) ∧ W.cell? ⟨w3.heap.size, 0, none⟩ = some (.int .u64 (u : Nat)) ∧ W.cell? ⟨w3.heap.size, 1, none⟩ = some (.int .u64 (v : Nat))) (first | exact s1 | exact s0 | exact sS.out _ _ s1 (bal _ _) | exact sS.out _ _ s0 (bal _ _) | exact sT.out _ _ _ _ s1 hl)
      (first | (go_at_call_of 22 (Value.agg #[.int .u64 (x1 : Nat), .int .u64 (y1 : Nat)]); (first | refine (KS1.out _ (by first | exact fatB FF.out (And.left s1) | exact fat_al (fatB FF.out (And.left s1)) _)).mono ?_ | refine (KS1.out _ (by first | exact fatB FF.out (And.left s0) | exact fat_al (fatB FF.out (And.left s0)) _)).mono ?_); rintro r wq ⟨rfl, bq⟩; (first | (have hg := heap_of bq _ _ _ (heap_alloc_last _ _); have hl := (by first | exact sL.out _ s1 | exact sL.out _ s0)) | have hg := heap_of bq _ _ _ hg | skip); (try simp only [size_dr, size_al] at hg hl); (first | (have hq0 := fz (k := 0) hg; have hq1 := fz (k := 1) hg; have hc0 := cell7 hg 0 _ rfl; have hc1 := cell7 hg 1 _ rfl) | skip); have s2 := (by first | exact sS.out _ _ s1 bq | exact sS.out _ _ s0 bq | exact sS.out _ _ (sS.out _ _ s1 (bal _ _)) bq | exact sS.out _ _ (sS.out _ _ s0 (bal _ _)) bq); (try clear s1); have s1 := s2; clear s2 bq) | (go_at_call_of 22 (Value.agg #[.int .u64 (x2 : Nat), .int .u64 (y2 : Nat)]); (first | refine (KS2.out _ (by first | exact fatB FF.out (And.left s1) | exact fat_al (fatB FF.out (And.left s1)) _)).mono ?_ | refine (KS2.out _ (by first | exact fatB FF.out (And.left s0) | exact fat_al (fatB FF.out (And.left s0)) _)).mono ?_); rintro r wq ⟨rfl, bq⟩; (first | (have hg := heap_of bq _ _ _ (heap_alloc_last _ _); have hl := (by first | exact sL.out _ s1 | exact sL.out _ s0)) | have hg := heap_of bq _ _ _ hg | skip); (try simp only [size_dr, size_al] at hg hl); (first | (have hq0 := fz (k := 0) hg; have hq1 := fz (k := 1) hg; have hc0 := cell7 hg 0 _ rfl; have hc1 := cell7 hg 1 _ rfl) | skip); have s2 := (by first | exact sS.out _ _ s1 bq | exact sS.out _ _ s0 bq | exact sS.out _ _ (sS.out _ _ s1 (bal _ _)) bq | exact sS.out _ _ (sS.out _ _ s0 (bal _ _)) bq); (try clear s1); have s1 := s2; clear s2 bq) | (go_at_call 21; (first | refine (KZ.out _ (by first | exact fatB FF.out (And.left s1) | exact fat_al (fatB FF.out (And.left s1)) _)).mono ?_ | refine (KZ.out _ (by first | exact fatB FF.out (And.left s0) | exact fat_al (fatB FF.out (And.left s0)) _)).mono ?_); rintro r wq ⟨rfl, bq⟩; (first | (have hg := heap_of bq _ _ _ (heap_alloc_last _ _); have hl := (by first | exact sL.out _ s1 | exact sL.out _ s0)) | have hg := heap_of bq _ _ _ hg | skip); (try simp only [size_dr, size_al] at hg hl); (first | (have hq0 := fz (k := 0) hg; have hq1 := fz (k := 1) hg; have hc0 := cell7 hg 0 _ rfl; have hc1 := cell7 hg 1 _ rfl) | skip); have s2 := (by first | exact sS.out _ _ s1 bq | exact sS.out _ _ s0 bq | exact sS.out _ _ (sS.out _ _ s1 (bal _ _)) bq | exact sS.out _ _ (sS.out _ _ s0 (bal _ _)) bq); (try clear s1); have s1 := s2; clear s2 bq) | (go_at_call 12; (first | refine (K3.out _ (by first | exact fatB FF.out (And.left s1) | exact fat_al (fatB FF.out (And.left s1)) _)).mono ?_ | refine (K3.out _ (by first | exact fatB FF.out (And.left s0) | exact fat_al (fatB FF.out (And.left s0)) _)).mono ?_); rintro r wq ⟨rfl, bq⟩; (first | (have hg := heap_of bq _ _ _ (heap_alloc_last _ _); have hl := (by first | exact sL.out _ s1 | exact sL.out _ s0)) | have hg := heap_of bq _ _ _ hg | skip); (try simp only [size_dr, size_al] at hg hl); (first | (have hq0 := fz (k := 0) hg; have hq1 := fz (k := 1) hg; have hc0 := cell7 hg 0 _ rfl; have hc1 := cell7 hg 1 _ rfl) | skip); have s2 := (by first | exact sS.out _ _ s1 bq | exact sS.out _ _ s0 bq | exact sS.out _ _ (sS.out _ _ s1 (bal _ _)) bq | exact sS.out _ _ (sS.out _ _ s0 (bal _ _)) bq); (try clear s1); have s1 := s2; clear s2 bq) | fail)
    all_goals
      refine gen_abacuslaw15_FmaSingle_17 (R := fun W gN => (Below w.heap.size w W ∧ W.heap[w.heap.size]? = some (Obj.cells #[.int .u64 (x1 : Nat), .int .u64 (y1 : Nat)] 26) ∧ W.heap[w.heap.size + 1]? = some (Obj.cells #[.int .u64 (x2 : Nat), .int .u64 (y2 : Nat)] 26) ∧ W.heap[w.heap.size + 1 + 1]? = some (Obj.cells #[.int .u64 (x3 : Nat), .int .u64 (y3 : Nat)] 26) ∧ W.heap[w1.heap.size]? = some (Obj.cells #[.int .u64 (u : Nat), .int .u64 (v : Nat)] 26) ∧ W.heap[w3.heap.size]? = some (Obj.cells #[.int .u64 (u : Nat), .int .u64 (v : Nat)] 26) ∧ W.cell? ⟨w.heap.size, 0, none⟩ = some (.int .u64 (x1 : Nat)) ∧ W.cell? ⟨w.heap.size, 1, none⟩ = some (.int .u64 (y1 : Nat)) ∧ W.cell? ⟨w.heap.size + 1, 0, none⟩ = some (.int .u64 (x2 : Nat)) ∧ W.cell? ⟨w.heap.size + 1, 1, none⟩ = some (.int .u64 (y2 : Nat)) ∧ W.cell? ⟨w.heap.size + 1 + 1, 0, none⟩ = some (.int .u64 (x3 : Nat)) ∧ W.cell? ⟨w.heap.size + 1 + 1, 1, none⟩ = some (.int .u64 (y3 : Nat)) ∧ W.cell? ⟨w1.heap.size, 0, none⟩ = some (.int .u64 (u : Nat)) ∧ W.cell? ⟨w1.heap.size, 1, none⟩ = some (.int .u64 (v : Nat)) ∧ W.cell? ⟨w3.heap.size, 0, none⟩ = some (.int .u64 (u : Nat)) ∧ W.cell? ⟨w3.heap.size, 1, none⟩ = some (.int .u64 (v : Nat))) ∧ W.heap[gN]? = some (Obj.cells #[.int .u64 (i : Nat), .int .u64 (j : Nat)] 26) ∧ (w.heap.size < gN ∧ w.heap.size + 1 < gN ∧ w.heap.size + 1 + 1 < gN ∧ w1.heap.size < gN ∧ w3.heap.size < gN)) key.out ?_
      first
        | exact ⟨(sT.out _ _ _ _ s1 hl), set2_row hg _ _, hl⟩
        | exact ⟨sS.out _ _ s1 (bal _ _), heap_alloc_last _ _, sL.out _ s1⟩
        | exact ⟨sS.out _ _ s0 (bal _ _), heap_alloc_last _ _, sL.out _ s0⟩
  rintro w5 g5 ⟨s1, Rg_5, l5⟩
  have B5 := And.left s1
  have Ra_5 := s1.2.1
  have Rb_5 := s1.2.2.1
  have Rc_5 := s1.2.2.2.1
  have Rx_5 := s1.2.2.2.2.1
  have Ry_5 := s1.2.2.2.2.2.1
  have H5 := box l5
  clear s0 s1 sS sL sT l5
  obtain ⟨ca_5_0, ca_5_1⟩ := cells2s Ra_5
  obtain ⟨cb_5_0, cb_5_1⟩ := cells2s Rb_5
  obtain ⟨cc_5_0, cc_5_1⟩ := cells2s Rc_5
  obtain ⟨cg_5_0, cg_5_1⟩ := cells2s Rg_5
  go_wp2_with fail
  refine (K4.out _ (fatB FF.out B5)).mono ?_
  rintro r w6 ⟨rfl, b6⟩
  have B6 : Below w.heap.size w w6 := btr B5 b6
  have Ra_6 := heap_of b6 _ _ _ Ra_5
  have Rb_6 := heap_of b6 _ _ _ Rb_5
  have Rc_6 := heap_of b6 _ _ _ Rc_5
  have Rx_6 := heap_of b6 _ _ _ Rx_5
  have Ry_6 := heap_of b6 _ _ _ Ry_5
  have Rg_6 := heap_of b6 _ _ _ Rg_5
  clear b6 B5 Ra_5 ca_5_0 ca_5_1 Rb_5 cb_5_0 cb_5_1 Rc_5 cc_5_0 cc_5_1 Rx_5 Ry_5 Rg_5 cg_5_0 cg_5_1
  obtain ⟨ca_6_0, ca_6_1⟩ := cells2s Ra_6
  obtain ⟨cb_6_0, cb_6_1⟩ := cells2s Rb_6
  obtain ⟨cc_6_0, cc_6_1⟩ := cells2s Rc_6
  obtain ⟨cg_6_0, cg_6_1⟩ := cells2s Rg_6
  have S7 := box B6.size
  have La_7 : Box (w.heap.size < w6.heap.size) := box (Array.getElem?_eq_some_iff.1 Ra_6).1
  have Lb_7 : Box (w.heap.size + 1 < w6.heap.size) := box (Array.getElem?_eq_some_iff.1 Rb_6).1
  have Lc_7 : Box (w.heap.size + 1 + 1 < w6.heap.size) := box (Array.getElem?_eq_some_iff.1 Rc_6).1
  have Lx_7 : Box (w1.heap.size < w6.heap.size) := box (Array.getElem?_eq_some_iff.1 Rx_6).1
  have Ly_7 : Box (w3.heap.size < w6.heap.size) := box (Array.getElem?_eq_some_iff.1 Ry_6).1
  have Lg_7 : Box (g5 < w6.heap.size) := box (Array.getElem?_eq_some_iff.1 Rg_6).1
  have Rr_7 := heap_alloc_last w6 (Obj.cells #[.int .u64 (i : Nat), .int .u64 (j : Nat)] 26)
  have B7 := btr B6 (bal w6 (Obj.cells #[.int .u64 (i : Nat), .int .u64 (j : Nat)] 26))
  have Ra_7 := heap_of (bal w6 (Obj.cells #[.int .u64 (i : Nat), .int .u64 (j : Nat)] 26)) _ _ _ Ra_6
  have Rb_7 := heap_of (bal w6 (Obj.cells #[.int .u64 (i : Nat), .int .u64 (j : Nat)] 26)) _ _ _ Rb_6
  have Rc_7 := heap_of (bal w6 (Obj.cells #[.int .u64 (i : Nat), .int .u64 (j : Nat)] 26)) _ _ _ Rc_6
  have Rx_7 := heap_of (bal w6 (Obj.cells #[.int .u64 (i : Nat), .int .u64 (j : Nat)] 26)) _ _ _ Rx_6
  have Ry_7 := heap_of (bal w6 (Obj.cells #[.int .u64 (i : Nat), .int .u64 (j : Nat)] 26)) _ _ _ Ry_6
  have Rg_7 := heap_of (bal w6 (Obj.cells #[.int .u64 (i : Nat), .int .u64 (j : Nat)] 26)) _ _ _ Rg_6
  clear B6 Ra_6 ca_6_0 ca_6_1 Rb_6 cb_6_0 cb_6_1 Rc_6 cc_6_0 cc_6_1 Rx_6 Ry_6 Rg_6 cg_6_0 cg_6_1
  obtain ⟨ca_7_0, ca_7_1⟩ := cells2s Ra_7
  obtain ⟨cb_7_0, cb_7_1⟩ := cells2s Rb_7
  obtain ⟨cc_7_0, cc_7_1⟩ := cells2s Rc_7
  obtain ⟨cg_7_0, cg_7_1⟩ := cells2s Rg_7
  obtain ⟨cr_7_0, cr_7_1⟩ := cells2s Rr_7
  go_wp2_with fail
  clear cg_7_0 cg_7_1
  clear cr_7_0 cr_7_1
  clear cb_7_0 cb_7_1
  have sS : Box (∀ W W1 : World, (Below w.heap.size w W ∧ W.heap[w.heap.size]? = some (Obj.cells #[.int .u64 (x1 : Nat), .int .u64 (y1 : Nat)] 26) ∧ W.heap[w.heap.size + 1]? = some (Obj.cells #[.int .u64 (x2 : Nat), .int .u64 (y2 : Nat)] 26) ∧ W.heap[w.heap.size + 1 + 1]? = some (Obj.cells #[.int .u64 (x3 : Nat), .int .u64 (y3 : Nat)] 26) ∧ W.heap[w1.heap.size]? = some (Obj.cells #[.int .u64 (u : Nat), .int .u64 (v : Nat)] 26) ∧ W.heap[w3.heap.size]? = some (Obj.cells #[.int .u64 (u : Nat), .int .u64 (v : Nat)] 26) ∧ W.heap[g5]? = some (Obj.cells #[.int .u64 (i : Nat), .int .u64 (j : Nat)] 26) ∧ W.heap[w6.heap.size]? = some (Obj.cells #[.int .u64 (i : Nat), .int .u64 (j : Nat)] 26) ∧ W.cell? ⟨w.heap.size, 0, none⟩ = some (.int .u64 (x1 : Nat)) ∧ W.cell? ⟨w.heap.size, 1, none⟩ = some (.int .u64 (y1 : Nat)) ∧ W.cell? ⟨w.heap.size + 1, 0, none⟩ = some (.int .u64 (x2 : Nat)) ∧ W.cell? ⟨w.heap.size + 1, 1, none⟩ = some (.int .u64 (y2 : Nat)) ∧ W.cell? ⟨w.heap.size + 1 + 1, 0, none⟩ = some (.int .u64 (x3 : Nat)) ∧ W.cell? ⟨w.heap.size + 1 + 1, 1, none⟩ = some (.int .u64 (y3 : Nat)) ∧ W.cell? ⟨w1.heap.size, 0, none⟩ = some (.int .u64 (u : Nat)) ∧ W.cell? ⟨w1.heap.size, 1, none⟩ = some (.int .u64 (v : Nat)) ∧ W.cell? ⟨w3.heap.size, 0, none⟩ = some (.int .u64 (u : Nat)) ∧ W.cell? ⟨w3.heap.size, 1, none⟩ = some (.int .u64 (v : Nat)) ∧ W.cell? ⟨g5, 0, none⟩ = some (.int .u64 (i : Nat)) ∧ W.cell? ⟨g5, 1, none⟩ = some (.int .u64 (j : Nat)) ∧ W.cell? ⟨w6.heap.size, 0, none⟩ = some (.int .u64 (i : Nat)) ∧ W.cell? ⟨w6.heap.size, 1, none⟩ = some (.int .u64 (j : Nat))) → Below W.heap.size W W1 → (Below w.heap.size w W1 ∧ W1.heap[w.heap.size]? = some (Obj.cells #[.int .u64 (x1 : Nat), .int .u64 (y1 : Nat)] 26) ∧ W1.heap[w.heap.size + 1]? = some (Obj.cells #[.int .u64 (x2 : Nat), .int .u64 (y2 : Nat)] 26) ∧ W1.heap[w.heap.size + 1 + 1]? = some (Obj.cells #[.int .u64 (x3 : Nat), .int .u64 (y3 : Nat)] 26) ∧ W1.heap[w1.heap.size]? = some (Obj.cells #[.int .u64 (u : Nat), .int .u64 (v : Nat)] 26) ∧ W1.heap[w3.heap.size]? = some (Obj.cells #[.int .u64 (u : Nat), .int .u64 (v : Nat)] 26) ∧ W1.heap[g5]? = some (Obj.cells #[.int .u64 (i : Nat), .int .u64 (j : Nat)] 26) ∧ W1.heap[w6.heap.size]? = some (Obj.cells #[.int .u64 (i : Nat), .int .u64 (j : Nat)] 26) ∧ W1.cell? ⟨w.heap.size, 0, none⟩ = some (.int .u64 (x1 : Nat)) ∧ W1.cell? ⟨w.heap.size, 1, none⟩ = some (.int .u64 (y1 : Nat)) ∧ W1.cell? ⟨w.heap.size + 1, 0, none⟩ = some (.int .u64 (x2 : Nat)) ∧ W1.cell? ⟨w.heap.size + 1, 1, none⟩ = some (.int .u64 (y2 : Nat)) ∧ W1.cell? ⟨w.heap.size + 1 + 1, 0, none⟩ = some (.int .u64 (x3 : Nat)) ∧ W1.cell? ⟨w.heap.size + 1 + 1, 1, none⟩ = some (.int .u64 (y3 : Nat)) ∧ W1.cell? ⟨w1.heap.size, 0, none⟩ = some (.int .u64 (u : Nat)) ∧ W1.cell? ⟨w1.heap.size, 1, none⟩ = some (.int .u64 (v : Nat)) ∧ W1.cell? ⟨w3.heap.size, 0, none⟩ = some (.int .u64 (u : Nat)) ∧ W1.cell? ⟨w3.heap.size, 1, none⟩ = some (.int .u64 (v : Nat)) ∧ W1.cell? ⟨g5, 0, none⟩ = some (.int .u64 (i : Nat)) ∧ W1.cell? ⟨g5, 1, none⟩ = some (.int .u64 (j : Nat)) ∧ W1.cell? ⟨w6.heap.size, 0, none⟩ = some (.int .u64 (i : Nat)) ∧ W1.cell? ⟨w6.heap.size, 1, none⟩ = some (.int .u64 (j : Nat)))) := box (fun W W1 h b => ⟨btr h.1 b, heap_of b _ _ _ h.2.1, heap_of b _ _ _ h.2.2.1, heap_of b _ _ _ h.2.2.2.1, heap_of b _ _ _ h.2.2.2.2.1, heap_of b _ _ _ h.2.2.2.2.2.1, heap_of b _ _ _ h.2.2.2.2.2.2.1, heap_of b _ _ _ h.2.2.2.2.2.2.2.1, cell7 (heap_of b _ _ _ h.2.1) 0 _ rfl, cell7 (heap_of b _ _ _ h.2.1) 1 _ rfl, cell7 (heap_of b _ _ _ h.2.2.1) 0 _ rfl, cell7 (heap_of b _ _ _ h.2.2.1) 1 _ rfl, cell7 (heap_of b _ _ _ h.2.2.2.1) 0 _ rfl, cell7 (heap_of b _ _ _ h.2.2.2.1) 1 _ rfl, cell7 (heap_of b _ _ _ h.2.2.2.2.1) 0 _ rfl, cell7 (heap_of b _ _ _ h.2.2.2.2.1) 1 _ rfl, cell7 (heap_of b _ _ _ h.2.2.2.2.2.1) 0 _ rfl, cell7 (heap_of b _ _ _ h.2.2.2.2.2.1) 1 _ rfl, cell7 (heap_of b _ _ _ h.2.2.2.2.2.2.1) 0 _ rfl, cell7 (heap_of b _ _ _ h.2.2.2.2.2.2.1) 1 _ rfl, cell7 (heap_of b _ _ _ h.2.2.2.2.2.2.2.1) 0 _ rfl, cell7 (heap_of b _ _ _ h.2.2.2.2.2.2.2.1) 1 _ rfl⟩)
  have sL : Box (∀ W : World, (Below w.heap.size w W ∧ W.heap[w.heap.size]? = some (Obj.cells #[.int .u64 (x1 : Nat), .int .u64 (y1 : Nat)] 26) ∧ W.heap[w.heap.size + 1]? = some (Obj.cells #[.int .u64 (x2 : Nat), .int .u64 (y2 : Nat)] 26) ∧ W.heap[w.heap.size + 1 + 1]? = some (Obj.cells #[.int .u64 (x3 : Nat), .int .u64 (y3 : Nat)] 26) ∧ W.heap[w1.heap.size]? = some (Obj.cells #[.int .u64 (u : Nat), .int .u64 (v : Nat)] 26) ∧ W.heap[w3.heap.size]? = some (Obj.cells #[.int .u64 (u : Nat), .int .u64 (v : Nat)] 26) ∧ W.heap[g5]? = some (Obj.cells #[.int .u64 (i : Nat), .int .u64 (j : Nat)] 26) ∧ W.heap[w6.heap.size]? = some (Obj.cells #[.int .u64 (i : Nat), .int .u64 (j : Nat)] 26) ∧ W.cell? ⟨w.heap.size, 0, none⟩ = some (.int .u64 (x1 : Nat)) ∧ W.cell? ⟨w.heap.size, 1, none⟩ = some (.int .u64 (y1 : Nat)) ∧ W.cell? ⟨w.heap.size + 1, 0, none⟩ = some (.int .u64 (x2 : Nat)) ∧ W.cell? ⟨w.heap.size + 1, 1, none⟩ = some (.int .u64 (y2 : Nat)) ∧ W.cell? ⟨w.heap.size + 1 + 1, 0, none⟩ = some (.int .u64 (x3 : Nat)) ∧ W.cell? ⟨w.heap.size + 1 + 1, 1, none⟩ = some (.int .u64 (y3 : Nat)) ∧ W.cell? ⟨w1.heap.size, 0, none⟩ = some (.int .u64 (u : Nat)) ∧ W.cell? ⟨w1.heap.size, 1, none⟩ = some (.int .u64 (v : Nat)) ∧ W.cell? ⟨w3.heap.size, 0, none⟩ = some (.int .u64 (u : Nat)) ∧ W.cell? ⟨w3.heap.size, 1, none⟩ = some (.int .u64 (v : Nat)) ∧ W.cell? ⟨g5, 0, none⟩ = some (.int .u64 (i : Nat)) ∧ W.cell? ⟨g5, 1, none⟩ = some (.int .u64 (j : Nat)) ∧ W.cell? ⟨w6.heap.size, 0, none⟩ = some (.int .u64 (i : Nat)) ∧ W.cell? ⟨w6.heap.size, 1, none⟩ = some (.int .u64 (j : Nat))) → (w.heap.size < W.heap.size ∧ w.heap.size + 1 < W.heap.size ∧ w.heap.size + 1 + 1 < W.heap.size ∧ w1.heap.size < W.heap.size ∧ w3.heap.size < W.heap.size ∧ g5 < W.heap.size ∧ w6.heap.size < W.heap.size)) := box (fun W h => ⟨(Array.getElem?_eq_some_iff.1 h.2.1).1, (Array.getElem?_eq_some_iff.1 h.2.2.1).1, (Array.getElem?_eq_some_iff.1 h.2.2.2.1).1, (Array.getElem?_eq_some_iff.1 h.2.2.2.2.1).1, (Array.getElem?_eq_some_iff.1 h.2.2.2.2.2.1).1, (Array.getElem?_eq_some_iff.1 h.2.2.2.2.2.2.1).1, (Array.getElem?_eq_some_iff.1 h.2.2.2.2.2.2.2.1).1⟩)
  have sT : Box (∀ (W : World) (gN : Nat) (xA xB : Value), (Below w.heap.size w W ∧ W.heap[w.heap.size]? = some (Obj.cells #[.int .u64 (x1 : Nat), .int .u64 (y1 : Nat)] 26) ∧ W.heap[w.heap.size + 1]? = some (Obj.cells #[.int .u64 (x2 : Nat), .int .u64 (y2 : Nat)] 26) ∧ W.heap[w.heap.size + 1 + 1]? = some (Obj.cells #[.int .u64 (x3 : Nat), .int .u64 (y3 : Nat)] 26) ∧ W.heap[w1.heap.size]? = some (Obj.cells #[.int .u64 (u : Nat), .int .u64 (v : Nat)] 26) ∧ W.heap[w3.heap.size]? = some (Obj.cells #[.int .u64 (u : Nat), .int .u64 (v : Nat)] 26) ∧ W.heap[g5]? = some (Obj.cells #[.int .u64 (i : Nat), .int .u64 (j : Nat)] 26) ∧ W.heap[w6.heap.size]? = some (Obj.cells #[.int .u64 (i : Nat), .int .u64 (j : Nat)] 26) ∧ W.cell? ⟨w.heap.size, 0, none⟩ = some (.int .u64 (x1 : Nat)) ∧ W.cell? ⟨w.heap.size, 1, none⟩ = some (.int .u64 (y1 : Nat)) ∧ W.cell? ⟨w.heap.size + 1, 0, none⟩ = some (.int .u64 (x2 : Nat)) ∧ W.cell? ⟨w.heap.size + 1, 1, none⟩ = some (.int .u64 (y2 : Nat)) ∧ W.cell? ⟨w.heap.size + 1 + 1, 0, none⟩ = some (.int .u64 (x3 : Nat)) ∧ W.cell? ⟨w.heap.size + 1 + 1, 1, none⟩ = some (.int .u64 (y3 : Nat)) ∧ W.cell? ⟨w1.heap.size, 0, none⟩ = some (.int .u64 (u : Nat)) ∧ W.cell? ⟨w1.heap.size, 1, none⟩ = some (.int .u64 (v : Nat)) ∧ W.cell? ⟨w3.heap.size, 0, none⟩ = some (.int .u64 (u : Nat)) ∧ W.cell? ⟨w3.heap.size, 1, none⟩ = some (.int .u64 (v : Nat)) ∧ W.cell? ⟨g5, 0, none⟩ = some (.int .u64 (i : Nat)) ∧ W.cell? ⟨g5, 1, none⟩ = some (.int .u64 (j : Nat)) ∧ W.cell? ⟨w6.heap.size, 0, none⟩ = some (.int .u64 (i : Nat)) ∧ W.cell? ⟨w6.heap.size, 1, none⟩ = some (.int .u64 (j : Nat))) → (w.heap.size < gN ∧ w.heap.size + 1 < gN ∧ w.heap.size + 1 + 1 < gN ∧ w1.heap.size < gN ∧ w3.heap.size < gN ∧ g5 < gN ∧ w6.heap.size < gN) → (Below w.heap.size w ((W.setCell ⟨gN, 0, none⟩ xA).setCell ⟨gN, 1, none⟩ xB) ∧ ((W.setCell ⟨gN, 0, none⟩ xA).setCell ⟨gN, 1, none⟩ xB).heap[w.heap.size]? = some (Obj.cells #[.int .u64 (x1 : Nat), .int .u64 (y1 : Nat)] 26) ∧ ((W.setCell ⟨gN, 0, none⟩ xA).setCell ⟨gN, 1, none⟩ xB).heap[w.heap.size + 1]? = some (Obj.cells #[.int .u64 (x2 : Nat), .int .u64 (y2 : Nat)] 26) ∧ ((W.setCell ⟨gN, 0, none⟩ xA).setCell ⟨gN, 1, none⟩ xB).heap[w.heap.size + 1 + 1]? = some (Obj.cells #[.int .u64 (x3 : Nat), .int .u64 (y3 : Nat)] 26) ∧ ((W.setCell ⟨gN, 0, none⟩ xA).setCell ⟨gN, 1, none⟩ xB).heap[w1.heap.size]? = some (Obj.cells #[.int .u64 (u : Nat), .int .u64 (v : Nat)] 26) ∧ ((W.setCell ⟨gN, 0, none⟩ xA).setCell ⟨gN, 1, none⟩ xB).heap[w3.heap.size]? = some (Obj.cells #[.int .u64 (u : Nat), .int .u64 (v : Nat)] 26) ∧ ((W.setCell ⟨gN, 0, none⟩ xA).setCell ⟨gN, 1, none⟩ xB).heap[g5]? = some (Obj.cells #[.int .u64 (i : Nat), .int .u64 (j : Nat)] 26) ∧ ((W.setCell ⟨gN, 0, none⟩ xA).setCell ⟨gN, 1, none⟩ xB).heap[w6.heap.size]? = some (Obj.cells #[.int .u64 (i : Nat), .int .u64 (j : Nat)] 26) ∧ ((W.setCell ⟨gN, 0, none⟩ xA).setCell ⟨gN, 1, none⟩ xB).cell? ⟨w.heap.size, 0, none⟩ = some (.int .u64 (x1 : Nat)) ∧ ((W.setCell ⟨gN, 0, none⟩ xA).setCell ⟨gN, 1, none⟩ xB).cell? ⟨w.heap.size, 1, none⟩ = some (.int .u64 (y1 : Nat)) ∧ ((W.setCell ⟨gN, 0, none⟩ xA).setCell ⟨gN, 1, none⟩ xB).cell? ⟨w.heap.size + 1, 0, none⟩ = some (.int .u64 (x2 : Nat)) ∧ ((W.setCell ⟨gN, 0, none⟩ xA).setCell ⟨gN, 1, none⟩ xB).cell? ⟨w.heap.size + 1, 1, none⟩ = some (.int .u64 (y2 : Nat)) ∧ ((W.setCell ⟨gN, 0, none⟩ xA).setCell ⟨gN, 1, none⟩ xB).cell? ⟨w.heap.size + 1 + 1, 0, none⟩ = some (.int .u64 (x3 : Nat)) ∧ ((W.setCell ⟨gN, 0, none⟩ xA).setCell ⟨gN, 1, none⟩ xB).cell? ⟨w.heap.size + 1 + 1, 1, none⟩ = some (.int .u64 (y3 : Nat)) ∧ ((W.setCell ⟨gN, 0, none⟩ xA).setCell ⟨gN, 1, none⟩ xB).cell? ⟨w1.heap.size, 0, none⟩ = some (.int .u64 (u : Nat)) ∧ ((W.setCell ⟨gN, 0, none⟩ xA).setCell ⟨gN, 1, none⟩ xB).cell? ⟨w1.heap.size, 1, none⟩ = some (.int .u64 (v : Nat)) ∧ ((W.setCell ⟨gN, 0, none⟩ xA).setCell ⟨gN, 1, none⟩ xB).cell? ⟨w3.heap.size, 0, none⟩ = some (.int .u64 (u : Nat)) ∧ ((W.setCell ⟨gN, 0, none⟩ xA).setCell ⟨gN, 1, none⟩ xB).cell? ⟨w3.heap.size, 1, none⟩ = some (.int .u64 (v : Nat)) ∧ ((W.setCell ⟨gN, 0, none⟩ xA).setCell ⟨gN, 1, none⟩ xB).cell? ⟨g5, 0, none⟩ = some (.int .u64 (i : Nat)) ∧ ((W.setCell ⟨gN, 0, none⟩ xA).setCell ⟨gN, 1, none⟩ xB).cell? ⟨g5, 1, none⟩ = some (.int .u64 (j : Nat)) ∧ ((W.setCell ⟨gN, 0, none⟩ xA).setCell ⟨gN, 1, none⟩ xB).cell? ⟨w6.heap.size, 0, none⟩ = some (.int .u64 (i : Nat)) ∧ ((W.setCell ⟨gN, 0, none⟩ xA).setCell ⟨gN, 1, none⟩ xB).cell? ⟨w6.heap.size, 1, none⟩ = some (.int .u64 (j : Nat)))) := box (fun W gN xA xB h l => ⟨set2_below h.1 (show w.heap.size ≤ gN by have := l.1; omega) _ _, (setCell_other (by have := l.1; omega)).trans ((setCell_other (by have := l.1; omega)).trans h.2.1), (setCell_other (by have := l.2.1; omega)).trans ((setCell_other (by have := l.2.1; omega)).trans h.2.2.1), (setCell_other (by have := l.2.2.1; omega)).trans ((setCell_other (by have := l.2.2.1; omega)).trans h.2.2.2.1), (setCell_other (by have := l.2.2.2.1; omega)).trans ((setCell_other (by have := l.2.2.2.1; omega)).trans h.2.2.2.2.1), (setCell_other (by have := l.2.2.2.2.1; omega)).trans ((setCell_other (by have := l.2.2.2.2.1; omega)).trans h.2.2.2.2.2.1), (setCell_other (by have := l.2.2.2.2.2.1; omega)).trans ((setCell_other (by have := l.2.2.2.2.2.1; omega)).trans h.2.2.2.2.2.2.1), (setCell_other (by have := l.2.2.2.2.2.2; omega)).trans ((setCell_other (by have := l.2.2.2.2.2.2; omega)).trans h.2.2.2.2.2.2.2.1), cell7 ((setCell_other (by have := l.1; omega)).trans ((setCell_other (by have := l.1; omega)).trans h.2.1)) 0 _ rfl, cell7 ((setCell_other (by have := l.1; omega)).trans ((setCell_other (by have := l.1; omega)).trans h.2.1)) 1 _ rfl, cell7 ((setCell_other (by have := l.2.1; omega)).trans ((setCell_other (by have := l.2.1; omega)).trans h.2.2.1)) 0 _ rfl, cell7 ((setCell_other (by have := l.2.1; omega)).trans ((setCell_other (by have := l.2.1; omega)).trans h.2.2.1)) 1 _ rfl, cell7 ((setCell_other (by have := l.2.2.1; omega)).trans ((setCell_other (by have := l.2.2.1; omega)).trans h.2.2.2.1)) 0 _ rfl, cell7 ((setCell_other (by have := l.2.2.1; omega)).trans ((setCell_other (by have := l.2.2.1; omega)).trans h.2.2.2.1)) 1 _ rfl, cell7 ((setCell_other (by have := l.2.2.2.1; omega)).trans ((setCell_other (by have := l.2.2.2.1; omega)).trans h.2.2.2.2.1)) 0 _ rfl, cell7 ((setCell_other (by have := l.2.2.2.1; omega)).trans ((setCell_other (by have := l.2.2.2.1; omega)).trans h.2.2.2.2.1)) 1 _ rfl, cell7 ((setCell_other (by have := l.2.2.2.2.1; omega)).trans ((setCell_other (by have := l.2.2.2.2.1; omega)).trans h.2.2.2.2.2.1)) 0 _ rfl, cell7 ((setCell_other (by have := l.2.2.2.2.1; omega)).trans ((setCell_other (by have := l.2.2.2.2.1; omega)).trans h.2.2.2.2.2.1)) 1 _ rfl, cell7 ((setCell_other (by have := l.2.2.2.2.2.1; omega)).trans ((setCell_other (by have := l.2.2.2.2.2.1; omega)).trans h.2.2.2.2.2.2.1)) 0 _ rfl, cell7 ((setCell_other (by have := l.2.2.2.2.2.1; omega)).trans ((setCell_other (by have := l.2.2.2.2.2.1; omega)).trans h.2.2.2.2.2.2.1)) 1 _ rfl, cell7 ((setCell_other (by have := l.2.2.2.2.2.2; omega)).trans ((setCell_other (by have := l.2.2.2.2.2.2; omega)).trans h.2.2.2.2.2.2.2.1)) 0 _ rfl, cell7 ((setCell_other (by have := l.2.2.2.2.2.2; omega)).trans ((setCell_other (by have := l.2.2.2.2.2.2; omega)).trans h.2.2.2.2.2.2.2.1)) 1 _ rfl⟩)
  have s0 : Below w.heap.size w ((w6.alloc (Obj.cells #[.int .u64 (i : Nat), .int .u64 (j : Nat)] 26))).drew ∧ ((w6.alloc (Obj.cells #[.int .u64 (i : Nat), .int .u64 (j : Nat)] 26))).drew.heap[w.heap.size]? = some (Obj.cells #[.int .u64 (x1 : Nat), .int .u64 (y1 : Nat)] 26) ∧ ((w6.alloc (Obj.cells #[.int .u64 (i : Nat), .int .u64 (j : Nat)] 26))).drew.heap[w.heap.size + 1]? = some (Obj.cells #[.int .u64 (x2 : Nat), .int .u64 (y2 : Nat)] 26) ∧ ((w6.alloc (Obj.cells #[.int .u64 (i : Nat), .int .u64 (j : Nat)] 26))).drew.heap[w.heap.size + 1 + 1]? = some (Obj.cells #[.int .u64 (x3 : Nat), .int .u64 (y3 : Nat)] 26) ∧ ((w6.alloc (Obj.cells #[.int .u64 (i : Nat), .int .u64 (j : Nat)] 26))).drew.heap[w1.heap.size]? = some (Obj.cells #[.int .u64 (u : Nat), .int .u64 (v : Nat)] 26) ∧ ((w6.alloc (Obj.cells #[.int .u64 (i : Nat), .int .u64 (j : Nat)] 26))).drew.heap[w3.heap.size]? = some (Obj.cells #[.int .u64 (u : Nat), .int .u64 (v : Nat)] 26) ∧ ((w6.alloc (Obj.cells #[.int .u64 (i : Nat), .int .u64 (j : Nat)] 26))).drew.heap[g5]? = some (Obj.cells #[.int .u64 (i : Nat), .int .u64 (j : Nat)] 26) ∧ ((w6.alloc (Obj.cells #[.int .u64 (i : Nat), .int .u64 (j : Nat)] 26))).drew.heap[w6.heap.size]? = some (Obj.cells #[.int .u64 (i : Nat), .int .u64 (j : Nat)] 26) ∧ ((w6.alloc (Obj.cells #[.int .u64 (i : Nat), .int .u64 (j : Nat)] 26))).drew.cell? ⟨w.heap.size, 0, none⟩ = some (.int .u64 (x1 : Nat)) ∧ ((w6.alloc (Obj.cells #[.int .u64 (i : Nat), .int .u64 (j : Nat)] 26))).drew.cell? ⟨w.heap.size, 1, none⟩ = some (.int .u64 (y1 : Nat)) ∧ ((w6.alloc (Obj.cells #[.int .u64 (i : Nat), .int .u64 (j : Nat)] 26))).drew.cell? ⟨w.heap.size + 1, 0, none⟩ = some (.int .u64 (x2 : Nat)) ∧ ((w6.alloc (Obj.cells #[.int .u64 (i : Nat), .int .u64 (j : Nat)] 26))).drew.cell? ⟨w.heap.size + 1, 1, none⟩ = some (.int .u64 (y2 : Nat)) ∧ ((w6.alloc (Obj.cells #[.int .u64 (i : Nat), .int .u64 (j : Nat)] 26))).drew.cell? ⟨w.heap.size + 1 + 1, 0, none⟩ = some (.int .u64 (x3 : Nat)) ∧ ((w6.alloc (Obj.cells #[.int .u64 (i : Nat), .int .u64 (j : Nat)] 26))).drew.cell? ⟨w.heap.size + 1 + 1, 1, none⟩ = some (.int .u64 (y3 : Nat)) ∧ ((w6.alloc (Obj.cells #[.int .u64 (i : Nat), .int .u64 (j : Nat)] 26))).drew.cell? ⟨w1.heap.size, 0, none⟩ = some (.int .u64 (u : Nat)) ∧ ((w6.alloc (Obj.cells #[.int .u64 (i : Nat), .int .u64 (j : Nat)] 26))).drew.cell? ⟨w1.heap.size, 1, none⟩ = some (.int .u64 (v : Nat)) ∧ ((w6.alloc (Obj.cells #[.int .u64 (i : Nat), .int .u64 (j : Nat)] 26))).drew.cell? ⟨w3.heap.size, 0, none⟩ = some (.int .u64 (u : Nat)) ∧ ((w6.alloc (Obj.cells #[.int .u64 (i : Nat), .int .u64 (j : Nat)] 26))).drew.cell? ⟨w3.heap.size, 1, none⟩ = some (.int .u64 (v : Nat)) ∧ ((w6.alloc (Obj.cells #[.int .u64 (i : Nat), .int .u64 (j : Nat)] 26))).drew.cell? ⟨g5, 0, none⟩ = some (.int .u64 (i : Nat)) ∧ ((w6.alloc (Obj.cells #[.int .u64 (i : Nat), .int .u64 (j : Nat)] 26))).drew.cell? ⟨g5, 1, none⟩ = some (.int .u64 (j : Nat)) ∧ ((w6.alloc (Obj.cells #[.int .u64 (i : Nat), .int .u64 (j : Nat)] 26))).drew.cell? ⟨w6.heap.size, 0, none⟩ = some (.int .u64 (i : Nat)) ∧ ((w6.alloc (Obj.cells #[.int .u64 (i : Nat), .int .u64 (j : Nat)] 26))).drew.cell? ⟨w6.heap.size, 1, none⟩ = some (.int .u64 (j : Nat)) := ⟨B7.drew, Ra_7, Rb_7, Rc_7, Rx_7, Ry_7, Rg_7, Rr_7, cell7 (Ra_7) 0 _ rfl, cell7 (Ra_7) 1 _ rfl, cell7 (Rb_7) 0 _ rfl, cell7 (Rb_7) 1 _ rfl, cell7 (Rc_7) 0 _ rfl, cell7 (Rc_7) 1 _ rfl, cell7 (Rx_7) 0 _ rfl, cell7 (Rx_7) 1 _ rfl, cell7 (Ry_7) 0 _ rfl, cell7 (Ry_7) 1 _ rfl, cell7 (Rg_7) 0 _ rfl, cell7 (Rg_7) 1 _ rfl, cell7 (Rr_7) 0 _ rfl, cell7 (Rr_7) 1 _ rfl⟩
  clear B7 Ra_7 ca_7_0 ca_7_1 Rb_7 Rc_7 cc_7_0 cc_7_1 Rx_7 Ry_7 Rg_7 Rr_7
  go_wp2_with fail
  apply cut7
  · intro key0
    have key := box key0
    clear key0
    go_region_held3 (fun W => Below w.heap.size w W ∧ W.heap[w.heap.size]? = some (Obj.cells #[.int .u64 (x1 : Nat), .int .u64 (y1 : Nat)] 26) ∧ W.heap[w.heap.size + 1]? = some (Obj.cells #[.int .u64 (x2 : Nat), .int .u64 (y2 : Nat)] 26) ∧ W.heap[w.heap.size + 1 + 1]? = some (Obj.cells #[.int .u64 (x3 : Nat), .int .u64 (y3 : Nat)] 26) ∧ W.heap[w1.heap.size]? = some (Obj.cells #[.int .u64 (u : Nat), .int .u64 (v : Nat)] 26) ∧ W.heap[w3.heap.size]? = some (Obj.cells #[.int .u64 (u : Nat), .int .u64 (v : Nat)] 26) ∧ W.heap[g5]? = some (Obj.cells #[.int .u64 (i : Nat), .int .u64 (j : Nat)] 26) ∧ W.heap[w6.heap.size]? = some (Obj.cells #[.int .u64 (i : Nat), .int .u64 (j : Nat)] 26) ∧ W.cell? ⟨w.heap.size, 0, none⟩ = some (.int .u64 (x1 : Nat)) ∧ W.cell? ⟨w.heap.size, 1, none⟩ = some (.int .u64 (y1 : Nat)) ∧ W.cell? ⟨w.heap.size + 1, 0, none⟩ = some (.int .u64 (x2 : Nat)) ∧ W.cell? ⟨w.heap.size + 1, 1, none⟩ = some (.int .u64 (y2 : Nat)) ∧ W.cell? ⟨w.heap.size + 1 + 1, 0, none⟩ = some (.int .u64 (x3 : Nat)) ∧ W.cell? ⟨w.heap.size + 1 + 1, 1, none⟩ = some (.int .u64 (y3 : Nat)) ∧ W.cell? ⟨w1.heap.size, 0, none⟩ = some (.int .u64 (u : Nat)) ∧ W.cell? ⟨w1.heap.size, 1, none⟩ = some (.int .u64 (v : Nat)) ∧ W.cell? ⟨w3.heap.size, 0, none⟩ = some (.int .u64 (u : Nat)) ∧ W.cell? ⟨w3.heap.size, 1, none⟩ = some (.int .u64 (v : Nat)) ∧ W.cell? ⟨g5, 0, none⟩ = some (.int .u64 (i : Nat)) ∧ W.cell? ⟨g5, 1, none⟩ = some (.int .u64 (j : Nat)) ∧ W.cell? ⟨w6.heap.size, 0, none⟩ = some (.int .u64 (i : Nat)) ∧ W.cell? ⟨w6.heap.size, 1, none⟩ = some (.int .u64 (j : Nat))) (first | exact s1 | exact s0 | exact sS.out _ _ s1 (bal _ _) | exact sS.out _ _ s0 (bal _ _) | exact sT.out _ _ _ _ s1 hl)
      (first | (go_at_call 24; (first | refine (KO.out _ (by first | exact fatB FF.out (And.left s1) | exact fat_al (fatB FF.out (And.left s1)) _)).mono ?_ | refine (KO.out _ (by first | exact fatB FF.out (And.left s0) | exact fat_al (fatB FF.out (And.left s0)) _)).mono ?_); rintro r wq ⟨rfl, bq⟩; (first | (have hg := heap_of bq _ _ _ (heap_alloc_last _ _); have hl := (by first | exact sL.out _ s1 | exact sL.out _ s0)) | have hg := heap_of bq _ _ _ hg | skip); (try simp only [size_dr, size_al] at hg hl); (first | (have hq0 := fz (k := 0) hg; have hq1 := fz (k := 1) hg; have hc0 := cell7 hg 0 _ rfl; have hc1 := cell7 hg 1 _ rfl) | skip); have s2 := (by first | exact sS.out _ _ s1 bq | exact sS.out _ _ s0 bq | exact sS.out _ _ (sS.out _ _ s1 (bal _ _)) bq | exact sS.out _ _ (sS.out _ _ s0 (bal _ _)) bq); (try clear s1); have s1 := s2; clear s2 bq) | (go_at_call 12; (first | refine (K5.out _ (by first | exact fatB FF.out (And.left s1) | exact fat_al (fatB FF.out (And.left s1)) _)).mono ?_ | refine (K5.out _ (by first | exact fatB FF.out (And.left s0) | exact fat_al (fatB FF.out (And.left s0)) _)).mono ?_); rintro r wq ⟨rfl, bq⟩; (first | (have hg := heap_of bq _ _ _ (heap_alloc_last _ _); have hl := (by first | exact sL.out _ s1 | exact sL.out _ s0)) | have hg := heap_of bq _ _ _ hg | skip); (try simp only [size_dr, size_al] at hg hl); (first | (have hq0 := fz (k := 0) hg; have hq1 := fz (k := 1) hg; have hc0 := cell7 hg 0 _ rfl; have hc1 := cell7 hg 1 _ rfl) | skip); have s2 := (by first | exact sS.out _ _ s1 bq | exact sS.out _ _ s0 bq | exact sS.out _ _ (sS.out _ _ s1 (bal _ _)) bq | exact sS.out _ _ (sS.out _ _ s0 (bal _ _)) bq); (try clear s1); have s1 := s2; clear s2 bq) | fail)
    all_goals
      refine gen_abacuslaw15_FmaSingle_23 (R := fun W gN => (Below w.heap.size w W ∧ W.heap[w.heap.size]? = some (Obj.cells #[.int .u64 (x1 : Nat), .int .u64 (y1 : Nat)] 26) ∧ W.heap[w.heap.size + 1]? = some (Obj.cells #[.int .u64 (x2 : Nat), .int .u64 (y2 : Nat)] 26) ∧ W.heap[w.heap.size + 1 + 1]? = some (Obj.cells #[.int .u64 (x3 : Nat), .int .u64 (y3 : Nat)] 26) ∧ W.heap[w1.heap.size]? = some (Obj.cells #[.int .u64 (u : Nat), .int .u64 (v : Nat)] 26) ∧ W.heap[w3.heap.size]? = some (Obj.cells #[.int .u64 (u : Nat), .int .u64 (v : Nat)] 26) ∧ W.heap[g5]? = some (Obj.cells #[.int .u64 (i : Nat), .int .u64 (j : Nat)] 26) ∧ W.heap[w6.heap.size]? = some (Obj.cells #[.int .u64 (i : Nat), .int .u64 (j : Nat)] 26) ∧ W.cell? ⟨w.heap.size, 0, none⟩ = some (.int .u64 (x1 : Nat)) ∧ W.cell? ⟨w.heap.size, 1, none⟩ = some (.int .u64 (y1 : Nat)) ∧ W.cell? ⟨w.heap.size + 1, 0, none⟩ = some (.int .u64 (x2 : Nat)) ∧ W.cell? ⟨w.heap.size + 1, 1, none⟩ = some (.int .u64 (y2 : Nat)) ∧ W.cell? ⟨w.heap.size + 1 + 1, 0, none⟩ = some (.int .u64 (x3 : Nat)) ∧ W.cell? ⟨w.heap.size + 1 + 1, 1, none⟩ = some (.int .u64 (y3 : Nat)) ∧ W.cell? ⟨w1.heap.size, 0, none⟩ = some (.int .u64 (u : Nat)) ∧ W.cell? ⟨w1.heap.size, 1, none⟩ = some (.int .u64 (v : Nat)) ∧ W.cell? ⟨w3.heap.size, 0, none⟩ = some (.int .u64 (u : Nat)) ∧ W.cell? ⟨w3.heap.size, 1, none⟩ = some (.int .u64 (v : Nat)) ∧ W.cell? ⟨g5, 0, none⟩ = some (.int .u64 (i : Nat)) ∧ W.cell? ⟨g5, 1, none⟩ = some (.int .u64 (j : Nat)) ∧ W.cell? ⟨w6.heap.size, 0, none⟩ = some (.int .u64 (i : Nat)) ∧ W.cell? ⟨w6.heap.size, 1, none⟩ = some (.int .u64 (j : Nat))) ∧ W.heap[gN]? = some (Obj.cells #[.int .u64 (k : Nat), .int .u64 (l : Nat)] 26) ∧ (w.heap.size < gN ∧ w.heap.size + 1 < gN ∧ w.heap.size + 1 + 1 < gN ∧ w1.heap.size < gN ∧ w3.heap.size < gN ∧ g5 < gN ∧ w6.heap.size < gN)) key.out ?_
      first
        | exact ⟨(sT.out _ _ _ _ s1 hl), set2_row hg _ _, hl⟩
        | exact ⟨sS.out _ _ s1 (bal _ _), heap_alloc_last _ _, sL.out _ s1⟩
        | exact ⟨sS.out _ _ s0 (bal _ _), heap_alloc_last _ _, sL.out _ s0⟩
  rintro w8 g8 ⟨s1, Rs_8, l8⟩
  have B8 := And.left s1
  have Ra_8 := s1.2.1
  have Rb_8 := s1.2.2.1
  have Rc_8 := s1.2.2.2.1
  have Rx_8 := s1.2.2.2.2.1
  have Ry_8 := s1.2.2.2.2.2.1
  have Rg_8 := s1.2.2.2.2.2.2.1
  have Rr_8 := s1.2.2.2.2.2.2.2.1
  have H8 := box l8
  clear s0 s1 sS sL sT l8
  obtain ⟨ca_8_0, ca_8_1⟩ := cells2s Ra_8
  obtain ⟨cc_8_0, cc_8_1⟩ := cells2s Rc_8
  obtain ⟨cs_8_0, cs_8_1⟩ := cells2s Rs_8
  go_wp2_with fail
  refine (K6.out _ (fatB FF.out B8)).mono ?_
  rintro r w9 ⟨rfl, b9⟩
  have B9 : Below w.heap.size w w9 := btr B8 b9
  have Ra_9 := heap_of b9 _ _ _ Ra_8
  have Rb_9 := heap_of b9 _ _ _ Rb_8
  have Rc_9 := heap_of b9 _ _ _ Rc_8
  have Rx_9 := heap_of b9 _ _ _ Rx_8
  have Ry_9 := heap_of b9 _ _ _ Ry_8
  have Rg_9 := heap_of b9 _ _ _ Rg_8
  have Rr_9 := heap_of b9 _ _ _ Rr_8
  have Rs_9 := heap_of b9 _ _ _ Rs_8
  clear b9 B8 Ra_8 ca_8_0 ca_8_1 Rb_8 Rc_8 cc_8_0 cc_8_1 Rx_8 Ry_8 Rg_8 Rr_8 Rs_8 cs_8_0 cs_8_1
  obtain ⟨ca_9_0, ca_9_1⟩ := cells2s Ra_9
  obtain ⟨cc_9_0, cc_9_1⟩ := cells2s Rc_9
  obtain ⟨cs_9_0, cs_9_1⟩ := cells2s Rs_9
  have S10 := box B9.size
  have La_10 : Box (w.heap.size < w9.heap.size) := box (Array.getElem?_eq_some_iff.1 Ra_9).1
  have Lb_10 : Box (w.heap.size + 1 < w9.heap.size) := box (Array.getElem?_eq_some_iff.1 Rb_9).1
  have Lc_10 : Box (w.heap.size + 1 + 1 < w9.heap.size) := box (Array.getElem?_eq_some_iff.1 Rc_9).1
  have Lx_10 : Box (w1.heap.size < w9.heap.size) := box (Array.getElem?_eq_some_iff.1 Rx_9).1
  have Ly_10 : Box (w3.heap.size < w9.heap.size) := box (Array.getElem?_eq_some_iff.1 Ry_9).1
  have Lg_10 : Box (g5 < w9.heap.size) := box (Array.getElem?_eq_some_iff.1 Rg_9).1
  have Lr_10 : Box (w6.heap.size < w9.heap.size) := box (Array.getElem?_eq_some_iff.1 Rr_9).1
  have Ls_10 : Box (g8 < w9.heap.size) := box (Array.getElem?_eq_some_iff.1 Rs_9).1
  have Rt_10 := heap_alloc_last w9 (Obj.cells #[.int .u64 (k : Nat), .int .u64 (l : Nat)] 26)
  have B10 := btr B9 (bal w9 (Obj.cells #[.int .u64 (k : Nat), .int .u64 (l : Nat)] 26))
  have Ra_10 := heap_of (bal w9 (Obj.cells #[.int .u64 (k : Nat), .int .u64 (l : Nat)] 26)) _ _ _ Ra_9
  have Rb_10 := heap_of (bal w9 (Obj.cells #[.int .u64 (k : Nat), .int .u64 (l : Nat)] 26)) _ _ _ Rb_9
  have Rc_10 := heap_of (bal w9 (Obj.cells #[.int .u64 (k : Nat), .int .u64 (l : Nat)] 26)) _ _ _ Rc_9
  have Rx_10 := heap_of (bal w9 (Obj.cells #[.int .u64 (k : Nat), .int .u64 (l : Nat)] 26)) _ _ _ Rx_9
  have Ry_10 := heap_of (bal w9 (Obj.cells #[.int .u64 (k : Nat), .int .u64 (l : Nat)] 26)) _ _ _ Ry_9
  have Rg_10 := heap_of (bal w9 (Obj.cells #[.int .u64 (k : Nat), .int .u64 (l : Nat)] 26)) _ _ _ Rg_9
  have Rr_10 := heap_of (bal w9 (Obj.cells #[.int .u64 (k : Nat), .int .u64 (l : Nat)] 26)) _ _ _ Rr_9
  have Rs_10 := heap_of (bal w9 (Obj.cells #[.int .u64 (k : Nat), .int .u64 (l : Nat)] 26)) _ _ _ Rs_9
  clear B9 Ra_9 ca_9_0 ca_9_1 Rb_9 Rc_9 cc_9_0 cc_9_1 Rx_9 Ry_9 Rg_9 Rr_9 Rs_9 cs_9_0 cs_9_1
  obtain ⟨ca_10_0, ca_10_1⟩ := cells2s Ra_10
  obtain ⟨cc_10_0, cc_10_1⟩ := cells2s Rc_10
  obtain ⟨cs_10_0, cs_10_1⟩ := cells2s Rs_10
  obtain ⟨ct_10_0, ct_10_1⟩ := cells2s Rt_10
  go_wp2_with fail
  refine (KA.out _ (fatB FF.out B10)).mono ?_
  rintro r w11 ⟨rfl, b11⟩
  have B11 : Below w.heap.size w w11 := btr B10 b11
  have Ra_11 := heap_of b11 _ _ _ Ra_10
  have Rb_11 := heap_of b11 _ _ _ Rb_10
  have Rc_11 := heap_of b11 _ _ _ Rc_10
  have Rx_11 := heap_of b11 _ _ _ Rx_10
  have Ry_11 := heap_of b11 _ _ _ Ry_10
  have Rg_11 := heap_of b11 _ _ _ Rg_10
  have Rr_11 := heap_of b11 _ _ _ Rr_10
  have Rs_11 := heap_of b11 _ _ _ Rs_10
  have Rt_11 := heap_of b11 _ _ _ Rt_10
  clear b11 B10 Ra_10 ca_10_0 ca_10_1 Rb_10 Rc_10 cc_10_0 cc_10_1 Rx_10 Ry_10 Rg_10 Rr_10 Rs_10 cs_10_0 cs_10_1 Rt_10 ct_10_0 ct_10_1
  obtain ⟨ca_11_0, ca_11_1⟩ := cells2s Ra_11
  obtain ⟨cc_11_0, cc_11_1⟩ := cells2s Rc_11
  obtain ⟨cs_11_0, cs_11_1⟩ := cells2s Rs_11
  obtain ⟨ct_11_0, ct_11_1⟩ := cells2s Rt_11
  go_wp2
  go_ret
  exact ⟨rfl, B11⟩
end Go.Proofs.YtapikkbifdldfaaGreatDoor
