/-
  What the functions that the statement reaches return: part 27 (FB).
-/
import Derived.Laws.MakeOwn
import Derived.Test.YtapikkbifdldfaaGreatDoorFa26
namespace Go.Proofs.YtapikkbifdldfaaGreatDoor
set_option maxRecDepth 100000
set_option maxHeartbeats 40000000
open Go.RowKit WMath
set_option linter.unusedSimpArgs false
set_option linter.unusedVariables false
theorem gen_fma_fused_14_15_16 {X : Act → World → Prop} {R : World → Nat → Nat → Nat → Prop} {t0 t1 t2 t3 t4 t5 t6 t7 t8 t9 t10 t11 t12 t13 t17 t18 t19 t20 t21 t22 t23 t24 t25 t26 t27 t28 t29 t30 t31 t32 t33 t34 t35 t36 t37 t38 t39 t40 t41 t42 t43 t44 t45 t46 t47 t48 t49 t50 t51 t52 t53 t54 t55 t56 t57 t58 t59 t60 t61 t62 t63 t64 t65 t66 t67 t68 t69 t70 t71 t72 t73 t74 t75 t76 t77 t78 t79 t80 t81 t82 t83 t84 t85 t86 t87 t88 t89 t90 t91 t92 t93 t94 t95 t96 t97 t98 t99 t100 t101 t102 t103 t104 t105 t106 t107 t108 t109 t110 t111 t112 t113 t114 t115 t116 t117 t118 t119 t120 t121 t122 t123 t124 t125 t126 t127 t128 t129 t130 t131 t132 t133 t134 t135 t136 t137 t138 t139 t140 t141 t142 t143 t144 t145 t146 t147 t148 t149 t150 t151 t152 t153 t154 t155 t156 t157 t158 t159 t160 : Value} {d : List Deferred} {W : World} {G1 G2 G3 : Nat}
  (key : ∀ w5 g1 g2 g3, R w5 g1 g2 g3 → X ⟨#[t0, t1, t2, t3, t4, t5, t6, t7, t8, t9, t10, t11, t12, t13, .pointer (some ⟨g1, 0, none⟩), .pointer (some ⟨g2, 0, none⟩), .pointer (some ⟨g3, 0, none⟩), t17, t18, t19, t20, t21, t22, t23, t24, t25, t26, t27, t28, t29, t30, t31, t32, t33, t34, t35, t36, t37, t38, t39, t40, t41, t42, t43, t44, t45, t46, t47, t48, t49, t50, t51, t52, t53, t54, t55, t56, t57, t58, t59, t60, t61, t62, t63, t64, t65, t66, t67, t68, t69, t70, t71, t72, t73, t74, t75, t76, t77, t78, t79, t80, t81, t82, t83, t84, t85, t86, t87, t88, t89, t90, t91, t92, t93, t94, t95, t96, t97, t98, t99, t100, t101, t102, t103, t104, t105, t106, t107, t108, t109, t110, t111, t112, t113, t114, t115, t116, t117, t118, t119, t120, t121, t122, t123, t124, t125, t126, t127, t128, t129, t130, t131, t132, t133, t134, t135, t136, t137, t138, t139, t140, t141, t142, t143, t144, t145, t146, t147, t148, t149, t150, t151, t152, t153, t154, t155, t156, t157, t158, t159, t160], d⟩ w5) (r : R W G1 G2 G3) : X ⟨#[t0, t1, t2, t3, t4, t5, t6, t7, t8, t9, t10, t11, t12, t13, .pointer (some ⟨G1, 0, none⟩), .pointer (some ⟨G2, 0, none⟩), .pointer (some ⟨G3, 0, none⟩), t17, t18, t19, t20, t21, t22, t23, t24, t25, t26, t27, t28, t29, t30, t31, t32, t33, t34, t35, t36, t37, t38, t39, t40, t41, t42, t43, t44, t45, t46, t47, t48, t49, t50, t51, t52, t53, t54, t55, t56, t57, t58, t59, t60, t61, t62, t63, t64, t65, t66, t67, t68, t69, t70, t71, t72, t73, t74, t75, t76, t77, t78, t79, t80, t81, t82, t83, t84, t85, t86, t87, t88, t89, t90, t91, t92, t93, t94, t95, t96, t97, t98, t99, t100, t101, t102, t103, t104, t105, t106, t107, t108, t109, t110, t111, t112, t113, t114, t115, t116, t117, t118, t119, t120, t121, t122, t123, t124, t125, t126, t127, t128, t129, t130, t131, t132, t133, t134, t135, t136, t137, t138, t139, t140, t141, t142, t143, t144, t145, t146, t147, t148, t149, t150, t151, t152, t153, t154, t155, t156, t157, t158, t159, t160], d⟩ W := key W G1 G2 G3 r
theorem gen_fma_fused_19 {X : Act → World → Prop} {R : World → Nat → Prop} {t0 t1 t2 t3 t4 t5 t6 t7 t8 t9 t10 t11 t12 t13 t14 t15 t16 t17 t18 t20 t21 t22 t23 t24 t25 t26 t27 t28 t29 t30 t31 t32 t33 t34 t35 t36 t37 t38 t39 t40 t41 t42 t43 t44 t45 t46 t47 t48 t49 t50 t51 t52 t53 t54 t55 t56 t57 t58 t59 t60 t61 t62 t63 t64 t65 t66 t67 t68 t69 t70 t71 t72 t73 t74 t75 t76 t77 t78 t79 t80 t81 t82 t83 t84 t85 t86 t87 t88 t89 t90 t91 t92 t93 t94 t95 t96 t97 t98 t99 t100 t101 t102 t103 t104 t105 t106 t107 t108 t109 t110 t111 t112 t113 t114 t115 t116 t117 t118 t119 t120 t121 t122 t123 t124 t125 t126 t127 t128 t129 t130 t131 t132 t133 t134 t135 t136 t137 t138 t139 t140 t141 t142 t143 t144 t145 t146 t147 t148 t149 t150 t151 t152 t153 t154 t155 t156 t157 t158 t159 t160 : Value} {d : List Deferred} {W : World} {G : Nat}
  (key : ∀ w5 g, R w5 g → X ⟨#[t0, t1, t2, t3, t4, t5, t6, t7, t8, t9, t10, t11, t12, t13, t14, t15, t16, t17, t18, .pointer (some ⟨g, 0, none⟩), t20, t21, t22, t23, t24, t25, t26, t27, t28, t29, t30, t31, t32, t33, t34, t35, t36, t37, t38, t39, t40, t41, t42, t43, t44, t45, t46, t47, t48, t49, t50, t51, t52, t53, t54, t55, t56, t57, t58, t59, t60, t61, t62, t63, t64, t65, t66, t67, t68, t69, t70, t71, t72, t73, t74, t75, t76, t77, t78, t79, t80, t81, t82, t83, t84, t85, t86, t87, t88, t89, t90, t91, t92, t93, t94, t95, t96, t97, t98, t99, t100, t101, t102, t103, t104, t105, t106, t107, t108, t109, t110, t111, t112, t113, t114, t115, t116, t117, t118, t119, t120, t121, t122, t123, t124, t125, t126, t127, t128, t129, t130, t131, t132, t133, t134, t135, t136, t137, t138, t139, t140, t141, t142, t143, t144, t145, t146, t147, t148, t149, t150, t151, t152, t153, t154, t155, t156, t157, t158, t159, t160], d⟩ w5) (r : R W G) : X ⟨#[t0, t1, t2, t3, t4, t5, t6, t7, t8, t9, t10, t11, t12, t13, t14, t15, t16, t17, t18, .pointer (some ⟨G, 0, none⟩), t20, t21, t22, t23, t24, t25, t26, t27, t28, t29, t30, t31, t32, t33, t34, t35, t36, t37, t38, t39, t40, t41, t42, t43, t44, t45, t46, t47, t48, t49, t50, t51, t52, t53, t54, t55, t56, t57, t58, t59, t60, t61, t62, t63, t64, t65, t66, t67, t68, t69, t70, t71, t72, t73, t74, t75, t76, t77, t78, t79, t80, t81, t82, t83, t84, t85, t86, t87, t88, t89, t90, t91, t92, t93, t94, t95, t96, t97, t98, t99, t100, t101, t102, t103, t104, t105, t106, t107, t108, t109, t110, t111, t112, t113, t114, t115, t116, t117, t118, t119, t120, t121, t122, t123, t124, t125, t126, t127, t128, t129, t130, t131, t132, t133, t134, t135, t136, t137, t138, t139, t140, t141, t142, t143, t144, t145, t146, t147, t148, t149, t150, t151, t152, t153, t154, t155, t156, t157, t158, t159, t160], d⟩ W := key W G r

theorem setv3_below {n : Nat} {w wr : World} {b : Nat} (h : Below n w wr) (hb : n ≤ b) (v0 v1 v2 : Value) : Below n w (((wr.setCell ⟨b, 0, none⟩ v0).setCell ⟨b, 1, none⟩ v1).setCell ⟨b, 2, none⟩ v2) := ((h.setCell hb _).setCell hb _).setCell hb _
theorem al_row30 (X : World) (Z : Obj) : (((X.alloc Z).alloc Z).alloc Z).heap[X.heap.size]? = some Z := xG (xG (heap_alloc_last X Z) Z) Z
theorem al_row31 (X : World) (Z : Obj) : (((X.alloc Z).alloc Z).alloc Z).heap[X.heap.size + 1]? = some Z := by have := xG (heap_alloc_last (X.alloc Z) Z) Z; rw [zM] at this; exact this
theorem al_row32 (X : World) (Z : Obj) : (((X.alloc Z).alloc Z).alloc Z).heap[X.heap.size + 1 + 1]? = some Z := by have := heap_alloc_last ((X.alloc Z).alloc Z) Z; rw [zM, zM] at this; exact this
theorem sp_one (V : World) (b : Nat) (h : V.heap[b]? = some (.cells (pt 0 0 0 0) 54)) : ∀ (c s : Nat) (x : Int) (r : Nat), (storeCells ⟨b, 0, none⟩ (pt c s x r).toList 0).run Tryz.prog V = .ok () (V.setRow b (pt c s x r)) := fun c s x r => st_p V b c s x r 0 0 0 0 h
theorem sp_two (V : World) (a b : Nat) (d : a ≠ b) (h : V.heap[b]? = some (.cells (pt 0 0 0 0) 54)) : ∀ (u : Array Value) (c s : Nat) (x : Int) (r : Nat), (storeCells ⟨b, 0, none⟩ (pt c s x r).toList 0).run Tryz.prog (V.setRow a u) = .ok () ((V.setRow a u).setRow b (pt c s x r)) := fun u c s x r => st_p _ b c s x r 0 0 0 0 ((zI d).trans h)
theorem sp_three (V : World) (a e b : Nat) (d1 : a ≠ b) (d2 : e ≠ b) (h : V.heap[b]? = some (.cells (pt 0 0 0 0) 54)) : ∀ (u v : Array Value) (c s : Nat) (x : Int) (r : Nat), (storeCells ⟨b, 0, none⟩ (pt c s x r).toList 0).run Tryz.prog ((V.setRow a u).setRow e v) = .ok () (((V.setRow a u).setRow e v).setRow b (pt c s x r)) := fun u v c s x r => st_p _ b c s x r 0 0 0 0 ((zI d2).trans ((zI d1).trans h))
theorem set3r1 {V : World} {a b e : Nat} {c x y z : Array Value} {T : TypeId} (ha : V.heap[a]? = some (.cells c T)) (d : a ≠ b) (d2 : a ≠ e) : (((V.setRow a x).setRow b y).setRow e z).heap[a]? = some (.cells x T) := (zI (Ne.symm d2)).trans ((zI (Ne.symm d)).trans (zU ha))
theorem set3r2 {V : World} {a b e : Nat} {c x y z : Array Value} {T : TypeId} (hb : V.heap[b]? = some (.cells c T)) (d : a ≠ b) (d2 : b ≠ e) : (((V.setRow a x).setRow b y).setRow e z).heap[b]? = some (.cells y T) := (zI (Ne.symm d2)).trans (zU ((zI d).trans hb))
theorem set3r3 {V : World} {a b e : Nat} {c x y z : Array Value} {T : TypeId} (he : V.heap[e]? = some (.cells c T)) (d : a ≠ e) (d2 : b ≠ e) : (((V.setRow a x).setRow b y).setRow e z).heap[e]? = some (.cells z T) := zU ((zI d2).trans ((zI d).trans he))
theorem setv3_row {w : World} {b : Nat} {c0 c1 c2 : Value} {T : TypeId} (h : w.heap[b]? = some (.cells #[c0, c1, c2] T)) (v0 v1 v2 : Value) : (((w.setCell ⟨b, 0, none⟩ v0).setCell ⟨b, 1, none⟩ v1).setCell ⟨b, 2, none⟩ v2).heap[b]? = some (.cells #[v0, v1, v2] T) := by rw [zY (zY (zY h))]; rfl
theorem fb_lt1 (c : Bool) (s : Nat) (x : Int) (r : Bool) (t : Nat) : ((rg c s x r).size < 1 + (cw 6 t).size) = False := eq_false (by rw [z7]; exact (show ¬ (9 < 1 + 6) by decide))
theorem fb_lt8 (c : Bool) (s : Nat) (x : Int) (r : Bool) : ((rg c s x r).size < 8) = False := eq_false (show ¬ (9 < 8) by decide)
theorem fb_lt9 (c : Bool) (s : Nat) (x : Int) (r : Bool) : ((rg c s x r).size < 9) = False := eq_false (show ¬ (9 < 9) by decide)
theorem fb_ne (c : Bool) (s : Nat) (x : Int) (r : Bool) : (rg c s x r = #[]) = False := eq_false (fun h => by have := congrArg Array.size h; exact absurd this (by decide : ¬ (9 = 0)))
theorem fb_bld (neg : Bool) (T : Nat) (E : Int) : ((((((((rg false 0 0 false).setIfInBounds 0 (.bool neg)).setIfInBounds 1 (.int .u64 (wd T 0))).setIfInBounds 2 (.int .u64 (wd T 1))).setIfInBounds 3 (.int .u64 (wd T 2))).setIfInBounds 4 (.int .u64 (wd T 3))).setIfInBounds 5 (.int .u64 (wd T 4))).setIfInBounds 6 (.int .u64 (wd T 5))).setIfInBounds 7 (.int .i64 E) = rg neg T E false := Array.ext' (by
 simp only [Array.toList_setIfInBounds]
 rfl)
def p3v (c1 m1 : Nat) (X1 : Int) (r1 c2 m2 : Nat) (X2 : Int) (r2 c3 m3 : Nat) (X3 : Int) (r3 : Nat) : Array Value := #[.int .u8 c1, .int .u64 (wd m1 0), .int .u64 (wd m1 1), .int .u64 (wd m1 2), .int .u64 (wd m1 3), .int .u64 (wd m1 4), .int .u64 (wd m1 5), .int .i64 X1, .int .u64 (wd r1 0), .int .u64 (wd r1 1), .int .u64 (wd r1 2), .int .u64 (wd r1 3), .int .u64 (wd r1 4), .int .u64 (wd r1 5), .int .u8 c2, .int .u64 (wd m2 0), .int .u64 (wd m2 1), .int .u64 (wd m2 2), .int .u64 (wd m2 3), .int .u64 (wd m2 4), .int .u64 (wd m2 5), .int .i64 X2, .int .u64 (wd r2 0), .int .u64 (wd r2 1), .int .u64 (wd r2 2), .int .u64 (wd r2 3), .int .u64 (wd r2 4), .int .u64 (wd r2 5), .int .u8 c3, .int .u64 (wd m3 0), .int .u64 (wd m3 1), .int .u64 (wd m3 2), .int .u64 (wd m3 3), .int .u64 (wd m3 4), .int .u64 (wd m3 5), .int .i64 X3, .int .u64 (wd r3 0), .int .u64 (wd r3 1), .int .u64 (wd r3 2), .int .u64 (wd r3 3), .int .u64 (wd r3 4), .int .u64 (wd r3 5)]
theorem p3_size (c1 m1 : Nat) (X1 : Int) (r1 c2 m2 : Nat) (X2 : Int) (r2 c3 m3 : Nat) (X3 : Int) (r3 : Nat) : (p3v c1 m1 X1 r1 c2 m2 X2 r2 c3 m3 X3 r3).size = 42 := rfl
theorem st_q0 (w : World) (b c m : Nat) (x : Int) (r : Nat) (c1 m1 : Nat) (X1 : Int) (r1 c2 m2 : Nat) (X2 : Int) (r2 c3 m3 : Nat) (X3 : Int) (r3 : Nat) (h : w.heap[b]? = some (.cells (p3v c1 m1 X1 r1 c2 m2 X2 r2 c3 m3 X3 r3) 54)) :
  (storeCells ⟨b, 0, none⟩ (pt c m x r).toList 0).run Tryz.prog w = .ok () (w.setRow b (p3v c m x r c2 m2 X2 r2 c3 m3 X3 r3)) :=
 run_storeCells_at (P := Tryz.prog) b 0 54 (pt c m x r).toList 0 (p3v c1 m1 X1 r1 c2 m2 X2 r2 c3 m3 X3 r3) w h (by simp only [Array.length_toList, pt_size, p3_size]; omega) (pt_one c m x r)
theorem st_q1 (w : World) (b c m : Nat) (x : Int) (r : Nat) (c1 m1 : Nat) (X1 : Int) (r1 c2 m2 : Nat) (X2 : Int) (r2 c3 m3 : Nat) (X3 : Int) (r3 : Nat) (h : w.heap[b]? = some (.cells (p3v c1 m1 X1 r1 c2 m2 X2 r2 c3 m3 X3 r3) 54)) :
  (storeCells ⟨b, 14, none⟩ (pt c m x r).toList 0).run Tryz.prog w = .ok () (w.setRow b (p3v c1 m1 X1 r1 c m x r c3 m3 X3 r3)) :=
 run_storeCells_at (P := Tryz.prog) b 14 54 (pt c m x r).toList 0 (p3v c1 m1 X1 r1 c2 m2 X2 r2 c3 m3 X3 r3) w h (by simp only [Array.length_toList, pt_size, p3_size]; omega) (pt_one c m x r)
theorem st_q2 (w : World) (b c m : Nat) (x : Int) (r : Nat) (c1 m1 : Nat) (X1 : Int) (r1 c2 m2 : Nat) (X2 : Int) (r2 c3 m3 : Nat) (X3 : Int) (r3 : Nat) (h : w.heap[b]? = some (.cells (p3v c1 m1 X1 r1 c2 m2 X2 r2 c3 m3 X3 r3) 54)) :
  (storeCells ⟨b, 28, none⟩ (pt c m x r).toList 0).run Tryz.prog w = .ok () (w.setRow b (p3v c1 m1 X1 r1 c2 m2 X2 r2 c m x r)) :=
 run_storeCells_at (P := Tryz.prog) b 28 54 (pt c m x r).toList 0 (p3v c1 m1 X1 r1 c2 m2 X2 r2 c3 m3 X3 r3) w h (by simp only [Array.length_toList, pt_size, p3_size]; omega) (pt_one c m x r)
theorem p3_made : madeCells (pt 0 0 0 0) (3 * 14) = p3v 0 0 0 0 0 0 0 0 0 0 0 0 := by kernel_rfl
theorem p3_make (w : World) : (Instr.makeSlice 121 (.int .i64 3) (.int .i64 3)).run Tryz.prog w = .ok (.slice (some ⟨w.heap.size, 0, none⟩) 3 3) (w.alloc (.cells (p3v 0 0 0 0 0 0 0 0 0 0 0 0) 54)) := by
 have info : (Tryz.prog.info? 54).map (fun i => (i.zero, i.size, i.bytes)) = some (some (.agg (pt 0 0 0 0)), 14, 112) := by kernel_rfl
 obtain ⟨i, hi, hzz⟩ := Option.map_eq_some_iff.1 info
 simp only [Prod.mk.injEq] at hzz
 obtain ⟨hz, hs, hb⟩ := hzz
 have r := run_make (P := Tryz.prog) w 121 54 i _ Tryz.underlying121 hi hz .i64 .i64 3 3 (by omega) (Int.le_refl _) (by rw [hb]; omega) (by omega)
 rw [hs, show (3 : Int).toNat = 3 from rfl] at r
 rw [← p3_made]
 exact r
theorem fm_opened (f : Int) (x1 y1 x2 y2 x3 y3 : Nat) (c1 m1 : Nat) (X1 : Int) (r1 c2 m2 : Nat) (X2 : Int) (r2 c3 m3 : Nat) (X3 : Int) (r3 : Nat) (g : Nat) (T : TypeId) (w : World) (row : w.heap[g]? = some (.cells #[.int .u64 x1, .int .u64 y1, .int .u64 x2, .int .u64 y2, .int .u64 x3, .int .u64 y3] T))
  (KU1 : zR (∀ w, yN w → Calls Tryz.prog 33 #[.int .u8 f, .agg #[.int .u64 x1, .int .u64 y1]] w fun r w' => r = .returned (.tuple #[.agg (pt c1 m1 X1 r1), .int .i64 0]) ∧ Below w.heap.size w w'))
  (KU2 : zR (∀ w, yN w → Calls Tryz.prog 33 #[.int .u8 f, .agg #[.int .u64 x2, .int .u64 y2]] w fun r w' => r = .returned (.tuple #[.agg (pt c2 m2 X2 r2), .int .i64 0]) ∧ Below w.heap.size w w'))
  (KU3 : zR (∀ w, yN w → Calls Tryz.prog 33 #[.int .u8 f, .agg #[.int .u64 x3, .int .u64 y3]] w fun r w' => r = .returned (.tuple #[.agg (pt c3 m3 X3 r3), .int .i64 0]) ∧ Below w.heap.size w w'))
  (hT : yN w) : Calls Tryz.prog 105 #[.int .u8 f, .slice (some ⟨g, 0, none⟩) 3 3] w fun r w' => r = .returned (.slice (some ⟨w.heap.size, 0, none⟩) 3 3) ∧ w'.heap[w.heap.size]? = some (.cells (p3v c1 m1 X1 r1 c2 m2 X2 r2 c3 m3 X3 r3) 54) ∧ Below w.heap.size w w' := by
 have FF := zK hT
 clear hT
 have hmk := p3_make
 have Aa := ptf
 have Ab : ∀ (c s : Nat) (x : Int) (r : Nat), ((pt c s x r).size = 14) = True := fun _ _ _ _ => eq_true rfl
 go_enter Tryz.func105, Tryz.ntmps105
 go_wp2
 clear hmk
 have Ro := heap_alloc_last w (.cells (p3v 0 0 0 0 0 0 0 0 0 0 0 0) 54)
 have Bo := yQ w (.cells (p3v 0 0 0 0 0 0 0 0 0 0 0 0) 54)
 obtain ⟨V, hV⟩ : ∃ V, w.alloc (.cells (p3v 0 0 0 0 0 0 0 0 0 0 0 0) 54) = V := ⟨_, rfl⟩
 rw [hV] at Ro Bo ⊢
 clear hV
 go_loopw [13] (fun iv wr => ∃ k : Nat, iv = .int .i64 (k : Int) ∧ Below w.heap.size w wr ∧ ((k = 0 ∧ wr.heap[w.heap.size]? = some (.cells (p3v 0 0 0 0 0 0 0 0 0 0 0 0) 54)) ∨ (k = 1 ∧ wr.heap[w.heap.size]? = some (.cells (p3v c1 m1 X1 r1 0 0 0 0 0 0 0 0) 54)) ∨ (k = 2 ∧ wr.heap[w.heap.size]? = some (.cells (p3v c1 m1 X1 r1 c2 m2 X2 r2 0 0 0 0) 54)) ∨ (k = 3 ∧ wr.heap[w.heap.size]? = some (.cells (p3v c1 m1 X1 r1 c2 m2 X2 r2 c3 m3 X3 r3) 54)))) (fun iv _ => 3 - (intOf iv).toNat)
 case atStart => exact ⟨0, rfl, Bo, Or.inl ⟨rfl, Ro⟩⟩
 case round =>
  clear Ro Bo
  obtain ⟨k, rfl, Bk, Hk⟩ := hrel
  have rk := zA Bk _ _ _ row
  have FA : zR (yN wr) := zK (z8 FF.out Bk)
  rcases Hk with ⟨rfl, Rk⟩ | ⟨rfl, Rk⟩ | ⟨rfl, Rk⟩ | ⟨rfl, Rk⟩
  ·
   obtain ⟨e0, e1⟩ := (⟨zJ rk 0 _ rfl, zJ rk 1 _ rfl⟩ : wr.cell? ⟨g, 0, none⟩ = some (.int .u64 x1) ∧ wr.cell? ⟨g, 1, none⟩ = some (.int .u64 y1))
   go_wp2_with fail
   have BA := yQ wr (.cells #[.int .u64 x1, .int .u64 y1] 26)
   refine (KU1.out _ (z8 FA.out BA)).mono ?_
   rintro r w2 ⟨rfl, b2⟩
   have R2 := zA (zW BA b2) _ _ _ Rk
   have hst := st_q0 w2 w.heap.size c1 m1 X1 r1 0 0 0 0 0 0 0 0 0 0 0 0 R2
   have R3 := zU (c' := p3v c1 m1 X1 r1 0 0 0 0 0 0 0 0) R2
   have B3 := z9 (c := p3v c1 m1 X1 r1 0 0 0 0 0 0 0 0) (zW (zW Bk BA) b2) (Nat.le_refl _)
   clear rk Rk R2 BA Bk b2
   go_wp2
   go_roundw
   case rel => exact ⟨1, by go_num, B3, Or.inr (Or.inl ⟨rfl, R3⟩)⟩
   case measure => simp [intOf]
  ·
   obtain ⟨e0, e1⟩ := (⟨zJ rk 2 _ rfl, zJ rk 3 _ rfl⟩ : wr.cell? ⟨g, 2, none⟩ = some (.int .u64 x2) ∧ wr.cell? ⟨g, 3, none⟩ = some (.int .u64 y2))
   go_wp2_with fail
   have BA := yQ wr (.cells #[.int .u64 x2, .int .u64 y2] 26)
   refine (KU2.out _ (z8 FA.out BA)).mono ?_
   rintro r w2 ⟨rfl, b2⟩
   have R2 := zA (zW BA b2) _ _ _ Rk
   have hst := st_q1 w2 w.heap.size c2 m2 X2 r2 c1 m1 X1 r1 0 0 0 0 0 0 0 0 R2
   have R3 := zU (c' := p3v c1 m1 X1 r1 c2 m2 X2 r2 0 0 0 0) R2
   have B3 := z9 (c := p3v c1 m1 X1 r1 c2 m2 X2 r2 0 0 0 0) (zW (zW Bk BA) b2) (Nat.le_refl _)
   clear rk Rk R2 BA Bk b2
   go_wp2
   go_roundw
   case rel => exact ⟨2, by go_num, B3, Or.inr (Or.inr (Or.inl ⟨rfl, R3⟩))⟩
   case measure => simp [intOf]
  ·
   obtain ⟨e0, e1⟩ := (⟨zJ rk 4 _ rfl, zJ rk 5 _ rfl⟩ : wr.cell? ⟨g, 4, none⟩ = some (.int .u64 x3) ∧ wr.cell? ⟨g, 5, none⟩ = some (.int .u64 y3))
   go_wp2_with fail
   have BA := yQ wr (.cells #[.int .u64 x3, .int .u64 y3] 26)
   refine (KU3.out _ (z8 FA.out BA)).mono ?_
   rintro r w2 ⟨rfl, b2⟩
   have R2 := zA (zW BA b2) _ _ _ Rk
   have hst := st_q2 w2 w.heap.size c3 m3 X3 r3 c1 m1 X1 r1 c2 m2 X2 r2 0 0 0 0 R2
   have R3 := zU (c' := p3v c1 m1 X1 r1 c2 m2 X2 r2 c3 m3 X3 r3) R2
   have B3 := z9 (c := p3v c1 m1 X1 r1 c2 m2 X2 r2 c3 m3 X3 r3) (zW (zW Bk BA) b2) (Nat.le_refl _)
   clear rk Rk R2 BA Bk b2
   go_wp2
   go_roundw
   case rel => exact ⟨3, by go_num, B3, Or.inr (Or.inr (Or.inr (⟨rfl, R3⟩)))⟩
   case measure => simp [intOf]
  ·
   go_wp2
   go_ret
   exact ⟨rfl, Rk, Bk⟩
theorem y9 (f m : Int) (x1 y1 x2 y2 x3 y3 u v : Nat) (c1 m1 : Nat) (X1 : Int) (r1 c2 m2 : Nat) (X2 : Int) (r2 c3 m3 : Nat) (X3 : Int) (r3 : Nat) (sg1 sg2 sg3 neg ns : Bool) (p1 p2 p3 : Int) (S1 : Nat) (E1 : Int) (S : Nat) (X fl : Int) (w : World) (hng : (!(sg1 == sg2)) = neg)
  (KO : zR (∀ (T : TypeId) (g : Nat) (w : World), w.heap.size = g → yN w → Calls Tryz.prog 105 #[.int .u8 f, .slice (some ⟨g, 0, none⟩) 3 3] (w.alloc (.cells #[.int .u64 x1, .int .u64 y1, .int .u64 x2, .int .u64 y2, .int .u64 x3, .int .u64 y3] T)) fun r w' => ∃ gl, r = .returned (.slice (some ⟨gl, 0, none⟩) 3 3) ∧ w'.heap[gl]? = some (.cells (p3v c1 m1 X1 r1 c2 m2 X2 r2 c3 m3 X3 r3) 54) ∧ Below w.heap.size w w'))
  (KS1 : zR (∀ w, yN w → Calls Tryz.prog 22 #[.int .u8 f, .agg #[.int .u64 x1, .int .u64 y1]] w fun r w' => r = .returned (.bool sg1) ∧ Below w.heap.size w w'))
  (KS2 : zR (∀ w, yN w → Calls Tryz.prog 22 #[.int .u8 f, .agg #[.int .u64 x2, .int .u64 y2]] w fun r w' => r = .returned (.bool sg2) ∧ Below w.heap.size w w'))
  (KS3 : zR (∀ w, yN w → Calls Tryz.prog 22 #[.int .u8 f, .agg #[.int .u64 x3, .int .u64 y3]] w fun r w' => r = .returned (.bool sg3) ∧ Below w.heap.size w w'))
  (KP1 : zR (∀ w, Calls Tryz.prog 34 #[.int .u8 c1] w fun r w' => r = .returned (.int .u8 p1) ∧ Below w.heap.size w w'))
  (KP2 : zR (∀ w, Calls Tryz.prog 34 #[.int .u8 c2] w fun r w' => r = .returned (.int .u8 p2) ∧ Below w.heap.size w w'))
  (KP3 : zR (∀ w, Calls Tryz.prog 34 #[.int .u8 c3] w fun r w' => r = .returned (.int .u8 p3) ∧ Below w.heap.size w w'))
  (H : zR ((p1 = 7 ∧ p2 = 4 ∧ zR (∀ w, yN w → Calls Tryz.prog 35 #[.int .u8 f] w fun r w' => r = .returned (.agg #[.int .u64 u, .int .u64 v]) ∧ Below w.heap.size w w') ∧ fl = 16) ∨
   (p1 = 4 ∧ p2 = 7 ∧ zR (∀ w, yN w → Calls Tryz.prog 35 #[.int .u8 f] w fun r w' => r = .returned (.agg #[.int .u64 u, .int .u64 v]) ∧ Below w.heap.size w w') ∧ fl = 16) ∨
   (p1 = 8 ∧ zR (∀ w, yN w → Calls Tryz.prog 35 #[.int .u8 f] w fun r w' => r = .returned (.agg #[.int .u64 u, .int .u64 v]) ∧ Below w.heap.size w w') ∧ fl = 16) ∨
   (p2 = 8 ∧ (p1 == 8) = false ∧ zR (∀ w, yN w → Calls Tryz.prog 35 #[.int .u8 f] w fun r w' => r = .returned (.agg #[.int .u64 u, .int .u64 v]) ∧ Below w.heap.size w w') ∧ fl = 16) ∨
   (p3 = 8 ∧ p1 = 7 ∧ (p2 == 4) = false ∧ (p2 == 8) = false ∧ zR (∀ w, yN w → Calls Tryz.prog 35 #[.int .u8 f] w fun r w' => r = .returned (.agg #[.int .u64 u, .int .u64 v]) ∧ Below w.heap.size w w') ∧ fl = 16) ∨
   (p3 = 8 ∧ p1 = 4 ∧ (p2 == 7) = false ∧ (p2 == 8) = false ∧ zR (∀ w, yN w → Calls Tryz.prog 35 #[.int .u8 f] w fun r w' => r = .returned (.agg #[.int .u64 u, .int .u64 v]) ∧ Below w.heap.size w w') ∧ fl = 16) ∨
   (p3 = 8 ∧ (p1 == 7) = false ∧ (p1 == 4) = false ∧ (p1 == 8) = false ∧ (p2 == 8) = false ∧ zR (∀ w, yN w → Calls Tryz.prog 35 #[.int .u8 f] w fun r w' => r = .returned (.agg #[.int .u64 u, .int .u64 v]) ∧ Below w.heap.size w w') ∧ fl = 16) ∨
   (p1 = 9 ∧ (p2 == 8) = false ∧ (p3 == 8) = false ∧ zR (∀ w, yN w → Calls Tryz.prog 35 #[.int .u8 f] w fun r w' => r = .returned (.agg #[.int .u64 u, .int .u64 v]) ∧ Below w.heap.size w w') ∧ fl = 0) ∨
   (p2 = 9 ∧ (p1 == 8) = false ∧ (p3 == 8) = false ∧ (p1 == 9) = false ∧ zR (∀ w, yN w → Calls Tryz.prog 35 #[.int .u8 f] w fun r w' => r = .returned (.agg #[.int .u64 u, .int .u64 v]) ∧ Below w.heap.size w w') ∧ fl = 0) ∨
   (p3 = 9 ∧ p1 = 7 ∧ (p2 == 4) = false ∧ (p2 == 8) = false ∧ (p2 == 9) = false ∧ zR (∀ w, yN w → Calls Tryz.prog 35 #[.int .u8 f] w fun r w' => r = .returned (.agg #[.int .u64 u, .int .u64 v]) ∧ Below w.heap.size w w') ∧ fl = 0) ∨
   (p3 = 9 ∧ p1 = 4 ∧ (p2 == 7) = false ∧ (p2 == 8) = false ∧ (p2 == 9) = false ∧ zR (∀ w, yN w → Calls Tryz.prog 35 #[.int .u8 f] w fun r w' => r = .returned (.agg #[.int .u64 u, .int .u64 v]) ∧ Below w.heap.size w w') ∧ fl = 0) ∨
   (p3 = 9 ∧ (p1 == 7) = false ∧ (p1 == 4) = false ∧ (p1 == 8) = false ∧ (p2 == 8) = false ∧ (p1 == 9) = false ∧ (p2 == 9) = false ∧ zR (∀ w, yN w → Calls Tryz.prog 35 #[.int .u8 f] w fun r w' => r = .returned (.agg #[.int .u64 u, .int .u64 v]) ∧ Below w.heap.size w w') ∧ fl = 0) ∨
   (p1 = 7 ∧ (p2 == 4) = false ∧ (p2 == 8) = false ∧ (p3 == 8) = false ∧ (p2 == 9) = false ∧ (p3 == 9) = false ∧ (p3 == 7) = false ∧ zR (∀ w, yN w → Calls Tryz.prog 36 #[.int .u8 f, .bool neg] w fun r w' => r = .returned (.agg #[.int .u64 u, .int .u64 v]) ∧ Below w.heap.size w w') ∧ fl = 0) ∨
   (p1 = 7 ∧ (p2 == 4) = false ∧ (p2 == 8) = false ∧ (p3 == 8) = false ∧ (p2 == 9) = false ∧ (p3 == 9) = false ∧ p3 = 7 ∧ (sg3 == neg) = true ∧ zR (∀ w, yN w → Calls Tryz.prog 36 #[.int .u8 f, .bool neg] w fun r w' => r = .returned (.agg #[.int .u64 u, .int .u64 v]) ∧ Below w.heap.size w w') ∧ fl = 0) ∨
   (p1 = 7 ∧ (p2 == 4) = false ∧ (p2 == 8) = false ∧ (p3 == 8) = false ∧ (p2 == 9) = false ∧ (p3 == 9) = false ∧ p3 = 7 ∧ (sg3 == neg) = false ∧ zR (∀ w, yN w → Calls Tryz.prog 35 #[.int .u8 f] w fun r w' => r = .returned (.agg #[.int .u64 u, .int .u64 v]) ∧ Below w.heap.size w w') ∧ fl = 16) ∨
   (p2 = 7 ∧ (p1 == 4) = false ∧ (p1 == 8) = false ∧ (p3 == 8) = false ∧ (p1 == 9) = false ∧ (p3 == 9) = false ∧ (p1 == 7) = false ∧ (p3 == 7) = false ∧ zR (∀ w, yN w → Calls Tryz.prog 36 #[.int .u8 f, .bool neg] w fun r w' => r = .returned (.agg #[.int .u64 u, .int .u64 v]) ∧ Below w.heap.size w w') ∧ fl = 0) ∨
   (p2 = 7 ∧ (p1 == 4) = false ∧ (p1 == 8) = false ∧ (p3 == 8) = false ∧ (p1 == 9) = false ∧ (p3 == 9) = false ∧ (p1 == 7) = false ∧ p3 = 7 ∧ (sg3 == neg) = true ∧ zR (∀ w, yN w → Calls Tryz.prog 36 #[.int .u8 f, .bool neg] w fun r w' => r = .returned (.agg #[.int .u64 u, .int .u64 v]) ∧ Below w.heap.size w w') ∧ fl = 0) ∨
   (p2 = 7 ∧ (p1 == 4) = false ∧ (p1 == 8) = false ∧ (p3 == 8) = false ∧ (p1 == 9) = false ∧ (p3 == 9) = false ∧ (p1 == 7) = false ∧ p3 = 7 ∧ (sg3 == neg) = false ∧ zR (∀ w, yN w → Calls Tryz.prog 35 #[.int .u8 f] w fun r w' => r = .returned (.agg #[.int .u64 u, .int .u64 v]) ∧ Below w.heap.size w w') ∧ fl = 16) ∨
   ((p1 == 8) = false ∧ (p2 == 8) = false ∧ (p1 == 9) = false ∧ (p2 == 9) = false ∧ (p1 == 7) = false ∧ (p2 == 7) = false ∧ p3 = 7 ∧ x3 = u ∧ y3 = v ∧ fl = 0) ∨
   ((p1 == 8) = false ∧ (p2 == 8) = false ∧ (p1 == 9) = false ∧ (p2 == 9) = false ∧ (p1 == 7) = false ∧ (p2 == 7) = false ∧ (p3 == 8) = false ∧ (p3 == 9) = false ∧ (p3 == 7) = false ∧ zR (∀ w, Calls Tryz.prog 107 #[.bool neg, .agg (pt c1 m1 X1 r1), .agg (pt c2 m2 X2 r2)] w fun r w' => r = .returned (.agg (rg neg S1 E1 false)) ∧ Below w.heap.size w w') ∧ zR (∀ w, Calls Tryz.prog 106 #[.int .u8 m, .agg (rg neg S1 E1 false), .agg (rg sg3 m3 X3 false)] w fun r w' => r = .returned (.agg (rg ns S X false)) ∧ Below w.heap.size w w') ∧ zR (∀ w, yN w → Calls Tryz.prog 37 #[.int .u8 f, .int .u8 m, .agg (rg ns S X false)] w fun r w' => r = .returned (.tuple #[.agg #[.int .u64 u, .int .u64 v], .int .u8 fl, .int .i64 0]) ∧ Below w.heap.size w w'))))
  (hT : yN w) : Calls Tryz.prog 51 #[.int .u8 f, .int .u8 m, .agg #[.int .u64 x1, .int .u64 y1], .agg #[.int .u64 x2, .int .u64 y2], .agg #[.int .u64 x3, .int .u64 y3]] w fun r w' => r = .returned (.tuple #[.agg #[.int .u64 u, .int .u64 v], .int .u8 fl, .int .i64 0]) ∧ Below w.heap.size w w' := by
 have FF := zK hT
 clear hT
 have AB := ptf
 have AW := ptz
 have AX : ∀ (c s : Nat) (x : Int) (r : Nat), ((pt c s x r).size = 14) = True := fun _ _ _ _ => eq_true rfl
 obtain ⟨AI, AJ, AK, AY, B0⟩ := opn4 w (Obj.cells #[.int .u64 x1, .int .u64 y1] 26) (Obj.cells #[.int .u64 x2, .int .u64 y2] 26) (Obj.cells #[.int .u64 x3, .int .u64 y3] 26) (Obj.cells #[.int .u64 0, .int .u64 0] 26)
 go_enter Tryz.func51, Tryz.ntmps51
 obtain ⟨A6, A7⟩ := zC AI
 obtain ⟨A8, A9⟩ := zC AJ
 obtain ⟨Ba, Bb⟩ := zC AK
 go_wp2_with fail
 refine (KO.out _ _ _ (by first | rfl | simp only [zM]) (z8 FF.out B0)).mono ?_
 rintro r w1 ⟨gl, rfl, Ac, b1⟩
 have B1 := zW B0 b1
 obtain ⟨AF, AG, AH, AL⟩ := rws4 b1 AI AJ AK AY
 clear b1 B0 AI AJ AK AY A6 A7 A8 A9 Ba Bb
 obtain ⟨Bc, Bd⟩ := zC AF
 obtain ⟨Be, Bf⟩ := zC AG
 obtain ⟨Bg, Bh⟩ := zC AH
 obtain ⟨n0, hn0⟩ : ∃ n, w1.heap.size = n := ⟨_, rfl⟩
 have L0 : zR (w.heap.size < n0 ∧ w.heap.size + 1 < n0 ∧ w.heap.size + 1 + 1 < n0 ∧ w.heap.size + 1 + 1 + 1 < n0 ∧ gl < n0) := zK ⟨hn0 ▸ (Array.getElem?_eq_some_iff.1 AF).1, hn0 ▸ (Array.getElem?_eq_some_iff.1 AG).1, hn0 ▸ (Array.getElem?_eq_some_iff.1 AH).1, hn0 ▸ (Array.getElem?_eq_some_iff.1 AL).1, hn0 ▸ (Array.getElem?_eq_some_iff.1 Ac).1⟩
 have Lw : zR (w.heap.size ≤ n0) := zK (hn0 ▸ B1.size)
 have sS : zR (∀ W W1 : World, (Below w.heap.size w W ∧ n0 ≤ W.heap.size ∧ W.heap[w.heap.size]? = some (.cells #[.int .u64 x1, .int .u64 y1] 26) ∧ W.heap[w.heap.size + 1]? = some (.cells #[.int .u64 x2, .int .u64 y2] 26) ∧ W.heap[w.heap.size + 1 + 1]? = some (.cells #[.int .u64 x3, .int .u64 y3] 26) ∧ W.heap[w.heap.size + 1 + 1 + 1]? = some (.cells #[.int .u64 0, .int .u64 0] 26) ∧ W.heap[gl]? = some (.cells (p3v c1 m1 X1 r1 c2 m2 X2 r2 c3 m3 X3 r3) 54) ∧ W.cell? ⟨gl, 0, none⟩ = some (.int .u8 c1) ∧ W.cell? ⟨gl, 1, none⟩ = some (.int .u64 (wd m1 0)) ∧ W.cell? ⟨gl, 2, none⟩ = some (.int .u64 (wd m1 1)) ∧ W.cell? ⟨gl, 3, none⟩ = some (.int .u64 (wd m1 2)) ∧ W.cell? ⟨gl, 4, none⟩ = some (.int .u64 (wd m1 3)) ∧ W.cell? ⟨gl, 5, none⟩ = some (.int .u64 (wd m1 4)) ∧ W.cell? ⟨gl, 6, none⟩ = some (.int .u64 (wd m1 5)) ∧ W.cell? ⟨gl, 7, none⟩ = some (.int .i64 X1) ∧ W.cell? ⟨gl, 8, none⟩ = some (.int .u64 (wd r1 0)) ∧ W.cell? ⟨gl, 9, none⟩ = some (.int .u64 (wd r1 1)) ∧ W.cell? ⟨gl, 10, none⟩ = some (.int .u64 (wd r1 2)) ∧ W.cell? ⟨gl, 11, none⟩ = some (.int .u64 (wd r1 3)) ∧ W.cell? ⟨gl, 12, none⟩ = some (.int .u64 (wd r1 4)) ∧ W.cell? ⟨gl, 13, none⟩ = some (.int .u64 (wd r1 5)) ∧ W.cell? ⟨gl, 14, none⟩ = some (.int .u8 c2) ∧ W.cell? ⟨gl, 15, none⟩ = some (.int .u64 (wd m2 0)) ∧ W.cell? ⟨gl, 16, none⟩ = some (.int .u64 (wd m2 1)) ∧ W.cell? ⟨gl, 17, none⟩ = some (.int .u64 (wd m2 2)) ∧ W.cell? ⟨gl, 18, none⟩ = some (.int .u64 (wd m2 3)) ∧ W.cell? ⟨gl, 19, none⟩ = some (.int .u64 (wd m2 4)) ∧ W.cell? ⟨gl, 20, none⟩ = some (.int .u64 (wd m2 5)) ∧ W.cell? ⟨gl, 21, none⟩ = some (.int .i64 X2) ∧ W.cell? ⟨gl, 22, none⟩ = some (.int .u64 (wd r2 0)) ∧ W.cell? ⟨gl, 23, none⟩ = some (.int .u64 (wd r2 1)) ∧ W.cell? ⟨gl, 24, none⟩ = some (.int .u64 (wd r2 2)) ∧ W.cell? ⟨gl, 25, none⟩ = some (.int .u64 (wd r2 3)) ∧ W.cell? ⟨gl, 26, none⟩ = some (.int .u64 (wd r2 4)) ∧ W.cell? ⟨gl, 27, none⟩ = some (.int .u64 (wd r2 5)) ∧ W.cell? ⟨gl, 28, none⟩ = some (.int .u8 c3) ∧ W.cell? ⟨gl, 29, none⟩ = some (.int .u64 (wd m3 0)) ∧ W.cell? ⟨gl, 30, none⟩ = some (.int .u64 (wd m3 1)) ∧ W.cell? ⟨gl, 31, none⟩ = some (.int .u64 (wd m3 2)) ∧ W.cell? ⟨gl, 32, none⟩ = some (.int .u64 (wd m3 3)) ∧ W.cell? ⟨gl, 33, none⟩ = some (.int .u64 (wd m3 4)) ∧ W.cell? ⟨gl, 34, none⟩ = some (.int .u64 (wd m3 5)) ∧ W.cell? ⟨gl, 35, none⟩ = some (.int .i64 X3) ∧ W.cell? ⟨gl, 36, none⟩ = some (.int .u64 (wd r3 0)) ∧ W.cell? ⟨gl, 37, none⟩ = some (.int .u64 (wd r3 1)) ∧ W.cell? ⟨gl, 38, none⟩ = some (.int .u64 (wd r3 2)) ∧ W.cell? ⟨gl, 39, none⟩ = some (.int .u64 (wd r3 3)) ∧ W.cell? ⟨gl, 40, none⟩ = some (.int .u64 (wd r3 4)) ∧ W.cell? ⟨gl, 41, none⟩ = some (.int .u64 (wd r3 5))) → Below W.heap.size W W1 → (Below w.heap.size w W1 ∧ n0 ≤ W1.heap.size ∧ W1.heap[w.heap.size]? = some (.cells #[.int .u64 x1, .int .u64 y1] 26) ∧ W1.heap[w.heap.size + 1]? = some (.cells #[.int .u64 x2, .int .u64 y2] 26) ∧ W1.heap[w.heap.size + 1 + 1]? = some (.cells #[.int .u64 x3, .int .u64 y3] 26) ∧ W1.heap[w.heap.size + 1 + 1 + 1]? = some (.cells #[.int .u64 0, .int .u64 0] 26) ∧ W1.heap[gl]? = some (.cells (p3v c1 m1 X1 r1 c2 m2 X2 r2 c3 m3 X3 r3) 54) ∧ W1.cell? ⟨gl, 0, none⟩ = some (.int .u8 c1) ∧ W1.cell? ⟨gl, 1, none⟩ = some (.int .u64 (wd m1 0)) ∧ W1.cell? ⟨gl, 2, none⟩ = some (.int .u64 (wd m1 1)) ∧ W1.cell? ⟨gl, 3, none⟩ = some (.int .u64 (wd m1 2)) ∧ W1.cell? ⟨gl, 4, none⟩ = some (.int .u64 (wd m1 3)) ∧ W1.cell? ⟨gl, 5, none⟩ = some (.int .u64 (wd m1 4)) ∧ W1.cell? ⟨gl, 6, none⟩ = some (.int .u64 (wd m1 5)) ∧ W1.cell? ⟨gl, 7, none⟩ = some (.int .i64 X1) ∧ W1.cell? ⟨gl, 8, none⟩ = some (.int .u64 (wd r1 0)) ∧ W1.cell? ⟨gl, 9, none⟩ = some (.int .u64 (wd r1 1)) ∧ W1.cell? ⟨gl, 10, none⟩ = some (.int .u64 (wd r1 2)) ∧ W1.cell? ⟨gl, 11, none⟩ = some (.int .u64 (wd r1 3)) ∧ W1.cell? ⟨gl, 12, none⟩ = some (.int .u64 (wd r1 4)) ∧ W1.cell? ⟨gl, 13, none⟩ = some (.int .u64 (wd r1 5)) ∧ W1.cell? ⟨gl, 14, none⟩ = some (.int .u8 c2) ∧ W1.cell? ⟨gl, 15, none⟩ = some (.int .u64 (wd m2 0)) ∧ W1.cell? ⟨gl, 16, none⟩ = some (.int .u64 (wd m2 1)) ∧ W1.cell? ⟨gl, 17, none⟩ = some (.int .u64 (wd m2 2)) ∧ W1.cell? ⟨gl, 18, none⟩ = some (.int .u64 (wd m2 3)) ∧ W1.cell? ⟨gl, 19, none⟩ = some (.int .u64 (wd m2 4)) ∧ W1.cell? ⟨gl, 20, none⟩ = some (.int .u64 (wd m2 5)) ∧ W1.cell? ⟨gl, 21, none⟩ = some (.int .i64 X2) ∧ W1.cell? ⟨gl, 22, none⟩ = some (.int .u64 (wd r2 0)) ∧ W1.cell? ⟨gl, 23, none⟩ = some (.int .u64 (wd r2 1)) ∧ W1.cell? ⟨gl, 24, none⟩ = some (.int .u64 (wd r2 2)) ∧ W1.cell? ⟨gl, 25, none⟩ = some (.int .u64 (wd r2 3)) ∧ W1.cell? ⟨gl, 26, none⟩ = some (.int .u64 (wd r2 4)) ∧ W1.cell? ⟨gl, 27, none⟩ = some (.int .u64 (wd r2 5)) ∧ W1.cell? ⟨gl, 28, none⟩ = some (.int .u8 c3) ∧ W1.cell? ⟨gl, 29, none⟩ = some (.int .u64 (wd m3 0)) ∧ W1.cell? ⟨gl, 30, none⟩ = some (.int .u64 (wd m3 1)) ∧ W1.cell? ⟨gl, 31, none⟩ = some (.int .u64 (wd m3 2)) ∧ W1.cell? ⟨gl, 32, none⟩ = some (.int .u64 (wd m3 3)) ∧ W1.cell? ⟨gl, 33, none⟩ = some (.int .u64 (wd m3 4)) ∧ W1.cell? ⟨gl, 34, none⟩ = some (.int .u64 (wd m3 5)) ∧ W1.cell? ⟨gl, 35, none⟩ = some (.int .i64 X3) ∧ W1.cell? ⟨gl, 36, none⟩ = some (.int .u64 (wd r3 0)) ∧ W1.cell? ⟨gl, 37, none⟩ = some (.int .u64 (wd r3 1)) ∧ W1.cell? ⟨gl, 38, none⟩ = some (.int .u64 (wd r3 2)) ∧ W1.cell? ⟨gl, 39, none⟩ = some (.int .u64 (wd r3 3)) ∧ W1.cell? ⟨gl, 40, none⟩ = some (.int .u64 (wd r3 4)) ∧ W1.cell? ⟨gl, 41, none⟩ = some (.int .u64 (wd r3 5)))) := zK (fun W W1 h b => ⟨zW h.1 b, Nat.le_trans h.2.1 b.size, zA b _ _ _ h.2.2.1, zA b _ _ _ h.2.2.2.1, zA b _ _ _ h.2.2.2.2.1, zA b _ _ _ h.2.2.2.2.2.1, zA b _ _ _ h.2.2.2.2.2.2.1, zJ (zA b _ _ _ h.2.2.2.2.2.2.1) 0 _ rfl, zJ (zA b _ _ _ h.2.2.2.2.2.2.1) 1 _ rfl, zJ (zA b _ _ _ h.2.2.2.2.2.2.1) 2 _ rfl, zJ (zA b _ _ _ h.2.2.2.2.2.2.1) 3 _ rfl, zJ (zA b _ _ _ h.2.2.2.2.2.2.1) 4 _ rfl, zJ (zA b _ _ _ h.2.2.2.2.2.2.1) 5 _ rfl, zJ (zA b _ _ _ h.2.2.2.2.2.2.1) 6 _ rfl, zJ (zA b _ _ _ h.2.2.2.2.2.2.1) 7 _ rfl, zJ (zA b _ _ _ h.2.2.2.2.2.2.1) 8 _ rfl, zJ (zA b _ _ _ h.2.2.2.2.2.2.1) 9 _ rfl, zJ (zA b _ _ _ h.2.2.2.2.2.2.1) 10 _ rfl, zJ (zA b _ _ _ h.2.2.2.2.2.2.1) 11 _ rfl, zJ (zA b _ _ _ h.2.2.2.2.2.2.1) 12 _ rfl, zJ (zA b _ _ _ h.2.2.2.2.2.2.1) 13 _ rfl, zJ (zA b _ _ _ h.2.2.2.2.2.2.1) 14 _ rfl, zJ (zA b _ _ _ h.2.2.2.2.2.2.1) 15 _ rfl, zJ (zA b _ _ _ h.2.2.2.2.2.2.1) 16 _ rfl, zJ (zA b _ _ _ h.2.2.2.2.2.2.1) 17 _ rfl, zJ (zA b _ _ _ h.2.2.2.2.2.2.1) 18 _ rfl, zJ (zA b _ _ _ h.2.2.2.2.2.2.1) 19 _ rfl, zJ (zA b _ _ _ h.2.2.2.2.2.2.1) 20 _ rfl, zJ (zA b _ _ _ h.2.2.2.2.2.2.1) 21 _ rfl, zJ (zA b _ _ _ h.2.2.2.2.2.2.1) 22 _ rfl, zJ (zA b _ _ _ h.2.2.2.2.2.2.1) 23 _ rfl, zJ (zA b _ _ _ h.2.2.2.2.2.2.1) 24 _ rfl, zJ (zA b _ _ _ h.2.2.2.2.2.2.1) 25 _ rfl, zJ (zA b _ _ _ h.2.2.2.2.2.2.1) 26 _ rfl, zJ (zA b _ _ _ h.2.2.2.2.2.2.1) 27 _ rfl, zJ (zA b _ _ _ h.2.2.2.2.2.2.1) 28 _ rfl, zJ (zA b _ _ _ h.2.2.2.2.2.2.1) 29 _ rfl, zJ (zA b _ _ _ h.2.2.2.2.2.2.1) 30 _ rfl, zJ (zA b _ _ _ h.2.2.2.2.2.2.1) 31 _ rfl, zJ (zA b _ _ _ h.2.2.2.2.2.2.1) 32 _ rfl, zJ (zA b _ _ _ h.2.2.2.2.2.2.1) 33 _ rfl, zJ (zA b _ _ _ h.2.2.2.2.2.2.1) 34 _ rfl, zJ (zA b _ _ _ h.2.2.2.2.2.2.1) 35 _ rfl, zJ (zA b _ _ _ h.2.2.2.2.2.2.1) 36 _ rfl, zJ (zA b _ _ _ h.2.2.2.2.2.2.1) 37 _ rfl, zJ (zA b _ _ _ h.2.2.2.2.2.2.1) 38 _ rfl, zJ (zA b _ _ _ h.2.2.2.2.2.2.1) 39 _ rfl, zJ (zA b _ _ _ h.2.2.2.2.2.2.1) 40 _ rfl, zJ (zA b _ _ _ h.2.2.2.2.2.2.1) 41 _ rfl⟩)
 have sT : zR (∀ (W : World) (gN : Nat) (xA : Array Value), (Below w.heap.size w W ∧ n0 ≤ W.heap.size ∧ W.heap[w.heap.size]? = some (.cells #[.int .u64 x1, .int .u64 y1] 26) ∧ W.heap[w.heap.size + 1]? = some (.cells #[.int .u64 x2, .int .u64 y2] 26) ∧ W.heap[w.heap.size + 1 + 1]? = some (.cells #[.int .u64 x3, .int .u64 y3] 26) ∧ W.heap[w.heap.size + 1 + 1 + 1]? = some (.cells #[.int .u64 0, .int .u64 0] 26) ∧ W.heap[gl]? = some (.cells (p3v c1 m1 X1 r1 c2 m2 X2 r2 c3 m3 X3 r3) 54) ∧ W.cell? ⟨gl, 0, none⟩ = some (.int .u8 c1) ∧ W.cell? ⟨gl, 1, none⟩ = some (.int .u64 (wd m1 0)) ∧ W.cell? ⟨gl, 2, none⟩ = some (.int .u64 (wd m1 1)) ∧ W.cell? ⟨gl, 3, none⟩ = some (.int .u64 (wd m1 2)) ∧ W.cell? ⟨gl, 4, none⟩ = some (.int .u64 (wd m1 3)) ∧ W.cell? ⟨gl, 5, none⟩ = some (.int .u64 (wd m1 4)) ∧ W.cell? ⟨gl, 6, none⟩ = some (.int .u64 (wd m1 5)) ∧ W.cell? ⟨gl, 7, none⟩ = some (.int .i64 X1) ∧ W.cell? ⟨gl, 8, none⟩ = some (.int .u64 (wd r1 0)) ∧ W.cell? ⟨gl, 9, none⟩ = some (.int .u64 (wd r1 1)) ∧ W.cell? ⟨gl, 10, none⟩ = some (.int .u64 (wd r1 2)) ∧ W.cell? ⟨gl, 11, none⟩ = some (.int .u64 (wd r1 3)) ∧ W.cell? ⟨gl, 12, none⟩ = some (.int .u64 (wd r1 4)) ∧ W.cell? ⟨gl, 13, none⟩ = some (.int .u64 (wd r1 5)) ∧ W.cell? ⟨gl, 14, none⟩ = some (.int .u8 c2) ∧ W.cell? ⟨gl, 15, none⟩ = some (.int .u64 (wd m2 0)) ∧ W.cell? ⟨gl, 16, none⟩ = some (.int .u64 (wd m2 1)) ∧ W.cell? ⟨gl, 17, none⟩ = some (.int .u64 (wd m2 2)) ∧ W.cell? ⟨gl, 18, none⟩ = some (.int .u64 (wd m2 3)) ∧ W.cell? ⟨gl, 19, none⟩ = some (.int .u64 (wd m2 4)) ∧ W.cell? ⟨gl, 20, none⟩ = some (.int .u64 (wd m2 5)) ∧ W.cell? ⟨gl, 21, none⟩ = some (.int .i64 X2) ∧ W.cell? ⟨gl, 22, none⟩ = some (.int .u64 (wd r2 0)) ∧ W.cell? ⟨gl, 23, none⟩ = some (.int .u64 (wd r2 1)) ∧ W.cell? ⟨gl, 24, none⟩ = some (.int .u64 (wd r2 2)) ∧ W.cell? ⟨gl, 25, none⟩ = some (.int .u64 (wd r2 3)) ∧ W.cell? ⟨gl, 26, none⟩ = some (.int .u64 (wd r2 4)) ∧ W.cell? ⟨gl, 27, none⟩ = some (.int .u64 (wd r2 5)) ∧ W.cell? ⟨gl, 28, none⟩ = some (.int .u8 c3) ∧ W.cell? ⟨gl, 29, none⟩ = some (.int .u64 (wd m3 0)) ∧ W.cell? ⟨gl, 30, none⟩ = some (.int .u64 (wd m3 1)) ∧ W.cell? ⟨gl, 31, none⟩ = some (.int .u64 (wd m3 2)) ∧ W.cell? ⟨gl, 32, none⟩ = some (.int .u64 (wd m3 3)) ∧ W.cell? ⟨gl, 33, none⟩ = some (.int .u64 (wd m3 4)) ∧ W.cell? ⟨gl, 34, none⟩ = some (.int .u64 (wd m3 5)) ∧ W.cell? ⟨gl, 35, none⟩ = some (.int .i64 X3) ∧ W.cell? ⟨gl, 36, none⟩ = some (.int .u64 (wd r3 0)) ∧ W.cell? ⟨gl, 37, none⟩ = some (.int .u64 (wd r3 1)) ∧ W.cell? ⟨gl, 38, none⟩ = some (.int .u64 (wd r3 2)) ∧ W.cell? ⟨gl, 39, none⟩ = some (.int .u64 (wd r3 3)) ∧ W.cell? ⟨gl, 40, none⟩ = some (.int .u64 (wd r3 4)) ∧ W.cell? ⟨gl, 41, none⟩ = some (.int .u64 (wd r3 5))) → n0 ≤ gN → (Below w.heap.size w (W.setRow gN xA) ∧ n0 ≤ (W.setRow gN xA).heap.size ∧ (W.setRow gN xA).heap[w.heap.size]? = some (.cells #[.int .u64 x1, .int .u64 y1] 26) ∧ (W.setRow gN xA).heap[w.heap.size + 1]? = some (.cells #[.int .u64 x2, .int .u64 y2] 26) ∧ (W.setRow gN xA).heap[w.heap.size + 1 + 1]? = some (.cells #[.int .u64 x3, .int .u64 y3] 26) ∧ (W.setRow gN xA).heap[w.heap.size + 1 + 1 + 1]? = some (.cells #[.int .u64 0, .int .u64 0] 26) ∧ (W.setRow gN xA).heap[gl]? = some (.cells (p3v c1 m1 X1 r1 c2 m2 X2 r2 c3 m3 X3 r3) 54) ∧ (W.setRow gN xA).cell? ⟨gl, 0, none⟩ = some (.int .u8 c1) ∧ (W.setRow gN xA).cell? ⟨gl, 1, none⟩ = some (.int .u64 (wd m1 0)) ∧ (W.setRow gN xA).cell? ⟨gl, 2, none⟩ = some (.int .u64 (wd m1 1)) ∧ (W.setRow gN xA).cell? ⟨gl, 3, none⟩ = some (.int .u64 (wd m1 2)) ∧ (W.setRow gN xA).cell? ⟨gl, 4, none⟩ = some (.int .u64 (wd m1 3)) ∧ (W.setRow gN xA).cell? ⟨gl, 5, none⟩ = some (.int .u64 (wd m1 4)) ∧ (W.setRow gN xA).cell? ⟨gl, 6, none⟩ = some (.int .u64 (wd m1 5)) ∧ (W.setRow gN xA).cell? ⟨gl, 7, none⟩ = some (.int .i64 X1) ∧ (W.setRow gN xA).cell? ⟨gl, 8, none⟩ = some (.int .u64 (wd r1 0)) ∧ (W.setRow gN xA).cell? ⟨gl, 9, none⟩ = some (.int .u64 (wd r1 1)) ∧ (W.setRow gN xA).cell? ⟨gl, 10, none⟩ = some (.int .u64 (wd r1 2)) ∧ (W.setRow gN xA).cell? ⟨gl, 11, none⟩ = some (.int .u64 (wd r1 3)) ∧ (W.setRow gN xA).cell? ⟨gl, 12, none⟩ = some (.int .u64 (wd r1 4)) ∧ (W.setRow gN xA).cell? ⟨gl, 13, none⟩ = some (.int .u64 (wd r1 5)) ∧ (W.setRow gN xA).cell? ⟨gl, 14, none⟩ = some (.int .u8 c2) ∧ (W.setRow gN xA).cell? ⟨gl, 15, none⟩ = some (.int .u64 (wd m2 0)) ∧ (W.setRow gN xA).cell? ⟨gl, 16, none⟩ = some (.int .u64 (wd m2 1)) ∧ (W.setRow gN xA).cell? ⟨gl, 17, none⟩ = some (.int .u64 (wd m2 2)) ∧ (W.setRow gN xA).cell? ⟨gl, 18, none⟩ = some (.int .u64 (wd m2 3)) ∧ (W.setRow gN xA).cell? ⟨gl, 19, none⟩ = some (.int .u64 (wd m2 4)) ∧ (W.setRow gN xA).cell? ⟨gl, 20, none⟩ = some (.int .u64 (wd m2 5)) ∧ (W.setRow gN xA).cell? ⟨gl, 21, none⟩ = some (.int .i64 X2) ∧ (W.setRow gN xA).cell? ⟨gl, 22, none⟩ = some (.int .u64 (wd r2 0)) ∧ (W.setRow gN xA).cell? ⟨gl, 23, none⟩ = some (.int .u64 (wd r2 1)) ∧ (W.setRow gN xA).cell? ⟨gl, 24, none⟩ = some (.int .u64 (wd r2 2)) ∧ (W.setRow gN xA).cell? ⟨gl, 25, none⟩ = some (.int .u64 (wd r2 3)) ∧ (W.setRow gN xA).cell? ⟨gl, 26, none⟩ = some (.int .u64 (wd r2 4)) ∧ (W.setRow gN xA).cell? ⟨gl, 27, none⟩ = some (.int .u64 (wd r2 5)) ∧ (W.setRow gN xA).cell? ⟨gl, 28, none⟩ = some (.int .u8 c3) ∧ (W.setRow gN xA).cell? ⟨gl, 29, none⟩ = some (.int .u64 (wd m3 0)) ∧ (W.setRow gN xA).cell? ⟨gl, 30, none⟩ = some (.int .u64 (wd m3 1)) ∧ (W.setRow gN xA).cell? ⟨gl, 31, none⟩ = some (.int .u64 (wd m3 2)) ∧ (W.setRow gN xA).cell? ⟨gl, 32, none⟩ = some (.int .u64 (wd m3 3)) ∧ (W.setRow gN xA).cell? ⟨gl, 33, none⟩ = some (.int .u64 (wd m3 4)) ∧ (W.setRow gN xA).cell? ⟨gl, 34, none⟩ = some (.int .u64 (wd m3 5)) ∧ (W.setRow gN xA).cell? ⟨gl, 35, none⟩ = some (.int .i64 X3) ∧ (W.setRow gN xA).cell? ⟨gl, 36, none⟩ = some (.int .u64 (wd r3 0)) ∧ (W.setRow gN xA).cell? ⟨gl, 37, none⟩ = some (.int .u64 (wd r3 1)) ∧ (W.setRow gN xA).cell? ⟨gl, 38, none⟩ = some (.int .u64 (wd r3 2)) ∧ (W.setRow gN xA).cell? ⟨gl, 39, none⟩ = some (.int .u64 (wd r3 3)) ∧ (W.setRow gN xA).cell? ⟨gl, 40, none⟩ = some (.int .u64 (wd r3 4)) ∧ (W.setRow gN xA).cell? ⟨gl, 41, none⟩ = some (.int .u64 (wd r3 5)))) := zK (fun W gN xA h l => ⟨z9 h.1 (Nat.le_trans Lw.out l), Nat.le_trans h.2.1 (Below.setRow (Below.refl 0 W) (Nat.zero_le _)).size, (zI (by have := L0.out.1; omega)).trans h.2.2.1, (zI (by have := L0.out.2.1; omega)).trans h.2.2.2.1, (zI (by have := L0.out.2.2.1; omega)).trans h.2.2.2.2.1, (zI (by have := L0.out.2.2.2.1; omega)).trans h.2.2.2.2.2.1, (zI (by have := L0.out.2.2.2.2; omega)).trans h.2.2.2.2.2.2.1, zJ ((zI (by have := L0.out.2.2.2.2; omega)).trans h.2.2.2.2.2.2.1) 0 _ rfl, zJ ((zI (by have := L0.out.2.2.2.2; omega)).trans h.2.2.2.2.2.2.1) 1 _ rfl, zJ ((zI (by have := L0.out.2.2.2.2; omega)).trans h.2.2.2.2.2.2.1) 2 _ rfl, zJ ((zI (by have := L0.out.2.2.2.2; omega)).trans h.2.2.2.2.2.2.1) 3 _ rfl, zJ ((zI (by have := L0.out.2.2.2.2; omega)).trans h.2.2.2.2.2.2.1) 4 _ rfl, zJ ((zI (by have := L0.out.2.2.2.2; omega)).trans h.2.2.2.2.2.2.1) 5 _ rfl, zJ ((zI (by have := L0.out.2.2.2.2; omega)).trans h.2.2.2.2.2.2.1) 6 _ rfl, zJ ((zI (by have := L0.out.2.2.2.2; omega)).trans h.2.2.2.2.2.2.1) 7 _ rfl, zJ ((zI (by have := L0.out.2.2.2.2; omega)).trans h.2.2.2.2.2.2.1) 8 _ rfl, zJ ((zI (by have := L0.out.2.2.2.2; omega)).trans h.2.2.2.2.2.2.1) 9 _ rfl, zJ ((zI (by have := L0.out.2.2.2.2; omega)).trans h.2.2.2.2.2.2.1) 10 _ rfl, zJ ((zI (by have := L0.out.2.2.2.2; omega)).trans h.2.2.2.2.2.2.1) 11 _ rfl, zJ ((zI (by have := L0.out.2.2.2.2; omega)).trans h.2.2.2.2.2.2.1) 12 _ rfl, zJ ((zI (by have := L0.out.2.2.2.2; omega)).trans h.2.2.2.2.2.2.1) 13 _ rfl, zJ ((zI (by have := L0.out.2.2.2.2; omega)).trans h.2.2.2.2.2.2.1) 14 _ rfl, zJ ((zI (by have := L0.out.2.2.2.2; omega)).trans h.2.2.2.2.2.2.1) 15 _ rfl, zJ ((zI (by have := L0.out.2.2.2.2; omega)).trans h.2.2.2.2.2.2.1) 16 _ rfl, zJ ((zI (by have := L0.out.2.2.2.2; omega)).trans h.2.2.2.2.2.2.1) 17 _ rfl, zJ ((zI (by have := L0.out.2.2.2.2; omega)).trans h.2.2.2.2.2.2.1) 18 _ rfl, zJ ((zI (by have := L0.out.2.2.2.2; omega)).trans h.2.2.2.2.2.2.1) 19 _ rfl, zJ ((zI (by have := L0.out.2.2.2.2; omega)).trans h.2.2.2.2.2.2.1) 20 _ rfl, zJ ((zI (by have := L0.out.2.2.2.2; omega)).trans h.2.2.2.2.2.2.1) 21 _ rfl, zJ ((zI (by have := L0.out.2.2.2.2; omega)).trans h.2.2.2.2.2.2.1) 22 _ rfl, zJ ((zI (by have := L0.out.2.2.2.2; omega)).trans h.2.2.2.2.2.2.1) 23 _ rfl, zJ ((zI (by have := L0.out.2.2.2.2; omega)).trans h.2.2.2.2.2.2.1) 24 _ rfl, zJ ((zI (by have := L0.out.2.2.2.2; omega)).trans h.2.2.2.2.2.2.1) 25 _ rfl, zJ ((zI (by have := L0.out.2.2.2.2; omega)).trans h.2.2.2.2.2.2.1) 26 _ rfl, zJ ((zI (by have := L0.out.2.2.2.2; omega)).trans h.2.2.2.2.2.2.1) 27 _ rfl, zJ ((zI (by have := L0.out.2.2.2.2; omega)).trans h.2.2.2.2.2.2.1) 28 _ rfl, zJ ((zI (by have := L0.out.2.2.2.2; omega)).trans h.2.2.2.2.2.2.1) 29 _ rfl, zJ ((zI (by have := L0.out.2.2.2.2; omega)).trans h.2.2.2.2.2.2.1) 30 _ rfl, zJ ((zI (by have := L0.out.2.2.2.2; omega)).trans h.2.2.2.2.2.2.1) 31 _ rfl, zJ ((zI (by have := L0.out.2.2.2.2; omega)).trans h.2.2.2.2.2.2.1) 32 _ rfl, zJ ((zI (by have := L0.out.2.2.2.2; omega)).trans h.2.2.2.2.2.2.1) 33 _ rfl, zJ ((zI (by have := L0.out.2.2.2.2; omega)).trans h.2.2.2.2.2.2.1) 34 _ rfl, zJ ((zI (by have := L0.out.2.2.2.2; omega)).trans h.2.2.2.2.2.2.1) 35 _ rfl, zJ ((zI (by have := L0.out.2.2.2.2; omega)).trans h.2.2.2.2.2.2.1) 36 _ rfl, zJ ((zI (by have := L0.out.2.2.2.2; omega)).trans h.2.2.2.2.2.2.1) 37 _ rfl, zJ ((zI (by have := L0.out.2.2.2.2; omega)).trans h.2.2.2.2.2.2.1) 38 _ rfl, zJ ((zI (by have := L0.out.2.2.2.2; omega)).trans h.2.2.2.2.2.2.1) 39 _ rfl, zJ ((zI (by have := L0.out.2.2.2.2; omega)).trans h.2.2.2.2.2.2.1) 40 _ rfl, zJ ((zI (by have := L0.out.2.2.2.2; omega)).trans h.2.2.2.2.2.2.1) 41 _ rfl⟩)
 have z0 : zR (Below w.heap.size w (w1).drew ∧ n0 ≤ (w1).drew.heap.size ∧ (w1).drew.heap[w.heap.size]? = some (.cells #[.int .u64 x1, .int .u64 y1] 26) ∧ (w1).drew.heap[w.heap.size + 1]? = some (.cells #[.int .u64 x2, .int .u64 y2] 26) ∧ (w1).drew.heap[w.heap.size + 1 + 1]? = some (.cells #[.int .u64 x3, .int .u64 y3] 26) ∧ (w1).drew.heap[w.heap.size + 1 + 1 + 1]? = some (.cells #[.int .u64 0, .int .u64 0] 26) ∧ (w1).drew.heap[gl]? = some (.cells (p3v c1 m1 X1 r1 c2 m2 X2 r2 c3 m3 X3 r3) 54) ∧ (w1).drew.cell? ⟨gl, 0, none⟩ = some (.int .u8 c1) ∧ (w1).drew.cell? ⟨gl, 1, none⟩ = some (.int .u64 (wd m1 0)) ∧ (w1).drew.cell? ⟨gl, 2, none⟩ = some (.int .u64 (wd m1 1)) ∧ (w1).drew.cell? ⟨gl, 3, none⟩ = some (.int .u64 (wd m1 2)) ∧ (w1).drew.cell? ⟨gl, 4, none⟩ = some (.int .u64 (wd m1 3)) ∧ (w1).drew.cell? ⟨gl, 5, none⟩ = some (.int .u64 (wd m1 4)) ∧ (w1).drew.cell? ⟨gl, 6, none⟩ = some (.int .u64 (wd m1 5)) ∧ (w1).drew.cell? ⟨gl, 7, none⟩ = some (.int .i64 X1) ∧ (w1).drew.cell? ⟨gl, 8, none⟩ = some (.int .u64 (wd r1 0)) ∧ (w1).drew.cell? ⟨gl, 9, none⟩ = some (.int .u64 (wd r1 1)) ∧ (w1).drew.cell? ⟨gl, 10, none⟩ = some (.int .u64 (wd r1 2)) ∧ (w1).drew.cell? ⟨gl, 11, none⟩ = some (.int .u64 (wd r1 3)) ∧ (w1).drew.cell? ⟨gl, 12, none⟩ = some (.int .u64 (wd r1 4)) ∧ (w1).drew.cell? ⟨gl, 13, none⟩ = some (.int .u64 (wd r1 5)) ∧ (w1).drew.cell? ⟨gl, 14, none⟩ = some (.int .u8 c2) ∧ (w1).drew.cell? ⟨gl, 15, none⟩ = some (.int .u64 (wd m2 0)) ∧ (w1).drew.cell? ⟨gl, 16, none⟩ = some (.int .u64 (wd m2 1)) ∧ (w1).drew.cell? ⟨gl, 17, none⟩ = some (.int .u64 (wd m2 2)) ∧ (w1).drew.cell? ⟨gl, 18, none⟩ = some (.int .u64 (wd m2 3)) ∧ (w1).drew.cell? ⟨gl, 19, none⟩ = some (.int .u64 (wd m2 4)) ∧ (w1).drew.cell? ⟨gl, 20, none⟩ = some (.int .u64 (wd m2 5)) ∧ (w1).drew.cell? ⟨gl, 21, none⟩ = some (.int .i64 X2) ∧ (w1).drew.cell? ⟨gl, 22, none⟩ = some (.int .u64 (wd r2 0)) ∧ (w1).drew.cell? ⟨gl, 23, none⟩ = some (.int .u64 (wd r2 1)) ∧ (w1).drew.cell? ⟨gl, 24, none⟩ = some (.int .u64 (wd r2 2)) ∧ (w1).drew.cell? ⟨gl, 25, none⟩ = some (.int .u64 (wd r2 3)) ∧ (w1).drew.cell? ⟨gl, 26, none⟩ = some (.int .u64 (wd r2 4)) ∧ (w1).drew.cell? ⟨gl, 27, none⟩ = some (.int .u64 (wd r2 5)) ∧ (w1).drew.cell? ⟨gl, 28, none⟩ = some (.int .u8 c3) ∧ (w1).drew.cell? ⟨gl, 29, none⟩ = some (.int .u64 (wd m3 0)) ∧ (w1).drew.cell? ⟨gl, 30, none⟩ = some (.int .u64 (wd m3 1)) ∧ (w1).drew.cell? ⟨gl, 31, none⟩ = some (.int .u64 (wd m3 2)) ∧ (w1).drew.cell? ⟨gl, 32, none⟩ = some (.int .u64 (wd m3 3)) ∧ (w1).drew.cell? ⟨gl, 33, none⟩ = some (.int .u64 (wd m3 4)) ∧ (w1).drew.cell? ⟨gl, 34, none⟩ = some (.int .u64 (wd m3 5)) ∧ (w1).drew.cell? ⟨gl, 35, none⟩ = some (.int .i64 X3) ∧ (w1).drew.cell? ⟨gl, 36, none⟩ = some (.int .u64 (wd r3 0)) ∧ (w1).drew.cell? ⟨gl, 37, none⟩ = some (.int .u64 (wd r3 1)) ∧ (w1).drew.cell? ⟨gl, 38, none⟩ = some (.int .u64 (wd r3 2)) ∧ (w1).drew.cell? ⟨gl, 39, none⟩ = some (.int .u64 (wd r3 3)) ∧ (w1).drew.cell? ⟨gl, 40, none⟩ = some (.int .u64 (wd r3 4)) ∧ (w1).drew.cell? ⟨gl, 41, none⟩ = some (.int .u64 (wd r3 5))) := zK ⟨B1.drew, Nat.le_of_eq hn0.symm, AF, AG, AH, AL, Ac, zJ (Ac) 0 _ rfl, zJ (Ac) 1 _ rfl, zJ (Ac) 2 _ rfl, zJ (Ac) 3 _ rfl, zJ (Ac) 4 _ rfl, zJ (Ac) 5 _ rfl, zJ (Ac) 6 _ rfl, zJ (Ac) 7 _ rfl, zJ (Ac) 8 _ rfl, zJ (Ac) 9 _ rfl, zJ (Ac) 10 _ rfl, zJ (Ac) 11 _ rfl, zJ (Ac) 12 _ rfl, zJ (Ac) 13 _ rfl, zJ (Ac) 14 _ rfl, zJ (Ac) 15 _ rfl, zJ (Ac) 16 _ rfl, zJ (Ac) 17 _ rfl, zJ (Ac) 18 _ rfl, zJ (Ac) 19 _ rfl, zJ (Ac) 20 _ rfl, zJ (Ac) 21 _ rfl, zJ (Ac) 22 _ rfl, zJ (Ac) 23 _ rfl, zJ (Ac) 24 _ rfl, zJ (Ac) 25 _ rfl, zJ (Ac) 26 _ rfl, zJ (Ac) 27 _ rfl, zJ (Ac) 28 _ rfl, zJ (Ac) 29 _ rfl, zJ (Ac) 30 _ rfl, zJ (Ac) 31 _ rfl, zJ (Ac) 32 _ rfl, zJ (Ac) 33 _ rfl, zJ (Ac) 34 _ rfl, zJ (Ac) 35 _ rfl, zJ (Ac) 36 _ rfl, zJ (Ac) 37 _ rfl, zJ (Ac) 38 _ rfl, zJ (Ac) 39 _ rfl, zJ (Ac) 40 _ rfl, zJ (Ac) 41 _ rfl⟩
 clear B1 AF Bc Bd AG Be Bf AH Bg Bh AL Ac
 have ge1 : n0 ≤ w1.heap.size := by omega
 have ge2 : n0 ≤ w1.heap.size + 1 := by omega
 have ge3 : n0 ≤ w1.heap.size + 1 + 1 := by omega
 clear hn0
 go_wp2_with fail
 apply cut7
 ·
  intro key0
  have key := zK key0
  clear key0
  have sV : zR (Below w.heap.size w (((w1.alloc (Obj.cells (pt 0 0 0 0) 54)).alloc (Obj.cells (pt 0 0 0 0) 54)).alloc (Obj.cells (pt 0 0 0 0) 54)).drew ∧ n0 ≤ (((w1.alloc (Obj.cells (pt 0 0 0 0) 54)).alloc (Obj.cells (pt 0 0 0 0) 54)).alloc (Obj.cells (pt 0 0 0 0) 54)).drew.heap.size ∧ (((w1.alloc (Obj.cells (pt 0 0 0 0) 54)).alloc (Obj.cells (pt 0 0 0 0) 54)).alloc (Obj.cells (pt 0 0 0 0) 54)).drew.heap[w.heap.size]? = some (.cells #[.int .u64 x1, .int .u64 y1] 26) ∧ (((w1.alloc (Obj.cells (pt 0 0 0 0) 54)).alloc (Obj.cells (pt 0 0 0 0) 54)).alloc (Obj.cells (pt 0 0 0 0) 54)).drew.heap[w.heap.size + 1]? = some (.cells #[.int .u64 x2, .int .u64 y2] 26) ∧ (((w1.alloc (Obj.cells (pt 0 0 0 0) 54)).alloc (Obj.cells (pt 0 0 0 0) 54)).alloc (Obj.cells (pt 0 0 0 0) 54)).drew.heap[w.heap.size + 1 + 1]? = some (.cells #[.int .u64 x3, .int .u64 y3] 26) ∧ (((w1.alloc (Obj.cells (pt 0 0 0 0) 54)).alloc (Obj.cells (pt 0 0 0 0) 54)).alloc (Obj.cells (pt 0 0 0 0) 54)).drew.heap[w.heap.size + 1 + 1 + 1]? = some (.cells #[.int .u64 0, .int .u64 0] 26) ∧ (((w1.alloc (Obj.cells (pt 0 0 0 0) 54)).alloc (Obj.cells (pt 0 0 0 0) 54)).alloc (Obj.cells (pt 0 0 0 0) 54)).drew.heap[gl]? = some (.cells (p3v c1 m1 X1 r1 c2 m2 X2 r2 c3 m3 X3 r3) 54) ∧ (((w1.alloc (Obj.cells (pt 0 0 0 0) 54)).alloc (Obj.cells (pt 0 0 0 0) 54)).alloc (Obj.cells (pt 0 0 0 0) 54)).drew.cell? ⟨gl, 0, none⟩ = some (.int .u8 c1) ∧ (((w1.alloc (Obj.cells (pt 0 0 0 0) 54)).alloc (Obj.cells (pt 0 0 0 0) 54)).alloc (Obj.cells (pt 0 0 0 0) 54)).drew.cell? ⟨gl, 1, none⟩ = some (.int .u64 (wd m1 0)) ∧ (((w1.alloc (Obj.cells (pt 0 0 0 0) 54)).alloc (Obj.cells (pt 0 0 0 0) 54)).alloc (Obj.cells (pt 0 0 0 0) 54)).drew.cell? ⟨gl, 2, none⟩ = some (.int .u64 (wd m1 1)) ∧ (((w1.alloc (Obj.cells (pt 0 0 0 0) 54)).alloc (Obj.cells (pt 0 0 0 0) 54)).alloc (Obj.cells (pt 0 0 0 0) 54)).drew.cell? ⟨gl, 3, none⟩ = some (.int .u64 (wd m1 2)) ∧ (((w1.alloc (Obj.cells (pt 0 0 0 0) 54)).alloc (Obj.cells (pt 0 0 0 0) 54)).alloc (Obj.cells (pt 0 0 0 0) 54)).drew.cell? ⟨gl, 4, none⟩ = some (.int .u64 (wd m1 3)) ∧ (((w1.alloc (Obj.cells (pt 0 0 0 0) 54)).alloc (Obj.cells (pt 0 0 0 0) 54)).alloc (Obj.cells (pt 0 0 0 0) 54)).drew.cell? ⟨gl, 5, none⟩ = some (.int .u64 (wd m1 4)) ∧ (((w1.alloc (Obj.cells (pt 0 0 0 0) 54)).alloc (Obj.cells (pt 0 0 0 0) 54)).alloc (Obj.cells (pt 0 0 0 0) 54)).drew.cell? ⟨gl, 6, none⟩ = some (.int .u64 (wd m1 5)) ∧ (((w1.alloc (Obj.cells (pt 0 0 0 0) 54)).alloc (Obj.cells (pt 0 0 0 0) 54)).alloc (Obj.cells (pt 0 0 0 0) 54)).drew.cell? ⟨gl, 7, none⟩ = some (.int .i64 X1) ∧ (((w1.alloc (Obj.cells (pt 0 0 0 0) 54)).alloc (Obj.cells (pt 0 0 0 0) 54)).alloc (Obj.cells (pt 0 0 0 0) 54)).drew.cell? ⟨gl, 8, none⟩ = some (.int .u64 (wd r1 0)) ∧ (((w1.alloc (Obj.cells (pt 0 0 0 0) 54)).alloc (Obj.cells (pt 0 0 0 0) 54)).alloc (Obj.cells (pt 0 0 0 0) 54)).drew.cell? ⟨gl, 9, none⟩ = some (.int .u64 (wd r1 1)) ∧ (((w1.alloc (Obj.cells (pt 0 0 0 0) 54)).alloc (Obj.cells (pt 0 0 0 0) 54)).alloc (Obj.cells (pt 0 0 0 0) 54)).drew.cell? ⟨gl, 10, none⟩ = some (.int .u64 (wd r1 2)) ∧ (((w1.alloc (Obj.cells (pt 0 0 0 0) 54)).alloc (Obj.cells (pt 0 0 0 0) 54)).alloc (Obj.cells (pt 0 0 0 0) 54)).drew.cell? ⟨gl, 11, none⟩ = some (.int .u64 (wd r1 3)) ∧ (((w1.alloc (Obj.cells (pt 0 0 0 0) 54)).alloc (Obj.cells (pt 0 0 0 0) 54)).alloc (Obj.cells (pt 0 0 0 0) 54)).drew.cell? ⟨gl, 12, none⟩ = some (.int .u64 (wd r1 4)) ∧ (((w1.alloc (Obj.cells (pt 0 0 0 0) 54)).alloc (Obj.cells (pt 0 0 0 0) 54)).alloc (Obj.cells (pt 0 0 0 0) 54)).drew.cell? ⟨gl, 13, none⟩ = some (.int .u64 (wd r1 5)) ∧ (((w1.alloc (Obj.cells (pt 0 0 0 0) 54)).alloc (Obj.cells (pt 0 0 0 0) 54)).alloc (Obj.cells (pt 0 0 0 0) 54)).drew.cell? ⟨gl, 14, none⟩ = some (.int .u8 c2) ∧ (((w1.alloc (Obj.cells (pt 0 0 0 0) 54)).alloc (Obj.cells (pt 0 0 0 0) 54)).alloc (Obj.cells (pt 0 0 0 0) 54)).drew.cell? ⟨gl, 15, none⟩ = some (.int .u64 (wd m2 0)) ∧ (((w1.alloc (Obj.cells (pt 0 0 0 0) 54)).alloc (Obj.cells (pt 0 0 0 0) 54)).alloc (Obj.cells (pt 0 0 0 0) 54)).drew.cell? ⟨gl, 16, none⟩ = some (.int .u64 (wd m2 1)) ∧ (((w1.alloc (Obj.cells (pt 0 0 0 0) 54)).alloc (Obj.cells (pt 0 0 0 0) 54)).alloc (Obj.cells (pt 0 0 0 0) 54)).drew.cell? ⟨gl, 17, none⟩ = some (.int .u64 (wd m2 2)) ∧ (((w1.alloc (Obj.cells (pt 0 0 0 0) 54)).alloc (Obj.cells (pt 0 0 0 0) 54)).alloc (Obj.cells (pt 0 0 0 0) 54)).drew.cell? ⟨gl, 18, none⟩ = some (.int .u64 (wd m2 3)) ∧ (((w1.alloc (Obj.cells (pt 0 0 0 0) 54)).alloc (Obj.cells (pt 0 0 0 0) 54)).alloc (Obj.cells (pt 0 0 0 0) 54)).drew.cell? ⟨gl, 19, none⟩ = some (.int .u64 (wd m2 4)) ∧ (((w1.alloc (Obj.cells (pt 0 0 0 0) 54)).alloc (Obj.cells (pt 0 0 0 0) 54)).alloc (Obj.cells (pt 0 0 0 0) 54)).drew.cell? ⟨gl, 20, none⟩ = some (.int .u64 (wd m2 5)) ∧ (((w1.alloc (Obj.cells (pt 0 0 0 0) 54)).alloc (Obj.cells (pt 0 0 0 0) 54)).alloc (Obj.cells (pt 0 0 0 0) 54)).drew.cell? ⟨gl, 21, none⟩ = some (.int .i64 X2) ∧ (((w1.alloc (Obj.cells (pt 0 0 0 0) 54)).alloc (Obj.cells (pt 0 0 0 0) 54)).alloc (Obj.cells (pt 0 0 0 0) 54)).drew.cell? ⟨gl, 22, none⟩ = some (.int .u64 (wd r2 0)) ∧ (((w1.alloc (Obj.cells (pt 0 0 0 0) 54)).alloc (Obj.cells (pt 0 0 0 0) 54)).alloc (Obj.cells (pt 0 0 0 0) 54)).drew.cell? ⟨gl, 23, none⟩ = some (.int .u64 (wd r2 1)) ∧ (((w1.alloc (Obj.cells (pt 0 0 0 0) 54)).alloc (Obj.cells (pt 0 0 0 0) 54)).alloc (Obj.cells (pt 0 0 0 0) 54)).drew.cell? ⟨gl, 24, none⟩ = some (.int .u64 (wd r2 2)) ∧ (((w1.alloc (Obj.cells (pt 0 0 0 0) 54)).alloc (Obj.cells (pt 0 0 0 0) 54)).alloc (Obj.cells (pt 0 0 0 0) 54)).drew.cell? ⟨gl, 25, none⟩ = some (.int .u64 (wd r2 3)) ∧ (((w1.alloc (Obj.cells (pt 0 0 0 0) 54)).alloc (Obj.cells (pt 0 0 0 0) 54)).alloc (Obj.cells (pt 0 0 0 0) 54)).drew.cell? ⟨gl, 26, none⟩ = some (.int .u64 (wd r2 4)) ∧ (((w1.alloc (Obj.cells (pt 0 0 0 0) 54)).alloc (Obj.cells (pt 0 0 0 0) 54)).alloc (Obj.cells (pt 0 0 0 0) 54)).drew.cell? ⟨gl, 27, none⟩ = some (.int .u64 (wd r2 5)) ∧ (((w1.alloc (Obj.cells (pt 0 0 0 0) 54)).alloc (Obj.cells (pt 0 0 0 0) 54)).alloc (Obj.cells (pt 0 0 0 0) 54)).drew.cell? ⟨gl, 28, none⟩ = some (.int .u8 c3) ∧ (((w1.alloc (Obj.cells (pt 0 0 0 0) 54)).alloc (Obj.cells (pt 0 0 0 0) 54)).alloc (Obj.cells (pt 0 0 0 0) 54)).drew.cell? ⟨gl, 29, none⟩ = some (.int .u64 (wd m3 0)) ∧ (((w1.alloc (Obj.cells (pt 0 0 0 0) 54)).alloc (Obj.cells (pt 0 0 0 0) 54)).alloc (Obj.cells (pt 0 0 0 0) 54)).drew.cell? ⟨gl, 30, none⟩ = some (.int .u64 (wd m3 1)) ∧ (((w1.alloc (Obj.cells (pt 0 0 0 0) 54)).alloc (Obj.cells (pt 0 0 0 0) 54)).alloc (Obj.cells (pt 0 0 0 0) 54)).drew.cell? ⟨gl, 31, none⟩ = some (.int .u64 (wd m3 2)) ∧ (((w1.alloc (Obj.cells (pt 0 0 0 0) 54)).alloc (Obj.cells (pt 0 0 0 0) 54)).alloc (Obj.cells (pt 0 0 0 0) 54)).drew.cell? ⟨gl, 32, none⟩ = some (.int .u64 (wd m3 3)) ∧ (((w1.alloc (Obj.cells (pt 0 0 0 0) 54)).alloc (Obj.cells (pt 0 0 0 0) 54)).alloc (Obj.cells (pt 0 0 0 0) 54)).drew.cell? ⟨gl, 33, none⟩ = some (.int .u64 (wd m3 4)) ∧ (((w1.alloc (Obj.cells (pt 0 0 0 0) 54)).alloc (Obj.cells (pt 0 0 0 0) 54)).alloc (Obj.cells (pt 0 0 0 0) 54)).drew.cell? ⟨gl, 34, none⟩ = some (.int .u64 (wd m3 5)) ∧ (((w1.alloc (Obj.cells (pt 0 0 0 0) 54)).alloc (Obj.cells (pt 0 0 0 0) 54)).alloc (Obj.cells (pt 0 0 0 0) 54)).drew.cell? ⟨gl, 35, none⟩ = some (.int .i64 X3) ∧ (((w1.alloc (Obj.cells (pt 0 0 0 0) 54)).alloc (Obj.cells (pt 0 0 0 0) 54)).alloc (Obj.cells (pt 0 0 0 0) 54)).drew.cell? ⟨gl, 36, none⟩ = some (.int .u64 (wd r3 0)) ∧ (((w1.alloc (Obj.cells (pt 0 0 0 0) 54)).alloc (Obj.cells (pt 0 0 0 0) 54)).alloc (Obj.cells (pt 0 0 0 0) 54)).drew.cell? ⟨gl, 37, none⟩ = some (.int .u64 (wd r3 1)) ∧ (((w1.alloc (Obj.cells (pt 0 0 0 0) 54)).alloc (Obj.cells (pt 0 0 0 0) 54)).alloc (Obj.cells (pt 0 0 0 0) 54)).drew.cell? ⟨gl, 38, none⟩ = some (.int .u64 (wd r3 2)) ∧ (((w1.alloc (Obj.cells (pt 0 0 0 0) 54)).alloc (Obj.cells (pt 0 0 0 0) 54)).alloc (Obj.cells (pt 0 0 0 0) 54)).drew.cell? ⟨gl, 39, none⟩ = some (.int .u64 (wd r3 3)) ∧ (((w1.alloc (Obj.cells (pt 0 0 0 0) 54)).alloc (Obj.cells (pt 0 0 0 0) 54)).alloc (Obj.cells (pt 0 0 0 0) 54)).drew.cell? ⟨gl, 40, none⟩ = some (.int .u64 (wd r3 4)) ∧ (((w1.alloc (Obj.cells (pt 0 0 0 0) 54)).alloc (Obj.cells (pt 0 0 0 0) 54)).alloc (Obj.cells (pt 0 0 0 0) 54)).drew.cell? ⟨gl, 41, none⟩ = some (.int .u64 (wd r3 5))) := zK (sS.out _ _ (sS.out _ _ (sS.out _ _ z0.out (yQ _ _)) (yQ _ _)) (yQ _ _))
  have hV1 : (((w1.alloc (Obj.cells (pt 0 0 0 0) 54)).alloc (Obj.cells (pt 0 0 0 0) 54)).alloc (Obj.cells (pt 0 0 0 0) 54)).drew.heap[w1.heap.size]? = some (.cells (pt 0 0 0 0) 54) := al_row30 w1 _
  have hr1 := sp_one _ _ hV1
  have hV2 : (((w1.alloc (Obj.cells (pt 0 0 0 0) 54)).alloc (Obj.cells (pt 0 0 0 0) 54)).alloc (Obj.cells (pt 0 0 0 0) 54)).drew.heap[w1.heap.size + 1]? = some (.cells (pt 0 0 0 0) 54) := al_row31 w1 _
  have hr2 := sp_one _ _ hV2
  have hV3 : (((w1.alloc (Obj.cells (pt 0 0 0 0) 54)).alloc (Obj.cells (pt 0 0 0 0) 54)).alloc (Obj.cells (pt 0 0 0 0) 54)).drew.heap[w1.heap.size + 1 + 1]? = some (.cells (pt 0 0 0 0) 54) := al_row32 w1 _
  have hr3 := sp_one _ _ hV3
  have hr12 := sp_two _ (w1.heap.size) _ (by omega) hV2
  have hr13 := sp_two _ (w1.heap.size) _ (by omega) hV3
  have hr21 := sp_two _ (w1.heap.size + 1) _ (by omega) hV1
  have hr23 := sp_two _ (w1.heap.size + 1) _ (by omega) hV3
  have hr31 := sp_two _ (w1.heap.size + 1 + 1) _ (by omega) hV1
  have hr32 := sp_two _ (w1.heap.size + 1 + 1) _ (by omega) hV2
  have hr123 := sp_three _ (w1.heap.size) (w1.heap.size + 1) _ (by omega) (by omega) hV3
  have hr132 := sp_three _ (w1.heap.size) (w1.heap.size + 1 + 1) _ (by omega) (by omega) hV2
  have hr213 := sp_three _ (w1.heap.size + 1) (w1.heap.size) _ (by omega) (by omega) hV3
  have hr231 := sp_three _ (w1.heap.size + 1) (w1.heap.size + 1 + 1) _ (by omega) (by omega) hV1
  have hr312 := sp_three _ (w1.heap.size + 1 + 1) (w1.heap.size) _ (by omega) (by omega) hV2
  have hr321 := sp_three _ (w1.heap.size + 1 + 1) (w1.heap.size + 1) _ (by omega) (by omega) hV1
  go_region_held3 (fun W => Below w.heap.size w W ∧ n0 ≤ W.heap.size ∧ W.heap[w.heap.size]? = some (.cells #[.int .u64 x1, .int .u64 y1] 26) ∧ W.heap[w.heap.size + 1]? = some (.cells #[.int .u64 x2, .int .u64 y2] 26) ∧ W.heap[w.heap.size + 1 + 1]? = some (.cells #[.int .u64 x3, .int .u64 y3] 26) ∧ W.heap[w.heap.size + 1 + 1 + 1]? = some (.cells #[.int .u64 0, .int .u64 0] 26) ∧ W.heap[gl]? = some (.cells (p3v c1 m1 X1 r1 c2 m2 X2 r2 c3 m3 X3 r3) 54) ∧ W.cell? ⟨gl, 0, none⟩ = some (.int .u8 c1) ∧ W.cell? ⟨gl, 1, none⟩ = some (.int .u64 (wd m1 0)) ∧ W.cell? ⟨gl, 2, none⟩ = some (.int .u64 (wd m1 1)) ∧ W.cell? ⟨gl, 3, none⟩ = some (.int .u64 (wd m1 2)) ∧ W.cell? ⟨gl, 4, none⟩ = some (.int .u64 (wd m1 3)) ∧ W.cell? ⟨gl, 5, none⟩ = some (.int .u64 (wd m1 4)) ∧ W.cell? ⟨gl, 6, none⟩ = some (.int .u64 (wd m1 5)) ∧ W.cell? ⟨gl, 7, none⟩ = some (.int .i64 X1) ∧ W.cell? ⟨gl, 8, none⟩ = some (.int .u64 (wd r1 0)) ∧ W.cell? ⟨gl, 9, none⟩ = some (.int .u64 (wd r1 1)) ∧ W.cell? ⟨gl, 10, none⟩ = some (.int .u64 (wd r1 2)) ∧ W.cell? ⟨gl, 11, none⟩ = some (.int .u64 (wd r1 3)) ∧ W.cell? ⟨gl, 12, none⟩ = some (.int .u64 (wd r1 4)) ∧ W.cell? ⟨gl, 13, none⟩ = some (.int .u64 (wd r1 5)) ∧ W.cell? ⟨gl, 14, none⟩ = some (.int .u8 c2) ∧ W.cell? ⟨gl, 15, none⟩ = some (.int .u64 (wd m2 0)) ∧ W.cell? ⟨gl, 16, none⟩ = some (.int .u64 (wd m2 1)) ∧ W.cell? ⟨gl, 17, none⟩ = some (.int .u64 (wd m2 2)) ∧ W.cell? ⟨gl, 18, none⟩ = some (.int .u64 (wd m2 3)) ∧ W.cell? ⟨gl, 19, none⟩ = some (.int .u64 (wd m2 4)) ∧ W.cell? ⟨gl, 20, none⟩ = some (.int .u64 (wd m2 5)) ∧ W.cell? ⟨gl, 21, none⟩ = some (.int .i64 X2) ∧ W.cell? ⟨gl, 22, none⟩ = some (.int .u64 (wd r2 0)) ∧ W.cell? ⟨gl, 23, none⟩ = some (.int .u64 (wd r2 1)) ∧ W.cell? ⟨gl, 24, none⟩ = some (.int .u64 (wd r2 2)) ∧ W.cell? ⟨gl, 25, none⟩ = some (.int .u64 (wd r2 3)) ∧ W.cell? ⟨gl, 26, none⟩ = some (.int .u64 (wd r2 4)) ∧ W.cell? ⟨gl, 27, none⟩ = some (.int .u64 (wd r2 5)) ∧ W.cell? ⟨gl, 28, none⟩ = some (.int .u8 c3) ∧ W.cell? ⟨gl, 29, none⟩ = some (.int .u64 (wd m3 0)) ∧ W.cell? ⟨gl, 30, none⟩ = some (.int .u64 (wd m3 1)) ∧ W.cell? ⟨gl, 31, none⟩ = some (.int .u64 (wd m3 2)) ∧ W.cell? ⟨gl, 32, none⟩ = some (.int .u64 (wd m3 3)) ∧ W.cell? ⟨gl, 33, none⟩ = some (.int .u64 (wd m3 4)) ∧ W.cell? ⟨gl, 34, none⟩ = some (.int .u64 (wd m3 5)) ∧ W.cell? ⟨gl, 35, none⟩ = some (.int .i64 X3) ∧ W.cell? ⟨gl, 36, none⟩ = some (.int .u64 (wd r3 0)) ∧ W.cell? ⟨gl, 37, none⟩ = some (.int .u64 (wd r3 1)) ∧ W.cell? ⟨gl, 38, none⟩ = some (.int .u64 (wd r3 2)) ∧ W.cell? ⟨gl, 39, none⟩ = some (.int .u64 (wd r3 3)) ∧ W.cell? ⟨gl, 40, none⟩ = some (.int .u64 (wd r3 4)) ∧ W.cell? ⟨gl, 41, none⟩ = some (.int .u64 (wd r3 5))) (first | exact z0.out | exact z1.out | exact sV.out | exact sS.out _ _ z1.out (yQ _ _) | exact sS.out _ _ z0.out (yQ _ _) | exact sS.out _ _ (sS.out _ _ z1.out (yQ _ _)) (yQ _ _) | exact sS.out _ _ (sS.out _ _ z0.out (yQ _ _)) (yQ _ _) | exact sT.out _ _ _ sV.out ge1 | exact sT.out _ _ _ sV.out ge2 | exact sT.out _ _ _ sV.out ge3 | exact sT.out _ _ _ (sT.out _ _ _ sV.out ge1) ge2 | exact sT.out _ _ _ (sT.out _ _ _ sV.out ge1) ge3 | exact sT.out _ _ _ (sT.out _ _ _ sV.out ge2) ge1 | exact sT.out _ _ _ (sT.out _ _ _ sV.out ge2) ge3 | exact sT.out _ _ _ (sT.out _ _ _ sV.out ge3) ge1 | exact sT.out _ _ _ (sT.out _ _ _ sV.out ge3) ge2 | exact sT.out _ _ _ (sT.out _ _ _ (sT.out _ _ _ sV.out ge1) ge2) ge3 | exact sT.out _ _ _ (sT.out _ _ _ (sT.out _ _ _ sV.out ge1) ge3) ge2 | exact sT.out _ _ _ (sT.out _ _ _ (sT.out _ _ _ sV.out ge2) ge1) ge3 | exact sT.out _ _ _ (sT.out _ _ _ (sT.out _ _ _ sV.out ge2) ge3) ge1 | exact sT.out _ _ _ (sT.out _ _ _ (sT.out _ _ _ sV.out ge3) ge1) ge2 | exact sT.out _ _ _ (sT.out _ _ _ (sT.out _ _ _ sV.out ge3) ge2) ge1)
   (fail)
  all_goals
   refine gen_fma_fused_14_15_16 (R := fun W g1 g2 g3 => (Below w.heap.size w W ∧ n0 ≤ W.heap.size ∧ W.heap[w.heap.size]? = some (.cells #[.int .u64 x1, .int .u64 y1] 26) ∧ W.heap[w.heap.size + 1]? = some (.cells #[.int .u64 x2, .int .u64 y2] 26) ∧ W.heap[w.heap.size + 1 + 1]? = some (.cells #[.int .u64 x3, .int .u64 y3] 26) ∧ W.heap[w.heap.size + 1 + 1 + 1]? = some (.cells #[.int .u64 0, .int .u64 0] 26) ∧ W.heap[gl]? = some (.cells (p3v c1 m1 X1 r1 c2 m2 X2 r2 c3 m3 X3 r3) 54) ∧ W.cell? ⟨gl, 0, none⟩ = some (.int .u8 c1) ∧ W.cell? ⟨gl, 1, none⟩ = some (.int .u64 (wd m1 0)) ∧ W.cell? ⟨gl, 2, none⟩ = some (.int .u64 (wd m1 1)) ∧ W.cell? ⟨gl, 3, none⟩ = some (.int .u64 (wd m1 2)) ∧ W.cell? ⟨gl, 4, none⟩ = some (.int .u64 (wd m1 3)) ∧ W.cell? ⟨gl, 5, none⟩ = some (.int .u64 (wd m1 4)) ∧ W.cell? ⟨gl, 6, none⟩ = some (.int .u64 (wd m1 5)) ∧ W.cell? ⟨gl, 7, none⟩ = some (.int .i64 X1) ∧ W.cell? ⟨gl, 8, none⟩ = some (.int .u64 (wd r1 0)) ∧ W.cell? ⟨gl, 9, none⟩ = some (.int .u64 (wd r1 1)) ∧ W.cell? ⟨gl, 10, none⟩ = some (.int .u64 (wd r1 2)) ∧ W.cell? ⟨gl, 11, none⟩ = some (.int .u64 (wd r1 3)) ∧ W.cell? ⟨gl, 12, none⟩ = some (.int .u64 (wd r1 4)) ∧ W.cell? ⟨gl, 13, none⟩ = some (.int .u64 (wd r1 5)) ∧ W.cell? ⟨gl, 14, none⟩ = some (.int .u8 c2) ∧ W.cell? ⟨gl, 15, none⟩ = some (.int .u64 (wd m2 0)) ∧ W.cell? ⟨gl, 16, none⟩ = some (.int .u64 (wd m2 1)) ∧ W.cell? ⟨gl, 17, none⟩ = some (.int .u64 (wd m2 2)) ∧ W.cell? ⟨gl, 18, none⟩ = some (.int .u64 (wd m2 3)) ∧ W.cell? ⟨gl, 19, none⟩ = some (.int .u64 (wd m2 4)) ∧ W.cell? ⟨gl, 20, none⟩ = some (.int .u64 (wd m2 5)) ∧ W.cell? ⟨gl, 21, none⟩ = some (.int .i64 X2) ∧ W.cell? ⟨gl, 22, none⟩ = some (.int .u64 (wd r2 0)) ∧ W.cell? ⟨gl, 23, none⟩ = some (.int .u64 (wd r2 1)) ∧ W.cell? ⟨gl, 24, none⟩ = some (.int .u64 (wd r2 2)) ∧ W.cell? ⟨gl, 25, none⟩ = some (.int .u64 (wd r2 3)) ∧ W.cell? ⟨gl, 26, none⟩ = some (.int .u64 (wd r2 4)) ∧ W.cell? ⟨gl, 27, none⟩ = some (.int .u64 (wd r2 5)) ∧ W.cell? ⟨gl, 28, none⟩ = some (.int .u8 c3) ∧ W.cell? ⟨gl, 29, none⟩ = some (.int .u64 (wd m3 0)) ∧ W.cell? ⟨gl, 30, none⟩ = some (.int .u64 (wd m3 1)) ∧ W.cell? ⟨gl, 31, none⟩ = some (.int .u64 (wd m3 2)) ∧ W.cell? ⟨gl, 32, none⟩ = some (.int .u64 (wd m3 3)) ∧ W.cell? ⟨gl, 33, none⟩ = some (.int .u64 (wd m3 4)) ∧ W.cell? ⟨gl, 34, none⟩ = some (.int .u64 (wd m3 5)) ∧ W.cell? ⟨gl, 35, none⟩ = some (.int .i64 X3) ∧ W.cell? ⟨gl, 36, none⟩ = some (.int .u64 (wd r3 0)) ∧ W.cell? ⟨gl, 37, none⟩ = some (.int .u64 (wd r3 1)) ∧ W.cell? ⟨gl, 38, none⟩ = some (.int .u64 (wd r3 2)) ∧ W.cell? ⟨gl, 39, none⟩ = some (.int .u64 (wd r3 3)) ∧ W.cell? ⟨gl, 40, none⟩ = some (.int .u64 (wd r3 4)) ∧ W.cell? ⟨gl, 41, none⟩ = some (.int .u64 (wd r3 5))) ∧ W.heap[g1]? = some (.cells (pt c1 m1 X1 r1) 54) ∧ W.heap[g2]? = some (.cells (pt c2 m2 X2 r2) 54) ∧ W.heap[g3]? = some (.cells (pt c3 m3 X3 r3) 54) ∧ n0 ≤ g1 ∧ n0 ≤ g2 ∧ n0 ≤ g3) key.out ?_
   first
    | exact ⟨sT.out _ _ _ (sT.out _ _ _ (sT.out _ _ _ sV.out ge1) ge2) ge3, set3r1 hV1 (by omega) (by omega), set3r2 hV2 (by omega) (by omega), set3r3 hV3 (by omega) (by omega), ge1, ge2, ge3⟩
    | exact ⟨sT.out _ _ _ (sT.out _ _ _ (sT.out _ _ _ sV.out ge1) ge3) ge2, set3r1 hV1 (by omega) (by omega), set3r2 hV3 (by omega) (by omega), set3r3 hV2 (by omega) (by omega), ge1, ge3, ge2⟩
    | exact ⟨sT.out _ _ _ (sT.out _ _ _ (sT.out _ _ _ sV.out ge2) ge1) ge3, set3r1 hV2 (by omega) (by omega), set3r2 hV1 (by omega) (by omega), set3r3 hV3 (by omega) (by omega), ge2, ge1, ge3⟩
    | exact ⟨sT.out _ _ _ (sT.out _ _ _ (sT.out _ _ _ sV.out ge2) ge3) ge1, set3r1 hV2 (by omega) (by omega), set3r2 hV3 (by omega) (by omega), set3r3 hV1 (by omega) (by omega), ge2, ge3, ge1⟩
    | exact ⟨sT.out _ _ _ (sT.out _ _ _ (sT.out _ _ _ sV.out ge3) ge1) ge2, set3r1 hV3 (by omega) (by omega), set3r2 hV1 (by omega) (by omega), set3r3 hV2 (by omega) (by omega), ge3, ge1, ge2⟩
    | exact ⟨sT.out _ _ _ (sT.out _ _ _ (sT.out _ _ _ sV.out ge3) ge2) ge1, set3r1 hV3 (by omega) (by omega), set3r2 hV2 (by omega) (by omega), set3r3 hV1 (by omega) (by omega), ge3, ge2, ge1⟩
 rintro w2 g2_0 g2_1 g2_2 ⟨s1, AM, AN, AO, l2_0, l2_1, l2_2⟩
 have B2 := And.left s1
 have AP := s1.2.2.1
 have AQ := s1.2.2.2.1
 have AR := s1.2.2.2.2.1
 have AZ := s1.2.2.2.2.2.1
 have A0 := s1.2.2.2.2.2.2.1
 have H2 : zR ((w.heap.size < n0 ∧ w.heap.size + 1 < n0 ∧ w.heap.size + 1 + 1 < n0 ∧ w.heap.size + 1 + 1 + 1 < n0 ∧ gl < n0) ∧ w.heap.size ≤ n0 ∧ n0 ≤ g2_0 ∧ n0 ≤ g2_1 ∧ n0 ≤ g2_2) := zK ⟨L0.out, Lw.out, l2_0, l2_1, l2_2⟩
 clear z0 s1 sS sT L0 Lw ge1 ge2 ge3 l2_0 l2_1 l2_2
 obtain ⟨Bi, Bj⟩ := zC AP
 obtain ⟨Bk, Bl⟩ := zC AQ
 obtain ⟨Bm, Bn⟩ := zC AR
 have Bo := (zG AM).1
 have Bp := (zG AN).1
 have Bq := (zG AO).1
 clear AB AW AX
 have sS : zR (∀ W W1 : World, (Below w.heap.size w W ∧ W.heap[w.heap.size]? = some (.cells #[.int .u64 x1, .int .u64 y1] 26) ∧ W.heap[w.heap.size + 1]? = some (.cells #[.int .u64 x2, .int .u64 y2] 26) ∧ W.heap[w.heap.size + 1 + 1]? = some (.cells #[.int .u64 x3, .int .u64 y3] 26) ∧ W.heap[w.heap.size + 1 + 1 + 1]? = some (.cells #[.int .u64 0, .int .u64 0] 26) ∧ W.heap[gl]? = some (.cells (p3v c1 m1 X1 r1 c2 m2 X2 r2 c3 m3 X3 r3) 54) ∧ W.heap[g2_0]? = some (.cells (pt c1 m1 X1 r1) 54) ∧ W.heap[g2_1]? = some (.cells (pt c2 m2 X2 r2) 54) ∧ W.heap[g2_2]? = some (.cells (pt c3 m3 X3 r3) 54)) → Below W.heap.size W W1 → (Below w.heap.size w W1 ∧ W1.heap[w.heap.size]? = some (.cells #[.int .u64 x1, .int .u64 y1] 26) ∧ W1.heap[w.heap.size + 1]? = some (.cells #[.int .u64 x2, .int .u64 y2] 26) ∧ W1.heap[w.heap.size + 1 + 1]? = some (.cells #[.int .u64 x3, .int .u64 y3] 26) ∧ W1.heap[w.heap.size + 1 + 1 + 1]? = some (.cells #[.int .u64 0, .int .u64 0] 26) ∧ W1.heap[gl]? = some (.cells (p3v c1 m1 X1 r1 c2 m2 X2 r2 c3 m3 X3 r3) 54) ∧ W1.heap[g2_0]? = some (.cells (pt c1 m1 X1 r1) 54) ∧ W1.heap[g2_1]? = some (.cells (pt c2 m2 X2 r2) 54) ∧ W1.heap[g2_2]? = some (.cells (pt c3 m3 X3 r3) 54))) := zK (fun W W1 h b => ⟨zW h.1 b, zA b _ _ _ h.2.1, zA b _ _ _ h.2.2.1, zA b _ _ _ h.2.2.2.1, zA b _ _ _ h.2.2.2.2.1, zA b _ _ _ h.2.2.2.2.2.1, zA b _ _ _ h.2.2.2.2.2.2.1, zA b _ _ _ h.2.2.2.2.2.2.2.1, zA b _ _ _ h.2.2.2.2.2.2.2.2⟩)
 have sC : zR (∀ W : World, (Below w.heap.size w W ∧ W.heap[w.heap.size]? = some (.cells #[.int .u64 x1, .int .u64 y1] 26) ∧ W.heap[w.heap.size + 1]? = some (.cells #[.int .u64 x2, .int .u64 y2] 26) ∧ W.heap[w.heap.size + 1 + 1]? = some (.cells #[.int .u64 x3, .int .u64 y3] 26) ∧ W.heap[w.heap.size + 1 + 1 + 1]? = some (.cells #[.int .u64 0, .int .u64 0] 26) ∧ W.heap[gl]? = some (.cells (p3v c1 m1 X1 r1 c2 m2 X2 r2 c3 m3 X3 r3) 54) ∧ W.heap[g2_0]? = some (.cells (pt c1 m1 X1 r1) 54) ∧ W.heap[g2_1]? = some (.cells (pt c2 m2 X2 r2) 54) ∧ W.heap[g2_2]? = some (.cells (pt c3 m3 X3 r3) 54)) → (Below w.heap.size w W ∧ W.heap[w.heap.size]? = some (.cells #[.int .u64 x1, .int .u64 y1] 26) ∧ W.heap[w.heap.size + 1]? = some (.cells #[.int .u64 x2, .int .u64 y2] 26) ∧ W.heap[w.heap.size + 1 + 1]? = some (.cells #[.int .u64 x3, .int .u64 y3] 26) ∧ W.heap[w.heap.size + 1 + 1 + 1]? = some (.cells #[.int .u64 0, .int .u64 0] 26) ∧ W.heap[gl]? = some (.cells (p3v c1 m1 X1 r1 c2 m2 X2 r2 c3 m3 X3 r3) 54) ∧ W.heap[g2_0]? = some (.cells (pt c1 m1 X1 r1) 54) ∧ W.heap[g2_1]? = some (.cells (pt c2 m2 X2 r2) 54) ∧ W.heap[g2_2]? = some (.cells (pt c3 m3 X3 r3) 54) ∧ W.cell? ⟨w.heap.size, 0, none⟩ = some (.int .u64 x1) ∧ W.cell? ⟨w.heap.size, 1, none⟩ = some (.int .u64 y1) ∧ W.cell? ⟨w.heap.size + 1, 0, none⟩ = some (.int .u64 x2) ∧ W.cell? ⟨w.heap.size + 1, 1, none⟩ = some (.int .u64 y2) ∧ W.cell? ⟨w.heap.size + 1 + 1, 0, none⟩ = some (.int .u64 x3) ∧ W.cell? ⟨w.heap.size + 1 + 1, 1, none⟩ = some (.int .u64 y3))) := zK (fun W h => ⟨h.1, h.2.1, h.2.2.1, h.2.2.2.1, h.2.2.2.2.1, h.2.2.2.2.2.1, h.2.2.2.2.2.2.1, h.2.2.2.2.2.2.2.1, h.2.2.2.2.2.2.2.2, zJ (h.2.1) 0 _ rfl, zJ (h.2.1) 1 _ rfl, zJ (h.2.2.1) 0 _ rfl, zJ (h.2.2.1) 1 _ rfl, zJ (h.2.2.2.1) 0 _ rfl, zJ (h.2.2.2.1) 1 _ rfl⟩)
 have s0 : Below w.heap.size w (w2).drew ∧ (w2).drew.heap[w.heap.size]? = some (.cells #[.int .u64 x1, .int .u64 y1] 26) ∧ (w2).drew.heap[w.heap.size + 1]? = some (.cells #[.int .u64 x2, .int .u64 y2] 26) ∧ (w2).drew.heap[w.heap.size + 1 + 1]? = some (.cells #[.int .u64 x3, .int .u64 y3] 26) ∧ (w2).drew.heap[w.heap.size + 1 + 1 + 1]? = some (.cells #[.int .u64 0, .int .u64 0] 26) ∧ (w2).drew.heap[gl]? = some (.cells (p3v c1 m1 X1 r1 c2 m2 X2 r2 c3 m3 X3 r3) 54) ∧ (w2).drew.heap[g2_0]? = some (.cells (pt c1 m1 X1 r1) 54) ∧ (w2).drew.heap[g2_1]? = some (.cells (pt c2 m2 X2 r2) 54) ∧ (w2).drew.heap[g2_2]? = some (.cells (pt c3 m3 X3 r3) 54) := ⟨B2.drew, AP, AQ, AR, AZ, A0, AM, AN, AO⟩
 go_wp2_with fail
 go_region_held3 (fun W => Below w.heap.size w W ∧ W.heap[w.heap.size]? = some (.cells #[.int .u64 x1, .int .u64 y1] 26) ∧ W.heap[w.heap.size + 1]? = some (.cells #[.int .u64 x2, .int .u64 y2] 26) ∧ W.heap[w.heap.size + 1 + 1]? = some (.cells #[.int .u64 x3, .int .u64 y3] 26) ∧ W.heap[w.heap.size + 1 + 1 + 1]? = some (.cells #[.int .u64 0, .int .u64 0] 26) ∧ W.heap[gl]? = some (.cells (p3v c1 m1 X1 r1 c2 m2 X2 r2 c3 m3 X3 r3) 54) ∧ W.heap[g2_0]? = some (.cells (pt c1 m1 X1 r1) 54) ∧ W.heap[g2_1]? = some (.cells (pt c2 m2 X2 r2) 54) ∧ W.heap[g2_2]? = some (.cells (pt c3 m3 X3 r3) 54) ∧ W.cell? ⟨w.heap.size, 0, none⟩ = some (.int .u64 x1) ∧ W.cell? ⟨w.heap.size, 1, none⟩ = some (.int .u64 y1) ∧ W.cell? ⟨w.heap.size + 1, 0, none⟩ = some (.int .u64 x2) ∧ W.cell? ⟨w.heap.size + 1, 1, none⟩ = some (.int .u64 y2) ∧ W.cell? ⟨w.heap.size + 1 + 1, 0, none⟩ = some (.int .u64 x3) ∧ W.cell? ⟨w.heap.size + 1 + 1, 1, none⟩ = some (.int .u64 y3)) (first | exact sC.out _ s1 | exact sC.out _ s0)
  (((first | (go_at_call_of 22 (Value.agg #[.int .u64 x1, .int .u64 y1]); (first | refine (KS1.out _ (z8 FF.out (And.left s1))).mono ?_ | refine (KS1.out _ (z8 FF.out (And.left s0))).mono ?_)) | (go_at_call_of 22 (Value.agg #[.int .u64 x2, .int .u64 y2]); (first | refine (KS2.out _ (z8 FF.out (And.left s1))).mono ?_ | refine (KS2.out _ (z8 FF.out (And.left s0))).mono ?_)) | (go_at_call_of 22 (Value.agg #[.int .u64 x3, .int .u64 y3]); (first | refine (KS3.out _ (z8 FF.out (And.left s1))).mono ?_ | refine (KS3.out _ (z8 FF.out (And.left s0))).mono ?_)) | fail); rintro r wq ⟨rfl, bq⟩; (first | have s1 := sS.out _ _ s1 bq | have s1 := sS.out _ _ s0 bq); clear bq))
 have B3 := (And.left s1)
 have A1 := s1.2.1
 have A2 := s1.2.2.1
 have AS := s1.2.2.2.1
 have A3 := s1.2.2.2.2.1
 have Br := s1.2.2.2.2.2.1
 have AT := s1.2.2.2.2.2.2.1
 have AU := s1.2.2.2.2.2.2.2.1
 have AV := s1.2.2.2.2.2.2.2.2
 clear s0 s1 sS sC B2 AP Bi Bj AQ Bk Bl AR Bm Bn AZ A0 AM Bo AN Bp AO Bq
 obtain ⟨Bs, Bt⟩ := zC A1
 obtain ⟨Bu, Bv⟩ := zC A2
 obtain ⟨Bw, Bx⟩ := zC AS
 have By := (zG AT).1
 have Bz := (zG AU).1
 have BA := (zG AV).1
 clear Br 
 clear A1 Bs Bt
 clear A2 Bu Bv
 clear Bw Bx
 have sS : zR (∀ W W1 : World, (Below w.heap.size w W ∧ W.heap[w.heap.size + 1 + 1]? = some (.cells #[.int .u64 x3, .int .u64 y3] 26) ∧ W.heap[w.heap.size + 1 + 1 + 1]? = some (.cells #[.int .u64 0, .int .u64 0] 26) ∧ W.heap[g2_0]? = some (.cells (pt c1 m1 X1 r1) 54) ∧ W.heap[g2_1]? = some (.cells (pt c2 m2 X2 r2) 54) ∧ W.heap[g2_2]? = some (.cells (pt c3 m3 X3 r3) 54)) → Below W.heap.size W W1 → (Below w.heap.size w W1 ∧ W1.heap[w.heap.size + 1 + 1]? = some (.cells #[.int .u64 x3, .int .u64 y3] 26) ∧ W1.heap[w.heap.size + 1 + 1 + 1]? = some (.cells #[.int .u64 0, .int .u64 0] 26) ∧ W1.heap[g2_0]? = some (.cells (pt c1 m1 X1 r1) 54) ∧ W1.heap[g2_1]? = some (.cells (pt c2 m2 X2 r2) 54) ∧ W1.heap[g2_2]? = some (.cells (pt c3 m3 X3 r3) 54))) := zK (fun W W1 h b => ⟨zW h.1 b, zA b _ _ _ h.2.1, zA b _ _ _ h.2.2.1, zA b _ _ _ h.2.2.2.1, zA b _ _ _ h.2.2.2.2.1, zA b _ _ _ h.2.2.2.2.2⟩)
 have sL : zR (∀ W : World, (Below w.heap.size w W ∧ W.heap[w.heap.size + 1 + 1]? = some (.cells #[.int .u64 x3, .int .u64 y3] 26) ∧ W.heap[w.heap.size + 1 + 1 + 1]? = some (.cells #[.int .u64 0, .int .u64 0] 26) ∧ W.heap[g2_0]? = some (.cells (pt c1 m1 X1 r1) 54) ∧ W.heap[g2_1]? = some (.cells (pt c2 m2 X2 r2) 54) ∧ W.heap[g2_2]? = some (.cells (pt c3 m3 X3 r3) 54)) → (w.heap.size + 1 + 1 < W.heap.size ∧ w.heap.size + 1 + 1 + 1 < W.heap.size ∧ g2_0 < W.heap.size ∧ g2_1 < W.heap.size ∧ g2_2 < W.heap.size)) := zK (fun W h => ⟨(Array.getElem?_eq_some_iff.1 h.2.1).1, (Array.getElem?_eq_some_iff.1 h.2.2.1).1, (Array.getElem?_eq_some_iff.1 h.2.2.2.1).1, (Array.getElem?_eq_some_iff.1 h.2.2.2.2.1).1, (Array.getElem?_eq_some_iff.1 h.2.2.2.2.2).1⟩)
 have sT : zR (∀ (W : World) (gN : Nat) (xA xB xC : Value), (Below w.heap.size w W ∧ W.heap[w.heap.size + 1 + 1]? = some (.cells #[.int .u64 x3, .int .u64 y3] 26) ∧ W.heap[w.heap.size + 1 + 1 + 1]? = some (.cells #[.int .u64 0, .int .u64 0] 26) ∧ W.heap[g2_0]? = some (.cells (pt c1 m1 X1 r1) 54) ∧ W.heap[g2_1]? = some (.cells (pt c2 m2 X2 r2) 54) ∧ W.heap[g2_2]? = some (.cells (pt c3 m3 X3 r3) 54)) → (w.heap.size + 1 + 1 < gN ∧ w.heap.size + 1 + 1 + 1 < gN ∧ g2_0 < gN ∧ g2_1 < gN ∧ g2_2 < gN) → (Below w.heap.size w (((W.setCell ⟨gN, 0, none⟩ xA).setCell ⟨gN, 1, none⟩ xB).setCell ⟨gN, 2, none⟩ xC) ∧ (((W.setCell ⟨gN, 0, none⟩ xA).setCell ⟨gN, 1, none⟩ xB).setCell ⟨gN, 2, none⟩ xC).heap[w.heap.size + 1 + 1]? = some (.cells #[.int .u64 x3, .int .u64 y3] 26) ∧ (((W.setCell ⟨gN, 0, none⟩ xA).setCell ⟨gN, 1, none⟩ xB).setCell ⟨gN, 2, none⟩ xC).heap[w.heap.size + 1 + 1 + 1]? = some (.cells #[.int .u64 0, .int .u64 0] 26) ∧ (((W.setCell ⟨gN, 0, none⟩ xA).setCell ⟨gN, 1, none⟩ xB).setCell ⟨gN, 2, none⟩ xC).heap[g2_0]? = some (.cells (pt c1 m1 X1 r1) 54) ∧ (((W.setCell ⟨gN, 0, none⟩ xA).setCell ⟨gN, 1, none⟩ xB).setCell ⟨gN, 2, none⟩ xC).heap[g2_1]? = some (.cells (pt c2 m2 X2 r2) 54) ∧ (((W.setCell ⟨gN, 0, none⟩ xA).setCell ⟨gN, 1, none⟩ xB).setCell ⟨gN, 2, none⟩ xC).heap[g2_2]? = some (.cells (pt c3 m3 X3 r3) 54))) := zK (fun W gN xA xB xC h l => ⟨setv3_below h.1 (show w.heap.size ≤ gN by have := l.1; omega) _ _ _, (zH (by have := l.1; omega)).trans ((zH (by have := l.1; omega)).trans ((zH (by have := l.1; omega)).trans h.2.1)), (zH (by have := l.2.1; omega)).trans ((zH (by have := l.2.1; omega)).trans ((zH (by have := l.2.1; omega)).trans h.2.2.1)), (zH (by have := l.2.2.1; omega)).trans ((zH (by have := l.2.2.1; omega)).trans ((zH (by have := l.2.2.1; omega)).trans h.2.2.2.1)), (zH (by have := l.2.2.2.1; omega)).trans ((zH (by have := l.2.2.2.1; omega)).trans ((zH (by have := l.2.2.2.1; omega)).trans h.2.2.2.2.1)), (zH (by have := l.2.2.2.2; omega)).trans ((zH (by have := l.2.2.2.2; omega)).trans ((zH (by have := l.2.2.2.2; omega)).trans h.2.2.2.2.2))⟩)
 have sC : zR (∀ W : World, (Below w.heap.size w W ∧ W.heap[w.heap.size + 1 + 1]? = some (.cells #[.int .u64 x3, .int .u64 y3] 26) ∧ W.heap[w.heap.size + 1 + 1 + 1]? = some (.cells #[.int .u64 0, .int .u64 0] 26) ∧ W.heap[g2_0]? = some (.cells (pt c1 m1 X1 r1) 54) ∧ W.heap[g2_1]? = some (.cells (pt c2 m2 X2 r2) 54) ∧ W.heap[g2_2]? = some (.cells (pt c3 m3 X3 r3) 54)) → (Below w.heap.size w W ∧ W.heap[w.heap.size + 1 + 1]? = some (.cells #[.int .u64 x3, .int .u64 y3] 26) ∧ W.heap[w.heap.size + 1 + 1 + 1]? = some (.cells #[.int .u64 0, .int .u64 0] 26) ∧ W.heap[g2_0]? = some (.cells (pt c1 m1 X1 r1) 54) ∧ W.heap[g2_1]? = some (.cells (pt c2 m2 X2 r2) 54) ∧ W.heap[g2_2]? = some (.cells (pt c3 m3 X3 r3) 54) ∧ W.cell? ⟨g2_0, 0, none⟩ = some (.int .u8 c1) ∧ W.cell? ⟨g2_1, 0, none⟩ = some (.int .u8 c2) ∧ W.cell? ⟨g2_2, 0, none⟩ = some (.int .u8 c3))) := zK (fun W h => ⟨h.1, h.2.1, h.2.2.1, h.2.2.2.1, h.2.2.2.2.1, h.2.2.2.2.2, zJ (h.2.2.2.1) 0 _ rfl, zJ (h.2.2.2.2.1) 0 _ rfl, zJ (h.2.2.2.2.2) 0 _ rfl⟩)
 have s0 : Below w.heap.size w (wq).drew ∧ (wq).drew.heap[w.heap.size + 1 + 1]? = some (.cells #[.int .u64 x3, .int .u64 y3] 26) ∧ (wq).drew.heap[w.heap.size + 1 + 1 + 1]? = some (.cells #[.int .u64 0, .int .u64 0] 26) ∧ (wq).drew.heap[g2_0]? = some (.cells (pt c1 m1 X1 r1) 54) ∧ (wq).drew.heap[g2_1]? = some (.cells (pt c2 m2 X2 r2) 54) ∧ (wq).drew.heap[g2_2]? = some (.cells (pt c3 m3 X3 r3) 54) := ⟨B3.drew, AS, A3, AT, AU, AV⟩
 clear B3 AS A3 AT By AU Bz AV BA
 go_wp2_with fail
 apply cut7
 ·
  intro key0
  have key := zK key0
  clear key0
  go_region_held3 (fun W => Below w.heap.size w W ∧ W.heap[w.heap.size + 1 + 1]? = some (.cells #[.int .u64 x3, .int .u64 y3] 26) ∧ W.heap[w.heap.size + 1 + 1 + 1]? = some (.cells #[.int .u64 0, .int .u64 0] 26) ∧ W.heap[g2_0]? = some (.cells (pt c1 m1 X1 r1) 54) ∧ W.heap[g2_1]? = some (.cells (pt c2 m2 X2 r2) 54) ∧ W.heap[g2_2]? = some (.cells (pt c3 m3 X3 r3) 54) ∧ W.cell? ⟨g2_0, 0, none⟩ = some (.int .u8 c1) ∧ W.cell? ⟨g2_1, 0, none⟩ = some (.int .u8 c2) ∧ W.cell? ⟨g2_2, 0, none⟩ = some (.int .u8 c3)) (first | exact sC.out _ s1 | exact sC.out _ s0 | exact sC.out _ (sS.out _ _ s1 (yQ _ _)) | exact sC.out _ (sS.out _ _ s0 (yQ _ _)) | exact sC.out _ (sT.out _ _ _ _ _ s1 hl))
   (((first | (go_at_call_of 34 (Value.int .u8 c1); (first | refine (KP1.out _).mono ?_ | refine (KP1.out _).mono ?_)) | (go_at_call_of 34 (Value.int .u8 c2); (first | refine (KP2.out _).mono ?_ | refine (KP2.out _).mono ?_)) | (go_at_call_of 34 (Value.int .u8 c3); (first | refine (KP3.out _).mono ?_ | refine (KP3.out _).mono ?_)) | fail); rintro r wq ⟨rfl, bq⟩; (first | (have hg := zA bq _ _ _ (heap_alloc_last _ _); have hl := (by first | exact sL.out _ s1 | exact sL.out _ s0)) | have hg := zA bq _ _ _ hg | skip); (try simp only [xH, zM] at hg hl); (first | (have AC := fz (k := 0) hg; have AB := fz (k := 1) hg; have A4 := fz (k := 2) hg; have AD := zJ hg 0 _ rfl; have AE := zJ hg 1 _ rfl; have A5 := zJ hg 2 _ rfl) | skip); have s2 := (by first | exact sS.out _ _ s1 bq | exact sS.out _ _ s0 bq | exact sS.out _ _ (sS.out _ _ s1 (yQ _ _)) bq | exact sS.out _ _ (sS.out _ _ s0 (yQ _ _)) bq); (try clear s1); have s1 := s2; clear s2 bq))
  all_goals
   refine gen_fma_fused_19 (R := fun W gN => (Below w.heap.size w W ∧ W.heap[w.heap.size + 1 + 1]? = some (.cells #[.int .u64 x3, .int .u64 y3] 26) ∧ W.heap[w.heap.size + 1 + 1 + 1]? = some (.cells #[.int .u64 0, .int .u64 0] 26) ∧ W.heap[g2_0]? = some (.cells (pt c1 m1 X1 r1) 54) ∧ W.heap[g2_1]? = some (.cells (pt c2 m2 X2 r2) 54) ∧ W.heap[g2_2]? = some (.cells (pt c3 m3 X3 r3) 54)) ∧ W.heap[gN]? = some (.cells #[.int .u8 p1, .int .u8 p2, .int .u8 p3] 124) ∧ (w.heap.size + 1 + 1 < gN ∧ w.heap.size + 1 + 1 + 1 < gN ∧ g2_0 < gN ∧ g2_1 < gN ∧ g2_2 < gN)) key.out ?_
   first
    | exact ⟨(sT.out _ _ _ _ _ s1 hl), setv3_row hg _ _ _, hl⟩
    | exact ⟨sS.out _ _ s1 (yQ _ _), heap_alloc_last _ _, sL.out _ s1⟩
    | exact ⟨sS.out _ _ s0 (yQ _ _), heap_alloc_last _ _, sL.out _ s0⟩
 rintro w4 g4 ⟨s1, Ae, l4⟩
 have B4 := And.left s1
 have Af := s1.2.1
 have Ad := s1.2.2.1
 have Ag := s1.2.2.2.1
 have Ah := s1.2.2.2.2.1
 have Ai := s1.2.2.2.2.2
 have H4 := zK l4
 clear s0 s1 sS sC sL sT l4
 have Am := (zG Ag).1
 have An := (zG Ah).1
 have Ao := (zG Ai).1
 have Ap := zZ Ae 0 _ rfl
 have Aq := zZ Ae 1 _ rfl
 have Ar := zZ Ae 2 _ rfl
 rcases H.out with ⟨rfl, rfl, KN, rfl⟩ | ⟨rfl, rfl, KN, rfl⟩ | ⟨rfl, KN, rfl⟩ | ⟨rfl, h18, KN, rfl⟩ | ⟨rfl, rfl, h24, h28, KN, rfl⟩ | ⟨rfl, rfl, h27, h28, KN, rfl⟩ | ⟨rfl, h17, h14, h18, h28, KN, rfl⟩ | ⟨rfl, h28, h38, KN, rfl⟩ | ⟨rfl, h18, h38, h19, KN, rfl⟩ | ⟨rfl, rfl, h24, h28, h29, KN, rfl⟩ | ⟨rfl, rfl, h27, h28, h29, KN, rfl⟩ | ⟨rfl, h17, h14, h18, h28, h19, h29, KN, rfl⟩ | ⟨rfl, h24, h28, h38, h29, h39, h37, KI, rfl⟩ | ⟨rfl, h24, h28, h38, h29, h39, rfl, hs, KI, rfl⟩ | ⟨rfl, h24, h28, h38, h29, h39, rfl, hs, KN, rfl⟩ | ⟨rfl, h14, h18, h38, h19, h39, h17, h37, KI, rfl⟩ | ⟨rfl, h14, h18, h38, h19, h39, h17, rfl, hs, KI, rfl⟩ | ⟨rfl, h14, h18, h38, h19, h39, h17, rfl, hs, KN, rfl⟩ | ⟨h18, h28, h19, h29, h17, h27, rfl, rfl, rfl, rfl⟩ | ⟨h18, h28, h19, h29, h17, h27, h38, h39, h37, KT, KL, KK⟩
 ·
  clear H
  go_wp2_with fail
  refine (KN.out _ (z8 FF.out B4)).mono ?_
  rintro r w5 ⟨rfl, b5⟩
  have B5 := zW B4 b5
  obtain ⟨As, Aa, Aj, Ak, Al, Ab⟩ := rws6 b5 Af Ad Ag Ah Ai Ae
  clear b5 B4 Af Ad Ag Am Ah An Ai Ao Ae Ap Aq Ar
  have At := (zG Aj).1
  have Au := (zG Ak).1
  have Av := (zG Al).1
  have Aw := zZ Ab 0 _ rfl
  have Ax := zZ Ab 1 _ rfl
  have Ay := zZ Ab 2 _ rfl
  obtain ⟨Az, AA⟩ := zC Aa
  have q0 := fz (k := 0) Aa
  have q1 := fz (k := 1) Aa
  obtain ⟨E0, E1⟩ := zQ Aa (.int .u64 u) (.int .u64 v)
  go_wp2
  exact bodyPost_ret (v := .tuple #[.agg #[.int .u64 u, .int .u64 v], .int .u8 16, .int .i64 0]) (by simp [results, Tryz.results51, go_sem, E0, E1]) rfl ⟨rfl, zN B5 (by first | exact Nat.le_refl _ | omega | (have := H2.out; have := H4.out; omega)) _ _⟩
 ·
  clear H
  go_wp2_with fail
  refine (KN.out _ (z8 FF.out B4)).mono ?_
  rintro r w5 ⟨rfl, b5⟩
  have B5 := zW B4 b5
  obtain ⟨As, Aa, Aj, Ak, Al, Ab⟩ := rws6 b5 Af Ad Ag Ah Ai Ae
  clear b5 B4 Af Ad Ag Am Ah An Ai Ao Ae Ap Aq Ar
  have At := (zG Aj).1
  have Au := (zG Ak).1
  have Av := (zG Al).1
  have Aw := zZ Ab 0 _ rfl
  have Ax := zZ Ab 1 _ rfl
  have Ay := zZ Ab 2 _ rfl
  obtain ⟨Az, AA⟩ := zC Aa
  have q0 := fz (k := 0) Aa
  have q1 := fz (k := 1) Aa
  obtain ⟨E0, E1⟩ := zQ Aa (.int .u64 u) (.int .u64 v)
  go_wp2
  exact bodyPost_ret (v := .tuple #[.agg #[.int .u64 u, .int .u64 v], .int .u8 16, .int .i64 0]) (by simp [results, Tryz.results51, go_sem, E0, E1]) rfl ⟨rfl, zN B5 (by first | exact Nat.le_refl _ | omega | (have := H2.out; have := H4.out; omega)) _ _⟩
 ·
  clear H
  go_wp2_with fail
  refine (KN.out _ (z8 FF.out B4)).mono ?_
  rintro r w5 ⟨rfl, b5⟩
  have B5 := zW B4 b5
  obtain ⟨As, Aa, Aj, Ak, Al, Ab⟩ := rws6 b5 Af Ad Ag Ah Ai Ae
  clear b5 B4 Af Ad Ag Am Ah An Ai Ao Ae Ap Aq Ar
  have At := (zG Aj).1
  have Au := (zG Ak).1
  have Av := (zG Al).1
  have Aw := zZ Ab 0 _ rfl
  have Ax := zZ Ab 1 _ rfl
  have Ay := zZ Ab 2 _ rfl
  obtain ⟨Az, AA⟩ := zC Aa
  have q0 := fz (k := 0) Aa
  have q1 := fz (k := 1) Aa
  obtain ⟨E0, E1⟩ := zQ Aa (.int .u64 u) (.int .u64 v)
  go_wp2
  exact bodyPost_ret (v := .tuple #[.agg #[.int .u64 u, .int .u64 v], .int .u8 16, .int .i64 0]) (by simp [results, Tryz.results51, go_sem, E0, E1]) rfl ⟨rfl, zN B5 (by first | exact Nat.le_refl _ | omega | (have := H2.out; have := H4.out; omega)) _ _⟩
 ·
  clear H
  go_wp2_with fail
  refine (KN.out _ (z8 FF.out B4)).mono ?_
  rintro r w5 ⟨rfl, b5⟩
  have B5 := zW B4 b5
  obtain ⟨As, Aa, Aj, Ak, Al, Ab⟩ := rws6 b5 Af Ad Ag Ah Ai Ae
  clear b5 B4 Af Ad Ag Am Ah An Ai Ao Ae Ap Aq Ar
  have At := (zG Aj).1
  have Au := (zG Ak).1
  have Av := (zG Al).1
  have Aw := zZ Ab 0 _ rfl
  have Ax := zZ Ab 1 _ rfl
  have Ay := zZ Ab 2 _ rfl
  obtain ⟨Az, AA⟩ := zC Aa
  have q0 := fz (k := 0) Aa
  have q1 := fz (k := 1) Aa
  obtain ⟨E0, E1⟩ := zQ Aa (.int .u64 u) (.int .u64 v)
  go_wp2
  exact bodyPost_ret (v := .tuple #[.agg #[.int .u64 u, .int .u64 v], .int .u8 16, .int .i64 0]) (by simp [results, Tryz.results51, go_sem, E0, E1]) rfl ⟨rfl, zN B5 (by first | exact Nat.le_refl _ | omega | (have := H2.out; have := H4.out; omega)) _ _⟩
 ·
  clear H
  go_wp2_with fail
  refine (KN.out _ (z8 FF.out B4)).mono ?_
  rintro r w5 ⟨rfl, b5⟩
  have B5 := zW B4 b5
  obtain ⟨As, Aa, Aj, Ak, Al, Ab⟩ := rws6 b5 Af Ad Ag Ah Ai Ae
  clear b5 B4 Af Ad Ag Am Ah An Ai Ao Ae Ap Aq Ar
  have At := (zG Aj).1
  have Au := (zG Ak).1
  have Av := (zG Al).1
  have Aw := zZ Ab 0 _ rfl
  have Ax := zZ Ab 1 _ rfl
  have Ay := zZ Ab 2 _ rfl
  obtain ⟨Az, AA⟩ := zC Aa
  have q0 := fz (k := 0) Aa
  have q1 := fz (k := 1) Aa
  obtain ⟨E0, E1⟩ := zQ Aa (.int .u64 u) (.int .u64 v)
  go_wp2
  exact bodyPost_ret (v := .tuple #[.agg #[.int .u64 u, .int .u64 v], .int .u8 16, .int .i64 0]) (by simp [results, Tryz.results51, go_sem, E0, E1]) rfl ⟨rfl, zN B5 (by first | exact Nat.le_refl _ | omega | (have := H2.out; have := H4.out; omega)) _ _⟩
 ·
  clear H
  go_wp2_with fail
  refine (KN.out _ (z8 FF.out B4)).mono ?_
  rintro r w5 ⟨rfl, b5⟩
  have B5 := zW B4 b5
  obtain ⟨As, Aa, Aj, Ak, Al, Ab⟩ := rws6 b5 Af Ad Ag Ah Ai Ae
  clear b5 B4 Af Ad Ag Am Ah An Ai Ao Ae Ap Aq Ar
  have At := (zG Aj).1
  have Au := (zG Ak).1
  have Av := (zG Al).1
  have Aw := zZ Ab 0 _ rfl
  have Ax := zZ Ab 1 _ rfl
  have Ay := zZ Ab 2 _ rfl
  obtain ⟨Az, AA⟩ := zC Aa
  have q0 := fz (k := 0) Aa
  have q1 := fz (k := 1) Aa
  obtain ⟨E0, E1⟩ := zQ Aa (.int .u64 u) (.int .u64 v)
  go_wp2
  exact bodyPost_ret (v := .tuple #[.agg #[.int .u64 u, .int .u64 v], .int .u8 16, .int .i64 0]) (by simp [results, Tryz.results51, go_sem, E0, E1]) rfl ⟨rfl, zN B5 (by first | exact Nat.le_refl _ | omega | (have := H2.out; have := H4.out; omega)) _ _⟩
 ·
  clear H
  go_wp2_with fail
  refine (KN.out _ (z8 FF.out B4)).mono ?_
  rintro r w5 ⟨rfl, b5⟩
  have B5 := zW B4 b5
  obtain ⟨As, Aa, Aj, Ak, Al, Ab⟩ := rws6 b5 Af Ad Ag Ah Ai Ae
  clear b5 B4 Af Ad Ag Am Ah An Ai Ao Ae Ap Aq Ar
  have At := (zG Aj).1
  have Au := (zG Ak).1
  have Av := (zG Al).1
  have Aw := zZ Ab 0 _ rfl
  have Ax := zZ Ab 1 _ rfl
  have Ay := zZ Ab 2 _ rfl
  obtain ⟨Az, AA⟩ := zC Aa
  have q0 := fz (k := 0) Aa
  have q1 := fz (k := 1) Aa
  obtain ⟨E0, E1⟩ := zQ Aa (.int .u64 u) (.int .u64 v)
  go_wp2
  exact bodyPost_ret (v := .tuple #[.agg #[.int .u64 u, .int .u64 v], .int .u8 16, .int .i64 0]) (by simp [results, Tryz.results51, go_sem, E0, E1]) rfl ⟨rfl, zN B5 (by first | exact Nat.le_refl _ | omega | (have := H2.out; have := H4.out; omega)) _ _⟩
 ·
  clear H
  go_wp2_with fail
  refine (KN.out _ (z8 FF.out B4)).mono ?_
  rintro r w5 ⟨rfl, b5⟩
  have B5 := zW B4 b5
  obtain ⟨As, Aa, Aj, Ak, Al, Ab⟩ := rws6 b5 Af Ad Ag Ah Ai Ae
  clear b5 B4 Af Ad Ag Am Ah An Ai Ao Ae Ap Aq Ar
  have At := (zG Aj).1
  have Au := (zG Ak).1
  have Av := (zG Al).1
  have Aw := zZ Ab 0 _ rfl
  have Ax := zZ Ab 1 _ rfl
  have Ay := zZ Ab 2 _ rfl
  obtain ⟨Az, AA⟩ := zC Aa
  have q0 := fz (k := 0) Aa
  have q1 := fz (k := 1) Aa
  obtain ⟨E0, E1⟩ := zQ Aa (.int .u64 u) (.int .u64 v)
  go_wp2
  exact bodyPost_ret (v := .tuple #[.agg #[.int .u64 u, .int .u64 v], .int .u8 0, .int .i64 0]) (by simp [results, Tryz.results51, go_sem, E0, E1]) rfl ⟨rfl, zN B5 (by first | exact Nat.le_refl _ | omega | (have := H2.out; have := H4.out; omega)) _ _⟩
 ·
  clear H
  go_wp2_with fail
  refine (KN.out _ (z8 FF.out B4)).mono ?_
  rintro r w5 ⟨rfl, b5⟩
  have B5 := zW B4 b5
  obtain ⟨As, Aa, Aj, Ak, Al, Ab⟩ := rws6 b5 Af Ad Ag Ah Ai Ae
  clear b5 B4 Af Ad Ag Am Ah An Ai Ao Ae Ap Aq Ar
  have At := (zG Aj).1
  have Au := (zG Ak).1
  have Av := (zG Al).1
  have Aw := zZ Ab 0 _ rfl
  have Ax := zZ Ab 1 _ rfl
  have Ay := zZ Ab 2 _ rfl
  obtain ⟨Az, AA⟩ := zC Aa
  have q0 := fz (k := 0) Aa
  have q1 := fz (k := 1) Aa
  obtain ⟨E0, E1⟩ := zQ Aa (.int .u64 u) (.int .u64 v)
  go_wp2
  exact bodyPost_ret (v := .tuple #[.agg #[.int .u64 u, .int .u64 v], .int .u8 0, .int .i64 0]) (by simp [results, Tryz.results51, go_sem, E0, E1]) rfl ⟨rfl, zN B5 (by first | exact Nat.le_refl _ | omega | (have := H2.out; have := H4.out; omega)) _ _⟩
 ·
  clear H
  go_wp2_with fail
  refine (KN.out _ (z8 FF.out B4)).mono ?_
  rintro r w5 ⟨rfl, b5⟩
  have B5 := zW B4 b5
  obtain ⟨As, Aa, Aj, Ak, Al, Ab⟩ := rws6 b5 Af Ad Ag Ah Ai Ae
  clear b5 B4 Af Ad Ag Am Ah An Ai Ao Ae Ap Aq Ar
  have At := (zG Aj).1
  have Au := (zG Ak).1
  have Av := (zG Al).1
  have Aw := zZ Ab 0 _ rfl
  have Ax := zZ Ab 1 _ rfl
  have Ay := zZ Ab 2 _ rfl
  obtain ⟨Az, AA⟩ := zC Aa
  have q0 := fz (k := 0) Aa
  have q1 := fz (k := 1) Aa
  obtain ⟨E0, E1⟩ := zQ Aa (.int .u64 u) (.int .u64 v)
  go_wp2
  exact bodyPost_ret (v := .tuple #[.agg #[.int .u64 u, .int .u64 v], .int .u8 0, .int .i64 0]) (by simp [results, Tryz.results51, go_sem, E0, E1]) rfl ⟨rfl, zN B5 (by first | exact Nat.le_refl _ | omega | (have := H2.out; have := H4.out; omega)) _ _⟩
 ·
  clear H
  go_wp2_with fail
  refine (KN.out _ (z8 FF.out B4)).mono ?_
  rintro r w5 ⟨rfl, b5⟩
  have B5 := zW B4 b5
  obtain ⟨As, Aa, Aj, Ak, Al, Ab⟩ := rws6 b5 Af Ad Ag Ah Ai Ae
  clear b5 B4 Af Ad Ag Am Ah An Ai Ao Ae Ap Aq Ar
  have At := (zG Aj).1
  have Au := (zG Ak).1
  have Av := (zG Al).1
  have Aw := zZ Ab 0 _ rfl
  have Ax := zZ Ab 1 _ rfl
  have Ay := zZ Ab 2 _ rfl
  obtain ⟨Az, AA⟩ := zC Aa
  have q0 := fz (k := 0) Aa
  have q1 := fz (k := 1) Aa
  obtain ⟨E0, E1⟩ := zQ Aa (.int .u64 u) (.int .u64 v)
  go_wp2
  exact bodyPost_ret (v := .tuple #[.agg #[.int .u64 u, .int .u64 v], .int .u8 0, .int .i64 0]) (by simp [results, Tryz.results51, go_sem, E0, E1]) rfl ⟨rfl, zN B5 (by first | exact Nat.le_refl _ | omega | (have := H2.out; have := H4.out; omega)) _ _⟩
 ·
  clear H
  go_wp2_with fail
  refine (KN.out _ (z8 FF.out B4)).mono ?_
  rintro r w5 ⟨rfl, b5⟩
  have B5 := zW B4 b5
  obtain ⟨As, Aa, Aj, Ak, Al, Ab⟩ := rws6 b5 Af Ad Ag Ah Ai Ae
  clear b5 B4 Af Ad Ag Am Ah An Ai Ao Ae Ap Aq Ar
  have At := (zG Aj).1
  have Au := (zG Ak).1
  have Av := (zG Al).1
  have Aw := zZ Ab 0 _ rfl
  have Ax := zZ Ab 1 _ rfl
  have Ay := zZ Ab 2 _ rfl
  obtain ⟨Az, AA⟩ := zC Aa
  have q0 := fz (k := 0) Aa
  have q1 := fz (k := 1) Aa
  obtain ⟨E0, E1⟩ := zQ Aa (.int .u64 u) (.int .u64 v)
  go_wp2
  exact bodyPost_ret (v := .tuple #[.agg #[.int .u64 u, .int .u64 v], .int .u8 0, .int .i64 0]) (by simp [results, Tryz.results51, go_sem, E0, E1]) rfl ⟨rfl, zN B5 (by first | exact Nat.le_refl _ | omega | (have := H2.out; have := H4.out; omega)) _ _⟩
 ·
  clear H
  go_wp2_with fail
  refine (KI.out _ (z8 FF.out B4)).mono ?_
  rintro r w5 ⟨rfl, b5⟩
  have B5 := zW B4 b5
  obtain ⟨As, Aa, Aj, Ak, Al, Ab⟩ := rws6 b5 Af Ad Ag Ah Ai Ae
  clear b5 B4 Af Ad Ag Am Ah An Ai Ao Ae Ap Aq Ar
  have At := (zG Aj).1
  have Au := (zG Ak).1
  have Av := (zG Al).1
  have Aw := zZ Ab 0 _ rfl
  have Ax := zZ Ab 1 _ rfl
  have Ay := zZ Ab 2 _ rfl
  obtain ⟨Az, AA⟩ := zC Aa
  have q0 := fz (k := 0) Aa
  have q1 := fz (k := 1) Aa
  obtain ⟨E0, E1⟩ := zQ Aa (.int .u64 u) (.int .u64 v)
  go_wp2
  exact bodyPost_ret (v := .tuple #[.agg #[.int .u64 u, .int .u64 v], .int .u8 0, .int .i64 0]) (by simp [results, Tryz.results51, go_sem, E0, E1]) rfl ⟨rfl, zN B5 (by first | exact Nat.le_refl _ | omega | (have := H2.out; have := H4.out; omega)) _ _⟩
 ·
  clear H
  go_wp2_with fail
  refine (KI.out _ (z8 FF.out B4)).mono ?_
  rintro r w5 ⟨rfl, b5⟩
  have B5 := zW B4 b5
  obtain ⟨As, Aa, Aj, Ak, Al, Ab⟩ := rws6 b5 Af Ad Ag Ah Ai Ae
  clear b5 B4 Af Ad Ag Am Ah An Ai Ao Ae Ap Aq Ar
  have At := (zG Aj).1
  have Au := (zG Ak).1
  have Av := (zG Al).1
  have Aw := zZ Ab 0 _ rfl
  have Ax := zZ Ab 1 _ rfl
  have Ay := zZ Ab 2 _ rfl
  obtain ⟨Az, AA⟩ := zC Aa
  have q0 := fz (k := 0) Aa
  have q1 := fz (k := 1) Aa
  obtain ⟨E0, E1⟩ := zQ Aa (.int .u64 u) (.int .u64 v)
  go_wp2
  exact bodyPost_ret (v := .tuple #[.agg #[.int .u64 u, .int .u64 v], .int .u8 0, .int .i64 0]) (by simp [results, Tryz.results51, go_sem, E0, E1]) rfl ⟨rfl, zN B5 (by first | exact Nat.le_refl _ | omega | (have := H2.out; have := H4.out; omega)) _ _⟩
 ·
  clear H
  go_wp2_with fail
  refine (KN.out _ (z8 FF.out B4)).mono ?_
  rintro r w5 ⟨rfl, b5⟩
  have B5 := zW B4 b5
  obtain ⟨As, Aa, Aj, Ak, Al, Ab⟩ := rws6 b5 Af Ad Ag Ah Ai Ae
  clear b5 B4 Af Ad Ag Am Ah An Ai Ao Ae Ap Aq Ar
  have At := (zG Aj).1
  have Au := (zG Ak).1
  have Av := (zG Al).1
  have Aw := zZ Ab 0 _ rfl
  have Ax := zZ Ab 1 _ rfl
  have Ay := zZ Ab 2 _ rfl
  obtain ⟨Az, AA⟩ := zC Aa
  have q0 := fz (k := 0) Aa
  have q1 := fz (k := 1) Aa
  obtain ⟨E0, E1⟩ := zQ Aa (.int .u64 u) (.int .u64 v)
  go_wp2
  exact bodyPost_ret (v := .tuple #[.agg #[.int .u64 u, .int .u64 v], .int .u8 16, .int .i64 0]) (by simp [results, Tryz.results51, go_sem, E0, E1]) rfl ⟨rfl, zN B5 (by first | exact Nat.le_refl _ | omega | (have := H2.out; have := H4.out; omega)) _ _⟩
 ·
  clear H
  go_wp2_with fail
  refine (KI.out _ (z8 FF.out B4)).mono ?_
  rintro r w5 ⟨rfl, b5⟩
  have B5 := zW B4 b5
  obtain ⟨As, Aa, Aj, Ak, Al, Ab⟩ := rws6 b5 Af Ad Ag Ah Ai Ae
  clear b5 B4 Af Ad Ag Am Ah An Ai Ao Ae Ap Aq Ar
  have At := (zG Aj).1
  have Au := (zG Ak).1
  have Av := (zG Al).1
  have Aw := zZ Ab 0 _ rfl
  have Ax := zZ Ab 1 _ rfl
  have Ay := zZ Ab 2 _ rfl
  obtain ⟨Az, AA⟩ := zC Aa
  have q0 := fz (k := 0) Aa
  have q1 := fz (k := 1) Aa
  obtain ⟨E0, E1⟩ := zQ Aa (.int .u64 u) (.int .u64 v)
  go_wp2
  exact bodyPost_ret (v := .tuple #[.agg #[.int .u64 u, .int .u64 v], .int .u8 0, .int .i64 0]) (by simp [results, Tryz.results51, go_sem, E0, E1]) rfl ⟨rfl, zN B5 (by first | exact Nat.le_refl _ | omega | (have := H2.out; have := H4.out; omega)) _ _⟩
 ·
  clear H
  go_wp2_with fail
  refine (KI.out _ (z8 FF.out B4)).mono ?_
  rintro r w5 ⟨rfl, b5⟩
  have B5 := zW B4 b5
  obtain ⟨As, Aa, Aj, Ak, Al, Ab⟩ := rws6 b5 Af Ad Ag Ah Ai Ae
  clear b5 B4 Af Ad Ag Am Ah An Ai Ao Ae Ap Aq Ar
  have At := (zG Aj).1
  have Au := (zG Ak).1
  have Av := (zG Al).1
  have Aw := zZ Ab 0 _ rfl
  have Ax := zZ Ab 1 _ rfl
  have Ay := zZ Ab 2 _ rfl
  obtain ⟨Az, AA⟩ := zC Aa
  have q0 := fz (k := 0) Aa
  have q1 := fz (k := 1) Aa
  obtain ⟨E0, E1⟩ := zQ Aa (.int .u64 u) (.int .u64 v)
  go_wp2
  exact bodyPost_ret (v := .tuple #[.agg #[.int .u64 u, .int .u64 v], .int .u8 0, .int .i64 0]) (by simp [results, Tryz.results51, go_sem, E0, E1]) rfl ⟨rfl, zN B5 (by first | exact Nat.le_refl _ | omega | (have := H2.out; have := H4.out; omega)) _ _⟩
 ·
  clear H
  go_wp2_with fail
  refine (KN.out _ (z8 FF.out B4)).mono ?_
  rintro r w5 ⟨rfl, b5⟩
  have B5 := zW B4 b5
  obtain ⟨As, Aa, Aj, Ak, Al, Ab⟩ := rws6 b5 Af Ad Ag Ah Ai Ae
  clear b5 B4 Af Ad Ag Am Ah An Ai Ao Ae Ap Aq Ar
  have At := (zG Aj).1
  have Au := (zG Ak).1
  have Av := (zG Al).1
  have Aw := zZ Ab 0 _ rfl
  have Ax := zZ Ab 1 _ rfl
  have Ay := zZ Ab 2 _ rfl
  obtain ⟨Az, AA⟩ := zC Aa
  have q0 := fz (k := 0) Aa
  have q1 := fz (k := 1) Aa
  obtain ⟨E0, E1⟩ := zQ Aa (.int .u64 u) (.int .u64 v)
  go_wp2
  exact bodyPost_ret (v := .tuple #[.agg #[.int .u64 u, .int .u64 v], .int .u8 16, .int .i64 0]) (by simp [results, Tryz.results51, go_sem, E0, E1]) rfl ⟨rfl, zN B5 (by first | exact Nat.le_refl _ | omega | (have := H2.out; have := H4.out; omega)) _ _⟩
 ·
  clear H
  obtain ⟨BB, BC⟩ := zC Af
  obtain ⟨BD, BE⟩ := zC Ad
  have q0 := fz (k := 0) Ad
  have q1 := fz (k := 1) Ad
  obtain ⟨E0, E1⟩ := zQ Ad (.int .u64 x3) (.int .u64 y3)
  go_wp2
  exact bodyPost_ret (v := .tuple #[.agg #[.int .u64 x3, .int .u64 y3], .int .u8 0, .int .i64 0]) (by simp [results, Tryz.results51, go_sem, E0, E1]) rfl ⟨rfl, zN B4 (by first | exact Nat.le_refl _ | omega | (have := H2.out; have := H4.out; omega)) _ _⟩
 ·
  clear H
  have hat := yD 6
  have hz := yZ
  have hff := yY
  have hs0 := q8
  have hcs : ∀ x, ((cw 6 x).size = 6) = True := fun x => eq_true (z7 6 x)
  have hp1 := rgf
  have hp3 := rgz
  have hzi := cw_zip
  have hls := rg_sets
  have hp5 : ∀ (c : Bool) (s : Nat) (x : Int) (r : Bool), ((rg c s x r).size = 9) = True := fun _ _ _ _ => eq_true rfl
  have AB := ptf
  have AW := ptz
  have AX : ∀ (c s : Nat) (x : Int) (r : Nat), ((pt c s x r).size = 14) = True := fun _ _ _ _ => eq_true rfl
  have hb1 := fb_lt1
  have hb8 := fb_lt8
  have hb9 := fb_lt9
  have hbn := fb_ne
  have hbb := fb_bld
  have hsz := zM
  clear Af 
  have sS : zR (∀ W W1 : World, (Below w.heap.size w W ∧ W.heap[g2_0]? = some (.cells (pt c1 m1 X1 r1) 54) ∧ W.heap[g2_1]? = some (.cells (pt c2 m2 X2 r2) 54) ∧ W.heap[g2_2]? = some (.cells (pt c3 m3 X3 r3) 54) ∧ W.heap[g4]? = some (.cells #[.int .u8 p1, .int .u8 p2, .int .u8 p3] 124)) → Below W.heap.size W W1 → (Below w.heap.size w W1 ∧ W1.heap[g2_0]? = some (.cells (pt c1 m1 X1 r1) 54) ∧ W1.heap[g2_1]? = some (.cells (pt c2 m2 X2 r2) 54) ∧ W1.heap[g2_2]? = some (.cells (pt c3 m3 X3 r3) 54) ∧ W1.heap[g4]? = some (.cells #[.int .u8 p1, .int .u8 p2, .int .u8 p3] 124))) := zK (fun W W1 h b => ⟨zW h.1 b, zA b _ _ _ h.2.1, zA b _ _ _ h.2.2.1, zA b _ _ _ h.2.2.2.1, zA b _ _ _ h.2.2.2.2⟩)
  have HH := zK (And.intro H2.out H4.out)
  have sT : zR (∀ (W : World) (xA xB : Value), (Below w.heap.size w W ∧ W.heap[g2_0]? = some (.cells (pt c1 m1 X1 r1) 54) ∧ W.heap[g2_1]? = some (.cells (pt c2 m2 X2 r2) 54) ∧ W.heap[g2_2]? = some (.cells (pt c3 m3 X3 r3) 54) ∧ W.heap[g4]? = some (.cells #[.int .u8 p1, .int .u8 p2, .int .u8 p3] 124)) → (Below w.heap.size w ((W.setCell ⟨w.heap.size + 1 + 1 + 1, 0, none⟩ xA).setCell ⟨w.heap.size + 1 + 1 + 1, 1, none⟩ xB) ∧ ((W.setCell ⟨w.heap.size + 1 + 1 + 1, 0, none⟩ xA).setCell ⟨w.heap.size + 1 + 1 + 1, 1, none⟩ xB).heap[g2_0]? = some (.cells (pt c1 m1 X1 r1) 54) ∧ ((W.setCell ⟨w.heap.size + 1 + 1 + 1, 0, none⟩ xA).setCell ⟨w.heap.size + 1 + 1 + 1, 1, none⟩ xB).heap[g2_1]? = some (.cells (pt c2 m2 X2 r2) 54) ∧ ((W.setCell ⟨w.heap.size + 1 + 1 + 1, 0, none⟩ xA).setCell ⟨w.heap.size + 1 + 1 + 1, 1, none⟩ xB).heap[g2_2]? = some (.cells (pt c3 m3 X3 r3) 54) ∧ ((W.setCell ⟨w.heap.size + 1 + 1 + 1, 0, none⟩ xA).setCell ⟨w.heap.size + 1 + 1 + 1, 1, none⟩ xB).heap[g4]? = some (.cells #[.int .u8 p1, .int .u8 p2, .int .u8 p3] 124))) := zK (fun W xA xB h => ⟨zN h.1 (by first | exact Nat.le_refl _ | omega | (have := HH.out; omega)) xA xB, ((zH (by first | omega | (have := HH.out; omega))).trans ((zH (by first | omega | (have := HH.out; omega))).trans h.2.1)), ((zH (by first | omega | (have := HH.out; omega))).trans ((zH (by first | omega | (have := HH.out; omega))).trans h.2.2.1)), ((zH (by first | omega | (have := HH.out; omega))).trans ((zH (by first | omega | (have := HH.out; omega))).trans h.2.2.2.1)), ((zH (by first | omega | (have := HH.out; omega))).trans ((zH (by first | omega | (have := HH.out; omega))).trans h.2.2.2.2))⟩)
  have sC : zR (∀ W : World, (Below w.heap.size w W ∧ W.heap[g2_0]? = some (.cells (pt c1 m1 X1 r1) 54) ∧ W.heap[g2_1]? = some (.cells (pt c2 m2 X2 r2) 54) ∧ W.heap[g2_2]? = some (.cells (pt c3 m3 X3 r3) 54) ∧ W.heap[g4]? = some (.cells #[.int .u8 p1, .int .u8 p2, .int .u8 p3] 124)) → (Below w.heap.size w W ∧ W.heap[g2_0]? = some (.cells (pt c1 m1 X1 r1) 54) ∧ W.heap[g2_1]? = some (.cells (pt c2 m2 X2 r2) 54) ∧ W.heap[g2_2]? = some (.cells (pt c3 m3 X3 r3) 54) ∧ W.heap[g4]? = some (.cells #[.int .u8 p1, .int .u8 p2, .int .u8 p3] 124) ∧ W.cell? ⟨g2_0, 0, none⟩ = some (.int .u8 c1) ∧ W.cell? ⟨g2_0, 1, none⟩ = some (.int .u64 (wd m1 0)) ∧ W.cell? ⟨g2_0, 2, none⟩ = some (.int .u64 (wd m1 1)) ∧ W.cell? ⟨g2_0, 3, none⟩ = some (.int .u64 (wd m1 2)) ∧ W.cell? ⟨g2_0, 4, none⟩ = some (.int .u64 (wd m1 3)) ∧ W.cell? ⟨g2_0, 5, none⟩ = some (.int .u64 (wd m1 4)) ∧ W.cell? ⟨g2_0, 6, none⟩ = some (.int .u64 (wd m1 5)) ∧ W.cell? ⟨g2_0, 7, none⟩ = some (.int .i64 X1) ∧ W.cell? ⟨g2_0, 8, none⟩ = some (.int .u64 (wd r1 0)) ∧ W.cell? ⟨g2_0, 9, none⟩ = some (.int .u64 (wd r1 1)) ∧ W.cell? ⟨g2_0, 10, none⟩ = some (.int .u64 (wd r1 2)) ∧ W.cell? ⟨g2_0, 11, none⟩ = some (.int .u64 (wd r1 3)) ∧ W.cell? ⟨g2_0, 12, none⟩ = some (.int .u64 (wd r1 4)) ∧ W.cell? ⟨g2_0, 13, none⟩ = some (.int .u64 (wd r1 5)) ∧ W.cell? ⟨g2_1, 0, none⟩ = some (.int .u8 c2) ∧ W.cell? ⟨g2_1, 1, none⟩ = some (.int .u64 (wd m2 0)) ∧ W.cell? ⟨g2_1, 2, none⟩ = some (.int .u64 (wd m2 1)) ∧ W.cell? ⟨g2_1, 3, none⟩ = some (.int .u64 (wd m2 2)) ∧ W.cell? ⟨g2_1, 4, none⟩ = some (.int .u64 (wd m2 3)) ∧ W.cell? ⟨g2_1, 5, none⟩ = some (.int .u64 (wd m2 4)) ∧ W.cell? ⟨g2_1, 6, none⟩ = some (.int .u64 (wd m2 5)) ∧ W.cell? ⟨g2_1, 7, none⟩ = some (.int .i64 X2) ∧ W.cell? ⟨g2_1, 8, none⟩ = some (.int .u64 (wd r2 0)) ∧ W.cell? ⟨g2_1, 9, none⟩ = some (.int .u64 (wd r2 1)) ∧ W.cell? ⟨g2_1, 10, none⟩ = some (.int .u64 (wd r2 2)) ∧ W.cell? ⟨g2_1, 11, none⟩ = some (.int .u64 (wd r2 3)) ∧ W.cell? ⟨g2_1, 12, none⟩ = some (.int .u64 (wd r2 4)) ∧ W.cell? ⟨g2_1, 13, none⟩ = some (.int .u64 (wd r2 5)) ∧ W.cell? ⟨g2_2, 0, none⟩ = some (.int .u8 c3) ∧ W.cell? ⟨g2_2, 1, none⟩ = some (.int .u64 (wd m3 0)) ∧ W.cell? ⟨g2_2, 2, none⟩ = some (.int .u64 (wd m3 1)) ∧ W.cell? ⟨g2_2, 3, none⟩ = some (.int .u64 (wd m3 2)) ∧ W.cell? ⟨g2_2, 4, none⟩ = some (.int .u64 (wd m3 3)) ∧ W.cell? ⟨g2_2, 5, none⟩ = some (.int .u64 (wd m3 4)) ∧ W.cell? ⟨g2_2, 6, none⟩ = some (.int .u64 (wd m3 5)) ∧ W.cell? ⟨g2_2, 7, none⟩ = some (.int .i64 X3) ∧ W.cell? ⟨g2_2, 8, none⟩ = some (.int .u64 (wd r3 0)) ∧ W.cell? ⟨g2_2, 9, none⟩ = some (.int .u64 (wd r3 1)) ∧ W.cell? ⟨g2_2, 10, none⟩ = some (.int .u64 (wd r3 2)) ∧ W.cell? ⟨g2_2, 11, none⟩ = some (.int .u64 (wd r3 3)) ∧ W.cell? ⟨g2_2, 12, none⟩ = some (.int .u64 (wd r3 4)) ∧ W.cell? ⟨g2_2, 13, none⟩ = some (.int .u64 (wd r3 5)))) := zK (fun W h => ⟨h.1, h.2.1, h.2.2.1, h.2.2.2.1, h.2.2.2.2, zJ (h.2.1) 0 _ rfl, zJ (h.2.1) 1 _ rfl, zJ (h.2.1) 2 _ rfl, zJ (h.2.1) 3 _ rfl, zJ (h.2.1) 4 _ rfl, zJ (h.2.1) 5 _ rfl, zJ (h.2.1) 6 _ rfl, zJ (h.2.1) 7 _ rfl, zJ (h.2.1) 8 _ rfl, zJ (h.2.1) 9 _ rfl, zJ (h.2.1) 10 _ rfl, zJ (h.2.1) 11 _ rfl, zJ (h.2.1) 12 _ rfl, zJ (h.2.1) 13 _ rfl, zJ (h.2.2.1) 0 _ rfl, zJ (h.2.2.1) 1 _ rfl, zJ (h.2.2.1) 2 _ rfl, zJ (h.2.2.1) 3 _ rfl, zJ (h.2.2.1) 4 _ rfl, zJ (h.2.2.1) 5 _ rfl, zJ (h.2.2.1) 6 _ rfl, zJ (h.2.2.1) 7 _ rfl, zJ (h.2.2.1) 8 _ rfl, zJ (h.2.2.1) 9 _ rfl, zJ (h.2.2.1) 10 _ rfl, zJ (h.2.2.1) 11 _ rfl, zJ (h.2.2.1) 12 _ rfl, zJ (h.2.2.1) 13 _ rfl, zJ (h.2.2.2.1) 0 _ rfl, zJ (h.2.2.2.1) 1 _ rfl, zJ (h.2.2.2.1) 2 _ rfl, zJ (h.2.2.2.1) 3 _ rfl, zJ (h.2.2.2.1) 4 _ rfl, zJ (h.2.2.2.1) 5 _ rfl, zJ (h.2.2.2.1) 6 _ rfl, zJ (h.2.2.2.1) 7 _ rfl, zJ (h.2.2.2.1) 8 _ rfl, zJ (h.2.2.2.1) 9 _ rfl, zJ (h.2.2.2.1) 10 _ rfl, zJ (h.2.2.2.1) 11 _ rfl, zJ (h.2.2.2.1) 12 _ rfl, zJ (h.2.2.2.1) 13 _ rfl⟩)
  have s0 : Below w.heap.size w (w4).drew ∧ (w4).drew.heap[g2_0]? = some (.cells (pt c1 m1 X1 r1) 54) ∧ (w4).drew.heap[g2_1]? = some (.cells (pt c2 m2 X2 r2) 54) ∧ (w4).drew.heap[g2_2]? = some (.cells (pt c3 m3 X3 r3) 54) ∧ (w4).drew.heap[g4]? = some (.cells #[.int .u8 p1, .int .u8 p2, .int .u8 p3] 124) := ⟨B4.drew, Ag, Ah, Ai, Ae⟩
  have rz : (w4).drew.heap[w.heap.size + 1 + 1 + 1]? = some (.cells #[.int .u64 0, .int .u64 0] 26) := Ad
  have AC := fz (k := 0) rz
  have AB := fz (k := 1) rz
  have AD := zJ rz 0 _ rfl
  have AE := zJ rz 1 _ rfl
  go_wp2_with fail
  go_region_held3 (fun W => Below w.heap.size w W ∧ W.heap[g2_0]? = some (.cells (pt c1 m1 X1 r1) 54) ∧ W.heap[g2_1]? = some (.cells (pt c2 m2 X2 r2) 54) ∧ W.heap[g2_2]? = some (.cells (pt c3 m3 X3 r3) 54) ∧ W.heap[g4]? = some (.cells #[.int .u8 p1, .int .u8 p2, .int .u8 p3] 124) ∧ W.cell? ⟨g2_0, 0, none⟩ = some (.int .u8 c1) ∧ W.cell? ⟨g2_0, 1, none⟩ = some (.int .u64 (wd m1 0)) ∧ W.cell? ⟨g2_0, 2, none⟩ = some (.int .u64 (wd m1 1)) ∧ W.cell? ⟨g2_0, 3, none⟩ = some (.int .u64 (wd m1 2)) ∧ W.cell? ⟨g2_0, 4, none⟩ = some (.int .u64 (wd m1 3)) ∧ W.cell? ⟨g2_0, 5, none⟩ = some (.int .u64 (wd m1 4)) ∧ W.cell? ⟨g2_0, 6, none⟩ = some (.int .u64 (wd m1 5)) ∧ W.cell? ⟨g2_0, 7, none⟩ = some (.int .i64 X1) ∧ W.cell? ⟨g2_0, 8, none⟩ = some (.int .u64 (wd r1 0)) ∧ W.cell? ⟨g2_0, 9, none⟩ = some (.int .u64 (wd r1 1)) ∧ W.cell? ⟨g2_0, 10, none⟩ = some (.int .u64 (wd r1 2)) ∧ W.cell? ⟨g2_0, 11, none⟩ = some (.int .u64 (wd r1 3)) ∧ W.cell? ⟨g2_0, 12, none⟩ = some (.int .u64 (wd r1 4)) ∧ W.cell? ⟨g2_0, 13, none⟩ = some (.int .u64 (wd r1 5)) ∧ W.cell? ⟨g2_1, 0, none⟩ = some (.int .u8 c2) ∧ W.cell? ⟨g2_1, 1, none⟩ = some (.int .u64 (wd m2 0)) ∧ W.cell? ⟨g2_1, 2, none⟩ = some (.int .u64 (wd m2 1)) ∧ W.cell? ⟨g2_1, 3, none⟩ = some (.int .u64 (wd m2 2)) ∧ W.cell? ⟨g2_1, 4, none⟩ = some (.int .u64 (wd m2 3)) ∧ W.cell? ⟨g2_1, 5, none⟩ = some (.int .u64 (wd m2 4)) ∧ W.cell? ⟨g2_1, 6, none⟩ = some (.int .u64 (wd m2 5)) ∧ W.cell? ⟨g2_1, 7, none⟩ = some (.int .i64 X2) ∧ W.cell? ⟨g2_1, 8, none⟩ = some (.int .u64 (wd r2 0)) ∧ W.cell? ⟨g2_1, 9, none⟩ = some (.int .u64 (wd r2 1)) ∧ W.cell? ⟨g2_1, 10, none⟩ = some (.int .u64 (wd r2 2)) ∧ W.cell? ⟨g2_1, 11, none⟩ = some (.int .u64 (wd r2 3)) ∧ W.cell? ⟨g2_1, 12, none⟩ = some (.int .u64 (wd r2 4)) ∧ W.cell? ⟨g2_1, 13, none⟩ = some (.int .u64 (wd r2 5)) ∧ W.cell? ⟨g2_2, 0, none⟩ = some (.int .u8 c3) ∧ W.cell? ⟨g2_2, 1, none⟩ = some (.int .u64 (wd m3 0)) ∧ W.cell? ⟨g2_2, 2, none⟩ = some (.int .u64 (wd m3 1)) ∧ W.cell? ⟨g2_2, 3, none⟩ = some (.int .u64 (wd m3 2)) ∧ W.cell? ⟨g2_2, 4, none⟩ = some (.int .u64 (wd m3 3)) ∧ W.cell? ⟨g2_2, 5, none⟩ = some (.int .u64 (wd m3 4)) ∧ W.cell? ⟨g2_2, 6, none⟩ = some (.int .u64 (wd m3 5)) ∧ W.cell? ⟨g2_2, 7, none⟩ = some (.int .i64 X3) ∧ W.cell? ⟨g2_2, 8, none⟩ = some (.int .u64 (wd r3 0)) ∧ W.cell? ⟨g2_2, 9, none⟩ = some (.int .u64 (wd r3 1)) ∧ W.cell? ⟨g2_2, 10, none⟩ = some (.int .u64 (wd r3 2)) ∧ W.cell? ⟨g2_2, 11, none⟩ = some (.int .u64 (wd r3 3)) ∧ W.cell? ⟨g2_2, 12, none⟩ = some (.int .u64 (wd r3 4)) ∧ W.cell? ⟨g2_2, 13, none⟩ = some (.int .u64 (wd r3 5))) (first | exact sC.out _ s1 | exact sC.out _ s0 | exact sC.out _ (sT.out _ _ _ s1) | exact sC.out _ (sT.out _ _ _ s0))
   (((first | (go_at_call 107; refine (KT.out _).mono ?_) | (go_at_call 106; refine (KL.out _).mono ?_) | (go_at_call 37; (first | refine (KK.out _ (z8 FF.out (And.left s1))).mono ?_ | refine (KK.out _ (z8 FF.out (And.left s0))).mono ?_)) | fail); rintro r wq ⟨rfl, bq⟩; (first | have s1 := sS.out _ _ s1 bq | have s1 := sS.out _ _ s0 bq); have rz := zA bq _ _ _ rz; have AC := fz (k := 0) rz; have AD := zJ rz 0 _ rfl; have AB := fz (k := 1) rz; have AE := zJ rz 1 _ rfl; clear bq))
  obtain ⟨E0, E1⟩ := zQ rz (.int .u64 u) (.int .u64 v)
  have BZ := (by first | exact And.left s1 | exact And.left s0 : Below w.heap.size w _)
  go_wp2
  exact bodyPost_ret (v := .tuple #[.agg #[.int .u64 u, .int .u64 v], .int .u8 fl, .int .i64 0]) (by simp [results, Tryz.results51, go_sem, E0, E1]) rfl ⟨rfl, zN BZ (by first | exact Nat.le_refl _ | omega | (have := H2.out; have := H4.out; omega)) _ _⟩
theorem fm_MulAdd_no (f m : Int) (x1 y1 x2 y2 x3 y3 : Nat) (w : World)
  (KF : zR (∀ (T : TypeId) (g : Nat) (w : World), w.heap.size = g → yN w → Calls Tryz.prog 32 #[.int .u8 f, .int .u8 m, .slice (some ⟨g, 0, none⟩) 3 3] (w.alloc (.cells #[.int .u64 x1, .int .u64 y1, .int .u64 x2, .int .u64 y2, .int .u64 x3, .int .u64 y3] T)) fun r w' => r = .returned (.bool false) ∧ Below w.heap.size w w'))
  (hT : yN w) : Calls Tryz.prog 12 #[.int .u8 f, .int .u8 m, .agg #[.int .u64 x1, .int .u64 y1], .agg #[.int .u64 x2, .int .u64 y2], .agg #[.int .u64 x3, .int .u64 y3]] w fun r w' => r = .returned (.tuple #[.agg #[.int .u64 0, .int .u64 0], .int .u8 0, .int .i64 2]) ∧ Below w.heap.size w w' := by
 have FF := zK hT
 clear hT
 obtain ⟨Ab, Ac, Ad, Ae, B0⟩ := opn4 w (Obj.cells #[.int .u64 x1, .int .u64 y1] 26) (Obj.cells #[.int .u64 x2, .int .u64 y2] 26) (Obj.cells #[.int .u64 x3, .int .u64 y3] 26) (Obj.cells #[.int .u64 0, .int .u64 0] 26)
 go_enter Tryz.func12, Tryz.ntmps12
 obtain ⟨Af, Ag⟩ := zC Ab
 obtain ⟨Ah, Ai⟩ := zC Ac
 obtain ⟨Aj, Ak⟩ := zC Ad
 go_wp2_with fail
 refine (KF.out _ _ ((((w.alloc (Obj.cells #[.int .u64 x1, .int .u64 y1] 26)).alloc (Obj.cells #[.int .u64 x2, .int .u64 y2] 26)).alloc (Obj.cells #[.int .u64 x3, .int .u64 y3] 26)).alloc (Obj.cells #[.int .u64 0, .int .u64 0] 26)) (by first | rfl | simp only [zM]) (z8 FF.out B0)).mono ?_
 rintro r w1 ⟨rfl, b1⟩
 have B1 := zW B0 b1
 obtain ⟨Al, Am, An, Aa⟩ := rws4 b1 Ab Ac Ad Ae
 clear b1 B0 Ab Af Ag Ac Ah Ai Ad Aj Ak Ae
 obtain ⟨Ao, Ap⟩ := zC Al
 obtain ⟨Aq, Ar⟩ := zC Am
 obtain ⟨As, At⟩ := zC An
 obtain ⟨Au, Av⟩ := zC Aa
 have q0 := fz (k := 0) Aa
 have q1 := fz (k := 1) Aa
 obtain ⟨E0, E1⟩ := zQ Aa (.int .u64 0) (.int .u64 0)
 go_wp2
 exact bodyPost_ret (v := .tuple #[.agg #[.int .u64 0, .int .u64 0], .int .u8 0, .int .i64 2]) (by simp [results, Tryz.results12, go_sem, E0, E1]) rfl ⟨rfl, zN B1 (by first | exact Nat.le_refl _ | omega | (skip; omega)) _ _⟩
theorem fm_MulAdd_yes (f m : Int) (x1 y1 x2 y2 x3 y3 u v : Nat) (fl : Int) (w : World)
  (KF : zR (∀ (T : TypeId) (g : Nat) (w : World), w.heap.size = g → yN w → Calls Tryz.prog 32 #[.int .u8 f, .int .u8 m, .slice (some ⟨g, 0, none⟩) 3 3] (w.alloc (.cells #[.int .u64 x1, .int .u64 y1, .int .u64 x2, .int .u64 y2, .int .u64 x3, .int .u64 y3] T)) fun r w' => r = .returned (.bool true) ∧ Below w.heap.size w w'))
  (KX : zR (∀ w, yN w → Calls Tryz.prog 51 #[.int .u8 f, .int .u8 m, .agg #[.int .u64 x1, .int .u64 y1], .agg #[.int .u64 x2, .int .u64 y2], .agg #[.int .u64 x3, .int .u64 y3]] w fun r w' => r = .returned (.tuple #[.agg #[.int .u64 u, .int .u64 v], .int .u8 fl, .int .i64 0]) ∧ Below w.heap.size w w'))
  (hT : yN w) : Calls Tryz.prog 12 #[.int .u8 f, .int .u8 m, .agg #[.int .u64 x1, .int .u64 y1], .agg #[.int .u64 x2, .int .u64 y2], .agg #[.int .u64 x3, .int .u64 y3]] w fun r w' => r = .returned (.tuple #[.agg #[.int .u64 u, .int .u64 v], .int .u8 fl, .int .i64 0]) ∧ Below w.heap.size w w' := by
 have FF := zK hT
 clear hT
 obtain ⟨Ab, Ac, Ad, Ah, B0⟩ := opn4 w (Obj.cells #[.int .u64 x1, .int .u64 y1] 26) (Obj.cells #[.int .u64 x2, .int .u64 y2] 26) (Obj.cells #[.int .u64 x3, .int .u64 y3] 26) (Obj.cells #[.int .u64 0, .int .u64 0] 26)
 go_enter Tryz.func12, Tryz.ntmps12
 obtain ⟨Aj, Ak⟩ := zC Ab
 obtain ⟨Al, Am⟩ := zC Ac
 obtain ⟨An, Ao⟩ := zC Ad
 go_wp2_with fail
 refine (KF.out _ _ ((((w.alloc (Obj.cells #[.int .u64 x1, .int .u64 y1] 26)).alloc (Obj.cells #[.int .u64 x2, .int .u64 y2] 26)).alloc (Obj.cells #[.int .u64 x3, .int .u64 y3] 26)).alloc (Obj.cells #[.int .u64 0, .int .u64 0] 26)) (by first | rfl | simp only [zM]) (z8 FF.out B0)).mono ?_
 rintro r w1 ⟨rfl, b1⟩
 have B1 := zW B0 b1
 obtain ⟨Ae, Af, Ag, Ai⟩ := rws4 b1 Ab Ac Ad Ah
 clear b1 B0 Ab Aj Ak Ac Al Am Ad An Ao Ah
 obtain ⟨Ap, Aq⟩ := zC Ae
 obtain ⟨Ar, As⟩ := zC Af
 obtain ⟨At, Au⟩ := zC Ag
 go_wp2_with fail
 refine (KX.out _ (z8 FF.out B1)).mono ?_
 rintro r w2 ⟨rfl, b2⟩
 have B2 := zW B1 b2
 obtain ⟨Av, Aw, Ax, Aa⟩ := rws4 b2 Ae Af Ag Ai
 clear b2 B1 Ae Ap Aq Af Ar As Ag At Au Ai
 obtain ⟨Ay, Az⟩ := zC Av
 obtain ⟨AA, AB⟩ := zC Aw
 obtain ⟨AC, AD⟩ := zC Ax
 obtain ⟨AE, AF⟩ := zC Aa
 have q0 := fz (k := 0) Aa
 have q1 := fz (k := 1) Aa
 obtain ⟨E0, E1⟩ := zQ Aa (.int .u64 u) (.int .u64 v)
 go_wp2
 exact bodyPost_ret (v := .tuple #[.agg #[.int .u64 u, .int .u64 v], .int .u8 fl, .int .i64 0]) (by simp [results, Tryz.results12, go_sem, E0, E1]) rfl ⟨rfl, zN B2 (by first | exact Nat.le_refl _ | omega | (skip; omega)) _ _⟩
end Go.Proofs.YtapikkbifdldfaaGreatDoor
