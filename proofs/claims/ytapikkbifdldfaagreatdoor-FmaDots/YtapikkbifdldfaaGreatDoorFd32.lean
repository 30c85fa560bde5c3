/-
  What the functions that the statement reaches return: part 32 (FB).
-/
import Derived.Laws.MakeOwn
import Derived.Test.YtapikkbifdldfaaGreatDoorFd31
namespace Go.Proofs.YtapikkbifdldfaaGreatDoor
set_option maxRecDepth 100000
set_option maxHeartbeats 40000000
set_option maxRecDepth 100000
open Go.RowKit WMath
set_option linter.unusedSimpArgs false
set_option linter.unusedVariables false
theorem gen_fma_fused_14_15_16 {X : Act → World → Prop} {R : World → Nat → Nat → Nat → Prop} {t0 t1 t2 t3 t4 t5 t6 t7 t8 t9 t10 t11 t12 t13 t17 t18 t19 t20 t21 t22 t23 t24 t25 t26 t27 t28 t29 t30 t31 t32 t33 t34 t35 t36 t37 t38 t39 t40 t41 t42 t43 t44 t45 t46 t47 t48 t49 t50 t51 t52 t53 t54 t55 t56 t57 t58 t59 t60 t61 t62 t63 t64 t65 t66 t67 t68 t69 t70 t71 t72 t73 t74 t75 t76 t77 t78 t79 t80 t81 t82 t83 t84 t85 t86 t87 t88 t89 t90 t91 t92 t93 t94 t95 t96 t97 t98 t99 t100 t101 t102 t103 t104 t105 t106 t107 t108 t109 t110 t111 t112 t113 t114 t115 t116 t117 t118 t119 t120 t121 t122 t123 t124 t125 t126 t127 t128 t129 t130 t131 t132 t133 t134 t135 t136 t137 t138 t139 t140 t141 t142 t143 t144 t145 t146 t147 t148 t149 t150 t151 t152 t153 t154 t155 t156 t157 t158 t159 t160 : Value} {d : List Deferred} {W : World} {G1 G2 G3 : Nat}
    (key : ∀ w5 g1 g2 g3, R w5 g1 g2 g3 → X ⟨#[t0, t1, t2, t3, t4, t5, t6, t7, t8, t9, t10, t11, t12, t13, .pointer (some ⟨g1, 0, none⟩), .pointer (some ⟨g2, 0, none⟩), .pointer (some ⟨g3, 0, none⟩), t17, t18, t19, t20, t21, t22, t23, t24, t25, t26, t27, t28, t29, t30, t31, t32, t33, t34, t35, t36, t37, t38, t39, t40, t41, t42, t43, t44, t45, t46, t47, t48, t49, t50, t51, t52, t53, t54, t55, t56, t57, t58, t59, t60, t61, t62, t63, t64, t65, t66, t67, t68, t69, t70, t71, t72, t73, t74, t75, t76, t77, t78, t79, t80, t81, t82, t83, t84, t85, t86, t87, t88, t89, t90, t91, t92, t93, t94, t95, t96, t97, t98, t99, t100, t101, t102, t103, t104, t105, t106, t107, t108, t109, t110, t111, t112, t113, t114, t115, t116, t117, t118, t119, t120, t121, t122, t123, t124, t125, t126, t127, t128, t129, t130, t131, t132, t133, t134, t135, t136, t137, t138, t139, t140, t141, t142, t143, t144, t145, t146, t147, t148, t149, t150, t151, t152, t153, t154, t155, t156, t157, t158, t159, t160], d⟩ w5) (r : R W G1 G2 G3) : X ⟨#[t0, t1, t2, t3, t4, t5, t6, t7, t8, t9, t10, t11, t12, t13, .pointer (some ⟨G1, 0, none⟩), .pointer (some ⟨G2, 0, none⟩), .pointer (some ⟨G3, 0, none⟩), t17, t18, t19, t20, t21, t22, t23, t24, t25, t26, t27, t28, t29, t30, t31, t32, t33, t34, t35, t36, t37, t38, t39, t40, t41, t42, t43, t44, t45, t46, t47, t48, t49, t50, t51, t52, t53, t54, t55, t56, t57, t58, t59, t60, t61, t62, t63, t64, t65, t66, t67, t68, t69, t70, t71, t72, t73, t74, t75, t76, t77, t78, t79, t80, t81, t82, t83, t84, t85, t86, t87, t88, t89, t90, t91, t92, t93, t94, t95, t96, t97, t98, t99, t100, t101, t102, t103, t104, t105, t106, t107, t108, t109, t110, t111, t112, t113, t114, t115, t116, t117, t118, t119, t120, t121, t122, t123, t124, t125, t126, t127, t128, t129, t130, t131, t132, t133, t134, t135, t136, t137, t138, t139, t140, t141, t142, t143, t144, t145, t146, t147, t148, t149, t150, t151, t152, t153, t154, t155, t156, t157, t158, t159, t160], d⟩ W := key W G1 G2 G3 r
theorem gen_fma_fused_19 {X : Act → World → Prop} {R : World → Nat → Prop} {t0 t1 t2 t3 t4 t5 t6 t7 t8 t9 t10 t11 t12 t13 t14 t15 t16 t17 t18 t20 t21 t22 t23 t24 t25 t26 t27 t28 t29 t30 t31 t32 t33 t34 t35 t36 t37 t38 t39 t40 t41 t42 t43 t44 t45 t46 t47 t48 t49 t50 t51 t52 t53 t54 t55 t56 t57 t58 t59 t60 t61 t62 t63 t64 t65 t66 t67 t68 t69 t70 t71 t72 t73 t74 t75 t76 t77 t78 t79 t80 t81 t82 t83 t84 t85 t86 t87 t88 t89 t90 t91 t92 t93 t94 t95 t96 t97 t98 t99 t100 t101 t102 t103 t104 t105 t106 t107 t108 t109 t110 t111 t112 t113 t114 t115 t116 t117 t118 t119 t120 t121 t122 t123 t124 t125 t126 t127 t128 t129 t130 t131 t132 t133 t134 t135 t136 t137 t138 t139 t140 t141 t142 t143 t144 t145 t146 t147 t148 t149 t150 t151 t152 t153 t154 t155 t156 t157 t158 t159 t160 : Value} {d : List Deferred} {W : World} {G : Nat}
    (key : ∀ w5 g, R w5 g → X ⟨#[t0, t1, t2, t3, t4, t5, t6, t7, t8, t9, t10, t11, t12, t13, t14, t15, t16, t17, t18, .pointer (some ⟨g, 0, none⟩), t20, t21, t22, t23, t24, t25, t26, t27, t28, t29, t30, t31, t32, t33, t34, t35, t36, t37, t38, t39, t40, t41, t42, t43, t44, t45, t46, t47, t48, t49, t50, t51, t52, t53, t54, t55, t56, t57, t58, t59, t60, t61, t62, t63, t64, t65, t66, t67, t68, t69, t70, t71, t72, t73, t74, t75, t76, t77, t78, t79, t80, t81, t82, t83, t84, t85, t86, t87, t88, t89, t90, t91, t92, t93, t94, t95, t96, t97, t98, t99, t100, t101, t102, t103, t104, t105, t106, t107, t108, t109, t110, t111, t112, t113, t114, t115, t116, t117, t118, t119, t120, t121, t122, t123, t124, t125, t126, t127, t128, t129, t130, t131, t132, t133, t134, t135, t136, t137, t138, t139, t140, t141, t142, t143, t144, t145, t146, t147, t148, t149, t150, t151, t152, t153, t154, t155, t156, t157, t158, t159, t160], d⟩ w5) (r : R W G) : X ⟨#[t0, t1, t2, t3, t4, t5, t6, t7, t8, t9, t10, t11, t12, t13, t14, t15, t16, t17, t18, .pointer (some ⟨G, 0, none⟩), t20, t21, t22, t23, t24, t25, t26, t27, t28, t29, t30, t31, t32, t33, t34, t35, t36, t37, t38, t39, t40, t41, t42, t43, t44, t45, t46, t47, t48, t49, t50, t51, t52, t53, t54, t55, t56, t57, t58, t59, t60, t61, t62, t63, t64, t65, t66, t67, t68, t69, t70, t71, t72, t73, t74, t75, t76, t77, t78, t79, t80, t81, t82, t83, t84, t85, t86, t87, t88, t89, t90, t91, t92, t93, t94, t95, t96, t97, t98, t99, t100, t101, t102, t103, t104, t105, t106, t107, t108, t109, t110, t111, t112, t113, t114, t115, t116, t117, t118, t119, t120, t121, t122, t123, t124, t125, t126, t127, t128, t129, t130, t131, t132, t133, t134, t135, t136, t137, t138, t139, t140, t141, t142, t143, t144, t145, t146, t147, t148, t149, t150, t151, t152, t153, t154, t155, t156, t157, t158, t159, t160], d⟩ W := key W G r

theorem setv3_below {n : Nat} {w wr : World} {b : Nat} (h : Below n w wr) (hb : n ≤ b) (v0 v1 v2 : Value) : Below n w (((wr.setCell ⟨b, 0, none⟩ v0).setCell ⟨b, 1, none⟩ v1).setCell ⟨b, 2, none⟩ v2) := ((h.setCell hb _).setCell hb _).setCell hb _
theorem al_row30 (X : World) (Z : Obj) : (((X.alloc Z).alloc Z).alloc Z).heap[X.heap.size]? = some Z := row_al (row_al (heap_alloc_last X Z) Z) Z
theorem al_row31 (X : World) (Z : Obj) : (((X.alloc Z).alloc Z).alloc Z).heap[X.heap.size + 1]? = some Z := by have := row_al (heap_alloc_last (X.alloc Z) Z) Z; rw [size_al] at this; exact this
theorem al_row32 (X : World) (Z : Obj) : (((X.alloc Z).alloc Z).alloc Z).heap[X.heap.size + 1 + 1]? = some Z := by have := heap_alloc_last ((X.alloc Z).alloc Z) Z; rw [size_al, size_al] at this; exact this
theorem sp_one (V : World) (b : Nat) (h : V.heap[b]? = some (.cells (pt 0 0 0 0) 54)) : ∀ (c s : Nat) (x : Int) (r : Nat), (storeCells ⟨b, 0, none⟩ (pt c s x r).toList 0).run Tryz.prog V = .ok () (V.setRow b (pt c s x r)) := fun c s x r => st_p V b c s x r 0 0 0 0 h
theorem sp_two (V : World) (a b : Nat) (d : a ≠ b) (h : V.heap[b]? = some (.cells (pt 0 0 0 0) 54)) : ∀ (u : Array Value) (c s : Nat) (x : Int) (r : Nat), (storeCells ⟨b, 0, none⟩ (pt c s x r).toList 0).run Tryz.prog (V.setRow a u) = .ok () ((V.setRow a u).setRow b (pt c s x r)) := fun u c s x r => st_p _ b c s x r 0 0 0 0 ((setRow_other d).trans h)
theorem sp_three (V : World) (a e b : Nat) (d1 : a ≠ b) (d2 : e ≠ b) (h : V.heap[b]? = some (.cells (pt 0 0 0 0) 54)) : ∀ (u v : Array Value) (c s : Nat) (x : Int) (r : Nat), (storeCells ⟨b, 0, none⟩ (pt c s x r).toList 0).run Tryz.prog ((V.setRow a u).setRow e v) = .ok () (((V.setRow a u).setRow e v).setRow b (pt c s x r)) := fun u v c s x r => st_p _ b c s x r 0 0 0 0 ((setRow_other d2).trans ((setRow_other d1).trans h))
theorem set3r1 {V : World} {a b e : Nat} {c x y z : Array Value} {T : TypeId} (ha : V.heap[a]? = some (.cells c T)) (d : a ≠ b) (d2 : a ≠ e) : (((V.setRow a x).setRow b y).setRow e z).heap[a]? = some (.cells x T) := (setRow_other (Ne.symm d2)).trans ((setRow_other (Ne.symm d)).trans (setRow_row ha))
theorem set3r2 {V : World} {a b e : Nat} {c x y z : Array Value} {T : TypeId} (hb : V.heap[b]? = some (.cells c T)) (d : a ≠ b) (d2 : b ≠ e) : (((V.setRow a x).setRow b y).setRow e z).heap[b]? = some (.cells y T) := (setRow_other (Ne.symm d2)).trans (setRow_row ((setRow_other d).trans hb))
theorem set3r3 {V : World} {a b e : Nat} {c x y z : Array Value} {T : TypeId} (he : V.heap[e]? = some (.cells c T)) (d : a ≠ e) (d2 : b ≠ e) : (((V.setRow a x).setRow b y).setRow e z).heap[e]? = some (.cells z T) := setRow_row ((setRow_other d2).trans ((setRow_other d).trans he))
theorem setv3_row {w : World} {b : Nat} {c0 c1 c2 : Value} {T : TypeId} (h : w.heap[b]? = some (.cells #[c0, c1, c2] T)) (v0 v1 v2 : Value) : (((w.setCell ⟨b, 0, none⟩ v0).setCell ⟨b, 1, none⟩ v1).setCell ⟨b, 2, none⟩ v2).heap[b]? = some (.cells #[v0, v1, v2] T) := by rw [setCell_row (setCell_row (setCell_row h))]; rfl
theorem fb_lt1 (c : Bool) (s : Nat) (x : Int) (r : Bool) (t : Nat) : ((rg c s x r).size < 1 + (cw 6 t).size) = False := eq_false (by rw [cw_size]; exact (show ¬ (9 < 1 + 6) by decide))
theorem fb_lt8 (c : Bool) (s : Nat) (x : Int) (r : Bool) : ((rg c s x r).size < 8) = False := eq_false (show ¬ (9 < 8) by decide)
theorem fb_lt9 (c : Bool) (s : Nat) (x : Int) (r : Bool) : ((rg c s x r).size < 9) = False := eq_false (show ¬ (9 < 9) by decide)
theorem fb_ne (c : Bool) (s : Nat) (x : Int) (r : Bool) : (rg c s x r = #[]) = False := eq_false (fun h => by have := congrArg Array.size h; exact absurd this (by decide : ¬ (9 = 0)))
theorem fb_bld (neg : Bool) (T : Nat) (E : Int) : ((((((((rg false 0 0 false).setIfInBounds 0 (.bool neg)).setIfInBounds 1 (.int .u64 (wd T 0 : Nat))).setIfInBounds 2 (.int .u64 (wd T 1 : Nat))).setIfInBounds 3 (.int .u64 (wd T 2 : Nat))).setIfInBounds 4 (.int .u64 (wd T 3 : Nat))).setIfInBounds 5 (.int .u64 (wd T 4 : Nat))).setIfInBounds 6 (.int .u64 (wd T 5 : Nat))).setIfInBounds 7 (.int .i64 E) = rg neg T E false := Array.ext' (by
  simp only [Array.toList_setIfInBounds]
  rfl)
def p3v (c1 m1 : Nat) (X1 : Int) (r1 c2 m2 : Nat) (X2 : Int) (r2 c3 m3 : Nat) (X3 : Int) (r3 : Nat) : Array Value := #[.int .u8 (c1 : Nat), .int .u64 (wd m1 0 : Nat), .int .u64 (wd m1 1 : Nat), .int .u64 (wd m1 2 : Nat), .int .u64 (wd m1 3 : Nat), .int .u64 (wd m1 4 : Nat), .int .u64 (wd m1 5 : Nat), .int .i64 X1, .int .u64 (wd r1 0 : Nat), .int .u64 (wd r1 1 : Nat), .int .u64 (wd r1 2 : Nat), .int .u64 (wd r1 3 : Nat), .int .u64 (wd r1 4 : Nat), .int .u64 (wd r1 5 : Nat), .int .u8 (c2 : Nat), .int .u64 (wd m2 0 : Nat), .int .u64 (wd m2 1 : Nat), .int .u64 (wd m2 2 : Nat), .int .u64 (wd m2 3 : Nat), .int .u64 (wd m2 4 : Nat), .int .u64 (wd m2 5 : Nat), .int .i64 X2, .int .u64 (wd r2 0 : Nat), .int .u64 (wd r2 1 : Nat), .int .u64 (wd r2 2 : Nat), .int .u64 (wd r2 3 : Nat), .int .u64 (wd r2 4 : Nat), .int .u64 (wd r2 5 : Nat), .int .u8 (c3 : Nat), .int .u64 (wd m3 0 : Nat), .int .u64 (wd m3 1 : Nat), .int .u64 (wd m3 2 : Nat), .int .u64 (wd m3 3 : Nat), .int .u64 (wd m3 4 : Nat), .int .u64 (wd m3 5 : Nat), .int .i64 X3, .int .u64 (wd r3 0 : Nat), .int .u64 (wd r3 1 : Nat), .int .u64 (wd r3 2 : Nat), .int .u64 (wd r3 3 : Nat), .int .u64 (wd r3 4 : Nat), .int .u64 (wd r3 5 : Nat)]
theorem p3_size (c1 m1 : Nat) (X1 : Int) (r1 c2 m2 : Nat) (X2 : Int) (r2 c3 m3 : Nat) (X3 : Int) (r3 : Nat) : (p3v c1 m1 X1 r1 c2 m2 X2 r2 c3 m3 X3 r3).size = 42 := rfl
theorem st_q0 (w : World) (b c m : Nat) (x : Int) (r : Nat) (c1 m1 : Nat) (X1 : Int) (r1 c2 m2 : Nat) (X2 : Int) (r2 c3 m3 : Nat) (X3 : Int) (r3 : Nat) (h : w.heap[b]? = some (.cells (p3v c1 m1 X1 r1 c2 m2 X2 r2 c3 m3 X3 r3) 54)) :
    (storeCells ⟨b, 0, none⟩ (pt c m x r).toList 0).run Tryz.prog w = .ok () (w.setRow b (p3v c m x r c2 m2 X2 r2 c3 m3 X3 r3)) :=
  run_storeCells_at (P := Tryz.prog) b 0 54 (pt c m x r).toList 0 (p3v c1 m1 X1 r1 c2 m2 X2 r2 c3 m3 X3 r3) w h (by simp only [Array.length_toList, pt_size, p3_size]; omega) (pt_one c m x r)
theorem st_q1 (w : World) (b c m : Nat) (x : Int) (r : Nat) (c1 m1 : Nat) (X1 : Int) (r1 c2 m2 : Nat) (X2 : Int) (r2 c3 m3 : Nat) (X3 : Int) (r3 : Nat) (h : w.heap[b]? = some (.cells (p3v c1 m1 X1 r1 c2 m2 X2 r2 c3 m3 X3 r3) 54)) :
    (storeCells ⟨b, 14, none⟩ (pt c m x r).toList 0).run Tryz.prog w = .ok () (w.setRow b (p3v c1 m1 X1 r1 c m x r c3 m3 X3 r3)) :=
  run_storeCells_at (P := Tryz.prog) b 14 54 (pt c m x r).toList 0 (p3v c1 m1 X1 r1 c2 m2 X2 r2 c3 m3 X3 r3) w h (by simp only [Array.length_toList, pt_size, p3_size]; omega) (pt_one c m x r)
theorem st_q2 (w : World) (b c m : Nat) (x : Int) (r : Nat) (c1 m1 : Nat) (X1 : Int) (r1 c2 m2 : Nat) (X2 : Int) (r2 c3 m3 : Nat) (X3 : Int) (r3 : Nat) (h : w.heap[b]? = some (.cells (p3v c1 m1 X1 r1 c2 m2 X2 r2 c3 m3 X3 r3) 54)) :
    (storeCells ⟨b, 28, none⟩ (pt c m x r).toList 0).run Tryz.prog w = .ok () (w.setRow b (p3v c1 m1 X1 r1 c2 m2 X2 r2 c m x r)) :=
  run_storeCells_at (P := Tryz.prog) b 28 54 (pt c m x r).toList 0 (p3v c1 m1 X1 r1 c2 m2 X2 r2 c3 m3 X3 r3) w h (by simp only [Array.length_toList, pt_size, p3_size]; omega) (pt_one c m x r)
theorem p3_made : madeCells (pt 0 0 0 0) (3 * 14) = p3v 0 0 0 0 0 0 0 0 0 0 0 0 := by kernel_rfl
theorem p3_make (w : World) : (Instr.makeSlice 121 (.int .i64 3) (.int .i64 3)).run Tryz.prog w = .ok (.slice (some ⟨w.heap.size, 0, none⟩) 3 3) (w.alloc (.cells (p3v 0 0 0 0 0 0 0 0 0 0 0 0) 54)) := by
  have info : (Tryz.prog.info? 54).map (fun i => (i.zero, i.size, i.bytes)) = some (some (.agg (pt 0 0 0 0)), 14, 112) := by kernel_rfl
  obtain ⟨i, hi, hzz⟩ := Option.map_eq_some_iff.1 info
  simp only [Prod.mk.injEq] at hzz
  obtain ⟨hz, hs, hb⟩ := hzz
  have r := run_make (P := Tryz.prog) w 121 54 i _ Tryz.underlying121 hi hz .i64 .i64 3 3 (by omega) (Int.le_refl _) (by rw [hb]; omega) (by omega)
  rw [hs, show (3 : Int).toNat = 3 from rfl] at r
  rw [← p3_made]
  exact r
set_option maxRecDepth 100000 in
set_option maxHeartbeats 8000000 in
theorem fm_opened (f : Int) (x1 y1 x2 y2 x3 y3 : Nat) (c1 m1 : Nat) (X1 : Int) (r1 c2 m2 : Nat) (X2 : Int) (r2 c3 m3 : Nat) (X3 : Int) (r3 : Nat) (g : Nat) (T : TypeId) (w : World) (row : w.heap[g]? = some (.cells #[.int .u64 (x1 : Nat), .int .u64 (y1 : Nat), .int .u64 (x2 : Nat), .int .u64 (y2 : Nat), .int .u64 (x3 : Nat), .int .u64 (y3 : Nat)] T))
    (KU1 : Box (∀ w, FAt w → Calls Tryz.prog 33 #[.int .u8 f, .agg #[.int .u64 (x1 : Nat), .int .u64 (y1 : Nat)]] w fun r w' => r = .returned (.tuple #[.agg (pt c1 m1 X1 r1), .int .i64 0]) ∧ Below w.heap.size w w'))
    (KU2 : Box (∀ w, FAt w → Calls Tryz.prog 33 #[.int .u8 f, .agg #[.int .u64 (x2 : Nat), .int .u64 (y2 : Nat)]] w fun r w' => r = .returned (.tuple #[.agg (pt c2 m2 X2 r2), .int .i64 0]) ∧ Below w.heap.size w w'))
    (KU3 : Box (∀ w, FAt w → Calls Tryz.prog 33 #[.int .u8 f, .agg #[.int .u64 (x3 : Nat), .int .u64 (y3 : Nat)]] w fun r w' => r = .returned (.tuple #[.agg (pt c3 m3 X3 r3), .int .i64 0]) ∧ Below w.heap.size w w'))
    (hT : FAt w) : Calls Tryz.prog 105 #[.int .u8 f, .slice (some ⟨g, 0, none⟩) 3 3] w fun r w' => r = .returned (.slice (some ⟨w.heap.size, 0, none⟩) 3 3) ∧ w'.heap[w.heap.size]? = some (.cells (p3v c1 m1 X1 r1 c2 m2 X2 r2 c3 m3 X3 r3) 54) ∧ Below w.heap.size w w' := by
  have FF := box hT
  clear hT
  have hmk := p3_make
  have hq1 := ptf
  have hq5 : ∀ (c s : Nat) (x : Int) (r : Nat), ((pt c s x r).size = 14) = True := fun _ _ _ _ => eq_true rfl
  go_enter Tryz.func105, Tryz.ntmps105
  go_wp2
  clear hmk
  have Ro := heap_alloc_last w (.cells (p3v 0 0 0 0 0 0 0 0 0 0 0 0) 54)
  have Bo := bal w (.cells (p3v 0 0 0 0 0 0 0 0 0 0 0 0) 54)
  obtain ⟨V, hV⟩ : ∃ V, w.alloc (.cells (p3v 0 0 0 0 0 0 0 0 0 0 0 0) 54) = V := ⟨_, rfl⟩
  rw [hV] at Ro Bo ⊢
  clear hV
  go_loopw [13] (fun iv wr => ∃ k : Nat, iv = .int .i64 (k : Int) ∧ Below w.heap.size w wr ∧ ((k = 0 ∧ wr.heap[w.heap.size]? = some (.cells (p3v 0 0 0 0 0 0 0 0 0 0 0 0) 54)) ∨ (k = 1 ∧ wr.heap[w.heap.size]? = some (.cells (p3v c1 m1 X1 r1 0 0 0 0 0 0 0 0) 54)) ∨ (k = 2 ∧ wr.heap[w.heap.size]? = some (.cells (p3v c1 m1 X1 r1 c2 m2 X2 r2 0 0 0 0) 54)) ∨ (k = 3 ∧ wr.heap[w.heap.size]? = some (.cells (p3v c1 m1 X1 r1 c2 m2 X2 r2 c3 m3 X3 r3) 54)))) (fun iv _ => 3 - (intOf iv).toNat)
  case atStart => exact ⟨0, rfl, Bo, Or.inl ⟨rfl, Ro⟩⟩
  case round =>
    clear Ro Bo
    obtain ⟨k, rfl, Bk, Hk⟩ := hrel
    have rk := heap_of Bk _ _ _ row
    have FA : Box (FAt wr) := box (fatB FF.out Bk)
    rcases Hk with ⟨rfl, Rk⟩ | ⟨rfl, Rk⟩ | ⟨rfl, Rk⟩ | ⟨rfl, Rk⟩
    · obtain ⟨e0, e1⟩ := (⟨cell7 rk 0 _ rfl, cell7 rk 1 _ rfl⟩ : wr.cell? ⟨g, 0, none⟩ = some (.int .u64 (x1 : Nat)) ∧ wr.cell? ⟨g, 1, none⟩ = some (.int .u64 (y1 : Nat)))
      go_wp2_with fail
      have BA := bal wr (.cells #[.int .u64 (x1 : Nat), .int .u64 (y1 : Nat)] 26)
      refine (KU1.out _ (fatB FA.out BA)).mono ?_
      rintro r w2 ⟨rfl, b2⟩
      have R2 := heap_of (btr BA b2) _ _ _ Rk
      have hst := st_q0 w2 w.heap.size c1 m1 X1 r1 0 0 0 0 0 0 0 0 0 0 0 0 R2
      have R3 := setRow_row (c' := p3v c1 m1 X1 r1 0 0 0 0 0 0 0 0) R2
      have B3 := bel_set (c := p3v c1 m1 X1 r1 0 0 0 0 0 0 0 0) (btr (btr Bk BA) b2) (Nat.le_refl _)
      clear rk Rk R2 BA Bk b2
      go_wp2
      go_roundw
      case rel => exact ⟨1, by go_num, B3, Or.inr (Or.inl ⟨rfl, R3⟩)⟩
      case measure => simp [intOf]
    · obtain ⟨e0, e1⟩ := (⟨cell7 rk 2 _ rfl, cell7 rk 3 _ rfl⟩ : wr.cell? ⟨g, 2, none⟩ = some (.int .u64 (x2 : Nat)) ∧ wr.cell? ⟨g, 3, none⟩ = some (.int .u64 (y2 : Nat)))
      go_wp2_with fail
      have BA := bal wr (.cells #[.int .u64 (x2 : Nat), .int .u64 (y2 : Nat)] 26)
      refine (KU2.out _ (fatB FA.out BA)).mono ?_
      rintro r w2 ⟨rfl, b2⟩
      have R2 := heap_of (btr BA b2) _ _ _ Rk
      have hst := st_q1 w2 w.heap.size c2 m2 X2 r2 c1 m1 X1 r1 0 0 0 0 0 0 0 0 R2
      have R3 := setRow_row (c' := p3v c1 m1 X1 r1 c2 m2 X2 r2 0 0 0 0) R2
      have B3 := bel_set (c := p3v c1 m1 X1 r1 c2 m2 X2 r2 0 0 0 0) (btr (btr Bk BA) b2) (Nat.le_refl _)
      clear rk Rk R2 BA Bk b2
      go_wp2
      go_roundw
      case rel => exact ⟨2, by go_num, B3, Or.inr (Or.inr (Or.inl ⟨rfl, R3⟩))⟩
      case measure => simp [intOf]
    · obtain ⟨e0, e1⟩ := (⟨cell7 rk 4 _ rfl, cell7 rk 5 _ rfl⟩ : wr.cell? ⟨g, 4, none⟩ = some (.int .u64 (x3 : Nat)) ∧ wr.cell? ⟨g, 5, none⟩ = some (.int .u64 (y3 : Nat)))
      go_wp2_with fail
      have BA := bal wr (.cells #[.int .u64 (x3 : Nat), .int .u64 (y3 : Nat)] 26)
      refine (KU3.out _ (fatB FA.out BA)).mono ?_
      rintro r w2 ⟨rfl, b2⟩
      have R2 := heap_of (btr BA b2) _ _ _ Rk
      have hst := st_q2 w2 w.heap.size c3 m3 X3 r3 c1 m1 X1 r1 c2 m2 X2 r2 0 0 0 0 R2
      have R3 := setRow_row (c' := p3v c1 m1 X1 r1 c2 m2 X2 r2 c3 m3 X3 r3) R2
      have B3 := bel_set (c := p3v c1 m1 X1 r1 c2 m2 X2 r2 c3 m3 X3 r3) (btr (btr Bk BA) b2) (Nat.le_refl _)
      clear rk Rk R2 BA Bk b2
      go_wp2
      go_roundw
      case rel => exact ⟨3, by go_num, B3, Or.inr (Or.inr (Or.inr (⟨rfl, R3⟩)))⟩
      case measure => simp [intOf]
    · go_wp2
      go_ret
      exact ⟨rfl, Rk, Bk⟩
set_option maxRecDepth 100000 in
set_option maxHeartbeats 8000000 in
theorem fm_fused (f m : Int) (x1 y1 x2 y2 x3 y3 u v : Nat) (c1 m1 : Nat) (X1 : Int) (r1 c2 m2 : Nat) (X2 : Int) (r2 c3 m3 : Nat) (X3 : Int) (r3 : Nat) (sg1 sg2 sg3 neg ns : Bool) (p1 p2 p3 : Int) (S1 : Nat) (E1 : Int) (S : Nat) (X fl : Int) (w : World) (hng : (!(sg1 == sg2)) = neg)
    (KO : Box (∀ (T : TypeId) (g : Nat) (w : World), w.heap.size = g → FAt w → Calls Tryz.prog 105 #[.int .u8 f, .slice (some ⟨g, 0, none⟩) 3 3] (w.alloc (.cells #[.int .u64 (x1 : Nat), .int .u64 (y1 : Nat), .int .u64 (x2 : Nat), .int .u64 (y2 : Nat), .int .u64 (x3 : Nat), .int .u64 (y3 : Nat)] T)) fun r w' => ∃ gl, r = .returned (.slice (some ⟨gl, 0, none⟩) 3 3) ∧ w'.heap[gl]? = some (.cells (p3v c1 m1 X1 r1 c2 m2 X2 r2 c3 m3 X3 r3) 54) ∧ Below w.heap.size w w'))
    (KS1 : Box (∀ w, FAt w → Calls Tryz.prog 22 #[.int .u8 f, .agg #[.int .u64 (x1 : Nat), .int .u64 (y1 : Nat)]] w fun r w' => r = .returned (.bool sg1) ∧ Below w.heap.size w w'))
    (KS2 : Box (∀ w, FAt w → Calls Tryz.prog 22 #[.int .u8 f, .agg #[.int .u64 (x2 : Nat), .int .u64 (y2 : Nat)]] w fun r w' => r = .returned (.bool sg2) ∧ Below w.heap.size w w'))
    (KS3 : Box (∀ w, FAt w → Calls Tryz.prog 22 #[.int .u8 f, .agg #[.int .u64 (x3 : Nat), .int .u64 (y3 : Nat)]] w fun r w' => r = .returned (.bool sg3) ∧ Below w.heap.size w w'))
    (KP1 : Box (∀ w, Calls Tryz.prog 34 #[.int .u8 (c1 : Nat)] w fun r w' => r = .returned (.int .u8 p1) ∧ Below w.heap.size w w'))
    (KP2 : Box (∀ w, Calls Tryz.prog 34 #[.int .u8 (c2 : Nat)] w fun r w' => r = .returned (.int .u8 p2) ∧ Below w.heap.size w w'))
    (KP3 : Box (∀ w, Calls Tryz.prog 34 #[.int .u8 (c3 : Nat)] w fun r w' => r = .returned (.int .u8 p3) ∧ Below w.heap.size w w'))
    (H : Box ((p1 = 7 ∧ p2 = 4 ∧ Box (∀ w, FAt w → Calls Tryz.prog 35 #[.int .u8 f] w fun r w' => r = .returned (.agg #[.int .u64 (u : Nat), .int .u64 (v : Nat)]) ∧ Below w.heap.size w w') ∧ fl = 16) ∨
      (p1 = 4 ∧ p2 = 7 ∧ Box (∀ w, FAt w → Calls Tryz.prog 35 #[.int .u8 f] w fun r w' => r = .returned (.agg #[.int .u64 (u : Nat), .int .u64 (v : Nat)]) ∧ Below w.heap.size w w') ∧ fl = 16) ∨
      (p1 = 8 ∧ Box (∀ w, FAt w → Calls Tryz.prog 35 #[.int .u8 f] w fun r w' => r = .returned (.agg #[.int .u64 (u : Nat), .int .u64 (v : Nat)]) ∧ Below w.heap.size w w') ∧ fl = 16) ∨
      (p2 = 8 ∧ (p1 == 8) = false ∧ Box (∀ w, FAt w → Calls Tryz.prog 35 #[.int .u8 f] w fun r w' => r = .returned (.agg #[.int .u64 (u : Nat), .int .u64 (v : Nat)]) ∧ Below w.heap.size w w') ∧ fl = 16) ∨
      (p3 = 8 ∧ p1 = 7 ∧ (p2 == 4) = false ∧ (p2 == 8) = false ∧ Box (∀ w, FAt w → Calls Tryz.prog 35 #[.int .u8 f] w fun r w' => r = .returned (.agg #[.int .u64 (u : Nat), .int .u64 (v : Nat)]) ∧ Below w.heap.size w w') ∧ fl = 16) ∨
      (p3 = 8 ∧ p1 = 4 ∧ (p2 == 7) = false ∧ (p2 == 8) = false ∧ Box (∀ w, FAt w → Calls Tryz.prog 35 #[.int .u8 f] w fun r w' => r = .returned (.agg #[.int .u64 (u : Nat), .int .u64 (v : Nat)]) ∧ Below w.heap.size w w') ∧ fl = 16) ∨
      (p3 = 8 ∧ (p1 == 7) = false ∧ (p1 == 4) = false ∧ (p1 == 8) = false ∧ (p2 == 8) = false ∧ Box (∀ w, FAt w → Calls Tryz.prog 35 #[.int .u8 f] w fun r w' => r = .returned (.agg #[.int .u64 (u : Nat), .int .u64 (v : Nat)]) ∧ Below w.heap.size w w') ∧ fl = 16) ∨
      (p1 = 9 ∧ (p2 == 8) = false ∧ (p3 == 8) = false ∧ Box (∀ w, FAt w → Calls Tryz.prog 35 #[.int .u8 f] w fun r w' => r = .returned (.agg #[.int .u64 (u : Nat), .int .u64 (v : Nat)]) ∧ Below w.heap.size w w') ∧ fl = 0) ∨
      (p2 = 9 ∧ (p1 == 8) = false ∧ (p3 == 8) = false ∧ (p1 == 9) = false ∧ Box (∀ w, FAt w → Calls Tryz.prog 35 #[.int .u8 f] w fun r w' => r = .returned (.agg #[.int .u64 (u : Nat), .int .u64 (v : Nat)]) ∧ Below w.heap.size w w') ∧ fl = 0) ∨
      (p3 = 9 ∧ p1 = 7 ∧ (p2 == 4) = false ∧ (p2 == 8) = false ∧ (p2 == 9) = false ∧ Box (∀ w, FAt w → Calls Tryz.prog 35 #[.int .u8 f] w fun r w' => r = .returned (.agg #[.int .u64 (u : Nat), .int .u64 (v : Nat)]) ∧ Below w.heap.size w w') ∧ fl = 0) ∨
      (p3 = 9 ∧ p1 = 4 ∧ (p2 == 7) = false ∧ (p2 == 8) = false ∧ (p2 == 9) = false ∧ Box (∀ w, FAt w → Calls Tryz.prog 35 #[.int .u8 f] w fun r w' => r = .returned (.agg #[.int .u64 (u : Nat), .int .u64 (v : Nat)]) ∧ Below w.heap.size w w') ∧ fl = 0) ∨
      (p3 = 9 ∧ (p1 == 7) = false ∧ (p1 == 4) = false ∧ (p1 == 8) = false ∧ (p2 == 8) = false ∧ (p1 == 9) = false ∧ (p2 == 9) = false ∧ Box (∀ w, FAt w → Calls Tryz.prog 35 #[.int .u8 f] w fun r w' => r = .returned (.agg #[.int .u64 (u : Nat), .int .u64 (v : Nat)]) ∧ Below w.heap.size w w') ∧ fl = 0) ∨
      (p1 = 7 ∧ (p2 == 4) = false ∧ (p2 == 8) = false ∧ (p3 == 8) = false ∧ (p2 == 9) = false ∧ (p3 == 9) = false ∧ (p3 == 7) = false ∧ Box (∀ w, FAt w → Calls Tryz.prog 36 #[.int .u8 f, .bool neg] w fun r w' => r = .returned (.agg #[.int .u64 (u : Nat), .int .u64 (v : Nat)]) ∧ Below w.heap.size w w') ∧ fl = 0) ∨
      (p1 = 7 ∧ (p2 == 4) = false ∧ (p2 == 8) = false ∧ (p3 == 8) = false ∧ (p2 == 9) = false ∧ (p3 == 9) = false ∧ p3 = 7 ∧ (sg3 == neg) = true ∧ Box (∀ w, FAt w → Calls Tryz.prog 36 #[.int .u8 f, .bool neg] w fun r w' => r = .returned (.agg #[.int .u64 (u : Nat), .int .u64 (v : Nat)]) ∧ Below w.heap.size w w') ∧ fl = 0) ∨
      (p1 = 7 ∧ (p2 == 4) = false ∧ (p2 == 8) = false ∧ (p3 == 8) = false ∧ (p2 == 9) = false ∧ (p3 == 9) = false ∧ p3 = 7 ∧ (sg3 == neg) = false ∧ Box (∀ w, FAt w → Calls Tryz.prog 35 #[.int .u8 f] w fun r w' => r = .returned (.agg #[.int .u64 (u : Nat), .int .u64 (v : Nat)]) ∧ Below w.heap.size w w') ∧ fl = 16) ∨
      (p2 = 7 ∧ (p1 == 4) = false ∧ (p1 == 8) = false ∧ (p3 == 8) = false ∧ (p1 == 9) = false ∧ (p3 == 9) = false ∧ (p1 == 7) = false ∧ (p3 == 7) = false ∧ Box (∀ w, FAt w → Calls Tryz.prog 36 #[.int .u8 f, .bool neg] w fun r w' => r = .returned (.agg #[.int .u64 (u : Nat), .int .u64 (v : Nat)]) ∧ Below w.heap.size w w') ∧ fl = 0) ∨
      (p2 = 7 ∧ (p1 == 4) = false ∧ (p1 == 8) = false ∧ (p3 == 8) = false ∧ (p1 == 9) = false ∧ (p3 == 9) = false ∧ (p1 == 7) = false ∧ p3 = 7 ∧ (sg3 == neg) = true ∧ Box (∀ w, FAt w → Calls Tryz.prog 36 #[.int .u8 f, .bool neg] w fun r w' => r = .returned (.agg #[.int .u64 (u : Nat), .int .u64 (v : Nat)]) ∧ Below w.heap.size w w') ∧ fl = 0) ∨
      (p2 = 7 ∧ (p1 == 4) = false ∧ (p1 == 8) = false ∧ (p3 == 8) = false ∧ (p1 == 9) = false ∧ (p3 == 9) = false ∧ (p1 == 7) = false ∧ p3 = 7 ∧ (sg3 == neg) = false ∧ Box (∀ w, FAt w → Calls Tryz.prog 35 #[.int .u8 f] w fun r w' => r = .returned (.agg #[.int .u64 (u : Nat), .int .u64 (v : Nat)]) ∧ Below w.heap.size w w') ∧ fl = 16) ∨
      ((p1 == 8) = false ∧ (p2 == 8) = false ∧ (p1 == 9) = false ∧ (p2 == 9) = false ∧ (p1 == 7) = false ∧ (p2 == 7) = false ∧ p3 = 7 ∧ x3 = u ∧ y3 = v ∧ fl = 0) ∨
      ((p1 == 8) = false ∧ (p2 == 8) = false ∧ (p1 == 9) = false ∧ (p2 == 9) = false ∧ (p1 == 7) = false ∧ (p2 == 7) = false ∧ (p3 == 8) = false ∧ (p3 == 9) = false ∧ (p3 == 7) = false ∧ Box (∀ w, Calls Tryz.prog 107 #[.bool neg, .agg (pt c1 m1 X1 r1), .agg (pt c2 m2 X2 r2)] w fun r w' => r = .returned (.agg (rg neg S1 E1 false)) ∧ Below w.heap.size w w') ∧ Box (∀ w, Calls Tryz.prog 106 #[.int .u8 m, .agg (rg neg S1 E1 false), .agg (rg sg3 m3 X3 false)] w fun r w' => r = .returned (.agg (rg ns S X false)) ∧ Below w.heap.size w w') ∧ Box (∀ w, FAt w → Calls Tryz.prog 37 #[.int .u8 f, .int .u8 m, .agg (rg ns S X false)] w fun r w' => r = .returned (.tuple #[.agg #[.int .u64 (u : Nat), .int .u64 (v : Nat)], .int .u8 fl, .int .i64 0]) ∧ Below w.heap.size w w'))))
    (hT : FAt w) : Calls Tryz.prog 51 #[.int .u8 f, .int .u8 m, .agg #[.int .u64 (x1 : Nat), .int .u64 (y1 : Nat)], .agg #[.int .u64 (x2 : Nat), .int .u64 (y2 : Nat)], .agg #[.int .u64 (x3 : Nat), .int .u64 (y3 : Nat)]] w fun r w' => r = .returned (.tuple #[.agg #[.int .u64 (u : Nat), .int .u64 (v : Nat)], .int .u8 fl, .int .i64 0]) ∧ Below w.heap.size w w' := by
  have FF := box hT
  clear hT
  have hq1 := ptf
  have hq3 := ptz
  have hq5 : ∀ (c s : Nat) (x : Int) (r : Nat), ((pt c s x r).size = 14) = True := fun _ _ _ _ => eq_true rfl
  obtain ⟨Ra_0, Rb_0, Rc_0, Rz_0, B0⟩ := opn4 w (Obj.cells #[.int .u64 (x1 : Nat), .int .u64 (y1 : Nat)] 26) (Obj.cells #[.int .u64 (x2 : Nat), .int .u64 (y2 : Nat)] 26) (Obj.cells #[.int .u64 (x3 : Nat), .int .u64 (y3 : Nat)] 26) (Obj.cells #[.int .u64 0, .int .u64 0] 26)
  go_enter Tryz.func51, Tryz.ntmps51
  obtain ⟨ca_0_0, ca_0_1⟩ := cells2s Ra_0
  obtain ⟨cb_0_0, cb_0_1⟩ := cells2s Rb_0
  obtain ⟨cc_0_0, cc_0_1⟩ := cells2s Rc_0
  go_wp2_with fail
  refine (KO.out _ _ _ (by first | rfl | simp only [size_al]) (fatB FF.out B0)).mono ?_
  rintro r w1 ⟨gl, rfl, Rl_1, b1⟩
  have B1 : Below w.heap.size w w1 := btr B0 b1
  have Ra_1 := heap_of b1 _ _ _ Ra_0
  have Rb_1 := heap_of b1 _ _ _ Rb_0
  have Rc_1 := heap_of b1 _ _ _ Rc_0
  have Rz_1 := heap_of b1 _ _ _ Rz_0
  clear b1 B0 Ra_0 Rb_0 Rc_0 Rz_0 ca_0_0 ca_0_1 cb_0_0 cb_0_1 cc_0_0 cc_0_1
  obtain ⟨ca_1_0, ca_1_1⟩ := cells2s Ra_1
  obtain ⟨cb_1_0, cb_1_1⟩ := cells2s Rb_1
  obtain ⟨cc_1_0, cc_1_1⟩ := cells2s Rc_1
  obtain ⟨n0, hn0⟩ : ∃ n, w1.heap.size = n := ⟨_, rfl⟩
  have L0 : Box (w.heap.size < n0 ∧ w.heap.size + 1 < n0 ∧ w.heap.size + 1 + 1 < n0 ∧ w.heap.size + 1 + 1 + 1 < n0 ∧ gl < n0) := box ⟨hn0 ▸ (Array.getElem?_eq_some_iff.1 Ra_1).1, hn0 ▸ (Array.getElem?_eq_some_iff.1 Rb_1).1, hn0 ▸ (Array.getElem?_eq_some_iff.1 Rc_1).1, hn0 ▸ (Array.getElem?_eq_some_iff.1 Rz_1).1, hn0 ▸ (Array.getElem?_eq_some_iff.1 Rl_1).1⟩
  have Lw : Box (w.heap.size ≤ n0) := box (hn0 ▸ B1.size)
  have sS : Box (∀ W W1 : World, (Below w.heap.size w W ∧ n0 ≤ W.heap.size ∧ W.heap[w.heap.size]? = some (Obj.cells #[.int .u64 (x1 : Nat), .int .u64 (y1 : Nat)] 26) ∧ W.heap[w.heap.size + 1]? = some (Obj.cells #[.int .u64 (x2 : Nat), .int .u64 (y2 : Nat)] 26) ∧ W.heap[w.heap.size + 1 + 1]? = some (Obj.cells #[.int .u64 (x3 : Nat), .int .u64 (y3 : Nat)] 26) ∧ W.heap[w.heap.size + 1 + 1 + 1]? = some (Obj.cells #[.int .u64 0, .int .u64 0] 26) ∧ W.heap[gl]? = some (Obj.cells (p3v c1 m1 X1 r1 c2 m2 X2 r2 c3 m3 X3 r3) 54) ∧ W.cell? ⟨gl, 0, none⟩ = some (.int .u8 (c1 : Nat)) ∧ W.cell? ⟨gl, 1, none⟩ = some (.int .u64 ((wd m1 0 : Nat) : Int)) ∧ W.cell? ⟨gl, 2, none⟩ = some (.int .u64 ((wd m1 1 : Nat) : Int)) ∧ W.cell? ⟨gl, 3, none⟩ = some (.int .u64 ((wd m1 2 : Nat) : Int)) ∧ W.cell? ⟨gl, 4, none⟩ = some (.int .u64 ((wd m1 3 : Nat) : Int)) ∧ W.cell? ⟨gl, 5, none⟩ = some (.int .u64 ((wd m1 4 : Nat) : Int)) ∧ W.cell? ⟨gl, 6, none⟩ = some (.int .u64 ((wd m1 5 : Nat) : Int)) ∧ W.cell? ⟨gl, 7, none⟩ = some (.int .i64 X1) ∧ W.cell? ⟨gl, 8, none⟩ = some (.int .u64 ((wd r1 0 : Nat) : Int)) ∧ W.cell? ⟨gl, 9, none⟩ = some (.int .u64 ((wd r1 1 : Nat) : Int)) ∧ W.cell? ⟨gl, 10, none⟩ = some (.int .u64 ((wd r1 2 : Nat) : Int)) ∧ W.cell? ⟨gl, 11, none⟩ = some (.int .u64 ((wd r1 3 : Nat) : Int)) ∧ W.cell? ⟨gl, 12, none⟩ = some (.int .u64 ((wd r1 4 : Nat) : Int)) ∧ W.cell? ⟨gl, 13, none⟩ = some (.int .u64 ((wd r1 5 : Nat) : Int)) ∧ W.cell? ⟨gl, 14, none⟩ = some (.int .u8 (c2 : Nat)) ∧ W.cell? ⟨gl, 15, none⟩ = some (.int .u64 ((wd m2 0 : Nat) : Int)) ∧ W.cell? ⟨gl, 16, none⟩ = some (.int .u64 ((wd m2 1 : Nat) : Int)) ∧ W.cell? ⟨gl, 17, none⟩ = some (.int .u64 ((wd m2 2 : Nat) : Int)) ∧ W.cell? ⟨gl, 18, none⟩ = some (.int .u64 ((wd m2 3 : Nat) : Int)) ∧ W.cell? ⟨gl, 19, none⟩ = some (.int .u64 ((wd m2 4 : Nat) : Int)) ∧ W.cell? ⟨gl, 20, none⟩ = some (.int .u64 ((wd m2 5 : Nat) : Int)) ∧ W.cell? ⟨gl, 21, none⟩ = some (.int .i64 X2) ∧ W.cell? ⟨gl, 22, none⟩ = some (.int .u64 ((wd r2 0 : Nat) : Int)) ∧ W.cell? ⟨gl, 23, none⟩ = some (.int .u64 ((wd r2 1 : Nat) : Int)) ∧ W.cell? ⟨gl, 24, none⟩ = some (.int .u64 ((wd r2 2 : Nat) : Int)) ∧ W.cell? ⟨gl, 25, none⟩ = some (.int .u64 ((wd r2 3 : Nat) : Int)) ∧ W.cell? ⟨gl, 26, none⟩ = some (.int .u64 ((wd r2 4 : Nat) : Int)) ∧ W.cell? ⟨gl, 27, none⟩ = some (.int .u64 ((wd r2 5 : Nat) : Int)) ∧ W.cell? ⟨gl, 28, none⟩ = some (.int .u8 (c3 : Nat)) ∧ W.cell? ⟨gl, 29, none⟩ = some (.int .u64 ((wd m3 0 : Nat) : Int)) ∧ W.cell? ⟨gl, 30, none⟩ = some (.int .u64 ((wd m3 1 : Nat) : Int)) ∧ W.cell? ⟨gl, 31, none⟩ = some (.int .u64 ((wd m3 2 : Nat) : Int)) ∧ W.cell? ⟨gl, 32, none⟩ = some (.int .u64 ((wd m3 3 : Nat) : Int)) ∧ W.cell? ⟨gl, 33, none⟩ = some (.int .u64 ((wd m3 4 : Nat) : Int)) ∧ W.cell? ⟨gl, 34, none⟩ = some (.int .u64 ((wd m3 5 : Nat) : Int)) ∧ W.cell? ⟨gl, 35, none⟩ = some (.int .i64 X3) ∧ W.cell? ⟨gl, 36, none⟩ = some (.int .u64 ((wd r3 0 : Nat) : Int)) ∧ W.cell? ⟨gl, 37, none⟩ = some (.int .u64 ((wd r3 1 : Nat) : Int)) ∧ W.cell? ⟨gl, 38, none⟩ = some (.int .u64 ((wd r3 2 : Nat) : Int)) ∧ W.cell? ⟨gl, 39, none⟩ = some (.int .u64 ((wd r3 3 : Nat) : Int)) ∧ W.cell? ⟨gl, 40, none⟩ = some (.int .u64 ((wd r3 4 : Nat) : Int)) ∧ W.cell? ⟨gl, 41, none⟩ = some (.int .u64 ((wd r3 5 : Nat) : Int))) → Below W.heap.size W W1 → (Below w.heap.size w W1 ∧ n0 ≤ W1.heap.size ∧ W1.heap[w.heap.size]? = some (Obj.cells #[.int .u64 (x1 : Nat), .int .u64 (y1 : Nat)] 26) ∧ W1.heap[w.heap.size + 1]? = some (Obj.cells #[.int .u64 (x2 : Nat), .int .u64 (y2 : Nat)] 26) ∧ W1.heap[w.heap.size + 1 + 1]? = some (Obj.cells #[.int .u64 (x3 : Nat), .int .u64 (y3 : Nat)] 26) ∧ W1.heap[w.heap.size + 1 + 1 + 1]? = some (Obj.cells #[.int .u64 0, .int .u64 0] 26) ∧ W1.heap[gl]? = some (Obj.cells (p3v c1 m1 X1 r1 c2 m2 X2 r2 c3 m3 X3 r3) 54) ∧ W1.cell? ⟨gl, 0, none⟩ = some (.int .u8 (c1 : Nat)) ∧ W1.cell? ⟨gl, 1, none⟩ = some (.int .u64 ((wd m1 0 : Nat) : Int)) ∧ W1.cell? ⟨gl, 2, none⟩ = some (.int .u64 ((wd m1 1 : Nat) : Int)) ∧ W1.cell? ⟨gl, 3, none⟩ = some (.int .u64 ((wd m1 2 : Nat) : Int)) ∧ W1.cell? ⟨gl, 4, none⟩ = some (.int .u64 ((wd m1 3 : Nat) : Int)) ∧ W1.cell? ⟨gl, 5, none⟩ = some (.int .u64 ((wd m1 4 : Nat) : Int)) ∧ W1.cell? ⟨gl, 6, none⟩ = some (.int .u64 ((wd m1 5 : Nat) : Int)) ∧ W1.cell? ⟨gl, 7, none⟩ = some (.int .i64 X1) ∧ W1.cell? ⟨gl, 8, none⟩ = some (.int .u64 ((wd r1 0 : Nat) : Int)) ∧ W1.cell? ⟨gl, 9, none⟩ = some (.int .u64 ((wd r1 1 : Nat) : Int)) ∧ W1.cell? ⟨gl, 10, none⟩ = some (.int .u64 ((wd r1 2 : Nat) : Int)) ∧ W1.cell? ⟨gl, 11, none⟩ = some (.int .u64 ((wd r1 3 : Nat) : Int)) ∧ W1.cell? ⟨gl, 12, none⟩ = some (.int .u64 ((wd r1 4 : Nat) : Int)) ∧ W1.cell? ⟨gl, 13, none⟩ = some (.int .u64 ((wd r1 5 : Nat) : Int)) ∧ W1.cell? ⟨gl, 14, none⟩ = some (.int .u8 (c2 : Nat)) ∧ W1.cell? ⟨gl, 15, none⟩ = some (.int .u64 ((wd m2 0 : Nat) : Int)) ∧ W1.cell? ⟨gl, 16, none⟩ = some (.int .u64 ((wd m2 1 : Nat) : Int)) ∧ W1.cell? ⟨gl, 17, none⟩ = some (.int .u64 ((wd m2 2 : Nat) : Int)) ∧ W1.cell? ⟨gl, 18, none⟩ = some (.int .u64 ((wd m2 3 : Nat) : Int)) ∧ W1.cell? ⟨gl, 19, none⟩ = some (.int .u64 ((wd m2 4 : Nat) : Int)) ∧ W1.cell? ⟨gl, 20, none⟩ = some (.int .u64 ((wd m2 5 : Nat) : Int)) ∧ W1.cell? ⟨gl, 21, none⟩ = some (.int .i64 X2) ∧ W1.cell? ⟨gl, 22, none⟩ = some (.int .u64 ((wd r2 0 : Nat) : Int)) ∧ W1.cell? ⟨gl, 23, none⟩ = some (.int .u64 ((wd r2 1 : Nat) : Int)) ∧ W1.cell? ⟨gl, 24, none⟩ = some (.int .u64 ((wd r2 2 : Nat) : Int)) ∧ W1.cell? ⟨gl, 25, none⟩ = some (.int .u64 ((wd r2 3 : Nat) : Int)) ∧ W1.cell? ⟨gl, 26, none⟩ = some (.int .u64 ((wd r2 4 : Nat) : Int)) ∧ W1.cell? ⟨gl, 27, none⟩ = some (.int .u64 ((wd r2 5 : Nat) : Int)) ∧ W1.cell? ⟨gl, 28, none⟩ = some (.int .u8 (c3 : Nat)) ∧ W1.cell? ⟨gl, 29, none⟩ = some (.int .u64 ((wd m3 0 : Nat) : Int)) ∧ W1.cell? ⟨gl, 30, none⟩ = some (.int .u64 ((wd m3 1 : Nat) : Int)) ∧ W1.cell? ⟨gl, 31, none⟩ = some (.int .u64 ((wd m3 2 : Nat) : Int)) ∧ W1.cell? ⟨gl, 32, none⟩ = some (.int .u64 ((wd m3 3 : Nat) : Int)) ∧ W1.cell? ⟨gl, 33, none⟩ = some (.int .u64 ((wd m3 4 : Nat) : Int)) ∧ W1.cell? ⟨gl, 34, none⟩ = some (.int .u64 ((wd m3 5 : Nat) : Int)) ∧ W1.cell? ⟨gl, 35, none⟩ = some (.int .i64 X3) ∧ W1.cell? ⟨gl, 36, none⟩ = some (.int .u64 ((wd r3 0 : Nat) : Int)) ∧ W1.cell? ⟨gl, 37, none⟩ = some (.int .u64 ((wd r3 1 : Nat) : Int)) ∧ W1.cell? ⟨gl, 38, none⟩ = some (.int .u64 ((wd r3 2 : Nat) : Int)) ∧ W1.cell? ⟨gl, 39, none⟩ = some (.int .u64 ((wd r3 3 : Nat) : Int)) ∧ W1.cell? ⟨gl, 40, none⟩ = some (.int .u64 ((wd r3 4 : Nat) : Int)) ∧ W1.cell? ⟨gl, 41, none⟩ = some (.int .u64 ((wd r3 5 : Nat) : Int)))) := box (fun W W1 h b => ⟨btr h.1 b, Nat.le_trans h.2.1 b.size, heap_of b _ _ _ h.2.2.1, heap_of b _ _ _ h.2.2.2.1, heap_of b _ _ _ h.2.2.2.2.1, heap_of b _ _ _ h.2.2.2.2.2.1, heap_of b _ _ _ h.2.2.2.2.2.2.1, cell7 (heap_of b _ _ _ h.2.2.2.2.2.2.1) 0 _ rfl, cell7 (heap_of b _ _ _ h.2.2.2.2.2.2.1) 1 _ rfl, cell7 (heap_of b _ _ _ h.2.2.2.2.2.2.1) 2 _ rfl, cell7 (heap_of b _ _ _ h.2.2.2.2.2.2.1) 3 _ rfl, cell7 (heap_of b _ _ _ h.2.2.2.2.2.2.1) 4 _ rfl, cell7 (heap_of b _ _ _ h.2.2.2.2.2.2.1) 5 _ rfl, cell7 (heap_of b _ _ _ h.2.2.2.2.2.2.1) 6 _ rfl, cell7 (heap_of b _ _ _ h.2.2.2.2.2.2.1) 7 _ rfl, cell7 (heap_of b _ _ _ h.2.2.2.2.2.2.1) 8 _ rfl, cell7 (heap_of b _ _ _ h.2.2.2.2.2.2.1) 9 _ rfl, cell7 (heap_of b _ _ _ h.2.2.2.2.2.2.1) 10 _ rfl, cell7 (heap_of b _ _ _ h.2.2.2.2.2.2.1) 11 _ rfl, cell7 (heap_of b _ _ _ h.2.2.2.2.2.2.1) 12 _ rfl, cell7 (heap_of b _ _ _ h.2.2.2.2.2.2.1) 13 _ rfl, cell7 (heap_of b _ _ _ h.2.2.2.2.2.2.1) 14 _ rfl, cell7 (heap_of b _ _ _ h.2.2.2.2.2.2.1) 15 _ rfl, cell7 (heap_of b _ _ _ h.2.2.2.2.2.2.1) 16 _ rfl, cell7 (heap_of b _ _ _ h.2.2.2.2.2.2.1) 17 _ rfl, cell7 (heap_of b _ _ _ h.2.2.2.2.2.2.1) 18 _ rfl, cell7 (heap_of b _ _ _ h.2.2.2.2.2.2.1) 19 _ rfl, cell7 (heap_of b _ _ _ h.2.2.2.2.2.2.1) 20 _ rfl, cell7 (heap_of b _ _ _ h.2.2.2.2.2.2.1) 21 _ rfl, cell7 (heap_of b _ _ _ h.2.2.2.2.2.2.1) 22 _ rfl, cell7 (heap_of b _ _ _ h.2.2.2.2.2.2.1) 23 _ rfl, cell7 (heap_of b _ _ _ h.2.2.2.2.2.2.1) 24 _ rfl, cell7 (heap_of b _ _ _ h.2.2.2.2.2.2.1) 25 _ rfl, cell7 (heap_of b _ _ _ h.2.2.2.2.2.2.1) 26 _ rfl, cell7 (heap_of b _ _ _ h.2.2.2.2.2.2.1) 27 _ rfl, cell7 (heap_of b _ _ _ h.2.2.2.2.2.2.1) 28 _ rfl, cell7 (heap_of b _ _ _ h.2.2.2.2.2.2.1) 29 _ rfl, cell7 (heap_of b _ _ _ h.2.2.2.2.2.2.1) 30 _ rfl, cell7 (heap_of b _ _ _ h.2.2.2.2.2.2.1) 31 _ rfl, cell7 (heap_of b _ _ _ h.2.2.2.2.2.2.1) 32 _ rfl, cell7 (heap_of b _ _ _ h.2.2.2.2.2.2.1) 33 _ rfl, cell7 (heap_of b _ _ _ h.2.2.2.2.2.2.1) 34 _ rfl, cell7 (heap_of b _ _ _ h.2.2.2.2.2.2.1) 35 _ rfl, cell7 (heap_of b _ _ _ h.2.2.2.2.2.2.1) 36 _ rfl, cell7 (heap_of b _ _ _ h.2.2.2.2.2.2.1) 37 _ rfl, cell7 (heap_of b _ _ _ h.2.2.2.2.2.2.1) 38 _ rfl, cell7 (heap_of b _ _ _ h.2.2.2.2.2.2.1) 39 _ rfl, cell7 (heap_of b _ _ _ h.2.2.2.2.2.2.1) 40 _ rfl, cell7 (heap_of b _ _ _ h.2.2.2.2.2.2.1) 41 _ rfl⟩)
  have sT : Box (∀ (W : World) (gN : Nat) (xA : Array Value), (Below w.heap.size w W ∧ n0 ≤ W.heap.size ∧ W.heap[w.heap.size]? = some (Obj.cells #[.int .u64 (x1 : Nat), .int .u64 (y1 : Nat)] 26) ∧ W.heap[w.heap.size + 1]? = some (Obj.cells #[.int .u64 (x2 : Nat), .int .u64 (y2 : Nat)] 26) ∧ W.heap[w.heap.size + 1 + 1]? = some (Obj.cells #[.int .u64 (x3 : Nat), .int .u64 (y3 : Nat)] 26) ∧ W.heap[w.heap.size + 1 + 1 + 1]? = some (Obj.cells #[.int .u64 0, .int .u64 0] 26) ∧ W.heap[gl]? = some (Obj.cells (p3v c1 m1 X1 r1 c2 m2 X2 r2 c3 m3 X3 r3) 54) ∧ W.cell? ⟨gl, 0, none⟩ = some (.int .u8 (c1 : Nat)) ∧ W.cell? ⟨gl, 1, none⟩ = some (.int .u64 ((wd m1 0 : Nat) : Int)) ∧ W.cell? ⟨gl, 2, none⟩ = some (.int .u64 ((wd m1 1 : Nat) : Int)) ∧ W.cell? ⟨gl, 3, none⟩ = some (.int .u64 ((wd m1 2 : Nat) : Int)) ∧ W.cell? ⟨gl, 4, none⟩ = some (.int .u64 ((wd m1 3 : Nat) : Int)) ∧ W.cell? ⟨gl, 5, none⟩ = some (.int .u64 ((wd m1 4 : Nat) : Int)) ∧ W.cell? ⟨gl, 6, none⟩ = some (.int .u64 ((wd m1 5 : Nat) : Int)) ∧ W.cell? ⟨gl, 7, none⟩ = some (.int .i64 X1) ∧ W.cell? ⟨gl, 8, none⟩ = some (.int .u64 ((wd r1 0 : Nat) : Int)) ∧ W.cell? ⟨gl, 9, none⟩ = some (.int .u64 ((wd r1 1 : Nat) : Int)) ∧ W.cell? ⟨gl, 10, none⟩ = some (.int .u64 ((wd r1 2 : Nat) : Int)) ∧ W.cell? ⟨gl, 11, none⟩ = some (.int .u64 ((wd r1 3 : Nat) : Int)) ∧ W.cell? ⟨gl, 12, none⟩ = some (.int .u64 ((wd r1 4 : Nat) : Int)) ∧ W.cell? ⟨gl, 13, none⟩ = some (.int .u64 ((wd r1 5 : Nat) : Int)) ∧ W.cell? ⟨gl, 14, none⟩ = some (.int .u8 (c2 : Nat)) ∧ W.cell? ⟨gl, 15, none⟩ = some (.int .u64 ((wd m2 0 : Nat) : Int)) ∧ W.cell? ⟨gl, 16, none⟩ = some (.int .u64 ((wd m2 1 : Nat) : Int)) ∧ W.cell? ⟨gl, 17, none⟩ = some (.int .u64 ((wd m2 2 : Nat) : Int)) ∧ W.cell? ⟨gl, 18, none⟩ = some (.int .u64 ((wd m2 3 : Nat) : Int)) ∧ W.cell? ⟨gl, 19, none⟩ = some (.int .u64 ((wd m2 4 : Nat) : Int)) ∧ W.cell? ⟨gl, 20, none⟩ = some (.int .u64 ((wd m2 5 : Nat) : Int)) ∧ W.cell? ⟨gl, 21, none⟩ = some (.int .i64 X2) ∧ W.cell? ⟨gl, 22, none⟩ = some (.int .u64 ((wd r2 0 : Nat) : Int)) ∧ W.cell? ⟨gl, 23, none⟩ = some (.int .u64 ((wd r2 1 : Nat) : Int)) ∧ W.cell? ⟨gl, 24, none⟩ = some (.int .u64 ((wd r2 2 : Nat) : Int)) ∧ W.cell? ⟨gl, 25, none⟩ = some (.int .u64 ((wd r2 3 : Nat) : Int)) ∧ W.cell? ⟨gl, 26, none⟩ = some (.int .u64 ((wd r2 4 : Nat) : Int)) ∧ W.cell? ⟨gl, 27, none⟩ = some (.int .u64 ((wd r2 5 : Nat) : Int)) ∧ W.cell? ⟨gl, 28, none⟩ = some (.int .u8 (c3 : Nat)) ∧ W.cell? ⟨gl, 29, none⟩ = some (.int .u64 ((wd m3 0 : Nat) : Int)) ∧ W.cell? ⟨gl, 30, none⟩ = some (.int .u64 ((wd m3 1 : Nat) : Int)) ∧ W.cell? ⟨gl, 31, none⟩ = some (.int .u64 ((wd m3 2 : Nat) : Int)) ∧ W.cell? ⟨gl, 32, none⟩ = some (.int .u64 ((wd m3 3 : Nat) : Int)) ∧ W.cell? ⟨gl, 33, none⟩ = some (.int .u64 ((wd m3 4 : Nat) : Int)) ∧ W.cell? ⟨gl, 34, none⟩ = some (.int .u64 ((wd m3 5 : Nat) : Int)) ∧ W.cell? ⟨gl, 35, none⟩ = some (.int .i64 X3) ∧ W.cell? ⟨gl, 36, none⟩ = some (.int .u64 ((wd r3 0 : Nat) : Int)) ∧ W.cell? ⟨gl, 37, none⟩ = some (.int .u64 ((wd r3 1 : Nat) : Int)) ∧ W.cell? ⟨gl, 38, none⟩ = some (.int .u64 ((wd r3 2 : Nat) : Int)) ∧ W.cell? ⟨gl, 39, none⟩ = some (.int .u64 ((wd r3 3 : Nat) : Int)) ∧ W.cell? ⟨gl, 40, none⟩ = some (.int .u64 ((wd r3 4 : Nat) : Int)) ∧ W.cell? ⟨gl, 41, none⟩ = some (.int .u64 ((wd r3 5 : Nat) : Int))) → n0 ≤ gN → (Below w.heap.size w (W.setRow gN xA) ∧ n0 ≤ (W.setRow gN xA).heap.size ∧ (W.setRow gN xA).heap[w.heap.size]? = some (Obj.cells #[.int .u64 (x1 : Nat), .int .u64 (y1 : Nat)] 26) ∧ (W.setRow gN xA).heap[w.heap.size + 1]? = some (Obj.cells #[.int .u64 (x2 : Nat), .int .u64 (y2 : Nat)] 26) ∧ (W.setRow gN xA).heap[w.heap.size + 1 + 1]? = some (Obj.cells #[.int .u64 (x3 : Nat), .int .u64 (y3 : Nat)] 26) ∧ (W.setRow gN xA).heap[w.heap.size + 1 + 1 + 1]? = some (Obj.cells #[.int .u64 0, .int .u64 0] 26) ∧ (W.setRow gN xA).heap[gl]? = some (Obj.cells (p3v c1 m1 X1 r1 c2 m2 X2 r2 c3 m3 X3 r3) 54) ∧ (W.setRow gN xA).cell? ⟨gl, 0, none⟩ = some (.int .u8 (c1 : Nat)) ∧ (W.setRow gN xA).cell? ⟨gl, 1, none⟩ = some (.int .u64 ((wd m1 0 : Nat) : Int)) ∧ (W.setRow gN xA).cell? ⟨gl, 2, none⟩ = some (.int .u64 ((wd m1 1 : Nat) : Int)) ∧ (W.setRow gN xA).cell? ⟨gl, 3, none⟩ = some (.int .u64 ((wd m1 2 : Nat) : Int)) ∧ (W.setRow gN xA).cell? ⟨gl, 4, none⟩ = some (.int .u64 ((wd m1 3 : Nat) : Int)) ∧ (W.setRow gN xA).cell? ⟨gl, 5, none⟩ = some (.int .u64 ((wd m1 4 : Nat) : Int)) ∧ (W.setRow gN xA).cell? ⟨gl, 6, none⟩ = some (.int .u64 ((wd m1 5 : Nat) : Int)) ∧ (W.setRow gN xA).cell? ⟨gl, 7, none⟩ = some (.int .i64 X1) ∧ (W.setRow gN xA).cell? ⟨gl, 8, none⟩ = some (.int .u64 ((wd r1 0 : Nat) : Int)) ∧ (W.setRow gN xA).cell? ⟨gl, 9, none⟩ = some (.int .u64 ((wd r1 1 : Nat) : Int)) ∧ (W.setRow gN xA).cell? ⟨gl, 10, none⟩ = some (.int .u64 ((wd r1 2 : Nat) : Int)) ∧ (W.setRow gN xA).cell? ⟨gl, 11, none⟩ = some (.int .u64 ((wd r1 3 : Nat) : Int)) ∧ (W.setRow gN xA).cell? ⟨gl, 12, none⟩ = some (.int .u64 ((wd r1 4 : Nat) : Int)) ∧ (W.setRow gN xA).cell? ⟨gl, 13, none⟩ = some (.int .u64 ((wd r1 5 : Nat) : Int)) ∧ (W.setRow gN xA).cell? ⟨gl, 14, none⟩ = some (.int .u8 (c2 : Nat)) ∧ (W.setRow gN xA).cell? ⟨gl, 15, none⟩ = some (.int .u64 ((wd m2 0 : Nat) : Int)) ∧ (W.setRow gN xA).cell? ⟨gl, 16, none⟩ = some (.int .u64 ((wd m2 1 : Nat) : Int)) ∧ (W.setRow gN xA).cell? ⟨gl, 17, none⟩ = some (.int .u64 ((wd m2 2 : Nat) : Int)) ∧ (W.setRow gN xA).cell? ⟨gl, 18, none⟩ = some (.int .u64 ((wd m2 3 : Nat) : Int)) ∧ (W.setRow gN xA).cell? ⟨gl, 19, none⟩ = some (.int .u64 ((wd m2 4 : Nat) : Int)) ∧ (W.setRow gN xA).cell? ⟨gl, 20, none⟩ = some (.int .u64 ((wd m2 5 : Nat) : Int)) ∧ (W.setRow gN xA).cell? ⟨gl, 21, none⟩ = some (.int .i64 X2) ∧ (W.setRow gN xA).cell? ⟨gl, 22, none⟩ = some (.int .u64 ((wd r2 0 : Nat) : Int)) ∧ (W.setRow gN xA).cell? ⟨gl, 23, none⟩ = some (.int .u64 ((wd r2 1 : Nat) : Int)) ∧ (W.setRow gN xA).cell? ⟨gl, 24, none⟩ = some (.int .u64 ((wd r2 2 : Nat) : Int)) ∧ (W.setRow gN xA).cell? ⟨gl, 25, none⟩ = some (.int .u64 ((wd r2 3 : Nat) : Int)) ∧ (W.setRow gN xA).cell? ⟨gl, 26, none⟩ = some (.int .u64 ((wd r2 4 : Nat) : Int)) ∧ (W.setRow gN xA).cell? ⟨gl, 27, none⟩ = some (.int .u64 ((wd r2 5 : Nat) : Int)) ∧ (W.setRow gN xA).cell? ⟨gl, 28, none⟩ = some (.int .u8 (c3 : Nat)) ∧ (W.setRow gN xA).cell? ⟨gl, 29, none⟩ = some (.int .u64 ((wd m3 0 : Nat) : Int)) ∧ (W.setRow gN xA).cell? ⟨gl, 30, none⟩ = some (.int .u64 ((wd m3 1 : Nat) : Int)) ∧ (W.setRow gN xA).cell? ⟨gl, 31, none⟩ = some (.int .u64 ((wd m3 2 : Nat) : Int)) ∧ (W.setRow gN xA).cell? ⟨gl, 32, none⟩ = some (.int .u64 ((wd m3 3 : Nat) : Int)) ∧ (W.setRow gN xA).cell? ⟨gl, 33, none⟩ = some (.int .u64 ((wd m3 4 : Nat) : Int)) ∧ (W.setRow gN xA).cell? ⟨gl, 34, none⟩ = some (.int .u64 ((wd m3 5 : Nat) : Int)) ∧ (W.setRow gN xA).cell? ⟨gl, 35, none⟩ = some (.int .i64 X3) ∧ (W.setRow gN xA).cell? ⟨gl, 36, none⟩ = some (.int .u64 ((wd r3 0 : Nat) : Int)) ∧ (W.setRow gN xA).cell? ⟨gl, 37, none⟩ = some (.int .u64 ((wd r3 1 : Nat) : Int)) ∧ (W.setRow gN xA).cell? ⟨gl, 38, none⟩ = some (.int .u64 ((wd r3 2 : Nat) : Int)) ∧ (W.setRow gN xA).cell? ⟨gl, 39, none⟩ = some (.int .u64 ((wd r3 3 : Nat) : Int)) ∧ (W.setRow gN xA).cell? ⟨gl, 40, none⟩ = some (.int .u64 ((wd r3 4 : Nat) : Int)) ∧ (W.setRow gN xA).cell? ⟨gl, 41, none⟩ = some (.int .u64 ((wd r3 5 : Nat) : Int)))) := box (fun W gN xA h l => ⟨bel_set h.1 (Nat.le_trans Lw.out l), Nat.le_trans h.2.1 (Below.setRow (Below.refl 0 W) (Nat.zero_le _)).size, (setRow_other (by have := L0.out.1; omega)).trans h.2.2.1, (setRow_other (by have := L0.out.2.1; omega)).trans h.2.2.2.1, (setRow_other (by have := L0.out.2.2.1; omega)).trans h.2.2.2.2.1, (setRow_other (by have := L0.out.2.2.2.1; omega)).trans h.2.2.2.2.2.1, (setRow_other (by have := L0.out.2.2.2.2; omega)).trans h.2.2.2.2.2.2.1, cell7 ((setRow_other (by have := L0.out.2.2.2.2; omega)).trans h.2.2.2.2.2.2.1) 0 _ rfl, cell7 ((setRow_other (by have := L0.out.2.2.2.2; omega)).trans h.2.2.2.2.2.2.1) 1 _ rfl, cell7 ((setRow_other (by have := L0.out.2.2.2.2; omega)).trans h.2.2.2.2.2.2.1) 2 _ rfl, cell7 ((setRow_other (by have := L0.out.2.2.2.2; omega)).trans h.2.2.2.2.2.2.1) 3 _ rfl, cell7 ((setRow_other (by have := L0.out.2.2.2.2; omega)).trans h.2.2.2.2.2.2.1) 4 _ rfl, cell7 ((setRow_other (by have := L0.out.2.2.2.2; omega)).trans h.2.2.2.2.2.2.1) 5 _ rfl, cell7 ((setRow_other (by have := L0.out.2.2.2.2; omega)).trans h.2.2.2.2.2.2.1) 6 _ rfl, cell7 ((setRow_other (by have := L0.out.2.2.2.2; omega)).trans h.2.2.2.2.2.2.1) 7 _ rfl, cell7 ((setRow_other (by have := L0.out.2.2.2.2; omega)).trans h.2.2.2.2.2.2.1) 8 _ rfl, cell7 ((setRow_other (by have := L0.out.2.2.2.2; omega)).trans h.2.2.2.2.2.2.1) 9 _ rfl, cell7 ((setRow_other (by have := L0.out.2.2.2.2; omega)).trans h.2.2.2.2.2.2.1) 10 _ rfl, cell7 ((setRow_other (by have := L0.out.2.2.2.2; omega)).trans h.2.2.2.2.2.2.1) 11 _ rfl, cell7 ((setRow_other (by have := L0.out.2.2.2.2; omega)).trans h.2.2.2.2.2.2.1) 12 _ rfl, cell7 ((setRow_other (by have := L0.out.2.2.2.2; omega)).trans h.2.2.2.2.2.2.1) 13 _ rfl, cell7 ((setRow_other (by have := L0.out.2.2.2.2; omega)).trans h.2.2.2.2.2.2.1) 14 _ rfl, cell7 ((setRow_other (by have := L0.out.2.2.2.2; omega)).trans h.2.2.2.2.2.2.1) 15 _ rfl, cell7 ((setRow_other (by have := L0.out.2.2.2.2; omega)).trans h.2.2.2.2.2.2.1) 16 _ rfl, cell7 ((setRow_other (by have := L0.out.2.2.2.2; omega)).trans h.2.2.2.2.2.2.1) 17 _ rfl, cell7 ((setRow_other (by have := L0.out.2.2.2.2; omega)).trans h.2.2.2.2.2.2.1) 18 _ rfl, cell7 ((setRow_other (by have := L0.out.2.2.2.2; omega)).trans h.2.2.2.2.2.2.1) 19 _ rfl, cell7 ((setRow_other (by have := L0.out.2.2.2.2; omega)).trans h.2.2.2.2.2.2.1) 20 _ rfl, cell7 ((setRow_other (by have := L0.out.2.2.2.2; omega)).trans h.2.2.2.2.2.2.1) 21 _ rfl, cell7 ((setRow_other (by have := L0.out.2.2.2.2; omega)).trans h.2.2.2.2.2.2.1) 22 _ rfl, cell7 ((setRow_other (by have := L0.out.2.2.2.2; omega)).trans h.2.2.2.2.2.2.1) 23 _ rfl, cell7 ((setRow_other (by have := L0.out.2.2.2.2; omega)).trans h.2.2.2.2.2.2.1) 24 _ rfl, cell7 ((setRow_other (by have := L0.out.2.2.2.2; omega)).trans h.2.2.2.2.2.2.1) 25 _ rfl, cell7 ((setRow_other (by have := L0.out.2.2.2.2; omega)).trans h.2.2.2.2.2.2.1) 26 _ rfl, cell7 ((setRow_other (by have := L0.out.2.2.2.2; omega)).trans h.2.2.2.2.2.2.1) 27 _ rfl, cell7 ((setRow_other (by have := L0.out.2.2.2.2; omega)).trans h.2.2.2.2.2.2.1) 28 _ rfl, cell7 ((setRow_other (by have := L0.out.2.2.2.2; omega)).trans h.2.2.2.2.2.2.1) 29 _ rfl, cell7 ((setRow_other (by have := L0.out.2.2.2.2; omega)).trans h.2.2.2.2.2.2.1) 30 _ rfl, cell7 ((setRow_other (by have := L0.out.2.2.2.2; omega)).trans h.2.2.2.2.2.2.1) 31 _ rfl, cell7 ((setRow_other (by have := L0.out.2.2.2.2; omega)).trans h.2.2.2.2.2.2.1) 32 _ rfl, cell7 ((setRow_other (by have := L0.out.2.2.2.2; omega)).trans h.2.2.2.2.2.2.1) 33 _ rfl, cell7 ((setRow_other (by have := L0.out.2.2.2.2; omega)).trans h.2.2.2.2.2.2.1) 34 _ rfl, cell7 ((setRow_other (by have := L0.out.2.2.2.2; omega)).trans h.2.2.2.2.2.2.1) 35 _ rfl, cell7 ((setRow_other (by have := L0.out.2.2.2.2; omega)).trans h.2.2.2.2.2.2.1) 36 _ rfl, cell7 ((setRow_other (by have := L0.out.2.2.2.2; omega)).trans h.2.2.2.2.2.2.1) 37 _ rfl, cell7 ((setRow_other (by have := L0.out.2.2.2.2; omega)).trans h.2.2.2.2.2.2.1) 38 _ rfl, cell7 ((setRow_other (by have := L0.out.2.2.2.2; omega)).trans h.2.2.2.2.2.2.1) 39 _ rfl, cell7 ((setRow_other (by have := L0.out.2.2.2.2; omega)).trans h.2.2.2.2.2.2.1) 40 _ rfl, cell7 ((setRow_other (by have := L0.out.2.2.2.2; omega)).trans h.2.2.2.2.2.2.1) 41 _ rfl⟩)
  have z0 : Box (Below w.heap.size w (w1).drew ∧ n0 ≤ (w1).drew.heap.size ∧ (w1).drew.heap[w.heap.size]? = some (Obj.cells #[.int .u64 (x1 : Nat), .int .u64 (y1 : Nat)] 26) ∧ (w1).drew.heap[w.heap.size + 1]? = some (Obj.cells #[.int .u64 (x2 : Nat), .int .u64 (y2 : Nat)] 26) ∧ (w1).drew.heap[w.heap.size + 1 + 1]? = some (Obj.cells #[.int .u64 (x3 : Nat), .int .u64 (y3 : Nat)] 26) ∧ (w1).drew.heap[w.heap.size + 1 + 1 + 1]? = some (Obj.cells #[.int .u64 0, .int .u64 0] 26) ∧ (w1).drew.heap[gl]? = some (Obj.cells (p3v c1 m1 X1 r1 c2 m2 X2 r2 c3 m3 X3 r3) 54) ∧ (w1).drew.cell? ⟨gl, 0, none⟩ = some (.int .u8 (c1 : Nat)) ∧ (w1).drew.cell? ⟨gl, 1, none⟩ = some (.int .u64 ((wd m1 0 : Nat) : Int)) ∧ (w1).drew.cell? ⟨gl, 2, none⟩ = some (.int .u64 ((wd m1 1 : Nat) : Int)) ∧ (w1).drew.cell? ⟨gl, 3, none⟩ = some (.int .u64 ((wd m1 2 : Nat) : Int)) ∧ (w1).drew.cell? ⟨gl, 4, none⟩ = some (.int .u64 ((wd m1 3 : Nat) : Int)) ∧ (w1).drew.cell? ⟨gl, 5, none⟩ = some (.int .u64 ((wd m1 4 : Nat) : Int)) ∧ (w1).drew.cell? ⟨gl, 6, none⟩ = some (.int .u64 ((wd m1 5 : Nat) : Int)) ∧ (w1).drew.cell? ⟨gl, 7, none⟩ = some (.int .i64 X1) ∧ (w1).drew.cell? ⟨gl, 8, none⟩ = some (.int .u64 ((wd r1 0 : Nat) : Int)) ∧ (w1).drew.cell? ⟨gl, 9, none⟩ = some (.int .u64 ((wd r1 1 : Nat) : Int)) ∧ (w1).drew.cell? ⟨gl, 10, none⟩ = some (.int .u64 ((wd r1 2 : Nat) : Int)) ∧ (w1).drew.cell? ⟨gl, 11, none⟩ = some (.int .u64 ((wd r1 3 : Nat) : Int)) ∧ (w1).drew.cell? ⟨gl, 12, none⟩ = some (.int .u64 ((wd r1 4 : Nat) : Int)) ∧ (w1).drew.cell? ⟨gl, 13, none⟩ = some (.int .u64 ((wd r1 5 : Nat) : Int)) ∧ (w1).drew.cell? ⟨gl, 14, none⟩ = some (.int .u8 (c2 : Nat)) ∧ (w1).drew.cell? ⟨gl, 15, none⟩ = some (.int .u64 ((wd m2 0 : Nat) : Int)) ∧ (w1).drew.cell? ⟨gl, 16, none⟩ = some (.int .u64 ((wd m2 1 : Nat) : Int)) ∧ (w1).drew.cell? ⟨gl, 17, none⟩ = some (.int .u64 ((wd m2 2 : Nat) : Int)) ∧ (w1).drew.cell? ⟨gl, 18, none⟩ = some (.int .u64 ((wd m2 3 : Nat) : Int)) ∧ (w1).drew.cell? ⟨gl, 19, none⟩ = some (.int .u64 ((wd m2 4 : Nat) : Int)) ∧ (w1).drew.cell? ⟨gl, 20, none⟩ = some (.int .u64 ((wd m2 5 : Nat) : Int)) ∧ (w1).drew.cell? ⟨gl, 21, none⟩ = some (.int .i64 X2) ∧ (w1).drew.cell? ⟨gl, 22, none⟩ = some (.int .u64 ((wd r2 0 : Nat) : Int)) ∧ (w1).drew.cell? ⟨gl, 23, none⟩ = some (.int .u64 ((wd r2 1 : Nat) : Int)) ∧ (w1).drew.cell? ⟨gl, 24, none⟩ = some (.int .u64 ((wd r2 2 : Nat) : Int)) ∧ (w1).drew.cell? ⟨gl, 25, none⟩ = some (.int .u64 ((wd r2 3 : Nat) : Int)) ∧ (w1).drew.cell? ⟨gl, 26, none⟩ = some (.int .u64 ((wd r2 4 : Nat) : Int)) ∧ (w1).drew.cell? ⟨gl, 27, none⟩ = some (.int .u64 ((wd r2 5 : Nat) : Int)) ∧ (w1).drew.cell? ⟨gl, 28, none⟩ = some (.int .u8 (c3 : Nat)) ∧ (w1).drew.cell? ⟨gl, 29, none⟩ = some (.int .u64 ((wd m3 0 : Nat) : Int)) ∧ (w1).drew.cell? ⟨gl, 30, none⟩ = some (.int .u64 ((wd m3 1 : Nat) : Int)) ∧ (w1).drew.cell? ⟨gl, 31, none⟩ = some (.int .u64 ((wd m3 2 : Nat) : Int)) ∧ (w1).drew.cell? ⟨gl, 32, none⟩ = some (.int .u64 ((wd m3 3 : Nat) : Int)) ∧ (w1).drew.cell? ⟨gl, 33, none⟩ = some (.int .u64 ((wd m3 4 : Nat) : Int)) ∧ (w1).drew.cell? ⟨gl, 34, none⟩ = some (.int .u64 ((wd m3 5 : Nat) : Int)) ∧ (w1).drew.cell? ⟨gl, 35, none⟩ = some (.int .i64 X3) ∧ (w1).drew.cell? ⟨gl, 36, none⟩ = some (.int .u64 ((wd r3 0 : Nat) : Int)) ∧ (w1).drew.cell? ⟨gl, 37, none⟩ = some (.int .u64 ((wd r3 1 : Nat) : Int)) ∧ (w1).drew.cell? ⟨gl, 38, none⟩ = some (.int .u64 ((wd r3 2 : Nat) : Int)) ∧ (w1).drew.cell? ⟨gl, 39, none⟩ = some (.int .u64 ((wd r3 3 : Nat) : Int)) ∧ (w1).drew.cell? ⟨gl, 40, none⟩ = some (.int .u64 ((wd r3 4 : Nat) : Int)) ∧ (w1).drew.cell? ⟨gl, 41, none⟩ = some (.int .u64 ((wd r3 5 : Nat) : Int))) := box ⟨B1.drew, Nat.le_of_eq hn0.symm, Ra_1, Rb_1, Rc_1, Rz_1, Rl_1, cell7 (Rl_1) 0 _ rfl, cell7 (Rl_1) 1 _ rfl, cell7 (Rl_1) 2 _ rfl, cell7 (Rl_1) 3 _ rfl, cell7 (Rl_1) 4 _ rfl, cell7 (Rl_1) 5 _ rfl, cell7 (Rl_1) 6 _ rfl, cell7 (Rl_1) 7 _ rfl, cell7 (Rl_1) 8 _ rfl, cell7 (Rl_1) 9 _ rfl, cell7 (Rl_1) 10 _ rfl, cell7 (Rl_1) 11 _ rfl, cell7 (Rl_1) 12 _ rfl, cell7 (Rl_1) 13 _ rfl, cell7 (Rl_1) 14 _ rfl, cell7 (Rl_1) 15 _ rfl, cell7 (Rl_1) 16 _ rfl, cell7 (Rl_1) 17 _ rfl, cell7 (Rl_1) 18 _ rfl, cell7 (Rl_1) 19 _ rfl, cell7 (Rl_1) 20 _ rfl, cell7 (Rl_1) 21 _ rfl, cell7 (Rl_1) 22 _ rfl, cell7 (Rl_1) 23 _ rfl, cell7 (Rl_1) 24 _ rfl, cell7 (Rl_1) 25 _ rfl, cell7 (Rl_1) 26 _ rfl, cell7 (Rl_1) 27 _ rfl, cell7 (Rl_1) 28 _ rfl, cell7 (Rl_1) 29 _ rfl, cell7 (Rl_1) 30 _ rfl, cell7 (Rl_1) 31 _ rfl, cell7 (Rl_1) 32 _ rfl, cell7 (Rl_1) 33 _ rfl, cell7 (Rl_1) 34 _ rfl, cell7 (Rl_1) 35 _ rfl, cell7 (Rl_1) 36 _ rfl, cell7 (Rl_1) 37 _ rfl, cell7 (Rl_1) 38 _ rfl, cell7 (Rl_1) 39 _ rfl, cell7 (Rl_1) 40 _ rfl, cell7 (Rl_1) 41 _ rfl⟩
  clear B1 Ra_1 ca_1_0 ca_1_1 Rb_1 cb_1_0 cb_1_1 Rc_1 cc_1_0 cc_1_1 Rz_1 Rl_1
  have ge1 : n0 ≤ w1.heap.size := by omega
  have ge2 : n0 ≤ w1.heap.size + 1 := by omega
  have ge3 : n0 ≤ w1.heap.size + 1 + 1 := by omega
  clear hn0
  go_wp2_with fail
  apply cut7
  · intro key0
    have key := box key0
    clear key0
    have sV : Box (Below w.heap.size w (((w1.alloc (Obj.cells (pt 0 0 0 0) 54)).alloc (Obj.cells (pt 0 0 0 0) 54)).alloc (Obj.cells (pt 0 0 0 0) 54)).drew ∧ n0 ≤ (((w1.alloc (Obj.cells (pt 0 0 0 0) 54)).alloc (Obj.cells (pt 0 0 0 0) 54)).alloc (Obj.cells (pt 0 0 0 0) 54)).drew.heap.size ∧ (((w1.alloc (Obj.cells (pt 0 0 0 0) 54)).alloc (Obj.cells (pt 0 0 0 0) 54)).alloc (Obj.cells (pt 0 0 0 0) 54)).drew.heap[w.heap.size]? = some (Obj.cells #[.int .u64 (x1 : Nat), .int .u64 (y1 : Nat)] 26) ∧ (((w1.alloc (Obj.cells (pt 0 0 0 0) 54)).alloc (Obj.cells (pt 0 0 0 0) 54)).alloc (Obj.cells (pt 0 0 0 0) 54)).drew.heap[w.heap.size + 1]? = some (Obj.cells #[.int .u64 (x2 : Nat), .int .u64 (y2 : Nat)] 26) ∧ (((w1.alloc (Obj.cells (pt 0 0 0 0) 54)).alloc (Obj.cells (pt 0 0 0 0) 54)).alloc (Obj.cells (pt 0 0 0 0) 54)).drew.heap[w.heap.size + 1 + 1]? = some (Obj.cells #[.int .u64 (x3 : Nat), .int .u64 (y3 : Nat)] 26) ∧ (((w1.alloc (Obj.cells (pt 0 0 0 0) 54)).alloc (Obj.cells (pt 0 0 0 0) 54)).alloc (Obj.cells (pt 0 0 0 0) 54)).drew.heap[w.heap.size + 1 + 1 + 1]? = some (Obj.cells #[.int .u64 0, .int .u64 0] 26) ∧ (((w1.alloc (Obj.cells (pt 0 0 0 0) 54)).alloc (Obj.cells (pt 0 0 0 0) 54)).alloc (Obj.cells (pt 0 0 0 0) 54)).drew.heap[gl]? = some (Obj.cells (p3v c1 m1 X1 r1 c2 m2 X2 r2 c3 m3 X3 r3) 54) ∧ (((w1.alloc (Obj.cells (pt 0 0 0 0) 54)).alloc (Obj.cells (pt 0 0 0 0) 54)).alloc (Obj.cells (pt 0 0 0 0) 54)).drew.cell? ⟨gl, 0, none⟩ = some (.int .u8 (c1 : Nat)) ∧ (((w1.alloc (Obj.cells (pt 0 0 0 0) 54)).alloc (Obj.cells (pt 0 0 0 0) 54)).alloc (Obj.cells (pt 0 0 0 0) 54)).drew.cell? ⟨gl, 1, none⟩ = some (.int .u64 ((wd m1 0 : Nat) : Int)) ∧ (((w1.alloc (Obj.cells (pt 0 0 0 0) 54)).alloc (Obj.cells (pt 0 0 0 0) 54)).alloc (Obj.cells (pt 0 0 0 0) 54)).drew.cell? ⟨gl, 2, none⟩ = some (.int .u64 ((wd m1 1 : Nat) : Int)) ∧ (((w1.alloc (Obj.cells (pt 0 0 0 0) 54)).alloc (Obj.cells (pt 0 0 0 0) 54)).alloc (Obj.cells (pt 0 0 0 0) 54)).drew.cell? ⟨gl, 3, none⟩ = some (.int .u64 ((wd m1 2 : Nat) : Int)) ∧ (((w1.alloc (Obj.cells (pt 0 0 0 0) 54)).alloc (Obj.cells (pt 0 0 0 0) 54)).alloc (Obj.cells (pt 0 0 0 0) 54)).drew.cell? ⟨gl, 4, none⟩ = some (.int .u64 ((wd m1 3 : Nat) : Int)) ∧ (((w1.alloc (Obj.cells (pt 0 0 0 0) 54)).alloc (Obj.cells (pt 0 0 0 0) 54)).alloc (Obj.cells (pt 0 0 0 0) 54)).drew.cell? ⟨gl, 5, none⟩ = some (.int .u64 ((wd m1 4 : Nat) : Int)) ∧ (((w1.alloc (Obj.cells (pt 0 0 0 0) 54)).alloc (Obj.cells (pt 0 0 0 0) 54)).alloc (Obj.cells (pt 0 0 0 0) 54)).drew.cell? ⟨gl, 6, none⟩ = some (.int .u64 ((wd m1 5 : Nat) : Int)) ∧ (((w1.alloc (Obj.cells (pt 0 0 0 0) 54)).alloc (Obj.cells (pt 0 0 0 0) 54)).alloc (Obj.cells (pt 0 0 0 0) 54)).drew.cell? ⟨gl, 7, none⟩ = some (.int .i64 X1) ∧ (((w1.alloc (Obj.cells (pt 0 0 0 0) 54)).alloc (Obj.cells (pt 0 0 0 0) 54)).alloc (Obj.cells (pt 0 0 0 0) 54)).drew.cell? ⟨gl, 8, none⟩ = some (.int .u64 ((wd r1 0 : Nat) : Int)) ∧ (((w1.alloc (Obj.cells (pt 0 0 0 0) 54)).alloc (Obj.cells (pt 0 0 0 0) 54)).alloc (Obj.cells (pt 0 0 0 0) 54)).drew.cell? ⟨gl, 9, none⟩ = some (.int .u64 ((wd r1 1 : Nat) : Int)) ∧ (((w1.alloc (Obj.cells (pt 0 0 0 0) 54)).alloc (Obj.cells (pt 0 0 0 0) 54)).alloc (Obj.cells (pt 0 0 0 0) 54)).drew.cell? ⟨gl, 10, none⟩ = some (.int .u64 ((wd r1 2 : Nat) : Int)) ∧ (((w1.alloc (Obj.cells (pt 0 0 0 0) 54)).alloc (Obj.cells (pt 0 0 0 0) 54)).alloc (Obj.cells (pt 0 0 0 0) 54)).drew.cell? ⟨gl, 11, none⟩ = some (.int .u64 ((wd r1 3 : Nat) : Int)) ∧ (((w1.alloc (Obj.cells (pt 0 0 0 0) 54)).alloc (Obj.cells (pt 0 0 0 0) 54)).alloc (Obj.cells (pt 0 0 0 0) 54)).drew.cell? ⟨gl, 12, none⟩ = some (.int .u64 ((wd r1 4 : Nat) : Int)) ∧ (((w1.alloc (Obj.cells (pt 0 0 0 0) 54)).alloc (Obj.cells (pt 0 0 0 0) 54)).alloc (Obj.cells (pt 0 0 0 0) 54)).drew.cell? ⟨gl, 13, none⟩ = some (.int .u64 ((wd r1 5 : Nat) : Int)) ∧ (((w1.alloc (Obj.cells (pt 0 0 0 0) 54)).alloc (Obj.cells (pt 0 0 0 0) 54)).alloc (Obj.cells (pt 0 0 0 0) 54)).drew.cell? ⟨gl, 14, none⟩ = some (.int .u8 (c2 : Nat)) ∧ (((w1.alloc (Obj.cells (pt 0 0 0 0) 54)).alloc (Obj.cells (pt 0 0 0 0) 54)).alloc (Obj.cells (pt 0 0 0 0) 54)).drew.cell? ⟨gl, 15, none⟩ = some (.int .u64 ((wd m2 0 : Nat) : Int)) ∧ (((w1.alloc (Obj.cells (pt 0 0 0 0) 54)).alloc (Obj.cells (pt 0 0 0 0) 54)).alloc (Obj.cells (pt 0 0 0 0) 54)).drew.cell? ⟨gl, 16, none⟩ = some (.int .u64 ((wd m2 1 : Nat) : Int)) ∧ (((w1.alloc (Obj.cells (pt 0 0 0 0) 54)).alloc (Obj.cells (pt 0 0 0 0) 54)).alloc (Obj.cells (pt 0 0 0 0) 54)).drew.cell? ⟨gl, 17, none⟩ = some (.int .u64 ((wd m2 2 : Nat) : Int)) ∧ (((w1.alloc (Obj.cells (pt 0 0 0 0) 54)).alloc (Obj.cells (pt 0 0 0 0) 54)).alloc (Obj.cells (pt 0 0 0 0) 54)).drew.cell? ⟨gl, 18, none⟩ = some (.int .u64 ((wd m2 3 : Nat) : Int)) ∧ (((w1.alloc (Obj.cells (pt 0 0 0 0) 54)).alloc (Obj.cells (pt 0 0 0 0) 54)).alloc (Obj.cells (pt 0 0 0 0) 54)).drew.cell? ⟨gl, 19, none⟩ = some (.int .u64 ((wd m2 4 : Nat) : Int)) ∧ (((w1.alloc (Obj.cells (pt 0 0 0 0) 54)).alloc (Obj.cells (pt 0 0 0 0) 54)).alloc (Obj.cells (pt 0 0 0 0) 54)).drew.cell? ⟨gl, 20, none⟩ = some (.int .u64 ((wd m2 5 : Nat) : Int)) ∧ (((w1.alloc (Obj.cells (pt 0 0 0 0) 54)).alloc (Obj.cells (pt 0 0 0 0) 54)).alloc (Obj.cells (pt 0 0 0 0) 54)).drew.cell? ⟨gl, 21, none⟩ = some (.int .i64 X2) ∧ (((w1.alloc (Obj.cells (pt 0 0 0 0) 54)).alloc (Obj.cells (pt 0 0 0 0) 54)).alloc (Obj.cells (pt 0 0 0 0) 54)).drew.cell? ⟨gl, 22, none⟩ = some (.int .u64 ((wd r2 0 : Nat) : Int)) ∧ (((w1.alloc (Obj.cells (pt 0 0 0 0) 54)).alloc (Obj.cells (pt 0 0 0 0) 54)).alloc (Obj.cells (pt 0 0 0 0) 54)).drew.cell? ⟨gl, 23, none⟩ = some (.int .u64 ((wd r2 1 : Nat) : Int)) ∧ (((w1.alloc (Obj.cells (pt 0 0 0 0) 54)).alloc (Obj.cells (pt 0 0 0 0) 54)).alloc (Obj.cells (pt 0 0 0 0) 54)).drew.cell? ⟨gl, 24, none⟩ = some (.int .u64 ((wd r2 2 : Nat) : Int)) ∧ (((w1.alloc (Obj.cells (pt 0 0 0 0) 54)).alloc (Obj.cells (pt 0 0 0 0) 54)).alloc (Obj.cells (pt 0 0 0 0) 54)).drew.cell? ⟨gl, 25, none⟩ = some (.int .u64 ((wd r2 3 : Nat) : Int)) ∧ (((w1.alloc (Obj.cells (pt 0 0 0 0) 54)).alloc (Obj.cells (pt 0 0 0 0) 54)).alloc (Obj.cells (pt 0 0 0 0) 54)).drew.cell? ⟨gl, 26, none⟩ = some (.int .u64 ((wd r2 4 : Nat) : Int)) ∧ (((w1.alloc (Obj.cells (pt 0 0 0 0) 54)).alloc (Obj.cells (pt 0 0 0 0) 54)).alloc (Obj.cells (pt 0 0 0 0) 54)).drew.cell? ⟨gl, 27, none⟩ = some (.int .u64 ((wd r2 5 : Nat) : Int)) ∧ (((w1.alloc (Obj.cells (pt 0 0 0 0) 54)).alloc (Obj.cells (pt 0 0 0 0) 54)).alloc (Obj.cells (pt 0 0 0 0) 54)).drew.cell? ⟨gl, 28, none⟩ = some (.int .u8 (c3 : Nat)) ∧ (((w1.alloc (Obj.cells (pt 0 0 0 0) 54)).alloc (Obj.cells (pt 0 0 0 0) 54)).alloc (Obj.cells (pt 0 0 0 0) 54)).drew.cell? ⟨gl, 29, none⟩ = some (.int .u64 ((wd m3 0 : Nat) : Int)) ∧ (((w1.alloc (Obj.cells (pt 0 0 0 0) 54)).alloc (Obj.cells (pt 0 0 0 0) 54)).alloc (Obj.cells (pt 0 0 0 0) 54)).drew.cell? ⟨gl, 30, none⟩ = some (.int .u64 ((wd m3 1 : Nat) : Int)) ∧ (((w1.alloc (Obj.cells (pt 0 0 0 0) 54)).alloc (Obj.cells (pt 0 0 0 0) 54)).alloc (Obj.cells (pt 0 0 0 0) 54)).drew.cell? ⟨gl, 31, none⟩ = some (.int .u64 ((wd m3 2 : Nat) : Int)) ∧ (((w1.alloc (Obj.cells (pt 0 0 0 0) 54)).alloc (Obj.cells (pt 0 0 0 0) 54)).alloc (Obj.cells (pt 0 0 0 0) 54)).drew.cell? ⟨gl, 32, none⟩ = some (.int .u64 ((wd m3 3 : Nat) : Int)) ∧ (((w1.alloc (Obj.cells (pt 0 0 0 0) 54)).alloc (Obj.cells (pt 0 0 0 0) 54)).alloc (Obj.cells (pt 0 0 0 0) 54)).drew.cell? ⟨gl, 33, none⟩ = some (.int .u64 ((wd m3 4 : Nat) : Int)) ∧ (((w1.alloc (Obj.cells (pt 0 0 0 0) 54)).alloc (Obj.cells (pt 0 0 0 0) 54)).alloc (Obj.cells (pt 0 0 0 0) 54)).drew.cell? ⟨gl, 34, none⟩ = some (.int .u64 ((wd m3 5 : Nat) : Int)) ∧ (((w1.alloc (Obj.cells (pt 0 0 0 0) 54)).alloc (Obj.cells (pt 0 0 0 0) 54)).alloc (Obj.cells (pt 0 0 0 0) 54)).drew.cell? ⟨gl, 35, none⟩ = some (.int .i64 X3) ∧ (((w1.alloc (Obj.cells (pt 0 0 0 0) 54)).alloc (Obj.cells (pt 0 0 0 0) 54)).alloc (Obj.cells (pt 0 0 0 0) 54)).drew.cell? ⟨gl, 36, none⟩ = some (.int .u64 ((wd r3 0 : Nat) : Int)) ∧ (((w1.alloc (Obj.cells (pt 0 0 0 0) 54)).alloc (Obj.cells (pt 0 0 0 0) 54)).alloc (Obj.cells (pt 0 0 0 0) 54)).drew.cell? ⟨gl, 37, none⟩ = some (.int .u64 ((wd r3 1 : Nat) : Int)) ∧ (((w1.alloc (Obj.cells (pt 0 0 0 0) 54)).alloc (Obj.cells (pt 0 0 0 0) 54)).alloc (Obj.cells (pt 0 0 0 0) 54)).drew.cell? ⟨gl, 38, none⟩ = some (.int .u64 ((wd r3 2 : Nat) : Int)) ∧ (((w1.alloc (Obj.cells (pt 0 0 0 0) 54)).alloc (Obj.cells (pt 0 0 0 0) 54)).alloc (Obj.cells (pt 0 0 0 0) 54)).drew.cell? ⟨gl, 39, none⟩ = some (.int .u64 ((wd r3 3 : Nat) : Int)) ∧ (((w1.alloc (Obj.cells (pt 0 0 0 0) 54)).alloc (Obj.cells (pt 0 0 0 0) 54)).alloc (Obj.cells (pt 0 0 0 0) 54)).drew.cell? ⟨gl, 40, none⟩ = some (.int .u64 ((wd r3 4 : Nat) : Int)) ∧ (((w1.alloc (Obj.cells (pt 0 0 0 0) 54)).alloc (Obj.cells (pt 0 0 0 0) 54)).alloc (Obj.cells (pt 0 0 0 0) 54)).drew.cell? ⟨gl, 41, none⟩ = some (.int .u64 ((wd r3 5 : Nat) : Int))) := box (sS.out _ _ (sS.out _ _ (sS.out _ _ z0.out (bal _ _)) (bal _ _)) (bal _ _))
    have hV1 : (((w1.alloc (Obj.cells (pt 0 0 0 0) 54)).alloc (Obj.cells (pt 0 0 0 0) 54)).alloc (Obj.cells (pt 0 0 0 0) 54)).drew.heap[w1.heap.size]? = some (Obj.cells (pt 0 0 0 0) 54) := al_row30 w1 _
    have hr1 := sp_one _ _ hV1
    have hV2 : (((w1.alloc (Obj.cells (pt 0 0 0 0) 54)).alloc (Obj.cells (pt 0 0 0 0) 54)).alloc (Obj.cells (pt 0 0 0 0) 54)).drew.heap[w1.heap.size + 1]? = some (Obj.cells (pt 0 0 0 0) 54) := al_row31 w1 _
    have hr2 := sp_one _ _ hV2
    have hV3 : (((w1.alloc (Obj.cells (pt 0 0 0 0) 54)).alloc (Obj.cells (pt 0 0 0 0) 54)).alloc (Obj.cells (pt 0 0 0 0) 54)).drew.heap[w1.heap.size + 1 + 1]? = some (Obj.cells (pt 0 0 0 0) 54) := al_row32 w1 _
    have hr3 := sp_one _ _ hV3
    have hr12 := sp_two _ (w1.heap.size) _ (by omega) hV2
    have hr13 := sp_two _ (w1.heap.size) _ (by omega) hV3
    have hr21 := sp_two _ (w1.heap.size + 1) _ (by omega) hV1
    have hr23 := sp_two _ (w1.heap.size + 1) _ (by omega) hV3
    have hr31 := sp_two _ (w1.heap.size + 1 + 1) _ (by omega) hV1
    have hr32 := sp_two _ (w1.heap.size + 1 + 1) _ (by omega) hV2
    have hr123 := sp_three _ (w1.heap.size) (w1.heap.size + 1) _ (by omega) (by omega) hV3
    have hr132 := sp_three _ (w1.heap.size) (w1.heap.size + 1 + 1) _ (by omega) (by omega) hV2
    have hr213 := sp_three _ (w1.heap.size + 1) (w1.heap.size) _ (by omega) (by omega) hV3
    have hr231 := sp_three _ (w1.heap.size + 1) (w1.heap.size + 1 + 1) _ (by omega) (by omega) hV1
    have hr312 := sp_three _ (w1.heap.size + 1 + 1) (w1.heap.size) _ (by omega) (by omega) hV2
    have hr321 := sp_three _ (w1.heap.size + 1 + 1) (w1.heap.size + 1) _ (by omega) (by omega) hV1
    go_region_held3 (fun W => Below w.heap.size w W ∧ n0 ≤ W.heap.size ∧ W.heap[w.heap.size]? = some (Obj.cells #[.int .u64 (x1 : Nat), .int .u64 (y1 : Nat)] 26) ∧ W.heap[w.heap.size + 1]? = some (Obj.cells #[.int .u64 (x2 : Nat), .int .u64 (y2 : Nat)] 26) ∧ W.heap[w.heap.size + 1 + 1]? = some (Obj.cells #[.int .u64 (x3 : Nat), .int .u64 (y3 : Nat)] 26) ∧ W.heap[w.heap.size + 1 + 1 + 1]? = some (Obj.cells #[.int .u64 0, .int .u64 0] 26) ∧ W.heap[gl]? = some (Obj.cells (p3v c1 m1 X1 r1 c2 m2 X2 r2 c3 m3 X3 r3) 54) ∧ W.cell? ⟨gl, 0, none⟩ = some (.int .u8 (c1 : Nat)) ∧ W.cell? ⟨gl, 1, none⟩ = some (.int .u64 ((wd m1 0 : Nat) : Int)) ∧ W.cell? ⟨gl, 2, none⟩ = some (.int .u64 ((wd m1 1 : Nat) : Int)) ∧ W.cell? ⟨gl, 3, none⟩ = some (.int .u64 ((wd m1 2 : Nat) : Int)) ∧ W.cell? ⟨gl, 4, none⟩ = some (.int .u64 ((wd m1 3 : Nat) : Int)) ∧ W.cell? ⟨gl, 5, none⟩ = some (.int .u64 ((wd m1 4 : Nat) : Int)) ∧ W.cell? ⟨gl, 6, none⟩ = some (.int .u64 ((wd m1 5 : Nat) : Int)) ∧ W.cell? ⟨gl, 7, none⟩ = some (.int .i64 X1) ∧ W.cell? ⟨gl, 8, none⟩ = some (.int .u64 ((wd r1 0 : Nat) : Int)) ∧ W.cell? ⟨gl, 9, none⟩ = some (.int .u64 ((wd r1 1 : Nat) : Int)) ∧ W.cell? ⟨gl, 10, none⟩ = some (.int .u64 ((wd r1 2 : Nat) : Int)) ∧ W.cell? ⟨gl, 11, none⟩ = some (.int .u64 ((wd r1 3 : Nat) : Int)) ∧ W.cell? ⟨gl, 12, none⟩ = some (.int .u64 ((wd r1 4 : Nat) : Int)) ∧ W.cell? ⟨gl, 13, none⟩ = some (.int .u64 ((wd r1 5 : Nat) : Int)) ∧ W.cell? ⟨gl, 14, none⟩ = some (.int .u8 (c2 : Nat)) ∧ W.cell? ⟨gl, 15, none⟩ = some (.int .u64 ((wd m2 0 : Nat) : Int)) ∧ W.cell? ⟨gl, 16, none⟩ = some (.int .u64 ((wd m2 1 : Nat) : Int)) ∧ W.cell? ⟨gl, 17, none⟩ = some (.int .u64 ((wd m2 2 : Nat) : Int)) ∧ W.cell? ⟨gl, 18, none⟩ = some (.int .u64 ((wd m2 3 : Nat) : Int)) ∧ W.cell? ⟨gl, 19, none⟩ = some (.int .u64 ((wd m2 4 : Nat) : Int)) ∧ W.cell? ⟨gl, 20, none⟩ = some (.int .u64 ((wd m2 5 : Nat) : Int)) ∧ W.cell? ⟨gl, 21, none⟩ = some (.int .i64 X2) ∧ W.cell? ⟨gl, 22, none⟩ = some (.int .u64 ((wd r2 0 : Nat) : Int)) ∧ W.cell? ⟨gl, 23, none⟩ = some (.int .u64 ((wd r2 1 : Nat) : Int)) ∧ W.cell? ⟨gl, 24, none⟩ = some (.int .u64 ((wd r2 2 : Nat) : Int)) ∧ W.cell? ⟨gl, 25, none⟩ = some (.int .u64 ((wd r2 3 : Nat) : Int)) ∧ W.cell? ⟨gl, 26, none⟩ = some (.int .u64 ((wd r2 4 : Nat) : Int)) ∧ W.cell? ⟨gl, 27, none⟩ = some (.int .u64 ((wd r2 5 : Nat) : Int)) ∧ W.cell? ⟨gl, 28, none⟩ = some (.int .u8 (c3 : Nat)) ∧ W.cell? ⟨gl, 29, none⟩ = some (.int .u64 ((wd m3 0 : Nat) : Int)) ∧ W.cell? ⟨gl, 30, none⟩ = some (.int .u64 ((wd m3 1 : Nat) : Int)) ∧ W.cell? ⟨gl, 31, none⟩ = some (.int .u64 ((wd m3 2 : Nat) : Int)) ∧ W.cell? ⟨gl, 32, none⟩ = some (.int .u64 ((wd m3 3 : Nat) : Int)) ∧ W.cell? ⟨gl, 33, none⟩ = some (.int .u64 ((wd m3 4 : Nat) : Int)) ∧ W.cell? ⟨gl, 34, none⟩ = some (.int .u64 ((wd m3 5 : Nat) : Int)) ∧ W.cell? ⟨gl, 35, none⟩ = some (.int .i64 X3) ∧ W.cell? ⟨gl, 36, none⟩ = some (.int .u64 ((wd r3 0 : Nat) : Int)) ∧ W.cell? ⟨gl, 37, none⟩ = some (.int .u64 ((wd r3 1 : Nat) : Int)) ∧ W.cell? ⟨gl, 38, none⟩ = some (.int .u64 ((wd r3 2 : Nat) : Int)) ∧ W.cell? ⟨gl, 39, none⟩ = some (.int .u64 ((wd r3 3 : Nat) : Int)) ∧ W.cell? ⟨gl, 40, none⟩ = some (.int .u64 ((wd r3 4 : Nat) : Int)) ∧ W.cell? ⟨gl, 41, none⟩ = some (.int .u64 ((wd r3 5 : Nat) : Int))) (first | exact z0.out | exact z1.out | exact sV.out | exact sS.out _ _ z1.out (bal _ _) | exact sS.out _ _ z0.out (bal _ _) | exact sS.out _ _ (sS.out _ _ z1.out (bal _ _)) (bal _ _) | exact sS.out _ _ (sS.out _ _ z0.out (bal _ _)) (bal _ _) | exact sT.out _ _ _ sV.out ge1 | exact sT.out _ _ _ sV.out ge2 | exact sT.out _ _ _ sV.out ge3 | exact sT.out _ _ _ (sT.out _ _ _ sV.out ge1) ge2 | exact sT.out _ _ _ (sT.out _ _ _ sV.out ge1) ge3 | exact sT.out _ _ _ (sT.out _ _ _ sV.out ge2) ge1 | exact sT.out _ _ _ (sT.out _ _ _ sV.out ge2) ge3 | exact sT.out _ _ _ (sT.out _ _ _ sV.out ge3) ge1 | exact sT.out _ _ _ (sT.out _ _ _ sV.out ge3) ge2 | exact sT.out _ _ _ (sT.out _ _ _ (sT.out _ _ _ sV.out ge1) ge2) ge3 | exact sT.out _ _ _ (sT.out _ _ _ (sT.out _ _ _ sV.out ge1) ge3) ge2 | exact sT.out _ _ _ (sT.out _ _ _ (sT.out _ _ _ sV.out ge2) ge1) ge3 | exact sT.out _ _ _ (sT.out _ _ _ (sT.out _ _ _ sV.out ge2) ge3) ge1 | exact sT.out _ _ _ (sT.out _ _ _ (sT.out _ _ _ sV.out ge3) ge1) ge2 | exact sT.out _ _ _ (sT.out _ _ _ (sT.out _ _ _ sV.out ge3) ge2) ge1)
      (fail)
    all_goals
      refine gen_fma_fused_14_15_16 (R := fun W g1 g2 g3 => (Below w.heap.size w W ∧ n0 ≤ W.heap.size ∧ W.heap[w.heap.size]? = some (Obj.cells #[.int .u64 (x1 : Nat), .int .u64 (y1 : Nat)] 26) ∧ W.heap[w.heap.size + 1]? = some (Obj.cells #[.int .u64 (x2 : Nat), .int .u64 (y2 : Nat)] 26) ∧ W.heap[w.heap.size + 1 + 1]? = some (Obj.cells #[.int .u64 (x3 : Nat), .int .u64 (y3 : Nat)] 26) ∧ W.heap[w.heap.size + 1 + 1 + 1]? = some (Obj.cells #[.int .u64 0, .int .u64 0] 26) ∧ W.heap[gl]? = some (Obj.cells (p3v c1 m1 X1 r1 c2 m2 X2 r2 c3 m3 X3 r3) 54) ∧ W.cell? ⟨gl, 0, none⟩ = some (.int .u8 (c1 : Nat)) ∧ W.cell? ⟨gl, 1, none⟩ = some (.int .u64 ((wd m1 0 : Nat) : Int)) ∧ W.cell? ⟨gl, 2, none⟩ = some (.int .u64 ((wd m1 1 : Nat) : Int)) ∧ W.cell? ⟨gl, 3, none⟩ = some (.int .u64 ((wd m1 2 : Nat) : Int)) ∧ W.cell? ⟨gl, 4, none⟩ = some (.int .u64 ((wd m1 3 : Nat) : Int)) ∧ W.cell? ⟨gl, 5, none⟩ = some (.int .u64 ((wd m1 4 : Nat) : Int)) ∧ W.cell? ⟨gl, 6, none⟩ = some (.int .u64 ((wd m1 5 : Nat) : Int)) ∧ W.cell? ⟨gl, 7, none⟩ = some (.int .i64 X1) ∧ W.cell? ⟨gl, 8, none⟩ = some (.int .u64 ((wd r1 0 : Nat) : Int)) ∧ W.cell? ⟨gl, 9, none⟩ = some (.int .u64 ((wd r1 1 : Nat) : Int)) ∧ W.cell? ⟨gl, 10, none⟩ = some (.int .u64 ((wd r1 2 : Nat) : Int)) ∧ W.cell? ⟨gl, 11, none⟩ = some (.int .u64 ((wd r1 3 : Nat) : Int)) ∧ W.cell? ⟨gl, 12, none⟩ = some (.int .u64 ((wd r1 4 : Nat) : Int)) ∧ W.cell? ⟨gl, 13, none⟩ = some (.int .u64 ((wd r1 5 : Nat) : Int)) ∧ W.cell? ⟨gl, 14, none⟩ = some (.int .u8 (c2 : Nat)) ∧ W.cell? ⟨gl, 15, none⟩ = some (.int .u64 ((wd m2 0 : Nat) : Int)) ∧ W.cell? ⟨gl, 16, none⟩ = some (.int .u64 ((wd m2 1 : Nat) : Int)) ∧ W.cell? ⟨gl, 17, none⟩ = some (.int .u64 ((wd m2 2 : Nat) : Int)) ∧ W.cell? ⟨gl, 18, none⟩ = some (.int .u64 ((wd m2 3 : Nat) : Int)) ∧ W.cell? ⟨gl, 19, none⟩ = some (.int .u64 ((wd m2 4 : Nat) : Int)) ∧ W.cell? ⟨gl, 20, none⟩ = some (.int .u64 ((wd m2 5 : Nat) : Int)) ∧ W.cell? ⟨gl, 21, none⟩ = some (.int .i64 X2) ∧ W.cell? ⟨gl, 22, none⟩ = some (.int .u64 ((wd r2 0 : Nat) : Int)) ∧ W.cell? ⟨gl, 23, none⟩ = some (.int .u64 ((wd r2 1 : Nat) : Int)) ∧ W.cell? ⟨gl, 24, none⟩ = some (.int .u64 ((wd r2 2 : Nat) : Int)) ∧ W.cell? ⟨gl, 25, none⟩ = some (.int .u64 ((wd r2 3 : Nat) : Int)) ∧ W.cell? ⟨gl, 26, none⟩ = some (.int .u64 ((wd r2 4 : Nat) : Int)) ∧ W.cell? ⟨gl, 27, none⟩ = some (.int .u64 ((wd r2 5 : Nat) : Int)) ∧ W.cell? ⟨gl, 28, none⟩ = some (.int .u8 (c3 : Nat)) ∧ W.cell? ⟨gl, 29, none⟩ = some (.int .u64 ((wd m3 0 : Nat) : Int)) ∧ W.cell? ⟨gl, 30, none⟩ = some (.int .u64 ((wd m3 1 : Nat) : Int)) ∧ W.cell? ⟨gl, 31, none⟩ = some (.int .u64 ((wd m3 2 : Nat) : Int)) ∧ W.cell? ⟨gl, 32, none⟩ = some (.int .u64 ((wd m3 3 : Nat) : Int)) ∧ W.cell? ⟨gl, 33, none⟩ = some (.int .u64 ((wd m3 4 : Nat) : Int)) ∧ W.cell? ⟨gl, 34, none⟩ = some (.int .u64 ((wd m3 5 : Nat) : Int)) ∧ W.cell? ⟨gl, 35, none⟩ = some (.int .i64 X3) ∧ W.cell? ⟨gl, 36, none⟩ = some (.int .u64 ((wd r3 0 : Nat) : Int)) ∧ W.cell? ⟨gl, 37, none⟩ = some (.int .u64 ((wd r3 1 : Nat) : Int)) ∧ W.cell? ⟨gl, 38, none⟩ = some (.int .u64 ((wd r3 2 : Nat) : Int)) ∧ W.cell? ⟨gl, 39, none⟩ = some (.int .u64 ((wd r3 3 : Nat) : Int)) ∧ W.cell? ⟨gl, 40, none⟩ = some (.int .u64 ((wd r3 4 : Nat) : Int)) ∧ W.cell? ⟨gl, 41, none⟩ = some (.int .u64 ((wd r3 5 : Nat) : Int))) ∧ W.heap[g1]? = some (Obj.cells (pt c1 m1 X1 r1) 54) ∧ W.heap[g2]? = some (Obj.cells (pt c2 m2 X2 r2) 54) ∧ W.heap[g3]? = some (Obj.cells (pt c3 m3 X3 r3) 54) ∧ n0 ≤ g1 ∧ n0 ≤ g2 ∧ n0 ≤ g3) key.out ?_
      first
        | exact ⟨sT.out _ _ _ (sT.out _ _ _ (sT.out _ _ _ sV.out ge1) ge2) ge3, set3r1 hV1 (by omega) (by omega), set3r2 hV2 (by omega) (by omega), set3r3 hV3 (by omega) (by omega), ge1, ge2, ge3⟩
        | exact ⟨sT.out _ _ _ (sT.out _ _ _ (sT.out _ _ _ sV.out ge1) ge3) ge2, set3r1 hV1 (by omega) (by omega), set3r2 hV3 (by omega) (by omega), set3r3 hV2 (by omega) (by omega), ge1, ge3, ge2⟩
        | exact ⟨sT.out _ _ _ (sT.out _ _ _ (sT.out _ _ _ sV.out ge2) ge1) ge3, set3r1 hV2 (by omega) (by omega), set3r2 hV1 (by omega) (by omega), set3r3 hV3 (by omega) (by omega), ge2, ge1, ge3⟩
        | exact ⟨sT.out _ _ _ (sT.out _ _ _ (sT.out _ _ _ sV.out ge2) ge3) ge1, set3r1 hV2 (by omega) (by omega), set3r2 hV3 (by omega) (by omega), set3r3 hV1 (by omega) (by omega), ge2, ge3, ge1⟩
        | exact ⟨sT.out _ _ _ (sT.out _ _ _ (sT.out _ _ _ sV.out ge3) ge1) ge2, set3r1 hV3 (by omega) (by omega), set3r2 hV1 (by omega) (by omega), set3r3 hV2 (by omega) (by omega), ge3, ge1, ge2⟩
        | exact ⟨sT.out _ _ _ (sT.out _ _ _ (sT.out _ _ _ sV.out ge3) ge2) ge1, set3r1 hV3 (by omega) (by omega), set3r2 hV2 (by omega) (by omega), set3r3 hV1 (by omega) (by omega), ge3, ge2, ge1⟩
  rintro w2 g2_0 g2_1 g2_2 ⟨s1, Rx_2, Ry_2, Rk_2, l2_0, l2_1, l2_2⟩
  have B2 := And.left s1
  have Ra_2 := s1.2.2.1
  have Rb_2 := s1.2.2.2.1
  have Rc_2 := s1.2.2.2.2.1
  have Rz_2 := s1.2.2.2.2.2.1
  have Rl_2 := s1.2.2.2.2.2.2.1
  have H2 : Box ((w.heap.size < n0 ∧ w.heap.size + 1 < n0 ∧ w.heap.size + 1 + 1 < n0 ∧ w.heap.size + 1 + 1 + 1 < n0 ∧ gl < n0) ∧ w.heap.size ≤ n0 ∧ n0 ≤ g2_0 ∧ n0 ≤ g2_1 ∧ n0 ≤ g2_2) := box ⟨L0.out, Lw.out, l2_0, l2_1, l2_2⟩
  clear z0 s1 sS sT L0 Lw ge1 ge2 ge3 l2_0 l2_1 l2_2
  obtain ⟨ca_2_0, ca_2_1⟩ := cells2s Ra_2
  obtain ⟨cb_2_0, cb_2_1⟩ := cells2s Rb_2
  obtain ⟨cc_2_0, cc_2_1⟩ := cells2s Rc_2
  have cx_2_0 := (pt_cells Rx_2).1
  have cy_2_0 := (pt_cells Ry_2).1
  have ck_2_0 := (pt_cells Rk_2).1
  clear hq1 hq3 hq5
  have sS : Box (∀ W W1 : World, (Below w.heap.size w W ∧ W.heap[w.heap.size]? = some (Obj.cells #[.int .u64 (x1 : Nat), .int .u64 (y1 : Nat)] 26) ∧ W.heap[w.heap.size + 1]? = some (Obj.cells #[.int .u64 (x2 : Nat), .int .u64 (y2 : Nat)] 26) ∧ W.heap[w.heap.size + 1 + 1]? = some (Obj.cells #[.int .u64 (x3 : Nat), .int .u64 (y3 : Nat)] 26) ∧ W.heap[w.heap.size + 1 + 1 + 1]? = some (Obj.cells #[.int .u64 0, .int .u64 0] 26) ∧ W.heap[gl]? = some (Obj.cells (p3v c1 m1 X1 r1 c2 m2 X2 r2 c3 m3 X3 r3) 54) ∧ W.heap[g2_0]? = some (Obj.cells (pt c1 m1 X1 r1) 54) ∧ W.heap[g2_1]? = some (Obj.cells (pt c2 m2 X2 r2) 54) ∧ W.heap[g2_2]? = some (Obj.cells (pt c3 m3 X3 r3) 54) ∧ W.cell? ⟨w.heap.size, 0, none⟩ = some (.int .u64 (x1 : Nat)) ∧ W.cell? ⟨w.heap.size, 1, none⟩ = some (.int .u64 (y1 : Nat)) ∧ W.cell? ⟨w.heap.size + 1, 0, none⟩ = some (.int .u64 (x2 : Nat)) ∧ W.cell? ⟨w.heap.size + 1, 1, none⟩ = some (.int .u64 (y2 : Nat)) ∧ W.cell? ⟨w.heap.size + 1 + 1, 0, none⟩ = some (.int .u64 (x3 : Nat)) ∧ W.cell? ⟨w.heap.size + 1 + 1, 1, none⟩ = some (.int .u64 (y3 : Nat))) → Below W.heap.size W W1 → (Below w.heap.size w W1 ∧ W1.heap[w.heap.size]? = some (Obj.cells #[.int .u64 (x1 : Nat), .int .u64 (y1 : Nat)] 26) ∧ W1.heap[w.heap.size + 1]? = some (Obj.cells #[.int .u64 (x2 : Nat), .int .u64 (y2 : Nat)] 26) ∧ W1.heap[w.heap.size + 1 + 1]? = some (Obj.cells #[.int .u64 (x3 : Nat), .int .u64 (y3 : Nat)] 26) ∧ W1.heap[w.heap.size + 1 + 1 + 1]? = some (Obj.cells #[.int .u64 0, .int .u64 0] 26) ∧ W1.heap[gl]? = some (Obj.cells (p3v c1 m1 X1 r1 c2 m2 X2 r2 c3 m3 X3 r3) 54) ∧ W1.heap[g2_0]? = some (Obj.cells (pt c1 m1 X1 r1) 54) ∧ W1.heap[g2_1]? = some (Obj.cells (pt c2 m2 X2 r2) 54) ∧ W1.heap[g2_2]? = some (Obj.cells (pt c3 m3 X3 r3) 54) ∧ W1.cell? ⟨w.heap.size, 0, none⟩ = some (.int .u64 (x1 : Nat)) ∧ W1.cell? ⟨w.heap.size, 1, none⟩ = some (.int .u64 (y1 : Nat)) ∧ W1.cell? ⟨w.heap.size + 1, 0, none⟩ = some (.int .u64 (x2 : Nat)) ∧ W1.cell? ⟨w.heap.size + 1, 1, none⟩ = some (.int .u64 (y2 : Nat)) ∧ W1.cell? ⟨w.heap.size + 1 + 1, 0, none⟩ = some (.int .u64 (x3 : Nat)) ∧ W1.cell? ⟨w.heap.size + 1 + 1, 1, none⟩ = some (.int .u64 (y3 : Nat)))) := box (fun W W1 h b => ⟨btr h.1 b, heap_of b _ _ _ h.2.1, heap_of b _ _ _ h.2.2.1, heap_of b _ _ _ h.2.2.2.1, heap_of b _ _ _ h.2.2.2.2.1, heap_of b _ _ _ h.2.2.2.2.2.1, heap_of b _ _ _ h.2.2.2.2.2.2.1, heap_of b _ _ _ h.2.2.2.2.2.2.2.1, heap_of b _ _ _ h.2.2.2.2.2.2.2.2.1, cell7 (heap_of b _ _ _ h.2.1) 0 _ rfl, cell7 (heap_of b _ _ _ h.2.1) 1 _ rfl, cell7 (heap_of b _ _ _ h.2.2.1) 0 _ rfl, cell7 (heap_of b _ _ _ h.2.2.1) 1 _ rfl, cell7 (heap_of b _ _ _ h.2.2.2.1) 0 _ rfl, cell7 (heap_of b _ _ _ h.2.2.2.1) 1 _ rfl⟩)
  have s0 : Below w.heap.size w (w2).drew ∧ (w2).drew.heap[w.heap.size]? = some (Obj.cells #[.int .u64 (x1 : Nat), .int .u64 (y1 : Nat)] 26) ∧ (w2).drew.heap[w.heap.size + 1]? = some (Obj.cells #[.int .u64 (x2 : Nat), .int .u64 (y2 : Nat)] 26) ∧ (w2).drew.heap[w.heap.size + 1 + 1]? = some (Obj.cells #[.int .u64 (x3 : Nat), .int .u64 (y3 : Nat)] 26) ∧ (w2).drew.heap[w.heap.size + 1 + 1 + 1]? = some (Obj.cells #[.int .u64 0, .int .u64 0] 26) ∧ (w2).drew.heap[gl]? = some (Obj.cells (p3v c1 m1 X1 r1 c2 m2 X2 r2 c3 m3 X3 r3) 54) ∧ (w2).drew.heap[g2_0]? = some (Obj.cells (pt c1 m1 X1 r1) 54) ∧ (w2).drew.heap[g2_1]? = some (Obj.cells (pt c2 m2 X2 r2) 54) ∧ (w2).drew.heap[g2_2]? = some (Obj.cells (pt c3 m3 X3 r3) 54) ∧ (w2).drew.cell? ⟨w.heap.size, 0, none⟩ = some (.int .u64 (x1 : Nat)) ∧ (w2).drew.cell? ⟨w.heap.size, 1, none⟩ = some (.int .u64 (y1 : Nat)) ∧ (w2).drew.cell? ⟨w.heap.size + 1, 0, none⟩ = some (.int .u64 (x2 : Nat)) ∧ (w2).drew.cell? ⟨w.heap.size + 1, 1, none⟩ = some (.int .u64 (y2 : Nat)) ∧ (w2).drew.cell? ⟨w.heap.size + 1 + 1, 0, none⟩ = some (.int .u64 (x3 : Nat)) ∧ (w2).drew.cell? ⟨w.heap.size + 1 + 1, 1, none⟩ = some (.int .u64 (y3 : Nat)) := ⟨B2.drew, Ra_2, Rb_2, Rc_2, Rz_2, Rl_2, Rx_2, Ry_2, Rk_2, cell7 (Ra_2) 0 _ rfl, cell7 (Ra_2) 1 _ rfl, cell7 (Rb_2) 0 _ rfl, cell7 (Rb_2) 1 _ rfl, cell7 (Rc_2) 0 _ rfl, cell7 (Rc_2) 1 _ rfl⟩
  go_wp2_with fail
  go_region_held3 (fun W => Below w.heap.size w W ∧ W.heap[w.heap.size]? = some (Obj.cells #[.int .u64 (x1 : Nat), .int .u64 (y1 : Nat)] 26) ∧ W.heap[w.heap.size + 1]? = some (Obj.cells #[.int .u64 (x2 : Nat), .int .u64 (y2 : Nat)] 26) ∧ W.heap[w.heap.size + 1 + 1]? = some (Obj.cells #[.int .u64 (x3 : Nat), .int .u64 (y3 : Nat)] 26) ∧ W.heap[w.heap.size + 1 + 1 + 1]? = some (Obj.cells #[.int .u64 0, .int .u64 0] 26) ∧ W.heap[gl]? = some (Obj.cells (p3v c1 m1 X1 r1 c2 m2 X2 r2 c3 m3 X3 r3) 54) ∧ W.heap[g2_0]? = some (Obj.cells (pt c1 m1 X1 r1) 54) ∧ W.heap[g2_1]? = some (Obj.cells (pt c2 m2 X2 r2) 54) ∧ W.heap[g2_2]? = some (Obj.cells (pt c3 m3 X3 r3) 54) ∧ W.cell? ⟨w.heap.size, 0, none⟩ = some (.int .u64 (x1 : Nat)) ∧ W.cell? ⟨w.heap.size, 1, none⟩ = some (.int .u64 (y1 : Nat)) ∧ W.cell? ⟨w.heap.size + 1, 0, none⟩ = some (.int .u64 (x2 : Nat)) ∧ W.cell? ⟨w.heap.size + 1, 1, none⟩ = some (.int .u64 (y2 : Nat)) ∧ W.cell? ⟨w.heap.size + 1 + 1, 0, none⟩ = some (.int .u64 (x3 : Nat)) ∧ W.cell? ⟨w.heap.size + 1 + 1, 1, none⟩ = some (.int .u64 (y3 : Nat))) (first | exact s1 | exact s0)
    (first | (go_at_call_of 22 (Value.agg #[.int .u64 (x1 : Nat), .int .u64 (y1 : Nat)]); (first | refine (KS1.out _ (fatB FF.out (And.left s1))).mono ?_ | refine (KS1.out _ (fatB FF.out (And.left s0))).mono ?_); rintro r wq ⟨rfl, bq⟩; (first | have s1 := sS.out _ _ s1 bq | have s1 := sS.out _ _ s0 bq); clear bq) | (go_at_call_of 22 (Value.agg #[.int .u64 (x2 : Nat), .int .u64 (y2 : Nat)]); (first | refine (KS2.out _ (fatB FF.out (And.left s1))).mono ?_ | refine (KS2.out _ (fatB FF.out (And.left s0))).mono ?_); rintro r wq ⟨rfl, bq⟩; (first | have s1 := sS.out _ _ s1 bq | have s1 := sS.out _ _ s0 bq); clear bq) | (go_at_call_of 22 (Value.agg #[.int .u64 (x3 : Nat), .int .u64 (y3 : Nat)]); (first | refine (KS3.out _ (fatB FF.out (And.left s1))).mono ?_ | refine (KS3.out _ (fatB FF.out (And.left s0))).mono ?_); rintro r wq ⟨rfl, bq⟩; (first | have s1 := sS.out _ _ s1 bq | have s1 := sS.out _ _ s0 bq); clear bq) | fail)
  have B3 := (And.left s1)
  have Ra_3 := s1.2.1
  have Rb_3 := s1.2.2.1
  have Rc_3 := s1.2.2.2.1
  have Rz_3 := s1.2.2.2.2.1
  have Rl_3 := s1.2.2.2.2.2.1
  have Rx_3 := s1.2.2.2.2.2.2.1
  have Ry_3 := s1.2.2.2.2.2.2.2.1
  have Rk_3 := s1.2.2.2.2.2.2.2.2.1
  clear s0 s1 sS B2 Ra_2 ca_2_0 ca_2_1 Rb_2 cb_2_0 cb_2_1 Rc_2 cc_2_0 cc_2_1 Rz_2 Rl_2 Rx_2 cx_2_0 Ry_2 cy_2_0 Rk_2 ck_2_0
  obtain ⟨ca_3_0, ca_3_1⟩ := cells2s Ra_3
  obtain ⟨cb_3_0, cb_3_1⟩ := cells2s Rb_3
  obtain ⟨cc_3_0, cc_3_1⟩ := cells2s Rc_3
  have cx_3_0 := (pt_cells Rx_3).1
  have cy_3_0 := (pt_cells Ry_3).1
  have ck_3_0 := (pt_cells Rk_3).1
  clear Rl_3 
  clear Ra_3 ca_3_0 ca_3_1
  clear Rb_3 cb_3_0 cb_3_1
  clear cc_3_0 cc_3_1
  have sS : Box (∀ W W1 : World, (Below w.heap.size w W ∧ W.heap[w.heap.size + 1 + 1]? = some (Obj.cells #[.int .u64 (x3 : Nat), .int .u64 (y3 : Nat)] 26) ∧ W.heap[w.heap.size + 1 + 1 + 1]? = some (Obj.cells #[.int .u64 0, .int .u64 0] 26) ∧ W.heap[g2_0]? = some (Obj.cells (pt c1 m1 X1 r1) 54) ∧ W.heap[g2_1]? = some (Obj.cells (pt c2 m2 X2 r2) 54) ∧ W.heap[g2_2]? = some (Obj.cells (pt c3 m3 X3 r3) 54) ∧ W.cell? ⟨g2_0, 0, none⟩ = some (.int .u8 (c1 : Nat)) ∧ W.cell? ⟨g2_1, 0, none⟩ = some (.int .u8 (c2 : Nat)) ∧ W.cell? ⟨g2_2, 0, none⟩ = some (.int .u8 (c3 : Nat))) → Below W.heap.size W W1 → (Below w.heap.size w W1 ∧ W1.heap[w.heap.size + 1 + 1]? = some (Obj.cells #[.int .u64 (x3 : Nat), .int .u64 (y3 : Nat)] 26) ∧ W1.heap[w.heap.size + 1 + 1 + 1]? = some (Obj.cells #[.int .u64 0, .int .u64 0] 26) ∧ W1.heap[g2_0]? = some (Obj.cells (pt c1 m1 X1 r1) 54) ∧ W1.heap[g2_1]? = some (Obj.cells (pt c2 m2 X2 r2) 54) ∧ W1.heap[g2_2]? = some (Obj.cells (pt c3 m3 X3 r3) 54) ∧ W1.cell? ⟨g2_0, 0, none⟩ = some (.int .u8 (c1 : Nat)) ∧ W1.cell? ⟨g2_1, 0, none⟩ = some (.int .u8 (c2 : Nat)) ∧ W1.cell? ⟨g2_2, 0, none⟩ = some (.int .u8 (c3 : Nat)))) := box (fun W W1 h b => ⟨btr h.1 b, heap_of b _ _ _ h.2.1, heap_of b _ _ _ h.2.2.1, heap_of b _ _ _ h.2.2.2.1, heap_of b _ _ _ h.2.2.2.2.1, heap_of b _ _ _ h.2.2.2.2.2.1, cell7 (heap_of b _ _ _ h.2.2.2.1) 0 _ rfl, cell7 (heap_of b _ _ _ h.2.2.2.2.1) 0 _ rfl, cell7 (heap_of b _ _ _ h.2.2.2.2.2.1) 0 _ rfl⟩)
  have sL : Box (∀ W : World, (Below w.heap.size w W ∧ W.heap[w.heap.size + 1 + 1]? = some (Obj.cells #[.int .u64 (x3 : Nat), .int .u64 (y3 : Nat)] 26) ∧ W.heap[w.heap.size + 1 + 1 + 1]? = some (Obj.cells #[.int .u64 0, .int .u64 0] 26) ∧ W.heap[g2_0]? = some (Obj.cells (pt c1 m1 X1 r1) 54) ∧ W.heap[g2_1]? = some (Obj.cells (pt c2 m2 X2 r2) 54) ∧ W.heap[g2_2]? = some (Obj.cells (pt c3 m3 X3 r3) 54) ∧ W.cell? ⟨g2_0, 0, none⟩ = some (.int .u8 (c1 : Nat)) ∧ W.cell? ⟨g2_1, 0, none⟩ = some (.int .u8 (c2 : Nat)) ∧ W.cell? ⟨g2_2, 0, none⟩ = some (.int .u8 (c3 : Nat))) → (w.heap.size + 1 + 1 < W.heap.size ∧ w.heap.size + 1 + 1 + 1 < W.heap.size ∧ g2_0 < W.heap.size ∧ g2_1 < W.heap.size ∧ g2_2 < W.heap.size)) := box (fun W h => ⟨(Array.getElem?_eq_some_iff.1 h.2.1).1, (Array.getElem?_eq_some_iff.1 h.2.2.1).1, (Array.getElem?_eq_some_iff.1 h.2.2.2.1).1, (Array.getElem?_eq_some_iff.1 h.2.2.2.2.1).1, (Array.getElem?_eq_some_iff.1 h.2.2.2.2.2.1).1⟩)
  have sT : Box (∀ (W : World) (gN : Nat) (xA xB xC : Value), (Below w.heap.size w W ∧ W.heap[w.heap.size + 1 + 1]? = some (Obj.cells #[.int .u64 (x3 : Nat), .int .u64 (y3 : Nat)] 26) ∧ W.heap[w.heap.size + 1 + 1 + 1]? = some (Obj.cells #[.int .u64 0, .int .u64 0] 26) ∧ W.heap[g2_0]? = some (Obj.cells (pt c1 m1 X1 r1) 54) ∧ W.heap[g2_1]? = some (Obj.cells (pt c2 m2 X2 r2) 54) ∧ W.heap[g2_2]? = some (Obj.cells (pt c3 m3 X3 r3) 54) ∧ W.cell? ⟨g2_0, 0, none⟩ = some (.int .u8 (c1 : Nat)) ∧ W.cell? ⟨g2_1, 0, none⟩ = some (.int .u8 (c2 : Nat)) ∧ W.cell? ⟨g2_2, 0, none⟩ = some (.int .u8 (c3 : Nat))) → (w.heap.size + 1 + 1 < gN ∧ w.heap.size + 1 + 1 + 1 < gN ∧ g2_0 < gN ∧ g2_1 < gN ∧ g2_2 < gN) → (Below w.heap.size w (((W.setCell ⟨gN, 0, none⟩ xA).setCell ⟨gN, 1, none⟩ xB).setCell ⟨gN, 2, none⟩ xC) ∧ (((W.setCell ⟨gN, 0, none⟩ xA).setCell ⟨gN, 1, none⟩ xB).setCell ⟨gN, 2, none⟩ xC).heap[w.heap.size + 1 + 1]? = some (Obj.cells #[.int .u64 (x3 : Nat), .int .u64 (y3 : Nat)] 26) ∧ (((W.setCell ⟨gN, 0, none⟩ xA).setCell ⟨gN, 1, none⟩ xB).setCell ⟨gN, 2, none⟩ xC).heap[w.heap.size + 1 + 1 + 1]? = some (Obj.cells #[.int .u64 0, .int .u64 0] 26) ∧ (((W.setCell ⟨gN, 0, none⟩ xA).setCell ⟨gN, 1, none⟩ xB).setCell ⟨gN, 2, none⟩ xC).heap[g2_0]? = some (Obj.cells (pt c1 m1 X1 r1) 54) ∧ (((W.setCell ⟨gN, 0, none⟩ xA).setCell ⟨gN, 1, none⟩ xB).setCell ⟨gN, 2, none⟩ xC).heap[g2_1]? = some (Obj.cells (pt c2 m2 X2 r2) 54) ∧ (((W.setCell ⟨gN, 0, none⟩ xA).setCell ⟨gN, 1, none⟩ xB).setCell ⟨gN, 2, none⟩ xC).heap[g2_2]? = some (Obj.cells (pt c3 m3 X3 r3) 54) ∧ (((W.setCell ⟨gN, 0, none⟩ xA).setCell ⟨gN, 1, none⟩ xB).setCell ⟨gN, 2, none⟩ xC).cell? ⟨g2_0, 0, none⟩ = some (.int .u8 (c1 : Nat)) ∧ (((W.setCell ⟨gN, 0, none⟩ xA).setCell ⟨gN, 1, none⟩ xB).setCell ⟨gN, 2, none⟩ xC).cell? ⟨g2_1, 0, none⟩ = some (.int .u8 (c2 : Nat)) ∧ (((W.setCell ⟨gN, 0, none⟩ xA).setCell ⟨gN, 1, none⟩ xB).setCell ⟨gN, 2, none⟩ xC).cell? ⟨g2_2, 0, none⟩ = some (.int .u8 (c3 : Nat)))) := box (fun W gN xA xB xC h l => ⟨setv3_below h.1 (show w.heap.size ≤ gN by have := l.1; omega) _ _ _, (setCell_other (by have := l.1; omega)).trans ((setCell_other (by have := l.1; omega)).trans ((setCell_other (by have := l.1; omega)).trans h.2.1)), (setCell_other (by have := l.2.1; omega)).trans ((setCell_other (by have := l.2.1; omega)).trans ((setCell_other (by have := l.2.1; omega)).trans h.2.2.1)), (setCell_other (by have := l.2.2.1; omega)).trans ((setCell_other (by have := l.2.2.1; omega)).trans ((setCell_other (by have := l.2.2.1; omega)).trans h.2.2.2.1)), (setCell_other (by have := l.2.2.2.1; omega)).trans ((setCell_other (by have := l.2.2.2.1; omega)).trans ((setCell_other (by have := l.2.2.2.1; omega)).trans h.2.2.2.2.1)), (setCell_other (by have := l.2.2.2.2; omega)).trans ((setCell_other (by have := l.2.2.2.2; omega)).trans ((setCell_other (by have := l.2.2.2.2; omega)).trans h.2.2.2.2.2.1)), cell7 ((setCell_other (by have := l.2.2.1; omega)).trans ((setCell_other (by have := l.2.2.1; omega)).trans ((setCell_other (by have := l.2.2.1; omega)).trans h.2.2.2.1))) 0 _ rfl, cell7 ((setCell_other (by have := l.2.2.2.1; omega)).trans ((setCell_other (by have := l.2.2.2.1; omega)).trans ((setCell_other (by have := l.2.2.2.1; omega)).trans h.2.2.2.2.1))) 0 _ rfl, cell7 ((setCell_other (by have := l.2.2.2.2; omega)).trans ((setCell_other (by have := l.2.2.2.2; omega)).trans ((setCell_other (by have := l.2.2.2.2; omega)).trans h.2.2.2.2.2.1))) 0 _ rfl⟩)
  have s0 : Below w.heap.size w (wq).drew ∧ (wq).drew.heap[w.heap.size + 1 + 1]? = some (Obj.cells #[.int .u64 (x3 : Nat), .int .u64 (y3 : Nat)] 26) ∧ (wq).drew.heap[w.heap.size + 1 + 1 + 1]? = some (Obj.cells #[.int .u64 0, .int .u64 0] 26) ∧ (wq).drew.heap[g2_0]? = some (Obj.cells (pt c1 m1 X1 r1) 54) ∧ (wq).drew.heap[g2_1]? = some (Obj.cells (pt c2 m2 X2 r2) 54) ∧ (wq).drew.heap[g2_2]? = some (Obj.cells (pt c3 m3 X3 r3) 54) ∧ (wq).drew.cell? ⟨g2_0, 0, none⟩ = some (.int .u8 (c1 : Nat)) ∧ (wq).drew.cell? ⟨g2_1, 0, none⟩ = some (.int .u8 (c2 : Nat)) ∧ (wq).drew.cell? ⟨g2_2, 0, none⟩ = some (.int .u8 (c3 : Nat)) := ⟨B3.drew, Rc_3, Rz_3, Rx_3, Ry_3, Rk_3, cell7 (Rx_3) 0 _ rfl, cell7 (Ry_3) 0 _ rfl, cell7 (Rk_3) 0 _ rfl⟩
  clear B3 Rc_3 Rz_3 Rx_3 cx_3_0 Ry_3 cy_3_0 Rk_3 ck_3_0
  go_wp2_with fail
  apply cut7
  · intro key0
    have key := box key0
    clear key0
    go_region_held3 (fun W => Below w.heap.size w W ∧ W.heap[w.heap.size + 1 + 1]? = some (Obj.cells #[.int .u64 (x3 : Nat), .int .u64 (y3 : Nat)] 26) ∧ W.heap[w.heap.size + 1 + 1 + 1]? = some (Obj.cells #[.int .u64 0, .int .u64 0] 26) ∧ W.heap[g2_0]? = some (Obj.cells (pt c1 m1 X1 r1) 54) ∧ W.heap[g2_1]? = some (Obj.cells (pt c2 m2 X2 r2) 54) ∧ W.heap[g2_2]? = some (Obj.cells (pt c3 m3 X3 r3) 54) ∧ W.cell? ⟨g2_0, 0, none⟩ = some (.int .u8 (c1 : Nat)) ∧ W.cell? ⟨g2_1, 0, none⟩ = some (.int .u8 (c2 : Nat)) ∧ W.cell? ⟨g2_2, 0, none⟩ = some (.int .u8 (c3 : Nat))) (first | exact s1 | exact s0 | exact sS.out _ _ s1 (bal _ _) | exact sS.out _ _ s0 (bal _ _) | exact sT.out _ _ _ _ _ s1 hl)
      (first | (go_at_call_of 34 (Value.int .u8 (c1 : Nat)); (first | refine (KP1.out _).mono ?_ | refine (KP1.out _).mono ?_); rintro r wq ⟨rfl, bq⟩; (first | (have hg := heap_of bq _ _ _ (heap_alloc_last _ _); have hl := (by first | exact sL.out _ s1 | exact sL.out _ s0)) | have hg := heap_of bq _ _ _ hg | skip); (try simp only [size_dr, size_al] at hg hl); (first | (have hq0 := fz (k := 0) hg; have hq1 := fz (k := 1) hg; have hq2 := fz (k := 2) hg; have hc0 := cell7 hg 0 _ rfl; have hc1 := cell7 hg 1 _ rfl; have hc2 := cell7 hg 2 _ rfl) | skip); have s2 := (by first | exact sS.out _ _ s1 bq | exact sS.out _ _ s0 bq | exact sS.out _ _ (sS.out _ _ s1 (bal _ _)) bq | exact sS.out _ _ (sS.out _ _ s0 (bal _ _)) bq); (try clear s1); have s1 := s2; clear s2 bq) | (go_at_call_of 34 (Value.int .u8 (c2 : Nat)); (first | refine (KP2.out _).mono ?_ | refine (KP2.out _).mono ?_); rintro r wq ⟨rfl, bq⟩; (first | (have hg := heap_of bq _ _ _ (heap_alloc_last _ _); have hl := (by first | exact sL.out _ s1 | exact sL.out _ s0)) | have hg := heap_of bq _ _ _ hg | skip); (try simp only [size_dr, size_al] at hg hl); (first | (have hq0 := fz (k := 0) hg; have hq1 := fz (k := 1) hg; have hq2 := fz (k := 2) hg; have hc0 := cell7 hg 0 _ rfl; have hc1 := cell7 hg 1 _ rfl; have hc2 := cell7 hg 2 _ rfl) | skip); have s2 := (by first | exact sS.out _ _ s1 bq | exact sS.out _ _ s0 bq | exact sS.out _ _ (sS.out _ _ s1 (bal _ _)) bq | exact sS.out _ _ (sS.out _ _ s0 (bal _ _)) bq); (try clear s1); have s1 := s2; clear s2 bq) | (go_at_call_of 34 (Value.int .u8 (c3 : Nat)); (first | refine (KP3.out _).mono ?_ | refine (KP3.out _).mono ?_); rintro r wq ⟨rfl, bq⟩; (first | (have hg := heap_of bq _ _ _ (heap_alloc_last _ _); have hl := (by first | exact sL.out _ s1 | exact sL.out _ s0)) | have hg := heap_of bq _ _ _ hg | skip); (try simp only [size_dr, size_al] at hg hl); (first | (have hq0 := fz (k := 0) hg; have hq1 := fz (k := 1) hg; have hq2 := fz (k := 2) hg; have hc0 := cell7 hg 0 _ rfl; have hc1 := cell7 hg 1 _ rfl; have hc2 := cell7 hg 2 _ rfl) | skip); have s2 := (by first | exact sS.out _ _ s1 bq | exact sS.out _ _ s0 bq | exact sS.out _ _ (sS.out _ _ s1 (bal _ _)) bq | exact sS.out _ _ (sS.out _ _ s0 (bal _ _)) bq); (try clear s1); have s1 := s2; clear s2 bq) | fail)
    all_goals
      refine gen_fma_fused_19 (R := fun W gN => (Below w.heap.size w W ∧ W.heap[w.heap.size + 1 + 1]? = some (Obj.cells #[.int .u64 (x3 : Nat), .int .u64 (y3 : Nat)] 26) ∧ W.heap[w.heap.size + 1 + 1 + 1]? = some (Obj.cells #[.int .u64 0, .int .u64 0] 26) ∧ W.heap[g2_0]? = some (Obj.cells (pt c1 m1 X1 r1) 54) ∧ W.heap[g2_1]? = some (Obj.cells (pt c2 m2 X2 r2) 54) ∧ W.heap[g2_2]? = some (Obj.cells (pt c3 m3 X3 r3) 54) ∧ W.cell? ⟨g2_0, 0, none⟩ = some (.int .u8 (c1 : Nat)) ∧ W.cell? ⟨g2_1, 0, none⟩ = some (.int .u8 (c2 : Nat)) ∧ W.cell? ⟨g2_2, 0, none⟩ = some (.int .u8 (c3 : Nat))) ∧ W.heap[gN]? = some (Obj.cells #[.int .u8 p1, .int .u8 p2, .int .u8 p3] 124) ∧ (w.heap.size + 1 + 1 < gN ∧ w.heap.size + 1 + 1 + 1 < gN ∧ g2_0 < gN ∧ g2_1 < gN ∧ g2_2 < gN)) key.out ?_
      first
        | exact ⟨(sT.out _ _ _ _ _ s1 hl), setv3_row hg _ _ _, hl⟩
        | exact ⟨sS.out _ _ s1 (bal _ _), heap_alloc_last _ _, sL.out _ s1⟩
        | exact ⟨sS.out _ _ s0 (bal _ _), heap_alloc_last _ _, sL.out _ s0⟩
  rintro w4 g4 ⟨s1, Rq_4, l4⟩
  have B4 := And.left s1
  have Rc_4 := s1.2.1
  have Rz_4 := s1.2.2.1
  have Rx_4 := s1.2.2.2.1
  have Ry_4 := s1.2.2.2.2.1
  have Rk_4 := s1.2.2.2.2.2.1
  have H4 := box l4
  clear s0 s1 sS sL sT l4
  have cx_4_0 := (pt_cells Rx_4).1
  have cy_4_0 := (pt_cells Ry_4).1
  have ck_4_0 := (pt_cells Rk_4).1
  have cq_4_0 := cells4 Rq_4 0 _ rfl
  have cq_4_1 := cells4 Rq_4 1 _ rfl
  have cq_4_2 := cells4 Rq_4 2 _ rfl
  rcases H.out with ⟨rfl, rfl, KN, rfl⟩ | ⟨rfl, rfl, KN, rfl⟩ | ⟨rfl, KN, rfl⟩ | ⟨rfl, h18, KN, rfl⟩ | ⟨rfl, rfl, h24, h28, KN, rfl⟩ | ⟨rfl, rfl, h27, h28, KN, rfl⟩ | ⟨rfl, h17, h14, h18, h28, KN, rfl⟩ | ⟨rfl, h28, h38, KN, rfl⟩ | ⟨rfl, h18, h38, h19, KN, rfl⟩ | ⟨rfl, rfl, h24, h28, h29, KN, rfl⟩ | ⟨rfl, rfl, h27, h28, h29, KN, rfl⟩ | ⟨rfl, h17, h14, h18, h28, h19, h29, KN, rfl⟩ | ⟨rfl, h24, h28, h38, h29, h39, h37, KI, rfl⟩ | ⟨rfl, h24, h28, h38, h29, h39, rfl, hs, KI, rfl⟩ | ⟨rfl, h24, h28, h38, h29, h39, rfl, hs, KN, rfl⟩ | ⟨rfl, h14, h18, h38, h19, h39, h17, h37, KI, rfl⟩ | ⟨rfl, h14, h18, h38, h19, h39, h17, rfl, hs, KI, rfl⟩ | ⟨rfl, h14, h18, h38, h19, h39, h17, rfl, hs, KN, rfl⟩ | ⟨h18, h28, h19, h29, h17, h27, rfl, rfl, rfl, rfl⟩ | ⟨h18, h28, h19, h29, h17, h27, h38, h39, h37, KT, KL, KK⟩
  · clear H
    go_wp2_with fail
    refine (KN.out _ (fatB FF.out B4)).mono ?_
    rintro r w5 ⟨rfl, b5⟩
    have B5 : Below w.heap.size w w5 := btr B4 b5
    have Rc_5 := heap_of b5 _ _ _ Rc_4
    have Rz_5 := heap_of b5 _ _ _ Rz_4
    have Rx_5 := heap_of b5 _ _ _ Rx_4
    have Ry_5 := heap_of b5 _ _ _ Ry_4
    have Rk_5 := heap_of b5 _ _ _ Rk_4
    have Rq_5 := heap_of b5 _ _ _ Rq_4
    clear b5 B4 Rc_4 Rz_4 Rx_4 cx_4_0 Ry_4 cy_4_0 Rk_4 ck_4_0 Rq_4 cq_4_0 cq_4_1 cq_4_2
    have cx_5_0 := (pt_cells Rx_5).1
    have cy_5_0 := (pt_cells Ry_5).1
    have ck_5_0 := (pt_cells Rk_5).1
    have cq_5_0 := cells4 Rq_5 0 _ rfl
    have cq_5_1 := cells4 Rq_5 1 _ rfl
    have cq_5_2 := cells4 Rq_5 2 _ rfl
    obtain ⟨cz_5_0, cz_5_1⟩ := cells2s Rz_5
    have q0 := fz (k := 0) Rz_5
    have q1 := fz (k := 1) Rz_5
    obtain ⟨E0, E1⟩ := set2_cells Rz_5 (.int .u64 (u : Nat)) (.int .u64 (v : Nat))
    go_wp2
    exact bodyPost_ret (v := .tuple #[.agg #[.int .u64 (u : Nat), .int .u64 (v : Nat)], .int .u8 16, .int .i64 0]) (by simp [results, Tryz.results51, go_sem, E0, E1]) rfl ⟨rfl, set2_below B5 (by first | exact Nat.le_refl _ | omega | (have := H2.out; have := H4.out; omega)) _ _⟩
  · clear H
    go_wp2_with fail
    refine (KN.out _ (fatB FF.out B4)).mono ?_
    rintro r w5 ⟨rfl, b5⟩
    have B5 : Below w.heap.size w w5 := btr B4 b5
    have Rc_5 := heap_of b5 _ _ _ Rc_4
    have Rz_5 := heap_of b5 _ _ _ Rz_4
    have Rx_5 := heap_of b5 _ _ _ Rx_4
    have Ry_5 := heap_of b5 _ _ _ Ry_4
    have Rk_5 := heap_of b5 _ _ _ Rk_4
    have Rq_5 := heap_of b5 _ _ _ Rq_4
    clear b5 B4 Rc_4 Rz_4 Rx_4 cx_4_0 Ry_4 cy_4_0 Rk_4 ck_4_0 Rq_4 cq_4_0 cq_4_1 cq_4_2
    have cx_5_0 := (pt_cells Rx_5).1
    have cy_5_0 := (pt_cells Ry_5).1
    have ck_5_0 := (pt_cells Rk_5).1
    have cq_5_0 := cells4 Rq_5 0 _ rfl
    have cq_5_1 := cells4 Rq_5 1 _ rfl
    have cq_5_2 := cells4 Rq_5 2 _ rfl
    obtain ⟨cz_5_0, cz_5_1⟩ := cells2s Rz_5
    have q0 := fz (k := 0) Rz_5
    have q1 := fz (k := 1) Rz_5
    obtain ⟨E0, E1⟩ := set2_cells Rz_5 (.int .u64 (u : Nat)) (.int .u64 (v : Nat))
    go_wp2
    exact bodyPost_ret (v := .tuple #[.agg #[.int .u64 (u : Nat), .int .u64 (v : Nat)], .int .u8 16, .int .i64 0]) (by simp [results, Tryz.results51, go_sem, E0, E1]) rfl ⟨rfl, set2_below B5 (by first | exact Nat.le_refl _ | omega | (have := H2.out; have := H4.out; omega)) _ _⟩
  · clear H
    go_wp2_with fail
    refine (KN.out _ (fatB FF.out B4)).mono ?_
    rintro r w5 ⟨rfl, b5⟩
    have B5 : Below w.heap.size w w5 := btr B4 b5
    have Rc_5 := heap_of b5 _ _ _ Rc_4
    have Rz_5 := heap_of b5 _ _ _ Rz_4
    have Rx_5 := heap_of b5 _ _ _ Rx_4
    have Ry_5 := heap_of b5 _ _ _ Ry_4
    have Rk_5 := heap_of b5 _ _ _ Rk_4
    have Rq_5 := heap_of b5 _ _ _ Rq_4
    clear b5 B4 Rc_4 Rz_4 Rx_4 cx_4_0 Ry_4 cy_4_0 Rk_4 ck_4_0 Rq_4 cq_4_0 cq_4_1 cq_4_2
    have cx_5_0 := (pt_cells Rx_5).1
    have cy_5_0 := (pt_cells Ry_5).1
    have ck_5_0 := (pt_cells Rk_5).1
    have cq_5_0 := cells4 Rq_5 0 _ rfl
    have cq_5_1 := cells4 Rq_5 1 _ rfl
    have cq_5_2 := cells4 Rq_5 2 _ rfl
    obtain ⟨cz_5_0, cz_5_1⟩ := cells2s Rz_5
    have q0 := fz (k := 0) Rz_5
    have q1 := fz (k := 1) Rz_5
    obtain ⟨E0, E1⟩ := set2_cells Rz_5 (.int .u64 (u : Nat)) (.int .u64 (v : Nat))
    go_wp2
    exact bodyPost_ret (v := .tuple #[.agg #[.int .u64 (u : Nat), .int .u64 (v : Nat)], .int .u8 16, .int .i64 0]) (by simp [results, Tryz.results51, go_sem, E0, E1]) rfl ⟨rfl, set2_below B5 (by first | exact Nat.le_refl _ | omega | (have := H2.out; have := H4.out; omega)) _ _⟩
  · clear H
    go_wp2_with fail
    refine (KN.out _ (fatB FF.out B4)).mono ?_
    rintro r w5 ⟨rfl, b5⟩
    have B5 : Below w.heap.size w w5 := btr B4 b5
    have Rc_5 := heap_of b5 _ _ _ Rc_4
    have Rz_5 := heap_of b5 _ _ _ Rz_4
    have Rx_5 := heap_of b5 _ _ _ Rx_4
    have Ry_5 := heap_of b5 _ _ _ Ry_4
    have Rk_5 := heap_of b5 _ _ _ Rk_4
    have Rq_5 := heap_of b5 _ _ _ Rq_4
    clear b5 B4 Rc_4 Rz_4 Rx_4 cx_4_0 Ry_4 cy_4_0 Rk_4 ck_4_0 Rq_4 cq_4_0 cq_4_1 cq_4_2
    have cx_5_0 := (pt_cells Rx_5).1
    have cy_5_0 := (pt_cells Ry_5).1
    have ck_5_0 := (pt_cells Rk_5).1
    have cq_5_0 := cells4 Rq_5 0 _ rfl
    have cq_5_1 := cells4 Rq_5 1 _ rfl
    have cq_5_2 := cells4 Rq_5 2 _ rfl
    obtain ⟨cz_5_0, cz_5_1⟩ := cells2s Rz_5
    have q0 := fz (k := 0) Rz_5
    have q1 := fz (k := 1) Rz_5
    obtain ⟨E0, E1⟩ := set2_cells Rz_5 (.int .u64 (u : Nat)) (.int .u64 (v : Nat))
    go_wp2
    exact bodyPost_ret (v := .tuple #[.agg #[.int .u64 (u : Nat), .int .u64 (v : Nat)], .int .u8 16, .int .i64 0]) (by simp [results, Tryz.results51, go_sem, E0, E1]) rfl ⟨rfl, set2_below B5 (by first | exact Nat.le_refl _ | omega | (have := H2.out; have := H4.out; omega)) _ _⟩
  · clear H
    go_wp2_with fail
    refine (KN.out _ (fatB FF.out B4)).mono ?_
    rintro r w5 ⟨rfl, b5⟩
    have B5 : Below w.heap.size w w5 := btr B4 b5
    have Rc_5 := heap_of b5 _ _ _ Rc_4
    have Rz_5 := heap_of b5 _ _ _ Rz_4
    have Rx_5 := heap_of b5 _ _ _ Rx_4
    have Ry_5 := heap_of b5 _ _ _ Ry_4
    have Rk_5 := heap_of b5 _ _ _ Rk_4
    have Rq_5 := heap_of b5 _ _ _ Rq_4
    clear b5 B4 Rc_4 Rz_4 Rx_4 cx_4_0 Ry_4 cy_4_0 Rk_4 ck_4_0 Rq_4 cq_4_0 cq_4_1 cq_4_2
    have cx_5_0 := (pt_cells Rx_5).1
    have cy_5_0 := (pt_cells Ry_5).1
    have ck_5_0 := (pt_cells Rk_5).1
    have cq_5_0 := cells4 Rq_5 0 _ rfl
    have cq_5_1 := cells4 Rq_5 1 _ rfl
    have cq_5_2 := cells4 Rq_5 2 _ rfl
    obtain ⟨cz_5_0, cz_5_1⟩ := cells2s Rz_5
    have q0 := fz (k := 0) Rz_5
    have q1 := fz (k := 1) Rz_5
    obtain ⟨E0, E1⟩ := set2_cells Rz_5 (.int .u64 (u : Nat)) (.int .u64 (v : Nat))
    go_wp2
    exact bodyPost_ret (v := .tuple #[.agg #[.int .u64 (u : Nat), .int .u64 (v : Nat)], .int .u8 16, .int .i64 0]) (by simp [results, Tryz.results51, go_sem, E0, E1]) rfl ⟨rfl, set2_below B5 (by first | exact Nat.le_refl _ | omega | (have := H2.out; have := H4.out; omega)) _ _⟩
  · clear H
    go_wp2_with fail
    refine (KN.out _ (fatB FF.out B4)).mono ?_
    rintro r w5 ⟨rfl, b5⟩
    have B5 : Below w.heap.size w w5 := btr B4 b5
    have Rc_5 := heap_of b5 _ _ _ Rc_4
    have Rz_5 := heap_of b5 _ _ _ Rz_4
    have Rx_5 := heap_of b5 _ _ _ Rx_4
    have Ry_5 := heap_of b5 _ _ _ Ry_4
    have Rk_5 := heap_of b5 _ _ _ Rk_4
    have Rq_5 := heap_of b5 _ _ _ Rq_4
    clear b5 B4 Rc_4 Rz_4 Rx_4 cx_4_0 Ry_4 cy_4_0 Rk_4 ck_4_0 Rq_4 cq_4_0 cq_4_1 cq_4_2
    have cx_5_0 := (pt_cells Rx_5).1
    have cy_5_0 := (pt_cells Ry_5).1
    have ck_5_0 := (pt_cells Rk_5).1
    have cq_5_0 := cells4 Rq_5 0 _ rfl
    have cq_5_1 := cells4 Rq_5 1 _ rfl
    have cq_5_2 := cells4 Rq_5 2 _ rfl
    obtain ⟨cz_5_0, cz_5_1⟩ := cells2s Rz_5
    have q0 := fz (k := 0) Rz_5
    have q1 := fz (k := 1) Rz_5
    obtain ⟨E0, E1⟩ := set2_cells Rz_5 (.int .u64 (u : Nat)) (.int .u64 (v : Nat))
    go_wp2
    exact bodyPost_ret (v := .tuple #[.agg #[.int .u64 (u : Nat), .int .u64 (v : Nat)], .int .u8 16, .int .i64 0]) (by simp [results, Tryz.results51, go_sem, E0, E1]) rfl ⟨rfl, set2_below B5 (by first | exact Nat.le_refl _ | omega | (have := H2.out; have := H4.out; omega)) _ _⟩
  · clear H
    go_wp2_with fail
    refine (KN.out _ (fatB FF.out B4)).mono ?_
    rintro r w5 ⟨rfl, b5⟩
    have B5 : Below w.heap.size w w5 := btr B4 b5
    have Rc_5 := heap_of b5 _ _ _ Rc_4
    have Rz_5 := heap_of b5 _ _ _ Rz_4
    have Rx_5 := heap_of b5 _ _ _ Rx_4
    have Ry_5 := heap_of b5 _ _ _ Ry_4
    have Rk_5 := heap_of b5 _ _ _ Rk_4
    have Rq_5 := heap_of b5 _ _ _ Rq_4
    clear b5 B4 Rc_4 Rz_4 Rx_4 cx_4_0 Ry_4 cy_4_0 Rk_4 ck_4_0 Rq_4 cq_4_0 cq_4_1 cq_4_2
    have cx_5_0 := (pt_cells Rx_5).1
    have cy_5_0 := (pt_cells Ry_5).1
    have ck_5_0 := (pt_cells Rk_5).1
    have cq_5_0 := cells4 Rq_5 0 _ rfl
    have cq_5_1 := cells4 Rq_5 1 _ rfl
    have cq_5_2 := cells4 Rq_5 2 _ rfl
    obtain ⟨cz_5_0, cz_5_1⟩ := cells2s Rz_5
    have q0 := fz (k := 0) Rz_5
    have q1 := fz (k := 1) Rz_5
    obtain ⟨E0, E1⟩ := set2_cells Rz_5 (.int .u64 (u : Nat)) (.int .u64 (v : Nat))
    go_wp2
    exact bodyPost_ret (v := .tuple #[.agg #[.int .u64 (u : Nat), .int .u64 (v : Nat)], .int .u8 16, .int .i64 0]) (by simp [results, Tryz.results51, go_sem, E0, E1]) rfl ⟨rfl, set2_below B5 (by first | exact Nat.le_refl _ | omega | (have := H2.out; have := H4.out; omega)) _ _⟩
  · clear H
    go_wp2_with fail
    refine (KN.out _ (fatB FF.out B4)).mono ?_
    rintro r w5 ⟨rfl, b5⟩
    have B5 : Below w.heap.size w w5 := btr B4 b5
    have Rc_5 := heap_of b5 _ _ _ Rc_4
    have Rz_5 := heap_of b5 _ _ _ Rz_4
    have Rx_5 := heap_of b5 _ _ _ Rx_4
    have Ry_5 := heap_of b5 _ _ _ Ry_4
    have Rk_5 := heap_of b5 _ _ _ Rk_4
    have Rq_5 := heap_of b5 _ _ _ Rq_4
    clear b5 B4 Rc_4 Rz_4 Rx_4 cx_4_0 Ry_4 cy_4_0 Rk_4 ck_4_0 Rq_4 cq_4_0 cq_4_1 cq_4_2
    have cx_5_0 := (pt_cells Rx_5).1
    have cy_5_0 := (pt_cells Ry_5).1
    have ck_5_0 := (pt_cells Rk_5).1
    have cq_5_0 := cells4 Rq_5 0 _ rfl
    have cq_5_1 := cells4 Rq_5 1 _ rfl
    have cq_5_2 := cells4 Rq_5 2 _ rfl
    obtain ⟨cz_5_0, cz_5_1⟩ := cells2s Rz_5
    have q0 := fz (k := 0) Rz_5
    have q1 := fz (k := 1) Rz_5
    obtain ⟨E0, E1⟩ := set2_cells Rz_5 (.int .u64 (u : Nat)) (.int .u64 (v : Nat))
    go_wp2
    exact bodyPost_ret (v := .tuple #[.agg #[.int .u64 (u : Nat), .int .u64 (v : Nat)], .int .u8 0, .int .i64 0]) (by simp [results, Tryz.results51, go_sem, E0, E1]) rfl ⟨rfl, set2_below B5 (by first | exact Nat.le_refl _ | omega | (have := H2.out; have := H4.out; omega)) _ _⟩
  · clear H
    go_wp2_with fail
    refine (KN.out _ (fatB FF.out B4)).mono ?_
    rintro r w5 ⟨rfl, b5⟩
    have B5 : Below w.heap.size w w5 := btr B4 b5
    have Rc_5 := heap_of b5 _ _ _ Rc_4
    have Rz_5 := heap_of b5 _ _ _ Rz_4
    have Rx_5 := heap_of b5 _ _ _ Rx_4
    have Ry_5 := heap_of b5 _ _ _ Ry_4
    have Rk_5 := heap_of b5 _ _ _ Rk_4
    have Rq_5 := heap_of b5 _ _ _ Rq_4
    clear b5 B4 Rc_4 Rz_4 Rx_4 cx_4_0 Ry_4 cy_4_0 Rk_4 ck_4_0 Rq_4 cq_4_0 cq_4_1 cq_4_2
    have cx_5_0 := (pt_cells Rx_5).1
    have cy_5_0 := (pt_cells Ry_5).1
    have ck_5_0 := (pt_cells Rk_5).1
    have cq_5_0 := cells4 Rq_5 0 _ rfl
    have cq_5_1 := cells4 Rq_5 1 _ rfl
    have cq_5_2 := cells4 Rq_5 2 _ rfl
    obtain ⟨cz_5_0, cz_5_1⟩ := cells2s Rz_5
    have q0 := fz (k := 0) Rz_5
    have q1 := fz (k := 1) Rz_5
    obtain ⟨E0, E1⟩ := set2_cells Rz_5 (.int .u64 (u : Nat)) (.int .u64 (v : Nat))
    go_wp2
    exact bodyPost_ret (v := .tuple #[.agg #[.int .u64 (u : Nat), .int .u64 (v : Nat)], .int .u8 0, .int .i64 0]) (by simp [results, Tryz.results51, go_sem, E0, E1]) rfl ⟨rfl, set2_below B5 (by first | exact Nat.le_refl _ | omega | (have := H2.out; have := H4.out; omega)) _ _⟩
  · clear H
    go_wp2_with fail
    refine (KN.out _ (fatB FF.out B4)).mono ?_
    rintro r w5 ⟨rfl, b5⟩
    have B5 : Below w.heap.size w w5 := btr B4 b5
    have Rc_5 := heap_of b5 _ _ _ Rc_4
    have Rz_5 := heap_of b5 _ _ _ Rz_4
    have Rx_5 := heap_of b5 _ _ _ Rx_4
    have Ry_5 := heap_of b5 _ _ _ Ry_4
    have Rk_5 := heap_of b5 _ _ _ Rk_4
    have Rq_5 := heap_of b5 _ _ _ Rq_4
    clear b5 B4 Rc_4 Rz_4 Rx_4 cx_4_0 Ry_4 cy_4_0 Rk_4 ck_4_0 Rq_4 cq_4_0 cq_4_1 cq_4_2
    have cx_5_0 := (pt_cells Rx_5).1
    have cy_5_0 := (pt_cells Ry_5).1
    have ck_5_0 := (pt_cells Rk_5).1
    have cq_5_0 := cells4 Rq_5 0 _ rfl
    have cq_5_1 := cells4 Rq_5 1 _ rfl
    have cq_5_2 := cells4 Rq_5 2 _ rfl
    obtain ⟨cz_5_0, cz_5_1⟩ := cells2s Rz_5
    have q0 := fz (k := 0) Rz_5
    have q1 := fz (k := 1) Rz_5
    obtain ⟨E0, E1⟩ := set2_cells Rz_5 (.int .u64 (u : Nat)) (.int .u64 (v : Nat))
    go_wp2
    exact bodyPost_ret (v := .tuple #[.agg #[.int .u64 (u : Nat), .int .u64 (v : Nat)], .int .u8 0, .int .i64 0]) (by simp [results, Tryz.results51, go_sem, E0, E1]) rfl ⟨rfl, set2_below B5 (by first | exact Nat.le_refl _ | omega | (have := H2.out; have := H4.out; omega)) _ _⟩
  · clear H
    go_wp2_with fail
    refine (KN.out _ (fatB FF.out B4)).mono ?_
    rintro r w5 ⟨rfl, b5⟩
    have B5 : Below w.heap.size w w5 := btr B4 b5
    have Rc_5 := heap_of b5 _ _ _ Rc_4
    have Rz_5 := heap_of b5 _ _ _ Rz_4
    have Rx_5 := heap_of b5 _ _ _ Rx_4
    have Ry_5 := heap_of b5 _ _ _ Ry_4
    have Rk_5 := heap_of b5 _ _ _ Rk_4
    have Rq_5 := heap_of b5 _ _ _ Rq_4
    clear b5 B4 Rc_4 Rz_4 Rx_4 cx_4_0 Ry_4 cy_4_0 Rk_4 ck_4_0 Rq_4 cq_4_0 cq_4_1 cq_4_2
    have cx_5_0 := (pt_cells Rx_5).1
    have cy_5_0 := (pt_cells Ry_5).1
    have ck_5_0 := (pt_cells Rk_5).1
    have cq_5_0 := cells4 Rq_5 0 _ rfl
    have cq_5_1 := cells4 Rq_5 1 _ rfl
    have cq_5_2 := cells4 Rq_5 2 _ rfl
    obtain ⟨cz_5_0, cz_5_1⟩ := cells2s Rz_5
    have q0 := fz (k := 0) Rz_5
    have q1 := fz (k := 1) Rz_5
    obtain ⟨E0, E1⟩ := set2_cells Rz_5 (.int .u64 (u : Nat)) (.int .u64 (v : Nat))
    go_wp2
    exact bodyPost_ret (v := .tuple #[.agg #[.int .u64 (u : Nat), .int .u64 (v : Nat)], .int .u8 0, .int .i64 0]) (by simp [results, Tryz.results51, go_sem, E0, E1]) rfl ⟨rfl, set2_below B5 (by first | exact Nat.le_refl _ | omega | (have := H2.out; have := H4.out; omega)) _ _⟩
  · clear H
    go_wp2_with fail
    refine (KN.out _ (fatB FF.out B4)).mono ?_
    rintro r w5 ⟨rfl, b5⟩
    have B5 : Below w.heap.size w w5 := btr B4 b5
    have Rc_5 := heap_of b5 _ _ _ Rc_4
    have Rz_5 := heap_of b5 _ _ _ Rz_4
    have Rx_5 := heap_of b5 _ _ _ Rx_4
    have Ry_5 := heap_of b5 _ _ _ Ry_4
    have Rk_5 := heap_of b5 _ _ _ Rk_4
    have Rq_5 := heap_of b5 _ _ _ Rq_4
    clear b5 B4 Rc_4 Rz_4 Rx_4 cx_4_0 Ry_4 cy_4_0 Rk_4 ck_4_0 Rq_4 cq_4_0 cq_4_1 cq_4_2
    have cx_5_0 := (pt_cells Rx_5).1
    have cy_5_0 := (pt_cells Ry_5).1
    have ck_5_0 := (pt_cells Rk_5).1
    have cq_5_0 := cells4 Rq_5 0 _ rfl
    have cq_5_1 := cells4 Rq_5 1 _ rfl
    have cq_5_2 := cells4 Rq_5 2 _ rfl
    obtain ⟨cz_5_0, cz_5_1⟩ := cells2s Rz_5
    have q0 := fz (k := 0) Rz_5
    have q1 := fz (k := 1) Rz_5
    obtain ⟨E0, E1⟩ := set2_cells Rz_5 (.int .u64 (u : Nat)) (.int .u64 (v : Nat))
    go_wp2
    exact bodyPost_ret (v := .tuple #[.agg #[.int .u64 (u : Nat), .int .u64 (v : Nat)], .int .u8 0, .int .i64 0]) (by simp [results, Tryz.results51, go_sem, E0, E1]) rfl ⟨rfl, set2_below B5 (by first | exact Nat.le_refl _ | omega | (have := H2.out; have := H4.out; omega)) _ _⟩
  · clear H
    go_wp2_with fail
    refine (KI.out _ (fatB FF.out B4)).mono ?_
    rintro r w5 ⟨rfl, b5⟩
    have B5 : Below w.heap.size w w5 := btr B4 b5
    have Rc_5 := heap_of b5 _ _ _ Rc_4
    have Rz_5 := heap_of b5 _ _ _ Rz_4
    have Rx_5 := heap_of b5 _ _ _ Rx_4
    have Ry_5 := heap_of b5 _ _ _ Ry_4
    have Rk_5 := heap_of b5 _ _ _ Rk_4
    have Rq_5 := heap_of b5 _ _ _ Rq_4
    clear b5 B4 Rc_4 Rz_4 Rx_4 cx_4_0 Ry_4 cy_4_0 Rk_4 ck_4_0 Rq_4 cq_4_0 cq_4_1 cq_4_2
    have cx_5_0 := (pt_cells Rx_5).1
    have cy_5_0 := (pt_cells Ry_5).1
    have ck_5_0 := (pt_cells Rk_5).1
    have cq_5_0 := cells4 Rq_5 0 _ rfl
    have cq_5_1 := cells4 Rq_5 1 _ rfl
    have cq_5_2 := cells4 Rq_5 2 _ rfl
    obtain ⟨cz_5_0, cz_5_1⟩ := cells2s Rz_5
    have q0 := fz (k := 0) Rz_5
    have q1 := fz (k := 1) Rz_5
    obtain ⟨E0, E1⟩ := set2_cells Rz_5 (.int .u64 (u : Nat)) (.int .u64 (v : Nat))
    go_wp2
    exact bodyPost_ret (v := .tuple #[.agg #[.int .u64 (u : Nat), .int .u64 (v : Nat)], .int .u8 0, .int .i64 0]) (by simp [results, Tryz.results51, go_sem, E0, E1]) rfl ⟨rfl, set2_below B5 (by first | exact Nat.le_refl _ | omega | (have := H2.out; have := H4.out; omega)) _ _⟩
  · clear H
    go_wp2_with fail
    refine (KI.out _ (fatB FF.out B4)).mono ?_
    rintro r w5 ⟨rfl, b5⟩
    have B5 : Below w.heap.size w w5 := btr B4 b5
    have Rc_5 := heap_of b5 _ _ _ Rc_4
    have Rz_5 := heap_of b5 _ _ _ Rz_4
    have Rx_5 := heap_of b5 _ _ _ Rx_4
    have Ry_5 := heap_of b5 _ _ _ Ry_4
    have Rk_5 := heap_of b5 _ _ _ Rk_4
    have Rq_5 := heap_of b5 _ _ _ Rq_4
    clear b5 B4 Rc_4 Rz_4 Rx_4 cx_4_0 Ry_4 cy_4_0 Rk_4 ck_4_0 Rq_4 cq_4_0 cq_4_1 cq_4_2
    have cx_5_0 := (pt_cells Rx_5).1
    have cy_5_0 := (pt_cells Ry_5).1
    have ck_5_0 := (pt_cells Rk_5).1
    have cq_5_0 := cells4 Rq_5 0 _ rfl
    have cq_5_1 := cells4 Rq_5 1 _ rfl
    have cq_5_2 := cells4 Rq_5 2 _ rfl
    obtain ⟨cz_5_0, cz_5_1⟩ := cells2s Rz_5
    have q0 := fz (k := 0) Rz_5
    have q1 := fz (k := 1) Rz_5
    obtain ⟨E0, E1⟩ := set2_cells Rz_5 (.int .u64 (u : Nat)) (.int .u64 (v : Nat))
    go_wp2
    exact bodyPost_ret (v := .tuple #[.agg #[.int .u64 (u : Nat), .int .u64 (v : Nat)], .int .u8 0, .int .i64 0]) (by simp [results, Tryz.results51, go_sem, E0, E1]) rfl ⟨rfl, set2_below B5 (by first | exact Nat.le_refl _ | omega | (have := H2.out; have := H4.out; omega)) _ _⟩
  · clear H
    go_wp2_with fail
    refine (KN.out _ (fatB FF.out B4)).mono ?_
    rintro r w5 ⟨rfl, b5⟩
    have B5 : Below w.heap.size w w5 := btr B4 b5
    have Rc_5 := heap_of b5 _ _ _ Rc_4
    have Rz_5 := heap_of b5 _ _ _ Rz_4
    have Rx_5 := heap_of b5 _ _ _ Rx_4
    have Ry_5 := heap_of b5 _ _ _ Ry_4
    have Rk_5 := heap_of b5 _ _ _ Rk_4
    have Rq_5 := heap_of b5 _ _ _ Rq_4
    clear b5 B4 Rc_4 Rz_4 Rx_4 cx_4_0 Ry_4 cy_4_0 Rk_4 ck_4_0 Rq_4 cq_4_0 cq_4_1 cq_4_2
    have cx_5_0 := (pt_cells Rx_5).1
    have cy_5_0 := (pt_cells Ry_5).1
    have ck_5_0 := (pt_cells Rk_5).1
    have cq_5_0 := cells4 Rq_5 0 _ rfl
    have cq_5_1 := cells4 Rq_5 1 _ rfl
    have cq_5_2 := cells4 Rq_5 2 _ rfl
    obtain ⟨cz_5_0, cz_5_1⟩ := cells2s Rz_5
    have q0 := fz (k := 0) Rz_5
    have q1 := fz (k := 1) Rz_5
    obtain ⟨E0, E1⟩ := set2_cells Rz_5 (.int .u64 (u : Nat)) (.int .u64 (v : Nat))
    go_wp2
    exact bodyPost_ret (v := .tuple #[.agg #[.int .u64 (u : Nat), .int .u64 (v : Nat)], .int .u8 16, .int .i64 0]) (by simp [results, Tryz.results51, go_sem, E0, E1]) rfl ⟨rfl, set2_below B5 (by first | exact Nat.le_refl _ | omega | (have := H2.out; have := H4.out; omega)) _ _⟩
  · clear H
    go_wp2_with fail
    refine (KI.out _ (fatB FF.out B4)).mono ?_
    rintro r w5 ⟨rfl, b5⟩
    have B5 : Below w.heap.size w w5 := btr B4 b5
    have Rc_5 := heap_of b5 _ _ _ Rc_4
    have Rz_5 := heap_of b5 _ _ _ Rz_4
    have Rx_5 := heap_of b5 _ _ _ Rx_4
    have Ry_5 := heap_of b5 _ _ _ Ry_4
    have Rk_5 := heap_of b5 _ _ _ Rk_4
    have Rq_5 := heap_of b5 _ _ _ Rq_4
    clear b5 B4 Rc_4 Rz_4 Rx_4 cx_4_0 Ry_4 cy_4_0 Rk_4 ck_4_0 Rq_4 cq_4_0 cq_4_1 cq_4_2
    have cx_5_0 := (pt_cells Rx_5).1
    have cy_5_0 := (pt_cells Ry_5).1
    have ck_5_0 := (pt_cells Rk_5).1
    have cq_5_0 := cells4 Rq_5 0 _ rfl
    have cq_5_1 := cells4 Rq_5 1 _ rfl
    have cq_5_2 := cells4 Rq_5 2 _ rfl
    obtain ⟨cz_5_0, cz_5_1⟩ := cells2s Rz_5
    have q0 := fz (k := 0) Rz_5
    have q1 := fz (k := 1) Rz_5
    obtain ⟨E0, E1⟩ := set2_cells Rz_5 (.int .u64 (u : Nat)) (.int .u64 (v : Nat))
    go_wp2
    exact bodyPost_ret (v := .tuple #[.agg #[.int .u64 (u : Nat), .int .u64 (v : Nat)], .int .u8 0, .int .i64 0]) (by simp [results, Tryz.results51, go_sem, E0, E1]) rfl ⟨rfl, set2_below B5 (by first | exact Nat.le_refl _ | omega | (have := H2.out; have := H4.out; omega)) _ _⟩
  · clear H
    go_wp2_with fail
    refine (KI.out _ (fatB FF.out B4)).mono ?_
    rintro r w5 ⟨rfl, b5⟩
    have B5 : Below w.heap.size w w5 := btr B4 b5
    have Rc_5 := heap_of b5 _ _ _ Rc_4
    have Rz_5 := heap_of b5 _ _ _ Rz_4
    have Rx_5 := heap_of b5 _ _ _ Rx_4
    have Ry_5 := heap_of b5 _ _ _ Ry_4
    have Rk_5 := heap_of b5 _ _ _ Rk_4
    have Rq_5 := heap_of b5 _ _ _ Rq_4
    clear b5 B4 Rc_4 Rz_4 Rx_4 cx_4_0 Ry_4 cy_4_0 Rk_4 ck_4_0 Rq_4 cq_4_0 cq_4_1 cq_4_2
    have cx_5_0 := (pt_cells Rx_5).1
    have cy_5_0 := (pt_cells Ry_5).1
    have ck_5_0 := (pt_cells Rk_5).1
    have cq_5_0 := cells4 Rq_5 0 _ rfl
    have cq_5_1 := cells4 Rq_5 1 _ rfl
    have cq_5_2 := cells4 Rq_5 2 _ rfl
    obtain ⟨cz_5_0, cz_5_1⟩ := cells2s Rz_5
    have q0 := fz (k := 0) Rz_5
    have q1 := fz (k := 1) Rz_5
    obtain ⟨E0, E1⟩ := set2_cells Rz_5 (.int .u64 (u : Nat)) (.int .u64 (v : Nat))
    go_wp2
    exact bodyPost_ret (v := .tuple #[.agg #[.int .u64 (u : Nat), .int .u64 (v : Nat)], .int .u8 0, .int .i64 0]) (by simp [results, Tryz.results51, go_sem, E0, E1]) rfl ⟨rfl, set2_below B5 (by first | exact Nat.le_refl _ | omega | (have := H2.out; have := H4.out; omega)) _ _⟩
  · clear H
    go_wp2_with fail
    refine (KN.out _ (fatB FF.out B4)).mono ?_
    rintro r w5 ⟨rfl, b5⟩
    have B5 : Below w.heap.size w w5 := btr B4 b5
    have Rc_5 := heap_of b5 _ _ _ Rc_4
    have Rz_5 := heap_of b5 _ _ _ Rz_4
    have Rx_5 := heap_of b5 _ _ _ Rx_4
    have Ry_5 := heap_of b5 _ _ _ Ry_4
    have Rk_5 := heap_of b5 _ _ _ Rk_4
    have Rq_5 := heap_of b5 _ _ _ Rq_4
    clear b5 B4 Rc_4 Rz_4 Rx_4 cx_4_0 Ry_4 cy_4_0 Rk_4 ck_4_0 Rq_4 cq_4_0 cq_4_1 cq_4_2
    have cx_5_0 := (pt_cells Rx_5).1
    have cy_5_0 := (pt_cells Ry_5).1
    have ck_5_0 := (pt_cells Rk_5).1
    have cq_5_0 := cells4 Rq_5 0 _ rfl
    have cq_5_1 := cells4 Rq_5 1 _ rfl
    have cq_5_2 := cells4 Rq_5 2 _ rfl
    obtain ⟨cz_5_0, cz_5_1⟩ := cells2s Rz_5
    have q0 := fz (k := 0) Rz_5
    have q1 := fz (k := 1) Rz_5
    obtain ⟨E0, E1⟩ := set2_cells Rz_5 (.int .u64 (u : Nat)) (.int .u64 (v : Nat))
    go_wp2
    exact bodyPost_ret (v := .tuple #[.agg #[.int .u64 (u : Nat), .int .u64 (v : Nat)], .int .u8 16, .int .i64 0]) (by simp [results, Tryz.results51, go_sem, E0, E1]) rfl ⟨rfl, set2_below B5 (by first | exact Nat.le_refl _ | omega | (have := H2.out; have := H4.out; omega)) _ _⟩
  · clear H
    obtain ⟨cc_4_0, cc_4_1⟩ := cells2s Rc_4
    obtain ⟨cz_4_0, cz_4_1⟩ := cells2s Rz_4
    have q0 := fz (k := 0) Rz_4
    have q1 := fz (k := 1) Rz_4
    obtain ⟨E0, E1⟩ := set2_cells Rz_4 (.int .u64 (x3 : Nat)) (.int .u64 (y3 : Nat))
    go_wp2
    exact bodyPost_ret (v := .tuple #[.agg #[.int .u64 (x3 : Nat), .int .u64 (y3 : Nat)], .int .u8 0, .int .i64 0]) (by simp [results, Tryz.results51, go_sem, E0, E1]) rfl ⟨rfl, set2_below B4 (by first | exact Nat.le_refl _ | omega | (have := H2.out; have := H4.out; omega)) _ _⟩
  · clear H
    have hat := cw_at 6
    have hz := cw6z
    have hff := cw6f
    have hs0 := st0
    have hcs : ∀ x, ((cw 6 x).size = 6) = True := fun x => eq_true (cw_size 6 x)
    have hp1 := rgf
    have hp3 := rgz
    have hzi := cw_zip
    have hls := rg_sets
    have hp5 : ∀ (c : Bool) (s : Nat) (x : Int) (r : Bool), ((rg c s x r).size = 9) = True := fun _ _ _ _ => eq_true rfl
    have hq1 := ptf
    have hq3 := ptz
    have hq5 : ∀ (c s : Nat) (x : Int) (r : Nat), ((pt c s x r).size = 14) = True := fun _ _ _ _ => eq_true rfl
    have hb1 := fb_lt1
    have hb8 := fb_lt8
    have hb9 := fb_lt9
    have hbn := fb_ne
    have hbb := fb_bld
    have hsz := size_al
    clear Rc_4 
    have sS : Box (∀ W W1 : World, (Below w.heap.size w W ∧ W.heap[g2_0]? = some (Obj.cells (pt c1 m1 X1 r1) 54) ∧ W.heap[g2_1]? = some (Obj.cells (pt c2 m2 X2 r2) 54) ∧ W.heap[g2_2]? = some (Obj.cells (pt c3 m3 X3 r3) 54) ∧ W.heap[g4]? = some (Obj.cells #[.int .u8 p1, .int .u8 p2, .int .u8 p3] 124) ∧ W.cell? ⟨g2_0, 0, none⟩ = some (.int .u8 (c1 : Nat)) ∧ W.cell? ⟨g2_0, 1, none⟩ = some (.int .u64 ((wd m1 0 : Nat) : Int)) ∧ W.cell? ⟨g2_0, 2, none⟩ = some (.int .u64 ((wd m1 1 : Nat) : Int)) ∧ W.cell? ⟨g2_0, 3, none⟩ = some (.int .u64 ((wd m1 2 : Nat) : Int)) ∧ W.cell? ⟨g2_0, 4, none⟩ = some (.int .u64 ((wd m1 3 : Nat) : Int)) ∧ W.cell? ⟨g2_0, 5, none⟩ = some (.int .u64 ((wd m1 4 : Nat) : Int)) ∧ W.cell? ⟨g2_0, 6, none⟩ = some (.int .u64 ((wd m1 5 : Nat) : Int)) ∧ W.cell? ⟨g2_0, 7, none⟩ = some (.int .i64 X1) ∧ W.cell? ⟨g2_0, 8, none⟩ = some (.int .u64 ((wd r1 0 : Nat) : Int)) ∧ W.cell? ⟨g2_0, 9, none⟩ = some (.int .u64 ((wd r1 1 : Nat) : Int)) ∧ W.cell? ⟨g2_0, 10, none⟩ = some (.int .u64 ((wd r1 2 : Nat) : Int)) ∧ W.cell? ⟨g2_0, 11, none⟩ = some (.int .u64 ((wd r1 3 : Nat) : Int)) ∧ W.cell? ⟨g2_0, 12, none⟩ = some (.int .u64 ((wd r1 4 : Nat) : Int)) ∧ W.cell? ⟨g2_0, 13, none⟩ = some (.int .u64 ((wd r1 5 : Nat) : Int)) ∧ W.cell? ⟨g2_1, 0, none⟩ = some (.int .u8 (c2 : Nat)) ∧ W.cell? ⟨g2_1, 1, none⟩ = some (.int .u64 ((wd m2 0 : Nat) : Int)) ∧ W.cell? ⟨g2_1, 2, none⟩ = some (.int .u64 ((wd m2 1 : Nat) : Int)) ∧ W.cell? ⟨g2_1, 3, none⟩ = some (.int .u64 ((wd m2 2 : Nat) : Int)) ∧ W.cell? ⟨g2_1, 4, none⟩ = some (.int .u64 ((wd m2 3 : Nat) : Int)) ∧ W.cell? ⟨g2_1, 5, none⟩ = some (.int .u64 ((wd m2 4 : Nat) : Int)) ∧ W.cell? ⟨g2_1, 6, none⟩ = some (.int .u64 ((wd m2 5 : Nat) : Int)) ∧ W.cell? ⟨g2_1, 7, none⟩ = some (.int .i64 X2) ∧ W.cell? ⟨g2_1, 8, none⟩ = some (.int .u64 ((wd r2 0 : Nat) : Int)) ∧ W.cell? ⟨g2_1, 9, none⟩ = some (.int .u64 ((wd r2 1 : Nat) : Int)) ∧ W.cell? ⟨g2_1, 10, none⟩ = some (.int .u64 ((wd r2 2 : Nat) : Int)) ∧ W.cell? ⟨g2_1, 11, none⟩ = some (.int .u64 ((wd r2 3 : Nat) : Int)) ∧ W.cell? ⟨g2_1, 12, none⟩ = some (.int .u64 ((wd r2 4 : Nat) : Int)) ∧ W.cell? ⟨g2_1, 13, none⟩ = some (.int .u64 ((wd r2 5 : Nat) : Int)) ∧ W.cell? ⟨g2_2, 0, none⟩ = some (.int .u8 (c3 : Nat)) ∧ W.cell? ⟨g2_2, 1, none⟩ = some (.int .u64 ((wd m3 0 : Nat) : Int)) ∧ W.cell? ⟨g2_2, 2, none⟩ = some (.int .u64 ((wd m3 1 : Nat) : Int)) ∧ W.cell? ⟨g2_2, 3, none⟩ = some (.int .u64 ((wd m3 2 : Nat) : Int)) ∧ W.cell? ⟨g2_2, 4, none⟩ = some (.int .u64 ((wd m3 3 : Nat) : Int)) ∧ W.cell? ⟨g2_2, 5, none⟩ = some (.int .u64 ((wd m3 4 : Nat) : Int)) ∧ W.cell? ⟨g2_2, 6, none⟩ = some (.int .u64 ((wd m3 5 : Nat) : Int)) ∧ W.cell? ⟨g2_2, 7, none⟩ = some (.int .i64 X3) ∧ W.cell? ⟨g2_2, 8, none⟩ = some (.int .u64 ((wd r3 0 : Nat) : Int)) ∧ W.cell? ⟨g2_2, 9, none⟩ = some (.int .u64 ((wd r3 1 : Nat) : Int)) ∧ W.cell? ⟨g2_2, 10, none⟩ = some (.int .u64 ((wd r3 2 : Nat) : Int)) ∧ W.cell? ⟨g2_2, 11, none⟩ = some (.int .u64 ((wd r3 3 : Nat) : Int)) ∧ W.cell? ⟨g2_2, 12, none⟩ = some (.int .u64 ((wd r3 4 : Nat) : Int)) ∧ W.cell? ⟨g2_2, 13, none⟩ = some (.int .u64 ((wd r3 5 : Nat) : Int))) → Below W.heap.size W W1 → (Below w.heap.size w W1 ∧ W1.heap[g2_0]? = some (Obj.cells (pt c1 m1 X1 r1) 54) ∧ W1.heap[g2_1]? = some (Obj.cells (pt c2 m2 X2 r2) 54) ∧ W1.heap[g2_2]? = some (Obj.cells (pt c3 m3 X3 r3) 54) ∧ W1.heap[g4]? = some (Obj.cells #[.int .u8 p1, .int .u8 p2, .int .u8 p3] 124) ∧ W1.cell? ⟨g2_0, 0, none⟩ = some (.int .u8 (c1 : Nat)) ∧ W1.cell? ⟨g2_0, 1, none⟩ = some (.int .u64 ((wd m1 0 : Nat) : Int)) ∧ W1.cell? ⟨g2_0, 2, none⟩ = some (.int .u64 ((wd m1 1 : Nat) : Int)) ∧ W1.cell? ⟨g2_0, 3, none⟩ = some (.int .u64 ((wd m1 2 : Nat) : Int)) ∧ W1.cell? ⟨g2_0, 4, none⟩ = some (.int .u64 ((wd m1 3 : Nat) : Int)) ∧ W1.cell? ⟨g2_0, 5, none⟩ = some (.int .u64 ((wd m1 4 : Nat) : Int)) ∧ W1.cell? ⟨g2_0, 6, none⟩ = some (.int .u64 ((wd m1 5 : Nat) : Int)) ∧ W1.cell? ⟨g2_0, 7, none⟩ = some (.int .i64 X1) ∧ W1.cell? ⟨g2_0, 8, none⟩ = some (.int .u64 ((wd r1 0 : Nat) : Int)) ∧ W1.cell? ⟨g2_0, 9, none⟩ = some (.int .u64 ((wd r1 1 : Nat) : Int)) ∧ W1.cell? ⟨g2_0, 10, none⟩ = some (.int .u64 ((wd r1 2 : Nat) : Int)) ∧ W1.cell? ⟨g2_0, 11, none⟩ = some (.int .u64 ((wd r1 3 : Nat) : Int)) ∧ W1.cell? ⟨g2_0, 12, none⟩ = some (.int .u64 ((wd r1 4 : Nat) : Int)) ∧ W1.cell? ⟨g2_0, 13, none⟩ = some (.int .u64 ((wd r1 5 : Nat) : Int)) ∧ W1.cell? ⟨g2_1, 0, none⟩ = some (.int .u8 (c2 : Nat)) ∧ W1.cell? ⟨g2_1, 1, none⟩ = some (.int .u64 ((wd m2 0 : Nat) : Int)) ∧ W1.cell? ⟨g2_1, 2, none⟩ = some (.int .u64 ((wd m2 1 : Nat) : Int)) ∧ W1.cell? ⟨g2_1, 3, none⟩ = some (.int .u64 ((wd m2 2 : Nat) : Int)) ∧ W1.cell? ⟨g2_1, 4, none⟩ = some (.int .u64 ((wd m2 3 : Nat) : Int)) ∧ W1.cell? ⟨g2_1, 5, none⟩ = some (.int .u64 ((wd m2 4 : Nat) : Int)) ∧ W1.cell? ⟨g2_1, 6, none⟩ = some (.int .u64 ((wd m2 5 : Nat) : Int)) ∧ W1.cell? ⟨g2_1, 7, none⟩ = some (.int .i64 X2) ∧ W1.cell? ⟨g2_1, 8, none⟩ = some (.int .u64 ((wd r2 0 : Nat) : Int)) ∧ W1.cell? ⟨g2_1, 9, none⟩ = some (.int .u64 ((wd r2 1 : Nat) : Int)) ∧ W1.cell? ⟨g2_1, 10, none⟩ = some (.int .u64 ((wd r2 2 : Nat) : Int)) ∧ W1.cell? ⟨g2_1, 11, none⟩ = some (.int .u64 ((wd r2 3 : Nat) : Int)) ∧ W1.cell? ⟨g2_1, 12, none⟩ = some (.int .u64 ((wd r2 4 : Nat) : Int)) ∧ W1.cell? ⟨g2_1, 13, none⟩ = some (.int .u64 ((wd r2 5 : Nat) : Int)) ∧ W1.cell? ⟨g2_2, 0, none⟩ = some (.int .u8 (c3 : Nat)) ∧ W1.cell? ⟨g2_2, 1, none⟩ = some (.int .u64 ((wd m3 0 : Nat) : Int)) ∧ W1.cell? ⟨g2_2, 2, none⟩ = some (.int .u64 ((wd m3 1 : Nat) : Int)) ∧ W1.cell? ⟨g2_2, 3, none⟩ = some (.int .u64 ((wd m3 2 : Nat) : Int)) ∧ W1.cell? ⟨g2_2, 4, none⟩ = some (.int .u64 ((wd m3 3 : Nat) : Int)) ∧ W1.cell? ⟨g2_2, 5, none⟩ = some (.int .u64 ((wd m3 4 : Nat) : Int)) ∧ W1.cell? ⟨g2_2, 6, none⟩ = some (.int .u64 ((wd m3 5 : Nat) : Int)) ∧ W1.cell? ⟨g2_2, 7, none⟩ = some (.int .i64 X3) ∧ W1.cell? ⟨g2_2, 8, none⟩ = some (.int .u64 ((wd r3 0 : Nat) : Int)) ∧ W1.cell? ⟨g2_2, 9, none⟩ = some (.int .u64 ((wd r3 1 : Nat) : Int)) ∧ W1.cell? ⟨g2_2, 10, none⟩ = some (.int .u64 ((wd r3 2 : Nat) : Int)) ∧ W1.cell? ⟨g2_2, 11, none⟩ = some (.int .u64 ((wd r3 3 : Nat) : Int)) ∧ W1.cell? ⟨g2_2, 12, none⟩ = some (.int .u64 ((wd r3 4 : Nat) : Int)) ∧ W1.cell? ⟨g2_2, 13, none⟩ = some (.int .u64 ((wd r3 5 : Nat) : Int)))) := box (fun W W1 h b => ⟨btr h.1 b, heap_of b _ _ _ h.2.1, heap_of b _ _ _ h.2.2.1, heap_of b _ _ _ h.2.2.2.1, heap_of b _ _ _ h.2.2.2.2.1, cell7 (heap_of b _ _ _ h.2.1) 0 _ rfl, cell7 (heap_of b _ _ _ h.2.1) 1 _ rfl, cell7 (heap_of b _ _ _ h.2.1) 2 _ rfl, cell7 (heap_of b _ _ _ h.2.1) 3 _ rfl, cell7 (heap_of b _ _ _ h.2.1) 4 _ rfl, cell7 (heap_of b _ _ _ h.2.1) 5 _ rfl, cell7 (heap_of b _ _ _ h.2.1) 6 _ rfl, cell7 (heap_of b _ _ _ h.2.1) 7 _ rfl, cell7 (heap_of b _ _ _ h.2.1) 8 _ rfl, cell7 (heap_of b _ _ _ h.2.1) 9 _ rfl, cell7 (heap_of b _ _ _ h.2.1) 10 _ rfl, cell7 (heap_of b _ _ _ h.2.1) 11 _ rfl, cell7 (heap_of b _ _ _ h.2.1) 12 _ rfl, cell7 (heap_of b _ _ _ h.2.1) 13 _ rfl, cell7 (heap_of b _ _ _ h.2.2.1) 0 _ rfl, cell7 (heap_of b _ _ _ h.2.2.1) 1 _ rfl, cell7 (heap_of b _ _ _ h.2.2.1) 2 _ rfl, cell7 (heap_of b _ _ _ h.2.2.1) 3 _ rfl, cell7 (heap_of b _ _ _ h.2.2.1) 4 _ rfl, cell7 (heap_of b _ _ _ h.2.2.1) 5 _ rfl, cell7 (heap_of b _ _ _ h.2.2.1) 6 _ rfl, cell7 (heap_of b _ _ _ h.2.2.1) 7 _ rfl, cell7 (heap_of b _ _ _ h.2.2.1) 8 _ rfl, cell7 (heap_of b _ _ _ h.2.2.1) 9 _ rfl, cell7 (heap_of b _ _ _ h.2.2.1) 10 _ rfl, cell7 (heap_of b _ _ _ h.2.2.1) 11 _ rfl, cell7 (heap_of b _ _ _ h.2.2.1) 12 _ rfl, cell7 (heap_of b _ _ _ h.2.2.1) 13 _ rfl, cell7 (heap_of b _ _ _ h.2.2.2.1) 0 _ rfl, cell7 (heap_of b _ _ _ h.2.2.2.1) 1 _ rfl, cell7 (heap_of b _ _ _ h.2.2.2.1) 2 _ rfl, cell7 (heap_of b _ _ _ h.2.2.2.1) 3 _ rfl, cell7 (heap_of b _ _ _ h.2.2.2.1) 4 _ rfl, cell7 (heap_of b _ _ _ h.2.2.2.1) 5 _ rfl, cell7 (heap_of b _ _ _ h.2.2.2.1) 6 _ rfl, cell7 (heap_of b _ _ _ h.2.2.2.1) 7 _ rfl, cell7 (heap_of b _ _ _ h.2.2.2.1) 8 _ rfl, cell7 (heap_of b _ _ _ h.2.2.2.1) 9 _ rfl, cell7 (heap_of b _ _ _ h.2.2.2.1) 10 _ rfl, cell7 (heap_of b _ _ _ h.2.2.2.1) 11 _ rfl, cell7 (heap_of b _ _ _ h.2.2.2.1) 12 _ rfl, cell7 (heap_of b _ _ _ h.2.2.2.1) 13 _ rfl⟩)
    have sT : Box (∀ (W : World) (xA xB : Value), (Below w.heap.size w W ∧ W.heap[g2_0]? = some (Obj.cells (pt c1 m1 X1 r1) 54) ∧ W.heap[g2_1]? = some (Obj.cells (pt c2 m2 X2 r2) 54) ∧ W.heap[g2_2]? = some (Obj.cells (pt c3 m3 X3 r3) 54) ∧ W.heap[g4]? = some (Obj.cells #[.int .u8 p1, .int .u8 p2, .int .u8 p3] 124) ∧ W.cell? ⟨g2_0, 0, none⟩ = some (.int .u8 (c1 : Nat)) ∧ W.cell? ⟨g2_0, 1, none⟩ = some (.int .u64 ((wd m1 0 : Nat) : Int)) ∧ W.cell? ⟨g2_0, 2, none⟩ = some (.int .u64 ((wd m1 1 : Nat) : Int)) ∧ W.cell? ⟨g2_0, 3, none⟩ = some (.int .u64 ((wd m1 2 : Nat) : Int)) ∧ W.cell? ⟨g2_0, 4, none⟩ = some (.int .u64 ((wd m1 3 : Nat) : Int)) ∧ W.cell? ⟨g2_0, 5, none⟩ = some (.int .u64 ((wd m1 4 : Nat) : Int)) ∧ W.cell? ⟨g2_0, 6, none⟩ = some (.int .u64 ((wd m1 5 : Nat) : Int)) ∧ W.cell? ⟨g2_0, 7, none⟩ = some (.int .i64 X1) ∧ W.cell? ⟨g2_0, 8, none⟩ = some (.int .u64 ((wd r1 0 : Nat) : Int)) ∧ W.cell? ⟨g2_0, 9, none⟩ = some (.int .u64 ((wd r1 1 : Nat) : Int)) ∧ W.cell? ⟨g2_0, 10, none⟩ = some (.int .u64 ((wd r1 2 : Nat) : Int)) ∧ W.cell? ⟨g2_0, 11, none⟩ = some (.int .u64 ((wd r1 3 : Nat) : Int)) ∧ W.cell? ⟨g2_0, 12, none⟩ = some (.int .u64 ((wd r1 4 : Nat) : Int)) ∧ W.cell? ⟨g2_0, 13, none⟩ = some (.int .u64 ((wd r1 5 : Nat) : Int)) ∧ W.cell? ⟨g2_1, 0, none⟩ = some (.int .u8 (c2 : Nat)) ∧ W.cell? ⟨g2_1, 1, none⟩ = some (.int .u64 ((wd m2 0 : Nat) : Int)) ∧ W.cell? ⟨g2_1, 2, none⟩ = some (.int .u64 ((wd m2 1 : Nat) : Int)) ∧ W.cell? ⟨g2_1, 3, none⟩ = some (.int .u64 ((wd m2 2 : Nat) : Int)) ∧ W.cell? ⟨g2_1, 4, none⟩ = some (.int .u64 ((wd m2 3 : Nat) : Int)) ∧ W.cell? ⟨g2_1, 5, none⟩ = some (.int .u64 ((wd m2 4 : Nat) : Int)) ∧ W.cell? ⟨g2_1, 6, none⟩ = some (.int .u64 ((wd m2 5 : Nat) : Int)) ∧ W.cell? ⟨g2_1, 7, none⟩ = some (.int .i64 X2) ∧ W.cell? ⟨g2_1, 8, none⟩ = some (.int .u64 ((wd r2 0 : Nat) : Int)) ∧ W.cell? ⟨g2_1, 9, none⟩ = some (.int .u64 ((wd r2 1 : Nat) : Int)) ∧ W.cell? ⟨g2_1, 10, none⟩ = some (.int .u64 ((wd r2 2 : Nat) : Int)) ∧ W.cell? ⟨g2_1, 11, none⟩ = some (.int .u64 ((wd r2 3 : Nat) : Int)) ∧ W.cell? ⟨g2_1, 12, none⟩ = some (.int .u64 ((wd r2 4 : Nat) : Int)) ∧ W.cell? ⟨g2_1, 13, none⟩ = some (.int .u64 ((wd r2 5 : Nat) : Int)) ∧ W.cell? ⟨g2_2, 0, none⟩ = some (.int .u8 (c3 : Nat)) ∧ W.cell? ⟨g2_2, 1, none⟩ = some (.int .u64 ((wd m3 0 : Nat) : Int)) ∧ W.cell? ⟨g2_2, 2, none⟩ = some (.int .u64 ((wd m3 1 : Nat) : Int)) ∧ W.cell? ⟨g2_2, 3, none⟩ = some (.int .u64 ((wd m3 2 : Nat) : Int)) ∧ W.cell? ⟨g2_2, 4, none⟩ = some (.int .u64 ((wd m3 3 : Nat) : Int)) ∧ W.cell? ⟨g2_2, 5, none⟩ = some (.int .u64 ((wd m3 4 : Nat) : Int)) ∧ W.cell? ⟨g2_2, 6, none⟩ = some (.int .u64 ((wd m3 5 : Nat) : Int)) ∧ W.cell? ⟨g2_2, 7, none⟩ = some (.int .i64 X3) ∧ W.cell? ⟨g2_2, 8, none⟩ = some (.int .u64 ((wd r3 0 : Nat) : Int)) ∧ W.cell? ⟨g2_2, 9, none⟩ = some (.int .u64 ((wd r3 1 : Nat) : Int)) ∧ W.cell? ⟨g2_2, 10, none⟩ = some (.int .u64 ((wd r3 2 : Nat) : Int)) ∧ W.cell? ⟨g2_2, 11, none⟩ = some (.int .u64 ((wd r3 3 : Nat) : Int)) ∧ W.cell? ⟨g2_2, 12, none⟩ = some (.int .u64 ((wd r3 4 : Nat) : Int)) ∧ W.cell? ⟨g2_2, 13, none⟩ = some (.int .u64 ((wd r3 5 : Nat) : Int))) → (Below w.heap.size w ((W.setCell ⟨w.heap.size + 1 + 1 + 1, 0, none⟩ xA).setCell ⟨w.heap.size + 1 + 1 + 1, 1, none⟩ xB) ∧ ((W.setCell ⟨w.heap.size + 1 + 1 + 1, 0, none⟩ xA).setCell ⟨w.heap.size + 1 + 1 + 1, 1, none⟩ xB).heap[g2_0]? = some (Obj.cells (pt c1 m1 X1 r1) 54) ∧ ((W.setCell ⟨w.heap.size + 1 + 1 + 1, 0, none⟩ xA).setCell ⟨w.heap.size + 1 + 1 + 1, 1, none⟩ xB).heap[g2_1]? = some (Obj.cells (pt c2 m2 X2 r2) 54) ∧ ((W.setCell ⟨w.heap.size + 1 + 1 + 1, 0, none⟩ xA).setCell ⟨w.heap.size + 1 + 1 + 1, 1, none⟩ xB).heap[g2_2]? = some (Obj.cells (pt c3 m3 X3 r3) 54) ∧ ((W.setCell ⟨w.heap.size + 1 + 1 + 1, 0, none⟩ xA).setCell ⟨w.heap.size + 1 + 1 + 1, 1, none⟩ xB).heap[g4]? = some (Obj.cells #[.int .u8 p1, .int .u8 p2, .int .u8 p3] 124) ∧ ((W.setCell ⟨w.heap.size + 1 + 1 + 1, 0, none⟩ xA).setCell ⟨w.heap.size + 1 + 1 + 1, 1, none⟩ xB).cell? ⟨g2_0, 0, none⟩ = some (.int .u8 (c1 : Nat)) ∧ ((W.setCell ⟨w.heap.size + 1 + 1 + 1, 0, none⟩ xA).setCell ⟨w.heap.size + 1 + 1 + 1, 1, none⟩ xB).cell? ⟨g2_0, 1, none⟩ = some (.int .u64 ((wd m1 0 : Nat) : Int)) ∧ ((W.setCell ⟨w.heap.size + 1 + 1 + 1, 0, none⟩ xA).setCell ⟨w.heap.size + 1 + 1 + 1, 1, none⟩ xB).cell? ⟨g2_0, 2, none⟩ = some (.int .u64 ((wd m1 1 : Nat) : Int)) ∧ ((W.setCell ⟨w.heap.size + 1 + 1 + 1, 0, none⟩ xA).setCell ⟨w.heap.size + 1 + 1 + 1, 1, none⟩ xB).cell? ⟨g2_0, 3, none⟩ = some (.int .u64 ((wd m1 2 : Nat) : Int)) ∧ ((W.setCell ⟨w.heap.size + 1 + 1 + 1, 0, none⟩ xA).setCell ⟨w.heap.size + 1 + 1 + 1, 1, none⟩ xB).cell? ⟨g2_0, 4, none⟩ = some (.int .u64 ((wd m1 3 : Nat) : Int)) ∧ ((W.setCell ⟨w.heap.size + 1 + 1 + 1, 0, none⟩ xA).setCell ⟨w.heap.size + 1 + 1 + 1, 1, none⟩ xB).cell? ⟨g2_0, 5, none⟩ = some (.int .u64 ((wd m1 4 : Nat) : Int)) ∧ ((W.setCell ⟨w.heap.size + 1 + 1 + 1, 0, none⟩ xA).setCell ⟨w.heap.size + 1 + 1 + 1, 1, none⟩ xB).cell? ⟨g2_0, 6, none⟩ = some (.int .u64 ((wd m1 5 : Nat) : Int)) ∧ ((W.setCell ⟨w.heap.size + 1 + 1 + 1, 0, none⟩ xA).setCell ⟨w.heap.size + 1 + 1 + 1, 1, none⟩ xB).cell? ⟨g2_0, 7, none⟩ = some (.int .i64 X1) ∧ ((W.setCell ⟨w.heap.size + 1 + 1 + 1, 0, none⟩ xA).setCell ⟨w.heap.size + 1 + 1 + 1, 1, none⟩ xB).cell? ⟨g2_0, 8, none⟩ = some (.int .u64 ((wd r1 0 : Nat) : Int)) ∧ ((W.setCell ⟨w.heap.size + 1 + 1 + 1, 0, none⟩ xA).setCell ⟨w.heap.size + 1 + 1 + 1, 1, none⟩ xB).cell? ⟨g2_0, 9, none⟩ = some (.int .u64 ((wd r1 1 : Nat) : Int)) ∧ ((W.setCell ⟨w.heap.size + 1 + 1 + 1, 0, none⟩ xA).setCell ⟨w.heap.size + 1 + 1 + 1, 1, none⟩ xB).cell? ⟨g2_0, 10, none⟩ = some (.int .u64 ((wd r1 2 : Nat) : Int)) ∧ ((W.setCell ⟨w.heap.size + 1 + 1 + 1, 0, none⟩ xA).setCell ⟨w.heap.size + 1 + 1 + 1, 1, none⟩ xB).cell? ⟨g2_0, 11, none⟩ = some (.int .u64 ((wd r1 3 : Nat) : Int)) ∧ ((W.setCell ⟨w.heap.size + 1 + 1 + 1, 0, none⟩ xA).setCell ⟨w.heap.size + 1 + 1 + 1, 1, none⟩ xB).cell? ⟨g2_0, 12, none⟩ = some (.int .u64 ((wd r1 4 : Nat) : Int)) ∧ ((W.setCell ⟨w.heap.size + 1 + 1 + 1, 0, none⟩ xA).setCell ⟨w.heap.size + 1 + 1 + 1, 1, none⟩ xB).cell? ⟨g2_0, 13, none⟩ = some (.int .u64 ((wd r1 5 : Nat) : Int)) ∧ ((W.setCell ⟨w.heap.size + 1 + 1 + 1, 0, none⟩ xA).setCell ⟨w.heap.size + 1 + 1 + 1, 1, none⟩ xB).cell? ⟨g2_1, 0, none⟩ = some (.int .u8 (c2 : Nat)) ∧ ((W.setCell ⟨w.heap.size + 1 + 1 + 1, 0, none⟩ xA).setCell ⟨w.heap.size + 1 + 1 + 1, 1, none⟩ xB).cell? ⟨g2_1, 1, none⟩ = some (.int .u64 ((wd m2 0 : Nat) : Int)) ∧ ((W.setCell ⟨w.heap.size + 1 + 1 + 1, 0, none⟩ xA).setCell ⟨w.heap.size + 1 + 1 + 1, 1, none⟩ xB).cell? ⟨g2_1, 2, none⟩ = some (.int .u64 ((wd m2 1 : Nat) : Int)) ∧ ((W.setCell ⟨w.heap.size + 1 + 1 + 1, 0, none⟩ xA).setCell ⟨w.heap.size + 1 + 1 + 1, 1, none⟩ xB).cell? ⟨g2_1, 3, none⟩ = some (.int .u64 ((wd m2 2 : Nat) : Int)) ∧ ((W.setCell ⟨w.heap.size + 1 + 1 + 1, 0, none⟩ xA).setCell ⟨w.heap.size + 1 + 1 + 1, 1, none⟩ xB).cell? ⟨g2_1, 4, none⟩ = some (.int .u64 ((wd m2 3 : Nat) : Int)) ∧ ((W.setCell ⟨w.heap.size + 1 + 1 + 1, 0, none⟩ xA).setCell ⟨w.heap.size + 1 + 1 + 1, 1, none⟩ xB).cell? ⟨g2_1, 5, none⟩ = some (.int .u64 ((wd m2 4 : Nat) : Int)) ∧ ((W.setCell ⟨w.heap.size + 1 + 1 + 1, 0, none⟩ xA).setCell ⟨w.heap.size + 1 + 1 + 1, 1, none⟩ xB).cell? ⟨g2_1, 6, none⟩ = some (.int .u64 ((wd m2 5 : Nat) : Int)) ∧ ((W.setCell ⟨w.heap.size + 1 + 1 + 1, 0, none⟩ xA).setCell ⟨w.heap.size + 1 + 1 + 1, 1, none⟩ xB).cell? ⟨g2_1, 7, none⟩ = some (.int .i64 X2) ∧ ((W.setCell ⟨w.heap.size + 1 + 1 + 1, 0, none⟩ xA).setCell ⟨w.heap.size + 1 + 1 + 1, 1, none⟩ xB).cell? ⟨g2_1, 8, none⟩ = some (.int .u64 ((wd r2 0 : Nat) : Int)) ∧ ((W.setCell ⟨w.heap.size + 1 + 1 + 1, 0, none⟩ xA).setCell ⟨w.heap.size + 1 + 1 + 1, 1, none⟩ xB).cell? ⟨g2_1, 9, none⟩ = some (.int .u64 ((wd r2 1 : Nat) : Int)) ∧ ((W.setCell ⟨w.heap.size + 1 + 1 + 1, 0, none⟩ xA).setCell ⟨w.heap.size + 1 + 1 + 1, 1, none⟩ xB).cell? ⟨g2_1, 10, none⟩ = some (.int .u64 ((wd r2 2 : Nat) : Int)) ∧ ((W.setCell ⟨w.heap.size + 1 + 1 + 1, 0, none⟩ xA).setCell ⟨w.heap.size + 1 + 1 + 1, 1, none⟩ xB).cell? ⟨g2_1, 11, none⟩ = some (.int .u64 ((wd r2 3 : Nat) : Int)) ∧ ((W.setCell ⟨w.heap.size + 1 + 1 + 1, 0, none⟩ xA).setCell ⟨w.heap.size + 1 + 1 + 1, 1, none⟩ xB).cell? ⟨g2_1, 12, none⟩ = some (.int .u64 ((wd r2 4 : Nat) : Int)) ∧ ((W.setCell ⟨w.heap.size + 1 + 1 + 1, 0, none⟩ xA).setCell ⟨w.heap.size + 1 + 1 + 1, 1, none⟩ xB).cell? ⟨g2_1, 13, none⟩ = some (.int .u64 ((wd r2 5 : Nat) : Int)) ∧ ((W.setCell ⟨w.heap.size + 1 + 1 + 1, 0, none⟩ xA).setCell ⟨w.heap.size + 1 + 1 + 1, 1, none⟩ xB).cell? ⟨g2_2, 0, none⟩ = some (.int .u8 (c3 : Nat)) ∧ ((W.setCell ⟨w.heap.size + 1 + 1 + 1, 0, none⟩ xA).setCell ⟨w.heap.size + 1 + 1 + 1, 1, none⟩ xB).cell? ⟨g2_2, 1, none⟩ = some (.int .u64 ((wd m3 0 : Nat) : Int)) ∧ ((W.setCell ⟨w.heap.size + 1 + 1 + 1, 0, none⟩ xA).setCell ⟨w.heap.size + 1 + 1 + 1, 1, none⟩ xB).cell? ⟨g2_2, 2, none⟩ = some (.int .u64 ((wd m3 1 : Nat) : Int)) ∧ ((W.setCell ⟨w.heap.size + 1 + 1 + 1, 0, none⟩ xA).setCell ⟨w.heap.size + 1 + 1 + 1, 1, none⟩ xB).cell? ⟨g2_2, 3, none⟩ = some (.int .u64 ((wd m3 2 : Nat) : Int)) ∧ ((W.setCell ⟨w.heap.size + 1 + 1 + 1, 0, none⟩ xA).setCell ⟨w.heap.size + 1 + 1 + 1, 1, none⟩ xB).cell? ⟨g2_2, 4, none⟩ = some (.int .u64 ((wd m3 3 : Nat) : Int)) ∧ ((W.setCell ⟨w.heap.size + 1 + 1 + 1, 0, none⟩ xA).setCell ⟨w.heap.size + 1 + 1 + 1, 1, none⟩ xB).cell? ⟨g2_2, 5, none⟩ = some (.int .u64 ((wd m3 4 : Nat) : Int)) ∧ ((W.setCell ⟨w.heap.size + 1 + 1 + 1, 0, none⟩ xA).setCell ⟨w.heap.size + 1 + 1 + 1, 1, none⟩ xB).cell? ⟨g2_2, 6, none⟩ = some (.int .u64 ((wd m3 5 : Nat) : Int)) ∧ ((W.setCell ⟨w.heap.size + 1 + 1 + 1, 0, none⟩ xA).setCell ⟨w.heap.size + 1 + 1 + 1, 1, none⟩ xB).cell? ⟨g2_2, 7, none⟩ = some (.int .i64 X3) ∧ ((W.setCell ⟨w.heap.size + 1 + 1 + 1, 0, none⟩ xA).setCell ⟨w.heap.size + 1 + 1 + 1, 1, none⟩ xB).cell? ⟨g2_2, 8, none⟩ = some (.int .u64 ((wd r3 0 : Nat) : Int)) ∧ ((W.setCell ⟨w.heap.size + 1 + 1 + 1, 0, none⟩ xA).setCell ⟨w.heap.size + 1 + 1 + 1, 1, none⟩ xB).cell? ⟨g2_2, 9, none⟩ = some (.int .u64 ((wd r3 1 : Nat) : Int)) ∧ ((W.setCell ⟨w.heap.size + 1 + 1 + 1, 0, none⟩ xA).setCell ⟨w.heap.size + 1 + 1 + 1, 1, none⟩ xB).cell? ⟨g2_2, 10, none⟩ = some (.int .u64 ((wd r3 2 : Nat) : Int)) ∧ ((W.setCell ⟨w.heap.size + 1 + 1 + 1, 0, none⟩ xA).setCell ⟨w.heap.size + 1 + 1 + 1, 1, none⟩ xB).cell? ⟨g2_2, 11, none⟩ = some (.int .u64 ((wd r3 3 : Nat) : Int)) ∧ ((W.setCell ⟨w.heap.size + 1 + 1 + 1, 0, none⟩ xA).setCell ⟨w.heap.size + 1 + 1 + 1, 1, none⟩ xB).cell? ⟨g2_2, 12, none⟩ = some (.int .u64 ((wd r3 4 : Nat) : Int)) ∧ ((W.setCell ⟨w.heap.size + 1 + 1 + 1, 0, none⟩ xA).setCell ⟨w.heap.size + 1 + 1 + 1, 1, none⟩ xB).cell? ⟨g2_2, 13, none⟩ = some (.int .u64 ((wd r3 5 : Nat) : Int)))) := box (fun W xA xB h => ⟨set2_below h.1 (by first | exact Nat.le_refl _ | omega | (have := H2.out; have := H4.out; omega)) xA xB, ((setCell_other (by first | omega | (have := H2.out; have := H4.out; omega))).trans ((setCell_other (by first | omega | (have := H2.out; have := H4.out; omega))).trans h.2.1)), ((setCell_other (by first | omega | (have := H2.out; have := H4.out; omega))).trans ((setCell_other (by first | omega | (have := H2.out; have := H4.out; omega))).trans h.2.2.1)), ((setCell_other (by first | omega | (have := H2.out; have := H4.out; omega))).trans ((setCell_other (by first | omega | (have := H2.out; have := H4.out; omega))).trans h.2.2.2.1)), ((setCell_other (by first | omega | (have := H2.out; have := H4.out; omega))).trans ((setCell_other (by first | omega | (have := H2.out; have := H4.out; omega))).trans h.2.2.2.2.1)), cell7 (((setCell_other (by first | omega | (have := H2.out; have := H4.out; omega))).trans ((setCell_other (by first | omega | (have := H2.out; have := H4.out; omega))).trans h.2.1))) 0 _ rfl, cell7 (((setCell_other (by first | omega | (have := H2.out; have := H4.out; omega))).trans ((setCell_other (by first | omega | (have := H2.out; have := H4.out; omega))).trans h.2.1))) 1 _ rfl, cell7 (((setCell_other (by first | omega | (have := H2.out; have := H4.out; omega))).trans ((setCell_other (by first | omega | (have := H2.out; have := H4.out; omega))).trans h.2.1))) 2 _ rfl, cell7 (((setCell_other (by first | omega | (have := H2.out; have := H4.out; omega))).trans ((setCell_other (by first | omega | (have := H2.out; have := H4.out; omega))).trans h.2.1))) 3 _ rfl, cell7 (((setCell_other (by first | omega | (have := H2.out; have := H4.out; omega))).trans ((setCell_other (by first | omega | (have := H2.out; have := H4.out; omega))).trans h.2.1))) 4 _ rfl, cell7 (((setCell_other (by first | omega | (have := H2.out; have := H4.out; omega))).trans ((setCell_other (by first | omega | (have := H2.out; have := H4.out; omega))).trans h.2.1))) 5 _ rfl, cell7 (((setCell_other (by first | omega | (have := H2.out; have := H4.out; omega))).trans ((setCell_other (by first | omega | (have := H2.out; have := H4.out; omega))).trans h.2.1))) 6 _ rfl, cell7 (((setCell_other (by first | omega | (have := H2.out; have := H4.out; omega))).trans ((setCell_other (by first | omega | (have := H2.out; have := H4.out; omega))).trans h.2.1))) 7 _ rfl, cell7 (((setCell_other (by first | omega | (have := H2.out; have := H4.out; omega))).trans ((setCell_other (by first | omega | (have := H2.out; have := H4.out; omega))).trans h.2.1))) 8 _ rfl, cell7 (((setCell_other (by first | omega | (have := H2.out; have := H4.out; omega))).trans ((setCell_other (by first | omega | (have := H2.out; have := H4.out; omega))).trans h.2.1))) 9 _ rfl, cell7 (((setCell_other (by first | omega | (have := H2.out; have := H4.out; omega))).trans ((setCell_other (by first | omega | (have := H2.out; have := H4.out; omega))).trans h.2.1))) 10 _ rfl, cell7 (((setCell_other (by first | omega | (have := H2.out; have := H4.out; omega))).trans ((setCell_other (by first | omega | (have := H2.out; have := H4.out; omega))).trans h.2.1))) 11 _ rfl, cell7 (((setCell_other (by first | omega | (have := H2.out; have := H4.out; omega))).trans ((setCell_other (by first | omega | (have := H2.out; have := H4.out; omega))).trans h.2.1))) 12 _ rfl, cell7 (((setCell_other (by first | omega | (have := H2.out; have := H4.out; omega))).trans ((setCell_other (by first | omega | (have := H2.out; have := H4.out; omega))).trans h.2.1))) 13 _ rfl, cell7 (((setCell_other (by first | omega | (have := H2.out; have := H4.out; omega))).trans ((setCell_other (by first | omega | (have := H2.out; have := H4.out; omega))).trans h.2.2.1))) 0 _ rfl, cell7 (((setCell_other (by first | omega | (have := H2.out; have := H4.out; omega))).trans ((setCell_other (by first | omega | (have := H2.out; have := H4.out; omega))).trans h.2.2.1))) 1 _ rfl, cell7 (((setCell_other (by first | omega | (have := H2.out; have := H4.out; omega))).trans ((setCell_other (by first | omega | (have := H2.out; have := H4.out; omega))).trans h.2.2.1))) 2 _ rfl, cell7 (((setCell_other (by first | omega | (have := H2.out; have := H4.out; omega))).trans ((setCell_other (by first | omega | (have := H2.out; have := H4.out; omega))).trans h.2.2.1))) 3 _ rfl, cell7 (((setCell_other (by first | omega | (have := H2.out; have := H4.out; omega))).trans ((setCell_other (by first | omega | (have := H2.out; have := H4.out; omega))).trans h.2.2.1))) 4 _ rfl, cell7 (((setCell_other (by first | omega | (have := H2.out; have := H4.out; omega))).trans ((setCell_other (by first | omega | (have := H2.out; have := H4.out; omega))).trans h.2.2.1))) 5 _ rfl, cell7 (((setCell_other (by first | omega | (have := H2.out; have := H4.out; omega))).trans ((setCell_other (by first | omega | (have := H2.out; have := H4.out; omega))).trans h.2.2.1))) 6 _ rfl, cell7 (((setCell_other (by first | omega | (have := H2.out; have := H4.out; omega))).trans ((setCell_other (by first | omega | (have := H2.out; have := H4.out; omega))).trans h.2.2.1))) 7 _ rfl, cell7 (((setCell_other (by first | omega | (have := H2.out; have := H4.out; omega))).trans ((setCell_other (by first | omega | (have := H2.out; have := H4.out; omega))).trans h.2.2.1))) 8 _ rfl, cell7 (((setCell_other (by first | omega | (have := H2.out; have := H4.out; omega))).trans ((setCell_other (by first | omega | (have := H2.out; have := H4.out; omega))).trans h.2.2.1))) 9 _ rfl, cell7 (((setCell_other (by first | omega | (have := H2.out; have := H4.out; omega))).trans ((setCell_other (by first | omega | (have := H2.out; have := H4.out; omega))).trans h.2.2.1))) 10 _ rfl, cell7 (((setCell_other (by first | omega | (have := H2.out; have := H4.out; omega))).trans ((setCell_other (by first | omega | (have := H2.out; have := H4.out; omega))).trans h.2.2.1))) 11 _ rfl, cell7 (((setCell_other (by first | omega | (have := H2.out; have := H4.out; omega))).trans ((setCell_other (by first | omega | (have := H2.out; have := H4.out; omega))).trans h.2.2.1))) 12 _ rfl, cell7 (((setCell_other (by first | omega | (have := H2.out; have := H4.out; omega))).trans ((setCell_other (by first | omega | (have := H2.out; have := H4.out; omega))).trans h.2.2.1))) 13 _ rfl, cell7 (((setCell_other (by first | omega | (have := H2.out; have := H4.out; omega))).trans ((setCell_other (by first | omega | (have := H2.out; have := H4.out; omega))).trans h.2.2.2.1))) 0 _ rfl, cell7 (((setCell_other (by first | omega | (have := H2.out; have := H4.out; omega))).trans ((setCell_other (by first | omega | (have := H2.out; have := H4.out; omega))).trans h.2.2.2.1))) 1 _ rfl, cell7 (((setCell_other (by first | omega | (have := H2.out; have := H4.out; omega))).trans ((setCell_other (by first | omega | (have := H2.out; have := H4.out; omega))).trans h.2.2.2.1))) 2 _ rfl, cell7 (((setCell_other (by first | omega | (have := H2.out; have := H4.out; omega))).trans ((setCell_other (by first | omega | (have := H2.out; have := H4.out; omega))).trans h.2.2.2.1))) 3 _ rfl, cell7 (((setCell_other (by first | omega | (have := H2.out; have := H4.out; omega))).trans ((setCell_other (by first | omega | (have := H2.out; have := H4.out; omega))).trans h.2.2.2.1))) 4 _ rfl, cell7 (((setCell_other (by first | omega | (have := H2.out; have := H4.out; omega))).trans ((setCell_other (by first | omega | (have := H2.out; have := H4.out; omega))).trans h.2.2.2.1))) 5 _ rfl, cell7 (((setCell_other (by first | omega | (have := H2.out; have := H4.out; omega))).trans ((setCell_other (by first | omega | (have := H2.out; have := H4.out; omega))).trans h.2.2.2.1))) 6 _ rfl, cell7 (((setCell_other (by first | omega | (have := H2.out; have := H4.out; omega))).trans ((setCell_other (by first | omega | (have := H2.out; have := H4.out; omega))).trans h.2.2.2.1))) 7 _ rfl, cell7 (((setCell_other (by first | omega | (have := H2.out; have := H4.out; omega))).trans ((setCell_other (by first | omega | (have := H2.out; have := H4.out; omega))).trans h.2.2.2.1))) 8 _ rfl, cell7 (((setCell_other (by first | omega | (have := H2.out; have := H4.out; omega))).trans ((setCell_other (by first | omega | (have := H2.out; have := H4.out; omega))).trans h.2.2.2.1))) 9 _ rfl, cell7 (((setCell_other (by first | omega | (have := H2.out; have := H4.out; omega))).trans ((setCell_other (by first | omega | (have := H2.out; have := H4.out; omega))).trans h.2.2.2.1))) 10 _ rfl, cell7 (((setCell_other (by first | omega | (have := H2.out; have := H4.out; omega))).trans ((setCell_other (by first | omega | (have := H2.out; have := H4.out; omega))).trans h.2.2.2.1))) 11 _ rfl, cell7 (((setCell_other (by first | omega | (have := H2.out; have := H4.out; omega))).trans ((setCell_other (by first | omega | (have := H2.out; have := H4.out; omega))).trans h.2.2.2.1))) 12 _ rfl, cell7 (((setCell_other (by first | omega | (have := H2.out; have := H4.out; omega))).trans ((setCell_other (by first | omega | (have := H2.out; have := H4.out; omega))).trans h.2.2.2.1))) 13 _ rfl⟩)
    have s0 : Below w.heap.size w (w4).drew ∧ (w4).drew.heap[g2_0]? = some (Obj.cells (pt c1 m1 X1 r1) 54) ∧ (w4).drew.heap[g2_1]? = some (Obj.cells (pt c2 m2 X2 r2) 54) ∧ (w4).drew.heap[g2_2]? = some (Obj.cells (pt c3 m3 X3 r3) 54) ∧ (w4).drew.heap[g4]? = some (Obj.cells #[.int .u8 p1, .int .u8 p2, .int .u8 p3] 124) ∧ (w4).drew.cell? ⟨g2_0, 0, none⟩ = some (.int .u8 (c1 : Nat)) ∧ (w4).drew.cell? ⟨g2_0, 1, none⟩ = some (.int .u64 ((wd m1 0 : Nat) : Int)) ∧ (w4).drew.cell? ⟨g2_0, 2, none⟩ = some (.int .u64 ((wd m1 1 : Nat) : Int)) ∧ (w4).drew.cell? ⟨g2_0, 3, none⟩ = some (.int .u64 ((wd m1 2 : Nat) : Int)) ∧ (w4).drew.cell? ⟨g2_0, 4, none⟩ = some (.int .u64 ((wd m1 3 : Nat) : Int)) ∧ (w4).drew.cell? ⟨g2_0, 5, none⟩ = some (.int .u64 ((wd m1 4 : Nat) : Int)) ∧ (w4).drew.cell? ⟨g2_0, 6, none⟩ = some (.int .u64 ((wd m1 5 : Nat) : Int)) ∧ (w4).drew.cell? ⟨g2_0, 7, none⟩ = some (.int .i64 X1) ∧ (w4).drew.cell? ⟨g2_0, 8, none⟩ = some (.int .u64 ((wd r1 0 : Nat) : Int)) ∧ (w4).drew.cell? ⟨g2_0, 9, none⟩ = some (.int .u64 ((wd r1 1 : Nat) : Int)) ∧ (w4).drew.cell? ⟨g2_0, 10, none⟩ = some (.int .u64 ((wd r1 2 : Nat) : Int)) ∧ (w4).drew.cell? ⟨g2_0, 11, none⟩ = some (.int .u64 ((wd r1 3 : Nat) : Int)) ∧ (w4).drew.cell? ⟨g2_0, 12, none⟩ = some (.int .u64 ((wd r1 4 : Nat) : Int)) ∧ (w4).drew.cell? ⟨g2_0, 13, none⟩ = some (.int .u64 ((wd r1 5 : Nat) : Int)) ∧ (w4).drew.cell? ⟨g2_1, 0, none⟩ = some (.int .u8 (c2 : Nat)) ∧ (w4).drew.cell? ⟨g2_1, 1, none⟩ = some (.int .u64 ((wd m2 0 : Nat) : Int)) ∧ (w4).drew.cell? ⟨g2_1, 2, none⟩ = some (.int .u64 ((wd m2 1 : Nat) : Int)) ∧ (w4).drew.cell? ⟨g2_1, 3, none⟩ = some (.int .u64 ((wd m2 2 : Nat) : Int)) ∧ (w4).drew.cell? ⟨g2_1, 4, none⟩ = some (.int .u64 ((wd m2 3 : Nat) : Int)) ∧ (w4).drew.cell? ⟨g2_1, 5, none⟩ = some (.int .u64 ((wd m2 4 : Nat) : Int)) ∧ (w4).drew.cell? ⟨g2_1, 6, none⟩ = some (.int .u64 ((wd m2 5 : Nat) : Int)) ∧ (w4).drew.cell? ⟨g2_1, 7, none⟩ = some (.int .i64 X2) ∧ (w4).drew.cell? ⟨g2_1, 8, none⟩ = some (.int .u64 ((wd r2 0 : Nat) : Int)) ∧ (w4).drew.cell? ⟨g2_1, 9, none⟩ = some (.int .u64 ((wd r2 1 : Nat) : Int)) ∧ (w4).drew.cell? ⟨g2_1, 10, none⟩ = some (.int .u64 ((wd r2 2 : Nat) : Int)) ∧ (w4).drew.cell? ⟨g2_1, 11, none⟩ = some (.int .u64 ((wd r2 3 : Nat) : Int)) ∧ (w4).drew.cell? ⟨g2_1, 12, none⟩ = some (.int .u64 ((wd r2 4 : Nat) : Int)) ∧ (w4).drew.cell? ⟨g2_1, 13, none⟩ = some (.int .u64 ((wd r2 5 : Nat) : Int)) ∧ (w4).drew.cell? ⟨g2_2, 0, none⟩ = some (.int .u8 (c3 : Nat)) ∧ (w4).drew.cell? ⟨g2_2, 1, none⟩ = some (.int .u64 ((wd m3 0 : Nat) : Int)) ∧ (w4).drew.cell? ⟨g2_2, 2, none⟩ = some (.int .u64 ((wd m3 1 : Nat) : Int)) ∧ (w4).drew.cell? ⟨g2_2, 3, none⟩ = some (.int .u64 ((wd m3 2 : Nat) : Int)) ∧ (w4).drew.cell? ⟨g2_2, 4, none⟩ = some (.int .u64 ((wd m3 3 : Nat) : Int)) ∧ (w4).drew.cell? ⟨g2_2, 5, none⟩ = some (.int .u64 ((wd m3 4 : Nat) : Int)) ∧ (w4).drew.cell? ⟨g2_2, 6, none⟩ = some (.int .u64 ((wd m3 5 : Nat) : Int)) ∧ (w4).drew.cell? ⟨g2_2, 7, none⟩ = some (.int .i64 X3) ∧ (w4).drew.cell? ⟨g2_2, 8, none⟩ = some (.int .u64 ((wd r3 0 : Nat) : Int)) ∧ (w4).drew.cell? ⟨g2_2, 9, none⟩ = some (.int .u64 ((wd r3 1 : Nat) : Int)) ∧ (w4).drew.cell? ⟨g2_2, 10, none⟩ = some (.int .u64 ((wd r3 2 : Nat) : Int)) ∧ (w4).drew.cell? ⟨g2_2, 11, none⟩ = some (.int .u64 ((wd r3 3 : Nat) : Int)) ∧ (w4).drew.cell? ⟨g2_2, 12, none⟩ = some (.int .u64 ((wd r3 4 : Nat) : Int)) ∧ (w4).drew.cell? ⟨g2_2, 13, none⟩ = some (.int .u64 ((wd r3 5 : Nat) : Int)) := ⟨B4.drew, Rx_4, Ry_4, Rk_4, Rq_4, cell7 (Rx_4) 0 _ rfl, cell7 (Rx_4) 1 _ rfl, cell7 (Rx_4) 2 _ rfl, cell7 (Rx_4) 3 _ rfl, cell7 (Rx_4) 4 _ rfl, cell7 (Rx_4) 5 _ rfl, cell7 (Rx_4) 6 _ rfl, cell7 (Rx_4) 7 _ rfl, cell7 (Rx_4) 8 _ rfl, cell7 (Rx_4) 9 _ rfl, cell7 (Rx_4) 10 _ rfl, cell7 (Rx_4) 11 _ rfl, cell7 (Rx_4) 12 _ rfl, cell7 (Rx_4) 13 _ rfl, cell7 (Ry_4) 0 _ rfl, cell7 (Ry_4) 1 _ rfl, cell7 (Ry_4) 2 _ rfl, cell7 (Ry_4) 3 _ rfl, cell7 (Ry_4) 4 _ rfl, cell7 (Ry_4) 5 _ rfl, cell7 (Ry_4) 6 _ rfl, cell7 (Ry_4) 7 _ rfl, cell7 (Ry_4) 8 _ rfl, cell7 (Ry_4) 9 _ rfl, cell7 (Ry_4) 10 _ rfl, cell7 (Ry_4) 11 _ rfl, cell7 (Ry_4) 12 _ rfl, cell7 (Ry_4) 13 _ rfl, cell7 (Rk_4) 0 _ rfl, cell7 (Rk_4) 1 _ rfl, cell7 (Rk_4) 2 _ rfl, cell7 (Rk_4) 3 _ rfl, cell7 (Rk_4) 4 _ rfl, cell7 (Rk_4) 5 _ rfl, cell7 (Rk_4) 6 _ rfl, cell7 (Rk_4) 7 _ rfl, cell7 (Rk_4) 8 _ rfl, cell7 (Rk_4) 9 _ rfl, cell7 (Rk_4) 10 _ rfl, cell7 (Rk_4) 11 _ rfl, cell7 (Rk_4) 12 _ rfl, cell7 (Rk_4) 13 _ rfl⟩
    have rz : (w4).drew.heap[w.heap.size + 1 + 1 + 1]? = some (Obj.cells #[.int .u64 0, .int .u64 0] 26) := Rz_4
    have hq0 := fz (k := 0) rz
    have hq1 := fz (k := 1) rz
    have hc0 := cell7 rz 0 _ rfl
    have hc1 := cell7 rz 1 _ rfl
    go_wp2_with fail
    go_region_held3 (fun W => Below w.heap.size w W ∧ W.heap[g2_0]? = some (Obj.cells (pt c1 m1 X1 r1) 54) ∧ W.heap[g2_1]? = some (Obj.cells (pt c2 m2 X2 r2) 54) ∧ W.heap[g2_2]? = some (Obj.cells (pt c3 m3 X3 r3) 54) ∧ W.heap[g4]? = some (Obj.cells #[.int .u8 p1, .int .u8 p2, .int .u8 p3] 124) ∧ W.cell? ⟨g2_0, 0, none⟩ = some (.int .u8 (c1 : Nat)) ∧ W.cell? ⟨g2_0, 1, none⟩ = some (.int .u64 ((wd m1 0 : Nat) : Int)) ∧ W.cell? ⟨g2_0, 2, none⟩ = some (.int .u64 ((wd m1 1 : Nat) : Int)) ∧ W.cell? ⟨g2_0, 3, none⟩ = some (.int .u64 ((wd m1 2 : Nat) : Int)) ∧ W.cell? ⟨g2_0, 4, none⟩ = some (.int .u64 ((wd m1 3 : Nat) : Int)) ∧ W.cell? ⟨g2_0, 5, none⟩ = some (.int .u64 ((wd m1 4 : Nat) : Int)) ∧ W.cell? ⟨g2_0, 6, none⟩ = some (.int .u64 ((wd m1 5 : Nat) : Int)) ∧ W.cell? ⟨g2_0, 7, none⟩ = some (.int .i64 X1) ∧ W.cell? ⟨g2_0, 8, none⟩ = some (.int .u64 ((wd r1 0 : Nat) : Int)) ∧ W.cell? ⟨g2_0, 9, none⟩ = some (.int .u64 ((wd r1 1 : Nat) : Int)) ∧ W.cell? ⟨g2_0, 10, none⟩ = some (.int .u64 ((wd r1 2 : Nat) : Int)) ∧ W.cell? ⟨g2_0, 11, none⟩ = some (.int .u64 ((wd r1 3 : Nat) : Int)) ∧ W.cell? ⟨g2_0, 12, none⟩ = some (.int .u64 ((wd r1 4 : Nat) : Int)) ∧ W.cell? ⟨g2_0, 13, none⟩ = some (.int .u64 ((wd r1 5 : Nat) : Int)) ∧ W.cell? ⟨g2_1, 0, none⟩ = some (.int .u8 (c2 : Nat)) ∧ W.cell? ⟨g2_1, 1, none⟩ = some (.int .u64 ((wd m2 0 : Nat) : Int)) ∧ W.cell? ⟨g2_1, 2, none⟩ = some (.int .u64 ((wd m2 1 : Nat) : Int)) ∧ W.cell? ⟨g2_1, 3, none⟩ = some (.int .u64 ((wd m2 2 : Nat) : Int)) ∧ W.cell? ⟨g2_1, 4, none⟩ = some (.int .u64 ((wd m2 3 : Nat) : Int)) ∧ W.cell? ⟨g2_1, 5, none⟩ = some (.int .u64 ((wd m2 4 : Nat) : Int)) ∧ W.cell? ⟨g2_1, 6, none⟩ = some (.int .u64 ((wd m2 5 : Nat) : Int)) ∧ W.cell? ⟨g2_1, 7, none⟩ = some (.int .i64 X2) ∧ W.cell? ⟨g2_1, 8, none⟩ = some (.int .u64 ((wd r2 0 : Nat) : Int)) ∧ W.cell? ⟨g2_1, 9, none⟩ = some (.int .u64 ((wd r2 1 : Nat) : Int)) ∧ W.cell? ⟨g2_1, 10, none⟩ = some (.int .u64 ((wd r2 2 : Nat) : Int)) ∧ W.cell? ⟨g2_1, 11, none⟩ = some (.int .u64 ((wd r2 3 : Nat) : Int)) ∧ W.cell? ⟨g2_1, 12, none⟩ = some (.int .u64 ((wd r2 4 : Nat) : Int)) ∧ W.cell? ⟨g2_1, 13, none⟩ = some (.int .u64 ((wd r2 5 : Nat) : Int)) ∧ W.cell? ⟨g2_2, 0, none⟩ = some (.int .u8 (c3 : Nat)) ∧ W.cell? ⟨g2_2, 1, none⟩ = some (.int .u64 ((wd m3 0 : Nat) : Int)) ∧ W.cell? ⟨g2_2, 2, none⟩ = some (.int .u64 ((wd m3 1 : Nat) : Int)) ∧ W.cell? ⟨g2_2, 3, none⟩ = some (.int .u64 ((wd m3 2 : Nat) : Int)) ∧ W.cell? ⟨g2_2, 4, none⟩ = some (.int .u64 ((wd m3 3 : Nat) : Int)) ∧ W.cell? ⟨g2_2, 5, none⟩ = some (.int .u64 ((wd m3 4 : Nat) : Int)) ∧ W.cell? ⟨g2_2, 6, none⟩ = some (.int .u64 ((wd m3 5 : Nat) : Int)) ∧ W.cell? ⟨g2_2, 7, none⟩ = some (.int .i64 X3) ∧ W.cell? ⟨g2_2, 8, none⟩ = some (.int .u64 ((wd r3 0 : Nat) : Int)) ∧ W.cell? ⟨g2_2, 9, none⟩ = some (.int .u64 ((wd r3 1 : Nat) : Int)) ∧ W.cell? ⟨g2_2, 10, none⟩ = some (.int .u64 ((wd r3 2 : Nat) : Int)) ∧ W.cell? ⟨g2_2, 11, none⟩ = some (.int .u64 ((wd r3 3 : Nat) : Int)) ∧ W.cell? ⟨g2_2, 12, none⟩ = some (.int .u64 ((wd r3 4 : Nat) : Int)) ∧ W.cell? ⟨g2_2, 13, none⟩ = some (.int .u64 ((wd r3 5 : Nat) : Int))) (first | exact s1 | exact s0 | exact sT.out _ _ _ s1 | exact sT.out _ _ _ s0)
      (first | (go_at_call 107; refine (KT.out _).mono ?_; rintro r wq ⟨rfl, bq⟩; (first | have s1 := sS.out _ _ s1 bq | have s1 := sS.out _ _ s0 bq); have rz := heap_of bq _ _ _ rz; have hq0 := fz (k := 0) rz; have hc0 := cell7 rz 0 _ rfl; have hq1 := fz (k := 1) rz; have hc1 := cell7 rz 1 _ rfl; clear bq) | (go_at_call 106; refine (KL.out _).mono ?_; rintro r wq ⟨rfl, bq⟩; (first | have s1 := sS.out _ _ s1 bq | have s1 := sS.out _ _ s0 bq); have rz := heap_of bq _ _ _ rz; have hq0 := fz (k := 0) rz; have hc0 := cell7 rz 0 _ rfl; have hq1 := fz (k := 1) rz; have hc1 := cell7 rz 1 _ rfl; clear bq) | (go_at_call 37; (first | refine (KK.out _ (fatB FF.out (And.left s1))).mono ?_ | refine (KK.out _ (fatB FF.out (And.left s0))).mono ?_); rintro r wq ⟨rfl, bq⟩; (first | have s1 := sS.out _ _ s1 bq | have s1 := sS.out _ _ s0 bq); have rz := heap_of bq _ _ _ rz; have hq0 := fz (k := 0) rz; have hc0 := cell7 rz 0 _ rfl; have hq1 := fz (k := 1) rz; have hc1 := cell7 rz 1 _ rfl; clear bq) | fail)
    obtain ⟨E0, E1⟩ := set2_cells rz (.int .u64 (u : Nat)) (.int .u64 (v : Nat))
    have BZ := (by first | exact And.left s1 | exact And.left s0 : Below w.heap.size w _)
    go_wp2
    exact bodyPost_ret (v := .tuple #[.agg #[.int .u64 (u : Nat), .int .u64 (v : Nat)], .int .u8 fl, .int .i64 0]) (by simp [results, Tryz.results51, go_sem, E0, E1]) rfl ⟨rfl, set2_below BZ (by first | exact Nat.le_refl _ | omega | (have := H2.out; have := H4.out; omega)) _ _⟩
set_option maxRecDepth 100000 in
set_option maxHeartbeats 8000000 in
theorem fm_MulAdd_yes (f m : Int) (x1 y1 x2 y2 x3 y3 u v : Nat) (fl : Int) (w : World)
    (KF : Box (∀ (T : TypeId) (g : Nat) (w : World), w.heap.size = g → FAt w → Calls Tryz.prog 32 #[.int .u8 f, .int .u8 m, .slice (some ⟨g, 0, none⟩) 3 3] (w.alloc (.cells #[.int .u64 (x1 : Nat), .int .u64 (y1 : Nat), .int .u64 (x2 : Nat), .int .u64 (y2 : Nat), .int .u64 (x3 : Nat), .int .u64 (y3 : Nat)] T)) fun r w' => r = .returned (.bool true) ∧ Below w.heap.size w w'))
    (KX : Box (∀ w, FAt w → Calls Tryz.prog 51 #[.int .u8 f, .int .u8 m, .agg #[.int .u64 (x1 : Nat), .int .u64 (y1 : Nat)], .agg #[.int .u64 (x2 : Nat), .int .u64 (y2 : Nat)], .agg #[.int .u64 (x3 : Nat), .int .u64 (y3 : Nat)]] w fun r w' => r = .returned (.tuple #[.agg #[.int .u64 (u : Nat), .int .u64 (v : Nat)], .int .u8 fl, .int .i64 0]) ∧ Below w.heap.size w w'))
    (hT : FAt w) : Calls Tryz.prog 12 #[.int .u8 f, .int .u8 m, .agg #[.int .u64 (x1 : Nat), .int .u64 (y1 : Nat)], .agg #[.int .u64 (x2 : Nat), .int .u64 (y2 : Nat)], .agg #[.int .u64 (x3 : Nat), .int .u64 (y3 : Nat)]] w fun r w' => r = .returned (.tuple #[.agg #[.int .u64 (u : Nat), .int .u64 (v : Nat)], .int .u8 fl, .int .i64 0]) ∧ Below w.heap.size w w' := by
  have FF := box hT
  clear hT
  obtain ⟨Ra_0, Rb_0, Rc_0, Rz_0, B0⟩ := opn4 w (Obj.cells #[.int .u64 (x1 : Nat), .int .u64 (y1 : Nat)] 26) (Obj.cells #[.int .u64 (x2 : Nat), .int .u64 (y2 : Nat)] 26) (Obj.cells #[.int .u64 (x3 : Nat), .int .u64 (y3 : Nat)] 26) (Obj.cells #[.int .u64 0, .int .u64 0] 26)
  go_enter Tryz.func12, Tryz.ntmps12
  obtain ⟨ca_0_0, ca_0_1⟩ := cells2s Ra_0
  obtain ⟨cb_0_0, cb_0_1⟩ := cells2s Rb_0
  obtain ⟨cc_0_0, cc_0_1⟩ := cells2s Rc_0
  go_wp2_with fail
  refine (KF.out _ _ ((((w.alloc (Obj.cells #[.int .u64 (x1 : Nat), .int .u64 (y1 : Nat)] 26)).alloc (Obj.cells #[.int .u64 (x2 : Nat), .int .u64 (y2 : Nat)] 26)).alloc (Obj.cells #[.int .u64 (x3 : Nat), .int .u64 (y3 : Nat)] 26)).alloc (Obj.cells #[.int .u64 0, .int .u64 0] 26)) (by first | rfl | simp only [size_al]) (fatB FF.out B0)).mono ?_
  rintro r w1 ⟨rfl, b1⟩
  have B1 : Below w.heap.size w w1 := btr B0 b1
  have Ra_1 := heap_of b1 _ _ _ Ra_0
  have Rb_1 := heap_of b1 _ _ _ Rb_0
  have Rc_1 := heap_of b1 _ _ _ Rc_0
  have Rz_1 := heap_of b1 _ _ _ Rz_0
  clear b1 B0 Ra_0 ca_0_0 ca_0_1 Rb_0 cb_0_0 cb_0_1 Rc_0 cc_0_0 cc_0_1 Rz_0
  obtain ⟨ca_1_0, ca_1_1⟩ := cells2s Ra_1
  obtain ⟨cb_1_0, cb_1_1⟩ := cells2s Rb_1
  obtain ⟨cc_1_0, cc_1_1⟩ := cells2s Rc_1
  go_wp2_with fail
  refine (KX.out _ (fatB FF.out B1)).mono ?_
  rintro r w2 ⟨rfl, b2⟩
  have B2 : Below w.heap.size w w2 := btr B1 b2
  have Ra_2 := heap_of b2 _ _ _ Ra_1
  have Rb_2 := heap_of b2 _ _ _ Rb_1
  have Rc_2 := heap_of b2 _ _ _ Rc_1
  have Rz_2 := heap_of b2 _ _ _ Rz_1
  clear b2 B1 Ra_1 ca_1_0 ca_1_1 Rb_1 cb_1_0 cb_1_1 Rc_1 cc_1_0 cc_1_1 Rz_1
  obtain ⟨ca_2_0, ca_2_1⟩ := cells2s Ra_2
  obtain ⟨cb_2_0, cb_2_1⟩ := cells2s Rb_2
  obtain ⟨cc_2_0, cc_2_1⟩ := cells2s Rc_2
  obtain ⟨cz_2_0, cz_2_1⟩ := cells2s Rz_2
  have q0 := fz (k := 0) Rz_2
  have q1 := fz (k := 1) Rz_2
  obtain ⟨E0, E1⟩ := set2_cells Rz_2 (.int .u64 (u : Nat)) (.int .u64 (v : Nat))
  go_wp2
  exact bodyPost_ret (v := .tuple #[.agg #[.int .u64 (u : Nat), .int .u64 (v : Nat)], .int .u8 fl, .int .i64 0]) (by simp [results, Tryz.results12, go_sem, E0, E1]) rfl ⟨rfl, set2_below B2 (by first | exact Nat.le_refl _ | omega | (skip; omega)) _ _⟩
end Go.Proofs.YtapikkbifdldfaaGreatDoor
