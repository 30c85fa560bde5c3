/-
  What the functions that the statement reaches return: part 2 (BR, BS, BT, JP, JM, BU, DA).
-/
import Derived.RangeFuncNested
import Derived.RangeFuncBound
import Derived.RangeFuncCalls
import Derived.RangeFuncLeaves
import Derived.RangeFuncFrom
import Derived.Shelf.Abstract
import Derived.Shelf.RegionOpen
import Derived.WalkKit
import Derived.OwnWalkIn
import Derived.TacticsInMore
import Derived.LoopNIn
import Derived.LoopIn
import Derived.LoopN
import Derived.Sort.QuietIn
import Derived.Deep.RegionHeld3
import Derived.ChangeMaps5
import Derived.OpenShut
import Derived.Carry
import Derived.Deep.RegionLaw
import Derived.Deep.AppendLies
import Derived.Test.YtfdhglllmhggkaaDoorPa01
namespace Go.Proofs.YtfdhglllmhggkaaDoor
set_option maxRecDepth 100000
set_option maxHeartbeats 40000000
set_option maxRecDepth 100000
open Go.RowKit WMath
set_option linter.unusedSimpArgs false
set_option linter.unusedVariables false
theorem xor32 (a b : Nat) (ha : a < 4294967296) (hb : b < 4294967296) : bits .xor .u32 (a : Int) (b : Int) = ((a ^^^ b : Nat) : Int) := by
  have hx : a ^^^ b < 4294967296 := Nat.xor_lt_two_pow (n := 32) ha hb
  have h1 : (BitVec.ofInt 32 (a : Int)).toNat = a := by
    rw [BitVec.ofInt_natCast, BitVec.toNat_ofNat]; exact Nat.mod_eq_of_lt (by omega)
  have h2 : (BitVec.ofInt 32 (b : Int)).toNat = b := by
    rw [BitVec.ofInt_natCast, BitVec.toNat_ofNat]; exact Nat.mod_eq_of_lt (by omega)
  show IntKind.u32.wrap ((BitVec.ofInt 32 (a : Int) ^^^ BitVec.ofInt 32 (b : Int)).toNat : Int) = _
  rw [BitVec.toNat_xor, h1, h2, show ∀ y : Int, IntKind.u32.wrap y = y % 4294967296 from fun _ => rfl]
  omega
theorem andn32 (a b : Nat) (ha : a < 4294967296) (hb : b < 4294967296) (h : a &&& b = a) : bits .andNot .u32 (a : Int) (b : Int) = 0 := by
  have e : BitVec.ofInt 32 (a : Int) &&& ~~~ BitVec.ofInt 32 (b : Int) = 0#32 := by
    rw [BitVec.ofInt_natCast, BitVec.ofInt_natCast]
    apply BitVec.eq_of_getLsbD_eq
    intro i hi
    rw [BitVec.getLsbD_and, BitVec.getLsbD_not, BitVec.getLsbD_ofNat, BitVec.getLsbD_ofNat, BitVec.getLsbD_zero]
    have t := congrArg (Nat.testBit · i) h
    simp only [Nat.testBit_and] at t
    revert t
    simp only [hi, decide_true, Bool.true_and]
    cases a.testBit i <;> cases b.testBit i <;> decide
  show IntKind.u32.wrap ((BitVec.ofInt 32 (a : Int) &&& ~~~ BitVec.ofInt 32 (b : Int)).toNat : Int) = _
  rw [e]
  rfl
theorem two24 {j k : Nat} {p q : Nm} (hp : allL[j]? = some p) (hq : allL[k]? = some q) (h : k < j) : ∃ X Y Z : Nat, bits .xor .u32 ((p.1.mtch : Nat) : Int) ((q.1.mtch : Nat) : Int) = (X : Int) ∧ bits .and .u32 (X : Int) ((p.1.mask : Nat) : Int) = (Y : Int) ∧ bits .and .u32 (Y : Int) ((q.1.mask : Nat) : Int) = (Z : Int) ∧ ((Z : Int) == 0) = false := by
  obtain ⟨a1, a2⟩ := fit24 p (List.mem_of_getElem? hp)
  obtain ⟨b1, b2⟩ := fit24 q (List.mem_of_getElem? hq)
  have x1 : p.1.mtch ^^^ q.1.mtch < 4294967296 := Nat.xor_lt_two_pow (n := 32) a2 b2
  have y1 : (p.1.mtch ^^^ q.1.mtch) &&& p.1.mask < 4294967296 := Nat.lt_of_le_of_lt Nat.and_le_left x1
  refine ⟨_, _, _, xor32 _ _ a2 b2, and32 _ _ x1 a1, and32 _ _ y1 b1, beq_eq_false_iff_ne.2 (fun e => ?_)⟩
  apply pair24 hq hp h
  have e0 : (p.1.mtch ^^^ q.1.mtch) &&& p.1.mask &&& q.1.mask = 0 := by omega
  rw [Nat.and_comm, Nat.xor_comm q.1.mtch, Nat.and_comm q.1.mask, ← Nat.and_assoc, e0]
theorem four24 {j k : Nat} {p q : Nm} (hp : allL[j]? = some p) (hq : allL[k]? = some q) (h : k < j) : (((p.1.op : Nat) : Int) == ((q.1.op : Nat) : Int)) = false ∨ ((((p.1.op : Nat) : Int) == ((q.1.op : Nat) : Int)) = true ∧ (((p.1.form : Nat) : Int) == ((q.1.form : Nat) : Int)) = false) ∨ ((((p.1.op : Nat) : Int) == ((q.1.op : Nat) : Int)) = true ∧ (((p.1.form : Nat) : Int) == ((q.1.form : Nat) : Int)) = true ∧ (((p.1.frm : Nat) : Int) == ((q.1.frm : Nat) : Int)) = false) ∨ ((((p.1.op : Nat) : Int) == ((q.1.op : Nat) : Int)) = true ∧ (((p.1.form : Nat) : Int) == ((q.1.form : Nat) : Int)) = true ∧ (((p.1.frm : Nat) : Int) == ((q.1.frm : Nat) : Int)) = true ∧ (((p.1.kind : Nat) : Int) == ((q.1.kind : Nat) : Int)) = false) := by
  have no := keys24 hq hp h
  have t : ∀ a b : Nat, a = b → (((a : Nat) : Int) == ((b : Nat) : Int)) = true := fun a b e => beq_iff_eq.2 (by omega)
  have f : ∀ a b : Nat, ¬ a = b → (((a : Nat) : Int) == ((b : Nat) : Int)) = false := fun a b e => beq_eq_false_iff_ne.2 (by omega)
  by_cases h1 : p.1.op = q.1.op
  · by_cases h2 : p.1.form = q.1.form
    · by_cases h3 : p.1.frm = q.1.frm
      · by_cases h4 : p.1.kind = q.1.kind
        · exact absurd ⟨h1.symm, h2.symm, h3.symm, h4.symm⟩ no
        · exact Or.inr (Or.inr (Or.inr ⟨t _ _ h1, t _ _ h2, t _ _ h3, f _ _ h4⟩))
      · exact Or.inr (Or.inr (Or.inl ⟨t _ _ h1, t _ _ h2, f _ _ h3⟩))
    · exact Or.inr (Or.inl ⟨t _ _ h1, f _ _ h2⟩)
  · exact Or.inl (f _ _ h1)
theorem cut7t {G C : Prop} (h : G → C) (k : G) : C := h k
theorem gen_tp1 {X : Act → World → Prop} {R : World → Prop} {t0 t1 t2 t3 t4 t5 t6 t7 t8 t9 t10 t11 t12 t13 t14 t15 t16 t17 t18 t19 t20 t21 t22 t23 t24 t25 t26 t27 t28 t29 t30 t31 t32 t33 t34 t35 t36 t37 t38 t39 t40 t41 t42 t43 t44 t45 t46 t47 t48 t49 t50 t51 t52 t53 t54 t55 t56 t57 t58 t59 t60 t61 t62 t63 t64 t65 t66 t67 t68 t69 t70 t71 t72 t73 t74 t75 t76 t77 t78 t79 t80 t81 t82 t83 t84 t85 t86 t87 t88 t89 t90 t91 t92 t93 t94 t95 t96 t97 t98 t99 t100 t101 t102 t103 t104 t105 t106 t107 t108 t109 t110 t111 t112 t113 t114 t115 t116 t117 t118 t119 t120 t121 t122 t123 t124 t125 t126 t127 t128 t129 t130 t131 t132 t133 t134 t135 t136 t137 t138 t139 t140 t141 t142 t143 t144 t145 t146 t147 t148 t149 t150 t151 t152 t153 t154 t155 t156 t157 t158 t159 t160 t161 t162 t163 t164 t165 t166 t167 t168 t169 t170 t171 t172 t173 t174 t175 t176 t177 t178 t179 t180 t181 t182 t183 t184 t185 t186 t187 : Value} {d : List Deferred} {W : World} (key : ∀ u23 u24 u25 u26 u27 u28 u29 u30 u31 u32 u33 u34 u35 u36 u37 u38 u39 u40 u41 u42 u43 u44 u45 u46 u47 u48 u49 u50 u51 u52 u53 u54 u55 u56 u57 u58 u59 u60 u61 u62 u63 u64 u65 u66 u67 u68 u69 u70 u71 u72 u73 u74 u75 u76 u77 : Value, ∀ V : World, R V → X { tmps := #[t0, t1, t2, t3, t4, t5, t6, t7, t8, t9, t10, t11, t12, t13, t14, t15, t16, t17, t18, t19, t20, t21, t22, u23, u24, u25, u26, u27, u28, u29, u30, u31, u32, u33, u34, u35, u36, u37, u38, u39, u40, u41, u42, u43, u44, u45, u46, u47, u48, u49, u50, u51, u52, u53, u54, u55, u56, u57, u58, u59, u60, u61, u62, u63, u64, u65, u66, u67, u68, u69, u70, u71, u72, u73, u74, u75, u76, u77, t78, t79, t80, t81, t82, t83, t84, t85, t86, t87, t88, t89, t90, t91, t92, t93, t94, t95, t96, t97, t98, t99, t100, t101, t102, t103, t104, t105, t106, t107, t108, t109, t110, t111, t112, t113, t114, t115, t116, t117, t118, t119, t120, t121, t122, t123, t124, t125, t126, t127, t128, t129, t130, t131, t132, t133, t134, t135, t136, t137, t138, t139, t140, t141, t142, t143, t144, t145, t146, t147, t148, t149, t150, t151, t152, t153, t154, t155, t156, t157, t158, t159, t160, t161, t162, t163, t164, t165, t166, t167, t168, t169, t170, t171, t172, t173, t174, t175, t176, t177, t178, t179, t180, t181, t182, t183, t184, t185, t186, t187], defers := d } V) (h : R W) : X { tmps := #[t0, t1, t2, t3, t4, t5, t6, t7, t8, t9, t10, t11, t12, t13, t14, t15, t16, t17, t18, t19, t20, t21, t22, t23, t24, t25, t26, t27, t28, t29, t30, t31, t32, t33, t34, t35, t36, t37, t38, t39, t40, t41, t42, t43, t44, t45, t46, t47, t48, t49, t50, t51, t52, t53, t54, t55, t56, t57, t58, t59, t60, t61, t62, t63, t64, t65, t66, t67, t68, t69, t70, t71, t72, t73, t74, t75, t76, t77, t78, t79, t80, t81, t82, t83, t84, t85, t86, t87, t88, t89, t90, t91, t92, t93, t94, t95, t96, t97, t98, t99, t100, t101, t102, t103, t104, t105, t106, t107, t108, t109, t110, t111, t112, t113, t114, t115, t116, t117, t118, t119, t120, t121, t122, t123, t124, t125, t126, t127, t128, t129, t130, t131, t132, t133, t134, t135, t136, t137, t138, t139, t140, t141, t142, t143, t144, t145, t146, t147, t148, t149, t150, t151, t152, t153, t154, t155, t156, t157, t158, t159, t160, t161, t162, t163, t164, t165, t166, t167, t168, t169, t170, t171, t172, t173, t174, t175, t176, t177, t178, t179, t180, t181, t182, t183, t184, t185, t186, t187], defers := d } W := key _ _ _ _ _ _ _ _ _ _ _ _ _ _ _ _ _ _ _ _ _ _ _ _ _ _ _ _ _ _ _ _ _ _ _ _ _ _ _ _ _ _ _ _ _ _ _ _ _ _ _ _ _ _ _ W h
theorem gen_tp2 {X : Act → World → Prop} {R : World → Prop} {t0 t1 t2 t3 t4 t5 t6 t7 t8 t9 t10 t11 t12 t13 t14 t15 t16 t17 t18 t19 t20 t21 t22 t23 t24 t25 t26 t27 t28 t29 t30 t31 t32 t33 t34 t35 t36 t37 t38 t39 t40 t41 t42 t43 t44 t45 t46 t47 t48 t49 t50 t51 t52 t53 t54 t55 t56 t57 t58 t59 t60 t61 t62 t63 t64 t65 t66 t67 t68 t69 t70 t71 t72 t73 t74 t75 t76 t77 t78 t79 t80 t81 t82 t83 t84 t85 t86 t87 t88 t89 t90 t91 t92 t93 t94 t95 t96 t97 t98 t99 t100 t101 t102 t103 t104 t105 t106 t107 t108 t109 t110 t111 t112 t113 t114 t115 t116 t117 t118 t119 t120 t121 t122 t123 t124 t125 t126 t127 t128 t129 t130 t131 t132 t133 t134 t135 t136 t137 t138 t139 t140 t141 t142 t143 t144 t145 t146 t147 t148 t149 t150 t151 t152 t153 t154 t155 t156 t157 t158 t159 t160 t161 t162 t163 t164 t165 t166 t167 t168 t169 t170 t171 t172 t173 t174 t175 t176 t177 t178 t179 t180 t181 t182 t183 t184 t185 t186 t187 : Value} {d : List Deferred} {W : World} (key : ∀ u81 u82 u83 u84 u85 u86 u87 u88 u89 u90 u91 u92 u93 u94 u95 u96 u97 u98 u99 u100 u101 u102 u103 u104 u105 u106 : Value, ∀ V : World, R V → X { tmps := #[t0, t1, t2, t3, t4, t5, t6, t7, t8, t9, t10, t11, t12, t13, t14, t15, t16, t17, t18, t19, t20, t21, t22, t23, t24, t25, t26, t27, t28, t29, t30, t31, t32, t33, t34, t35, t36, t37, t38, t39, t40, t41, t42, t43, t44, t45, t46, t47, t48, t49, t50, t51, t52, t53, t54, t55, t56, t57, t58, t59, t60, t61, t62, t63, t64, t65, t66, t67, t68, t69, t70, t71, t72, t73, t74, t75, t76, t77, t78, t79, t80, u81, u82, u83, u84, u85, u86, u87, u88, u89, u90, u91, u92, u93, u94, u95, u96, u97, u98, u99, u100, u101, u102, u103, u104, u105, u106, t107, t108, t109, t110, t111, t112, t113, t114, t115, t116, t117, t118, t119, t120, t121, t122, t123, t124, t125, t126, t127, t128, t129, t130, t131, t132, t133, t134, t135, t136, t137, t138, t139, t140, t141, t142, t143, t144, t145, t146, t147, t148, t149, t150, t151, t152, t153, t154, t155, t156, t157, t158, t159, t160, t161, t162, t163, t164, t165, t166, t167, t168, t169, t170, t171, t172, t173, t174, t175, t176, t177, t178, t179, t180, t181, t182, t183, t184, t185, t186, t187], defers := d } V) (h : R W) : X { tmps := #[t0, t1, t2, t3, t4, t5, t6, t7, t8, t9, t10, t11, t12, t13, t14, t15, t16, t17, t18, t19, t20, t21, t22, t23, t24, t25, t26, t27, t28, t29, t30, t31, t32, t33, t34, t35, t36, t37, t38, t39, t40, t41, t42, t43, t44, t45, t46, t47, t48, t49, t50, t51, t52, t53, t54, t55, t56, t57, t58, t59, t60, t61, t62, t63, t64, t65, t66, t67, t68, t69, t70, t71, t72, t73, t74, t75, t76, t77, t78, t79, t80, t81, t82, t83, t84, t85, t86, t87, t88, t89, t90, t91, t92, t93, t94, t95, t96, t97, t98, t99, t100, t101, t102, t103, t104, t105, t106, t107, t108, t109, t110, t111, t112, t113, t114, t115, t116, t117, t118, t119, t120, t121, t122, t123, t124, t125, t126, t127, t128, t129, t130, t131, t132, t133, t134, t135, t136, t137, t138, t139, t140, t141, t142, t143, t144, t145, t146, t147, t148, t149, t150, t151, t152, t153, t154, t155, t156, t157, t158, t159, t160, t161, t162, t163, t164, t165, t166, t167, t168, t169, t170, t171, t172, t173, t174, t175, t176, t177, t178, t179, t180, t181, t182, t183, t184, t185, t186, t187], defers := d } W := key _ _ _ _ _ _ _ _ _ _ _ _ _ _ _ _ _ _ _ _ _ _ _ _ _ _ W h
theorem gen_tp3 {X : Act → World → Prop} {R : World → Prop} {t0 t1 t2 t3 t4 t5 t6 t7 t8 t9 t10 t11 t12 t13 t14 t15 t16 t17 t18 t19 t20 t21 t22 t23 t24 t25 t26 t27 t28 t29 t30 t31 t32 t33 t34 t35 t36 t37 t38 t39 t40 t41 t42 t43 t44 t45 t46 t47 t48 t49 t50 t51 t52 t53 t54 t55 t56 t57 t58 t59 t60 t61 t62 t63 t64 t65 t66 t67 t68 t69 t70 t71 t72 t73 t74 t75 t76 t77 t78 t79 t80 t81 t82 t83 t84 t85 t86 t87 t88 t89 t90 t91 t92 t93 t94 t95 t96 t97 t98 t99 t100 t101 t102 t103 t104 t105 t106 t107 t108 t109 t110 t111 t112 t113 t114 t115 t116 t117 t118 t119 t120 t121 t122 t123 t124 t125 t126 t127 t128 t129 t130 t131 t132 t133 t134 t135 t136 t137 t138 t139 t140 t141 t142 t143 t144 t145 t146 t147 t148 t149 t150 t151 t152 t153 t154 t155 t156 t157 t158 t159 t160 t161 t162 t163 t164 t165 t166 t167 t168 t169 t170 t171 t172 t173 t174 t175 t176 t177 t178 t179 t180 t181 t182 t183 t184 t185 t186 t187 : Value} {d : List Deferred} {W : World} (key : ∀ u137 u138 u139 u140 u141 u142 u143 u144 u145 u146 u147 u148 u149 u150 u151 u152 u153 u154 u155 u156 u157 u158 u159 u160 u161 u162 u163 u164 u165 u166 u167 u168 u169 u170 u171 u172 u173 u174 u175 u176 u177 u178 u179 u180 u181 u182 u183 u184 u185 : Value, ∀ V : World, R V → X { tmps := #[t0, t1, t2, t3, t4, t5, t6, t7, t8, t9, t10, t11, t12, t13, t14, t15, t16, t17, t18, t19, t20, t21, t22, t23, t24, t25, t26, t27, t28, t29, t30, t31, t32, t33, t34, t35, t36, t37, t38, t39, t40, t41, t42, t43, t44, t45, t46, t47, t48, t49, t50, t51, t52, t53, t54, t55, t56, t57, t58, t59, t60, t61, t62, t63, t64, t65, t66, t67, t68, t69, t70, t71, t72, t73, t74, t75, t76, t77, t78, t79, t80, t81, t82, t83, t84, t85, t86, t87, t88, t89, t90, t91, t92, t93, t94, t95, t96, t97, t98, t99, t100, t101, t102, t103, t104, t105, t106, t107, t108, t109, t110, t111, t112, t113, t114, t115, t116, t117, t118, t119, t120, t121, t122, t123, t124, t125, t126, t127, t128, t129, t130, t131, t132, t133, t134, t135, t136, u137, u138, u139, u140, u141, u142, u143, u144, u145, u146, u147, u148, u149, u150, u151, u152, u153, u154, u155, u156, u157, u158, u159, u160, u161, u162, u163, u164, u165, u166, u167, u168, u169, u170, u171, u172, u173, u174, u175, u176, u177, u178, u179, u180, u181, u182, u183, u184, u185, t186, t187], defers := d } V) (h : R W) : X { tmps := #[t0, t1, t2, t3, t4, t5, t6, t7, t8, t9, t10, t11, t12, t13, t14, t15, t16, t17, t18, t19, t20, t21, t22, t23, t24, t25, t26, t27, t28, t29, t30, t31, t32, t33, t34, t35, t36, t37, t38, t39, t40, t41, t42, t43, t44, t45, t46, t47, t48, t49, t50, t51, t52, t53, t54, t55, t56, t57, t58, t59, t60, t61, t62, t63, t64, t65, t66, t67, t68, t69, t70, t71, t72, t73, t74, t75, t76, t77, t78, t79, t80, t81, t82, t83, t84, t85, t86, t87, t88, t89, t90, t91, t92, t93, t94, t95, t96, t97, t98, t99, t100, t101, t102, t103, t104, t105, t106, t107, t108, t109, t110, t111, t112, t113, t114, t115, t116, t117, t118, t119, t120, t121, t122, t123, t124, t125, t126, t127, t128, t129, t130, t131, t132, t133, t134, t135, t136, t137, t138, t139, t140, t141, t142, t143, t144, t145, t146, t147, t148, t149, t150, t151, t152, t153, t154, t155, t156, t157, t158, t159, t160, t161, t162, t163, t164, t165, t166, t167, t168, t169, t170, t171, t172, t173, t174, t175, t176, t177, t178, t179, t180, t181, t182, t183, t184, t185, t186, t187], defers := d } W := key _ _ _ _ _ _ _ _ _ _ _ _ _ _ _ _ _ _ _ _ _ _ _ _ _ _ _ _ _ _ _ _ _ _ _ _ _ _ _ _ _ _ _ _ _ _ _ _ _ W h
set_option maxRecDepth 100000 in
set_option maxHeartbeats 8000000 in
theorem tb_pairs {T : World → Prop} (FB : Box (∀ {w w' : World}, T w → Below w.heap.size w w' → T w')) (R1 : Box (∀ w, T w → Calls Tryd.prog 10 #[] w fun r w' => ∃ v, r = .returned v ∧ OwnsRws w w' v)) (N1 : Box (∀ p ∈ allL, ∀ w, T w → Calls Tryd.prog 12 #[.agg (rwC p.1)] w fun r w' => r = .returned (.tuple #[.string ⟨p.2.toArray⟩, .int .i64 0]) ∧ Below w.heap.size w w')) (M1 : Box (∀ p ∈ allL, ∀ w, T w → Calls Tryd.prog 19 #[.int .u8 (p.1.lay : Nat)] w fun r w' => r = .returned (.bool (mdL p.1.lay)) ∧ Below w.heap.size w w')) (F1 : Box (∀ p ∈ allL, ∀ w, T w → Calls Tryd.prog 17 #[.agg (rwC p.1), .int .u32 (p.1.mtch : Nat)] w fun r w' => r = .returned (.bool (fitsL p.1 p.1.mtch)) ∧ Below w.heap.size w w')) (KL : Box (∀ w, T w → Calls Tryd.prog 14 #[] w fun r w' => r = .returned (.bool true) ∧ Below w.heap.size w w')) (w : World) (hT : T w) : Calls Tryd.prog 8 #[] w fun r w' => r = .returned (.bool true) ∧ Below w.heap.size w w' := by
  have FF := box hT
  clear hT
  have B0 := Below.refl w.heap.size w
  go_enter Tryd.func8, Tryd.ntmps8
  go_wp2_with fail
  refine (R1.out _ FF.out).mono ?_
  rintro r w1 ⟨v, rfl, g, cap, rfl, hg, hN, hb⟩
  have B1 := btr (btr B0 hb) (bal w1 (.map #[] 0))
  have R0 := hN.below (bal w1 (.map #[] 0))
  have M0 := names_new w1
  have G : Box (w.heap.size ≤ w1.heap.size) := box hb.size
  have gg : Box (g ≠ w1.heap.size) := by
    obtain ⟨cur, h1, _⟩ := hN
    exact box (fun e => by have := (Array.getElem?_eq_some_iff.1 h1).1; omega)
  clear B0 hb hN
  have hmm : (Instr.makeMap 58 none).run Tryd.prog w1 = .ok (.map (some w1.heap.size)) (w1.alloc (.map #[] 0)) := by kernel_rfl
  go_wp2
  clear hmm
  go_loopw [3] (fun iv wr => ∃ k : Nat, k ≤ 136 ∧ iv = .int .i64 (k : Int) ∧ Below w.heap.size w wr ∧ RwsAt wr g 0 allL ∧ NmsAt wr w1.heap.size k) (fun iv _ => 136 - (intOf iv).toNat)
  case atStart => exact ⟨0, Nat.zero_le _, rfl, B1, R0, M0⟩
  case round =>
    clear B1 R0 M0
    obtain ⟨k, hk, rfl, hB, hR, hM⟩ := hrel
    by_cases hlt : k < 136
    · have dl : decide ((k : Int) < 136) = true := decide_eq_true (by omega)
      have hwk : IntKind.i64.wrap ((k : Int) + 1) = ((k + 1 : Nat) : Int) := by rw [IntKind.wrap_i64]; omega
      obtain ⟨⟨r0, s0⟩, hp⟩ : ∃ p, allL[k]? = some p := ⟨_, List.getElem?_eq_getElem (by rw [allL_len]; exact hlt)⟩
      have KN := box (N1.out (r0, s0) (List.mem_of_getElem? hp))
      have KM := box (M1.out (r0, s0) (List.mem_of_getElem? hp))
      have KF := box (F1.out (r0, s0) (List.mem_of_getElem? hp))
      have HP := box hp
      clear hp
      simp only at KN KM KF
      obtain ⟨m1, m2⟩ := fit24 _ (List.mem_of_getElem? HP.out)
      obtain ⟨p1, p2, p3, p4, p5⟩ := part24 HP.out
      simp only at m1 m2 p1 p2 p3 p4 p5
      have hA : bits .andNot .u32 ((r0.mtch : Nat) : Int) ((r0.mask : Nat) : Int) = 0 := andn32 _ _ m2 m1 p1
      have hC : bits .and .u32 ((r0.mask : Nat) : Int) 127 = 127 := (and32 _ 127 m1 (by decide)).trans (by rw [p2]; rfl)
      have hD : bits .and .u32 ((r0.mask : Nat) : Int) 1015808 = 0 := (and32 _ 1015808 m1 (by decide)).trans (by rw [p3]; rfl)
      obtain ⟨b, hbb⟩ : ∃ b, mdL r0.lay = b := ⟨_, rfl⟩
      have hE : b = true → bits .and .u32 ((r0.mask : Nat) : Int) 28672 = 0 := fun e => (and32 _ 28672 m1 (by decide)).trans (by rw [p4 (hbb.trans e)]; rfl)
      rw [hbb] at KM
      have P5 := box p5
      clear m1 m2 p1 p2 p3 p4 p5 hbb
      have hs : Box (s0.length ≤ 100) := box (short24 HP.out)
      obtain ⟨sb, hsb⟩ : ∃ sb : ByteArray, (⟨s0.toArray⟩ : ByteArray) = sb := ⟨_, rfl⟩
      rw [hsb] at KN
      have HS := box hsb
      clear hsb
      obtain ⟨c0, c1, c2, c3, c4, c5, c6⟩ := hR.cells (Nat.zero_le _) HP.out
      have hrf := rwC_fold r0
      go_wp2_with fail
      refine (KN.out _ (FB.out FF.out hB)).mono ?_
      rintro r2 w2 ⟨rfl, b2⟩
      have B2 := btr hB b2
      have R2 := hR.below b2
      have M2 := hM.below b2
      clear hB hR hM b2 c0 c1 c2 c3 c4 c5 c6
      go_wp2_with fail
      obtain ⟨F, hF1, hF2⟩ := below_fun w2
      have fc := fun u => (R2.below (hF1 u)).cells (Nat.zero_le _) HP.out
      have f0 := fun u => (fc u).1
      have f4 := fun u => (fc u).2.2.2.2.1
      have f5 := fun u => (fc u).2.2.2.2.2.1
      have f6 := fun u => (fc u).2.2.2.2.2.2
      clear fc
      have fm := fun u => (M2.below (hF1 u)).no HP.out hs.out
      simp only [HS.out] at fm
      have FG : Box (∀ u, T (F u)) := box (fun u => FB.out FF.out (btr B2 (hF1 u)))
      have HE := box hE
      have HB : Box (b = false ∨ b = true) := box (by cases b; exact Or.inl rfl; exact Or.inr rfl)
      clear hE
      apply cut7t
      · intro key
        rcases HB.out with hb | hb
        case' h.inl => have KM := KM; rw [hb] at KM
        case' h.inr => have hE := HE.out hb; have KM := KM; rw [hb] at KM
        all_goals
          refine wp_region_below F hF2 (by kernel_rfl) (by kernel_rfl) ?_
          repeat first | go_big_quiet_step (first | (go_at_call 19; exact quietF hF1 hF2 (KM.out _ (FG.out _))) | fail) | quiet_step (first | (go_at_call 19; exact quietF hF1 hF2 (KM.out _ (FG.out _))) | fail)
          refine wpQuiet_nil ?_
          rintro _ ⟨uW, rfl⟩
          exact gen_tp1 (R := fun V => Below w.heap.size w V ∧ RwsAt V g 0 allL ∧ NmsAt V w1.heap.size k) key ⟨btr B2 (hF1 uW), R2.below (hF1 uW), M2.below (hF1 uW)⟩
      rintro u23 u24 u25 u26 u27 u28 u29 u30 u31 u32 u33 u34 u35 u36 u37 u38 u39 u40 u41 u42 u43 u44 u45 u46 u47 u48 u49 u50 u51 u52 u53 u54 u55 u56 u57 u58 u59 u60 u61 u62 u63 u64 u65 u66 u67 u68 u69 u70 u71 u72 u73 u74 u75 u76 u77 w3 ⟨B3, RW3, M3⟩
      clear hF1 hF2 f0 f4 f5 f6 fm FG F B2 R2 M2 hA hC hD HE HB KM
      obtain ⟨w4, hup, M4, hgr⟩ := M3.put hlt HP.out hs.out
      simp only [HS.out] at hup
      have B4 : Below w.heap.size w w4 := B3.grown hgr B3.size (fun q e => by cases e; exact G.out)
      have RW4 : RwsAt w4 g 0 allL := by
        obtain ⟨cur, h1, h2⟩ := RW3
        exact ⟨cur, (hgr.block g (Array.getElem?_eq_some_iff.1 h1).1 (fun e => gg.out (Option.some.inj e))).trans h1, h2⟩
      clear B3 RW3 M3 hgr
      have LL : Box (((((r0.lay : Nat) : Int) != 8) = false ∨ ((((r0.lay : Nat) : Int) != 8) = true ∧ (((r0.lay : Nat) : Int) != 9) = false)) ∨ ((((r0.lay : Nat) : Int) != 8) = true ∧ (((r0.lay : Nat) : Int) != 9) = true ∧ fitsL r0 r0.mtch = true)) := box (by
        by_cases q8 : r0.lay = 8
        · exact Or.inl (Or.inl (by rw [q8]; rfl))
        · by_cases q9 : r0.lay = 9
          · exact Or.inl (Or.inr ⟨by rw [q9]; rfl, by rw [q9]; rfl⟩)
          · exact Or.inr ⟨bne_iff_ne.2 (by omega), bne_iff_ne.2 (by omega), P5.out q8 q9⟩)
      go_wp2_with fail
      clear hup
      obtain ⟨F, hF1, hF2⟩ := below_fun w4
      have fc := fun u => (RW4.below (hF1 u)).cells (Nat.zero_le _) HP.out
      have f0 := fun u => (fc u).1
      have f1 := fun u => (fc u).2.1
      have f2 := fun u => (fc u).2.2.1
      have f3 := fun u => (fc u).2.2.2.1
      have f4 := fun u => (fc u).2.2.2.2.1
      have f5 := fun u => (fc u).2.2.2.2.2.1
      have f6 := fun u => (fc u).2.2.2.2.2.2
      clear fc
      have FG : Box (∀ u, T (F u)) := box (fun u => FB.out FF.out (btr B4 (hF1 u)))
      apply cut7t
      · intro key
        rcases LL.out with (e8 | ⟨e8, e9⟩) | ⟨e8, e9, e7⟩
        case' h.inr => have KF := KF; rw [e7] at KF; clear e7
        all_goals
          refine wp_region_below F hF2 (by kernel_rfl) (by kernel_rfl) ?_
          repeat first | go_big_quiet_step (first | (go_at_call 17; exact quietF hF1 hF2 (KF.out _ (FG.out _))) | fail) | quiet_step (first | (go_at_call 17; exact quietF hF1 hF2 (KF.out _ (FG.out _))) | fail)
          refine wpQuiet_nil ?_
          rintro _ ⟨uW, rfl⟩
          exact gen_tp2 (R := fun V => Below w.heap.size w V ∧ RwsAt V g 0 allL ∧ NmsAt V w1.heap.size (k + 1)) key ⟨btr B4 (hF1 uW), RW4.below (hF1 uW), M4.below (hF1 uW)⟩
      clear hF1 hF2 f0 f1 f2 f3 f4 f5 f6 FG F B4 RW4 M4 LL KF KN
      rintro v81 v82 v83 v84 v85 v86 v87 v88 v89 v90 v91 v92 v93 v94 v95 v96 v97 v98 v99 v100 v101 v102 v103 v104 v105 v106 w5 ⟨B5, RW5, M5⟩
      go_wp2
      go_loopw [6] (fun jv wx => ∃ j : Nat, j ≤ k ∧ jv = .int .i64 (j : Int) ∧ Below w.heap.size w wx ∧ RwsAt wx g 0 allL ∧ NmsAt wx w1.heap.size (k + 1)) (fun jv _ => k - (intOf jv).toNat)
      case atStart => exact ⟨0, Nat.zero_le _, rfl, B5, RW5, M5⟩
      case round =>
        clear B5 RW5 M5
        obtain ⟨j, hj, rfl, hB, hR, hM⟩ := hrel
        by_cases hlj : j < k
        · have dj : decide ((j : Int) < (k : Int)) = true := decide_eq_true (by omega)
          have hwj : IntKind.i64.wrap ((j : Int) + 1) = ((j + 1 : Nat) : Int) := by rw [IntKind.wrap_i64]; omega
          obtain ⟨⟨q0, z0⟩, hq⟩ : ∃ q, allL[j]? = some q := ⟨_, List.getElem?_eq_getElem (by rw [allL_len]; omega)⟩
          have HQ := box hq
          clear hq
          obtain ⟨X, Y, Z, x1, x2, x3, x4⟩ := two24 HP.out HQ.out hlj
          have F4 := four24 HP.out HQ.out hlj
          simp only at x1 x2 x3 F4
          have F4 := box F4
          obtain ⟨c0, c1, c2, c3, c4, c5, c6⟩ := hR.cells (Nat.zero_le _) HP.out
          obtain ⟨d0, d1, d2, d3, d4, d5, d6⟩ := hR.cells (Nat.zero_le _) HQ.out
          go_wp2_with fail
          go_quiet (fail)
          obtain ⟨w6, hw6, B6, hh⟩ := quiet_world hB nq
          rw [hw6]
          have RW6 : RwsAt w6 g 0 allL := by
            obtain ⟨cur, h1, h2⟩ := hR
            exact ⟨cur, by rw [hh]; exact h1, h2⟩
          have M6 : NmsAt w6 w1.heap.size (k + 1) := hM.same (by rw [hh])
          clear hw6 hh hB hR hM c0 c1 c2 c3 c4 c5 c6 d0 d1 d2 d3 d4 d5 d6 x1 x2 x3 x4
          obtain ⟨c0, c1, c2, c3, c4, c5, c6⟩ := RW6.cells (Nat.zero_le _) HP.out
          obtain ⟨d0, d1, d2, d3, d4, d5, d6⟩ := RW6.cells (Nat.zero_le _) HQ.out
          go_wp2_with fail
          apply cut7t
          · intro key
            rcases F4.out with e1 | ⟨e1, e2⟩ | ⟨e1, e2, e3⟩ | ⟨e1, e2, e3, e4⟩
            all_goals
              go_quiet (fail)
              obtain ⟨w7, hw7, B7, hh⟩ := quiet_world B6 nq
              rw [hw7]
              have RW7 : RwsAt w7 g 0 allL := by
                obtain ⟨cur, h1, h2⟩ := RW6
                exact ⟨cur, by rw [hh]; exact h1, h2⟩
              have M7 : NmsAt w7 w1.heap.size (k + 1) := M6.same (by rw [hh])
              exact gen_tp3 (R := fun V => Below w.heap.size w V ∧ RwsAt V g 0 allL ∧ NmsAt V w1.heap.size (k + 1)) key ⟨B7, RW7, M7⟩
          rintro z137 z138 z139 z140 z141 z142 z143 z144 z145 z146 z147 z148 z149 z150 z151 z152 z153 z154 z155 z156 z157 z158 z159 z160 z161 z162 z163 z164 z165 z166 z167 z168 z169 z170 z171 z172 z173 z174 z175 z176 z177 z178 z179 z180 z181 z182 z183 z184 z185 w7 ⟨B7, RW7, M7⟩
          clear RW6 M6 B6 c0 c1 c2 c3 c4 c5 c6 d0 d1 d2 d3 d4 d5 d6
          go_wp2
          go_roundw
          case rel =>
            first
              | exact ⟨j + 1, by omega, by first | rfl | simp, B7, RW7, M7⟩
              | ((repeat apply Exists.intro); exact ⟨⟨j + 1, by omega, by first | rfl | simp, B7, RW7, M7⟩, rfl⟩)
          case measure => simp [intOf]; omega
        · have dj : decide ((j : Int) < (k : Int)) = false := decide_eq_false (by omega)
          go_wp2
          go_roundw
          case rel =>
            first
              | exact ⟨k + 1, by omega, by first | rfl | simp, hB, hR, hM⟩
              | ((repeat apply Exists.intro); exact ⟨⟨k + 1, by omega, by first | rfl | simp, hB, hR, hM⟩, rfl⟩)
          case measure => simp [intOf]; omega
    · have k136 : k = 136 := by omega
      subst k136
      have dl : decide ((136 : Int) < 136) = false := rfl
      go_wp2_with fail
      refine (KL.out _ (FB.out FF.out hB)).mono ?_
      rintro r8 w4 ⟨rfl, b4⟩
      have B4 := btr hB b4
      go_wp2
      go_ret
      exact ⟨rfl, B4⟩
def RwOk (q : Rw) : Prop := q.op < 256 ∧ q.form < 256 ∧ q.frm < 256 ∧ q.kind < 256 ∧ q.mask < 4294967296 ∧ q.mtch < 4294967296 ∧ q.lay < 256
theorem okL : (allL.all fun p => decide (p.1.op < 256 ∧ p.1.form < 256 ∧ p.1.frm < 256 ∧ p.1.kind < 256 ∧ p.1.mask < 4294967296 ∧ p.1.mtch < 4294967296 ∧ p.1.lay < 256)) = true := by decide +kernel
theorem ok24 {p : Nm} (hp : p ∈ allL) : RwOk p.1 := by
  unfold RwOk
  exact of_decide_eq_true (List.all_eq_true.1 okL p hp)
theorem lv1 : (fdL 3211475).isSome = true ∧ (fdL 3231955).isSome = false ∧ (ndO (fdL 3231955)).1 = rwZ ∧ (ndO (nmR24 (ndO (fdL 3211475)).1)).2 = [102, 97, 100, 100, 46, 115] ∧ erO (nmR24 (ndO (fdL 3211475)).1) = 0 := by decide +kernel
theorem lv2 : erO (byR24 ⟨#[102, 99, 118, 116, 46, 100, 46, 119, 117]⟩) = 0 ∧ (ndO (byR24 ⟨#[102, 99, 118, 116, 46, 100, 46, 119, 117]⟩)).1.op = 22 ∧ (ndO (byR24 ⟨#[102, 99, 118, 116, 46, 100, 46, 119, 117]⟩)).1.form = 1 ∧ (ndO (byR24 ⟨#[102, 99, 118, 116, 46, 100, 46, 119, 117]⟩)).1.kind = 1 := by decide +kernel
theorem lv3 : RwOk (ndO (fdL 3211475)).1 := by unfold RwOk; decide +kernel
theorem lives24 {T : World → Prop} (FB : Box (∀ {w w' : World}, T w → Below w.heap.size w w' → T w')) (CF : ∀ x : Nat, x < 4294967296 → Box (∀ w, T w → Calls Tryd.prog 15 #[.int .u32 (x : Nat)] w fun r w' => r = .returned (.tuple #[.agg (rwC (ndO (fdL x)).1), .bool (fdL x).isSome]) ∧ Below w.heap.size w w')) (CN : ∀ q : Rw, RwOk q → Box (∀ w, T w → Calls Tryd.prog 12 #[.agg (rwC q)] w fun r w' => r = .returned (.tuple #[.string ⟨(ndO (nmR24 q)).2.toArray⟩, .int .i64 (erO (nmR24 q))]) ∧ Below w.heap.size w w')) (CD : ∀ s : ByteArray, s.size ≤ maxLen → Box (∀ w, T w → Calls Tryd.prog 13 #[.string s] w fun r w' => r = .returned (.tuple #[.agg (rwC (ndO (byR24 s)).1), .int .i64 (erO (byR24 s))]) ∧ Below w.heap.size w w')) (CL : Box (∀ w, T w → Calls Tryd.prog 11 #[] w fun r w' => r = .returned (.int .i64 136) ∧ Below w.heap.size w w')) (w : World) (hT : T w) : Calls Tryd.prog 14 #[] w fun r w' => r = .returned (.bool true) ∧ Below w.heap.size w w' := by
  obtain ⟨a1, a2, a3, a4, a5⟩ := lv1
  obtain ⟨b1, b2, b3, b4⟩ := lv2
  have F1 := CF 3211475 (by decide)
  have F2 := CF 3231955 (by decide)
  have N1 := CN _ lv3
  have N2 := CD ⟨#[102, 99, 118, 116, 46, 100, 46, 119, 117]⟩ (by decide)
  rw [a1] at F1
  rw [a2, a3] at F2
  rw [a4, a5] at N1
  rw [b1] at N2
  exact tb_lives FB _ _ ⟨b2, b3, b4⟩ F1 F2 N1 N2 CL w hT
theorem backL : (allL.all fun p => decide ((ndO (nmR24 p.1)).2 = p.2 ∧ erO (nmR24 p.1) = 0)) = true := by decide +kernel
theorem backN : (allL.all fun p => decide ((ndO (byR24 ⟨p.2.toArray⟩)).1 = p.1 ∧ erO (byR24 ⟨p.2.toArray⟩) = 0 ∧ p.2.length ≤ 100)) = true := by decide +kernel
theorem nm24 {p : Nm} (hp : p ∈ allL) : (ndO (nmR24 p.1)).2 = p.2 ∧ erO (nmR24 p.1) = 0 := of_decide_eq_true (List.all_eq_true.1 backL p hp)
theorem by24 {p : Nm} (hp : p ∈ allL) : (ndO (byR24 ⟨p.2.toArray⟩)).1 = p.1 ∧ erO (byR24 ⟨p.2.toArray⟩) = 0 ∧ p.2.length ≤ 100 := of_decide_eq_true (List.all_eq_true.1 backN p hp)
theorem pairs24 {T : World → Prop} (FB : Box (∀ {w w' : World}, T w → Below w.heap.size w w' → T w')) (CN : ∀ q : Rw, RwOk q → Box (∀ w, T w → Calls Tryd.prog 12 #[.agg (rwC q)] w fun r w' => r = .returned (.tuple #[.string ⟨(ndO (nmR24 q)).2.toArray⟩, .int .i64 (erO (nmR24 q))]) ∧ Below w.heap.size w w')) (CT : ∀ q : Rw, RwOk q → ∀ x : Nat, x < 4294967296 → Box (∀ w, T w → Calls Tryd.prog 17 #[.agg (rwC q), .int .u32 (x : Nat)] w fun r w' => r = .returned (.bool (fitsL q x)) ∧ Below w.heap.size w w')) (CR : Box (∀ w, T w → Calls Tryd.prog 10 #[] w fun r w' => ∃ v, r = .returned v ∧ OwnsRws w w' v)) (CM : ∀ l : Nat, l < 256 → Box (∀ w, T w → Calls Tryd.prog 19 #[.int .u8 (l : Nat)] w fun r w' => r = .returned (.bool (mdL l)) ∧ Below w.heap.size w w')) (KL : Box (∀ w, T w → Calls Tryd.prog 14 #[] w fun r w' => r = .returned (.bool true) ∧ Below w.heap.size w w')) (w : World) (hT : T w) : Calls Tryd.prog 8 #[] w fun r w' => r = .returned (.bool true) ∧ Below w.heap.size w w' := by
  refine tb_pairs FB CR (box (fun p hp w hT => ?_)) (box (fun p hp w hT => (CM p.1.lay (ok24 hp).2.2.2.2.2.2).out w hT)) (box (fun p hp w hT => (CT p.1 (ok24 hp) p.1.mtch (ok24 hp).2.2.2.2.2.1).out w hT)) KL w hT
  have h := (CN p.1 (ok24 hp)).out w hT
  rw [(nm24 hp).1, (nm24 hp).2] at h
  exact h
end Go.Proofs.YtfdhglllmhggkaaDoor
namespace Go.Proofs.YtfdhglllmhggkaaDoor
set_option maxRecDepth 100000
set_option maxHeartbeats 40000000
set_option maxRecDepth 100000
open Go.RowKit Go.Shelf WMath
set_option linter.unusedVariables false
set_option linter.unusedSimpArgs false
attribute [local go_sem] Oper.semAt_some

theorem row_grq {W W' : World} {row : Option Nat} {B g : Nat} {o : Obj} (h : W.heap[g]? = some o) (hg : W.grownBy W' row) (hr : ∀ r, row = some r → B ≤ r) (hb : g < B) : W'.heap[g]? = some o := by
  rw [hg.block g (Array.getElem?_eq_some_iff.1 h).1 (fun e => by have := hr g e.symm; omega)]
  exact h
end Go.Proofs.YtfdhglllmhggkaaDoor
namespace Go.Proofs.YtfdhglllmhggkaaDoor
set_option maxRecDepth 100000
set_option maxHeartbeats 40000000
set_option maxRecDepth 100000
open Go.RowKit WMath
set_option linter.unusedVariables false
structure TopK (B : Nat) (W W' : World) : Prop where
  size : W.heap.size ≤ W'.heap.size
  same : ∀ k, B ≤ k → k < W.heap.size → W'.heap[k]? = W.heap[k]?
theorem TopK.refl (B : Nat) (W : World) : TopK B W W := ⟨Nat.le_refl _, fun _ _ _ => rfl⟩
theorem TopK.trans {B : Nat} {X Y Z : World} (h : TopK B X Y) (k : TopK B Y Z) : TopK B X Z :=
  ⟨Nat.le_trans h.size k.size, fun i a b => (k.same i a (Nat.lt_of_lt_of_le b h.size)).trans (h.same i a b)⟩
theorem TopK.mono {B C : Nat} {X Y : World} (h : TopK B X Y) (c : B ≤ C) : TopK C X Y := ⟨h.size, fun i a b => h.same i (Nat.le_trans c a) b⟩
theorem TopK.grown {B : Nat} {W W' : World} {row : Option Nat} (hg : W.grownBy W' row) (hr : ∀ r, row = some r → r < B) : TopK B W W' :=
  ⟨hg.size, fun k a b => hg.block k b (fun e => by have := hr k e.symm; omega)⟩
theorem TopK.setCell {B : Nat} (W : World) (b i : Nat) (v : Value) (h : b < B) : TopK B W (W.setCell ⟨b, i, none⟩ v) := by
  refine ⟨?_, fun k a c => setCell_other (by omega)⟩
  exact ((Below.refl 0 W).setCell (p := ⟨b, i, none⟩) (Nat.zero_le _) v).size
theorem TopK.alloc {B : Nat} (W : World) (o : Obj) : TopK B W (W.alloc o) :=
  ⟨((Below.refl 0 W).alloc (Nat.zero_le _) o).size, fun k a b => Below.heap_alloc W o k b⟩
theorem TopK.putObj {B : Nat} (W : World) (l : Nat) (o : Obj) (h : l < B) : TopK B W (W.putObj l o) := .grown (grownBy_putObj' W l o) (fun r e => by cases e; exact h)
theorem TopK.below {B : Nat} {W W' : World} (h : Below W.heap.size W W') : TopK B W W' := ⟨h.size, fun k a b => h.block k b⟩
theorem TopK.row {B : Nat} {W W' : World} (h : TopK B W W') {k : Nat} {o : Obj} (a : B ≤ k) (hk : W.heap[k]? = some o) : W'.heap[k]? = some o := (h.same k a (Array.getElem?_eq_some_iff.1 hk).1).trans hk
end Go.Proofs.YtfdhglllmhggkaaDoor
namespace Go.Proofs.YtfdhglllmhggkaaDoor
set_option maxRecDepth 100000
set_option maxHeartbeats 40000000
set_option maxRecDepth 100000
open Go.RowKit Go.Shelf WMath
set_option linter.unusedVariables false
set_option linter.unusedSimpArgs false
attribute [local go_sem] Oper.semAt_some

def rwsC (l : List Rw) : List Value := l.flatMap fun r => (rwC r).toList
theorem rwsC_app (l m : List Rw) : rwsC (l ++ m) = rwsC l ++ rwsC m := by simp [rwsC]
theorem rwsC_at (m : List Rw) (k j : Nat) (p : Rw) (h : m[k]? = some p) (hj : j < 7) : (rwsC m)[k * 7 + j]? = (rwC p).toList[j]? := flat_at (fun r => (rwC r).toList) 7 (fun _ => rfl) m k j p h hj
theorem own_setq {w : World} {base : Nat} {e : TypeId} {size n : Nat} {v : Value} {xs : List Value} {g : Nat} {u : Value} (h : w.ownsRow base e size v n xs) (hg : g < base) : (w.setCell ⟨g, 0, none⟩ u).ownsRow base e size v n xs := by
  refine ⟨h.1, ?_⟩
  rcases h.2 with q | ⟨b, cap, cur, h1, h2, h3, h4⟩
  · exact Or.inl q
  · exact Or.inr ⟨b, cap, cur, h1, h2, by rw [setCell_other (by omega)]; exact h3, h4⟩
theorem rw_oneq (r : Rw) : ∀ u ∈ (rwC r).toList, u.oneCell' = true := fun x hx => by
  simp [rwC] at hx
  rcases hx with rfl | rfl | rfl | rfl | rfl | rfl | rfl <;> rfl
end Go.Proofs.YtfdhglllmhggkaaDoor
namespace Go.Proofs.YtfdhglllmhggkaaDoor
set_option maxRecDepth 100000
set_option maxHeartbeats 40000000
set_option maxRecDepth 100000
set_option linter.unusedVariables false
structure Pl where
  nm : List UInt8
  opc : Nat
  rs3 : Nat
  rm : Nat
  lay : Nat
deriving DecidableEq
def plL : List Pl := [
  ⟨[], 0, 0, 0, 0⟩,
  ⟨[102, 108, 77], 7, 0, 0, 1⟩,
  ⟨[102, 115, 77], 39, 0, 0, 2⟩,
  ⟨[102, 109, 97, 100, 100, 46, 70], 67, 0, 0, 3⟩,
  ⟨[102, 109, 115, 117, 98, 46, 70], 71, 0, 0, 3⟩,
  ⟨[102, 110, 109, 115, 117, 98, 46, 70], 75, 0, 0, 3⟩,
  ⟨[102, 110, 109, 97, 100, 100, 46, 70], 79, 0, 0, 3⟩,
  ⟨[102, 97, 100, 100, 46, 70], 83, 0, 0, 4⟩,
  ⟨[102, 115, 117, 98, 46, 70], 83, 1, 0, 4⟩,
  ⟨[102, 109, 117, 108, 46, 70], 83, 2, 0, 4⟩,
  ⟨[102, 100, 105, 118, 46, 70], 83, 3, 0, 4⟩,
  ⟨[102, 115, 113, 114, 116, 46, 70], 83, 11, 0, 6⟩,
  ⟨[102, 115, 103, 110, 106, 46, 70], 83, 4, 0, 5⟩,
  ⟨[102, 115, 103, 110, 106, 110, 46, 70], 83, 4, 1, 5⟩,
  ⟨[102, 115, 103, 110, 106, 120, 46, 70], 83, 4, 2, 5⟩,
  ⟨[102, 109, 105, 110, 46, 70], 83, 5, 0, 5⟩,
  ⟨[102, 109, 97, 120, 46, 70], 83, 5, 1, 5⟩,
  ⟨[102, 99, 118, 116, 46, 70, 46, 71], 83, 8, 0, 6⟩,
  ⟨[102, 101, 113, 46, 70], 83, 20, 2, 5⟩,
  ⟨[102, 108, 116, 46, 70], 83, 20, 1, 5⟩,
  ⟨[102, 108, 101, 46, 70], 83, 20, 0, 5⟩,
  ⟨[102, 99, 118, 116, 46, 75, 46, 70], 83, 24, 0, 6⟩,
  ⟨[102, 99, 118, 116, 46, 70, 46, 75], 83, 26, 0, 6⟩,
  ⟨[102, 109, 118, 46, 120, 46, 77], 83, 28, 0, 7⟩,
  ⟨[102, 99, 108, 97, 115, 115, 46, 70], 83, 28, 1, 7⟩,
  ⟨[102, 109, 118, 46, 77, 46, 120], 83, 30, 0, 7⟩,
  ⟨[99, 115, 114, 114, 119], 115, 0, 1, 8⟩,
  ⟨[99, 115, 114, 114, 115], 115, 0, 2, 8⟩,
  ⟨[99, 115, 114, 114, 99], 115, 0, 3, 8⟩,
  ⟨[99, 115, 114, 114, 119, 105], 115, 0, 5, 9⟩,
  ⟨[99, 115, 114, 114, 115, 105], 115, 0, 6, 9⟩,
  ⟨[99, 115, 114, 114, 99, 105], 115, 0, 7, 9⟩]
def plZ : Pl := ⟨[], 0, 0, 0, 0⟩
def plN (o : Nat) : Pl := plL[o]?.getD plZ
def fxL : List Nat := [0, 28799, 28799, 100663423, 4261412991, 4261441663, 4293918847, 4293947519, 28799, 28799]
def fxN (l : Nat) : Nat := fxL[l]?.getD 0
def wdL : List Nat := [2, 3, 1, 4]
def wdN (f : Nat) : Nat := wdL[f]?.getD 0
structure Fd where
  opc : Nat
  rm : Nat
  rs2 : Nat
  form : Nat
  rs3 : Nat
deriving DecidableEq
def cutF (w : Nat) : Fd := ⟨w % 128, w / 4096 % 8, w / 1048576 % 32, w / 33554432 % 4, w / 134217728 % 32⟩
def wordF (f : Fd) : Nat := (((f.opc ||| f.rm * 4096) ||| f.rs2 * 1048576) ||| f.form * 33554432) ||| f.rs3 * 134217728
def cnQ (o : Nat) : Nat × Nat × Nat :=
  if (plN o).lay = 0 then (0, 0, 0) else if (plN o).lay = 8 ∨ (plN o).lay = 9 then (1, 1, 1) else if o = 23 ∨ o = 25 then (3, 1, 1) else if o = 17 then (4, 4, 1) else if o = 21 ∨ o = 22 then (4, 1, 4) else (4, 1, 1)
def rmP (o f : Nat) : Nat := if (plN o).lay = 1 ∨ (plN o).lay = 2 then wdN f else (plN o).rm
def fdP (o f g k : Nat) : Fd := ⟨(plN o).opc, rmP o f, g ||| k, f, (plN o).rs3⟩
def rwP24 (o f g k : Nat) : Rw := ⟨o, f, g, k, fxN (plN o).lay, wordF (fdP o f g k) &&& fxN (plN o).lay, (plN o).lay⟩
def inP24 (o f g k : Nat) : List Rw := if o = 17 ∧ g = f then [] else [rwP24 o f g k]
def kP24 (o f g k : Nat) : List Rw := (List.range k).flatMap (inP24 o f g)
def gP24 (o f g : Nat) : List Rw := (List.range g).flatMap fun g => kP24 o f g (cnQ o).2.2
def fP24 (o f : Nat) : List Rw := (List.range f).flatMap fun f => gP24 o f (cnQ o).2.1
def rwsO (o : Nat) : List Rw := fP24 o (cnQ o).1
theorem rwsO_all : (List.range 32).flatMap rwsO = allL.map (·.1) := by decide +kernel
theorem rwsO_out {o : Nat} (h : 32 ≤ o) : rwsO o = [] := by
  have e : plN o = plZ := by unfold plN; rw [List.getElem?_eq_none (by show 32 ≤ o; exact h)]; rfl
  simp [rwsO, cnQ, e, plZ, fP24]
theorem fP24_next (o f : Nat) : fP24 o (f + 1) = fP24 o f ++ gP24 o f (cnQ o).2.1 := by simp [fP24, List.range_succ]
theorem gP_next (o f g : Nat) : gP24 o f (g + 1) = gP24 o f g ++ kP24 o f g (cnQ o).2.2 := by simp [gP24, List.range_succ]
theorem kP_next (o f g k : Nat) : kP24 o f g (k + 1) = kP24 o f g k ++ inP24 o f g k := by simp [kP24, List.range_succ]
theorem rws_op : ((List.range 32).all fun o => (rwsO o).all fun r => decide (r.op = o ∧ r.form < 4 ∧ r.frm < 4 ∧ r.kind < 4)) = true := by decide +kernel
theorem cnQ_le : ((List.range 32).all fun o => decide ((cnQ o).1 ≤ 4 ∧ (cnQ o).2.1 ≤ 4 ∧ (cnQ o).2.2 ≤ 4)) = true := by decide +kernel
end Go.Proofs.YtfdhglllmhggkaaDoor
