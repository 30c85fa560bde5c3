/-
  What the functions that the statement reaches return: part 9 (CC).
-/
import Derived.Test.YtjbnifhpbdjonaaDoorRp08
namespace Go.Proofs.YtjbnifhpbdjonaaDoor
set_option maxRecDepth 100000
set_option maxHeartbeats 40000000
set_option maxRecDepth 100000
open Go.RowKit WMath
set_option linter.unusedSimpArgs false
set_option linter.unusedVariables false
structure Stp where
  how : Int
  on : Int
  n : Int
  X : Nat
  u : Nat
  v : Nat
  fm : Int
  sv : Value
def stA (s : Stp) : Array Value := #[.int .i64 s.how, .int .i64 s.on, .int .i64 s.n, .int .u64 (s.X : Nat), .int .u64 (s.u : Nat), .int .u64 (s.v : Nat), .int .u8 s.fm, s.sv]
def PLs (rg : (Nat → Nat) → Array Value) (tg : TypeId) (w W : World) (gr gx b0 b1 : Nat) (X Y : Nat → Nat) : Prop :=
  Below w.heap.size w W ∧ W.heap[gr]? = some (.cells #[.pointer (some ⟨b0, 0, none⟩), .pointer (some ⟨b1, 0, none⟩)] 32) ∧ W.heap[gx]? = some (.cells (rf2 X Y) 34) ∧ W.heap[b0]? = some (.cells (rg X) tg) ∧ W.heap[b1]? = some (.cells (rg Y) tg) ∧ Bnd X ∧ Bnd Y ∧ w.heap.size ≤ gr ∧ w.heap.size ≤ gx ∧ w.heap.size ≤ b0 ∧ w.heap.size ≤ b1 ∧ b0 ≠ b1 ∧ gr ≠ b0 ∧ gr ≠ b1 ∧ gx ≠ gr ∧ gx ≠ b0 ∧ gx ≠ b1
theorem and1i (a : Int) : bits .and .i64 a 1 = 0 ∨ bits .and .i64 a 1 = 1 := by
  have e : bits .and .i64 a 1 = IntKind.i64.wrap ((BitVec.ofInt 64 a &&& BitVec.ofInt 64 1).toNat : Int) := rfl
  have q : (BitVec.ofInt 64 a &&& BitVec.ofInt 64 1).toNat = (BitVec.ofInt 64 a).toNat % 2 := by
    rw [BitVec.toNat_and, show (BitVec.ofInt 64 1).toNat = 1 from by decide, Nat.and_one_is_mod]
  rw [e, q]
  rcases Nat.mod_two_eq_zero_or_one (BitVec.ofInt 64 a).toNat with h | h
  · rw [h]; left; rfl
  · rw [h]; right; rfl
theorem quiet_ld {P : Program} {F : World → World} {o : Oper} {a : Act} {K : Act → Prop} (ty : TypeId) (x : Operand) (h : o.op = .load ty x) (b off : Nat) (hx : a.eval x = .pointer (some ⟨b, off, none⟩)) (cs : List Value) (d : TypeDesc) (hc : ∀ u, (F u).rangeAt b off cs) (hu : P.underlying ty = some d) (hd : d.isRow = true) (hi : (P.info? ty).map (·.size) = some cs.length) (hk : K (a.put o.dst (.agg cs.toArray))) : o.quiet P a (fun w' => ∃ u, w' = F u) K :=
  ⟨_, fun w hw => by
    obtain ⟨u, rfl⟩ := hw
    unfold Oper.quietAt execOp
    simp only [h, hx, Instr.loadAt, Instr.sureAddr, Sem.run_bind, Sem.run_pure, Result.andThen_ok, run_loadVar_mid (F u) b off ty cs d (hc u) hu hd hi]
    exact ⟨rfl, rfl⟩, hk⟩
theorem rf_stm {w : World} {b off : Nat} {R : Nat → Nat} (ht : w.there b off 96) : (storeCells ⟨b, off, none⟩ (rf R).toList 0).run Tryd.prog w = .ok () (w.setCells b off (rf R).toList) := by
  have := run_storeCells_cells (P := Tryd.prog) b off (rf R).toList 0 w (fun j hj => by simpa using (ht j (by simpa [rf_size] using hj)).1) (fun j hj => by simpa using (ht j (by simpa [rf_size] using hj)).2) (fun v hv => (Array.all_eq_true_iff_forall_mem.1 (rf_one R)) v (by simpa using hv))
  simpa using this
theorem only_cell {b g k : Nat} {w w' : World} {v : Value} (o : Only b w w') (hb : g ≠ b) (hg : g < w.heap.size) (h : w.cell? ⟨g, k, none⟩ = some v) : w'.cell? ⟨g, k, none⟩ = some v := by
  have e := o.2.2.2.2 g hg hb
  unfold World.cell? at h ⊢
  rw [e]
  exact h
theorem cells_other {b g k : Nat} (h : b ≠ g) (vs : List Value) (o : Nat) (w : World) : (w.setCells b o vs).cell? ⟨g, k, none⟩ = w.cell? ⟨g, k, none⟩ := by
  unfold World.cell?
  rw [setCells_other h]
theorem chgs_len (R S : Nat → Nat) : (chgs R S).length ≤ 64 := by
  unfold chgs
  rw [List.length_append]
  have := cxK_len R S 32
  have := cfK_len R S 32
  omega
theorem own_cs {w : World} {b : Nat} {v : Value} {l : List Chg} (h : w.ownsRow b 50 5 v l.length (chsC l)) : CS w v l := by
  obtain ⟨_, ⟨h0, h1⟩ | ⟨gi, ci, cur, rfl, hb, row, hc, _, hsz, ht⟩⟩ := h
  · exact ⟨none, 0, by rw [h0, h1], fun hne => absurd (List.length_eq_zero_iff.1 h1) hne⟩
  · refine ⟨_, ci, rfl, fun _ => ⟨gi, 0, rfl, (Array.getElem?_eq_some_iff.1 row).1, fun j u hj => ?_⟩⟩
    have hl : j < l.length * 5 := by rw [← chsC_len]; exact (List.getElem?_eq_some_iff.1 hj).1
    rw [Nat.zero_add]
    refine (cell_of_row w gi j _ _ _ row).trans ?_
    rw [← ht, List.getElem?_take_of_lt hl] at hj
    rw [← Array.getElem?_toList]
    exact hj
theorem st_cells8 (s : Stp) {W : World} {g z i : Nat} (h : ∀ j u, (stA s)[j]? = some u → W.cell? ⟨g, z + (i * 8 + j), none⟩ = some u) : W.cell? ⟨g, z + i * 8, none⟩ = some (.int .i64 s.how) ∧ W.cell? ⟨g, z + i * 8 + 1, none⟩ = some (.int .i64 s.on) ∧ W.cell? ⟨g, z + i * 8 + 2, none⟩ = some (.int .i64 s.n) ∧ W.cell? ⟨g, z + i * 8 + 3, none⟩ = some (.int .u64 (s.X : Nat)) ∧ W.cell? ⟨g, z + i * 8 + 4, none⟩ = some (.int .u64 (s.u : Nat)) ∧ W.cell? ⟨g, z + i * 8 + 5, none⟩ = some (.int .u64 (s.v : Nat)) ∧ W.cell? ⟨g, z + i * 8 + 6, none⟩ = some (.int .u8 s.fm) ∧ W.cell? ⟨g, z + i * 8 + 7, none⟩ = some s.sv :=
  ⟨h 0 _ rfl, h 1 _ rfl, h 2 _ rfl, h 3 _ rfl, h 4 _ rfl, h 5 _ rfl, h 6 _ rfl, h 7 _ rfl⟩
theorem bnd_up0 {R : Nat → Nat} (h : ∀ k, R k < 18446744073709551616) : Bnd (up R 0 0) := ⟨up_lt h (by decide), by unfold up; rw [if_pos rfl]⟩
theorem cutC {G C : Prop} (h : G → C) (k : G) : C := h k
theorem gen_rp1 {X : Act → World → Prop} {R : World → Nat → Nat → Nat → Prop} {t0 t1 t2 t3 t4 t5 t6 t8 t9 t10 t11 t12 t13 t14 t15 t16 t18 t21 t22 t23 t24 t25 t26 t27 t28 t29 t30 t31 t32 t33 t34 t35 t36 t37 t38 t39 t40 t41 t42 t43 t44 t45 t46 t47 t48 t49 t50 t51 t52 t53 t54 t55 t56 t57 t58 t59 t60 t61 t62 t63 t64 t65 t66 t67 t68 t69 t70 t71 t72 t73 t74 t75 t76 t77 t78 t79 t80 t81 t82 t83 t84 t85 t86 t87 t88 t89 t90 t91 t92 t93 t94 t95 t96 t97 t98 t99 t100 t101 t102 t103 t104 t105 t106 t107 t108 t109 t110 t111 t112 t113 t114 t115 t116 t117 t118 t119 t120 t121 t122 t123 t124 t125 t126 t127 t128 t129 t130 t131 t132 t133 t134 t135 t136 t137 t138 t139 t140 t141 t142 t143 t144 t145 t146 t147 t148 t149 t150 t151 t152 t153 t154 t155 t156 t157 t158 t159 t160 t161 t162 t163 t164 t165 t166 t167 t168 t169 t170 t171 : Value} {d : List Deferred} {W : World} {gr b0 b1 : Nat} (key : ∀ (W : World) (gr b0 b1 : Nat), R W gr b0 b1 → X ⟨#[t0, t1, t2, t3, t4, t5, t6, Value.pointer (some ⟨gr, 0, none⟩), t8, t9, t10, t11, t12, t13, t14, t15, t16, Value.pointer (some ⟨b0, 0, none⟩), t18, Value.pointer (some ⟨b1, 0, none⟩), Value.agg #[Value.pointer (some ⟨b0, 0, none⟩), Value.pointer (some ⟨b1, 0, none⟩)], t21, t22, t23, t24, t25, t26, t27, t28, t29, t30, t31, t32, t33, t34, t35, t36, t37, t38, t39, t40, t41, t42, t43, t44, t45, t46, t47, t48, t49, t50, t51, t52, t53, t54, t55, t56, t57, t58, t59, t60, t61, t62, t63, t64, t65, t66, t67, t68, t69, t70, t71, t72, t73, t74, t75, t76, t77, t78, t79, t80, t81, t82, t83, t84, t85, t86, t87, t88, t89, t90, t91, t92, t93, t94, t95, t96, t97, t98, t99, t100, t101, t102, t103, t104, t105, t106, t107, t108, t109, t110, t111, t112, t113, t114, t115, t116, t117, t118, t119, t120, t121, t122, t123, t124, t125, t126, t127, t128, t129, t130, t131, t132, t133, t134, t135, t136, t137, t138, t139, t140, t141, t142, t143, t144, t145, t146, t147, t148, t149, t150, t151, t152, t153, t154, t155, t156, t157, t158, t159, t160, t161, t162, t163, t164, t165, t166, t167, t168, t169, t170, t171], d⟩ W) (r : R W gr b0 b1) : X ⟨#[t0, t1, t2, t3, t4, t5, t6, Value.pointer (some ⟨gr, 0, none⟩), t8, t9, t10, t11, t12, t13, t14, t15, t16, Value.pointer (some ⟨b0, 0, none⟩), t18, Value.pointer (some ⟨b1, 0, none⟩), Value.agg #[Value.pointer (some ⟨b0, 0, none⟩), Value.pointer (some ⟨b1, 0, none⟩)], t21, t22, t23, t24, t25, t26, t27, t28, t29, t30, t31, t32, t33, t34, t35, t36, t37, t38, t39, t40, t41, t42, t43, t44, t45, t46, t47, t48, t49, t50, t51, t52, t53, t54, t55, t56, t57, t58, t59, t60, t61, t62, t63, t64, t65, t66, t67, t68, t69, t70, t71, t72, t73, t74, t75, t76, t77, t78, t79, t80, t81, t82, t83, t84, t85, t86, t87, t88, t89, t90, t91, t92, t93, t94, t95, t96, t97, t98, t99, t100, t101, t102, t103, t104, t105, t106, t107, t108, t109, t110, t111, t112, t113, t114, t115, t116, t117, t118, t119, t120, t121, t122, t123, t124, t125, t126, t127, t128, t129, t130, t131, t132, t133, t134, t135, t136, t137, t138, t139, t140, t141, t142, t143, t144, t145, t146, t147, t148, t149, t150, t151, t152, t153, t154, t155, t156, t157, t158, t159, t160, t161, t162, t163, t164, t165, t166, t167, t168, t169, t170, t171], d⟩ W := key W gr b0 b1 r
theorem gen_rp2 {X : Act → World → Prop} {R : World → Nat → Prop} {t0 t1 t2 t3 t4 t5 t6 t7 t9 t10 t11 t12 t13 t14 t15 t16 t17 t18 t19 t20 t21 t22 t23 t24 t25 t26 t27 t28 t29 t30 t31 t32 t33 t34 t35 t36 t37 t38 t39 t40 t41 t42 t43 t44 t45 t46 t47 t48 t49 t50 t51 t52 t53 t54 t55 t56 t57 t58 t59 t60 t61 t62 t63 t64 t65 t66 t67 t68 t69 t70 t71 t72 t73 t74 t75 t76 t77 t78 t79 t80 t81 t82 t83 t84 t85 t86 t87 t88 t89 t90 t91 t92 t93 t94 t95 t96 t97 t98 t99 t100 t101 t102 t103 t104 t105 t106 t107 t108 t109 t110 t111 t112 t113 t114 t115 t116 t117 t118 t119 t120 t121 t122 t123 t124 t125 t126 t127 t128 t129 t130 t131 t132 t133 t134 t135 t136 t137 t138 t139 t140 t141 t142 t143 t144 t145 t146 t147 t148 t149 t150 t151 t152 t153 t154 t155 t156 t157 t158 t159 t160 t161 t162 t163 t164 t165 t166 t167 t168 t169 t170 t171 : Value} {d : List Deferred} {W : World} {gx : Nat} (key : ∀ (W : World) (gx : Nat), R W gx → X ⟨#[t0, t1, t2, t3, t4, t5, t6, t7, Value.pointer (some ⟨gx, 0, none⟩), t9, t10, t11, t12, t13, t14, t15, t16, t17, t18, t19, t20, t21, t22, t23, t24, t25, t26, t27, t28, t29, t30, t31, t32, t33, t34, t35, t36, t37, t38, t39, t40, t41, t42, t43, t44, t45, t46, t47, t48, t49, t50, t51, t52, t53, t54, t55, t56, t57, t58, t59, t60, t61, t62, t63, t64, t65, t66, t67, t68, t69, t70, t71, t72, t73, t74, t75, t76, t77, t78, t79, t80, t81, t82, t83, t84, t85, t86, t87, t88, t89, t90, t91, t92, t93, t94, t95, t96, t97, t98, t99, t100, t101, t102, t103, t104, t105, t106, t107, t108, t109, t110, t111, t112, t113, t114, t115, t116, t117, t118, t119, t120, t121, t122, t123, t124, t125, t126, t127, t128, t129, t130, t131, t132, t133, t134, t135, t136, t137, t138, t139, t140, t141, t142, t143, t144, t145, t146, t147, t148, t149, t150, t151, t152, t153, t154, t155, t156, t157, t158, t159, t160, t161, t162, t163, t164, t165, t166, t167, t168, t169, t170, t171], d⟩ W) (r : R W gx) : X ⟨#[t0, t1, t2, t3, t4, t5, t6, t7, Value.pointer (some ⟨gx, 0, none⟩), t9, t10, t11, t12, t13, t14, t15, t16, t17, t18, t19, t20, t21, t22, t23, t24, t25, t26, t27, t28, t29, t30, t31, t32, t33, t34, t35, t36, t37, t38, t39, t40, t41, t42, t43, t44, t45, t46, t47, t48, t49, t50, t51, t52, t53, t54, t55, t56, t57, t58, t59, t60, t61, t62, t63, t64, t65, t66, t67, t68, t69, t70, t71, t72, t73, t74, t75, t76, t77, t78, t79, t80, t81, t82, t83, t84, t85, t86, t87, t88, t89, t90, t91, t92, t93, t94, t95, t96, t97, t98, t99, t100, t101, t102, t103, t104, t105, t106, t107, t108, t109, t110, t111, t112, t113, t114, t115, t116, t117, t118, t119, t120, t121, t122, t123, t124, t125, t126, t127, t128, t129, t130, t131, t132, t133, t134, t135, t136, t137, t138, t139, t140, t141, t142, t143, t144, t145, t146, t147, t148, t149, t150, t151, t152, t153, t154, t155, t156, t157, t158, t159, t160, t161, t162, t163, t164, t165, t166, t167, t168, t169, t170, t171], d⟩ W := key W gx r
set_option maxRecDepth 100000 in
set_option maxHeartbeats 8000000 in
theorem rp_1 {T : World → Prop} (FB : Box (∀ {w w' : World}, T w → Below w.heap.size w w' → T w')) (rg : (Nat → Nat) → Array Value) (tg : TypeId) (A C : Nat → Nat) (hA : ∀ k, A k < 18446744073709551616) (hC : ∀ k, C k < 18446744073709551616)
    (KF : Box (∀ R : Nat → Nat, (∀ k, R k < 18446744073709551616) → ∀ w, T w → Calls Tryd.prog 7 #[.agg (rf R)] w fun r w' => ∃ b, r = .returned (.pointer (some ⟨b, 0, none⟩)) ∧ w.heap.size ≤ b ∧ w'.heap[b]? = some (.cells (rg (up R 0 0)) tg) ∧ Below w.heap.size w w'))
    (KG : Box (∀ (R : Nat → Nat) w, Calls Tryd.prog 8 #[.agg (rf R)] w fun r w' => r = .returned (.agg (rf (up R 0 0))) ∧ Below w.heap.size w w'))
    (KL : Box (∀ w, T w → Calls Tryd.prog 9 #[] w fun r w' => r = .returned (.bool true) ∧ Below w.heap.size w w'))
    (KC : Box (∀ (R : Nat → Nat) (b : Nat) w, Bnd R → T w → w.heap[b]? = some (.cells (rg R) tg) → Calls Tryd.prog 10 #[.pointer (some ⟨b, 0, none⟩)] w fun r w' => ∃ b', r = .returned (.pointer (some ⟨b', 0, none⟩)) ∧ w.heap.size ≤ b' ∧ w'.heap[b']? = some (.cells (rg R) tg) ∧ Below w.heap.size w w'))
    (KT : Box (∀ (R : Nat → Nat) (b : Nat) w, Bnd R → T w → w.heap[b]? = some (.cells (rg R) tg) → Calls Tryd.prog 12 #[.pointer (some ⟨b, 0, none⟩)] w fun r w' => r = .returned (.agg (rf R)) ∧ Below w.heap.size w w'))
    (KS : Box (∀ (R S : Nat → Nat) (b c : Nat) w, Bnd R → Bnd S → T w → w.heap[b]? = some (.cells (rg R) tg) → w.heap[c]? = some (.cells (rg S) tg) → Calls Tryd.prog 13 #[.pointer (some ⟨b, 0, none⟩), .pointer (some ⟨c, 0, none⟩)] w fun r w' => r = .returned (.bool (rfE R S)) ∧ Below w.heap.size w w'))
    (KH : Box (∀ (R S : Nat → Nat) (b c : Nat) w, Bnd R → Bnd S → T w → w.heap[b]? = some (.cells (rg R) tg) → w.heap[c]? = some (.cells (rg S) tg) → Calls Tryd.prog 14 #[.pointer (some ⟨b, 0, none⟩), .pointer (some ⟨c, 0, none⟩)] w fun r w' => ∃ v, r = .returned (.tuple #[v, .int .i64 0]) ∧ CS w' v (chgs R S) ∧ Below w.heap.size w w'))
    (ao : Option Addr) (L cv : Nat) (ls : List Stp) (hls : ls.length = L) (w : World)
    (HS : Box (∀ W, Below w.heap.size w W → ∀ i s, ls[i]? = some s → ∃ g z, ao = some ⟨g, z, none⟩ ∧ ∀ j u, (stA s)[j]? = some u → W.cell? ⟨g, z + (i * 8 + j), none⟩ = some u))
    (HG : Box (ls ≠ [] → ∀ g z, ao = some ⟨g, z, none⟩ → g < w.heap.size))
    (KB : Box (∀ s ∈ ls, (s.how == 8) = false → ∀ (R : Nat → Nat) (b : Nat) W, Bnd R → Below w.heap.size w W → w.heap.size ≤ b → T W → W.heap[b]? = some (.cells (rg R) tg) → ∃ R', Bnd R' ∧ Calls Tryd.prog 11 #[.pointer (some ⟨b, 0, none⟩), .agg (rf R), .agg (stA s)] W fun r w' => r = .returned (.tuple #[.agg (rf R'), .bool true]) ∧ w'.heap[b]? = some (.cells (rg R') tg) ∧ Only b W w'))
    (hT : T w) : Calls Tryd.prog 3 #[.agg (rf A), .agg (rf C), .slice ao L cv] w fun r w' => r = .returned (.bool true) ∧ Below w.heap.size w w' := by
  have FF := box hT
  have HA := box hA
  have HC := box hC
  clear hT hA hC
  have hrz := rf_zero
  have hrs : ∀ R, ((rf R).size = 96) = True := fun R => eq_true (rf_size R)
  have hra := rf_at
  obtain ⟨Ra_0, Rb_0, B0⟩ := opn2 w (Obj.cells (rf A) 28) (Obj.cells (rf C) 28)
  go_enter Tryd.func3, Tryd.ntmps3
  have sS : Box (∀ W W1 : World, (Below w.heap.size w W ∧ W.heap[w.heap.size]? = some (.cells (rf A) 28) ∧ W.heap[w.heap.size + 1]? = some (.cells (rf C) 28)) → Below W.heap.size W W1 → (Below w.heap.size w W1 ∧ W1.heap[w.heap.size]? = some (.cells (rf A) 28) ∧ W1.heap[w.heap.size + 1]? = some (.cells (rf C) 28))) := box (fun W W1 h b => ⟨btr h.1 b, heap_of b _ _ _ h.2.1, heap_of b _ _ _ h.2.2⟩)
  have s0 : Below w.heap.size w ((w.alloc (Obj.cells (rf A) 28)).alloc (Obj.cells (rf C) 28)).drew ∧ ((w.alloc (Obj.cells (rf A) 28)).alloc (Obj.cells (rf C) 28)).drew.heap[w.heap.size]? = some (.cells (rf A) 28) ∧ ((w.alloc (Obj.cells (rf A) 28)).alloc (Obj.cells (rf C) 28)).drew.heap[w.heap.size + 1]? = some (.cells (rf C) 28) := ⟨B0.drew, Ra_0, Rb_0⟩
  have hu := Tryd.underlying28
  have hi : ∀ R, (Tryd.prog.info? 28).map (·.size) = some (rf R).toList.length := fun R => by rw [Array.length_toList, rf_size]; kernel_rfl
  have hz : Box (((w.alloc (Obj.cells (rf A) 28)).alloc (Obj.cells (rf C) 28)).drew.heap.size = w.heap.size + 2) := box (by
    show (((w.alloc (Obj.cells (rf A) 28)).alloc (Obj.cells (rf C) 28))).heap.size = _
    simp only [size_al])
  go_wp2_with fail
  apply cutC
  · intro key0
    have key := box key0
    clear key0
    refine wp_region_held_drew (S := fun W => Below w.heap.size w W ∧ W.heap[w.heap.size]? = some (.cells (rf A) 28) ∧ W.heap[w.heap.size + 1]? = some (.cells (rf C) 28)) (by kernel_rfl) s0 (fun hHeld => ?_)
    refine wpAnyH_take (i := 0) rfl (by kernel_rfl) (by kernel_rfl) (by kernel_rfl) (fun _ _ _ h => h) (yieldsIf_load_mid (by rfl) _ _ rfl _ _ rfl (rf A).toList _ (fun W h => rf_range h.2.1) hu rfl (hi A)) (by assumption) ?_
    simp only [Array.toArray_toList]
    (try simp only [Act.put, List.getElem_toArray, List.getElem_cons_zero, List.getElem_cons_succ, List.setIfInBounds_toArray, List.set_cons_zero, List.set_cons_succ])
    refine wpAnyH_take (i := 2) rfl (by kernel_rfl) (by kernel_rfl) (by kernel_rfl) (fun _ _ _ h => h) (yieldsIf_load_mid (by rfl) _ _ rfl _ _ rfl (rf C).toList _ (fun W h => rf_range h.2.2) hu rfl (hi C)) (by assumption) ?_
    simp only [Array.toArray_toList]
    (try simp only [Act.put, List.getElem_toArray, List.getElem_cons_zero, List.getElem_cons_succ, List.setIfInBounds_toArray, List.set_cons_zero, List.set_cons_succ])
    refine wpAnyH_ready (rs := [1, 5]) (by kernel_rfl) (by simp) ?_
    refine AllReadyH.cons rfl (fun K hK => ?_) (AllReadyH.cons rfl (fun K hK => ?_) AllReadyH.nil)
    · go_simp
      refine (KF.out A HA.out _ (FB.out FF.out (And.left s0))).mono ?_
      rintro r w0 ⟨b0, rfl, g0, r0, q0⟩
      (try go_wp2_with fail)
      have s1 := sS.out _ _ s0 q0
      have z0 := q0.size
      have y0 := (Array.getElem?_eq_some_iff.1 r0).1
      refine hK.out _ _ s1 (fun hHeld => ?_)
      clear hK K
      (try simp only [Act.put, List.getElem_toArray, List.getElem_cons_zero, List.getElem_cons_succ, List.setIfInBounds_toArray, List.set_cons_zero, List.set_cons_succ])
      refine wpAnyH_ready (rs := [3, 5]) (by kernel_rfl) (by simp) ?_
      refine AllReadyH.cons rfl (fun K hK => ?_) (AllReadyH.cons rfl (fun K hK => ?_) AllReadyH.nil)
      · go_simp
        refine (KF.out C HC.out _ (FB.out FF.out (And.left s1))).mono ?_
        rintro r w1 ⟨b1, rfl, g1, r1, q1⟩
        (try go_wp2_with fail)
        have s2 := sS.out _ _ s1 q1
        have r0 := heap_of q1 _ _ _ r0
        have z1 := q1.size
        have y1 := (Array.getElem?_eq_some_iff.1 r1).1
        refine hK.out _ _ s2 (fun hHeld => ?_)
        clear hK K
        (try simp only [Act.put, List.getElem_toArray, List.getElem_cons_zero, List.getElem_cons_succ, List.setIfInBounds_toArray, List.set_cons_zero, List.set_cons_succ])
        refine wpAnyH_take (i := 4) (v := ?_) rfl (by kernel_rfl) (by kernel_rfl) (by kernel_rfl) (fun _ _ _ h => h) (Or.inl ⟨by rfl, ?_⟩) (by assumption) ?_
        rotate_left 1
        · intro W hSw
          try dsimp only at hSw
          go_simp
          try with_reducible rfl
        (try simp only [Act.put, List.getElem_toArray, List.getElem_cons_zero, List.getElem_cons_succ, List.setIfInBounds_toArray, List.set_cons_zero, List.set_cons_succ])
        refine wpAnyH_ready (rs := [5]) (by kernel_rfl) (by simp) ?_
        refine AllReadyH.cons rfl (fun K hK => ?_) AllReadyH.nil
        go_simp
        refine hK.out _ _ (sS.out _ _ s2 (bal w1 (Obj.cells #[.pointer none, .pointer none] 32))) (fun hHeld => ?_)
        clear hK K
        (try simp only [Act.put, List.getElem_toArray, List.getElem_cons_zero, List.getElem_cons_succ, List.setIfInBounds_toArray, List.set_cons_zero, List.set_cons_succ])
        have rz := heap_alloc_last w1 (Obj.cells #[.pointer none, .pointer none] 32)
        have sA := sS.out _ _ s2 (bal w1 (Obj.cells #[.pointer none, .pointer none] 32))
        have zA : (w1.alloc (Obj.cells #[.pointer none, .pointer none] 32)).heap.size = w1.heap.size + 1 := size_al _ _
        have r0 := heap_of (bal w1 (Obj.cells #[.pointer none, .pointer none] 32)) _ _ _ r0
        have r1 := heap_of (bal w1 (Obj.cells #[.pointer none, .pointer none] 32)) _ _ _ r1
        obtain ⟨Wa, hWa⟩ : ∃ Wa, w1.alloc (Obj.cells #[.pointer none, .pointer none] 32) = Wa := ⟨_, rfl⟩
        rw [hWa] at rz sA zA hHeld r0 r1 ⊢
        clear hWa
        have hq0 := fz (k := 0) rz
        have hq1 := fz (k := 1) rz
        have hc0 := cell7 rz 0 _ rfl
        have hc1 := cell7 rz 1 _ rfl
        have N1 : w.heap.size + 1 < w1.heap.size ∧ w.heap.size + 1 < b0 ∧ w.heap.size + 1 < b1 ∧ b0 ≠ b1 ∧ w1.heap.size ≠ b0 ∧ w1.heap.size ≠ b1 := by have := hz.out; omega
        have NN := box N1
        have sF : Box ((Below w.heap.size w ((Wa.setCell ⟨w1.heap.size, 0, none⟩ (.pointer (some ⟨b0, 0, none⟩))).setCell ⟨w1.heap.size, 1, none⟩ (.pointer (some ⟨b1, 0, none⟩))) ∧ ((Wa.setCell ⟨w1.heap.size, 0, none⟩ (.pointer (some ⟨b0, 0, none⟩))).setCell ⟨w1.heap.size, 1, none⟩ (.pointer (some ⟨b1, 0, none⟩))).heap[w.heap.size]? = some (.cells (rf A) 28) ∧ ((Wa.setCell ⟨w1.heap.size, 0, none⟩ (.pointer (some ⟨b0, 0, none⟩))).setCell ⟨w1.heap.size, 1, none⟩ (.pointer (some ⟨b1, 0, none⟩))).heap[w.heap.size + 1]? = some (.cells (rf C) 28)) ∧ ((Wa.setCell ⟨w1.heap.size, 0, none⟩ (.pointer (some ⟨b0, 0, none⟩))).setCell ⟨w1.heap.size, 1, none⟩ (.pointer (some ⟨b1, 0, none⟩))).heap[w1.heap.size]? = some (.cells #[.pointer (some ⟨b0, 0, none⟩), .pointer (some ⟨b1, 0, none⟩)] 32) ∧ ((Wa.setCell ⟨w1.heap.size, 0, none⟩ (.pointer (some ⟨b0, 0, none⟩))).setCell ⟨w1.heap.size, 1, none⟩ (.pointer (some ⟨b1, 0, none⟩))).heap[b0]? = some (.cells (rg (up A 0 0)) tg) ∧ ((Wa.setCell ⟨w1.heap.size, 0, none⟩ (.pointer (some ⟨b0, 0, none⟩))).setCell ⟨w1.heap.size, 1, none⟩ (.pointer (some ⟨b1, 0, none⟩))).heap[b1]? = some (.cells (rg (up C 0 0)) tg)) := box ⟨⟨(sA.1.setCell (p := ⟨w1.heap.size, 0, none⟩) (by show w.heap.size ≤ w1.heap.size; omega) _).setCell (p := ⟨w1.heap.size, 1, none⟩) (by show w.heap.size ≤ w1.heap.size; omega) _, (setCell_other (by omega)).trans ((setCell_other (by omega)).trans sA.2.1), (setCell_other (by omega)).trans ((setCell_other (by omega)).trans sA.2.2)⟩, by rw [setCell_row (setCell_row rz)]; rfl, (setCell_other N1.2.2.2.2.1).trans ((setCell_other N1.2.2.2.2.1).trans r0), (setCell_other N1.2.2.2.2.2).trans ((setCell_other N1.2.2.2.2.2).trans r1)⟩
        refine wpAnyH_ready (rs := [6]) (by kernel_rfl) (by simp) ?_
        refine AllReadyH.cons rfl (fun K hK => ?_) AllReadyH.nil
        clear N1
        go_simp
        refine hK.out _ _ sF.out.1 (fun hHeld => ?_)
        clear hK K
        (try simp only [Act.put, List.getElem_toArray, List.getElem_cons_zero, List.getElem_cons_succ, List.setIfInBounds_toArray, List.set_cons_zero, List.set_cons_succ])
        refine wpAnyH_done (by kernel_rfl) ?_ _
        exact gen_rp1 (R := fun W gr b0 b1 => (Below w.heap.size w W ∧ W.heap[w.heap.size]? = some (.cells (rf A) 28) ∧ W.heap[w.heap.size + 1]? = some (.cells (rf C) 28)) ∧ W.heap[gr]? = some (.cells #[.pointer (some ⟨b0, 0, none⟩), .pointer (some ⟨b1, 0, none⟩)] 32) ∧ W.heap[b0]? = some (.cells (rg (up A 0 0)) tg) ∧ W.heap[b1]? = some (.cells (rg (up C 0 0)) tg) ∧ w.heap.size + 1 < gr ∧ w.heap.size + 1 < b0 ∧ w.heap.size + 1 < b1 ∧ b0 ≠ b1 ∧ gr ≠ b0 ∧ gr ≠ b1) key.out ⟨sF.out.1, sF.out.2.1, sF.out.2.2.1, sF.out.2.2.2, NN.out⟩
      · go_simp
        refine hK.out _ _ (sS.out _ _ s1 (bal w0 (Obj.cells #[.pointer none, .pointer none] 32))) (fun hHeld => ?_)
        clear hK K
        (try simp only [Act.put, List.getElem_toArray, List.getElem_cons_zero, List.getElem_cons_succ, List.setIfInBounds_toArray, List.set_cons_zero, List.set_cons_succ])
        have rz := heap_alloc_last w0 (Obj.cells #[.pointer none, .pointer none] 32)
        have sA := sS.out _ _ s1 (bal w0 (Obj.cells #[.pointer none, .pointer none] 32))
        have zA : (w0.alloc (Obj.cells #[.pointer none, .pointer none] 32)).heap.size = w0.heap.size + 1 := size_al _ _
        have r0 := heap_of (bal w0 (Obj.cells #[.pointer none, .pointer none] 32)) _ _ _ r0
        obtain ⟨Wa, hWa⟩ : ∃ Wa, w0.alloc (Obj.cells #[.pointer none, .pointer none] 32) = Wa := ⟨_, rfl⟩
        rw [hWa] at rz sA zA hHeld r0 ⊢
        clear hWa
        refine wpAnyH_ready (rs := [3]) (by kernel_rfl) (by simp) ?_
        refine AllReadyH.cons rfl (fun K hK => ?_) AllReadyH.nil
        go_simp
        refine (KF.out C HC.out _ (FB.out FF.out (And.left sA))).mono ?_
        rintro r w1 ⟨b1, rfl, g1, r1, q1⟩
        (try go_wp2_with fail)
        have s2 := sS.out _ _ sA q1
        have r0 := heap_of q1 _ _ _ r0
        have rz := heap_of q1 _ _ _ rz
        have z1 := q1.size
        have y1 := (Array.getElem?_eq_some_iff.1 r1).1
        refine hK.out _ _ s2 (fun hHeld => ?_)
        clear hK K
        (try simp only [Act.put, List.getElem_toArray, List.getElem_cons_zero, List.getElem_cons_succ, List.setIfInBounds_toArray, List.set_cons_zero, List.set_cons_succ])
        refine wpAnyH_take (i := 4) (v := ?_) rfl (by kernel_rfl) (by kernel_rfl) (by kernel_rfl) (fun _ _ _ h => h) (Or.inl ⟨by rfl, ?_⟩) (by assumption) ?_
        rotate_left 1
        · intro W hSw
          try dsimp only at hSw
          go_simp
          try with_reducible rfl
        (try simp only [Act.put, List.getElem_toArray, List.getElem_cons_zero, List.getElem_cons_succ, List.setIfInBounds_toArray, List.set_cons_zero, List.set_cons_succ])
        have hq0 := fz (k := 0) rz
        have hq1 := fz (k := 1) rz
        have hc0 := cell7 rz 0 _ rfl
        have hc1 := cell7 rz 1 _ rfl
        have N1 : w.heap.size + 1 < w0.heap.size ∧ w.heap.size + 1 < b0 ∧ w.heap.size + 1 < b1 ∧ b0 ≠ b1 ∧ w0.heap.size ≠ b0 ∧ w0.heap.size ≠ b1 := by have := hz.out; omega
        have NN := box N1
        have sF : Box ((Below w.heap.size w ((w1.setCell ⟨w0.heap.size, 0, none⟩ (.pointer (some ⟨b0, 0, none⟩))).setCell ⟨w0.heap.size, 1, none⟩ (.pointer (some ⟨b1, 0, none⟩))) ∧ ((w1.setCell ⟨w0.heap.size, 0, none⟩ (.pointer (some ⟨b0, 0, none⟩))).setCell ⟨w0.heap.size, 1, none⟩ (.pointer (some ⟨b1, 0, none⟩))).heap[w.heap.size]? = some (.cells (rf A) 28) ∧ ((w1.setCell ⟨w0.heap.size, 0, none⟩ (.pointer (some ⟨b0, 0, none⟩))).setCell ⟨w0.heap.size, 1, none⟩ (.pointer (some ⟨b1, 0, none⟩))).heap[w.heap.size + 1]? = some (.cells (rf C) 28)) ∧ ((w1.setCell ⟨w0.heap.size, 0, none⟩ (.pointer (some ⟨b0, 0, none⟩))).setCell ⟨w0.heap.size, 1, none⟩ (.pointer (some ⟨b1, 0, none⟩))).heap[w0.heap.size]? = some (.cells #[.pointer (some ⟨b0, 0, none⟩), .pointer (some ⟨b1, 0, none⟩)] 32) ∧ ((w1.setCell ⟨w0.heap.size, 0, none⟩ (.pointer (some ⟨b0, 0, none⟩))).setCell ⟨w0.heap.size, 1, none⟩ (.pointer (some ⟨b1, 0, none⟩))).heap[b0]? = some (.cells (rg (up A 0 0)) tg) ∧ ((w1.setCell ⟨w0.heap.size, 0, none⟩ (.pointer (some ⟨b0, 0, none⟩))).setCell ⟨w0.heap.size, 1, none⟩ (.pointer (some ⟨b1, 0, none⟩))).heap[b1]? = some (.cells (rg (up C 0 0)) tg)) := box ⟨⟨(s2.1.setCell (p := ⟨w0.heap.size, 0, none⟩) (by show w.heap.size ≤ w0.heap.size; omega) _).setCell (p := ⟨w0.heap.size, 1, none⟩) (by show w.heap.size ≤ w0.heap.size; omega) _, (setCell_other (by omega)).trans ((setCell_other (by omega)).trans s2.2.1), (setCell_other (by omega)).trans ((setCell_other (by omega)).trans s2.2.2)⟩, by rw [setCell_row (setCell_row rz)]; rfl, (setCell_other N1.2.2.2.2.1).trans ((setCell_other N1.2.2.2.2.1).trans r0), (setCell_other N1.2.2.2.2.2).trans ((setCell_other N1.2.2.2.2.2).trans r1)⟩
        refine wpAnyH_ready (rs := [6]) (by kernel_rfl) (by simp) ?_
        refine AllReadyH.cons rfl (fun K hK => ?_) AllReadyH.nil
        clear N1
        go_simp
        refine hK.out _ _ sF.out.1 (fun hHeld => ?_)
        clear hK K
        (try simp only [Act.put, List.getElem_toArray, List.getElem_cons_zero, List.getElem_cons_succ, List.setIfInBounds_toArray, List.set_cons_zero, List.set_cons_succ])
        refine wpAnyH_done (by kernel_rfl) ?_ _
        exact gen_rp1 (R := fun W gr b0 b1 => (Below w.heap.size w W ∧ W.heap[w.heap.size]? = some (.cells (rf A) 28) ∧ W.heap[w.heap.size + 1]? = some (.cells (rf C) 28)) ∧ W.heap[gr]? = some (.cells #[.pointer (some ⟨b0, 0, none⟩), .pointer (some ⟨b1, 0, none⟩)] 32) ∧ W.heap[b0]? = some (.cells (rg (up A 0 0)) tg) ∧ W.heap[b1]? = some (.cells (rg (up C 0 0)) tg) ∧ w.heap.size + 1 < gr ∧ w.heap.size + 1 < b0 ∧ w.heap.size + 1 < b1 ∧ b0 ≠ b1 ∧ gr ≠ b0 ∧ gr ≠ b1) key.out ⟨sF.out.1, sF.out.2.1, sF.out.2.2.1, sF.out.2.2.2, NN.out⟩
    · go_simp
      have sA : Below w.heap.size w (((w.alloc (Obj.cells (rf A) 28)).alloc (Obj.cells (rf C) 28)).alloc (Obj.cells #[.pointer none, .pointer none] 32)).drew ∧ (((w.alloc (Obj.cells (rf A) 28)).alloc (Obj.cells (rf C) 28)).alloc (Obj.cells #[.pointer none, .pointer none] 32)).drew.heap[w.heap.size]? = some (.cells (rf A) 28) ∧ (((w.alloc (Obj.cells (rf A) 28)).alloc (Obj.cells (rf C) 28)).alloc (Obj.cells #[.pointer none, .pointer none] 32)).drew.heap[w.heap.size + 1]? = some (.cells (rf C) 28) := ⟨(btr B0 (bal _ _)).drew, heap_of (bal _ _) _ _ _ Ra_0, heap_of (bal _ _) _ _ _ Rb_0⟩
      refine hK.out _ _ sA (fun hHeld => ?_)
      clear hK K
      (try simp only [Act.put, List.getElem_toArray, List.getElem_cons_zero, List.getElem_cons_succ, List.setIfInBounds_toArray, List.set_cons_zero, List.set_cons_succ])
      have rz : (((w.alloc (Obj.cells (rf A) 28)).alloc (Obj.cells (rf C) 28)).alloc (Obj.cells #[.pointer none, .pointer none] 32)).drew.heap[w.heap.size + 1 + 1]? = some (Obj.cells #[.pointer none, .pointer none] 32) := by have := heap_alloc_last ((w.alloc (Obj.cells (rf A) 28)).alloc (Obj.cells (rf C) 28)) (Obj.cells #[.pointer none, .pointer none] 32); simp only [size_al] at this; exact this
      have zA : (((w.alloc (Obj.cells (rf A) 28)).alloc (Obj.cells (rf C) 28)).alloc (Obj.cells #[.pointer none, .pointer none] 32)).drew.heap.size = w.heap.size + 1 + 1 + 1 := by
        show (((w.alloc (Obj.cells (rf A) 28)).alloc (Obj.cells (rf C) 28)).alloc (Obj.cells #[.pointer none, .pointer none] 32)).heap.size = _
        simp only [size_al]
      obtain ⟨Wa, hWa⟩ : ∃ Wa, (((w.alloc (Obj.cells (rf A) 28)).alloc (Obj.cells (rf C) 28)).alloc (Obj.cells #[.pointer none, .pointer none] 32)).drew = Wa := ⟨_, rfl⟩
      rw [hWa] at rz sA zA hHeld ⊢
      clear hWa
      refine wpAnyH_ready (rs := [1]) (by kernel_rfl) (by simp) ?_
      refine AllReadyH.cons rfl (fun K hK => ?_) AllReadyH.nil
      go_simp
      refine (KF.out A HA.out _ (FB.out FF.out (And.left sA))).mono ?_
      rintro r w0 ⟨b0, rfl, g0, r0, q0⟩
      (try go_wp2_with fail)
      have s1 := sS.out _ _ sA q0
      have rz := heap_of q0 _ _ _ rz
      have z0 := q0.size
      have y0 := (Array.getElem?_eq_some_iff.1 r0).1
      refine hK.out _ _ s1 (fun hHeld => ?_)
      clear hK K
      (try simp only [Act.put, List.getElem_toArray, List.getElem_cons_zero, List.getElem_cons_succ, List.setIfInBounds_toArray, List.set_cons_zero, List.set_cons_succ])
      refine wpAnyH_ready (rs := [3]) (by kernel_rfl) (by simp) ?_
      refine AllReadyH.cons rfl (fun K hK => ?_) AllReadyH.nil
      go_simp
      refine (KF.out C HC.out _ (FB.out FF.out (And.left s1))).mono ?_
      rintro r w1 ⟨b1, rfl, g1, r1, q1⟩
      (try go_wp2_with fail)
      have s2 := sS.out _ _ s1 q1
      have r0 := heap_of q1 _ _ _ r0
      have rz := heap_of q1 _ _ _ rz
      have z1 := q1.size
      have y1 := (Array.getElem?_eq_some_iff.1 r1).1
      refine hK.out _ _ s2 (fun hHeld => ?_)
      clear hK K
      (try simp only [Act.put, List.getElem_toArray, List.getElem_cons_zero, List.getElem_cons_succ, List.setIfInBounds_toArray, List.set_cons_zero, List.set_cons_succ])
      refine wpAnyH_take (i := 4) (v := ?_) rfl (by kernel_rfl) (by kernel_rfl) (by kernel_rfl) (fun _ _ _ h => h) (Or.inl ⟨by rfl, ?_⟩) (by assumption) ?_
      rotate_left 1
      · intro W hSw
        try dsimp only at hSw
        go_simp
        try with_reducible rfl
      (try simp only [Act.put, List.getElem_toArray, List.getElem_cons_zero, List.getElem_cons_succ, List.setIfInBounds_toArray, List.set_cons_zero, List.set_cons_succ])
      have hq0 := fz (k := 0) rz
      have hq1 := fz (k := 1) rz
      have hc0 := cell7 rz 0 _ rfl
      have hc1 := cell7 rz 1 _ rfl
      have N1 : w.heap.size + 1 < (w.heap.size + 1 + 1) ∧ w.heap.size + 1 < b0 ∧ w.heap.size + 1 < b1 ∧ b0 ≠ b1 ∧ (w.heap.size + 1 + 1) ≠ b0 ∧ (w.heap.size + 1 + 1) ≠ b1 := by have := hz.out; omega
      have NN := box N1
      have sF : Box ((Below w.heap.size w ((w1.setCell ⟨(w.heap.size + 1 + 1), 0, none⟩ (.pointer (some ⟨b0, 0, none⟩))).setCell ⟨(w.heap.size + 1 + 1), 1, none⟩ (.pointer (some ⟨b1, 0, none⟩))) ∧ ((w1.setCell ⟨(w.heap.size + 1 + 1), 0, none⟩ (.pointer (some ⟨b0, 0, none⟩))).setCell ⟨(w.heap.size + 1 + 1), 1, none⟩ (.pointer (some ⟨b1, 0, none⟩))).heap[w.heap.size]? = some (.cells (rf A) 28) ∧ ((w1.setCell ⟨(w.heap.size + 1 + 1), 0, none⟩ (.pointer (some ⟨b0, 0, none⟩))).setCell ⟨(w.heap.size + 1 + 1), 1, none⟩ (.pointer (some ⟨b1, 0, none⟩))).heap[w.heap.size + 1]? = some (.cells (rf C) 28)) ∧ ((w1.setCell ⟨(w.heap.size + 1 + 1), 0, none⟩ (.pointer (some ⟨b0, 0, none⟩))).setCell ⟨(w.heap.size + 1 + 1), 1, none⟩ (.pointer (some ⟨b1, 0, none⟩))).heap[(w.heap.size + 1 + 1)]? = some (.cells #[.pointer (some ⟨b0, 0, none⟩), .pointer (some ⟨b1, 0, none⟩)] 32) ∧ ((w1.setCell ⟨(w.heap.size + 1 + 1), 0, none⟩ (.pointer (some ⟨b0, 0, none⟩))).setCell ⟨(w.heap.size + 1 + 1), 1, none⟩ (.pointer (some ⟨b1, 0, none⟩))).heap[b0]? = some (.cells (rg (up A 0 0)) tg) ∧ ((w1.setCell ⟨(w.heap.size + 1 + 1), 0, none⟩ (.pointer (some ⟨b0, 0, none⟩))).setCell ⟨(w.heap.size + 1 + 1), 1, none⟩ (.pointer (some ⟨b1, 0, none⟩))).heap[b1]? = some (.cells (rg (up C 0 0)) tg)) := box ⟨⟨(s2.1.setCell (p := ⟨(w.heap.size + 1 + 1), 0, none⟩) (by show w.heap.size ≤ (w.heap.size + 1 + 1); omega) _).setCell (p := ⟨(w.heap.size + 1 + 1), 1, none⟩) (by show w.heap.size ≤ (w.heap.size + 1 + 1); omega) _, (setCell_other (by omega)).trans ((setCell_other (by omega)).trans s2.2.1), (setCell_other (by omega)).trans ((setCell_other (by omega)).trans s2.2.2)⟩, by rw [setCell_row (setCell_row rz)]; rfl, (setCell_other N1.2.2.2.2.1).trans ((setCell_other N1.2.2.2.2.1).trans r0), (setCell_other N1.2.2.2.2.2).trans ((setCell_other N1.2.2.2.2.2).trans r1)⟩
      refine wpAnyH_ready (rs := [6]) (by kernel_rfl) (by simp) ?_
      refine AllReadyH.cons rfl (fun K hK => ?_) AllReadyH.nil
      clear N1
      go_simp
      refine hK.out _ _ sF.out.1 (fun hHeld => ?_)
      clear hK K
      (try simp only [Act.put, List.getElem_toArray, List.getElem_cons_zero, List.getElem_cons_succ, List.setIfInBounds_toArray, List.set_cons_zero, List.set_cons_succ])
      refine wpAnyH_done (by kernel_rfl) ?_ _
      exact gen_rp1 (R := fun W gr b0 b1 => (Below w.heap.size w W ∧ W.heap[w.heap.size]? = some (.cells (rf A) 28) ∧ W.heap[w.heap.size + 1]? = some (.cells (rf C) 28)) ∧ W.heap[gr]? = some (.cells #[.pointer (some ⟨b0, 0, none⟩), .pointer (some ⟨b1, 0, none⟩)] 32) ∧ W.heap[b0]? = some (.cells (rg (up A 0 0)) tg) ∧ W.heap[b1]? = some (.cells (rg (up C 0 0)) tg) ∧ w.heap.size + 1 < gr ∧ w.heap.size + 1 < b0 ∧ w.heap.size + 1 < b1 ∧ b0 ≠ b1 ∧ gr ≠ b0 ∧ gr ≠ b1) key.out ⟨sF.out.1, sF.out.2.1, sF.out.2.2.1, sF.out.2.2.2, NN.out⟩
  rintro W gr b0 b1 ⟨⟨B1, Ra, Rb⟩, Rr, r0, r1, l1, l2, l3, n1, n2, n3⟩
  clear s0 hz sS
  have NN := box (⟨l1, l2, l3, n1, n2, n3⟩ : w.heap.size + 1 < gr ∧ w.heap.size + 1 < b0 ∧ w.heap.size + 1 < b1 ∧ b0 ≠ b1 ∧ gr ≠ b0 ∧ gr ≠ b1)
  have LL : Box (gr < W.heap.size ∧ b0 < W.heap.size ∧ b1 < W.heap.size ∧ w.heap.size + 1 < W.heap.size) := box ⟨(Array.getElem?_eq_some_iff.1 Rr).1, (Array.getElem?_eq_some_iff.1 r0).1, (Array.getElem?_eq_some_iff.1 r1).1, (Array.getElem?_eq_some_iff.1 Rb).1⟩
  clear l1 l2 l3 n1 n2 n3
  have sS : Box (∀ W W1 : World, (Below w.heap.size w W ∧ W.heap[w.heap.size]? = some (.cells (rf A) 28) ∧ W.heap[w.heap.size + 1]? = some (.cells (rf C) 28) ∧ W.heap[gr]? = some (.cells #[.pointer (some ⟨b0, 0, none⟩), .pointer (some ⟨b1, 0, none⟩)] 32) ∧ W.heap[b0]? = some (.cells (rg (up A 0 0)) tg) ∧ W.heap[b1]? = some (.cells (rg (up C 0 0)) tg)) → Below W.heap.size W W1 → (Below w.heap.size w W1 ∧ W1.heap[w.heap.size]? = some (.cells (rf A) 28) ∧ W1.heap[w.heap.size + 1]? = some (.cells (rf C) 28) ∧ W1.heap[gr]? = some (.cells #[.pointer (some ⟨b0, 0, none⟩), .pointer (some ⟨b1, 0, none⟩)] 32) ∧ W1.heap[b0]? = some (.cells (rg (up A 0 0)) tg) ∧ W1.heap[b1]? = some (.cells (rg (up C 0 0)) tg))) := box (fun W W1 h b => ⟨btr h.1 b, heap_of b _ _ _ h.2.1, heap_of b _ _ _ h.2.2.1, heap_of b _ _ _ h.2.2.2.1, heap_of b _ _ _ h.2.2.2.2.1, heap_of b _ _ _ h.2.2.2.2.2⟩)
  have s0 : Below w.heap.size w W.drew ∧ W.drew.heap[w.heap.size]? = some (.cells (rf A) 28) ∧ W.drew.heap[w.heap.size + 1]? = some (.cells (rf C) 28) ∧ W.drew.heap[gr]? = some (.cells #[.pointer (some ⟨b0, 0, none⟩), .pointer (some ⟨b1, 0, none⟩)] 32) ∧ W.drew.heap[b0]? = some (.cells (rg (up A 0 0)) tg) ∧ W.drew.heap[b1]? = some (.cells (rg (up C 0 0)) tg) := ⟨B1.drew, Ra, Rb, Rr, r0, r1⟩
  have hz2 := rf2_zero
  have hr2 : ∀ X Y, ((rf2 X Y).size = 192) = True := fun X Y => eq_true (rf2_size X Y)
  go_wp2_with fail
  apply cutC
  · intro key0
    have key := box key0
    clear key0
    refine wp_region_held_drew (S := fun W => Below w.heap.size w W ∧ W.heap[w.heap.size]? = some (.cells (rf A) 28) ∧ W.heap[w.heap.size + 1]? = some (.cells (rf C) 28) ∧ W.heap[gr]? = some (.cells #[.pointer (some ⟨b0, 0, none⟩), .pointer (some ⟨b1, 0, none⟩)] 32) ∧ W.heap[b0]? = some (.cells (rg (up A 0 0)) tg) ∧ W.heap[b1]? = some (.cells (rg (up C 0 0)) tg)) (by kernel_rfl) s0 (fun hHeld => ?_)
    refine wpAnyH_take (i := 0) rfl (by kernel_rfl) (by kernel_rfl) (by kernel_rfl) (fun _ _ _ h => h) (yieldsIf_load_mid (by rfl) _ _ rfl _ _ rfl (rf A).toList _ (fun W h => rf_range h.2.1) hu rfl (hi A)) (by assumption) ?_
    simp only [Array.toArray_toList]
    (try simp only [Act.put, List.getElem_toArray, List.getElem_cons_zero, List.getElem_cons_succ, List.setIfInBounds_toArray, List.set_cons_zero, List.set_cons_succ])
    refine wpAnyH_take (i := 2) rfl (by kernel_rfl) (by kernel_rfl) (by kernel_rfl) (fun _ _ _ h => h) (yieldsIf_load_mid (by rfl) _ _ rfl _ _ rfl (rf C).toList _ (fun W h => rf_range h.2.2.1) hu rfl (hi C)) (by assumption) ?_
    simp only [Array.toArray_toList]
    (try simp only [Act.put, List.getElem_toArray, List.getElem_cons_zero, List.getElem_cons_succ, List.setIfInBounds_toArray, List.set_cons_zero, List.set_cons_succ])
    refine wpAnyH_ready (rs := [1, 5]) (by kernel_rfl) (by simp) ?_
    refine AllReadyH.cons rfl (fun K hK => ?_) (AllReadyH.cons rfl (fun K hK => ?_) AllReadyH.nil)
    · go_simp
      refine (KG.out A _).mono ?_
      rintro r w0 ⟨rfl, q0⟩
      (try go_wp2_with fail)
      have s1 := sS.out _ _ s0 q0
      have z0 := q0.size
      refine hK.out _ _ s1 (fun hHeld => ?_)
      clear hK K
      (try simp only [Act.put, List.getElem_toArray, List.getElem_cons_zero, List.getElem_cons_succ, List.setIfInBounds_toArray, List.set_cons_zero, List.set_cons_succ])
      refine wpAnyH_ready (rs := [3, 5]) (by kernel_rfl) (by simp) ?_
      refine AllReadyH.cons rfl (fun K hK => ?_) (AllReadyH.cons rfl (fun K hK => ?_) AllReadyH.nil)
      · go_simp
        refine (KG.out C _).mono ?_
        rintro r w1 ⟨rfl, q1⟩
        (try go_wp2_with fail)
        have s2 := sS.out _ _ s1 q1
        have z1 := q1.size
        refine hK.out _ _ s2 (fun hHeld => ?_)
        clear hK K
        (try simp only [Act.put, List.getElem_toArray, List.getElem_cons_zero, List.getElem_cons_succ, List.setIfInBounds_toArray, List.set_cons_zero, List.set_cons_succ])
        refine wpAnyH_take (i := 4) (v := .agg (rf2 (up A 0 0) (up C 0 0))) rfl (by kernel_rfl) (by kernel_rfl) (by kernel_rfl) (fun _ _ _ h => h) (Or.inl ⟨by rfl, fun W _ => by kernel_rfl⟩) (by assumption) ?_
        (try simp only [Act.put, List.getElem_toArray, List.getElem_cons_zero, List.getElem_cons_succ, List.setIfInBounds_toArray, List.set_cons_zero, List.set_cons_succ])
        refine wpAnyH_ready (rs := [5]) (by kernel_rfl) (by simp) ?_
        refine AllReadyH.cons rfl (fun K hK => ?_) AllReadyH.nil
        go_simp
        have sA : Below w.heap.size w (w1.alloc (Obj.cells (rf2 (fun _ => 0) (fun _ => 0)) 34)) ∧ (w1.alloc (Obj.cells (rf2 (fun _ => 0) (fun _ => 0)) 34)).heap[w.heap.size]? = some (.cells (rf A) 28) ∧ (w1.alloc (Obj.cells (rf2 (fun _ => 0) (fun _ => 0)) 34)).heap[w.heap.size + 1]? = some (.cells (rf C) 28) ∧ (w1.alloc (Obj.cells (rf2 (fun _ => 0) (fun _ => 0)) 34)).heap[gr]? = some (.cells #[.pointer (some ⟨b0, 0, none⟩), .pointer (some ⟨b1, 0, none⟩)] 32) ∧ (w1.alloc (Obj.cells (rf2 (fun _ => 0) (fun _ => 0)) 34)).heap[b0]? = some (.cells (rg (up A 0 0)) tg) ∧ (w1.alloc (Obj.cells (rf2 (fun _ => 0) (fun _ => 0)) 34)).heap[b1]? = some (.cells (rg (up C 0 0)) tg) := sS.out _ _ s2 (bal _ _)
        refine hK.out _ _ sA (fun hHeld => ?_)
        clear hK K
        (try simp only [Act.put, List.getElem_toArray, List.getElem_cons_zero, List.getElem_cons_succ, List.setIfInBounds_toArray, List.set_cons_zero, List.set_cons_succ])
        have rz : (w1.alloc (Obj.cells (rf2 (fun _ => 0) (fun _ => 0)) 34)).heap[w1.heap.size]? = some (Obj.cells (rf2 (fun _ => 0) (fun _ => 0)) 34) := heap_alloc_last w1 (Obj.cells (rf2 (fun _ => 0) (fun _ => 0)) 34)
        obtain ⟨Wa, hWa⟩ : ∃ Wa, w1.alloc (Obj.cells (rf2 (fun _ => 0) (fun _ => 0)) 34) = Wa := ⟨_, rfl⟩
        rw [hWa] at rz sA hHeld ⊢
        clear hWa
        have hst := rf2_store (X := up A 0 0) (Y := up C 0 0) (rf2_size _ _) rz
        have N2 : w.heap.size + 1 < w1.heap.size ∧ w1.heap.size ≠ gr ∧ w1.heap.size ≠ b0 ∧ w1.heap.size ≠ b1 := by have := LL.out; have : W.drew.heap.size = W.heap.size := rfl; omega
        have N3 := box N2
        have sF : Box ((Below w.heap.size w (Wa.setRow w1.heap.size (rf2 (up A 0 0) (up C 0 0))) ∧ (Wa.setRow w1.heap.size (rf2 (up A 0 0) (up C 0 0))).heap[w.heap.size]? = some (.cells (rf A) 28) ∧ (Wa.setRow w1.heap.size (rf2 (up A 0 0) (up C 0 0))).heap[w.heap.size + 1]? = some (.cells (rf C) 28) ∧ (Wa.setRow w1.heap.size (rf2 (up A 0 0) (up C 0 0))).heap[gr]? = some (.cells #[.pointer (some ⟨b0, 0, none⟩), .pointer (some ⟨b1, 0, none⟩)] 32) ∧ (Wa.setRow w1.heap.size (rf2 (up A 0 0) (up C 0 0))).heap[b0]? = some (.cells (rg (up A 0 0)) tg) ∧ (Wa.setRow w1.heap.size (rf2 (up A 0 0) (up C 0 0))).heap[b1]? = some (.cells (rg (up C 0 0)) tg)) ∧ (Wa.setRow w1.heap.size (rf2 (up A 0 0) (up C 0 0))).heap[w1.heap.size]? = some (.cells (rf2 (up A 0 0) (up C 0 0)) 34)) := box ⟨⟨Below.setRow sA.1 (by omega), (setRow_other (by omega)).trans sA.2.1, (setRow_other (by omega)).trans sA.2.2.1, (setRow_other N2.2.1).trans sA.2.2.2.1, (setRow_other N2.2.2.1).trans sA.2.2.2.2.1, (setRow_other N2.2.2.2).trans sA.2.2.2.2.2⟩, setRow_row rz⟩
        refine wpAnyH_ready (rs := [6]) (by kernel_rfl) (by simp) ?_
        refine AllReadyH.cons rfl (fun K hK => ?_) AllReadyH.nil
        clear N2
        go_simp
        refine hK.out _ _ sF.out.1 (fun hHeld => ?_)
        clear hK K
        (try simp only [Act.put, List.getElem_toArray, List.getElem_cons_zero, List.getElem_cons_succ, List.setIfInBounds_toArray, List.set_cons_zero, List.set_cons_succ])
        refine wpAnyH_done (by kernel_rfl) ?_ _
        exact gen_rp2 (R := fun W gx => (Below w.heap.size w W ∧ W.heap[w.heap.size]? = some (.cells (rf A) 28) ∧ W.heap[w.heap.size + 1]? = some (.cells (rf C) 28) ∧ W.heap[gr]? = some (.cells #[.pointer (some ⟨b0, 0, none⟩), .pointer (some ⟨b1, 0, none⟩)] 32) ∧ W.heap[b0]? = some (.cells (rg (up A 0 0)) tg) ∧ W.heap[b1]? = some (.cells (rg (up C 0 0)) tg)) ∧ W.heap[gx]? = some (.cells (rf2 (up A 0 0) (up C 0 0)) 34) ∧ w.heap.size + 1 < gx ∧ gx ≠ gr ∧ gx ≠ b0 ∧ gx ≠ b1) key.out ⟨sF.out.1, sF.out.2, N3.out⟩
      · go_simp
        have sA : Below w.heap.size w (w0.alloc (Obj.cells (rf2 (fun _ => 0) (fun _ => 0)) 34)) ∧ (w0.alloc (Obj.cells (rf2 (fun _ => 0) (fun _ => 0)) 34)).heap[w.heap.size]? = some (.cells (rf A) 28) ∧ (w0.alloc (Obj.cells (rf2 (fun _ => 0) (fun _ => 0)) 34)).heap[w.heap.size + 1]? = some (.cells (rf C) 28) ∧ (w0.alloc (Obj.cells (rf2 (fun _ => 0) (fun _ => 0)) 34)).heap[gr]? = some (.cells #[.pointer (some ⟨b0, 0, none⟩), .pointer (some ⟨b1, 0, none⟩)] 32) ∧ (w0.alloc (Obj.cells (rf2 (fun _ => 0) (fun _ => 0)) 34)).heap[b0]? = some (.cells (rg (up A 0 0)) tg) ∧ (w0.alloc (Obj.cells (rf2 (fun _ => 0) (fun _ => 0)) 34)).heap[b1]? = some (.cells (rg (up C 0 0)) tg) := sS.out _ _ s1 (bal _ _)
        refine hK.out _ _ sA (fun hHeld => ?_)
        clear hK K
        (try simp only [Act.put, List.getElem_toArray, List.getElem_cons_zero, List.getElem_cons_succ, List.setIfInBounds_toArray, List.set_cons_zero, List.set_cons_succ])
        have rz : (w0.alloc (Obj.cells (rf2 (fun _ => 0) (fun _ => 0)) 34)).heap[w0.heap.size]? = some (Obj.cells (rf2 (fun _ => 0) (fun _ => 0)) 34) := heap_alloc_last w0 (Obj.cells (rf2 (fun _ => 0) (fun _ => 0)) 34)
        obtain ⟨Wa, hWa⟩ : ∃ Wa, w0.alloc (Obj.cells (rf2 (fun _ => 0) (fun _ => 0)) 34) = Wa := ⟨_, rfl⟩
        rw [hWa] at rz sA hHeld ⊢
        clear hWa
        refine wpAnyH_ready (rs := [3]) (by kernel_rfl) (by simp) ?_
        refine AllReadyH.cons rfl (fun K hK => ?_) AllReadyH.nil
        go_simp
        refine (KG.out C _).mono ?_
        rintro r w1 ⟨rfl, q1⟩
        (try go_wp2_with fail)
        have s2 := sS.out _ _ sA q1
        have rz := heap_of q1 _ _ _ rz
        have z1 := q1.size
        refine hK.out _ _ s2 (fun hHeld => ?_)
        clear hK K
        (try simp only [Act.put, List.getElem_toArray, List.getElem_cons_zero, List.getElem_cons_succ, List.setIfInBounds_toArray, List.set_cons_zero, List.set_cons_succ])
        refine wpAnyH_take (i := 4) (v := .agg (rf2 (up A 0 0) (up C 0 0))) rfl (by kernel_rfl) (by kernel_rfl) (by kernel_rfl) (fun _ _ _ h => h) (Or.inl ⟨by rfl, fun W _ => by kernel_rfl⟩) (by assumption) ?_
        (try simp only [Act.put, List.getElem_toArray, List.getElem_cons_zero, List.getElem_cons_succ, List.setIfInBounds_toArray, List.set_cons_zero, List.set_cons_succ])
        have hst := rf2_store (X := up A 0 0) (Y := up C 0 0) (rf2_size _ _) rz
        have N2 : w.heap.size + 1 < w0.heap.size ∧ w0.heap.size ≠ gr ∧ w0.heap.size ≠ b0 ∧ w0.heap.size ≠ b1 := by have := LL.out; have : W.drew.heap.size = W.heap.size := rfl; omega
        have N3 := box N2
        have sF : Box ((Below w.heap.size w (w1.setRow w0.heap.size (rf2 (up A 0 0) (up C 0 0))) ∧ (w1.setRow w0.heap.size (rf2 (up A 0 0) (up C 0 0))).heap[w.heap.size]? = some (.cells (rf A) 28) ∧ (w1.setRow w0.heap.size (rf2 (up A 0 0) (up C 0 0))).heap[w.heap.size + 1]? = some (.cells (rf C) 28) ∧ (w1.setRow w0.heap.size (rf2 (up A 0 0) (up C 0 0))).heap[gr]? = some (.cells #[.pointer (some ⟨b0, 0, none⟩), .pointer (some ⟨b1, 0, none⟩)] 32) ∧ (w1.setRow w0.heap.size (rf2 (up A 0 0) (up C 0 0))).heap[b0]? = some (.cells (rg (up A 0 0)) tg) ∧ (w1.setRow w0.heap.size (rf2 (up A 0 0) (up C 0 0))).heap[b1]? = some (.cells (rg (up C 0 0)) tg)) ∧ (w1.setRow w0.heap.size (rf2 (up A 0 0) (up C 0 0))).heap[w0.heap.size]? = some (.cells (rf2 (up A 0 0) (up C 0 0)) 34)) := box ⟨⟨Below.setRow s2.1 (by omega), (setRow_other (by omega)).trans s2.2.1, (setRow_other (by omega)).trans s2.2.2.1, (setRow_other N2.2.1).trans s2.2.2.2.1, (setRow_other N2.2.2.1).trans s2.2.2.2.2.1, (setRow_other N2.2.2.2).trans s2.2.2.2.2.2⟩, setRow_row rz⟩
        refine wpAnyH_ready (rs := [6]) (by kernel_rfl) (by simp) ?_
        refine AllReadyH.cons rfl (fun K hK => ?_) AllReadyH.nil
        clear N2
        go_simp
        refine hK.out _ _ sF.out.1 (fun hHeld => ?_)
        clear hK K
        (try simp only [Act.put, List.getElem_toArray, List.getElem_cons_zero, List.getElem_cons_succ, List.setIfInBounds_toArray, List.set_cons_zero, List.set_cons_succ])
        refine wpAnyH_done (by kernel_rfl) ?_ _
        exact gen_rp2 (R := fun W gx => (Below w.heap.size w W ∧ W.heap[w.heap.size]? = some (.cells (rf A) 28) ∧ W.heap[w.heap.size + 1]? = some (.cells (rf C) 28) ∧ W.heap[gr]? = some (.cells #[.pointer (some ⟨b0, 0, none⟩), .pointer (some ⟨b1, 0, none⟩)] 32) ∧ W.heap[b0]? = some (.cells (rg (up A 0 0)) tg) ∧ W.heap[b1]? = some (.cells (rg (up C 0 0)) tg)) ∧ W.heap[gx]? = some (.cells (rf2 (up A 0 0) (up C 0 0)) 34) ∧ w.heap.size + 1 < gx ∧ gx ≠ gr ∧ gx ≠ b0 ∧ gx ≠ b1) key.out ⟨sF.out.1, sF.out.2, N3.out⟩
    · go_simp
      have sA : Below w.heap.size w ((W.alloc (Obj.cells (rf2 (fun _ => 0) (fun _ => 0)) 34)).drew) ∧ ((W.alloc (Obj.cells (rf2 (fun _ => 0) (fun _ => 0)) 34)).drew).heap[w.heap.size]? = some (.cells (rf A) 28) ∧ ((W.alloc (Obj.cells (rf2 (fun _ => 0) (fun _ => 0)) 34)).drew).heap[w.heap.size + 1]? = some (.cells (rf C) 28) ∧ ((W.alloc (Obj.cells (rf2 (fun _ => 0) (fun _ => 0)) 34)).drew).heap[gr]? = some (.cells #[.pointer (some ⟨b0, 0, none⟩), .pointer (some ⟨b1, 0, none⟩)] 32) ∧ ((W.alloc (Obj.cells (rf2 (fun _ => 0) (fun _ => 0)) 34)).drew).heap[b0]? = some (.cells (rg (up A 0 0)) tg) ∧ ((W.alloc (Obj.cells (rf2 (fun _ => 0) (fun _ => 0)) 34)).drew).heap[b1]? = some (.cells (rg (up C 0 0)) tg) := sS.out _ _ s0 (bal _ _)
      refine hK.out _ _ sA (fun hHeld => ?_)
      clear hK K
      (try simp only [Act.put, List.getElem_toArray, List.getElem_cons_zero, List.getElem_cons_succ, List.setIfInBounds_toArray, List.set_cons_zero, List.set_cons_succ])
      have rz : ((W.alloc (Obj.cells (rf2 (fun _ => 0) (fun _ => 0)) 34)).drew).heap[W.heap.size]? = some (Obj.cells (rf2 (fun _ => 0) (fun _ => 0)) 34) := heap_alloc_last W (Obj.cells (rf2 (fun _ => 0) (fun _ => 0)) 34)
      obtain ⟨Wa, hWa⟩ : ∃ Wa, (W.alloc (Obj.cells (rf2 (fun _ => 0) (fun _ => 0)) 34)).drew = Wa := ⟨_, rfl⟩
      rw [hWa] at rz sA hHeld ⊢
      clear hWa
      refine wpAnyH_ready (rs := [1]) (by kernel_rfl) (by simp) ?_
      refine AllReadyH.cons rfl (fun K hK => ?_) AllReadyH.nil
      go_simp
      refine (KG.out A _).mono ?_
      rintro r w0 ⟨rfl, q0⟩
      (try go_wp2_with fail)
      have s1 := sS.out _ _ sA q0
      have rz := heap_of q0 _ _ _ rz
      have z0 := q0.size
      refine hK.out _ _ s1 (fun hHeld => ?_)
      clear hK K
      (try simp only [Act.put, List.getElem_toArray, List.getElem_cons_zero, List.getElem_cons_succ, List.setIfInBounds_toArray, List.set_cons_zero, List.set_cons_succ])
      refine wpAnyH_ready (rs := [3]) (by kernel_rfl) (by simp) ?_
      refine AllReadyH.cons rfl (fun K hK => ?_) AllReadyH.nil
      go_simp
      refine (KG.out C _).mono ?_
      rintro r w1 ⟨rfl, q1⟩
      (try go_wp2_with fail)
      have s2 := sS.out _ _ s1 q1
      have rz := heap_of q1 _ _ _ rz
      have z1 := q1.size
      refine hK.out _ _ s2 (fun hHeld => ?_)
      clear hK K
      (try simp only [Act.put, List.getElem_toArray, List.getElem_cons_zero, List.getElem_cons_succ, List.setIfInBounds_toArray, List.set_cons_zero, List.set_cons_succ])
      refine wpAnyH_take (i := 4) (v := .agg (rf2 (up A 0 0) (up C 0 0))) rfl (by kernel_rfl) (by kernel_rfl) (by kernel_rfl) (fun _ _ _ h => h) (Or.inl ⟨by rfl, fun W _ => by kernel_rfl⟩) (by assumption) ?_
      (try simp only [Act.put, List.getElem_toArray, List.getElem_cons_zero, List.getElem_cons_succ, List.setIfInBounds_toArray, List.set_cons_zero, List.set_cons_succ])
      have hst := rf2_store (X := up A 0 0) (Y := up C 0 0) (rf2_size _ _) rz
      have N2 : w.heap.size + 1 < W.heap.size ∧ W.heap.size ≠ gr ∧ W.heap.size ≠ b0 ∧ W.heap.size ≠ b1 := by have := LL.out; have : W.drew.heap.size = W.heap.size := rfl; omega
      have N3 := box N2
      have sF : Box ((Below w.heap.size w (w1.setRow W.heap.size (rf2 (up A 0 0) (up C 0 0))) ∧ (w1.setRow W.heap.size (rf2 (up A 0 0) (up C 0 0))).heap[w.heap.size]? = some (.cells (rf A) 28) ∧ (w1.setRow W.heap.size (rf2 (up A 0 0) (up C 0 0))).heap[w.heap.size + 1]? = some (.cells (rf C) 28) ∧ (w1.setRow W.heap.size (rf2 (up A 0 0) (up C 0 0))).heap[gr]? = some (.cells #[.pointer (some ⟨b0, 0, none⟩), .pointer (some ⟨b1, 0, none⟩)] 32) ∧ (w1.setRow W.heap.size (rf2 (up A 0 0) (up C 0 0))).heap[b0]? = some (.cells (rg (up A 0 0)) tg) ∧ (w1.setRow W.heap.size (rf2 (up A 0 0) (up C 0 0))).heap[b1]? = some (.cells (rg (up C 0 0)) tg)) ∧ (w1.setRow W.heap.size (rf2 (up A 0 0) (up C 0 0))).heap[W.heap.size]? = some (.cells (rf2 (up A 0 0) (up C 0 0)) 34)) := box ⟨⟨Below.setRow s2.1 (by omega), (setRow_other (by omega)).trans s2.2.1, (setRow_other (by omega)).trans s2.2.2.1, (setRow_other N2.2.1).trans s2.2.2.2.1, (setRow_other N2.2.2.1).trans s2.2.2.2.2.1, (setRow_other N2.2.2.2).trans s2.2.2.2.2.2⟩, setRow_row rz⟩
      refine wpAnyH_ready (rs := [6]) (by kernel_rfl) (by simp) ?_
      refine AllReadyH.cons rfl (fun K hK => ?_) AllReadyH.nil
      clear N2
      go_simp
      refine hK.out _ _ sF.out.1 (fun hHeld => ?_)
      clear hK K
      (try simp only [Act.put, List.getElem_toArray, List.getElem_cons_zero, List.getElem_cons_succ, List.setIfInBounds_toArray, List.set_cons_zero, List.set_cons_succ])
      refine wpAnyH_done (by kernel_rfl) ?_ _
      exact gen_rp2 (R := fun W gx => (Below w.heap.size w W ∧ W.heap[w.heap.size]? = some (.cells (rf A) 28) ∧ W.heap[w.heap.size + 1]? = some (.cells (rf C) 28) ∧ W.heap[gr]? = some (.cells #[.pointer (some ⟨b0, 0, none⟩), .pointer (some ⟨b1, 0, none⟩)] 32) ∧ W.heap[b0]? = some (.cells (rg (up A 0 0)) tg) ∧ W.heap[b1]? = some (.cells (rg (up C 0 0)) tg)) ∧ W.heap[gx]? = some (.cells (rf2 (up A 0 0) (up C 0 0)) 34) ∧ w.heap.size + 1 < gx ∧ gx ≠ gr ∧ gx ≠ b0 ∧ gx ≠ b1) key.out ⟨sF.out.1, sF.out.2, N3.out⟩
  rintro W2 gx ⟨⟨B2, Ra2, Rb2, Rr2, r02, r12⟩, Rx, l1, n1, n2, n3⟩
  clear s0 sS
  have cr0 := cell7 Rr2 0 _ rfl
  have cr1 := cell7 Rr2 1 _ rfl
  have P0 : Box (PLs rg tg w W2 gr gx b0 b1 (up A 0 0) (up C 0 0)) := box ⟨B2, Rr2, Rx, r02, r12, bnd_up0 HA.out, bnd_up0 HC.out, by have := NN.out; omega, by omega, by have := NN.out; omega, by have := NN.out; omega, NN.out.2.2.2.1, NN.out.2.2.2.2.1, NN.out.2.2.2.2.2, n1, n2, n3⟩
  have HLs := box hls
  clear B1 Ra Rb Rr r0 r1 NN LL Ra2 Rb2 Rr2 r02 r12 Rx l1 n1 n2 n3 hls
  by_cases big : 300 < L
  · have d : decide ((300 : Int) < (L : Int)) = true := decide_eq_true (by omega)
    go_wp2_with fail
    refine (KL.out _ (FB.out FF.out B2)).mono ?_
    rintro r w5 ⟨rfl, b5⟩
    go_wp2
    go_ret
    exact ⟨rfl, btr B2 b5⟩
  · have d : decide ((300 : Int) < (L : Int)) = false := decide_eq_false (by omega)
    go_wp2_with fail
    clear cr0 cr1 B2
    go_loopw [9] (fun iv wr => ∃ (i b0 b1 : Nat) (X Y : Nat → Nat), i ≤ L ∧ iv = .int .i64 (i : Int) ∧ Box (PLs rg tg w wr gr gx b0 b1 X Y)) (fun iv _ => L - (intOf iv).toNat)
    case atStart => exact ⟨0, b0, b1, _, _, Nat.zero_le _, rfl, P0⟩
    case round =>
      obtain ⟨i, b0', b1', X, Y, hi', rfl, PP⟩ := hrel
      clear P0
      by_cases hlt : i < L
      · obtain ⟨st, hst0⟩ : ∃ st, ls[i]? = some st := ⟨_, List.getElem?_eq_getElem (by rw [HLs.out]; exact hlt)⟩
        obtain ⟨g, z, rfl, hcell⟩ := HS.out wr PP.out.1 i st hst0
        obtain ⟨e0, e1, e2, e3, e4, e5, e6, e7⟩ := st_cells8 st hcell
        have hmem := box (List.mem_of_getElem? hst0)
        clear hcell hst0
        have dl : decide ((i : Int) < (L : Int)) = true := decide_eq_true (by omega)
        have hb0 : (0 : Int) ≤ (i : Int) := by omega
        have hb1 : (i : Int) < (L : Int) := by omega
        rcases and1i st.on with hk | hk
        · have Rr := PP.out.2.1
          have Rx := PP.out.2.2.1
          have r0 := PP.out.2.2.2.1
          have r1 := PP.out.2.2.2.2.1
          have hX := PP.out.2.2.2.2.2.1
          have hY := PP.out.2.2.2.2.2.2.1
          have cr0 := cell7 Rr 0 _ rfl
          have cr1 := cell7 Rr 1 _ rfl
          cases h8 : (st.how == 8)
          · have N3 := PP.out.2.2.2.2.2.2.2
            have N3b := box N3
            have lt3 : Box (gr < wr.heap.size ∧ gx < wr.heap.size ∧ b0' < wr.heap.size ∧ b1' < wr.heap.size ∧ w.heap.size ≤ wr.heap.size) := box ⟨(Array.getElem?_eq_some_iff.1 Rr).1, (Array.getElem?_eq_some_iff.1 Rx).1, (Array.getElem?_eq_some_iff.1 r0).1, (Array.getElem?_eq_some_iff.1 r1).1, PP.out.1.size⟩
            have hgl : g < w.heap.size := HG.out (List.ne_nil_of_mem hmem.out) g z rfl
            obtain ⟨R', hR', KBs⟩ := KB.out st hmem.out h8 X b0' wr.drew hX PP.out.1.drew (by omega) (FB.out FF.out PP.out.1.drew) r0
            simp only [stA] at KBs
            have sO : Box (∀ W1 : World, Only b0' wr.drew W1 → (W1.heap[gr]? = some (.cells #[.pointer (some ⟨b0', 0, none⟩), .pointer (some ⟨b1', 0, none⟩)] 32) ∧ W1.cell? ⟨gr, 0, none⟩ = some (.pointer (some ⟨b0', 0, none⟩)) ∧ W1.cell? ⟨gr, 1, none⟩ = some (.pointer (some ⟨b1', 0, none⟩)) ∧ W1.cell? ⟨g, z + i * 8, none⟩ = some (.int .i64 st.how) ∧ W1.cell? ⟨g, z + i * 8 + 1, none⟩ = some (.int .i64 st.on) ∧ W1.cell? ⟨g, z + i * 8 + 2, none⟩ = some (.int .i64 st.n) ∧ W1.cell? ⟨g, z + i * 8 + 3, none⟩ = some (.int .u64 (st.X : Nat)) ∧ W1.cell? ⟨g, z + i * 8 + 4, none⟩ = some (.int .u64 (st.u : Nat)) ∧ W1.cell? ⟨g, z + i * 8 + 5, none⟩ = some (.int .u64 (st.v : Nat)) ∧ W1.cell? ⟨g, z + i * 8 + 6, none⟩ = some (.int .u8 st.fm) ∧ W1.cell? ⟨g, z + i * 8 + 7, none⟩ = some (st.sv))) := box (fun W1 o => ⟨Only.row o (by omega) (w := wr.drew) Rr, cell7 (Only.row o (by omega) (w := wr.drew) Rr) 0 _ rfl, cell7 (Only.row o (by omega) (w := wr.drew) Rr) 1 _ rfl, only_cell (w := wr.drew) o (by omega) (by have := lt3.out; show g < wr.heap.size; omega) e0, only_cell (w := wr.drew) o (by omega) (by have := lt3.out; show g < wr.heap.size; omega) e1, only_cell (w := wr.drew) o (by omega) (by have := lt3.out; show g < wr.heap.size; omega) e2, only_cell (w := wr.drew) o (by omega) (by have := lt3.out; show g < wr.heap.size; omega) e3, only_cell (w := wr.drew) o (by omega) (by have := lt3.out; show g < wr.heap.size; omega) e4, only_cell (w := wr.drew) o (by omega) (by have := lt3.out; show g < wr.heap.size; omega) e5, only_cell (w := wr.drew) o (by omega) (by have := lt3.out; show g < wr.heap.size; omega) e6, only_cell (w := wr.drew) o (by omega) (by have := lt3.out; show g < wr.heap.size; omega) e7⟩)
            have s0 : wr.drew.heap[gr]? = some (.cells #[.pointer (some ⟨b0', 0, none⟩), .pointer (some ⟨b1', 0, none⟩)] 32) ∧ wr.drew.cell? ⟨gr, 0, none⟩ = some (.pointer (some ⟨b0', 0, none⟩)) ∧ wr.drew.cell? ⟨gr, 1, none⟩ = some (.pointer (some ⟨b1', 0, none⟩)) ∧ wr.drew.cell? ⟨g, z + i * 8, none⟩ = some (.int .i64 st.how) ∧ wr.drew.cell? ⟨g, z + i * 8 + 1, none⟩ = some (.int .i64 st.on) ∧ wr.drew.cell? ⟨g, z + i * 8 + 2, none⟩ = some (.int .i64 st.n) ∧ wr.drew.cell? ⟨g, z + i * 8 + 3, none⟩ = some (.int .u64 (st.X : Nat)) ∧ wr.drew.cell? ⟨g, z + i * 8 + 4, none⟩ = some (.int .u64 (st.u : Nat)) ∧ wr.drew.cell? ⟨g, z + i * 8 + 5, none⟩ = some (.int .u64 (st.v : Nat)) ∧ wr.drew.cell? ⟨g, z + i * 8 + 6, none⟩ = some (.int .u8 st.fm) ∧ wr.drew.cell? ⟨g, z + i * 8 + 7, none⟩ = some (st.sv) := ⟨Rr, cr0, cr1, e0, e1, e2, e3, e4, e5, e6, e7⟩
            clear N3
            go_wp2_with fail
            refine wp_region_held_drew (S := fun W => W.heap[gr]? = some (.cells #[.pointer (some ⟨b0', 0, none⟩), .pointer (some ⟨b1', 0, none⟩)] 32) ∧ W.cell? ⟨gr, 0, none⟩ = some (.pointer (some ⟨b0', 0, none⟩)) ∧ W.cell? ⟨gr, 1, none⟩ = some (.pointer (some ⟨b1', 0, none⟩)) ∧ W.cell? ⟨g, z + i * 8, none⟩ = some (.int .i64 st.how) ∧ W.cell? ⟨g, z + i * 8 + 1, none⟩ = some (.int .i64 st.on) ∧ W.cell? ⟨g, z + i * 8 + 2, none⟩ = some (.int .i64 st.n) ∧ W.cell? ⟨g, z + i * 8 + 3, none⟩ = some (.int .u64 (st.X : Nat)) ∧ W.cell? ⟨g, z + i * 8 + 4, none⟩ = some (.int .u64 (st.u : Nat)) ∧ W.cell? ⟨g, z + i * 8 + 5, none⟩ = some (.int .u64 (st.v : Nat)) ∧ W.cell? ⟨g, z + i * 8 + 6, none⟩ = some (.int .u8 st.fm) ∧ W.cell? ⟨g, z + i * 8 + 7, none⟩ = some (st.sv)) (by kernel_rfl) s0 (fun hHeld => ?_)
            refine wpAnyH_take (i := 0) (v := ?_) rfl (by kernel_rfl) (by kernel_rfl) (by kernel_rfl) (fun _ _ _ h => h) (Or.inl ⟨by rfl, ?_⟩) (by assumption) ?_
            rotate_left 1
            · intro W hSw
              try dsimp only at hSw
              go_simp
              try with_reducible rfl
            (try simp only [Act.put, List.getElem_toArray, List.getElem_cons_zero, List.getElem_cons_succ, List.setIfInBounds_toArray, List.set_cons_zero, List.set_cons_succ])
            refine wpAnyH_take (i := 1) (v := ?_) rfl (by kernel_rfl) (by kernel_rfl) (by kernel_rfl) (fun _ _ _ h => h) (Or.inl ⟨by rfl, ?_⟩) (by assumption) ?_
            rotate_left 1
            · intro W hSw
              try dsimp only at hSw
              go_simp
              try with_reducible rfl
            (try simp only [Act.put, List.getElem_toArray, List.getElem_cons_zero, List.getElem_cons_succ, List.setIfInBounds_toArray, List.set_cons_zero, List.set_cons_succ])
            refine wpAnyH_take (i := 2) (v := ?_) rfl (by kernel_rfl) (by kernel_rfl) (by kernel_rfl) (fun _ _ _ h => h) (Or.inl ⟨by rfl, ?_⟩) (by assumption) ?_
            rotate_left 1
            · intro W hSw
              try dsimp only at hSw
              go_simp
              try with_reducible rfl
            (try simp only [Act.put, List.getElem_toArray, List.getElem_cons_zero, List.getElem_cons_succ, List.setIfInBounds_toArray, List.set_cons_zero, List.set_cons_succ])
            refine wpAnyH_take (i := 3) (v := ?_) rfl (by kernel_rfl) (by kernel_rfl) (by kernel_rfl) (fun _ _ _ h => h) (Or.inl ⟨by rfl, ?_⟩) (by assumption) ?_
            rotate_left 1
            · intro W hSw
              try dsimp only at hSw
              go_simp
              try with_reducible rfl
            (try simp only [Act.put, List.getElem_toArray, List.getElem_cons_zero, List.getElem_cons_succ, List.setIfInBounds_toArray, List.set_cons_zero, List.set_cons_succ])
            refine wpAnyH_take (i := 4) (v := ?_) rfl (by kernel_rfl) (by kernel_rfl) (by kernel_rfl) (fun _ _ _ h => h) (Or.inl ⟨by rfl, ?_⟩) (by assumption) ?_
            rotate_left 1
            · intro W hSw
              try dsimp only at hSw
              go_simp
              try with_reducible rfl
            (try simp only [Act.put, List.getElem_toArray, List.getElem_cons_zero, List.getElem_cons_succ, List.setIfInBounds_toArray, List.set_cons_zero, List.set_cons_succ])
            refine wpAnyH_take (i := 5) (v := ?_) rfl (by kernel_rfl) (by kernel_rfl) (by kernel_rfl) (fun _ _ _ h => h) (Or.inl ⟨by rfl, ?_⟩) (by assumption) ?_
            rotate_left 1
            · intro W hSw
              try dsimp only at hSw
              go_simp
              try with_reducible rfl
            (try simp only [Act.put, List.getElem_toArray, List.getElem_cons_zero, List.getElem_cons_succ, List.setIfInBounds_toArray, List.set_cons_zero, List.set_cons_succ])
            refine wpAnyH_take (i := 7) (v := ?_) rfl (by kernel_rfl) (by kernel_rfl) (by kernel_rfl) (fun _ _ _ h => h) (Or.inl ⟨by rfl, ?_⟩) (by assumption) ?_
            rotate_left 1
            · intro W hSw
              try dsimp only at hSw
              go_simp
              try with_reducible rfl
            (try simp only [Act.put, List.getElem_toArray, List.getElem_cons_zero, List.getElem_cons_succ, List.setIfInBounds_toArray, List.set_cons_zero, List.set_cons_succ])
            refine wpAnyH_take (i := 8) (v := ?_) rfl (by kernel_rfl) (by kernel_rfl) (by kernel_rfl) (fun _ _ _ h => h) (Or.inl ⟨by rfl, ?_⟩) (by assumption) ?_
            rotate_left 1
            · intro W hSw
              try dsimp only at hSw
              go_simp
              try with_reducible rfl
            (try simp only [Act.put, List.getElem_toArray, List.getElem_cons_zero, List.getElem_cons_succ, List.setIfInBounds_toArray, List.set_cons_zero, List.set_cons_succ])
            refine wpAnyH_take (i := 9) (v := ?_) rfl (by kernel_rfl) (by kernel_rfl) (by kernel_rfl) (fun _ _ _ h => h) (Or.inl ⟨by rfl, ?_⟩) (by assumption) ?_
            rotate_left 1
            · intro W hSw
              try dsimp only at hSw
              go_simp
              try with_reducible rfl
            (try simp only [Act.put, List.getElem_toArray, List.getElem_cons_zero, List.getElem_cons_succ, List.setIfInBounds_toArray, List.set_cons_zero, List.set_cons_succ])
            refine wpAnyH_take (i := 10) (v := ?_) rfl (by kernel_rfl) (by kernel_rfl) (by kernel_rfl) (fun _ _ _ h => h) (Or.inl ⟨by rfl, ?_⟩) (by assumption) ?_
            rotate_left 1
            · intro W hSw
              try dsimp only at hSw
              go_simp
              try with_reducible rfl
            (try simp only [Act.put, List.getElem_toArray, List.getElem_cons_zero, List.getElem_cons_succ, List.setIfInBounds_toArray, List.set_cons_zero, List.set_cons_succ])
            refine wpAnyH_ready (rs := [6]) (by kernel_rfl) (by simp) ?_
            refine AllReadyH.cons rfl (fun K hK => ?_) AllReadyH.nil
            rw [if_pos (by rfl)]
            refine wp_load_mid 28 _ rfl gx 0 rfl (rf X).toList _ (rf2_rlo (w := wr.drew) Rx) hu rfl (hi X) ?_
            simp only [Array.toArray_toList]
            (try simp only [Act.put, List.getElem_toArray, List.getElem_cons_zero, List.getElem_cons_succ, List.setIfInBounds_toArray, List.set_cons_zero, List.set_cons_succ])
            refine hK.out _ _ s0 (fun hHeld => ?_)
            clear hK K
            refine wpAnyH_ready (rs := [11]) (by kernel_rfl) (by simp) ?_
            refine AllReadyH.cons rfl (fun K hK => ?_) AllReadyH.nil
            go_simp
            refine KBs.mono ?_
            rintro r wq ⟨rfl, rb, oq⟩
            (try go_wp2_with fail)
            have s1 := sO.out _ oq
            have Rx1 := Only.row (w := wr.drew) oq (by have := N3b.out; omega) Rx
            have hst := rf_stm (R := R') (rf2_there Rx1 0 (by decide))
            refine hK.out _ _ s1 (fun hHeld => ?_)
            clear hK K
            (try simp only [Act.put, List.getElem_toArray, List.getElem_cons_zero, List.getElem_cons_succ, List.setIfInBounds_toArray, List.set_cons_zero, List.set_cons_succ])
            refine wpAnyH_take (i := 12) (v := ?_) rfl (by kernel_rfl) (by kernel_rfl) (by kernel_rfl) (fun _ _ _ h => h) (Or.inl ⟨by rfl, ?_⟩) (by assumption) ?_
            rotate_left 1
            · intro W hSw
              try dsimp only at hSw
              go_simp
              try with_reducible rfl
            (try simp only [Act.put, List.getElem_toArray, List.getElem_cons_zero, List.getElem_cons_succ, List.setIfInBounds_toArray, List.set_cons_zero, List.set_cons_succ])
            refine wpAnyH_take (i := 13) (v := ?_) rfl (by kernel_rfl) (by kernel_rfl) (by kernel_rfl) (fun _ _ _ h => h) (Or.inl ⟨by rfl, ?_⟩) (by assumption) ?_
            rotate_left 1
            · intro W hSw
              try dsimp only at hSw
              go_simp
              try with_reducible rfl
            (try simp only [Act.put, List.getElem_toArray, List.getElem_cons_zero, List.getElem_cons_succ, List.setIfInBounds_toArray, List.set_cons_zero, List.set_cons_succ])
            refine wpAnyH_take (i := 14) (v := ?_) rfl (by kernel_rfl) (by kernel_rfl) (by kernel_rfl) (fun _ _ _ h => h) (Or.inl ⟨by rfl, ?_⟩) (by assumption) ?_
            rotate_left 1
            · intro W hSw
              try dsimp only at hSw
              go_simp
              try with_reducible rfl
            (try simp only [Act.put, List.getElem_toArray, List.getElem_cons_zero, List.getElem_cons_succ, List.setIfInBounds_toArray, List.set_cons_zero, List.set_cons_succ])
            refine wpAnyH_take (i := 15) (v := ?_) rfl (by kernel_rfl) (by kernel_rfl) (by kernel_rfl) (fun _ _ _ h => h) (Or.inl ⟨by rfl, ?_⟩) (by assumption) ?_
            rotate_left 1
            · intro W hSw
              try dsimp only at hSw
              go_simp
              try with_reducible rfl
            (try simp only [Act.put, List.getElem_toArray, List.getElem_cons_zero, List.getElem_cons_succ, List.setIfInBounds_toArray, List.set_cons_zero, List.set_cons_succ])
            obtain ⟨W5, hW5⟩ : ∃ W5, wq.setCells gx 0 (rf R').toList = W5 := ⟨_, rfl⟩
            rw [hW5] at hst
            have Rx5 : W5.heap[gx]? = some (.cells (rf2 R' Y) 34) := by
              have q := setCells_row gx (rf R').toList 0 wq _ _ Rx1
              rw [wr_lo, hW5] at q
              exact q
            have Rr5 : W5.heap[gr]? = some (.cells #[.pointer (some ⟨b0', 0, none⟩), .pointer (some ⟨b1', 0, none⟩)] 32) := by rw [← hW5, setCells_other (by have := N3b.out; omega)]; exact s1.1
            have rn5 : W5.heap[b0']? = some (.cells (rg R') tg) := by rw [← hW5, setCells_other (by have := N3b.out; omega)]; exact rb
            have ro5 : W5.heap[b1']? = some (.cells (rg Y) tg) := by rw [← hW5, setCells_other (by have := N3b.out; omega)]; exact Only.row (w := wr.drew) oq (by have := N3b.out; omega) r1
            have B5 : Below w.heap.size w W5 := by rw [← hW5]; exact setCells_below (by have := N3b.out; omega) _ _ _ (Only.toBelow PP.out.1.drew oq (by have := N3b.out; omega) (by have := lt3.out; show w.heap.size ≤ wr.heap.size; omega))
            have NE : Box (w.heap.size ≤ gr ∧ w.heap.size ≤ gx ∧ w.heap.size ≤ b0' ∧ w.heap.size ≤ b1' ∧ b0' ≠ b1' ∧ gr ≠ b0' ∧ gr ≠ b1' ∧ gx ≠ gr ∧ gx ≠ b0' ∧ gx ≠ b1') := N3b
            have s2 : W5.heap[gr]? = some (.cells #[.pointer (some ⟨b0', 0, none⟩), .pointer (some ⟨b1', 0, none⟩)] 32) ∧ W5.cell? ⟨gr, 0, none⟩ = some (.pointer (some ⟨b0', 0, none⟩)) ∧ W5.cell? ⟨gr, 1, none⟩ = some (.pointer (some ⟨b1', 0, none⟩)) ∧ W5.cell? ⟨g, z + i * 8, none⟩ = some (.int .i64 st.how) ∧ W5.cell? ⟨g, z + i * 8 + 1, none⟩ = some (.int .i64 st.on) ∧ W5.cell? ⟨g, z + i * 8 + 2, none⟩ = some (.int .i64 st.n) ∧ W5.cell? ⟨g, z + i * 8 + 3, none⟩ = some (.int .u64 (st.X : Nat)) ∧ W5.cell? ⟨g, z + i * 8 + 4, none⟩ = some (.int .u64 (st.u : Nat)) ∧ W5.cell? ⟨g, z + i * 8 + 5, none⟩ = some (.int .u64 (st.v : Nat)) ∧ W5.cell? ⟨g, z + i * 8 + 6, none⟩ = some (.int .u8 st.fm) ∧ W5.cell? ⟨g, z + i * 8 + 7, none⟩ = some (st.sv) := ⟨Rr5, cell7 Rr5 0 _ rfl, cell7 Rr5 1 _ rfl, by rw [← hW5]; exact (cells_other (by have := N3b.out; omega) _ _ _).trans s1.2.2.2.1, by rw [← hW5]; exact (cells_other (by have := N3b.out; omega) _ _ _).trans s1.2.2.2.2.1, by rw [← hW5]; exact (cells_other (by have := N3b.out; omega) _ _ _).trans s1.2.2.2.2.2.1, by rw [← hW5]; exact (cells_other (by have := N3b.out; omega) _ _ _).trans s1.2.2.2.2.2.2.1, by rw [← hW5]; exact (cells_other (by have := N3b.out; omega) _ _ _).trans s1.2.2.2.2.2.2.2.1, by rw [← hW5]; exact (cells_other (by have := N3b.out; omega) _ _ _).trans s1.2.2.2.2.2.2.2.2.1, by rw [← hW5]; exact (cells_other (by have := N3b.out; omega) _ _ _).trans s1.2.2.2.2.2.2.2.2.2.1, by rw [← hW5]; exact (cells_other (by have := N3b.out; omega) _ _ _).trans s1.2.2.2.2.2.2.2.2.2.2⟩
            refine wpAnyH_ready (rs := [16]) (by kernel_rfl) (by simp) ?_
            refine AllReadyH.cons rfl (fun K hK => ?_) AllReadyH.nil
            go_simp
            refine hK.out _ _ s2 (fun hHeld => ?_)
            clear hK K
            (try simp only [Act.put, List.getElem_toArray, List.getElem_cons_zero, List.getElem_cons_succ, List.setIfInBounds_toArray, List.set_cons_zero, List.set_cons_succ])
            refine wpAnyH_take (i := 17) (v := ?_) rfl (by kernel_rfl) (by kernel_rfl) (by kernel_rfl) (fun _ _ _ h => h) (Or.inl ⟨by rfl, ?_⟩) (by assumption) ?_
            rotate_left 1
            · intro W hSw
              try dsimp only at hSw
              go_simp
              try with_reducible rfl
            (try simp only [Act.put, List.getElem_toArray, List.getElem_cons_zero, List.getElem_cons_succ, List.setIfInBounds_toArray, List.set_cons_zero, List.set_cons_succ])
            refine wpAnyH_done (by kernel_rfl) ?_ _
            have r05 := rn5
            have r15 := ro5
            have hX5 := hR'
            have hY5 := hY
            clear hst hW5 s1 s2 s0 sO KBs Rx1 rb oq e0 e1 e2 e3 e4 e5 e6 e7 Rr Rx r0 r1 dl hb0 hb1 rn5 ro5 cr0 cr1
            obtain ⟨F, hF1, hF2⟩ := below_fun W5
            have fr0 := fun u => cell7 (heap_of (hF1 u) _ _ _ Rr5) 0 _ rfl
            have fr1 := fun u => cell7 (heap_of (hF1 u) _ _ _ Rr5) 1 _ rfl
            have fx0 := box (fun u => rf2_rlo (heap_of (hF1 u) _ _ _ Rx5))
            have fx1 := box (fun u => rf2_rhi (heap_of (hF1 u) _ _ _ Rx5))
            have FG : Box (∀ u, T (F u)) := box (fun u => FB.out FF.out (btr B5 (hF1 u)))
            have K0 := box (fun u => KT.out R' b0' (F u) hX5 (FG.out u) (heap_of (hF1 u) _ _ _ r05))
            have K1 := box (fun u => KT.out Y b1' (F u) hY5 (FG.out u) (heap_of (hF1 u) _ _ _ r15))
            have KK := box (fun u => KS.out R' Y b0' b1' (F u) hX5 hY5 (FG.out u) (heap_of (hF1 u) _ _ _ r05) (heap_of (hF1 u) _ _ _ r15))
            have q0 := eqrf R' R' hX5.1 hX5.1
            have q1 := eqrf Y Y hY5.1 hY5.1
            have q2 := eqrf R' Y hX5.1 hY5.1
            rw [rfE_self] at q0 q1
            obtain ⟨eo, heo⟩ : ∃ eo, rfE R' Y = eo := ⟨_, rfl⟩
            rw [heo] at KK q2
            clear heo
            have hne : (eo != eo) = false := by simp
            go_wp2_with fail
            refine wp_region_below F hF2 (by kernel_rfl) (by kernel_rfl) ?_
            repeat first | (go_big_quiet_want; (first | refine quiet_ld _ _ rfl _ _ rfl (rf R').toList _ fx0.out hu rfl (hi R') ?_ | refine quiet_ld _ _ rfl _ _ rfl (rf Y).toList _ fx1.out hu rfl (hi Y) ?_); simp only [Array.toArray_toList, Act.put, List.setIfInBounds_toArray, List.set_cons_zero, List.set_cons_succ]; go_big_quiet_on) | go_big_quiet_step (first | (go_at_call_of 12 (Value.pointer (some ⟨b0', 0, none⟩)); exact quietF hF1 hF2 (K0.out _)) | (go_at_call_of 12 (Value.pointer (some ⟨b1', 0, none⟩)); exact quietF hF1 hF2 (K1.out _)) | (go_at_call 13; exact quietF hF1 hF2 (KK.out _)) | fail)
            refine wpQuiet_nil ?_
            rintro _ ⟨uW, rfl⟩
            have PE : Box (PLs rg tg w (F uW) gr gx b0' b1' R' Y) := box ⟨btr B5 (hF1 uW), heap_of (hF1 uW) _ _ _ Rr5, heap_of (hF1 uW) _ _ _ Rx5, heap_of (hF1 uW) _ _ _ r05, heap_of (hF1 uW) _ _ _ r15, hX5, hY5, NE.out⟩
            obtain ⟨W6, hW6⟩ : ∃ W6, F uW = W6 := ⟨_, rfl⟩
            rw [hW6] at PE
            try rw [hW6]
            clear hW6 hF1 hF2 fr0 fr1 fx0 fx1 FG K0 K1 KK
            have hw1 : IntKind.i64.wrap ((i : Int) + 1) = ((i + 1 : Nat) : Int) := by rw [IntKind.wrap_i64]; omega
            go_wp2
            go_roundw
            case rel => exact ⟨i + 1, b0', b1', R', Y, by omega, by first | rfl | simp, PE⟩
            case measure => simp [intOf]; omega
          · go_wp2_with fail
            refine (KC.out Y b1' _ hY (FB.out FF.out PP.out.1) r1).mono ?_
            rintro r w3 ⟨b', rfl, gb', rb', q3⟩
            have Rr3 := heap_of q3 _ _ _ Rr
            have Rx3 := heap_of q3 _ _ _ Rx
            have r03 := heap_of q3 _ _ _ r0
            have r13 := heap_of q3 _ _ _ r1
            have B3 := btr PP.out.1 q3
            have N3 := PP.out.2.2.2.2.2.2.2
            have lt3 : Box (gr < wr.heap.size ∧ gx < wr.heap.size ∧ b0' < wr.heap.size ∧ b1' < wr.heap.size ∧ w.heap.size ≤ wr.heap.size) := box ⟨(Array.getElem?_eq_some_iff.1 Rr).1, (Array.getElem?_eq_some_iff.1 Rx).1, (Array.getElem?_eq_some_iff.1 r0).1, (Array.getElem?_eq_some_iff.1 r1).1, PP.out.1.size⟩
            have N3b := box N3
            obtain ⟨W4, hW4⟩ : ∃ W4, w3.setCell ⟨gr, 0, none⟩ (.pointer (some ⟨b', 0, none⟩)) = W4 := ⟨_, rfl⟩
            have Rx4 : W4.heap[gx]? = some (.cells (rf2 X Y) 34) := by rw [← hW4]; exact (setCell_other (by omega)).trans Rx3
            have hq := fz (k := 0) Rr3
            have c0 := cell7 Rr3 0 _ rfl
            have hst := rf_stm (R := Y) (rf2_there Rx4 0 (by decide))
            clear cr0 cr1 N3
            go_wp2_with (first | ((with_reducible (refine wpList_load_mid rfl 28 _ rfl gx 96 ?_ (rf Y).toList _ (rf2_rhi Rx4) hu rfl (hi Y) ?_)); rfl) | fail)
            obtain ⟨W5, hW5⟩ : ∃ W5, W4.setCells gx 0 (rf Y).toList = W5 := ⟨_, rfl⟩
            have Rx5 : W5.heap[gx]? = some (.cells (rf2 Y Y) 34) := by
              have q := setCells_row gx (rf Y).toList 0 W4 _ _ Rx4
              rw [wr_lo, hW5] at q
              exact q
            have Rr5 : W5.heap[gr]? = some (.cells #[.pointer (some ⟨b', 0, none⟩), .pointer (some ⟨b1', 0, none⟩)] 32) := by rw [← hW5, setCells_other (by have := N3b.out; omega), ← hW4, setCell_row Rr3]; rfl
            have rn5 : W5.heap[b']? = some (.cells (rg Y) tg) := by rw [← hW5, setCells_other (by have := lt3.out; omega), ← hW4, setCell_other (by have := lt3.out; omega)]; exact rb'
            have ro5 : W5.heap[b1']? = some (.cells (rg Y) tg) := by rw [← hW5, setCells_other (by have := N3b.out; omega), ← hW4, setCell_other (by have := N3b.out; omega)]; exact r13
            have B5 : Below w.heap.size w W5 := by rw [← hW5, ← hW4]; exact setCells_below (by have := N3b.out; omega) _ _ _ (B3.setCell (p := ⟨gr, 0, none⟩) (by have := N3b.out; show w.heap.size ≤ gr; omega) _)
            have NE : Box (w.heap.size ≤ gr ∧ w.heap.size ≤ gx ∧ w.heap.size ≤ b' ∧ w.heap.size ≤ b1' ∧ b' ≠ b1' ∧ gr ≠ b' ∧ gr ≠ b1' ∧ gx ≠ gr ∧ gx ≠ b' ∧ gx ≠ b1') := box (by have := N3b.out; have := lt3.out; omega)
            rw [hW5]
            have r05 := rn5
            have r15 := ro5
            have hX5 := hY
            have hY5 := hY
            clear hW5 hW4 hst hq c0 Rx4 Rr3 Rx3 r03 r13 rb' q3 B3 e0 e1 e2 e3 e4 e5 e6 e7 Rr Rx r0 r1 dl hb0 hb1 rn5 ro5 gb'
            obtain ⟨F, hF1, hF2⟩ := below_fun W5
            have fr0 := fun u => cell7 (heap_of (hF1 u) _ _ _ Rr5) 0 _ rfl
            have fr1 := fun u => cell7 (heap_of (hF1 u) _ _ _ Rr5) 1 _ rfl
            have fx0 := box (fun u => rf2_rlo (heap_of (hF1 u) _ _ _ Rx5))
            have fx1 := box (fun u => rf2_rhi (heap_of (hF1 u) _ _ _ Rx5))
            have FG : Box (∀ u, T (F u)) := box (fun u => FB.out FF.out (btr B5 (hF1 u)))
            have K0 := box (fun u => KT.out Y b' (F u) hX5 (FG.out u) (heap_of (hF1 u) _ _ _ r05))
            have K1 := box (fun u => KT.out Y b1' (F u) hY5 (FG.out u) (heap_of (hF1 u) _ _ _ r15))
            have KK := box (fun u => KS.out Y Y b' b1' (F u) hX5 hY5 (FG.out u) (heap_of (hF1 u) _ _ _ r05) (heap_of (hF1 u) _ _ _ r15))
            have q0 := eqrf Y Y hX5.1 hX5.1
            have q1 := eqrf Y Y hY5.1 hY5.1
            have q2 := eqrf Y Y hX5.1 hY5.1
            rw [rfE_self] at q0 q1
            rw [rfE_self] at KK
            clear q1 q2
            go_wp2_with fail
            refine wp_region_below F hF2 (by kernel_rfl) (by kernel_rfl) ?_
            repeat first | (go_big_quiet_want; (first | refine quiet_ld _ _ rfl _ _ rfl (rf Y).toList _ fx0.out hu rfl (hi Y) ?_ | refine quiet_ld _ _ rfl _ _ rfl (rf Y).toList _ fx1.out hu rfl (hi Y) ?_); simp only [Array.toArray_toList, Act.put, List.setIfInBounds_toArray, List.set_cons_zero, List.set_cons_succ]; go_big_quiet_on) | go_big_quiet_step (first | (go_at_call_of 12 (Value.pointer (some ⟨b', 0, none⟩)); exact quietF hF1 hF2 (K0.out _)) | (go_at_call_of 12 (Value.pointer (some ⟨b1', 0, none⟩)); exact quietF hF1 hF2 (K1.out _)) | (go_at_call 13; exact quietF hF1 hF2 (KK.out _)) | fail)
            refine wpQuiet_nil ?_
            rintro _ ⟨uW, rfl⟩
            have PE : Box (PLs rg tg w (F uW) gr gx b' b1' Y Y) := box ⟨btr B5 (hF1 uW), heap_of (hF1 uW) _ _ _ Rr5, heap_of (hF1 uW) _ _ _ Rx5, heap_of (hF1 uW) _ _ _ r05, heap_of (hF1 uW) _ _ _ r15, hX5, hY5, NE.out⟩
            obtain ⟨W6, hW6⟩ : ∃ W6, F uW = W6 := ⟨_, rfl⟩
            rw [hW6] at PE
            try rw [hW6]
            clear hW6 hF1 hF2 fr0 fr1 fx0 fx1 FG K0 K1 KK
            have hw1 : IntKind.i64.wrap ((i : Int) + 1) = ((i + 1 : Nat) : Int) := by rw [IntKind.wrap_i64]; omega
            go_wp2
            go_roundw
            case rel => exact ⟨i + 1, b', b1', Y, Y, by omega, by first | rfl | simp, PE⟩
            case measure => simp [intOf]; omega
        · have Rr := PP.out.2.1
          have Rx := PP.out.2.2.1
          have r0 := PP.out.2.2.2.1
          have r1 := PP.out.2.2.2.2.1
          have hX := PP.out.2.2.2.2.2.1
          have hY := PP.out.2.2.2.2.2.2.1
          have cr0 := cell7 Rr 0 _ rfl
          have cr1 := cell7 Rr 1 _ rfl
          cases h8 : (st.how == 8)
          · have N3 := PP.out.2.2.2.2.2.2.2
            have N3b := box N3
            have lt3 : Box (gr < wr.heap.size ∧ gx < wr.heap.size ∧ b0' < wr.heap.size ∧ b1' < wr.heap.size ∧ w.heap.size ≤ wr.heap.size) := box ⟨(Array.getElem?_eq_some_iff.1 Rr).1, (Array.getElem?_eq_some_iff.1 Rx).1, (Array.getElem?_eq_some_iff.1 r0).1, (Array.getElem?_eq_some_iff.1 r1).1, PP.out.1.size⟩
            have hgl : g < w.heap.size := HG.out (List.ne_nil_of_mem hmem.out) g z rfl
            obtain ⟨R', hR', KBs⟩ := KB.out st hmem.out h8 Y b1' wr.drew hY PP.out.1.drew (by omega) (FB.out FF.out PP.out.1.drew) r1
            simp only [stA] at KBs
            have sO : Box (∀ W1 : World, Only b1' wr.drew W1 → (W1.heap[gr]? = some (.cells #[.pointer (some ⟨b0', 0, none⟩), .pointer (some ⟨b1', 0, none⟩)] 32) ∧ W1.cell? ⟨gr, 0, none⟩ = some (.pointer (some ⟨b0', 0, none⟩)) ∧ W1.cell? ⟨gr, 1, none⟩ = some (.pointer (some ⟨b1', 0, none⟩)) ∧ W1.cell? ⟨g, z + i * 8, none⟩ = some (.int .i64 st.how) ∧ W1.cell? ⟨g, z + i * 8 + 1, none⟩ = some (.int .i64 st.on) ∧ W1.cell? ⟨g, z + i * 8 + 2, none⟩ = some (.int .i64 st.n) ∧ W1.cell? ⟨g, z + i * 8 + 3, none⟩ = some (.int .u64 (st.X : Nat)) ∧ W1.cell? ⟨g, z + i * 8 + 4, none⟩ = some (.int .u64 (st.u : Nat)) ∧ W1.cell? ⟨g, z + i * 8 + 5, none⟩ = some (.int .u64 (st.v : Nat)) ∧ W1.cell? ⟨g, z + i * 8 + 6, none⟩ = some (.int .u8 st.fm) ∧ W1.cell? ⟨g, z + i * 8 + 7, none⟩ = some (st.sv))) := box (fun W1 o => ⟨Only.row o (by omega) (w := wr.drew) Rr, cell7 (Only.row o (by omega) (w := wr.drew) Rr) 0 _ rfl, cell7 (Only.row o (by omega) (w := wr.drew) Rr) 1 _ rfl, only_cell (w := wr.drew) o (by omega) (by have := lt3.out; show g < wr.heap.size; omega) e0, only_cell (w := wr.drew) o (by omega) (by have := lt3.out; show g < wr.heap.size; omega) e1, only_cell (w := wr.drew) o (by omega) (by have := lt3.out; show g < wr.heap.size; omega) e2, only_cell (w := wr.drew) o (by omega) (by have := lt3.out; show g < wr.heap.size; omega) e3, only_cell (w := wr.drew) o (by omega) (by have := lt3.out; show g < wr.heap.size; omega) e4, only_cell (w := wr.drew) o (by omega) (by have := lt3.out; show g < wr.heap.size; omega) e5, only_cell (w := wr.drew) o (by omega) (by have := lt3.out; show g < wr.heap.size; omega) e6, only_cell (w := wr.drew) o (by omega) (by have := lt3.out; show g < wr.heap.size; omega) e7⟩)
            have s0 : wr.drew.heap[gr]? = some (.cells #[.pointer (some ⟨b0', 0, none⟩), .pointer (some ⟨b1', 0, none⟩)] 32) ∧ wr.drew.cell? ⟨gr, 0, none⟩ = some (.pointer (some ⟨b0', 0, none⟩)) ∧ wr.drew.cell? ⟨gr, 1, none⟩ = some (.pointer (some ⟨b1', 0, none⟩)) ∧ wr.drew.cell? ⟨g, z + i * 8, none⟩ = some (.int .i64 st.how) ∧ wr.drew.cell? ⟨g, z + i * 8 + 1, none⟩ = some (.int .i64 st.on) ∧ wr.drew.cell? ⟨g, z + i * 8 + 2, none⟩ = some (.int .i64 st.n) ∧ wr.drew.cell? ⟨g, z + i * 8 + 3, none⟩ = some (.int .u64 (st.X : Nat)) ∧ wr.drew.cell? ⟨g, z + i * 8 + 4, none⟩ = some (.int .u64 (st.u : Nat)) ∧ wr.drew.cell? ⟨g, z + i * 8 + 5, none⟩ = some (.int .u64 (st.v : Nat)) ∧ wr.drew.cell? ⟨g, z + i * 8 + 6, none⟩ = some (.int .u8 st.fm) ∧ wr.drew.cell? ⟨g, z + i * 8 + 7, none⟩ = some (st.sv) := ⟨Rr, cr0, cr1, e0, e1, e2, e3, e4, e5, e6, e7⟩
            clear N3
            go_wp2_with fail
            refine wp_region_held_drew (S := fun W => W.heap[gr]? = some (.cells #[.pointer (some ⟨b0', 0, none⟩), .pointer (some ⟨b1', 0, none⟩)] 32) ∧ W.cell? ⟨gr, 0, none⟩ = some (.pointer (some ⟨b0', 0, none⟩)) ∧ W.cell? ⟨gr, 1, none⟩ = some (.pointer (some ⟨b1', 0, none⟩)) ∧ W.cell? ⟨g, z + i * 8, none⟩ = some (.int .i64 st.how) ∧ W.cell? ⟨g, z + i * 8 + 1, none⟩ = some (.int .i64 st.on) ∧ W.cell? ⟨g, z + i * 8 + 2, none⟩ = some (.int .i64 st.n) ∧ W.cell? ⟨g, z + i * 8 + 3, none⟩ = some (.int .u64 (st.X : Nat)) ∧ W.cell? ⟨g, z + i * 8 + 4, none⟩ = some (.int .u64 (st.u : Nat)) ∧ W.cell? ⟨g, z + i * 8 + 5, none⟩ = some (.int .u64 (st.v : Nat)) ∧ W.cell? ⟨g, z + i * 8 + 6, none⟩ = some (.int .u8 st.fm) ∧ W.cell? ⟨g, z + i * 8 + 7, none⟩ = some (st.sv)) (by kernel_rfl) s0 (fun hHeld => ?_)
            refine wpAnyH_take (i := 0) (v := ?_) rfl (by kernel_rfl) (by kernel_rfl) (by kernel_rfl) (fun _ _ _ h => h) (Or.inl ⟨by rfl, ?_⟩) (by assumption) ?_
            rotate_left 1
            · intro W hSw
              try dsimp only at hSw
              go_simp
              try with_reducible rfl
            (try simp only [Act.put, List.getElem_toArray, List.getElem_cons_zero, List.getElem_cons_succ, List.setIfInBounds_toArray, List.set_cons_zero, List.set_cons_succ])
            refine wpAnyH_take (i := 1) (v := ?_) rfl (by kernel_rfl) (by kernel_rfl) (by kernel_rfl) (fun _ _ _ h => h) (Or.inl ⟨by rfl, ?_⟩) (by assumption) ?_
            rotate_left 1
            · intro W hSw
              try dsimp only at hSw
              go_simp
              try with_reducible rfl
            (try simp only [Act.put, List.getElem_toArray, List.getElem_cons_zero, List.getElem_cons_succ, List.setIfInBounds_toArray, List.set_cons_zero, List.set_cons_succ])
            refine wpAnyH_take (i := 2) (v := ?_) rfl (by kernel_rfl) (by kernel_rfl) (by kernel_rfl) (fun _ _ _ h => h) (Or.inl ⟨by rfl, ?_⟩) (by assumption) ?_
            rotate_left 1
            · intro W hSw
              try dsimp only at hSw
              go_simp
              try with_reducible rfl
            (try simp only [Act.put, List.getElem_toArray, List.getElem_cons_zero, List.getElem_cons_succ, List.setIfInBounds_toArray, List.set_cons_zero, List.set_cons_succ])
            refine wpAnyH_take (i := 3) (v := ?_) rfl (by kernel_rfl) (by kernel_rfl) (by kernel_rfl) (fun _ _ _ h => h) (Or.inl ⟨by rfl, ?_⟩) (by assumption) ?_
            rotate_left 1
            · intro W hSw
              try dsimp only at hSw
              go_simp
              try with_reducible rfl
            (try simp only [Act.put, List.getElem_toArray, List.getElem_cons_zero, List.getElem_cons_succ, List.setIfInBounds_toArray, List.set_cons_zero, List.set_cons_succ])
            refine wpAnyH_take (i := 4) (v := ?_) rfl (by kernel_rfl) (by kernel_rfl) (by kernel_rfl) (fun _ _ _ h => h) (Or.inl ⟨by rfl, ?_⟩) (by assumption) ?_
            rotate_left 1
            · intro W hSw
              try dsimp only at hSw
              go_simp
              try with_reducible rfl
            (try simp only [Act.put, List.getElem_toArray, List.getElem_cons_zero, List.getElem_cons_succ, List.setIfInBounds_toArray, List.set_cons_zero, List.set_cons_succ])
            refine wpAnyH_take (i := 5) (v := ?_) rfl (by kernel_rfl) (by kernel_rfl) (by kernel_rfl) (fun _ _ _ h => h) (Or.inl ⟨by rfl, ?_⟩) (by assumption) ?_
            rotate_left 1
            · intro W hSw
              try dsimp only at hSw
              go_simp
              try with_reducible rfl
            (try simp only [Act.put, List.getElem_toArray, List.getElem_cons_zero, List.getElem_cons_succ, List.setIfInBounds_toArray, List.set_cons_zero, List.set_cons_succ])
            refine wpAnyH_take (i := 7) (v := ?_) rfl (by kernel_rfl) (by kernel_rfl) (by kernel_rfl) (fun _ _ _ h => h) (Or.inl ⟨by rfl, ?_⟩) (by assumption) ?_
            rotate_left 1
            · intro W hSw
              try dsimp only at hSw
              go_simp
              try with_reducible rfl
            (try simp only [Act.put, List.getElem_toArray, List.getElem_cons_zero, List.getElem_cons_succ, List.setIfInBounds_toArray, List.set_cons_zero, List.set_cons_succ])
            refine wpAnyH_take (i := 8) (v := ?_) rfl (by kernel_rfl) (by kernel_rfl) (by kernel_rfl) (fun _ _ _ h => h) (Or.inl ⟨by rfl, ?_⟩) (by assumption) ?_
            rotate_left 1
            · intro W hSw
              try dsimp only at hSw
              go_simp
              try with_reducible rfl
            (try simp only [Act.put, List.getElem_toArray, List.getElem_cons_zero, List.getElem_cons_succ, List.setIfInBounds_toArray, List.set_cons_zero, List.set_cons_succ])
            refine wpAnyH_take (i := 9) (v := ?_) rfl (by kernel_rfl) (by kernel_rfl) (by kernel_rfl) (fun _ _ _ h => h) (Or.inl ⟨by rfl, ?_⟩) (by assumption) ?_
            rotate_left 1
            · intro W hSw
              try dsimp only at hSw
              go_simp
              try with_reducible rfl
            (try simp only [Act.put, List.getElem_toArray, List.getElem_cons_zero, List.getElem_cons_succ, List.setIfInBounds_toArray, List.set_cons_zero, List.set_cons_succ])
            refine wpAnyH_take (i := 10) (v := ?_) rfl (by kernel_rfl) (by kernel_rfl) (by kernel_rfl) (fun _ _ _ h => h) (Or.inl ⟨by rfl, ?_⟩) (by assumption) ?_
            rotate_left 1
            · intro W hSw
              try dsimp only at hSw
              go_simp
              try with_reducible rfl
            (try simp only [Act.put, List.getElem_toArray, List.getElem_cons_zero, List.getElem_cons_succ, List.setIfInBounds_toArray, List.set_cons_zero, List.set_cons_succ])
            refine wpAnyH_ready (rs := [6]) (by kernel_rfl) (by simp) ?_
            refine AllReadyH.cons rfl (fun K hK => ?_) AllReadyH.nil
            rw [if_pos (by rfl)]
            refine wp_load_mid 28 _ rfl gx 96 rfl (rf Y).toList _ (rf2_rhi (w := wr.drew) Rx) hu rfl (hi Y) ?_
            simp only [Array.toArray_toList]
            (try simp only [Act.put, List.getElem_toArray, List.getElem_cons_zero, List.getElem_cons_succ, List.setIfInBounds_toArray, List.set_cons_zero, List.set_cons_succ])
            refine hK.out _ _ s0 (fun hHeld => ?_)
            clear hK K
            refine wpAnyH_ready (rs := [11]) (by kernel_rfl) (by simp) ?_
            refine AllReadyH.cons rfl (fun K hK => ?_) AllReadyH.nil
            go_simp
            refine KBs.mono ?_
            rintro r wq ⟨rfl, rb, oq⟩
            (try go_wp2_with fail)
            have s1 := sO.out _ oq
            have Rx1 := Only.row (w := wr.drew) oq (by have := N3b.out; omega) Rx
            have hst := rf_stm (R := R') (rf2_there Rx1 96 (by decide))
            refine hK.out _ _ s1 (fun hHeld => ?_)
            clear hK K
            (try simp only [Act.put, List.getElem_toArray, List.getElem_cons_zero, List.getElem_cons_succ, List.setIfInBounds_toArray, List.set_cons_zero, List.set_cons_succ])
            refine wpAnyH_take (i := 12) (v := ?_) rfl (by kernel_rfl) (by kernel_rfl) (by kernel_rfl) (fun _ _ _ h => h) (Or.inl ⟨by rfl, ?_⟩) (by assumption) ?_
            rotate_left 1
            · intro W hSw
              try dsimp only at hSw
              go_simp
              try with_reducible rfl
            (try simp only [Act.put, List.getElem_toArray, List.getElem_cons_zero, List.getElem_cons_succ, List.setIfInBounds_toArray, List.set_cons_zero, List.set_cons_succ])
            refine wpAnyH_take (i := 13) (v := ?_) rfl (by kernel_rfl) (by kernel_rfl) (by kernel_rfl) (fun _ _ _ h => h) (Or.inl ⟨by rfl, ?_⟩) (by assumption) ?_
            rotate_left 1
            · intro W hSw
              try dsimp only at hSw
              go_simp
              try with_reducible rfl
            (try simp only [Act.put, List.getElem_toArray, List.getElem_cons_zero, List.getElem_cons_succ, List.setIfInBounds_toArray, List.set_cons_zero, List.set_cons_succ])
            refine wpAnyH_take (i := 14) (v := ?_) rfl (by kernel_rfl) (by kernel_rfl) (by kernel_rfl) (fun _ _ _ h => h) (Or.inl ⟨by rfl, ?_⟩) (by assumption) ?_
            rotate_left 1
            · intro W hSw
              try dsimp only at hSw
              go_simp
              try with_reducible rfl
            (try simp only [Act.put, List.getElem_toArray, List.getElem_cons_zero, List.getElem_cons_succ, List.setIfInBounds_toArray, List.set_cons_zero, List.set_cons_succ])
            refine wpAnyH_take (i := 15) (v := ?_) rfl (by kernel_rfl) (by kernel_rfl) (by kernel_rfl) (fun _ _ _ h => h) (Or.inl ⟨by rfl, ?_⟩) (by assumption) ?_
            rotate_left 1
            · intro W hSw
              try dsimp only at hSw
              go_simp
              try with_reducible rfl
            (try simp only [Act.put, List.getElem_toArray, List.getElem_cons_zero, List.getElem_cons_succ, List.setIfInBounds_toArray, List.set_cons_zero, List.set_cons_succ])
            obtain ⟨W5, hW5⟩ : ∃ W5, wq.setCells gx 96 (rf R').toList = W5 := ⟨_, rfl⟩
            rw [hW5] at hst
            have Rx5 : W5.heap[gx]? = some (.cells (rf2 X R') 34) := by
              have q := setCells_row gx (rf R').toList 96 wq _ _ Rx1
              rw [wr_hi, hW5] at q
              exact q
            have Rr5 : W5.heap[gr]? = some (.cells #[.pointer (some ⟨b0', 0, none⟩), .pointer (some ⟨b1', 0, none⟩)] 32) := by rw [← hW5, setCells_other (by have := N3b.out; omega)]; exact s1.1
            have rn5 : W5.heap[b1']? = some (.cells (rg R') tg) := by rw [← hW5, setCells_other (by have := N3b.out; omega)]; exact rb
            have ro5 : W5.heap[b0']? = some (.cells (rg X) tg) := by rw [← hW5, setCells_other (by have := N3b.out; omega)]; exact Only.row (w := wr.drew) oq (by have := N3b.out; omega) r0
            have B5 : Below w.heap.size w W5 := by rw [← hW5]; exact setCells_below (by have := N3b.out; omega) _ _ _ (Only.toBelow PP.out.1.drew oq (by have := N3b.out; omega) (by have := lt3.out; show w.heap.size ≤ wr.heap.size; omega))
            have NE : Box (w.heap.size ≤ gr ∧ w.heap.size ≤ gx ∧ w.heap.size ≤ b0' ∧ w.heap.size ≤ b1' ∧ b0' ≠ b1' ∧ gr ≠ b0' ∧ gr ≠ b1' ∧ gx ≠ gr ∧ gx ≠ b0' ∧ gx ≠ b1') := N3b
            have s2 : W5.heap[gr]? = some (.cells #[.pointer (some ⟨b0', 0, none⟩), .pointer (some ⟨b1', 0, none⟩)] 32) ∧ W5.cell? ⟨gr, 0, none⟩ = some (.pointer (some ⟨b0', 0, none⟩)) ∧ W5.cell? ⟨gr, 1, none⟩ = some (.pointer (some ⟨b1', 0, none⟩)) ∧ W5.cell? ⟨g, z + i * 8, none⟩ = some (.int .i64 st.how) ∧ W5.cell? ⟨g, z + i * 8 + 1, none⟩ = some (.int .i64 st.on) ∧ W5.cell? ⟨g, z + i * 8 + 2, none⟩ = some (.int .i64 st.n) ∧ W5.cell? ⟨g, z + i * 8 + 3, none⟩ = some (.int .u64 (st.X : Nat)) ∧ W5.cell? ⟨g, z + i * 8 + 4, none⟩ = some (.int .u64 (st.u : Nat)) ∧ W5.cell? ⟨g, z + i * 8 + 5, none⟩ = some (.int .u64 (st.v : Nat)) ∧ W5.cell? ⟨g, z + i * 8 + 6, none⟩ = some (.int .u8 st.fm) ∧ W5.cell? ⟨g, z + i * 8 + 7, none⟩ = some (st.sv) := ⟨Rr5, cell7 Rr5 0 _ rfl, cell7 Rr5 1 _ rfl, by rw [← hW5]; exact (cells_other (by have := N3b.out; omega) _ _ _).trans s1.2.2.2.1, by rw [← hW5]; exact (cells_other (by have := N3b.out; omega) _ _ _).trans s1.2.2.2.2.1, by rw [← hW5]; exact (cells_other (by have := N3b.out; omega) _ _ _).trans s1.2.2.2.2.2.1, by rw [← hW5]; exact (cells_other (by have := N3b.out; omega) _ _ _).trans s1.2.2.2.2.2.2.1, by rw [← hW5]; exact (cells_other (by have := N3b.out; omega) _ _ _).trans s1.2.2.2.2.2.2.2.1, by rw [← hW5]; exact (cells_other (by have := N3b.out; omega) _ _ _).trans s1.2.2.2.2.2.2.2.2.1, by rw [← hW5]; exact (cells_other (by have := N3b.out; omega) _ _ _).trans s1.2.2.2.2.2.2.2.2.2.1, by rw [← hW5]; exact (cells_other (by have := N3b.out; omega) _ _ _).trans s1.2.2.2.2.2.2.2.2.2.2⟩
            refine wpAnyH_ready (rs := [16]) (by kernel_rfl) (by simp) ?_
            refine AllReadyH.cons rfl (fun K hK => ?_) AllReadyH.nil
            go_simp
            refine hK.out _ _ s2 (fun hHeld => ?_)
            clear hK K
            (try simp only [Act.put, List.getElem_toArray, List.getElem_cons_zero, List.getElem_cons_succ, List.setIfInBounds_toArray, List.set_cons_zero, List.set_cons_succ])
            refine wpAnyH_take (i := 17) (v := ?_) rfl (by kernel_rfl) (by kernel_rfl) (by kernel_rfl) (fun _ _ _ h => h) (Or.inl ⟨by rfl, ?_⟩) (by assumption) ?_
            rotate_left 1
            · intro W hSw
              try dsimp only at hSw
              go_simp
              try with_reducible rfl
            (try simp only [Act.put, List.getElem_toArray, List.getElem_cons_zero, List.getElem_cons_succ, List.setIfInBounds_toArray, List.set_cons_zero, List.set_cons_succ])
            refine wpAnyH_done (by kernel_rfl) ?_ _
            have r05 := ro5
            have r15 := rn5
            have hX5 := hX
            have hY5 := hR'
            clear hst hW5 s1 s2 s0 sO KBs Rx1 rb oq e0 e1 e2 e3 e4 e5 e6 e7 Rr Rx r0 r1 dl hb0 hb1 rn5 ro5 cr0 cr1
            obtain ⟨F, hF1, hF2⟩ := below_fun W5
            have fr0 := fun u => cell7 (heap_of (hF1 u) _ _ _ Rr5) 0 _ rfl
            have fr1 := fun u => cell7 (heap_of (hF1 u) _ _ _ Rr5) 1 _ rfl
            have fx0 := box (fun u => rf2_rlo (heap_of (hF1 u) _ _ _ Rx5))
            have fx1 := box (fun u => rf2_rhi (heap_of (hF1 u) _ _ _ Rx5))
            have FG : Box (∀ u, T (F u)) := box (fun u => FB.out FF.out (btr B5 (hF1 u)))
            have K0 := box (fun u => KT.out X b0' (F u) hX5 (FG.out u) (heap_of (hF1 u) _ _ _ r05))
            have K1 := box (fun u => KT.out R' b1' (F u) hY5 (FG.out u) (heap_of (hF1 u) _ _ _ r15))
            have KK := box (fun u => KS.out X R' b0' b1' (F u) hX5 hY5 (FG.out u) (heap_of (hF1 u) _ _ _ r05) (heap_of (hF1 u) _ _ _ r15))
            have q0 := eqrf X X hX5.1 hX5.1
            have q1 := eqrf R' R' hY5.1 hY5.1
            have q2 := eqrf X R' hX5.1 hY5.1
            rw [rfE_self] at q0 q1
            obtain ⟨eo, heo⟩ : ∃ eo, rfE X R' = eo := ⟨_, rfl⟩
            rw [heo] at KK q2
            clear heo
            have hne : (eo != eo) = false := by simp
            go_wp2_with fail
            refine wp_region_below F hF2 (by kernel_rfl) (by kernel_rfl) ?_
            repeat first | (go_big_quiet_want; (first | refine quiet_ld _ _ rfl _ _ rfl (rf X).toList _ fx0.out hu rfl (hi X) ?_ | refine quiet_ld _ _ rfl _ _ rfl (rf R').toList _ fx1.out hu rfl (hi R') ?_); simp only [Array.toArray_toList, Act.put, List.setIfInBounds_toArray, List.set_cons_zero, List.set_cons_succ]; go_big_quiet_on) | go_big_quiet_step (first | (go_at_call_of 12 (Value.pointer (some ⟨b0', 0, none⟩)); exact quietF hF1 hF2 (K0.out _)) | (go_at_call_of 12 (Value.pointer (some ⟨b1', 0, none⟩)); exact quietF hF1 hF2 (K1.out _)) | (go_at_call 13; exact quietF hF1 hF2 (KK.out _)) | fail)
            refine wpQuiet_nil ?_
            rintro _ ⟨uW, rfl⟩
            have PE : Box (PLs rg tg w (F uW) gr gx b0' b1' X R') := box ⟨btr B5 (hF1 uW), heap_of (hF1 uW) _ _ _ Rr5, heap_of (hF1 uW) _ _ _ Rx5, heap_of (hF1 uW) _ _ _ r05, heap_of (hF1 uW) _ _ _ r15, hX5, hY5, NE.out⟩
            obtain ⟨W6, hW6⟩ : ∃ W6, F uW = W6 := ⟨_, rfl⟩
            rw [hW6] at PE
            try rw [hW6]
            clear hW6 hF1 hF2 fr0 fr1 fx0 fx1 FG K0 K1 KK
            have hw1 : IntKind.i64.wrap ((i : Int) + 1) = ((i + 1 : Nat) : Int) := by rw [IntKind.wrap_i64]; omega
            go_wp2
            go_roundw
            case rel => exact ⟨i + 1, b0', b1', X, R', by omega, by first | rfl | simp, PE⟩
            case measure => simp [intOf]; omega
          · go_wp2_with fail
            refine (KC.out X b0' _ hX (FB.out FF.out PP.out.1) r0).mono ?_
            rintro r w3 ⟨b', rfl, gb', rb', q3⟩
            have Rr3 := heap_of q3 _ _ _ Rr
            have Rx3 := heap_of q3 _ _ _ Rx
            have r03 := heap_of q3 _ _ _ r0
            have r13 := heap_of q3 _ _ _ r1
            have B3 := btr PP.out.1 q3
            have N3 := PP.out.2.2.2.2.2.2.2
            have lt3 : Box (gr < wr.heap.size ∧ gx < wr.heap.size ∧ b0' < wr.heap.size ∧ b1' < wr.heap.size ∧ w.heap.size ≤ wr.heap.size) := box ⟨(Array.getElem?_eq_some_iff.1 Rr).1, (Array.getElem?_eq_some_iff.1 Rx).1, (Array.getElem?_eq_some_iff.1 r0).1, (Array.getElem?_eq_some_iff.1 r1).1, PP.out.1.size⟩
            have N3b := box N3
            obtain ⟨W4, hW4⟩ : ∃ W4, w3.setCell ⟨gr, 1, none⟩ (.pointer (some ⟨b', 0, none⟩)) = W4 := ⟨_, rfl⟩
            have Rx4 : W4.heap[gx]? = some (.cells (rf2 X Y) 34) := by rw [← hW4]; exact (setCell_other (by omega)).trans Rx3
            have hq := fz (k := 1) Rr3
            have c0 := cell7 Rr3 1 _ rfl
            have hst := rf_stm (R := X) (rf2_there Rx4 96 (by decide))
            clear cr0 cr1 N3
            go_wp2_with (first | ((with_reducible (refine wpList_load_mid rfl 28 _ rfl gx 0 ?_ (rf X).toList _ (rf2_rlo Rx4) hu rfl (hi X) ?_)); rfl) | fail)
            obtain ⟨W5, hW5⟩ : ∃ W5, W4.setCells gx 96 (rf X).toList = W5 := ⟨_, rfl⟩
            have Rx5 : W5.heap[gx]? = some (.cells (rf2 X X) 34) := by
              have q := setCells_row gx (rf X).toList 96 W4 _ _ Rx4
              rw [wr_hi, hW5] at q
              exact q
            have Rr5 : W5.heap[gr]? = some (.cells #[.pointer (some ⟨b0', 0, none⟩), .pointer (some ⟨b', 0, none⟩)] 32) := by rw [← hW5, setCells_other (by have := N3b.out; omega), ← hW4, setCell_row Rr3]; rfl
            have rn5 : W5.heap[b']? = some (.cells (rg X) tg) := by rw [← hW5, setCells_other (by have := lt3.out; omega), ← hW4, setCell_other (by have := lt3.out; omega)]; exact rb'
            have ro5 : W5.heap[b0']? = some (.cells (rg X) tg) := by rw [← hW5, setCells_other (by have := N3b.out; omega), ← hW4, setCell_other (by have := N3b.out; omega)]; exact r03
            have B5 : Below w.heap.size w W5 := by rw [← hW5, ← hW4]; exact setCells_below (by have := N3b.out; omega) _ _ _ (B3.setCell (p := ⟨gr, 1, none⟩) (by have := N3b.out; show w.heap.size ≤ gr; omega) _)
            have NE : Box (w.heap.size ≤ gr ∧ w.heap.size ≤ gx ∧ w.heap.size ≤ b0' ∧ w.heap.size ≤ b' ∧ b0' ≠ b' ∧ gr ≠ b0' ∧ gr ≠ b' ∧ gx ≠ gr ∧ gx ≠ b0' ∧ gx ≠ b') := box (by have := N3b.out; have := lt3.out; omega)
            rw [hW5]
            have r05 := ro5
            have r15 := rn5
            have hX5 := hX
            have hY5 := hX
            clear hW5 hW4 hst hq c0 Rx4 Rr3 Rx3 r03 r13 rb' q3 B3 e0 e1 e2 e3 e4 e5 e6 e7 Rr Rx r0 r1 dl hb0 hb1 rn5 ro5 gb'
            obtain ⟨F, hF1, hF2⟩ := below_fun W5
            have fr0 := fun u => cell7 (heap_of (hF1 u) _ _ _ Rr5) 0 _ rfl
            have fr1 := fun u => cell7 (heap_of (hF1 u) _ _ _ Rr5) 1 _ rfl
            have fx0 := box (fun u => rf2_rlo (heap_of (hF1 u) _ _ _ Rx5))
            have fx1 := box (fun u => rf2_rhi (heap_of (hF1 u) _ _ _ Rx5))
            have FG : Box (∀ u, T (F u)) := box (fun u => FB.out FF.out (btr B5 (hF1 u)))
            have K0 := box (fun u => KT.out X b0' (F u) hX5 (FG.out u) (heap_of (hF1 u) _ _ _ r05))
            have K1 := box (fun u => KT.out X b' (F u) hY5 (FG.out u) (heap_of (hF1 u) _ _ _ r15))
            have KK := box (fun u => KS.out X X b0' b' (F u) hX5 hY5 (FG.out u) (heap_of (hF1 u) _ _ _ r05) (heap_of (hF1 u) _ _ _ r15))
            have q0 := eqrf X X hX5.1 hX5.1
            have q1 := eqrf X X hY5.1 hY5.1
            have q2 := eqrf X X hX5.1 hY5.1
            rw [rfE_self] at q0 q1
            rw [rfE_self] at KK
            clear q1 q2
            go_wp2_with fail
            refine wp_region_below F hF2 (by kernel_rfl) (by kernel_rfl) ?_
            repeat first | (go_big_quiet_want; (first | refine quiet_ld _ _ rfl _ _ rfl (rf X).toList _ fx0.out hu rfl (hi X) ?_ | refine quiet_ld _ _ rfl _ _ rfl (rf X).toList _ fx1.out hu rfl (hi X) ?_); simp only [Array.toArray_toList, Act.put, List.setIfInBounds_toArray, List.set_cons_zero, List.set_cons_succ]; go_big_quiet_on) | go_big_quiet_step (first | (go_at_call_of 12 (Value.pointer (some ⟨b0', 0, none⟩)); exact quietF hF1 hF2 (K0.out _)) | (go_at_call_of 12 (Value.pointer (some ⟨b', 0, none⟩)); exact quietF hF1 hF2 (K1.out _)) | (go_at_call 13; exact quietF hF1 hF2 (KK.out _)) | fail)
            refine wpQuiet_nil ?_
            rintro _ ⟨uW, rfl⟩
            have PE : Box (PLs rg tg w (F uW) gr gx b0' b' X X) := box ⟨btr B5 (hF1 uW), heap_of (hF1 uW) _ _ _ Rr5, heap_of (hF1 uW) _ _ _ Rx5, heap_of (hF1 uW) _ _ _ r05, heap_of (hF1 uW) _ _ _ r15, hX5, hY5, NE.out⟩
            obtain ⟨W6, hW6⟩ : ∃ W6, F uW = W6 := ⟨_, rfl⟩
            rw [hW6] at PE
            try rw [hW6]
            clear hW6 hF1 hF2 fr0 fr1 fx0 fx1 FG K0 K1 KK
            have hw1 : IntKind.i64.wrap ((i : Int) + 1) = ((i + 1 : Nat) : Int) := by rw [IntKind.wrap_i64]; omega
            go_wp2
            go_roundw
            case rel => exact ⟨i + 1, b0', b', X, X, by omega, by first | rfl | simp, PE⟩
            case measure => simp [intOf]; omega
      · obtain rfl : i = L := by omega
        have dl : decide ((i : Int) < (i : Int)) = false := by rw [decide_eq_false_iff_not]; omega
        have Rr := PP.out.2.1
        have Rx := PP.out.2.2.1
        have r0 := PP.out.2.2.2.1
        have r1 := PP.out.2.2.2.2.1
        have hX := PP.out.2.2.2.2.2.1
        have hY := PP.out.2.2.2.2.2.2.1
        have cr0 := cell7 Rr 0 _ rfl
        have cr1 := cell7 Rr 1 _ rfl
        go_wp2_with fail
        refine (KH.out X Y b0' b1' _ hX hY (FB.out FF.out PP.out.1) r0 r1).mono ?_
        rintro r w3 ⟨v1, rfl, cs1, q3⟩
        have B3 := btr PP.out.1 q3
        have Rx3 := heap_of q3 _ _ _ Rx
        go_wp2_with (first | ((with_reducible (refine wpList_load_mid rfl 28 _ rfl gx 0 ?_ (rf X).toList _ (rf2_rlo Rx3) hu rfl (hi X) ?_)); rfl) | ((with_reducible (refine wpList_load_mid rfl 28 _ rfl gx 96 ?_ (rf Y).toList _ (rf2_rhi Rx3) hu rfl (hi Y) ?_)); rfl) | fail)
        refine (r23_changed X Y _).mono ?_
        rintro r w4 ⟨v2, rfl, own2, q4⟩
        have B4 := btr B3 q4
        have cs1 := cs_mono cs1 q4
        have cs2 := own_cs own2
        obtain ⟨lc, hlc⟩ : ∃ lc, chgs X Y = lc := ⟨_, rfl⟩
        have hM : lc.length ≤ 64 := by rw [← hlc]; exact chgs_len X Y
        rw [hlc] at cs1 cs2
        obtain ⟨a1, c1, rfl, z1⟩ := cs1
        obtain ⟨a2, c2, rfl, z2⟩ := cs2
        obtain ⟨M, hMl⟩ : ∃ M, lc.length = M := ⟨_, rfl⟩
        rw [hMl] at hM ⊢
        have Z1 := box z1
        have Z2 := box z2
        have HMl := box hMl
        have hmm : ((M : Int) != (M : Int)) = false := by simp
        clear z1 z2 hMl own2 hlc Rx3 B3 q3 q4 Rr Rx r0 r1 cr0 cr1 dl PP
        go_wp2_with fail
        go_loopw [15] (fun iv wr => ∃ k : Nat, k ≤ M ∧ iv = .int .i64 (k : Int) ∧ Below w4.heap.size w4 wr) (fun iv _ => M - (intOf iv).toNat)
        case atStart => exact ⟨0, Nat.zero_le _, rfl, Below.refl _ _⟩
        case round =>
          obtain ⟨k, hk, rfl, bR⟩ := hrel
          by_cases hlt2 : k < M
          · obtain ⟨c, hs⟩ : ∃ c, lc[k]? = some c := ⟨_, List.getElem?_eq_getElem (by rw [HMl.out]; exact hlt2)⟩
            obtain ⟨g1, za1, rfl, hg1, hc1⟩ := Z1.out (by rintro rfl; simp at hs)
            obtain ⟨g2, za2, rfl, hg2, hc2⟩ := Z2.out (by rintro rfl; simp at hs)
            have he1 := fun i (hi : i < 5) u (hu : (chC c)[i]? = some u) => below_cell bR hg1 (hc1 (k * 5 + i) u ((chs_at lc k i c hs hi).trans hu))
            have he2 := fun i (hi : i < 5) u (hu : (chC c)[i]? = some u) => below_cell bR hg2 (hc2 (k * 5 + i) u ((chs_at lc k i c hs hi).trans hu))
            simp only [← Nat.add_assoc] at he1 he2
            obtain ⟨fl, cn, cx, x1, x2⟩ := c
            have x0 := he1 0 (by decide) _ rfl
            have x1' := he1 1 (by decide) _ rfl
            have x2' := he1 2 (by decide) _ rfl
            have x3 := he1 3 (by decide) _ rfl
            have x4 := he1 4 (by decide) _ rfl
            have y0 := he2 0 (by decide) _ rfl
            have y1 := he2 1 (by decide) _ rfl
            have y2 := he2 2 (by decide) _ rfl
            have y3 := he2 3 (by decide) _ rfl
            have y4 := he2 4 (by decide) _ rfl
            simp only [Nat.add_zero] at x0 y0
            clear he1 he2 hs hc1 hc2
            have dl : decide ((k : Int) < (M : Int)) = true := decide_eq_true (by omega)
            have hw1 : IntKind.i64.wrap ((k : Int) + 1) = ((k + 1 : Nat) : Int) := by rw [IntKind.wrap_i64]; omega
            have hb0 : (0 : Int) ≤ (k : Int) := by omega
            have hb1 : (k : Int) < (M : Int) := by omega
            have heq := eqb
            have heb := ebb_own (x1 : Nat) (x2 : Nat)
            have hself : (fl == fl) = true := by simp
            go_wp2_with fail
            go_quiet (fail)
            obtain ⟨w21, hw, B31, hh⟩ := quiet_world bR nq
            rw [hw]
            go_wp2
            go_roundw
            case rel => exact ⟨k + 1, by omega, by first | rfl | simp, B31⟩
            case measure => simp [intOf]; omega
          · obtain rfl : k = M := by omega
            have dl : decide ((k : Int) < (k : Int)) = false := by rw [decide_eq_false_iff_not]; omega
            go_wp2_with fail
            refine (KL.out _ (FB.out FF.out (btr B4 bR))).mono ?_
            rintro r w5 ⟨rfl, b5⟩
            go_wp2
            go_ret
            exact ⟨rfl, btr (btr B4 bR) b5⟩
end Go.Proofs.YtjbnifhpbdjonaaDoor
