/-
  What the functions that the statement reaches return: part 4 (JI).
-/
import Derived.RangeFuncNested
import Derived.RangeFuncBound
import Derived.RangeFuncCalls
import Derived.RangeFuncLeaves
import Derived.RangeFuncFrom
import Derived.Shelf.Abstract
import Derived.Shelf.RegionOpen
import Derived.WalkKit
import Derived.OwnWalkIn
import Derived.TacticsInMore
import Derived.LoopNIn
import Derived.LoopIn
import Derived.LoopN
import Derived.Deep.RegionHeld3
import Derived.Test.YtakmlgcnfbiagaaDoorBf03
namespace Go.Proofs.YtakmlgcnfbiagaaDoor
set_option maxRecDepth 100000
set_option maxHeartbeats 40000000
set_option maxRecDepth 100000
open Go.RowKit Go.Shelf WMath
set_option linter.unusedVariables false
set_option linter.unusedSimpArgs false
attribute [local go_sem] Oper.semAt_some

def BFI (w4 : World) (gt gi : Nat) (tn k : Int) (V : World) : Prop := V.heap[gt]? = some (.cells #[.int .i64 tn] 3) ∧ V.heap[gi]? = some (.cells #[.int .i64 k] 3) ∧ Below w4.heap.size w4 V
theorem row_grw {W W' : World} {row : Option Nat} {B g : Nat} {o : Obj} (h : W.heap[g]? = some o) (hg : W.grownBy W' row) (hr : ∀ r, row = some r → B ≤ r) (hb : g < B) : W'.heap[g]? = some o := by
  rw [hg.block g (Array.getElem?_eq_some_iff.1 h).1 (fun e => by have := hr g e.symm; omega)]
  exact h
theorem bfi_grown {w4 : World} {gt gi : Nat} {tn k : Int} {W W' : World} {row : Option Nat} {B : Nat} (h : BFI w4 gt gi tn k W) (hg : W.grownBy W' row) (hr : ∀ r, row = some r → B ≤ r) (h0 : w4.heap.size ≤ B) (h1 : gt < B) (h2 : gi < B) : BFI w4 gt gi tn k W' :=
  ⟨row_grw h.1 hg hr h1, row_grw h.2.1 hg hr h2, h.2.2.grown hg h.2.2.size (fun j e => by have := hr j e; omega)⟩
theorem bfi_set {w4 : World} {gt gi : Nat} {tn k : Int} {W : World} (h : BFI w4 gt gi tn k W) (h0 : w4.heap.size ≤ gi) (h1 : gt < gi) (k' : Int) : BFI w4 gt gi tn k' (W.setCell ⟨gi, 0, none⟩ (.int .i64 k')) :=
  ⟨by rw [setCell_other (by omega)]; exact h.1, by rw [setCell_row h.2.1]; rfl, h.2.2.setCell (p := ⟨gi, 0, none⟩) (by simpa using h0) _⟩
theorem pre_yes' (pre L : List Int) (x : Int) (hp : pre <+: L) (h : pre.length < L.length) (hx : x = L[pre.length]) : pre ++ [x] <+: L := by
  have e : pre = L.take pre.length := List.prefix_iff_eq_take.1 hp
  have : pre ++ [x] = L.take (pre.length + 1) := by
    rw [List.take_add_one, List.getElem?_eq_getElem h, hx, ← e]
    rfl
  rw [this]
  exact List.take_prefix _ _
theorem pre_no' (pre L : List Int) (x : Int) (h : ∀ h : pre.length < L.length, ¬ x = L[pre.length]) : ¬ pre ++ [x] <+: L := by
  intro q
  have hl := q.length_le
  rw [List.length_append] at hl
  have hl2 : pre.length < L.length := by simp at hl; omega
  have e := List.prefix_iff_eq_take.1 q
  have e2 : (pre ++ [x])[pre.length]? = some x := by simp
  rw [e, List.getElem?_take, if_pos (by simp), List.getElem?_eq_getElem hl2] at e2
  exact h hl2 (Option.some.inj e2).symm
theorem range_key {P : Program} {c : Code} {Q : Exit → Act → World → Prop} {a : Act} {w : World} {id : Nat} (R : Nat → Int → World → Prop)
    (h1 : c.wp P (fun e a' V => (e = .normal ∨ e = .exit id) ∧ ∃ D m, a' = { a with defers := { target := .collected D, args := #[] } :: a.defers } ∧ R D m V) a w)
    (h2 : ∀ D m V, R D m V → Q .normal { a with defers := { target := .collected D, args := #[] } :: a.defers } V) (h3 : ∀ a V, Q .normal a V → Q (.exit id) a V) : c.wp P Q a w :=
  wp_mono h1 fun e a' V ⟨he, D, m, ha, hr⟩ => by
    subst ha
    rcases he with rfl | rfl
    · exact h2 D m V hr
    · exact h3 _ _ (h2 D m V hr)
theorem heap_ob {W w1 : World} (hb : Below W.heap.size W w1) {b : Nat} {o : Obj} (h : W.heap[b]? = some o) : w1.heap[b]? = some o := by
  rw [hb.block b (Array.getElem?_eq_some_iff.1 h).1, h]
theorem lv2 {P : Program} {fn : Func} {tm : Array Value} {n D D2 r : Nat} {w W : World} (hr : ∀ U : World, U.cell? ⟨r, 0, none⟩ = some (.bool true) → (results fn tm).run P U = .ok (.bool true) U)
    (h2 : W.heap[D2]? = some (.deferred (some []))) (h1 : W.heap[D]? = some (.deferred (some []))) (hd : D ≠ D2) (g1 : w.heap.size ≤ D) (g2 : w.heap.size ≤ D2) (hB : Below w.heap.size w W) (hc : W.cell? ⟨r, 0, none⟩ = some (.bool true)) :
    LeavesInM Fence.wide n P fn tm (fun e w' => e = .returned (.bool true) ∧ Below w.heap.size w w') [{ target := .collected D2, args := #[] }, { target := .collected D, args := #[] }] .returning W := by
  have h1' : (W.putObj D2 (.deferred none)).heap[D]? = some (.deferred (some [])) := (World.putObj_heap_other (fun e => hd e)).trans h1
  have hc1 := cell_kept hc (grownBy_putObj' W D2 (.deferred none)) (fun r e => by cases e; exact ⟨_, h2, rfl⟩)
  have hc2 := cell_kept hc1 (grownBy_putObj' _ D (.deferred none)) (fun r e => by cases e; exact ⟨_, h1', rfl⟩)
  have b1 := hB.trans (belowK_b (w := w) (Nat.le_refl _) W D2 _ (.deferred none) g2 h2 rfl rfl)
  have b2 := b1.trans (belowK_b (w := w) (Nat.le_refl _) _ D _ (.deferred none) g1 h1' rfl rfl)
  exact ⟨by simp, .inl ⟨_, _, rfl, run_takeDeferred h2, by simp, .inl ⟨_, _, rfl, run_takeDeferred h1', ⟨_, hr _ hc2, rfl, b2⟩⟩⟩⟩
theorem cut7b {G C : Prop} (h : G → C) (k : G) : C := h k
theorem gen_bf {X : Act → World → Prop} {t0 t1 t2 t3 t4 t5 t6 t7 t8 t9 t10 t11 t12 t13 t14 t15 t16 t17 t18 t19 t20 t21 t22 t23 t24 t25 t26 t27 t28 t29 t30 t31 t32 t33 t34 t35 t36 t37 t38 t39 t40 t41 t42 t43 t44 t45 t46 t47 t48 t49 t50 t51 t52 t53 t54 t55 t56 t57 t58 t59 t60 t61 t62 t63 t64 t65 t66 t67 t68 t69 t70 t71 t72 t73 t74 t75 t76 t77 t78 t79 t80 t81 t82 t83 t84 t85 t86 t87 t88 t89 t90 t91 t92 t93 t94 t95 t96 t97 t98 t99 t100 t101 t102 t103 t104 t105 t106 t107 t108 t109 t110 : Value} {d : List Deferred} {W : World} (key : ∀ u49 u50 u51 u52 u53 u54 u55 u56 u57 u58 u59 u60 u61 : Value, X { tmps := #[t0, t1, t2, t3, t4, t5, t6, t7, t8, t9, t10, t11, t12, t13, t14, t15, t16, t17, t18, t19, t20, t21, t22, t23, t24, t25, t26, t27, t28, t29, t30, t31, t32, t33, t34, t35, t36, t37, t38, t39, t40, t41, t42, t43, t44, t45, t46, t47, t48, u49, u50, u51, u52, u53, u54, u55, u56, u57, u58, u59, u60, u61, t62, t63, t64, t65, t66, t67, t68, t69, t70, t71, t72, t73, t74, t75, t76, t77, t78, t79, t80, t81, t82, t83, t84, t85, t86, t87, t88, t89, t90, t91, t92, t93, t94, t95, t96, t97, t98, t99, t100, t101, t102, t103, t104, t105, t106, t107, t108, t109, t110], defers := d } W) : X { tmps := #[t0, t1, t2, t3, t4, t5, t6, t7, t8, t9, t10, t11, t12, t13, t14, t15, t16, t17, t18, t19, t20, t21, t22, t23, t24, t25, t26, t27, t28, t29, t30, t31, t32, t33, t34, t35, t36, t37, t38, t39, t40, t41, t42, t43, t44, t45, t46, t47, t48, t49, t50, t51, t52, t53, t54, t55, t56, t57, t58, t59, t60, t61, t62, t63, t64, t65, t66, t67, t68, t69, t70, t71, t72, t73, t74, t75, t76, t77, t78, t79, t80, t81, t82, t83, t84, t85, t86, t87, t88, t89, t90, t91, t92, t93, t94, t95, t96, t97, t98, t99, t100, t101, t102, t103, t104, t105, t106, t107, t108, t109, t110], defers := d } W := key _ _ _ _ _ _ _ _ _ _ _ _ _
set_option maxRecDepth 100000 in
set_option maxHeartbeats 8000000 in
theorem bf_law {T : World → Prop} (FB : Box (∀ {w w' : World}, T w → Below w.heap.size w w' → T w')) (x y N : Nat) (hx : x < 18446744073709551616) (hy : y < 18446744073709551616) (hN : y + 18446744073709551616 * x = N) (f0 f1 lv : Int) (gf : Nat) (p q u v u' v' : Nat) (a0 a1 e : Int)
    (KL : Box (∀ w, T w → Calls Tryd.prog 14 #[] w fun r w' => r = .returned (.bool true) ∧ Below w.heap.size w w'))
    (KF : Box (∀ w, T w → Calls Tryd.prog 21 #[.agg #[.int .u64 (x : Nat), .int .u64 (y : Nat)]] w fun r w0 => ∃ lb, r = .returned (.func (.func gf) #[] lb) ∧ Below w.heap.size w w0 ∧ ∀ n, 5 ≤ n → SeqTop n Tryd.prog gf lb (fun x : Int => #[Value.int .u8 x]) w0.heap.size (fun ys => ys = fmK N 4) (fun pre => pre <+: fmK N 4) 4 w0)) (KW : Box (∀ w, T w → Calls Tryd.prog 22 #[.int .u8 f0, .agg #[.int .u64 (x : Nat), .int .u64 (y : Nat)], .int .u8 f1] w fun r w' => r = .returned (.tuple #[.agg #[.int .u64 (p : Nat), .int .u64 (q : Nat)], .int .i64 e]) ∧ Below w.heap.size w w')) (RW0 : Box (∀ w, Calls Tryd.prog 7 #[.int .u8 f0] w fun r w' => r = .returned (.int .i64 a0) ∧ Below w.heap.size w w')) (RW1 : Box (∀ w, Calls Tryd.prog 7 #[.int .u8 f1] w fun r w' => r = .returned (.int .i64 a1) ∧ Below w.heap.size w w'))
    (H : Box (((a0 == 0) = true ∧ p = 0 ∧ q = 0 ∧ e = 2) ∨ ((a0 == 0) = false ∧ (a1 == 0) = true ∧ p = 0 ∧ q = 0 ∧ e = 2) ∨ ((a0 == 0) = false ∧ (a1 == 0) = false ∧ e = 0 ∧ Box (∀ w, Calls Tryd.prog 16 #[.int .u8 f0, .agg #[.int .u64 (x : Nat), .int .u64 (y : Nat)]] w fun r w' => r = .returned (.agg #[.int .u64 (u : Nat), .int .u64 (v : Nat)]) ∧ Below w.heap.size w w') ∧ Box (∀ w, Calls Tryd.prog 19 #[.int .u8 f0, .agg #[.int .u64 (u : Nat), .int .u64 (v : Nat)]] w fun r w' => r = .returned (.agg #[.int .u64 (u' : Nat), .int .u64 (v' : Nat)]) ∧ Below w.heap.size w w') ∧ Box (∀ w, Calls Tryd.prog 16 #[.int .u8 f1, .agg #[.int .u64 (u' : Nat), .int .u64 (v' : Nat)]] w fun r w' => r = .returned (.agg #[.int .u64 (p : Nat), .int .u64 (q : Nat)]) ∧ Below w.heap.size w w'))))
    (hE : ∀ args w, (callFunc gf args).run Tryd.prog w = .ok (.enter gf args) w)
    (w : World) (hT : T w) : Calls Tryd.prog 4 #[.agg #[.int .u64 (x : Nat), .int .u64 (y : Nat)], .agg #[.int .u8 f0, .int .u8 f1], .int .i64 lv] w fun r w' => r = .returned (.bool true) ∧ Below w.heap.size w w' := by
  have FF := box hT
  clear hT
  refine (callsIn_wide (n := 6)).1 ?_
  refine callsIn_of_wp_marks Tryd.func4 rfl trivial ?_ rfl
  refine wpIn_wide.2 ?_
  simp only [Tryd.ntmps4, List.size_toArray, List.length_cons, List.length_nil, Nat.reduceAdd, Nat.reduceSub, Array.replicate_succ, Array.replicate_zero, List.push_toArray, List.append_toArray, List.nil_append, List.cons_append]
  have RF := box (fun w => r22_forms x y N hx hy hN w)
  have hpl := fmK_len N 4
  obtain ⟨L, hL⟩ : ∃ L, fmK N 4 = L := ⟨_, rfl⟩
  rw [hL] at KF RF hpl
  have hnil : ∀ (lb : Array Value) (w : World), (binOp .eql 39 (.func (.func gf) #[] lb) .nilFunc).run Tryd.prog w = .ok (.bool false) w := fun _ _ => by kernel_rfl
  clear hL hx hy hN
  obtain ⟨Rb_0, Rf_0, Rl_0, Rr_0, B0⟩ := opn4 w (Obj.cells #[.int .u64 (x : Nat), .int .u64 (y : Nat)] 25) (Obj.cells #[.int .u8 f0, .int .u8 f1] 35) (Obj.cells #[.int .i64 lv] 3) (Obj.cells #[.bool false] 4)
  go_wp2_with fail
  refine (KL.out _ (FB.out FF.out B0)).mono ?_
  rintro r w1 ⟨rfl, b1⟩
  have B1 : Below w.heap.size w w1 := btr B0 b1
  have Rb_1 := heap_of b1 _ _ _ Rb_0
  have Rf_1 := heap_of b1 _ _ _ Rf_0
  have Rl_1 := heap_of b1 _ _ _ Rl_0
  have Rr_1 := heap_of b1 _ _ _ Rr_0
  clear b1 B0 Rb_0 Rf_0 Rl_0 Rr_0
  obtain ⟨cb_1_0, cb_1_1⟩ := cells2s Rb_1
  obtain ⟨cf_1_0, cf_1_1⟩ := cells2s Rf_1
  have cl_1_0 := cells4 Rl_1 0 _ rfl
  have cr_1_0 := cells4 Rr_1 0 _ rfl
  go_wp2_with fail
  refine (RF.out _).mono ?_
  rintro _ w2 ⟨v, rfl, own2, b2⟩
  obtain ⟨ao, cap, rfl⟩ : ∃ ao cap, v = .slice ao L.length cap := by
    rcases own2.2 with ⟨h, h0⟩ | ⟨g, cap, _, h, _⟩
    · exact ⟨none, 0, by rw [h, h0]⟩
    · exact ⟨_, _, h⟩
  have B2 := btr B1 b2
  have Rb_2 := heap_of b2 _ _ _ Rb_1
  have Rf_2 := heap_of b2 _ _ _ Rf_1
  have Rl_2 := heap_of b2 _ _ _ Rl_1
  have Rr_2 := heap_of b2 _ _ _ Rr_1
  have a2 := bal w2 (Obj.cells #[.slice ao L.length cap] 36)
  have Rw_3 := heap_alloc_last w2 (Obj.cells #[.slice ao L.length cap] 36)
  have own3 := own2.alloc (Obj.cells #[.slice ao L.length cap] 36)
  have B3 := btr B2 a2
  have Rb_3 := heap_of a2 _ _ _ Rb_2
  have Rf_3 := heap_of a2 _ _ _ Rf_2
  have Rl_3 := heap_of a2 _ _ _ Rl_2
  have Rr_3 := heap_of a2 _ _ _ Rr_2
  clear cb_1_0 cb_1_1 cf_1_0 cf_1_1 cl_1_0 cr_1_0 B1 Rb_1 Rf_1 Rl_1 Rr_1 b2 a2 own2 Rb_2 Rf_2 Rl_2 Rr_2 B2
  obtain ⟨cb0, cb1⟩ := cells2s Rb_3
  go_wp2_with fail
  refine (KF.out _ (FB.out FF.out B3)).mono ?_
  rintro _ w4 ⟨lb, rfl, b4, seq⟩
  have B4 := btr B3 b4
  have Rb_4 := heap_of b4 _ _ _ Rb_3
  have Rf_4 := heap_of b4 _ _ _ Rf_3
  have Rl_4 := heap_of b4 _ _ _ Rl_3
  have Rr_4 := heap_of b4 _ _ _ Rr_3
  have Rw_4 := heap_of b4 _ _ _ Rw_3
  have own4 := own_mono own3 b4
  clear cb0 cb1 B3 Rb_3 Rf_3 Rl_3 Rr_3 Rw_3 own3 b4
  go_wp2_with fail
  refine wp_loop_rounds 3 ?_
  rw [rounds_succ]
  go_wp2_with fail
  obtain ⟨W0, hW0⟩ : ∃ W0, ((w4.alloc (.cells #[.int .i64 0] 3)).alloc (.cells #[.int .i64 0] 3)) = W0 := ⟨_, rfl⟩
  have hs0 : W0.heap.size = w4.heap.size + 1 + 1 := by rw [← hW0]; simp only [size_al]
  have R0 : BFI w4 w4.heap.size (w4.heap.size + 1) 0 0 W0 := by
    rw [← hW0]
    exact ⟨heap_of (bal _ _) _ _ _ (heap_alloc_last _ _), by have := heap_alloc_last (w4.alloc (.cells #[.int .i64 0] 3)) (.cells #[.int .i64 0] 3); simpa only [size_al] using this, btr (bal _ _) (bal _ _)⟩
  rw [hW0]
  clear hW0
  refine range_key (id := 2) (fun D m V => W0.heap.size ≤ D ∧ V.heap[D]? = some (.deferred (some [])) ∧ BFI w4 w4.heap.size (w4.heap.size + 1) 0 m V ∧ (m = L.length ∨ m = lv)) ?loop ?go (fun _ _ h => h)
  case loop =>
    refine (wpIn_wide (n := 6)).1 ?_
    refine wp_range_top (by decide) (gf := gf) (lb := lb) rfl hE (seq 5 (by decide)) (by omega) R0.2.2 (fun _ => rfl)
      (fun pre V => pre <+: L ∧ BFI w4 w4.heap.size (w4.heap.size + 1) 0 (pre.length : Nat) V)
      (fun c pre V => (c = .ret ∧ ¬ pre <+: L) ∨ (c = .exit 2 ∧ ((pre.length : Nat) : Int) = lv ∧ pre <+: L ∧ BFI w4 w4.heap.size (w4.heap.size + 1) 0 (pre.length : Nat) V))
      (fun s A B row hs hg hr => ⟨hs.1, bfi_grown hs.2 hg (fun r e => (hr r e).1) (by omega) (by omega) (by omega)⟩)
      (fun c s A B row hs hg hr => hs.imp id (fun h => ⟨h.1, h.2.1, h.2.2.1, bfi_grown h.2.2.2 hg (fun r e => (hr r e).1) (by omega) (by omega) (by omega)⟩))
      ⟨List.nil_prefix, R0⟩ ?a1 ?assign ?body ?done ?stop
    case assign =>
      intro l x W K hK
      gi_wp2
      exact hK
    case body =>
      rintro l pre xx V ⟨hp, hR⟩ hl4
      have hlp : pre.length < 4 := hl4
      obtain ⟨k, hk⟩ : ∃ k : Nat, pre.length = k := ⟨_, rfl⟩
      have hk1 : (pre ++ [xx]).length = k + 1 := by rw [List.length_append, hk]; rfl
      rw [hk] at hR hlp
      have ci := cells4 hR.2.1 0 _ rfl
      have fi := fz (k := 0) hR.2.1
      have ct := cells4 hR.1 0 _ rfl
      have cw := cells4 (heap_of hR.2.2 _ _ _ Rw_4) 0 _ rfl
      have cl := cells4 (heap_of hR.2.2 _ _ _ Rl_4) 0 _ rfl
      have cr := cells4 (heap_of hR.2.2 _ _ _ Rr_4) 0 _ rfl
      have fr := fz (k := 0) (heap_of hR.2.2 _ _ _ Rr_4)
      have ow := own_mono own4 hR.2.2
      have hw : IntKind.i64.wrap ((k : Int) + 1) = ((k + 1 : Nat) : Int) := by rw [IntKind.wrap_i64]; omega
      by_cases hlt : k < L.length
      · have hd : decide ((L.length : Int) ≤ (k : Int)) = false := by simp; omega
        obtain ⟨g, rfl⟩ : ∃ g, ao = some ⟨g, 0, none⟩ := by
          rcases own4.2 with ⟨_, h0⟩ | ⟨g, _, _, h, _⟩
          · omega
          · injection h with h1; exact ⟨g, h1⟩
        have ce := ow.cells (g := g) rfl k (.int .u8 L[k]) (by rw [List.getElem?_map, List.getElem?_eq_getElem hlt]; rfl)
        have hli : (k : Int) < (L.length : Int) := by omega
        obtain ⟨u, hu⟩ : ∃ u, L[k] = u := ⟨_, rfl⟩
        rw [hu] at ce
        have ce2 : V.cell? ⟨g, k, none⟩ = some (.int .u8 u) := by
          rw [show (⟨g, 0, none⟩ : Addr).add k = ⟨g, k, none⟩ from by unfold Addr.add; split <;> simp_all] at ce
          exact ce
        by_cases hxu : xx = u
        · have hne : (xx != u) = false := by simp [hxu]
          have hyes := box (pre_yes' pre L xx hp (by omega) (by subst hk; exact hxu.trans hu.symm))
          have hset := box (bfi_set hR (by omega) (by omega) ((k + 1 : Nat) : Int))
          have lt4 := (Array.getElem?_eq_some_iff.1 Rl_4).1
          have cl2 : ∀ u, (V.setCell ⟨w4.heap.size + 1, 0, none⟩ u).cell? ⟨w.heap.size + 1 + 1, 0, none⟩ = some (.int .i64 lv) := fun u => (World.cell?_setCell_other _ _ _ _ (by intro e; injection e with e1; omega)).trans cl
          by_cases hv : ((k + 1 : Nat) : Int) = lv
          · have hvl : (((k : Int) + 1) == lv) = true := beq_iff_eq.2 (by omega)
            clear ow own4
            gi_wp2
            refine ⟨TopK.setCell _ _ _ _ (by have := (Array.getElem?_eq_some_iff.1 Rr_4).1; omega), .inr ⟨rfl, by rw [hk1]; exact hv, hyes.out, ?_⟩⟩
            have := hset.out
            rw [hk1]
            rw [hv] at this ⊢
            exact this
          · have hvl : (((k : Int) + 1) == lv) = false := beq_eq_false_iff_ne.2 (by omega)
            clear ow own4
            gi_wp2
            refine ⟨TopK.setCell _ _ _ _ (by have := (Array.getElem?_eq_some_iff.1 Rr_4).1; omega), (Below.refl _ V).setCell (p := ⟨w4.heap.size + 1, 0, none⟩) (by simp) _, hyes.out, ?_⟩
            have := hset.out
            rw [hk1]
            exact this
        · have hne : (xx != u) = true := by simp [hxu]
          have hno := box (pre_no' pre L xx (fun h => by subst hk; rw [hu]; exact hxu))
          clear ow own4
          gi_wp2
          exact ⟨TopK.setCell _ _ _ _ (by have := (Array.getElem?_eq_some_iff.1 Rr_4).1; omega), .inl ⟨rfl, hno.out⟩⟩
      · have hd : decide ((L.length : Int) ≤ (k : Int)) = true := by simp; omega
        have hno := box (pre_no' pre L xx (fun h => by omega))
        clear ow own4
        gi_wp2
        exact ⟨TopK.setCell _ _ _ _ (by have := (Array.getElem?_eq_some_iff.1 Rr_4).1; omega), .inl ⟨rfl, hno.out⟩⟩
    case done =>
      rintro D ys V hD rfl ⟨hp, hR⟩ hK
      exact ⟨.inl rfl, D, _, rfl, hD, hK, hR, .inl rfl⟩
    case stop =>
      rintro D c pre V hD hpre hx hK
      rcases hx with ⟨rfl, hno⟩ | ⟨rfl, hv, hp, hR⟩
      · exact absurd hpre hno
      exact wpIn_wide.2 (wp_exit ⟨.inr rfl, D, _, rfl, hD, hK, hR, .inr hv⟩)
  case go =>
    rintro D m V ⟨hD, hK, hR, hm⟩
    have ci := cells4 hR.2.1 0 _ rfl
    have ct := cells4 hR.1 0 _ rfl
    have cw := cells4 (heap_of hR.2.2 _ _ _ Rw_4) 0 _ rfl
    have cl := cells4 (heap_of hR.2.2 _ _ _ Rl_4) 0 _ rfl
    have HM := box hm
    clear hm
    apply cut7b
    · intro key
      by_cases hml : m = (L.length : Int)
      · have hne : (m != (L.length : Int)) = false := by simp [hml]
        clear hml
        go_wp2_with fail
        all_goals exact gen_bf key
      · have hne : (m != (L.length : Int)) = true := by simp [hml]
        have hnl : (m != lv) = false := by
          rcases HM.out with h | h
          · exact absurd h hml
          · simp [h]
        clear hml
        go_wp2_with fail
        all_goals exact gen_bf key
    rintro u49 u50 u51 u52 u53 u54 u55 u56 u57 u58 u59 u60 u61
    rw [rounds_succ]
    go_wp2_with fail
    obtain ⟨W1, hW1⟩ : ∃ W1, ((V.alloc (.cells #[.int .i64 1] 3)).alloc (.cells #[.int .i64 0] 3)) = W1 := ⟨_, rfl⟩
    have hs1 : W1.heap.size = V.heap.size + 1 + 1 := by rw [← hW1]; simp only [size_al]
    have hsV : w4.heap.size ≤ V.heap.size := hR.2.2.size
    have hDV : D < V.heap.size := (Array.getElem?_eq_some_iff.1 hK).1
    have R1 : BFI w4 V.heap.size (V.heap.size + 1) 1 0 W1 := by
      rw [← hW1]
      exact ⟨heap_of (bal _ _) _ _ _ (heap_alloc_last _ _), by have := heap_alloc_last (V.alloc (.cells #[.int .i64 1] 3)) (.cells #[.int .i64 0] 3); simpa only [size_al] using this, hR.2.2.trans ((btr (bal _ _) (bal _ _)).mono hsV)⟩
    have hK1 : W1.heap[D]? = some (.deferred (some [])) := by
      rw [← hW1, heap_below _ _ _ (by simp only [size_al]; omega), heap_below _ _ _ hDV]
      exact hK
    rw [hW1]
    clear hW1 ci ct cw cl
    refine range_key (id := 2) (fun D2 m V2 => W1.heap.size ≤ D2 ∧ V2.heap[D2]? = some (.deferred (some [])) ∧ V2.heap[D]? = some (.deferred (some [])) ∧ BFI w4 V.heap.size (V.heap.size + 1) 1 m V2 ∧ m = L.length) ?loop2 ?go2 (fun _ _ h => h)
    case loop2 =>
      refine (wpIn_wide (n := 6)).1 ?_
      refine wp_range_top (by decide) (gf := gf) (lb := lb) rfl hE (seq 5 (by decide)) (by omega) R1.2.2 (fun _ => rfl)
        (fun pre U => pre <+: L ∧ U.heap[D]? = some (.deferred (some [])) ∧ BFI w4 V.heap.size (V.heap.size + 1) 1 (pre.length : Nat) U)
        (fun c pre U => c = .ret ∧ ¬ pre <+: L)
        (fun s A B row hs hg hr => ⟨hs.1, row_grw hs.2.1 hg (fun r e => (hr r e).1) (by omega), bfi_grown hs.2.2 hg (fun r e => (hr r e).1) (by omega) (by omega) (by omega)⟩)
        (fun c s A B row hs hg hr => hs)
        ⟨List.nil_prefix, hK1, R1⟩ ?a2 ?assign2 ?body2 ?done2 ?stop2
      case assign2 =>
        intro l x W K hK
        gi_wp2
        exact hK
      case body2 =>
        rintro l pre xx U ⟨hp, hKU, hR⟩ hl4
        have hlp : pre.length < 4 := hl4
        have HKU := box hKU
        clear hKU
        obtain ⟨k, hk⟩ : ∃ k : Nat, pre.length = k := ⟨_, rfl⟩
        have hk1 : (pre ++ [xx]).length = k + 1 := by rw [List.length_append, hk]; rfl
        rw [hk] at hR hlp
        have ci := cells4 hR.2.1 0 _ rfl
        have fi := fz (k := 0) hR.2.1
        have ct := cells4 hR.1 0 _ rfl
        have cw := cells4 (heap_of hR.2.2 _ _ _ Rw_4) 0 _ rfl
        have cr := cells4 (heap_of hR.2.2 _ _ _ Rr_4) 0 _ rfl
        have fr := fz (k := 0) (heap_of hR.2.2 _ _ _ Rr_4)
        have ow := own_mono own4 hR.2.2
        have hw : IntKind.i64.wrap ((k : Int) + 1) = ((k + 1 : Nat) : Int) := by rw [IntKind.wrap_i64]; omega
        by_cases hlt : k < L.length
        · have hd : decide ((L.length : Int) ≤ (k : Int)) = false := by simp; omega
          obtain ⟨g, rfl⟩ : ∃ g, ao = some ⟨g, 0, none⟩ := by
            rcases own4.2 with ⟨_, h0⟩ | ⟨g, _, _, h, _⟩
            · omega
            · injection h with h1; exact ⟨g, h1⟩
          have ce := ow.cells (g := g) rfl k (.int .u8 L[k]) (by rw [List.getElem?_map, List.getElem?_eq_getElem hlt]; rfl)
          have hli : (k : Int) < (L.length : Int) := by omega
          obtain ⟨u, hu⟩ : ∃ u, L[k] = u := ⟨_, rfl⟩
          rw [hu] at ce
          have ce2 : U.cell? ⟨g, k, none⟩ = some (.int .u8 u) := by
            rw [show (⟨g, 0, none⟩ : Addr).add k = ⟨g, k, none⟩ from by unfold Addr.add; split <;> simp_all] at ce
            exact ce
          by_cases hxu : xx = u
          · have hne : (xx != u) = false := by simp [hxu]
            have hyes := box (pre_yes' pre L xx hp (by omega) (by subst hk; exact hxu.trans hu.symm))
            have hset := box (bfi_set hR (by omega) (by omega) ((k + 1 : Nat) : Int))
            clear ow own4
            gi_wp2
            refine ⟨TopK.setCell _ _ _ _ (by have := (Array.getElem?_eq_some_iff.1 Rr_4).1; omega), (Below.refl _ U).setCell (p := ⟨V.heap.size + 1, 0, none⟩) (by simp; omega) _, hyes.out, (KeepsOthers.setCell U _ _).same D _ HKU.out rfl, ?_⟩
            have := hset.out
            rw [hk1]
            exact this
          · have hne : (xx != u) = true := by simp [hxu]
            have hno := box (pre_no' pre L xx (fun h => by subst hk; rw [hu]; exact hxu))
            clear ow own4
            gi_wp2
            exact ⟨TopK.setCell _ _ _ _ (by have := (Array.getElem?_eq_some_iff.1 Rr_4).1; omega), rfl, hno.out⟩
        · have hd : decide ((L.length : Int) ≤ (k : Int)) = true := by simp; omega
          have hno := box (pre_no' pre L xx (fun h => by omega))
          clear ow own4
          gi_wp2
          exact ⟨TopK.setCell _ _ _ _ (by have := (Array.getElem?_eq_some_iff.1 Rr_4).1; omega), rfl, hno.out⟩
      case done2 =>
        rintro D2 ys U hD2 rfl ⟨hp, hKU, hR⟩ hK2
        exact ⟨.inl rfl, D2, _, rfl, hD2, hK2, hKU, hR, rfl⟩
      case stop2 =>
        rintro D2 c pre U hD2 hpre hx hK2
        exact absurd hpre hx.2
    case go2 =>
      rintro D2 m2 V2 ⟨hD2, hK2, hKD, hR2, rfl⟩
      have ci := cells4 hR2.2.1 0 _ rfl
      have ct := cells4 hR2.1 0 _ rfl
      have cw := cells4 (heap_of hR2.2.2 _ _ _ Rw_4) 0 _ rfl
      have hsV2 : w4.heap.size ≤ V2.heap.size := hR2.2.2.size
      go_wp2_with fail
      rw [rounds_succ]
      obtain ⟨w20, hw20⟩ : ∃ w20, V2.alloc (.cells #[.int .i64 2] 3) = w20 := ⟨_, rfl⟩
      have hBt := hR2.2.2.trans ((bal V2 (.cells #[.int .i64 2] 3)).mono hsV2)
      have hD20 : (V2.alloc (.cells #[.int .i64 2] 3)).heap[D2]? = some (.deferred (some [])) := by rw [heap_below _ _ _ (Array.getElem?_eq_some_iff.1 hK2).1]; exact hK2
      have hE20 : (V2.alloc (.cells #[.int .i64 2] 3)).heap[D]? = some (.deferred (some [])) := by rw [heap_below _ _ _ (Array.getElem?_eq_some_iff.1 hKD).1]; exact hKD
      have hcT : w20.cell? ⟨V2.heap.size, 0, none⟩ = some (.int .i64 2) := by rw [← hw20]; exact cells4 (heap_alloc_last _ _) 0 _ rfl
      rw [hw20] at hBt hD20 hE20 ⊢
      clear hw20
      have B20 := btr B4 hBt
      have Rb_20 := heap_of hBt _ _ _ Rb_4
      have Rf_20 := heap_of hBt _ _ _ Rf_4
      have Rl_20 := heap_of hBt _ _ _ Rl_4
      have Rr_20 := heap_of hBt _ _ _ Rr_4
      have Rw_20 := heap_of hBt _ _ _ Rw_4
      have S4 := box B4.size
      have hge : w.heap.size ≤ D ∧ w.heap.size ≤ D2 ∧ D ≠ D2 := by have := B4.size; omega
      have heq := eqb
      have hge1 := box hge
      clear hge
      obtain ⟨cb_20_0, cb_20_1⟩ := cells2s Rb_20
      obtain ⟨cf_20_0, cf_20_1⟩ := cells2s Rf_20
      have cl_20_0 := cells4 Rl_20 0 _ rfl
      have cr_20_0 := cells4 Rr_20 0 _ rfl
      have cw_20_0 := cells4 Rw_20 0 _ rfl
      go_wp2_with fail
      refine (KW.out _ (FB.out FF.out B20)).mono ?_
      rintro r w21 ⟨rfl, b21⟩
      have B21 : Below w.heap.size w w21 := btr B20 b21
      replace hD20 := heap_ob b21 hD20
      replace hE20 := heap_ob b21 hE20
      have Rb_21 := heap_of b21 _ _ _ Rb_20
      have Rf_21 := heap_of b21 _ _ _ Rf_20
      have Rl_21 := heap_of b21 _ _ _ Rl_20
      have Rr_21 := heap_of b21 _ _ _ Rr_20
      have Rw_21 := heap_of b21 _ _ _ Rw_20
      clear b21 B20 Rb_20 cb_20_0 cb_20_1 Rf_20 cf_20_0 cf_20_1 Rl_20 cl_20_0 Rr_20 cr_20_0 Rw_20 cw_20_0
      obtain ⟨cb_21_0, cb_21_1⟩ := cells2s Rb_21
      obtain ⟨cf_21_0, cf_21_1⟩ := cells2s Rf_21
      have cl_21_0 := cells4 Rl_21 0 _ rfl
      have cr_21_0 := cells4 Rr_21 0 _ rfl
      have cw_21_0 := cells4 Rw_21 0 _ rfl
      have S22 := box B21.size
      have Lb_22 : Box (w.heap.size < w21.heap.size) := box (Array.getElem?_eq_some_iff.1 Rb_21).1
      have Lf_22 : Box (w.heap.size + 1 < w21.heap.size) := box (Array.getElem?_eq_some_iff.1 Rf_21).1
      have Ll_22 : Box (w.heap.size + 1 + 1 < w21.heap.size) := box (Array.getElem?_eq_some_iff.1 Rl_21).1
      have Lr_22 : Box (w.heap.size + 1 + 1 + 1 < w21.heap.size) := box (Array.getElem?_eq_some_iff.1 Rr_21).1
      have Lw_22 : Box (w2.heap.size < w21.heap.size) := box (Array.getElem?_eq_some_iff.1 Rw_21).1
      have Rc_22 := heap_alloc_last w21 (Obj.cells #[.int .u64 (p : Nat), .int .u64 (q : Nat)] 25)
      have B22 := btr B21 (bal w21 (Obj.cells #[.int .u64 (p : Nat), .int .u64 (q : Nat)] 25))
      replace hD20 := heap_ob (bal w21 (Obj.cells #[.int .u64 (p : Nat), .int .u64 (q : Nat)] 25)) hD20
      replace hE20 := heap_ob (bal w21 (Obj.cells #[.int .u64 (p : Nat), .int .u64 (q : Nat)] 25)) hE20
      have Rb_22 := heap_of (bal w21 (Obj.cells #[.int .u64 (p : Nat), .int .u64 (q : Nat)] 25)) _ _ _ Rb_21
      have Rf_22 := heap_of (bal w21 (Obj.cells #[.int .u64 (p : Nat), .int .u64 (q : Nat)] 25)) _ _ _ Rf_21
      have Rl_22 := heap_of (bal w21 (Obj.cells #[.int .u64 (p : Nat), .int .u64 (q : Nat)] 25)) _ _ _ Rl_21
      have Rr_22 := heap_of (bal w21 (Obj.cells #[.int .u64 (p : Nat), .int .u64 (q : Nat)] 25)) _ _ _ Rr_21
      have Rw_22 := heap_of (bal w21 (Obj.cells #[.int .u64 (p : Nat), .int .u64 (q : Nat)] 25)) _ _ _ Rw_21
      clear B21 Rb_21 cb_21_0 cb_21_1 Rf_21 cf_21_0 cf_21_1 Rl_21 cl_21_0 Rr_21 cr_21_0 Rw_21 cw_21_0
      obtain ⟨cb_22_0, cb_22_1⟩ := cells2s Rb_22
      obtain ⟨cf_22_0, cf_22_1⟩ := cells2s Rf_22
      have cl_22_0 := cells4 Rl_22 0 _ rfl
      have cr_22_0 := cells4 Rr_22 0 _ rfl
      have cw_22_0 := cells4 Rw_22 0 _ rfl
      obtain ⟨cc_22_0, cc_22_1⟩ := cells2s Rc_22
      go_wp2_with fail
      refine (RW0.out _).mono ?_
      rintro r w23 ⟨rfl, b23⟩
      have B23 : Below w.heap.size w w23 := btr B22 b23
      replace hD20 := heap_ob b23 hD20
      replace hE20 := heap_ob b23 hE20
      have Rb_23 := heap_of b23 _ _ _ Rb_22
      have Rf_23 := heap_of b23 _ _ _ Rf_22
      have Rl_23 := heap_of b23 _ _ _ Rl_22
      have Rr_23 := heap_of b23 _ _ _ Rr_22
      have Rw_23 := heap_of b23 _ _ _ Rw_22
      have Rc_23 := heap_of b23 _ _ _ Rc_22
      clear b23 B22 Rb_22 cb_22_0 cb_22_1 Rf_22 cf_22_0 cf_22_1 Rl_22 cl_22_0 Rr_22 cr_22_0 Rw_22 cw_22_0 Rc_22 cc_22_0 cc_22_1
      obtain ⟨cb_23_0, cb_23_1⟩ := cells2s Rb_23
      obtain ⟨cf_23_0, cf_23_1⟩ := cells2s Rf_23
      have cl_23_0 := cells4 Rl_23 0 _ rfl
      have cr_23_0 := cells4 Rr_23 0 _ rfl
      have cw_23_0 := cells4 Rw_23 0 _ rfl
      obtain ⟨cc_23_0, cc_23_1⟩ := cells2s Rc_23
      rcases H.out with ⟨h0, rfl, rfl, rfl⟩ | ⟨h0, h1, rfl, rfl, rfl⟩ | ⟨h0, h1, rfl, RU0, RB, RU1⟩
      · have ez : ebb ((0 : Nat) : Int) ((0 : Nat) : Int) 0 0 = true := rfl
        go_wp2_with fail
        refine (KL.out _ (FB.out FF.out B23)).mono ?_
        rintro r w24 ⟨rfl, b24⟩
        have B24 : Below w.heap.size w w24 := btr B23 b24
        replace hD20 := heap_ob b24 hD20
        replace hE20 := heap_ob b24 hE20
        have Rb_24 := heap_of b24 _ _ _ Rb_23
        have Rf_24 := heap_of b24 _ _ _ Rf_23
        have Rl_24 := heap_of b24 _ _ _ Rl_23
        have Rr_24 := heap_of b24 _ _ _ Rr_23
        have Rw_24 := heap_of b24 _ _ _ Rw_23
        have Rc_24 := heap_of b24 _ _ _ Rc_23
        clear b24 B23 Rb_23 cb_23_0 cb_23_1 Rf_23 cf_23_0 cf_23_1 Rl_23 cl_23_0 Rr_23 cr_23_0 Rw_23 cw_23_0 Rc_23 cc_23_0 cc_23_1
        obtain ⟨cb_24_0, cb_24_1⟩ := cells2s Rb_24
        obtain ⟨cf_24_0, cf_24_1⟩ := cells2s Rf_24
        have cl_24_0 := cells4 Rl_24 0 _ rfl
        have cr_24_0 := cells4 Rr_24 0 _ rfl
        have cw_24_0 := cells4 Rw_24 0 _ rfl
        obtain ⟨cc_24_0, cc_24_1⟩ := cells2s Rc_24
        have fr := fz (k := 0) Rr_24
        go_wp2
        exact lv2 (r := w.heap.size + 1 + 1 + 1) (fun U hU => by simp [results, Tryd.results4, go_sem, hU]) ((KeepsOthers.setCell _ _ _).same D2 _ hD20 rfl) ((KeepsOthers.setCell _ _ _).same D _ hE20 rfl) hge1.out.2.2 hge1.out.1 hge1.out.2.1 (B24.setCell (p := ⟨w.heap.size + 1 + 1 + 1, 0, none⟩) (by simp; omega) _) (World.cell?_setCell_same _ _ _ (cells4 Rr_24 0 _ rfl))
      · have ez : ebb ((0 : Nat) : Int) ((0 : Nat) : Int) 0 0 = true := rfl
        go_wp2_with fail
        refine (RW1.out _).mono ?_
        rintro r w24 ⟨rfl, b24⟩
        have B24 : Below w.heap.size w w24 := btr B23 b24
        replace hD20 := heap_ob b24 hD20
        replace hE20 := heap_ob b24 hE20
        have Rb_24 := heap_of b24 _ _ _ Rb_23
        have Rf_24 := heap_of b24 _ _ _ Rf_23
        have Rl_24 := heap_of b24 _ _ _ Rl_23
        have Rr_24 := heap_of b24 _ _ _ Rr_23
        have Rw_24 := heap_of b24 _ _ _ Rw_23
        have Rc_24 := heap_of b24 _ _ _ Rc_23
        clear b24 B23 Rb_23 cb_23_0 cb_23_1 Rf_23 cf_23_0 cf_23_1 Rl_23 cl_23_0 Rr_23 cr_23_0 Rw_23 cw_23_0 Rc_23 cc_23_0 cc_23_1
        obtain ⟨cb_24_0, cb_24_1⟩ := cells2s Rb_24
        obtain ⟨cf_24_0, cf_24_1⟩ := cells2s Rf_24
        have cl_24_0 := cells4 Rl_24 0 _ rfl
        have cr_24_0 := cells4 Rr_24 0 _ rfl
        have cw_24_0 := cells4 Rw_24 0 _ rfl
        obtain ⟨cc_24_0, cc_24_1⟩ := cells2s Rc_24
        go_wp2_with fail
        refine (KL.out _ (FB.out FF.out B24)).mono ?_
        rintro r w25 ⟨rfl, b25⟩
        have B25 : Below w.heap.size w w25 := btr B24 b25
        replace hD20 := heap_ob b25 hD20
        replace hE20 := heap_ob b25 hE20
        have Rb_25 := heap_of b25 _ _ _ Rb_24
        have Rf_25 := heap_of b25 _ _ _ Rf_24
        have Rl_25 := heap_of b25 _ _ _ Rl_24
        have Rr_25 := heap_of b25 _ _ _ Rr_24
        have Rw_25 := heap_of b25 _ _ _ Rw_24
        have Rc_25 := heap_of b25 _ _ _ Rc_24
        clear b25 B24 Rb_24 cb_24_0 cb_24_1 Rf_24 cf_24_0 cf_24_1 Rl_24 cl_24_0 Rr_24 cr_24_0 Rw_24 cw_24_0 Rc_24 cc_24_0 cc_24_1
        obtain ⟨cb_25_0, cb_25_1⟩ := cells2s Rb_25
        obtain ⟨cf_25_0, cf_25_1⟩ := cells2s Rf_25
        have cl_25_0 := cells4 Rl_25 0 _ rfl
        have cr_25_0 := cells4 Rr_25 0 _ rfl
        have cw_25_0 := cells4 Rw_25 0 _ rfl
        obtain ⟨cc_25_0, cc_25_1⟩ := cells2s Rc_25
        have fr := fz (k := 0) Rr_25
        go_wp2
        exact lv2 (r := w.heap.size + 1 + 1 + 1) (fun U hU => by simp [results, Tryd.results4, go_sem, hU]) ((KeepsOthers.setCell _ _ _).same D2 _ hD20 rfl) ((KeepsOthers.setCell _ _ _).same D _ hE20 rfl) hge1.out.2.2 hge1.out.1 hge1.out.2.1 (B25.setCell (p := ⟨w.heap.size + 1 + 1 + 1, 0, none⟩) (by simp; omega) _) (World.cell?_setCell_same _ _ _ (cells4 Rr_25 0 _ rfl))
      · have ez : ebb ((p : Nat) : Int) ((q : Nat) : Int) (p : Nat) (q : Nat) = true := by simp [ebb]
        go_wp2_with fail
        refine (RW1.out _).mono ?_
        rintro r w24 ⟨rfl, b24⟩
        have B24 : Below w.heap.size w w24 := btr B23 b24
        replace hD20 := heap_ob b24 hD20
        replace hE20 := heap_ob b24 hE20
        have Rb_24 := heap_of b24 _ _ _ Rb_23
        have Rf_24 := heap_of b24 _ _ _ Rf_23
        have Rl_24 := heap_of b24 _ _ _ Rl_23
        have Rr_24 := heap_of b24 _ _ _ Rr_23
        have Rw_24 := heap_of b24 _ _ _ Rw_23
        have Rc_24 := heap_of b24 _ _ _ Rc_23
        clear b24 B23 Rb_23 cb_23_0 cb_23_1 Rf_23 cf_23_0 cf_23_1 Rl_23 cl_23_0 Rr_23 cr_23_0 Rw_23 cw_23_0 Rc_23 cc_23_0 cc_23_1
        obtain ⟨cb_24_0, cb_24_1⟩ := cells2s Rb_24
        obtain ⟨cf_24_0, cf_24_1⟩ := cells2s Rf_24
        have cl_24_0 := cells4 Rl_24 0 _ rfl
        have cr_24_0 := cells4 Rr_24 0 _ rfl
        have cw_24_0 := cells4 Rw_24 0 _ rfl
        obtain ⟨cc_24_0, cc_24_1⟩ := cells2s Rc_24
        have hc21 := box (show w.heap.size + 1 + 1 + 1 < w21.heap.size by have := Lr_22.out; omega)
        have sS : Box (∀ W W1 : World, (Below w.heap.size w W ∧ W.heap[w.heap.size]? = some (Obj.cells #[.int .u64 (x : Nat), .int .u64 (y : Nat)] 25) ∧ W.heap[w.heap.size + 1]? = some (Obj.cells #[.int .u8 f0, .int .u8 f1] 35) ∧ W.heap[w21.heap.size]? = some (Obj.cells #[.int .u64 (p : Nat), .int .u64 (q : Nat)] 25) ∧ W.heap[D2]? = some (.deferred (some [])) ∧ W.heap[D]? = some (.deferred (some [])) ∧ W.cell? ⟨w.heap.size, 0, none⟩ = some (.int .u64 (x : Nat)) ∧ W.cell? ⟨w.heap.size, 1, none⟩ = some (.int .u64 (y : Nat)) ∧ W.cell? ⟨w.heap.size + 1, 0, none⟩ = some (.int .u8 f0) ∧ W.cell? ⟨w.heap.size + 1, 1, none⟩ = some (.int .u8 f1) ∧ W.cell? ⟨w21.heap.size, 0, none⟩ = some (.int .u64 (p : Nat)) ∧ W.cell? ⟨w21.heap.size, 1, none⟩ = some (.int .u64 (q : Nat))) → Below W.heap.size W W1 → (Below w.heap.size w W1 ∧ W1.heap[w.heap.size]? = some (Obj.cells #[.int .u64 (x : Nat), .int .u64 (y : Nat)] 25) ∧ W1.heap[w.heap.size + 1]? = some (Obj.cells #[.int .u8 f0, .int .u8 f1] 35) ∧ W1.heap[w21.heap.size]? = some (Obj.cells #[.int .u64 (p : Nat), .int .u64 (q : Nat)] 25) ∧ W1.heap[D2]? = some (.deferred (some [])) ∧ W1.heap[D]? = some (.deferred (some [])) ∧ W1.cell? ⟨w.heap.size, 0, none⟩ = some (.int .u64 (x : Nat)) ∧ W1.cell? ⟨w.heap.size, 1, none⟩ = some (.int .u64 (y : Nat)) ∧ W1.cell? ⟨w.heap.size + 1, 0, none⟩ = some (.int .u8 f0) ∧ W1.cell? ⟨w.heap.size + 1, 1, none⟩ = some (.int .u8 f1) ∧ W1.cell? ⟨w21.heap.size, 0, none⟩ = some (.int .u64 (p : Nat)) ∧ W1.cell? ⟨w21.heap.size, 1, none⟩ = some (.int .u64 (q : Nat)))) := box (fun W W1 h b => ⟨btr h.1 b, heap_of b _ _ _ h.2.1, heap_of b _ _ _ h.2.2.1, heap_of b _ _ _ h.2.2.2.1, heap_ob b h.2.2.2.2.1, heap_ob b h.2.2.2.2.2.1, cell7 (heap_of b _ _ _ h.2.1) 0 _ rfl, cell7 (heap_of b _ _ _ h.2.1) 1 _ rfl, cell7 (heap_of b _ _ _ h.2.2.1) 0 _ rfl, cell7 (heap_of b _ _ _ h.2.2.1) 1 _ rfl, cell7 (heap_of b _ _ _ h.2.2.2.1) 0 _ rfl, cell7 (heap_of b _ _ _ h.2.2.2.1) 1 _ rfl⟩)
        have sT : Box (∀ (W : World) (xA : Value), (Below w.heap.size w W ∧ W.heap[w.heap.size]? = some (Obj.cells #[.int .u64 (x : Nat), .int .u64 (y : Nat)] 25) ∧ W.heap[w.heap.size + 1]? = some (Obj.cells #[.int .u8 f0, .int .u8 f1] 35) ∧ W.heap[w21.heap.size]? = some (Obj.cells #[.int .u64 (p : Nat), .int .u64 (q : Nat)] 25) ∧ W.heap[D2]? = some (.deferred (some [])) ∧ W.heap[D]? = some (.deferred (some [])) ∧ W.cell? ⟨w.heap.size, 0, none⟩ = some (.int .u64 (x : Nat)) ∧ W.cell? ⟨w.heap.size, 1, none⟩ = some (.int .u64 (y : Nat)) ∧ W.cell? ⟨w.heap.size + 1, 0, none⟩ = some (.int .u8 f0) ∧ W.cell? ⟨w.heap.size + 1, 1, none⟩ = some (.int .u8 f1) ∧ W.cell? ⟨w21.heap.size, 0, none⟩ = some (.int .u64 (p : Nat)) ∧ W.cell? ⟨w21.heap.size, 1, none⟩ = some (.int .u64 (q : Nat))) → (Below w.heap.size w (W.setCell ⟨w.heap.size + 1 + 1 + 1, 0, none⟩ xA) ∧ (W.setCell ⟨w.heap.size + 1 + 1 + 1, 0, none⟩ xA).heap[w.heap.size]? = some (Obj.cells #[.int .u64 (x : Nat), .int .u64 (y : Nat)] 25) ∧ (W.setCell ⟨w.heap.size + 1 + 1 + 1, 0, none⟩ xA).heap[w.heap.size + 1]? = some (Obj.cells #[.int .u8 f0, .int .u8 f1] 35) ∧ (W.setCell ⟨w.heap.size + 1 + 1 + 1, 0, none⟩ xA).heap[w21.heap.size]? = some (Obj.cells #[.int .u64 (p : Nat), .int .u64 (q : Nat)] 25) ∧ (W.setCell ⟨w.heap.size + 1 + 1 + 1, 0, none⟩ xA).heap[D2]? = some (.deferred (some [])) ∧ (W.setCell ⟨w.heap.size + 1 + 1 + 1, 0, none⟩ xA).heap[D]? = some (.deferred (some [])) ∧ (W.setCell ⟨w.heap.size + 1 + 1 + 1, 0, none⟩ xA).cell? ⟨w.heap.size, 0, none⟩ = some (.int .u64 (x : Nat)) ∧ (W.setCell ⟨w.heap.size + 1 + 1 + 1, 0, none⟩ xA).cell? ⟨w.heap.size, 1, none⟩ = some (.int .u64 (y : Nat)) ∧ (W.setCell ⟨w.heap.size + 1 + 1 + 1, 0, none⟩ xA).cell? ⟨w.heap.size + 1, 0, none⟩ = some (.int .u8 f0) ∧ (W.setCell ⟨w.heap.size + 1 + 1 + 1, 0, none⟩ xA).cell? ⟨w.heap.size + 1, 1, none⟩ = some (.int .u8 f1) ∧ (W.setCell ⟨w.heap.size + 1 + 1 + 1, 0, none⟩ xA).cell? ⟨w21.heap.size, 0, none⟩ = some (.int .u64 (p : Nat)) ∧ (W.setCell ⟨w.heap.size + 1 + 1 + 1, 0, none⟩ xA).cell? ⟨w21.heap.size, 1, none⟩ = some (.int .u64 (q : Nat)))) := box (fun W xA h => ⟨h.1.setCell (p := ⟨w.heap.size + 1 + 1 + 1, 0, none⟩) (by simp; omega) _, (setCell_other (by have := hc21.out; omega)).trans h.2.1, (setCell_other (by have := hc21.out; omega)).trans h.2.2.1, (setCell_other (by have := hc21.out; omega)).trans h.2.2.2.1, (KeepsOthers.setCell W _ _).same _ _ h.2.2.2.2.1 rfl, (KeepsOthers.setCell W _ _).same _ _ h.2.2.2.2.2.1 rfl, cell7 ((setCell_other (by have := hc21.out; omega)).trans h.2.1) 0 _ rfl, cell7 ((setCell_other (by have := hc21.out; omega)).trans h.2.1) 1 _ rfl, cell7 ((setCell_other (by have := hc21.out; omega)).trans h.2.2.1) 0 _ rfl, cell7 ((setCell_other (by have := hc21.out; omega)).trans h.2.2.1) 1 _ rfl, cell7 ((setCell_other (by have := hc21.out; omega)).trans h.2.2.2.1) 0 _ rfl, cell7 ((setCell_other (by have := hc21.out; omega)).trans h.2.2.2.1) 1 _ rfl⟩)
        have s0 : Below w.heap.size w w24.drew ∧ w24.drew.heap[w.heap.size]? = some (Obj.cells #[.int .u64 (x : Nat), .int .u64 (y : Nat)] 25) ∧ w24.drew.heap[w.heap.size + 1]? = some (Obj.cells #[.int .u8 f0, .int .u8 f1] 35) ∧ w24.drew.heap[w21.heap.size]? = some (Obj.cells #[.int .u64 (p : Nat), .int .u64 (q : Nat)] 25) ∧ w24.drew.heap[D2]? = some (.deferred (some [])) ∧ w24.drew.heap[D]? = some (.deferred (some [])) ∧ w24.drew.cell? ⟨w.heap.size, 0, none⟩ = some (.int .u64 (x : Nat)) ∧ w24.drew.cell? ⟨w.heap.size, 1, none⟩ = some (.int .u64 (y : Nat)) ∧ w24.drew.cell? ⟨w.heap.size + 1, 0, none⟩ = some (.int .u8 f0) ∧ w24.drew.cell? ⟨w.heap.size + 1, 1, none⟩ = some (.int .u8 f1) ∧ w24.drew.cell? ⟨w21.heap.size, 0, none⟩ = some (.int .u64 (p : Nat)) ∧ w24.drew.cell? ⟨w21.heap.size, 1, none⟩ = some (.int .u64 (q : Nat)) := ⟨B24.drew, Rb_24, Rf_24, Rc_24, hD20, hE20, cell7 (Rb_24) 0 _ rfl, cell7 (Rb_24) 1 _ rfl, cell7 (Rf_24) 0 _ rfl, cell7 (Rf_24) 1 _ rfl, cell7 (Rc_24) 0 _ rfl, cell7 (Rc_24) 1 _ rfl⟩
        have rz : w24.drew.heap[w.heap.size + 1 + 1 + 1]? = some (Obj.cells #[.bool false] 4) := Rr_24
        have hq0 := fz (k := 0) rz
        have hc0 := cell7 rz 0 _ rfl
        go_wp2_with fail
        go_region_held3 (fun W => Below w.heap.size w W ∧ W.heap[w.heap.size]? = some (Obj.cells #[.int .u64 (x : Nat), .int .u64 (y : Nat)] 25) ∧ W.heap[w.heap.size + 1]? = some (Obj.cells #[.int .u8 f0, .int .u8 f1] 35) ∧ W.heap[w21.heap.size]? = some (Obj.cells #[.int .u64 (p : Nat), .int .u64 (q : Nat)] 25) ∧ W.heap[D2]? = some (.deferred (some [])) ∧ W.heap[D]? = some (.deferred (some [])) ∧ W.cell? ⟨w.heap.size, 0, none⟩ = some (.int .u64 (x : Nat)) ∧ W.cell? ⟨w.heap.size, 1, none⟩ = some (.int .u64 (y : Nat)) ∧ W.cell? ⟨w.heap.size + 1, 0, none⟩ = some (.int .u8 f0) ∧ W.cell? ⟨w.heap.size + 1, 1, none⟩ = some (.int .u8 f1) ∧ W.cell? ⟨w21.heap.size, 0, none⟩ = some (.int .u64 (p : Nat)) ∧ W.cell? ⟨w21.heap.size, 1, none⟩ = some (.int .u64 (q : Nat))) (first | exact s1 | exact s0 | exact sT.out _ _ s1 | exact sT.out _ _ s0)
          (first | (go_at_call 16; with_reducible (first | refine (RU0.out _).mono ?_ | refine (RU0.out _).mono ?_); rintro r wq ⟨rfl, bq⟩; have s1 := (by first | exact sS.out _ _ s1 bq | exact sS.out _ _ s0 bq); have rz := heap_of bq _ _ _ rz; have hq0 := fz (k := 0) rz; have hc0 := cell7 rz 0 _ rfl; clear bq) | (go_at_call 16; with_reducible (first | refine (RU1.out _).mono ?_ | refine (RU1.out _).mono ?_); rintro r wq ⟨rfl, bq⟩; have s1 := (by first | exact sS.out _ _ s1 bq | exact sS.out _ _ s0 bq); have rz := heap_of bq _ _ _ rz; have hq0 := fz (k := 0) rz; have hc0 := cell7 rz 0 _ rfl; clear bq) | (go_at_call 19; with_reducible (first | refine (RB.out _).mono ?_ | refine (RB.out _).mono ?_); rintro r wq ⟨rfl, bq⟩; have s1 := (by first | exact sS.out _ _ s1 bq | exact sS.out _ _ s0 bq); have rz := heap_of bq _ _ _ rz; have hq0 := fz (k := 0) rz; have hc0 := cell7 rz 0 _ rfl; clear bq) | (go_at_call 14; with_reducible (first | refine (KL.out _ (FB.out FF.out (And.left s1))).mono ?_ | refine (KL.out _ (FB.out FF.out (And.left s0))).mono ?_); rintro r wq ⟨rfl, bq⟩; have s1 := (by first | exact sS.out _ _ s1 bq | exact sS.out _ _ s0 bq); have rz := heap_of bq _ _ _ rz; have hq0 := fz (k := 0) rz; have hc0 := cell7 rz 0 _ rfl; clear bq) | fail)
        have BZ : Below w.heap.size w wq := And.left s1
        go_wp2
        exact lv2 (r := w.heap.size + 1 + 1 + 1) (fun U hU => by simp [results, Tryd.results4, go_sem, hU]) ((KeepsOthers.setCell _ _ _).same D2 _ s1.2.2.2.2.1 rfl) ((KeepsOthers.setCell _ _ _).same D _ s1.2.2.2.2.2.1 rfl) hge1.out.2.2 hge1.out.1 hge1.out.2.1 (BZ.setCell (p := ⟨w.heap.size + 1 + 1 + 1, 0, none⟩) (by simp; omega) _) (World.cell?_setCell_same _ _ _ (cells4 rz 0 _ rfl))
end Go.Proofs.YtakmlgcnfbiagaaDoor
