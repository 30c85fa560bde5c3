/-
  What the functions that the statement reaches return: part 15 (Z6).
-/
import Derived.Test.YtapikkbifdldfaaDoorDo14
namespace Go.Proofs.YtapikkbifdldfaaDoor
set_option maxRecDepth 100000
set_option maxHeartbeats 40000000
set_option maxRecDepth 100000
open Go.RowKit WMath XMath
set_option linter.unusedSimpArgs false
set_option linter.unusedVariables false
theorem gen_abacuslaw13_DivOne_9 {X : Act → World → Prop} {R : World → Nat → Prop} {t0 t1 t2 t3 t4 t5 t6 t7 t8 t10 t11 t12 t13 t14 t15 t16 t17 t18 t19 t20 t21 t22 t23 t24 t25 t26 t27 t28 t29 t30 t31 t32 t33 t34 t35 t36 t37 t38 t39 t40 t41 t42 t43 t44 t45 t46 t47 t48 t49 t50 t51 t52 t53 t54 t55 t56 t57 t58 t59 t60 t61 t62 t63 t64 t65 t66 t67 t68 t69 t70 t71 t72 t73 t74 t75 t76 t77 t78 t79 t80 t81 t82 t83 t84 t85 t86 t87 t88 t89 t90 t91 t92 t93 t94 t95 t96 t97 t98 t99 t100 t101 t102 t103 t104 t105 t106 : Value} {d : List Deferred} {W : World} {G : Nat}
    (key : ∀ w5 g, R w5 g → X ⟨#[t0, t1, t2, t3, t4, t5, t6, t7, t8, .pointer (some ⟨g, 0, none⟩), t10, t11, t12, t13, t14, t15, t16, t17, t18, t19, t20, t21, t22, t23, t24, t25, t26, t27, t28, t29, t30, t31, t32, t33, t34, t35, t36, t37, t38, t39, t40, t41, t42, t43, t44, t45, t46, t47, t48, t49, t50, t51, t52, t53, t54, t55, t56, t57, t58, t59, t60, t61, t62, t63, t64, t65, t66, t67, t68, t69, t70, t71, t72, t73, t74, t75, t76, t77, t78, t79, t80, t81, t82, t83, t84, t85, t86, t87, t88, t89, t90, t91, t92, t93, t94, t95, t96, t97, t98, t99, t100, t101, t102, t103, t104, t105, t106], d⟩ w5) (r : R W G) : X ⟨#[t0, t1, t2, t3, t4, t5, t6, t7, t8, .pointer (some ⟨G, 0, none⟩), t10, t11, t12, t13, t14, t15, t16, t17, t18, t19, t20, t21, t22, t23, t24, t25, t26, t27, t28, t29, t30, t31, t32, t33, t34, t35, t36, t37, t38, t39, t40, t41, t42, t43, t44, t45, t46, t47, t48, t49, t50, t51, t52, t53, t54, t55, t56, t57, t58, t59, t60, t61, t62, t63, t64, t65, t66, t67, t68, t69, t70, t71, t72, t73, t74, t75, t76, t77, t78, t79, t80, t81, t82, t83, t84, t85, t86, t87, t88, t89, t90, t91, t92, t93, t94, t95, t96, t97, t98, t99, t100, t101, t102, t103, t104, t105, t106], d⟩ W := key W G r

theorem al13 : divR 2 0 17920 16896 = (16384, 0) ∧ okB 2 17920 = true ∧ okB 2 16896 = true := by decide +kernel
set_option maxRecDepth 100000 in
set_option maxHeartbeats 4000000 in
theorem r13alive (w : World) (hT : FAt w) : Calls Tryd.prog 6 #[] w fun r w' => r = .returned (.bool true) ∧ Below w.heap.size w w' := by
  have FF := box hT
  have K1 : Box (∀ w, FAt w → Calls Tryd.prog 7 #[.int .u8 2, .int .u8 0, .agg #[.int .u64 0, .int .u64 17920], .agg #[.int .u64 0, .int .u64 16896]] w fun r w' => r = .returned (.tuple #[.agg #[.int .u64 0, .int .u64 16384], .int .u8 0, .int .i64 0]) ∧ Below w.heap.size w w') := box (fun w hT => kDiv_is 2 0 (by unfold Is4; omega) (by decide) 0 17920 17920 0 16896 16896 (by decide) (by decide) rfl (by decide) (by decide) rfl al13.2.1 al13.2.2 _ _ al13.1 0 16384 rfl w hT)
  clear hT
  have B0 : Below w.heap.size w w := (Below.refl _ _)
  go_enter Tryd.func6, Tryd.ntmps6
  go_wp2_with fail
  refine (K1.out _ (fatB FF.out B0)).mono ?_
  rintro r w1 ⟨rfl, b1⟩
  have B1 : Below w.heap.size w w1 := btr B0 b1
  clear b1 B0 
  have S2 := box B1.size
  have Rb_2 := heap_alloc_last w1 (Obj.cells #[.int .u64 0, .int .u64 16384] 26)
  have B2 := btr B1 (bal w1 (Obj.cells #[.int .u64 0, .int .u64 16384] 26))
  clear B1 
  obtain ⟨cb_2_0, cb_2_1⟩ := cells2s Rb_2
  go_wp2
  go_ret
  exact ⟨rfl, B2⟩
set_option maxRecDepth 100000 in
set_option maxHeartbeats 8000000 in
theorem do_err (f m : Int) (x1 y1 : Nat) (c : Nat)  (w : World)
    (KC : Box (∀ w, FAt w → Calls Tryd.prog 4 #[.int .u8 f, .agg #[.int .u64 (x1 : Nat), .int .u64 (y1 : Nat)]] w fun r w' => r = .returned (.tuple #[.int .u8 (c : Nat), .int .i64 2]) ∧ Below w.heap.size w w'))
    (KA : Box (∀ w, FAt w → Calls Tryd.prog 6 #[] w fun r w' => r = .returned (.bool true) ∧ Below w.heap.size w w'))
    (hT : FAt w) : Calls Tryd.prog 3 #[.int .u8 f, .int .u8 m, .agg #[.int .u64 (x1 : Nat), .int .u64 (y1 : Nat)]] w fun r w' => r = .returned (.bool true) ∧ Below w.heap.size w w' := by
  have FF := box hT
  clear hT
  obtain ⟨Ra_0, B0⟩ := opn1 w (Obj.cells #[.int .u64 (x1 : Nat), .int .u64 (y1 : Nat)] 26)
  go_enter Tryd.func3, Tryd.ntmps3
  obtain ⟨ca_0_0, ca_0_1⟩ := cells2s Ra_0
  go_wp2_with fail
  refine (KC.out _ (fatB FF.out B0)).mono ?_
  rintro r w1 ⟨rfl, b1⟩
  have B1 : Below w.heap.size w w1 := btr B0 b1
  have Ra_1 := heap_of b1 _ _ _ Ra_0
  clear b1 B0 Ra_0 ca_0_0 ca_0_1
  obtain ⟨ca_1_0, ca_1_1⟩ := cells2s Ra_1
  go_wp2_with fail
  refine (KA.out _ (fatB FF.out B1)).mono ?_
  rintro r w2 ⟨rfl, b2⟩
  have B2 : Below w.heap.size w w2 := btr B1 b2
  have Ra_2 := heap_of b2 _ _ _ Ra_1
  clear b2 B1 Ra_1 ca_1_0 ca_1_1
  obtain ⟨ca_2_0, ca_2_1⟩ := cells2s Ra_2
  go_wp2
  go_ret
  exact ⟨rfl, B2⟩
set_option maxRecDepth 100000 in
set_option maxHeartbeats 8000000 in
theorem do_nan (f m : Int) (x1 y1 : Nat) (c : Nat) (h8 : decide ((8 : Int) ≤ (c : Int)) = true) (w : World)
    (KC : Box (∀ w, FAt w → Calls Tryd.prog 4 #[.int .u8 f, .agg #[.int .u64 (x1 : Nat), .int .u64 (y1 : Nat)]] w fun r w' => r = .returned (.tuple #[.int .u8 (c : Nat), .int .i64 0]) ∧ Below w.heap.size w w'))
    (KA : Box (∀ w, FAt w → Calls Tryd.prog 6 #[] w fun r w' => r = .returned (.bool true) ∧ Below w.heap.size w w'))
    (hT : FAt w) : Calls Tryd.prog 3 #[.int .u8 f, .int .u8 m, .agg #[.int .u64 (x1 : Nat), .int .u64 (y1 : Nat)]] w fun r w' => r = .returned (.bool true) ∧ Below w.heap.size w w' := by
  have FF := box hT
  clear hT
  obtain ⟨Ra_0, B0⟩ := opn1 w (Obj.cells #[.int .u64 (x1 : Nat), .int .u64 (y1 : Nat)] 26)
  go_enter Tryd.func3, Tryd.ntmps3
  obtain ⟨ca_0_0, ca_0_1⟩ := cells2s Ra_0
  go_wp2_with fail
  refine (KC.out _ (fatB FF.out B0)).mono ?_
  rintro r w1 ⟨rfl, b1⟩
  have B1 : Below w.heap.size w w1 := btr B0 b1
  have Ra_1 := heap_of b1 _ _ _ Ra_0
  clear b1 B0 Ra_0 ca_0_0 ca_0_1
  obtain ⟨ca_1_0, ca_1_1⟩ := cells2s Ra_1
  go_wp2_with fail
  refine (KA.out _ (fatB FF.out B1)).mono ?_
  rintro r w2 ⟨rfl, b2⟩
  have B2 : Below w.heap.size w w2 := btr B1 b2
  have Ra_2 := heap_of b2 _ _ _ Ra_1
  clear b2 B1 Ra_1 ca_1_0 ca_1_1
  obtain ⟨ca_2_0, ca_2_1⟩ := cells2s Ra_2
  go_wp2
  go_ret
  exact ⟨rfl, B2⟩
set_option maxRecDepth 100000 in
set_option maxHeartbeats 8000000 in
theorem do_ninf (f m : Int) (x1 y1 : Nat) (c : Nat) (h8 : decide ((8 : Int) ≤ (c : Int)) = false) (h0 : ((c : Int) == 0) = true) (w : World)
    (KC : Box (∀ w, FAt w → Calls Tryd.prog 4 #[.int .u8 f, .agg #[.int .u64 (x1 : Nat), .int .u64 (y1 : Nat)]] w fun r w' => r = .returned (.tuple #[.int .u8 (c : Nat), .int .i64 0]) ∧ Below w.heap.size w w'))
    (KA : Box (∀ w, FAt w → Calls Tryd.prog 6 #[] w fun r w' => r = .returned (.bool true) ∧ Below w.heap.size w w'))
    (hT : FAt w) : Calls Tryd.prog 3 #[.int .u8 f, .int .u8 m, .agg #[.int .u64 (x1 : Nat), .int .u64 (y1 : Nat)]] w fun r w' => r = .returned (.bool true) ∧ Below w.heap.size w w' := by
  have FF := box hT
  clear hT
  obtain ⟨Ra_0, B0⟩ := opn1 w (Obj.cells #[.int .u64 (x1 : Nat), .int .u64 (y1 : Nat)] 26)
  go_enter Tryd.func3, Tryd.ntmps3
  obtain ⟨ca_0_0, ca_0_1⟩ := cells2s Ra_0
  go_wp2_with fail
  refine (KC.out _ (fatB FF.out B0)).mono ?_
  rintro r w1 ⟨rfl, b1⟩
  have B1 : Below w.heap.size w w1 := btr B0 b1
  have Ra_1 := heap_of b1 _ _ _ Ra_0
  clear b1 B0 Ra_0 ca_0_0 ca_0_1
  obtain ⟨ca_1_0, ca_1_1⟩ := cells2s Ra_1
  go_wp2_with fail
  refine (KA.out _ (fatB FF.out B1)).mono ?_
  rintro r w2 ⟨rfl, b2⟩
  have B2 : Below w.heap.size w w2 := btr B1 b2
  have Ra_2 := heap_of b2 _ _ _ Ra_1
  clear b2 B1 Ra_1 ca_1_0 ca_1_1
  obtain ⟨ca_2_0, ca_2_1⟩ := cells2s Ra_2
  go_wp2
  go_ret
  exact ⟨rfl, B2⟩
set_option maxRecDepth 100000 in
set_option maxHeartbeats 8000000 in
theorem do_pinf (f m : Int) (x1 y1 : Nat) (c : Nat) (h8 : decide ((8 : Int) ≤ (c : Int)) = false) (h0 : ((c : Int) == 0) = false) (h7 : ((c : Int) == 7) = true) (w : World)
    (KC : Box (∀ w, FAt w → Calls Tryd.prog 4 #[.int .u8 f, .agg #[.int .u64 (x1 : Nat), .int .u64 (y1 : Nat)]] w fun r w' => r = .returned (.tuple #[.int .u8 (c : Nat), .int .i64 0]) ∧ Below w.heap.size w w'))
    (KA : Box (∀ w, FAt w → Calls Tryd.prog 6 #[] w fun r w' => r = .returned (.bool true) ∧ Below w.heap.size w w'))
    (hT : FAt w) : Calls Tryd.prog 3 #[.int .u8 f, .int .u8 m, .agg #[.int .u64 (x1 : Nat), .int .u64 (y1 : Nat)]] w fun r w' => r = .returned (.bool true) ∧ Below w.heap.size w w' := by
  have FF := box hT
  clear hT
  obtain ⟨Ra_0, B0⟩ := opn1 w (Obj.cells #[.int .u64 (x1 : Nat), .int .u64 (y1 : Nat)] 26)
  go_enter Tryd.func3, Tryd.ntmps3
  obtain ⟨ca_0_0, ca_0_1⟩ := cells2s Ra_0
  go_wp2_with fail
  refine (KC.out _ (fatB FF.out B0)).mono ?_
  rintro r w1 ⟨rfl, b1⟩
  have B1 : Below w.heap.size w w1 := btr B0 b1
  have Ra_1 := heap_of b1 _ _ _ Ra_0
  clear b1 B0 Ra_0 ca_0_0 ca_0_1
  obtain ⟨ca_1_0, ca_1_1⟩ := cells2s Ra_1
  go_wp2_with fail
  refine (KA.out _ (fatB FF.out B1)).mono ?_
  rintro r w2 ⟨rfl, b2⟩
  have B2 : Below w.heap.size w w2 := btr B1 b2
  have Ra_2 := heap_of b2 _ _ _ Ra_1
  clear b2 B1 Ra_1 ca_1_0 ca_1_1
  obtain ⟨ca_2_0, ca_2_1⟩ := cells2s Ra_2
  go_wp2
  go_ret
  exact ⟨rfl, B2⟩
set_option maxRecDepth 100000 in
set_option maxHeartbeats 8000000 in
theorem do_mode (f m : Int) (x1 y1 : Nat) (c : Nat) (h8 : decide ((8 : Int) ≤ (c : Int)) = false) (h0 : ((c : Int) == 0) = false) (h7 : ((c : Int) == 7) = false) (w : World)
    (KC : Box (∀ w, FAt w → Calls Tryd.prog 4 #[.int .u8 f, .agg #[.int .u64 (x1 : Nat), .int .u64 (y1 : Nat)]] w fun r w' => r = .returned (.tuple #[.int .u8 (c : Nat), .int .i64 0]) ∧ Below w.heap.size w w'))
    (KM : Box (∀ w, Calls Tryd.prog 5 #[.int .u8 m] w fun r w' => r = .returned (.int .i64 2) ∧ Below w.heap.size w w'))
    (KA : Box (∀ w, FAt w → Calls Tryd.prog 6 #[] w fun r w' => r = .returned (.bool true) ∧ Below w.heap.size w w'))
    (hT : FAt w) : Calls Tryd.prog 3 #[.int .u8 f, .int .u8 m, .agg #[.int .u64 (x1 : Nat), .int .u64 (y1 : Nat)]] w fun r w' => r = .returned (.bool true) ∧ Below w.heap.size w w' := by
  have FF := box hT
  clear hT
  obtain ⟨Ra_0, B0⟩ := opn1 w (Obj.cells #[.int .u64 (x1 : Nat), .int .u64 (y1 : Nat)] 26)
  go_enter Tryd.func3, Tryd.ntmps3
  obtain ⟨ca_0_0, ca_0_1⟩ := cells2s Ra_0
  go_wp2_with fail
  refine (KC.out _ (fatB FF.out B0)).mono ?_
  rintro r w1 ⟨rfl, b1⟩
  have B1 : Below w.heap.size w w1 := btr B0 b1
  have Ra_1 := heap_of b1 _ _ _ Ra_0
  clear b1 B0 Ra_0 ca_0_0 ca_0_1
  obtain ⟨ca_1_0, ca_1_1⟩ := cells2s Ra_1
  go_wp2_with fail
  refine (KM.out _).mono ?_
  rintro r w2 ⟨rfl, b2⟩
  have B2 : Below w.heap.size w w2 := btr B1 b2
  have Ra_2 := heap_of b2 _ _ _ Ra_1
  clear b2 B1 Ra_1 ca_1_0 ca_1_1
  obtain ⟨ca_2_0, ca_2_1⟩ := cells2s Ra_2
  go_wp2_with fail
  refine (KA.out _ (fatB FF.out B2)).mono ?_
  rintro r w3 ⟨rfl, b3⟩
  have B3 : Below w.heap.size w w3 := btr B2 b3
  have Ra_3 := heap_of b3 _ _ _ Ra_2
  clear b3 B2 Ra_2 ca_2_0 ca_2_1
  obtain ⟨ca_3_0, ca_3_1⟩ := cells2s Ra_3
  go_wp2
  go_ret
  exact ⟨rfl, B3⟩
set_option maxRecDepth 100000 in
set_option maxHeartbeats 8000000 in
theorem do_z3 (f m : Int) (x1 y1 : Nat) (c : Nat) (p q i j : Nat) (h8 : decide ((8 : Int) ≤ (c : Int)) = false) (h0 : ((c : Int) == 0) = false) (h7 : ((c : Int) == 7) = false) (h3 : ((c : Int) == 3) = true) (w : World)
    (KC : Box (∀ w, FAt w → Calls Tryd.prog 4 #[.int .u8 f, .agg #[.int .u64 (x1 : Nat), .int .u64 (y1 : Nat)]] w fun r w' => r = .returned (.tuple #[.int .u8 (c : Nat), .int .i64 0]) ∧ Below w.heap.size w w'))
    (KM : Box (∀ w, Calls Tryd.prog 5 #[.int .u8 m] w fun r w' => r = .returned (.int .i64 0) ∧ Below w.heap.size w w'))
    (K1 : Box (∀ w, FAt w → Calls Tryd.prog 8 #[.int .u8 f, .bool false] w fun r w' => r = .returned (.agg #[.int .u64 (p : Nat), .int .u64 (q : Nat)]) ∧ Below w.heap.size w w'))
    (K3 : Box (∀ w, FAt w → Calls Tryd.prog 7 #[.int .u8 f, .int .u8 m, .agg #[.int .u64 (x1 : Nat), .int .u64 (y1 : Nat)], .agg #[.int .u64 (p : Nat), .int .u64 (q : Nat)]] w fun r w' => r = .returned (.tuple #[.agg #[.int .u64 (x1 : Nat), .int .u64 (y1 : Nat)], .int .u8 0, .int .i64 0]) ∧ Below w.heap.size w w'))
    (K4 : Box (∀ w, FAt w → Calls Tryd.prog 7 #[.int .u8 f, .int .u8 m, .agg #[.int .u64 (x1 : Nat), .int .u64 (y1 : Nat)], .agg #[.int .u64 (x1 : Nat), .int .u64 (y1 : Nat)]] w fun r w' => r = .returned (.tuple #[.agg #[.int .u64 (i : Nat), .int .u64 (j : Nat)], .int .u8 16, .int .i64 0]) ∧ Below w.heap.size w w'))
    (KN : Box (∀ w, FAt w → Calls Tryd.prog 9 #[.int .u8 f] w fun r w' => r = .returned (.agg #[.int .u64 (i : Nat), .int .u64 (j : Nat)]) ∧ Below w.heap.size w w'))
    (KA : Box (∀ w, FAt w → Calls Tryd.prog 6 #[] w fun r w' => r = .returned (.bool true) ∧ Below w.heap.size w w'))
    (hT : FAt w) : Calls Tryd.prog 3 #[.int .u8 f, .int .u8 m, .agg #[.int .u64 (x1 : Nat), .int .u64 (y1 : Nat)]] w fun r w' => r = .returned (.bool true) ∧ Below w.heap.size w w' := by
  have FF := box hT
  clear hT
  obtain ⟨Ra_0, B0⟩ := opn1 w (Obj.cells #[.int .u64 (x1 : Nat), .int .u64 (y1 : Nat)] 26)
  go_enter Tryd.func3, Tryd.ntmps3
  obtain ⟨ca_0_0, ca_0_1⟩ := cells2s Ra_0
  go_wp2_with fail
  refine (KC.out _ (fatB FF.out B0)).mono ?_
  rintro r w1 ⟨rfl, b1⟩
  have B1 : Below w.heap.size w w1 := btr B0 b1
  have Ra_1 := heap_of b1 _ _ _ Ra_0
  clear b1 B0 Ra_0 ca_0_0 ca_0_1
  obtain ⟨ca_1_0, ca_1_1⟩ := cells2s Ra_1
  go_wp2_with fail
  refine (KM.out _).mono ?_
  rintro r w2 ⟨rfl, b2⟩
  have B2 : Below w.heap.size w w2 := btr B1 b2
  have Ra_2 := heap_of b2 _ _ _ Ra_1
  clear b2 B1 Ra_1 ca_1_0 ca_1_1
  obtain ⟨ca_2_0, ca_2_1⟩ := cells2s Ra_2
  have sS : Box (∀ W W1 : World, (Below w.heap.size w W ∧ W.heap[w.heap.size]? = some (Obj.cells #[.int .u64 (x1 : Nat), .int .u64 (y1 : Nat)] 26) ∧ W.cell? ⟨w.heap.size, 0, none⟩ = some (.int .u64 (x1 : Nat)) ∧ W.cell? ⟨w.heap.size, 1, none⟩ = some (.int .u64 (y1 : Nat))) → Below W.heap.size W W1 → (Below w.heap.size w W1 ∧ W1.heap[w.heap.size]? = some (Obj.cells #[.int .u64 (x1 : Nat), .int .u64 (y1 : Nat)] 26) ∧ W1.cell? ⟨w.heap.size, 0, none⟩ = some (.int .u64 (x1 : Nat)) ∧ W1.cell? ⟨w.heap.size, 1, none⟩ = some (.int .u64 (y1 : Nat)))) := box (fun W W1 h b => ⟨btr h.1 b, heap_of b _ _ _ h.2.1, cell7 (heap_of b _ _ _ h.2.1) 0 _ rfl, cell7 (heap_of b _ _ _ h.2.1) 1 _ rfl⟩)
  have sL : Box (∀ W : World, (Below w.heap.size w W ∧ W.heap[w.heap.size]? = some (Obj.cells #[.int .u64 (x1 : Nat), .int .u64 (y1 : Nat)] 26) ∧ W.cell? ⟨w.heap.size, 0, none⟩ = some (.int .u64 (x1 : Nat)) ∧ W.cell? ⟨w.heap.size, 1, none⟩ = some (.int .u64 (y1 : Nat))) → (w.heap.size < W.heap.size)) := box (fun W h => (Array.getElem?_eq_some_iff.1 h.2.1).1)
  have sT : Box (∀ (W : World) (gN : Nat) (xA xB : Value), (Below w.heap.size w W ∧ W.heap[w.heap.size]? = some (Obj.cells #[.int .u64 (x1 : Nat), .int .u64 (y1 : Nat)] 26) ∧ W.cell? ⟨w.heap.size, 0, none⟩ = some (.int .u64 (x1 : Nat)) ∧ W.cell? ⟨w.heap.size, 1, none⟩ = some (.int .u64 (y1 : Nat))) → (w.heap.size < gN) → (Below w.heap.size w ((W.setCell ⟨gN, 0, none⟩ xA).setCell ⟨gN, 1, none⟩ xB) ∧ ((W.setCell ⟨gN, 0, none⟩ xA).setCell ⟨gN, 1, none⟩ xB).heap[w.heap.size]? = some (Obj.cells #[.int .u64 (x1 : Nat), .int .u64 (y1 : Nat)] 26) ∧ ((W.setCell ⟨gN, 0, none⟩ xA).setCell ⟨gN, 1, none⟩ xB).cell? ⟨w.heap.size, 0, none⟩ = some (.int .u64 (x1 : Nat)) ∧ ((W.setCell ⟨gN, 0, none⟩ xA).setCell ⟨gN, 1, none⟩ xB).cell? ⟨w.heap.size, 1, none⟩ = some (.int .u64 (y1 : Nat)))) := box (fun W gN xA xB h l => ⟨set2_below h.1 (show w.heap.size ≤ gN by have := l; omega) _ _, (setCell_other (by have := l; omega)).trans ((setCell_other (by have := l; omega)).trans h.2.1), cell7 ((setCell_other (by have := l; omega)).trans ((setCell_other (by have := l; omega)).trans h.2.1)) 0 _ rfl, cell7 ((setCell_other (by have := l; omega)).trans ((setCell_other (by have := l; omega)).trans h.2.1)) 1 _ rfl⟩)
  have s0 : Below w.heap.size w (w2).drew ∧ (w2).drew.heap[w.heap.size]? = some (Obj.cells #[.int .u64 (x1 : Nat), .int .u64 (y1 : Nat)] 26) ∧ (w2).drew.cell? ⟨w.heap.size, 0, none⟩ = some (.int .u64 (x1 : Nat)) ∧ (w2).drew.cell? ⟨w.heap.size, 1, none⟩ = some (.int .u64 (y1 : Nat)) := ⟨B2.drew, Ra_2, cell7 (Ra_2) 0 _ rfl, cell7 (Ra_2) 1 _ rfl⟩
  clear B2 Ra_2 ca_2_0 ca_2_1
  go_wp2_with fail
  apply cut7
  · intro key0
    have key := box key0
    clear key0
    go_region_held3 (fun W => Below w.heap.size w W ∧ W.heap[w.heap.size]? = some (Obj.cells #[.int .u64 (x1 : Nat), .int .u64 (y1 : Nat)] 26) ∧ W.cell? ⟨w.heap.size, 0, none⟩ = some (.int .u64 (x1 : Nat)) ∧ W.cell? ⟨w.heap.size, 1, none⟩ = some (.int .u64 (y1 : Nat))) (first | exact s1 | exact s0 | exact sS.out _ _ s1 (bal _ _) | exact sS.out _ _ s0 (bal _ _) | exact sT.out _ _ _ _ s1 hl)
      (first | (go_at_call 8; (first | refine (K1.out _ (by first | exact fatB FF.out (And.left s1) | exact fat_al (fatB FF.out (And.left s1)) _)).mono ?_ | refine (K1.out _ (by first | exact fatB FF.out (And.left s0) | exact fat_al (fatB FF.out (And.left s0)) _)).mono ?_); rintro r wq ⟨rfl, bq⟩; (first | (have hg := heap_of bq _ _ _ (heap_alloc_last _ _); have hl := (by first | exact sL.out _ s1 | exact sL.out _ s0)) | have hg := heap_of bq _ _ _ hg | skip); (try simp only [size_dr, size_al] at hg hl); (first | (have hq0 := fz (k := 0) hg; have hq1 := fz (k := 1) hg; have hc0 := cell7 hg 0 _ rfl; have hc1 := cell7 hg 1 _ rfl) | skip); have s2 := (by first | exact sS.out _ _ s1 bq | exact sS.out _ _ s0 bq | exact sS.out _ _ (sS.out _ _ s1 (bal _ _)) bq | exact sS.out _ _ (sS.out _ _ s0 (bal _ _)) bq); (try clear s1); have s1 := s2; clear s2 bq) | (go_at_call 7; (first | refine (K3.out _ (by first | exact fatB FF.out (And.left s1) | exact fat_al (fatB FF.out (And.left s1)) _)).mono ?_ | refine (K3.out _ (by first | exact fatB FF.out (And.left s0) | exact fat_al (fatB FF.out (And.left s0)) _)).mono ?_); rintro r wq ⟨rfl, bq⟩; (first | (have hg := heap_of bq _ _ _ (heap_alloc_last _ _); have hl := (by first | exact sL.out _ s1 | exact sL.out _ s0)) | have hg := heap_of bq _ _ _ hg | skip); (try simp only [size_dr, size_al] at hg hl); (first | (have hq0 := fz (k := 0) hg; have hq1 := fz (k := 1) hg; have hc0 := cell7 hg 0 _ rfl; have hc1 := cell7 hg 1 _ rfl) | skip); have s2 := (by first | exact sS.out _ _ s1 bq | exact sS.out _ _ s0 bq | exact sS.out _ _ (sS.out _ _ s1 (bal _ _)) bq | exact sS.out _ _ (sS.out _ _ s0 (bal _ _)) bq); (try clear s1); have s1 := s2; clear s2 bq) | fail)
    all_goals
      refine gen_abacuslaw13_DivOne_9 (R := fun W gN => (Below w.heap.size w W ∧ W.heap[w.heap.size]? = some (Obj.cells #[.int .u64 (x1 : Nat), .int .u64 (y1 : Nat)] 26) ∧ W.cell? ⟨w.heap.size, 0, none⟩ = some (.int .u64 (x1 : Nat)) ∧ W.cell? ⟨w.heap.size, 1, none⟩ = some (.int .u64 (y1 : Nat))) ∧ W.heap[gN]? = some (Obj.cells #[.int .u64 (x1 : Nat), .int .u64 (y1 : Nat)] 26) ∧ (w.heap.size < gN)) key.out ?_
      first
        | exact ⟨(sT.out _ _ _ _ s1 hl), set2_row hg _ _, hl⟩
        | exact ⟨sS.out _ _ s1 (bal _ _), heap_alloc_last _ _, sL.out _ s1⟩
        | exact ⟨sS.out _ _ s0 (bal _ _), heap_alloc_last _ _, sL.out _ s0⟩
  rintro w3 g3 ⟨s1, Re_3, l3⟩
  have B3 := And.left s1
  have Ra_3 := s1.2.1
  have H3 := box l3
  clear s0 s1 sS sL sT l3
  obtain ⟨ca_3_0, ca_3_1⟩ := cells2s Ra_3
  obtain ⟨ce_3_0, ce_3_1⟩ := cells2s Re_3
  go_wp2_with fail
  refine (K4.out _ (fatB FF.out B3)).mono ?_
  rintro r w4 ⟨rfl, b4⟩
  have B4 : Below w.heap.size w w4 := btr B3 b4
  have Ra_4 := heap_of b4 _ _ _ Ra_3
  have Re_4 := heap_of b4 _ _ _ Re_3
  clear b4 B3 Ra_3 ca_3_0 ca_3_1 Re_3 ce_3_0 ce_3_1
  obtain ⟨ca_4_0, ca_4_1⟩ := cells2s Ra_4
  obtain ⟨ce_4_0, ce_4_1⟩ := cells2s Re_4
  have S5 := box B4.size
  have La_5 : Box (w.heap.size < w4.heap.size) := box (Array.getElem?_eq_some_iff.1 Ra_4).1
  have Le_5 : Box (g3 < w4.heap.size) := box (Array.getElem?_eq_some_iff.1 Re_4).1
  have Ry_5 := heap_alloc_last w4 (Obj.cells #[.int .u64 (i : Nat), .int .u64 (j : Nat)] 26)
  have B5 := btr B4 (bal w4 (Obj.cells #[.int .u64 (i : Nat), .int .u64 (j : Nat)] 26))
  have Ra_5 := heap_of (bal w4 (Obj.cells #[.int .u64 (i : Nat), .int .u64 (j : Nat)] 26)) _ _ _ Ra_4
  have Re_5 := heap_of (bal w4 (Obj.cells #[.int .u64 (i : Nat), .int .u64 (j : Nat)] 26)) _ _ _ Re_4
  clear B4 Ra_4 ca_4_0 ca_4_1 Re_4 ce_4_0 ce_4_1
  obtain ⟨ca_5_0, ca_5_1⟩ := cells2s Ra_5
  obtain ⟨ce_5_0, ce_5_1⟩ := cells2s Re_5
  obtain ⟨cy_5_0, cy_5_1⟩ := cells2s Ry_5
  have sS : Box (∀ W W1 : World, (Below w.heap.size w W ∧ W.heap[w.heap.size]? = some (Obj.cells #[.int .u64 (x1 : Nat), .int .u64 (y1 : Nat)] 26) ∧ W.heap[g3]? = some (Obj.cells #[.int .u64 (x1 : Nat), .int .u64 (y1 : Nat)] 26) ∧ W.heap[w4.heap.size]? = some (Obj.cells #[.int .u64 (i : Nat), .int .u64 (j : Nat)] 26) ∧ W.cell? ⟨w.heap.size, 0, none⟩ = some (.int .u64 (x1 : Nat)) ∧ W.cell? ⟨w.heap.size, 1, none⟩ = some (.int .u64 (y1 : Nat)) ∧ W.cell? ⟨g3, 0, none⟩ = some (.int .u64 (x1 : Nat)) ∧ W.cell? ⟨g3, 1, none⟩ = some (.int .u64 (y1 : Nat)) ∧ W.cell? ⟨w4.heap.size, 0, none⟩ = some (.int .u64 (i : Nat)) ∧ W.cell? ⟨w4.heap.size, 1, none⟩ = some (.int .u64 (j : Nat))) → Below W.heap.size W W1 → (Below w.heap.size w W1 ∧ W1.heap[w.heap.size]? = some (Obj.cells #[.int .u64 (x1 : Nat), .int .u64 (y1 : Nat)] 26) ∧ W1.heap[g3]? = some (Obj.cells #[.int .u64 (x1 : Nat), .int .u64 (y1 : Nat)] 26) ∧ W1.heap[w4.heap.size]? = some (Obj.cells #[.int .u64 (i : Nat), .int .u64 (j : Nat)] 26) ∧ W1.cell? ⟨w.heap.size, 0, none⟩ = some (.int .u64 (x1 : Nat)) ∧ W1.cell? ⟨w.heap.size, 1, none⟩ = some (.int .u64 (y1 : Nat)) ∧ W1.cell? ⟨g3, 0, none⟩ = some (.int .u64 (x1 : Nat)) ∧ W1.cell? ⟨g3, 1, none⟩ = some (.int .u64 (y1 : Nat)) ∧ W1.cell? ⟨w4.heap.size, 0, none⟩ = some (.int .u64 (i : Nat)) ∧ W1.cell? ⟨w4.heap.size, 1, none⟩ = some (.int .u64 (j : Nat)))) := box (fun W W1 h b => ⟨btr h.1 b, heap_of b _ _ _ h.2.1, heap_of b _ _ _ h.2.2.1, heap_of b _ _ _ h.2.2.2.1, cell7 (heap_of b _ _ _ h.2.1) 0 _ rfl, cell7 (heap_of b _ _ _ h.2.1) 1 _ rfl, cell7 (heap_of b _ _ _ h.2.2.1) 0 _ rfl, cell7 (heap_of b _ _ _ h.2.2.1) 1 _ rfl, cell7 (heap_of b _ _ _ h.2.2.2.1) 0 _ rfl, cell7 (heap_of b _ _ _ h.2.2.2.1) 1 _ rfl⟩)
  have s0 : Below w.heap.size w ((w4.alloc (Obj.cells #[.int .u64 (i : Nat), .int .u64 (j : Nat)] 26))).drew ∧ ((w4.alloc (Obj.cells #[.int .u64 (i : Nat), .int .u64 (j : Nat)] 26))).drew.heap[w.heap.size]? = some (Obj.cells #[.int .u64 (x1 : Nat), .int .u64 (y1 : Nat)] 26) ∧ ((w4.alloc (Obj.cells #[.int .u64 (i : Nat), .int .u64 (j : Nat)] 26))).drew.heap[g3]? = some (Obj.cells #[.int .u64 (x1 : Nat), .int .u64 (y1 : Nat)] 26) ∧ ((w4.alloc (Obj.cells #[.int .u64 (i : Nat), .int .u64 (j : Nat)] 26))).drew.heap[w4.heap.size]? = some (Obj.cells #[.int .u64 (i : Nat), .int .u64 (j : Nat)] 26) ∧ ((w4.alloc (Obj.cells #[.int .u64 (i : Nat), .int .u64 (j : Nat)] 26))).drew.cell? ⟨w.heap.size, 0, none⟩ = some (.int .u64 (x1 : Nat)) ∧ ((w4.alloc (Obj.cells #[.int .u64 (i : Nat), .int .u64 (j : Nat)] 26))).drew.cell? ⟨w.heap.size, 1, none⟩ = some (.int .u64 (y1 : Nat)) ∧ ((w4.alloc (Obj.cells #[.int .u64 (i : Nat), .int .u64 (j : Nat)] 26))).drew.cell? ⟨g3, 0, none⟩ = some (.int .u64 (x1 : Nat)) ∧ ((w4.alloc (Obj.cells #[.int .u64 (i : Nat), .int .u64 (j : Nat)] 26))).drew.cell? ⟨g3, 1, none⟩ = some (.int .u64 (y1 : Nat)) ∧ ((w4.alloc (Obj.cells #[.int .u64 (i : Nat), .int .u64 (j : Nat)] 26))).drew.cell? ⟨w4.heap.size, 0, none⟩ = some (.int .u64 (i : Nat)) ∧ ((w4.alloc (Obj.cells #[.int .u64 (i : Nat), .int .u64 (j : Nat)] 26))).drew.cell? ⟨w4.heap.size, 1, none⟩ = some (.int .u64 (j : Nat)) := ⟨B5.drew, Ra_5, Re_5, Ry_5, cell7 (Ra_5) 0 _ rfl, cell7 (Ra_5) 1 _ rfl, cell7 (Re_5) 0 _ rfl, cell7 (Re_5) 1 _ rfl, cell7 (Ry_5) 0 _ rfl, cell7 (Ry_5) 1 _ rfl⟩
  go_wp2_with fail
  go_region_held3 (fun W => Below w.heap.size w W ∧ W.heap[w.heap.size]? = some (Obj.cells #[.int .u64 (x1 : Nat), .int .u64 (y1 : Nat)] 26) ∧ W.heap[g3]? = some (Obj.cells #[.int .u64 (x1 : Nat), .int .u64 (y1 : Nat)] 26) ∧ W.heap[w4.heap.size]? = some (Obj.cells #[.int .u64 (i : Nat), .int .u64 (j : Nat)] 26) ∧ W.cell? ⟨w.heap.size, 0, none⟩ = some (.int .u64 (x1 : Nat)) ∧ W.cell? ⟨w.heap.size, 1, none⟩ = some (.int .u64 (y1 : Nat)) ∧ W.cell? ⟨g3, 0, none⟩ = some (.int .u64 (x1 : Nat)) ∧ W.cell? ⟨g3, 1, none⟩ = some (.int .u64 (y1 : Nat)) ∧ W.cell? ⟨w4.heap.size, 0, none⟩ = some (.int .u64 (i : Nat)) ∧ W.cell? ⟨w4.heap.size, 1, none⟩ = some (.int .u64 (j : Nat))) (first | exact s1 | exact s0)
    (first | (go_at_call 9; (first | refine (KN.out _ (fatB FF.out (And.left s1))).mono ?_ | refine (KN.out _ (fatB FF.out (And.left s0))).mono ?_); rintro r wq ⟨rfl, bq⟩; have s1 := (by first | exact sS.out _ _ s1 bq | exact sS.out _ _ s0 bq); clear bq) | (go_at_call 6; (first | refine (KA.out _ (fatB FF.out (And.left s1))).mono ?_ | refine (KA.out _ (fatB FF.out (And.left s0))).mono ?_); rintro r wq ⟨rfl, bq⟩; have s1 := (by first | exact sS.out _ _ s1 bq | exact sS.out _ _ s0 bq); clear bq) | fail)
  have B6 := (And.left s1)
  have Ra_6 := s1.2.1
  have Re_6 := s1.2.2.1
  have Ry_6 := s1.2.2.2.1
  clear s0 s1 sS B5 Ra_5 ca_5_0 ca_5_1 Re_5 ce_5_0 ce_5_1 Ry_5 cy_5_0 cy_5_1
  obtain ⟨ca_6_0, ca_6_1⟩ := cells2s Ra_6
  obtain ⟨ce_6_0, ce_6_1⟩ := cells2s Re_6
  obtain ⟨cy_6_0, cy_6_1⟩ := cells2s Ry_6
  go_wp2
  go_ret
  exact ⟨rfl, B6⟩
set_option maxRecDepth 100000 in
set_option maxHeartbeats 8000000 in
theorem do_z4 (f m : Int) (x1 y1 : Nat) (c : Nat) (p q i j : Nat) (h8 : decide ((8 : Int) ≤ (c : Int)) = false) (h0 : ((c : Int) == 0) = false) (h7 : ((c : Int) == 7) = false) (h3 : ((c : Int) == 3) = false) (h4 : ((c : Int) == 4) = true) (w : World)
    (KC : Box (∀ w, FAt w → Calls Tryd.prog 4 #[.int .u8 f, .agg #[.int .u64 (x1 : Nat), .int .u64 (y1 : Nat)]] w fun r w' => r = .returned (.tuple #[.int .u8 (c : Nat), .int .i64 0]) ∧ Below w.heap.size w w'))
    (KM : Box (∀ w, Calls Tryd.prog 5 #[.int .u8 m] w fun r w' => r = .returned (.int .i64 0) ∧ Below w.heap.size w w'))
    (K1 : Box (∀ w, FAt w → Calls Tryd.prog 8 #[.int .u8 f, .bool false] w fun r w' => r = .returned (.agg #[.int .u64 (p : Nat), .int .u64 (q : Nat)]) ∧ Below w.heap.size w w'))
    (K3 : Box (∀ w, FAt w → Calls Tryd.prog 7 #[.int .u8 f, .int .u8 m, .agg #[.int .u64 (x1 : Nat), .int .u64 (y1 : Nat)], .agg #[.int .u64 (p : Nat), .int .u64 (q : Nat)]] w fun r w' => r = .returned (.tuple #[.agg #[.int .u64 (x1 : Nat), .int .u64 (y1 : Nat)], .int .u8 0, .int .i64 0]) ∧ Below w.heap.size w w'))
    (K4 : Box (∀ w, FAt w → Calls Tryd.prog 7 #[.int .u8 f, .int .u8 m, .agg #[.int .u64 (x1 : Nat), .int .u64 (y1 : Nat)], .agg #[.int .u64 (x1 : Nat), .int .u64 (y1 : Nat)]] w fun r w' => r = .returned (.tuple #[.agg #[.int .u64 (i : Nat), .int .u64 (j : Nat)], .int .u8 16, .int .i64 0]) ∧ Below w.heap.size w w'))
    (KN : Box (∀ w, FAt w → Calls Tryd.prog 9 #[.int .u8 f] w fun r w' => r = .returned (.agg #[.int .u64 (i : Nat), .int .u64 (j : Nat)]) ∧ Below w.heap.size w w'))
    (KA : Box (∀ w, FAt w → Calls Tryd.prog 6 #[] w fun r w' => r = .returned (.bool true) ∧ Below w.heap.size w w'))
    (hT : FAt w) : Calls Tryd.prog 3 #[.int .u8 f, .int .u8 m, .agg #[.int .u64 (x1 : Nat), .int .u64 (y1 : Nat)]] w fun r w' => r = .returned (.bool true) ∧ Below w.heap.size w w' := by
  have FF := box hT
  clear hT
  obtain ⟨Ra_0, B0⟩ := opn1 w (Obj.cells #[.int .u64 (x1 : Nat), .int .u64 (y1 : Nat)] 26)
  go_enter Tryd.func3, Tryd.ntmps3
  obtain ⟨ca_0_0, ca_0_1⟩ := cells2s Ra_0
  go_wp2_with fail
  refine (KC.out _ (fatB FF.out B0)).mono ?_
  rintro r w1 ⟨rfl, b1⟩
  have B1 : Below w.heap.size w w1 := btr B0 b1
  have Ra_1 := heap_of b1 _ _ _ Ra_0
  clear b1 B0 Ra_0 ca_0_0 ca_0_1
  obtain ⟨ca_1_0, ca_1_1⟩ := cells2s Ra_1
  go_wp2_with fail
  refine (KM.out _).mono ?_
  rintro r w2 ⟨rfl, b2⟩
  have B2 : Below w.heap.size w w2 := btr B1 b2
  have Ra_2 := heap_of b2 _ _ _ Ra_1
  clear b2 B1 Ra_1 ca_1_0 ca_1_1
  obtain ⟨ca_2_0, ca_2_1⟩ := cells2s Ra_2
  have sS : Box (∀ W W1 : World, (Below w.heap.size w W ∧ W.heap[w.heap.size]? = some (Obj.cells #[.int .u64 (x1 : Nat), .int .u64 (y1 : Nat)] 26) ∧ W.cell? ⟨w.heap.size, 0, none⟩ = some (.int .u64 (x1 : Nat)) ∧ W.cell? ⟨w.heap.size, 1, none⟩ = some (.int .u64 (y1 : Nat))) → Below W.heap.size W W1 → (Below w.heap.size w W1 ∧ W1.heap[w.heap.size]? = some (Obj.cells #[.int .u64 (x1 : Nat), .int .u64 (y1 : Nat)] 26) ∧ W1.cell? ⟨w.heap.size, 0, none⟩ = some (.int .u64 (x1 : Nat)) ∧ W1.cell? ⟨w.heap.size, 1, none⟩ = some (.int .u64 (y1 : Nat)))) := box (fun W W1 h b => ⟨btr h.1 b, heap_of b _ _ _ h.2.1, cell7 (heap_of b _ _ _ h.2.1) 0 _ rfl, cell7 (heap_of b _ _ _ h.2.1) 1 _ rfl⟩)
  have sL : Box (∀ W : World, (Below w.heap.size w W ∧ W.heap[w.heap.size]? = some (Obj.cells #[.int .u64 (x1 : Nat), .int .u64 (y1 : Nat)] 26) ∧ W.cell? ⟨w.heap.size, 0, none⟩ = some (.int .u64 (x1 : Nat)) ∧ W.cell? ⟨w.heap.size, 1, none⟩ = some (.int .u64 (y1 : Nat))) → (w.heap.size < W.heap.size)) := box (fun W h => (Array.getElem?_eq_some_iff.1 h.2.1).1)
  have sT : Box (∀ (W : World) (gN : Nat) (xA xB : Value), (Below w.heap.size w W ∧ W.heap[w.heap.size]? = some (Obj.cells #[.int .u64 (x1 : Nat), .int .u64 (y1 : Nat)] 26) ∧ W.cell? ⟨w.heap.size, 0, none⟩ = some (.int .u64 (x1 : Nat)) ∧ W.cell? ⟨w.heap.size, 1, none⟩ = some (.int .u64 (y1 : Nat))) → (w.heap.size < gN) → (Below w.heap.size w ((W.setCell ⟨gN, 0, none⟩ xA).setCell ⟨gN, 1, none⟩ xB) ∧ ((W.setCell ⟨gN, 0, none⟩ xA).setCell ⟨gN, 1, none⟩ xB).heap[w.heap.size]? = some (Obj.cells #[.int .u64 (x1 : Nat), .int .u64 (y1 : Nat)] 26) ∧ ((W.setCell ⟨gN, 0, none⟩ xA).setCell ⟨gN, 1, none⟩ xB).cell? ⟨w.heap.size, 0, none⟩ = some (.int .u64 (x1 : Nat)) ∧ ((W.setCell ⟨gN, 0, none⟩ xA).setCell ⟨gN, 1, none⟩ xB).cell? ⟨w.heap.size, 1, none⟩ = some (.int .u64 (y1 : Nat)))) := box (fun W gN xA xB h l => ⟨set2_below h.1 (show w.heap.size ≤ gN by have := l; omega) _ _, (setCell_other (by have := l; omega)).trans ((setCell_other (by have := l; omega)).trans h.2.1), cell7 ((setCell_other (by have := l; omega)).trans ((setCell_other (by have := l; omega)).trans h.2.1)) 0 _ rfl, cell7 ((setCell_other (by have := l; omega)).trans ((setCell_other (by have := l; omega)).trans h.2.1)) 1 _ rfl⟩)
  have s0 : Below w.heap.size w (w2).drew ∧ (w2).drew.heap[w.heap.size]? = some (Obj.cells #[.int .u64 (x1 : Nat), .int .u64 (y1 : Nat)] 26) ∧ (w2).drew.cell? ⟨w.heap.size, 0, none⟩ = some (.int .u64 (x1 : Nat)) ∧ (w2).drew.cell? ⟨w.heap.size, 1, none⟩ = some (.int .u64 (y1 : Nat)) := ⟨B2.drew, Ra_2, cell7 (Ra_2) 0 _ rfl, cell7 (Ra_2) 1 _ rfl⟩
  clear B2 Ra_2 ca_2_0 ca_2_1
  go_wp2_with fail
  apply cut7
  · intro key0
    have key := box key0
    clear key0
    go_region_held3 (fun W => Below w.heap.size w W ∧ W.heap[w.heap.size]? = some (Obj.cells #[.int .u64 (x1 : Nat), .int .u64 (y1 : Nat)] 26) ∧ W.cell? ⟨w.heap.size, 0, none⟩ = some (.int .u64 (x1 : Nat)) ∧ W.cell? ⟨w.heap.size, 1, none⟩ = some (.int .u64 (y1 : Nat))) (first | exact s1 | exact s0 | exact sS.out _ _ s1 (bal _ _) | exact sS.out _ _ s0 (bal _ _) | exact sT.out _ _ _ _ s1 hl)
      (first | (go_at_call 8; (first | refine (K1.out _ (by first | exact fatB FF.out (And.left s1) | exact fat_al (fatB FF.out (And.left s1)) _)).mono ?_ | refine (K1.out _ (by first | exact fatB FF.out (And.left s0) | exact fat_al (fatB FF.out (And.left s0)) _)).mono ?_); rintro r wq ⟨rfl, bq⟩; (first | (have hg := heap_of bq _ _ _ (heap_alloc_last _ _); have hl := (by first | exact sL.out _ s1 | exact sL.out _ s0)) | have hg := heap_of bq _ _ _ hg | skip); (try simp only [size_dr, size_al] at hg hl); (first | (have hq0 := fz (k := 0) hg; have hq1 := fz (k := 1) hg; have hc0 := cell7 hg 0 _ rfl; have hc1 := cell7 hg 1 _ rfl) | skip); have s2 := (by first | exact sS.out _ _ s1 bq | exact sS.out _ _ s0 bq | exact sS.out _ _ (sS.out _ _ s1 (bal _ _)) bq | exact sS.out _ _ (sS.out _ _ s0 (bal _ _)) bq); (try clear s1); have s1 := s2; clear s2 bq) | (go_at_call 7; (first | refine (K3.out _ (by first | exact fatB FF.out (And.left s1) | exact fat_al (fatB FF.out (And.left s1)) _)).mono ?_ | refine (K3.out _ (by first | exact fatB FF.out (And.left s0) | exact fat_al (fatB FF.out (And.left s0)) _)).mono ?_); rintro r wq ⟨rfl, bq⟩; (first | (have hg := heap_of bq _ _ _ (heap_alloc_last _ _); have hl := (by first | exact sL.out _ s1 | exact sL.out _ s0)) | have hg := heap_of bq _ _ _ hg | skip); (try simp only [size_dr, size_al] at hg hl); (first | (have hq0 := fz (k := 0) hg; have hq1 := fz (k := 1) hg; have hc0 := cell7 hg 0 _ rfl; have hc1 := cell7 hg 1 _ rfl) | skip); have s2 := (by first | exact sS.out _ _ s1 bq | exact sS.out _ _ s0 bq | exact sS.out _ _ (sS.out _ _ s1 (bal _ _)) bq | exact sS.out _ _ (sS.out _ _ s0 (bal _ _)) bq); (try clear s1); have s1 := s2; clear s2 bq) | fail)
    all_goals
      refine gen_abacuslaw13_DivOne_9 (R := fun W gN => (Below w.heap.size w W ∧ W.heap[w.heap.size]? = some (Obj.cells #[.int .u64 (x1 : Nat), .int .u64 (y1 : Nat)] 26) ∧ W.cell? ⟨w.heap.size, 0, none⟩ = some (.int .u64 (x1 : Nat)) ∧ W.cell? ⟨w.heap.size, 1, none⟩ = some (.int .u64 (y1 : Nat))) ∧ W.heap[gN]? = some (Obj.cells #[.int .u64 (x1 : Nat), .int .u64 (y1 : Nat)] 26) ∧ (w.heap.size < gN)) key.out ?_
      first
        | exact ⟨(sT.out _ _ _ _ s1 hl), set2_row hg _ _, hl⟩
        | exact ⟨sS.out _ _ s1 (bal _ _), heap_alloc_last _ _, sL.out _ s1⟩
        | exact ⟨sS.out _ _ s0 (bal _ _), heap_alloc_last _ _, sL.out _ s0⟩
  rintro w3 g3 ⟨s1, Re_3, l3⟩
  have B3 := And.left s1
  have Ra_3 := s1.2.1
  have H3 := box l3
  clear s0 s1 sS sL sT l3
  obtain ⟨ca_3_0, ca_3_1⟩ := cells2s Ra_3
  obtain ⟨ce_3_0, ce_3_1⟩ := cells2s Re_3
  go_wp2_with fail
  refine (K4.out _ (fatB FF.out B3)).mono ?_
  rintro r w4 ⟨rfl, b4⟩
  have B4 : Below w.heap.size w w4 := btr B3 b4
  have Ra_4 := heap_of b4 _ _ _ Ra_3
  have Re_4 := heap_of b4 _ _ _ Re_3
  clear b4 B3 Ra_3 ca_3_0 ca_3_1 Re_3 ce_3_0 ce_3_1
  obtain ⟨ca_4_0, ca_4_1⟩ := cells2s Ra_4
  obtain ⟨ce_4_0, ce_4_1⟩ := cells2s Re_4
  have S5 := box B4.size
  have La_5 : Box (w.heap.size < w4.heap.size) := box (Array.getElem?_eq_some_iff.1 Ra_4).1
  have Le_5 : Box (g3 < w4.heap.size) := box (Array.getElem?_eq_some_iff.1 Re_4).1
  have Ry_5 := heap_alloc_last w4 (Obj.cells #[.int .u64 (i : Nat), .int .u64 (j : Nat)] 26)
  have B5 := btr B4 (bal w4 (Obj.cells #[.int .u64 (i : Nat), .int .u64 (j : Nat)] 26))
  have Ra_5 := heap_of (bal w4 (Obj.cells #[.int .u64 (i : Nat), .int .u64 (j : Nat)] 26)) _ _ _ Ra_4
  have Re_5 := heap_of (bal w4 (Obj.cells #[.int .u64 (i : Nat), .int .u64 (j : Nat)] 26)) _ _ _ Re_4
  clear B4 Ra_4 ca_4_0 ca_4_1 Re_4 ce_4_0 ce_4_1
  obtain ⟨ca_5_0, ca_5_1⟩ := cells2s Ra_5
  obtain ⟨ce_5_0, ce_5_1⟩ := cells2s Re_5
  obtain ⟨cy_5_0, cy_5_1⟩ := cells2s Ry_5
  have sS : Box (∀ W W1 : World, (Below w.heap.size w W ∧ W.heap[w.heap.size]? = some (Obj.cells #[.int .u64 (x1 : Nat), .int .u64 (y1 : Nat)] 26) ∧ W.heap[g3]? = some (Obj.cells #[.int .u64 (x1 : Nat), .int .u64 (y1 : Nat)] 26) ∧ W.heap[w4.heap.size]? = some (Obj.cells #[.int .u64 (i : Nat), .int .u64 (j : Nat)] 26) ∧ W.cell? ⟨w.heap.size, 0, none⟩ = some (.int .u64 (x1 : Nat)) ∧ W.cell? ⟨w.heap.size, 1, none⟩ = some (.int .u64 (y1 : Nat)) ∧ W.cell? ⟨g3, 0, none⟩ = some (.int .u64 (x1 : Nat)) ∧ W.cell? ⟨g3, 1, none⟩ = some (.int .u64 (y1 : Nat)) ∧ W.cell? ⟨w4.heap.size, 0, none⟩ = some (.int .u64 (i : Nat)) ∧ W.cell? ⟨w4.heap.size, 1, none⟩ = some (.int .u64 (j : Nat))) → Below W.heap.size W W1 → (Below w.heap.size w W1 ∧ W1.heap[w.heap.size]? = some (Obj.cells #[.int .u64 (x1 : Nat), .int .u64 (y1 : Nat)] 26) ∧ W1.heap[g3]? = some (Obj.cells #[.int .u64 (x1 : Nat), .int .u64 (y1 : Nat)] 26) ∧ W1.heap[w4.heap.size]? = some (Obj.cells #[.int .u64 (i : Nat), .int .u64 (j : Nat)] 26) ∧ W1.cell? ⟨w.heap.size, 0, none⟩ = some (.int .u64 (x1 : Nat)) ∧ W1.cell? ⟨w.heap.size, 1, none⟩ = some (.int .u64 (y1 : Nat)) ∧ W1.cell? ⟨g3, 0, none⟩ = some (.int .u64 (x1 : Nat)) ∧ W1.cell? ⟨g3, 1, none⟩ = some (.int .u64 (y1 : Nat)) ∧ W1.cell? ⟨w4.heap.size, 0, none⟩ = some (.int .u64 (i : Nat)) ∧ W1.cell? ⟨w4.heap.size, 1, none⟩ = some (.int .u64 (j : Nat)))) := box (fun W W1 h b => ⟨btr h.1 b, heap_of b _ _ _ h.2.1, heap_of b _ _ _ h.2.2.1, heap_of b _ _ _ h.2.2.2.1, cell7 (heap_of b _ _ _ h.2.1) 0 _ rfl, cell7 (heap_of b _ _ _ h.2.1) 1 _ rfl, cell7 (heap_of b _ _ _ h.2.2.1) 0 _ rfl, cell7 (heap_of b _ _ _ h.2.2.1) 1 _ rfl, cell7 (heap_of b _ _ _ h.2.2.2.1) 0 _ rfl, cell7 (heap_of b _ _ _ h.2.2.2.1) 1 _ rfl⟩)
  have s0 : Below w.heap.size w ((w4.alloc (Obj.cells #[.int .u64 (i : Nat), .int .u64 (j : Nat)] 26))).drew ∧ ((w4.alloc (Obj.cells #[.int .u64 (i : Nat), .int .u64 (j : Nat)] 26))).drew.heap[w.heap.size]? = some (Obj.cells #[.int .u64 (x1 : Nat), .int .u64 (y1 : Nat)] 26) ∧ ((w4.alloc (Obj.cells #[.int .u64 (i : Nat), .int .u64 (j : Nat)] 26))).drew.heap[g3]? = some (Obj.cells #[.int .u64 (x1 : Nat), .int .u64 (y1 : Nat)] 26) ∧ ((w4.alloc (Obj.cells #[.int .u64 (i : Nat), .int .u64 (j : Nat)] 26))).drew.heap[w4.heap.size]? = some (Obj.cells #[.int .u64 (i : Nat), .int .u64 (j : Nat)] 26) ∧ ((w4.alloc (Obj.cells #[.int .u64 (i : Nat), .int .u64 (j : Nat)] 26))).drew.cell? ⟨w.heap.size, 0, none⟩ = some (.int .u64 (x1 : Nat)) ∧ ((w4.alloc (Obj.cells #[.int .u64 (i : Nat), .int .u64 (j : Nat)] 26))).drew.cell? ⟨w.heap.size, 1, none⟩ = some (.int .u64 (y1 : Nat)) ∧ ((w4.alloc (Obj.cells #[.int .u64 (i : Nat), .int .u64 (j : Nat)] 26))).drew.cell? ⟨g3, 0, none⟩ = some (.int .u64 (x1 : Nat)) ∧ ((w4.alloc (Obj.cells #[.int .u64 (i : Nat), .int .u64 (j : Nat)] 26))).drew.cell? ⟨g3, 1, none⟩ = some (.int .u64 (y1 : Nat)) ∧ ((w4.alloc (Obj.cells #[.int .u64 (i : Nat), .int .u64 (j : Nat)] 26))).drew.cell? ⟨w4.heap.size, 0, none⟩ = some (.int .u64 (i : Nat)) ∧ ((w4.alloc (Obj.cells #[.int .u64 (i : Nat), .int .u64 (j : Nat)] 26))).drew.cell? ⟨w4.heap.size, 1, none⟩ = some (.int .u64 (j : Nat)) := ⟨B5.drew, Ra_5, Re_5, Ry_5, cell7 (Ra_5) 0 _ rfl, cell7 (Ra_5) 1 _ rfl, cell7 (Re_5) 0 _ rfl, cell7 (Re_5) 1 _ rfl, cell7 (Ry_5) 0 _ rfl, cell7 (Ry_5) 1 _ rfl⟩
  go_wp2_with fail
  go_region_held3 (fun W => Below w.heap.size w W ∧ W.heap[w.heap.size]? = some (Obj.cells #[.int .u64 (x1 : Nat), .int .u64 (y1 : Nat)] 26) ∧ W.heap[g3]? = some (Obj.cells #[.int .u64 (x1 : Nat), .int .u64 (y1 : Nat)] 26) ∧ W.heap[w4.heap.size]? = some (Obj.cells #[.int .u64 (i : Nat), .int .u64 (j : Nat)] 26) ∧ W.cell? ⟨w.heap.size, 0, none⟩ = some (.int .u64 (x1 : Nat)) ∧ W.cell? ⟨w.heap.size, 1, none⟩ = some (.int .u64 (y1 : Nat)) ∧ W.cell? ⟨g3, 0, none⟩ = some (.int .u64 (x1 : Nat)) ∧ W.cell? ⟨g3, 1, none⟩ = some (.int .u64 (y1 : Nat)) ∧ W.cell? ⟨w4.heap.size, 0, none⟩ = some (.int .u64 (i : Nat)) ∧ W.cell? ⟨w4.heap.size, 1, none⟩ = some (.int .u64 (j : Nat))) (first | exact s1 | exact s0)
    (first | (go_at_call 9; (first | refine (KN.out _ (fatB FF.out (And.left s1))).mono ?_ | refine (KN.out _ (fatB FF.out (And.left s0))).mono ?_); rintro r wq ⟨rfl, bq⟩; have s1 := (by first | exact sS.out _ _ s1 bq | exact sS.out _ _ s0 bq); clear bq) | (go_at_call 6; (first | refine (KA.out _ (fatB FF.out (And.left s1))).mono ?_ | refine (KA.out _ (fatB FF.out (And.left s0))).mono ?_); rintro r wq ⟨rfl, bq⟩; have s1 := (by first | exact sS.out _ _ s1 bq | exact sS.out _ _ s0 bq); clear bq) | fail)
  have B6 := (And.left s1)
  have Ra_6 := s1.2.1
  have Re_6 := s1.2.2.1
  have Ry_6 := s1.2.2.2.1
  clear s0 s1 sS B5 Ra_5 ca_5_0 ca_5_1 Re_5 ce_5_0 ce_5_1 Ry_5 cy_5_0 cy_5_1
  obtain ⟨ca_6_0, ca_6_1⟩ := cells2s Ra_6
  obtain ⟨ce_6_0, ce_6_1⟩ := cells2s Re_6
  obtain ⟨cy_6_0, cy_6_1⟩ := cells2s Ry_6
  go_wp2
  go_ret
  exact ⟨rfl, B6⟩
set_option maxRecDepth 100000 in
set_option maxHeartbeats 8000000 in
theorem do_num (f m : Int) (x1 y1 : Nat) (c : Nat) (p q i j : Nat) (h8 : decide ((8 : Int) ≤ (c : Int)) = false) (h0 : ((c : Int) == 0) = false) (h7 : ((c : Int) == 7) = false) (h3 : ((c : Int) == 3) = false) (h4 : ((c : Int) == 4) = false) (w : World)
    (KC : Box (∀ w, FAt w → Calls Tryd.prog 4 #[.int .u8 f, .agg #[.int .u64 (x1 : Nat), .int .u64 (y1 : Nat)]] w fun r w' => r = .returned (.tuple #[.int .u8 (c : Nat), .int .i64 0]) ∧ Below w.heap.size w w'))
    (KM : Box (∀ w, Calls Tryd.prog 5 #[.int .u8 m] w fun r w' => r = .returned (.int .i64 0) ∧ Below w.heap.size w w'))
    (K1 : Box (∀ w, FAt w → Calls Tryd.prog 8 #[.int .u8 f, .bool false] w fun r w' => r = .returned (.agg #[.int .u64 (p : Nat), .int .u64 (q : Nat)]) ∧ Below w.heap.size w w'))
    (K3 : Box (∀ w, FAt w → Calls Tryd.prog 7 #[.int .u8 f, .int .u8 m, .agg #[.int .u64 (x1 : Nat), .int .u64 (y1 : Nat)], .agg #[.int .u64 (p : Nat), .int .u64 (q : Nat)]] w fun r w' => r = .returned (.tuple #[.agg #[.int .u64 (x1 : Nat), .int .u64 (y1 : Nat)], .int .u8 0, .int .i64 0]) ∧ Below w.heap.size w w'))
    (K4 : Box (∀ w, FAt w → Calls Tryd.prog 7 #[.int .u8 f, .int .u8 m, .agg #[.int .u64 (x1 : Nat), .int .u64 (y1 : Nat)], .agg #[.int .u64 (x1 : Nat), .int .u64 (y1 : Nat)]] w fun r w' => r = .returned (.tuple #[.agg #[.int .u64 (i : Nat), .int .u64 (j : Nat)], .int .u8 0, .int .i64 0]) ∧ Below w.heap.size w w'))
    (KO : Box (∀ w, FAt w → Calls Tryd.prog 8 #[.int .u8 f, .bool false] w fun r w' => r = .returned (.agg #[.int .u64 (i : Nat), .int .u64 (j : Nat)]) ∧ Below w.heap.size w w'))
    (KA : Box (∀ w, FAt w → Calls Tryd.prog 6 #[] w fun r w' => r = .returned (.bool true) ∧ Below w.heap.size w w'))
    (hT : FAt w) : Calls Tryd.prog 3 #[.int .u8 f, .int .u8 m, .agg #[.int .u64 (x1 : Nat), .int .u64 (y1 : Nat)]] w fun r w' => r = .returned (.bool true) ∧ Below w.heap.size w w' := by
  have FF := box hT
  clear hT
  obtain ⟨Ra_0, B0⟩ := opn1 w (Obj.cells #[.int .u64 (x1 : Nat), .int .u64 (y1 : Nat)] 26)
  go_enter Tryd.func3, Tryd.ntmps3
  obtain ⟨ca_0_0, ca_0_1⟩ := cells2s Ra_0
  go_wp2_with fail
  refine (KC.out _ (fatB FF.out B0)).mono ?_
  rintro r w1 ⟨rfl, b1⟩
  have B1 : Below w.heap.size w w1 := btr B0 b1
  have Ra_1 := heap_of b1 _ _ _ Ra_0
  clear b1 B0 Ra_0 ca_0_0 ca_0_1
  obtain ⟨ca_1_0, ca_1_1⟩ := cells2s Ra_1
  go_wp2_with fail
  refine (KM.out _).mono ?_
  rintro r w2 ⟨rfl, b2⟩
  have B2 : Below w.heap.size w w2 := btr B1 b2
  have Ra_2 := heap_of b2 _ _ _ Ra_1
  clear b2 B1 Ra_1 ca_1_0 ca_1_1
  obtain ⟨ca_2_0, ca_2_1⟩ := cells2s Ra_2
  have sS : Box (∀ W W1 : World, (Below w.heap.size w W ∧ W.heap[w.heap.size]? = some (Obj.cells #[.int .u64 (x1 : Nat), .int .u64 (y1 : Nat)] 26) ∧ W.cell? ⟨w.heap.size, 0, none⟩ = some (.int .u64 (x1 : Nat)) ∧ W.cell? ⟨w.heap.size, 1, none⟩ = some (.int .u64 (y1 : Nat))) → Below W.heap.size W W1 → (Below w.heap.size w W1 ∧ W1.heap[w.heap.size]? = some (Obj.cells #[.int .u64 (x1 : Nat), .int .u64 (y1 : Nat)] 26) ∧ W1.cell? ⟨w.heap.size, 0, none⟩ = some (.int .u64 (x1 : Nat)) ∧ W1.cell? ⟨w.heap.size, 1, none⟩ = some (.int .u64 (y1 : Nat)))) := box (fun W W1 h b => ⟨btr h.1 b, heap_of b _ _ _ h.2.1, cell7 (heap_of b _ _ _ h.2.1) 0 _ rfl, cell7 (heap_of b _ _ _ h.2.1) 1 _ rfl⟩)
  have sL : Box (∀ W : World, (Below w.heap.size w W ∧ W.heap[w.heap.size]? = some (Obj.cells #[.int .u64 (x1 : Nat), .int .u64 (y1 : Nat)] 26) ∧ W.cell? ⟨w.heap.size, 0, none⟩ = some (.int .u64 (x1 : Nat)) ∧ W.cell? ⟨w.heap.size, 1, none⟩ = some (.int .u64 (y1 : Nat))) → (w.heap.size < W.heap.size)) := box (fun W h => (Array.getElem?_eq_some_iff.1 h.2.1).1)
  have sT : Box (∀ (W : World) (gN : Nat) (xA xB : Value), (Below w.heap.size w W ∧ W.heap[w.heap.size]? = some (Obj.cells #[.int .u64 (x1 : Nat), .int .u64 (y1 : Nat)] 26) ∧ W.cell? ⟨w.heap.size, 0, none⟩ = some (.int .u64 (x1 : Nat)) ∧ W.cell? ⟨w.heap.size, 1, none⟩ = some (.int .u64 (y1 : Nat))) → (w.heap.size < gN) → (Below w.heap.size w ((W.setCell ⟨gN, 0, none⟩ xA).setCell ⟨gN, 1, none⟩ xB) ∧ ((W.setCell ⟨gN, 0, none⟩ xA).setCell ⟨gN, 1, none⟩ xB).heap[w.heap.size]? = some (Obj.cells #[.int .u64 (x1 : Nat), .int .u64 (y1 : Nat)] 26) ∧ ((W.setCell ⟨gN, 0, none⟩ xA).setCell ⟨gN, 1, none⟩ xB).cell? ⟨w.heap.size, 0, none⟩ = some (.int .u64 (x1 : Nat)) ∧ ((W.setCell ⟨gN, 0, none⟩ xA).setCell ⟨gN, 1, none⟩ xB).cell? ⟨w.heap.size, 1, none⟩ = some (.int .u64 (y1 : Nat)))) := box (fun W gN xA xB h l => ⟨set2_below h.1 (show w.heap.size ≤ gN by have := l; omega) _ _, (setCell_other (by have := l; omega)).trans ((setCell_other (by have := l; omega)).trans h.2.1), cell7 ((setCell_other (by have := l; omega)).trans ((setCell_other (by have := l; omega)).trans h.2.1)) 0 _ rfl, cell7 ((setCell_other (by have := l; omega)).trans ((setCell_other (by have := l; omega)).trans h.2.1)) 1 _ rfl⟩)
  have s0 : Below w.heap.size w (w2).drew ∧ (w2).drew.heap[w.heap.size]? = some (Obj.cells #[.int .u64 (x1 : Nat), .int .u64 (y1 : Nat)] 26) ∧ (w2).drew.cell? ⟨w.heap.size, 0, none⟩ = some (.int .u64 (x1 : Nat)) ∧ (w2).drew.cell? ⟨w.heap.size, 1, none⟩ = some (.int .u64 (y1 : Nat)) := ⟨B2.drew, Ra_2, cell7 (Ra_2) 0 _ rfl, cell7 (Ra_2) 1 _ rfl⟩
  clear B2 Ra_2 ca_2_0 ca_2_1
  go_wp2_with fail
  apply cut7
  · intro key0
    have key := box key0
    clear key0
    go_region_held3 (fun W => Below w.heap.size w W ∧ W.heap[w.heap.size]? = some (Obj.cells #[.int .u64 (x1 : Nat), .int .u64 (y1 : Nat)] 26) ∧ W.cell? ⟨w.heap.size, 0, none⟩ = some (.int .u64 (x1 : Nat)) ∧ W.cell? ⟨w.heap.size, 1, none⟩ = some (.int .u64 (y1 : Nat))) (first | exact s1 | exact s0 | exact sS.out _ _ s1 (bal _ _) | exact sS.out _ _ s0 (bal _ _) | exact sT.out _ _ _ _ s1 hl)
      (first | (go_at_call 8; (first | refine (K1.out _ (by first | exact fatB FF.out (And.left s1) | exact fat_al (fatB FF.out (And.left s1)) _)).mono ?_ | refine (K1.out _ (by first | exact fatB FF.out (And.left s0) | exact fat_al (fatB FF.out (And.left s0)) _)).mono ?_); rintro r wq ⟨rfl, bq⟩; (first | (have hg := heap_of bq _ _ _ (heap_alloc_last _ _); have hl := (by first | exact sL.out _ s1 | exact sL.out _ s0)) | have hg := heap_of bq _ _ _ hg | skip); (try simp only [size_dr, size_al] at hg hl); (first | (have hq0 := fz (k := 0) hg; have hq1 := fz (k := 1) hg; have hc0 := cell7 hg 0 _ rfl; have hc1 := cell7 hg 1 _ rfl) | skip); have s2 := (by first | exact sS.out _ _ s1 bq | exact sS.out _ _ s0 bq | exact sS.out _ _ (sS.out _ _ s1 (bal _ _)) bq | exact sS.out _ _ (sS.out _ _ s0 (bal _ _)) bq); (try clear s1); have s1 := s2; clear s2 bq) | (go_at_call 7; (first | refine (K3.out _ (by first | exact fatB FF.out (And.left s1) | exact fat_al (fatB FF.out (And.left s1)) _)).mono ?_ | refine (K3.out _ (by first | exact fatB FF.out (And.left s0) | exact fat_al (fatB FF.out (And.left s0)) _)).mono ?_); rintro r wq ⟨rfl, bq⟩; (first | (have hg := heap_of bq _ _ _ (heap_alloc_last _ _); have hl := (by first | exact sL.out _ s1 | exact sL.out _ s0)) | have hg := heap_of bq _ _ _ hg | skip); (try simp only [size_dr, size_al] at hg hl); (first | (have hq0 := fz (k := 0) hg; have hq1 := fz (k := 1) hg; have hc0 := cell7 hg 0 _ rfl; have hc1 := cell7 hg 1 _ rfl) | skip); have s2 := (by first | exact sS.out _ _ s1 bq | exact sS.out _ _ s0 bq | exact sS.out _ _ (sS.out _ _ s1 (bal _ _)) bq | exact sS.out _ _ (sS.out _ _ s0 (bal _ _)) bq); (try clear s1); have s1 := s2; clear s2 bq) | fail)
    all_goals
      refine gen_abacuslaw13_DivOne_9 (R := fun W gN => (Below w.heap.size w W ∧ W.heap[w.heap.size]? = some (Obj.cells #[.int .u64 (x1 : Nat), .int .u64 (y1 : Nat)] 26) ∧ W.cell? ⟨w.heap.size, 0, none⟩ = some (.int .u64 (x1 : Nat)) ∧ W.cell? ⟨w.heap.size, 1, none⟩ = some (.int .u64 (y1 : Nat))) ∧ W.heap[gN]? = some (Obj.cells #[.int .u64 (x1 : Nat), .int .u64 (y1 : Nat)] 26) ∧ (w.heap.size < gN)) key.out ?_
      first
        | exact ⟨(sT.out _ _ _ _ s1 hl), set2_row hg _ _, hl⟩
        | exact ⟨sS.out _ _ s1 (bal _ _), heap_alloc_last _ _, sL.out _ s1⟩
        | exact ⟨sS.out _ _ s0 (bal _ _), heap_alloc_last _ _, sL.out _ s0⟩
  rintro w3 g3 ⟨s1, Re_3, l3⟩
  have B3 := And.left s1
  have Ra_3 := s1.2.1
  have H3 := box l3
  clear s0 s1 sS sL sT l3
  obtain ⟨ca_3_0, ca_3_1⟩ := cells2s Ra_3
  obtain ⟨ce_3_0, ce_3_1⟩ := cells2s Re_3
  go_wp2_with fail
  refine (K4.out _ (fatB FF.out B3)).mono ?_
  rintro r w4 ⟨rfl, b4⟩
  have B4 : Below w.heap.size w w4 := btr B3 b4
  have Ra_4 := heap_of b4 _ _ _ Ra_3
  have Re_4 := heap_of b4 _ _ _ Re_3
  clear b4 B3 Ra_3 ca_3_0 ca_3_1 Re_3 ce_3_0 ce_3_1
  obtain ⟨ca_4_0, ca_4_1⟩ := cells2s Ra_4
  obtain ⟨ce_4_0, ce_4_1⟩ := cells2s Re_4
  have S5 := box B4.size
  have La_5 : Box (w.heap.size < w4.heap.size) := box (Array.getElem?_eq_some_iff.1 Ra_4).1
  have Le_5 : Box (g3 < w4.heap.size) := box (Array.getElem?_eq_some_iff.1 Re_4).1
  have Ry_5 := heap_alloc_last w4 (Obj.cells #[.int .u64 (i : Nat), .int .u64 (j : Nat)] 26)
  have B5 := btr B4 (bal w4 (Obj.cells #[.int .u64 (i : Nat), .int .u64 (j : Nat)] 26))
  have Ra_5 := heap_of (bal w4 (Obj.cells #[.int .u64 (i : Nat), .int .u64 (j : Nat)] 26)) _ _ _ Ra_4
  have Re_5 := heap_of (bal w4 (Obj.cells #[.int .u64 (i : Nat), .int .u64 (j : Nat)] 26)) _ _ _ Re_4
  clear B4 Ra_4 ca_4_0 ca_4_1 Re_4 ce_4_0 ce_4_1
  obtain ⟨ca_5_0, ca_5_1⟩ := cells2s Ra_5
  obtain ⟨ce_5_0, ce_5_1⟩ := cells2s Re_5
  obtain ⟨cy_5_0, cy_5_1⟩ := cells2s Ry_5
  have sS : Box (∀ W W1 : World, (Below w.heap.size w W ∧ W.heap[w.heap.size]? = some (Obj.cells #[.int .u64 (x1 : Nat), .int .u64 (y1 : Nat)] 26) ∧ W.heap[g3]? = some (Obj.cells #[.int .u64 (x1 : Nat), .int .u64 (y1 : Nat)] 26) ∧ W.heap[w4.heap.size]? = some (Obj.cells #[.int .u64 (i : Nat), .int .u64 (j : Nat)] 26) ∧ W.cell? ⟨w.heap.size, 0, none⟩ = some (.int .u64 (x1 : Nat)) ∧ W.cell? ⟨w.heap.size, 1, none⟩ = some (.int .u64 (y1 : Nat)) ∧ W.cell? ⟨g3, 0, none⟩ = some (.int .u64 (x1 : Nat)) ∧ W.cell? ⟨g3, 1, none⟩ = some (.int .u64 (y1 : Nat)) ∧ W.cell? ⟨w4.heap.size, 0, none⟩ = some (.int .u64 (i : Nat)) ∧ W.cell? ⟨w4.heap.size, 1, none⟩ = some (.int .u64 (j : Nat))) → Below W.heap.size W W1 → (Below w.heap.size w W1 ∧ W1.heap[w.heap.size]? = some (Obj.cells #[.int .u64 (x1 : Nat), .int .u64 (y1 : Nat)] 26) ∧ W1.heap[g3]? = some (Obj.cells #[.int .u64 (x1 : Nat), .int .u64 (y1 : Nat)] 26) ∧ W1.heap[w4.heap.size]? = some (Obj.cells #[.int .u64 (i : Nat), .int .u64 (j : Nat)] 26) ∧ W1.cell? ⟨w.heap.size, 0, none⟩ = some (.int .u64 (x1 : Nat)) ∧ W1.cell? ⟨w.heap.size, 1, none⟩ = some (.int .u64 (y1 : Nat)) ∧ W1.cell? ⟨g3, 0, none⟩ = some (.int .u64 (x1 : Nat)) ∧ W1.cell? ⟨g3, 1, none⟩ = some (.int .u64 (y1 : Nat)) ∧ W1.cell? ⟨w4.heap.size, 0, none⟩ = some (.int .u64 (i : Nat)) ∧ W1.cell? ⟨w4.heap.size, 1, none⟩ = some (.int .u64 (j : Nat)))) := box (fun W W1 h b => ⟨btr h.1 b, heap_of b _ _ _ h.2.1, heap_of b _ _ _ h.2.2.1, heap_of b _ _ _ h.2.2.2.1, cell7 (heap_of b _ _ _ h.2.1) 0 _ rfl, cell7 (heap_of b _ _ _ h.2.1) 1 _ rfl, cell7 (heap_of b _ _ _ h.2.2.1) 0 _ rfl, cell7 (heap_of b _ _ _ h.2.2.1) 1 _ rfl, cell7 (heap_of b _ _ _ h.2.2.2.1) 0 _ rfl, cell7 (heap_of b _ _ _ h.2.2.2.1) 1 _ rfl⟩)
  have s0 : Below w.heap.size w ((w4.alloc (Obj.cells #[.int .u64 (i : Nat), .int .u64 (j : Nat)] 26))).drew ∧ ((w4.alloc (Obj.cells #[.int .u64 (i : Nat), .int .u64 (j : Nat)] 26))).drew.heap[w.heap.size]? = some (Obj.cells #[.int .u64 (x1 : Nat), .int .u64 (y1 : Nat)] 26) ∧ ((w4.alloc (Obj.cells #[.int .u64 (i : Nat), .int .u64 (j : Nat)] 26))).drew.heap[g3]? = some (Obj.cells #[.int .u64 (x1 : Nat), .int .u64 (y1 : Nat)] 26) ∧ ((w4.alloc (Obj.cells #[.int .u64 (i : Nat), .int .u64 (j : Nat)] 26))).drew.heap[w4.heap.size]? = some (Obj.cells #[.int .u64 (i : Nat), .int .u64 (j : Nat)] 26) ∧ ((w4.alloc (Obj.cells #[.int .u64 (i : Nat), .int .u64 (j : Nat)] 26))).drew.cell? ⟨w.heap.size, 0, none⟩ = some (.int .u64 (x1 : Nat)) ∧ ((w4.alloc (Obj.cells #[.int .u64 (i : Nat), .int .u64 (j : Nat)] 26))).drew.cell? ⟨w.heap.size, 1, none⟩ = some (.int .u64 (y1 : Nat)) ∧ ((w4.alloc (Obj.cells #[.int .u64 (i : Nat), .int .u64 (j : Nat)] 26))).drew.cell? ⟨g3, 0, none⟩ = some (.int .u64 (x1 : Nat)) ∧ ((w4.alloc (Obj.cells #[.int .u64 (i : Nat), .int .u64 (j : Nat)] 26))).drew.cell? ⟨g3, 1, none⟩ = some (.int .u64 (y1 : Nat)) ∧ ((w4.alloc (Obj.cells #[.int .u64 (i : Nat), .int .u64 (j : Nat)] 26))).drew.cell? ⟨w4.heap.size, 0, none⟩ = some (.int .u64 (i : Nat)) ∧ ((w4.alloc (Obj.cells #[.int .u64 (i : Nat), .int .u64 (j : Nat)] 26))).drew.cell? ⟨w4.heap.size, 1, none⟩ = some (.int .u64 (j : Nat)) := ⟨B5.drew, Ra_5, Re_5, Ry_5, cell7 (Ra_5) 0 _ rfl, cell7 (Ra_5) 1 _ rfl, cell7 (Re_5) 0 _ rfl, cell7 (Re_5) 1 _ rfl, cell7 (Ry_5) 0 _ rfl, cell7 (Ry_5) 1 _ rfl⟩
  go_wp2_with fail
  go_region_held3 (fun W => Below w.heap.size w W ∧ W.heap[w.heap.size]? = some (Obj.cells #[.int .u64 (x1 : Nat), .int .u64 (y1 : Nat)] 26) ∧ W.heap[g3]? = some (Obj.cells #[.int .u64 (x1 : Nat), .int .u64 (y1 : Nat)] 26) ∧ W.heap[w4.heap.size]? = some (Obj.cells #[.int .u64 (i : Nat), .int .u64 (j : Nat)] 26) ∧ W.cell? ⟨w.heap.size, 0, none⟩ = some (.int .u64 (x1 : Nat)) ∧ W.cell? ⟨w.heap.size, 1, none⟩ = some (.int .u64 (y1 : Nat)) ∧ W.cell? ⟨g3, 0, none⟩ = some (.int .u64 (x1 : Nat)) ∧ W.cell? ⟨g3, 1, none⟩ = some (.int .u64 (y1 : Nat)) ∧ W.cell? ⟨w4.heap.size, 0, none⟩ = some (.int .u64 (i : Nat)) ∧ W.cell? ⟨w4.heap.size, 1, none⟩ = some (.int .u64 (j : Nat))) (first | exact s1 | exact s0)
    (first | (go_at_call 8; (first | refine (KO.out _ (fatB FF.out (And.left s1))).mono ?_ | refine (KO.out _ (fatB FF.out (And.left s0))).mono ?_); rintro r wq ⟨rfl, bq⟩; have s1 := (by first | exact sS.out _ _ s1 bq | exact sS.out _ _ s0 bq); clear bq) | (go_at_call 6; (first | refine (KA.out _ (fatB FF.out (And.left s1))).mono ?_ | refine (KA.out _ (fatB FF.out (And.left s0))).mono ?_); rintro r wq ⟨rfl, bq⟩; have s1 := (by first | exact sS.out _ _ s1 bq | exact sS.out _ _ s0 bq); clear bq) | fail)
  have B6 := (And.left s1)
  have Ra_6 := s1.2.1
  have Re_6 := s1.2.2.1
  have Ry_6 := s1.2.2.2.1
  clear s0 s1 sS B5 Ra_5 ca_5_0 ca_5_1 Re_5 ce_5_0 ce_5_1 Ry_5 cy_5_0 cy_5_1
  obtain ⟨ca_6_0, ca_6_1⟩ := cells2s Ra_6
  obtain ⟨ce_6_0, ce_6_1⟩ := cells2s Re_6
  obtain ⟨cy_6_0, cy_6_1⟩ := cells2s Ry_6
  go_wp2
  go_ret
  exact ⟨rfl, B6⟩
end Go.Proofs.YtapikkbifdldfaaDoor
