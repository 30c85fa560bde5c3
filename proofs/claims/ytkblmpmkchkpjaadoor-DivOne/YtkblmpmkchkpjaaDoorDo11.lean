/-
  What the functions that the statement reaches return: part 11 (Z1).
-/
import Derived.Test.YtkblmpmkchkpjaaDoorDo10
namespace Go.Proofs.YtkblmpmkchkpjaaDoor
set_option maxRecDepth 100000
set_option maxHeartbeats 40000000
set_option maxRecDepth 100000
open Go.RowKit WMath
set_option linter.unusedSimpArgs false
set_option linter.unusedVariables false
theorem gen_div_Div_16 {X : Act → World → Prop} {R : World → Nat → Prop} {t0 t1 t2 t3 t4 t5 t6 t7 t8 t9 t10 t11 t12 t13 t14 t15 t17 t18 t19 t20 t21 t22 t23 t24 t25 t26 t27 t28 t29 t30 t31 t32 t33 t34 t35 t36 t37 t38 t39 t40 t41 t42 t43 t44 t45 t46 t47 t48 t49 t50 t51 t52 t53 t54 t55 t56 t57 t58 t59 t60 t61 t62 t63 t64 t65 t66 t67 t68 t69 t70 t71 t72 t73 t74 t75 t76 t77 t78 t79 t80 t81 t82 t83 t84 t85 t86 t87 t88 t89 t90 t91 t92 t93 t94 t95 t96 t97 t98 t99 t100 t101 t102 t103 t104 : Value} {d : List Deferred} {W : World} {G : Nat}
  (key : ∀ w5 g, R w5 g → X ⟨#[t0, t1, t2, t3, t4, t5, t6, t7, t8, t9, t10, t11, t12, t13, t14, t15, .pointer (some ⟨g, 0, none⟩), t17, t18, t19, t20, t21, t22, t23, t24, t25, t26, t27, t28, t29, t30, t31, t32, t33, t34, t35, t36, t37, t38, t39, t40, t41, t42, t43, t44, t45, t46, t47, t48, t49, t50, t51, t52, t53, t54, t55, t56, t57, t58, t59, t60, t61, t62, t63, t64, t65, t66, t67, t68, t69, t70, t71, t72, t73, t74, t75, t76, t77, t78, t79, t80, t81, t82, t83, t84, t85, t86, t87, t88, t89, t90, t91, t92, t93, t94, t95, t96, t97, t98, t99, t100, t101, t102, t103, t104], d⟩ w5) (r : R W G) : X ⟨#[t0, t1, t2, t3, t4, t5, t6, t7, t8, t9, t10, t11, t12, t13, t14, t15, .pointer (some ⟨G, 0, none⟩), t17, t18, t19, t20, t21, t22, t23, t24, t25, t26, t27, t28, t29, t30, t31, t32, t33, t34, t35, t36, t37, t38, t39, t40, t41, t42, t43, t44, t45, t46, t47, t48, t49, t50, t51, t52, t53, t54, t55, t56, t57, t58, t59, t60, t61, t62, t63, t64, t65, t66, t67, t68, t69, t70, t71, t72, t73, t74, t75, t76, t77, t78, t79, t80, t81, t82, t83, t84, t85, t86, t87, t88, t89, t90, t91, t92, t93, t94, t95, t96, t97, t98, t99, t100, t101, t102, t103, t104], d⟩ W := key W G r

theorem dv_plain_e (c : Nat) (KE : Box (∀ w, Calls Tryd.prog 36 #[.int .u8 c] w fun r w' => r = .returned (.bool true) ∧ Below w.heap.size w w')) (w : World) : Calls Tryd.prog 15 #[.int .u8 c] w fun r w' => r = .returned (.int .u8 7) ∧ Below w.heap.size w w' := by
 have B0 : Below w.heap.size w w := (Below.refl _ _)
 go_enter Tryd.func15, Tryd.ntmps15
 go_wp2_with fail
 refine (KE.out _).mono ?_
 rintro r w1 ⟨rfl, b1⟩
 have B1 := btr B0 b1
 clear b1 B0 
 go_wp2
 go_ret
 exact ⟨rfl, B1⟩
theorem dv_plain_z (c : Nat) (KE : Box (∀ w, Calls Tryd.prog 36 #[.int .u8 c] w fun r w' => r = .returned (.bool false) ∧ Below w.heap.size w w')) (KN : Box (∀ w, Calls Tryd.prog 37 #[.int .u8 c] w fun r w' => r = .returned (.bool true) ∧ Below w.heap.size w w')) (w : World) : Calls Tryd.prog 15 #[.int .u8 c] w fun r w' => r = .returned (.int .u8 4) ∧ Below w.heap.size w w' := by
 have B0 : Below w.heap.size w w := (Below.refl _ _)
 go_enter Tryd.func15, Tryd.ntmps15
 go_wp2_with fail
 refine (KE.out _).mono ?_
 rintro r w1 ⟨rfl, b1⟩
 have B1 := btr B0 b1
 clear b1 B0 
 go_wp2_with fail
 refine (KN.out _).mono ?_
 rintro r w2 ⟨rfl, b2⟩
 have B2 := btr B1 b2
 clear b2 B1 
 go_wp2
 go_ret
 exact ⟨rfl, B2⟩
theorem dv_plain_s (c : Nat) (KE : Box (∀ w, Calls Tryd.prog 36 #[.int .u8 c] w fun r w' => r = .returned (.bool false) ∧ Below w.heap.size w w')) (KN : Box (∀ w, Calls Tryd.prog 37 #[.int .u8 c] w fun r w' => r = .returned (.bool false) ∧ Below w.heap.size w w')) (h8 : ((c : Int) == 8) = true) (w : World) : Calls Tryd.prog 15 #[.int .u8 c] w fun r w' => r = .returned (.int .u8 c) ∧ Below w.heap.size w w' := by
 have B0 : Below w.heap.size w w := (Below.refl _ _)
 go_enter Tryd.func15, Tryd.ntmps15
 go_wp2_with fail
 refine (KE.out _).mono ?_
 rintro r w1 ⟨rfl, b1⟩
 have B1 := btr B0 b1
 clear b1 B0 
 go_wp2_with fail
 refine (KN.out _).mono ?_
 rintro r w2 ⟨rfl, b2⟩
 have B2 := btr B1 b2
 clear b2 B1 
 go_wp2
 go_ret
 exact ⟨rfl, B2⟩
theorem dv_plain_q (c : Nat) (KE : Box (∀ w, Calls Tryd.prog 36 #[.int .u8 c] w fun r w' => r = .returned (.bool false) ∧ Below w.heap.size w w')) (KN : Box (∀ w, Calls Tryd.prog 37 #[.int .u8 c] w fun r w' => r = .returned (.bool false) ∧ Below w.heap.size w w')) (h8 : ((c : Int) == 8) = false) (h9 : ((c : Int) == 9) = true) (w : World) : Calls Tryd.prog 15 #[.int .u8 c] w fun r w' => r = .returned (.int .u8 c) ∧ Below w.heap.size w w' := by
 have B0 : Below w.heap.size w w := (Below.refl _ _)
 go_enter Tryd.func15, Tryd.ntmps15
 go_wp2_with fail
 refine (KE.out _).mono ?_
 rintro r w1 ⟨rfl, b1⟩
 have B1 := btr B0 b1
 clear b1 B0 
 go_wp2_with fail
 refine (KN.out _).mono ?_
 rintro r w2 ⟨rfl, b2⟩
 have B2 := btr B1 b2
 clear b2 B1 
 go_wp2
 go_ret
 exact ⟨rfl, B2⟩
theorem dv_plain_f (c : Nat) (KE : Box (∀ w, Calls Tryd.prog 36 #[.int .u8 c] w fun r w' => r = .returned (.bool false) ∧ Below w.heap.size w w')) (KN : Box (∀ w, Calls Tryd.prog 37 #[.int .u8 c] w fun r w' => r = .returned (.bool false) ∧ Below w.heap.size w w')) (h8 : ((c : Int) == 8) = false) (h9 : ((c : Int) == 9) = false) (w : World) : Calls Tryd.prog 15 #[.int .u8 c] w fun r w' => r = .returned (.int .u8 6) ∧ Below w.heap.size w w' := by
 have B0 : Below w.heap.size w w := (Below.refl _ _)
 go_enter Tryd.func15, Tryd.ntmps15
 go_wp2_with fail
 refine (KE.out _).mono ?_
 rintro r w1 ⟨rfl, b1⟩
 have B1 := btr B0 b1
 clear b1 B0 
 go_wp2_with fail
 refine (KN.out _).mono ?_
 rintro r w2 ⟨rfl, b2⟩
 have B2 := btr B1 b2
 clear b2 B1 
 go_wp2
 go_ret
 exact ⟨rfl, B2⟩
theorem dv_nan_a (p1 p2 : Int) (h1 : (p1 == 8) = true) (w : World) : Calls Tryd.prog 20 #[.agg #[.int .u8 p1, .int .u8 p2]] w fun r w' => r = .returned (.int .u8 16) ∧ Below w.heap.size w w' := by
 obtain ⟨Aa, B0⟩ := opn1 w (Obj.cells #[.int .u8 p1, .int .u8 p2] 50)
 go_enter Tryd.func20, Tryd.ntmps20
 obtain ⟨Ab, Ac⟩ := cells2s Aa
 go_wp2
 go_ret
 exact ⟨rfl, B0⟩
theorem dv_nan_b (p1 p2 : Int) (h1 : (p1 == 8) = false) (h2 : (p2 == 8) = true) (w : World) : Calls Tryd.prog 20 #[.agg #[.int .u8 p1, .int .u8 p2]] w fun r w' => r = .returned (.int .u8 16) ∧ Below w.heap.size w w' := by
 obtain ⟨Aa, B0⟩ := opn1 w (Obj.cells #[.int .u8 p1, .int .u8 p2] 50)
 go_enter Tryd.func20, Tryd.ntmps20
 obtain ⟨Ab, Ac⟩ := cells2s Aa
 go_wp2
 go_ret
 exact ⟨rfl, B0⟩
theorem dv_nan_c (p1 p2 : Int) (h1 : (p1 == 8) = false) (h2 : (p2 == 8) = false) (w : World) : Calls Tryd.prog 20 #[.agg #[.int .u8 p1, .int .u8 p2]] w fun r w' => r = .returned (.int .u8 0) ∧ Below w.heap.size w w' := by
 obtain ⟨Aa, B0⟩ := opn1 w (Obj.cells #[.int .u8 p1, .int .u8 p2] 50)
 go_enter Tryd.func20, Tryd.ntmps20
 obtain ⟨Ab, Ac⟩ := cells2s Aa
 go_wp2
 go_ret
 exact ⟨rfl, B0⟩
theorem dv_digits (neg : Bool) (c1 m1 : Nat) (X1 : Int) (r1 c2 m2 : Nat) (X2 : Int) (r2 S : Nat) (l1 l2 n0 n e0 E : Int) (more : Bool) (g : Int) (w : World)
  (KL1 : Box (∀ w, Calls Tryd.prog 53 #[.agg (cw 6 m1)] w fun r w' => r = .returned (.int .i64 l1) ∧ Below w.heap.size w w')) (KL2 : Box (∀ w, Calls Tryd.prog 53 #[.agg (cw 6 m2)] w fun r w' => r = .returned (.int .i64 l2) ∧ Below w.heap.size w w')) (hn0 : IntKind.i64.wrap (115 + l2) = n0) (hn : IntKind.i64.wrap (n0 - l1) = n)
  (KD : Box (∀ w, Calls Tryd.prog 54 #[.agg (cw 6 m1), .agg (cw 6 m2), .int .i64 n] w fun r w' => r = .returned (.tuple #[.agg (cw 6 S), .bool more, .int .i64 g]) ∧ Below w.heap.size w w')) (he0 : IntKind.i64.wrap (X1 - X2) = e0) (hE : IntKind.i64.wrap (e0 - n) = E) :
  Calls Tryd.prog 19 #[.bool neg, .agg (pt c1 m1 X1 r1), .agg (pt c2 m2 X2 r2)] w fun r w' => r = .returned (.agg (rg neg S E more)) ∧ Below w.heap.size w w' := by
 have hat := cw_at 6
 have hz := cw6z
 have hff := cw6f
 have hs0 := st0
 have hcs : ∀ x, ((cw 6 x).size = 6) = True := fun x => eq_true (cw_size 6 x)
 have hp1 := rgf
 have hp3 := rgz
 have hp4 := st_r0
 have hzi := cw_zip
 have hls := rg_sets
 have hl8 : ∀ (c : Bool) (s : Nat) (x : Int) (r r' : Bool), (rg c s x r).toList.set 8 (Value.bool r') = (rg c s x r').toList := fun _ _ _ _ _ => rfl
 have hp5 : ∀ (c : Bool) (s : Nat) (x : Int) (r : Bool), ((rg c s x r).size = 9) = True := fun _ _ _ _ => eq_true rfl
 have B8 := ptf
 have B9 : ∀ (c s : Nat) (x : Int) (r : Nat), ((pt c s x r).size = 14) = True := fun _ _ _ _ => eq_true rfl
 obtain ⟨Ad, Ae, Aj, B0⟩ := opn3 w (Obj.cells (pt c1 m1 X1 r1) 45) (Obj.cells (pt c2 m2 X2 r2) 45) (Obj.cells (rg false 0 0 false) 53)
 go_enter Tryd.func19, Tryd.ntmps19
 obtain ⟨Ak, Al, Am, An, Ao, Ap, Aq, Ar, As, At, Au, Av, Aw, Ax⟩ := pt_cells Ad
 obtain ⟨Ay, Az, AA, AB, AC, AD, AE, AF, AG, AH, AI, AJ, AK, AL⟩ := pt_cells Ae
 have sS : Box (∀ W W1 : World, (Below w.heap.size w W ∧ W.heap[w.heap.size]? = some (.cells (pt c1 m1 X1 r1) 45) ∧ W.heap[w.heap.size + 1]? = some (.cells (pt c2 m2 X2 r2) 45) ∧ W.heap[w.heap.size + 1 + 1]? = some (.cells (rg false 0 0 false) 53)) → Below W.heap.size W W1 → (Below w.heap.size w W1 ∧ W1.heap[w.heap.size]? = some (.cells (pt c1 m1 X1 r1) 45) ∧ W1.heap[w.heap.size + 1]? = some (.cells (pt c2 m2 X2 r2) 45) ∧ W1.heap[w.heap.size + 1 + 1]? = some (.cells (rg false 0 0 false) 53))) := box (fun W W1 h b => ⟨btr h.1 b, heap_of b _ _ _ h.2.1, heap_of b _ _ _ h.2.2.1, heap_of b _ _ _ h.2.2.2⟩)
 have sC : Box (∀ W : World, (Below w.heap.size w W ∧ W.heap[w.heap.size]? = some (.cells (pt c1 m1 X1 r1) 45) ∧ W.heap[w.heap.size + 1]? = some (.cells (pt c2 m2 X2 r2) 45) ∧ W.heap[w.heap.size + 1 + 1]? = some (.cells (rg false 0 0 false) 53)) → (Below w.heap.size w W ∧ W.heap[w.heap.size]? = some (.cells (pt c1 m1 X1 r1) 45) ∧ W.heap[w.heap.size + 1]? = some (.cells (pt c2 m2 X2 r2) 45) ∧ W.heap[w.heap.size + 1 + 1]? = some (.cells (rg false 0 0 false) 53) ∧ W.cell? ⟨w.heap.size, 0, none⟩ = some (.int .u8 c1) ∧ W.cell? ⟨w.heap.size, 1, none⟩ = some (.int .u64 (wd m1 0)) ∧ W.cell? ⟨w.heap.size, 2, none⟩ = some (.int .u64 (wd m1 1)) ∧ W.cell? ⟨w.heap.size, 3, none⟩ = some (.int .u64 (wd m1 2)) ∧ W.cell? ⟨w.heap.size, 4, none⟩ = some (.int .u64 (wd m1 3)) ∧ W.cell? ⟨w.heap.size, 5, none⟩ = some (.int .u64 (wd m1 4)) ∧ W.cell? ⟨w.heap.size, 6, none⟩ = some (.int .u64 (wd m1 5)) ∧ W.cell? ⟨w.heap.size, 7, none⟩ = some (.int .i64 X1) ∧ W.cell? ⟨w.heap.size, 8, none⟩ = some (.int .u64 (wd r1 0)) ∧ W.cell? ⟨w.heap.size, 9, none⟩ = some (.int .u64 (wd r1 1)) ∧ W.cell? ⟨w.heap.size, 10, none⟩ = some (.int .u64 (wd r1 2)) ∧ W.cell? ⟨w.heap.size, 11, none⟩ = some (.int .u64 (wd r1 3)) ∧ W.cell? ⟨w.heap.size, 12, none⟩ = some (.int .u64 (wd r1 4)) ∧ W.cell? ⟨w.heap.size, 13, none⟩ = some (.int .u64 (wd r1 5)) ∧ W.cell? ⟨w.heap.size + 1, 0, none⟩ = some (.int .u8 c2) ∧ W.cell? ⟨w.heap.size + 1, 1, none⟩ = some (.int .u64 (wd m2 0)) ∧ W.cell? ⟨w.heap.size + 1, 2, none⟩ = some (.int .u64 (wd m2 1)) ∧ W.cell? ⟨w.heap.size + 1, 3, none⟩ = some (.int .u64 (wd m2 2)) ∧ W.cell? ⟨w.heap.size + 1, 4, none⟩ = some (.int .u64 (wd m2 3)) ∧ W.cell? ⟨w.heap.size + 1, 5, none⟩ = some (.int .u64 (wd m2 4)) ∧ W.cell? ⟨w.heap.size + 1, 6, none⟩ = some (.int .u64 (wd m2 5)) ∧ W.cell? ⟨w.heap.size + 1, 7, none⟩ = some (.int .i64 X2) ∧ W.cell? ⟨w.heap.size + 1, 8, none⟩ = some (.int .u64 (wd r2 0)) ∧ W.cell? ⟨w.heap.size + 1, 9, none⟩ = some (.int .u64 (wd r2 1)) ∧ W.cell? ⟨w.heap.size + 1, 10, none⟩ = some (.int .u64 (wd r2 2)) ∧ W.cell? ⟨w.heap.size + 1, 11, none⟩ = some (.int .u64 (wd r2 3)) ∧ W.cell? ⟨w.heap.size + 1, 12, none⟩ = some (.int .u64 (wd r2 4)) ∧ W.cell? ⟨w.heap.size + 1, 13, none⟩ = some (.int .u64 (wd r2 5)))) := box (fun W h => ⟨h.1, h.2.1, h.2.2.1, h.2.2.2, cell7 (h.2.1) 0 _ rfl, cell7 (h.2.1) 1 _ rfl, cell7 (h.2.1) 2 _ rfl, cell7 (h.2.1) 3 _ rfl, cell7 (h.2.1) 4 _ rfl, cell7 (h.2.1) 5 _ rfl, cell7 (h.2.1) 6 _ rfl, cell7 (h.2.1) 7 _ rfl, cell7 (h.2.1) 8 _ rfl, cell7 (h.2.1) 9 _ rfl, cell7 (h.2.1) 10 _ rfl, cell7 (h.2.1) 11 _ rfl, cell7 (h.2.1) 12 _ rfl, cell7 (h.2.1) 13 _ rfl, cell7 (h.2.2.1) 0 _ rfl, cell7 (h.2.2.1) 1 _ rfl, cell7 (h.2.2.1) 2 _ rfl, cell7 (h.2.2.1) 3 _ rfl, cell7 (h.2.2.1) 4 _ rfl, cell7 (h.2.2.1) 5 _ rfl, cell7 (h.2.2.1) 6 _ rfl, cell7 (h.2.2.1) 7 _ rfl, cell7 (h.2.2.1) 8 _ rfl, cell7 (h.2.2.1) 9 _ rfl, cell7 (h.2.2.1) 10 _ rfl, cell7 (h.2.2.1) 11 _ rfl, cell7 (h.2.2.1) 12 _ rfl, cell7 (h.2.2.1) 13 _ rfl⟩)
 have s0 : Below w.heap.size w ((((w.alloc (Obj.cells (pt c1 m1 X1 r1) 45)).alloc (Obj.cells (pt c2 m2 X2 r2) 45)).alloc (Obj.cells (rg false 0 0 false) 53))).drew ∧ ((((w.alloc (Obj.cells (pt c1 m1 X1 r1) 45)).alloc (Obj.cells (pt c2 m2 X2 r2) 45)).alloc (Obj.cells (rg false 0 0 false) 53))).drew.heap[w.heap.size]? = some (.cells (pt c1 m1 X1 r1) 45) ∧ ((((w.alloc (Obj.cells (pt c1 m1 X1 r1) 45)).alloc (Obj.cells (pt c2 m2 X2 r2) 45)).alloc (Obj.cells (rg false 0 0 false) 53))).drew.heap[w.heap.size + 1]? = some (.cells (pt c2 m2 X2 r2) 45) ∧ ((((w.alloc (Obj.cells (pt c1 m1 X1 r1) 45)).alloc (Obj.cells (pt c2 m2 X2 r2) 45)).alloc (Obj.cells (rg false 0 0 false) 53))).drew.heap[w.heap.size + 1 + 1]? = some (.cells (rg false 0 0 false) 53) := ⟨B0.drew, Ad, Ae, Aj⟩
 go_wp2_with fail
 go_region_held3 (fun W => Below w.heap.size w W ∧ W.heap[w.heap.size]? = some (.cells (pt c1 m1 X1 r1) 45) ∧ W.heap[w.heap.size + 1]? = some (.cells (pt c2 m2 X2 r2) 45) ∧ W.heap[w.heap.size + 1 + 1]? = some (.cells (rg false 0 0 false) 53) ∧ W.cell? ⟨w.heap.size, 0, none⟩ = some (.int .u8 c1) ∧ W.cell? ⟨w.heap.size, 1, none⟩ = some (.int .u64 (wd m1 0)) ∧ W.cell? ⟨w.heap.size, 2, none⟩ = some (.int .u64 (wd m1 1)) ∧ W.cell? ⟨w.heap.size, 3, none⟩ = some (.int .u64 (wd m1 2)) ∧ W.cell? ⟨w.heap.size, 4, none⟩ = some (.int .u64 (wd m1 3)) ∧ W.cell? ⟨w.heap.size, 5, none⟩ = some (.int .u64 (wd m1 4)) ∧ W.cell? ⟨w.heap.size, 6, none⟩ = some (.int .u64 (wd m1 5)) ∧ W.cell? ⟨w.heap.size, 7, none⟩ = some (.int .i64 X1) ∧ W.cell? ⟨w.heap.size, 8, none⟩ = some (.int .u64 (wd r1 0)) ∧ W.cell? ⟨w.heap.size, 9, none⟩ = some (.int .u64 (wd r1 1)) ∧ W.cell? ⟨w.heap.size, 10, none⟩ = some (.int .u64 (wd r1 2)) ∧ W.cell? ⟨w.heap.size, 11, none⟩ = some (.int .u64 (wd r1 3)) ∧ W.cell? ⟨w.heap.size, 12, none⟩ = some (.int .u64 (wd r1 4)) ∧ W.cell? ⟨w.heap.size, 13, none⟩ = some (.int .u64 (wd r1 5)) ∧ W.cell? ⟨w.heap.size + 1, 0, none⟩ = some (.int .u8 c2) ∧ W.cell? ⟨w.heap.size + 1, 1, none⟩ = some (.int .u64 (wd m2 0)) ∧ W.cell? ⟨w.heap.size + 1, 2, none⟩ = some (.int .u64 (wd m2 1)) ∧ W.cell? ⟨w.heap.size + 1, 3, none⟩ = some (.int .u64 (wd m2 2)) ∧ W.cell? ⟨w.heap.size + 1, 4, none⟩ = some (.int .u64 (wd m2 3)) ∧ W.cell? ⟨w.heap.size + 1, 5, none⟩ = some (.int .u64 (wd m2 4)) ∧ W.cell? ⟨w.heap.size + 1, 6, none⟩ = some (.int .u64 (wd m2 5)) ∧ W.cell? ⟨w.heap.size + 1, 7, none⟩ = some (.int .i64 X2) ∧ W.cell? ⟨w.heap.size + 1, 8, none⟩ = some (.int .u64 (wd r2 0)) ∧ W.cell? ⟨w.heap.size + 1, 9, none⟩ = some (.int .u64 (wd r2 1)) ∧ W.cell? ⟨w.heap.size + 1, 10, none⟩ = some (.int .u64 (wd r2 2)) ∧ W.cell? ⟨w.heap.size + 1, 11, none⟩ = some (.int .u64 (wd r2 3)) ∧ W.cell? ⟨w.heap.size + 1, 12, none⟩ = some (.int .u64 (wd r2 4)) ∧ W.cell? ⟨w.heap.size + 1, 13, none⟩ = some (.int .u64 (wd r2 5))) (first | exact sC.out _ s1 | exact sC.out _ s0)
  (((first | (go_at_call_of 53 (Value.agg (cw 6 m1)); refine (KL1.out _).mono ?_) | (go_at_call_of 53 (Value.agg (cw 6 m2)); refine (KL2.out _).mono ?_) | fail); rintro r wq ⟨rfl, bq⟩; (first | have s1 := sS.out _ _ s1 bq | have s1 := sS.out _ _ s0 bq); clear bq))
 have B1 := (And.left s1)
 have Af := s1.2.1
 have Ag := s1.2.2.1
 have Ah := s1.2.2.2
 clear s0 s1 sS sC B0 Ad Ak Al Am An Ao Ap Aq Ar As At Au Av Aw Ax Ae Ay Az AA AB AC AD AE AF AG AH AI AJ AK AL Aj
 obtain ⟨AM, AN, AO, AP, AQ, AR, AS, AT, AU, AV, AW, AX, AY, AZ⟩ := pt_cells Af
 obtain ⟨A0, A1, A2, A3, A4, A5, A6, A7, A8, A9, Ba, Bb, Bc, Bd⟩ := pt_cells Ag
 obtain ⟨Be, Bf, Bg, Bh, Bi, Bj, Bk, Bl, Bm⟩ := rg_cells Ah
 go_wp2_with fail
 refine (KD.out _).mono ?_
 rintro r w2 ⟨rfl, b2⟩
 have B2 := btr B1 b2
 obtain ⟨Aa, Ab, Ac⟩ := rws3 b2 Af Ag Ah
 clear b2 B1 Af AM AN AO AP AQ AR AS AT AU AV AW AX AY AZ Ag A0 A1 A2 A3 A4 A5 A6 A7 A8 A9 Ba Bb Bc Bd Ah Be Bf Bg Bh Bi Bj Bk Bl Bm
 obtain ⟨Bn, Bo, Bp, Bq, Br, Bs, Bt, Bu, Bv, Bw, Bx, By, Bz, BA⟩ := pt_cells Aa
 obtain ⟨BB, BC, BD, BE, BF, BG, BH, BI, BJ, BK, BL, BM, BN, BO⟩ := pt_cells Ab
 obtain ⟨BP, BQ, BR, BS, BT, BU, BV, BW, BX⟩ := rg_cells Ac
 have S3 := box B2.size
 have BY := ltR Aa
 have BZ := ltR Ab
 have B4 := ltR Ac
 have B5 := heap_alloc_last w2 (Obj.cells (cw 6 S) 43)
 have B3 := btr B2 (bal w2 (Obj.cells (cw 6 S) 43))
 obtain ⟨B6, B7, Ai⟩ := rws3 (bal w2 (Obj.cells (cw 6 S) 43)) Aa Ab Ac
 clear B2 Aa Bn Bo Bp Bq Br Bs Bt Bu Bv Bw Bx By Bz BA Ab BB BC BD BE BF BG BH BI BJ BK BL BM BN BO Ac BP BQ BR BS BT BU BV BW BX
 obtain ⟨Ca, Cb, Cc, Cd, Ce, Cf, Cg, Ch, Ci, Cj, Ck, Cl, Cm, Cn⟩ := pt_cells B6
 obtain ⟨Co, Cp, Cq, Cr, Cs, Ct, Cu, Cv, Cw, Cx, Cy, Cz, CA, CB⟩ := pt_cells B7
 obtain ⟨CC, CD, CE, CF, CG, CH, CI, CJ, CK⟩ := rg_cells Ai
 have CL := row_cell B5
 have hstz := st_r (w2.alloc (Obj.cells (cw 6 S) 43)) (w.heap.size + 1 + 1) neg S E more false 0 0 false Ai
 have RZ := setRow_row (c' := rg neg S E more) Ai
 obtain ⟨dz0, dz1, dz2, dz3, dz4, dz5, dz6, dz7, dz8⟩ := rg_cells RZ
 have bz := bel_set (c := rg neg S E more) B3 (show w.heap.size ≤ w.heap.size + 1 + 1 by first | exact Nat.le_refl _ | omega | (have := S3.out; have := BY.out; have := BZ.out; have := B4.out; omega))
 go_wp2
 exact bodyPost_ret (v := .agg (rg neg S E more)) (by simp [results, Tryd.results19, go_sem, dz0, dz1, dz2, dz3, dz4, dz5, dz6, dz7, dz8, rgf] <;> rfl) rfl ⟨rfl, bz⟩
theorem dv_all (f m : Int) (x1 y1 x2 y2 u v : Nat) (c1 m1 : Nat) (X1 : Int) (r1 c2 m2 : Nat) (X2 : Int) (r2 : Nat) (s1 s2 neg : Bool) (p1 p2 : Int) (S : Nat) (X fl : Int) (more : Bool) (w : World) (hng : (!(s1 == s2)) = neg)
  (KF : Box (∀ (T : TypeId) (g : Nat) (w : World), w.heap.size = g → FAt w → Calls Tryd.prog 12 #[.int .u8 f, .int .u8 m, .slice (some ⟨g, 0, none⟩) 2 2] (w.alloc (.cells #[.int .u64 x1, .int .u64 y1, .int .u64 x2, .int .u64 y2] T)) fun r w' => r = .returned (.bool true) ∧ Below w.heap.size w w'))
  (KU1 : Box (∀ w, FAt w → Calls Tryd.prog 13 #[.int .u8 f, .agg #[.int .u64 x1, .int .u64 y1]] w fun r w' => r = .returned (.tuple #[.agg (pt c1 m1 X1 r1), .int .i64 0]) ∧ Below w.heap.size w w'))
  (KU2 : Box (∀ w, FAt w → Calls Tryd.prog 13 #[.int .u8 f, .agg #[.int .u64 x2, .int .u64 y2]] w fun r w' => r = .returned (.tuple #[.agg (pt c2 m2 X2 r2), .int .i64 0]) ∧ Below w.heap.size w w'))
  (KS1 : Box (∀ w, FAt w → Calls Tryd.prog 14 #[.int .u8 f, .agg #[.int .u64 x1, .int .u64 y1]] w fun r w' => r = .returned (.bool s1) ∧ Below w.heap.size w w'))
  (KS2 : Box (∀ w, FAt w → Calls Tryd.prog 14 #[.int .u8 f, .agg #[.int .u64 x2, .int .u64 y2]] w fun r w' => r = .returned (.bool s2) ∧ Below w.heap.size w w'))
  (KP1 : Box (∀ w, Calls Tryd.prog 15 #[.int .u8 c1] w fun r w' => r = .returned (.int .u8 p1) ∧ Below w.heap.size w w'))
  (KP2 : Box (∀ w, Calls Tryd.prog 15 #[.int .u8 c2] w fun r w' => r = .returned (.int .u8 p2) ∧ Below w.heap.size w w'))
  (H : Box ((p1 = 7 ∧ p2 = 7 ∧ Box (∀ w, FAt w → Calls Tryd.prog 16 #[.int .u8 f] w fun r w' => r = .returned (.agg #[.int .u64 u, .int .u64 v]) ∧ Below w.heap.size w w') ∧ fl = 16) ∨
   (p1 = 4 ∧ p2 = 4 ∧ Box (∀ w, FAt w → Calls Tryd.prog 16 #[.int .u8 f] w fun r w' => r = .returned (.agg #[.int .u64 u, .int .u64 v]) ∧ Below w.heap.size w w') ∧ fl = 16) ∨
   (p1 = 7 ∧ p2 = 6 ∧ Box (∀ w, FAt w → Calls Tryd.prog 17 #[.int .u8 f, .bool neg] w fun r w' => r = .returned (.agg #[.int .u64 u, .int .u64 v]) ∧ Below w.heap.size w w') ∧ fl = 0) ∨
   (p1 = 7 ∧ p2 = 4 ∧ Box (∀ w, FAt w → Calls Tryd.prog 17 #[.int .u8 f, .bool neg] w fun r w' => r = .returned (.agg #[.int .u64 u, .int .u64 v]) ∧ Below w.heap.size w w') ∧ fl = 0) ∨
   (p1 = 6 ∧ p2 = 7 ∧ Box (∀ w, FAt w → Calls Tryd.prog 18 #[.int .u8 f, .int .u8 m, .agg (rg neg 0 0 false)] w fun r w' => r = .returned (.tuple #[.agg #[.int .u64 u, .int .u64 v], .int .u8 fl, .int .i64 0]) ∧ Below w.heap.size w w')) ∨
   (p1 = 4 ∧ p2 = 7 ∧ Box (∀ w, FAt w → Calls Tryd.prog 18 #[.int .u8 f, .int .u8 m, .agg (rg neg 0 0 false)] w fun r w' => r = .returned (.tuple #[.agg #[.int .u64 u, .int .u64 v], .int .u8 fl, .int .i64 0]) ∧ Below w.heap.size w w')) ∨
   (p1 = 4 ∧ p2 = 6 ∧ Box (∀ w, FAt w → Calls Tryd.prog 18 #[.int .u8 f, .int .u8 m, .agg (rg neg 0 0 false)] w fun r w' => r = .returned (.tuple #[.agg #[.int .u64 u, .int .u64 v], .int .u8 fl, .int .i64 0]) ∧ Below w.heap.size w w')) ∨
   (p1 = 6 ∧ p2 = 4 ∧ Box (∀ w, FAt w → Calls Tryd.prog 17 #[.int .u8 f, .bool neg] w fun r w' => r = .returned (.agg #[.int .u64 u, .int .u64 v]) ∧ Below w.heap.size w w') ∧ fl = 8) ∨
   (p1 = 6 ∧ p2 = 6 ∧ Box (∀ w, Calls Tryd.prog 19 #[.bool neg, .agg (pt c1 m1 X1 r1), .agg (pt c2 m2 X2 r2)] w fun r w' => r = .returned (.agg (rg neg S X more)) ∧ Below w.heap.size w w') ∧ Box (∀ w, FAt w → Calls Tryd.prog 18 #[.int .u8 f, .int .u8 m, .agg (rg neg S X more)] w fun r w' => r = .returned (.tuple #[.agg #[.int .u64 u, .int .u64 v], .int .u8 fl, .int .i64 0]) ∧ Below w.heap.size w w')) ∨
   ((p1 == 7) = false ∧ (p1 == 4) = false ∧ (p1 == 6) = false ∧ Box (∀ w, FAt w → Calls Tryd.prog 16 #[.int .u8 f] w fun r w' => r = .returned (.agg #[.int .u64 u, .int .u64 v]) ∧ Below w.heap.size w w') ∧ Box (∀ w, Calls Tryd.prog 20 #[.agg #[.int .u8 p1, .int .u8 p2]] w fun r w' => r = .returned (.int .u8 fl) ∧ Below w.heap.size w w')) ∨
   ((p2 == 7) = false ∧ (p2 == 4) = false ∧ (p2 == 6) = false ∧ Box (∀ w, FAt w → Calls Tryd.prog 16 #[.int .u8 f] w fun r w' => r = .returned (.agg #[.int .u64 u, .int .u64 v]) ∧ Below w.heap.size w w') ∧ Box (∀ w, Calls Tryd.prog 20 #[.agg #[.int .u8 p1, .int .u8 p2]] w fun r w' => r = .returned (.int .u8 fl) ∧ Below w.heap.size w w'))))
  (hT : FAt w) : Calls Tryd.prog 7 #[.int .u8 f, .int .u8 m, .agg #[.int .u64 x1, .int .u64 y1], .agg #[.int .u64 x2, .int .u64 y2]] w fun r w' => r = .returned (.tuple #[.agg #[.int .u64 u, .int .u64 v], .int .u8 fl, .int .i64 0]) ∧ Below w.heap.size w w' := by
 have FF := box hT
 clear hT
 have hat := cw_at 6
 have hz := cw6z
 have hff := cw6f
 have hs0 := st0
 have hcs : ∀ x, ((cw 6 x).size = 6) = True := fun x => eq_true (cw_size 6 x)
 have hp1 := rgf
 have hp3 := rgz
 have hzi := cw_zip
 have hls := rg_sets
 have hp5 : ∀ (c : Bool) (s : Nat) (x : Int) (r : Bool), ((rg c s x r).size = 9) = True := fun _ _ _ _ => eq_true rfl
 have AB := ptf
 have CJ := ptz
 have CK := st_p0
 have CL : ∀ (c s : Nat) (x : Int) (r : Nat), ((pt c s x r).size = 14) = True := fun _ _ _ _ => eq_true rfl
 obtain ⟨AN, AO, A4, B0⟩ := opn3 w (Obj.cells #[.int .u64 x1, .int .u64 y1] 26) (Obj.cells #[.int .u64 x2, .int .u64 y2] 26) (Obj.cells #[.int .u64 0, .int .u64 0] 26)
 go_enter Tryd.func7, Tryd.ntmps7
 obtain ⟨A9, Ba⟩ := cells2s AN
 obtain ⟨Bb, Bc⟩ := cells2s AO
 go_wp2_with fail
 refine (KF.out _ _ (((w.alloc (Obj.cells #[.int .u64 x1, .int .u64 y1] 26)).alloc (Obj.cells #[.int .u64 x2, .int .u64 y2] 26)).alloc (Obj.cells #[.int .u64 0, .int .u64 0] 26)) (by first | rfl | simp only [size_al]) (fatB FF.out B0)).mono ?_
 rintro r w1 ⟨rfl, b1⟩
 have B1 := btr B0 b1
 obtain ⟨AP, AQ, A5⟩ := rws3 b1 AN AO A4
 clear b1 B0 AN A9 Ba AO Bb Bc A4
 obtain ⟨Bd, Be⟩ := cells2s AP
 obtain ⟨Bf, Bg⟩ := cells2s AQ
 go_wp2_with fail
 refine (KU1.out _ (fatB FF.out B1)).mono ?_
 rintro r w2 ⟨rfl, b2⟩
 have B2 := btr B1 b2
 obtain ⟨AH, AI, AR⟩ := rws3 b2 AP AQ A5
 clear b2 B1 AP Bd Be AQ Bf Bg A5
 obtain ⟨Bh, Bi⟩ := cells2s AH
 obtain ⟨Bj, Bk⟩ := cells2s AI
 have S3 := box B2.size
 have Ak := ltR AH
 have Al := ltR AI
 have Am := ltR AR
 have AS := heap_alloc_last w2 (Obj.cells (pt c1 m1 X1 r1) 45)
 have B3 := btr B2 (bal w2 (Obj.cells (pt c1 m1 X1 r1) 45))
 obtain ⟨AT, AU, A6⟩ := rws3 (bal w2 (Obj.cells (pt c1 m1 X1 r1) 45)) AH AI AR
 clear B2 AH Bh Bi AI Bj Bk AR
 obtain ⟨Bl, Bm⟩ := cells2s AT
 obtain ⟨Bn, Bo⟩ := cells2s AU
 have Bp := (pt_cells AS).1
 go_wp2_with fail
 refine (KU2.out _ (fatB FF.out B3)).mono ?_
 rintro r w4 ⟨rfl, b4⟩
 have B4 := btr B3 b4
 obtain ⟨AJ, AK, AV, AL⟩ := rws4 b4 AT AU A6 AS
 clear b4 B3 AT Bl Bm AU Bn Bo A6 AS Bp
 obtain ⟨Bq, Br⟩ := cells2s AJ
 obtain ⟨Bs, Bt⟩ := cells2s AK
 have Bu := (pt_cells AL).1
 have S5 := box B4.size
 have An := ltR AJ
 have Ao := ltR AK
 have Ap := ltR AV
 have Aq := ltR AL
 have AW := heap_alloc_last w4 (Obj.cells (pt c2 m2 X2 r2) 45)
 have B5 := btr B4 (bal w4 (Obj.cells (pt c2 m2 X2 r2) 45))
 obtain ⟨AX, AY, A7, AZ⟩ := rws4 (bal w4 (Obj.cells (pt c2 m2 X2 r2) 45)) AJ AK AV AL
 clear B4 AJ Bq Br AK Bs Bt AV AL Bu
 obtain ⟨Bv, Bw⟩ := cells2s AX
 obtain ⟨Bx, By⟩ := cells2s AY
 have Bz := (pt_cells AZ).1
 have BA := (pt_cells AW).1
 have sS : Box (∀ W W1 : World, (Below w.heap.size w W ∧ W.heap[w.heap.size]? = some (.cells #[.int .u64 x1, .int .u64 y1] 26) ∧ W.heap[w.heap.size + 1]? = some (.cells #[.int .u64 x2, .int .u64 y2] 26) ∧ W.heap[w.heap.size + 1 + 1]? = some (.cells #[.int .u64 0, .int .u64 0] 26) ∧ W.heap[w2.heap.size]? = some (.cells (pt c1 m1 X1 r1) 45) ∧ W.heap[w4.heap.size]? = some (.cells (pt c2 m2 X2 r2) 45)) → Below W.heap.size W W1 → (Below w.heap.size w W1 ∧ W1.heap[w.heap.size]? = some (.cells #[.int .u64 x1, .int .u64 y1] 26) ∧ W1.heap[w.heap.size + 1]? = some (.cells #[.int .u64 x2, .int .u64 y2] 26) ∧ W1.heap[w.heap.size + 1 + 1]? = some (.cells #[.int .u64 0, .int .u64 0] 26) ∧ W1.heap[w2.heap.size]? = some (.cells (pt c1 m1 X1 r1) 45) ∧ W1.heap[w4.heap.size]? = some (.cells (pt c2 m2 X2 r2) 45))) := box (fun W W1 h b => ⟨btr h.1 b, heap_of b _ _ _ h.2.1, heap_of b _ _ _ h.2.2.1, heap_of b _ _ _ h.2.2.2.1, heap_of b _ _ _ h.2.2.2.2.1, heap_of b _ _ _ h.2.2.2.2.2⟩)
 have sC : Box (∀ W : World, (Below w.heap.size w W ∧ W.heap[w.heap.size]? = some (.cells #[.int .u64 x1, .int .u64 y1] 26) ∧ W.heap[w.heap.size + 1]? = some (.cells #[.int .u64 x2, .int .u64 y2] 26) ∧ W.heap[w.heap.size + 1 + 1]? = some (.cells #[.int .u64 0, .int .u64 0] 26) ∧ W.heap[w2.heap.size]? = some (.cells (pt c1 m1 X1 r1) 45) ∧ W.heap[w4.heap.size]? = some (.cells (pt c2 m2 X2 r2) 45)) → (Below w.heap.size w W ∧ W.heap[w.heap.size]? = some (.cells #[.int .u64 x1, .int .u64 y1] 26) ∧ W.heap[w.heap.size + 1]? = some (.cells #[.int .u64 x2, .int .u64 y2] 26) ∧ W.heap[w.heap.size + 1 + 1]? = some (.cells #[.int .u64 0, .int .u64 0] 26) ∧ W.heap[w2.heap.size]? = some (.cells (pt c1 m1 X1 r1) 45) ∧ W.heap[w4.heap.size]? = some (.cells (pt c2 m2 X2 r2) 45) ∧ W.cell? ⟨w.heap.size, 0, none⟩ = some (.int .u64 x1) ∧ W.cell? ⟨w.heap.size, 1, none⟩ = some (.int .u64 y1) ∧ W.cell? ⟨w.heap.size + 1, 0, none⟩ = some (.int .u64 x2) ∧ W.cell? ⟨w.heap.size + 1, 1, none⟩ = some (.int .u64 y2))) := box (fun W h => ⟨h.1, h.2.1, h.2.2.1, h.2.2.2.1, h.2.2.2.2.1, h.2.2.2.2.2, cell7 (h.2.1) 0 _ rfl, cell7 (h.2.1) 1 _ rfl, cell7 (h.2.2.1) 0 _ rfl, cell7 (h.2.2.1) 1 _ rfl⟩)
 have s0 : Below w.heap.size w ((w4.alloc (Obj.cells (pt c2 m2 X2 r2) 45))).drew ∧ ((w4.alloc (Obj.cells (pt c2 m2 X2 r2) 45))).drew.heap[w.heap.size]? = some (.cells #[.int .u64 x1, .int .u64 y1] 26) ∧ ((w4.alloc (Obj.cells (pt c2 m2 X2 r2) 45))).drew.heap[w.heap.size + 1]? = some (.cells #[.int .u64 x2, .int .u64 y2] 26) ∧ ((w4.alloc (Obj.cells (pt c2 m2 X2 r2) 45))).drew.heap[w.heap.size + 1 + 1]? = some (.cells #[.int .u64 0, .int .u64 0] 26) ∧ ((w4.alloc (Obj.cells (pt c2 m2 X2 r2) 45))).drew.heap[w2.heap.size]? = some (.cells (pt c1 m1 X1 r1) 45) ∧ ((w4.alloc (Obj.cells (pt c2 m2 X2 r2) 45))).drew.heap[w4.heap.size]? = some (.cells (pt c2 m2 X2 r2) 45) := ⟨B5.drew, AX, AY, A7, AZ, AW⟩
 go_wp2_with fail
 go_region_held3 (fun W => Below w.heap.size w W ∧ W.heap[w.heap.size]? = some (.cells #[.int .u64 x1, .int .u64 y1] 26) ∧ W.heap[w.heap.size + 1]? = some (.cells #[.int .u64 x2, .int .u64 y2] 26) ∧ W.heap[w.heap.size + 1 + 1]? = some (.cells #[.int .u64 0, .int .u64 0] 26) ∧ W.heap[w2.heap.size]? = some (.cells (pt c1 m1 X1 r1) 45) ∧ W.heap[w4.heap.size]? = some (.cells (pt c2 m2 X2 r2) 45) ∧ W.cell? ⟨w.heap.size, 0, none⟩ = some (.int .u64 x1) ∧ W.cell? ⟨w.heap.size, 1, none⟩ = some (.int .u64 y1) ∧ W.cell? ⟨w.heap.size + 1, 0, none⟩ = some (.int .u64 x2) ∧ W.cell? ⟨w.heap.size + 1, 1, none⟩ = some (.int .u64 y2)) (first | exact sC.out _ s1 | exact sC.out _ s0)
  (((first | (go_at_call_of 14 (Value.agg #[.int .u64 x1, .int .u64 y1]); (first | refine (KS1.out _ (fatB FF.out (And.left s1))).mono ?_ | refine (KS1.out _ (fatB FF.out (And.left s0))).mono ?_)) | (go_at_call_of 14 (Value.agg #[.int .u64 x2, .int .u64 y2]); (first | refine (KS2.out _ (fatB FF.out (And.left s1))).mono ?_ | refine (KS2.out _ (fatB FF.out (And.left s0))).mono ?_)) | fail); rintro r wq ⟨rfl, bq⟩; (first | have s1 := sS.out _ _ s1 bq | have s1 := sS.out _ _ s0 bq); clear bq))
 have B6 := (And.left s1)
 have A0 := s1.2.1
 have A1 := s1.2.2.1
 have A8 := s1.2.2.2.1
 have A2 := s1.2.2.2.2.1
 have A3 := s1.2.2.2.2.2
 clear s0 s1 sS sC B5 AX Bv Bw AY Bx By A7 AZ Bz AW BA
 obtain ⟨BB, BC⟩ := cells2s A0
 obtain ⟨BD, BE⟩ := cells2s A1
 have BF := (pt_cells A2).1
 have BG := (pt_cells A3).1
 clear BB BC
 clear BD BE
 have sS : Box (∀ W W1 : World, (Below w.heap.size w W ∧ W.heap[w.heap.size]? = some (.cells #[.int .u64 x1, .int .u64 y1] 26) ∧ W.heap[w.heap.size + 1]? = some (.cells #[.int .u64 x2, .int .u64 y2] 26) ∧ W.heap[w.heap.size + 1 + 1]? = some (.cells #[.int .u64 0, .int .u64 0] 26) ∧ W.heap[w2.heap.size]? = some (.cells (pt c1 m1 X1 r1) 45) ∧ W.heap[w4.heap.size]? = some (.cells (pt c2 m2 X2 r2) 45)) → Below W.heap.size W W1 → (Below w.heap.size w W1 ∧ W1.heap[w.heap.size]? = some (.cells #[.int .u64 x1, .int .u64 y1] 26) ∧ W1.heap[w.heap.size + 1]? = some (.cells #[.int .u64 x2, .int .u64 y2] 26) ∧ W1.heap[w.heap.size + 1 + 1]? = some (.cells #[.int .u64 0, .int .u64 0] 26) ∧ W1.heap[w2.heap.size]? = some (.cells (pt c1 m1 X1 r1) 45) ∧ W1.heap[w4.heap.size]? = some (.cells (pt c2 m2 X2 r2) 45))) := box (fun W W1 h b => ⟨btr h.1 b, heap_of b _ _ _ h.2.1, heap_of b _ _ _ h.2.2.1, heap_of b _ _ _ h.2.2.2.1, heap_of b _ _ _ h.2.2.2.2.1, heap_of b _ _ _ h.2.2.2.2.2⟩)
 have sL : Box (∀ W : World, (Below w.heap.size w W ∧ W.heap[w.heap.size]? = some (.cells #[.int .u64 x1, .int .u64 y1] 26) ∧ W.heap[w.heap.size + 1]? = some (.cells #[.int .u64 x2, .int .u64 y2] 26) ∧ W.heap[w.heap.size + 1 + 1]? = some (.cells #[.int .u64 0, .int .u64 0] 26) ∧ W.heap[w2.heap.size]? = some (.cells (pt c1 m1 X1 r1) 45) ∧ W.heap[w4.heap.size]? = some (.cells (pt c2 m2 X2 r2) 45)) → (w.heap.size < W.heap.size ∧ w.heap.size + 1 < W.heap.size ∧ w.heap.size + 1 + 1 < W.heap.size ∧ w2.heap.size < W.heap.size ∧ w4.heap.size < W.heap.size)) := box (fun W h => ⟨(Array.getElem?_eq_some_iff.1 h.2.1).1, (Array.getElem?_eq_some_iff.1 h.2.2.1).1, (Array.getElem?_eq_some_iff.1 h.2.2.2.1).1, (Array.getElem?_eq_some_iff.1 h.2.2.2.2.1).1, (Array.getElem?_eq_some_iff.1 h.2.2.2.2.2).1⟩)
 have sT : Box (∀ (W : World) (gN : Nat) (xA xB : Value), (Below w.heap.size w W ∧ W.heap[w.heap.size]? = some (.cells #[.int .u64 x1, .int .u64 y1] 26) ∧ W.heap[w.heap.size + 1]? = some (.cells #[.int .u64 x2, .int .u64 y2] 26) ∧ W.heap[w.heap.size + 1 + 1]? = some (.cells #[.int .u64 0, .int .u64 0] 26) ∧ W.heap[w2.heap.size]? = some (.cells (pt c1 m1 X1 r1) 45) ∧ W.heap[w4.heap.size]? = some (.cells (pt c2 m2 X2 r2) 45)) → (w.heap.size < gN ∧ w.heap.size + 1 < gN ∧ w.heap.size + 1 + 1 < gN ∧ w2.heap.size < gN ∧ w4.heap.size < gN) → (Below w.heap.size w ((W.setCell ⟨gN, 0, none⟩ xA).setCell ⟨gN, 1, none⟩ xB) ∧ ((W.setCell ⟨gN, 0, none⟩ xA).setCell ⟨gN, 1, none⟩ xB).heap[w.heap.size]? = some (.cells #[.int .u64 x1, .int .u64 y1] 26) ∧ ((W.setCell ⟨gN, 0, none⟩ xA).setCell ⟨gN, 1, none⟩ xB).heap[w.heap.size + 1]? = some (.cells #[.int .u64 x2, .int .u64 y2] 26) ∧ ((W.setCell ⟨gN, 0, none⟩ xA).setCell ⟨gN, 1, none⟩ xB).heap[w.heap.size + 1 + 1]? = some (.cells #[.int .u64 0, .int .u64 0] 26) ∧ ((W.setCell ⟨gN, 0, none⟩ xA).setCell ⟨gN, 1, none⟩ xB).heap[w2.heap.size]? = some (.cells (pt c1 m1 X1 r1) 45) ∧ ((W.setCell ⟨gN, 0, none⟩ xA).setCell ⟨gN, 1, none⟩ xB).heap[w4.heap.size]? = some (.cells (pt c2 m2 X2 r2) 45))) := box (fun W gN xA xB h l => ⟨set2_below h.1 (show w.heap.size ≤ gN by have := l.1; omega) _ _, (setCell_other (by have := l.1; omega)).trans ((setCell_other (by have := l.1; omega)).trans h.2.1), (setCell_other (by have := l.2.1; omega)).trans ((setCell_other (by have := l.2.1; omega)).trans h.2.2.1), (setCell_other (by have := l.2.2.1; omega)).trans ((setCell_other (by have := l.2.2.1; omega)).trans h.2.2.2.1), (setCell_other (by have := l.2.2.2.1; omega)).trans ((setCell_other (by have := l.2.2.2.1; omega)).trans h.2.2.2.2.1), (setCell_other (by have := l.2.2.2.2; omega)).trans ((setCell_other (by have := l.2.2.2.2; omega)).trans h.2.2.2.2.2)⟩)
 have sC : Box (∀ W : World, (Below w.heap.size w W ∧ W.heap[w.heap.size]? = some (.cells #[.int .u64 x1, .int .u64 y1] 26) ∧ W.heap[w.heap.size + 1]? = some (.cells #[.int .u64 x2, .int .u64 y2] 26) ∧ W.heap[w.heap.size + 1 + 1]? = some (.cells #[.int .u64 0, .int .u64 0] 26) ∧ W.heap[w2.heap.size]? = some (.cells (pt c1 m1 X1 r1) 45) ∧ W.heap[w4.heap.size]? = some (.cells (pt c2 m2 X2 r2) 45)) → (Below w.heap.size w W ∧ W.heap[w.heap.size]? = some (.cells #[.int .u64 x1, .int .u64 y1] 26) ∧ W.heap[w.heap.size + 1]? = some (.cells #[.int .u64 x2, .int .u64 y2] 26) ∧ W.heap[w.heap.size + 1 + 1]? = some (.cells #[.int .u64 0, .int .u64 0] 26) ∧ W.heap[w2.heap.size]? = some (.cells (pt c1 m1 X1 r1) 45) ∧ W.heap[w4.heap.size]? = some (.cells (pt c2 m2 X2 r2) 45) ∧ W.cell? ⟨w.heap.size, 0, none⟩ = some (.int .u64 x1) ∧ W.cell? ⟨w.heap.size, 1, none⟩ = some (.int .u64 y1) ∧ W.cell? ⟨w.heap.size + 1, 0, none⟩ = some (.int .u64 x2) ∧ W.cell? ⟨w.heap.size + 1, 1, none⟩ = some (.int .u64 y2) ∧ W.cell? ⟨w.heap.size + 1 + 1, 0, none⟩ = some (.int .u64 0) ∧ W.cell? ⟨w.heap.size + 1 + 1, 1, none⟩ = some (.int .u64 0) ∧ W.cell? ⟨w2.heap.size, 0, none⟩ = some (.int .u8 c1) ∧ W.cell? ⟨w2.heap.size, 1, none⟩ = some (.int .u64 (wd m1 0)) ∧ W.cell? ⟨w2.heap.size, 2, none⟩ = some (.int .u64 (wd m1 1)) ∧ W.cell? ⟨w2.heap.size, 3, none⟩ = some (.int .u64 (wd m1 2)) ∧ W.cell? ⟨w2.heap.size, 4, none⟩ = some (.int .u64 (wd m1 3)) ∧ W.cell? ⟨w2.heap.size, 5, none⟩ = some (.int .u64 (wd m1 4)) ∧ W.cell? ⟨w2.heap.size, 6, none⟩ = some (.int .u64 (wd m1 5)) ∧ W.cell? ⟨w2.heap.size, 7, none⟩ = some (.int .i64 X1) ∧ W.cell? ⟨w2.heap.size, 8, none⟩ = some (.int .u64 (wd r1 0)) ∧ W.cell? ⟨w2.heap.size, 9, none⟩ = some (.int .u64 (wd r1 1)) ∧ W.cell? ⟨w2.heap.size, 10, none⟩ = some (.int .u64 (wd r1 2)) ∧ W.cell? ⟨w2.heap.size, 11, none⟩ = some (.int .u64 (wd r1 3)) ∧ W.cell? ⟨w2.heap.size, 12, none⟩ = some (.int .u64 (wd r1 4)) ∧ W.cell? ⟨w2.heap.size, 13, none⟩ = some (.int .u64 (wd r1 5)) ∧ W.cell? ⟨w4.heap.size, 0, none⟩ = some (.int .u8 c2) ∧ W.cell? ⟨w4.heap.size, 1, none⟩ = some (.int .u64 (wd m2 0)) ∧ W.cell? ⟨w4.heap.size, 2, none⟩ = some (.int .u64 (wd m2 1)) ∧ W.cell? ⟨w4.heap.size, 3, none⟩ = some (.int .u64 (wd m2 2)) ∧ W.cell? ⟨w4.heap.size, 4, none⟩ = some (.int .u64 (wd m2 3)) ∧ W.cell? ⟨w4.heap.size, 5, none⟩ = some (.int .u64 (wd m2 4)) ∧ W.cell? ⟨w4.heap.size, 6, none⟩ = some (.int .u64 (wd m2 5)) ∧ W.cell? ⟨w4.heap.size, 7, none⟩ = some (.int .i64 X2) ∧ W.cell? ⟨w4.heap.size, 8, none⟩ = some (.int .u64 (wd r2 0)) ∧ W.cell? ⟨w4.heap.size, 9, none⟩ = some (.int .u64 (wd r2 1)) ∧ W.cell? ⟨w4.heap.size, 10, none⟩ = some (.int .u64 (wd r2 2)) ∧ W.cell? ⟨w4.heap.size, 11, none⟩ = some (.int .u64 (wd r2 3)) ∧ W.cell? ⟨w4.heap.size, 12, none⟩ = some (.int .u64 (wd r2 4)) ∧ W.cell? ⟨w4.heap.size, 13, none⟩ = some (.int .u64 (wd r2 5)))) := box (fun W h => ⟨h.1, h.2.1, h.2.2.1, h.2.2.2.1, h.2.2.2.2.1, h.2.2.2.2.2, cell7 (h.2.1) 0 _ rfl, cell7 (h.2.1) 1 _ rfl, cell7 (h.2.2.1) 0 _ rfl, cell7 (h.2.2.1) 1 _ rfl, cell7 (h.2.2.2.1) 0 _ rfl, cell7 (h.2.2.2.1) 1 _ rfl, cell7 (h.2.2.2.2.1) 0 _ rfl, cell7 (h.2.2.2.2.1) 1 _ rfl, cell7 (h.2.2.2.2.1) 2 _ rfl, cell7 (h.2.2.2.2.1) 3 _ rfl, cell7 (h.2.2.2.2.1) 4 _ rfl, cell7 (h.2.2.2.2.1) 5 _ rfl, cell7 (h.2.2.2.2.1) 6 _ rfl, cell7 (h.2.2.2.2.1) 7 _ rfl, cell7 (h.2.2.2.2.1) 8 _ rfl, cell7 (h.2.2.2.2.1) 9 _ rfl, cell7 (h.2.2.2.2.1) 10 _ rfl, cell7 (h.2.2.2.2.1) 11 _ rfl, cell7 (h.2.2.2.2.1) 12 _ rfl, cell7 (h.2.2.2.2.1) 13 _ rfl, cell7 (h.2.2.2.2.2) 0 _ rfl, cell7 (h.2.2.2.2.2) 1 _ rfl, cell7 (h.2.2.2.2.2) 2 _ rfl, cell7 (h.2.2.2.2.2) 3 _ rfl, cell7 (h.2.2.2.2.2) 4 _ rfl, cell7 (h.2.2.2.2.2) 5 _ rfl, cell7 (h.2.2.2.2.2) 6 _ rfl, cell7 (h.2.2.2.2.2) 7 _ rfl, cell7 (h.2.2.2.2.2) 8 _ rfl, cell7 (h.2.2.2.2.2) 9 _ rfl, cell7 (h.2.2.2.2.2) 10 _ rfl, cell7 (h.2.2.2.2.2) 11 _ rfl, cell7 (h.2.2.2.2.2) 12 _ rfl, cell7 (h.2.2.2.2.2) 13 _ rfl⟩)
 have s0 : Below w.heap.size w (wq).drew ∧ (wq).drew.heap[w.heap.size]? = some (.cells #[.int .u64 x1, .int .u64 y1] 26) ∧ (wq).drew.heap[w.heap.size + 1]? = some (.cells #[.int .u64 x2, .int .u64 y2] 26) ∧ (wq).drew.heap[w.heap.size + 1 + 1]? = some (.cells #[.int .u64 0, .int .u64 0] 26) ∧ (wq).drew.heap[w2.heap.size]? = some (.cells (pt c1 m1 X1 r1) 45) ∧ (wq).drew.heap[w4.heap.size]? = some (.cells (pt c2 m2 X2 r2) 45) := ⟨B6.drew, A0, A1, A8, A2, A3⟩
 clear B6 A0 A1 A8 A2 BF A3 BG
 go_wp2_with fail
 apply cut7
 ·
  intro key0
  have key := box key0
  clear key0
  go_region_held3 (fun W => Below w.heap.size w W ∧ W.heap[w.heap.size]? = some (.cells #[.int .u64 x1, .int .u64 y1] 26) ∧ W.heap[w.heap.size + 1]? = some (.cells #[.int .u64 x2, .int .u64 y2] 26) ∧ W.heap[w.heap.size + 1 + 1]? = some (.cells #[.int .u64 0, .int .u64 0] 26) ∧ W.heap[w2.heap.size]? = some (.cells (pt c1 m1 X1 r1) 45) ∧ W.heap[w4.heap.size]? = some (.cells (pt c2 m2 X2 r2) 45) ∧ W.cell? ⟨w.heap.size, 0, none⟩ = some (.int .u64 x1) ∧ W.cell? ⟨w.heap.size, 1, none⟩ = some (.int .u64 y1) ∧ W.cell? ⟨w.heap.size + 1, 0, none⟩ = some (.int .u64 x2) ∧ W.cell? ⟨w.heap.size + 1, 1, none⟩ = some (.int .u64 y2) ∧ W.cell? ⟨w.heap.size + 1 + 1, 0, none⟩ = some (.int .u64 0) ∧ W.cell? ⟨w.heap.size + 1 + 1, 1, none⟩ = some (.int .u64 0) ∧ W.cell? ⟨w2.heap.size, 0, none⟩ = some (.int .u8 c1) ∧ W.cell? ⟨w2.heap.size, 1, none⟩ = some (.int .u64 (wd m1 0)) ∧ W.cell? ⟨w2.heap.size, 2, none⟩ = some (.int .u64 (wd m1 1)) ∧ W.cell? ⟨w2.heap.size, 3, none⟩ = some (.int .u64 (wd m1 2)) ∧ W.cell? ⟨w2.heap.size, 4, none⟩ = some (.int .u64 (wd m1 3)) ∧ W.cell? ⟨w2.heap.size, 5, none⟩ = some (.int .u64 (wd m1 4)) ∧ W.cell? ⟨w2.heap.size, 6, none⟩ = some (.int .u64 (wd m1 5)) ∧ W.cell? ⟨w2.heap.size, 7, none⟩ = some (.int .i64 X1) ∧ W.cell? ⟨w2.heap.size, 8, none⟩ = some (.int .u64 (wd r1 0)) ∧ W.cell? ⟨w2.heap.size, 9, none⟩ = some (.int .u64 (wd r1 1)) ∧ W.cell? ⟨w2.heap.size, 10, none⟩ = some (.int .u64 (wd r1 2)) ∧ W.cell? ⟨w2.heap.size, 11, none⟩ = some (.int .u64 (wd r1 3)) ∧ W.cell? ⟨w2.heap.size, 12, none⟩ = some (.int .u64 (wd r1 4)) ∧ W.cell? ⟨w2.heap.size, 13, none⟩ = some (.int .u64 (wd r1 5)) ∧ W.cell? ⟨w4.heap.size, 0, none⟩ = some (.int .u8 c2) ∧ W.cell? ⟨w4.heap.size, 1, none⟩ = some (.int .u64 (wd m2 0)) ∧ W.cell? ⟨w4.heap.size, 2, none⟩ = some (.int .u64 (wd m2 1)) ∧ W.cell? ⟨w4.heap.size, 3, none⟩ = some (.int .u64 (wd m2 2)) ∧ W.cell? ⟨w4.heap.size, 4, none⟩ = some (.int .u64 (wd m2 3)) ∧ W.cell? ⟨w4.heap.size, 5, none⟩ = some (.int .u64 (wd m2 4)) ∧ W.cell? ⟨w4.heap.size, 6, none⟩ = some (.int .u64 (wd m2 5)) ∧ W.cell? ⟨w4.heap.size, 7, none⟩ = some (.int .i64 X2) ∧ W.cell? ⟨w4.heap.size, 8, none⟩ = some (.int .u64 (wd r2 0)) ∧ W.cell? ⟨w4.heap.size, 9, none⟩ = some (.int .u64 (wd r2 1)) ∧ W.cell? ⟨w4.heap.size, 10, none⟩ = some (.int .u64 (wd r2 2)) ∧ W.cell? ⟨w4.heap.size, 11, none⟩ = some (.int .u64 (wd r2 3)) ∧ W.cell? ⟨w4.heap.size, 12, none⟩ = some (.int .u64 (wd r2 4)) ∧ W.cell? ⟨w4.heap.size, 13, none⟩ = some (.int .u64 (wd r2 5))) (first | exact sC.out _ s1 | exact sC.out _ s0 | exact sC.out _ (sS.out _ _ s1 (bal _ _)) | exact sC.out _ (sS.out _ _ s0 (bal _ _)) | exact sC.out _ (sT.out _ _ _ _ s1 hl))
   (((first | (go_at_call_of 15 (Value.int .u8 c1); (first | refine (KP1.out _).mono ?_ | refine (KP1.out _).mono ?_)) | (go_at_call_of 15 (Value.int .u8 c2); (first | refine (KP2.out _).mono ?_ | refine (KP2.out _).mono ?_)) | fail); rintro r wq ⟨rfl, bq⟩; (first | (have hg := heap_of bq _ _ _ (heap_alloc_last _ _); have hl := (by first | exact sL.out _ s1 | exact sL.out _ s0)) | have hg := heap_of bq _ _ _ hg | skip); (try simp only [size_dr, size_al] at hg hl); (first | (have AC := fz (k := 0) hg; have AB := fz (k := 1) hg; have AD := cell7 hg 0 _ rfl; have AE := cell7 hg 1 _ rfl) | skip); have s2 := (by first | exact sS.out _ _ s1 bq | exact sS.out _ _ s0 bq | exact sS.out _ _ (sS.out _ _ s1 (bal _ _)) bq | exact sS.out _ _ (sS.out _ _ s0 (bal _ _)) bq); (try clear s1); have s1 := s2; clear s2 bq))
  all_goals
   refine gen_div_Div_16 (R := fun W gN => (Below w.heap.size w W ∧ W.heap[w.heap.size]? = some (.cells #[.int .u64 x1, .int .u64 y1] 26) ∧ W.heap[w.heap.size + 1]? = some (.cells #[.int .u64 x2, .int .u64 y2] 26) ∧ W.heap[w.heap.size + 1 + 1]? = some (.cells #[.int .u64 0, .int .u64 0] 26) ∧ W.heap[w2.heap.size]? = some (.cells (pt c1 m1 X1 r1) 45) ∧ W.heap[w4.heap.size]? = some (.cells (pt c2 m2 X2 r2) 45)) ∧ W.heap[gN]? = some (.cells #[.int .u8 p1, .int .u8 p2] 50) ∧ (w.heap.size < gN ∧ w.heap.size + 1 < gN ∧ w.heap.size + 1 + 1 < gN ∧ w2.heap.size < gN ∧ w4.heap.size < gN)) key.out ?_
   first
    | exact ⟨(sT.out _ _ _ _ s1 hl), set2_row hg _ _, hl⟩
    | exact ⟨sS.out _ _ s1 (bal _ _), heap_alloc_last _ _, sL.out _ s1⟩
    | exact ⟨sS.out _ _ s0 (bal _ _), heap_alloc_last _ _, sL.out _ s0⟩
 rintro w7 g7 ⟨s1, Ad, l7⟩
 have B7 := And.left s1
 have Ae := s1.2.1
 have Af := s1.2.2.1
 have Ag := s1.2.2.2.1
 have Ab := s1.2.2.2.2.1
 have Ac := s1.2.2.2.2.2
 have H7 := box l7
 clear s0 s1 sS sC sL sT l7
 have Ar := (pt_cells Ab).1
 have As := (pt_cells Ac).1
 obtain ⟨Av, Aw⟩ := cells2s Ad
 rcases H.out with ⟨rfl, rfl, KN, rfl⟩ | ⟨rfl, rfl, KN, rfl⟩ | ⟨rfl, rfl, KI, rfl⟩ | ⟨rfl, rfl, KI, rfl⟩ | ⟨rfl, rfl, KZ⟩ | ⟨rfl, rfl, KZ⟩ | ⟨rfl, rfl, KZ⟩ | ⟨rfl, rfl, KI, rfl⟩ | ⟨rfl, rfl, KX, KP⟩ | ⟨h7, h4, h6, KN, KF2⟩ | ⟨h7, h4, h6, KN, KF2⟩
 ·
  clear H
  go_wp2_with fail
  refine (KN.out _ (fatB FF.out B7)).mono ?_
  rintro r w8 ⟨rfl, b8⟩
  have B8 := btr B7 b8
  obtain ⟨At, Au, Aa, Ah, Ai, Aj⟩ := rws6 b8 Ae Af Ag Ab Ac Ad
  clear b8 B7 Ae Af Ag Ab Ar Ac As Ad Av Aw
  have Ax := (pt_cells Ah).1
  have Ay := (pt_cells Ai).1
  obtain ⟨Az, AA⟩ := cells2s Aj
  obtain ⟨AF, AG⟩ := cells2s Aa
  have q0 := fz (k := 0) Aa
  have q1 := fz (k := 1) Aa
  obtain ⟨E0, E1⟩ := set2_cells Aa (.int .u64 u) (.int .u64 v)
  go_wp2
  exact bodyPost_ret (v := .tuple #[.agg #[.int .u64 u, .int .u64 v], .int .u8 16, .int .i64 0]) (by simp [results, Tryd.results7, go_sem, E0, E1]) rfl ⟨rfl, set2_below B8 (by first | exact Nat.le_refl _ | omega | (have := S3.out; have := Ak.out; have := Al.out; have := Am.out; have := S5.out; have := An.out; have := Ao.out; have := Ap.out; have := Aq.out; have := H7.out; omega)) _ _⟩
 ·
  clear H
  go_wp2_with fail
  refine (KN.out _ (fatB FF.out B7)).mono ?_
  rintro r w8 ⟨rfl, b8⟩
  have B8 := btr B7 b8
  obtain ⟨At, Au, Aa, Ah, Ai, Aj⟩ := rws6 b8 Ae Af Ag Ab Ac Ad
  clear b8 B7 Ae Af Ag Ab Ar Ac As Ad Av Aw
  have Ax := (pt_cells Ah).1
  have Ay := (pt_cells Ai).1
  obtain ⟨Az, AA⟩ := cells2s Aj
  obtain ⟨AF, AG⟩ := cells2s Aa
  have q0 := fz (k := 0) Aa
  have q1 := fz (k := 1) Aa
  obtain ⟨E0, E1⟩ := set2_cells Aa (.int .u64 u) (.int .u64 v)
  go_wp2
  exact bodyPost_ret (v := .tuple #[.agg #[.int .u64 u, .int .u64 v], .int .u8 16, .int .i64 0]) (by simp [results, Tryd.results7, go_sem, E0, E1]) rfl ⟨rfl, set2_below B8 (by first | exact Nat.le_refl _ | omega | (have := S3.out; have := Ak.out; have := Al.out; have := Am.out; have := S5.out; have := An.out; have := Ao.out; have := Ap.out; have := Aq.out; have := H7.out; omega)) _ _⟩
 ·
  clear H
  go_wp2_with fail
  refine (KI.out _ (fatB FF.out B7)).mono ?_
  rintro r w8 ⟨rfl, b8⟩
  have B8 := btr B7 b8
  obtain ⟨At, Au, Aa, Ah, Ai, Aj⟩ := rws6 b8 Ae Af Ag Ab Ac Ad
  clear b8 B7 Ae Af Ag Ab Ar Ac As Ad Av Aw
  have Ax := (pt_cells Ah).1
  have Ay := (pt_cells Ai).1
  obtain ⟨Az, AA⟩ := cells2s Aj
  obtain ⟨AF, AG⟩ := cells2s Aa
  have q0 := fz (k := 0) Aa
  have q1 := fz (k := 1) Aa
  obtain ⟨E0, E1⟩ := set2_cells Aa (.int .u64 u) (.int .u64 v)
  go_wp2
  exact bodyPost_ret (v := .tuple #[.agg #[.int .u64 u, .int .u64 v], .int .u8 0, .int .i64 0]) (by simp [results, Tryd.results7, go_sem, E0, E1]) rfl ⟨rfl, set2_below B8 (by first | exact Nat.le_refl _ | omega | (have := S3.out; have := Ak.out; have := Al.out; have := Am.out; have := S5.out; have := An.out; have := Ao.out; have := Ap.out; have := Aq.out; have := H7.out; omega)) _ _⟩
 ·
  clear H
  go_wp2_with fail
  refine (KI.out _ (fatB FF.out B7)).mono ?_
  rintro r w8 ⟨rfl, b8⟩
  have B8 := btr B7 b8
  obtain ⟨At, Au, Aa, Ah, Ai, Aj⟩ := rws6 b8 Ae Af Ag Ab Ac Ad
  clear b8 B7 Ae Af Ag Ab Ar Ac As Ad Av Aw
  have Ax := (pt_cells Ah).1
  have Ay := (pt_cells Ai).1
  obtain ⟨Az, AA⟩ := cells2s Aj
  obtain ⟨AF, AG⟩ := cells2s Aa
  have q0 := fz (k := 0) Aa
  have q1 := fz (k := 1) Aa
  obtain ⟨E0, E1⟩ := set2_cells Aa (.int .u64 u) (.int .u64 v)
  go_wp2
  exact bodyPost_ret (v := .tuple #[.agg #[.int .u64 u, .int .u64 v], .int .u8 0, .int .i64 0]) (by simp [results, Tryd.results7, go_sem, E0, E1]) rfl ⟨rfl, set2_below B8 (by first | exact Nat.le_refl _ | omega | (have := S3.out; have := Ak.out; have := Al.out; have := Am.out; have := S5.out; have := An.out; have := Ao.out; have := Ap.out; have := Aq.out; have := H7.out; omega)) _ _⟩
 ·
  clear H
  go_wp2_with fail
  refine (KZ.out _ (fatB FF.out B7)).mono ?_
  rintro r w8 ⟨rfl, b8⟩
  have B8 := btr B7 b8
  obtain ⟨At, Au, Aa, Ah, Ai, Aj⟩ := rws6 b8 Ae Af Ag Ab Ac Ad
  clear b8 B7 Ae Af Ag Ab Ar Ac As Ad Av Aw
  have Ax := (pt_cells Ah).1
  have Ay := (pt_cells Ai).1
  obtain ⟨Az, AA⟩ := cells2s Aj
  obtain ⟨AF, AG⟩ := cells2s Aa
  have q0 := fz (k := 0) Aa
  have q1 := fz (k := 1) Aa
  obtain ⟨E0, E1⟩ := set2_cells Aa (.int .u64 u) (.int .u64 v)
  go_wp2
  exact bodyPost_ret (v := .tuple #[.agg #[.int .u64 u, .int .u64 v], .int .u8 fl, .int .i64 0]) (by simp [results, Tryd.results7, go_sem, E0, E1]) rfl ⟨rfl, set2_below B8 (by first | exact Nat.le_refl _ | omega | (have := S3.out; have := Ak.out; have := Al.out; have := Am.out; have := S5.out; have := An.out; have := Ao.out; have := Ap.out; have := Aq.out; have := H7.out; omega)) _ _⟩
 ·
  clear H
  go_wp2_with fail
  refine (KZ.out _ (fatB FF.out B7)).mono ?_
  rintro r w8 ⟨rfl, b8⟩
  have B8 := btr B7 b8
  obtain ⟨At, Au, Aa, Ah, Ai, Aj⟩ := rws6 b8 Ae Af Ag Ab Ac Ad
  clear b8 B7 Ae Af Ag Ab Ar Ac As Ad Av Aw
  have Ax := (pt_cells Ah).1
  have Ay := (pt_cells Ai).1
  obtain ⟨Az, AA⟩ := cells2s Aj
  obtain ⟨AF, AG⟩ := cells2s Aa
  have q0 := fz (k := 0) Aa
  have q1 := fz (k := 1) Aa
  obtain ⟨E0, E1⟩ := set2_cells Aa (.int .u64 u) (.int .u64 v)
  go_wp2
  exact bodyPost_ret (v := .tuple #[.agg #[.int .u64 u, .int .u64 v], .int .u8 fl, .int .i64 0]) (by simp [results, Tryd.results7, go_sem, E0, E1]) rfl ⟨rfl, set2_below B8 (by first | exact Nat.le_refl _ | omega | (have := S3.out; have := Ak.out; have := Al.out; have := Am.out; have := S5.out; have := An.out; have := Ao.out; have := Ap.out; have := Aq.out; have := H7.out; omega)) _ _⟩
 ·
  clear H
  go_wp2_with fail
  refine (KZ.out _ (fatB FF.out B7)).mono ?_
  rintro r w8 ⟨rfl, b8⟩
  have B8 := btr B7 b8
  obtain ⟨At, Au, Aa, Ah, Ai, Aj⟩ := rws6 b8 Ae Af Ag Ab Ac Ad
  clear b8 B7 Ae Af Ag Ab Ar Ac As Ad Av Aw
  have Ax := (pt_cells Ah).1
  have Ay := (pt_cells Ai).1
  obtain ⟨Az, AA⟩ := cells2s Aj
  obtain ⟨AF, AG⟩ := cells2s Aa
  have q0 := fz (k := 0) Aa
  have q1 := fz (k := 1) Aa
  obtain ⟨E0, E1⟩ := set2_cells Aa (.int .u64 u) (.int .u64 v)
  go_wp2
  exact bodyPost_ret (v := .tuple #[.agg #[.int .u64 u, .int .u64 v], .int .u8 fl, .int .i64 0]) (by simp [results, Tryd.results7, go_sem, E0, E1]) rfl ⟨rfl, set2_below B8 (by first | exact Nat.le_refl _ | omega | (have := S3.out; have := Ak.out; have := Al.out; have := Am.out; have := S5.out; have := An.out; have := Ao.out; have := Ap.out; have := Aq.out; have := H7.out; omega)) _ _⟩
 ·
  clear H
  go_wp2_with fail
  refine (KI.out _ (fatB FF.out B7)).mono ?_
  rintro r w8 ⟨rfl, b8⟩
  have B8 := btr B7 b8
  obtain ⟨At, Au, Aa, Ah, Ai, Aj⟩ := rws6 b8 Ae Af Ag Ab Ac Ad
  clear b8 B7 Ae Af Ag Ab Ar Ac As Ad Av Aw
  have Ax := (pt_cells Ah).1
  have Ay := (pt_cells Ai).1
  obtain ⟨Az, AA⟩ := cells2s Aj
  obtain ⟨AF, AG⟩ := cells2s Aa
  have q0 := fz (k := 0) Aa
  have q1 := fz (k := 1) Aa
  obtain ⟨E0, E1⟩ := set2_cells Aa (.int .u64 u) (.int .u64 v)
  go_wp2
  exact bodyPost_ret (v := .tuple #[.agg #[.int .u64 u, .int .u64 v], .int .u8 8, .int .i64 0]) (by simp [results, Tryd.results7, go_sem, E0, E1]) rfl ⟨rfl, set2_below B8 (by first | exact Nat.le_refl _ | omega | (have := S3.out; have := Ak.out; have := Al.out; have := Am.out; have := S5.out; have := An.out; have := Ao.out; have := Ap.out; have := Aq.out; have := H7.out; omega)) _ _⟩
 ·
  clear H
  obtain ⟨Ar, BH, BI, BJ, BK, BL, BM, BN, BO, BP, BQ, BR, BS, BT⟩ := pt_cells Ab
  obtain ⟨As, BU, BV, BW, BX, BY, Ca, Cb, Cc, Cd, Ce, Cf, Cg, Ch⟩ := pt_cells Ac
  go_wp2_with fail
  refine (KX.out _).mono ?_
  rintro r w8 ⟨rfl, b8⟩
  have B8 := btr B7 b8
  obtain ⟨At, Au, Aa, Ah, Ai, Aj⟩ := rws6 b8 Ae Af Ag Ab Ac Ad
  clear b8 B7 Ae Af Ag Ab Ar BH BI BJ BK BL BM BN BO BP BQ BR BS BT Ac As BU BV BW BX BY Ca Cb Cc Cd Ce Cf Cg Ch Ad Av Aw
  obtain ⟨Ax, Ci, Cj, Ck, Cl, Cm, Cn, Co, Cp, Cq, Cr, Cs, Ct, Cu⟩ := pt_cells Ah
  obtain ⟨Ay, Cv, Cw, Cx, Cy, Cz, CA, CB, CC, CD, CE, CF, CG, CH⟩ := pt_cells Ai
  obtain ⟨Az, AA⟩ := cells2s Aj
  clear Ax Ci Cj Ck Cl Cm Cn Co Cp Cq Cr Cs Ct Cu
  clear Ay Cv Cw Cx Cy Cz CA CB CC CD CE CF CG CH
  go_wp2_with fail
  refine (KP.out _ (fatB FF.out B8)).mono ?_
  rintro r w9 ⟨rfl, b9⟩
  have B9 := btr B8 b9
  obtain ⟨CM, CN, AM, CO, CP, CI⟩ := rws6 b9 At Au Aa Ah Ai Aj
  clear b9 B8 At Au Aa Ah Ai Aj Az AA
  obtain ⟨CQ, CR⟩ := cells2s CI
  obtain ⟨CS, CT⟩ := cells2s AM
  have q0 := fz (k := 0) AM
  have q1 := fz (k := 1) AM
  obtain ⟨E0, E1⟩ := set2_cells AM (.int .u64 u) (.int .u64 v)
  go_wp2
  exact bodyPost_ret (v := .tuple #[.agg #[.int .u64 u, .int .u64 v], .int .u8 fl, .int .i64 0]) (by simp [results, Tryd.results7, go_sem, E0, E1]) rfl ⟨rfl, set2_below B9 (by first | exact Nat.le_refl _ | omega | (have := S3.out; have := Ak.out; have := Al.out; have := Am.out; have := S5.out; have := An.out; have := Ao.out; have := Ap.out; have := Aq.out; have := H7.out; omega)) _ _⟩
 ·
  clear H
  have sS : Box (∀ W W1 : World, (Below w.heap.size w W ∧ W.heap[w.heap.size]? = some (.cells #[.int .u64 x1, .int .u64 y1] 26) ∧ W.heap[w.heap.size + 1]? = some (.cells #[.int .u64 x2, .int .u64 y2] 26) ∧ W.heap[w2.heap.size]? = some (.cells (pt c1 m1 X1 r1) 45) ∧ W.heap[w4.heap.size]? = some (.cells (pt c2 m2 X2 r2) 45) ∧ W.heap[g7]? = some (.cells #[.int .u8 p1, .int .u8 p2] 50)) → Below W.heap.size W W1 → (Below w.heap.size w W1 ∧ W1.heap[w.heap.size]? = some (.cells #[.int .u64 x1, .int .u64 y1] 26) ∧ W1.heap[w.heap.size + 1]? = some (.cells #[.int .u64 x2, .int .u64 y2] 26) ∧ W1.heap[w2.heap.size]? = some (.cells (pt c1 m1 X1 r1) 45) ∧ W1.heap[w4.heap.size]? = some (.cells (pt c2 m2 X2 r2) 45) ∧ W1.heap[g7]? = some (.cells #[.int .u8 p1, .int .u8 p2] 50))) := box (fun W W1 h b => ⟨btr h.1 b, heap_of b _ _ _ h.2.1, heap_of b _ _ _ h.2.2.1, heap_of b _ _ _ h.2.2.2.1, heap_of b _ _ _ h.2.2.2.2.1, heap_of b _ _ _ h.2.2.2.2.2⟩)
  have HH := box (And.intro S3.out (And.intro Ak.out (And.intro Al.out (And.intro Am.out (And.intro S5.out (And.intro An.out (And.intro Ao.out (And.intro Ap.out (And.intro Aq.out H7.out)))))))))
  have sT : Box (∀ (W : World) (xA xB : Value), (Below w.heap.size w W ∧ W.heap[w.heap.size]? = some (.cells #[.int .u64 x1, .int .u64 y1] 26) ∧ W.heap[w.heap.size + 1]? = some (.cells #[.int .u64 x2, .int .u64 y2] 26) ∧ W.heap[w2.heap.size]? = some (.cells (pt c1 m1 X1 r1) 45) ∧ W.heap[w4.heap.size]? = some (.cells (pt c2 m2 X2 r2) 45) ∧ W.heap[g7]? = some (.cells #[.int .u8 p1, .int .u8 p2] 50)) → (Below w.heap.size w ((W.setCell ⟨w.heap.size + 1 + 1, 0, none⟩ xA).setCell ⟨w.heap.size + 1 + 1, 1, none⟩ xB) ∧ ((W.setCell ⟨w.heap.size + 1 + 1, 0, none⟩ xA).setCell ⟨w.heap.size + 1 + 1, 1, none⟩ xB).heap[w.heap.size]? = some (.cells #[.int .u64 x1, .int .u64 y1] 26) ∧ ((W.setCell ⟨w.heap.size + 1 + 1, 0, none⟩ xA).setCell ⟨w.heap.size + 1 + 1, 1, none⟩ xB).heap[w.heap.size + 1]? = some (.cells #[.int .u64 x2, .int .u64 y2] 26) ∧ ((W.setCell ⟨w.heap.size + 1 + 1, 0, none⟩ xA).setCell ⟨w.heap.size + 1 + 1, 1, none⟩ xB).heap[w2.heap.size]? = some (.cells (pt c1 m1 X1 r1) 45) ∧ ((W.setCell ⟨w.heap.size + 1 + 1, 0, none⟩ xA).setCell ⟨w.heap.size + 1 + 1, 1, none⟩ xB).heap[w4.heap.size]? = some (.cells (pt c2 m2 X2 r2) 45) ∧ ((W.setCell ⟨w.heap.size + 1 + 1, 0, none⟩ xA).setCell ⟨w.heap.size + 1 + 1, 1, none⟩ xB).heap[g7]? = some (.cells #[.int .u8 p1, .int .u8 p2] 50))) := box (fun W xA xB h => ⟨set2_below h.1 (by first | exact Nat.le_refl _ | omega | (have := HH.out; omega)) xA xB, ((setCell_other (by first | omega | (have := HH.out; omega))).trans ((setCell_other (by first | omega | (have := HH.out; omega))).trans h.2.1)), ((setCell_other (by first | omega | (have := HH.out; omega))).trans ((setCell_other (by first | omega | (have := HH.out; omega))).trans h.2.2.1)), ((setCell_other (by first | omega | (have := HH.out; omega))).trans ((setCell_other (by first | omega | (have := HH.out; omega))).trans h.2.2.2.1)), ((setCell_other (by first | omega | (have := HH.out; omega))).trans ((setCell_other (by first | omega | (have := HH.out; omega))).trans h.2.2.2.2.1)), ((setCell_other (by first | omega | (have := HH.out; omega))).trans ((setCell_other (by first | omega | (have := HH.out; omega))).trans h.2.2.2.2.2))⟩)
  have sC : Box (∀ W : World, (Below w.heap.size w W ∧ W.heap[w.heap.size]? = some (.cells #[.int .u64 x1, .int .u64 y1] 26) ∧ W.heap[w.heap.size + 1]? = some (.cells #[.int .u64 x2, .int .u64 y2] 26) ∧ W.heap[w2.heap.size]? = some (.cells (pt c1 m1 X1 r1) 45) ∧ W.heap[w4.heap.size]? = some (.cells (pt c2 m2 X2 r2) 45) ∧ W.heap[g7]? = some (.cells #[.int .u8 p1, .int .u8 p2] 50)) → (Below w.heap.size w W ∧ W.heap[w.heap.size]? = some (.cells #[.int .u64 x1, .int .u64 y1] 26) ∧ W.heap[w.heap.size + 1]? = some (.cells #[.int .u64 x2, .int .u64 y2] 26) ∧ W.heap[w2.heap.size]? = some (.cells (pt c1 m1 X1 r1) 45) ∧ W.heap[w4.heap.size]? = some (.cells (pt c2 m2 X2 r2) 45) ∧ W.heap[g7]? = some (.cells #[.int .u8 p1, .int .u8 p2] 50) ∧ W.cell? ⟨w.heap.size, 0, none⟩ = some (.int .u64 x1) ∧ W.cell? ⟨w.heap.size, 1, none⟩ = some (.int .u64 y1) ∧ W.cell? ⟨w.heap.size + 1, 0, none⟩ = some (.int .u64 x2) ∧ W.cell? ⟨w.heap.size + 1, 1, none⟩ = some (.int .u64 y2) ∧ W.cell? ⟨w2.heap.size, 0, none⟩ = some (.int .u8 c1) ∧ W.cell? ⟨w2.heap.size, 1, none⟩ = some (.int .u64 (wd m1 0)) ∧ W.cell? ⟨w2.heap.size, 2, none⟩ = some (.int .u64 (wd m1 1)) ∧ W.cell? ⟨w2.heap.size, 3, none⟩ = some (.int .u64 (wd m1 2)) ∧ W.cell? ⟨w2.heap.size, 4, none⟩ = some (.int .u64 (wd m1 3)) ∧ W.cell? ⟨w2.heap.size, 5, none⟩ = some (.int .u64 (wd m1 4)) ∧ W.cell? ⟨w2.heap.size, 6, none⟩ = some (.int .u64 (wd m1 5)) ∧ W.cell? ⟨w2.heap.size, 7, none⟩ = some (.int .i64 X1) ∧ W.cell? ⟨w2.heap.size, 8, none⟩ = some (.int .u64 (wd r1 0)) ∧ W.cell? ⟨w2.heap.size, 9, none⟩ = some (.int .u64 (wd r1 1)) ∧ W.cell? ⟨w2.heap.size, 10, none⟩ = some (.int .u64 (wd r1 2)) ∧ W.cell? ⟨w2.heap.size, 11, none⟩ = some (.int .u64 (wd r1 3)) ∧ W.cell? ⟨w2.heap.size, 12, none⟩ = some (.int .u64 (wd r1 4)) ∧ W.cell? ⟨w2.heap.size, 13, none⟩ = some (.int .u64 (wd r1 5)) ∧ W.cell? ⟨w4.heap.size, 0, none⟩ = some (.int .u8 c2) ∧ W.cell? ⟨w4.heap.size, 1, none⟩ = some (.int .u64 (wd m2 0)) ∧ W.cell? ⟨w4.heap.size, 2, none⟩ = some (.int .u64 (wd m2 1)) ∧ W.cell? ⟨w4.heap.size, 3, none⟩ = some (.int .u64 (wd m2 2)) ∧ W.cell? ⟨w4.heap.size, 4, none⟩ = some (.int .u64 (wd m2 3)) ∧ W.cell? ⟨w4.heap.size, 5, none⟩ = some (.int .u64 (wd m2 4)) ∧ W.cell? ⟨w4.heap.size, 6, none⟩ = some (.int .u64 (wd m2 5)) ∧ W.cell? ⟨w4.heap.size, 7, none⟩ = some (.int .i64 X2) ∧ W.cell? ⟨w4.heap.size, 8, none⟩ = some (.int .u64 (wd r2 0)) ∧ W.cell? ⟨w4.heap.size, 9, none⟩ = some (.int .u64 (wd r2 1)) ∧ W.cell? ⟨w4.heap.size, 10, none⟩ = some (.int .u64 (wd r2 2)) ∧ W.cell? ⟨w4.heap.size, 11, none⟩ = some (.int .u64 (wd r2 3)) ∧ W.cell? ⟨w4.heap.size, 12, none⟩ = some (.int .u64 (wd r2 4)) ∧ W.cell? ⟨w4.heap.size, 13, none⟩ = some (.int .u64 (wd r2 5)) ∧ W.cell? ⟨g7, 0, none⟩ = some (.int .u8 p1) ∧ W.cell? ⟨g7, 1, none⟩ = some (.int .u8 p2))) := box (fun W h => ⟨h.1, h.2.1, h.2.2.1, h.2.2.2.1, h.2.2.2.2.1, h.2.2.2.2.2, cell7 (h.2.1) 0 _ rfl, cell7 (h.2.1) 1 _ rfl, cell7 (h.2.2.1) 0 _ rfl, cell7 (h.2.2.1) 1 _ rfl, cell7 (h.2.2.2.1) 0 _ rfl, cell7 (h.2.2.2.1) 1 _ rfl, cell7 (h.2.2.2.1) 2 _ rfl, cell7 (h.2.2.2.1) 3 _ rfl, cell7 (h.2.2.2.1) 4 _ rfl, cell7 (h.2.2.2.1) 5 _ rfl, cell7 (h.2.2.2.1) 6 _ rfl, cell7 (h.2.2.2.1) 7 _ rfl, cell7 (h.2.2.2.1) 8 _ rfl, cell7 (h.2.2.2.1) 9 _ rfl, cell7 (h.2.2.2.1) 10 _ rfl, cell7 (h.2.2.2.1) 11 _ rfl, cell7 (h.2.2.2.1) 12 _ rfl, cell7 (h.2.2.2.1) 13 _ rfl, cell7 (h.2.2.2.2.1) 0 _ rfl, cell7 (h.2.2.2.2.1) 1 _ rfl, cell7 (h.2.2.2.2.1) 2 _ rfl, cell7 (h.2.2.2.2.1) 3 _ rfl, cell7 (h.2.2.2.2.1) 4 _ rfl, cell7 (h.2.2.2.2.1) 5 _ rfl, cell7 (h.2.2.2.2.1) 6 _ rfl, cell7 (h.2.2.2.2.1) 7 _ rfl, cell7 (h.2.2.2.2.1) 8 _ rfl, cell7 (h.2.2.2.2.1) 9 _ rfl, cell7 (h.2.2.2.2.1) 10 _ rfl, cell7 (h.2.2.2.2.1) 11 _ rfl, cell7 (h.2.2.2.2.1) 12 _ rfl, cell7 (h.2.2.2.2.1) 13 _ rfl, cell7 (h.2.2.2.2.2) 0 _ rfl, cell7 (h.2.2.2.2.2) 1 _ rfl⟩)
  have s0 : Below w.heap.size w (w7).drew ∧ (w7).drew.heap[w.heap.size]? = some (.cells #[.int .u64 x1, .int .u64 y1] 26) ∧ (w7).drew.heap[w.heap.size + 1]? = some (.cells #[.int .u64 x2, .int .u64 y2] 26) ∧ (w7).drew.heap[w2.heap.size]? = some (.cells (pt c1 m1 X1 r1) 45) ∧ (w7).drew.heap[w4.heap.size]? = some (.cells (pt c2 m2 X2 r2) 45) ∧ (w7).drew.heap[g7]? = some (.cells #[.int .u8 p1, .int .u8 p2] 50) := ⟨B7.drew, Ae, Af, Ab, Ac, Ad⟩
  have rz : (w7).drew.heap[w.heap.size + 1 + 1]? = some (.cells #[.int .u64 0, .int .u64 0] 26) := Ag
  have AC := fz (k := 0) rz
  have AB := fz (k := 1) rz
  have AD := cell7 rz 0 _ rfl
  have AE := cell7 rz 1 _ rfl
  go_wp2_with fail
  go_region_held3 (fun W => Below w.heap.size w W ∧ W.heap[w.heap.size]? = some (.cells #[.int .u64 x1, .int .u64 y1] 26) ∧ W.heap[w.heap.size + 1]? = some (.cells #[.int .u64 x2, .int .u64 y2] 26) ∧ W.heap[w2.heap.size]? = some (.cells (pt c1 m1 X1 r1) 45) ∧ W.heap[w4.heap.size]? = some (.cells (pt c2 m2 X2 r2) 45) ∧ W.heap[g7]? = some (.cells #[.int .u8 p1, .int .u8 p2] 50) ∧ W.cell? ⟨w.heap.size, 0, none⟩ = some (.int .u64 x1) ∧ W.cell? ⟨w.heap.size, 1, none⟩ = some (.int .u64 y1) ∧ W.cell? ⟨w.heap.size + 1, 0, none⟩ = some (.int .u64 x2) ∧ W.cell? ⟨w.heap.size + 1, 1, none⟩ = some (.int .u64 y2) ∧ W.cell? ⟨w2.heap.size, 0, none⟩ = some (.int .u8 c1) ∧ W.cell? ⟨w2.heap.size, 1, none⟩ = some (.int .u64 (wd m1 0)) ∧ W.cell? ⟨w2.heap.size, 2, none⟩ = some (.int .u64 (wd m1 1)) ∧ W.cell? ⟨w2.heap.size, 3, none⟩ = some (.int .u64 (wd m1 2)) ∧ W.cell? ⟨w2.heap.size, 4, none⟩ = some (.int .u64 (wd m1 3)) ∧ W.cell? ⟨w2.heap.size, 5, none⟩ = some (.int .u64 (wd m1 4)) ∧ W.cell? ⟨w2.heap.size, 6, none⟩ = some (.int .u64 (wd m1 5)) ∧ W.cell? ⟨w2.heap.size, 7, none⟩ = some (.int .i64 X1) ∧ W.cell? ⟨w2.heap.size, 8, none⟩ = some (.int .u64 (wd r1 0)) ∧ W.cell? ⟨w2.heap.size, 9, none⟩ = some (.int .u64 (wd r1 1)) ∧ W.cell? ⟨w2.heap.size, 10, none⟩ = some (.int .u64 (wd r1 2)) ∧ W.cell? ⟨w2.heap.size, 11, none⟩ = some (.int .u64 (wd r1 3)) ∧ W.cell? ⟨w2.heap.size, 12, none⟩ = some (.int .u64 (wd r1 4)) ∧ W.cell? ⟨w2.heap.size, 13, none⟩ = some (.int .u64 (wd r1 5)) ∧ W.cell? ⟨w4.heap.size, 0, none⟩ = some (.int .u8 c2) ∧ W.cell? ⟨w4.heap.size, 1, none⟩ = some (.int .u64 (wd m2 0)) ∧ W.cell? ⟨w4.heap.size, 2, none⟩ = some (.int .u64 (wd m2 1)) ∧ W.cell? ⟨w4.heap.size, 3, none⟩ = some (.int .u64 (wd m2 2)) ∧ W.cell? ⟨w4.heap.size, 4, none⟩ = some (.int .u64 (wd m2 3)) ∧ W.cell? ⟨w4.heap.size, 5, none⟩ = some (.int .u64 (wd m2 4)) ∧ W.cell? ⟨w4.heap.size, 6, none⟩ = some (.int .u64 (wd m2 5)) ∧ W.cell? ⟨w4.heap.size, 7, none⟩ = some (.int .i64 X2) ∧ W.cell? ⟨w4.heap.size, 8, none⟩ = some (.int .u64 (wd r2 0)) ∧ W.cell? ⟨w4.heap.size, 9, none⟩ = some (.int .u64 (wd r2 1)) ∧ W.cell? ⟨w4.heap.size, 10, none⟩ = some (.int .u64 (wd r2 2)) ∧ W.cell? ⟨w4.heap.size, 11, none⟩ = some (.int .u64 (wd r2 3)) ∧ W.cell? ⟨w4.heap.size, 12, none⟩ = some (.int .u64 (wd r2 4)) ∧ W.cell? ⟨w4.heap.size, 13, none⟩ = some (.int .u64 (wd r2 5)) ∧ W.cell? ⟨g7, 0, none⟩ = some (.int .u8 p1) ∧ W.cell? ⟨g7, 1, none⟩ = some (.int .u8 p2)) (first | exact sC.out _ s1 | exact sC.out _ s0 | exact sC.out _ (sT.out _ _ _ s1) | exact sC.out _ (sT.out _ _ _ s0))
   (((first | (go_at_call 16; (first | refine (KN.out _ (fatB FF.out (And.left s1))).mono ?_ | refine (KN.out _ (fatB FF.out (And.left s0))).mono ?_)) | (go_at_call 20; (first | refine (KF2.out _).mono ?_ | refine (KF2.out _).mono ?_)) | fail); rintro r wq ⟨rfl, bq⟩; have s1 := (by first | exact sS.out _ _ s1 bq | exact sS.out _ _ s0 bq); have rz := heap_of bq _ _ _ rz; have AC := fz (k := 0) rz; have AD := cell7 rz 0 _ rfl; have AB := fz (k := 1) rz; have AE := cell7 rz 1 _ rfl; clear bq))
  obtain ⟨E0, E1⟩ := set2_cells rz (.int .u64 u) (.int .u64 v)
  have BZ := (by first | exact And.left s1 | exact And.left s0 : Below w.heap.size w _)
  go_wp2
  exact bodyPost_ret (v := .tuple #[.agg #[.int .u64 u, .int .u64 v], .int .u8 fl, .int .i64 0]) (by simp [results, Tryd.results7, go_sem, E0, E1]) rfl ⟨rfl, set2_below BZ (by first | exact Nat.le_refl _ | omega | (have := S3.out; have := Ak.out; have := Al.out; have := Am.out; have := S5.out; have := An.out; have := Ao.out; have := Ap.out; have := Aq.out; have := H7.out; omega)) _ _⟩
 ·
  clear H
  have sS : Box (∀ W W1 : World, (Below w.heap.size w W ∧ W.heap[w.heap.size]? = some (.cells #[.int .u64 x1, .int .u64 y1] 26) ∧ W.heap[w.heap.size + 1]? = some (.cells #[.int .u64 x2, .int .u64 y2] 26) ∧ W.heap[w2.heap.size]? = some (.cells (pt c1 m1 X1 r1) 45) ∧ W.heap[w4.heap.size]? = some (.cells (pt c2 m2 X2 r2) 45) ∧ W.heap[g7]? = some (.cells #[.int .u8 p1, .int .u8 p2] 50)) → Below W.heap.size W W1 → (Below w.heap.size w W1 ∧ W1.heap[w.heap.size]? = some (.cells #[.int .u64 x1, .int .u64 y1] 26) ∧ W1.heap[w.heap.size + 1]? = some (.cells #[.int .u64 x2, .int .u64 y2] 26) ∧ W1.heap[w2.heap.size]? = some (.cells (pt c1 m1 X1 r1) 45) ∧ W1.heap[w4.heap.size]? = some (.cells (pt c2 m2 X2 r2) 45) ∧ W1.heap[g7]? = some (.cells #[.int .u8 p1, .int .u8 p2] 50))) := box (fun W W1 h b => ⟨btr h.1 b, heap_of b _ _ _ h.2.1, heap_of b _ _ _ h.2.2.1, heap_of b _ _ _ h.2.2.2.1, heap_of b _ _ _ h.2.2.2.2.1, heap_of b _ _ _ h.2.2.2.2.2⟩)
  have HH := box (And.intro S3.out (And.intro Ak.out (And.intro Al.out (And.intro Am.out (And.intro S5.out (And.intro An.out (And.intro Ao.out (And.intro Ap.out (And.intro Aq.out H7.out)))))))))
  have sT : Box (∀ (W : World) (xA xB : Value), (Below w.heap.size w W ∧ W.heap[w.heap.size]? = some (.cells #[.int .u64 x1, .int .u64 y1] 26) ∧ W.heap[w.heap.size + 1]? = some (.cells #[.int .u64 x2, .int .u64 y2] 26) ∧ W.heap[w2.heap.size]? = some (.cells (pt c1 m1 X1 r1) 45) ∧ W.heap[w4.heap.size]? = some (.cells (pt c2 m2 X2 r2) 45) ∧ W.heap[g7]? = some (.cells #[.int .u8 p1, .int .u8 p2] 50)) → (Below w.heap.size w ((W.setCell ⟨w.heap.size + 1 + 1, 0, none⟩ xA).setCell ⟨w.heap.size + 1 + 1, 1, none⟩ xB) ∧ ((W.setCell ⟨w.heap.size + 1 + 1, 0, none⟩ xA).setCell ⟨w.heap.size + 1 + 1, 1, none⟩ xB).heap[w.heap.size]? = some (.cells #[.int .u64 x1, .int .u64 y1] 26) ∧ ((W.setCell ⟨w.heap.size + 1 + 1, 0, none⟩ xA).setCell ⟨w.heap.size + 1 + 1, 1, none⟩ xB).heap[w.heap.size + 1]? = some (.cells #[.int .u64 x2, .int .u64 y2] 26) ∧ ((W.setCell ⟨w.heap.size + 1 + 1, 0, none⟩ xA).setCell ⟨w.heap.size + 1 + 1, 1, none⟩ xB).heap[w2.heap.size]? = some (.cells (pt c1 m1 X1 r1) 45) ∧ ((W.setCell ⟨w.heap.size + 1 + 1, 0, none⟩ xA).setCell ⟨w.heap.size + 1 + 1, 1, none⟩ xB).heap[w4.heap.size]? = some (.cells (pt c2 m2 X2 r2) 45) ∧ ((W.setCell ⟨w.heap.size + 1 + 1, 0, none⟩ xA).setCell ⟨w.heap.size + 1 + 1, 1, none⟩ xB).heap[g7]? = some (.cells #[.int .u8 p1, .int .u8 p2] 50))) := box (fun W xA xB h => ⟨set2_below h.1 (by first | exact Nat.le_refl _ | omega | (have := HH.out; omega)) xA xB, ((setCell_other (by first | omega | (have := HH.out; omega))).trans ((setCell_other (by first | omega | (have := HH.out; omega))).trans h.2.1)), ((setCell_other (by first | omega | (have := HH.out; omega))).trans ((setCell_other (by first | omega | (have := HH.out; omega))).trans h.2.2.1)), ((setCell_other (by first | omega | (have := HH.out; omega))).trans ((setCell_other (by first | omega | (have := HH.out; omega))).trans h.2.2.2.1)), ((setCell_other (by first | omega | (have := HH.out; omega))).trans ((setCell_other (by first | omega | (have := HH.out; omega))).trans h.2.2.2.2.1)), ((setCell_other (by first | omega | (have := HH.out; omega))).trans ((setCell_other (by first | omega | (have := HH.out; omega))).trans h.2.2.2.2.2))⟩)
  have sC : Box (∀ W : World, (Below w.heap.size w W ∧ W.heap[w.heap.size]? = some (.cells #[.int .u64 x1, .int .u64 y1] 26) ∧ W.heap[w.heap.size + 1]? = some (.cells #[.int .u64 x2, .int .u64 y2] 26) ∧ W.heap[w2.heap.size]? = some (.cells (pt c1 m1 X1 r1) 45) ∧ W.heap[w4.heap.size]? = some (.cells (pt c2 m2 X2 r2) 45) ∧ W.heap[g7]? = some (.cells #[.int .u8 p1, .int .u8 p2] 50)) → (Below w.heap.size w W ∧ W.heap[w.heap.size]? = some (.cells #[.int .u64 x1, .int .u64 y1] 26) ∧ W.heap[w.heap.size + 1]? = some (.cells #[.int .u64 x2, .int .u64 y2] 26) ∧ W.heap[w2.heap.size]? = some (.cells (pt c1 m1 X1 r1) 45) ∧ W.heap[w4.heap.size]? = some (.cells (pt c2 m2 X2 r2) 45) ∧ W.heap[g7]? = some (.cells #[.int .u8 p1, .int .u8 p2] 50) ∧ W.cell? ⟨w.heap.size, 0, none⟩ = some (.int .u64 x1) ∧ W.cell? ⟨w.heap.size, 1, none⟩ = some (.int .u64 y1) ∧ W.cell? ⟨w.heap.size + 1, 0, none⟩ = some (.int .u64 x2) ∧ W.cell? ⟨w.heap.size + 1, 1, none⟩ = some (.int .u64 y2) ∧ W.cell? ⟨w2.heap.size, 0, none⟩ = some (.int .u8 c1) ∧ W.cell? ⟨w2.heap.size, 1, none⟩ = some (.int .u64 (wd m1 0)) ∧ W.cell? ⟨w2.heap.size, 2, none⟩ = some (.int .u64 (wd m1 1)) ∧ W.cell? ⟨w2.heap.size, 3, none⟩ = some (.int .u64 (wd m1 2)) ∧ W.cell? ⟨w2.heap.size, 4, none⟩ = some (.int .u64 (wd m1 3)) ∧ W.cell? ⟨w2.heap.size, 5, none⟩ = some (.int .u64 (wd m1 4)) ∧ W.cell? ⟨w2.heap.size, 6, none⟩ = some (.int .u64 (wd m1 5)) ∧ W.cell? ⟨w2.heap.size, 7, none⟩ = some (.int .i64 X1) ∧ W.cell? ⟨w2.heap.size, 8, none⟩ = some (.int .u64 (wd r1 0)) ∧ W.cell? ⟨w2.heap.size, 9, none⟩ = some (.int .u64 (wd r1 1)) ∧ W.cell? ⟨w2.heap.size, 10, none⟩ = some (.int .u64 (wd r1 2)) ∧ W.cell? ⟨w2.heap.size, 11, none⟩ = some (.int .u64 (wd r1 3)) ∧ W.cell? ⟨w2.heap.size, 12, none⟩ = some (.int .u64 (wd r1 4)) ∧ W.cell? ⟨w2.heap.size, 13, none⟩ = some (.int .u64 (wd r1 5)) ∧ W.cell? ⟨w4.heap.size, 0, none⟩ = some (.int .u8 c2) ∧ W.cell? ⟨w4.heap.size, 1, none⟩ = some (.int .u64 (wd m2 0)) ∧ W.cell? ⟨w4.heap.size, 2, none⟩ = some (.int .u64 (wd m2 1)) ∧ W.cell? ⟨w4.heap.size, 3, none⟩ = some (.int .u64 (wd m2 2)) ∧ W.cell? ⟨w4.heap.size, 4, none⟩ = some (.int .u64 (wd m2 3)) ∧ W.cell? ⟨w4.heap.size, 5, none⟩ = some (.int .u64 (wd m2 4)) ∧ W.cell? ⟨w4.heap.size, 6, none⟩ = some (.int .u64 (wd m2 5)) ∧ W.cell? ⟨w4.heap.size, 7, none⟩ = some (.int .i64 X2) ∧ W.cell? ⟨w4.heap.size, 8, none⟩ = some (.int .u64 (wd r2 0)) ∧ W.cell? ⟨w4.heap.size, 9, none⟩ = some (.int .u64 (wd r2 1)) ∧ W.cell? ⟨w4.heap.size, 10, none⟩ = some (.int .u64 (wd r2 2)) ∧ W.cell? ⟨w4.heap.size, 11, none⟩ = some (.int .u64 (wd r2 3)) ∧ W.cell? ⟨w4.heap.size, 12, none⟩ = some (.int .u64 (wd r2 4)) ∧ W.cell? ⟨w4.heap.size, 13, none⟩ = some (.int .u64 (wd r2 5)) ∧ W.cell? ⟨g7, 0, none⟩ = some (.int .u8 p1) ∧ W.cell? ⟨g7, 1, none⟩ = some (.int .u8 p2))) := box (fun W h => ⟨h.1, h.2.1, h.2.2.1, h.2.2.2.1, h.2.2.2.2.1, h.2.2.2.2.2, cell7 (h.2.1) 0 _ rfl, cell7 (h.2.1) 1 _ rfl, cell7 (h.2.2.1) 0 _ rfl, cell7 (h.2.2.1) 1 _ rfl, cell7 (h.2.2.2.1) 0 _ rfl, cell7 (h.2.2.2.1) 1 _ rfl, cell7 (h.2.2.2.1) 2 _ rfl, cell7 (h.2.2.2.1) 3 _ rfl, cell7 (h.2.2.2.1) 4 _ rfl, cell7 (h.2.2.2.1) 5 _ rfl, cell7 (h.2.2.2.1) 6 _ rfl, cell7 (h.2.2.2.1) 7 _ rfl, cell7 (h.2.2.2.1) 8 _ rfl, cell7 (h.2.2.2.1) 9 _ rfl, cell7 (h.2.2.2.1) 10 _ rfl, cell7 (h.2.2.2.1) 11 _ rfl, cell7 (h.2.2.2.1) 12 _ rfl, cell7 (h.2.2.2.1) 13 _ rfl, cell7 (h.2.2.2.2.1) 0 _ rfl, cell7 (h.2.2.2.2.1) 1 _ rfl, cell7 (h.2.2.2.2.1) 2 _ rfl, cell7 (h.2.2.2.2.1) 3 _ rfl, cell7 (h.2.2.2.2.1) 4 _ rfl, cell7 (h.2.2.2.2.1) 5 _ rfl, cell7 (h.2.2.2.2.1) 6 _ rfl, cell7 (h.2.2.2.2.1) 7 _ rfl, cell7 (h.2.2.2.2.1) 8 _ rfl, cell7 (h.2.2.2.2.1) 9 _ rfl, cell7 (h.2.2.2.2.1) 10 _ rfl, cell7 (h.2.2.2.2.1) 11 _ rfl, cell7 (h.2.2.2.2.1) 12 _ rfl, cell7 (h.2.2.2.2.1) 13 _ rfl, cell7 (h.2.2.2.2.2) 0 _ rfl, cell7 (h.2.2.2.2.2) 1 _ rfl⟩)
  have s0 : Below w.heap.size w (w7).drew ∧ (w7).drew.heap[w.heap.size]? = some (.cells #[.int .u64 x1, .int .u64 y1] 26) ∧ (w7).drew.heap[w.heap.size + 1]? = some (.cells #[.int .u64 x2, .int .u64 y2] 26) ∧ (w7).drew.heap[w2.heap.size]? = some (.cells (pt c1 m1 X1 r1) 45) ∧ (w7).drew.heap[w4.heap.size]? = some (.cells (pt c2 m2 X2 r2) 45) ∧ (w7).drew.heap[g7]? = some (.cells #[.int .u8 p1, .int .u8 p2] 50) := ⟨B7.drew, Ae, Af, Ab, Ac, Ad⟩
  have rz : (w7).drew.heap[w.heap.size + 1 + 1]? = some (.cells #[.int .u64 0, .int .u64 0] 26) := Ag
  have AC := fz (k := 0) rz
  have AB := fz (k := 1) rz
  have AD := cell7 rz 0 _ rfl
  have AE := cell7 rz 1 _ rfl
  go_wp2_with fail
  go_region_held3 (fun W => Below w.heap.size w W ∧ W.heap[w.heap.size]? = some (.cells #[.int .u64 x1, .int .u64 y1] 26) ∧ W.heap[w.heap.size + 1]? = some (.cells #[.int .u64 x2, .int .u64 y2] 26) ∧ W.heap[w2.heap.size]? = some (.cells (pt c1 m1 X1 r1) 45) ∧ W.heap[w4.heap.size]? = some (.cells (pt c2 m2 X2 r2) 45) ∧ W.heap[g7]? = some (.cells #[.int .u8 p1, .int .u8 p2] 50) ∧ W.cell? ⟨w.heap.size, 0, none⟩ = some (.int .u64 x1) ∧ W.cell? ⟨w.heap.size, 1, none⟩ = some (.int .u64 y1) ∧ W.cell? ⟨w.heap.size + 1, 0, none⟩ = some (.int .u64 x2) ∧ W.cell? ⟨w.heap.size + 1, 1, none⟩ = some (.int .u64 y2) ∧ W.cell? ⟨w2.heap.size, 0, none⟩ = some (.int .u8 c1) ∧ W.cell? ⟨w2.heap.size, 1, none⟩ = some (.int .u64 (wd m1 0)) ∧ W.cell? ⟨w2.heap.size, 2, none⟩ = some (.int .u64 (wd m1 1)) ∧ W.cell? ⟨w2.heap.size, 3, none⟩ = some (.int .u64 (wd m1 2)) ∧ W.cell? ⟨w2.heap.size, 4, none⟩ = some (.int .u64 (wd m1 3)) ∧ W.cell? ⟨w2.heap.size, 5, none⟩ = some (.int .u64 (wd m1 4)) ∧ W.cell? ⟨w2.heap.size, 6, none⟩ = some (.int .u64 (wd m1 5)) ∧ W.cell? ⟨w2.heap.size, 7, none⟩ = some (.int .i64 X1) ∧ W.cell? ⟨w2.heap.size, 8, none⟩ = some (.int .u64 (wd r1 0)) ∧ W.cell? ⟨w2.heap.size, 9, none⟩ = some (.int .u64 (wd r1 1)) ∧ W.cell? ⟨w2.heap.size, 10, none⟩ = some (.int .u64 (wd r1 2)) ∧ W.cell? ⟨w2.heap.size, 11, none⟩ = some (.int .u64 (wd r1 3)) ∧ W.cell? ⟨w2.heap.size, 12, none⟩ = some (.int .u64 (wd r1 4)) ∧ W.cell? ⟨w2.heap.size, 13, none⟩ = some (.int .u64 (wd r1 5)) ∧ W.cell? ⟨w4.heap.size, 0, none⟩ = some (.int .u8 c2) ∧ W.cell? ⟨w4.heap.size, 1, none⟩ = some (.int .u64 (wd m2 0)) ∧ W.cell? ⟨w4.heap.size, 2, none⟩ = some (.int .u64 (wd m2 1)) ∧ W.cell? ⟨w4.heap.size, 3, none⟩ = some (.int .u64 (wd m2 2)) ∧ W.cell? ⟨w4.heap.size, 4, none⟩ = some (.int .u64 (wd m2 3)) ∧ W.cell? ⟨w4.heap.size, 5, none⟩ = some (.int .u64 (wd m2 4)) ∧ W.cell? ⟨w4.heap.size, 6, none⟩ = some (.int .u64 (wd m2 5)) ∧ W.cell? ⟨w4.heap.size, 7, none⟩ = some (.int .i64 X2) ∧ W.cell? ⟨w4.heap.size, 8, none⟩ = some (.int .u64 (wd r2 0)) ∧ W.cell? ⟨w4.heap.size, 9, none⟩ = some (.int .u64 (wd r2 1)) ∧ W.cell? ⟨w4.heap.size, 10, none⟩ = some (.int .u64 (wd r2 2)) ∧ W.cell? ⟨w4.heap.size, 11, none⟩ = some (.int .u64 (wd r2 3)) ∧ W.cell? ⟨w4.heap.size, 12, none⟩ = some (.int .u64 (wd r2 4)) ∧ W.cell? ⟨w4.heap.size, 13, none⟩ = some (.int .u64 (wd r2 5)) ∧ W.cell? ⟨g7, 0, none⟩ = some (.int .u8 p1) ∧ W.cell? ⟨g7, 1, none⟩ = some (.int .u8 p2)) (first | exact sC.out _ s1 | exact sC.out _ s0 | exact sC.out _ (sT.out _ _ _ s1) | exact sC.out _ (sT.out _ _ _ s0))
   (((first | (go_at_call 16; (first | refine (KN.out _ (fatB FF.out (And.left s1))).mono ?_ | refine (KN.out _ (fatB FF.out (And.left s0))).mono ?_)) | (go_at_call 20; (first | refine (KF2.out _).mono ?_ | refine (KF2.out _).mono ?_)) | fail); rintro r wq ⟨rfl, bq⟩; have s1 := (by first | exact sS.out _ _ s1 bq | exact sS.out _ _ s0 bq); have rz := heap_of bq _ _ _ rz; have AC := fz (k := 0) rz; have AD := cell7 rz 0 _ rfl; have AB := fz (k := 1) rz; have AE := cell7 rz 1 _ rfl; clear bq))
  obtain ⟨E0, E1⟩ := set2_cells rz (.int .u64 u) (.int .u64 v)
  have BZ := (by first | exact And.left s1 | exact And.left s0 : Below w.heap.size w _)
  go_wp2
  exact bodyPost_ret (v := .tuple #[.agg #[.int .u64 u, .int .u64 v], .int .u8 fl, .int .i64 0]) (by simp [results, Tryd.results7, go_sem, E0, E1]) rfl ⟨rfl, set2_below BZ (by first | exact Nat.le_refl _ | omega | (have := S3.out; have := Ak.out; have := Al.out; have := Am.out; have := S5.out; have := An.out; have := Ao.out; have := Ap.out; have := Aq.out; have := H7.out; omega)) _ _⟩
end Go.Proofs.YtkblmpmkchkpjaaDoor
