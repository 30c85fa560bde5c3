/-
  What the functions that the statement reaches return: part 15 (A9).
-/
import Derived.Test.YtoaaajeblhaeoaaDoorAt14
namespace Go.Proofs.YtoaaajeblhaeoaaDoor
set_option maxRecDepth 100000
set_option maxHeartbeats 40000000
set_option maxRecDepth 100000
open Go.RowKit WMath XMath
set_option linter.unusedSimpArgs false
set_option linter.unusedVariables false
theorem gen_abacuslaw11_AddTurned_15 {X : Act → World → Prop} {R : World → Nat → Prop} {t0 t1 t2 t3 t4 t5 t6 t7 t8 t9 t10 t11 t12 t13 t14 t16 t17 t18 t19 t20 t21 t22 t23 t24 t25 t26 t27 t28 t29 t30 t31 t32 t33 t34 t35 t36 t37 t38 t39 t40 t41 t42 t43 t44 t45 t46 t47 t48 t49 t50 t51 t52 t53 t54 t55 t56 t57 t58 t59 t60 t61 t62 t63 t64 t65 t66 t67 t68 t69 t70 t71 t72 t73 t74 t75 t76 t77 t78 t79 t80 t81 t82 t83 t84 t85 t86 t87 t88 : Value} {d : List Deferred} {W : World} {G : Nat}
    (key : ∀ w5 g, R w5 g → X ⟨#[t0, t1, t2, t3, t4, t5, t6, t7, t8, t9, t10, t11, t12, t13, t14, .pointer (some ⟨g, 0, none⟩), t16, t17, t18, t19, t20, t21, t22, t23, t24, t25, t26, t27, t28, t29, t30, t31, t32, t33, t34, t35, t36, t37, t38, t39, t40, t41, t42, t43, t44, t45, t46, t47, t48, t49, t50, t51, t52, t53, t54, t55, t56, t57, t58, t59, t60, t61, t62, t63, t64, t65, t66, t67, t68, t69, t70, t71, t72, t73, t74, t75, t76, t77, t78, t79, t80, t81, t82, t83, t84, t85, t86, t87, t88], d⟩ w5) (r : R W G) : X ⟨#[t0, t1, t2, t3, t4, t5, t6, t7, t8, t9, t10, t11, t12, t13, t14, .pointer (some ⟨G, 0, none⟩), t16, t17, t18, t19, t20, t21, t22, t23, t24, t25, t26, t27, t28, t29, t30, t31, t32, t33, t34, t35, t36, t37, t38, t39, t40, t41, t42, t43, t44, t45, t46, t47, t48, t49, t50, t51, t52, t53, t54, t55, t56, t57, t58, t59, t60, t61, t62, t63, t64, t65, t66, t67, t68, t69, t70, t71, t72, t73, t74, t75, t76, t77, t78, t79, t80, t81, t82, t83, t84, t85, t86, t87, t88], d⟩ W := key W G r

theorem kAdd_ok (f m : Int) (hf : Is4 f) (hm : 0 ≤ m ∧ m ≤ 4) (x1 y1 a x2 y2 b : Nat) (hx1 : x1 < 18446744073709551616) (hy1 : y1 < 18446744073709551616) (ha : y1 + 18446744073709551616 * x1 = a) (hx2 : x2 < 18446744073709551616) (hy2 : y2 < 18446744073709551616) (hb : y2 + 18446744073709551616 * x2 = b)
    (oa : okB f a = true) (ob : okB f b = true) (M : Nat) (fl : Int) (hr : addR f m a b = (M, fl)) (u v : Nat) (hv : bv7 M = (u, v)) (w : World) (hT : FAt w) :
    Calls Tryd.prog 5 #[.int .u8 f, .int .u8 m, .agg #[.int .u64 x1, .int .u64 y1], .agg #[.int .u64 x2, .int .u64 y2]] w fun r w' => r = .returned (.tuple #[.agg #[.int .u64 u, .int .u64 v], .int .u8 fl, .int .i64 0]) ∧ Below w.heap.size w w' :=
  add_add_yes f m x1 y1 x2 y2 u v 0 0 fl 0 w (kmay2 f m (is4_ok hf).1 (is4_ok hf).2.1 hm.1 x1 y1 a x2 y2 b hx1 hy1 ha hx2 hy2 hb true (by rw [oa, ob, decide_eq_true (show f ≤ 3 ∧ m ≤ 4 from ⟨is4_le hf, hm.2⟩)]; rfl)) (box (fun w hT => kplus_is2 f m hf hm x1 y1 a x2 y2 b hx1 hy1 ha hx2 hy2 hb oa ob M fl hr u v hv w hT)) hT
theorem al11 : addR 2 0 15360 15360 = (16384, 0) ∧ okB 2 15360 = true := by decide +kernel
theorem r11alive (w : World) (hT : FAt w) : Calls Tryd.prog 7 #[] w fun r w' => r = .returned (.bool true) ∧ Below w.heap.size w w' := by
  have FF := box hT
  have K1 : Box (∀ w, FAt w → Calls Tryd.prog 5 #[.int .u8 2, .int .u8 0, .agg #[.int .u64 0, .int .u64 15360], .agg #[.int .u64 0, .int .u64 15360]] w fun r w' => r = .returned (.tuple #[.agg #[.int .u64 0, .int .u64 16384], .int .u8 0, .int .i64 0]) ∧ Below w.heap.size w w') := box (fun w hT => kAdd_ok 2 0 (by unfold Is4; omega) (by decide) 0 15360 15360 0 15360 15360 (by decide) (by decide) rfl (by decide) (by decide) rfl al11.2 al11.2 _ _ al11.1 0 16384 rfl w hT)
  clear hT
  have B0 : Below w.heap.size w w := (Below.refl _ _)
  go_enter Tryd.func7, Tryd.ntmps7
  go_wp2_with fail
  refine (K1.out _ (fatB FF.out B0)).mono ?_
  rintro r w1 ⟨rfl, b1⟩
  have B1 : Below w.heap.size w w1 := btr B0 b1
  clear b1 B0 
  have S2 := box B1.size
  have Aa := heap_alloc_last w1 (Obj.cells #[.int .u64 0, .int .u64 16384] 26)
  have B2 := btr B1 (bal w1 (Obj.cells #[.int .u64 0, .int .u64 16384] 26))
  clear B1 
  obtain ⟨Ab, Ac⟩ := cells2s Aa
  go_wp2
  go_ret
  exact ⟨rfl, B2⟩
theorem r11kind (f : Int) (hf : Is4 f) (x y n c : Nat) (o : Bool) (hx : x < 18446744073709551616) (hy : y < 18446744073709551616) (hn : y + 18446744073709551616 * x = n) (ho : okB f n = true) (hc : kC f n = c) (hd : decide (c = 0 ∨ 7 ≤ c) = o) (w : World) (hT : FAt w) : Calls Tryd.prog 6 #[.int .u8 f, .agg #[.int .u64 x, .int .u64 y]] w fun r w' => r = .returned (.bool o) ∧ Below w.heap.size w w' := by
  have K1 := box (fun w hT => kClass_yes f hf x y n c hx hy hn ho hc w hT)
  have FF := box hT
  clear hf hx hy hn ho hc hT
  by_cases c0 : c = 0
  · rw [decide_eq_true (Or.inl c0)] at hd
    subst hd
    have d0 : ((c : Int) == 0) = true := by rw [c0]; rfl
    clear c0
    obtain ⟨Aa, B0⟩ := opn1 w (Obj.cells #[.int .u64 x, .int .u64 y] 26)
    go_enter Tryd.func6, Tryd.ntmps6
    go_wp2_with fail
    refine (K1.out _ (fatB FF.out B0)).mono ?_
    rintro r w1 ⟨rfl, b1⟩
    have B1 : Below w.heap.size w w1 := btr B0 b1
    have Ab := heap_of b1 _ _ _ Aa
    clear b1 B0 Aa
    obtain ⟨Ac, Ad⟩ := cells2s Ab
    go_wp2
    go_ret
    exact ⟨rfl, B1⟩
  · have d0 : ((c : Int) == 0) = false := by rw [beq_eq_false_iff_ne]; omega
    have d7 : decide ((7 : Int) ≤ (c : Int)) = o := by
      rw [← hd, decide_eq_decide]
      omega
    clear c0 hd
    obtain ⟨Aa, B0⟩ := opn1 w (Obj.cells #[.int .u64 x, .int .u64 y] 26)
    go_enter Tryd.func6, Tryd.ntmps6
    go_wp2_with fail
    refine (K1.out _ (fatB FF.out B0)).mono ?_
    rintro r w1 ⟨rfl, b1⟩
    have B1 : Below w.heap.size w w1 := btr B0 b1
    have Ab := heap_of b1 _ _ _ Aa
    clear b1 B0 Aa
    obtain ⟨Ac, Ad⟩ := cells2s Ab
    go_wp2
    go_ret
    exact ⟨rfl, B1⟩
theorem addR_no2 {f : Int} (hf : Is4 f) (m : Int) (a b : Nat) : bits .and .u8 (addR f m a b).2 2 = 0 := by
  have h := addR_flag hf m a b
  have all : ∀ z : Nat × Int, (z.2 = 0 ∨ z.2 = 1 ∨ z.2 = 3 ∨ z.2 = 5 ∨ z.2 = 16) → z.2 ≠ 3 → bits .and .u8 z.2 2 = 0 := fun z q n => by
    rcases q with q | q | q | q | q
    · rw [q]; decide +kernel
    · rw [q]; decide +kernel
    · exact absurd q n
    · rw [q]; decide +kernel
    · rw [q]; decide +kernel
  refine all _ ?_ h
  have dl : ∀ neg T W more, (dlv f m neg T W more).2 = 0 ∨ (dlv f m neg T W more).2 = 1 ∨ (dlv f m neg T W more).2 = 3 ∨ (dlv f m neg T W more).2 = 5 ∨ (dlv f m neg T W more).2 = 16 := fun neg T W more => by
    unfold dlv
    (repeat' split) <;> simp
  have gl : ∀ g l, (addG f m g l).2 = 0 ∨ (addG f m g l).2 = 1 ∨ (addG f m g l).2 = 3 ∨ (addG f m g l).2 = 5 ∨ (addG f m g l).2 = 16 := fun g l => by
    unfold addG
    split
    · simp
    · split
      · simp
      · split
        · split <;> simp
        · split
          · simp
          · exact dl _ _ _ _
  unfold addR
  split <;> exact gl _ _
theorem turned_roads (f m : Int) (h0 : 0 ≤ f) (h1 : f ≤ 255) (m0 : 0 ≤ m) (x1 y1 x2 y2 : Nat) (hx1 : x1 < 18446744073709551616) (hy1 : y1 < 18446744073709551616) (hx2 : x2 < 18446744073709551616) (hy2 : y2 < 18446744073709551616) :
    (Box (∀ w, FAt w → Calls Tryd.prog 5 #[.int .u8 f, .int .u8 m, .agg #[.int .u64 x1, .int .u64 y1], .agg #[.int .u64 x2, .int .u64 y2]] w fun r w' => r = .returned (.tuple #[.agg #[.int .u64 0, .int .u64 0], .int .u8 0, .int .i64 2]) ∧ Below w.heap.size w w') ∧ Box (∀ w, FAt w → Calls Tryd.prog 5 #[.int .u8 f, .int .u8 m, .agg #[.int .u64 x2, .int .u64 y2], .agg #[.int .u64 x1, .int .u64 y1]] w fun r w' => r = .returned (.tuple #[.agg #[.int .u64 0, .int .u64 0], .int .u8 0, .int .i64 2]) ∧ Below w.heap.size w w')) ∨
    (∃ (u v : Nat) (fl : Int), Box (∀ w, FAt w → Calls Tryd.prog 5 #[.int .u8 f, .int .u8 m, .agg #[.int .u64 x1, .int .u64 y1], .agg #[.int .u64 x2, .int .u64 y2]] w fun r w' => r = .returned (.tuple #[.agg #[.int .u64 u, .int .u64 v], .int .u8 fl, .int .i64 0]) ∧ Below w.heap.size w w') ∧ Box (∀ w, FAt w → Calls Tryd.prog 5 #[.int .u8 f, .int .u8 m, .agg #[.int .u64 x2, .int .u64 y2], .agg #[.int .u64 x1, .int .u64 y1]] w fun r w' => r = .returned (.tuple #[.agg #[.int .u64 u, .int .u64 v], .int .u8 fl, .int .i64 0]) ∧ Below w.heap.size w w') ∧ bits .and .u8 fl 2 = 0 ∧ Box (∀ w, FAt w → Calls Tryd.prog 6 #[.int .u8 f, .agg #[.int .u64 x1, .int .u64 y1]] w fun r w' => r = .returned (.bool true) ∧ Below w.heap.size w w')) ∨
    (∃ (u v : Nat) (fl : Int), Box (∀ w, FAt w → Calls Tryd.prog 5 #[.int .u8 f, .int .u8 m, .agg #[.int .u64 x1, .int .u64 y1], .agg #[.int .u64 x2, .int .u64 y2]] w fun r w' => r = .returned (.tuple #[.agg #[.int .u64 u, .int .u64 v], .int .u8 fl, .int .i64 0]) ∧ Below w.heap.size w w') ∧ Box (∀ w, FAt w → Calls Tryd.prog 5 #[.int .u8 f, .int .u8 m, .agg #[.int .u64 x2, .int .u64 y2], .agg #[.int .u64 x1, .int .u64 y1]] w fun r w' => r = .returned (.tuple #[.agg #[.int .u64 u, .int .u64 v], .int .u8 fl, .int .i64 0]) ∧ Below w.heap.size w w') ∧ bits .and .u8 fl 2 = 0 ∧ Box (∀ w, FAt w → Calls Tryd.prog 6 #[.int .u8 f, .agg #[.int .u64 x1, .int .u64 y1]] w fun r w' => r = .returned (.bool false) ∧ Below w.heap.size w w') ∧
      ∃ s : Bool, Box (∀ w, FAt w → Calls Tryd.prog 9 #[.int .u8 f, .agg #[.int .u64 x1, .int .u64 y1]] w fun r w' => r = .returned (.bool s) ∧ Below w.heap.size w w') ∧ ∃ p q : Nat, Box (∀ w, FAt w → Calls Tryd.prog 8 #[.int .u8 f, .bool s] w fun r w' => r = .returned (.agg #[.int .u64 p, .int .u64 q]) ∧ Below w.heap.size w w') ∧ Box (∀ w, FAt w → Calls Tryd.prog 5 #[.int .u8 f, .int .u8 m, .agg #[.int .u64 x1, .int .u64 y1], .agg #[.int .u64 p, .int .u64 q]] w fun r w' => r = .returned (.tuple #[.agg #[.int .u64 x1, .int .u64 y1], .int .u8 0, .int .i64 0]) ∧ Below w.heap.size w w')) := by
  obtain ⟨a, ha⟩ : ∃ a, y1 + 18446744073709551616 * x1 = a := ⟨_, rfl⟩
  obtain ⟨b, hb⟩ : ∃ b, y2 + 18446744073709551616 * x2 = b := ⟨_, rfl⟩
  by_cases h : (f ≤ 3 ∧ m ≤ 4) ∧ okB f a = true ∧ okB f b = true
  · obtain ⟨⟨c1, c2⟩, oa, ob⟩ := h
    have hf := is4_of h0 c1
    have hm : 0 ≤ m ∧ m ≤ 4 := ⟨m0, c2⟩
    have fa := (okB_yes h0 oa).2
    have fb := (okB_yes h0 ob).2
    obtain ⟨M, fl, hr⟩ : ∃ M fl, addR f m a b = (M, fl) := ⟨_, _, rfl⟩
    obtain ⟨u, v, hv⟩ : ∃ u v, bv7 M = (u, v) := ⟨_, _, rfl⟩
    have hr2 : addR f m b a = (M, fl) := by rw [← addR_turn hf m a b fa fb]; exact hr
    have nf := addR_no2 hf m a b
    rw [hr] at nf
    have K1 := box (fun w hT => kAdd_ok f m hf hm x1 y1 a x2 y2 b hx1 hy1 ha hx2 hy2 hb oa ob M fl hr u v hv w hT)
    have K2 := box (fun w hT => kAdd_ok f m hf hm x2 y2 b x1 y1 a hx2 hy2 hb hx1 hy1 ha ob oa M fl hr2 u v hv w hT)
    by_cases k : kC f a = 0 ∨ 7 ≤ kC f a
    · exact Or.inr (Or.inl ⟨u, v, fl, K1, K2, nf, box (fun w hT => r11kind f hf x1 y1 a _ true hx1 hy1 ha oa rfl (decide_eq_true k) w hT)⟩)
    · have fin : 0 < kC f a ∧ kC f a < 7 := by omega
      have zl := (enc_k hf (kN f a) (e := 0) (t := 0) (Nat.zero_le _) (Nat.two_pow_pos _)).1
      have zok : okB f (eZero f (kN f a)) = true := by
        unfold okB
        rw [decide_eq_true_iff]
        exact ⟨c1, zl⟩
      have zlt : eZero f (kN f a) < 340282366920938463463374607431768211456 := by
        have := (fm hf).2.2.2.2.2.2
        have zl : eZero f (kN f a) < 2 * 2 ^ wV f := zl
        omega
      obtain ⟨p, q, hp⟩ : ∃ p q, bv7 (eZero f (kN f a)) = (p, q) := ⟨_, _, rfl⟩
      obtain ⟨p1, p2, p3⟩ := bv_lt zlt hp
      obtain ⟨e1, e2⟩ : bv7 a = (x1, y1) ∧ True := ⟨by unfold bv7; rw [← ha]; congr 1 <;> omega, trivial⟩
      refine Or.inr (Or.inr ⟨u, v, fl, K1, K2, nf, box (fun w hT => r11kind f hf x1 y1 a _ false hx1 hy1 ha oa rfl (decide_eq_false k) w hT), kN f a, box (fun w hT => kSign_yes f hf x1 y1 a _ hx1 hy1 ha oa rfl w hT), p, q, box (fun w hT => ?_), box (fun w hT => kAdd_ok f m hf hm x1 y1 a p q _ hx1 hy1 ha p1 p2 p3 oa zok a 0 (addR_own hf m a _ fa fin rfl) x1 y1 e1 w hT)⟩)
      have := s_zero f (kN f a) hf _ rfl w hT
      rw [hp] at this
      exact this
  · have n1 : (decide (f ≤ 3 ∧ m ≤ 4) && okB f a && okB f b) = false := by
      rw [Bool.eq_false_iff]
      intro q
      rw [Bool.and_eq_true, Bool.and_eq_true, decide_eq_true_iff] at q
      exact h ⟨q.1.1, q.1.2, q.2⟩
    have n2 : (decide (f ≤ 3 ∧ m ≤ 4) && okB f b && okB f a) = false := by
      rw [Bool.eq_false_iff]
      intro q
      rw [Bool.and_eq_true, Bool.and_eq_true, decide_eq_true_iff] at q
      exact h ⟨q.1.1, q.2, q.1.2⟩
    exact Or.inl ⟨box (fun w hT => add_add_no f m x1 y1 x2 y2 0 0 0 0 0 0 w (kmay2 f m h0 h1 m0 x1 y1 a x2 y2 b hx1 hy1 ha hx2 hy2 hb false n1) hT), box (fun w hT => add_add_no f m x2 y2 x1 y1 0 0 0 0 0 0 w (kmay2 f m h0 h1 m0 x2 y2 b x1 y1 a hx2 hy2 hb hx1 hy1 ha false n2) hT)⟩
theorem at_own (f m : Int) (x1 y1 x2 y2 u v p q : Nat) (fl : Int) (s : Bool) (w : World) (hfl : bits .and .u8 fl 2 = 0)
    (KR : Box (∀ w, FAt w → Calls Tryd.prog 5 #[.int .u8 f, .int .u8 m, .agg #[.int .u64 x1, .int .u64 y1], .agg #[.int .u64 x2, .int .u64 y2]] w fun r w' => r = .returned (.tuple #[.agg #[.int .u64 u, .int .u64 v], .int .u8 fl, .int .i64 0]) ∧ Below w.heap.size w w'))
    (KQ : Box (∀ w, FAt w → Calls Tryd.prog 5 #[.int .u8 f, .int .u8 m, .agg #[.int .u64 x2, .int .u64 y2], .agg #[.int .u64 x1, .int .u64 y1]] w fun r w' => r = .returned (.tuple #[.agg #[.int .u64 u, .int .u64 v], .int .u8 fl, .int .i64 0]) ∧ Below w.heap.size w w'))
    (KK : Box (∀ w, FAt w → Calls Tryd.prog 6 #[.int .u8 f, .agg #[.int .u64 x1, .int .u64 y1]] w fun r w' => r = .returned (.bool false) ∧ Below w.heap.size w w'))
    (KS : Box (∀ w, FAt w → Calls Tryd.prog 9 #[.int .u8 f, .agg #[.int .u64 x1, .int .u64 y1]] w fun r w' => r = .returned (.bool s) ∧ Below w.heap.size w w'))
    (KZ : Box (∀ w, FAt w → Calls Tryd.prog 8 #[.int .u8 f, .bool s] w fun r w' => r = .returned (.agg #[.int .u64 p, .int .u64 q]) ∧ Below w.heap.size w w'))
    (KE : Box (∀ w, FAt w → Calls Tryd.prog 5 #[.int .u8 f, .int .u8 m, .agg #[.int .u64 x1, .int .u64 y1], .agg #[.int .u64 p, .int .u64 q]] w fun r w' => r = .returned (.tuple #[.agg #[.int .u64 x1, .int .u64 y1], .int .u8 0, .int .i64 0]) ∧ Below w.heap.size w w'))
    (KA : Box (∀ w, FAt w → Calls Tryd.prog 7 #[] w fun r w' => r = .returned (.bool true) ∧ Below w.heap.size w w')) (hT : FAt w) : Calls Tryd.prog 3 #[.int .u8 f, .int .u8 m, .agg #[.int .u64 x1, .int .u64 y1], .agg #[.int .u64 x2, .int .u64 y2]] w fun r w' => r = .returned (.bool true) ∧ Below w.heap.size w w' := by
  have FF := box hT
  clear hT
  obtain ⟨Af, Ag, B0⟩ := opn2 w (Obj.cells #[.int .u64 x1, .int .u64 y1] 26) (Obj.cells #[.int .u64 x2, .int .u64 y2] 26)
  go_enter Tryd.func3, Tryd.ntmps3
  obtain ⟨AB, AC⟩ := cells2s Af
  obtain ⟨AD, AE⟩ := cells2s Ag
  go_wp2_with fail
  refine (KR.out _ (fatB FF.out B0)).mono ?_
  rintro r w1 ⟨rfl, b1⟩
  have B1 : Below w.heap.size w w1 := btr B0 b1
  have Aa := heap_of b1 _ _ _ Af
  have Ab := heap_of b1 _ _ _ Ag
  clear b1 B0 Af AB AC Ag AD AE
  obtain ⟨AF, AG⟩ := cells2s Aa
  obtain ⟨AH, AI⟩ := cells2s Ab
  have S2 := box B1.size
  have Bq := ltR Aa
  have Br := ltR Ab
  have Ah := heap_alloc_last w1 (Obj.cells #[.int .u64 u, .int .u64 v] 26)
  have B2 := btr B1 (bal w1 (Obj.cells #[.int .u64 u, .int .u64 v] 26))
  have Ai := heap_of (bal w1 (Obj.cells #[.int .u64 u, .int .u64 v] 26)) _ _ _ Aa
  have Aj := heap_of (bal w1 (Obj.cells #[.int .u64 u, .int .u64 v] 26)) _ _ _ Ab
  clear B1 Aa AF AG Ab AH AI
  obtain ⟨AJ, AK⟩ := cells2s Ai
  obtain ⟨AL, AM⟩ := cells2s Aj
  obtain ⟨AN, AO⟩ := cells2s Ah
  go_wp2_with fail
  refine (KQ.out _ (fatB FF.out B2)).mono ?_
  rintro r w3 ⟨rfl, b3⟩
  have B3 : Below w.heap.size w w3 := btr B2 b3
  have Ac := heap_of b3 _ _ _ Ai
  have Ad := heap_of b3 _ _ _ Aj
  have Ae := heap_of b3 _ _ _ Ah
  clear b3 B2 Ai AJ AK Aj AL AM Ah AN AO
  obtain ⟨AP, AQ⟩ := cells2s Ac
  obtain ⟨AR, AS⟩ := cells2s Ad
  obtain ⟨AT, AU⟩ := cells2s Ae
  have S4 := box B3.size
  have Bs := ltR Ac
  have Bt := ltR Ad
  have Bu := ltR Ae
  have Ak := heap_alloc_last w3 (Obj.cells #[.int .u64 u, .int .u64 v] 26)
  have B4 := btr B3 (bal w3 (Obj.cells #[.int .u64 u, .int .u64 v] 26))
  have Al := heap_of (bal w3 (Obj.cells #[.int .u64 u, .int .u64 v] 26)) _ _ _ Ac
  have Am := heap_of (bal w3 (Obj.cells #[.int .u64 u, .int .u64 v] 26)) _ _ _ Ad
  have An := heap_of (bal w3 (Obj.cells #[.int .u64 u, .int .u64 v] 26)) _ _ _ Ae
  clear B3 Ac AP AQ Ad AR AS Ae AT AU
  obtain ⟨AV, AW⟩ := cells2s Al
  obtain ⟨AX, AY⟩ := cells2s Am
  obtain ⟨AZ, A0⟩ := cells2s An
  obtain ⟨A1, A2⟩ := cells2s Ak
  go_wp2_with fail
  refine (KK.out _ (fatB FF.out B4)).mono ?_
  rintro r w5 ⟨rfl, b5⟩
  have B5 : Below w.heap.size w w5 := btr B4 b5
  have Ao := heap_of b5 _ _ _ Al
  have Ap := heap_of b5 _ _ _ Am
  have Aq := heap_of b5 _ _ _ An
  have Ar := heap_of b5 _ _ _ Ak
  clear b5 B4 Al AV AW Am AX AY An AZ A0 Ak A1 A2
  obtain ⟨A3, A4⟩ := cells2s Ao
  obtain ⟨A5, A6⟩ := cells2s Ap
  obtain ⟨A7, A8⟩ := cells2s Aq
  obtain ⟨A9, Ba⟩ := cells2s Ar
  have sS : Box (∀ W W1 : World, (Below w.heap.size w W ∧ W.heap[w.heap.size]? = some (.cells #[.int .u64 x1, .int .u64 y1] 26) ∧ W.heap[w.heap.size + 1]? = some (.cells #[.int .u64 x2, .int .u64 y2] 26) ∧ W.heap[w1.heap.size]? = some (.cells #[.int .u64 u, .int .u64 v] 26) ∧ W.heap[w3.heap.size]? = some (.cells #[.int .u64 u, .int .u64 v] 26)) → Below W.heap.size W W1 → (Below w.heap.size w W1 ∧ W1.heap[w.heap.size]? = some (.cells #[.int .u64 x1, .int .u64 y1] 26) ∧ W1.heap[w.heap.size + 1]? = some (.cells #[.int .u64 x2, .int .u64 y2] 26) ∧ W1.heap[w1.heap.size]? = some (.cells #[.int .u64 u, .int .u64 v] 26) ∧ W1.heap[w3.heap.size]? = some (.cells #[.int .u64 u, .int .u64 v] 26))) := box (fun W W1 h b => ⟨btr h.1 b, heap_of b _ _ _ h.2.1, heap_of b _ _ _ h.2.2.1, heap_of b _ _ _ h.2.2.2.1, heap_of b _ _ _ h.2.2.2.2⟩)
  have sL : Box (∀ W : World, (Below w.heap.size w W ∧ W.heap[w.heap.size]? = some (.cells #[.int .u64 x1, .int .u64 y1] 26) ∧ W.heap[w.heap.size + 1]? = some (.cells #[.int .u64 x2, .int .u64 y2] 26) ∧ W.heap[w1.heap.size]? = some (.cells #[.int .u64 u, .int .u64 v] 26) ∧ W.heap[w3.heap.size]? = some (.cells #[.int .u64 u, .int .u64 v] 26)) → (w.heap.size < W.heap.size ∧ w.heap.size + 1 < W.heap.size ∧ w1.heap.size < W.heap.size ∧ w3.heap.size < W.heap.size)) := box (fun W h => ⟨(Array.getElem?_eq_some_iff.1 h.2.1).1, (Array.getElem?_eq_some_iff.1 h.2.2.1).1, (Array.getElem?_eq_some_iff.1 h.2.2.2.1).1, (Array.getElem?_eq_some_iff.1 h.2.2.2.2).1⟩)
  have sT : Box (∀ (W : World) (gN : Nat) (xA xB : Value), (Below w.heap.size w W ∧ W.heap[w.heap.size]? = some (.cells #[.int .u64 x1, .int .u64 y1] 26) ∧ W.heap[w.heap.size + 1]? = some (.cells #[.int .u64 x2, .int .u64 y2] 26) ∧ W.heap[w1.heap.size]? = some (.cells #[.int .u64 u, .int .u64 v] 26) ∧ W.heap[w3.heap.size]? = some (.cells #[.int .u64 u, .int .u64 v] 26)) → (w.heap.size < gN ∧ w.heap.size + 1 < gN ∧ w1.heap.size < gN ∧ w3.heap.size < gN) → (Below w.heap.size w ((W.setCell ⟨gN, 0, none⟩ xA).setCell ⟨gN, 1, none⟩ xB) ∧ ((W.setCell ⟨gN, 0, none⟩ xA).setCell ⟨gN, 1, none⟩ xB).heap[w.heap.size]? = some (.cells #[.int .u64 x1, .int .u64 y1] 26) ∧ ((W.setCell ⟨gN, 0, none⟩ xA).setCell ⟨gN, 1, none⟩ xB).heap[w.heap.size + 1]? = some (.cells #[.int .u64 x2, .int .u64 y2] 26) ∧ ((W.setCell ⟨gN, 0, none⟩ xA).setCell ⟨gN, 1, none⟩ xB).heap[w1.heap.size]? = some (.cells #[.int .u64 u, .int .u64 v] 26) ∧ ((W.setCell ⟨gN, 0, none⟩ xA).setCell ⟨gN, 1, none⟩ xB).heap[w3.heap.size]? = some (.cells #[.int .u64 u, .int .u64 v] 26))) := box (fun W gN xA xB h l => ⟨set2_below h.1 (show w.heap.size ≤ gN by have := l.1; omega) _ _, (setCell_other (by have := l.1; omega)).trans ((setCell_other (by have := l.1; omega)).trans h.2.1), (setCell_other (by have := l.2.1; omega)).trans ((setCell_other (by have := l.2.1; omega)).trans h.2.2.1), (setCell_other (by have := l.2.2.1; omega)).trans ((setCell_other (by have := l.2.2.1; omega)).trans h.2.2.2.1), (setCell_other (by have := l.2.2.2; omega)).trans ((setCell_other (by have := l.2.2.2; omega)).trans h.2.2.2.2)⟩)
  have sC : Box (∀ W : World, (Below w.heap.size w W ∧ W.heap[w.heap.size]? = some (.cells #[.int .u64 x1, .int .u64 y1] 26) ∧ W.heap[w.heap.size + 1]? = some (.cells #[.int .u64 x2, .int .u64 y2] 26) ∧ W.heap[w1.heap.size]? = some (.cells #[.int .u64 u, .int .u64 v] 26) ∧ W.heap[w3.heap.size]? = some (.cells #[.int .u64 u, .int .u64 v] 26)) → (Below w.heap.size w W ∧ W.heap[w.heap.size]? = some (.cells #[.int .u64 x1, .int .u64 y1] 26) ∧ W.heap[w.heap.size + 1]? = some (.cells #[.int .u64 x2, .int .u64 y2] 26) ∧ W.heap[w1.heap.size]? = some (.cells #[.int .u64 u, .int .u64 v] 26) ∧ W.heap[w3.heap.size]? = some (.cells #[.int .u64 u, .int .u64 v] 26) ∧ W.cell? ⟨w.heap.size, 0, none⟩ = some (.int .u64 x1) ∧ W.cell? ⟨w.heap.size, 1, none⟩ = some (.int .u64 y1) ∧ W.cell? ⟨w.heap.size + 1, 0, none⟩ = some (.int .u64 x2) ∧ W.cell? ⟨w.heap.size + 1, 1, none⟩ = some (.int .u64 y2) ∧ W.cell? ⟨w1.heap.size, 0, none⟩ = some (.int .u64 u) ∧ W.cell? ⟨w1.heap.size, 1, none⟩ = some (.int .u64 v) ∧ W.cell? ⟨w3.heap.size, 0, none⟩ = some (.int .u64 u) ∧ W.cell? ⟨w3.heap.size, 1, none⟩ = some (.int .u64 v))) := box (fun W h => ⟨h.1, h.2.1, h.2.2.1, h.2.2.2.1, h.2.2.2.2, cell7 (h.2.1) 0 _ rfl, cell7 (h.2.1) 1 _ rfl, cell7 (h.2.2.1) 0 _ rfl, cell7 (h.2.2.1) 1 _ rfl, cell7 (h.2.2.2.1) 0 _ rfl, cell7 (h.2.2.2.1) 1 _ rfl, cell7 (h.2.2.2.2) 0 _ rfl, cell7 (h.2.2.2.2) 1 _ rfl⟩)
  have s0 : Below w.heap.size w (w5).drew ∧ (w5).drew.heap[w.heap.size]? = some (.cells #[.int .u64 x1, .int .u64 y1] 26) ∧ (w5).drew.heap[w.heap.size + 1]? = some (.cells #[.int .u64 x2, .int .u64 y2] 26) ∧ (w5).drew.heap[w1.heap.size]? = some (.cells #[.int .u64 u, .int .u64 v] 26) ∧ (w5).drew.heap[w3.heap.size]? = some (.cells #[.int .u64 u, .int .u64 v] 26) := ⟨B5.drew, Ao, Ap, Aq, Ar⟩
  clear B5 Ao A3 A4 Ap A5 A6 Aq A7 A8 Ar A9 Ba
  go_wp2_with fail
  apply cut7
  · intro key0
    have key := box key0
    clear key0
    go_region_held3 (fun W => Below w.heap.size w W ∧ W.heap[w.heap.size]? = some (.cells #[.int .u64 x1, .int .u64 y1] 26) ∧ W.heap[w.heap.size + 1]? = some (.cells #[.int .u64 x2, .int .u64 y2] 26) ∧ W.heap[w1.heap.size]? = some (.cells #[.int .u64 u, .int .u64 v] 26) ∧ W.heap[w3.heap.size]? = some (.cells #[.int .u64 u, .int .u64 v] 26) ∧ W.cell? ⟨w.heap.size, 0, none⟩ = some (.int .u64 x1) ∧ W.cell? ⟨w.heap.size, 1, none⟩ = some (.int .u64 y1) ∧ W.cell? ⟨w.heap.size + 1, 0, none⟩ = some (.int .u64 x2) ∧ W.cell? ⟨w.heap.size + 1, 1, none⟩ = some (.int .u64 y2) ∧ W.cell? ⟨w1.heap.size, 0, none⟩ = some (.int .u64 u) ∧ W.cell? ⟨w1.heap.size, 1, none⟩ = some (.int .u64 v) ∧ W.cell? ⟨w3.heap.size, 0, none⟩ = some (.int .u64 u) ∧ W.cell? ⟨w3.heap.size, 1, none⟩ = some (.int .u64 v)) (first | exact sC.out _ s1 | exact sC.out _ s0 | exact sC.out _ (sS.out _ _ s1 (bal _ _)) | exact sC.out _ (sS.out _ _ s0 (bal _ _)) | exact sC.out _ (sT.out _ _ _ _ s1 hl))
      (first | (go_at_call 9; (first | refine (KS.out _ (by first | exact fatB FF.out (And.left s1) | exact fat_al (fatB FF.out (And.left s1)) _)).mono ?_ | refine (KS.out _ (by first | exact fatB FF.out (And.left s0) | exact fat_al (fatB FF.out (And.left s0)) _)).mono ?_); rintro r wq ⟨rfl, bq⟩; (first | (have hg := heap_of bq _ _ _ (heap_alloc_last _ _); have hl := (by first | exact sL.out _ s1 | exact sL.out _ s0)) | have hg := heap_of bq _ _ _ hg | skip); (try simp only [size_dr, size_al] at hg hl); (first | (have Ax := fz (k := 0) hg; have Ay := fz (k := 1) hg; have Az := cell7 hg 0 _ rfl; have AA := cell7 hg 1 _ rfl) | skip); have s2 := (by first | exact sS.out _ _ s1 bq | exact sS.out _ _ s0 bq | exact sS.out _ _ (sS.out _ _ s1 (bal _ _)) bq | exact sS.out _ _ (sS.out _ _ s0 (bal _ _)) bq); (try clear s1); have s1 := s2; clear s2 bq) | (go_at_call 8; (first | refine (KZ.out _ (by first | exact fatB FF.out (And.left s1) | exact fat_al (fatB FF.out (And.left s1)) _)).mono ?_ | refine (KZ.out _ (by first | exact fatB FF.out (And.left s0) | exact fat_al (fatB FF.out (And.left s0)) _)).mono ?_); rintro r wq ⟨rfl, bq⟩; (first | (have hg := heap_of bq _ _ _ (heap_alloc_last _ _); have hl := (by first | exact sL.out _ s1 | exact sL.out _ s0)) | have hg := heap_of bq _ _ _ hg | skip); (try simp only [size_dr, size_al] at hg hl); (first | (have Ax := fz (k := 0) hg; have Ay := fz (k := 1) hg; have Az := cell7 hg 0 _ rfl; have AA := cell7 hg 1 _ rfl) | skip); have s2 := (by first | exact sS.out _ _ s1 bq | exact sS.out _ _ s0 bq | exact sS.out _ _ (sS.out _ _ s1 (bal _ _)) bq | exact sS.out _ _ (sS.out _ _ s0 (bal _ _)) bq); (try clear s1); have s1 := s2; clear s2 bq) | (go_at_call 5; (first | refine (KE.out _ (by first | exact fatB FF.out (And.left s1) | exact fat_al (fatB FF.out (And.left s1)) _)).mono ?_ | refine (KE.out _ (by first | exact fatB FF.out (And.left s0) | exact fat_al (fatB FF.out (And.left s0)) _)).mono ?_); rintro r wq ⟨rfl, bq⟩; (first | (have hg := heap_of bq _ _ _ (heap_alloc_last _ _); have hl := (by first | exact sL.out _ s1 | exact sL.out _ s0)) | have hg := heap_of bq _ _ _ hg | skip); (try simp only [size_dr, size_al] at hg hl); (first | (have Ax := fz (k := 0) hg; have Ay := fz (k := 1) hg; have Az := cell7 hg 0 _ rfl; have AA := cell7 hg 1 _ rfl) | skip); have s2 := (by first | exact sS.out _ _ s1 bq | exact sS.out _ _ s0 bq | exact sS.out _ _ (sS.out _ _ s1 (bal _ _)) bq | exact sS.out _ _ (sS.out _ _ s0 (bal _ _)) bq); (try clear s1); have s1 := s2; clear s2 bq) | fail)
    all_goals
      refine gen_abacuslaw11_AddTurned_15 (R := fun W gN => (Below w.heap.size w W ∧ W.heap[w.heap.size]? = some (.cells #[.int .u64 x1, .int .u64 y1] 26) ∧ W.heap[w.heap.size + 1]? = some (.cells #[.int .u64 x2, .int .u64 y2] 26) ∧ W.heap[w1.heap.size]? = some (.cells #[.int .u64 u, .int .u64 v] 26) ∧ W.heap[w3.heap.size]? = some (.cells #[.int .u64 u, .int .u64 v] 26)) ∧ W.heap[gN]? = some (.cells #[.int .u64 x1, .int .u64 y1] 26) ∧ (w.heap.size < gN ∧ w.heap.size + 1 < gN ∧ w1.heap.size < gN ∧ w3.heap.size < gN)) key.out ?_
      first
        | exact ⟨(sT.out _ _ _ _ s1 hl), set2_row hg _ _, hl⟩
        | exact ⟨sS.out _ _ s1 (bal _ _), heap_alloc_last _ _, sL.out _ s1⟩
        | exact ⟨sS.out _ _ s0 (bal _ _), heap_alloc_last _ _, sL.out _ s0⟩
  rintro w6 g6 ⟨s1, As, l6⟩
  have B6 := And.left s1
  have At := s1.2.1
  have Au := s1.2.2.1
  have Av := s1.2.2.2.1
  have Aw := s1.2.2.2.2
  have H6 := box l6
  clear s0 s1 sS sC sL sT l6
  obtain ⟨Bb, Bc⟩ := cells2s At
  obtain ⟨Bd, Be⟩ := cells2s Au
  obtain ⟨Bf, Bg⟩ := cells2s Av
  obtain ⟨Bh, Bi⟩ := cells2s Aw
  obtain ⟨Bj, Bk⟩ := cells2s As
  go_wp2_with fail
  refine (KA.out _ (fatB FF.out B6)).mono ?_
  rintro r w7 ⟨rfl, b7⟩
  have B7 : Below w.heap.size w w7 := btr B6 b7
  have Bl := heap_of b7 _ _ _ At
  have Bm := heap_of b7 _ _ _ Au
  have Bn := heap_of b7 _ _ _ Av
  have Bo := heap_of b7 _ _ _ Aw
  have Bp := heap_of b7 _ _ _ As
  clear b7 B6 At Bb Bc Au Bd Be Av Bf Bg Aw Bh Bi As Bj Bk
  obtain ⟨Bv, Bw⟩ := cells2s Bl
  obtain ⟨Bx, By⟩ := cells2s Bm
  obtain ⟨Bz, BA⟩ := cells2s Bn
  obtain ⟨BB, BC⟩ := cells2s Bo
  obtain ⟨BD, BE⟩ := cells2s Bp
  go_wp2
  go_ret
  exact ⟨rfl, B7⟩
end Go.Proofs.YtoaaajeblhaeoaaDoor
