/-
  What the functions that the statement reaches return: part 4 (K5, K6, K7).
-/
import Derived.Deep.RegionHeld3
import Derived.Test.YtlpelcfaakfmiaaDoorTw03
namespace Go.Proofs.YtlpelcfaakfmiaaDoor
set_option maxRecDepth 100000
set_option maxHeartbeats 40000000
set_option maxRecDepth 100000
open Go.RowKit WMath
set_option linter.unusedSimpArgs false
set_option linter.unusedVariables false
theorem sk_zero (f : Int) (neg : Bool) (hf : Is4 f) (u v : Nat) (hv : bv7 (eZero f neg) = (u, v)) (w : World) (hT : FAt w) : Calls Tryd.prog 44 #[.int .u8 f, .bool neg] w fun r w' => r = .returned (.agg #[.int .u64 (u : Nat), .int .u64 (v : Nat)]) ∧ Below w.heap.size w w' := by
  have := s_zero f neg hf _ rfl w hT
  rw [hv] at this
  exact this
theorem sk_inf (f : Int) (neg : Bool) (hf : Is4 f) (u v : Nat) (hv : bv7 (eInf f neg) = (u, v)) (w : World) (hT : FAt w) : Calls Tryd.prog 70 #[.int .u8 f, .bool neg] w fun r w' => r = .returned (.agg #[.int .u64 (u : Nat), .int .u64 (v : Nat)]) ∧ Below w.heap.size w w' := by
  have := s_inf f neg hf _ rfl w hT
  rw [hv] at this
  exact this
theorem einf_k {f : Int} (h : Is4 f) : kE f (eInf f false) = oV f ∧ eInf f false < 340282366920938463463374607431768211456 := by
  have := enc_k h false (e := oV f) (t := 0) (Nat.le_refl _) (Nat.two_pow_pos _)
  refine ⟨this.2.2.1, ?_⟩
  have h2 := this.1
  unfold Fit at h2
  have := (fm h).2.2.2.2.2.2
  unfold eInf; omega
theorem sb_of {w W : World} {x y : Value} (b : Below w.heap.size w W) (r : W.heap[w.heap.size]? = some (.cells #[x, y] 26)) : Below w.heap.size w W ∧ W.heap[w.heap.size]? = some (.cells #[x, y] 26) ∧ W.cell? ⟨w.heap.size, 0, none⟩ = some x ∧ W.cell? ⟨w.heap.size, 1, none⟩ = some y := ⟨b, r, cell7 r 0 _ rfl, cell7 r 1 _ rfl⟩
theorem sb_call {w W W' : World} {x y : Value} (h : Below w.heap.size w W ∧ W.heap[w.heap.size]? = some (.cells #[x, y] 26) ∧ W.cell? ⟨w.heap.size, 0, none⟩ = some x ∧ W.cell? ⟨w.heap.size, 1, none⟩ = some y) (b : Below W.heap.size W W') : Below w.heap.size w W' ∧ W'.heap[w.heap.size]? = some (.cells #[x, y] 26) ∧ W'.cell? ⟨w.heap.size, 0, none⟩ = some x ∧ W'.cell? ⟨w.heap.size, 1, none⟩ = some y := sb_of (btr7 h.1 b) (heap_of b _ _ _ h.2.1)
theorem sb_al {w W : World} {x y : Value} (h : Below w.heap.size w W ∧ W.heap[w.heap.size]? = some (.cells #[x, y] 26) ∧ W.cell? ⟨w.heap.size, 0, none⟩ = some x ∧ W.cell? ⟨w.heap.size, 1, none⟩ = some y) (o : Obj) : Below w.heap.size w (W.alloc o) ∧ (W.alloc o).heap[w.heap.size]? = some (.cells #[x, y] 26) ∧ (W.alloc o).cell? ⟨w.heap.size, 0, none⟩ = some x ∧ (W.alloc o).cell? ⟨w.heap.size, 1, none⟩ = some y := sb_call h (bal7 _ _)
theorem sb_dr {w W : World} {x y : Value} (h : Below w.heap.size w W ∧ W.heap[w.heap.size]? = some (.cells #[x, y] 26) ∧ W.cell? ⟨w.heap.size, 0, none⟩ = some x ∧ W.cell? ⟨w.heap.size, 1, none⟩ = some y) : Below w.heap.size w W.drew ∧ W.drew.heap[w.heap.size]? = some (.cells #[x, y] 26) ∧ W.drew.cell? ⟨w.heap.size, 0, none⟩ = some x ∧ W.drew.cell? ⟨w.heap.size, 1, none⟩ = some y := ⟨h.1.drew, h.2⟩
theorem size_dr (W : World) : W.drew.heap.size = W.heap.size := rfl
theorem sb_lt {w W : World} {x y : Value} (h : Below w.heap.size w W ∧ W.heap[w.heap.size]? = some (.cells #[x, y] 26) ∧ W.cell? ⟨w.heap.size, 0, none⟩ = some x ∧ W.cell? ⟨w.heap.size, 1, none⟩ = some y) : w.heap.size < W.heap.size := World.block_lt_of_cell? W _ h.2.2.1
theorem sb_set {w W : World} {x y v : Value} {g k : Nat} (h : Below w.heap.size w W ∧ W.heap[w.heap.size]? = some (.cells #[x, y] 26) ∧ W.cell? ⟨w.heap.size, 0, none⟩ = some x ∧ W.cell? ⟨w.heap.size, 1, none⟩ = some y) (hg : w.heap.size < g) : Below w.heap.size w (W.setCell ⟨g, k, none⟩ v) ∧ (W.setCell ⟨g, k, none⟩ v).heap[w.heap.size]? = some (.cells #[x, y] 26) ∧ (W.setCell ⟨g, k, none⟩ v).cell? ⟨w.heap.size, 0, none⟩ = some x ∧ (W.setCell ⟨g, k, none⟩ v).cell? ⟨w.heap.size, 1, none⟩ = some y :=
  sb_of (h.1.setCell (by show w.heap.size ≤ g; omega) _) (by rw [setCell_other (by omega)]; exact h.2.1)
theorem sb_fat {w W : World} {x y : Value} (t : FAt w) (h : Below w.heap.size w W ∧ W.heap[w.heap.size]? = some (.cells #[x, y] 26) ∧ W.cell? ⟨w.heap.size, 0, none⟩ = some x ∧ W.cell? ⟨w.heap.size, 1, none⟩ = some y) : FAt W := fatB t h.1
def RC (w : World) (x y u v : Nat) (W : World) (g : Nat) : Prop := Below w.heap.size w W ∧ W.heap[w.heap.size]? = some (.cells #[.int .u64 (x : Nat), .int .u64 (y : Nat)] 26) ∧ W.heap[g]? = some (.cells #[.int .u64 (u : Nat), .int .u64 (v : Nat)] 26) ∧ w.heap.size < g
theorem rc_al {w W : World} {x' y' u v : Nat} (h : Below w.heap.size w W ∧ W.heap[w.heap.size]? = some (.cells #[.int .u64 (x' : Nat), .int .u64 (y' : Nat)] 26) ∧ W.cell? ⟨w.heap.size, 0, none⟩ = some (.int .u64 (x' : Nat)) ∧ W.cell? ⟨w.heap.size, 1, none⟩ = some (.int .u64 (y' : Nat))) : RC w x' y' u v (W.alloc (.cells #[.int .u64 (u : Nat), .int .u64 (v : Nat)] 26)) W.heap.size :=
  ⟨(sb_al h _).1, (sb_al h _).2.1, heap_alloc_last _ _, sb_lt h⟩
theorem rc_set {w W : World} {x' y' u v g : Nat} {a b : Value} (h : Below w.heap.size w W ∧ W.heap[w.heap.size]? = some (.cells #[.int .u64 (x' : Nat), .int .u64 (y' : Nat)] 26) ∧ W.cell? ⟨w.heap.size, 0, none⟩ = some (.int .u64 (x' : Nat)) ∧ W.cell? ⟨w.heap.size, 1, none⟩ = some (.int .u64 (y' : Nat))) (hr : W.heap[g]? = some (.cells #[a, b] 26)) (hg : w.heap.size < g) : RC w x' y' u v ((W.setCell ⟨g, 0, none⟩ (.int .u64 (u : Nat))).setCell ⟨g, 1, none⟩ (.int .u64 (v : Nat))) g :=
  ⟨(sb_set (sb_set h hg) hg).1, (sb_set (sb_set h hg) hg).2.1, set2_row hr _ _, hg⟩
theorem gen70 {X : Act → World → Prop} {R : World → Nat → Prop} {t0 t1 t2 t3 t4 t5 t7 t8 t9 t10 t11 t12 t13 t14 t15 t16 t17 t18 t19 t20 t21 t22 t23 t24 t25 t26 t27 t28 t29 t30 t31 t32 t33 t34 t35 t36 t37 t38 t39 t40 t41 t42 t43 t44 t45 t46 t47 t48 t49 t50 t51 t52 t53 t54 t55 t56 t57 t58 t59 t60 t61 t62 t63 t64 t65 t66 t67 t68 t69 : Value} {d : List Deferred} {W : World} {G : Nat}
    (key : ∀ w5 g, R w5 g → X ⟨#[t0, t1, t2, t3, t4, t5, .pointer (some ⟨g, 0, none⟩), t7, t8, t9, t10, t11, t12, t13, t14, t15, t16, t17, t18, t19, t20, t21, t22, t23, t24, t25, t26, t27, t28, t29, t30, t31, t32, t33, t34, t35, t36, t37, t38, t39, t40, t41, t42, t43, t44, t45, t46, t47, t48, t49, t50, t51, t52, t53, t54, t55, t56, t57, t58, t59, t60, t61, t62, t63, t64, t65, t66, t67, t68, t69], d⟩ w5) (r : R W G) : X ⟨#[t0, t1, t2, t3, t4, t5, .pointer (some ⟨G, 0, none⟩), t7, t8, t9, t10, t11, t12, t13, t14, t15, t16, t17, t18, t19, t20, t21, t22, t23, t24, t25, t26, t27, t28, t29, t30, t31, t32, t33, t34, t35, t36, t37, t38, t39, t40, t41, t42, t43, t44, t45, t46, t47, t48, t49, t50, t51, t52, t53, t54, t55, t56, t57, t58, t59, t60, t61, t62, t63, t64, t65, t66, t67, t68, t69], d⟩ W := key W G r
set_option maxRecDepth 100000 in
set_option maxHeartbeats 2000000 in
theorem kclass_walk (f : Int) (x y e o p u v i j : Nat) (qb neg : Bool) (c : Int) (w : World)
    (KE : Box (∀ w, FAt w → Calls Tryd.prog 62 #[.int .u8 f, .agg #[.int .u64 (x : Nat), .int .u64 (y : Nat)]] w fun r w' => r = .returned (.int .u64 (e : Nat)) ∧ Below w.heap.size w w'))
    (KF : Box (∀ w, FAt w → Calls Tryd.prog 58 #[.int .u8 f, .agg #[.int .u64 (x : Nat), .int .u64 (y : Nat)]] w fun r w' => r = .returned (.agg #[.int .u64 (u : Nat), .int .u64 (v : Nat)]) ∧ Below w.heap.size w w'))
    (KI : Box (∀ w, FAt w → Calls Tryd.prog 70 #[.int .u8 f, .bool false] w fun r w' => r = .returned (.agg #[.int .u64 (i : Nat), .int .u64 (j : Nat)]) ∧ Below w.heap.size w w'))
    (KO : Box (∀ w, FAt w → Calls Tryd.prog 62 #[.int .u8 f, .agg #[.int .u64 (i : Nat), .int .u64 (j : Nat)]] w fun r w' => r = .returned (.int .u64 (o : Nat)) ∧ Below w.heap.size w w'))
    (KW : Box (∀ w, FAt w → Calls Tryd.prog 71 #[.int .u8 f] w fun r w' => r = .returned (.int .u64 (p : Nat)) ∧ Below w.heap.size w w'))
    (KB : Box (∀ w, FAt w → Calls Tryd.prog 65 #[.agg #[.int .u64 (u : Nat), .int .u64 (v : Nat)], .int .u64 ((p - 1 : Nat) : Int)] w fun r w' => r = .returned (.bool qb) ∧ Below w.heap.size w w'))
    (KS : Box (∀ w, FAt w → Calls Tryd.prog 32 #[.int .u8 f, .agg #[.int .u64 (x : Nat), .int .u64 (y : Nat)]] w fun r w' => r = .returned (.bool neg) ∧ Below w.heap.size w w'))
    (hp : IntKind.u64.wrap ((p : Int) - 1) = ((p - 1 : Nat) : Int))
    (hc : (((e : Int) == (o : Int)) = true ∧ qb = true ∧ c = 9)
      ∨ (((e : Int) == (o : Int)) = true ∧ qb = false ∧ (((u : Int) == 0) = false ∨ (u = 0 ∧ ((v : Int) == 0) = false)) ∧ c = 8)
      ∨ (((e : Int) == (o : Int)) = true ∧ qb = false ∧ u = 0 ∧ v = 0 ∧ c = if neg then 0 else 7)
      ∨ (((e : Int) == (o : Int)) = false ∧ ((e : Int) != 0) = true ∧ c = if neg then 1 else 6)
      ∨ (((e : Int) == (o : Int)) = false ∧ ((e : Int) != 0) = false ∧ (((u : Int) == 0) = false ∨ (u = 0 ∧ ((v : Int) == 0) = false)) ∧ c = if neg then 2 else 5)
      ∨ (((e : Int) == (o : Int)) = false ∧ ((e : Int) != 0) = false ∧ u = 0 ∧ v = 0 ∧ c = if neg then 3 else 4))
    (hT : FAt w) : Calls Tryd.prog 41 #[.int .u8 f, .agg #[.int .u64 (x : Nat), .int .u64 (y : Nat)]] w fun r w' => r = .returned (.int .u8 c) ∧ Below w.heap.size w w' := by
  have TT := box hT
  clear hT
  obtain ⟨Rb_0, B0⟩ := kopn1 w (Obj.cells #[.int .u64 (x : Nat), .int .u64 (y : Nat)] 26)
  go_enter Tryd.func41, Tryd.ntmps41
  have S0 := sb_of B0 Rb_0
  go_wp2_with fail
  apply cut7
  · intro key0
    have key := box key0
    clear key0
    go_region_held3 (fun W => Below w.heap.size w W ∧ W.heap[w.heap.size]? = some (.cells #[.int .u64 (x : Nat), .int .u64 (y : Nat)] 26) ∧ W.cell? ⟨w.heap.size, 0, none⟩ = some (.int .u64 (x : Nat)) ∧ W.cell? ⟨w.heap.size, 1, none⟩ = some (.int .u64 (y : Nat))) (first | exact sb_dr S0 | assumption | exact sb_al (by assumption) _ | exact sb_al (sb_dr S0) _ | exact sb_set (sb_set (by assumption) (sb_lt (by assumption))) (sb_lt (by assumption)) | exact sb_set (sb_set (by assumption) (Nat.lt_succ_self _)) (Nat.lt_succ_self _))
      (first
      | (go_at_call_of 62 (Value.int IntKind.u64 (x : Int)); refine (KE.out _ (sb_fat TT.out (by assumption))).mono ?_; rintro r w1 ⟨rfl, b1⟩; have s1 := sb_call (by assumption) b1; (first | have hg := heap_of b1 _ _ _ (heap_alloc_last _ _) | have hg := heap_of b1 _ _ _ hg | skip); (try simp only [size_dr, size_al] at hg); (first | (have hq0 := fz (k := 0) hg; have hq1 := fz (k := 1) hg; have hc0 := cell7 hg 0 _ rfl; have hc1 := cell7 hg 1 _ rfl) | skip); clear b1)
      | (go_at_call 58; refine (KF.out _ (sb_fat TT.out (by assumption))).mono ?_; rintro r w2 ⟨rfl, b1⟩; have s1 := sb_call (by assumption) b1; (first | have hg := heap_of b1 _ _ _ (heap_alloc_last _ _) | have hg := heap_of b1 _ _ _ hg | skip); (try simp only [size_dr, size_al] at hg); (first | (have hq0 := fz (k := 0) hg; have hq1 := fz (k := 1) hg; have hc0 := cell7 hg 0 _ rfl; have hc1 := cell7 hg 1 _ rfl) | skip); clear b1)
      | (go_at_call 70; refine (KI.out _ (sb_fat TT.out (by assumption))).mono ?_; rintro r w3 ⟨rfl, b1⟩; have s1 := sb_call (by assumption) b1; (first | have hg := heap_of b1 _ _ _ (heap_alloc_last _ _) | have hg := heap_of b1 _ _ _ hg | skip); (try simp only [size_dr, size_al] at hg); (first | (have hq0 := fz (k := 0) hg; have hq1 := fz (k := 1) hg; have hc0 := cell7 hg 0 _ rfl; have hc1 := cell7 hg 1 _ rfl) | skip); clear b1)
      | (go_at_call_of 62 (Value.int IntKind.u64 (i : Int)); refine (KO.out _ (sb_fat TT.out (by assumption))).mono ?_; rintro r w4 ⟨rfl, b1⟩; have s1 := sb_call (by assumption) b1; (first | have hg := heap_of b1 _ _ _ (heap_alloc_last _ _) | have hg := heap_of b1 _ _ _ hg | skip); (try simp only [size_dr, size_al] at hg); (first | (have hq0 := fz (k := 0) hg; have hq1 := fz (k := 1) hg; have hc0 := cell7 hg 0 _ rfl; have hc1 := cell7 hg 1 _ rfl) | skip); clear b1))
    all_goals
      refine gen70 (R := RC w x y u v) key.out ?_
      first
        | exact rc_al s1
        | exact rc_set s1 hg (sb_lt (by assumption))
        | exact rc_set s1 hg (Nat.lt_succ_self _)
  rintro w5 t ⟨B5, Rb_5, Rt_5, ht⟩
  clear B0 Rb_0 S0
  obtain ⟨cb_5_0, cb_5_1⟩ := cell7t Rb_5
  obtain ⟨ct_5_0, ct_5_1⟩ := cell7t Rt_5
  rcases hc with ⟨h1, rfl, rfl⟩ | ⟨h1, rfl, hz | ⟨rfl, hz⟩, rfl⟩ | ⟨h1, rfl, rfl, rfl, hc⟩ | ⟨h1, h2, hc⟩ | ⟨h1, h2, hz | ⟨rfl, hz⟩, hc⟩ | ⟨h1, h2, rfl, rfl, hc⟩
  · go_wp2_with fail
    obtain ⟨F, hF1, hF2⟩ := below_fun w5
    have fb_0 := fun u => cell7 (heap_of (hF1 u) _ _ _ Rb_5) 0 _ rfl
    have fb_1 := fun u => cell7 (heap_of (hF1 u) _ _ _ Rb_5) 1 _ rfl
    have ft_0 := fun u => cell7 (heap_of (hF1 u) _ _ _ Rt_5) 0 _ rfl
    have ft_1 := fun u => cell7 (heap_of (hF1 u) _ _ _ Rt_5) 1 _ rfl
    have TF : Box (∀ u, FAt (F u)) := box (fun u => fatB TT.out (btr7 B5 (hF1 u)))
    refine wp_region_below F hF2 (by kernel_rfl) (by kernel_rfl) ?_
    repeat first | go_big_quiet_step (first | (go_at_call 71; exact quietF hF1 hF2 (KW.out _ (TF.out _))) | (go_at_call 65; exact quietF hF1 hF2 (KB.out _ (TF.out _))) | fail) | quiet_step (first | (go_at_call 71; exact quietF hF1 hF2 (KW.out _ (TF.out _))) | (go_at_call 65; exact quietF hF1 hF2 (KB.out _ (TF.out _))) | fail)
    refine wpQuiet_nil ?_
    rintro _ ⟨uW, rfl⟩
    have B6 := btr7 B5 (hF1 uW)
    have Rb_6 := heap_of (hF1 uW) _ _ _ Rb_5
    have Rt_6 := heap_of (hF1 uW) _ _ _ Rt_5
    obtain ⟨w6, hw⟩ : ∃ V, F uW = V := ⟨_, rfl⟩
    rw [hw] at B6 Rb_6 Rt_6
    try rw [hw]
    clear hw hF1 hF2 B5 fb_0 fb_1 ft_0 ft_1 Rb_5 cb_5_0 cb_5_1 Rt_5 ct_5_0 ct_5_1
    clear TF
    clear F
    obtain ⟨cb_6_0, cb_6_1⟩ := cell7t Rb_6
    obtain ⟨ct_6_0, ct_6_1⟩ := cell7t Rt_6
    go_wp2
    go_ret
    exact ⟨rfl, B6⟩
  · go_wp2_with fail
    obtain ⟨F, hF1, hF2⟩ := below_fun w5
    have fb_0 := fun u => cell7 (heap_of (hF1 u) _ _ _ Rb_5) 0 _ rfl
    have fb_1 := fun u => cell7 (heap_of (hF1 u) _ _ _ Rb_5) 1 _ rfl
    have ft_0 := fun u => cell7 (heap_of (hF1 u) _ _ _ Rt_5) 0 _ rfl
    have ft_1 := fun u => cell7 (heap_of (hF1 u) _ _ _ Rt_5) 1 _ rfl
    have TF : Box (∀ u, FAt (F u)) := box (fun u => fatB TT.out (btr7 B5 (hF1 u)))
    refine wp_region_below F hF2 (by kernel_rfl) (by kernel_rfl) ?_
    repeat first | go_big_quiet_step (first | (go_at_call 71; exact quietF hF1 hF2 (KW.out _ (TF.out _))) | (go_at_call 65; exact quietF hF1 hF2 (KB.out _ (TF.out _))) | fail) | quiet_step (first | (go_at_call 71; exact quietF hF1 hF2 (KW.out _ (TF.out _))) | (go_at_call 65; exact quietF hF1 hF2 (KB.out _ (TF.out _))) | fail)
    refine wpQuiet_nil ?_
    rintro _ ⟨uW, rfl⟩
    have B6 := btr7 B5 (hF1 uW)
    have Rb_6 := heap_of (hF1 uW) _ _ _ Rb_5
    have Rt_6 := heap_of (hF1 uW) _ _ _ Rt_5
    obtain ⟨w6, hw⟩ : ∃ V, F uW = V := ⟨_, rfl⟩
    rw [hw] at B6 Rb_6 Rt_6
    try rw [hw]
    clear hw hF1 hF2 B5 fb_0 fb_1 ft_0 ft_1 Rb_5 cb_5_0 cb_5_1 Rt_5 ct_5_0 ct_5_1
    clear TF
    clear F
    obtain ⟨cb_6_0, cb_6_1⟩ := cell7t Rb_6
    obtain ⟨ct_6_0, ct_6_1⟩ := cell7t Rt_6
    go_wp2
    go_ret
    exact ⟨rfl, B6⟩
  · go_wp2_with fail
    obtain ⟨F, hF1, hF2⟩ := below_fun w5
    have fb_0 := fun u => cell7 (heap_of (hF1 u) _ _ _ Rb_5) 0 _ rfl
    have fb_1 := fun u => cell7 (heap_of (hF1 u) _ _ _ Rb_5) 1 _ rfl
    have ft_0 := fun u => cell7 (heap_of (hF1 u) _ _ _ Rt_5) 0 _ rfl
    have ft_1 := fun u => cell7 (heap_of (hF1 u) _ _ _ Rt_5) 1 _ rfl
    have TF : Box (∀ u, FAt (F u)) := box (fun u => fatB TT.out (btr7 B5 (hF1 u)))
    refine wp_region_below F hF2 (by kernel_rfl) (by kernel_rfl) ?_
    repeat first | go_big_quiet_step (first | (go_at_call 71; exact quietF hF1 hF2 (KW.out _ (TF.out _))) | (go_at_call 65; exact quietF hF1 hF2 (KB.out _ (TF.out _))) | fail) | quiet_step (first | (go_at_call 71; exact quietF hF1 hF2 (KW.out _ (TF.out _))) | (go_at_call 65; exact quietF hF1 hF2 (KB.out _ (TF.out _))) | fail)
    refine wpQuiet_nil ?_
    rintro _ ⟨uW, rfl⟩
    have B6 := btr7 B5 (hF1 uW)
    have Rb_6 := heap_of (hF1 uW) _ _ _ Rb_5
    have Rt_6 := heap_of (hF1 uW) _ _ _ Rt_5
    obtain ⟨w6, hw⟩ : ∃ V, F uW = V := ⟨_, rfl⟩
    rw [hw] at B6 Rb_6 Rt_6
    try rw [hw]
    clear hw hF1 hF2 B5 fb_0 fb_1 ft_0 ft_1 Rb_5 cb_5_0 cb_5_1 Rt_5 ct_5_0 ct_5_1
    clear TF
    clear F
    obtain ⟨cb_6_0, cb_6_1⟩ := cell7t Rb_6
    obtain ⟨ct_6_0, ct_6_1⟩ := cell7t Rt_6
    go_wp2
    go_ret
    exact ⟨rfl, B6⟩
  · go_wp2_with fail
    obtain ⟨F, hF1, hF2⟩ := below_fun w5
    have fb_0 := fun u => cell7 (heap_of (hF1 u) _ _ _ Rb_5) 0 _ rfl
    have fb_1 := fun u => cell7 (heap_of (hF1 u) _ _ _ Rb_5) 1 _ rfl
    have ft_0 := fun u => cell7 (heap_of (hF1 u) _ _ _ Rt_5) 0 _ rfl
    have ft_1 := fun u => cell7 (heap_of (hF1 u) _ _ _ Rt_5) 1 _ rfl
    have TF : Box (∀ u, FAt (F u)) := box (fun u => fatB TT.out (btr7 B5 (hF1 u)))
    refine wp_region_below F hF2 (by kernel_rfl) (by kernel_rfl) ?_
    repeat first | go_big_quiet_step (first | (go_at_call 71; exact quietF hF1 hF2 (KW.out _ (TF.out _))) | (go_at_call 65; exact quietF hF1 hF2 (KB.out _ (TF.out _))) | fail) | quiet_step (first | (go_at_call 71; exact quietF hF1 hF2 (KW.out _ (TF.out _))) | (go_at_call 65; exact quietF hF1 hF2 (KB.out _ (TF.out _))) | fail)
    refine wpQuiet_nil ?_
    rintro _ ⟨uW, rfl⟩
    have B6 := btr7 B5 (hF1 uW)
    have Rb_6 := heap_of (hF1 uW) _ _ _ Rb_5
    have Rt_6 := heap_of (hF1 uW) _ _ _ Rt_5
    obtain ⟨w6, hw⟩ : ∃ V, F uW = V := ⟨_, rfl⟩
    rw [hw] at B6 Rb_6 Rt_6
    try rw [hw]
    clear hw hF1 hF2 B5 fb_0 fb_1 ft_0 ft_1 Rb_5 cb_5_0 cb_5_1 Rt_5 ct_5_0 ct_5_1
    clear TF
    clear F
    obtain ⟨cb_6_0, cb_6_1⟩ := cell7t Rb_6
    obtain ⟨ct_6_0, ct_6_1⟩ := cell7t Rt_6
    go_wp2_with fail
    refine (KS.out _ (fatB TT.out B6)).mono ?_
    rintro r w7 ⟨rfl, b7⟩
    have B7 : Below w.heap.size w w7 := btr7 B6 b7
    have Rb_7 := heap_of b7 _ _ _ Rb_6
    have Rt_7 := heap_of b7 _ _ _ Rt_6
    clear b7 B6 Rb_6 cb_6_0 cb_6_1 Rt_6 ct_6_0 ct_6_1
    obtain ⟨cb_7_0, cb_7_1⟩ := cell7t Rb_7
    obtain ⟨ct_7_0, ct_7_1⟩ := cell7t Rt_7
    cases neg
    · subst hc
      go_wp2
      go_ret
      exact ⟨rfl, B7⟩
    · subst hc
      go_wp2
      go_ret
      exact ⟨rfl, B7⟩
  · go_wp2_with fail
    obtain ⟨F, hF1, hF2⟩ := below_fun w5
    have fb_0 := fun u => cell7 (heap_of (hF1 u) _ _ _ Rb_5) 0 _ rfl
    have fb_1 := fun u => cell7 (heap_of (hF1 u) _ _ _ Rb_5) 1 _ rfl
    have ft_0 := fun u => cell7 (heap_of (hF1 u) _ _ _ Rt_5) 0 _ rfl
    have ft_1 := fun u => cell7 (heap_of (hF1 u) _ _ _ Rt_5) 1 _ rfl
    have TF : Box (∀ u, FAt (F u)) := box (fun u => fatB TT.out (btr7 B5 (hF1 u)))
    refine wp_region_below F hF2 (by kernel_rfl) (by kernel_rfl) ?_
    repeat first | go_big_quiet_step (first | (go_at_call 71; exact quietF hF1 hF2 (KW.out _ (TF.out _))) | (go_at_call 65; exact quietF hF1 hF2 (KB.out _ (TF.out _))) | fail) | quiet_step (first | (go_at_call 71; exact quietF hF1 hF2 (KW.out _ (TF.out _))) | (go_at_call 65; exact quietF hF1 hF2 (KB.out _ (TF.out _))) | fail)
    refine wpQuiet_nil ?_
    rintro _ ⟨uW, rfl⟩
    have B6 := btr7 B5 (hF1 uW)
    have Rb_6 := heap_of (hF1 uW) _ _ _ Rb_5
    have Rt_6 := heap_of (hF1 uW) _ _ _ Rt_5
    obtain ⟨w6, hw⟩ : ∃ V, F uW = V := ⟨_, rfl⟩
    rw [hw] at B6 Rb_6 Rt_6
    try rw [hw]
    clear hw hF1 hF2 B5 fb_0 fb_1 ft_0 ft_1 Rb_5 cb_5_0 cb_5_1 Rt_5 ct_5_0 ct_5_1
    clear TF
    clear F
    obtain ⟨cb_6_0, cb_6_1⟩ := cell7t Rb_6
    obtain ⟨ct_6_0, ct_6_1⟩ := cell7t Rt_6
    go_wp2_with fail
    refine (KS.out _ (fatB TT.out B6)).mono ?_
    rintro r w7 ⟨rfl, b7⟩
    have B7 : Below w.heap.size w w7 := btr7 B6 b7
    have Rb_7 := heap_of b7 _ _ _ Rb_6
    have Rt_7 := heap_of b7 _ _ _ Rt_6
    clear b7 B6 Rb_6 cb_6_0 cb_6_1 Rt_6 ct_6_0 ct_6_1
    obtain ⟨cb_7_0, cb_7_1⟩ := cell7t Rb_7
    obtain ⟨ct_7_0, ct_7_1⟩ := cell7t Rt_7
    cases neg
    · subst hc
      go_wp2
      go_ret
      exact ⟨rfl, B7⟩
    · subst hc
      go_wp2
      go_ret
      exact ⟨rfl, B7⟩
  · go_wp2_with fail
    obtain ⟨F, hF1, hF2⟩ := below_fun w5
    have fb_0 := fun u => cell7 (heap_of (hF1 u) _ _ _ Rb_5) 0 _ rfl
    have fb_1 := fun u => cell7 (heap_of (hF1 u) _ _ _ Rb_5) 1 _ rfl
    have ft_0 := fun u => cell7 (heap_of (hF1 u) _ _ _ Rt_5) 0 _ rfl
    have ft_1 := fun u => cell7 (heap_of (hF1 u) _ _ _ Rt_5) 1 _ rfl
    have TF : Box (∀ u, FAt (F u)) := box (fun u => fatB TT.out (btr7 B5 (hF1 u)))
    refine wp_region_below F hF2 (by kernel_rfl) (by kernel_rfl) ?_
    repeat first | go_big_quiet_step (first | (go_at_call 71; exact quietF hF1 hF2 (KW.out _ (TF.out _))) | (go_at_call 65; exact quietF hF1 hF2 (KB.out _ (TF.out _))) | fail) | quiet_step (first | (go_at_call 71; exact quietF hF1 hF2 (KW.out _ (TF.out _))) | (go_at_call 65; exact quietF hF1 hF2 (KB.out _ (TF.out _))) | fail)
    refine wpQuiet_nil ?_
    rintro _ ⟨uW, rfl⟩
    have B6 := btr7 B5 (hF1 uW)
    have Rb_6 := heap_of (hF1 uW) _ _ _ Rb_5
    have Rt_6 := heap_of (hF1 uW) _ _ _ Rt_5
    obtain ⟨w6, hw⟩ : ∃ V, F uW = V := ⟨_, rfl⟩
    rw [hw] at B6 Rb_6 Rt_6
    try rw [hw]
    clear hw hF1 hF2 B5 fb_0 fb_1 ft_0 ft_1 Rb_5 cb_5_0 cb_5_1 Rt_5 ct_5_0 ct_5_1
    clear TF
    clear F
    obtain ⟨cb_6_0, cb_6_1⟩ := cell7t Rb_6
    obtain ⟨ct_6_0, ct_6_1⟩ := cell7t Rt_6
    go_wp2_with fail
    refine (KS.out _ (fatB TT.out B6)).mono ?_
    rintro r w7 ⟨rfl, b7⟩
    have B7 : Below w.heap.size w w7 := btr7 B6 b7
    have Rb_7 := heap_of b7 _ _ _ Rb_6
    have Rt_7 := heap_of b7 _ _ _ Rt_6
    clear b7 B6 Rb_6 cb_6_0 cb_6_1 Rt_6 ct_6_0 ct_6_1
    obtain ⟨cb_7_0, cb_7_1⟩ := cell7t Rb_7
    obtain ⟨ct_7_0, ct_7_1⟩ := cell7t Rt_7
    cases neg
    · subst hc
      go_wp2
      go_ret
      exact ⟨rfl, B7⟩
    · subst hc
      go_wp2
      go_ret
      exact ⟨rfl, B7⟩
  · go_wp2_with fail
    obtain ⟨F, hF1, hF2⟩ := below_fun w5
    have fb_0 := fun u => cell7 (heap_of (hF1 u) _ _ _ Rb_5) 0 _ rfl
    have fb_1 := fun u => cell7 (heap_of (hF1 u) _ _ _ Rb_5) 1 _ rfl
    have ft_0 := fun u => cell7 (heap_of (hF1 u) _ _ _ Rt_5) 0 _ rfl
    have ft_1 := fun u => cell7 (heap_of (hF1 u) _ _ _ Rt_5) 1 _ rfl
    have TF : Box (∀ u, FAt (F u)) := box (fun u => fatB TT.out (btr7 B5 (hF1 u)))
    refine wp_region_below F hF2 (by kernel_rfl) (by kernel_rfl) ?_
    repeat first | go_big_quiet_step (first | (go_at_call 71; exact quietF hF1 hF2 (KW.out _ (TF.out _))) | (go_at_call 65; exact quietF hF1 hF2 (KB.out _ (TF.out _))) | fail) | quiet_step (first | (go_at_call 71; exact quietF hF1 hF2 (KW.out _ (TF.out _))) | (go_at_call 65; exact quietF hF1 hF2 (KB.out _ (TF.out _))) | fail)
    refine wpQuiet_nil ?_
    rintro _ ⟨uW, rfl⟩
    have B6 := btr7 B5 (hF1 uW)
    have Rb_6 := heap_of (hF1 uW) _ _ _ Rb_5
    have Rt_6 := heap_of (hF1 uW) _ _ _ Rt_5
    obtain ⟨w6, hw⟩ : ∃ V, F uW = V := ⟨_, rfl⟩
    rw [hw] at B6 Rb_6 Rt_6
    try rw [hw]
    clear hw hF1 hF2 B5 fb_0 fb_1 ft_0 ft_1 Rb_5 cb_5_0 cb_5_1 Rt_5 ct_5_0 ct_5_1
    clear TF
    clear F
    obtain ⟨cb_6_0, cb_6_1⟩ := cell7t Rb_6
    obtain ⟨ct_6_0, ct_6_1⟩ := cell7t Rt_6
    go_wp2_with fail
    refine (KS.out _ (fatB TT.out B6)).mono ?_
    rintro r w7 ⟨rfl, b7⟩
    have B7 : Below w.heap.size w w7 := btr7 B6 b7
    have Rb_7 := heap_of b7 _ _ _ Rb_6
    have Rt_7 := heap_of b7 _ _ _ Rt_6
    clear b7 B6 Rb_6 cb_6_0 cb_6_1 Rt_6 ct_6_0 ct_6_1
    obtain ⟨cb_7_0, cb_7_1⟩ := cell7t Rb_7
    obtain ⟨ct_7_0, ct_7_1⟩ := cell7t Rt_7
    cases neg
    · subst hc
      go_wp2
      go_ret
      exact ⟨rfl, B7⟩
    · subst hc
      go_wp2
      go_ret
      exact ⟨rfl, B7⟩
  · go_wp2_with fail
    obtain ⟨F, hF1, hF2⟩ := below_fun w5
    have fb_0 := fun u => cell7 (heap_of (hF1 u) _ _ _ Rb_5) 0 _ rfl
    have fb_1 := fun u => cell7 (heap_of (hF1 u) _ _ _ Rb_5) 1 _ rfl
    have ft_0 := fun u => cell7 (heap_of (hF1 u) _ _ _ Rt_5) 0 _ rfl
    have ft_1 := fun u => cell7 (heap_of (hF1 u) _ _ _ Rt_5) 1 _ rfl
    have TF : Box (∀ u, FAt (F u)) := box (fun u => fatB TT.out (btr7 B5 (hF1 u)))
    refine wp_region_below F hF2 (by kernel_rfl) (by kernel_rfl) ?_
    repeat first | go_big_quiet_step (first | (go_at_call 71; exact quietF hF1 hF2 (KW.out _ (TF.out _))) | (go_at_call 65; exact quietF hF1 hF2 (KB.out _ (TF.out _))) | fail) | quiet_step (first | (go_at_call 71; exact quietF hF1 hF2 (KW.out _ (TF.out _))) | (go_at_call 65; exact quietF hF1 hF2 (KB.out _ (TF.out _))) | fail)
    refine wpQuiet_nil ?_
    rintro _ ⟨uW, rfl⟩
    have B6 := btr7 B5 (hF1 uW)
    have Rb_6 := heap_of (hF1 uW) _ _ _ Rb_5
    have Rt_6 := heap_of (hF1 uW) _ _ _ Rt_5
    obtain ⟨w6, hw⟩ : ∃ V, F uW = V := ⟨_, rfl⟩
    rw [hw] at B6 Rb_6 Rt_6
    try rw [hw]
    clear hw hF1 hF2 B5 fb_0 fb_1 ft_0 ft_1 Rb_5 cb_5_0 cb_5_1 Rt_5 ct_5_0 ct_5_1
    clear TF
    clear F
    obtain ⟨cb_6_0, cb_6_1⟩ := cell7t Rb_6
    obtain ⟨ct_6_0, ct_6_1⟩ := cell7t Rt_6
    go_wp2_with fail
    refine (KS.out _ (fatB TT.out B6)).mono ?_
    rintro r w7 ⟨rfl, b7⟩
    have B7 : Below w.heap.size w w7 := btr7 B6 b7
    have Rb_7 := heap_of b7 _ _ _ Rb_6
    have Rt_7 := heap_of b7 _ _ _ Rt_6
    clear b7 B6 Rb_6 cb_6_0 cb_6_1 Rt_6 ct_6_0 ct_6_1
    obtain ⟨cb_7_0, cb_7_1⟩ := cell7t Rb_7
    obtain ⟨ct_7_0, ct_7_1⟩ := cell7t Rt_7
    cases neg
    · subst hc
      go_wp2
      go_ret
      exact ⟨rfl, B7⟩
    · subst hc
      go_wp2
      go_ret
      exact ⟨rfl, B7⟩
theorem bv_lt {n u v : Nat} (hn : n < 340282366920938463463374607431768211456) (h : bv7 n = (u, v)) : u < 18446744073709551616 ∧ v < 18446744073709551616 ∧ v + 18446744073709551616 * u = n := by
  unfold bv7 at h
  injection h with h1 h2
  omega
theorem kclass_is (f : Int) (hf : Is4 f) (x y n c : Nat) (hx : x < 18446744073709551616) (hy : y < 18446744073709551616) (hn : y + 18446744073709551616 * x = n) (hc : kC f n = c) (w : World) (hT : FAt w) : Calls Tryd.prog 41 #[.int .u8 f, .agg #[.int .u64 (x : Nat), .int .u64 (y : Nat)]] w fun r w' => r = .returned (.int .u8 (c : Nat)) ∧ Below w.heap.size w w' := by
  obtain ⟨u, v, huv⟩ : ∃ u v, bv7 (kT f n) = (u, v) := ⟨_, _, rfl⟩
  obtain ⟨i, j, hij⟩ : ∃ u v, bv7 (eInf f false) = (u, v) := ⟨_, _, rfl⟩
  obtain ⟨f1, f2, f3, f4, f5, f6, f7⟩ := fm hf
  have tl := kT_lt (f := f) n
  have tn : kT f n < 340282366920938463463374607431768211456 := by rw [f1, Nat.add_mul] at f7; omega
  obtain ⟨u1, v1, t1⟩ := bv_lt tn huv
  obtain ⟨i1, j1, e1⟩ := bv_lt (einf_k hf).2 hij
  obtain ⟨_, _, _, p4, _⟩ := pV_lim hf
  have p1 : IntKind.u64.wrap ((pV f : Int) - 1) = ((pV f - 1 : Nat) : Int) := by rcases hf with rfl | rfl | rfl | rfl <;> decide +kernel
  refine kclass_walk f x y (kE f n) (oV f) (pV f) u v i j (decide (2 ^ (pV f - 1) ≤ kT f n)) (kN f n) _ w
    (box (fun w hT => kfield_is f hf x y n _ hx hy hn rfl w hT)) (box (fun w hT => kfraction_is f hf x y n u v hx hy hn huv w hT)) (box (fun w hT => sk_inf f false hf i j hij w hT))
    (box (fun w hT => kfield_is f hf i j _ _ i1 j1 e1 (einf_k hf).1 w hT)) (box (fun w hT => kfw f hf _ rfl w hT)) (box (fun w _ => kbit_is u v _ (pV f - 1) _ u1 v1 t1 (by omega) (quiet_of hf _ tl) w))
    (box (fun w hT => ksign_is f hf x y n _ hx hy hn rfl w hT)) p1 ?_ hT
  have z1 : (kT f n = 0 → u = 0 ∧ v = 0) ∧ (kT f n ≠ 0 → (((u : Int) == 0) = false ∨ (u = 0 ∧ ((v : Int) == 0) = false))) := by
    refine ⟨fun h => by omega, fun h => ?_⟩
    by_cases hu : u = 0
    · refine Or.inr ⟨hu, ?_⟩; simp; omega
    · refine Or.inl ?_; simp; omega
  subst hc
  unfold kC
  by_cases c1 : kE f n = oV f
  · have b1 : ((kE f n : Int) == (oV f : Int)) = true := by rw [c1]; simp
    rw [if_pos c1]
    by_cases c2 : kT f n = 0
    · rw [if_pos c2]
      refine Or.inr (Or.inr (Or.inl ⟨b1, ?_, (z1.1 c2).1, (z1.1 c2).2, ?_⟩))
      · rw [c2]; exact decide_eq_false (by omega)
      · cases kN f n <;> rfl
    · rw [if_neg c2]
      by_cases c3 : 2 ^ (pV f - 1) ≤ kT f n
      · rw [if_pos c3]
        exact Or.inl ⟨b1, decide_eq_true c3, rfl⟩
      · rw [if_neg c3]
        exact Or.inr (Or.inl ⟨b1, decide_eq_false c3, z1.2 c2, rfl⟩)
  · have b1 : ((kE f n : Int) == (oV f : Int)) = false := by simp; omega
    rw [if_neg c1]
    by_cases c2 : kE f n = 0
    · have b2 : ((kE f n : Int) != 0) = false := by rw [c2]; rfl
      rw [if_neg (by simpa using c2)]
      by_cases c3 : kT f n = 0
      · rw [if_neg (by simpa using c3)]
        refine Or.inr (Or.inr (Or.inr (Or.inr (Or.inr ⟨b1, b2, (z1.1 c3).1, (z1.1 c3).2, ?_⟩))))
        cases kN f n <;> rfl
      · rw [if_pos (by simpa using c3)]
        refine Or.inr (Or.inr (Or.inr (Or.inr (Or.inl ⟨b1, b2, z1.2 c3, ?_⟩))))
        cases kN f n <;> rfl
    · have b2 : ((kE f n : Int) != 0) = true := by simp; omega
      rw [if_pos (by simpa using c2)]
      refine Or.inr (Or.inr (Or.inr (Or.inl ⟨b1, b2, ?_⟩)))
      cases kN f n <;> rfl

theorem fit_iff {f : Int} (hf : Is4 f) (n : Nat) : ((blen n : Nat) : Int) ≤ fW f ↔ Fit f n := by
  have h := blen_iff n (wV f + 1)
  have e : fW f = ((wV f + 1 : Nat) : Int) := by rcases hf with rfl | rfl | rfl | rfl <;> decide +kernel
  unfold Fit
  rw [e, Nat.pow_succ, Nat.mul_comm] at *
  omega
def okB (f : Int) (n : Nat) : Bool := decide (f ≤ 3 ∧ n < 2 * 2 ^ wV f)
theorem okB_fits (f : Int) (h0 : 0 ≤ f) (x y n : Nat) (hn : y + 18446744073709551616 * x = n) : fitsB f (x, y) = okB f n := by
  unfold fitsB okB
  simp only []
  rw [hn]
  by_cases h : f ≤ 3
  · have k := fit_iff (is4_of h0 h) n
    by_cases h2 : Fit f n
    · rw [decide_eq_true h, decide_eq_true (k.2 h2), decide_eq_true ⟨h, h2⟩]; rfl
    · rw [decide_eq_false (fun a => h2 (k.1 a)), Bool.and_false]
      exact (decide_eq_false (fun a : f ≤ 3 ∧ n < 2 * 2 ^ wV f => h2 a.2)).symm
  · rw [decide_eq_false h, Bool.false_and]
    exact (decide_eq_false (fun a : f ≤ 3 ∧ n < 2 * 2 ^ wV f => h a.1)).symm
theorem sk_fits (f : Int) (x y n : Nat) (o : Bool) (h0 : 0 ≤ f) (h1 : f ≤ 255) (hx : x < 18446744073709551616) (hy : y < 18446744073709551616) (hn : y + 18446744073709551616 * x = n) (ho : okB f n = o) (w : World) (hT : FAt w) : Calls Tryd.prog 27 #[.int .u8 f, .agg #[.int .u64 (x : Nat), .int .u64 (y : Nat)]] w fun r w' => r = .returned (.bool o) ∧ Below w.heap.size w w' :=
  s_fits_is f (x, y) o h0 h1 hx hy (by rw [okB_fits f h0 x y n hn, ho]) w hT
theorem okB_yes {f : Int} {n : Nat} (h0 : 0 ≤ f) (h : okB f n = true) : Is4 f ∧ Fit f n := by
  have := of_decide_eq_true h
  exact ⟨is4_of h0 this.1, this.2⟩

theorem kClass_yes (f : Int) (hf : Is4 f) (x y n c : Nat) (hx : x < 18446744073709551616) (hy : y < 18446744073709551616) (hn : y + 18446744073709551616 * x = n) (ho : okB f n = true) (hc : kC f n = c) (w : World) (hT : FAt w) : Calls Tryd.prog 25 #[.int .u8 f, .agg #[.int .u64 (x : Nat), .int .u64 (y : Nat)]] w fun r w' => r = .returned (.tuple #[.int .u8 (c : Nat), .int .i64 0]) ∧ Below w.heap.size w w' := by
  have f4 := is4_ok hf
  have K1 := box (sk_fits f x y n true f4.1 f4.2.1 hx hy hn ho)
  have K2 := box (kclass_is f hf x y n c hx hy hn hc)
  have TT := box hT
  clear hT hf hx hy hn ho hc
  obtain ⟨Rb_0, B0⟩ := kopn1 w (Obj.cells #[.int .u64 (x : Nat), .int .u64 (y : Nat)] 26)
  go_enter Tryd.func25, Tryd.ntmps25
  go_wp2_with fail
  refine (K1.out _ (fatB TT.out B0)).mono ?_
  rintro r w1 ⟨rfl, b1⟩
  have B1 : Below w.heap.size w w1 := btr7 B0 b1
  have Rb_1 := heap_of b1 _ _ _ Rb_0
  clear b1 B0 Rb_0
  obtain ⟨cb_1_0, cb_1_1⟩ := cell7t Rb_1
  go_wp2_with fail
  refine (K2.out _ (fatB TT.out B1)).mono ?_
  rintro r w2 ⟨rfl, b2⟩
  have B2 : Below w.heap.size w w2 := btr7 B1 b2
  have Rb_2 := heap_of b2 _ _ _ Rb_1
  clear b2 B1 Rb_1 cb_1_0 cb_1_1
  obtain ⟨cb_2_0, cb_2_1⟩ := cell7t Rb_2
  go_wp2
  go_ret2
  exact ⟨rfl, B2⟩
theorem kClass_no (f : Int) (h0 : 0 ≤ f) (h1 : f ≤ 255) (x y n : Nat) (hx : x < 18446744073709551616) (hy : y < 18446744073709551616) (hn : y + 18446744073709551616 * x = n) (ho : okB f n = false) (w : World) (hT : FAt w) : Calls Tryd.prog 25 #[.int .u8 f, .agg #[.int .u64 (x : Nat), .int .u64 (y : Nat)]] w fun r w' => r = .returned (.tuple #[.int .u8 0, .int .i64 2]) ∧ Below w.heap.size w w' := by
  have K1 := box (sk_fits f x y n false h0 h1 hx hy hn ho)
  have TT := box hT
  clear hT hx hy hn ho
  obtain ⟨Rb_0, B0⟩ := kopn1 w (Obj.cells #[.int .u64 (x : Nat), .int .u64 (y : Nat)] 26)
  go_enter Tryd.func25, Tryd.ntmps25
  go_wp2_with fail
  refine (K1.out _ (fatB TT.out B0)).mono ?_
  rintro r w1 ⟨rfl, b1⟩
  have B1 : Below w.heap.size w w1 := btr7 B0 b1
  have Rb_1 := heap_of b1 _ _ _ Rb_0
  clear b1 B0 Rb_0
  obtain ⟨cb_1_0, cb_1_1⟩ := cell7t Rb_1
  go_wp2
  go_ret2
  exact ⟨rfl, B1⟩

theorem kSign_yes (f : Int) (hf : Is4 f) (x y n : Nat) (o : Bool) (hx : x < 18446744073709551616) (hy : y < 18446744073709551616) (hn : y + 18446744073709551616 * x = n) (ho : okB f n = true) (hc : kN f n = o) (w : World) (hT : FAt w) : Calls Tryd.prog 18 #[.int .u8 f, .agg #[.int .u64 (x : Nat), .int .u64 (y : Nat)]] w fun r w' => r = .returned (.bool o) ∧ Below w.heap.size w w' := by
  have f4 := is4_ok hf
  have K1 := box (sk_fits f x y n true f4.1 f4.2.1 hx hy hn ho)
  have K2 := box (ksign_is f hf x y n o hx hy hn hc)
  have TT := box hT
  clear hT hf hx hy hn ho hc
  obtain ⟨Rb_0, B0⟩ := kopn1 w (Obj.cells #[.int .u64 (x : Nat), .int .u64 (y : Nat)] 26)
  go_enter Tryd.func18, Tryd.ntmps18
  go_wp2_with fail
  refine (K1.out _ (fatB TT.out B0)).mono ?_
  rintro r w1 ⟨rfl, b1⟩
  have B1 : Below w.heap.size w w1 := btr7 B0 b1
  have Rb_1 := heap_of b1 _ _ _ Rb_0
  clear b1 B0 Rb_0
  obtain ⟨cb_1_0, cb_1_1⟩ := cell7t Rb_1
  go_wp2_with fail
  refine (K2.out _ (fatB TT.out B1)).mono ?_
  rintro r w2 ⟨rfl, b2⟩
  have B2 : Below w.heap.size w w2 := btr7 B1 b2
  have Rb_2 := heap_of b2 _ _ _ Rb_1
  clear b2 B1 Rb_1 cb_1_0 cb_1_1
  obtain ⟨cb_2_0, cb_2_1⟩ := cell7t Rb_2
  go_wp2
  go_ret
  exact ⟨rfl, B2⟩
end Go.Proofs.YtlpelcfaakfmiaaDoor
