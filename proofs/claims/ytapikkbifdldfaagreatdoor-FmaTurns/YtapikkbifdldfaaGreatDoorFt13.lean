/-
  What the functions that the statement reaches return: part 13 (K9, KA).
-/
import Derived.Test.YtapikkbifdldfaaGreatDoorFt12
namespace Go.Proofs.YtapikkbifdldfaaGreatDoor
set_option maxRecDepth 100000
set_option maxHeartbeats 40000000
set_option maxRecDepth 100000
open Go.RowKit WMath
set_option linter.unusedSimpArgs false
set_option linter.unusedVariables false
set_option maxRecDepth 100000 in
set_option maxHeartbeats 2000000 in
theorem rk_class (f : Int) (hf : Is4 f) (x y n c : Nat) (hx : x < 18446744073709551616) (hy : y < 18446744073709551616) (hn : y + 18446744073709551616 * x = n) (hfit : Fit f n) (hc : kC f n = c) (w : World) :
    Calls Tryz.prog 67 #[.int .u8 f, .agg #[.int .u64 (x : Nat), .int .u64 (y : Nat)]] w fun r w' => r = .returned (.int .u8 (c : Nat)) ∧ Below w.heap.size w w' := by
  have hat := cw_at 6
  have hz := cw6z
  have hff := cw6f
  have hs0 := st0
  have hcs : ∀ x, ((cw 6 x).size = 6) = True := fun x => eq_true (cw_size 6 x)
  have heq := eq6
  have hg := eqg6
  have hQ := Q_pos
  have f4 := is4_ok hf
  have tl := kT_lt (f := f) n
  have el := kE_le (f := f) n
  obtain ⟨g1, g2, g3, g4, g5, g6, g7⟩ := fm hf
  obtain ⟨p1, p2, p3, p4, p5, p6, p7, p8⟩ := pV_lim hf
  have p9 : IntKind.i64.wrap (fP f - 2) = ((pV f - 1 : Nat) : Int) := by rcases hf with rfl | rfl | rfl | rfl <;> decide +kernel
  obtain ⟨neg, hneg⟩ : ∃ q, kN f n = q := ⟨_, rfl⟩
  obtain ⟨e, he⟩ : ∃ q, kE f n = q := ⟨_, rfl⟩
  obtain ⟨t, ht⟩ : ∃ q, kT f n = q := ⟨_, rfl⟩
  have K1 := box (rk_fields f hf x y n e t neg hx hy hn hfit hneg he ht)
  have tQ : t < Q := by rw [← ht]; exact lt_Q7 (by rw [g1, Nat.add_mul] at g7; omega)
  obtain ⟨o, ho⟩ : ∃ q, oV f = q := ⟨_, rfl⟩
  obtain ⟨m, hm⟩ : ∃ q, fE f = q := ⟨_, rfl⟩
  obtain ⟨p, hp⟩ : ∃ q, fP f = q := ⟨_, rfl⟩
  have K2 : Box (∀ w, Calls Tryz.prog 97 #[.int .u8 f] w fun r w' => r = .returned (.int .i64 (o : Nat)) ∧ w' = w) := box (fun w => r_ones f m _ f4.1 hm (by rw [← ho, ← hm]; rcases hf with rfl | rfl | rfl | rfl <;> decide +kernel) w)
  have KP := box (r_precision f p f4.1 hp)
  obtain ⟨qb, hqb⟩ : ∃ q, decide (2 ^ (pV f - 1) ≤ t) = q := ⟨_, rfl⟩
  have K3 : Box (∀ w, Calls Tryz.prog 122 #[.agg (cw 6 t), .int .i64 ((pV f - 1 : Nat) : Int)] w fun r w' => r = .returned (.bool qb) ∧ Below w.heap.size w w') := box (fun w => by
    have h := rwbit_any t (pV f - 1) (by omega) w
    have e2 : t.testBit (pV f - 1) = qb := by
      rw [← hqb, Nat.testBit_eq_decide_div_mod_eq, decide_eq_decide]
      rw [ht] at tl
      rw [g3] at tl
      have hz := Nat.two_pow_pos (pV f - 1)
      by_cases h : 2 ^ (pV f - 1) ≤ t
      · have : t / 2 ^ (pV f - 1) = 1 := by rw [Nat.div_eq_iff hz]; omega
        rw [this]; simp [h]
      · rw [Nat.div_eq_of_lt (by omega)]; simp; omega
    rw [e2] at h
    exact h)
  unfold kC at hc
  rw [he, ht, hneg, ho] at hc
  have zf : (t = 0 → decide (t = 0) = true) ∧ (t ≠ 0 → decide (t = 0) = false) := ⟨fun h => decide_eq_true h, fun h => decide_eq_false h⟩
  obtain ⟨pm, hpm⟩ : ∃ q, pV f - 1 = q := ⟨_, rfl⟩
  rw [hpm] at K3 p9 hqb hc
  rw [hp] at p9
  clear tl el hf hx hy hn hfit hneg he ht ho hm hp p1 p2 p3 p4 p5 p6 p7 p8 g1 g2 g3 g4 g5 g6 g7 hpm f4
  by_cases c1 : e = o
  · have b1 : ((e : Int) == (o : Int)) = true := by rw [c1]; simp
    rw [if_pos c1] at hc
    by_cases c2 : t = 0
    · rw [if_pos c2] at hc
      subst c2
      cases neg
      · subst hc
        obtain ⟨Rb_0, B0⟩ := kopn1 w (Obj.cells #[.int .u64 (x : Nat), .int .u64 (y : Nat)] 26)
        go_enter Tryz.func67, Tryz.ntmps67
        go_wp2_with fail
        refine (K1.out _).mono ?_
        rintro r w1 ⟨rfl, b1⟩
        have B1 : Below w.heap.size w w1 := btr7 B0 b1
        have Rb_1 := heap_of b1 _ _ _ Rb_0
        clear b1 B0 Rb_0
        obtain ⟨cb_1_0, cb_1_1⟩ := cell7t Rb_1
        have S2 := box B1.size
        have Lb_2 : Box (w.heap.size < w1.heap.size) := box (Array.getElem?_eq_some_iff.1 Rb_1).1
        have Rt_2 := heap_alloc_last w1 (Obj.cells (cw 6 0) 52)
        have B2 := btr7 B1 (bal7 w1 (Obj.cells (cw 6 0) 52))
        have Rb_2 := heap_of (bal7 w1 (Obj.cells (cw 6 0) 52)) _ _ _ Rb_1
        clear B1 Rb_1 cb_1_0 cb_1_1
        obtain ⟨cb_2_0, cb_2_1⟩ := cell7t Rb_2
        have ct_2_0 := row_cell Rt_2
        go_wp2_with fail
        refine (K2.out _).mono ?_
        rintro r w' ⟨rfl, hw'⟩
        obtain rfl := hw'.symm
        go_wp2
        go_ret
        exact ⟨rfl, B2⟩
      · subst hc
        obtain ⟨Rb_0, B0⟩ := kopn1 w (Obj.cells #[.int .u64 (x : Nat), .int .u64 (y : Nat)] 26)
        go_enter Tryz.func67, Tryz.ntmps67
        go_wp2_with fail
        refine (K1.out _).mono ?_
        rintro r w1 ⟨rfl, b1⟩
        have B1 : Below w.heap.size w w1 := btr7 B0 b1
        have Rb_1 := heap_of b1 _ _ _ Rb_0
        clear b1 B0 Rb_0
        obtain ⟨cb_1_0, cb_1_1⟩ := cell7t Rb_1
        have S2 := box B1.size
        have Lb_2 : Box (w.heap.size < w1.heap.size) := box (Array.getElem?_eq_some_iff.1 Rb_1).1
        have Rt_2 := heap_alloc_last w1 (Obj.cells (cw 6 0) 52)
        have B2 := btr7 B1 (bal7 w1 (Obj.cells (cw 6 0) 52))
        have Rb_2 := heap_of (bal7 w1 (Obj.cells (cw 6 0) 52)) _ _ _ Rb_1
        clear B1 Rb_1 cb_1_0 cb_1_1
        obtain ⟨cb_2_0, cb_2_1⟩ := cell7t Rb_2
        have ct_2_0 := row_cell Rt_2
        go_wp2_with fail
        refine (K2.out _).mono ?_
        rintro r w' ⟨rfl, hw'⟩
        obtain rfl := hw'.symm
        go_wp2
        go_ret
        exact ⟨rfl, B2⟩
    · rw [if_neg c2] at hc
      have z1 := zf.2 c2
      cases qb
      · rw [if_neg (of_decide_eq_false hqb)] at hc
        subst hc
        obtain ⟨Rb_0, B0⟩ := kopn1 w (Obj.cells #[.int .u64 (x : Nat), .int .u64 (y : Nat)] 26)
        go_enter Tryz.func67, Tryz.ntmps67
        go_wp2_with fail
        refine (K1.out _).mono ?_
        rintro r w1 ⟨rfl, b1⟩
        have B1 : Below w.heap.size w w1 := btr7 B0 b1
        have Rb_1 := heap_of b1 _ _ _ Rb_0
        clear b1 B0 Rb_0
        obtain ⟨cb_1_0, cb_1_1⟩ := cell7t Rb_1
        have S2 := box B1.size
        have Lb_2 : Box (w.heap.size < w1.heap.size) := box (Array.getElem?_eq_some_iff.1 Rb_1).1
        have Rt_2 := heap_alloc_last w1 (Obj.cells (cw 6 t) 52)
        have B2 := btr7 B1 (bal7 w1 (Obj.cells (cw 6 t) 52))
        have Rb_2 := heap_of (bal7 w1 (Obj.cells (cw 6 t) 52)) _ _ _ Rb_1
        clear B1 Rb_1 cb_1_0 cb_1_1
        obtain ⟨cb_2_0, cb_2_1⟩ := cell7t Rb_2
        have ct_2_0 := row_cell Rt_2
        go_wp2_with fail
        refine (K2.out _).mono ?_
        rintro r w' ⟨rfl, hw'⟩
        obtain rfl := hw'.symm
        go_wp2_with fail
        obtain ⟨F, hF1, hF2⟩ := below_fun (w1.alloc (Obj.cells (cw 6 t) 52))
        have fb_0 := fun u => cell7 (heap_of (hF1 u) _ _ _ Rb_2) 0 _ rfl
        have fb_1 := fun u => cell7 (heap_of (hF1 u) _ _ _ Rb_2) 1 _ rfl
        have ft_0 := fun u => row_cell (heap_of (hF1 u) _ _ _ Rt_2)
        refine wp_region_below F hF2 (by kernel_rfl) (by kernel_rfl) ?_
        repeat first | go_big_quiet_step (first | (go_at_call 95; exact quietF0 (KP.out _)) | (go_at_call 122; exact quietF hF1 hF2 (K3.out _)) | fail) | quiet_step (first | (go_at_call 95; exact quietF0 (KP.out _)) | (go_at_call 122; exact quietF hF1 hF2 (K3.out _)) | fail)
        refine wpQuiet_nil ?_
        rintro _ ⟨uW, rfl⟩
        have B3 := btr7 B2 (hF1 uW)
        have Rb_3 := heap_of (hF1 uW) _ _ _ Rb_2
        have Rt_3 := heap_of (hF1 uW) _ _ _ Rt_2
        obtain ⟨w3, hw⟩ : ∃ V, F uW = V := ⟨_, rfl⟩
        rw [hw] at B3 Rb_3 Rt_3
        try rw [hw]
        clear hw hF1 hF2 B2 fb_0 fb_1 ft_0 Rb_2 cb_2_0 cb_2_1 Rt_2 ct_2_0
        clear F
        obtain ⟨cb_3_0, cb_3_1⟩ := cell7t Rb_3
        have ct_3_0 := row_cell Rt_3
        go_wp2
        go_ret
        exact ⟨rfl, B3⟩
      · rw [if_pos (of_decide_eq_true hqb)] at hc
        subst hc
        obtain ⟨Rb_0, B0⟩ := kopn1 w (Obj.cells #[.int .u64 (x : Nat), .int .u64 (y : Nat)] 26)
        go_enter Tryz.func67, Tryz.ntmps67
        go_wp2_with fail
        refine (K1.out _).mono ?_
        rintro r w1 ⟨rfl, b1⟩
        have B1 : Below w.heap.size w w1 := btr7 B0 b1
        have Rb_1 := heap_of b1 _ _ _ Rb_0
        clear b1 B0 Rb_0
        obtain ⟨cb_1_0, cb_1_1⟩ := cell7t Rb_1
        have S2 := box B1.size
        have Lb_2 : Box (w.heap.size < w1.heap.size) := box (Array.getElem?_eq_some_iff.1 Rb_1).1
        have Rt_2 := heap_alloc_last w1 (Obj.cells (cw 6 t) 52)
        have B2 := btr7 B1 (bal7 w1 (Obj.cells (cw 6 t) 52))
        have Rb_2 := heap_of (bal7 w1 (Obj.cells (cw 6 t) 52)) _ _ _ Rb_1
        clear B1 Rb_1 cb_1_0 cb_1_1
        obtain ⟨cb_2_0, cb_2_1⟩ := cell7t Rb_2
        have ct_2_0 := row_cell Rt_2
        go_wp2_with fail
        refine (K2.out _).mono ?_
        rintro r w' ⟨rfl, hw'⟩
        obtain rfl := hw'.symm
        go_wp2_with fail
        obtain ⟨F, hF1, hF2⟩ := below_fun (w1.alloc (Obj.cells (cw 6 t) 52))
        have fb_0 := fun u => cell7 (heap_of (hF1 u) _ _ _ Rb_2) 0 _ rfl
        have fb_1 := fun u => cell7 (heap_of (hF1 u) _ _ _ Rb_2) 1 _ rfl
        have ft_0 := fun u => row_cell (heap_of (hF1 u) _ _ _ Rt_2)
        refine wp_region_below F hF2 (by kernel_rfl) (by kernel_rfl) ?_
        repeat first | go_big_quiet_step (first | (go_at_call 95; exact quietF0 (KP.out _)) | (go_at_call 122; exact quietF hF1 hF2 (K3.out _)) | fail) | quiet_step (first | (go_at_call 95; exact quietF0 (KP.out _)) | (go_at_call 122; exact quietF hF1 hF2 (K3.out _)) | fail)
        refine wpQuiet_nil ?_
        rintro _ ⟨uW, rfl⟩
        have B3 := btr7 B2 (hF1 uW)
        have Rb_3 := heap_of (hF1 uW) _ _ _ Rb_2
        have Rt_3 := heap_of (hF1 uW) _ _ _ Rt_2
        obtain ⟨w3, hw⟩ : ∃ V, F uW = V := ⟨_, rfl⟩
        rw [hw] at B3 Rb_3 Rt_3
        try rw [hw]
        clear hw hF1 hF2 B2 fb_0 fb_1 ft_0 Rb_2 cb_2_0 cb_2_1 Rt_2 ct_2_0
        clear F
        obtain ⟨cb_3_0, cb_3_1⟩ := cell7t Rb_3
        have ct_3_0 := row_cell Rt_3
        go_wp2
        go_ret
        exact ⟨rfl, B3⟩
  · have b1 : ((e : Int) == (o : Int)) = false := by simp; omega
    rw [if_neg c1] at hc
    by_cases c2 : e = 0
    · subst c2
      rw [if_neg (by simp)] at hc
      by_cases c3 : t = 0
      · subst c3
        rw [if_neg (by simp)] at hc
        cases neg
        · subst hc
          obtain ⟨Rb_0, B0⟩ := kopn1 w (Obj.cells #[.int .u64 (x : Nat), .int .u64 (y : Nat)] 26)
          go_enter Tryz.func67, Tryz.ntmps67
          go_wp2_with fail
          refine (K1.out _).mono ?_
          rintro r w1 ⟨rfl, b1⟩
          have B1 : Below w.heap.size w w1 := btr7 B0 b1
          have Rb_1 := heap_of b1 _ _ _ Rb_0
          clear b1 B0 Rb_0
          obtain ⟨cb_1_0, cb_1_1⟩ := cell7t Rb_1
          have S2 := box B1.size
          have Lb_2 : Box (w.heap.size < w1.heap.size) := box (Array.getElem?_eq_some_iff.1 Rb_1).1
          have Rt_2 := heap_alloc_last w1 (Obj.cells (cw 6 0) 52)
          have B2 := btr7 B1 (bal7 w1 (Obj.cells (cw 6 0) 52))
          have Rb_2 := heap_of (bal7 w1 (Obj.cells (cw 6 0) 52)) _ _ _ Rb_1
          clear B1 Rb_1 cb_1_0 cb_1_1
          obtain ⟨cb_2_0, cb_2_1⟩ := cell7t Rb_2
          have ct_2_0 := row_cell Rt_2
          go_wp2_with fail
          refine (K2.out _).mono ?_
          rintro r w' ⟨rfl, hw'⟩
          obtain rfl := hw'.symm
          go_wp2
          go_ret
          exact ⟨rfl, B2⟩
        · subst hc
          obtain ⟨Rb_0, B0⟩ := kopn1 w (Obj.cells #[.int .u64 (x : Nat), .int .u64 (y : Nat)] 26)
          go_enter Tryz.func67, Tryz.ntmps67
          go_wp2_with fail
          refine (K1.out _).mono ?_
          rintro r w1 ⟨rfl, b1⟩
          have B1 : Below w.heap.size w w1 := btr7 B0 b1
          have Rb_1 := heap_of b1 _ _ _ Rb_0
          clear b1 B0 Rb_0
          obtain ⟨cb_1_0, cb_1_1⟩ := cell7t Rb_1
          have S2 := box B1.size
          have Lb_2 : Box (w.heap.size < w1.heap.size) := box (Array.getElem?_eq_some_iff.1 Rb_1).1
          have Rt_2 := heap_alloc_last w1 (Obj.cells (cw 6 0) 52)
          have B2 := btr7 B1 (bal7 w1 (Obj.cells (cw 6 0) 52))
          have Rb_2 := heap_of (bal7 w1 (Obj.cells (cw 6 0) 52)) _ _ _ Rb_1
          clear B1 Rb_1 cb_1_0 cb_1_1
          obtain ⟨cb_2_0, cb_2_1⟩ := cell7t Rb_2
          have ct_2_0 := row_cell Rt_2
          go_wp2_with fail
          refine (K2.out _).mono ?_
          rintro r w' ⟨rfl, hw'⟩
          obtain rfl := hw'.symm
          go_wp2
          go_ret
          exact ⟨rfl, B2⟩
      · have z1 := zf.2 c3
        rw [if_pos (by simpa using c3)] at hc
        cases neg
        · subst hc
          obtain ⟨Rb_0, B0⟩ := kopn1 w (Obj.cells #[.int .u64 (x : Nat), .int .u64 (y : Nat)] 26)
          go_enter Tryz.func67, Tryz.ntmps67
          go_wp2_with fail
          refine (K1.out _).mono ?_
          rintro r w1 ⟨rfl, b1⟩
          have B1 : Below w.heap.size w w1 := btr7 B0 b1
          have Rb_1 := heap_of b1 _ _ _ Rb_0
          clear b1 B0 Rb_0
          obtain ⟨cb_1_0, cb_1_1⟩ := cell7t Rb_1
          have S2 := box B1.size
          have Lb_2 : Box (w.heap.size < w1.heap.size) := box (Array.getElem?_eq_some_iff.1 Rb_1).1
          have Rt_2 := heap_alloc_last w1 (Obj.cells (cw 6 t) 52)
          have B2 := btr7 B1 (bal7 w1 (Obj.cells (cw 6 t) 52))
          have Rb_2 := heap_of (bal7 w1 (Obj.cells (cw 6 t) 52)) _ _ _ Rb_1
          clear B1 Rb_1 cb_1_0 cb_1_1
          obtain ⟨cb_2_0, cb_2_1⟩ := cell7t Rb_2
          have ct_2_0 := row_cell Rt_2
          go_wp2_with fail
          refine (K2.out _).mono ?_
          rintro r w' ⟨rfl, hw'⟩
          obtain rfl := hw'.symm
          go_wp2
          go_ret
          exact ⟨rfl, B2⟩
        · subst hc
          obtain ⟨Rb_0, B0⟩ := kopn1 w (Obj.cells #[.int .u64 (x : Nat), .int .u64 (y : Nat)] 26)
          go_enter Tryz.func67, Tryz.ntmps67
          go_wp2_with fail
          refine (K1.out _).mono ?_
          rintro r w1 ⟨rfl, b1⟩
          have B1 : Below w.heap.size w w1 := btr7 B0 b1
          have Rb_1 := heap_of b1 _ _ _ Rb_0
          clear b1 B0 Rb_0
          obtain ⟨cb_1_0, cb_1_1⟩ := cell7t Rb_1
          have S2 := box B1.size
          have Lb_2 : Box (w.heap.size < w1.heap.size) := box (Array.getElem?_eq_some_iff.1 Rb_1).1
          have Rt_2 := heap_alloc_last w1 (Obj.cells (cw 6 t) 52)
          have B2 := btr7 B1 (bal7 w1 (Obj.cells (cw 6 t) 52))
          have Rb_2 := heap_of (bal7 w1 (Obj.cells (cw 6 t) 52)) _ _ _ Rb_1
          clear B1 Rb_1 cb_1_0 cb_1_1
          obtain ⟨cb_2_0, cb_2_1⟩ := cell7t Rb_2
          have ct_2_0 := row_cell Rt_2
          go_wp2_with fail
          refine (K2.out _).mono ?_
          rintro r w' ⟨rfl, hw'⟩
          obtain rfl := hw'.symm
          go_wp2
          go_ret
          exact ⟨rfl, B2⟩
    · have b2 : ((e : Int) != 0) = true := by simp; omega
      rw [if_pos (by simpa using c2)] at hc
      cases neg
      · subst hc
        obtain ⟨Rb_0, B0⟩ := kopn1 w (Obj.cells #[.int .u64 (x : Nat), .int .u64 (y : Nat)] 26)
        go_enter Tryz.func67, Tryz.ntmps67
        go_wp2_with fail
        refine (K1.out _).mono ?_
        rintro r w1 ⟨rfl, b1⟩
        have B1 : Below w.heap.size w w1 := btr7 B0 b1
        have Rb_1 := heap_of b1 _ _ _ Rb_0
        clear b1 B0 Rb_0
        obtain ⟨cb_1_0, cb_1_1⟩ := cell7t Rb_1
        have S2 := box B1.size
        have Lb_2 : Box (w.heap.size < w1.heap.size) := box (Array.getElem?_eq_some_iff.1 Rb_1).1
        have Rt_2 := heap_alloc_last w1 (Obj.cells (cw 6 t) 52)
        have B2 := btr7 B1 (bal7 w1 (Obj.cells (cw 6 t) 52))
        have Rb_2 := heap_of (bal7 w1 (Obj.cells (cw 6 t) 52)) _ _ _ Rb_1
        clear B1 Rb_1 cb_1_0 cb_1_1
        obtain ⟨cb_2_0, cb_2_1⟩ := cell7t Rb_2
        have ct_2_0 := row_cell Rt_2
        go_wp2_with fail
        refine (K2.out _).mono ?_
        rintro r w' ⟨rfl, hw'⟩
        obtain rfl := hw'.symm
        go_wp2
        go_ret
        exact ⟨rfl, B2⟩
      · subst hc
        obtain ⟨Rb_0, B0⟩ := kopn1 w (Obj.cells #[.int .u64 (x : Nat), .int .u64 (y : Nat)] 26)
        go_enter Tryz.func67, Tryz.ntmps67
        go_wp2_with fail
        refine (K1.out _).mono ?_
        rintro r w1 ⟨rfl, b1⟩
        have B1 : Below w.heap.size w w1 := btr7 B0 b1
        have Rb_1 := heap_of b1 _ _ _ Rb_0
        clear b1 B0 Rb_0
        obtain ⟨cb_1_0, cb_1_1⟩ := cell7t Rb_1
        have S2 := box B1.size
        have Lb_2 : Box (w.heap.size < w1.heap.size) := box (Array.getElem?_eq_some_iff.1 Rb_1).1
        have Rt_2 := heap_alloc_last w1 (Obj.cells (cw 6 t) 52)
        have B2 := btr7 B1 (bal7 w1 (Obj.cells (cw 6 t) 52))
        have Rb_2 := heap_of (bal7 w1 (Obj.cells (cw 6 t) 52)) _ _ _ Rb_1
        clear B1 Rb_1 cb_1_0 cb_1_1
        obtain ⟨cb_2_0, cb_2_1⟩ := cell7t Rb_2
        have ct_2_0 := row_cell Rt_2
        go_wp2_with fail
        refine (K2.out _).mono ?_
        rintro r w' ⟨rfl, hw'⟩
        obtain rfl := hw'.symm
        go_wp2
        go_ret
        exact ⟨rfl, B2⟩
end Go.Proofs.YtapikkbifdldfaaGreatDoor
namespace Go.Proofs.YtapikkbifdldfaaGreatDoor
set_option maxRecDepth 100000
set_option maxHeartbeats 40000000
set_option maxRecDepth 100000
open Go.RowKit WMath
set_option linter.unusedSimpArgs false
set_option linter.unusedVariables false
theorem rk_enc (f : Int) (neg : Bool) (e T v a b : Nat) (hf : Is4 f) (hT : T < 2 ^ pV f) (hev : e ≤ oV f) (hv : enc7 f neg e T = v) (hab : bv7 v = (a, b)) (w : World) :
    Calls Tryz.prog 96 #[.int .u8 f, .bool neg, .int .i64 (e : Nat), .agg (cw 6 T)] w fun r w' => r = .returned (.agg #[.int .u64 (a : Nat), .int .u64 (b : Nat)]) ∧ Below w.heap.size w w' := by
  have h := r_enc f neg e T v hf (by have := (fm hf).2.2.2.2.2.1; omega) hT hv hev w
  rw [hab] at h
  exact h
theorem rSign_yes (f : Int) (hf : Is4 f) (x y n : Nat) (o : Bool) (hx : x < 18446744073709551616) (hy : y < 18446744073709551616) (hn : y + 18446744073709551616 * x = n) (ho : okB f n = true) (hc : kN f n = o) (w : World) : Calls Tryz.prog 43 #[.int .u8 f, .agg #[.int .u64 (x : Nat), .int .u64 (y : Nat)]] w fun r w' => r = .returned (.bool o) ∧ Below w.heap.size w w' := by
  have hat := cw_at 6
  have hz := cw6z
  have hff := cw6f
  have hs0 := st0
  have hcs : ∀ x, ((cw 6 x).size = 6) = True := fun x => eq_true (cw_size 6 x)
  have f4 := is4_ok hf
  have fit := (okB_yes f4.1 ho).2
  have K1 := box (rk_fits f x y n true f4.1 hx hy hn ho)
  have K2 := box (rk_fields f hf x y n _ _ o hx hy hn fit hc rfl rfl)
  clear hf hx hy hn ho hc fit
  obtain ⟨Rb_0, B0⟩ := kopn1 w (Obj.cells #[.int .u64 (x : Nat), .int .u64 (y : Nat)] 26)
  go_enter Tryz.func43, Tryz.ntmps43
  go_wp2_with fail
  refine (K1.out _).mono ?_
  rintro r w1 ⟨rfl, b1⟩
  have B1 : Below w.heap.size w w1 := btr7 B0 b1
  have Rb_1 := heap_of b1 _ _ _ Rb_0
  clear b1 B0 Rb_0
  obtain ⟨cb_1_0, cb_1_1⟩ := cell7t Rb_1
  go_wp2_with fail
  refine (K2.out _).mono ?_
  rintro r w2 ⟨rfl, b2⟩
  have B2 : Below w.heap.size w w2 := btr7 B1 b2
  have Rb_2 := heap_of b2 _ _ _ Rb_1
  clear b2 B1 Rb_1 cb_1_0 cb_1_1
  obtain ⟨cb_2_0, cb_2_1⟩ := cell7t Rb_2
  have S3 := box B2.size
  have Lb_3 : Box (w.heap.size < w2.heap.size) := box (Array.getElem?_eq_some_iff.1 Rb_2).1
  have Rt_3 := heap_alloc_last w2 (Obj.cells (cw 6 (kT f n)) 52)
  have B3 := btr7 B2 (bal7 w2 (Obj.cells (cw 6 (kT f n)) 52))
  have Rb_3 := heap_of (bal7 w2 (Obj.cells (cw 6 (kT f n)) 52)) _ _ _ Rb_2
  clear B2 Rb_2 cb_2_0 cb_2_1
  obtain ⟨cb_3_0, cb_3_1⟩ := cell7t Rb_3
  have ct_3_0 := row_cell Rt_3
  go_wp2
  go_ret
  exact ⟨rfl, B3⟩
theorem flip_k {f : Int} (hf : Is4 f) {n : Nat} (hfit : Fit f n) : sgB f n true = enc7 f (!kN f n) (kE f n) (kT f n) := by
  rw [← flip_enc hf _ (kE_le n) (kT_lt n), k_enc hf hfit]
  rfl
theorem rFlip_yes (f : Int) (hf : Is4 f) (x y n u v : Nat) (hx : x < 18446744073709551616) (hy : y < 18446744073709551616) (hn : y + 18446744073709551616 * x = n) (ho : okB f n = true) (hc : bv7 (sgB f n true) = (u, v)) (w : World) : Calls Tryz.prog 56 #[.int .u8 f, .agg #[.int .u64 (x : Nat), .int .u64 (y : Nat)]] w fun r w' => r = .returned (.agg #[.int .u64 (u : Nat), .int .u64 (v : Nat)]) ∧ Below w.heap.size w w' := by
  have hat := cw_at 6
  have hz := cw6z
  have hff := cw6f
  have hs0 := st0
  have hcs : ∀ x, ((cw 6 x).size = 6) = True := fun x => eq_true (cw_size 6 x)
  have f4 := is4_ok hf
  have fit := (okB_yes f4.1 ho).2
  have K1 := box (rk_fits f x y n true f4.1 hx hy hn ho)
  have tl := kT_lt (f := f) n
  have el := kE_le (f := f) n
  have fk := flip_k hf fit
  obtain ⟨neg, hneg⟩ : ∃ q, kN f n = q := ⟨_, rfl⟩
  obtain ⟨e, he⟩ : ∃ q, kE f n = q := ⟨_, rfl⟩
  obtain ⟨t, ht⟩ : ∃ q, kT f n = q := ⟨_, rfl⟩
  have K2 := box (rk_fields f hf x y n e t neg hx hy hn fit hneg he ht)
  rw [hneg, he, ht] at fk
  rw [he] at el
  rw [ht] at tl
  have K3 := box (rk_enc f (!neg) e t _ u v hf tl el fk.symm hc)
  clear hf hx hy hn ho hc fit fk el tl hneg he ht
  cases neg
  · obtain ⟨Rb_0, Rz_0, B0⟩ := kopn2 w (Obj.cells #[.int .u64 (x : Nat), .int .u64 (y : Nat)] 26) (Obj.cells #[.int .u64 0, .int .u64 0] 26)
    go_enter Tryz.func56, Tryz.ntmps56
    go_wp2_with fail
    refine (K1.out _).mono ?_
    rintro r w1 ⟨rfl, b1⟩
    have B1 : Below w.heap.size w w1 := btr7 B0 b1
    have Rb_1 := heap_of b1 _ _ _ Rb_0
    have Rz_1 := heap_of b1 _ _ _ Rz_0
    clear b1 B0 Rb_0 Rz_0
    obtain ⟨cb_1_0, cb_1_1⟩ := cell7t Rb_1
    obtain ⟨cz_1_0, cz_1_1⟩ := cell7t Rz_1
    go_wp2_with fail
    refine (K2.out _).mono ?_
    rintro r w2 ⟨rfl, b2⟩
    have B2 : Below w.heap.size w w2 := btr7 B1 b2
    have Rb_2 := heap_of b2 _ _ _ Rb_1
    have Rz_2 := heap_of b2 _ _ _ Rz_1
    clear b2 B1 Rb_1 cb_1_0 cb_1_1 Rz_1 cz_1_0 cz_1_1
    obtain ⟨cb_2_0, cb_2_1⟩ := cell7t Rb_2
    obtain ⟨cz_2_0, cz_2_1⟩ := cell7t Rz_2
    have S3 := box B2.size
    have Lb_3 : Box (w.heap.size < w2.heap.size) := box (Array.getElem?_eq_some_iff.1 Rb_2).1
    have Lz_3 : Box (w.heap.size + 1 < w2.heap.size) := box (Array.getElem?_eq_some_iff.1 Rz_2).1
    have Rt_3 := heap_alloc_last w2 (Obj.cells (cw 6 t) 52)
    have B3 := btr7 B2 (bal7 w2 (Obj.cells (cw 6 t) 52))
    have Rb_3 := heap_of (bal7 w2 (Obj.cells (cw 6 t) 52)) _ _ _ Rb_2
    have Rz_3 := heap_of (bal7 w2 (Obj.cells (cw 6 t) 52)) _ _ _ Rz_2
    clear B2 Rb_2 cb_2_0 cb_2_1 Rz_2 cz_2_0 cz_2_1
    obtain ⟨cb_3_0, cb_3_1⟩ := cell7t Rb_3
    obtain ⟨cz_3_0, cz_3_1⟩ := cell7t Rz_3
    have ct_3_0 := row_cell Rt_3
    go_wp2_with fail
    refine (K3.out _).mono ?_
    rintro r w4 ⟨rfl, b4⟩
    have B4 : Below w.heap.size w w4 := btr7 B3 b4
    have Rb_4 := heap_of b4 _ _ _ Rb_3
    have Rz_4 := heap_of b4 _ _ _ Rz_3
    have Rt_4 := heap_of b4 _ _ _ Rt_3
    clear b4 B3 Rb_3 cb_3_0 cb_3_1 Rz_3 cz_3_0 cz_3_1 Rt_3 ct_3_0
    obtain ⟨cb_4_0, cb_4_1⟩ := cell7t Rb_4
    obtain ⟨cz_4_0, cz_4_1⟩ := cell7t Rz_4
    have ct_4_0 := row_cell Rt_4
    have q0 := fz (k := 0) Rz_4
    have q1 := fz (k := 1) Rz_4
    obtain ⟨E0, E1⟩ := set2_cells Rz_4 (.int .u64 (u : Nat)) (.int .u64 (v : Nat))
    go_wp2
    exact bodyPost_ret (v := .agg #[.int .u64 (u : Nat), .int .u64 (v : Nat)]) (by simp [results, Tryz.results56, go_sem, E0, E1]) rfl ⟨rfl, set2_below B4 (by first | exact Nat.le_refl _ | omega | (have := S3.out; have := Lb_3.out; have := Lz_3.out; omega)) _ _⟩
  · obtain ⟨Rb_0, Rz_0, B0⟩ := kopn2 w (Obj.cells #[.int .u64 (x : Nat), .int .u64 (y : Nat)] 26) (Obj.cells #[.int .u64 0, .int .u64 0] 26)
    go_enter Tryz.func56, Tryz.ntmps56
    go_wp2_with fail
    refine (K1.out _).mono ?_
    rintro r w1 ⟨rfl, b1⟩
    have B1 : Below w.heap.size w w1 := btr7 B0 b1
    have Rb_1 := heap_of b1 _ _ _ Rb_0
    have Rz_1 := heap_of b1 _ _ _ Rz_0
    clear b1 B0 Rb_0 Rz_0
    obtain ⟨cb_1_0, cb_1_1⟩ := cell7t Rb_1
    obtain ⟨cz_1_0, cz_1_1⟩ := cell7t Rz_1
    go_wp2_with fail
    refine (K2.out _).mono ?_
    rintro r w2 ⟨rfl, b2⟩
    have B2 : Below w.heap.size w w2 := btr7 B1 b2
    have Rb_2 := heap_of b2 _ _ _ Rb_1
    have Rz_2 := heap_of b2 _ _ _ Rz_1
    clear b2 B1 Rb_1 cb_1_0 cb_1_1 Rz_1 cz_1_0 cz_1_1
    obtain ⟨cb_2_0, cb_2_1⟩ := cell7t Rb_2
    obtain ⟨cz_2_0, cz_2_1⟩ := cell7t Rz_2
    have S3 := box B2.size
    have Lb_3 : Box (w.heap.size < w2.heap.size) := box (Array.getElem?_eq_some_iff.1 Rb_2).1
    have Lz_3 : Box (w.heap.size + 1 < w2.heap.size) := box (Array.getElem?_eq_some_iff.1 Rz_2).1
    have Rt_3 := heap_alloc_last w2 (Obj.cells (cw 6 t) 52)
    have B3 := btr7 B2 (bal7 w2 (Obj.cells (cw 6 t) 52))
    have Rb_3 := heap_of (bal7 w2 (Obj.cells (cw 6 t) 52)) _ _ _ Rb_2
    have Rz_3 := heap_of (bal7 w2 (Obj.cells (cw 6 t) 52)) _ _ _ Rz_2
    clear B2 Rb_2 cb_2_0 cb_2_1 Rz_2 cz_2_0 cz_2_1
    obtain ⟨cb_3_0, cb_3_1⟩ := cell7t Rb_3
    obtain ⟨cz_3_0, cz_3_1⟩ := cell7t Rz_3
    have ct_3_0 := row_cell Rt_3
    go_wp2_with fail
    refine (K3.out _).mono ?_
    rintro r w4 ⟨rfl, b4⟩
    have B4 : Below w.heap.size w w4 := btr7 B3 b4
    have Rb_4 := heap_of b4 _ _ _ Rb_3
    have Rz_4 := heap_of b4 _ _ _ Rz_3
    have Rt_4 := heap_of b4 _ _ _ Rt_3
    clear b4 B3 Rb_3 cb_3_0 cb_3_1 Rz_3 cz_3_0 cz_3_1 Rt_3 ct_3_0
    obtain ⟨cb_4_0, cb_4_1⟩ := cell7t Rb_4
    obtain ⟨cz_4_0, cz_4_1⟩ := cell7t Rz_4
    have ct_4_0 := row_cell Rt_4
    have q0 := fz (k := 0) Rz_4
    have q1 := fz (k := 1) Rz_4
    obtain ⟨E0, E1⟩ := set2_cells Rz_4 (.int .u64 (u : Nat)) (.int .u64 (v : Nat))
    go_wp2
    exact bodyPost_ret (v := .agg #[.int .u64 (u : Nat), .int .u64 (v : Nat)]) (by simp [results, Tryz.results56, go_sem, E0, E1]) rfl ⟨rfl, set2_below B4 (by first | exact Nat.le_refl _ | omega | (have := S3.out; have := Lb_3.out; have := Lz_3.out; omega)) _ _⟩
theorem rNaN_is (f : Int) (hf : Is4 f) (x y n c : Nat) (o : Bool) (hx : x < 18446744073709551616) (hy : y < 18446744073709551616) (hn : y + 18446744073709551616 * x = n) (hfit : Fit f n) (hc : kC f n = c) (ho : decide (8 ≤ c) = o) (w : World) : Calls Tryz.prog 41 #[.int .u8 f, .agg #[.int .u64 (x : Nat), .int .u64 (y : Nat)]] w fun r w' => r = .returned (.bool o) ∧ Below w.heap.size w w' := by
  have K1 := box (rk_class f hf x y n c hx hy hn hfit hc)
  have hd : decide ((8 : Int) ≤ (c : Int)) = o := by rw [← ho, decide_eq_decide]; omega
  clear hf hx hy hn hfit hc ho
  obtain ⟨Rb_0, B0⟩ := kopn1 w (Obj.cells #[.int .u64 (x : Nat), .int .u64 (y : Nat)] 26)
  go_enter Tryz.func41, Tryz.ntmps41
  go_wp2_with fail
  refine (K1.out _).mono ?_
  rintro r w1 ⟨rfl, b1⟩
  have B1 : Below w.heap.size w w1 := btr7 B0 b1
  have Rb_1 := heap_of b1 _ _ _ Rb_0
  clear b1 B0 Rb_0
  obtain ⟨cb_1_0, cb_1_1⟩ := cell7t Rb_1
  go_wp2
  go_ret
  exact ⟨rfl, B1⟩
def qt (f : Int) (n : Nat) : Nat := if kC f n = 8 then n + 2 ^ (pV f - 1) else n
end Go.Proofs.YtapikkbifdldfaaGreatDoor
