/-
  What the functions that the statement reaches return: part 13 (K9, KA, KD, KF, KU, V1, V2, V4).
-/
import Derived.Laws.CopyRow
import Derived.Test.YtbmhfcppaajgbaaGreatDoorRf12
namespace Go.Proofs.YtbmhfcppaajgbaaGreatDoor
set_option maxRecDepth 100000
open Go.RowKit WMath
set_option linter.unusedSimpArgs false
set_option linter.unusedVariables false

set_option maxRecDepth 100000 in
set_option maxHeartbeats 2000000 in
theorem rk_class (f : Int) (hf : Is4 f) (x y n c : Nat) (hx : x < 18446744073709551616) (hy : y < 18446744073709551616) (hn : y + 18446744073709551616 * x = n) (hfit : Fit f n) (hc : kC f n = c) (w : World) :
    Calls Tryz.prog 121 #[.int .u8 f, .agg #[.int .u64 (x : Nat), .int .u64 (y : Nat)]] w fun r w' => r = .returned (.int .u8 (c : Nat)) ∧ Below w.heap.size w w' := by
  have hat := cw_at 6
  have hz := cw6z
  have hff := cw6f
  have hs0 := st0
  have hcs : ∀ x, ((cw 6 x).size = 6) = True := fun x => eq_true (cw_size 6 x)
  have heq := eq6
  have hg := eqg6
  have hQ := Q_pos
  have f4 := is4_ok hf
  have tl := kT_lt (f := f) n
  have el := kE_le (f := f) n
  obtain ⟨g1, g2, g3, g4, g5, g6, g7⟩ := fm hf
  obtain ⟨p1, p2, p3, p4, p5, p6, p7, p8⟩ := pV_lim hf
  have p9 : IntKind.i64.wrap (fP f - 2) = ((pV f - 1 : Nat) : Int) := by rcases hf with rfl | rfl | rfl | rfl <;> decide +kernel
  obtain ⟨neg, hneg⟩ : ∃ q, kN f n = q := ⟨_, rfl⟩
  obtain ⟨e, he⟩ : ∃ q, kE f n = q := ⟨_, rfl⟩
  obtain ⟨t, ht⟩ : ∃ q, kT f n = q := ⟨_, rfl⟩
  have K1 := box (rk_fields f hf x y n e t neg hx hy hn hfit hneg he ht)
  have tQ : t < Q := by rw [← ht]; exact lt_Q7 (by rw [g1, Nat.add_mul] at g7; omega)
  obtain ⟨o, ho⟩ : ∃ q, oV f = q := ⟨_, rfl⟩
  obtain ⟨m, hm⟩ : ∃ q, fE f = q := ⟨_, rfl⟩
  obtain ⟨p, hp⟩ : ∃ q, fP f = q := ⟨_, rfl⟩
  have K2 : Box (∀ w, Calls Tryz.prog 141 #[.int .u8 f] w fun r w' => r = .returned (.int .i64 (o : Nat)) ∧ w' = w) := box (fun w => r_ones f m _ f4.1 hm (by rw [← ho, ← hm]; rcases hf with rfl | rfl | rfl | rfl <;> decide +kernel) w)
  have KP := box (r_precision f p f4.1 hp)
  obtain ⟨qb, hqb⟩ : ∃ q, decide (2 ^ (pV f - 1) ≤ t) = q := ⟨_, rfl⟩
  have K3 : Box (∀ w, Calls Tryz.prog 201 #[.agg (cw 6 t), .int .i64 ((pV f - 1 : Nat) : Int)] w fun r w' => r = .returned (.bool qb) ∧ Below w.heap.size w w') := box (fun w => by
    have h := rwbit_any t (pV f - 1) (by omega) w
    have e2 : t.testBit (pV f - 1) = qb := by
      rw [← hqb, Nat.testBit_eq_decide_div_mod_eq, decide_eq_decide]
      rw [ht] at tl
      rw [g3] at tl
      have hz := Nat.two_pow_pos (pV f - 1)
      by_cases h : 2 ^ (pV f - 1) ≤ t
      · have : t / 2 ^ (pV f - 1) = 1 := by rw [Nat.div_eq_iff hz]; omega
        rw [this]; simp [h]
      · rw [Nat.div_eq_of_lt (by omega)]; simp; omega
    rw [e2] at h
    exact h)
  unfold kC at hc
  rw [he, ht, hneg, ho] at hc
  have zf : (t = 0 → decide (t = 0) = true) ∧ (t ≠ 0 → decide (t = 0) = false) := ⟨fun h => decide_eq_true h, fun h => decide_eq_false h⟩
  obtain ⟨pm, hpm⟩ : ∃ q, pV f - 1 = q := ⟨_, rfl⟩
  rw [hpm] at K3 p9 hqb hc
  rw [hp] at p9
  clear tl el hf hx hy hn hfit hneg he ht ho hm hp p1 p2 p3 p4 p5 p6 p7 p8 g1 g2 g3 g4 g5 g6 g7 hpm f4
  by_cases c1 : e = o
  · have b1 : ((e : Int) == (o : Int)) = true := by rw [c1]; simp
    rw [if_pos c1] at hc
    by_cases c2 : t = 0
    · rw [if_pos c2] at hc
      subst c2
      cases neg
      · subst hc
        obtain ⟨Rb_0, B0⟩ := kopn1 w (Obj.cells #[.int .u64 (x : Nat), .int .u64 (y : Nat)] 25)
        go_enter Tryz.func121, Tryz.ntmps121
        go_wp2_with fail
        refine (K1.out _).mono ?_
        rintro r w1 ⟨rfl, b1⟩
        have B1 : Below w.heap.size w w1 := btr7 B0 b1
        have Rb_1 := heap_of b1 _ _ _ Rb_0
        clear b1 B0 Rb_0
        obtain ⟨cb_1_0, cb_1_1⟩ := cell7t Rb_1
        have S2 := box B1.size
        have Lb_2 : Box (w.heap.size < w1.heap.size) := box (Array.getElem?_eq_some_iff.1 Rb_1).1
        have Rt_2 := heap_alloc_last w1 (Obj.cells (cw 6 0) 74)
        have B2 := btr7 B1 (bal7 w1 (Obj.cells (cw 6 0) 74))
        have Rb_2 := heap_of (bal7 w1 (Obj.cells (cw 6 0) 74)) _ _ _ Rb_1
        clear B1 Rb_1 cb_1_0 cb_1_1
        obtain ⟨cb_2_0, cb_2_1⟩ := cell7t Rb_2
        have ct_2_0 := row_cell Rt_2
        go_wp2_with fail
        refine (K2.out _).mono ?_
        rintro r w' ⟨rfl, hw'⟩
        obtain rfl := hw'.symm
        go_wp2
        go_ret
        exact ⟨rfl, B2⟩
      · subst hc
        obtain ⟨Rb_0, B0⟩ := kopn1 w (Obj.cells #[.int .u64 (x : Nat), .int .u64 (y : Nat)] 25)
        go_enter Tryz.func121, Tryz.ntmps121
        go_wp2_with fail
        refine (K1.out _).mono ?_
        rintro r w1 ⟨rfl, b1⟩
        have B1 : Below w.heap.size w w1 := btr7 B0 b1
        have Rb_1 := heap_of b1 _ _ _ Rb_0
        clear b1 B0 Rb_0
        obtain ⟨cb_1_0, cb_1_1⟩ := cell7t Rb_1
        have S2 := box B1.size
        have Lb_2 : Box (w.heap.size < w1.heap.size) := box (Array.getElem?_eq_some_iff.1 Rb_1).1
        have Rt_2 := heap_alloc_last w1 (Obj.cells (cw 6 0) 74)
        have B2 := btr7 B1 (bal7 w1 (Obj.cells (cw 6 0) 74))
        have Rb_2 := heap_of (bal7 w1 (Obj.cells (cw 6 0) 74)) _ _ _ Rb_1
        clear B1 Rb_1 cb_1_0 cb_1_1
        obtain ⟨cb_2_0, cb_2_1⟩ := cell7t Rb_2
        have ct_2_0 := row_cell Rt_2
        go_wp2_with fail
        refine (K2.out _).mono ?_
        rintro r w' ⟨rfl, hw'⟩
        obtain rfl := hw'.symm
        go_wp2
        go_ret
        exact ⟨rfl, B2⟩
    · rw [if_neg c2] at hc
      have z1 := zf.2 c2
      cases qb
      · rw [if_neg (of_decide_eq_false hqb)] at hc
        subst hc
        obtain ⟨Rb_0, B0⟩ := kopn1 w (Obj.cells #[.int .u64 (x : Nat), .int .u64 (y : Nat)] 25)
        go_enter Tryz.func121, Tryz.ntmps121
        go_wp2_with fail
        refine (K1.out _).mono ?_
        rintro r w1 ⟨rfl, b1⟩
        have B1 : Below w.heap.size w w1 := btr7 B0 b1
        have Rb_1 := heap_of b1 _ _ _ Rb_0
        clear b1 B0 Rb_0
        obtain ⟨cb_1_0, cb_1_1⟩ := cell7t Rb_1
        have S2 := box B1.size
        have Lb_2 : Box (w.heap.size < w1.heap.size) := box (Array.getElem?_eq_some_iff.1 Rb_1).1
        have Rt_2 := heap_alloc_last w1 (Obj.cells (cw 6 t) 74)
        have B2 := btr7 B1 (bal7 w1 (Obj.cells (cw 6 t) 74))
        have Rb_2 := heap_of (bal7 w1 (Obj.cells (cw 6 t) 74)) _ _ _ Rb_1
        clear B1 Rb_1 cb_1_0 cb_1_1
        obtain ⟨cb_2_0, cb_2_1⟩ := cell7t Rb_2
        have ct_2_0 := row_cell Rt_2
        go_wp2_with fail
        refine (K2.out _).mono ?_
        rintro r w' ⟨rfl, hw'⟩
        obtain rfl := hw'.symm
        go_wp2_with fail
        obtain ⟨F, hF1, hF2⟩ := below_fun (w1.alloc (Obj.cells (cw 6 t) 74))
        have fb_0 := fun u => cell7 (heap_of (hF1 u) _ _ _ Rb_2) 0 _ rfl
        have fb_1 := fun u => cell7 (heap_of (hF1 u) _ _ _ Rb_2) 1 _ rfl
        have ft_0 := fun u => row_cell (heap_of (hF1 u) _ _ _ Rt_2)
        refine wp_region_below F hF2 (by kernel_rfl) (by kernel_rfl) ?_
        repeat first | go_big_quiet_step (first | (go_at_call 106; exact quietF0 (KP.out _)) | (go_at_call 201; exact quietF hF1 hF2 (K3.out _)) | fail) | quiet_step (first | (go_at_call 106; exact quietF0 (KP.out _)) | (go_at_call 201; exact quietF hF1 hF2 (K3.out _)) | fail)
        refine wpQuiet_nil ?_
        rintro _ ⟨uW, rfl⟩
        have B3 := btr7 B2 (hF1 uW)
        have Rb_3 := heap_of (hF1 uW) _ _ _ Rb_2
        have Rt_3 := heap_of (hF1 uW) _ _ _ Rt_2
        obtain ⟨w3, hw⟩ : ∃ V, F uW = V := ⟨_, rfl⟩
        rw [hw] at B3 Rb_3 Rt_3
        try rw [hw]
        clear hw hF1 hF2 B2 fb_0 fb_1 ft_0 Rb_2 cb_2_0 cb_2_1 Rt_2 ct_2_0
        clear F
        obtain ⟨cb_3_0, cb_3_1⟩ := cell7t Rb_3
        have ct_3_0 := row_cell Rt_3
        go_wp2
        go_ret
        exact ⟨rfl, B3⟩
      · rw [if_pos (of_decide_eq_true hqb)] at hc
        subst hc
        obtain ⟨Rb_0, B0⟩ := kopn1 w (Obj.cells #[.int .u64 (x : Nat), .int .u64 (y : Nat)] 25)
        go_enter Tryz.func121, Tryz.ntmps121
        go_wp2_with fail
        refine (K1.out _).mono ?_
        rintro r w1 ⟨rfl, b1⟩
        have B1 : Below w.heap.size w w1 := btr7 B0 b1
        have Rb_1 := heap_of b1 _ _ _ Rb_0
        clear b1 B0 Rb_0
        obtain ⟨cb_1_0, cb_1_1⟩ := cell7t Rb_1
        have S2 := box B1.size
        have Lb_2 : Box (w.heap.size < w1.heap.size) := box (Array.getElem?_eq_some_iff.1 Rb_1).1
        have Rt_2 := heap_alloc_last w1 (Obj.cells (cw 6 t) 74)
        have B2 := btr7 B1 (bal7 w1 (Obj.cells (cw 6 t) 74))
        have Rb_2 := heap_of (bal7 w1 (Obj.cells (cw 6 t) 74)) _ _ _ Rb_1
        clear B1 Rb_1 cb_1_0 cb_1_1
        obtain ⟨cb_2_0, cb_2_1⟩ := cell7t Rb_2
        have ct_2_0 := row_cell Rt_2
        go_wp2_with fail
        refine (K2.out _).mono ?_
        rintro r w' ⟨rfl, hw'⟩
        obtain rfl := hw'.symm
        go_wp2_with fail
        obtain ⟨F, hF1, hF2⟩ := below_fun (w1.alloc (Obj.cells (cw 6 t) 74))
        have fb_0 := fun u => cell7 (heap_of (hF1 u) _ _ _ Rb_2) 0 _ rfl
        have fb_1 := fun u => cell7 (heap_of (hF1 u) _ _ _ Rb_2) 1 _ rfl
        have ft_0 := fun u => row_cell (heap_of (hF1 u) _ _ _ Rt_2)
        refine wp_region_below F hF2 (by kernel_rfl) (by kernel_rfl) ?_
        repeat first | go_big_quiet_step (first | (go_at_call 106; exact quietF0 (KP.out _)) | (go_at_call 201; exact quietF hF1 hF2 (K3.out _)) | fail) | quiet_step (first | (go_at_call 106; exact quietF0 (KP.out _)) | (go_at_call 201; exact quietF hF1 hF2 (K3.out _)) | fail)
        refine wpQuiet_nil ?_
        rintro _ ⟨uW, rfl⟩
        have B3 := btr7 B2 (hF1 uW)
        have Rb_3 := heap_of (hF1 uW) _ _ _ Rb_2
        have Rt_3 := heap_of (hF1 uW) _ _ _ Rt_2
        obtain ⟨w3, hw⟩ : ∃ V, F uW = V := ⟨_, rfl⟩
        rw [hw] at B3 Rb_3 Rt_3
        try rw [hw]
        clear hw hF1 hF2 B2 fb_0 fb_1 ft_0 Rb_2 cb_2_0 cb_2_1 Rt_2 ct_2_0
        clear F
        obtain ⟨cb_3_0, cb_3_1⟩ := cell7t Rb_3
        have ct_3_0 := row_cell Rt_3
        go_wp2
        go_ret
        exact ⟨rfl, B3⟩
  · have b1 : ((e : Int) == (o : Int)) = false := by simp; omega
    rw [if_neg c1] at hc
    by_cases c2 : e = 0
    · subst c2
      rw [if_neg (by simp)] at hc
      by_cases c3 : t = 0
      · subst c3
        rw [if_neg (by simp)] at hc
        cases neg
        · subst hc
          obtain ⟨Rb_0, B0⟩ := kopn1 w (Obj.cells #[.int .u64 (x : Nat), .int .u64 (y : Nat)] 25)
          go_enter Tryz.func121, Tryz.ntmps121
          go_wp2_with fail
          refine (K1.out _).mono ?_
          rintro r w1 ⟨rfl, b1⟩
          have B1 : Below w.heap.size w w1 := btr7 B0 b1
          have Rb_1 := heap_of b1 _ _ _ Rb_0
          clear b1 B0 Rb_0
          obtain ⟨cb_1_0, cb_1_1⟩ := cell7t Rb_1
          have S2 := box B1.size
          have Lb_2 : Box (w.heap.size < w1.heap.size) := box (Array.getElem?_eq_some_iff.1 Rb_1).1
          have Rt_2 := heap_alloc_last w1 (Obj.cells (cw 6 0) 74)
          have B2 := btr7 B1 (bal7 w1 (Obj.cells (cw 6 0) 74))
          have Rb_2 := heap_of (bal7 w1 (Obj.cells (cw 6 0) 74)) _ _ _ Rb_1
          clear B1 Rb_1 cb_1_0 cb_1_1
          obtain ⟨cb_2_0, cb_2_1⟩ := cell7t Rb_2
          have ct_2_0 := row_cell Rt_2
          go_wp2_with fail
          refine (K2.out _).mono ?_
          rintro r w' ⟨rfl, hw'⟩
          obtain rfl := hw'.symm
          go_wp2
          go_ret
          exact ⟨rfl, B2⟩
        · subst hc
          obtain ⟨Rb_0, B0⟩ := kopn1 w (Obj.cells #[.int .u64 (x : Nat), .int .u64 (y : Nat)] 25)
          go_enter Tryz.func121, Tryz.ntmps121
          go_wp2_with fail
          refine (K1.out _).mono ?_
          rintro r w1 ⟨rfl, b1⟩
          have B1 : Below w.heap.size w w1 := btr7 B0 b1
          have Rb_1 := heap_of b1 _ _ _ Rb_0
          clear b1 B0 Rb_0
          obtain ⟨cb_1_0, cb_1_1⟩ := cell7t Rb_1
          have S2 := box B1.size
          have Lb_2 : Box (w.heap.size < w1.heap.size) := box (Array.getElem?_eq_some_iff.1 Rb_1).1
          have Rt_2 := heap_alloc_last w1 (Obj.cells (cw 6 0) 74)
          have B2 := btr7 B1 (bal7 w1 (Obj.cells (cw 6 0) 74))
          have Rb_2 := heap_of (bal7 w1 (Obj.cells (cw 6 0) 74)) _ _ _ Rb_1
          clear B1 Rb_1 cb_1_0 cb_1_1
          obtain ⟨cb_2_0, cb_2_1⟩ := cell7t Rb_2
          have ct_2_0 := row_cell Rt_2
          go_wp2_with fail
          refine (K2.out _).mono ?_
          rintro r w' ⟨rfl, hw'⟩
          obtain rfl := hw'.symm
          go_wp2
          go_ret
          exact ⟨rfl, B2⟩
      · have z1 := zf.2 c3
        rw [if_pos (by simpa using c3)] at hc
        cases neg
        · subst hc
          obtain ⟨Rb_0, B0⟩ := kopn1 w (Obj.cells #[.int .u64 (x : Nat), .int .u64 (y : Nat)] 25)
          go_enter Tryz.func121, Tryz.ntmps121
          go_wp2_with fail
          refine (K1.out _).mono ?_
          rintro r w1 ⟨rfl, b1⟩
          have B1 : Below w.heap.size w w1 := btr7 B0 b1
          have Rb_1 := heap_of b1 _ _ _ Rb_0
          clear b1 B0 Rb_0
          obtain ⟨cb_1_0, cb_1_1⟩ := cell7t Rb_1
          have S2 := box B1.size
          have Lb_2 : Box (w.heap.size < w1.heap.size) := box (Array.getElem?_eq_some_iff.1 Rb_1).1
          have Rt_2 := heap_alloc_last w1 (Obj.cells (cw 6 t) 74)
          have B2 := btr7 B1 (bal7 w1 (Obj.cells (cw 6 t) 74))
          have Rb_2 := heap_of (bal7 w1 (Obj.cells (cw 6 t) 74)) _ _ _ Rb_1
          clear B1 Rb_1 cb_1_0 cb_1_1
          obtain ⟨cb_2_0, cb_2_1⟩ := cell7t Rb_2
          have ct_2_0 := row_cell Rt_2
          go_wp2_with fail
          refine (K2.out _).mono ?_
          rintro r w' ⟨rfl, hw'⟩
          obtain rfl := hw'.symm
          go_wp2
          go_ret
          exact ⟨rfl, B2⟩
        · subst hc
          obtain ⟨Rb_0, B0⟩ := kopn1 w (Obj.cells #[.int .u64 (x : Nat), .int .u64 (y : Nat)] 25)
          go_enter Tryz.func121, Tryz.ntmps121
          go_wp2_with fail
          refine (K1.out _).mono ?_
          rintro r w1 ⟨rfl, b1⟩
          have B1 : Below w.heap.size w w1 := btr7 B0 b1
          have Rb_1 := heap_of b1 _ _ _ Rb_0
          clear b1 B0 Rb_0
          obtain ⟨cb_1_0, cb_1_1⟩ := cell7t Rb_1
          have S2 := box B1.size
          have Lb_2 : Box (w.heap.size < w1.heap.size) := box (Array.getElem?_eq_some_iff.1 Rb_1).1
          have Rt_2 := heap_alloc_last w1 (Obj.cells (cw 6 t) 74)
          have B2 := btr7 B1 (bal7 w1 (Obj.cells (cw 6 t) 74))
          have Rb_2 := heap_of (bal7 w1 (Obj.cells (cw 6 t) 74)) _ _ _ Rb_1
          clear B1 Rb_1 cb_1_0 cb_1_1
          obtain ⟨cb_2_0, cb_2_1⟩ := cell7t Rb_2
          have ct_2_0 := row_cell Rt_2
          go_wp2_with fail
          refine (K2.out _).mono ?_
          rintro r w' ⟨rfl, hw'⟩
          obtain rfl := hw'.symm
          go_wp2
          go_ret
          exact ⟨rfl, B2⟩
    · have b2 : ((e : Int) != 0) = true := by simp; omega
      rw [if_pos (by simpa using c2)] at hc
      cases neg
      · subst hc
        obtain ⟨Rb_0, B0⟩ := kopn1 w (Obj.cells #[.int .u64 (x : Nat), .int .u64 (y : Nat)] 25)
        go_enter Tryz.func121, Tryz.ntmps121
        go_wp2_with fail
        refine (K1.out _).mono ?_
        rintro r w1 ⟨rfl, b1⟩
        have B1 : Below w.heap.size w w1 := btr7 B0 b1
        have Rb_1 := heap_of b1 _ _ _ Rb_0
        clear b1 B0 Rb_0
        obtain ⟨cb_1_0, cb_1_1⟩ := cell7t Rb_1
        have S2 := box B1.size
        have Lb_2 : Box (w.heap.size < w1.heap.size) := box (Array.getElem?_eq_some_iff.1 Rb_1).1
        have Rt_2 := heap_alloc_last w1 (Obj.cells (cw 6 t) 74)
        have B2 := btr7 B1 (bal7 w1 (Obj.cells (cw 6 t) 74))
        have Rb_2 := heap_of (bal7 w1 (Obj.cells (cw 6 t) 74)) _ _ _ Rb_1
        clear B1 Rb_1 cb_1_0 cb_1_1
        obtain ⟨cb_2_0, cb_2_1⟩ := cell7t Rb_2
        have ct_2_0 := row_cell Rt_2
        go_wp2_with fail
        refine (K2.out _).mono ?_
        rintro r w' ⟨rfl, hw'⟩
        obtain rfl := hw'.symm
        go_wp2
        go_ret
        exact ⟨rfl, B2⟩
      · subst hc
        obtain ⟨Rb_0, B0⟩ := kopn1 w (Obj.cells #[.int .u64 (x : Nat), .int .u64 (y : Nat)] 25)
        go_enter Tryz.func121, Tryz.ntmps121
        go_wp2_with fail
        refine (K1.out _).mono ?_
        rintro r w1 ⟨rfl, b1⟩
        have B1 : Below w.heap.size w w1 := btr7 B0 b1
        have Rb_1 := heap_of b1 _ _ _ Rb_0
        clear b1 B0 Rb_0
        obtain ⟨cb_1_0, cb_1_1⟩ := cell7t Rb_1
        have S2 := box B1.size
        have Lb_2 : Box (w.heap.size < w1.heap.size) := box (Array.getElem?_eq_some_iff.1 Rb_1).1
        have Rt_2 := heap_alloc_last w1 (Obj.cells (cw 6 t) 74)
        have B2 := btr7 B1 (bal7 w1 (Obj.cells (cw 6 t) 74))
        have Rb_2 := heap_of (bal7 w1 (Obj.cells (cw 6 t) 74)) _ _ _ Rb_1
        clear B1 Rb_1 cb_1_0 cb_1_1
        obtain ⟨cb_2_0, cb_2_1⟩ := cell7t Rb_2
        have ct_2_0 := row_cell Rt_2
        go_wp2_with fail
        refine (K2.out _).mono ?_
        rintro r w' ⟨rfl, hw'⟩
        obtain rfl := hw'.symm
        go_wp2
        go_ret
        exact ⟨rfl, B2⟩
end Go.Proofs.YtbmhfcppaajgbaaGreatDoor
namespace Go.Proofs.YtbmhfcppaajgbaaGreatDoor
set_option maxRecDepth 100000
open Go.RowKit WMath
set_option linter.unusedSimpArgs false
set_option linter.unusedVariables false

theorem rk_enc (f : Int) (neg : Bool) (e T v a b : Nat) (hf : Is4 f) (hT : T < 2 ^ pV f) (hev : e ≤ oV f) (hv : enc7 f neg e T = v) (hab : bv7 v = (a, b)) (w : World) :
    Calls Tryz.prog 140 #[.int .u8 f, .bool neg, .int .i64 (e : Nat), .agg (cw 6 T)] w fun r w' => r = .returned (.agg #[.int .u64 (a : Nat), .int .u64 (b : Nat)]) ∧ Below w.heap.size w w' := by
  have h := r_enc f neg e T v hf (by have := (fm hf).2.2.2.2.2.1; omega) hT hv hev w
  rw [hab] at h
  exact h
end Go.Proofs.YtbmhfcppaajgbaaGreatDoor
namespace Go.Proofs.YtbmhfcppaajgbaaGreatDoor
set_option maxRecDepth 100000
open Go.RowKit WMath
set_option linter.unusedSimpArgs false
set_option linter.unusedVariables false

theorem cnt_k8 {i : Nat} (h : i < 384) : cnt6 (i : Int) = i := by unfold cnt6; omega
end Go.Proofs.YtbmhfcppaajgbaaGreatDoor
namespace Go.Proofs.YtbmhfcppaajgbaaGreatDoor
set_option maxRecDepth 100000
open Go.RowKit WMath
set_option linter.unusedSimpArgs false
set_option linter.unusedVariables false

theorem lt_128 {s : Nat} (hs : s < Q) : (wd s 0 + 18446744073709551616 * wd s 1 = s) ↔ s < 340282366920938463463374607431768211456 := by
  constructor
  · intro h
    have := wd_lt s 0
    have := wd_lt s 1
    omega
  · intro h
    rw [(wd01 h).1, (wd01 h).2]; omega
theorem ktobits_one (s u v : Nat) (hs : s < Q) (huv : bv7 (toB s) = (u, v)) : ∃ o, ∀ w, Calls Tryz.prog 188 #[.agg (cw 6 s)] w fun r w' => r = .returned (.tuple #[.agg #[.int .u64 (u : Nat), .int .u64 (v : Nat)], .bool o]) ∧ Below w.heap.size w w' := by
  unfold toB bv7 at huv
  by_cases h : s < 340282366920938463463374607431768211456
  · rw [if_pos h] at huv
    injection huv with h1 h2
    refine ⟨true, fun w => ?_⟩
    have k := wtobits_yes s hs ((lt_128 hs).2 h) w
    rw [(wd01 h).1, (wd01 h).2, h1, h2] at k
    exact k
  · rw [if_neg h] at huv
    injection huv with h1 h2
    refine ⟨false, fun w => ?_⟩
    have k := wtobits_no s hs (fun e => h ((lt_128 hs).1 e)) w
    rw [← h1, ← h2]
    exact k
theorem toB_lt (s : Nat) : toB s < 340282366920938463463374607431768211456 := by unfold toB; split <;> omega
theorem plN_lt (f : Int) (u : Nat) : plN f u < 340282366920938463463374607431768211456 := by
  unfold plN
  split
  · exact Nat.mod_lt _ (by decide)
  · exact Nat.lt_trans (Nat.mod_lt _ (by decide)) (by decide)
set_option maxHeartbeats 1000000 in
theorem kfinite_is (f : Int) (hf : Is4 f) (s a b : Nat) (X : Int) (hs : s < Q) (x1 : -9223372036854775808 ≤ X) (x2 : X ≤ 9223372036854775807) (hv : bv7 (fb f s X) = (a, b)) (w : World) (hT : FAt w) :
    Calls Tryz.prog 136 #[.int .u8 f, .agg (cw 6 s), .int .i64 X] w fun r w' => r = .returned (.agg #[.int .u64 (a : Nat), .int .u64 (b : Nat)]) ∧ Below w.heap.size w w' := by
  have hat := cw_at 6
  have hz := cw6z
  have hff := cw6f
  have hs0 := st0
  have hcs : ∀ x, ((cw 6 x).size = 6) = True := fun x => eq_true (cw_size 6 x)
  obtain ⟨u, v, huv⟩ : ∃ u v, bv7 (toB s) = (u, v) := ⟨_, _, rfl⟩
  obtain ⟨o, ho⟩ := ktobits_one s u v hs huv
  have K1 := box ho
  obtain ⟨u1, v1, uv⟩ := bv_lt (toB_lt s) huv
  have K2 := box (fun w hT => kleast_is f hf (lx f) rfl w hT)
  obtain ⟨_, _, _, p4, _⟩ := pV_lim hf
  obtain ⟨_, _, l3, l4, _⟩ := lx_lim hf
  have K3 := box (fun w hT => kfw f hf (pV f) rfl w hT)
  obtain ⟨c, d, hcd⟩ : ∃ u v, bv7 (plN f (u64w (X - lx f))) = (u, v) := ⟨_, _, rfl⟩
  have ul : u64w (X - lx f) < 18446744073709551616 := by unfold u64w; omega
  have K4 := box (kplaced_is (u64w (X - lx f)) (pV f) c d ul p4 (by rw [plG_is hf]; exact hcd))
  obtain ⟨c1, d1, cd⟩ := bv_lt (plN_lt f _) hcd
  have K5 := box (kplus_is c d u v _ _ a b c1 d1 cd u1 v1 uv hv)
  have e1 : IntKind.u64.wrap (IntKind.i64.wrap (X - lx f)) = (u64w (X - lx f) : Int) := by
    unfold u64w
    rw [IntKind.wrap_u64, IntKind.wrap_i64]
    omega
  obtain ⟨L, hL⟩ : ∃ q, lx f = q := ⟨_, rfl⟩
  rw [hL] at K2 K4 e1
  obtain ⟨U, hU⟩ : ∃ q, u64w (X - L) = q := ⟨_, rfl⟩
  rw [hU] at K4 e1
  obtain ⟨P, hP⟩ : ∃ q, pV f = q := ⟨_, rfl⟩
  rw [hP] at K3 K4
  have TT := box hT
  clear hT hf hs x1 x2 hv huv ho u1 v1 uv p4 l3 l4 hcd ul c1 d1 cd hL hU hP
  obtain ⟨Rs_0, Rz_0, B0⟩ := kopn2 w (Obj.cells (cw 6 s) 74) (Obj.cells #[.int .u64 0, .int .u64 0] 25)
  go_enter Tryz.func136, Tryz.ntmps136
  go_wp2_with fail
  refine (K1.out _).mono ?_
  rintro r w1 ⟨rfl, b1⟩
  have B1 : Below w.heap.size w w1 := btr7 B0 b1
  have Rs_1 := heap_of b1 _ _ _ Rs_0
  have Rz_1 := heap_of b1 _ _ _ Rz_0
  clear b1 B0 Rs_0 Rz_0
  have cs_1_0 := row_cell Rs_1
  obtain ⟨cz_1_0, cz_1_1⟩ := cell7t Rz_1
  have S2 := box B1.size
  have Ls_2 : Box (w.heap.size < w1.heap.size) := box (Array.getElem?_eq_some_iff.1 Rs_1).1
  have Lz_2 : Box (w.heap.size + 1 < w1.heap.size) := box (Array.getElem?_eq_some_iff.1 Rz_1).1
  have Rlow_2 := heap_alloc_last w1 (Obj.cells #[.int .u64 (u : Nat), .int .u64 (v : Nat)] 25)
  have B2 := btr7 B1 (bal7 w1 (Obj.cells #[.int .u64 (u : Nat), .int .u64 (v : Nat)] 25))
  have Rs_2 := heap_of (bal7 w1 (Obj.cells #[.int .u64 (u : Nat), .int .u64 (v : Nat)] 25)) _ _ _ Rs_1
  have Rz_2 := heap_of (bal7 w1 (Obj.cells #[.int .u64 (u : Nat), .int .u64 (v : Nat)] 25)) _ _ _ Rz_1
  clear B1 Rs_1 cs_1_0 Rz_1 cz_1_0 cz_1_1
  have cs_2_0 := row_cell Rs_2
  obtain ⟨cz_2_0, cz_2_1⟩ := cell7t Rz_2
  obtain ⟨clow_2_0, clow_2_1⟩ := cell7t Rlow_2
  have sS : Box (∀ W W1 : World, (Below w.heap.size w W ∧ W.heap[w.heap.size]? = some (Obj.cells (cw 6 s) 74) ∧ W.heap[w1.heap.size]? = some (Obj.cells #[.int .u64 (u : Nat), .int .u64 (v : Nat)] 25) ∧ W.cell? ⟨w.heap.size, 0, none⟩ = some (.int .u64 ((wd s 0 : Nat) : Int)) ∧ W.cell? ⟨w.heap.size, 1, none⟩ = some (.int .u64 ((wd s 1 : Nat) : Int)) ∧ W.cell? ⟨w.heap.size, 2, none⟩ = some (.int .u64 ((wd s 2 : Nat) : Int)) ∧ W.cell? ⟨w.heap.size, 3, none⟩ = some (.int .u64 ((wd s 3 : Nat) : Int)) ∧ W.cell? ⟨w.heap.size, 4, none⟩ = some (.int .u64 ((wd s 4 : Nat) : Int)) ∧ W.cell? ⟨w.heap.size, 5, none⟩ = some (.int .u64 ((wd s 5 : Nat) : Int)) ∧ W.cell? ⟨w1.heap.size, 0, none⟩ = some (.int .u64 (u : Nat)) ∧ W.cell? ⟨w1.heap.size, 1, none⟩ = some (.int .u64 (v : Nat))) → Below W.heap.size W W1 → (Below w.heap.size w W1 ∧ W1.heap[w.heap.size]? = some (Obj.cells (cw 6 s) 74) ∧ W1.heap[w1.heap.size]? = some (Obj.cells #[.int .u64 (u : Nat), .int .u64 (v : Nat)] 25) ∧ W1.cell? ⟨w.heap.size, 0, none⟩ = some (.int .u64 ((wd s 0 : Nat) : Int)) ∧ W1.cell? ⟨w.heap.size, 1, none⟩ = some (.int .u64 ((wd s 1 : Nat) : Int)) ∧ W1.cell? ⟨w.heap.size, 2, none⟩ = some (.int .u64 ((wd s 2 : Nat) : Int)) ∧ W1.cell? ⟨w.heap.size, 3, none⟩ = some (.int .u64 ((wd s 3 : Nat) : Int)) ∧ W1.cell? ⟨w.heap.size, 4, none⟩ = some (.int .u64 ((wd s 4 : Nat) : Int)) ∧ W1.cell? ⟨w.heap.size, 5, none⟩ = some (.int .u64 ((wd s 5 : Nat) : Int)) ∧ W1.cell? ⟨w1.heap.size, 0, none⟩ = some (.int .u64 (u : Nat)) ∧ W1.cell? ⟨w1.heap.size, 1, none⟩ = some (.int .u64 (v : Nat)))) := box (fun W W1 h b => ⟨btr7 h.1 b, heap_of b _ _ _ h.2.1, heap_of b _ _ _ h.2.2.1, row_cell (heap_of b _ _ _ h.2.1) 0 (by decide), row_cell (heap_of b _ _ _ h.2.1) 1 (by decide), row_cell (heap_of b _ _ _ h.2.1) 2 (by decide), row_cell (heap_of b _ _ _ h.2.1) 3 (by decide), row_cell (heap_of b _ _ _ h.2.1) 4 (by decide), row_cell (heap_of b _ _ _ h.2.1) 5 (by decide), cell7 (heap_of b _ _ _ h.2.2.1) 0 _ rfl, cell7 (heap_of b _ _ _ h.2.2.1) 1 _ rfl⟩)
  have sT : Box (∀ (W : World) (xA xB : Value), (Below w.heap.size w W ∧ W.heap[w.heap.size]? = some (Obj.cells (cw 6 s) 74) ∧ W.heap[w1.heap.size]? = some (Obj.cells #[.int .u64 (u : Nat), .int .u64 (v : Nat)] 25) ∧ W.cell? ⟨w.heap.size, 0, none⟩ = some (.int .u64 ((wd s 0 : Nat) : Int)) ∧ W.cell? ⟨w.heap.size, 1, none⟩ = some (.int .u64 ((wd s 1 : Nat) : Int)) ∧ W.cell? ⟨w.heap.size, 2, none⟩ = some (.int .u64 ((wd s 2 : Nat) : Int)) ∧ W.cell? ⟨w.heap.size, 3, none⟩ = some (.int .u64 ((wd s 3 : Nat) : Int)) ∧ W.cell? ⟨w.heap.size, 4, none⟩ = some (.int .u64 ((wd s 4 : Nat) : Int)) ∧ W.cell? ⟨w.heap.size, 5, none⟩ = some (.int .u64 ((wd s 5 : Nat) : Int)) ∧ W.cell? ⟨w1.heap.size, 0, none⟩ = some (.int .u64 (u : Nat)) ∧ W.cell? ⟨w1.heap.size, 1, none⟩ = some (.int .u64 (v : Nat))) → (Below w.heap.size w ((W.setCell ⟨w.heap.size + 1, 0, none⟩ xA).setCell ⟨w.heap.size + 1, 1, none⟩ xB) ∧ ((W.setCell ⟨w.heap.size + 1, 0, none⟩ xA).setCell ⟨w.heap.size + 1, 1, none⟩ xB).heap[w.heap.size]? = some (Obj.cells (cw 6 s) 74) ∧ ((W.setCell ⟨w.heap.size + 1, 0, none⟩ xA).setCell ⟨w.heap.size + 1, 1, none⟩ xB).heap[w1.heap.size]? = some (Obj.cells #[.int .u64 (u : Nat), .int .u64 (v : Nat)] 25) ∧ ((W.setCell ⟨w.heap.size + 1, 0, none⟩ xA).setCell ⟨w.heap.size + 1, 1, none⟩ xB).cell? ⟨w.heap.size, 0, none⟩ = some (.int .u64 ((wd s 0 : Nat) : Int)) ∧ ((W.setCell ⟨w.heap.size + 1, 0, none⟩ xA).setCell ⟨w.heap.size + 1, 1, none⟩ xB).cell? ⟨w.heap.size, 1, none⟩ = some (.int .u64 ((wd s 1 : Nat) : Int)) ∧ ((W.setCell ⟨w.heap.size + 1, 0, none⟩ xA).setCell ⟨w.heap.size + 1, 1, none⟩ xB).cell? ⟨w.heap.size, 2, none⟩ = some (.int .u64 ((wd s 2 : Nat) : Int)) ∧ ((W.setCell ⟨w.heap.size + 1, 0, none⟩ xA).setCell ⟨w.heap.size + 1, 1, none⟩ xB).cell? ⟨w.heap.size, 3, none⟩ = some (.int .u64 ((wd s 3 : Nat) : Int)) ∧ ((W.setCell ⟨w.heap.size + 1, 0, none⟩ xA).setCell ⟨w.heap.size + 1, 1, none⟩ xB).cell? ⟨w.heap.size, 4, none⟩ = some (.int .u64 ((wd s 4 : Nat) : Int)) ∧ ((W.setCell ⟨w.heap.size + 1, 0, none⟩ xA).setCell ⟨w.heap.size + 1, 1, none⟩ xB).cell? ⟨w.heap.size, 5, none⟩ = some (.int .u64 ((wd s 5 : Nat) : Int)) ∧ ((W.setCell ⟨w.heap.size + 1, 0, none⟩ xA).setCell ⟨w.heap.size + 1, 1, none⟩ xB).cell? ⟨w1.heap.size, 0, none⟩ = some (.int .u64 (u : Nat)) ∧ ((W.setCell ⟨w.heap.size + 1, 0, none⟩ xA).setCell ⟨w.heap.size + 1, 1, none⟩ xB).cell? ⟨w1.heap.size, 1, none⟩ = some (.int .u64 (v : Nat)))) := box (fun W xA xB h => ⟨set2_below h.1 (by first | exact Nat.le_refl _ | omega | (have := S2.out; have := Ls_2.out; have := Lz_2.out; omega)) xA xB, (setCell_other (by first | omega | (have := S2.out; have := Ls_2.out; have := Lz_2.out; omega))).trans ((setCell_other (by first | omega | (have := S2.out; have := Ls_2.out; have := Lz_2.out; omega))).trans h.2.1), (setCell_other (by first | omega | (have := S2.out; have := Ls_2.out; have := Lz_2.out; omega))).trans ((setCell_other (by first | omega | (have := S2.out; have := Ls_2.out; have := Lz_2.out; omega))).trans h.2.2.1), row_cell ((setCell_other (by first | omega | (have := S2.out; have := Ls_2.out; have := Lz_2.out; omega))).trans ((setCell_other (by first | omega | (have := S2.out; have := Ls_2.out; have := Lz_2.out; omega))).trans h.2.1)) 0 (by decide), row_cell ((setCell_other (by first | omega | (have := S2.out; have := Ls_2.out; have := Lz_2.out; omega))).trans ((setCell_other (by first | omega | (have := S2.out; have := Ls_2.out; have := Lz_2.out; omega))).trans h.2.1)) 1 (by decide), row_cell ((setCell_other (by first | omega | (have := S2.out; have := Ls_2.out; have := Lz_2.out; omega))).trans ((setCell_other (by first | omega | (have := S2.out; have := Ls_2.out; have := Lz_2.out; omega))).trans h.2.1)) 2 (by decide), row_cell ((setCell_other (by first | omega | (have := S2.out; have := Ls_2.out; have := Lz_2.out; omega))).trans ((setCell_other (by first | omega | (have := S2.out; have := Ls_2.out; have := Lz_2.out; omega))).trans h.2.1)) 3 (by decide), row_cell ((setCell_other (by first | omega | (have := S2.out; have := Ls_2.out; have := Lz_2.out; omega))).trans ((setCell_other (by first | omega | (have := S2.out; have := Ls_2.out; have := Lz_2.out; omega))).trans h.2.1)) 4 (by decide), row_cell ((setCell_other (by first | omega | (have := S2.out; have := Ls_2.out; have := Lz_2.out; omega))).trans ((setCell_other (by first | omega | (have := S2.out; have := Ls_2.out; have := Lz_2.out; omega))).trans h.2.1)) 5 (by decide), cell7 ((setCell_other (by first | omega | (have := S2.out; have := Ls_2.out; have := Lz_2.out; omega))).trans ((setCell_other (by first | omega | (have := S2.out; have := Ls_2.out; have := Lz_2.out; omega))).trans h.2.2.1)) 0 _ rfl, cell7 ((setCell_other (by first | omega | (have := S2.out; have := Ls_2.out; have := Lz_2.out; omega))).trans ((setCell_other (by first | omega | (have := S2.out; have := Ls_2.out; have := Lz_2.out; omega))).trans h.2.2.1)) 1 _ rfl⟩)
  have s0 : Below w.heap.size w ((w1.alloc (Obj.cells #[.int .u64 (u : Nat), .int .u64 (v : Nat)] 25))).drew ∧ ((w1.alloc (Obj.cells #[.int .u64 (u : Nat), .int .u64 (v : Nat)] 25))).drew.heap[w.heap.size]? = some (Obj.cells (cw 6 s) 74) ∧ ((w1.alloc (Obj.cells #[.int .u64 (u : Nat), .int .u64 (v : Nat)] 25))).drew.heap[w1.heap.size]? = some (Obj.cells #[.int .u64 (u : Nat), .int .u64 (v : Nat)] 25) ∧ ((w1.alloc (Obj.cells #[.int .u64 (u : Nat), .int .u64 (v : Nat)] 25))).drew.cell? ⟨w.heap.size, 0, none⟩ = some (.int .u64 ((wd s 0 : Nat) : Int)) ∧ ((w1.alloc (Obj.cells #[.int .u64 (u : Nat), .int .u64 (v : Nat)] 25))).drew.cell? ⟨w.heap.size, 1, none⟩ = some (.int .u64 ((wd s 1 : Nat) : Int)) ∧ ((w1.alloc (Obj.cells #[.int .u64 (u : Nat), .int .u64 (v : Nat)] 25))).drew.cell? ⟨w.heap.size, 2, none⟩ = some (.int .u64 ((wd s 2 : Nat) : Int)) ∧ ((w1.alloc (Obj.cells #[.int .u64 (u : Nat), .int .u64 (v : Nat)] 25))).drew.cell? ⟨w.heap.size, 3, none⟩ = some (.int .u64 ((wd s 3 : Nat) : Int)) ∧ ((w1.alloc (Obj.cells #[.int .u64 (u : Nat), .int .u64 (v : Nat)] 25))).drew.cell? ⟨w.heap.size, 4, none⟩ = some (.int .u64 ((wd s 4 : Nat) : Int)) ∧ ((w1.alloc (Obj.cells #[.int .u64 (u : Nat), .int .u64 (v : Nat)] 25))).drew.cell? ⟨w.heap.size, 5, none⟩ = some (.int .u64 ((wd s 5 : Nat) : Int)) ∧ ((w1.alloc (Obj.cells #[.int .u64 (u : Nat), .int .u64 (v : Nat)] 25))).drew.cell? ⟨w1.heap.size, 0, none⟩ = some (.int .u64 (u : Nat)) ∧ ((w1.alloc (Obj.cells #[.int .u64 (u : Nat), .int .u64 (v : Nat)] 25))).drew.cell? ⟨w1.heap.size, 1, none⟩ = some (.int .u64 (v : Nat)) := ⟨B2.drew, Rs_2, Rlow_2, row_cell (Rs_2) 0 (by decide), row_cell (Rs_2) 1 (by decide), row_cell (Rs_2) 2 (by decide), row_cell (Rs_2) 3 (by decide), row_cell (Rs_2) 4 (by decide), row_cell (Rs_2) 5 (by decide), cell7 (Rlow_2) 0 _ rfl, cell7 (Rlow_2) 1 _ rfl⟩
  have rz : ((w1.alloc (Obj.cells #[.int .u64 (u : Nat), .int .u64 (v : Nat)] 25))).drew.heap[w.heap.size + 1]? = some (Obj.cells #[.int .u64 0, .int .u64 0] 25) := Rz_2
  have hq0 := fz (k := 0) rz
  have hq1 := fz (k := 1) rz
  have hc0 := cell7 rz 0 _ rfl
  have hc1 := cell7 rz 1 _ rfl
  go_wp2_with fail
  go_region_held3 (fun W => Below w.heap.size w W ∧ W.heap[w.heap.size]? = some (Obj.cells (cw 6 s) 74) ∧ W.heap[w1.heap.size]? = some (Obj.cells #[.int .u64 (u : Nat), .int .u64 (v : Nat)] 25) ∧ W.cell? ⟨w.heap.size, 0, none⟩ = some (.int .u64 ((wd s 0 : Nat) : Int)) ∧ W.cell? ⟨w.heap.size, 1, none⟩ = some (.int .u64 ((wd s 1 : Nat) : Int)) ∧ W.cell? ⟨w.heap.size, 2, none⟩ = some (.int .u64 ((wd s 2 : Nat) : Int)) ∧ W.cell? ⟨w.heap.size, 3, none⟩ = some (.int .u64 ((wd s 3 : Nat) : Int)) ∧ W.cell? ⟨w.heap.size, 4, none⟩ = some (.int .u64 ((wd s 4 : Nat) : Int)) ∧ W.cell? ⟨w.heap.size, 5, none⟩ = some (.int .u64 ((wd s 5 : Nat) : Int)) ∧ W.cell? ⟨w1.heap.size, 0, none⟩ = some (.int .u64 (u : Nat)) ∧ W.cell? ⟨w1.heap.size, 1, none⟩ = some (.int .u64 (v : Nat))) (first | exact s1 | exact s0 | exact sT.out _ _ _ s1 | exact sT.out _ _ _ s0)
    (first | (go_at_call 197; (first | refine (K2.out _ (fatB TT.out (And.left s1))).mono ?_ | refine (K2.out _ (fatB TT.out (And.left s0))).mono ?_); rintro r wq ⟨rfl, bq⟩; have s1 := (by first | exact sS.out _ _ s1 bq | exact sS.out _ _ s0 bq); have rz := heap_of bq _ _ _ rz; have hq0 := fz (k := 0) rz; have hq1 := fz (k := 1) rz; have hc0 := cell7 rz 0 _ rfl; have hc1 := cell7 rz 1 _ rfl; clear bq) | (go_at_call 166; (first | refine (K3.out _ (fatB TT.out (And.left s1))).mono ?_ | refine (K3.out _ (fatB TT.out (And.left s0))).mono ?_); rintro r wq ⟨rfl, bq⟩; have s1 := (by first | exact sS.out _ _ s1 bq | exact sS.out _ _ s0 bq); have rz := heap_of bq _ _ _ rz; have hq0 := fz (k := 0) rz; have hq1 := fz (k := 1) rz; have hc0 := cell7 rz 0 _ rfl; have hc1 := cell7 rz 1 _ rfl; clear bq) | (go_at_call 215; (first | refine (K4.out _).mono ?_ | refine (K4.out _).mono ?_); rintro r wq ⟨rfl, bq⟩; have s1 := (by first | exact sS.out _ _ s1 bq | exact sS.out _ _ s0 bq); have rz := heap_of bq _ _ _ rz; have hq0 := fz (k := 0) rz; have hq1 := fz (k := 1) rz; have hc0 := cell7 rz 0 _ rfl; have hc1 := cell7 rz 1 _ rfl; clear bq) | (go_at_call 212; (first | refine (K5.out _).mono ?_ | refine (K5.out _).mono ?_); rintro r wq ⟨rfl, bq⟩; have s1 := (by first | exact sS.out _ _ s1 bq | exact sS.out _ _ s0 bq); have rz := heap_of bq _ _ _ rz; have hq0 := fz (k := 0) rz; have hq1 := fz (k := 1) rz; have hc0 := cell7 rz 0 _ rfl; have hc1 := cell7 rz 1 _ rfl; clear bq) | fail)
  obtain ⟨E0, E1⟩ := set2_cells rz (.int .u64 (a : Nat)) (.int .u64 (b : Nat))
  have BZ := (by first | exact And.left s1 | exact And.left s0 : Below w.heap.size w _)
  go_wp2
  exact bodyPost_ret (v := .agg #[.int .u64 (a : Nat), .int .u64 (b : Nat)]) (by simp [results, Tryz.results136, go_sem, E0, E1]) rfl ⟨rfl, set2_below BZ (by first | exact Nat.le_refl _ | omega | (have := S2.out; have := Ls_2.out; have := Lz_2.out; omega)) _ _⟩
end Go.Proofs.YtbmhfcppaajgbaaGreatDoor
namespace Go.Proofs.YtbmhfcppaajgbaaGreatDoor
set_option maxRecDepth 100000
open Go.RowKit WMath
set_option linter.unusedSimpArgs false
set_option linter.unusedVariables false

theorem em_lim {f : Int} (hf : Is4 f) : IntKind.i64.wrap (1 - fE f - fP f) = 1 - fE f - fP f ∧ IntKind.i64.wrap (1 - fE f - fP f + 1) = lx f ∧ IntKind.i64.wrap (fE f - fP f) = fE f - fP f ∧ IntKind.i64.wrap (fE f - fP f + 1) = fE f - (pV f : Int) ∧ (if fC f = 0 then 1 - fE f else 0) = 1 - fE f ∧ 2 * fE f + 1 = (oV f : Int) ∧ 0 ≤ fE f ∧ fE f ≤ 16383 ∧ fP f = (pV f : Int) + 1 ∧ lx f = 1 - fE f - fP f + 1 ∧ pV f < 128 ∧ -16494 ≤ lx f ∧ lx f ≤ 0 := by
  rcases hf with rfl | rfl | rfl | rfl <;> decide +kernel
end Go.Proofs.YtbmhfcppaajgbaaGreatDoor
namespace Go.Proofs.YtbmhfcppaajgbaaGreatDoor
set_option maxRecDepth 100000
open Go.RowKit WMath XMath
set_option linter.unusedSimpArgs false
set_option linter.unusedVariables false

theorem blen_low (n : Nat) (h : n ≠ 0) : 1 ≤ blen n ∧ 2 ^ (blen n - 1) ≤ n ∧ n < 2 ^ blen n := by
  have h1 := blen_iff n (blen n - 1)
  have h2 := (blen_iff n (blen n)).1 (Nat.le_refl _)
  have h3 := blen_iff n 0
  have h4 : 1 ≤ blen n := by
    rcases Nat.eq_zero_or_pos (blen n) with e | e
    · have := h3.1 (by omega)
      rw [Nat.pow_zero] at this
      omega
    · exact e
  exact ⟨h4, by omega, h2⟩
theorem blen_one : blen 1 = 1 := by decide
theorem top_whole (b : Bool) (n : Nat) (e : Int) (h : n ≠ 0) : topX ⟨b, n, 1, e⟩ = (blen n : Int) - 1 + e := by
  obtain ⟨h1, h2, h3⟩ := blen_low n h
  unfold topX tA tB lenD
  simp only [blen_one]
  have e1 : (max (-((blen n : Int) - ((1 : Nat) : Int))) 0).toNat = 0 := by omega
  have e2 : (max ((blen n : Int) - ((1 : Nat) : Int)) 0).toNat = blen n - 1 := by omega
  rw [e1, e2, Nat.pow_zero, Nat.mul_one, Nat.one_mul, if_neg (by omega)]
  omega
/-- What the program's Of answers. -/
def ofA (f : Int) (x : XN) : Int := max (topX x) (1 - fE f) - (pV f : Int)
def ofX (f : Int) (x : XN) : Nat × Bool :=
  if x.n = 0 then (0, true)
  else if fE f < topX x then (0, false)
  else if (flX x (ofA f x)).1.2 = true then (sgB f (fb f (flX x (ofA f x)).1.1 (ofA f x)) x.b, true) else (0, false)
/-- A number is whole at a place just if it has no denominator and its exponent is no lesser. -/
theorem fl_no (x : XN) (a : Int) (hx : x.can) (n0 : x.n ≠ 0) (h : x.d ≠ 1 ∨ x.e < a) : (flX x a).1.2 = false := by
  have ho := hx.odd n0
  unfold flX
  split
  · rfl
  try rw [if_neg n0]
  split
  · rename_i hae
    have hd : x.d ≠ 1 := by omega
    split
    · simp only [decide_eq_false_iff_not]
      intro hm
      have h1 : x.d ∣ x.n * 2 ^ (x.e - a).toNat := Nat.dvd_of_mod_eq_zero hm
      have h2 : Nat.Coprime x.d (2 ^ (x.e - a).toNat) := by
        apply Nat.Coprime.pow_right
        have : Nat.Coprime 2 x.d := by
          rw [Nat.coprime_iff_gcd_eq_one, Nat.gcd_comm]
          have := Nat.gcd_rec 2 x.d
          rw [Nat.gcd_comm, Nat.gcd_rec, ho.2.1]
          rfl
        exact this.symm
      have h3 : x.d ∣ x.n := h2.dvd_of_dvd_mul_right h1
      have h4 : x.d ∣ Nat.gcd x.n x.d := Nat.dvd_gcd h3 (Nat.dvd_refl _)
      rw [ho.2.2] at h4
      exact hd (Nat.dvd_one.1 h4)
    · rfl
  · split <;> rfl
theorem fl_yes (x : XN) (a : Int) (n0 : x.n ≠ 0) (hd : x.d = 1) (h : a ≤ x.e) (h1 : -2097152 ≤ a) (h2 : a ≤ 2097152) (hl : nl (x.n * 2 ^ (x.e - a).toNat) ≤ 16384) : flX x a = ((x.n * 2 ^ (x.e - a).toNat, true), 0) := by
  unfold flX
  rw [if_neg (by omega), if_neg n0, if_pos h, if_pos hl, hd, Nat.div_one, Nat.mod_one]
  rfl
theorem nm8 {f : Int} (hf : Is4 f) : fE f - (pV f : Int) - lx f + 1 = ((oV f - 1 : Nat) : Int) ∧ 1 ≤ oV f ∧ lx f = 1 - fE f - (pV f : Int) ∧ pV f < 128 ∧ fE f ≤ 16383 ∧ 0 ≤ fE f := by
  rcases hf with rfl | rfl | rfl | rfl <;> decide +kernel
/-- What is of the format: its significand, and the encoding. -/
theorem of_yes {f : Int} (hf : Is4 f) (b : Bool) (n : Nat) (e : Int) (n0 : n ≠ 0) (ht : topX ⟨b, n, 1, e⟩ ≤ fE f) (ha : ofA f ⟨b, n, 1, e⟩ ≤ e) :
    ∃ m k t, m = n * 2 ^ (e - ofA f ⟨b, n, 1, e⟩).toNat ∧ k < oV f ∧ t < 2 ^ pV f ∧ ofX f ⟨b, n, 1, e⟩ = (enc7 f b k t, true) ∧ ((k = 0 ∧ m = t ∧ ofA f ⟨b, n, 1, e⟩ = lx f) ∨ (1 ≤ k ∧ m = 2 ^ pV f + t ∧ ofA f ⟨b, n, 1, e⟩ = lx f + (k : Int) - 1)) := by
  obtain ⟨g1, g2, g3, g4, g5, g6, g7⟩ := fm hf
  obtain ⟨n1, n2, n3, n4, n5, n6⟩ := nm8 hf
  obtain ⟨l1, l2, l3⟩ := blen_low n n0
  have tw := top_whole b n e n0
  obtain ⟨a, hA⟩ : ∃ a, ofA f ⟨b, n, 1, e⟩ = a := ⟨_, rfl⟩
  have hA2 := hA
  unfold ofA at hA2
  rw [hA] at ha ⊢
  rw [tw] at ht hA2
  obtain ⟨j, hj⟩ : ∃ j : Nat, (e - a).toNat = j := ⟨_, rfl⟩
  have hje : e = a + (j : Int) := by omega
  obtain ⟨m, hm⟩ : ∃ m, n * 2 ^ j = m := ⟨_, rfl⟩
  have m1 : 2 ^ (blen n - 1 + j) ≤ m := by rw [← hm, Nat.pow_add]; exact Nat.mul_le_mul_right _ l2
  have m2 : m < 2 ^ (blen n + j) := by rw [← hm, Nat.pow_add]; exact Nat.mul_lt_mul_of_pos_right l3 (Nat.two_pow_pos _)
  have lj : blen n + j ≤ pV f + 1 := by omega
  have m3 : m < 2 * 2 ^ pV f := by
    have := Nat.pow_le_pow_right (show 0 < 2 by decide) lj
    rw [Nat.pow_succ] at this
    omega
  have hl : nl m ≤ 16384 := nl_pow m (pV f + 1) (by rw [Nat.pow_succ]; omega) (by omega)
  obtain ⟨k, hk⟩ : ∃ k : Nat, a = lx f + (k : Int) := ⟨(a - lx f).toNat, by omega⟩
  have hk2 : k + 2 ≤ oV f := by omega
  have hb0 : (k + 2) * 2 ^ pV f ≤ oV f * 2 ^ pV f := Nat.mul_le_mul_right _ hk2
  have hb1 : k * 2 ^ pV f + m < 2 ^ wV f := by
    rw [g1, Nat.add_mul, Nat.one_mul]
    rw [Nat.add_mul] at hb0
    omega
  have hfb : fb f m a = k * 2 ^ pV f + m := by rw [hk]; exact fb_is hf k m (by omega) hb1
  have hof : ofX f ⟨b, n, 1, e⟩ = (sgB f (k * 2 ^ pV f + m) b, true) := by
    unfold ofX
    rw [hA, fl_yes ⟨b, n, 1, e⟩ a n0 rfl ha (by omega) (by omega) (by show nl (n * 2 ^ (e - a).toNat) ≤ 16384; rw [hj, hm]; exact hl)]
    simp only []
    rw [if_neg n0, if_neg (by rw [tw]; omega), if_pos trivial, hj, hm, hfb]
  rw [hj, hm]
  by_cases hs : m < 2 ^ pV f
  · have hk0 : k = 0 := by
      have : blen n - 1 + j < pV f := by
        rcases Nat.lt_or_ge (blen n - 1 + j) (pV f) with q | q
        · exact q
        · have := Nat.pow_le_pow_right (show 0 < 2 by decide) q
          omega
      omega
    subst hk0
    refine ⟨m, 0, m, rfl, by omega, hs, ?_, Or.inl ⟨rfl, rfl, by omega⟩⟩
    rw [hof, sgB_low hb1]
    unfold enc7
    rfl
  · have e1 : k * 2 ^ pV f + m = (k + 1) * 2 ^ pV f + (m - 2 ^ pV f) := by rw [Nat.add_mul]; omega
    refine ⟨m, k + 1, m - 2 ^ pV f, rfl, by omega, by omega, ?_, Or.inr ⟨by omega, by omega, by omega⟩⟩
    rw [hof, sgB_low hb1, e1]
    unfold enc7
    rfl
theorem of_no {f : Int} (x : XN) (hx : x.can) (n0 : x.n ≠ 0) (h : fE f < topX x ∨ x.d ≠ 1 ∨ x.e < ofA f x) : ofX f x = (0, false) := by
  unfold ofX
  rw [if_neg n0]
  by_cases h1 : fE f < topX x
  · rw [if_pos h1]
  · rw [if_neg h1, if_neg]
    rw [fl_no x _ hx n0 (by omega)]
    decide
end Go.Proofs.YtbmhfcppaajgbaaGreatDoor
namespace Go.Proofs.YtbmhfcppaajgbaaGreatDoor
set_option maxRecDepth 100000
open Go.RowKit WMath XMath
set_option linter.unusedSimpArgs false
set_option linter.unusedVariables false

theorem blen_is (n k : Nat) (h1 : 2 ^ k ≤ n) (h2 : n < 2 ^ (k + 1)) : blen n = k + 1 := by
  have a := (blen_iff n (k + 1)).2 h2
  have b := blen_iff n k
  omega
theorem blen_shift (n k : Nat) (h : n ≠ 0) : blen (n * 2 ^ k) = blen n + k := by
  obtain ⟨l1, l2, l3⟩ := blen_low n h
  have := blen_is (n * 2 ^ k) (blen n - 1 + k) (by rw [Nat.pow_add]; exact Nat.mul_le_mul_right _ l2) (by
    rw [show blen n - 1 + k + 1 = blen n + k by omega, Nat.pow_add]
    exact Nat.mul_lt_mul_of_pos_right l3 (Nat.two_pow_pos _))
  omega
theorem mk_whole (neg : Bool) (s : Nat) (x : Int) (s0 : s ≠ 0) (h1 : -1048576 ≤ x) (h2 : x + (tz s : Int) ≤ 1048576) : mk neg s 1 x = (⟨neg, od s, 1, x + (tz s : Int)⟩, 0) := by
  have o1 : od 1 = 1 := od_odd 1 rfl
  have t1 : tz 1 = 0 := tz_odd 1 rfl
  unfold mk
  rw [if_neg s0, o1, t1, Nat.gcd_one_right, Nat.div_one, Nat.div_one]
  rw [if_pos (by omega)]
  congr 2
  omega
/-- The significand and the exponent of a finite encoding that is not 0. -/
def sV (f : Int) (e t : Nat) : Nat := if e = 0 then t else 2 ^ pV f + t
def xV (f : Int) (e : Nat) : Int := if e = 0 then lx f else lx f + (e : Int) - 1
theorem val_of {f : Int} (hf : Is4 f) (neg : Bool) (e t : Nat) (he : e < oV f) (ht : t < 2 ^ pV f) (nz : sV f e t ≠ 0) :
    mk neg (sV f e t) 1 (xV f e) = (⟨neg, od (sV f e t), 1, xV f e + (tz (sV f e t) : Int)⟩, 0) ∧ ofX f ⟨neg, od (sV f e t), 1, xV f e + (tz (sV f e t) : Int)⟩ = (enc7 f neg e t, true) ∧ ofA f ⟨neg, od (sV f e t), 1, xV f e + (tz (sV f e t) : Int)⟩ = xV f e := by
  obtain ⟨n1, n2, n3, n4, n5, n6⟩ := nm8 hf
  have oe : (oV f : Int) = 2 * fE f + 1 := by unfold oV; omega
  obtain ⟨s, hs⟩ : ∃ s, sV f e t = s := ⟨_, rfl⟩
  obtain ⟨x, hx⟩ : ∃ x, xV f e = x := ⟨_, rfl⟩
  rw [hs] at nz
  rw [hs, hx]
  obtain ⟨o1, o2⟩ := od_is s nz
  have od0 : od s ≠ 0 := by omega
  have bs : blen s = blen (od s) + tz s := by
    have := blen_shift (od s) (tz s) od0
    rw [← o1] at this
    exact this
  have tw := top_whole neg (od s) (x + (tz s : Int)) od0
  have tz1 := tz_blen s
  unfold sV at hs
  unfold xV at hx
  have sl : s < 2 * 2 ^ pV f := by split at hs <;> omega
  have bl : blen s ≤ pV f + 1 := (blen_iff s _).2 (by rw [Nat.pow_succ]; omega)
  have A : ofA f ⟨neg, od s, 1, x + (tz s : Int)⟩ = x ∧ topX ⟨neg, od s, 1, x + (tz s : Int)⟩ ≤ fE f := by
    unfold ofA
    rw [tw]
    by_cases e0 : e = 0
    · rw [if_pos e0] at hs hx
      have : blen s ≤ pV f := (blen_iff s _).2 (by omega)
      omega
    · rw [if_neg e0] at hs hx
      have : blen s = pV f + 1 := blen_is s (pV f) (by omega) (by rw [Nat.pow_succ]; omega)
      omega
  have xl : -20000 ≤ x ∧ x ≤ 20000 := by split at hx <;> omega
  refine ⟨mk_whole neg s x nz (by omega) (by omega), ?_, A.1⟩
  obtain ⟨m, k, t', h1, h2, h3, h4, h5⟩ := of_yes hf neg (od s) (x + (tz s : Int)) od0 A.2 (by rw [A.1]; omega)
  rw [A.1, show (x + (tz s : Int) - x).toNat = tz s by omega, ← o1] at h1
  rw [A.1] at h5
  rw [h4]
  by_cases e0 : e = 0
  · rw [if_pos e0] at hs hx
    rcases h5 with ⟨q1, q2, q3⟩ | ⟨q1, q2, q3⟩
    · rw [q1, e0, show t' = t by omega]
    · omega
  · rw [if_neg e0] at hs hx
    rcases h5 with ⟨q1, q2, q3⟩ | ⟨q1, q2, q3⟩
    · omega
    · rw [show k = e by omega, show t' = t by omega]
end Go.Proofs.YtbmhfcppaajgbaaGreatDoor
namespace Go.Proofs.YtbmhfcppaajgbaaGreatDoor
set_option maxRecDepth 100000
open Go.RowKit WMath
set_option linter.unusedSimpArgs false
set_option linter.unusedVariables false

set_option maxRecDepth 100000 in
set_option maxHeartbeats 2000000 in
theorem kwideOf_is (n : Nat) (s : ByteArray) (hs : nbA n = s) (h : nl n ≤ 48) (w : World) : Calls Tryz.prog 275 #[.string s] w fun r w' => r = .returned (.agg (cw 6 n)) ∧ Below w.heap.size w w' := by
  have hat := cw_at 6
  have hz := cw6z
  have hff := cw6f
  have hs0 := st0
  have hcs : ∀ x, ((cw 6 x).size = 6) = True := fun x => eq_true (cw_size 6 x)
  have hs1 := st1
  obtain ⟨L, hL⟩ : ∃ L, nl n = L := ⟨_, rfl⟩
  have hsz : s.size = L := by rw [← hs, nbA_size, hL]
  have ln := nl_lt n
  rw [hL] at h ln
  have HS := box hs
  have HN := box ln
  have HL := box hL
  clear hs hL ln
  have R0 := trows2 w
  go_enter Tryz.func275, Tryz.ntmps275
  go_wp2
  go_loopw [7] (fun iv wr => ∃ i : Nat, i ≤ L ∧ iv = .int .i64 i ∧ RowsL w wr [0, n % 2 ^ (8 * i)]) (fun iv _ => L - (intOf iv).toNat)
  case atStart => exact ⟨0, by omega, rfl, by rw [Nat.mul_zero, Nat.pow_zero, Nat.mod_one]; exact R0⟩
  case round =>
    clear R0
    obtain ⟨i, hi, rfl, R⟩ := hrel
    by_cases hlt : i < L
    · obtain ⟨q, hq⟩ : ∃ q, q = i / 8 := ⟨_, rfl⟩
      obtain ⟨r, hr⟩ : ∃ r, r = 8 * (i % 8) := ⟨_, rfl⟩
      obtain ⟨x, hx⟩ : ∃ x, d8 n i = x := ⟨_, rfl⟩
      obtain ⟨k, hk⟩ : ∃ k, L - 1 - i = k := ⟨_, rfl⟩
      have x256 : x < 256 := by rw [← hx]; exact d8_lt n i
      have hk2 : k < s.size := by omega
      have hxd : (s[k]'hk2).toNat = x := by
        have e := HS.out
        subst e
        rw [nbA_get, HL.out, ← hk, show L - 1 - (L - 1 - i) = i by omega, hx]
      have hxr := idx_runN s k (k : Int) x rfl hk2 hxd
      have n1 : IntKind.i64.wrap ((L : Int) - 1) = (L : Int) - 1 := wrap_i64_is _ (by omega) (by omega)
      have n2 : IntKind.i64.wrap ((L : Int) - 1 - (i : Int)) = (k : Int) := by rw [wrap_i64_is _ (by omega) (by omega)]; omega
      have n2' : (L : Int) - 1 - (i : Int) = (k : Int) := by omega
      have q1 : (i : Int) / 8 = (q : Int) := by omega
      obtain ⟨r0, hr0⟩ : ∃ r0, i % 8 = r0 := ⟨_, rfl⟩
      have tm : (i : Int).tmod 8 = (r0 : Int) := by rw [Int.tmod_eq_emod_of_nonneg (by omega)]; omega
      have tm2 : (i : Int) % 8 = (r0 : Int) := by omega
      have w1 : IntKind.i64.wrap (q : Int) = (q : Int) := wrap_i64_is _ (by omega) (by omega)
      have w2 : IntKind.i64.wrap ((r0 : Int) * 8) = (r : Int) := by rw [wrap_i64_is _ (by omega) (by omega)]; omega
      have w2' : (r0 : Int) * 8 = (r : Int) := by omega
      have w4 : IntKind.i64.wrap (r : Int) = (r : Int) := wrap_i64_is _ (by omega) (by omega)
      have q6 : q < 6 := by omega
      have r64 : r < 64 := by omega
      have qi6 : (q : Int) < 6 := by omega
      have HST := box (toWide_step n i q r x hq hr hx)
      obtain ⟨y, hy⟩ : ∃ y, x * 2 ^ r = y := ⟨_, rfl⟩
      have y64 : y < 18446744073709551616 := by rw [← hy, hr]; exact byte_sh x (i % 8) x256 (by omega)
      have n4 : IntKind.u64.wrap (x : Int) = (x : Int) := by rw [IntKind.wrap_u64]; omega
      have n5 : IntKind.u64.wrap ((x : Int) * 2 ^ r) = (y : Int) := by
        rw [pow_cast, ← Int.natCast_mul, hy]
        exact wrap_nat y y64
      rw [hy] at HST
      obtain ⟨X, hX⟩ : ∃ X, n % 2 ^ (8 * i) = X := ⟨_, rfl⟩
      obtain ⟨Y, hY⟩ : ∃ Y, n % 2 ^ (8 * (i + 1)) = Y := ⟨_, rfl⟩
      rw [hX] at R
      rw [hX, hY] at HST
      have x3 := bor X q y y64
      have x4 := cw_or 6 X q y Y q6 y64 HST.out.symm
      have R2 : RowsL w (wr.setCell ⟨w.heap.size + 1, q, none⟩ (.int .u64 ((wd X q ||| y : Nat) : Int))) [0, Y] := rowsL_setCell R 1 X Y _ q _ rfl rfl x4 rfl
      have HY := box hY
      have c1 := row_cell (rows1 R) q q6
      have f0 := fz (k := q) (rows1 R)
      have dl : decide (i < L) = true := decide_eq_true hlt
      have dz : decide ((r : Int) < 0) = false := by rw [decide_eq_false_iff_not]; omega
      clear hr hx hq hy hX hY HST x4 hr0 hk hxd
      go_wp2
      go_region
      all_goals go_wp2
      all_goals go_roundw
      all_goals first | (show (_ : Nat) < _; simp [intOf]; omega) | exact ⟨i + 1, by omega, by go_num, by rw [HY.out]; exact rowsL_drew R2 1⟩
    · obtain rfl : i = L := by omega
      have dl : decide (i < i) = false := by rw [decide_eq_false_iff_not]; omega
      rw [Nat.mod_eq_of_lt HN.out] at R
      have hst := st_any wr w.heap.size n 0 (rows0 R)
      have c1 := row_cell (rows1 R)
      have R2 : RowsL w (wr.setRow w.heap.size (cw 6 n)) [n, n] := rowsL_set R 0 n _ (by simp) rfl rfl
      have c2 := row_cell (rows0 R2)
      go_wp2
      exact bodyPost_ret (v := .agg (cw 6 n)) (by simp [results, Tryz.results275, go_sem, c2, hff]) rfl ⟨rfl, R2.2⟩
end Go.Proofs.YtbmhfcppaajgbaaGreatDoor
