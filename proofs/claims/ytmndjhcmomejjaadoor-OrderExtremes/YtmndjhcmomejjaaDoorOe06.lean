/-
  What the functions that the statement reaches return: part 6 (K9, KA, V1, V2, V9, VA, R1, R5, R30, RE, SL, O1, D1, O3, A0, A3, H1).
-/
import Derived.Laws.CopyRow
import Derived.Deep.RegionHeld3
import Derived.Lib.MinMax
import Derived.Test.YtmndjhcmomejjaaDoorRows
import Derived.OpenShut
import Derived.LaidMore
import Derived.Lib.LaidTab
import Derived.Stop.Joined
import Derived.Test.YtmndjhcmomejjaaDoorOe05
namespace Go.Proofs.YtmndjhcmomejjaaDoor
set_option maxRecDepth 100000
set_option maxHeartbeats 40000000
set_option maxRecDepth 100000
open Go.RowKit WMath
set_option linter.unusedSimpArgs false
set_option linter.unusedVariables false
set_option maxRecDepth 100000 in
set_option maxHeartbeats 2000000 in
theorem rk_class (f : Int) (hf : Is4 f) (x y n c : Nat) (hx : x < 18446744073709551616) (hy : y < 18446744073709551616) (hn : y + 18446744073709551616 * x = n) (hfit : Fit f n) (hc : kC f n = c) (w : World) :
    Calls Tryd.prog 51 #[.int .u8 f, .agg #[.int .u64 (x : Nat), .int .u64 (y : Nat)]] w fun r w' => r = .returned (.int .u8 (c : Nat)) ∧ Below w.heap.size w w' := by
  have hat := cw_at 6
  have hz := cw6z
  have hff := cw6f
  have hs0 := st0
  have hcs : ∀ x, ((cw 6 x).size = 6) = True := fun x => eq_true (cw_size 6 x)
  have heq := eq6
  have hg := eqg6
  have hQ := Q_pos
  have f4 := is4_ok hf
  have tl := kT_lt (f := f) n
  have el := kE_le (f := f) n
  obtain ⟨g1, g2, g3, g4, g5, g6, g7⟩ := fm hf
  obtain ⟨p1, p2, p3, p4, p5, p6, p7, p8⟩ := pV_lim hf
  have p9 : IntKind.i64.wrap (fP f - 2) = ((pV f - 1 : Nat) : Int) := by rcases hf with rfl | rfl | rfl | rfl <;> decide +kernel
  obtain ⟨neg, hneg⟩ : ∃ q, kN f n = q := ⟨_, rfl⟩
  obtain ⟨e, he⟩ : ∃ q, kE f n = q := ⟨_, rfl⟩
  obtain ⟨t, ht⟩ : ∃ q, kT f n = q := ⟨_, rfl⟩
  have K1 := box (rk_fields f hf x y n e t neg hx hy hn hfit hneg he ht)
  have tQ : t < Q := by rw [← ht]; exact lt_Q7 (by rw [g1, Nat.add_mul] at g7; omega)
  obtain ⟨o, ho⟩ : ∃ q, oV f = q := ⟨_, rfl⟩
  obtain ⟨m, hm⟩ : ∃ q, fE f = q := ⟨_, rfl⟩
  obtain ⟨p, hp⟩ : ∃ q, fP f = q := ⟨_, rfl⟩
  have K2 : Box (∀ w, Calls Tryd.prog 64 #[.int .u8 f] w fun r w' => r = .returned (.int .i64 (o : Nat)) ∧ w' = w) := box (fun w => r_ones f m _ f4.1 hm (by rw [← ho, ← hm]; rcases hf with rfl | rfl | rfl | rfl <;> decide +kernel) w)
  have KP := box (r_precision f p f4.1 hp)
  obtain ⟨qb, hqb⟩ : ∃ q, decide (2 ^ (pV f - 1) ≤ t) = q := ⟨_, rfl⟩
  have K3 : Box (∀ w, Calls Tryd.prog 80 #[.agg (cw 6 t), .int .i64 ((pV f - 1 : Nat) : Int)] w fun r w' => r = .returned (.bool qb) ∧ Below w.heap.size w w') := box (fun w => by
    have h := rwbit_any t (pV f - 1) (by omega) w
    have e2 : t.testBit (pV f - 1) = qb := by
      rw [← hqb, Nat.testBit_eq_decide_div_mod_eq, decide_eq_decide]
      rw [ht] at tl
      rw [g3] at tl
      have hz := Nat.two_pow_pos (pV f - 1)
      by_cases h : 2 ^ (pV f - 1) ≤ t
      · have : t / 2 ^ (pV f - 1) = 1 := by rw [Nat.div_eq_iff hz]; omega
        rw [this]; simp [h]
      · rw [Nat.div_eq_of_lt (by omega)]; simp; omega
    rw [e2] at h
    exact h)
  unfold kC at hc
  rw [he, ht, hneg, ho] at hc
  have zf : (t = 0 → decide (t = 0) = true) ∧ (t ≠ 0 → decide (t = 0) = false) := ⟨fun h => decide_eq_true h, fun h => decide_eq_false h⟩
  obtain ⟨pm, hpm⟩ : ∃ q, pV f - 1 = q := ⟨_, rfl⟩
  rw [hpm] at K3 p9 hqb hc
  rw [hp] at p9
  clear tl el hf hx hy hn hfit hneg he ht ho hm hp p1 p2 p3 p4 p5 p6 p7 p8 g1 g2 g3 g4 g5 g6 g7 hpm f4
  by_cases c1 : e = o
  · have b1 : ((e : Int) == (o : Int)) = true := by rw [c1]; simp
    rw [if_pos c1] at hc
    by_cases c2 : t = 0
    · rw [if_pos c2] at hc
      subst c2
      cases neg
      · subst hc
        obtain ⟨Rb_0, B0⟩ := kopn1 w (Obj.cells #[.int .u64 (x : Nat), .int .u64 (y : Nat)] 25)
        go_enter Tryd.func51, Tryd.ntmps51
        go_wp2_with fail
        refine (K1.out _).mono ?_
        rintro r w1 ⟨rfl, b1⟩
        have B1 : Below w.heap.size w w1 := btr7 B0 b1
        have Rb_1 := heap_of b1 _ _ _ Rb_0
        clear b1 B0 Rb_0
        obtain ⟨cb_1_0, cb_1_1⟩ := cell7t Rb_1
        have S2 := box B1.size
        have Lb_2 : Box (w.heap.size < w1.heap.size) := box (Array.getElem?_eq_some_iff.1 Rb_1).1
        have Rt_2 := heap_alloc_last w1 (Obj.cells (cw 6 0) 72)
        have B2 := btr7 B1 (bal7 w1 (Obj.cells (cw 6 0) 72))
        have Rb_2 := heap_of (bal7 w1 (Obj.cells (cw 6 0) 72)) _ _ _ Rb_1
        clear B1 Rb_1 cb_1_0 cb_1_1
        obtain ⟨cb_2_0, cb_2_1⟩ := cell7t Rb_2
        have ct_2_0 := row_cell Rt_2
        go_wp2_with fail
        refine (K2.out _).mono ?_
        rintro r w' ⟨rfl, hw'⟩
        obtain rfl := hw'.symm
        go_wp2
        go_ret
        exact ⟨rfl, B2⟩
      · subst hc
        obtain ⟨Rb_0, B0⟩ := kopn1 w (Obj.cells #[.int .u64 (x : Nat), .int .u64 (y : Nat)] 25)
        go_enter Tryd.func51, Tryd.ntmps51
        go_wp2_with fail
        refine (K1.out _).mono ?_
        rintro r w1 ⟨rfl, b1⟩
        have B1 : Below w.heap.size w w1 := btr7 B0 b1
        have Rb_1 := heap_of b1 _ _ _ Rb_0
        clear b1 B0 Rb_0
        obtain ⟨cb_1_0, cb_1_1⟩ := cell7t Rb_1
        have S2 := box B1.size
        have Lb_2 : Box (w.heap.size < w1.heap.size) := box (Array.getElem?_eq_some_iff.1 Rb_1).1
        have Rt_2 := heap_alloc_last w1 (Obj.cells (cw 6 0) 72)
        have B2 := btr7 B1 (bal7 w1 (Obj.cells (cw 6 0) 72))
        have Rb_2 := heap_of (bal7 w1 (Obj.cells (cw 6 0) 72)) _ _ _ Rb_1
        clear B1 Rb_1 cb_1_0 cb_1_1
        obtain ⟨cb_2_0, cb_2_1⟩ := cell7t Rb_2
        have ct_2_0 := row_cell Rt_2
        go_wp2_with fail
        refine (K2.out _).mono ?_
        rintro r w' ⟨rfl, hw'⟩
        obtain rfl := hw'.symm
        go_wp2
        go_ret
        exact ⟨rfl, B2⟩
    · rw [if_neg c2] at hc
      have z1 := zf.2 c2
      cases qb
      · rw [if_neg (of_decide_eq_false hqb)] at hc
        subst hc
        obtain ⟨Rb_0, B0⟩ := kopn1 w (Obj.cells #[.int .u64 (x : Nat), .int .u64 (y : Nat)] 25)
        go_enter Tryd.func51, Tryd.ntmps51
        go_wp2_with fail
        refine (K1.out _).mono ?_
        rintro r w1 ⟨rfl, b1⟩
        have B1 : Below w.heap.size w w1 := btr7 B0 b1
        have Rb_1 := heap_of b1 _ _ _ Rb_0
        clear b1 B0 Rb_0
        obtain ⟨cb_1_0, cb_1_1⟩ := cell7t Rb_1
        have S2 := box B1.size
        have Lb_2 : Box (w.heap.size < w1.heap.size) := box (Array.getElem?_eq_some_iff.1 Rb_1).1
        have Rt_2 := heap_alloc_last w1 (Obj.cells (cw 6 t) 72)
        have B2 := btr7 B1 (bal7 w1 (Obj.cells (cw 6 t) 72))
        have Rb_2 := heap_of (bal7 w1 (Obj.cells (cw 6 t) 72)) _ _ _ Rb_1
        clear B1 Rb_1 cb_1_0 cb_1_1
        obtain ⟨cb_2_0, cb_2_1⟩ := cell7t Rb_2
        have ct_2_0 := row_cell Rt_2
        go_wp2_with fail
        refine (K2.out _).mono ?_
        rintro r w' ⟨rfl, hw'⟩
        obtain rfl := hw'.symm
        go_wp2_with fail
        obtain ⟨F, hF1, hF2⟩ := below_fun (w1.alloc (Obj.cells (cw 6 t) 72))
        have fb_0 := fun u => cell7 (heap_of (hF1 u) _ _ _ Rb_2) 0 _ rfl
        have fb_1 := fun u => cell7 (heap_of (hF1 u) _ _ _ Rb_2) 1 _ rfl
        have ft_0 := fun u => row_cell (heap_of (hF1 u) _ _ _ Rt_2)
        refine wp_region_below F hF2 (by kernel_rfl) (by kernel_rfl) ?_
        repeat first | go_big_quiet_step (first | (go_at_call 62; exact quietF0 (KP.out _)) | (go_at_call 80; exact quietF hF1 hF2 (K3.out _)) | fail) | quiet_step (first | (go_at_call 62; exact quietF0 (KP.out _)) | (go_at_call 80; exact quietF hF1 hF2 (K3.out _)) | fail)
        refine wpQuiet_nil ?_
        rintro _ ⟨uW, rfl⟩
        have B3 := btr7 B2 (hF1 uW)
        have Rb_3 := heap_of (hF1 uW) _ _ _ Rb_2
        have Rt_3 := heap_of (hF1 uW) _ _ _ Rt_2
        obtain ⟨w3, hw⟩ : ∃ V, F uW = V := ⟨_, rfl⟩
        rw [hw] at B3 Rb_3 Rt_3
        try rw [hw]
        clear hw hF1 hF2 B2 fb_0 fb_1 ft_0 Rb_2 cb_2_0 cb_2_1 Rt_2 ct_2_0
        clear F
        obtain ⟨cb_3_0, cb_3_1⟩ := cell7t Rb_3
        have ct_3_0 := row_cell Rt_3
        go_wp2
        go_ret
        exact ⟨rfl, B3⟩
      · rw [if_pos (of_decide_eq_true hqb)] at hc
        subst hc
        obtain ⟨Rb_0, B0⟩ := kopn1 w (Obj.cells #[.int .u64 (x : Nat), .int .u64 (y : Nat)] 25)
        go_enter Tryd.func51, Tryd.ntmps51
        go_wp2_with fail
        refine (K1.out _).mono ?_
        rintro r w1 ⟨rfl, b1⟩
        have B1 : Below w.heap.size w w1 := btr7 B0 b1
        have Rb_1 := heap_of b1 _ _ _ Rb_0
        clear b1 B0 Rb_0
        obtain ⟨cb_1_0, cb_1_1⟩ := cell7t Rb_1
        have S2 := box B1.size
        have Lb_2 : Box (w.heap.size < w1.heap.size) := box (Array.getElem?_eq_some_iff.1 Rb_1).1
        have Rt_2 := heap_alloc_last w1 (Obj.cells (cw 6 t) 72)
        have B2 := btr7 B1 (bal7 w1 (Obj.cells (cw 6 t) 72))
        have Rb_2 := heap_of (bal7 w1 (Obj.cells (cw 6 t) 72)) _ _ _ Rb_1
        clear B1 Rb_1 cb_1_0 cb_1_1
        obtain ⟨cb_2_0, cb_2_1⟩ := cell7t Rb_2
        have ct_2_0 := row_cell Rt_2
        go_wp2_with fail
        refine (K2.out _).mono ?_
        rintro r w' ⟨rfl, hw'⟩
        obtain rfl := hw'.symm
        go_wp2_with fail
        obtain ⟨F, hF1, hF2⟩ := below_fun (w1.alloc (Obj.cells (cw 6 t) 72))
        have fb_0 := fun u => cell7 (heap_of (hF1 u) _ _ _ Rb_2) 0 _ rfl
        have fb_1 := fun u => cell7 (heap_of (hF1 u) _ _ _ Rb_2) 1 _ rfl
        have ft_0 := fun u => row_cell (heap_of (hF1 u) _ _ _ Rt_2)
        refine wp_region_below F hF2 (by kernel_rfl) (by kernel_rfl) ?_
        repeat first | go_big_quiet_step (first | (go_at_call 62; exact quietF0 (KP.out _)) | (go_at_call 80; exact quietF hF1 hF2 (K3.out _)) | fail) | quiet_step (first | (go_at_call 62; exact quietF0 (KP.out _)) | (go_at_call 80; exact quietF hF1 hF2 (K3.out _)) | fail)
        refine wpQuiet_nil ?_
        rintro _ ⟨uW, rfl⟩
        have B3 := btr7 B2 (hF1 uW)
        have Rb_3 := heap_of (hF1 uW) _ _ _ Rb_2
        have Rt_3 := heap_of (hF1 uW) _ _ _ Rt_2
        obtain ⟨w3, hw⟩ : ∃ V, F uW = V := ⟨_, rfl⟩
        rw [hw] at B3 Rb_3 Rt_3
        try rw [hw]
        clear hw hF1 hF2 B2 fb_0 fb_1 ft_0 Rb_2 cb_2_0 cb_2_1 Rt_2 ct_2_0
        clear F
        obtain ⟨cb_3_0, cb_3_1⟩ := cell7t Rb_3
        have ct_3_0 := row_cell Rt_3
        go_wp2
        go_ret
        exact ⟨rfl, B3⟩
  · have b1 : ((e : Int) == (o : Int)) = false := by simp; omega
    rw [if_neg c1] at hc
    by_cases c2 : e = 0
    · subst c2
      rw [if_neg (by simp)] at hc
      by_cases c3 : t = 0
      · subst c3
        rw [if_neg (by simp)] at hc
        cases neg
        · subst hc
          obtain ⟨Rb_0, B0⟩ := kopn1 w (Obj.cells #[.int .u64 (x : Nat), .int .u64 (y : Nat)] 25)
          go_enter Tryd.func51, Tryd.ntmps51
          go_wp2_with fail
          refine (K1.out _).mono ?_
          rintro r w1 ⟨rfl, b1⟩
          have B1 : Below w.heap.size w w1 := btr7 B0 b1
          have Rb_1 := heap_of b1 _ _ _ Rb_0
          clear b1 B0 Rb_0
          obtain ⟨cb_1_0, cb_1_1⟩ := cell7t Rb_1
          have S2 := box B1.size
          have Lb_2 : Box (w.heap.size < w1.heap.size) := box (Array.getElem?_eq_some_iff.1 Rb_1).1
          have Rt_2 := heap_alloc_last w1 (Obj.cells (cw 6 0) 72)
          have B2 := btr7 B1 (bal7 w1 (Obj.cells (cw 6 0) 72))
          have Rb_2 := heap_of (bal7 w1 (Obj.cells (cw 6 0) 72)) _ _ _ Rb_1
          clear B1 Rb_1 cb_1_0 cb_1_1
          obtain ⟨cb_2_0, cb_2_1⟩ := cell7t Rb_2
          have ct_2_0 := row_cell Rt_2
          go_wp2_with fail
          refine (K2.out _).mono ?_
          rintro r w' ⟨rfl, hw'⟩
          obtain rfl := hw'.symm
          go_wp2
          go_ret
          exact ⟨rfl, B2⟩
        · subst hc
          obtain ⟨Rb_0, B0⟩ := kopn1 w (Obj.cells #[.int .u64 (x : Nat), .int .u64 (y : Nat)] 25)
          go_enter Tryd.func51, Tryd.ntmps51
          go_wp2_with fail
          refine (K1.out _).mono ?_
          rintro r w1 ⟨rfl, b1⟩
          have B1 : Below w.heap.size w w1 := btr7 B0 b1
          have Rb_1 := heap_of b1 _ _ _ Rb_0
          clear b1 B0 Rb_0
          obtain ⟨cb_1_0, cb_1_1⟩ := cell7t Rb_1
          have S2 := box B1.size
          have Lb_2 : Box (w.heap.size < w1.heap.size) := box (Array.getElem?_eq_some_iff.1 Rb_1).1
          have Rt_2 := heap_alloc_last w1 (Obj.cells (cw 6 0) 72)
          have B2 := btr7 B1 (bal7 w1 (Obj.cells (cw 6 0) 72))
          have Rb_2 := heap_of (bal7 w1 (Obj.cells (cw 6 0) 72)) _ _ _ Rb_1
          clear B1 Rb_1 cb_1_0 cb_1_1
          obtain ⟨cb_2_0, cb_2_1⟩ := cell7t Rb_2
          have ct_2_0 := row_cell Rt_2
          go_wp2_with fail
          refine (K2.out _).mono ?_
          rintro r w' ⟨rfl, hw'⟩
          obtain rfl := hw'.symm
          go_wp2
          go_ret
          exact ⟨rfl, B2⟩
      · have z1 := zf.2 c3
        rw [if_pos (by simpa using c3)] at hc
        cases neg
        · subst hc
          obtain ⟨Rb_0, B0⟩ := kopn1 w (Obj.cells #[.int .u64 (x : Nat), .int .u64 (y : Nat)] 25)
          go_enter Tryd.func51, Tryd.ntmps51
          go_wp2_with fail
          refine (K1.out _).mono ?_
          rintro r w1 ⟨rfl, b1⟩
          have B1 : Below w.heap.size w w1 := btr7 B0 b1
          have Rb_1 := heap_of b1 _ _ _ Rb_0
          clear b1 B0 Rb_0
          obtain ⟨cb_1_0, cb_1_1⟩ := cell7t Rb_1
          have S2 := box B1.size
          have Lb_2 : Box (w.heap.size < w1.heap.size) := box (Array.getElem?_eq_some_iff.1 Rb_1).1
          have Rt_2 := heap_alloc_last w1 (Obj.cells (cw 6 t) 72)
          have B2 := btr7 B1 (bal7 w1 (Obj.cells (cw 6 t) 72))
          have Rb_2 := heap_of (bal7 w1 (Obj.cells (cw 6 t) 72)) _ _ _ Rb_1
          clear B1 Rb_1 cb_1_0 cb_1_1
          obtain ⟨cb_2_0, cb_2_1⟩ := cell7t Rb_2
          have ct_2_0 := row_cell Rt_2
          go_wp2_with fail
          refine (K2.out _).mono ?_
          rintro r w' ⟨rfl, hw'⟩
          obtain rfl := hw'.symm
          go_wp2
          go_ret
          exact ⟨rfl, B2⟩
        · subst hc
          obtain ⟨Rb_0, B0⟩ := kopn1 w (Obj.cells #[.int .u64 (x : Nat), .int .u64 (y : Nat)] 25)
          go_enter Tryd.func51, Tryd.ntmps51
          go_wp2_with fail
          refine (K1.out _).mono ?_
          rintro r w1 ⟨rfl, b1⟩
          have B1 : Below w.heap.size w w1 := btr7 B0 b1
          have Rb_1 := heap_of b1 _ _ _ Rb_0
          clear b1 B0 Rb_0
          obtain ⟨cb_1_0, cb_1_1⟩ := cell7t Rb_1
          have S2 := box B1.size
          have Lb_2 : Box (w.heap.size < w1.heap.size) := box (Array.getElem?_eq_some_iff.1 Rb_1).1
          have Rt_2 := heap_alloc_last w1 (Obj.cells (cw 6 t) 72)
          have B2 := btr7 B1 (bal7 w1 (Obj.cells (cw 6 t) 72))
          have Rb_2 := heap_of (bal7 w1 (Obj.cells (cw 6 t) 72)) _ _ _ Rb_1
          clear B1 Rb_1 cb_1_0 cb_1_1
          obtain ⟨cb_2_0, cb_2_1⟩ := cell7t Rb_2
          have ct_2_0 := row_cell Rt_2
          go_wp2_with fail
          refine (K2.out _).mono ?_
          rintro r w' ⟨rfl, hw'⟩
          obtain rfl := hw'.symm
          go_wp2
          go_ret
          exact ⟨rfl, B2⟩
    · have b2 : ((e : Int) != 0) = true := by simp; omega
      rw [if_pos (by simpa using c2)] at hc
      cases neg
      · subst hc
        obtain ⟨Rb_0, B0⟩ := kopn1 w (Obj.cells #[.int .u64 (x : Nat), .int .u64 (y : Nat)] 25)
        go_enter Tryd.func51, Tryd.ntmps51
        go_wp2_with fail
        refine (K1.out _).mono ?_
        rintro r w1 ⟨rfl, b1⟩
        have B1 : Below w.heap.size w w1 := btr7 B0 b1
        have Rb_1 := heap_of b1 _ _ _ Rb_0
        clear b1 B0 Rb_0
        obtain ⟨cb_1_0, cb_1_1⟩ := cell7t Rb_1
        have S2 := box B1.size
        have Lb_2 : Box (w.heap.size < w1.heap.size) := box (Array.getElem?_eq_some_iff.1 Rb_1).1
        have Rt_2 := heap_alloc_last w1 (Obj.cells (cw 6 t) 72)
        have B2 := btr7 B1 (bal7 w1 (Obj.cells (cw 6 t) 72))
        have Rb_2 := heap_of (bal7 w1 (Obj.cells (cw 6 t) 72)) _ _ _ Rb_1
        clear B1 Rb_1 cb_1_0 cb_1_1
        obtain ⟨cb_2_0, cb_2_1⟩ := cell7t Rb_2
        have ct_2_0 := row_cell Rt_2
        go_wp2_with fail
        refine (K2.out _).mono ?_
        rintro r w' ⟨rfl, hw'⟩
        obtain rfl := hw'.symm
        go_wp2
        go_ret
        exact ⟨rfl, B2⟩
      · subst hc
        obtain ⟨Rb_0, B0⟩ := kopn1 w (Obj.cells #[.int .u64 (x : Nat), .int .u64 (y : Nat)] 25)
        go_enter Tryd.func51, Tryd.ntmps51
        go_wp2_with fail
        refine (K1.out _).mono ?_
        rintro r w1 ⟨rfl, b1⟩
        have B1 : Below w.heap.size w w1 := btr7 B0 b1
        have Rb_1 := heap_of b1 _ _ _ Rb_0
        clear b1 B0 Rb_0
        obtain ⟨cb_1_0, cb_1_1⟩ := cell7t Rb_1
        have S2 := box B1.size
        have Lb_2 : Box (w.heap.size < w1.heap.size) := box (Array.getElem?_eq_some_iff.1 Rb_1).1
        have Rt_2 := heap_alloc_last w1 (Obj.cells (cw 6 t) 72)
        have B2 := btr7 B1 (bal7 w1 (Obj.cells (cw 6 t) 72))
        have Rb_2 := heap_of (bal7 w1 (Obj.cells (cw 6 t) 72)) _ _ _ Rb_1
        clear B1 Rb_1 cb_1_0 cb_1_1
        obtain ⟨cb_2_0, cb_2_1⟩ := cell7t Rb_2
        have ct_2_0 := row_cell Rt_2
        go_wp2_with fail
        refine (K2.out _).mono ?_
        rintro r w' ⟨rfl, hw'⟩
        obtain rfl := hw'.symm
        go_wp2
        go_ret
        exact ⟨rfl, B2⟩
end Go.Proofs.YtmndjhcmomejjaaDoor
namespace Go.Proofs.YtmndjhcmomejjaaDoor
set_option maxRecDepth 100000
set_option maxHeartbeats 40000000
set_option maxRecDepth 100000
open Go.RowKit WMath
set_option linter.unusedSimpArgs false
set_option linter.unusedVariables false
theorem rSign_yes (f : Int) (hf : Is4 f) (x y n : Nat) (o : Bool) (hx : x < 18446744073709551616) (hy : y < 18446744073709551616) (hn : y + 18446744073709551616 * x = n) (ho : okB f n = true) (hc : kN f n = o) (w : World) : Calls Tryd.prog 41 #[.int .u8 f, .agg #[.int .u64 (x : Nat), .int .u64 (y : Nat)]] w fun r w' => r = .returned (.bool o) ∧ Below w.heap.size w w' := by
  have hat := cw_at 6
  have hz := cw6z
  have hff := cw6f
  have hs0 := st0
  have hcs : ∀ x, ((cw 6 x).size = 6) = True := fun x => eq_true (cw_size 6 x)
  have f4 := is4_ok hf
  have fit := (okB_yes f4.1 ho).2
  have K1 := box (rk_fits f x y n true f4.1 hx hy hn ho)
  have K2 := box (rk_fields f hf x y n _ _ o hx hy hn fit hc rfl rfl)
  clear hf hx hy hn ho hc fit
  obtain ⟨Rb_0, B0⟩ := kopn1 w (Obj.cells #[.int .u64 (x : Nat), .int .u64 (y : Nat)] 25)
  go_enter Tryd.func41, Tryd.ntmps41
  go_wp2_with fail
  refine (K1.out _).mono ?_
  rintro r w1 ⟨rfl, b1⟩
  have B1 : Below w.heap.size w w1 := btr7 B0 b1
  have Rb_1 := heap_of b1 _ _ _ Rb_0
  clear b1 B0 Rb_0
  obtain ⟨cb_1_0, cb_1_1⟩ := cell7t Rb_1
  go_wp2_with fail
  refine (K2.out _).mono ?_
  rintro r w2 ⟨rfl, b2⟩
  have B2 : Below w.heap.size w w2 := btr7 B1 b2
  have Rb_2 := heap_of b2 _ _ _ Rb_1
  clear b2 B1 Rb_1 cb_1_0 cb_1_1
  obtain ⟨cb_2_0, cb_2_1⟩ := cell7t Rb_2
  have S3 := box B2.size
  have Lb_3 : Box (w.heap.size < w2.heap.size) := box (Array.getElem?_eq_some_iff.1 Rb_2).1
  have Rt_3 := heap_alloc_last w2 (Obj.cells (cw 6 (kT f n)) 72)
  have B3 := btr7 B2 (bal7 w2 (Obj.cells (cw 6 (kT f n)) 72))
  have Rb_3 := heap_of (bal7 w2 (Obj.cells (cw 6 (kT f n)) 72)) _ _ _ Rb_2
  clear B2 Rb_2 cb_2_0 cb_2_1
  obtain ⟨cb_3_0, cb_3_1⟩ := cell7t Rb_3
  have ct_3_0 := row_cell Rt_3
  go_wp2
  go_ret
  exact ⟨rfl, B3⟩
theorem rNaN_is (f : Int) (hf : Is4 f) (x y n c : Nat) (o : Bool) (hx : x < 18446744073709551616) (hy : y < 18446744073709551616) (hn : y + 18446744073709551616 * x = n) (hfit : Fit f n) (hc : kC f n = c) (ho : decide (8 ≤ c) = o) (w : World) : Calls Tryd.prog 31 #[.int .u8 f, .agg #[.int .u64 (x : Nat), .int .u64 (y : Nat)]] w fun r w' => r = .returned (.bool o) ∧ Below w.heap.size w w' := by
  have K1 := box (rk_class f hf x y n c hx hy hn hfit hc)
  have hd : decide ((8 : Int) ≤ (c : Int)) = o := by rw [← ho, decide_eq_decide]; omega
  clear hf hx hy hn hfit hc ho
  obtain ⟨Rb_0, B0⟩ := kopn1 w (Obj.cells #[.int .u64 (x : Nat), .int .u64 (y : Nat)] 25)
  go_enter Tryd.func31, Tryd.ntmps31
  go_wp2_with fail
  refine (K1.out _).mono ?_
  rintro r w1 ⟨rfl, b1⟩
  have B1 : Below w.heap.size w w1 := btr7 B0 b1
  have Rb_1 := heap_of b1 _ _ _ Rb_0
  clear b1 B0 Rb_0
  obtain ⟨cb_1_0, cb_1_1⟩ := cell7t Rb_1
  go_wp2
  go_ret
  exact ⟨rfl, B1⟩
end Go.Proofs.YtmndjhcmomejjaaDoor
namespace Go.Proofs.YtmndjhcmomejjaaDoor
set_option maxRecDepth 100000
set_option maxHeartbeats 40000000
set_option maxRecDepth 100000
open Go.RowKit WMath XMath
set_option linter.unusedSimpArgs false
set_option linter.unusedVariables false
theorem blen_low (n : Nat) (h : n ≠ 0) : 1 ≤ blen n ∧ 2 ^ (blen n - 1) ≤ n ∧ n < 2 ^ blen n := by
  have h1 := blen_iff n (blen n - 1)
  have h2 := (blen_iff n (blen n)).1 (Nat.le_refl _)
  have h3 := blen_iff n 0
  have h4 : 1 ≤ blen n := by
    rcases Nat.eq_zero_or_pos (blen n) with e | e
    · have := h3.1 (by omega)
      rw [Nat.pow_zero] at this
      omega
    · exact e
  exact ⟨h4, by omega, h2⟩
theorem blen_one : blen 1 = 1 := by decide
theorem top_whole (b : Bool) (n : Nat) (e : Int) (h : n ≠ 0) : topX ⟨b, n, 1, e⟩ = (blen n : Int) - 1 + e := by
  obtain ⟨h1, h2, h3⟩ := blen_low n h
  unfold topX tA tB lenD
  simp only [blen_one]
  have e1 : (max (-((blen n : Int) - ((1 : Nat) : Int))) 0).toNat = 0 := by omega
  have e2 : (max ((blen n : Int) - ((1 : Nat) : Int)) 0).toNat = blen n - 1 := by omega
  rw [e1, e2, Nat.pow_zero, Nat.mul_one, Nat.one_mul, if_neg (by omega)]
  omega
theorem fl_yes (x : XN) (a : Int) (n0 : x.n ≠ 0) (hd : x.d = 1) (h : a ≤ x.e) (h1 : -2097152 ≤ a) (h2 : a ≤ 2097152) (hl : nl (x.n * 2 ^ (x.e - a).toNat) ≤ 16384) : flX x a = ((x.n * 2 ^ (x.e - a).toNat, true), 0) := by
  unfold flX
  rw [if_neg (by omega), if_neg n0, if_pos h, if_pos hl, hd, Nat.div_one, Nat.mod_one]
  rfl
theorem nm8 {f : Int} (hf : Is4 f) : fE f - (pV f : Int) - lx f + 1 = ((oV f - 1 : Nat) : Int) ∧ 1 ≤ oV f ∧ lx f = 1 - fE f - (pV f : Int) ∧ pV f < 128 ∧ fE f ≤ 16383 ∧ 0 ≤ fE f := by
  rcases hf with rfl | rfl | rfl | rfl <;> decide +kernel
theorem blen_is (n k : Nat) (h1 : 2 ^ k ≤ n) (h2 : n < 2 ^ (k + 1)) : blen n = k + 1 := by
  have a := (blen_iff n (k + 1)).2 h2
  have b := blen_iff n k
  omega
theorem blen_shift (n k : Nat) (h : n ≠ 0) : blen (n * 2 ^ k) = blen n + k := by
  obtain ⟨l1, l2, l3⟩ := blen_low n h
  have := blen_is (n * 2 ^ k) (blen n - 1 + k) (by rw [Nat.pow_add]; exact Nat.mul_le_mul_right _ l2) (by
    rw [show blen n - 1 + k + 1 = blen n + k by omega, Nat.pow_add]
    exact Nat.mul_lt_mul_of_pos_right l3 (Nat.two_pow_pos _))
  omega
theorem mk_whole (neg : Bool) (s : Nat) (x : Int) (s0 : s ≠ 0) (h1 : -1048576 ≤ x) (h2 : x + (tz s : Int) ≤ 1048576) : mk neg s 1 x = (⟨neg, od s, 1, x + (tz s : Int)⟩, 0) := by
  have o1 : od 1 = 1 := od_odd 1 rfl
  have t1 : tz 1 = 0 := tz_odd 1 rfl
  unfold mk
  rw [if_neg s0, o1, t1, Nat.gcd_one_right, Nat.div_one, Nat.div_one]
  rw [if_pos (by omega)]
  congr 2
  omega
theorem bel_same {P : Program} {k : FuncId} {a : Array Value} {w : World} {v : Value} (h : Calls P k a w fun r w' => r = .returned v ∧ w' = w) : Calls P k a w fun r w' => r = .returned v ∧ Below w.heap.size w w' :=
  h.mono fun _ _ h => ⟨h.1, by rw [h.2]; exact Below.refl _ _⟩
theorem addX_is (X Y Z : XN) (hx : X.can) (hy : Y.can) (hz : Z.can) (bx : Bd X 128 20200) (bz : Bd Y 128 20200) (hv : X.val + Y.val = Z.val) : addX X Y = (Z, 0) := by
  have h1 := add_ok X Y 128 128 20200 20200 40657 81057 hx hy bx bz rfl rfl (by decide) (by decide)
  have h2 := add_good X Y hx hy h1.1
  have h3 := can_inj _ Z h2.1 hz (by rw [h2.2, hv])
  exact Prod.ext h3 h1.1
def gO (m : Int) (neg odd half more : Bool) : Bool :=
  if m = 0 then half && (more || odd) else if m = 4 then half else if m = 2 then (half || more) && neg else if m = 3 then (half || more) && !neg else false
def rS (W k : Nat) : Nat := W / 2 ^ k / 2
def rH (W k : Nat) : Bool := decide (W / 2 ^ k % 2 = 1)
def rM (W k : Nat) (more : Bool) : Bool := decide (W % 2 ^ k ≠ 0) || more
def rO (W k : Nat) : Bool := decide (rS W k % 2 = 1)
def rG (m : Int) (neg : Bool) (W k : Nat) (more : Bool) : Nat := if gO m neg (rO W k) (rH W k) (rM W k more) = true then rS W k + 1 else rS W k
def stE (f T : Int) : Int := max T (1 - fE f)
def eS (f : Int) (neg : Bool) (j S : Nat) : Nat := j * 2 ^ pV f + S + (if neg then 2 ^ wV f else 0)
def ovB (f m : Int) (neg : Bool) : Nat := if gO m neg false true true = true then eInf f neg else eGreatest f neg
def tnB (f m : Int) (neg : Bool) (T : Int) (W : Nat) (more : Bool) : Bool := decide (T - fP f + (blen (rG m neg W 0 more) : Int) < 1 - fE f)
def dK (f T : Int) : Nat := (stE f T - T).toNat
def dJ (f T : Int) : Nat := (stE f T - (1 - fE f)).toNat
def dlv (f m : Int) (neg : Bool) (T : Int) (W : Nat) (more : Bool) : Nat × Int :=
  if fE f < stE f T - fP f + (blen (rG m neg W (dK f T) more) : Int) then (ovB f m neg, 5)
  else (eS f neg (dJ f T) (rG m neg W (dK f T) more), if (rH W (dK f T) || rM W (dK f T) more) = true then (if tnB f m neg T W more = true then 3 else 1) else 0)

theorem fp8 {f : Int} (hf : Is4 f) : fP f = (pV f : Int) + 1 := by rcases hf with rfl | rfl | rfl | rfl <;> decide
theorem nl_1 : nl 1 ≤ 16384 := Nat.le_trans (nl_le_of 1 1 (by decide)) (by decide)
def xW (f : Int) (x : XN) : Nat := (flX x (topX x - fP f)).1.1
def xM (f : Int) (x : XN) : Bool := !(flX x (topX x - fP f)).1.2
def qW (P n : Nat) : Nat := if P + 1 ≤ blen n then n / 2 ^ (blen n - (P + 1)) else n * 2 ^ (P + 1 - blen n)
def qM (P n : Nat) (more : Bool) : Bool := if P + 1 ≤ blen n then decide (n % 2 ^ (blen n - (P + 1)) ≠ 0) || more else more
theorem blen_more (s n q : Nat) (s0 : s ≠ 0) (hq : q < 2 ^ n) : blen (s * 2 ^ n + q) = blen s + n := by
  have h := blen_push q n s hq s0
  rw [Nat.add_comm q, Nat.mul_comm (2 ^ n) s] at h
  omega
theorem div_more (s n q : Nat) (hq : q < 2 ^ n) : (s * 2 ^ n + q) / 2 ^ n = s := by
  rw [Nat.add_comm, Nat.add_mul_div_right _ _ (Nat.two_pow_pos n), Nat.div_eq_of_lt hq, Nat.zero_add]
theorem mod_more (s n q : Nat) (hq : q < 2 ^ n) : (s * 2 ^ n + q) % 2 ^ n = q := by
  rw [Nat.add_comm, Nat.add_mul_mod_self_right, Nat.mod_eq_of_lt hq]
theorem qdec_or {a b c : Prop} [Decidable a] [Decidable b] [Decidable c] (h : a ↔ (b ∨ c)) : decide a = (decide b || decide c) := by
  rw [Bool.eq_iff_iff, Bool.or_eq_true, decide_eq_true_iff, decide_eq_true_iff, decide_eq_true_iff]
  exact h
theorem q_more (P s n q : Nat) (s0 : s ≠ 0) (hq : q < 2 ^ n) (h : q ≠ 0 → P + 1 ≤ blen s) : qW P (s * 2 ^ n + q) = qW P s ∧ qM P (s * 2 ^ n + q) false = qM P s (decide (q ≠ 0)) := by
  have hb := blen_more s n q s0 hq
  unfold qW qM
  rw [hb]
  by_cases c : P + 1 ≤ blen s
  · rw [if_pos c, if_pos c, if_pos (by omega), if_pos (by omega), show blen s + n - (P + 1) = n + (blen s - (P + 1)) by omega]
    constructor
    · rw [Nat.pow_add, ← Nat.div_div_eq_div_mul, div_more s n q hq]
    · rw [Bool.or_false, Bool.or_comm]
      refine qdec_or ?_
      have := mod_pow_zero (s * 2 ^ n + q) n (blen s - (P + 1))
      rw [mod_more s n q hq, div_more s n q hq] at this
      rw [Ne, this]
      omega
  · have q0 : q = 0 := by omega
    subst q0
    have z0 : decide ((0 : Nat) ≠ 0) = false := rfl
    rw [if_neg c, if_neg c, z0]
    simp only [Nat.add_zero]
    by_cases c2 : P + 1 ≤ blen s + n
    · rw [if_pos c2, if_pos c2]
      have e : s * 2 ^ n = s * 2 ^ (P + 1 - blen s) * 2 ^ (blen s + n - (P + 1)) := by
        rw [Nat.mul_assoc, ← Nat.pow_add]
        congr 2
        omega
      rw [e]
      refine ⟨Nat.mul_div_cancel _ (Nat.two_pow_pos _), ?_⟩
      rw [Bool.or_false, decide_eq_false_iff_not]
      exact fun q => q (Nat.mul_mod_left _ _)
    · rw [if_neg c2, if_neg c2, Nat.mul_assoc, ← Nat.pow_add]
      exact ⟨by congr 2; omega, rfl⟩
theorem q_longer (P s n : Nat) (s0 : s ≠ 0) : qW P (s * 2 ^ n) = qW P s ∧ qM P (s * 2 ^ n) false = qM P s false := by
  have := q_more P s n 0 s0 (Nat.two_pow_pos n) (fun h => absurd rfl h)
  have z0 : decide ((0 : Nat) ≠ 0) = false := rfl
  rw [Nat.add_zero, z0] at this
  exact this
theorem x_odd {f : Int} (hf : Is4 f) (b : Bool) (n : Nat) (e : Int) (ho : n % 2 = 1) (hl : blen n ≤ 45000) (h1 : -1200000 ≤ e) (h2 : e ≤ 1200000) :
    xW f ⟨b, n, 1, e⟩ = qW (pV f + 1) n ∧ xM f ⟨b, n, 1, e⟩ = qM (pV f + 1) n false := by
  have n0 : n ≠ 0 := by omega
  obtain ⟨n1, n2, n3, n4, n5, n6⟩ := nm8 hf
  have hp := fp8 hf
  have tw := top_whole b n e n0
  obtain ⟨l1, l2, l3⟩ := blen_low n n0
  unfold xW xM qW qM
  obtain ⟨a, hA⟩ : ∃ a, topX ⟨b, n, 1, e⟩ - fP f = a := ⟨_, rfl⟩
  rw [hA]
  by_cases c : a ≤ e
  · have sh := blen_shift n (e - a).toNat n0
    have := fl_yes ⟨b, n, 1, e⟩ a n0 rfl c (by omega) (by omega) (by
      show nl (n * 2 ^ (e - a).toNat) ≤ 16384
      unfold nl
      omega)
    rw [this]
    simp only
    by_cases c2 : pV f + 1 + 1 ≤ blen n
    · have : blen n = pV f + 1 + 1 := by omega
      have z : (e - a).toNat = 0 := by omega
      rw [if_pos c2, if_pos c2, this, Nat.sub_self, z, Nat.pow_zero, Nat.div_one, Nat.mul_one, Nat.mod_one]
      exact ⟨rfl, rfl⟩
    · rw [if_neg c2, if_neg c2, show (e - a).toNat = pV f + 1 + 1 - blen n by omega]
      exact ⟨rfl, rfl⟩
  · have z : flX ⟨b, n, 1, e⟩ a = ((n / (1 * 2 ^ (a - e).toNat), false), 0) := by
      unfold flX
      rw [if_neg (by omega), if_neg n0, if_neg c, if_neg (by omega)]
    rw [z, Nat.one_mul, if_pos (by omega), if_pos (by omega), show (a - e).toNat = blen n - (pV f + 1 + 1) by omega]
    refine ⟨rfl, ?_⟩
    have : n % 2 ^ (blen n - (pV f + 1 + 1)) ≠ 0 := by
      obtain ⟨i, hi⟩ : ∃ i, blen n - (pV f + 1 + 1) = i + 1 := ⟨blen n - (pV f + 1 + 1) - 1, by omega⟩
      rw [hi]
      intro q
      have := (mod_pow_zero n 1 i).1 (by rw [Nat.add_comm]; exact q)
      omega
    rw [decide_eq_true this]
    rfl
theorem x_whole {f : Int} (hf : Is4 f) (b : Bool) (N : Nat) (e : Int) (n0 : N ≠ 0) (hl : blen N ≤ 45000) (h1 : -1000000 ≤ e) (h2 : e ≤ 1000000) :
    mk b N 1 e = (⟨b, od N, 1, e + (tz N : Int)⟩, 0) ∧ (XN.mk b (od N) 1 (e + (tz N : Int))).can ∧ od N ≠ 0 ∧ nl (od N) ≤ 8192 ∧ topX ⟨b, od N, 1, e + (tz N : Int)⟩ = e + (blen N : Int) - 1 ∧ xW f ⟨b, od N, 1, e + (tz N : Int)⟩ = qW (pV f + 1) N ∧ xM f ⟨b, od N, 1, e + (tz N : Int)⟩ = qM (pV f + 1) N false := by
  obtain ⟨o1, o2⟩ := od_is N n0
  have od0 : od N ≠ 0 := by omega
  have tl := tz_blen N
  have bs := blen_shift (od N) (tz N) od0
  rw [← o1] at bs
  have m := mk_whole b N e n0 (by omega) (by omega)
  have lo : nl (od N) ≤ 8192 := by unfold nl; omega
  have lN : nl N ≤ 16384 := by unfold nl; omega
  obtain ⟨x1, x2⟩ := x_odd hf b (od N) (e + (tz N : Int)) o2 (by omega) (by omega) (by omega)
  have ql := q_longer (pV f + 1) (od N) (tz N) od0
  rw [← o1] at ql
  refine ⟨m, ?_, od0, lo, ?_, by rw [x1, ql.1], by rw [x2, ql.2]⟩
  · have := mk_can b N 1 e lN nl_1 (by decide) (by rw [m])
    rw [m] at this
    exact this
  · rw [top_whole b (od N) _ od0]
    omega
def rnd (f m : Int) (x : XN) : Nat × Int := if x.n = 0 then (0, 0) else dlv f m x.b (topX x) (xW f x) (xM f x)
end Go.Proofs.YtmndjhcmomejjaaDoor
namespace Go.Proofs.YtmndjhcmomejjaaDoor
set_option maxRecDepth 100000
set_option maxHeartbeats 40000000
set_option maxRecDepth 100000
open WMath
open Go.ChangeShapes Go.WideShapes Go.ChangeAt Go.RowKit
theorem trod_row4 {H : Type} {enc : TypeId × Value → H} {P : Program} {w : World} {base : Nat} {spare : Nat → Bool} {held : Bool} {t : TypeId} {f0 f1 f2 f3 : Field} {fuel : Nat} {cs : List Value} {x : DataW H × List MemPlace} (ht : P.underlying t = some (.struct #[f0, f1, f2, f3])) (h : DataW.trod enc P w base spare held fuel t cs = some x) :
    ∃ y0 y1 y2 y3 n, x = (.agg [y0.1, y1.1, y2.1, y3.1], y0.2 ++ (y1.2 ++ (y2.2 ++ y3.2))) ∧ DataW.trod enc P w base spare held n f0.type ((cs.drop f0.offset).take (P.cellsOf f0.type)) = some y0 ∧
      DataW.trod enc P w base spare held n f1.type ((cs.drop f1.offset).take (P.cellsOf f1.type)) = some y1 ∧ DataW.trod enc P w base spare held n f2.type ((cs.drop f2.offset).take (P.cellsOf f2.type)) = some y2 ∧
      DataW.trod enc P w base spare held n f3.type ((cs.drop f3.offset).take (P.cellsOf f3.type)) = some y3 := by
  obtain ⟨xs, n, _, rfl, hl, hlen, hf⟩ := DataW.trod_struct ht h
  match xs, hlen with
  | [y0, y1, y2, y3], _ => exact ⟨y0, y1, y2, y3, n, by simp, by simpa using hf 0 f0 rfl, by simpa using hf 1 f1 rfl, by simpa using hf 2 f2 rfl, by simpa using hf 3 f3 rfl⟩


theorem list4' {α : Type} (l : List α) (h : l.length = 4) : ∃ a b c d, l = [a, b, c, d] := by
  match l, h with
  | [a, b, c, d], _ => exact ⟨a, b, c, d, rfl⟩

theorem row_read {w : World} {fuel : Nat} {enc : TypeId × Value → Unit} {base : Nat} {spare : Nat → Bool} {held : Bool} {l : List Value} {a b c : Int} {s : List UInt8} {p : List MemPlace}
    (h : DataW.trod enc Tryd.prog w base spare held fuel 141 l = some (.agg [.lit (.int .i64 a), .lit (.int .i64 b), .lit (.int .i64 c), .lit (.string s)], p)) (hl : l.length = 4) :
    l = [.int .i64 a, .int .i64 b, .int .i64 c, .string ⟨⟨s⟩⟩] := by
  have h3 : Tryd.prog.cellsOf 3 = 1 := by kernel_rfl
  have h9 : Tryd.prog.cellsOf 9 = 1 := by kernel_rfl
  obtain ⟨c0, c1, c2, c3, rfl⟩ := list4' l hl
  obtain ⟨y0, y1, y2, y3, n, hx, g0, g1, g2, g3⟩ := trod_row4 Tryd.underlying141 h
  simp only [h3, h9] at g0 g1 g2 g3
  obtain ⟨x0, e0, k0, w0⟩ := DataW.trod_int Tryd.underlying3 g0
  obtain ⟨x1, e1, k1, w1⟩ := DataW.trod_int Tryd.underlying3 g1
  obtain ⟨x2, e2, k2, w2⟩ := DataW.trod_int Tryd.underlying3 g2
  obtain ⟨x3, e3, k3, w3⟩ := DataW.trod_string Tryd.underlying9 g3
  simp at e0 e1 e2 e3
  subst e0 e1 e2 e3
  rw [k0, k1, k2, k3] at hx
  simp at hx
  obtain ⟨⟨rfl, rfl, rfl, rfl⟩, _⟩ := hx
  rfl

def laid7 : List (String × DataW Unit) := [("abacus/shape.formats", Rows.laid_abacus_shape_formats)]
theorem gTab7 : Tryd.prog.globalNamed "abacus/shape.formats" = some 0 := by kernel_rfl
theorem gType7 : (Tryd.prog.globals[0]?).map (·.type) = some 157 := by kernel_rfl

theorem of_laid7 {W : World} (h : laidMetH Tryd.prog laid7 W) : FAt W := by
  have hce : Tryd.prog.cellsOf 141 = 4 := by kernel_rfl
  have hct : Tryd.prog.cellsOf 157 = 16 := by kernel_rfl
  rw [MakeChecks.laidMetH_plain _ _ _ (by kernel_rfl)] at h
  obtain ⟨ps, ⟨g', t', cs, fuel, p, q, hg', ht', hvar, hd, _, _⟩, _⟩ := h
  obtain rfl := Option.some.inj (gTab7.symm.trans hg')
  obtain rfl := Option.some.inj (gType7.symm.trans ht')
  obtain ⟨xs, m, rfl, hx, hl, hxl, hel⟩ := DataW.trod_array Tryd.underlying157 hd
  rw [hce] at hel
  rw [hct] at hl
  have hl2 : cs.size = 16 := by simpa using hl
  match xs, hxl with
  | [y0, y1, y2, y3], _ =>
    have hx1 := congrArg Prod.fst hx
    simp [Rows.laid_abacus_shape_formats] at hx1
    obtain ⟨h0, h1, h2, h3⟩ := hx1
    have q0 := hel 0 (by decide)
    have q1 := hel 1 (by decide)
    have q2 := hel 2 (by decide)
    have q3 := hel 3 (by decide)
    simp only [List.getElem?_cons_zero, List.getElem?_cons_succ] at q0 q1 q2 q3
    have z0 := row_read (p := y0.2) (by rw [q0, h0]) (by simp; omega)
    have z1 := row_read (p := y1.2) (by rw [q1, h1]) (by simp; omega)
    have z2 := row_read (p := y2.2) (by rw [q2, h2]) (by simp; omega)
    have z3 := row_read (p := y3.2) (by rw [q3, h3]) (by simp; omega)
    have hcs : ∀ i, i < 16 → cs.toList[i]? = fcells[i]? := by
      intro i hi
      have e0 : cs.toList[i]? = (cs.toList.drop (i / 4 * 4))[i % 4]? := by rw [List.getElem?_drop]; congr 1; omega
      have e1 : (cs.toList.drop (i / 4 * 4))[i % 4]? = ((cs.toList.drop (i / 4 * 4)).take 4)[i % 4]? := by rw [List.getElem?_take, if_pos (by omega)]
      rw [e0, e1]
      have : i / 4 = 0 ∨ i / 4 = 1 ∨ i / 4 = 2 ∨ i / 4 = 3 := by omega
      have hj : i % 4 = 0 ∨ i % 4 = 1 ∨ i % 4 = 2 ∨ i % 4 = 3 := by omega
      have hi2 : i = i / 4 * 4 + i % 4 := by omega
      rcases this with e | e | e | e <;> rw [e] at hi2 ⊢ <;> rcases hj with k | k | k | k <;> rw [k] at hi2 ⊢ <;> subst hi2 <;> first | (rw [z0]; rfl) | (rw [z1]; rfl) | (rw [z2]; rfl) | (rw [z3]; rfl)
    intro i hi
    rw [World.var?_cell gTab7 hvar i, ← hcs i hi]
    simp

theorem door_met7 (os : Os) (args : Array Value) : laidMetH Tryd.prog laid7 ((World.doorLaid Tryd.prog 400 os).forCall (fun _ _ => 0) ⟨#[], args, []⟩).memory :=
  laidMetH_of_parts3 (fuel := 8) (laidMet_of_run' 8 (by kernel_rfl) (by kernel_rfl)) (by kernel_rfl) (by kernel_rfl)
end Go.Proofs.YtmndjhcmomejjaaDoor
namespace Go.Proofs.YtmndjhcmomejjaaDoor
set_option maxRecDepth 100000
set_option maxHeartbeats 40000000
set_option maxRecDepth 100000
open Go.RowKit WMath
set_option linter.unusedSimpArgs false
set_option linter.unusedVariables false
def bls (l : List (Nat × Nat)) : Array Value := (l.flatMap fun p => [Value.int .u64 (p.1 : Nat), Value.int .u64 (p.2 : Nat)]).toArray
def okP (f : Int) (p : Nat × Nat) : Bool := okB f (p.2 + 18446744073709551616 * p.1)
theorem bls_at (l : List (Nat × Nat)) (k : Nat) (p : Nat × Nat) (h : l[k]? = some p) : (bls l)[k * 2]? = some (.int .u64 (p.1 : Nat)) ∧ (bls l)[k * 2 + 1]? = some (.int .u64 (p.2 : Nat)) := by
  unfold bls
  rw [List.getElem?_toArray, List.getElem?_toArray]
  induction l generalizing k with
  | nil => simp at h
  | cons a t ih =>
    cases k with
    | zero =>
      simp at h
      subst h
      simp
    | succ k =>
      simp only [List.getElem?_cons_succ] at h
      have := ih k h
      rw [show (k + 1) * 2 = k * 2 + 1 + 1 by omega]
      simpa using this
theorem bls_cell {w : World} {g : Nat} {T : TypeId} {l : List (Nat × Nat)} (row : w.heap[g]? = some (.cells (bls l) T)) (k : Nat) (p : Nat × Nat) (h : l[k]? = some p) : w.cell? ⟨g, k * 2, none⟩ = some (.int .u64 (p.1 : Nat)) ∧ w.cell? ⟨g, k * 2 + 1, none⟩ = some (.int .u64 (p.2 : Nat)) := by
  obtain ⟨a, b⟩ := bls_at l k p h
  exact ⟨(cell_of_row w g (k * 2) _ _ _ row).trans a, (cell_of_row w g (k * 2 + 1) _ _ _ row).trans b⟩
theorem rSig_is (f : Int) (hf : Is4 f) (x y n c : Nat) (o : Bool) (hx : x < 18446744073709551616) (hy : y < 18446744073709551616) (hn : y + 18446744073709551616 * x = n) (hfit : Fit f n) (hc : kC f n = c) (ho : decide (c = 8) = o) (w : World) : Calls Tryd.prog 35 #[.int .u8 f, .agg #[.int .u64 (x : Nat), .int .u64 (y : Nat)]] w fun r w' => r = .returned (.bool o) ∧ Below w.heap.size w w' := by
  have K1 := box (rk_class f hf x y n c hx hy hn hfit hc)
  have hd : ((c : Int) == 8) = o := by
    rw [← ho]
    by_cases c7 : c = 8
    · rw [decide_eq_true c7, c7]; rfl
    · rw [decide_eq_false c7, beq_eq_false_iff_ne]; omega
  clear hf hx hy hn hfit hc ho
  obtain ⟨Rb_0, B0⟩ := opn1 w (Obj.cells #[.int .u64 (x : Nat), .int .u64 (y : Nat)] 25)
  go_enter Tryd.func35, Tryd.ntmps35
  go_wp2_with fail
  refine (K1.out _).mono ?_
  rintro r w1 ⟨rfl, b1⟩
  have B1 : Below w.heap.size w w1 := btr B0 b1
  have Rb_1 := heap_of b1 _ _ _ Rb_0
  clear b1 B0 Rb_0
  obtain ⟨cb_1_0, cb_1_1⟩ := cells2s Rb_1
  go_wp2
  go_ret
  exact ⟨rfl, B1⟩
theorem two_row (x1 y1 x2 y2 : Nat) (T : TypeId) (g : Nat) (w : World) (hg : w.heap.size = g) : (w.alloc (.cells #[.int .u64 (x1 : Nat), .int .u64 (y1 : Nat), .int .u64 (x2 : Nat), .int .u64 (y2 : Nat)] T)).heap[g]? = some (.cells (bls [(x1, y1), (x2, y2)]) T) := by
  rw [← hg]
  exact heap_alloc_last _ _
theorem two_lim {x1 y1 x2 y2 : Nat} (hx1 : x1 < 18446744073709551616) (hy1 : y1 < 18446744073709551616) (hx2 : x2 < 18446744073709551616) (hy2 : y2 < 18446744073709551616) : Box (∀ p ∈ [(x1, y1), (x2, y2)], p.1 < 18446744073709551616 ∧ p.2 < 18446744073709551616) := box (fun p hp => by
  rcases List.mem_cons.1 hp with rfl | h
  · exact ⟨hx1, hy1⟩
  · rcases List.mem_cons.1 h with rfl | h
    · exact ⟨hx2, hy2⟩
    · exact absurd h List.not_mem_nil)
end Go.Proofs.YtmndjhcmomejjaaDoor
namespace Go.Proofs.YtmndjhcmomejjaaDoor
set_option maxRecDepth 100000
set_option maxHeartbeats 40000000
set_option maxRecDepth 100000
open Go.RowKit WMath XMath
set_option linter.unusedSimpArgs false
set_option linter.unusedVariables false
def sumN (sa sb : Bool) (X Y n : Nat) : Nat := if sa = sb then X * 2 ^ n + Y else X * 2 ^ n - Y
theorem sum_rat (sa sb : Bool) (X Y n : Nat) (ey : Int) (hg : Y ≤ X * 2 ^ n) : sgn sa * ((X : Rat) / ((1 : Nat) : Rat)) * (2 : Rat) ^ (ey + (n : Int)) + sgn sb * ((Y : Rat) / ((1 : Nat) : Rat)) * (2 : Rat) ^ ey = sgn sa * (((sumN sa sb X Y n : Nat) : Rat) / ((1 : Nat) : Rat)) * (2 : Rat) ^ ey := by
  have one : ∀ z : Rat, z / ((1 : Nat) : Rat) = z := fun z => by
    rw [show ((1 : Nat) : Rat) = 1 from rfl, Rat.div_def, show (1 : Rat)⁻¹ = 1 by decide +kernel, Rat.mul_one]
  rw [one, one, one, p2add, p2nat]
  generalize (2 : Rat) ^ ey = E
  unfold sumN
  by_cases c : sa = sb
  · subst c
    rw [if_pos rfl, Rat.natCast_add, Rat.natCast_mul]
    generalize ((2 ^ n : Nat) : Rat) = H
    grind
  · rw [if_neg c]
    have hs : sgn sb = - sgn sa := by
      unfold sgn
      cases sa <;> cases sb <;> first | exact absurd rfl c | decide +kernel
    have hN : ((X * 2 ^ n - Y : Nat) : Rat) + (Y : Rat) = (X : Rat) * ((2 ^ n : Nat) : Rat) := by
      rw [← Rat.natCast_add, ← Rat.natCast_mul, Nat.sub_add_cancel hg]
    rw [hs]
    generalize ((2 ^ n : Nat) : Rat) = H at *
    generalize ((X * 2 ^ n - Y : Nat) : Rat) = K at *
    grind
theorem bd_whole (b : Bool) (A : Nat) (x : Int) (A0 : A ≠ 0) (hA : A < 2 ^ 128) (x1 : -20000 ≤ x) (x2 : x ≤ 20000) : Bd ⟨b, od A, 1, x + (tz A : Int)⟩ 128 20200 := by
  have tA := tz_blen A
  have bA := (blen_iff A 128).2 hA
  obtain ⟨o1, o2⟩ := od_is A A0
  have le : od A ≤ A := by
    have p := Nat.two_pow_pos (tz A)
    have := Nat.mul_le_mul_left (od A) p
    rw [Nat.mul_one] at this
    omega
  exact ⟨Nat.lt_of_le_of_lt le hA, by show 1 < 2 ^ 128; decide, by show -((20200 : Nat) : Int) ≤ x + (tz A : Int); omega, by show x + (tz A : Int) ≤ ((20200 : Nat) : Int); omega⟩
theorem add_num {f : Int} (hf : Is4 f) (m : Int) (sa sb : Bool) (X Y n : Nat) (ex ey : Int) (X0 : X ≠ 0) (Y0 : Y ≠ 0) (hX : X < 2 ^ 128) (hY : Y < 2 ^ 128) (hn : ex = ey + (n : Int)) (hg : Y ≤ X * 2 ^ n) (x1 : -20000 ≤ ex) (x2 : ex ≤ 20000) (y1 : -20000 ≤ ey) (y2 : ey ≤ 20000) (N : Nat) (hN : sumN sa sb X Y n = N) (N0 : N ≠ 0) :
    ∃ (k : Nat) (e : Int), addX ⟨sa, od X, 1, ex + (tz X : Int)⟩ ⟨sb, od Y, 1, ey + (tz Y : Int)⟩ = (⟨sa, k, 1, e⟩, 0) ∧ addX ⟨sb, od Y, 1, ey + (tz Y : Int)⟩ ⟨sa, od X, 1, ex + (tz X : Int)⟩ = (⟨sa, k, 1, e⟩, 0) ∧ (XN.mk sa k 1 e).can ∧ nl k ≤ 8192 ∧ k ≠ 0 ∧
      rnd f m ⟨sa, k, 1, e⟩ = dlv f m sa (ey + (blen N : Int) - 1) (qW (pV f + 1) N) (qM (pV f + 1) N false) := by
  have bX := (blen_iff X 128).2 hX
  have bY := (blen_iff Y 128).2 hY
  have bN : blen N ≤ 45000 := by
    have : blen N ≤ 128 + n + 1 := by
      apply blen_le_of
      have h1 : X * 2 ^ n < 2 ^ (128 + n) := by rw [Nat.pow_add]; exact (Nat.mul_lt_mul_right (Nat.two_pow_pos n)).2 hX
      have h2 : N ≤ X * 2 ^ n + X * 2 ^ n := by rw [← hN]; unfold sumN; split <;> omega
      rw [Nat.pow_succ]
      omega
    omega
  obtain ⟨w1, w2, w3, w4, w5, w6, w7⟩ := x_whole hf sa N ey N0 bN (by omega) (by omega)
  obtain ⟨u1, u2, u3, u4, u5, u6, u7⟩ := x_whole hf sa X ex X0 (by omega) (by omega) (by omega)
  obtain ⟨v1, v2, v3, v4, v5, v6, v7⟩ := x_whole hf sb Y ey Y0 (by omega) (by omega) (by omega)
  have wv := mk_val sa N 1 ey (by decide) (by rw [w1])
  have uv := mk_val sa X 1 ex (by decide) (by rw [u1])
  have vv := mk_val sb Y 1 ey (by decide) (by rw [v1])
  rw [w1] at wv
  rw [u1] at uv
  rw [v1] at vv
  have sr := sum_rat sa sb X Y n ey hg
  rw [← hn, hN] at sr
  have hv : (XN.mk sa (od X) 1 (ex + (tz X : Int))).val + (XN.mk sb (od Y) 1 (ey + (tz Y : Int))).val = (XN.mk sa (od N) 1 (ey + (tz N : Int))).val := by
    rw [uv, vv, wv]
    exact sr
  have B1 := bd_whole sa X ex X0 hX x1 x2
  have B2 := bd_whole sb Y ey Y0 hY y1 y2
  refine ⟨od N, ey + (tz N : Int), addX_is _ _ _ u2 v2 w2 B1 B2 hv, addX_is _ _ _ v2 u2 w2 B2 B1 (by rw [Rat.add_comm]; exact hv), w2, w4, w3, ?_⟩
  unfold rnd
  rw [if_neg w3, w5, w6, w7]
def kM (f : Int) (n : Nat) : Nat := kE f n * 2 ^ pV f + kT f n
theorem kC_all (f : Int) (n : Nat) : (kE f n = oV f ∧ kT f n = 0 ∧ kC f n = if kN f n then 0 else 7) ∨ (kE f n = oV f ∧ kT f n ≠ 0 ∧ kT f n < 2 ^ (pV f - 1) ∧ kC f n = 8) ∨ (kE f n = oV f ∧ 2 ^ (pV f - 1) ≤ kT f n ∧ kC f n = 9) ∨
    (kE f n < oV f ∧ kE f n ≠ 0 ∧ kC f n = if kN f n then 1 else 6) ∨ (kE f n < oV f ∧ kE f n = 0 ∧ kT f n ≠ 0 ∧ kC f n = if kN f n then 2 else 5) ∨ (kE f n < oV f ∧ kE f n = 0 ∧ kT f n = 0 ∧ kC f n = if kN f n then 3 else 4) := by
  have el := kE_le (f := f) n
  have p := Nat.two_pow_pos (pV f - 1)
  unfold kC
  by_cases c1 : kE f n = oV f
  · by_cases c2 : kT f n = 0
    · left
      refine ⟨c1, c2, ?_⟩
      (repeat' split) <;> first | rfl | omega | simp_all
    · by_cases c3 : kT f n < 2 ^ (pV f - 1)
      · right; left
        refine ⟨c1, c2, c3, ?_⟩
        (repeat' split) <;> first | rfl | omega | simp_all
      · right; right; left
        refine ⟨c1, by omega, ?_⟩
        (repeat' split) <;> first | rfl | omega | simp_all
  · by_cases c2 : kE f n = 0
    · by_cases c3 : kT f n = 0
      · right; right; right; right; right
        refine ⟨by omega, c2, c3, ?_⟩
        (repeat' split) <;> first | rfl | omega | simp_all
      · right; right; right; right; left
        refine ⟨by omega, c2, c3, ?_⟩
        (repeat' split) <;> first | rfl | omega | simp_all
    · right; right; right; left
      refine ⟨by omega, c2, ?_⟩
      (repeat' split) <;> first | rfl | omega | simp_all
def kv (f : Int) (n : Nat) : Int := if kN f n then -(kM f n : Int) else (kM f n : Int)
def sgI (x : Int) : Int := if x < 0 then -1 else if 0 < x then 1 else 0
def relR (f : Int) (a b : Nat) : Nat := if 8 ≤ kC f a ∨ 8 ≤ kC f b then 0 else if kv f a < kv f b then 1 else if kv f a = kv f b then 2 else 3
def tk (f : Int) (n : Nat) : Int := if kN f n then -(n : Int) else (n : Int)
def totR (f : Int) (a b : Nat) : Int := sgI (tk f a - tk f b)
end Go.Proofs.YtmndjhcmomejjaaDoor
