/-
  What the functions that the statement reaches return: part 5 (K9, E2, G1, G2, G3, GF, GB).
-/
import Derived.Laws.CopyRow
import Derived.Lib.MinMax
import Derived.Deep.RegionHeld3
import Derived.Test.YtaengojkjfgppaaDoorSw04
namespace Go.Proofs.YtaengojkjfgppaaDoor
set_option maxRecDepth 100000
set_option maxHeartbeats 40000000
set_option maxRecDepth 100000
open Go.RowKit WMath
set_option linter.unusedSimpArgs false
set_option linter.unusedVariables false
set_option maxRecDepth 100000 in
set_option maxHeartbeats 2000000 in
theorem rk_class (f : Int) (hf : Is4 f) (x y n c : Nat) (hx : x < 18446744073709551616) (hy : y < 18446744073709551616) (hn : y + 18446744073709551616 * x = n) (hfit : Fit f n) (hc : kC f n = c) (w : World) :
    Calls Tryd.prog 31 #[.int .u8 f, .agg #[.int .u64 (x : Nat), .int .u64 (y : Nat)]] w fun r w' => r = .returned (.int .u8 (c : Nat)) ∧ Below w.heap.size w w' := by
  have hat := cw_at 6
  have hz := cw6z
  have hff := cw6f
  have hs0 := st0
  have hcs : ∀ x, ((cw 6 x).size = 6) = True := fun x => eq_true (cw_size 6 x)
  have heq := eq6
  have hg := eqg6
  have hQ := Q_pos
  have f4 := is4_ok hf
  have tl := kT_lt (f := f) n
  have el := kE_le (f := f) n
  obtain ⟨g1, g2, g3, g4, g5, g6, g7⟩ := fm hf
  obtain ⟨p1, p2, p3, p4, p5, p6, p7, p8⟩ := pV_lim hf
  have p9 : IntKind.i64.wrap (fP f - 2) = ((pV f - 1 : Nat) : Int) := by rcases hf with rfl | rfl | rfl | rfl <;> decide +kernel
  obtain ⟨neg, hneg⟩ : ∃ q, kN f n = q := ⟨_, rfl⟩
  obtain ⟨e, he⟩ : ∃ q, kE f n = q := ⟨_, rfl⟩
  obtain ⟨t, ht⟩ : ∃ q, kT f n = q := ⟨_, rfl⟩
  have K1 := box (rk_fields f hf x y n e t neg hx hy hn hfit hneg he ht)
  have tQ : t < Q := by rw [← ht]; exact lt_Q7 (by rw [g1, Nat.add_mul] at g7; omega)
  obtain ⟨o, ho⟩ : ∃ q, oV f = q := ⟨_, rfl⟩
  obtain ⟨m, hm⟩ : ∃ q, fE f = q := ⟨_, rfl⟩
  obtain ⟨p, hp⟩ : ∃ q, fP f = q := ⟨_, rfl⟩
  have K2 : Box (∀ w, Calls Tryd.prog 46 #[.int .u8 f] w fun r w' => r = .returned (.int .i64 (o : Nat)) ∧ w' = w) := box (fun w => r_ones f m _ f4.1 hm (by rw [← ho, ← hm]; rcases hf with rfl | rfl | rfl | rfl <;> decide +kernel) w)
  have KP := box (r_precision f p f4.1 hp)
  obtain ⟨qb, hqb⟩ : ∃ q, decide (2 ^ (pV f - 1) ≤ t) = q := ⟨_, rfl⟩
  have K3 : Box (∀ w, Calls Tryd.prog 43 #[.agg (cw 6 t), .int .i64 ((pV f - 1 : Nat) : Int)] w fun r w' => r = .returned (.bool qb) ∧ Below w.heap.size w w') := box (fun w => by
    have h := rwbit_any t (pV f - 1) (by omega) w
    have e2 : t.testBit (pV f - 1) = qb := by
      rw [← hqb, Nat.testBit_eq_decide_div_mod_eq, decide_eq_decide]
      rw [ht] at tl
      rw [g3] at tl
      have hz := Nat.two_pow_pos (pV f - 1)
      by_cases h : 2 ^ (pV f - 1) ≤ t
      · have : t / 2 ^ (pV f - 1) = 1 := by rw [Nat.div_eq_iff hz]; omega
        rw [this]; simp [h]
      · rw [Nat.div_eq_of_lt (by omega)]; simp; omega
    rw [e2] at h
    exact h)
  unfold kC at hc
  rw [he, ht, hneg, ho] at hc
  have zf : (t = 0 → decide (t = 0) = true) ∧ (t ≠ 0 → decide (t = 0) = false) := ⟨fun h => decide_eq_true h, fun h => decide_eq_false h⟩
  obtain ⟨pm, hpm⟩ : ∃ q, pV f - 1 = q := ⟨_, rfl⟩
  rw [hpm] at K3 p9 hqb hc
  rw [hp] at p9
  clear tl el hf hx hy hn hfit hneg he ht ho hm hp p1 p2 p3 p4 p5 p6 p7 p8 g1 g2 g3 g4 g5 g6 g7 hpm f4
  by_cases c1 : e = o
  · have b1 : ((e : Int) == (o : Int)) = true := by rw [c1]; simp
    rw [if_pos c1] at hc
    by_cases c2 : t = 0
    · rw [if_pos c2] at hc
      subst c2
      cases neg
      · subst hc
        obtain ⟨Rb_0, B0⟩ := kopn1 w (Obj.cells #[.int .u64 (x : Nat), .int .u64 (y : Nat)] 25)
        go_enter Tryd.func31, Tryd.ntmps31
        go_wp2_with fail
        refine (K1.out _).mono ?_
        rintro r w1 ⟨rfl, b1⟩
        have B1 : Below w.heap.size w w1 := btr7 B0 b1
        have Rb_1 := heap_of b1 _ _ _ Rb_0
        clear b1 B0 Rb_0
        obtain ⟨cb_1_0, cb_1_1⟩ := cell7t Rb_1
        have S2 := box B1.size
        have Lb_2 : Box (w.heap.size < w1.heap.size) := box (Array.getElem?_eq_some_iff.1 Rb_1).1
        have Rt_2 := heap_alloc_last w1 (Obj.cells (cw 6 0) 48)
        have B2 := btr7 B1 (bal7 w1 (Obj.cells (cw 6 0) 48))
        have Rb_2 := heap_of (bal7 w1 (Obj.cells (cw 6 0) 48)) _ _ _ Rb_1
        clear B1 Rb_1 cb_1_0 cb_1_1
        obtain ⟨cb_2_0, cb_2_1⟩ := cell7t Rb_2
        have ct_2_0 := row_cell Rt_2
        go_wp2_with fail
        refine (K2.out _).mono ?_
        rintro r w' ⟨rfl, hw'⟩
        obtain rfl := hw'.symm
        go_wp2
        go_ret
        exact ⟨rfl, B2⟩
      · subst hc
        obtain ⟨Rb_0, B0⟩ := kopn1 w (Obj.cells #[.int .u64 (x : Nat), .int .u64 (y : Nat)] 25)
        go_enter Tryd.func31, Tryd.ntmps31
        go_wp2_with fail
        refine (K1.out _).mono ?_
        rintro r w1 ⟨rfl, b1⟩
        have B1 : Below w.heap.size w w1 := btr7 B0 b1
        have Rb_1 := heap_of b1 _ _ _ Rb_0
        clear b1 B0 Rb_0
        obtain ⟨cb_1_0, cb_1_1⟩ := cell7t Rb_1
        have S2 := box B1.size
        have Lb_2 : Box (w.heap.size < w1.heap.size) := box (Array.getElem?_eq_some_iff.1 Rb_1).1
        have Rt_2 := heap_alloc_last w1 (Obj.cells (cw 6 0) 48)
        have B2 := btr7 B1 (bal7 w1 (Obj.cells (cw 6 0) 48))
        have Rb_2 := heap_of (bal7 w1 (Obj.cells (cw 6 0) 48)) _ _ _ Rb_1
        clear B1 Rb_1 cb_1_0 cb_1_1
        obtain ⟨cb_2_0, cb_2_1⟩ := cell7t Rb_2
        have ct_2_0 := row_cell Rt_2
        go_wp2_with fail
        refine (K2.out _).mono ?_
        rintro r w' ⟨rfl, hw'⟩
        obtain rfl := hw'.symm
        go_wp2
        go_ret
        exact ⟨rfl, B2⟩
    · rw [if_neg c2] at hc
      have z1 := zf.2 c2
      cases qb
      · rw [if_neg (of_decide_eq_false hqb)] at hc
        subst hc
        obtain ⟨Rb_0, B0⟩ := kopn1 w (Obj.cells #[.int .u64 (x : Nat), .int .u64 (y : Nat)] 25)
        go_enter Tryd.func31, Tryd.ntmps31
        go_wp2_with fail
        refine (K1.out _).mono ?_
        rintro r w1 ⟨rfl, b1⟩
        have B1 : Below w.heap.size w w1 := btr7 B0 b1
        have Rb_1 := heap_of b1 _ _ _ Rb_0
        clear b1 B0 Rb_0
        obtain ⟨cb_1_0, cb_1_1⟩ := cell7t Rb_1
        have S2 := box B1.size
        have Lb_2 : Box (w.heap.size < w1.heap.size) := box (Array.getElem?_eq_some_iff.1 Rb_1).1
        have Rt_2 := heap_alloc_last w1 (Obj.cells (cw 6 t) 48)
        have B2 := btr7 B1 (bal7 w1 (Obj.cells (cw 6 t) 48))
        have Rb_2 := heap_of (bal7 w1 (Obj.cells (cw 6 t) 48)) _ _ _ Rb_1
        clear B1 Rb_1 cb_1_0 cb_1_1
        obtain ⟨cb_2_0, cb_2_1⟩ := cell7t Rb_2
        have ct_2_0 := row_cell Rt_2
        go_wp2_with fail
        refine (K2.out _).mono ?_
        rintro r w' ⟨rfl, hw'⟩
        obtain rfl := hw'.symm
        go_wp2_with fail
        obtain ⟨F, hF1, hF2⟩ := below_fun (w1.alloc (Obj.cells (cw 6 t) 48))
        have fb_0 := fun u => cell7 (heap_of (hF1 u) _ _ _ Rb_2) 0 _ rfl
        have fb_1 := fun u => cell7 (heap_of (hF1 u) _ _ _ Rb_2) 1 _ rfl
        have ft_0 := fun u => row_cell (heap_of (hF1 u) _ _ _ Rt_2)
        refine wp_region_below F hF2 (by kernel_rfl) (by kernel_rfl) ?_
        repeat first | go_big_quiet_step (first | (go_at_call 44; exact quietF0 (KP.out _)) | (go_at_call 43; exact quietF hF1 hF2 (K3.out _)) | fail) | quiet_step (first | (go_at_call 44; exact quietF0 (KP.out _)) | (go_at_call 43; exact quietF hF1 hF2 (K3.out _)) | fail)
        refine wpQuiet_nil ?_
        rintro _ ⟨uW, rfl⟩
        have B3 := btr7 B2 (hF1 uW)
        have Rb_3 := heap_of (hF1 uW) _ _ _ Rb_2
        have Rt_3 := heap_of (hF1 uW) _ _ _ Rt_2
        obtain ⟨w3, hw⟩ : ∃ V, F uW = V := ⟨_, rfl⟩
        rw [hw] at B3 Rb_3 Rt_3
        try rw [hw]
        clear hw hF1 hF2 B2 fb_0 fb_1 ft_0 Rb_2 cb_2_0 cb_2_1 Rt_2 ct_2_0
        clear F
        obtain ⟨cb_3_0, cb_3_1⟩ := cell7t Rb_3
        have ct_3_0 := row_cell Rt_3
        go_wp2
        go_ret
        exact ⟨rfl, B3⟩
      · rw [if_pos (of_decide_eq_true hqb)] at hc
        subst hc
        obtain ⟨Rb_0, B0⟩ := kopn1 w (Obj.cells #[.int .u64 (x : Nat), .int .u64 (y : Nat)] 25)
        go_enter Tryd.func31, Tryd.ntmps31
        go_wp2_with fail
        refine (K1.out _).mono ?_
        rintro r w1 ⟨rfl, b1⟩
        have B1 : Below w.heap.size w w1 := btr7 B0 b1
        have Rb_1 := heap_of b1 _ _ _ Rb_0
        clear b1 B0 Rb_0
        obtain ⟨cb_1_0, cb_1_1⟩ := cell7t Rb_1
        have S2 := box B1.size
        have Lb_2 : Box (w.heap.size < w1.heap.size) := box (Array.getElem?_eq_some_iff.1 Rb_1).1
        have Rt_2 := heap_alloc_last w1 (Obj.cells (cw 6 t) 48)
        have B2 := btr7 B1 (bal7 w1 (Obj.cells (cw 6 t) 48))
        have Rb_2 := heap_of (bal7 w1 (Obj.cells (cw 6 t) 48)) _ _ _ Rb_1
        clear B1 Rb_1 cb_1_0 cb_1_1
        obtain ⟨cb_2_0, cb_2_1⟩ := cell7t Rb_2
        have ct_2_0 := row_cell Rt_2
        go_wp2_with fail
        refine (K2.out _).mono ?_
        rintro r w' ⟨rfl, hw'⟩
        obtain rfl := hw'.symm
        go_wp2_with fail
        obtain ⟨F, hF1, hF2⟩ := below_fun (w1.alloc (Obj.cells (cw 6 t) 48))
        have fb_0 := fun u => cell7 (heap_of (hF1 u) _ _ _ Rb_2) 0 _ rfl
        have fb_1 := fun u => cell7 (heap_of (hF1 u) _ _ _ Rb_2) 1 _ rfl
        have ft_0 := fun u => row_cell (heap_of (hF1 u) _ _ _ Rt_2)
        refine wp_region_below F hF2 (by kernel_rfl) (by kernel_rfl) ?_
        repeat first | go_big_quiet_step (first | (go_at_call 44; exact quietF0 (KP.out _)) | (go_at_call 43; exact quietF hF1 hF2 (K3.out _)) | fail) | quiet_step (first | (go_at_call 44; exact quietF0 (KP.out _)) | (go_at_call 43; exact quietF hF1 hF2 (K3.out _)) | fail)
        refine wpQuiet_nil ?_
        rintro _ ⟨uW, rfl⟩
        have B3 := btr7 B2 (hF1 uW)
        have Rb_3 := heap_of (hF1 uW) _ _ _ Rb_2
        have Rt_3 := heap_of (hF1 uW) _ _ _ Rt_2
        obtain ⟨w3, hw⟩ : ∃ V, F uW = V := ⟨_, rfl⟩
        rw [hw] at B3 Rb_3 Rt_3
        try rw [hw]
        clear hw hF1 hF2 B2 fb_0 fb_1 ft_0 Rb_2 cb_2_0 cb_2_1 Rt_2 ct_2_0
        clear F
        obtain ⟨cb_3_0, cb_3_1⟩ := cell7t Rb_3
        have ct_3_0 := row_cell Rt_3
        go_wp2
        go_ret
        exact ⟨rfl, B3⟩
  · have b1 : ((e : Int) == (o : Int)) = false := by simp; omega
    rw [if_neg c1] at hc
    by_cases c2 : e = 0
    · subst c2
      rw [if_neg (by simp)] at hc
      by_cases c3 : t = 0
      · subst c3
        rw [if_neg (by simp)] at hc
        cases neg
        · subst hc
          obtain ⟨Rb_0, B0⟩ := kopn1 w (Obj.cells #[.int .u64 (x : Nat), .int .u64 (y : Nat)] 25)
          go_enter Tryd.func31, Tryd.ntmps31
          go_wp2_with fail
          refine (K1.out _).mono ?_
          rintro r w1 ⟨rfl, b1⟩
          have B1 : Below w.heap.size w w1 := btr7 B0 b1
          have Rb_1 := heap_of b1 _ _ _ Rb_0
          clear b1 B0 Rb_0
          obtain ⟨cb_1_0, cb_1_1⟩ := cell7t Rb_1
          have S2 := box B1.size
          have Lb_2 : Box (w.heap.size < w1.heap.size) := box (Array.getElem?_eq_some_iff.1 Rb_1).1
          have Rt_2 := heap_alloc_last w1 (Obj.cells (cw 6 0) 48)
          have B2 := btr7 B1 (bal7 w1 (Obj.cells (cw 6 0) 48))
          have Rb_2 := heap_of (bal7 w1 (Obj.cells (cw 6 0) 48)) _ _ _ Rb_1
          clear B1 Rb_1 cb_1_0 cb_1_1
          obtain ⟨cb_2_0, cb_2_1⟩ := cell7t Rb_2
          have ct_2_0 := row_cell Rt_2
          go_wp2_with fail
          refine (K2.out _).mono ?_
          rintro r w' ⟨rfl, hw'⟩
          obtain rfl := hw'.symm
          go_wp2
          go_ret
          exact ⟨rfl, B2⟩
        · subst hc
          obtain ⟨Rb_0, B0⟩ := kopn1 w (Obj.cells #[.int .u64 (x : Nat), .int .u64 (y : Nat)] 25)
          go_enter Tryd.func31, Tryd.ntmps31
          go_wp2_with fail
          refine (K1.out _).mono ?_
          rintro r w1 ⟨rfl, b1⟩
          have B1 : Below w.heap.size w w1 := btr7 B0 b1
          have Rb_1 := heap_of b1 _ _ _ Rb_0
          clear b1 B0 Rb_0
          obtain ⟨cb_1_0, cb_1_1⟩ := cell7t Rb_1
          have S2 := box B1.size
          have Lb_2 : Box (w.heap.size < w1.heap.size) := box (Array.getElem?_eq_some_iff.1 Rb_1).1
          have Rt_2 := heap_alloc_last w1 (Obj.cells (cw 6 0) 48)
          have B2 := btr7 B1 (bal7 w1 (Obj.cells (cw 6 0) 48))
          have Rb_2 := heap_of (bal7 w1 (Obj.cells (cw 6 0) 48)) _ _ _ Rb_1
          clear B1 Rb_1 cb_1_0 cb_1_1
          obtain ⟨cb_2_0, cb_2_1⟩ := cell7t Rb_2
          have ct_2_0 := row_cell Rt_2
          go_wp2_with fail
          refine (K2.out _).mono ?_
          rintro r w' ⟨rfl, hw'⟩
          obtain rfl := hw'.symm
          go_wp2
          go_ret
          exact ⟨rfl, B2⟩
      · have z1 := zf.2 c3
        rw [if_pos (by simpa using c3)] at hc
        cases neg
        · subst hc
          obtain ⟨Rb_0, B0⟩ := kopn1 w (Obj.cells #[.int .u64 (x : Nat), .int .u64 (y : Nat)] 25)
          go_enter Tryd.func31, Tryd.ntmps31
          go_wp2_with fail
          refine (K1.out _).mono ?_
          rintro r w1 ⟨rfl, b1⟩
          have B1 : Below w.heap.size w w1 := btr7 B0 b1
          have Rb_1 := heap_of b1 _ _ _ Rb_0
          clear b1 B0 Rb_0
          obtain ⟨cb_1_0, cb_1_1⟩ := cell7t Rb_1
          have S2 := box B1.size
          have Lb_2 : Box (w.heap.size < w1.heap.size) := box (Array.getElem?_eq_some_iff.1 Rb_1).1
          have Rt_2 := heap_alloc_last w1 (Obj.cells (cw 6 t) 48)
          have B2 := btr7 B1 (bal7 w1 (Obj.cells (cw 6 t) 48))
          have Rb_2 := heap_of (bal7 w1 (Obj.cells (cw 6 t) 48)) _ _ _ Rb_1
          clear B1 Rb_1 cb_1_0 cb_1_1
          obtain ⟨cb_2_0, cb_2_1⟩ := cell7t Rb_2
          have ct_2_0 := row_cell Rt_2
          go_wp2_with fail
          refine (K2.out _).mono ?_
          rintro r w' ⟨rfl, hw'⟩
          obtain rfl := hw'.symm
          go_wp2
          go_ret
          exact ⟨rfl, B2⟩
        · subst hc
          obtain ⟨Rb_0, B0⟩ := kopn1 w (Obj.cells #[.int .u64 (x : Nat), .int .u64 (y : Nat)] 25)
          go_enter Tryd.func31, Tryd.ntmps31
          go_wp2_with fail
          refine (K1.out _).mono ?_
          rintro r w1 ⟨rfl, b1⟩
          have B1 : Below w.heap.size w w1 := btr7 B0 b1
          have Rb_1 := heap_of b1 _ _ _ Rb_0
          clear b1 B0 Rb_0
          obtain ⟨cb_1_0, cb_1_1⟩ := cell7t Rb_1
          have S2 := box B1.size
          have Lb_2 : Box (w.heap.size < w1.heap.size) := box (Array.getElem?_eq_some_iff.1 Rb_1).1
          have Rt_2 := heap_alloc_last w1 (Obj.cells (cw 6 t) 48)
          have B2 := btr7 B1 (bal7 w1 (Obj.cells (cw 6 t) 48))
          have Rb_2 := heap_of (bal7 w1 (Obj.cells (cw 6 t) 48)) _ _ _ Rb_1
          clear B1 Rb_1 cb_1_0 cb_1_1
          obtain ⟨cb_2_0, cb_2_1⟩ := cell7t Rb_2
          have ct_2_0 := row_cell Rt_2
          go_wp2_with fail
          refine (K2.out _).mono ?_
          rintro r w' ⟨rfl, hw'⟩
          obtain rfl := hw'.symm
          go_wp2
          go_ret
          exact ⟨rfl, B2⟩
    · have b2 : ((e : Int) != 0) = true := by simp; omega
      rw [if_pos (by simpa using c2)] at hc
      cases neg
      · subst hc
        obtain ⟨Rb_0, B0⟩ := kopn1 w (Obj.cells #[.int .u64 (x : Nat), .int .u64 (y : Nat)] 25)
        go_enter Tryd.func31, Tryd.ntmps31
        go_wp2_with fail
        refine (K1.out _).mono ?_
        rintro r w1 ⟨rfl, b1⟩
        have B1 : Below w.heap.size w w1 := btr7 B0 b1
        have Rb_1 := heap_of b1 _ _ _ Rb_0
        clear b1 B0 Rb_0
        obtain ⟨cb_1_0, cb_1_1⟩ := cell7t Rb_1
        have S2 := box B1.size
        have Lb_2 : Box (w.heap.size < w1.heap.size) := box (Array.getElem?_eq_some_iff.1 Rb_1).1
        have Rt_2 := heap_alloc_last w1 (Obj.cells (cw 6 t) 48)
        have B2 := btr7 B1 (bal7 w1 (Obj.cells (cw 6 t) 48))
        have Rb_2 := heap_of (bal7 w1 (Obj.cells (cw 6 t) 48)) _ _ _ Rb_1
        clear B1 Rb_1 cb_1_0 cb_1_1
        obtain ⟨cb_2_0, cb_2_1⟩ := cell7t Rb_2
        have ct_2_0 := row_cell Rt_2
        go_wp2_with fail
        refine (K2.out _).mono ?_
        rintro r w' ⟨rfl, hw'⟩
        obtain rfl := hw'.symm
        go_wp2
        go_ret
        exact ⟨rfl, B2⟩
      · subst hc
        obtain ⟨Rb_0, B0⟩ := kopn1 w (Obj.cells #[.int .u64 (x : Nat), .int .u64 (y : Nat)] 25)
        go_enter Tryd.func31, Tryd.ntmps31
        go_wp2_with fail
        refine (K1.out _).mono ?_
        rintro r w1 ⟨rfl, b1⟩
        have B1 : Below w.heap.size w w1 := btr7 B0 b1
        have Rb_1 := heap_of b1 _ _ _ Rb_0
        clear b1 B0 Rb_0
        obtain ⟨cb_1_0, cb_1_1⟩ := cell7t Rb_1
        have S2 := box B1.size
        have Lb_2 : Box (w.heap.size < w1.heap.size) := box (Array.getElem?_eq_some_iff.1 Rb_1).1
        have Rt_2 := heap_alloc_last w1 (Obj.cells (cw 6 t) 48)
        have B2 := btr7 B1 (bal7 w1 (Obj.cells (cw 6 t) 48))
        have Rb_2 := heap_of (bal7 w1 (Obj.cells (cw 6 t) 48)) _ _ _ Rb_1
        clear B1 Rb_1 cb_1_0 cb_1_1
        obtain ⟨cb_2_0, cb_2_1⟩ := cell7t Rb_2
        have ct_2_0 := row_cell Rt_2
        go_wp2_with fail
        refine (K2.out _).mono ?_
        rintro r w' ⟨rfl, hw'⟩
        obtain rfl := hw'.symm
        go_wp2
        go_ret
        exact ⟨rfl, B2⟩
end Go.Proofs.YtaengojkjfgppaaDoor
namespace Go.Proofs.YtaengojkjfgppaaDoor
set_option maxRecDepth 100000
set_option maxHeartbeats 40000000
set_option maxRecDepth 100000
open Go.RowKit WMath
set_option linter.unusedSimpArgs false
set_option linter.unusedVariables false
def ebb (a b c d : Int) : Bool := (a == c) && (b == d)
theorem eqb (a b c d : Int) (w : World) :
    (Op.equalIn 10000 25 (.agg #[.int .u64 a, .int .u64 b]) (.agg #[.int .u64 c, .int .u64 d])).run Tryd.prog w = .ok (ebb a b c d) w := by
  have q1 : ∀ (a b : Int), (part 23 #[.int .u64 a, .int .u64 b] 0).run Tryd.prog w = .ok (.int .u64 a) w := fun a b => by kernel_rfl
  have q2 : ∀ (a b : Int), (part 23 #[.int .u64 a, .int .u64 b] 1).run Tryd.prog w = .ok (.int .u64 b) w := fun a b => by kernel_rfl
  have i1 : (Op.equalIn 9999 23 (.int .u64 a) (.int .u64 c)).run Tryd.prog w = .ok (a == c) w := run_equalIn_int w 9998 23 .u64 .u64 a c Tryd.underlying23
  have i2 : (Op.equalIn 9999 23 (.int .u64 b) (.int .u64 d)).run Tryd.prog w = .ok (b == d) w := run_equalIn_int w 9998 23 .u64 .u64 b d Tryd.underlying23
  have n1 : ("Hi" = "_") = False := by simp
  have n2 : ("Lo" = "_") = False := by simp
  have st : Tryd.prog.stoodInHeld 25 = false := by kernel_rfl
  rw [show (10000 : Nat) = 9999 + 1 from rfl]
  unfold Op.equalIn
  simp only [Sem.run_bind, run_underlying Tryd.underlying25, Result.andThen_ok]
  rw [show (Sem.run Tryd.prog program w) = .ok Tryd.prog w from rfl]
  simp only [Result.andThen_ok, st, Bool.false_eq_true, if_false]
  have fo : ∀ (l : List Field) (b : Field → (Option Bool × Unit) → Sem (ForInStep (Option Bool × Unit))), (forIn l.toArray (none, ()) b : Sem (Option Bool × Unit)) = forIn l (none, ()) b := fun l b => by simp
  simp only [fo, List.forIn_cons, List.forIn_nil, ne_eq, n1, n2, not_false_eq_true, if_true]
  unfold ebb
  obtain ⟨b1, h1⟩ : ∃ x, (a == c) = x := ⟨_, rfl⟩
  obtain ⟨b2, h2⟩ : ∃ x, (b == d) = x := ⟨_, rfl⟩
  rw [h1] at i1
  rw [h2] at i2
  rw [h1, h2]
  cases b1
  · simp only [Sem.run_bind, Sem.run_pure, Result.andThen_ok, q1, i1, Bool.not_false, if_true, Bool.false_and]
  cases b2
  · simp only [Sem.run_bind, Sem.run_pure, Result.andThen_ok, q1, i1, q2, i2, Bool.not_false, Bool.not_true, Bool.false_eq_true, if_false, if_true, Bool.false_and, Bool.true_and]
  · simp only [Sem.run_bind, Sem.run_pure, Result.andThen_ok, q1, i1, q2, i2, Bool.not_false, Bool.not_true, Bool.false_eq_true, if_false, if_true, Bool.false_and, Bool.true_and]
def wiB (f : Int) (n : Nat) (neg : Bool) : Nat := sgB f n (kN f n != neg)
def toW (f : Int) (n : Nat) : Nat := if kN f n then n + (18446744073709551616 - 2 * 2 ^ wV f) else n
def ofW (f : Int) (x : Nat) : Nat := x % (2 * 2 ^ wV f)
theorem w64_lim {f : Int} (hf : Is4 f) (h3 : f ≠ 3) : 2 * 2 ^ wV f ≤ 18446744073709551616 ∧ fW f = ((wV f + 1 : Nat) : Int) ∧ 1 ≤ wV f + 1 ∧ wV f + 1 ≤ 64 ∧ ext (fW f) = wV f + 1 := by
  rcases hf with rfl | rfl | rfl | rfl
  · decide +kernel
  · decide +kernel
  · decide +kernel
  · exact absurd rfl h3
theorem sx_toW {f : Int} (hf : Is4 f) (h3 : f ≠ 3) {n : Nat} (fit : Fit f n) : sx n (wV f + 1) = toW f n := by
  have p := Nat.two_pow_pos (wV f)
  have e : (2 : Nat) ^ (wV f + 1) = 2 * 2 ^ wV f := by rw [Nat.pow_succ, Nat.mul_comm]
  have tb : n.testBit (wV f + 1 - 1) = kN f n := by
    rw [Nat.add_sub_cancel, Nat.testBit_eq_decide_div_mod_eq]
    unfold kN
    unfold Fit at fit
    have dl : n / 2 ^ wV f < 2 := by rw [Nat.div_lt_iff_lt_mul p]; exact fit
    rcases Nat.le_one_iff_eq_zero_or_eq_one.1 (Nat.le_of_lt_succ dl) with q | q <;> rw [q] <;> rfl
  unfold toW
  cases h : kN f n
  · rw [sx_ff _ _ (tb.trans h), e, Nat.mod_eq_of_lt fit]
    rfl
  · rw [sx_tt _ _ (tb.trans h), e, Nat.mod_eq_of_lt fit]
    rfl
end Go.Proofs.YtaengojkjfgppaaDoor
namespace Go.Proofs.YtaengojkjfgppaaDoor
set_option maxRecDepth 100000
set_option maxHeartbeats 40000000
set_option maxRecDepth 100000
open Go.RowKit WMath
set_option linter.unusedSimpArgs false
set_option linter.unusedVariables false
set_option maxRecDepth 100000 in
set_option maxHeartbeats 8000000 in
theorem rcl_0 (f : Int) (x1 y1 : Nat) (w : World) (KC : Box (∀ w, Calls Tryd.prog 31 #[.int .u8 f, .agg #[.int .u64 (x1 : Nat), .int .u64 (y1 : Nat)]] w fun r w' => r = .returned (.int .u8 0) ∧ Below w.heap.size w w')) : Calls Tryd.prog 14 #[.int .u8 f, .agg #[.int .u64 (x1 : Nat), .int .u64 (y1 : Nat)]] w fun r w' => r = .returned (.int .u64 1) ∧ Below w.heap.size w w' := by
  obtain ⟨Ra_0, B0⟩ := opn1 w (Obj.cells #[.int .u64 (x1 : Nat), .int .u64 (y1 : Nat)] 25)
  go_enter Tryd.func14, Tryd.ntmps14
  obtain ⟨ca_0_0, ca_0_1⟩ := cells2s Ra_0
  go_wp2_with fail
  refine (KC.out _).mono ?_
  rintro r w1 ⟨rfl, b1⟩
  have B1 : Below w.heap.size w w1 := btr B0 b1
  have Ra_1 := heap_of b1 _ _ _ Ra_0
  clear b1 B0 Ra_0 ca_0_0 ca_0_1
  obtain ⟨ca_1_0, ca_1_1⟩ := cells2s Ra_1
  go_wp2
  go_ret
  exact ⟨rfl, B1⟩
set_option maxRecDepth 100000 in
set_option maxHeartbeats 8000000 in
theorem rcl_1 (f : Int) (x1 y1 : Nat) (w : World) (KC : Box (∀ w, Calls Tryd.prog 31 #[.int .u8 f, .agg #[.int .u64 (x1 : Nat), .int .u64 (y1 : Nat)]] w fun r w' => r = .returned (.int .u8 1) ∧ Below w.heap.size w w')) : Calls Tryd.prog 14 #[.int .u8 f, .agg #[.int .u64 (x1 : Nat), .int .u64 (y1 : Nat)]] w fun r w' => r = .returned (.int .u64 2) ∧ Below w.heap.size w w' := by
  obtain ⟨Ra_0, B0⟩ := opn1 w (Obj.cells #[.int .u64 (x1 : Nat), .int .u64 (y1 : Nat)] 25)
  go_enter Tryd.func14, Tryd.ntmps14
  obtain ⟨ca_0_0, ca_0_1⟩ := cells2s Ra_0
  go_wp2_with fail
  refine (KC.out _).mono ?_
  rintro r w1 ⟨rfl, b1⟩
  have B1 : Below w.heap.size w w1 := btr B0 b1
  have Ra_1 := heap_of b1 _ _ _ Ra_0
  clear b1 B0 Ra_0 ca_0_0 ca_0_1
  obtain ⟨ca_1_0, ca_1_1⟩ := cells2s Ra_1
  go_wp2
  go_ret
  exact ⟨rfl, B1⟩
set_option maxRecDepth 100000 in
set_option maxHeartbeats 8000000 in
theorem rcl_2 (f : Int) (x1 y1 : Nat) (w : World) (KC : Box (∀ w, Calls Tryd.prog 31 #[.int .u8 f, .agg #[.int .u64 (x1 : Nat), .int .u64 (y1 : Nat)]] w fun r w' => r = .returned (.int .u8 2) ∧ Below w.heap.size w w')) : Calls Tryd.prog 14 #[.int .u8 f, .agg #[.int .u64 (x1 : Nat), .int .u64 (y1 : Nat)]] w fun r w' => r = .returned (.int .u64 4) ∧ Below w.heap.size w w' := by
  obtain ⟨Ra_0, B0⟩ := opn1 w (Obj.cells #[.int .u64 (x1 : Nat), .int .u64 (y1 : Nat)] 25)
  go_enter Tryd.func14, Tryd.ntmps14
  obtain ⟨ca_0_0, ca_0_1⟩ := cells2s Ra_0
  go_wp2_with fail
  refine (KC.out _).mono ?_
  rintro r w1 ⟨rfl, b1⟩
  have B1 : Below w.heap.size w w1 := btr B0 b1
  have Ra_1 := heap_of b1 _ _ _ Ra_0
  clear b1 B0 Ra_0 ca_0_0 ca_0_1
  obtain ⟨ca_1_0, ca_1_1⟩ := cells2s Ra_1
  go_wp2
  go_ret
  exact ⟨rfl, B1⟩
set_option maxRecDepth 100000 in
set_option maxHeartbeats 8000000 in
theorem rcl_3 (f : Int) (x1 y1 : Nat) (w : World) (KC : Box (∀ w, Calls Tryd.prog 31 #[.int .u8 f, .agg #[.int .u64 (x1 : Nat), .int .u64 (y1 : Nat)]] w fun r w' => r = .returned (.int .u8 3) ∧ Below w.heap.size w w')) : Calls Tryd.prog 14 #[.int .u8 f, .agg #[.int .u64 (x1 : Nat), .int .u64 (y1 : Nat)]] w fun r w' => r = .returned (.int .u64 8) ∧ Below w.heap.size w w' := by
  obtain ⟨Ra_0, B0⟩ := opn1 w (Obj.cells #[.int .u64 (x1 : Nat), .int .u64 (y1 : Nat)] 25)
  go_enter Tryd.func14, Tryd.ntmps14
  obtain ⟨ca_0_0, ca_0_1⟩ := cells2s Ra_0
  go_wp2_with fail
  refine (KC.out _).mono ?_
  rintro r w1 ⟨rfl, b1⟩
  have B1 : Below w.heap.size w w1 := btr B0 b1
  have Ra_1 := heap_of b1 _ _ _ Ra_0
  clear b1 B0 Ra_0 ca_0_0 ca_0_1
  obtain ⟨ca_1_0, ca_1_1⟩ := cells2s Ra_1
  go_wp2
  go_ret
  exact ⟨rfl, B1⟩
set_option maxRecDepth 100000 in
set_option maxHeartbeats 8000000 in
theorem rcl_4 (f : Int) (x1 y1 : Nat) (w : World) (KC : Box (∀ w, Calls Tryd.prog 31 #[.int .u8 f, .agg #[.int .u64 (x1 : Nat), .int .u64 (y1 : Nat)]] w fun r w' => r = .returned (.int .u8 4) ∧ Below w.heap.size w w')) : Calls Tryd.prog 14 #[.int .u8 f, .agg #[.int .u64 (x1 : Nat), .int .u64 (y1 : Nat)]] w fun r w' => r = .returned (.int .u64 16) ∧ Below w.heap.size w w' := by
  obtain ⟨Ra_0, B0⟩ := opn1 w (Obj.cells #[.int .u64 (x1 : Nat), .int .u64 (y1 : Nat)] 25)
  go_enter Tryd.func14, Tryd.ntmps14
  obtain ⟨ca_0_0, ca_0_1⟩ := cells2s Ra_0
  go_wp2_with fail
  refine (KC.out _).mono ?_
  rintro r w1 ⟨rfl, b1⟩
  have B1 : Below w.heap.size w w1 := btr B0 b1
  have Ra_1 := heap_of b1 _ _ _ Ra_0
  clear b1 B0 Ra_0 ca_0_0 ca_0_1
  obtain ⟨ca_1_0, ca_1_1⟩ := cells2s Ra_1
  go_wp2
  go_ret
  exact ⟨rfl, B1⟩
set_option maxRecDepth 100000 in
set_option maxHeartbeats 8000000 in
theorem rcl_5 (f : Int) (x1 y1 : Nat) (w : World) (KC : Box (∀ w, Calls Tryd.prog 31 #[.int .u8 f, .agg #[.int .u64 (x1 : Nat), .int .u64 (y1 : Nat)]] w fun r w' => r = .returned (.int .u8 5) ∧ Below w.heap.size w w')) : Calls Tryd.prog 14 #[.int .u8 f, .agg #[.int .u64 (x1 : Nat), .int .u64 (y1 : Nat)]] w fun r w' => r = .returned (.int .u64 32) ∧ Below w.heap.size w w' := by
  obtain ⟨Ra_0, B0⟩ := opn1 w (Obj.cells #[.int .u64 (x1 : Nat), .int .u64 (y1 : Nat)] 25)
  go_enter Tryd.func14, Tryd.ntmps14
  obtain ⟨ca_0_0, ca_0_1⟩ := cells2s Ra_0
  go_wp2_with fail
  refine (KC.out _).mono ?_
  rintro r w1 ⟨rfl, b1⟩
  have B1 : Below w.heap.size w w1 := btr B0 b1
  have Ra_1 := heap_of b1 _ _ _ Ra_0
  clear b1 B0 Ra_0 ca_0_0 ca_0_1
  obtain ⟨ca_1_0, ca_1_1⟩ := cells2s Ra_1
  go_wp2
  go_ret
  exact ⟨rfl, B1⟩
set_option maxRecDepth 100000 in
set_option maxHeartbeats 8000000 in
theorem rcl_6 (f : Int) (x1 y1 : Nat) (w : World) (KC : Box (∀ w, Calls Tryd.prog 31 #[.int .u8 f, .agg #[.int .u64 (x1 : Nat), .int .u64 (y1 : Nat)]] w fun r w' => r = .returned (.int .u8 6) ∧ Below w.heap.size w w')) : Calls Tryd.prog 14 #[.int .u8 f, .agg #[.int .u64 (x1 : Nat), .int .u64 (y1 : Nat)]] w fun r w' => r = .returned (.int .u64 64) ∧ Below w.heap.size w w' := by
  obtain ⟨Ra_0, B0⟩ := opn1 w (Obj.cells #[.int .u64 (x1 : Nat), .int .u64 (y1 : Nat)] 25)
  go_enter Tryd.func14, Tryd.ntmps14
  obtain ⟨ca_0_0, ca_0_1⟩ := cells2s Ra_0
  go_wp2_with fail
  refine (KC.out _).mono ?_
  rintro r w1 ⟨rfl, b1⟩
  have B1 : Below w.heap.size w w1 := btr B0 b1
  have Ra_1 := heap_of b1 _ _ _ Ra_0
  clear b1 B0 Ra_0 ca_0_0 ca_0_1
  obtain ⟨ca_1_0, ca_1_1⟩ := cells2s Ra_1
  go_wp2
  go_ret
  exact ⟨rfl, B1⟩
set_option maxRecDepth 100000 in
set_option maxHeartbeats 8000000 in
theorem rcl_7 (f : Int) (x1 y1 : Nat) (w : World) (KC : Box (∀ w, Calls Tryd.prog 31 #[.int .u8 f, .agg #[.int .u64 (x1 : Nat), .int .u64 (y1 : Nat)]] w fun r w' => r = .returned (.int .u8 7) ∧ Below w.heap.size w w')) : Calls Tryd.prog 14 #[.int .u8 f, .agg #[.int .u64 (x1 : Nat), .int .u64 (y1 : Nat)]] w fun r w' => r = .returned (.int .u64 128) ∧ Below w.heap.size w w' := by
  obtain ⟨Ra_0, B0⟩ := opn1 w (Obj.cells #[.int .u64 (x1 : Nat), .int .u64 (y1 : Nat)] 25)
  go_enter Tryd.func14, Tryd.ntmps14
  obtain ⟨ca_0_0, ca_0_1⟩ := cells2s Ra_0
  go_wp2_with fail
  refine (KC.out _).mono ?_
  rintro r w1 ⟨rfl, b1⟩
  have B1 : Below w.heap.size w w1 := btr B0 b1
  have Ra_1 := heap_of b1 _ _ _ Ra_0
  clear b1 B0 Ra_0 ca_0_0 ca_0_1
  obtain ⟨ca_1_0, ca_1_1⟩ := cells2s Ra_1
  go_wp2
  go_ret
  exact ⟨rfl, B1⟩
set_option maxRecDepth 100000 in
set_option maxHeartbeats 8000000 in
theorem rcl_8 (f : Int) (x1 y1 : Nat) (w : World) (KC : Box (∀ w, Calls Tryd.prog 31 #[.int .u8 f, .agg #[.int .u64 (x1 : Nat), .int .u64 (y1 : Nat)]] w fun r w' => r = .returned (.int .u8 8) ∧ Below w.heap.size w w')) : Calls Tryd.prog 14 #[.int .u8 f, .agg #[.int .u64 (x1 : Nat), .int .u64 (y1 : Nat)]] w fun r w' => r = .returned (.int .u64 256) ∧ Below w.heap.size w w' := by
  obtain ⟨Ra_0, B0⟩ := opn1 w (Obj.cells #[.int .u64 (x1 : Nat), .int .u64 (y1 : Nat)] 25)
  go_enter Tryd.func14, Tryd.ntmps14
  obtain ⟨ca_0_0, ca_0_1⟩ := cells2s Ra_0
  go_wp2_with fail
  refine (KC.out _).mono ?_
  rintro r w1 ⟨rfl, b1⟩
  have B1 : Below w.heap.size w w1 := btr B0 b1
  have Ra_1 := heap_of b1 _ _ _ Ra_0
  clear b1 B0 Ra_0 ca_0_0 ca_0_1
  obtain ⟨ca_1_0, ca_1_1⟩ := cells2s Ra_1
  go_wp2
  go_ret
  exact ⟨rfl, B1⟩
set_option maxRecDepth 100000 in
set_option maxHeartbeats 8000000 in
theorem rcl_9 (f : Int) (x1 y1 : Nat) (w : World) (KC : Box (∀ w, Calls Tryd.prog 31 #[.int .u8 f, .agg #[.int .u64 (x1 : Nat), .int .u64 (y1 : Nat)]] w fun r w' => r = .returned (.int .u8 9) ∧ Below w.heap.size w w')) : Calls Tryd.prog 14 #[.int .u8 f, .agg #[.int .u64 (x1 : Nat), .int .u64 (y1 : Nat)]] w fun r w' => r = .returned (.int .u64 512) ∧ Below w.heap.size w w' := by
  obtain ⟨Ra_0, B0⟩ := opn1 w (Obj.cells #[.int .u64 (x1 : Nat), .int .u64 (y1 : Nat)] 25)
  go_enter Tryd.func14, Tryd.ntmps14
  obtain ⟨ca_0_0, ca_0_1⟩ := cells2s Ra_0
  go_wp2_with fail
  refine (KC.out _).mono ?_
  rintro r w1 ⟨rfl, b1⟩
  have B1 : Below w.heap.size w w1 := btr B0 b1
  have Ra_1 := heap_of b1 _ _ _ Ra_0
  clear b1 B0 Ra_0 ca_0_0 ca_0_1
  obtain ⟨ca_1_0, ca_1_1⟩ := cells2s Ra_1
  go_wp2
  go_ret
  exact ⟨rfl, B1⟩
theorem rclassify_is (f : Int) (hf : Is4 f) (x1 y1 a : Nat) (hx1 : x1 < 18446744073709551616) (hy1 : y1 < 18446744073709551616) (ha : y1 + 18446744073709551616 * x1 = a) (oa : okB f a = true) (w : World) : Calls Tryd.prog 14 #[.int .u8 f, .agg #[.int .u64 (x1 : Nat), .int .u64 (y1 : Nat)]] w fun r w' => r = .returned (.int .u64 ((2 ^ kC f a : Nat) : Int)) ∧ Below w.heap.size w w' := by
  have KC : ∀ c : Nat, kC f a = c → Box (∀ w, Calls Tryd.prog 31 #[.int .u8 f, .agg #[.int .u64 (x1 : Nat), .int .u64 (y1 : Nat)]] w fun r w' => r = .returned (.int .u8 (c : Nat)) ∧ Below w.heap.size w w') := fun c h => box (fun w => rk_class f hf x1 y1 a c hx1 hy1 ha (okB_yes (is4_ok hf).1 oa).2 h w)
  have l := kC_lt f a
  obtain ⟨c, hc⟩ : ∃ c, kC f a = c := ⟨_, rfl⟩
  rw [hc] at l ⊢
  have KC := KC c hc
  rcases (show c = 0 ∨ c = 1 ∨ c = 2 ∨ c = 3 ∨ c = 4 ∨ c = 5 ∨ c = 6 ∨ c = 7 ∨ c = 8 ∨ c = 9 by omega) with rfl | rfl | rfl | rfl | rfl | rfl | rfl | rfl | rfl | rfl
  · exact rcl_0 f x1 y1 w KC
  · exact rcl_1 f x1 y1 w KC
  · exact rcl_2 f x1 y1 w KC
  · exact rcl_3 f x1 y1 w KC
  · exact rcl_4 f x1 y1 w KC
  · exact rcl_5 f x1 y1 w KC
  · exact rcl_6 f x1 y1 w KC
  · exact rcl_7 f x1 y1 w KC
  · exact rcl_8 f x1 y1 w KC
  · exact rcl_9 f x1 y1 w KC
set_option maxRecDepth 100000 in
set_option maxHeartbeats 8000000 in
theorem rtw_q (x1 y1 : Nat) (w : World) : Calls Tryd.prog 16 #[.int .u8 3, .agg #[.int .u64 (x1 : Nat), .int .u64 (y1 : Nat)]] w fun r w' => r = .returned (.tuple #[.int .u64 0, .int .i64 2]) ∧ Below w.heap.size w w' := by
  obtain ⟨Ra_0, B0⟩ := opn1 w (Obj.cells #[.int .u64 (x1 : Nat), .int .u64 (y1 : Nat)] 25)
  go_enter Tryd.func16, Tryd.ntmps16
  obtain ⟨ca_0_0, ca_0_1⟩ := cells2s Ra_0
  go_wp2
  go_ret2
  exact ⟨rfl, B0⟩
set_option maxRecDepth 100000 in
set_option maxHeartbeats 8000000 in
theorem rtw_no (f : Int) (h3 : (f == 3) = false) (x1 y1 : Nat) (w : World) (KF : Box (∀ w, Calls Tryd.prog 9 #[.int .u8 f, .agg #[.int .u64 (x1 : Nat), .int .u64 (y1 : Nat)]] w fun r w' => r = .returned (.bool false) ∧ Below w.heap.size w w')) : Calls Tryd.prog 16 #[.int .u8 f, .agg #[.int .u64 (x1 : Nat), .int .u64 (y1 : Nat)]] w fun r w' => r = .returned (.tuple #[.int .u64 0, .int .i64 2]) ∧ Below w.heap.size w w' := by
  obtain ⟨Ra_0, B0⟩ := opn1 w (Obj.cells #[.int .u64 (x1 : Nat), .int .u64 (y1 : Nat)] 25)
  go_enter Tryd.func16, Tryd.ntmps16
  obtain ⟨ca_0_0, ca_0_1⟩ := cells2s Ra_0
  go_wp2_with fail
  refine (KF.out _).mono ?_
  rintro r w1 ⟨rfl, b1⟩
  have B1 : Below w.heap.size w w1 := btr B0 b1
  have Ra_1 := heap_of b1 _ _ _ Ra_0
  clear b1 B0 Ra_0 ca_0_0 ca_0_1
  obtain ⟨ca_1_0, ca_1_1⟩ := cells2s Ra_1
  go_wp2
  go_ret2
  exact ⟨rfl, B1⟩
set_option maxRecDepth 100000 in
set_option maxHeartbeats 8000000 in
theorem rtw_yes (f : Int) (h3 : (f == 3) = false) (x1 y1 t : Nat) (W : Int) (w : World) (KF : Box (∀ w, Calls Tryd.prog 9 #[.int .u8 f, .agg #[.int .u64 (x1 : Nat), .int .u64 (y1 : Nat)]] w fun r w' => r = .returned (.bool true) ∧ Below w.heap.size w w')) (KW : Box (∀ w, Calls Tryd.prog 27 #[.int .u8 f] w fun r w' => r = .returned (.int .i64 W) ∧ Below w.heap.size w w')) (KE : Box (∀ w, Calls Tryd.prog 35 #[.int .u64 (y1 : Nat), .int .i64 W] w fun r w' => r = .returned (.int .u64 (t : Nat)) ∧ Below w.heap.size w w')) : Calls Tryd.prog 16 #[.int .u8 f, .agg #[.int .u64 (x1 : Nat), .int .u64 (y1 : Nat)]] w fun r w' => r = .returned (.tuple #[.int .u64 (t : Nat), .int .i64 0]) ∧ Below w.heap.size w w' := by
  obtain ⟨Ra_0, B0⟩ := opn1 w (Obj.cells #[.int .u64 (x1 : Nat), .int .u64 (y1 : Nat)] 25)
  go_enter Tryd.func16, Tryd.ntmps16
  obtain ⟨ca_0_0, ca_0_1⟩ := cells2s Ra_0
  go_wp2_with fail
  refine (KF.out _).mono ?_
  rintro r w1 ⟨rfl, b1⟩
  have B1 : Below w.heap.size w w1 := btr B0 b1
  have Ra_1 := heap_of b1 _ _ _ Ra_0
  clear b1 B0 Ra_0 ca_0_0 ca_0_1
  obtain ⟨ca_1_0, ca_1_1⟩ := cells2s Ra_1
  go_wp2_with fail
  obtain ⟨F, hF1, hF2⟩ := below_fun w1
  have fa_0 := fun u => cells4 (heap_of (hF1 u) _ _ _ Ra_1) 0 _ rfl
  have fa_1 := fun u => cells4 (heap_of (hF1 u) _ _ _ Ra_1) 1 _ rfl
  refine wp_region_below F hF2 (by kernel_rfl) (by kernel_rfl) ?_
  repeat first | go_big_quiet_step (first | (go_at_call 27; exact quietF hF1 hF2 (KW.out _)) | (go_at_call 35; exact quietF hF1 hF2 (KE.out _)) | fail) | quiet_step (first | (go_at_call 27; exact quietF hF1 hF2 (KW.out _)) | (go_at_call 35; exact quietF hF1 hF2 (KE.out _)) | fail)
  refine wpQuiet_nil ?_
  rintro _ ⟨uW, rfl⟩
  have B2 := btr B1 (hF1 uW)
  have Ra_2 := heap_of (hF1 uW) _ _ _ Ra_1
  obtain ⟨w2, hw⟩ : ∃ V, F uW = V := ⟨_, rfl⟩
  rw [hw] at B2 Ra_2
  try rw [hw]
  clear hw hF1 hF2 B1 fa_0 fa_1 Ra_1 ca_1_0 ca_1_1
  clear F
  obtain ⟨ca_2_0, ca_2_1⟩ := cells2s Ra_2
  go_wp2
  go_ret2
  exact ⟨rfl, B2⟩
set_option maxRecDepth 100000 in
set_option maxHeartbeats 8000000 in
theorem row_q (x : Nat) (w : World) : Calls Tryd.prog 18 #[.int .u8 3, .int .u64 (x : Nat)] w fun r w' => r = .returned (.tuple #[.agg #[.int .u64 0, .int .u64 0], .int .i64 2]) ∧ Below w.heap.size w w' := by
  have hat := cw_at 6
  have hz := cw6z
  have hff := cw6f
  have hs0 := st0
  have hcs : ∀ x, ((cw 6 x).size = 6) = True := fun x => eq_true (cw_size 6 x)
  obtain ⟨Rz_0, B0⟩ := opn1 w (Obj.cells #[.int .u64 0, .int .u64 0] 25)
  go_enter Tryd.func18, Tryd.ntmps18
  obtain ⟨cz_0_0, cz_0_1⟩ := cells2s Rz_0
  clear B0 Rz_0
  go_wp2
  exact bodyPost_ret (v := .tuple #[.agg #[.int .u64 0, .int .u64 0], .int .i64 2]) (by simp [results, Tryd.results18, go_sem]) rfl ⟨rfl, ((Below.refl _ _).alloc (by first | omega | (simp only [size_al]; omega)) _)⟩
set_option maxRecDepth 100000 in
set_option maxHeartbeats 8000000 in
theorem row_no (f : Int) (h3 : (f == 3) = false) (x : Nat) (w : World) (KR : Box (∀ w, Calls Tryd.prog 24 #[.int .u8 f] w fun r w' => r = .returned (.bool false) ∧ Below w.heap.size w w')) : Calls Tryd.prog 18 #[.int .u8 f, .int .u64 (x : Nat)] w fun r w' => r = .returned (.tuple #[.agg #[.int .u64 0, .int .u64 0], .int .i64 2]) ∧ Below w.heap.size w w' := by
  have hat := cw_at 6
  have hz := cw6z
  have hff := cw6f
  have hs0 := st0
  have hcs : ∀ x, ((cw 6 x).size = 6) = True := fun x => eq_true (cw_size 6 x)
  obtain ⟨Rz_0, B0⟩ := opn1 w (Obj.cells #[.int .u64 0, .int .u64 0] 25)
  go_enter Tryd.func18, Tryd.ntmps18
  go_wp2_with fail
  refine (KR.out _).mono ?_
  rintro r w1 ⟨rfl, b1⟩
  have B1 : Below w.heap.size w w1 := btr B0 b1
  have Rz_1 := heap_of b1 _ _ _ Rz_0
  clear b1 B0 Rz_0
  obtain ⟨cz_1_0, cz_1_1⟩ := cells2s Rz_1
  have q0 := fz (k := 0) Rz_1
  have q1 := fz (k := 1) Rz_1
  obtain ⟨E0, E1⟩ := set2_cells Rz_1 (.int .u64 0) (.int .u64 0)
  go_wp2
  exact bodyPost_ret (v := .tuple #[.agg #[.int .u64 0, .int .u64 0], .int .i64 2]) (by simp [results, Tryd.results18, go_sem, E0, E1]) rfl ⟨rfl, set2_below B1 (by first | exact Nat.le_refl _ | omega | (skip; omega)) _ _⟩
set_option maxRecDepth 100000 in
set_option maxHeartbeats 8000000 in
theorem row_yes (f : Int) (h3 : (f == 3) = false) (x a b c p q : Nat) (W : Int) (o : Bool) (w : World) (KR : Box (∀ w, Calls Tryd.prog 24 #[.int .u8 f] w fun r w' => r = .returned (.bool true) ∧ Below w.heap.size w w')) (KW : Box (∀ w, Calls Tryd.prog 27 #[.int .u8 f] w fun r w' => r = .returned (.int .i64 W) ∧ Below w.heap.size w w'))
    (KO : Box (∀ w, Calls Tryd.prog 38 #[.int .u64 (x : Nat)] w fun r w' => r = .returned (.agg (cw 6 a)) ∧ Below w.heap.size w w')) (KM : Box (∀ w, Calls Tryd.prog 39 #[.int .i64 W] w fun r w' => r = .returned (.agg (cw 6 b)) ∧ Below w.heap.size w w')) (KA : Box (∀ w, Calls Tryd.prog 37 #[.agg (cw 6 a), .agg (cw 6 b)] w fun r w' => r = .returned (.agg (cw 6 c)) ∧ Below w.heap.size w w')) (KB : Box (∀ w, Calls Tryd.prog 36 #[.agg (cw 6 c)] w fun r w' => r = .returned (.tuple #[.agg #[.int .u64 (p : Nat), .int .u64 (q : Nat)], .bool o]) ∧ Below w.heap.size w w')) : Calls Tryd.prog 18 #[.int .u8 f, .int .u64 (x : Nat)] w fun r w' => r = .returned (.tuple #[.agg #[.int .u64 (p : Nat), .int .u64 (q : Nat)], .int .i64 0]) ∧ Below w.heap.size w w' := by
  have hat := cw_at 6
  have hz := cw6z
  have hff := cw6f
  have hs0 := st0
  have hcs : ∀ x, ((cw 6 x).size = 6) = True := fun x => eq_true (cw_size 6 x)
  obtain ⟨Rz_0, B0⟩ := opn1 w (Obj.cells #[.int .u64 0, .int .u64 0] 25)
  go_enter Tryd.func18, Tryd.ntmps18
  go_wp2_with fail
  refine (KR.out _).mono ?_
  rintro r w1 ⟨rfl, b1⟩
  have B1 : Below w.heap.size w w1 := btr B0 b1
  have Rz_1 := heap_of b1 _ _ _ Rz_0
  clear b1 B0 Rz_0
  obtain ⟨cz_1_0, cz_1_1⟩ := cells2s Rz_1
  go_wp2_with fail
  refine (KO.out _).mono ?_
  rintro r w2 ⟨rfl, b2⟩
  have B2 : Below w.heap.size w w2 := btr B1 b2
  have Rz_2 := heap_of b2 _ _ _ Rz_1
  clear b2 B1 Rz_1 cz_1_0 cz_1_1
  obtain ⟨cz_2_0, cz_2_1⟩ := cells2s Rz_2
  go_wp2_with fail
  refine (KW.out _).mono ?_
  rintro r w3 ⟨rfl, b3⟩
  have B3 : Below w.heap.size w w3 := btr B2 b3
  have Rz_3 := heap_of b3 _ _ _ Rz_2
  clear b3 B2 Rz_2 cz_2_0 cz_2_1
  obtain ⟨cz_3_0, cz_3_1⟩ := cells2s Rz_3
  go_wp2_with fail
  refine (KM.out _).mono ?_
  rintro r w4 ⟨rfl, b4⟩
  have B4 : Below w.heap.size w w4 := btr B3 b4
  have Rz_4 := heap_of b4 _ _ _ Rz_3
  clear b4 B3 Rz_3 cz_3_0 cz_3_1
  obtain ⟨cz_4_0, cz_4_1⟩ := cells2s Rz_4
  go_wp2_with fail
  refine (KA.out _).mono ?_
  rintro r w5 ⟨rfl, b5⟩
  have B5 : Below w.heap.size w w5 := btr B4 b5
  have Rz_5 := heap_of b5 _ _ _ Rz_4
  clear b5 B4 Rz_4 cz_4_0 cz_4_1
  obtain ⟨cz_5_0, cz_5_1⟩ := cells2s Rz_5
  go_wp2_with fail
  refine (KB.out _).mono ?_
  rintro r w6 ⟨rfl, b6⟩
  have B6 : Below w.heap.size w w6 := btr B5 b6
  have Rz_6 := heap_of b6 _ _ _ Rz_5
  clear b6 B5 Rz_5 cz_5_0 cz_5_1
  obtain ⟨cz_6_0, cz_6_1⟩ := cells2s Rz_6
  have S7 := box B6.size
  have Lz_7 : Box (w.heap.size < w6.heap.size) := box (Array.getElem?_eq_some_iff.1 Rz_6).1
  have Rb_7 := heap_alloc_last w6 (Obj.cells #[.int .u64 (p : Nat), .int .u64 (q : Nat)] 25)
  have B7 := btr B6 (bal w6 (Obj.cells #[.int .u64 (p : Nat), .int .u64 (q : Nat)] 25))
  have Rz_7 := heap_of (bal w6 (Obj.cells #[.int .u64 (p : Nat), .int .u64 (q : Nat)] 25)) _ _ _ Rz_6
  clear B6 Rz_6 cz_6_0 cz_6_1
  obtain ⟨cz_7_0, cz_7_1⟩ := cells2s Rz_7
  obtain ⟨cb_7_0, cb_7_1⟩ := cells2s Rb_7
  have q0 := fz (k := 0) Rz_7
  have q1 := fz (k := 1) Rz_7
  obtain ⟨E0, E1⟩ := set2_cells Rz_7 (.int .u64 (p : Nat)) (.int .u64 (q : Nat))
  go_wp2
  exact bodyPost_ret (v := .tuple #[.agg #[.int .u64 (p : Nat), .int .u64 (q : Nat)], .int .i64 0]) (by simp [results, Tryd.results18, go_sem, E0, E1]) rfl ⟨rfl, set2_below B7 (by first | exact Nat.le_refl _ | omega | (have := S7.out; have := Lz_7.out; omega)) _ _⟩
theorem bel_sm {P : Program} {k : FuncId} {a : Array Value} {w : World} {v : Value} (h : Calls P k a w fun r w' => r = .returned v ∧ w' = w) : Calls P k a w fun r w' => r = .returned v ∧ Below w.heap.size w w' := h.mono fun _ _ q => ⟨q.1, by rw [q.2]; exact Below.refl _ _⟩
theorem w64_Q (x : Nat) (h : x < 18446744073709551616) : x < Q := by
  have := sh_small x 0 h (by decide)
  rw [Nat.mul_zero, Nat.pow_zero, Nat.mul_one] at this
  exact this
theorem lo_word {f : Int} (hf : Is4 f) (h3 : f ≠ 3) {x1 y1 a : Nat} (hx1 : x1 < 18446744073709551616) (hy1 : y1 < 18446744073709551616) (ha : y1 + 18446744073709551616 * x1 = a) (fit : Fit f a) : x1 = 0 ∧ y1 = a := by
  have l := (w64_lim hf h3).1
  unfold Fit at fit
  omega
theorem rtoword_is (f : Int) (hf : Is4 f) (x1 y1 a : Nat) (hx1 : x1 < 18446744073709551616) (hy1 : y1 < 18446744073709551616) (ha : y1 + 18446744073709551616 * x1 = a) (oa : okB f a = true) (h3 : f ≠ 3) (t : Nat) (ht : toW f a = t) (w : World) : Calls Tryd.prog 16 #[.int .u8 f, .agg #[.int .u64 (x1 : Nat), .int .u64 (y1 : Nat)]] w fun r w' => r = .returned (.tuple #[.int .u64 (t : Nat), .int .i64 0]) ∧ Below w.heap.size w w' := by
  have fit := (okB_yes (is4_ok hf).1 oa).2
  obtain ⟨e1, e2⟩ := lo_word hf h3 hx1 hy1 ha fit
  obtain ⟨_, l1, _, _, l2⟩ := w64_lim hf h3
  refine rtw_yes f (by rw [beq_eq_false_iff_ne]; exact h3) x1 y1 t (fW f) w (box (fun w => rk_fits f x1 y1 a true (is4_ok hf).1 hx1 hy1 ha oa w)) (box (fun w => bel_sm (r_width f _ (is4_ok hf).1 rfl w))) (box (fun w => ?_))
  refine (rextend_any y1 (fW f) hy1 w).mono ?_
  rintro e w' ⟨rfl, rfl⟩
  refine ⟨?_, Below.refl _ _⟩
  rw [l2, e2, sx_toW hf h3 fit, ht]
theorem wd_low (c : Nat) (h : c < 18446744073709551616) : wd c 0 = c ∧ wd c 1 = 0 := by
  unfold wd
  simp only [Nat.mul_zero, Nat.pow_zero, Nat.div_one, Nat.mul_one]
  refine ⟨Nat.mod_eq_of_lt h, ?_⟩
  rw [Nat.div_eq_of_lt (by rw [← two64]; exact h)]
theorem rofword_is (f : Int) (hf : Is4 f) (h3 : f ≠ 3) (x : Nat) (hx : x < 18446744073709551616) (t : Nat) (ht : ofW f x = t) (w : World) : Calls Tryd.prog 18 #[.int .u8 f, .int .u64 (x : Nat)] w fun r w' => r = .returned (.tuple #[.agg #[.int .u64 0, .int .u64 (t : Nat)], .int .i64 0]) ∧ Below w.heap.size w w' := by
  obtain ⟨l0, l1, _, l3, l2⟩ := w64_lim hf h3
  have e : (2 : Nat) ^ (wV f + 1) = 2 * 2 ^ wV f := by rw [Nat.pow_succ, Nat.mul_comm]
  have hc6 : cnt6 (fW f) = wV f + 1 := by unfold cnt6; rw [l1]; omega
  have hand : x &&& (2 ^ cnt6 (fW f) - 1) = t := by rw [hc6, Nat.and_two_pow_sub_one_eq_mod, e]; exact ht
  have tl : t < 18446744073709551616 := by rw [← ht]; unfold ofW; exact Nat.lt_of_le_of_lt (Nat.mod_le _ _) hx
  obtain ⟨w0, w1⟩ := wd_low t tl
  have xQ : x < Q := w64_Q x hx
  have tQ : t < Q := w64_Q t tl
  have KB : Box (∀ w, Calls Tryd.prog 36 #[.agg (cw 6 t)] w fun r w' => r = .returned (.tuple #[.agg #[.int .u64 ((0 : Nat) : Int), .int .u64 (t : Nat)], .bool true]) ∧ Below w.heap.size w w') := box (fun w => by
    have := rwtobits_yes t tQ (by rw [w0, w1]; rfl) w
    rw [w0, w1] at this
    exact this)
  exact row_yes f (by rw [beq_eq_false_iff_ne]; exact h3) x x _ t 0 t (fW f) true w (box (fun w => bel_sm (r_right f true (decide_eq_true (by rcases hf with rfl | rfl | rfl | rfl <;> decide)) w))) (box (fun w => bel_sm (r_width f _ (is4_ok hf).1 rfl w))) (box (fun w => rwof_any x hx w)) (box (fun w => rwmask_is (fW f) _ rfl w)) (box (fun w => rwand_is x _ t xQ hand w)) KB
end Go.Proofs.YtaengojkjfgppaaDoor
namespace Go.Proofs.YtaengojkjfgppaaDoor
set_option maxRecDepth 100000
set_option maxHeartbeats 40000000
set_option maxRecDepth 100000
open Go.RowKit WMath
set_option linter.unusedSimpArgs false
set_option linter.unusedVariables false
theorem ebb_sf (a b : Int) : ebb a b a b = true := by unfold ebb; simp
set_option maxRecDepth 100000 in
set_option maxHeartbeats 8000000 in
theorem sw_no (f : Int) (x1 y1 x t p q : Nat) (e1 e2 : Int) (he1 : IntKind.i64.wrap e1 = e1) (he2 : IntKind.i64.wrap e2 = e2) (w : World) (K1 : Box (∀ w, FAt w → Calls Tryd.prog 13 #[.int .u8 f, .agg #[.int .u64 (x1 : Nat), .int .u64 (y1 : Nat)]] w fun r w' => r = .returned (.tuple #[.int .u64 0, .int .i64 2]) ∧ Below w.heap.size w w')) (KF1 : Box (∀ w, Calls Tryd.prog 9 #[.int .u8 f, .agg #[.int .u64 (x1 : Nat), .int .u64 (y1 : Nat)]] w fun r w' => r = .returned (.bool false) ∧ Below w.heap.size w w')) (K2 : Box (∀ w, FAt w → Calls Tryd.prog 15 #[.int .u8 f, .agg #[.int .u64 (x1 : Nat), .int .u64 (y1 : Nat)]] w fun r w' => r = .returned (.tuple #[.int .u64 (t : Nat), .int .i64 e1]) ∧ Below w.heap.size w w')) (R2 : Box (∀ w, Calls Tryd.prog 16 #[.int .u8 f, .agg #[.int .u64 (x1 : Nat), .int .u64 (y1 : Nat)]] w fun r w' => r = .returned (.tuple #[.int .u64 (t : Nat), .int .i64 e1]) ∧ Below w.heap.size w w')) (K3 : Box (∀ w, FAt w → Calls Tryd.prog 17 #[.int .u8 f, .int .u64 (x : Nat)] w fun r w' => r = .returned (.tuple #[.agg #[.int .u64 (p : Nat), .int .u64 (q : Nat)], .int .i64 e2]) ∧ Below w.heap.size w w')) (R3 : Box (∀ w, Calls Tryd.prog 18 #[.int .u8 f, .int .u64 (x : Nat)] w fun r w' => r = .returned (.tuple #[.agg #[.int .u64 (p : Nat), .int .u64 (q : Nat)], .int .i64 e2]) ∧ Below w.heap.size w w')) (KA : Box (∀ w, FAt w → Calls Tryd.prog 10 #[] w fun r w' => r = .returned (.bool true) ∧ Below w.heap.size w w')) (hT : FAt w) : Calls Tryd.prog 4 #[.int .u8 f, .agg #[.int .u64 (x1 : Nat), .int .u64 (y1 : Nat)], .int .u64 (x : Nat)] w fun r w' => r = .returned (.bool true) ∧ Below w.heap.size w w' := by
  have FF := box hT
  clear hT
  have hE := eqb
  have e3 := ebb_sf (p : Nat) (q : Nat)
  obtain ⟨Ra_0, B0⟩ := opn1 w (Obj.cells #[.int .u64 (x1 : Nat), .int .u64 (y1 : Nat)] 25)
  go_enter Tryd.func4, Tryd.ntmps4
  obtain ⟨ca_0_0, ca_0_1⟩ := cells2s Ra_0
  go_wp2_with fail
  refine (K1.out _ (fatB FF.out B0)).mono ?_
  rintro r w1 ⟨rfl, b1⟩
  have B1 : Below w.heap.size w w1 := btr B0 b1
  have Ra_1 := heap_of b1 _ _ _ Ra_0
  clear b1 B0 Ra_0 ca_0_0 ca_0_1
  obtain ⟨ca_1_0, ca_1_1⟩ := cells2s Ra_1
  go_wp2_with fail
  refine (KF1.out _).mono ?_
  rintro r w2 ⟨rfl, b2⟩
  have B2 : Below w.heap.size w w2 := btr B1 b2
  have Ra_2 := heap_of b2 _ _ _ Ra_1
  clear b2 B1 Ra_1 ca_1_0 ca_1_1
  obtain ⟨ca_2_0, ca_2_1⟩ := cells2s Ra_2
  go_wp2_with fail
  refine (K2.out _ (fatB FF.out B2)).mono ?_
  rintro r w3 ⟨rfl, b3⟩
  have B3 : Below w.heap.size w w3 := btr B2 b3
  have Ra_3 := heap_of b3 _ _ _ Ra_2
  clear b3 B2 Ra_2 ca_2_0 ca_2_1
  obtain ⟨ca_3_0, ca_3_1⟩ := cells2s Ra_3
  go_wp2_with fail
  refine (R2.out _).mono ?_
  rintro r w4 ⟨rfl, b4⟩
  have B4 : Below w.heap.size w w4 := btr B3 b4
  have Ra_4 := heap_of b4 _ _ _ Ra_3
  clear b4 B3 Ra_3 ca_3_0 ca_3_1
  obtain ⟨ca_4_0, ca_4_1⟩ := cells2s Ra_4
  go_wp2_with fail
  refine (K3.out _ (fatB FF.out B4)).mono ?_
  rintro r w5 ⟨rfl, b5⟩
  have B5 : Below w.heap.size w w5 := btr B4 b5
  have Ra_5 := heap_of b5 _ _ _ Ra_4
  clear b5 B4 Ra_4 ca_4_0 ca_4_1
  obtain ⟨ca_5_0, ca_5_1⟩ := cells2s Ra_5
  have S6 := box B5.size
  have La_6 : Box (w.heap.size < w5.heap.size) := box (Array.getElem?_eq_some_iff.1 Ra_5).1
  have Rb_6 := heap_alloc_last w5 (Obj.cells #[.int .u64 (p : Nat), .int .u64 (q : Nat)] 25)
  have B6 := btr B5 (bal w5 (Obj.cells #[.int .u64 (p : Nat), .int .u64 (q : Nat)] 25))
  have Ra_6 := heap_of (bal w5 (Obj.cells #[.int .u64 (p : Nat), .int .u64 (q : Nat)] 25)) _ _ _ Ra_5
  clear B5 Ra_5 ca_5_0 ca_5_1
  obtain ⟨ca_6_0, ca_6_1⟩ := cells2s Ra_6
  obtain ⟨cb_6_0, cb_6_1⟩ := cells2s Rb_6
  go_wp2_with fail
  refine (R3.out _).mono ?_
  rintro r w7 ⟨rfl, b7⟩
  have B7 : Below w.heap.size w w7 := btr B6 b7
  have Ra_7 := heap_of b7 _ _ _ Ra_6
  have Rb_7 := heap_of b7 _ _ _ Rb_6
  clear b7 B6 Ra_6 ca_6_0 ca_6_1 Rb_6 cb_6_0 cb_6_1
  obtain ⟨ca_7_0, ca_7_1⟩ := cells2s Ra_7
  obtain ⟨cb_7_0, cb_7_1⟩ := cells2s Rb_7
  have S8 := box B7.size
  have La_8 : Box (w.heap.size < w7.heap.size) := box (Array.getElem?_eq_some_iff.1 Ra_7).1
  have Lb_8 : Box (w5.heap.size < w7.heap.size) := box (Array.getElem?_eq_some_iff.1 Rb_7).1
  have Rc_8 := heap_alloc_last w7 (Obj.cells #[.int .u64 (p : Nat), .int .u64 (q : Nat)] 25)
  have B8 := btr B7 (bal w7 (Obj.cells #[.int .u64 (p : Nat), .int .u64 (q : Nat)] 25))
  have Ra_8 := heap_of (bal w7 (Obj.cells #[.int .u64 (p : Nat), .int .u64 (q : Nat)] 25)) _ _ _ Ra_7
  have Rb_8 := heap_of (bal w7 (Obj.cells #[.int .u64 (p : Nat), .int .u64 (q : Nat)] 25)) _ _ _ Rb_7
  clear B7 Ra_7 ca_7_0 ca_7_1 Rb_7 cb_7_0 cb_7_1
  obtain ⟨ca_8_0, ca_8_1⟩ := cells2s Ra_8
  obtain ⟨cb_8_0, cb_8_1⟩ := cells2s Rb_8
  obtain ⟨cc_8_0, cc_8_1⟩ := cells2s Rc_8
  go_wp2_with fail
  refine (KA.out _ (fatB FF.out B8)).mono ?_
  rintro r w9 ⟨rfl, b9⟩
  have B9 : Below w.heap.size w w9 := btr B8 b9
  have Ra_9 := heap_of b9 _ _ _ Ra_8
  have Rb_9 := heap_of b9 _ _ _ Rb_8
  have Rc_9 := heap_of b9 _ _ _ Rc_8
  clear b9 B8 Ra_8 ca_8_0 ca_8_1 Rb_8 cb_8_0 cb_8_1 Rc_8 cc_8_0 cc_8_1
  obtain ⟨ca_9_0, ca_9_1⟩ := cells2s Ra_9
  obtain ⟨cb_9_0, cb_9_1⟩ := cells2s Rb_9
  obtain ⟨cc_9_0, cc_9_1⟩ := cells2s Rc_9
  go_wp2
  go_ret
  exact ⟨rfl, B9⟩
set_option maxRecDepth 100000 in
set_option maxHeartbeats 8000000 in
theorem sw_yes (f : Int) (x1 y1 x t p q n : Nat) (e1 e2 : Int) (he1 : IntKind.i64.wrap e1 = e1) (he2 : IntKind.i64.wrap e2 = e2) (w : World) (K1 : Box (∀ w, FAt w → Calls Tryd.prog 13 #[.int .u8 f, .agg #[.int .u64 (x1 : Nat), .int .u64 (y1 : Nat)]] w fun r w' => r = .returned (.tuple #[.int .u64 (n : Nat), .int .i64 0]) ∧ Below w.heap.size w w')) (KF1 : Box (∀ w, Calls Tryd.prog 9 #[.int .u8 f, .agg #[.int .u64 (x1 : Nat), .int .u64 (y1 : Nat)]] w fun r w' => r = .returned (.bool true) ∧ Below w.heap.size w w')) (R1 : Box (∀ w, Calls Tryd.prog 14 #[.int .u8 f, .agg #[.int .u64 (x1 : Nat), .int .u64 (y1 : Nat)]] w fun r w' => r = .returned (.int .u64 (n : Nat)) ∧ Below w.heap.size w w')) (K2 : Box (∀ w, FAt w → Calls Tryd.prog 15 #[.int .u8 f, .agg #[.int .u64 (x1 : Nat), .int .u64 (y1 : Nat)]] w fun r w' => r = .returned (.tuple #[.int .u64 (t : Nat), .int .i64 e1]) ∧ Below w.heap.size w w')) (R2 : Box (∀ w, Calls Tryd.prog 16 #[.int .u8 f, .agg #[.int .u64 (x1 : Nat), .int .u64 (y1 : Nat)]] w fun r w' => r = .returned (.tuple #[.int .u64 (t : Nat), .int .i64 e1]) ∧ Below w.heap.size w w')) (K3 : Box (∀ w, FAt w → Calls Tryd.prog 17 #[.int .u8 f, .int .u64 (x : Nat)] w fun r w' => r = .returned (.tuple #[.agg #[.int .u64 (p : Nat), .int .u64 (q : Nat)], .int .i64 e2]) ∧ Below w.heap.size w w')) (R3 : Box (∀ w, Calls Tryd.prog 18 #[.int .u8 f, .int .u64 (x : Nat)] w fun r w' => r = .returned (.tuple #[.agg #[.int .u64 (p : Nat), .int .u64 (q : Nat)], .int .i64 e2]) ∧ Below w.heap.size w w')) (KA : Box (∀ w, FAt w → Calls Tryd.prog 10 #[] w fun r w' => r = .returned (.bool true) ∧ Below w.heap.size w w')) (hT : FAt w) : Calls Tryd.prog 4 #[.int .u8 f, .agg #[.int .u64 (x1 : Nat), .int .u64 (y1 : Nat)], .int .u64 (x : Nat)] w fun r w' => r = .returned (.bool true) ∧ Below w.heap.size w w' := by
  have FF := box hT
  clear hT
  have hE := eqb
  have e3 := ebb_sf (p : Nat) (q : Nat)
  obtain ⟨Ra_0, B0⟩ := opn1 w (Obj.cells #[.int .u64 (x1 : Nat), .int .u64 (y1 : Nat)] 25)
  go_enter Tryd.func4, Tryd.ntmps4
  obtain ⟨ca_0_0, ca_0_1⟩ := cells2s Ra_0
  go_wp2_with fail
  refine (K1.out _ (fatB FF.out B0)).mono ?_
  rintro r w1 ⟨rfl, b1⟩
  have B1 : Below w.heap.size w w1 := btr B0 b1
  have Ra_1 := heap_of b1 _ _ _ Ra_0
  clear b1 B0 Ra_0 ca_0_0 ca_0_1
  obtain ⟨ca_1_0, ca_1_1⟩ := cells2s Ra_1
  go_wp2_with fail
  refine (KF1.out _).mono ?_
  rintro r w2 ⟨rfl, b2⟩
  have B2 : Below w.heap.size w w2 := btr B1 b2
  have Ra_2 := heap_of b2 _ _ _ Ra_1
  clear b2 B1 Ra_1 ca_1_0 ca_1_1
  obtain ⟨ca_2_0, ca_2_1⟩ := cells2s Ra_2
  go_wp2_with fail
  refine (R1.out _).mono ?_
  rintro r w3 ⟨rfl, b3⟩
  have B3 : Below w.heap.size w w3 := btr B2 b3
  have Ra_3 := heap_of b3 _ _ _ Ra_2
  clear b3 B2 Ra_2 ca_2_0 ca_2_1
  obtain ⟨ca_3_0, ca_3_1⟩ := cells2s Ra_3
  go_wp2_with fail
  refine (K2.out _ (fatB FF.out B3)).mono ?_
  rintro r w4 ⟨rfl, b4⟩
  have B4 : Below w.heap.size w w4 := btr B3 b4
  have Ra_4 := heap_of b4 _ _ _ Ra_3
  clear b4 B3 Ra_3 ca_3_0 ca_3_1
  obtain ⟨ca_4_0, ca_4_1⟩ := cells2s Ra_4
  go_wp2_with fail
  refine (R2.out _).mono ?_
  rintro r w5 ⟨rfl, b5⟩
  have B5 : Below w.heap.size w w5 := btr B4 b5
  have Ra_5 := heap_of b5 _ _ _ Ra_4
  clear b5 B4 Ra_4 ca_4_0 ca_4_1
  obtain ⟨ca_5_0, ca_5_1⟩ := cells2s Ra_5
  go_wp2_with fail
  refine (K3.out _ (fatB FF.out B5)).mono ?_
  rintro r w6 ⟨rfl, b6⟩
  have B6 : Below w.heap.size w w6 := btr B5 b6
  have Ra_6 := heap_of b6 _ _ _ Ra_5
  clear b6 B5 Ra_5 ca_5_0 ca_5_1
  obtain ⟨ca_6_0, ca_6_1⟩ := cells2s Ra_6
  have S7 := box B6.size
  have La_7 : Box (w.heap.size < w6.heap.size) := box (Array.getElem?_eq_some_iff.1 Ra_6).1
  have Rb_7 := heap_alloc_last w6 (Obj.cells #[.int .u64 (p : Nat), .int .u64 (q : Nat)] 25)
  have B7 := btr B6 (bal w6 (Obj.cells #[.int .u64 (p : Nat), .int .u64 (q : Nat)] 25))
  have Ra_7 := heap_of (bal w6 (Obj.cells #[.int .u64 (p : Nat), .int .u64 (q : Nat)] 25)) _ _ _ Ra_6
  clear B6 Ra_6 ca_6_0 ca_6_1
  obtain ⟨ca_7_0, ca_7_1⟩ := cells2s Ra_7
  obtain ⟨cb_7_0, cb_7_1⟩ := cells2s Rb_7
  go_wp2_with fail
  refine (R3.out _).mono ?_
  rintro r w8 ⟨rfl, b8⟩
  have B8 : Below w.heap.size w w8 := btr B7 b8
  have Ra_8 := heap_of b8 _ _ _ Ra_7
  have Rb_8 := heap_of b8 _ _ _ Rb_7
  clear b8 B7 Ra_7 ca_7_0 ca_7_1 Rb_7 cb_7_0 cb_7_1
  obtain ⟨ca_8_0, ca_8_1⟩ := cells2s Ra_8
  obtain ⟨cb_8_0, cb_8_1⟩ := cells2s Rb_8
  have S9 := box B8.size
  have La_9 : Box (w.heap.size < w8.heap.size) := box (Array.getElem?_eq_some_iff.1 Ra_8).1
  have Lb_9 : Box (w6.heap.size < w8.heap.size) := box (Array.getElem?_eq_some_iff.1 Rb_8).1
  have Rc_9 := heap_alloc_last w8 (Obj.cells #[.int .u64 (p : Nat), .int .u64 (q : Nat)] 25)
  have B9 := btr B8 (bal w8 (Obj.cells #[.int .u64 (p : Nat), .int .u64 (q : Nat)] 25))
  have Ra_9 := heap_of (bal w8 (Obj.cells #[.int .u64 (p : Nat), .int .u64 (q : Nat)] 25)) _ _ _ Ra_8
  have Rb_9 := heap_of (bal w8 (Obj.cells #[.int .u64 (p : Nat), .int .u64 (q : Nat)] 25)) _ _ _ Rb_8
  clear B8 Ra_8 ca_8_0 ca_8_1 Rb_8 cb_8_0 cb_8_1
  obtain ⟨ca_9_0, ca_9_1⟩ := cells2s Ra_9
  obtain ⟨cb_9_0, cb_9_1⟩ := cells2s Rb_9
  obtain ⟨cc_9_0, cc_9_1⟩ := cells2s Rc_9
  go_wp2_with fail
  refine (KA.out _ (fatB FF.out B9)).mono ?_
  rintro r w10 ⟨rfl, b10⟩
  have B10 : Below w.heap.size w w10 := btr B9 b10
  have Ra_10 := heap_of b10 _ _ _ Ra_9
  have Rb_10 := heap_of b10 _ _ _ Rb_9
  have Rc_10 := heap_of b10 _ _ _ Rc_9
  clear b10 B9 Ra_9 ca_9_0 ca_9_1 Rb_9 cb_9_0 cb_9_1 Rc_9 cc_9_0 cc_9_1
  obtain ⟨ca_10_0, ca_10_1⟩ := cells2s Ra_10
  obtain ⟨cb_10_0, cb_10_1⟩ := cells2s Rb_10
  obtain ⟨cc_10_0, cc_10_1⟩ := cells2s Rc_10
  go_wp2
  go_ret
  exact ⟨rfl, B10⟩
theorem al17 : wiB 2 15360 (kN 2 32768) = 48128 ∧ 2 ^ kC 2 32256 = 512 ∧ okB 2 15360 = true ∧ okB 2 32768 = true ∧ okB 2 32256 = true := by decide +kernel
set_option maxRecDepth 100000 in
set_option maxHeartbeats 8000000 in
theorem r17alive0 (K1 : Box (∀ w, FAt w → Calls Tryd.prog 6 #[.int .u8 2, .agg #[.int .u64 0, .int .u64 15360], .agg #[.int .u64 0, .int .u64 32768]] w fun r w' => r = .returned (.tuple #[.agg #[.int .u64 0, .int .u64 48128], .int .i64 0]) ∧ Below w.heap.size w w')) (K2 : Box (∀ w, FAt w → Calls Tryd.prog 13 #[.int .u8 2, .agg #[.int .u64 0, .int .u64 32256]] w fun r w' => r = .returned (.tuple #[.int .u64 512, .int .i64 0]) ∧ Below w.heap.size w w')) (w : World) (hT : FAt w) : Calls Tryd.prog 10 #[] w fun r w' => r = .returned (.bool true) ∧ Below w.heap.size w w' := by
  have FF := box hT
  clear hT
  have B0 : Below w.heap.size w w := (Below.refl _ _)
  go_enter Tryd.func10, Tryd.ntmps10
  go_wp2_with fail
  refine (K1.out _ (fatB FF.out B0)).mono ?_
  rintro r w1 ⟨rfl, b1⟩
  have B1 : Below w.heap.size w w1 := btr B0 b1
  clear b1 B0 
  have S2 := box B1.size
  have Rb_2 := heap_alloc_last w1 (Obj.cells #[.int .u64 0, .int .u64 48128] 25)
  have B2 := btr B1 (bal w1 (Obj.cells #[.int .u64 0, .int .u64 48128] 25))
  clear B1 
  obtain ⟨cb_2_0, cb_2_1⟩ := cells2s Rb_2
  go_wp2_with fail
  refine (K2.out _ (fatB FF.out B2)).mono ?_
  rintro r w3 ⟨rfl, b3⟩
  have B3 : Below w.heap.size w w3 := btr B2 b3
  have Rb_3 := heap_of b3 _ _ _ Rb_2
  clear b3 B2 Rb_2 cb_2_0 cb_2_1
  obtain ⟨cb_3_0, cb_3_1⟩ := cells2s Rb_3
  go_wp2
  go_ret
  exact ⟨rfl, B3⟩
theorem words_all (f : Int) (h0 : 0 ≤ f) (x1 y1 a : Nat) (hx1 : x1 < 18446744073709551616) (hy1 : y1 < 18446744073709551616) (ha : y1 + 18446744073709551616 * x1 = a) (x : Nat) (hx : x < 18446744073709551616)
    (C1 : okB f a = true → Box (∀ w, FAt w → Calls Tryd.prog 13 #[.int .u8 f, .agg #[.int .u64 (x1 : Nat), .int .u64 (y1 : Nat)]] w fun r w' => r = .returned (.tuple #[.int .u64 ((2 ^ kC f a : Nat) : Int), .int .i64 0]) ∧ Below w.heap.size w w')) (C0 : okB f a = false → Box (∀ w, FAt w → Calls Tryd.prog 13 #[.int .u8 f, .agg #[.int .u64 (x1 : Nat), .int .u64 (y1 : Nat)]] w fun r w' => r = .returned (.tuple #[.int .u64 0, .int .i64 2]) ∧ Below w.heap.size w w'))
    (T1 : okB f a = true → f ≠ 3 → Box (∀ w, FAt w → Calls Tryd.prog 15 #[.int .u8 f, .agg #[.int .u64 (x1 : Nat), .int .u64 (y1 : Nat)]] w fun r w' => r = .returned (.tuple #[.int .u64 ((toW f a : Nat) : Int), .int .i64 0]) ∧ Below w.heap.size w w')) (T0 : (f = 3 ∨ okB f a = false) → Box (∀ w, FAt w → Calls Tryd.prog 15 #[.int .u8 f, .agg #[.int .u64 (x1 : Nat), .int .u64 (y1 : Nat)]] w fun r w' => r = .returned (.tuple #[.int .u64 ((0 : Nat) : Int), .int .i64 2]) ∧ Below w.heap.size w w'))
    (O1 : Is4 f → f ≠ 3 → Box (∀ w, FAt w → Calls Tryd.prog 17 #[.int .u8 f, .int .u64 (x : Nat)] w fun r w' => r = .returned (.tuple #[.agg #[.int .u64 ((0 : Nat) : Int), .int .u64 ((ofW f x : Nat) : Int)], .int .i64 0]) ∧ Below w.heap.size w w')) (O0 : (f = 3 ∨ ¬ Is4 f) → Box (∀ w, FAt w → Calls Tryd.prog 17 #[.int .u8 f, .int .u64 (x : Nat)] w fun r w' => r = .returned (.tuple #[.agg #[.int .u64 ((0 : Nat) : Int), .int .u64 ((0 : Nat) : Int)], .int .i64 2]) ∧ Below w.heap.size w w'))
    (KA : Box (∀ w, FAt w → Calls Tryd.prog 10 #[] w fun r w' => r = .returned (.bool true) ∧ Below w.heap.size w w')) (w : World) (hT : FAt w) : Calls Tryd.prog 4 #[.int .u8 f, .agg #[.int .u64 (x1 : Nat), .int .u64 (y1 : Nat)], .int .u64 (x : Nat)] w fun r w' => r = .returned (.bool true) ∧ Below w.heap.size w w' := by
  have F1 : ∀ o, okB f a = o → Box (∀ w, Calls Tryd.prog 9 #[.int .u8 f, .agg #[.int .u64 (x1 : Nat), .int .u64 (y1 : Nat)]] w fun r w' => r = .returned (.bool o) ∧ Below w.heap.size w w') := fun o h => box (fun w => rk_fits f x1 y1 a o h0 hx1 hy1 ha h w)
  have KT : ∃ (t : Nat) (e1 : Int), IntKind.i64.wrap e1 = e1 ∧ Box (∀ w, FAt w → Calls Tryd.prog 15 #[.int .u8 f, .agg #[.int .u64 (x1 : Nat), .int .u64 (y1 : Nat)]] w fun r w' => r = .returned (.tuple #[.int .u64 (t : Nat), .int .i64 e1]) ∧ Below w.heap.size w w') ∧ Box (∀ w, Calls Tryd.prog 16 #[.int .u8 f, .agg #[.int .u64 (x1 : Nat), .int .u64 (y1 : Nat)]] w fun r w' => r = .returned (.tuple #[.int .u64 (t : Nat), .int .i64 e1]) ∧ Below w.heap.size w w') := by
    by_cases c : f = 3
    · subst c
      exact ⟨0, 2, by decide, T0 (Or.inl rfl), box (fun w => rtw_q x1 y1 w)⟩
    · have c' : (f == 3) = false := beq_eq_false_iff_ne.2 c
      cases oa : okB f a
      · exact ⟨0, 2, by decide, T0 (Or.inr oa), box (fun w => rtw_no f c' x1 y1 w (F1 false oa))⟩
      · exact ⟨toW f a, 0, by decide, T1 oa c, box (fun w => rtoword_is f (okB_yes h0 oa).1 x1 y1 a hx1 hy1 ha oa c _ rfl w)⟩
  have KO : ∃ (p q : Nat) (e2 : Int), IntKind.i64.wrap e2 = e2 ∧ Box (∀ w, FAt w → Calls Tryd.prog 17 #[.int .u8 f, .int .u64 (x : Nat)] w fun r w' => r = .returned (.tuple #[.agg #[.int .u64 (p : Nat), .int .u64 (q : Nat)], .int .i64 e2]) ∧ Below w.heap.size w w') ∧ Box (∀ w, Calls Tryd.prog 18 #[.int .u8 f, .int .u64 (x : Nat)] w fun r w' => r = .returned (.tuple #[.agg #[.int .u64 (p : Nat), .int .u64 (q : Nat)], .int .i64 e2]) ∧ Below w.heap.size w w') := by
    by_cases c : f = 3
    · subst c
      exact ⟨0, 0, 2, by decide, O0 (Or.inl rfl), box (fun w => row_q x w)⟩
    · have c' : (f == 3) = false := beq_eq_false_iff_ne.2 c
      by_cases l : f ≤ 3
      · have hf := is4_of h0 l
        exact ⟨0, ofW f x, 0, by decide, O1 hf c, box (fun w => rofword_is f hf c x hx _ rfl w)⟩
      · have nf : ¬ Is4 f := fun q => l (by rcases q with rfl | rfl | rfl | rfl <;> decide)
        exact ⟨0, 0, 2, by decide, O0 (Or.inr nf), box (fun w => row_no f c' x w (box (fun w => bel_sm (r_right f false (decide_eq_false l) w))))⟩
  obtain ⟨t, e1, he1, t1, t2⟩ := KT
  obtain ⟨p, q, e2, he2, o1, o2⟩ := KO
  cases oa : okB f a
  · exact sw_no f x1 y1 x t p q e1 e2 he1 he2 w (C0 oa) (F1 false oa) t1 t2 o1 o2 KA hT
  · exact sw_yes f x1 y1 x t p q (2 ^ kC f a) e1 e2 he1 he2 w (C1 oa) (F1 true oa) (box (fun w => rclassify_is f (okB_yes h0 oa).1 x1 y1 a hx1 hy1 ha oa w)) t1 t2 o1 o2 KA hT
end Go.Proofs.YtaengojkjfgppaaDoor
