/-
  What the functions that the statement reaches return: part 4 (JC, JD, JE, JH).
-/
import Derived.Test.YtakmlgcnfbiagaaDoorBr03
namespace Go.Proofs.YtakmlgcnfbiagaaDoor
set_option maxRecDepth 100000
set_option maxHeartbeats 40000000
set_option maxRecDepth 100000
open Go.RowKit WMath
set_option linter.unusedSimpArgs false
set_option linter.unusedVariables false
theorem first_bit (P : Nat → Bool) (a : Nat) : ∀ n, (∀ k, a ≤ k → k < a + n → P k = true) ∨ ∃ m, a ≤ m ∧ m < a + n ∧ P m = false ∧ ∀ k, a ≤ k → k < m → P k = true
  | 0 => Or.inl (fun k h1 h2 => by omega)
  | n + 1 => by
    rcases first_bit P a n with h | ⟨m, h1, h2, h3, h4⟩
    · cases q : P (a + n)
      · exact Or.inr ⟨a + n, by omega, by omega, q, h⟩
      · refine Or.inl (fun k h1 h2 => ?_)
        by_cases c : k = a + n
        · rw [c]; exact q
        · exact h k h1 (by omega)
    · exact Or.inr ⟨m, h1, by omega, h3, h4⟩
theorem bit_up (n a k : Nat) : (n / 2 ^ a).testBit k = n.testBit (a + k) := by
  rw [← Nat.shiftRight_eq_div_pow, Nat.testBit_shiftRight]
theorem ones_iff {N W : Nat} (hN : N < 2 ^ 128) (hW : W ≤ 128) : (∀ k, W ≤ k → k < 128 → N.testBit k = true) ↔ N / 2 ^ W = 2 ^ (128 - W) - 1 := by
  constructor
  · intro h
    apply Nat.eq_of_testBit_eq
    intro i
    rw [bit_up, Nat.testBit_two_pow_sub_one]
    by_cases c : W + i < 128
    · rw [h _ (by omega) c, decide_eq_true (by omega)]
    · rw [decide_eq_false (by omega)]
      exact Nat.testBit_lt_two_pow (Nat.lt_of_lt_of_le hN (Nat.pow_le_pow_right (by decide) (by omega)))
  · intro h k k1 k2
    have := bit_up N W (k - W)
    rw [h, Nat.testBit_two_pow_sub_one, decide_eq_true (by omega), show W + (k - W) = k by omega] at this
    exact this.symm
theorem zeros_iff {N W : Nat} (hN : N < 2 ^ 128) (hW : W ≤ 128) : (∀ k, W ≤ k → k < 128 → N.testBit k = false) ↔ N < 2 ^ W := by
  constructor
  · intro h
    have : N / 2 ^ W = 0 := by
      apply Nat.eq_of_testBit_eq
      intro i
      rw [bit_up, Nat.zero_testBit]
      by_cases c : W + i < 128
      · exact h _ (by omega) c
      · exact Nat.testBit_lt_two_pow (Nat.lt_of_lt_of_le hN (Nat.pow_le_pow_right (by decide) (by omega)))
    rcases Nat.div_eq_zero_iff.1 this with q | q
    · have := Nat.two_pow_pos W; omega
    · exact q
  · intro h k k1 k2
    exact Nat.testBit_lt_two_pow (Nat.lt_of_lt_of_le h (Nat.pow_le_pow_right (by decide) k1))
theorem wdF_le (f : Int) : wdF f ≤ 128 := by unfold wdF; (repeat' split) <;> decide
theorem wdF_pos {f : Int} (h0 : 0 ≤ f) (h3 : f ≤ 3) : 16 ≤ wdF f := by
  rcases (by omega : f = 0 ∨ f = 1 ∨ f = 2 ∨ f = 3) with rfl | rfl | rfl | rfl <;> decide
theorem wdF_none {f : Int} (h : ¬ f ≤ 3) : wdF f = 0 := by unfold wdF; rw [if_neg (by omega), if_neg (by omega), if_neg (by omega), if_neg (by omega)]
def isN (f : Int) (N : Nat) : Bool := decide (0 < wdF f ∧ N / 2 ^ wdF f = 2 ^ (128 - wdF f) - 1)
def fitN (f : Int) (N : Nat) : Bool := decide (0 < wdF f ∧ N < 2 ^ wdF f)
def abN (f : Int) : Nat := 2 ^ 128 - 2 ^ wdF f
def nanN (f : Int) : Nat := if f = 0 then 2143289344 else if f = 1 then 9221120237041090560 else if f = 2 then 32256 else 170138587312039964317873038467719495680
def ubN (f : Int) (N : Nat) : Nat := if isN f N = true then N % 2 ^ wdF f else nanN f
theorem n128 {x y N : Nat} (hx : x < 18446744073709551616) (hy : y < 18446744073709551616) (hN : y + 18446744073709551616 * x = N) : N < 2 ^ 128 := by
  rw [show (2 : Nat) ^ 128 = 340282366920938463463374607431768211456 from rfl]
  omega
theorem rIsb_is (f : Int) (x y N : Nat) (hx : x < 18446744073709551616) (hy : y < 18446744073709551616) (hN : y + 18446744073709551616 * x = N) (w : World) : Calls Tryd.prog 13 #[.int .u8 f, .agg #[.int .u64 (x : Nat), .int .u64 (y : Nat)]] w fun r w' => r = .returned (.bool (isN f N)) ∧ Below w.heap.size w w' := by
  have W := wdF_le f
  have KW := box (fun w => bel_st (r22_w f w))
  have lN := n128 hx hy hN
  rcases first_bit (fun k => N.testBit k) (wdF f) (128 - wdF f) with h | ⟨m, h1, h2, h3, h4⟩
  · have h' : ∀ k, wdF f ≤ k → k < 128 → N.testBit k = true := fun k a b => h k a (by omega)
    have e : isN f N = decide (0 < wdF f) := by
      unfold isN
      exact decide_eq_decide.2 ⟨fun q => q.1, fun q => ⟨q, (ones_iff lN W).1 h'⟩⟩
    rw [e]
    exact r22_IsBoxed_y f (wdF f) W x y N hx hy hN h' w KW
  · have e : isN f N = false := by
      unfold isN
      refine decide_eq_false (fun q => ?_)
      have := (ones_iff lN W).2 q.2 m h1 (by omega)
      rw [h3] at this
      cases this
    rw [e]
    exact r22_IsBoxed_n f (wdF f) W x y N hx hy hN m h1 (by omega) h3 h4 w KW
theorem rFit_is (f : Int) (x y N : Nat) (hx : x < 18446744073709551616) (hy : y < 18446744073709551616) (hN : y + 18446744073709551616 * x = N) (w : World) : Calls Tryd.prog 18 #[.int .u8 f, .agg #[.int .u64 (x : Nat), .int .u64 (y : Nat)]] w fun r w' => r = .returned (.bool (fitN f N)) ∧ Below w.heap.size w w' := by
  have W := wdF_le f
  have KW := box (fun w => bel_st (r22_w f w))
  have lN := n128 hx hy hN
  rcases first_bit (fun k => !N.testBit k) (wdF f) (128 - wdF f) with h | ⟨m, h1, h2, h3, h4⟩
  · have h' : ∀ k, wdF f ≤ k → k < 128 → N.testBit k = false := fun k a b => by simpa using h k a (by omega)
    have e : fitN f N = decide (0 < wdF f) := by
      unfold fitN
      exact decide_eq_decide.2 ⟨fun q => q.1, fun q => ⟨q, (zeros_iff lN W).1 h'⟩⟩
    rw [e]
    exact r22_Fits_y f (wdF f) W x y N hx hy hN h' w KW
  · have h3 : N.testBit m = true := by simpa using h3
    have e : fitN f N = false := by
      unfold fitN
      refine decide_eq_false (fun q => ?_)
      have := (zeros_iff lN W).2 q.2 m h1 (by omega)
      rw [h3] at this
      cases this
    rw [e]
    exact r22_Fits_n f (wdF f) W x y N hx hy hN m h1 (by omega) h3 (fun k a b => by simpa using h4 k a b) w KW
theorem rAbv_is (f : Int) (u v : Nat) (h : bv7 (abN f) = (u, v)) (w : World) : Calls Tryd.prog 15 #[.int .u8 f] w fun r w' => r = .returned (.agg #[.int .u64 (u : Nat), .int .u64 (v : Nat)]) ∧ Below w.heap.size w w' :=
  r22_Above f (wdF f) (wdF_le f) (Nat.two_pow_pos _) u v (by rw [Nat.zero_add]; exact h) w (box (fun w => bel_st (r22_w f w)))
theorem rLow_is (f : Int) (x y N : Nat) (hx : x < 18446744073709551616) (hy : y < 18446744073709551616) (hN : y + 18446744073709551616 * x = N) (u v : Nat) (h : bv7 (N % 2 ^ wdF f) = (u, v)) (w : World) : Calls Tryd.prog 17 #[.int .u8 f, .agg #[.int .u64 (x : Nat), .int .u64 (y : Nat)]] w fun r w' => r = .returned (.agg #[.int .u64 (u : Nat), .int .u64 (v : Nat)]) ∧ Below w.heap.size w w' :=
  r22_Low f (wdF f) (wdF_le f) x y N hx hy hN u v h w (box (fun w => bel_st (r22_w f w)))
theorem rBox_is (f : Int) (x y N : Nat) (hx : x < 18446744073709551616) (hy : y < 18446744073709551616) (hN : y + 18446744073709551616 * x = N) (fit : N < 2 ^ wdF f) (u v : Nat) (h : bv7 (N + abN f) = (u, v)) (w : World) : Calls Tryd.prog 19 #[.int .u8 f, .agg #[.int .u64 (x : Nat), .int .u64 (y : Nat)]] w fun r w' => r = .returned (.agg #[.int .u64 (u : Nat), .int .u64 (v : Nat)]) ∧ Below w.heap.size w w' :=
  r22_Box f (wdF f) (wdF_le f) x y N hx hy hN fit u v h w (box (fun w => bel_st (r22_w f w)))
theorem rNan_is (f : Int) (h0 : 0 ≤ f) (h3 : f ≤ 3) (u v : Nat) (h : bv7 (nanN f) = (u, v)) (w : World) : Calls Tryd.prog 31 #[.int .u8 f] w fun r w' => r = .returned (.agg #[.int .u64 (u : Nat), .int .u64 (v : Nat)]) ∧ Below w.heap.size w w' := by
  have KW := box (fun w => bel_st (r22_w f w))
  rcases (by omega : f = 0 ∨ f = 1 ∨ f = 2 ∨ f = 3) with rfl | rfl | rfl | rfl
  · exact r22_NaN_s u v h w KW
  · exact r22_NaN_d u v h w KW
  · exact r22_NaN_h u v h w KW
  · exact r22_NaN_q u v h w KW
theorem rUbx_is (f : Int) (h0 : 0 ≤ f) (h3 : f ≤ 3) (x y N : Nat) (hx : x < 18446744073709551616) (hy : y < 18446744073709551616) (hN : y + 18446744073709551616 * x = N) (u v : Nat) (h : bv7 (ubN f N) = (u, v)) (w : World) : Calls Tryd.prog 16 #[.int .u8 f, .agg #[.int .u64 (x : Nat), .int .u64 (y : Nat)]] w fun r w' => r = .returned (.agg #[.int .u64 (u : Nat), .int .u64 (v : Nat)]) ∧ Below w.heap.size w w' := by
  have KI := box (fun w => rIsb_is f x y N hx hy hN w)
  unfold ubN at h
  cases q : isN f N
  · rw [q] at KI h
    exact r22_Unbox_n f x y u v w KI (box (fun w => rNan_is f h0 h3 u v h w))
  · rw [q] at KI h
    exact r22_Unbox_y f x y u v w KI (box (fun w => rLow_is f x y N hx hy hN u v h w))
theorem ebb_sj (a b : Int) : ebb a b a b = true := by unfold ebb; simp
set_option maxRecDepth 100000 in
set_option maxHeartbeats 8000000 in
theorem r22lives (a5 b5 : Nat) (w : World) (K1 : Box (∀ w, FAt w → Calls Tryd.prog 11 #[.int .u8 2, .agg #[.int .u64 0, .int .u64 15360]] w fun r w' => r = .returned (.tuple #[.agg #[.int .u64 18446744073709551615, .int .u64 18446744073709501440], .int .i64 0]) ∧ Below w.heap.size w w')) (K2 : Box (∀ w, FAt w → Calls Tryd.prog 9 #[.int .u8 2, .agg #[.int .u64 18446744073709551615, .int .u64 18446744073709501440]] w fun r w' => r = .returned (.tuple #[.agg #[.int .u64 0, .int .u64 15360], .int .i64 0]) ∧ Below w.heap.size w w')) (K3 : Box (∀ w, FAt w → Calls Tryd.prog 9 #[.int .u8 0, .agg #[.int .u64 18446744073709551615, .int .u64 18446744073709501440]] w fun r w' => r = .returned (.tuple #[.agg #[.int .u64 0, .int .u64 4294917120], .int .i64 0]) ∧ Below w.heap.size w w')) (K4 : Box (∀ w, FAt w → Calls Tryd.prog 9 #[.int .u8 2, .agg #[.int .u64 0, .int .u64 15360]] w fun r w' => r = .returned (.tuple #[.agg #[.int .u64 0, .int .u64 32256], .int .i64 0]) ∧ Below w.heap.size w w')) (K5 : Box (∀ w, FAt w → Calls Tryd.prog 11 #[.int .u8 2, .agg #[.int .u64 0, .int .u64 65536]] w fun r w' => r = .returned (.tuple #[.agg #[.int .u64 (a5 : Nat), .int .u64 (b5 : Nat)], .int .i64 2]) ∧ Below w.heap.size w w')) (hT : FAt w) : Calls Tryd.prog 14 #[] w fun r w' => r = .returned (.bool true) ∧ Below w.heap.size w w' := by
  have FF := box hT
  clear hT
  have hE := eqb
  have B0 : Below w.heap.size w w := (Below.refl _ _)
  go_enter Tryd.func14, Tryd.ntmps14
  go_wp2_with fail
  refine (K1.out _ (fatB FF.out B0)).mono ?_
  rintro r w1 ⟨rfl, b1⟩
  have B1 : Below w.heap.size w w1 := btr B0 b1
  clear b1 B0 
  have S2 := box B1.size
  have Ra_2 := heap_alloc_last w1 (Obj.cells #[.int .u64 18446744073709551615, .int .u64 18446744073709501440] 25)
  have B2 := btr B1 (bal w1 (Obj.cells #[.int .u64 18446744073709551615, .int .u64 18446744073709501440] 25))
  clear B1 
  obtain ⟨ca_2_0, ca_2_1⟩ := cells2s Ra_2
  go_wp2_with fail
  refine (K2.out _ (fatB FF.out B2)).mono ?_
  rintro r w3 ⟨rfl, b3⟩
  have B3 : Below w.heap.size w w3 := btr B2 b3
  have Ra_3 := heap_of b3 _ _ _ Ra_2
  clear b3 B2 Ra_2 ca_2_0 ca_2_1
  obtain ⟨ca_3_0, ca_3_1⟩ := cells2s Ra_3
  have S4 := box B3.size
  have La_4 : Box (w1.heap.size < w3.heap.size) := box (Array.getElem?_eq_some_iff.1 Ra_3).1
  have Rb_4 := heap_alloc_last w3 (Obj.cells #[.int .u64 0, .int .u64 15360] 25)
  have B4 := btr B3 (bal w3 (Obj.cells #[.int .u64 0, .int .u64 15360] 25))
  have Ra_4 := heap_of (bal w3 (Obj.cells #[.int .u64 0, .int .u64 15360] 25)) _ _ _ Ra_3
  clear B3 Ra_3 ca_3_0 ca_3_1
  obtain ⟨ca_4_0, ca_4_1⟩ := cells2s Ra_4
  obtain ⟨cb_4_0, cb_4_1⟩ := cells2s Rb_4
  go_wp2_with fail
  refine (K3.out _ (fatB FF.out B4)).mono ?_
  rintro r w5 ⟨rfl, b5⟩
  have B5 : Below w.heap.size w w5 := btr B4 b5
  have Ra_5 := heap_of b5 _ _ _ Ra_4
  have Rb_5 := heap_of b5 _ _ _ Rb_4
  clear b5 B4 Ra_4 ca_4_0 ca_4_1 Rb_4 cb_4_0 cb_4_1
  obtain ⟨ca_5_0, ca_5_1⟩ := cells2s Ra_5
  obtain ⟨cb_5_0, cb_5_1⟩ := cells2s Rb_5
  have S6 := box B5.size
  have La_6 : Box (w1.heap.size < w5.heap.size) := box (Array.getElem?_eq_some_iff.1 Ra_5).1
  have Lb_6 : Box (w3.heap.size < w5.heap.size) := box (Array.getElem?_eq_some_iff.1 Rb_5).1
  have Rc_6 := heap_alloc_last w5 (Obj.cells #[.int .u64 0, .int .u64 4294917120] 25)
  have B6 := btr B5 (bal w5 (Obj.cells #[.int .u64 0, .int .u64 4294917120] 25))
  have Ra_6 := heap_of (bal w5 (Obj.cells #[.int .u64 0, .int .u64 4294917120] 25)) _ _ _ Ra_5
  have Rb_6 := heap_of (bal w5 (Obj.cells #[.int .u64 0, .int .u64 4294917120] 25)) _ _ _ Rb_5
  clear B5 Ra_5 ca_5_0 ca_5_1 Rb_5 cb_5_0 cb_5_1
  obtain ⟨ca_6_0, ca_6_1⟩ := cells2s Ra_6
  obtain ⟨cb_6_0, cb_6_1⟩ := cells2s Rb_6
  obtain ⟨cc_6_0, cc_6_1⟩ := cells2s Rc_6
  go_wp2_with fail
  refine (K4.out _ (fatB FF.out B6)).mono ?_
  rintro r w7 ⟨rfl, b7⟩
  have B7 : Below w.heap.size w w7 := btr B6 b7
  have Ra_7 := heap_of b7 _ _ _ Ra_6
  have Rb_7 := heap_of b7 _ _ _ Rb_6
  have Rc_7 := heap_of b7 _ _ _ Rc_6
  clear b7 B6 Ra_6 ca_6_0 ca_6_1 Rb_6 cb_6_0 cb_6_1 Rc_6 cc_6_0 cc_6_1
  obtain ⟨ca_7_0, ca_7_1⟩ := cells2s Ra_7
  obtain ⟨cb_7_0, cb_7_1⟩ := cells2s Rb_7
  obtain ⟨cc_7_0, cc_7_1⟩ := cells2s Rc_7
  have S8 := box B7.size
  have La_8 : Box (w1.heap.size < w7.heap.size) := box (Array.getElem?_eq_some_iff.1 Ra_7).1
  have Lb_8 : Box (w3.heap.size < w7.heap.size) := box (Array.getElem?_eq_some_iff.1 Rb_7).1
  have Lc_8 : Box (w5.heap.size < w7.heap.size) := box (Array.getElem?_eq_some_iff.1 Rc_7).1
  have Rd_8 := heap_alloc_last w7 (Obj.cells #[.int .u64 0, .int .u64 32256] 25)
  have B8 := btr B7 (bal w7 (Obj.cells #[.int .u64 0, .int .u64 32256] 25))
  have Ra_8 := heap_of (bal w7 (Obj.cells #[.int .u64 0, .int .u64 32256] 25)) _ _ _ Ra_7
  have Rb_8 := heap_of (bal w7 (Obj.cells #[.int .u64 0, .int .u64 32256] 25)) _ _ _ Rb_7
  have Rc_8 := heap_of (bal w7 (Obj.cells #[.int .u64 0, .int .u64 32256] 25)) _ _ _ Rc_7
  clear B7 Ra_7 ca_7_0 ca_7_1 Rb_7 cb_7_0 cb_7_1 Rc_7 cc_7_0 cc_7_1
  obtain ⟨ca_8_0, ca_8_1⟩ := cells2s Ra_8
  obtain ⟨cb_8_0, cb_8_1⟩ := cells2s Rb_8
  obtain ⟨cc_8_0, cc_8_1⟩ := cells2s Rc_8
  obtain ⟨cd_8_0, cd_8_1⟩ := cells2s Rd_8
  go_wp2_with fail
  refine (K5.out _ (fatB FF.out B8)).mono ?_
  rintro r w9 ⟨rfl, b9⟩
  have B9 : Below w.heap.size w w9 := btr B8 b9
  have Ra_9 := heap_of b9 _ _ _ Ra_8
  have Rb_9 := heap_of b9 _ _ _ Rb_8
  have Rc_9 := heap_of b9 _ _ _ Rc_8
  have Rd_9 := heap_of b9 _ _ _ Rd_8
  clear b9 B8 Ra_8 ca_8_0 ca_8_1 Rb_8 cb_8_0 cb_8_1 Rc_8 cc_8_0 cc_8_1 Rd_8 cd_8_0 cd_8_1
  obtain ⟨ca_9_0, ca_9_1⟩ := cells2s Ra_9
  obtain ⟨cb_9_0, cb_9_1⟩ := cells2s Rb_9
  obtain ⟨cc_9_0, cc_9_1⟩ := cells2s Rc_9
  obtain ⟨cd_9_0, cd_9_1⟩ := cells2s Rd_9
  have S10 := box B9.size
  have La_10 : Box (w1.heap.size < w9.heap.size) := box (Array.getElem?_eq_some_iff.1 Ra_9).1
  have Lb_10 : Box (w3.heap.size < w9.heap.size) := box (Array.getElem?_eq_some_iff.1 Rb_9).1
  have Lc_10 : Box (w5.heap.size < w9.heap.size) := box (Array.getElem?_eq_some_iff.1 Rc_9).1
  have Ld_10 : Box (w7.heap.size < w9.heap.size) := box (Array.getElem?_eq_some_iff.1 Rd_9).1
  have Rq_10 := heap_alloc_last w9 (Obj.cells #[.int .u64 (a5 : Nat), .int .u64 (b5 : Nat)] 25)
  have B10 := btr B9 (bal w9 (Obj.cells #[.int .u64 (a5 : Nat), .int .u64 (b5 : Nat)] 25))
  have Ra_10 := heap_of (bal w9 (Obj.cells #[.int .u64 (a5 : Nat), .int .u64 (b5 : Nat)] 25)) _ _ _ Ra_9
  have Rb_10 := heap_of (bal w9 (Obj.cells #[.int .u64 (a5 : Nat), .int .u64 (b5 : Nat)] 25)) _ _ _ Rb_9
  have Rc_10 := heap_of (bal w9 (Obj.cells #[.int .u64 (a5 : Nat), .int .u64 (b5 : Nat)] 25)) _ _ _ Rc_9
  have Rd_10 := heap_of (bal w9 (Obj.cells #[.int .u64 (a5 : Nat), .int .u64 (b5 : Nat)] 25)) _ _ _ Rd_9
  clear B9 Ra_9 ca_9_0 ca_9_1 Rb_9 cb_9_0 cb_9_1 Rc_9 cc_9_0 cc_9_1 Rd_9 cd_9_0 cd_9_1
  obtain ⟨ca_10_0, ca_10_1⟩ := cells2s Ra_10
  obtain ⟨cb_10_0, cb_10_1⟩ := cells2s Rb_10
  obtain ⟨cc_10_0, cc_10_1⟩ := cells2s Rc_10
  obtain ⟨cd_10_0, cd_10_1⟩ := cells2s Rd_10
  obtain ⟨cq_10_0, cq_10_1⟩ := cells2s Rq_10
  go_wp2
  go_ret
  exact ⟨rfl, B10⟩
set_option maxRecDepth 100000 in
set_option maxHeartbeats 8000000 in
theorem br_no (f W : Int) (hW : decide (0 < W) = false) (x y : Nat) (o : Bool) (w : World) (KW : Box (∀ w, Calls Tryd.prog 7 #[.int .u8 f] w fun r w' => r = .returned (.int .i64 W) ∧ Below w.heap.size w w')) (K1 : Box (∀ w, FAt w → Calls Tryd.prog 8 #[.int .u8 f] w fun r w' => r = .returned (.tuple #[.agg #[.int .u64 0, .int .u64 0], .int .i64 2]) ∧ Below w.heap.size w w')) (K2 : Box (∀ w, FAt w → Calls Tryd.prog 9 #[.int .u8 f, .agg #[.int .u64 (x : Nat), .int .u64 (y : Nat)]] w fun r w' => r = .returned (.tuple #[.agg #[.int .u64 0, .int .u64 0], .int .i64 2]) ∧ Below w.heap.size w w')) (K3 : Box (∀ w, FAt w → Calls Tryd.prog 10 #[.int .u8 f, .agg #[.int .u64 (x : Nat), .int .u64 (y : Nat)]] w fun r w' => r = .returned (.tuple #[.agg #[.int .u64 0, .int .u64 0], .int .i64 2]) ∧ Below w.heap.size w w')) (K4 : Box (∀ w, FAt w → Calls Tryd.prog 11 #[.int .u8 f, .agg #[.int .u64 (x : Nat), .int .u64 (y : Nat)]] w fun r w' => r = .returned (.tuple #[.agg #[.int .u64 0, .int .u64 0], .int .i64 2]) ∧ Below w.heap.size w w')) (KI : Box (∀ w, FAt w → Calls Tryd.prog 12 #[.int .u8 f, .agg #[.int .u64 (x : Nat), .int .u64 (y : Nat)]] w fun r w' => r = .returned (.bool o) ∧ Below w.heap.size w w')) (RI : Box (∀ w, Calls Tryd.prog 13 #[.int .u8 f, .agg #[.int .u64 (x : Nat), .int .u64 (y : Nat)]] w fun r w' => r = .returned (.bool o) ∧ Below w.heap.size w w')) (KV : Box (∀ w, FAt w → Calls Tryd.prog 14 #[] w fun r w' => r = .returned (.bool true) ∧ Below w.heap.size w w')) (hT : FAt w) : Calls Tryd.prog 3 #[.int .u8 f, .agg #[.int .u64 (x : Nat), .int .u64 (y : Nat)]] w fun r w' => r = .returned (.bool true) ∧ Below w.heap.size w w' := by
  have FF := box hT
  clear hT
  have hE := eqb
  have e1 := ebb_sj 0 0
  obtain ⟨Rr_0, B0⟩ := opn1 w (Obj.cells #[.int .u64 (x : Nat), .int .u64 (y : Nat)] 25)
  go_enter Tryd.func3, Tryd.ntmps3
  obtain ⟨cr_0_0, cr_0_1⟩ := cells2s Rr_0
  go_wp2_with fail
  refine (KW.out _).mono ?_
  rintro r w1 ⟨rfl, b1⟩
  have B1 : Below w.heap.size w w1 := btr B0 b1
  have Rr_1 := heap_of b1 _ _ _ Rr_0
  clear b1 B0 Rr_0 cr_0_0 cr_0_1
  obtain ⟨cr_1_0, cr_1_1⟩ := cells2s Rr_1
  go_wp2_with fail
  refine (K1.out _ (fatB FF.out B1)).mono ?_
  rintro r w2 ⟨rfl, b2⟩
  have B2 : Below w.heap.size w w2 := btr B1 b2
  have Rr_2 := heap_of b2 _ _ _ Rr_1
  clear b2 B1 Rr_1 cr_1_0 cr_1_1
  obtain ⟨cr_2_0, cr_2_1⟩ := cells2s Rr_2
  have S3 := box B2.size
  have Lr_3 : Box (w.heap.size < w2.heap.size) := box (Array.getElem?_eq_some_iff.1 Rr_2).1
  have Ra_3 := heap_alloc_last w2 (Obj.cells #[.int .u64 0, .int .u64 0] 25)
  have B3 := btr B2 (bal w2 (Obj.cells #[.int .u64 0, .int .u64 0] 25))
  have Rr_3 := heap_of (bal w2 (Obj.cells #[.int .u64 0, .int .u64 0] 25)) _ _ _ Rr_2
  clear B2 Rr_2 cr_2_0 cr_2_1
  obtain ⟨cr_3_0, cr_3_1⟩ := cells2s Rr_3
  obtain ⟨ca_3_0, ca_3_1⟩ := cells2s Ra_3
  go_wp2_with fail
  refine (K2.out _ (fatB FF.out B3)).mono ?_
  rintro r w4 ⟨rfl, b4⟩
  have B4 : Below w.heap.size w w4 := btr B3 b4
  have Rr_4 := heap_of b4 _ _ _ Rr_3
  have Ra_4 := heap_of b4 _ _ _ Ra_3
  clear b4 B3 Rr_3 cr_3_0 cr_3_1 Ra_3 ca_3_0 ca_3_1
  obtain ⟨cr_4_0, cr_4_1⟩ := cells2s Rr_4
  obtain ⟨ca_4_0, ca_4_1⟩ := cells2s Ra_4
  have S5 := box B4.size
  have Lr_5 : Box (w.heap.size < w4.heap.size) := box (Array.getElem?_eq_some_iff.1 Rr_4).1
  have La_5 : Box (w2.heap.size < w4.heap.size) := box (Array.getElem?_eq_some_iff.1 Ra_4).1
  have Rc_5 := heap_alloc_last w4 (Obj.cells #[.int .u64 0, .int .u64 0] 25)
  have B5 := btr B4 (bal w4 (Obj.cells #[.int .u64 0, .int .u64 0] 25))
  have Rr_5 := heap_of (bal w4 (Obj.cells #[.int .u64 0, .int .u64 0] 25)) _ _ _ Rr_4
  have Ra_5 := heap_of (bal w4 (Obj.cells #[.int .u64 0, .int .u64 0] 25)) _ _ _ Ra_4
  clear B4 Rr_4 cr_4_0 cr_4_1 Ra_4 ca_4_0 ca_4_1
  obtain ⟨cr_5_0, cr_5_1⟩ := cells2s Rr_5
  obtain ⟨ca_5_0, ca_5_1⟩ := cells2s Ra_5
  obtain ⟨cc_5_0, cc_5_1⟩ := cells2s Rc_5
  go_wp2_with fail
  refine (K3.out _ (fatB FF.out B5)).mono ?_
  rintro r w6 ⟨rfl, b6⟩
  have B6 : Below w.heap.size w w6 := btr B5 b6
  have Rr_6 := heap_of b6 _ _ _ Rr_5
  have Ra_6 := heap_of b6 _ _ _ Ra_5
  have Rc_6 := heap_of b6 _ _ _ Rc_5
  clear b6 B5 Rr_5 cr_5_0 cr_5_1 Ra_5 ca_5_0 ca_5_1 Rc_5 cc_5_0 cc_5_1
  obtain ⟨cr_6_0, cr_6_1⟩ := cells2s Rr_6
  obtain ⟨ca_6_0, ca_6_1⟩ := cells2s Ra_6
  obtain ⟨cc_6_0, cc_6_1⟩ := cells2s Rc_6
  have S7 := box B6.size
  have Lr_7 : Box (w.heap.size < w6.heap.size) := box (Array.getElem?_eq_some_iff.1 Rr_6).1
  have La_7 : Box (w2.heap.size < w6.heap.size) := box (Array.getElem?_eq_some_iff.1 Ra_6).1
  have Lc_7 : Box (w4.heap.size < w6.heap.size) := box (Array.getElem?_eq_some_iff.1 Rc_6).1
  have Rd_7 := heap_alloc_last w6 (Obj.cells #[.int .u64 0, .int .u64 0] 25)
  have B7 := btr B6 (bal w6 (Obj.cells #[.int .u64 0, .int .u64 0] 25))
  have Rr_7 := heap_of (bal w6 (Obj.cells #[.int .u64 0, .int .u64 0] 25)) _ _ _ Rr_6
  have Ra_7 := heap_of (bal w6 (Obj.cells #[.int .u64 0, .int .u64 0] 25)) _ _ _ Ra_6
  have Rc_7 := heap_of (bal w6 (Obj.cells #[.int .u64 0, .int .u64 0] 25)) _ _ _ Rc_6
  clear B6 Rr_6 cr_6_0 cr_6_1 Ra_6 ca_6_0 ca_6_1 Rc_6 cc_6_0 cc_6_1
  obtain ⟨cr_7_0, cr_7_1⟩ := cells2s Rr_7
  obtain ⟨ca_7_0, ca_7_1⟩ := cells2s Ra_7
  obtain ⟨cc_7_0, cc_7_1⟩ := cells2s Rc_7
  obtain ⟨cd_7_0, cd_7_1⟩ := cells2s Rd_7
  go_wp2_with fail
  refine (K4.out _ (fatB FF.out B7)).mono ?_
  rintro r w8 ⟨rfl, b8⟩
  have B8 : Below w.heap.size w w8 := btr B7 b8
  have Rr_8 := heap_of b8 _ _ _ Rr_7
  have Ra_8 := heap_of b8 _ _ _ Ra_7
  have Rc_8 := heap_of b8 _ _ _ Rc_7
  have Rd_8 := heap_of b8 _ _ _ Rd_7
  clear b8 B7 Rr_7 cr_7_0 cr_7_1 Ra_7 ca_7_0 ca_7_1 Rc_7 cc_7_0 cc_7_1 Rd_7 cd_7_0 cd_7_1
  obtain ⟨cr_8_0, cr_8_1⟩ := cells2s Rr_8
  obtain ⟨ca_8_0, ca_8_1⟩ := cells2s Ra_8
  obtain ⟨cc_8_0, cc_8_1⟩ := cells2s Rc_8
  obtain ⟨cd_8_0, cd_8_1⟩ := cells2s Rd_8
  have S9 := box B8.size
  have Lr_9 : Box (w.heap.size < w8.heap.size) := box (Array.getElem?_eq_some_iff.1 Rr_8).1
  have La_9 : Box (w2.heap.size < w8.heap.size) := box (Array.getElem?_eq_some_iff.1 Ra_8).1
  have Lc_9 : Box (w4.heap.size < w8.heap.size) := box (Array.getElem?_eq_some_iff.1 Rc_8).1
  have Ld_9 : Box (w6.heap.size < w8.heap.size) := box (Array.getElem?_eq_some_iff.1 Rd_8).1
  have Ri_9 := heap_alloc_last w8 (Obj.cells #[.int .u64 0, .int .u64 0] 25)
  have B9 := btr B8 (bal w8 (Obj.cells #[.int .u64 0, .int .u64 0] 25))
  have Rr_9 := heap_of (bal w8 (Obj.cells #[.int .u64 0, .int .u64 0] 25)) _ _ _ Rr_8
  have Ra_9 := heap_of (bal w8 (Obj.cells #[.int .u64 0, .int .u64 0] 25)) _ _ _ Ra_8
  have Rc_9 := heap_of (bal w8 (Obj.cells #[.int .u64 0, .int .u64 0] 25)) _ _ _ Rc_8
  have Rd_9 := heap_of (bal w8 (Obj.cells #[.int .u64 0, .int .u64 0] 25)) _ _ _ Rd_8
  clear B8 Rr_8 cr_8_0 cr_8_1 Ra_8 ca_8_0 ca_8_1 Rc_8 cc_8_0 cc_8_1 Rd_8 cd_8_0 cd_8_1
  obtain ⟨cr_9_0, cr_9_1⟩ := cells2s Rr_9
  obtain ⟨ca_9_0, ca_9_1⟩ := cells2s Ra_9
  obtain ⟨cc_9_0, cc_9_1⟩ := cells2s Rc_9
  obtain ⟨cd_9_0, cd_9_1⟩ := cells2s Rd_9
  obtain ⟨ci_9_0, ci_9_1⟩ := cells2s Ri_9
  go_wp2_with fail
  obtain ⟨F, hF1, hF2⟩ := below_fun (w8.alloc (Obj.cells #[.int .u64 0, .int .u64 0] 25))
  have fr_0 := fun u => cells4 (heap_of (hF1 u) _ _ _ Rr_9) 0 _ rfl
  have fr_1 := fun u => cells4 (heap_of (hF1 u) _ _ _ Rr_9) 1 _ rfl
  have fa_0 := fun u => cells4 (heap_of (hF1 u) _ _ _ Ra_9) 0 _ rfl
  have fa_1 := fun u => cells4 (heap_of (hF1 u) _ _ _ Ra_9) 1 _ rfl
  have fc_0 := fun u => cells4 (heap_of (hF1 u) _ _ _ Rc_9) 0 _ rfl
  have fc_1 := fun u => cells4 (heap_of (hF1 u) _ _ _ Rc_9) 1 _ rfl
  have fd_0 := fun u => cells4 (heap_of (hF1 u) _ _ _ Rd_9) 0 _ rfl
  have fd_1 := fun u => cells4 (heap_of (hF1 u) _ _ _ Rd_9) 1 _ rfl
  have fi_0 := fun u => cells4 (heap_of (hF1 u) _ _ _ Ri_9) 0 _ rfl
  have fi_1 := fun u => cells4 (heap_of (hF1 u) _ _ _ Ri_9) 1 _ rfl
  have FG : Box (∀ u, FAt (F u)) := box (fun u => fatB FF.out (btr B9 (hF1 u)))
  refine wp_region_below F hF2 (by kernel_rfl) (by kernel_rfl) ?_
  repeat first | go_big_quiet_step (first | (go_at_call 12; exact quietF hF1 hF2 (KI.out _ (FG.out _))) | (go_at_call 13; exact quietF hF1 hF2 (RI.out _)) | fail) | quiet_step (first | (go_at_call 12; exact quietF hF1 hF2 (KI.out _ (FG.out _))) | (go_at_call 13; exact quietF hF1 hF2 (RI.out _)) | fail)
  refine wpQuiet_nil ?_
  rintro _ ⟨uW, rfl⟩
  have B10 := btr B9 (hF1 uW)
  have Rr_10 := heap_of (hF1 uW) _ _ _ Rr_9
  have Ra_10 := heap_of (hF1 uW) _ _ _ Ra_9
  have Rc_10 := heap_of (hF1 uW) _ _ _ Rc_9
  have Rd_10 := heap_of (hF1 uW) _ _ _ Rd_9
  have Ri_10 := heap_of (hF1 uW) _ _ _ Ri_9
  obtain ⟨w10, hw⟩ : ∃ V, F uW = V := ⟨_, rfl⟩
  rw [hw] at B10 Rr_10 Ra_10 Rc_10 Rd_10 Ri_10
  try rw [hw]
  clear hw hF1 hF2 B9 fr_0 fr_1 fa_0 fa_1 fc_0 fc_1 fd_0 fd_1 fi_0 fi_1 Rr_9 cr_9_0 cr_9_1 Ra_9 ca_9_0 ca_9_1 Rc_9 cc_9_0 cc_9_1 Rd_9 cd_9_0 cd_9_1 Ri_9 ci_9_0 ci_9_1
  clear FG
  clear F
  obtain ⟨cr_10_0, cr_10_1⟩ := cells2s Rr_10
  obtain ⟨ca_10_0, ca_10_1⟩ := cells2s Ra_10
  obtain ⟨cc_10_0, cc_10_1⟩ := cells2s Rc_10
  obtain ⟨cd_10_0, cd_10_1⟩ := cells2s Rd_10
  obtain ⟨ci_10_0, ci_10_1⟩ := cells2s Ri_10
  have S11 := box B10.size
  have Lr_11 : Box (w.heap.size < w10.heap.size) := box (Array.getElem?_eq_some_iff.1 Rr_10).1
  have La_11 : Box (w2.heap.size < w10.heap.size) := box (Array.getElem?_eq_some_iff.1 Ra_10).1
  have Lc_11 : Box (w4.heap.size < w10.heap.size) := box (Array.getElem?_eq_some_iff.1 Rc_10).1
  have Ld_11 : Box (w6.heap.size < w10.heap.size) := box (Array.getElem?_eq_some_iff.1 Rd_10).1
  have Li_11 : Box (w8.heap.size < w10.heap.size) := box (Array.getElem?_eq_some_iff.1 Ri_10).1
  have Rn_11 := heap_alloc_last w10 (Obj.cells #[.int .u64 0, .int .u64 0] 25)
  have B11 := btr B10 (bal w10 (Obj.cells #[.int .u64 0, .int .u64 0] 25))
  have Rr_11 := heap_of (bal w10 (Obj.cells #[.int .u64 0, .int .u64 0] 25)) _ _ _ Rr_10
  have Ra_11 := heap_of (bal w10 (Obj.cells #[.int .u64 0, .int .u64 0] 25)) _ _ _ Ra_10
  have Rc_11 := heap_of (bal w10 (Obj.cells #[.int .u64 0, .int .u64 0] 25)) _ _ _ Rc_10
  have Rd_11 := heap_of (bal w10 (Obj.cells #[.int .u64 0, .int .u64 0] 25)) _ _ _ Rd_10
  have Ri_11 := heap_of (bal w10 (Obj.cells #[.int .u64 0, .int .u64 0] 25)) _ _ _ Ri_10
  clear B10 Rr_10 cr_10_0 cr_10_1 Ra_10 ca_10_0 ca_10_1 Rc_10 cc_10_0 cc_10_1 Rd_10 cd_10_0 cd_10_1 Ri_10 ci_10_0 ci_10_1
  obtain ⟨cr_11_0, cr_11_1⟩ := cells2s Rr_11
  obtain ⟨ca_11_0, ca_11_1⟩ := cells2s Ra_11
  obtain ⟨cc_11_0, cc_11_1⟩ := cells2s Rc_11
  obtain ⟨cd_11_0, cd_11_1⟩ := cells2s Rd_11
  obtain ⟨ci_11_0, ci_11_1⟩ := cells2s Ri_11
  obtain ⟨cn_11_0, cn_11_1⟩ := cells2s Rn_11
  go_wp2_with fail
  refine (KV.out _ (fatB FF.out B11)).mono ?_
  rintro r w12 ⟨rfl, b12⟩
  have B12 : Below w.heap.size w w12 := btr B11 b12
  have Rr_12 := heap_of b12 _ _ _ Rr_11
  have Ra_12 := heap_of b12 _ _ _ Ra_11
  have Rc_12 := heap_of b12 _ _ _ Rc_11
  have Rd_12 := heap_of b12 _ _ _ Rd_11
  have Ri_12 := heap_of b12 _ _ _ Ri_11
  have Rn_12 := heap_of b12 _ _ _ Rn_11
  clear b12 B11 Rr_11 cr_11_0 cr_11_1 Ra_11 ca_11_0 ca_11_1 Rc_11 cc_11_0 cc_11_1 Rd_11 cd_11_0 cd_11_1 Ri_11 ci_11_0 ci_11_1 Rn_11 cn_11_0 cn_11_1
  obtain ⟨cr_12_0, cr_12_1⟩ := cells2s Rr_12
  obtain ⟨ca_12_0, ca_12_1⟩ := cells2s Ra_12
  obtain ⟨cc_12_0, cc_12_1⟩ := cells2s Rc_12
  obtain ⟨cd_12_0, cd_12_1⟩ := cells2s Rd_12
  obtain ⟨ci_12_0, ci_12_1⟩ := cells2s Ri_12
  obtain ⟨cn_12_0, cn_12_1⟩ := cells2s Rn_12
  go_wp2
  go_ret
  exact ⟨rfl, B12⟩
set_option maxRecDepth 100000 in
set_option maxHeartbeats 8000000 in
theorem br_nf (f W : Int) (hW : decide (0 < W) = true) (x y : Nat) (u1 v1 u2 v2 u3 v3 u4 v4 : Nat) (o : Bool) (w : World) (KW : Box (∀ w, Calls Tryd.prog 7 #[.int .u8 f] w fun r w' => r = .returned (.int .i64 W) ∧ Below w.heap.size w w')) (K1 : Box (∀ w, FAt w → Calls Tryd.prog 8 #[.int .u8 f] w fun r w' => r = .returned (.tuple #[.agg #[.int .u64 (u1 : Nat), .int .u64 (v1 : Nat)], .int .i64 0]) ∧ Below w.heap.size w w')) (K2 : Box (∀ w, FAt w → Calls Tryd.prog 9 #[.int .u8 f, .agg #[.int .u64 (x : Nat), .int .u64 (y : Nat)]] w fun r w' => r = .returned (.tuple #[.agg #[.int .u64 (u2 : Nat), .int .u64 (v2 : Nat)], .int .i64 0]) ∧ Below w.heap.size w w')) (K3 : Box (∀ w, FAt w → Calls Tryd.prog 10 #[.int .u8 f, .agg #[.int .u64 (x : Nat), .int .u64 (y : Nat)]] w fun r w' => r = .returned (.tuple #[.agg #[.int .u64 (u3 : Nat), .int .u64 (v3 : Nat)], .int .i64 0]) ∧ Below w.heap.size w w')) (K4 : Box (∀ w, FAt w → Calls Tryd.prog 11 #[.int .u8 f, .agg #[.int .u64 (x : Nat), .int .u64 (y : Nat)]] w fun r w' => r = .returned (.tuple #[.agg #[.int .u64 0, .int .u64 0], .int .i64 2]) ∧ Below w.heap.size w w')) (KI : Box (∀ w, FAt w → Calls Tryd.prog 12 #[.int .u8 f, .agg #[.int .u64 (x : Nat), .int .u64 (y : Nat)]] w fun r w' => r = .returned (.bool o) ∧ Below w.heap.size w w')) (RI : Box (∀ w, Calls Tryd.prog 13 #[.int .u8 f, .agg #[.int .u64 (x : Nat), .int .u64 (y : Nat)]] w fun r w' => r = .returned (.bool o) ∧ Below w.heap.size w w')) (R1 : Box (∀ w, Calls Tryd.prog 15 #[.int .u8 f] w fun r w' => r = .returned (.agg #[.int .u64 (u1 : Nat), .int .u64 (v1 : Nat)]) ∧ Below w.heap.size w w')) (R2 : Box (∀ w, Calls Tryd.prog 16 #[.int .u8 f, .agg #[.int .u64 (x : Nat), .int .u64 (y : Nat)]] w fun r w' => r = .returned (.agg #[.int .u64 (u2 : Nat), .int .u64 (v2 : Nat)]) ∧ Below w.heap.size w w')) (R3 : Box (∀ w, Calls Tryd.prog 17 #[.int .u8 f, .agg #[.int .u64 (x : Nat), .int .u64 (y : Nat)]] w fun r w' => r = .returned (.agg #[.int .u64 (u3 : Nat), .int .u64 (v3 : Nat)]) ∧ Below w.heap.size w w')) (RF : Box (∀ w, Calls Tryd.prog 18 #[.int .u8 f, .agg #[.int .u64 (x : Nat), .int .u64 (y : Nat)]] w fun r w' => r = .returned (.bool false) ∧ Below w.heap.size w w')) (KV : Box (∀ w, FAt w → Calls Tryd.prog 14 #[] w fun r w' => r = .returned (.bool true) ∧ Below w.heap.size w w')) (hT : FAt w) : Calls Tryd.prog 3 #[.int .u8 f, .agg #[.int .u64 (x : Nat), .int .u64 (y : Nat)]] w fun r w' => r = .returned (.bool true) ∧ Below w.heap.size w w' := by
  have FF := box hT
  clear hT
  have hE := eqb
  have e1 := ebb_sj (u1 : Nat) (v1 : Nat)
  have e2 := ebb_sj (u2 : Nat) (v2 : Nat)
  have e3 := ebb_sj (u3 : Nat) (v3 : Nat)
  have e4 := ebb_sj (u4 : Nat) (v4 : Nat)
  have e5 := ebb_sj 0 0
  obtain ⟨Rr_0, B0⟩ := opn1 w (Obj.cells #[.int .u64 (x : Nat), .int .u64 (y : Nat)] 25)
  go_enter Tryd.func3, Tryd.ntmps3
  obtain ⟨cr_0_0, cr_0_1⟩ := cells2s Rr_0
  go_wp2_with fail
  refine (KW.out _).mono ?_
  rintro r w1 ⟨rfl, b1⟩
  have B1 : Below w.heap.size w w1 := btr B0 b1
  have Rr_1 := heap_of b1 _ _ _ Rr_0
  clear b1 B0 Rr_0 cr_0_0 cr_0_1
  obtain ⟨cr_1_0, cr_1_1⟩ := cells2s Rr_1
  go_wp2_with fail
  refine (K1.out _ (fatB FF.out B1)).mono ?_
  rintro r w2 ⟨rfl, b2⟩
  have B2 : Below w.heap.size w w2 := btr B1 b2
  have Rr_2 := heap_of b2 _ _ _ Rr_1
  clear b2 B1 Rr_1 cr_1_0 cr_1_1
  obtain ⟨cr_2_0, cr_2_1⟩ := cells2s Rr_2
  have S3 := box B2.size
  have Lr_3 : Box (w.heap.size < w2.heap.size) := box (Array.getElem?_eq_some_iff.1 Rr_2).1
  have Ra_3 := heap_alloc_last w2 (Obj.cells #[.int .u64 (u1 : Nat), .int .u64 (v1 : Nat)] 25)
  have B3 := btr B2 (bal w2 (Obj.cells #[.int .u64 (u1 : Nat), .int .u64 (v1 : Nat)] 25))
  have Rr_3 := heap_of (bal w2 (Obj.cells #[.int .u64 (u1 : Nat), .int .u64 (v1 : Nat)] 25)) _ _ _ Rr_2
  clear B2 Rr_2 cr_2_0 cr_2_1
  obtain ⟨cr_3_0, cr_3_1⟩ := cells2s Rr_3
  obtain ⟨ca_3_0, ca_3_1⟩ := cells2s Ra_3
  go_wp2_with fail
  refine (K2.out _ (fatB FF.out B3)).mono ?_
  rintro r w4 ⟨rfl, b4⟩
  have B4 : Below w.heap.size w w4 := btr B3 b4
  have Rr_4 := heap_of b4 _ _ _ Rr_3
  have Ra_4 := heap_of b4 _ _ _ Ra_3
  clear b4 B3 Rr_3 cr_3_0 cr_3_1 Ra_3 ca_3_0 ca_3_1
  obtain ⟨cr_4_0, cr_4_1⟩ := cells2s Rr_4
  obtain ⟨ca_4_0, ca_4_1⟩ := cells2s Ra_4
  have S5 := box B4.size
  have Lr_5 : Box (w.heap.size < w4.heap.size) := box (Array.getElem?_eq_some_iff.1 Rr_4).1
  have La_5 : Box (w2.heap.size < w4.heap.size) := box (Array.getElem?_eq_some_iff.1 Ra_4).1
  have Rc_5 := heap_alloc_last w4 (Obj.cells #[.int .u64 (u2 : Nat), .int .u64 (v2 : Nat)] 25)
  have B5 := btr B4 (bal w4 (Obj.cells #[.int .u64 (u2 : Nat), .int .u64 (v2 : Nat)] 25))
  have Rr_5 := heap_of (bal w4 (Obj.cells #[.int .u64 (u2 : Nat), .int .u64 (v2 : Nat)] 25)) _ _ _ Rr_4
  have Ra_5 := heap_of (bal w4 (Obj.cells #[.int .u64 (u2 : Nat), .int .u64 (v2 : Nat)] 25)) _ _ _ Ra_4
  clear B4 Rr_4 cr_4_0 cr_4_1 Ra_4 ca_4_0 ca_4_1
  obtain ⟨cr_5_0, cr_5_1⟩ := cells2s Rr_5
  obtain ⟨ca_5_0, ca_5_1⟩ := cells2s Ra_5
  obtain ⟨cc_5_0, cc_5_1⟩ := cells2s Rc_5
  go_wp2_with fail
  refine (K3.out _ (fatB FF.out B5)).mono ?_
  rintro r w6 ⟨rfl, b6⟩
  have B6 : Below w.heap.size w w6 := btr B5 b6
  have Rr_6 := heap_of b6 _ _ _ Rr_5
  have Ra_6 := heap_of b6 _ _ _ Ra_5
  have Rc_6 := heap_of b6 _ _ _ Rc_5
  clear b6 B5 Rr_5 cr_5_0 cr_5_1 Ra_5 ca_5_0 ca_5_1 Rc_5 cc_5_0 cc_5_1
  obtain ⟨cr_6_0, cr_6_1⟩ := cells2s Rr_6
  obtain ⟨ca_6_0, ca_6_1⟩ := cells2s Ra_6
  obtain ⟨cc_6_0, cc_6_1⟩ := cells2s Rc_6
  have S7 := box B6.size
  have Lr_7 : Box (w.heap.size < w6.heap.size) := box (Array.getElem?_eq_some_iff.1 Rr_6).1
  have La_7 : Box (w2.heap.size < w6.heap.size) := box (Array.getElem?_eq_some_iff.1 Ra_6).1
  have Lc_7 : Box (w4.heap.size < w6.heap.size) := box (Array.getElem?_eq_some_iff.1 Rc_6).1
  have Rd_7 := heap_alloc_last w6 (Obj.cells #[.int .u64 (u3 : Nat), .int .u64 (v3 : Nat)] 25)
  have B7 := btr B6 (bal w6 (Obj.cells #[.int .u64 (u3 : Nat), .int .u64 (v3 : Nat)] 25))
  have Rr_7 := heap_of (bal w6 (Obj.cells #[.int .u64 (u3 : Nat), .int .u64 (v3 : Nat)] 25)) _ _ _ Rr_6
  have Ra_7 := heap_of (bal w6 (Obj.cells #[.int .u64 (u3 : Nat), .int .u64 (v3 : Nat)] 25)) _ _ _ Ra_6
  have Rc_7 := heap_of (bal w6 (Obj.cells #[.int .u64 (u3 : Nat), .int .u64 (v3 : Nat)] 25)) _ _ _ Rc_6
  clear B6 Rr_6 cr_6_0 cr_6_1 Ra_6 ca_6_0 ca_6_1 Rc_6 cc_6_0 cc_6_1
  obtain ⟨cr_7_0, cr_7_1⟩ := cells2s Rr_7
  obtain ⟨ca_7_0, ca_7_1⟩ := cells2s Ra_7
  obtain ⟨cc_7_0, cc_7_1⟩ := cells2s Rc_7
  obtain ⟨cd_7_0, cd_7_1⟩ := cells2s Rd_7
  go_wp2_with fail
  refine (K4.out _ (fatB FF.out B7)).mono ?_
  rintro r w8 ⟨rfl, b8⟩
  have B8 : Below w.heap.size w w8 := btr B7 b8
  have Rr_8 := heap_of b8 _ _ _ Rr_7
  have Ra_8 := heap_of b8 _ _ _ Ra_7
  have Rc_8 := heap_of b8 _ _ _ Rc_7
  have Rd_8 := heap_of b8 _ _ _ Rd_7
  clear b8 B7 Rr_7 cr_7_0 cr_7_1 Ra_7 ca_7_0 ca_7_1 Rc_7 cc_7_0 cc_7_1 Rd_7 cd_7_0 cd_7_1
  obtain ⟨cr_8_0, cr_8_1⟩ := cells2s Rr_8
  obtain ⟨ca_8_0, ca_8_1⟩ := cells2s Ra_8
  obtain ⟨cc_8_0, cc_8_1⟩ := cells2s Rc_8
  obtain ⟨cd_8_0, cd_8_1⟩ := cells2s Rd_8
  have S9 := box B8.size
  have Lr_9 : Box (w.heap.size < w8.heap.size) := box (Array.getElem?_eq_some_iff.1 Rr_8).1
  have La_9 : Box (w2.heap.size < w8.heap.size) := box (Array.getElem?_eq_some_iff.1 Ra_8).1
  have Lc_9 : Box (w4.heap.size < w8.heap.size) := box (Array.getElem?_eq_some_iff.1 Rc_8).1
  have Ld_9 : Box (w6.heap.size < w8.heap.size) := box (Array.getElem?_eq_some_iff.1 Rd_8).1
  have Ri_9 := heap_alloc_last w8 (Obj.cells #[.int .u64 0, .int .u64 0] 25)
  have B9 := btr B8 (bal w8 (Obj.cells #[.int .u64 0, .int .u64 0] 25))
  have Rr_9 := heap_of (bal w8 (Obj.cells #[.int .u64 0, .int .u64 0] 25)) _ _ _ Rr_8
  have Ra_9 := heap_of (bal w8 (Obj.cells #[.int .u64 0, .int .u64 0] 25)) _ _ _ Ra_8
  have Rc_9 := heap_of (bal w8 (Obj.cells #[.int .u64 0, .int .u64 0] 25)) _ _ _ Rc_8
  have Rd_9 := heap_of (bal w8 (Obj.cells #[.int .u64 0, .int .u64 0] 25)) _ _ _ Rd_8
  clear B8 Rr_8 cr_8_0 cr_8_1 Ra_8 ca_8_0 ca_8_1 Rc_8 cc_8_0 cc_8_1 Rd_8 cd_8_0 cd_8_1
  obtain ⟨cr_9_0, cr_9_1⟩ := cells2s Rr_9
  obtain ⟨ca_9_0, ca_9_1⟩ := cells2s Ra_9
  obtain ⟨cc_9_0, cc_9_1⟩ := cells2s Rc_9
  obtain ⟨cd_9_0, cd_9_1⟩ := cells2s Rd_9
  obtain ⟨ci_9_0, ci_9_1⟩ := cells2s Ri_9
  go_wp2_with fail
  obtain ⟨F, hF1, hF2⟩ := below_fun (w8.alloc (Obj.cells #[.int .u64 0, .int .u64 0] 25))
  have fr_0 := fun u => cells4 (heap_of (hF1 u) _ _ _ Rr_9) 0 _ rfl
  have fr_1 := fun u => cells4 (heap_of (hF1 u) _ _ _ Rr_9) 1 _ rfl
  have fa_0 := fun u => cells4 (heap_of (hF1 u) _ _ _ Ra_9) 0 _ rfl
  have fa_1 := fun u => cells4 (heap_of (hF1 u) _ _ _ Ra_9) 1 _ rfl
  have fc_0 := fun u => cells4 (heap_of (hF1 u) _ _ _ Rc_9) 0 _ rfl
  have fc_1 := fun u => cells4 (heap_of (hF1 u) _ _ _ Rc_9) 1 _ rfl
  have fd_0 := fun u => cells4 (heap_of (hF1 u) _ _ _ Rd_9) 0 _ rfl
  have fd_1 := fun u => cells4 (heap_of (hF1 u) _ _ _ Rd_9) 1 _ rfl
  have fi_0 := fun u => cells4 (heap_of (hF1 u) _ _ _ Ri_9) 0 _ rfl
  have fi_1 := fun u => cells4 (heap_of (hF1 u) _ _ _ Ri_9) 1 _ rfl
  have FG : Box (∀ u, FAt (F u)) := box (fun u => fatB FF.out (btr B9 (hF1 u)))
  refine wp_region_below F hF2 (by kernel_rfl) (by kernel_rfl) ?_
  repeat first | go_big_quiet_step (first | (go_at_call 12; exact quietF hF1 hF2 (KI.out _ (FG.out _))) | (go_at_call 13; exact quietF hF1 hF2 (RI.out _)) | fail) | quiet_step (first | (go_at_call 12; exact quietF hF1 hF2 (KI.out _ (FG.out _))) | (go_at_call 13; exact quietF hF1 hF2 (RI.out _)) | fail)
  refine wpQuiet_nil ?_
  rintro _ ⟨uW, rfl⟩
  have B10 := btr B9 (hF1 uW)
  have Rr_10 := heap_of (hF1 uW) _ _ _ Rr_9
  have Ra_10 := heap_of (hF1 uW) _ _ _ Ra_9
  have Rc_10 := heap_of (hF1 uW) _ _ _ Rc_9
  have Rd_10 := heap_of (hF1 uW) _ _ _ Rd_9
  have Ri_10 := heap_of (hF1 uW) _ _ _ Ri_9
  obtain ⟨w10, hw⟩ : ∃ V, F uW = V := ⟨_, rfl⟩
  rw [hw] at B10 Rr_10 Ra_10 Rc_10 Rd_10 Ri_10
  try rw [hw]
  clear hw hF1 hF2 B9 fr_0 fr_1 fa_0 fa_1 fc_0 fc_1 fd_0 fd_1 fi_0 fi_1 Rr_9 cr_9_0 cr_9_1 Ra_9 ca_9_0 ca_9_1 Rc_9 cc_9_0 cc_9_1 Rd_9 cd_9_0 cd_9_1 Ri_9 ci_9_0 ci_9_1
  clear FG
  clear F
  obtain ⟨cr_10_0, cr_10_1⟩ := cells2s Rr_10
  obtain ⟨ca_10_0, ca_10_1⟩ := cells2s Ra_10
  obtain ⟨cc_10_0, cc_10_1⟩ := cells2s Rc_10
  obtain ⟨cd_10_0, cd_10_1⟩ := cells2s Rd_10
  obtain ⟨ci_10_0, ci_10_1⟩ := cells2s Ri_10
  go_wp2_with fail
  obtain ⟨F, hF1, hF2⟩ := below_fun w10
  have fr_0 := fun u => cells4 (heap_of (hF1 u) _ _ _ Rr_10) 0 _ rfl
  have fr_1 := fun u => cells4 (heap_of (hF1 u) _ _ _ Rr_10) 1 _ rfl
  have fa_0 := fun u => cells4 (heap_of (hF1 u) _ _ _ Ra_10) 0 _ rfl
  have fa_1 := fun u => cells4 (heap_of (hF1 u) _ _ _ Ra_10) 1 _ rfl
  have fc_0 := fun u => cells4 (heap_of (hF1 u) _ _ _ Rc_10) 0 _ rfl
  have fc_1 := fun u => cells4 (heap_of (hF1 u) _ _ _ Rc_10) 1 _ rfl
  have fd_0 := fun u => cells4 (heap_of (hF1 u) _ _ _ Rd_10) 0 _ rfl
  have fd_1 := fun u => cells4 (heap_of (hF1 u) _ _ _ Rd_10) 1 _ rfl
  have fi_0 := fun u => cells4 (heap_of (hF1 u) _ _ _ Ri_10) 0 _ rfl
  have fi_1 := fun u => cells4 (heap_of (hF1 u) _ _ _ Ri_10) 1 _ rfl
  refine wp_region_below F hF2 (by kernel_rfl) (by kernel_rfl) ?_
  repeat first | go_big_quiet_step (first | (go_at_call 15; exact quietF hF1 hF2 (R1.out _)) | (go_at_call 16; exact quietF hF1 hF2 (R2.out _)) | (go_at_call 17; exact quietF hF1 hF2 (R3.out _)) | fail) | quiet_step (first | (go_at_call 15; exact quietF hF1 hF2 (R1.out _)) | (go_at_call 16; exact quietF hF1 hF2 (R2.out _)) | (go_at_call 17; exact quietF hF1 hF2 (R3.out _)) | fail)
  refine wpQuiet_nil ?_
  rintro _ ⟨uW, rfl⟩
  have B11 := btr B10 (hF1 uW)
  have Rr_11 := heap_of (hF1 uW) _ _ _ Rr_10
  have Ra_11 := heap_of (hF1 uW) _ _ _ Ra_10
  have Rc_11 := heap_of (hF1 uW) _ _ _ Rc_10
  have Rd_11 := heap_of (hF1 uW) _ _ _ Rd_10
  have Ri_11 := heap_of (hF1 uW) _ _ _ Ri_10
  obtain ⟨w11, hw⟩ : ∃ V, F uW = V := ⟨_, rfl⟩
  rw [hw] at B11 Rr_11 Ra_11 Rc_11 Rd_11 Ri_11
  try rw [hw]
  clear hw hF1 hF2 B10 fr_0 fr_1 fa_0 fa_1 fc_0 fc_1 fd_0 fd_1 fi_0 fi_1 Rr_10 cr_10_0 cr_10_1 Ra_10 ca_10_0 ca_10_1 Rc_10 cc_10_0 cc_10_1 Rd_10 cd_10_0 cd_10_1 Ri_10 ci_10_0 ci_10_1
  clear F
  obtain ⟨cr_11_0, cr_11_1⟩ := cells2s Rr_11
  obtain ⟨ca_11_0, ca_11_1⟩ := cells2s Ra_11
  obtain ⟨cc_11_0, cc_11_1⟩ := cells2s Rc_11
  obtain ⟨cd_11_0, cd_11_1⟩ := cells2s Rd_11
  obtain ⟨ci_11_0, ci_11_1⟩ := cells2s Ri_11
  go_wp2_with fail
  refine (RF.out _).mono ?_
  rintro r w12 ⟨rfl, b12⟩
  have B12 : Below w.heap.size w w12 := btr B11 b12
  have Rr_12 := heap_of b12 _ _ _ Rr_11
  have Ra_12 := heap_of b12 _ _ _ Ra_11
  have Rc_12 := heap_of b12 _ _ _ Rc_11
  have Rd_12 := heap_of b12 _ _ _ Rd_11
  have Ri_12 := heap_of b12 _ _ _ Ri_11
  clear b12 B11 Rr_11 cr_11_0 cr_11_1 Ra_11 ca_11_0 ca_11_1 Rc_11 cc_11_0 cc_11_1 Rd_11 cd_11_0 cd_11_1 Ri_11 ci_11_0 ci_11_1
  obtain ⟨cr_12_0, cr_12_1⟩ := cells2s Rr_12
  obtain ⟨ca_12_0, ca_12_1⟩ := cells2s Ra_12
  obtain ⟨cc_12_0, cc_12_1⟩ := cells2s Rc_12
  obtain ⟨cd_12_0, cd_12_1⟩ := cells2s Rd_12
  obtain ⟨ci_12_0, ci_12_1⟩ := cells2s Ri_12
  go_wp2_with fail
  refine (KV.out _ (fatB FF.out B12)).mono ?_
  rintro r w13 ⟨rfl, b13⟩
  have B13 : Below w.heap.size w w13 := btr B12 b13
  have Rr_13 := heap_of b13 _ _ _ Rr_12
  have Ra_13 := heap_of b13 _ _ _ Ra_12
  have Rc_13 := heap_of b13 _ _ _ Rc_12
  have Rd_13 := heap_of b13 _ _ _ Rd_12
  have Ri_13 := heap_of b13 _ _ _ Ri_12
  clear b13 B12 Rr_12 cr_12_0 cr_12_1 Ra_12 ca_12_0 ca_12_1 Rc_12 cc_12_0 cc_12_1 Rd_12 cd_12_0 cd_12_1 Ri_12 ci_12_0 ci_12_1
  obtain ⟨cr_13_0, cr_13_1⟩ := cells2s Rr_13
  obtain ⟨ca_13_0, ca_13_1⟩ := cells2s Ra_13
  obtain ⟨cc_13_0, cc_13_1⟩ := cells2s Rc_13
  obtain ⟨cd_13_0, cd_13_1⟩ := cells2s Rd_13
  obtain ⟨ci_13_0, ci_13_1⟩ := cells2s Ri_13
  go_wp2
  go_ret
  exact ⟨rfl, B13⟩
set_option maxRecDepth 100000 in
set_option maxHeartbeats 8000000 in
theorem br_y (f W : Int) (hW : decide (0 < W) = true) (x y : Nat) (u1 v1 u2 v2 u3 v3 u4 v4 : Nat) (o : Bool) (w : World) (KW : Box (∀ w, Calls Tryd.prog 7 #[.int .u8 f] w fun r w' => r = .returned (.int .i64 W) ∧ Below w.heap.size w w')) (K1 : Box (∀ w, FAt w → Calls Tryd.prog 8 #[.int .u8 f] w fun r w' => r = .returned (.tuple #[.agg #[.int .u64 (u1 : Nat), .int .u64 (v1 : Nat)], .int .i64 0]) ∧ Below w.heap.size w w')) (K2 : Box (∀ w, FAt w → Calls Tryd.prog 9 #[.int .u8 f, .agg #[.int .u64 (x : Nat), .int .u64 (y : Nat)]] w fun r w' => r = .returned (.tuple #[.agg #[.int .u64 (u2 : Nat), .int .u64 (v2 : Nat)], .int .i64 0]) ∧ Below w.heap.size w w')) (K3 : Box (∀ w, FAt w → Calls Tryd.prog 10 #[.int .u8 f, .agg #[.int .u64 (x : Nat), .int .u64 (y : Nat)]] w fun r w' => r = .returned (.tuple #[.agg #[.int .u64 (u3 : Nat), .int .u64 (v3 : Nat)], .int .i64 0]) ∧ Below w.heap.size w w')) (K4 : Box (∀ w, FAt w → Calls Tryd.prog 11 #[.int .u8 f, .agg #[.int .u64 (x : Nat), .int .u64 (y : Nat)]] w fun r w' => r = .returned (.tuple #[.agg #[.int .u64 (u4 : Nat), .int .u64 (v4 : Nat)], .int .i64 0]) ∧ Below w.heap.size w w')) (KI : Box (∀ w, FAt w → Calls Tryd.prog 12 #[.int .u8 f, .agg #[.int .u64 (x : Nat), .int .u64 (y : Nat)]] w fun r w' => r = .returned (.bool o) ∧ Below w.heap.size w w')) (RI : Box (∀ w, Calls Tryd.prog 13 #[.int .u8 f, .agg #[.int .u64 (x : Nat), .int .u64 (y : Nat)]] w fun r w' => r = .returned (.bool o) ∧ Below w.heap.size w w')) (R1 : Box (∀ w, Calls Tryd.prog 15 #[.int .u8 f] w fun r w' => r = .returned (.agg #[.int .u64 (u1 : Nat), .int .u64 (v1 : Nat)]) ∧ Below w.heap.size w w')) (R2 : Box (∀ w, Calls Tryd.prog 16 #[.int .u8 f, .agg #[.int .u64 (x : Nat), .int .u64 (y : Nat)]] w fun r w' => r = .returned (.agg #[.int .u64 (u2 : Nat), .int .u64 (v2 : Nat)]) ∧ Below w.heap.size w w')) (R3 : Box (∀ w, Calls Tryd.prog 17 #[.int .u8 f, .agg #[.int .u64 (x : Nat), .int .u64 (y : Nat)]] w fun r w' => r = .returned (.agg #[.int .u64 (u3 : Nat), .int .u64 (v3 : Nat)]) ∧ Below w.heap.size w w')) (RF : Box (∀ w, Calls Tryd.prog 18 #[.int .u8 f, .agg #[.int .u64 (x : Nat), .int .u64 (y : Nat)]] w fun r w' => r = .returned (.bool true) ∧ Below w.heap.size w w')) (R4 : Box (∀ w, Calls Tryd.prog 19 #[.int .u8 f, .agg #[.int .u64 (x : Nat), .int .u64 (y : Nat)]] w fun r w' => r = .returned (.agg #[.int .u64 (u4 : Nat), .int .u64 (v4 : Nat)]) ∧ Below w.heap.size w w')) (KV : Box (∀ w, FAt w → Calls Tryd.prog 14 #[] w fun r w' => r = .returned (.bool true) ∧ Below w.heap.size w w')) (hT : FAt w) : Calls Tryd.prog 3 #[.int .u8 f, .agg #[.int .u64 (x : Nat), .int .u64 (y : Nat)]] w fun r w' => r = .returned (.bool true) ∧ Below w.heap.size w w' := by
  have FF := box hT
  clear hT
  have hE := eqb
  have e1 := ebb_sj (u1 : Nat) (v1 : Nat)
  have e2 := ebb_sj (u2 : Nat) (v2 : Nat)
  have e3 := ebb_sj (u3 : Nat) (v3 : Nat)
  have e4 := ebb_sj (u4 : Nat) (v4 : Nat)
  obtain ⟨Rr_0, B0⟩ := opn1 w (Obj.cells #[.int .u64 (x : Nat), .int .u64 (y : Nat)] 25)
  go_enter Tryd.func3, Tryd.ntmps3
  obtain ⟨cr_0_0, cr_0_1⟩ := cells2s Rr_0
  go_wp2_with fail
  refine (KW.out _).mono ?_
  rintro r w1 ⟨rfl, b1⟩
  have B1 : Below w.heap.size w w1 := btr B0 b1
  have Rr_1 := heap_of b1 _ _ _ Rr_0
  clear b1 B0 Rr_0 cr_0_0 cr_0_1
  obtain ⟨cr_1_0, cr_1_1⟩ := cells2s Rr_1
  go_wp2_with fail
  refine (K1.out _ (fatB FF.out B1)).mono ?_
  rintro r w2 ⟨rfl, b2⟩
  have B2 : Below w.heap.size w w2 := btr B1 b2
  have Rr_2 := heap_of b2 _ _ _ Rr_1
  clear b2 B1 Rr_1 cr_1_0 cr_1_1
  obtain ⟨cr_2_0, cr_2_1⟩ := cells2s Rr_2
  have S3 := box B2.size
  have Lr_3 : Box (w.heap.size < w2.heap.size) := box (Array.getElem?_eq_some_iff.1 Rr_2).1
  have Ra_3 := heap_alloc_last w2 (Obj.cells #[.int .u64 (u1 : Nat), .int .u64 (v1 : Nat)] 25)
  have B3 := btr B2 (bal w2 (Obj.cells #[.int .u64 (u1 : Nat), .int .u64 (v1 : Nat)] 25))
  have Rr_3 := heap_of (bal w2 (Obj.cells #[.int .u64 (u1 : Nat), .int .u64 (v1 : Nat)] 25)) _ _ _ Rr_2
  clear B2 Rr_2 cr_2_0 cr_2_1
  obtain ⟨cr_3_0, cr_3_1⟩ := cells2s Rr_3
  obtain ⟨ca_3_0, ca_3_1⟩ := cells2s Ra_3
  go_wp2_with fail
  refine (K2.out _ (fatB FF.out B3)).mono ?_
  rintro r w4 ⟨rfl, b4⟩
  have B4 : Below w.heap.size w w4 := btr B3 b4
  have Rr_4 := heap_of b4 _ _ _ Rr_3
  have Ra_4 := heap_of b4 _ _ _ Ra_3
  clear b4 B3 Rr_3 cr_3_0 cr_3_1 Ra_3 ca_3_0 ca_3_1
  obtain ⟨cr_4_0, cr_4_1⟩ := cells2s Rr_4
  obtain ⟨ca_4_0, ca_4_1⟩ := cells2s Ra_4
  have S5 := box B4.size
  have Lr_5 : Box (w.heap.size < w4.heap.size) := box (Array.getElem?_eq_some_iff.1 Rr_4).1
  have La_5 : Box (w2.heap.size < w4.heap.size) := box (Array.getElem?_eq_some_iff.1 Ra_4).1
  have Rc_5 := heap_alloc_last w4 (Obj.cells #[.int .u64 (u2 : Nat), .int .u64 (v2 : Nat)] 25)
  have B5 := btr B4 (bal w4 (Obj.cells #[.int .u64 (u2 : Nat), .int .u64 (v2 : Nat)] 25))
  have Rr_5 := heap_of (bal w4 (Obj.cells #[.int .u64 (u2 : Nat), .int .u64 (v2 : Nat)] 25)) _ _ _ Rr_4
  have Ra_5 := heap_of (bal w4 (Obj.cells #[.int .u64 (u2 : Nat), .int .u64 (v2 : Nat)] 25)) _ _ _ Ra_4
  clear B4 Rr_4 cr_4_0 cr_4_1 Ra_4 ca_4_0 ca_4_1
  obtain ⟨cr_5_0, cr_5_1⟩ := cells2s Rr_5
  obtain ⟨ca_5_0, ca_5_1⟩ := cells2s Ra_5
  obtain ⟨cc_5_0, cc_5_1⟩ := cells2s Rc_5
  go_wp2_with fail
  refine (K3.out _ (fatB FF.out B5)).mono ?_
  rintro r w6 ⟨rfl, b6⟩
  have B6 : Below w.heap.size w w6 := btr B5 b6
  have Rr_6 := heap_of b6 _ _ _ Rr_5
  have Ra_6 := heap_of b6 _ _ _ Ra_5
  have Rc_6 := heap_of b6 _ _ _ Rc_5
  clear b6 B5 Rr_5 cr_5_0 cr_5_1 Ra_5 ca_5_0 ca_5_1 Rc_5 cc_5_0 cc_5_1
  obtain ⟨cr_6_0, cr_6_1⟩ := cells2s Rr_6
  obtain ⟨ca_6_0, ca_6_1⟩ := cells2s Ra_6
  obtain ⟨cc_6_0, cc_6_1⟩ := cells2s Rc_6
  have S7 := box B6.size
  have Lr_7 : Box (w.heap.size < w6.heap.size) := box (Array.getElem?_eq_some_iff.1 Rr_6).1
  have La_7 : Box (w2.heap.size < w6.heap.size) := box (Array.getElem?_eq_some_iff.1 Ra_6).1
  have Lc_7 : Box (w4.heap.size < w6.heap.size) := box (Array.getElem?_eq_some_iff.1 Rc_6).1
  have Rd_7 := heap_alloc_last w6 (Obj.cells #[.int .u64 (u3 : Nat), .int .u64 (v3 : Nat)] 25)
  have B7 := btr B6 (bal w6 (Obj.cells #[.int .u64 (u3 : Nat), .int .u64 (v3 : Nat)] 25))
  have Rr_7 := heap_of (bal w6 (Obj.cells #[.int .u64 (u3 : Nat), .int .u64 (v3 : Nat)] 25)) _ _ _ Rr_6
  have Ra_7 := heap_of (bal w6 (Obj.cells #[.int .u64 (u3 : Nat), .int .u64 (v3 : Nat)] 25)) _ _ _ Ra_6
  have Rc_7 := heap_of (bal w6 (Obj.cells #[.int .u64 (u3 : Nat), .int .u64 (v3 : Nat)] 25)) _ _ _ Rc_6
  clear B6 Rr_6 cr_6_0 cr_6_1 Ra_6 ca_6_0 ca_6_1 Rc_6 cc_6_0 cc_6_1
  obtain ⟨cr_7_0, cr_7_1⟩ := cells2s Rr_7
  obtain ⟨ca_7_0, ca_7_1⟩ := cells2s Ra_7
  obtain ⟨cc_7_0, cc_7_1⟩ := cells2s Rc_7
  obtain ⟨cd_7_0, cd_7_1⟩ := cells2s Rd_7
  go_wp2_with fail
  refine (K4.out _ (fatB FF.out B7)).mono ?_
  rintro r w8 ⟨rfl, b8⟩
  have B8 : Below w.heap.size w w8 := btr B7 b8
  have Rr_8 := heap_of b8 _ _ _ Rr_7
  have Ra_8 := heap_of b8 _ _ _ Ra_7
  have Rc_8 := heap_of b8 _ _ _ Rc_7
  have Rd_8 := heap_of b8 _ _ _ Rd_7
  clear b8 B7 Rr_7 cr_7_0 cr_7_1 Ra_7 ca_7_0 ca_7_1 Rc_7 cc_7_0 cc_7_1 Rd_7 cd_7_0 cd_7_1
  obtain ⟨cr_8_0, cr_8_1⟩ := cells2s Rr_8
  obtain ⟨ca_8_0, ca_8_1⟩ := cells2s Ra_8
  obtain ⟨cc_8_0, cc_8_1⟩ := cells2s Rc_8
  obtain ⟨cd_8_0, cd_8_1⟩ := cells2s Rd_8
  have S9 := box B8.size
  have Lr_9 : Box (w.heap.size < w8.heap.size) := box (Array.getElem?_eq_some_iff.1 Rr_8).1
  have La_9 : Box (w2.heap.size < w8.heap.size) := box (Array.getElem?_eq_some_iff.1 Ra_8).1
  have Lc_9 : Box (w4.heap.size < w8.heap.size) := box (Array.getElem?_eq_some_iff.1 Rc_8).1
  have Ld_9 : Box (w6.heap.size < w8.heap.size) := box (Array.getElem?_eq_some_iff.1 Rd_8).1
  have Ri_9 := heap_alloc_last w8 (Obj.cells #[.int .u64 (u4 : Nat), .int .u64 (v4 : Nat)] 25)
  have B9 := btr B8 (bal w8 (Obj.cells #[.int .u64 (u4 : Nat), .int .u64 (v4 : Nat)] 25))
  have Rr_9 := heap_of (bal w8 (Obj.cells #[.int .u64 (u4 : Nat), .int .u64 (v4 : Nat)] 25)) _ _ _ Rr_8
  have Ra_9 := heap_of (bal w8 (Obj.cells #[.int .u64 (u4 : Nat), .int .u64 (v4 : Nat)] 25)) _ _ _ Ra_8
  have Rc_9 := heap_of (bal w8 (Obj.cells #[.int .u64 (u4 : Nat), .int .u64 (v4 : Nat)] 25)) _ _ _ Rc_8
  have Rd_9 := heap_of (bal w8 (Obj.cells #[.int .u64 (u4 : Nat), .int .u64 (v4 : Nat)] 25)) _ _ _ Rd_8
  clear B8 Rr_8 cr_8_0 cr_8_1 Ra_8 ca_8_0 ca_8_1 Rc_8 cc_8_0 cc_8_1 Rd_8 cd_8_0 cd_8_1
  obtain ⟨cr_9_0, cr_9_1⟩ := cells2s Rr_9
  obtain ⟨ca_9_0, ca_9_1⟩ := cells2s Ra_9
  obtain ⟨cc_9_0, cc_9_1⟩ := cells2s Rc_9
  obtain ⟨cd_9_0, cd_9_1⟩ := cells2s Rd_9
  obtain ⟨ci_9_0, ci_9_1⟩ := cells2s Ri_9
  go_wp2_with fail
  obtain ⟨F, hF1, hF2⟩ := below_fun (w8.alloc (Obj.cells #[.int .u64 (u4 : Nat), .int .u64 (v4 : Nat)] 25))
  have fr_0 := fun u => cells4 (heap_of (hF1 u) _ _ _ Rr_9) 0 _ rfl
  have fr_1 := fun u => cells4 (heap_of (hF1 u) _ _ _ Rr_9) 1 _ rfl
  have fa_0 := fun u => cells4 (heap_of (hF1 u) _ _ _ Ra_9) 0 _ rfl
  have fa_1 := fun u => cells4 (heap_of (hF1 u) _ _ _ Ra_9) 1 _ rfl
  have fc_0 := fun u => cells4 (heap_of (hF1 u) _ _ _ Rc_9) 0 _ rfl
  have fc_1 := fun u => cells4 (heap_of (hF1 u) _ _ _ Rc_9) 1 _ rfl
  have fd_0 := fun u => cells4 (heap_of (hF1 u) _ _ _ Rd_9) 0 _ rfl
  have fd_1 := fun u => cells4 (heap_of (hF1 u) _ _ _ Rd_9) 1 _ rfl
  have fi_0 := fun u => cells4 (heap_of (hF1 u) _ _ _ Ri_9) 0 _ rfl
  have fi_1 := fun u => cells4 (heap_of (hF1 u) _ _ _ Ri_9) 1 _ rfl
  have FG : Box (∀ u, FAt (F u)) := box (fun u => fatB FF.out (btr B9 (hF1 u)))
  refine wp_region_below F hF2 (by kernel_rfl) (by kernel_rfl) ?_
  repeat first | go_big_quiet_step (first | (go_at_call 12; exact quietF hF1 hF2 (KI.out _ (FG.out _))) | (go_at_call 13; exact quietF hF1 hF2 (RI.out _)) | fail) | quiet_step (first | (go_at_call 12; exact quietF hF1 hF2 (KI.out _ (FG.out _))) | (go_at_call 13; exact quietF hF1 hF2 (RI.out _)) | fail)
  refine wpQuiet_nil ?_
  rintro _ ⟨uW, rfl⟩
  have B10 := btr B9 (hF1 uW)
  have Rr_10 := heap_of (hF1 uW) _ _ _ Rr_9
  have Ra_10 := heap_of (hF1 uW) _ _ _ Ra_9
  have Rc_10 := heap_of (hF1 uW) _ _ _ Rc_9
  have Rd_10 := heap_of (hF1 uW) _ _ _ Rd_9
  have Ri_10 := heap_of (hF1 uW) _ _ _ Ri_9
  obtain ⟨w10, hw⟩ : ∃ V, F uW = V := ⟨_, rfl⟩
  rw [hw] at B10 Rr_10 Ra_10 Rc_10 Rd_10 Ri_10
  try rw [hw]
  clear hw hF1 hF2 B9 fr_0 fr_1 fa_0 fa_1 fc_0 fc_1 fd_0 fd_1 fi_0 fi_1 Rr_9 cr_9_0 cr_9_1 Ra_9 ca_9_0 ca_9_1 Rc_9 cc_9_0 cc_9_1 Rd_9 cd_9_0 cd_9_1 Ri_9 ci_9_0 ci_9_1
  clear FG
  clear F
  obtain ⟨cr_10_0, cr_10_1⟩ := cells2s Rr_10
  obtain ⟨ca_10_0, ca_10_1⟩ := cells2s Ra_10
  obtain ⟨cc_10_0, cc_10_1⟩ := cells2s Rc_10
  obtain ⟨cd_10_0, cd_10_1⟩ := cells2s Rd_10
  obtain ⟨ci_10_0, ci_10_1⟩ := cells2s Ri_10
  go_wp2_with fail
  obtain ⟨F, hF1, hF2⟩ := below_fun w10
  have fr_0 := fun u => cells4 (heap_of (hF1 u) _ _ _ Rr_10) 0 _ rfl
  have fr_1 := fun u => cells4 (heap_of (hF1 u) _ _ _ Rr_10) 1 _ rfl
  have fa_0 := fun u => cells4 (heap_of (hF1 u) _ _ _ Ra_10) 0 _ rfl
  have fa_1 := fun u => cells4 (heap_of (hF1 u) _ _ _ Ra_10) 1 _ rfl
  have fc_0 := fun u => cells4 (heap_of (hF1 u) _ _ _ Rc_10) 0 _ rfl
  have fc_1 := fun u => cells4 (heap_of (hF1 u) _ _ _ Rc_10) 1 _ rfl
  have fd_0 := fun u => cells4 (heap_of (hF1 u) _ _ _ Rd_10) 0 _ rfl
  have fd_1 := fun u => cells4 (heap_of (hF1 u) _ _ _ Rd_10) 1 _ rfl
  have fi_0 := fun u => cells4 (heap_of (hF1 u) _ _ _ Ri_10) 0 _ rfl
  have fi_1 := fun u => cells4 (heap_of (hF1 u) _ _ _ Ri_10) 1 _ rfl
  refine wp_region_below F hF2 (by kernel_rfl) (by kernel_rfl) ?_
  repeat first | go_big_quiet_step (first | (go_at_call 15; exact quietF hF1 hF2 (R1.out _)) | (go_at_call 16; exact quietF hF1 hF2 (R2.out _)) | (go_at_call 17; exact quietF hF1 hF2 (R3.out _)) | fail) | quiet_step (first | (go_at_call 15; exact quietF hF1 hF2 (R1.out _)) | (go_at_call 16; exact quietF hF1 hF2 (R2.out _)) | (go_at_call 17; exact quietF hF1 hF2 (R3.out _)) | fail)
  refine wpQuiet_nil ?_
  rintro _ ⟨uW, rfl⟩
  have B11 := btr B10 (hF1 uW)
  have Rr_11 := heap_of (hF1 uW) _ _ _ Rr_10
  have Ra_11 := heap_of (hF1 uW) _ _ _ Ra_10
  have Rc_11 := heap_of (hF1 uW) _ _ _ Rc_10
  have Rd_11 := heap_of (hF1 uW) _ _ _ Rd_10
  have Ri_11 := heap_of (hF1 uW) _ _ _ Ri_10
  obtain ⟨w11, hw⟩ : ∃ V, F uW = V := ⟨_, rfl⟩
  rw [hw] at B11 Rr_11 Ra_11 Rc_11 Rd_11 Ri_11
  try rw [hw]
  clear hw hF1 hF2 B10 fr_0 fr_1 fa_0 fa_1 fc_0 fc_1 fd_0 fd_1 fi_0 fi_1 Rr_10 cr_10_0 cr_10_1 Ra_10 ca_10_0 ca_10_1 Rc_10 cc_10_0 cc_10_1 Rd_10 cd_10_0 cd_10_1 Ri_10 ci_10_0 ci_10_1
  clear F
  obtain ⟨cr_11_0, cr_11_1⟩ := cells2s Rr_11
  obtain ⟨ca_11_0, ca_11_1⟩ := cells2s Ra_11
  obtain ⟨cc_11_0, cc_11_1⟩ := cells2s Rc_11
  obtain ⟨cd_11_0, cd_11_1⟩ := cells2s Rd_11
  obtain ⟨ci_11_0, ci_11_1⟩ := cells2s Ri_11
  go_wp2_with fail
  refine (RF.out _).mono ?_
  rintro r w12 ⟨rfl, b12⟩
  have B12 : Below w.heap.size w w12 := btr B11 b12
  have Rr_12 := heap_of b12 _ _ _ Rr_11
  have Ra_12 := heap_of b12 _ _ _ Ra_11
  have Rc_12 := heap_of b12 _ _ _ Rc_11
  have Rd_12 := heap_of b12 _ _ _ Rd_11
  have Ri_12 := heap_of b12 _ _ _ Ri_11
  clear b12 B11 Rr_11 cr_11_0 cr_11_1 Ra_11 ca_11_0 ca_11_1 Rc_11 cc_11_0 cc_11_1 Rd_11 cd_11_0 cd_11_1 Ri_11 ci_11_0 ci_11_1
  obtain ⟨cr_12_0, cr_12_1⟩ := cells2s Rr_12
  obtain ⟨ca_12_0, ca_12_1⟩ := cells2s Ra_12
  obtain ⟨cc_12_0, cc_12_1⟩ := cells2s Rc_12
  obtain ⟨cd_12_0, cd_12_1⟩ := cells2s Rd_12
  obtain ⟨ci_12_0, ci_12_1⟩ := cells2s Ri_12
  go_wp2_with fail
  obtain ⟨F, hF1, hF2⟩ := below_fun w12
  have fr_0 := fun u => cells4 (heap_of (hF1 u) _ _ _ Rr_12) 0 _ rfl
  have fr_1 := fun u => cells4 (heap_of (hF1 u) _ _ _ Rr_12) 1 _ rfl
  have fa_0 := fun u => cells4 (heap_of (hF1 u) _ _ _ Ra_12) 0 _ rfl
  have fa_1 := fun u => cells4 (heap_of (hF1 u) _ _ _ Ra_12) 1 _ rfl
  have fc_0 := fun u => cells4 (heap_of (hF1 u) _ _ _ Rc_12) 0 _ rfl
  have fc_1 := fun u => cells4 (heap_of (hF1 u) _ _ _ Rc_12) 1 _ rfl
  have fd_0 := fun u => cells4 (heap_of (hF1 u) _ _ _ Rd_12) 0 _ rfl
  have fd_1 := fun u => cells4 (heap_of (hF1 u) _ _ _ Rd_12) 1 _ rfl
  have fi_0 := fun u => cells4 (heap_of (hF1 u) _ _ _ Ri_12) 0 _ rfl
  have fi_1 := fun u => cells4 (heap_of (hF1 u) _ _ _ Ri_12) 1 _ rfl
  have FG : Box (∀ u, FAt (F u)) := box (fun u => fatB FF.out (btr B12 (hF1 u)))
  refine wp_region_below F hF2 (by kernel_rfl) (by kernel_rfl) ?_
  repeat first | go_big_quiet_step (first | (go_at_call 19; exact quietF hF1 hF2 (R4.out _)) | (go_at_call 14; exact quietF hF1 hF2 (KV.out _ (FG.out _))) | fail) | quiet_step (first | (go_at_call 19; exact quietF hF1 hF2 (R4.out _)) | (go_at_call 14; exact quietF hF1 hF2 (KV.out _ (FG.out _))) | fail)
  refine wpQuiet_nil ?_
  rintro _ ⟨uW, rfl⟩
  have B13 := btr B12 (hF1 uW)
  have Rr_13 := heap_of (hF1 uW) _ _ _ Rr_12
  have Ra_13 := heap_of (hF1 uW) _ _ _ Ra_12
  have Rc_13 := heap_of (hF1 uW) _ _ _ Rc_12
  have Rd_13 := heap_of (hF1 uW) _ _ _ Rd_12
  have Ri_13 := heap_of (hF1 uW) _ _ _ Ri_12
  obtain ⟨w13, hw⟩ : ∃ V, F uW = V := ⟨_, rfl⟩
  rw [hw] at B13 Rr_13 Ra_13 Rc_13 Rd_13 Ri_13
  try rw [hw]
  clear hw hF1 hF2 B12 fr_0 fr_1 fa_0 fa_1 fc_0 fc_1 fd_0 fd_1 fi_0 fi_1 Rr_12 cr_12_0 cr_12_1 Ra_12 ca_12_0 ca_12_1 Rc_12 cc_12_0 cc_12_1 Rd_12 cd_12_0 cd_12_1 Ri_12 ci_12_0 ci_12_1
  clear FG
  clear F
  obtain ⟨cr_13_0, cr_13_1⟩ := cells2s Rr_13
  obtain ⟨ca_13_0, ca_13_1⟩ := cells2s Ra_13
  obtain ⟨cc_13_0, cc_13_1⟩ := cells2s Rc_13
  obtain ⟨cd_13_0, cd_13_1⟩ := cells2s Rd_13
  obtain ⟨ci_13_0, ci_13_1⟩ := cells2s Ri_13
  go_wp2
  go_ret
  exact ⟨rfl, B13⟩
theorem boxreads_all (f : Int) (h0 : 0 ≤ f) (h1 : f ≤ 255) (x y N : Nat) (hx : x < 18446744073709551616) (hy : y < 18446744073709551616) (hN : y + 18446744073709551616 * x = N) (CA : ∀ f : Int, 0 ≤ f → f ≤ 3 → ∀ u v, bv7 (abN f) = (u, v) → Box (∀ w, FAt w → Calls Tryd.prog 8 #[.int .u8 f] w fun r w' => r = .returned (.tuple #[.agg #[.int .u64 (u : Nat), .int .u64 (v : Nat)], .int .i64 0]) ∧ Below w.heap.size w w')) (CA0 : ∀ f : Int, 3 < f → f ≤ 255 → Box (∀ w, FAt w → Calls Tryd.prog 8 #[.int .u8 f] w fun r w' => r = .returned (.tuple #[.agg #[.int .u64 0, .int .u64 0], .int .i64 2]) ∧ Below w.heap.size w w')) (CU : ∀ (f : Int) (x y N : Nat), 0 ≤ f → f ≤ 3 → x < 18446744073709551616 → y < 18446744073709551616 → y + 18446744073709551616 * x = N → ∀ u v, bv7 (ubN f N) = (u, v) → Box (∀ w, FAt w → Calls Tryd.prog 9 #[.int .u8 f, .agg #[.int .u64 (x : Nat), .int .u64 (y : Nat)]] w fun r w' => r = .returned (.tuple #[.agg #[.int .u64 (u : Nat), .int .u64 (v : Nat)], .int .i64 0]) ∧ Below w.heap.size w w')) (CU0 : ∀ (f : Int) (x y N : Nat), 3 < f → f ≤ 255 → x < 18446744073709551616 → y < 18446744073709551616 → y + 18446744073709551616 * x = N → Box (∀ w, FAt w → Calls Tryd.prog 9 #[.int .u8 f, .agg #[.int .u64 (x : Nat), .int .u64 (y : Nat)]] w fun r w' => r = .returned (.tuple #[.agg #[.int .u64 0, .int .u64 0], .int .i64 2]) ∧ Below w.heap.size w w')) (CL : ∀ (f : Int) (x y N : Nat), 0 ≤ f → f ≤ 3 → x < 18446744073709551616 → y < 18446744073709551616 → y + 18446744073709551616 * x = N → ∀ u v, bv7 (N % 2 ^ wdF f) = (u, v) → Box (∀ w, FAt w → Calls Tryd.prog 10 #[.int .u8 f, .agg #[.int .u64 (x : Nat), .int .u64 (y : Nat)]] w fun r w' => r = .returned (.tuple #[.agg #[.int .u64 (u : Nat), .int .u64 (v : Nat)], .int .i64 0]) ∧ Below w.heap.size w w')) (CL0 : ∀ (f : Int) (x y N : Nat), 3 < f → f ≤ 255 → x < 18446744073709551616 → y < 18446744073709551616 → y + 18446744073709551616 * x = N → Box (∀ w, FAt w → Calls Tryd.prog 10 #[.int .u8 f, .agg #[.int .u64 (x : Nat), .int .u64 (y : Nat)]] w fun r w' => r = .returned (.tuple #[.agg #[.int .u64 0, .int .u64 0], .int .i64 2]) ∧ Below w.heap.size w w')) (CB : ∀ (f : Int) (x y N : Nat), 0 ≤ f → f ≤ 3 → x < 18446744073709551616 → y < 18446744073709551616 → y + 18446744073709551616 * x = N → N < 2 ^ wdF f → ∀ u v, bv7 (N + abN f) = (u, v) → Box (∀ w, FAt w → Calls Tryd.prog 11 #[.int .u8 f, .agg #[.int .u64 (x : Nat), .int .u64 (y : Nat)]] w fun r w' => r = .returned (.tuple #[.agg #[.int .u64 (u : Nat), .int .u64 (v : Nat)], .int .i64 0]) ∧ Below w.heap.size w w')) (CB0 : ∀ (f : Int) (x y N : Nat), 0 ≤ f → f ≤ 255 → x < 18446744073709551616 → y < 18446744073709551616 → y + 18446744073709551616 * x = N → fitN f N = false → Box (∀ w, FAt w → Calls Tryd.prog 11 #[.int .u8 f, .agg #[.int .u64 (x : Nat), .int .u64 (y : Nat)]] w fun r w' => r = .returned (.tuple #[.agg #[.int .u64 0, .int .u64 0], .int .i64 2]) ∧ Below w.heap.size w w')) (CI : ∀ (f : Int) (x y N : Nat), 0 ≤ f → f ≤ 255 → x < 18446744073709551616 → y < 18446744073709551616 → y + 18446744073709551616 * x = N → Box (∀ w, FAt w → Calls Tryd.prog 12 #[.int .u8 f, .agg #[.int .u64 (x : Nat), .int .u64 (y : Nat)]] w fun r w' => r = .returned (.bool (isN f N)) ∧ Below w.heap.size w w')) (KV : Box (∀ w, FAt w → Calls Tryd.prog 14 #[] w fun r w' => r = .returned (.bool true) ∧ Below w.heap.size w w')) (w : World) (hT : FAt w) : Calls Tryd.prog 3 #[.int .u8 f, .agg #[.int .u64 (x : Nat), .int .u64 (y : Nat)]] w fun r w' => r = .returned (.bool true) ∧ Below w.heap.size w w' := by
  have KW := box (fun w => bel_st (r22_w f w))
  have KI := CI f x y N h0 h1 hx hy hN
  have RI := box (fun w => rIsb_is f x y N hx hy hN w)
  by_cases c : f ≤ 3
  · have wp := wdF_pos h0 c
    have hW : decide ((0 : Int) < ((wdF f : Nat) : Int)) = true := decide_eq_true (by omega)
    obtain ⟨u1, v1, e1⟩ : ∃ u v, bv7 (abN f) = (u, v) := ⟨_, _, rfl⟩
    obtain ⟨u2, v2, e2⟩ : ∃ u v, bv7 (ubN f N) = (u, v) := ⟨_, _, rfl⟩
    obtain ⟨u3, v3, e3⟩ : ∃ u v, bv7 (N % 2 ^ wdF f) = (u, v) := ⟨_, _, rfl⟩
    have K1 := CA f h0 c u1 v1 e1
    have K2 := CU f x y N h0 c hx hy hN u2 v2 e2
    have K3 := CL f x y N h0 c hx hy hN u3 v3 e3
    have R1 := box (fun w => rAbv_is f u1 v1 e1 w)
    have R2 := box (fun w => rUbx_is f h0 c x y N hx hy hN u2 v2 e2 w)
    have R3 := box (fun w => rLow_is f x y N hx hy hN u3 v3 e3 w)
    have RF := box (fun w => rFit_is f x y N hx hy hN w)
    cases q : fitN f N
    · rw [q] at RF
      exact br_nf f _ hW x y u1 v1 u2 v2 u3 v3 0 0 _ w KW K1 K2 K3 (CB0 f x y N h0 h1 hx hy hN q) KI RI R1 R2 R3 RF KV hT
    · rw [q] at RF
      have fit := (of_decide_eq_true q).2
      obtain ⟨u4, v4, e4⟩ : ∃ u v, bv7 (N + abN f) = (u, v) := ⟨_, _, rfl⟩
      exact br_y f _ hW x y u1 v1 u2 v2 u3 v3 u4 v4 _ w KW K1 K2 K3 (CB f x y N h0 c hx hy hN fit u4 v4 e4) KI RI R1 R2 R3 RF (box (fun w => rBox_is f x y N hx hy hN fit u4 v4 e4 w)) KV hT
  · have z := wdF_none c
    rw [z] at KW
    have q : fitN f N = false := by unfold fitN; rw [z]; exact decide_eq_false (fun k => absurd k.1 (by decide))
    exact br_no f _ (by decide) x y _ w KW (CA0 f (by omega) h1) (CU0 f x y N (by omega) h1 hx hy hN) (CL0 f x y N (by omega) h1 hx hy hN) (CB0 f x y N h0 h1 hx hy hN q) KI RI KV hT
theorem ebb_is (a b c d : Nat) : ebb (a : Nat) (b : Nat) (c : Nat) (d : Nat) = decide (a = c ∧ b = d) := by
  unfold ebb
  rw [Bool.eq_iff_iff]
  simp
  omega
theorem lives22_all (CU : ∀ (f : Int) (x y N : Nat), 0 ≤ f → f ≤ 3 → x < 18446744073709551616 → y < 18446744073709551616 → y + 18446744073709551616 * x = N → ∀ u v, bv7 (ubN f N) = (u, v) → Box (∀ w, FAt w → Calls Tryd.prog 9 #[.int .u8 f, .agg #[.int .u64 (x : Nat), .int .u64 (y : Nat)]] w fun r w' => r = .returned (.tuple #[.agg #[.int .u64 (u : Nat), .int .u64 (v : Nat)], .int .i64 0]) ∧ Below w.heap.size w w')) (CU0 : ∀ (f : Int) (x y N : Nat), 3 < f → f ≤ 255 → x < 18446744073709551616 → y < 18446744073709551616 → y + 18446744073709551616 * x = N → Box (∀ w, FAt w → Calls Tryd.prog 9 #[.int .u8 f, .agg #[.int .u64 (x : Nat), .int .u64 (y : Nat)]] w fun r w' => r = .returned (.tuple #[.agg #[.int .u64 0, .int .u64 0], .int .i64 2]) ∧ Below w.heap.size w w')) (CB : ∀ (f : Int) (x y N : Nat), 0 ≤ f → f ≤ 3 → x < 18446744073709551616 → y < 18446744073709551616 → y + 18446744073709551616 * x = N → N < 2 ^ wdF f → ∀ u v, bv7 (N + abN f) = (u, v) → Box (∀ w, FAt w → Calls Tryd.prog 11 #[.int .u8 f, .agg #[.int .u64 (x : Nat), .int .u64 (y : Nat)]] w fun r w' => r = .returned (.tuple #[.agg #[.int .u64 (u : Nat), .int .u64 (v : Nat)], .int .i64 0]) ∧ Below w.heap.size w w')) (CB0 : ∀ (f : Int) (x y N : Nat), 0 ≤ f → f ≤ 255 → x < 18446744073709551616 → y < 18446744073709551616 → y + 18446744073709551616 * x = N → fitN f N = false → Box (∀ w, FAt w → Calls Tryd.prog 11 #[.int .u8 f, .agg #[.int .u64 (x : Nat), .int .u64 (y : Nat)]] w fun r w' => r = .returned (.tuple #[.agg #[.int .u64 0, .int .u64 0], .int .i64 2]) ∧ Below w.heap.size w w')) (w : World) (hT : FAt w) : Calls Tryd.prog 14 #[] w fun r w' => r = .returned (.bool true) ∧ Below w.heap.size w w' := by
  have K1 := CB 2 0 15360 15360 (by decide) (by decide) (by decide) (by decide) (by decide) (by decide +kernel) 18446744073709551615 18446744073709501440 (by decide +kernel)
  have K2 := CU 2 18446744073709551615 18446744073709501440 340282366920938463463374607431768161280 (by decide) (by decide) (by decide) (by decide) (by decide) 0 15360 (by decide +kernel)
  have K3 := CU 0 18446744073709551615 18446744073709501440 340282366920938463463374607431768161280 (by decide) (by decide) (by decide) (by decide) (by decide) 0 4294917120 (by decide +kernel)
  have K4 := CU 2 0 15360 15360 (by decide) (by decide) (by decide) (by decide) (by decide) 0 32256 (by decide +kernel)
  have K5 := CB0 2 0 65536 65536 (by decide) (by decide) (by decide) (by decide) (by decide) (by decide +kernel)
  exact r22lives 0 0 w K1 K2 K3 K4 K5 hT
end Go.Proofs.YtakmlgcnfbiagaaDoor
