/-
  What the functions that the statement reaches return: part 3 (JC, JD, JE, JG, JH, N1, JM).
-/
import Derived.Laws.AppendOwn
import Derived.OwnWalk
import Derived.Maps.AppendAt
import Derived.RangeFuncNested
import Derived.RangeFuncBound
import Derived.RangeFuncCalls
import Derived.RangeFuncLeaves
import Derived.RangeFuncFrom
import Derived.Shelf.Abstract
import Derived.Shelf.RegionOpen
import Derived.WalkKit
import Derived.OwnWalkIn
import Derived.TacticsInMore
import Derived.LoopNIn
import Derived.LoopIn
import Derived.Test.YtakmlgcnfbiagaaDoorBf02
namespace Go.Proofs.YtakmlgcnfbiagaaDoor
set_option maxRecDepth 100000
set_option maxHeartbeats 40000000
set_option maxRecDepth 100000
open Go.RowKit WMath
set_option linter.unusedSimpArgs false
set_option linter.unusedVariables false
theorem first_bit (P : Nat → Bool) (a : Nat) : ∀ n, (∀ k, a ≤ k → k < a + n → P k = true) ∨ ∃ m, a ≤ m ∧ m < a + n ∧ P m = false ∧ ∀ k, a ≤ k → k < m → P k = true
  | 0 => Or.inl (fun k h1 h2 => by omega)
  | n + 1 => by
    rcases first_bit P a n with h | ⟨m, h1, h2, h3, h4⟩
    · cases q : P (a + n)
      · exact Or.inr ⟨a + n, by omega, by omega, q, h⟩
      · refine Or.inl (fun k h1 h2 => ?_)
        by_cases c : k = a + n
        · rw [c]; exact q
        · exact h k h1 (by omega)
    · exact Or.inr ⟨m, h1, by omega, h3, h4⟩
theorem bit_up (n a k : Nat) : (n / 2 ^ a).testBit k = n.testBit (a + k) := by
  rw [← Nat.shiftRight_eq_div_pow, Nat.testBit_shiftRight]
theorem ones_iff {N W : Nat} (hN : N < 2 ^ 128) (hW : W ≤ 128) : (∀ k, W ≤ k → k < 128 → N.testBit k = true) ↔ N / 2 ^ W = 2 ^ (128 - W) - 1 := by
  constructor
  · intro h
    apply Nat.eq_of_testBit_eq
    intro i
    rw [bit_up, Nat.testBit_two_pow_sub_one]
    by_cases c : W + i < 128
    · rw [h _ (by omega) c, decide_eq_true (by omega)]
    · rw [decide_eq_false (by omega)]
      exact Nat.testBit_lt_two_pow (Nat.lt_of_lt_of_le hN (Nat.pow_le_pow_right (by decide) (by omega)))
  · intro h k k1 k2
    have := bit_up N W (k - W)
    rw [h, Nat.testBit_two_pow_sub_one, decide_eq_true (by omega), show W + (k - W) = k by omega] at this
    exact this.symm
theorem wdF_le (f : Int) : wdF f ≤ 128 := by unfold wdF; (repeat' split) <;> decide
theorem wdF_pos {f : Int} (h0 : 0 ≤ f) (h3 : f ≤ 3) : 16 ≤ wdF f := by
  rcases (by omega : f = 0 ∨ f = 1 ∨ f = 2 ∨ f = 3) with rfl | rfl | rfl | rfl <;> decide
theorem wdF_none {f : Int} (h : ¬ f ≤ 3) : wdF f = 0 := by unfold wdF; rw [if_neg (by omega), if_neg (by omega), if_neg (by omega), if_neg (by omega)]
def isN (f : Int) (N : Nat) : Bool := decide (0 < wdF f ∧ N / 2 ^ wdF f = 2 ^ (128 - wdF f) - 1)
def fitN (f : Int) (N : Nat) : Bool := decide (0 < wdF f ∧ N < 2 ^ wdF f)
def abN (f : Int) : Nat := 2 ^ 128 - 2 ^ wdF f
def nanN (f : Int) : Nat := if f = 0 then 2143289344 else if f = 1 then 9221120237041090560 else if f = 2 then 32256 else 170138587312039964317873038467719495680
def ubN (f : Int) (N : Nat) : Nat := if isN f N = true then N % 2 ^ wdF f else nanN f
theorem n128 {x y N : Nat} (hx : x < 18446744073709551616) (hy : y < 18446744073709551616) (hN : y + 18446744073709551616 * x = N) : N < 2 ^ 128 := by
  rw [show (2 : Nat) ^ 128 = 340282366920938463463374607431768211456 from rfl]
  omega
theorem rIsb_is (f : Int) (x y N : Nat) (hx : x < 18446744073709551616) (hy : y < 18446744073709551616) (hN : y + 18446744073709551616 * x = N) (w : World) : Calls Tryd.prog 13 #[.int .u8 f, .agg #[.int .u64 (x : Nat), .int .u64 (y : Nat)]] w fun r w' => r = .returned (.bool (isN f N)) ∧ Below w.heap.size w w' := by
  have W := wdF_le f
  have KW := box (fun w => bel_st (r22_w f w))
  have lN := n128 hx hy hN
  rcases first_bit (fun k => N.testBit k) (wdF f) (128 - wdF f) with h | ⟨m, h1, h2, h3, h4⟩
  · have h' : ∀ k, wdF f ≤ k → k < 128 → N.testBit k = true := fun k a b => h k a (by omega)
    have e : isN f N = decide (0 < wdF f) := by
      unfold isN
      exact decide_eq_decide.2 ⟨fun q => q.1, fun q => ⟨q, (ones_iff lN W).1 h'⟩⟩
    rw [e]
    exact r22_IsBoxed_y f (wdF f) W x y N hx hy hN h' w KW
  · have e : isN f N = false := by
      unfold isN
      refine decide_eq_false (fun q => ?_)
      have := (ones_iff lN W).2 q.2 m h1 (by omega)
      rw [h3] at this
      cases this
    rw [e]
    exact r22_IsBoxed_n f (wdF f) W x y N hx hy hN m h1 (by omega) h3 h4 w KW
theorem rLow_is (f : Int) (x y N : Nat) (hx : x < 18446744073709551616) (hy : y < 18446744073709551616) (hN : y + 18446744073709551616 * x = N) (u v : Nat) (h : bv7 (N % 2 ^ wdF f) = (u, v)) (w : World) : Calls Tryd.prog 17 #[.int .u8 f, .agg #[.int .u64 (x : Nat), .int .u64 (y : Nat)]] w fun r w' => r = .returned (.agg #[.int .u64 (u : Nat), .int .u64 (v : Nat)]) ∧ Below w.heap.size w w' :=
  r22_Low f (wdF f) (wdF_le f) x y N hx hy hN u v h w (box (fun w => bel_st (r22_w f w)))
theorem rBox_is (f : Int) (x y N : Nat) (hx : x < 18446744073709551616) (hy : y < 18446744073709551616) (hN : y + 18446744073709551616 * x = N) (fit : N < 2 ^ wdF f) (u v : Nat) (h : bv7 (N + abN f) = (u, v)) (w : World) : Calls Tryd.prog 19 #[.int .u8 f, .agg #[.int .u64 (x : Nat), .int .u64 (y : Nat)]] w fun r w' => r = .returned (.agg #[.int .u64 (u : Nat), .int .u64 (v : Nat)]) ∧ Below w.heap.size w w' :=
  r22_Box f (wdF f) (wdF_le f) x y N hx hy hN fit u v h w (box (fun w => bel_st (r22_w f w)))
theorem rNan_is (f : Int) (h0 : 0 ≤ f) (h3 : f ≤ 3) (u v : Nat) (h : bv7 (nanN f) = (u, v)) (w : World) : Calls Tryd.prog 31 #[.int .u8 f] w fun r w' => r = .returned (.agg #[.int .u64 (u : Nat), .int .u64 (v : Nat)]) ∧ Below w.heap.size w w' := by
  have KW := box (fun w => bel_st (r22_w f w))
  rcases (by omega : f = 0 ∨ f = 1 ∨ f = 2 ∨ f = 3) with rfl | rfl | rfl | rfl
  · exact r22_NaN_s u v h w KW
  · exact r22_NaN_d u v h w KW
  · exact r22_NaN_h u v h w KW
  · exact r22_NaN_q u v h w KW
theorem rUbx_is (f : Int) (h0 : 0 ≤ f) (h3 : f ≤ 3) (x y N : Nat) (hx : x < 18446744073709551616) (hy : y < 18446744073709551616) (hN : y + 18446744073709551616 * x = N) (u v : Nat) (h : bv7 (ubN f N) = (u, v)) (w : World) : Calls Tryd.prog 16 #[.int .u8 f, .agg #[.int .u64 (x : Nat), .int .u64 (y : Nat)]] w fun r w' => r = .returned (.agg #[.int .u64 (u : Nat), .int .u64 (v : Nat)]) ∧ Below w.heap.size w w' := by
  have KI := box (fun w => rIsb_is f x y N hx hy hN w)
  unfold ubN at h
  cases q : isN f N
  · rw [q] at KI h
    exact r22_Unbox_n f x y u v w KI (box (fun w => rNan_is f h0 h3 u v h w))
  · rw [q] at KI h
    exact r22_Unbox_y f x y u v w KI (box (fun w => rLow_is f x y N hx hy hN u v h w))
end Go.Proofs.YtakmlgcnfbiagaaDoor
namespace Go.Proofs.YtakmlgcnfbiagaaDoor
set_option maxRecDepth 100000
set_option maxHeartbeats 40000000
set_option maxRecDepth 100000
open Go.RowKit WMath
set_option linter.unusedSimpArgs false
set_option linter.unusedVariables false
set_option maxRecDepth 100000 in
set_option maxHeartbeats 8000000 in
theorem r22lives (a5 b5 : Nat) (w : World) (K1 : Box (∀ w, FAt w → Calls Tryd.prog 11 #[.int .u8 2, .agg #[.int .u64 0, .int .u64 15360]] w fun r w' => r = .returned (.tuple #[.agg #[.int .u64 18446744073709551615, .int .u64 18446744073709501440], .int .i64 0]) ∧ Below w.heap.size w w')) (K2 : Box (∀ w, FAt w → Calls Tryd.prog 9 #[.int .u8 2, .agg #[.int .u64 18446744073709551615, .int .u64 18446744073709501440]] w fun r w' => r = .returned (.tuple #[.agg #[.int .u64 0, .int .u64 15360], .int .i64 0]) ∧ Below w.heap.size w w')) (K3 : Box (∀ w, FAt w → Calls Tryd.prog 9 #[.int .u8 0, .agg #[.int .u64 18446744073709551615, .int .u64 18446744073709501440]] w fun r w' => r = .returned (.tuple #[.agg #[.int .u64 0, .int .u64 4294917120], .int .i64 0]) ∧ Below w.heap.size w w')) (K4 : Box (∀ w, FAt w → Calls Tryd.prog 9 #[.int .u8 2, .agg #[.int .u64 0, .int .u64 15360]] w fun r w' => r = .returned (.tuple #[.agg #[.int .u64 0, .int .u64 32256], .int .i64 0]) ∧ Below w.heap.size w w')) (K5 : Box (∀ w, FAt w → Calls Tryd.prog 11 #[.int .u8 2, .agg #[.int .u64 0, .int .u64 65536]] w fun r w' => r = .returned (.tuple #[.agg #[.int .u64 (a5 : Nat), .int .u64 (b5 : Nat)], .int .i64 2]) ∧ Below w.heap.size w w')) (hT : FAt w) : Calls Tryd.prog 14 #[] w fun r w' => r = .returned (.bool true) ∧ Below w.heap.size w w' := by
  have FF := box hT
  clear hT
  have hE := eqb
  have B0 : Below w.heap.size w w := (Below.refl _ _)
  go_enter Tryd.func14, Tryd.ntmps14
  go_wp2_with fail
  refine (K1.out _ (fatB FF.out B0)).mono ?_
  rintro r w1 ⟨rfl, b1⟩
  have B1 : Below w.heap.size w w1 := btr B0 b1
  clear b1 B0 
  have S2 := box B1.size
  have Ra_2 := heap_alloc_last w1 (Obj.cells #[.int .u64 18446744073709551615, .int .u64 18446744073709501440] 25)
  have B2 := btr B1 (bal w1 (Obj.cells #[.int .u64 18446744073709551615, .int .u64 18446744073709501440] 25))
  clear B1 
  obtain ⟨ca_2_0, ca_2_1⟩ := cells2s Ra_2
  go_wp2_with fail
  refine (K2.out _ (fatB FF.out B2)).mono ?_
  rintro r w3 ⟨rfl, b3⟩
  have B3 : Below w.heap.size w w3 := btr B2 b3
  have Ra_3 := heap_of b3 _ _ _ Ra_2
  clear b3 B2 Ra_2 ca_2_0 ca_2_1
  obtain ⟨ca_3_0, ca_3_1⟩ := cells2s Ra_3
  have S4 := box B3.size
  have La_4 : Box (w1.heap.size < w3.heap.size) := box (Array.getElem?_eq_some_iff.1 Ra_3).1
  have Rb_4 := heap_alloc_last w3 (Obj.cells #[.int .u64 0, .int .u64 15360] 25)
  have B4 := btr B3 (bal w3 (Obj.cells #[.int .u64 0, .int .u64 15360] 25))
  have Ra_4 := heap_of (bal w3 (Obj.cells #[.int .u64 0, .int .u64 15360] 25)) _ _ _ Ra_3
  clear B3 Ra_3 ca_3_0 ca_3_1
  obtain ⟨ca_4_0, ca_4_1⟩ := cells2s Ra_4
  obtain ⟨cb_4_0, cb_4_1⟩ := cells2s Rb_4
  go_wp2_with fail
  refine (K3.out _ (fatB FF.out B4)).mono ?_
  rintro r w5 ⟨rfl, b5⟩
  have B5 : Below w.heap.size w w5 := btr B4 b5
  have Ra_5 := heap_of b5 _ _ _ Ra_4
  have Rb_5 := heap_of b5 _ _ _ Rb_4
  clear b5 B4 Ra_4 ca_4_0 ca_4_1 Rb_4 cb_4_0 cb_4_1
  obtain ⟨ca_5_0, ca_5_1⟩ := cells2s Ra_5
  obtain ⟨cb_5_0, cb_5_1⟩ := cells2s Rb_5
  have S6 := box B5.size
  have La_6 : Box (w1.heap.size < w5.heap.size) := box (Array.getElem?_eq_some_iff.1 Ra_5).1
  have Lb_6 : Box (w3.heap.size < w5.heap.size) := box (Array.getElem?_eq_some_iff.1 Rb_5).1
  have Rc_6 := heap_alloc_last w5 (Obj.cells #[.int .u64 0, .int .u64 4294917120] 25)
  have B6 := btr B5 (bal w5 (Obj.cells #[.int .u64 0, .int .u64 4294917120] 25))
  have Ra_6 := heap_of (bal w5 (Obj.cells #[.int .u64 0, .int .u64 4294917120] 25)) _ _ _ Ra_5
  have Rb_6 := heap_of (bal w5 (Obj.cells #[.int .u64 0, .int .u64 4294917120] 25)) _ _ _ Rb_5
  clear B5 Ra_5 ca_5_0 ca_5_1 Rb_5 cb_5_0 cb_5_1
  obtain ⟨ca_6_0, ca_6_1⟩ := cells2s Ra_6
  obtain ⟨cb_6_0, cb_6_1⟩ := cells2s Rb_6
  obtain ⟨cc_6_0, cc_6_1⟩ := cells2s Rc_6
  go_wp2_with fail
  refine (K4.out _ (fatB FF.out B6)).mono ?_
  rintro r w7 ⟨rfl, b7⟩
  have B7 : Below w.heap.size w w7 := btr B6 b7
  have Ra_7 := heap_of b7 _ _ _ Ra_6
  have Rb_7 := heap_of b7 _ _ _ Rb_6
  have Rc_7 := heap_of b7 _ _ _ Rc_6
  clear b7 B6 Ra_6 ca_6_0 ca_6_1 Rb_6 cb_6_0 cb_6_1 Rc_6 cc_6_0 cc_6_1
  obtain ⟨ca_7_0, ca_7_1⟩ := cells2s Ra_7
  obtain ⟨cb_7_0, cb_7_1⟩ := cells2s Rb_7
  obtain ⟨cc_7_0, cc_7_1⟩ := cells2s Rc_7
  have S8 := box B7.size
  have La_8 : Box (w1.heap.size < w7.heap.size) := box (Array.getElem?_eq_some_iff.1 Ra_7).1
  have Lb_8 : Box (w3.heap.size < w7.heap.size) := box (Array.getElem?_eq_some_iff.1 Rb_7).1
  have Lc_8 : Box (w5.heap.size < w7.heap.size) := box (Array.getElem?_eq_some_iff.1 Rc_7).1
  have Rd_8 := heap_alloc_last w7 (Obj.cells #[.int .u64 0, .int .u64 32256] 25)
  have B8 := btr B7 (bal w7 (Obj.cells #[.int .u64 0, .int .u64 32256] 25))
  have Ra_8 := heap_of (bal w7 (Obj.cells #[.int .u64 0, .int .u64 32256] 25)) _ _ _ Ra_7
  have Rb_8 := heap_of (bal w7 (Obj.cells #[.int .u64 0, .int .u64 32256] 25)) _ _ _ Rb_7
  have Rc_8 := heap_of (bal w7 (Obj.cells #[.int .u64 0, .int .u64 32256] 25)) _ _ _ Rc_7
  clear B7 Ra_7 ca_7_0 ca_7_1 Rb_7 cb_7_0 cb_7_1 Rc_7 cc_7_0 cc_7_1
  obtain ⟨ca_8_0, ca_8_1⟩ := cells2s Ra_8
  obtain ⟨cb_8_0, cb_8_1⟩ := cells2s Rb_8
  obtain ⟨cc_8_0, cc_8_1⟩ := cells2s Rc_8
  obtain ⟨cd_8_0, cd_8_1⟩ := cells2s Rd_8
  go_wp2_with fail
  refine (K5.out _ (fatB FF.out B8)).mono ?_
  rintro r w9 ⟨rfl, b9⟩
  have B9 : Below w.heap.size w w9 := btr B8 b9
  have Ra_9 := heap_of b9 _ _ _ Ra_8
  have Rb_9 := heap_of b9 _ _ _ Rb_8
  have Rc_9 := heap_of b9 _ _ _ Rc_8
  have Rd_9 := heap_of b9 _ _ _ Rd_8
  clear b9 B8 Ra_8 ca_8_0 ca_8_1 Rb_8 cb_8_0 cb_8_1 Rc_8 cc_8_0 cc_8_1 Rd_8 cd_8_0 cd_8_1
  obtain ⟨ca_9_0, ca_9_1⟩ := cells2s Ra_9
  obtain ⟨cb_9_0, cb_9_1⟩ := cells2s Rb_9
  obtain ⟨cc_9_0, cc_9_1⟩ := cells2s Rc_9
  obtain ⟨cd_9_0, cd_9_1⟩ := cells2s Rd_9
  have S10 := box B9.size
  have La_10 : Box (w1.heap.size < w9.heap.size) := box (Array.getElem?_eq_some_iff.1 Ra_9).1
  have Lb_10 : Box (w3.heap.size < w9.heap.size) := box (Array.getElem?_eq_some_iff.1 Rb_9).1
  have Lc_10 : Box (w5.heap.size < w9.heap.size) := box (Array.getElem?_eq_some_iff.1 Rc_9).1
  have Ld_10 : Box (w7.heap.size < w9.heap.size) := box (Array.getElem?_eq_some_iff.1 Rd_9).1
  have Rq_10 := heap_alloc_last w9 (Obj.cells #[.int .u64 (a5 : Nat), .int .u64 (b5 : Nat)] 25)
  have B10 := btr B9 (bal w9 (Obj.cells #[.int .u64 (a5 : Nat), .int .u64 (b5 : Nat)] 25))
  have Ra_10 := heap_of (bal w9 (Obj.cells #[.int .u64 (a5 : Nat), .int .u64 (b5 : Nat)] 25)) _ _ _ Ra_9
  have Rb_10 := heap_of (bal w9 (Obj.cells #[.int .u64 (a5 : Nat), .int .u64 (b5 : Nat)] 25)) _ _ _ Rb_9
  have Rc_10 := heap_of (bal w9 (Obj.cells #[.int .u64 (a5 : Nat), .int .u64 (b5 : Nat)] 25)) _ _ _ Rc_9
  have Rd_10 := heap_of (bal w9 (Obj.cells #[.int .u64 (a5 : Nat), .int .u64 (b5 : Nat)] 25)) _ _ _ Rd_9
  clear B9 Ra_9 ca_9_0 ca_9_1 Rb_9 cb_9_0 cb_9_1 Rc_9 cc_9_0 cc_9_1 Rd_9 cd_9_0 cd_9_1
  obtain ⟨ca_10_0, ca_10_1⟩ := cells2s Ra_10
  obtain ⟨cb_10_0, cb_10_1⟩ := cells2s Rb_10
  obtain ⟨cc_10_0, cc_10_1⟩ := cells2s Rc_10
  obtain ⟨cd_10_0, cd_10_1⟩ := cells2s Rd_10
  obtain ⟨cq_10_0, cq_10_1⟩ := cells2s Rq_10
  go_wp2
  go_ret
  exact ⟨rfl, B10⟩
end Go.Proofs.YtakmlgcnfbiagaaDoor
namespace Go.Proofs.YtakmlgcnfbiagaaDoor
set_option maxRecDepth 100000
set_option maxHeartbeats 40000000
set_option maxRecDepth 100000
open Go.RowKit WMath
set_option linter.unusedSimpArgs false
set_option linter.unusedVariables false
theorem box_isN {f : Int} (h0 : 0 ≤ f) (h3 : f ≤ 3) {B : Nat} (hB : B < 2 ^ wdF f) : B + abN f < 2 ^ 128 ∧ (B + abN f) / 2 ^ wdF f = 2 ^ (128 - wdF f) - 1 ∧ (B + abN f) % 2 ^ wdF f = B ∧ isN f (B + abN f) = true := by
  have W := wdF_le f
  have p := Nat.two_pow_pos (wdF f)
  have e : (2 : Nat) ^ 128 = 2 ^ wdF f * 2 ^ (128 - wdF f) := by rw [← Nat.pow_add, show wdF f + (128 - wdF f) = 128 by omega]
  have q := Nat.two_pow_pos (128 - wdF f)
  have a : abN f = 2 ^ wdF f * (2 ^ (128 - wdF f) - 1) := by unfold abN; rw [e, Nat.mul_sub, Nat.mul_one]
  have d : (B + abN f) / 2 ^ wdF f = 2 ^ (128 - wdF f) - 1 := by rw [a, Nat.add_mul_div_left _ _ p, Nat.div_eq_of_lt hB, Nat.zero_add]
  refine ⟨?_, d, ?_, ?_⟩
  · have : 2 ^ wdF f ≤ 2 ^ 128 := Nat.pow_le_pow_right (by decide) W
    unfold abN
    omega
  · rw [a, Nat.add_mul_mod_self_left, Nat.mod_eq_of_lt hB]
  · unfold isN
    exact decide_eq_true ⟨by have := wdF_pos h0 h3; omega, d⟩
theorem nan_fit {f : Int} (h0 : 0 ≤ f) (h3 : f ≤ 3) : nanN f < 2 ^ wdF f := by
  rcases (by omega : f = 0 ∨ f = 1 ∨ f = 2 ∨ f = 3) with rfl | rfl | rfl | rfl <;> decide +kernel
theorem ub_fit {f : Int} (h0 : 0 ≤ f) (h3 : f ≤ 3) (N : Nat) : ubN f N < 2 ^ wdF f := by
  unfold ubN
  split
  · exact Nat.mod_lt _ (Nat.two_pow_pos _)
  · exact nan_fit h0 h3
theorem p128 : (2 : Nat) ^ 128 = 340282366920938463463374607431768211456 := rfl
theorem fit128 {f : Int} {n : Nat} (h : n < 2 ^ wdF f) : n < 340282366920938463463374607431768211456 := low_128 h (wdF_le f)
theorem ebb_is (a b c d : Nat) : ebb (a : Nat) (b : Nat) (c : Nat) (d : Nat) = decide (a = c ∧ b = d) := by
  unfold ebb
  rw [Bool.eq_iff_iff]
  simp
  omega
def allF (k : Nat) : Int := if k = 0 then 2 else if k = 1 then 0 else if k = 2 then 1 else 3
def fmK (N : Nat) : Nat → List Int
  | 0 => []
  | k + 1 => fmK N k ++ (if isN (allF k) N = true then [allF k] else [])
theorem fmK_len (N : Nat) : ∀ k, (fmK N k).length ≤ k
  | 0 => Nat.le_refl _
  | k + 1 => by
    have := fmK_len N k
    simp only [fmK, List.length_append]
    split <;> simp <;> omega
theorem own_mono {w w' : World} {base : Nat} {e : TypeId} {size : Nat} {v : Value} {n : Nat} {xs : List Value} (h : w.ownsRow base e size v n xs) (hb : Below w.heap.size w w') : w'.ownsRow base e size v n xs := by
  refine ⟨h.1, ?_⟩
  rcases h.2 with q | ⟨g, cap, cur, h1, h2, h3, h4⟩
  · exact Or.inl q
  · exact Or.inr ⟨g, cap, cur, h1, h2, heap_of hb _ _ _ h3, h4⟩
set_option maxRecDepth 100000 in
set_option maxHeartbeats 8000000 in
theorem r22_forms (x y N : Nat) (hx : x < 18446744073709551616) (hy : y < 18446744073709551616) (hN : y + 18446744073709551616 * x = N) (w : World) :
    Calls Tryd.prog 20 #[.agg #[.int .u64 (x : Nat), .int .u64 (y : Nat)]] w fun r w' => ∃ v, r = .returned v ∧ w'.ownsRow (w.heap.size + 2) 22 1 v (fmK N 4).length ((fmK N 4).map (Value.int .u8)) ∧ Below w.heap.size w w' := by
  obtain ⟨i0, hi, hz0, hz1, hz2⟩ := info_parts (show (Tryd.prog.info? 22).map (fun i => (i.zero, i.size, i.bytes)) = some (some (.int .u8 0), 1, 1) by kernel_rfl)
  have KI := fun f => box (fun w => rIsb_is f x y N hx hy hN w)
  obtain ⟨Ra_0, B0⟩ := opn1 w (Obj.cells #[.int .u64 (x : Nat), .int .u64 (y : Nat)] 25)
  go_enter Tryd.func20, Tryd.ntmps20
  go_wp2
  have RA := heap_alloc_last (w.alloc (Obj.cells #[.int .u64 (x : Nat), .int .u64 (y : Nat)] 25)) (Obj.cells #[.int .u8 2, .int .u8 0, .int .u8 1, .int .u8 3] 22)
  have RR := heap_of (bal (w.alloc (Obj.cells #[.int .u64 (x : Nat), .int .u64 (y : Nat)] 25)) (Obj.cells #[.int .u8 2, .int .u8 0, .int .u8 1, .int .u8 3] 22)) _ _ _ Ra_0
  have BB := btr B0 (bal (w.alloc (Obj.cells #[.int .u64 (x : Nat), .int .u64 (y : Nat)] 25)) (Obj.cells #[.int .u8 2, .int .u8 0, .int .u8 1, .int .u8 3] 22))
  simp only [size_al] at RA
  clear Ra_0 B0
  go_loopw [3, 5] (fun v i wr => ∃ (k : Nat) (ao : Option Addr) (cv : Nat), k ≤ 4 ∧ i = .int .i64 (k : Int) ∧ v = .slice ao (fmK N k).length cv ∧ wr.ownsRow (w.heap.size + 2) 22 1 v (fmK N k).length ((fmK N k).map (Value.int .u8)) ∧ Below w.heap.size w wr ∧ wr.heap[w.heap.size]? = some (.cells #[.int .u64 (x : Nat), .int .u64 (y : Nat)] 25) ∧ wr.heap[w.heap.size + 1]? = some (.cells #[.int .u8 2, .int .u8 0, .int .u8 1, .int .u8 3] 22))
    (fun _ i _ => 4 - (intOf i).toNat)
  case atStart => exact ⟨0, none, 0, Nat.zero_le _, rfl, rfl, World.ownsRow_nil _ _ _ _, BB, RR, RA⟩
  case round =>
    obtain ⟨k, ao, cv, hk, rfl, rfl, hown, hB, hR, hA⟩ := hrel
    clear BB RR RA
    rcases (show k = 0 ∨ k = 1 ∨ k = 2 ∨ k = 3 ∨ k = 4 from by omega) with rfl | rfl | rfl | rfl | rfl
    · have hpl := fmK_len N 0
      have hpk : fmK N 1 = fmK N 0 ++ (if isN 2 N = true then [2] else []) := rfl
      have KB := KI 2
      obtain ⟨c0, c1⟩ := cells2s hR
      obtain ⟨d0, d1, d2, d3⟩ := cells4s hA
      cases q : isN 2 N
      · rw [q] at KB hpk
        rw [if_neg (by decide), List.append_nil] at hpk
        go_wp2_with fail
        obtain ⟨F, hF1, hF2⟩ := below_fun wr
        have fr0 := fun u => cells4 (heap_of (hF1 u) _ _ _ hR) 0 _ rfl
        have fr1 := fun u => cells4 (heap_of (hF1 u) _ _ _ hR) 1 _ rfl
        have fa0 := fun u => cells4 (heap_of (hF1 u) _ _ _ hA) 0 _ rfl
        have fa1 := fun u => cells4 (heap_of (hF1 u) _ _ _ hA) 1 _ rfl
        have fa2 := fun u => cells4 (heap_of (hF1 u) _ _ _ hA) 2 _ rfl
        have fa3 := fun u => cells4 (heap_of (hF1 u) _ _ _ hA) 3 _ rfl
        refine wp_region_below F hF2 (by kernel_rfl) (by kernel_rfl) ?_
        repeat first | go_big_quiet_step (first | (go_at_call 13; exact quietF hF1 hF2 (KB.out _)) | fail) | quiet_step (first | (go_at_call 13; exact quietF hF1 hF2 (KB.out _)) | fail)
        refine wpQuiet_nil ?_
        rintro _ ⟨uW, rfl⟩
        have b1 := hF1 uW
        obtain ⟨w1, hw⟩ : ∃ V, F uW = V := ⟨_, rfl⟩
        rw [hw] at b1
        try rw [hw]
        clear hw hF1 hF2 fr0 fr1 fa0 fa1 fa2 fa3
        clear F
        have hB1 := btr hB b1
        have hR1 := heap_of b1 _ _ _ hR
        have hA1 := heap_of b1 _ _ _ hA
        have ho1 := own_mono hown b1
        obtain ⟨f0, f1, f2, f3⟩ := cells4s hA1
        have hs1 := hB1.size
        clear c0 c1 d0 d1 d2 d3
        go_wp2
        go_roundw
        case rel => exact ⟨1, ao, cv, by omega, by first | rfl | simp, by rw [hpk], by rw [hpk]; exact ho1, hB1, hR1, hA1⟩
        case measure => simp [intOf]
      · rw [q] at KB hpk
        rw [if_pos rfl] at hpk
        go_wp2_with fail
        obtain ⟨F, hF1, hF2⟩ := below_fun wr
        have fr0 := fun u => cells4 (heap_of (hF1 u) _ _ _ hR) 0 _ rfl
        have fr1 := fun u => cells4 (heap_of (hF1 u) _ _ _ hR) 1 _ rfl
        have fa0 := fun u => cells4 (heap_of (hF1 u) _ _ _ hA) 0 _ rfl
        have fa1 := fun u => cells4 (heap_of (hF1 u) _ _ _ hA) 1 _ rfl
        have fa2 := fun u => cells4 (heap_of (hF1 u) _ _ _ hA) 2 _ rfl
        have fa3 := fun u => cells4 (heap_of (hF1 u) _ _ _ hA) 3 _ rfl
        refine wp_region_below F hF2 (by kernel_rfl) (by kernel_rfl) ?_
        repeat first | go_big_quiet_step (first | (go_at_call 13; exact quietF hF1 hF2 (KB.out _)) | fail) | quiet_step (first | (go_at_call 13; exact quietF hF1 hF2 (KB.out _)) | fail)
        refine wpQuiet_nil ?_
        rintro _ ⟨uW, rfl⟩
        have b1 := hF1 uW
        obtain ⟨w1, hw⟩ : ∃ V, F uW = V := ⟨_, rfl⟩
        rw [hw] at b1
        try rw [hw]
        clear hw hF1 hF2 fr0 fr1 fa0 fa1 fa2 fa3
        clear F
        have hB1 := btr hB b1
        have hR1 := heap_of b1 _ _ _ hR
        have hA1 := heap_of b1 _ _ _ hA
        have ho1 := own_mono hown b1
        obtain ⟨f0, f1, f2, f3⟩ := cells4s hA1
        have hs1 := hB1.size
        clear c0 c1 d0 d1 d2 d3
        go_wp2_with (first
          | (at_builtin; refine wpList_append_own _ rfl _ _ 36 rfl (w.heap.size + 2) 22 i0 (.int .u8 0) 1 1 Tryd.underlying36 hi hz0 hz1 hz2 rfl (by decide) _ _ _ rfl (ho1.alloc _) ⟨w1.heap.size, 0, none⟩ 1 1 [.int .u8 2] rfl rfl (cell_one_new _ _ _) (fun x hx => by simp at hx; subst hx; rfl) (by unfold maxLen; omega) (by omega) (by simp only [size_al]; have := (Array.getElem?_eq_some_iff.1 hA1).1; omega) ?_; intro v' w3 hown' hgrow3 hnil3))
        go_roundw
        case rel =>
          obtain ⟨g3, cap3, hv3⟩ : ∃ g3 cap3, v' = .slice (some ⟨g3, 0, none⟩) ((fmK N 0).length + 1) cap3 := by
            rcases hown'.2 with ⟨_, h⟩ | ⟨g3, cap3, _, h, _⟩
            · omega
            · exact ⟨g3, cap3, h⟩
          have row : ∀ (b : Nat) (c : Array Value) (T : TypeId), b < w.heap.size + 2 → w1.heap[b]? = some (.cells c T) → w3.heap[b]? = some (.cells c T) := by
            intro b c T hb hc
            have l1 := (Array.getElem?_eq_some_iff.1 hc).1
            rw [hgrow3.block b (by simp only [size_al]; omega) (fun z => by have := (ho1.lt b z.symm).1; omega)]
            exact heap_of (bal w1 _) _ _ _ hc
          have R : 1 ≤ 4 ∧ Value.int .i64 (0 + 1) = .int .i64 ((1 : Nat) : Int) ∧ v' = .slice (some ⟨g3, 0, none⟩) (fmK N 1).length cap3 ∧ w3.ownsRow (w.heap.size + 2) 22 1 v' (fmK N 1).length ((fmK N 1).map (Value.int .u8)) ∧ Below w.heap.size w w3 ∧ w3.heap[w.heap.size]? = some (.cells #[.int .u64 (x : Nat), .int .u64 (y : Nat)] 25) ∧ w3.heap[w.heap.size + 1]? = some (.cells #[.int .u8 2, .int .u8 0, .int .u8 1, .int .u8 3] 22) :=
            ⟨by omega, by first | rfl | simp, by rw [hv3, hpk]; simp, by rw [hpk, List.map_append, List.length_append]; exact hown', (hB1.alloc hs1 _).grown hgrow3 (by simp only [size_al]; omega) (fun q hq => by have := (ho1.lt q hq).1; omega), row _ _ _ (by omega) hR1, row _ _ _ (by omega) hA1⟩
          first
            | exact ⟨1, some ⟨g3, 0, none⟩, cap3, R⟩
            | ((repeat apply Exists.intro); exact ⟨⟨1, some ⟨g3, 0, none⟩, cap3, R⟩, rfl⟩)
        case measure => simp [intOf]
    · have hpl := fmK_len N 1
      have hpk : fmK N 2 = fmK N 1 ++ (if isN 0 N = true then [0] else []) := rfl
      have KB := KI 0
      obtain ⟨c0, c1⟩ := cells2s hR
      obtain ⟨d0, d1, d2, d3⟩ := cells4s hA
      cases q : isN 0 N
      · rw [q] at KB hpk
        rw [if_neg (by decide), List.append_nil] at hpk
        go_wp2_with fail
        obtain ⟨F, hF1, hF2⟩ := below_fun wr
        have fr0 := fun u => cells4 (heap_of (hF1 u) _ _ _ hR) 0 _ rfl
        have fr1 := fun u => cells4 (heap_of (hF1 u) _ _ _ hR) 1 _ rfl
        have fa0 := fun u => cells4 (heap_of (hF1 u) _ _ _ hA) 0 _ rfl
        have fa1 := fun u => cells4 (heap_of (hF1 u) _ _ _ hA) 1 _ rfl
        have fa2 := fun u => cells4 (heap_of (hF1 u) _ _ _ hA) 2 _ rfl
        have fa3 := fun u => cells4 (heap_of (hF1 u) _ _ _ hA) 3 _ rfl
        refine wp_region_below F hF2 (by kernel_rfl) (by kernel_rfl) ?_
        repeat first | go_big_quiet_step (first | (go_at_call 13; exact quietF hF1 hF2 (KB.out _)) | fail) | quiet_step (first | (go_at_call 13; exact quietF hF1 hF2 (KB.out _)) | fail)
        refine wpQuiet_nil ?_
        rintro _ ⟨uW, rfl⟩
        have b1 := hF1 uW
        obtain ⟨w1, hw⟩ : ∃ V, F uW = V := ⟨_, rfl⟩
        rw [hw] at b1
        try rw [hw]
        clear hw hF1 hF2 fr0 fr1 fa0 fa1 fa2 fa3
        clear F
        have hB1 := btr hB b1
        have hR1 := heap_of b1 _ _ _ hR
        have hA1 := heap_of b1 _ _ _ hA
        have ho1 := own_mono hown b1
        obtain ⟨f0, f1, f2, f3⟩ := cells4s hA1
        have hs1 := hB1.size
        clear c0 c1 d0 d1 d2 d3
        go_wp2
        go_roundw
        case rel => exact ⟨2, ao, cv, by omega, by first | rfl | simp, by rw [hpk], by rw [hpk]; exact ho1, hB1, hR1, hA1⟩
        case measure => simp [intOf]
      · rw [q] at KB hpk
        rw [if_pos rfl] at hpk
        go_wp2_with fail
        obtain ⟨F, hF1, hF2⟩ := below_fun wr
        have fr0 := fun u => cells4 (heap_of (hF1 u) _ _ _ hR) 0 _ rfl
        have fr1 := fun u => cells4 (heap_of (hF1 u) _ _ _ hR) 1 _ rfl
        have fa0 := fun u => cells4 (heap_of (hF1 u) _ _ _ hA) 0 _ rfl
        have fa1 := fun u => cells4 (heap_of (hF1 u) _ _ _ hA) 1 _ rfl
        have fa2 := fun u => cells4 (heap_of (hF1 u) _ _ _ hA) 2 _ rfl
        have fa3 := fun u => cells4 (heap_of (hF1 u) _ _ _ hA) 3 _ rfl
        refine wp_region_below F hF2 (by kernel_rfl) (by kernel_rfl) ?_
        repeat first | go_big_quiet_step (first | (go_at_call 13; exact quietF hF1 hF2 (KB.out _)) | fail) | quiet_step (first | (go_at_call 13; exact quietF hF1 hF2 (KB.out _)) | fail)
        refine wpQuiet_nil ?_
        rintro _ ⟨uW, rfl⟩
        have b1 := hF1 uW
        obtain ⟨w1, hw⟩ : ∃ V, F uW = V := ⟨_, rfl⟩
        rw [hw] at b1
        try rw [hw]
        clear hw hF1 hF2 fr0 fr1 fa0 fa1 fa2 fa3
        clear F
        have hB1 := btr hB b1
        have hR1 := heap_of b1 _ _ _ hR
        have hA1 := heap_of b1 _ _ _ hA
        have ho1 := own_mono hown b1
        obtain ⟨f0, f1, f2, f3⟩ := cells4s hA1
        have hs1 := hB1.size
        clear c0 c1 d0 d1 d2 d3
        go_wp2_with (first
          | (at_builtin; refine wpList_append_own _ rfl _ _ 36 rfl (w.heap.size + 2) 22 i0 (.int .u8 0) 1 1 Tryd.underlying36 hi hz0 hz1 hz2 rfl (by decide) _ _ _ rfl (ho1.alloc _) ⟨w1.heap.size, 0, none⟩ 1 1 [.int .u8 0] rfl rfl (cell_one_new _ _ _) (fun x hx => by simp at hx; subst hx; rfl) (by unfold maxLen; omega) (by omega) (by simp only [size_al]; have := (Array.getElem?_eq_some_iff.1 hA1).1; omega) ?_; intro v' w3 hown' hgrow3 hnil3))
        go_roundw
        case rel =>
          obtain ⟨g3, cap3, hv3⟩ : ∃ g3 cap3, v' = .slice (some ⟨g3, 0, none⟩) ((fmK N 1).length + 1) cap3 := by
            rcases hown'.2 with ⟨_, h⟩ | ⟨g3, cap3, _, h, _⟩
            · omega
            · exact ⟨g3, cap3, h⟩
          have row : ∀ (b : Nat) (c : Array Value) (T : TypeId), b < w.heap.size + 2 → w1.heap[b]? = some (.cells c T) → w3.heap[b]? = some (.cells c T) := by
            intro b c T hb hc
            have l1 := (Array.getElem?_eq_some_iff.1 hc).1
            rw [hgrow3.block b (by simp only [size_al]; omega) (fun z => by have := (ho1.lt b z.symm).1; omega)]
            exact heap_of (bal w1 _) _ _ _ hc
          have R : 2 ≤ 4 ∧ Value.int .i64 (1 + 1) = .int .i64 ((2 : Nat) : Int) ∧ v' = .slice (some ⟨g3, 0, none⟩) (fmK N 2).length cap3 ∧ w3.ownsRow (w.heap.size + 2) 22 1 v' (fmK N 2).length ((fmK N 2).map (Value.int .u8)) ∧ Below w.heap.size w w3 ∧ w3.heap[w.heap.size]? = some (.cells #[.int .u64 (x : Nat), .int .u64 (y : Nat)] 25) ∧ w3.heap[w.heap.size + 1]? = some (.cells #[.int .u8 2, .int .u8 0, .int .u8 1, .int .u8 3] 22) :=
            ⟨by omega, by first | rfl | simp, by rw [hv3, hpk]; simp, by rw [hpk, List.map_append, List.length_append]; exact hown', (hB1.alloc hs1 _).grown hgrow3 (by simp only [size_al]; omega) (fun q hq => by have := (ho1.lt q hq).1; omega), row _ _ _ (by omega) hR1, row _ _ _ (by omega) hA1⟩
          first
            | exact ⟨2, some ⟨g3, 0, none⟩, cap3, R⟩
            | ((repeat apply Exists.intro); exact ⟨⟨2, some ⟨g3, 0, none⟩, cap3, R⟩, rfl⟩)
        case measure => simp [intOf]
    · have hpl := fmK_len N 2
      have hpk : fmK N 3 = fmK N 2 ++ (if isN 1 N = true then [1] else []) := rfl
      have KB := KI 1
      obtain ⟨c0, c1⟩ := cells2s hR
      obtain ⟨d0, d1, d2, d3⟩ := cells4s hA
      cases q : isN 1 N
      · rw [q] at KB hpk
        rw [if_neg (by decide), List.append_nil] at hpk
        go_wp2_with fail
        obtain ⟨F, hF1, hF2⟩ := below_fun wr
        have fr0 := fun u => cells4 (heap_of (hF1 u) _ _ _ hR) 0 _ rfl
        have fr1 := fun u => cells4 (heap_of (hF1 u) _ _ _ hR) 1 _ rfl
        have fa0 := fun u => cells4 (heap_of (hF1 u) _ _ _ hA) 0 _ rfl
        have fa1 := fun u => cells4 (heap_of (hF1 u) _ _ _ hA) 1 _ rfl
        have fa2 := fun u => cells4 (heap_of (hF1 u) _ _ _ hA) 2 _ rfl
        have fa3 := fun u => cells4 (heap_of (hF1 u) _ _ _ hA) 3 _ rfl
        refine wp_region_below F hF2 (by kernel_rfl) (by kernel_rfl) ?_
        repeat first | go_big_quiet_step (first | (go_at_call 13; exact quietF hF1 hF2 (KB.out _)) | fail) | quiet_step (first | (go_at_call 13; exact quietF hF1 hF2 (KB.out _)) | fail)
        refine wpQuiet_nil ?_
        rintro _ ⟨uW, rfl⟩
        have b1 := hF1 uW
        obtain ⟨w1, hw⟩ : ∃ V, F uW = V := ⟨_, rfl⟩
        rw [hw] at b1
        try rw [hw]
        clear hw hF1 hF2 fr0 fr1 fa0 fa1 fa2 fa3
        clear F
        have hB1 := btr hB b1
        have hR1 := heap_of b1 _ _ _ hR
        have hA1 := heap_of b1 _ _ _ hA
        have ho1 := own_mono hown b1
        obtain ⟨f0, f1, f2, f3⟩ := cells4s hA1
        have hs1 := hB1.size
        clear c0 c1 d0 d1 d2 d3
        go_wp2
        go_roundw
        case rel => exact ⟨3, ao, cv, by omega, by first | rfl | simp, by rw [hpk], by rw [hpk]; exact ho1, hB1, hR1, hA1⟩
        case measure => simp [intOf]
      · rw [q] at KB hpk
        rw [if_pos rfl] at hpk
        go_wp2_with fail
        obtain ⟨F, hF1, hF2⟩ := below_fun wr
        have fr0 := fun u => cells4 (heap_of (hF1 u) _ _ _ hR) 0 _ rfl
        have fr1 := fun u => cells4 (heap_of (hF1 u) _ _ _ hR) 1 _ rfl
        have fa0 := fun u => cells4 (heap_of (hF1 u) _ _ _ hA) 0 _ rfl
        have fa1 := fun u => cells4 (heap_of (hF1 u) _ _ _ hA) 1 _ rfl
        have fa2 := fun u => cells4 (heap_of (hF1 u) _ _ _ hA) 2 _ rfl
        have fa3 := fun u => cells4 (heap_of (hF1 u) _ _ _ hA) 3 _ rfl
        refine wp_region_below F hF2 (by kernel_rfl) (by kernel_rfl) ?_
        repeat first | go_big_quiet_step (first | (go_at_call 13; exact quietF hF1 hF2 (KB.out _)) | fail) | quiet_step (first | (go_at_call 13; exact quietF hF1 hF2 (KB.out _)) | fail)
        refine wpQuiet_nil ?_
        rintro _ ⟨uW, rfl⟩
        have b1 := hF1 uW
        obtain ⟨w1, hw⟩ : ∃ V, F uW = V := ⟨_, rfl⟩
        rw [hw] at b1
        try rw [hw]
        clear hw hF1 hF2 fr0 fr1 fa0 fa1 fa2 fa3
        clear F
        have hB1 := btr hB b1
        have hR1 := heap_of b1 _ _ _ hR
        have hA1 := heap_of b1 _ _ _ hA
        have ho1 := own_mono hown b1
        obtain ⟨f0, f1, f2, f3⟩ := cells4s hA1
        have hs1 := hB1.size
        clear c0 c1 d0 d1 d2 d3
        go_wp2_with (first
          | (at_builtin; refine wpList_append_own _ rfl _ _ 36 rfl (w.heap.size + 2) 22 i0 (.int .u8 0) 1 1 Tryd.underlying36 hi hz0 hz1 hz2 rfl (by decide) _ _ _ rfl (ho1.alloc _) ⟨w1.heap.size, 0, none⟩ 1 1 [.int .u8 1] rfl rfl (cell_one_new _ _ _) (fun x hx => by simp at hx; subst hx; rfl) (by unfold maxLen; omega) (by omega) (by simp only [size_al]; have := (Array.getElem?_eq_some_iff.1 hA1).1; omega) ?_; intro v' w3 hown' hgrow3 hnil3))
        go_roundw
        case rel =>
          obtain ⟨g3, cap3, hv3⟩ : ∃ g3 cap3, v' = .slice (some ⟨g3, 0, none⟩) ((fmK N 2).length + 1) cap3 := by
            rcases hown'.2 with ⟨_, h⟩ | ⟨g3, cap3, _, h, _⟩
            · omega
            · exact ⟨g3, cap3, h⟩
          have row : ∀ (b : Nat) (c : Array Value) (T : TypeId), b < w.heap.size + 2 → w1.heap[b]? = some (.cells c T) → w3.heap[b]? = some (.cells c T) := by
            intro b c T hb hc
            have l1 := (Array.getElem?_eq_some_iff.1 hc).1
            rw [hgrow3.block b (by simp only [size_al]; omega) (fun z => by have := (ho1.lt b z.symm).1; omega)]
            exact heap_of (bal w1 _) _ _ _ hc
          have R : 3 ≤ 4 ∧ Value.int .i64 (2 + 1) = .int .i64 ((3 : Nat) : Int) ∧ v' = .slice (some ⟨g3, 0, none⟩) (fmK N 3).length cap3 ∧ w3.ownsRow (w.heap.size + 2) 22 1 v' (fmK N 3).length ((fmK N 3).map (Value.int .u8)) ∧ Below w.heap.size w w3 ∧ w3.heap[w.heap.size]? = some (.cells #[.int .u64 (x : Nat), .int .u64 (y : Nat)] 25) ∧ w3.heap[w.heap.size + 1]? = some (.cells #[.int .u8 2, .int .u8 0, .int .u8 1, .int .u8 3] 22) :=
            ⟨by omega, by first | rfl | simp, by rw [hv3, hpk]; simp, by rw [hpk, List.map_append, List.length_append]; exact hown', (hB1.alloc hs1 _).grown hgrow3 (by simp only [size_al]; omega) (fun q hq => by have := (ho1.lt q hq).1; omega), row _ _ _ (by omega) hR1, row _ _ _ (by omega) hA1⟩
          first
            | exact ⟨3, some ⟨g3, 0, none⟩, cap3, R⟩
            | ((repeat apply Exists.intro); exact ⟨⟨3, some ⟨g3, 0, none⟩, cap3, R⟩, rfl⟩)
        case measure => simp [intOf]
    · have hpl := fmK_len N 3
      have hpk : fmK N 4 = fmK N 3 ++ (if isN 3 N = true then [3] else []) := rfl
      have KB := KI 3
      obtain ⟨c0, c1⟩ := cells2s hR
      obtain ⟨d0, d1, d2, d3⟩ := cells4s hA
      cases q : isN 3 N
      · rw [q] at KB hpk
        rw [if_neg (by decide), List.append_nil] at hpk
        go_wp2_with fail
        obtain ⟨F, hF1, hF2⟩ := below_fun wr
        have fr0 := fun u => cells4 (heap_of (hF1 u) _ _ _ hR) 0 _ rfl
        have fr1 := fun u => cells4 (heap_of (hF1 u) _ _ _ hR) 1 _ rfl
        have fa0 := fun u => cells4 (heap_of (hF1 u) _ _ _ hA) 0 _ rfl
        have fa1 := fun u => cells4 (heap_of (hF1 u) _ _ _ hA) 1 _ rfl
        have fa2 := fun u => cells4 (heap_of (hF1 u) _ _ _ hA) 2 _ rfl
        have fa3 := fun u => cells4 (heap_of (hF1 u) _ _ _ hA) 3 _ rfl
        refine wp_region_below F hF2 (by kernel_rfl) (by kernel_rfl) ?_
        repeat first | go_big_quiet_step (first | (go_at_call 13; exact quietF hF1 hF2 (KB.out _)) | fail) | quiet_step (first | (go_at_call 13; exact quietF hF1 hF2 (KB.out _)) | fail)
        refine wpQuiet_nil ?_
        rintro _ ⟨uW, rfl⟩
        have b1 := hF1 uW
        obtain ⟨w1, hw⟩ : ∃ V, F uW = V := ⟨_, rfl⟩
        rw [hw] at b1
        try rw [hw]
        clear hw hF1 hF2 fr0 fr1 fa0 fa1 fa2 fa3
        clear F
        have hB1 := btr hB b1
        have hR1 := heap_of b1 _ _ _ hR
        have hA1 := heap_of b1 _ _ _ hA
        have ho1 := own_mono hown b1
        obtain ⟨f0, f1, f2, f3⟩ := cells4s hA1
        have hs1 := hB1.size
        clear c0 c1 d0 d1 d2 d3
        go_wp2
        go_roundw
        case rel => exact ⟨4, ao, cv, by omega, by first | rfl | simp, by rw [hpk], by rw [hpk]; exact ho1, hB1, hR1, hA1⟩
        case measure => simp [intOf]
      · rw [q] at KB hpk
        rw [if_pos rfl] at hpk
        go_wp2_with fail
        obtain ⟨F, hF1, hF2⟩ := below_fun wr
        have fr0 := fun u => cells4 (heap_of (hF1 u) _ _ _ hR) 0 _ rfl
        have fr1 := fun u => cells4 (heap_of (hF1 u) _ _ _ hR) 1 _ rfl
        have fa0 := fun u => cells4 (heap_of (hF1 u) _ _ _ hA) 0 _ rfl
        have fa1 := fun u => cells4 (heap_of (hF1 u) _ _ _ hA) 1 _ rfl
        have fa2 := fun u => cells4 (heap_of (hF1 u) _ _ _ hA) 2 _ rfl
        have fa3 := fun u => cells4 (heap_of (hF1 u) _ _ _ hA) 3 _ rfl
        refine wp_region_below F hF2 (by kernel_rfl) (by kernel_rfl) ?_
        repeat first | go_big_quiet_step (first | (go_at_call 13; exact quietF hF1 hF2 (KB.out _)) | fail) | quiet_step (first | (go_at_call 13; exact quietF hF1 hF2 (KB.out _)) | fail)
        refine wpQuiet_nil ?_
        rintro _ ⟨uW, rfl⟩
        have b1 := hF1 uW
        obtain ⟨w1, hw⟩ : ∃ V, F uW = V := ⟨_, rfl⟩
        rw [hw] at b1
        try rw [hw]
        clear hw hF1 hF2 fr0 fr1 fa0 fa1 fa2 fa3
        clear F
        have hB1 := btr hB b1
        have hR1 := heap_of b1 _ _ _ hR
        have hA1 := heap_of b1 _ _ _ hA
        have ho1 := own_mono hown b1
        obtain ⟨f0, f1, f2, f3⟩ := cells4s hA1
        have hs1 := hB1.size
        clear c0 c1 d0 d1 d2 d3
        go_wp2_with (first
          | (at_builtin; refine wpList_append_own _ rfl _ _ 36 rfl (w.heap.size + 2) 22 i0 (.int .u8 0) 1 1 Tryd.underlying36 hi hz0 hz1 hz2 rfl (by decide) _ _ _ rfl (ho1.alloc _) ⟨w1.heap.size, 0, none⟩ 1 1 [.int .u8 3] rfl rfl (cell_one_new _ _ _) (fun x hx => by simp at hx; subst hx; rfl) (by unfold maxLen; omega) (by omega) (by simp only [size_al]; have := (Array.getElem?_eq_some_iff.1 hA1).1; omega) ?_; intro v' w3 hown' hgrow3 hnil3))
        go_roundw
        case rel =>
          obtain ⟨g3, cap3, hv3⟩ : ∃ g3 cap3, v' = .slice (some ⟨g3, 0, none⟩) ((fmK N 3).length + 1) cap3 := by
            rcases hown'.2 with ⟨_, h⟩ | ⟨g3, cap3, _, h, _⟩
            · omega
            · exact ⟨g3, cap3, h⟩
          have row : ∀ (b : Nat) (c : Array Value) (T : TypeId), b < w.heap.size + 2 → w1.heap[b]? = some (.cells c T) → w3.heap[b]? = some (.cells c T) := by
            intro b c T hb hc
            have l1 := (Array.getElem?_eq_some_iff.1 hc).1
            rw [hgrow3.block b (by simp only [size_al]; omega) (fun z => by have := (ho1.lt b z.symm).1; omega)]
            exact heap_of (bal w1 _) _ _ _ hc
          have R : 4 ≤ 4 ∧ Value.int .i64 (3 + 1) = .int .i64 ((4 : Nat) : Int) ∧ v' = .slice (some ⟨g3, 0, none⟩) (fmK N 4).length cap3 ∧ w3.ownsRow (w.heap.size + 2) 22 1 v' (fmK N 4).length ((fmK N 4).map (Value.int .u8)) ∧ Below w.heap.size w w3 ∧ w3.heap[w.heap.size]? = some (.cells #[.int .u64 (x : Nat), .int .u64 (y : Nat)] 25) ∧ w3.heap[w.heap.size + 1]? = some (.cells #[.int .u8 2, .int .u8 0, .int .u8 1, .int .u8 3] 22) :=
            ⟨by omega, by first | rfl | simp, by rw [hv3, hpk]; simp, by rw [hpk, List.map_append, List.length_append]; exact hown', (hB1.alloc hs1 _).grown hgrow3 (by simp only [size_al]; omega) (fun q hq => by have := (ho1.lt q hq).1; omega), row _ _ _ (by omega) hR1, row _ _ _ (by omega) hA1⟩
          first
            | exact ⟨4, some ⟨g3, 0, none⟩, cap3, R⟩
            | ((repeat apply Exists.intro); exact ⟨⟨4, some ⟨g3, 0, none⟩, cap3, R⟩, rfl⟩)
        case measure => simp [intOf]
    · go_wp2
      go_ret
      exact ⟨_, rfl, hown, hB⟩
theorem lives22_all (CU : ∀ (f : Int) (x y N : Nat), 0 ≤ f → f ≤ 3 → x < 18446744073709551616 → y < 18446744073709551616 → y + 18446744073709551616 * x = N → ∀ u v, bv7 (ubN f N) = (u, v) → Box (∀ w, FAt w → Calls Tryd.prog 9 #[.int .u8 f, .agg #[.int .u64 (x : Nat), .int .u64 (y : Nat)]] w fun r w' => r = .returned (.tuple #[.agg #[.int .u64 (u : Nat), .int .u64 (v : Nat)], .int .i64 0]) ∧ Below w.heap.size w w')) (CU0 : ∀ (f : Int) (x y N : Nat), 3 < f → f ≤ 255 → x < 18446744073709551616 → y < 18446744073709551616 → y + 18446744073709551616 * x = N → Box (∀ w, FAt w → Calls Tryd.prog 9 #[.int .u8 f, .agg #[.int .u64 (x : Nat), .int .u64 (y : Nat)]] w fun r w' => r = .returned (.tuple #[.agg #[.int .u64 0, .int .u64 0], .int .i64 2]) ∧ Below w.heap.size w w')) (CB : ∀ (f : Int) (x y N : Nat), 0 ≤ f → f ≤ 3 → x < 18446744073709551616 → y < 18446744073709551616 → y + 18446744073709551616 * x = N → N < 2 ^ wdF f → ∀ u v, bv7 (N + abN f) = (u, v) → Box (∀ w, FAt w → Calls Tryd.prog 11 #[.int .u8 f, .agg #[.int .u64 (x : Nat), .int .u64 (y : Nat)]] w fun r w' => r = .returned (.tuple #[.agg #[.int .u64 (u : Nat), .int .u64 (v : Nat)], .int .i64 0]) ∧ Below w.heap.size w w')) (CB0 : ∀ (f : Int) (x y N : Nat), 0 ≤ f → f ≤ 255 → x < 18446744073709551616 → y < 18446744073709551616 → y + 18446744073709551616 * x = N → fitN f N = false → Box (∀ w, FAt w → Calls Tryd.prog 11 #[.int .u8 f, .agg #[.int .u64 (x : Nat), .int .u64 (y : Nat)]] w fun r w' => r = .returned (.tuple #[.agg #[.int .u64 0, .int .u64 0], .int .i64 2]) ∧ Below w.heap.size w w')) (w : World) (hT : FAt w) : Calls Tryd.prog 14 #[] w fun r w' => r = .returned (.bool true) ∧ Below w.heap.size w w' := by
  have K1 := CB 2 0 15360 15360 (by decide) (by decide) (by decide) (by decide) (by decide) (by decide +kernel) 18446744073709551615 18446744073709501440 (by decide +kernel)
  have K2 := CU 2 18446744073709551615 18446744073709501440 340282366920938463463374607431768161280 (by decide) (by decide) (by decide) (by decide) (by decide) 0 15360 (by decide +kernel)
  have K3 := CU 0 18446744073709551615 18446744073709501440 340282366920938463463374607431768161280 (by decide) (by decide) (by decide) (by decide) (by decide) 0 4294917120 (by decide +kernel)
  have K4 := CU 2 0 15360 15360 (by decide) (by decide) (by decide) (by decide) (by decide) 0 32256 (by decide +kernel)
  have K5 := CB0 2 0 65536 65536 (by decide) (by decide) (by decide) (by decide) (by decide) (by decide +kernel)
  exact r22lives 0 0 w K1 K2 K3 K4 K5 hT
end Go.Proofs.YtakmlgcnfbiagaaDoor
namespace Go.Proofs.YtakmlgcnfbiagaaDoor
set_option maxRecDepth 100000
set_option maxHeartbeats 40000000
set_option maxRecDepth 100000
open Go.RowKit Go.Shelf WMath
set_option linter.unusedVariables false
set_option linter.unusedSimpArgs false
attribute [local go_sem] Oper.semAt_some

abbrev F4 := { x : Int // Is4 x }
def fL : List F4 := [⟨2, Or.inr (Or.inr (Or.inl rfl))⟩, ⟨0, Or.inl rfl⟩, ⟨1, Or.inr (Or.inl rfl)⟩, ⟨3, Or.inr (Or.inr (Or.inr rfl))⟩]

theorem all_in (F : Fence) (n : Nat) (h : F.fn 33) (hro : F.round = none) (w : World) :
    CallsIn F n Tryd.prog 33 #[] w fun e w' => e = .returned (.func (.func 40) #[] #[]) ∧ w' = w := by
  refine callsIn_of_wp Tryd.func33 rfl h ?_ hro
  simp only [Tryd.ntmps33, List.size_toArray, List.length_cons, List.length_nil, Nat.reduceAdd, Nat.reduceSub, Array.replicate_succ, Array.replicate_zero, List.push_toArray, List.append_toArray, List.nil_append, List.cons_append]
  gi_wp2
  go_ret
  exact ⟨rfl, rfl⟩

set_option maxRecDepth 100000 in
set_option maxHeartbeats 2000000 in
theorem all1_stops (F : Fence) (n : Nat) (h : F.fn 40) (hro : F.round = none) (hn : 1 ≤ n) (w : World) :
    SeqStopsK F n Tryd.prog 40 #[] (fun x : F4 => #[Value.int .u8 x.1]) (fun _ _ => True) (fun ys => ys = fL) (fun pre => pre <+: fL) 4 w := fun l J Jx W hW hJ hJx hY h0 => by
  refine callsIn_of_wp Tryd.func40 rfl h ?_ hro
  simp only [Tryd.ntmps40, List.size_toArray, List.length_cons, List.length_nil, Nat.reduceAdd, Nat.reduceSub, Array.replicate_succ, Array.replicate_zero, List.push_toArray, List.append_toArray, List.nil_append, List.cons_append]
  gi_wp2
  gi_loopw [5] (fun i wr => ∃ k : Nat, k ≤ 4 ∧ i = .int .i64 k ∧ J (fL.take k) wr) (fun i _ => 4 - (intOf i).toNat)
  case atStart => exact ⟨0, by omega, rfl, h0⟩
  case round =>
    obtain ⟨k, hk, rfl, hJs⟩ := hrel
    by_cases hlt : k < 4
    · have h4 : k = 0 ∨ k = 1 ∨ k = 2 ∨ k = 3 := by omega
      rcases h4 with rfl | rfl | rfl | rfl
      · obtain ⟨fn, tmps, assign, body, hy, hR⟩ := hY _ ⟨2, Or.inr (Or.inr (Or.inl rfl))⟩ wr hJs (by decide)
        have hix : ∀ w : World, (Instr.index 58 (.agg #[.int .u8 2, .int .u8 0, .int .u8 1, .int .u8 3]) (.int .i64 0)).run Tryd.prog w = .ok (.int .u8 2) w := fun _ => by kernel_rfl
        try dsimp only at hy
        gi_wp2
        refine hR.mono ?_
        rintro e W3 (⟨rfl, hJ3, hk3⟩ | ⟨rfl, hJx3⟩)
        · gi_wp2
          go_roundw
          case rel => exact ⟨1, by omega, by simp, hJ3⟩
          case measure => simp [intOf]
        · gi_wp2
          refine bodyPost_ret (results_none rfl _ _ _) rfl ?_
          exact ⟨⟨_, rfl⟩, .inr ⟨_, List.take_prefix 1 fL, hJx3⟩⟩
      · obtain ⟨fn, tmps, assign, body, hy, hR⟩ := hY _ ⟨0, Or.inl rfl⟩ wr hJs (by decide)
        have hix : ∀ w : World, (Instr.index 58 (.agg #[.int .u8 2, .int .u8 0, .int .u8 1, .int .u8 3]) (.int .i64 1)).run Tryd.prog w = .ok (.int .u8 0) w := fun _ => by kernel_rfl
        try dsimp only at hy
        gi_wp2
        refine hR.mono ?_
        rintro e W3 (⟨rfl, hJ3, hk3⟩ | ⟨rfl, hJx3⟩)
        · gi_wp2
          go_roundw
          case rel => exact ⟨2, by omega, by simp, hJ3⟩
          case measure => simp [intOf]
        · gi_wp2
          refine bodyPost_ret (results_none rfl _ _ _) rfl ?_
          exact ⟨⟨_, rfl⟩, .inr ⟨_, List.take_prefix 2 fL, hJx3⟩⟩
      · obtain ⟨fn, tmps, assign, body, hy, hR⟩ := hY _ ⟨1, Or.inr (Or.inl rfl)⟩ wr hJs (by decide)
        have hix : ∀ w : World, (Instr.index 58 (.agg #[.int .u8 2, .int .u8 0, .int .u8 1, .int .u8 3]) (.int .i64 2)).run Tryd.prog w = .ok (.int .u8 1) w := fun _ => by kernel_rfl
        try dsimp only at hy
        gi_wp2
        refine hR.mono ?_
        rintro e W3 (⟨rfl, hJ3, hk3⟩ | ⟨rfl, hJx3⟩)
        · gi_wp2
          go_roundw
          case rel => exact ⟨3, by omega, by simp, hJ3⟩
          case measure => simp [intOf]
        · gi_wp2
          refine bodyPost_ret (results_none rfl _ _ _) rfl ?_
          exact ⟨⟨_, rfl⟩, .inr ⟨_, List.take_prefix 3 fL, hJx3⟩⟩
      · obtain ⟨fn, tmps, assign, body, hy, hR⟩ := hY _ ⟨3, Or.inr (Or.inr (Or.inr rfl))⟩ wr hJs (by decide)
        have hix : ∀ w : World, (Instr.index 58 (.agg #[.int .u8 2, .int .u8 0, .int .u8 1, .int .u8 3]) (.int .i64 3)).run Tryd.prog w = .ok (.int .u8 3) w := fun _ => by kernel_rfl
        try dsimp only at hy
        gi_wp2
        refine hR.mono ?_
        rintro e W3 (⟨rfl, hJ3, hk3⟩ | ⟨rfl, hJx3⟩)
        · gi_wp2
          go_roundw
          case rel => exact ⟨4, by omega, by simp, hJ3⟩
          case measure => simp [intOf]
        · gi_wp2
          refine bodyPost_ret (results_none rfl _ _ _) rfl ?_
          exact ⟨⟨_, rfl⟩, .inr ⟨_, List.take_prefix 4 fL, hJx3⟩⟩
    · obtain rfl : k = 4 := by omega
      gi_wp2
      first | go_end0 | go_ret
      exact ⟨⟨_, rfl⟩, .inl ⟨fL, rfl, hJs⟩⟩

end Go.Proofs.YtakmlgcnfbiagaaDoor
namespace Go.Proofs.YtakmlgcnfbiagaaDoor
set_option maxRecDepth 100000
set_option maxHeartbeats 40000000
set_option maxRecDepth 100000
open Go.RowKit WMath
set_option linter.unusedVariables false
structure TopK (B : Nat) (W W' : World) : Prop where
  size : W.heap.size ≤ W'.heap.size
  same : ∀ k, B ≤ k → k < W.heap.size → W'.heap[k]? = W.heap[k]?
theorem TopK.refl (B : Nat) (W : World) : TopK B W W := ⟨Nat.le_refl _, fun _ _ _ => rfl⟩
theorem TopK.trans {B : Nat} {X Y Z : World} (h : TopK B X Y) (k : TopK B Y Z) : TopK B X Z :=
  ⟨Nat.le_trans h.size k.size, fun i a b => (k.same i a (Nat.lt_of_lt_of_le b h.size)).trans (h.same i a b)⟩
theorem TopK.mono {B C : Nat} {X Y : World} (h : TopK B X Y) (c : B ≤ C) : TopK C X Y := ⟨h.size, fun i a b => h.same i (Nat.le_trans c a) b⟩
theorem TopK.grown {B : Nat} {W W' : World} {row : Option Nat} (hg : W.grownBy W' row) (hr : ∀ r, row = some r → r < B) : TopK B W W' :=
  ⟨hg.size, fun k a b => hg.block k b (fun e => by have := hr k e.symm; omega)⟩
theorem TopK.setCell {B : Nat} (W : World) (b i : Nat) (v : Value) (h : b < B) : TopK B W (W.setCell ⟨b, i, none⟩ v) := by
  refine ⟨?_, fun k a c => setCell_other (by omega)⟩
  exact ((Below.refl 0 W).setCell (p := ⟨b, i, none⟩) (Nat.zero_le _) v).size
theorem TopK.alloc {B : Nat} (W : World) (o : Obj) : TopK B W (W.alloc o) :=
  ⟨((Below.refl 0 W).alloc (Nat.zero_le _) o).size, fun k a b => Below.heap_alloc W o k b⟩
theorem TopK.putObj {B : Nat} (W : World) (l : Nat) (o : Obj) (h : l < B) : TopK B W (W.putObj l o) := .grown (grownBy_putObj' W l o) (fun r e => by cases e; exact h)
theorem TopK.below {B : Nat} {W W' : World} (h : Below W.heap.size W W') : TopK B W W' := ⟨h.size, fun k a b => h.block k b⟩
theorem TopK.keeps {B : Nat} {W W' : World} (h : TopK B W W') : KeepsFrom B W W' :=
  ⟨h.size, fun k o a hk _ => (h.same k a (Array.getElem?_eq_some_iff.1 hk).1).trans hk⟩
theorem TopK.row {B : Nat} {W W' : World} (h : TopK B W W') {k : Nat} {o : Obj} (a : B ≤ k) (hk : W.heap[k]? = some o) : W'.heap[k]? = some o := (h.same k a (Array.getElem?_eq_some_iff.1 hk).1).trans hk
def SeqTop {α : Type} (n : Nat) (P : Program) (g : Nat) (lb : Array Value) (encs : α → Array Value) (n₀ : Nat) (S Sp : List α → Prop) (N : Nat) (w : World) : Prop :=
  ∀ (l : Nat) (J Jx : List α → World → Prop) (W : World), Below w.heap.size w W → OwnFrom W.heap.size J → OwnFrom W.heap.size Jx →
    (∀ pre x V, J pre V → pre.length < N → YieldAt Fence.wide (n - 1) P l (encs x) V fun e V' => TopK W.heap.size V V' ∧
      ((e = .returned (.bool true) ∧ J (pre ++ [x]) V' ∧ Below n₀ V V') ∨ (e = .returned (.bool false) ∧ Jx (pre ++ [x]) V'))) →
    J [] W →
    CallsIn Fence.wide n P g (#[.func (.yield l) #[] #[]] ++ lb) W fun e V => (∃ v, e = .returned v) ∧ ((∃ xs, S xs ∧ J xs V) ∨ (∃ pre, Sp pre ∧ Jx pre V))

def topPost {α : Type} (B n₀ : Nat) (I : List α → World → Prop) (Ix : Code → List α → World → Prop) (xs : List α) (W : World) : Exit → Act → World → Prop
  | .normal, _, W' => TopK B W W' ∧ Below n₀ W W' ∧ I xs W'
  | .ret, _, W' => TopK B W W' ∧ Ix .ret xs W'
  | .exit id, _, W' => TopK B W W' ∧ Ix (.exit id) xs W'
  | .goto t, _, W' => TopK B W W' ∧ Ix (.goto t) xs W'
  | .panic _, _, _ => False
  | .outgrown, _, _ => False

set_option maxHeartbeats 4000000 in
theorem wp_range_top {P : Program} {n : Nat} {α : Type} {g : Operand} {ps : Array Tmp} {assign body : Code} {Q : Exit → Act → World → Prop} {a : Act} {w : World} (h1 : 1 ≤ n)
    {gf : Nat} {lb : Array Value} (hg : a.eval g = .func (.func gf) #[] lb) (eg : ∀ args w, (callFunc gf args).run P w = .ok (.enter gf args) w)
    {encs : α → Array Value} {n₀ : Nat} {S Sp : List α → Prop} {N : Nat} {w0 : World} (hseq : SeqTop (n - 1) P gf lb encs n₀ S Sp N w0) (hn : n₀ ≤ w.heap.size) (hb : Below w0.heap.size w0 w) (hps : ∀ x, (encs x).size = ps.size)
    (I : List α → World → Prop) (Ix : Code → List α → World → Prop) (hI : OwnFrom w.heap.size I) (hIx : ∀ c, OwnFrom w.heap.size (Ix c)) (h0 : I [] w) (a₁ : α → Act)
    (hassign : ∀ (l : Nat) (x : α) (W : World) (K : Act → World → Prop), K (a₁ x) W → assign.wpIn (Fence.wide.inRound l) (n - 1 - 1) P (Exit.then K (fun _ _ _ => False)) { tmps := (ps.zip (encs x)).foldl (fun t (p, v) => t.setIfInBounds p v) a.tmps, defers := [] } W)
    (hbody : ∀ (l : Nat) (pre : List α) (x : α) (W : World), I pre W → pre.length < N → body.wpIn (Fence.wide.inRound l) (n - 1 - 1) P (topPost w.heap.size n₀ I Ix (pre ++ [x]) W) (a₁ x) W)
    (hdone : ∀ (D : Nat) (xs : List α) (W : World), w.heap.size ≤ D → S xs → I xs W → W.heap[D]? = some (.deferred (some [])) → Q .normal { a with defers := { target := .collected D, args := #[] } :: a.defers } W)
    (hstop : ∀ (D : Nat) (c : Code) (pre : List α) (W : World), w.heap.size ≤ D → Sp pre → Ix c pre W → W.heap[D]? = some (.deferred (some [])) → c.wpIn Fence.wide n P Q { a with defers := { target := .collected D, args := #[] } :: a.defers } W) :
    (Code.rangeFunc g ps assign body).wpIn Fence.wide n P Q a w := by
  refine wpIn_rangeFunc (fun fn _ => ?_)
  have key : ∀ (L : LoopState → Option Code → Loop), (∀ st pe, L st pe = { state := st, pending := pe, fn, tmps := a.tmps, params := ps, assign, body, defers := w.heap.size }) → ∀ V0 : World, V0 = (w.alloc (.deferred (some []))).alloc (.loop (L .ready none)) →
      CallsIn Fence.wide (n - 1) P gf (#[.func (.yield (w.heap.size + 1)) #[] #[]] ++ lb) V0 (rangePost Fence.wide n P (w.heap.size + 1) Q { a with defers := [{ target := .collected w.heap.size, args := #[] }] ++ a.defers }) := by
    intro L hL V0 hV0
    have sz : V0.heap.size = w.heap.size + 2 := by rw [hV0]; simp only [size_al]
    have b0 : Below w.heap.size w V0 := by rw [hV0]; exact ((Below.refl _ w).alloc (Nat.le_refl _) _).alloc (by simp only [size_al]; omega) _
    have rD : V0.heap[w.heap.size]? = some (.deferred (some [])) := by
      rw [hV0]; exact (Below.heap_alloc _ _ _ (by simp only [size_al]; omega)).trans (World.alloc_heap_new w _)
    have rL : V0.heap[w.heap.size + 1]? = some (.loop (L .ready none)) := by
      have := World.alloc_heap_new (w.alloc (.deferred (some []))) (.loop (L .ready none))
      rw [size_al] at this
      rw [hV0]; exact this
    have i0 : I [] V0 := by rw [hV0]; exact hI.alloc _ (hI.alloc _ h0)
    -- the caller's word between two rounds, and behind one that has left
    have own : ∀ (o o' : Obj) (A : List α → World → Prop), OwnFrom w.heap.size A → OwnFrom V0.heap.size (fun xs W => A xs W ∧ W.heap[w.heap.size + 1]? = some o ∧ W.heap[w.heap.size]? = some o') := by
      intro o o' A hA s X Y row hs hgr hr
      refine ⟨hA s X Y row hs.1 hgr (fun r e => ⟨by have := (hr r e).1; omega, (hr r e).2⟩), ?_, ?_⟩
      · exact (hgr.block _ (Array.getElem?_eq_some_iff.1 hs.2.1).1 (fun e => by have := (hr _ e.symm).1; omega)).trans hs.2.1
      · exact (hgr.block _ (Array.getElem?_eq_some_iff.1 hs.2.2).1 (fun e => by have := (hr _ e.symm).1; omega)).trans hs.2.2
    have ownJ := own (.loop (L .ready none)) (.deferred (some [])) I hI
    have ownX : OwnFrom V0.heap.size (fun (xs : List α) W => ∃ c, Ix c xs W ∧ W.heap[w.heap.size + 1]? = some (.loop (L .done (some c))) ∧ W.heap[w.heap.size]? = some (.deferred (some []))) := by
      rintro s X Y row ⟨c, hs⟩ hgr hr
      exact ⟨c, own (.loop (L .done (some c))) (.deferred (some [])) (Ix c) (hIx c) s X Y row hs hgr hr⟩
    refine (hseq (w.heap.size + 1) _ _ V0 (hb.trans (b0.mono hb.size)) ownJ ownX ?_ ⟨i0, rL, rD⟩).mono ?_
    · rintro pre x V ⟨hi, hl, hd⟩ hlen
      have hl : V.heap[w.heap.size + 1]? = some (.loop (L .ready none)) := hl
      have hd : V.heap[w.heap.size]? = some (.deferred (some [])) := hd
      have hlt := (Array.getElem?_eq_some_iff.1 hl).1
      have hy := run_yield (P := P) (args := encs x) hl (by rw [hL]; exact hps x)
      rw [hL] at hy
      have beg := run_beginRound (P := P) hl (by rw [hL])
      obtain ⟨busy, hbusy⟩ : ∃ o, Obj.loop { L .ready none with state := .busy } = o := ⟨_, rfl⟩
      rw [hbusy] at beg
      have hl2 : (V.putObj (w.heap.size + 1) busy).heap[w.heap.size + 1]? = some busy := World.putObj_heap_same hlt
      have hd2 : (V.putObj (w.heap.size + 1) busy).heap[w.heap.size]? = some (.deferred (some [])) := (World.putObj_heap_other (by omega)).trans hd
      have hi2 : I pre (V.putObj (w.heap.size + 1) busy) := hI.putObj _ hi (by omega) hl rfl
      refine ⟨fn, _, assign, body, hy, roundIn_of_wpIn trivial (hassign _ x V _ ⟨_, beg, wpIn_mono (hbody _ pre x _ hi2 hlen) ?_⟩)⟩
      have t1 : TopK (w.heap.size + 2) V (V.putObj (w.heap.size + 1) busy) := TopK.putObj _ _ _ (by omega)
      have b1 : Below n₀ V (V.putObj (w.heap.size + 1) busy) := (Below.refl n₀ V).grown (grownBy_putObj' V _ _) (by omega) (fun k e => by cases e; omega)
      -- the record at the round's end
      have fin : ∀ (jump : Option Code) (X : World), TopK w.heap.size (V.putObj (w.heap.size + 1) busy) X → ∃ X', (Instr.endRound (w.heap.size + 1) jump).run P X = .ok (.bool jump.isNone) X' ∧ X' = X.putObj (w.heap.size + 1) (.loop (L (if jump.isNone then .ready else .done) jump)) ∧
          X.heap[w.heap.size + 1]? = some busy ∧ X'.heap[w.heap.size + 1]? = some (.loop (L (if jump.isNone then .ready else .done) jump)) ∧ X'.heap[w.heap.size]? = some (.deferred (some [])) ∧ TopK (w.heap.size + 2) V X' := by
        intro jump X tx
        have r1 := tx.row (Nat.le_succ _) hl2
        have r2 := tx.row (Nat.le_refl _) hd2
        have e := run_endRound (P := P) jump (by rw [hbusy]; exact r1)
        refine ⟨_, e, by rw [hL, hL], r1, ?_, ?_, ?_⟩
        · rw [World.putObj_heap_same (Array.getElem?_eq_some_iff.1 r1).1, hL, hL]
        · exact (World.putObj_heap_other (by omega)).trans r2
        · exact (t1.trans (tx.mono (by omega))).trans (TopK.putObj _ _ _ (by omega))
      have nb : busy.isCells = false := by rw [← hbusy]; rfl
      rintro e a3 X hp
      have left : ∀ c : Code, TopK w.heap.size (V.putObj (w.heap.size + 1) busy) X → Ix c (pre ++ [x]) X → ∃ v X', (Instr.endRound (w.heap.size + 1) (some c)).run P X = .ok v X' ∧ (TopK V0.heap.size V X' ∧ ((Ending.returned v = .returned (.bool true) ∧ (I (pre ++ [x]) X' ∧ X'.heap[w.heap.size + 1]? = some (.loop (L .ready none)) ∧ X'.heap[w.heap.size]? = some (.deferred (some []))) ∧ Below n₀ V X') ∨ (Ending.returned v = .returned (.bool false) ∧ ∃ c, Ix c (pre ++ [x]) X' ∧ X'.heap[w.heap.size + 1]? = some (.loop (L .done (some c))) ∧ X'.heap[w.heap.size]? = some (.deferred (some []))))) := by
        intro c tx hx
        obtain ⟨X', r, e', q1, q2, q3, q4⟩ := fin (some c) X tx
        refine ⟨_, _, r, by rw [sz]; exact q4, .inr ⟨rfl, c, ?_, q2, q3⟩⟩
        rw [e']
        exact (hIx c).putObj _ hx (by omega) q1 nb
      cases e with
      | normal =>
        obtain ⟨tx, bx, ix⟩ := hp
        obtain ⟨X', r, e', q1, q2, q3, q4⟩ := fin none X tx
        refine ⟨_, _, r, by rw [sz]; exact q4, .inl ⟨rfl, ⟨?_, q2, q3⟩, ?_⟩⟩
        · rw [e']
          exact hI.putObj _ ix (by omega) q1 nb
        · rw [e']
          exact (b1.trans bx).trans ((Below.refl n₀ X).grown (grownBy_putObj' X _ _) (by have := (Array.getElem?_eq_some_iff.1 q1).1; omega) (fun k e => by cases e; omega))
      | ret => exact left .ret hp.1 hp.2
      | exit id => exact left (.exit id) hp.1 hp.2
      | goto t => exact left (.goto t) hp.1 hp.2
      | panic ch => exact hp.elim
      | outgrown => exact hp.elim
    · rintro e X ⟨⟨v, rfl⟩, (⟨xs, hS, hi, hl, hd⟩ | ⟨pre, hSp, c, hi, hl, hd⟩)⟩
      · have hl : X.heap[w.heap.size + 1]? = some (.loop (L .ready none)) := hl
        refine ⟨none, _, by have := run_endLoop (P := P) hl (by rw [hL]; simp); rw [hL] at this; exact this, ?_⟩
        exact hdone _ xs _ (Nat.le_refl _) hS (hI.putObj _ hi (by omega) hl rfl) ((World.putObj_heap_other (by omega)).trans hd)
      · refine ⟨some c, _, by have := run_endLoop (P := P) hl (by rw [hL]; simp); rw [hL] at this; exact this, ?_⟩
        exact hstop _ c pre _ (Nat.le_refl _) hSp ((hIx c).putObj _ hi (by omega) hl rfl) ((World.putObj_heap_other (by omega)).trans hd)
  obtain ⟨V0, hV0⟩ : ∃ V0, (w.alloc (.deferred (some []))).alloc (.loop { state := .ready, pending := none, fn, tmps := a.tmps, params := ps, assign, body, defers := w.heap.size }) = V0 := ⟨_, rfl⟩
  have last := key (fun st pe => { state := st, pending := pe, fn, tmps := a.tmps, params := ps, assign, body, defers := w.heap.size }) (fun _ _ => rfl) V0 hV0.symm
  clear key
  obtain ⟨tg, htg⟩ : ∃ tg : Deferred, tg = { target := .fn (.func gf) lb, args := #[.func (.yield (w.heap.size + 1)) #[] #[]] } := ⟨_, rfl⟩
  have e1 : (Instr.enterLoop fn a.tmps ps assign body none).run P w = .ok (w.heap.size + 1, [{ target := .collected w.heap.size, args := #[] }]) V0 := by
    rw [← hV0]
    exact run_enterLoop_outer _ _ _ _ _
  have e2 : (resolve a.eval (rangeCall g (w.heap.size + 1)) 0).run P V0 = .ok tg V0 := by
    rw [htg]
    simp only [resolve, hg]
    simp [go_sem]
  have e3 : (invoke tg.target tg.args).run P V0 = .ok (.enter gf (#[.func (.yield (w.heap.size + 1)) #[] #[]] ++ lb)) V0 := by
    rw [htg]
    simp [invoke, go_sem, eg]
  exact ⟨_, _, _, _, _, _, _, _, e1, e2, fun _ _ => trivial, e3, fun _ => h1, last⟩
end Go.Proofs.YtakmlgcnfbiagaaDoor
