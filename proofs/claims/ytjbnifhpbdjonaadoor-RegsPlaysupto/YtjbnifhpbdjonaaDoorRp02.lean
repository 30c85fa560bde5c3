/-
  What the functions that the statement reaches return: part 2 (JA).
-/
import Derived.Test.YtjbnifhpbdjonaaDoorRp01
namespace Go.Proofs.YtjbnifhpbdjonaaDoor
set_option maxRecDepth 100000
set_option maxHeartbeats 40000000
set_option maxRecDepth 100000
open Go.RowKit WMath
set_option linter.unusedSimpArgs false
set_option linter.unusedVariables false
theorem bel_st {P : Program} {k : FuncId} {a : Array Value} {w : World} {v : Value} (h : Calls P k a w fun r w' => r = .returned v ∧ w' = w) : Calls P k a w fun r w' => r = .returned v ∧ Below w.heap.size w w' := h.mono fun _ _ q => ⟨q.1, by rw [q.2]; exact Below.refl _ _⟩
theorem bv_hi (x y k : Nat) (hy : y < 18446744073709551616) (hk : 64 ≤ k) : (y + 18446744073709551616 * x).testBit k = x.testBit (k - 64) := by
  rw [Nat.testBit_eq_decide_div_mod_eq, Nat.testBit_eq_decide_div_mod_eq]
  have e : (2 : Nat) ^ k = 18446744073709551616 * 2 ^ (k - 64) := by rw [show (18446744073709551616 : Nat) = 2 ^ 64 from rfl, ← Nat.pow_add, show 64 + (k - 64) = k by omega]
  rw [e, ← Nat.div_div_eq_div_mul, Nat.add_mul_div_left _ _ (by decide), Nat.div_eq_of_lt hy, Nat.zero_add]
theorem bv_lo (x y k : Nat) (hy : y < 18446744073709551616) (hk : k < 64) : (y + 18446744073709551616 * x).testBit k = y.testBit k := by
  have a := Nat.testBit_mod_two_pow (y + 18446744073709551616 * x) 64 k
  rw [decide_eq_true hk, Bool.true_and] at a
  rw [← a]
  congr 1
  omega
theorem r22_w_h (w : World) : Calls Tryd.prog 54 #[.int .u8 2] w fun e w' => e = .returned (.int .i64 16) ∧ w' = w := by
  go_enter Tryd.func54, Tryd.ntmps54
  go_wp2
  go_ret
  exact ⟨rfl, rfl⟩
theorem r22_w_s (w : World) : Calls Tryd.prog 54 #[.int .u8 0] w fun e w' => e = .returned (.int .i64 32) ∧ w' = w := by
  go_enter Tryd.func54, Tryd.ntmps54
  go_wp2
  go_ret
  exact ⟨rfl, rfl⟩
theorem r22_w_d (w : World) : Calls Tryd.prog 54 #[.int .u8 1] w fun e w' => e = .returned (.int .i64 64) ∧ w' = w := by
  go_enter Tryd.func54, Tryd.ntmps54
  go_wp2
  go_ret
  exact ⟨rfl, rfl⟩
theorem r22_w_q (w : World) : Calls Tryd.prog 54 #[.int .u8 3] w fun e w' => e = .returned (.int .i64 128) ∧ w' = w := by
  go_enter Tryd.func54, Tryd.ntmps54
  go_wp2
  go_ret
  exact ⟨rfl, rfl⟩
theorem r22_w_n (f : Int) (f0 : (f == 0) = false) (f1 : (f == 1) = false) (f2 : (f == 2) = false) (f3 : (f == 3) = false) (w : World) : Calls Tryd.prog 54 #[.int .u8 f] w fun e w' => e = .returned (.int .i64 0) ∧ w' = w := by
  go_enter Tryd.func54, Tryd.ntmps54
  go_wp2
  go_ret
  exact ⟨rfl, rfl⟩
def wdF (f : Int) : Nat := if f = 0 then 32 else if f = 1 then 64 else if f = 2 then 16 else if f = 3 then 128 else 0
theorem r22_w (f : Int) (w : World) : Calls Tryd.prog 54 #[.int .u8 f] w fun e w' => e = .returned (.int .i64 ((wdF f : Nat) : Int)) ∧ w' = w := by
  unfold wdF
  by_cases c0 : f = 0
  · subst c0; exact r22_w_s w
  by_cases c1 : f = 1
  · subst c1; exact r22_w_d w
  by_cases c2 : f = 2
  · subst c2; exact r22_w_h w
  by_cases c3 : f = 3
  · subst c3; exact r22_w_q w
  rw [if_neg c0, if_neg c1, if_neg c2, if_neg c3]
  exact r22_w_n f (beq_eq_false_iff_ne.2 c0) (beq_eq_false_iff_ne.2 c1) (beq_eq_false_iff_ne.2 c2) (beq_eq_false_iff_ne.2 c3) w
set_option maxRecDepth 100000 in
set_option maxHeartbeats 8000000 in
theorem r22_bit_lo (x y k : Nat) (hy : y < 18446744073709551616) (hk : k < 64) (o : Bool) (ho : y.testBit k = o) (w : World) : Calls Tryd.prog 69 #[.agg #[.int .u64 (x : Nat), .int .u64 (y : Nat)], .int .i64 (k : Nat)] w fun r w' => r = .returned (.bool o) ∧ Below w.heap.size w w' := by
  have hb : (bits .and .u64 ((y : Int) / 2 ^ k) 1 == 1) = o := by
    have := bits_and_u64_nat (y / 2 ^ k) 1 (Nat.lt_of_le_of_lt (Nat.div_le_self _ _) hy) (by omega)
    rw [← div_cast] at this
    rw [← ho, show ((1 : Nat) : Int) = 1 from rfl] at *
    rw [this, ← bit_and, Bool.eq_iff_iff]
    simp only [beq_iff_eq]
    omega
  have hl : decide ((k : Int) < 64) = true := decide_eq_true (by omega)
  clear ho
  obtain ⟨Rb_0, B0⟩ := opn1 w (Obj.cells #[.int .u64 (x : Nat), .int .u64 (y : Nat)] 25)
  go_enter Tryd.func69, Tryd.ntmps69
  obtain ⟨cb_0_0, cb_0_1⟩ := cells2s Rb_0
  go_wp2
  go_ret
  exact ⟨rfl, B0⟩
set_option maxRecDepth 100000 in
set_option maxHeartbeats 8000000 in
theorem r22_bit_hi (x y k j : Nat) (hx : x < 18446744073709551616) (hj : (k : Int) - 64 = (j : Int)) (hk : k < 128) (o : Bool) (ho : x.testBit j = o) (w : World) : Calls Tryd.prog 69 #[.agg #[.int .u64 (x : Nat), .int .u64 (y : Nat)], .int .i64 (k : Nat)] w fun r w' => r = .returned (.bool o) ∧ Below w.heap.size w w' := by
  have hb : (bits .and .u64 ((x : Int) / 2 ^ j) 1 == 1) = o := by
    have := bits_and_u64_nat (x / 2 ^ j) 1 (Nat.lt_of_le_of_lt (Nat.div_le_self _ _) hx) (by omega)
    rw [← div_cast] at this
    rw [← ho, show ((1 : Nat) : Int) = 1 from rfl] at *
    rw [this, ← bit_and, Bool.eq_iff_iff]
    simp only [beq_iff_eq]
    omega
  have hl : decide ((k : Int) < 64) = false := decide_eq_false (by omega)
  have hw : wrap64 ((k : Int) - 64) = (j : Int) := by unfold wrap64; omega
  clear ho
  obtain ⟨Rb_0, B0⟩ := opn1 w (Obj.cells #[.int .u64 (x : Nat), .int .u64 (y : Nat)] 25)
  go_enter Tryd.func69, Tryd.ntmps69
  obtain ⟨cb_0_0, cb_0_1⟩ := cells2s Rb_0
  go_wp2
  go_ret
  exact ⟨rfl, B0⟩
set_option maxRecDepth 100000 in
set_option maxHeartbeats 8000000 in
theorem r22_with_lo (x y k t : Nat) (hk : k < 64) (ht : bits .or .u64 (y : Int) (IntKind.u64.wrap (2 ^ k)) = (t : Int)) (w : World) : Calls Tryd.prog 70 #[.agg #[.int .u64 (x : Nat), .int .u64 (y : Nat)], .int .i64 (k : Nat)] w fun r w' => r = .returned (.agg #[.int .u64 (x : Nat), .int .u64 (t : Nat)]) ∧ Below w.heap.size w w' := by
  have hl : decide ((k : Int) < 64) = true := decide_eq_true (by omega)
  obtain ⟨Rb_0, Rz_0, B0⟩ := opn2 w (Obj.cells #[.int .u64 (x : Nat), .int .u64 (y : Nat)] 25) (Obj.cells #[.int .u64 0, .int .u64 0] 25)
  go_enter Tryd.func70, Tryd.ntmps70
  obtain ⟨cb_0_0, cb_0_1⟩ := cells2s Rb_0
  obtain ⟨cz_0_0, cz_0_1⟩ := cells2s Rz_0
  go_wp2_with fail
  obtain ⟨w1, hw1⟩ : ∃ V, ((w.alloc (Obj.cells #[.int .u64 (x : Nat), .int .u64 (y : Nat)] 25)).alloc (Obj.cells #[.int .u64 0, .int .u64 0] 25)) = V := ⟨_, rfl⟩
  have Rb_1 := Rb_0
  have Rz_1 := Rz_0
  have B1 := B0
  rw [hw1] at B1 Rb_1 Rz_1 ⊢
  clear hw1 B0 Rb_0 cb_0_0 cb_0_1 Rz_0 cz_0_0 cz_0_1
  obtain ⟨cb_1_0, cb_1_1⟩ := cells2s Rb_1
  obtain ⟨cz_1_0, cz_1_1⟩ := cells2s Rz_1
  have sT : Box (∀ (W : World) (xA : Value), (Below w.heap.size w W ∧ W.heap[w.heap.size + 1]? = some (Obj.cells #[.int .u64 0, .int .u64 0] 25)) → (Below w.heap.size w (W.setCell ⟨w.heap.size, 1, none⟩ xA) ∧ (W.setCell ⟨w.heap.size, 1, none⟩ xA).heap[w.heap.size + 1]? = some (Obj.cells #[.int .u64 0, .int .u64 0] 25))) := box (fun W xA h => ⟨Below.setCell h.1 (show w.heap.size ≤ w.heap.size by first | exact Nat.le_refl _ | omega | (skip; omega)) xA, (setCell_other (by first | omega | (skip; omega))).trans h.2⟩)
  have s0 : Below w.heap.size w w1 ∧ w1.heap[w.heap.size + 1]? = some (Obj.cells #[.int .u64 0, .int .u64 0] 25) := ⟨B1, Rz_1⟩
  have rz : w1.heap[w.heap.size]? = some (Obj.cells #[.int .u64 (x : Nat), .int .u64 (y : Nat)] 25) := Rb_1
  have hqz := fz (k := 1) rz
  obtain ⟨hz0, hz1⟩ := cells2s rz
  go_wp2_with fail
  go_region
  have s2 : Below w.heap.size w (w1.setCell ⟨w.heap.size, 1, none⟩ (.int .u64 (t : Nat))) ∧ (w1.setCell ⟨w.heap.size, 1, none⟩ (.int .u64 (t : Nat))).heap[w.heap.size + 1]? = some (Obj.cells #[.int .u64 0, .int .u64 0] 25) := sT.out _ _ s0
  have Rb_2 : ((w1.setCell ⟨w.heap.size, 1, none⟩ (.int .u64 (t : Nat))).drew).heap[w.heap.size]? = some (Obj.cells #[.int .u64 (x : Nat), .int .u64 (t : Nat)] 25) := (by rw [setCell_row rz]; rfl : (w1.setCell ⟨w.heap.size, 1, none⟩ (.int .u64 (t : Nat))).heap[w.heap.size]? = some (Obj.cells #[.int .u64 (x : Nat), .int .u64 (t : Nat)] 25))
  have B2 : Below w.heap.size w ((w1.setCell ⟨w.heap.size, 1, none⟩ (.int .u64 (t : Nat))).drew) := (And.left s2).drew
  have Rz_2 : ((w1.setCell ⟨w.heap.size, 1, none⟩ (.int .u64 (t : Nat))).drew).heap[w.heap.size + 1]? = some (Obj.cells #[.int .u64 0, .int .u64 0] 25) := s2.2
  obtain ⟨w2, hw2⟩ : ∃ V, ((w1.setCell ⟨w.heap.size, 1, none⟩ (.int .u64 (t : Nat))).drew) = V := ⟨_, rfl⟩
  rw [hw2] at B2 Rb_2 Rz_2 ⊢
  clear hw2 sT s0 s2 rz hqz hz0 hz1 B1 Rb_1 cb_1_0 cb_1_1 Rz_1 cz_1_0 cz_1_1
  obtain ⟨cb_2_0, cb_2_1⟩ := cells2s Rb_2
  obtain ⟨cz_2_0, cz_2_1⟩ := cells2s Rz_2
  have q0 := fz (k := 0) Rz_2
  have q1 := fz (k := 1) Rz_2
  obtain ⟨E0, E1⟩ := set2_cells Rz_2 (.int .u64 (x : Nat)) (.int .u64 (t : Nat))
  go_wp2
  exact bodyPost_ret (v := .agg #[.int .u64 (x : Nat), .int .u64 (t : Nat)]) (by simp [results, Tryd.results70, go_sem, E0, E1]) rfl ⟨rfl, set2_below B2 (by first | exact Nat.le_refl _ | omega | (skip; omega)) _ _⟩
set_option maxRecDepth 100000 in
set_option maxHeartbeats 8000000 in
theorem r22_with_hi (x y k j t : Nat) (hj : (k : Int) - 64 = (j : Int)) (hk : k < 128) (ht : bits .or .u64 (x : Int) (IntKind.u64.wrap (2 ^ j)) = (t : Int)) (w : World) : Calls Tryd.prog 70 #[.agg #[.int .u64 (x : Nat), .int .u64 (y : Nat)], .int .i64 (k : Nat)] w fun r w' => r = .returned (.agg #[.int .u64 (t : Nat), .int .u64 (y : Nat)]) ∧ Below w.heap.size w w' := by
  have hl : decide ((k : Int) < 64) = false := decide_eq_false (by omega)
  have hw : wrap64 ((k : Int) - 64) = (j : Int) := by unfold wrap64; omega
  obtain ⟨Rb_0, Rz_0, B0⟩ := opn2 w (Obj.cells #[.int .u64 (x : Nat), .int .u64 (y : Nat)] 25) (Obj.cells #[.int .u64 0, .int .u64 0] 25)
  go_enter Tryd.func70, Tryd.ntmps70
  obtain ⟨cb_0_0, cb_0_1⟩ := cells2s Rb_0
  obtain ⟨cz_0_0, cz_0_1⟩ := cells2s Rz_0
  go_wp2_with fail
  obtain ⟨w1, hw1⟩ : ∃ V, ((w.alloc (Obj.cells #[.int .u64 (x : Nat), .int .u64 (y : Nat)] 25)).alloc (Obj.cells #[.int .u64 0, .int .u64 0] 25)) = V := ⟨_, rfl⟩
  have Rb_1 := Rb_0
  have Rz_1 := Rz_0
  have B1 := B0
  rw [hw1] at B1 Rb_1 Rz_1 ⊢
  clear hw1 B0 Rb_0 cb_0_0 cb_0_1 Rz_0 cz_0_0 cz_0_1
  obtain ⟨cb_1_0, cb_1_1⟩ := cells2s Rb_1
  obtain ⟨cz_1_0, cz_1_1⟩ := cells2s Rz_1
  have sT : Box (∀ (W : World) (xA : Value), (Below w.heap.size w W ∧ W.heap[w.heap.size + 1]? = some (Obj.cells #[.int .u64 0, .int .u64 0] 25)) → (Below w.heap.size w (W.setCell ⟨w.heap.size, 0, none⟩ xA) ∧ (W.setCell ⟨w.heap.size, 0, none⟩ xA).heap[w.heap.size + 1]? = some (Obj.cells #[.int .u64 0, .int .u64 0] 25))) := box (fun W xA h => ⟨Below.setCell h.1 (show w.heap.size ≤ w.heap.size by first | exact Nat.le_refl _ | omega | (skip; omega)) xA, (setCell_other (by first | omega | (skip; omega))).trans h.2⟩)
  have s0 : Below w.heap.size w w1 ∧ w1.heap[w.heap.size + 1]? = some (Obj.cells #[.int .u64 0, .int .u64 0] 25) := ⟨B1, Rz_1⟩
  have rz : w1.heap[w.heap.size]? = some (Obj.cells #[.int .u64 (x : Nat), .int .u64 (y : Nat)] 25) := Rb_1
  have hqz := fz (k := 0) rz
  obtain ⟨hz0, hz1⟩ := cells2s rz
  go_wp2_with fail
  go_region
  have s2 : Below w.heap.size w (w1.setCell ⟨w.heap.size, 0, none⟩ (.int .u64 (t : Nat))) ∧ (w1.setCell ⟨w.heap.size, 0, none⟩ (.int .u64 (t : Nat))).heap[w.heap.size + 1]? = some (Obj.cells #[.int .u64 0, .int .u64 0] 25) := sT.out _ _ s0
  have Rb_2 : ((w1.setCell ⟨w.heap.size, 0, none⟩ (.int .u64 (t : Nat))).drew).heap[w.heap.size]? = some (Obj.cells #[.int .u64 (t : Nat), .int .u64 (y : Nat)] 25) := (by rw [setCell_row rz]; rfl : (w1.setCell ⟨w.heap.size, 0, none⟩ (.int .u64 (t : Nat))).heap[w.heap.size]? = some (Obj.cells #[.int .u64 (t : Nat), .int .u64 (y : Nat)] 25))
  have B2 : Below w.heap.size w ((w1.setCell ⟨w.heap.size, 0, none⟩ (.int .u64 (t : Nat))).drew) := (And.left s2).drew
  have Rz_2 : ((w1.setCell ⟨w.heap.size, 0, none⟩ (.int .u64 (t : Nat))).drew).heap[w.heap.size + 1]? = some (Obj.cells #[.int .u64 0, .int .u64 0] 25) := s2.2
  obtain ⟨w2, hw2⟩ : ∃ V, ((w1.setCell ⟨w.heap.size, 0, none⟩ (.int .u64 (t : Nat))).drew) = V := ⟨_, rfl⟩
  rw [hw2] at B2 Rb_2 Rz_2 ⊢
  clear hw2 sT s0 s2 rz hqz hz0 hz1 B1 Rb_1 cb_1_0 cb_1_1 Rz_1 cz_1_0 cz_1_1
  obtain ⟨cb_2_0, cb_2_1⟩ := cells2s Rb_2
  obtain ⟨cz_2_0, cz_2_1⟩ := cells2s Rz_2
  have q0 := fz (k := 0) Rz_2
  have q1 := fz (k := 1) Rz_2
  obtain ⟨E0, E1⟩ := set2_cells Rz_2 (.int .u64 (t : Nat)) (.int .u64 (y : Nat))
  go_wp2
  exact bodyPost_ret (v := .agg #[.int .u64 (t : Nat), .int .u64 (y : Nat)]) (by simp [results, Tryd.results70, go_sem, E0, E1]) rfl ⟨rfl, set2_below B2 (by first | exact Nat.le_refl _ | omega | (skip; omega)) _ _⟩
theorem or_add {y k : Nat} (h : y < 2 ^ k) (hk : k < 64) : bits .or .u64 (y : Int) (IntKind.u64.wrap (2 ^ k)) = ((y + 2 ^ k : Nat) : Int) := by
  have p : 2 ^ k < 18446744073709551616 := Nat.pow_lt_pow_right (show 1 < 2 by decide) (show k < 64 from hk)
  have e : ((2 ^ k : Nat) : Int) = (2 : Int) ^ k := Int.natCast_pow 2 k
  have w : IntKind.u64.wrap ((2 : Int) ^ k) = ((2 ^ k : Nat) : Int) := by
    rw [← e, show ∀ y : Int, IntKind.u64.wrap y = y % 18446744073709551616 from fun _ => rfl]
    omega
  rw [w, bits_or_u64_nat _ _ (Nat.lt_trans h p) p, Nat.or_comm]
  have := Nat.two_pow_add_eq_or_of_lt h 1
  rw [Nat.mul_one] at this
  rw [← this, Nat.add_comm]
theorem r22_bit (x y N k : Nat) (hx : x < 18446744073709551616) (hy : y < 18446744073709551616) (hN : y + 18446744073709551616 * x = N) (hk : k < 128) (o : Bool) (ho : N.testBit k = o) (w : World) : Calls Tryd.prog 69 #[.agg #[.int .u64 (x : Nat), .int .u64 (y : Nat)], .int .i64 (k : Nat)] w fun r w' => r = .returned (.bool o) ∧ Below w.heap.size w w' := by
  subst hN
  by_cases c : k < 64
  · rw [bv_lo x y k hy c] at ho
    exact r22_bit_lo x y k hy c o ho w
  · rw [bv_hi x y k hy (by omega)] at ho
    exact r22_bit_hi x y k (k - 64) hx (by omega) hk o ho w
theorem r22_with (x y N k u v : Nat) (hx : x < 18446744073709551616) (hy : y < 18446744073709551616) (hN : y + 18446744073709551616 * x = N) (hk : k < 128) (hl : N < 2 ^ k) (hu : bv7 (N + 2 ^ k) = (u, v)) (w : World) : Calls Tryd.prog 70 #[.agg #[.int .u64 (x : Nat), .int .u64 (y : Nat)], .int .i64 (k : Nat)] w fun r w' => r = .returned (.agg #[.int .u64 (u : Nat), .int .u64 (v : Nat)]) ∧ Below w.heap.size w w' := by
  subst hN
  unfold bv7 at hu
  by_cases c : k < 64
  · have p : 2 ^ k < 18446744073709551616 := Nat.pow_lt_pow_right (show 1 < 2 by decide) (show k < 64 from c)
    have p2 : 2 ^ k ≤ 9223372036854775808 := Nat.pow_le_pow_right (show 0 < 2 by decide) (show k ≤ 63 by omega)
    obtain rfl : x = 0 := by omega
    injection hu with h1 h2
    obtain rfl : u = 0 := by omega
    have e : v = y + 2 ^ k := by omega
    rw [e]
    exact r22_with_lo 0 y k _ c (or_add (by omega) c) w
  · have e : (2 : Nat) ^ k = 18446744073709551616 * 2 ^ (k - 64) := by rw [show (18446744073709551616 : Nat) = 2 ^ 64 from rfl, ← Nat.pow_add, show 64 + (k - 64) = k by omega]
    obtain ⟨P, hP⟩ : ∃ P, 2 ^ (k - 64) = P := ⟨_, rfl⟩
    rw [e, hP] at hl hu
    have lx : x < 2 ^ (k - 64) := by rw [hP]; omega
    injection hu with h1 h2
    have e1 : u = x + P := by omega
    have e2 : v = y := by omega
    rw [e1, e2, ← hP]
    exact r22_with_hi x y k (k - 64) _ (by omega) hk (or_add lx (by omega)) w
end Go.Proofs.YtjbnifhpbdjonaaDoor
