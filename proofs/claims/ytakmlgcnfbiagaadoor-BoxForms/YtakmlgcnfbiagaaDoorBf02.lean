/-
  What the functions that the statement reaches return: part 2 (JA, JB).
-/
import Derived.Test.YtakmlgcnfbiagaaDoorBf01
namespace Go.Proofs.YtakmlgcnfbiagaaDoor
set_option maxRecDepth 100000
set_option maxHeartbeats 40000000
set_option maxRecDepth 100000
open Go.RowKit WMath
set_option linter.unusedSimpArgs false
set_option linter.unusedVariables false
theorem bel_st {P : Program} {k : FuncId} {a : Array Value} {w : World} {v : Value} (h : Calls P k a w fun r w' => r = .returned v ∧ w' = w) : Calls P k a w fun r w' => r = .returned v ∧ Below w.heap.size w w' := h.mono fun _ _ q => ⟨q.1, by rw [q.2]; exact Below.refl _ _⟩
theorem bv_hi (x y k : Nat) (hy : y < 18446744073709551616) (hk : 64 ≤ k) : (y + 18446744073709551616 * x).testBit k = x.testBit (k - 64) := by
  rw [Nat.testBit_eq_decide_div_mod_eq, Nat.testBit_eq_decide_div_mod_eq]
  have e : (2 : Nat) ^ k = 18446744073709551616 * 2 ^ (k - 64) := by rw [show (18446744073709551616 : Nat) = 2 ^ 64 from rfl, ← Nat.pow_add, show 64 + (k - 64) = k by omega]
  rw [e, ← Nat.div_div_eq_div_mul, Nat.add_mul_div_left _ _ (by decide), Nat.div_eq_of_lt hy, Nat.zero_add]
theorem bv_lo (x y k : Nat) (hy : y < 18446744073709551616) (hk : k < 64) : (y + 18446744073709551616 * x).testBit k = y.testBit k := by
  have a := Nat.testBit_mod_two_pow (y + 18446744073709551616 * x) 64 k
  rw [decide_eq_true hk, Bool.true_and] at a
  rw [← a]
  congr 1
  omega
theorem r22_w_h (w : World) : Calls Tryd.prog 7 #[.int .u8 2] w fun e w' => e = .returned (.int .i64 16) ∧ w' = w := by
  go_enter Tryd.func7, Tryd.ntmps7
  go_wp2
  go_ret
  exact ⟨rfl, rfl⟩
theorem r22_w_s (w : World) : Calls Tryd.prog 7 #[.int .u8 0] w fun e w' => e = .returned (.int .i64 32) ∧ w' = w := by
  go_enter Tryd.func7, Tryd.ntmps7
  go_wp2
  go_ret
  exact ⟨rfl, rfl⟩
theorem r22_w_d (w : World) : Calls Tryd.prog 7 #[.int .u8 1] w fun e w' => e = .returned (.int .i64 64) ∧ w' = w := by
  go_enter Tryd.func7, Tryd.ntmps7
  go_wp2
  go_ret
  exact ⟨rfl, rfl⟩
theorem r22_w_q (w : World) : Calls Tryd.prog 7 #[.int .u8 3] w fun e w' => e = .returned (.int .i64 128) ∧ w' = w := by
  go_enter Tryd.func7, Tryd.ntmps7
  go_wp2
  go_ret
  exact ⟨rfl, rfl⟩
theorem r22_w_n (f : Int) (f0 : (f == 0) = false) (f1 : (f == 1) = false) (f2 : (f == 2) = false) (f3 : (f == 3) = false) (w : World) : Calls Tryd.prog 7 #[.int .u8 f] w fun e w' => e = .returned (.int .i64 0) ∧ w' = w := by
  go_enter Tryd.func7, Tryd.ntmps7
  go_wp2
  go_ret
  exact ⟨rfl, rfl⟩
def wdF (f : Int) : Nat := if f = 0 then 32 else if f = 1 then 64 else if f = 2 then 16 else if f = 3 then 128 else 0
theorem r22_w (f : Int) (w : World) : Calls Tryd.prog 7 #[.int .u8 f] w fun e w' => e = .returned (.int .i64 ((wdF f : Nat) : Int)) ∧ w' = w := by
  unfold wdF
  by_cases c0 : f = 0
  · subst c0; exact r22_w_s w
  by_cases c1 : f = 1
  · subst c1; exact r22_w_d w
  by_cases c2 : f = 2
  · subst c2; exact r22_w_h w
  by_cases c3 : f = 3
  · subst c3; exact r22_w_q w
  rw [if_neg c0, if_neg c1, if_neg c2, if_neg c3]
  exact r22_w_n f (beq_eq_false_iff_ne.2 c0) (beq_eq_false_iff_ne.2 c1) (beq_eq_false_iff_ne.2 c2) (beq_eq_false_iff_ne.2 c3) w
set_option maxRecDepth 100000 in
set_option maxHeartbeats 8000000 in
theorem r22_bit_lo (x y k : Nat) (hy : y < 18446744073709551616) (hk : k < 64) (o : Bool) (ho : y.testBit k = o) (w : World) : Calls Tryd.prog 29 #[.agg #[.int .u64 (x : Nat), .int .u64 (y : Nat)], .int .i64 (k : Nat)] w fun r w' => r = .returned (.bool o) ∧ Below w.heap.size w w' := by
  have hb : (bits .and .u64 ((y : Int) / 2 ^ k) 1 == 1) = o := by
    have := bits_and_u64_nat (y / 2 ^ k) 1 (Nat.lt_of_le_of_lt (Nat.div_le_self _ _) hy) (by omega)
    rw [← div_cast] at this
    rw [← ho, show ((1 : Nat) : Int) = 1 from rfl] at *
    rw [this, ← bit_and, Bool.eq_iff_iff]
    simp only [beq_iff_eq]
    omega
  have hl : decide ((k : Int) < 64) = true := decide_eq_true (by omega)
  clear ho
  obtain ⟨Rb_0, B0⟩ := opn1 w (Obj.cells #[.int .u64 (x : Nat), .int .u64 (y : Nat)] 25)
  go_enter Tryd.func29, Tryd.ntmps29
  obtain ⟨cb_0_0, cb_0_1⟩ := cells2s Rb_0
  go_wp2
  go_ret
  exact ⟨rfl, B0⟩
set_option maxRecDepth 100000 in
set_option maxHeartbeats 8000000 in
theorem r22_bit_hi (x y k j : Nat) (hx : x < 18446744073709551616) (hj : (k : Int) - 64 = (j : Int)) (hk : k < 128) (o : Bool) (ho : x.testBit j = o) (w : World) : Calls Tryd.prog 29 #[.agg #[.int .u64 (x : Nat), .int .u64 (y : Nat)], .int .i64 (k : Nat)] w fun r w' => r = .returned (.bool o) ∧ Below w.heap.size w w' := by
  have hb : (bits .and .u64 ((x : Int) / 2 ^ j) 1 == 1) = o := by
    have := bits_and_u64_nat (x / 2 ^ j) 1 (Nat.lt_of_le_of_lt (Nat.div_le_self _ _) hx) (by omega)
    rw [← div_cast] at this
    rw [← ho, show ((1 : Nat) : Int) = 1 from rfl] at *
    rw [this, ← bit_and, Bool.eq_iff_iff]
    simp only [beq_iff_eq]
    omega
  have hl : decide ((k : Int) < 64) = false := decide_eq_false (by omega)
  have hw : wrap64 ((k : Int) - 64) = (j : Int) := by unfold wrap64; omega
  clear ho
  obtain ⟨Rb_0, B0⟩ := opn1 w (Obj.cells #[.int .u64 (x : Nat), .int .u64 (y : Nat)] 25)
  go_enter Tryd.func29, Tryd.ntmps29
  obtain ⟨cb_0_0, cb_0_1⟩ := cells2s Rb_0
  go_wp2
  go_ret
  exact ⟨rfl, B0⟩
set_option maxRecDepth 100000 in
set_option maxHeartbeats 8000000 in
theorem r22_with_lo (x y k t : Nat) (hk : k < 64) (ht : bits .or .u64 (y : Int) (IntKind.u64.wrap (2 ^ k)) = (t : Int)) (w : World) : Calls Tryd.prog 30 #[.agg #[.int .u64 (x : Nat), .int .u64 (y : Nat)], .int .i64 (k : Nat)] w fun r w' => r = .returned (.agg #[.int .u64 (x : Nat), .int .u64 (t : Nat)]) ∧ Below w.heap.size w w' := by
  have hl : decide ((k : Int) < 64) = true := decide_eq_true (by omega)
  obtain ⟨Rb_0, Rz_0, B0⟩ := opn2 w (Obj.cells #[.int .u64 (x : Nat), .int .u64 (y : Nat)] 25) (Obj.cells #[.int .u64 0, .int .u64 0] 25)
  go_enter Tryd.func30, Tryd.ntmps30
  obtain ⟨cb_0_0, cb_0_1⟩ := cells2s Rb_0
  obtain ⟨cz_0_0, cz_0_1⟩ := cells2s Rz_0
  go_wp2_with fail
  obtain ⟨w1, hw1⟩ : ∃ V, ((w.alloc (Obj.cells #[.int .u64 (x : Nat), .int .u64 (y : Nat)] 25)).alloc (Obj.cells #[.int .u64 0, .int .u64 0] 25)) = V := ⟨_, rfl⟩
  have Rb_1 := Rb_0
  have Rz_1 := Rz_0
  have B1 := B0
  rw [hw1] at B1 Rb_1 Rz_1 ⊢
  clear hw1 B0 Rb_0 cb_0_0 cb_0_1 Rz_0 cz_0_0 cz_0_1
  obtain ⟨cb_1_0, cb_1_1⟩ := cells2s Rb_1
  obtain ⟨cz_1_0, cz_1_1⟩ := cells2s Rz_1
  have sT : Box (∀ (W : World) (xA : Value), (Below w.heap.size w W ∧ W.heap[w.heap.size + 1]? = some (Obj.cells #[.int .u64 0, .int .u64 0] 25)) → (Below w.heap.size w (W.setCell ⟨w.heap.size, 1, none⟩ xA) ∧ (W.setCell ⟨w.heap.size, 1, none⟩ xA).heap[w.heap.size + 1]? = some (Obj.cells #[.int .u64 0, .int .u64 0] 25))) := box (fun W xA h => ⟨Below.setCell h.1 (show w.heap.size ≤ w.heap.size by first | exact Nat.le_refl _ | omega | (skip; omega)) xA, (setCell_other (by first | omega | (skip; omega))).trans h.2⟩)
  have s0 : Below w.heap.size w w1 ∧ w1.heap[w.heap.size + 1]? = some (Obj.cells #[.int .u64 0, .int .u64 0] 25) := ⟨B1, Rz_1⟩
  have rz : w1.heap[w.heap.size]? = some (Obj.cells #[.int .u64 (x : Nat), .int .u64 (y : Nat)] 25) := Rb_1
  have hqz := fz (k := 1) rz
  obtain ⟨hz0, hz1⟩ := cells2s rz
  go_wp2_with fail
  go_region
  have s2 : Below w.heap.size w (w1.setCell ⟨w.heap.size, 1, none⟩ (.int .u64 (t : Nat))) ∧ (w1.setCell ⟨w.heap.size, 1, none⟩ (.int .u64 (t : Nat))).heap[w.heap.size + 1]? = some (Obj.cells #[.int .u64 0, .int .u64 0] 25) := sT.out _ _ s0
  have Rb_2 : ((w1.setCell ⟨w.heap.size, 1, none⟩ (.int .u64 (t : Nat))).drew).heap[w.heap.size]? = some (Obj.cells #[.int .u64 (x : Nat), .int .u64 (t : Nat)] 25) := (by rw [setCell_row rz]; rfl : (w1.setCell ⟨w.heap.size, 1, none⟩ (.int .u64 (t : Nat))).heap[w.heap.size]? = some (Obj.cells #[.int .u64 (x : Nat), .int .u64 (t : Nat)] 25))
  have B2 : Below w.heap.size w ((w1.setCell ⟨w.heap.size, 1, none⟩ (.int .u64 (t : Nat))).drew) := (And.left s2).drew
  have Rz_2 : ((w1.setCell ⟨w.heap.size, 1, none⟩ (.int .u64 (t : Nat))).drew).heap[w.heap.size + 1]? = some (Obj.cells #[.int .u64 0, .int .u64 0] 25) := s2.2
  obtain ⟨w2, hw2⟩ : ∃ V, ((w1.setCell ⟨w.heap.size, 1, none⟩ (.int .u64 (t : Nat))).drew) = V := ⟨_, rfl⟩
  rw [hw2] at B2 Rb_2 Rz_2 ⊢
  clear hw2 sT s0 s2 rz hqz hz0 hz1 B1 Rb_1 cb_1_0 cb_1_1 Rz_1 cz_1_0 cz_1_1
  obtain ⟨cb_2_0, cb_2_1⟩ := cells2s Rb_2
  obtain ⟨cz_2_0, cz_2_1⟩ := cells2s Rz_2
  have q0 := fz (k := 0) Rz_2
  have q1 := fz (k := 1) Rz_2
  obtain ⟨E0, E1⟩ := set2_cells Rz_2 (.int .u64 (x : Nat)) (.int .u64 (t : Nat))
  go_wp2
  exact bodyPost_ret (v := .agg #[.int .u64 (x : Nat), .int .u64 (t : Nat)]) (by simp [results, Tryd.results30, go_sem, E0, E1]) rfl ⟨rfl, set2_below B2 (by first | exact Nat.le_refl _ | omega | (skip; omega)) _ _⟩
set_option maxRecDepth 100000 in
set_option maxHeartbeats 8000000 in
theorem r22_with_hi (x y k j t : Nat) (hj : (k : Int) - 64 = (j : Int)) (hk : k < 128) (ht : bits .or .u64 (x : Int) (IntKind.u64.wrap (2 ^ j)) = (t : Int)) (w : World) : Calls Tryd.prog 30 #[.agg #[.int .u64 (x : Nat), .int .u64 (y : Nat)], .int .i64 (k : Nat)] w fun r w' => r = .returned (.agg #[.int .u64 (t : Nat), .int .u64 (y : Nat)]) ∧ Below w.heap.size w w' := by
  have hl : decide ((k : Int) < 64) = false := decide_eq_false (by omega)
  have hw : wrap64 ((k : Int) - 64) = (j : Int) := by unfold wrap64; omega
  obtain ⟨Rb_0, Rz_0, B0⟩ := opn2 w (Obj.cells #[.int .u64 (x : Nat), .int .u64 (y : Nat)] 25) (Obj.cells #[.int .u64 0, .int .u64 0] 25)
  go_enter Tryd.func30, Tryd.ntmps30
  obtain ⟨cb_0_0, cb_0_1⟩ := cells2s Rb_0
  obtain ⟨cz_0_0, cz_0_1⟩ := cells2s Rz_0
  go_wp2_with fail
  obtain ⟨w1, hw1⟩ : ∃ V, ((w.alloc (Obj.cells #[.int .u64 (x : Nat), .int .u64 (y : Nat)] 25)).alloc (Obj.cells #[.int .u64 0, .int .u64 0] 25)) = V := ⟨_, rfl⟩
  have Rb_1 := Rb_0
  have Rz_1 := Rz_0
  have B1 := B0
  rw [hw1] at B1 Rb_1 Rz_1 ⊢
  clear hw1 B0 Rb_0 cb_0_0 cb_0_1 Rz_0 cz_0_0 cz_0_1
  obtain ⟨cb_1_0, cb_1_1⟩ := cells2s Rb_1
  obtain ⟨cz_1_0, cz_1_1⟩ := cells2s Rz_1
  have sT : Box (∀ (W : World) (xA : Value), (Below w.heap.size w W ∧ W.heap[w.heap.size + 1]? = some (Obj.cells #[.int .u64 0, .int .u64 0] 25)) → (Below w.heap.size w (W.setCell ⟨w.heap.size, 0, none⟩ xA) ∧ (W.setCell ⟨w.heap.size, 0, none⟩ xA).heap[w.heap.size + 1]? = some (Obj.cells #[.int .u64 0, .int .u64 0] 25))) := box (fun W xA h => ⟨Below.setCell h.1 (show w.heap.size ≤ w.heap.size by first | exact Nat.le_refl _ | omega | (skip; omega)) xA, (setCell_other (by first | omega | (skip; omega))).trans h.2⟩)
  have s0 : Below w.heap.size w w1 ∧ w1.heap[w.heap.size + 1]? = some (Obj.cells #[.int .u64 0, .int .u64 0] 25) := ⟨B1, Rz_1⟩
  have rz : w1.heap[w.heap.size]? = some (Obj.cells #[.int .u64 (x : Nat), .int .u64 (y : Nat)] 25) := Rb_1
  have hqz := fz (k := 0) rz
  obtain ⟨hz0, hz1⟩ := cells2s rz
  go_wp2_with fail
  go_region
  have s2 : Below w.heap.size w (w1.setCell ⟨w.heap.size, 0, none⟩ (.int .u64 (t : Nat))) ∧ (w1.setCell ⟨w.heap.size, 0, none⟩ (.int .u64 (t : Nat))).heap[w.heap.size + 1]? = some (Obj.cells #[.int .u64 0, .int .u64 0] 25) := sT.out _ _ s0
  have Rb_2 : ((w1.setCell ⟨w.heap.size, 0, none⟩ (.int .u64 (t : Nat))).drew).heap[w.heap.size]? = some (Obj.cells #[.int .u64 (t : Nat), .int .u64 (y : Nat)] 25) := (by rw [setCell_row rz]; rfl : (w1.setCell ⟨w.heap.size, 0, none⟩ (.int .u64 (t : Nat))).heap[w.heap.size]? = some (Obj.cells #[.int .u64 (t : Nat), .int .u64 (y : Nat)] 25))
  have B2 : Below w.heap.size w ((w1.setCell ⟨w.heap.size, 0, none⟩ (.int .u64 (t : Nat))).drew) := (And.left s2).drew
  have Rz_2 : ((w1.setCell ⟨w.heap.size, 0, none⟩ (.int .u64 (t : Nat))).drew).heap[w.heap.size + 1]? = some (Obj.cells #[.int .u64 0, .int .u64 0] 25) := s2.2
  obtain ⟨w2, hw2⟩ : ∃ V, ((w1.setCell ⟨w.heap.size, 0, none⟩ (.int .u64 (t : Nat))).drew) = V := ⟨_, rfl⟩
  rw [hw2] at B2 Rb_2 Rz_2 ⊢
  clear hw2 sT s0 s2 rz hqz hz0 hz1 B1 Rb_1 cb_1_0 cb_1_1 Rz_1 cz_1_0 cz_1_1
  obtain ⟨cb_2_0, cb_2_1⟩ := cells2s Rb_2
  obtain ⟨cz_2_0, cz_2_1⟩ := cells2s Rz_2
  have q0 := fz (k := 0) Rz_2
  have q1 := fz (k := 1) Rz_2
  obtain ⟨E0, E1⟩ := set2_cells Rz_2 (.int .u64 (t : Nat)) (.int .u64 (y : Nat))
  go_wp2
  exact bodyPost_ret (v := .agg #[.int .u64 (t : Nat), .int .u64 (y : Nat)]) (by simp [results, Tryd.results30, go_sem, E0, E1]) rfl ⟨rfl, set2_below B2 (by first | exact Nat.le_refl _ | omega | (skip; omega)) _ _⟩
theorem or_add {y k : Nat} (h : y < 2 ^ k) (hk : k < 64) : bits .or .u64 (y : Int) (IntKind.u64.wrap (2 ^ k)) = ((y + 2 ^ k : Nat) : Int) := by
  have p : 2 ^ k < 18446744073709551616 := Nat.pow_lt_pow_right (show 1 < 2 by decide) (show k < 64 from hk)
  have e : ((2 ^ k : Nat) : Int) = (2 : Int) ^ k := Int.natCast_pow 2 k
  have w : IntKind.u64.wrap ((2 : Int) ^ k) = ((2 ^ k : Nat) : Int) := by
    rw [← e, show ∀ y : Int, IntKind.u64.wrap y = y % 18446744073709551616 from fun _ => rfl]
    omega
  rw [w, bits_or_u64_nat _ _ (Nat.lt_trans h p) p, Nat.or_comm]
  have := Nat.two_pow_add_eq_or_of_lt h 1
  rw [Nat.mul_one] at this
  rw [← this, Nat.add_comm]
theorem r22_bit (x y N k : Nat) (hx : x < 18446744073709551616) (hy : y < 18446744073709551616) (hN : y + 18446744073709551616 * x = N) (hk : k < 128) (o : Bool) (ho : N.testBit k = o) (w : World) : Calls Tryd.prog 29 #[.agg #[.int .u64 (x : Nat), .int .u64 (y : Nat)], .int .i64 (k : Nat)] w fun r w' => r = .returned (.bool o) ∧ Below w.heap.size w w' := by
  subst hN
  by_cases c : k < 64
  · rw [bv_lo x y k hy c] at ho
    exact r22_bit_lo x y k hy c o ho w
  · rw [bv_hi x y k hy (by omega)] at ho
    exact r22_bit_hi x y k (k - 64) hx (by omega) hk o ho w
theorem r22_with (x y N k u v : Nat) (hx : x < 18446744073709551616) (hy : y < 18446744073709551616) (hN : y + 18446744073709551616 * x = N) (hk : k < 128) (hl : N < 2 ^ k) (hu : bv7 (N + 2 ^ k) = (u, v)) (w : World) : Calls Tryd.prog 30 #[.agg #[.int .u64 (x : Nat), .int .u64 (y : Nat)], .int .i64 (k : Nat)] w fun r w' => r = .returned (.agg #[.int .u64 (u : Nat), .int .u64 (v : Nat)]) ∧ Below w.heap.size w w' := by
  subst hN
  unfold bv7 at hu
  by_cases c : k < 64
  · have p : 2 ^ k < 18446744073709551616 := Nat.pow_lt_pow_right (show 1 < 2 by decide) (show k < 64 from c)
    have p2 : 2 ^ k ≤ 9223372036854775808 := Nat.pow_le_pow_right (show 0 < 2 by decide) (show k ≤ 63 by omega)
    obtain rfl : x = 0 := by omega
    injection hu with h1 h2
    obtain rfl : u = 0 := by omega
    have e : v = y + 2 ^ k := by omega
    rw [e]
    exact r22_with_lo 0 y k _ c (or_add (by omega) c) w
  · have e : (2 : Nat) ^ k = 18446744073709551616 * 2 ^ (k - 64) := by rw [show (18446744073709551616 : Nat) = 2 ^ 64 from rfl, ← Nat.pow_add, show 64 + (k - 64) = k by omega]
    obtain ⟨P, hP⟩ : ∃ P, 2 ^ (k - 64) = P := ⟨_, rfl⟩
    rw [e, hP] at hl hu
    have lx : x < 2 ^ (k - 64) := by rw [hP]; omega
    injection hu with h1 h2
    have e1 : u = x + P := by omega
    have e2 : v = y := by omega
    rw [e1, e2, ← hP]
    exact r22_with_hi x y k (k - 64) _ (by omega) hk (or_add lx (by omega)) w
end Go.Proofs.YtakmlgcnfbiagaaDoor
namespace Go.Proofs.YtakmlgcnfbiagaaDoor
set_option maxRecDepth 100000
set_option maxHeartbeats 40000000
set_option maxRecDepth 100000
open Go.RowKit WMath
set_option linter.unusedSimpArgs false
set_option linter.unusedVariables false
set_option maxRecDepth 100000 in
set_option maxHeartbeats 8000000 in
theorem r22_IsBoxed_y (f : Int) (W : Nat) (hW : W ≤ 128) (x y N : Nat) (hx : x < 18446744073709551616) (hy : y < 18446744073709551616) (hN : y + 18446744073709551616 * x = N) (hb : ∀ k, W ≤ k → k < 128 → N.testBit k = true) (w : World) (KW : Box (∀ w, Calls Tryd.prog 7 #[.int .u8 f] w fun r w' => r = .returned (.int .i64 (W : Nat)) ∧ Below w.heap.size w w')) : Calls Tryd.prog 13 #[.int .u8 f, .agg #[.int .u64 (x : Nat), .int .u64 (y : Nat)]] w fun r w' => r = .returned (.bool (decide (0 < W))) ∧ Below w.heap.size w w' := by
  have HB := box hb
  have HX := box (And.intro hx (And.intro hy hN))
  have h0 : decide ((0 : Int) < ((W : Nat) : Int)) = decide (0 < W) := decide_eq_decide.2 (by omega)
  clear hb hx hy hN
  obtain ⟨Rb_0, B0⟩ := opn1 w (Obj.cells #[.int .u64 (x : Nat), .int .u64 (y : Nat)] 25)
  go_enter Tryd.func13, Tryd.ntmps13
  obtain ⟨cb_0_0, cb_0_1⟩ := cells2s Rb_0
  go_wp2_with fail
  refine (KW.out _).mono ?_
  rintro r w1 ⟨rfl, b1⟩
  have B1 : Below w.heap.size w w1 := btr B0 b1
  have Rb_1 := heap_of b1 _ _ _ Rb_0
  clear b1 B0 Rb_0 cb_0_0 cb_0_1
  obtain ⟨cb_1_0, cb_1_1⟩ := cells2s Rb_1
  go_wp2_with fail
  go_loopw [5] (fun iv wr => ∃ k : Nat, W ≤ k ∧ k ≤ 128 ∧ iv = .int .i64 (k : Int) ∧ Below w.heap.size w wr ∧ wr.heap[w.heap.size]? = some (.cells #[.int .u64 (x : Nat), .int .u64 (y : Nat)] 25)) (fun iv _ => 128 - (intOf iv).toNat)
  case atStart => exact ⟨W, by omega, by omega, rfl, B1, Rb_1⟩
  case round =>
    obtain ⟨k, k1, k2, rfl, B20, Rb_20⟩ := hrel
    obtain ⟨w20, hw⟩ : ∃ w20, w20 = wr := ⟨_, rfl⟩
    subst hw
    clear Rb_1 B1
    by_cases hlt : k < 128
    · have dl : decide ((k : Int) < 128) = true := decide_eq_true (by omega)
      have KB := box (fun w => r22_bit x y N k HX.out.1 HX.out.2.1 HX.out.2.2 (by omega) true (HB.out k k1 hlt) w)
      obtain ⟨cb_20_0, cb_20_1⟩ := cells2s Rb_20
      go_wp2_with fail
      refine (KB.out _).mono ?_
      rintro r w21 ⟨rfl, b21⟩
      have B21 : Below w.heap.size w w21 := btr B20 b21
      have Rb_21 := heap_of b21 _ _ _ Rb_20
      clear b21 B20 Rb_20 cb_20_0 cb_20_1
      obtain ⟨cb_21_0, cb_21_1⟩ := cells2s Rb_21
      go_wp2
      go_roundw
      case rel => exact ⟨k + 1, by omega, by omega, by go_num, B21, Rb_21⟩
      case measure => simp [intOf] <;> omega
    · obtain rfl : k = 128 := by omega
      obtain ⟨cb_20_0, cb_20_1⟩ := cells2s Rb_20
      go_wp2_with fail
      refine (KW.out _).mono ?_
      rintro r w21 ⟨rfl, b21⟩
      have B21 : Below w.heap.size w w21 := btr B20 b21
      have Rb_21 := heap_of b21 _ _ _ Rb_20
      clear b21 B20 Rb_20 cb_20_0 cb_20_1
      obtain ⟨cb_21_0, cb_21_1⟩ := cells2s Rb_21
      go_wp2
      go_ret
      exact ⟨rfl, B21⟩
set_option maxRecDepth 100000 in
set_option maxHeartbeats 8000000 in
theorem r22_IsBoxed_n (f : Int) (W : Nat) (hW : W ≤ 128) (x y N : Nat) (hx : x < 18446744073709551616) (hy : y < 18446744073709551616) (hN : y + 18446744073709551616 * x = N) (m : Nat) (m1 : W ≤ m) (m2 : m < 128) (hm : N.testBit m = false) (hb : ∀ k, W ≤ k → k < m → N.testBit k = true) (w : World) (KW : Box (∀ w, Calls Tryd.prog 7 #[.int .u8 f] w fun r w' => r = .returned (.int .i64 (W : Nat)) ∧ Below w.heap.size w w')) : Calls Tryd.prog 13 #[.int .u8 f, .agg #[.int .u64 (x : Nat), .int .u64 (y : Nat)]] w fun r w' => r = .returned (.bool false) ∧ Below w.heap.size w w' := by
  have HB := box hb
  have HX := box (And.intro hx (And.intro hy hN))
  have h0 : decide ((0 : Int) < ((W : Nat) : Int)) = decide (0 < W) := decide_eq_decide.2 (by omega)
  clear hb hx hy hN
  obtain ⟨Rb_0, B0⟩ := opn1 w (Obj.cells #[.int .u64 (x : Nat), .int .u64 (y : Nat)] 25)
  go_enter Tryd.func13, Tryd.ntmps13
  obtain ⟨cb_0_0, cb_0_1⟩ := cells2s Rb_0
  go_wp2_with fail
  refine (KW.out _).mono ?_
  rintro r w1 ⟨rfl, b1⟩
  have B1 : Below w.heap.size w w1 := btr B0 b1
  have Rb_1 := heap_of b1 _ _ _ Rb_0
  clear b1 B0 Rb_0 cb_0_0 cb_0_1
  obtain ⟨cb_1_0, cb_1_1⟩ := cells2s Rb_1
  go_wp2_with fail
  go_loopw [5] (fun iv wr => ∃ k : Nat, W ≤ k ∧ k ≤ m ∧ iv = .int .i64 (k : Int) ∧ Below w.heap.size w wr ∧ wr.heap[w.heap.size]? = some (.cells #[.int .u64 (x : Nat), .int .u64 (y : Nat)] 25)) (fun iv _ => 128 - (intOf iv).toNat)
  case atStart => exact ⟨W, by omega, by omega, rfl, B1, Rb_1⟩
  case round =>
    obtain ⟨k, k1, k2, rfl, B20, Rb_20⟩ := hrel
    obtain ⟨w20, hw⟩ : ∃ w20, w20 = wr := ⟨_, rfl⟩
    subst hw
    clear Rb_1 B1
    by_cases hlt : k < m
    · have dl : decide ((k : Int) < 128) = true := decide_eq_true (by omega)
      have KB := box (fun w => r22_bit x y N k HX.out.1 HX.out.2.1 HX.out.2.2 (by omega) true (HB.out k k1 hlt) w)
      obtain ⟨cb_20_0, cb_20_1⟩ := cells2s Rb_20
      go_wp2_with fail
      refine (KB.out _).mono ?_
      rintro r w21 ⟨rfl, b21⟩
      have B21 : Below w.heap.size w w21 := btr B20 b21
      have Rb_21 := heap_of b21 _ _ _ Rb_20
      clear b21 B20 Rb_20 cb_20_0 cb_20_1
      obtain ⟨cb_21_0, cb_21_1⟩ := cells2s Rb_21
      go_wp2
      go_roundw
      case rel => exact ⟨k + 1, by omega, by omega, by go_num, B21, Rb_21⟩
      case measure => simp [intOf] <;> omega
    · obtain rfl : k = m := by omega
      have dl : decide ((k : Int) < 128) = true := decide_eq_true (by omega)
      have KB := box (fun w => r22_bit x y N k HX.out.1 HX.out.2.1 HX.out.2.2 (by omega) false hm w)
      obtain ⟨cb_20_0, cb_20_1⟩ := cells2s Rb_20
      go_wp2_with fail
      refine (KB.out _).mono ?_
      rintro r w21 ⟨rfl, b21⟩
      have B21 : Below w.heap.size w w21 := btr B20 b21
      have Rb_21 := heap_of b21 _ _ _ Rb_20
      clear b21 B20 Rb_20 cb_20_0 cb_20_1
      obtain ⟨cb_21_0, cb_21_1⟩ := cells2s Rb_21
      go_wp2
      go_ret
      exact ⟨rfl, B21⟩
theorem ones_step {B k0 k : Nat} (h : k0 ≤ k) (hB : B < 2 ^ k0) : B + (2 ^ k - 2 ^ k0) < 2 ^ k ∧ B + (2 ^ k - 2 ^ k0) + 2 ^ k = B + (2 ^ (k + 1) - 2 ^ k0) := by
  have p := Nat.pow_le_pow_right (show 0 < 2 by decide) h
  have e : (2 : Nat) ^ (k + 1) = 2 * 2 ^ k := by rw [Nat.pow_succ, Nat.mul_comm]
  omega
theorem low_128 {n k : Nat} (h : n < 2 ^ k) (hk : k ≤ 128) : n < 340282366920938463463374607431768211456 :=
  Nat.lt_of_lt_of_le h (Nat.le_trans (Nat.pow_le_pow_right (by decide) hk) (by decide))
theorem bv_of {n u v : Nat} (h : bv7 n = (u, v)) (hn : n < 340282366920938463463374607431768211456) : u < 18446744073709551616 ∧ v < 18446744073709551616 ∧ v + 18446744073709551616 * u = n := by
  unfold bv7 at h
  cases h
  omega
theorem bv_to {n x y : Nat} (hy : y < 18446744073709551616) (h : y + 18446744073709551616 * x = n) : bv7 n = (x, y) := by
  unfold bv7
  subst h
  congr 1 <;> omega
set_option maxRecDepth 100000 in
set_option maxHeartbeats 8000000 in
theorem r22_Box (f : Int) (W : Nat) (hW : W ≤ 128) (x y N : Nat) (hx : x < 18446744073709551616) (hy : y < 18446744073709551616) (hN : y + 18446744073709551616 * x = N) (hB : N < 2 ^ W) (u v : Nat) (hr : bv7 (N + (2 ^ 128 - 2 ^ W)) = (u, v)) (w : World) (KW : Box (∀ w, Calls Tryd.prog 7 #[.int .u8 f] w fun r w' => r = .returned (.int .i64 (W : Nat)) ∧ Below w.heap.size w w')) : Calls Tryd.prog 19 #[.int .u8 f, .agg #[.int .u64 (x : Nat), .int .u64 (y : Nat)]] w fun r w' => r = .returned (.agg #[.int .u64 (u : Nat), .int .u64 (v : Nat)]) ∧ Below w.heap.size w w' := by
  have HR := box hr
  have HBB := box hB
  have HX := box (And.intro hx (And.intro hy hN))
  clear hr hB hx hy hN
  obtain ⟨Rb_0, Rz_0, B0⟩ := opn2 w (Obj.cells #[.int .u64 (x : Nat), .int .u64 (y : Nat)] 25) (Obj.cells #[.int .u64 0, .int .u64 0] 25)
  go_enter Tryd.func19, Tryd.ntmps19
  obtain ⟨cb_0_0, cb_0_1⟩ := cells2s Rb_0
  obtain ⟨cz_0_0, cz_0_1⟩ := cells2s Rz_0
  go_wp2_with fail
  refine (KW.out _).mono ?_
  rintro r w1 ⟨rfl, b1⟩
  have B1 : Below w.heap.size w w1 := btr B0 b1
  have Rb_1 := heap_of b1 _ _ _ Rb_0
  have Rz_1 := heap_of b1 _ _ _ Rz_0
  clear b1 B0 Rb_0 cb_0_0 cb_0_1 Rz_0 cz_0_0 cz_0_1
  obtain ⟨cb_1_0, cb_1_1⟩ := cells2s Rb_1
  obtain ⟨cz_1_0, cz_1_1⟩ := cells2s Rz_1
  go_wp2_with fail
  go_loopw [5] (fun iv wr => ∃ k p q : Nat, W ≤ k ∧ k ≤ 128 ∧ iv = .int .i64 (k : Int) ∧ Below w.heap.size w wr ∧ wr.heap[w.heap.size]? = some (.cells #[.int .u64 (p : Nat), .int .u64 (q : Nat)] 25) ∧ wr.heap[w.heap.size + 1]? = some (.cells #[.int .u64 0, .int .u64 0] 25) ∧ Box (p < 18446744073709551616 ∧ q < 18446744073709551616 ∧ q + 18446744073709551616 * p = N + (2 ^ k - 2 ^ W))) (fun iv _ => 128 - (intOf iv).toNat)
  case atStart => exact ⟨W, x, y, by omega, by omega, rfl, B1, Rb_1, Rz_1, box ⟨HX.out.1, HX.out.2.1, by rw [Nat.sub_self, Nat.add_zero]; exact HX.out.2.2⟩⟩
  case round =>
    obtain ⟨k, p, q, k1, k2, rfl, B20, Rb_20, Rz_20, HP⟩ := hrel
    obtain ⟨w20, hw⟩ : ∃ w20, w20 = wr := ⟨_, rfl⟩
    subst hw
    clear Rb_1 Rz_1 B1
    by_cases hlt : k < 128
    · have dl : decide ((k : Int) < 128) = true := decide_eq_true (by omega)
      obtain ⟨u1, v1, h1⟩ : ∃ u v, bv7 (N + (2 ^ (k + 1) - 2 ^ W)) = (u, v) := ⟨_, _, rfl⟩
      have os := ones_step (B := N) k1 HBB.out
      have KX := box (fun w => r22_with p q _ k u1 v1 HP.out.1 HP.out.2.1 HP.out.2.2 (by omega) os.1 (by rw [os.2]; exact h1) w)
      have NX := box (bv_of h1 (low_128 (ones_step (k := k + 1) (B := N) (by omega) HBB.out).1 (by omega)))
      clear os h1
      obtain ⟨cb_20_0, cb_20_1⟩ := cells2s Rb_20
      obtain ⟨cz_20_0, cz_20_1⟩ := cells2s Rz_20
      obtain ⟨cb_20_0, cb_20_1⟩ := cells2s Rb_20
      obtain ⟨cz_20_0, cz_20_1⟩ := cells2s Rz_20
      clear cz_20_0 cz_20_1
      go_wp2_with fail
      refine (KX.out _).mono ?_
      rintro r w21 ⟨rfl, b21⟩
      have B21 : Below w.heap.size w w21 := btr B20 b21
      have Rb_21 := heap_of b21 _ _ _ Rb_20
      have Rz_21 := heap_of b21 _ _ _ Rz_20
      clear b21 B20 Rb_20 cb_20_0 cb_20_1 Rz_20
      obtain ⟨cb_21_0, cb_21_1⟩ := cells2s Rb_21
      have q0_22 := fz (k := 0) Rb_21
      have q1_22 := fz (k := 1) Rb_21
      have B22 := set2_below B21 (show w.heap.size ≤ w.heap.size by first | exact Nat.le_refl _ | omega | (skip; omega)) (.int .u64 (u1 : Nat)) (.int .u64 (v1 : Nat))
      have Rb_22 : ((w21.setCell ⟨w.heap.size, 0, none⟩ (.int .u64 (u1 : Nat))).setCell ⟨w.heap.size, 1, none⟩ (.int .u64 (v1 : Nat))).heap[w.heap.size]? = some (Obj.cells #[.int .u64 (u1 : Nat), .int .u64 (v1 : Nat)] 25) := set2_row Rb_21 _ _
      have Rz_22 : ((w21.setCell ⟨w.heap.size, 0, none⟩ (.int .u64 (u1 : Nat))).setCell ⟨w.heap.size, 1, none⟩ (.int .u64 (v1 : Nat))).heap[w.heap.size + 1]? = some (Obj.cells #[.int .u64 0, .int .u64 0] 25) := (setCell_other (by first | omega | (skip; omega))).trans ((setCell_other (by first | omega | (skip; omega))).trans Rz_21)
      obtain ⟨cb_22_0, cb_22_1⟩ := cells2s Rb_22
      go_wp2
      go_roundw
      case rel => exact ⟨k + 1, u1, v1, by omega, by omega, by go_num, B22, Rb_22, Rz_22, NX⟩
      case measure => simp [intOf] <;> omega
    · obtain rfl : k = 128 := by omega
      have e := bv_to HP.out.2.1 HP.out.2.2
      rw [HR.out] at e
      cases e
      skip
      obtain ⟨cb_20_0, cb_20_1⟩ := cells2s Rb_20
      obtain ⟨cz_20_0, cz_20_1⟩ := cells2s Rz_20
      obtain ⟨cb_20_0, cb_20_1⟩ := cells2s Rb_20
      obtain ⟨cz_20_0, cz_20_1⟩ := cells2s Rz_20
      clear cz_20_0 cz_20_1
      obtain ⟨cz_20_0, cz_20_1⟩ := cells2s Rz_20
      have q0 := fz (k := 0) Rz_20
      have q1 := fz (k := 1) Rz_20
      obtain ⟨E0, E1⟩ := set2_cells Rz_20 (.int .u64 (u : Nat)) (.int .u64 (v : Nat))
      go_wp2
      exact bodyPost_ret (v := .agg #[.int .u64 (u : Nat), .int .u64 (v : Nat)]) (by simp [results, Tryd.results19, go_sem, E0, E1]) rfl ⟨rfl, set2_below B20 (by first | exact Nat.le_refl _ | omega | (skip; omega)) _ _⟩
theorem mod_bit2 (n k : Nat) : n % 2 ^ (k + 1) = n % 2 ^ k + (if n.testBit k = true then 2 ^ k else 0) := by
  rw [Nat.pow_succ, Nat.mod_mul, Nat.testBit_eq_decide_div_mod_eq]
  by_cases c : n / 2 ^ k % 2 = 1
  · rw [c]
    simp
  · have : n / 2 ^ k % 2 = 0 := by omega
    rw [this]
    simp
set_option maxRecDepth 100000 in
set_option maxHeartbeats 8000000 in
theorem r22_Low (f : Int) (W : Nat) (hW : W ≤ 128) (x y N : Nat) (hx : x < 18446744073709551616) (hy : y < 18446744073709551616) (hN : y + 18446744073709551616 * x = N) (u v : Nat) (hr : bv7 (N % 2 ^ W) = (u, v)) (w : World) (KW : Box (∀ w, Calls Tryd.prog 7 #[.int .u8 f] w fun r w' => r = .returned (.int .i64 (W : Nat)) ∧ Below w.heap.size w w')) : Calls Tryd.prog 17 #[.int .u8 f, .agg #[.int .u64 (x : Nat), .int .u64 (y : Nat)]] w fun r w' => r = .returned (.agg #[.int .u64 (u : Nat), .int .u64 (v : Nat)]) ∧ Below w.heap.size w w' := by
  have HR := box hr
  have HX := box (And.intro hx (And.intro hy hN))
  clear hr hx hy hN
  obtain ⟨Ra_0, Rz_0, B0⟩ := opn2 w (Obj.cells #[.int .u64 (x : Nat), .int .u64 (y : Nat)] 25) (Obj.cells #[.int .u64 0, .int .u64 0] 25)
  go_enter Tryd.func17, Tryd.ntmps17
  obtain ⟨ca_0_0, ca_0_1⟩ := cells2s Ra_0
  obtain ⟨cz_0_0, cz_0_1⟩ := cells2s Rz_0
  have S1 := box B0.size
  have La_1 : Box (w.heap.size < ((w.alloc (Obj.cells #[.int .u64 (x : Nat), .int .u64 (y : Nat)] 25)).alloc (Obj.cells #[.int .u64 0, .int .u64 0] 25)).heap.size) := box (Array.getElem?_eq_some_iff.1 Ra_0).1
  have Lz_1 : Box (w.heap.size + 1 < ((w.alloc (Obj.cells #[.int .u64 (x : Nat), .int .u64 (y : Nat)] 25)).alloc (Obj.cells #[.int .u64 0, .int .u64 0] 25)).heap.size) := box (Array.getElem?_eq_some_iff.1 Rz_0).1
  have Rb_1 := heap_alloc_last ((w.alloc (Obj.cells #[.int .u64 (x : Nat), .int .u64 (y : Nat)] 25)).alloc (Obj.cells #[.int .u64 0, .int .u64 0] 25)) (Obj.cells #[.int .u64 0, .int .u64 0] 25)
  have B1 := btr B0 (bal ((w.alloc (Obj.cells #[.int .u64 (x : Nat), .int .u64 (y : Nat)] 25)).alloc (Obj.cells #[.int .u64 0, .int .u64 0] 25)) (Obj.cells #[.int .u64 0, .int .u64 0] 25))
  have Ra_1 := heap_of (bal ((w.alloc (Obj.cells #[.int .u64 (x : Nat), .int .u64 (y : Nat)] 25)).alloc (Obj.cells #[.int .u64 0, .int .u64 0] 25)) (Obj.cells #[.int .u64 0, .int .u64 0] 25)) _ _ _ Ra_0
  have Rz_1 := heap_of (bal ((w.alloc (Obj.cells #[.int .u64 (x : Nat), .int .u64 (y : Nat)] 25)).alloc (Obj.cells #[.int .u64 0, .int .u64 0] 25)) (Obj.cells #[.int .u64 0, .int .u64 0] 25)) _ _ _ Rz_0
  clear B0 Ra_0 ca_0_0 ca_0_1 Rz_0 cz_0_0 cz_0_1
  obtain ⟨ca_1_0, ca_1_1⟩ := cells2s Ra_1
  obtain ⟨cz_1_0, cz_1_1⟩ := cells2s Rz_1
  obtain ⟨cb_1_0, cb_1_1⟩ := cells2s Rb_1
  go_wp2_with fail
  go_loopw [6] (fun iv wr => ∃ k p q : Nat, k ≤ W ∧ iv = .int .i64 (k : Int) ∧ Below w.heap.size w wr ∧ wr.heap[w.heap.size]? = some (.cells #[.int .u64 (x : Nat), .int .u64 (y : Nat)] 25) ∧ wr.heap[w.heap.size + 1]? = some (.cells #[.int .u64 0, .int .u64 0] 25) ∧ wr.heap[w.heap.size + 1 + 1]? = some (.cells #[.int .u64 (p : Nat), .int .u64 (q : Nat)] 25) ∧ Box (p < 18446744073709551616 ∧ q < 18446744073709551616 ∧ q + 18446744073709551616 * p = N % 2 ^ k)) (fun iv _ => 128 - (intOf iv).toNat)
  case atStart => exact ⟨0, 0, 0, by omega, rfl, B1, Ra_1, Rz_1, (by have q := Rb_1; simp only [size_al] at q; exact q), box ⟨by decide, by decide, by rw [Nat.pow_zero, Nat.mod_one]⟩⟩
  case round =>
    obtain ⟨k, p, q, k2, rfl, B20, Ra_20, Rz_20, Rb_20, HP⟩ := hrel
    obtain ⟨w20, hw⟩ : ∃ w20, w20 = wr := ⟨_, rfl⟩
    subst hw
    clear Ra_1 Rz_1 Rb_1 B1
    by_cases hlt : k < W
    · have dl : decide ((k : Int) < ((W : Nat) : Int)) = true := decide_eq_true (by omega)
      have mb := mod_bit2 N k
      cases hb : N.testBit k
      · rw [hb] at mb
        simp only [Bool.false_eq_true, if_false, Nat.add_zero] at mb
        have KB := box (fun w => r22_bit x y N k HX.out.1 HX.out.2.1 HX.out.2.2 (by omega) false hb w)
        have NX := HP
        rw [← mb] at NX
        clear mb hb
        obtain ⟨ca_20_0, ca_20_1⟩ := cells2s Ra_20
        obtain ⟨cz_20_0, cz_20_1⟩ := cells2s Rz_20
        obtain ⟨cb_20_0, cb_20_1⟩ := cells2s Rb_20
        obtain ⟨ca_20_0, ca_20_1⟩ := cells2s Ra_20
        obtain ⟨cz_20_0, cz_20_1⟩ := cells2s Rz_20
        obtain ⟨cb_20_0, cb_20_1⟩ := cells2s Rb_20
        obtain ⟨ca_20_0, ca_20_1⟩ := cells2s Ra_20
        obtain ⟨cz_20_0, cz_20_1⟩ := cells2s Rz_20
        obtain ⟨cb_20_0, cb_20_1⟩ := cells2s Rb_20
        clear cz_20_0 cz_20_1
        go_wp2_with fail
        refine (KW.out _).mono ?_
        rintro r w21 ⟨rfl, b21⟩
        have B21 : Below w.heap.size w w21 := btr B20 b21
        have Ra_21 := heap_of b21 _ _ _ Ra_20
        have Rz_21 := heap_of b21 _ _ _ Rz_20
        have Rb_21 := heap_of b21 _ _ _ Rb_20
        clear b21 B20 Ra_20 ca_20_0 ca_20_1 Rz_20 Rb_20 cb_20_0 cb_20_1
        obtain ⟨ca_21_0, ca_21_1⟩ := cells2s Ra_21
        obtain ⟨cb_21_0, cb_21_1⟩ := cells2s Rb_21
        go_wp2_with fail
        refine (KB.out _).mono ?_
        rintro r w22 ⟨rfl, b22⟩
        have B22 : Below w.heap.size w w22 := btr B21 b22
        have Ra_22 := heap_of b22 _ _ _ Ra_21
        have Rz_22 := heap_of b22 _ _ _ Rz_21
        have Rb_22 := heap_of b22 _ _ _ Rb_21
        clear b22 B21 Ra_21 ca_21_0 ca_21_1 Rz_21 Rb_21 cb_21_0 cb_21_1
        obtain ⟨ca_22_0, ca_22_1⟩ := cells2s Ra_22
        obtain ⟨cb_22_0, cb_22_1⟩ := cells2s Rb_22
        go_wp2
        go_roundw
        case rel => exact ⟨k + 1, p, q, by omega, by go_num, B22, Ra_22, Rz_22, Rb_22, NX⟩
        case measure => simp [intOf] <;> omega
      · rw [hb, if_pos rfl] at mb
        have KB := box (fun w => r22_bit x y N k HX.out.1 HX.out.2.1 HX.out.2.2 (by omega) true hb w)
        obtain ⟨u1, v1, h1⟩ : ∃ u v, bv7 (N % 2 ^ (k + 1)) = (u, v) := ⟨_, _, rfl⟩
        have KX := box (fun w => r22_with p q _ k u1 v1 HP.out.1 HP.out.2.1 HP.out.2.2 (by omega) (Nat.mod_lt _ (Nat.two_pow_pos k)) (by rw [← mb]; exact h1) w)
        have NX := box (bv_of h1 (low_128 (Nat.mod_lt N (Nat.two_pow_pos (k + 1))) (by omega)))
        clear mb hb h1
        obtain ⟨ca_20_0, ca_20_1⟩ := cells2s Ra_20
        obtain ⟨cz_20_0, cz_20_1⟩ := cells2s Rz_20
        obtain ⟨cb_20_0, cb_20_1⟩ := cells2s Rb_20
        obtain ⟨ca_20_0, ca_20_1⟩ := cells2s Ra_20
        obtain ⟨cz_20_0, cz_20_1⟩ := cells2s Rz_20
        obtain ⟨cb_20_0, cb_20_1⟩ := cells2s Rb_20
        obtain ⟨ca_20_0, ca_20_1⟩ := cells2s Ra_20
        obtain ⟨cz_20_0, cz_20_1⟩ := cells2s Rz_20
        obtain ⟨cb_20_0, cb_20_1⟩ := cells2s Rb_20
        clear cz_20_0 cz_20_1
        go_wp2_with fail
        refine (KW.out _).mono ?_
        rintro r w21 ⟨rfl, b21⟩
        have B21 : Below w.heap.size w w21 := btr B20 b21
        have Ra_21 := heap_of b21 _ _ _ Ra_20
        have Rz_21 := heap_of b21 _ _ _ Rz_20
        have Rb_21 := heap_of b21 _ _ _ Rb_20
        clear b21 B20 Ra_20 ca_20_0 ca_20_1 Rz_20 Rb_20 cb_20_0 cb_20_1
        obtain ⟨ca_21_0, ca_21_1⟩ := cells2s Ra_21
        obtain ⟨cb_21_0, cb_21_1⟩ := cells2s Rb_21
        go_wp2_with fail
        refine (KB.out _).mono ?_
        rintro r w22 ⟨rfl, b22⟩
        have B22 : Below w.heap.size w w22 := btr B21 b22
        have Ra_22 := heap_of b22 _ _ _ Ra_21
        have Rz_22 := heap_of b22 _ _ _ Rz_21
        have Rb_22 := heap_of b22 _ _ _ Rb_21
        clear b22 B21 Ra_21 ca_21_0 ca_21_1 Rz_21 Rb_21 cb_21_0 cb_21_1
        obtain ⟨ca_22_0, ca_22_1⟩ := cells2s Ra_22
        obtain ⟨cb_22_0, cb_22_1⟩ := cells2s Rb_22
        go_wp2_with fail
        refine (KX.out _).mono ?_
        rintro r w23 ⟨rfl, b23⟩
        have B23 : Below w.heap.size w w23 := btr B22 b23
        have Ra_23 := heap_of b23 _ _ _ Ra_22
        have Rz_23 := heap_of b23 _ _ _ Rz_22
        have Rb_23 := heap_of b23 _ _ _ Rb_22
        clear b23 B22 Ra_22 ca_22_0 ca_22_1 Rz_22 Rb_22 cb_22_0 cb_22_1
        obtain ⟨ca_23_0, ca_23_1⟩ := cells2s Ra_23
        obtain ⟨cb_23_0, cb_23_1⟩ := cells2s Rb_23
        have q0_24 := fz (k := 0) Rb_23
        have q1_24 := fz (k := 1) Rb_23
        have B24 := set2_below B23 (show w.heap.size ≤ w.heap.size + 1 + 1 by first | exact Nat.le_refl _ | omega | (have := S1.out; have := La_1.out; have := Lz_1.out; omega)) (.int .u64 (u1 : Nat)) (.int .u64 (v1 : Nat))
        have Rb_24 : ((w23.setCell ⟨w.heap.size + 1 + 1, 0, none⟩ (.int .u64 (u1 : Nat))).setCell ⟨w.heap.size + 1 + 1, 1, none⟩ (.int .u64 (v1 : Nat))).heap[w.heap.size + 1 + 1]? = some (Obj.cells #[.int .u64 (u1 : Nat), .int .u64 (v1 : Nat)] 25) := set2_row Rb_23 _ _
        have Ra_24 : ((w23.setCell ⟨w.heap.size + 1 + 1, 0, none⟩ (.int .u64 (u1 : Nat))).setCell ⟨w.heap.size + 1 + 1, 1, none⟩ (.int .u64 (v1 : Nat))).heap[w.heap.size]? = some (Obj.cells #[.int .u64 (x : Nat), .int .u64 (y : Nat)] 25) := (setCell_other (by first | omega | (have := S1.out; have := La_1.out; have := Lz_1.out; omega))).trans ((setCell_other (by first | omega | (have := S1.out; have := La_1.out; have := Lz_1.out; omega))).trans Ra_23)
        have Rz_24 : ((w23.setCell ⟨w.heap.size + 1 + 1, 0, none⟩ (.int .u64 (u1 : Nat))).setCell ⟨w.heap.size + 1 + 1, 1, none⟩ (.int .u64 (v1 : Nat))).heap[w.heap.size + 1]? = some (Obj.cells #[.int .u64 0, .int .u64 0] 25) := (setCell_other (by first | omega | (have := S1.out; have := La_1.out; have := Lz_1.out; omega))).trans ((setCell_other (by first | omega | (have := S1.out; have := La_1.out; have := Lz_1.out; omega))).trans Rz_23)
        obtain ⟨ca_24_0, ca_24_1⟩ := cells2s Ra_24
        obtain ⟨cb_24_0, cb_24_1⟩ := cells2s Rb_24
        go_wp2
        go_roundw
        case rel => exact ⟨k + 1, u1, v1, by omega, by go_num, B24, Ra_24, Rz_24, Rb_24, NX⟩
        case measure => simp [intOf] <;> omega
    · obtain rfl : k = W := by omega
      have dl : decide ((k : Int) < ((k : Nat) : Int)) = false := decide_eq_false (by omega)
      have e := bv_to HP.out.2.1 HP.out.2.2
      rw [HR.out] at e
      cases e
      obtain ⟨ca_20_0, ca_20_1⟩ := cells2s Ra_20
      obtain ⟨cz_20_0, cz_20_1⟩ := cells2s Rz_20
      obtain ⟨cb_20_0, cb_20_1⟩ := cells2s Rb_20
      obtain ⟨ca_20_0, ca_20_1⟩ := cells2s Ra_20
      obtain ⟨cz_20_0, cz_20_1⟩ := cells2s Rz_20
      obtain ⟨cb_20_0, cb_20_1⟩ := cells2s Rb_20
      obtain ⟨ca_20_0, ca_20_1⟩ := cells2s Ra_20
      obtain ⟨cz_20_0, cz_20_1⟩ := cells2s Rz_20
      obtain ⟨cb_20_0, cb_20_1⟩ := cells2s Rb_20
      clear cz_20_0 cz_20_1
      go_wp2_with fail
      refine (KW.out _).mono ?_
      rintro r w21 ⟨rfl, b21⟩
      have B21 : Below w.heap.size w w21 := btr B20 b21
      have Ra_21 := heap_of b21 _ _ _ Ra_20
      have Rz_21 := heap_of b21 _ _ _ Rz_20
      have Rb_21 := heap_of b21 _ _ _ Rb_20
      clear b21 B20 Ra_20 ca_20_0 ca_20_1 Rz_20 Rb_20 cb_20_0 cb_20_1
      obtain ⟨ca_21_0, ca_21_1⟩ := cells2s Ra_21
      obtain ⟨cb_21_0, cb_21_1⟩ := cells2s Rb_21
      obtain ⟨cz_21_0, cz_21_1⟩ := cells2s Rz_21
      have q0 := fz (k := 0) Rz_21
      have q1 := fz (k := 1) Rz_21
      obtain ⟨E0, E1⟩ := set2_cells Rz_21 (.int .u64 (u : Nat)) (.int .u64 (v : Nat))
      go_wp2
      exact bodyPost_ret (v := .agg #[.int .u64 (u : Nat), .int .u64 (v : Nat)]) (by simp [results, Tryd.results17, go_sem, E0, E1]) rfl ⟨rfl, set2_below B21 (by first | exact Nat.le_refl _ | omega | (have := S1.out; have := La_1.out; have := Lz_1.out; omega)) _ _⟩
set_option maxRecDepth 100000 in
set_option maxHeartbeats 8000000 in
theorem r22_NaN_h (u v : Nat) (hr : bv7 (0 + (2 ^ 15 - 2 ^ 9)) = (u, v)) (w : World) (KW : Box (∀ w, Calls Tryd.prog 7 #[.int .u8 2] w fun r w' => r = .returned (.int .i64 16) ∧ Below w.heap.size w w')) : Calls Tryd.prog 31 #[.int .u8 2] w fun r w' => r = .returned (.agg #[.int .u64 (u : Nat), .int .u64 (v : Nat)]) ∧ Below w.heap.size w w' := by
  have HR := box hr
  have HBB : Box (0 < 2 ^ 9) := box (Nat.two_pow_pos _)
  clear hr
  obtain ⟨Rz_0, B0⟩ := opn1 w (Obj.cells #[.int .u64 0, .int .u64 0] 25)
  go_enter Tryd.func31, Tryd.ntmps31
  obtain ⟨cz_0_0, cz_0_1⟩ := cells2s Rz_0
  have S1 := box B0.size
  have Lz_1 : Box (w.heap.size < (w.alloc (Obj.cells #[.int .u64 0, .int .u64 0] 25)).heap.size) := box (Array.getElem?_eq_some_iff.1 Rz_0).1
  have Rb_1 := heap_alloc_last (w.alloc (Obj.cells #[.int .u64 0, .int .u64 0] 25)) (Obj.cells #[.int .u64 0, .int .u64 0] 25)
  have B1 := btr B0 (bal (w.alloc (Obj.cells #[.int .u64 0, .int .u64 0] 25)) (Obj.cells #[.int .u64 0, .int .u64 0] 25))
  have Rz_1 := heap_of (bal (w.alloc (Obj.cells #[.int .u64 0, .int .u64 0] 25)) (Obj.cells #[.int .u64 0, .int .u64 0] 25)) _ _ _ Rz_0
  clear B0 Rz_0 cz_0_0 cz_0_1
  obtain ⟨cz_1_0, cz_1_1⟩ := cells2s Rz_1
  obtain ⟨cb_1_0, cb_1_1⟩ := cells2s Rb_1
  go_wp2_with fail
  go_loopw [5] (fun iv wr => ∃ k p q : Nat, 9 ≤ k ∧ k ≤ 15 ∧ iv = .int .i64 (k : Int) ∧ Below w.heap.size w wr ∧ wr.heap[w.heap.size]? = some (.cells #[.int .u64 0, .int .u64 0] 25) ∧ wr.heap[w.heap.size + 1]? = some (.cells #[.int .u64 (p : Nat), .int .u64 (q : Nat)] 25) ∧ Box (p < 18446744073709551616 ∧ q < 18446744073709551616 ∧ q + 18446744073709551616 * p = 0 + (2 ^ k - 2 ^ 9))) (fun iv _ => 128 - (intOf iv).toNat)
  case atStart => exact ⟨9, 0, 0, by omega, by omega, rfl, B1, Rz_1, (by have q := Rb_1; simp only [size_al] at q; exact q), box ⟨by decide, by decide, by rw [Nat.sub_self]⟩⟩
  case round =>
    obtain ⟨k, p, q, k1, k2, rfl, B20, Rz_20, Rb_20, HP⟩ := hrel
    obtain ⟨w20, hw⟩ : ∃ w20, w20 = wr := ⟨_, rfl⟩
    subst hw
    clear Rz_1 Rb_1 B1
    by_cases hlt : k < 15
    · have dl : decide ((k : Int) < 15) = true := decide_eq_true (by omega)
      obtain ⟨u1, v1, h1⟩ : ∃ u v, bv7 (0 + (2 ^ (k + 1) - 2 ^ 9)) = (u, v) := ⟨_, _, rfl⟩
      have os := ones_step (B := 0) k1 HBB.out
      have KX := box (fun w => r22_with p q _ k u1 v1 HP.out.1 HP.out.2.1 HP.out.2.2 (by omega) os.1 (by rw [os.2]; exact h1) w)
      have NX := box (bv_of h1 (low_128 (ones_step (k := k + 1) (B := 0) (by omega) HBB.out).1 (by omega)))
      clear os h1
      obtain ⟨cz_20_0, cz_20_1⟩ := cells2s Rz_20
      obtain ⟨cb_20_0, cb_20_1⟩ := cells2s Rb_20
      obtain ⟨cz_20_0, cz_20_1⟩ := cells2s Rz_20
      obtain ⟨cb_20_0, cb_20_1⟩ := cells2s Rb_20
      clear cz_20_0 cz_20_1
      go_wp2_with fail
      refine (KW.out _).mono ?_
      rintro r w21 ⟨rfl, b21⟩
      have B21 : Below w.heap.size w w21 := btr B20 b21
      have Rz_21 := heap_of b21 _ _ _ Rz_20
      have Rb_21 := heap_of b21 _ _ _ Rb_20
      clear b21 B20 Rz_20 Rb_20 cb_20_0 cb_20_1
      obtain ⟨cb_21_0, cb_21_1⟩ := cells2s Rb_21
      go_wp2_with fail
      refine (KX.out _).mono ?_
      rintro r w22 ⟨rfl, b22⟩
      have B22 : Below w.heap.size w w22 := btr B21 b22
      have Rz_22 := heap_of b22 _ _ _ Rz_21
      have Rb_22 := heap_of b22 _ _ _ Rb_21
      clear b22 B21 Rz_21 Rb_21 cb_21_0 cb_21_1
      obtain ⟨cb_22_0, cb_22_1⟩ := cells2s Rb_22
      have q0_23 := fz (k := 0) Rb_22
      have q1_23 := fz (k := 1) Rb_22
      have B23 := set2_below B22 (show w.heap.size ≤ w.heap.size + 1 by first | exact Nat.le_refl _ | omega | (have := S1.out; have := Lz_1.out; omega)) (.int .u64 (u1 : Nat)) (.int .u64 (v1 : Nat))
      have Rb_23 : ((w22.setCell ⟨w.heap.size + 1, 0, none⟩ (.int .u64 (u1 : Nat))).setCell ⟨w.heap.size + 1, 1, none⟩ (.int .u64 (v1 : Nat))).heap[w.heap.size + 1]? = some (Obj.cells #[.int .u64 (u1 : Nat), .int .u64 (v1 : Nat)] 25) := set2_row Rb_22 _ _
      have Rz_23 : ((w22.setCell ⟨w.heap.size + 1, 0, none⟩ (.int .u64 (u1 : Nat))).setCell ⟨w.heap.size + 1, 1, none⟩ (.int .u64 (v1 : Nat))).heap[w.heap.size]? = some (Obj.cells #[.int .u64 0, .int .u64 0] 25) := (setCell_other (by first | omega | (have := S1.out; have := Lz_1.out; omega))).trans ((setCell_other (by first | omega | (have := S1.out; have := Lz_1.out; omega))).trans Rz_22)
      obtain ⟨cb_23_0, cb_23_1⟩ := cells2s Rb_23
      go_wp2
      go_roundw
      case rel => exact ⟨k + 1, u1, v1, by omega, by omega, by go_num, B23, Rz_23, Rb_23, NX⟩
      case measure => simp [intOf] <;> omega
    · obtain rfl : k = 15 := by omega
      have e := bv_to HP.out.2.1 HP.out.2.2
      rw [HR.out] at e
      cases e
      obtain ⟨cz_20_0, cz_20_1⟩ := cells2s Rz_20
      obtain ⟨cb_20_0, cb_20_1⟩ := cells2s Rb_20
      obtain ⟨cz_20_0, cz_20_1⟩ := cells2s Rz_20
      obtain ⟨cb_20_0, cb_20_1⟩ := cells2s Rb_20
      clear cz_20_0 cz_20_1
      go_wp2_with fail
      refine (KW.out _).mono ?_
      rintro r w21 ⟨rfl, b21⟩
      have B21 : Below w.heap.size w w21 := btr B20 b21
      have Rz_21 := heap_of b21 _ _ _ Rz_20
      have Rb_21 := heap_of b21 _ _ _ Rb_20
      clear b21 B20 Rz_20 Rb_20 cb_20_0 cb_20_1
      obtain ⟨cb_21_0, cb_21_1⟩ := cells2s Rb_21
      obtain ⟨cz_21_0, cz_21_1⟩ := cells2s Rz_21
      have q0 := fz (k := 0) Rz_21
      have q1 := fz (k := 1) Rz_21
      obtain ⟨E0, E1⟩ := set2_cells Rz_21 (.int .u64 (u : Nat)) (.int .u64 (v : Nat))
      go_wp2
      exact bodyPost_ret (v := .agg #[.int .u64 (u : Nat), .int .u64 (v : Nat)]) (by simp [results, Tryd.results31, go_sem, E0, E1]) rfl ⟨rfl, set2_below B21 (by first | exact Nat.le_refl _ | omega | (have := S1.out; have := Lz_1.out; omega)) _ _⟩
set_option maxRecDepth 100000 in
set_option maxHeartbeats 8000000 in
theorem r22_NaN_s (u v : Nat) (hr : bv7 (0 + (2 ^ 31 - 2 ^ 22)) = (u, v)) (w : World) (KW : Box (∀ w, Calls Tryd.prog 7 #[.int .u8 0] w fun r w' => r = .returned (.int .i64 32) ∧ Below w.heap.size w w')) : Calls Tryd.prog 31 #[.int .u8 0] w fun r w' => r = .returned (.agg #[.int .u64 (u : Nat), .int .u64 (v : Nat)]) ∧ Below w.heap.size w w' := by
  have HR := box hr
  have HBB : Box (0 < 2 ^ 22) := box (Nat.two_pow_pos _)
  clear hr
  obtain ⟨Rz_0, B0⟩ := opn1 w (Obj.cells #[.int .u64 0, .int .u64 0] 25)
  go_enter Tryd.func31, Tryd.ntmps31
  obtain ⟨cz_0_0, cz_0_1⟩ := cells2s Rz_0
  have S1 := box B0.size
  have Lz_1 : Box (w.heap.size < (w.alloc (Obj.cells #[.int .u64 0, .int .u64 0] 25)).heap.size) := box (Array.getElem?_eq_some_iff.1 Rz_0).1
  have Rb_1 := heap_alloc_last (w.alloc (Obj.cells #[.int .u64 0, .int .u64 0] 25)) (Obj.cells #[.int .u64 0, .int .u64 0] 25)
  have B1 := btr B0 (bal (w.alloc (Obj.cells #[.int .u64 0, .int .u64 0] 25)) (Obj.cells #[.int .u64 0, .int .u64 0] 25))
  have Rz_1 := heap_of (bal (w.alloc (Obj.cells #[.int .u64 0, .int .u64 0] 25)) (Obj.cells #[.int .u64 0, .int .u64 0] 25)) _ _ _ Rz_0
  clear B0 Rz_0 cz_0_0 cz_0_1
  obtain ⟨cz_1_0, cz_1_1⟩ := cells2s Rz_1
  obtain ⟨cb_1_0, cb_1_1⟩ := cells2s Rb_1
  go_wp2_with fail
  go_loopw [5] (fun iv wr => ∃ k p q : Nat, 22 ≤ k ∧ k ≤ 31 ∧ iv = .int .i64 (k : Int) ∧ Below w.heap.size w wr ∧ wr.heap[w.heap.size]? = some (.cells #[.int .u64 0, .int .u64 0] 25) ∧ wr.heap[w.heap.size + 1]? = some (.cells #[.int .u64 (p : Nat), .int .u64 (q : Nat)] 25) ∧ Box (p < 18446744073709551616 ∧ q < 18446744073709551616 ∧ q + 18446744073709551616 * p = 0 + (2 ^ k - 2 ^ 22))) (fun iv _ => 128 - (intOf iv).toNat)
  case atStart => exact ⟨22, 0, 0, by omega, by omega, rfl, B1, Rz_1, (by have q := Rb_1; simp only [size_al] at q; exact q), box ⟨by decide, by decide, by rw [Nat.sub_self]⟩⟩
  case round =>
    obtain ⟨k, p, q, k1, k2, rfl, B20, Rz_20, Rb_20, HP⟩ := hrel
    obtain ⟨w20, hw⟩ : ∃ w20, w20 = wr := ⟨_, rfl⟩
    subst hw
    clear Rz_1 Rb_1 B1
    by_cases hlt : k < 31
    · have dl : decide ((k : Int) < 31) = true := decide_eq_true (by omega)
      obtain ⟨u1, v1, h1⟩ : ∃ u v, bv7 (0 + (2 ^ (k + 1) - 2 ^ 22)) = (u, v) := ⟨_, _, rfl⟩
      have os := ones_step (B := 0) k1 HBB.out
      have KX := box (fun w => r22_with p q _ k u1 v1 HP.out.1 HP.out.2.1 HP.out.2.2 (by omega) os.1 (by rw [os.2]; exact h1) w)
      have NX := box (bv_of h1 (low_128 (ones_step (k := k + 1) (B := 0) (by omega) HBB.out).1 (by omega)))
      clear os h1
      obtain ⟨cz_20_0, cz_20_1⟩ := cells2s Rz_20
      obtain ⟨cb_20_0, cb_20_1⟩ := cells2s Rb_20
      obtain ⟨cz_20_0, cz_20_1⟩ := cells2s Rz_20
      obtain ⟨cb_20_0, cb_20_1⟩ := cells2s Rb_20
      clear cz_20_0 cz_20_1
      go_wp2_with fail
      refine (KW.out _).mono ?_
      rintro r w21 ⟨rfl, b21⟩
      have B21 : Below w.heap.size w w21 := btr B20 b21
      have Rz_21 := heap_of b21 _ _ _ Rz_20
      have Rb_21 := heap_of b21 _ _ _ Rb_20
      clear b21 B20 Rz_20 Rb_20 cb_20_0 cb_20_1
      obtain ⟨cb_21_0, cb_21_1⟩ := cells2s Rb_21
      go_wp2_with fail
      refine (KX.out _).mono ?_
      rintro r w22 ⟨rfl, b22⟩
      have B22 : Below w.heap.size w w22 := btr B21 b22
      have Rz_22 := heap_of b22 _ _ _ Rz_21
      have Rb_22 := heap_of b22 _ _ _ Rb_21
      clear b22 B21 Rz_21 Rb_21 cb_21_0 cb_21_1
      obtain ⟨cb_22_0, cb_22_1⟩ := cells2s Rb_22
      have q0_23 := fz (k := 0) Rb_22
      have q1_23 := fz (k := 1) Rb_22
      have B23 := set2_below B22 (show w.heap.size ≤ w.heap.size + 1 by first | exact Nat.le_refl _ | omega | (have := S1.out; have := Lz_1.out; omega)) (.int .u64 (u1 : Nat)) (.int .u64 (v1 : Nat))
      have Rb_23 : ((w22.setCell ⟨w.heap.size + 1, 0, none⟩ (.int .u64 (u1 : Nat))).setCell ⟨w.heap.size + 1, 1, none⟩ (.int .u64 (v1 : Nat))).heap[w.heap.size + 1]? = some (Obj.cells #[.int .u64 (u1 : Nat), .int .u64 (v1 : Nat)] 25) := set2_row Rb_22 _ _
      have Rz_23 : ((w22.setCell ⟨w.heap.size + 1, 0, none⟩ (.int .u64 (u1 : Nat))).setCell ⟨w.heap.size + 1, 1, none⟩ (.int .u64 (v1 : Nat))).heap[w.heap.size]? = some (Obj.cells #[.int .u64 0, .int .u64 0] 25) := (setCell_other (by first | omega | (have := S1.out; have := Lz_1.out; omega))).trans ((setCell_other (by first | omega | (have := S1.out; have := Lz_1.out; omega))).trans Rz_22)
      obtain ⟨cb_23_0, cb_23_1⟩ := cells2s Rb_23
      go_wp2
      go_roundw
      case rel => exact ⟨k + 1, u1, v1, by omega, by omega, by go_num, B23, Rz_23, Rb_23, NX⟩
      case measure => simp [intOf] <;> omega
    · obtain rfl : k = 31 := by omega
      have e := bv_to HP.out.2.1 HP.out.2.2
      rw [HR.out] at e
      cases e
      obtain ⟨cz_20_0, cz_20_1⟩ := cells2s Rz_20
      obtain ⟨cb_20_0, cb_20_1⟩ := cells2s Rb_20
      obtain ⟨cz_20_0, cz_20_1⟩ := cells2s Rz_20
      obtain ⟨cb_20_0, cb_20_1⟩ := cells2s Rb_20
      clear cz_20_0 cz_20_1
      go_wp2_with fail
      refine (KW.out _).mono ?_
      rintro r w21 ⟨rfl, b21⟩
      have B21 : Below w.heap.size w w21 := btr B20 b21
      have Rz_21 := heap_of b21 _ _ _ Rz_20
      have Rb_21 := heap_of b21 _ _ _ Rb_20
      clear b21 B20 Rz_20 Rb_20 cb_20_0 cb_20_1
      obtain ⟨cb_21_0, cb_21_1⟩ := cells2s Rb_21
      obtain ⟨cz_21_0, cz_21_1⟩ := cells2s Rz_21
      have q0 := fz (k := 0) Rz_21
      have q1 := fz (k := 1) Rz_21
      obtain ⟨E0, E1⟩ := set2_cells Rz_21 (.int .u64 (u : Nat)) (.int .u64 (v : Nat))
      go_wp2
      exact bodyPost_ret (v := .agg #[.int .u64 (u : Nat), .int .u64 (v : Nat)]) (by simp [results, Tryd.results31, go_sem, E0, E1]) rfl ⟨rfl, set2_below B21 (by first | exact Nat.le_refl _ | omega | (have := S1.out; have := Lz_1.out; omega)) _ _⟩
set_option maxRecDepth 100000 in
set_option maxHeartbeats 8000000 in
theorem r22_NaN_d (u v : Nat) (hr : bv7 (0 + (2 ^ 63 - 2 ^ 51)) = (u, v)) (w : World) (KW : Box (∀ w, Calls Tryd.prog 7 #[.int .u8 1] w fun r w' => r = .returned (.int .i64 64) ∧ Below w.heap.size w w')) : Calls Tryd.prog 31 #[.int .u8 1] w fun r w' => r = .returned (.agg #[.int .u64 (u : Nat), .int .u64 (v : Nat)]) ∧ Below w.heap.size w w' := by
  have HR := box hr
  have HBB : Box (0 < 2 ^ 51) := box (Nat.two_pow_pos _)
  clear hr
  obtain ⟨Rz_0, B0⟩ := opn1 w (Obj.cells #[.int .u64 0, .int .u64 0] 25)
  go_enter Tryd.func31, Tryd.ntmps31
  obtain ⟨cz_0_0, cz_0_1⟩ := cells2s Rz_0
  have S1 := box B0.size
  have Lz_1 : Box (w.heap.size < (w.alloc (Obj.cells #[.int .u64 0, .int .u64 0] 25)).heap.size) := box (Array.getElem?_eq_some_iff.1 Rz_0).1
  have Rb_1 := heap_alloc_last (w.alloc (Obj.cells #[.int .u64 0, .int .u64 0] 25)) (Obj.cells #[.int .u64 0, .int .u64 0] 25)
  have B1 := btr B0 (bal (w.alloc (Obj.cells #[.int .u64 0, .int .u64 0] 25)) (Obj.cells #[.int .u64 0, .int .u64 0] 25))
  have Rz_1 := heap_of (bal (w.alloc (Obj.cells #[.int .u64 0, .int .u64 0] 25)) (Obj.cells #[.int .u64 0, .int .u64 0] 25)) _ _ _ Rz_0
  clear B0 Rz_0 cz_0_0 cz_0_1
  obtain ⟨cz_1_0, cz_1_1⟩ := cells2s Rz_1
  obtain ⟨cb_1_0, cb_1_1⟩ := cells2s Rb_1
  go_wp2_with fail
  go_loopw [5] (fun iv wr => ∃ k p q : Nat, 51 ≤ k ∧ k ≤ 63 ∧ iv = .int .i64 (k : Int) ∧ Below w.heap.size w wr ∧ wr.heap[w.heap.size]? = some (.cells #[.int .u64 0, .int .u64 0] 25) ∧ wr.heap[w.heap.size + 1]? = some (.cells #[.int .u64 (p : Nat), .int .u64 (q : Nat)] 25) ∧ Box (p < 18446744073709551616 ∧ q < 18446744073709551616 ∧ q + 18446744073709551616 * p = 0 + (2 ^ k - 2 ^ 51))) (fun iv _ => 128 - (intOf iv).toNat)
  case atStart => exact ⟨51, 0, 0, by omega, by omega, rfl, B1, Rz_1, (by have q := Rb_1; simp only [size_al] at q; exact q), box ⟨by decide, by decide, by rw [Nat.sub_self]⟩⟩
  case round =>
    obtain ⟨k, p, q, k1, k2, rfl, B20, Rz_20, Rb_20, HP⟩ := hrel
    obtain ⟨w20, hw⟩ : ∃ w20, w20 = wr := ⟨_, rfl⟩
    subst hw
    clear Rz_1 Rb_1 B1
    by_cases hlt : k < 63
    · have dl : decide ((k : Int) < 63) = true := decide_eq_true (by omega)
      obtain ⟨u1, v1, h1⟩ : ∃ u v, bv7 (0 + (2 ^ (k + 1) - 2 ^ 51)) = (u, v) := ⟨_, _, rfl⟩
      have os := ones_step (B := 0) k1 HBB.out
      have KX := box (fun w => r22_with p q _ k u1 v1 HP.out.1 HP.out.2.1 HP.out.2.2 (by omega) os.1 (by rw [os.2]; exact h1) w)
      have NX := box (bv_of h1 (low_128 (ones_step (k := k + 1) (B := 0) (by omega) HBB.out).1 (by omega)))
      clear os h1
      obtain ⟨cz_20_0, cz_20_1⟩ := cells2s Rz_20
      obtain ⟨cb_20_0, cb_20_1⟩ := cells2s Rb_20
      obtain ⟨cz_20_0, cz_20_1⟩ := cells2s Rz_20
      obtain ⟨cb_20_0, cb_20_1⟩ := cells2s Rb_20
      clear cz_20_0 cz_20_1
      go_wp2_with fail
      refine (KW.out _).mono ?_
      rintro r w21 ⟨rfl, b21⟩
      have B21 : Below w.heap.size w w21 := btr B20 b21
      have Rz_21 := heap_of b21 _ _ _ Rz_20
      have Rb_21 := heap_of b21 _ _ _ Rb_20
      clear b21 B20 Rz_20 Rb_20 cb_20_0 cb_20_1
      obtain ⟨cb_21_0, cb_21_1⟩ := cells2s Rb_21
      go_wp2_with fail
      refine (KX.out _).mono ?_
      rintro r w22 ⟨rfl, b22⟩
      have B22 : Below w.heap.size w w22 := btr B21 b22
      have Rz_22 := heap_of b22 _ _ _ Rz_21
      have Rb_22 := heap_of b22 _ _ _ Rb_21
      clear b22 B21 Rz_21 Rb_21 cb_21_0 cb_21_1
      obtain ⟨cb_22_0, cb_22_1⟩ := cells2s Rb_22
      have q0_23 := fz (k := 0) Rb_22
      have q1_23 := fz (k := 1) Rb_22
      have B23 := set2_below B22 (show w.heap.size ≤ w.heap.size + 1 by first | exact Nat.le_refl _ | omega | (have := S1.out; have := Lz_1.out; omega)) (.int .u64 (u1 : Nat)) (.int .u64 (v1 : Nat))
      have Rb_23 : ((w22.setCell ⟨w.heap.size + 1, 0, none⟩ (.int .u64 (u1 : Nat))).setCell ⟨w.heap.size + 1, 1, none⟩ (.int .u64 (v1 : Nat))).heap[w.heap.size + 1]? = some (Obj.cells #[.int .u64 (u1 : Nat), .int .u64 (v1 : Nat)] 25) := set2_row Rb_22 _ _
      have Rz_23 : ((w22.setCell ⟨w.heap.size + 1, 0, none⟩ (.int .u64 (u1 : Nat))).setCell ⟨w.heap.size + 1, 1, none⟩ (.int .u64 (v1 : Nat))).heap[w.heap.size]? = some (Obj.cells #[.int .u64 0, .int .u64 0] 25) := (setCell_other (by first | omega | (have := S1.out; have := Lz_1.out; omega))).trans ((setCell_other (by first | omega | (have := S1.out; have := Lz_1.out; omega))).trans Rz_22)
      obtain ⟨cb_23_0, cb_23_1⟩ := cells2s Rb_23
      go_wp2
      go_roundw
      case rel => exact ⟨k + 1, u1, v1, by omega, by omega, by go_num, B23, Rz_23, Rb_23, NX⟩
      case measure => simp [intOf] <;> omega
    · obtain rfl : k = 63 := by omega
      have e := bv_to HP.out.2.1 HP.out.2.2
      rw [HR.out] at e
      cases e
      obtain ⟨cz_20_0, cz_20_1⟩ := cells2s Rz_20
      obtain ⟨cb_20_0, cb_20_1⟩ := cells2s Rb_20
      obtain ⟨cz_20_0, cz_20_1⟩ := cells2s Rz_20
      obtain ⟨cb_20_0, cb_20_1⟩ := cells2s Rb_20
      clear cz_20_0 cz_20_1
      go_wp2_with fail
      refine (KW.out _).mono ?_
      rintro r w21 ⟨rfl, b21⟩
      have B21 : Below w.heap.size w w21 := btr B20 b21
      have Rz_21 := heap_of b21 _ _ _ Rz_20
      have Rb_21 := heap_of b21 _ _ _ Rb_20
      clear b21 B20 Rz_20 Rb_20 cb_20_0 cb_20_1
      obtain ⟨cb_21_0, cb_21_1⟩ := cells2s Rb_21
      obtain ⟨cz_21_0, cz_21_1⟩ := cells2s Rz_21
      have q0 := fz (k := 0) Rz_21
      have q1 := fz (k := 1) Rz_21
      obtain ⟨E0, E1⟩ := set2_cells Rz_21 (.int .u64 (u : Nat)) (.int .u64 (v : Nat))
      go_wp2
      exact bodyPost_ret (v := .agg #[.int .u64 (u : Nat), .int .u64 (v : Nat)]) (by simp [results, Tryd.results31, go_sem, E0, E1]) rfl ⟨rfl, set2_below B21 (by first | exact Nat.le_refl _ | omega | (have := S1.out; have := Lz_1.out; omega)) _ _⟩
set_option maxRecDepth 100000 in
set_option maxHeartbeats 8000000 in
theorem r22_NaN_q (u v : Nat) (hr : bv7 (0 + (2 ^ 127 - 2 ^ 111)) = (u, v)) (w : World) (KW : Box (∀ w, Calls Tryd.prog 7 #[.int .u8 3] w fun r w' => r = .returned (.int .i64 128) ∧ Below w.heap.size w w')) : Calls Tryd.prog 31 #[.int .u8 3] w fun r w' => r = .returned (.agg #[.int .u64 (u : Nat), .int .u64 (v : Nat)]) ∧ Below w.heap.size w w' := by
  have HR := box hr
  have HBB : Box (0 < 2 ^ 111) := box (Nat.two_pow_pos _)
  clear hr
  obtain ⟨Rz_0, B0⟩ := opn1 w (Obj.cells #[.int .u64 0, .int .u64 0] 25)
  go_enter Tryd.func31, Tryd.ntmps31
  obtain ⟨cz_0_0, cz_0_1⟩ := cells2s Rz_0
  have S1 := box B0.size
  have Lz_1 : Box (w.heap.size < (w.alloc (Obj.cells #[.int .u64 0, .int .u64 0] 25)).heap.size) := box (Array.getElem?_eq_some_iff.1 Rz_0).1
  have Rb_1 := heap_alloc_last (w.alloc (Obj.cells #[.int .u64 0, .int .u64 0] 25)) (Obj.cells #[.int .u64 0, .int .u64 0] 25)
  have B1 := btr B0 (bal (w.alloc (Obj.cells #[.int .u64 0, .int .u64 0] 25)) (Obj.cells #[.int .u64 0, .int .u64 0] 25))
  have Rz_1 := heap_of (bal (w.alloc (Obj.cells #[.int .u64 0, .int .u64 0] 25)) (Obj.cells #[.int .u64 0, .int .u64 0] 25)) _ _ _ Rz_0
  clear B0 Rz_0 cz_0_0 cz_0_1
  obtain ⟨cz_1_0, cz_1_1⟩ := cells2s Rz_1
  obtain ⟨cb_1_0, cb_1_1⟩ := cells2s Rb_1
  go_wp2_with fail
  go_loopw [5] (fun iv wr => ∃ k p q : Nat, 111 ≤ k ∧ k ≤ 127 ∧ iv = .int .i64 (k : Int) ∧ Below w.heap.size w wr ∧ wr.heap[w.heap.size]? = some (.cells #[.int .u64 0, .int .u64 0] 25) ∧ wr.heap[w.heap.size + 1]? = some (.cells #[.int .u64 (p : Nat), .int .u64 (q : Nat)] 25) ∧ Box (p < 18446744073709551616 ∧ q < 18446744073709551616 ∧ q + 18446744073709551616 * p = 0 + (2 ^ k - 2 ^ 111))) (fun iv _ => 128 - (intOf iv).toNat)
  case atStart => exact ⟨111, 0, 0, by omega, by omega, rfl, B1, Rz_1, (by have q := Rb_1; simp only [size_al] at q; exact q), box ⟨by decide, by decide, by rw [Nat.sub_self]⟩⟩
  case round =>
    obtain ⟨k, p, q, k1, k2, rfl, B20, Rz_20, Rb_20, HP⟩ := hrel
    obtain ⟨w20, hw⟩ : ∃ w20, w20 = wr := ⟨_, rfl⟩
    subst hw
    clear Rz_1 Rb_1 B1
    by_cases hlt : k < 127
    · have dl : decide ((k : Int) < 127) = true := decide_eq_true (by omega)
      obtain ⟨u1, v1, h1⟩ : ∃ u v, bv7 (0 + (2 ^ (k + 1) - 2 ^ 111)) = (u, v) := ⟨_, _, rfl⟩
      have os := ones_step (B := 0) k1 HBB.out
      have KX := box (fun w => r22_with p q _ k u1 v1 HP.out.1 HP.out.2.1 HP.out.2.2 (by omega) os.1 (by rw [os.2]; exact h1) w)
      have NX := box (bv_of h1 (low_128 (ones_step (k := k + 1) (B := 0) (by omega) HBB.out).1 (by omega)))
      clear os h1
      obtain ⟨cz_20_0, cz_20_1⟩ := cells2s Rz_20
      obtain ⟨cb_20_0, cb_20_1⟩ := cells2s Rb_20
      obtain ⟨cz_20_0, cz_20_1⟩ := cells2s Rz_20
      obtain ⟨cb_20_0, cb_20_1⟩ := cells2s Rb_20
      clear cz_20_0 cz_20_1
      go_wp2_with fail
      refine (KW.out _).mono ?_
      rintro r w21 ⟨rfl, b21⟩
      have B21 : Below w.heap.size w w21 := btr B20 b21
      have Rz_21 := heap_of b21 _ _ _ Rz_20
      have Rb_21 := heap_of b21 _ _ _ Rb_20
      clear b21 B20 Rz_20 Rb_20 cb_20_0 cb_20_1
      obtain ⟨cb_21_0, cb_21_1⟩ := cells2s Rb_21
      go_wp2_with fail
      refine (KX.out _).mono ?_
      rintro r w22 ⟨rfl, b22⟩
      have B22 : Below w.heap.size w w22 := btr B21 b22
      have Rz_22 := heap_of b22 _ _ _ Rz_21
      have Rb_22 := heap_of b22 _ _ _ Rb_21
      clear b22 B21 Rz_21 Rb_21 cb_21_0 cb_21_1
      obtain ⟨cb_22_0, cb_22_1⟩ := cells2s Rb_22
      have q0_23 := fz (k := 0) Rb_22
      have q1_23 := fz (k := 1) Rb_22
      have B23 := set2_below B22 (show w.heap.size ≤ w.heap.size + 1 by first | exact Nat.le_refl _ | omega | (have := S1.out; have := Lz_1.out; omega)) (.int .u64 (u1 : Nat)) (.int .u64 (v1 : Nat))
      have Rb_23 : ((w22.setCell ⟨w.heap.size + 1, 0, none⟩ (.int .u64 (u1 : Nat))).setCell ⟨w.heap.size + 1, 1, none⟩ (.int .u64 (v1 : Nat))).heap[w.heap.size + 1]? = some (Obj.cells #[.int .u64 (u1 : Nat), .int .u64 (v1 : Nat)] 25) := set2_row Rb_22 _ _
      have Rz_23 : ((w22.setCell ⟨w.heap.size + 1, 0, none⟩ (.int .u64 (u1 : Nat))).setCell ⟨w.heap.size + 1, 1, none⟩ (.int .u64 (v1 : Nat))).heap[w.heap.size]? = some (Obj.cells #[.int .u64 0, .int .u64 0] 25) := (setCell_other (by first | omega | (have := S1.out; have := Lz_1.out; omega))).trans ((setCell_other (by first | omega | (have := S1.out; have := Lz_1.out; omega))).trans Rz_22)
      obtain ⟨cb_23_0, cb_23_1⟩ := cells2s Rb_23
      go_wp2
      go_roundw
      case rel => exact ⟨k + 1, u1, v1, by omega, by omega, by go_num, B23, Rz_23, Rb_23, NX⟩
      case measure => simp [intOf] <;> omega
    · obtain rfl : k = 127 := by omega
      have e := bv_to HP.out.2.1 HP.out.2.2
      rw [HR.out] at e
      cases e
      obtain ⟨cz_20_0, cz_20_1⟩ := cells2s Rz_20
      obtain ⟨cb_20_0, cb_20_1⟩ := cells2s Rb_20
      obtain ⟨cz_20_0, cz_20_1⟩ := cells2s Rz_20
      obtain ⟨cb_20_0, cb_20_1⟩ := cells2s Rb_20
      clear cz_20_0 cz_20_1
      go_wp2_with fail
      refine (KW.out _).mono ?_
      rintro r w21 ⟨rfl, b21⟩
      have B21 : Below w.heap.size w w21 := btr B20 b21
      have Rz_21 := heap_of b21 _ _ _ Rz_20
      have Rb_21 := heap_of b21 _ _ _ Rb_20
      clear b21 B20 Rz_20 Rb_20 cb_20_0 cb_20_1
      obtain ⟨cb_21_0, cb_21_1⟩ := cells2s Rb_21
      obtain ⟨cz_21_0, cz_21_1⟩ := cells2s Rz_21
      have q0 := fz (k := 0) Rz_21
      have q1 := fz (k := 1) Rz_21
      obtain ⟨E0, E1⟩ := set2_cells Rz_21 (.int .u64 (u : Nat)) (.int .u64 (v : Nat))
      go_wp2
      exact bodyPost_ret (v := .agg #[.int .u64 (u : Nat), .int .u64 (v : Nat)]) (by simp [results, Tryd.results31, go_sem, E0, E1]) rfl ⟨rfl, set2_below B21 (by first | exact Nat.le_refl _ | omega | (have := S1.out; have := Lz_1.out; omega)) _ _⟩
set_option maxRecDepth 100000 in
set_option maxHeartbeats 8000000 in
theorem r22_Unbox_y (f : Int) (x y u v : Nat) (w : World) (KI : Box (∀ w, Calls Tryd.prog 13 #[.int .u8 f, .agg #[.int .u64 (x : Nat), .int .u64 (y : Nat)]] w fun r w' => r = .returned (.bool true) ∧ Below w.heap.size w w')) (KL : Box (∀ w, Calls Tryd.prog 17 #[.int .u8 f, .agg #[.int .u64 (x : Nat), .int .u64 (y : Nat)]] w fun r w' => r = .returned (.agg #[.int .u64 (u : Nat), .int .u64 (v : Nat)]) ∧ Below w.heap.size w w')) : Calls Tryd.prog 16 #[.int .u8 f, .agg #[.int .u64 (x : Nat), .int .u64 (y : Nat)]] w fun r w' => r = .returned (.agg #[.int .u64 (u : Nat), .int .u64 (v : Nat)]) ∧ Below w.heap.size w w' := by
  obtain ⟨Ra_0, Rz_0, B0⟩ := opn2 w (Obj.cells #[.int .u64 (x : Nat), .int .u64 (y : Nat)] 25) (Obj.cells #[.int .u64 0, .int .u64 0] 25)
  go_enter Tryd.func16, Tryd.ntmps16
  obtain ⟨ca_0_0, ca_0_1⟩ := cells2s Ra_0
  go_wp2_with fail
  refine (KI.out _).mono ?_
  rintro r w1 ⟨rfl, b1⟩
  have B1 : Below w.heap.size w w1 := btr B0 b1
  have Ra_1 := heap_of b1 _ _ _ Ra_0
  have Rz_1 := heap_of b1 _ _ _ Rz_0
  clear b1 B0 Ra_0 ca_0_0 ca_0_1 Rz_0
  obtain ⟨ca_1_0, ca_1_1⟩ := cells2s Ra_1
  go_wp2_with fail
  refine (KL.out _).mono ?_
  rintro r w2 ⟨rfl, b2⟩
  have B2 : Below w.heap.size w w2 := btr B1 b2
  have Ra_2 := heap_of b2 _ _ _ Ra_1
  have Rz_2 := heap_of b2 _ _ _ Rz_1
  clear b2 B1 Ra_1 ca_1_0 ca_1_1 Rz_1
  obtain ⟨ca_2_0, ca_2_1⟩ := cells2s Ra_2
  obtain ⟨cz_2_0, cz_2_1⟩ := cells2s Rz_2
  have q0 := fz (k := 0) Rz_2
  have q1 := fz (k := 1) Rz_2
  obtain ⟨E0, E1⟩ := set2_cells Rz_2 (.int .u64 (u : Nat)) (.int .u64 (v : Nat))
  go_wp2
  exact bodyPost_ret (v := .agg #[.int .u64 (u : Nat), .int .u64 (v : Nat)]) (by simp [results, Tryd.results16, go_sem, E0, E1]) rfl ⟨rfl, set2_below B2 (by first | exact Nat.le_refl _ | omega | (skip; omega)) _ _⟩
set_option maxRecDepth 100000 in
set_option maxHeartbeats 8000000 in
theorem r22_Unbox_n (f : Int) (x y u v : Nat) (w : World) (KI : Box (∀ w, Calls Tryd.prog 13 #[.int .u8 f, .agg #[.int .u64 (x : Nat), .int .u64 (y : Nat)]] w fun r w' => r = .returned (.bool false) ∧ Below w.heap.size w w')) (KL : Box (∀ w, Calls Tryd.prog 31 #[.int .u8 f] w fun r w' => r = .returned (.agg #[.int .u64 (u : Nat), .int .u64 (v : Nat)]) ∧ Below w.heap.size w w')) : Calls Tryd.prog 16 #[.int .u8 f, .agg #[.int .u64 (x : Nat), .int .u64 (y : Nat)]] w fun r w' => r = .returned (.agg #[.int .u64 (u : Nat), .int .u64 (v : Nat)]) ∧ Below w.heap.size w w' := by
  obtain ⟨Ra_0, Rz_0, B0⟩ := opn2 w (Obj.cells #[.int .u64 (x : Nat), .int .u64 (y : Nat)] 25) (Obj.cells #[.int .u64 0, .int .u64 0] 25)
  go_enter Tryd.func16, Tryd.ntmps16
  obtain ⟨ca_0_0, ca_0_1⟩ := cells2s Ra_0
  go_wp2_with fail
  refine (KI.out _).mono ?_
  rintro r w1 ⟨rfl, b1⟩
  have B1 : Below w.heap.size w w1 := btr B0 b1
  have Ra_1 := heap_of b1 _ _ _ Ra_0
  have Rz_1 := heap_of b1 _ _ _ Rz_0
  clear b1 B0 Ra_0 ca_0_0 ca_0_1 Rz_0
  obtain ⟨ca_1_0, ca_1_1⟩ := cells2s Ra_1
  go_wp2_with fail
  refine (KL.out _).mono ?_
  rintro r w2 ⟨rfl, b2⟩
  have B2 : Below w.heap.size w w2 := btr B1 b2
  have Ra_2 := heap_of b2 _ _ _ Ra_1
  have Rz_2 := heap_of b2 _ _ _ Rz_1
  clear b2 B1 Ra_1 ca_1_0 ca_1_1 Rz_1
  obtain ⟨ca_2_0, ca_2_1⟩ := cells2s Ra_2
  obtain ⟨cz_2_0, cz_2_1⟩ := cells2s Rz_2
  have q0 := fz (k := 0) Rz_2
  have q1 := fz (k := 1) Rz_2
  obtain ⟨E0, E1⟩ := set2_cells Rz_2 (.int .u64 (u : Nat)) (.int .u64 (v : Nat))
  go_wp2
  exact bodyPost_ret (v := .agg #[.int .u64 (u : Nat), .int .u64 (v : Nat)]) (by simp [results, Tryd.results16, go_sem, E0, E1]) rfl ⟨rfl, set2_below B2 (by first | exact Nat.le_refl _ | omega | (skip; omega)) _ _⟩
end Go.Proofs.YtakmlgcnfbiagaaDoor
