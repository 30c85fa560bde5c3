/-
  What the functions that the statement reaches return: part 3 (JB, JC, JE).
-/
import Derived.Test.YtjbnifhpbdjonaaDoorRp02
namespace Go.Proofs.YtjbnifhpbdjonaaDoor
set_option maxRecDepth 100000
set_option maxHeartbeats 40000000
set_option maxRecDepth 100000
open Go.RowKit WMath
set_option linter.unusedSimpArgs false
set_option linter.unusedVariables false
set_option maxRecDepth 100000 in
set_option maxHeartbeats 8000000 in
theorem r22_IsBoxed_y (f : Int) (W : Nat) (hW : W ≤ 128) (x y N : Nat) (hx : x < 18446744073709551616) (hy : y < 18446744073709551616) (hN : y + 18446744073709551616 * x = N) (hb : ∀ k, W ≤ k → k < 128 → N.testBit k = true) (w : World) (KW : Box (∀ w, Calls Tryd.prog 54 #[.int .u8 f] w fun r w' => r = .returned (.int .i64 (W : Nat)) ∧ Below w.heap.size w w')) : Calls Tryd.prog 71 #[.int .u8 f, .agg #[.int .u64 (x : Nat), .int .u64 (y : Nat)]] w fun r w' => r = .returned (.bool (decide (0 < W))) ∧ Below w.heap.size w w' := by
  have HB := box hb
  have HX := box (And.intro hx (And.intro hy hN))
  have h0 : decide ((0 : Int) < ((W : Nat) : Int)) = decide (0 < W) := decide_eq_decide.2 (by omega)
  clear hb hx hy hN
  obtain ⟨Rb_0, B0⟩ := opn1 w (Obj.cells #[.int .u64 (x : Nat), .int .u64 (y : Nat)] 25)
  go_enter Tryd.func71, Tryd.ntmps71
  obtain ⟨cb_0_0, cb_0_1⟩ := cells2s Rb_0
  go_wp2_with fail
  refine (KW.out _).mono ?_
  rintro r w1 ⟨rfl, b1⟩
  have B1 : Below w.heap.size w w1 := btr B0 b1
  have Rb_1 := heap_of b1 _ _ _ Rb_0
  clear b1 B0 Rb_0 cb_0_0 cb_0_1
  obtain ⟨cb_1_0, cb_1_1⟩ := cells2s Rb_1
  go_wp2_with fail
  go_loopw [5] (fun iv wr => ∃ k : Nat, W ≤ k ∧ k ≤ 128 ∧ iv = .int .i64 (k : Int) ∧ Below w.heap.size w wr ∧ wr.heap[w.heap.size]? = some (.cells #[.int .u64 (x : Nat), .int .u64 (y : Nat)] 25)) (fun iv _ => 128 - (intOf iv).toNat)
  case atStart => exact ⟨W, by omega, by omega, rfl, B1, Rb_1⟩
  case round =>
    obtain ⟨k, k1, k2, rfl, B20, Rb_20⟩ := hrel
    obtain ⟨w20, hw⟩ : ∃ w20, w20 = wr := ⟨_, rfl⟩
    subst hw
    clear Rb_1 B1
    by_cases hlt : k < 128
    · have dl : decide ((k : Int) < 128) = true := decide_eq_true (by omega)
      have KB := box (fun w => r22_bit x y N k HX.out.1 HX.out.2.1 HX.out.2.2 (by omega) true (HB.out k k1 hlt) w)
      obtain ⟨cb_20_0, cb_20_1⟩ := cells2s Rb_20
      go_wp2_with fail
      refine (KB.out _).mono ?_
      rintro r w21 ⟨rfl, b21⟩
      have B21 : Below w.heap.size w w21 := btr B20 b21
      have Rb_21 := heap_of b21 _ _ _ Rb_20
      clear b21 B20 Rb_20 cb_20_0 cb_20_1
      obtain ⟨cb_21_0, cb_21_1⟩ := cells2s Rb_21
      go_wp2
      go_roundw
      case rel => exact ⟨k + 1, by omega, by omega, by go_num, B21, Rb_21⟩
      case measure => simp [intOf] <;> omega
    · obtain rfl : k = 128 := by omega
      obtain ⟨cb_20_0, cb_20_1⟩ := cells2s Rb_20
      go_wp2_with fail
      refine (KW.out _).mono ?_
      rintro r w21 ⟨rfl, b21⟩
      have B21 : Below w.heap.size w w21 := btr B20 b21
      have Rb_21 := heap_of b21 _ _ _ Rb_20
      clear b21 B20 Rb_20 cb_20_0 cb_20_1
      obtain ⟨cb_21_0, cb_21_1⟩ := cells2s Rb_21
      go_wp2
      go_ret
      exact ⟨rfl, B21⟩
set_option maxRecDepth 100000 in
set_option maxHeartbeats 8000000 in
theorem r22_IsBoxed_n (f : Int) (W : Nat) (hW : W ≤ 128) (x y N : Nat) (hx : x < 18446744073709551616) (hy : y < 18446744073709551616) (hN : y + 18446744073709551616 * x = N) (m : Nat) (m1 : W ≤ m) (m2 : m < 128) (hm : N.testBit m = false) (hb : ∀ k, W ≤ k → k < m → N.testBit k = true) (w : World) (KW : Box (∀ w, Calls Tryd.prog 54 #[.int .u8 f] w fun r w' => r = .returned (.int .i64 (W : Nat)) ∧ Below w.heap.size w w')) : Calls Tryd.prog 71 #[.int .u8 f, .agg #[.int .u64 (x : Nat), .int .u64 (y : Nat)]] w fun r w' => r = .returned (.bool false) ∧ Below w.heap.size w w' := by
  have HB := box hb
  have HX := box (And.intro hx (And.intro hy hN))
  have h0 : decide ((0 : Int) < ((W : Nat) : Int)) = decide (0 < W) := decide_eq_decide.2 (by omega)
  clear hb hx hy hN
  obtain ⟨Rb_0, B0⟩ := opn1 w (Obj.cells #[.int .u64 (x : Nat), .int .u64 (y : Nat)] 25)
  go_enter Tryd.func71, Tryd.ntmps71
  obtain ⟨cb_0_0, cb_0_1⟩ := cells2s Rb_0
  go_wp2_with fail
  refine (KW.out _).mono ?_
  rintro r w1 ⟨rfl, b1⟩
  have B1 : Below w.heap.size w w1 := btr B0 b1
  have Rb_1 := heap_of b1 _ _ _ Rb_0
  clear b1 B0 Rb_0 cb_0_0 cb_0_1
  obtain ⟨cb_1_0, cb_1_1⟩ := cells2s Rb_1
  go_wp2_with fail
  go_loopw [5] (fun iv wr => ∃ k : Nat, W ≤ k ∧ k ≤ m ∧ iv = .int .i64 (k : Int) ∧ Below w.heap.size w wr ∧ wr.heap[w.heap.size]? = some (.cells #[.int .u64 (x : Nat), .int .u64 (y : Nat)] 25)) (fun iv _ => 128 - (intOf iv).toNat)
  case atStart => exact ⟨W, by omega, by omega, rfl, B1, Rb_1⟩
  case round =>
    obtain ⟨k, k1, k2, rfl, B20, Rb_20⟩ := hrel
    obtain ⟨w20, hw⟩ : ∃ w20, w20 = wr := ⟨_, rfl⟩
    subst hw
    clear Rb_1 B1
    by_cases hlt : k < m
    · have dl : decide ((k : Int) < 128) = true := decide_eq_true (by omega)
      have KB := box (fun w => r22_bit x y N k HX.out.1 HX.out.2.1 HX.out.2.2 (by omega) true (HB.out k k1 hlt) w)
      obtain ⟨cb_20_0, cb_20_1⟩ := cells2s Rb_20
      go_wp2_with fail
      refine (KB.out _).mono ?_
      rintro r w21 ⟨rfl, b21⟩
      have B21 : Below w.heap.size w w21 := btr B20 b21
      have Rb_21 := heap_of b21 _ _ _ Rb_20
      clear b21 B20 Rb_20 cb_20_0 cb_20_1
      obtain ⟨cb_21_0, cb_21_1⟩ := cells2s Rb_21
      go_wp2
      go_roundw
      case rel => exact ⟨k + 1, by omega, by omega, by go_num, B21, Rb_21⟩
      case measure => simp [intOf] <;> omega
    · obtain rfl : k = m := by omega
      have dl : decide ((k : Int) < 128) = true := decide_eq_true (by omega)
      have KB := box (fun w => r22_bit x y N k HX.out.1 HX.out.2.1 HX.out.2.2 (by omega) false hm w)
      obtain ⟨cb_20_0, cb_20_1⟩ := cells2s Rb_20
      go_wp2_with fail
      refine (KB.out _).mono ?_
      rintro r w21 ⟨rfl, b21⟩
      have B21 : Below w.heap.size w w21 := btr B20 b21
      have Rb_21 := heap_of b21 _ _ _ Rb_20
      clear b21 B20 Rb_20 cb_20_0 cb_20_1
      obtain ⟨cb_21_0, cb_21_1⟩ := cells2s Rb_21
      go_wp2
      go_ret
      exact ⟨rfl, B21⟩
set_option maxRecDepth 100000 in
set_option maxHeartbeats 8000000 in
theorem r22_Fits_y (f : Int) (W : Nat) (hW : W ≤ 128) (x y N : Nat) (hx : x < 18446744073709551616) (hy : y < 18446744073709551616) (hN : y + 18446744073709551616 * x = N) (hb : ∀ k, W ≤ k → k < 128 → N.testBit k = false) (w : World) (KW : Box (∀ w, Calls Tryd.prog 54 #[.int .u8 f] w fun r w' => r = .returned (.int .i64 (W : Nat)) ∧ Below w.heap.size w w')) : Calls Tryd.prog 52 #[.int .u8 f, .agg #[.int .u64 (x : Nat), .int .u64 (y : Nat)]] w fun r w' => r = .returned (.bool (decide (0 < W))) ∧ Below w.heap.size w w' := by
  have HB := box hb
  have HX := box (And.intro hx (And.intro hy hN))
  have h0 : decide ((0 : Int) < ((W : Nat) : Int)) = decide (0 < W) := decide_eq_decide.2 (by omega)
  clear hb hx hy hN
  obtain ⟨Rb_0, B0⟩ := opn1 w (Obj.cells #[.int .u64 (x : Nat), .int .u64 (y : Nat)] 25)
  go_enter Tryd.func52, Tryd.ntmps52
  obtain ⟨cb_0_0, cb_0_1⟩ := cells2s Rb_0
  go_wp2_with fail
  refine (KW.out _).mono ?_
  rintro r w1 ⟨rfl, b1⟩
  have B1 : Below w.heap.size w w1 := btr B0 b1
  have Rb_1 := heap_of b1 _ _ _ Rb_0
  clear b1 B0 Rb_0 cb_0_0 cb_0_1
  obtain ⟨cb_1_0, cb_1_1⟩ := cells2s Rb_1
  go_wp2_with fail
  go_loopw [5] (fun iv wr => ∃ k : Nat, W ≤ k ∧ k ≤ 128 ∧ iv = .int .i64 (k : Int) ∧ Below w.heap.size w wr ∧ wr.heap[w.heap.size]? = some (.cells #[.int .u64 (x : Nat), .int .u64 (y : Nat)] 25)) (fun iv _ => 128 - (intOf iv).toNat)
  case atStart => exact ⟨W, by omega, by omega, rfl, B1, Rb_1⟩
  case round =>
    obtain ⟨k, k1, k2, rfl, B20, Rb_20⟩ := hrel
    obtain ⟨w20, hw⟩ : ∃ w20, w20 = wr := ⟨_, rfl⟩
    subst hw
    clear Rb_1 B1
    by_cases hlt : k < 128
    · have dl : decide ((k : Int) < 128) = true := decide_eq_true (by omega)
      have KB := box (fun w => r22_bit x y N k HX.out.1 HX.out.2.1 HX.out.2.2 (by omega) false (HB.out k k1 hlt) w)
      obtain ⟨cb_20_0, cb_20_1⟩ := cells2s Rb_20
      go_wp2_with fail
      refine (KB.out _).mono ?_
      rintro r w21 ⟨rfl, b21⟩
      have B21 : Below w.heap.size w w21 := btr B20 b21
      have Rb_21 := heap_of b21 _ _ _ Rb_20
      clear b21 B20 Rb_20 cb_20_0 cb_20_1
      obtain ⟨cb_21_0, cb_21_1⟩ := cells2s Rb_21
      go_wp2
      go_roundw
      case rel => exact ⟨k + 1, by omega, by omega, by go_num, B21, Rb_21⟩
      case measure => simp [intOf] <;> omega
    · obtain rfl : k = 128 := by omega
      obtain ⟨cb_20_0, cb_20_1⟩ := cells2s Rb_20
      go_wp2_with fail
      refine (KW.out _).mono ?_
      rintro r w21 ⟨rfl, b21⟩
      have B21 : Below w.heap.size w w21 := btr B20 b21
      have Rb_21 := heap_of b21 _ _ _ Rb_20
      clear b21 B20 Rb_20 cb_20_0 cb_20_1
      obtain ⟨cb_21_0, cb_21_1⟩ := cells2s Rb_21
      go_wp2
      go_ret
      exact ⟨rfl, B21⟩
set_option maxRecDepth 100000 in
set_option maxHeartbeats 8000000 in
theorem r22_Fits_n (f : Int) (W : Nat) (hW : W ≤ 128) (x y N : Nat) (hx : x < 18446744073709551616) (hy : y < 18446744073709551616) (hN : y + 18446744073709551616 * x = N) (m : Nat) (m1 : W ≤ m) (m2 : m < 128) (hm : N.testBit m = true) (hb : ∀ k, W ≤ k → k < m → N.testBit k = false) (w : World) (KW : Box (∀ w, Calls Tryd.prog 54 #[.int .u8 f] w fun r w' => r = .returned (.int .i64 (W : Nat)) ∧ Below w.heap.size w w')) : Calls Tryd.prog 52 #[.int .u8 f, .agg #[.int .u64 (x : Nat), .int .u64 (y : Nat)]] w fun r w' => r = .returned (.bool false) ∧ Below w.heap.size w w' := by
  have HB := box hb
  have HX := box (And.intro hx (And.intro hy hN))
  have h0 : decide ((0 : Int) < ((W : Nat) : Int)) = decide (0 < W) := decide_eq_decide.2 (by omega)
  clear hb hx hy hN
  obtain ⟨Rb_0, B0⟩ := opn1 w (Obj.cells #[.int .u64 (x : Nat), .int .u64 (y : Nat)] 25)
  go_enter Tryd.func52, Tryd.ntmps52
  obtain ⟨cb_0_0, cb_0_1⟩ := cells2s Rb_0
  go_wp2_with fail
  refine (KW.out _).mono ?_
  rintro r w1 ⟨rfl, b1⟩
  have B1 : Below w.heap.size w w1 := btr B0 b1
  have Rb_1 := heap_of b1 _ _ _ Rb_0
  clear b1 B0 Rb_0 cb_0_0 cb_0_1
  obtain ⟨cb_1_0, cb_1_1⟩ := cells2s Rb_1
  go_wp2_with fail
  go_loopw [5] (fun iv wr => ∃ k : Nat, W ≤ k ∧ k ≤ m ∧ iv = .int .i64 (k : Int) ∧ Below w.heap.size w wr ∧ wr.heap[w.heap.size]? = some (.cells #[.int .u64 (x : Nat), .int .u64 (y : Nat)] 25)) (fun iv _ => 128 - (intOf iv).toNat)
  case atStart => exact ⟨W, by omega, by omega, rfl, B1, Rb_1⟩
  case round =>
    obtain ⟨k, k1, k2, rfl, B20, Rb_20⟩ := hrel
    obtain ⟨w20, hw⟩ : ∃ w20, w20 = wr := ⟨_, rfl⟩
    subst hw
    clear Rb_1 B1
    by_cases hlt : k < m
    · have dl : decide ((k : Int) < 128) = true := decide_eq_true (by omega)
      have KB := box (fun w => r22_bit x y N k HX.out.1 HX.out.2.1 HX.out.2.2 (by omega) false (HB.out k k1 hlt) w)
      obtain ⟨cb_20_0, cb_20_1⟩ := cells2s Rb_20
      go_wp2_with fail
      refine (KB.out _).mono ?_
      rintro r w21 ⟨rfl, b21⟩
      have B21 : Below w.heap.size w w21 := btr B20 b21
      have Rb_21 := heap_of b21 _ _ _ Rb_20
      clear b21 B20 Rb_20 cb_20_0 cb_20_1
      obtain ⟨cb_21_0, cb_21_1⟩ := cells2s Rb_21
      go_wp2
      go_roundw
      case rel => exact ⟨k + 1, by omega, by omega, by go_num, B21, Rb_21⟩
      case measure => simp [intOf] <;> omega
    · obtain rfl : k = m := by omega
      have dl : decide ((k : Int) < 128) = true := decide_eq_true (by omega)
      have KB := box (fun w => r22_bit x y N k HX.out.1 HX.out.2.1 HX.out.2.2 (by omega) true hm w)
      obtain ⟨cb_20_0, cb_20_1⟩ := cells2s Rb_20
      go_wp2_with fail
      refine (KB.out _).mono ?_
      rintro r w21 ⟨rfl, b21⟩
      have B21 : Below w.heap.size w w21 := btr B20 b21
      have Rb_21 := heap_of b21 _ _ _ Rb_20
      clear b21 B20 Rb_20 cb_20_0 cb_20_1
      obtain ⟨cb_21_0, cb_21_1⟩ := cells2s Rb_21
      go_wp2
      go_ret
      exact ⟨rfl, B21⟩
theorem ones_step {B k0 k : Nat} (h : k0 ≤ k) (hB : B < 2 ^ k0) : B + (2 ^ k - 2 ^ k0) < 2 ^ k ∧ B + (2 ^ k - 2 ^ k0) + 2 ^ k = B + (2 ^ (k + 1) - 2 ^ k0) := by
  have p := Nat.pow_le_pow_right (show 0 < 2 by decide) h
  have e : (2 : Nat) ^ (k + 1) = 2 * 2 ^ k := by rw [Nat.pow_succ, Nat.mul_comm]
  omega
theorem low_128 {n k : Nat} (h : n < 2 ^ k) (hk : k ≤ 128) : n < 340282366920938463463374607431768211456 :=
  Nat.lt_of_lt_of_le h (Nat.le_trans (Nat.pow_le_pow_right (by decide) hk) (by decide))
theorem bv_of {n u v : Nat} (h : bv7 n = (u, v)) (hn : n < 340282366920938463463374607431768211456) : u < 18446744073709551616 ∧ v < 18446744073709551616 ∧ v + 18446744073709551616 * u = n := by
  unfold bv7 at h
  cases h
  omega
theorem bv_to {n x y : Nat} (hy : y < 18446744073709551616) (h : y + 18446744073709551616 * x = n) : bv7 n = (x, y) := by
  unfold bv7
  subst h
  congr 1 <;> omega
set_option maxRecDepth 100000 in
set_option maxHeartbeats 8000000 in
theorem r22_Box (f : Int) (W : Nat) (hW : W ≤ 128) (x y N : Nat) (hx : x < 18446744073709551616) (hy : y < 18446744073709551616) (hN : y + 18446744073709551616 * x = N) (hB : N < 2 ^ W) (u v : Nat) (hr : bv7 (N + (2 ^ 128 - 2 ^ W)) = (u, v)) (w : World) (KW : Box (∀ w, Calls Tryd.prog 54 #[.int .u8 f] w fun r w' => r = .returned (.int .i64 (W : Nat)) ∧ Below w.heap.size w w')) : Calls Tryd.prog 53 #[.int .u8 f, .agg #[.int .u64 (x : Nat), .int .u64 (y : Nat)]] w fun r w' => r = .returned (.agg #[.int .u64 (u : Nat), .int .u64 (v : Nat)]) ∧ Below w.heap.size w w' := by
  have HR := box hr
  have HBB := box hB
  have HX := box (And.intro hx (And.intro hy hN))
  clear hr hB hx hy hN
  obtain ⟨Rb_0, Rz_0, B0⟩ := opn2 w (Obj.cells #[.int .u64 (x : Nat), .int .u64 (y : Nat)] 25) (Obj.cells #[.int .u64 0, .int .u64 0] 25)
  go_enter Tryd.func53, Tryd.ntmps53
  obtain ⟨cb_0_0, cb_0_1⟩ := cells2s Rb_0
  obtain ⟨cz_0_0, cz_0_1⟩ := cells2s Rz_0
  go_wp2_with fail
  refine (KW.out _).mono ?_
  rintro r w1 ⟨rfl, b1⟩
  have B1 : Below w.heap.size w w1 := btr B0 b1
  have Rb_1 := heap_of b1 _ _ _ Rb_0
  have Rz_1 := heap_of b1 _ _ _ Rz_0
  clear b1 B0 Rb_0 cb_0_0 cb_0_1 Rz_0 cz_0_0 cz_0_1
  obtain ⟨cb_1_0, cb_1_1⟩ := cells2s Rb_1
  obtain ⟨cz_1_0, cz_1_1⟩ := cells2s Rz_1
  go_wp2_with fail
  go_loopw [5] (fun iv wr => ∃ k p q : Nat, W ≤ k ∧ k ≤ 128 ∧ iv = .int .i64 (k : Int) ∧ Below w.heap.size w wr ∧ wr.heap[w.heap.size]? = some (.cells #[.int .u64 (p : Nat), .int .u64 (q : Nat)] 25) ∧ wr.heap[w.heap.size + 1]? = some (.cells #[.int .u64 0, .int .u64 0] 25) ∧ Box (p < 18446744073709551616 ∧ q < 18446744073709551616 ∧ q + 18446744073709551616 * p = N + (2 ^ k - 2 ^ W))) (fun iv _ => 128 - (intOf iv).toNat)
  case atStart => exact ⟨W, x, y, by omega, by omega, rfl, B1, Rb_1, Rz_1, box ⟨HX.out.1, HX.out.2.1, by rw [Nat.sub_self, Nat.add_zero]; exact HX.out.2.2⟩⟩
  case round =>
    obtain ⟨k, p, q, k1, k2, rfl, B20, Rb_20, Rz_20, HP⟩ := hrel
    obtain ⟨w20, hw⟩ : ∃ w20, w20 = wr := ⟨_, rfl⟩
    subst hw
    clear Rb_1 Rz_1 B1
    by_cases hlt : k < 128
    · have dl : decide ((k : Int) < 128) = true := decide_eq_true (by omega)
      obtain ⟨u1, v1, h1⟩ : ∃ u v, bv7 (N + (2 ^ (k + 1) - 2 ^ W)) = (u, v) := ⟨_, _, rfl⟩
      have os := ones_step (B := N) k1 HBB.out
      have KX := box (fun w => r22_with p q _ k u1 v1 HP.out.1 HP.out.2.1 HP.out.2.2 (by omega) os.1 (by rw [os.2]; exact h1) w)
      have NX := box (bv_of h1 (low_128 (ones_step (k := k + 1) (B := N) (by omega) HBB.out).1 (by omega)))
      clear os h1
      obtain ⟨cb_20_0, cb_20_1⟩ := cells2s Rb_20
      obtain ⟨cz_20_0, cz_20_1⟩ := cells2s Rz_20
      obtain ⟨cb_20_0, cb_20_1⟩ := cells2s Rb_20
      obtain ⟨cz_20_0, cz_20_1⟩ := cells2s Rz_20
      clear cz_20_0 cz_20_1
      go_wp2_with fail
      refine (KX.out _).mono ?_
      rintro r w21 ⟨rfl, b21⟩
      have B21 : Below w.heap.size w w21 := btr B20 b21
      have Rb_21 := heap_of b21 _ _ _ Rb_20
      have Rz_21 := heap_of b21 _ _ _ Rz_20
      clear b21 B20 Rb_20 cb_20_0 cb_20_1 Rz_20
      obtain ⟨cb_21_0, cb_21_1⟩ := cells2s Rb_21
      have q0_22 := fz (k := 0) Rb_21
      have q1_22 := fz (k := 1) Rb_21
      have B22 := set2_below B21 (show w.heap.size ≤ w.heap.size by first | exact Nat.le_refl _ | omega | (skip; omega)) (.int .u64 (u1 : Nat)) (.int .u64 (v1 : Nat))
      have Rb_22 : ((w21.setCell ⟨w.heap.size, 0, none⟩ (.int .u64 (u1 : Nat))).setCell ⟨w.heap.size, 1, none⟩ (.int .u64 (v1 : Nat))).heap[w.heap.size]? = some (Obj.cells #[.int .u64 (u1 : Nat), .int .u64 (v1 : Nat)] 25) := set2_row Rb_21 _ _
      have Rz_22 : ((w21.setCell ⟨w.heap.size, 0, none⟩ (.int .u64 (u1 : Nat))).setCell ⟨w.heap.size, 1, none⟩ (.int .u64 (v1 : Nat))).heap[w.heap.size + 1]? = some (Obj.cells #[.int .u64 0, .int .u64 0] 25) := (setCell_other (by first | omega | (skip; omega))).trans ((setCell_other (by first | omega | (skip; omega))).trans Rz_21)
      obtain ⟨cb_22_0, cb_22_1⟩ := cells2s Rb_22
      go_wp2
      go_roundw
      case rel => exact ⟨k + 1, u1, v1, by omega, by omega, by go_num, B22, Rb_22, Rz_22, NX⟩
      case measure => simp [intOf] <;> omega
    · obtain rfl : k = 128 := by omega
      have e := bv_to HP.out.2.1 HP.out.2.2
      rw [HR.out] at e
      cases e
      skip
      obtain ⟨cb_20_0, cb_20_1⟩ := cells2s Rb_20
      obtain ⟨cz_20_0, cz_20_1⟩ := cells2s Rz_20
      obtain ⟨cb_20_0, cb_20_1⟩ := cells2s Rb_20
      obtain ⟨cz_20_0, cz_20_1⟩ := cells2s Rz_20
      clear cz_20_0 cz_20_1
      obtain ⟨cz_20_0, cz_20_1⟩ := cells2s Rz_20
      have q0 := fz (k := 0) Rz_20
      have q1 := fz (k := 1) Rz_20
      obtain ⟨E0, E1⟩ := set2_cells Rz_20 (.int .u64 (u : Nat)) (.int .u64 (v : Nat))
      go_wp2
      exact bodyPost_ret (v := .agg #[.int .u64 (u : Nat), .int .u64 (v : Nat)]) (by simp [results, Tryd.results53, go_sem, E0, E1]) rfl ⟨rfl, set2_below B20 (by first | exact Nat.le_refl _ | omega | (skip; omega)) _ _⟩
theorem mod_bit2 (n k : Nat) : n % 2 ^ (k + 1) = n % 2 ^ k + (if n.testBit k = true then 2 ^ k else 0) := by
  rw [Nat.pow_succ, Nat.mod_mul, Nat.testBit_eq_decide_div_mod_eq]
  by_cases c : n / 2 ^ k % 2 = 1
  · rw [c]
    simp
  · have : n / 2 ^ k % 2 = 0 := by omega
    rw [this]
    simp
set_option maxRecDepth 100000 in
set_option maxHeartbeats 8000000 in
theorem r22_Low (f : Int) (W : Nat) (hW : W ≤ 128) (x y N : Nat) (hx : x < 18446744073709551616) (hy : y < 18446744073709551616) (hN : y + 18446744073709551616 * x = N) (u v : Nat) (hr : bv7 (N % 2 ^ W) = (u, v)) (w : World) (KW : Box (∀ w, Calls Tryd.prog 54 #[.int .u8 f] w fun r w' => r = .returned (.int .i64 (W : Nat)) ∧ Below w.heap.size w w')) : Calls Tryd.prog 56 #[.int .u8 f, .agg #[.int .u64 (x : Nat), .int .u64 (y : Nat)]] w fun r w' => r = .returned (.agg #[.int .u64 (u : Nat), .int .u64 (v : Nat)]) ∧ Below w.heap.size w w' := by
  have HR := box hr
  have HX := box (And.intro hx (And.intro hy hN))
  clear hr hx hy hN
  obtain ⟨Ra_0, Rz_0, B0⟩ := opn2 w (Obj.cells #[.int .u64 (x : Nat), .int .u64 (y : Nat)] 25) (Obj.cells #[.int .u64 0, .int .u64 0] 25)
  go_enter Tryd.func56, Tryd.ntmps56
  obtain ⟨ca_0_0, ca_0_1⟩ := cells2s Ra_0
  obtain ⟨cz_0_0, cz_0_1⟩ := cells2s Rz_0
  have S1 := box B0.size
  have La_1 : Box (w.heap.size < ((w.alloc (Obj.cells #[.int .u64 (x : Nat), .int .u64 (y : Nat)] 25)).alloc (Obj.cells #[.int .u64 0, .int .u64 0] 25)).heap.size) := box (Array.getElem?_eq_some_iff.1 Ra_0).1
  have Lz_1 : Box (w.heap.size + 1 < ((w.alloc (Obj.cells #[.int .u64 (x : Nat), .int .u64 (y : Nat)] 25)).alloc (Obj.cells #[.int .u64 0, .int .u64 0] 25)).heap.size) := box (Array.getElem?_eq_some_iff.1 Rz_0).1
  have Rb_1 := heap_alloc_last ((w.alloc (Obj.cells #[.int .u64 (x : Nat), .int .u64 (y : Nat)] 25)).alloc (Obj.cells #[.int .u64 0, .int .u64 0] 25)) (Obj.cells #[.int .u64 0, .int .u64 0] 25)
  have B1 := btr B0 (bal ((w.alloc (Obj.cells #[.int .u64 (x : Nat), .int .u64 (y : Nat)] 25)).alloc (Obj.cells #[.int .u64 0, .int .u64 0] 25)) (Obj.cells #[.int .u64 0, .int .u64 0] 25))
  have Ra_1 := heap_of (bal ((w.alloc (Obj.cells #[.int .u64 (x : Nat), .int .u64 (y : Nat)] 25)).alloc (Obj.cells #[.int .u64 0, .int .u64 0] 25)) (Obj.cells #[.int .u64 0, .int .u64 0] 25)) _ _ _ Ra_0
  have Rz_1 := heap_of (bal ((w.alloc (Obj.cells #[.int .u64 (x : Nat), .int .u64 (y : Nat)] 25)).alloc (Obj.cells #[.int .u64 0, .int .u64 0] 25)) (Obj.cells #[.int .u64 0, .int .u64 0] 25)) _ _ _ Rz_0
  clear B0 Ra_0 ca_0_0 ca_0_1 Rz_0 cz_0_0 cz_0_1
  obtain ⟨ca_1_0, ca_1_1⟩ := cells2s Ra_1
  obtain ⟨cz_1_0, cz_1_1⟩ := cells2s Rz_1
  obtain ⟨cb_1_0, cb_1_1⟩ := cells2s Rb_1
  go_wp2_with fail
  go_loopw [6] (fun iv wr => ∃ k p q : Nat, k ≤ W ∧ iv = .int .i64 (k : Int) ∧ Below w.heap.size w wr ∧ wr.heap[w.heap.size]? = some (.cells #[.int .u64 (x : Nat), .int .u64 (y : Nat)] 25) ∧ wr.heap[w.heap.size + 1]? = some (.cells #[.int .u64 0, .int .u64 0] 25) ∧ wr.heap[w.heap.size + 1 + 1]? = some (.cells #[.int .u64 (p : Nat), .int .u64 (q : Nat)] 25) ∧ Box (p < 18446744073709551616 ∧ q < 18446744073709551616 ∧ q + 18446744073709551616 * p = N % 2 ^ k)) (fun iv _ => 128 - (intOf iv).toNat)
  case atStart => exact ⟨0, 0, 0, by omega, rfl, B1, Ra_1, Rz_1, (by have q := Rb_1; simp only [size_al] at q; exact q), box ⟨by decide, by decide, by rw [Nat.pow_zero, Nat.mod_one]⟩⟩
  case round =>
    obtain ⟨k, p, q, k2, rfl, B20, Ra_20, Rz_20, Rb_20, HP⟩ := hrel
    obtain ⟨w20, hw⟩ : ∃ w20, w20 = wr := ⟨_, rfl⟩
    subst hw
    clear Ra_1 Rz_1 Rb_1 B1
    by_cases hlt : k < W
    · have dl : decide ((k : Int) < ((W : Nat) : Int)) = true := decide_eq_true (by omega)
      have mb := mod_bit2 N k
      cases hb : N.testBit k
      · rw [hb] at mb
        simp only [Bool.false_eq_true, if_false, Nat.add_zero] at mb
        have KB := box (fun w => r22_bit x y N k HX.out.1 HX.out.2.1 HX.out.2.2 (by omega) false hb w)
        have NX := HP
        rw [← mb] at NX
        clear mb hb
        obtain ⟨ca_20_0, ca_20_1⟩ := cells2s Ra_20
        obtain ⟨cz_20_0, cz_20_1⟩ := cells2s Rz_20
        obtain ⟨cb_20_0, cb_20_1⟩ := cells2s Rb_20
        obtain ⟨ca_20_0, ca_20_1⟩ := cells2s Ra_20
        obtain ⟨cz_20_0, cz_20_1⟩ := cells2s Rz_20
        obtain ⟨cb_20_0, cb_20_1⟩ := cells2s Rb_20
        obtain ⟨ca_20_0, ca_20_1⟩ := cells2s Ra_20
        obtain ⟨cz_20_0, cz_20_1⟩ := cells2s Rz_20
        obtain ⟨cb_20_0, cb_20_1⟩ := cells2s Rb_20
        clear cz_20_0 cz_20_1
        go_wp2_with fail
        refine (KW.out _).mono ?_
        rintro r w21 ⟨rfl, b21⟩
        have B21 : Below w.heap.size w w21 := btr B20 b21
        have Ra_21 := heap_of b21 _ _ _ Ra_20
        have Rz_21 := heap_of b21 _ _ _ Rz_20
        have Rb_21 := heap_of b21 _ _ _ Rb_20
        clear b21 B20 Ra_20 ca_20_0 ca_20_1 Rz_20 Rb_20 cb_20_0 cb_20_1
        obtain ⟨ca_21_0, ca_21_1⟩ := cells2s Ra_21
        obtain ⟨cb_21_0, cb_21_1⟩ := cells2s Rb_21
        go_wp2_with fail
        refine (KB.out _).mono ?_
        rintro r w22 ⟨rfl, b22⟩
        have B22 : Below w.heap.size w w22 := btr B21 b22
        have Ra_22 := heap_of b22 _ _ _ Ra_21
        have Rz_22 := heap_of b22 _ _ _ Rz_21
        have Rb_22 := heap_of b22 _ _ _ Rb_21
        clear b22 B21 Ra_21 ca_21_0 ca_21_1 Rz_21 Rb_21 cb_21_0 cb_21_1
        obtain ⟨ca_22_0, ca_22_1⟩ := cells2s Ra_22
        obtain ⟨cb_22_0, cb_22_1⟩ := cells2s Rb_22
        go_wp2
        go_roundw
        case rel => exact ⟨k + 1, p, q, by omega, by go_num, B22, Ra_22, Rz_22, Rb_22, NX⟩
        case measure => simp [intOf] <;> omega
      · rw [hb, if_pos rfl] at mb
        have KB := box (fun w => r22_bit x y N k HX.out.1 HX.out.2.1 HX.out.2.2 (by omega) true hb w)
        obtain ⟨u1, v1, h1⟩ : ∃ u v, bv7 (N % 2 ^ (k + 1)) = (u, v) := ⟨_, _, rfl⟩
        have KX := box (fun w => r22_with p q _ k u1 v1 HP.out.1 HP.out.2.1 HP.out.2.2 (by omega) (Nat.mod_lt _ (Nat.two_pow_pos k)) (by rw [← mb]; exact h1) w)
        have NX := box (bv_of h1 (low_128 (Nat.mod_lt N (Nat.two_pow_pos (k + 1))) (by omega)))
        clear mb hb h1
        obtain ⟨ca_20_0, ca_20_1⟩ := cells2s Ra_20
        obtain ⟨cz_20_0, cz_20_1⟩ := cells2s Rz_20
        obtain ⟨cb_20_0, cb_20_1⟩ := cells2s Rb_20
        obtain ⟨ca_20_0, ca_20_1⟩ := cells2s Ra_20
        obtain ⟨cz_20_0, cz_20_1⟩ := cells2s Rz_20
        obtain ⟨cb_20_0, cb_20_1⟩ := cells2s Rb_20
        obtain ⟨ca_20_0, ca_20_1⟩ := cells2s Ra_20
        obtain ⟨cz_20_0, cz_20_1⟩ := cells2s Rz_20
        obtain ⟨cb_20_0, cb_20_1⟩ := cells2s Rb_20
        clear cz_20_0 cz_20_1
        go_wp2_with fail
        refine (KW.out _).mono ?_
        rintro r w21 ⟨rfl, b21⟩
        have B21 : Below w.heap.size w w21 := btr B20 b21
        have Ra_21 := heap_of b21 _ _ _ Ra_20
        have Rz_21 := heap_of b21 _ _ _ Rz_20
        have Rb_21 := heap_of b21 _ _ _ Rb_20
        clear b21 B20 Ra_20 ca_20_0 ca_20_1 Rz_20 Rb_20 cb_20_0 cb_20_1
        obtain ⟨ca_21_0, ca_21_1⟩ := cells2s Ra_21
        obtain ⟨cb_21_0, cb_21_1⟩ := cells2s Rb_21
        go_wp2_with fail
        refine (KB.out _).mono ?_
        rintro r w22 ⟨rfl, b22⟩
        have B22 : Below w.heap.size w w22 := btr B21 b22
        have Ra_22 := heap_of b22 _ _ _ Ra_21
        have Rz_22 := heap_of b22 _ _ _ Rz_21
        have Rb_22 := heap_of b22 _ _ _ Rb_21
        clear b22 B21 Ra_21 ca_21_0 ca_21_1 Rz_21 Rb_21 cb_21_0 cb_21_1
        obtain ⟨ca_22_0, ca_22_1⟩ := cells2s Ra_22
        obtain ⟨cb_22_0, cb_22_1⟩ := cells2s Rb_22
        go_wp2_with fail
        refine (KX.out _).mono ?_
        rintro r w23 ⟨rfl, b23⟩
        have B23 : Below w.heap.size w w23 := btr B22 b23
        have Ra_23 := heap_of b23 _ _ _ Ra_22
        have Rz_23 := heap_of b23 _ _ _ Rz_22
        have Rb_23 := heap_of b23 _ _ _ Rb_22
        clear b23 B22 Ra_22 ca_22_0 ca_22_1 Rz_22 Rb_22 cb_22_0 cb_22_1
        obtain ⟨ca_23_0, ca_23_1⟩ := cells2s Ra_23
        obtain ⟨cb_23_0, cb_23_1⟩ := cells2s Rb_23
        have q0_24 := fz (k := 0) Rb_23
        have q1_24 := fz (k := 1) Rb_23
        have B24 := set2_below B23 (show w.heap.size ≤ w.heap.size + 1 + 1 by first | exact Nat.le_refl _ | omega | (have := S1.out; have := La_1.out; have := Lz_1.out; omega)) (.int .u64 (u1 : Nat)) (.int .u64 (v1 : Nat))
        have Rb_24 : ((w23.setCell ⟨w.heap.size + 1 + 1, 0, none⟩ (.int .u64 (u1 : Nat))).setCell ⟨w.heap.size + 1 + 1, 1, none⟩ (.int .u64 (v1 : Nat))).heap[w.heap.size + 1 + 1]? = some (Obj.cells #[.int .u64 (u1 : Nat), .int .u64 (v1 : Nat)] 25) := set2_row Rb_23 _ _
        have Ra_24 : ((w23.setCell ⟨w.heap.size + 1 + 1, 0, none⟩ (.int .u64 (u1 : Nat))).setCell ⟨w.heap.size + 1 + 1, 1, none⟩ (.int .u64 (v1 : Nat))).heap[w.heap.size]? = some (Obj.cells #[.int .u64 (x : Nat), .int .u64 (y : Nat)] 25) := (setCell_other (by first | omega | (have := S1.out; have := La_1.out; have := Lz_1.out; omega))).trans ((setCell_other (by first | omega | (have := S1.out; have := La_1.out; have := Lz_1.out; omega))).trans Ra_23)
        have Rz_24 : ((w23.setCell ⟨w.heap.size + 1 + 1, 0, none⟩ (.int .u64 (u1 : Nat))).setCell ⟨w.heap.size + 1 + 1, 1, none⟩ (.int .u64 (v1 : Nat))).heap[w.heap.size + 1]? = some (Obj.cells #[.int .u64 0, .int .u64 0] 25) := (setCell_other (by first | omega | (have := S1.out; have := La_1.out; have := Lz_1.out; omega))).trans ((setCell_other (by first | omega | (have := S1.out; have := La_1.out; have := Lz_1.out; omega))).trans Rz_23)
        obtain ⟨ca_24_0, ca_24_1⟩ := cells2s Ra_24
        obtain ⟨cb_24_0, cb_24_1⟩ := cells2s Rb_24
        go_wp2
        go_roundw
        case rel => exact ⟨k + 1, u1, v1, by omega, by go_num, B24, Ra_24, Rz_24, Rb_24, NX⟩
        case measure => simp [intOf] <;> omega
    · obtain rfl : k = W := by omega
      have dl : decide ((k : Int) < ((k : Nat) : Int)) = false := decide_eq_false (by omega)
      have e := bv_to HP.out.2.1 HP.out.2.2
      rw [HR.out] at e
      cases e
      obtain ⟨ca_20_0, ca_20_1⟩ := cells2s Ra_20
      obtain ⟨cz_20_0, cz_20_1⟩ := cells2s Rz_20
      obtain ⟨cb_20_0, cb_20_1⟩ := cells2s Rb_20
      obtain ⟨ca_20_0, ca_20_1⟩ := cells2s Ra_20
      obtain ⟨cz_20_0, cz_20_1⟩ := cells2s Rz_20
      obtain ⟨cb_20_0, cb_20_1⟩ := cells2s Rb_20
      obtain ⟨ca_20_0, ca_20_1⟩ := cells2s Ra_20
      obtain ⟨cz_20_0, cz_20_1⟩ := cells2s Rz_20
      obtain ⟨cb_20_0, cb_20_1⟩ := cells2s Rb_20
      clear cz_20_0 cz_20_1
      go_wp2_with fail
      refine (KW.out _).mono ?_
      rintro r w21 ⟨rfl, b21⟩
      have B21 : Below w.heap.size w w21 := btr B20 b21
      have Ra_21 := heap_of b21 _ _ _ Ra_20
      have Rz_21 := heap_of b21 _ _ _ Rz_20
      have Rb_21 := heap_of b21 _ _ _ Rb_20
      clear b21 B20 Ra_20 ca_20_0 ca_20_1 Rz_20 Rb_20 cb_20_0 cb_20_1
      obtain ⟨ca_21_0, ca_21_1⟩ := cells2s Ra_21
      obtain ⟨cb_21_0, cb_21_1⟩ := cells2s Rb_21
      obtain ⟨cz_21_0, cz_21_1⟩ := cells2s Rz_21
      have q0 := fz (k := 0) Rz_21
      have q1 := fz (k := 1) Rz_21
      obtain ⟨E0, E1⟩ := set2_cells Rz_21 (.int .u64 (u : Nat)) (.int .u64 (v : Nat))
      go_wp2
      exact bodyPost_ret (v := .agg #[.int .u64 (u : Nat), .int .u64 (v : Nat)]) (by simp [results, Tryd.results56, go_sem, E0, E1]) rfl ⟨rfl, set2_below B21 (by first | exact Nat.le_refl _ | omega | (have := S1.out; have := La_1.out; have := Lz_1.out; omega)) _ _⟩
set_option maxRecDepth 100000 in
set_option maxHeartbeats 8000000 in
theorem r22_NaN_h (u v : Nat) (hr : bv7 (0 + (2 ^ 15 - 2 ^ 9)) = (u, v)) (w : World) (KW : Box (∀ w, Calls Tryd.prog 54 #[.int .u8 2] w fun r w' => r = .returned (.int .i64 16) ∧ Below w.heap.size w w')) : Calls Tryd.prog 72 #[.int .u8 2] w fun r w' => r = .returned (.agg #[.int .u64 (u : Nat), .int .u64 (v : Nat)]) ∧ Below w.heap.size w w' := by
  have HR := box hr
  have HBB : Box (0 < 2 ^ 9) := box (Nat.two_pow_pos _)
  clear hr
  obtain ⟨Rz_0, B0⟩ := opn1 w (Obj.cells #[.int .u64 0, .int .u64 0] 25)
  go_enter Tryd.func72, Tryd.ntmps72
  obtain ⟨cz_0_0, cz_0_1⟩ := cells2s Rz_0
  have S1 := box B0.size
  have Lz_1 : Box (w.heap.size < (w.alloc (Obj.cells #[.int .u64 0, .int .u64 0] 25)).heap.size) := box (Array.getElem?_eq_some_iff.1 Rz_0).1
  have Rb_1 := heap_alloc_last (w.alloc (Obj.cells #[.int .u64 0, .int .u64 0] 25)) (Obj.cells #[.int .u64 0, .int .u64 0] 25)
  have B1 := btr B0 (bal (w.alloc (Obj.cells #[.int .u64 0, .int .u64 0] 25)) (Obj.cells #[.int .u64 0, .int .u64 0] 25))
  have Rz_1 := heap_of (bal (w.alloc (Obj.cells #[.int .u64 0, .int .u64 0] 25)) (Obj.cells #[.int .u64 0, .int .u64 0] 25)) _ _ _ Rz_0
  clear B0 Rz_0 cz_0_0 cz_0_1
  obtain ⟨cz_1_0, cz_1_1⟩ := cells2s Rz_1
  obtain ⟨cb_1_0, cb_1_1⟩ := cells2s Rb_1
  go_wp2_with fail
  go_loopw [5] (fun iv wr => ∃ k p q : Nat, 9 ≤ k ∧ k ≤ 15 ∧ iv = .int .i64 (k : Int) ∧ Below w.heap.size w wr ∧ wr.heap[w.heap.size]? = some (.cells #[.int .u64 0, .int .u64 0] 25) ∧ wr.heap[w.heap.size + 1]? = some (.cells #[.int .u64 (p : Nat), .int .u64 (q : Nat)] 25) ∧ Box (p < 18446744073709551616 ∧ q < 18446744073709551616 ∧ q + 18446744073709551616 * p = 0 + (2 ^ k - 2 ^ 9))) (fun iv _ => 128 - (intOf iv).toNat)
  case atStart => exact ⟨9, 0, 0, by omega, by omega, rfl, B1, Rz_1, (by have q := Rb_1; simp only [size_al] at q; exact q), box ⟨by decide, by decide, by rw [Nat.sub_self]⟩⟩
  case round =>
    obtain ⟨k, p, q, k1, k2, rfl, B20, Rz_20, Rb_20, HP⟩ := hrel
    obtain ⟨w20, hw⟩ : ∃ w20, w20 = wr := ⟨_, rfl⟩
    subst hw
    clear Rz_1 Rb_1 B1
    by_cases hlt : k < 15
    · have dl : decide ((k : Int) < 15) = true := decide_eq_true (by omega)
      obtain ⟨u1, v1, h1⟩ : ∃ u v, bv7 (0 + (2 ^ (k + 1) - 2 ^ 9)) = (u, v) := ⟨_, _, rfl⟩
      have os := ones_step (B := 0) k1 HBB.out
      have KX := box (fun w => r22_with p q _ k u1 v1 HP.out.1 HP.out.2.1 HP.out.2.2 (by omega) os.1 (by rw [os.2]; exact h1) w)
      have NX := box (bv_of h1 (low_128 (ones_step (k := k + 1) (B := 0) (by omega) HBB.out).1 (by omega)))
      clear os h1
      obtain ⟨cz_20_0, cz_20_1⟩ := cells2s Rz_20
      obtain ⟨cb_20_0, cb_20_1⟩ := cells2s Rb_20
      obtain ⟨cz_20_0, cz_20_1⟩ := cells2s Rz_20
      obtain ⟨cb_20_0, cb_20_1⟩ := cells2s Rb_20
      clear cz_20_0 cz_20_1
      go_wp2_with fail
      refine (KW.out _).mono ?_
      rintro r w21 ⟨rfl, b21⟩
      have B21 : Below w.heap.size w w21 := btr B20 b21
      have Rz_21 := heap_of b21 _ _ _ Rz_20
      have Rb_21 := heap_of b21 _ _ _ Rb_20
      clear b21 B20 Rz_20 Rb_20 cb_20_0 cb_20_1
      obtain ⟨cb_21_0, cb_21_1⟩ := cells2s Rb_21
      go_wp2_with fail
      refine (KX.out _).mono ?_
      rintro r w22 ⟨rfl, b22⟩
      have B22 : Below w.heap.size w w22 := btr B21 b22
      have Rz_22 := heap_of b22 _ _ _ Rz_21
      have Rb_22 := heap_of b22 _ _ _ Rb_21
      clear b22 B21 Rz_21 Rb_21 cb_21_0 cb_21_1
      obtain ⟨cb_22_0, cb_22_1⟩ := cells2s Rb_22
      have q0_23 := fz (k := 0) Rb_22
      have q1_23 := fz (k := 1) Rb_22
      have B23 := set2_below B22 (show w.heap.size ≤ w.heap.size + 1 by first | exact Nat.le_refl _ | omega | (have := S1.out; have := Lz_1.out; omega)) (.int .u64 (u1 : Nat)) (.int .u64 (v1 : Nat))
      have Rb_23 : ((w22.setCell ⟨w.heap.size + 1, 0, none⟩ (.int .u64 (u1 : Nat))).setCell ⟨w.heap.size + 1, 1, none⟩ (.int .u64 (v1 : Nat))).heap[w.heap.size + 1]? = some (Obj.cells #[.int .u64 (u1 : Nat), .int .u64 (v1 : Nat)] 25) := set2_row Rb_22 _ _
      have Rz_23 : ((w22.setCell ⟨w.heap.size + 1, 0, none⟩ (.int .u64 (u1 : Nat))).setCell ⟨w.heap.size + 1, 1, none⟩ (.int .u64 (v1 : Nat))).heap[w.heap.size]? = some (Obj.cells #[.int .u64 0, .int .u64 0] 25) := (setCell_other (by first | omega | (have := S1.out; have := Lz_1.out; omega))).trans ((setCell_other (by first | omega | (have := S1.out; have := Lz_1.out; omega))).trans Rz_22)
      obtain ⟨cb_23_0, cb_23_1⟩ := cells2s Rb_23
      go_wp2
      go_roundw
      case rel => exact ⟨k + 1, u1, v1, by omega, by omega, by go_num, B23, Rz_23, Rb_23, NX⟩
      case measure => simp [intOf] <;> omega
    · obtain rfl : k = 15 := by omega
      have e := bv_to HP.out.2.1 HP.out.2.2
      rw [HR.out] at e
      cases e
      obtain ⟨cz_20_0, cz_20_1⟩ := cells2s Rz_20
      obtain ⟨cb_20_0, cb_20_1⟩ := cells2s Rb_20
      obtain ⟨cz_20_0, cz_20_1⟩ := cells2s Rz_20
      obtain ⟨cb_20_0, cb_20_1⟩ := cells2s Rb_20
      clear cz_20_0 cz_20_1
      go_wp2_with fail
      refine (KW.out _).mono ?_
      rintro r w21 ⟨rfl, b21⟩
      have B21 : Below w.heap.size w w21 := btr B20 b21
      have Rz_21 := heap_of b21 _ _ _ Rz_20
      have Rb_21 := heap_of b21 _ _ _ Rb_20
      clear b21 B20 Rz_20 Rb_20 cb_20_0 cb_20_1
      obtain ⟨cb_21_0, cb_21_1⟩ := cells2s Rb_21
      obtain ⟨cz_21_0, cz_21_1⟩ := cells2s Rz_21
      have q0 := fz (k := 0) Rz_21
      have q1 := fz (k := 1) Rz_21
      obtain ⟨E0, E1⟩ := set2_cells Rz_21 (.int .u64 (u : Nat)) (.int .u64 (v : Nat))
      go_wp2
      exact bodyPost_ret (v := .agg #[.int .u64 (u : Nat), .int .u64 (v : Nat)]) (by simp [results, Tryd.results72, go_sem, E0, E1]) rfl ⟨rfl, set2_below B21 (by first | exact Nat.le_refl _ | omega | (have := S1.out; have := Lz_1.out; omega)) _ _⟩
set_option maxRecDepth 100000 in
set_option maxHeartbeats 8000000 in
theorem r22_NaN_s (u v : Nat) (hr : bv7 (0 + (2 ^ 31 - 2 ^ 22)) = (u, v)) (w : World) (KW : Box (∀ w, Calls Tryd.prog 54 #[.int .u8 0] w fun r w' => r = .returned (.int .i64 32) ∧ Below w.heap.size w w')) : Calls Tryd.prog 72 #[.int .u8 0] w fun r w' => r = .returned (.agg #[.int .u64 (u : Nat), .int .u64 (v : Nat)]) ∧ Below w.heap.size w w' := by
  have HR := box hr
  have HBB : Box (0 < 2 ^ 22) := box (Nat.two_pow_pos _)
  clear hr
  obtain ⟨Rz_0, B0⟩ := opn1 w (Obj.cells #[.int .u64 0, .int .u64 0] 25)
  go_enter Tryd.func72, Tryd.ntmps72
  obtain ⟨cz_0_0, cz_0_1⟩ := cells2s Rz_0
  have S1 := box B0.size
  have Lz_1 : Box (w.heap.size < (w.alloc (Obj.cells #[.int .u64 0, .int .u64 0] 25)).heap.size) := box (Array.getElem?_eq_some_iff.1 Rz_0).1
  have Rb_1 := heap_alloc_last (w.alloc (Obj.cells #[.int .u64 0, .int .u64 0] 25)) (Obj.cells #[.int .u64 0, .int .u64 0] 25)
  have B1 := btr B0 (bal (w.alloc (Obj.cells #[.int .u64 0, .int .u64 0] 25)) (Obj.cells #[.int .u64 0, .int .u64 0] 25))
  have Rz_1 := heap_of (bal (w.alloc (Obj.cells #[.int .u64 0, .int .u64 0] 25)) (Obj.cells #[.int .u64 0, .int .u64 0] 25)) _ _ _ Rz_0
  clear B0 Rz_0 cz_0_0 cz_0_1
  obtain ⟨cz_1_0, cz_1_1⟩ := cells2s Rz_1
  obtain ⟨cb_1_0, cb_1_1⟩ := cells2s Rb_1
  go_wp2_with fail
  go_loopw [5] (fun iv wr => ∃ k p q : Nat, 22 ≤ k ∧ k ≤ 31 ∧ iv = .int .i64 (k : Int) ∧ Below w.heap.size w wr ∧ wr.heap[w.heap.size]? = some (.cells #[.int .u64 0, .int .u64 0] 25) ∧ wr.heap[w.heap.size + 1]? = some (.cells #[.int .u64 (p : Nat), .int .u64 (q : Nat)] 25) ∧ Box (p < 18446744073709551616 ∧ q < 18446744073709551616 ∧ q + 18446744073709551616 * p = 0 + (2 ^ k - 2 ^ 22))) (fun iv _ => 128 - (intOf iv).toNat)
  case atStart => exact ⟨22, 0, 0, by omega, by omega, rfl, B1, Rz_1, (by have q := Rb_1; simp only [size_al] at q; exact q), box ⟨by decide, by decide, by rw [Nat.sub_self]⟩⟩
  case round =>
    obtain ⟨k, p, q, k1, k2, rfl, B20, Rz_20, Rb_20, HP⟩ := hrel
    obtain ⟨w20, hw⟩ : ∃ w20, w20 = wr := ⟨_, rfl⟩
    subst hw
    clear Rz_1 Rb_1 B1
    by_cases hlt : k < 31
    · have dl : decide ((k : Int) < 31) = true := decide_eq_true (by omega)
      obtain ⟨u1, v1, h1⟩ : ∃ u v, bv7 (0 + (2 ^ (k + 1) - 2 ^ 22)) = (u, v) := ⟨_, _, rfl⟩
      have os := ones_step (B := 0) k1 HBB.out
      have KX := box (fun w => r22_with p q _ k u1 v1 HP.out.1 HP.out.2.1 HP.out.2.2 (by omega) os.1 (by rw [os.2]; exact h1) w)
      have NX := box (bv_of h1 (low_128 (ones_step (k := k + 1) (B := 0) (by omega) HBB.out).1 (by omega)))
      clear os h1
      obtain ⟨cz_20_0, cz_20_1⟩ := cells2s Rz_20
      obtain ⟨cb_20_0, cb_20_1⟩ := cells2s Rb_20
      obtain ⟨cz_20_0, cz_20_1⟩ := cells2s Rz_20
      obtain ⟨cb_20_0, cb_20_1⟩ := cells2s Rb_20
      clear cz_20_0 cz_20_1
      go_wp2_with fail
      refine (KW.out _).mono ?_
      rintro r w21 ⟨rfl, b21⟩
      have B21 : Below w.heap.size w w21 := btr B20 b21
      have Rz_21 := heap_of b21 _ _ _ Rz_20
      have Rb_21 := heap_of b21 _ _ _ Rb_20
      clear b21 B20 Rz_20 Rb_20 cb_20_0 cb_20_1
      obtain ⟨cb_21_0, cb_21_1⟩ := cells2s Rb_21
      go_wp2_with fail
      refine (KX.out _).mono ?_
      rintro r w22 ⟨rfl, b22⟩
      have B22 : Below w.heap.size w w22 := btr B21 b22
      have Rz_22 := heap_of b22 _ _ _ Rz_21
      have Rb_22 := heap_of b22 _ _ _ Rb_21
      clear b22 B21 Rz_21 Rb_21 cb_21_0 cb_21_1
      obtain ⟨cb_22_0, cb_22_1⟩ := cells2s Rb_22
      have q0_23 := fz (k := 0) Rb_22
      have q1_23 := fz (k := 1) Rb_22
      have B23 := set2_below B22 (show w.heap.size ≤ w.heap.size + 1 by first | exact Nat.le_refl _ | omega | (have := S1.out; have := Lz_1.out; omega)) (.int .u64 (u1 : Nat)) (.int .u64 (v1 : Nat))
      have Rb_23 : ((w22.setCell ⟨w.heap.size + 1, 0, none⟩ (.int .u64 (u1 : Nat))).setCell ⟨w.heap.size + 1, 1, none⟩ (.int .u64 (v1 : Nat))).heap[w.heap.size + 1]? = some (Obj.cells #[.int .u64 (u1 : Nat), .int .u64 (v1 : Nat)] 25) := set2_row Rb_22 _ _
      have Rz_23 : ((w22.setCell ⟨w.heap.size + 1, 0, none⟩ (.int .u64 (u1 : Nat))).setCell ⟨w.heap.size + 1, 1, none⟩ (.int .u64 (v1 : Nat))).heap[w.heap.size]? = some (Obj.cells #[.int .u64 0, .int .u64 0] 25) := (setCell_other (by first | omega | (have := S1.out; have := Lz_1.out; omega))).trans ((setCell_other (by first | omega | (have := S1.out; have := Lz_1.out; omega))).trans Rz_22)
      obtain ⟨cb_23_0, cb_23_1⟩ := cells2s Rb_23
      go_wp2
      go_roundw
      case rel => exact ⟨k + 1, u1, v1, by omega, by omega, by go_num, B23, Rz_23, Rb_23, NX⟩
      case measure => simp [intOf] <;> omega
    · obtain rfl : k = 31 := by omega
      have e := bv_to HP.out.2.1 HP.out.2.2
      rw [HR.out] at e
      cases e
      obtain ⟨cz_20_0, cz_20_1⟩ := cells2s Rz_20
      obtain ⟨cb_20_0, cb_20_1⟩ := cells2s Rb_20
      obtain ⟨cz_20_0, cz_20_1⟩ := cells2s Rz_20
      obtain ⟨cb_20_0, cb_20_1⟩ := cells2s Rb_20
      clear cz_20_0 cz_20_1
      go_wp2_with fail
      refine (KW.out _).mono ?_
      rintro r w21 ⟨rfl, b21⟩
      have B21 : Below w.heap.size w w21 := btr B20 b21
      have Rz_21 := heap_of b21 _ _ _ Rz_20
      have Rb_21 := heap_of b21 _ _ _ Rb_20
      clear b21 B20 Rz_20 Rb_20 cb_20_0 cb_20_1
      obtain ⟨cb_21_0, cb_21_1⟩ := cells2s Rb_21
      obtain ⟨cz_21_0, cz_21_1⟩ := cells2s Rz_21
      have q0 := fz (k := 0) Rz_21
      have q1 := fz (k := 1) Rz_21
      obtain ⟨E0, E1⟩ := set2_cells Rz_21 (.int .u64 (u : Nat)) (.int .u64 (v : Nat))
      go_wp2
      exact bodyPost_ret (v := .agg #[.int .u64 (u : Nat), .int .u64 (v : Nat)]) (by simp [results, Tryd.results72, go_sem, E0, E1]) rfl ⟨rfl, set2_below B21 (by first | exact Nat.le_refl _ | omega | (have := S1.out; have := Lz_1.out; omega)) _ _⟩
set_option maxRecDepth 100000 in
set_option maxHeartbeats 8000000 in
theorem r22_NaN_d (u v : Nat) (hr : bv7 (0 + (2 ^ 63 - 2 ^ 51)) = (u, v)) (w : World) (KW : Box (∀ w, Calls Tryd.prog 54 #[.int .u8 1] w fun r w' => r = .returned (.int .i64 64) ∧ Below w.heap.size w w')) : Calls Tryd.prog 72 #[.int .u8 1] w fun r w' => r = .returned (.agg #[.int .u64 (u : Nat), .int .u64 (v : Nat)]) ∧ Below w.heap.size w w' := by
  have HR := box hr
  have HBB : Box (0 < 2 ^ 51) := box (Nat.two_pow_pos _)
  clear hr
  obtain ⟨Rz_0, B0⟩ := opn1 w (Obj.cells #[.int .u64 0, .int .u64 0] 25)
  go_enter Tryd.func72, Tryd.ntmps72
  obtain ⟨cz_0_0, cz_0_1⟩ := cells2s Rz_0
  have S1 := box B0.size
  have Lz_1 : Box (w.heap.size < (w.alloc (Obj.cells #[.int .u64 0, .int .u64 0] 25)).heap.size) := box (Array.getElem?_eq_some_iff.1 Rz_0).1
  have Rb_1 := heap_alloc_last (w.alloc (Obj.cells #[.int .u64 0, .int .u64 0] 25)) (Obj.cells #[.int .u64 0, .int .u64 0] 25)
  have B1 := btr B0 (bal (w.alloc (Obj.cells #[.int .u64 0, .int .u64 0] 25)) (Obj.cells #[.int .u64 0, .int .u64 0] 25))
  have Rz_1 := heap_of (bal (w.alloc (Obj.cells #[.int .u64 0, .int .u64 0] 25)) (Obj.cells #[.int .u64 0, .int .u64 0] 25)) _ _ _ Rz_0
  clear B0 Rz_0 cz_0_0 cz_0_1
  obtain ⟨cz_1_0, cz_1_1⟩ := cells2s Rz_1
  obtain ⟨cb_1_0, cb_1_1⟩ := cells2s Rb_1
  go_wp2_with fail
  go_loopw [5] (fun iv wr => ∃ k p q : Nat, 51 ≤ k ∧ k ≤ 63 ∧ iv = .int .i64 (k : Int) ∧ Below w.heap.size w wr ∧ wr.heap[w.heap.size]? = some (.cells #[.int .u64 0, .int .u64 0] 25) ∧ wr.heap[w.heap.size + 1]? = some (.cells #[.int .u64 (p : Nat), .int .u64 (q : Nat)] 25) ∧ Box (p < 18446744073709551616 ∧ q < 18446744073709551616 ∧ q + 18446744073709551616 * p = 0 + (2 ^ k - 2 ^ 51))) (fun iv _ => 128 - (intOf iv).toNat)
  case atStart => exact ⟨51, 0, 0, by omega, by omega, rfl, B1, Rz_1, (by have q := Rb_1; simp only [size_al] at q; exact q), box ⟨by decide, by decide, by rw [Nat.sub_self]⟩⟩
  case round =>
    obtain ⟨k, p, q, k1, k2, rfl, B20, Rz_20, Rb_20, HP⟩ := hrel
    obtain ⟨w20, hw⟩ : ∃ w20, w20 = wr := ⟨_, rfl⟩
    subst hw
    clear Rz_1 Rb_1 B1
    by_cases hlt : k < 63
    · have dl : decide ((k : Int) < 63) = true := decide_eq_true (by omega)
      obtain ⟨u1, v1, h1⟩ : ∃ u v, bv7 (0 + (2 ^ (k + 1) - 2 ^ 51)) = (u, v) := ⟨_, _, rfl⟩
      have os := ones_step (B := 0) k1 HBB.out
      have KX := box (fun w => r22_with p q _ k u1 v1 HP.out.1 HP.out.2.1 HP.out.2.2 (by omega) os.1 (by rw [os.2]; exact h1) w)
      have NX := box (bv_of h1 (low_128 (ones_step (k := k + 1) (B := 0) (by omega) HBB.out).1 (by omega)))
      clear os h1
      obtain ⟨cz_20_0, cz_20_1⟩ := cells2s Rz_20
      obtain ⟨cb_20_0, cb_20_1⟩ := cells2s Rb_20
      obtain ⟨cz_20_0, cz_20_1⟩ := cells2s Rz_20
      obtain ⟨cb_20_0, cb_20_1⟩ := cells2s Rb_20
      clear cz_20_0 cz_20_1
      go_wp2_with fail
      refine (KW.out _).mono ?_
      rintro r w21 ⟨rfl, b21⟩
      have B21 : Below w.heap.size w w21 := btr B20 b21
      have Rz_21 := heap_of b21 _ _ _ Rz_20
      have Rb_21 := heap_of b21 _ _ _ Rb_20
      clear b21 B20 Rz_20 Rb_20 cb_20_0 cb_20_1
      obtain ⟨cb_21_0, cb_21_1⟩ := cells2s Rb_21
      go_wp2_with fail
      refine (KX.out _).mono ?_
      rintro r w22 ⟨rfl, b22⟩
      have B22 : Below w.heap.size w w22 := btr B21 b22
      have Rz_22 := heap_of b22 _ _ _ Rz_21
      have Rb_22 := heap_of b22 _ _ _ Rb_21
      clear b22 B21 Rz_21 Rb_21 cb_21_0 cb_21_1
      obtain ⟨cb_22_0, cb_22_1⟩ := cells2s Rb_22
      have q0_23 := fz (k := 0) Rb_22
      have q1_23 := fz (k := 1) Rb_22
      have B23 := set2_below B22 (show w.heap.size ≤ w.heap.size + 1 by first | exact Nat.le_refl _ | omega | (have := S1.out; have := Lz_1.out; omega)) (.int .u64 (u1 : Nat)) (.int .u64 (v1 : Nat))
      have Rb_23 : ((w22.setCell ⟨w.heap.size + 1, 0, none⟩ (.int .u64 (u1 : Nat))).setCell ⟨w.heap.size + 1, 1, none⟩ (.int .u64 (v1 : Nat))).heap[w.heap.size + 1]? = some (Obj.cells #[.int .u64 (u1 : Nat), .int .u64 (v1 : Nat)] 25) := set2_row Rb_22 _ _
      have Rz_23 : ((w22.setCell ⟨w.heap.size + 1, 0, none⟩ (.int .u64 (u1 : Nat))).setCell ⟨w.heap.size + 1, 1, none⟩ (.int .u64 (v1 : Nat))).heap[w.heap.size]? = some (Obj.cells #[.int .u64 0, .int .u64 0] 25) := (setCell_other (by first | omega | (have := S1.out; have := Lz_1.out; omega))).trans ((setCell_other (by first | omega | (have := S1.out; have := Lz_1.out; omega))).trans Rz_22)
      obtain ⟨cb_23_0, cb_23_1⟩ := cells2s Rb_23
      go_wp2
      go_roundw
      case rel => exact ⟨k + 1, u1, v1, by omega, by omega, by go_num, B23, Rz_23, Rb_23, NX⟩
      case measure => simp [intOf] <;> omega
    · obtain rfl : k = 63 := by omega
      have e := bv_to HP.out.2.1 HP.out.2.2
      rw [HR.out] at e
      cases e
      obtain ⟨cz_20_0, cz_20_1⟩ := cells2s Rz_20
      obtain ⟨cb_20_0, cb_20_1⟩ := cells2s Rb_20
      obtain ⟨cz_20_0, cz_20_1⟩ := cells2s Rz_20
      obtain ⟨cb_20_0, cb_20_1⟩ := cells2s Rb_20
      clear cz_20_0 cz_20_1
      go_wp2_with fail
      refine (KW.out _).mono ?_
      rintro r w21 ⟨rfl, b21⟩
      have B21 : Below w.heap.size w w21 := btr B20 b21
      have Rz_21 := heap_of b21 _ _ _ Rz_20
      have Rb_21 := heap_of b21 _ _ _ Rb_20
      clear b21 B20 Rz_20 Rb_20 cb_20_0 cb_20_1
      obtain ⟨cb_21_0, cb_21_1⟩ := cells2s Rb_21
      obtain ⟨cz_21_0, cz_21_1⟩ := cells2s Rz_21
      have q0 := fz (k := 0) Rz_21
      have q1 := fz (k := 1) Rz_21
      obtain ⟨E0, E1⟩ := set2_cells Rz_21 (.int .u64 (u : Nat)) (.int .u64 (v : Nat))
      go_wp2
      exact bodyPost_ret (v := .agg #[.int .u64 (u : Nat), .int .u64 (v : Nat)]) (by simp [results, Tryd.results72, go_sem, E0, E1]) rfl ⟨rfl, set2_below B21 (by first | exact Nat.le_refl _ | omega | (have := S1.out; have := Lz_1.out; omega)) _ _⟩
set_option maxRecDepth 100000 in
set_option maxHeartbeats 8000000 in
theorem r22_NaN_q (u v : Nat) (hr : bv7 (0 + (2 ^ 127 - 2 ^ 111)) = (u, v)) (w : World) (KW : Box (∀ w, Calls Tryd.prog 54 #[.int .u8 3] w fun r w' => r = .returned (.int .i64 128) ∧ Below w.heap.size w w')) : Calls Tryd.prog 72 #[.int .u8 3] w fun r w' => r = .returned (.agg #[.int .u64 (u : Nat), .int .u64 (v : Nat)]) ∧ Below w.heap.size w w' := by
  have HR := box hr
  have HBB : Box (0 < 2 ^ 111) := box (Nat.two_pow_pos _)
  clear hr
  obtain ⟨Rz_0, B0⟩ := opn1 w (Obj.cells #[.int .u64 0, .int .u64 0] 25)
  go_enter Tryd.func72, Tryd.ntmps72
  obtain ⟨cz_0_0, cz_0_1⟩ := cells2s Rz_0
  have S1 := box B0.size
  have Lz_1 : Box (w.heap.size < (w.alloc (Obj.cells #[.int .u64 0, .int .u64 0] 25)).heap.size) := box (Array.getElem?_eq_some_iff.1 Rz_0).1
  have Rb_1 := heap_alloc_last (w.alloc (Obj.cells #[.int .u64 0, .int .u64 0] 25)) (Obj.cells #[.int .u64 0, .int .u64 0] 25)
  have B1 := btr B0 (bal (w.alloc (Obj.cells #[.int .u64 0, .int .u64 0] 25)) (Obj.cells #[.int .u64 0, .int .u64 0] 25))
  have Rz_1 := heap_of (bal (w.alloc (Obj.cells #[.int .u64 0, .int .u64 0] 25)) (Obj.cells #[.int .u64 0, .int .u64 0] 25)) _ _ _ Rz_0
  clear B0 Rz_0 cz_0_0 cz_0_1
  obtain ⟨cz_1_0, cz_1_1⟩ := cells2s Rz_1
  obtain ⟨cb_1_0, cb_1_1⟩ := cells2s Rb_1
  go_wp2_with fail
  go_loopw [5] (fun iv wr => ∃ k p q : Nat, 111 ≤ k ∧ k ≤ 127 ∧ iv = .int .i64 (k : Int) ∧ Below w.heap.size w wr ∧ wr.heap[w.heap.size]? = some (.cells #[.int .u64 0, .int .u64 0] 25) ∧ wr.heap[w.heap.size + 1]? = some (.cells #[.int .u64 (p : Nat), .int .u64 (q : Nat)] 25) ∧ Box (p < 18446744073709551616 ∧ q < 18446744073709551616 ∧ q + 18446744073709551616 * p = 0 + (2 ^ k - 2 ^ 111))) (fun iv _ => 128 - (intOf iv).toNat)
  case atStart => exact ⟨111, 0, 0, by omega, by omega, rfl, B1, Rz_1, (by have q := Rb_1; simp only [size_al] at q; exact q), box ⟨by decide, by decide, by rw [Nat.sub_self]⟩⟩
  case round =>
    obtain ⟨k, p, q, k1, k2, rfl, B20, Rz_20, Rb_20, HP⟩ := hrel
    obtain ⟨w20, hw⟩ : ∃ w20, w20 = wr := ⟨_, rfl⟩
    subst hw
    clear Rz_1 Rb_1 B1
    by_cases hlt : k < 127
    · have dl : decide ((k : Int) < 127) = true := decide_eq_true (by omega)
      obtain ⟨u1, v1, h1⟩ : ∃ u v, bv7 (0 + (2 ^ (k + 1) - 2 ^ 111)) = (u, v) := ⟨_, _, rfl⟩
      have os := ones_step (B := 0) k1 HBB.out
      have KX := box (fun w => r22_with p q _ k u1 v1 HP.out.1 HP.out.2.1 HP.out.2.2 (by omega) os.1 (by rw [os.2]; exact h1) w)
      have NX := box (bv_of h1 (low_128 (ones_step (k := k + 1) (B := 0) (by omega) HBB.out).1 (by omega)))
      clear os h1
      obtain ⟨cz_20_0, cz_20_1⟩ := cells2s Rz_20
      obtain ⟨cb_20_0, cb_20_1⟩ := cells2s Rb_20
      obtain ⟨cz_20_0, cz_20_1⟩ := cells2s Rz_20
      obtain ⟨cb_20_0, cb_20_1⟩ := cells2s Rb_20
      clear cz_20_0 cz_20_1
      go_wp2_with fail
      refine (KW.out _).mono ?_
      rintro r w21 ⟨rfl, b21⟩
      have B21 : Below w.heap.size w w21 := btr B20 b21
      have Rz_21 := heap_of b21 _ _ _ Rz_20
      have Rb_21 := heap_of b21 _ _ _ Rb_20
      clear b21 B20 Rz_20 Rb_20 cb_20_0 cb_20_1
      obtain ⟨cb_21_0, cb_21_1⟩ := cells2s Rb_21
      go_wp2_with fail
      refine (KX.out _).mono ?_
      rintro r w22 ⟨rfl, b22⟩
      have B22 : Below w.heap.size w w22 := btr B21 b22
      have Rz_22 := heap_of b22 _ _ _ Rz_21
      have Rb_22 := heap_of b22 _ _ _ Rb_21
      clear b22 B21 Rz_21 Rb_21 cb_21_0 cb_21_1
      obtain ⟨cb_22_0, cb_22_1⟩ := cells2s Rb_22
      have q0_23 := fz (k := 0) Rb_22
      have q1_23 := fz (k := 1) Rb_22
      have B23 := set2_below B22 (show w.heap.size ≤ w.heap.size + 1 by first | exact Nat.le_refl _ | omega | (have := S1.out; have := Lz_1.out; omega)) (.int .u64 (u1 : Nat)) (.int .u64 (v1 : Nat))
      have Rb_23 : ((w22.setCell ⟨w.heap.size + 1, 0, none⟩ (.int .u64 (u1 : Nat))).setCell ⟨w.heap.size + 1, 1, none⟩ (.int .u64 (v1 : Nat))).heap[w.heap.size + 1]? = some (Obj.cells #[.int .u64 (u1 : Nat), .int .u64 (v1 : Nat)] 25) := set2_row Rb_22 _ _
      have Rz_23 : ((w22.setCell ⟨w.heap.size + 1, 0, none⟩ (.int .u64 (u1 : Nat))).setCell ⟨w.heap.size + 1, 1, none⟩ (.int .u64 (v1 : Nat))).heap[w.heap.size]? = some (Obj.cells #[.int .u64 0, .int .u64 0] 25) := (setCell_other (by first | omega | (have := S1.out; have := Lz_1.out; omega))).trans ((setCell_other (by first | omega | (have := S1.out; have := Lz_1.out; omega))).trans Rz_22)
      obtain ⟨cb_23_0, cb_23_1⟩ := cells2s Rb_23
      go_wp2
      go_roundw
      case rel => exact ⟨k + 1, u1, v1, by omega, by omega, by go_num, B23, Rz_23, Rb_23, NX⟩
      case measure => simp [intOf] <;> omega
    · obtain rfl : k = 127 := by omega
      have e := bv_to HP.out.2.1 HP.out.2.2
      rw [HR.out] at e
      cases e
      obtain ⟨cz_20_0, cz_20_1⟩ := cells2s Rz_20
      obtain ⟨cb_20_0, cb_20_1⟩ := cells2s Rb_20
      obtain ⟨cz_20_0, cz_20_1⟩ := cells2s Rz_20
      obtain ⟨cb_20_0, cb_20_1⟩ := cells2s Rb_20
      clear cz_20_0 cz_20_1
      go_wp2_with fail
      refine (KW.out _).mono ?_
      rintro r w21 ⟨rfl, b21⟩
      have B21 : Below w.heap.size w w21 := btr B20 b21
      have Rz_21 := heap_of b21 _ _ _ Rz_20
      have Rb_21 := heap_of b21 _ _ _ Rb_20
      clear b21 B20 Rz_20 Rb_20 cb_20_0 cb_20_1
      obtain ⟨cb_21_0, cb_21_1⟩ := cells2s Rb_21
      obtain ⟨cz_21_0, cz_21_1⟩ := cells2s Rz_21
      have q0 := fz (k := 0) Rz_21
      have q1 := fz (k := 1) Rz_21
      obtain ⟨E0, E1⟩ := set2_cells Rz_21 (.int .u64 (u : Nat)) (.int .u64 (v : Nat))
      go_wp2
      exact bodyPost_ret (v := .agg #[.int .u64 (u : Nat), .int .u64 (v : Nat)]) (by simp [results, Tryd.results72, go_sem, E0, E1]) rfl ⟨rfl, set2_below B21 (by first | exact Nat.le_refl _ | omega | (have := S1.out; have := Lz_1.out; omega)) _ _⟩
set_option maxRecDepth 100000 in
set_option maxHeartbeats 8000000 in
theorem r22_Unbox_y (f : Int) (x y u v : Nat) (w : World) (KI : Box (∀ w, Calls Tryd.prog 71 #[.int .u8 f, .agg #[.int .u64 (x : Nat), .int .u64 (y : Nat)]] w fun r w' => r = .returned (.bool true) ∧ Below w.heap.size w w')) (KL : Box (∀ w, Calls Tryd.prog 56 #[.int .u8 f, .agg #[.int .u64 (x : Nat), .int .u64 (y : Nat)]] w fun r w' => r = .returned (.agg #[.int .u64 (u : Nat), .int .u64 (v : Nat)]) ∧ Below w.heap.size w w')) : Calls Tryd.prog 55 #[.int .u8 f, .agg #[.int .u64 (x : Nat), .int .u64 (y : Nat)]] w fun r w' => r = .returned (.agg #[.int .u64 (u : Nat), .int .u64 (v : Nat)]) ∧ Below w.heap.size w w' := by
  obtain ⟨Ra_0, Rz_0, B0⟩ := opn2 w (Obj.cells #[.int .u64 (x : Nat), .int .u64 (y : Nat)] 25) (Obj.cells #[.int .u64 0, .int .u64 0] 25)
  go_enter Tryd.func55, Tryd.ntmps55
  obtain ⟨ca_0_0, ca_0_1⟩ := cells2s Ra_0
  go_wp2_with fail
  refine (KI.out _).mono ?_
  rintro r w1 ⟨rfl, b1⟩
  have B1 : Below w.heap.size w w1 := btr B0 b1
  have Ra_1 := heap_of b1 _ _ _ Ra_0
  have Rz_1 := heap_of b1 _ _ _ Rz_0
  clear b1 B0 Ra_0 ca_0_0 ca_0_1 Rz_0
  obtain ⟨ca_1_0, ca_1_1⟩ := cells2s Ra_1
  go_wp2_with fail
  refine (KL.out _).mono ?_
  rintro r w2 ⟨rfl, b2⟩
  have B2 : Below w.heap.size w w2 := btr B1 b2
  have Ra_2 := heap_of b2 _ _ _ Ra_1
  have Rz_2 := heap_of b2 _ _ _ Rz_1
  clear b2 B1 Ra_1 ca_1_0 ca_1_1 Rz_1
  obtain ⟨ca_2_0, ca_2_1⟩ := cells2s Ra_2
  obtain ⟨cz_2_0, cz_2_1⟩ := cells2s Rz_2
  have q0 := fz (k := 0) Rz_2
  have q1 := fz (k := 1) Rz_2
  obtain ⟨E0, E1⟩ := set2_cells Rz_2 (.int .u64 (u : Nat)) (.int .u64 (v : Nat))
  go_wp2
  exact bodyPost_ret (v := .agg #[.int .u64 (u : Nat), .int .u64 (v : Nat)]) (by simp [results, Tryd.results55, go_sem, E0, E1]) rfl ⟨rfl, set2_below B2 (by first | exact Nat.le_refl _ | omega | (skip; omega)) _ _⟩
set_option maxRecDepth 100000 in
set_option maxHeartbeats 8000000 in
theorem r22_Unbox_n (f : Int) (x y u v : Nat) (w : World) (KI : Box (∀ w, Calls Tryd.prog 71 #[.int .u8 f, .agg #[.int .u64 (x : Nat), .int .u64 (y : Nat)]] w fun r w' => r = .returned (.bool false) ∧ Below w.heap.size w w')) (KL : Box (∀ w, Calls Tryd.prog 72 #[.int .u8 f] w fun r w' => r = .returned (.agg #[.int .u64 (u : Nat), .int .u64 (v : Nat)]) ∧ Below w.heap.size w w')) : Calls Tryd.prog 55 #[.int .u8 f, .agg #[.int .u64 (x : Nat), .int .u64 (y : Nat)]] w fun r w' => r = .returned (.agg #[.int .u64 (u : Nat), .int .u64 (v : Nat)]) ∧ Below w.heap.size w w' := by
  obtain ⟨Ra_0, Rz_0, B0⟩ := opn2 w (Obj.cells #[.int .u64 (x : Nat), .int .u64 (y : Nat)] 25) (Obj.cells #[.int .u64 0, .int .u64 0] 25)
  go_enter Tryd.func55, Tryd.ntmps55
  obtain ⟨ca_0_0, ca_0_1⟩ := cells2s Ra_0
  go_wp2_with fail
  refine (KI.out _).mono ?_
  rintro r w1 ⟨rfl, b1⟩
  have B1 : Below w.heap.size w w1 := btr B0 b1
  have Ra_1 := heap_of b1 _ _ _ Ra_0
  have Rz_1 := heap_of b1 _ _ _ Rz_0
  clear b1 B0 Ra_0 ca_0_0 ca_0_1 Rz_0
  obtain ⟨ca_1_0, ca_1_1⟩ := cells2s Ra_1
  go_wp2_with fail
  refine (KL.out _).mono ?_
  rintro r w2 ⟨rfl, b2⟩
  have B2 : Below w.heap.size w w2 := btr B1 b2
  have Ra_2 := heap_of b2 _ _ _ Ra_1
  have Rz_2 := heap_of b2 _ _ _ Rz_1
  clear b2 B1 Ra_1 ca_1_0 ca_1_1 Rz_1
  obtain ⟨ca_2_0, ca_2_1⟩ := cells2s Ra_2
  obtain ⟨cz_2_0, cz_2_1⟩ := cells2s Rz_2
  have q0 := fz (k := 0) Rz_2
  have q1 := fz (k := 1) Rz_2
  obtain ⟨E0, E1⟩ := set2_cells Rz_2 (.int .u64 (u : Nat)) (.int .u64 (v : Nat))
  go_wp2
  exact bodyPost_ret (v := .agg #[.int .u64 (u : Nat), .int .u64 (v : Nat)]) (by simp [results, Tryd.results55, go_sem, E0, E1]) rfl ⟨rfl, set2_below B2 (by first | exact Nat.le_refl _ | omega | (skip; omega)) _ _⟩
end Go.Proofs.YtjbnifhpbdjonaaDoor
namespace Go.Proofs.YtjbnifhpbdjonaaDoor
set_option maxRecDepth 100000
set_option maxHeartbeats 40000000
set_option maxRecDepth 100000
open Go.RowKit WMath
set_option linter.unusedSimpArgs false
set_option linter.unusedVariables false
theorem first_bit (P : Nat → Bool) (a : Nat) : ∀ n, (∀ k, a ≤ k → k < a + n → P k = true) ∨ ∃ m, a ≤ m ∧ m < a + n ∧ P m = false ∧ ∀ k, a ≤ k → k < m → P k = true
  | 0 => Or.inl (fun k h1 h2 => by omega)
  | n + 1 => by
    rcases first_bit P a n with h | ⟨m, h1, h2, h3, h4⟩
    · cases q : P (a + n)
      · exact Or.inr ⟨a + n, by omega, by omega, q, h⟩
      · refine Or.inl (fun k h1 h2 => ?_)
        by_cases c : k = a + n
        · rw [c]; exact q
        · exact h k h1 (by omega)
    · exact Or.inr ⟨m, h1, by omega, h3, h4⟩
theorem bit_up (n a k : Nat) : (n / 2 ^ a).testBit k = n.testBit (a + k) := by
  rw [← Nat.shiftRight_eq_div_pow, Nat.testBit_shiftRight]
theorem ones_iff {N W : Nat} (hN : N < 2 ^ 128) (hW : W ≤ 128) : (∀ k, W ≤ k → k < 128 → N.testBit k = true) ↔ N / 2 ^ W = 2 ^ (128 - W) - 1 := by
  constructor
  · intro h
    apply Nat.eq_of_testBit_eq
    intro i
    rw [bit_up, Nat.testBit_two_pow_sub_one]
    by_cases c : W + i < 128
    · rw [h _ (by omega) c, decide_eq_true (by omega)]
    · rw [decide_eq_false (by omega)]
      exact Nat.testBit_lt_two_pow (Nat.lt_of_lt_of_le hN (Nat.pow_le_pow_right (by decide) (by omega)))
  · intro h k k1 k2
    have := bit_up N W (k - W)
    rw [h, Nat.testBit_two_pow_sub_one, decide_eq_true (by omega), show W + (k - W) = k by omega] at this
    exact this.symm
theorem zeros_iff {N W : Nat} (hN : N < 2 ^ 128) (hW : W ≤ 128) : (∀ k, W ≤ k → k < 128 → N.testBit k = false) ↔ N < 2 ^ W := by
  constructor
  · intro h
    have : N / 2 ^ W = 0 := by
      apply Nat.eq_of_testBit_eq
      intro i
      rw [bit_up, Nat.zero_testBit]
      by_cases c : W + i < 128
      · exact h _ (by omega) c
      · exact Nat.testBit_lt_two_pow (Nat.lt_of_lt_of_le hN (Nat.pow_le_pow_right (by decide) (by omega)))
    rcases Nat.div_eq_zero_iff.1 this with q | q
    · have := Nat.two_pow_pos W; omega
    · exact q
  · intro h k k1 k2
    exact Nat.testBit_lt_two_pow (Nat.lt_of_lt_of_le h (Nat.pow_le_pow_right (by decide) k1))
theorem wdF_le (f : Int) : wdF f ≤ 128 := by unfold wdF; (repeat' split) <;> decide
theorem wdF_pos {f : Int} (h0 : 0 ≤ f) (h3 : f ≤ 3) : 16 ≤ wdF f := by
  rcases (by omega : f = 0 ∨ f = 1 ∨ f = 2 ∨ f = 3) with rfl | rfl | rfl | rfl <;> decide
theorem wdF_none {f : Int} (h : ¬ f ≤ 3) : wdF f = 0 := by unfold wdF; rw [if_neg (by omega), if_neg (by omega), if_neg (by omega), if_neg (by omega)]
def isN (f : Int) (N : Nat) : Bool := decide (0 < wdF f ∧ N / 2 ^ wdF f = 2 ^ (128 - wdF f) - 1)
def fitN (f : Int) (N : Nat) : Bool := decide (0 < wdF f ∧ N < 2 ^ wdF f)
def abN (f : Int) : Nat := 2 ^ 128 - 2 ^ wdF f
def nanN (f : Int) : Nat := if f = 0 then 2143289344 else if f = 1 then 9221120237041090560 else if f = 2 then 32256 else 170138587312039964317873038467719495680
def ubN (f : Int) (N : Nat) : Nat := if isN f N = true then N % 2 ^ wdF f else nanN f
theorem n128 {x y N : Nat} (hx : x < 18446744073709551616) (hy : y < 18446744073709551616) (hN : y + 18446744073709551616 * x = N) : N < 2 ^ 128 := by
  rw [show (2 : Nat) ^ 128 = 340282366920938463463374607431768211456 from rfl]
  omega
theorem rIsb_is (f : Int) (x y N : Nat) (hx : x < 18446744073709551616) (hy : y < 18446744073709551616) (hN : y + 18446744073709551616 * x = N) (w : World) : Calls Tryd.prog 71 #[.int .u8 f, .agg #[.int .u64 (x : Nat), .int .u64 (y : Nat)]] w fun r w' => r = .returned (.bool (isN f N)) ∧ Below w.heap.size w w' := by
  have W := wdF_le f
  have KW := box (fun w => bel_st (r22_w f w))
  have lN := n128 hx hy hN
  rcases first_bit (fun k => N.testBit k) (wdF f) (128 - wdF f) with h | ⟨m, h1, h2, h3, h4⟩
  · have h' : ∀ k, wdF f ≤ k → k < 128 → N.testBit k = true := fun k a b => h k a (by omega)
    have e : isN f N = decide (0 < wdF f) := by
      unfold isN
      exact decide_eq_decide.2 ⟨fun q => q.1, fun q => ⟨q, (ones_iff lN W).1 h'⟩⟩
    rw [e]
    exact r22_IsBoxed_y f (wdF f) W x y N hx hy hN h' w KW
  · have e : isN f N = false := by
      unfold isN
      refine decide_eq_false (fun q => ?_)
      have := (ones_iff lN W).2 q.2 m h1 (by omega)
      rw [h3] at this
      cases this
    rw [e]
    exact r22_IsBoxed_n f (wdF f) W x y N hx hy hN m h1 (by omega) h3 h4 w KW
theorem rFit_is (f : Int) (x y N : Nat) (hx : x < 18446744073709551616) (hy : y < 18446744073709551616) (hN : y + 18446744073709551616 * x = N) (w : World) : Calls Tryd.prog 52 #[.int .u8 f, .agg #[.int .u64 (x : Nat), .int .u64 (y : Nat)]] w fun r w' => r = .returned (.bool (fitN f N)) ∧ Below w.heap.size w w' := by
  have W := wdF_le f
  have KW := box (fun w => bel_st (r22_w f w))
  have lN := n128 hx hy hN
  rcases first_bit (fun k => !N.testBit k) (wdF f) (128 - wdF f) with h | ⟨m, h1, h2, h3, h4⟩
  · have h' : ∀ k, wdF f ≤ k → k < 128 → N.testBit k = false := fun k a b => by simpa using h k a (by omega)
    have e : fitN f N = decide (0 < wdF f) := by
      unfold fitN
      exact decide_eq_decide.2 ⟨fun q => q.1, fun q => ⟨q, (zeros_iff lN W).1 h'⟩⟩
    rw [e]
    exact r22_Fits_y f (wdF f) W x y N hx hy hN h' w KW
  · have h3 : N.testBit m = true := by simpa using h3
    have e : fitN f N = false := by
      unfold fitN
      refine decide_eq_false (fun q => ?_)
      have := (zeros_iff lN W).2 q.2 m h1 (by omega)
      rw [h3] at this
      cases this
    rw [e]
    exact r22_Fits_n f (wdF f) W x y N hx hy hN m h1 (by omega) h3 (fun k a b => by simpa using h4 k a b) w KW
theorem rLow_is (f : Int) (x y N : Nat) (hx : x < 18446744073709551616) (hy : y < 18446744073709551616) (hN : y + 18446744073709551616 * x = N) (u v : Nat) (h : bv7 (N % 2 ^ wdF f) = (u, v)) (w : World) : Calls Tryd.prog 56 #[.int .u8 f, .agg #[.int .u64 (x : Nat), .int .u64 (y : Nat)]] w fun r w' => r = .returned (.agg #[.int .u64 (u : Nat), .int .u64 (v : Nat)]) ∧ Below w.heap.size w w' :=
  r22_Low f (wdF f) (wdF_le f) x y N hx hy hN u v h w (box (fun w => bel_st (r22_w f w)))
theorem rBox_is (f : Int) (x y N : Nat) (hx : x < 18446744073709551616) (hy : y < 18446744073709551616) (hN : y + 18446744073709551616 * x = N) (fit : N < 2 ^ wdF f) (u v : Nat) (h : bv7 (N + abN f) = (u, v)) (w : World) : Calls Tryd.prog 53 #[.int .u8 f, .agg #[.int .u64 (x : Nat), .int .u64 (y : Nat)]] w fun r w' => r = .returned (.agg #[.int .u64 (u : Nat), .int .u64 (v : Nat)]) ∧ Below w.heap.size w w' :=
  r22_Box f (wdF f) (wdF_le f) x y N hx hy hN fit u v h w (box (fun w => bel_st (r22_w f w)))
theorem rNan_is (f : Int) (h0 : 0 ≤ f) (h3 : f ≤ 3) (u v : Nat) (h : bv7 (nanN f) = (u, v)) (w : World) : Calls Tryd.prog 72 #[.int .u8 f] w fun r w' => r = .returned (.agg #[.int .u64 (u : Nat), .int .u64 (v : Nat)]) ∧ Below w.heap.size w w' := by
  have KW := box (fun w => bel_st (r22_w f w))
  rcases (by omega : f = 0 ∨ f = 1 ∨ f = 2 ∨ f = 3) with rfl | rfl | rfl | rfl
  · exact r22_NaN_s u v h w KW
  · exact r22_NaN_d u v h w KW
  · exact r22_NaN_h u v h w KW
  · exact r22_NaN_q u v h w KW
theorem rUbx_is (f : Int) (h0 : 0 ≤ f) (h3 : f ≤ 3) (x y N : Nat) (hx : x < 18446744073709551616) (hy : y < 18446744073709551616) (hN : y + 18446744073709551616 * x = N) (u v : Nat) (h : bv7 (ubN f N) = (u, v)) (w : World) : Calls Tryd.prog 55 #[.int .u8 f, .agg #[.int .u64 (x : Nat), .int .u64 (y : Nat)]] w fun r w' => r = .returned (.agg #[.int .u64 (u : Nat), .int .u64 (v : Nat)]) ∧ Below w.heap.size w w' := by
  have KI := box (fun w => rIsb_is f x y N hx hy hN w)
  unfold ubN at h
  cases q : isN f N
  · rw [q] at KI h
    exact r22_Unbox_n f x y u v w KI (box (fun w => rNan_is f h0 h3 u v h w))
  · rw [q] at KI h
    exact r22_Unbox_y f x y u v w KI (box (fun w => rLow_is f x y N hx hy hN u v h w))
theorem ebb_is (a b c d : Nat) : ebb (a : Nat) (b : Nat) (c : Nat) (d : Nat) = decide (a = c ∧ b = d) := by
  unfold ebb
  rw [Bool.eq_iff_iff]
  simp
  omega
end Go.Proofs.YtjbnifhpbdjonaaDoor
