/-
  What the functions that the statement reaches return: part 4 (JE, JH, JK, JL, JF).
-/
import Derived.Deep.RegionHeld3
import Derived.Test.YtakmlgcnfbiagaaDoorBb03
namespace Go.Proofs.YtakmlgcnfbiagaaDoor
set_option maxRecDepth 100000
set_option maxHeartbeats 40000000
set_option maxRecDepth 100000
open Go.RowKit WMath
set_option linter.unusedSimpArgs false
set_option linter.unusedVariables false
set_option maxRecDepth 100000 in
set_option maxHeartbeats 8000000 in
theorem l22_bit_lo (x y k : Nat) (hy : y < 18446744073709551616) (hk : k < 64) (o : Bool) (ho : y.testBit k = o) (w : World) : Calls Tryd.prog 24 #[.agg #[.int .u64 (x : Nat), .int .u64 (y : Nat)], .int .i64 (k : Nat)] w fun r w' => r = .returned (.bool o) ∧ Below w.heap.size w w' := by
  have hb : (bits .and .u64 ((y : Int) / 2 ^ k) 1 == 1) = o := by
    have := bits_and_u64_nat (y / 2 ^ k) 1 (Nat.lt_of_le_of_lt (Nat.div_le_self _ _) hy) (by omega)
    rw [← div_cast] at this
    rw [← ho, show ((1 : Nat) : Int) = 1 from rfl] at *
    rw [this, ← bit_and, Bool.eq_iff_iff]
    simp only [beq_iff_eq]
    omega
  have hl : decide ((k : Int) < 64) = true := decide_eq_true (by omega)
  clear ho
  obtain ⟨Rb_0, B0⟩ := opn1 w (Obj.cells #[.int .u64 (x : Nat), .int .u64 (y : Nat)] 25)
  go_enter Tryd.func24, Tryd.ntmps24
  obtain ⟨cb_0_0, cb_0_1⟩ := cells2s Rb_0
  go_wp2
  go_ret
  exact ⟨rfl, B0⟩
set_option maxRecDepth 100000 in
set_option maxHeartbeats 8000000 in
theorem l22_bit_hi (x y k j : Nat) (hx : x < 18446744073709551616) (hj : (k : Int) - 64 = (j : Int)) (hk : k < 128) (o : Bool) (ho : x.testBit j = o) (w : World) : Calls Tryd.prog 24 #[.agg #[.int .u64 (x : Nat), .int .u64 (y : Nat)], .int .i64 (k : Nat)] w fun r w' => r = .returned (.bool o) ∧ Below w.heap.size w w' := by
  have hb : (bits .and .u64 ((x : Int) / 2 ^ j) 1 == 1) = o := by
    have := bits_and_u64_nat (x / 2 ^ j) 1 (Nat.lt_of_le_of_lt (Nat.div_le_self _ _) hx) (by omega)
    rw [← div_cast] at this
    rw [← ho, show ((1 : Nat) : Int) = 1 from rfl] at *
    rw [this, ← bit_and, Bool.eq_iff_iff]
    simp only [beq_iff_eq]
    omega
  have hl : decide ((k : Int) < 64) = false := decide_eq_false (by omega)
  have hw : wrap64 ((k : Int) - 64) = (j : Int) := by unfold wrap64; omega
  clear ho
  obtain ⟨Rb_0, B0⟩ := opn1 w (Obj.cells #[.int .u64 (x : Nat), .int .u64 (y : Nat)] 25)
  go_enter Tryd.func24, Tryd.ntmps24
  obtain ⟨cb_0_0, cb_0_1⟩ := cells2s Rb_0
  go_wp2
  go_ret
  exact ⟨rfl, B0⟩
theorem l22_bit (x y N k : Nat) (hx : x < 18446744073709551616) (hy : y < 18446744073709551616) (hN : y + 18446744073709551616 * x = N) (hk : k < 128) (o : Bool) (ho : N.testBit k = o) (w : World) : Calls Tryd.prog 24 #[.agg #[.int .u64 (x : Nat), .int .u64 (y : Nat)], .int .i64 (k : Nat)] w fun r w' => r = .returned (.bool o) ∧ Below w.heap.size w w' := by
  subst hN
  by_cases c : k < 64
  · rw [bv_lo x y k hy c] at ho
    exact l22_bit_lo x y k hy c o ho w
  · rw [bv_hi x y k hy (by omega)] at ho
    exact l22_bit_hi x y k (k - 64) hx (by omega) hk o ho w
set_option maxRecDepth 100000 in
set_option maxHeartbeats 8000000 in
theorem l22_w_0 (w : World) : Calls Tryd.prog 23 #[.int .u8 0] w fun r w' => r = .returned (.int .i64 32) ∧ Below w.heap.size w w' := by
  go_enter Tryd.func23, Tryd.ntmps23
  go_wp2
  go_ret
  exact ⟨rfl, (Below.refl _ _).alloc (Nat.le_refl _) _⟩
set_option maxRecDepth 100000 in
set_option maxHeartbeats 8000000 in
theorem l22_w_1 (w : World) : Calls Tryd.prog 23 #[.int .u8 1] w fun r w' => r = .returned (.int .i64 64) ∧ Below w.heap.size w w' := by
  go_enter Tryd.func23, Tryd.ntmps23
  go_wp2
  go_ret
  exact ⟨rfl, (Below.refl _ _).alloc (Nat.le_refl _) _⟩
set_option maxRecDepth 100000 in
set_option maxHeartbeats 8000000 in
theorem l22_w_2 (w : World) : Calls Tryd.prog 23 #[.int .u8 2] w fun r w' => r = .returned (.int .i64 16) ∧ Below w.heap.size w w' := by
  go_enter Tryd.func23, Tryd.ntmps23
  go_wp2
  go_ret
  exact ⟨rfl, (Below.refl _ _).alloc (Nat.le_refl _) _⟩
set_option maxRecDepth 100000 in
set_option maxHeartbeats 8000000 in
theorem l22_w_3 (w : World) : Calls Tryd.prog 23 #[.int .u8 3] w fun r w' => r = .returned (.int .i64 128) ∧ Below w.heap.size w w' := by
  go_enter Tryd.func23, Tryd.ntmps23
  go_wp2
  go_ret
  exact ⟨rfl, (Below.refl _ _).alloc (Nat.le_refl _) _⟩
theorem l22_w (f : Int) (h0 : 0 ≤ f) (h3 : f ≤ 3) (w : World) : Calls Tryd.prog 23 #[.int .u8 f] w fun r w' => r = .returned (.int .i64 ((wdF f : Nat) : Int)) ∧ Below w.heap.size w w' := by
  rcases (by omega : f = 0 ∨ f = 1 ∨ f = 2 ∨ f = 3) with rfl | rfl | rfl | rfl
  · exact l22_w_0 w
  · exact l22_w_1 w
  · exact l22_w_2 w
  · exact l22_w_3 w
theorem box_isN {f : Int} (h0 : 0 ≤ f) (h3 : f ≤ 3) {B : Nat} (hB : B < 2 ^ wdF f) : B + abN f < 2 ^ 128 ∧ (B + abN f) / 2 ^ wdF f = 2 ^ (128 - wdF f) - 1 ∧ (B + abN f) % 2 ^ wdF f = B ∧ isN f (B + abN f) = true := by
  have W := wdF_le f
  have p := Nat.two_pow_pos (wdF f)
  have e : (2 : Nat) ^ 128 = 2 ^ wdF f * 2 ^ (128 - wdF f) := by rw [← Nat.pow_add, show wdF f + (128 - wdF f) = 128 by omega]
  have q := Nat.two_pow_pos (128 - wdF f)
  have a : abN f = 2 ^ wdF f * (2 ^ (128 - wdF f) - 1) := by unfold abN; rw [e, Nat.mul_sub, Nat.mul_one]
  have d : (B + abN f) / 2 ^ wdF f = 2 ^ (128 - wdF f) - 1 := by rw [a, Nat.add_mul_div_left _ _ p, Nat.div_eq_of_lt hB, Nat.zero_add]
  refine ⟨?_, d, ?_, ?_⟩
  · have : 2 ^ wdF f ≤ 2 ^ 128 := Nat.pow_le_pow_right (by decide) W
    unfold abN
    omega
  · rw [a, Nat.add_mul_mod_self_left, Nat.mod_eq_of_lt hB]
  · unfold isN
    exact decide_eq_true ⟨by have := wdF_pos h0 h3; omega, d⟩
theorem is_back {f : Int} (h0 : 0 ≤ f) (h3 : f ≤ 3) {N : Nat} (h : isN f N = true) : N % 2 ^ wdF f + abN f = N := by
  have W := wdF_le f
  have q := (of_decide_eq_true h).2
  have e : (2 : Nat) ^ 128 = 2 ^ wdF f * 2 ^ (128 - wdF f) := by rw [← Nat.pow_add, show wdF f + (128 - wdF f) = 128 by omega]
  have a : abN f = 2 ^ wdF f * (2 ^ (128 - wdF f) - 1) := by unfold abN; rw [e, Nat.mul_sub, Nat.mul_one]
  rw [a, ← q, Nat.add_comm]
  exact Nat.div_add_mod N (2 ^ wdF f)
theorem nan_fit {f : Int} (h0 : 0 ≤ f) (h3 : f ≤ 3) : nanN f < 2 ^ wdF f := by
  rcases (by omega : f = 0 ∨ f = 1 ∨ f = 2 ∨ f = 3) with rfl | rfl | rfl | rfl <;> decide +kernel
theorem ub_fit {f : Int} (h0 : 0 ≤ f) (h3 : f ≤ 3) (N : Nat) : ubN f N < 2 ^ wdF f := by
  unfold ubN
  split
  · exact Nat.mod_lt _ (Nat.two_pow_pos _)
  · exact nan_fit h0 h3
theorem p128 : (2 : Nat) ^ 128 = 340282366920938463463374607431768211456 := rfl
theorem fit128 {f : Int} {n : Nat} (h : n < 2 ^ wdF f) : n < 340282366920938463463374607431768211456 := low_128 h (wdF_le f)
theorem u8_mod {f : Int} (h0 : 0 ≤ f) (h1 : f ≤ 255) : 0 ≤ f.tmod 4 ∧ f.tmod 4 ≤ 3 := by
  rw [Int.tmod_eq_emod_of_nonneg h0]
  omega
theorem wider {f g : Int} (h0 : 0 ≤ f) (h3 : f ≤ 3) (g0 : 0 ≤ g) (g3 : g ≤ 3) (hw : wdF f ≤ wdF g) {N : Nat} (hN : N < 2 ^ 128) (h : isN f N = true) : isN g N = true := by
  have b := (ones_iff hN (wdF_le f)).2 (of_decide_eq_true h).2
  unfold isN
  exact decide_eq_true ⟨by have := wdF_pos g0 g3; omega, (ones_iff hN (wdF_le g)).1 (fun k k1 k2 => b k (by omega) k2)⟩
theorem ebb_is (a b c d : Nat) : ebb (a : Nat) (b : Nat) (c : Nat) (d : Nat) = decide (a = c ∧ b = d) := by
  unfold ebb
  rw [Bool.eq_iff_iff]
  simp
  omega
theorem boxback_all (f g : Int) (h0 : 0 ≤ f) (h1 : f ≤ 255) (g0 : 0 ≤ g) (g1 : g ≤ 255) (x y N : Nat) (hx : x < 18446744073709551616) (hy : y < 18446744073709551616) (hN : y + 18446744073709551616 * x = N) (CU : ∀ (f : Int) (x y N : Nat), 0 ≤ f → f ≤ 3 → x < 18446744073709551616 → y < 18446744073709551616 → y + 18446744073709551616 * x = N → ∀ u v, bv7 (ubN f N) = (u, v) → Box (∀ w, FAt w → Calls Tryd.prog 9 #[.int .u8 f, .agg #[.int .u64 (x : Nat), .int .u64 (y : Nat)]] w fun r w' => r = .returned (.tuple #[.agg #[.int .u64 (u : Nat), .int .u64 (v : Nat)], .int .i64 0]) ∧ Below w.heap.size w w')) (CU0 : ∀ (f : Int) (x y N : Nat), 3 < f → f ≤ 255 → x < 18446744073709551616 → y < 18446744073709551616 → y + 18446744073709551616 * x = N → Box (∀ w, FAt w → Calls Tryd.prog 9 #[.int .u8 f, .agg #[.int .u64 (x : Nat), .int .u64 (y : Nat)]] w fun r w' => r = .returned (.tuple #[.agg #[.int .u64 0, .int .u64 0], .int .i64 2]) ∧ Below w.heap.size w w')) (CL : ∀ (f : Int) (x y N : Nat), 0 ≤ f → f ≤ 3 → x < 18446744073709551616 → y < 18446744073709551616 → y + 18446744073709551616 * x = N → ∀ u v, bv7 (N % 2 ^ wdF f) = (u, v) → Box (∀ w, FAt w → Calls Tryd.prog 10 #[.int .u8 f, .agg #[.int .u64 (x : Nat), .int .u64 (y : Nat)]] w fun r w' => r = .returned (.tuple #[.agg #[.int .u64 (u : Nat), .int .u64 (v : Nat)], .int .i64 0]) ∧ Below w.heap.size w w')) (CL0 : ∀ (f : Int) (x y N : Nat), 3 < f → f ≤ 255 → x < 18446744073709551616 → y < 18446744073709551616 → y + 18446744073709551616 * x = N → Box (∀ w, FAt w → Calls Tryd.prog 10 #[.int .u8 f, .agg #[.int .u64 (x : Nat), .int .u64 (y : Nat)]] w fun r w' => r = .returned (.tuple #[.agg #[.int .u64 0, .int .u64 0], .int .i64 2]) ∧ Below w.heap.size w w')) (CB : ∀ (f : Int) (x y N : Nat), 0 ≤ f → f ≤ 3 → x < 18446744073709551616 → y < 18446744073709551616 → y + 18446744073709551616 * x = N → N < 2 ^ wdF f → ∀ u v, bv7 (N + abN f) = (u, v) → Box (∀ w, FAt w → Calls Tryd.prog 11 #[.int .u8 f, .agg #[.int .u64 (x : Nat), .int .u64 (y : Nat)]] w fun r w' => r = .returned (.tuple #[.agg #[.int .u64 (u : Nat), .int .u64 (v : Nat)], .int .i64 0]) ∧ Below w.heap.size w w')) (CB0 : ∀ (f : Int) (x y N : Nat), 0 ≤ f → f ≤ 255 → x < 18446744073709551616 → y < 18446744073709551616 → y + 18446744073709551616 * x = N → fitN f N = false → Box (∀ w, FAt w → Calls Tryd.prog 11 #[.int .u8 f, .agg #[.int .u64 (x : Nat), .int .u64 (y : Nat)]] w fun r w' => r = .returned (.tuple #[.agg #[.int .u64 0, .int .u64 0], .int .i64 2]) ∧ Below w.heap.size w w')) (CI : ∀ (f : Int) (x y N : Nat), 0 ≤ f → f ≤ 255 → x < 18446744073709551616 → y < 18446744073709551616 → y + 18446744073709551616 * x = N → Box (∀ w, FAt w → Calls Tryd.prog 12 #[.int .u8 f, .agg #[.int .u64 (x : Nat), .int .u64 (y : Nat)]] w fun r w' => r = .returned (.bool (isN f N)) ∧ Below w.heap.size w w')) (KV : Box (∀ w, FAt w → Calls Tryd.prog 14 #[] w fun r w' => r = .returned (.bool true) ∧ Below w.heap.size w w')) (w : World) (hT : FAt w) : Calls Tryd.prog 5 #[.int .u8 f, .int .u8 g, .agg #[.int .u64 (x : Nat), .int .u64 (y : Nat)]] w fun r w' => r = .returned (.bool true) ∧ Below w.heap.size w w' := by
  obtain ⟨p0, p3⟩ := u8_mod h0 h1
  obtain ⟨q0, q3⟩ := u8_mod g0 g1
  have lN := n128 hx hy hN
  obtain ⟨p, hp⟩ : ∃ p, f.tmod 4 = p := ⟨_, rfl⟩
  obtain ⟨q, hq⟩ : ∃ q, g.tmod 4 = q := ⟨_, rfl⟩
  rw [hp] at p0 p3
  rw [hq] at q0 q3
  have lf : N % 2 ^ wdF p < 2 ^ wdF p := Nat.mod_lt _ (Nat.two_pow_pos _)
  obtain ⟨r1, _, r3, r4⟩ := box_isN p0 p3 lf
  have uf := ub_fit p0 p3 N
  obtain ⟨a1, _, _, a4⟩ := box_isN p0 p3 uf
  obtain ⟨ul, vl, el⟩ : ∃ u v, bv7 (N % 2 ^ wdF p) = (u, v) := ⟨_, _, rfl⟩
  obtain ⟨ur, vr, er⟩ : ∃ u v, bv7 (N % 2 ^ wdF p + abN p) = (u, v) := ⟨_, _, rfl⟩
  obtain ⟨uu, vu, eu⟩ : ∃ u v, bv7 (ubN p N) = (u, v) := ⟨_, _, rfl⟩
  obtain ⟨ua, va, ea⟩ : ∃ u v, bv7 (ubN p N + abN p) = (u, v) := ⟨_, _, rfl⟩
  obtain ⟨l1, l2, l3⟩ := bv_of el (fit128 lf)
  obtain ⟨m1, m2, m3⟩ := bv_of er (by rw [← p128]; exact r1)
  obtain ⟨n1, n2, n3⟩ := bv_of eu (fit128 uf)
  obtain ⟨o1, o2, o3⟩ := bv_of ea (by rw [← p128]; exact a1)
  have K1 := CL p x y N p0 p3 hx hy hN ul vl el
  have K2 := CB p ul vl _ p0 p3 l1 l2 l3 lf ur vr er
  have ub : ubN p (N % 2 ^ wdF p + abN p) = N % 2 ^ wdF p := by
    show (if isN p _ = true then _ else _) = _
    rw [if_pos r4, r3]
  have K3 := CU p ur vr _ p0 p3 m1 m2 m3 ul vl (by rw [ub]; exact el)
  have K4 := CL p ur vr _ p0 p3 m1 m2 m3 ul vl (by rw [r3]; exact el)
  have B1 := CI p ur vr _ p0 (by omega) m1 m2 m3
  rw [r4] at B1
  have K5 := CU p x y N p0 p3 hx hy hN uu vu eu
  have K6 := CB p uu vu _ p0 p3 n1 n2 n3 uf ua va ea
  have B2 := CI p x y N p0 (by omega) hx hy hN
  have D1 := box (fun w => l22_w p p0 p3 w)
  have D2 := box (fun w => l22_w q q0 q3 w)
  have T : ebb (ua : Nat) (va : Nat) (x : Nat) (y : Nat) = isN p N := by
    rw [ebb_is]
    cases i : isN p N
    · refine decide_eq_false (fun k => ?_)
      have : ubN p N + abN p = N := by rw [← o3, ← hN, k.1, k.2]
      rw [this, i] at a4
      cases a4
    · refine decide_eq_true ?_
      have : ubN p N + abN p = N := by
        have : ubN p N = N % 2 ^ wdF p := by unfold ubN; rw [if_pos i]
        rw [this]
        exact is_back p0 p3 i
      omega
  by_cases c : ((wdF p : Nat) : Int) < ((wdF q : Nat) : Int)
  · have i := wider p0 p3 q0 q3 (by omega) r1 r4
    have B3 := CI q ur vr _ q0 (by omega) m1 m2 m3
    rw [i] at B3
    have uq : ubN q (N % 2 ^ wdF p + abN p) = (N % 2 ^ wdF p + abN p) % 2 ^ wdF q := by
      show (if isN q _ = true then _ else _) = _
      rw [if_pos i]
    obtain ⟨uv, vv, ev⟩ : ∃ u v, bv7 ((N % 2 ^ wdF p + abN p) % 2 ^ wdF q) = (u, v) := ⟨_, _, rfl⟩
    obtain ⟨s1, s2, s3⟩ := bv_of ev (fit128 (Nat.mod_lt _ (Nat.two_pow_pos _)))
    have K7 := CU q ur vr _ q0 q3 m1 m2 m3 uv vv (by rw [uq]; exact ev)
    have ones := (ones_iff r1 (wdF_le p)).2 (of_decide_eq_true r4).2
    have wl := wdF_le q
    have KT : Box (∀ k : Int, ((wdF p : Nat) : Int) ≤ k → k < ((wdF q : Nat) : Int) → ∀ w, Calls Tryd.prog 24 #[.agg #[.int .u64 (uv : Nat), .int .u64 (vv : Nat)], .int .i64 k] w fun r w' => r = .returned (.bool true) ∧ Below w.heap.size w w') := by
      refine box (fun k k1 k2 w => ?_)
      obtain ⟨m, rfl⟩ := Int.eq_ofNat_of_zero_le (show 0 ≤ k by omega)
      refine l22_bit uv vv _ m s1 s2 s3 (by omega) true ?_ w
      rw [Nat.testBit_mod_two_pow, decide_eq_true (by omega), Bool.true_and]
      exact ones m (by omega) (by omega)
    have HW := box (show (0 : Int) ≤ ((wdF p : Nat) : Int) ∧ ((wdF p : Nat) : Int) < ((wdF q : Nat) : Int) ∧ ((wdF q : Nat) : Int) ≤ 128 by omega)
    cases o : isN p N
    · rw [o] at T B2
      exact bb_fw f g p q _ _ x y ul vl ur vr uu vu ua va uv vv hp hq T (decide_eq_true c) w K1 K2 K3 K4 B1 K5 K6 B2 D1 D2 B3 K7 KT HW KV hT
    · rw [o] at T B2
      exact bb_tw f g p q _ _ x y ul vl ur vr uu vu ua va uv vv hp hq T (decide_eq_true c) w K1 K2 K3 K4 B1 K5 K6 B2 D1 D2 B3 K7 KT HW KV hT
  · cases o : isN p N
    · rw [o] at T B2
      exact bb_fn f g p q _ _ x y ul vl ur vr uu vu ua va 0 0 hp hq T (decide_eq_false c) w K1 K2 K3 K4 B1 K5 K6 B2 D1 D2 KV hT
    · rw [o] at T B2
      exact bb_tn f g p q _ _ x y ul vl ur vr uu vu ua va 0 0 hp hq T (decide_eq_false c) w K1 K2 K3 K4 B1 K5 K6 B2 D1 D2 KV hT
end Go.Proofs.YtakmlgcnfbiagaaDoor
namespace Go.Proofs.YtakmlgcnfbiagaaDoor
set_option maxRecDepth 100000
set_option maxHeartbeats 40000000
set_option maxRecDepth 100000
open Go.RowKit WMath
set_option linter.unusedSimpArgs false
set_option linter.unusedVariables false
theorem lives22_all (CU : ∀ (f : Int) (x y N : Nat), 0 ≤ f → f ≤ 3 → x < 18446744073709551616 → y < 18446744073709551616 → y + 18446744073709551616 * x = N → ∀ u v, bv7 (ubN f N) = (u, v) → Box (∀ w, FAt w → Calls Tryd.prog 9 #[.int .u8 f, .agg #[.int .u64 (x : Nat), .int .u64 (y : Nat)]] w fun r w' => r = .returned (.tuple #[.agg #[.int .u64 (u : Nat), .int .u64 (v : Nat)], .int .i64 0]) ∧ Below w.heap.size w w')) (CU0 : ∀ (f : Int) (x y N : Nat), 3 < f → f ≤ 255 → x < 18446744073709551616 → y < 18446744073709551616 → y + 18446744073709551616 * x = N → Box (∀ w, FAt w → Calls Tryd.prog 9 #[.int .u8 f, .agg #[.int .u64 (x : Nat), .int .u64 (y : Nat)]] w fun r w' => r = .returned (.tuple #[.agg #[.int .u64 0, .int .u64 0], .int .i64 2]) ∧ Below w.heap.size w w')) (CB : ∀ (f : Int) (x y N : Nat), 0 ≤ f → f ≤ 3 → x < 18446744073709551616 → y < 18446744073709551616 → y + 18446744073709551616 * x = N → N < 2 ^ wdF f → ∀ u v, bv7 (N + abN f) = (u, v) → Box (∀ w, FAt w → Calls Tryd.prog 11 #[.int .u8 f, .agg #[.int .u64 (x : Nat), .int .u64 (y : Nat)]] w fun r w' => r = .returned (.tuple #[.agg #[.int .u64 (u : Nat), .int .u64 (v : Nat)], .int .i64 0]) ∧ Below w.heap.size w w')) (CB0 : ∀ (f : Int) (x y N : Nat), 0 ≤ f → f ≤ 255 → x < 18446744073709551616 → y < 18446744073709551616 → y + 18446744073709551616 * x = N → fitN f N = false → Box (∀ w, FAt w → Calls Tryd.prog 11 #[.int .u8 f, .agg #[.int .u64 (x : Nat), .int .u64 (y : Nat)]] w fun r w' => r = .returned (.tuple #[.agg #[.int .u64 0, .int .u64 0], .int .i64 2]) ∧ Below w.heap.size w w')) (w : World) (hT : FAt w) : Calls Tryd.prog 14 #[] w fun r w' => r = .returned (.bool true) ∧ Below w.heap.size w w' := by
  have K1 := CB 2 0 15360 15360 (by decide) (by decide) (by decide) (by decide) (by decide) (by decide +kernel) 18446744073709551615 18446744073709501440 (by decide +kernel)
  have K2 := CU 2 18446744073709551615 18446744073709501440 340282366920938463463374607431768161280 (by decide) (by decide) (by decide) (by decide) (by decide) 0 15360 (by decide +kernel)
  have K3 := CU 0 18446744073709551615 18446744073709501440 340282366920938463463374607431768161280 (by decide) (by decide) (by decide) (by decide) (by decide) 0 4294917120 (by decide +kernel)
  have K4 := CU 2 0 15360 15360 (by decide) (by decide) (by decide) (by decide) (by decide) 0 32256 (by decide +kernel)
  have K5 := CB0 2 0 65536 65536 (by decide) (by decide) (by decide) (by decide) (by decide) (by decide +kernel)
  exact r22lives 0 0 w K1 K2 K3 K4 K5 hT
theorem bx_join (a b c d H L : Int) (hH : bits .or .u64 a c = H) (hL : bits .or .u64 b d = L) (w : World) : Calls Tryd.prog 28 #[.agg #[.int .u64 a, .int .u64 b], .agg #[.int .u64 c, .int .u64 d]] w fun r w' => r = .returned (.agg #[.int .u64 H, .int .u64 L]) ∧ Below w.heap.size w w' := by
  go_enter Tryd.func28, Tryd.ntmps28
  go_wp2
  exact bodyPost_ret (v := .agg #[.int .u64 H, .int .u64 L]) (by simp [results, Tryd.results28, go_sem]) rfl ⟨rfl, ((bal7 _ _).alloc (by simp only [size_al]; omega) _).alloc (by simp only [size_al]; omega) _⟩
set_option maxRecDepth 100000 in
set_option maxHeartbeats 8000000 in
theorem bx_above0 (w : World) (hT : FAt w) : Calls Tryd.prog 8 #[.int .u8 0] w fun r w' => r = .returned (.tuple #[.agg #[.int .u64 18446744073709551615, .int .u64 18446744069414584320], .int .i64 0]) ∧ Below w.heap.size w w' := by
  obtain ⟨Rz_0, B0⟩ := opn1 w (Obj.cells #[.int .u64 0, .int .u64 0] 25)
  go_enter Tryd.func8, Tryd.ntmps8
  have T2 := fatB hT B0
  have g0 := fat_x T2 0 0 0 (.int .u64 18446744073709551615) rfl
  have g1 := fat_x T2 1 0 1 (.int .u64 18446744069414584320) rfl
  clear T2 hT
  go_wp2_with fail
  refine (s_check_is 0 0 (by decide) (by decide) (by decide) _).mono ?_
  rintro r w' ⟨rfl, rfl⟩
  obtain ⟨cz_0_0, cz_0_1⟩ := cells2s Rz_0
  clear B0 Rz_0
  go_wp2
  exact bodyPost_ret (v := .tuple #[.agg #[.int .u64 18446744073709551615, .int .u64 18446744069414584320], .int .i64 0]) (by simp [results, Tryd.results8, go_sem]) rfl ⟨rfl, ((Below.refl _ _).alloc (by first | omega | (simp only [size_al]; omega)) _)⟩
set_option maxRecDepth 100000 in
set_option maxHeartbeats 8000000 in
theorem bx_above1 (w : World) (hT : FAt w) : Calls Tryd.prog 8 #[.int .u8 1] w fun r w' => r = .returned (.tuple #[.agg #[.int .u64 18446744073709551615, .int .u64 0], .int .i64 0]) ∧ Below w.heap.size w w' := by
  obtain ⟨Rz_0, B0⟩ := opn1 w (Obj.cells #[.int .u64 0, .int .u64 0] 25)
  go_enter Tryd.func8, Tryd.ntmps8
  have T2 := fatB hT B0
  have g0 := fat_x T2 2 0 2 (.int .u64 18446744073709551615) rfl
  have g1 := fat_x T2 3 0 3 (.int .u64 0) rfl
  clear T2 hT
  go_wp2_with fail
  refine (s_check_is 1 0 (by decide) (by decide) (by decide) _).mono ?_
  rintro r w' ⟨rfl, rfl⟩
  obtain ⟨cz_0_0, cz_0_1⟩ := cells2s Rz_0
  clear B0 Rz_0
  go_wp2
  exact bodyPost_ret (v := .tuple #[.agg #[.int .u64 18446744073709551615, .int .u64 0], .int .i64 0]) (by simp [results, Tryd.results8, go_sem]) rfl ⟨rfl, ((Below.refl _ _).alloc (by first | omega | (simp only [size_al]; omega)) _)⟩
set_option maxRecDepth 100000 in
set_option maxHeartbeats 8000000 in
theorem bx_above2 (w : World) (hT : FAt w) : Calls Tryd.prog 8 #[.int .u8 2] w fun r w' => r = .returned (.tuple #[.agg #[.int .u64 18446744073709551615, .int .u64 18446744073709486080], .int .i64 0]) ∧ Below w.heap.size w w' := by
  obtain ⟨Rz_0, B0⟩ := opn1 w (Obj.cells #[.int .u64 0, .int .u64 0] 25)
  go_enter Tryd.func8, Tryd.ntmps8
  have T2 := fatB hT B0
  have g0 := fat_x T2 4 0 4 (.int .u64 18446744073709551615) rfl
  have g1 := fat_x T2 5 0 5 (.int .u64 18446744073709486080) rfl
  clear T2 hT
  go_wp2_with fail
  refine (s_check_is 2 0 (by decide) (by decide) (by decide) _).mono ?_
  rintro r w' ⟨rfl, rfl⟩
  obtain ⟨cz_0_0, cz_0_1⟩ := cells2s Rz_0
  clear B0 Rz_0
  go_wp2
  exact bodyPost_ret (v := .tuple #[.agg #[.int .u64 18446744073709551615, .int .u64 18446744073709486080], .int .i64 0]) (by simp [results, Tryd.results8, go_sem]) rfl ⟨rfl, ((Below.refl _ _).alloc (by first | omega | (simp only [size_al]; omega)) _)⟩
set_option maxRecDepth 100000 in
set_option maxHeartbeats 8000000 in
theorem bx_above3 (w : World) (hT : FAt w) : Calls Tryd.prog 8 #[.int .u8 3] w fun r w' => r = .returned (.tuple #[.agg #[.int .u64 0, .int .u64 0], .int .i64 0]) ∧ Below w.heap.size w w' := by
  obtain ⟨Rz_0, B0⟩ := opn1 w (Obj.cells #[.int .u64 0, .int .u64 0] 25)
  go_enter Tryd.func8, Tryd.ntmps8
  have T2 := fatB hT B0
  have g0 := fat_x T2 6 0 6 (.int .u64 0) rfl
  have g1 := fat_x T2 7 0 7 (.int .u64 0) rfl
  clear T2 hT
  go_wp2_with fail
  refine (s_check_is 3 0 (by decide) (by decide) (by decide) _).mono ?_
  rintro r w' ⟨rfl, rfl⟩
  obtain ⟨cz_0_0, cz_0_1⟩ := cells2s Rz_0
  clear B0 Rz_0
  go_wp2
  exact bodyPost_ret (v := .tuple #[.agg #[.int .u64 0, .int .u64 0], .int .i64 0]) (by simp [results, Tryd.results8, go_sem]) rfl ⟨rfl, ((Below.refl _ _).alloc (by first | omega | (simp only [size_al]; omega)) _)⟩
set_option maxRecDepth 100000 in
set_option maxHeartbeats 8000000 in
theorem bx_aboveN (f : Int) (h0 : 0 ≤ f) (h1 : f ≤ 255) (hc : fC f = 2) (w : World) : Calls Tryd.prog 8 #[.int .u8 f] w fun r w' => r = .returned (.tuple #[.agg #[.int .u64 0, .int .u64 0], .int .i64 2]) ∧ Below w.heap.size w w' := by
  obtain ⟨Rz_0, B0⟩ := opn1 w (Obj.cells #[.int .u64 0, .int .u64 0] 25)
  go_enter Tryd.func8, Tryd.ntmps8
  go_wp2_with fail
  refine (s_check_is f 2 h0 h1 hc _).mono ?_
  rintro r w' ⟨rfl, rfl⟩
  obtain ⟨cz_0_0, cz_0_1⟩ := cells2s Rz_0
  clear B0 Rz_0
  go_wp2
  exact bodyPost_ret (v := .tuple #[.agg #[.int .u64 0, .int .u64 0], .int .i64 2]) (by simp [results, Tryd.results8, go_sem]) rfl ⟨rfl, ((Below.refl _ _).alloc (by first | omega | (simp only [size_al]; omega)) _)⟩
set_option maxRecDepth 100000 in
set_option maxHeartbeats 8000000 in
theorem bx_isN (f : Int) (x y U V : Nat) (w : World) (KA : Box (∀ w, FAt w → Calls Tryd.prog 8 #[.int .u8 f] w fun r w' => r = .returned (.tuple #[.agg #[.int .u64 (U : Nat), .int .u64 (V : Nat)], .int .i64 2]) ∧ Below w.heap.size w w')) (hT : FAt w) : Calls Tryd.prog 12 #[.int .u8 f, .agg #[.int .u64 (x : Nat), .int .u64 (y : Nat)]] w fun r w' => r = .returned (.bool false) ∧ Below w.heap.size w w' := by
  have FF := box hT
  clear hT
  obtain ⟨Rr_0, B0⟩ := opn1 w (Obj.cells #[.int .u64 (x : Nat), .int .u64 (y : Nat)] 25)
  go_enter Tryd.func12, Tryd.ntmps12
  obtain ⟨cr_0_0, cr_0_1⟩ := cells2s Rr_0
  go_wp2_with fail
  refine (KA.out _ (fatB FF.out B0)).mono ?_
  rintro r w1 ⟨rfl, b1⟩
  have B1 : Below w.heap.size w w1 := btr B0 b1
  have Rr_1 := heap_of b1 _ _ _ Rr_0
  clear b1 B0 Rr_0 cr_0_0 cr_0_1
  obtain ⟨cr_1_0, cr_1_1⟩ := cells2s Rr_1
  have S2 := box B1.size
  have Lr_2 : Box (w.heap.size < w1.heap.size) := box (Array.getElem?_eq_some_iff.1 Rr_1).1
  have Ro_2 := heap_alloc_last w1 (Obj.cells #[.int .u64 (U : Nat), .int .u64 (V : Nat)] 25)
  have B2 := btr B1 (bal w1 (Obj.cells #[.int .u64 (U : Nat), .int .u64 (V : Nat)] 25))
  have Rr_2 := heap_of (bal w1 (Obj.cells #[.int .u64 (U : Nat), .int .u64 (V : Nat)] 25)) _ _ _ Rr_1
  clear B1 Rr_1 cr_1_0 cr_1_1
  obtain ⟨cr_2_0, cr_2_1⟩ := cells2s Rr_2
  obtain ⟨co_2_0, co_2_1⟩ := cells2s Ro_2
  go_wp2_with fail
  obtain ⟨F, hF1, hF2⟩ := below_fun (w1.alloc (Obj.cells #[.int .u64 (U : Nat), .int .u64 (V : Nat)] 25))
  have fr_0 := fun u => cells4 (heap_of (hF1 u) _ _ _ Rr_2) 0 _ rfl
  have fr_1 := fun u => cells4 (heap_of (hF1 u) _ _ _ Rr_2) 1 _ rfl
  have fo_0 := fun u => cells4 (heap_of (hF1 u) _ _ _ Ro_2) 0 _ rfl
  have fo_1 := fun u => cells4 (heap_of (hF1 u) _ _ _ Ro_2) 1 _ rfl
  refine wp_region_below F hF2 (by kernel_rfl) (by kernel_rfl) ?_
  repeat first | go_big_quiet_step (first  | fail) | quiet_step (first  | fail)
  refine wpQuiet_nil ?_
  rintro _ ⟨uW, rfl⟩
  have B3 := btr B2 (hF1 uW)
  have Rr_3 := heap_of (hF1 uW) _ _ _ Rr_2
  have Ro_3 := heap_of (hF1 uW) _ _ _ Ro_2
  obtain ⟨w3, hw⟩ : ∃ V, F uW = V := ⟨_, rfl⟩
  rw [hw] at B3 Rr_3 Ro_3
  try rw [hw]
  clear hw hF1 hF2 B2 fr_0 fr_1 fo_0 fo_1 Rr_2 cr_2_0 cr_2_1 Ro_2 co_2_0 co_2_1
  clear F
  obtain ⟨cr_3_0, cr_3_1⟩ := cells2s Rr_3
  obtain ⟨co_3_0, co_3_1⟩ := cells2s Ro_3
  go_wp2
  go_ret
  exact ⟨rfl, B3⟩
set_option maxRecDepth 100000 in
set_option maxHeartbeats 8000000 in
theorem bx_isY (f : Int) (x y U V H L : Nat) (o : Bool) (ho : ebb (H : Nat) (L : Nat) (x : Nat) (y : Nat) = o) (w : World) (KA : Box (∀ w, FAt w → Calls Tryd.prog 8 #[.int .u8 f] w fun r w' => r = .returned (.tuple #[.agg #[.int .u64 (U : Nat), .int .u64 (V : Nat)], .int .i64 0]) ∧ Below w.heap.size w w')) (KJ : Box (∀ w, Calls Tryd.prog 28 #[.agg #[.int .u64 (x : Nat), .int .u64 (y : Nat)], .agg #[.int .u64 (U : Nat), .int .u64 (V : Nat)]] w fun r w' => r = .returned (.agg #[.int .u64 (H : Nat), .int .u64 (L : Nat)]) ∧ Below w.heap.size w w')) (hT : FAt w) : Calls Tryd.prog 12 #[.int .u8 f, .agg #[.int .u64 (x : Nat), .int .u64 (y : Nat)]] w fun r w' => r = .returned (.bool o) ∧ Below w.heap.size w w' := by
  have FF := box hT
  clear hT
  subst ho
  have hE := eqb
  obtain ⟨Rr_0, B0⟩ := opn1 w (Obj.cells #[.int .u64 (x : Nat), .int .u64 (y : Nat)] 25)
  go_enter Tryd.func12, Tryd.ntmps12
  obtain ⟨cr_0_0, cr_0_1⟩ := cells2s Rr_0
  go_wp2_with fail
  refine (KA.out _ (fatB FF.out B0)).mono ?_
  rintro r w1 ⟨rfl, b1⟩
  have B1 : Below w.heap.size w w1 := btr B0 b1
  have Rr_1 := heap_of b1 _ _ _ Rr_0
  clear b1 B0 Rr_0 cr_0_0 cr_0_1
  obtain ⟨cr_1_0, cr_1_1⟩ := cells2s Rr_1
  have S2 := box B1.size
  have Lr_2 : Box (w.heap.size < w1.heap.size) := box (Array.getElem?_eq_some_iff.1 Rr_1).1
  have Ro_2 := heap_alloc_last w1 (Obj.cells #[.int .u64 (U : Nat), .int .u64 (V : Nat)] 25)
  have B2 := btr B1 (bal w1 (Obj.cells #[.int .u64 (U : Nat), .int .u64 (V : Nat)] 25))
  have Rr_2 := heap_of (bal w1 (Obj.cells #[.int .u64 (U : Nat), .int .u64 (V : Nat)] 25)) _ _ _ Rr_1
  clear B1 Rr_1 cr_1_0 cr_1_1
  obtain ⟨cr_2_0, cr_2_1⟩ := cells2s Rr_2
  obtain ⟨co_2_0, co_2_1⟩ := cells2s Ro_2
  go_wp2_with fail
  obtain ⟨F, hF1, hF2⟩ := below_fun (w1.alloc (Obj.cells #[.int .u64 (U : Nat), .int .u64 (V : Nat)] 25))
  have fr_0 := fun u => cells4 (heap_of (hF1 u) _ _ _ Rr_2) 0 _ rfl
  have fr_1 := fun u => cells4 (heap_of (hF1 u) _ _ _ Rr_2) 1 _ rfl
  have fo_0 := fun u => cells4 (heap_of (hF1 u) _ _ _ Ro_2) 0 _ rfl
  have fo_1 := fun u => cells4 (heap_of (hF1 u) _ _ _ Ro_2) 1 _ rfl
  refine wp_region_below F hF2 (by kernel_rfl) (by kernel_rfl) ?_
  repeat first | go_big_quiet_step (first | (go_at_call 28; exact quietF hF1 hF2 (KJ.out _)) | fail) | quiet_step (first | (go_at_call 28; exact quietF hF1 hF2 (KJ.out _)) | fail)
  refine wpQuiet_nil ?_
  rintro _ ⟨uW, rfl⟩
  have B3 := btr B2 (hF1 uW)
  have Rr_3 := heap_of (hF1 uW) _ _ _ Rr_2
  have Ro_3 := heap_of (hF1 uW) _ _ _ Ro_2
  obtain ⟨w3, hw⟩ : ∃ V, F uW = V := ⟨_, rfl⟩
  rw [hw] at B3 Rr_3 Ro_3
  try rw [hw]
  clear hw hF1 hF2 B2 fr_0 fr_1 fo_0 fo_1 Rr_2 cr_2_0 cr_2_1 Ro_2 co_2_0 co_2_1
  clear F
  obtain ⟨cr_3_0, cr_3_1⟩ := cells2s Rr_3
  obtain ⟨co_3_0, co_3_1⟩ := cells2s Ro_3
  go_wp2
  go_ret
  exact ⟨rfl, B3⟩
set_option maxRecDepth 100000 in
set_option maxHeartbeats 8000000 in
theorem bx_boxN (f : Int) (x y : Nat) (w : World) (KF : Box (∀ w, FAt w → Calls Tryd.prog 27 #[.int .u8 f, .agg #[.int .u64 (x : Nat), .int .u64 (y : Nat)]] w fun r w' => r = .returned (.bool false) ∧ Below w.heap.size w w')) (hT : FAt w) : Calls Tryd.prog 11 #[.int .u8 f, .agg #[.int .u64 (x : Nat), .int .u64 (y : Nat)]] w fun r w' => r = .returned (.tuple #[.agg #[.int .u64 0, .int .u64 0], .int .i64 2]) ∧ Below w.heap.size w w' := by
  have FF := box hT
  clear hT
  obtain ⟨Rb_0, Rz_0, B0⟩ := opn2 w (Obj.cells #[.int .u64 (x : Nat), .int .u64 (y : Nat)] 25) (Obj.cells #[.int .u64 0, .int .u64 0] 25)
  go_enter Tryd.func11, Tryd.ntmps11
  obtain ⟨cb_0_0, cb_0_1⟩ := cells2s Rb_0
  obtain ⟨cz_0_0, cz_0_1⟩ := cells2s Rz_0
  go_wp2_with fail
  refine (KF.out _ (fatB FF.out B0)).mono ?_
  rintro r w1 ⟨rfl, b1⟩
  have B1 : Below w.heap.size w w1 := btr B0 b1
  have Rb_1 := heap_of b1 _ _ _ Rb_0
  have Rz_1 := heap_of b1 _ _ _ Rz_0
  clear b1 B0 Rb_0 cb_0_0 cb_0_1 Rz_0 cz_0_0 cz_0_1
  obtain ⟨cb_1_0, cb_1_1⟩ := cells2s Rb_1
  obtain ⟨cz_1_0, cz_1_1⟩ := cells2s Rz_1
  have q0 := fz (k := 0) Rz_1
  have q1 := fz (k := 1) Rz_1
  obtain ⟨E0, E1⟩ := set2_cells Rz_1 (.int .u64 0) (.int .u64 0)
  go_wp2
  exact bodyPost_ret (v := .tuple #[.agg #[.int .u64 0, .int .u64 0], .int .i64 2]) (by simp [results, Tryd.results11, go_sem, E0, E1]) rfl ⟨rfl, set2_below B1 (by first | exact Nat.le_refl _ | omega | (skip; omega)) _ _⟩
set_option maxRecDepth 100000 in
set_option maxHeartbeats 8000000 in
theorem bx_box0 (x y H L : Nat) (w : World) (KF : Box (∀ w, FAt w → Calls Tryd.prog 27 #[.int .u8 0, .agg #[.int .u64 (x : Nat), .int .u64 (y : Nat)]] w fun r w' => r = .returned (.bool true) ∧ Below w.heap.size w w')) (KJ : Box (∀ w, Calls Tryd.prog 28 #[.agg #[.int .u64 (x : Nat), .int .u64 (y : Nat)], .agg #[.int .u64 18446744073709551615, .int .u64 18446744069414584320]] w fun r w' => r = .returned (.agg #[.int .u64 (H : Nat), .int .u64 (L : Nat)]) ∧ Below w.heap.size w w')) (hT : FAt w) : Calls Tryd.prog 11 #[.int .u8 0, .agg #[.int .u64 (x : Nat), .int .u64 (y : Nat)]] w fun r w' => r = .returned (.tuple #[.agg #[.int .u64 (H : Nat), .int .u64 (L : Nat)], .int .i64 0]) ∧ Below w.heap.size w w' := by
  have FF := box hT
  clear hT
  obtain ⟨Rb_0, Rz_0, B0⟩ := opn2 w (Obj.cells #[.int .u64 (x : Nat), .int .u64 (y : Nat)] 25) (Obj.cells #[.int .u64 0, .int .u64 0] 25)
  go_enter Tryd.func11, Tryd.ntmps11
  obtain ⟨cb_0_0, cb_0_1⟩ := cells2s Rb_0
  obtain ⟨cz_0_0, cz_0_1⟩ := cells2s Rz_0
  go_wp2_with fail
  refine (KF.out _ (fatB FF.out B0)).mono ?_
  rintro r w1 ⟨rfl, b1⟩
  have B1 : Below w.heap.size w w1 := btr B0 b1
  have Rb_1 := heap_of b1 _ _ _ Rb_0
  have Rz_1 := heap_of b1 _ _ _ Rz_0
  clear b1 B0 Rb_0 cb_0_0 cb_0_1 Rz_0 cz_0_0 cz_0_1
  obtain ⟨cb_1_0, cb_1_1⟩ := cells2s Rb_1
  obtain ⟨cz_1_0, cz_1_1⟩ := cells2s Rz_1
  have T2 := fatB FF.out B1
  have g0 := fat_x T2 0 0 0 (.int .u64 18446744073709551615) rfl
  have g1 := fat_x T2 1 0 1 (.int .u64 18446744069414584320) rfl
  clear T2
  have qb : (w1).drew.heap[w.heap.size]? = some (Obj.cells #[.int .u64 (x : Nat), .int .u64 (y : Nat)] 25) := Rb_1
  have qz : (w1).drew.heap[w.heap.size + 1]? = some (Obj.cells #[.int .u64 0, .int .u64 0] 25) := Rz_1
  have qB := B1.drew
  have iz0 := fz (k := 0) Rz_1
  have iz1 := fz (k := 1) Rz_1
  go_wp2_with fail
  first | (go_region_with (first | (go_at_call 28; refine (KJ.out _).mono ?_; rintro r wq ⟨rfl, bq⟩; have qb := heap_of bq _ _ _ qb; have qz := heap_of bq _ _ _ qz; have qB := btr qB bq; have db0 := cell7 qb 0 (.int .u64 (x : Nat)) rfl; have db1 := cell7 qb 1 (.int .u64 (y : Nat)) rfl; have dz0 := cell7 qz 0 (.int .u64 0) rfl; have dz1 := cell7 qz 1 (.int .u64 0) rfl; have iz0 := fz (k := 0) qz; have iz1 := fz (k := 1) qz; clear bq) | fail)) | fail
  all_goals
    obtain ⟨E0, E1⟩ := set2_cells qz (.int .u64 (H : Nat)) (.int .u64 (L : Nat))
    have BZ := set2_below qB (show w.heap.size ≤ w.heap.size + 1 by first | exact Nat.le_refl _ | omega | (skip; omega)) (.int .u64 (H : Nat)) (.int .u64 (L : Nat))
    go_wp2
    exact bodyPost_ret (v := .tuple #[.agg #[.int .u64 (H : Nat), .int .u64 (L : Nat)], .int .i64 0]) (by simp [results, Tryd.results11, go_sem, E0, E1]) rfl ⟨rfl, BZ⟩
set_option maxRecDepth 100000 in
set_option maxHeartbeats 8000000 in
theorem bx_box1 (x y H L : Nat) (w : World) (KF : Box (∀ w, FAt w → Calls Tryd.prog 27 #[.int .u8 1, .agg #[.int .u64 (x : Nat), .int .u64 (y : Nat)]] w fun r w' => r = .returned (.bool true) ∧ Below w.heap.size w w')) (KJ : Box (∀ w, Calls Tryd.prog 28 #[.agg #[.int .u64 (x : Nat), .int .u64 (y : Nat)], .agg #[.int .u64 18446744073709551615, .int .u64 0]] w fun r w' => r = .returned (.agg #[.int .u64 (H : Nat), .int .u64 (L : Nat)]) ∧ Below w.heap.size w w')) (hT : FAt w) : Calls Tryd.prog 11 #[.int .u8 1, .agg #[.int .u64 (x : Nat), .int .u64 (y : Nat)]] w fun r w' => r = .returned (.tuple #[.agg #[.int .u64 (H : Nat), .int .u64 (L : Nat)], .int .i64 0]) ∧ Below w.heap.size w w' := by
  have FF := box hT
  clear hT
  obtain ⟨Rb_0, Rz_0, B0⟩ := opn2 w (Obj.cells #[.int .u64 (x : Nat), .int .u64 (y : Nat)] 25) (Obj.cells #[.int .u64 0, .int .u64 0] 25)
  go_enter Tryd.func11, Tryd.ntmps11
  obtain ⟨cb_0_0, cb_0_1⟩ := cells2s Rb_0
  obtain ⟨cz_0_0, cz_0_1⟩ := cells2s Rz_0
  go_wp2_with fail
  refine (KF.out _ (fatB FF.out B0)).mono ?_
  rintro r w1 ⟨rfl, b1⟩
  have B1 : Below w.heap.size w w1 := btr B0 b1
  have Rb_1 := heap_of b1 _ _ _ Rb_0
  have Rz_1 := heap_of b1 _ _ _ Rz_0
  clear b1 B0 Rb_0 cb_0_0 cb_0_1 Rz_0 cz_0_0 cz_0_1
  obtain ⟨cb_1_0, cb_1_1⟩ := cells2s Rb_1
  obtain ⟨cz_1_0, cz_1_1⟩ := cells2s Rz_1
  have T2 := fatB FF.out B1
  have g0 := fat_x T2 2 0 2 (.int .u64 18446744073709551615) rfl
  have g1 := fat_x T2 3 0 3 (.int .u64 0) rfl
  clear T2
  have qb : (w1).drew.heap[w.heap.size]? = some (Obj.cells #[.int .u64 (x : Nat), .int .u64 (y : Nat)] 25) := Rb_1
  have qz : (w1).drew.heap[w.heap.size + 1]? = some (Obj.cells #[.int .u64 0, .int .u64 0] 25) := Rz_1
  have qB := B1.drew
  have iz0 := fz (k := 0) Rz_1
  have iz1 := fz (k := 1) Rz_1
  go_wp2_with fail
  first | (go_region_with (first | (go_at_call 28; refine (KJ.out _).mono ?_; rintro r wq ⟨rfl, bq⟩; have qb := heap_of bq _ _ _ qb; have qz := heap_of bq _ _ _ qz; have qB := btr qB bq; have db0 := cell7 qb 0 (.int .u64 (x : Nat)) rfl; have db1 := cell7 qb 1 (.int .u64 (y : Nat)) rfl; have dz0 := cell7 qz 0 (.int .u64 0) rfl; have dz1 := cell7 qz 1 (.int .u64 0) rfl; have iz0 := fz (k := 0) qz; have iz1 := fz (k := 1) qz; clear bq) | fail)) | fail
  all_goals
    obtain ⟨E0, E1⟩ := set2_cells qz (.int .u64 (H : Nat)) (.int .u64 (L : Nat))
    have BZ := set2_below qB (show w.heap.size ≤ w.heap.size + 1 by first | exact Nat.le_refl _ | omega | (skip; omega)) (.int .u64 (H : Nat)) (.int .u64 (L : Nat))
    go_wp2
    exact bodyPost_ret (v := .tuple #[.agg #[.int .u64 (H : Nat), .int .u64 (L : Nat)], .int .i64 0]) (by simp [results, Tryd.results11, go_sem, E0, E1]) rfl ⟨rfl, BZ⟩
set_option maxRecDepth 100000 in
set_option maxHeartbeats 8000000 in
theorem bx_box2 (x y H L : Nat) (w : World) (KF : Box (∀ w, FAt w → Calls Tryd.prog 27 #[.int .u8 2, .agg #[.int .u64 (x : Nat), .int .u64 (y : Nat)]] w fun r w' => r = .returned (.bool true) ∧ Below w.heap.size w w')) (KJ : Box (∀ w, Calls Tryd.prog 28 #[.agg #[.int .u64 (x : Nat), .int .u64 (y : Nat)], .agg #[.int .u64 18446744073709551615, .int .u64 18446744073709486080]] w fun r w' => r = .returned (.agg #[.int .u64 (H : Nat), .int .u64 (L : Nat)]) ∧ Below w.heap.size w w')) (hT : FAt w) : Calls Tryd.prog 11 #[.int .u8 2, .agg #[.int .u64 (x : Nat), .int .u64 (y : Nat)]] w fun r w' => r = .returned (.tuple #[.agg #[.int .u64 (H : Nat), .int .u64 (L : Nat)], .int .i64 0]) ∧ Below w.heap.size w w' := by
  have FF := box hT
  clear hT
  obtain ⟨Rb_0, Rz_0, B0⟩ := opn2 w (Obj.cells #[.int .u64 (x : Nat), .int .u64 (y : Nat)] 25) (Obj.cells #[.int .u64 0, .int .u64 0] 25)
  go_enter Tryd.func11, Tryd.ntmps11
  obtain ⟨cb_0_0, cb_0_1⟩ := cells2s Rb_0
  obtain ⟨cz_0_0, cz_0_1⟩ := cells2s Rz_0
  go_wp2_with fail
  refine (KF.out _ (fatB FF.out B0)).mono ?_
  rintro r w1 ⟨rfl, b1⟩
  have B1 : Below w.heap.size w w1 := btr B0 b1
  have Rb_1 := heap_of b1 _ _ _ Rb_0
  have Rz_1 := heap_of b1 _ _ _ Rz_0
  clear b1 B0 Rb_0 cb_0_0 cb_0_1 Rz_0 cz_0_0 cz_0_1
  obtain ⟨cb_1_0, cb_1_1⟩ := cells2s Rb_1
  obtain ⟨cz_1_0, cz_1_1⟩ := cells2s Rz_1
  have T2 := fatB FF.out B1
  have g0 := fat_x T2 4 0 4 (.int .u64 18446744073709551615) rfl
  have g1 := fat_x T2 5 0 5 (.int .u64 18446744073709486080) rfl
  clear T2
  have qb : (w1).drew.heap[w.heap.size]? = some (Obj.cells #[.int .u64 (x : Nat), .int .u64 (y : Nat)] 25) := Rb_1
  have qz : (w1).drew.heap[w.heap.size + 1]? = some (Obj.cells #[.int .u64 0, .int .u64 0] 25) := Rz_1
  have qB := B1.drew
  have iz0 := fz (k := 0) Rz_1
  have iz1 := fz (k := 1) Rz_1
  go_wp2_with fail
  first | (go_region_with (first | (go_at_call 28; refine (KJ.out _).mono ?_; rintro r wq ⟨rfl, bq⟩; have qb := heap_of bq _ _ _ qb; have qz := heap_of bq _ _ _ qz; have qB := btr qB bq; have db0 := cell7 qb 0 (.int .u64 (x : Nat)) rfl; have db1 := cell7 qb 1 (.int .u64 (y : Nat)) rfl; have dz0 := cell7 qz 0 (.int .u64 0) rfl; have dz1 := cell7 qz 1 (.int .u64 0) rfl; have iz0 := fz (k := 0) qz; have iz1 := fz (k := 1) qz; clear bq) | fail)) | fail
  all_goals
    obtain ⟨E0, E1⟩ := set2_cells qz (.int .u64 (H : Nat)) (.int .u64 (L : Nat))
    have BZ := set2_below qB (show w.heap.size ≤ w.heap.size + 1 by first | exact Nat.le_refl _ | omega | (skip; omega)) (.int .u64 (H : Nat)) (.int .u64 (L : Nat))
    go_wp2
    exact bodyPost_ret (v := .tuple #[.agg #[.int .u64 (H : Nat), .int .u64 (L : Nat)], .int .i64 0]) (by simp [results, Tryd.results11, go_sem, E0, E1]) rfl ⟨rfl, BZ⟩
set_option maxRecDepth 100000 in
set_option maxHeartbeats 8000000 in
theorem bx_box3 (x y H L : Nat) (w : World) (KF : Box (∀ w, FAt w → Calls Tryd.prog 27 #[.int .u8 3, .agg #[.int .u64 (x : Nat), .int .u64 (y : Nat)]] w fun r w' => r = .returned (.bool true) ∧ Below w.heap.size w w')) (KJ : Box (∀ w, Calls Tryd.prog 28 #[.agg #[.int .u64 (x : Nat), .int .u64 (y : Nat)], .agg #[.int .u64 0, .int .u64 0]] w fun r w' => r = .returned (.agg #[.int .u64 (H : Nat), .int .u64 (L : Nat)]) ∧ Below w.heap.size w w')) (hT : FAt w) : Calls Tryd.prog 11 #[.int .u8 3, .agg #[.int .u64 (x : Nat), .int .u64 (y : Nat)]] w fun r w' => r = .returned (.tuple #[.agg #[.int .u64 (H : Nat), .int .u64 (L : Nat)], .int .i64 0]) ∧ Below w.heap.size w w' := by
  have FF := box hT
  clear hT
  obtain ⟨Rb_0, Rz_0, B0⟩ := opn2 w (Obj.cells #[.int .u64 (x : Nat), .int .u64 (y : Nat)] 25) (Obj.cells #[.int .u64 0, .int .u64 0] 25)
  go_enter Tryd.func11, Tryd.ntmps11
  obtain ⟨cb_0_0, cb_0_1⟩ := cells2s Rb_0
  obtain ⟨cz_0_0, cz_0_1⟩ := cells2s Rz_0
  go_wp2_with fail
  refine (KF.out _ (fatB FF.out B0)).mono ?_
  rintro r w1 ⟨rfl, b1⟩
  have B1 : Below w.heap.size w w1 := btr B0 b1
  have Rb_1 := heap_of b1 _ _ _ Rb_0
  have Rz_1 := heap_of b1 _ _ _ Rz_0
  clear b1 B0 Rb_0 cb_0_0 cb_0_1 Rz_0 cz_0_0 cz_0_1
  obtain ⟨cb_1_0, cb_1_1⟩ := cells2s Rb_1
  obtain ⟨cz_1_0, cz_1_1⟩ := cells2s Rz_1
  have T2 := fatB FF.out B1
  have g0 := fat_x T2 6 0 6 (.int .u64 0) rfl
  have g1 := fat_x T2 7 0 7 (.int .u64 0) rfl
  clear T2
  have qb : (w1).drew.heap[w.heap.size]? = some (Obj.cells #[.int .u64 (x : Nat), .int .u64 (y : Nat)] 25) := Rb_1
  have qz : (w1).drew.heap[w.heap.size + 1]? = some (Obj.cells #[.int .u64 0, .int .u64 0] 25) := Rz_1
  have qB := B1.drew
  have iz0 := fz (k := 0) Rz_1
  have iz1 := fz (k := 1) Rz_1
  go_wp2_with fail
  first | (go_region_with (first | (go_at_call 28; refine (KJ.out _).mono ?_; rintro r wq ⟨rfl, bq⟩; have qb := heap_of bq _ _ _ qb; have qz := heap_of bq _ _ _ qz; have qB := btr qB bq; have db0 := cell7 qb 0 (.int .u64 (x : Nat)) rfl; have db1 := cell7 qb 1 (.int .u64 (y : Nat)) rfl; have dz0 := cell7 qz 0 (.int .u64 0) rfl; have dz1 := cell7 qz 1 (.int .u64 0) rfl; have iz0 := fz (k := 0) qz; have iz1 := fz (k := 1) qz; clear bq) | fail)) | fail
  all_goals
    obtain ⟨E0, E1⟩ := set2_cells qz (.int .u64 (H : Nat)) (.int .u64 (L : Nat))
    have BZ := set2_below qB (show w.heap.size ≤ w.heap.size + 1 by first | exact Nat.le_refl _ | omega | (skip; omega)) (.int .u64 (H : Nat)) (.int .u64 (L : Nat))
    go_wp2
    exact bodyPost_ret (v := .tuple #[.agg #[.int .u64 (H : Nat), .int .u64 (L : Nat)], .int .i64 0]) (by simp [results, Tryd.results11, go_sem, E0, E1]) rfl ⟨rfl, BZ⟩
set_option maxRecDepth 100000 in
set_option maxHeartbeats 8000000 in
theorem bx_lowN (f : Int) (x y U V : Nat) (w : World) (KA : Box (∀ w, FAt w → Calls Tryd.prog 8 #[.int .u8 f] w fun r w' => r = .returned (.tuple #[.agg #[.int .u64 (U : Nat), .int .u64 (V : Nat)], .int .i64 2]) ∧ Below w.heap.size w w')) (hT : FAt w) : Calls Tryd.prog 10 #[.int .u8 f, .agg #[.int .u64 (x : Nat), .int .u64 (y : Nat)]] w fun r w' => r = .returned (.tuple #[.agg #[.int .u64 0, .int .u64 0], .int .i64 2]) ∧ Below w.heap.size w w' := by
  have FF := box hT
  clear hT
  obtain ⟨Rr_0, Rz_0, B0⟩ := opn2 w (Obj.cells #[.int .u64 (x : Nat), .int .u64 (y : Nat)] 25) (Obj.cells #[.int .u64 0, .int .u64 0] 25)
  go_enter Tryd.func10, Tryd.ntmps10
  obtain ⟨cr_0_0, cr_0_1⟩ := cells2s Rr_0
  obtain ⟨cz_0_0, cz_0_1⟩ := cells2s Rz_0
  go_wp2_with fail
  refine (KA.out _ (fatB FF.out B0)).mono ?_
  rintro r w1 ⟨rfl, b1⟩
  have B1 : Below w.heap.size w w1 := btr B0 b1
  have Rr_1 := heap_of b1 _ _ _ Rr_0
  have Rz_1 := heap_of b1 _ _ _ Rz_0
  clear b1 B0 Rr_0 cr_0_0 cr_0_1 Rz_0 cz_0_0 cz_0_1
  obtain ⟨cr_1_0, cr_1_1⟩ := cells2s Rr_1
  obtain ⟨cz_1_0, cz_1_1⟩ := cells2s Rz_1
  have S2 := box B1.size
  have Lr_2 : Box (w.heap.size < w1.heap.size) := box (Array.getElem?_eq_some_iff.1 Rr_1).1
  have Lz_2 : Box (w.heap.size + 1 < w1.heap.size) := box (Array.getElem?_eq_some_iff.1 Rz_1).1
  have Ro_2 := heap_alloc_last w1 (Obj.cells #[.int .u64 (U : Nat), .int .u64 (V : Nat)] 25)
  have B2 := btr B1 (bal w1 (Obj.cells #[.int .u64 (U : Nat), .int .u64 (V : Nat)] 25))
  have Rr_2 := heap_of (bal w1 (Obj.cells #[.int .u64 (U : Nat), .int .u64 (V : Nat)] 25)) _ _ _ Rr_1
  have Rz_2 := heap_of (bal w1 (Obj.cells #[.int .u64 (U : Nat), .int .u64 (V : Nat)] 25)) _ _ _ Rz_1
  clear B1 Rr_1 cr_1_0 cr_1_1 Rz_1 cz_1_0 cz_1_1
  obtain ⟨cr_2_0, cr_2_1⟩ := cells2s Rr_2
  obtain ⟨cz_2_0, cz_2_1⟩ := cells2s Rz_2
  obtain ⟨co_2_0, co_2_1⟩ := cells2s Ro_2
  have q0 := fz (k := 0) Rz_2
  have q1 := fz (k := 1) Rz_2
  obtain ⟨E0, E1⟩ := set2_cells Rz_2 (.int .u64 0) (.int .u64 0)
  go_wp2
  exact bodyPost_ret (v := .tuple #[.agg #[.int .u64 0, .int .u64 0], .int .i64 2]) (by simp [results, Tryd.results10, go_sem, E0, E1]) rfl ⟨rfl, set2_below B2 (by first | exact Nat.le_refl _ | omega | (have := S2.out; have := Lr_2.out; have := Lz_2.out; omega)) _ _⟩
set_option maxRecDepth 100000 in
set_option maxHeartbeats 8000000 in
theorem bx_lowY (f : Int) (x y U V H L : Nat) (hH : bits .andNot .u64 (x : Int) (U : Int) = (H : Int)) (hL : bits .andNot .u64 (y : Int) (V : Int) = (L : Int)) (w : World) (KA : Box (∀ w, FAt w → Calls Tryd.prog 8 #[.int .u8 f] w fun r w' => r = .returned (.tuple #[.agg #[.int .u64 (U : Nat), .int .u64 (V : Nat)], .int .i64 0]) ∧ Below w.heap.size w w')) (hT : FAt w) : Calls Tryd.prog 10 #[.int .u8 f, .agg #[.int .u64 (x : Nat), .int .u64 (y : Nat)]] w fun r w' => r = .returned (.tuple #[.agg #[.int .u64 (H : Nat), .int .u64 (L : Nat)], .int .i64 0]) ∧ Below w.heap.size w w' := by
  have FF := box hT
  clear hT
  obtain ⟨Rr_0, Rz_0, B0⟩ := opn2 w (Obj.cells #[.int .u64 (x : Nat), .int .u64 (y : Nat)] 25) (Obj.cells #[.int .u64 0, .int .u64 0] 25)
  go_enter Tryd.func10, Tryd.ntmps10
  obtain ⟨cr_0_0, cr_0_1⟩ := cells2s Rr_0
  obtain ⟨cz_0_0, cz_0_1⟩ := cells2s Rz_0
  go_wp2_with fail
  refine (KA.out _ (fatB FF.out B0)).mono ?_
  rintro r w1 ⟨rfl, b1⟩
  have B1 : Below w.heap.size w w1 := btr B0 b1
  have Rr_1 := heap_of b1 _ _ _ Rr_0
  have Rz_1 := heap_of b1 _ _ _ Rz_0
  clear b1 B0 Rr_0 cr_0_0 cr_0_1 Rz_0 cz_0_0 cz_0_1
  obtain ⟨cr_1_0, cr_1_1⟩ := cells2s Rr_1
  obtain ⟨cz_1_0, cz_1_1⟩ := cells2s Rz_1
  have S2 := box B1.size
  have Lr_2 : Box (w.heap.size < w1.heap.size) := box (Array.getElem?_eq_some_iff.1 Rr_1).1
  have Lz_2 : Box (w.heap.size + 1 < w1.heap.size) := box (Array.getElem?_eq_some_iff.1 Rz_1).1
  have Ro_2 := heap_alloc_last w1 (Obj.cells #[.int .u64 (U : Nat), .int .u64 (V : Nat)] 25)
  have B2 := btr B1 (bal w1 (Obj.cells #[.int .u64 (U : Nat), .int .u64 (V : Nat)] 25))
  have Rr_2 := heap_of (bal w1 (Obj.cells #[.int .u64 (U : Nat), .int .u64 (V : Nat)] 25)) _ _ _ Rr_1
  have Rz_2 := heap_of (bal w1 (Obj.cells #[.int .u64 (U : Nat), .int .u64 (V : Nat)] 25)) _ _ _ Rz_1
  clear B1 Rr_1 cr_1_0 cr_1_1 Rz_1 cz_1_0 cz_1_1
  obtain ⟨cr_2_0, cr_2_1⟩ := cells2s Rr_2
  obtain ⟨cz_2_0, cz_2_1⟩ := cells2s Rz_2
  obtain ⟨co_2_0, co_2_1⟩ := cells2s Ro_2
  have q0 := fz (k := 0) Rz_2
  have q1 := fz (k := 1) Rz_2
  obtain ⟨E0, E1⟩ := set2_cells Rz_2 (.int .u64 (H : Nat)) (.int .u64 (L : Nat))
  go_wp2
  exact bodyPost_ret (v := .tuple #[.agg #[.int .u64 (H : Nat), .int .u64 (L : Nat)], .int .i64 0]) (by simp [results, Tryd.results10, go_sem, E0, E1]) rfl ⟨rfl, set2_below B2 (by first | exact Nat.le_refl _ | omega | (have := S2.out; have := Lr_2.out; have := Lz_2.out; omega)) _ _⟩
set_option maxRecDepth 100000 in
set_option maxHeartbeats 8000000 in
theorem bx_unF (f : Int) (x y u v : Nat) (e : Int) (w : World) (KI : Box (∀ w, FAt w → Calls Tryd.prog 12 #[.int .u8 f, .agg #[.int .u64 (x : Nat), .int .u64 (y : Nat)]] w fun r w' => r = .returned (.bool false) ∧ Below w.heap.size w w')) (KN : Box (∀ w, FAt w → Calls Tryd.prog 26 #[.int .u8 f] w fun r w' => r = .returned (.agg #[.int .u64 (u : Nat), .int .u64 (v : Nat)]) ∧ Below w.heap.size w w')) (KC : Box (∀ w, Calls Tryd.prog 25 #[.int .u8 f] w fun r w' => r = .returned (.int .i64 e) ∧ Below w.heap.size w w')) (hT : FAt w) : Calls Tryd.prog 9 #[.int .u8 f, .agg #[.int .u64 (x : Nat), .int .u64 (y : Nat)]] w fun r w' => r = .returned (.tuple #[.agg #[.int .u64 (u : Nat), .int .u64 (v : Nat)], .int .i64 e]) ∧ Below w.heap.size w w' := by
  have FF := box hT
  clear hT
  obtain ⟨Rr_0, Rz_0, B0⟩ := opn2 w (Obj.cells #[.int .u64 (x : Nat), .int .u64 (y : Nat)] 25) (Obj.cells #[.int .u64 0, .int .u64 0] 25)
  go_enter Tryd.func9, Tryd.ntmps9
  obtain ⟨cr_0_0, cr_0_1⟩ := cells2s Rr_0
  obtain ⟨cz_0_0, cz_0_1⟩ := cells2s Rz_0
  go_wp2_with fail
  refine (KI.out _ (fatB FF.out B0)).mono ?_
  rintro r w1 ⟨rfl, b1⟩
  have B1 : Below w.heap.size w w1 := btr B0 b1
  have Rr_1 := heap_of b1 _ _ _ Rr_0
  have Rz_1 := heap_of b1 _ _ _ Rz_0
  clear b1 B0 Rr_0 cr_0_0 cr_0_1 Rz_0 cz_0_0 cz_0_1
  obtain ⟨cr_1_0, cr_1_1⟩ := cells2s Rr_1
  obtain ⟨cz_1_0, cz_1_1⟩ := cells2s Rz_1
  go_wp2_with fail
  refine (KN.out _ (fatB FF.out B1)).mono ?_
  rintro r w2 ⟨rfl, b2⟩
  have B2 : Below w.heap.size w w2 := btr B1 b2
  have Rr_2 := heap_of b2 _ _ _ Rr_1
  have Rz_2 := heap_of b2 _ _ _ Rz_1
  clear b2 B1 Rr_1 cr_1_0 cr_1_1 Rz_1 cz_1_0 cz_1_1
  obtain ⟨cr_2_0, cr_2_1⟩ := cells2s Rr_2
  obtain ⟨cz_2_0, cz_2_1⟩ := cells2s Rz_2
  go_wp2_with fail
  refine (KC.out _).mono ?_
  rintro r w3 ⟨rfl, b3⟩
  have B3 : Below w.heap.size w w3 := btr B2 b3
  have Rr_3 := heap_of b3 _ _ _ Rr_2
  have Rz_3 := heap_of b3 _ _ _ Rz_2
  clear b3 B2 Rr_2 cr_2_0 cr_2_1 Rz_2 cz_2_0 cz_2_1
  obtain ⟨cr_3_0, cr_3_1⟩ := cells2s Rr_3
  obtain ⟨cz_3_0, cz_3_1⟩ := cells2s Rz_3
  have q0 := fz (k := 0) Rz_3
  have q1 := fz (k := 1) Rz_3
  obtain ⟨E0, E1⟩ := set2_cells Rz_3 (.int .u64 (u : Nat)) (.int .u64 (v : Nat))
  go_wp2
  exact bodyPost_ret (v := .tuple #[.agg #[.int .u64 (u : Nat), .int .u64 (v : Nat)], .int .i64 e]) (by simp [results, Tryd.results9, go_sem, E0, E1]) rfl ⟨rfl, set2_below B3 (by first | exact Nat.le_refl _ | omega | (skip; omega)) _ _⟩
set_option maxRecDepth 100000 in
set_option maxHeartbeats 8000000 in
theorem bx_unT (f : Int) (x y u v : Nat) (e : Int) (w : World) (KI : Box (∀ w, FAt w → Calls Tryd.prog 12 #[.int .u8 f, .agg #[.int .u64 (x : Nat), .int .u64 (y : Nat)]] w fun r w' => r = .returned (.bool true) ∧ Below w.heap.size w w')) (KL : Box (∀ w, FAt w → Calls Tryd.prog 10 #[.int .u8 f, .agg #[.int .u64 (x : Nat), .int .u64 (y : Nat)]] w fun r w' => r = .returned (.tuple #[.agg #[.int .u64 (u : Nat), .int .u64 (v : Nat)], .int .i64 e]) ∧ Below w.heap.size w w')) (hT : FAt w) : Calls Tryd.prog 9 #[.int .u8 f, .agg #[.int .u64 (x : Nat), .int .u64 (y : Nat)]] w fun r w' => r = .returned (.tuple #[.agg #[.int .u64 (u : Nat), .int .u64 (v : Nat)], .int .i64 e]) ∧ Below w.heap.size w w' := by
  have FF := box hT
  clear hT
  obtain ⟨Rr_0, Rz_0, B0⟩ := opn2 w (Obj.cells #[.int .u64 (x : Nat), .int .u64 (y : Nat)] 25) (Obj.cells #[.int .u64 0, .int .u64 0] 25)
  go_enter Tryd.func9, Tryd.ntmps9
  obtain ⟨cr_0_0, cr_0_1⟩ := cells2s Rr_0
  obtain ⟨cz_0_0, cz_0_1⟩ := cells2s Rz_0
  go_wp2_with fail
  refine (KI.out _ (fatB FF.out B0)).mono ?_
  rintro r w1 ⟨rfl, b1⟩
  have B1 : Below w.heap.size w w1 := btr B0 b1
  have Rr_1 := heap_of b1 _ _ _ Rr_0
  have Rz_1 := heap_of b1 _ _ _ Rz_0
  clear b1 B0 Rr_0 cr_0_0 cr_0_1 Rz_0 cz_0_0 cz_0_1
  obtain ⟨cr_1_0, cr_1_1⟩ := cells2s Rr_1
  obtain ⟨cz_1_0, cz_1_1⟩ := cells2s Rz_1
  go_wp2_with fail
  refine (KL.out _ (fatB FF.out B1)).mono ?_
  rintro r w2 ⟨rfl, b2⟩
  have B2 : Below w.heap.size w w2 := btr B1 b2
  have Rr_2 := heap_of b2 _ _ _ Rr_1
  have Rz_2 := heap_of b2 _ _ _ Rz_1
  clear b2 B1 Rr_1 cr_1_0 cr_1_1 Rz_1 cz_1_0 cz_1_1
  obtain ⟨cr_2_0, cr_2_1⟩ := cells2s Rr_2
  obtain ⟨cz_2_0, cz_2_1⟩ := cells2s Rz_2
  have q0 := fz (k := 0) Rz_2
  have q1 := fz (k := 1) Rz_2
  obtain ⟨E0, E1⟩ := set2_cells Rz_2 (.int .u64 (u : Nat)) (.int .u64 (v : Nat))
  go_wp2
  exact bodyPost_ret (v := .tuple #[.agg #[.int .u64 (u : Nat), .int .u64 (v : Nat)], .int .i64 e]) (by simp [results, Tryd.results9, go_sem, E0, E1]) rfl ⟨rfl, set2_below B2 (by first | exact Nat.le_refl _ | omega | (skip; omega)) _ _⟩
theorem top_bit (c i : Nat) (hc : c ≤ 64) : (18446744073709551616 - 2 ^ c).testBit i = (decide (c ≤ i) && decide (i < 64)) := by
  have e : 18446744073709551616 - 2 ^ c = 2 ^ c * (2 ^ (64 - c) - 1) + 0 := by
    rw [Nat.mul_sub, ← Nat.pow_add, show c + (64 - c) = 64 by omega, Nat.mul_one, Nat.add_zero]
  rw [e, Nat.testBit_two_pow_mul_add _ (Nat.two_pow_pos c)]
  by_cases h : i < c
  · rw [if_pos h, Nat.zero_testBit, decide_eq_false (by omega : ¬ c ≤ i), Bool.false_and]
  · rw [if_neg h, Nat.testBit_two_pow_sub_one, decide_eq_true (by omega : c ≤ i), Bool.true_and]
    exact decide_eq_decide.2 (by omega)
theorem top_lt (c : Nat) : 18446744073709551616 - 2 ^ c < 18446744073709551616 := by have := Nat.two_pow_pos c; omega
theorem or_top (x c : Nat) (hx : x < 18446744073709551616) (hc : c ≤ 64) : bits .or .u64 (x : Int) ((18446744073709551616 - 2 ^ c : Nat) : Int) = ((x % 2 ^ c + (18446744073709551616 - 2 ^ c) : Nat) : Int) := by
  rw [bits_or_u64_nat _ _ hx (top_lt c)]
  congr 1
  apply Nat.eq_of_testBit_eq
  intro i
  have e : x % 2 ^ c + (18446744073709551616 - 2 ^ c) = 2 ^ c * (2 ^ (64 - c) - 1) + x % 2 ^ c := by
    rw [Nat.mul_sub, ← Nat.pow_add, show c + (64 - c) = 64 by omega, Nat.mul_one, Nat.add_comm]
  rw [Nat.testBit_or, top_bit c i hc, e, Nat.testBit_two_pow_mul_add _ (Nat.mod_lt _ (Nat.two_pow_pos c)), Nat.testBit_mod_two_pow, Nat.testBit_two_pow_sub_one]
  by_cases h : i < c
  · rw [if_pos h, decide_eq_false (by omega : ¬ c ≤ i), decide_eq_true h]
    simp
  · rw [if_neg h, decide_eq_true (by omega : c ≤ i), Bool.true_and]
    by_cases k : i < 64
    · rw [decide_eq_true k, decide_eq_true (by omega : i - c < 64 - c), Bool.or_true]
    · rw [decide_eq_false k, decide_eq_false (by omega : ¬ i - c < 64 - c), Bool.or_false]
      exact Nat.testBit_lt_two_pow (Nat.lt_of_lt_of_le hx (by rw [show 18446744073709551616 = 2 ^ 64 by decide]; exact Nat.pow_le_pow_right (by decide) (by omega)))
theorem an_top (x c : Nat) (hx : x < 18446744073709551616) (hc : c ≤ 64) : bits .andNot .u64 (x : Int) ((18446744073709551616 - 2 ^ c : Nat) : Int) = ((x % 2 ^ c : Nat) : Int) := by
  have hm := top_lt c
  have tb := fun i => top_bit c i hc
  generalize 18446744073709551616 - 2 ^ c = m at hm tb
  have e : bits .andNot .u64 (x : Int) (m : Int) = (((BitVec.ofNat 64 x &&& ~~~ BitVec.ofNat 64 m).toNat : Nat) : Int) := by
    show IntKind.u64.wrap ((BitVec.ofInt 64 (x : Int) &&& ~~~ BitVec.ofInt 64 (m : Int)).toNat : Int) = _
    rw [BitVec.ofInt_natCast, BitVec.ofInt_natCast, IntKind.wrap_u64]
    have := (BitVec.ofNat 64 x &&& ~~~ BitVec.ofNat 64 m).isLt
    generalize (BitVec.ofNat 64 x &&& ~~~ BitVec.ofNat 64 m).toNat = t at *
    omega
  rw [e]
  congr 1
  apply Nat.eq_of_testBit_eq
  intro i
  rw [BitVec.testBit_toNat, BitVec.getLsbD_and, BitVec.getLsbD_not, BitVec.getLsbD_ofNat, BitVec.getLsbD_ofNat, tb i, Nat.testBit_mod_two_pow]
  by_cases h6 : i < 64
  · by_cases h : i < c
    · simp [h, h6, (by omega : ¬ c ≤ i)]
    · simp [h, h6, (by omega : c ≤ i)]
  · simp [h6]
    intro h
    omega
def hcN (f : Int) : Nat := if f = 3 then 64 else 0
def lcN (f : Int) : Nat := if f = 0 then 32 else if f = 2 then 16 else 64
theorem hc_le (f : Int) : hcN f ≤ 64 := by unfold hcN; split <;> omega
theorem lc_le (f : Int) : lcN f ≤ 64 := by unfold lcN; (repeat' split) <;> omega
def upN (f : Int) : Nat := 18446744073709551616 - 2 ^ hcN f
def loN (f : Int) : Nat := 18446744073709551616 - 2 ^ lcN f
theorem four {f : Int} (h0 : 0 ≤ f) (h3 : f ≤ 3) : f = 0 ∨ f = 1 ∨ f = 2 ∨ f = 3 := by omega
theorem kAbv (f : Int) (h0 : 0 ≤ f) (h3 : f ≤ 3) (w : World) (hT : FAt w) : Calls Tryd.prog 8 #[.int .u8 f] w fun r w' => r = .returned (.tuple #[.agg #[.int .u64 (upN f : Nat), .int .u64 (loN f : Nat)], .int .i64 0]) ∧ Below w.heap.size w w' := by
  rcases four h0 h3 with rfl | rfl | rfl | rfl
  · exact bx_above0 w hT
  · exact bx_above1 w hT
  · exact bx_above2 w hT
  · exact bx_above3 w hT
theorem fC_no {f : Int} (h : 3 < f) : fC f = 2 := by unfold fC; rw [if_neg (by omega)]
theorem kAbv_no (f : Int) (h : 3 < f) (h1 : f ≤ 255) : Box (∀ w, FAt w → Calls Tryd.prog 8 #[.int .u8 f] w fun r w' => r = .returned (.tuple #[.agg #[.int .u64 0, .int .u64 0], .int .i64 2]) ∧ Below w.heap.size w w') := box (fun w _ => bx_aboveN f (by omega) h1 (fC_no h) w)
theorem kJoin (f : Int) (x y : Nat) (hx : x < 18446744073709551616) (hy : y < 18446744073709551616) (w : World) : Calls Tryd.prog 28 #[.agg #[.int .u64 (x : Nat), .int .u64 (y : Nat)], .agg #[.int .u64 (upN f : Nat), .int .u64 (loN f : Nat)]] w fun r w' => r = .returned (.agg #[.int .u64 ((x % 2 ^ hcN f + upN f : Nat) : Int), .int .u64 ((y % 2 ^ lcN f + loN f : Nat) : Int)]) ∧ Below w.heap.size w w' :=
  bx_join _ _ _ _ _ _ (or_top x (hcN f) hx (hc_le f)) (or_top y (lcN f) hy (lc_le f)) w
theorem boxed_iff (f : Int) (h0 : 0 ≤ f) (h3 : f ≤ 3) (x y N : Nat) (hx : x < 18446744073709551616) (hy : y < 18446744073709551616) (hN : y + 18446744073709551616 * x = N) : decide (x % 2 ^ hcN f + upN f = x ∧ y % 2 ^ lcN f + loN f = y) = isN f N := by
  subst hN
  unfold isN
  refine decide_eq_decide.2 ?_
  rcases four h0 h3 with rfl | rfl | rfl | rfl
  · have a : hcN 0 = 0 := rfl
    have b : lcN 0 = 32 := rfl
    have c : wdF 0 = 32 := rfl
    unfold upN loN
    rw [a, b, c]
    simp only [Nat.reducePow, Nat.reduceSub]
    omega
  · have a : hcN 1 = 0 := rfl
    have b : lcN 1 = 64 := rfl
    have c : wdF 1 = 64 := rfl
    unfold upN loN
    rw [a, b, c]
    simp only [Nat.reducePow, Nat.reduceSub]
    omega
  · have a : hcN 2 = 0 := rfl
    have b : lcN 2 = 16 := rfl
    have c : wdF 2 = 16 := rfl
    unfold upN loN
    rw [a, b, c]
    simp only [Nat.reducePow, Nat.reduceSub]
    omega
  · have a : hcN 3 = 64 := rfl
    have b : lcN 3 = 64 := rfl
    have c : wdF 3 = 128 := rfl
    unfold upN loN
    rw [a, b, c]
    simp only [Nat.reducePow, Nat.reduceSub]
    omega
theorem kIsb (f : Int) (x y N : Nat) (h0 : 0 ≤ f) (h1 : f ≤ 255) (hx : x < 18446744073709551616) (hy : y < 18446744073709551616) (hN : y + 18446744073709551616 * x = N) : Box (∀ w, FAt w → Calls Tryd.prog 12 #[.int .u8 f, .agg #[.int .u64 (x : Nat), .int .u64 (y : Nat)]] w fun r w' => r = .returned (.bool (isN f N)) ∧ Below w.heap.size w w') := by
  by_cases c : f ≤ 3
  · exact box (fun w hT => bx_isY f x y (upN f) (loN f) _ _ (isN f N) (by rw [ebb_is]; exact boxed_iff f h0 c x y N hx hy hN) w (box (fun w hT => kAbv f h0 c w hT)) (box (fun w => kJoin f x y hx hy w)) hT)
  · have z : isN f N = false := by unfold isN; rw [wdF_none c]; exact decide_eq_false (fun k => absurd k.1 (by decide))
    rw [z]
    exact box (fun w hT => bx_isN f x y 0 0 w (kAbv_no f (by omega) h1) hT)
theorem kFits (f : Int) (x y N : Nat) (h0 : 0 ≤ f) (h1 : f ≤ 255) (hx : x < 18446744073709551616) (hy : y < 18446744073709551616) (hN : y + 18446744073709551616 * x = N) : Box (∀ w, FAt w → Calls Tryd.prog 27 #[.int .u8 f, .agg #[.int .u64 (x : Nat), .int .u64 (y : Nat)]] w fun r w' => r = .returned (.bool (fitN f N)) ∧ Below w.heap.size w w') := by
  refine box (fun w hT => s_fits_is f (x, y) (fitN f N) h0 h1 hx hy ?_ w hT)
  unfold fitsB fitN
  simp only
  rw [hN, ← Bool.decide_and]
  refine decide_eq_decide.2 ?_
  by_cases c : f ≤ 3
  · have e : fW f = ((wdF f : Nat) : Int) := by rcases four h0 c with rfl | rfl | rfl | rfl <;> rfl
    have p := wdF_pos h0 c
    have q : blen N ≤ wdF f ↔ N < 2 ^ wdF f := blen_iff N (wdF f)
    rw [e]
    omega
  · rw [wdF_none c]
    omega
theorem kBox_no (f : Int) (x y N : Nat) (h0 : 0 ≤ f) (h1 : f ≤ 255) (hx : x < 18446744073709551616) (hy : y < 18446744073709551616) (hN : y + 18446744073709551616 * x = N) (q : fitN f N = false) : Box (∀ w, FAt w → Calls Tryd.prog 11 #[.int .u8 f, .agg #[.int .u64 (x : Nat), .int .u64 (y : Nat)]] w fun r w' => r = .returned (.tuple #[.agg #[.int .u64 0, .int .u64 0], .int .i64 2]) ∧ Below w.heap.size w w') := by
  have K := kFits f x y N h0 h1 hx hy hN
  rw [q] at K
  exact box (fun w hT => bx_boxN f x y w K hT)
theorem low_split (f : Int) (h0 : 0 ≤ f) (h3 : f ≤ 3) (x y N : Nat) (hx : x < 18446744073709551616) (hy : y < 18446744073709551616) (hN : y + 18446744073709551616 * x = N) : y % 2 ^ lcN f + 18446744073709551616 * (x % 2 ^ hcN f) = N % 2 ^ wdF f := by
  subst hN
  rcases four h0 h3 with rfl | rfl | rfl | rfl
  · have a : hcN 0 = 0 := rfl
    have b : lcN 0 = 32 := rfl
    have c : wdF 0 = 32 := rfl
    rw [a, b, c]
    simp only [Nat.reducePow]
    omega
  · have a : hcN 1 = 0 := rfl
    have b : lcN 1 = 64 := rfl
    have c : wdF 1 = 64 := rfl
    rw [a, b, c]
    simp only [Nat.reducePow]
    omega
  · have a : hcN 2 = 0 := rfl
    have b : lcN 2 = 16 := rfl
    have c : wdF 2 = 16 := rfl
    rw [a, b, c]
    simp only [Nat.reducePow]
    omega
  · have a : hcN 3 = 64 := rfl
    have b : lcN 3 = 64 := rfl
    have c : wdF 3 = 128 := rfl
    rw [a, b, c]
    simp only [Nat.reducePow]
    omega
theorem up_lo (f : Int) (h0 : 0 ≤ f) (h3 : f ≤ 3) : loN f + 18446744073709551616 * upN f = abN f := by
  rcases four h0 h3 with rfl | rfl | rfl | rfl <;> decide +kernel
theorem mod_top (x c : Nat) : x % 2 ^ c + (18446744073709551616 - 2 ^ c) < 18446744073709551616 ∨ 64 < c := by
  by_cases h : 64 < c
  · exact Or.inr h
  · have := Nat.mod_lt x (Nat.two_pow_pos c)
    have : 2 ^ c ≤ 2 ^ 64 := Nat.pow_le_pow_right (by decide) (by omega)
    rw [show (2 : Nat) ^ 64 = 18446744073709551616 from rfl] at this
    exact Or.inl (by omega)
theorem kBox_is (f : Int) (x y N : Nat) (h0 : 0 ≤ f) (h3 : f ≤ 3) (hx : x < 18446744073709551616) (hy : y < 18446744073709551616) (hN : y + 18446744073709551616 * x = N) (fit : N < 2 ^ wdF f) (u v : Nat) (h : bv7 (N + abN f) = (u, v)) : Box (∀ w, FAt w → Calls Tryd.prog 11 #[.int .u8 f, .agg #[.int .u64 (x : Nat), .int .u64 (y : Nat)]] w fun r w' => r = .returned (.tuple #[.agg #[.int .u64 (u : Nat), .int .u64 (v : Nat)], .int .i64 0]) ∧ Below w.heap.size w w') := by
  have K := kFits f x y N h0 (by omega) hx hy hN
  have q : fitN f N = true := decide_eq_true ⟨by have := wdF_pos h0 h3; omega, fit⟩
  rw [q] at K
  have l := low_split f h0 h3 x y N hx hy hN
  rw [Nat.mod_eq_of_lt fit] at l
  have ul := up_lo f h0 h3
  have ly : y % 2 ^ lcN f + loN f < 18446744073709551616 := (mod_top y (lcN f)).resolve_right (by have := lc_le f; omega)
  have e : bv7 (N + abN f) = (x % 2 ^ hcN f + upN f, y % 2 ^ lcN f + loN f) := bv_to ly (by omega)
  rw [e] at h
  cases h
  have J := box (fun w => kJoin f x y hx hy w)
  refine box (fun w hT => ?_)
  clear e ly ul l q fit
  rcases four h0 h3 with rfl | rfl | rfl | rfl
  · exact bx_box0 x y _ _ w K J hT
  · exact bx_box1 x y _ _ w K J hT
  · exact bx_box2 x y _ _ w K J hT
  · exact bx_box3 x y _ _ w K J hT
theorem kLow_is (f : Int) (x y N : Nat) (h0 : 0 ≤ f) (h3 : f ≤ 3) (hx : x < 18446744073709551616) (hy : y < 18446744073709551616) (hN : y + 18446744073709551616 * x = N) (u v : Nat) (h : bv7 (N % 2 ^ wdF f) = (u, v)) : Box (∀ w, FAt w → Calls Tryd.prog 10 #[.int .u8 f, .agg #[.int .u64 (x : Nat), .int .u64 (y : Nat)]] w fun r w' => r = .returned (.tuple #[.agg #[.int .u64 (u : Nat), .int .u64 (v : Nat)], .int .i64 0]) ∧ Below w.heap.size w w') := by
  rw [bv_to (show y % 2 ^ lcN f < 18446744073709551616 from Nat.lt_of_le_of_lt (Nat.mod_le _ _) hy) (low_split f h0 h3 x y N hx hy hN)] at h
  cases h
  exact box (fun w hT => bx_lowY f x y (upN f) (loN f) _ _ (an_top x (hcN f) hx (hc_le f)) (an_top y (lcN f) hy (lc_le f)) w (box (fun w hT => kAbv f h0 h3 w hT)) hT)
theorem kLow_no (f : Int) (x y N : Nat) (h : 3 < f) (h1 : f ≤ 255) (hx : x < 18446744073709551616) (hy : y < 18446744073709551616) (hN : y + 18446744073709551616 * x = N) : Box (∀ w, FAt w → Calls Tryd.prog 10 #[.int .u8 f, .agg #[.int .u64 (x : Nat), .int .u64 (y : Nat)]] w fun r w' => r = .returned (.tuple #[.agg #[.int .u64 0, .int .u64 0], .int .i64 2]) ∧ Below w.heap.size w w') := box (fun w hT => bx_lowN f x y 0 0 w (kAbv_no f h h1) hT)
theorem kUbx_no (f : Int) (x y N : Nat) (h : 3 < f) (h1 : f ≤ 255) (hx : x < 18446744073709551616) (hy : y < 18446744073709551616) (hN : y + 18446744073709551616 * x = N) : Box (∀ w, FAt w → Calls Tryd.prog 9 #[.int .u8 f, .agg #[.int .u64 (x : Nat), .int .u64 (y : Nat)]] w fun r w' => r = .returned (.tuple #[.agg #[.int .u64 0, .int .u64 0], .int .i64 2]) ∧ Below w.heap.size w w') := by
  have K := kIsb f x y N (by omega) h1 hx hy hN
  have z : isN f N = false := by unfold isN; rw [wdF_none (by omega)]; exact decide_eq_false (fun k => absurd k.1 (by decide))
  rw [z] at K
  exact box (fun w hT => bx_unF f x y 0 0 2 w K (box (fun w hT => n_nan f (by omega) h1 h w hT)) (box (fun w => bel_st (s_check_is f 2 (by omega) h1 (fC_no h) w))) hT)
theorem nan_words {f : Int} (h0 : 0 ≤ f) (h3 : f ≤ 3) : eNaN f = nanN f := by
  rcases four h0 h3 with rfl | rfl | rfl | rfl <;> decide +kernel
theorem kUbx_is (f : Int) (x y N : Nat) (h0 : 0 ≤ f) (h3 : f ≤ 3) (hx : x < 18446744073709551616) (hy : y < 18446744073709551616) (hN : y + 18446744073709551616 * x = N) (u v : Nat) (h : bv7 (ubN f N) = (u, v)) : Box (∀ w, FAt w → Calls Tryd.prog 9 #[.int .u8 f, .agg #[.int .u64 (x : Nat), .int .u64 (y : Nat)]] w fun r w' => r = .returned (.tuple #[.agg #[.int .u64 (u : Nat), .int .u64 (v : Nat)], .int .i64 0]) ∧ Below w.heap.size w w') := by
  have K := kIsb f x y N h0 (by omega) hx hy hN
  unfold ubN at h
  cases q : isN f N
  · rw [q] at K h
    have KN : Box (∀ w, FAt w → Calls Tryd.prog 26 #[.int .u8 f] w fun r w' => r = .returned (.agg #[.int .u64 (u : Nat), .int .u64 (v : Nat)]) ∧ Below w.heap.size w w') := box (fun w hT => by
      have := s_nan f (four h0 h3) (nanN f) (nan_words h0 h3) w hT
      rw [show bv7 (nanN f) = (u, v) from h] at this
      exact this)
    exact box (fun w hT => bx_unF f x y u v 0 w K KN (box (fun w => bel_st (s_check_is f 0 h0 (by omega) (by unfold fC; rw [if_pos (four h0 h3)]) w))) hT)
  · rw [q] at K h
    exact box (fun w hT => bx_unT f x y u v 0 w K (kLow_is f x y N h0 h3 hx hy hN u v h) hT)
theorem lives22 (w : World) (hT : FAt w) : Calls Tryd.prog 14 #[] w fun r w' => r = .returned (.bool true) ∧ Below w.heap.size w w' :=
  lives22_all (fun f x y N h0 h3 hx hy hN u v e => kUbx_is f x y N h0 h3 hx hy hN u v e) (fun f x y N h h1 hx hy hN => kUbx_no f x y N h h1 hx hy hN) (fun f x y N h0 h3 hx hy hN fit u v e => kBox_is f x y N h0 h3 hx hy hN fit u v e) (fun f x y N h0 h1 hx hy hN q => kBox_no f x y N h0 h1 hx hy hN q) w hT
end Go.Proofs.YtakmlgcnfbiagaaDoor
namespace Go.Proofs.YtakmlgcnfbiagaaDoor
set_option maxRecDepth 100000
set_option maxHeartbeats 40000000
set_option maxRecDepth 100000
open Go.RowKit WMath
set_option linter.unusedVariables false
theorem boxBack_fin (f : Int) (h0 : 0 ≤ f) (h1 : f ≤ 255) (g : Int) (g0 : 0 ≤ g) (g1 : g ≤ 255) (x y N : Nat) (hx : x < 18446744073709551616) (hy : y < 18446744073709551616) (hN : y + 18446744073709551616 * x = N) (w : World) (hT : FAt w) : Calls Tryd.prog 5 #[.int .u8 f, .int .u8 g, .agg #[.int .u64 (x : Nat), .int .u64 (y : Nat)]] w fun r w' => r = .returned (.bool true) ∧ Below w.heap.size w w' :=
  boxback_all f g h0 h1 g0 g1 x y N hx hy hN (fun f x y N h0 h3 hx hy hN u v e => kUbx_is f x y N h0 h3 hx hy hN u v e) (fun f x y N h h1 hx hy hN => kUbx_no f x y N h h1 hx hy hN) (fun f x y N h0 h3 hx hy hN u v e => kLow_is f x y N h0 h3 hx hy hN u v e) (fun f x y N h h1 hx hy hN => kLow_no f x y N h h1 hx hy hN) (fun f x y N h0 h3 hx hy hN fit u v e => kBox_is f x y N h0 h3 hx hy hN fit u v e) (fun f x y N h0 h1 hx hy hN q => kBox_no f x y N h0 h1 hx hy hN q) (fun f x y N h0 h1 hx hy hN => kIsb f x y N h0 h1 hx hy hN) (box (fun w hT => lives22 w hT)) w hT
end Go.Proofs.YtakmlgcnfbiagaaDoor
