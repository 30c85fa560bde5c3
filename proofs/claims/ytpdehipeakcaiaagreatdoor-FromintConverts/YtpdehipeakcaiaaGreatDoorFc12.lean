/-
  What the functions that the statement reaches return: part 12 (RA, RB, RC, RD, RE, R12).
-/
import Derived.Lib.MinMax
import Derived.Deep.RegionHeld3
import Derived.Test.YtpdehipeakcaiaaGreatDoorFc11
namespace Go.Proofs.YtpdehipeakcaiaaGreatDoor
set_option maxRecDepth 100000
set_option maxHeartbeats 40000000
set_option maxRecDepth 100000
open Go.RowKit WMath XMath
set_option linter.unusedSimpArgs false
set_option linter.unusedVariables false
theorem lg_is (x : Nat) (h : nl x ≤ 16384) : lg x = (nbA x, 0) := by unfold lg; rw [if_pos h]
theorem nl_W {f : Int} (hf : Is4 f) {W : Nat} (h : Wok f W) : nl W ≤ 8192 := by
  obtain ⟨n1, n2, n3, n4, n5, n6⟩ := nm8 hf
  have := nl_le_of W 17 (by
    have a := h.2
    have b : 2 ^ pV f ≤ 2 ^ 127 := Nat.pow_le_pow_right (by decide) (by omega)
    rw [show (2 : Nat) ^ (8 * 17) = 4 * 2 ^ 127 * 128 by decide]
    omega)
  omega
theorem k_emin (f : Int) (hf : Is4 f) (w : World) (hT : FAt w) : Calls Tryz.prog 27 #[.int .u8 f] w fun r w' => r = .returned (.int .i64 (1 - fE f)) ∧ Below w.heap.size w w' :=
  s_emin f _ _ (is4_ok hf).1 (is4_ok hf).2.1 rfl (em_lim hf).2.2.2.2.1 w hT
theorem eS_lt {f : Int} (hf : Is4 f) (j S : Nat) (hS : S ≤ 2 * 2 ^ pV f) (hj : j = 0 ∨ 2 ^ pV f ≤ S) (ht : lx f + (j : Int) - 1 + (blen S : Int) ≤ fE f) : j * 2 ^ pV f + S < 2 ^ wV f := by
  obtain ⟨g1, g2, g3, g4, g5, g6, g7⟩ := fm hf
  have p := Nat.two_pow_pos (pV f)
  by_cases s0 : S = 0
  · obtain rfl : j = 0 := by omega
    subst s0
    rw [Nat.zero_mul]
    exact Nat.two_pow_pos _
  obtain ⟨e, t, he, htt, nz, h1, h2⟩ := rep hf j S s0 hS hj ht
  have := h1 false
  unfold enc7 eS at this
  rw [if_neg (by decide), Nat.add_zero, Nat.add_zero] at this
  rw [← this, g1]
  have := Nat.mul_le_mul_right (2 ^ pV f) (show e + 1 ≤ oV f + 1 by omega)
  rw [Nat.add_mul, Nat.one_mul] at this
  omega
def RtN (f : Int) (x : XN) (W : Nat) (more : Bool) : Prop := ∀ k : Nat, topX x / 2 - fP f + (k : Int) ≤ 1000000 → ∃ N ex, flX x (2 * (topX x / 2 - fP f + (k : Int))) = ((N, ex), 0) ∧ RootIs N (W / 2 ^ k) ∧ (ex && decide (N - W / 2 ^ k * (W / 2 ^ k) = 0)) = (!more && decide (W % 2 ^ k = 0))
theorem rz_inf (f : Int) (neg : Bool) (hf : Is4 f) (u v : Nat) (hv : bv7 (eInf f neg) = (u, v)) (w : World) : Calls Tryz.prog 106 #[.int .u8 f, .bool neg] w fun r w' => r = .returned (.agg #[.int .u64 (u : Nat), .int .u64 (v : Nat)]) ∧ Below w.heap.size w w' := by
  have := r_inf f neg hf _ rfl w
  rw [hv] at this
  exact this
theorem rz_zero (f : Int) (neg : Bool) (hf : Is4 f) (u v : Nat) (hv : bv7 (eZero f neg) = (u, v)) (w : World) : Calls Tryz.prog 81 #[.int .u8 f, .bool neg] w fun r w' => r = .returned (.agg #[.int .u64 (u : Nat), .int .u64 (v : Nat)]) ∧ Below w.heap.size w w' := by
  have := r_zero f neg hf _ rfl w
  rw [hv] at this
  exact this
theorem cut_two (W k : Nat) : W / 2 ^ (k + 1) = rS W k := by unfold rS; rw [Nat.pow_succ, ← Nat.div_div_eq_div_mul]
theorem ex_is (W k : Nat) (more : Bool) : (!more && decide (W % 2 ^ (k + 1) = 0)) = !(rH W k || rM W k more) := by
  have e : W % 2 ^ (k + 1) = 0 ↔ W % 2 ^ k = 0 ∧ W / 2 ^ k % 2 = 0 := by
    have h := Nat.mod_pow_succ (x := W) (b := 2) (k := k)
    have p := Nat.two_pow_pos k
    rw [h]
    constructor
    · intro q
      have a : W % 2 ^ k = 0 := by omega
      have b : 2 ^ k * (W / 2 ^ k % 2) = 0 := by omega
      exact ⟨a, by rcases Nat.mul_eq_zero.1 b with c | c; omega; exact c⟩
    · rintro ⟨a, b⟩
      rw [a, b, Nat.mul_zero]
  unfold rH rM
  rw [Bool.eq_iff_iff]
  simp only [Bool.and_eq_true, Bool.not_eq_true', decide_eq_true_iff, Bool.or_eq_false_iff, decide_eq_false_iff_not, e, Decidable.not_not]
  constructor
  · rintro ⟨a, b, c⟩
    exact ⟨by omega, b, a⟩
  · rintro ⟨a, b, c⟩
    exact ⟨c, b, by omega⟩
theorem wh_is (W k : Nat) (more : Bool) : (!more && decide (W % 2 ^ k = 0)) = !rM W k more := by
  unfold rM
  rw [Bool.eq_iff_iff]
  simp only [Bool.and_eq_true, Bool.not_eq_true', decide_eq_true_iff, Bool.or_eq_false_iff, decide_eq_false_iff_not, Decidable.not_not]
  exact ⟨fun h => ⟨h.2, h.1⟩, fun h => ⟨h.2, h.1⟩⟩
theorem last_is (W k : Nat) : decide (W / 2 ^ k % 2 = 1) = rH W k := rfl
def Fnd (f : Int) (x : XN) (root : Bool) (T : Int) (W : Nat) (more : Bool) : Prop :=
  if root = true then T = topX x / 2 ∧ RtN f x W more else T = topX x ∧ ∀ k : Nat, T - fP f + (k : Int) ≤ 2000000 → flX x (T - fP f + (k : Int)) = ((W / 2 ^ k, !more && decide (W % 2 ^ k = 0)), 0)
theorem rtaken (m : Int) (hm : 0 ≤ m ∧ m ≤ 4) (neg : Bool) (W k : Nat) (more : Bool) (lw : nl W ≤ 8192) (A : Int) (M rs : ByteArray) (hM : nbA (rS W k) = M) (hr : nbA (rG m neg W k more) = rs) (w : World) :
    Calls Tryz.prog 80 #[.int .u8 m, .bool neg, .agg #[.string M, .int .i64 A, .int .i64 (hfV (rH W k) (rM W k more)), .bool (!(rH W k || rM W k more))]] w fun r w' => r = .returned (.string rs) ∧ Below w.heap.size w w' := by
  have d1 : nl (W / 2 ^ k) ≤ 8192 := Nat.le_trans (nl_mono _ _ (Nat.div_le_self _ _)) lw
  have d2 : nl (rS W k) ≤ 8192 := Nat.le_trans (nl_mono _ _ (Nat.div_le_self _ _)) d1
  have d3 : nl (rS W k + 1) ≤ 16384 := by
    have q : blen (rS W k + 1) ≤ blen (rS W k) + 1 := (blen_iff _ _).2 (by
      have a := (blen_iff (rS W k) _).1 (Nat.le_refl _)
      have b := Nat.two_pow_pos (blen (rS W k))
      rw [Nat.pow_succ]
      omega)
    unfold nl at d2 ⊢
    omega
  refine rf_taken m neg (gO m neg (rO W k) (rH W k) (rM W k more)) M (nbA (rS W k + 1)) rs A _ 0 _ w
    (box (fun w => rf_up m hm neg (rO W k) _ _ _ M A _ _ rfl rfl rfl w (box (fun w => rf_last (rS W k) M _ hM (by omega) rfl w))))
    (box (fun _ w => nat_Add (rS W k) 1 _ _ _ 0 hM nb1 (lg_is _ d3) (by omega) (Nat.le_trans nl1 (by decide)) w)) ?_
  rw [← hr, ← hM]
  unfold rG
  split <;> rfl
theorem r_emin_b (f : Int) (hf : Is4 f) (w : World) : Calls Tryz.prog 78 #[.int .u8 f] w fun r w' => r = .returned (.int .i64 (1 - fE f)) ∧ Below w.heap.size w w' := bel_same (r_emin f _ _ (is4_ok hf).1 rfl (em_lim hf).2.2.2.2.1 w)
theorem r_emax_b (f : Int) (hf : Is4 f) (w : World) : Calls Tryz.prog 76 #[.int .u8 f] w fun r w' => r = .returned (.int .i64 (fE f)) ∧ Below w.heap.size w w' := bel_same (r_emax f _ (is4_ok hf).1 rfl w)
theorem r_prec_b (f : Int) (hf : Is4 f) (w : World) : Calls Tryz.prog 75 #[.int .u8 f] w fun r w' => r = .returned (.int .i64 (fP f)) ∧ Below w.heap.size w w' := bel_same (r_precision f _ (is4_ok hf).1 rfl w)
theorem rover (f m : Int) (hf : Is4 f) (hm : 0 ≤ m ∧ m ≤ 4) (neg : Bool) (u v : Nat) (hv : bv7 (ovB f m neg) = (u, v)) (w : World) : Calls Tryz.prog 77 #[.int .u8 f, .int .u8 m, .bool neg] w fun r w' => r = .returned (.agg #[.int .u64 (u : Nat), .int .u64 (v : Nat)]) ∧ Below w.heap.size w w' := by
  refine rf_over f m hm neg u v w (box (fun h w => rz_inf f neg hf u v ?_ w)) (box (fun h w => ?_))
  · unfold ovB at hv; rw [if_pos h] at hv; exact hv
  · unfold ovB at hv
    rw [if_neg (by rw [h]; decide)] at hv
    have := r_greatest f neg hf _ rfl w
    rw [hv] at this
    exact this
theorem od_nil (S : Nat) (s : ByteArray) (hs : nbA S = s) : (s.toList == []) = decide (S = 0) := by
  rw [eq_empty, ← hs, nbA_size, Bool.eq_iff_iff, decide_eq_true_iff, decide_eq_true_iff]
  exact ⟨nl_eq0 _, fun h => by rw [h]; exact nl_zero⟩
end Go.Proofs.YtpdehipeakcaiaaGreatDoor
namespace Go.Proofs.YtpdehipeakcaiaaGreatDoor
set_option maxRecDepth 100000
set_option maxHeartbeats 40000000
set_option maxRecDepth 100000
open Go.RowKit WMath
set_option linter.unusedSimpArgs false
set_option linter.unusedVariables false
set_option maxRecDepth 100000 in
set_option maxHeartbeats 4000000 in
theorem rf_fault_a (f m : Int) (b : Bool) (s t : ByteArray) (e : Int) (o1 o2 o3 : Bool) (w : World)
    (K1 : Box (∀ w, Calls Tryz.prog 11 #[.int .u8 f] w fun r w' => r = .returned (.bool o1) ∧ Below w.heap.size w w'))
    (K2 : Box (∀ w, Calls Tryz.prog 12 #[.int .u8 m] w fun r w' => r = .returned (.bool o2) ∧ Below w.heap.size w w'))
    (K3 : Box (∀ w, Calls Tryz.prog 73 #[.agg #[.bool b, .string s, .string t, .int .i64 e]] w fun r w' => r = .returned (.bool o3) ∧ Below w.heap.size w w'))
    (h1 : o1 = false)
    : Calls Tryz.prog 39 #[.int .u8 f, .int .u8 m, .agg #[.bool b, .string s, .string t, .int .i64 e]] w fun r w' => r = .returned (.int .i64 2) ∧ Below w.heap.size w w' := by
  subst h1
  obtain ⟨Rx_0, B0⟩ := opn1 w (Obj.cells #[.bool b, .string s, .string t, .int .i64 e] 50)
  go_enter Tryz.func39, Tryz.ntmps39
  go_wp2_with fail
  refine (K1.out _).mono ?_
  rintro r w1 ⟨rfl, b1⟩
  have B1 : Below w.heap.size w w1 := btr B0 b1
  have Rx_1 := heap_of b1 _ _ _ Rx_0
  clear b1 B0 Rx_0
  obtain ⟨cx_1_0, cx_1_1, cx_1_2, cx_1_3⟩ := cells4s Rx_1
  go_wp2
  go_ret
  exact ⟨rfl, B1⟩
set_option maxRecDepth 100000 in
set_option maxHeartbeats 4000000 in
theorem rf_fault_b (f m : Int) (b : Bool) (s t : ByteArray) (e : Int) (o1 o2 o3 : Bool) (w : World)
    (K1 : Box (∀ w, Calls Tryz.prog 11 #[.int .u8 f] w fun r w' => r = .returned (.bool o1) ∧ Below w.heap.size w w'))
    (K2 : Box (∀ w, Calls Tryz.prog 12 #[.int .u8 m] w fun r w' => r = .returned (.bool o2) ∧ Below w.heap.size w w'))
    (K3 : Box (∀ w, Calls Tryz.prog 73 #[.agg #[.bool b, .string s, .string t, .int .i64 e]] w fun r w' => r = .returned (.bool o3) ∧ Below w.heap.size w w'))
    (h1 : o1 = true) (h2 : o2 = false)
    : Calls Tryz.prog 39 #[.int .u8 f, .int .u8 m, .agg #[.bool b, .string s, .string t, .int .i64 e]] w fun r w' => r = .returned (.int .i64 2) ∧ Below w.heap.size w w' := by
  subst h1 h2
  obtain ⟨Rx_0, B0⟩ := opn1 w (Obj.cells #[.bool b, .string s, .string t, .int .i64 e] 50)
  go_enter Tryz.func39, Tryz.ntmps39
  go_wp2_with fail
  refine (K1.out _).mono ?_
  rintro r w1 ⟨rfl, b1⟩
  have B1 : Below w.heap.size w w1 := btr B0 b1
  have Rx_1 := heap_of b1 _ _ _ Rx_0
  clear b1 B0 Rx_0
  obtain ⟨cx_1_0, cx_1_1, cx_1_2, cx_1_3⟩ := cells4s Rx_1
  go_wp2_with fail
  refine (K2.out _).mono ?_
  rintro r w2 ⟨rfl, b2⟩
  have B2 : Below w.heap.size w w2 := btr B1 b2
  have Rx_2 := heap_of b2 _ _ _ Rx_1
  clear b2 B1 Rx_1 cx_1_0 cx_1_1 cx_1_2 cx_1_3
  obtain ⟨cx_2_0, cx_2_1, cx_2_2, cx_2_3⟩ := cells4s Rx_2
  go_wp2
  go_ret
  exact ⟨rfl, B2⟩
set_option maxRecDepth 100000 in
set_option maxHeartbeats 4000000 in
theorem rf_fault_c (f m : Int) (b : Bool) (s t : ByteArray) (e : Int) (o1 o2 o3 : Bool) (w : World)
    (K1 : Box (∀ w, Calls Tryz.prog 11 #[.int .u8 f] w fun r w' => r = .returned (.bool o1) ∧ Below w.heap.size w w'))
    (K2 : Box (∀ w, Calls Tryz.prog 12 #[.int .u8 m] w fun r w' => r = .returned (.bool o2) ∧ Below w.heap.size w w'))
    (K3 : Box (∀ w, Calls Tryz.prog 73 #[.agg #[.bool b, .string s, .string t, .int .i64 e]] w fun r w' => r = .returned (.bool o3) ∧ Below w.heap.size w w'))
    (h1 : o1 = true) (h2 : o2 = true) (h3 : o3 = false)
    : Calls Tryz.prog 39 #[.int .u8 f, .int .u8 m, .agg #[.bool b, .string s, .string t, .int .i64 e]] w fun r w' => r = .returned (.int .i64 2) ∧ Below w.heap.size w w' := by
  subst h1 h2 h3
  obtain ⟨Rx_0, B0⟩ := opn1 w (Obj.cells #[.bool b, .string s, .string t, .int .i64 e] 50)
  go_enter Tryz.func39, Tryz.ntmps39
  go_wp2_with fail
  refine (K1.out _).mono ?_
  rintro r w1 ⟨rfl, b1⟩
  have B1 : Below w.heap.size w w1 := btr B0 b1
  have Rx_1 := heap_of b1 _ _ _ Rx_0
  clear b1 B0 Rx_0
  obtain ⟨cx_1_0, cx_1_1, cx_1_2, cx_1_3⟩ := cells4s Rx_1
  go_wp2_with fail
  refine (K2.out _).mono ?_
  rintro r w2 ⟨rfl, b2⟩
  have B2 : Below w.heap.size w w2 := btr B1 b2
  have Rx_2 := heap_of b2 _ _ _ Rx_1
  clear b2 B1 Rx_1 cx_1_0 cx_1_1 cx_1_2 cx_1_3
  obtain ⟨cx_2_0, cx_2_1, cx_2_2, cx_2_3⟩ := cells4s Rx_2
  go_wp2_with fail
  refine (K3.out _).mono ?_
  rintro r w3 ⟨rfl, b3⟩
  have B3 : Below w.heap.size w w3 := btr B2 b3
  have Rx_3 := heap_of b3 _ _ _ Rx_2
  clear b3 B2 Rx_2 cx_2_0 cx_2_1 cx_2_2 cx_2_3
  obtain ⟨cx_3_0, cx_3_1, cx_3_2, cx_3_3⟩ := cells4s Rx_3
  go_wp2
  go_ret
  exact ⟨rfl, B3⟩
set_option maxRecDepth 100000 in
set_option maxHeartbeats 4000000 in
theorem rf_fault_d (f m : Int) (b : Bool) (s t : ByteArray) (e : Int) (o1 o2 o3 : Bool) (w : World)
    (K1 : Box (∀ w, Calls Tryz.prog 11 #[.int .u8 f] w fun r w' => r = .returned (.bool o1) ∧ Below w.heap.size w w'))
    (K2 : Box (∀ w, Calls Tryz.prog 12 #[.int .u8 m] w fun r w' => r = .returned (.bool o2) ∧ Below w.heap.size w w'))
    (K3 : Box (∀ w, Calls Tryz.prog 73 #[.agg #[.bool b, .string s, .string t, .int .i64 e]] w fun r w' => r = .returned (.bool o3) ∧ Below w.heap.size w w'))
    (h1 : o1 = true) (h2 : o2 = true) (h3 : o3 = true) (h4 : decide ((8192 : Int) < (s.size : Int)) = true)
    : Calls Tryz.prog 39 #[.int .u8 f, .int .u8 m, .agg #[.bool b, .string s, .string t, .int .i64 e]] w fun r w' => r = .returned (.int .i64 4) ∧ Below w.heap.size w w' := by
  subst h1 h2 h3
  obtain ⟨Rx_0, B0⟩ := opn1 w (Obj.cells #[.bool b, .string s, .string t, .int .i64 e] 50)
  go_enter Tryz.func39, Tryz.ntmps39
  go_wp2_with fail
  refine (K1.out _).mono ?_
  rintro r w1 ⟨rfl, b1⟩
  have B1 : Below w.heap.size w w1 := btr B0 b1
  have Rx_1 := heap_of b1 _ _ _ Rx_0
  clear b1 B0 Rx_0
  obtain ⟨cx_1_0, cx_1_1, cx_1_2, cx_1_3⟩ := cells4s Rx_1
  go_wp2_with fail
  refine (K2.out _).mono ?_
  rintro r w2 ⟨rfl, b2⟩
  have B2 : Below w.heap.size w w2 := btr B1 b2
  have Rx_2 := heap_of b2 _ _ _ Rx_1
  clear b2 B1 Rx_1 cx_1_0 cx_1_1 cx_1_2 cx_1_3
  obtain ⟨cx_2_0, cx_2_1, cx_2_2, cx_2_3⟩ := cells4s Rx_2
  go_wp2_with fail
  refine (K3.out _).mono ?_
  rintro r w3 ⟨rfl, b3⟩
  have B3 : Below w.heap.size w w3 := btr B2 b3
  have Rx_3 := heap_of b3 _ _ _ Rx_2
  clear b3 B2 Rx_2 cx_2_0 cx_2_1 cx_2_2 cx_2_3
  obtain ⟨cx_3_0, cx_3_1, cx_3_2, cx_3_3⟩ := cells4s Rx_3
  go_wp2
  go_ret
  exact ⟨rfl, B3⟩
set_option maxRecDepth 100000 in
set_option maxHeartbeats 4000000 in
theorem rf_fault_e (f m : Int) (b : Bool) (s t : ByteArray) (e : Int) (o1 o2 o3 : Bool) (w : World)
    (K1 : Box (∀ w, Calls Tryz.prog 11 #[.int .u8 f] w fun r w' => r = .returned (.bool o1) ∧ Below w.heap.size w w'))
    (K2 : Box (∀ w, Calls Tryz.prog 12 #[.int .u8 m] w fun r w' => r = .returned (.bool o2) ∧ Below w.heap.size w w'))
    (K3 : Box (∀ w, Calls Tryz.prog 73 #[.agg #[.bool b, .string s, .string t, .int .i64 e]] w fun r w' => r = .returned (.bool o3) ∧ Below w.heap.size w w'))
    (h1 : o1 = true) (h2 : o2 = true) (h3 : o3 = true) (h4 : decide ((8192 : Int) < (s.size : Int)) = false) (h5 : decide ((8192 : Int) < (t.size : Int)) = true)
    : Calls Tryz.prog 39 #[.int .u8 f, .int .u8 m, .agg #[.bool b, .string s, .string t, .int .i64 e]] w fun r w' => r = .returned (.int .i64 4) ∧ Below w.heap.size w w' := by
  subst h1 h2 h3
  obtain ⟨Rx_0, B0⟩ := opn1 w (Obj.cells #[.bool b, .string s, .string t, .int .i64 e] 50)
  go_enter Tryz.func39, Tryz.ntmps39
  go_wp2_with fail
  refine (K1.out _).mono ?_
  rintro r w1 ⟨rfl, b1⟩
  have B1 : Below w.heap.size w w1 := btr B0 b1
  have Rx_1 := heap_of b1 _ _ _ Rx_0
  clear b1 B0 Rx_0
  obtain ⟨cx_1_0, cx_1_1, cx_1_2, cx_1_3⟩ := cells4s Rx_1
  go_wp2_with fail
  refine (K2.out _).mono ?_
  rintro r w2 ⟨rfl, b2⟩
  have B2 : Below w.heap.size w w2 := btr B1 b2
  have Rx_2 := heap_of b2 _ _ _ Rx_1
  clear b2 B1 Rx_1 cx_1_0 cx_1_1 cx_1_2 cx_1_3
  obtain ⟨cx_2_0, cx_2_1, cx_2_2, cx_2_3⟩ := cells4s Rx_2
  go_wp2_with fail
  refine (K3.out _).mono ?_
  rintro r w3 ⟨rfl, b3⟩
  have B3 : Below w.heap.size w w3 := btr B2 b3
  have Rx_3 := heap_of b3 _ _ _ Rx_2
  clear b3 B2 Rx_2 cx_2_0 cx_2_1 cx_2_2 cx_2_3
  obtain ⟨cx_3_0, cx_3_1, cx_3_2, cx_3_3⟩ := cells4s Rx_3
  go_wp2
  go_ret
  exact ⟨rfl, B3⟩
set_option maxRecDepth 100000 in
set_option maxHeartbeats 4000000 in
theorem rf_fault_f (f m : Int) (b : Bool) (s t : ByteArray) (e : Int) (o1 o2 o3 : Bool) (w : World)
    (K1 : Box (∀ w, Calls Tryz.prog 11 #[.int .u8 f] w fun r w' => r = .returned (.bool o1) ∧ Below w.heap.size w w'))
    (K2 : Box (∀ w, Calls Tryz.prog 12 #[.int .u8 m] w fun r w' => r = .returned (.bool o2) ∧ Below w.heap.size w w'))
    (K3 : Box (∀ w, Calls Tryz.prog 73 #[.agg #[.bool b, .string s, .string t, .int .i64 e]] w fun r w' => r = .returned (.bool o3) ∧ Below w.heap.size w w'))
    (h1 : o1 = true) (h2 : o2 = true) (h3 : o3 = true) (h4 : decide ((8192 : Int) < (s.size : Int)) = false) (h5 : decide ((8192 : Int) < (t.size : Int)) = false)
    : Calls Tryz.prog 39 #[.int .u8 f, .int .u8 m, .agg #[.bool b, .string s, .string t, .int .i64 e]] w fun r w' => r = .returned (.int .i64 0) ∧ Below w.heap.size w w' := by
  subst h1 h2 h3
  obtain ⟨Rx_0, B0⟩ := opn1 w (Obj.cells #[.bool b, .string s, .string t, .int .i64 e] 50)
  go_enter Tryz.func39, Tryz.ntmps39
  go_wp2_with fail
  refine (K1.out _).mono ?_
  rintro r w1 ⟨rfl, b1⟩
  have B1 : Below w.heap.size w w1 := btr B0 b1
  have Rx_1 := heap_of b1 _ _ _ Rx_0
  clear b1 B0 Rx_0
  obtain ⟨cx_1_0, cx_1_1, cx_1_2, cx_1_3⟩ := cells4s Rx_1
  go_wp2_with fail
  refine (K2.out _).mono ?_
  rintro r w2 ⟨rfl, b2⟩
  have B2 : Below w.heap.size w w2 := btr B1 b2
  have Rx_2 := heap_of b2 _ _ _ Rx_1
  clear b2 B1 Rx_1 cx_1_0 cx_1_1 cx_1_2 cx_1_3
  obtain ⟨cx_2_0, cx_2_1, cx_2_2, cx_2_3⟩ := cells4s Rx_2
  go_wp2_with fail
  refine (K3.out _).mono ?_
  rintro r w3 ⟨rfl, b3⟩
  have B3 : Below w.heap.size w w3 := btr B2 b3
  have Rx_3 := heap_of b3 _ _ _ Rx_2
  clear b3 B2 Rx_2 cx_2_0 cx_2_1 cx_2_2 cx_2_3
  obtain ⟨cx_3_0, cx_3_1, cx_3_2, cx_3_3⟩ := cells4s Rx_3
  go_wp2
  go_ret
  exact ⟨rfl, B3⟩
set_option maxRecDepth 100000 in
set_option maxHeartbeats 4000000 in
theorem rf_Round_null (f m : Int) (w : World)
    (KF : Box (∀ w, Calls Tryz.prog 39 #[.int .u8 f, .int .u8 m, .agg #[.bool false, .string ⟨#[]⟩, .string ⟨#[1]⟩, .int .i64 0]] w fun r w' => r = .returned (.int .i64 0) ∧ Below w.heap.size w w'))
    : Calls Tryz.prog 15 #[.int .u8 f, .int .u8 m, .agg #[.bool false, .string ⟨#[]⟩, .string ⟨#[1]⟩, .int .i64 0]] w fun r w' => r = .returned (.tuple #[.agg #[.int .u64 0, .int .u64 0], .int .u8 0, .int .i64 0]) ∧ Below w.heap.size w w' := by
  obtain ⟨Rx_0, Rz_0, B0⟩ := opn2 w (Obj.cells #[.bool false, .string ⟨#[]⟩, .string ⟨#[1]⟩, .int .i64 0] 50) (Obj.cells #[.int .u64 0, .int .u64 0] 27)
  go_enter Tryz.func15, Tryz.ntmps15
  go_wp2_with fail
  refine (KF.out _).mono ?_
  rintro r w1 ⟨rfl, b1⟩
  have B1 : Below w.heap.size w w1 := btr B0 b1
  have Rx_1 := heap_of b1 _ _ _ Rx_0
  have Rz_1 := heap_of b1 _ _ _ Rz_0
  clear b1 B0 Rx_0 Rz_0
  obtain ⟨cx_1_0, cx_1_1, cx_1_2, cx_1_3⟩ := cells4s Rx_1
  obtain ⟨cz_1_0, cz_1_1⟩ := cells2s Rz_1
  have q0 := fz (k := 0) Rz_1
  have q1 := fz (k := 1) Rz_1
  obtain ⟨E0, E1⟩ := set2_cells Rz_1 (.int .u64 0) (.int .u64 0)
  go_wp2
  exact bodyPost_ret (v := .tuple #[.agg #[.int .u64 0, .int .u64 0], .int .u8 0, .int .i64 0]) (by simp [results, Tryz.results15, go_sem, E0, E1]) rfl ⟨rfl, set2_below B1 (by first | exact Nat.le_refl _ | omega | (skip; omega)) _ _⟩
set_option maxRecDepth 100000 in
set_option maxHeartbeats 4000000 in
theorem rf_Round_ok (f m : Int) (b : Bool) (s t : ByteArray) (e : Int) (u v : Nat) (fl : Int) (w : World)
    (KF : Box (∀ w, Calls Tryz.prog 39 #[.int .u8 f, .int .u8 m, .agg #[.bool b, .string s, .string t, .int .i64 e]] w fun r w' => r = .returned (.int .i64 0) ∧ Below w.heap.size w w'))
    (KD : Box (∀ w, Calls Tryz.prog 40 #[.int .u8 f, .int .u8 m, .agg #[.bool b, .string s, .string t, .int .i64 e], .bool false] w fun r w' => r = .returned (.tuple #[.agg #[.int .u64 (u : Nat), .int .u64 (v : Nat)], .int .u8 fl]) ∧ Below w.heap.size w w'))
    (hs : (s.toList == []) = false) : Calls Tryz.prog 15 #[.int .u8 f, .int .u8 m, .agg #[.bool b, .string s, .string t, .int .i64 e]] w fun r w' => r = .returned (.tuple #[.agg #[.int .u64 (u : Nat), .int .u64 (v : Nat)], .int .u8 fl, .int .i64 0]) ∧ Below w.heap.size w w' := by
  obtain ⟨Rx_0, Rz_0, B0⟩ := opn2 w (Obj.cells #[.bool b, .string s, .string t, .int .i64 e] 50) (Obj.cells #[.int .u64 0, .int .u64 0] 27)
  go_enter Tryz.func15, Tryz.ntmps15
  go_wp2_with fail
  refine (KF.out _).mono ?_
  rintro r w1 ⟨rfl, b1⟩
  have B1 : Below w.heap.size w w1 := btr B0 b1
  have Rx_1 := heap_of b1 _ _ _ Rx_0
  have Rz_1 := heap_of b1 _ _ _ Rz_0
  clear b1 B0 Rx_0 Rz_0
  obtain ⟨cx_1_0, cx_1_1, cx_1_2, cx_1_3⟩ := cells4s Rx_1
  obtain ⟨cz_1_0, cz_1_1⟩ := cells2s Rz_1
  go_wp2_with fail
  refine (KD.out _).mono ?_
  rintro r w2 ⟨rfl, b2⟩
  have B2 : Below w.heap.size w w2 := btr B1 b2
  have Rx_2 := heap_of b2 _ _ _ Rx_1
  have Rz_2 := heap_of b2 _ _ _ Rz_1
  clear b2 B1 Rx_1 cx_1_0 cx_1_1 cx_1_2 cx_1_3 Rz_1 cz_1_0 cz_1_1
  obtain ⟨cx_2_0, cx_2_1, cx_2_2, cx_2_3⟩ := cells4s Rx_2
  obtain ⟨cz_2_0, cz_2_1⟩ := cells2s Rz_2
  have S3 := box B2.size
  have Lx_3 : Box (w.heap.size < w2.heap.size) := box (Array.getElem?_eq_some_iff.1 Rx_2).1
  have Lz_3 : Box (w.heap.size + 1 < w2.heap.size) := box (Array.getElem?_eq_some_iff.1 Rz_2).1
  have Rb_3 := heap_alloc_last w2 (Obj.cells #[.int .u64 (u : Nat), .int .u64 (v : Nat)] 27)
  have B3 := btr B2 (bal w2 (Obj.cells #[.int .u64 (u : Nat), .int .u64 (v : Nat)] 27))
  have Rx_3 := heap_of (bal w2 (Obj.cells #[.int .u64 (u : Nat), .int .u64 (v : Nat)] 27)) _ _ _ Rx_2
  have Rz_3 := heap_of (bal w2 (Obj.cells #[.int .u64 (u : Nat), .int .u64 (v : Nat)] 27)) _ _ _ Rz_2
  clear B2 Rx_2 cx_2_0 cx_2_1 cx_2_2 cx_2_3 Rz_2 cz_2_0 cz_2_1
  obtain ⟨cx_3_0, cx_3_1, cx_3_2, cx_3_3⟩ := cells4s Rx_3
  obtain ⟨cz_3_0, cz_3_1⟩ := cells2s Rz_3
  obtain ⟨cb_3_0, cb_3_1⟩ := cells2s Rb_3
  have q0 := fz (k := 0) Rz_3
  have q1 := fz (k := 1) Rz_3
  obtain ⟨E0, E1⟩ := set2_cells Rz_3 (.int .u64 (u : Nat)) (.int .u64 (v : Nat))
  go_wp2
  exact bodyPost_ret (v := .tuple #[.agg #[.int .u64 (u : Nat), .int .u64 (v : Nat)], .int .u8 fl, .int .i64 0]) (by simp [results, Tryz.results15, go_sem, E0, E1]) rfl ⟨rfl, set2_below B3 (by first | exact Nat.le_refl _ | omega | (have := S3.out; have := Lx_3.out; have := Lz_3.out; omega)) _ _⟩
end Go.Proofs.YtpdehipeakcaiaaGreatDoor
namespace Go.Proofs.YtpdehipeakcaiaaGreatDoor
set_option maxRecDepth 100000
set_option maxHeartbeats 40000000
set_option maxRecDepth 100000
open Go.RowKit WMath XMath
set_option linter.unusedSimpArgs false
set_option linter.unusedVariables false
def flt (f m : Int) (may : Bool) (s t : ByteArray) : Int := if f ≤ 3 ∧ m ≤ 4 ∧ may = true then (if 8192 < s.size ∨ 8192 < t.size then 4 else 0) else 2
theorem rfault (f m : Int) (b : Bool) (s t : ByteArray) (e : Int) (may : Bool) (hm : IsM may b s t e) (c : Int) (hc : flt f m may s t = c) (w : World) : Calls Tryz.prog 39 #[.int .u8 f, .int .u8 m, .agg #[.bool b, .string s, .string t, .int .i64 e]] w fun r w' => r = .returned (.int .i64 c) ∧ Below w.heap.size w w' := by
  have K1 : Box (∀ w, Calls Tryz.prog 11 #[.int .u8 f] w fun r w' => r = .returned (.bool (decide (f ≤ 3))) ∧ Below w.heap.size w w') := box (fun w => bel_same (r_right f _ rfl w))
  have K2 : Box (∀ w, Calls Tryz.prog 12 #[.int .u8 m] w fun r w' => r = .returned (.bool (decide (m ≤ 4))) ∧ Below w.heap.size w w') := box (fun w => bel_same (r_mode m _ rfl w))
  have K3 : Box (∀ w, Calls Tryz.prog 73 #[.agg #[.bool b, .string s, .string t, .int .i64 e]] w fun r w' => r = .returned (.bool may) ∧ Below w.heap.size w w') := box (fun w => xmayM b s t e may hm w)
  unfold flt at hc
  by_cases c1 : f ≤ 3
  · by_cases c2 : m ≤ 4
    · cases may
      · rw [if_neg (by simp)] at hc
        subst hc
        exact rf_fault_c f m b s t e _ _ false w K1 K2 K3 (decide_eq_true c1) (decide_eq_true c2) rfl
      · rw [if_pos ⟨c1, c2, rfl⟩] at hc
        by_cases c4 : 8192 < s.size
        · rw [if_pos (Or.inl c4)] at hc
          subst hc
          exact rf_fault_d f m b s t e _ _ _ w K1 K2 K3 (decide_eq_true c1) (decide_eq_true c2) rfl (decide_eq_true (by omega))
        · by_cases c5 : 8192 < t.size
          · rw [if_pos (Or.inr c5)] at hc
            subst hc
            exact rf_fault_e f m b s t e _ _ _ w K1 K2 K3 (decide_eq_true c1) (decide_eq_true c2) rfl (decide_eq_false (by omega)) (decide_eq_true (by omega))
          · rw [if_neg (by omega)] at hc
            subst hc
            exact rf_fault_f f m b s t e _ _ _ w K1 K2 K3 (decide_eq_true c1) (decide_eq_true c2) rfl (decide_eq_false (by omega)) (decide_eq_false (by omega))
    · rw [if_neg (by omega)] at hc
      subst hc
      exact rf_fault_b f m b s t e _ _ _ w K1 K2 K3 (decide_eq_true c1) (decide_eq_false c2)
  · rw [if_neg (by omega)] at hc
    subst hc
    exact rf_fault_a f m b s t e _ _ _ w K1 K2 K3 (decide_eq_false c1)
theorem flt_ok {f m : Int} (hf : Is4 f) (hm : 0 ≤ m ∧ m ≤ 4) {n d : Nat} {s t : ByteArray} (hs : nbA n = s) (ht : nbA d = t) (ln : nl n ≤ 8192) (ld : nl d ≤ 8192) : flt f m true s t = 0 := by
  have a : s.size = nl n := by rw [← hs, nbA_size]
  have c : t.size = nl d := by rw [← ht, nbA_size]
  have f3 : f ≤ 3 := by rcases hf with rfl | rfl | rfl | rfl <;> decide
  unfold flt
  rw [if_pos ⟨f3, hm.2, rfl⟩, if_neg (by omega)]
def rnd (f m : Int) (x : XN) : Nat × Int := if x.n = 0 then (0, 0) else dlv f m x.b (topX x) (xW f x) (xM f x)
theorem fnd_x {f : Int} (hf : Is4 f) {x : XN} (hx : x.can) (n0 : x.n ≠ 0) (hd : nl x.d ≤ 8192) : Wok f (xW f x) ∧ Fnd f x false (topX x) (xW f x) (xM f x) := by
  obtain ⟨t1, t2⟩ := top_lim hx
  obtain ⟨a, b⟩ := x_num hf x hx n0 hd t1 t2
  refine ⟨a, ?_⟩
  unfold Fnd
  rw [if_neg (by decide)]
  exact ⟨rfl, b⟩
end Go.Proofs.YtpdehipeakcaiaaGreatDoor
namespace Go.Proofs.YtpdehipeakcaiaaGreatDoor
set_option maxRecDepth 100000
set_option maxHeartbeats 40000000
set_option maxRecDepth 100000
open Go.RowKit WMath
set_option linter.unusedSimpArgs false
set_option linter.unusedVariables false
def rg (neg : Bool) (s : Nat) (x : Int) (more : Bool) : Array Value := #[.bool neg, .int .u64 (wd s 0 : Nat), .int .u64 (wd s 1 : Nat), .int .u64 (wd s 2 : Nat), .int .u64 (wd s 3 : Nat), .int .u64 (wd s 4 : Nat), .int .u64 (wd s 5 : Nat), .int .i64 x, .bool more]
theorem rgf (neg : Bool) (s : Nat) (x : Int) (more : Bool) : #[Value.bool neg, .int .u64 (wd s 0 : Nat), .int .u64 (wd s 1 : Nat), .int .u64 (wd s 2 : Nat), .int .u64 (wd s 3 : Nat), .int .u64 (wd s 4 : Nat), .int .u64 (wd s 5 : Nat), .int .i64 x, .bool more] = rg neg s x more := rfl
theorem rgz : #[Value.bool false, .int .u64 0, .int .u64 0, .int .u64 0, .int .u64 0, .int .u64 0, .int .u64 0, .int .i64 0, .bool false] = rg false 0 0 false := by unfold rg; simp [wd_zero]
theorem rg_size (neg : Bool) (s : Nat) (x : Int) (more : Bool) : (rg neg s x more).size = 9 := rfl
theorem rg_one (neg : Bool) (s : Nat) (x : Int) (more : Bool) : ∀ v ∈ (rg neg s x more).toList, v.oneCell' = true := by
  intro v hv
  simp only [rg, List.mem_cons, List.not_mem_nil, or_false] at hv
  rcases hv with rfl | rfl | rfl | rfl | rfl | rfl | rfl | rfl | rfl <;> rfl
theorem st_r (w : World) (b : Nat) (neg : Bool) (s : Nat) (x : Int) (more neg0 : Bool) (s0 : Nat) (x0 : Int) (more0 : Bool) (h : w.heap[b]? = some (.cells (rg neg0 s0 x0 more0) 45)) :
    (storeCells ⟨b, 0, none⟩ (rg neg s x more).toList 0).run Tryz.prog w = .ok () (w.setRow b (rg neg s x more)) :=
  run_storeCells_at (P := Tryz.prog) b 0 45 (rg neg s x more).toList 0 (rg neg0 s0 x0 more0) w h (by simp only [Array.length_toList, rg_size]; omega) (rg_one neg s x more)
theorem st_r0 (w : World) (b : Nat) (neg : Bool) (s : Nat) (x : Int) (more neg0 : Bool) (s0 : Nat) (x0 : Int) (more0 : Bool) (hb : b = w.heap.size) :
    (storeCells ⟨b, 0, none⟩ (rg neg s x more).toList 0).run Tryz.prog (w.alloc (.cells (rg neg0 s0 x0 more0) 45)) = .ok () (w.alloc (.cells (rg neg s x more) 45)) := by
  subst hb
  rw [st_r _ _ neg s x more neg0 s0 x0 more0 (heap_alloc_last w _), World.setRow_alloc_new]
theorem rg_cells {w : World} {g : Nat} {T : TypeId} {neg : Bool} {s : Nat} {x : Int} {more : Bool} (R : w.heap[g]? = some (.cells (rg neg s x more) T)) : w.cell? ⟨g, 0, none⟩ = some (.bool neg) ∧ w.cell? ⟨g, 1, none⟩ = some (.int .u64 (wd s 0 : Nat)) ∧ w.cell? ⟨g, 2, none⟩ = some (.int .u64 (wd s 1 : Nat)) ∧ w.cell? ⟨g, 3, none⟩ = some (.int .u64 (wd s 2 : Nat)) ∧ w.cell? ⟨g, 4, none⟩ = some (.int .u64 (wd s 3 : Nat)) ∧ w.cell? ⟨g, 5, none⟩ = some (.int .u64 (wd s 4 : Nat)) ∧ w.cell? ⟨g, 6, none⟩ = some (.int .u64 (wd s 5 : Nat)) ∧ w.cell? ⟨g, 7, none⟩ = some (.int .i64 x) ∧ w.cell? ⟨g, 8, none⟩ = some (.bool more) :=
  ⟨cells4 R 0 _ rfl, cells4 R 1 _ rfl, cells4 R 2 _ rfl, cells4 R 3 _ rfl, cells4 R 4 _ rfl, cells4 R 5 _ rfl, cells4 R 6 _ rfl, cells4 R 7 _ rfl, cells4 R 8 _ rfl⟩
theorem rg_set1 (neg : Bool) (s t : Nat) (x : Int) (more : Bool) (h : ∀ k, 0 < k → k < 6 → wd t k = wd s k) : (rg neg s x more).setIfInBounds 1 (.int .u64 (wd t 0 : Nat)) = rg neg t x more := by
  have h1 := h 1 (by decide) (by decide)
  have h2 := h 2 (by decide) (by decide)
  have h3 := h 3 (by decide) (by decide)
  have h4 := h 4 (by decide) (by decide)
  have h5 := h 5 (by decide) (by decide)
  unfold rg
  rw [h1, h2, h3, h4, h5]
  rfl
theorem rg_set8 (neg : Bool) (s : Nat) (x : Int) (more m2 : Bool) : (rg neg s x more).setIfInBounds 8 (.bool m2) = rg neg s x m2 := rfl
set_option maxRecDepth 100000 in
theorem ro_stepAt (f T P A1 v : Int) (w : World)
    (KP : Box (∀ w, FAt w → Calls Tryz.prog 53 #[.int .u8 f] w fun r w' => r = .returned (.int .i64 P) ∧ Below w.heap.size w w'))
    (h1 : IntKind.i64.wrap (T - P) = A1) (h2 : IntKind.i64.wrap (A1 + 1) = v) (hT : FAt w) : Calls Tryz.prog 25 #[.int .u8 f, .int .i64 T] w fun r w' => r = .returned (.int .i64 v) ∧ Below w.heap.size w w' := by
  have FF := box hT
  clear hT
  have B0 : Below w.heap.size w w := (Below.refl _ _)
  go_enter Tryz.func25, Tryz.ntmps25
  go_wp2_with fail
  refine (KP.out _ (fatB FF.out B0)).mono ?_
  rintro r w1 ⟨rfl, b1⟩
  have B1 : Below w.heap.size w w1 := btr B0 b1
  clear b1 B0 
  go_wp2
  go_ret
  exact ⟨rfl, B1⟩
set_option maxRecDepth 100000 in
set_option maxHeartbeats 2000000 in
theorem ro_top (neg : Bool) (s : Nat) (x : Int) (more : Bool) (l A1 v : Int) (w : World)
    (KL : Box (∀ w, Calls Tryz.prog 52 #[.agg (cw 6 s)] w fun r w' => r = .returned (.int .i64 l) ∧ Below w.heap.size w w'))
    (h1 : IntKind.i64.wrap (x + l) = A1) (h2 : IntKind.i64.wrap (A1 - 1) = v) : Calls Tryz.prog 26 #[.agg (rg neg s x more)] w fun r w' => r = .returned (.int .i64 v) ∧ Below w.heap.size w w' := by
  have hat := cw_at 6
  have hz := cw6z
  have hff := cw6f
  have hs0 := st0
  have hcs : ∀ x, ((cw 6 x).size = 6) = True := fun x => eq_true (cw_size 6 x)
  obtain ⟨Rx_0, B0⟩ := opn1 w (Obj.cells (rg neg s x more) 45)
  go_enter Tryz.func26, Tryz.ntmps26
  have sS : Box (∀ W W1 : World, (Below w.heap.size w W ∧ W.heap[w.heap.size]? = some (Obj.cells (rg neg s x more) 45) ∧ W.cell? ⟨w.heap.size, 0, none⟩ = some (.bool neg) ∧ W.cell? ⟨w.heap.size, 1, none⟩ = some (.int .u64 ((wd s 0 : Nat) : Int)) ∧ W.cell? ⟨w.heap.size, 2, none⟩ = some (.int .u64 ((wd s 1 : Nat) : Int)) ∧ W.cell? ⟨w.heap.size, 3, none⟩ = some (.int .u64 ((wd s 2 : Nat) : Int)) ∧ W.cell? ⟨w.heap.size, 4, none⟩ = some (.int .u64 ((wd s 3 : Nat) : Int)) ∧ W.cell? ⟨w.heap.size, 5, none⟩ = some (.int .u64 ((wd s 4 : Nat) : Int)) ∧ W.cell? ⟨w.heap.size, 6, none⟩ = some (.int .u64 ((wd s 5 : Nat) : Int)) ∧ W.cell? ⟨w.heap.size, 7, none⟩ = some (.int .i64 x) ∧ W.cell? ⟨w.heap.size, 8, none⟩ = some (.bool more)) → Below W.heap.size W W1 → (Below w.heap.size w W1 ∧ W1.heap[w.heap.size]? = some (Obj.cells (rg neg s x more) 45) ∧ W1.cell? ⟨w.heap.size, 0, none⟩ = some (.bool neg) ∧ W1.cell? ⟨w.heap.size, 1, none⟩ = some (.int .u64 ((wd s 0 : Nat) : Int)) ∧ W1.cell? ⟨w.heap.size, 2, none⟩ = some (.int .u64 ((wd s 1 : Nat) : Int)) ∧ W1.cell? ⟨w.heap.size, 3, none⟩ = some (.int .u64 ((wd s 2 : Nat) : Int)) ∧ W1.cell? ⟨w.heap.size, 4, none⟩ = some (.int .u64 ((wd s 3 : Nat) : Int)) ∧ W1.cell? ⟨w.heap.size, 5, none⟩ = some (.int .u64 ((wd s 4 : Nat) : Int)) ∧ W1.cell? ⟨w.heap.size, 6, none⟩ = some (.int .u64 ((wd s 5 : Nat) : Int)) ∧ W1.cell? ⟨w.heap.size, 7, none⟩ = some (.int .i64 x) ∧ W1.cell? ⟨w.heap.size, 8, none⟩ = some (.bool more))) := box (fun W W1 h b => ⟨btr h.1 b, heap_of b _ _ _ h.2.1, cell7 (heap_of b _ _ _ h.2.1) 0 _ rfl, cell7 (heap_of b _ _ _ h.2.1) 1 _ rfl, cell7 (heap_of b _ _ _ h.2.1) 2 _ rfl, cell7 (heap_of b _ _ _ h.2.1) 3 _ rfl, cell7 (heap_of b _ _ _ h.2.1) 4 _ rfl, cell7 (heap_of b _ _ _ h.2.1) 5 _ rfl, cell7 (heap_of b _ _ _ h.2.1) 6 _ rfl, cell7 (heap_of b _ _ _ h.2.1) 7 _ rfl, cell7 (heap_of b _ _ _ h.2.1) 8 _ rfl⟩)
  have s0 : Below w.heap.size w ((w.alloc (Obj.cells (rg neg s x more) 45))).drew ∧ ((w.alloc (Obj.cells (rg neg s x more) 45))).drew.heap[w.heap.size]? = some (Obj.cells (rg neg s x more) 45) ∧ ((w.alloc (Obj.cells (rg neg s x more) 45))).drew.cell? ⟨w.heap.size, 0, none⟩ = some (.bool neg) ∧ ((w.alloc (Obj.cells (rg neg s x more) 45))).drew.cell? ⟨w.heap.size, 1, none⟩ = some (.int .u64 ((wd s 0 : Nat) : Int)) ∧ ((w.alloc (Obj.cells (rg neg s x more) 45))).drew.cell? ⟨w.heap.size, 2, none⟩ = some (.int .u64 ((wd s 1 : Nat) : Int)) ∧ ((w.alloc (Obj.cells (rg neg s x more) 45))).drew.cell? ⟨w.heap.size, 3, none⟩ = some (.int .u64 ((wd s 2 : Nat) : Int)) ∧ ((w.alloc (Obj.cells (rg neg s x more) 45))).drew.cell? ⟨w.heap.size, 4, none⟩ = some (.int .u64 ((wd s 3 : Nat) : Int)) ∧ ((w.alloc (Obj.cells (rg neg s x more) 45))).drew.cell? ⟨w.heap.size, 5, none⟩ = some (.int .u64 ((wd s 4 : Nat) : Int)) ∧ ((w.alloc (Obj.cells (rg neg s x more) 45))).drew.cell? ⟨w.heap.size, 6, none⟩ = some (.int .u64 ((wd s 5 : Nat) : Int)) ∧ ((w.alloc (Obj.cells (rg neg s x more) 45))).drew.cell? ⟨w.heap.size, 7, none⟩ = some (.int .i64 x) ∧ ((w.alloc (Obj.cells (rg neg s x more) 45))).drew.cell? ⟨w.heap.size, 8, none⟩ = some (.bool more) := ⟨B0.drew, Rx_0, cell7 (Rx_0) 0 _ rfl, cell7 (Rx_0) 1 _ rfl, cell7 (Rx_0) 2 _ rfl, cell7 (Rx_0) 3 _ rfl, cell7 (Rx_0) 4 _ rfl, cell7 (Rx_0) 5 _ rfl, cell7 (Rx_0) 6 _ rfl, cell7 (Rx_0) 7 _ rfl, cell7 (Rx_0) 8 _ rfl⟩
  go_wp2_with fail
  go_region_held3 (fun W => Below w.heap.size w W ∧ W.heap[w.heap.size]? = some (Obj.cells (rg neg s x more) 45) ∧ W.cell? ⟨w.heap.size, 0, none⟩ = some (.bool neg) ∧ W.cell? ⟨w.heap.size, 1, none⟩ = some (.int .u64 ((wd s 0 : Nat) : Int)) ∧ W.cell? ⟨w.heap.size, 2, none⟩ = some (.int .u64 ((wd s 1 : Nat) : Int)) ∧ W.cell? ⟨w.heap.size, 3, none⟩ = some (.int .u64 ((wd s 2 : Nat) : Int)) ∧ W.cell? ⟨w.heap.size, 4, none⟩ = some (.int .u64 ((wd s 3 : Nat) : Int)) ∧ W.cell? ⟨w.heap.size, 5, none⟩ = some (.int .u64 ((wd s 4 : Nat) : Int)) ∧ W.cell? ⟨w.heap.size, 6, none⟩ = some (.int .u64 ((wd s 5 : Nat) : Int)) ∧ W.cell? ⟨w.heap.size, 7, none⟩ = some (.int .i64 x) ∧ W.cell? ⟨w.heap.size, 8, none⟩ = some (.bool more)) (first | exact s1 | exact s0)
    (first | (go_at_call 52; (first | refine (KL.out _).mono ?_ | refine (KL.out _).mono ?_); rintro r wq ⟨rfl, bq⟩; have s1 := (by first | exact sS.out _ _ s1 bq | exact sS.out _ _ s0 bq); clear bq) | fail)
  have B1 := (And.left s1)
  have Rx_1 := s1.2.1
  clear s0 s1 sS B0 Rx_0
  obtain ⟨cx_1_0, cx_1_1, cx_1_2, cx_1_3, cx_1_4, cx_1_5, cx_1_6, cx_1_7, cx_1_8⟩ := rg_cells Rx_1
  go_wp2
  go_ret
  exact ⟨rfl, B1⟩
set_option maxRecDepth 100000 in
theorem ro_check_a (f m c1 : Int) (w : World) (K1 : Box (∀ w, Calls Tryz.prog 50 #[.int .u8 f] w fun r w' => r = .returned (.int .i64 c1) ∧ Below w.heap.size w w')) (h1 : (c1 != 0) = true) : Calls Tryz.prog 20 #[.int .u8 f, .int .u8 m] w fun r w' => r = .returned (.int .i64 2) ∧ Below w.heap.size w w' := by
  have B0 : Below w.heap.size w w := (Below.refl _ _)
  go_enter Tryz.func20, Tryz.ntmps20
  go_wp2_with fail
  refine (K1.out _).mono ?_
  rintro r w1 ⟨rfl, b1⟩
  have B1 : Below w.heap.size w w1 := btr B0 b1
  clear b1 B0 
  go_wp2
  go_ret
  exact ⟨rfl, B1⟩
set_option maxRecDepth 100000 in
theorem ro_check_b (f m c1 c2 : Int) (w : World) (K1 : Box (∀ w, Calls Tryz.prog 50 #[.int .u8 f] w fun r w' => r = .returned (.int .i64 c1) ∧ Below w.heap.size w w')) (K2 : Box (∀ w, Calls Tryz.prog 51 #[.int .u8 m] w fun r w' => r = .returned (.int .i64 c2) ∧ Below w.heap.size w w')) (h1 : (c1 != 0) = false) (h2 : (c2 != 0) = true) : Calls Tryz.prog 20 #[.int .u8 f, .int .u8 m] w fun r w' => r = .returned (.int .i64 2) ∧ Below w.heap.size w w' := by
  have B0 : Below w.heap.size w w := (Below.refl _ _)
  go_enter Tryz.func20, Tryz.ntmps20
  go_wp2_with fail
  refine (K1.out _).mono ?_
  rintro r w1 ⟨rfl, b1⟩
  have B1 : Below w.heap.size w w1 := btr B0 b1
  clear b1 B0 
  go_wp2_with fail
  refine (K2.out _).mono ?_
  rintro r w2 ⟨rfl, b2⟩
  have B2 : Below w.heap.size w w2 := btr B1 b2
  clear b2 B1 
  go_wp2
  go_ret
  exact ⟨rfl, B2⟩
set_option maxRecDepth 100000 in
theorem ro_check_c (f m c1 c2 : Int) (w : World) (K1 : Box (∀ w, Calls Tryz.prog 50 #[.int .u8 f] w fun r w' => r = .returned (.int .i64 c1) ∧ Below w.heap.size w w')) (K2 : Box (∀ w, Calls Tryz.prog 51 #[.int .u8 m] w fun r w' => r = .returned (.int .i64 c2) ∧ Below w.heap.size w w')) (h1 : (c1 != 0) = false) (h2 : (c2 != 0) = false) : Calls Tryz.prog 20 #[.int .u8 f, .int .u8 m] w fun r w' => r = .returned (.int .i64 0) ∧ Below w.heap.size w w' := by
  have B0 : Below w.heap.size w w := (Below.refl _ _)
  go_enter Tryz.func20, Tryz.ntmps20
  go_wp2_with fail
  refine (K1.out _).mono ?_
  rintro r w1 ⟨rfl, b1⟩
  have B1 : Below w.heap.size w w1 := btr B0 b1
  clear b1 B0 
  go_wp2_with fail
  refine (K2.out _).mono ?_
  rintro r w2 ⟨rfl, b2⟩
  have B2 : Below w.heap.size w w2 := btr B1 b2
  clear b2 B1 
  go_wp2
  go_ret
  exact ⟨rfl, B2⟩
set_option maxRecDepth 100000 in
set_option maxHeartbeats 2000000 in
theorem ro_may_lo (f : Int) (neg : Bool) (s : Nat) (x : Int) (more : Bool) (w : World) (h : decide (x < -1048576) = true) : Calls Tryz.prog 21 #[.int .u8 f, .agg (rg neg s x more)] w fun r w' => r = .returned (.bool false) ∧ Below w.heap.size w w' := by
  have hat := cw_at 6
  have hz := cw6z
  have hff := cw6f
  have hs0 := st0
  have hcs : ∀ x, ((cw 6 x).size = 6) = True := fun x => eq_true (cw_size 6 x)
  obtain ⟨Rx_0, B0⟩ := opn1 w (Obj.cells (rg neg s x more) 45)
  go_enter Tryz.func21, Tryz.ntmps21
  obtain ⟨cx_0_0, cx_0_1, cx_0_2, cx_0_3, cx_0_4, cx_0_5, cx_0_6, cx_0_7, cx_0_8⟩ := rg_cells Rx_0
  go_wp2
  go_ret
  exact ⟨rfl, B0⟩
set_option maxRecDepth 100000 in
set_option maxHeartbeats 2000000 in
theorem ro_may_hi (f : Int) (neg : Bool) (s : Nat) (x : Int) (more : Bool) (w : World) (h : decide (x < -1048576) = false) (h2 : decide (1048576 < x) = true) : Calls Tryz.prog 21 #[.int .u8 f, .agg (rg neg s x more)] w fun r w' => r = .returned (.bool false) ∧ Below w.heap.size w w' := by
  have hat := cw_at 6
  have hz := cw6z
  have hff := cw6f
  have hs0 := st0
  have hcs : ∀ x, ((cw 6 x).size = 6) = True := fun x => eq_true (cw_size 6 x)
  obtain ⟨Rx_0, B0⟩ := opn1 w (Obj.cells (rg neg s x more) 45)
  go_enter Tryz.func21, Tryz.ntmps21
  obtain ⟨cx_0_0, cx_0_1, cx_0_2, cx_0_3, cx_0_4, cx_0_5, cx_0_6, cx_0_7, cx_0_8⟩ := rg_cells Rx_0
  go_wp2
  go_ret
  exact ⟨rfl, B0⟩
set_option maxRecDepth 100000 in
set_option maxHeartbeats 2000000 in
theorem ro_may_no (f : Int) (neg : Bool) (s : Nat) (x : Int) (w : World) (h : decide (x < -1048576) = false) (h2 : decide (1048576 < x) = false) : Calls Tryz.prog 21 #[.int .u8 f, .agg (rg neg s x false)] w fun r w' => r = .returned (.bool true) ∧ Below w.heap.size w w' := by
  have hat := cw_at 6
  have hz := cw6z
  have hff := cw6f
  have hs0 := st0
  have hcs : ∀ x, ((cw 6 x).size = 6) = True := fun x => eq_true (cw_size 6 x)
  obtain ⟨Rx_0, B0⟩ := opn1 w (Obj.cells (rg neg s x false) 45)
  go_enter Tryz.func21, Tryz.ntmps21
  obtain ⟨cx_0_0, cx_0_1, cx_0_2, cx_0_3, cx_0_4, cx_0_5, cx_0_6, cx_0_7, cx_0_8⟩ := rg_cells Rx_0
  go_wp2
  go_ret
  exact ⟨rfl, B0⟩
set_option maxRecDepth 100000 in
set_option maxHeartbeats 2000000 in
theorem ro_may_more (f : Int) (neg : Bool) (s : Nat) (x : Int) (l P A1 : Int) (o : Bool) (w : World)
    (KL : Box (∀ w, Calls Tryz.prog 52 #[.agg (cw 6 s)] w fun r w' => r = .returned (.int .i64 l) ∧ Below w.heap.size w w'))
    (KP : Box (∀ w, FAt w → Calls Tryz.prog 53 #[.int .u8 f] w fun r w' => r = .returned (.int .i64 P) ∧ Below w.heap.size w w'))
    (h : decide (x < -1048576) = false) (h2 : decide (1048576 < x) = false) (h3 : IntKind.i64.wrap (P + 2) = A1) (ho : decide (A1 ≤ l) = o) (hT : FAt w) : Calls Tryz.prog 21 #[.int .u8 f, .agg (rg neg s x true)] w fun r w' => r = .returned (.bool o) ∧ Below w.heap.size w w' := by
  have FF := box hT
  clear hT
  have hat := cw_at 6
  have hz := cw6z
  have hff := cw6f
  have hs0 := st0
  have hcs : ∀ x, ((cw 6 x).size = 6) = True := fun x => eq_true (cw_size 6 x)
  obtain ⟨Rx_0, B0⟩ := opn1 w (Obj.cells (rg neg s x true) 45)
  go_enter Tryz.func21, Tryz.ntmps21
  obtain ⟨cx_0_0, cx_0_1, cx_0_2, cx_0_3, cx_0_4, cx_0_5, cx_0_6, cx_0_7, cx_0_8⟩ := rg_cells Rx_0
  go_wp2_with fail
  refine (KL.out _).mono ?_
  rintro r w1 ⟨rfl, b1⟩
  have B1 : Below w.heap.size w w1 := btr B0 b1
  have Rx_1 := heap_of b1 _ _ _ Rx_0
  clear b1 B0 Rx_0 cx_0_0 cx_0_1 cx_0_2 cx_0_3 cx_0_4 cx_0_5 cx_0_6 cx_0_7 cx_0_8
  obtain ⟨cx_1_0, cx_1_1, cx_1_2, cx_1_3, cx_1_4, cx_1_5, cx_1_6, cx_1_7, cx_1_8⟩ := rg_cells Rx_1
  go_wp2_with fail
  refine (KP.out _ (fatB FF.out B1)).mono ?_
  rintro r w2 ⟨rfl, b2⟩
  have B2 : Below w.heap.size w w2 := btr B1 b2
  have Rx_2 := heap_of b2 _ _ _ Rx_1
  clear b2 B1 Rx_1 cx_1_0 cx_1_1 cx_1_2 cx_1_3 cx_1_4 cx_1_5 cx_1_6 cx_1_7 cx_1_8
  obtain ⟨cx_2_0, cx_2_1, cx_2_2, cx_2_3, cx_2_4, cx_2_5, cx_2_6, cx_2_7, cx_2_8⟩ := rg_cells Rx_2
  go_wp2
  go_ret
  exact ⟨rfl, B2⟩
def uP (m : Int) (neg odd : Bool) (h : Int) (ex : Bool) : Bool := if ex then false else if m = 2 then neg else if m = 3 then !neg else if m = 0 then (decide (0 < h) || (decide (h = 0) && odd)) else if m = 4 then decide (0 ≤ h) else false
theorem uP_gO (m : Int) (neg odd half more : Bool) : uP m neg odd (hfV half more) (!(half || more)) = gO m neg odd half more := by
  unfold uP gO hfV
  by_cases c0 : m = 0
  · subst c0; cases half <;> cases more <;> cases odd <;> rfl
  by_cases c2 : m = 2
  · subst c2; cases half <;> cases more <;> cases neg <;> rfl
  by_cases c3 : m = 3
  · subst c3; cases half <;> cases more <;> cases neg <;> rfl
  by_cases c4 : m = 4
  · subst c4; cases half <;> cases more <;> rfl
  rw [if_neg c2, if_neg c3, if_neg c0, if_neg c4, if_neg c0, if_neg c4, if_neg c2, if_neg c3]
  split <;> rfl
set_option maxRecDepth 100000 in
set_option maxHeartbeats 2000000 in
theorem ro_up (m : Int) (neg odd : Bool) (h : Int) (ex o : Bool) (ho : uP m neg odd h ex = o) (w : World) : Calls Tryz.prog 57 #[.int .u8 m, .bool neg, .bool odd, .int .i64 h, .bool ex] w fun r w' => r = .returned (.bool o) ∧ Below w.heap.size w w' := by
  subst ho
  cases ex
  case true =>
    have B0 : Below w.heap.size w w := (Below.refl _ _)
    go_enter Tryz.func57, Tryz.ntmps57
    go_wp2
    go_ret
    exact ⟨rfl, B0⟩
  unfold uP
  rw [if_neg (by decide)]
  by_cases c2 : m = 2
  · subst c2
    rw [if_pos rfl]
    cases neg
    all_goals
      go_enter Tryz.func57, Tryz.ntmps57
      go_wp2
      go_ret
      exact ⟨rfl, Below.refl _ _⟩
  rw [if_neg c2]
  by_cases c3 : m = 3
  · subst c3
    rw [if_pos rfl]
    cases neg
    all_goals
      go_enter Tryz.func57, Tryz.ntmps57
      go_wp2
      go_ret
      exact ⟨rfl, Below.refl _ _⟩
  rw [if_neg c3]
  have e2 : (m == 2) = false := by simpa using c2
  have e3 : (m == 3) = false := by simpa using c3
  by_cases c0 : m = 0
  · subst c0
    rw [if_pos rfl]
    by_cases p : 0 < h
    · rw [decide_eq_true p, Bool.true_or]
      have d1 : decide (0 < h) = true := decide_eq_true p
      go_enter Tryz.func57, Tryz.ntmps57
      go_wp2
      go_ret
      exact ⟨rfl, Below.refl _ _⟩
    · rw [decide_eq_false p, Bool.false_or]
      have d1 : decide (0 < h) = false := decide_eq_false p
      by_cases z : h = 0
      · subst z
        rw [decide_eq_true rfl, Bool.true_and]
        cases odd
        all_goals
          go_enter Tryz.func57, Tryz.ntmps57
          go_wp2
          go_ret
          exact ⟨rfl, Below.refl _ _⟩
      · rw [decide_eq_false z, Bool.false_and]
        have d2 : (h == 0) = false := by simpa using z
        go_enter Tryz.func57, Tryz.ntmps57
        go_wp2
        go_ret
        exact ⟨rfl, Below.refl _ _⟩
  rw [if_neg c0]
  have e0 : (m == 0) = false := by simpa using c0
  by_cases c4 : m = 4
  · subst c4
    rw [if_pos rfl]
    by_cases p : 0 < h
    · rw [decide_eq_true (show 0 ≤ h by omega)]
      have d1 : decide (0 < h) = true := decide_eq_true p
      go_enter Tryz.func57, Tryz.ntmps57
      go_wp2
      go_ret
      exact ⟨rfl, Below.refl _ _⟩
    · have d1 : decide (0 < h) = false := decide_eq_false p
      by_cases z : h = 0
      · subst z
        rw [decide_eq_true (by decide)]
        cases odd
        all_goals
          go_enter Tryz.func57, Tryz.ntmps57
          go_wp2
          go_ret
          exact ⟨rfl, Below.refl _ _⟩
      · rw [decide_eq_false (show ¬ 0 ≤ h by omega)]
        have d2 : (h == 0) = false := by simpa using z
        go_enter Tryz.func57, Tryz.ntmps57
        go_wp2
        go_ret
        exact ⟨rfl, Below.refl _ _⟩
  rw [if_neg c4]
  have e4 : (m == 4) = false := by simpa using c4
  go_enter Tryz.func57, Tryz.ntmps57
  go_wp2
  go_ret
  exact ⟨rfl, Below.refl _ _⟩
end Go.Proofs.YtpdehipeakcaiaaGreatDoor
