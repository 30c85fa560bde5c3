/-
  What the functions that the statement reaches return: part 9 (KD, KF, KU, V1, V2, V9, R1, R30, RA, RE, R12).
-/
import Derived.Deep.RegionHeld3
import Derived.Lib.MinMax
import Derived.Test.YtapikkbifdldfaaGreatDoorFi08
namespace Go.Proofs.YtapikkbifdldfaaGreatDoor
set_option maxRecDepth 100000
set_option maxHeartbeats 40000000
set_option maxRecDepth 100000
open Go.RowKit WMath
set_option linter.unusedSimpArgs false
set_option linter.unusedVariables false
theorem or_bit_lo (t k : Nat) (h : t < 2 ^ k) : 2 ^ k ||| t = 2 ^ k + t := by
  have e := Nat.two_pow_add_eq_or_of_lt h 1
  rw [Nat.mul_one] at e
  exact e.symm
theorem cnt_k8 {i : Nat} (h : i < 384) : cnt6 (i : Int) = i := by unfold cnt6; omega
theorem kparts_is (f : Int) (hf : Is4 f) (x y n : Nat) (hx : x < 18446744073709551616) (hy : y < 18446744073709551616) (hn : y + 18446744073709551616 * x = n) (w : World) (hT : FAt w) :
    Calls Tryz.prog 69 #[.int .u8 f, .agg #[.int .u64 (x : Nat), .int .u64 (y : Nat)]] w fun r w' => r = .returned (.agg (pt (kC f n) (kS f n) (kX f n) (kF f n))) ∧ Below w.heap.size w w' := by
  have f4 := is4_ok hf
  obtain ⟨u, v, huv⟩ : ∃ u v, bv7 (kT f n) = (u, v) := ⟨_, _, rfl⟩
  obtain ⟨g1, g2, g3, g4, g5, g6, g7⟩ := fm hf
  have tl := kT_lt (f := f) n
  have el := kE_le (f := f) n
  have tn : kT f n < 340282366920938463463374607431768211456 := by rw [g1, Nat.add_mul] at g7; omega
  have pn : 2 ^ pV f + kT f n < 340282366920938463463374607431768211456 := by rw [g1, Nat.add_mul] at g7; have := Nat.mul_le_mul_right (2 ^ pV f) g5; omega
  obtain ⟨u1, v1, t1⟩ := bv_lt tn huv
  obtain ⟨p1, p2, p3, p4, _⟩ := pV_lim hf
  obtain ⟨l1, l2, l3, l4, l5⟩ := lx_lim hf
  have KC : Box (∀ w, FAt w → Calls Tryz.prog 123 #[.int .u8 f, .agg #[.int .u64 (x : Nat), .int .u64 (y : Nat)]] w fun r w' => r = .returned (.int .u8 ((kC f n : Nat) : Int)) ∧ Below w.heap.size w w') := box (fun w hT => kclass_is f hf x y n _ hx hy hn rfl w hT)
  have KF : Box (∀ w, FAt w → Calls Tryz.prog 124 #[.int .u8 f, .agg #[.int .u64 (x : Nat), .int .u64 (y : Nat)]] w fun r w' => r = .returned (.agg #[.int .u64 (u : Nat), .int .u64 (v : Nat)]) ∧ Below w.heap.size w w') := box (fun w hT => kfraction_is f hf x y n u v hx hy hn huv w hT)
  have KO : Box (∀ w, Calls Tryz.prog 72 #[.agg #[.int .u64 (u : Nat), .int .u64 (v : Nat)]] w fun r w' => r = .returned (.agg (cw 6 (kT f n))) ∧ Below w.heap.size w w') := box (fun w => wofbits_is u v _ u1 v1 t1 w)
  have KL : Box (∀ w, FAt w → Calls Tryz.prog 125 #[.int .u8 f] w fun r w' => r = .returned (.int .i64 (lx f)) ∧ Below w.heap.size w w') := box (fun w hT => kleast_is f hf _ rfl w hT)
  have cl := kC_lt f n
  by_cases c1 : kC f n = 8 ∨ kC f n = 9
  · have e1 : kS f n = 0 ∧ kX f n = 0 ∧ kF f n = kT f n := by
      unfold kS kX kF
      rw [if_neg (by omega), if_neg (by omega), if_neg (by omega), if_neg (by omega), if_pos c1]
      exact ⟨rfl, rfl, rfl⟩
    rw [e1.1, e1.2.1, e1.2.2]
    exact kparts_nan f x y _ u v _ w KC KF KO c1 hT
  by_cases c2 : kC f n = 2 ∨ kC f n = 5
  · have e1 : kS f n = kT f n ∧ kX f n = lx f ∧ kF f n = 0 := by
      unfold kS kX kF
      rw [if_pos c2, if_pos c2, if_neg c1]
      exact ⟨rfl, rfl, rfl⟩
    rw [e1.1, e1.2.1, e1.2.2]
    exact kparts_sub f x y _ u v _ _ w KC KF KO KL c2 hT
  by_cases c3 : kC f n = 1 ∨ kC f n = 6
  · have e1 : kS f n = 2 ^ pV f + kT f n ∧ kX f n = lx f + (kE f n : Int) - 1 ∧ kF f n = 0 := by
      unfold kS kX kF
      rw [if_neg c2, if_neg c2, if_neg c1, if_pos c3, if_pos c3]
      exact ⟨rfl, rfl, rfl⟩
    rw [e1.1, e1.2.1, e1.2.2]
    have pl : 2 ^ pV f < Q := lt_Q7 (by omega)
    exact kparts_norm f x y _ u v _ (lx f) (fP f) _ (pV f) (2 ^ pV f) _ (kE f n) w KC KF KO KL
      (box (fun w => wof_al 1 (by decide) w)) (box (fun w hT => kb_precision f _ f4.1 f4.2.1 rfl w hT))
      (box (fun w => wleft_is 1 (2 ^ pV f) _ false (lt_Q7 (by omega)) (by rw [cnt_k8 (by omega), Nat.one_mul, Nat.mod_eq_of_lt pl]) (by rw [cnt_k8 (by omega), Nat.one_mul]; simp; omega) w))
      (box (fun w => wor_is (2 ^ pV f) (kT f n) _ pl (lt_Q7 (by omega)) (or_bit_lo _ _ tl) w))
      (box (fun w hT => kfield_is f hf x y n _ hx hy hn rfl w hT)) p2 (by rw [IntKind.wrap_i64]; omega) (by rw [IntKind.wrap_i64]; omega) (by rw [IntKind.wrap_i64]; omega) c3 hT
  · have e1 : kS f n = 0 ∧ kX f n = 0 ∧ kF f n = 0 := by
      unfold kS kX kF
      rw [if_neg c2, if_neg c2, if_neg c1, if_neg c3, if_neg c3]
      exact ⟨rfl, rfl, rfl⟩
    rw [e1.1, e1.2.1, e1.2.2]
    exact kparts_none f x y _ u v _ w KC KF KO (by omega) hT
theorem kUnpack_yes (f : Int) (hf : Is4 f) (x y n c s rr : Nat) (X : Int) (hx : x < 18446744073709551616) (hy : y < 18446744073709551616) (hn : y + 18446744073709551616 * x = n) (ho : okB f n = true) (hp : kp f n = (c, s, X, rr)) (w : World) (hT : FAt w) :
    Calls Tryz.prog 33 #[.int .u8 f, .agg #[.int .u64 (x : Nat), .int .u64 (y : Nat)]] w fun r w' => r = .returned (.tuple #[.agg (pt c s X rr), .int .i64 0]) ∧ Below w.heap.size w w' := by
  have f4 := is4_ok hf
  have K1 := box (sk_fits f x y n true f4.1 f4.2.1 hx hy hn ho)
  have K2 := box (kparts_is f hf x y n hx hy hn)
  unfold kp at hp
  injection hp with h1 h2
  injection h2 with h2 h3
  injection h3 with h3 h4
  rw [h1, h2, h3, h4] at K2
  have hat := cw_at 6
  have hz := cw6z
  have hff := cw6f
  have hs0 := st0
  have hcs : ∀ x, ((cw 6 x).size = 6) = True := fun x => eq_true (cw_size 6 x)
  have hp1 := ptf
  have hp3 := ptz
  have hp5 : ∀ (c s : Nat) (x : Int) (r : Nat), ((pt c s x r).size = 14) = True := fun _ _ _ _ => eq_true rfl
  have TT := box hT
  clear hT hf hx hy hn ho h1 h2 h3 h4
  obtain ⟨Rb_0, Rz_0, B0⟩ := kopn2 w (Obj.cells #[.int .u64 (x : Nat), .int .u64 (y : Nat)] 26) (Obj.cells (pt 0 0 0 0) 54)
  go_enter Tryz.func33, Tryz.ntmps33
  go_wp2_with fail
  refine (K1.out _ (fatB TT.out B0)).mono ?_
  rintro r w1 ⟨rfl, b1⟩
  have B1 : Below w.heap.size w w1 := btr7 B0 b1
  have Rb_1 := heap_of b1 _ _ _ Rb_0
  have Rz_1 := heap_of b1 _ _ _ Rz_0
  clear b1 B0 Rb_0 Rz_0
  obtain ⟨cb_1_0, cb_1_1⟩ := cell7t Rb_1
  obtain ⟨cz_1_0, cz_1_1, cz_1_2, cz_1_3, cz_1_4, cz_1_5, cz_1_6, cz_1_7, cz_1_8, cz_1_9, cz_1_10, cz_1_11, cz_1_12, cz_1_13⟩ := pt_cells Rz_1
  go_wp2_with fail
  refine (K2.out _ (fatB TT.out B1)).mono ?_
  rintro r w2 ⟨rfl, b2⟩
  have B2 : Below w.heap.size w w2 := btr7 B1 b2
  have Rb_2 := heap_of b2 _ _ _ Rb_1
  have Rz_2 := heap_of b2 _ _ _ Rz_1
  clear b2 B1 Rb_1 cb_1_0 cb_1_1 Rz_1 cz_1_0 cz_1_1 cz_1_2 cz_1_3 cz_1_4 cz_1_5 cz_1_6 cz_1_7 cz_1_8 cz_1_9 cz_1_10 cz_1_11 cz_1_12 cz_1_13
  obtain ⟨cb_2_0, cb_2_1⟩ := cell7t Rb_2
  obtain ⟨cz_2_0, cz_2_1, cz_2_2, cz_2_3, cz_2_4, cz_2_5, cz_2_6, cz_2_7, cz_2_8, cz_2_9, cz_2_10, cz_2_11, cz_2_12, cz_2_13⟩ := pt_cells Rz_2
  have hstz := st_p w2 (w.heap.size + 1) c s X rr 0 0 0 0 Rz_2
  have RZ := setRow_row (c' := pt c s X rr) Rz_2
  obtain ⟨dz0, dz1, dz2, dz3, dz4, dz5, dz6, dz7, dz8, dz9, dz10, dz11, dz12, dz13⟩ := pt_cells RZ
  have bz := bel_set (c := pt c s X rr) B2 (show w.heap.size ≤ w.heap.size + 1 by first | exact Nat.le_refl _ | omega | (skip; omega))
  go_wp2
  exact bodyPost_ret (v := .tuple #[.agg (pt c s X rr), .int .i64 0]) (by simp [results, Tryz.results33, go_sem, dz0, dz1, dz2, dz3, dz4, dz5, dz6, dz7, dz8, dz9, dz10, dz11, dz12, dz13, ptf] <;> rfl) rfl ⟨rfl, bz⟩
theorem lt_128 {s : Nat} (hs : s < Q) : (wd s 0 + 18446744073709551616 * wd s 1 = s) ↔ s < 340282366920938463463374607431768211456 := by
  constructor
  · intro h
    have := wd_lt s 0
    have := wd_lt s 1
    omega
  · intro h
    rw [(wd01 h).1, (wd01 h).2]; omega
theorem ktobits_one (s u v : Nat) (hs : s < Q) (huv : bv7 (toB s) = (u, v)) : ∃ o, ∀ w, Calls Tryz.prog 74 #[.agg (cw 6 s)] w fun r w' => r = .returned (.tuple #[.agg #[.int .u64 (u : Nat), .int .u64 (v : Nat)], .bool o]) ∧ Below w.heap.size w w' := by
  unfold toB bv7 at huv
  by_cases h : s < 340282366920938463463374607431768211456
  · rw [if_pos h] at huv
    injection huv with h1 h2
    refine ⟨true, fun w => ?_⟩
    have k := wtobits_yes s hs ((lt_128 hs).2 h) w
    rw [(wd01 h).1, (wd01 h).2, h1, h2] at k
    exact k
  · rw [if_neg h] at huv
    injection huv with h1 h2
    refine ⟨false, fun w => ?_⟩
    have k := wtobits_no s hs (fun e => h ((lt_128 hs).1 e)) w
    rw [← h1, ← h2]
    exact k
theorem em_lim {f : Int} (hf : Is4 f) : IntKind.i64.wrap (1 - fE f - fP f) = 1 - fE f - fP f ∧ IntKind.i64.wrap (1 - fE f - fP f + 1) = lx f ∧ IntKind.i64.wrap (fE f - fP f) = fE f - fP f ∧ IntKind.i64.wrap (fE f - fP f + 1) = fE f - (pV f : Int) ∧ (if fC f = 0 then 1 - fE f else 0) = 1 - fE f ∧ 2 * fE f + 1 = (oV f : Int) ∧ 0 ≤ fE f ∧ fE f ≤ 16383 ∧ fP f = (pV f : Int) + 1 ∧ lx f = 1 - fE f - fP f + 1 ∧ pV f < 128 ∧ -16494 ≤ lx f ∧ lx f ≤ 0 := by
  rcases hf with rfl | rfl | rfl | rfl <;> decide +kernel
end Go.Proofs.YtapikkbifdldfaaGreatDoor
namespace Go.Proofs.YtapikkbifdldfaaGreatDoor
set_option maxRecDepth 100000
set_option maxHeartbeats 40000000
set_option maxRecDepth 100000
open Go.RowKit WMath XMath
set_option linter.unusedSimpArgs false
set_option linter.unusedVariables false
theorem blen_low (n : Nat) (h : n ≠ 0) : 1 ≤ blen n ∧ 2 ^ (blen n - 1) ≤ n ∧ n < 2 ^ blen n := by
  have h1 := blen_iff n (blen n - 1)
  have h2 := (blen_iff n (blen n)).1 (Nat.le_refl _)
  have h3 := blen_iff n 0
  have h4 : 1 ≤ blen n := by
    rcases Nat.eq_zero_or_pos (blen n) with e | e
    · have := h3.1 (by omega)
      rw [Nat.pow_zero] at this
      omega
    · exact e
  exact ⟨h4, by omega, h2⟩
theorem nm8 {f : Int} (hf : Is4 f) : fE f - (pV f : Int) - lx f + 1 = ((oV f - 1 : Nat) : Int) ∧ 1 ≤ oV f ∧ lx f = 1 - fE f - (pV f : Int) ∧ pV f < 128 ∧ fE f ≤ 16383 ∧ 0 ≤ fE f := by
  rcases hf with rfl | rfl | rfl | rfl <;> decide +kernel
theorem blen_is (n k : Nat) (h1 : 2 ^ k ≤ n) (h2 : n < 2 ^ (k + 1)) : blen n = k + 1 := by
  have a := (blen_iff n (k + 1)).2 h2
  have b := blen_iff n k
  omega
theorem blen_shift (n k : Nat) (h : n ≠ 0) : blen (n * 2 ^ k) = blen n + k := by
  obtain ⟨l1, l2, l3⟩ := blen_low n h
  have := blen_is (n * 2 ^ k) (blen n - 1 + k) (by rw [Nat.pow_add]; exact Nat.mul_le_mul_right _ l2) (by
    rw [show blen n - 1 + k + 1 = blen n + k by omega, Nat.pow_add]
    exact Nat.mul_lt_mul_of_pos_right l3 (Nat.two_pow_pos _))
  omega
theorem mk_whole (neg : Bool) (s : Nat) (x : Int) (s0 : s ≠ 0) (h1 : -1048576 ≤ x) (h2 : x + (tz s : Int) ≤ 1048576) : mk neg s 1 x = (⟨neg, od s, 1, x + (tz s : Int)⟩, 0) := by
  have o1 : od 1 = 1 := od_odd 1 rfl
  have t1 : tz 1 = 0 := tz_odd 1 rfl
  unfold mk
  rw [if_neg s0, o1, t1, Nat.gcd_one_right, Nat.div_one, Nat.div_one]
  rw [if_pos (by omega)]
  congr 2
  omega
def sV (f : Int) (e t : Nat) : Nat := if e = 0 then t else 2 ^ pV f + t
def xV (f : Int) (e : Nat) : Int := if e = 0 then lx f else lx f + (e : Int) - 1
theorem k_parts {f : Int} (n : Nat) (h : kC f n = 1 ∨ kC f n = 2 ∨ kC f n = 5 ∨ kC f n = 6) : kE f n < oV f ∧ kS f n = sV f (kE f n) (kT f n) ∧ kX f n = xV f (kE f n) ∧ kS f n ≠ 0 := by
  have el := kE_le (f := f) n
  have p := Nat.two_pow_pos (pV f)
  have h2 := h
  unfold kC at h2
  by_cases c1 : kE f n = oV f
  · rw [if_pos c1] at h2
    exfalso
    (repeat' split at h2) <;> omega
  · rw [if_neg c1] at h2
    unfold kS kX sV xV
    by_cases c2 : kE f n = 0
    · rw [if_neg (by omega)] at h2
      by_cases c3 : kT f n = 0
      · rw [if_neg (by omega)] at h2
        exfalso
        split at h2 <;> omega
      · rw [if_pos c3] at h2
        have hc : kC f n = 2 ∨ kC f n = 5 := by
          unfold kC
          rw [if_neg c1, if_neg (by omega), if_pos c3]
          cases kN f n <;> simp
        rw [if_pos hc, if_pos hc, if_pos c2, if_pos c2]
        exact ⟨by omega, rfl, rfl, c3⟩
    · have hc : kC f n = 1 ∨ kC f n = 6 := by
        unfold kC
        rw [if_neg c1, if_pos c2]
        cases kN f n <;> simp
      have hn : ¬ (kC f n = 2 ∨ kC f n = 5) := by omega
      rw [if_neg hn, if_neg hn, if_pos hc, if_pos hc, if_neg c2, if_neg c2]
      exact ⟨by omega, rfl, rfl, by omega⟩
theorem k_null {f : Int} (n : Nat) (h : kC f n = 3 ∨ kC f n = 4) : kS f n = 0 ∧ kX f n = 0 := by
  unfold kS kX
  rw [if_neg (by omega), if_neg (by omega), if_neg (by omega), if_neg (by omega)]
  exact ⟨rfl, rfl⟩
theorem bel_same {P : Program} {k : FuncId} {a : Array Value} {w : World} {v : Value} (h : Calls P k a w fun r w' => r = .returned v ∧ w' = w) : Calls P k a w fun r w' => r = .returned v ∧ Below w.heap.size w w' :=
  h.mono fun _ _ h => ⟨h.1, by rw [h.2]; exact Below.refl _ _⟩
theorem fC_yes {f : Int} (hf : Is4 f) : fC f = 0 := (is4_ok hf).2.2.1
theorem fC_no {f : Int} (h0 : 0 ≤ f) (hf : ¬ Is4 f) : fC f = 2 := by
  unfold Is4 at hf
  unfold fC
  rw [if_neg (by omega)]
def gO (m : Int) (neg odd half more : Bool) : Bool :=
  if m = 0 then half && (more || odd) else if m = 4 then half else if m = 2 then (half || more) && neg else if m = 3 then (half || more) && !neg else false
def rS (W k : Nat) : Nat := W / 2 ^ k / 2
def rH (W k : Nat) : Bool := decide (W / 2 ^ k % 2 = 1)
def rM (W k : Nat) (more : Bool) : Bool := decide (W % 2 ^ k ≠ 0) || more
def rO (W k : Nat) : Bool := decide (rS W k % 2 = 1)
def rG (m : Int) (neg : Bool) (W k : Nat) (more : Bool) : Nat := if gO m neg (rO W k) (rH W k) (rM W k more) = true then rS W k + 1 else rS W k
def stE (f T : Int) : Int := max T (1 - fE f)
def eS (f : Int) (neg : Bool) (j S : Nat) : Nat := j * 2 ^ pV f + S + (if neg then 2 ^ wV f else 0)
def ovB (f m : Int) (neg : Bool) : Nat := if gO m neg false true true = true then eInf f neg else eGreatest f neg
def tnB (f m : Int) (neg : Bool) (T : Int) (W : Nat) (more : Bool) : Bool := decide (T - fP f + (blen (rG m neg W 0 more) : Int) < 1 - fE f)
def dK (f T : Int) : Nat := (stE f T - T).toNat
def dJ (f T : Int) : Nat := (stE f T - (1 - fE f)).toNat
def dlv (f m : Int) (neg : Bool) (T : Int) (W : Nat) (more : Bool) : Nat × Int :=
  if fE f < stE f T - fP f + (blen (rG m neg W (dK f T) more) : Int) then (ovB f m neg, 5)
  else (eS f neg (dJ f T) (rG m neg W (dK f T) more), if (rH W (dK f T) || rM W (dK f T) more) = true then (if tnB f m neg T W more = true then 3 else 1) else 0)

theorem fp8 {f : Int} (hf : Is4 f) : fP f = (pV f : Int) + 1 := by rcases hf with rfl | rfl | rfl | rfl <;> decide
theorem od_two (s : Nat) (h : s ≠ 0) : od (2 * s) = od s ∧ tz (2 * s) = tz s + 1 := by
  have t : tz (2 * s) = tz s + 1 := by rw [tz_even (2 * s) (by omega) (by omega), Nat.mul_div_cancel_left s (by decide)]
  refine ⟨?_, t⟩
  unfold od
  rw [t, Nat.pow_succ, Nat.mul_comm (2 ^ tz s) 2, Nat.mul_div_mul_left _ _ (by decide)]
theorem mk_two (neg : Bool) (s : Nat) (x : Int) (s0 : s ≠ 0) (h1 : -1048576 ≤ x) (h2 : x + 1 + (tz s : Int) ≤ 1048576) : mk neg (2 * s) 1 x = mk neg s 1 (x + 1) := by
  obtain ⟨a, b⟩ := od_two s s0
  rw [mk_whole neg (2 * s) x (by omega) h1 (by rw [b]; omega), mk_whole neg s (x + 1) s0 (by omega) h2, a, b]
  congr 2
  omega
theorem rep {f : Int} (hf : Is4 f) (j S : Nat) (s0 : S ≠ 0) (hS : S ≤ 2 * 2 ^ pV f) (hj : j = 0 ∨ 2 ^ pV f ≤ S) (ht : lx f + (j : Int) - 1 + (blen S : Int) ≤ fE f) :
    ∃ e t, e < oV f ∧ t < 2 ^ pV f ∧ sV f e t ≠ 0 ∧ (∀ neg, enc7 f neg e t = eS f neg j S) ∧ (∀ neg, mk neg S 1 (lx f + (j : Int)) = mk neg (sV f e t) 1 (xV f e)) := by
  obtain ⟨n1, n2, n3, n4, n5, n6⟩ := nm8 hf
  have p := Nat.two_pow_pos (pV f)
  have oe : (oV f : Int) = 2 * fE f + 1 := by unfold oV; omega
  by_cases c1 : S < 2 ^ pV f
  · obtain rfl : j = 0 := by omega
    refine ⟨0, S, by omega, c1, ?_, ?_, ?_⟩
    · unfold sV; rw [if_pos rfl]; exact s0
    · intro neg; unfold enc7 eS; rfl
    · intro neg; unfold sV xV; rw [if_pos rfl, if_pos rfl]; congr 1; omega
  by_cases c2 : S < 2 * 2 ^ pV f
  · have bl : blen S = pV f + 1 := blen_is S (pV f) (by omega) (by rw [Nat.pow_succ]; omega)
    refine ⟨j + 1, S - 2 ^ pV f, by omega, by omega, ?_, ?_, ?_⟩
    · unfold sV; rw [if_neg (by omega)]; omega
    · intro neg; unfold enc7 eS; rw [Nat.add_mul, Nat.one_mul]; omega
    · intro neg
      unfold sV xV
      rw [if_neg (by omega), if_neg (by omega), show 2 ^ pV f + (S - 2 ^ pV f) = S by omega]
      congr 1
      omega
  · obtain rfl : S = 2 * 2 ^ pV f := by omega
    have bl : blen (2 * 2 ^ pV f) = pV f + 1 + 1 := blen_is _ (pV f + 1) (by rw [Nat.pow_succ]; omega) (by rw [Nat.pow_succ, Nat.pow_succ]; omega)
    have tl := tz_blen (2 ^ pV f)
    have bl1 : blen (2 ^ pV f) = pV f + 1 := blen_is _ (pV f) (Nat.le_refl _) (by rw [Nat.pow_succ]; omega)
    refine ⟨j + 2, 0, by omega, p, ?_, ?_, ?_⟩
    · unfold sV; rw [if_neg (by omega)]; omega
    · intro neg; unfold enc7 eS; rw [Nat.add_mul]; omega
    · intro neg
      unfold sV xV
      rw [if_neg (by omega), if_neg (by omega), Nat.add_zero, mk_two neg (2 ^ pV f) _ (by omega) (by omega) (by omega)]
      congr 1
      omega
def Wok (f : Int) (W : Nat) : Prop := 2 * 2 ^ pV f ≤ W ∧ W < 4 * 2 ^ pV f
theorem rG_two (m : Int) (neg : Bool) (W k : Nat) (more : Bool) : rG m neg W k more = rS W k ∨ rG m neg W k more = rS W k + 1 := by
  unfold rG; split <;> simp
theorem rS_lim {f : Int} {W : Nat} (h : Wok f W) (k : Nat) : rS W k < 2 * 2 ^ pV f ∧ (k = 0 → 2 ^ pV f ≤ rS W k) ∧ (0 < k → rS W k < 2 ^ pV f) := by
  obtain ⟨h1, h2⟩ := h
  unfold rS
  have d0 : W / 2 ^ k ≤ W := Nat.div_le_self _ _
  refine ⟨by omega, ?_, ?_⟩
  · intro e
    subst e
    rw [Nat.pow_zero, Nat.div_one]
    omega
  · intro hk
    obtain ⟨i, rfl⟩ : ∃ i, k = i + 1 := ⟨k - 1, by omega⟩
    rw [Nat.pow_succ, Nat.mul_comm (2 ^ i) 2, ← Nat.div_div_eq_div_mul]
    have d1 : W / 2 / 2 ^ i ≤ W / 2 := Nat.div_le_self _ _
    omega
theorem rG_lim {f : Int} {W : Nat} (h : Wok f W) (m : Int) (neg : Bool) (k : Nat) (more : Bool) : rG m neg W k more ≤ 2 * 2 ^ pV f ∧ (k = 0 → 2 ^ pV f ≤ rG m neg W k more) ∧ (0 < k → rG m neg W k more ≤ 2 ^ pV f) := by
  obtain ⟨a, b, c⟩ := rS_lim h k
  rcases rG_two m neg W k more with e | e <;> rw [e] <;> refine ⟨by omega, fun q => ?_, fun q => ?_⟩ <;> first | (have := b q; omega) | (have := c q; omega)
theorem st_lx {f : Int} (hf : Is4 f) (T : Int) : stE f T - fP f + 1 = lx f + (dJ f T : Int) := by
  have := fp8 hf
  have e := (nm8 hf).2.2.1
  unfold dJ stE
  omega
theorem jk {f : Int} (T : Int) : (dJ f T = 0 ∧ T + (dK f T : Int) = 1 - fE f) ∨ (dK f T = 0 ∧ T = 1 - fE f + (dJ f T : Int)) := by
  unfold dJ dK stE
  omega
def hfV (half more : Bool) : Int := if half then (if more then 1 else 0) else -1
def qW (P n : Nat) : Nat := if P + 1 ≤ blen n then n / 2 ^ (blen n - (P + 1)) else n * 2 ^ (P + 1 - blen n)
def qM (P n : Nat) (more : Bool) : Bool := if P + 1 ≤ blen n then decide (n % 2 ^ (blen n - (P + 1)) ≠ 0) || more else more
theorem blen_more (s n q : Nat) (s0 : s ≠ 0) (hq : q < 2 ^ n) : blen (s * 2 ^ n + q) = blen s + n := by
  have h := blen_push q n s hq s0
  rw [Nat.add_comm q, Nat.mul_comm (2 ^ n) s] at h
  omega
theorem div_more (s n q : Nat) (hq : q < 2 ^ n) : (s * 2 ^ n + q) / 2 ^ n = s := by
  rw [Nat.add_comm, Nat.add_mul_div_right _ _ (Nat.two_pow_pos n), Nat.div_eq_of_lt hq, Nat.zero_add]
theorem mod_more (s n q : Nat) (hq : q < 2 ^ n) : (s * 2 ^ n + q) % 2 ^ n = q := by
  rw [Nat.add_comm, Nat.add_mul_mod_self_right, Nat.mod_eq_of_lt hq]
theorem qdec_or {a b c : Prop} [Decidable a] [Decidable b] [Decidable c] (h : a ↔ (b ∨ c)) : decide a = (decide b || decide c) := by
  rw [Bool.eq_iff_iff, Bool.or_eq_true, decide_eq_true_iff, decide_eq_true_iff, decide_eq_true_iff]
  exact h
theorem q_more (P s n q : Nat) (s0 : s ≠ 0) (hq : q < 2 ^ n) (h : q ≠ 0 → P + 1 ≤ blen s) : qW P (s * 2 ^ n + q) = qW P s ∧ qM P (s * 2 ^ n + q) false = qM P s (decide (q ≠ 0)) := by
  have hb := blen_more s n q s0 hq
  unfold qW qM
  rw [hb]
  by_cases c : P + 1 ≤ blen s
  · rw [if_pos c, if_pos c, if_pos (by omega), if_pos (by omega), show blen s + n - (P + 1) = n + (blen s - (P + 1)) by omega]
    constructor
    · rw [Nat.pow_add, ← Nat.div_div_eq_div_mul, div_more s n q hq]
    · rw [Bool.or_false, Bool.or_comm]
      refine qdec_or ?_
      have := mod_pow_zero (s * 2 ^ n + q) n (blen s - (P + 1))
      rw [mod_more s n q hq, div_more s n q hq] at this
      rw [Ne, this]
      omega
  · have q0 : q = 0 := by omega
    subst q0
    have z0 : decide ((0 : Nat) ≠ 0) = false := rfl
    rw [if_neg c, if_neg c, z0]
    simp only [Nat.add_zero]
    by_cases c2 : P + 1 ≤ blen s + n
    · rw [if_pos c2, if_pos c2]
      have e : s * 2 ^ n = s * 2 ^ (P + 1 - blen s) * 2 ^ (blen s + n - (P + 1)) := by
        rw [Nat.mul_assoc, ← Nat.pow_add]
        congr 2
        omega
      rw [e]
      refine ⟨Nat.mul_div_cancel _ (Nat.two_pow_pos _), ?_⟩
      rw [Bool.or_false, decide_eq_false_iff_not]
      exact fun q => q (Nat.mul_mod_left _ _)
    · rw [if_neg c2, if_neg c2, Nat.mul_assoc, ← Nat.pow_add]
      exact ⟨by congr 2; omega, rfl⟩
theorem q_longer (P s n : Nat) (s0 : s ≠ 0) : qW P (s * 2 ^ n) = qW P s ∧ qM P (s * 2 ^ n) false = qM P s false := by
  have := q_more P s n 0 s0 (Nat.two_pow_pos n) (fun h => absurd rfl h)
  have z0 : decide ((0 : Nat) ≠ 0) = false := rfl
  rw [Nat.add_zero, z0] at this
  exact this
theorem qM_true (P s : Nat) (more : Bool) : qM P s more = (qM P s false || more) := by
  unfold qM
  split <;> simp
theorem q_jam (P s : Nat) (h : P + 2 ≤ blen s) : blen (s / 2 * 2 + 1) = blen s ∧ qW P (s / 2 * 2 + 1) = qW P s ∧ qM P (s / 2 * 2 + 1) false = true ∧ qM P s true = true := by
  have s0 : s ≠ 0 := by intro e; subst e; rw [blen_zero] at h; omega
  obtain ⟨l1, l2, l3⟩ := blen_low s s0
  have t0 : s / 2 ≠ 0 := by
    have : 2 ^ 1 ≤ 2 ^ (blen s - 1) := Nat.pow_le_pow_right (by decide) (by omega)
    omega
  have d : s = s / 2 * 2 ^ 1 + s % 2 := by omega
  have b1 := blen_more (s / 2) 1 (s % 2) t0 (by omega)
  have b2 := blen_more (s / 2) 1 1 t0 (by decide)
  rw [← d] at b1
  have q1 := q_more P (s / 2) 1 (s % 2) t0 (by omega) (fun _ => by omega)
  have q2 := q_more P (s / 2) 1 1 t0 (by decide) (fun _ => by omega)
  rw [← d] at q1
  rw [Nat.pow_one] at b2 q2
  refine ⟨by omega, by rw [q1.1, q2.1], ?_, ?_⟩
  · rw [q2.2, qM_true]; simp
  · rw [qM_true]; simp
theorem q_ok {f : Int} (s : Nat) (s0 : s ≠ 0) : Wok f (qW (pV f + 1) s) := by
  obtain ⟨l1, l2, l3⟩ := blen_low s s0
  have e1 : 2 * 2 ^ pV f = 2 ^ (pV f + 1) := by rw [Nat.pow_succ, Nat.mul_comm]
  have e2 : 4 * 2 ^ pV f = 2 ^ (pV f + 1 + 1) := by rw [Nat.pow_succ, Nat.pow_succ]; omega
  unfold Wok qW
  rw [e1, e2]
  by_cases c : pV f + 1 + 1 ≤ blen s
  · rw [if_pos c]
    have p := Nat.two_pow_pos (blen s - (pV f + 1 + 1))
    constructor
    · rw [Nat.le_div_iff_mul_le p, ← Nat.pow_add, show pV f + 1 + (blen s - (pV f + 1 + 1)) = blen s - 1 by omega]
      exact l2
    · rw [Nat.div_lt_iff_lt_mul p, ← Nat.pow_add, show pV f + 1 + 1 + (blen s - (pV f + 1 + 1)) = blen s by omega]
      exact l3
  · rw [if_neg c]
    have p := Nat.two_pow_pos (pV f + 1 + 1 - blen s)
    constructor
    · have := Nat.mul_le_mul_right (2 ^ (pV f + 1 + 1 - blen s)) l2
      rw [← Nat.pow_add, show blen s - 1 + (pV f + 1 + 1 - blen s) = pV f + 1 by omega] at this
      exact this
    · have := (Nat.mul_lt_mul_right p).2 l3
      rw [← Nat.pow_add, show blen s + (pV f + 1 + 1 - blen s) = pV f + 1 + 1 by omega] at this
      exact this
theorem cutN (s L : Nat) (hs : s < Q) : s / 2 ^ min (L + 1) 384 = s / 2 ^ L / 2 ∧ decide (s % 2 ^ min (L + 1) 384 = 0) = !(decide (s / 2 ^ L % 2 = 1) || decide (s % 2 ^ L ≠ 0)) ∧ halfv s (min (L + 1) 385) = hfV (decide (s / 2 ^ L % 2 = 1)) (decide (s % 2 ^ L ≠ 0)) := by
  obtain ⟨Z, hZ, eQ⟩ := Qq384
  have hQ : s < 2 ^ Z := by rw [← eQ]; exact hs
  rw [← hZ]
  have full : s % 2 ^ (L + 1) = 0 ↔ (s % 2 ^ L = 0 ∧ s / 2 ^ L % 2 = 0) := by
    have := mod_pow_zero s L 1
    rw [Nat.pow_one] at this
    exact this
  have b1 : decide (s % 2 ^ (L + 1) = 0) = !(decide (s / 2 ^ L % 2 = 1) || decide (s % 2 ^ L ≠ 0)) := by
    rw [Bool.eq_iff_iff, decide_eq_true_iff, full, Bool.not_eq_true', Bool.or_eq_false_iff, decide_eq_false_iff_not, decide_eq_false_iff_not]
    omega
  by_cases c : L < Z
  · rw [Nat.min_eq_left (by omega : L + 1 ≤ Z), Nat.min_eq_left (by omega : L + 1 ≤ 385)]
    refine ⟨by rw [Nat.pow_succ, Nat.div_div_eq_div_mul], b1, ?_⟩
    rw [halfv_bit s L (by omega), Nat.testBit_eq_decide_div_mod_eq]
    unfold hfV
    by_cases z : s % 2 ^ L = 0
    · rw [if_pos z, decide_eq_false (show ¬ (s % 2 ^ L ≠ 0) by omega)]
      rfl
    · rw [if_neg z, decide_eq_true (show s % 2 ^ L ≠ 0 by omega)]
      rfl
  · have lt : s < 2 ^ L := Nat.lt_of_lt_of_le hQ (Nat.pow_le_pow_right (by decide) (by omega))
    have lt2 : s < 2 ^ (L + 1) := Nat.lt_of_lt_of_le hQ (Nat.pow_le_pow_right (by decide) (by omega))
    rw [Nat.min_eq_right (by omega : Z ≤ L + 1), Nat.min_eq_right (by omega : 385 ≤ L + 1)]
    refine ⟨by rw [Nat.div_eq_of_lt hQ, Nat.div_eq_of_lt lt], ?_, ?_⟩
    · rw [← b1, Nat.mod_eq_of_lt hQ, Nat.mod_eq_of_lt lt2]
    · unfold halfv
      rw [if_pos (Or.inr (by decide)), Nat.div_eq_of_lt lt]
      rfl
theorem cut_is (P s : Nat) (x st : Int) (k : Nat) (s0 : s ≠ 0) (hs : s < Q) (hP : P ≤ 200) (hst : st = x + (blen s : Int) - (P : Int) + (k : Int)) :
    s * 2 ^ cnt6 (x - st) < Q ∧ s * 2 ^ cnt6 (x - st) / 2 ^ cnt6 (st - x) = rS (qW P s) k ∧ decide (s * 2 ^ cnt6 (x - st) % 2 ^ cnt6 (st - x) = 0) = !(rH (qW P s) k || rM (qW P s) k (qM P s false)) ∧
    ((rH (qW P s) k || rM (qW P s) k (qM P s false)) = true → halfv (s * 2 ^ cnt6 (x - st)) (cnt5 (st - x)) = hfV (rH (qW P s) k) (rM (qW P s) k (qM P s false))) := by
  obtain ⟨l1, l2, l3⟩ := blen_low s s0
  obtain ⟨Z, hZ, eQ⟩ := Qq384
  have bQ : blen s ≤ Z := blen_le_of s Z (by rw [← eQ]; exact hs)
  have deep : ∀ L : Nat, st - x = ((L + 1 : Nat) : Int) → qW P s / 2 ^ k = s / 2 ^ L → rM (qW P s) k (qM P s false) = decide (s % 2 ^ L ≠ 0) → s * 2 ^ cnt6 (x - st) < Q ∧ s * 2 ^ cnt6 (x - st) / 2 ^ cnt6 (st - x) = rS (qW P s) k ∧ decide (s * 2 ^ cnt6 (x - st) % 2 ^ cnt6 (st - x) = 0) = !(rH (qW P s) k || rM (qW P s) k (qM P s false)) ∧
    ((rH (qW P s) k || rM (qW P s) k (qM P s false)) = true → halfv (s * 2 ^ cnt6 (x - st)) (cnt5 (st - x)) = hfV (rH (qW P s) k) (rM (qW P s) k (qM P s false))) := by
    intro L hL hq hm
    have e0 : cnt6 (x - st) = 0 := by unfold cnt6; omega
    have e1 : cnt6 (st - x) = min (L + 1) 384 := by unfold cnt6; omega
    have e2 : cnt5 (st - x) = min (L + 1) 385 := by unfold cnt5; omega
    obtain ⟨c1, c2, c3⟩ := cutN s L hs
    rw [e0, e1, e2, Nat.pow_zero, Nat.mul_one, hm]
    unfold rS rH
    rw [hq]
    exact ⟨hs, c1, c2, fun _ => c3⟩
  by_cases c : P + 1 ≤ blen s
  · refine deep (blen s - (P + 1) + k) (by omega) ?_ ?_
    · unfold qW
      rw [if_pos c, Nat.div_div_eq_div_mul, ← Nat.pow_add]
    · unfold rM qM qW
      rw [if_pos c, if_pos c, Bool.or_false]
      refine (qdec_or ?_).symm
      have := mod_pow_zero s (blen s - (P + 1)) k
      rw [Ne, this]
      omega
  · have W : qW P s = s * 2 ^ (P + 1 - blen s) := by unfold qW; rw [if_neg c]
    have M : qM P s false = false := by unfold qM; rw [if_neg c]
    by_cases c2 : P + 1 - blen s ≤ k
    · have e : s * 2 ^ (P + 1 - blen s) / 2 ^ k = s / 2 ^ (k - (P + 1 - blen s)) := by
        obtain ⟨i, rfl⟩ : ∃ i, k = P + 1 - blen s + i := ⟨k - (P + 1 - blen s), by omega⟩
        rw [Nat.pow_add, ← Nat.div_div_eq_div_mul, Nat.mul_div_cancel _ (Nat.two_pow_pos _), Nat.add_sub_cancel_left]
      refine deep (k - (P + 1 - blen s)) (by omega) (by rw [W, e]) ?_
      unfold rM
      rw [W, M, Bool.or_false]
      have := mod_pow_zero (s * 2 ^ (P + 1 - blen s)) (P + 1 - blen s) (k - (P + 1 - blen s))
      rw [show P + 1 - blen s + (k - (P + 1 - blen s)) = k by omega, Nat.mul_mod_left, Nat.mul_div_cancel _ (Nat.two_pow_pos _)] at this
      rw [decide_eq_decide, Ne, this]
      omega
    · obtain ⟨i, hi⟩ : ∃ i, P + 1 - blen s = i + 1 + k := ⟨P + 1 - blen s - 1 - k, by omega⟩
      have e0 : cnt6 (x - st) = i := by unfold cnt6; omega
      have e1 : cnt6 (st - x) = 0 := by unfold cnt6; omega
      have w1 : s * 2 ^ (P + 1 - blen s) / 2 ^ k = s * 2 ^ i * 2 := by
        rw [hi, Nat.pow_add, ← Nat.mul_assoc, Nat.mul_div_cancel _ (Nat.two_pow_pos _), Nat.pow_succ, Nat.mul_assoc]
      have hH : rH (s * 2 ^ (P + 1 - blen s)) k = false := by
        unfold rH
        rw [w1]
        exact decide_eq_false (by omega)
      have hM : rM (s * 2 ^ (P + 1 - blen s)) k false = false := by
        unfold rM
        rw [hi, Nat.pow_add, ← Nat.mul_assoc, Nat.mul_mod_left]
        rfl
      rw [W, M, e0, e1, hH, hM, Nat.pow_zero, Nat.div_one, Nat.mod_one]
      refine ⟨?_, ?_, rfl, fun q => Bool.noConfusion q⟩
      · have := (Nat.mul_lt_mul_right (Nat.two_pow_pos i)).2 l3
        rw [← Nat.pow_add] at this
        rw [eQ]
        exact Nat.lt_of_lt_of_le this (Nat.pow_le_pow_right (show 0 < 2 by decide) (by omega))
      · unfold rS
        rw [w1]
        omega
theorem k_emin (f : Int) (hf : Is4 f) (w : World) (hT : FAt w) : Calls Tryz.prog 83 #[.int .u8 f] w fun r w' => r = .returned (.int .i64 (1 - fE f)) ∧ Below w.heap.size w w' :=
  s_emin f _ _ (is4_ok hf).1 (is4_ok hf).2.1 rfl (em_lim hf).2.2.2.2.1 w hT
theorem eS_lt {f : Int} (hf : Is4 f) (j S : Nat) (hS : S ≤ 2 * 2 ^ pV f) (hj : j = 0 ∨ 2 ^ pV f ≤ S) (ht : lx f + (j : Int) - 1 + (blen S : Int) ≤ fE f) : j * 2 ^ pV f + S < 2 ^ wV f := by
  obtain ⟨g1, g2, g3, g4, g5, g6, g7⟩ := fm hf
  have p := Nat.two_pow_pos (pV f)
  by_cases s0 : S = 0
  · obtain rfl : j = 0 := by omega
    subst s0
    rw [Nat.zero_mul]
    exact Nat.two_pow_pos _
  obtain ⟨e, t, he, htt, nz, h1, h2⟩ := rep hf j S s0 hS hj ht
  have := h1 false
  unfold enc7 eS at this
  rw [if_neg (by decide), Nat.add_zero, Nat.add_zero] at this
  rw [← this, g1]
  have := Nat.mul_le_mul_right (2 ^ pV f) (show e + 1 ≤ oV f + 1 by omega)
  rw [Nat.add_mul, Nat.one_mul] at this
  omega
theorem k_mode (m c : Int) (hc : (if m ≤ 4 then (0 : Int) else 2) = c) (w : World) : Calls Tryz.prog 28 #[.int .u8 m] w fun r w' => r = .returned (.int .i64 c) ∧ Below w.heap.size w w' := by
  subst hc
  exact bel_same (s_checkMode m w)
theorem k_form (f : Int) (h0 : 0 ≤ f) (h1 : f ≤ 255) (c : Int) (hc : (if f ≤ 3 then (0 : Int) else 2) = c) (w : World) : Calls Tryz.prog 27 #[.int .u8 f] w fun r w' => r = .returned (.int .i64 c) ∧ Below w.heap.size w w' := by
  refine bel_same (s_check_is f c h0 h1 ?_ w)
  rw [← hc]
  by_cases h : f ≤ 3
  · rw [if_pos h]; exact fC_yes (is4_of h0 h)
  · rw [if_neg h]; exact fC_no h0 (by unfold Is4; omega)
end Go.Proofs.YtapikkbifdldfaaGreatDoor
namespace Go.Proofs.YtapikkbifdldfaaGreatDoor
set_option maxRecDepth 100000
set_option maxHeartbeats 40000000
set_option maxRecDepth 100000
open Go.RowKit WMath
set_option linter.unusedSimpArgs false
set_option linter.unusedVariables false
def rg (neg : Bool) (s : Nat) (x : Int) (more : Bool) : Array Value := #[.bool neg, .int .u64 (wd s 0 : Nat), .int .u64 (wd s 1 : Nat), .int .u64 (wd s 2 : Nat), .int .u64 (wd s 3 : Nat), .int .u64 (wd s 4 : Nat), .int .u64 (wd s 5 : Nat), .int .i64 x, .bool more]
theorem rgf (neg : Bool) (s : Nat) (x : Int) (more : Bool) : #[Value.bool neg, .int .u64 (wd s 0 : Nat), .int .u64 (wd s 1 : Nat), .int .u64 (wd s 2 : Nat), .int .u64 (wd s 3 : Nat), .int .u64 (wd s 4 : Nat), .int .u64 (wd s 5 : Nat), .int .i64 x, .bool more] = rg neg s x more := rfl
theorem rgz : #[Value.bool false, .int .u64 0, .int .u64 0, .int .u64 0, .int .u64 0, .int .u64 0, .int .u64 0, .int .i64 0, .bool false] = rg false 0 0 false := by unfold rg; simp [wd_zero]
theorem rg_size (neg : Bool) (s : Nat) (x : Int) (more : Bool) : (rg neg s x more).size = 9 := rfl
theorem rg_one (neg : Bool) (s : Nat) (x : Int) (more : Bool) : ∀ v ∈ (rg neg s x more).toList, v.oneCell' = true := by
  intro v hv
  simp only [rg, List.mem_cons, List.not_mem_nil, or_false] at hv
  rcases hv with rfl | rfl | rfl | rfl | rfl | rfl | rfl | rfl | rfl <;> rfl
theorem st_r (w : World) (b : Nat) (neg : Bool) (s : Nat) (x : Int) (more neg0 : Bool) (s0 : Nat) (x0 : Int) (more0 : Bool) (h : w.heap[b]? = some (.cells (rg neg0 s0 x0 more0) 62)) :
    (storeCells ⟨b, 0, none⟩ (rg neg s x more).toList 0).run Tryz.prog w = .ok () (w.setRow b (rg neg s x more)) :=
  run_storeCells_at (P := Tryz.prog) b 0 62 (rg neg s x more).toList 0 (rg neg0 s0 x0 more0) w h (by simp only [Array.length_toList, rg_size]; omega) (rg_one neg s x more)
theorem st_r0 (w : World) (b : Nat) (neg : Bool) (s : Nat) (x : Int) (more neg0 : Bool) (s0 : Nat) (x0 : Int) (more0 : Bool) (hb : b = w.heap.size) :
    (storeCells ⟨b, 0, none⟩ (rg neg s x more).toList 0).run Tryz.prog (w.alloc (.cells (rg neg0 s0 x0 more0) 62)) = .ok () (w.alloc (.cells (rg neg s x more) 62)) := by
  subst hb
  rw [st_r _ _ neg s x more neg0 s0 x0 more0 (heap_alloc_last w _), World.setRow_alloc_new]
theorem rg_cells {w : World} {g : Nat} {T : TypeId} {neg : Bool} {s : Nat} {x : Int} {more : Bool} (R : w.heap[g]? = some (.cells (rg neg s x more) T)) : w.cell? ⟨g, 0, none⟩ = some (.bool neg) ∧ w.cell? ⟨g, 1, none⟩ = some (.int .u64 (wd s 0 : Nat)) ∧ w.cell? ⟨g, 2, none⟩ = some (.int .u64 (wd s 1 : Nat)) ∧ w.cell? ⟨g, 3, none⟩ = some (.int .u64 (wd s 2 : Nat)) ∧ w.cell? ⟨g, 4, none⟩ = some (.int .u64 (wd s 3 : Nat)) ∧ w.cell? ⟨g, 5, none⟩ = some (.int .u64 (wd s 4 : Nat)) ∧ w.cell? ⟨g, 6, none⟩ = some (.int .u64 (wd s 5 : Nat)) ∧ w.cell? ⟨g, 7, none⟩ = some (.int .i64 x) ∧ w.cell? ⟨g, 8, none⟩ = some (.bool more) :=
  ⟨cells4 R 0 _ rfl, cells4 R 1 _ rfl, cells4 R 2 _ rfl, cells4 R 3 _ rfl, cells4 R 4 _ rfl, cells4 R 5 _ rfl, cells4 R 6 _ rfl, cells4 R 7 _ rfl, cells4 R 8 _ rfl⟩
theorem rg_set1 (neg : Bool) (s t : Nat) (x : Int) (more : Bool) (h : ∀ k, 0 < k → k < 6 → wd t k = wd s k) : (rg neg s x more).setIfInBounds 1 (.int .u64 (wd t 0 : Nat)) = rg neg t x more := by
  have h1 := h 1 (by decide) (by decide)
  have h2 := h 2 (by decide) (by decide)
  have h3 := h 3 (by decide) (by decide)
  have h4 := h 4 (by decide) (by decide)
  have h5 := h 5 (by decide) (by decide)
  unfold rg
  rw [h1, h2, h3, h4, h5]
  rfl
theorem rg_set8 (neg : Bool) (s : Nat) (x : Int) (more m2 : Bool) : (rg neg s x more).setIfInBounds 8 (.bool m2) = rg neg s x m2 := rfl
set_option maxRecDepth 100000 in
theorem ro_stepAt (f T P A1 v : Int) (w : World)
    (KP : Box (∀ w, FAt w → Calls Tryz.prog 121 #[.int .u8 f] w fun r w' => r = .returned (.int .i64 P) ∧ Below w.heap.size w w'))
    (h1 : IntKind.i64.wrap (T - P) = A1) (h2 : IntKind.i64.wrap (A1 + 1) = v) (hT : FAt w) : Calls Tryz.prog 81 #[.int .u8 f, .int .i64 T] w fun r w' => r = .returned (.int .i64 v) ∧ Below w.heap.size w w' := by
  have FF := box hT
  clear hT
  have B0 : Below w.heap.size w w := (Below.refl _ _)
  go_enter Tryz.func81, Tryz.ntmps81
  go_wp2_with fail
  refine (KP.out _ (fatB FF.out B0)).mono ?_
  rintro r w1 ⟨rfl, b1⟩
  have B1 : Below w.heap.size w w1 := btr B0 b1
  clear b1 B0 
  go_wp2
  go_ret
  exact ⟨rfl, B1⟩
set_option maxRecDepth 100000 in
set_option maxHeartbeats 2000000 in
theorem ro_top (neg : Bool) (s : Nat) (x : Int) (more : Bool) (l A1 v : Int) (w : World)
    (KL : Box (∀ w, Calls Tryz.prog 86 #[.agg (cw 6 s)] w fun r w' => r = .returned (.int .i64 l) ∧ Below w.heap.size w w'))
    (h1 : IntKind.i64.wrap (x + l) = A1) (h2 : IntKind.i64.wrap (A1 - 1) = v) : Calls Tryz.prog 82 #[.agg (rg neg s x more)] w fun r w' => r = .returned (.int .i64 v) ∧ Below w.heap.size w w' := by
  have hat := cw_at 6
  have hz := cw6z
  have hff := cw6f
  have hs0 := st0
  have hcs : ∀ x, ((cw 6 x).size = 6) = True := fun x => eq_true (cw_size 6 x)
  obtain ⟨Rx_0, B0⟩ := opn1 w (Obj.cells (rg neg s x more) 62)
  go_enter Tryz.func82, Tryz.ntmps82
  have sS : Box (∀ W W1 : World, (Below w.heap.size w W ∧ W.heap[w.heap.size]? = some (Obj.cells (rg neg s x more) 62) ∧ W.cell? ⟨w.heap.size, 0, none⟩ = some (.bool neg) ∧ W.cell? ⟨w.heap.size, 1, none⟩ = some (.int .u64 ((wd s 0 : Nat) : Int)) ∧ W.cell? ⟨w.heap.size, 2, none⟩ = some (.int .u64 ((wd s 1 : Nat) : Int)) ∧ W.cell? ⟨w.heap.size, 3, none⟩ = some (.int .u64 ((wd s 2 : Nat) : Int)) ∧ W.cell? ⟨w.heap.size, 4, none⟩ = some (.int .u64 ((wd s 3 : Nat) : Int)) ∧ W.cell? ⟨w.heap.size, 5, none⟩ = some (.int .u64 ((wd s 4 : Nat) : Int)) ∧ W.cell? ⟨w.heap.size, 6, none⟩ = some (.int .u64 ((wd s 5 : Nat) : Int)) ∧ W.cell? ⟨w.heap.size, 7, none⟩ = some (.int .i64 x) ∧ W.cell? ⟨w.heap.size, 8, none⟩ = some (.bool more)) → Below W.heap.size W W1 → (Below w.heap.size w W1 ∧ W1.heap[w.heap.size]? = some (Obj.cells (rg neg s x more) 62) ∧ W1.cell? ⟨w.heap.size, 0, none⟩ = some (.bool neg) ∧ W1.cell? ⟨w.heap.size, 1, none⟩ = some (.int .u64 ((wd s 0 : Nat) : Int)) ∧ W1.cell? ⟨w.heap.size, 2, none⟩ = some (.int .u64 ((wd s 1 : Nat) : Int)) ∧ W1.cell? ⟨w.heap.size, 3, none⟩ = some (.int .u64 ((wd s 2 : Nat) : Int)) ∧ W1.cell? ⟨w.heap.size, 4, none⟩ = some (.int .u64 ((wd s 3 : Nat) : Int)) ∧ W1.cell? ⟨w.heap.size, 5, none⟩ = some (.int .u64 ((wd s 4 : Nat) : Int)) ∧ W1.cell? ⟨w.heap.size, 6, none⟩ = some (.int .u64 ((wd s 5 : Nat) : Int)) ∧ W1.cell? ⟨w.heap.size, 7, none⟩ = some (.int .i64 x) ∧ W1.cell? ⟨w.heap.size, 8, none⟩ = some (.bool more))) := box (fun W W1 h b => ⟨btr h.1 b, heap_of b _ _ _ h.2.1, cell7 (heap_of b _ _ _ h.2.1) 0 _ rfl, cell7 (heap_of b _ _ _ h.2.1) 1 _ rfl, cell7 (heap_of b _ _ _ h.2.1) 2 _ rfl, cell7 (heap_of b _ _ _ h.2.1) 3 _ rfl, cell7 (heap_of b _ _ _ h.2.1) 4 _ rfl, cell7 (heap_of b _ _ _ h.2.1) 5 _ rfl, cell7 (heap_of b _ _ _ h.2.1) 6 _ rfl, cell7 (heap_of b _ _ _ h.2.1) 7 _ rfl, cell7 (heap_of b _ _ _ h.2.1) 8 _ rfl⟩)
  have s0 : Below w.heap.size w ((w.alloc (Obj.cells (rg neg s x more) 62))).drew ∧ ((w.alloc (Obj.cells (rg neg s x more) 62))).drew.heap[w.heap.size]? = some (Obj.cells (rg neg s x more) 62) ∧ ((w.alloc (Obj.cells (rg neg s x more) 62))).drew.cell? ⟨w.heap.size, 0, none⟩ = some (.bool neg) ∧ ((w.alloc (Obj.cells (rg neg s x more) 62))).drew.cell? ⟨w.heap.size, 1, none⟩ = some (.int .u64 ((wd s 0 : Nat) : Int)) ∧ ((w.alloc (Obj.cells (rg neg s x more) 62))).drew.cell? ⟨w.heap.size, 2, none⟩ = some (.int .u64 ((wd s 1 : Nat) : Int)) ∧ ((w.alloc (Obj.cells (rg neg s x more) 62))).drew.cell? ⟨w.heap.size, 3, none⟩ = some (.int .u64 ((wd s 2 : Nat) : Int)) ∧ ((w.alloc (Obj.cells (rg neg s x more) 62))).drew.cell? ⟨w.heap.size, 4, none⟩ = some (.int .u64 ((wd s 3 : Nat) : Int)) ∧ ((w.alloc (Obj.cells (rg neg s x more) 62))).drew.cell? ⟨w.heap.size, 5, none⟩ = some (.int .u64 ((wd s 4 : Nat) : Int)) ∧ ((w.alloc (Obj.cells (rg neg s x more) 62))).drew.cell? ⟨w.heap.size, 6, none⟩ = some (.int .u64 ((wd s 5 : Nat) : Int)) ∧ ((w.alloc (Obj.cells (rg neg s x more) 62))).drew.cell? ⟨w.heap.size, 7, none⟩ = some (.int .i64 x) ∧ ((w.alloc (Obj.cells (rg neg s x more) 62))).drew.cell? ⟨w.heap.size, 8, none⟩ = some (.bool more) := ⟨B0.drew, Rx_0, cell7 (Rx_0) 0 _ rfl, cell7 (Rx_0) 1 _ rfl, cell7 (Rx_0) 2 _ rfl, cell7 (Rx_0) 3 _ rfl, cell7 (Rx_0) 4 _ rfl, cell7 (Rx_0) 5 _ rfl, cell7 (Rx_0) 6 _ rfl, cell7 (Rx_0) 7 _ rfl, cell7 (Rx_0) 8 _ rfl⟩
  go_wp2_with fail
  go_region_held3 (fun W => Below w.heap.size w W ∧ W.heap[w.heap.size]? = some (Obj.cells (rg neg s x more) 62) ∧ W.cell? ⟨w.heap.size, 0, none⟩ = some (.bool neg) ∧ W.cell? ⟨w.heap.size, 1, none⟩ = some (.int .u64 ((wd s 0 : Nat) : Int)) ∧ W.cell? ⟨w.heap.size, 2, none⟩ = some (.int .u64 ((wd s 1 : Nat) : Int)) ∧ W.cell? ⟨w.heap.size, 3, none⟩ = some (.int .u64 ((wd s 2 : Nat) : Int)) ∧ W.cell? ⟨w.heap.size, 4, none⟩ = some (.int .u64 ((wd s 3 : Nat) : Int)) ∧ W.cell? ⟨w.heap.size, 5, none⟩ = some (.int .u64 ((wd s 4 : Nat) : Int)) ∧ W.cell? ⟨w.heap.size, 6, none⟩ = some (.int .u64 ((wd s 5 : Nat) : Int)) ∧ W.cell? ⟨w.heap.size, 7, none⟩ = some (.int .i64 x) ∧ W.cell? ⟨w.heap.size, 8, none⟩ = some (.bool more)) (first | exact s1 | exact s0)
    (first | (go_at_call 86; (first | refine (KL.out _).mono ?_ | refine (KL.out _).mono ?_); rintro r wq ⟨rfl, bq⟩; have s1 := (by first | exact sS.out _ _ s1 bq | exact sS.out _ _ s0 bq); clear bq) | fail)
  have B1 := (And.left s1)
  have Rx_1 := s1.2.1
  clear s0 s1 sS B0 Rx_0
  obtain ⟨cx_1_0, cx_1_1, cx_1_2, cx_1_3, cx_1_4, cx_1_5, cx_1_6, cx_1_7, cx_1_8⟩ := rg_cells Rx_1
  go_wp2
  go_ret
  exact ⟨rfl, B1⟩
set_option maxRecDepth 100000 in
theorem ro_check_a (f m c1 : Int) (w : World) (K1 : Box (∀ w, Calls Tryz.prog 27 #[.int .u8 f] w fun r w' => r = .returned (.int .i64 c1) ∧ Below w.heap.size w w')) (h1 : (c1 != 0) = true) : Calls Tryz.prog 77 #[.int .u8 f, .int .u8 m] w fun r w' => r = .returned (.int .i64 2) ∧ Below w.heap.size w w' := by
  have B0 : Below w.heap.size w w := (Below.refl _ _)
  go_enter Tryz.func77, Tryz.ntmps77
  go_wp2_with fail
  refine (K1.out _).mono ?_
  rintro r w1 ⟨rfl, b1⟩
  have B1 : Below w.heap.size w w1 := btr B0 b1
  clear b1 B0 
  go_wp2
  go_ret
  exact ⟨rfl, B1⟩
set_option maxRecDepth 100000 in
theorem ro_check_b (f m c1 c2 : Int) (w : World) (K1 : Box (∀ w, Calls Tryz.prog 27 #[.int .u8 f] w fun r w' => r = .returned (.int .i64 c1) ∧ Below w.heap.size w w')) (K2 : Box (∀ w, Calls Tryz.prog 28 #[.int .u8 m] w fun r w' => r = .returned (.int .i64 c2) ∧ Below w.heap.size w w')) (h1 : (c1 != 0) = false) (h2 : (c2 != 0) = true) : Calls Tryz.prog 77 #[.int .u8 f, .int .u8 m] w fun r w' => r = .returned (.int .i64 2) ∧ Below w.heap.size w w' := by
  have B0 : Below w.heap.size w w := (Below.refl _ _)
  go_enter Tryz.func77, Tryz.ntmps77
  go_wp2_with fail
  refine (K1.out _).mono ?_
  rintro r w1 ⟨rfl, b1⟩
  have B1 : Below w.heap.size w w1 := btr B0 b1
  clear b1 B0 
  go_wp2_with fail
  refine (K2.out _).mono ?_
  rintro r w2 ⟨rfl, b2⟩
  have B2 : Below w.heap.size w w2 := btr B1 b2
  clear b2 B1 
  go_wp2
  go_ret
  exact ⟨rfl, B2⟩
set_option maxRecDepth 100000 in
theorem ro_check_c (f m c1 c2 : Int) (w : World) (K1 : Box (∀ w, Calls Tryz.prog 27 #[.int .u8 f] w fun r w' => r = .returned (.int .i64 c1) ∧ Below w.heap.size w w')) (K2 : Box (∀ w, Calls Tryz.prog 28 #[.int .u8 m] w fun r w' => r = .returned (.int .i64 c2) ∧ Below w.heap.size w w')) (h1 : (c1 != 0) = false) (h2 : (c2 != 0) = false) : Calls Tryz.prog 77 #[.int .u8 f, .int .u8 m] w fun r w' => r = .returned (.int .i64 0) ∧ Below w.heap.size w w' := by
  have B0 : Below w.heap.size w w := (Below.refl _ _)
  go_enter Tryz.func77, Tryz.ntmps77
  go_wp2_with fail
  refine (K1.out _).mono ?_
  rintro r w1 ⟨rfl, b1⟩
  have B1 : Below w.heap.size w w1 := btr B0 b1
  clear b1 B0 
  go_wp2_with fail
  refine (K2.out _).mono ?_
  rintro r w2 ⟨rfl, b2⟩
  have B2 : Below w.heap.size w w2 := btr B1 b2
  clear b2 B1 
  go_wp2
  go_ret
  exact ⟨rfl, B2⟩
set_option maxRecDepth 100000 in
set_option maxHeartbeats 2000000 in
theorem ro_may_lo (f : Int) (neg : Bool) (s : Nat) (x : Int) (more : Bool) (w : World) (h : decide (x < -1048576) = true) : Calls Tryz.prog 78 #[.int .u8 f, .agg (rg neg s x more)] w fun r w' => r = .returned (.bool false) ∧ Below w.heap.size w w' := by
  have hat := cw_at 6
  have hz := cw6z
  have hff := cw6f
  have hs0 := st0
  have hcs : ∀ x, ((cw 6 x).size = 6) = True := fun x => eq_true (cw_size 6 x)
  obtain ⟨Rx_0, B0⟩ := opn1 w (Obj.cells (rg neg s x more) 62)
  go_enter Tryz.func78, Tryz.ntmps78
  obtain ⟨cx_0_0, cx_0_1, cx_0_2, cx_0_3, cx_0_4, cx_0_5, cx_0_6, cx_0_7, cx_0_8⟩ := rg_cells Rx_0
  go_wp2
  go_ret
  exact ⟨rfl, B0⟩
set_option maxRecDepth 100000 in
set_option maxHeartbeats 2000000 in
theorem ro_may_hi (f : Int) (neg : Bool) (s : Nat) (x : Int) (more : Bool) (w : World) (h : decide (x < -1048576) = false) (h2 : decide (1048576 < x) = true) : Calls Tryz.prog 78 #[.int .u8 f, .agg (rg neg s x more)] w fun r w' => r = .returned (.bool false) ∧ Below w.heap.size w w' := by
  have hat := cw_at 6
  have hz := cw6z
  have hff := cw6f
  have hs0 := st0
  have hcs : ∀ x, ((cw 6 x).size = 6) = True := fun x => eq_true (cw_size 6 x)
  obtain ⟨Rx_0, B0⟩ := opn1 w (Obj.cells (rg neg s x more) 62)
  go_enter Tryz.func78, Tryz.ntmps78
  obtain ⟨cx_0_0, cx_0_1, cx_0_2, cx_0_3, cx_0_4, cx_0_5, cx_0_6, cx_0_7, cx_0_8⟩ := rg_cells Rx_0
  go_wp2
  go_ret
  exact ⟨rfl, B0⟩
set_option maxRecDepth 100000 in
set_option maxHeartbeats 2000000 in
theorem ro_may_no (f : Int) (neg : Bool) (s : Nat) (x : Int) (w : World) (h : decide (x < -1048576) = false) (h2 : decide (1048576 < x) = false) : Calls Tryz.prog 78 #[.int .u8 f, .agg (rg neg s x false)] w fun r w' => r = .returned (.bool true) ∧ Below w.heap.size w w' := by
  have hat := cw_at 6
  have hz := cw6z
  have hff := cw6f
  have hs0 := st0
  have hcs : ∀ x, ((cw 6 x).size = 6) = True := fun x => eq_true (cw_size 6 x)
  obtain ⟨Rx_0, B0⟩ := opn1 w (Obj.cells (rg neg s x false) 62)
  go_enter Tryz.func78, Tryz.ntmps78
  obtain ⟨cx_0_0, cx_0_1, cx_0_2, cx_0_3, cx_0_4, cx_0_5, cx_0_6, cx_0_7, cx_0_8⟩ := rg_cells Rx_0
  go_wp2
  go_ret
  exact ⟨rfl, B0⟩
set_option maxRecDepth 100000 in
set_option maxHeartbeats 2000000 in
theorem ro_may_more (f : Int) (neg : Bool) (s : Nat) (x : Int) (l P A1 : Int) (o : Bool) (w : World)
    (KL : Box (∀ w, Calls Tryz.prog 86 #[.agg (cw 6 s)] w fun r w' => r = .returned (.int .i64 l) ∧ Below w.heap.size w w'))
    (KP : Box (∀ w, FAt w → Calls Tryz.prog 121 #[.int .u8 f] w fun r w' => r = .returned (.int .i64 P) ∧ Below w.heap.size w w'))
    (h : decide (x < -1048576) = false) (h2 : decide (1048576 < x) = false) (h3 : IntKind.i64.wrap (P + 2) = A1) (ho : decide (A1 ≤ l) = o) (hT : FAt w) : Calls Tryz.prog 78 #[.int .u8 f, .agg (rg neg s x true)] w fun r w' => r = .returned (.bool o) ∧ Below w.heap.size w w' := by
  have FF := box hT
  clear hT
  have hat := cw_at 6
  have hz := cw6z
  have hff := cw6f
  have hs0 := st0
  have hcs : ∀ x, ((cw 6 x).size = 6) = True := fun x => eq_true (cw_size 6 x)
  obtain ⟨Rx_0, B0⟩ := opn1 w (Obj.cells (rg neg s x true) 62)
  go_enter Tryz.func78, Tryz.ntmps78
  obtain ⟨cx_0_0, cx_0_1, cx_0_2, cx_0_3, cx_0_4, cx_0_5, cx_0_6, cx_0_7, cx_0_8⟩ := rg_cells Rx_0
  go_wp2_with fail
  refine (KL.out _).mono ?_
  rintro r w1 ⟨rfl, b1⟩
  have B1 : Below w.heap.size w w1 := btr B0 b1
  have Rx_1 := heap_of b1 _ _ _ Rx_0
  clear b1 B0 Rx_0 cx_0_0 cx_0_1 cx_0_2 cx_0_3 cx_0_4 cx_0_5 cx_0_6 cx_0_7 cx_0_8
  obtain ⟨cx_1_0, cx_1_1, cx_1_2, cx_1_3, cx_1_4, cx_1_5, cx_1_6, cx_1_7, cx_1_8⟩ := rg_cells Rx_1
  go_wp2_with fail
  refine (KP.out _ (fatB FF.out B1)).mono ?_
  rintro r w2 ⟨rfl, b2⟩
  have B2 : Below w.heap.size w w2 := btr B1 b2
  have Rx_2 := heap_of b2 _ _ _ Rx_1
  clear b2 B1 Rx_1 cx_1_0 cx_1_1 cx_1_2 cx_1_3 cx_1_4 cx_1_5 cx_1_6 cx_1_7 cx_1_8
  obtain ⟨cx_2_0, cx_2_1, cx_2_2, cx_2_3, cx_2_4, cx_2_5, cx_2_6, cx_2_7, cx_2_8⟩ := rg_cells Rx_2
  go_wp2
  go_ret
  exact ⟨rfl, B2⟩
def uP (m : Int) (neg odd : Bool) (h : Int) (ex : Bool) : Bool := if ex then false else if m = 2 then neg else if m = 3 then !neg else if m = 0 then (decide (0 < h) || (decide (h = 0) && odd)) else if m = 4 then decide (0 ≤ h) else false
theorem uP_gO (m : Int) (neg odd half more : Bool) : uP m neg odd (hfV half more) (!(half || more)) = gO m neg odd half more := by
  unfold uP gO hfV
  by_cases c0 : m = 0
  · subst c0; cases half <;> cases more <;> cases odd <;> rfl
  by_cases c2 : m = 2
  · subst c2; cases half <;> cases more <;> cases neg <;> rfl
  by_cases c3 : m = 3
  · subst c3; cases half <;> cases more <;> cases neg <;> rfl
  by_cases c4 : m = 4
  · subst c4; cases half <;> cases more <;> rfl
  rw [if_neg c2, if_neg c3, if_neg c0, if_neg c4, if_neg c0, if_neg c4, if_neg c2, if_neg c3]
  split <;> rfl
set_option maxRecDepth 100000 in
set_option maxHeartbeats 2000000 in
theorem ro_up (m : Int) (neg odd : Bool) (h : Int) (ex o : Bool) (ho : uP m neg odd h ex = o) (w : World) : Calls Tryz.prog 133 #[.int .u8 m, .bool neg, .bool odd, .int .i64 h, .bool ex] w fun r w' => r = .returned (.bool o) ∧ Below w.heap.size w w' := by
  subst ho
  cases ex
  case true =>
    have B0 : Below w.heap.size w w := (Below.refl _ _)
    go_enter Tryz.func133, Tryz.ntmps133
    go_wp2
    go_ret
    exact ⟨rfl, B0⟩
  unfold uP
  rw [if_neg (by decide)]
  by_cases c2 : m = 2
  · subst c2
    rw [if_pos rfl]
    cases neg
    all_goals
      go_enter Tryz.func133, Tryz.ntmps133
      go_wp2
      go_ret
      exact ⟨rfl, Below.refl _ _⟩
  rw [if_neg c2]
  by_cases c3 : m = 3
  · subst c3
    rw [if_pos rfl]
    cases neg
    all_goals
      go_enter Tryz.func133, Tryz.ntmps133
      go_wp2
      go_ret
      exact ⟨rfl, Below.refl _ _⟩
  rw [if_neg c3]
  have e2 : (m == 2) = false := by simpa using c2
  have e3 : (m == 3) = false := by simpa using c3
  by_cases c0 : m = 0
  · subst c0
    rw [if_pos rfl]
    by_cases p : 0 < h
    · rw [decide_eq_true p, Bool.true_or]
      have d1 : decide (0 < h) = true := decide_eq_true p
      go_enter Tryz.func133, Tryz.ntmps133
      go_wp2
      go_ret
      exact ⟨rfl, Below.refl _ _⟩
    · rw [decide_eq_false p, Bool.false_or]
      have d1 : decide (0 < h) = false := decide_eq_false p
      by_cases z : h = 0
      · subst z
        rw [decide_eq_true rfl, Bool.true_and]
        cases odd
        all_goals
          go_enter Tryz.func133, Tryz.ntmps133
          go_wp2
          go_ret
          exact ⟨rfl, Below.refl _ _⟩
      · rw [decide_eq_false z, Bool.false_and]
        have d2 : (h == 0) = false := by simpa using z
        go_enter Tryz.func133, Tryz.ntmps133
        go_wp2
        go_ret
        exact ⟨rfl, Below.refl _ _⟩
  rw [if_neg c0]
  have e0 : (m == 0) = false := by simpa using c0
  by_cases c4 : m = 4
  · subst c4
    rw [if_pos rfl]
    by_cases p : 0 < h
    · rw [decide_eq_true (show 0 ≤ h by omega)]
      have d1 : decide (0 < h) = true := decide_eq_true p
      go_enter Tryz.func133, Tryz.ntmps133
      go_wp2
      go_ret
      exact ⟨rfl, Below.refl _ _⟩
    · have d1 : decide (0 < h) = false := decide_eq_false p
      by_cases z : h = 0
      · subst z
        rw [decide_eq_true (by decide)]
        cases odd
        all_goals
          go_enter Tryz.func133, Tryz.ntmps133
          go_wp2
          go_ret
          exact ⟨rfl, Below.refl _ _⟩
      · rw [decide_eq_false (show ¬ 0 ≤ h by omega)]
        have d2 : (h == 0) = false := by simpa using z
        go_enter Tryz.func133, Tryz.ntmps133
        go_wp2
        go_ret
        exact ⟨rfl, Below.refl _ _⟩
  rw [if_neg c4]
  have e4 : (m == 4) = false := by simpa using c4
  go_enter Tryz.func133, Tryz.ntmps133
  go_wp2
  go_ret
  exact ⟨rfl, Below.refl _ _⟩
end Go.Proofs.YtapikkbifdldfaaGreatDoor
