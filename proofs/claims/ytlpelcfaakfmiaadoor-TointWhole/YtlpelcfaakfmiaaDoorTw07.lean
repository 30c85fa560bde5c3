/-
  What the functions that the statement reaches return: part 7 (KD, V1, V2, V9, R1, R5, R30, R12, R32, R34, R35, O1, M0, A3, A5).
-/
import Derived.Deep.RegionHeld3
import Derived.Lib.MinMax
import Derived.Test.YtlpelcfaakfmiaaDoorTw06
namespace Go.Proofs.YtlpelcfaakfmiaaDoor
set_option maxRecDepth 100000
set_option maxHeartbeats 40000000
set_option maxRecDepth 100000
open Go.RowKit WMath
set_option linter.unusedSimpArgs false
set_option linter.unusedVariables false
theorem or_bit_lo (t k : Nat) (h : t < 2 ^ k) : 2 ^ k ||| t = 2 ^ k + t := by
  have e := Nat.two_pow_add_eq_or_of_lt h 1
  rw [Nat.mul_one] at e
  exact e.symm
theorem cnt_k8 {i : Nat} (h : i < 384) : cnt6 (i : Int) = i := by unfold cnt6; omega
theorem kparts_is (f : Int) (hf : Is4 f) (x y n : Nat) (hx : x < 18446744073709551616) (hy : y < 18446744073709551616) (hn : y + 18446744073709551616 * x = n) (w : World) (hT : FAt w) :
    Calls Tryd.prog 28 #[.int .u8 f, .agg #[.int .u64 (x : Nat), .int .u64 (y : Nat)]] w fun r w' => r = .returned (.agg (pt (kC f n) (kS f n) (kX f n) (kF f n))) ∧ Below w.heap.size w w' := by
  have f4 := is4_ok hf
  obtain ⟨u, v, huv⟩ : ∃ u v, bv7 (kT f n) = (u, v) := ⟨_, _, rfl⟩
  obtain ⟨g1, g2, g3, g4, g5, g6, g7⟩ := fm hf
  have tl := kT_lt (f := f) n
  have el := kE_le (f := f) n
  have tn : kT f n < 340282366920938463463374607431768211456 := by rw [g1, Nat.add_mul] at g7; omega
  have pn : 2 ^ pV f + kT f n < 340282366920938463463374607431768211456 := by rw [g1, Nat.add_mul] at g7; have := Nat.mul_le_mul_right (2 ^ pV f) g5; omega
  obtain ⟨u1, v1, t1⟩ := bv_lt tn huv
  obtain ⟨p1, p2, p3, p4, _⟩ := pV_lim hf
  obtain ⟨l1, l2, l3, l4, l5⟩ := lx_lim hf
  have KC : Box (∀ w, FAt w → Calls Tryd.prog 41 #[.int .u8 f, .agg #[.int .u64 (x : Nat), .int .u64 (y : Nat)]] w fun r w' => r = .returned (.int .u8 ((kC f n : Nat) : Int)) ∧ Below w.heap.size w w') := box (fun w hT => kclass_is f hf x y n _ hx hy hn rfl w hT)
  have KF : Box (∀ w, FAt w → Calls Tryd.prog 58 #[.int .u8 f, .agg #[.int .u64 (x : Nat), .int .u64 (y : Nat)]] w fun r w' => r = .returned (.agg #[.int .u64 (u : Nat), .int .u64 (v : Nat)]) ∧ Below w.heap.size w w') := box (fun w hT => kfraction_is f hf x y n u v hx hy hn huv w hT)
  have KO : Box (∀ w, Calls Tryd.prog 57 #[.agg #[.int .u64 (u : Nat), .int .u64 (v : Nat)]] w fun r w' => r = .returned (.agg (cw 6 (kT f n))) ∧ Below w.heap.size w w') := box (fun w => wofbits_is u v _ u1 v1 t1 w)
  have KL : Box (∀ w, FAt w → Calls Tryd.prog 59 #[.int .u8 f] w fun r w' => r = .returned (.int .i64 (lx f)) ∧ Below w.heap.size w w') := box (fun w hT => kleast_is f hf _ rfl w hT)
  have cl := kC_lt f n
  by_cases c1 : kC f n = 8 ∨ kC f n = 9
  · have e1 : kS f n = 0 ∧ kX f n = 0 ∧ kF f n = kT f n := by
      unfold kS kX kF
      rw [if_neg (by omega), if_neg (by omega), if_neg (by omega), if_neg (by omega), if_pos c1]
      exact ⟨rfl, rfl, rfl⟩
    rw [e1.1, e1.2.1, e1.2.2]
    exact kparts_nan f x y _ u v _ w KC KF KO c1 hT
  by_cases c2 : kC f n = 2 ∨ kC f n = 5
  · have e1 : kS f n = kT f n ∧ kX f n = lx f ∧ kF f n = 0 := by
      unfold kS kX kF
      rw [if_pos c2, if_pos c2, if_neg c1]
      exact ⟨rfl, rfl, rfl⟩
    rw [e1.1, e1.2.1, e1.2.2]
    exact kparts_sub f x y _ u v _ _ w KC KF KO KL c2 hT
  by_cases c3 : kC f n = 1 ∨ kC f n = 6
  · have e1 : kS f n = 2 ^ pV f + kT f n ∧ kX f n = lx f + (kE f n : Int) - 1 ∧ kF f n = 0 := by
      unfold kS kX kF
      rw [if_neg c2, if_neg c2, if_neg c1, if_pos c3, if_pos c3]
      exact ⟨rfl, rfl, rfl⟩
    rw [e1.1, e1.2.1, e1.2.2]
    have pl : 2 ^ pV f < Q := lt_Q7 (by omega)
    exact kparts_norm f x y _ u v _ (lx f) (fP f) _ (pV f) (2 ^ pV f) _ (kE f n) w KC KF KO KL
      (box (fun w => wof_al 1 (by decide) w)) (box (fun w hT => kb_precision f _ f4.1 f4.2.1 rfl w hT))
      (box (fun w => wleft_is 1 (2 ^ pV f) _ false (lt_Q7 (by omega)) (by rw [cnt_k8 (by omega), Nat.one_mul, Nat.mod_eq_of_lt pl]) (by rw [cnt_k8 (by omega), Nat.one_mul]; simp; omega) w))
      (box (fun w => wor_is (2 ^ pV f) (kT f n) _ pl (lt_Q7 (by omega)) (or_bit_lo _ _ tl) w))
      (box (fun w hT => kfield_is f hf x y n _ hx hy hn rfl w hT)) p2 (by rw [IntKind.wrap_i64]; omega) (by rw [IntKind.wrap_i64]; omega) (by rw [IntKind.wrap_i64]; omega) c3 hT
  · have e1 : kS f n = 0 ∧ kX f n = 0 ∧ kF f n = 0 := by
      unfold kS kX kF
      rw [if_neg c2, if_neg c2, if_neg c1, if_neg c3, if_neg c3]
      exact ⟨rfl, rfl, rfl⟩
    rw [e1.1, e1.2.1, e1.2.2]
    exact kparts_none f x y _ u v _ w KC KF KO (by omega) hT
theorem kUnpack_yes (f : Int) (hf : Is4 f) (x y n c s rr : Nat) (X : Int) (hx : x < 18446744073709551616) (hy : y < 18446744073709551616) (hn : y + 18446744073709551616 * x = n) (ho : okB f n = true) (hp : kp f n = (c, s, X, rr)) (w : World) (hT : FAt w) :
    Calls Tryd.prog 15 #[.int .u8 f, .agg #[.int .u64 (x : Nat), .int .u64 (y : Nat)]] w fun r w' => r = .returned (.tuple #[.agg (pt c s X rr), .int .i64 0]) ∧ Below w.heap.size w w' := by
  have f4 := is4_ok hf
  have K1 := box (sk_fits f x y n true f4.1 f4.2.1 hx hy hn ho)
  have K2 := box (kparts_is f hf x y n hx hy hn)
  unfold kp at hp
  injection hp with h1 h2
  injection h2 with h2 h3
  injection h3 with h3 h4
  rw [h1, h2, h3, h4] at K2
  have hat := cw_at 6
  have hz := cw6z
  have hff := cw6f
  have hs0 := st0
  have hcs : ∀ x, ((cw 6 x).size = 6) = True := fun x => eq_true (cw_size 6 x)
  have hp1 := ptf
  have hp3 := ptz
  have hp5 : ∀ (c s : Nat) (x : Int) (r : Nat), ((pt c s x r).size = 14) = True := fun _ _ _ _ => eq_true rfl
  have TT := box hT
  clear hT hf hx hy hn ho h1 h2 h3 h4
  obtain ⟨Rb_0, Rz_0, B0⟩ := kopn2 w (Obj.cells #[.int .u64 (x : Nat), .int .u64 (y : Nat)] 26) (Obj.cells (pt 0 0 0 0) 48)
  go_enter Tryd.func15, Tryd.ntmps15
  go_wp2_with fail
  refine (K1.out _ (fatB TT.out B0)).mono ?_
  rintro r w1 ⟨rfl, b1⟩
  have B1 : Below w.heap.size w w1 := btr7 B0 b1
  have Rb_1 := heap_of b1 _ _ _ Rb_0
  have Rz_1 := heap_of b1 _ _ _ Rz_0
  clear b1 B0 Rb_0 Rz_0
  obtain ⟨cb_1_0, cb_1_1⟩ := cell7t Rb_1
  obtain ⟨cz_1_0, cz_1_1, cz_1_2, cz_1_3, cz_1_4, cz_1_5, cz_1_6, cz_1_7, cz_1_8, cz_1_9, cz_1_10, cz_1_11, cz_1_12, cz_1_13⟩ := pt_cells Rz_1
  go_wp2_with fail
  refine (K2.out _ (fatB TT.out B1)).mono ?_
  rintro r w2 ⟨rfl, b2⟩
  have B2 : Below w.heap.size w w2 := btr7 B1 b2
  have Rb_2 := heap_of b2 _ _ _ Rb_1
  have Rz_2 := heap_of b2 _ _ _ Rz_1
  clear b2 B1 Rb_1 cb_1_0 cb_1_1 Rz_1 cz_1_0 cz_1_1 cz_1_2 cz_1_3 cz_1_4 cz_1_5 cz_1_6 cz_1_7 cz_1_8 cz_1_9 cz_1_10 cz_1_11 cz_1_12 cz_1_13
  obtain ⟨cb_2_0, cb_2_1⟩ := cell7t Rb_2
  obtain ⟨cz_2_0, cz_2_1, cz_2_2, cz_2_3, cz_2_4, cz_2_5, cz_2_6, cz_2_7, cz_2_8, cz_2_9, cz_2_10, cz_2_11, cz_2_12, cz_2_13⟩ := pt_cells Rz_2
  have hstz := st_p w2 (w.heap.size + 1) c s X rr 0 0 0 0 Rz_2
  have RZ := setRow_row (c' := pt c s X rr) Rz_2
  obtain ⟨dz0, dz1, dz2, dz3, dz4, dz5, dz6, dz7, dz8, dz9, dz10, dz11, dz12, dz13⟩ := pt_cells RZ
  have bz := bel_set (c := pt c s X rr) B2 (show w.heap.size ≤ w.heap.size + 1 by first | exact Nat.le_refl _ | omega | (skip; omega))
  go_wp2
  exact bodyPost_ret (v := .tuple #[.agg (pt c s X rr), .int .i64 0]) (by simp [results, Tryd.results15, go_sem, dz0, dz1, dz2, dz3, dz4, dz5, dz6, dz7, dz8, dz9, dz10, dz11, dz12, dz13, ptf] <;> rfl) rfl ⟨rfl, bz⟩
end Go.Proofs.YtlpelcfaakfmiaaDoor
namespace Go.Proofs.YtlpelcfaakfmiaaDoor
set_option maxRecDepth 100000
set_option maxHeartbeats 40000000
set_option maxRecDepth 100000
open Go.RowKit WMath XMath
set_option linter.unusedSimpArgs false
set_option linter.unusedVariables false
theorem blen_low (n : Nat) (h : n ≠ 0) : 1 ≤ blen n ∧ 2 ^ (blen n - 1) ≤ n ∧ n < 2 ^ blen n := by
  have h1 := blen_iff n (blen n - 1)
  have h2 := (blen_iff n (blen n)).1 (Nat.le_refl _)
  have h3 := blen_iff n 0
  have h4 : 1 ≤ blen n := by
    rcases Nat.eq_zero_or_pos (blen n) with e | e
    · have := h3.1 (by omega)
      rw [Nat.pow_zero] at this
      omega
    · exact e
  exact ⟨h4, by omega, h2⟩
theorem blen_one : blen 1 = 1 := by decide
theorem top_whole (b : Bool) (n : Nat) (e : Int) (h : n ≠ 0) : topX ⟨b, n, 1, e⟩ = (blen n : Int) - 1 + e := by
  obtain ⟨h1, h2, h3⟩ := blen_low n h
  unfold topX tA tB lenD
  simp only [blen_one]
  have e1 : (max (-((blen n : Int) - ((1 : Nat) : Int))) 0).toNat = 0 := by omega
  have e2 : (max ((blen n : Int) - ((1 : Nat) : Int)) 0).toNat = blen n - 1 := by omega
  rw [e1, e2, Nat.pow_zero, Nat.mul_one, Nat.one_mul, if_neg (by omega)]
  omega
def ofA (f : Int) (x : XN) : Int := max (topX x) (1 - fE f) - (pV f : Int)
def ofX (f : Int) (x : XN) : Nat × Bool :=
  if x.n = 0 then (0, true)
  else if fE f < topX x then (0, false)
  else if (flX x (ofA f x)).1.2 = true then (sgB f (fb f (flX x (ofA f x)).1.1 (ofA f x)) x.b, true) else (0, false)
theorem fl_yes (x : XN) (a : Int) (n0 : x.n ≠ 0) (hd : x.d = 1) (h : a ≤ x.e) (h1 : -2097152 ≤ a) (h2 : a ≤ 2097152) (hl : nl (x.n * 2 ^ (x.e - a).toNat) ≤ 16384) : flX x a = ((x.n * 2 ^ (x.e - a).toNat, true), 0) := by
  unfold flX
  rw [if_neg (by omega), if_neg n0, if_pos h, if_pos hl, hd, Nat.div_one, Nat.mod_one]
  rfl
theorem nm8 {f : Int} (hf : Is4 f) : fE f - (pV f : Int) - lx f + 1 = ((oV f - 1 : Nat) : Int) ∧ 1 ≤ oV f ∧ lx f = 1 - fE f - (pV f : Int) ∧ pV f < 128 ∧ fE f ≤ 16383 ∧ 0 ≤ fE f := by
  rcases hf with rfl | rfl | rfl | rfl <;> decide +kernel
theorem of_yes {f : Int} (hf : Is4 f) (b : Bool) (n : Nat) (e : Int) (n0 : n ≠ 0) (ht : topX ⟨b, n, 1, e⟩ ≤ fE f) (ha : ofA f ⟨b, n, 1, e⟩ ≤ e) :
    ∃ m k t, m = n * 2 ^ (e - ofA f ⟨b, n, 1, e⟩).toNat ∧ k < oV f ∧ t < 2 ^ pV f ∧ ofX f ⟨b, n, 1, e⟩ = (enc7 f b k t, true) ∧ ((k = 0 ∧ m = t ∧ ofA f ⟨b, n, 1, e⟩ = lx f) ∨ (1 ≤ k ∧ m = 2 ^ pV f + t ∧ ofA f ⟨b, n, 1, e⟩ = lx f + (k : Int) - 1)) := by
  obtain ⟨g1, g2, g3, g4, g5, g6, g7⟩ := fm hf
  obtain ⟨n1, n2, n3, n4, n5, n6⟩ := nm8 hf
  obtain ⟨l1, l2, l3⟩ := blen_low n n0
  have tw := top_whole b n e n0
  obtain ⟨a, hA⟩ : ∃ a, ofA f ⟨b, n, 1, e⟩ = a := ⟨_, rfl⟩
  have hA2 := hA
  unfold ofA at hA2
  rw [hA] at ha ⊢
  rw [tw] at ht hA2
  obtain ⟨j, hj⟩ : ∃ j : Nat, (e - a).toNat = j := ⟨_, rfl⟩
  have hje : e = a + (j : Int) := by omega
  obtain ⟨m, hm⟩ : ∃ m, n * 2 ^ j = m := ⟨_, rfl⟩
  have m1 : 2 ^ (blen n - 1 + j) ≤ m := by rw [← hm, Nat.pow_add]; exact Nat.mul_le_mul_right _ l2
  have m2 : m < 2 ^ (blen n + j) := by rw [← hm, Nat.pow_add]; exact Nat.mul_lt_mul_of_pos_right l3 (Nat.two_pow_pos _)
  have lj : blen n + j ≤ pV f + 1 := by omega
  have m3 : m < 2 * 2 ^ pV f := by
    have := Nat.pow_le_pow_right (show 0 < 2 by decide) lj
    rw [Nat.pow_succ] at this
    omega
  have hl : nl m ≤ 16384 := nl_pow m (pV f + 1) (by rw [Nat.pow_succ]; omega) (by omega)
  obtain ⟨k, hk⟩ : ∃ k : Nat, a = lx f + (k : Int) := ⟨(a - lx f).toNat, by omega⟩
  have hk2 : k + 2 ≤ oV f := by omega
  have hb0 : (k + 2) * 2 ^ pV f ≤ oV f * 2 ^ pV f := Nat.mul_le_mul_right _ hk2
  have hb1 : k * 2 ^ pV f + m < 2 ^ wV f := by
    rw [g1, Nat.add_mul, Nat.one_mul]
    rw [Nat.add_mul] at hb0
    omega
  have hfb : fb f m a = k * 2 ^ pV f + m := by rw [hk]; exact fb_is hf k m (by omega) hb1
  have hof : ofX f ⟨b, n, 1, e⟩ = (sgB f (k * 2 ^ pV f + m) b, true) := by
    unfold ofX
    rw [hA, fl_yes ⟨b, n, 1, e⟩ a n0 rfl ha (by omega) (by omega) (by show nl (n * 2 ^ (e - a).toNat) ≤ 16384; rw [hj, hm]; exact hl)]
    simp only []
    rw [if_neg n0, if_neg (by rw [tw]; omega), if_pos trivial, hj, hm, hfb]
  rw [hj, hm]
  by_cases hs : m < 2 ^ pV f
  · have hk0 : k = 0 := by
      have : blen n - 1 + j < pV f := by
        rcases Nat.lt_or_ge (blen n - 1 + j) (pV f) with q | q
        · exact q
        · have := Nat.pow_le_pow_right (show 0 < 2 by decide) q
          omega
      omega
    subst hk0
    refine ⟨m, 0, m, rfl, by omega, hs, ?_, Or.inl ⟨rfl, rfl, by omega⟩⟩
    rw [hof, sgB_low hb1]
    unfold enc7
    rfl
  · have e1 : k * 2 ^ pV f + m = (k + 1) * 2 ^ pV f + (m - 2 ^ pV f) := by rw [Nat.add_mul]; omega
    refine ⟨m, k + 1, m - 2 ^ pV f, rfl, by omega, by omega, ?_, Or.inr ⟨by omega, by omega, by omega⟩⟩
    rw [hof, sgB_low hb1, e1]
    unfold enc7
    rfl
theorem blen_is (n k : Nat) (h1 : 2 ^ k ≤ n) (h2 : n < 2 ^ (k + 1)) : blen n = k + 1 := by
  have a := (blen_iff n (k + 1)).2 h2
  have b := blen_iff n k
  omega
theorem blen_shift (n k : Nat) (h : n ≠ 0) : blen (n * 2 ^ k) = blen n + k := by
  obtain ⟨l1, l2, l3⟩ := blen_low n h
  have := blen_is (n * 2 ^ k) (blen n - 1 + k) (by rw [Nat.pow_add]; exact Nat.mul_le_mul_right _ l2) (by
    rw [show blen n - 1 + k + 1 = blen n + k by omega, Nat.pow_add]
    exact Nat.mul_lt_mul_of_pos_right l3 (Nat.two_pow_pos _))
  omega
theorem mk_whole (neg : Bool) (s : Nat) (x : Int) (s0 : s ≠ 0) (h1 : -1048576 ≤ x) (h2 : x + (tz s : Int) ≤ 1048576) : mk neg s 1 x = (⟨neg, od s, 1, x + (tz s : Int)⟩, 0) := by
  have o1 : od 1 = 1 := od_odd 1 rfl
  have t1 : tz 1 = 0 := tz_odd 1 rfl
  unfold mk
  rw [if_neg s0, o1, t1, Nat.gcd_one_right, Nat.div_one, Nat.div_one]
  rw [if_pos (by omega)]
  congr 2
  omega
def sV (f : Int) (e t : Nat) : Nat := if e = 0 then t else 2 ^ pV f + t
def xV (f : Int) (e : Nat) : Int := if e = 0 then lx f else lx f + (e : Int) - 1
theorem val_of {f : Int} (hf : Is4 f) (neg : Bool) (e t : Nat) (he : e < oV f) (ht : t < 2 ^ pV f) (nz : sV f e t ≠ 0) :
    mk neg (sV f e t) 1 (xV f e) = (⟨neg, od (sV f e t), 1, xV f e + (tz (sV f e t) : Int)⟩, 0) ∧ ofX f ⟨neg, od (sV f e t), 1, xV f e + (tz (sV f e t) : Int)⟩ = (enc7 f neg e t, true) ∧ ofA f ⟨neg, od (sV f e t), 1, xV f e + (tz (sV f e t) : Int)⟩ = xV f e := by
  obtain ⟨n1, n2, n3, n4, n5, n6⟩ := nm8 hf
  have oe : (oV f : Int) = 2 * fE f + 1 := by unfold oV; omega
  obtain ⟨s, hs⟩ : ∃ s, sV f e t = s := ⟨_, rfl⟩
  obtain ⟨x, hx⟩ : ∃ x, xV f e = x := ⟨_, rfl⟩
  rw [hs] at nz
  rw [hs, hx]
  obtain ⟨o1, o2⟩ := od_is s nz
  have od0 : od s ≠ 0 := by omega
  have bs : blen s = blen (od s) + tz s := by
    have := blen_shift (od s) (tz s) od0
    rw [← o1] at this
    exact this
  have tw := top_whole neg (od s) (x + (tz s : Int)) od0
  have tz1 := tz_blen s
  unfold sV at hs
  unfold xV at hx
  have sl : s < 2 * 2 ^ pV f := by split at hs <;> omega
  have bl : blen s ≤ pV f + 1 := (blen_iff s _).2 (by rw [Nat.pow_succ]; omega)
  have A : ofA f ⟨neg, od s, 1, x + (tz s : Int)⟩ = x ∧ topX ⟨neg, od s, 1, x + (tz s : Int)⟩ ≤ fE f := by
    unfold ofA
    rw [tw]
    by_cases e0 : e = 0
    · rw [if_pos e0] at hs hx
      have : blen s ≤ pV f := (blen_iff s _).2 (by omega)
      omega
    · rw [if_neg e0] at hs hx
      have : blen s = pV f + 1 := blen_is s (pV f) (by omega) (by rw [Nat.pow_succ]; omega)
      omega
  have xl : -20000 ≤ x ∧ x ≤ 20000 := by split at hx <;> omega
  refine ⟨mk_whole neg s x nz (by omega) (by omega), ?_, A.1⟩
  obtain ⟨m, k, t', h1, h2, h3, h4, h5⟩ := of_yes hf neg (od s) (x + (tz s : Int)) od0 A.2 (by rw [A.1]; omega)
  rw [A.1, show (x + (tz s : Int) - x).toNat = tz s by omega, ← o1] at h1
  rw [A.1] at h5
  rw [h4]
  by_cases e0 : e = 0
  · rw [if_pos e0] at hs hx
    rcases h5 with ⟨q1, q2, q3⟩ | ⟨q1, q2, q3⟩
    · rw [q1, e0, show t' = t by omega]
    · omega
  · rw [if_neg e0] at hs hx
    rcases h5 with ⟨q1, q2, q3⟩ | ⟨q1, q2, q3⟩
    · omega
    · rw [show k = e by omega, show t' = t by omega]
def vX (f : Int) (n : Nat) : XN := (mk (kN f n) (kS f n) 1 (kX f n)).1
theorem kS_lim {f : Int} (hf : Is4 f) (n : Nat) : kS f n < 340282366920938463463374607431768211456 ∧ -20000 ≤ kX f n ∧ kX f n ≤ 20000 := by
  obtain ⟨g1, g2, g3, g4, g5, g6, g7⟩ := fm hf
  obtain ⟨l1, l2, l3, l4, l5⟩ := lx_lim hf
  obtain ⟨n1, n2, n3, n4, n5, n6⟩ := nm8 hf
  have tl := kT_lt (f := f) n
  have el := kE_le (f := f) n
  have oe : (oV f : Int) = 2 * fE f + 1 := by unfold oV; omega
  have pn : 2 ^ pV f + kT f n < 340282366920938463463374607431768211456 := by rw [g1, Nat.add_mul] at g7; have := Nat.mul_le_mul_right (2 ^ pV f) g5; omega
  refine ⟨?_, ?_, ?_⟩
  · unfold kS; split <;> (try split) <;> omega
  · unfold kX; split <;> (try split) <;> omega
  · unfold kX; split <;> (try split) <;> omega
theorem k_parts {f : Int} (n : Nat) (h : kC f n = 1 ∨ kC f n = 2 ∨ kC f n = 5 ∨ kC f n = 6) : kE f n < oV f ∧ kS f n = sV f (kE f n) (kT f n) ∧ kX f n = xV f (kE f n) ∧ kS f n ≠ 0 := by
  have el := kE_le (f := f) n
  have p := Nat.two_pow_pos (pV f)
  have h2 := h
  unfold kC at h2
  by_cases c1 : kE f n = oV f
  · rw [if_pos c1] at h2
    exfalso
    (repeat' split at h2) <;> omega
  · rw [if_neg c1] at h2
    unfold kS kX sV xV
    by_cases c2 : kE f n = 0
    · rw [if_neg (by omega)] at h2
      by_cases c3 : kT f n = 0
      · rw [if_neg (by omega)] at h2
        exfalso
        split at h2 <;> omega
      · rw [if_pos c3] at h2
        have hc : kC f n = 2 ∨ kC f n = 5 := by
          unfold kC
          rw [if_neg c1, if_neg (by omega), if_pos c3]
          cases kN f n <;> simp
        rw [if_pos hc, if_pos hc, if_pos c2, if_pos c2]
        exact ⟨by omega, rfl, rfl, c3⟩
    · have hc : kC f n = 1 ∨ kC f n = 6 := by
        unfold kC
        rw [if_neg c1, if_pos c2]
        cases kN f n <;> simp
      have hn : ¬ (kC f n = 2 ∨ kC f n = 5) := by omega
      rw [if_neg hn, if_neg hn, if_pos hc, if_pos hc, if_neg c2, if_neg c2]
      exact ⟨by omega, rfl, rfl, by omega⟩
theorem k_null {f : Int} (n : Nat) (h : kC f n = 3 ∨ kC f n = 4) : kS f n = 0 ∧ kX f n = 0 := by
  unfold kS kX
  rw [if_neg (by omega), if_neg (by omega), if_neg (by omega), if_neg (by omega)]
  exact ⟨rfl, rfl⟩
theorem vX_mk {f : Int} (hf : Is4 f) (n : Nat) (h : 0 < kC f n ∧ kC f n < 7) : mk (kN f n) (kS f n) 1 (kX f n) = (vX f n, 0) := by
  unfold vX
  by_cases c : kC f n = 3 ∨ kC f n = 4
  · rw [(k_null n c).1, mk_null]
  · obtain ⟨a, b, d, e⟩ := k_parts (f := f) n (by omega)
    have := (val_of hf (kN f n) (kE f n) (kT f n) a (kT_lt n) (by rw [← b]; exact e)).1
    rw [b, d, this]
theorem bel_same {P : Program} {k : FuncId} {a : Array Value} {w : World} {v : Value} (h : Calls P k a w fun r w' => r = .returned v ∧ w' = w) : Calls P k a w fun r w' => r = .returned v ∧ Below w.heap.size w w' :=
  h.mono fun _ _ h => ⟨h.1, by rw [h.2]; exact Below.refl _ _⟩
theorem fC_yes {f : Int} (hf : Is4 f) : fC f = 0 := (is4_ok hf).2.2.1
theorem fC_no {f : Int} (h0 : 0 ≤ f) (hf : ¬ Is4 f) : fC f = 2 := by
  unfold Is4 at hf
  unfold fC
  rw [if_neg (by omega)]
theorem fp8 {f : Int} (hf : Is4 f) : fP f = (pV f : Int) + 1 := by rcases hf with rfl | rfl | rfl | rfl <;> decide
theorem nl_1 : nl 1 ≤ 16384 := Nat.le_trans (nl_le_of 1 1 (by decide)) (by decide)
def hfV (half more : Bool) : Int := if half then (if more then 1 else 0) else -1
def xW (f : Int) (x : XN) : Nat := (flX x (topX x - fP f)).1.1
def xM (f : Int) (x : XN) : Bool := !(flX x (topX x - fP f)).1.2
def qW (P n : Nat) : Nat := if P + 1 ≤ blen n then n / 2 ^ (blen n - (P + 1)) else n * 2 ^ (P + 1 - blen n)
def qM (P n : Nat) (more : Bool) : Bool := if P + 1 ≤ blen n then decide (n % 2 ^ (blen n - (P + 1)) ≠ 0) || more else more
theorem blen_more (s n q : Nat) (s0 : s ≠ 0) (hq : q < 2 ^ n) : blen (s * 2 ^ n + q) = blen s + n := by
  have h := blen_push q n s hq s0
  rw [Nat.add_comm q, Nat.mul_comm (2 ^ n) s] at h
  omega
theorem div_more (s n q : Nat) (hq : q < 2 ^ n) : (s * 2 ^ n + q) / 2 ^ n = s := by
  rw [Nat.add_comm, Nat.add_mul_div_right _ _ (Nat.two_pow_pos n), Nat.div_eq_of_lt hq, Nat.zero_add]
theorem mod_more (s n q : Nat) (hq : q < 2 ^ n) : (s * 2 ^ n + q) % 2 ^ n = q := by
  rw [Nat.add_comm, Nat.add_mul_mod_self_right, Nat.mod_eq_of_lt hq]
theorem qdec_or {a b c : Prop} [Decidable a] [Decidable b] [Decidable c] (h : a ↔ (b ∨ c)) : decide a = (decide b || decide c) := by
  rw [Bool.eq_iff_iff, Bool.or_eq_true, decide_eq_true_iff, decide_eq_true_iff, decide_eq_true_iff]
  exact h
theorem q_more (P s n q : Nat) (s0 : s ≠ 0) (hq : q < 2 ^ n) (h : q ≠ 0 → P + 1 ≤ blen s) : qW P (s * 2 ^ n + q) = qW P s ∧ qM P (s * 2 ^ n + q) false = qM P s (decide (q ≠ 0)) := by
  have hb := blen_more s n q s0 hq
  unfold qW qM
  rw [hb]
  by_cases c : P + 1 ≤ blen s
  · rw [if_pos c, if_pos c, if_pos (by omega), if_pos (by omega), show blen s + n - (P + 1) = n + (blen s - (P + 1)) by omega]
    constructor
    · rw [Nat.pow_add, ← Nat.div_div_eq_div_mul, div_more s n q hq]
    · rw [Bool.or_false, Bool.or_comm]
      refine qdec_or ?_
      have := mod_pow_zero (s * 2 ^ n + q) n (blen s - (P + 1))
      rw [mod_more s n q hq, div_more s n q hq] at this
      rw [Ne, this]
      omega
  · have q0 : q = 0 := by omega
    subst q0
    have z0 : decide ((0 : Nat) ≠ 0) = false := rfl
    rw [if_neg c, if_neg c, z0]
    simp only [Nat.add_zero]
    by_cases c2 : P + 1 ≤ blen s + n
    · rw [if_pos c2, if_pos c2]
      have e : s * 2 ^ n = s * 2 ^ (P + 1 - blen s) * 2 ^ (blen s + n - (P + 1)) := by
        rw [Nat.mul_assoc, ← Nat.pow_add]
        congr 2
        omega
      rw [e]
      refine ⟨Nat.mul_div_cancel _ (Nat.two_pow_pos _), ?_⟩
      rw [Bool.or_false, decide_eq_false_iff_not]
      exact fun q => q (Nat.mul_mod_left _ _)
    · rw [if_neg c2, if_neg c2, Nat.mul_assoc, ← Nat.pow_add]
      exact ⟨by congr 2; omega, rfl⟩
theorem q_longer (P s n : Nat) (s0 : s ≠ 0) : qW P (s * 2 ^ n) = qW P s ∧ qM P (s * 2 ^ n) false = qM P s false := by
  have := q_more P s n 0 s0 (Nat.two_pow_pos n) (fun h => absurd rfl h)
  have z0 : decide ((0 : Nat) ≠ 0) = false := rfl
  rw [Nat.add_zero, z0] at this
  exact this
theorem x_odd {f : Int} (hf : Is4 f) (b : Bool) (n : Nat) (e : Int) (ho : n % 2 = 1) (hl : blen n ≤ 45000) (h1 : -1200000 ≤ e) (h2 : e ≤ 1200000) :
    xW f ⟨b, n, 1, e⟩ = qW (pV f + 1) n ∧ xM f ⟨b, n, 1, e⟩ = qM (pV f + 1) n false := by
  have n0 : n ≠ 0 := by omega
  obtain ⟨n1, n2, n3, n4, n5, n6⟩ := nm8 hf
  have hp := fp8 hf
  have tw := top_whole b n e n0
  obtain ⟨l1, l2, l3⟩ := blen_low n n0
  unfold xW xM qW qM
  obtain ⟨a, hA⟩ : ∃ a, topX ⟨b, n, 1, e⟩ - fP f = a := ⟨_, rfl⟩
  rw [hA]
  by_cases c : a ≤ e
  · have sh := blen_shift n (e - a).toNat n0
    have := fl_yes ⟨b, n, 1, e⟩ a n0 rfl c (by omega) (by omega) (by
      show nl (n * 2 ^ (e - a).toNat) ≤ 16384
      unfold nl
      omega)
    rw [this]
    simp only
    by_cases c2 : pV f + 1 + 1 ≤ blen n
    · have : blen n = pV f + 1 + 1 := by omega
      have z : (e - a).toNat = 0 := by omega
      rw [if_pos c2, if_pos c2, this, Nat.sub_self, z, Nat.pow_zero, Nat.div_one, Nat.mul_one, Nat.mod_one]
      exact ⟨rfl, rfl⟩
    · rw [if_neg c2, if_neg c2, show (e - a).toNat = pV f + 1 + 1 - blen n by omega]
      exact ⟨rfl, rfl⟩
  · have z : flX ⟨b, n, 1, e⟩ a = ((n / (1 * 2 ^ (a - e).toNat), false), 0) := by
      unfold flX
      rw [if_neg (by omega), if_neg n0, if_neg c, if_neg (by omega)]
    rw [z, Nat.one_mul, if_pos (by omega), if_pos (by omega), show (a - e).toNat = blen n - (pV f + 1 + 1) by omega]
    refine ⟨rfl, ?_⟩
    have : n % 2 ^ (blen n - (pV f + 1 + 1)) ≠ 0 := by
      obtain ⟨i, hi⟩ : ∃ i, blen n - (pV f + 1 + 1) = i + 1 := ⟨blen n - (pV f + 1 + 1) - 1, by omega⟩
      rw [hi]
      intro q
      have := (mod_pow_zero n 1 i).1 (by rw [Nat.add_comm]; exact q)
      omega
    rw [decide_eq_true this]
    rfl
theorem x_whole {f : Int} (hf : Is4 f) (b : Bool) (N : Nat) (e : Int) (n0 : N ≠ 0) (hl : blen N ≤ 45000) (h1 : -1000000 ≤ e) (h2 : e ≤ 1000000) :
    mk b N 1 e = (⟨b, od N, 1, e + (tz N : Int)⟩, 0) ∧ (XN.mk b (od N) 1 (e + (tz N : Int))).can ∧ od N ≠ 0 ∧ nl (od N) ≤ 8192 ∧ topX ⟨b, od N, 1, e + (tz N : Int)⟩ = e + (blen N : Int) - 1 ∧ xW f ⟨b, od N, 1, e + (tz N : Int)⟩ = qW (pV f + 1) N ∧ xM f ⟨b, od N, 1, e + (tz N : Int)⟩ = qM (pV f + 1) N false := by
  obtain ⟨o1, o2⟩ := od_is N n0
  have od0 : od N ≠ 0 := by omega
  have tl := tz_blen N
  have bs := blen_shift (od N) (tz N) od0
  rw [← o1] at bs
  have m := mk_whole b N e n0 (by omega) (by omega)
  have lo : nl (od N) ≤ 8192 := by unfold nl; omega
  have lN : nl N ≤ 16384 := by unfold nl; omega
  obtain ⟨x1, x2⟩ := x_odd hf b (od N) (e + (tz N : Int)) o2 (by omega) (by omega) (by omega)
  have ql := q_longer (pV f + 1) (od N) (tz N) od0
  rw [← o1] at ql
  refine ⟨m, ?_, od0, lo, ?_, by rw [x1, ql.1], by rw [x2, ql.2]⟩
  · have := mk_can b N 1 e lN nl_1 (by decide) (by rw [m])
    rw [m] at this
    exact this
  · rw [top_whole b (od N) _ od0]
    omega
theorem cutN (s L : Nat) (hs : s < Q) : s / 2 ^ min (L + 1) 384 = s / 2 ^ L / 2 ∧ decide (s % 2 ^ min (L + 1) 384 = 0) = !(decide (s / 2 ^ L % 2 = 1) || decide (s % 2 ^ L ≠ 0)) ∧ halfv s (min (L + 1) 385) = hfV (decide (s / 2 ^ L % 2 = 1)) (decide (s % 2 ^ L ≠ 0)) := by
  obtain ⟨Z, hZ, eQ⟩ := Qq384
  have hQ : s < 2 ^ Z := by rw [← eQ]; exact hs
  rw [← hZ]
  have full : s % 2 ^ (L + 1) = 0 ↔ (s % 2 ^ L = 0 ∧ s / 2 ^ L % 2 = 0) := by
    have := mod_pow_zero s L 1
    rw [Nat.pow_one] at this
    exact this
  have b1 : decide (s % 2 ^ (L + 1) = 0) = !(decide (s / 2 ^ L % 2 = 1) || decide (s % 2 ^ L ≠ 0)) := by
    rw [Bool.eq_iff_iff, decide_eq_true_iff, full, Bool.not_eq_true', Bool.or_eq_false_iff, decide_eq_false_iff_not, decide_eq_false_iff_not]
    omega
  by_cases c : L < Z
  · rw [Nat.min_eq_left (by omega : L + 1 ≤ Z), Nat.min_eq_left (by omega : L + 1 ≤ 385)]
    refine ⟨by rw [Nat.pow_succ, Nat.div_div_eq_div_mul], b1, ?_⟩
    rw [halfv_bit s L (by omega), Nat.testBit_eq_decide_div_mod_eq]
    unfold hfV
    by_cases z : s % 2 ^ L = 0
    · rw [if_pos z, decide_eq_false (show ¬ (s % 2 ^ L ≠ 0) by omega)]
      rfl
    · rw [if_neg z, decide_eq_true (show s % 2 ^ L ≠ 0 by omega)]
      rfl
  · have lt : s < 2 ^ L := Nat.lt_of_lt_of_le hQ (Nat.pow_le_pow_right (by decide) (by omega))
    have lt2 : s < 2 ^ (L + 1) := Nat.lt_of_lt_of_le hQ (Nat.pow_le_pow_right (by decide) (by omega))
    rw [Nat.min_eq_right (by omega : Z ≤ L + 1), Nat.min_eq_right (by omega : 385 ≤ L + 1)]
    refine ⟨by rw [Nat.div_eq_of_lt hQ, Nat.div_eq_of_lt lt], ?_, ?_⟩
    · rw [← b1, Nat.mod_eq_of_lt hQ, Nat.mod_eq_of_lt lt2]
    · unfold halfv
      rw [if_pos (Or.inr (by decide)), Nat.div_eq_of_lt lt]
      rfl
end Go.Proofs.YtlpelcfaakfmiaaDoor
namespace Go.Proofs.YtlpelcfaakfmiaaDoor
set_option maxRecDepth 100000
set_option maxHeartbeats 40000000
set_option maxRecDepth 100000
open Go.RowKit WMath
set_option linter.unusedSimpArgs false
set_option linter.unusedVariables false
def rg (neg : Bool) (s : Nat) (x : Int) (more : Bool) : Array Value := #[.bool neg, .int .u64 (wd s 0 : Nat), .int .u64 (wd s 1 : Nat), .int .u64 (wd s 2 : Nat), .int .u64 (wd s 3 : Nat), .int .u64 (wd s 4 : Nat), .int .u64 (wd s 5 : Nat), .int .i64 x, .bool more]
theorem rgf (neg : Bool) (s : Nat) (x : Int) (more : Bool) : #[Value.bool neg, .int .u64 (wd s 0 : Nat), .int .u64 (wd s 1 : Nat), .int .u64 (wd s 2 : Nat), .int .u64 (wd s 3 : Nat), .int .u64 (wd s 4 : Nat), .int .u64 (wd s 5 : Nat), .int .i64 x, .bool more] = rg neg s x more := rfl
theorem rgz : #[Value.bool false, .int .u64 0, .int .u64 0, .int .u64 0, .int .u64 0, .int .u64 0, .int .u64 0, .int .i64 0, .bool false] = rg false 0 0 false := by unfold rg; simp [wd_zero]
theorem rg_cells {w : World} {g : Nat} {T : TypeId} {neg : Bool} {s : Nat} {x : Int} {more : Bool} (R : w.heap[g]? = some (.cells (rg neg s x more) T)) : w.cell? ⟨g, 0, none⟩ = some (.bool neg) ∧ w.cell? ⟨g, 1, none⟩ = some (.int .u64 (wd s 0 : Nat)) ∧ w.cell? ⟨g, 2, none⟩ = some (.int .u64 (wd s 1 : Nat)) ∧ w.cell? ⟨g, 3, none⟩ = some (.int .u64 (wd s 2 : Nat)) ∧ w.cell? ⟨g, 4, none⟩ = some (.int .u64 (wd s 3 : Nat)) ∧ w.cell? ⟨g, 5, none⟩ = some (.int .u64 (wd s 4 : Nat)) ∧ w.cell? ⟨g, 6, none⟩ = some (.int .u64 (wd s 5 : Nat)) ∧ w.cell? ⟨g, 7, none⟩ = some (.int .i64 x) ∧ w.cell? ⟨g, 8, none⟩ = some (.bool more) :=
  ⟨cells4 R 0 _ rfl, cells4 R 1 _ rfl, cells4 R 2 _ rfl, cells4 R 3 _ rfl, cells4 R 4 _ rfl, cells4 R 5 _ rfl, cells4 R 6 _ rfl, cells4 R 7 _ rfl, cells4 R 8 _ rfl⟩
set_option maxRecDepth 100000 in
theorem ro_check_a (f m c1 : Int) (w : World) (K1 : Box (∀ w, Calls Tryd.prog 56 #[.int .u8 f] w fun r w' => r = .returned (.int .i64 c1) ∧ Below w.heap.size w w')) (h1 : (c1 != 0) = true) : Calls Tryd.prog 42 #[.int .u8 f, .int .u8 m] w fun r w' => r = .returned (.int .i64 2) ∧ Below w.heap.size w w' := by
  have B0 : Below w.heap.size w w := (Below.refl _ _)
  go_enter Tryd.func42, Tryd.ntmps42
  go_wp2_with fail
  refine (K1.out _).mono ?_
  rintro r w1 ⟨rfl, b1⟩
  have B1 : Below w.heap.size w w1 := btr B0 b1
  clear b1 B0 
  go_wp2
  go_ret
  exact ⟨rfl, B1⟩
set_option maxRecDepth 100000 in
theorem ro_check_b (f m c1 c2 : Int) (w : World) (K1 : Box (∀ w, Calls Tryd.prog 56 #[.int .u8 f] w fun r w' => r = .returned (.int .i64 c1) ∧ Below w.heap.size w w')) (K2 : Box (∀ w, Calls Tryd.prog 5 #[.int .u8 m] w fun r w' => r = .returned (.int .i64 c2) ∧ Below w.heap.size w w')) (h1 : (c1 != 0) = false) (h2 : (c2 != 0) = true) : Calls Tryd.prog 42 #[.int .u8 f, .int .u8 m] w fun r w' => r = .returned (.int .i64 2) ∧ Below w.heap.size w w' := by
  have B0 : Below w.heap.size w w := (Below.refl _ _)
  go_enter Tryd.func42, Tryd.ntmps42
  go_wp2_with fail
  refine (K1.out _).mono ?_
  rintro r w1 ⟨rfl, b1⟩
  have B1 : Below w.heap.size w w1 := btr B0 b1
  clear b1 B0 
  go_wp2_with fail
  refine (K2.out _).mono ?_
  rintro r w2 ⟨rfl, b2⟩
  have B2 : Below w.heap.size w w2 := btr B1 b2
  clear b2 B1 
  go_wp2
  go_ret
  exact ⟨rfl, B2⟩
set_option maxRecDepth 100000 in
theorem ro_check_c (f m c1 c2 : Int) (w : World) (K1 : Box (∀ w, Calls Tryd.prog 56 #[.int .u8 f] w fun r w' => r = .returned (.int .i64 c1) ∧ Below w.heap.size w w')) (K2 : Box (∀ w, Calls Tryd.prog 5 #[.int .u8 m] w fun r w' => r = .returned (.int .i64 c2) ∧ Below w.heap.size w w')) (h1 : (c1 != 0) = false) (h2 : (c2 != 0) = false) : Calls Tryd.prog 42 #[.int .u8 f, .int .u8 m] w fun r w' => r = .returned (.int .i64 0) ∧ Below w.heap.size w w' := by
  have B0 : Below w.heap.size w w := (Below.refl _ _)
  go_enter Tryd.func42, Tryd.ntmps42
  go_wp2_with fail
  refine (K1.out _).mono ?_
  rintro r w1 ⟨rfl, b1⟩
  have B1 : Below w.heap.size w w1 := btr B0 b1
  clear b1 B0 
  go_wp2_with fail
  refine (K2.out _).mono ?_
  rintro r w2 ⟨rfl, b2⟩
  have B2 : Below w.heap.size w w2 := btr B1 b2
  clear b2 B1 
  go_wp2
  go_ret
  exact ⟨rfl, B2⟩
set_option maxRecDepth 100000 in
set_option maxHeartbeats 2000000 in
theorem ro_may_lo (f : Int) (neg : Bool) (s : Nat) (x : Int) (more : Bool) (w : World) (h : decide (x < -1048576) = true) : Calls Tryd.prog 43 #[.int .u8 f, .agg (rg neg s x more)] w fun r w' => r = .returned (.bool false) ∧ Below w.heap.size w w' := by
  have hat := cw_at 6
  have hz := cw6z
  have hff := cw6f
  have hs0 := st0
  have hcs : ∀ x, ((cw 6 x).size = 6) = True := fun x => eq_true (cw_size 6 x)
  obtain ⟨Rx_0, B0⟩ := opn1 w (Obj.cells (rg neg s x more) 68)
  go_enter Tryd.func43, Tryd.ntmps43
  obtain ⟨cx_0_0, cx_0_1, cx_0_2, cx_0_3, cx_0_4, cx_0_5, cx_0_6, cx_0_7, cx_0_8⟩ := rg_cells Rx_0
  go_wp2
  go_ret
  exact ⟨rfl, B0⟩
set_option maxRecDepth 100000 in
set_option maxHeartbeats 2000000 in
theorem ro_may_hi (f : Int) (neg : Bool) (s : Nat) (x : Int) (more : Bool) (w : World) (h : decide (x < -1048576) = false) (h2 : decide (1048576 < x) = true) : Calls Tryd.prog 43 #[.int .u8 f, .agg (rg neg s x more)] w fun r w' => r = .returned (.bool false) ∧ Below w.heap.size w w' := by
  have hat := cw_at 6
  have hz := cw6z
  have hff := cw6f
  have hs0 := st0
  have hcs : ∀ x, ((cw 6 x).size = 6) = True := fun x => eq_true (cw_size 6 x)
  obtain ⟨Rx_0, B0⟩ := opn1 w (Obj.cells (rg neg s x more) 68)
  go_enter Tryd.func43, Tryd.ntmps43
  obtain ⟨cx_0_0, cx_0_1, cx_0_2, cx_0_3, cx_0_4, cx_0_5, cx_0_6, cx_0_7, cx_0_8⟩ := rg_cells Rx_0
  go_wp2
  go_ret
  exact ⟨rfl, B0⟩
set_option maxRecDepth 100000 in
set_option maxHeartbeats 2000000 in
theorem ro_may_no (f : Int) (neg : Bool) (s : Nat) (x : Int) (w : World) (h : decide (x < -1048576) = false) (h2 : decide (1048576 < x) = false) : Calls Tryd.prog 43 #[.int .u8 f, .agg (rg neg s x false)] w fun r w' => r = .returned (.bool true) ∧ Below w.heap.size w w' := by
  have hat := cw_at 6
  have hz := cw6z
  have hff := cw6f
  have hs0 := st0
  have hcs : ∀ x, ((cw 6 x).size = 6) = True := fun x => eq_true (cw_size 6 x)
  obtain ⟨Rx_0, B0⟩ := opn1 w (Obj.cells (rg neg s x false) 68)
  go_enter Tryd.func43, Tryd.ntmps43
  obtain ⟨cx_0_0, cx_0_1, cx_0_2, cx_0_3, cx_0_4, cx_0_5, cx_0_6, cx_0_7, cx_0_8⟩ := rg_cells Rx_0
  go_wp2
  go_ret
  exact ⟨rfl, B0⟩
set_option maxRecDepth 100000 in
set_option maxHeartbeats 2000000 in
theorem ro_may_more (f : Int) (neg : Bool) (s : Nat) (x : Int) (l P A1 : Int) (o : Bool) (w : World)
    (KL : Box (∀ w, Calls Tryd.prog 72 #[.agg (cw 6 s)] w fun r w' => r = .returned (.int .i64 l) ∧ Below w.heap.size w w'))
    (KP : Box (∀ w, FAt w → Calls Tryd.prog 60 #[.int .u8 f] w fun r w' => r = .returned (.int .i64 P) ∧ Below w.heap.size w w'))
    (h : decide (x < -1048576) = false) (h2 : decide (1048576 < x) = false) (h3 : IntKind.i64.wrap (P + 2) = A1) (ho : decide (A1 ≤ l) = o) (hT : FAt w) : Calls Tryd.prog 43 #[.int .u8 f, .agg (rg neg s x true)] w fun r w' => r = .returned (.bool o) ∧ Below w.heap.size w w' := by
  have FF := box hT
  clear hT
  have hat := cw_at 6
  have hz := cw6z
  have hff := cw6f
  have hs0 := st0
  have hcs : ∀ x, ((cw 6 x).size = 6) = True := fun x => eq_true (cw_size 6 x)
  obtain ⟨Rx_0, B0⟩ := opn1 w (Obj.cells (rg neg s x true) 68)
  go_enter Tryd.func43, Tryd.ntmps43
  obtain ⟨cx_0_0, cx_0_1, cx_0_2, cx_0_3, cx_0_4, cx_0_5, cx_0_6, cx_0_7, cx_0_8⟩ := rg_cells Rx_0
  go_wp2_with fail
  refine (KL.out _).mono ?_
  rintro r w1 ⟨rfl, b1⟩
  have B1 : Below w.heap.size w w1 := btr B0 b1
  have Rx_1 := heap_of b1 _ _ _ Rx_0
  clear b1 B0 Rx_0 cx_0_0 cx_0_1 cx_0_2 cx_0_3 cx_0_4 cx_0_5 cx_0_6 cx_0_7 cx_0_8
  obtain ⟨cx_1_0, cx_1_1, cx_1_2, cx_1_3, cx_1_4, cx_1_5, cx_1_6, cx_1_7, cx_1_8⟩ := rg_cells Rx_1
  go_wp2_with fail
  refine (KP.out _ (fatB FF.out B1)).mono ?_
  rintro r w2 ⟨rfl, b2⟩
  have B2 : Below w.heap.size w w2 := btr B1 b2
  have Rx_2 := heap_of b2 _ _ _ Rx_1
  clear b2 B1 Rx_1 cx_1_0 cx_1_1 cx_1_2 cx_1_3 cx_1_4 cx_1_5 cx_1_6 cx_1_7 cx_1_8
  obtain ⟨cx_2_0, cx_2_1, cx_2_2, cx_2_3, cx_2_4, cx_2_5, cx_2_6, cx_2_7, cx_2_8⟩ := rg_cells Rx_2
  go_wp2
  go_ret
  exact ⟨rfl, B2⟩
def uP (m : Int) (neg odd : Bool) (h : Int) (ex : Bool) : Bool := if ex then false else if m = 2 then neg else if m = 3 then !neg else if m = 0 then (decide (0 < h) || (decide (h = 0) && odd)) else if m = 4 then decide (0 ≤ h) else false
set_option maxRecDepth 100000 in
set_option maxHeartbeats 2000000 in
theorem ro_up (m : Int) (neg odd : Bool) (h : Int) (ex o : Bool) (ho : uP m neg odd h ex = o) (w : World) : Calls Tryd.prog 20 #[.int .u8 m, .bool neg, .bool odd, .int .i64 h, .bool ex] w fun r w' => r = .returned (.bool o) ∧ Below w.heap.size w w' := by
  subst ho
  cases ex
  case true =>
    have B0 : Below w.heap.size w w := (Below.refl _ _)
    go_enter Tryd.func20, Tryd.ntmps20
    go_wp2
    go_ret
    exact ⟨rfl, B0⟩
  unfold uP
  rw [if_neg (by decide)]
  by_cases c2 : m = 2
  · subst c2
    rw [if_pos rfl]
    cases neg
    all_goals
      go_enter Tryd.func20, Tryd.ntmps20
      go_wp2
      go_ret
      exact ⟨rfl, Below.refl _ _⟩
  rw [if_neg c2]
  by_cases c3 : m = 3
  · subst c3
    rw [if_pos rfl]
    cases neg
    all_goals
      go_enter Tryd.func20, Tryd.ntmps20
      go_wp2
      go_ret
      exact ⟨rfl, Below.refl _ _⟩
  rw [if_neg c3]
  have e2 : (m == 2) = false := by simpa using c2
  have e3 : (m == 3) = false := by simpa using c3
  by_cases c0 : m = 0
  · subst c0
    rw [if_pos rfl]
    by_cases p : 0 < h
    · rw [decide_eq_true p, Bool.true_or]
      have d1 : decide (0 < h) = true := decide_eq_true p
      go_enter Tryd.func20, Tryd.ntmps20
      go_wp2
      go_ret
      exact ⟨rfl, Below.refl _ _⟩
    · rw [decide_eq_false p, Bool.false_or]
      have d1 : decide (0 < h) = false := decide_eq_false p
      by_cases z : h = 0
      · subst z
        rw [decide_eq_true rfl, Bool.true_and]
        cases odd
        all_goals
          go_enter Tryd.func20, Tryd.ntmps20
          go_wp2
          go_ret
          exact ⟨rfl, Below.refl _ _⟩
      · rw [decide_eq_false z, Bool.false_and]
        have d2 : (h == 0) = false := by simpa using z
        go_enter Tryd.func20, Tryd.ntmps20
        go_wp2
        go_ret
        exact ⟨rfl, Below.refl _ _⟩
  rw [if_neg c0]
  have e0 : (m == 0) = false := by simpa using c0
  by_cases c4 : m = 4
  · subst c4
    rw [if_pos rfl]
    by_cases p : 0 < h
    · rw [decide_eq_true (show 0 ≤ h by omega)]
      have d1 : decide (0 < h) = true := decide_eq_true p
      go_enter Tryd.func20, Tryd.ntmps20
      go_wp2
      go_ret
      exact ⟨rfl, Below.refl _ _⟩
    · have d1 : decide (0 < h) = false := decide_eq_false p
      by_cases z : h = 0
      · subst z
        rw [decide_eq_true (by decide)]
        cases odd
        all_goals
          go_enter Tryd.func20, Tryd.ntmps20
          go_wp2
          go_ret
          exact ⟨rfl, Below.refl _ _⟩
      · rw [decide_eq_false (show ¬ 0 ≤ h by omega)]
        have d2 : (h == 0) = false := by simpa using z
        go_enter Tryd.func20, Tryd.ntmps20
        go_wp2
        go_ret
        exact ⟨rfl, Below.refl _ _⟩
  rw [if_neg c4]
  have e4 : (m == 4) = false := by simpa using c4
  go_enter Tryd.func20, Tryd.ntmps20
  go_wp2
  go_ret
  exact ⟨rfl, Below.refl _ _⟩
end Go.Proofs.YtlpelcfaakfmiaaDoor
namespace Go.Proofs.YtlpelcfaakfmiaaDoor
set_option maxRecDepth 100000
set_option maxHeartbeats 40000000
set_option maxRecDepth 100000
open Go.RowKit WMath
set_option linter.unusedSimpArgs false
set_option linter.unusedVariables false
set_option maxRecDepth 100000 in
set_option maxHeartbeats 4000000 in
theorem ro_pack_zero (f m : Int) (neg : Bool) (x : Int) (more : Bool) (u v : Nat) (w : World)
    (KC : Box (∀ w, Calls Tryd.prog 42 #[.int .u8 f, .int .u8 m] w fun r w' => r = .returned (.int .i64 0) ∧ Below w.heap.size w w'))
    (KM : Box (∀ w, FAt w → Calls Tryd.prog 43 #[.int .u8 f, .agg (rg neg 0 x more)] w fun r w' => r = .returned (.bool true) ∧ Below w.heap.size w w'))
    (KZ : Box (∀ w, FAt w → Calls Tryd.prog 44 #[.int .u8 f, .bool neg] w fun r w' => r = .returned (.agg #[.int .u64 (u : Nat), .int .u64 (v : Nat)]) ∧ Below w.heap.size w w'))
    (hT : FAt w) : Calls Tryd.prog 26 #[.int .u8 f, .int .u8 m, .agg (rg neg 0 x more)] w fun r w' => r = .returned (.tuple #[.agg #[.int .u64 (u : Nat), .int .u64 (v : Nat)], .int .u8 0, .int .i64 0]) ∧ Below w.heap.size w w' := by
  have FF := box hT
  clear hT
  have hat := cw_at 6
  have hz := cw6z
  have hff := cw6f
  have hs0 := st0
  have hcs : ∀ x, ((cw 6 x).size = 6) = True := fun x => eq_true (cw_size 6 x)
  have heq := eq6
  have hQ0 := Q_pos
  have hg := eqg6
  have hp1 := rgf
  have hp3 := rgz
  have hp5 : ∀ (c : Bool) (s : Nat) (x : Int) (r : Bool), ((rg c s x r).size = 9) = True := fun _ _ _ _ => eq_true rfl
  obtain ⟨Rx_0, Rz_0, B0⟩ := opn2 w (Obj.cells (rg neg 0 x more) 68) (Obj.cells #[.int .u64 0, .int .u64 0] 26)
  go_enter Tryd.func26, Tryd.ntmps26
  obtain ⟨cx_0_0, cx_0_1, cx_0_2, cx_0_3, cx_0_4, cx_0_5, cx_0_6, cx_0_7, cx_0_8⟩ := rg_cells Rx_0
  obtain ⟨cz_0_0, cz_0_1⟩ := cells2s Rz_0
  go_wp2_with fail
  refine (KC.out _).mono ?_
  rintro r w1 ⟨rfl, b1⟩
  have B1 : Below w.heap.size w w1 := btr B0 b1
  have Rx_1 := heap_of b1 _ _ _ Rx_0
  have Rz_1 := heap_of b1 _ _ _ Rz_0
  clear b1 B0 Rx_0 cx_0_0 cx_0_1 cx_0_2 cx_0_3 cx_0_4 cx_0_5 cx_0_6 cx_0_7 cx_0_8 Rz_0 cz_0_0 cz_0_1
  obtain ⟨cx_1_0, cx_1_1, cx_1_2, cx_1_3, cx_1_4, cx_1_5, cx_1_6, cx_1_7, cx_1_8⟩ := rg_cells Rx_1
  obtain ⟨cz_1_0, cz_1_1⟩ := cells2s Rz_1
  go_wp2_with fail
  refine (KM.out _ (fatB FF.out B1)).mono ?_
  rintro r w2 ⟨rfl, b2⟩
  have B2 : Below w.heap.size w w2 := btr B1 b2
  have Rx_2 := heap_of b2 _ _ _ Rx_1
  have Rz_2 := heap_of b2 _ _ _ Rz_1
  clear b2 B1 Rx_1 cx_1_0 cx_1_1 cx_1_2 cx_1_3 cx_1_4 cx_1_5 cx_1_6 cx_1_7 cx_1_8 Rz_1 cz_1_0 cz_1_1
  obtain ⟨cx_2_0, cx_2_1, cx_2_2, cx_2_3, cx_2_4, cx_2_5, cx_2_6, cx_2_7, cx_2_8⟩ := rg_cells Rx_2
  obtain ⟨cz_2_0, cz_2_1⟩ := cells2s Rz_2
  go_wp2_with fail
  refine (KZ.out _ (fatB FF.out B2)).mono ?_
  rintro r w3 ⟨rfl, b3⟩
  have B3 : Below w.heap.size w w3 := btr B2 b3
  have Rx_3 := heap_of b3 _ _ _ Rx_2
  have Rz_3 := heap_of b3 _ _ _ Rz_2
  clear b3 B2 Rx_2 cx_2_0 cx_2_1 cx_2_2 cx_2_3 cx_2_4 cx_2_5 cx_2_6 cx_2_7 cx_2_8 Rz_2 cz_2_0 cz_2_1
  obtain ⟨cx_3_0, cx_3_1, cx_3_2, cx_3_3, cx_3_4, cx_3_5, cx_3_6, cx_3_7, cx_3_8⟩ := rg_cells Rx_3
  obtain ⟨cz_3_0, cz_3_1⟩ := cells2s Rz_3
  have q0 := fz (k := 0) Rz_3
  have q1 := fz (k := 1) Rz_3
  obtain ⟨E0, E1⟩ := set2_cells Rz_3 (.int .u64 (u : Nat)) (.int .u64 (v : Nat))
  go_wp2
  exact bodyPost_ret (v := .tuple #[.agg #[.int .u64 (u : Nat), .int .u64 (v : Nat)], .int .u8 0, .int .i64 0]) (by simp [results, Tryd.results26, go_sem, E0, E1]) rfl ⟨rfl, set2_below B3 (by first | exact Nat.le_refl _ | omega | (skip; omega)) _ _⟩
set_option maxRecDepth 100000 in
set_option maxHeartbeats 4000000 in
theorem ro_pack_a (f m : Int) (neg : Bool) (s : Nat) (x : Int) (more : Bool) (c : Int) (hc : (c != 0) = true) (w : World)
    (KC : Box (∀ w, Calls Tryd.prog 42 #[.int .u8 f, .int .u8 m] w fun r w' => r = .returned (.int .i64 c) ∧ Below w.heap.size w w')) : Calls Tryd.prog 26 #[.int .u8 f, .int .u8 m, .agg (rg neg s x more)] w fun r w' => r = .returned (.tuple #[.agg #[.int .u64 0, .int .u64 0], .int .u8 0, .int .i64 2]) ∧ Below w.heap.size w w' := by
  have hat := cw_at 6
  have hz := cw6z
  have hff := cw6f
  have hs0 := st0
  have hcs : ∀ x, ((cw 6 x).size = 6) = True := fun x => eq_true (cw_size 6 x)
  have hp1 := rgf
  have hp5 : ∀ (c : Bool) (s : Nat) (x : Int) (r : Bool), ((rg c s x r).size = 9) = True := fun _ _ _ _ => eq_true rfl
  obtain ⟨Rx_0, Rz_0, B0⟩ := opn2 w (Obj.cells (rg neg s x more) 68) (Obj.cells #[.int .u64 0, .int .u64 0] 26)
  go_enter Tryd.func26, Tryd.ntmps26
  obtain ⟨cx_0_0, cx_0_1, cx_0_2, cx_0_3, cx_0_4, cx_0_5, cx_0_6, cx_0_7, cx_0_8⟩ := rg_cells Rx_0
  obtain ⟨cz_0_0, cz_0_1⟩ := cells2s Rz_0
  go_wp2_with fail
  refine (KC.out _).mono ?_
  rintro r w1 ⟨rfl, b1⟩
  have B1 : Below w.heap.size w w1 := btr B0 b1
  have Rx_1 := heap_of b1 _ _ _ Rx_0
  have Rz_1 := heap_of b1 _ _ _ Rz_0
  clear b1 B0 Rx_0 cx_0_0 cx_0_1 cx_0_2 cx_0_3 cx_0_4 cx_0_5 cx_0_6 cx_0_7 cx_0_8 Rz_0 cz_0_0 cz_0_1
  obtain ⟨cx_1_0, cx_1_1, cx_1_2, cx_1_3, cx_1_4, cx_1_5, cx_1_6, cx_1_7, cx_1_8⟩ := rg_cells Rx_1
  obtain ⟨cz_1_0, cz_1_1⟩ := cells2s Rz_1
  have q0 := fz (k := 0) Rz_1
  have q1 := fz (k := 1) Rz_1
  obtain ⟨E0, E1⟩ := set2_cells Rz_1 (.int .u64 0) (.int .u64 0)
  go_wp2
  exact bodyPost_ret (v := .tuple #[.agg #[.int .u64 0, .int .u64 0], .int .u8 0, .int .i64 2]) (by simp [results, Tryd.results26, go_sem, E0, E1]) rfl ⟨rfl, set2_below B1 (by first | exact Nat.le_refl _ | omega | (skip; omega)) _ _⟩
set_option maxRecDepth 100000 in
set_option maxHeartbeats 4000000 in
theorem ro_pack_b (f m : Int) (neg : Bool) (s : Nat) (x : Int) (more : Bool) (w : World)
    (KC : Box (∀ w, Calls Tryd.prog 42 #[.int .u8 f, .int .u8 m] w fun r w' => r = .returned (.int .i64 0) ∧ Below w.heap.size w w'))
    (KM : Box (∀ w, FAt w → Calls Tryd.prog 43 #[.int .u8 f, .agg (rg neg s x more)] w fun r w' => r = .returned (.bool false) ∧ Below w.heap.size w w')) (hT : FAt w) : Calls Tryd.prog 26 #[.int .u8 f, .int .u8 m, .agg (rg neg s x more)] w fun r w' => r = .returned (.tuple #[.agg #[.int .u64 0, .int .u64 0], .int .u8 0, .int .i64 2]) ∧ Below w.heap.size w w' := by
  have FF := box hT
  clear hT
  have hat := cw_at 6
  have hz := cw6z
  have hff := cw6f
  have hs0 := st0
  have hcs : ∀ x, ((cw 6 x).size = 6) = True := fun x => eq_true (cw_size 6 x)
  have hp1 := rgf
  have hp5 : ∀ (c : Bool) (s : Nat) (x : Int) (r : Bool), ((rg c s x r).size = 9) = True := fun _ _ _ _ => eq_true rfl
  obtain ⟨Rx_0, Rz_0, B0⟩ := opn2 w (Obj.cells (rg neg s x more) 68) (Obj.cells #[.int .u64 0, .int .u64 0] 26)
  go_enter Tryd.func26, Tryd.ntmps26
  obtain ⟨cx_0_0, cx_0_1, cx_0_2, cx_0_3, cx_0_4, cx_0_5, cx_0_6, cx_0_7, cx_0_8⟩ := rg_cells Rx_0
  obtain ⟨cz_0_0, cz_0_1⟩ := cells2s Rz_0
  go_wp2_with fail
  refine (KC.out _).mono ?_
  rintro r w1 ⟨rfl, b1⟩
  have B1 : Below w.heap.size w w1 := btr B0 b1
  have Rx_1 := heap_of b1 _ _ _ Rx_0
  have Rz_1 := heap_of b1 _ _ _ Rz_0
  clear b1 B0 Rx_0 cx_0_0 cx_0_1 cx_0_2 cx_0_3 cx_0_4 cx_0_5 cx_0_6 cx_0_7 cx_0_8 Rz_0 cz_0_0 cz_0_1
  obtain ⟨cx_1_0, cx_1_1, cx_1_2, cx_1_3, cx_1_4, cx_1_5, cx_1_6, cx_1_7, cx_1_8⟩ := rg_cells Rx_1
  obtain ⟨cz_1_0, cz_1_1⟩ := cells2s Rz_1
  go_wp2_with fail
  refine (KM.out _ (fatB FF.out B1)).mono ?_
  rintro r w2 ⟨rfl, b2⟩
  have B2 : Below w.heap.size w w2 := btr B1 b2
  have Rx_2 := heap_of b2 _ _ _ Rx_1
  have Rz_2 := heap_of b2 _ _ _ Rz_1
  clear b2 B1 Rx_1 cx_1_0 cx_1_1 cx_1_2 cx_1_3 cx_1_4 cx_1_5 cx_1_6 cx_1_7 cx_1_8 Rz_1 cz_1_0 cz_1_1
  obtain ⟨cx_2_0, cx_2_1, cx_2_2, cx_2_3, cx_2_4, cx_2_5, cx_2_6, cx_2_7, cx_2_8⟩ := rg_cells Rx_2
  obtain ⟨cz_2_0, cz_2_1⟩ := cells2s Rz_2
  have q0 := fz (k := 0) Rz_2
  have q1 := fz (k := 1) Rz_2
  obtain ⟨E0, E1⟩ := set2_cells Rz_2 (.int .u64 0) (.int .u64 0)
  go_wp2
  exact bodyPost_ret (v := .tuple #[.agg #[.int .u64 0, .int .u64 0], .int .u8 0, .int .i64 2]) (by simp [results, Tryd.results26, go_sem, E0, E1]) rfl ⟨rfl, set2_below B2 (by first | exact Nat.le_refl _ | omega | (skip; omega)) _ _⟩
end Go.Proofs.YtlpelcfaakfmiaaDoor
namespace Go.Proofs.YtlpelcfaakfmiaaDoor
set_option maxRecDepth 100000
set_option maxHeartbeats 40000000
set_option maxRecDepth 100000
open Go.RowKit WMath
set_option linter.unusedSimpArgs false
set_option linter.unusedVariables false
theorem wbit0 (n : Nat) (o : Bool) (ho : decide (n % 2 = 1) = o) (w : World) : Calls Tryd.prog 21 #[.agg (cw 6 n), .int .i64 0] w fun r w' => r = .returned (.bool o) ∧ Below w.heap.size w w' := by
  have hat := cw_at 6
  have hf := cw6f
  obtain ⟨d, hd⟩ : ∃ d, n / 2 ^ 0 % 2 ^ 1 = d := ⟨_, rfl⟩
  have e : ((d : Int) == 1) = o := by
    subst hd ho
    rw [Nat.pow_zero, Nat.div_one, Nat.pow_one, Bool.eq_iff_iff, decide_eq_true_iff, beq_iff_eq]
    omega
  have HD := box hd
  clear hd ho
  have W1 : Box (∀ w : World, Calls Tryd.prog 38 #[.agg (cw 6 n), .int .i64 0, .int .i64 1] w fun r w' => r = .returned (.int .u64 (d : Nat)) ∧ Below w.heap.size w w') := box (fun w => by
    have h := wfield_any n 0 1 (by decide) (by decide) w
    rw [HD.out] at h
    exact h)
  go_enter Tryd.func21, Tryd.ntmps21
  go_wp2_with fail
  refine (W1.out _).mono ?_
  rintro e w1 ⟨rfl, hb⟩
  go_wp2
  go_ret
  exact ⟨rfl, ((Below.refl _ _).alloc (Nat.le_refl _) _).trans (hb.mono (by simp))⟩
theorem kprec (f : Int) (hf : Is4 f) (w : World) (hT : FAt w) : Calls Tryd.prog 60 #[.int .u8 f] w fun r w' => r = .returned (.int .i64 (fP f)) ∧ Below w.heap.size w w' := by
  have f4 := is4_ok hf
  refine (s_precision f _ f4.1 f4.2.1 rfl w hT).mono ?_
  rintro r w' ⟨rfl, rfl⟩
  exact ⟨rfl, bal7 _ _⟩
theorem kocheck (f m : Int) (h0 : 0 ≤ f) (h1 : f ≤ 255) (c : Int) (hc : (if f ≤ 3 ∧ m ≤ 4 then (0 : Int) else 2) = c) (w : World) : Calls Tryd.prog 42 #[.int .u8 f, .int .u8 m] w fun r w' => r = .returned (.int .i64 c) ∧ Below w.heap.size w w' := by
  have K1 : ∀ c, (if f ≤ 3 then (0 : Int) else 2) = c → Box (∀ w, Calls Tryd.prog 56 #[.int .u8 f] w fun r w' => r = .returned (.int .i64 c) ∧ Below w.heap.size w w') := fun c hc => box (fun w => by
    refine bel_same (s_check_is f c h0 h1 ?_ w)
    rw [← hc]
    by_cases h : f ≤ 3
    · rw [if_pos h]; exact fC_yes (is4_of h0 h)
    · rw [if_neg h]; exact fC_no h0 (by unfold Is4; omega))
  have K2 : ∀ c, (if m ≤ 4 then (0 : Int) else 2) = c → Box (∀ w, Calls Tryd.prog 5 #[.int .u8 m] w fun r w' => r = .returned (.int .i64 c) ∧ Below w.heap.size w w') := fun c hc => box (fun w => by
    subst hc
    exact bel_same (s_checkMode m w))
  by_cases c1 : f ≤ 3
  · by_cases c2 : m ≤ 4
    · rw [if_pos ⟨c1, c2⟩] at hc
      subst hc
      exact ro_check_c f m 0 0 w (K1 0 (if_pos c1)) (K2 0 (if_pos c2)) (by decide) (by decide)
    · rw [if_neg (by omega)] at hc
      subst hc
      exact ro_check_b f m 0 2 w (K1 0 (if_pos c1)) (K2 2 (if_neg c2)) (by decide) (by decide)
  · rw [if_neg (by omega)] at hc
    subst hc
    exact ro_check_a f m 2 w (K1 2 (if_neg c1)) (by decide)
theorem is4_le {f : Int} (hf : Is4 f) : f ≤ 3 := by rcases hf with rfl | rfl | rfl | rfl <;> decide
theorem komay (f : Int) (hf : Is4 f) (neg : Bool) (s : Nat) (hs : s < Q) (x : Int) (more : Bool) (o : Bool) (ho : decide (-1048576 ≤ x ∧ x ≤ 1048576 ∧ (more = true → pV f + 3 ≤ blen s)) = o) (w : World) (hT : FAt w) : Calls Tryd.prog 43 #[.int .u8 f, .agg (rg neg s x more)] w fun r w' => r = .returned (.bool o) ∧ Below w.heap.size w w' := by
  have hp := fp8 hf
  obtain ⟨n1, n2, n3, n4, n5, n6⟩ := nm8 hf
  by_cases c1 : x < -1048576
  · rw [decide_eq_false (by omega)] at ho
    subst ho
    exact ro_may_lo f neg s x more w (decide_eq_true c1)
  by_cases c2 : 1048576 < x
  · rw [decide_eq_false (by omega)] at ho
    subst ho
    exact ro_may_hi f neg s x more w (decide_eq_false c1) (decide_eq_true c2)
  cases more
  · rw [decide_eq_true ⟨by omega, by omega, fun h => Bool.noConfusion h⟩] at ho
    subst ho
    exact ro_may_no f neg s x w (decide_eq_false c1) (decide_eq_false c2)
  · refine ro_may_more f neg s x (blen s : Int) (fP f) (fP f + 2) o w (box (fun w => wlen_is s _ hs rfl w)) (box (fun w hT => kprec f hf w hT)) (decide_eq_false c1) (decide_eq_false c2) (wrap_i64_is _ (by omega) (by omega)) ?_ hT
    rw [← ho, decide_eq_decide]
    constructor
    · exact fun h => ⟨by omega, by omega, fun _ => by omega⟩
    · exact fun h => by have := h.2.2 rfl; omega
theorem kPack_zero (f m : Int) (hf : Is4 f) (hm : 0 ≤ m ∧ m ≤ 4) (neg : Bool) (x : Int) (h1 : -1048576 ≤ x) (h2 : x ≤ 1048576) (u v : Nat) (hv : bv7 (eZero f neg) = (u, v)) (w : World) (hT : FAt w) :
    Calls Tryd.prog 26 #[.int .u8 f, .int .u8 m, .agg (rg neg 0 x false)] w fun r w' => r = .returned (.tuple #[.agg #[.int .u64 (u : Nat), .int .u64 (v : Nat)], .int .u8 0, .int .i64 0]) ∧ Below w.heap.size w w' := by
  have f4 := is4_ok hf
  exact ro_pack_zero f m neg x false u v w (box (fun w => kocheck f m f4.1 f4.2.1 0 (if_pos ⟨is4_le hf, hm.2⟩) w)) (box (fun w hT => komay f hf neg 0 Q_pos x false true (decide_eq_true ⟨h1, h2, fun h => Bool.noConfusion h⟩) w hT)) (box (fun w hT => sk_zero f neg hf u v hv w hT)) hT
theorem kPack_no (f m : Int) (h0 : 0 ≤ f) (h1 : f ≤ 255) (neg : Bool) (s : Nat) (hs : s < Q) (x : Int) (more : Bool) (h : ¬ (f ≤ 3 ∧ m ≤ 4 ∧ -1048576 ≤ x ∧ x ≤ 1048576 ∧ (more = true → pV f + 3 ≤ blen s))) (w : World) (hT : FAt w) :
    Calls Tryd.prog 26 #[.int .u8 f, .int .u8 m, .agg (rg neg s x more)] w fun r w' => r = .returned (.tuple #[.agg #[.int .u64 0, .int .u64 0], .int .u8 0, .int .i64 2]) ∧ Below w.heap.size w w' := by
  by_cases c : f ≤ 3 ∧ m ≤ 4
  · exact ro_pack_b f m neg s x more w (box (fun w => kocheck f m h0 h1 0 (if_pos c) w)) (box (fun w hT => komay f (is4_of h0 c.1) neg s hs x more false (decide_eq_false (fun q => h ⟨c.1, c.2, q⟩)) w hT)) hT
  · exact ro_pack_a f m neg s x more 2 (by decide) w (box (fun w => kocheck f m h0 h1 2 (if_neg c) w))
def bls (l : List (Nat × Nat)) : Array Value := (l.flatMap fun p => [Value.int .u64 (p.1 : Nat), Value.int .u64 (p.2 : Nat)]).toArray
def okP (f : Int) (p : Nat × Nat) : Bool := okB f (p.2 + 18446744073709551616 * p.1)
theorem bls_at (l : List (Nat × Nat)) (k : Nat) (p : Nat × Nat) (h : l[k]? = some p) : (bls l)[k * 2]? = some (.int .u64 (p.1 : Nat)) ∧ (bls l)[k * 2 + 1]? = some (.int .u64 (p.2 : Nat)) := by
  unfold bls
  rw [List.getElem?_toArray, List.getElem?_toArray]
  induction l generalizing k with
  | nil => simp at h
  | cons a t ih =>
    cases k with
    | zero =>
      simp at h
      subst h
      simp
    | succ k =>
      simp only [List.getElem?_cons_succ] at h
      have := ih k h
      rw [show (k + 1) * 2 = k * 2 + 1 + 1 by omega]
      simpa using this
theorem bls_cell {w : World} {g : Nat} {T : TypeId} {l : List (Nat × Nat)} (row : w.heap[g]? = some (.cells (bls l) T)) (k : Nat) (p : Nat × Nat) (h : l[k]? = some p) : w.cell? ⟨g, k * 2, none⟩ = some (.int .u64 (p.1 : Nat)) ∧ w.cell? ⟨g, k * 2 + 1, none⟩ = some (.int .u64 (p.2 : Nat)) := by
  obtain ⟨a, b⟩ := bls_at l k p h
  exact ⟨(cell_of_row w g (k * 2) _ _ _ row).trans a, (cell_of_row w g (k * 2 + 1) _ _ _ row).trans b⟩
set_option maxRecDepth 100000 in
set_option maxHeartbeats 8000000 in
theorem op_may_no (f m : Int) (pu pv : Nat) (fl c : Int) (sl : Value) (hc : (c != 0) = true) (w : World)
    (KP : Box (∀ w, FAt w → Calls Tryd.prog 26 #[.int .u8 f, .int .u8 m, .agg (rg false 0 0 false)] w fun r w' => r = .returned (.tuple #[.agg #[.int .u64 (pu : Nat), .int .u64 (pv : Nat)], .int .u8 fl, .int .i64 c]) ∧ Below w.heap.size w w')) (hT : FAt w) : Calls Tryd.prog 14 #[.int .u8 f, .int .u8 m, sl] w fun r w' => r = .returned (.bool false) ∧ Below w.heap.size w w' := by
  have FF := box hT
  clear hT
  have hp3 := rgz
  have B0 : Below w.heap.size w w := (Below.refl _ _)
  go_enter Tryd.func14, Tryd.ntmps14
  go_wp2_with fail
  refine (KP.out _ (fatB FF.out B0)).mono ?_
  rintro r w1 ⟨rfl, b1⟩
  have B1 : Below w.heap.size w w1 := btr B0 b1
  clear b1 B0 
  have S2 := box B1.size
  have Rp_2 := heap_alloc_last w1 (Obj.cells #[.int .u64 (pu : Nat), .int .u64 (pv : Nat)] 26)
  have B2 := btr B1 (bal w1 (Obj.cells #[.int .u64 (pu : Nat), .int .u64 (pv : Nat)] 26))
  clear B1 
  obtain ⟨cp_2_0, cp_2_1⟩ := cells2s Rp_2
  go_wp2
  go_ret
  exact ⟨rfl, B2⟩
theorem kClass_any (f : Int) (hf : Is4 f) (p : Nat × Nat) (h : p.1 < 18446744073709551616 ∧ p.2 < 18446744073709551616) (o : Bool) (ho : okP f p = o) : ∃ (c e : Int), (e != 0) = (!o) ∧ Box (∀ w, FAt w → Calls Tryd.prog 25 #[.int .u8 f, .agg #[.int .u64 (p.1 : Nat), .int .u64 (p.2 : Nat)]] w fun r w' => r = .returned (.tuple #[.int .u8 c, .int .i64 e]) ∧ Below w.heap.size w w') := by
  have h0 : 0 ≤ f ∧ f ≤ 255 := by rcases hf with rfl | rfl | rfl | rfl <;> decide
  cases o
  · exact ⟨0, 2, rfl, box (fun w hT => kClass_no f h0.1 h0.2 p.1 p.2 _ h.1 h.2 rfl ho w hT)⟩
  · exact ⟨_, 0, rfl, box (fun w hT => kClass_yes f hf p.1 p.2 _ _ h.1 h.2 rfl ho rfl w hT)⟩
set_option maxRecDepth 100000 in
set_option maxHeartbeats 8000000 in
theorem op_may (f m : Int) (hf : Is4 f) (l : List (Nat × Nat)) (L g c : Nat) (T : TypeId) (w : World) (hl : l.length = L) (hL : L ≤ 1000) (hb : Box (∀ p ∈ l, p.1 < 18446744073709551616 ∧ p.2 < 18446744073709551616)) (row : w.heap[g]? = some (.cells (bls l) T)) (pu pv : Nat) (fl : Int)
    (KP : Box (∀ w, FAt w → Calls Tryd.prog 26 #[.int .u8 f, .int .u8 m, .agg (rg false 0 0 false)] w fun r w' => r = .returned (.tuple #[.agg #[.int .u64 (pu : Nat), .int .u64 (pv : Nat)], .int .u8 fl, .int .i64 0]) ∧ Below w.heap.size w w'))
    (o : Bool) (ho : l.all (okP f) = o) (hT : FAt w) : Calls Tryd.prog 14 #[.int .u8 f, .int .u8 m, .slice (some ⟨g, 0, none⟩) L c] w fun r w' => r = .returned (.bool o) ∧ Below w.heap.size w w' := by
  have FF := box hT
  have HO := box ho
  have HL := box hl
  have HF := box hf
  clear ho hl hT hf
  have hp3 := rgz
  go_enter Tryd.func14, Tryd.ntmps14
  go_wp2_with fail
  refine (KP.out _ FF.out).mono ?_
  rintro r w1 ⟨rfl, b1⟩
  have BP := btr b1 (bal w1 (.cells #[.int .u64 (pu : Nat), .int .u64 (pv : Nat)] 26))
  obtain ⟨V, hV⟩ : ∃ V, w1.alloc (.cells #[.int .u64 (pu : Nat), .int .u64 (pv : Nat)] 26) = V := ⟨_, rfl⟩
  go_wp2
  rw [hV] at BP
  clear b1 KP hV
  go_loopw [26] (fun iv wr => ∃ k : Nat, k ≤ L ∧ iv = .int .i64 k ∧ Below w.heap.size w wr ∧ Box (∀ j p, j < k → l[j]? = some p → okP f p = true)) (fun iv _ => L - (intOf iv).toNat)
  case atStart => exact ⟨0, by omega, rfl, BP, box (fun j s hj => absurd hj (by omega))⟩
  case round =>
    obtain ⟨k, hk, rfl, bw, HA⟩ := hrel
    by_cases hlt : k < L
    · obtain ⟨p, hs⟩ : ∃ p, l[k]? = some p := ⟨_, List.getElem?_eq_getElem (by rw [HL.out]; exact hlt)⟩
      obtain ⟨c1, c2⟩ := bls_cell (heap_of bw _ _ _ row) k p hs
      have dl : decide ((k : Int) < (L : Int)) = true := decide_eq_true (by omega)
      have HS := box hs
      obtain ⟨o1, hm⟩ : ∃ o1, okP f p = o1 := ⟨_, rfl⟩
      have HM := box hm
      obtain ⟨cc, ee, hee, KC⟩ := kClass_any f HF.out p (hb.out p (List.mem_of_getElem? hs)) o1 hm
      have FA : Box (FAt (wr.alloc (.cells #[.int .u64 (p.1 : Nat), .int .u64 (p.2 : Nat)] 26))) := box (fatB FF.out (btr bw (bal _ _)))
      have BA := btr bw (bal wr (.cells #[.int .u64 (p.1 : Nat), .int .u64 (p.2 : Nat)] 26))
      clear hs hm
      cases o1
      · have e : o = false := by
          rw [← HO.out, Bool.eq_false_iff]
          intro h
          rw [List.all_eq_true] at h
          have := h p (List.mem_of_getElem? HS.out)
          rw [HM.out] at this
          exact absurd this (by decide)
        subst e
        go_wp2_with fail
        refine (KC.out _ FA.out).mono ?_
        rintro r w2 ⟨rfl, b2⟩
        go_wp2
        go_ret
        exact ⟨rfl, btr BA b2⟩
      · have NA : Box (∀ j p, j < k + 1 → l[j]? = some p → okP f p = true) := box (fun j p2 hj h2 => by
          by_cases e : j = k
          · subst e
            rw [HS.out] at h2
            cases h2
            exact HM.out
          · exact HA.out j p2 (by omega) h2)
        go_wp2_with fail
        refine (KC.out _ FA.out).mono ?_
        rintro r w2 ⟨rfl, b2⟩
        go_wp2
        go_roundw
        case rel => exact ⟨k + 1, by omega, by go_num, btr BA b2, NA⟩
        case measure => simp [intOf] <;> omega
    · obtain rfl : k = L := by omega
      have e : o = true := by
        rw [← HO.out, List.all_eq_true]
        intro s hs
        obtain ⟨j, hj⟩ := List.mem_iff_getElem?.1 hs
        have := (List.getElem?_eq_some_iff.1 hj).1
        exact HA.out j s (by rw [← HL.out]; exact this) hj
      subst e
      have dl : decide ((k : Int) < (k : Int)) = false := by rw [decide_eq_false_iff_not]; omega
      go_wp2
      go_ret
      exact ⟨rfl, bw⟩
end Go.Proofs.YtlpelcfaakfmiaaDoor
namespace Go.Proofs.YtlpelcfaakfmiaaDoor
set_option maxRecDepth 100000
set_option maxHeartbeats 40000000
set_option maxRecDepth 100000
open Go.RowKit WMath XMath
set_option linter.unusedSimpArgs false
set_option linter.unusedVariables false
theorem vX_whole {f : Int} (hf : Is4 f) (n : Nat) (h : 0 < kC f n ∧ kC f n < 7) (h2 : ¬ (kC f n = 3 ∨ kC f n = 4)) : kS f n ≠ 0 ∧ kS f n < 2 ^ 128 ∧ vX f n = ⟨kN f n, od (kS f n), 1, kX f n + (tz (kS f n) : Int)⟩ ∧ (vX f n).can := by
  obtain ⟨l1, l2, l3⟩ := kS_lim hf n
  obtain ⟨a, b, d, e⟩ := k_parts (f := f) n (by omega)
  have l4 : kS f n < 2 ^ 128 := l1
  obtain ⟨w1, w2, w3, w4, w5, w6, w7⟩ := x_whole hf (kN f n) (kS f n) (kX f n) e (by have := (blen_iff (kS f n) 128).2 l4; omega) (by omega) (by omega)
  have := vX_mk hf n h
  rw [w1] at this
  injection this with h3 h4
  exact ⟨e, l4, h3.symm, by rw [← h3]; exact w2⟩
theorem kC_all (f : Int) (n : Nat) : (kE f n = oV f ∧ kT f n = 0 ∧ kC f n = if kN f n then 0 else 7) ∨ (kE f n = oV f ∧ kT f n ≠ 0 ∧ kT f n < 2 ^ (pV f - 1) ∧ kC f n = 8) ∨ (kE f n = oV f ∧ 2 ^ (pV f - 1) ≤ kT f n ∧ kC f n = 9) ∨
    (kE f n < oV f ∧ kE f n ≠ 0 ∧ kC f n = if kN f n then 1 else 6) ∨ (kE f n < oV f ∧ kE f n = 0 ∧ kT f n ≠ 0 ∧ kC f n = if kN f n then 2 else 5) ∨ (kE f n < oV f ∧ kE f n = 0 ∧ kT f n = 0 ∧ kC f n = if kN f n then 3 else 4) := by
  have el := kE_le (f := f) n
  have p := Nat.two_pow_pos (pV f - 1)
  unfold kC
  by_cases c1 : kE f n = oV f
  · by_cases c2 : kT f n = 0
    · left
      refine ⟨c1, c2, ?_⟩
      (repeat' split) <;> first | rfl | omega | simp_all
    · by_cases c3 : kT f n < 2 ^ (pV f - 1)
      · right; left
        refine ⟨c1, c2, c3, ?_⟩
        (repeat' split) <;> first | rfl | omega | simp_all
      · right; right; left
        refine ⟨c1, by omega, ?_⟩
        (repeat' split) <;> first | rfl | omega | simp_all
  · by_cases c2 : kE f n = 0
    · by_cases c3 : kT f n = 0
      · right; right; right; right; right
        refine ⟨by omega, c2, c3, ?_⟩
        (repeat' split) <;> first | rfl | omega | simp_all
      · right; right; right; right; left
        refine ⟨by omega, c2, c3, ?_⟩
        (repeat' split) <;> first | rfl | omega | simp_all
    · right; right; right; left
      refine ⟨by omega, c2, ?_⟩
      (repeat' split) <;> first | rfl | omega | simp_all
theorem kC_sign {f : Int} (n : Nat) (h : 0 < kC f n ∧ kC f n < 7) : decide (kC f n ≤ 3) = kN f n := by
  have c := kC_all f n
  cases hn : kN f n
  · rw [hn] at c
    rw [decide_eq_false_iff_not]
    simp only [Bool.false_eq_true, if_false] at c
    omega
  · rw [hn] at c
    rw [decide_eq_true_iff]
    simp only [if_true] at c
    omega
theorem vX_null (f : Int) (n : Nat) (h : kC f n = 3 ∨ kC f n = 4) : vX f n = XMath.X0 := by
  unfold vX
  rw [(k_null n h).1, mk_null]
end Go.Proofs.YtlpelcfaakfmiaaDoor
