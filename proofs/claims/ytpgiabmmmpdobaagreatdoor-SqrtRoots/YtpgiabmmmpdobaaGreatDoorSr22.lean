/-
  What the functions that the statement reaches return: part 22 (O4, Q0, Q2, Q3, Q4, Q5).
-/
import Derived.Test.YtpgiabmmmpdobaaGreatDoorSr21
namespace Go.Proofs.YtpgiabmmmpdobaaGreatDoor
set_option maxRecDepth 100000
set_option maxHeartbeats 40000000
set_option maxRecDepth 100000
open Go.RowKit WMath
set_option linter.unusedSimpArgs false
set_option linter.unusedVariables false
theorem one_row (x1 y1 : Nat) (T : TypeId) (g : Nat) (w : World) (hg : w.heap.size = g) : (w.alloc (.cells #[.int .u64 x1, .int .u64 y1] T)).heap[g]? = some (.cells (bls [(x1, y1)]) T) := by
 rw [← hg]
 exact heap_alloc_last _ _
theorem one_lim {x1 y1 : Nat} (hx1 : x1 < 18446744073709551616) (hy1 : y1 < 18446744073709551616) : Box (∀ p ∈ [(x1, y1)], p.1 < 18446744073709551616 ∧ p.2 < 18446744073709551616) := box (fun p hp => by
 rcases List.mem_cons.1 hp with rfl | h
 ·
  exact ⟨hx1, hy1⟩
 ·
  exact absurd h List.not_mem_nil)
theorem kmay1 (f m : Int) (h0 : 0 ≤ f) (h1 : f ≤ 255) (m0 : 0 ≤ m) (x1 y1 a : Nat) (hx1 : x1 < 18446744073709551616) (hy1 : y1 < 18446744073709551616) (ha : y1 + 18446744073709551616 * x1 = a) (o : Bool) (ho : (decide (f ≤ 3 ∧ m ≤ 4) && okB f a) = o) :
  Box (∀ (T : TypeId) (g : Nat) (w : World), w.heap.size = g → FAt w → Calls Tryz.prog 11 #[.int .u8 f, .int .u8 m, .slice (some ⟨g, 0, none⟩) 1 1] (w.alloc (.cells #[.int .u64 x1, .int .u64 y1] T)) fun r w' => r = .returned (.bool o) ∧ Below w.heap.size w w') := by
 refine box (fun T g w hg hT => ?_)
 have B := (bal w (.cells #[.int .u64 x1, .int .u64 y1] T))
 have row := one_row x1 y1 T g w hg
 have hT2 := fatB hT B
 by_cases cc : f ≤ 3 ∧ m ≤ 4
 ·
  have hf := is4_of h0 cc.1
  obtain ⟨u, v, hv⟩ : ∃ u v, bv7 (eZero f false) = (u, v) := ⟨_, _, rfl⟩
  have KP : Box (∀ w, FAt w → Calls Tryz.prog 17 #[.int .u8 f, .int .u8 m, .agg (rg false 0 0 false)] w fun r w' => r = .returned (.tuple #[.agg #[.int .u64 u, .int .u64 v], .int .u8 0, .int .i64 0]) ∧ Below w.heap.size w w') := box (fun w hT => kPack_zero f m hf ⟨m0, cc.2⟩ false 0 (by decide) (by decide) u v hv w hT)
  refine (op_may f m hf [(x1, y1)] 1 g 1 T _ rfl (by decide) (one_lim hx1 hy1) row u v 0 KP o ?_ hT2).mono fun _ _ ⟨q1, q2⟩ => ⟨q1, btr B q2⟩
  rw [← ho, decide_eq_true cc]
  show (okP f (x1, y1) && true) = _
  unfold okP
  rw [ha, Bool.and_true, Bool.true_and]
 ·
  have e : o = false := by rw [← ho, decide_eq_false cc]; rfl
  subst e
  exact (op_may_no f m 0 0 0 2 _ rfl _ (box (fun w hT => kPack_no f m h0 h1 false 0 Q_pos 0 false (fun q => cc ⟨q.1, q.2.1⟩) w hT)) hT2).mono fun _ _ ⟨q1, q2⟩ => ⟨q1, btr B q2⟩
theorem rfit1 (f m : Int) (h0 : 0 ≤ f) (x1 y1 a : Nat) (hx1 : x1 < 18446744073709551616) (hy1 : y1 < 18446744073709551616) (ha : y1 + 18446744073709551616 * x1 = a) (o : Bool) (ho : (decide (f ≤ 3 ∧ m ≤ 4) && okB f a) = o) :
  Box (∀ (T : TypeId) (g : Nat) (w : World), w.heap.size = g → Calls Tryz.prog 20 #[.int .u8 f, .int .u8 m, .slice (some ⟨g, 0, none⟩) 1 1] (w.alloc (.cells #[.int .u64 x1, .int .u64 y1] T)) fun r w' => r = .returned (.bool o) ∧ Below w.heap.size w w') := by
 refine box (fun T g w hg => ?_)
 have B := (bal w (.cells #[.int .u64 x1, .int .u64 y1] T))
 have row := one_row x1 y1 T g w hg
 have KR : Box (∀ w, Calls Tryz.prog 58 #[.int .u8 f] w fun r w' => r = .returned (.bool (decide (f ≤ 3))) ∧ Below w.heap.size w w') := box (fun w => bel_same (r_right f _ rfl w))
 have KM : Box (∀ w, Calls Tryz.prog 59 #[.int .u8 m] w fun r w' => r = .returned (.bool (decide (m ≤ 4))) ∧ Below w.heap.size w w') := box (fun w => bel_same (r_mode m _ rfl w))
 by_cases c1 : f ≤ 3
 ·
  rw [decide_eq_true c1] at KR
  by_cases c2 : m ≤ 4
  ·
   rw [decide_eq_true c2] at KM
   refine (rf_list f m h0 [(x1, y1)] 1 g 1 T _ rfl (by decide) (one_lim hx1 hy1) row KR KM o ?_).mono fun _ _ ⟨q1, q2⟩ => ⟨q1, btr B q2⟩
   rw [← ho, decide_eq_true (show f ≤ 3 ∧ m ≤ 4 from ⟨c1, c2⟩)]
   show (okP f (x1, y1) && true) = _
   unfold okP
   rw [ha, Bool.and_true, Bool.true_and]
  ·
   rw [decide_eq_false c2] at KM
   have e : o = false := by rw [← ho, decide_eq_false (fun q => c2 q.2)]; rfl
   subst e
   exact (rf_nom f m _ _ KR KM).mono fun _ _ ⟨q1, q2⟩ => ⟨q1, btr B q2⟩
 ·
  rw [decide_eq_false c1] at KR
  have e : o = false := by rw [← ho, decide_eq_false (fun q => c1 q.1)]; rfl
  subst e
  exact (rf_no f m _ _ KR).mono fun _ _ ⟨q1, q2⟩ => ⟨q1, btr B q2⟩
theorem rcan1 (f : Int) (hf : Is4 f) (x1 y1 a : Nat) (hx1 : x1 < 18446744073709551616) (hy1 : y1 < 18446744073709551616) (ha : y1 + 18446744073709551616 * x1 = a) (fa : Fit f a) (fl : Int) (hfl : (if kC f a = 8 then (16 : Int) else 0) = fl) (u v : Nat) (hv : bv7 (eNaN f) = (u, v)) :
  Box (∀ (T : TypeId) (g : Nat) (w : World), w.heap.size = g → Calls Tryz.prog 22 #[.int .u8 f, .slice (some ⟨g, 0, none⟩) 1 1] (w.alloc (.cells #[.int .u64 x1, .int .u64 y1] T)) fun r w' => r = .returned (.tuple #[.agg #[.int .u64 u, .int .u64 v], .int .u8 fl]) ∧ Below w.heap.size w w') := by
 refine box (fun T g w hg => ?_)
 have B := (bal w (.cells #[.int .u64 x1, .int .u64 y1] T))
 have row := one_row x1 y1 T g w hg
 have KN : Box (∀ w, Calls Tryz.prog 26 #[.int .u8 f] w fun r w' => r = .returned (.agg #[.int .u64 u, .int .u64 v]) ∧ Below w.heap.size w w') := box (fun w => by
  have := r_nan f hf _ rfl w
  rw [hv] at this
  exact this)
 refine (rc_list f hf [(x1, y1)] 1 g 1 T _ rfl (by decide) (one_lim hx1 hy1) ?_ row u v KN fl ?_).mono fun _ _ ⟨q1, q2⟩ => ⟨q1, btr B q2⟩
 ·
  refine box (fun p hp => ?_)
  rcases List.mem_cons.1 hp with rfl | h
  ·
   show Fit f (y1 + 18446744073709551616 * x1)
   rw [ha]
   exact fa
  ·
   exact absurd h List.not_mem_nil
 ·
  rw [← hfl]
  show (if (sgP f (x1, y1) || false) = true then (16 : Int) else 0) = _
  unfold sgP
  rw [ha, Bool.or_false]
  by_cases cc : kC f a = 8
  ·
   rw [if_pos cc, if_pos]
   rw [decide_eq_true_iff]
   exact cc
  ·
   rw [if_neg cc, if_neg]
   rw [decide_eq_true_iff]
   exact cc
end Go.Proofs.YtpgiabmmmpdobaaGreatDoor
namespace Go.Proofs.YtpgiabmmmpdobaaGreatDoor
set_option maxRecDepth 100000
set_option maxHeartbeats 40000000
set_option maxRecDepth 100000
open Go.RowKit WMath XMath
set_option linter.unusedSimpArgs false
set_option linter.unusedVariables false
theorem root_between {f : Int} (hf : Is4 f) (x : XN) (hx : x.can) (n0 : x.n ≠ 0) (hd : nl x.d ≤ 8192) (q : Nat) (a : Int) (ex : Bool) (h1 : ((q * q : Nat) : Rat) * (2 : Rat) ^ (2 * a) ≤ x.mag) (h2 : x.mag < (((q + 1) * (q + 1) : Nat) : Rat) * (2 : Rat) ^ (2 * a)) (h3 : ex = true ↔ ((q * q : Nat) : Rat) * (2 : Rat) ^ (2 * a) = x.mag) (hl : pV f + 2 ≤ blen q) (a1 : -500000 ≤ a) (a2 : a ≤ 500000) (hb : blen q ≤ 1000) :
  topX x / 2 = a + (blen q : Int) - 1 ∧ Wok f (qW (pV f + 1) q) ∧ RtN f x (qW (pV f + 1) q) (qM (pV f + 1) q (!ex)) := by
 have hp := fp8 hf
 obtain ⟨n1, n2, n3, n4, n5, n6⟩ := nm8 hf
 have q0 : q ≠ 0 := fun h => by
  rw [h] at hl
  have : blen 0 = 0 := by unfold blen; rw [if_pos rfl]
  omega
 obtain ⟨b1, b2, b3⟩ := blen_low q q0
 obtain ⟨t1, t2⟩ := top_good x n0 hx.d0
 have one : ∀ k : Nat, (2 : Rat) ^ (2 * (a + (k : Int))) = ((2 ^ k * 2 ^ k : Nat) : Rat) * (2 : Rat) ^ (2 * a) := fun k => by
  have e := up2 a k 1
  have o : ((1 * 1 : Nat) : Rat) = 1 := rfl
  rw [o, Rat.one_mul, Nat.one_mul] at e
  exact e
 have pa := Rat.le_of_lt (p2 (2 * a))
 have lo : (2 : Rat) ^ (2 * (a + ((blen q - 1 : Nat) : Int))) ≤ x.mag := by
  rw [one]
  exact Rat.le_trans (Rat.mul_le_mul_of_nonneg_right (Rat.natCast_le_natCast.2 (Nat.mul_le_mul b2 b2)) pa) h1
 have hi : x.mag < (2 : Rat) ^ (2 * (a + (blen q : Int))) := by
  rw [one]
  exact rlt h2 (Rat.mul_le_mul_of_nonneg_right (Rat.natCast_le_natCast.2 (Nat.mul_le_mul b3 b3)) pa)
 have T : topX x / 2 = a + (blen q : Int) - 1 := by
  have u1 := p2of _ _ _ lo t2
  have u2 := p2of (topX x) (2 * (a + (blen q : Int)) - 1) _ t1 (by rw [Int.sub_add_cancel]; exact hi)
  omega
 obtain ⟨s, hs⟩ : ∃ s, blen q - (pV f + 1 + 1) = s := ⟨_, rfl⟩
 obtain ⟨T1, T2⟩ : -1200000 ≤ topX x ∧ topX x ≤ 1200000 := by omega
 obtain ⟨W, more, wk, hW⟩ := r_num hf x hx n0 hd T1 T2
 obtain ⟨N, e0, c1, c2, c3⟩ := hW 0 (by omega)
 have g := fl_good x (2 * (topX x / 2 - fP f + ((0 : Nat) : Int))) hx n0 (by rw [c1])
 rw [c1] at g
 rw [Nat.pow_zero, Nat.div_one] at c2 c3
 have r := rt_good g.1 g.2.1 g.2.2 c2
 have ea : topX x / 2 - fP f + ((0 : Nat) : Int) = a + (s : Int) := by omega
 rw [ea, up2, up2] at r
 have w := sandwich (fun n => ((n * n : Nat) : Rat) * (2 : Rat) ^ (2 * a)) (mono2 _) (m := q) (m' := W) (b := ex) (b' := e0 && decide (N - W * W = 0)) (Nat.two_pow_pos s) h1 h2 h3 r.1 r.2.1 r.2.2
 rw [c3, Nat.mod_one, decide_eq_true rfl, Bool.and_true] at w
 have eW : qW (pV f + 1) q = W := by
  unfold qW
  rw [if_pos (by omega), hs]
  exact w.1.symm
 have eM : qM (pV f + 1) q (!ex) = more := by
  unfold qM
  rw [if_pos (by omega), hs]
  have := w.2
  cases more <;> cases ex <;> simp_all
 rw [eW, eM]
 exact ⟨T, wk, hW⟩
theorem root_num {f : Int} (hf : Is4 f) (m : Int) (A k q : Nat) (more : Bool) (x a : Int) (A0 : A ≠ 0) (hA : A < 2 ^ 128) (hx : x = 2 * a + (k : Int)) (a1 : -20000 ≤ a) (a2 : a ≤ 20000) (hk : k ≤ 400) (hq : RootIs (A * 2 ^ k) q) (hm : decide (A * 2 ^ k - q * q = 0) = !more) (hl : pV f + 2 ≤ blen q) (hb : blen q ≤ 1000) (M : Nat) (fl : Int) (hd : dlv f m false (a + (blen q : Int) - 1) (qW (pV f + 1) q) (qM (pV f + 1) q more) = (M, fl)) :
  Rts f m ⟨false, od A, 1, x + (tz A : Int)⟩ M fl := by
 have bA := (blen_iff A 128).2 hA
 obtain ⟨oa1, oa2⟩ := od_is A A0
 obtain ⟨y1, y2, y3, y4, y5, y6, y7⟩ := x_whole hf false A x A0 (by omega) (by omega) (by omega)
 have mag : (XN.mk false (od A) 1 (x + (tz A : Int))).mag = ((A * 2 ^ k : Nat) : Rat) * (2 : Rat) ^ (2 * a) := by
  show ((od A : Nat) : Rat) / ((1 : Nat) : Rat) * (2 : Rat) ^ (x + (tz A : Int)) = _
  have o : ((1 : Nat) : Rat) = 1 := rfl
  have i1 : (1 : Rat)⁻¹ = 1 := by decide +kernel
  rw [o, Rat.div_def, i1, Rat.mul_one, up1, ← oa1, ← up1 (2 * a), ← hx]
 obtain ⟨X, hX⟩ : ∃ X, XN.mk false (od A) 1 (x + (tz A : Int)) = X := ⟨_, rfl⟩
 have Xn : X.n = od A := by rw [← hX]
 have Xd : X.d = 1 := by rw [← hX]
 rw [hX] at mag y2 ⊢
 have g := rt_good (u := X.mag) (a := 2 * a) (N := A * 2 ^ k) (r := q) (ex := true) (by rw [mag]; exact Rat.le_refl) (by rw [mag]; exact mono1 _ _ _ (Nat.lt_succ_self _)) (by rw [mag]; simp) hq
 rw [Bool.true_and, hm] at g
 obtain ⟨w1, w2, w3⟩ := root_between hf X y2 (by rw [Xn]; exact y3) (by rw [Xd]; decide) q a (!more) g.1 g.2.1 g.2.2 hl (by omega) (by omega) hb
 rw [Bool.not_not] at w3
 unfold Rts
 rw [if_neg (by rw [Xn]; exact y3)]
 exact ⟨_, _, w2, w3, by rw [w1]; exact hd⟩
theorem mid_flag {f : Int} (hf : Is4 f) {W : Nat} (hW : Wok f W) (m : Int) (neg : Bool) (T : Int) (more : Bool) (h1 : 1 - fE f ≤ T) (h2 : T < fE f) : (dlv f m neg T W more).2 = 0 ∨ (dlv f m neg T W more).2 = 1 := by
 have hp := fp8 hf
 have k0 : dK f T = 0 := by unfold dK stE; omega
 have l := rG0_len hW m neg more
 have t := tn_hi hf hW m neg T more h1
 unfold dlv
 rw [k0, if_neg (by unfold stE; omega), t]
 show (if (rH W 0 || rM W 0 more) = true then (if false = true then (3 : Int) else 1) else 0) = 0 ∨ (if (rH W 0 || rM W 0 more) = true then (if false = true then (3 : Int) else 1) else 0) = 1
 rw [if_neg (show ¬ (false = true) by decide)]
 split
 ·
  exact Or.inr rfl
 ·
  exact Or.inl rfl
theorem root_mid {f : Int} (hf : Is4 f) (n : Nat) (h : kC f n = 1 ∨ kC f n = 2 ∨ kC f n = 5 ∨ kC f n = 6) : 1 - fE f ≤ (kX f n + (blen (kS f n) : Int) - 1) / 2 ∧ (kX f n + (blen (kS f n) : Int) - 1) / 2 < fE f := by
 obtain ⟨n1, n2, n3, n4, n5, n6⟩ := nm8 hf
 obtain ⟨k1, k2, k3, k4⟩ := k_parts (f := f) n h
 have g := kX_ge (f := f) n h
 have t := kT_lt (f := f) n
 have l : kS f n < 2 ^ (pV f + 1) := by
  rw [k2, Nat.pow_succ]
  unfold sV
  split <;> omega
 have b1 := (blen_iff (kS f n) (pV f + 1)).2 l
 have b2 := blen_pos _ k4
 have o2 : 3 ≤ oV f := by rcases hf with rfl | rfl | rfl | rfl <;> decide +kernel
 have e : kX f n ≤ lx f + (oV f : Int) - 2 := by
  rw [k3]
  unfold xV
  split <;> omega
 have c : 1 - fE f ≤ lx f / 2 ∧ (lx f + (oV f : Int) - 2 + (pV f : Int)) / 2 < fE f := by rcases hf with rfl | rfl | rfl | rfl <;> decide +kernel
 omega
end Go.Proofs.YtpgiabmmmpdobaaGreatDoor
namespace Go.Proofs.YtpgiabmmmpdobaaGreatDoor
set_option maxRecDepth 100000
set_option maxHeartbeats 40000000
set_option maxRecDepth 100000
open Go.RowKit WMath
set_option linter.unusedSimpArgs false
set_option linter.unusedVariables false
theorem rq_lt1 (c : Bool) (s : Nat) (x : Int) (r : Bool) (t : Nat) : ((rg c s x r).size < 1 + (cw 6 t).size) = False := eq_false (by rw [cw_size]; exact (show ¬ (9 < 1 + 6) by decide))
theorem rq_lt8 (c : Bool) (s : Nat) (x : Int) (r : Bool) : ((rg c s x r).size < 8) = False := eq_false (show ¬ (9 < 8) by decide)
theorem rq_lt9 (c : Bool) (s : Nat) (x : Int) (r : Bool) : ((rg c s x r).size < 9) = False := eq_false (show ¬ (9 < 9) by decide)
theorem rq_ne (c : Bool) (s : Nat) (x : Int) (r : Bool) : (rg c s x r = #[]) = False := eq_false (fun h => by have := congrArg Array.size h; exact absurd this (by decide : ¬ (9 = 0)))
theorem rq_bld (T : Nat) (E : Int) (more : Bool) : ((((((((rg false 0 0 false).setIfInBounds 1 (.int .u64 (wd T 0))).setIfInBounds 2 (.int .u64 (wd T 1))).setIfInBounds 3 (.int .u64 (wd T 2))).setIfInBounds 4 (.int .u64 (wd T 3))).setIfInBounds 5 (.int .u64 (wd T 4))).setIfInBounds 6 (.int .u64 (wd T 5))).setIfInBounds 7 (.int .i64 E)).setIfInBounds 8 (.bool more) = rg false T E more := Array.ext' (by
 simp only [Array.toList_setIfInBounds]
 rfl)
theorem sr_root (c1 m1 : Nat) (X1 : Int) (r1 S T R : Nat) (l1 n0 d0 o n d E : Int) (ov more : Bool) (w : World)
  (KL1 : Box (∀ w, Calls Tryz.prog 56 #[.agg (cw 6 m1)] w fun r w' => r = .returned (.int .i64 l1) ∧ Below w.heap.size w w')) (hn0 : IntKind.i64.wrap (230 - l1) = n0) (hd0 : IntKind.i64.wrap (X1 - n0) = d0) (ho : bits .and .i64 d0 1 = o) (hn : IntKind.i64.wrap (n0 - o) = n)
  (KD : Box (∀ w, Calls Tryz.prog 76 #[.agg (cw 6 m1), .int .i64 n] w fun r w' => r = .returned (.tuple #[.agg (cw 6 S), .bool ov]) ∧ Below w.heap.size w w'))
  (KQ : Box (∀ w, Calls Tryz.prog 77 #[.agg (cw 6 S)] w fun r w' => r = .returned (.tuple #[.agg (cw 6 T), .agg (cw 6 R)]) ∧ Below w.heap.size w w')) (hd : IntKind.i64.wrap (X1 - n) = d) (hE : d / 2 = E) (hE2 : IntKind.i64.wrap E = E) (hmo : (!decide (R = 0)) = more) (hR : R < Q) :
  Calls Tryz.prog 32 #[.agg (pt c1 m1 X1 r1)] w fun r w' => r = .returned (.agg (rg false T E more)) ∧ Below w.heap.size w w' := by
 have hat := cw_at 6
 have hz := cw6z
 have hff := cw6f
 have hs0 := st0
 have hcs : ∀ x, ((cw 6 x).size = 6) = True := fun x => eq_true (cw_size 6 x)
 have hp1 := rgf
 have hp3 := rgz
 have hp4 := st_r0
 have hzi := cw_zip
 have hls := rg_sets
 have hl8 : ∀ (c : Bool) (s : Nat) (x : Int) (r r' : Bool), (rg c s x r).toList.set 8 (Value.bool r') = (rg c s x r').toList := fun _ _ _ _ _ => rfl
 have hp5 : ∀ (c : Bool) (s : Nat) (x : Int) (r : Bool), ((rg c s x r).size = 9) = True := fun _ _ _ _ => eq_true rfl
 have C3 := ptf
 have C4 : ∀ (c s : Nat) (x : Int) (r : Nat), ((pt c s x r).size = 14) = True := fun _ _ _ _ => eq_true rfl
 have hs3 := st1
 have hb1 := rq_lt1
 have hb8 := rq_lt8
 have hb9 := rq_lt9
 have hbn := rq_ne
 have hbb := rq_bld
 have heq := eq6
 have hgq := eqg6
 have hQ := Q_pos
 have hsz := size_al
 obtain ⟨Ai, At, B0⟩ := opn2 w (Obj.cells (pt c1 m1 X1 r1) 43) (Obj.cells (rg false 0 0 false) 54)
 go_enter Tryz.func32, Tryz.ntmps32
 obtain ⟨Av, Aw, Ax, Ay, Az, AA, AB, AC, AD, AE, AF, AG, AH, AI⟩ := pt_cells Ai
 go_wp2_with fail
 refine (KL1.out _).mono ?_
 rintro r w1 ⟨rfl, b1⟩
 have B1 := btr B0 b1
 obtain ⟨Aj, Au⟩ := rws2 b1 Ai At
 clear b1 B0 Ai Av Aw Ax Ay Az AA AB AC AD AE AF AG AH AI At
 obtain ⟨AJ, AK, AL, AM, AN, AO, AP, AQ, AR, AS, AT, AU, AV, AW⟩ := pt_cells Aj
 go_wp2_with fail
 refine (KD.out _).mono ?_
 rintro r w2 ⟨rfl, b2⟩
 have B2 := btr B1 b2
 obtain ⟨Aa, Ak⟩ := rws2 b2 Aj Au
 clear b2 B1 Aj AJ AK AL AM AN AO AP AQ AR AS AT AU AV AW Au
 obtain ⟨AX, AY, AZ, A0, A1, A2, A3, A4, A5, A6, A7, A8, A9, Ba⟩ := pt_cells Aa
 have S3 := box B2.size
 have Bb := ltR Aa
 have Bc := ltR Ak
 have Al := heap_alloc_last w2 (Obj.cells (cw 6 S) 41)
 have B3 := btr B2 (bal w2 (Obj.cells (cw 6 S) 41))
 obtain ⟨Am, An⟩ := rws2 (bal w2 (Obj.cells (cw 6 S) 41)) Aa Ak
 clear B2 Aa AX AY AZ A0 A1 A2 A3 A4 A5 A6 A7 A8 A9 Ba Ak
 obtain ⟨Bd, Be, Bf, Bg, Bh, Bi, Bj, Bk, Bl, Bm, Bn, Bo, Bp, Bq⟩ := pt_cells Am
 have Br := row_cell Al
 obtain ⟨Bs, Bt, Bu, Bv, Bw, Bx, By, Bz, BA⟩ := rg_cells An
 go_wp2_with fail
 refine (KQ.out _).mono ?_
 rintro r w4 ⟨rfl, b4⟩
 have B4 := btr B3 b4
 obtain ⟨Ab, Ac, Ad⟩ := rws3 b4 Am An Al
 clear b4 B3 Am Bd Be Bf Bg Bh Bi Bj Bk Bl Bm Bn Bo Bp Bq An Bs Bt Bu Bv Bw Bx By Bz BA Al Br
 obtain ⟨BB, BC, BD, BE, BF, BG, BH, BI, BJ, BK, BL, BM, BN, BO⟩ := pt_cells Ab
 obtain ⟨BP, BQ, BR, BS, BT, BU, BW, BX, BY⟩ := rg_cells Ac
 have BZ := row_cell Ad
 have S5 := box B4.size
 have B7 := ltR Ab
 have B8 := ltR Ac
 have B9 := ltR Ad
 have Ae := heap_alloc_last w4 (Obj.cells (cw 6 T) 41)
 have B5 := btr B4 (bal w4 (Obj.cells (cw 6 T) 41))
 obtain ⟨Af, Ag, Ah⟩ := rws3 (bal w4 (Obj.cells (cw 6 T) 41)) Ab Ac Ad
 clear B4 Ab BB BC BD BE BF BG BH BI BJ BK BL BM BN BO Ac BP BQ BR BS BT BU BW BX BY Ad BZ
 obtain ⟨Ca, Cb, Cc, Cd, Ce, Cf, Cg, Ch, Ci, Cj, Ck, Cl, Cm, Cn⟩ := pt_cells Af
 obtain ⟨Co, Cp, Cq, Cr, Cs, Ct, Cu, Cv, Cw⟩ := rg_cells Ag
 have Cx := row_cell Ah
 have Cy := row_cell Ae
 have S6 := box B5.size
 have Cz := ltR Af
 have CA := ltR Ag
 have CB := ltR Ah
 have CC := ltR Ae
 have Z6 := box (size_al w4 (Obj.cells (cw 6 T) 41))
 have Ao : ((w4.alloc (Obj.cells (cw 6 T) 41)).alloc (Obj.cells (cw 6 R) 41)).heap[w4.heap.size + 1]? = some (.cells (cw 6 R) 41) := by have := heap_alloc_last (w4.alloc (Obj.cells (cw 6 T) 41)) (Obj.cells (cw 6 R) 41); simpa only [size_al] using this
 have B6 := btr B5 (bal (w4.alloc (Obj.cells (cw 6 T) 41)) (Obj.cells (cw 6 R) 41))
 obtain ⟨Ap, Aq, Ar, As⟩ := rws4 (bal (w4.alloc (Obj.cells (cw 6 T) 41)) (Obj.cells (cw 6 R) 41)) Af Ag Ah Ae
 clear B5 Af Ca Cb Cc Cd Ce Cf Cg Ch Ci Cj Ck Cl Cm Cn Ag Co Cp Cq Cr Cs Ct Cu Cv Cw Ah Cx Ae Cy
 obtain ⟨CD, CE, CF, CG, CH, CI, CJ, CK, CL, CM, CN, CO, CP, CQ⟩ := pt_cells Ap
 obtain ⟨CR, CS, CT, CU, CV, CW, CX, CY, CZ⟩ := rg_cells Aq
 have C0 := row_cell Ar
 have C1 := row_cell As
 have C2 := row_cell Ao
 have ge : w.heap.size ≤ w.heap.size + 1 := (by first | exact Nat.le_refl _ | omega | (have := S3.out; have := Bb.out; have := Bc.out; have := S5.out; have := B7.out; have := B8.out; have := B9.out; have := Z6.out; have := S6.out; have := Cz.out; have := CA.out; have := CB.out; have := CC.out; omega))
 obtain ⟨wV, hwV⟩ : ∃ V, ((w4.alloc (Obj.cells (cw 6 T) 41)).alloc (Obj.cells (cw 6 R) 41)) = V := ⟨_, rfl⟩
 have BV := B6
 have Vx := Ap
 have Vz := Aq
 have Vq := Ar
 have Vs := As
 have Vr := Ao
 rw [hwV] at BV Vx Vz Vq Vs Vr
 go_wp2_with fail
 try rw [hwV]
 clear hwV B6 Ap CD CE CF CG CH CI CJ CK CL CM CN CO CP CQ Aq CR CS CT CU CV CW CX CY CZ Ar C0 As C1 Ao C2
 obtain ⟨vx_0, vx_1, vx_2, vx_3, vx_4, vx_5, vx_6, vx_7, vx_8, vx_9, vx_10, vx_11, vx_12, vx_13⟩ := pt_cells Vx
 obtain ⟨vz_0, vz_1, vz_2, vz_3, vz_4, vz_5, vz_6, vz_7, vz_8⟩ := rg_cells Vz
 have vq_0 := row_cell Vq
 have vs_0 := row_cell Vs
 have vr_0 := row_cell Vr
 have VD : wV.drew.heap[w.heap.size + 1]? = some (.cells (rg false 0 0 false) 54) := Vz
 have hstz := st_r wV.drew (w.heap.size + 1) false T E more false 0 0 false VD
 go_region
 have RZ := setRow_row (c' := rg false T E more) VD
 obtain ⟨dz0, dz1, dz2, dz3, dz4, dz5, dz6, dz7, dz8⟩ := rg_cells RZ
 have bz := bel_set (c := rg false T E more) BV.drew ge
 go_wp2
 exact bodyPost_ret (v := .agg (rg false T E more)) (by simp [results, Tryz.results32, go_sem, dz0, dz1, dz2, dz3, dz4, dz5, dz6, dz7, dz8, rgf] <;> rfl) rfl ⟨rfl, bz⟩
theorem sr_no (f m : Int) (x1 y1 : Nat) (w : World)
  (KF : Box (∀ (T : TypeId) (g : Nat) (w : World), w.heap.size = g → FAt w → Calls Tryz.prog 11 #[.int .u8 f, .int .u8 m, .slice (some ⟨g, 0, none⟩) 1 1] (w.alloc (.cells #[.int .u64 x1, .int .u64 y1] T)) fun r w' => r = .returned (.bool false) ∧ Below w.heap.size w w'))
  (hT : FAt w) : Calls Tryz.prog 8 #[.int .u8 f, .int .u8 m, .agg #[.int .u64 x1, .int .u64 y1]] w fun r w' => r = .returned (.tuple #[.agg #[.int .u64 0, .int .u64 0], .int .u8 0, .int .i64 2]) ∧ Below w.heap.size w w' := by
 have FF := box hT
 clear hT
 obtain ⟨Ab, Ac, B0⟩ := opn2 w (Obj.cells #[.int .u64 x1, .int .u64 y1] 26) (Obj.cells #[.int .u64 0, .int .u64 0] 26)
 go_enter Tryz.func8, Tryz.ntmps8
 obtain ⟨Ad, Ae⟩ := cells2s Ab
 go_wp2_with fail
 refine (KF.out _ _ ((w.alloc (Obj.cells #[.int .u64 x1, .int .u64 y1] 26)).alloc (Obj.cells #[.int .u64 0, .int .u64 0] 26)) (by first | rfl | simp only [size_al]) (fatB FF.out B0)).mono ?_
 rintro r w1 ⟨rfl, b1⟩
 have B1 := btr B0 b1
 obtain ⟨Af, Aa⟩ := rws2 b1 Ab Ac
 clear b1 B0 Ab Ad Ae Ac
 obtain ⟨Ag, Ah⟩ := cells2s Af
 obtain ⟨Ai, Aj⟩ := cells2s Aa
 have q0 := fz (k := 0) Aa
 have q1 := fz (k := 1) Aa
 obtain ⟨E0, E1⟩ := set2_cells Aa (.int .u64 0) (.int .u64 0)
 go_wp2
 exact bodyPost_ret (v := .tuple #[.agg #[.int .u64 0, .int .u64 0], .int .u8 0, .int .i64 2]) (by simp [results, Tryz.results8, go_sem, E0, E1]) rfl ⟨rfl, set2_below B1 (by first | exact Nat.le_refl _ | omega | (skip; omega)) _ _⟩
theorem sr_all (f m : Int) (x1 y1 u v : Nat) (c1 m1 : Nat) (X1 : Int) (r1 : Nat) (S : Nat) (X fl : Int) (more : Bool) (w : World)
  (KF : Box (∀ (T : TypeId) (g : Nat) (w : World), w.heap.size = g → FAt w → Calls Tryz.prog 11 #[.int .u8 f, .int .u8 m, .slice (some ⟨g, 0, none⟩) 1 1] (w.alloc (.cells #[.int .u64 x1, .int .u64 y1] T)) fun r w' => r = .returned (.bool true) ∧ Below w.heap.size w w'))
  (KU1 : Box (∀ w, FAt w → Calls Tryz.prog 12 #[.int .u8 f, .agg #[.int .u64 x1, .int .u64 y1]] w fun r w' => r = .returned (.tuple #[.agg (pt c1 m1 X1 r1), .int .i64 0]) ∧ Below w.heap.size w w'))
  (H : Box ((((c1 : Int) == 9) = true ∧ Box (∀ w, FAt w → Calls Tryz.prog 15 #[.int .u8 f] w fun r w' => r = .returned (.agg #[.int .u64 u, .int .u64 v]) ∧ Below w.heap.size w w') ∧ fl = 0) ∨
   (((c1 : Int) == 9) = false ∧ ((c1 : Int) == 8) = true ∧ Box (∀ w, FAt w → Calls Tryz.prog 15 #[.int .u8 f] w fun r w' => r = .returned (.agg #[.int .u64 u, .int .u64 v]) ∧ Below w.heap.size w w') ∧ fl = 16) ∨
   (((c1 : Int) == 9) = false ∧ ((c1 : Int) == 8) = false ∧ ((c1 : Int) == 2) = true ∧ Box (∀ w, FAt w → Calls Tryz.prog 15 #[.int .u8 f] w fun r w' => r = .returned (.agg #[.int .u64 u, .int .u64 v]) ∧ Below w.heap.size w w') ∧ fl = 16) ∨
   (((c1 : Int) == 9) = false ∧ ((c1 : Int) == 8) = false ∧ ((c1 : Int) == 2) = false ∧ ((c1 : Int) == 1) = true ∧ Box (∀ w, FAt w → Calls Tryz.prog 15 #[.int .u8 f] w fun r w' => r = .returned (.agg #[.int .u64 u, .int .u64 v]) ∧ Below w.heap.size w w') ∧ fl = 16) ∨
   (((c1 : Int) == 9) = false ∧ ((c1 : Int) == 8) = false ∧ ((c1 : Int) == 2) = false ∧ ((c1 : Int) == 1) = false ∧ ((c1 : Int) == 0) = true ∧ Box (∀ w, FAt w → Calls Tryz.prog 15 #[.int .u8 f] w fun r w' => r = .returned (.agg #[.int .u64 u, .int .u64 v]) ∧ Below w.heap.size w w') ∧ fl = 16) ∨
   (((c1 : Int) == 9) = false ∧ ((c1 : Int) == 8) = false ∧ ((c1 : Int) == 2) = false ∧ ((c1 : Int) == 1) = false ∧ ((c1 : Int) == 0) = false ∧ ((c1 : Int) == 3) = true ∧ x1 = u ∧ y1 = v ∧ fl = 0) ∨
   (((c1 : Int) == 9) = false ∧ ((c1 : Int) == 8) = false ∧ ((c1 : Int) == 2) = false ∧ ((c1 : Int) == 1) = false ∧ ((c1 : Int) == 0) = false ∧ ((c1 : Int) == 3) = false ∧ ((c1 : Int) == 4) = true ∧ x1 = u ∧ y1 = v ∧ fl = 0) ∨
   (((c1 : Int) == 9) = false ∧ ((c1 : Int) == 8) = false ∧ ((c1 : Int) == 2) = false ∧ ((c1 : Int) == 1) = false ∧ ((c1 : Int) == 0) = false ∧ ((c1 : Int) == 3) = false ∧ ((c1 : Int) == 4) = false ∧ ((c1 : Int) == 7) = true ∧ x1 = u ∧ y1 = v ∧ fl = 0) ∨
   (((c1 : Int) == 9) = false ∧ ((c1 : Int) == 8) = false ∧ ((c1 : Int) == 2) = false ∧ ((c1 : Int) == 1) = false ∧ ((c1 : Int) == 0) = false ∧ ((c1 : Int) == 3) = false ∧ ((c1 : Int) == 4) = false ∧ ((c1 : Int) == 7) = false ∧ Box (∀ w, Calls Tryz.prog 32 #[.agg (pt c1 m1 X1 r1)] w fun r w' => r = .returned (.agg (rg false S X more)) ∧ Below w.heap.size w w') ∧ Box (∀ w, FAt w → Calls Tryz.prog 17 #[.int .u8 f, .int .u8 m, .agg (rg false S X more)] w fun r w' => r = .returned (.tuple #[.agg #[.int .u64 u, .int .u64 v], .int .u8 fl, .int .i64 0]) ∧ Below w.heap.size w w'))))
  (hT : FAt w) : Calls Tryz.prog 8 #[.int .u8 f, .int .u8 m, .agg #[.int .u64 x1, .int .u64 y1]] w fun r w' => r = .returned (.tuple #[.agg #[.int .u64 u, .int .u64 v], .int .u8 fl, .int .i64 0]) ∧ Below w.heap.size w w' := by
 have FF := box hT
 clear hT
 have hat := cw_at 6
 have hz := cw6z
 have hff := cw6f
 have hs0 := st0
 have hcs : ∀ x, ((cw 6 x).size = 6) = True := fun x => eq_true (cw_size 6 x)
 have hp1 := rgf
 have hp3 := rgz
 have hp5 : ∀ (c : Bool) (s : Nat) (x : Int) (r : Bool), ((rg c s x r).size = 9) = True := fun _ _ _ _ => eq_true rfl
 have A6 := ptf
 have A7 := ptz
 have A8 := st_p0
 have A9 : ∀ (c s : Nat) (x : Int) (r : Nat), ((pt c s x r).size = 14) = True := fun _ _ _ _ => eq_true rfl
 obtain ⟨As, Av, B0⟩ := opn2 w (Obj.cells #[.int .u64 x1, .int .u64 y1] 26) (Obj.cells #[.int .u64 0, .int .u64 0] 26)
 go_enter Tryz.func8, Tryz.ntmps8
 obtain ⟨Az, AA⟩ := cells2s As
 go_wp2_with fail
 refine (KF.out _ _ ((w.alloc (Obj.cells #[.int .u64 x1, .int .u64 y1] 26)).alloc (Obj.cells #[.int .u64 0, .int .u64 0] 26)) (by first | rfl | simp only [size_al]) (fatB FF.out B0)).mono ?_
 rintro r w1 ⟨rfl, b1⟩
 have B1 := btr B0 b1
 obtain ⟨At, Aw⟩ := rws2 b1 As Av
 clear b1 B0 As Az AA Av
 obtain ⟨AB, AC⟩ := cells2s At
 go_wp2_with fail
 refine (KU1.out _ (fatB FF.out B1)).mono ?_
 rintro r w2 ⟨rfl, b2⟩
 have B2 := btr B1 b2
 obtain ⟨Ao, Au⟩ := rws2 b2 At Aw
 clear b2 B1 At AB AC Aw
 obtain ⟨AD, AE⟩ := cells2s Ao
 have S3 := box B2.size
 have Ag := ltR Ao
 have Ah := ltR Au
 have Ac := heap_alloc_last w2 (Obj.cells (pt c1 m1 X1 r1) 43)
 have B3 := btr B2 (bal w2 (Obj.cells (pt c1 m1 X1 r1) 43))
 obtain ⟨Ad, Ab⟩ := rws2 (bal w2 (Obj.cells (pt c1 m1 X1 r1) 43)) Ao Au
 clear B2 Ao AD AE Au
 obtain ⟨Aj, Ak⟩ := cells2s Ad
 have Ai := (pt_cells Ac).1
 rcases H.out with ⟨h9, KN, rfl⟩ | ⟨h9, h8, KN, rfl⟩ | ⟨h9, h8, h2, KN, rfl⟩ | ⟨h9, h8, h2, h1, KN, rfl⟩ | ⟨h9, h8, h2, h1, h0, KN, rfl⟩ | ⟨h9, h8, h2, h1, h0, h3, rfl, rfl, rfl⟩ | ⟨h9, h8, h2, h1, h0, h3, h4, rfl, rfl, rfl⟩ | ⟨h9, h8, h2, h1, h0, h3, h4, h7, rfl, rfl, rfl⟩ | ⟨h9, h8, h2, h1, h0, h3, h4, h7, KX, KP⟩
 ·
  clear H
  go_wp2_with fail
  refine (KN.out _ (fatB FF.out B3)).mono ?_
  rintro r w4 ⟨rfl, b4⟩
  have B4 := btr B3 b4
  obtain ⟨Ae, Aa, Af⟩ := rws3 b4 Ad Ab Ac
  clear b4 B3 Ad Aj Ak Ab Ac Ai
  obtain ⟨Al, Am⟩ := cells2s Ae
  have An := (pt_cells Af).1
  obtain ⟨Ap, Aq⟩ := cells2s Aa
  have q0 := fz (k := 0) Aa
  have q1 := fz (k := 1) Aa
  obtain ⟨E0, E1⟩ := set2_cells Aa (.int .u64 u) (.int .u64 v)
  go_wp2
  exact bodyPost_ret (v := .tuple #[.agg #[.int .u64 u, .int .u64 v], .int .u8 0, .int .i64 0]) (by simp [results, Tryz.results8, go_sem, E0, E1]) rfl ⟨rfl, set2_below B4 (by first | exact Nat.le_refl _ | omega | (have := S3.out; have := Ag.out; have := Ah.out; omega)) _ _⟩
 ·
  clear H
  go_wp2_with fail
  refine (KN.out _ (fatB FF.out B3)).mono ?_
  rintro r w4 ⟨rfl, b4⟩
  have B4 := btr B3 b4
  obtain ⟨Ae, Aa, Af⟩ := rws3 b4 Ad Ab Ac
  clear b4 B3 Ad Aj Ak Ab Ac Ai
  obtain ⟨Al, Am⟩ := cells2s Ae
  have An := (pt_cells Af).1
  obtain ⟨Ap, Aq⟩ := cells2s Aa
  have q0 := fz (k := 0) Aa
  have q1 := fz (k := 1) Aa
  obtain ⟨E0, E1⟩ := set2_cells Aa (.int .u64 u) (.int .u64 v)
  go_wp2
  exact bodyPost_ret (v := .tuple #[.agg #[.int .u64 u, .int .u64 v], .int .u8 16, .int .i64 0]) (by simp [results, Tryz.results8, go_sem, E0, E1]) rfl ⟨rfl, set2_below B4 (by first | exact Nat.le_refl _ | omega | (have := S3.out; have := Ag.out; have := Ah.out; omega)) _ _⟩
 ·
  clear H
  go_wp2_with fail
  refine (KN.out _ (fatB FF.out B3)).mono ?_
  rintro r w4 ⟨rfl, b4⟩
  have B4 := btr B3 b4
  obtain ⟨Ae, Aa, Af⟩ := rws3 b4 Ad Ab Ac
  clear b4 B3 Ad Aj Ak Ab Ac Ai
  obtain ⟨Al, Am⟩ := cells2s Ae
  have An := (pt_cells Af).1
  obtain ⟨Ap, Aq⟩ := cells2s Aa
  have q0 := fz (k := 0) Aa
  have q1 := fz (k := 1) Aa
  obtain ⟨E0, E1⟩ := set2_cells Aa (.int .u64 u) (.int .u64 v)
  go_wp2
  exact bodyPost_ret (v := .tuple #[.agg #[.int .u64 u, .int .u64 v], .int .u8 16, .int .i64 0]) (by simp [results, Tryz.results8, go_sem, E0, E1]) rfl ⟨rfl, set2_below B4 (by first | exact Nat.le_refl _ | omega | (have := S3.out; have := Ag.out; have := Ah.out; omega)) _ _⟩
 ·
  clear H
  go_wp2_with fail
  refine (KN.out _ (fatB FF.out B3)).mono ?_
  rintro r w4 ⟨rfl, b4⟩
  have B4 := btr B3 b4
  obtain ⟨Ae, Aa, Af⟩ := rws3 b4 Ad Ab Ac
  clear b4 B3 Ad Aj Ak Ab Ac Ai
  obtain ⟨Al, Am⟩ := cells2s Ae
  have An := (pt_cells Af).1
  obtain ⟨Ap, Aq⟩ := cells2s Aa
  have q0 := fz (k := 0) Aa
  have q1 := fz (k := 1) Aa
  obtain ⟨E0, E1⟩ := set2_cells Aa (.int .u64 u) (.int .u64 v)
  go_wp2
  exact bodyPost_ret (v := .tuple #[.agg #[.int .u64 u, .int .u64 v], .int .u8 16, .int .i64 0]) (by simp [results, Tryz.results8, go_sem, E0, E1]) rfl ⟨rfl, set2_below B4 (by first | exact Nat.le_refl _ | omega | (have := S3.out; have := Ag.out; have := Ah.out; omega)) _ _⟩
 ·
  clear H
  go_wp2_with fail
  refine (KN.out _ (fatB FF.out B3)).mono ?_
  rintro r w4 ⟨rfl, b4⟩
  have B4 := btr B3 b4
  obtain ⟨Ae, Aa, Af⟩ := rws3 b4 Ad Ab Ac
  clear b4 B3 Ad Aj Ak Ab Ac Ai
  obtain ⟨Al, Am⟩ := cells2s Ae
  have An := (pt_cells Af).1
  obtain ⟨Ap, Aq⟩ := cells2s Aa
  have q0 := fz (k := 0) Aa
  have q1 := fz (k := 1) Aa
  obtain ⟨E0, E1⟩ := set2_cells Aa (.int .u64 u) (.int .u64 v)
  go_wp2
  exact bodyPost_ret (v := .tuple #[.agg #[.int .u64 u, .int .u64 v], .int .u8 16, .int .i64 0]) (by simp [results, Tryz.results8, go_sem, E0, E1]) rfl ⟨rfl, set2_below B4 (by first | exact Nat.le_refl _ | omega | (have := S3.out; have := Ag.out; have := Ah.out; omega)) _ _⟩
 ·
  clear H
  obtain ⟨Ax, Ay⟩ := cells2s Ab
  have q0 := fz (k := 0) Ab
  have q1 := fz (k := 1) Ab
  obtain ⟨E0, E1⟩ := set2_cells Ab (.int .u64 x1) (.int .u64 y1)
  go_wp2
  exact bodyPost_ret (v := .tuple #[.agg #[.int .u64 x1, .int .u64 y1], .int .u8 0, .int .i64 0]) (by simp [results, Tryz.results8, go_sem, E0, E1]) rfl ⟨rfl, set2_below B3 (by first | exact Nat.le_refl _ | omega | (have := S3.out; have := Ag.out; have := Ah.out; omega)) _ _⟩
 ·
  clear H
  obtain ⟨Ax, Ay⟩ := cells2s Ab
  have q0 := fz (k := 0) Ab
  have q1 := fz (k := 1) Ab
  obtain ⟨E0, E1⟩ := set2_cells Ab (.int .u64 x1) (.int .u64 y1)
  go_wp2
  exact bodyPost_ret (v := .tuple #[.agg #[.int .u64 x1, .int .u64 y1], .int .u8 0, .int .i64 0]) (by simp [results, Tryz.results8, go_sem, E0, E1]) rfl ⟨rfl, set2_below B3 (by first | exact Nat.le_refl _ | omega | (have := S3.out; have := Ag.out; have := Ah.out; omega)) _ _⟩
 ·
  clear H
  obtain ⟨Ax, Ay⟩ := cells2s Ab
  have q0 := fz (k := 0) Ab
  have q1 := fz (k := 1) Ab
  obtain ⟨E0, E1⟩ := set2_cells Ab (.int .u64 x1) (.int .u64 y1)
  go_wp2
  exact bodyPost_ret (v := .tuple #[.agg #[.int .u64 x1, .int .u64 y1], .int .u8 0, .int .i64 0]) (by simp [results, Tryz.results8, go_sem, E0, E1]) rfl ⟨rfl, set2_below B3 (by first | exact Nat.le_refl _ | omega | (have := S3.out; have := Ag.out; have := Ah.out; omega)) _ _⟩
 ·
  clear H
  obtain ⟨Ai, AF, AG, AH, AI, AJ, AK, AL, AM, AN, AO, AP, AQ, AR⟩ := pt_cells Ac
  go_wp2_with fail
  refine (KX.out _).mono ?_
  rintro r w4 ⟨rfl, b4⟩
  have B4 := btr B3 b4
  obtain ⟨Ae, Aa, Af⟩ := rws3 b4 Ad Ab Ac
  clear b4 B3 Ad Aj Ak Ab Ac Ai AF AG AH AI AJ AK AL AM AN AO AP AQ AR
  obtain ⟨Al, Am⟩ := cells2s Ae
  obtain ⟨An, AS, AT, AU, AV, AW, AX, AY, AZ, A0, A1, A2, A3, A4⟩ := pt_cells Af
  clear An AS AT AU AV AW AX AY AZ A0 A1 A2 A3 A4
  go_wp2_with fail
  refine (KP.out _ (fatB FF.out B4)).mono ?_
  rintro r w5 ⟨rfl, b5⟩
  have B5 := btr B4 b5
  obtain ⟨A5, Ar, Ba⟩ := rws3 b5 Ae Aa Af
  clear b5 B4 Ae Al Am Aa Af
  obtain ⟨Bb, Bc⟩ := cells2s A5
  obtain ⟨Bd, Be⟩ := cells2s Ar
  have q0 := fz (k := 0) Ar
  have q1 := fz (k := 1) Ar
  obtain ⟨E0, E1⟩ := set2_cells Ar (.int .u64 u) (.int .u64 v)
  go_wp2
  exact bodyPost_ret (v := .tuple #[.agg #[.int .u64 u, .int .u64 v], .int .u8 fl, .int .i64 0]) (by simp [results, Tryz.results8, go_sem, E0, E1]) rfl ⟨rfl, set2_below B5 (by first | exact Nat.le_refl _ | omega | (have := S3.out; have := Ag.out; have := Ah.out; omega)) _ _⟩
theorem rsr_no (f m : Int) (x1 y1 : Nat) (w : World)
  (KF : Box (∀ (T : TypeId) (g : Nat) (w : World), w.heap.size = g → Calls Tryz.prog 20 #[.int .u8 f, .int .u8 m, .slice (some ⟨g, 0, none⟩) 1 1] (w.alloc (.cells #[.int .u64 x1, .int .u64 y1] T)) fun r w' => r = .returned (.bool false) ∧ Below w.heap.size w w'))
  : Calls Tryz.prog 9 #[.int .u8 f, .int .u8 m, .agg #[.int .u64 x1, .int .u64 y1]] w fun r w' => r = .returned (.tuple #[.agg #[.int .u64 0, .int .u64 0], .int .u8 0, .int .i64 2]) ∧ Below w.heap.size w w' := by
 obtain ⟨Ab, Ac, B0⟩ := opn2 w (Obj.cells #[.int .u64 x1, .int .u64 y1] 26) (Obj.cells #[.int .u64 0, .int .u64 0] 26)
 go_enter Tryz.func9, Tryz.ntmps9
 obtain ⟨Ad, Ae⟩ := cells2s Ab
 go_wp2_with fail
 refine (KF.out _ _ ((w.alloc (Obj.cells #[.int .u64 x1, .int .u64 y1] 26)).alloc (Obj.cells #[.int .u64 0, .int .u64 0] 26)) (by first | rfl | simp only [size_al])).mono ?_
 rintro r w1 ⟨rfl, b1⟩
 have B1 := btr B0 b1
 obtain ⟨Af, Aa⟩ := rws2 b1 Ab Ac
 clear b1 B0 Ab Ad Ae Ac
 obtain ⟨Ag, Ah⟩ := cells2s Af
 obtain ⟨Ai, Aj⟩ := cells2s Aa
 have q0 := fz (k := 0) Aa
 have q1 := fz (k := 1) Aa
 obtain ⟨E0, E1⟩ := set2_cells Aa (.int .u64 0) (.int .u64 0)
 go_wp2
 exact bodyPost_ret (v := .tuple #[.agg #[.int .u64 0, .int .u64 0], .int .u8 0, .int .i64 2]) (by simp [results, Tryz.results9, go_sem, E0, E1]) rfl ⟨rfl, set2_below B1 (by first | exact Nat.le_refl _ | omega | (skip; omega)) _ _⟩
theorem rsr_all (f m : Int) (x1 y1 u v : Nat) (b1 : Bool) (n1 d1 : ByteArray) (e1 fl : Int) (w : World)
  (KF : Box (∀ (T : TypeId) (g : Nat) (w : World), w.heap.size = g → Calls Tryz.prog 20 #[.int .u8 f, .int .u8 m, .slice (some ⟨g, 0, none⟩) 1 1] (w.alloc (.cells #[.int .u64 x1, .int .u64 y1] T)) fun r w' => r = .returned (.bool true) ∧ Below w.heap.size w w'))
  (H : Box ((Box (∀ w, Calls Tryz.prog 21 #[.int .u8 f, .agg #[.int .u64 x1, .int .u64 y1]] w fun r w' => r = .returned (.bool true) ∧ Below w.heap.size w w') ∧ Box (∀ (T : TypeId) (g : Nat) (w : World), w.heap.size = g → Calls Tryz.prog 22 #[.int .u8 f, .slice (some ⟨g, 0, none⟩) 1 1] (w.alloc (.cells #[.int .u64 x1, .int .u64 y1] T)) fun r w' => r = .returned (.tuple #[.agg #[.int .u64 u, .int .u64 v], .int .u8 fl]) ∧ Below w.heap.size w w')) ∨
   (Box (∀ w, Calls Tryz.prog 21 #[.int .u8 f, .agg #[.int .u64 x1, .int .u64 y1]] w fun r w' => r = .returned (.bool false) ∧ Below w.heap.size w w') ∧ Box (∀ w, Calls Tryz.prog 25 #[.int .u8 f, .agg #[.int .u64 x1, .int .u64 y1]] w fun r w' => r = .returned (.bool true) ∧ Below w.heap.size w w') ∧ x1 = u ∧ y1 = v ∧ fl = 0) ∨
   (Box (∀ w, Calls Tryz.prog 21 #[.int .u8 f, .agg #[.int .u64 x1, .int .u64 y1]] w fun r w' => r = .returned (.bool false) ∧ Below w.heap.size w w') ∧ Box (∀ w, Calls Tryz.prog 25 #[.int .u8 f, .agg #[.int .u64 x1, .int .u64 y1]] w fun r w' => r = .returned (.bool false) ∧ Below w.heap.size w w') ∧ Box (∀ w, Calls Tryz.prog 23 #[.int .u8 f, .agg #[.int .u64 x1, .int .u64 y1]] w fun r w' => r = .returned (.bool true) ∧ Below w.heap.size w w') ∧ Box (∀ w, Calls Tryz.prog 26 #[.int .u8 f] w fun r w' => r = .returned (.agg #[.int .u64 u, .int .u64 v]) ∧ Below w.heap.size w w') ∧ fl = 16) ∨
   (Box (∀ w, Calls Tryz.prog 21 #[.int .u8 f, .agg #[.int .u64 x1, .int .u64 y1]] w fun r w' => r = .returned (.bool false) ∧ Below w.heap.size w w') ∧ Box (∀ w, Calls Tryz.prog 25 #[.int .u8 f, .agg #[.int .u64 x1, .int .u64 y1]] w fun r w' => r = .returned (.bool false) ∧ Below w.heap.size w w') ∧ Box (∀ w, Calls Tryz.prog 23 #[.int .u8 f, .agg #[.int .u64 x1, .int .u64 y1]] w fun r w' => r = .returned (.bool false) ∧ Below w.heap.size w w') ∧ Box (∀ w, Calls Tryz.prog 24 #[.int .u8 f, .agg #[.int .u64 x1, .int .u64 y1]] w fun r w' => r = .returned (.bool true) ∧ Below w.heap.size w w') ∧ x1 = u ∧ y1 = v ∧ fl = 0) ∨
   (Box (∀ w, Calls Tryz.prog 21 #[.int .u8 f, .agg #[.int .u64 x1, .int .u64 y1]] w fun r w' => r = .returned (.bool false) ∧ Below w.heap.size w w') ∧ Box (∀ w, Calls Tryz.prog 25 #[.int .u8 f, .agg #[.int .u64 x1, .int .u64 y1]] w fun r w' => r = .returned (.bool false) ∧ Below w.heap.size w w') ∧ Box (∀ w, Calls Tryz.prog 23 #[.int .u8 f, .agg #[.int .u64 x1, .int .u64 y1]] w fun r w' => r = .returned (.bool false) ∧ Below w.heap.size w w') ∧ Box (∀ w, Calls Tryz.prog 24 #[.int .u8 f, .agg #[.int .u64 x1, .int .u64 y1]] w fun r w' => r = .returned (.bool false) ∧ Below w.heap.size w w') ∧ Box (∀ w, Calls Tryz.prog 29 #[.int .u8 f, .agg #[.int .u64 x1, .int .u64 y1]] w fun r w' => r = .returned (.tuple #[.agg #[.bool b1, .string n1, .string d1, .int .i64 e1], .int .i64 0]) ∧ Below w.heap.size w w') ∧ Box (∀ w, Calls Tryz.prog 33 #[.int .u8 f, .int .u8 m, .agg #[.bool b1, .string n1, .string d1, .int .i64 e1]] w fun r w' => r = .returned (.tuple #[.agg #[.int .u64 u, .int .u64 v], .int .u8 fl, .int .i64 0]) ∧ Below w.heap.size w w'))))
  : Calls Tryz.prog 9 #[.int .u8 f, .int .u8 m, .agg #[.int .u64 x1, .int .u64 y1]] w fun r w' => r = .returned (.tuple #[.agg #[.int .u64 u, .int .u64 v], .int .u8 fl, .int .i64 0]) ∧ Below w.heap.size w w' := by
 obtain ⟨Au, AA, B0⟩ := opn2 w (Obj.cells #[.int .u64 x1, .int .u64 y1] 26) (Obj.cells #[.int .u64 0, .int .u64 0] 26)
 go_enter Tryz.func9, Tryz.ntmps9
 obtain ⟨AC, AD⟩ := cells2s Au
 go_wp2_with fail
 refine (KF.out _ _ ((w.alloc (Obj.cells #[.int .u64 x1, .int .u64 y1] 26)).alloc (Obj.cells #[.int .u64 0, .int .u64 0] 26)) (by first | rfl | simp only [size_al])).mono ?_
 rintro r w1 ⟨rfl, b1⟩
 have B1 := btr B0 b1
 obtain ⟨Ah, Ai⟩ := rws2 b1 Au AA
 clear b1 B0 Au AC AD AA
 obtain ⟨Aq, Ar⟩ := cells2s Ah
 rcases H.out with ⟨KN, KC⟩ | ⟨KN, KZ, rfl, rfl, rfl⟩ | ⟨KN, KZ, KS, KR, rfl⟩ | ⟨KN, KZ, KS, KI, rfl, rfl, rfl⟩ | ⟨KN, KZ, KS, KI, KV, KR⟩
 ·
  clear H
  go_wp2_with fail
  refine (KN.out _).mono ?_
  rintro r w2 ⟨rfl, b2⟩
  have B2 := btr B1 b2
  obtain ⟨Aa, Ad⟩ := rws2 b2 Ah Ai
  clear b2 B1 Ah Aq Ar Ai
  obtain ⟨Aj, Ak⟩ := cells2s Aa
  go_wp2_with fail
  refine (KC.out _ _ w2 (by first | rfl | simp only [size_al])).mono ?_
  rintro r w3 ⟨rfl, b3⟩
  have B3 := btr B2 b3
  obtain ⟨Ab, Ac⟩ := rws2 b3 Aa Ad
  clear b3 B2 Aa Aj Ak Ad
  obtain ⟨Al, Am⟩ := cells2s Ab
  have S4 := box B3.size
  have AE := ltR Ab
  have AF := ltR Ac
  have AG := heap_alloc_last w3 (Obj.cells #[.int .u64 u, .int .u64 v] 26)
  have B4 := btr B3 (bal w3 (Obj.cells #[.int .u64 u, .int .u64 v] 26))
  obtain ⟨Ae, Af⟩ := rws2 (bal w3 (Obj.cells #[.int .u64 u, .int .u64 v] 26)) Ab Ac
  clear B3 Ab Al Am Ac
  obtain ⟨Ao, Ap⟩ := cells2s Ae
  obtain ⟨AV, AW⟩ := cells2s AG
  obtain ⟨AX, AY⟩ := cells2s Af
  have q0 := fz (k := 0) Af
  have q1 := fz (k := 1) Af
  obtain ⟨E0, E1⟩ := set2_cells Af (.int .u64 u) (.int .u64 v)
  go_wp2
  exact bodyPost_ret (v := .tuple #[.agg #[.int .u64 u, .int .u64 v], .int .u8 fl, .int .i64 0]) (by simp [results, Tryz.results9, go_sem, E0, E1]) rfl ⟨rfl, set2_below B4 (by first | exact Nat.le_refl _ | omega | (have := S4.out; have := AE.out; have := AF.out; omega)) _ _⟩
 ·
  clear H
  go_wp2_with fail
  refine (KN.out _).mono ?_
  rintro r w2 ⟨rfl, b2⟩
  have B2 := btr B1 b2
  obtain ⟨Aa, Ad⟩ := rws2 b2 Ah Ai
  clear b2 B1 Ah Aq Ar Ai
  obtain ⟨Aj, Ak⟩ := cells2s Aa
  go_wp2_with fail
  refine (KZ.out _).mono ?_
  rintro r w3 ⟨rfl, b3⟩
  have B3 := btr B2 b3
  obtain ⟨Ab, Ac⟩ := rws2 b3 Aa Ad
  clear b3 B2 Aa Aj Ak Ad
  obtain ⟨Al, Am⟩ := cells2s Ab
  obtain ⟨AZ, A0⟩ := cells2s Ac
  have q0 := fz (k := 0) Ac
  have q1 := fz (k := 1) Ac
  obtain ⟨E0, E1⟩ := set2_cells Ac (.int .u64 x1) (.int .u64 y1)
  go_wp2
  exact bodyPost_ret (v := .tuple #[.agg #[.int .u64 x1, .int .u64 y1], .int .u8 0, .int .i64 0]) (by simp [results, Tryz.results9, go_sem, E0, E1]) rfl ⟨rfl, set2_below B3 (by first | exact Nat.le_refl _ | omega | (skip; omega)) _ _⟩
 ·
  clear H
  go_wp2_with fail
  refine (KN.out _).mono ?_
  rintro r w2 ⟨rfl, b2⟩
  have B2 := btr B1 b2
  obtain ⟨Aa, Ad⟩ := rws2 b2 Ah Ai
  clear b2 B1 Ah Aq Ar Ai
  obtain ⟨Aj, Ak⟩ := cells2s Aa
  go_wp2_with fail
  refine (KZ.out _).mono ?_
  rintro r w3 ⟨rfl, b3⟩
  have B3 := btr B2 b3
  obtain ⟨Ab, Ac⟩ := rws2 b3 Aa Ad
  clear b3 B2 Aa Aj Ak Ad
  obtain ⟨Al, Am⟩ := cells2s Ab
  go_wp2_with fail
  refine (KS.out _).mono ?_
  rintro r w4 ⟨rfl, b4⟩
  have B4 := btr B3 b4
  obtain ⟨Ae, Af⟩ := rws2 b4 Ab Ac
  clear b4 B3 Ab Al Am Ac
  obtain ⟨Ao, Ap⟩ := cells2s Ae
  go_wp2_with fail
  refine (KR.out _).mono ?_
  rintro r w5 ⟨rfl, b5⟩
  have B5 := btr B4 b5
  obtain ⟨An, Ag⟩ := rws2 b5 Ae Af
  clear b5 B4 Ae Ao Ap Af
  obtain ⟨Av, Aw⟩ := cells2s An
  obtain ⟨AH, AI⟩ := cells2s Ag
  have q0 := fz (k := 0) Ag
  have q1 := fz (k := 1) Ag
  obtain ⟨E0, E1⟩ := set2_cells Ag (.int .u64 u) (.int .u64 v)
  go_wp2
  exact bodyPost_ret (v := .tuple #[.agg #[.int .u64 u, .int .u64 v], .int .u8 16, .int .i64 0]) (by simp [results, Tryz.results9, go_sem, E0, E1]) rfl ⟨rfl, set2_below B5 (by first | exact Nat.le_refl _ | omega | (skip; omega)) _ _⟩
 ·
  clear H
  go_wp2_with fail
  refine (KN.out _).mono ?_
  rintro r w2 ⟨rfl, b2⟩
  have B2 := btr B1 b2
  obtain ⟨Aa, Ad⟩ := rws2 b2 Ah Ai
  clear b2 B1 Ah Aq Ar Ai
  obtain ⟨Aj, Ak⟩ := cells2s Aa
  go_wp2_with fail
  refine (KZ.out _).mono ?_
  rintro r w3 ⟨rfl, b3⟩
  have B3 := btr B2 b3
  obtain ⟨Ab, Ac⟩ := rws2 b3 Aa Ad
  clear b3 B2 Aa Aj Ak Ad
  obtain ⟨Al, Am⟩ := cells2s Ab
  go_wp2_with fail
  refine (KS.out _).mono ?_
  rintro r w4 ⟨rfl, b4⟩
  have B4 := btr B3 b4
  obtain ⟨Ae, Af⟩ := rws2 b4 Ab Ac
  clear b4 B3 Ab Al Am Ac
  obtain ⟨Ao, Ap⟩ := cells2s Ae
  go_wp2_with fail
  refine (KI.out _).mono ?_
  rintro r w5 ⟨rfl, b5⟩
  have B5 := btr B4 b5
  obtain ⟨An, Ag⟩ := rws2 b5 Ae Af
  clear b5 B4 Ae Ao Ap Af
  obtain ⟨Av, Aw⟩ := cells2s An
  obtain ⟨AH, AI⟩ := cells2s Ag
  have q0 := fz (k := 0) Ag
  have q1 := fz (k := 1) Ag
  obtain ⟨E0, E1⟩ := set2_cells Ag (.int .u64 x1) (.int .u64 y1)
  go_wp2
  exact bodyPost_ret (v := .tuple #[.agg #[.int .u64 x1, .int .u64 y1], .int .u8 0, .int .i64 0]) (by simp [results, Tryz.results9, go_sem, E0, E1]) rfl ⟨rfl, set2_below B5 (by first | exact Nat.le_refl _ | omega | (skip; omega)) _ _⟩
 ·
  clear H
  go_wp2_with fail
  refine (KN.out _).mono ?_
  rintro r w2 ⟨rfl, b2⟩
  have B2 := btr B1 b2
  obtain ⟨Aa, Ad⟩ := rws2 b2 Ah Ai
  clear b2 B1 Ah Aq Ar Ai
  obtain ⟨Aj, Ak⟩ := cells2s Aa
  go_wp2_with fail
  refine (KZ.out _).mono ?_
  rintro r w3 ⟨rfl, b3⟩
  have B3 := btr B2 b3
  obtain ⟨Ab, Ac⟩ := rws2 b3 Aa Ad
  clear b3 B2 Aa Aj Ak Ad
  obtain ⟨Al, Am⟩ := cells2s Ab
  go_wp2_with fail
  refine (KS.out _).mono ?_
  rintro r w4 ⟨rfl, b4⟩
  have B4 := btr B3 b4
  obtain ⟨Ae, Af⟩ := rws2 b4 Ab Ac
  clear b4 B3 Ab Al Am Ac
  obtain ⟨Ao, Ap⟩ := cells2s Ae
  go_wp2_with fail
  refine (KI.out _).mono ?_
  rintro r w5 ⟨rfl, b5⟩
  have B5 := btr B4 b5
  obtain ⟨An, Ag⟩ := rws2 b5 Ae Af
  clear b5 B4 Ae Ao Ap Af
  obtain ⟨Av, Aw⟩ := cells2s An
  go_wp2_with fail
  refine (KV.out _).mono ?_
  rintro r w6 ⟨rfl, b6⟩
  have B6 := btr B5 b6
  obtain ⟨As, Ax⟩ := rws2 b6 An Ag
  clear b6 B5 An Av Aw Ag
  obtain ⟨AJ, AK⟩ := cells2s As
  have S7 := box B6.size
  have AL := ltR As
  have AM := ltR Ax
  have Ay := heap_alloc_last w6 (Obj.cells #[.bool b1, .string n1, .string d1, .int .i64 e1] 63)
  have B7 := btr B6 (bal w6 (Obj.cells #[.bool b1, .string n1, .string d1, .int .i64 e1] 63))
  obtain ⟨Az, AB⟩ := rws2 (bal w6 (Obj.cells #[.bool b1, .string n1, .string d1, .int .i64 e1] 63)) As Ax
  clear B6 As AJ AK Ax
  obtain ⟨AN, AO⟩ := cells2s Az
  obtain ⟨AP, AQ, AR, AS⟩ := cells4s Ay
  go_wp2_with fail
  refine (KR.out _).mono ?_
  rintro r w8 ⟨rfl, b8⟩
  have B8 := btr B7 b8
  obtain ⟨AT, At, AU⟩ := rws3 b8 Az AB Ay
  clear b8 B7 Az AN AO AB Ay AP AQ AR AS
  obtain ⟨A1, A2⟩ := cells2s AT
  obtain ⟨A3, A4, A5, A6⟩ := cells4s AU
  obtain ⟨A7, A8⟩ := cells2s At
  have q0 := fz (k := 0) At
  have q1 := fz (k := 1) At
  obtain ⟨E0, E1⟩ := set2_cells At (.int .u64 u) (.int .u64 v)
  go_wp2
  exact bodyPost_ret (v := .tuple #[.agg #[.int .u64 u, .int .u64 v], .int .u8 fl, .int .i64 0]) (by simp [results, Tryz.results9, go_sem, E0, E1]) rfl ⟨rfl, set2_below B8 (by first | exact Nat.le_refl _ | omega | (have := S7.out; have := AL.out; have := AM.out; omega)) _ _⟩
end Go.Proofs.YtpgiabmmmpdobaaGreatDoor
namespace Go.Proofs.YtpgiabmmmpdobaaGreatDoor
set_option maxRecDepth 100000
set_option maxHeartbeats 40000000
set_option maxRecDepth 100000
open Go.RowKit WMath XMath
set_option linter.unusedSimpArgs false
set_option linter.unusedVariables false
theorem and_odd (d : Int) (h1 : -9223372036854775808 ≤ d) (h2 : d ≤ 9223372036854775807) : bits .and .i64 d 1 = d % 2 := by
 show IntKind.i64.wrap ((BitVec.ofInt 64 d &&& BitVec.ofInt 64 1).toNat : Int) = _
 have e1 : (BitVec.ofInt 64 1).toNat = 2 ^ 1 - 1 := by decide
 have e2 : (BitVec.ofInt 64 d).toNat = (d % 18446744073709551616).toNat := BitVec.toNat_ofInt d
 rw [BitVec.toNat_and, e1, Nat.and_two_pow_sub_one_eq_mod, IntKind.wrap_i64, e2]
 omega
def sK (f : Int) (a : Nat) : Nat := 230 - blen (kS f a) - ((kX f a - (230 - (blen (kS f a) : Int))) % 2).toNat
def SqR (f m : Int) (a M : Nat) (fl : Int) : Prop :=
  if kC f a = 8 then M = eNaN f ∧ fl = 16
  else if kC f a = 9 then M = eNaN f ∧ fl = 0
  else if kC f a = 3 ∨ kC f a = 4 ∨ kC f a = 7 then M = a ∧ fl = 0
  else if kC f a ≤ 2 then M = eNaN f ∧ fl = 16
  else ∃ q, RootIs (kS f a * 2 ^ sK f a) q ∧ dlv f m false ((kX f a - (sK f a : Int)) / 2 + (blen q : Int) - 1) (qW (pV f + 1) q) (qM (pV f + 1) q (!decide (kS f a * 2 ^ sK f a - q * q = 0))) = (M, fl)
theorem sqR_some (f m : Int) (a : Nat) : ∃ M fl, SqR f m a M fl := by
 unfold SqR
 split
 ·
  exact ⟨_, _, rfl, rfl⟩
 split
 ·
  exact ⟨_, _, rfl, rfl⟩
 split
 ·
  exact ⟨_, _, rfl, rfl⟩
 split
 ·
  exact ⟨_, _, rfl, rfl⟩
 ·
  obtain ⟨q, hq⟩ := root_any (kS f a * 2 ^ sK f a)
  exact ⟨_, _, q, hq, rfl⟩
theorem sK_is {f : Int} (hf : Is4 f) (a : Nat) (h : kC f a = 1 ∨ kC f a = 2 ∨ kC f a = 5 ∨ kC f a = 6) : 116 ≤ sK f a ∧ sK f a ≤ 229 ∧ kX f a = 2 * ((kX f a - (sK f a : Int)) / 2) + (sK f a : Int) ∧ (blen (kS f a) + sK f a = 230 ∨ blen (kS f a) + sK f a = 229) := by
 obtain ⟨b1, b2⟩ := kS_blen hf a h
 unfold sK
 omega
theorem root_len {N q : Nat} (hq : RootIs N q) (h : blen N = 230 ∨ blen N = 229) : blen q = 115 := by
 obtain ⟨q1, q2⟩ := hq
 have n0 : N ≠ 0 := fun e => by
  rw [e] at h
  have : blen 0 = 0 := by unfold blen; rw [if_pos rfl]
  omega
 obtain ⟨l1, l2, l3⟩ := blen_low N n0
 have u1 : N < 2 ^ 230 := (blen_iff N 230).1 (by omega)
 have u2 : 2 ^ 228 ≤ N := Nat.le_trans (Nat.pow_le_pow_right (by decide) (by omega)) l2
 have s1 : q < 2 ^ 115 := by
  rcases Nat.lt_or_ge q (2 ^ 115) with c | c
  ·
   exact c
  ·
   have := Nat.mul_le_mul c c
   rw [← Nat.pow_add] at this
   omega
 have s2 : 2 ^ 114 ≤ q := by
  rcases Nat.lt_or_ge q (2 ^ 114) with c | c
  ·
   have := Nat.mul_le_mul (show q + 1 ≤ 2 ^ 114 by omega) (show q + 1 ≤ 2 ^ 114 by omega)
   rw [← Nat.pow_add] at this
   omega
  ·
   exact c
 have t1 := (blen_iff q 115).2 s1
 have t2 : ¬ blen q ≤ 114 := fun c => by
  have := (blen_iff q 114).1 c
  omega
 omega
theorem sqR_rts {f : Int} (hf : Is4 f) (m : Int) (a M : Nat) (fl : Int) (c : kC f a = 5 ∨ kC f a = 6) (h : SqR f m a M fl) : Rts f m ⟨false, od (kS f a), 1, kX f a + (tz (kS f a) : Int)⟩ M fl := by
 unfold SqR at h
 rw [if_neg (by omega), if_neg (by omega), if_neg (by omega), if_neg (by omega)] at h
 obtain ⟨q, hq, hd⟩ := h
 obtain ⟨k1, k2, k3, k4⟩ := sK_is hf a (by omega)
 obtain ⟨l1, l2, l3⟩ := kS_lim hf a
 obtain ⟨p1, p2, p3, p4⟩ := k_parts (f := f) a (by omega)
 have bq := root_len hq (by rw [blen_shift _ _ p4]; exact k4)
 have l112 : pV f ≤ 112 := by rcases hf with rfl | rfl | rfl | rfl <;> decide
 exact root_num hf m (kS f a) (sK f a) q _ (kX f a) ((kX f a - (sK f a : Int)) / 2) p4 l1 k3 (by omega) (by omega) (by omega) hq (by rw [Bool.not_not]) (by omega) (by omega) M fl hd
theorem sqR_flag {f : Int} (hf : Is4 f) (m : Int) (a M : Nat) (fl : Int) (h : SqR f m a M fl) : fl = 0 ∨ fl = 1 ∨ fl = 16 := by
 have lc := kC_lt f a
 by_cases c : kC f a = 5 ∨ kC f a = 6
 ·
  unfold SqR at h
  rw [if_neg (by omega), if_neg (by omega), if_neg (by omega), if_neg (by omega)] at h
  obtain ⟨q, hq, hd⟩ := h
  obtain ⟨k1, k2, k3, k4⟩ := sK_is hf a (by omega)
  obtain ⟨p1, p2, p3, p4⟩ := k_parts (f := f) a (by omega)
  have bq := root_len hq (by rw [blen_shift _ _ p4]; exact k4)
  have l112 : pV f ≤ 112 := by rcases hf with rfl | rfl | rfl | rfl <;> decide
  have rm := root_mid hf a (by omega)
  have q0 : q ≠ 0 := fun e => by
   rw [e] at bq
   have : blen 0 = 0 := by unfold blen; rw [if_pos rfl]
   omega
  have mf := mid_flag hf (q_ok q q0) m false ((kX f a - (sK f a : Int)) / 2 + (blen q : Int) - 1) (qM (pV f + 1) q (!decide (kS f a * 2 ^ sK f a - q * q = 0))) (by omega) (by omega)
  rw [hd] at mf
  rcases mf with e | e
  ·
   exact Or.inl e
  ·
   exact Or.inr (Or.inl e)
 ·
  unfold SqR at h
  repeat' split at h
  ·
   exact Or.inr (Or.inr h.2)
  ·
   exact Or.inl h.2
  ·
   exact Or.inl h.2
  ·
   exact Or.inr (Or.inr h.2)
  ·
   omega
theorem kSqrt_is (f m : Int) (hf : Is4 f) (hm : 0 ≤ m ∧ m ≤ 4) (x1 y1 a : Nat) (hx1 : x1 < 18446744073709551616) (hy1 : y1 < 18446744073709551616) (ha : y1 + 18446744073709551616 * x1 = a)
  (oa : okB f a = true) (M : Nat) (fl : Int) (hr : SqR f m a M fl) (u v : Nat) (hv : bv7 M = (u, v)) (w : World) (hT : FAt w) :
  Calls Tryz.prog 8 #[.int .u8 f, .int .u8 m, .agg #[.int .u64 x1, .int .u64 y1]] w fun r w' => r = .returned (.tuple #[.agg #[.int .u64 u, .int .u64 v], .int .u8 fl, .int .i64 0]) ∧ Below w.heap.size w w' := by
 have KF := kmay1 f m (is4_ok hf).1 (is4_ok hf).2.1 hm.1 x1 y1 a hx1 hy1 ha true (by rw [oa, decide_eq_true (show f ≤ 3 ∧ m ≤ 4 from ⟨is4_le hf, hm.2⟩)]; rfl)
 obtain ⟨sa1, sa2, sa3⟩ := kS_lim hf a
 have ba := fun h => kS_blen hf a h
 have sk := fun h => sK_is hf a h
 have p1 := fun h => k_parts (f := f) a h
 have lc1 := kC_lt f a
 obtain ⟨c1, Aa⟩ : ∃ c, kC f a = c := ⟨_, rfl⟩
 obtain ⟨m1, hm1⟩ : ∃ c, kS f a = c := ⟨_, rfl⟩
 obtain ⟨X1, hX1⟩ : ∃ c, kX f a = c := ⟨_, rfl⟩
 obtain ⟨k, hk⟩ : ∃ k, sK f a = k := ⟨_, rfl⟩
 have KU1 : Box (∀ w, FAt w → Calls Tryz.prog 12 #[.int .u8 f, .agg #[.int .u64 x1, .int .u64 y1]] w fun r w' => r = .returned (.tuple #[.agg (pt c1 m1 X1 (kF f a)), .int .i64 0]) ∧ Below w.heap.size w w') := box (fun w hT => kUnpack_yes f hf x1 y1 a c1 m1 (kF f a) X1 hx1 hy1 ha oa (by unfold kp; rw [Aa, hm1, hX1]) w hT)
 unfold SqR at hr
 have hk2 := hk
 unfold sK at hk2
 rw [Aa, hX1, hm1, hk] at hr
 rw [Aa, hm1, hX1, hk] at sk
 rw [Aa, hm1] at p1 ba
 rw [Aa] at lc1
 rw [hm1] at sa1
 rw [hX1] at sa2 sa3
 rw [hm1, hX1] at hk2
 have KN : bv7 (eNaN f) = (u, v) → Box (∀ w, FAt w → Calls Tryz.prog 15 #[.int .u8 f] w fun r w' => r = .returned (.agg #[.int .u64 u, .int .u64 v]) ∧ Below w.heap.size w w') := fun h => box (fun w hT => kNaN_is f hf u v h w hT)
 have e1 : bv7 a = (x1, y1) := by unfold bv7; rw [← ha]; congr 1 <;> omega
 by_cases d8 : c1 = 8
 ·
  rw [if_pos d8] at hr
  obtain ⟨rfl, rfl⟩ := hr
  exact sr_all f m x1 y1 u v c1 m1 X1 _ 0 0 _ false w KF KU1 (box (Or.inr (Or.inl (⟨(ine (by omega)), (ieq (by omega)), KN hv, rfl⟩)))) hT
 rw [if_neg d8] at hr
 by_cases d9 : c1 = 9
 ·
  rw [if_pos d9] at hr
  obtain ⟨rfl, rfl⟩ := hr
  exact sr_all f m x1 y1 u v c1 m1 X1 _ 0 0 _ false w KF KU1 (box (Or.inl (⟨(ieq (by omega)), KN hv, rfl⟩))) hT
 rw [if_neg d9] at hr
 by_cases d3 : c1 = 3 ∨ c1 = 4 ∨ c1 = 7
 ·
  rw [if_pos d3] at hr
  obtain ⟨rfl, rfl⟩ := hr
  rw [e1] at hv
  injection hv with v1 v2
  subst v1 v2
  by_cases d : c1 = 3
  ·
   exact sr_all f m x1 y1 x1 y1 c1 m1 X1 _ 0 0 _ false w KF KU1 (box (Or.inr (Or.inr (Or.inr (Or.inr (Or.inr (Or.inl (⟨(ine (by omega)), (ine (by omega)), (ine (by omega)), (ine (by omega)), (ine (by omega)), (ieq (by omega)), rfl, rfl, rfl⟩)))))))) hT
  by_cases d4 : c1 = 4
  ·
   exact sr_all f m x1 y1 x1 y1 c1 m1 X1 _ 0 0 _ false w KF KU1 (box (Or.inr (Or.inr (Or.inr (Or.inr (Or.inr (Or.inr (Or.inl (⟨(ine (by omega)), (ine (by omega)), (ine (by omega)), (ine (by omega)), (ine (by omega)), (ine (by omega)), (ieq (by omega)), rfl, rfl, rfl⟩))))))))) hT
  ·
   exact sr_all f m x1 y1 x1 y1 c1 m1 X1 _ 0 0 _ false w KF KU1 (box (Or.inr (Or.inr (Or.inr (Or.inr (Or.inr (Or.inr (Or.inr (Or.inl (⟨(ine (by omega)), (ine (by omega)), (ine (by omega)), (ine (by omega)), (ine (by omega)), (ine (by omega)), (ine (by omega)), (ieq (by omega)), rfl, rfl, rfl⟩)))))))))) hT
 rw [if_neg d3] at hr
 by_cases d2 : c1 ≤ 2
 ·
  rw [if_pos d2] at hr
  obtain ⟨rfl, rfl⟩ := hr
  by_cases d : c1 = 2
  ·
   exact sr_all f m x1 y1 u v c1 m1 X1 _ 0 0 _ false w KF KU1 (box (Or.inr (Or.inr (Or.inl (⟨(ine (by omega)), (ine (by omega)), (ieq (by omega)), KN hv, rfl⟩))))) hT
  by_cases d1 : c1 = 1
  ·
   exact sr_all f m x1 y1 u v c1 m1 X1 _ 0 0 _ false w KF KU1 (box (Or.inr (Or.inr (Or.inr (Or.inl (⟨(ine (by omega)), (ine (by omega)), (ine (by omega)), (ieq (by omega)), KN hv, rfl⟩)))))) hT
  ·
   exact sr_all f m x1 y1 u v c1 m1 X1 _ 0 0 _ false w KF KU1 (box (Or.inr (Or.inr (Or.inr (Or.inr (Or.inl (⟨(ine (by omega)), (ine (by omega)), (ine (by omega)), (ine (by omega)), (ieq (by omega)), KN hv, rfl⟩))))))) hT
 rw [if_neg d2] at hr
 obtain ⟨a1, a2⟩ := ba (by omega)
 obtain ⟨k1, k2, k3, k4⟩ := sk (by omega)
 have m10 := (p1 (by omega)).2.2.2
 obtain ⟨q, hq, hd⟩ := hr
 have bs := blen_shift m1 k m10
 have bq := root_len hq (by rw [bs]; exact k4)
 obtain ⟨x, hx⟩ : ∃ x, m1 * 2 ^ k = x := ⟨_, rfl⟩
 obtain ⟨E, hE⟩ : ∃ E, (X1 - (k : Int)) / 2 = E := ⟨_, rfl⟩
 rw [hx] at hq hd bs
 rw [hE] at hd k3
 obtain ⟨y, hy⟩ : ∃ y, x - q * q = y := ⟨_, rfl⟩
 rw [hy] at hd
 obtain ⟨more, hmo⟩ : ∃ o, (!decide (y = 0)) = o := ⟨_, rfl⟩
 rw [hmo] at hd
 have xQ : x < Q := q256 ((blen_iff x 256).1 (by omega))
 have qQ : q < Q := q256 ((blen_iff q 256).1 (by omega))
 have yQ : y < Q := by omega
 have q0 : q ≠ 0 := fun h => by
  rw [h] at bq
  have : blen 0 = 0 := by unfold blen; rw [if_pos rfl]
  omega
 have ck : cnt6 (k : Int) = k := by unfold cnt6; omega
 have KL1 : Box (∀ w, Calls Tryz.prog 56 #[.agg (cw 6 m1)] w fun r w' => r = .returned (.int .i64 (blen m1 : Nat)) ∧ Below w.heap.size w w') := box (fun w => wlen_is m1 _ (lt_Q7 sa1) rfl w)
 have KD : Box (∀ w, Calls Tryz.prog 76 #[.agg (cw 6 m1), .int .i64 (k : Nat)] w fun r w' => r = .returned (.tuple #[.agg (cw 6 x), .bool false]) ∧ Below w.heap.size w w') := box (fun w => wleft_is m1 x (k : Int) false (lt_Q7 sa1) (by rw [ck, hx]; exact Nat.mod_eq_of_lt xQ) (by rw [ck, hx]; exact decide_eq_false (Nat.not_le.2 xQ)) w)
 have KQ : Box (∀ w, Calls Tryz.prog 77 #[.agg (cw 6 x)] w fun r w' => r = .returned (.tuple #[.agg (cw 6 q), .agg (cw 6 y)]) ∧ Below w.heap.size w w') := box (fun w => qsqrt_is x q y xQ hq hy w)
 have KX : Box (∀ w, Calls Tryz.prog 32 #[.agg (pt c1 m1 X1 (kF f a))] w fun r w' => r = .returned (.agg (rg false q E more)) ∧ Below w.heap.size w w') := box (fun w => sr_root c1 m1 X1 _ x q y (blen m1 : Nat) (230 - (blen m1 : Int)) (X1 - (230 - (blen m1 : Int))) ((X1 - (230 - (blen m1 : Int))) % 2) (k : Int) (X1 - (k : Int)) E false more w KL1 (wrap_i64_is _ (by omega) (by omega)) (wrap_i64_is _ (by omega) (by omega)) (and_odd _ (by omega) (by omega)) (by rw [wrap_i64_is _ (by omega) (by omega)]; omega) KD KQ (wrap_i64_is _ (by omega) (by omega)) hE (wrap_i64_is _ (by omega) (by omega)) hmo yQ)
 have l112 : pV f ≤ 112 := by rcases hf with rfl | rfl | rfl | rfl <;> decide
 exact sr_all f m x1 y1 u v c1 m1 X1 _ q E fl more w KF KU1 (box (Or.inr (Or.inr (Or.inr (Or.inr (Or.inr (Or.inr (Or.inr (Or.inr (⟨(ine (by omega)), (ine (by omega)), (ine (by omega)), (ine (by omega)), (ine (by omega)), (ine (by omega)), (ine (by omega)), (ine (by omega)), KX, box (fun w hT => kPack_is f m hf hm false q qQ q0 E more (by omega) (by omega) (fun _ => by omega) M fl hd u v hv w hT)⟩)))))))))) hT
theorem al14 : SqR 2 0 17408 16384 0 ∧ okB 2 17408 = true := by
 refine ⟨?_, by decide +kernel⟩
 have c : kC 2 17408 = 6 := by decide +kernel
 unfold SqR
 rw [c, if_neg (by decide), if_neg (by decide), if_neg (by decide), if_neg (by decide)]
 exact ⟨2 ^ 114, by unfold RootIs; decide +kernel, by decide +kernel⟩
theorem r14alive (w : World) (hT : FAt w) : Calls Tryz.prog 10 #[] w fun r w' => r = .returned (.bool true) ∧ Below w.heap.size w w' := by
 have FF := box hT
 have K1 : Box (∀ w, FAt w → Calls Tryz.prog 8 #[.int .u8 2, .int .u8 0, .agg #[.int .u64 0, .int .u64 17408]] w fun r w' => r = .returned (.tuple #[.agg #[.int .u64 0, .int .u64 16384], .int .u8 0, .int .i64 0]) ∧ Below w.heap.size w w') := box (fun w hT => kSqrt_is 2 0 (by unfold Is4; omega) (by decide) 0 17408 17408 (by decide) (by decide) rfl al14.2 16384 0 al14.1 0 16384 rfl w hT)
 clear hT
 have B0 : Below w.heap.size w w := (Below.refl _ _)
 go_enter Tryz.func10, Tryz.ntmps10
 go_wp2_with fail
 refine (K1.out _ (fatB FF.out B0)).mono ?_
 rintro r w1 ⟨rfl, b1⟩
 have B1 := btr B0 b1
 clear b1 B0 
 have S2 := box B1.size
 have Aa := heap_alloc_last w1 (Obj.cells #[.int .u64 0, .int .u64 16384] 26)
 have B2 := btr B1 (bal w1 (Obj.cells #[.int .u64 0, .int .u64 16384] 26))
 clear B1 
 obtain ⟨Ab, Ac⟩ := cells2s Aa
 go_wp2
 go_ret
 exact ⟨rfl, B2⟩
theorem kN_of {f : Int} {n : Nat} : (kC f n ≤ 3 → kN f n = true) ∧ (4 ≤ kC f n → kC f n ≤ 7 → kN f n = false) := by
 rcases Bool.eq_false_or_eq_true (kN f n) with c | c
 ·
  refine ⟨fun _ => c, fun h1 h2 => ?_⟩
  unfold kC at h1 h2
  rw [c] at h1 h2
  simp only [if_true] at h1 h2
  repeat' split at h1
  all_goals simp_all
 ·
  refine ⟨fun h1 => ?_, fun _ _ => c⟩
  unfold kC at h1
  rw [c] at h1
  simp only [Bool.false_eq_true, if_false] at h1
  repeat' split at h1
  all_goals omega
theorem rSqrt_is (f m : Int) (hf : Is4 f) (hm : 0 ≤ m ∧ m ≤ 4) (x1 y1 a : Nat) (hx1 : x1 < 18446744073709551616) (hy1 : y1 < 18446744073709551616) (ha : y1 + 18446744073709551616 * x1 = a)
  (oa : okB f a = true) (M : Nat) (fl : Int) (hr : SqR f m a M fl) (u v : Nat) (hv : bv7 M = (u, v)) (w : World) :
  Calls Tryz.prog 9 #[.int .u8 f, .int .u8 m, .agg #[.int .u64 x1, .int .u64 y1]] w fun r w' => r = .returned (.tuple #[.agg #[.int .u64 u, .int .u64 v], .int .u8 fl, .int .i64 0]) ∧ Below w.heap.size w w' := by
 have h0 := (is4_ok hf).1
 have fa := (okB_yes h0 oa).2
 have KF := rfit1 f m h0 x1 y1 a hx1 hy1 ha true (by rw [oa, decide_eq_true (show f ≤ 3 ∧ m ≤ 4 from ⟨is4_le hf, hm.2⟩)]; rfl)
 have lc := kC_lt f a
 have kn := kN_of (f := f) (n := a)
 have rts := fun c => sqR_rts hf m a M fl c hr
 have e1 : bv7 a = (x1, y1) := by unfold bv7; rw [← ha]; congr 1 <;> omega
 obtain ⟨c1, Aa⟩ : ∃ c, kC f a = c := ⟨_, rfl⟩
 have KN : ∀ o, decide (8 ≤ c1) = o → Box (∀ w, Calls Tryz.prog 21 #[.int .u8 f, .agg #[.int .u64 x1, .int .u64 y1]] w fun r w' => r = .returned (.bool o) ∧ Below w.heap.size w w') := fun o h => box (fun w => rNaN_is f hf x1 y1 a c1 o hx1 hy1 ha fa Aa h w)
 have KI : ∀ o, decide (c1 = 0 ∨ c1 = 7) = o → Box (∀ w, Calls Tryz.prog 24 #[.int .u8 f, .agg #[.int .u64 x1, .int .u64 y1]] w fun r w' => r = .returned (.bool o) ∧ Below w.heap.size w w') := fun o h => box (fun w => rInf_is f hf x1 y1 a c1 o hx1 hy1 ha fa Aa (by rw [← Bool.decide_or]; exact h) w)
 have KZ : ∀ o, decide (c1 = 3 ∨ c1 = 4) = o → Box (∀ w, Calls Tryz.prog 25 #[.int .u8 f, .agg #[.int .u64 x1, .int .u64 y1]] w fun r w' => r = .returned (.bool o) ∧ Below w.heap.size w w') := fun o h => box (fun w => rZero_is f hf x1 y1 a c1 o hx1 hy1 ha fa Aa (by rw [← Bool.decide_or]; exact h) w)
 have KS : ∀ o, kN f a = o → Box (∀ w, Calls Tryz.prog 23 #[.int .u8 f, .agg #[.int .u64 x1, .int .u64 y1]] w fun r w' => r = .returned (.bool o) ∧ Below w.heap.size w w') := fun o h => box (fun w => rSign_yes f hf x1 y1 a o hx1 hy1 ha oa h w)
 have KRN : bv7 (eNaN f) = (u, v) → Box (∀ w, Calls Tryz.prog 26 #[.int .u8 f] w fun r w' => r = .returned (.agg #[.int .u64 u, .int .u64 v]) ∧ Below w.heap.size w w') := fun h => box (fun w => by
  have := r_nan f hf _ rfl w
  rw [h] at this
  exact this)
 unfold SqR at hr
 rw [Aa] at hr kn rts lc
 by_cases n0 : 8 ≤ c1
 ·
  have hM : M = eNaN f ∧ (if c1 = 8 then (16 : Int) else 0) = fl := by
   by_cases s0 : c1 = 8
   ·
    rw [if_pos s0] at hr ⊢
    exact ⟨hr.1, hr.2.symm⟩
   ·
    rw [if_neg s0, if_pos (by omega)] at hr
    rw [if_neg s0]
    exact ⟨hr.1, hr.2.symm⟩
  have KC := rcan1 f hf x1 y1 a hx1 hy1 ha fa fl (by rw [Aa]; exact hM.2) u v (by rw [← hM.1]; exact hv)
  exact rsr_all f m x1 y1 u v false ByteArray.empty ByteArray.empty 0 fl w KF (box (Or.inl (⟨KN true (decide_eq_true n0), KC⟩)))
 rw [if_neg (by omega), if_neg (by omega)] at hr
 by_cases z : c1 = 3 ∨ c1 = 4
 ·
  rw [if_pos (by omega)] at hr
  obtain ⟨rfl, rfl⟩ := hr
  rw [e1] at hv
  injection hv with v1 v2
  subst v1 v2
  exact rsr_all f m x1 y1 x1 y1 false ByteArray.empty ByteArray.empty 0 _ w KF (box (Or.inr (Or.inl (⟨KN false (decide_eq_false (by omega)), KZ true (decide_eq_true z), rfl, rfl, rfl⟩))))
 by_cases d2 : c1 ≤ 2
 ·
  rw [if_neg (by omega), if_pos d2] at hr
  obtain ⟨rfl, rfl⟩ := hr
  exact rsr_all f m x1 y1 u v false ByteArray.empty ByteArray.empty 0 _ w KF (box (Or.inr (Or.inr (Or.inl (⟨KN false (decide_eq_false (by omega)), KZ false (decide_eq_false (by omega)), KS true (kn.1 (by omega)), KRN hv, rfl⟩)))))
 by_cases d7 : c1 = 7
 ·
  rw [if_pos (by omega)] at hr
  obtain ⟨rfl, rfl⟩ := hr
  rw [e1] at hv
  injection hv with v1 v2
  subst v1 v2
  exact rsr_all f m x1 y1 x1 y1 false ByteArray.empty ByteArray.empty 0 _ w KF (box (Or.inr (Or.inr (Or.inr (Or.inl (⟨KN false (decide_eq_false (by omega)), KZ false (decide_eq_false (by omega)), KS false (kn.2 (by omega) (by omega)), KI true (decide_eq_true (Or.inr d7)), rfl, rfl, rfl⟩))))))
 have rts := rts (by omega)
 obtain ⟨a1, a2, a3, a4⟩ := vX_whole hf a (by omega) (by omega)
 have nb := kn.2 (by omega) (by omega)
 rw [nb] at a3
 rw [a3] at a4
 obtain ⟨l1, l2, l3⟩ := kS_lim hf a
 have bl := (blen_iff (kS f a) 128).2 a2
 have ln := (x_whole hf false (kS f a) (kX f a) a1 (by omega) (by omega) (by omega)).2.2.2.1
 exact rsr_all f m x1 y1 u v false _ _ _ fl w KF (box (Or.inr (Or.inr (Or.inr (Or.inr (⟨KN false (decide_eq_false (by omega)), KZ false (decide_eq_false (by omega)), KS false nb, KI false (decide_eq_false (by omega)), box (fun w => rValue_yes f hf x1 y1 a hx1 hy1 ha oa fa (by omega) _ _ _ _ _ _ a3 rfl rfl w), box (fun w => rRoot_is f m hf hm (od (kS f a)) 1 _ _ (kX f a + (tz (kS f a) : Int)) rfl rfl a4 ln (by decide +kernel) M fl rts u v hv w)⟩))))))
theorem both_sqrt (f m : Int) (h0 : 0 ≤ f) (h1 : f ≤ 255) (m0 : 0 ≤ m) (x1 y1 : Nat) (hx1 : x1 < 18446744073709551616) (hy1 : y1 < 18446744073709551616) : ∃ (u v : Nat) (fl c : Int), Box (∀ w, FAt w → Calls Tryz.prog 8 #[.int .u8 f, .int .u8 m, .agg #[.int .u64 x1, .int .u64 y1]] w fun r w' => r = .returned (.tuple #[.agg #[.int .u64 u, .int .u64 v], .int .u8 fl, .int .i64 c]) ∧ Below w.heap.size w w') ∧ Box (∀ w, Calls Tryz.prog 9 #[.int .u8 f, .int .u8 m, .agg #[.int .u64 x1, .int .u64 y1]] w fun r w' => r = .returned (.tuple #[.agg #[.int .u64 u, .int .u64 v], .int .u8 fl, .int .i64 c]) ∧ Below w.heap.size w w') ∧ IntKind.i64.wrap c = c ∧ bits .and .u8 fl 6 = 0 := by
 obtain ⟨a, ha⟩ : ∃ a, y1 + 18446744073709551616 * x1 = a := ⟨_, rfl⟩
 by_cases h : (f ≤ 3 ∧ m ≤ 4) ∧ okB f a = true
 ·
  obtain ⟨⟨c1, c2⟩, oa⟩ := h
  have hf := is4_of h0 c1
  obtain ⟨M, fl, hr⟩ := sqR_some f m a
  obtain ⟨u, v, hv⟩ : ∃ u v, bv7 M = (u, v) := ⟨_, _, rfl⟩
  have fl3 := sqR_flag hf m a M fl hr
  exact ⟨u, v, fl, 0, box (fun w hT => kSqrt_is f m hf ⟨m0, c2⟩ x1 y1 a hx1 hy1 ha oa M fl hr u v hv w hT), box (fun w => rSqrt_is f m hf ⟨m0, c2⟩ x1 y1 a hx1 hy1 ha oa M fl hr u v hv w), by decide, by rcases fl3 with rfl | rfl | rfl <;> decide⟩
 ·
  have hn : (decide (f ≤ 3 ∧ m ≤ 4) && okB f a) = false := by
   rw [Bool.eq_false_iff]
   intro q
   rw [Bool.and_eq_true, decide_eq_true_iff] at q
   exact h ⟨q.1, q.2⟩
  exact ⟨0, 0, 0, 2, box (fun w hT => sr_no f m x1 y1 w (kmay1 f m h0 h1 m0 x1 y1 a hx1 hy1 ha false hn) hT), box (fun w => rsr_no f m x1 y1 w (rfit1 f m h0 x1 y1 a hx1 hy1 ha false hn)), by decide, by decide⟩
end Go.Proofs.YtpgiabmmmpdobaaGreatDoor
