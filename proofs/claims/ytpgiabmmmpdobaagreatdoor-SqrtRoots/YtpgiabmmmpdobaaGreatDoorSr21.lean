/-
  What the functions that the statement reaches return: part 21 (R34, R35, SL, O1, D1, M0, M2, A0, A7, Z0).
-/
import Derived.Test.YtpgiabmmmpdobaaGreatDoorRows
import Derived.OpenShut
import Derived.LaidMore
import Derived.Lib.LaidTab
import Derived.Stop.Joined
import Derived.Test.YtpgiabmmmpdobaaGreatDoorSr20
namespace Go.Proofs.YtpgiabmmmpdobaaGreatDoor
set_option maxRecDepth 100000
set_option maxHeartbeats 40000000
set_option maxRecDepth 100000
open Go.RowKit WMath
set_option linter.unusedSimpArgs false
set_option linter.unusedVariables false
theorem wbit0 (n : Nat) (o : Bool) (ho : decide (n % 2 = 1) = o) (w : World) : Calls Tryz.prog 97 #[.agg (cw 6 n), .int .i64 0] w fun r w' => r = .returned (.bool o) ∧ Below w.heap.size w w' := by
 have hat := cw_at 6
 have hf := cw6f
 obtain ⟨d, hd⟩ : ∃ d, n / 2 ^ 0 % 2 ^ 1 = d := ⟨_, rfl⟩
 have e : ((d : Int) == 1) = o := by
  subst hd ho
  rw [Nat.pow_zero, Nat.div_one, Nat.pow_one, Bool.eq_iff_iff, decide_eq_true_iff, beq_iff_eq]
  omega
 have HD := box hd
 clear hd ho
 have W1 : Box (∀ w : World, Calls Tryz.prog 147 #[.agg (cw 6 n), .int .i64 0, .int .i64 1] w fun r w' => r = .returned (.int .u64 d) ∧ Below w.heap.size w w') := box (fun w => by
  have h := wfield_any n 0 1 (by decide) (by decide) w
  rw [HD.out] at h
  exact h)
 go_enter Tryz.func97, Tryz.ntmps97
 go_wp2_with fail
 refine (W1.out _).mono ?_
 rintro e w1 ⟨rfl, hb⟩
 go_wp2
 go_ret
 exact ⟨rfl, ((Below.refl _ _).alloc (Nat.le_refl _) _).trans (hb.mono (by simp))⟩
theorem not_no {b : Bool} (h : (!b) = false) : b = true := by cases b <;> simp_all
theorem r1_lt {f : Int} (hf : Is4 f) {x : Nat} (h : x ≤ 2 * 2 ^ pV f) : x < Q ∧ x + 1 < Q ∧ blen x ≤ pV f + 2 := by
 obtain ⟨g1, g2, g3, g4, g5, g6, g7⟩ := fm hf
 have p := Nat.two_pow_pos (pV f)
 have k1 : (oV f + 1) * 2 ^ pV f ≥ 4 * 2 ^ pV f := Nat.mul_le_mul_right _ (by omega)
 refine ⟨lt_Q7 (by omega), lt_Q7 (by omega), (blen_iff x _).2 (by rw [Nat.pow_succ, Nat.pow_succ]; omega)⟩
theorem kgrid (f m : Int) (hf : Is4 f) (hm : 0 ≤ m ∧ m ≤ 4) (neg : Bool) (s : Nat) (s0 : s ≠ 0) (hs : s < Q) (x st : Int) (more : Bool) (k : Nat) (x1 : -1100000 ≤ x) (x2 : x ≤ 1100000) (k2 : k ≤ 3000000) (hst : st = x + (blen s : Int) - ((pV f + 1 : Nat) : Int) + (k : Int))
  (K : Nat) (hK : rG m neg (qW (pV f + 1) s) k (qM (pV f + 1) s false) = K) (ex : Bool) (hex : (!(rH (qW (pV f + 1) s) k || rM (qW (pV f + 1) s) k (qM (pV f + 1) s false))) = ex) (w : World) :
  Calls Tryz.prog 49 #[.int .u8 m, .agg (rg neg s x more), .int .i64 st] w fun r w' => r = .returned (.tuple #[.agg (rg neg K st false), .bool ex]) ∧ Below w.heap.size w w' := by
 obtain ⟨n1, n2, n3, n4, n5, n6⟩ := nm8 hf
 obtain ⟨c1, c2, c3, c4⟩ := cut_is (pV f + 1) s x st k s0 hs (by omega) hst
 have lim := rS_lim (q_ok (f := f) s s0) k
 obtain ⟨Z, hZ, eQ⟩ := Qq384
 have bQ : blen s ≤ Z := blen_le_of s Z (by rw [← eQ]; exact hs)
 obtain ⟨R, hR⟩ : ∃ R, s * 2 ^ cnt6 (x - st) = R := ⟨_, rfl⟩
 rw [hR] at c1 c2 c3 c4
 obtain ⟨h, hh⟩ : ∃ h, halfv R (cnt5 (st - x)) = h := ⟨_, rfl⟩
 obtain ⟨lo, hlo⟩ : ∃ lo, decide (Q ≤ s * 2 ^ cnt6 (x - st)) = lo := ⟨_, rfl⟩
 obtain ⟨od, hod⟩ : ∃ od, decide (rS (qW (pV f + 1) s) k % 2 = 1) = od := ⟨_, rfl⟩
 obtain ⟨q1, q2, q3⟩ := r1_lt hf (x := rS (qW (pV f + 1) s) k) (by omega)
 have up : uP m neg od h ex = gO m neg (rO (qW (pV f + 1) s) k) (rH (qW (pV f + 1) s) k) (rM (qW (pV f + 1) s) k (qM (pV f + 1) s false)) := by
  rw [← uP_gO, show rO (qW (pV f + 1) s) k = od from hod, hex]
  cases ex
  ·
   rw [← hh, c4 (not_no hex)]
  ·
   rfl
 rw [hex] at c3
 have K1 : Box (∀ w, Calls Tryz.prog 76 #[.agg (cw 6 s), .int .i64 (x - st)] w fun r w' => r = .returned (.tuple #[.agg (cw 6 R), .bool lo]) ∧ Below w.heap.size w w') := box (fun w => wleft_is s R (x - st) lo hs (by rw [hR, Nat.mod_eq_of_lt c1]) hlo w)
 have K2 : Box (∀ w, Calls Tryz.prog 96 #[.agg (cw 6 R), .int .i64 (st - x)] w fun r w' => r = .returned (.tuple #[.agg (cw 6 (rS (qW (pV f + 1) s) k)), .int .i64 h, .bool ex]) ∧ Below w.heap.size w w') := box (fun w => jcut_is R _ (st - x) h ex c1 c2 hh c3 w)
 have K3 : Box (∀ w, Calls Tryz.prog 97 #[.agg (cw 6 (rS (qW (pV f + 1) s) k)), .int .i64 0] w fun r w' => r = .returned (.bool od) ∧ Below w.heap.size w w') := box (fun w => wbit0 _ _ hod w)
 have w1 : IntKind.i64.wrap (x - st) = x - st := wrap_i64_is _ (by omega) (by omega)
 have w2 : IntKind.i64.wrap (st - x) = st - x := wrap_i64_is _ (by omega) (by omega)
 unfold rG at hK
 by_cases g : gO m neg (rO (qW (pV f + 1) s) k) (rH (qW (pV f + 1) s) k) (rM (qW (pV f + 1) s) k (qM (pV f + 1) s false)) = true
 ·
  rw [if_pos g] at hK
  subst hK
  rw [g] at up
  exact ro_grid_up m st neg s x more R _ _ lo false (x - st) (st - x) h ex od w K1 K2 K3 (box (fun w => ro_up m neg od h ex true up w)) (box (fun w => wof_any 1 (by decide) w)) (box (fun w => wadd_is _ 1 _ false q1 (by have := q2; omega) (Nat.mod_eq_of_lt q2) (decide_eq_false (by omega)) w)) w1 w2
 ·
  rw [if_neg g] at hK
  subst hK
  rw [Bool.not_eq_true] at g
  rw [g] at up
  exact ro_grid_no m st neg s x more R _ lo (x - st) (st - x) h ex od w (box ⟨c1, q1⟩) K1 K2 K3 (box (fun w => ro_up m neg od h ex false up w)) w1 w2
theorem kotop (neg : Bool) (s : Nat) (hs : s < Q) (x : Int) (more : Bool) (x1 : -3000000 ≤ x) (x2 : x ≤ 3000000) (v : Int) (hv : x + (blen s : Int) - 1 = v) (w : World) : Calls Tryz.prog 51 #[.agg (rg neg s x more)] w fun r w' => r = .returned (.int .i64 v) ∧ Below w.heap.size w w' := by
 obtain ⟨Z, hZ, eQ⟩ := Qq384
 have bQ : blen s ≤ Z := blen_le_of s Z (by rw [← eQ]; exact hs)
 exact ro_top neg s x more (blen s : Int) (x + (blen s : Int)) v w (box (fun w => wlen_is s _ hs rfl w)) (wrap_i64_is _ (by omega) (by omega)) (by rw [wrap_i64_is _ (by omega) (by omega)]; exact hv)
theorem kprec (f : Int) (hf : Is4 f) (w : World) (hT : FAt w) : Calls Tryz.prog 85 #[.int .u8 f] w fun r w' => r = .returned (.int .i64 (fP f)) ∧ Below w.heap.size w w' := by
 have f4 := is4_ok hf
 refine (s_precision f _ f4.1 f4.2.1 rfl w hT).mono ?_
 rintro r w' ⟨rfl, rfl⟩
 exact ⟨rfl, bal7 _ _⟩
theorem kemax (f : Int) (hf : Is4 f) (w : World) (hT : FAt w) : Calls Tryz.prog 53 #[.int .u8 f] w fun r w' => r = .returned (.int .i64 (fE f)) ∧ Below w.heap.size w w' := by
 have f4 := is4_ok hf
 refine (s_emax f _ f4.1 f4.2.1 rfl w hT).mono ?_
 rintro r w' ⟨rfl, rfl⟩
 exact ⟨rfl, bal7 _ _⟩
theorem kostep (f : Int) (hf : Is4 f) (T : Int) (h1 : -3000000 ≤ T) (h2 : T ≤ 3000000) (v : Int) (hv : T - fP f + 1 = v) (w : World) (hT : FAt w) : Calls Tryz.prog 50 #[.int .u8 f, .int .i64 T] w fun r w' => r = .returned (.int .i64 v) ∧ Below w.heap.size w w' := by
 have := fP_lim (f := f) rfl
 exact ro_stepAt f T (fP f) (T - fP f) v w (box (fun w hT => kprec f hf w hT)) (wrap_i64_is _ (by omega) (by omega)) (by rw [wrap_i64_is _ (by omega) (by omega)]; exact hv) hT
theorem kocheck (f m : Int) (h0 : 0 ≤ f) (h1 : f ≤ 255) (c : Int) (hc : (if f ≤ 3 ∧ m ≤ 4 then (0 : Int) else 2) = c) (w : World) : Calls Tryz.prog 45 #[.int .u8 f, .int .u8 m] w fun r w' => r = .returned (.int .i64 c) ∧ Below w.heap.size w w' := by
 have K1 : ∀ c, (if f ≤ 3 then (0 : Int) else 2) = c → Box (∀ w, Calls Tryz.prog 81 #[.int .u8 f] w fun r w' => r = .returned (.int .i64 c) ∧ Below w.heap.size w w') := fun c hc => box (fun w => by
  refine bel_same (s_check_is f c h0 h1 ?_ w)
  rw [← hc]
  by_cases h : f ≤ 3
  ·
   rw [if_pos h]; exact fC_yes (is4_of h0 h)
  ·
   rw [if_neg h]; exact fC_no h0 (by unfold Is4; omega))
 have K2 : ∀ c, (if m ≤ 4 then (0 : Int) else 2) = c → Box (∀ w, Calls Tryz.prog 94 #[.int .u8 m] w fun r w' => r = .returned (.int .i64 c) ∧ Below w.heap.size w w') := fun c hc => box (fun w => by
  subst hc
  exact bel_same (s_checkMode m w))
 by_cases c1 : f ≤ 3
 ·
  by_cases c2 : m ≤ 4
  ·
   rw [if_pos ⟨c1, c2⟩] at hc
   subst hc
   exact ro_check_c f m 0 0 w (K1 0 (if_pos c1)) (K2 0 (if_pos c2)) (by decide) (by decide)
  ·
   rw [if_neg (by omega)] at hc
   subst hc
   exact ro_check_b f m 0 2 w (K1 0 (if_pos c1)) (K2 2 (if_neg c2)) (by decide) (by decide)
 ·
  rw [if_neg (by omega)] at hc
  subst hc
  exact ro_check_a f m 2 w (K1 2 (if_neg c1)) (by decide)
theorem is4_le {f : Int} (hf : Is4 f) : f ≤ 3 := by rcases hf with rfl | rfl | rfl | rfl <;> decide
theorem kover (f m : Int) (hf : Is4 f) (hm : 0 ≤ m ∧ m ≤ 4) (neg : Bool) (u v : Nat) (hv : bv7 (ovB f m neg) = (u, v)) (w : World) (hT : FAt w) : Calls Tryz.prog 44 #[.int .u8 f, .int .u8 m, .bool neg] w fun r w' => r = .returned (.tuple #[.agg #[.int .u64 u, .int .u64 v], .int .u8 5, .int .i64 0]) ∧ Below w.heap.size w w' := by
 have f4 := is4_ok hf
 have KC : Box (∀ w, Calls Tryz.prog 45 #[.int .u8 f, .int .u8 m] w fun r w' => r = .returned (.int .i64 0) ∧ Below w.heap.size w w') := box (fun w => kocheck f m f4.1 f4.2.1 0 (if_pos ⟨is4_le hf, hm.2⟩) w)
 have up := uP_gO m neg false true true
 obtain ⟨i, j, hij⟩ : ∃ i j, bv7 (eGreatest f neg) = (i, j) := ⟨_, _, rfl⟩
 have KG : Box (∀ w, FAt w → Calls Tryz.prog 91 #[.int .u8 f, .bool neg] w fun r w' => r = .returned (.agg #[.int .u64 i, .int .u64 j]) ∧ Below w.heap.size w w') := box (fun w hT => by
  have := s_greatest f neg hf _ rfl w hT
  rw [hij] at this
  exact this)
 unfold ovB at hv
 by_cases g : gO m neg false true true = true
 ·
  rw [if_pos g] at hv
  rw [g] at up
  exact ro_over_inf f m neg i j u v w KC KG (box (fun w => ro_up m neg false 1 false true up w)) (box (fun w hT => sk_inf f neg hf u v hv w hT)) hT
 ·
  rw [if_neg g, hij] at hv
  injection hv with e1 e2
  subst e1 e2
  rw [Bool.not_eq_true] at g
  rw [g] at up
  exact ro_over_gr f m neg i j w KC KG (box (fun w => ro_up m neg false 1 false false up w)) hT
theorem kotiny (f m : Int) (hf : Is4 f) (hm : 0 ≤ m ∧ m ≤ 4) (neg : Bool) (s : Nat) (s0 : s ≠ 0) (hs : s < Q) (x : Int) (more : Bool) (x1 : -1100000 ≤ x) (x2 : x ≤ 1100000) (o : Bool) (ho : tnB f m neg (x + (blen s : Int) - 1) (qW (pV f + 1) s) (qM (pV f + 1) s false) = o) (w : World) (hT : FAt w) :
  Calls Tryz.prog 54 #[.int .u8 f, .int .u8 m, .agg (rg neg s x more)] w fun r w' => r = .returned (.bool o) ∧ Below w.heap.size w w' := by
 obtain ⟨Z, hZ, eQ⟩ := Qq384
 have bQ : blen s ≤ Z := blen_le_of s Z (by rw [← eQ]; exact hs)
 have hp := fp8 hf
 obtain ⟨n1, n2, n3, n4, n5, n6⟩ := nm8 hf
 obtain ⟨K, hK⟩ : ∃ K, rG m neg (qW (pV f + 1) s) 0 (qM (pV f + 1) s false) = K := ⟨_, rfl⟩
 have lim := rG_lim (q_ok (f := f) s s0) m neg 0 (qM (pV f + 1) s false)
 rw [hK] at lim
 obtain ⟨q1, q2, q3⟩ := r1_lt hf lim.1
 unfold tnB at ho
 rw [hK] at ho
 refine ro_tiny f m neg s x more (x + (blen s : Int) - 1) (x + (blen s : Int) - 1 - fP f + 1) (x + (blen s : Int) - 1 - fP f + 1 + (blen K : Int) - 1) (1 - fE f) K _ o w (box (fun w => kotop neg s hs x more (by omega) (by omega) _ rfl w)) (box (fun w hT => kostep f hf _ (by omega) (by omega) _ rfl w hT))
  (box (fun w => kgrid f m hf hm neg s s0 hs x _ more 0 x1 x2 (by omega) (by omega) K hK _ rfl w)) (box (fun w => kotop neg K q1 _ false (by omega) (by omega) _ rfl w)) (box (fun w hT => k_emin f hf w hT)) ?_ hT
 rw [← ho, decide_eq_decide]
 omega
theorem wd_hi (n k : Nat) (hk : 0 < k) (h : n < 18446744073709551616) : wd n k = 0 := by
 unfold wd
 rw [Nat.div_eq_of_lt, Nat.zero_mod]
 refine Nat.lt_of_lt_of_le h ?_
 rw [show (18446744073709551616 : Nat) = 2 ^ 64 by decide]
 exact Nat.pow_le_pow_right (by decide) (by omega)
theorem wd_hi2 (n k : Nat) (hk : 1 < k) (h : n < 340282366920938463463374607431768211456) : wd n k = 0 := by
 unfold wd
 rw [Nat.div_eq_of_lt, Nat.zero_mod]
 refine Nat.lt_of_lt_of_le h ?_
 rw [show (340282366920938463463374607431768211456 : Nat) = 2 ^ 128 by decide]
 exact Nat.pow_le_pow_right (by decide) (by omega)
theorem enc_lo (S j G : Nat) (h : G + S < 18446744073709551616) : IntKind.u64.wrap (((wd S 0 : Nat) : Int) + (G : Int)) = ((wd (G + S) 0 : Nat) : Int) ∧ ∀ k, 0 < k → k < 6 → wd (G + S) k = wd S k := by
 constructor
 ·
  rw [IntKind.wrap_u64]
  unfold wd
  rw [Nat.mul_zero, Nat.pow_zero, Nat.div_one, Nat.div_one]
  omega
 ·
  intro k h1 h2
  rw [wd_hi _ k h1 h, wd_hi _ k h1 (by omega)]
theorem enc_hi (S j : Nat) (h : j * 5192296858534827628530496329220096 + S < 340282366920938463463374607431768211456) : IntKind.u64.wrap (((wd S 1 : Nat) : Int) + ((j * 281474976710656 : Nat) : Int)) = ((wd (j * 5192296858534827628530496329220096 + S) 1 : Nat) : Int) ∧ ∀ k, k ≠ 1 → k < 6 → wd (j * 5192296858534827628530496329220096 + S) k = wd S k := by
 constructor
 ·
  rw [IntKind.wrap_u64]
  unfold wd
  rw [Nat.mul_one, show (2 : Nat) ^ 64 = 18446744073709551616 by decide]
  omega
 ·
  intro k h1 h2
  by_cases c : k = 0
  ·
   subst c
   unfold wd
   rw [Nat.mul_zero, Nat.pow_zero, Nat.div_one, Nat.div_one]
   omega
  ·
   rw [wd_hi2 _ k (by omega) h, wd_hi2 _ k (by omega) (by omega)]
theorem or_sign (f : Int) (n : Nat) (neg : Bool) (h : n < 2 ^ wV f) : n ||| eZero f neg = n + (if neg then 2 ^ wV f else 0) := by
 unfold eZero enc7
 rw [Nat.zero_mul, Nat.zero_add]
 cases neg
 ·
  rw [if_neg (by decide), Nat.or_zero, Nat.add_zero]
 ·
  rw [if_pos rfl, Nat.or_comm]
  have := Nat.two_pow_add_eq_or_of_lt h 1
  rw [Nat.mul_one] at this
  omega
theorem ez_lt {f : Int} (hf : Is4 f) (neg : Bool) : eZero f neg < 340282366920938463463374607431768211456 := by
 obtain ⟨g1, g2, g3, g4, g5, g6, g7⟩ := fm hf
 have := Nat.two_pow_pos (wV f)
 unfold eZero enc7
 split <;> omega
theorem kenc (f : Int) (hf : Is4 f) (neg : Bool) (j S : Nat) (st : Int) (hst : st = lx f + (j : Int)) (hS : S ≤ 2 * 2 ^ pV f) (hj : j = 0 ∨ 2 ^ pV f ≤ S) (ht : lx f + (j : Int) - 1 + (blen S : Int) ≤ fE f) (u v : Nat) (hv : bv7 (eS f neg j S) = (u, v)) (w : World) (hT : FAt w) :
  Calls Tryz.prog 55 #[.int .u8 f, .agg (rg neg S st false)] w fun r w' => r = .returned (.agg #[.int .u64 u, .int .u64 v]) ∧ Below w.heap.size w w' := by
 have lt := eS_lt hf j S hS hj ht
 obtain ⟨g1, g2, g3, g4, g5, g6, g7⟩ := fm hf
 obtain ⟨n1, n2, n3, n4, n5, n6⟩ := nm8 hf
 obtain ⟨l1, l2, l3⟩ : True ∧ True ∧ True := ⟨trivial, trivial, trivial⟩
 have bl := blen_low S
 have hp := fp8 hf
 have hj2 : j ≤ 40000 := by
  have : blen S = 0 ∨ 0 < blen S := by omega
  rcases hj with h | h
  ·
   omega
  ·
   have p := Nat.two_pow_pos (pV f)
   have := (bl (by omega)).1
   omega
 obtain ⟨zu, zv, hz⟩ : ∃ zu zv, bv7 (eZero f neg) = (zu, zv) := ⟨_, _, rfl⟩
 have e3 : eS f neg j S = (j * 2 ^ pV f + S) ||| eZero f neg := by rw [or_sign f _ neg lt]; rfl
 have z1 : zu < 18446744073709551616 ∧ zv < 18446744073709551616 ∧ zv + 18446744073709551616 * zu = eZero f neg := by
  have := ez_lt hf neg
  unfold bv7 at hz
  injection hz with a b
  omega
 have sl : eS f neg j S < 340282366920938463463374607431768211456 := by
  unfold eS
  split <;> omega
 obtain ⟨ob, KT⟩ := ktobits_one (eS f neg j S) u v (lt_Q7 sl) (by unfold toB; rw [if_pos sl]; exact hv)
 have KB : Box (∀ w, Calls Tryz.prog 40 #[.agg #[.int .u64 zu, .int .u64 zv]] w fun r w' => r = .returned (.agg (cw 6 (eZero f neg))) ∧ Below w.heap.size w w') := box (fun w => wofbits_is zu zv _ z1.1 z1.2.1 z1.2.2 w)
 have KO : Box (∀ w, Calls Tryz.prog 43 #[.agg (cw 6 (j * 2 ^ pV f + S)), .agg (cw 6 (eZero f neg))] w fun r w' => r = .returned (.agg (cw 6 (eS f neg j S))) ∧ Below w.heap.size w w') := box (fun w => wor_is _ _ _ (lt_Q7 (by omega)) (lt_Q7 (ez_lt hf neg)) e3.symm w)
 have KZ : Box (∀ w, FAt w → Calls Tryz.prog 47 #[.int .u8 f, .bool neg] w fun r w' => r = .returned (.agg #[.int .u64 zu, .int .u64 zv]) ∧ Below w.heap.size w w') := box (fun w hT => sk_zero f neg hf zu zv hz w hT)
 have KI : Box (∀ w, FAt w → Calls Tryz.prog 52 #[.int .u8 f] w fun r w' => r = .returned (.int .i64 (1 - fE f)) ∧ Below w.heap.size w w') := box (fun w hT => k_emin f hf w hT)
 have KS : Box (∀ w, FAt w → Calls Tryz.prog 50 #[.int .u8 f, .int .i64 (1 - fE f)] w fun r w' => r = .returned (.int .i64 (lx f)) ∧ Below w.heap.size w w') := box (fun w hT => kostep f hf _ (by omega) (by omega) _ (by omega) w hT)
 have w1 : IntKind.i64.wrap (st - lx f) = (j : Int) := by rw [wrap_i64_is _ (by omega) (by omega)]; omega
 have w2 : IntKind.u64.wrap (j : Int) = (j : Int) := by rw [IntKind.wrap_u64]; omega
 have KP : Box (∀ w, FAt w → Calls Tryz.prog 85 #[.int .u8 f] w fun r w' => r = .returned (.int .i64 (fP f)) ∧ Below w.heap.size w w') := box (fun w hT => kprec f hf w hT)
 clear hv hz z1 sl e3
 rcases hf with rfl | rfl | rfl | rfl
 ·
  rw [show fP 0 = 24 by decide] at KP
  rw [show 2 ^ pV 0 = 8388608 by decide] at lt KO
  rw [show 2 ^ wV 0 = 2147483648 by decide] at lt
  obtain ⟨e1, e2⟩ := enc_lo S j (j * 8388608) (by omega)
  exact ro_encv 0 24 23 23 (by decide) (by decide) (by decide) (by decide) neg S _ _ st _ _ _ _ _ u v zu zv _ ob w KP KI KS w1 w2 (by rw [show (2 : Int) ^ min 23 64 = 8388608 by decide, IntKind.wrap_u64]; omega) e1 (box e2) KZ KB KO (box KT) hT
 ·
  rw [show fP 1 = 53 by decide] at KP
  rw [show 2 ^ pV 1 = 4503599627370496 by decide] at lt KO
  rw [show 2 ^ wV 1 = 9223372036854775808 by decide] at lt
  obtain ⟨e1, e2⟩ := enc_lo S j (j * 4503599627370496) (by omega)
  exact ro_encv 1 53 52 52 (by decide) (by decide) (by decide) (by decide) neg S _ _ st _ _ _ _ _ u v zu zv _ ob w KP KI KS w1 w2 (by rw [show (2 : Int) ^ min 52 64 = 4503599627370496 by decide, IntKind.wrap_u64]; omega) e1 (box e2) KZ KB KO (box KT) hT
 ·
  rw [show fP 2 = 11 by decide] at KP
  rw [show 2 ^ pV 2 = 1024 by decide] at lt KO
  rw [show 2 ^ wV 2 = 32768 by decide] at lt
  obtain ⟨e1, e2⟩ := enc_lo S j (j * 1024) (by omega)
  exact ro_encv 2 11 10 10 (by decide) (by decide) (by decide) (by decide) neg S _ _ st _ _ _ _ _ u v zu zv _ ob w KP KI KS w1 w2 (by rw [show (2 : Int) ^ min 10 64 = 1024 by decide, IntKind.wrap_u64]; omega) e1 (box e2) KZ KB KO (box KT) hT
 ·
  rw [show fP 3 = 113 by decide] at KP
  rw [show 2 ^ pV 3 = 5192296858534827628530496329220096 by decide] at lt KO
  rw [show 2 ^ wV 3 = 170141183460469231731687303715884105728 by decide] at lt
  obtain ⟨e1, e2⟩ := enc_hi S j (by omega)
  exact ro_enc_3 neg S _ _ st _ _ _ _ _ u v zu zv _ ob w KP KI KS w1 w2 (by rw [IntKind.wrap_u64]; omega) e1 (box e2) KZ KB KO (box KT) hT
theorem komay (f : Int) (hf : Is4 f) (neg : Bool) (s : Nat) (hs : s < Q) (x : Int) (more : Bool) (o : Bool) (ho : decide (-1048576 ≤ x ∧ x ≤ 1048576 ∧ (more = true → pV f + 3 ≤ blen s)) = o) (w : World) (hT : FAt w) : Calls Tryz.prog 46 #[.int .u8 f, .agg (rg neg s x more)] w fun r w' => r = .returned (.bool o) ∧ Below w.heap.size w w' := by
 have hp := fp8 hf
 obtain ⟨n1, n2, n3, n4, n5, n6⟩ := nm8 hf
 by_cases c1 : x < -1048576
 ·
  rw [decide_eq_false (by omega)] at ho
  subst ho
  exact ro_may_lo f neg s x more w (decide_eq_true c1)
 by_cases c2 : 1048576 < x
 ·
  rw [decide_eq_false (by omega)] at ho
  subst ho
  exact ro_may_hi f neg s x more w (decide_eq_false c1) (decide_eq_true c2)
 cases more
 ·
  rw [decide_eq_true ⟨by omega, by omega, fun h => Bool.noConfusion h⟩] at ho
  subst ho
  exact ro_may_no f neg s x w (decide_eq_false c1) (decide_eq_false c2)
 ·
  refine ro_may_more f neg s x (blen s : Int) (fP f) (fP f + 2) o w (box (fun w => wlen_is s _ hs rfl w)) (box (fun w hT => kprec f hf w hT)) (decide_eq_false c1) (decide_eq_false c2) (wrap_i64_is _ (by omega) (by omega)) ?_ hT
  rw [← ho, decide_eq_decide]
  constructor
  ·
   exact fun h => ⟨by omega, by omega, fun _ => by omega⟩
  ·
   exact fun h => by have := h.2.2 rfl; omega
theorem kPack_is (f m : Int) (hf : Is4 f) (hm : 0 ≤ m ∧ m ≤ 4) (neg : Bool) (s : Nat) (hs : s < Q) (s0 : s ≠ 0) (x : Int) (more : Bool) (h1 : -1048576 ≤ x) (h2 : x ≤ 1048576) (hmore : more = true → pV f + 3 ≤ blen s) (M : Nat) (fl : Int) (hd : dlv f m neg (x + (blen s : Int) - 1) (qW (pV f + 1) s) (qM (pV f + 1) s more) = (M, fl)) (u v : Nat) (hv : bv7 M = (u, v)) (w : World) (hT : FAt w) :
  Calls Tryz.prog 17 #[.int .u8 f, .int .u8 m, .agg (rg neg s x more)] w fun r w' => r = .returned (.tuple #[.agg #[.int .u64 u, .int .u64 v], .int .u8 fl, .int .i64 0]) ∧ Below w.heap.size w w' := by
 have f4 := is4_ok hf
 have hp := fp8 hf
 obtain ⟨n1, n2, n3, n4, n5, n6⟩ := nm8 hf
 have KC : Box (∀ w, Calls Tryz.prog 45 #[.int .u8 f, .int .u8 m] w fun r w' => r = .returned (.int .i64 0) ∧ Below w.heap.size w w') := box (fun w => kocheck f m f4.1 f4.2.1 0 (if_pos ⟨is4_le hf, hm.2⟩) w)
 have KM : Box (∀ w, FAt w → Calls Tryz.prog 46 #[.int .u8 f, .agg (rg neg s x more)] w fun r w' => r = .returned (.bool true) ∧ Below w.heap.size w w') := box (fun w hT => komay f hf neg s hs x more true (decide_eq_true ⟨h1, h2, hmore⟩) w hT)
 obtain ⟨t, t0, tQ, bt, qt, mt, KJ⟩ : ∃ t, t ≠ 0 ∧ t < Q ∧ blen t = blen s ∧ qW (pV f + 1) t = qW (pV f + 1) s ∧ qM (pV f + 1) t false = qM (pV f + 1) s more ∧ Box (∀ w, Calls Tryz.prog 48 #[.agg (rg neg s x more)] w fun r w' => r = .returned (.agg (rg neg t x false)) ∧ Below w.heap.size w w') := by
  cases more
  ·
   exact ⟨s, s0, hs, rfl, rfl, rfl, box (fun w => ro_jam_no neg s x w)⟩
  ·
   obtain ⟨j1, j2, j3, j4⟩ := q_jam (pV f + 1) s (by have := hmore rfl; omega)
   obtain ⟨o1, o2⟩ := or_low s (s / 2 * 2 + 1) rfl
   refine ⟨s / 2 * 2 + 1, by omega, ?_, j1, j2, by rw [j3, j4], box (fun w => ro_jam_yes neg s _ x w ?_ (box o2))⟩
   ·
    obtain ⟨L, hL, eQ⟩ := Qq384
    rw [eQ]
    have := blen_lt (s / 2 * 2 + 1)
    have b2 := blen_le_of s L (by rw [← eQ]; exact hs)
    rw [j1] at this
    exact Nat.lt_of_lt_of_le this (Nat.pow_le_pow_right (show 0 < 2 by decide) b2)
   ·
    rw [o1]
    have := bits_or_u64_nat (wd s 0) 1 (wd_lt s 0) (by decide)
    rw [jor1] at this
    exact this
 obtain ⟨Z, hZ, eQ⟩ := Qq384
 have bQ : blen t ≤ Z := blen_le_of t Z (by rw [← eQ]; exact tQ)
 rw [← bt, ← qt, ← mt] at hd
 clear hmore bt qt mt
 obtain ⟨T, hT0⟩ : ∃ T, x + (blen t : Int) - 1 = T := ⟨_, rfl⟩
 rw [hT0] at hd
 obtain ⟨W, hW⟩ : ∃ W, qW (pV f + 1) t = W := ⟨_, rfl⟩
 obtain ⟨mo, hmo⟩ : ∃ mo, qM (pV f + 1) t false = mo := ⟨_, rfl⟩
 have wok : Wok f W := by rw [← hW]; exact q_ok t t0
 rw [hW, hmo] at hd
 obtain ⟨K, hK⟩ : ∃ K, rG m neg W (dK f T) mo = K := ⟨_, rfl⟩
 have lim := rG_lim wok m neg (dK f T) mo
 rw [hK] at lim
 obtain ⟨q1, q2, q3⟩ := r1_lt hf lim.1
 have sx := st_lx hf T
 have jk1 := jk (f := f) T
 have stl : stE f T = max T (1 - fE f) := rfl
 unfold dlv at hd
 rw [hK] at hd
 refine ro_pack f m neg s t x more T (1 - fE f) (stE f T - fP f + 1) (stE f T - fP f + 1 + (blen K : Int) - 1) (fE f) fl K (!(rH W (dK f T) || rM W (dK f T) mo)) _ (tnB f m neg T W mo) u v w (eq_false s0) hs KC KM KJ
  (box (fun w => kotop neg t tQ x false (by omega) (by omega) _ hT0 w)) (box (fun w hT => k_emin f hf w hT)) (box (fun w hT => kostep f hf _ (by omega) (by omega) _ (by rw [stl]) w hT))
  (box (fun w => kgrid f m hf hm neg t t0 tQ x _ false (dK f T) (by omega) (by omega) (by unfold dK; omega) (by unfold dK; omega) K (by rw [hW, hmo]; exact hK) _ (by rw [hW, hmo]) w))
  (box (fun w => kotop neg K q1 _ false (by omega) (by omega) _ rfl w)) (box (fun w hT => kemax f hf w hT)) (box (fun o w hT => ?_)) (box (fun o w hT => ?_)) (box (fun w hT => kotiny f m hf hm neg t t0 tQ x false (by omega) (by omega) _ (by rw [hT0, hW, hmo]) w hT)) rfl ?_ hT
 ·
  rw [decide_eq_true_iff] at o
  rw [if_pos (by omega)] at hd
  injection hd with d1 d2
  rw [← d1] at hv
  exact kover f m hf hm neg u v hv w hT
 ·
  rw [decide_eq_false_iff_not] at o
  rw [if_neg (by omega)] at hd
  injection hd with d1 d2
  rw [← d1] at hv
  refine kenc f hf neg (dJ f T) K _ sx lim.1 ?_ (by omega) u v hv w hT
  rcases jk1 with h | h
  ·
   exact Or.inl h.1
  ·
   exact Or.inr (lim.2.1 h.1)
 ·
  by_cases c : fE f < stE f T - fP f + (blen K : Int)
  ·
   rw [if_pos c] at hd
   injection hd with d1 d2
   rw [decide_eq_true (show fE f < stE f T - fP f + 1 + (blen K : Int) - 1 by omega), if_pos rfl]
   exact d2
  ·
   rw [if_neg c] at hd
   injection hd with d1 d2
   rw [decide_eq_false (show ¬ fE f < stE f T - fP f + 1 + (blen K : Int) - 1 by omega), if_neg (by decide), ← d2]
   cases (rH W (dK f T) || rM W (dK f T) mo) <;> rfl
theorem kPack_zero (f m : Int) (hf : Is4 f) (hm : 0 ≤ m ∧ m ≤ 4) (neg : Bool) (x : Int) (h1 : -1048576 ≤ x) (h2 : x ≤ 1048576) (u v : Nat) (hv : bv7 (eZero f neg) = (u, v)) (w : World) (hT : FAt w) :
  Calls Tryz.prog 17 #[.int .u8 f, .int .u8 m, .agg (rg neg 0 x false)] w fun r w' => r = .returned (.tuple #[.agg #[.int .u64 u, .int .u64 v], .int .u8 0, .int .i64 0]) ∧ Below w.heap.size w w' := by
 have f4 := is4_ok hf
 exact ro_pack_zero f m neg x false u v w (box (fun w => kocheck f m f4.1 f4.2.1 0 (if_pos ⟨is4_le hf, hm.2⟩) w)) (box (fun w hT => komay f hf neg 0 Q_pos x false true (decide_eq_true ⟨h1, h2, fun h => Bool.noConfusion h⟩) w hT)) (box (fun w hT => sk_zero f neg hf u v hv w hT)) hT
theorem kPack_no (f m : Int) (h0 : 0 ≤ f) (h1 : f ≤ 255) (neg : Bool) (s : Nat) (hs : s < Q) (x : Int) (more : Bool) (h : ¬ (f ≤ 3 ∧ m ≤ 4 ∧ -1048576 ≤ x ∧ x ≤ 1048576 ∧ (more = true → pV f + 3 ≤ blen s))) (w : World) (hT : FAt w) :
  Calls Tryz.prog 17 #[.int .u8 f, .int .u8 m, .agg (rg neg s x more)] w fun r w' => r = .returned (.tuple #[.agg #[.int .u64 0, .int .u64 0], .int .u8 0, .int .i64 2]) ∧ Below w.heap.size w w' := by
 by_cases c : f ≤ 3 ∧ m ≤ 4
 ·
  exact ro_pack_b f m neg s x more w (box (fun w => kocheck f m h0 h1 0 (if_pos c) w)) (box (fun w hT => komay f (is4_of h0 c.1) neg s hs x more false (decide_eq_false (fun q => h ⟨c.1, c.2, q⟩)) w hT)) hT
 ·
  exact ro_pack_a f m neg s x more 2 (by decide) w (box (fun w => kocheck f m h0 h1 2 (if_neg c) w))
end Go.Proofs.YtpgiabmmmpdobaaGreatDoor
namespace Go.Proofs.YtpgiabmmmpdobaaGreatDoor
set_option maxRecDepth 100000
set_option maxHeartbeats 40000000
set_option maxRecDepth 100000
open WMath
open Go.ChangeShapes Go.WideShapes Go.ChangeAt Go.RowKit
theorem trod_row4 {H : Type} {enc : TypeId × Value → H} {P : Program} {w : World} {base : Nat} {spare : Nat → Bool} {held : Bool} {t : TypeId} {f0 f1 f2 f3 : Field} {fuel : Nat} {cs : List Value} {x : DataW H × List MemPlace} (ht : P.underlying t = some (.struct #[f0, f1, f2, f3])) (h : DataW.trod enc P w base spare held fuel t cs = some x) :
  ∃ y0 y1 y2 y3 n, x = (.agg [y0.1, y1.1, y2.1, y3.1], y0.2 ++ (y1.2 ++ (y2.2 ++ y3.2))) ∧ DataW.trod enc P w base spare held n f0.type ((cs.drop f0.offset).take (P.cellsOf f0.type)) = some y0 ∧
   DataW.trod enc P w base spare held n f1.type ((cs.drop f1.offset).take (P.cellsOf f1.type)) = some y1 ∧ DataW.trod enc P w base spare held n f2.type ((cs.drop f2.offset).take (P.cellsOf f2.type)) = some y2 ∧
   DataW.trod enc P w base spare held n f3.type ((cs.drop f3.offset).take (P.cellsOf f3.type)) = some y3 := by
 obtain ⟨xs, n, _, rfl, hl, hlen, hf⟩ := DataW.trod_struct ht h
 match xs, hlen with
 | [y0, y1, y2, y3], _ => exact ⟨y0, y1, y2, y3, n, by simp, by simpa using hf 0 f0 rfl, by simpa using hf 1 f1 rfl, by simpa using hf 2 f2 rfl, by simpa using hf 3 f3 rfl⟩


theorem list4' {α : Type} (l : List α) (h : l.length = 4) : ∃ a b c d, l = [a, b, c, d] := by
 match l, h with
 | [a, b, c, d], _ => exact ⟨a, b, c, d, rfl⟩

theorem row_read {w : World} {fuel : Nat} {enc : TypeId × Value → Unit} {base : Nat} {spare : Nat → Bool} {held : Bool} {l : List Value} {a b c : Int} {s : List UInt8} {p : List MemPlace}
  (h : DataW.trod enc Tryz.prog w base spare held fuel 125 l = some (.agg [.lit (.int .i64 a), .lit (.int .i64 b), .lit (.int .i64 c), .lit (.string s)], p)) (hl : l.length = 4) :
  l = [.int .i64 a, .int .i64 b, .int .i64 c, .string ⟨⟨s⟩⟩] := by
 have h3 : Tryz.prog.cellsOf 3 = 1 := by kernel_rfl
 have h9 : Tryz.prog.cellsOf 9 = 1 := by kernel_rfl
 obtain ⟨c0, c1, c2, c3, rfl⟩ := list4' l hl
 obtain ⟨y0, y1, y2, y3, n, hx, g0, g1, g2, g3⟩ := trod_row4 Tryz.underlying125 h
 simp only [h3, h9] at g0 g1 g2 g3
 obtain ⟨x0, e0, k0, w0⟩ := DataW.trod_int Tryz.underlying3 g0
 obtain ⟨x1, e1, k1, w1⟩ := DataW.trod_int Tryz.underlying3 g1
 obtain ⟨x2, e2, k2, w2⟩ := DataW.trod_int Tryz.underlying3 g2
 obtain ⟨x3, e3, k3, w3⟩ := DataW.trod_string Tryz.underlying9 g3
 simp at e0 e1 e2 e3
 subst e0 e1 e2 e3
 rw [k0, k1, k2, k3] at hx
 simp at hx
 obtain ⟨⟨rfl, rfl, rfl, rfl⟩, _⟩ := hx
 rfl

def laid7 : List (String × DataW Unit) := [("abacus/shape.formats", Rows.laid_abacus_shape_formats)]
theorem gTab7 : Tryz.prog.globalNamed "abacus/shape.formats" = some 0 := by kernel_rfl
theorem gType7 : (Tryz.prog.globals[0]?).map (·.type) = some 164 := by kernel_rfl

theorem of_laid7 {W : World} (h : laidMetH Tryz.prog laid7 W) : FAt W := by
 have hce : Tryz.prog.cellsOf 125 = 4 := by kernel_rfl
 have hct : Tryz.prog.cellsOf 164 = 16 := by kernel_rfl
 rw [MakeChecks.laidMetH_plain _ _ _ (by kernel_rfl)] at h
 obtain ⟨ps, ⟨g', t', cs, fuel, p, q, hg', ht', hvar, hd, _, _⟩, _⟩ := h
 obtain rfl := Option.some.inj (gTab7.symm.trans hg')
 obtain rfl := Option.some.inj (gType7.symm.trans ht')
 obtain ⟨xs, m, rfl, hx, hl, hxl, hel⟩ := DataW.trod_array Tryz.underlying164 hd
 rw [hce] at hel
 rw [hct] at hl
 have hl2 : cs.size = 16 := by simpa using hl
 match xs, hxl with
 | [y0, y1, y2, y3], _ =>
  have hx1 := congrArg Prod.fst hx
  simp [Rows.laid_abacus_shape_formats] at hx1
  obtain ⟨h0, h1, h2, h3⟩ := hx1
  have q0 := hel 0 (by decide)
  have q1 := hel 1 (by decide)
  have q2 := hel 2 (by decide)
  have q3 := hel 3 (by decide)
  simp only [List.getElem?_cons_zero, List.getElem?_cons_succ] at q0 q1 q2 q3
  have z0 := row_read (p := y0.2) (by rw [q0, h0]) (by simp; omega)
  have z1 := row_read (p := y1.2) (by rw [q1, h1]) (by simp; omega)
  have z2 := row_read (p := y2.2) (by rw [q2, h2]) (by simp; omega)
  have z3 := row_read (p := y3.2) (by rw [q3, h3]) (by simp; omega)
  have hcs : ∀ i, i < 16 → cs.toList[i]? = fcells[i]? := by
   intro i hi
   have e0 : cs.toList[i]? = (cs.toList.drop (i / 4 * 4))[i % 4]? := by rw [List.getElem?_drop]; congr 1; omega
   have e1 : (cs.toList.drop (i / 4 * 4))[i % 4]? = ((cs.toList.drop (i / 4 * 4)).take 4)[i % 4]? := by rw [List.getElem?_take, if_pos (by omega)]
   rw [e0, e1]
   have : i / 4 = 0 ∨ i / 4 = 1 ∨ i / 4 = 2 ∨ i / 4 = 3 := by omega
   have hj : i % 4 = 0 ∨ i % 4 = 1 ∨ i % 4 = 2 ∨ i % 4 = 3 := by omega
   have hi2 : i = i / 4 * 4 + i % 4 := by omega
   rcases this with e | e | e | e <;> rw [e] at hi2 ⊢ <;> rcases hj with k | k | k | k <;> rw [k] at hi2 ⊢ <;> subst hi2 <;> first | (rw [z0]; rfl) | (rw [z1]; rfl) | (rw [z2]; rfl) | (rw [z3]; rfl)
  intro i hi
  rw [World.var?_cell gTab7 hvar i, ← hcs i hi]
  simp

theorem door_met7 (os : Os) (args : Array Value) : laidMetH Tryz.prog laid7 ((World.doorLaid Tryz.prog 400 os).forCall (fun _ _ => 0) ⟨#[], args, []⟩).memory :=
 laidMetH_of_parts3 (fuel := 8) (laidMet_of_run' 8 (by kernel_rfl) (by kernel_rfl)) (by kernel_rfl) (by kernel_rfl)
end Go.Proofs.YtpgiabmmmpdobaaGreatDoor
namespace Go.Proofs.YtpgiabmmmpdobaaGreatDoor
set_option maxRecDepth 100000
set_option maxHeartbeats 40000000
set_option maxRecDepth 100000
open Go.RowKit WMath
set_option linter.unusedSimpArgs false
set_option linter.unusedVariables false
theorem op_inf (f : Int) (neg : Bool) (u v : Nat) (w : World) (KI : Box (∀ w, FAt w → Calls Tryz.prog 44 #[.int .u8 f, .int .u8 0, .bool neg] w fun r w' => r = .returned (.tuple #[.agg #[.int .u64 u, .int .u64 v], .int .u8 5, .int .i64 0]) ∧ Below w.heap.size w w')) (hT : FAt w) : Calls Tryz.prog 16 #[.int .u8 f, .bool neg] w fun r w' => r = .returned (.agg #[.int .u64 u, .int .u64 v]) ∧ Below w.heap.size w w' := by
 have FF := box hT
 clear hT
 obtain ⟨Ac, B0⟩ := opn1 w (Obj.cells #[.int .u64 0, .int .u64 0] 26)
 go_enter Tryz.func16, Tryz.ntmps16
 go_wp2_with fail
 refine (KI.out _ (fatB FF.out B0)).mono ?_
 rintro r w1 ⟨rfl, b1⟩
 have B1 := btr B0 b1
 have Aa := heap_of b1 _ _ _ Ac
 clear b1 B0 Ac
 obtain ⟨Ad, Ae⟩ := cells2s Aa
 have S2 := box B1.size
 have Af := ltR Aa
 have Ag := heap_alloc_last w1 (Obj.cells #[.int .u64 u, .int .u64 v] 26)
 have B2 := btr B1 (bal w1 (Obj.cells #[.int .u64 u, .int .u64 v] 26))
 have Ab := heap_of (bal w1 (Obj.cells #[.int .u64 u, .int .u64 v] 26)) _ _ _ Aa
 clear B1 Aa Ad Ae
 obtain ⟨Ah, Ai⟩ := cells2s Ab
 obtain ⟨Aj, Ak⟩ := cells2s Ag
 have q0 := fz (k := 0) Ab
 have q1 := fz (k := 1) Ab
 obtain ⟨E0, E1⟩ := set2_cells Ab (.int .u64 u) (.int .u64 v)
 go_wp2
 exact bodyPost_ret (v := .agg #[.int .u64 u, .int .u64 v]) (by simp [results, Tryz.results16, go_sem, E0, E1]) rfl ⟨rfl, set2_below B2 (by first | exact Nat.le_refl _ | omega | (have := S2.out; have := Af.out; omega)) _ _⟩
theorem op_nan (f : Int) (iu iv a b c u v : Nat) (l o : Bool) (w : World) (KI : Box (∀ w, FAt w → Calls Tryz.prog 16 #[.int .u8 f, .bool false] w fun r w' => r = .returned (.agg #[.int .u64 iu, .int .u64 iv]) ∧ Below w.heap.size w w'))
  (KO : Box (∀ w, Calls Tryz.prog 40 #[.agg #[.int .u64 iu, .int .u64 iv]] w fun r w' => r = .returned (.agg (cw 6 a)) ∧ Below w.heap.size w w'))
  (KR : Box (∀ w, Calls Tryz.prog 41 #[.agg (cw 6 a), .int .i64 1] w fun r w' => r = .returned (.tuple #[.agg (cw 6 b), .bool l]) ∧ Below w.heap.size w w'))
  (KU : Box (∀ w, Calls Tryz.prog 43 #[.agg (cw 6 a), .agg (cw 6 b)] w fun r w' => r = .returned (.agg (cw 6 c)) ∧ Below w.heap.size w w'))
  (KT : Box (∀ w, Calls Tryz.prog 42 #[.agg (cw 6 c)] w fun r w' => r = .returned (.tuple #[.agg #[.int .u64 u, .int .u64 v], .bool o]) ∧ Below w.heap.size w w')) (hT : FAt w) : Calls Tryz.prog 15 #[.int .u8 f] w fun r w' => r = .returned (.agg #[.int .u64 u, .int .u64 v]) ∧ Below w.heap.size w w' := by
 have FF := box hT
 clear hT
 have hat := cw_at 6
 have hz := cw6z
 have hff := cw6f
 have hs0 := st0
 have hcs : ∀ x, ((cw 6 x).size = 6) = True := fun x => eq_true (cw_size 6 x)
 obtain ⟨Aq, B0⟩ := opn1 w (Obj.cells #[.int .u64 0, .int .u64 0] 26)
 go_enter Tryz.func15, Tryz.ntmps15
 go_wp2_with fail
 refine (KI.out _ (fatB FF.out B0)).mono ?_
 rintro r w1 ⟨rfl, b1⟩
 have B1 := btr B0 b1
 have Ah := heap_of b1 _ _ _ Aq
 clear b1 B0 Aq
 obtain ⟨Ar, As⟩ := cells2s Ah
 go_wp2_with fail
 refine (KO.out _).mono ?_
 rintro r w2 ⟨rfl, b2⟩
 have B2 := btr B1 b2
 have Aa := heap_of b2 _ _ _ Ah
 clear b2 B1 Ah Ar As
 obtain ⟨At, Au⟩ := cells2s Aa
 have S3 := box B2.size
 have Av := ltR Aa
 have Ai := heap_alloc_last w2 (Obj.cells (cw 6 a) 41)
 have B3 := btr B2 (bal w2 (Obj.cells (cw 6 a) 41))
 have Aj := heap_of (bal w2 (Obj.cells (cw 6 a) 41)) _ _ _ Aa
 clear B2 Aa At Au
 obtain ⟨Aw, Ax⟩ := cells2s Aj
 have Ay := row_cell Ai
 go_wp2_with fail
 refine (KR.out _).mono ?_
 rintro r w4 ⟨rfl, b4⟩
 have B4 := btr B3 b4
 obtain ⟨Ab, Ac⟩ := rws2 b4 Aj Ai
 clear b4 B3 Aj Aw Ax Ai Ay
 obtain ⟨Az, AA⟩ := cells2s Ab
 have AB := row_cell Ac
 have S5 := box B4.size
 have AC := ltR Ab
 have AD := ltR Ac
 have Ak := heap_alloc_last w4 (Obj.cells (cw 6 b) 41)
 have B5 := btr B4 (bal w4 (Obj.cells (cw 6 b) 41))
 obtain ⟨Al, Am⟩ := rws2 (bal w4 (Obj.cells (cw 6 b) 41)) Ab Ac
 clear B4 Ab Az AA Ac AB
 obtain ⟨AE, AF⟩ := cells2s Al
 have AG := row_cell Am
 have AH := row_cell Ak
 go_wp2_with fail
 refine (KU.out _).mono ?_
 rintro r w6 ⟨rfl, b6⟩
 have B6 := btr B5 b6
 obtain ⟨An, Ao, Ap⟩ := rws3 b6 Al Am Ak
 clear b6 B5 Al AE AF Am AG Ak AH
 obtain ⟨AI, AJ⟩ := cells2s An
 have AK := row_cell Ao
 have AL := row_cell Ap
 go_wp2_with fail
 refine (KT.out _).mono ?_
 rintro r w7 ⟨rfl, b7⟩
 have B7 := btr B6 b7
 obtain ⟨Ad, Ae, Af⟩ := rws3 b7 An Ao Ap
 clear b7 B6 An AI AJ Ao AK Ap AL
 obtain ⟨AM, AN⟩ := cells2s Ad
 have AO := row_cell Ae
 have AP := row_cell Af
 have S8 := box B7.size
 have AQ := ltR Ad
 have AR := ltR Ae
 have AS := ltR Af
 have AT := heap_alloc_last w7 (Obj.cells #[.int .u64 u, .int .u64 v] 26)
 have B8 := btr B7 (bal w7 (Obj.cells #[.int .u64 u, .int .u64 v] 26))
 obtain ⟨Ag, AU, AV⟩ := rws3 (bal w7 (Obj.cells #[.int .u64 u, .int .u64 v] 26)) Ad Ae Af
 clear B7 Ad AM AN Ae AO Af AP
 obtain ⟨AW, AX⟩ := cells2s Ag
 have AY := row_cell AU
 have AZ := row_cell AV
 obtain ⟨A0, A1⟩ := cells2s AT
 have q0 := fz (k := 0) Ag
 have q1 := fz (k := 1) Ag
 obtain ⟨E0, E1⟩ := set2_cells Ag (.int .u64 u) (.int .u64 v)
 go_wp2
 exact bodyPost_ret (v := .agg #[.int .u64 u, .int .u64 v]) (by simp [results, Tryz.results15, go_sem, E0, E1]) rfl ⟨rfl, set2_below B8 (by first | exact Nat.le_refl _ | omega | (have := S3.out; have := Av.out; have := S5.out; have := AC.out; have := AD.out; have := S8.out; have := AQ.out; have := AR.out; have := AS.out; omega)) _ _⟩
def bls (l : List (Nat × Nat)) : Array Value := (l.flatMap fun p => [Value.int .u64 (p.1 : Nat), Value.int .u64 (p.2 : Nat)]).toArray
def okP (f : Int) (p : Nat × Nat) : Bool := okB f (p.2 + 18446744073709551616 * p.1)
theorem bls_at (l : List (Nat × Nat)) (k : Nat) (p : Nat × Nat) (h : l[k]? = some p) : (bls l)[k * 2]? = some (.int .u64 (p.1 : Nat)) ∧ (bls l)[k * 2 + 1]? = some (.int .u64 (p.2 : Nat)) := by
 unfold bls
 rw [List.getElem?_toArray, List.getElem?_toArray]
 induction l generalizing k with
 | nil => simp at h
 | cons a t ih =>
  cases k with
  | zero =>
   simp at h
   subst h
   simp
  | succ k =>
   simp only [List.getElem?_cons_succ] at h
   have := ih k h
   rw [show (k + 1) * 2 = k * 2 + 1 + 1 by omega]
   simpa using this
theorem bls_cell {w : World} {g : Nat} {T : TypeId} {l : List (Nat × Nat)} (row : w.heap[g]? = some (.cells (bls l) T)) (k : Nat) (p : Nat × Nat) (h : l[k]? = some p) : w.cell? ⟨g, k * 2, none⟩ = some (.int .u64 (p.1 : Nat)) ∧ w.cell? ⟨g, k * 2 + 1, none⟩ = some (.int .u64 (p.2 : Nat)) := by
 obtain ⟨a, b⟩ := bls_at l k p h
 exact ⟨(cell_of_row w g (k * 2) _ _ _ row).trans a, (cell_of_row w g (k * 2 + 1) _ _ _ row).trans b⟩
theorem op_may_no (f m : Int) (pu pv : Nat) (fl c : Int) (sl : Value) (hc : (c != 0) = true) (w : World)
  (KP : Box (∀ w, FAt w → Calls Tryz.prog 17 #[.int .u8 f, .int .u8 m, .agg (rg false 0 0 false)] w fun r w' => r = .returned (.tuple #[.agg #[.int .u64 pu, .int .u64 pv], .int .u8 fl, .int .i64 c]) ∧ Below w.heap.size w w')) (hT : FAt w) : Calls Tryz.prog 11 #[.int .u8 f, .int .u8 m, sl] w fun r w' => r = .returned (.bool false) ∧ Below w.heap.size w w' := by
 have FF := box hT
 clear hT
 have hp3 := rgz
 have B0 : Below w.heap.size w w := (Below.refl _ _)
 go_enter Tryz.func11, Tryz.ntmps11
 go_wp2_with fail
 refine (KP.out _ (fatB FF.out B0)).mono ?_
 rintro r w1 ⟨rfl, b1⟩
 have B1 := btr B0 b1
 clear b1 B0 
 have S2 := box B1.size
 have Aa := heap_alloc_last w1 (Obj.cells #[.int .u64 pu, .int .u64 pv] 26)
 have B2 := btr B1 (bal w1 (Obj.cells #[.int .u64 pu, .int .u64 pv] 26))
 clear B1 
 obtain ⟨Ab, Ac⟩ := cells2s Aa
 go_wp2
 go_ret
 exact ⟨rfl, B2⟩
theorem kClass_any (f : Int) (hf : Is4 f) (p : Nat × Nat) (h : p.1 < 18446744073709551616 ∧ p.2 < 18446744073709551616) (o : Bool) (ho : okP f p = o) : ∃ (c e : Int), (e != 0) = (!o) ∧ Box (∀ w, FAt w → Calls Tryz.prog 34 #[.int .u8 f, .agg #[.int .u64 (p.1 : Nat), .int .u64 (p.2 : Nat)]] w fun r w' => r = .returned (.tuple #[.int .u8 c, .int .i64 e]) ∧ Below w.heap.size w w') := by
 have h0 : 0 ≤ f ∧ f ≤ 255 := by rcases hf with rfl | rfl | rfl | rfl <;> decide
 cases o
 ·
  exact ⟨0, 2, rfl, box (fun w hT => kClass_no f h0.1 h0.2 p.1 p.2 _ h.1 h.2 rfl ho w hT)⟩
 ·
  exact ⟨_, 0, rfl, box (fun w hT => kClass_yes f hf p.1 p.2 _ _ h.1 h.2 rfl ho rfl w hT)⟩
theorem op_may (f m : Int) (hf : Is4 f) (l : List (Nat × Nat)) (L g c : Nat) (T : TypeId) (w : World) (hl : l.length = L) (hL : L ≤ 1000) (hb : Box (∀ p ∈ l, p.1 < 18446744073709551616 ∧ p.2 < 18446744073709551616)) (row : w.heap[g]? = some (.cells (bls l) T)) (pu pv : Nat) (fl : Int)
  (KP : Box (∀ w, FAt w → Calls Tryz.prog 17 #[.int .u8 f, .int .u8 m, .agg (rg false 0 0 false)] w fun r w' => r = .returned (.tuple #[.agg #[.int .u64 pu, .int .u64 pv], .int .u8 fl, .int .i64 0]) ∧ Below w.heap.size w w'))
  (o : Bool) (ho : l.all (okP f) = o) (hT : FAt w) : Calls Tryz.prog 11 #[.int .u8 f, .int .u8 m, .slice (some ⟨g, 0, none⟩) L c] w fun r w' => r = .returned (.bool o) ∧ Below w.heap.size w w' := by
 have FF := box hT
 have HO := box ho
 have HL := box hl
 have HF := box hf
 clear ho hl hT hf
 have hp3 := rgz
 go_enter Tryz.func11, Tryz.ntmps11
 go_wp2_with fail
 refine (KP.out _ FF.out).mono ?_
 rintro r w1 ⟨rfl, b1⟩
 have BP := btr b1 (bal w1 (.cells #[.int .u64 pu, .int .u64 pv] 26))
 obtain ⟨V, hV⟩ : ∃ V, w1.alloc (.cells #[.int .u64 pu, .int .u64 pv] 26) = V := ⟨_, rfl⟩
 go_wp2
 rw [hV] at BP
 clear b1 KP hV
 go_loopw [26] (fun iv wr => ∃ k : Nat, k ≤ L ∧ iv = .int .i64 k ∧ Below w.heap.size w wr ∧ Box (∀ j p, j < k → l[j]? = some p → okP f p = true)) (fun iv _ => L - (intOf iv).toNat)
 case atStart => exact ⟨0, by omega, rfl, BP, box (fun j s hj => absurd hj (by omega))⟩
 case round =>
  obtain ⟨k, hk, rfl, bw, HA⟩ := hrel
  by_cases hlt : k < L
  ·
   obtain ⟨p, hs⟩ : ∃ p, l[k]? = some p := ⟨_, List.getElem?_eq_getElem (by rw [HL.out]; exact hlt)⟩
   obtain ⟨c1, c2⟩ := bls_cell (heap_of bw _ _ _ row) k p hs
   have dl : decide ((k : Int) < (L : Int)) = true := decide_eq_true (by omega)
   have HS := box hs
   obtain ⟨o1, hm⟩ : ∃ o1, okP f p = o1 := ⟨_, rfl⟩
   have HM := box hm
   obtain ⟨cc, ee, hee, KC⟩ := kClass_any f HF.out p (hb.out p (List.mem_of_getElem? hs)) o1 hm
   have FA : Box (FAt (wr.alloc (.cells #[.int .u64 (p.1 : Nat), .int .u64 (p.2 : Nat)] 26))) := box (fatB FF.out (btr bw (bal _ _)))
   have BA := btr bw (bal wr (.cells #[.int .u64 (p.1 : Nat), .int .u64 (p.2 : Nat)] 26))
   clear hs hm
   cases o1
   ·
    have e : o = false := by
     rw [← HO.out, Bool.eq_false_iff]
     intro h
     rw [List.all_eq_true] at h
     have := h p (List.mem_of_getElem? HS.out)
     rw [HM.out] at this
     exact absurd this (by decide)
    subst e
    go_wp2_with fail
    refine (KC.out _ FA.out).mono ?_
    rintro r w2 ⟨rfl, b2⟩
    go_wp2
    go_ret
    exact ⟨rfl, btr BA b2⟩
   ·
    have NA : Box (∀ j p, j < k + 1 → l[j]? = some p → okP f p = true) := box (fun j p2 hj h2 => by
     by_cases e : j = k
     ·
      subst e
      rw [HS.out] at h2
      cases h2
      exact HM.out
     ·
      exact HA.out j p2 (by omega) h2)
    go_wp2_with fail
    refine (KC.out _ FA.out).mono ?_
    rintro r w2 ⟨rfl, b2⟩
    go_wp2
    go_roundw
    case rel => exact ⟨k + 1, by omega, by go_num, btr BA b2, NA⟩
    case measure => simp [intOf] <;> omega
  ·
   obtain rfl : k = L := by omega
   have e : o = true := by
    rw [← HO.out, List.all_eq_true]
    intro s hs
    obtain ⟨j, hj⟩ := List.mem_iff_getElem?.1 hs
    have := (List.getElem?_eq_some_iff.1 hj).1
    exact HA.out j s (by rw [← HL.out]; exact this) hj
   subst e
   have dl : decide ((k : Int) < (k : Int)) = false := by rw [decide_eq_false_iff_not]; omega
   go_wp2
   go_ret
   exact ⟨rfl, bw⟩
theorem rSig_is (f : Int) (hf : Is4 f) (x y n c : Nat) (o : Bool) (hx : x < 18446744073709551616) (hy : y < 18446744073709551616) (hn : y + 18446744073709551616 * x = n) (hfit : Fit f n) (hc : kC f n = c) (ho : decide (c = 8) = o) (w : World) : Calls Tryz.prog 62 #[.int .u8 f, .agg #[.int .u64 x, .int .u64 y]] w fun r w' => r = .returned (.bool o) ∧ Below w.heap.size w w' := by
 have K1 := box (rk_class f hf x y n c hx hy hn hfit hc)
 have hd : ((c : Int) == 8) = o := by
  rw [← ho]
  by_cases c7 : c = 8
  ·
   rw [decide_eq_true c7, c7]; rfl
  ·
   rw [decide_eq_false c7, beq_eq_false_iff_ne]; omega
 clear hf hx hy hn hfit hc ho
 obtain ⟨Aa, B0⟩ := opn1 w (Obj.cells #[.int .u64 x, .int .u64 y] 26)
 go_enter Tryz.func62, Tryz.ntmps62
 go_wp2_with fail
 refine (K1.out _).mono ?_
 rintro r w1 ⟨rfl, b1⟩
 have B1 := btr B0 b1
 have Ab := heap_of b1 _ _ _ Aa
 clear b1 B0 Aa
 obtain ⟨Ac, Ad⟩ := cells2s Ab
 go_wp2
 go_ret
 exact ⟨rfl, B1⟩
theorem rInf_is (f : Int) (hf : Is4 f) (x y n c : Nat) (o : Bool) (hx : x < 18446744073709551616) (hy : y < 18446744073709551616) (hn : y + 18446744073709551616 * x = n) (hfit : Fit f n) (hc : kC f n = c) (ho : (decide (c = 0) || decide (c = 7)) = o) (w : World) : Calls Tryz.prog 24 #[.int .u8 f, .agg #[.int .u64 x, .int .u64 y]] w fun r w' => r = .returned (.bool o) ∧ Below w.heap.size w w' := by
 have K1 := box (rk_class f hf x y n c hx hy hn hfit hc)
 clear hf hx hy hn hfit hc
 by_cases c0 : c = 0
 ·
  rw [decide_eq_true c0, Bool.true_or] at ho
  subst ho
  have d0 : ((c : Int) == 0) = true := by rw [c0]; rfl
  clear c0
  obtain ⟨Aa, B0⟩ := opn1 w (Obj.cells #[.int .u64 x, .int .u64 y] 26)
  go_enter Tryz.func24, Tryz.ntmps24
  go_wp2_with fail
  refine (K1.out _).mono ?_
  rintro r w1 ⟨rfl, b1⟩
  have B1 := btr B0 b1
  have Ab := heap_of b1 _ _ _ Aa
  clear b1 B0 Aa
  obtain ⟨Ac, Ad⟩ := cells2s Ab
  go_wp2
  go_ret
  exact ⟨rfl, B1⟩
 ·
  rw [decide_eq_false c0, Bool.false_or] at ho
  have d0 : ((c : Int) == 0) = false := by rw [beq_eq_false_iff_ne]; omega
  have d7 : ((c : Int) == 7) = o := by
   rw [← ho]
   by_cases c7 : c = 7
   ·
    rw [decide_eq_true c7, c7]; rfl
   ·
    rw [decide_eq_false c7, beq_eq_false_iff_ne]; omega
  clear ho c0
  obtain ⟨Aa, B0⟩ := opn1 w (Obj.cells #[.int .u64 x, .int .u64 y] 26)
  go_enter Tryz.func24, Tryz.ntmps24
  go_wp2_with fail
  refine (K1.out _).mono ?_
  rintro r w1 ⟨rfl, b1⟩
  have B1 := btr B0 b1
  have Ab := heap_of b1 _ _ _ Aa
  clear b1 B0 Aa
  obtain ⟨Ac, Ad⟩ := cells2s Ab
  go_wp2
  go_ret
  exact ⟨rfl, B1⟩
theorem rZero_is (f : Int) (hf : Is4 f) (x y n c : Nat) (o : Bool) (hx : x < 18446744073709551616) (hy : y < 18446744073709551616) (hn : y + 18446744073709551616 * x = n) (hfit : Fit f n) (hc : kC f n = c) (ho : (decide (c = 3) || decide (c = 4)) = o) (w : World) : Calls Tryz.prog 25 #[.int .u8 f, .agg #[.int .u64 x, .int .u64 y]] w fun r w' => r = .returned (.bool o) ∧ Below w.heap.size w w' := by
 have K1 := box (rk_class f hf x y n c hx hy hn hfit hc)
 clear hf hx hy hn hfit hc
 by_cases c0 : c = 3
 ·
  rw [decide_eq_true c0, Bool.true_or] at ho
  subst ho
  have d0 : ((c : Int) == 3) = true := by rw [c0]; rfl
  clear c0
  obtain ⟨Aa, B0⟩ := opn1 w (Obj.cells #[.int .u64 x, .int .u64 y] 26)
  go_enter Tryz.func25, Tryz.ntmps25
  go_wp2_with fail
  refine (K1.out _).mono ?_
  rintro r w1 ⟨rfl, b1⟩
  have B1 := btr B0 b1
  have Ab := heap_of b1 _ _ _ Aa
  clear b1 B0 Aa
  obtain ⟨Ac, Ad⟩ := cells2s Ab
  go_wp2
  go_ret
  exact ⟨rfl, B1⟩
 ·
  rw [decide_eq_false c0, Bool.false_or] at ho
  have d0 : ((c : Int) == 3) = false := by rw [beq_eq_false_iff_ne]; omega
  have d7 : ((c : Int) == 4) = o := by
   rw [← ho]
   by_cases c7 : c = 4
   ·
    rw [decide_eq_true c7, c7]; rfl
   ·
    rw [decide_eq_false c7, beq_eq_false_iff_ne]; omega
  clear ho c0
  obtain ⟨Aa, B0⟩ := opn1 w (Obj.cells #[.int .u64 x, .int .u64 y] 26)
  go_enter Tryz.func25, Tryz.ntmps25
  go_wp2_with fail
  refine (K1.out _).mono ?_
  rintro r w1 ⟨rfl, b1⟩
  have B1 := btr B0 b1
  have Ab := heap_of b1 _ _ _ Aa
  clear b1 B0 Aa
  obtain ⟨Ac, Ad⟩ := cells2s Ab
  go_wp2
  go_ret
  exact ⟨rfl, B1⟩
theorem rf_no (f m : Int) (sl : Value) (w : World) (KR : Box (∀ w, Calls Tryz.prog 58 #[.int .u8 f] w fun r w' => r = .returned (.bool false) ∧ Below w.heap.size w w')) : Calls Tryz.prog 20 #[.int .u8 f, .int .u8 m, sl] w fun r w' => r = .returned (.bool false) ∧ Below w.heap.size w w' := by
 have B0 : Below w.heap.size w w := (Below.refl _ _)
 go_enter Tryz.func20, Tryz.ntmps20
 go_wp2_with fail
 refine (KR.out _).mono ?_
 rintro r w1 ⟨rfl, b1⟩
 have B1 := btr B0 b1
 clear b1 B0 
 go_wp2
 go_ret
 exact ⟨rfl, B1⟩
theorem rf_nom (f m : Int) (sl : Value) (w : World) (KR : Box (∀ w, Calls Tryz.prog 58 #[.int .u8 f] w fun r w' => r = .returned (.bool true) ∧ Below w.heap.size w w')) (KM : Box (∀ w, Calls Tryz.prog 59 #[.int .u8 m] w fun r w' => r = .returned (.bool false) ∧ Below w.heap.size w w')) : Calls Tryz.prog 20 #[.int .u8 f, .int .u8 m, sl] w fun r w' => r = .returned (.bool false) ∧ Below w.heap.size w w' := by
 have B0 : Below w.heap.size w w := (Below.refl _ _)
 go_enter Tryz.func20, Tryz.ntmps20
 go_wp2_with fail
 refine (KR.out _).mono ?_
 rintro r w1 ⟨rfl, b1⟩
 have B1 := btr B0 b1
 clear b1 B0 
 go_wp2_with fail
 refine (KM.out _).mono ?_
 rintro r w2 ⟨rfl, b2⟩
 have B2 := btr B1 b2
 clear b2 B1 
 go_wp2
 go_ret
 exact ⟨rfl, B2⟩
theorem rf_list (f m : Int) (h0 : 0 ≤ f) (l : List (Nat × Nat)) (L g c : Nat) (T : TypeId) (w : World) (hl : l.length = L) (hL : L ≤ 1000) (hb : Box (∀ p ∈ l, p.1 < 18446744073709551616 ∧ p.2 < 18446744073709551616)) (row : w.heap[g]? = some (.cells (bls l) T))
  (KR : Box (∀ w, Calls Tryz.prog 58 #[.int .u8 f] w fun r w' => r = .returned (.bool true) ∧ Below w.heap.size w w')) (KM : Box (∀ w, Calls Tryz.prog 59 #[.int .u8 m] w fun r w' => r = .returned (.bool true) ∧ Below w.heap.size w w'))
  (o : Bool) (ho : l.all (okP f) = o) : Calls Tryz.prog 20 #[.int .u8 f, .int .u8 m, .slice (some ⟨g, 0, none⟩) L c] w fun r w' => r = .returned (.bool o) ∧ Below w.heap.size w w' := by
 have HO := box ho
 have HL := box hl
 have HF := box h0
 clear ho hl h0
 go_enter Tryz.func20, Tryz.ntmps20
 go_wp2_with fail
 refine (KR.out _).mono ?_
 rintro r w1 ⟨rfl, b1⟩
 go_wp2_with fail
 refine (KM.out _).mono ?_
 rintro r w2 ⟨rfl, b2⟩
 have BP := btr b1 b2
 clear b1 b2 KR KM
 go_wp2
 go_loopw [7] (fun iv wr => ∃ k : Nat, k ≤ L ∧ iv = .int .i64 k ∧ Below w.heap.size w wr ∧ Box (∀ j p, j < k → l[j]? = some p → okP f p = true)) (fun iv _ => L - (intOf iv).toNat)
 case atStart => exact ⟨0, by omega, rfl, BP, box (fun j s hj => absurd hj (by omega))⟩
 case round =>
  obtain ⟨k, hk, rfl, bw, HA⟩ := hrel
  by_cases hlt : k < L
  ·
   obtain ⟨p, hs⟩ : ∃ p, l[k]? = some p := ⟨_, List.getElem?_eq_getElem (by rw [HL.out]; exact hlt)⟩
   obtain ⟨c1, c2⟩ := bls_cell (heap_of bw _ _ _ row) k p hs
   have dl : decide ((k : Int) < (L : Int)) = true := decide_eq_true (by omega)
   have HS := box hs
   obtain ⟨o1, hm⟩ : ∃ o1, okP f p = o1 := ⟨_, rfl⟩
   have HM := box hm
   have hp := hb.out p (List.mem_of_getElem? hs)
   have KC : Box (∀ w, Calls Tryz.prog 60 #[.int .u8 f, .agg #[.int .u64 (p.1 : Nat), .int .u64 (p.2 : Nat)]] w fun r w' => r = .returned (.bool o1) ∧ Below w.heap.size w w') := box (fun w => rk_fits f p.1 p.2 _ o1 HF.out hp.1 hp.2 rfl hm w)
   clear hs hm hp
   cases o1
   ·
    have e : o = false := by
     rw [← HO.out, Bool.eq_false_iff]
     intro h
     rw [List.all_eq_true] at h
     have := h p (List.mem_of_getElem? HS.out)
     rw [HM.out] at this
     exact absurd this (by decide)
    subst e
    go_wp2_with fail
    refine (KC.out _).mono ?_
    rintro r w2 ⟨rfl, b2⟩
    go_wp2
    go_ret
    exact ⟨rfl, btr bw b2⟩
   ·
    have NA : Box (∀ j p, j < k + 1 → l[j]? = some p → okP f p = true) := box (fun j p2 hj h2 => by
     by_cases e : j = k
     ·
      subst e
      rw [HS.out] at h2
      cases h2
      exact HM.out
     ·
      exact HA.out j p2 (by omega) h2)
    go_wp2_with fail
    refine (KC.out _).mono ?_
    rintro r w2 ⟨rfl, b2⟩
    go_wp2
    go_roundw
    case rel => exact ⟨k + 1, by omega, by go_num, btr bw b2, NA⟩
    case measure => simp [intOf] <;> omega
  ·
   obtain rfl : k = L := by omega
   have e : o = true := by
    rw [← HO.out, List.all_eq_true]
    intro s hs
    obtain ⟨j, hj⟩ := List.mem_iff_getElem?.1 hs
    have := (List.getElem?_eq_some_iff.1 hj).1
    exact HA.out j s (by rw [← HL.out]; exact this) hj
   subst e
   have dl : decide ((k : Int) < (k : Int)) = false := by rw [decide_eq_false_iff_not]; omega
   go_wp2
   go_ret
   exact ⟨rfl, bw⟩
def sgP (f : Int) (p : Nat × Nat) : Bool := decide (kC f (p.2 + 18446744073709551616 * p.1) = 8)
theorem any_take {α : Type} (q : α → Bool) (l : List α) (k : Nat) (p : α) (h : l[k]? = some p) : (l.take (k + 1)).any q = ((l.take k).any q || q p) := by
 rw [List.take_add_one, h]
 simp
theorem rc_list (f : Int) (hf : Is4 f) (l : List (Nat × Nat)) (L g c : Nat) (T : TypeId) (w : World) (hl : l.length = L) (hL : L ≤ 1000) (hb : Box (∀ p ∈ l, p.1 < 18446744073709551616 ∧ p.2 < 18446744073709551616)) (hfit : Box (∀ p ∈ l, Fit f (p.2 + 18446744073709551616 * p.1))) (row : w.heap[g]? = some (.cells (bls l) T)) (u v : Nat)
  (KN : Box (∀ w, Calls Tryz.prog 26 #[.int .u8 f] w fun r w' => r = .returned (.agg #[.int .u64 u, .int .u64 v]) ∧ Below w.heap.size w w'))
  (fl : Int) (hfl : (if l.any (sgP f) = true then (16 : Int) else 0) = fl) : Calls Tryz.prog 22 #[.int .u8 f, .slice (some ⟨g, 0, none⟩) L c] w fun r w' => r = .returned (.tuple #[.agg #[.int .u64 u, .int .u64 v], .int .u8 fl]) ∧ Below w.heap.size w w' := by
 have HO := box hfl
 have HL := box hl
 have HF := box hf
 clear hfl hl hf
 obtain ⟨Ab, B0⟩ := opn1 w (Obj.cells #[.int .u64 0, .int .u64 0] 26)
 go_enter Tryz.func22, Tryz.ntmps22
 go_wp2
 obtain ⟨V, hV⟩ : ∃ V, w.alloc (.cells #[.int .u64 0, .int .u64 0] 26) = V := ⟨_, rfl⟩
 have rowV : V.heap[g]? = some (.cells (bls l) T) := by rw [← hV]; exact heap_of (bal w _) _ _ _ row
 rw [hV] at B0 Ab ⊢
 clear hV row
 go_loopw [6, 7] (fun fv iv wr => ∃ (k : Nat) (e : Int), k ≤ L ∧ iv = .int .i64 k ∧ fv = .int .u8 e ∧ Below V.heap.size V wr ∧ Box ((if (l.take k).any (sgP f) = true then (16 : Int) else 0) = e)) (fun _ iv _ => L - (intOf iv).toNat)
 case atStart => exact ⟨0, 0, by omega, rfl, rfl, Below.refl _ _, box (by simp)⟩
 case round =>
  obtain ⟨k, e, hk, rfl, rfl, bw, HA⟩ := hrel
  by_cases hlt : k < L
  ·
   obtain ⟨p, hs⟩ : ∃ p, l[k]? = some p := ⟨_, List.getElem?_eq_getElem (by rw [HL.out]; exact hlt)⟩
   obtain ⟨c1, c2⟩ := bls_cell (heap_of bw _ _ _ rowV) k p hs
   have dl : decide ((k : Int) < (L : Int)) = true := decide_eq_true (by omega)
   obtain ⟨o1, hm⟩ : ∃ o1, sgP f p = o1 := ⟨_, rfl⟩
   have hp := hb.out p (List.mem_of_getElem? hs)
   have KC : Box (∀ w, Calls Tryz.prog 62 #[.int .u8 f, .agg #[.int .u64 (p.1 : Nat), .int .u64 (p.2 : Nat)]] w fun r w' => r = .returned (.bool o1) ∧ Below w.heap.size w w') := box (fun w => rSig_is f HF.out p.1 p.2 _ _ o1 hp.1 hp.2 rfl (hfit.out p (List.mem_of_getElem? hs)) rfl hm w)
   have at1 := any_take (sgP f) l k p hs
   rw [hm] at at1
   have HT := box at1
   clear hs hm hp at1
   cases o1
   ·
    have NA : Box ((if (l.take (k + 1)).any (sgP f) = true then (16 : Int) else 0) = e) := box (by rw [HT.out, Bool.or_false]; exact HA.out)
    go_wp2_with fail
    refine (KC.out _).mono ?_
    rintro r w2 ⟨rfl, b2⟩
    go_wp2
    go_roundw
    case rel => exact ⟨k + 1, e, by omega, by go_num, rfl, btr bw b2, NA⟩
    case measure => simp [intOf] <;> omega
   ·
    have NA : Box ((if (l.take (k + 1)).any (sgP f) = true then (16 : Int) else 0) = 16) := box (by rw [HT.out, Bool.or_true, if_pos rfl])
    go_wp2_with fail
    refine (KC.out _).mono ?_
    rintro r w2 ⟨rfl, b2⟩
    go_wp2
    go_roundw
    case rel => exact ⟨k + 1, 16, by omega, by go_num, rfl, btr bw b2, NA⟩
    case measure => simp [intOf] <;> omega
  ·
   obtain rfl : k = L := by omega
   have ee : e = fl := by
    rw [← HA.out, ← HO.out, ← HL.out, List.take_length]
   subst ee
   have dl : decide ((k : Int) < (k : Int)) = false := by rw [decide_eq_false_iff_not]; omega
   have Ac := heap_of bw _ _ _ Ab
   have B1 := btr B0 bw
   clear bw HA Ab B0 rowV
   obtain ⟨w1, Ad⟩ : ∃ w1, w1 = wr := ⟨_, rfl⟩
   subst Ad
   obtain ⟨Ae, Af⟩ := cells2s Ac
   go_wp2_with fail
   refine (KN.out _).mono ?_
   rintro r w2 ⟨rfl, b2⟩
   have B2 := btr B1 b2
   have Aa := heap_of b2 _ _ _ Ac
   clear b2 B1 Ac Ae Af
   obtain ⟨Ag, Ah⟩ := cells2s Aa
   have q0 := fz (k := 0) Aa
   have q1 := fz (k := 1) Aa
   obtain ⟨E0, E1⟩ := set2_cells Aa (.int .u64 u) (.int .u64 v)
   go_wp2
   exact bodyPost_ret (v := .tuple #[.agg #[.int .u64 u, .int .u64 v], .int .u8 e]) (by simp [results, Tryz.results22, go_sem, E0, E1]) rfl ⟨rfl, set2_below B2 (by first | exact Nat.le_refl _ | omega | (skip; omega)) _ _⟩
end Go.Proofs.YtpgiabmmmpdobaaGreatDoor
namespace Go.Proofs.YtpgiabmmmpdobaaGreatDoor
set_option maxRecDepth 100000
set_option maxHeartbeats 40000000
set_option maxRecDepth 100000
open Go.RowKit WMath XMath
set_option linter.unusedSimpArgs false
set_option linter.unusedVariables false
theorem vX_whole {f : Int} (hf : Is4 f) (n : Nat) (h : 0 < kC f n ∧ kC f n < 7) (h2 : ¬ (kC f n = 3 ∨ kC f n = 4)) : kS f n ≠ 0 ∧ kS f n < 2 ^ 128 ∧ vX f n = ⟨kN f n, od (kS f n), 1, kX f n + (tz (kS f n) : Int)⟩ ∧ (vX f n).can := by
 obtain ⟨l1, l2, l3⟩ := kS_lim hf n
 obtain ⟨a, b, d, e⟩ := k_parts (f := f) n (by omega)
 have l4 : kS f n < 2 ^ 128 := l1
 obtain ⟨w1, w2, w3, w4, w5, w6, w7⟩ := x_whole hf (kN f n) (kS f n) (kX f n) e (by have := (blen_iff (kS f n) 128).2 l4; omega) (by omega) (by omega)
 have := vX_mk hf n h
 rw [w1] at this
 injection this with h3 h4
 exact ⟨e, l4, h3.symm, by rw [← h3]; exact w2⟩
theorem ov_inf (f : Int) (neg : Bool) : ovB f 0 neg = eInf f neg := by
 unfold ovB
 rw [if_pos (by unfold gO; rw [if_pos rfl]; rfl)]
theorem nan_or {f : Int} (hf : Is4 f) : eInf f false ||| eInf f false / 2 = eNaN f ∧ eInf f false < 340282366920938463463374607431768211456 ∧ eNaN f < 340282366920938463463374607431768211456 := by
 rcases hf with rfl | rfl | rfl | rfl <;> decide +kernel
theorem kInf_is (f : Int) (hf : Is4 f) (neg : Bool) (u v : Nat) (hv : bv7 (eInf f neg) = (u, v)) (w : World) (hT : FAt w) : Calls Tryz.prog 16 #[.int .u8 f, .bool neg] w fun r w' => r = .returned (.agg #[.int .u64 u, .int .u64 v]) ∧ Below w.heap.size w w' :=
 op_inf f neg u v w (box (fun w hT => kover f 0 hf (by decide) neg u v (by rw [ov_inf]; exact hv) w hT)) hT
theorem kNaN_is (f : Int) (hf : Is4 f) (u v : Nat) (hv : bv7 (eNaN f) = (u, v)) (w : World) (hT : FAt w) : Calls Tryz.prog 15 #[.int .u8 f] w fun r w' => r = .returned (.agg #[.int .u64 u, .int .u64 v]) ∧ Below w.heap.size w w' := by
 obtain ⟨n1, n2, n3⟩ := nan_or hf
 obtain ⟨iu, iv, hi⟩ : ∃ iu iv, bv7 (eInf f false) = (iu, iv) := ⟨_, _, rfl⟩
 obtain ⟨i1, i2, i3⟩ := bv_lt n2 hi
 obtain ⟨w0, w1⟩ := wd01 n3
 have hQ := lt_Q7 n2
 have hQ2 := lt_Q7 n3
 have hQ3 : eInf f false / 2 < Q := Nat.lt_of_le_of_lt (Nat.div_le_self _ _) hQ
 unfold bv7 at hv
 injection hv with v1 v2
 have KT : Box (∀ w, Calls Tryz.prog 42 #[.agg (cw 6 (eNaN f))] w fun r w' => r = .returned (.tuple #[.agg #[.int .u64 u, .int .u64 v], .bool true]) ∧ Below w.heap.size w w') := box (fun w => by
  have := wtobits_yes (eNaN f) hQ2 (by rw [w0, w1]; exact Nat.mod_add_div _ _) w
  rw [w0, w1, v1, v2] at this
  exact this)
 exact op_nan f iu iv _ _ _ u v _ true w (box (fun w hT => kInf_is f hf false iu iv hi w hT)) (box (fun w => wofbits_is iu iv _ i1 i2 i3 w))
  (box (fun w => wright_is (eInf f false) (eInf f false / 2) 1 _ hQ rfl rfl w)) (box (fun w => wor_is _ _ _ hQ hQ3 n1 w)) KT hT
theorem ieq {c : Nat} {k : Int} (h : (c : Int) = k) : ((c : Int) == k) = true := by rw [h]; exact beq_self_eq_true k
theorem ine {c : Nat} {k : Int} (h : (c : Int) ≠ k) : ((c : Int) == k) = false := beq_eq_false_iff_ne.2 h
theorem q256 {s : Nat} (h : s < 2 ^ 256) : s < Q := Nat.lt_of_lt_of_le h (by decide +kernel)
def sumN (sa sb : Bool) (X Y n : Nat) : Nat := if sa = sb then X * 2 ^ n + Y else X * 2 ^ n - Y
theorem sum_rat (sa sb : Bool) (X Y n : Nat) (ey : Int) (hg : Y ≤ X * 2 ^ n) : sgn sa * ((X : Rat) / ((1 : Nat) : Rat)) * (2 : Rat) ^ (ey + (n : Int)) + sgn sb * ((Y : Rat) / ((1 : Nat) : Rat)) * (2 : Rat) ^ ey = sgn sa * (((sumN sa sb X Y n : Nat) : Rat) / ((1 : Nat) : Rat)) * (2 : Rat) ^ ey := by
 have one : ∀ z : Rat, z / ((1 : Nat) : Rat) = z := fun z => by
  rw [show ((1 : Nat) : Rat) = 1 from rfl, Rat.div_def, show (1 : Rat)⁻¹ = 1 by decide +kernel, Rat.mul_one]
 rw [one, one, one, p2add, p2nat]
 generalize (2 : Rat) ^ ey = E
 unfold sumN
 by_cases c : sa = sb
 ·
  subst c
  rw [if_pos rfl, Rat.natCast_add, Rat.natCast_mul]
  generalize ((2 ^ n : Nat) : Rat) = H
  grind
 ·
  rw [if_neg c]
  have hs : sgn sb = - sgn sa := by
   unfold sgn
   cases sa <;> cases sb <;> first | exact absurd rfl c | decide +kernel
  have hN : ((X * 2 ^ n - Y : Nat) : Rat) + (Y : Rat) = (X : Rat) * ((2 ^ n : Nat) : Rat) := by
   rw [← Rat.natCast_add, ← Rat.natCast_mul, Nat.sub_add_cancel hg]
  rw [hs]
  generalize ((2 ^ n : Nat) : Rat) = H at *
  generalize ((X * 2 ^ n - Y : Nat) : Rat) = K at *
  grind
theorem bd_whole (b : Bool) (A : Nat) (x : Int) (A0 : A ≠ 0) (hA : A < 2 ^ 128) (x1 : -20000 ≤ x) (x2 : x ≤ 20000) : Bd ⟨b, od A, 1, x + (tz A : Int)⟩ 128 20200 := by
 have tA := tz_blen A
 have bA := (blen_iff A 128).2 hA
 obtain ⟨o1, o2⟩ := od_is A A0
 have le : od A ≤ A := by
  have p := Nat.two_pow_pos (tz A)
  have := Nat.mul_le_mul_left (od A) p
  rw [Nat.mul_one] at this
  omega
 exact ⟨Nat.lt_of_le_of_lt le hA, by show 1 < 2 ^ 128; decide, by show -((20200 : Nat) : Int) ≤ x + (tz A : Int); omega, by show x + (tz A : Int) ≤ ((20200 : Nat) : Int); omega⟩
theorem add_num {f : Int} (hf : Is4 f) (m : Int) (sa sb : Bool) (X Y n : Nat) (ex ey : Int) (X0 : X ≠ 0) (Y0 : Y ≠ 0) (hX : X < 2 ^ 128) (hY : Y < 2 ^ 128) (hn : ex = ey + (n : Int)) (hg : Y ≤ X * 2 ^ n) (x1 : -20000 ≤ ex) (x2 : ex ≤ 20000) (y1 : -20000 ≤ ey) (y2 : ey ≤ 20000) (N : Nat) (hN : sumN sa sb X Y n = N) (N0 : N ≠ 0) :
  ∃ (k : Nat) (e : Int), addX ⟨sa, od X, 1, ex + (tz X : Int)⟩ ⟨sb, od Y, 1, ey + (tz Y : Int)⟩ = (⟨sa, k, 1, e⟩, 0) ∧ addX ⟨sb, od Y, 1, ey + (tz Y : Int)⟩ ⟨sa, od X, 1, ex + (tz X : Int)⟩ = (⟨sa, k, 1, e⟩, 0) ∧ (XN.mk sa k 1 e).can ∧ nl k ≤ 8192 ∧ k ≠ 0 ∧
   rnd f m ⟨sa, k, 1, e⟩ = dlv f m sa (ey + (blen N : Int) - 1) (qW (pV f + 1) N) (qM (pV f + 1) N false) := by
 have bX := (blen_iff X 128).2 hX
 have bY := (blen_iff Y 128).2 hY
 have bN : blen N ≤ 45000 := by
  have : blen N ≤ 128 + n + 1 := by
   apply blen_le_of
   have h1 : X * 2 ^ n < 2 ^ (128 + n) := by rw [Nat.pow_add]; exact (Nat.mul_lt_mul_right (Nat.two_pow_pos n)).2 hX
   have h2 : N ≤ X * 2 ^ n + X * 2 ^ n := by rw [← hN]; unfold sumN; split <;> omega
   rw [Nat.pow_succ]
   omega
  omega
 obtain ⟨w1, w2, w3, w4, w5, w6, w7⟩ := x_whole hf sa N ey N0 bN (by omega) (by omega)
 obtain ⟨u1, u2, u3, u4, u5, u6, u7⟩ := x_whole hf sa X ex X0 (by omega) (by omega) (by omega)
 obtain ⟨v1, v2, v3, v4, v5, v6, v7⟩ := x_whole hf sb Y ey Y0 (by omega) (by omega) (by omega)
 have wv := mk_val sa N 1 ey (by decide) (by rw [w1])
 have uv := mk_val sa X 1 ex (by decide) (by rw [u1])
 have vv := mk_val sb Y 1 ey (by decide) (by rw [v1])
 rw [w1] at wv
 rw [u1] at uv
 rw [v1] at vv
 have sr := sum_rat sa sb X Y n ey hg
 rw [← hn, hN] at sr
 have hv : (XN.mk sa (od X) 1 (ex + (tz X : Int))).val + (XN.mk sb (od Y) 1 (ey + (tz Y : Int))).val = (XN.mk sa (od N) 1 (ey + (tz N : Int))).val := by
  rw [uv, vv, wv]
  exact sr
 have B1 := bd_whole sa X ex X0 hX x1 x2
 have B2 := bd_whole sb Y ey Y0 hY y1 y2
 refine ⟨od N, ey + (tz N : Int), addX_is _ _ _ u2 v2 w2 B1 B2 hv, addX_is _ _ _ v2 u2 w2 B2 B1 (by rw [Rat.add_comm]; exact hv), w2, w4, w3, ?_⟩
 unfold rnd
 rw [if_neg w3, w5, w6, w7]
theorem kX_ge {f : Int} (n : Nat) (h : kC f n = 1 ∨ kC f n = 2 ∨ kC f n = 5 ∨ kC f n = 6) : lx f ≤ kX f n := by
 obtain ⟨a, b, c, d⟩ := k_parts (f := f) n h
 rw [c]
 unfold xV
 split <;> omega
theorem rlt {a b c : Rat} (h1 : a < b) (h2 : b ≤ c) : a < c := by grind
theorem p2of (i j : Int) (u : Rat) (h1 : (2 : Rat) ^ i ≤ u) (h2 : u < (2 : Rat) ^ (j + 1)) : i ≤ j := by
 rcases Int.lt_or_le j i with c | c
 ·
  have := p2mono (j + 1) i (by omega)
  exact absurd (rlt h2 (Rat.le_trans this h1)) Rat.lt_irrefl
 ·
  exact c
theorem kS_blen {f : Int} (hf : Is4 f) (n : Nat) (h : kC f n = 1 ∨ kC f n = 2 ∨ kC f n = 5 ∨ kC f n = 6) : 1 ≤ blen (kS f n) ∧ blen (kS f n) ≤ 113 := by
 obtain ⟨n1, n2, n3, n4, n5, n6⟩ := nm8 hf
 obtain ⟨k1, k2, k3, k4⟩ := k_parts (f := f) n h
 have t := kT_lt (f := f) n
 have l : kS f n < 2 ^ (pV f + 1) := by
  rw [k2, Nat.pow_succ]
  unfold sV
  split <;> omega
 have := (blen_iff (kS f n) (pV f + 1)).2 l
 have := blen_pos _ k4
 have : pV f ≤ 112 := by rcases hf with rfl | rfl | rfl | rfl <;> decide
 omega
end Go.Proofs.YtpgiabmmmpdobaaGreatDoor
