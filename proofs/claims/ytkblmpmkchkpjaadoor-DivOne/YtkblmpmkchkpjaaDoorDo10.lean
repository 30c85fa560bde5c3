/-
  What the functions that the statement reaches return: part 10 (R34, R35, R16, R18, SL, O1, O3, M0, M2, A3, A5, M5, Z0).
-/
import Derived.Test.YtkblmpmkchkpjaaDoorRows
import Derived.OpenShut
import Derived.LaidMore
import Derived.Lib.LaidTab
import Derived.Stop.Joined
import Derived.Test.YtkblmpmkchkpjaaDoorDo09
namespace Go.Proofs.YtkblmpmkchkpjaaDoor
set_option maxRecDepth 100000
set_option maxHeartbeats 40000000
set_option maxRecDepth 100000
open Go.RowKit WMath
set_option linter.unusedSimpArgs false
set_option linter.unusedVariables false
theorem wbit0 (n : Nat) (o : Bool) (ho : decide (n % 2 = 1) = o) (w : World) : Calls Tryd.prog 68 #[.agg (cw 6 n), .int .i64 0] w fun r w' => r = .returned (.bool o) ∧ Below w.heap.size w w' := by
 have hat := cw_at 6
 have hf := cw6f
 obtain ⟨d, hd⟩ : ∃ d, n / 2 ^ 0 % 2 ^ 1 = d := ⟨_, rfl⟩
 have e : ((d : Int) == 1) = o := by
  subst hd ho
  rw [Nat.pow_zero, Nat.div_one, Nat.pow_one, Bool.eq_iff_iff, decide_eq_true_iff, beq_iff_eq]
  omega
 have HD := box hd
 clear hd ho
 have W1 : Box (∀ w : World, Calls Tryd.prog 80 #[.agg (cw 6 n), .int .i64 0, .int .i64 1] w fun r w' => r = .returned (.int .u64 d) ∧ Below w.heap.size w w') := box (fun w => by
  have h := wfield_any n 0 1 (by decide) (by decide) w
  rw [HD.out] at h
  exact h)
 go_enter Tryd.func68, Tryd.ntmps68
 go_wp2_with fail
 refine (W1.out _).mono ?_
 rintro e w1 ⟨rfl, hb⟩
 go_wp2
 go_ret
 exact ⟨rfl, ((Below.refl _ _).alloc (Nat.le_refl _) _).trans (hb.mono (by simp))⟩
theorem not_no {b : Bool} (h : (!b) = false) : b = true := by cases b <;> simp_all
theorem r1_lt {f : Int} (hf : Is4 f) {x : Nat} (h : x ≤ 2 * 2 ^ pV f) : x < Q ∧ x + 1 < Q ∧ blen x ≤ pV f + 2 := by
 obtain ⟨g1, g2, g3, g4, g5, g6, g7⟩ := fm hf
 have p := Nat.two_pow_pos (pV f)
 have k1 : (oV f + 1) * 2 ^ pV f ≥ 4 * 2 ^ pV f := Nat.mul_le_mul_right _ (by omega)
 refine ⟨lt_Q7 (by omega), lt_Q7 (by omega), (blen_iff x _).2 (by rw [Nat.pow_succ, Nat.pow_succ]; omega)⟩
theorem kgrid (f m : Int) (hf : Is4 f) (hm : 0 ≤ m ∧ m ≤ 4) (neg : Bool) (s : Nat) (s0 : s ≠ 0) (hs : s < Q) (x st : Int) (more : Bool) (k : Nat) (x1 : -1100000 ≤ x) (x2 : x ≤ 1100000) (k2 : k ≤ 3000000) (hst : st = x + (blen s : Int) - ((pV f + 1 : Nat) : Int) + (k : Int))
  (K : Nat) (hK : rG m neg (qW (pV f + 1) s) k (qM (pV f + 1) s false) = K) (ex : Bool) (hex : (!(rH (qW (pV f + 1) s) k || rM (qW (pV f + 1) s) k (qM (pV f + 1) s false))) = ex) (w : World) :
  Calls Tryd.prog 47 #[.int .u8 m, .agg (rg neg s x more), .int .i64 st] w fun r w' => r = .returned (.tuple #[.agg (rg neg K st false), .bool ex]) ∧ Below w.heap.size w w' := by
 obtain ⟨n1, n2, n3, n4, n5, n6⟩ := nm8 hf
 obtain ⟨c1, c2, c3, c4⟩ := cut_is (pV f + 1) s x st k s0 hs (by omega) hst
 have lim := rS_lim (q_ok (f := f) s s0) k
 obtain ⟨Z, hZ, eQ⟩ := Qq384
 have bQ : blen s ≤ Z := blen_le_of s Z (by rw [← eQ]; exact hs)
 obtain ⟨R, hR⟩ : ∃ R, s * 2 ^ cnt6 (x - st) = R := ⟨_, rfl⟩
 rw [hR] at c1 c2 c3 c4
 obtain ⟨h, hh⟩ : ∃ h, halfv R (cnt5 (st - x)) = h := ⟨_, rfl⟩
 obtain ⟨lo, hlo⟩ : ∃ lo, decide (Q ≤ s * 2 ^ cnt6 (x - st)) = lo := ⟨_, rfl⟩
 obtain ⟨od, hod⟩ : ∃ od, decide (rS (qW (pV f + 1) s) k % 2 = 1) = od := ⟨_, rfl⟩
 obtain ⟨q1, q2, q3⟩ := r1_lt hf (x := rS (qW (pV f + 1) s) k) (by omega)
 have up : uP m neg od h ex = gO m neg (rO (qW (pV f + 1) s) k) (rH (qW (pV f + 1) s) k) (rM (qW (pV f + 1) s) k (qM (pV f + 1) s false)) := by
  rw [← uP_gO, show rO (qW (pV f + 1) s) k = od from hod, hex]
  cases ex
  ·
   rw [← hh, c4 (not_no hex)]
  ·
   rfl
 rw [hex] at c3
 have K1 : Box (∀ w, Calls Tryd.prog 60 #[.agg (cw 6 s), .int .i64 (x - st)] w fun r w' => r = .returned (.tuple #[.agg (cw 6 R), .bool lo]) ∧ Below w.heap.size w w') := box (fun w => wleft_is s R (x - st) lo hs (by rw [hR, Nat.mod_eq_of_lt c1]) hlo w)
 have K2 : Box (∀ w, Calls Tryd.prog 67 #[.agg (cw 6 R), .int .i64 (st - x)] w fun r w' => r = .returned (.tuple #[.agg (cw 6 (rS (qW (pV f + 1) s) k)), .int .i64 h, .bool ex]) ∧ Below w.heap.size w w') := box (fun w => jcut_is R _ (st - x) h ex c1 c2 hh c3 w)
 have K3 : Box (∀ w, Calls Tryd.prog 68 #[.agg (cw 6 (rS (qW (pV f + 1) s) k)), .int .i64 0] w fun r w' => r = .returned (.bool od) ∧ Below w.heap.size w w') := box (fun w => wbit0 _ _ hod w)
 have w1 : IntKind.i64.wrap (x - st) = x - st := wrap_i64_is _ (by omega) (by omega)
 have w2 : IntKind.i64.wrap (st - x) = st - x := wrap_i64_is _ (by omega) (by omega)
 unfold rG at hK
 by_cases g : gO m neg (rO (qW (pV f + 1) s) k) (rH (qW (pV f + 1) s) k) (rM (qW (pV f + 1) s) k (qM (pV f + 1) s false)) = true
 ·
  rw [if_pos g] at hK
  subst hK
  rw [g] at up
  exact ro_grid_up m st neg s x more R _ _ lo false (x - st) (st - x) h ex od w K1 K2 K3 (box (fun w => ro_up m neg od h ex true up w)) (box (fun w => wof_any 1 (by decide) w)) (box (fun w => wadd_is _ 1 _ false q1 (by have := q2; omega) (Nat.mod_eq_of_lt q2) (decide_eq_false (by omega)) w)) w1 w2
 ·
  rw [if_neg g] at hK
  subst hK
  rw [Bool.not_eq_true] at g
  rw [g] at up
  exact ro_grid_no m st neg s x more R _ lo (x - st) (st - x) h ex od w (box ⟨c1, q1⟩) K1 K2 K3 (box (fun w => ro_up m neg od h ex false up w)) w1 w2
theorem kotop (neg : Bool) (s : Nat) (hs : s < Q) (x : Int) (more : Bool) (x1 : -3000000 ≤ x) (x2 : x ≤ 3000000) (v : Int) (hv : x + (blen s : Int) - 1 = v) (w : World) : Calls Tryd.prog 49 #[.agg (rg neg s x more)] w fun r w' => r = .returned (.int .i64 v) ∧ Below w.heap.size w w' := by
 obtain ⟨Z, hZ, eQ⟩ := Qq384
 have bQ : blen s ≤ Z := blen_le_of s Z (by rw [← eQ]; exact hs)
 exact ro_top neg s x more (blen s : Int) (x + (blen s : Int)) v w (box (fun w => wlen_is s _ hs rfl w)) (wrap_i64_is _ (by omega) (by omega)) (by rw [wrap_i64_is _ (by omega) (by omega)]; exact hv)
theorem kprec (f : Int) (hf : Is4 f) (w : World) (hT : FAt w) : Calls Tryd.prog 57 #[.int .u8 f] w fun r w' => r = .returned (.int .i64 (fP f)) ∧ Below w.heap.size w w' := by
 have f4 := is4_ok hf
 refine (s_precision f _ f4.1 f4.2.1 rfl w hT).mono ?_
 rintro r w' ⟨rfl, rfl⟩
 exact ⟨rfl, bal7 _ _⟩
theorem kemax (f : Int) (hf : Is4 f) (w : World) (hT : FAt w) : Calls Tryd.prog 22 #[.int .u8 f] w fun r w' => r = .returned (.int .i64 (fE f)) ∧ Below w.heap.size w w' := by
 have f4 := is4_ok hf
 refine (s_emax f _ f4.1 f4.2.1 rfl w hT).mono ?_
 rintro r w' ⟨rfl, rfl⟩
 exact ⟨rfl, bal7 _ _⟩
theorem kostep (f : Int) (hf : Is4 f) (T : Int) (h1 : -3000000 ≤ T) (h2 : T ≤ 3000000) (v : Int) (hv : T - fP f + 1 = v) (w : World) (hT : FAt w) : Calls Tryd.prog 48 #[.int .u8 f, .int .i64 T] w fun r w' => r = .returned (.int .i64 v) ∧ Below w.heap.size w w' := by
 have := fP_lim (f := f) rfl
 exact ro_stepAt f T (fP f) (T - fP f) v w (box (fun w hT => kprec f hf w hT)) (wrap_i64_is _ (by omega) (by omega)) (by rw [wrap_i64_is _ (by omega) (by omega)]; exact hv) hT
theorem kocheck (f m : Int) (h0 : 0 ≤ f) (h1 : f ≤ 255) (c : Int) (hc : (if f ≤ 3 ∧ m ≤ 4 then (0 : Int) else 2) = c) (w : World) : Calls Tryd.prog 43 #[.int .u8 f, .int .u8 m] w fun r w' => r = .returned (.int .i64 c) ∧ Below w.heap.size w w' := by
 have K1 : ∀ c, (if f ≤ 3 then (0 : Int) else 2) = c → Box (∀ w, Calls Tryd.prog 28 #[.int .u8 f] w fun r w' => r = .returned (.int .i64 c) ∧ Below w.heap.size w w') := fun c hc => box (fun w => by
  refine bel_same (s_check_is f c h0 h1 ?_ w)
  rw [← hc]
  by_cases h : f ≤ 3
  ·
   rw [if_pos h]; exact fC_yes (is4_of h0 h)
  ·
   rw [if_neg h]; exact fC_no h0 (by unfold Is4; omega))
 have K2 : ∀ c, (if m ≤ 4 then (0 : Int) else 2) = c → Box (∀ w, Calls Tryd.prog 5 #[.int .u8 m] w fun r w' => r = .returned (.int .i64 c) ∧ Below w.heap.size w w') := fun c hc => box (fun w => by
  subst hc
  exact bel_same (s_checkMode m w))
 by_cases c1 : f ≤ 3
 ·
  by_cases c2 : m ≤ 4
  ·
   rw [if_pos ⟨c1, c2⟩] at hc
   subst hc
   exact ro_check_c f m 0 0 w (K1 0 (if_pos c1)) (K2 0 (if_pos c2)) (by decide) (by decide)
  ·
   rw [if_neg (by omega)] at hc
   subst hc
   exact ro_check_b f m 0 2 w (K1 0 (if_pos c1)) (K2 2 (if_neg c2)) (by decide) (by decide)
 ·
  rw [if_neg (by omega)] at hc
  subst hc
  exact ro_check_a f m 2 w (K1 2 (if_neg c1)) (by decide)
theorem is4_le {f : Int} (hf : Is4 f) : f ≤ 3 := by rcases hf with rfl | rfl | rfl | rfl <;> decide
theorem kover (f m : Int) (hf : Is4 f) (hm : 0 ≤ m ∧ m ≤ 4) (neg : Bool) (u v : Nat) (hv : bv7 (ovB f m neg) = (u, v)) (w : World) (hT : FAt w) : Calls Tryd.prog 42 #[.int .u8 f, .int .u8 m, .bool neg] w fun r w' => r = .returned (.tuple #[.agg #[.int .u64 u, .int .u64 v], .int .u8 5, .int .i64 0]) ∧ Below w.heap.size w w' := by
 have f4 := is4_ok hf
 have KC : Box (∀ w, Calls Tryd.prog 43 #[.int .u8 f, .int .u8 m] w fun r w' => r = .returned (.int .i64 0) ∧ Below w.heap.size w w') := box (fun w => kocheck f m f4.1 f4.2.1 0 (if_pos ⟨is4_le hf, hm.2⟩) w)
 have up := uP_gO m neg false true true
 obtain ⟨i, j, hij⟩ : ∃ i j, bv7 (eGreatest f neg) = (i, j) := ⟨_, _, rfl⟩
 have KG : Box (∀ w, FAt w → Calls Tryd.prog 65 #[.int .u8 f, .bool neg] w fun r w' => r = .returned (.agg #[.int .u64 i, .int .u64 j]) ∧ Below w.heap.size w w') := box (fun w hT => by
  have := s_greatest f neg hf _ rfl w hT
  rw [hij] at this
  exact this)
 unfold ovB at hv
 by_cases g : gO m neg false true true = true
 ·
  rw [if_pos g] at hv
  rw [g] at up
  exact ro_over_inf f m neg i j u v w KC KG (box (fun w => ro_up m neg false 1 false true up w)) (box (fun w hT => sk_inf f neg hf u v hv w hT)) hT
 ·
  rw [if_neg g, hij] at hv
  injection hv with e1 e2
  subst e1 e2
  rw [Bool.not_eq_true] at g
  rw [g] at up
  exact ro_over_gr f m neg i j w KC KG (box (fun w => ro_up m neg false 1 false false up w)) hT
theorem kotiny (f m : Int) (hf : Is4 f) (hm : 0 ≤ m ∧ m ≤ 4) (neg : Bool) (s : Nat) (s0 : s ≠ 0) (hs : s < Q) (x : Int) (more : Bool) (x1 : -1100000 ≤ x) (x2 : x ≤ 1100000) (o : Bool) (ho : tnB f m neg (x + (blen s : Int) - 1) (qW (pV f + 1) s) (qM (pV f + 1) s false) = o) (w : World) (hT : FAt w) :
  Calls Tryd.prog 51 #[.int .u8 f, .int .u8 m, .agg (rg neg s x more)] w fun r w' => r = .returned (.bool o) ∧ Below w.heap.size w w' := by
 obtain ⟨Z, hZ, eQ⟩ := Qq384
 have bQ : blen s ≤ Z := blen_le_of s Z (by rw [← eQ]; exact hs)
 have hp := fp8 hf
 obtain ⟨n1, n2, n3, n4, n5, n6⟩ := nm8 hf
 obtain ⟨K, hK⟩ : ∃ K, rG m neg (qW (pV f + 1) s) 0 (qM (pV f + 1) s false) = K := ⟨_, rfl⟩
 have lim := rG_lim (q_ok (f := f) s s0) m neg 0 (qM (pV f + 1) s false)
 rw [hK] at lim
 obtain ⟨q1, q2, q3⟩ := r1_lt hf lim.1
 unfold tnB at ho
 rw [hK] at ho
 refine ro_tiny f m neg s x more (x + (blen s : Int) - 1) (x + (blen s : Int) - 1 - fP f + 1) (x + (blen s : Int) - 1 - fP f + 1 + (blen K : Int) - 1) (1 - fE f) K _ o w (box (fun w => kotop neg s hs x more (by omega) (by omega) _ rfl w)) (box (fun w hT => kostep f hf _ (by omega) (by omega) _ rfl w hT))
  (box (fun w => kgrid f m hf hm neg s s0 hs x _ more 0 x1 x2 (by omega) (by omega) K hK _ rfl w)) (box (fun w => kotop neg K q1 _ false (by omega) (by omega) _ rfl w)) (box (fun w hT => k_emin f hf w hT)) ?_ hT
 rw [← ho, decide_eq_decide]
 omega
theorem wd_hi (n k : Nat) (hk : 0 < k) (h : n < 18446744073709551616) : wd n k = 0 := by
 unfold wd
 rw [Nat.div_eq_of_lt, Nat.zero_mod]
 refine Nat.lt_of_lt_of_le h ?_
 rw [show (18446744073709551616 : Nat) = 2 ^ 64 by decide]
 exact Nat.pow_le_pow_right (by decide) (by omega)
theorem wd_hi2 (n k : Nat) (hk : 1 < k) (h : n < 340282366920938463463374607431768211456) : wd n k = 0 := by
 unfold wd
 rw [Nat.div_eq_of_lt, Nat.zero_mod]
 refine Nat.lt_of_lt_of_le h ?_
 rw [show (340282366920938463463374607431768211456 : Nat) = 2 ^ 128 by decide]
 exact Nat.pow_le_pow_right (by decide) (by omega)
theorem enc_lo (S j G : Nat) (h : G + S < 18446744073709551616) : IntKind.u64.wrap (((wd S 0 : Nat) : Int) + (G : Int)) = ((wd (G + S) 0 : Nat) : Int) ∧ ∀ k, 0 < k → k < 6 → wd (G + S) k = wd S k := by
 constructor
 ·
  rw [IntKind.wrap_u64]
  unfold wd
  rw [Nat.mul_zero, Nat.pow_zero, Nat.div_one, Nat.div_one]
  omega
 ·
  intro k h1 h2
  rw [wd_hi _ k h1 h, wd_hi _ k h1 (by omega)]
theorem enc_hi (S j : Nat) (h : j * 5192296858534827628530496329220096 + S < 340282366920938463463374607431768211456) : IntKind.u64.wrap (((wd S 1 : Nat) : Int) + ((j * 281474976710656 : Nat) : Int)) = ((wd (j * 5192296858534827628530496329220096 + S) 1 : Nat) : Int) ∧ ∀ k, k ≠ 1 → k < 6 → wd (j * 5192296858534827628530496329220096 + S) k = wd S k := by
 constructor
 ·
  rw [IntKind.wrap_u64]
  unfold wd
  rw [Nat.mul_one, show (2 : Nat) ^ 64 = 18446744073709551616 by decide]
  omega
 ·
  intro k h1 h2
  by_cases c : k = 0
  ·
   subst c
   unfold wd
   rw [Nat.mul_zero, Nat.pow_zero, Nat.div_one, Nat.div_one]
   omega
  ·
   rw [wd_hi2 _ k (by omega) h, wd_hi2 _ k (by omega) (by omega)]
theorem or_sign (f : Int) (n : Nat) (neg : Bool) (h : n < 2 ^ wV f) : n ||| eZero f neg = n + (if neg then 2 ^ wV f else 0) := by
 unfold eZero enc7
 rw [Nat.zero_mul, Nat.zero_add]
 cases neg
 ·
  rw [if_neg (by decide), Nat.or_zero, Nat.add_zero]
 ·
  rw [if_pos rfl, Nat.or_comm]
  have := Nat.two_pow_add_eq_or_of_lt h 1
  rw [Nat.mul_one] at this
  omega
theorem ez_lt {f : Int} (hf : Is4 f) (neg : Bool) : eZero f neg < 340282366920938463463374607431768211456 := by
 obtain ⟨g1, g2, g3, g4, g5, g6, g7⟩ := fm hf
 have := Nat.two_pow_pos (wV f)
 unfold eZero enc7
 split <;> omega
theorem kenc (f : Int) (hf : Is4 f) (neg : Bool) (j S : Nat) (st : Int) (hst : st = lx f + (j : Int)) (hS : S ≤ 2 * 2 ^ pV f) (hj : j = 0 ∨ 2 ^ pV f ≤ S) (ht : lx f + (j : Int) - 1 + (blen S : Int) ≤ fE f) (u v : Nat) (hv : bv7 (eS f neg j S) = (u, v)) (w : World) (hT : FAt w) :
  Calls Tryd.prog 52 #[.int .u8 f, .agg (rg neg S st false)] w fun r w' => r = .returned (.agg #[.int .u64 u, .int .u64 v]) ∧ Below w.heap.size w w' := by
 have lt := eS_lt hf j S hS hj ht
 obtain ⟨g1, g2, g3, g4, g5, g6, g7⟩ := fm hf
 obtain ⟨n1, n2, n3, n4, n5, n6⟩ := nm8 hf
 obtain ⟨l1, l2, l3⟩ : True ∧ True ∧ True := ⟨trivial, trivial, trivial⟩
 have bl := blen_low S
 have hp := fp8 hf
 have hj2 : j ≤ 40000 := by
  have : blen S = 0 ∨ 0 < blen S := by omega
  rcases hj with h | h
  ·
   omega
  ·
   have p := Nat.two_pow_pos (pV f)
   have := (bl (by omega)).1
   omega
 obtain ⟨zu, zv, hz⟩ : ∃ zu zv, bv7 (eZero f neg) = (zu, zv) := ⟨_, _, rfl⟩
 have e3 : eS f neg j S = (j * 2 ^ pV f + S) ||| eZero f neg := by rw [or_sign f _ neg lt]; rfl
 have z1 : zu < 18446744073709551616 ∧ zv < 18446744073709551616 ∧ zv + 18446744073709551616 * zu = eZero f neg := by
  have := ez_lt hf neg
  unfold bv7 at hz
  injection hz with a b
  omega
 have sl : eS f neg j S < 340282366920938463463374607431768211456 := by
  unfold eS
  split <;> omega
 obtain ⟨ob, KT⟩ := ktobits_one (eS f neg j S) u v (lt_Q7 sl) (by unfold toB; rw [if_pos sl]; exact hv)
 have KB : Box (∀ w, Calls Tryd.prog 38 #[.agg #[.int .u64 zu, .int .u64 zv]] w fun r w' => r = .returned (.agg (cw 6 (eZero f neg))) ∧ Below w.heap.size w w') := box (fun w => wofbits_is zu zv _ z1.1 z1.2.1 z1.2.2 w)
 have KO : Box (∀ w, Calls Tryd.prog 41 #[.agg (cw 6 (j * 2 ^ pV f + S)), .agg (cw 6 (eZero f neg))] w fun r w' => r = .returned (.agg (cw 6 (eS f neg j S))) ∧ Below w.heap.size w w') := box (fun w => wor_is _ _ _ (lt_Q7 (by omega)) (lt_Q7 (ez_lt hf neg)) e3.symm w)
 have KZ : Box (∀ w, FAt w → Calls Tryd.prog 45 #[.int .u8 f, .bool neg] w fun r w' => r = .returned (.agg #[.int .u64 zu, .int .u64 zv]) ∧ Below w.heap.size w w') := box (fun w hT => sk_zero f neg hf zu zv hz w hT)
 have KI : Box (∀ w, FAt w → Calls Tryd.prog 50 #[.int .u8 f] w fun r w' => r = .returned (.int .i64 (1 - fE f)) ∧ Below w.heap.size w w') := box (fun w hT => k_emin f hf w hT)
 have KS : Box (∀ w, FAt w → Calls Tryd.prog 48 #[.int .u8 f, .int .i64 (1 - fE f)] w fun r w' => r = .returned (.int .i64 (lx f)) ∧ Below w.heap.size w w') := box (fun w hT => kostep f hf _ (by omega) (by omega) _ (by omega) w hT)
 have w1 : IntKind.i64.wrap (st - lx f) = (j : Int) := by rw [wrap_i64_is _ (by omega) (by omega)]; omega
 have w2 : IntKind.u64.wrap (j : Int) = (j : Int) := by rw [IntKind.wrap_u64]; omega
 have KP : Box (∀ w, FAt w → Calls Tryd.prog 57 #[.int .u8 f] w fun r w' => r = .returned (.int .i64 (fP f)) ∧ Below w.heap.size w w') := box (fun w hT => kprec f hf w hT)
 clear hv hz z1 sl e3
 rcases hf with rfl | rfl | rfl | rfl
 ·
  rw [show fP 0 = 24 by decide] at KP
  rw [show 2 ^ pV 0 = 8388608 by decide] at lt KO
  rw [show 2 ^ wV 0 = 2147483648 by decide] at lt
  obtain ⟨e1, e2⟩ := enc_lo S j (j * 8388608) (by omega)
  exact ro_encv 0 24 23 23 (by decide) (by decide) (by decide) (by decide) neg S _ _ st _ _ _ _ _ u v zu zv _ ob w KP KI KS w1 w2 (by rw [show (2 : Int) ^ min 23 64 = 8388608 by decide, IntKind.wrap_u64]; omega) e1 (box e2) KZ KB KO (box KT) hT
 ·
  rw [show fP 1 = 53 by decide] at KP
  rw [show 2 ^ pV 1 = 4503599627370496 by decide] at lt KO
  rw [show 2 ^ wV 1 = 9223372036854775808 by decide] at lt
  obtain ⟨e1, e2⟩ := enc_lo S j (j * 4503599627370496) (by omega)
  exact ro_encv 1 53 52 52 (by decide) (by decide) (by decide) (by decide) neg S _ _ st _ _ _ _ _ u v zu zv _ ob w KP KI KS w1 w2 (by rw [show (2 : Int) ^ min 52 64 = 4503599627370496 by decide, IntKind.wrap_u64]; omega) e1 (box e2) KZ KB KO (box KT) hT
 ·
  rw [show fP 2 = 11 by decide] at KP
  rw [show 2 ^ pV 2 = 1024 by decide] at lt KO
  rw [show 2 ^ wV 2 = 32768 by decide] at lt
  obtain ⟨e1, e2⟩ := enc_lo S j (j * 1024) (by omega)
  exact ro_encv 2 11 10 10 (by decide) (by decide) (by decide) (by decide) neg S _ _ st _ _ _ _ _ u v zu zv _ ob w KP KI KS w1 w2 (by rw [show (2 : Int) ^ min 10 64 = 1024 by decide, IntKind.wrap_u64]; omega) e1 (box e2) KZ KB KO (box KT) hT
 ·
  rw [show fP 3 = 113 by decide] at KP
  rw [show 2 ^ pV 3 = 5192296858534827628530496329220096 by decide] at lt KO
  rw [show 2 ^ wV 3 = 170141183460469231731687303715884105728 by decide] at lt
  obtain ⟨e1, e2⟩ := enc_hi S j (by omega)
  exact ro_enc_3 neg S _ _ st _ _ _ _ _ u v zu zv _ ob w KP KI KS w1 w2 (by rw [IntKind.wrap_u64]; omega) e1 (box e2) KZ KB KO (box KT) hT
theorem komay (f : Int) (hf : Is4 f) (neg : Bool) (s : Nat) (hs : s < Q) (x : Int) (more : Bool) (o : Bool) (ho : decide (-1048576 ≤ x ∧ x ≤ 1048576 ∧ (more = true → pV f + 3 ≤ blen s)) = o) (w : World) (hT : FAt w) : Calls Tryd.prog 44 #[.int .u8 f, .agg (rg neg s x more)] w fun r w' => r = .returned (.bool o) ∧ Below w.heap.size w w' := by
 have hp := fp8 hf
 obtain ⟨n1, n2, n3, n4, n5, n6⟩ := nm8 hf
 by_cases c1 : x < -1048576
 ·
  rw [decide_eq_false (by omega)] at ho
  subst ho
  exact ro_may_lo f neg s x more w (decide_eq_true c1)
 by_cases c2 : 1048576 < x
 ·
  rw [decide_eq_false (by omega)] at ho
  subst ho
  exact ro_may_hi f neg s x more w (decide_eq_false c1) (decide_eq_true c2)
 cases more
 ·
  rw [decide_eq_true ⟨by omega, by omega, fun h => Bool.noConfusion h⟩] at ho
  subst ho
  exact ro_may_no f neg s x w (decide_eq_false c1) (decide_eq_false c2)
 ·
  refine ro_may_more f neg s x (blen s : Int) (fP f) (fP f + 2) o w (box (fun w => wlen_is s _ hs rfl w)) (box (fun w hT => kprec f hf w hT)) (decide_eq_false c1) (decide_eq_false c2) (wrap_i64_is _ (by omega) (by omega)) ?_ hT
  rw [← ho, decide_eq_decide]
  constructor
  ·
   exact fun h => ⟨by omega, by omega, fun _ => by omega⟩
  ·
   exact fun h => by have := h.2.2 rfl; omega
theorem kPack_is (f m : Int) (hf : Is4 f) (hm : 0 ≤ m ∧ m ≤ 4) (neg : Bool) (s : Nat) (hs : s < Q) (s0 : s ≠ 0) (x : Int) (more : Bool) (h1 : -1048576 ≤ x) (h2 : x ≤ 1048576) (hmore : more = true → pV f + 3 ≤ blen s) (M : Nat) (fl : Int) (hd : dlv f m neg (x + (blen s : Int) - 1) (qW (pV f + 1) s) (qM (pV f + 1) s more) = (M, fl)) (u v : Nat) (hv : bv7 M = (u, v)) (w : World) (hT : FAt w) :
  Calls Tryd.prog 18 #[.int .u8 f, .int .u8 m, .agg (rg neg s x more)] w fun r w' => r = .returned (.tuple #[.agg #[.int .u64 u, .int .u64 v], .int .u8 fl, .int .i64 0]) ∧ Below w.heap.size w w' := by
 have f4 := is4_ok hf
 have hp := fp8 hf
 obtain ⟨n1, n2, n3, n4, n5, n6⟩ := nm8 hf
 have KC : Box (∀ w, Calls Tryd.prog 43 #[.int .u8 f, .int .u8 m] w fun r w' => r = .returned (.int .i64 0) ∧ Below w.heap.size w w') := box (fun w => kocheck f m f4.1 f4.2.1 0 (if_pos ⟨is4_le hf, hm.2⟩) w)
 have KM : Box (∀ w, FAt w → Calls Tryd.prog 44 #[.int .u8 f, .agg (rg neg s x more)] w fun r w' => r = .returned (.bool true) ∧ Below w.heap.size w w') := box (fun w hT => komay f hf neg s hs x more true (decide_eq_true ⟨h1, h2, hmore⟩) w hT)
 obtain ⟨t, t0, tQ, bt, qt, mt, KJ⟩ : ∃ t, t ≠ 0 ∧ t < Q ∧ blen t = blen s ∧ qW (pV f + 1) t = qW (pV f + 1) s ∧ qM (pV f + 1) t false = qM (pV f + 1) s more ∧ Box (∀ w, Calls Tryd.prog 46 #[.agg (rg neg s x more)] w fun r w' => r = .returned (.agg (rg neg t x false)) ∧ Below w.heap.size w w') := by
  cases more
  ·
   exact ⟨s, s0, hs, rfl, rfl, rfl, box (fun w => ro_jam_no neg s x w)⟩
  ·
   obtain ⟨j1, j2, j3, j4⟩ := q_jam (pV f + 1) s (by have := hmore rfl; omega)
   obtain ⟨o1, o2⟩ := or_low s (s / 2 * 2 + 1) rfl
   refine ⟨s / 2 * 2 + 1, by omega, ?_, j1, j2, by rw [j3, j4], box (fun w => ro_jam_yes neg s _ x w ?_ (box o2))⟩
   ·
    obtain ⟨L, hL, eQ⟩ := Qq384
    rw [eQ]
    have := blen_lt (s / 2 * 2 + 1)
    have b2 := blen_le_of s L (by rw [← eQ]; exact hs)
    rw [j1] at this
    exact Nat.lt_of_lt_of_le this (Nat.pow_le_pow_right (show 0 < 2 by decide) b2)
   ·
    rw [o1]
    have := bits_or_u64_nat (wd s 0) 1 (wd_lt s 0) (by decide)
    rw [jor1] at this
    exact this
 obtain ⟨Z, hZ, eQ⟩ := Qq384
 have bQ : blen t ≤ Z := blen_le_of t Z (by rw [← eQ]; exact tQ)
 rw [← bt, ← qt, ← mt] at hd
 clear hmore bt qt mt
 obtain ⟨T, hT0⟩ : ∃ T, x + (blen t : Int) - 1 = T := ⟨_, rfl⟩
 rw [hT0] at hd
 obtain ⟨W, hW⟩ : ∃ W, qW (pV f + 1) t = W := ⟨_, rfl⟩
 obtain ⟨mo, hmo⟩ : ∃ mo, qM (pV f + 1) t false = mo := ⟨_, rfl⟩
 have wok : Wok f W := by rw [← hW]; exact q_ok t t0
 rw [hW, hmo] at hd
 obtain ⟨K, hK⟩ : ∃ K, rG m neg W (dK f T) mo = K := ⟨_, rfl⟩
 have lim := rG_lim wok m neg (dK f T) mo
 rw [hK] at lim
 obtain ⟨q1, q2, q3⟩ := r1_lt hf lim.1
 have sx := st_lx hf T
 have jk1 := jk (f := f) T
 have stl : stE f T = max T (1 - fE f) := rfl
 unfold dlv at hd
 rw [hK] at hd
 refine ro_pack f m neg s t x more T (1 - fE f) (stE f T - fP f + 1) (stE f T - fP f + 1 + (blen K : Int) - 1) (fE f) fl K (!(rH W (dK f T) || rM W (dK f T) mo)) _ (tnB f m neg T W mo) u v w (eq_false s0) hs KC KM KJ
  (box (fun w => kotop neg t tQ x false (by omega) (by omega) _ hT0 w)) (box (fun w hT => k_emin f hf w hT)) (box (fun w hT => kostep f hf _ (by omega) (by omega) _ (by rw [stl]) w hT))
  (box (fun w => kgrid f m hf hm neg t t0 tQ x _ false (dK f T) (by omega) (by omega) (by unfold dK; omega) (by unfold dK; omega) K (by rw [hW, hmo]; exact hK) _ (by rw [hW, hmo]) w))
  (box (fun w => kotop neg K q1 _ false (by omega) (by omega) _ rfl w)) (box (fun w hT => kemax f hf w hT)) (box (fun o w hT => ?_)) (box (fun o w hT => ?_)) (box (fun w hT => kotiny f m hf hm neg t t0 tQ x false (by omega) (by omega) _ (by rw [hT0, hW, hmo]) w hT)) rfl ?_ hT
 ·
  rw [decide_eq_true_iff] at o
  rw [if_pos (by omega)] at hd
  injection hd with d1 d2
  rw [← d1] at hv
  exact kover f m hf hm neg u v hv w hT
 ·
  rw [decide_eq_false_iff_not] at o
  rw [if_neg (by omega)] at hd
  injection hd with d1 d2
  rw [← d1] at hv
  refine kenc f hf neg (dJ f T) K _ sx lim.1 ?_ (by omega) u v hv w hT
  rcases jk1 with h | h
  ·
   exact Or.inl h.1
  ·
   exact Or.inr (lim.2.1 h.1)
 ·
  by_cases c : fE f < stE f T - fP f + (blen K : Int)
  ·
   rw [if_pos c] at hd
   injection hd with d1 d2
   rw [decide_eq_true (show fE f < stE f T - fP f + 1 + (blen K : Int) - 1 by omega), if_pos rfl]
   exact d2
  ·
   rw [if_neg c] at hd
   injection hd with d1 d2
   rw [decide_eq_false (show ¬ fE f < stE f T - fP f + 1 + (blen K : Int) - 1 by omega), if_neg (by decide), ← d2]
   cases (rH W (dK f T) || rM W (dK f T) mo) <;> rfl
theorem kPack_zero (f m : Int) (hf : Is4 f) (hm : 0 ≤ m ∧ m ≤ 4) (neg : Bool) (x : Int) (h1 : -1048576 ≤ x) (h2 : x ≤ 1048576) (u v : Nat) (hv : bv7 (eZero f neg) = (u, v)) (w : World) (hT : FAt w) :
  Calls Tryd.prog 18 #[.int .u8 f, .int .u8 m, .agg (rg neg 0 x false)] w fun r w' => r = .returned (.tuple #[.agg #[.int .u64 u, .int .u64 v], .int .u8 0, .int .i64 0]) ∧ Below w.heap.size w w' := by
 have f4 := is4_ok hf
 exact ro_pack_zero f m neg x false u v w (box (fun w => kocheck f m f4.1 f4.2.1 0 (if_pos ⟨is4_le hf, hm.2⟩) w)) (box (fun w hT => komay f hf neg 0 Q_pos x false true (decide_eq_true ⟨h1, h2, fun h => Bool.noConfusion h⟩) w hT)) (box (fun w hT => sk_zero f neg hf u v hv w hT)) hT
theorem kPack_no (f m : Int) (h0 : 0 ≤ f) (h1 : f ≤ 255) (neg : Bool) (s : Nat) (hs : s < Q) (x : Int) (more : Bool) (h : ¬ (f ≤ 3 ∧ m ≤ 4 ∧ -1048576 ≤ x ∧ x ≤ 1048576 ∧ (more = true → pV f + 3 ≤ blen s))) (w : World) (hT : FAt w) :
  Calls Tryd.prog 18 #[.int .u8 f, .int .u8 m, .agg (rg neg s x more)] w fun r w' => r = .returned (.tuple #[.agg #[.int .u64 0, .int .u64 0], .int .u8 0, .int .i64 2]) ∧ Below w.heap.size w w' := by
 by_cases c : f ≤ 3 ∧ m ≤ 4
 ·
  exact ro_pack_b f m neg s x more w (box (fun w => kocheck f m h0 h1 0 (if_pos c) w)) (box (fun w hT => komay f (is4_of h0 c.1) neg s hs x more false (decide_eq_false (fun q => h ⟨c.1, c.2, q⟩)) w hT)) hT
 ·
  exact ro_pack_a f m neg s x more 2 (by decide) w (box (fun w => kocheck f m h0 h1 2 (if_neg c) w))
end Go.Proofs.YtkblmpmkchkpjaaDoor
namespace Go.Proofs.YtkblmpmkchkpjaaDoor
set_option maxRecDepth 100000
set_option maxHeartbeats 40000000
set_option maxRecDepth 100000
open Go.RowKit WMath XMath
set_option linter.unusedSimpArgs false
set_option linter.unusedVariables false
theorem gO_none (m : Int) (neg o : Bool) : gO m neg o false false = false := by
 unfold gO
 split <;> (try split) <;> (try split) <;> (try split) <;> simp
theorem rnd_own {f : Int} (hf : Is4 f) (m : Int) (neg : Bool) (e t : Nat) (he : e < oV f) (ht : t < 2 ^ pV f) (nz : sV f e t ≠ 0) : rnd f m ⟨neg, od (sV f e t), 1, xV f e + (tz (sV f e t) : Int)⟩ = (enc7 f neg e t, 0) := by
 obtain ⟨n1, n2, n3, n4, n5, n6⟩ := nm8 hf
 have p := fp8 hf
 have pp := Nat.two_pow_pos (pV f)
 have oe : (oV f : Int) = 2 * fE f + 1 := by unfold oV; omega
 obtain ⟨S, hS⟩ : ∃ S, sV f e t = S := ⟨_, rfl⟩
 obtain ⟨X, hX⟩ : ∃ X, xV f e = X := ⟨_, rfl⟩
 have vo := (val_of hf neg e t he ht nz).1
 rw [hS, hX] at vo
 rw [hS] at nz ⊢
 rw [hX]
 have sl : S < 2 * 2 ^ pV f := by rw [← hS]; unfold sV; split <;> omega
 obtain ⟨o1, o2⟩ := od_is S nz
 have od0 : od S ≠ 0 := by omega
 have bs : blen S = blen (od S) + tz S := by
  have := blen_shift (od S) (tz S) od0
  rw [← o1] at this
  exact this
 have xl : -20000 ≤ X ∧ X ≤ 20000 := by rw [← hX]; unfold xV; split <;> omega
 have hc : (XN.mk neg (od S) 1 (X + (tz S : Int))).can := by
  have := mk_can neg S 1 X (nl_small hf S (by omega)) nl_1 (by decide) (by rw [vo])
  rw [vo] at this
  exact this
 have tw : topX ⟨neg, od S, 1, X + (tz S : Int)⟩ = (blen S : Int) - 1 + X := by rw [top_whole neg (od S) _ od0]; omega
 obtain ⟨T, hT⟩ : ∃ T, topX ⟨neg, od S, 1, X + (tz S : Int)⟩ = T := ⟨_, rfl⟩
 obtain ⟨q1, q2⟩ := fnd_x hf hc od0 (by show nl 1 ≤ 8192; decide +kernel)
 unfold Fnd at q2
 rw [if_neg (by decide)] at q2
 have tlim := tz_blen S
 have blu : blen S ≤ pV f + 1 := (blen_iff S _).2 (by rw [Nat.pow_succ]; omega)
 have kk : stE f T - T = (dK f T : Int) := by unfold dK stE; omega
 have stx := st_lx hf T
 have sx : stE f T - fP f + 1 = X := by
  rw [hT] at tw
  rw [tw, ← hX]
  unfold stE
  by_cases e0 : e = 0
  ·
   have : blen S ≤ pV f := (blen_iff S _).2 (by rw [← hS]; unfold sV; rw [if_pos e0]; exact ht)
   unfold xV
   rw [if_pos e0]
   omega
  ·
   have : blen S = pV f + 1 := blen_is S (pV f) (by rw [← hS]; unfold sV; rw [if_neg e0]; omega) (by rw [Nat.pow_succ]; omega)
   unfold xV
   rw [if_neg e0]
   omega
 have F := q2.2 (dK f T + 1) (by rw [hT]; omega)
 rw [hT, show T - fP f + ((dK f T + 1 : Nat) : Int) = X by omega, cut_two, ex_is, fl_yes _ X od0 rfl (by show X ≤ X + (tz S : Int); omega) (by omega) (by omega) (by
  show nl (od S * 2 ^ (X + (tz S : Int) - X).toNat) ≤ 16384
  rw [show (X + (tz S : Int) - X).toNat = tz S by omega, ← o1]
  exact nl_small hf S (by omega))] at F
 injection F with F1 F2
 injection F1 with F3 F4
 have F5 : S = rS (xW f ⟨neg, od S, 1, X + (tz S : Int)⟩) (dK f T) := by
  rw [← F3]
  show S = od S * 2 ^ (X + (tz S : Int) - X).toNat
  rw [show (X + (tz S : Int) - X).toNat = tz S by omega, ← o1]
 have hh : rH (xW f ⟨neg, od S, 1, X + (tz S : Int)⟩) (dK f T) = false ∧ rM (xW f ⟨neg, od S, 1, X + (tz S : Int)⟩) (dK f T) (xM f ⟨neg, od S, 1, X + (tz S : Int)⟩) = false := by
  have := F4.symm
  rw [Bool.not_eq_true', Bool.or_eq_false_iff] at this
  exact this
 have hG : rG m neg (xW f ⟨neg, od S, 1, X + (tz S : Int)⟩) (dK f T) (xM f ⟨neg, od S, 1, X + (tz S : Int)⟩) = S := by
  unfold rG
  rw [hh.1, hh.2, gO_none, if_neg (by decide), ← F5]
 have hov : ¬ fE f < stE f T - fP f + (blen S : Int) := by
  rw [hT] at tw
  by_cases e0 : e = 0
  ·
   have : blen S ≤ pV f := (blen_iff S _).2 (by rw [← hS]; unfold sV; rw [if_pos e0]; exact ht)
   unfold xV at hX
   rw [if_pos e0] at hX
   omega
  ·
   unfold xV at hX
   rw [if_neg e0] at hX
   omega
 unfold rnd
 rw [if_neg od0]
 unfold dlv
 rw [hT, hG, if_neg hov, hh.1, hh.2, if_neg (by decide)]
 congr 1
 have hj : (dJ f T : Int) = X - lx f := by omega
 unfold eS enc7
 rw [← hS]
 unfold sV
 unfold xV at hX
 by_cases e0 : e = 0
 ·
  rw [if_pos e0] at hX ⊢
  rw [show dJ f T = 0 by omega, e0]
 ·
  rw [if_neg e0] at hX ⊢
  obtain ⟨k, rfl⟩ : ∃ k, e = k + 1 := ⟨e - 1, by omega⟩
  rw [show dJ f T = k by omega, Nat.add_mul, Nat.one_mul]
  generalize k * 2 ^ pV f = A
  generalize 2 ^ pV f = B
  generalize (if neg = true then 2 ^ wV f else 0) = C
  omega
theorem fin_lt {f : Int} (n : Nat) (hc : 0 < kC f n ∧ kC f n < 7) : kE f n < oV f := by
 have el := kE_le (f := f) n
 rcases Nat.lt_or_ge (kE f n) (oV f) with c | c
 ·
  exact c
 ·
  exfalso
  have e : kE f n = oV f := by omega
  obtain ⟨h1, h2⟩ := hc
  unfold kC at h1 h2
  rw [if_pos e] at h1 h2
  revert h1 h2
  (repeat' split) <;> omega
theorem nl_bd (x p : Nat) (h : x < 2 ^ p) (hp : p ≤ 65536) : nl x ≤ 8192 := by
 have := (blen_iff x p).2 h
 unfold nl
 omega
theorem own_round {f : Int} (hf : Is4 f) (m : Int) (n : Nat) (fit : Fit f n) (hc : 0 < kC f n ∧ kC f n < 7) : (vX f n).can ∧ nl (vX f n).n ≤ 8192 ∧ nl (vX f n).d ≤ 8192 ∧ (((vX f n).n ≠ 0 ∧ rnd f m (vX f n) = (n, 0)) ∨ (vX f n = X0)) := by
 have el := fin_lt n hc
 have tl := kT_lt (f := f) n
 have ke := k_enc hf fit
 have v := vX_enc hf (kN f n) (kE f n) (kT f n) el tl
 rw [ke] at v
 obtain ⟨v1, v2, v3, v4, v5, v6⟩ := v
 obtain ⟨w1, w2, w3, w4⟩ := v4
 refine ⟨v2, nl_bd _ 128 w1 (by decide), nl_bd _ 128 w2 (by decide), ?_⟩
 by_cases z : sV f (kE f n) (kT f n) = 0
 ·
  exact Or.inr (v5 z)
 ·
  refine Or.inl ⟨(v6 z).1, ?_⟩
  have c4 : ¬ (kC f n = 3 ∨ kC f n = 4) := fun c => by
   have := vX_mk hf n hc
   rw [(k_null n c).1, mk_null] at this
   injection this with h1 h2
   have := (v6 z).1
   rw [← h1] at this
   exact this rfl
  obtain ⟨a, b, d, e⟩ := k_parts (f := f) n (by omega)
  have m1 := vX_mk hf n hc
  have m2 := (val_of hf (kN f n) (kE f n) (kT f n) el tl z).1
  rw [b, d, m2] at m1
  injection m1 with h1 h2
  rw [← h1, rnd_own hf m (kN f n) (kE f n) (kT f n) el tl z, ke]
end Go.Proofs.YtkblmpmkchkpjaaDoor
namespace Go.Proofs.YtkblmpmkchkpjaaDoor
set_option maxRecDepth 100000
set_option maxHeartbeats 40000000
set_option maxRecDepth 100000
open WMath
open Go.ChangeShapes Go.WideShapes Go.ChangeAt Go.RowKit
theorem trod_row4 {H : Type} {enc : TypeId × Value → H} {P : Program} {w : World} {base : Nat} {spare : Nat → Bool} {held : Bool} {t : TypeId} {f0 f1 f2 f3 : Field} {fuel : Nat} {cs : List Value} {x : DataW H × List MemPlace} (ht : P.underlying t = some (.struct #[f0, f1, f2, f3])) (h : DataW.trod enc P w base spare held fuel t cs = some x) :
  ∃ y0 y1 y2 y3 n, x = (.agg [y0.1, y1.1, y2.1, y3.1], y0.2 ++ (y1.2 ++ (y2.2 ++ y3.2))) ∧ DataW.trod enc P w base spare held n f0.type ((cs.drop f0.offset).take (P.cellsOf f0.type)) = some y0 ∧
   DataW.trod enc P w base spare held n f1.type ((cs.drop f1.offset).take (P.cellsOf f1.type)) = some y1 ∧ DataW.trod enc P w base spare held n f2.type ((cs.drop f2.offset).take (P.cellsOf f2.type)) = some y2 ∧
   DataW.trod enc P w base spare held n f3.type ((cs.drop f3.offset).take (P.cellsOf f3.type)) = some y3 := by
 obtain ⟨xs, n, _, rfl, hl, hlen, hf⟩ := DataW.trod_struct ht h
 match xs, hlen with
 | [y0, y1, y2, y3], _ => exact ⟨y0, y1, y2, y3, n, by simp, by simpa using hf 0 f0 rfl, by simpa using hf 1 f1 rfl, by simpa using hf 2 f2 rfl, by simpa using hf 3 f3 rfl⟩


theorem list4' {α : Type} (l : List α) (h : l.length = 4) : ∃ a b c d, l = [a, b, c, d] := by
 match l, h with
 | [a, b, c, d], _ => exact ⟨a, b, c, d, rfl⟩

theorem row_read {w : World} {fuel : Nat} {enc : TypeId × Value → Unit} {base : Nat} {spare : Nat → Bool} {held : Bool} {l : List Value} {a b c : Int} {s : List UInt8} {p : List MemPlace}
  (h : DataW.trod enc Tryd.prog w base spare held fuel 91 l = some (.agg [.lit (.int .i64 a), .lit (.int .i64 b), .lit (.int .i64 c), .lit (.string s)], p)) (hl : l.length = 4) :
  l = [.int .i64 a, .int .i64 b, .int .i64 c, .string ⟨⟨s⟩⟩] := by
 have h3 : Tryd.prog.cellsOf 3 = 1 := by kernel_rfl
 have h9 : Tryd.prog.cellsOf 9 = 1 := by kernel_rfl
 obtain ⟨c0, c1, c2, c3, rfl⟩ := list4' l hl
 obtain ⟨y0, y1, y2, y3, n, hx, g0, g1, g2, g3⟩ := trod_row4 Tryd.underlying91 h
 simp only [h3, h9] at g0 g1 g2 g3
 obtain ⟨x0, e0, k0, w0⟩ := DataW.trod_int Tryd.underlying3 g0
 obtain ⟨x1, e1, k1, w1⟩ := DataW.trod_int Tryd.underlying3 g1
 obtain ⟨x2, e2, k2, w2⟩ := DataW.trod_int Tryd.underlying3 g2
 obtain ⟨x3, e3, k3, w3⟩ := DataW.trod_string Tryd.underlying9 g3
 simp at e0 e1 e2 e3
 subst e0 e1 e2 e3
 rw [k0, k1, k2, k3] at hx
 simp at hx
 obtain ⟨⟨rfl, rfl, rfl, rfl⟩, _⟩ := hx
 rfl

def laid7 : List (String × DataW Unit) := [("abacus/shape.formats", Rows.laid_abacus_shape_formats)]
theorem gTab7 : Tryd.prog.globalNamed "abacus/shape.formats" = some 0 := by kernel_rfl
theorem gType7 : (Tryd.prog.globals[0]?).map (·.type) = some 106 := by kernel_rfl

theorem of_laid7 {W : World} (h : laidMetH Tryd.prog laid7 W) : FAt W := by
 have hce : Tryd.prog.cellsOf 91 = 4 := by kernel_rfl
 have hct : Tryd.prog.cellsOf 106 = 16 := by kernel_rfl
 rw [MakeChecks.laidMetH_plain _ _ _ (by kernel_rfl)] at h
 obtain ⟨ps, ⟨g', t', cs, fuel, p, q, hg', ht', hvar, hd, _, _⟩, _⟩ := h
 obtain rfl := Option.some.inj (gTab7.symm.trans hg')
 obtain rfl := Option.some.inj (gType7.symm.trans ht')
 obtain ⟨xs, m, rfl, hx, hl, hxl, hel⟩ := DataW.trod_array Tryd.underlying106 hd
 rw [hce] at hel
 rw [hct] at hl
 have hl2 : cs.size = 16 := by simpa using hl
 match xs, hxl with
 | [y0, y1, y2, y3], _ =>
  have hx1 := congrArg Prod.fst hx
  simp [Rows.laid_abacus_shape_formats] at hx1
  obtain ⟨h0, h1, h2, h3⟩ := hx1
  have q0 := hel 0 (by decide)
  have q1 := hel 1 (by decide)
  have q2 := hel 2 (by decide)
  have q3 := hel 3 (by decide)
  simp only [List.getElem?_cons_zero, List.getElem?_cons_succ] at q0 q1 q2 q3
  have z0 := row_read (p := y0.2) (by rw [q0, h0]) (by simp; omega)
  have z1 := row_read (p := y1.2) (by rw [q1, h1]) (by simp; omega)
  have z2 := row_read (p := y2.2) (by rw [q2, h2]) (by simp; omega)
  have z3 := row_read (p := y3.2) (by rw [q3, h3]) (by simp; omega)
  have hcs : ∀ i, i < 16 → cs.toList[i]? = fcells[i]? := by
   intro i hi
   have e0 : cs.toList[i]? = (cs.toList.drop (i / 4 * 4))[i % 4]? := by rw [List.getElem?_drop]; congr 1; omega
   have e1 : (cs.toList.drop (i / 4 * 4))[i % 4]? = ((cs.toList.drop (i / 4 * 4)).take 4)[i % 4]? := by rw [List.getElem?_take, if_pos (by omega)]
   rw [e0, e1]
   have : i / 4 = 0 ∨ i / 4 = 1 ∨ i / 4 = 2 ∨ i / 4 = 3 := by omega
   have hj : i % 4 = 0 ∨ i % 4 = 1 ∨ i % 4 = 2 ∨ i % 4 = 3 := by omega
   have hi2 : i = i / 4 * 4 + i % 4 := by omega
   rcases this with e | e | e | e <;> rw [e] at hi2 ⊢ <;> rcases hj with k | k | k | k <;> rw [k] at hi2 ⊢ <;> subst hi2 <;> first | (rw [z0]; rfl) | (rw [z1]; rfl) | (rw [z2]; rfl) | (rw [z3]; rfl)
  intro i hi
  rw [World.var?_cell gTab7 hvar i, ← hcs i hi]
  simp

theorem door_met7 (os : Os) (args : Array Value) : laidMetH Tryd.prog laid7 ((World.doorLaid Tryd.prog 400 os).forCall (fun _ _ => 0) ⟨#[], args, []⟩).memory :=
 laidMetH_of_parts3 (fuel := 8) (laidMet_of_run' 8 (by kernel_rfl) (by kernel_rfl)) (by kernel_rfl) (by kernel_rfl)
end Go.Proofs.YtkblmpmkchkpjaaDoor
namespace Go.Proofs.YtkblmpmkchkpjaaDoor
set_option maxRecDepth 100000
set_option maxHeartbeats 40000000
set_option maxRecDepth 100000
open Go.RowKit WMath
set_option linter.unusedSimpArgs false
set_option linter.unusedVariables false
theorem op_endless (c : Nat) (o : Bool) (ho : (decide (c = 0) || decide (c = 7)) = o) (w : World) : Calls Tryd.prog 36 #[.int .u8 c] w fun r w' => r = .returned (.bool o) ∧ Below w.heap.size w w' := by
 by_cases c0 : c = 0
 ·
  rw [decide_eq_true c0, Bool.true_or] at ho
  subst ho
  have d0 : ((c : Int) == 0) = true := by rw [c0]; rfl
  clear c0
  have B0 : Below w.heap.size w w := (Below.refl _ _)
  go_enter Tryd.func36, Tryd.ntmps36
  go_wp2
  go_ret
  exact ⟨rfl, B0⟩
 ·
  rw [decide_eq_false c0, Bool.false_or] at ho
  have d0 : ((c : Int) == 0) = false := by rw [beq_eq_false_iff_ne]; omega
  have d7 : ((c : Int) == 7) = o := by
   rw [← ho]
   by_cases c7 : c = 7
   ·
    rw [decide_eq_true c7, c7]; rfl
   ·
    rw [decide_eq_false c7, beq_eq_false_iff_ne]; omega
  clear ho c0
  have B0 : Below w.heap.size w w := (Below.refl _ _)
  go_enter Tryd.func36, Tryd.ntmps36
  go_wp2
  go_ret
  exact ⟨rfl, B0⟩
theorem op_naught (c : Nat) (o : Bool) (ho : (decide (c = 3) || decide (c = 4)) = o) (w : World) : Calls Tryd.prog 37 #[.int .u8 c] w fun r w' => r = .returned (.bool o) ∧ Below w.heap.size w w' := by
 by_cases c0 : c = 3
 ·
  rw [decide_eq_true c0, Bool.true_or] at ho
  subst ho
  have d0 : ((c : Int) == 3) = true := by rw [c0]; rfl
  clear c0
  have B0 : Below w.heap.size w w := (Below.refl _ _)
  go_enter Tryd.func37, Tryd.ntmps37
  go_wp2
  go_ret
  exact ⟨rfl, B0⟩
 ·
  rw [decide_eq_false c0, Bool.false_or] at ho
  have d0 : ((c : Int) == 3) = false := by rw [beq_eq_false_iff_ne]; omega
  have d7 : ((c : Int) == 4) = o := by
   rw [← ho]
   by_cases c7 : c = 4
   ·
    rw [decide_eq_true c7, c7]; rfl
   ·
    rw [decide_eq_false c7, beq_eq_false_iff_ne]; omega
  clear ho c0
  have B0 : Below w.heap.size w w := (Below.refl _ _)
  go_enter Tryd.func37, Tryd.ntmps37
  go_wp2
  go_ret
  exact ⟨rfl, B0⟩
theorem op_inf (f : Int) (neg : Bool) (u v : Nat) (w : World) (KI : Box (∀ w, FAt w → Calls Tryd.prog 42 #[.int .u8 f, .int .u8 0, .bool neg] w fun r w' => r = .returned (.tuple #[.agg #[.int .u64 u, .int .u64 v], .int .u8 5, .int .i64 0]) ∧ Below w.heap.size w w')) (hT : FAt w) : Calls Tryd.prog 17 #[.int .u8 f, .bool neg] w fun r w' => r = .returned (.agg #[.int .u64 u, .int .u64 v]) ∧ Below w.heap.size w w' := by
 have FF := box hT
 clear hT
 obtain ⟨Ac, B0⟩ := opn1 w (Obj.cells #[.int .u64 0, .int .u64 0] 26)
 go_enter Tryd.func17, Tryd.ntmps17
 go_wp2_with fail
 refine (KI.out _ (fatB FF.out B0)).mono ?_
 rintro r w1 ⟨rfl, b1⟩
 have B1 := btr B0 b1
 have Aa := heap_of b1 _ _ _ Ac
 clear b1 B0 Ac
 obtain ⟨Ad, Ae⟩ := cells2s Aa
 have S2 := box B1.size
 have Af := ltR Aa
 have Ag := heap_alloc_last w1 (Obj.cells #[.int .u64 u, .int .u64 v] 26)
 have B2 := btr B1 (bal w1 (Obj.cells #[.int .u64 u, .int .u64 v] 26))
 have Ab := heap_of (bal w1 (Obj.cells #[.int .u64 u, .int .u64 v] 26)) _ _ _ Aa
 clear B1 Aa Ad Ae
 obtain ⟨Ah, Ai⟩ := cells2s Ab
 obtain ⟨Aj, Ak⟩ := cells2s Ag
 have q0 := fz (k := 0) Ab
 have q1 := fz (k := 1) Ab
 obtain ⟨E0, E1⟩ := set2_cells Ab (.int .u64 u) (.int .u64 v)
 go_wp2
 exact bodyPost_ret (v := .agg #[.int .u64 u, .int .u64 v]) (by simp [results, Tryd.results17, go_sem, E0, E1]) rfl ⟨rfl, set2_below B2 (by first | exact Nat.le_refl _ | omega | (have := S2.out; have := Af.out; omega)) _ _⟩
theorem op_nan (f : Int) (iu iv a b c u v : Nat) (l o : Bool) (w : World) (KI : Box (∀ w, FAt w → Calls Tryd.prog 17 #[.int .u8 f, .bool false] w fun r w' => r = .returned (.agg #[.int .u64 iu, .int .u64 iv]) ∧ Below w.heap.size w w'))
  (KO : Box (∀ w, Calls Tryd.prog 38 #[.agg #[.int .u64 iu, .int .u64 iv]] w fun r w' => r = .returned (.agg (cw 6 a)) ∧ Below w.heap.size w w'))
  (KR : Box (∀ w, Calls Tryd.prog 39 #[.agg (cw 6 a), .int .i64 1] w fun r w' => r = .returned (.tuple #[.agg (cw 6 b), .bool l]) ∧ Below w.heap.size w w'))
  (KU : Box (∀ w, Calls Tryd.prog 41 #[.agg (cw 6 a), .agg (cw 6 b)] w fun r w' => r = .returned (.agg (cw 6 c)) ∧ Below w.heap.size w w'))
  (KT : Box (∀ w, Calls Tryd.prog 40 #[.agg (cw 6 c)] w fun r w' => r = .returned (.tuple #[.agg #[.int .u64 u, .int .u64 v], .bool o]) ∧ Below w.heap.size w w')) (hT : FAt w) : Calls Tryd.prog 16 #[.int .u8 f] w fun r w' => r = .returned (.agg #[.int .u64 u, .int .u64 v]) ∧ Below w.heap.size w w' := by
 have FF := box hT
 clear hT
 have hat := cw_at 6
 have hz := cw6z
 have hff := cw6f
 have hs0 := st0
 have hcs : ∀ x, ((cw 6 x).size = 6) = True := fun x => eq_true (cw_size 6 x)
 obtain ⟨Aq, B0⟩ := opn1 w (Obj.cells #[.int .u64 0, .int .u64 0] 26)
 go_enter Tryd.func16, Tryd.ntmps16
 go_wp2_with fail
 refine (KI.out _ (fatB FF.out B0)).mono ?_
 rintro r w1 ⟨rfl, b1⟩
 have B1 := btr B0 b1
 have Ah := heap_of b1 _ _ _ Aq
 clear b1 B0 Aq
 obtain ⟨Ar, As⟩ := cells2s Ah
 go_wp2_with fail
 refine (KO.out _).mono ?_
 rintro r w2 ⟨rfl, b2⟩
 have B2 := btr B1 b2
 have Aa := heap_of b2 _ _ _ Ah
 clear b2 B1 Ah Ar As
 obtain ⟨At, Au⟩ := cells2s Aa
 have S3 := box B2.size
 have Av := ltR Aa
 have Ai := heap_alloc_last w2 (Obj.cells (cw 6 a) 43)
 have B3 := btr B2 (bal w2 (Obj.cells (cw 6 a) 43))
 have Aj := heap_of (bal w2 (Obj.cells (cw 6 a) 43)) _ _ _ Aa
 clear B2 Aa At Au
 obtain ⟨Aw, Ax⟩ := cells2s Aj
 have Ay := row_cell Ai
 go_wp2_with fail
 refine (KR.out _).mono ?_
 rintro r w4 ⟨rfl, b4⟩
 have B4 := btr B3 b4
 obtain ⟨Ab, Ac⟩ := rws2 b4 Aj Ai
 clear b4 B3 Aj Aw Ax Ai Ay
 obtain ⟨Az, AA⟩ := cells2s Ab
 have AB := row_cell Ac
 have S5 := box B4.size
 have AC := ltR Ab
 have AD := ltR Ac
 have Ak := heap_alloc_last w4 (Obj.cells (cw 6 b) 43)
 have B5 := btr B4 (bal w4 (Obj.cells (cw 6 b) 43))
 obtain ⟨Al, Am⟩ := rws2 (bal w4 (Obj.cells (cw 6 b) 43)) Ab Ac
 clear B4 Ab Az AA Ac AB
 obtain ⟨AE, AF⟩ := cells2s Al
 have AG := row_cell Am
 have AH := row_cell Ak
 go_wp2_with fail
 refine (KU.out _).mono ?_
 rintro r w6 ⟨rfl, b6⟩
 have B6 := btr B5 b6
 obtain ⟨An, Ao, Ap⟩ := rws3 b6 Al Am Ak
 clear b6 B5 Al AE AF Am AG Ak AH
 obtain ⟨AI, AJ⟩ := cells2s An
 have AK := row_cell Ao
 have AL := row_cell Ap
 go_wp2_with fail
 refine (KT.out _).mono ?_
 rintro r w7 ⟨rfl, b7⟩
 have B7 := btr B6 b7
 obtain ⟨Ad, Ae, Af⟩ := rws3 b7 An Ao Ap
 clear b7 B6 An AI AJ Ao AK Ap AL
 obtain ⟨AM, AN⟩ := cells2s Ad
 have AO := row_cell Ae
 have AP := row_cell Af
 have S8 := box B7.size
 have AQ := ltR Ad
 have AR := ltR Ae
 have AS := ltR Af
 have AT := heap_alloc_last w7 (Obj.cells #[.int .u64 u, .int .u64 v] 26)
 have B8 := btr B7 (bal w7 (Obj.cells #[.int .u64 u, .int .u64 v] 26))
 obtain ⟨Ag, AU, AV⟩ := rws3 (bal w7 (Obj.cells #[.int .u64 u, .int .u64 v] 26)) Ad Ae Af
 clear B7 Ad AM AN Ae AO Af AP
 obtain ⟨AW, AX⟩ := cells2s Ag
 have AY := row_cell AU
 have AZ := row_cell AV
 obtain ⟨A0, A1⟩ := cells2s AT
 have q0 := fz (k := 0) Ag
 have q1 := fz (k := 1) Ag
 obtain ⟨E0, E1⟩ := set2_cells Ag (.int .u64 u) (.int .u64 v)
 go_wp2
 exact bodyPost_ret (v := .agg #[.int .u64 u, .int .u64 v]) (by simp [results, Tryd.results16, go_sem, E0, E1]) rfl ⟨rfl, set2_below B8 (by first | exact Nat.le_refl _ | omega | (have := S3.out; have := Av.out; have := S5.out; have := AC.out; have := AD.out; have := S8.out; have := AQ.out; have := AR.out; have := AS.out; omega)) _ _⟩
def bls (l : List (Nat × Nat)) : Array Value := (l.flatMap fun p => [Value.int .u64 (p.1 : Nat), Value.int .u64 (p.2 : Nat)]).toArray
def okP (f : Int) (p : Nat × Nat) : Bool := okB f (p.2 + 18446744073709551616 * p.1)
theorem bls_at (l : List (Nat × Nat)) (k : Nat) (p : Nat × Nat) (h : l[k]? = some p) : (bls l)[k * 2]? = some (.int .u64 (p.1 : Nat)) ∧ (bls l)[k * 2 + 1]? = some (.int .u64 (p.2 : Nat)) := by
 unfold bls
 rw [List.getElem?_toArray, List.getElem?_toArray]
 induction l generalizing k with
 | nil => simp at h
 | cons a t ih =>
  cases k with
  | zero =>
   simp at h
   subst h
   simp
  | succ k =>
   simp only [List.getElem?_cons_succ] at h
   have := ih k h
   rw [show (k + 1) * 2 = k * 2 + 1 + 1 by omega]
   simpa using this
theorem bls_cell {w : World} {g : Nat} {T : TypeId} {l : List (Nat × Nat)} (row : w.heap[g]? = some (.cells (bls l) T)) (k : Nat) (p : Nat × Nat) (h : l[k]? = some p) : w.cell? ⟨g, k * 2, none⟩ = some (.int .u64 (p.1 : Nat)) ∧ w.cell? ⟨g, k * 2 + 1, none⟩ = some (.int .u64 (p.2 : Nat)) := by
 obtain ⟨a, b⟩ := bls_at l k p h
 exact ⟨(cell_of_row w g (k * 2) _ _ _ row).trans a, (cell_of_row w g (k * 2 + 1) _ _ _ row).trans b⟩
theorem op_may_no (f m : Int) (pu pv : Nat) (fl c : Int) (sl : Value) (hc : (c != 0) = true) (w : World)
  (KP : Box (∀ w, FAt w → Calls Tryd.prog 18 #[.int .u8 f, .int .u8 m, .agg (rg false 0 0 false)] w fun r w' => r = .returned (.tuple #[.agg #[.int .u64 pu, .int .u64 pv], .int .u8 fl, .int .i64 c]) ∧ Below w.heap.size w w')) (hT : FAt w) : Calls Tryd.prog 12 #[.int .u8 f, .int .u8 m, sl] w fun r w' => r = .returned (.bool false) ∧ Below w.heap.size w w' := by
 have FF := box hT
 clear hT
 have hp3 := rgz
 have B0 : Below w.heap.size w w := (Below.refl _ _)
 go_enter Tryd.func12, Tryd.ntmps12
 go_wp2_with fail
 refine (KP.out _ (fatB FF.out B0)).mono ?_
 rintro r w1 ⟨rfl, b1⟩
 have B1 := btr B0 b1
 clear b1 B0 
 have S2 := box B1.size
 have Aa := heap_alloc_last w1 (Obj.cells #[.int .u64 pu, .int .u64 pv] 26)
 have B2 := btr B1 (bal w1 (Obj.cells #[.int .u64 pu, .int .u64 pv] 26))
 clear B1 
 obtain ⟨Ab, Ac⟩ := cells2s Aa
 go_wp2
 go_ret
 exact ⟨rfl, B2⟩
theorem kClass_any (f : Int) (hf : Is4 f) (p : Nat × Nat) (h : p.1 < 18446744073709551616 ∧ p.2 < 18446744073709551616) (o : Bool) (ho : okP f p = o) : ∃ (c e : Int), (e != 0) = (!o) ∧ Box (∀ w, FAt w → Calls Tryd.prog 4 #[.int .u8 f, .agg #[.int .u64 (p.1 : Nat), .int .u64 (p.2 : Nat)]] w fun r w' => r = .returned (.tuple #[.int .u8 c, .int .i64 e]) ∧ Below w.heap.size w w') := by
 have h0 : 0 ≤ f ∧ f ≤ 255 := by rcases hf with rfl | rfl | rfl | rfl <;> decide
 cases o
 ·
  exact ⟨0, 2, rfl, box (fun w hT => kClass_no f h0.1 h0.2 p.1 p.2 _ h.1 h.2 rfl ho w hT)⟩
 ·
  exact ⟨_, 0, rfl, box (fun w hT => kClass_yes f hf p.1 p.2 _ _ h.1 h.2 rfl ho rfl w hT)⟩
theorem op_may (f m : Int) (hf : Is4 f) (l : List (Nat × Nat)) (L g c : Nat) (T : TypeId) (w : World) (hl : l.length = L) (hL : L ≤ 1000) (hb : Box (∀ p ∈ l, p.1 < 18446744073709551616 ∧ p.2 < 18446744073709551616)) (row : w.heap[g]? = some (.cells (bls l) T)) (pu pv : Nat) (fl : Int)
  (KP : Box (∀ w, FAt w → Calls Tryd.prog 18 #[.int .u8 f, .int .u8 m, .agg (rg false 0 0 false)] w fun r w' => r = .returned (.tuple #[.agg #[.int .u64 pu, .int .u64 pv], .int .u8 fl, .int .i64 0]) ∧ Below w.heap.size w w'))
  (o : Bool) (ho : l.all (okP f) = o) (hT : FAt w) : Calls Tryd.prog 12 #[.int .u8 f, .int .u8 m, .slice (some ⟨g, 0, none⟩) L c] w fun r w' => r = .returned (.bool o) ∧ Below w.heap.size w w' := by
 have FF := box hT
 have HO := box ho
 have HL := box hl
 have HF := box hf
 clear ho hl hT hf
 have hp3 := rgz
 go_enter Tryd.func12, Tryd.ntmps12
 go_wp2_with fail
 refine (KP.out _ FF.out).mono ?_
 rintro r w1 ⟨rfl, b1⟩
 have BP := btr b1 (bal w1 (.cells #[.int .u64 pu, .int .u64 pv] 26))
 obtain ⟨V, hV⟩ : ∃ V, w1.alloc (.cells #[.int .u64 pu, .int .u64 pv] 26) = V := ⟨_, rfl⟩
 go_wp2
 rw [hV] at BP
 clear b1 KP hV
 go_loopw [26] (fun iv wr => ∃ k : Nat, k ≤ L ∧ iv = .int .i64 k ∧ Below w.heap.size w wr ∧ Box (∀ j p, j < k → l[j]? = some p → okP f p = true)) (fun iv _ => L - (intOf iv).toNat)
 case atStart => exact ⟨0, by omega, rfl, BP, box (fun j s hj => absurd hj (by omega))⟩
 case round =>
  obtain ⟨k, hk, rfl, bw, HA⟩ := hrel
  by_cases hlt : k < L
  ·
   obtain ⟨p, hs⟩ : ∃ p, l[k]? = some p := ⟨_, List.getElem?_eq_getElem (by rw [HL.out]; exact hlt)⟩
   obtain ⟨c1, c2⟩ := bls_cell (heap_of bw _ _ _ row) k p hs
   have dl : decide ((k : Int) < (L : Int)) = true := decide_eq_true (by omega)
   have HS := box hs
   obtain ⟨o1, hm⟩ : ∃ o1, okP f p = o1 := ⟨_, rfl⟩
   have HM := box hm
   obtain ⟨cc, ee, hee, KC⟩ := kClass_any f HF.out p (hb.out p (List.mem_of_getElem? hs)) o1 hm
   have FA : Box (FAt (wr.alloc (.cells #[.int .u64 (p.1 : Nat), .int .u64 (p.2 : Nat)] 26))) := box (fatB FF.out (btr bw (bal _ _)))
   have BA := btr bw (bal wr (.cells #[.int .u64 (p.1 : Nat), .int .u64 (p.2 : Nat)] 26))
   clear hs hm
   cases o1
   ·
    have e : o = false := by
     rw [← HO.out, Bool.eq_false_iff]
     intro h
     rw [List.all_eq_true] at h
     have := h p (List.mem_of_getElem? HS.out)
     rw [HM.out] at this
     exact absurd this (by decide)
    subst e
    go_wp2_with fail
    refine (KC.out _ FA.out).mono ?_
    rintro r w2 ⟨rfl, b2⟩
    go_wp2
    go_ret
    exact ⟨rfl, btr BA b2⟩
   ·
    have NA : Box (∀ j p, j < k + 1 → l[j]? = some p → okP f p = true) := box (fun j p2 hj h2 => by
     by_cases e : j = k
     ·
      subst e
      rw [HS.out] at h2
      cases h2
      exact HM.out
     ·
      exact HA.out j p2 (by omega) h2)
    go_wp2_with fail
    refine (KC.out _ FA.out).mono ?_
    rintro r w2 ⟨rfl, b2⟩
    go_wp2
    go_roundw
    case rel => exact ⟨k + 1, by omega, by go_num, btr BA b2, NA⟩
    case measure => simp [intOf] <;> omega
  ·
   obtain rfl : k = L := by omega
   have e : o = true := by
    rw [← HO.out, List.all_eq_true]
    intro s hs
    obtain ⟨j, hj⟩ := List.mem_iff_getElem?.1 hs
    have := (List.getElem?_eq_some_iff.1 hj).1
    exact HA.out j s (by rw [← HL.out]; exact this) hj
   subst e
   have dl : decide ((k : Int) < (k : Int)) = false := by rw [decide_eq_false_iff_not]; omega
   go_wp2
   go_ret
   exact ⟨rfl, bw⟩
theorem two_row (x1 y1 x2 y2 : Nat) (T : TypeId) (g : Nat) (w : World) (hg : w.heap.size = g) : (w.alloc (.cells #[.int .u64 x1, .int .u64 y1, .int .u64 x2, .int .u64 y2] T)).heap[g]? = some (.cells (bls [(x1, y1), (x2, y2)]) T) := by
 rw [← hg]
 exact heap_alloc_last _ _
theorem two_lim {x1 y1 x2 y2 : Nat} (hx1 : x1 < 18446744073709551616) (hy1 : y1 < 18446744073709551616) (hx2 : x2 < 18446744073709551616) (hy2 : y2 < 18446744073709551616) : Box (∀ p ∈ [(x1, y1), (x2, y2)], p.1 < 18446744073709551616 ∧ p.2 < 18446744073709551616) := box (fun p hp => by
 rcases List.mem_cons.1 hp with rfl | h
 ·
  exact ⟨hx1, hy1⟩
 ·
  rcases List.mem_cons.1 h with rfl | h
  ·
   exact ⟨hx2, hy2⟩
  ·
   exact absurd h List.not_mem_nil)
theorem kmay2 (f m : Int) (h0 : 0 ≤ f) (h1 : f ≤ 255) (m0 : 0 ≤ m) (x1 y1 a x2 y2 b : Nat) (hx1 : x1 < 18446744073709551616) (hy1 : y1 < 18446744073709551616) (ha : y1 + 18446744073709551616 * x1 = a) (hx2 : x2 < 18446744073709551616) (hy2 : y2 < 18446744073709551616) (hb : y2 + 18446744073709551616 * x2 = b) (o : Bool) (ho : (decide (f ≤ 3 ∧ m ≤ 4) && okB f a && okB f b) = o) :
  Box (∀ (T : TypeId) (g : Nat) (w : World), w.heap.size = g → FAt w → Calls Tryd.prog 12 #[.int .u8 f, .int .u8 m, .slice (some ⟨g, 0, none⟩) 2 2] (w.alloc (.cells #[.int .u64 x1, .int .u64 y1, .int .u64 x2, .int .u64 y2] T)) fun r w' => r = .returned (.bool o) ∧ Below w.heap.size w w') := by
 refine box (fun T g w hg hT => ?_)
 have B := (bal w (.cells #[.int .u64 x1, .int .u64 y1, .int .u64 x2, .int .u64 y2] T))
 have row := two_row x1 y1 x2 y2 T g w hg
 have hT2 := fatB hT B
 by_cases c : f ≤ 3 ∧ m ≤ 4
 ·
  have hf := is4_of h0 c.1
  obtain ⟨u, v, hv⟩ : ∃ u v, bv7 (eZero f false) = (u, v) := ⟨_, _, rfl⟩
  have KP : Box (∀ w, FAt w → Calls Tryd.prog 18 #[.int .u8 f, .int .u8 m, .agg (rg false 0 0 false)] w fun r w' => r = .returned (.tuple #[.agg #[.int .u64 u, .int .u64 v], .int .u8 0, .int .i64 0]) ∧ Below w.heap.size w w') := box (fun w hT => kPack_zero f m hf ⟨m0, c.2⟩ false 0 (by decide) (by decide) u v hv w hT)
  refine (op_may f m hf [(x1, y1), (x2, y2)] 2 g 2 T _ rfl (by decide) (two_lim hx1 hy1 hx2 hy2) row u v 0 KP o ?_ hT2).mono fun _ _ ⟨q1, q2⟩ => ⟨q1, btr B q2⟩
  rw [← ho, decide_eq_true c]
  show (okP f (x1, y1) && (okP f (x2, y2) && true)) = _
  unfold okP
  rw [ha, hb, Bool.and_true, Bool.true_and]
 ·
  have e : o = false := by rw [← ho, decide_eq_false c]; rfl
  subst e
  exact (op_may_no f m 0 0 0 2 _ rfl _ (box (fun w hT => kPack_no f m h0 h1 false 0 Q_pos 0 false (fun q => c ⟨q.1, q.2.1⟩) w hT)) hT2).mono fun _ _ ⟨q1, q2⟩ => ⟨q1, btr B q2⟩
end Go.Proofs.YtkblmpmkchkpjaaDoor
namespace Go.Proofs.YtkblmpmkchkpjaaDoor
set_option maxRecDepth 100000
set_option maxHeartbeats 40000000
set_option maxRecDepth 100000
open Go.RowKit WMath XMath
set_option linter.unusedSimpArgs false
set_option linter.unusedVariables false
theorem vX_whole {f : Int} (hf : Is4 f) (n : Nat) (h : 0 < kC f n ∧ kC f n < 7) (h2 : ¬ (kC f n = 3 ∨ kC f n = 4)) : kS f n ≠ 0 ∧ kS f n < 2 ^ 128 ∧ vX f n = ⟨kN f n, od (kS f n), 1, kX f n + (tz (kS f n) : Int)⟩ ∧ (vX f n).can := by
 obtain ⟨l1, l2, l3⟩ := kS_lim hf n
 obtain ⟨a, b, d, e⟩ := k_parts (f := f) n (by omega)
 have l4 : kS f n < 2 ^ 128 := l1
 obtain ⟨w1, w2, w3, w4, w5, w6, w7⟩ := x_whole hf (kN f n) (kS f n) (kX f n) e (by have := (blen_iff (kS f n) 128).2 l4; omega) (by omega) (by omega)
 have := vX_mk hf n h
 rw [w1] at this
 injection this with h3 h4
 exact ⟨e, l4, h3.symm, by rw [← h3]; exact w2⟩
theorem ov_inf (f : Int) (neg : Bool) : ovB f 0 neg = eInf f neg := by
 unfold ovB
 rw [if_pos (by unfold gO; rw [if_pos rfl]; rfl)]
theorem nan_or {f : Int} (hf : Is4 f) : eInf f false ||| eInf f false / 2 = eNaN f ∧ eInf f false < 340282366920938463463374607431768211456 ∧ eNaN f < 340282366920938463463374607431768211456 := by
 rcases hf with rfl | rfl | rfl | rfl <;> decide +kernel
theorem kInf_is (f : Int) (hf : Is4 f) (neg : Bool) (u v : Nat) (hv : bv7 (eInf f neg) = (u, v)) (w : World) (hT : FAt w) : Calls Tryd.prog 17 #[.int .u8 f, .bool neg] w fun r w' => r = .returned (.agg #[.int .u64 u, .int .u64 v]) ∧ Below w.heap.size w w' :=
 op_inf f neg u v w (box (fun w hT => kover f 0 hf (by decide) neg u v (by rw [ov_inf]; exact hv) w hT)) hT
theorem kNaN_is (f : Int) (hf : Is4 f) (u v : Nat) (hv : bv7 (eNaN f) = (u, v)) (w : World) (hT : FAt w) : Calls Tryd.prog 16 #[.int .u8 f] w fun r w' => r = .returned (.agg #[.int .u64 u, .int .u64 v]) ∧ Below w.heap.size w w' := by
 obtain ⟨n1, n2, n3⟩ := nan_or hf
 obtain ⟨iu, iv, hi⟩ : ∃ iu iv, bv7 (eInf f false) = (iu, iv) := ⟨_, _, rfl⟩
 obtain ⟨i1, i2, i3⟩ := bv_lt n2 hi
 obtain ⟨w0, w1⟩ := wd01 n3
 have hQ := lt_Q7 n2
 have hQ2 := lt_Q7 n3
 have hQ3 : eInf f false / 2 < Q := Nat.lt_of_le_of_lt (Nat.div_le_self _ _) hQ
 unfold bv7 at hv
 injection hv with v1 v2
 have KT : Box (∀ w, Calls Tryd.prog 40 #[.agg (cw 6 (eNaN f))] w fun r w' => r = .returned (.tuple #[.agg #[.int .u64 u, .int .u64 v], .bool true]) ∧ Below w.heap.size w w') := box (fun w => by
  have := wtobits_yes (eNaN f) hQ2 (by rw [w0, w1]; exact Nat.mod_add_div _ _) w
  rw [w0, w1, v1, v2] at this
  exact this)
 exact op_nan f iu iv _ _ _ u v _ true w (box (fun w hT => kInf_is f hf false iu iv hi w hT)) (box (fun w => wofbits_is iu iv _ i1 i2 i3 w))
  (box (fun w => wright_is (eInf f false) (eInf f false / 2) 1 _ hQ rfl rfl w)) (box (fun w => wor_is _ _ _ hQ hQ3 n1 w)) KT hT
theorem ieq {c : Nat} {k : Int} (h : (c : Int) = k) : ((c : Int) == k) = true := by rw [h]; exact beq_self_eq_true k
theorem ine {c : Nat} {k : Int} (h : (c : Int) ≠ k) : ((c : Int) == k) = false := beq_eq_false_iff_ne.2 h
theorem q256 {s : Nat} (h : s < 2 ^ 256) : s < Q := Nat.lt_of_lt_of_le h (by decide +kernel)
def kM (f : Int) (n : Nat) : Nat := kE f n * 2 ^ pV f + kT f n
theorem kC_all (f : Int) (n : Nat) : (kE f n = oV f ∧ kT f n = 0 ∧ kC f n = if kN f n then 0 else 7) ∨ (kE f n = oV f ∧ kT f n ≠ 0 ∧ kT f n < 2 ^ (pV f - 1) ∧ kC f n = 8) ∨ (kE f n = oV f ∧ 2 ^ (pV f - 1) ≤ kT f n ∧ kC f n = 9) ∨
  (kE f n < oV f ∧ kE f n ≠ 0 ∧ kC f n = if kN f n then 1 else 6) ∨ (kE f n < oV f ∧ kE f n = 0 ∧ kT f n ≠ 0 ∧ kC f n = if kN f n then 2 else 5) ∨ (kE f n < oV f ∧ kE f n = 0 ∧ kT f n = 0 ∧ kC f n = if kN f n then 3 else 4) := by
 have el := kE_le (f := f) n
 have p := Nat.two_pow_pos (pV f - 1)
 unfold kC
 by_cases c1 : kE f n = oV f
 ·
  by_cases c2 : kT f n = 0
  ·
   left
   refine ⟨c1, c2, ?_⟩
   (repeat' split) <;> first | rfl | omega | simp_all
  ·
   by_cases c3 : kT f n < 2 ^ (pV f - 1)
   ·
    right; left
    refine ⟨c1, c2, c3, ?_⟩
    (repeat' split) <;> first | rfl | omega | simp_all
   ·
    right; right; left
    refine ⟨c1, by omega, ?_⟩
    (repeat' split) <;> first | rfl | omega | simp_all
 ·
  by_cases c2 : kE f n = 0
  ·
   by_cases c3 : kT f n = 0
   ·
    right; right; right; right; right
    refine ⟨by omega, c2, c3, ?_⟩
    (repeat' split) <;> first | rfl | omega | simp_all
   ·
    right; right; right; right; left
    refine ⟨by omega, c2, c3, ?_⟩
    (repeat' split) <;> first | rfl | omega | simp_all
  ·
   right; right; right; left
   refine ⟨by omega, c2, ?_⟩
   (repeat' split) <;> first | rfl | omega | simp_all
theorem cls_sg (f : Int) (n : Nat) : ∃ a1 a2 a3 a4 : Nat, (a1 = 0 ∨ a1 = 7) ∧ (a2 = 1 ∨ a2 = 6) ∧ (a3 = 2 ∨ a3 = 5) ∧ (a4 = 3 ∨ a4 = 4) ∧
  ((kE f n = oV f ∧ kT f n = 0 ∧ kC f n = a1) ∨ (kE f n = oV f ∧ kT f n ≠ 0 ∧ kT f n < 2 ^ (pV f - 1) ∧ kC f n = 8) ∨ (kE f n = oV f ∧ 2 ^ (pV f - 1) ≤ kT f n ∧ kC f n = 9) ∨ (kE f n < oV f ∧ kE f n ≠ 0 ∧ kC f n = a2) ∨ (kE f n < oV f ∧ kE f n = 0 ∧ kT f n ≠ 0 ∧ kC f n = a3) ∨ (kE f n < oV f ∧ kE f n = 0 ∧ kT f n = 0 ∧ kC f n = a4)) :=
 ⟨_, _, _, _, by cases kN f n <;> simp, by cases kN f n <;> simp, by cases kN f n <;> simp, by cases kN f n <;> simp, kC_all f n⟩
theorem kM_zero (f : Int) (n : Nat) (h : kC f n = 3 ∨ kC f n = 4) : kM f n = 0 ∧ kE f n = 0 ∧ kT f n = 0 := by
 obtain ⟨a1, a2, a3, a4, s1, s2, s3, s4, c⟩ := cls_sg f n
 have e : kE f n = 0 ∧ kT f n = 0 := by omega
 exact ⟨by unfold kM; rw [e.1, e.2, Nat.zero_mul], e⟩
theorem rnd_vX {f : Int} (hf : Is4 f) (m : Int) (g : Nat) (hg : kC f g = 1 ∨ kC f g = 2 ∨ kC f g = 5 ∨ kC f g = 6) : (vX f g).can ∧ nl (vX f g).n ≤ 8192 ∧ (vX f g).n ≠ 0 ∧ (vX f g).d = 1 ∧ rnd f m (vX f g) = dlv f m (kN f g) (kX f g + (blen (kS f g) : Int) - 1) (qW (pV f + 1) (kS f g)) (qM (pV f + 1) (kS f g) false) := by
 obtain ⟨a1, a2, a3, a4⟩ := vX_whole hf g (by omega) (by omega)
 obtain ⟨l1, l2, l3⟩ := kS_lim hf g
 obtain ⟨w1, w2, w3, w4, w5, w6, w7⟩ := x_whole hf (kN f g) (kS f g) (kX f g) a1 (by have := (blen_iff (kS f g) 128).2 a2; omega) (by omega) (by omega)
 rw [a3]
 refine ⟨w2, w4, w3, rfl, ?_⟩
 unfold rnd
 rw [if_neg w3, w5, w6, w7]
theorem one_parts {f : Int} (hf : Is4 f) (neg : Bool) : Fit f (eOne f neg) ∧ kN f (eOne f neg) = neg ∧ (kC f (eOne f neg) = 1 ∨ kC f (eOne f neg) = 6) ∧ kS f (eOne f neg) = 2 ^ pV f ∧ kX f (eOne f neg) = -(pV f : Int) := by
 have p := Nat.two_pow_pos (pV f)
 obtain ⟨n1, n2, n3, n4, n5, n6⟩ := nm8 hf
 have fe : 0 < (fE f).toNat ∧ (fE f).toNat < oV f := by
  rcases hf with rfl | rfl | rfl | rfl <;> decide +kernel
 obtain ⟨e1, e2, e3, e4⟩ := enc_k hf neg (e := (fE f).toNat) (t := 0) (by omega) p
 have ez : enc7 f neg (fE f).toNat 0 = eOne f neg := rfl
 rw [ez] at e1 e2 e3 e4
 have c : kC f (eOne f neg) = 1 ∨ kC f (eOne f neg) = 6 := by
  obtain ⟨a1, a2, a3, a4, s1, s2, s3, s4, ca⟩ := cls_sg f (eOne f neg)
  omega
 have k := k_parts (f := f) (eOne f neg) (by omega)
 refine ⟨e1, e2, c, ?_, ?_⟩
 ·
  rw [k.2.1, e3, e4]
  unfold sV
  rw [if_neg (by omega)]
  omega
 ·
  rw [k.2.2.1, e3]
  unfold xV
  rw [if_neg (by omega)]
  unfold lx
  omega
theorem kS_blen {f : Int} (hf : Is4 f) (n : Nat) (h : kC f n = 1 ∨ kC f n = 2 ∨ kC f n = 5 ∨ kC f n = 6) : 1 ≤ blen (kS f n) ∧ blen (kS f n) ≤ 113 := by
 obtain ⟨n1, n2, n3, n4, n5, n6⟩ := nm8 hf
 obtain ⟨k1, k2, k3, k4⟩ := k_parts (f := f) n h
 have t := kT_lt (f := f) n
 have l : kS f n < 2 ^ (pV f + 1) := by
  rw [k2, Nat.pow_succ]
  unfold sV
  split <;> omega
 have := (blen_iff (kS f n) (pV f + 1)).2 l
 have := blen_pos _ k4
 have : pV f ≤ 112 := by rcases hf with rfl | rfl | rfl | rfl <;> decide
 omega
theorem quo_len (A B k : Nat) (A0 : A ≠ 0) (B0 : B ≠ 0) (hk : blen A + k = 115 + blen B) : 115 ≤ blen (A * 2 ^ k / B) ∧ blen (A * 2 ^ k / B) ≤ 116 := by
 have bs := blen_shift A k A0
 obtain ⟨N, hN⟩ : ∃ N, A * 2 ^ k = N := ⟨_, rfl⟩
 rw [hN] at bs ⊢
 have N0 : N ≠ 0 := by rw [← hN]; exact mul_ne A0 (Nat.pos_iff_ne_zero.1 (Nat.two_pow_pos _))
 obtain ⟨c1, c2, c3⟩ := blen_low N N0
 obtain ⟨d1, d2, d3⟩ := blen_low B B0
 have pb : 0 < B := Nat.pos_of_ne_zero B0
 constructor
 ·
  have g : 2 ^ 114 ≤ N / B := by
   rw [Nat.le_div_iff_mul_le pb]
   have : 2 ^ 114 * B ≤ 2 ^ 114 * 2 ^ blen B := Nat.mul_le_mul_left _ (Nat.le_of_lt d3)
   rw [← Nat.pow_add, show 114 + blen B = blen N - 1 by omega] at this
   exact Nat.le_trans this c2
  rcases Nat.lt_or_ge (blen (N / B)) 115 with c | c
  ·
   have := (blen_iff (N / B) 114).1 (by omega)
   omega
  ·
   exact c
 ·
  rw [blen_iff, Nat.div_lt_iff_lt_mul pb]
  have : 2 ^ 116 * 2 ^ (blen B - 1) ≤ 2 ^ 116 * B := Nat.mul_le_mul_left _ d2
  rw [← Nat.pow_add, show 116 + (blen B - 1) = blen N by omega] at this
  exact Nat.lt_of_lt_of_le c3 this
end Go.Proofs.YtkblmpmkchkpjaaDoor
