/-
  What the functions that the statement reaches return: part 17 (R35, R36, R37, FrameR, SL).
-/
import Derived.Test.YtfmmeifipbpbmaaGreatDoorRows
import Derived.OpenShut
import Derived.LaidMore
import Derived.Lib.LaidTab
import Derived.Stop.Joined
import Derived.Test.YtfmmeifipbpbmaaGreatDoorOa16
namespace Go.Proofs.YtfmmeifipbpbmaaGreatDoor
set_option maxRecDepth 100000
open Go.RowKit WMath
set_option linter.unusedSimpArgs false
set_option linter.unusedVariables false

theorem wd_hi (n k : Nat) (hk : 0 < k) (h : n < 18446744073709551616) : wd n k = 0 := by
  unfold wd
  rw [Nat.div_eq_of_lt, Nat.zero_mod]
  refine Nat.lt_of_lt_of_le h ?_
  rw [show (18446744073709551616 : Nat) = 2 ^ 64 by decide]
  exact Nat.pow_le_pow_right (by decide) (by omega)
theorem wd_hi2 (n k : Nat) (hk : 1 < k) (h : n < 340282366920938463463374607431768211456) : wd n k = 0 := by
  unfold wd
  rw [Nat.div_eq_of_lt, Nat.zero_mod]
  refine Nat.lt_of_lt_of_le h ?_
  rw [show (340282366920938463463374607431768211456 : Nat) = 2 ^ 128 by decide]
  exact Nat.pow_le_pow_right (by decide) (by omega)
theorem enc_lo (S j G : Nat) (h : G + S < 18446744073709551616) : IntKind.u64.wrap (((wd S 0 : Nat) : Int) + (G : Int)) = ((wd (G + S) 0 : Nat) : Int) ∧ ∀ k, 0 < k → k < 6 → wd (G + S) k = wd S k := by
  constructor
  · rw [IntKind.wrap_u64]
    unfold wd
    rw [Nat.mul_zero, Nat.pow_zero, Nat.div_one, Nat.div_one]
    omega
  · intro k h1 h2
    rw [wd_hi _ k h1 h, wd_hi _ k h1 (by omega)]
theorem enc_hi (S j : Nat) (h : j * 5192296858534827628530496329220096 + S < 340282366920938463463374607431768211456) : IntKind.u64.wrap (((wd S 1 : Nat) : Int) + ((j * 281474976710656 : Nat) : Int)) = ((wd (j * 5192296858534827628530496329220096 + S) 1 : Nat) : Int) ∧ ∀ k, k ≠ 1 → k < 6 → wd (j * 5192296858534827628530496329220096 + S) k = wd S k := by
  constructor
  · rw [IntKind.wrap_u64]
    unfold wd
    rw [Nat.mul_one, show (2 : Nat) ^ 64 = 18446744073709551616 by decide]
    omega
  · intro k h1 h2
    by_cases c : k = 0
    · subst c
      unfold wd
      rw [Nat.mul_zero, Nat.pow_zero, Nat.div_one, Nat.div_one]
      omega
    · rw [wd_hi2 _ k (by omega) h, wd_hi2 _ k (by omega) (by omega)]
theorem or_sign (f : Int) (n : Nat) (neg : Bool) (h : n < 2 ^ wV f) : n ||| eZero f neg = n + (if neg then 2 ^ wV f else 0) := by
  unfold eZero enc7
  rw [Nat.zero_mul, Nat.zero_add]
  cases neg
  · rw [if_neg (by decide), Nat.or_zero, Nat.add_zero]
  · rw [if_pos rfl, Nat.or_comm]
    have := Nat.two_pow_add_eq_or_of_lt h 1
    rw [Nat.mul_one] at this
    omega
theorem ez_lt {f : Int} (hf : Is4 f) (neg : Bool) : eZero f neg < 340282366920938463463374607431768211456 := by
  obtain ⟨g1, g2, g3, g4, g5, g6, g7⟩ := fm hf
  have := Nat.two_pow_pos (wV f)
  unfold eZero enc7
  split <;> omega
theorem kenc (f : Int) (hf : Is4 f) (neg : Bool) (j S : Nat) (st : Int) (hst : st = lx f + (j : Int)) (hS : S ≤ 2 * 2 ^ pV f) (hj : j = 0 ∨ 2 ^ pV f ≤ S) (ht : lx f + (j : Int) - 1 + (blen S : Int) ≤ fE f) (u v : Nat) (hv : bv7 (eS f neg j S) = (u, v)) (w : World) (hT : FAt w) :
    Calls Tryz.prog 89 #[.int .u8 f, .agg (rg neg S st false)] w fun r w' => r = .returned (.agg #[.int .u64 (u : Nat), .int .u64 (v : Nat)]) ∧ Below w.heap.size w w' := by
  have lt := eS_lt hf j S hS hj ht
  obtain ⟨g1, g2, g3, g4, g5, g6, g7⟩ := fm hf
  obtain ⟨n1, n2, n3, n4, n5, n6⟩ := nm8 hf
  obtain ⟨l1, l2, l3⟩ : True ∧ True ∧ True := ⟨trivial, trivial, trivial⟩
  have bl := blen_low S
  have hp := fp8 hf
  have hj2 : j ≤ 40000 := by
    have : blen S = 0 ∨ 0 < blen S := by omega
    rcases hj with h | h
    · omega
    · have p := Nat.two_pow_pos (pV f)
      have := (bl (by omega)).1
      omega
  obtain ⟨zu, zv, hz⟩ : ∃ zu zv, bv7 (eZero f neg) = (zu, zv) := ⟨_, _, rfl⟩
  have e3 : eS f neg j S = (j * 2 ^ pV f + S) ||| eZero f neg := by rw [or_sign f _ neg lt]; rfl
  have z1 : zu < 18446744073709551616 ∧ zv < 18446744073709551616 ∧ zv + 18446744073709551616 * zu = eZero f neg := by
    have := ez_lt hf neg
    unfold bv7 at hz
    injection hz with a b
    omega
  have sl : eS f neg j S < 340282366920938463463374607431768211456 := by
    unfold eS
    split <;> omega
  obtain ⟨ob, KT⟩ := ktobits_one (eS f neg j S) u v (lt_Q7 sl) (by unfold toB; rw [if_pos sl]; exact hv)
  have KB : Box (∀ w, Calls Tryz.prog 183 #[.agg #[.int .u64 (zu : Nat), .int .u64 (zv : Nat)]] w fun r w' => r = .returned (.agg (cw 6 (eZero f neg))) ∧ Below w.heap.size w w') := box (fun w => wofbits_is zu zv _ z1.1 z1.2.1 z1.2.2 w)
  have KO : Box (∀ w, Calls Tryz.prog 182 #[.agg (cw 6 (j * 2 ^ pV f + S)), .agg (cw 6 (eZero f neg))] w fun r w' => r = .returned (.agg (cw 6 (eS f neg j S))) ∧ Below w.heap.size w w') := box (fun w => wor_is _ _ _ (lt_Q7 (by omega)) (lt_Q7 (ez_lt hf neg)) e3.symm w)
  have KZ : Box (∀ w, FAt w → Calls Tryz.prog 71 #[.int .u8 f, .bool neg] w fun r w' => r = .returned (.agg #[.int .u64 (zu : Nat), .int .u64 (zv : Nat)]) ∧ Below w.heap.size w w') := box (fun w hT => sk_zero f neg hf zu zv hz w hT)
  have KI : Box (∀ w, FAt w → Calls Tryz.prog 85 #[.int .u8 f] w fun r w' => r = .returned (.int .i64 (1 - fE f)) ∧ Below w.heap.size w w') := box (fun w hT => k_emin f hf w hT)
  have KS : Box (∀ w, FAt w → Calls Tryz.prog 83 #[.int .u8 f, .int .i64 (1 - fE f)] w fun r w' => r = .returned (.int .i64 (lx f)) ∧ Below w.heap.size w w') := box (fun w hT => kostep f hf _ (by omega) (by omega) _ (by omega) w hT)
  have w1 : IntKind.i64.wrap (st - lx f) = (j : Int) := by rw [wrap_i64_is _ (by omega) (by omega)]; omega
  have w2 : IntKind.u64.wrap (j : Int) = (j : Int) := by rw [IntKind.wrap_u64]; omega
  have KP : Box (∀ w, FAt w → Calls Tryz.prog 172 #[.int .u8 f] w fun r w' => r = .returned (.int .i64 (fP f)) ∧ Below w.heap.size w w') := box (fun w hT => kprec f hf w hT)
  clear hv hz z1 sl e3
  rcases hf with rfl | rfl | rfl | rfl
  · rw [show fP 0 = 24 by decide] at KP
    rw [show 2 ^ pV 0 = 8388608 by decide] at lt KO
    rw [show 2 ^ wV 0 = 2147483648 by decide] at lt
    obtain ⟨e1, e2⟩ := enc_lo S j (j * 8388608) (by omega)
    exact ro_enc_0 neg S _ _ st _ _ _ _ _ u v zu zv _ ob w KP KI KS w1 w2 (by rw [IntKind.wrap_u64]; omega) e1 (box e2) KZ KB KO (box KT) hT
  · rw [show fP 1 = 53 by decide] at KP
    rw [show 2 ^ pV 1 = 4503599627370496 by decide] at lt KO
    rw [show 2 ^ wV 1 = 9223372036854775808 by decide] at lt
    obtain ⟨e1, e2⟩ := enc_lo S j (j * 4503599627370496) (by omega)
    exact ro_enc_1 neg S _ _ st _ _ _ _ _ u v zu zv _ ob w KP KI KS w1 w2 (by rw [IntKind.wrap_u64]; omega) e1 (box e2) KZ KB KO (box KT) hT
  · rw [show fP 2 = 11 by decide] at KP
    rw [show 2 ^ pV 2 = 1024 by decide] at lt KO
    rw [show 2 ^ wV 2 = 32768 by decide] at lt
    obtain ⟨e1, e2⟩ := enc_lo S j (j * 1024) (by omega)
    exact ro_enc_2 neg S _ _ st _ _ _ _ _ u v zu zv _ ob w KP KI KS w1 w2 (by rw [IntKind.wrap_u64]; omega) e1 (box e2) KZ KB KO (box KT) hT
  · rw [show fP 3 = 113 by decide] at KP
    rw [show 2 ^ pV 3 = 5192296858534827628530496329220096 by decide] at lt KO
    rw [show 2 ^ wV 3 = 170141183460469231731687303715884105728 by decide] at lt
    obtain ⟨e1, e2⟩ := enc_hi S j (by omega)
    exact ro_enc_3 neg S _ _ st _ _ _ _ _ u v zu zv _ ob w KP KI KS w1 w2 (by rw [IntKind.wrap_u64]; omega) e1 (box e2) KZ KB KO (box KT) hT
theorem komay (f : Int) (hf : Is4 f) (neg : Bool) (s : Nat) (hs : s < Q) (x : Int) (more : Bool) (o : Bool) (ho : decide (-1048576 ≤ x ∧ x ≤ 1048576 ∧ (more = true → pV f + 3 ≤ blen s)) = o) (w : World) (hT : FAt w) : Calls Tryz.prog 80 #[.int .u8 f, .agg (rg neg s x more)] w fun r w' => r = .returned (.bool o) ∧ Below w.heap.size w w' := by
  have hp := fp8 hf
  obtain ⟨n1, n2, n3, n4, n5, n6⟩ := nm8 hf
  by_cases c1 : x < -1048576
  · rw [decide_eq_false (by omega)] at ho
    subst ho
    exact ro_may_lo f neg s x more w (decide_eq_true c1)
  by_cases c2 : 1048576 < x
  · rw [decide_eq_false (by omega)] at ho
    subst ho
    exact ro_may_hi f neg s x more w (decide_eq_false c1) (decide_eq_true c2)
  cases more
  · rw [decide_eq_true ⟨by omega, by omega, fun h => Bool.noConfusion h⟩] at ho
    subst ho
    exact ro_may_no f neg s x w (decide_eq_false c1) (decide_eq_false c2)
  · refine ro_may_more f neg s x (blen s : Int) (fP f) (fP f + 2) o w (box (fun w => wlen_is s _ hs rfl w)) (box (fun w hT => kprec f hf w hT)) (decide_eq_false c1) (decide_eq_false c2) (wrap_i64_is _ (by omega) (by omega)) ?_ hT
    rw [← ho, decide_eq_decide]
    constructor
    · exact fun h => ⟨by omega, by omega, fun _ => by omega⟩
    · exact fun h => by have := h.2.2 rfl; omega
theorem kPack_is (f m : Int) (hf : Is4 f) (hm : 0 ≤ m ∧ m ≤ 4) (neg : Bool) (s : Nat) (hs : s < Q) (s0 : s ≠ 0) (x : Int) (more : Bool) (h1 : -1048576 ≤ x) (h2 : x ≤ 1048576) (hmore : more = true → pV f + 3 ≤ blen s) (M : Nat) (fl : Int) (hd : dlv f m neg (x + (blen s : Int) - 1) (qW (pV f + 1) s) (qM (pV f + 1) s more) = (M, fl)) (u v : Nat) (hv : bv7 M = (u, v)) (w : World) (hT : FAt w) :
    Calls Tryz.prog 30 #[.int .u8 f, .int .u8 m, .agg (rg neg s x more)] w fun r w' => r = .returned (.tuple #[.agg #[.int .u64 (u : Nat), .int .u64 (v : Nat)], .int .u8 fl, .int .i64 0]) ∧ Below w.heap.size w w' := by
  have f4 := is4_ok hf
  have hp := fp8 hf
  obtain ⟨n1, n2, n3, n4, n5, n6⟩ := nm8 hf
  have KC : Box (∀ w, Calls Tryz.prog 79 #[.int .u8 f, .int .u8 m] w fun r w' => r = .returned (.int .i64 0) ∧ Below w.heap.size w w') := box (fun w => kocheck f m f4.1 f4.2.1 0 (if_pos ⟨is4_le hf, hm.2⟩) w)
  have KM : Box (∀ w, FAt w → Calls Tryz.prog 80 #[.int .u8 f, .agg (rg neg s x more)] w fun r w' => r = .returned (.bool true) ∧ Below w.heap.size w w') := box (fun w hT => komay f hf neg s hs x more true (decide_eq_true ⟨h1, h2, hmore⟩) w hT)
  obtain ⟨t, t0, tQ, bt, qt, mt, KJ⟩ : ∃ t, t ≠ 0 ∧ t < Q ∧ blen t = blen s ∧ qW (pV f + 1) t = qW (pV f + 1) s ∧ qM (pV f + 1) t false = qM (pV f + 1) s more ∧ Box (∀ w, Calls Tryz.prog 81 #[.agg (rg neg s x more)] w fun r w' => r = .returned (.agg (rg neg t x false)) ∧ Below w.heap.size w w') := by
    cases more
    · exact ⟨s, s0, hs, rfl, rfl, rfl, box (fun w => ro_jam_no neg s x w)⟩
    · obtain ⟨j1, j2, j3, j4⟩ := q_jam (pV f + 1) s (by have := hmore rfl; omega)
      obtain ⟨o1, o2⟩ := or_low s (s / 2 * 2 + 1) rfl
      refine ⟨s / 2 * 2 + 1, by omega, ?_, j1, j2, by rw [j3, j4], box (fun w => ro_jam_yes neg s _ x w ?_ (box o2))⟩
      · obtain ⟨L, hL, eQ⟩ := Qq384
        rw [eQ]
        have := blen_lt (s / 2 * 2 + 1)
        have b2 := blen_le_of s L (by rw [← eQ]; exact hs)
        rw [j1] at this
        exact Nat.lt_of_lt_of_le this (Nat.pow_le_pow_right (show 0 < 2 by decide) b2)
      · rw [o1]
        have := bits_or_u64_nat (wd s 0) 1 (wd_lt s 0) (by decide)
        rw [jor1] at this
        exact this
  obtain ⟨Z, hZ, eQ⟩ := Qq384
  have bQ : blen t ≤ Z := blen_le_of t Z (by rw [← eQ]; exact tQ)
  rw [← bt, ← qt, ← mt] at hd
  clear hmore bt qt mt
  obtain ⟨T, hT0⟩ : ∃ T, x + (blen t : Int) - 1 = T := ⟨_, rfl⟩
  rw [hT0] at hd
  obtain ⟨W, hW⟩ : ∃ W, qW (pV f + 1) t = W := ⟨_, rfl⟩
  obtain ⟨mo, hmo⟩ : ∃ mo, qM (pV f + 1) t false = mo := ⟨_, rfl⟩
  have wok : Wok f W := by rw [← hW]; exact q_ok t t0
  rw [hW, hmo] at hd
  obtain ⟨K, hK⟩ : ∃ K, rG m neg W (dK f T) mo = K := ⟨_, rfl⟩
  have lim := rG_lim wok m neg (dK f T) mo
  rw [hK] at lim
  obtain ⟨q1, q2, q3⟩ := r1_lt hf lim.1
  have sx := st_lx hf T
  have jk1 := jk (f := f) T
  have stl : stE f T = max T (1 - fE f) := rfl
  unfold dlv at hd
  rw [hK] at hd
  refine ro_pack f m neg s t x more T (1 - fE f) (stE f T - fP f + 1) (stE f T - fP f + 1 + (blen K : Int) - 1) (fE f) fl K (!(rH W (dK f T) || rM W (dK f T) mo)) _ (tnB f m neg T W mo) u v w (eq_false s0) hs KC KM KJ
    (box (fun w => kotop neg t tQ x false (by omega) (by omega) _ hT0 w)) (box (fun w hT => k_emin f hf w hT)) (box (fun w hT => kostep f hf _ (by omega) (by omega) _ (by rw [stl]) w hT))
    (box (fun w => kgrid f m hf hm neg t t0 tQ x _ false (dK f T) (by omega) (by omega) (by unfold dK; omega) (by unfold dK; omega) K (by rw [hW, hmo]; exact hK) _ (by rw [hW, hmo]) w))
    (box (fun w => kotop neg K q1 _ false (by omega) (by omega) _ rfl w)) (box (fun w hT => kemax f hf w hT)) (box (fun o w hT => ?_)) (box (fun o w hT => ?_)) (box (fun w hT => kotiny f m hf hm neg t t0 tQ x false (by omega) (by omega) _ (by rw [hT0, hW, hmo]) w hT)) rfl ?_ hT
  · rw [decide_eq_true_iff] at o
    rw [if_pos (by omega)] at hd
    injection hd with d1 d2
    rw [← d1] at hv
    exact kover f m hf hm neg u v hv w hT
  · rw [decide_eq_false_iff_not] at o
    rw [if_neg (by omega)] at hd
    injection hd with d1 d2
    rw [← d1] at hv
    refine kenc f hf neg (dJ f T) K _ sx lim.1 ?_ (by omega) u v hv w hT
    rcases jk1 with h | h
    · exact Or.inl h.1
    · exact Or.inr (lim.2.1 h.1)
  · by_cases c : fE f < stE f T - fP f + (blen K : Int)
    · rw [if_pos c] at hd
      injection hd with d1 d2
      rw [decide_eq_true (show fE f < stE f T - fP f + 1 + (blen K : Int) - 1 by omega), if_pos rfl]
      exact d2
    · rw [if_neg c] at hd
      injection hd with d1 d2
      rw [decide_eq_false (show ¬ fE f < stE f T - fP f + 1 + (blen K : Int) - 1 by omega), if_neg (by decide), ← d2]
      cases (rH W (dK f T) || rM W (dK f T) mo) <;> rfl
theorem kPack_zero (f m : Int) (hf : Is4 f) (hm : 0 ≤ m ∧ m ≤ 4) (neg : Bool) (x : Int) (h1 : -1048576 ≤ x) (h2 : x ≤ 1048576) (u v : Nat) (hv : bv7 (eZero f neg) = (u, v)) (w : World) (hT : FAt w) :
    Calls Tryz.prog 30 #[.int .u8 f, .int .u8 m, .agg (rg neg 0 x false)] w fun r w' => r = .returned (.tuple #[.agg #[.int .u64 (u : Nat), .int .u64 (v : Nat)], .int .u8 0, .int .i64 0]) ∧ Below w.heap.size w w' := by
  have f4 := is4_ok hf
  exact ro_pack_zero f m neg x false u v w (box (fun w => kocheck f m f4.1 f4.2.1 0 (if_pos ⟨is4_le hf, hm.2⟩) w)) (box (fun w hT => komay f hf neg 0 Q_pos x false true (decide_eq_true ⟨h1, h2, fun h => Bool.noConfusion h⟩) w hT)) (box (fun w hT => sk_zero f neg hf u v hv w hT)) hT
theorem kPack_no (f m : Int) (h0 : 0 ≤ f) (h1 : f ≤ 255) (neg : Bool) (s : Nat) (hs : s < Q) (x : Int) (more : Bool) (h : ¬ (f ≤ 3 ∧ m ≤ 4 ∧ -1048576 ≤ x ∧ x ≤ 1048576 ∧ (more = true → pV f + 3 ≤ blen s))) (w : World) (hT : FAt w) :
    Calls Tryz.prog 30 #[.int .u8 f, .int .u8 m, .agg (rg neg s x more)] w fun r w' => r = .returned (.tuple #[.agg #[.int .u64 0, .int .u64 0], .int .u8 0, .int .i64 2]) ∧ Below w.heap.size w w' := by
  by_cases c : f ≤ 3 ∧ m ≤ 4
  · exact ro_pack_b f m neg s x more w (box (fun w => kocheck f m h0 h1 0 (if_pos c) w)) (box (fun w hT => komay f (is4_of h0 c.1) neg s hs x more false (decide_eq_false (fun q => h ⟨c.1, c.2, q⟩)) w hT)) hT
  · exact ro_pack_a f m neg s x more 2 (by decide) w (box (fun w => kocheck f m h0 h1 2 (if_neg c) w))
end Go.Proofs.YtfmmeifipbpbmaaGreatDoor
namespace Go.Proofs.YtfmmeifipbpbmaaGreatDoor
set_option maxRecDepth 100000
open Go.RowKit WMath XMath
set_option linter.unusedSimpArgs false
set_option linter.unusedVariables false

theorem rOmay (f : Int) (hf : Is4 f) (neg : Bool) (s : Nat) (hs : s < Q) (x : Int) (more : Bool) (o : Bool) (ho : decide (-1048576 ≤ x ∧ x ≤ 1048576 ∧ (more = true → pV f + 3 ≤ blen s)) = o) (w : World) : Calls Tryz.prog 33 #[.int .u8 f, .agg (rg neg s x more)] w fun r w' => r = .returned (.bool o) ∧ Below w.heap.size w w' := by
  have hp := fp8 hf
  obtain ⟨n1, n2, n3, n4, n5, n6⟩ := nm8 hf
  by_cases c1 : -1048576 ≤ x
  · by_cases c2 : x ≤ 1048576
    · cases more
      · rw [decide_eq_true ⟨c1, c2, fun h => Bool.noConfusion h⟩] at ho
        subst ho
        exact rh_may_no f neg s x w (decide_eq_true c1) (decide_eq_true c2)
      · refine rh_may_more f neg s x (blen s : Int) (fP f) (fP f + 2) o w (box (fun w => rwlen_any s hs w)) (box (fun w => bel_same (r_precision f _ (is4_ok hf).1 rfl w))) (decide_eq_true c1) (decide_eq_true c2) (wrap_i64_is _ (by omega) (by omega)) ?_
        rw [← ho, decide_eq_decide]
        constructor
        · exact fun h => ⟨c1, c2, fun _ => by omega⟩
        · exact fun h => by have := h.2.2 rfl; omega
    · rw [decide_eq_false (by omega)] at ho
      subst ho
      exact rh_may_hi f neg s x more w (decide_eq_true c1) (decide_eq_false c2)
  · rw [decide_eq_false (by omega)] at ho
    subst ho
    exact rh_may_lo f neg s x more w (decide_eq_false c1)
theorem mk_half (neg : Bool) (s : Nat) (y : Int) (h1 : -1000000 ≤ y) (h2 : y ≤ 1000000) : mk neg (2 * s + 1) 2 y = mk neg (2 * s + 1) 1 (y - 1) := by
  have o : (2 * s + 1) % 2 = 1 := by omega
  have t2 : tz 2 = 1 := by decide +kernel
  have o2 : od 2 = 1 := by decide +kernel
  have t1 : tz 1 = 0 := by decide +kernel
  have o1 : od 1 = 1 := by decide +kernel
  unfold mk
  have n0 : ¬ (2 * s + 1 = 0) := by omega
  rw [t2, o2, t1, o1, tz_odd _ o, od_odd _ o, if_neg n0, if_neg n0, if_pos (by omega), if_pos (by omega)]
  congr 2
  omega
theorem nb2 : nbA 2 = ⟨#[2]⟩ := by decide +kernel
theorem lg_fit (x : Nat) (h : nl x ≤ 16384) : lg x = (nbA x, 0) := by unfold lg; rw [if_pos h]
theorem rOval (f : Int) (hf : Is4 f) (neg : Bool) (s : Nat) (hs : s < Q) (s0 : s ≠ 0) (y : Int) (more : Bool) (h1 : -20000 ≤ y) (h2 : y ≤ 20000) (hmore : more = true → pV f + 3 ≤ blen s) :
    ∃ (n : Nat) (e : Int) (a : ByteArray), Box (∀ w, Calls Tryz.prog 91 #[.agg (rg neg s y more)] w fun r w' => r = .returned (.tuple #[.agg #[.bool neg, .string a, .string ⟨#[1]⟩, .int .i64 e], .bool true]) ∧ Below w.heap.size w w') ∧ nbA n = a ∧ (XN.mk neg n 1 e).can ∧ n ≠ 0 ∧ nl n ≤ 8192 ∧ topX ⟨neg, n, 1, e⟩ = y + (blen s : Int) - 1 ∧ xW f ⟨neg, n, 1, e⟩ = qW (pV f + 1) s ∧ xM f ⟨neg, n, 1, e⟩ = qM (pV f + 1) s more := by
  obtain ⟨Z, hZ, eQ⟩ := Qq384
  have bQ : blen s ≤ Z := blen_le_of s Z (by rw [← eQ]; exact hs)
  obtain ⟨ns, hns⟩ : ∃ ns, nbA s = ns := ⟨_, rfl⟩
  have K1 : Box (∀ w, Calls Tryz.prog 35 #[.agg (cw 6 s)] w fun r w' => r = .returned (.string ns) ∧ Below w.heap.size w w') := box (fun w => nat_OfWide s ns hs hns w)
  have ls : nl s ≤ 16384 := by unfold nl; omega
  cases more
  · obtain ⟨x1, x2, x3, x4, x5, x6, x7⟩ := x_whole hf neg s y s0 (by omega) (by omega) (by omega)
    exact ⟨od s, _, _, box (fun w => rh_value_no neg s y ns neg _ _ _ w K1 (box (fun w => rmake_ok neg s 1 y ns _ neg (od s) 1 _ 0 _ _ hns nb1 ls nl_1 (by decide) (by omega) (by omega) x1 rfl nb1 w))), rfl, x2, x3, x4, x5, x6, x7⟩
  · have bm := blen_more s 1 1 s0 (by decide)
    rw [Nat.pow_one, Nat.mul_comm s 2] at bm
    obtain ⟨q1, q2⟩ := q_half (pV f + 1) s (by have := hmore rfl; omega)
    obtain ⟨x1, x2, x3, x4, x5, x6, x7⟩ := x_whole hf neg (2 * s + 1) (y - 1) (by omega) (by omega) (by omega) (by omega)
    have l2 : nl (2 * s + 1) ≤ 16384 := by unfold nl; omega
    have ld : nl (2 * s) ≤ 16384 := Nat.le_trans (nl_mono (2 * s) (2 * s + 1) (by omega)) l2
    have hl : lf s 1 = (nbA (2 * s), 0) := by
      unfold lf
      rw [if_neg (by decide), show (1 : Int).toNat = 1 from rfl, Nat.pow_one, Nat.mul_comm, lg_fit _ ld]
    refine ⟨od (2 * s + 1), _, _, box (fun w => rh_value_more neg s y ns (nbA (2 * s)) (nbA (2 * s + 1)) 0 0 neg _ _ _ w K1 (box (fun w => nat_Left s 1 ns _ 0 hns ls (by decide) hl w)) (box (fun w => nat_Add (2 * s) 1 _ _ _ 0 rfl nb1 (lg_fit _ l2) (by omega) (by have := nl_1; omega) w)) (box (fun w => rmake_ok neg (2 * s + 1) 2 y _ _ neg (od (2 * s + 1)) 1 _ 0 _ _ rfl nb2 l2 (by decide +kernel) (by decide) (by omega) (by omega) ((mk_half neg s y (by omega) (by omega)).trans x1) rfl nb1 w))), rfl, x2, x3, x4, by rw [x5, bm]; omega, by rw [x6, q1], by rw [x7, q2, qM_true (pV f + 1) s true, Bool.or_true]⟩
theorem rnd_of (f m : Int) (x : XN) (n0 : x.n ≠ 0) : rnd f m x = dlv f m x.b (topX x) (xW f x) (xM f x) := by unfold rnd; rw [if_neg n0]
theorem rOpack_is (f m : Int) (hf : Is4 f) (hm : 0 ≤ m ∧ m ≤ 4) (neg : Bool) (s : Nat) (hs : s < Q) (s0 : s ≠ 0) (x : Int) (more : Bool) (h1 : -1048576 ≤ x) (h2 : x ≤ 1048576) (hmore : more = true → pV f + 3 ≤ blen s) (M : Nat) (fl : Int) (hd : dlv f m neg (x + (blen s : Int) - 1) (qW (pV f + 1) s) (qM (pV f + 1) s more) = (M, fl)) (u v : Nat) (hv : bv7 M = (u, v)) (w : World) :
    Calls Tryz.prog 31 #[.int .u8 f, .int .u8 m, .agg (rg neg s x more)] w fun r w' => r = .returned (.tuple #[.agg #[.int .u64 (u : Nat), .int .u64 (v : Nat)], .int .u8 fl, .int .i64 0]) ∧ Below w.heap.size w w' := by
  have hp := fp8 hf
  obtain ⟨n1, n2, n3, n4, n5, n6⟩ := nm8 hf
  obtain ⟨l1, l2, l3⟩ := blen_low s s0
  obtain ⟨Z, hZ, eQ⟩ := Qq384
  have bQ : blen s ≤ Z := blen_le_of s Z (by rw [← eQ]; exact hs)
  have KR : Box (∀ w, Calls Tryz.prog 14 #[.int .u8 f] w fun r w' => r = .returned (.bool true) ∧ Below w.heap.size w w') := box (fun w => bel_same (r_right f _ (decide_eq_true (is4_le hf)) w))
  have KM : Box (∀ w, Calls Tryz.prog 19 #[.int .u8 m] w fun r w' => r = .returned (.bool true) ∧ Below w.heap.size w w') := box (fun w => bel_same (r_mode m _ (decide_eq_true hm.2) w))
  have KY : Box (∀ w, Calls Tryz.prog 33 #[.int .u8 f, .agg (rg neg s x more)] w fun r w' => r = .returned (.bool true) ∧ Below w.heap.size w w') := box (fun w => rOmay f hf neg s hs x more true (decide_eq_true ⟨h1, h2, hmore⟩) w)
  have wok := q_ok (f := f) s s0
  have main : ∀ y, -20000 ≤ y → y ≤ 20000 → dlv f m neg (y + (blen s : Int) - 1) (qW (pV f + 1) s) (qM (pV f + 1) s more) = (M, fl) → ∃ (a : ByteArray) (e : Int), Box (∀ w, Calls Tryz.prog 91 #[.agg (rg neg s y more)] w fun r w' => r = .returned (.tuple #[.agg #[.bool neg, .string a, .string ⟨#[1]⟩, .int .i64 e], .bool true]) ∧ Below w.heap.size w w') ∧ Box (∀ w, Calls Tryz.prog 92 #[.int .u8 f, .int .u8 m, .agg #[.bool neg, .string a, .string ⟨#[1]⟩, .int .i64 e]] w fun r w' => r = .returned (.tuple #[.agg #[.int .u64 (u : Nat), .int .u64 (v : Nat)], .int .u8 fl, .int .i64 0]) ∧ Below w.heap.size w w') := by
    intro y y1 y2 hy
    obtain ⟨n, e, a, KV, ha, hc, n0, ln, ht, hw, hM⟩ := rOval f hf neg s hs s0 y more y1 y2 hmore
    refine ⟨a, e, KV, box (fun w => rRound_is f m hf hm neg n 1 a _ e ha nb1 hc ln (Nat.le_trans (nl_le_of 1 1 (by decide)) (by decide)) M fl ?_ u v hv w)⟩
    rw [rnd_of f m _ n0, ht, hw, hM]
    exact hy
  by_cases c1 : 20000 < x
  · rw [dlv_over hf wok m neg _ _ (by omega)] at hd
    obtain ⟨a, e, KV, KD⟩ := main 20000 (by decide) (by decide) (by rw [dlv_over hf wok m neg _ _ (by omega)]; exact hd)
    exact rh_pack_hi f m neg s x more neg a _ e fl u v w (eq_false s0) hs Q_pos (decide_eq_true c1) KR KM KY KV KD
  · by_cases c2 : x < -20000
    · rw [dlv_low hf wok m neg _ _ (by omega)] at hd
      obtain ⟨a, e, KV, KD⟩ := main (-20000) (by decide) (by decide) (by rw [dlv_low hf wok m neg _ _ (by omega)]; exact hd)
      exact rh_pack_lo f m neg s x more neg a _ e fl u v w (eq_false s0) hs Q_pos (decide_eq_false c1) (decide_eq_true c2) KR KM KY KV KD
    · obtain ⟨a, e, KV, KD⟩ := main x (by omega) (by omega) hd
      exact rh_pack_mid f m neg s x more neg a _ e fl u v w (eq_false s0) hs Q_pos (decide_eq_false c1) (decide_eq_false c2) KR KM KY KV KD
theorem rOpack_no (f m : Int) (h0 : 0 ≤ f) (m0 : 0 ≤ m) (neg : Bool) (s : Nat) (hs : s < Q) (x : Int) (more : Bool) (h : ¬ (f ≤ 3 ∧ m ≤ 4 ∧ -1048576 ≤ x ∧ x ≤ 1048576 ∧ (more = true → pV f + 3 ≤ blen s))) (w : World) :
    Calls Tryz.prog 31 #[.int .u8 f, .int .u8 m, .agg (rg neg s x more)] w fun r w' => r = .returned (.tuple #[.agg #[.int .u64 0, .int .u64 0], .int .u8 0, .int .i64 2]) ∧ Below w.heap.size w w' := by
  have KR : Box (∀ w, Calls Tryz.prog 14 #[.int .u8 f] w fun r w' => r = .returned (.bool (decide (f ≤ 3))) ∧ Below w.heap.size w w') := box (fun w => bel_same (r_right f _ rfl w))
  have KM : Box (∀ w, Calls Tryz.prog 19 #[.int .u8 m] w fun r w' => r = .returned (.bool (decide (m ≤ 4))) ∧ Below w.heap.size w w') := box (fun w => bel_same (r_mode m _ rfl w))
  by_cases c1 : f ≤ 3
  · rw [decide_eq_true c1] at KR
    by_cases c2 : m ≤ 4
    · rw [decide_eq_true c2] at KM
      exact rh_pack_c f m neg s x more w KR KM (box (fun w => rOmay f (is4_of h0 c1) neg s hs x more false (decide_eq_false (fun q => h ⟨c1, c2, q⟩)) w))
    · rw [decide_eq_false c2] at KM
      exact rh_pack_b f m neg s x more w KR KM
  · rw [decide_eq_false c1] at KR
    exact rh_pack_a f m neg s x more w KR
theorem rOpack_zero (f m : Int) (hf : Is4 f) (hm : 0 ≤ m ∧ m ≤ 4) (neg : Bool) (x : Int) (h1 : -1048576 ≤ x) (h2 : x ≤ 1048576) (u v : Nat) (hv : bv7 (eZero f neg) = (u, v)) (w : World) :
    Calls Tryz.prog 31 #[.int .u8 f, .int .u8 m, .agg (rg neg 0 x false)] w fun r w' => r = .returned (.tuple #[.agg #[.int .u64 (u : Nat), .int .u64 (v : Nat)], .int .u8 0, .int .i64 0]) ∧ Below w.heap.size w w' :=
  rh_pack_zero f m neg 0 x false u v w (eq_true rfl) Q_pos Q_pos (box (fun w => bel_same (r_right f _ (decide_eq_true (is4_le hf)) w))) (box (fun w => bel_same (r_mode m _ (decide_eq_true hm.2) w))) (box (fun w => rOmay f hf neg 0 Q_pos x false true (decide_eq_true ⟨h1, h2, fun h => Bool.noConfusion h⟩) w)) (box (fun w => by
    have := r_zero f neg hf _ rfl w
    rw [hv] at this
    exact this))
theorem both_pack (f m : Int) (h0 : 0 ≤ f) (h1 : f ≤ 255) (m0 : 0 ≤ m) (neg : Bool) (s : Nat) (hs : s < Q) (x : Int) (more : Bool) : ∃ (u v : Nat) (fl c : Int), Box (∀ w, FAt w → Calls Tryz.prog 30 #[.int .u8 f, .int .u8 m, .agg (rg neg s x more)] w fun r w' => r = .returned (.tuple #[.agg #[.int .u64 (u : Nat), .int .u64 (v : Nat)], .int .u8 fl, .int .i64 c]) ∧ Below w.heap.size w w') ∧ Box (∀ w, Calls Tryz.prog 31 #[.int .u8 f, .int .u8 m, .agg (rg neg s x more)] w fun r w' => r = .returned (.tuple #[.agg #[.int .u64 (u : Nat), .int .u64 (v : Nat)], .int .u8 fl, .int .i64 c]) ∧ Below w.heap.size w w') ∧ IntKind.i64.wrap c = c := by
  by_cases h : f ≤ 3 ∧ m ≤ 4 ∧ -1048576 ≤ x ∧ x ≤ 1048576 ∧ (more = true → pV f + 3 ≤ blen s)
  · obtain ⟨c1, c2, c3, c4, c5⟩ := h
    have hf := is4_of h0 c1
    by_cases s0 : s = 0
    · subst s0
      cases more
      · obtain ⟨u, v, hv⟩ : ∃ u v, bv7 (eZero f neg) = (u, v) := ⟨_, _, rfl⟩
        exact ⟨u, v, 0, 0, box (fun w hT => kPack_zero f m hf ⟨m0, c2⟩ neg x c3 c4 u v hv w hT), box (fun w => rOpack_zero f m hf ⟨m0, c2⟩ neg x c3 c4 u v hv w), by decide⟩
      · have := c5 rfl
        rw [blen_zero] at this
        omega
    · obtain ⟨M, fl, hd⟩ : ∃ M fl, dlv f m neg (x + (blen s : Int) - 1) (qW (pV f + 1) s) (qM (pV f + 1) s more) = (M, fl) := ⟨_, _, rfl⟩
      obtain ⟨u, v, hv⟩ : ∃ u v, bv7 M = (u, v) := ⟨_, _, rfl⟩
      exact ⟨u, v, fl, 0, box (fun w hT => kPack_is f m hf ⟨m0, c2⟩ neg s hs s0 x more c3 c4 c5 M fl hd u v hv w hT), box (fun w => rOpack_is f m hf ⟨m0, c2⟩ neg s hs s0 x more c3 c4 c5 M fl hd u v hv w), by decide⟩
  · exact ⟨0, 0, 0, 2, box (fun w hT => kPack_no f m h0 h1 neg s hs x more h w hT), box (fun w => rOpack_no f m h0 m0 neg s hs x more h w), by decide⟩
end Go.Proofs.YtfmmeifipbpbmaaGreatDoor
namespace Go.Proofs.YtfmmeifipbpbmaaGreatDoor
set_option maxRecDepth 100000
open Go.RowKit WMath
set_option linter.unusedSimpArgs false
set_option linter.unusedVariables false

theorem al_dlv : dlv 2 0 false (0 + (blen 4095 : Int) - 1) (qW (pV 2 + 1) 4095) (qM (pV 2 + 1) 4095 false) = (27648, 1) := by decide +kernel
theorem al_bl : ¬ (pV 2 + 3 ≤ blen 4095) := by decide +kernel
theorem al_rg (more : Bool) : #[Value.bool false, .int .u64 4095, .int .u64 0, .int .u64 0, .int .u64 0, .int .u64 0, .int .u64 0, .int .i64 0, .bool more] = rg false 4095 0 more := by
  unfold rg
  rw [show wd 4095 0 = 4095 by decide +kernel, show wd 4095 1 = 0 by decide +kernel, show wd 4095 2 = 0 by decide +kernel, show wd 4095 3 = 0 by decide +kernel, show wd 4095 4 = 0 by decide +kernel, show wd 4095 5 = 0 by decide +kernel]
  rfl
theorem al_set : ((((((rg false 4095 0 false).setIfInBounds 2 (.int .u64 0)).setIfInBounds 3 (.int .u64 0)).setIfInBounds 4 (.int .u64 0)).setIfInBounds 5 (.int .u64 0)).setIfInBounds 6 (.int .u64 0)) = rg false 4095 0 false := by
  unfold rg
  rw [show wd 4095 1 = 0 by decide +kernel, show wd 4095 2 = 0 by decide +kernel, show wd 4095 3 = 0 by decide +kernel, show wd 4095 4 = 0 by decide +kernel, show wd 4095 5 = 0 by decide +kernel]
  rfl
set_option maxRecDepth 100000 in
set_option maxHeartbeats 4000000 in
theorem r10alive (w : World) (hT : FAt w) : Calls Tryz.prog 32 #[] w fun r w' => r = .returned (.bool true) ∧ Below w.heap.size w w' := by
  have FF := box hT
  have q9 : 4095 < Q := lt_Q7 (by decide)
  have K1 : Box (∀ w, FAt w → Calls Tryz.prog 30 #[.int .u8 2, .int .u8 0, .agg (rg false 4095 0 false)] w fun r w' => r = .returned (.tuple #[.agg #[.int .u64 0, .int .u64 27648], .int .u8 1, .int .i64 0]) ∧ Below w.heap.size w w') := box (fun w hT => kPack_is 2 0 (by unfold Is4; omega) (by decide) false 4095 q9 (by decide) 0 false (by decide) (by decide) (fun h => Bool.noConfusion h) _ _ al_dlv 0 27648 rfl w hT)
  have K2 : Box (∀ w, FAt w → Calls Tryz.prog 30 #[.int .u8 2, .int .u8 3, .agg (rg false 4095 0 true)] w fun r w' => r = .returned (.tuple #[.agg #[.int .u64 0, .int .u64 0], .int .u8 0, .int .i64 2]) ∧ Below w.heap.size w w') := box (fun w hT => kPack_no 2 3 (by decide) (by decide) false 4095 q9 0 true (fun q => al_bl (q.2.2.2.2 rfl)) w hT)
  clear hT q9
  have hal := al_rg
  have has := al_set
  have hs8 := rg_set8
  have B0 : Below w.heap.size w w := (Below.refl _ _)
  go_enter Tryz.func32, Tryz.ntmps32
  go_wp2_with fail
  refine (K1.out _ (fatB FF.out B0)).mono ?_
  rintro r w1 ⟨rfl, b1⟩
  have B1 : Below w.heap.size w w1 := btr B0 b1
  clear b1 B0 
  have S2 := box B1.size
  have Rb_2 := heap_alloc_last w1 (Obj.cells #[.int .u64 0, .int .u64 27648] 25)
  have B2 := btr B1 (bal w1 (Obj.cells #[.int .u64 0, .int .u64 27648] 25))
  clear B1 
  obtain ⟨cb_2_0, cb_2_1⟩ := cells2s Rb_2
  go_wp2_with fail
  refine (K2.out _ (fatB FF.out B2)).mono ?_
  rintro r w3 ⟨rfl, b3⟩
  have B3 : Below w.heap.size w w3 := btr B2 b3
  have Rb_3 := heap_of b3 _ _ _ Rb_2
  clear b3 B2 Rb_2 cb_2_0 cb_2_1
  obtain ⟨cb_3_0, cb_3_1⟩ := cells2s Rb_3
  have S4 := box B3.size
  have Lb_4 : Box (w1.heap.size < w3.heap.size) := box (Array.getElem?_eq_some_iff.1 Rb_3).1
  have Rc_4 := heap_alloc_last w3 (Obj.cells #[.int .u64 0, .int .u64 0] 25)
  have B4 := btr B3 (bal w3 (Obj.cells #[.int .u64 0, .int .u64 0] 25))
  have Rb_4 := heap_of (bal w3 (Obj.cells #[.int .u64 0, .int .u64 0] 25)) _ _ _ Rb_3
  clear B3 Rb_3 cb_3_0 cb_3_1
  obtain ⟨cb_4_0, cb_4_1⟩ := cells2s Rb_4
  obtain ⟨cc_4_0, cc_4_1⟩ := cells2s Rc_4
  go_wp2
  go_ret
  exact ⟨rfl, B4⟩
end Go.Proofs.YtfmmeifipbpbmaaGreatDoor
namespace Go.Proofs.YtfmmeifipbpbmaaGreatDoor
set_option maxRecDepth 100000
open WMath
open Go.ChangeShapes Go.WideShapes Go.ChangeAt Go.RowKit

def dRg (H : Type) (c : Bool) (s : Nat) (x : Int) (r : Bool) : DataW H := .agg [.lit (.bool c), dW H s, .lit (.int .i64 x), .lit (.bool r)]

theorem trod_st4r {H : Type} {enc : TypeId × Value → H} {P : Program} {w : World} {base : Nat} {spare : Nat → Bool} {held : Bool} {t : TypeId} {f0 f1 f2 f3 : Field} {fuel : Nat} {cs : List Value} {x : DataW H × List MemPlace} (ht : P.underlying t = some (.struct #[f0, f1, f2, f3])) (h : DataW.trod enc P w base spare held fuel t cs = some x) :
    ∃ y0 y1 y2 y3 n, x = (.agg [y0.1, y1.1, y2.1, y3.1], y0.2 ++ (y1.2 ++ (y2.2 ++ y3.2))) ∧ DataW.trod enc P w base spare held n f0.type ((cs.drop f0.offset).take (P.cellsOf f0.type)) = some y0 ∧
      DataW.trod enc P w base spare held n f1.type ((cs.drop f1.offset).take (P.cellsOf f1.type)) = some y1 ∧ DataW.trod enc P w base spare held n f2.type ((cs.drop f2.offset).take (P.cellsOf f2.type)) = some y2 ∧
      DataW.trod enc P w base spare held n f3.type ((cs.drop f3.offset).take (P.cellsOf f3.type)) = some y3 := by
  obtain ⟨xs, n, _, rfl, hl, hlen, hf⟩ := DataW.trod_struct ht h
  match xs, hlen with
  | [y0, y1, y2, y3], _ => exact ⟨y0, y1, y2, y3, n, by simp, by simpa using hf 0 f0 rfl, by simpa using hf 1 f1 rfl, by simpa using hf 2 f2 rfl, by simpa using hf 3 f3 rfl⟩
theorem list9 {α : Type} (l : List α) (h : (⟨l⟩ : Array α).size = 9) : ∃ a0 a1 a2 a3 a4 a5 a6 a7 a8, l = [a0, a1, a2, a3, a4, a5, a6, a7, a8] := by
  match l, h with
  | [a0, a1, a2, a3, a4, a5, a6, a7, a8], _ => exact ⟨a0, a1, a2, a3, a4, a5, a6, a7, a8, rfl⟩
theorem rd6r {H : Type} {enc : TypeId × Value → H} {w : World} {base : Nat} {spare : Nat → Bool} {held : Bool} {fuel : Nat} {c0 c1 c2 c3 c4 c5 : Value} {x : DataW H × List MemPlace}
    (h : DataW.trod enc Tryz.prog w base spare held fuel 62 [c0, c1, c2, c3, c4, c5] = some x) : ∃ n, n < Q ∧ c0 = .int .u64 (wd n 0 : Nat) ∧ c1 = .int .u64 (wd n 1 : Nat) ∧ c2 = .int .u64 (wd n 2 : Nat) ∧ c3 = .int .u64 (wd n 3 : Nat) ∧ c4 = .int .u64 (wd n 4 : Nat) ∧ c5 = .int .u64 (wd n 5 : Nat) ∧ x = (dW H n, []) := by
  obtain ⟨y, m, hx, h0, h1, h2, h3, h4, h5⟩ := trod6 h
  obtain ⟨x0, e0, g0, w0⟩ := DataW.trod_int Tryz.underlying23 h0
  obtain ⟨x1, e1, g1, w1⟩ := DataW.trod_int Tryz.underlying23 h1
  obtain ⟨x2, e2, g2, w2⟩ := DataW.trod_int Tryz.underlying23 h2
  obtain ⟨x3, e3, g3, w3⟩ := DataW.trod_int Tryz.underlying23 h3
  obtain ⟨x4, e4, g4, w4⟩ := DataW.trod_int Tryz.underlying23 h4
  obtain ⟨x5, e5, g5, w5⟩ := DataW.trod_int Tryz.underlying23 h5
  simp at e0 e1 e2 e3 e4 e5
  subst e0 e1 e2 e3 e4 e5
  obtain ⟨a0, b0, rfl⟩ := nat_u64 w0
  obtain ⟨a1, b1, rfl⟩ := nat_u64 w1
  obtain ⟨a2, b2, rfl⟩ := nat_u64 w2
  obtain ⟨a3, b3, rfl⟩ := nat_u64 w3
  obtain ⟨a4, b4, rfl⟩ := nat_u64 w4
  obtain ⟨a5, b5, rfl⟩ := nat_u64 w5
  obtain ⟨n, hn, he⟩ := w6 a0 a1 a2 a3 a4 a5 b0 b1 b2 b3 b4 b5
  rw [cw6] at he
  simp only [Array.mk.injEq, List.cons.injEq, Value.int.injEq, true_and, and_true] at he
  obtain ⟨i0, i1, i2, i3, i4, i5⟩ := he
  refine ⟨n, hn, by rw [i0], by rw [i1], by rw [i2], by rw [i3], by rw [i4], by rw [i5], ?_⟩
  rw [hx, g0, g1, g2, g3, g4, g5]
  unfold dW
  rw [i0, i1, i2, i3, i4, i5]
  rfl
set_option maxRecDepth 100000 in
theorem open_rough {H : Type} {enc : TypeId × Value → H} {w : World} {base b : Nat} {spare : Nat → Bool} {held : Bool} {v : Value} {d : DataW H} {p : List MemPlace}
    (hok : Value.okWide Tryz.prog w .any base 64 v) (h : DataW.Trod enc Tryz.prog w b spare held 64 v d p) : ∃ (c : Bool) (s : Nat) (x : Int) (r : Bool), v = .agg (rg c s x r) ∧ d = dRg H c s x r ∧ p = [] ∧ (s < Q ∧ (Lit.int .i64 x).wf = true) := by
  have hc : Tryz.prog.cellsOf 64 = 9 := by kernel_rfl
  have h1 : Tryz.prog.cellsOf 4 = 1 := by kernel_rfl
  have h2 : Tryz.prog.cellsOf 62 = 6 := by kernel_rfl
  have h3 : Tryz.prog.cellsOf 3 = 1 := by kernel_rfl
  obtain ⟨cs, rfl, hsz⟩ := okWide_struct Tryz.underlying64 hok
  rw [hc] at hsz
  obtain ⟨l⟩ := cs
  obtain ⟨c0, c1, c2, c3, c4, c5, c6, c7, c8, rfl⟩ := list9 l hsz
  obtain ⟨fuel, hf⟩ := h
  obtain ⟨y0, y1, y2, y3, n, hx, g0, g1, g2, g3⟩ := trod_st4r Tryz.underlying64 hf
  simp only [h1, h2, h3] at g0 g1 g2 g3
  simp [Value.cells] at g0 g1 g2 g3
  obtain ⟨x0, e0, k0⟩ := DataW.trod_bool Tryz.underlying4 g0
  obtain ⟨s, ls, a0, a1, a2, a3, a4, a5, k1⟩ := rd6r g1
  obtain ⟨x2, e2, k2, w2⟩ := DataW.trod_int Tryz.underlying3 g2
  obtain ⟨x3, e3, k3⟩ := DataW.trod_bool Tryz.underlying4 g3
  simp at e0 e2 e3
  subst e0 e2 e3 a0 a1 a2 a3 a4 a5
  simp only [Prod.mk.injEq] at hx
  refine ⟨x0, s, x2, x3, rfl, ?_, ?_, ls, w2⟩
  · rw [hx.1, k0, k1, k2, k3]; rfl
  · rw [hx.2, k0, k1, k2, k3]; rfl
set_option maxRecDepth 100000 in
theorem shut_rough {H : Type} {enc : TypeId × Value → H} {w : World} {b : Nat} {spare : Nat → Bool} {held : Bool} {c : Bool} {s : Nat} {x : Int} {r : Bool} (h : s < Q ∧ (Lit.int .i64 x).wf = true) : DataW.Trod enc Tryz.prog w b spare held 64 (.agg (rg c s x r)) (dRg H c s x r) [] := by
  have hc : Tryz.prog.cellsOf 64 = 9 := by kernel_rfl
  have h1 : Tryz.prog.cellsOf 4 = 1 := by kernel_rfl
  have h2 : Tryz.prog.cellsOf 62 = 6 := by kernel_rfl
  have h3 : Tryz.prog.cellsOf 3 = 1 := by kernel_rfl
  have hce : Tryz.prog.cellsOf 23 = 1 := by kernel_rfl
  have k : ∀ n i, (Lit.int .u64 ((wd n i : Nat) : Int)).wf = true := fun n i => u64_nat _ (wd_lt n i)
  have k2 := h.2
  refine ⟨3, ?_⟩
  simp [DataW.trod, Value.cells, rg, Tryz.underlying64, Tryz.underlying4, Tryz.underlying3, Tryz.underlying62, Tryz.underlying23, hc, h1, h2, h3, hce, k, k2, show List.range 6 = [0, 1, 2, 3, 4, 5] from rfl, dW, dRg]
end Go.Proofs.YtfmmeifipbpbmaaGreatDoor
namespace Go.Proofs.YtfmmeifipbpbmaaGreatDoor
set_option maxRecDepth 100000
open WMath
open Go.ChangeShapes Go.WideShapes Go.ChangeAt Go.RowKit

theorem trod_row4 {H : Type} {enc : TypeId × Value → H} {P : Program} {w : World} {base : Nat} {spare : Nat → Bool} {held : Bool} {t : TypeId} {f0 f1 f2 f3 : Field} {fuel : Nat} {cs : List Value} {x : DataW H × List MemPlace} (ht : P.underlying t = some (.struct #[f0, f1, f2, f3])) (h : DataW.trod enc P w base spare held fuel t cs = some x) :
    ∃ y0 y1 y2 y3 n, x = (.agg [y0.1, y1.1, y2.1, y3.1], y0.2 ++ (y1.2 ++ (y2.2 ++ y3.2))) ∧ DataW.trod enc P w base spare held n f0.type ((cs.drop f0.offset).take (P.cellsOf f0.type)) = some y0 ∧
      DataW.trod enc P w base spare held n f1.type ((cs.drop f1.offset).take (P.cellsOf f1.type)) = some y1 ∧ DataW.trod enc P w base spare held n f2.type ((cs.drop f2.offset).take (P.cellsOf f2.type)) = some y2 ∧
      DataW.trod enc P w base spare held n f3.type ((cs.drop f3.offset).take (P.cellsOf f3.type)) = some y3 := by
  obtain ⟨xs, n, _, rfl, hl, hlen, hf⟩ := DataW.trod_struct ht h
  match xs, hlen with
  | [y0, y1, y2, y3], _ => exact ⟨y0, y1, y2, y3, n, by simp, by simpa using hf 0 f0 rfl, by simpa using hf 1 f1 rfl, by simpa using hf 2 f2 rfl, by simpa using hf 3 f3 rfl⟩


theorem list4' {α : Type} (l : List α) (h : l.length = 4) : ∃ a b c d, l = [a, b, c, d] := by
  match l, h with
  | [a, b, c, d], _ => exact ⟨a, b, c, d, rfl⟩

theorem row_read {w : World} {fuel : Nat} {enc : TypeId × Value → Unit} {base : Nat} {spare : Nat → Bool} {held : Bool} {l : List Value} {a b c : Int} {s : List UInt8} {p : List MemPlace}
    (h : DataW.trod enc Tryz.prog w base spare held fuel 205 l = some (.agg [.lit (.int .i64 a), .lit (.int .i64 b), .lit (.int .i64 c), .lit (.string s)], p)) (hl : l.length = 4) :
    l = [.int .i64 a, .int .i64 b, .int .i64 c, .string ⟨⟨s⟩⟩] := by
  have h3 : Tryz.prog.cellsOf 3 = 1 := by kernel_rfl
  have h9 : Tryz.prog.cellsOf 9 = 1 := by kernel_rfl
  obtain ⟨c0, c1, c2, c3, rfl⟩ := list4' l hl
  obtain ⟨y0, y1, y2, y3, n, hx, g0, g1, g2, g3⟩ := trod_row4 Tryz.underlying205 h
  simp only [h3, h9] at g0 g1 g2 g3
  obtain ⟨x0, e0, k0, w0⟩ := DataW.trod_int Tryz.underlying3 g0
  obtain ⟨x1, e1, k1, w1⟩ := DataW.trod_int Tryz.underlying3 g1
  obtain ⟨x2, e2, k2, w2⟩ := DataW.trod_int Tryz.underlying3 g2
  obtain ⟨x3, e3, k3, w3⟩ := DataW.trod_string Tryz.underlying9 g3
  simp at e0 e1 e2 e3
  subst e0 e1 e2 e3
  rw [k0, k1, k2, k3] at hx
  simp at hx
  obtain ⟨⟨rfl, rfl, rfl, rfl⟩, _⟩ := hx
  rfl

def laid7 : List (String × DataW Unit) := [("abacus/shape.formats", Rows.laid_abacus_shape_formats)]
theorem gTab7 : Tryz.prog.globalNamed "abacus/shape.formats" = some 0 := by kernel_rfl
theorem gType7 : (Tryz.prog.globals[0]?).map (·.type) = some 259 := by kernel_rfl

theorem of_laid7 {W : World} (h : laidMetH Tryz.prog laid7 W) : FAt W := by
  have hce : Tryz.prog.cellsOf 205 = 4 := by kernel_rfl
  have hct : Tryz.prog.cellsOf 259 = 16 := by kernel_rfl
  rw [MakeChecks.laidMetH_plain _ _ _ (by kernel_rfl)] at h
  obtain ⟨ps, ⟨g', t', cs, fuel, p, q, hg', ht', hvar, hd, _, _⟩, _⟩ := h
  obtain rfl := Option.some.inj (gTab7.symm.trans hg')
  obtain rfl := Option.some.inj (gType7.symm.trans ht')
  obtain ⟨xs, m, rfl, hx, hl, hxl, hel⟩ := DataW.trod_array Tryz.underlying259 hd
  rw [hce] at hel
  rw [hct] at hl
  have hl2 : cs.size = 16 := by simpa using hl
  match xs, hxl with
  | [y0, y1, y2, y3], _ =>
    have hx1 := congrArg Prod.fst hx
    simp [Rows.laid_abacus_shape_formats] at hx1
    obtain ⟨h0, h1, h2, h3⟩ := hx1
    have q0 := hel 0 (by decide)
    have q1 := hel 1 (by decide)
    have q2 := hel 2 (by decide)
    have q3 := hel 3 (by decide)
    simp only [List.getElem?_cons_zero, List.getElem?_cons_succ] at q0 q1 q2 q3
    have z0 := row_read (p := y0.2) (by rw [q0, h0]) (by simp; omega)
    have z1 := row_read (p := y1.2) (by rw [q1, h1]) (by simp; omega)
    have z2 := row_read (p := y2.2) (by rw [q2, h2]) (by simp; omega)
    have z3 := row_read (p := y3.2) (by rw [q3, h3]) (by simp; omega)
    have hcs : ∀ i, i < 16 → cs.toList[i]? = fcells[i]? := by
      intro i hi
      have e0 : cs.toList[i]? = (cs.toList.drop (i / 4 * 4))[i % 4]? := by rw [List.getElem?_drop]; congr 1; omega
      have e1 : (cs.toList.drop (i / 4 * 4))[i % 4]? = ((cs.toList.drop (i / 4 * 4)).take 4)[i % 4]? := by rw [List.getElem?_take, if_pos (by omega)]
      rw [e0, e1]
      have : i / 4 = 0 ∨ i / 4 = 1 ∨ i / 4 = 2 ∨ i / 4 = 3 := by omega
      have hj : i % 4 = 0 ∨ i % 4 = 1 ∨ i % 4 = 2 ∨ i % 4 = 3 := by omega
      have hi2 : i = i / 4 * 4 + i % 4 := by omega
      rcases this with e | e | e | e <;> rw [e] at hi2 ⊢ <;> rcases hj with k | k | k | k <;> rw [k] at hi2 ⊢ <;> subst hi2 <;> first | (rw [z0]; rfl) | (rw [z1]; rfl) | (rw [z2]; rfl) | (rw [z3]; rfl)
    intro i hi
    rw [World.var?_cell gTab7 hvar i, ← hcs i hi]
    simp

theorem door_met7 (os : Os) (args : Array Value) : laidMetH Tryz.prog laid7 ((World.doorLaid Tryz.prog 400 os).forCall (fun _ _ => 0) ⟨#[], args, []⟩).memory :=
  laidMetH_of_parts3 (fuel := 8) (laidMet_of_run' 8 (by kernel_rfl) (by kernel_rfl)) (by kernel_rfl) (by kernel_rfl)
end Go.Proofs.YtfmmeifipbpbmaaGreatDoor
