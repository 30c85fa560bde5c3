/-
  What the functions that the statement reaches return: part 9 (X9, X10, FrameX, X11).
-/
import Derived.Lib.MinMax
import Derived.ChangeMaps5
import Derived.OpenShut
import Derived.Test.YtkblmpmkchkpjaaGreatDoorNe08
namespace Go.Proofs.YtkblmpmkchkpjaaGreatDoor
set_option maxRecDepth 100000
set_option maxHeartbeats 40000000
open Go.RowKit WMath XMath
theorem cmpv_neg (a b : Nat) : xY a b < 0 ↔ a < b := by
 unfold xY
 split
 ·
  exact ⟨fun h => absurd h (by decide), fun h => by omega⟩
 ·
  split
  ·
   exact ⟨fun _ => by assumption, fun _ => by decide⟩
  ·
   exact ⟨fun h => absurd h (by decide), fun h => by omega⟩
theorem lf_up (a : Nat) (k : Nat) (v : ByteArray) (h : nl (a * 2 ^ k) ≤ 16384) (hv : yG (a * 2 ^ k) = v) : lf a (k : Int) = (v, 0) := by
 unfold lf
 rw [if_neg (by omega), Int.toNat_natCast]
 exact lg_ok _ v h hv
theorem nl_blen (a b : Nat) (h : z7 a = z7 b) (hb : nl b ≤ 16384) : nl a ≤ 16384 := by unfold nl at hb ⊢; rw [h]; exact hb
theorem tAB_nl (x : XN) (n0 : x.n ≠ 0) (d0 : x.d ≠ 0) (ln : nl x.n ≤ 16384) (ld : nl x.d ≤ 16384) : nl (tA x) ≤ 16384 ∧ nl (tB x) ≤ 16384 := by
 obtain ⟨h1, _, _⟩ := tA_len x n0 d0
 by_cases h : 0 ≤ q8 x
 ·
  have e : tA x = x.n := by unfold tA; rw [show (max (-q8 x) 0).toNat = 0 by omega, Nat.pow_zero, Nat.mul_one]
  have k : nl (tA x) ≤ 16384 := by rw [e]; exact ln
  exact ⟨k, nl_blen _ _ h1.symm k⟩
 ·
  have e : tB x = x.d := by unfold tB; rw [show (max (q8 x) 0).toNat = 0 by omega, Nat.pow_zero, Nat.mul_one]
  have k : nl (tB x) ≤ 16384 := by rw [e]; exact ld
  exact ⟨nl_blen _ _ h1 k, k⟩

theorem topx (b : Bool) (n d : Nat) (e : Int) (s t : ByteArray) (T : Int) (hs : yG n = s) (ht : yG d = t) (n0 : n ≠ 0) (d0 : d ≠ 0) (ln : nl n ≤ 16384) (ld : nl d ≤ 16384) (he : -1048576 ≤ e ∧ e ≤ 1048576) (hr : yI (XN.mk b n d e) = T) (w : World) :
  Calls Tryz.prog 256 #[.agg #[.bool b, .string s, .string t, .int .i64 e]] w fun r w' => r = .returned (.int .i64 T) ∧ Below w.heap.size w w' := by
 obtain ⟨l1, l2⟩ := tAB_nl (XN.mk b n d e) n0 d0 ln ld
 obtain ⟨x, hx⟩ : ∃ x, z7 n = x := ⟨_, rfl⟩
 obtain ⟨y, hy⟩ : ∃ x, z7 d = x := ⟨_, rfl⟩
 have x2 : x ≤ 131072 := by unfold nl at ln; omega
 have y2 : y ≤ 131072 := by unfold nl at ld; omega
 obtain ⟨k, hk⟩ : ∃ k, (x : Int) - (y : Int) = k := ⟨_, rfl⟩
 have hlen : q8 (XN.mk b n d e) = k := by unfold q8; show (z7 n : Int) - (z7 d : Int) = k; rw [hx, hy, hk]
 obtain ⟨i, hi⟩ : ∃ i, (max (-k) 0).toNat = i := ⟨_, rfl⟩
 obtain ⟨j, hj⟩ : ∃ i, (max k 0).toNat = i := ⟨_, rfl⟩
 have eA : tA (XN.mk b n d e) = n * 2 ^ i := by unfold tA; rw [hlen, hi]
 have eB : tB (XN.mk b n d e) = d * 2 ^ j := by unfold tB; rw [hlen, hj]
 rw [eA] at l1
 rw [eB] at l2
 obtain ⟨p, hp⟩ : ∃ p, yG (n * 2 ^ i) = p := ⟨_, rfl⟩
 obtain ⟨q, hq⟩ : ∃ p, yG (d * 2 ^ j) = p := ⟨_, rfl⟩
 have F1 := zH (lf_up n i p l1 hp)
 have F2 := zH (lf_up d j q l2 hq)
 obtain ⟨c, hc⟩ : ∃ c, xY (n * 2 ^ i) (d * 2 ^ j) = c := ⟨_, rfl⟩
 have hlt : decide (c < 0) = decide (n * 2 ^ i < d * 2 ^ j) := by rw [← hc, Bool.eq_iff_iff, decide_eq_true_iff, decide_eq_true_iff]; exact cmpv_neg _ _
 have hT2 : T = (if n * 2 ^ i < d * 2 ^ j then k - 1 else k) + e := by rw [← hr]; unfold yI; rw [eA, eB, hlen]
 have HS := zH hs
 have HT := zH ht
 have LN := zH ln
 have LD := zH ld
 have HX := zH hx
 have HY := zH hy
 have HP := zH hp
 have HQ := zH hq
 have L1 := zH l1
 have L2 := zH l2
 have HC := zH hc
 have n1 : IntKind.i64.wrap ((x : Int) - (y : Int)) = k := by rw [zK _ (by omega) (by omega), hk]
 have n2 : IntKind.i64.wrap (-k) = -k := zK _ (by omega) (by omega)
 have n3 : max (-k) 0 = (i : Int) := by omega
 have n4 : max k 0 = (j : Int) := by omega
 have n5 : IntKind.i64.wrap (k - 1) = k - 1 := zK _ (by omega) (by omega)
 have n6 : IntKind.i64.wrap (k - 1 + e) = k - 1 + e := zK _ (by omega) (by omega)
 have n7 : IntKind.i64.wrap (k + e) = k + e := zK _ (by omega) (by omega)
 have i2 : i ≤ 131072 := by omega
 have j2 : j ≤ 131072 := by omega
 by_cases hl : n * 2 ^ i < d * 2 ^ j
 ·
  rw [if_pos hl] at hT2
  rw [decide_eq_true hl] at hlt
  subst hT2
  clear hs ht ln ld hx hy hk hlen hi hj eA eB l1 l2 hp hq hc hl hr he n0 d0
  obtain ⟨Aa, B0⟩ := yO w (Obj.cells #[.bool b, .string s, .string t, .int .i64 e] 41)
  go_enter Tryz.func256, Tryz.ntmps256
  go_wp2_with fail
  obtain ⟨F, hF1, hF2⟩ := zQ (w.alloc (Obj.cells #[.bool b, .string s, .string t, .int .i64 e] 41))
  have fx_0 := fun u => zE (zA (hF1 u) _ _ _ Aa) 0 _ rfl
  have fx_1 := fun u => zE (zA (hF1 u) _ _ _ Aa) 1 _ rfl
  have fx_2 := fun u => zE (zA (hF1 u) _ _ _ Aa) 2 _ rfl
  have fx_3 := fun u => zE (zA (hF1 u) _ _ _ Aa) 3 _ rfl
  refine zI F hF2 (by kernel_rfl) (by kernel_rfl) ?_
  repeat first | go_big_quiet_step (first | (go_at_call_of 202 (Value.string s); exact zJ hF1 hF2 (y7 n x s HS.out LN.out HX.out _)) | (go_at_call_of 202 (Value.string t); exact zJ hF1 hF2 (y7 d y t HT.out LD.out HY.out _)) | fail) | quiet_step (first | (go_at_call_of 202 (Value.string s); exact zJ hF1 hF2 (y7 n x s HS.out LN.out HX.out _)) | (go_at_call_of 202 (Value.string t); exact zJ hF1 hF2 (y7 d y t HT.out LD.out HY.out _)) | fail)
  refine wpQuiet_nil ?_
  rintro _ ⟨uW, rfl⟩
  have B1 := zO B0 (hF1 uW)
  have Ab := zA (hF1 uW) _ _ _ Aa
  obtain ⟨w1, hw⟩ : ∃ V, F uW = V := ⟨_, rfl⟩
  rw [hw] at B1 Ab
  try rw [hw]
  clear hw hF1 hF2 B0 fx_0 fx_1 fx_2 fx_3 Aa
  clear F
  obtain ⟨Ae, Af, Ag, Ah⟩ := zC Ab
  go_wp2_with fail
  refine (xS n (i : Int) s p 0 HS.out LN.out (by omega) (by omega) F1.out _).mono ?_
  rintro r w2 ⟨rfl, b2⟩
  have B2 := zO B1 b2
  have Ac := zA b2 _ _ _ Ab
  clear b2 B1 Ab Ae Af Ag Ah
  obtain ⟨Ai, Aj, Ak, Al⟩ := zC Ac
  go_wp2_with fail
  refine (xS d (j : Int) t q 0 HT.out LD.out (by omega) (by omega) F2.out _).mono ?_
  rintro r w3 ⟨rfl, b3⟩
  have B3 := zO B2 b3
  have Ad := zA b3 _ _ _ Ac
  clear b3 B2 Ac Ai Aj Ak Al
  obtain ⟨Am, An, Ao, Ap⟩ := zC Ad
  go_wp2_with fail
  refine (pn_cmp_ok (n * 2 ^ i) (d * 2 ^ j) p q c HP.out HQ.out L1.out L2.out HC.out _).mono ?_
  rintro r w4 ⟨rfl, b4⟩
  have B4 := zO B3 b4
  have Aq := zA b4 _ _ _ Ad
  clear b4 B3 Ad Am An Ao Ap
  obtain ⟨Ar, As, At, Au⟩ := zC Aq
  go_wp2
  go_ret
  exact ⟨rfl, B4⟩
 ·
  rw [if_neg hl] at hT2
  rw [decide_eq_false hl] at hlt
  subst hT2
  clear hs ht ln ld hx hy hk hlen hi hj eA eB l1 l2 hp hq hc hl hr he n0 d0
  obtain ⟨Aa, B0⟩ := yO w (Obj.cells #[.bool b, .string s, .string t, .int .i64 e] 41)
  go_enter Tryz.func256, Tryz.ntmps256
  go_wp2_with fail
  obtain ⟨F, hF1, hF2⟩ := zQ (w.alloc (Obj.cells #[.bool b, .string s, .string t, .int .i64 e] 41))
  have fx_0 := fun u => zE (zA (hF1 u) _ _ _ Aa) 0 _ rfl
  have fx_1 := fun u => zE (zA (hF1 u) _ _ _ Aa) 1 _ rfl
  have fx_2 := fun u => zE (zA (hF1 u) _ _ _ Aa) 2 _ rfl
  have fx_3 := fun u => zE (zA (hF1 u) _ _ _ Aa) 3 _ rfl
  refine zI F hF2 (by kernel_rfl) (by kernel_rfl) ?_
  repeat first | go_big_quiet_step (first | (go_at_call_of 202 (Value.string s); exact zJ hF1 hF2 (y7 n x s HS.out LN.out HX.out _)) | (go_at_call_of 202 (Value.string t); exact zJ hF1 hF2 (y7 d y t HT.out LD.out HY.out _)) | fail) | quiet_step (first | (go_at_call_of 202 (Value.string s); exact zJ hF1 hF2 (y7 n x s HS.out LN.out HX.out _)) | (go_at_call_of 202 (Value.string t); exact zJ hF1 hF2 (y7 d y t HT.out LD.out HY.out _)) | fail)
  refine wpQuiet_nil ?_
  rintro _ ⟨uW, rfl⟩
  have B1 := zO B0 (hF1 uW)
  have Ab := zA (hF1 uW) _ _ _ Aa
  obtain ⟨w1, hw⟩ : ∃ V, F uW = V := ⟨_, rfl⟩
  rw [hw] at B1 Ab
  try rw [hw]
  clear hw hF1 hF2 B0 fx_0 fx_1 fx_2 fx_3 Aa
  clear F
  obtain ⟨Ae, Af, Ag, Ah⟩ := zC Ab
  go_wp2_with fail
  refine (xS n (i : Int) s p 0 HS.out LN.out (by omega) (by omega) F1.out _).mono ?_
  rintro r w2 ⟨rfl, b2⟩
  have B2 := zO B1 b2
  have Ac := zA b2 _ _ _ Ab
  clear b2 B1 Ab Ae Af Ag Ah
  obtain ⟨Ai, Aj, Ak, Al⟩ := zC Ac
  go_wp2_with fail
  refine (xS d (j : Int) t q 0 HT.out LD.out (by omega) (by omega) F2.out _).mono ?_
  rintro r w3 ⟨rfl, b3⟩
  have B3 := zO B2 b3
  have Ad := zA b3 _ _ _ Ac
  clear b3 B2 Ac Ai Aj Ak Al
  obtain ⟨Am, An, Ao, Ap⟩ := zC Ad
  go_wp2_with fail
  refine (pn_cmp_ok (n * 2 ^ i) (d * 2 ^ j) p q c HP.out HQ.out L1.out L2.out HC.out _).mono ?_
  rintro r w4 ⟨rfl, b4⟩
  have B4 := zO B3 b4
  have Aq := zA b4 _ _ _ Ad
  clear b4 B3 Ad Am An Ao Ap
  obtain ⟨Ar, As, At, Au⟩ := zC Aq
  go_wp2
  go_ret
  exact ⟨rfl, B4⟩

theorem Topx_ok (b : Bool) (n d : Nat) (e : Int) (s t : ByteArray) (T : Int) (hs : yG n = s) (ht : yG d = t) (n0 : n ≠ 0) (hc : (XN.mk b n d e).can) (hr : yI (XN.mk b n d e) = T) (w : World) (hT : zN w) :
  Calls Tryz.prog 206 #[.agg #[.bool b, .string s, .string t, .int .i64 e]] w fun r w' => r = .returned (.tuple #[.int .i64 T, .int .i64 0]) ∧ Below w.heap.size w w' := by
 have M1 := zH (qQ hs ht hc)
 have TT := zH hT
 have e0 := eq_nil n s hs n0
 have HF := zH (fun w => topx b n d e s t T hs ht n0 hc.d0 hc.1 hc.2.1 ⟨hc.2.2.1, hc.2.2.2.1⟩ hr w)
 clear hs ht n0 hc hr hT
 cases b
 ·
  obtain ⟨Ag, B0⟩ := yO w (Obj.cells #[.bool false, .string s, .string t, .int .i64 e] 41)
  go_enter Tryz.func206, Tryz.ntmps206
  go_wp2_with fail
  apply cut_same
  ·
   intro key
   go_region_with (first | (go_at_call 46; refine (xmay1d _ _ _ _ true M1.out _ (w.alloc (Obj.cells #[.bool false, .string s, .string t, .int .i64 e] 41)) _ (by simp only [zX]) (zV TT.out B0)).mono ?_; rintro r w1 ⟨rfl, b1⟩; have B1 : Below w.heap.size w w1 := zO B0 b1; have Ab := zA b1 _ _ _ Ag; have Ah := zE Ab 0 _ rfl; have Ai := zE Ab 1 _ rfl; have Aj := zE Ab 2 _ rfl; have Ak := zE Ab 3 _ rfl) | (go_at_call 111; refine (zZ _).mono ?_; rintro r w2 ⟨rfl, b2⟩; have B2 : Below w.heap.size w w2 := zO B1 b2; have Aa := zA b2 _ _ _ Ab; have Ac := zE Aa 0 _ rfl; have Ad := zE Aa 1 _ rfl; have Ae := zE Aa 2 _ rfl; have Af := zE Aa 3 _ rfl))
   all_goals
    clear Ac Ad Ae Af b2
    clear Ah Ai Aj Ak Ab b1 B1
    clear w1
    revert w2
    exact key
  intro w2 B2 Aa
  clear B0 Ag
  obtain ⟨Ac, Ad, Ae, Af⟩ := zC Aa
  go_wp2_with fail
  refine (HF.out _).mono ?_
  rintro r w3 ⟨rfl, b3⟩
  have B3 := zO B2 b3
  have Al := zA b3 _ _ _ Aa
  clear b3 B2 Aa Ac Ad Ae Af
  obtain ⟨Am, An, Ao, Ap⟩ := zC Al
  go_wp2
  go_ret2
  exact ⟨rfl, B3⟩
 ·
  obtain ⟨Ag, B0⟩ := yO w (Obj.cells #[.bool true, .string s, .string t, .int .i64 e] 41)
  go_enter Tryz.func206, Tryz.ntmps206
  go_wp2_with fail
  apply cut_same
  ·
   intro key
   go_region_with (first | (go_at_call 46; refine (xmay1d _ _ _ _ true M1.out _ (w.alloc (Obj.cells #[.bool true, .string s, .string t, .int .i64 e] 41)) _ (by simp only [zX]) (zV TT.out B0)).mono ?_; rintro r w1 ⟨rfl, b1⟩; have B1 : Below w.heap.size w w1 := zO B0 b1; have Ab := zA b1 _ _ _ Ag; have Ah := zE Ab 0 _ rfl; have Ai := zE Ab 1 _ rfl; have Aj := zE Ab 2 _ rfl; have Ak := zE Ab 3 _ rfl) | (go_at_call 111; refine (zZ _).mono ?_; rintro r w2 ⟨rfl, b2⟩; have B2 : Below w.heap.size w w2 := zO B1 b2; have Aa := zA b2 _ _ _ Ab; have Ac := zE Aa 0 _ rfl; have Ad := zE Aa 1 _ rfl; have Ae := zE Aa 2 _ rfl; have Af := zE Aa 3 _ rfl))
   all_goals
    clear Ac Ad Ae Af b2
    clear Ah Ai Aj Ak Ab b1 B1
    clear w1
    revert w2
    exact key
  intro w2 B2 Aa
  clear B0 Ag
  obtain ⟨Ac, Ad, Ae, Af⟩ := zC Aa
  go_wp2_with fail
  refine (HF.out _).mono ?_
  rintro r w3 ⟨rfl, b3⟩
  have B3 := zO B2 b3
  have Al := zA b3 _ _ _ Aa
  clear b3 B2 Aa Ac Ad Ae Af
  obtain ⟨Am, An, Ao, Ap⟩ := zC Al
  go_wp2
  go_ret2
  exact ⟨rfl, B3⟩
theorem Topx_null (w : World) (hT : zN w) : Calls Tryz.prog 206 #[.agg #[.bool false, .string ⟨#[]⟩, .string ⟨#[1]⟩, .int .i64 0]] w fun r w' => r = .returned (.tuple #[.int .i64 0, .int .i64 2]) ∧ Below w.heap.size w w' := by
 have M1 : zS (IsM true false ⟨#[]⟩ ⟨#[1]⟩ 0) := zH (qQ yM nb1 x0_can)
 have TT := zH hT
 clear hT
 obtain ⟨Ac, B0⟩ := yO w (Obj.cells #[.bool false, .string ⟨#[]⟩, .string ⟨#[1]⟩, .int .i64 0] 41)
 go_enter Tryz.func206, Tryz.ntmps206
 go_wp2_with fail
 apply cut_same
 ·
  intro key
  go_region_with (first | (go_at_call 46; refine (xmay1d _ _ _ _ true M1.out _ (w.alloc (Obj.cells #[.bool false, .string ⟨#[]⟩, .string ⟨#[1]⟩, .int .i64 0] 41)) _ (by simp only [zX]) (zV TT.out B0)).mono ?_; rintro r w1 ⟨rfl, b1⟩; have B1 : Below w.heap.size w w1 := zO B0 b1; have Aa := zA b1 _ _ _ Ac; have Ah := zE Aa 0 _ rfl; have Ai := zE Aa 1 _ rfl; have Aj := zE Aa 2 _ rfl; have Ak := zE Aa 3 _ rfl) | (go_at_call 111; refine (zZ _).mono ?_; rintro r w2 ⟨rfl, b2⟩; have B2 : Below w.heap.size w w2 := zO B1 b2; have Ab := zA b2 _ _ _ Aa; have Ad := zE Ab 0 _ rfl; have Ae := zE Ab 1 _ rfl; have Af := zE Ab 2 _ rfl; have Ag := zE Ab 3 _ rfl))
  all_goals
   clear Ad Ae Af Ag b2
   clear Ah Ai Aj Ak Aa b1 B1
   clear w1
   revert w2
   exact key
 intro w2 B2 Ab
 clear B0 Ac
 obtain ⟨Ad, Ae, Af, Ag⟩ := zC Ab
 go_wp2
 go_ret2
 exact ⟨rfl, B2⟩
theorem fl_small (x : XN) (e : Int) (hx : x.can) (n0 : x.n ≠ 0) (he : e ≤ x.e) (ht : yI x < e) : x.n * 2 ^ (x.e - e).toNat < x.d := by
 have d0 := hx.d0
 have k : x.mag * (x.d : Rat) = ((x.n * 2 ^ (x.e - e).toNat : Nat) : Rat) * (2 : Rat) ^ e := by
  have e1 : (2 : Rat) ^ x.e = (2 : Rat) ^ ((x.e - e).toNat : Int) * (2 : Rat) ^ e := by rw [← p2add]; congr 1; omega
  unfold XN.mag
  rw [Rat.natCast_mul, ← p2nat, e1]
  have z := cast_ne d0
  grind
 have t2 := (top_good x n0 d0).2
 have t3 := p2mono (yI x + 1) e (by omega)
 have up : x.mag < (2 : Rat) ^ e := by grind
 have m := (Rat.mul_lt_mul_right (cast_pos d0)).2 up
 rw [k, Rat.mul_comm ((2 : Rat) ^ e) (x.d : Rat), Rat.mul_lt_mul_right (p2 e), Rat.natCast_lt_natCast] at m
 exact m
theorem fl_top (x : XN) (e : Int) (hx : x.can) (n0 : x.n ≠ 0) (h1 : ¬ (e < -2097152 ∨ 2097152 < e)) (ht : yI x < e) : flX x e = ((0, false), 0) := by
 unfold flX
 rw [if_neg h1, if_neg n0]
 by_cases he : e ≤ x.e
 ·
  have hs := fl_small x e hx n0 he ht
  rw [if_pos he, if_pos (Nat.le_trans (xF _ _ (Nat.le_of_lt hs)) hx.2.1), Nat.div_eq_of_lt hs, Nat.mod_eq_of_lt hs, decide_eq_false (mul_ne n0 (Nat.pos_iff_ne_zero.1 (Nat.two_pow_pos _)))]
 ·
  rw [if_neg he, if_pos ht]

theorem floorBelowx (b : Bool) (n d : Nat) (e : Int) (s t : ByteArray) (k : Nat) (v : ByteArray) (hs : yG n = s) (ht : yG d = t) (ln : nl n ≤ 16384) (ld : nl d ≤ 16384) (d0 : d ≠ 0) (k2 : k ≤ 100000000) (hv : yG (n / (d * 2 ^ k)) = v) (w : World) (hT : zN w) :
  Calls Tryz.prog 257 #[.agg #[.bool b, .string s, .string t, .int .i64 e], .int .i64 (k : Int)] w fun r w' => r = .returned (.string v) ∧ Below w.heap.size w w' := by
 obtain ⟨p, hp⟩ : ∃ p, yG (n / 2 ^ (k : Int).toNat) = p := ⟨_, rfl⟩
 obtain ⟨o, ho⟩ : ∃ o, decide (n % 2 ^ (k : Int).toNat ≠ 0) = o := ⟨_, rfl⟩
 rw [Int.toNat_natCast] at hp ho
 have lp : nl (n / 2 ^ k) ≤ 16384 := Nat.le_trans (xF _ _ (Nat.div_le_self _ _)) ln
 obtain ⟨y, hy⟩ : ∃ y, yG (n / 2 ^ k % d) = y := ⟨_, rfl⟩
 have HV : zS (yG (n / 2 ^ k / d) = v) := zH (by rw [Nat.div_div_eq_div_mul, Nat.mul_comm (2 ^ k) d]; exact hv)
 have HS := zH hs
 have HT := zH ht
 have LN := zH ln
 have LD := zH ld
 have HP := zH hp
 have HP2 : zS (yG (n / 2 ^ (k : Int).toNat) = p) := zH (by rw [Int.toNat_natCast]; exact hp)
 have HO2 : zS (decide (n % 2 ^ (k : Int).toNat ≠ 0) = o) := zH (by rw [Int.toNat_natCast]; exact ho)
 have LP := zH lp
 have HY := zH hy
 have TT := zH hT
 clear hs ht ln ld hp ho lp hy hv hT
 obtain ⟨Ab, B0⟩ := yO w (Obj.cells #[.bool b, .string s, .string t, .int .i64 e] 41)
 go_enter Tryz.func257, Tryz.ntmps257
 go_wp2_with fail
 refine (pn_right_ok n (k : Int) s p o HS.out LN.out (by omega) (by omega) HP2.out HO2.out _ (zV TT.out B0)).mono ?_
 rintro r w1 ⟨rfl, b1⟩
 have B1 := zO B0 b1
 have Aa := zA b1 _ _ _ Ab
 clear b1 B0 Ab
 obtain ⟨Ac, Ad, Ae, Af⟩ := zC Aa
 go_wp2_with fail
 refine (pn_div_ok (n / 2 ^ k) d p t v y HP.out HT.out LP.out LD.out d0 HV.out HY.out _).mono ?_
 rintro r w2 ⟨rfl, b2⟩
 have B2 := zO B1 b2
 have Ag := zA b2 _ _ _ Aa
 clear b2 B1 Aa Ac Ad Ae Af
 obtain ⟨Ah, Ai, Aj, Ak⟩ := zC Ag
 go_wp2
 go_ret
 exact ⟨rfl, B2⟩

theorem Floorx_ok (b : Bool) (n d : Nat) (e : Int) (s t : ByteArray) (k : Int) (m : Nat) (is : Bool) (err : Int) (v : ByteArray) (hs : yG n = s) (ht : yG d = t) (hc : (XN.mk b n d e).can) (k1 : -9223372036854775808 ≤ k) (k2 : k ≤ 9223372036854775807)
  (hr : flX (XN.mk b n d e) k = ((m, is), err)) (hv : yG m = v) (w : World) (hT : zN w) : Calls Tryz.prog 207 #[.agg #[.bool b, .string s, .string t, .int .i64 e], .int .i64 k] w fun r w' => r = .returned (.tuple #[.string v, .bool is, .int .i64 err]) ∧ Below w.heap.size w w' := by
 have M1 := zH (qQ hs ht hc)
 have TT := zH hT
 by_cases hk : k < -2097152 ∨ 2097152 < k
 ·
  have HG : zS ((decide (-2097152 ≤ k) && decide (k ≤ 2097152)) = false) := zH (by
   rw [Bool.eq_false_iff]
   intro h
   have h2 : -2097152 ≤ k ∧ k ≤ 2097152 := by simpa using h
   omega)
  unfold flX at hr
  rw [if_pos hk] at hr
  cases hr
  rw [yM] at hv
  subst hv
  clear hs ht hc hT k1 k2 hk
  obtain ⟨Ad, B0⟩ := yO w (Obj.cells #[.bool b, .string s, .string t, .int .i64 e] 41)
  go_enter Tryz.func207, Tryz.ntmps207
  go_wp2_with fail
  refine (xmay1 _ _ _ _ true M1.out _ (w.alloc (Obj.cells #[.bool b, .string s, .string t, .int .i64 e] 41)) _ (by simp only [zX]) (zV TT.out B0)).mono ?_
  rintro r w1 ⟨rfl, b1⟩
  have B1 := zO B0 b1
  have Ac := zA b1 _ _ _ Ad
  clear b1 B0 Ad
  obtain ⟨Af, Ag, Ah, Ai⟩ := zC Ac
  go_wp2_with fail
  refine (yR k 2097152 false (by decide) (by decide) HG.out _).mono ?_
  rintro r w2 ⟨rfl, b2⟩
  have B2 := zO B1 b2
  have Aa := zA b2 _ _ _ Ac
  clear b2 B1 Ac Af Ag Ah Ai
  obtain ⟨Aj, Ak, Al, Am⟩ := zC Aa
  go_wp2
  go_ret3
  exact ⟨rfl, B2⟩
 have HG : zS ((decide (-2097152 ≤ k) && decide (k ≤ 2097152)) = true) := zH (by
  rw [decide_eq_true (show -2097152 ≤ k by omega), decide_eq_true (show k ≤ 2097152 by omega)]; rfl)
 rcases x_cases hs ht hc with ⟨n0, rfl, rfl, rfl, rfl, rfl⟩ | ⟨n0, e0⟩
 ·
  unfold flX at hr
  rw [if_neg hk, if_pos n0] at hr
  cases hr
  rw [yM] at hv
  subst hv
  clear hs ht hc hT k1 k2 hk n0
  obtain ⟨Ad, B0⟩ := yO w (Obj.cells #[.bool false, .string ⟨#[]⟩, .string ⟨#[1]⟩, .int .i64 0] 41)
  go_enter Tryz.func207, Tryz.ntmps207
  go_wp2_with fail
  refine (xmay1 _ _ _ _ true M1.out _ (w.alloc (Obj.cells #[.bool false, .string ⟨#[]⟩, .string ⟨#[1]⟩, .int .i64 0] 41)) _ (by simp only [zX]) (zV TT.out B0)).mono ?_
  rintro r w1 ⟨rfl, b1⟩
  have B1 := zO B0 b1
  have Ac := zA b1 _ _ _ Ad
  clear b1 B0 Ad
  obtain ⟨Af, Ag, Ah, Ai⟩ := zC Ac
  go_wp2_with fail
  refine (yR k 2097152 true (by decide) (by decide) HG.out _).mono ?_
  rintro r w2 ⟨rfl, b2⟩
  have B2 := zO B1 b2
  have Aa := zA b2 _ _ _ Ac
  clear b2 B1 Ac Af Ag Ah Ai
  obtain ⟨Aj, Ak, Al, Am⟩ := zC Aa
  go_wp2_with fail
  obtain ⟨F, hF1, hF2⟩ := zQ w2
  have fx_0 := fun u => zE (zA (hF1 u) _ _ _ Aa) 0 _ rfl
  have fx_1 := fun u => zE (zA (hF1 u) _ _ _ Aa) 1 _ rfl
  have fx_2 := fun u => zE (zA (hF1 u) _ _ _ Aa) 2 _ rfl
  have fx_3 := fun u => zE (zA (hF1 u) _ _ _ Aa) 3 _ rfl
  refine zI F hF2 (by kernel_rfl) (by kernel_rfl) ?_
  repeat first | go_big_quiet_step (first | (go_at_call 111; exact zJ hF1 hF2 (zZ _)) | fail) | quiet_step (first | (go_at_call 111; exact zJ hF1 hF2 (zZ _)) | fail)
  refine wpQuiet_nil ?_
  rintro _ ⟨uW, rfl⟩
  have B3 := zO B2 (hF1 uW)
  have Ab := zA (hF1 uW) _ _ _ Aa
  obtain ⟨w3, hw⟩ : ∃ V, F uW = V := ⟨_, rfl⟩
  rw [hw] at B3 Ab
  try rw [hw]
  clear hw hF1 hF2 B2 fx_0 fx_1 fx_2 fx_3 Aa Aj Ak Al Am
  clear F
  obtain ⟨An, Ao, Ap, Aq⟩ := zC Ab
  go_wp2
  go_ret3
  exact ⟨rfl, B3⟩
 obtain ⟨T, hTop⟩ : ∃ T, yI (XN.mk b n d e) = T := ⟨_, rfl⟩
 have HF := zH (fun w => topx b n d e s t T hs ht n0 hc.d0 hc.1 hc.2.1 ⟨hc.2.2.1, hc.2.2.2.1⟩ hTop w)
 have he : -1048576 ≤ e ∧ e ≤ 1048576 := ⟨hc.2.2.1, hc.2.2.2.1⟩
 by_cases ht2 : T < k
 ·
  rw [fl_top _ k hc n0 hk (by rw [hTop]; exact ht2)] at hr
  cases hr
  rw [yM] at hv
  subst hv
  have d1 : decide (T < k) = true := decide_eq_true ht2
  clear hs ht hc hT k1 k2 hk n0 hTop ht2 he
  cases b
  ·
   obtain ⟨Ad, B0⟩ := yO w (Obj.cells #[.bool false, .string s, .string t, .int .i64 e] 41)
   go_enter Tryz.func207, Tryz.ntmps207
   go_wp2_with fail
   refine (xmay1 _ _ _ _ true M1.out _ (w.alloc (Obj.cells #[.bool false, .string s, .string t, .int .i64 e] 41)) _ (by simp only [zX]) (zV TT.out B0)).mono ?_
   rintro r w1 ⟨rfl, b1⟩
   have B1 := zO B0 b1
   have Ac := zA b1 _ _ _ Ad
   clear b1 B0 Ad
   obtain ⟨Af, Ag, Ah, Ai⟩ := zC Ac
   go_wp2_with fail
   refine (yR k 2097152 true (by decide) (by decide) HG.out _).mono ?_
   rintro r w2 ⟨rfl, b2⟩
   have B2 := zO B1 b2
   have Aa := zA b2 _ _ _ Ac
   clear b2 B1 Ac Af Ag Ah Ai
   obtain ⟨Aj, Ak, Al, Am⟩ := zC Aa
   go_wp2_with fail
   obtain ⟨F, hF1, hF2⟩ := zQ w2
   have fx_0 := fun u => zE (zA (hF1 u) _ _ _ Aa) 0 _ rfl
   have fx_1 := fun u => zE (zA (hF1 u) _ _ _ Aa) 1 _ rfl
   have fx_2 := fun u => zE (zA (hF1 u) _ _ _ Aa) 2 _ rfl
   have fx_3 := fun u => zE (zA (hF1 u) _ _ _ Aa) 3 _ rfl
   refine zI F hF2 (by kernel_rfl) (by kernel_rfl) ?_
   repeat first | go_big_quiet_step (first | (go_at_call 111; exact zJ hF1 hF2 (zZ _)) | fail) | quiet_step (first | (go_at_call 111; exact zJ hF1 hF2 (zZ _)) | fail)
   refine wpQuiet_nil ?_
   rintro _ ⟨uW, rfl⟩
   have B3 := zO B2 (hF1 uW)
   have Ab := zA (hF1 uW) _ _ _ Aa
   obtain ⟨w3, hw⟩ : ∃ V, F uW = V := ⟨_, rfl⟩
   rw [hw] at B3 Ab
   try rw [hw]
   clear hw hF1 hF2 B2 fx_0 fx_1 fx_2 fx_3 Aa Aj Ak Al Am
   clear F
   obtain ⟨An, Ao, Ap, Aq⟩ := zC Ab
   go_wp2_with fail
   refine (HF.out _).mono ?_
   rintro r w4 ⟨rfl, b4⟩
   have B4 := zO B3 b4
   have Ae := zA b4 _ _ _ Ab
   clear b4 B3 Ab An Ao Ap Aq
   obtain ⟨As, At, Au, Av⟩ := zC Ae
   go_wp2
   go_ret3
   exact ⟨rfl, B4⟩
  ·
   obtain ⟨Ad, B0⟩ := yO w (Obj.cells #[.bool true, .string s, .string t, .int .i64 e] 41)
   go_enter Tryz.func207, Tryz.ntmps207
   go_wp2_with fail
   refine (xmay1 _ _ _ _ true M1.out _ (w.alloc (Obj.cells #[.bool true, .string s, .string t, .int .i64 e] 41)) _ (by simp only [zX]) (zV TT.out B0)).mono ?_
   rintro r w1 ⟨rfl, b1⟩
   have B1 := zO B0 b1
   have Ac := zA b1 _ _ _ Ad
   clear b1 B0 Ad
   obtain ⟨Af, Ag, Ah, Ai⟩ := zC Ac
   go_wp2_with fail
   refine (yR k 2097152 true (by decide) (by decide) HG.out _).mono ?_
   rintro r w2 ⟨rfl, b2⟩
   have B2 := zO B1 b2
   have Aa := zA b2 _ _ _ Ac
   clear b2 B1 Ac Af Ag Ah Ai
   obtain ⟨Aj, Ak, Al, Am⟩ := zC Aa
   go_wp2_with fail
   obtain ⟨F, hF1, hF2⟩ := zQ w2
   have fx_0 := fun u => zE (zA (hF1 u) _ _ _ Aa) 0 _ rfl
   have fx_1 := fun u => zE (zA (hF1 u) _ _ _ Aa) 1 _ rfl
   have fx_2 := fun u => zE (zA (hF1 u) _ _ _ Aa) 2 _ rfl
   have fx_3 := fun u => zE (zA (hF1 u) _ _ _ Aa) 3 _ rfl
   refine zI F hF2 (by kernel_rfl) (by kernel_rfl) ?_
   repeat first | go_big_quiet_step (first | (go_at_call 111; exact zJ hF1 hF2 (zZ _)) | fail) | quiet_step (first | (go_at_call 111; exact zJ hF1 hF2 (zZ _)) | fail)
   refine wpQuiet_nil ?_
   rintro _ ⟨uW, rfl⟩
   have B3 := zO B2 (hF1 uW)
   have Ab := zA (hF1 uW) _ _ _ Aa
   obtain ⟨w3, hw⟩ : ∃ V, F uW = V := ⟨_, rfl⟩
   rw [hw] at B3 Ab
   try rw [hw]
   clear hw hF1 hF2 B2 fx_0 fx_1 fx_2 fx_3 Aa Aj Ak Al Am
   clear F
   obtain ⟨An, Ao, Ap, Aq⟩ := zC Ab
   go_wp2_with fail
   refine (HF.out _).mono ?_
   rintro r w4 ⟨rfl, b4⟩
   have B4 := zO B3 b4
   have Ae := zA b4 _ _ _ Ab
   clear b4 B3 Ab An Ao Ap Aq
   obtain ⟨As, At, Au, Av⟩ := zC Ae
   go_wp2
   go_ret3
   exact ⟨rfl, B4⟩
 have d1 : decide (T < k) = false := decide_eq_false ht2
 unfold flX at hr
 rw [if_neg hk, if_neg n0] at hr
 by_cases hek : e < k
 ·
  rw [if_neg (by show ¬ k ≤ e; omega), hTop, if_neg ht2] at hr
  cases hr
  obtain ⟨i, hi⟩ : ∃ i, (k - e).toNat = i := ⟨_, rfl⟩
  have n1 : IntKind.i64.wrap (k - e) = (i : Int) := by rw [zK _ (by omega) (by omega)]; omega
  have HB := zH (fun w hT => floorBelowx b n d e s t i v hs ht hc.1 hc.2.1 hc.d0 (by omega) (by rw [← hi]; exact hv) w hT)
  have d2 : decide (e < k) = true := decide_eq_true hek
  clear hs ht hc hT k1 k2 hk n0 hTop ht2 he hek hi hv
  cases b
  ·
   obtain ⟨Ad, B0⟩ := yO w (Obj.cells #[.bool false, .string s, .string t, .int .i64 e] 41)
   go_enter Tryz.func207, Tryz.ntmps207
   go_wp2_with fail
   refine (xmay1 _ _ _ _ true M1.out _ (w.alloc (Obj.cells #[.bool false, .string s, .string t, .int .i64 e] 41)) _ (by simp only [zX]) (zV TT.out B0)).mono ?_
   rintro r w1 ⟨rfl, b1⟩
   have B1 := zO B0 b1
   have Ac := zA b1 _ _ _ Ad
   clear b1 B0 Ad
   obtain ⟨Af, Ag, Ah, Ai⟩ := zC Ac
   go_wp2_with fail
   refine (yR k 2097152 true (by decide) (by decide) HG.out _).mono ?_
   rintro r w2 ⟨rfl, b2⟩
   have B2 := zO B1 b2
   have Aa := zA b2 _ _ _ Ac
   clear b2 B1 Ac Af Ag Ah Ai
   obtain ⟨Aj, Ak, Al, Am⟩ := zC Aa
   go_wp2_with fail
   obtain ⟨F, hF1, hF2⟩ := zQ w2
   have fx_0 := fun u => zE (zA (hF1 u) _ _ _ Aa) 0 _ rfl
   have fx_1 := fun u => zE (zA (hF1 u) _ _ _ Aa) 1 _ rfl
   have fx_2 := fun u => zE (zA (hF1 u) _ _ _ Aa) 2 _ rfl
   have fx_3 := fun u => zE (zA (hF1 u) _ _ _ Aa) 3 _ rfl
   refine zI F hF2 (by kernel_rfl) (by kernel_rfl) ?_
   repeat first | go_big_quiet_step (first | (go_at_call 111; exact zJ hF1 hF2 (zZ _)) | fail) | quiet_step (first | (go_at_call 111; exact zJ hF1 hF2 (zZ _)) | fail)
   refine wpQuiet_nil ?_
   rintro _ ⟨uW, rfl⟩
   have B3 := zO B2 (hF1 uW)
   have Ab := zA (hF1 uW) _ _ _ Aa
   obtain ⟨w3, hw⟩ : ∃ V, F uW = V := ⟨_, rfl⟩
   rw [hw] at B3 Ab
   try rw [hw]
   clear hw hF1 hF2 B2 fx_0 fx_1 fx_2 fx_3 Aa Aj Ak Al Am
   clear F
   obtain ⟨An, Ao, Ap, Aq⟩ := zC Ab
   go_wp2_with fail
   refine (HF.out _).mono ?_
   rintro r w4 ⟨rfl, b4⟩
   have B4 := zO B3 b4
   have Ae := zA b4 _ _ _ Ab
   clear b4 B3 Ab An Ao Ap Aq
   obtain ⟨As, At, Au, Av⟩ := zC Ae
   go_wp2_with fail
   refine (HB.out _ (zV TT.out B4)).mono ?_
   rintro r w5 ⟨rfl, b5⟩
   have B5 := zO B4 b5
   have Ar := zA b5 _ _ _ Ae
   clear b5 B4 Ae As At Au Av
   obtain ⟨Aw, Ax, Ay, Az⟩ := zC Ar
   go_wp2
   go_ret3
   exact ⟨rfl, B5⟩
  ·
   obtain ⟨Ad, B0⟩ := yO w (Obj.cells #[.bool true, .string s, .string t, .int .i64 e] 41)
   go_enter Tryz.func207, Tryz.ntmps207
   go_wp2_with fail
   refine (xmay1 _ _ _ _ true M1.out _ (w.alloc (Obj.cells #[.bool true, .string s, .string t, .int .i64 e] 41)) _ (by simp only [zX]) (zV TT.out B0)).mono ?_
   rintro r w1 ⟨rfl, b1⟩
   have B1 := zO B0 b1
   have Ac := zA b1 _ _ _ Ad
   clear b1 B0 Ad
   obtain ⟨Af, Ag, Ah, Ai⟩ := zC Ac
   go_wp2_with fail
   refine (yR k 2097152 true (by decide) (by decide) HG.out _).mono ?_
   rintro r w2 ⟨rfl, b2⟩
   have B2 := zO B1 b2
   have Aa := zA b2 _ _ _ Ac
   clear b2 B1 Ac Af Ag Ah Ai
   obtain ⟨Aj, Ak, Al, Am⟩ := zC Aa
   go_wp2_with fail
   obtain ⟨F, hF1, hF2⟩ := zQ w2
   have fx_0 := fun u => zE (zA (hF1 u) _ _ _ Aa) 0 _ rfl
   have fx_1 := fun u => zE (zA (hF1 u) _ _ _ Aa) 1 _ rfl
   have fx_2 := fun u => zE (zA (hF1 u) _ _ _ Aa) 2 _ rfl
   have fx_3 := fun u => zE (zA (hF1 u) _ _ _ Aa) 3 _ rfl
   refine zI F hF2 (by kernel_rfl) (by kernel_rfl) ?_
   repeat first | go_big_quiet_step (first | (go_at_call 111; exact zJ hF1 hF2 (zZ _)) | fail) | quiet_step (first | (go_at_call 111; exact zJ hF1 hF2 (zZ _)) | fail)
   refine wpQuiet_nil ?_
   rintro _ ⟨uW, rfl⟩
   have B3 := zO B2 (hF1 uW)
   have Ab := zA (hF1 uW) _ _ _ Aa
   obtain ⟨w3, hw⟩ : ∃ V, F uW = V := ⟨_, rfl⟩
   rw [hw] at B3 Ab
   try rw [hw]
   clear hw hF1 hF2 B2 fx_0 fx_1 fx_2 fx_3 Aa Aj Ak Al Am
   clear F
   obtain ⟨An, Ao, Ap, Aq⟩ := zC Ab
   go_wp2_with fail
   refine (HF.out _).mono ?_
   rintro r w4 ⟨rfl, b4⟩
   have B4 := zO B3 b4
   have Ae := zA b4 _ _ _ Ab
   clear b4 B3 Ab An Ao Ap Aq
   obtain ⟨As, At, Au, Av⟩ := zC Ae
   go_wp2_with fail
   refine (HB.out _ (zV TT.out B4)).mono ?_
   rintro r w5 ⟨rfl, b5⟩
   have B5 := zO B4 b5
   have Ar := zA b5 _ _ _ Ae
   clear b5 B4 Ae As At Au Av
   obtain ⟨Aw, Ax, Ay, Az⟩ := zC Ar
   go_wp2
   go_ret3
   exact ⟨rfl, B5⟩
 ·
  rw [if_pos (by show k ≤ e; omega)] at hr
  obtain ⟨i, hi⟩ : ∃ i, (e - k).toNat = i := ⟨_, rfl⟩
  have n1 : IntKind.i64.wrap (e - k) = (i : Int) := by rw [zK _ (by omega) (by omega)]; omega
  have hr2 : (if nl (n * 2 ^ i) ≤ 16384 then ((n * 2 ^ i / d, decide (n * 2 ^ i % d = 0)), (0 : Int)) else ((0, false), 4)) = ((m, is), err) := by rw [← hi]; exact hr
  have d2 : decide (e < k) = false := decide_eq_false hek
  have HS := zH hs
  have HT := zH ht
  have LN := zH hc.1
  have LD := zH hc.2.1
  have i2 : i ≤ 100000000 := by omega
  by_cases hl : nl (n * 2 ^ i) ≤ 16384
  ·
   rw [if_pos hl] at hr2
   cases hr2
   obtain ⟨p, hp⟩ : ∃ p, yG (n * 2 ^ i) = p := ⟨_, rfl⟩
   obtain ⟨y, hy⟩ : ∃ y, yG (n * 2 ^ i % d) = y := ⟨_, rfl⟩
   have F1 := zH (lf_up n i p hl hp)
   have e3 : (y.toList == []) = decide (n * 2 ^ i % d = 0) := by
    rw [xX, ← hy, yE, Bool.eq_iff_iff, decide_eq_true_iff, decide_eq_true_iff]
    exact ⟨nl_eq0 _, fun h => by rw [h]; exact nl_zero⟩
   obtain ⟨o, ho⟩ : ∃ o, decide (n * 2 ^ i % d = 0) = o := ⟨_, rfl⟩
   rw [ho] at e3 ⊢
   have HP := zH hp
   have HY := zH hy
   have HL := zH hl
   have HV := zH hv
   have D0 := zH hc.d0
   clear hs ht hc hT k1 k2 hk n0 hTop ht2 he hek hi hr hp hy hl ho hv
   cases b
   ·
    obtain ⟨Ad, B0⟩ := yO w (Obj.cells #[.bool false, .string s, .string t, .int .i64 e] 41)
    go_enter Tryz.func207, Tryz.ntmps207
    go_wp2_with fail
    refine (xmay1 _ _ _ _ true M1.out _ (w.alloc (Obj.cells #[.bool false, .string s, .string t, .int .i64 e] 41)) _ (by simp only [zX]) (zV TT.out B0)).mono ?_
    rintro r w1 ⟨rfl, b1⟩
    have B1 := zO B0 b1
    have Ac := zA b1 _ _ _ Ad
    clear b1 B0 Ad
    obtain ⟨Af, Ag, Ah, Ai⟩ := zC Ac
    go_wp2_with fail
    refine (yR k 2097152 true (by decide) (by decide) HG.out _).mono ?_
    rintro r w2 ⟨rfl, b2⟩
    have B2 := zO B1 b2
    have Aa := zA b2 _ _ _ Ac
    clear b2 B1 Ac Af Ag Ah Ai
    obtain ⟨Aj, Ak, Al, Am⟩ := zC Aa
    go_wp2_with fail
    obtain ⟨F, hF1, hF2⟩ := zQ w2
    have fx_0 := fun u => zE (zA (hF1 u) _ _ _ Aa) 0 _ rfl
    have fx_1 := fun u => zE (zA (hF1 u) _ _ _ Aa) 1 _ rfl
    have fx_2 := fun u => zE (zA (hF1 u) _ _ _ Aa) 2 _ rfl
    have fx_3 := fun u => zE (zA (hF1 u) _ _ _ Aa) 3 _ rfl
    refine zI F hF2 (by kernel_rfl) (by kernel_rfl) ?_
    repeat first | go_big_quiet_step (first | (go_at_call 111; exact zJ hF1 hF2 (zZ _)) | fail) | quiet_step (first | (go_at_call 111; exact zJ hF1 hF2 (zZ _)) | fail)
    refine wpQuiet_nil ?_
    rintro _ ⟨uW, rfl⟩
    have B3 := zO B2 (hF1 uW)
    have Ab := zA (hF1 uW) _ _ _ Aa
    obtain ⟨w3, hw⟩ : ∃ V, F uW = V := ⟨_, rfl⟩
    rw [hw] at B3 Ab
    try rw [hw]
    clear hw hF1 hF2 B2 fx_0 fx_1 fx_2 fx_3 Aa Aj Ak Al Am
    clear F
    obtain ⟨An, Ao, Ap, Aq⟩ := zC Ab
    go_wp2_with fail
    refine (HF.out _).mono ?_
    rintro r w4 ⟨rfl, b4⟩
    have B4 := zO B3 b4
    have Ae := zA b4 _ _ _ Ab
    clear b4 B3 Ab An Ao Ap Aq
    obtain ⟨As, At, Au, Av⟩ := zC Ae
    go_wp2_with fail
    refine (xS n (i : Int) s p 0 HS.out LN.out (by omega) (by omega) F1.out _).mono ?_
    rintro r w5 ⟨rfl, b5⟩
    have B5 := zO B4 b5
    have Ar := zA b5 _ _ _ Ae
    clear b5 B4 Ae As At Au Av
    obtain ⟨Aw, Ax, Ay, Az⟩ := zC Ar
    go_wp2_with fail
    refine (pn_div_ok (n * 2 ^ i) d p t v y HP.out HT.out HL.out LD.out D0.out HV.out HY.out _).mono ?_
    rintro r w6 ⟨rfl, b6⟩
    have B6 := zO B5 b6
    have AA := zA b6 _ _ _ Ar
    clear b6 B5 Ar Aw Ax Ay Az
    obtain ⟨AB, AC, AD, AE⟩ := zC AA
    go_wp2
    go_ret3
    exact ⟨rfl, B6⟩
   ·
    obtain ⟨Ad, B0⟩ := yO w (Obj.cells #[.bool true, .string s, .string t, .int .i64 e] 41)
    go_enter Tryz.func207, Tryz.ntmps207
    go_wp2_with fail
    refine (xmay1 _ _ _ _ true M1.out _ (w.alloc (Obj.cells #[.bool true, .string s, .string t, .int .i64 e] 41)) _ (by simp only [zX]) (zV TT.out B0)).mono ?_
    rintro r w1 ⟨rfl, b1⟩
    have B1 := zO B0 b1
    have Ac := zA b1 _ _ _ Ad
    clear b1 B0 Ad
    obtain ⟨Af, Ag, Ah, Ai⟩ := zC Ac
    go_wp2_with fail
    refine (yR k 2097152 true (by decide) (by decide) HG.out _).mono ?_
    rintro r w2 ⟨rfl, b2⟩
    have B2 := zO B1 b2
    have Aa := zA b2 _ _ _ Ac
    clear b2 B1 Ac Af Ag Ah Ai
    obtain ⟨Aj, Ak, Al, Am⟩ := zC Aa
    go_wp2_with fail
    obtain ⟨F, hF1, hF2⟩ := zQ w2
    have fx_0 := fun u => zE (zA (hF1 u) _ _ _ Aa) 0 _ rfl
    have fx_1 := fun u => zE (zA (hF1 u) _ _ _ Aa) 1 _ rfl
    have fx_2 := fun u => zE (zA (hF1 u) _ _ _ Aa) 2 _ rfl
    have fx_3 := fun u => zE (zA (hF1 u) _ _ _ Aa) 3 _ rfl
    refine zI F hF2 (by kernel_rfl) (by kernel_rfl) ?_
    repeat first | go_big_quiet_step (first | (go_at_call 111; exact zJ hF1 hF2 (zZ _)) | fail) | quiet_step (first | (go_at_call 111; exact zJ hF1 hF2 (zZ _)) | fail)
    refine wpQuiet_nil ?_
    rintro _ ⟨uW, rfl⟩
    have B3 := zO B2 (hF1 uW)
    have Ab := zA (hF1 uW) _ _ _ Aa
    obtain ⟨w3, hw⟩ : ∃ V, F uW = V := ⟨_, rfl⟩
    rw [hw] at B3 Ab
    try rw [hw]
    clear hw hF1 hF2 B2 fx_0 fx_1 fx_2 fx_3 Aa Aj Ak Al Am
    clear F
    obtain ⟨An, Ao, Ap, Aq⟩ := zC Ab
    go_wp2_with fail
    refine (HF.out _).mono ?_
    rintro r w4 ⟨rfl, b4⟩
    have B4 := zO B3 b4
    have Ae := zA b4 _ _ _ Ab
    clear b4 B3 Ab An Ao Ap Aq
    obtain ⟨As, At, Au, Av⟩ := zC Ae
    go_wp2_with fail
    refine (xS n (i : Int) s p 0 HS.out LN.out (by omega) (by omega) F1.out _).mono ?_
    rintro r w5 ⟨rfl, b5⟩
    have B5 := zO B4 b5
    have Ar := zA b5 _ _ _ Ae
    clear b5 B4 Ae As At Au Av
    obtain ⟨Aw, Ax, Ay, Az⟩ := zC Ar
    go_wp2_with fail
    refine (pn_div_ok (n * 2 ^ i) d p t v y HP.out HT.out HL.out LD.out D0.out HV.out HY.out _).mono ?_
    rintro r w6 ⟨rfl, b6⟩
    have B6 := zO B5 b6
    have AA := zA b6 _ _ _ Ar
    clear b6 B5 Ar Aw Ax Ay Az
    obtain ⟨AB, AC, AD, AE⟩ := zC AA
    go_wp2
    go_ret3
    exact ⟨rfl, B6⟩
  ·
   rw [if_neg hl] at hr2
   cases hr2
   rw [yM] at hv
   subst hv
   have F1 : zS (lf n (i : Int) = (⟨#[]⟩, 4)) := zH (by unfold lf; rw [if_neg (by omega), Int.toNat_natCast]; exact lg_no _ hl)
   clear hs ht hc hT k1 k2 hk n0 hTop ht2 he hek hi hr hl
   cases b
   ·
    obtain ⟨Ad, B0⟩ := yO w (Obj.cells #[.bool false, .string s, .string t, .int .i64 e] 41)
    go_enter Tryz.func207, Tryz.ntmps207
    go_wp2_with fail
    refine (xmay1 _ _ _ _ true M1.out _ (w.alloc (Obj.cells #[.bool false, .string s, .string t, .int .i64 e] 41)) _ (by simp only [zX]) (zV TT.out B0)).mono ?_
    rintro r w1 ⟨rfl, b1⟩
    have B1 := zO B0 b1
    have Ac := zA b1 _ _ _ Ad
    clear b1 B0 Ad
    obtain ⟨Af, Ag, Ah, Ai⟩ := zC Ac
    go_wp2_with fail
    refine (yR k 2097152 true (by decide) (by decide) HG.out _).mono ?_
    rintro r w2 ⟨rfl, b2⟩
    have B2 := zO B1 b2
    have Aa := zA b2 _ _ _ Ac
    clear b2 B1 Ac Af Ag Ah Ai
    obtain ⟨Aj, Ak, Al, Am⟩ := zC Aa
    go_wp2_with fail
    obtain ⟨F, hF1, hF2⟩ := zQ w2
    have fx_0 := fun u => zE (zA (hF1 u) _ _ _ Aa) 0 _ rfl
    have fx_1 := fun u => zE (zA (hF1 u) _ _ _ Aa) 1 _ rfl
    have fx_2 := fun u => zE (zA (hF1 u) _ _ _ Aa) 2 _ rfl
    have fx_3 := fun u => zE (zA (hF1 u) _ _ _ Aa) 3 _ rfl
    refine zI F hF2 (by kernel_rfl) (by kernel_rfl) ?_
    repeat first | go_big_quiet_step (first | (go_at_call 111; exact zJ hF1 hF2 (zZ _)) | fail) | quiet_step (first | (go_at_call 111; exact zJ hF1 hF2 (zZ _)) | fail)
    refine wpQuiet_nil ?_
    rintro _ ⟨uW, rfl⟩
    have B3 := zO B2 (hF1 uW)
    have Ab := zA (hF1 uW) _ _ _ Aa
    obtain ⟨w3, hw⟩ : ∃ V, F uW = V := ⟨_, rfl⟩
    rw [hw] at B3 Ab
    try rw [hw]
    clear hw hF1 hF2 B2 fx_0 fx_1 fx_2 fx_3 Aa Aj Ak Al Am
    clear F
    obtain ⟨An, Ao, Ap, Aq⟩ := zC Ab
    go_wp2_with fail
    refine (HF.out _).mono ?_
    rintro r w4 ⟨rfl, b4⟩
    have B4 := zO B3 b4
    have Ae := zA b4 _ _ _ Ab
    clear b4 B3 Ab An Ao Ap Aq
    obtain ⟨As, At, Au, Av⟩ := zC Ae
    go_wp2_with fail
    refine (xS n (i : Int) s _ 4 HS.out LN.out (by omega) (by omega) F1.out _).mono ?_
    rintro r w5 ⟨rfl, b5⟩
    have B5 := zO B4 b5
    have Ar := zA b5 _ _ _ Ae
    clear b5 B4 Ae As At Au Av
    obtain ⟨Aw, Ax, Ay, Az⟩ := zC Ar
    go_wp2
    go_ret3
    exact ⟨rfl, B5⟩
   ·
    obtain ⟨Ad, B0⟩ := yO w (Obj.cells #[.bool true, .string s, .string t, .int .i64 e] 41)
    go_enter Tryz.func207, Tryz.ntmps207
    go_wp2_with fail
    refine (xmay1 _ _ _ _ true M1.out _ (w.alloc (Obj.cells #[.bool true, .string s, .string t, .int .i64 e] 41)) _ (by simp only [zX]) (zV TT.out B0)).mono ?_
    rintro r w1 ⟨rfl, b1⟩
    have B1 := zO B0 b1
    have Ac := zA b1 _ _ _ Ad
    clear b1 B0 Ad
    obtain ⟨Af, Ag, Ah, Ai⟩ := zC Ac
    go_wp2_with fail
    refine (yR k 2097152 true (by decide) (by decide) HG.out _).mono ?_
    rintro r w2 ⟨rfl, b2⟩
    have B2 := zO B1 b2
    have Aa := zA b2 _ _ _ Ac
    clear b2 B1 Ac Af Ag Ah Ai
    obtain ⟨Aj, Ak, Al, Am⟩ := zC Aa
    go_wp2_with fail
    obtain ⟨F, hF1, hF2⟩ := zQ w2
    have fx_0 := fun u => zE (zA (hF1 u) _ _ _ Aa) 0 _ rfl
    have fx_1 := fun u => zE (zA (hF1 u) _ _ _ Aa) 1 _ rfl
    have fx_2 := fun u => zE (zA (hF1 u) _ _ _ Aa) 2 _ rfl
    have fx_3 := fun u => zE (zA (hF1 u) _ _ _ Aa) 3 _ rfl
    refine zI F hF2 (by kernel_rfl) (by kernel_rfl) ?_
    repeat first | go_big_quiet_step (first | (go_at_call 111; exact zJ hF1 hF2 (zZ _)) | fail) | quiet_step (first | (go_at_call 111; exact zJ hF1 hF2 (zZ _)) | fail)
    refine wpQuiet_nil ?_
    rintro _ ⟨uW, rfl⟩
    have B3 := zO B2 (hF1 uW)
    have Ab := zA (hF1 uW) _ _ _ Aa
    obtain ⟨w3, hw⟩ : ∃ V, F uW = V := ⟨_, rfl⟩
    rw [hw] at B3 Ab
    try rw [hw]
    clear hw hF1 hF2 B2 fx_0 fx_1 fx_2 fx_3 Aa Aj Ak Al Am
    clear F
    obtain ⟨An, Ao, Ap, Aq⟩ := zC Ab
    go_wp2_with fail
    refine (HF.out _).mono ?_
    rintro r w4 ⟨rfl, b4⟩
    have B4 := zO B3 b4
    have Ae := zA b4 _ _ _ Ab
    clear b4 B3 Ab An Ao Ap Aq
    obtain ⟨As, At, Au, Av⟩ := zC Ae
    go_wp2_with fail
    refine (xS n (i : Int) s _ 4 HS.out LN.out (by omega) (by omega) F1.out _).mono ?_
    rintro r w5 ⟨rfl, b5⟩
    have B5 := zO B4 b5
    have Ar := zA b5 _ _ _ Ae
    clear b5 B4 Ae As At Au Av
    obtain ⟨Aw, Ax, Ay, Az⟩ := zC Ar
    go_wp2
    go_ret3
    exact ⟨rfl, B5⟩
end Go.Proofs.YtkblmpmkchkpjaaGreatDoor
namespace Go.Proofs.YtkblmpmkchkpjaaGreatDoor
set_option maxRecDepth 100000
set_option maxHeartbeats 40000000
open WMath
open Go.ChangeShapes Go.WideShapes Go.ChangeAt Go.RowKit
def dX (H : Type) (b : Bool) (s t : ByteArray) (e : Int) : DataW H := .agg [.lit (.bool b), .lit (.string s.data.toList), .lit (.string t.data.toList), .lit (.int .i64 e)]
theorem list4 {α : Type} (l : List α) (h : (⟨l⟩ : Array α).size = 4) : ∃ a b c d, l = [a, b, c, d] := by
 match l, h with
 | [a, b, c, d], _ => exact ⟨a, b, c, d, rfl⟩
theorem trod_struct4 {H : Type} {enc : TypeId × Value → H} {P : Program} {w : World} {base : Nat} {spare : Nat → Bool} {held : Bool} {t : TypeId} {f0 f1 f2 f3 : Field} {fuel : Nat} {cs : List Value} {x : DataW H × List MemPlace} (ht : P.underlying t = some (.struct #[f0, f1, f2, f3])) (h : DataW.trod enc P w base spare held fuel t cs = some x) :
  ∃ y0 y1 y2 y3 n, x = (.agg [y0.1, y1.1, y2.1, y3.1], y0.2 ++ (y1.2 ++ (y2.2 ++ y3.2))) ∧ DataW.trod enc P w base spare held n f0.type ((cs.drop f0.offset).take (P.cellsOf f0.type)) = some y0 ∧
   DataW.trod enc P w base spare held n f1.type ((cs.drop f1.offset).take (P.cellsOf f1.type)) = some y1 ∧ DataW.trod enc P w base spare held n f2.type ((cs.drop f2.offset).take (P.cellsOf f2.type)) = some y2 ∧
   DataW.trod enc P w base spare held n f3.type ((cs.drop f3.offset).take (P.cellsOf f3.type)) = some y3 := by
 obtain ⟨xs, n, _, rfl, hl, hlen, hf⟩ := DataW.trod_struct ht h
 match xs, hlen with
 | [y0, y1, y2, y3], _ => exact ⟨y0, y1, y2, y3, n, by simp, by simpa using hf 0 f0 rfl, by simpa using hf 1 f1 rfl, by simpa using hf 2 f2 rfl, by simpa using hf 3 f3 rfl⟩

theorem open_exact {H : Type} {enc : TypeId × Value → H} {w : World} {base b : Nat} {spare : Nat → Bool} {held : Bool} {v : Value} {d : DataW H} {p : List MemPlace}
  (hok : Value.okWide Tryz.prog w .any base 41 v) (h : DataW.Trod enc Tryz.prog w b spare held 41 v d p) : ∃ (c : Bool) (s t : ByteArray) (e : Int), v = .agg #[.bool c, .string s, .string t, .int .i64 e] ∧ d = dX H c s t e ∧ p = [] ∧ (s.size ≤ maxLen ∧ t.size ≤ maxLen ∧ (Lit.int .i64 e).wf = true) := by
 have hc : Tryz.prog.cellsOf 41 = 4 := by kernel_rfl
 have h1 : Tryz.prog.cellsOf 4 = 1 := by kernel_rfl
 have h2 : Tryz.prog.cellsOf 39 = 1 := by kernel_rfl
 have h3 : Tryz.prog.cellsOf 3 = 1 := by kernel_rfl
 obtain ⟨cs, rfl, hsz⟩ := okWide_struct Tryz.underlying41 hok
 rw [hc] at hsz
 obtain ⟨l⟩ := cs
 obtain ⟨c0, c1, c2, c3, rfl⟩ := list4 l hsz
 obtain ⟨fuel, hf⟩ := h
 obtain ⟨y0, y1, y2, y3, n, hx, g0, g1, g2, g3⟩ := trod_struct4 Tryz.underlying41 hf
 simp only [h1, h2, h3] at g0 g1 g2 g3
 obtain ⟨x0, e0, k0⟩ := DataW.trod_bool Tryz.underlying4 g0
 obtain ⟨x1, e1, k1, w1⟩ := DataW.trod_string Tryz.underlying39 g1
 obtain ⟨x2, e2, k2, w2⟩ := DataW.trod_string Tryz.underlying39 g2
 obtain ⟨x3, e3, k3, w3⟩ := DataW.trod_int Tryz.underlying3 g3
 simp [Value.cells] at e0 e1 e2 e3
 subst e0 e1 e2 e3
 simp only [Prod.mk.injEq] at hx
 refine ⟨x0, x1, x2, x3, rfl, ?_, ?_, w1, w2, w3⟩
 ·
  rw [hx.1, k0, k1, k2, k3]; rfl
 ·
  rw [hx.2, k0, k1, k2, k3]; rfl

theorem shut_exact {H : Type} {enc : TypeId × Value → H} {w : World} {b : Nat} {spare : Nat → Bool} {held : Bool} {c : Bool} {s t : ByteArray} {e : Int} (h : s.size ≤ maxLen ∧ t.size ≤ maxLen ∧ (Lit.int .i64 e).wf = true) : DataW.Trod enc Tryz.prog w b spare held 41 (.agg #[.bool c, .string s, .string t, .int .i64 e]) (dX H c s t e) [] := by
 have hc : Tryz.prog.cellsOf 41 = 4 := by kernel_rfl
 have h1 : Tryz.prog.cellsOf 4 = 1 := by kernel_rfl
 have h2 : Tryz.prog.cellsOf 39 = 1 := by kernel_rfl
 have h3 : Tryz.prog.cellsOf 3 = 1 := by kernel_rfl
 refine ⟨2, ?_⟩
 simp [DataW.trod, Value.cells, Tryz.underlying41, Tryz.underlying4, Tryz.underlying39, Tryz.underlying3, hc, h1, h2, h3, h.1, h.2.1, h.2.2, dX]
end Go.Proofs.YtkblmpmkchkpjaaGreatDoor
namespace Go.Proofs.YtkblmpmkchkpjaaGreatDoor
set_option maxRecDepth 100000
set_option maxHeartbeats 40000000
open Go.RowKit WMath XMath
def tmX (a b k : Nat) : ByteArray × Int := if nl (a * b * 2 ^ k) ≤ 16384 then (yG (a * b * 2 ^ k), 0) else (⟨#[]⟩, 4)
theorem mul_pow_le (a k : Nat) : a ≤ a * 2 ^ k := Nat.le_mul_of_pos_right _ (Nat.two_pow_pos _)
theorem timesx (a b k : Nat) (s t v : ByteArray) (er : Int) (hs : yG a = s) (ht : yG b = t) (ha : nl a ≤ 16384) (hb : nl b ≤ 16384) (k2 : k ≤ 100000000) (hr : tmX a b k = (v, er)) (w : World) : Calls Tryz.prog 135 #[.string s, .string t, .int .i64 (k : Int)] w fun r w' => r = .returned (.tuple #[.string v, .int .i64 er]) ∧ Below w.heap.size w w' := by
 have HS := zH hs
 have HT := zH ht
 have HA := zH ha
 have HB := zH hb
 unfold tmX at hr
 by_cases h1 : nl (a * b) ≤ 16384
 ·
  obtain ⟨x, hx⟩ : ∃ x, yG (a * b) = x := ⟨_, rfl⟩
  have HX := zH (lg_ok (a * b) x h1 hx)
  have F : zS (lf (a * b) (k : Int) = (v, er)) := zH (by unfold lf; rw [if_neg (by omega), Int.toNat_natCast]; unfold lg; exact hr)
  have H1 := zH h1
  have HX2 := zH hx
  clear hs ht ha hb hr h1 hx
  have B0 : Below w.heap.size w w := (Below.refl _ _)
  go_enter Tryz.func135, Tryz.ntmps135
  go_wp2_with fail
  refine (xO a b s t x 0 HS.out HT.out HA.out HB.out HX.out _).mono ?_
  rintro r w1 ⟨rfl, b1⟩
  have B1 := zO B0 b1
  clear b1 B0 
  go_wp2_with fail
  refine (xS (a * b) (k : Int) x v er HX2.out H1.out (by omega) (by omega) F.out _).mono ?_
  rintro r w2 ⟨rfl, b2⟩
  have B2 := zO B1 b2
  clear b2 B1 
  go_wp2
  go_ret2
  exact ⟨rfl, B2⟩
 ·
  have HX := zH (lg_no (a * b) h1)
  have h2 : ¬ nl (a * b * 2 ^ k) ≤ 16384 := fun h => h1 (Nat.le_trans (xF _ _ (mul_pow_le _ _)) h)
  rw [if_neg h2] at hr
  cases hr
  clear hs ht ha hb h1 h2
  have B0 : Below w.heap.size w w := (Below.refl _ _)
  go_enter Tryz.func135, Tryz.ntmps135
  go_wp2_with fail
  refine (xO a b s t _ 4 HS.out HT.out HA.out HB.out HX.out _).mono ?_
  rintro r w1 ⟨rfl, b1⟩
  have B1 := zO B0 b1
  clear b1 B0 
  go_wp2
  go_ret2
  exact ⟨rfl, B1⟩

theorem alikex (b : Bool) (n d : Nat) (e : Int) (s t : ByteArray) (c : Bool) (m f : Nat) (g : Int) (p q : ByteArray) (u v : ByteArray) (er : Int)
  (hs : yG n = s) (ht : yG d = t) (hp : yG m = p) (hq : yG f = q) (ln : nl n ≤ 16384) (ld : nl d ≤ 16384) (lm : nl m ≤ 16384) (lf : nl f ≤ 16384) (he : -1048576 ≤ e ∧ e ≤ 1048576 ∧ -1048576 ≤ g ∧ g ≤ 1048576)
  (hr : (if nl (XMath.sA (XN.mk b n d e) (XN.mk c m f g)) ≤ 16384 ∧ nl (XMath.sA (XN.mk c m f g) (XN.mk b n d e)) ≤ 16384 then (yG (XMath.sA (XN.mk b n d e) (XN.mk c m f g)), yG (XMath.sA (XN.mk c m f g) (XN.mk b n d e)), (0 : Int)) else (⟨#[]⟩, ⟨#[]⟩, 4)) = (u, v, er)) (w : World) :
  Calls Tryz.prog 57 #[.agg #[.bool b, .string s, .string t, .int .i64 e], .agg #[.bool c, .string p, .string q, .int .i64 g]] w fun r w' => r = .returned (.tuple #[.string u, .string v, .int .i64 er]) ∧ Below w.heap.size w w' := by
 obtain ⟨L, hL⟩ : ∃ L, min e g = L := ⟨_, rfl⟩
 obtain ⟨i, hi⟩ : ∃ i, (e - L).toNat = i := ⟨_, rfl⟩
 obtain ⟨j, hj⟩ : ∃ i, (g - L).toNat = i := ⟨_, rfl⟩
 have eA : XMath.sA (XN.mk b n d e) (XN.mk c m f g) = n * f * 2 ^ i := by unfold XMath.sA; show n * f * 2 ^ (e - min e g).toNat = _; rw [hL, hi]
 have eB : XMath.sA (XN.mk c m f g) (XN.mk b n d e) = m * d * 2 ^ j := by unfold XMath.sA; show m * d * 2 ^ (g - min g e).toNat = _; rw [Int.min_comm g e, hL, hj]
 rw [eA, eB] at hr
 have n1 : IntKind.i64.wrap (e - L) = (i : Int) := by rw [zK _ (by omega) (by omega)]; omega
 have n2 : IntKind.i64.wrap (g - L) = (j : Int) := by rw [zK _ (by omega) (by omega)]; omega
 have i2 : i ≤ 100000000 := by omega
 have j2 : j ≤ 100000000 := by omega
 by_cases h1 : nl (n * f * 2 ^ i) ≤ 16384
 ·
  obtain ⟨x, hx⟩ : ∃ x, yG (n * f * 2 ^ i) = x := ⟨_, rfl⟩
  have K1 := zH (fun w => timesx n f i s q x 0 hs hq ln lf i2 (by unfold tmX; rw [if_pos h1, hx]) w)
  by_cases h2 : nl (m * d * 2 ^ j) ≤ 16384
  ·
   rw [if_pos ⟨h1, h2⟩] at hr
   obtain ⟨y, hy⟩ : ∃ x, yG (m * d * 2 ^ j) = x := ⟨_, rfl⟩
   rw [hx, hy] at hr
   cases hr
   have K2 := zH (fun w => timesx m d j p t v 0 hp ht lm ld j2 (by unfold tmX; rw [if_pos h2, hy]) w)
   clear hs ht hp hq ln ld lm lf he hi hj eA eB h1 h2 hx hy i2 j2
   obtain ⟨Ac, Ad, B0⟩ := qW w (Obj.cells #[.bool b, .string s, .string t, .int .i64 e] 41) (Obj.cells #[.bool c, .string p, .string q, .int .i64 g] 41)
   go_enter Tryz.func57, Tryz.ntmps57
   go_wp2_with fail
   refine (K1.out _).mono ?_
   rintro r w1 ⟨rfl, b1⟩
   have B1 := zO B0 b1
   obtain ⟨Aa, Ab⟩ := yB b1 Ac Ad
   clear b1 B0 Ac Ad
   obtain ⟨Ae, Af, Ag, Ah⟩ := zC Aa
   obtain ⟨Ai, Aj, Ak, Al⟩ := zC Ab
   go_wp2_with fail
   refine (K2.out _).mono ?_
   rintro r w2 ⟨rfl, b2⟩
   have B2 := zO B1 b2
   obtain ⟨Am, An⟩ := yB b2 Aa Ab
   clear b2 B1 Aa Ae Af Ag Ah Ab Ai Aj Ak Al
   obtain ⟨Ao, Ap, Aq, Ar⟩ := zC Am
   obtain ⟨As, At, Au, Av⟩ := zC An
   go_wp2
   go_ret3
   exact ⟨rfl, B2⟩
  ·
   rw [if_neg (fun h => h2 h.2)] at hr
   cases hr
   have K2 := zH (fun w => timesx m d j p t ⟨#[]⟩ 4 hp ht lm ld j2 (by unfold tmX; rw [if_neg h2]) w)
   clear hs ht hp hq ln ld lm lf he hi hj eA eB h1 h2 hx i2 j2
   obtain ⟨Ac, Ad, B0⟩ := qW w (Obj.cells #[.bool b, .string s, .string t, .int .i64 e] 41) (Obj.cells #[.bool c, .string p, .string q, .int .i64 g] 41)
   go_enter Tryz.func57, Tryz.ntmps57
   go_wp2_with fail
   refine (K1.out _).mono ?_
   rintro r w1 ⟨rfl, b1⟩
   have B1 := zO B0 b1
   obtain ⟨Aa, Ab⟩ := yB b1 Ac Ad
   clear b1 B0 Ac Ad
   obtain ⟨Ae, Af, Ag, Ah⟩ := zC Aa
   obtain ⟨Ai, Aj, Ak, Al⟩ := zC Ab
   go_wp2_with fail
   refine (K2.out _).mono ?_
   rintro r w2 ⟨rfl, b2⟩
   have B2 := zO B1 b2
   obtain ⟨Am, An⟩ := yB b2 Aa Ab
   clear b2 B1 Aa Ae Af Ag Ah Ab Ai Aj Ak Al
   obtain ⟨Ao, Ap, Aq, Ar⟩ := zC Am
   obtain ⟨As, At, Au, Av⟩ := zC An
   go_wp2
   go_ret3
   exact ⟨rfl, B2⟩
 ·
  rw [if_neg (fun h => h1 h.1)] at hr
  cases hr
  have K1 := zH (fun w => timesx n f i s q ⟨#[]⟩ 4 hs hq ln lf i2 (by unfold tmX; rw [if_neg h1]) w)
  clear hs ht hp hq ln ld lm lf he hi hj eA eB h1 i2 j2
  obtain ⟨Ac, Ad, B0⟩ := qW w (Obj.cells #[.bool b, .string s, .string t, .int .i64 e] 41) (Obj.cells #[.bool c, .string p, .string q, .int .i64 g] 41)
  go_enter Tryz.func57, Tryz.ntmps57
  go_wp2_with fail
  refine (K1.out _).mono ?_
  rintro r w1 ⟨rfl, b1⟩
  have B1 := zO B0 b1
  obtain ⟨Aa, Ab⟩ := yB b1 Ac Ad
  clear b1 B0 Ac Ad
  obtain ⟨Ae, Af, Ag, Ah⟩ := zC Aa
  obtain ⟨Ai, Aj, Ak, Al⟩ := zC Ab
  go_wp2
  go_ret3
  exact ⟨rfl, B1⟩

def ssX (b c : Bool) (x y : Nat) : Bool × ByteArray × Int := if b = c then (b, lg (x + y)) else if x < y then (c, yG (y - x), 0) else (b, yG (x - y), 0)
theorem signedSumx (b c : Bool) (x y : Nat) (s t : ByteArray) (o : Bool) (v : ByteArray) (er : Int) (hs : yG x = s) (ht : yG y = t) (lx : nl x ≤ 16384) (ly : nl y ≤ 16384) (hr : ssX b c x y = (o, v, er)) (w : World) :
  Calls Tryz.prog 133 #[.bool b, .bool c, .string s, .string t] w fun r w' => r = .returned (.tuple #[.bool o, .string v, .int .i64 er]) ∧ Below w.heap.size w w' := by
 obtain ⟨k, hk⟩ : ∃ k, xY x y = k := ⟨_, rfl⟩
 have hlt : decide (k < 0) = decide (x < y) := by rw [← hk, Bool.eq_iff_iff, decide_eq_true_iff, decide_eq_true_iff]; exact cmpv_neg _ _
 have HS := zH hs
 have HT := zH ht
 have LX := zH lx
 have LY := zH ly
 have HK := zH hk
 unfold ssX at hr
 by_cases hb : b = c
 ·
  subst hb
  rw [if_pos rfl] at hr
  injection hr with h1 h2
  subst h1
  have HR := zH h2
  have e0 : (b == b) = true := by cases b <;> rfl
  clear hs ht lx ly hk hlt h2
  have B0 : Below w.heap.size w w := (Below.refl _ _)
  go_enter Tryz.func133, Tryz.ntmps133
  go_wp2_with fail
  refine (pn_cmp_ok x y s t k HS.out HT.out LX.out LY.out HK.out _).mono ?_
  rintro r w1 ⟨rfl, b1⟩
  have B1 := zO B0 b1
  clear b1 B0 
  go_wp2_with fail
  refine (pn_add_ok x y s t v er HS.out HT.out LX.out LY.out HR.out _).mono ?_
  rintro r w2 ⟨rfl, b2⟩
  have B2 := zO B1 b2
  clear b2 B1 
  go_wp2
  go_ret3
  exact ⟨rfl, B2⟩
 ·
  rw [if_neg hb] at hr
  have e0 : (b == c) = false := by cases b <;> cases c <;> first | rfl | exact absurd rfl hb
  by_cases hl : x < y
  ·
   rw [if_pos hl] at hr
   rw [decide_eq_true hl] at hlt
   cases hr
   have HR : zS (sb y x = (yG (y - x), 0)) := zH (by unfold sb; rw [if_neg (by omega)])
   obtain ⟨v, hv⟩ : ∃ v, yG (y - x) = v := ⟨_, rfl⟩
   rw [hv] at HR ⊢
   clear hs ht lx ly hk hl hb hv
   have B0 : Below w.heap.size w w := (Below.refl _ _)
   go_enter Tryz.func133, Tryz.ntmps133
   go_wp2_with fail
   refine (pn_cmp_ok x y s t k HS.out HT.out LX.out LY.out HK.out _).mono ?_
   rintro r w1 ⟨rfl, b1⟩
   have B1 := zO B0 b1
   clear b1 B0 
   go_wp2_with fail
   refine (pn_sub_ok y x t s v 0 HT.out HS.out LY.out LX.out HR.out _).mono ?_
   rintro r w2 ⟨rfl, b2⟩
   have B2 := zO B1 b2
   clear b2 B1 
   go_wp2
   go_ret3
   exact ⟨rfl, B2⟩
  ·
   rw [if_neg hl] at hr
   rw [decide_eq_false hl] at hlt
   cases hr
   have HR : zS (sb x y = (yG (x - y), 0)) := zH (by unfold sb; rw [if_neg hl])
   obtain ⟨v, hv⟩ : ∃ v, yG (x - y) = v := ⟨_, rfl⟩
   rw [hv] at HR ⊢
   clear hs ht lx ly hk hl hb hv
   have B0 : Below w.heap.size w w := (Below.refl _ _)
   go_enter Tryz.func133, Tryz.ntmps133
   go_wp2_with fail
   refine (pn_cmp_ok x y s t k HS.out HT.out LX.out LY.out HK.out _).mono ?_
   rintro r w1 ⟨rfl, b1⟩
   have B1 := zO B0 b1
   clear b1 B0 
   go_wp2_with fail
   refine (pn_sub_ok x y s t v 0 HS.out HT.out LX.out LY.out HR.out _).mono ?_
   rintro r w2 ⟨rfl, b2⟩
   have B2 := zO B1 b2
   clear b2 B1 
   go_wp2
   go_ret3
   exact ⟨rfl, B2⟩
end Go.Proofs.YtkblmpmkchkpjaaGreatDoor
