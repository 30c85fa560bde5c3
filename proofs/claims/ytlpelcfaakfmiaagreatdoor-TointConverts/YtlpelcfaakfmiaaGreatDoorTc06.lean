/-
  What the functions that the statement reaches return: part 6 (Y4, S1, S2, S3, S4, S5).
-/
import Derived.Test.YtlpelcfaakfmiaaGreatDoorTc05
namespace Go.Proofs.YtlpelcfaakfmiaaGreatDoor
set_option maxRecDepth 100000
set_option maxHeartbeats 40000000
set_option maxRecDepth 100000
open Go.RowKit WMath XMath
theorem below_top (x : XN) (k : Int) (i : Nat) (hx : x.can) (hk : x.e + (i : Int) = k) (h : (2 : Rat) ^ k ≤ x.mag) : x.d * 2 ^ i ≤ x.n := by
  have d0 := hx.d0
  have m := Rat.mul_le_mul_of_nonneg_right h (Rat.le_of_lt (cast_pos d0))
  have e1 : x.mag * (x.d : Rat) = (x.n : Rat) * (2 : Rat) ^ x.e := by
    unfold XN.mag
    have z := cast_ne d0
    grind
  have e2 : (2 : Rat) ^ k * (x.d : Rat) = ((x.d * 2 ^ i : Nat) : Rat) * (2 : Rat) ^ x.e := by
    rw [← hk, p2add, Rat.natCast_mul, ← p2nat]
    grind
  rw [e1, e2] at m
  have m2 := Rat.le_of_mul_le_mul_right m (p2 x.e)
  exact Rat.natCast_le_natCast.1 m2
theorem rshifted (a k : Nat) (s v : ByteArray) (hs : nbA a = s) (ha : nl a ≤ 16384) (k2 : k ≤ 1000000) (h : nl (a * 2 ^ k) ≤ 16384) (hv : nbA (a * 2 ^ k) = v) (w : World) : Calls Tryz.prog 136 #[.string s, .int .i64 (k : Int)] w fun r w' => r = .returned (.string v) ∧ Below w.heap.size w w' := by
  have F1 := box (lf_up a k v h hv)
  have HS := box hs
  have HA := box ha
  clear hs ha h hv
  have B0 : Below w.heap.size w w := (Below.refl _ _)
  go_enter Tryz.func136, Tryz.ntmps136
  go_wp2_with fail
  refine (nat_Left a (k : Int) s v 0 HS.out HA.out (by omega) F1.out _).mono ?_
  rintro r w1 ⟨rfl, b1⟩
  have B1 : Below w.heap.size w w1 := btr B0 b1
  clear b1 B0 
  go_wp2
  go_ret
  exact ⟨rfl, B1⟩

set_option maxRecDepth 100000 in
set_option maxHeartbeats 2000000 in
theorem rTop_ok (b : Bool) (n d : Nat) (e : Int) (s t : ByteArray) (T : Int) (hs : nbA n = s) (ht : nbA d = t) (n0 : n ≠ 0) (hc : (XN.mk b n d e).can) (hr : topX (XN.mk b n d e) = T) (w : World) : Calls Tryz.prog 89 #[.agg #[.bool b, .string s, .string t, .int .i64 e]] w fun r w' => r = .returned (.tuple #[.int .i64 T, .int .i64 0]) ∧ Below w.heap.size w w' := by
  have e0 := eq_nil n s hs n0
  have d0 : d ≠ 0 := hc.d0
  have ln : nl n ≤ 16384 := hc.1
  have ld : nl d ≤ 16384 := hc.2.1
  have he : -1048576 ≤ e ∧ e ≤ 1048576 := ⟨hc.2.2.1, hc.2.2.2.1⟩
  obtain ⟨l1, l2⟩ := tAB_nl (XN.mk b n d e) n0 d0 ln ld
  obtain ⟨x, hx⟩ : ∃ x, blen n = x := ⟨_, rfl⟩
  obtain ⟨y, hy⟩ : ∃ x, blen d = x := ⟨_, rfl⟩
  have x2 : x ≤ 131072 := by unfold nl at ln; omega
  have y2 : y ≤ 131072 := by unfold nl at ld; omega
  have HS := box hs
  have HT := box ht
  have LN := box ln
  have LD := box ld
  have HX := box hx
  have HY := box hy
  by_cases hk0 : y ≤ x
  · obtain ⟨k, hk⟩ : ∃ k : Nat, x - y = k := ⟨_, rfl⟩
    have hlen : lenD (XN.mk b n d e) = (k : Int) := by unfold lenD; show (blen n : Int) - (blen d : Int) = k; rw [hx, hy]; omega
    have eA : tA (XN.mk b n d e) = n := by unfold tA; rw [hlen, show (max (-(k : Int)) 0).toNat = 0 by omega, Nat.pow_zero, Nat.mul_one]
    have eB : tB (XN.mk b n d e) = d * 2 ^ k := by unfold tB; rw [hlen, show (max (k : Int) 0).toNat = k by omega]
    rw [eB] at l2
    obtain ⟨q, hq⟩ : ∃ p, nbA (d * 2 ^ k) = p := ⟨_, rfl⟩
    obtain ⟨c, hcm⟩ : ∃ c, cmpv n (d * 2 ^ k) = c := ⟨_, rfl⟩
    have HF := box (fun w => rshifted d k t q ht ld (by omega) l2 hq w)
    have HQ := box hq
    have HC := box hcm
    have m1 : IntKind.i64.wrap ((x : Int) - (y : Int)) = (k : Int) := by rw [wrap_i64_is _ (by omega) (by omega)]; omega
    have m5 : IntKind.i64.wrap ((k : Int) - 1) = (k : Int) - 1 := wrap_i64_is _ (by omega) (by omega)
    have m6 : IntKind.i64.wrap ((k : Int) - 1 + e) = (k : Int) - 1 + e := wrap_i64_is _ (by omega) (by omega)
    have m7 : IntKind.i64.wrap ((k : Int) + e) = (k : Int) + e := wrap_i64_is _ (by omega) (by omega)
    have g0 : decide ((0 : Int) ≤ (k : Int)) = true := decide_eq_true (by omega)
    have hT2 : T = (if n < d * 2 ^ k then (k : Int) - 1 else (k : Int)) + e := by rw [← hr]; unfold topX; rw [eA, eB, hlen]
    by_cases hl : n < d * 2 ^ k
    · rw [if_pos hl] at hT2
      have g1 : decide ((0 : Int) ≤ c) = false := decide_eq_false (by have := (cmpv_neg n (d * 2 ^ k)).2 hl; omega)
      subst hT2
      clear hs ht hc hr n0 d0 ln ld he l1 l2 hx hy hk0 hk hlen eA eB hq hcm hl
      obtain ⟨Rx_0, B0⟩ := opn1 w (Obj.cells #[.bool b, .string s, .string t, .int .i64 e] 89)
      go_enter Tryz.func89, Tryz.ntmps89
      go_wp2_with fail
      go_quiet (fail)
      obtain ⟨w1, hw, B1, hh⟩ := quiet_world B0 nq
      rw [hw]
      have Rx_1 : w1.heap[w.heap.size]? = some (Obj.cells #[.bool b, .string s, .string t, .int .i64 e] 89) := by rw [hh]; exact Rx_0
      clear hw hh B0 Rx_0
      obtain ⟨cx_1_0, cx_1_1, cx_1_2, cx_1_3⟩ := cells4s Rx_1
      go_wp2_with fail
      refine (nat_Len n x s HS.out LN.out HX.out _).mono ?_
      rintro r w' ⟨rfl, rfl⟩
      go_wp2_with fail
      refine (nat_Len d y t HT.out LD.out HY.out _).mono ?_
      rintro r w' ⟨rfl, rfl⟩
      go_wp2_with fail
      refine (HF.out _).mono ?_
      rintro r w2 ⟨rfl, b2⟩
      have B2 : Below w.heap.size w w2 := btr B1 b2
      have Rx_2 := heap_of b2 _ _ _ Rx_1
      clear b2 B1 Rx_1 cx_1_0 cx_1_1 cx_1_2 cx_1_3
      obtain ⟨cx_2_0, cx_2_1, cx_2_2, cx_2_3⟩ := cells4s Rx_2
      go_wp2_with fail
      refine (nat_cmp n (d * 2 ^ k) s q c HS.out HQ.out HC.out _).mono ?_
      rintro r w' ⟨rfl, rfl⟩
      go_wp2
      go_ret2
      exact ⟨rfl, B2⟩
    · rw [if_neg hl] at hT2
      have g1 : decide ((0 : Int) ≤ c) = true := decide_eq_true (by have := mt (cmpv_neg n (d * 2 ^ k)).1 hl; omega)
      subst hT2
      clear hs ht hc hr n0 d0 ln ld he l1 l2 hx hy hk0 hk hlen eA eB hq hcm hl
      obtain ⟨Rx_0, B0⟩ := opn1 w (Obj.cells #[.bool b, .string s, .string t, .int .i64 e] 89)
      go_enter Tryz.func89, Tryz.ntmps89
      go_wp2_with fail
      go_quiet (fail)
      obtain ⟨w1, hw, B1, hh⟩ := quiet_world B0 nq
      rw [hw]
      have Rx_1 : w1.heap[w.heap.size]? = some (Obj.cells #[.bool b, .string s, .string t, .int .i64 e] 89) := by rw [hh]; exact Rx_0
      clear hw hh B0 Rx_0
      obtain ⟨cx_1_0, cx_1_1, cx_1_2, cx_1_3⟩ := cells4s Rx_1
      go_wp2_with fail
      refine (nat_Len n x s HS.out LN.out HX.out _).mono ?_
      rintro r w' ⟨rfl, rfl⟩
      go_wp2_with fail
      refine (nat_Len d y t HT.out LD.out HY.out _).mono ?_
      rintro r w' ⟨rfl, rfl⟩
      go_wp2_with fail
      refine (HF.out _).mono ?_
      rintro r w2 ⟨rfl, b2⟩
      have B2 : Below w.heap.size w w2 := btr B1 b2
      have Rx_2 := heap_of b2 _ _ _ Rx_1
      clear b2 B1 Rx_1 cx_1_0 cx_1_1 cx_1_2 cx_1_3
      obtain ⟨cx_2_0, cx_2_1, cx_2_2, cx_2_3⟩ := cells4s Rx_2
      go_wp2_with fail
      refine (nat_cmp n (d * 2 ^ k) s q c HS.out HQ.out HC.out _).mono ?_
      rintro r w' ⟨rfl, rfl⟩
      go_wp2
      go_ret2
      exact ⟨rfl, B2⟩
  · obtain ⟨k, hk⟩ : ∃ k : Nat, y - x = k := ⟨_, rfl⟩
    have k1 : 1 ≤ k := by omega
    have hlen : lenD (XN.mk b n d e) = -(k : Int) := by unfold lenD; show (blen n : Int) - (blen d : Int) = -(k : Int); rw [hx, hy]; omega
    have eA : tA (XN.mk b n d e) = n * 2 ^ k := by unfold tA; rw [hlen, show (max (- -(k : Int)) 0).toNat = k by omega]
    have eB : tB (XN.mk b n d e) = d := by unfold tB; rw [hlen, show (max (-(k : Int)) 0).toNat = 0 by omega, Nat.pow_zero, Nat.mul_one]
    rw [eA] at l1
    obtain ⟨q, hq⟩ : ∃ p, nbA (n * 2 ^ k) = p := ⟨_, rfl⟩
    obtain ⟨c, hcm⟩ : ∃ c, cmpv (n * 2 ^ k) d = c := ⟨_, rfl⟩
    have HF := box (fun w => rshifted n k s q hs ln (by omega) l1 hq w)
    have HQ := box hq
    have HC := box hcm
    obtain ⟨K, hK⟩ : ∃ K : Int, -(k : Int) = K := ⟨_, rfl⟩
    have m1 : IntKind.i64.wrap ((x : Int) - (y : Int)) = K := by rw [wrap_i64_is _ (by omega) (by omega)]; omega
    have m2 : IntKind.i64.wrap (-K) = (k : Int) := by rw [wrap_i64_is _ (by omega) (by omega)]; omega
    have m5 : IntKind.i64.wrap (K - 1) = K - 1 := wrap_i64_is _ (by omega) (by omega)
    have m6 : IntKind.i64.wrap (K - 1 + e) = K - 1 + e := wrap_i64_is _ (by omega) (by omega)
    have m7 : IntKind.i64.wrap (K + e) = K + e := wrap_i64_is _ (by omega) (by omega)
    have g0 : decide ((0 : Int) ≤ K) = false := decide_eq_false (by omega)
    have hT2 : T = (if n * 2 ^ k < d then K - 1 else K) + e := by rw [← hr]; unfold topX; rw [eA, eB, hlen, hK]
    by_cases hl : n * 2 ^ k < d
    · rw [if_pos hl] at hT2
      have g1 : decide ((0 : Int) ≤ c) = false := decide_eq_false (by have := (cmpv_neg (n * 2 ^ k) d).2 hl; omega)
      subst hT2
      clear hs ht hc hr n0 d0 ln ld he l1 l2 hx hy hk0 hk hlen eA eB hq hcm hl hK
      obtain ⟨Rx_0, B0⟩ := opn1 w (Obj.cells #[.bool b, .string s, .string t, .int .i64 e] 89)
      go_enter Tryz.func89, Tryz.ntmps89
      go_wp2_with fail
      go_quiet (fail)
      obtain ⟨w1, hw, B1, hh⟩ := quiet_world B0 nq
      rw [hw]
      have Rx_1 : w1.heap[w.heap.size]? = some (Obj.cells #[.bool b, .string s, .string t, .int .i64 e] 89) := by rw [hh]; exact Rx_0
      clear hw hh B0 Rx_0
      obtain ⟨cx_1_0, cx_1_1, cx_1_2, cx_1_3⟩ := cells4s Rx_1
      go_wp2_with fail
      refine (nat_Len n x s HS.out LN.out HX.out _).mono ?_
      rintro r w' ⟨rfl, rfl⟩
      go_wp2_with fail
      refine (nat_Len d y t HT.out LD.out HY.out _).mono ?_
      rintro r w' ⟨rfl, rfl⟩
      go_wp2_with fail
      refine (HF.out _).mono ?_
      rintro r w2 ⟨rfl, b2⟩
      have B2 : Below w.heap.size w w2 := btr B1 b2
      have Rx_2 := heap_of b2 _ _ _ Rx_1
      clear b2 B1 Rx_1 cx_1_0 cx_1_1 cx_1_2 cx_1_3
      obtain ⟨cx_2_0, cx_2_1, cx_2_2, cx_2_3⟩ := cells4s Rx_2
      go_wp2_with fail
      refine (nat_cmp (n * 2 ^ k) d q t c HQ.out HT.out HC.out _).mono ?_
      rintro r w' ⟨rfl, rfl⟩
      go_wp2
      go_ret2
      exact ⟨rfl, B2⟩
    · rw [if_neg hl] at hT2
      have g1 : decide ((0 : Int) ≤ c) = true := decide_eq_true (by have := mt (cmpv_neg (n * 2 ^ k) d).1 hl; omega)
      subst hT2
      clear hs ht hc hr n0 d0 ln ld he l1 l2 hx hy hk0 hk hlen eA eB hq hcm hl hK
      obtain ⟨Rx_0, B0⟩ := opn1 w (Obj.cells #[.bool b, .string s, .string t, .int .i64 e] 89)
      go_enter Tryz.func89, Tryz.ntmps89
      go_wp2_with fail
      go_quiet (fail)
      obtain ⟨w1, hw, B1, hh⟩ := quiet_world B0 nq
      rw [hw]
      have Rx_1 : w1.heap[w.heap.size]? = some (Obj.cells #[.bool b, .string s, .string t, .int .i64 e] 89) := by rw [hh]; exact Rx_0
      clear hw hh B0 Rx_0
      obtain ⟨cx_1_0, cx_1_1, cx_1_2, cx_1_3⟩ := cells4s Rx_1
      go_wp2_with fail
      refine (nat_Len n x s HS.out LN.out HX.out _).mono ?_
      rintro r w' ⟨rfl, rfl⟩
      go_wp2_with fail
      refine (nat_Len d y t HT.out LD.out HY.out _).mono ?_
      rintro r w' ⟨rfl, rfl⟩
      go_wp2_with fail
      refine (HF.out _).mono ?_
      rintro r w2 ⟨rfl, b2⟩
      have B2 : Below w.heap.size w w2 := btr B1 b2
      have Rx_2 := heap_of b2 _ _ _ Rx_1
      clear b2 B1 Rx_1 cx_1_0 cx_1_1 cx_1_2 cx_1_3
      obtain ⟨cx_2_0, cx_2_1, cx_2_2, cx_2_3⟩ := cells4s Rx_2
      go_wp2_with fail
      refine (nat_cmp (n * 2 ^ k) d q t c HQ.out HT.out HC.out _).mono ?_
      rintro r w' ⟨rfl, rfl⟩
      go_wp2
      go_ret2
      exact ⟨rfl, B2⟩
set_option maxRecDepth 100000 in
set_option maxHeartbeats 2000000 in
theorem rFloor_ok (b : Bool) (n d : Nat) (e : Int) (s t : ByteArray) (k : Int) (m : Nat) (is : Bool) (err : Int) (v : ByteArray) (hs : nbA n = s) (ht : nbA d = t) (hc : (XN.mk b n d e).can) (k1 : -9223372036854775808 ≤ k) (k2 : k ≤ 9223372036854775807)
    (hr : flX (XN.mk b n d e) k = ((m, is), err)) (hv : nbA m = v) (w : World) : Calls Tryz.prog 51 #[.agg #[.bool b, .string s, .string t, .int .i64 e], .int .i64 k] w fun r w' => r = .returned (.tuple #[.string v, .bool is, .int .i64 err]) ∧ Below w.heap.size w w' := by
  unfold flX at hr
  by_cases hk : k < -2097152 ∨ 2097152 < k
  · rw [if_pos hk] at hr
    cases hr
    rw [nbA_zero] at hv
    subst hv
    have c12 : decide (k < -2097152) = true ∨ (decide (k < -2097152) = false ∧ decide (2097152 < k) = true) := by
      by_cases hh : k < -2097152
      · exact Or.inl (decide_eq_true hh)
      · exact Or.inr ⟨decide_eq_false hh, decide_eq_true (by omega)⟩
    clear hs ht hc k1 k2 hk
    rcases c12 with c1 | ⟨c1, c2⟩
    · obtain ⟨Rx_0, B0⟩ := opn1 w (Obj.cells #[.bool b, .string s, .string t, .int .i64 e] 89)
      go_enter Tryz.func51, Tryz.ntmps51
      go_wp2
      go_ret3
      exact ⟨rfl, B0⟩
    · obtain ⟨Rx_0, B0⟩ := opn1 w (Obj.cells #[.bool b, .string s, .string t, .int .i64 e] 89)
      go_enter Tryz.func51, Tryz.ntmps51
      go_wp2
      go_ret3
      exact ⟨rfl, B0⟩
  rw [if_neg hk] at hr
  have c1 : decide (k < -2097152) = false := decide_eq_false (by omega)
  have c2 : decide (2097152 < k) = false := decide_eq_false (by omega)
  rcases x_cases hs ht hc with ⟨n0, rfl, rfl, rfl, rfl, rfl⟩ | ⟨n0, e0⟩
  · rw [if_pos n0] at hr
    cases hr
    rw [nbA_zero] at hv
    subst hv
    clear hs ht hc k1 k2 hk n0
    obtain ⟨Rx_0, B0⟩ := opn1 w (Obj.cells #[.bool false, .string ⟨#[]⟩, .string ⟨#[1]⟩, .int .i64 0] 89)
    go_enter Tryz.func51, Tryz.ntmps51
    go_wp2
    go_ret3
    exact ⟨rfl, B0⟩
  rw [if_neg n0] at hr
  have he : -1048576 ≤ e ∧ e ≤ 1048576 := ⟨hc.2.2.1, hc.2.2.2.1⟩
  have HS := box hs
  have HT := box ht
  have LN := box hc.1
  have LD := box hc.2.1
  have D0 := box hc.d0
  by_cases hek : k ≤ e
  · rw [if_pos hek] at hr
    obtain ⟨i, hi⟩ : ∃ i, (e - k).toNat = i := ⟨_, rfl⟩
    have m1 : IntKind.i64.wrap (e - k) = (i : Int) := by rw [wrap_i64_is _ (by omega) (by omega)]; omega
    have hr2 : (if nl (n * 2 ^ i) ≤ 16384 then ((n * 2 ^ i / d, decide (n * 2 ^ i % d = 0)), (0 : Int)) else ((0, false), 4)) = ((m, is), err) := by rw [← hi]; exact hr
    have d2 : decide (k ≤ e) = true := decide_eq_true hek
    have i2 : i ≤ 100000000 := by omega
    by_cases hl : nl (n * 2 ^ i) ≤ 16384
    · rw [if_pos hl] at hr2
      cases hr2
      obtain ⟨p, hp⟩ : ∃ p, nbA (n * 2 ^ i) = p := ⟨_, rfl⟩
      obtain ⟨y, hy⟩ : ∃ y, nbA (n * 2 ^ i % d) = y := ⟨_, rfl⟩
      have F1 := box (lf_up n i p hl hp)
      have e3 : (y.toList == []) = decide (n * 2 ^ i % d = 0) := by
        rw [eq_empty, ← hy, nbA_size, Bool.eq_iff_iff, decide_eq_true_iff, decide_eq_true_iff]
        exact ⟨nl_eq0 _, fun h => by rw [h]; exact nl_zero⟩
      obtain ⟨o, ho⟩ : ∃ o, decide (n * 2 ^ i % d = 0) = o := ⟨_, rfl⟩
      rw [ho] at e3 ⊢
      have HP := box hp
      have HY := box hy
      have HL := box hl
      have HV := box hv
      clear hs ht hc k1 k2 hk n0 he hek hi hr hp hy hl ho hv
      obtain ⟨Rx_0, B0⟩ := opn1 w (Obj.cells #[.bool b, .string s, .string t, .int .i64 e] 89)
      go_enter Tryz.func51, Tryz.ntmps51
      go_wp2_with fail
      go_quiet (fail)
      obtain ⟨w1, hw, B1, hh⟩ := quiet_world B0 nq
      rw [hw]
      have Rx_1 : w1.heap[w.heap.size]? = some (Obj.cells #[.bool b, .string s, .string t, .int .i64 e] 89) := by rw [hh]; exact Rx_0
      clear hw hh B0 Rx_0
      obtain ⟨cx_1_0, cx_1_1, cx_1_2, cx_1_3⟩ := cells4s Rx_1
      go_wp2_with fail
      refine (nat_Left n (i : Int) s p 0 HS.out LN.out (by omega) F1.out _).mono ?_
      rintro r w2 ⟨rfl, b2⟩
      have B2 : Below w.heap.size w w2 := btr B1 b2
      have Rx_2 := heap_of b2 _ _ _ Rx_1
      clear b2 B1 Rx_1 cx_1_0 cx_1_1 cx_1_2 cx_1_3
      obtain ⟨cx_2_0, cx_2_1, cx_2_2, cx_2_3⟩ := cells4s Rx_2
      go_wp2_with fail
      refine (nat_Div (n * 2 ^ i) d p t v y HP.out HT.out HL.out D0.out HV.out HY.out _).mono ?_
      rintro r w3 ⟨rfl, b3⟩
      have B3 : Below w.heap.size w w3 := btr B2 b3
      have Rx_3 := heap_of b3 _ _ _ Rx_2
      clear b3 B2 Rx_2 cx_2_0 cx_2_1 cx_2_2 cx_2_3
      obtain ⟨cx_3_0, cx_3_1, cx_3_2, cx_3_3⟩ := cells4s Rx_3
      go_wp2
      go_ret3
      exact ⟨rfl, B3⟩
    · rw [if_neg hl] at hr2
      cases hr2
      rw [nbA_zero] at hv
      subst hv
      have F1 : Box (lf n (i : Int) = (⟨#[]⟩, 4)) := box (by unfold lf; rw [if_neg (by omega), Int.toNat_natCast]; exact lg_no _ hl)
      clear hs ht hc k1 k2 hk n0 he hek hi hr hl
      obtain ⟨Rx_0, B0⟩ := opn1 w (Obj.cells #[.bool b, .string s, .string t, .int .i64 e] 89)
      go_enter Tryz.func51, Tryz.ntmps51
      go_wp2_with fail
      go_quiet (fail)
      obtain ⟨w1, hw, B1, hh⟩ := quiet_world B0 nq
      rw [hw]
      have Rx_1 : w1.heap[w.heap.size]? = some (Obj.cells #[.bool b, .string s, .string t, .int .i64 e] 89) := by rw [hh]; exact Rx_0
      clear hw hh B0 Rx_0
      obtain ⟨cx_1_0, cx_1_1, cx_1_2, cx_1_3⟩ := cells4s Rx_1
      go_wp2_with fail
      refine (nat_Left n (i : Int) s _ 4 HS.out LN.out (by omega) F1.out _).mono ?_
      rintro r w2 ⟨rfl, b2⟩
      have B2 : Below w.heap.size w w2 := btr B1 b2
      have Rx_2 := heap_of b2 _ _ _ Rx_1
      clear b2 B1 Rx_1 cx_1_0 cx_1_1 cx_1_2 cx_1_3
      obtain ⟨cx_2_0, cx_2_1, cx_2_2, cx_2_3⟩ := cells4s Rx_2
      go_wp2
      go_ret3
      exact ⟨rfl, B2⟩
  · rw [if_neg hek] at hr
    have d2 : decide (k ≤ e) = false := decide_eq_false hek
    obtain ⟨T, hTop⟩ : ∃ T, topX (XN.mk b n d e) = T := ⟨_, rfl⟩
    have HF := box (fun w => rTop_ok b n d e s t T hs ht n0 hc hTop w)
    have ht2 := top_good (XN.mk b n d e) n0 hc.d0
    rw [hTop] at hr ht2
    by_cases hlt : T < k
    · rw [if_pos hlt] at hr
      cases hr
      rw [nbA_zero] at hv
      subst hv
      have d1 : decide (T < k) = true := decide_eq_true hlt
      clear hs ht hc k1 k2 hk n0 he hek hTop hlt ht2
      obtain ⟨Rx_0, B0⟩ := opn1 w (Obj.cells #[.bool b, .string s, .string t, .int .i64 e] 89)
      go_enter Tryz.func51, Tryz.ntmps51
      go_wp2_with fail
      go_quiet (fail)
      obtain ⟨w1, hw, B1, hh⟩ := quiet_world B0 nq
      rw [hw]
      have Rx_1 : w1.heap[w.heap.size]? = some (Obj.cells #[.bool b, .string s, .string t, .int .i64 e] 89) := by rw [hh]; exact Rx_0
      clear hw hh B0 Rx_0
      obtain ⟨cx_1_0, cx_1_1, cx_1_2, cx_1_3⟩ := cells4s Rx_1
      go_wp2_with fail
      refine (HF.out _).mono ?_
      rintro r w2 ⟨rfl, b2⟩
      have B2 : Below w.heap.size w w2 := btr B1 b2
      have Rx_2 := heap_of b2 _ _ _ Rx_1
      clear b2 B1 Rx_1 cx_1_0 cx_1_1 cx_1_2 cx_1_3
      obtain ⟨cx_2_0, cx_2_1, cx_2_2, cx_2_3⟩ := cells4s Rx_2
      go_wp2
      go_ret3
      exact ⟨rfl, B2⟩
    · rw [if_neg hlt] at hr
      cases hr
      obtain ⟨i, hi⟩ : ∃ i, (k - e).toNat = i := ⟨_, rfl⟩
      have hv2 : nbA (n / (d * 2 ^ i)) = v := by rw [← hi]; exact hv
      have m1 : IntKind.i64.wrap (k - e) = (i : Int) := by rw [wrap_i64_is _ (by omega) (by omega)]; omega
      have i2 : i ≤ 100000000 := by omega
      have hle := below_top (XN.mk b n d e) k i hc (by show e + (i : Int) = k; omega) (by
        have h1 := ht2.1
        exact Rat.le_trans (p2mono k T (by omega)) h1)
      have hle2 : d * 2 ^ i ≤ n := hle
      have L3 : nl (d * 2 ^ i) ≤ 16384 := Nat.le_trans (nl_mono _ _ hle2) hc.1
      obtain ⟨p, hp⟩ : ∃ p, nbA (d * 2 ^ i) = p := ⟨_, rfl⟩
      obtain ⟨y, hy⟩ : ∃ y, nbA (n % (d * 2 ^ i)) = y := ⟨_, rfl⟩
      have F1 := box (lf_up d i p L3 hp)
      have i1 : 1 ≤ i := by omega
      have hz : n % (d * 2 ^ i) ≠ 0 := by
        intro hm
        obtain ⟨z, hz⟩ : ∃ z, i = z + 1 := ⟨i - 1, by omega⟩
        rw [hz, Nat.pow_succ, ← Nat.mul_assoc] at hm
        obtain ⟨q, hq⟩ := Nat.dvd_of_mod_eq_zero hm
        have : n % 2 = 1 := (hc.odd n0).1
        rw [hq, Nat.mul_assoc, Nat.mul_assoc, Nat.mul_left_comm (2 ^ z) 2, Nat.mul_left_comm d 2, Nat.mul_mod_right] at this
        omega
      have e3 := eq_nil _ y hy hz
      have d1 : decide (T < k) = false := decide_eq_false hlt
      have HP := box hp
      have HY := box hy
      have HV := box hv2
      have D3 : Box (d * 2 ^ i ≠ 0) := box (mul_ne hc.d0 (Nat.pos_iff_ne_zero.1 (Nat.two_pow_pos _)))
      clear hs ht hc k1 k2 hk n0 he hek hTop hlt ht2 hi hv hv2 hle hle2 L3 hp hy hz
      obtain ⟨Rx_0, B0⟩ := opn1 w (Obj.cells #[.bool b, .string s, .string t, .int .i64 e] 89)
      go_enter Tryz.func51, Tryz.ntmps51
      go_wp2_with fail
      go_quiet (fail)
      obtain ⟨w1, hw, B1, hh⟩ := quiet_world B0 nq
      rw [hw]
      have Rx_1 : w1.heap[w.heap.size]? = some (Obj.cells #[.bool b, .string s, .string t, .int .i64 e] 89) := by rw [hh]; exact Rx_0
      clear hw hh B0 Rx_0
      obtain ⟨cx_1_0, cx_1_1, cx_1_2, cx_1_3⟩ := cells4s Rx_1
      go_wp2_with fail
      refine (HF.out _).mono ?_
      rintro r w2 ⟨rfl, b2⟩
      have B2 : Below w.heap.size w w2 := btr B1 b2
      have Rx_2 := heap_of b2 _ _ _ Rx_1
      clear b2 B1 Rx_1 cx_1_0 cx_1_1 cx_1_2 cx_1_3
      obtain ⟨cx_2_0, cx_2_1, cx_2_2, cx_2_3⟩ := cells4s Rx_2
      go_wp2_with fail
      refine (nat_Left d (i : Int) t p 0 HT.out LD.out (by omega) F1.out _).mono ?_
      rintro r w3 ⟨rfl, b3⟩
      have B3 : Below w.heap.size w w3 := btr B2 b3
      have Rx_3 := heap_of b3 _ _ _ Rx_2
      clear b3 B2 Rx_2 cx_2_0 cx_2_1 cx_2_2 cx_2_3
      obtain ⟨cx_3_0, cx_3_1, cx_3_2, cx_3_3⟩ := cells4s Rx_3
      go_wp2_with fail
      refine (nat_Div n (d * 2 ^ i) s p v y HS.out HP.out LN.out D3.out HV.out HY.out _).mono ?_
      rintro r w4 ⟨rfl, b4⟩
      have B4 : Below w.heap.size w w4 := btr B3 b4
      have Rx_4 := heap_of b4 _ _ _ Rx_3
      clear b4 B3 Rx_3 cx_3_0 cx_3_1 cx_3_2 cx_3_3
      obtain ⟨cx_4_0, cx_4_1, cx_4_2, cx_4_3⟩ := cells4s Rx_4
      go_wp2
      go_ret3
      exact ⟨rfl, B4⟩
end Go.Proofs.YtlpelcfaakfmiaaGreatDoor
namespace Go.Proofs.YtlpelcfaakfmiaaGreatDoor
set_option maxRecDepth 100000
set_option maxHeartbeats 40000000
set_option maxRecDepth 100000
open Go.RowKit WMath
theorem bal7 (w : World) (o : Obj) : Below w.heap.size w (w.alloc o) := (Below.refl _ _).alloc (Nat.le_refl _) _
theorem btr7 {a b c : World} (h : Below a.heap.size a b) (k : Below b.heap.size b c) : Below a.heap.size a c := h.trans (k.mono h.size)

def fcells : Array Value := #[.int .i64 32, .int .i64 24, .int .i64 127, .string ⟨#[115]⟩, .int .i64 64, .int .i64 53, .int .i64 1023, .string ⟨#[100]⟩, .int .i64 16, .int .i64 11, .int .i64 15, .string ⟨#[104]⟩, .int .i64 128, .int .i64 113, .int .i64 16383, .string ⟨#[113]⟩]
def xcells : List (Nat × Nat × Value) := [(0, 0, .int .u64 2147483648), (0, 1, .int .u64 0), (0, 2, .int .u64 0), (0, 3, .int .u64 0), (0, 4, .int .u64 0), (0, 5, .int .u64 0), (0, 6, .int .u64 0), (0, 7, .int .u64 0), (0, 8, .int .u64 0), (0, 9, .int .u64 0), (0, 10, .int .u64 0), (0, 11, .int .u64 0), (0, 12, .int .u64 9223372036854775808), (0, 13, .int .u64 0), (0, 14, .int .u64 0), (0, 15, .int .u64 0), (0, 16, .int .u64 0), (0, 17, .int .u64 0), (0, 18, .int .u64 0), (0, 19, .int .u64 0), (0, 20, .int .u64 0), (0, 21, .int .u64 0), (0, 22, .int .u64 0), (0, 23, .int .u64 0), (1, 0, .int .u64 2147483647), (1, 1, .int .u64 0), (1, 2, .int .u64 0), (1, 3, .int .u64 0), (1, 4, .int .u64 0), (1, 5, .int .u64 0), (1, 6, .int .u64 4294967295), (1, 7, .int .u64 0), (1, 8, .int .u64 0), (1, 9, .int .u64 0), (1, 10, .int .u64 0), (1, 11, .int .u64 0), (1, 12, .int .u64 9223372036854775807), (1, 13, .int .u64 0), (1, 14, .int .u64 0), (1, 15, .int .u64 0), (1, 16, .int .u64 0), (1, 17, .int .u64 0), (1, 18, .int .u64 18446744073709551615), (1, 19, .int .u64 0), (1, 20, .int .u64 0), (1, 21, .int .u64 0), (1, 22, .int .u64 0), (1, 23, .int .u64 0)]
def FAt (w : World) : Prop := (∀ i, i < 16 → w.cell? ⟨2, i, none⟩ = fcells[i]?) ∧ ∀ p, p ∈ xcells → w.cell? ⟨p.1, p.2.1, none⟩ = some p.2.2
theorem fc_some (i : Nat) (h : i < 16) : ∃ v, fcells[i]? = some v := ⟨_, Array.getElem?_eq_getElem (show i < fcells.size from h)⟩
theorem fatB {w w' : World} (h : FAt w) (hb : Below w.heap.size w w') : FAt w' := ⟨fun i hi => by
  obtain ⟨v, hv⟩ := fc_some i hi
  rw [hb.cell (p := ⟨2, i, none⟩) (World.block_lt_of_cell? w _ ((h.1 i hi).trans hv))]
  exact h.1 i hi, fun p hp => by
  rw [hb.cell (p := ⟨p.1, p.2.1, none⟩) (World.block_lt_of_cell? w _ (h.2 p hp))]
  exact h.2 p hp⟩
theorem fat_at {w : World} (h : FAt w) (i : Nat) (v : Value) (hi : i < 16) (hv : fcells[i]? = some v) : w.cell? ⟨2, i, none⟩ = some v := (h.1 i hi).trans hv
theorem fat_x {w : World} (h : FAt w) (k b i : Nat) (v : Value) (hv : xcells[k]? = some (b, i, v)) : w.cell? ⟨b, i, none⟩ = some v := h.2 _ (List.mem_of_getElem? hv)

theorem fat_al {w : World} (h : FAt w) (o : Obj) : FAt (w.alloc o) := fatB h (bal7 w o)
theorem fat_dr {w : World} (h : FAt w) : FAt w.drew := h

def fW (f : Int) : Int := if f = 0 then 32 else if f = 1 then 64 else if f = 2 then 16 else if f = 3 then 128 else 0
def fP (f : Int) : Int := if f = 0 then 24 else if f = 1 then 53 else if f = 2 then 11 else if f = 3 then 113 else 0
def fE (f : Int) : Int := if f = 0 then 127 else if f = 1 then 1023 else if f = 2 then 15 else if f = 3 then 16383 else 0
def fN (f : Int) : ByteArray := if f = 0 then ⟨#[115]⟩ else if f = 1 then ⟨#[100]⟩ else if f = 2 then ⟨#[104]⟩ else if f = 3 then ⟨#[113]⟩ else ⟨#[]⟩
def fR (f : Int) : Array Value := #[.int .i64 (fW f), .int .i64 (fP f), .int .i64 (fE f), .string (fN f)]
def fC (f : Int) : Int := if f = 0 ∨ f = 1 ∨ f = 2 ∨ f = 3 then 0 else 2

theorem f_cases (f : Int) (h0 : 0 ≤ f) : f = 0 ∨ f = 1 ∨ f = 2 ∨ f = 3 ∨ 4 ≤ f := by omega

theorem s_check (f : Int) (h0 : 0 ≤ f) (h1 : f ≤ 255) (w : World) :
    Calls Tryz.prog 108 #[.int .u8 f] w fun e w' => e = .returned (.int .i64 (fC f)) ∧ w' = w := by
  by_cases h : 4 ≤ f
  · have e : fC f = 2 := by unfold fC; rw [if_neg (by omega)]
    rw [e]
    have hd : decide ((4 : Int) ≤ f) = true := by simp [h]
    go_enter Tryz.func108, Tryz.ntmps108
    go_wp2
    go_ret
    exact ⟨rfl, rfl⟩
  · have e : fC f = 0 := by unfold fC; rw [if_pos (by omega)]
    rw [e]
    have hd : decide ((4 : Int) ≤ f) = false := by simp; omega
    go_enter Tryz.func108, Tryz.ntmps108
    go_wp2
    go_ret
    exact ⟨rfl, rfl⟩

theorem s_check_is (f c : Int) (h0 : 0 ≤ f) (h1 : f ≤ 255) (hc : fC f = c) (w : World) :
    Calls Tryz.prog 108 #[.int .u8 f] w fun e w' => e = .returned (.int .i64 c) ∧ w' = w := by
  subst hc; exact s_check f h0 h1 w

theorem s_checkMode (f : Int) (w : World) :
    Calls Tryz.prog 137 #[.int .u8 f] w fun e w' => e = .returned (.int .i64 (if f ≤ 4 then 0 else 2)) ∧ w' = w := by
  by_cases h : 4 < f
  · rw [if_neg (by omega)]
    go_enter Tryz.func137, Tryz.ntmps137
    go_wp2
    go_ret
    exact ⟨rfl, rfl⟩
  · rw [if_pos (by omega)]
    go_enter Tryz.func137, Tryz.ntmps137
    go_wp2
    go_ret
    exact ⟨rfl, rfl⟩

theorem s_of (f : Int) (h0 : 0 ≤ f) (h1 : f ≤ 255) (w : World) (hT : FAt w) :
    Calls Tryz.prog 140 #[.int .u8 f] w fun e w' => e = .returned (.agg #[.int .i64 (fW f), .int .i64 (fP f), .int .i64 (fE f), .string (fN f)]) ∧ w' = w.alloc (.cells (fR f) 152) := by
  have hB := bal7 w (.cells #[.int .i64 0, .int .i64 0, .int .i64 0, .string ⟨#[]⟩] 152)
  have T2 := fatB hT hB
  rcases f_cases f h0 with rfl | rfl | rfl | rfl | h
  · have c0 := fat_at T2 0 (.int .i64 32) (by decide) rfl
    have c1 := fat_at T2 1 (.int .i64 24) (by decide) rfl
    have c2 := fat_at T2 2 (.int .i64 127) (by decide) rfl
    have c3 := fat_at T2 3 (.string ⟨#[115]⟩) (by decide) rfl
    clear T2 hT
    go_enter Tryz.func140, Tryz.ntmps140
    go_wp2_with fail
    refine (s_check_is 0 0 (by omega) (by omega) rfl _).mono ?_
    rintro r w' ⟨rfl, rfl⟩
    go_wp2
    exact bodyPost_ret (v := .agg #[.int .i64 32, .int .i64 24, .int .i64 127, .string ⟨#[115]⟩]) (by simp [results, Tryz.results140, go_sem]) rfl ⟨rfl, rfl⟩
  · have c0 := fat_at T2 4 (.int .i64 64) (by decide) rfl
    have c1 := fat_at T2 5 (.int .i64 53) (by decide) rfl
    have c2 := fat_at T2 6 (.int .i64 1023) (by decide) rfl
    have c3 := fat_at T2 7 (.string ⟨#[100]⟩) (by decide) rfl
    clear T2 hT
    go_enter Tryz.func140, Tryz.ntmps140
    go_wp2_with fail
    refine (s_check_is 1 0 (by omega) (by omega) rfl _).mono ?_
    rintro r w' ⟨rfl, rfl⟩
    go_wp2
    exact bodyPost_ret (v := .agg #[.int .i64 64, .int .i64 53, .int .i64 1023, .string ⟨#[100]⟩]) (by simp [results, Tryz.results140, go_sem]) rfl ⟨rfl, rfl⟩
  · have c0 := fat_at T2 8 (.int .i64 16) (by decide) rfl
    have c1 := fat_at T2 9 (.int .i64 11) (by decide) rfl
    have c2 := fat_at T2 10 (.int .i64 15) (by decide) rfl
    have c3 := fat_at T2 11 (.string ⟨#[104]⟩) (by decide) rfl
    clear T2 hT
    go_enter Tryz.func140, Tryz.ntmps140
    go_wp2_with fail
    refine (s_check_is 2 0 (by omega) (by omega) rfl _).mono ?_
    rintro r w' ⟨rfl, rfl⟩
    go_wp2
    exact bodyPost_ret (v := .agg #[.int .i64 16, .int .i64 11, .int .i64 15, .string ⟨#[104]⟩]) (by simp [results, Tryz.results140, go_sem]) rfl ⟨rfl, rfl⟩
  · have c0 := fat_at T2 12 (.int .i64 128) (by decide) rfl
    have c1 := fat_at T2 13 (.int .i64 113) (by decide) rfl
    have c2 := fat_at T2 14 (.int .i64 16383) (by decide) rfl
    have c3 := fat_at T2 15 (.string ⟨#[113]⟩) (by decide) rfl
    clear T2 hT
    go_enter Tryz.func140, Tryz.ntmps140
    go_wp2_with fail
    refine (s_check_is 3 0 (by omega) (by omega) rfl _).mono ?_
    rintro r w' ⟨rfl, rfl⟩
    go_wp2
    exact bodyPost_ret (v := .agg #[.int .i64 128, .int .i64 113, .int .i64 16383, .string ⟨#[113]⟩]) (by simp [results, Tryz.results140, go_sem]) rfl ⟨rfl, rfl⟩
  · have hd : decide ((4 : Int) ≤ f) = true := by simp [h]
    have e0 : fW f = 0 := by unfold fW; rw [if_neg (by omega), if_neg (by omega), if_neg (by omega), if_neg (by omega)]
    have e1 : fP f = 0 := by unfold fP; rw [if_neg (by omega), if_neg (by omega), if_neg (by omega), if_neg (by omega)]
    have e2 : fE f = 0 := by unfold fE; rw [if_neg (by omega), if_neg (by omega), if_neg (by omega), if_neg (by omega)]
    have e3 : fN f = ⟨#[]⟩ := by unfold fN; rw [if_neg (by omega), if_neg (by omega), if_neg (by omega), if_neg (by omega)]
    have e4 : fC f = 2 := by unfold fC; rw [if_neg (by omega)]
    have e5 : fR f = #[.int .i64 0, .int .i64 0, .int .i64 0, .string ⟨#[]⟩] := by unfold fR; rw [e0, e1, e2, e3]
    rw [e0, e1, e2, e3, e5]
    clear T2 hT e0 e1 e2 e3 e5
    go_enter Tryz.func140, Tryz.ntmps140
    go_wp2_with fail
    refine (s_check_is f 2 (by omega) (by omega) e4 _).mono ?_
    rintro r w' ⟨rfl, rfl⟩
    go_wp2
    exact bodyPost_ret (v := .agg #[.int .i64 0, .int .i64 0, .int .i64 0, .string ⟨#[]⟩]) (by simp [results, Tryz.results140, go_sem]) rfl ⟨rfl, rfl⟩

theorem s_of_is (f w0 p0 m0 : Int) (n0 : ByteArray) (h0 : 0 ≤ f) (h1 : f ≤ 255) (hw : fW f = w0) (hp : fP f = p0) (he : fE f = m0) (hn : fN f = n0) (w : World) (hT : FAt w) :
    Calls Tryz.prog 140 #[.int .u8 f] w fun e w' => e = .returned (.agg #[.int .i64 w0, .int .i64 p0, .int .i64 m0, .string n0]) ∧ w' = w.alloc (.cells (fR f) 152) := by
  subst hw hp he hn
  exact s_of f h0 h1 w hT

theorem fld0 (a b c d : Value) (w : World) : (Instr.field 152 (.agg #[a, b, c, d]) 0).run Tryz.prog w = .ok a w := by kernel_rfl
theorem fld1 (a b c d : Value) (w : World) : (Instr.field 152 (.agg #[a, b, c, d]) 1).run Tryz.prog w = .ok b w := by kernel_rfl
theorem fld2 (a b c d : Value) (w : World) : (Instr.field 152 (.agg #[a, b, c, d]) 2).run Tryz.prog w = .ok c w := by kernel_rfl
theorem s_width (f v : Int) (h0 : 0 ≤ f) (h1 : f ≤ 255) (hv : fW f = v) (w : World) (hT : FAt w) :
    Calls Tryz.prog 107 #[.int .u8 f] w fun e w' => e = .returned (.int .i64 v) ∧ w' = w.alloc (.cells (fR f) 152) := by
  have hl := fld0
  go_enter Tryz.func107, Tryz.ntmps107
  go_wp2_with fail
  refine (s_of_is f v _ _ _ h0 h1 hv rfl rfl rfl _ hT).mono ?_
  rintro r w2 ⟨rfl, rfl⟩
  go_wp2
  go_ret
  exact ⟨rfl, rfl⟩
theorem s_precision (f v : Int) (h0 : 0 ≤ f) (h1 : f ≤ 255) (hv : fP f = v) (w : World) (hT : FAt w) :
    Calls Tryz.prog 112 #[.int .u8 f] w fun e w' => e = .returned (.int .i64 v) ∧ w' = w.alloc (.cells (fR f) 152) := by
  have hl := fld1
  go_enter Tryz.func112, Tryz.ntmps112
  go_wp2_with fail
  refine (s_of_is f _ v _ _ h0 h1 rfl hv rfl rfl _ hT).mono ?_
  rintro r w2 ⟨rfl, rfl⟩
  go_wp2
  go_ret
  exact ⟨rfl, rfl⟩
theorem s_emax (f v : Int) (h0 : 0 ≤ f) (h1 : f ≤ 255) (hv : fE f = v) (w : World) (hT : FAt w) :
    Calls Tryz.prog 102 #[.int .u8 f] w fun e w' => e = .returned (.int .i64 v) ∧ w' = w.alloc (.cells (fR f) 152) := by
  have hl := fld2
  go_enter Tryz.func102, Tryz.ntmps102
  go_wp2_with fail
  refine (s_of_is f _ _ v _ h0 h1 rfl rfl hv rfl _ hT).mono ?_
  rintro r w2 ⟨rfl, rfl⟩
  go_wp2
  go_ret
  exact ⟨rfl, rfl⟩

theorem s_emin (f m v : Int) (h0 : 0 ≤ f) (h1 : f ≤ 255) (hm : fE f = m) (hv : (if fC f = 0 then 1 - m else 0) = v) (w : World) (hT : FAt w) :
    Calls Tryz.prog 101 #[.int .u8 f] w fun e w' => e = .returned (.int .i64 v) ∧ Below w.heap.size w w' := by
  obtain ⟨c, hc⟩ : ∃ c, fC f = c := ⟨_, rfl⟩
  rw [hc] at hv
  have hm2 : 0 ≤ m ∧ m ≤ 16383 := by rw [← hm]; unfold fE; split <;> (try split) <;> (try split) <;> (try split) <;> omega
  by_cases h : c = 0
  · rw [if_pos h] at hv
    subst h hv
    have hw : IntKind.i64.wrap (1 - m) = 1 - m := by rw [IntKind.wrap_i64]; omega
    go_enter Tryz.func101, Tryz.ntmps101
    go_wp2_with fail
    refine (s_check_is f 0 h0 h1 hc _).mono ?_
    rintro r w' ⟨rfl, rfl⟩
    go_wp2_with fail
    refine (s_emax f m h0 h1 hm _ hT).mono ?_
    rintro r w2 ⟨rfl, rfl⟩
    go_wp2
    go_ret
    exact ⟨rfl, bal7 _ _⟩
  · have hd : (c != 0) = true := by simp [h]
    rw [if_neg h] at hv
    subst hv
    go_enter Tryz.func101, Tryz.ntmps101
    go_wp2_with fail
    refine (s_check_is f c h0 h1 hc _).mono ?_
    rintro r w' ⟨rfl, rfl⟩
    go_wp2
    go_ret
    exact ⟨rfl, Below.refl _ _⟩

def rHi (x n : Int) : Int := bits .or .u64 (IntKind.u64.wrap (x * 2 ^ min (IntKind.u64.wrap (n - 64)).toNat 64)) (x / 2 ^ min (IntKind.u64.wrap (64 - n)).toNat 64)
def rLo (x n : Int) : Int := IntKind.u64.wrap (x * 2 ^ min n.toNat 64)

theorem cell7 {w : World} {g : Nat} {T : TypeId} {c : Array Value} (row : w.heap[g]? = some (.cells c T)) (k : Nat) (v : Value) (h : c[k]? = some v) : w.cell? ⟨g, k, none⟩ = some v := by
  simp [World.cell?, row, h]
theorem set2_below {n : Nat} {w wr : World} {b : Nat} (h : Below n w wr) (hb : n ≤ b) (v0 v1 : Value) : Below n w ((wr.setCell ⟨b, 0, none⟩ v0).setCell ⟨b, 1, none⟩ v1) := (h.setCell (by exact hb) _).setCell (by exact hb) _
theorem set2_row {w : World} {b : Nat} {c0 c1 : Value} {T : TypeId} (h : w.heap[b]? = some (.cells #[c0, c1] T)) (v0 v1 : Value) :
    ((w.setCell ⟨b, 0, none⟩ v0).setCell ⟨b, 1, none⟩ v1).heap[b]? = some (.cells #[v0, v1] T) := by
  rw [setCell_row (setCell_row h)]; rfl
theorem set2_cells {w : World} {b : Nat} {c0 c1 : Value} {T : TypeId} (h : w.heap[b]? = some (.cells #[c0, c1] T)) (v0 v1 : Value) :
    ((w.setCell ⟨b, 0, none⟩ v0).setCell ⟨b, 1, none⟩ v1).cell? ⟨b, 0, none⟩ = some v0 ∧ ((w.setCell ⟨b, 0, none⟩ v0).setCell ⟨b, 1, none⟩ v1).cell? ⟨b, 1, none⟩ = some v1 := by
  have r := set2_row h v0 v1
  exact ⟨cell7 r 0 _ rfl, cell7 r 1 _ rfl⟩
theorem last7 (w : World) (o : Obj) : (w.alloc o).heap[w.heap.size]? = some o := heap_alloc_last w o

def b2 (a b : Int) : Array Value := #[.int .u64 a, .int .u64 b]

theorem s_raised (x n H L : Int) (h0 : 0 ≤ n) (h1 : n ≤ 18446744073709551615) (hH : rHi x n = H) (hL : rLo x n = L) (w : World) :
    Calls Tryz.prog 143 #[.int .u64 x, .int .u64 n] w fun e w' => e = .returned (.agg #[.int .u64 H, .int .u64 L]) ∧ w' = w.alloc (.cells #[.int .u64 H, .int .u64 L] 27) := by
  obtain ⟨m, rfl⟩ := Int.eq_ofNat_of_zero_le h0
  subst hH hL
  go_enter Tryz.func143, Tryz.ntmps143
  go_wp2
  exact bodyPost_ret (v := .agg #[.int .u64 (rHi x m), .int .u64 (rLo x m)]) (by simp [results, Tryz.results143, go_sem, rHi, rLo]) rfl ⟨rfl, by simp [rHi, rLo]⟩

theorem s_join (a b c d H L : Int) (hH : bits .or .u64 a c = H) (hL : bits .or .u64 b d = L) (w : World) :
    Calls Tryz.prog 150 #[.agg #[.int .u64 a, .int .u64 b], .agg #[.int .u64 c, .int .u64 d]] w fun e w' => e = .returned (.agg #[.int .u64 H, .int .u64 L]) ∧ w' = ((w.alloc (.cells #[.int .u64 a, .int .u64 b] 27)).alloc (.cells #[.int .u64 c, .int .u64 d] 27)).alloc (.cells #[.int .u64 H, .int .u64 L] 27) := by
  go_enter Tryz.func150, Tryz.ntmps150
  go_wp2
  exact bodyPost_ret (v := .agg #[.int .u64 H, .int .u64 L]) (by simp [results, Tryz.results150, go_sem]) rfl ⟨rfl, rfl⟩

theorem s_ones (n H L : Int) (h0 : 0 ≤ n) (h1 : n ≤ 18446744073709551615) (hH : rHi 1 n = H) (hL : rLo 1 n = L) (K M : Int) (hK : (if L = 0 then IntKind.u64.wrap (H - 1) else H) = K) (hM : IntKind.u64.wrap (L - 1) = M) (w : World) :
    Calls Tryz.prog 106 #[.int .u64 n] w fun e w' => e = .returned (.agg #[.int .u64 K, .int .u64 M]) ∧ Below w.heap.size w w' := by
  by_cases hz : L = 0
  · have hd : (L == 0) = true := by simp [hz]
    rw [if_pos hz] at hK
    subst hz
    rw [show (0 : Int) - 1 = -1 by decide] at hM
    go_enter Tryz.func106, Tryz.ntmps106
    go_wp2_with fail
    refine (s_raised 1 n H _ h0 h1 hH hL _).mono ?_
    rintro r w2 ⟨rfl, rfl⟩
    go_wp2
    exact bodyPost_ret (v := .agg #[.int .u64 K, .int .u64 M]) (by simp [results, Tryz.results106, go_sem]) rfl ⟨rfl, (((Below.refl _ _).alloc (Nat.le_refl _) _).alloc (by simp only [size_al]; omega) _).alloc (by simp only [size_al]; omega) _⟩
  · have hd : (L == 0) = false := by simp [hz]
    rw [if_neg hz] at hK
    subst hK
    go_enter Tryz.func106, Tryz.ntmps106
    go_wp2_with fail
    refine (s_raised 1 n H _ h0 h1 hH hL _).mono ?_
    rintro r w2 ⟨rfl, rfl⟩
    go_wp2
    exact bodyPost_ret (v := .agg #[.int .u64 H, .int .u64 M]) (by simp [results, Tryz.results106, go_sem]) rfl ⟨rfl, (((Below.refl _ _).alloc (Nat.le_refl _) _).alloc (by simp only [size_al]; omega) _).alloc (by simp only [size_al]; omega) _⟩

theorem s_fraction (f p v : Int) (h0 : 0 ≤ f) (h1 : f ≤ 255) (hp : fP f = p) (hv : IntKind.u64.wrap (p - 1) = v) (w : World) (hT : FAt w) :
    Calls Tryz.prog 151 #[.int .u8 f] w fun e w' => e = .returned (.int .u64 v) ∧ w' = w.alloc (.cells (fR f) 152) := by
  have hm2 : 0 ≤ p ∧ p ≤ 113 := by rw [← hp]; unfold fP; split <;> (try split) <;> (try split) <;> (try split) <;> omega
  have hw : IntKind.i64.wrap (p - 1) = p - 1 := by rw [IntKind.wrap_i64]; omega
  go_enter Tryz.func151, Tryz.ntmps151
  go_wp2_with fail
  refine (s_precision f p h0 h1 hp _ hT).mono ?_
  rintro r w2 ⟨rfl, rfl⟩
  go_wp2
  go_ret
  exact ⟨rfl, rfl⟩

theorem s_top (f q p d v : Int) (h0 : 0 ≤ f) (h1 : f ≤ 255) (hq : fW f = q) (hp : fP f = p) (hd : q - p = d) (h2 : 0 ≤ d) (hv : IntKind.u64.wrap (IntKind.u64.wrap (2 ^ min d.toNat 64) - 1) = v) (w : World) (hT : FAt w) :
    Calls Tryz.prog 147 #[.int .u8 f] w fun e w' => e = .returned (.int .u64 v) ∧ Below w.heap.size w w' := by
  have hm1 : 0 ≤ q ∧ q ≤ 128 := by rw [← hq]; unfold fW; split <;> (try split) <;> (try split) <;> (try split) <;> omega
  have hm2 : 0 ≤ p ∧ p ≤ 113 := by rw [← hp]; unfold fP; split <;> (try split) <;> (try split) <;> (try split) <;> omega
  go_enter Tryz.func147, Tryz.ntmps147
  go_wp2_with fail
  refine (s_width f q h0 h1 hq _ hT).mono ?_
  rintro r w2 ⟨rfl, rfl⟩
  go_wp2_with fail
  refine (s_precision f p h0 h1 hp _ (fatB hT (bal7 _ _))).mono ?_
  rintro r w3 ⟨rfl, rfl⟩
  go_wp2
  go_ret
  exact ⟨rfl, btr7 (bal7 _ _) (bal7 _ _)⟩

def pV (f : Int) : Nat := (fP f).toNat - 1
def wV (f : Int) : Nat := (fW f).toNat - 1
def oV (f : Int) : Nat := 2 * (fE f).toNat + 1
def enc7 (f : Int) (neg : Bool) (e t : Nat) : Nat := e * 2 ^ pV f + t + (if neg then 2 ^ wV f else 0)
def bv7 (v : Nat) : Nat × Nat := (v / 18446744073709551616, v % 18446744073709551616)
def eInf (f : Int) (neg : Bool) : Nat := enc7 f neg (oV f) 0
def eZero (f : Int) (neg : Bool) : Nat := enc7 f neg 0 0
def eGreatest (f : Int) (neg : Bool) : Nat := enc7 f neg (oV f - 1) (2 ^ pV f - 1)
def Is4 (f : Int) : Prop := f = 0 ∨ f = 1 ∨ f = 2 ∨ f = 3
theorem is4_ok {f : Int} (h : Is4 f) : 0 ≤ f ∧ f ≤ 255 ∧ fC f = 0 ∧ 0 ≤ fW f - fP f := by
  rcases h with rfl | rfl | rfl | rfl <;> decide +kernel

def R7 (w : World) (I J : Int) (w5 : World) (g : Nat) : Prop := Below w.heap.size w w5 ∧ w5.heap[g]? = some (.cells #[.int .u64 I, .int .u64 J] 27) ∧ w5.heap[w.heap.size + 1]? = some (.cells #[.int .u64 0, .int .u64 0] 27) ∧ w.heap.size + 1 < g
theorem cut7 {G C : Prop} (h : G → C) (k : G) : C := h k
theorem bel_al {w W : World} (h : Below w.heap.size w W) (o : Obj) : Below w.heap.size w (W.alloc o) := btr7 h (bal7 _ _)
theorem bel_dr {w W : World} (h : Below w.heap.size w W) : Below w.heap.size w W.drew := h.drew
theorem row_al {W : World} {b : Nat} {o : Obj} (h : W.heap[b]? = some o) (o' : Obj) : (W.alloc o').heap[b]? = some o := by
  rw [heap_below W b o' (Array.getElem?_eq_some_iff.1 h).1]; exact h
theorem row_dr {W : World} {b : Nat} {o : Obj} (h : W.heap[b]? = some o) : W.drew.heap[b]? = some o := h
theorem row_last {W : World} {b : Nat} {o : Obj} (h : b = W.heap.size) : (W.alloc o).heap[b]? = some o := by subst h; exact heap_alloc_last W o
theorem gen7 {X : Act → World → Prop} {t0 t1 t2 t3 t4 t5 t6 t7 t8 t10 t11 t12 t13 t14 t15 t16 t17 t18 t19 t20 t21 t22 t23 t24 t25 t26 t27 t28 : Value} {d : List Deferred} {w W : World} {I J : Int} {G : Nat}
    (key : ∀ w5 g, R7 w I J w5 g → X ⟨#[t0, t1, t2, t3, t4, t5, t6, t7, t8, .pointer (some ⟨g, 0, none⟩), t10, t11, t12, t13, t14, t15, t16, t17, t18, t19, t20, t21, t22, t23, t24, t25, t26, t27, t28], d⟩ w5) (r : R7 w I J W G) :
    X ⟨#[t0, t1, t2, t3, t4, t5, t6, t7, t8, .pointer (some ⟨G, 0, none⟩), t10, t11, t12, t13, t14, t15, t16, t17, t18, t19, t20, t21, t22, t23, t24, t25, t26, t27, t28], d⟩ W := key W G r

set_option maxHeartbeats 40000000 in
theorem s_pack_any (f x a b p n H L I J q m M N I' J' : Int) (neg : Bool) (h0 : 0 ≤ f) (h1 : f ≤ 255) (hc : fC f = 0) (hp : fP f = p) (hn : IntKind.u64.wrap (p - 1) = n) (n0 : 0 ≤ n) (n1 : n ≤ 18446744073709551615)
    (hH : rHi x n = H) (hL : rLo x n = L) (hI : bits .or .u64 H a = I) (hJ : bits .or .u64 L b = J) (hq : fW f = q) (hm : q - 1 = m) (m0 : 0 ≤ m) (m1 : m ≤ 127) (hM : rHi 1 m = M) (hN : rLo 1 m = N) (hI' : bits .or .u64 I M = I') (hJ' : bits .or .u64 J N = J') (w : World) (hT : FAt w) :
    Calls Tryz.prog 139 #[.int .u8 f, .bool neg, .int .u64 x, .agg #[.int .u64 a, .int .u64 b]] w fun e w' => e = .returned (.agg #[.int .u64 (if neg then I' else I), .int .u64 (if neg then J' else J)]) ∧ Below w.heap.size w w' := by
  have k1 : Box (∀ w : World, FAt w → Calls Tryz.prog 151 #[.int .u8 f] w fun e w' => e = .returned (.int .u64 n) ∧ w' = w.alloc (.cells (fR f) 152)) := box (fun w hw => s_fraction f p n h0 h1 hp hn w hw)
  have k2 := box (s_raised x n H L n0 n1 hH hL)
  have k3 := box (s_join H L a b I J hI hJ)
  have k0 := box (s_check_is f 0 h0 h1 hc)
  have k4 : Box (∀ w : World, FAt w → Calls Tryz.prog 107 #[.int .u8 f] w fun e w' => e = .returned (.int .i64 q) ∧ w' = w.alloc (.cells (fR f) 152)) := box (fun w hw => s_width f q h0 h1 hq w hw)
  have k5 := box (s_raised 1 m M N m0 (by omega) hM hN)
  have k6 := box (s_join I J M N I' J' hI' hJ')
  have T0 := box hT
  have TT := box (fatB hT (btr7 (bal7 w (.cells #[.int .u64 a, .int .u64 b] 27)) (bal7 _ (.cells #[.int .u64 0, .int .u64 0] 27))))
  have e1 : IntKind.i64.wrap (q - 1) = m := by rw [hm, IntKind.wrap_i64]; omega
  have e2 : IntKind.u64.wrap m = m := by rw [IntKind.wrap_u64]; omega
  have e3 : IntKind.i64.wrap m = m := by rw [IntKind.wrap_i64]; omega
  clear hT hp hn hH hL hI hJ hc h0 h1 n0 n1 hq hM hN hI' hJ' m0 m1 hm
  go_enter Tryz.func139, Tryz.ntmps139
  go_wp2_with fail
  refine (k0.out _).mono ?_
  rintro r w' ⟨rfl, rfl⟩
  go_wp2_with fail
  apply cut7
  · intro key
    go_region_with (first
      | (go_at_call 151; refine (k1.out _ (by repeat (first | exact TT.out | refine fat_al ?_ _ | refine fat_dr ?_))).mono ?_; rintro r w2 ⟨rfl, rfl⟩)
      | (go_at_call 143; refine (k2.out _).mono ?_; rintro r w2 ⟨rfl, rfl⟩)
      | (go_at_call 150; refine (k3.out _).mono ?_; rintro r w2 ⟨rfl, rfl⟩))
    all_goals
      refine gen7 (w := w) (I := I) (J := J) key ⟨?_, ?_, ?_, ?_⟩
      · repeat (first | exact Below.refl _ _ | refine bel_dr ?_ | refine bel_al ?_ _)
      · repeat (first | refine row_dr ?_ | (refine row_last ?_; simp only [size_al]; done) | refine row_al ?_ _)
      · repeat (first | refine row_dr ?_ | (refine row_last ?_; simp only [size_al]; done) | refine row_al ?_ _)
      · omega
  rintro w5 g ⟨B5, R5, S5, hg⟩
  have F5 := box (fatB T0.out B5)
  have c50 := cell7 R5 0 _ rfl
  have c51 := cell7 R5 1 _ rfl
  cases neg
  · have q0 := fz (k := 0) S5
    have q1 := fz (k := 1) S5
    have d0 := cell7 S5 0 _ rfl
    have d1 := cell7 S5 1 _ rfl
    obtain ⟨E0, E1⟩ := set2_cells S5 (.int .u64 I) (.int .u64 J)
    go_wp2
    exact bodyPost_ret (v := .agg #[.int .u64 I, .int .u64 J]) (by simp [results, Tryz.results139, go_sem, E0, E1]) rfl ⟨rfl, set2_below B5 (by omega) _ _⟩
  · have r1 := row_al R5 (.cells (fR f) 152)
    have r2 := row_al r1 (.cells #[.int .u64 M, .int .u64 N] 27)
    have r5 := row_al (row_al (row_al r2 (.cells #[.int .u64 I, .int .u64 J] 27)) (.cells #[.int .u64 M, .int .u64 N] 27)) (.cells #[.int .u64 I', .int .u64 J'] 27)
    have s5 := row_al (row_al (row_al (row_al (row_al S5 (.cells (fR f) 152)) (.cells #[.int .u64 M, .int .u64 N] 27)) (.cells #[.int .u64 I, .int .u64 J] 27)) (.cells #[.int .u64 M, .int .u64 N] 27)) (.cells #[.int .u64 I', .int .u64 J'] 27)
    have Q5 : Box (R7 w I' J' _ g) := box ⟨set2_below (bel_al (bel_al (bel_al (bel_al (bel_al B5 _) _) _) _) _) (by omega) (.int .u64 I') (.int .u64 J'), set2_row r5 _ _, by rw [setCell_other (by omega), setCell_other (by omega)]; exact s5, hg⟩
    have c10 := cell7 r1 0 _ rfl
    have c11 := cell7 r1 1 _ rfl
    have c20 := cell7 r2 0 _ rfl
    have c21 := cell7 r2 1 _ rfl
    have q0 := fz (k := 0) r5
    have q1 := fz (k := 1) r5
    have e50 := cell7 r5 0 _ rfl
    have e51 := cell7 r5 1 _ rfl
    clear r1 r2 r5 s5
    go_wp2_with fail
    apply cut7
    · intro key
      go_region_with (first
        | (go_at_call 107; refine (k4.out _ (by repeat (first | exact F5.out | refine fat_al ?_ _ | refine fat_dr ?_))).mono ?_; rintro r w2 ⟨rfl, rfl⟩)
        | (go_at_call 143; refine (k5.out _).mono ?_; rintro r w2 ⟨rfl, rfl⟩)
        | (go_at_call 150; refine (k6.out _).mono ?_; rintro r w2 ⟨rfl, rfl⟩))
      all_goals
        refine gen7 (w := w) (I := I') (J := J') key ?_
        exact ⟨bel_dr Q5.out.1, row_dr Q5.out.2.1, row_dr Q5.out.2.2.1, hg⟩
    clear R5 S5 F5 c50 c51 c10 c11 c20 c21 q0 q1 e50 e51 B5
    rintro w6 g6 ⟨B6, R6, S6, hg6⟩
    have c60 := cell7 R6 0 _ rfl
    have c61 := cell7 R6 1 _ rfl
    have q0 := fz (k := 0) S6
    have q1 := fz (k := 1) S6
    have d0 := cell7 S6 0 _ rfl
    have d1 := cell7 S6 1 _ rfl
    obtain ⟨E0, E1⟩ := set2_cells S6 (.int .u64 I') (.int .u64 J')
    go_wp2
    exact bodyPost_ret (v := .agg #[.int .u64 I', .int .u64 J']) (by simp [results, Tryz.results139, go_sem, E0, E1]) rfl ⟨rfl, set2_below B6 (by omega) _ _⟩
def pkHi (f : Int) (neg : Bool) (x a : Int) : Int := if neg then bits .or .u64 (bits .or .u64 (rHi x (IntKind.u64.wrap (fP f - 1))) a) (rHi 1 (fW f - 1)) else bits .or .u64 (rHi x (IntKind.u64.wrap (fP f - 1))) a
def pkLo (f : Int) (neg : Bool) (x b : Int) : Int := if neg then bits .or .u64 (bits .or .u64 (rLo x (IntKind.u64.wrap (fP f - 1))) b) (rLo 1 (fW f - 1)) else bits .or .u64 (rLo x (IntKind.u64.wrap (fP f - 1))) b

theorem s_pack_is (f x a b I J : Int) (neg : Bool) (hf : Is4 f) (hI : pkHi f neg x a = I) (hJ : pkLo f neg x b = J) (w : World) (hT : FAt w) :
    Calls Tryz.prog 139 #[.int .u8 f, .bool neg, .int .u64 x, .agg #[.int .u64 a, .int .u64 b]] w fun e w' => e = .returned (.agg #[.int .u64 I, .int .u64 J]) ∧ Below w.heap.size w w' := by
  subst hI hJ
  have k : 0 ≤ IntKind.u64.wrap (fP f - 1) ∧ IntKind.u64.wrap (fP f - 1) ≤ 18446744073709551615 ∧ 0 ≤ fW f - 1 ∧ fW f - 1 ≤ 127 ∧ fC f = 0 ∧ 0 ≤ f ∧ f ≤ 255 := by
    rcases hf with rfl | rfl | rfl | rfl <;> decide +kernel
  have h := s_pack_any f x a b _ _ _ _ _ _ _ _ _ _ _ _ neg k.2.2.2.2.2.1 k.2.2.2.2.2.2 k.2.2.2.2.1 rfl rfl k.1 k.2.1 rfl rfl rfl rfl rfl rfl k.2.2.1 k.2.2.2.1 rfl rfl rfl rfl w hT
  refine h.mono ?_
  rintro r w' ⟨rfl, b⟩
  refine ⟨?_, b⟩
  cases neg <;> rfl

theorem top7 {f : Int} (h : Is4 f) : IntKind.u64.wrap (IntKind.u64.wrap (2 ^ min (fW f - fP f).toNat 64) - 1) = (oV f : Int) := by
  rcases h with rfl | rfl | rfl | rfl <;> decide +kernel

theorem s_top_is (f : Int) (hf : Is4 f) (w : World) (hT : FAt w) :
    Calls Tryz.prog 147 #[.int .u8 f] w fun e w' => e = .returned (.int .u64 (oV f : Nat)) ∧ Below w.heap.size w w' :=
  s_top f _ _ _ _ (is4_ok hf).1 (is4_ok hf).2.1 rfl rfl rfl (is4_ok hf).2.2.2 (top7 hf) w hT

theorem pk_Inf {f : Int} (h : Is4 f) (neg : Bool) : pkHi f neg ((oV f : Nat)) (0) = ((bv7 (eInf f neg)).1 : Nat) ∧ pkLo f neg ((oV f : Nat)) (0) = ((bv7 (eInf f neg)).2 : Nat) := by
  rcases h with rfl | rfl | rfl | rfl <;> cases neg <;> decide +kernel
theorem pk_Zero {f : Int} (h : Is4 f) (neg : Bool) : pkHi f neg (0) (0) = ((bv7 (eZero f neg)).1 : Nat) ∧ pkLo f neg (0) (0) = ((bv7 (eZero f neg)).2 : Nat) := by
  rcases h with rfl | rfl | rfl | rfl <;> cases neg <;> decide +kernel
set_option maxHeartbeats 1000000 in
theorem s_inf (f : Int) (neg : Bool) (hf : Is4 f) (v : Nat) (hv : eInf f neg = v) (w : World) (hT : FAt w) :
    Calls Tryz.prog 122 #[.int .u8 f, .bool neg] w fun e w' => e = .returned (bitsV (bv7 v)) ∧ Below w.heap.size w w' := by
  subst hv
  have TT := box hT
  have P := box (pk_Inf hf neg)
  obtain ⟨x, y, hxy⟩ : ∃ x y, bv7 (eInf f neg) = (x, y) := ⟨_, _, rfl⟩
  rw [hxy] at P ⊢
  have e0 : bitsV (x, y) = .agg #[.int .u64 (x : Nat), .int .u64 (y : Nat)] := rfl
  rw [e0]
  have f4 := is4_ok hf
  clear hxy hT e0
  have R0 : (w.alloc (.cells #[.int .u64 0, .int .u64 0] 27)).heap[w.heap.size]? = some (.cells #[.int .u64 0, .int .u64 0] 27) := last7 _ _
  have B0 := bal7 w (.cells #[.int .u64 0, .int .u64 0] 27)
  go_enter Tryz.func122, Tryz.ntmps122
  go_wp2_with fail
  refine (s_top_is f hf _ (fatB TT.out B0)).mono ?_
  rintro r w1 ⟨rfl, b1⟩
  have B1 := btr7 B0 b1
  have R1 := heap_of b1 _ _ _ R0
  clear B0 R0 b1
  go_wp2_with fail
  refine (s_pack_is f _ 0 0 _ _ neg hf P.out.1 P.out.2 _ (fatB TT.out B1)).mono ?_
  rintro r w2 ⟨rfl, b2⟩
  have B2 := btr7 B1 b2
  have R2 := heap_of b2 _ _ _ R1
  clear B1 R1 b2
  have q0 := fz (k := 0) R2
  have q1 := fz (k := 1) R2
  have d0 := cell7 R2 0 _ rfl
  have d1 := cell7 R2 1 _ rfl
  obtain ⟨E0, E1⟩ := set2_cells R2 (.int .u64 x) (.int .u64 y)
  go_wp2
  exact bodyPost_ret (v := .agg #[.int .u64 x, .int .u64 y]) (by simp [results, Tryz.results122, go_sem, E0, E1]) rfl ⟨rfl, set2_below B2 (by omega) _ _⟩

set_option maxHeartbeats 1000000 in
theorem s_zero (f : Int) (neg : Bool) (hf : Is4 f) (v : Nat) (hv : eZero f neg = v) (w : World) (hT : FAt w) :
    Calls Tryz.prog 96 #[.int .u8 f, .bool neg] w fun e w' => e = .returned (bitsV (bv7 v)) ∧ Below w.heap.size w w' := by
  subst hv
  have TT := box hT
  have P := box (pk_Zero hf neg)
  obtain ⟨x, y, hxy⟩ : ∃ x y, bv7 (eZero f neg) = (x, y) := ⟨_, _, rfl⟩
  rw [hxy] at P ⊢
  have e0 : bitsV (x, y) = .agg #[.int .u64 (x : Nat), .int .u64 (y : Nat)] := rfl
  rw [e0]
  have f4 := is4_ok hf
  clear hxy hT e0
  have R0 : (w.alloc (.cells #[.int .u64 0, .int .u64 0] 27)).heap[w.heap.size]? = some (.cells #[.int .u64 0, .int .u64 0] 27) := last7 _ _
  have B0 := bal7 w (.cells #[.int .u64 0, .int .u64 0] 27)
  go_enter Tryz.func96, Tryz.ntmps96
  go_wp2_with fail
  refine (s_pack_is f 0 0 0 _ _ neg hf P.out.1 P.out.2 _ (fatB TT.out B0)).mono ?_
  rintro r w1 ⟨rfl, b1⟩
  have B1 := btr7 B0 b1
  have R1 := heap_of b1 _ _ _ R0
  clear B0 R0 b1
  have q0 := fz (k := 0) R1
  have q1 := fz (k := 1) R1
  have d0 := cell7 R1 0 _ rfl
  have d1 := cell7 R1 1 _ rfl
  obtain ⟨E0, E1⟩ := set2_cells R1 (.int .u64 x) (.int .u64 y)
  go_wp2
  exact bodyPost_ret (v := .agg #[.int .u64 x, .int .u64 y]) (by simp [results, Tryz.results96, go_sem, E0, E1]) rfl ⟨rfl, set2_below B1 (by omega) _ _⟩

theorem r_right (f : Int) (o : Bool) (ho : decide (f ≤ 3) = o) (w : World) :
    Calls Tryz.prog 44 #[.int .u8 f] w fun e w' => e = .returned (.bool o) ∧ w' = w := by
  go_enter Tryz.func44, Tryz.ntmps44
  go_wp2
  go_ret
  exact ⟨rfl, rfl⟩
theorem r_mode (f : Int) (o : Bool) (ho : decide (f ≤ 4) = o) (w : World) :
    Calls Tryz.prog 21 #[.int .u8 f] w fun e w' => e = .returned (.bool o) ∧ w' = w := by
  go_enter Tryz.func21, Tryz.ntmps21
  go_wp2
  go_ret
  exact ⟨rfl, rfl⟩
theorem r_width (f v : Int) (h0 : 0 ≤ f) (hv : fW f = v) (w : World) :
    Calls Tryz.prog 47 #[.int .u8 f] w fun e w' => e = .returned (.int .i64 v) ∧ w' = w := by
  subst hv
  rcases f_cases f h0 with rfl | rfl | rfl | rfl | h
  · go_enter Tryz.func47, Tryz.ntmps47
    go_wp2
    go_ret
    exact ⟨rfl, rfl⟩
  · go_enter Tryz.func47, Tryz.ntmps47
    go_wp2
    go_ret
    exact ⟨rfl, rfl⟩
  · go_enter Tryz.func47, Tryz.ntmps47
    go_wp2
    go_ret
    exact ⟨rfl, rfl⟩
  · go_enter Tryz.func47, Tryz.ntmps47
    go_wp2
    go_ret
    exact ⟨rfl, rfl⟩
  · have e0 : fW f = 0 := by unfold fW; rw [if_neg (by omega), if_neg (by omega), if_neg (by omega), if_neg (by omega)]
    rw [e0]
    have d0 : (f == 0) = false := by simp; omega
    have d1 : (f == 1) = false := by simp; omega
    have d2 : (f == 2) = false := by simp; omega
    have d3 : (f == 3) = false := by simp; omega
    go_enter Tryz.func47, Tryz.ntmps47
    go_wp2
    go_ret
    exact ⟨rfl, rfl⟩
theorem r_precision (f v : Int) (h0 : 0 ≤ f) (hv : fP f = v) (w : World) :
    Calls Tryz.prog 81 #[.int .u8 f] w fun e w' => e = .returned (.int .i64 v) ∧ w' = w := by
  subst hv
  rcases f_cases f h0 with rfl | rfl | rfl | rfl | h
  · go_enter Tryz.func81, Tryz.ntmps81
    go_wp2
    go_ret
    exact ⟨rfl, rfl⟩
  · go_enter Tryz.func81, Tryz.ntmps81
    go_wp2
    go_ret
    exact ⟨rfl, rfl⟩
  · go_enter Tryz.func81, Tryz.ntmps81
    go_wp2
    go_ret
    exact ⟨rfl, rfl⟩
  · go_enter Tryz.func81, Tryz.ntmps81
    go_wp2
    go_ret
    exact ⟨rfl, rfl⟩
  · have e0 : fP f = 0 := by unfold fP; rw [if_neg (by omega), if_neg (by omega), if_neg (by omega), if_neg (by omega)]
    rw [e0]
    have d0 : (f == 0) = false := by simp; omega
    have d1 : (f == 1) = false := by simp; omega
    have d2 : (f == 2) = false := by simp; omega
    have d3 : (f == 3) = false := by simp; omega
    go_enter Tryz.func81, Tryz.ntmps81
    go_wp2
    go_ret
    exact ⟨rfl, rfl⟩
theorem r_emax (f v : Int) (h0 : 0 ≤ f) (hv : fE f = v) (w : World) :
    Calls Tryz.prog 125 #[.int .u8 f] w fun e w' => e = .returned (.int .i64 v) ∧ w' = w := by
  subst hv
  rcases f_cases f h0 with rfl | rfl | rfl | rfl | h
  · go_enter Tryz.func125, Tryz.ntmps125
    go_wp2
    go_ret
    exact ⟨rfl, rfl⟩
  · go_enter Tryz.func125, Tryz.ntmps125
    go_wp2
    go_ret
    exact ⟨rfl, rfl⟩
  · go_enter Tryz.func125, Tryz.ntmps125
    go_wp2
    go_ret
    exact ⟨rfl, rfl⟩
  · go_enter Tryz.func125, Tryz.ntmps125
    go_wp2
    go_ret
    exact ⟨rfl, rfl⟩
  · have e0 : fE f = 0 := by unfold fE; rw [if_neg (by omega), if_neg (by omega), if_neg (by omega), if_neg (by omega)]
    rw [e0]
    have d0 : (f == 0) = false := by simp; omega
    have d1 : (f == 1) = false := by simp; omega
    have d2 : (f == 2) = false := by simp; omega
    have d3 : (f == 3) = false := by simp; omega
    go_enter Tryz.func125, Tryz.ntmps125
    go_wp2
    go_ret
    exact ⟨rfl, rfl⟩

theorem fE_lim {f m : Int} (h : fE f = m) : 0 ≤ m ∧ m ≤ 16383 := by rw [← h]; unfold fE; split <;> (try split) <;> (try split) <;> (try split) <;> omega
theorem fW_lim {f m : Int} (h : fW f = m) : 0 ≤ m ∧ m ≤ 128 := by rw [← h]; unfold fW; split <;> (try split) <;> (try split) <;> (try split) <;> omega

theorem r_emin (f m v : Int) (h0 : 0 ≤ f) (hm : fE f = m) (hv : (if fC f = 0 then 1 - m else 0) = v) (w : World) :
    Calls Tryz.prog 126 #[.int .u8 f] w fun e w' => e = .returned (.int .i64 v) ∧ w' = w := by
  have hm2 := fE_lim hm
  by_cases h : f ≤ 3
  · have hc : fC f = 0 := by unfold fC; rw [if_pos (by omega)]
    rw [if_pos hc] at hv
    subst hv
    have hw : IntKind.i64.wrap (1 - m) = 1 - m := by rw [IntKind.wrap_i64]; omega
    go_enter Tryz.func126, Tryz.ntmps126
    go_wp2_with fail
    refine (r_right f true (by simp [h]) _).mono ?_
    rintro r w' ⟨rfl, rfl⟩
    go_wp2_with fail
    refine (r_emax f m h0 hm _).mono ?_
    rintro r w' ⟨rfl, rfl⟩
    go_wp2
    go_ret
    exact ⟨rfl, rfl⟩
  · have hc : ¬ fC f = 0 := by unfold fC; rw [if_neg (by omega)]; decide
    rw [if_neg hc] at hv
    subst hv
    go_enter Tryz.func126, Tryz.ntmps126
    go_wp2_with fail
    refine (r_right f false (by simp; omega) _).mono ?_
    rintro r w' ⟨rfl, rfl⟩
    go_wp2
    go_ret
    exact ⟨rfl, rfl⟩

theorem r_ones (f m v : Int) (h0 : 0 ≤ f) (hm : fE f = m) (hv : 2 * m + 1 = v) (w : World) :
    Calls Tryz.prog 83 #[.int .u8 f] w fun e w' => e = .returned (.int .i64 v) ∧ w' = w := by
  have hm2 := fE_lim hm
  have h1 : IntKind.i64.wrap (2 * m) = 2 * m := by rw [IntKind.wrap_i64]; omega
  have h2 : IntKind.i64.wrap (2 * m + 1) = v := by rw [IntKind.wrap_i64]; omega
  go_enter Tryz.func83, Tryz.ntmps83
  go_wp2_with fail
  refine (r_emax f m h0 hm _).mono ?_
  rintro r w' ⟨rfl, rfl⟩
  go_wp2
  go_ret
  exact ⟨rfl, rfl⟩

theorem r_fits_no (f : Int) (b : Nat × Nat) (h : ¬ f ≤ 3) (w : World) :
    Calls Tryz.prog 20 #[.int .u8 f, bitsV b] w fun e w' => e = .returned (.bool false) ∧ Below w.heap.size w w' := by
  unfold bitsV
  go_enter Tryz.func20, Tryz.ntmps20
  go_wp2_with fail
  refine (r_right f false (by simp; omega) _).mono ?_
  rintro r w' ⟨rfl, rfl⟩
  go_wp2
  go_ret
  exact ⟨rfl, bal7 _ _⟩

theorem r_fits (f q : Int) (b : Nat × Nat) (n l : Nat) (o : Bool) (h0 : 0 ≤ f) (h : f ≤ 3) (hq : fW f = q) (hb1 : b.1 < 18446744073709551616) (hb2 : b.2 < 18446744073709551616) (hn : b.2 + 18446744073709551616 * b.1 = n) (hl : blen n = l) (ho : decide ((l : Int) ≤ q) = o) (w : World) :
    Calls Tryz.prog 20 #[.int .u8 f, bitsV b] w fun e w' => e = .returned (.bool o) ∧ Below w.heap.size w w' := by
  unfold bitsV
  go_enter Tryz.func20, Tryz.ntmps20
  go_wp2_with fail
  refine (r_right f true (by simp [h]) _).mono ?_
  rintro r w' ⟨rfl, rfl⟩
  go_wp2_with fail
  refine (rwofbits_is b.1 b.2 n hb1 hb2 hn _).mono ?_
  rintro r w2 ⟨rfl, b2⟩
  go_wp2_with fail
  refine (rwlen_any n (by rw [← hn]; exact bits_ltQ _ _ hb2 hb1) _).mono ?_
  rintro r w3 ⟨rfl, b3⟩
  go_wp2_with fail
  refine (r_width f q h0 hq _).mono ?_
  rintro r w' ⟨rfl, rfl⟩
  go_wp2
  go_ret
  exact ⟨rfl, btr7 (btr7 (bal7 _ _) b2) b3⟩

theorem lt_Q7 {v : Nat} (h : v < 340282366920938463463374607431768211456) : v < Q := by
  have := bits_ltQ (v % 18446744073709551616) (v / 18446744073709551616) (Nat.mod_lt _ (by decide)) (by omega)
  omega
theorem bel_set {w W : World} {b : Nat} {c : Array Value} (h : Below w.heap.size w W) (hb : w.heap.size ≤ b) : Below w.heap.size w (W.setRow b c) := Below.setRow h hb

end Go.Proofs.YtlpelcfaakfmiaaGreatDoor
namespace Go.Proofs.YtlpelcfaakfmiaaGreatDoor
set_option maxRecDepth 100000
set_option maxHeartbeats 40000000
set_option maxRecDepth 100000
open Go.RowKit WMath
set_option linter.unusedVariables false
theorem andnot7 (x c m : Nat) (hx : x < 18446744073709551616) (hc : c ≤ 64) (hm : 2 ^ c - 1 = m) : (bits .andNot .u64 (x : Int) (m : Int) == 0) = decide (x < 2 ^ c) := by
  have e : bits .andNot .u64 (x : Int) (m : Int) = (((BitVec.ofNat 64 x &&& ~~~ BitVec.ofNat 64 m).toNat : Nat) : Int) := by
    show IntKind.u64.wrap ((BitVec.ofInt 64 (x : Int) &&& ~~~ BitVec.ofInt 64 (m : Int)).toNat : Int) = _
    rw [BitVec.ofInt_natCast, BitVec.ofInt_natCast, IntKind.wrap_u64]
    have := (BitVec.ofNat 64 x &&& ~~~ BitVec.ofNat 64 m).isLt
    generalize (BitVec.ofNat 64 x &&& ~~~ BitVec.ofNat 64 m).toNat = t at *
    omega
  rw [e]
  by_cases h : x < 2 ^ c
  · rw [decide_eq_true h]
    have z : BitVec.ofNat 64 x &&& ~~~ BitVec.ofNat 64 m = 0#64 := by
      apply BitVec.eq_of_getLsbD_eq
      intro i hi
      simp only [BitVec.getLsbD_and, BitVec.getLsbD_not, BitVec.getLsbD_ofNat, hi, decide_true, Bool.true_and]
      rw [← hm, Nat.testBit_two_pow_sub_one]
      by_cases hic : i < c
      · simp [hic]
      · rw [Nat.testBit_lt_two_pow (Nat.lt_of_lt_of_le h (Nat.pow_le_pow_right (by decide) (by omega)))]
        simp
    rw [z]
    rfl
  · rw [decide_eq_false h]
    simp only [beq_eq_false_iff_ne, ne_eq]
    intro z
    apply h
    apply Nat.lt_pow_two_of_testBit
    intro i hi
    by_cases h6 : i < 64
    · have z2 : (BitVec.ofNat 64 x &&& ~~~ BitVec.ofNat 64 m).getLsbD i = false := by
        have : BitVec.ofNat 64 x &&& ~~~ BitVec.ofNat 64 m = 0#64 := BitVec.eq_of_toNat_eq (by simpa using (by omega : (BitVec.ofNat 64 x &&& ~~~ BitVec.ofNat 64 m).toNat = 0))
        rw [this]; simp
      simp only [BitVec.getLsbD_and, BitVec.getLsbD_not, BitVec.getLsbD_ofNat, h6, decide_true, Bool.true_and] at z2
      rw [← hm, Nat.testBit_two_pow_sub_one] at z2
      have : decide (i < c) = false := by simp; omega
      rw [this] at z2
      simpa using z2
    · exact Nat.testBit_lt_two_pow (Nat.lt_of_lt_of_le hx (by rw [show 18446744073709551616 = 2 ^ 64 by decide]; exact Nat.pow_le_pow_right (by decide) (by omega)))

def oHi (f : Int) : Int := if rLo 1 (fW f) = 0 then IntKind.u64.wrap (rHi 1 (fW f) - 1) else rHi 1 (fW f)
def oLo (f : Int) : Int := IntKind.u64.wrap (rLo 1 (fW f) - 1)

theorem s_fits_no (f : Int) (b : Nat × Nat) (h0 : 0 ≤ f) (h1 : f ≤ 255) (hc : fC f = 2) (w : World) (hT : FAt w) :
    Calls Tryz.prog 62 #[.int .u8 f, bitsV b] w fun e w' => e = .returned (.bool false) ∧ Below w.heap.size w w' := by
  have hq : fW f = 0 := by
    unfold fC at hc
    unfold fW
    split at hc
    · simp at hc
    · rename_i h; rw [if_neg (fun e => h (Or.inl e)), if_neg (fun e => h (Or.inr (Or.inl e))), if_neg (fun e => h (Or.inr (Or.inr (Or.inl e)))), if_neg (fun e => h (Or.inr (Or.inr (Or.inr e))))]
  have TT := box hT
  unfold bitsV
  have B0 := bal7 w (.cells #[.int .u64 b.1, .int .u64 b.2] 27)
  go_enter Tryz.func62, Tryz.ntmps62
  go_wp2_with fail
  refine (s_width f 0 h0 h1 hq _ (fatB TT.out B0)).mono ?_
  rintro r w' ⟨rfl, rfl⟩
  have B1 := bel_al B0 (.cells (fR f) 152)
  clear B0
  go_wp2_with fail
  refine (s_ones 0 0 1 (by decide) (by decide) rfl rfl 0 0 rfl rfl _).mono ?_
  rintro r w2 ⟨rfl, b2⟩
  have B2 := bel_al (btr7 B1 b2) (.cells #[.int .u64 0, .int .u64 0] 27)
  clear B1 b2
  go_wp2_with fail
  refine (s_check_is f 2 h0 h1 hc _).mono ?_
  rintro r w' ⟨rfl, rfl⟩
  go_wp2
  go_ret
  exact ⟨rfl, B2⟩

set_option maxHeartbeats 1000000 in
theorem s_fits (f : Int) (b : Nat × Nat) (o : Bool) (hf : Is4 f) (hb1 : b.1 < 18446744073709551616) (hb2 : b.2 < 18446744073709551616) (p q : Bool) (hp : (bits .andNot .u64 (b.1 : Int) (oHi f) == 0) = p) (hq : (bits .andNot .u64 (b.2 : Int) (oLo f) == 0) = q) (ho : (p && q) = o) (w : World) (hT : FAt w) :
    Calls Tryz.prog 62 #[.int .u8 f, bitsV b] w fun e w' => e = .returned (.bool o) ∧ Below w.heap.size w w' := by
  have TT := box hT
  have f4 := is4_ok hf
  unfold bitsV
  obtain ⟨b1, b2⟩ := b
  simp only at hb1 hb2 hp hq
  obtain ⟨W, hW⟩ : ∃ W : Int, fW f = W := ⟨_, rfl⟩
  obtain ⟨K, hK⟩ : ∃ W : Int, oHi f = W := ⟨_, rfl⟩
  obtain ⟨M, hM⟩ : ∃ W : Int, oLo f = W := ⟨_, rfl⟩
  rw [hK] at hp
  rw [hM] at hq
  have w0 : IntKind.u64.wrap W = W := by rw [← hW]; rcases hf with rfl | rfl | rfl | rfl <;> decide +kernel
  have wl := fW_lim hW
  have KO : Box (∀ w : World, Calls Tryz.prog 106 #[.int .u64 W] w fun e w' => e = .returned (.agg #[.int .u64 K, .int .u64 M]) ∧ Below w.heap.size w w') := box (fun w => s_ones W _ _ (by omega) (by omega) rfl rfl K M (by rw [← hK, ← hW]; rfl) (by rw [← hM, ← hW]; rfl) w)
  have R0 : (w.alloc (.cells #[.int .u64 b1, .int .u64 b2] 27)).heap[w.heap.size]? = some (.cells #[.int .u64 b1, .int .u64 b2] 27) := last7 _ _
  have B0 := bal7 w (.cells #[.int .u64 b1, .int .u64 b2] 27)
  have HW := box hW
  clear hT hW hK hM hb1 hb2 hf wl
  go_enter Tryz.func62, Tryz.ntmps62
  go_wp2_with fail
  refine (s_width f W f4.1 f4.2.1 HW.out _ (fatB TT.out B0)).mono ?_
  rintro r w' ⟨rfl, rfl⟩
  have B1 := bel_al B0 (.cells (fR f) 152)
  have R1 := row_al R0 (.cells (fR f) 152)
  clear B0 R0
  go_wp2_with fail
  refine (KO.out _).mono ?_
  rintro r w2 ⟨rfl, b2'⟩
  have R2 := row_al (heap_of b2' _ _ _ R1) (.cells #[.int .u64 K, .int .u64 M] 27)
  have B2 := bel_al (btr7 B1 b2') (.cells #[.int .u64 K, .int .u64 M] 27)
  have c0 := cell7 R2 0 _ rfl
  have c1 := cell7 R2 1 _ rfl
  clear B1 b2' R1
  go_wp2_with fail
  refine (s_check_is f 0 f4.1 f4.2.1 f4.2.2.1 _).mono ?_
  rintro r w' ⟨rfl, rfl⟩
  cases p <;> cases q <;> subst ho
  · go_wp2
    go_ret
    exact ⟨rfl, B2⟩
  · go_wp2
    go_ret
    exact ⟨rfl, B2⟩
  · go_wp2
    go_ret
    exact ⟨rfl, B2⟩
  · go_wp2
    go_ret
    exact ⟨rfl, B2⟩
end Go.Proofs.YtlpelcfaakfmiaaGreatDoor
