/-
  What the functions Scale, top and Top of package exact return.
-/
import Derived.Test.YthiongcednmjiabDoorX7
import Derived.Lib.MinMax
namespace Go.Proofs.YthiongcednmjiabDoor
open Go.RowKit WMath XMath

theorem cmpv_neg (a b : Nat) : cmpv a b < 0 ↔ a < b := by
  unfold cmpv
  split
  · exact ⟨fun h => absurd h (by decide), fun h => by omega⟩
  · split
    · exact ⟨fun _ => by assumption, fun _ => by decide⟩
    · exact ⟨fun h => absurd h (by decide), fun h => by omega⟩
theorem lf_up (a : Nat) (k : Nat) (v : ByteArray) (h : nl (a * 2 ^ k) ≤ 16384) (hv : nbA (a * 2 ^ k) = v) : lf a (k : Int) = (v, 0) := by
  unfold lf
  rw [if_neg (by omega), Int.toNat_natCast]
  exact lg_ok _ v h hv
theorem nl_blen (a b : Nat) (h : blen a = blen b) (hb : nl b ≤ 16384) : nl a ≤ 16384 := by unfold nl at hb ⊢; rw [h]; exact hb
/-- How long both are that top compares. -/
theorem tAB_nl (x : XN) (n0 : x.n ≠ 0) (d0 : x.d ≠ 0) (ln : nl x.n ≤ 16384) (ld : nl x.d ≤ 16384) : nl (tA x) ≤ 16384 ∧ nl (tB x) ≤ 16384 := by
  obtain ⟨h1, _, _⟩ := tA_len x n0 d0
  by_cases h : 0 ≤ lenD x
  · have e : tA x = x.n := by unfold tA; rw [show (max (-lenD x) 0).toNat = 0 by omega, Nat.pow_zero, Nat.mul_one]
    have k : nl (tA x) ≤ 16384 := by rw [e]; exact ln
    exact ⟨k, nl_blen _ _ h1.symm k⟩
  · have e : tB x = x.d := by unfold tB; rw [show (max (lenD x) 0).toNat = 0 by omega, Nat.pow_zero, Nat.mul_one]
    have k : nl (tB x) ≤ 16384 := by rw [e]; exact ld
    exact ⟨nl_blen _ _ h1 k, k⟩

set_option maxRecDepth 100000 in
set_option maxHeartbeats 1000000 in
theorem topx (b : Bool) (n d : Nat) (e : Int) (s t : ByteArray) (T : Int) (hs : nbA n = s) (ht : nbA d = t) (n0 : n ≠ 0) (d0 : d ≠ 0) (ln : nl n ≤ 16384) (ld : nl d ≤ 16384) (he : -1048576 ≤ e ∧ e ≤ 1048576) (hr : topX (XN.mk b n d e) = T) (w : World) :
    Calls Tryd.prog 30 #[.agg #[.bool b, .string s, .string t, .int .i64 e]] w fun r w' => r = .returned (.int .i64 T) ∧ Below w.heap.size w w' := by
  obtain ⟨l1, l2⟩ := tAB_nl (XN.mk b n d e) n0 d0 ln ld
  obtain ⟨x, hx⟩ : ∃ x, blen n = x := ⟨_, rfl⟩
  obtain ⟨y, hy⟩ : ∃ x, blen d = x := ⟨_, rfl⟩
  have x2 : x ≤ 131072 := by unfold nl at ln; omega
  have y2 : y ≤ 131072 := by unfold nl at ld; omega
  obtain ⟨k, hk⟩ : ∃ k, (x : Int) - (y : Int) = k := ⟨_, rfl⟩
  have hlen : lenD (XN.mk b n d e) = k := by unfold lenD; show (blen n : Int) - (blen d : Int) = k; rw [hx, hy, hk]
  obtain ⟨i, hi⟩ : ∃ i, (max (-k) 0).toNat = i := ⟨_, rfl⟩
  obtain ⟨j, hj⟩ : ∃ i, (max k 0).toNat = i := ⟨_, rfl⟩
  have eA : tA (XN.mk b n d e) = n * 2 ^ i := by unfold tA; rw [hlen, hi]
  have eB : tB (XN.mk b n d e) = d * 2 ^ j := by unfold tB; rw [hlen, hj]
  rw [eA] at l1
  rw [eB] at l2
  obtain ⟨p, hp⟩ : ∃ p, nbA (n * 2 ^ i) = p := ⟨_, rfl⟩
  obtain ⟨q, hq⟩ : ∃ p, nbA (d * 2 ^ j) = p := ⟨_, rfl⟩
  have F1 := box (lf_up n i p l1 hp)
  have F2 := box (lf_up d j q l2 hq)
  obtain ⟨c, hc⟩ : ∃ c, cmpv (n * 2 ^ i) (d * 2 ^ j) = c := ⟨_, rfl⟩
  have hlt : decide (c < 0) = decide (n * 2 ^ i < d * 2 ^ j) := by rw [← hc, Bool.eq_iff_iff, decide_eq_true_iff, decide_eq_true_iff]; exact cmpv_neg _ _
  have hT2 : T = (if n * 2 ^ i < d * 2 ^ j then k - 1 else k) + e := by rw [← hr]; unfold topX; rw [eA, eB, hlen]
  have HS := box hs
  have HT := box ht
  have LN := box ln
  have LD := box ld
  have HX := box hx
  have HY := box hy
  have HP := box hp
  have HQ := box hq
  have L1 := box l1
  have L2 := box l2
  have HC := box hc
  have n1 : IntKind.i64.wrap ((x : Int) - (y : Int)) = k := by rw [wrap_i64_is _ (by omega) (by omega), hk]
  have n2 : IntKind.i64.wrap (-k) = -k := wrap_i64_is _ (by omega) (by omega)
  have n3 : max (-k) 0 = (i : Int) := by omega
  have n4 : max k 0 = (j : Int) := by omega
  have n5 : IntKind.i64.wrap (k - 1) = k - 1 := wrap_i64_is _ (by omega) (by omega)
  have n6 : IntKind.i64.wrap (k - 1 + e) = k - 1 + e := wrap_i64_is _ (by omega) (by omega)
  have n7 : IntKind.i64.wrap (k + e) = k + e := wrap_i64_is _ (by omega) (by omega)
  have i2 : i ≤ 131072 := by omega
  have j2 : j ≤ 131072 := by omega
  by_cases hl : n * 2 ^ i < d * 2 ^ j
  · rw [if_pos hl] at hT2
    rw [decide_eq_true hl] at hlt
    subst hT2
    clear hs ht ln ld hx hy hk hlen hi hj eA eB l1 l2 hp hq hc hl hr he n0 d0
    have Rx_0 : (w.alloc (Obj.cells #[.bool b, .string s, .string t, .int .i64 e] 24)).heap[w.heap.size]? = some (Obj.cells #[.bool b, .string s, .string t, .int .i64 e] 24) := by have := heap_alloc_last w (Obj.cells #[.bool b, .string s, .string t, .int .i64 e] 24); simpa only [size_al] using this
    have B0 : Below w.heap.size w (w.alloc (Obj.cells #[.bool b, .string s, .string t, .int .i64 e] 24)) := ((Below.refl _ _).alloc (by first | omega | (simp only [size_al]; omega)) _)
    go_enter Tryd.func30, Tryd.ntmps30
    go_wp2_with fail
    obtain ⟨F, hF1, hF2⟩ := below_fun (w.alloc (Obj.cells #[.bool b, .string s, .string t, .int .i64 e] 24))
    have fx_0 := fun u => cells4 (heap_of (hF1 u) _ _ _ Rx_0) 0 _ rfl
    have fx_1 := fun u => cells4 (heap_of (hF1 u) _ _ _ Rx_0) 1 _ rfl
    have fx_2 := fun u => cells4 (heap_of (hF1 u) _ _ _ Rx_0) 2 _ rfl
    have fx_3 := fun u => cells4 (heap_of (hF1 u) _ _ _ Rx_0) 3 _ rfl
    refine wp_region_below F hF2 (by kernel_rfl) (by kernel_rfl) ?_
    repeat first | go_big_quiet_step (first | (go_at_call_of 46 (Value.string s); exact quietF hF1 hF2 (pn_len_ok n x s HS.out LN.out HX.out _)) | (go_at_call_of 46 (Value.string t); exact quietF hF1 hF2 (pn_len_ok d y t HT.out LD.out HY.out _)) | fail) | quiet_step (first | (go_at_call_of 46 (Value.string s); exact quietF hF1 hF2 (pn_len_ok n x s HS.out LN.out HX.out _)) | (go_at_call_of 46 (Value.string t); exact quietF hF1 hF2 (pn_len_ok d y t HT.out LD.out HY.out _)) | fail)
    refine wpQuiet_nil ?_
    rintro _ ⟨uW, rfl⟩
    have B1 := btr B0 (hF1 uW)
    have Rx_1 := heap_of (hF1 uW) _ _ _ Rx_0
    obtain ⟨w1, hw⟩ : ∃ V, F uW = V := ⟨_, rfl⟩
    rw [hw] at B1 Rx_1
    try rw [hw]
    clear hw hF1 hF2 B0 fx_0 fx_1 fx_2 fx_3 Rx_0
    clear F
    have cx_1_0 := cells4 Rx_1 0 _ rfl
    have cx_1_1 := cells4 Rx_1 1 _ rfl
    have cx_1_2 := cells4 Rx_1 2 _ rfl
    have cx_1_3 := cells4 Rx_1 3 _ rfl
    go_wp2_with fail
    refine (pn_left_ok n (i : Int) s p 0 HS.out LN.out (by omega) (by omega) F1.out _).mono ?_
    rintro r w2 ⟨rfl, b2⟩
    have B2 : Below w.heap.size w w2 := btr B1 b2
    have Rx_2 : w2.heap[w.heap.size]? = some (Obj.cells #[.bool b, .string s, .string t, .int .i64 e] 24) := heap_of b2 _ _ _ Rx_1
    clear b2 B1 Rx_1 cx_1_0 cx_1_1 cx_1_2 cx_1_3
    have cx_2_0 := cells4 Rx_2 0 _ rfl
    have cx_2_1 := cells4 Rx_2 1 _ rfl
    have cx_2_2 := cells4 Rx_2 2 _ rfl
    have cx_2_3 := cells4 Rx_2 3 _ rfl
    go_wp2_with fail
    refine (pn_left_ok d (j : Int) t q 0 HT.out LD.out (by omega) (by omega) F2.out _).mono ?_
    rintro r w3 ⟨rfl, b3⟩
    have B3 : Below w.heap.size w w3 := btr B2 b3
    have Rx_3 : w3.heap[w.heap.size]? = some (Obj.cells #[.bool b, .string s, .string t, .int .i64 e] 24) := heap_of b3 _ _ _ Rx_2
    clear b3 B2 Rx_2 cx_2_0 cx_2_1 cx_2_2 cx_2_3
    have cx_3_0 := cells4 Rx_3 0 _ rfl
    have cx_3_1 := cells4 Rx_3 1 _ rfl
    have cx_3_2 := cells4 Rx_3 2 _ rfl
    have cx_3_3 := cells4 Rx_3 3 _ rfl
    go_wp2_with fail
    refine (pn_cmp_ok (n * 2 ^ i) (d * 2 ^ j) p q c HP.out HQ.out L1.out L2.out HC.out _).mono ?_
    rintro r w4 ⟨rfl, b4⟩
    have B4 : Below w.heap.size w w4 := btr B3 b4
    have Rx_4 : w4.heap[w.heap.size]? = some (Obj.cells #[.bool b, .string s, .string t, .int .i64 e] 24) := heap_of b4 _ _ _ Rx_3
    clear b4 B3 Rx_3 cx_3_0 cx_3_1 cx_3_2 cx_3_3
    have cx_4_0 := cells4 Rx_4 0 _ rfl
    have cx_4_1 := cells4 Rx_4 1 _ rfl
    have cx_4_2 := cells4 Rx_4 2 _ rfl
    have cx_4_3 := cells4 Rx_4 3 _ rfl
    go_wp2
    go_ret
    exact ⟨rfl, B4⟩
  · rw [if_neg hl] at hT2
    rw [decide_eq_false hl] at hlt
    subst hT2
    clear hs ht ln ld hx hy hk hlen hi hj eA eB l1 l2 hp hq hc hl hr he n0 d0
    have Rx_0 : (w.alloc (Obj.cells #[.bool b, .string s, .string t, .int .i64 e] 24)).heap[w.heap.size]? = some (Obj.cells #[.bool b, .string s, .string t, .int .i64 e] 24) := by have := heap_alloc_last w (Obj.cells #[.bool b, .string s, .string t, .int .i64 e] 24); simpa only [size_al] using this
    have B0 : Below w.heap.size w (w.alloc (Obj.cells #[.bool b, .string s, .string t, .int .i64 e] 24)) := ((Below.refl _ _).alloc (by first | omega | (simp only [size_al]; omega)) _)
    go_enter Tryd.func30, Tryd.ntmps30
    go_wp2_with fail
    obtain ⟨F, hF1, hF2⟩ := below_fun (w.alloc (Obj.cells #[.bool b, .string s, .string t, .int .i64 e] 24))
    have fx_0 := fun u => cells4 (heap_of (hF1 u) _ _ _ Rx_0) 0 _ rfl
    have fx_1 := fun u => cells4 (heap_of (hF1 u) _ _ _ Rx_0) 1 _ rfl
    have fx_2 := fun u => cells4 (heap_of (hF1 u) _ _ _ Rx_0) 2 _ rfl
    have fx_3 := fun u => cells4 (heap_of (hF1 u) _ _ _ Rx_0) 3 _ rfl
    refine wp_region_below F hF2 (by kernel_rfl) (by kernel_rfl) ?_
    repeat first | go_big_quiet_step (first | (go_at_call_of 46 (Value.string s); exact quietF hF1 hF2 (pn_len_ok n x s HS.out LN.out HX.out _)) | (go_at_call_of 46 (Value.string t); exact quietF hF1 hF2 (pn_len_ok d y t HT.out LD.out HY.out _)) | fail) | quiet_step (first | (go_at_call_of 46 (Value.string s); exact quietF hF1 hF2 (pn_len_ok n x s HS.out LN.out HX.out _)) | (go_at_call_of 46 (Value.string t); exact quietF hF1 hF2 (pn_len_ok d y t HT.out LD.out HY.out _)) | fail)
    refine wpQuiet_nil ?_
    rintro _ ⟨uW, rfl⟩
    have B1 := btr B0 (hF1 uW)
    have Rx_1 := heap_of (hF1 uW) _ _ _ Rx_0
    obtain ⟨w1, hw⟩ : ∃ V, F uW = V := ⟨_, rfl⟩
    rw [hw] at B1 Rx_1
    try rw [hw]
    clear hw hF1 hF2 B0 fx_0 fx_1 fx_2 fx_3 Rx_0
    clear F
    have cx_1_0 := cells4 Rx_1 0 _ rfl
    have cx_1_1 := cells4 Rx_1 1 _ rfl
    have cx_1_2 := cells4 Rx_1 2 _ rfl
    have cx_1_3 := cells4 Rx_1 3 _ rfl
    go_wp2_with fail
    refine (pn_left_ok n (i : Int) s p 0 HS.out LN.out (by omega) (by omega) F1.out _).mono ?_
    rintro r w2 ⟨rfl, b2⟩
    have B2 : Below w.heap.size w w2 := btr B1 b2
    have Rx_2 : w2.heap[w.heap.size]? = some (Obj.cells #[.bool b, .string s, .string t, .int .i64 e] 24) := heap_of b2 _ _ _ Rx_1
    clear b2 B1 Rx_1 cx_1_0 cx_1_1 cx_1_2 cx_1_3
    have cx_2_0 := cells4 Rx_2 0 _ rfl
    have cx_2_1 := cells4 Rx_2 1 _ rfl
    have cx_2_2 := cells4 Rx_2 2 _ rfl
    have cx_2_3 := cells4 Rx_2 3 _ rfl
    go_wp2_with fail
    refine (pn_left_ok d (j : Int) t q 0 HT.out LD.out (by omega) (by omega) F2.out _).mono ?_
    rintro r w3 ⟨rfl, b3⟩
    have B3 : Below w.heap.size w w3 := btr B2 b3
    have Rx_3 : w3.heap[w.heap.size]? = some (Obj.cells #[.bool b, .string s, .string t, .int .i64 e] 24) := heap_of b3 _ _ _ Rx_2
    clear b3 B2 Rx_2 cx_2_0 cx_2_1 cx_2_2 cx_2_3
    have cx_3_0 := cells4 Rx_3 0 _ rfl
    have cx_3_1 := cells4 Rx_3 1 _ rfl
    have cx_3_2 := cells4 Rx_3 2 _ rfl
    have cx_3_3 := cells4 Rx_3 3 _ rfl
    go_wp2_with fail
    refine (pn_cmp_ok (n * 2 ^ i) (d * 2 ^ j) p q c HP.out HQ.out L1.out L2.out HC.out _).mono ?_
    rintro r w4 ⟨rfl, b4⟩
    have B4 : Below w.heap.size w w4 := btr B3 b4
    have Rx_4 : w4.heap[w.heap.size]? = some (Obj.cells #[.bool b, .string s, .string t, .int .i64 e] 24) := heap_of b4 _ _ _ Rx_3
    clear b4 B3 Rx_3 cx_3_0 cx_3_1 cx_3_2 cx_3_3
    have cx_4_0 := cells4 Rx_4 0 _ rfl
    have cx_4_1 := cells4 Rx_4 1 _ rfl
    have cx_4_2 := cells4 Rx_4 2 _ rfl
    have cx_4_3 := cells4 Rx_4 3 _ rfl
    go_wp2
    go_ret
    exact ⟨rfl, B4⟩

set_option maxRecDepth 100000 in
set_option maxHeartbeats 1000000 in
theorem Topx_ok (b : Bool) (n d : Nat) (e : Int) (s t : ByteArray) (T : Int) (hs : nbA n = s) (ht : nbA d = t) (n0 : n ≠ 0) (hc : (XN.mk b n d e).can) (hr : topX (XN.mk b n d e) = T) (w : World) (hT : TabAt w) :
    Calls Tryd.prog 18 #[.agg #[.bool b, .string s, .string t, .int .i64 e]] w fun r w' => r = .returned (.tuple #[.int .i64 T, .int .i64 0]) ∧ Below w.heap.size w w' := by
  have M1 := box (may_yes hs ht hc)
  have TT := box hT
  have e0 := eq_nil n s hs n0
  have HF := box (fun w => topx b n d e s t T hs ht n0 hc.d0 hc.1 hc.2.1 ⟨hc.2.2.1, hc.2.2.2.1⟩ hr w)
  clear hs ht n0 hc hr hT
  cases b
  · have Rx_0 : (w.alloc (Obj.cells #[.bool false, .string s, .string t, .int .i64 e] 24)).heap[w.heap.size]? = some (Obj.cells #[.bool false, .string s, .string t, .int .i64 e] 24) := by have := heap_alloc_last w (Obj.cells #[.bool false, .string s, .string t, .int .i64 e] 24); simpa only [size_al] using this
    have B0 : Below w.heap.size w (w.alloc (Obj.cells #[.bool false, .string s, .string t, .int .i64 e] 24)) := ((Below.refl _ _).alloc (by first | omega | (simp only [size_al]; omega)) _)
    go_enter Tryd.func18, Tryd.ntmps18
    go_wp2_with fail
    apply cut_same
    · intro key
      go_region_with (first | (go_at_call 23; refine (xmay1d _ _ _ _ true M1.out _ (w.alloc (Obj.cells #[.bool false, .string s, .string t, .int .i64 e] 24)) _ (by simp only [size_al]) (tabB TT.out B0)).mono ?_; rintro r w1 ⟨rfl, b1⟩; have B1 : Below w.heap.size w w1 := btr B0 b1; have Rx_1 : w1.heap[w.heap.size]? = some (Obj.cells #[.bool false, .string s, .string t, .int .i64 e] 24) := heap_of b1 _ _ _ Rx_0; have cx_1_0 := cells4 Rx_1 0 _ rfl; have cx_1_1 := cells4 Rx_1 1 _ rfl; have cx_1_2 := cells4 Rx_1 2 _ rfl; have cx_1_3 := cells4 Rx_1 3 _ rfl) | (go_at_call 25; refine (zerox _).mono ?_; rintro r w2 ⟨rfl, b2⟩; have B2 : Below w.heap.size w w2 := btr B1 b2; have Rx_2 : w2.heap[w.heap.size]? = some (Obj.cells #[.bool false, .string s, .string t, .int .i64 e] 24) := heap_of b2 _ _ _ Rx_1; have cx_2_0 := cells4 Rx_2 0 _ rfl; have cx_2_1 := cells4 Rx_2 1 _ rfl; have cx_2_2 := cells4 Rx_2 2 _ rfl; have cx_2_3 := cells4 Rx_2 3 _ rfl))
      all_goals
        clear cx_2_0 cx_2_1 cx_2_2 cx_2_3 b2
        clear cx_1_0 cx_1_1 cx_1_2 cx_1_3 Rx_1 b1 B1
        clear w1
        revert w2
        exact key
    intro w2 B2 Rx_2
    clear B0 Rx_0
    have cx_2_0 := cells4 Rx_2 0 _ rfl
    have cx_2_1 := cells4 Rx_2 1 _ rfl
    have cx_2_2 := cells4 Rx_2 2 _ rfl
    have cx_2_3 := cells4 Rx_2 3 _ rfl
    go_wp2_with fail
    refine (HF.out _).mono ?_
    rintro r w3 ⟨rfl, b3⟩
    have B3 : Below w.heap.size w w3 := btr B2 b3
    have Rx_3 : w3.heap[w.heap.size]? = some (Obj.cells #[.bool false, .string s, .string t, .int .i64 e] 24) := heap_of b3 _ _ _ Rx_2
    clear b3 B2 Rx_2 cx_2_0 cx_2_1 cx_2_2 cx_2_3
    have cx_3_0 := cells4 Rx_3 0 _ rfl
    have cx_3_1 := cells4 Rx_3 1 _ rfl
    have cx_3_2 := cells4 Rx_3 2 _ rfl
    have cx_3_3 := cells4 Rx_3 3 _ rfl
    go_wp2
    go_ret2
    exact ⟨rfl, B3⟩
  · have Rx_0 : (w.alloc (Obj.cells #[.bool true, .string s, .string t, .int .i64 e] 24)).heap[w.heap.size]? = some (Obj.cells #[.bool true, .string s, .string t, .int .i64 e] 24) := by have := heap_alloc_last w (Obj.cells #[.bool true, .string s, .string t, .int .i64 e] 24); simpa only [size_al] using this
    have B0 : Below w.heap.size w (w.alloc (Obj.cells #[.bool true, .string s, .string t, .int .i64 e] 24)) := ((Below.refl _ _).alloc (by first | omega | (simp only [size_al]; omega)) _)
    go_enter Tryd.func18, Tryd.ntmps18
    go_wp2_with fail
    apply cut_same
    · intro key
      go_region_with (first | (go_at_call 23; refine (xmay1d _ _ _ _ true M1.out _ (w.alloc (Obj.cells #[.bool true, .string s, .string t, .int .i64 e] 24)) _ (by simp only [size_al]) (tabB TT.out B0)).mono ?_; rintro r w1 ⟨rfl, b1⟩; have B1 : Below w.heap.size w w1 := btr B0 b1; have Rx_1 : w1.heap[w.heap.size]? = some (Obj.cells #[.bool true, .string s, .string t, .int .i64 e] 24) := heap_of b1 _ _ _ Rx_0; have cx_1_0 := cells4 Rx_1 0 _ rfl; have cx_1_1 := cells4 Rx_1 1 _ rfl; have cx_1_2 := cells4 Rx_1 2 _ rfl; have cx_1_3 := cells4 Rx_1 3 _ rfl) | (go_at_call 25; refine (zerox _).mono ?_; rintro r w2 ⟨rfl, b2⟩; have B2 : Below w.heap.size w w2 := btr B1 b2; have Rx_2 : w2.heap[w.heap.size]? = some (Obj.cells #[.bool true, .string s, .string t, .int .i64 e] 24) := heap_of b2 _ _ _ Rx_1; have cx_2_0 := cells4 Rx_2 0 _ rfl; have cx_2_1 := cells4 Rx_2 1 _ rfl; have cx_2_2 := cells4 Rx_2 2 _ rfl; have cx_2_3 := cells4 Rx_2 3 _ rfl))
      all_goals
        clear cx_2_0 cx_2_1 cx_2_2 cx_2_3 b2
        clear cx_1_0 cx_1_1 cx_1_2 cx_1_3 Rx_1 b1 B1
        clear w1
        revert w2
        exact key
    intro w2 B2 Rx_2
    clear B0 Rx_0
    have cx_2_0 := cells4 Rx_2 0 _ rfl
    have cx_2_1 := cells4 Rx_2 1 _ rfl
    have cx_2_2 := cells4 Rx_2 2 _ rfl
    have cx_2_3 := cells4 Rx_2 3 _ rfl
    go_wp2_with fail
    refine (HF.out _).mono ?_
    rintro r w3 ⟨rfl, b3⟩
    have B3 : Below w.heap.size w w3 := btr B2 b3
    have Rx_3 : w3.heap[w.heap.size]? = some (Obj.cells #[.bool true, .string s, .string t, .int .i64 e] 24) := heap_of b3 _ _ _ Rx_2
    clear b3 B2 Rx_2 cx_2_0 cx_2_1 cx_2_2 cx_2_3
    have cx_3_0 := cells4 Rx_3 0 _ rfl
    have cx_3_1 := cells4 Rx_3 1 _ rfl
    have cx_3_2 := cells4 Rx_3 2 _ rfl
    have cx_3_3 := cells4 Rx_3 3 _ rfl
    go_wp2
    go_ret2
    exact ⟨rfl, B3⟩
set_option maxRecDepth 100000 in
theorem Topx_null (w : World) (hT : TabAt w) : Calls Tryd.prog 18 #[.agg #[.bool false, .string ⟨#[]⟩, .string ⟨#[1]⟩, .int .i64 0]] w fun r w' => r = .returned (.tuple #[.int .i64 0, .int .i64 2]) ∧ Below w.heap.size w w' := by
  have M1 : Box (IsM true false ⟨#[]⟩ ⟨#[1]⟩ 0) := box (may_yes nbA_zero nb1 x0_can)
  have TT := box hT
  clear hT
  have Rx_0 : (w.alloc (Obj.cells #[.bool false, .string ⟨#[]⟩, .string ⟨#[1]⟩, .int .i64 0] 24)).heap[w.heap.size]? = some (Obj.cells #[.bool false, .string ⟨#[]⟩, .string ⟨#[1]⟩, .int .i64 0] 24) := by have := heap_alloc_last w (Obj.cells #[.bool false, .string ⟨#[]⟩, .string ⟨#[1]⟩, .int .i64 0] 24); simpa only [size_al] using this
  have B0 : Below w.heap.size w (w.alloc (Obj.cells #[.bool false, .string ⟨#[]⟩, .string ⟨#[1]⟩, .int .i64 0] 24)) := ((Below.refl _ _).alloc (by first | omega | (simp only [size_al]; omega)) _)
  go_enter Tryd.func18, Tryd.ntmps18
  go_wp2_with fail
  apply cut_same
  · intro key
    go_region_with (first | (go_at_call 23; refine (xmay1d _ _ _ _ true M1.out _ (w.alloc (Obj.cells #[.bool false, .string ⟨#[]⟩, .string ⟨#[1]⟩, .int .i64 0] 24)) _ (by simp only [size_al]) (tabB TT.out B0)).mono ?_; rintro r w1 ⟨rfl, b1⟩; have B1 : Below w.heap.size w w1 := btr B0 b1; have Rx_1 : w1.heap[w.heap.size]? = some (Obj.cells #[.bool false, .string ⟨#[]⟩, .string ⟨#[1]⟩, .int .i64 0] 24) := heap_of b1 _ _ _ Rx_0; have cx_1_0 := cells4 Rx_1 0 _ rfl; have cx_1_1 := cells4 Rx_1 1 _ rfl; have cx_1_2 := cells4 Rx_1 2 _ rfl; have cx_1_3 := cells4 Rx_1 3 _ rfl) | (go_at_call 25; refine (zerox _).mono ?_; rintro r w2 ⟨rfl, b2⟩; have B2 : Below w.heap.size w w2 := btr B1 b2; have Rx_2 : w2.heap[w.heap.size]? = some (Obj.cells #[.bool false, .string ⟨#[]⟩, .string ⟨#[1]⟩, .int .i64 0] 24) := heap_of b2 _ _ _ Rx_1; have cx_2_0 := cells4 Rx_2 0 _ rfl; have cx_2_1 := cells4 Rx_2 1 _ rfl; have cx_2_2 := cells4 Rx_2 2 _ rfl; have cx_2_3 := cells4 Rx_2 3 _ rfl))
    all_goals
      clear cx_2_0 cx_2_1 cx_2_2 cx_2_3 b2
      clear cx_1_0 cx_1_1 cx_1_2 cx_1_3 Rx_1 b1 B1
      clear w1
      revert w2
      exact key
  intro w2 B2 Rx_2
  clear B0 Rx_0
  have cx_2_0 := cells4 Rx_2 0 _ rfl
  have cx_2_1 := cells4 Rx_2 1 _ rfl
  have cx_2_2 := cells4 Rx_2 2 _ rfl
  have cx_2_3 := cells4 Rx_2 3 _ rfl
  go_wp2
  go_ret2
  exact ⟨rfl, B2⟩
set_option maxRecDepth 100000 in
theorem Topx_no (b : Bool) (e : Int) (s t : ByteArray) (h : ¬ MayX b s t e) (w : World) (hT : TabAt w) : Calls Tryd.prog 18 #[.agg #[.bool b, .string s, .string t, .int .i64 e]] w fun r w' => r = .returned (.tuple #[.int .i64 0, .int .i64 2]) ∧ Below w.heap.size w w' := by
  have M1 := box (may_no h)
  have TT := box hT
  clear h hT
  have Rx_0 : (w.alloc (Obj.cells #[.bool b, .string s, .string t, .int .i64 e] 24)).heap[w.heap.size]? = some (Obj.cells #[.bool b, .string s, .string t, .int .i64 e] 24) := by have := heap_alloc_last w (Obj.cells #[.bool b, .string s, .string t, .int .i64 e] 24); simpa only [size_al] using this
  have B0 : Below w.heap.size w (w.alloc (Obj.cells #[.bool b, .string s, .string t, .int .i64 e] 24)) := ((Below.refl _ _).alloc (by first | omega | (simp only [size_al]; omega)) _)
  go_enter Tryd.func18, Tryd.ntmps18
  go_wp2_with fail
  apply cut_same
  · intro key
    go_region_with (first | (go_at_call 23; refine (xmay1d _ _ _ _ false M1.out _ (w.alloc (Obj.cells #[.bool b, .string s, .string t, .int .i64 e] 24)) _ (by simp only [size_al]) (tabB TT.out B0)).mono ?_; rintro r w1 ⟨rfl, b1⟩; have B1 : Below w.heap.size w w1 := btr B0 b1; have Rx_1 : w1.heap[w.heap.size]? = some (Obj.cells #[.bool b, .string s, .string t, .int .i64 e] 24) := heap_of b1 _ _ _ Rx_0; have cx_1_0 := cells4 Rx_1 0 _ rfl; have cx_1_1 := cells4 Rx_1 1 _ rfl; have cx_1_2 := cells4 Rx_1 2 _ rfl; have cx_1_3 := cells4 Rx_1 3 _ rfl))
    all_goals
      clear cx_1_0 cx_1_1 cx_1_2 cx_1_3 b1
      revert w1
      exact key
  intro w1 B1 Rx_1
  clear B0 Rx_0
  have cx_1_0 := cells4 Rx_1 0 _ rfl
  have cx_1_1 := cells4 Rx_1 1 _ rfl
  have cx_1_2 := cells4 Rx_1 2 _ rfl
  have cx_1_3 := cells4 Rx_1 3 _ rfl
  go_wp2
  go_ret2
  exact ⟨rfl, B1⟩
end Go.Proofs.YthiongcednmjiabDoor
