/-
  What the functions that the statement reaches return: part 8 (X2, X3, X3m).
-/
import Derived.Test.YtbmhfcppaajgbaaGreatDoorRa07
namespace Go.Proofs.YtbmhfcppaajgbaaGreatDoor
set_option maxRecDepth 100000
open Go.RowKit WMath XMath

theorem apartx (a b : Nat) (s t : ByteArray) (o : Bool) (hs : nbA a = s) (ht : nbA b = t) (ha : nl a ≤ 16384) (hb : nl b ≤ 16384) (ho : decide (Nat.gcd a b = 1) = o) (w : World) : Calls Tryz.prog 221 #[.string s, .string t] w fun r w' => r = .returned (.bool o) ∧ Below w.heap.size w w' := by
  obtain ⟨v, hv⟩ : ∃ v, nbA (Nat.gcd a b) = v := ⟨_, rfl⟩
  have e1 := eq_one _ v hv
  rw [ho] at e1
  have HS := box hs
  have HT := box ht
  have HA := box ha
  have HB := box hb
  have HV := box hv
  clear hs ht ha hb ho hv
  have B0 : Below w.heap.size w w := (Below.refl _ _)
  go_enter Tryz.func221, Tryz.ntmps221
  go_wp2_with fail
  refine (pn_gcd_ok a b s t v HS.out HT.out HA.out HB.out HV.out _).mono ?_
  rintro r w1 ⟨rfl, b1⟩
  have B1 : Below w.heap.size w w1 := btr B0 b1
  clear b1 B0 
  go_wp2
  go_ret
  exact ⟨rfl, B1⟩

theorem can_parts (b : Bool) (n d : Nat) (e : Int) (hn : nl n ≤ 16384) (hd : nl d ≤ 16384) : (XN.mk b n d e).can ↔ (-1048576 ≤ e ∧ e ≤ 1048576 ∧ ((b = false ∧ n = 0 ∧ d = 1 ∧ e = 0) ∨ (n % 2 = 1 ∧ d % 2 = 1 ∧ Nat.gcd n d = 1))) := by
  unfold XN.can
  exact ⟨fun h => h.2.2, fun h => ⟨hn, hd, h⟩⟩

set_option maxRecDepth 100000 in
theorem xmay (b : Bool) (s t : ByteArray) (e : Int) (o : Bool) (ho : o = true ↔ MayX b s t e) (w : World) : Calls Tryz.prog 29 #[.agg #[.bool b, .string s, .string t, .int .i64 e]] w fun r w' => r = .returned (.bool o) ∧ Below w.heap.size w w' := by
  cases hm1 : mayB s
  · have eo : o = false := by
      cases o
      · rfl
      · have := (mayX_s b s t e (ho.1 rfl)).1
        rw [hm1] at this
        exact absurd this (by decide)
    subst eo
    have H1 := box hm1
    clear hm1 ho
    obtain ⟨Rx_0, B0⟩ := opn1 w (Obj.cells #[.bool b, .string s, .string t, .int .i64 e] 41)
    go_enter Tryz.func29, Tryz.ntmps29
    go_wp2_with fail
    go_quiet (fail)
    obtain ⟨w1, hw, B1, hh⟩ := quiet_world B0 nq
    rw [hw]
    have Rx_1 : w1.heap[w.heap.size]? = some (Obj.cells #[.bool b, .string s, .string t, .int .i64 e] 41) := by rw [hh]; exact Rx_0
    clear hw hh B0 Rx_0
    obtain ⟨cx_1_0, cx_1_1, cx_1_2, cx_1_3⟩ := cells4s Rx_1
    go_wp2_with fail
    refine (nat_may s false H1.out _).mono ?_
    rintro r w' ⟨rfl, rfl⟩
    go_wp2
    go_ret
    exact ⟨rfl, B1⟩
  cases hm2 : mayB t
  · have eo : o = false := by
      cases o
      · rfl
      · have := (mayX_s b s t e (ho.1 rfl)).2
        rw [hm2] at this
        exact absurd this (by decide)
    subst eo
    have H1 := box hm1
    have H2 := box hm2
    clear hm1 hm2 ho
    obtain ⟨Rx_0, B0⟩ := opn1 w (Obj.cells #[.bool b, .string s, .string t, .int .i64 e] 41)
    go_enter Tryz.func29, Tryz.ntmps29
    go_wp2_with fail
    go_quiet (fail)
    obtain ⟨w1, hw, B1, hh⟩ := quiet_world B0 nq
    rw [hw]
    have Rx_1 : w1.heap[w.heap.size]? = some (Obj.cells #[.bool b, .string s, .string t, .int .i64 e] 41) := by rw [hh]; exact Rx_0
    clear hw hh B0 Rx_0
    obtain ⟨cx_1_0, cx_1_1, cx_1_2, cx_1_3⟩ := cells4s Rx_1
    go_wp2_with fail
    refine (nat_may s true H1.out _).mono ?_
    rintro r w' ⟨rfl, rfl⟩
    go_wp2_with fail
    refine (nat_may t false H2.out _).mono ?_
    rintro r w' ⟨rfl, rfl⟩
    go_wp2
    go_ret
    exact ⟨rfl, B1⟩
  obtain ⟨n, hs, ln⟩ := mayB_is s hm1
  obtain ⟨d, ht, ld⟩ := mayB_is t hm2
  rw [mayX_iff b n d s t e hs ht, can_parts b n d e ln ld] at ho
  have H1 := box hm1
  have H2 := box hm2
  have HS := box hs
  have HT := box ht
  have LN := box ln
  have LD := box ld
  clear hm1 hm2
  by_cases hd : d % 2 = 1
  · have D1 : Box (decide (d % 2 = 1) = true) := box (decide_eq_true hd)
    by_cases h1 : e < -1048576
    · have eo : o = false := by cases o; rfl; have := ho.1 rfl; omega
      subst eo
      have k1 : decide (e < -1048576) = true := decide_eq_true h1
      clear ho hs ht ln ld hd
      obtain ⟨Rx_0, B0⟩ := opn1 w (Obj.cells #[.bool b, .string s, .string t, .int .i64 e] 41)
      go_enter Tryz.func29, Tryz.ntmps29
      go_wp2_with fail
      go_quiet (fail)
      obtain ⟨w1, hw, B1, hh⟩ := quiet_world B0 nq
      rw [hw]
      have Rx_1 : w1.heap[w.heap.size]? = some (Obj.cells #[.bool b, .string s, .string t, .int .i64 e] 41) := by rw [hh]; exact Rx_0
      clear hw hh B0 Rx_0
      obtain ⟨cx_1_0, cx_1_1, cx_1_2, cx_1_3⟩ := cells4s Rx_1
      go_wp2_with fail
      refine (nat_may s true H1.out _).mono ?_
      rintro r w' ⟨rfl, rfl⟩
      go_wp2_with fail
      refine (nat_may t true H2.out _).mono ?_
      rintro r w' ⟨rfl, rfl⟩
      go_wp2_with fail
      refine (rodd d t true HT.out LD.out D1.out _).mono ?_
      rintro r w2 ⟨rfl, b2⟩
      have B2 : Below w.heap.size w w2 := btr B1 b2
      have Rx_2 := heap_of b2 _ _ _ Rx_1
      clear b2 B1 Rx_1 cx_1_0 cx_1_1 cx_1_2 cx_1_3
      obtain ⟨cx_2_0, cx_2_1, cx_2_2, cx_2_3⟩ := cells4s Rx_2
      go_wp2
      go_ret
      exact ⟨rfl, B2⟩
    have k1 : decide (e < -1048576) = false := decide_eq_false h1
    by_cases h2 : 1048576 < e
    · have eo : o = false := by cases o; rfl; have := ho.1 rfl; omega
      subst eo
      have k2 : decide (1048576 < e) = true := decide_eq_true h2
      clear ho hs ht ln ld hd
      obtain ⟨Rx_0, B0⟩ := opn1 w (Obj.cells #[.bool b, .string s, .string t, .int .i64 e] 41)
      go_enter Tryz.func29, Tryz.ntmps29
      go_wp2_with fail
      go_quiet (fail)
      obtain ⟨w1, hw, B1, hh⟩ := quiet_world B0 nq
      rw [hw]
      have Rx_1 : w1.heap[w.heap.size]? = some (Obj.cells #[.bool b, .string s, .string t, .int .i64 e] 41) := by rw [hh]; exact Rx_0
      clear hw hh B0 Rx_0
      obtain ⟨cx_1_0, cx_1_1, cx_1_2, cx_1_3⟩ := cells4s Rx_1
      go_wp2_with fail
      refine (nat_may s true H1.out _).mono ?_
      rintro r w' ⟨rfl, rfl⟩
      go_wp2_with fail
      refine (nat_may t true H2.out _).mono ?_
      rintro r w' ⟨rfl, rfl⟩
      go_wp2_with fail
      refine (rodd d t true HT.out LD.out D1.out _).mono ?_
      rintro r w2 ⟨rfl, b2⟩
      have B2 : Below w.heap.size w w2 := btr B1 b2
      have Rx_2 := heap_of b2 _ _ _ Rx_1
      clear b2 B1 Rx_1 cx_1_0 cx_1_1 cx_1_2 cx_1_3
      obtain ⟨cx_2_0, cx_2_1, cx_2_2, cx_2_3⟩ := cells4s Rx_2
      go_wp2
      go_ret
      exact ⟨rfl, B2⟩
    have k2 : decide (1048576 < e) = false := decide_eq_false h2
    by_cases h0 : n = 0
    · subst h0
      rw [nbA_zero] at hs
      have hs2 := hs
      clear hs
      subst hs2
      have e1 := eq_one d t ht
      have ez : (e == 0) = decide (e = 0) := by rw [Bool.eq_iff_iff, beq_iff_eq, decide_eq_true_iff]
      have ho2 : o = true ↔ (b = false ∧ d = 1 ∧ e = 0) := by rw [ho]; exact ⟨fun h => by rcases h.2.2 with h | h; exact ⟨h.1, h.2.2⟩; omega, fun h => ⟨by omega, by omega, Or.inl ⟨h.1, rfl, h.2⟩⟩⟩
      clear ho ht ln ld hd h1 h2
      cases b
      · by_cases d1 : d = 1
        · rw [decide_eq_true d1] at e1
          by_cases z : e = 0
          · have eo : o = true := ho2.2 ⟨rfl, d1, z⟩
            subst eo
            rw [decide_eq_true z] at ez
            clear ho2 d1
            subst z
            obtain ⟨Rx_0, B0⟩ := opn1 w (Obj.cells #[.bool false, .string ⟨#[]⟩, .string t, .int .i64 0] 41)
            go_enter Tryz.func29, Tryz.ntmps29
            go_wp2_with fail
            go_quiet (fail)
            obtain ⟨w1, hw, B1, hh⟩ := quiet_world B0 nq
            rw [hw]
            have Rx_1 : w1.heap[w.heap.size]? = some (Obj.cells #[.bool false, .string ⟨#[]⟩, .string t, .int .i64 0] 41) := by rw [hh]; exact Rx_0
            clear hw hh B0 Rx_0
            obtain ⟨cx_1_0, cx_1_1, cx_1_2, cx_1_3⟩ := cells4s Rx_1
            go_wp2_with fail
            refine (nat_may _ true H1.out _).mono ?_
            rintro r w' ⟨rfl, rfl⟩
            go_wp2_with fail
            refine (nat_may t true H2.out _).mono ?_
            rintro r w' ⟨rfl, rfl⟩
            go_wp2_with fail
            refine (rodd d t true HT.out LD.out D1.out _).mono ?_
            rintro r w2 ⟨rfl, b2⟩
            have B2 : Below w.heap.size w w2 := btr B1 b2
            have Rx_2 := heap_of b2 _ _ _ Rx_1
            clear b2 B1 Rx_1 cx_1_0 cx_1_1 cx_1_2 cx_1_3
            obtain ⟨cx_2_0, cx_2_1, cx_2_2, cx_2_3⟩ := cells4s Rx_2
            go_wp2_with fail
            obtain ⟨F, hF1, hF2⟩ := below_fun w2
            have fx_0 := fun u => cells4 (heap_of (hF1 u) _ _ _ Rx_2) 0 _ rfl
            have fx_1 := fun u => cells4 (heap_of (hF1 u) _ _ _ Rx_2) 1 _ rfl
            have fx_2 := fun u => cells4 (heap_of (hF1 u) _ _ _ Rx_2) 2 _ rfl
            have fx_3 := fun u => cells4 (heap_of (hF1 u) _ _ _ Rx_2) 3 _ rfl
            refine wp_region_below F hF2 (by kernel_rfl) (by kernel_rfl) ?_
            repeat first | go_big_quiet_step (first | (go_at_call 77; exact quietF hF1 hF2 (xnull _)) | fail) | quiet_step (first | (go_at_call 77; exact quietF hF1 hF2 (xnull _)) | fail)
            refine wpQuiet_nil ?_
            rintro _ ⟨uW, rfl⟩
            have B3 := btr B2 (hF1 uW)
            have Rx_3 := heap_of (hF1 uW) _ _ _ Rx_2
            obtain ⟨w3, hw⟩ : ∃ V, F uW = V := ⟨_, rfl⟩
            rw [hw] at B3 Rx_3
            try rw [hw]
            clear hw hF1 hF2 B2 fx_0 fx_1 fx_2 fx_3 Rx_2 cx_2_0 cx_2_1 cx_2_2 cx_2_3
            clear F
            obtain ⟨cx_3_0, cx_3_1, cx_3_2, cx_3_3⟩ := cells4s Rx_3
            go_wp2
            go_ret
            exact ⟨rfl, B3⟩
          · have eo : o = false := by cases o; rfl; exact absurd (ho2.1 rfl).2.2 z
            subst eo
            rw [decide_eq_false z] at ez
            clear ho2 d1
            obtain ⟨Rx_0, B0⟩ := opn1 w (Obj.cells #[.bool false, .string ⟨#[]⟩, .string t, .int .i64 e] 41)
            go_enter Tryz.func29, Tryz.ntmps29
            go_wp2_with fail
            go_quiet (fail)
            obtain ⟨w1, hw, B1, hh⟩ := quiet_world B0 nq
            rw [hw]
            have Rx_1 : w1.heap[w.heap.size]? = some (Obj.cells #[.bool false, .string ⟨#[]⟩, .string t, .int .i64 e] 41) := by rw [hh]; exact Rx_0
            clear hw hh B0 Rx_0
            obtain ⟨cx_1_0, cx_1_1, cx_1_2, cx_1_3⟩ := cells4s Rx_1
            go_wp2_with fail
            refine (nat_may _ true H1.out _).mono ?_
            rintro r w' ⟨rfl, rfl⟩
            go_wp2_with fail
            refine (nat_may t true H2.out _).mono ?_
            rintro r w' ⟨rfl, rfl⟩
            go_wp2_with fail
            refine (rodd d t true HT.out LD.out D1.out _).mono ?_
            rintro r w2 ⟨rfl, b2⟩
            have B2 : Below w.heap.size w w2 := btr B1 b2
            have Rx_2 := heap_of b2 _ _ _ Rx_1
            clear b2 B1 Rx_1 cx_1_0 cx_1_1 cx_1_2 cx_1_3
            obtain ⟨cx_2_0, cx_2_1, cx_2_2, cx_2_3⟩ := cells4s Rx_2
            go_wp2_with fail
            obtain ⟨F, hF1, hF2⟩ := below_fun w2
            have fx_0 := fun u => cells4 (heap_of (hF1 u) _ _ _ Rx_2) 0 _ rfl
            have fx_1 := fun u => cells4 (heap_of (hF1 u) _ _ _ Rx_2) 1 _ rfl
            have fx_2 := fun u => cells4 (heap_of (hF1 u) _ _ _ Rx_2) 2 _ rfl
            have fx_3 := fun u => cells4 (heap_of (hF1 u) _ _ _ Rx_2) 3 _ rfl
            refine wp_region_below F hF2 (by kernel_rfl) (by kernel_rfl) ?_
            repeat first | go_big_quiet_step (first | (go_at_call 77; exact quietF hF1 hF2 (xnull _)) | fail) | quiet_step (first | (go_at_call 77; exact quietF hF1 hF2 (xnull _)) | fail)
            refine wpQuiet_nil ?_
            rintro _ ⟨uW, rfl⟩
            have B3 := btr B2 (hF1 uW)
            have Rx_3 := heap_of (hF1 uW) _ _ _ Rx_2
            obtain ⟨w3, hw⟩ : ∃ V, F uW = V := ⟨_, rfl⟩
            rw [hw] at B3 Rx_3
            try rw [hw]
            clear hw hF1 hF2 B2 fx_0 fx_1 fx_2 fx_3 Rx_2 cx_2_0 cx_2_1 cx_2_2 cx_2_3
            clear F
            obtain ⟨cx_3_0, cx_3_1, cx_3_2, cx_3_3⟩ := cells4s Rx_3
            go_wp2
            go_ret
            exact ⟨rfl, B3⟩
        · have eo : o = false := by cases o; rfl; exact absurd (ho2.1 rfl).2.1 d1
          subst eo
          rw [decide_eq_false d1] at e1
          clear ho2 d1 ez
          obtain ⟨Rx_0, B0⟩ := opn1 w (Obj.cells #[.bool false, .string ⟨#[]⟩, .string t, .int .i64 e] 41)
          go_enter Tryz.func29, Tryz.ntmps29
          go_wp2_with fail
          go_quiet (fail)
          obtain ⟨w1, hw, B1, hh⟩ := quiet_world B0 nq
          rw [hw]
          have Rx_1 : w1.heap[w.heap.size]? = some (Obj.cells #[.bool false, .string ⟨#[]⟩, .string t, .int .i64 e] 41) := by rw [hh]; exact Rx_0
          clear hw hh B0 Rx_0
          obtain ⟨cx_1_0, cx_1_1, cx_1_2, cx_1_3⟩ := cells4s Rx_1
          go_wp2_with fail
          refine (nat_may _ true H1.out _).mono ?_
          rintro r w' ⟨rfl, rfl⟩
          go_wp2_with fail
          refine (nat_may t true H2.out _).mono ?_
          rintro r w' ⟨rfl, rfl⟩
          go_wp2_with fail
          refine (rodd d t true HT.out LD.out D1.out _).mono ?_
          rintro r w2 ⟨rfl, b2⟩
          have B2 : Below w.heap.size w w2 := btr B1 b2
          have Rx_2 := heap_of b2 _ _ _ Rx_1
          clear b2 B1 Rx_1 cx_1_0 cx_1_1 cx_1_2 cx_1_3
          obtain ⟨cx_2_0, cx_2_1, cx_2_2, cx_2_3⟩ := cells4s Rx_2
          go_wp2_with fail
          obtain ⟨F, hF1, hF2⟩ := below_fun w2
          have fx_0 := fun u => cells4 (heap_of (hF1 u) _ _ _ Rx_2) 0 _ rfl
          have fx_1 := fun u => cells4 (heap_of (hF1 u) _ _ _ Rx_2) 1 _ rfl
          have fx_2 := fun u => cells4 (heap_of (hF1 u) _ _ _ Rx_2) 2 _ rfl
          have fx_3 := fun u => cells4 (heap_of (hF1 u) _ _ _ Rx_2) 3 _ rfl
          refine wp_region_below F hF2 (by kernel_rfl) (by kernel_rfl) ?_
          repeat first | go_big_quiet_step (first | (go_at_call 77; exact quietF hF1 hF2 (xnull _)) | fail) | quiet_step (first | (go_at_call 77; exact quietF hF1 hF2 (xnull _)) | fail)
          refine wpQuiet_nil ?_
          rintro _ ⟨uW, rfl⟩
          have B3 := btr B2 (hF1 uW)
          have Rx_3 := heap_of (hF1 uW) _ _ _ Rx_2
          obtain ⟨w3, hw⟩ : ∃ V, F uW = V := ⟨_, rfl⟩
          rw [hw] at B3 Rx_3
          try rw [hw]
          clear hw hF1 hF2 B2 fx_0 fx_1 fx_2 fx_3 Rx_2 cx_2_0 cx_2_1 cx_2_2 cx_2_3
          clear F
          obtain ⟨cx_3_0, cx_3_1, cx_3_2, cx_3_3⟩ := cells4s Rx_3
          go_wp2
          go_ret
          exact ⟨rfl, B3⟩
      · have eo : o = false := by cases o; rfl; exact absurd (ho2.1 rfl).1 (by decide)
        subst eo
        clear ho2 e1 ez
        obtain ⟨Rx_0, B0⟩ := opn1 w (Obj.cells #[.bool true, .string ⟨#[]⟩, .string t, .int .i64 e] 41)
        go_enter Tryz.func29, Tryz.ntmps29
        go_wp2_with fail
        go_quiet (fail)
        obtain ⟨w1, hw, B1, hh⟩ := quiet_world B0 nq
        rw [hw]
        have Rx_1 : w1.heap[w.heap.size]? = some (Obj.cells #[.bool true, .string ⟨#[]⟩, .string t, .int .i64 e] 41) := by rw [hh]; exact Rx_0
        clear hw hh B0 Rx_0
        obtain ⟨cx_1_0, cx_1_1, cx_1_2, cx_1_3⟩ := cells4s Rx_1
        go_wp2_with fail
        refine (nat_may _ true H1.out _).mono ?_
        rintro r w' ⟨rfl, rfl⟩
        go_wp2_with fail
        refine (nat_may t true H2.out _).mono ?_
        rintro r w' ⟨rfl, rfl⟩
        go_wp2_with fail
        refine (rodd d t true HT.out LD.out D1.out _).mono ?_
        rintro r w2 ⟨rfl, b2⟩
        have B2 : Below w.heap.size w w2 := btr B1 b2
        have Rx_2 := heap_of b2 _ _ _ Rx_1
        clear b2 B1 Rx_1 cx_1_0 cx_1_1 cx_1_2 cx_1_3
        obtain ⟨cx_2_0, cx_2_1, cx_2_2, cx_2_3⟩ := cells4s Rx_2
        go_wp2_with fail
        obtain ⟨F, hF1, hF2⟩ := below_fun w2
        have fx_0 := fun u => cells4 (heap_of (hF1 u) _ _ _ Rx_2) 0 _ rfl
        have fx_1 := fun u => cells4 (heap_of (hF1 u) _ _ _ Rx_2) 1 _ rfl
        have fx_2 := fun u => cells4 (heap_of (hF1 u) _ _ _ Rx_2) 2 _ rfl
        have fx_3 := fun u => cells4 (heap_of (hF1 u) _ _ _ Rx_2) 3 _ rfl
        refine wp_region_below F hF2 (by kernel_rfl) (by kernel_rfl) ?_
        repeat first | go_big_quiet_step (first | (go_at_call 77; exact quietF hF1 hF2 (xnull _)) | fail) | quiet_step (first | (go_at_call 77; exact quietF hF1 hF2 (xnull _)) | fail)
        refine wpQuiet_nil ?_
        rintro _ ⟨uW, rfl⟩
        have B3 := btr B2 (hF1 uW)
        have Rx_3 := heap_of (hF1 uW) _ _ _ Rx_2
        obtain ⟨w3, hw⟩ : ∃ V, F uW = V := ⟨_, rfl⟩
        rw [hw] at B3 Rx_3
        try rw [hw]
        clear hw hF1 hF2 B2 fx_0 fx_1 fx_2 fx_3 Rx_2 cx_2_0 cx_2_1 cx_2_2 cx_2_3
        clear F
        obtain ⟨cx_3_0, cx_3_1, cx_3_2, cx_3_3⟩ := cells4s Rx_3
        go_wp2
        go_ret
        exact ⟨rfl, B3⟩
    · have e0 := eq_nil n s hs h0
      have ho2 : o = true ↔ (n % 2 = 1 ∧ Nat.gcd n d = 1) := by rw [ho]; exact ⟨fun h => by rcases h.2.2 with h | h; exact absurd h.2.1 h0; exact ⟨h.1, h.2.2⟩, fun h => ⟨by omega, by omega, Or.inr ⟨h.1, hd, h.2⟩⟩⟩
      obtain ⟨p, hp⟩ : ∃ p, decide (n % 2 = 1) = p := ⟨_, rfl⟩
      obtain ⟨v, hv⟩ : ∃ v, nbA (Nat.gcd n d) = v := ⟨_, rfl⟩
      have e1 := eq_one _ v hv
      have HP := box hp
      have HV := box hv
      clear ho hs ht ln ld hd h1 h2 h0
      cases p
      · have eo : o = false := by cases o; rfl; rw [decide_eq_true (ho2.1 rfl).1] at hp; exact hp
        subst eo
        clear ho2 hp hv e1
        obtain ⟨Rx_0, B0⟩ := opn1 w (Obj.cells #[.bool b, .string s, .string t, .int .i64 e] 41)
        go_enter Tryz.func29, Tryz.ntmps29
        go_wp2_with fail
        go_quiet (fail)
        obtain ⟨w1, hw, B1, hh⟩ := quiet_world B0 nq
        rw [hw]
        have Rx_1 : w1.heap[w.heap.size]? = some (Obj.cells #[.bool b, .string s, .string t, .int .i64 e] 41) := by rw [hh]; exact Rx_0
        clear hw hh B0 Rx_0
        obtain ⟨cx_1_0, cx_1_1, cx_1_2, cx_1_3⟩ := cells4s Rx_1
        go_wp2_with fail
        refine (nat_may _ true H1.out _).mono ?_
        rintro r w' ⟨rfl, rfl⟩
        go_wp2_with fail
        refine (nat_may t true H2.out _).mono ?_
        rintro r w' ⟨rfl, rfl⟩
        go_wp2_with fail
        refine (rodd d t true HT.out LD.out D1.out _).mono ?_
        rintro r w2 ⟨rfl, b2⟩
        have B2 : Below w.heap.size w w2 := btr B1 b2
        have Rx_2 := heap_of b2 _ _ _ Rx_1
        clear b2 B1 Rx_1 cx_1_0 cx_1_1 cx_1_2 cx_1_3
        obtain ⟨cx_2_0, cx_2_1, cx_2_2, cx_2_3⟩ := cells4s Rx_2
        go_wp2_with fail
        refine (rodd n s false HS.out LN.out HP.out _).mono ?_
        rintro r w3 ⟨rfl, b3⟩
        have B3 : Below w.heap.size w w3 := btr B2 b3
        have Rx_3 := heap_of b3 _ _ _ Rx_2
        clear b3 B2 Rx_2 cx_2_0 cx_2_1 cx_2_2 cx_2_3
        obtain ⟨cx_3_0, cx_3_1, cx_3_2, cx_3_3⟩ := cells4s Rx_3
        go_wp2
        go_ret
        exact ⟨rfl, B3⟩
      · have eo : decide (Nat.gcd n d = 1) = o := by
          rw [Bool.eq_iff_iff, ho2, decide_eq_true_iff]
          exact ⟨fun h => ⟨of_decide_eq_true hp, h⟩, fun h => h.2⟩
        rw [eo] at e1
        clear ho2 hp hv eo
        obtain ⟨Rx_0, B0⟩ := opn1 w (Obj.cells #[.bool b, .string s, .string t, .int .i64 e] 41)
        go_enter Tryz.func29, Tryz.ntmps29
        go_wp2_with fail
        go_quiet (fail)
        obtain ⟨w1, hw, B1, hh⟩ := quiet_world B0 nq
        rw [hw]
        have Rx_1 : w1.heap[w.heap.size]? = some (Obj.cells #[.bool b, .string s, .string t, .int .i64 e] 41) := by rw [hh]; exact Rx_0
        clear hw hh B0 Rx_0
        obtain ⟨cx_1_0, cx_1_1, cx_1_2, cx_1_3⟩ := cells4s Rx_1
        go_wp2_with fail
        refine (nat_may _ true H1.out _).mono ?_
        rintro r w' ⟨rfl, rfl⟩
        go_wp2_with fail
        refine (nat_may t true H2.out _).mono ?_
        rintro r w' ⟨rfl, rfl⟩
        go_wp2_with fail
        refine (rodd d t true HT.out LD.out D1.out _).mono ?_
        rintro r w2 ⟨rfl, b2⟩
        have B2 : Below w.heap.size w w2 := btr B1 b2
        have Rx_2 := heap_of b2 _ _ _ Rx_1
        clear b2 B1 Rx_1 cx_1_0 cx_1_1 cx_1_2 cx_1_3
        obtain ⟨cx_2_0, cx_2_1, cx_2_2, cx_2_3⟩ := cells4s Rx_2
        go_wp2_with fail
        refine (rodd n s true HS.out LN.out HP.out _).mono ?_
        rintro r w3 ⟨rfl, b3⟩
        have B3 : Below w.heap.size w w3 := btr B2 b3
        have Rx_3 := heap_of b3 _ _ _ Rx_2
        clear b3 B2 Rx_2 cx_2_0 cx_2_1 cx_2_2 cx_2_3
        obtain ⟨cx_3_0, cx_3_1, cx_3_2, cx_3_3⟩ := cells4s Rx_3
        go_wp2_with fail
        refine (nat_Gcd n d s t v HS.out HT.out LN.out LD.out HV.out _).mono ?_
        rintro r w4 ⟨rfl, b4⟩
        have B4 : Below w.heap.size w w4 := btr B3 b4
        have Rx_4 := heap_of b4 _ _ _ Rx_3
        clear b4 B3 Rx_3 cx_3_0 cx_3_1 cx_3_2 cx_3_3
        obtain ⟨cx_4_0, cx_4_1, cx_4_2, cx_4_3⟩ := cells4s Rx_4
        go_wp2
        go_ret
        exact ⟨rfl, B4⟩
  · have D1 : Box (decide (d % 2 = 1) = false) := box (decide_eq_false hd)
    have eo : o = false := by cases o; rfl; have := ho.1 rfl; omega
    subst eo
    clear ho hs ht ln ld hd
    obtain ⟨Rx_0, B0⟩ := opn1 w (Obj.cells #[.bool b, .string s, .string t, .int .i64 e] 41)
    go_enter Tryz.func29, Tryz.ntmps29
    go_wp2_with fail
    go_quiet (fail)
    obtain ⟨w1, hw, B1, hh⟩ := quiet_world B0 nq
    rw [hw]
    have Rx_1 : w1.heap[w.heap.size]? = some (Obj.cells #[.bool b, .string s, .string t, .int .i64 e] 41) := by rw [hh]; exact Rx_0
    clear hw hh B0 Rx_0
    obtain ⟨cx_1_0, cx_1_1, cx_1_2, cx_1_3⟩ := cells4s Rx_1
    go_wp2_with fail
    refine (nat_may s true H1.out _).mono ?_
    rintro r w' ⟨rfl, rfl⟩
    go_wp2_with fail
    refine (nat_may t true H2.out _).mono ?_
    rintro r w' ⟨rfl, rfl⟩
    go_wp2_with fail
    refine (rodd d t false HT.out LD.out D1.out _).mono ?_
    rintro r w2 ⟨rfl, b2⟩
    have B2 : Below w.heap.size w w2 := btr B1 b2
    have Rx_2 := heap_of b2 _ _ _ Rx_1
    clear b2 B1 Rx_1 cx_1_0 cx_1_1 cx_1_2 cx_1_3
    obtain ⟨cx_2_0, cx_2_1, cx_2_2, cx_2_3⟩ := cells4s Rx_2
    go_wp2
    go_ret
    exact ⟨rfl, B2⟩
end Go.Proofs.YtbmhfcppaajgbaaGreatDoor
namespace Go.Proofs.YtbmhfcppaajgbaaGreatDoor
set_option maxRecDepth 100000
open Go.RowKit WMath XMath

set_option maxRecDepth 100000 in
set_option maxHeartbeats 1000000 in
theorem xcheck (b : Bool) (s t : ByteArray) (e : Int) (o : Bool) (ho : o = true ↔ MayX b s t e) (w : World) (hT : TabAt w) : Calls Tryz.prog 146 #[.agg #[.bool b, .string s, .string t, .int .i64 e]] w fun r w' => r = .returned (.int .i64 (if o then 0 else 2)) ∧ Below w.heap.size w w' := by
  have TT := box hT
  clear hT
  cases hm1 : mayB s
  · have eo : o = false := by
      cases o
      · rfl
      · have := (mayX_s b s t e (ho.1 rfl)).1
        rw [hm1] at this
        exact absurd this (by decide)
    subst eo
    have H1 := box hm1
    clear hm1 ho
    obtain ⟨Rx_0, B0⟩ := opn1 w (Obj.cells #[.bool b, .string s, .string t, .int .i64 e] 41)
    go_enter Tryz.func146, Tryz.ntmps146
    go_wp2_with fail
    refine (n_check s false H1.out _).mono ?_
    rintro r w' ⟨rfl, rfl⟩
    go_wp2
    go_ret
    exact ⟨rfl, B0⟩
  cases hm2 : mayB t
  · have eo : o = false := by
      cases o
      · rfl
      · have := (mayX_s b s t e (ho.1 rfl)).2
        rw [hm2] at this
        exact absurd this (by decide)
    subst eo
    have H1 := box hm1
    have H2 := box hm2
    clear hm1 hm2 ho
    obtain ⟨Rx_0, B0⟩ := opn1 w (Obj.cells #[.bool b, .string s, .string t, .int .i64 e] 41)
    go_enter Tryz.func146, Tryz.ntmps146
    go_wp2_with fail
    refine (n_check s true H1.out _).mono ?_
    rintro r w' ⟨rfl, rfl⟩
    go_wp2_with fail
    refine (n_check t false H2.out _).mono ?_
    rintro r w' ⟨rfl, rfl⟩
    go_wp2
    go_ret
    exact ⟨rfl, B0⟩
  obtain ⟨n, hs, ln⟩ := mayB_is s hm1
  obtain ⟨d, ht, ld⟩ := mayB_is t hm2
  rw [mayX_iff b n d s t e hs ht, can_parts b n d e ln ld] at ho
  have H1 := box hm1
  have H2 := box hm2
  have HS := box hs
  have HT := box ht
  have LN := box ln
  have LD := box ld
  clear hm1 hm2
  obtain ⟨g, hg⟩ : ∃ g, (decide (-1048576 ≤ e) && decide (e ≤ 1048576)) = g := ⟨_, rfl⟩
  have HG := box hg
  cases g
  · have eo : o = false := by
      cases o
      · rfl
      · have := ho.1 rfl
        rw [decide_eq_true this.1, decide_eq_true this.2.1] at hg
        exact hg
    subst eo
    clear ho hs ht ln ld hg
    obtain ⟨Rx_0, B0⟩ := opn1 w (Obj.cells #[.bool b, .string s, .string t, .int .i64 e] 41)
    go_enter Tryz.func146, Tryz.ntmps146
    go_wp2_with fail
    refine (n_check s true H1.out _).mono ?_
    rintro r w' ⟨rfl, rfl⟩
    go_wp2_with fail
    refine (n_check t true H2.out _).mono ?_
    rintro r w' ⟨rfl, rfl⟩
    go_wp2_with fail
    refine (withinx e 1048576 false (by decide) (by decide) HG.out _).mono ?_
    rintro r w1 ⟨rfl, b1⟩
    have B1 : Below w.heap.size w w1 := btr B0 b1
    have Rx_1 := heap_of b1 _ _ _ Rx_0
    clear b1 B0 Rx_0
    obtain ⟨cx_1_0, cx_1_1, cx_1_2, cx_1_3⟩ := cells4s Rx_1
    go_wp2
    go_ret
    exact ⟨rfl, B1⟩
  have hr : -1048576 ≤ e ∧ e ≤ 1048576 := by simpa using hg
  clear hg
  by_cases h0 : n = 0
  · subst h0
    rw [nbA_zero] at hs
    have hs2 := hs
    clear hs
    subst hs2
    have e1 := eq_one d t ht
    have ez : (e == 0) = decide (e = 0) := by rw [Bool.eq_iff_iff, beq_iff_eq, decide_eq_true_iff]
    have ho2 : o = true ↔ (b = false ∧ d = 1 ∧ e = 0) := by rw [ho]; exact ⟨fun h => by rcases h.2.2 with h | h; exact ⟨h.1, h.2.2⟩; omega, fun h => ⟨by omega, by omega, Or.inl ⟨h.1, rfl, h.2⟩⟩⟩
    have OD : Box (decide ((0 : Nat) % 2 = 1) = false) := box rfl
    clear ho ht ln ld hr
    cases b
    · by_cases d1 : d = 1
      · rw [decide_eq_true d1] at e1
        by_cases z : e = 0
        · have eo : o = true := ho2.2 ⟨rfl, d1, z⟩
          subst eo
          rw [decide_eq_true z] at ez
          clear ho2 d1 z
          obtain ⟨Rx_0, B0⟩ := opn1 w (Obj.cells #[.bool false, .string ⟨#[]⟩, .string t, .int .i64 e] 41)
          go_enter Tryz.func146, Tryz.ntmps146
          go_wp2_with fail
          refine (n_check _ true H1.out _).mono ?_
          rintro r w' ⟨rfl, rfl⟩
          go_wp2_with fail
          refine (n_check t true H2.out _).mono ?_
          rintro r w' ⟨rfl, rfl⟩
          go_wp2_with fail
          refine (withinx e 1048576 true (by decide) (by decide) HG.out _).mono ?_
          rintro r w1 ⟨rfl, b1⟩
          have B1 : Below w.heap.size w w1 := btr B0 b1
          have Rx_1 := heap_of b1 _ _ _ Rx_0
          clear b1 B0 Rx_0
          obtain ⟨cx_1_0, cx_1_1, cx_1_2, cx_1_3⟩ := cells4s Rx_1
          go_wp2_with fail
          obtain ⟨F, hF1, hF2⟩ := below_fun w1
          have fx_0 := fun u => cells4 (heap_of (hF1 u) _ _ _ Rx_1) 0 _ rfl
          have fx_1 := fun u => cells4 (heap_of (hF1 u) _ _ _ Rx_1) 1 _ rfl
          have fx_2 := fun u => cells4 (heap_of (hF1 u) _ _ _ Rx_1) 2 _ rfl
          have fx_3 := fun u => cells4 (heap_of (hF1 u) _ _ _ Rx_1) 3 _ rfl
          refine wp_region_below F hF2 (by kernel_rfl) (by kernel_rfl) ?_
          repeat first | go_big_quiet_step (first | (go_at_call 90; exact quietF hF1 hF2 (zerox _)) | fail) | quiet_step (first | (go_at_call 90; exact quietF hF1 hF2 (zerox _)) | fail)
          refine wpQuiet_nil ?_
          rintro _ ⟨uW, rfl⟩
          have B2 := btr B1 (hF1 uW)
          have Rx_2 := heap_of (hF1 uW) _ _ _ Rx_1
          obtain ⟨w2, hw⟩ : ∃ V, F uW = V := ⟨_, rfl⟩
          rw [hw] at B2 Rx_2
          try rw [hw]
          clear hw hF1 hF2 B1 fx_0 fx_1 fx_2 fx_3 Rx_1 cx_1_0 cx_1_1 cx_1_2 cx_1_3
          clear F
          obtain ⟨cx_2_0, cx_2_1, cx_2_2, cx_2_3⟩ := cells4s Rx_2
          go_wp2
          go_ret
          exact ⟨rfl, B2⟩
        · have eo : o = false := by cases o; rfl; exact absurd (ho2.1 rfl).2.2 z
          subst eo
          rw [decide_eq_false z] at ez
          clear ho2 d1
          obtain ⟨Rx_0, B0⟩ := opn1 w (Obj.cells #[.bool false, .string ⟨#[]⟩, .string t, .int .i64 e] 41)
          go_enter Tryz.func146, Tryz.ntmps146
          go_wp2_with fail
          refine (n_check _ true H1.out _).mono ?_
          rintro r w' ⟨rfl, rfl⟩
          go_wp2_with fail
          refine (n_check t true H2.out _).mono ?_
          rintro r w' ⟨rfl, rfl⟩
          go_wp2_with fail
          refine (withinx e 1048576 true (by decide) (by decide) HG.out _).mono ?_
          rintro r w1 ⟨rfl, b1⟩
          have B1 : Below w.heap.size w w1 := btr B0 b1
          have Rx_1 := heap_of b1 _ _ _ Rx_0
          clear b1 B0 Rx_0
          obtain ⟨cx_1_0, cx_1_1, cx_1_2, cx_1_3⟩ := cells4s Rx_1
          go_wp2_with fail
          obtain ⟨F, hF1, hF2⟩ := below_fun w1
          have fx_0 := fun u => cells4 (heap_of (hF1 u) _ _ _ Rx_1) 0 _ rfl
          have fx_1 := fun u => cells4 (heap_of (hF1 u) _ _ _ Rx_1) 1 _ rfl
          have fx_2 := fun u => cells4 (heap_of (hF1 u) _ _ _ Rx_1) 2 _ rfl
          have fx_3 := fun u => cells4 (heap_of (hF1 u) _ _ _ Rx_1) 3 _ rfl
          have TF : Box (∀ u, TabAt (F u)) := box (fun u => tabB TT.out (btr B1 (hF1 u)))
          refine wp_region_below F hF2 (by kernel_rfl) (by kernel_rfl) ?_
          repeat first | go_big_quiet_step (first | (go_at_call 90; exact quietF hF1 hF2 (zerox _)) | (go_at_call 220; exact quietF hF1 hF2 (oddx 0 _ false HS.out LN.out OD.out _ (TF.out _))) | fail) | quiet_step (first | (go_at_call 90; exact quietF hF1 hF2 (zerox _)) | (go_at_call 220; exact quietF hF1 hF2 (oddx 0 _ false HS.out LN.out OD.out _ (TF.out _))) | fail)
          refine wpQuiet_nil ?_
          rintro _ ⟨uW, rfl⟩
          have B2 := btr B1 (hF1 uW)
          have Rx_2 := heap_of (hF1 uW) _ _ _ Rx_1
          obtain ⟨w2, hw⟩ : ∃ V, F uW = V := ⟨_, rfl⟩
          rw [hw] at B2 Rx_2
          try rw [hw]
          clear hw hF1 hF2 B1 fx_0 fx_1 fx_2 fx_3 Rx_1 cx_1_0 cx_1_1 cx_1_2 cx_1_3
          clear TF
          clear F
          obtain ⟨cx_2_0, cx_2_1, cx_2_2, cx_2_3⟩ := cells4s Rx_2
          go_wp2
          go_ret
          exact ⟨rfl, B2⟩
      · have eo : o = false := by cases o; rfl; exact absurd (ho2.1 rfl).2.1 d1
        subst eo
        rw [decide_eq_false d1] at e1
        clear ho2 d1 ez
        obtain ⟨Rx_0, B0⟩ := opn1 w (Obj.cells #[.bool false, .string ⟨#[]⟩, .string t, .int .i64 e] 41)
        go_enter Tryz.func146, Tryz.ntmps146
        go_wp2_with fail
        refine (n_check _ true H1.out _).mono ?_
        rintro r w' ⟨rfl, rfl⟩
        go_wp2_with fail
        refine (n_check t true H2.out _).mono ?_
        rintro r w' ⟨rfl, rfl⟩
        go_wp2_with fail
        refine (withinx e 1048576 true (by decide) (by decide) HG.out _).mono ?_
        rintro r w1 ⟨rfl, b1⟩
        have B1 : Below w.heap.size w w1 := btr B0 b1
        have Rx_1 := heap_of b1 _ _ _ Rx_0
        clear b1 B0 Rx_0
        obtain ⟨cx_1_0, cx_1_1, cx_1_2, cx_1_3⟩ := cells4s Rx_1
        go_wp2_with fail
        obtain ⟨F, hF1, hF2⟩ := below_fun w1
        have fx_0 := fun u => cells4 (heap_of (hF1 u) _ _ _ Rx_1) 0 _ rfl
        have fx_1 := fun u => cells4 (heap_of (hF1 u) _ _ _ Rx_1) 1 _ rfl
        have fx_2 := fun u => cells4 (heap_of (hF1 u) _ _ _ Rx_1) 2 _ rfl
        have fx_3 := fun u => cells4 (heap_of (hF1 u) _ _ _ Rx_1) 3 _ rfl
        have TF : Box (∀ u, TabAt (F u)) := box (fun u => tabB TT.out (btr B1 (hF1 u)))
        refine wp_region_below F hF2 (by kernel_rfl) (by kernel_rfl) ?_
        repeat first | go_big_quiet_step (first | (go_at_call 90; exact quietF hF1 hF2 (zerox _)) | (go_at_call 220; exact quietF hF1 hF2 (oddx 0 _ false HS.out LN.out OD.out _ (TF.out _))) | fail) | quiet_step (first | (go_at_call 90; exact quietF hF1 hF2 (zerox _)) | (go_at_call 220; exact quietF hF1 hF2 (oddx 0 _ false HS.out LN.out OD.out _ (TF.out _))) | fail)
        refine wpQuiet_nil ?_
        rintro _ ⟨uW, rfl⟩
        have B2 := btr B1 (hF1 uW)
        have Rx_2 := heap_of (hF1 uW) _ _ _ Rx_1
        obtain ⟨w2, hw⟩ : ∃ V, F uW = V := ⟨_, rfl⟩
        rw [hw] at B2 Rx_2
        try rw [hw]
        clear hw hF1 hF2 B1 fx_0 fx_1 fx_2 fx_3 Rx_1 cx_1_0 cx_1_1 cx_1_2 cx_1_3
        clear TF
        clear F
        obtain ⟨cx_2_0, cx_2_1, cx_2_2, cx_2_3⟩ := cells4s Rx_2
        go_wp2
        go_ret
        exact ⟨rfl, B2⟩
    · have eo : o = false := by cases o; rfl; exact absurd (ho2.1 rfl).1 (by decide)
      subst eo
      clear ho2 e1 ez
      obtain ⟨Rx_0, B0⟩ := opn1 w (Obj.cells #[.bool true, .string ⟨#[]⟩, .string t, .int .i64 e] 41)
      go_enter Tryz.func146, Tryz.ntmps146
      go_wp2_with fail
      refine (n_check _ true H1.out _).mono ?_
      rintro r w' ⟨rfl, rfl⟩
      go_wp2_with fail
      refine (n_check t true H2.out _).mono ?_
      rintro r w' ⟨rfl, rfl⟩
      go_wp2_with fail
      refine (withinx e 1048576 true (by decide) (by decide) HG.out _).mono ?_
      rintro r w1 ⟨rfl, b1⟩
      have B1 : Below w.heap.size w w1 := btr B0 b1
      have Rx_1 := heap_of b1 _ _ _ Rx_0
      clear b1 B0 Rx_0
      obtain ⟨cx_1_0, cx_1_1, cx_1_2, cx_1_3⟩ := cells4s Rx_1
      go_wp2_with fail
      obtain ⟨F, hF1, hF2⟩ := below_fun w1
      have fx_0 := fun u => cells4 (heap_of (hF1 u) _ _ _ Rx_1) 0 _ rfl
      have fx_1 := fun u => cells4 (heap_of (hF1 u) _ _ _ Rx_1) 1 _ rfl
      have fx_2 := fun u => cells4 (heap_of (hF1 u) _ _ _ Rx_1) 2 _ rfl
      have fx_3 := fun u => cells4 (heap_of (hF1 u) _ _ _ Rx_1) 3 _ rfl
      have TF : Box (∀ u, TabAt (F u)) := box (fun u => tabB TT.out (btr B1 (hF1 u)))
      refine wp_region_below F hF2 (by kernel_rfl) (by kernel_rfl) ?_
      repeat first | go_big_quiet_step (first | (go_at_call 90; exact quietF hF1 hF2 (zerox _)) | (go_at_call 220; exact quietF hF1 hF2 (oddx 0 _ false HS.out LN.out OD.out _ (TF.out _))) | fail) | quiet_step (first | (go_at_call 90; exact quietF hF1 hF2 (zerox _)) | (go_at_call 220; exact quietF hF1 hF2 (oddx 0 _ false HS.out LN.out OD.out _ (TF.out _))) | fail)
      refine wpQuiet_nil ?_
      rintro _ ⟨uW, rfl⟩
      have B2 := btr B1 (hF1 uW)
      have Rx_2 := heap_of (hF1 uW) _ _ _ Rx_1
      obtain ⟨w2, hw⟩ : ∃ V, F uW = V := ⟨_, rfl⟩
      rw [hw] at B2 Rx_2
      try rw [hw]
      clear hw hF1 hF2 B1 fx_0 fx_1 fx_2 fx_3 Rx_1 cx_1_0 cx_1_1 cx_1_2 cx_1_3
      clear TF
      clear F
      obtain ⟨cx_2_0, cx_2_1, cx_2_2, cx_2_3⟩ := cells4s Rx_2
      go_wp2
      go_ret
      exact ⟨rfl, B2⟩
  · have e0 := eq_nil n s hs h0
    have ho2 : o = true ↔ (n % 2 = 1 ∧ d % 2 = 1 ∧ Nat.gcd n d = 1) := by
      rw [ho]
      constructor
      · rintro ⟨_, _, h | h⟩
        · exact absurd h.2.1 h0
        · exact h
      · intro h
        exact ⟨hr.1, hr.2, Or.inr h⟩
    obtain ⟨p, hp⟩ : ∃ p, decide (n % 2 = 1) = p := ⟨_, rfl⟩
    obtain ⟨q, hq⟩ : ∃ p, decide (d % 2 = 1) = p := ⟨_, rfl⟩
    have HP := box hp
    have HQ := box hq
    clear ho hs ht ln ld hr h0
    cases p
    · have eo : o = false := by cases o; rfl; rw [decide_eq_true (ho2.1 rfl).1] at hp; exact hp
      subst eo
      clear ho2 hp hq
      cases b
      · obtain ⟨Rx_0, B0⟩ := opn1 w (Obj.cells #[.bool false, .string s, .string t, .int .i64 e] 41)
        go_enter Tryz.func146, Tryz.ntmps146
        go_wp2_with fail
        refine (n_check _ true H1.out _).mono ?_
        rintro r w' ⟨rfl, rfl⟩
        go_wp2_with fail
        refine (n_check t true H2.out _).mono ?_
        rintro r w' ⟨rfl, rfl⟩
        go_wp2_with fail
        refine (withinx e 1048576 true (by decide) (by decide) HG.out _).mono ?_
        rintro r w1 ⟨rfl, b1⟩
        have B1 : Below w.heap.size w w1 := btr B0 b1
        have Rx_1 := heap_of b1 _ _ _ Rx_0
        clear b1 B0 Rx_0
        obtain ⟨cx_1_0, cx_1_1, cx_1_2, cx_1_3⟩ := cells4s Rx_1
        go_wp2_with fail
        obtain ⟨F, hF1, hF2⟩ := below_fun w1
        have fx_0 := fun u => cells4 (heap_of (hF1 u) _ _ _ Rx_1) 0 _ rfl
        have fx_1 := fun u => cells4 (heap_of (hF1 u) _ _ _ Rx_1) 1 _ rfl
        have fx_2 := fun u => cells4 (heap_of (hF1 u) _ _ _ Rx_1) 2 _ rfl
        have fx_3 := fun u => cells4 (heap_of (hF1 u) _ _ _ Rx_1) 3 _ rfl
        have TF : Box (∀ u, TabAt (F u)) := box (fun u => tabB TT.out (btr B1 (hF1 u)))
        refine wp_region_below F hF2 (by kernel_rfl) (by kernel_rfl) ?_
        repeat first | go_big_quiet_step (first | (go_at_call 90; exact quietF hF1 hF2 (zerox _)) | (go_at_call_of 220 (Value.string s); exact quietF hF1 hF2 (oddx n s false HS.out LN.out HP.out _ (TF.out _))) | fail) | quiet_step (first | (go_at_call 90; exact quietF hF1 hF2 (zerox _)) | (go_at_call_of 220 (Value.string s); exact quietF hF1 hF2 (oddx n s false HS.out LN.out HP.out _ (TF.out _))) | fail)
        refine wpQuiet_nil ?_
        rintro _ ⟨uW, rfl⟩
        have B2 := btr B1 (hF1 uW)
        have Rx_2 := heap_of (hF1 uW) _ _ _ Rx_1
        obtain ⟨w2, hw⟩ : ∃ V, F uW = V := ⟨_, rfl⟩
        rw [hw] at B2 Rx_2
        try rw [hw]
        clear hw hF1 hF2 B1 fx_0 fx_1 fx_2 fx_3 Rx_1 cx_1_0 cx_1_1 cx_1_2 cx_1_3
        clear TF
        clear F
        obtain ⟨cx_2_0, cx_2_1, cx_2_2, cx_2_3⟩ := cells4s Rx_2
        go_wp2
        go_ret
        exact ⟨rfl, B2⟩
      · obtain ⟨Rx_0, B0⟩ := opn1 w (Obj.cells #[.bool true, .string s, .string t, .int .i64 e] 41)
        go_enter Tryz.func146, Tryz.ntmps146
        go_wp2_with fail
        refine (n_check _ true H1.out _).mono ?_
        rintro r w' ⟨rfl, rfl⟩
        go_wp2_with fail
        refine (n_check t true H2.out _).mono ?_
        rintro r w' ⟨rfl, rfl⟩
        go_wp2_with fail
        refine (withinx e 1048576 true (by decide) (by decide) HG.out _).mono ?_
        rintro r w1 ⟨rfl, b1⟩
        have B1 : Below w.heap.size w w1 := btr B0 b1
        have Rx_1 := heap_of b1 _ _ _ Rx_0
        clear b1 B0 Rx_0
        obtain ⟨cx_1_0, cx_1_1, cx_1_2, cx_1_3⟩ := cells4s Rx_1
        go_wp2_with fail
        obtain ⟨F, hF1, hF2⟩ := below_fun w1
        have fx_0 := fun u => cells4 (heap_of (hF1 u) _ _ _ Rx_1) 0 _ rfl
        have fx_1 := fun u => cells4 (heap_of (hF1 u) _ _ _ Rx_1) 1 _ rfl
        have fx_2 := fun u => cells4 (heap_of (hF1 u) _ _ _ Rx_1) 2 _ rfl
        have fx_3 := fun u => cells4 (heap_of (hF1 u) _ _ _ Rx_1) 3 _ rfl
        have TF : Box (∀ u, TabAt (F u)) := box (fun u => tabB TT.out (btr B1 (hF1 u)))
        refine wp_region_below F hF2 (by kernel_rfl) (by kernel_rfl) ?_
        repeat first | go_big_quiet_step (first | (go_at_call 90; exact quietF hF1 hF2 (zerox _)) | (go_at_call_of 220 (Value.string s); exact quietF hF1 hF2 (oddx n s false HS.out LN.out HP.out _ (TF.out _))) | fail) | quiet_step (first | (go_at_call 90; exact quietF hF1 hF2 (zerox _)) | (go_at_call_of 220 (Value.string s); exact quietF hF1 hF2 (oddx n s false HS.out LN.out HP.out _ (TF.out _))) | fail)
        refine wpQuiet_nil ?_
        rintro _ ⟨uW, rfl⟩
        have B2 := btr B1 (hF1 uW)
        have Rx_2 := heap_of (hF1 uW) _ _ _ Rx_1
        obtain ⟨w2, hw⟩ : ∃ V, F uW = V := ⟨_, rfl⟩
        rw [hw] at B2 Rx_2
        try rw [hw]
        clear hw hF1 hF2 B1 fx_0 fx_1 fx_2 fx_3 Rx_1 cx_1_0 cx_1_1 cx_1_2 cx_1_3
        clear TF
        clear F
        obtain ⟨cx_2_0, cx_2_1, cx_2_2, cx_2_3⟩ := cells4s Rx_2
        go_wp2
        go_ret
        exact ⟨rfl, B2⟩
    cases q
    · have eo : o = false := by cases o; rfl; rw [decide_eq_true (ho2.1 rfl).2.1] at hq; exact hq
      subst eo
      clear ho2 hp hq
      cases b
      · obtain ⟨Rx_0, B0⟩ := opn1 w (Obj.cells #[.bool false, .string s, .string t, .int .i64 e] 41)
        go_enter Tryz.func146, Tryz.ntmps146
        go_wp2_with fail
        refine (n_check _ true H1.out _).mono ?_
        rintro r w' ⟨rfl, rfl⟩
        go_wp2_with fail
        refine (n_check t true H2.out _).mono ?_
        rintro r w' ⟨rfl, rfl⟩
        go_wp2_with fail
        refine (withinx e 1048576 true (by decide) (by decide) HG.out _).mono ?_
        rintro r w1 ⟨rfl, b1⟩
        have B1 : Below w.heap.size w w1 := btr B0 b1
        have Rx_1 := heap_of b1 _ _ _ Rx_0
        clear b1 B0 Rx_0
        obtain ⟨cx_1_0, cx_1_1, cx_1_2, cx_1_3⟩ := cells4s Rx_1
        go_wp2_with fail
        obtain ⟨F, hF1, hF2⟩ := below_fun w1
        have fx_0 := fun u => cells4 (heap_of (hF1 u) _ _ _ Rx_1) 0 _ rfl
        have fx_1 := fun u => cells4 (heap_of (hF1 u) _ _ _ Rx_1) 1 _ rfl
        have fx_2 := fun u => cells4 (heap_of (hF1 u) _ _ _ Rx_1) 2 _ rfl
        have fx_3 := fun u => cells4 (heap_of (hF1 u) _ _ _ Rx_1) 3 _ rfl
        have TF : Box (∀ u, TabAt (F u)) := box (fun u => tabB TT.out (btr B1 (hF1 u)))
        refine wp_region_below F hF2 (by kernel_rfl) (by kernel_rfl) ?_
        repeat first | go_big_quiet_step (first | (go_at_call 90; exact quietF hF1 hF2 (zerox _)) | (go_at_call_of 220 (Value.string s); exact quietF hF1 hF2 (oddx n s true HS.out LN.out HP.out _ (TF.out _))) | (go_at_call_of 220 (Value.string t); exact quietF hF1 hF2 (oddx d t false HT.out LD.out HQ.out _ (TF.out _))) | fail) | quiet_step (first | (go_at_call 90; exact quietF hF1 hF2 (zerox _)) | (go_at_call_of 220 (Value.string s); exact quietF hF1 hF2 (oddx n s true HS.out LN.out HP.out _ (TF.out _))) | (go_at_call_of 220 (Value.string t); exact quietF hF1 hF2 (oddx d t false HT.out LD.out HQ.out _ (TF.out _))) | fail)
        refine wpQuiet_nil ?_
        rintro _ ⟨uW, rfl⟩
        have B2 := btr B1 (hF1 uW)
        have Rx_2 := heap_of (hF1 uW) _ _ _ Rx_1
        obtain ⟨w2, hw⟩ : ∃ V, F uW = V := ⟨_, rfl⟩
        rw [hw] at B2 Rx_2
        try rw [hw]
        clear hw hF1 hF2 B1 fx_0 fx_1 fx_2 fx_3 Rx_1 cx_1_0 cx_1_1 cx_1_2 cx_1_3
        clear TF
        clear F
        obtain ⟨cx_2_0, cx_2_1, cx_2_2, cx_2_3⟩ := cells4s Rx_2
        go_wp2
        go_ret
        exact ⟨rfl, B2⟩
      · obtain ⟨Rx_0, B0⟩ := opn1 w (Obj.cells #[.bool true, .string s, .string t, .int .i64 e] 41)
        go_enter Tryz.func146, Tryz.ntmps146
        go_wp2_with fail
        refine (n_check _ true H1.out _).mono ?_
        rintro r w' ⟨rfl, rfl⟩
        go_wp2_with fail
        refine (n_check t true H2.out _).mono ?_
        rintro r w' ⟨rfl, rfl⟩
        go_wp2_with fail
        refine (withinx e 1048576 true (by decide) (by decide) HG.out _).mono ?_
        rintro r w1 ⟨rfl, b1⟩
        have B1 : Below w.heap.size w w1 := btr B0 b1
        have Rx_1 := heap_of b1 _ _ _ Rx_0
        clear b1 B0 Rx_0
        obtain ⟨cx_1_0, cx_1_1, cx_1_2, cx_1_3⟩ := cells4s Rx_1
        go_wp2_with fail
        obtain ⟨F, hF1, hF2⟩ := below_fun w1
        have fx_0 := fun u => cells4 (heap_of (hF1 u) _ _ _ Rx_1) 0 _ rfl
        have fx_1 := fun u => cells4 (heap_of (hF1 u) _ _ _ Rx_1) 1 _ rfl
        have fx_2 := fun u => cells4 (heap_of (hF1 u) _ _ _ Rx_1) 2 _ rfl
        have fx_3 := fun u => cells4 (heap_of (hF1 u) _ _ _ Rx_1) 3 _ rfl
        have TF : Box (∀ u, TabAt (F u)) := box (fun u => tabB TT.out (btr B1 (hF1 u)))
        refine wp_region_below F hF2 (by kernel_rfl) (by kernel_rfl) ?_
        repeat first | go_big_quiet_step (first | (go_at_call 90; exact quietF hF1 hF2 (zerox _)) | (go_at_call_of 220 (Value.string s); exact quietF hF1 hF2 (oddx n s true HS.out LN.out HP.out _ (TF.out _))) | (go_at_call_of 220 (Value.string t); exact quietF hF1 hF2 (oddx d t false HT.out LD.out HQ.out _ (TF.out _))) | fail) | quiet_step (first | (go_at_call 90; exact quietF hF1 hF2 (zerox _)) | (go_at_call_of 220 (Value.string s); exact quietF hF1 hF2 (oddx n s true HS.out LN.out HP.out _ (TF.out _))) | (go_at_call_of 220 (Value.string t); exact quietF hF1 hF2 (oddx d t false HT.out LD.out HQ.out _ (TF.out _))) | fail)
        refine wpQuiet_nil ?_
        rintro _ ⟨uW, rfl⟩
        have B2 := btr B1 (hF1 uW)
        have Rx_2 := heap_of (hF1 uW) _ _ _ Rx_1
        obtain ⟨w2, hw⟩ : ∃ V, F uW = V := ⟨_, rfl⟩
        rw [hw] at B2 Rx_2
        try rw [hw]
        clear hw hF1 hF2 B1 fx_0 fx_1 fx_2 fx_3 Rx_1 cx_1_0 cx_1_1 cx_1_2 cx_1_3
        clear TF
        clear F
        obtain ⟨cx_2_0, cx_2_1, cx_2_2, cx_2_3⟩ := cells4s Rx_2
        go_wp2
        go_ret
        exact ⟨rfl, B2⟩
    · have eo : decide (Nat.gcd n d = 1) = o := by
        rw [Bool.eq_iff_iff, ho2, decide_eq_true_iff]
        exact ⟨fun h => ⟨of_decide_eq_true hp, of_decide_eq_true hq, h⟩, fun h => h.2.2⟩
      have HO := box eo
      clear ho2 hp hq eo
      cases b
      · cases o
        · obtain ⟨Rx_0, B0⟩ := opn1 w (Obj.cells #[.bool false, .string s, .string t, .int .i64 e] 41)
          go_enter Tryz.func146, Tryz.ntmps146
          go_wp2_with fail
          refine (n_check _ true H1.out _).mono ?_
          rintro r w' ⟨rfl, rfl⟩
          go_wp2_with fail
          refine (n_check t true H2.out _).mono ?_
          rintro r w' ⟨rfl, rfl⟩
          go_wp2_with fail
          refine (withinx e 1048576 true (by decide) (by decide) HG.out _).mono ?_
          rintro r w1 ⟨rfl, b1⟩
          have B1 : Below w.heap.size w w1 := btr B0 b1
          have Rx_1 := heap_of b1 _ _ _ Rx_0
          clear b1 B0 Rx_0
          obtain ⟨cx_1_0, cx_1_1, cx_1_2, cx_1_3⟩ := cells4s Rx_1
          go_wp2_with fail
          obtain ⟨F, hF1, hF2⟩ := below_fun w1
          have fx_0 := fun u => cells4 (heap_of (hF1 u) _ _ _ Rx_1) 0 _ rfl
          have fx_1 := fun u => cells4 (heap_of (hF1 u) _ _ _ Rx_1) 1 _ rfl
          have fx_2 := fun u => cells4 (heap_of (hF1 u) _ _ _ Rx_1) 2 _ rfl
          have fx_3 := fun u => cells4 (heap_of (hF1 u) _ _ _ Rx_1) 3 _ rfl
          have TF : Box (∀ u, TabAt (F u)) := box (fun u => tabB TT.out (btr B1 (hF1 u)))
          refine wp_region_below F hF2 (by kernel_rfl) (by kernel_rfl) ?_
          repeat first | go_big_quiet_step (first | (go_at_call 90; exact quietF hF1 hF2 (zerox _)) | (go_at_call_of 220 (Value.string s); exact quietF hF1 hF2 (oddx n s true HS.out LN.out HP.out _ (TF.out _))) | (go_at_call_of 220 (Value.string t); exact quietF hF1 hF2 (oddx d t true HT.out LD.out HQ.out _ (TF.out _))) | (go_at_call 221; exact quietF hF1 hF2 (apartx n d s t false HS.out HT.out LN.out LD.out HO.out _)) | fail) | quiet_step (first | (go_at_call 90; exact quietF hF1 hF2 (zerox _)) | (go_at_call_of 220 (Value.string s); exact quietF hF1 hF2 (oddx n s true HS.out LN.out HP.out _ (TF.out _))) | (go_at_call_of 220 (Value.string t); exact quietF hF1 hF2 (oddx d t true HT.out LD.out HQ.out _ (TF.out _))) | (go_at_call 221; exact quietF hF1 hF2 (apartx n d s t false HS.out HT.out LN.out LD.out HO.out _)) | fail)
          refine wpQuiet_nil ?_
          rintro _ ⟨uW, rfl⟩
          have B2 := btr B1 (hF1 uW)
          have Rx_2 := heap_of (hF1 uW) _ _ _ Rx_1
          obtain ⟨w2, hw⟩ : ∃ V, F uW = V := ⟨_, rfl⟩
          rw [hw] at B2 Rx_2
          try rw [hw]
          clear hw hF1 hF2 B1 fx_0 fx_1 fx_2 fx_3 Rx_1 cx_1_0 cx_1_1 cx_1_2 cx_1_3
          clear TF
          clear F
          obtain ⟨cx_2_0, cx_2_1, cx_2_2, cx_2_3⟩ := cells4s Rx_2
          go_wp2
          go_ret
          exact ⟨rfl, B2⟩
        · obtain ⟨Rx_0, B0⟩ := opn1 w (Obj.cells #[.bool false, .string s, .string t, .int .i64 e] 41)
          go_enter Tryz.func146, Tryz.ntmps146
          go_wp2_with fail
          refine (n_check _ true H1.out _).mono ?_
          rintro r w' ⟨rfl, rfl⟩
          go_wp2_with fail
          refine (n_check t true H2.out _).mono ?_
          rintro r w' ⟨rfl, rfl⟩
          go_wp2_with fail
          refine (withinx e 1048576 true (by decide) (by decide) HG.out _).mono ?_
          rintro r w1 ⟨rfl, b1⟩
          have B1 : Below w.heap.size w w1 := btr B0 b1
          have Rx_1 := heap_of b1 _ _ _ Rx_0
          clear b1 B0 Rx_0
          obtain ⟨cx_1_0, cx_1_1, cx_1_2, cx_1_3⟩ := cells4s Rx_1
          go_wp2_with fail
          obtain ⟨F, hF1, hF2⟩ := below_fun w1
          have fx_0 := fun u => cells4 (heap_of (hF1 u) _ _ _ Rx_1) 0 _ rfl
          have fx_1 := fun u => cells4 (heap_of (hF1 u) _ _ _ Rx_1) 1 _ rfl
          have fx_2 := fun u => cells4 (heap_of (hF1 u) _ _ _ Rx_1) 2 _ rfl
          have fx_3 := fun u => cells4 (heap_of (hF1 u) _ _ _ Rx_1) 3 _ rfl
          have TF : Box (∀ u, TabAt (F u)) := box (fun u => tabB TT.out (btr B1 (hF1 u)))
          refine wp_region_below F hF2 (by kernel_rfl) (by kernel_rfl) ?_
          repeat first | go_big_quiet_step (first | (go_at_call 90; exact quietF hF1 hF2 (zerox _)) | (go_at_call_of 220 (Value.string s); exact quietF hF1 hF2 (oddx n s true HS.out LN.out HP.out _ (TF.out _))) | (go_at_call_of 220 (Value.string t); exact quietF hF1 hF2 (oddx d t true HT.out LD.out HQ.out _ (TF.out _))) | (go_at_call 221; exact quietF hF1 hF2 (apartx n d s t true HS.out HT.out LN.out LD.out HO.out _)) | fail) | quiet_step (first | (go_at_call 90; exact quietF hF1 hF2 (zerox _)) | (go_at_call_of 220 (Value.string s); exact quietF hF1 hF2 (oddx n s true HS.out LN.out HP.out _ (TF.out _))) | (go_at_call_of 220 (Value.string t); exact quietF hF1 hF2 (oddx d t true HT.out LD.out HQ.out _ (TF.out _))) | (go_at_call 221; exact quietF hF1 hF2 (apartx n d s t true HS.out HT.out LN.out LD.out HO.out _)) | fail)
          refine wpQuiet_nil ?_
          rintro _ ⟨uW, rfl⟩
          have B2 := btr B1 (hF1 uW)
          have Rx_2 := heap_of (hF1 uW) _ _ _ Rx_1
          obtain ⟨w2, hw⟩ : ∃ V, F uW = V := ⟨_, rfl⟩
          rw [hw] at B2 Rx_2
          try rw [hw]
          clear hw hF1 hF2 B1 fx_0 fx_1 fx_2 fx_3 Rx_1 cx_1_0 cx_1_1 cx_1_2 cx_1_3
          clear TF
          clear F
          obtain ⟨cx_2_0, cx_2_1, cx_2_2, cx_2_3⟩ := cells4s Rx_2
          go_wp2
          go_ret
          exact ⟨rfl, B2⟩
      · cases o
        · obtain ⟨Rx_0, B0⟩ := opn1 w (Obj.cells #[.bool true, .string s, .string t, .int .i64 e] 41)
          go_enter Tryz.func146, Tryz.ntmps146
          go_wp2_with fail
          refine (n_check _ true H1.out _).mono ?_
          rintro r w' ⟨rfl, rfl⟩
          go_wp2_with fail
          refine (n_check t true H2.out _).mono ?_
          rintro r w' ⟨rfl, rfl⟩
          go_wp2_with fail
          refine (withinx e 1048576 true (by decide) (by decide) HG.out _).mono ?_
          rintro r w1 ⟨rfl, b1⟩
          have B1 : Below w.heap.size w w1 := btr B0 b1
          have Rx_1 := heap_of b1 _ _ _ Rx_0
          clear b1 B0 Rx_0
          obtain ⟨cx_1_0, cx_1_1, cx_1_2, cx_1_3⟩ := cells4s Rx_1
          go_wp2_with fail
          obtain ⟨F, hF1, hF2⟩ := below_fun w1
          have fx_0 := fun u => cells4 (heap_of (hF1 u) _ _ _ Rx_1) 0 _ rfl
          have fx_1 := fun u => cells4 (heap_of (hF1 u) _ _ _ Rx_1) 1 _ rfl
          have fx_2 := fun u => cells4 (heap_of (hF1 u) _ _ _ Rx_1) 2 _ rfl
          have fx_3 := fun u => cells4 (heap_of (hF1 u) _ _ _ Rx_1) 3 _ rfl
          have TF : Box (∀ u, TabAt (F u)) := box (fun u => tabB TT.out (btr B1 (hF1 u)))
          refine wp_region_below F hF2 (by kernel_rfl) (by kernel_rfl) ?_
          repeat first | go_big_quiet_step (first | (go_at_call 90; exact quietF hF1 hF2 (zerox _)) | (go_at_call_of 220 (Value.string s); exact quietF hF1 hF2 (oddx n s true HS.out LN.out HP.out _ (TF.out _))) | (go_at_call_of 220 (Value.string t); exact quietF hF1 hF2 (oddx d t true HT.out LD.out HQ.out _ (TF.out _))) | (go_at_call 221; exact quietF hF1 hF2 (apartx n d s t false HS.out HT.out LN.out LD.out HO.out _)) | fail) | quiet_step (first | (go_at_call 90; exact quietF hF1 hF2 (zerox _)) | (go_at_call_of 220 (Value.string s); exact quietF hF1 hF2 (oddx n s true HS.out LN.out HP.out _ (TF.out _))) | (go_at_call_of 220 (Value.string t); exact quietF hF1 hF2 (oddx d t true HT.out LD.out HQ.out _ (TF.out _))) | (go_at_call 221; exact quietF hF1 hF2 (apartx n d s t false HS.out HT.out LN.out LD.out HO.out _)) | fail)
          refine wpQuiet_nil ?_
          rintro _ ⟨uW, rfl⟩
          have B2 := btr B1 (hF1 uW)
          have Rx_2 := heap_of (hF1 uW) _ _ _ Rx_1
          obtain ⟨w2, hw⟩ : ∃ V, F uW = V := ⟨_, rfl⟩
          rw [hw] at B2 Rx_2
          try rw [hw]
          clear hw hF1 hF2 B1 fx_0 fx_1 fx_2 fx_3 Rx_1 cx_1_0 cx_1_1 cx_1_2 cx_1_3
          clear TF
          clear F
          obtain ⟨cx_2_0, cx_2_1, cx_2_2, cx_2_3⟩ := cells4s Rx_2
          go_wp2
          go_ret
          exact ⟨rfl, B2⟩
        · obtain ⟨Rx_0, B0⟩ := opn1 w (Obj.cells #[.bool true, .string s, .string t, .int .i64 e] 41)
          go_enter Tryz.func146, Tryz.ntmps146
          go_wp2_with fail
          refine (n_check _ true H1.out _).mono ?_
          rintro r w' ⟨rfl, rfl⟩
          go_wp2_with fail
          refine (n_check t true H2.out _).mono ?_
          rintro r w' ⟨rfl, rfl⟩
          go_wp2_with fail
          refine (withinx e 1048576 true (by decide) (by decide) HG.out _).mono ?_
          rintro r w1 ⟨rfl, b1⟩
          have B1 : Below w.heap.size w w1 := btr B0 b1
          have Rx_1 := heap_of b1 _ _ _ Rx_0
          clear b1 B0 Rx_0
          obtain ⟨cx_1_0, cx_1_1, cx_1_2, cx_1_3⟩ := cells4s Rx_1
          go_wp2_with fail
          obtain ⟨F, hF1, hF2⟩ := below_fun w1
          have fx_0 := fun u => cells4 (heap_of (hF1 u) _ _ _ Rx_1) 0 _ rfl
          have fx_1 := fun u => cells4 (heap_of (hF1 u) _ _ _ Rx_1) 1 _ rfl
          have fx_2 := fun u => cells4 (heap_of (hF1 u) _ _ _ Rx_1) 2 _ rfl
          have fx_3 := fun u => cells4 (heap_of (hF1 u) _ _ _ Rx_1) 3 _ rfl
          have TF : Box (∀ u, TabAt (F u)) := box (fun u => tabB TT.out (btr B1 (hF1 u)))
          refine wp_region_below F hF2 (by kernel_rfl) (by kernel_rfl) ?_
          repeat first | go_big_quiet_step (first | (go_at_call 90; exact quietF hF1 hF2 (zerox _)) | (go_at_call_of 220 (Value.string s); exact quietF hF1 hF2 (oddx n s true HS.out LN.out HP.out _ (TF.out _))) | (go_at_call_of 220 (Value.string t); exact quietF hF1 hF2 (oddx d t true HT.out LD.out HQ.out _ (TF.out _))) | (go_at_call 221; exact quietF hF1 hF2 (apartx n d s t true HS.out HT.out LN.out LD.out HO.out _)) | fail) | quiet_step (first | (go_at_call 90; exact quietF hF1 hF2 (zerox _)) | (go_at_call_of 220 (Value.string s); exact quietF hF1 hF2 (oddx n s true HS.out LN.out HP.out _ (TF.out _))) | (go_at_call_of 220 (Value.string t); exact quietF hF1 hF2 (oddx d t true HT.out LD.out HQ.out _ (TF.out _))) | (go_at_call 221; exact quietF hF1 hF2 (apartx n d s t true HS.out HT.out LN.out LD.out HO.out _)) | fail)
          refine wpQuiet_nil ?_
          rintro _ ⟨uW, rfl⟩
          have B2 := btr B1 (hF1 uW)
          have Rx_2 := heap_of (hF1 uW) _ _ _ Rx_1
          obtain ⟨w2, hw⟩ : ∃ V, F uW = V := ⟨_, rfl⟩
          rw [hw] at B2 Rx_2
          try rw [hw]
          clear hw hF1 hF2 B1 fx_0 fx_1 fx_2 fx_3 Rx_1 cx_1_0 cx_1_1 cx_1_2 cx_1_3
          clear TF
          clear F
          obtain ⟨cx_2_0, cx_2_1, cx_2_2, cx_2_3⟩ := cells4s Rx_2
          go_wp2
          go_ret
          exact ⟨rfl, B2⟩

end Go.Proofs.YtbmhfcppaajgbaaGreatDoor
namespace Go.Proofs.YtbmhfcppaajgbaaGreatDoor
set_option maxRecDepth 100000
open Go.RowKit WMath XMath

set_option maxRecDepth 100000 in
set_option maxHeartbeats 4000000 in
theorem xmay1 (b : Bool) (s t : ByteArray) (e : Int) (o : Bool) (hm : IsM o b s t e) (T : TypeId) (w : World) (g : Nat) (hg : w.heap.size = g) (hT : TabAt w) :
    Calls Tryz.prog 80 #[.slice (some ⟨g, 0, none⟩) 1 1] (w.alloc (.cells #[.bool b, .string s, .string t, .int .i64 e] T)) fun r w' => r = .returned (.bool o) ∧ Below w.heap.size w w' := by
  obtain ⟨W, hW⟩ : ∃ W, w.alloc (.cells #[.bool b, .string s, .string t, .int .i64 e] T) = W := ⟨_, rfl⟩
  have row : W.heap[g]? = some (.cells #[.bool b, .string s, .string t, .int .i64 e] T) := by rw [← hW, ← hg]; exact heap_alloc_last _ _
  have B0 : Below w.heap.size w W := by rw [← hW]; exact bal _ _
  have TT : Box (TabAt W) := box (tabB hT B0)
  have ho : o = true ↔ MayX b s t e := hm
  have HO := box ho
  rw [hW]
  rw [hg] at B0 ⊢
  clear hW hT ho hm
  go_enter Tryz.func80, Tryz.ntmps80
  go_wp2
  go_loopw [7] (fun iv wr => (iv = .int .i64 0 ∧ wr = W) ∨ (iv = .int .i64 1 ∧ Below g w wr ∧ o = true)) (fun iv _ => 2 - (intOf iv).toNat)
  case atStart => exact Or.inl ⟨rfl, rfl⟩
  case round =>
    rcases hrel with ⟨rfl, rfl⟩ | ⟨rfl, bw, rfl⟩
    · have c0 := cells4 row 0 _ rfl
      have c1 := cells4 row 1 _ rfl
      have c2 := cells4 row 2 _ rfl
      have c3 := cells4 row 3 _ rfl
      have TA : Box (TabAt (wr.alloc (.cells #[.bool b, .string s, .string t, .int .i64 e] 41))) := box (tabA TT.out _)
      have BA : Below g w (wr.alloc (.cells #[.bool b, .string s, .string t, .int .i64 e] 41)) := by subst hg; exact btr B0 (bal _ _)
      clear row
      cases o
      · go_wp2_with fail
        refine (xcheck b s t e false (by first | exact HO.out | simpa using HO.out) _ TA.out).mono ?_
        rintro r w1 ⟨rfl, b1⟩
        go_wp2
        go_ret
        exact ⟨rfl, by subst hg; exact btr BA b1⟩
      · go_wp2_with fail
        refine (xcheck b s t e true (by first | exact HO.out | simpa using HO.out) _ TA.out).mono ?_
        rintro r w1 ⟨rfl, b1⟩
        go_wp2
        go_roundw
        case rel => exact Or.inr ⟨by go_num, by subst hg; exact btr BA b1, by trivial⟩
        case measure => simp [intOf]
    · go_wp2
      go_ret
      exact ⟨rfl, bw⟩

theorem cut_same {G C : Prop} (h : G → C) (k : G) : C := h k
theorem tabD {w : World} (h : TabAt w) : TabAt w.drew := h
theorem xmay1d (b : Bool) (s t : ByteArray) (e : Int) (o : Bool) (hm : IsM o b s t e) (T : TypeId) (w : World) (g : Nat) (hg : w.heap.size = g) (hT : TabAt w) :
    Calls Tryz.prog 80 #[.slice (some ⟨g, 0, none⟩) 1 1] (w.alloc (.cells #[.bool b, .string s, .string t, .int .i64 e] T)).drew fun r w' => r = .returned (.bool o) ∧ Below w.heap.size w w' :=
  (xmay1 b s t e o hm T w.drew g hg (tabD hT)).mono fun _ _ ⟨h1, h2⟩ => ⟨h1, ((Below.refl w.heap.size w).drew).trans h2⟩
theorem xmayM (b : Bool) (s t : ByteArray) (e : Int) (o : Bool) (ho : IsM o b s t e) (w : World) : Calls Tryz.prog 29 #[.agg #[.bool b, .string s, .string t, .int .i64 e]] w fun r w' => r = .returned (.bool o) ∧ Below w.heap.size w w' := xmay b s t e o ho w
theorem xcheckM (b : Bool) (s t : ByteArray) (e : Int) (o : Bool) (ho : IsM o b s t e) (c : Int) (hc : (if o then 0 else 2) = c) (w : World) (hT : TabAt w) : Calls Tryz.prog 146 #[.agg #[.bool b, .string s, .string t, .int .i64 e]] w fun r w' => r = .returned (.int .i64 c) ∧ Below w.heap.size w w' := by
  subst hc
  exact xcheck b s t e o ho w hT
end Go.Proofs.YtbmhfcppaajgbaaGreatDoor
