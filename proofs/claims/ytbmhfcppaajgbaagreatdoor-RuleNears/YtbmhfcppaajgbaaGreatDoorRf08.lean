/-
  What the functions that the statement reaches return: part 8 (X3, X3m, X4, X5, X6, X7).
-/
import Derived.Test.YtbmhfcppaajgbaaGreatDoorRf07
namespace Go.Proofs.YtbmhfcppaajgbaaGreatDoor
set_option maxRecDepth 100000
open Go.RowKit WMath XMath

set_option maxRecDepth 100000 in
set_option maxHeartbeats 1000000 in
theorem xcheck (b : Bool) (s t : ByteArray) (e : Int) (o : Bool) (ho : o = true ↔ MayX b s t e) (w : World) (hT : TabAt w) : Calls Tryz.prog 146 #[.agg #[.bool b, .string s, .string t, .int .i64 e]] w fun r w' => r = .returned (.int .i64 (if o then 0 else 2)) ∧ Below w.heap.size w w' := by
  have TT := box hT
  clear hT
  cases hm1 : mayB s
  · have eo : o = false := by
      cases o
      · rfl
      · have := (mayX_s b s t e (ho.1 rfl)).1
        rw [hm1] at this
        exact absurd this (by decide)
    subst eo
    have H1 := box hm1
    clear hm1 ho
    obtain ⟨Rx_0, B0⟩ := opn1 w (Obj.cells #[.bool b, .string s, .string t, .int .i64 e] 41)
    go_enter Tryz.func146, Tryz.ntmps146
    go_wp2_with fail
    refine (n_check s false H1.out _).mono ?_
    rintro r w' ⟨rfl, rfl⟩
    go_wp2
    go_ret
    exact ⟨rfl, B0⟩
  cases hm2 : mayB t
  · have eo : o = false := by
      cases o
      · rfl
      · have := (mayX_s b s t e (ho.1 rfl)).2
        rw [hm2] at this
        exact absurd this (by decide)
    subst eo
    have H1 := box hm1
    have H2 := box hm2
    clear hm1 hm2 ho
    obtain ⟨Rx_0, B0⟩ := opn1 w (Obj.cells #[.bool b, .string s, .string t, .int .i64 e] 41)
    go_enter Tryz.func146, Tryz.ntmps146
    go_wp2_with fail
    refine (n_check s true H1.out _).mono ?_
    rintro r w' ⟨rfl, rfl⟩
    go_wp2_with fail
    refine (n_check t false H2.out _).mono ?_
    rintro r w' ⟨rfl, rfl⟩
    go_wp2
    go_ret
    exact ⟨rfl, B0⟩
  obtain ⟨n, hs, ln⟩ := mayB_is s hm1
  obtain ⟨d, ht, ld⟩ := mayB_is t hm2
  rw [mayX_iff b n d s t e hs ht, can_parts b n d e ln ld] at ho
  have H1 := box hm1
  have H2 := box hm2
  have HS := box hs
  have HT := box ht
  have LN := box ln
  have LD := box ld
  clear hm1 hm2
  obtain ⟨g, hg⟩ : ∃ g, (decide (-1048576 ≤ e) && decide (e ≤ 1048576)) = g := ⟨_, rfl⟩
  have HG := box hg
  cases g
  · have eo : o = false := by
      cases o
      · rfl
      · have := ho.1 rfl
        rw [decide_eq_true this.1, decide_eq_true this.2.1] at hg
        exact hg
    subst eo
    clear ho hs ht ln ld hg
    obtain ⟨Rx_0, B0⟩ := opn1 w (Obj.cells #[.bool b, .string s, .string t, .int .i64 e] 41)
    go_enter Tryz.func146, Tryz.ntmps146
    go_wp2_with fail
    refine (n_check s true H1.out _).mono ?_
    rintro r w' ⟨rfl, rfl⟩
    go_wp2_with fail
    refine (n_check t true H2.out _).mono ?_
    rintro r w' ⟨rfl, rfl⟩
    go_wp2_with fail
    refine (withinx e 1048576 false (by decide) (by decide) HG.out _).mono ?_
    rintro r w1 ⟨rfl, b1⟩
    have B1 : Below w.heap.size w w1 := btr B0 b1
    have Rx_1 := heap_of b1 _ _ _ Rx_0
    clear b1 B0 Rx_0
    obtain ⟨cx_1_0, cx_1_1, cx_1_2, cx_1_3⟩ := cells4s Rx_1
    go_wp2
    go_ret
    exact ⟨rfl, B1⟩
  have hr : -1048576 ≤ e ∧ e ≤ 1048576 := by simpa using hg
  clear hg
  by_cases h0 : n = 0
  · subst h0
    rw [nbA_zero] at hs
    have hs2 := hs
    clear hs
    subst hs2
    have e1 := eq_one d t ht
    have ez : (e == 0) = decide (e = 0) := by rw [Bool.eq_iff_iff, beq_iff_eq, decide_eq_true_iff]
    have ho2 : o = true ↔ (b = false ∧ d = 1 ∧ e = 0) := by rw [ho]; exact ⟨fun h => by rcases h.2.2 with h | h; exact ⟨h.1, h.2.2⟩; omega, fun h => ⟨by omega, by omega, Or.inl ⟨h.1, rfl, h.2⟩⟩⟩
    have OD : Box (decide ((0 : Nat) % 2 = 1) = false) := box rfl
    clear ho ht ln ld hr
    cases b
    · by_cases d1 : d = 1
      · rw [decide_eq_true d1] at e1
        by_cases z : e = 0
        · have eo : o = true := ho2.2 ⟨rfl, d1, z⟩
          subst eo
          rw [decide_eq_true z] at ez
          clear ho2 d1 z
          obtain ⟨Rx_0, B0⟩ := opn1 w (Obj.cells #[.bool false, .string ⟨#[]⟩, .string t, .int .i64 e] 41)
          go_enter Tryz.func146, Tryz.ntmps146
          go_wp2_with fail
          refine (n_check _ true H1.out _).mono ?_
          rintro r w' ⟨rfl, rfl⟩
          go_wp2_with fail
          refine (n_check t true H2.out _).mono ?_
          rintro r w' ⟨rfl, rfl⟩
          go_wp2_with fail
          refine (withinx e 1048576 true (by decide) (by decide) HG.out _).mono ?_
          rintro r w1 ⟨rfl, b1⟩
          have B1 : Below w.heap.size w w1 := btr B0 b1
          have Rx_1 := heap_of b1 _ _ _ Rx_0
          clear b1 B0 Rx_0
          obtain ⟨cx_1_0, cx_1_1, cx_1_2, cx_1_3⟩ := cells4s Rx_1
          go_wp2_with fail
          obtain ⟨F, hF1, hF2⟩ := below_fun w1
          have fx_0 := fun u => cells4 (heap_of (hF1 u) _ _ _ Rx_1) 0 _ rfl
          have fx_1 := fun u => cells4 (heap_of (hF1 u) _ _ _ Rx_1) 1 _ rfl
          have fx_2 := fun u => cells4 (heap_of (hF1 u) _ _ _ Rx_1) 2 _ rfl
          have fx_3 := fun u => cells4 (heap_of (hF1 u) _ _ _ Rx_1) 3 _ rfl
          refine wp_region_below F hF2 (by kernel_rfl) (by kernel_rfl) ?_
          repeat first | go_big_quiet_step (first | (go_at_call 90; exact quietF hF1 hF2 (zerox _)) | fail) | quiet_step (first | (go_at_call 90; exact quietF hF1 hF2 (zerox _)) | fail)
          refine wpQuiet_nil ?_
          rintro _ ⟨uW, rfl⟩
          have B2 := btr B1 (hF1 uW)
          have Rx_2 := heap_of (hF1 uW) _ _ _ Rx_1
          obtain ⟨w2, hw⟩ : ∃ V, F uW = V := ⟨_, rfl⟩
          rw [hw] at B2 Rx_2
          try rw [hw]
          clear hw hF1 hF2 B1 fx_0 fx_1 fx_2 fx_3 Rx_1 cx_1_0 cx_1_1 cx_1_2 cx_1_3
          clear F
          obtain ⟨cx_2_0, cx_2_1, cx_2_2, cx_2_3⟩ := cells4s Rx_2
          go_wp2
          go_ret
          exact ⟨rfl, B2⟩
        · have eo : o = false := by cases o; rfl; exact absurd (ho2.1 rfl).2.2 z
          subst eo
          rw [decide_eq_false z] at ez
          clear ho2 d1
          obtain ⟨Rx_0, B0⟩ := opn1 w (Obj.cells #[.bool false, .string ⟨#[]⟩, .string t, .int .i64 e] 41)
          go_enter Tryz.func146, Tryz.ntmps146
          go_wp2_with fail
          refine (n_check _ true H1.out _).mono ?_
          rintro r w' ⟨rfl, rfl⟩
          go_wp2_with fail
          refine (n_check t true H2.out _).mono ?_
          rintro r w' ⟨rfl, rfl⟩
          go_wp2_with fail
          refine (withinx e 1048576 true (by decide) (by decide) HG.out _).mono ?_
          rintro r w1 ⟨rfl, b1⟩
          have B1 : Below w.heap.size w w1 := btr B0 b1
          have Rx_1 := heap_of b1 _ _ _ Rx_0
          clear b1 B0 Rx_0
          obtain ⟨cx_1_0, cx_1_1, cx_1_2, cx_1_3⟩ := cells4s Rx_1
          go_wp2_with fail
          obtain ⟨F, hF1, hF2⟩ := below_fun w1
          have fx_0 := fun u => cells4 (heap_of (hF1 u) _ _ _ Rx_1) 0 _ rfl
          have fx_1 := fun u => cells4 (heap_of (hF1 u) _ _ _ Rx_1) 1 _ rfl
          have fx_2 := fun u => cells4 (heap_of (hF1 u) _ _ _ Rx_1) 2 _ rfl
          have fx_3 := fun u => cells4 (heap_of (hF1 u) _ _ _ Rx_1) 3 _ rfl
          have TF : Box (∀ u, TabAt (F u)) := box (fun u => tabB TT.out (btr B1 (hF1 u)))
          refine wp_region_below F hF2 (by kernel_rfl) (by kernel_rfl) ?_
          repeat first | go_big_quiet_step (first | (go_at_call 90; exact quietF hF1 hF2 (zerox _)) | (go_at_call 220; exact quietF hF1 hF2 (oddx 0 _ false HS.out LN.out OD.out _ (TF.out _))) | fail) | quiet_step (first | (go_at_call 90; exact quietF hF1 hF2 (zerox _)) | (go_at_call 220; exact quietF hF1 hF2 (oddx 0 _ false HS.out LN.out OD.out _ (TF.out _))) | fail)
          refine wpQuiet_nil ?_
          rintro _ ⟨uW, rfl⟩
          have B2 := btr B1 (hF1 uW)
          have Rx_2 := heap_of (hF1 uW) _ _ _ Rx_1
          obtain ⟨w2, hw⟩ : ∃ V, F uW = V := ⟨_, rfl⟩
          rw [hw] at B2 Rx_2
          try rw [hw]
          clear hw hF1 hF2 B1 fx_0 fx_1 fx_2 fx_3 Rx_1 cx_1_0 cx_1_1 cx_1_2 cx_1_3
          clear TF
          clear F
          obtain ⟨cx_2_0, cx_2_1, cx_2_2, cx_2_3⟩ := cells4s Rx_2
          go_wp2
          go_ret
          exact ⟨rfl, B2⟩
      · have eo : o = false := by cases o; rfl; exact absurd (ho2.1 rfl).2.1 d1
        subst eo
        rw [decide_eq_false d1] at e1
        clear ho2 d1 ez
        obtain ⟨Rx_0, B0⟩ := opn1 w (Obj.cells #[.bool false, .string ⟨#[]⟩, .string t, .int .i64 e] 41)
        go_enter Tryz.func146, Tryz.ntmps146
        go_wp2_with fail
        refine (n_check _ true H1.out _).mono ?_
        rintro r w' ⟨rfl, rfl⟩
        go_wp2_with fail
        refine (n_check t true H2.out _).mono ?_
        rintro r w' ⟨rfl, rfl⟩
        go_wp2_with fail
        refine (withinx e 1048576 true (by decide) (by decide) HG.out _).mono ?_
        rintro r w1 ⟨rfl, b1⟩
        have B1 : Below w.heap.size w w1 := btr B0 b1
        have Rx_1 := heap_of b1 _ _ _ Rx_0
        clear b1 B0 Rx_0
        obtain ⟨cx_1_0, cx_1_1, cx_1_2, cx_1_3⟩ := cells4s Rx_1
        go_wp2_with fail
        obtain ⟨F, hF1, hF2⟩ := below_fun w1
        have fx_0 := fun u => cells4 (heap_of (hF1 u) _ _ _ Rx_1) 0 _ rfl
        have fx_1 := fun u => cells4 (heap_of (hF1 u) _ _ _ Rx_1) 1 _ rfl
        have fx_2 := fun u => cells4 (heap_of (hF1 u) _ _ _ Rx_1) 2 _ rfl
        have fx_3 := fun u => cells4 (heap_of (hF1 u) _ _ _ Rx_1) 3 _ rfl
        have TF : Box (∀ u, TabAt (F u)) := box (fun u => tabB TT.out (btr B1 (hF1 u)))
        refine wp_region_below F hF2 (by kernel_rfl) (by kernel_rfl) ?_
        repeat first | go_big_quiet_step (first | (go_at_call 90; exact quietF hF1 hF2 (zerox _)) | (go_at_call 220; exact quietF hF1 hF2 (oddx 0 _ false HS.out LN.out OD.out _ (TF.out _))) | fail) | quiet_step (first | (go_at_call 90; exact quietF hF1 hF2 (zerox _)) | (go_at_call 220; exact quietF hF1 hF2 (oddx 0 _ false HS.out LN.out OD.out _ (TF.out _))) | fail)
        refine wpQuiet_nil ?_
        rintro _ ⟨uW, rfl⟩
        have B2 := btr B1 (hF1 uW)
        have Rx_2 := heap_of (hF1 uW) _ _ _ Rx_1
        obtain ⟨w2, hw⟩ : ∃ V, F uW = V := ⟨_, rfl⟩
        rw [hw] at B2 Rx_2
        try rw [hw]
        clear hw hF1 hF2 B1 fx_0 fx_1 fx_2 fx_3 Rx_1 cx_1_0 cx_1_1 cx_1_2 cx_1_3
        clear TF
        clear F
        obtain ⟨cx_2_0, cx_2_1, cx_2_2, cx_2_3⟩ := cells4s Rx_2
        go_wp2
        go_ret
        exact ⟨rfl, B2⟩
    · have eo : o = false := by cases o; rfl; exact absurd (ho2.1 rfl).1 (by decide)
      subst eo
      clear ho2 e1 ez
      obtain ⟨Rx_0, B0⟩ := opn1 w (Obj.cells #[.bool true, .string ⟨#[]⟩, .string t, .int .i64 e] 41)
      go_enter Tryz.func146, Tryz.ntmps146
      go_wp2_with fail
      refine (n_check _ true H1.out _).mono ?_
      rintro r w' ⟨rfl, rfl⟩
      go_wp2_with fail
      refine (n_check t true H2.out _).mono ?_
      rintro r w' ⟨rfl, rfl⟩
      go_wp2_with fail
      refine (withinx e 1048576 true (by decide) (by decide) HG.out _).mono ?_
      rintro r w1 ⟨rfl, b1⟩
      have B1 : Below w.heap.size w w1 := btr B0 b1
      have Rx_1 := heap_of b1 _ _ _ Rx_0
      clear b1 B0 Rx_0
      obtain ⟨cx_1_0, cx_1_1, cx_1_2, cx_1_3⟩ := cells4s Rx_1
      go_wp2_with fail
      obtain ⟨F, hF1, hF2⟩ := below_fun w1
      have fx_0 := fun u => cells4 (heap_of (hF1 u) _ _ _ Rx_1) 0 _ rfl
      have fx_1 := fun u => cells4 (heap_of (hF1 u) _ _ _ Rx_1) 1 _ rfl
      have fx_2 := fun u => cells4 (heap_of (hF1 u) _ _ _ Rx_1) 2 _ rfl
      have fx_3 := fun u => cells4 (heap_of (hF1 u) _ _ _ Rx_1) 3 _ rfl
      have TF : Box (∀ u, TabAt (F u)) := box (fun u => tabB TT.out (btr B1 (hF1 u)))
      refine wp_region_below F hF2 (by kernel_rfl) (by kernel_rfl) ?_
      repeat first | go_big_quiet_step (first | (go_at_call 90; exact quietF hF1 hF2 (zerox _)) | (go_at_call 220; exact quietF hF1 hF2 (oddx 0 _ false HS.out LN.out OD.out _ (TF.out _))) | fail) | quiet_step (first | (go_at_call 90; exact quietF hF1 hF2 (zerox _)) | (go_at_call 220; exact quietF hF1 hF2 (oddx 0 _ false HS.out LN.out OD.out _ (TF.out _))) | fail)
      refine wpQuiet_nil ?_
      rintro _ ⟨uW, rfl⟩
      have B2 := btr B1 (hF1 uW)
      have Rx_2 := heap_of (hF1 uW) _ _ _ Rx_1
      obtain ⟨w2, hw⟩ : ∃ V, F uW = V := ⟨_, rfl⟩
      rw [hw] at B2 Rx_2
      try rw [hw]
      clear hw hF1 hF2 B1 fx_0 fx_1 fx_2 fx_3 Rx_1 cx_1_0 cx_1_1 cx_1_2 cx_1_3
      clear TF
      clear F
      obtain ⟨cx_2_0, cx_2_1, cx_2_2, cx_2_3⟩ := cells4s Rx_2
      go_wp2
      go_ret
      exact ⟨rfl, B2⟩
  · have e0 := eq_nil n s hs h0
    have ho2 : o = true ↔ (n % 2 = 1 ∧ d % 2 = 1 ∧ Nat.gcd n d = 1) := by
      rw [ho]
      constructor
      · rintro ⟨_, _, h | h⟩
        · exact absurd h.2.1 h0
        · exact h
      · intro h
        exact ⟨hr.1, hr.2, Or.inr h⟩
    obtain ⟨p, hp⟩ : ∃ p, decide (n % 2 = 1) = p := ⟨_, rfl⟩
    obtain ⟨q, hq⟩ : ∃ p, decide (d % 2 = 1) = p := ⟨_, rfl⟩
    have HP := box hp
    have HQ := box hq
    clear ho hs ht ln ld hr h0
    cases p
    · have eo : o = false := by cases o; rfl; rw [decide_eq_true (ho2.1 rfl).1] at hp; exact hp
      subst eo
      clear ho2 hp hq
      cases b
      · obtain ⟨Rx_0, B0⟩ := opn1 w (Obj.cells #[.bool false, .string s, .string t, .int .i64 e] 41)
        go_enter Tryz.func146, Tryz.ntmps146
        go_wp2_with fail
        refine (n_check _ true H1.out _).mono ?_
        rintro r w' ⟨rfl, rfl⟩
        go_wp2_with fail
        refine (n_check t true H2.out _).mono ?_
        rintro r w' ⟨rfl, rfl⟩
        go_wp2_with fail
        refine (withinx e 1048576 true (by decide) (by decide) HG.out _).mono ?_
        rintro r w1 ⟨rfl, b1⟩
        have B1 : Below w.heap.size w w1 := btr B0 b1
        have Rx_1 := heap_of b1 _ _ _ Rx_0
        clear b1 B0 Rx_0
        obtain ⟨cx_1_0, cx_1_1, cx_1_2, cx_1_3⟩ := cells4s Rx_1
        go_wp2_with fail
        obtain ⟨F, hF1, hF2⟩ := below_fun w1
        have fx_0 := fun u => cells4 (heap_of (hF1 u) _ _ _ Rx_1) 0 _ rfl
        have fx_1 := fun u => cells4 (heap_of (hF1 u) _ _ _ Rx_1) 1 _ rfl
        have fx_2 := fun u => cells4 (heap_of (hF1 u) _ _ _ Rx_1) 2 _ rfl
        have fx_3 := fun u => cells4 (heap_of (hF1 u) _ _ _ Rx_1) 3 _ rfl
        have TF : Box (∀ u, TabAt (F u)) := box (fun u => tabB TT.out (btr B1 (hF1 u)))
        refine wp_region_below F hF2 (by kernel_rfl) (by kernel_rfl) ?_
        repeat first | go_big_quiet_step (first | (go_at_call 90; exact quietF hF1 hF2 (zerox _)) | (go_at_call_of 220 (Value.string s); exact quietF hF1 hF2 (oddx n s false HS.out LN.out HP.out _ (TF.out _))) | fail) | quiet_step (first | (go_at_call 90; exact quietF hF1 hF2 (zerox _)) | (go_at_call_of 220 (Value.string s); exact quietF hF1 hF2 (oddx n s false HS.out LN.out HP.out _ (TF.out _))) | fail)
        refine wpQuiet_nil ?_
        rintro _ ⟨uW, rfl⟩
        have B2 := btr B1 (hF1 uW)
        have Rx_2 := heap_of (hF1 uW) _ _ _ Rx_1
        obtain ⟨w2, hw⟩ : ∃ V, F uW = V := ⟨_, rfl⟩
        rw [hw] at B2 Rx_2
        try rw [hw]
        clear hw hF1 hF2 B1 fx_0 fx_1 fx_2 fx_3 Rx_1 cx_1_0 cx_1_1 cx_1_2 cx_1_3
        clear TF
        clear F
        obtain ⟨cx_2_0, cx_2_1, cx_2_2, cx_2_3⟩ := cells4s Rx_2
        go_wp2
        go_ret
        exact ⟨rfl, B2⟩
      · obtain ⟨Rx_0, B0⟩ := opn1 w (Obj.cells #[.bool true, .string s, .string t, .int .i64 e] 41)
        go_enter Tryz.func146, Tryz.ntmps146
        go_wp2_with fail
        refine (n_check _ true H1.out _).mono ?_
        rintro r w' ⟨rfl, rfl⟩
        go_wp2_with fail
        refine (n_check t true H2.out _).mono ?_
        rintro r w' ⟨rfl, rfl⟩
        go_wp2_with fail
        refine (withinx e 1048576 true (by decide) (by decide) HG.out _).mono ?_
        rintro r w1 ⟨rfl, b1⟩
        have B1 : Below w.heap.size w w1 := btr B0 b1
        have Rx_1 := heap_of b1 _ _ _ Rx_0
        clear b1 B0 Rx_0
        obtain ⟨cx_1_0, cx_1_1, cx_1_2, cx_1_3⟩ := cells4s Rx_1
        go_wp2_with fail
        obtain ⟨F, hF1, hF2⟩ := below_fun w1
        have fx_0 := fun u => cells4 (heap_of (hF1 u) _ _ _ Rx_1) 0 _ rfl
        have fx_1 := fun u => cells4 (heap_of (hF1 u) _ _ _ Rx_1) 1 _ rfl
        have fx_2 := fun u => cells4 (heap_of (hF1 u) _ _ _ Rx_1) 2 _ rfl
        have fx_3 := fun u => cells4 (heap_of (hF1 u) _ _ _ Rx_1) 3 _ rfl
        have TF : Box (∀ u, TabAt (F u)) := box (fun u => tabB TT.out (btr B1 (hF1 u)))
        refine wp_region_below F hF2 (by kernel_rfl) (by kernel_rfl) ?_
        repeat first | go_big_quiet_step (first | (go_at_call 90; exact quietF hF1 hF2 (zerox _)) | (go_at_call_of 220 (Value.string s); exact quietF hF1 hF2 (oddx n s false HS.out LN.out HP.out _ (TF.out _))) | fail) | quiet_step (first | (go_at_call 90; exact quietF hF1 hF2 (zerox _)) | (go_at_call_of 220 (Value.string s); exact quietF hF1 hF2 (oddx n s false HS.out LN.out HP.out _ (TF.out _))) | fail)
        refine wpQuiet_nil ?_
        rintro _ ⟨uW, rfl⟩
        have B2 := btr B1 (hF1 uW)
        have Rx_2 := heap_of (hF1 uW) _ _ _ Rx_1
        obtain ⟨w2, hw⟩ : ∃ V, F uW = V := ⟨_, rfl⟩
        rw [hw] at B2 Rx_2
        try rw [hw]
        clear hw hF1 hF2 B1 fx_0 fx_1 fx_2 fx_3 Rx_1 cx_1_0 cx_1_1 cx_1_2 cx_1_3
        clear TF
        clear F
        obtain ⟨cx_2_0, cx_2_1, cx_2_2, cx_2_3⟩ := cells4s Rx_2
        go_wp2
        go_ret
        exact ⟨rfl, B2⟩
    cases q
    · have eo : o = false := by cases o; rfl; rw [decide_eq_true (ho2.1 rfl).2.1] at hq; exact hq
      subst eo
      clear ho2 hp hq
      cases b
      · obtain ⟨Rx_0, B0⟩ := opn1 w (Obj.cells #[.bool false, .string s, .string t, .int .i64 e] 41)
        go_enter Tryz.func146, Tryz.ntmps146
        go_wp2_with fail
        refine (n_check _ true H1.out _).mono ?_
        rintro r w' ⟨rfl, rfl⟩
        go_wp2_with fail
        refine (n_check t true H2.out _).mono ?_
        rintro r w' ⟨rfl, rfl⟩
        go_wp2_with fail
        refine (withinx e 1048576 true (by decide) (by decide) HG.out _).mono ?_
        rintro r w1 ⟨rfl, b1⟩
        have B1 : Below w.heap.size w w1 := btr B0 b1
        have Rx_1 := heap_of b1 _ _ _ Rx_0
        clear b1 B0 Rx_0
        obtain ⟨cx_1_0, cx_1_1, cx_1_2, cx_1_3⟩ := cells4s Rx_1
        go_wp2_with fail
        obtain ⟨F, hF1, hF2⟩ := below_fun w1
        have fx_0 := fun u => cells4 (heap_of (hF1 u) _ _ _ Rx_1) 0 _ rfl
        have fx_1 := fun u => cells4 (heap_of (hF1 u) _ _ _ Rx_1) 1 _ rfl
        have fx_2 := fun u => cells4 (heap_of (hF1 u) _ _ _ Rx_1) 2 _ rfl
        have fx_3 := fun u => cells4 (heap_of (hF1 u) _ _ _ Rx_1) 3 _ rfl
        have TF : Box (∀ u, TabAt (F u)) := box (fun u => tabB TT.out (btr B1 (hF1 u)))
        refine wp_region_below F hF2 (by kernel_rfl) (by kernel_rfl) ?_
        repeat first | go_big_quiet_step (first | (go_at_call 90; exact quietF hF1 hF2 (zerox _)) | (go_at_call_of 220 (Value.string s); exact quietF hF1 hF2 (oddx n s true HS.out LN.out HP.out _ (TF.out _))) | (go_at_call_of 220 (Value.string t); exact quietF hF1 hF2 (oddx d t false HT.out LD.out HQ.out _ (TF.out _))) | fail) | quiet_step (first | (go_at_call 90; exact quietF hF1 hF2 (zerox _)) | (go_at_call_of 220 (Value.string s); exact quietF hF1 hF2 (oddx n s true HS.out LN.out HP.out _ (TF.out _))) | (go_at_call_of 220 (Value.string t); exact quietF hF1 hF2 (oddx d t false HT.out LD.out HQ.out _ (TF.out _))) | fail)
        refine wpQuiet_nil ?_
        rintro _ ⟨uW, rfl⟩
        have B2 := btr B1 (hF1 uW)
        have Rx_2 := heap_of (hF1 uW) _ _ _ Rx_1
        obtain ⟨w2, hw⟩ : ∃ V, F uW = V := ⟨_, rfl⟩
        rw [hw] at B2 Rx_2
        try rw [hw]
        clear hw hF1 hF2 B1 fx_0 fx_1 fx_2 fx_3 Rx_1 cx_1_0 cx_1_1 cx_1_2 cx_1_3
        clear TF
        clear F
        obtain ⟨cx_2_0, cx_2_1, cx_2_2, cx_2_3⟩ := cells4s Rx_2
        go_wp2
        go_ret
        exact ⟨rfl, B2⟩
      · obtain ⟨Rx_0, B0⟩ := opn1 w (Obj.cells #[.bool true, .string s, .string t, .int .i64 e] 41)
        go_enter Tryz.func146, Tryz.ntmps146
        go_wp2_with fail
        refine (n_check _ true H1.out _).mono ?_
        rintro r w' ⟨rfl, rfl⟩
        go_wp2_with fail
        refine (n_check t true H2.out _).mono ?_
        rintro r w' ⟨rfl, rfl⟩
        go_wp2_with fail
        refine (withinx e 1048576 true (by decide) (by decide) HG.out _).mono ?_
        rintro r w1 ⟨rfl, b1⟩
        have B1 : Below w.heap.size w w1 := btr B0 b1
        have Rx_1 := heap_of b1 _ _ _ Rx_0
        clear b1 B0 Rx_0
        obtain ⟨cx_1_0, cx_1_1, cx_1_2, cx_1_3⟩ := cells4s Rx_1
        go_wp2_with fail
        obtain ⟨F, hF1, hF2⟩ := below_fun w1
        have fx_0 := fun u => cells4 (heap_of (hF1 u) _ _ _ Rx_1) 0 _ rfl
        have fx_1 := fun u => cells4 (heap_of (hF1 u) _ _ _ Rx_1) 1 _ rfl
        have fx_2 := fun u => cells4 (heap_of (hF1 u) _ _ _ Rx_1) 2 _ rfl
        have fx_3 := fun u => cells4 (heap_of (hF1 u) _ _ _ Rx_1) 3 _ rfl
        have TF : Box (∀ u, TabAt (F u)) := box (fun u => tabB TT.out (btr B1 (hF1 u)))
        refine wp_region_below F hF2 (by kernel_rfl) (by kernel_rfl) ?_
        repeat first | go_big_quiet_step (first | (go_at_call 90; exact quietF hF1 hF2 (zerox _)) | (go_at_call_of 220 (Value.string s); exact quietF hF1 hF2 (oddx n s true HS.out LN.out HP.out _ (TF.out _))) | (go_at_call_of 220 (Value.string t); exact quietF hF1 hF2 (oddx d t false HT.out LD.out HQ.out _ (TF.out _))) | fail) | quiet_step (first | (go_at_call 90; exact quietF hF1 hF2 (zerox _)) | (go_at_call_of 220 (Value.string s); exact quietF hF1 hF2 (oddx n s true HS.out LN.out HP.out _ (TF.out _))) | (go_at_call_of 220 (Value.string t); exact quietF hF1 hF2 (oddx d t false HT.out LD.out HQ.out _ (TF.out _))) | fail)
        refine wpQuiet_nil ?_
        rintro _ ⟨uW, rfl⟩
        have B2 := btr B1 (hF1 uW)
        have Rx_2 := heap_of (hF1 uW) _ _ _ Rx_1
        obtain ⟨w2, hw⟩ : ∃ V, F uW = V := ⟨_, rfl⟩
        rw [hw] at B2 Rx_2
        try rw [hw]
        clear hw hF1 hF2 B1 fx_0 fx_1 fx_2 fx_3 Rx_1 cx_1_0 cx_1_1 cx_1_2 cx_1_3
        clear TF
        clear F
        obtain ⟨cx_2_0, cx_2_1, cx_2_2, cx_2_3⟩ := cells4s Rx_2
        go_wp2
        go_ret
        exact ⟨rfl, B2⟩
    · have eo : decide (Nat.gcd n d = 1) = o := by
        rw [Bool.eq_iff_iff, ho2, decide_eq_true_iff]
        exact ⟨fun h => ⟨of_decide_eq_true hp, of_decide_eq_true hq, h⟩, fun h => h.2.2⟩
      have HO := box eo
      clear ho2 hp hq eo
      cases b
      · cases o
        · obtain ⟨Rx_0, B0⟩ := opn1 w (Obj.cells #[.bool false, .string s, .string t, .int .i64 e] 41)
          go_enter Tryz.func146, Tryz.ntmps146
          go_wp2_with fail
          refine (n_check _ true H1.out _).mono ?_
          rintro r w' ⟨rfl, rfl⟩
          go_wp2_with fail
          refine (n_check t true H2.out _).mono ?_
          rintro r w' ⟨rfl, rfl⟩
          go_wp2_with fail
          refine (withinx e 1048576 true (by decide) (by decide) HG.out _).mono ?_
          rintro r w1 ⟨rfl, b1⟩
          have B1 : Below w.heap.size w w1 := btr B0 b1
          have Rx_1 := heap_of b1 _ _ _ Rx_0
          clear b1 B0 Rx_0
          obtain ⟨cx_1_0, cx_1_1, cx_1_2, cx_1_3⟩ := cells4s Rx_1
          go_wp2_with fail
          obtain ⟨F, hF1, hF2⟩ := below_fun w1
          have fx_0 := fun u => cells4 (heap_of (hF1 u) _ _ _ Rx_1) 0 _ rfl
          have fx_1 := fun u => cells4 (heap_of (hF1 u) _ _ _ Rx_1) 1 _ rfl
          have fx_2 := fun u => cells4 (heap_of (hF1 u) _ _ _ Rx_1) 2 _ rfl
          have fx_3 := fun u => cells4 (heap_of (hF1 u) _ _ _ Rx_1) 3 _ rfl
          have TF : Box (∀ u, TabAt (F u)) := box (fun u => tabB TT.out (btr B1 (hF1 u)))
          refine wp_region_below F hF2 (by kernel_rfl) (by kernel_rfl) ?_
          repeat first | go_big_quiet_step (first | (go_at_call 90; exact quietF hF1 hF2 (zerox _)) | (go_at_call_of 220 (Value.string s); exact quietF hF1 hF2 (oddx n s true HS.out LN.out HP.out _ (TF.out _))) | (go_at_call_of 220 (Value.string t); exact quietF hF1 hF2 (oddx d t true HT.out LD.out HQ.out _ (TF.out _))) | (go_at_call 221; exact quietF hF1 hF2 (apartx n d s t false HS.out HT.out LN.out LD.out HO.out _)) | fail) | quiet_step (first | (go_at_call 90; exact quietF hF1 hF2 (zerox _)) | (go_at_call_of 220 (Value.string s); exact quietF hF1 hF2 (oddx n s true HS.out LN.out HP.out _ (TF.out _))) | (go_at_call_of 220 (Value.string t); exact quietF hF1 hF2 (oddx d t true HT.out LD.out HQ.out _ (TF.out _))) | (go_at_call 221; exact quietF hF1 hF2 (apartx n d s t false HS.out HT.out LN.out LD.out HO.out _)) | fail)
          refine wpQuiet_nil ?_
          rintro _ ⟨uW, rfl⟩
          have B2 := btr B1 (hF1 uW)
          have Rx_2 := heap_of (hF1 uW) _ _ _ Rx_1
          obtain ⟨w2, hw⟩ : ∃ V, F uW = V := ⟨_, rfl⟩
          rw [hw] at B2 Rx_2
          try rw [hw]
          clear hw hF1 hF2 B1 fx_0 fx_1 fx_2 fx_3 Rx_1 cx_1_0 cx_1_1 cx_1_2 cx_1_3
          clear TF
          clear F
          obtain ⟨cx_2_0, cx_2_1, cx_2_2, cx_2_3⟩ := cells4s Rx_2
          go_wp2
          go_ret
          exact ⟨rfl, B2⟩
        · obtain ⟨Rx_0, B0⟩ := opn1 w (Obj.cells #[.bool false, .string s, .string t, .int .i64 e] 41)
          go_enter Tryz.func146, Tryz.ntmps146
          go_wp2_with fail
          refine (n_check _ true H1.out _).mono ?_
          rintro r w' ⟨rfl, rfl⟩
          go_wp2_with fail
          refine (n_check t true H2.out _).mono ?_
          rintro r w' ⟨rfl, rfl⟩
          go_wp2_with fail
          refine (withinx e 1048576 true (by decide) (by decide) HG.out _).mono ?_
          rintro r w1 ⟨rfl, b1⟩
          have B1 : Below w.heap.size w w1 := btr B0 b1
          have Rx_1 := heap_of b1 _ _ _ Rx_0
          clear b1 B0 Rx_0
          obtain ⟨cx_1_0, cx_1_1, cx_1_2, cx_1_3⟩ := cells4s Rx_1
          go_wp2_with fail
          obtain ⟨F, hF1, hF2⟩ := below_fun w1
          have fx_0 := fun u => cells4 (heap_of (hF1 u) _ _ _ Rx_1) 0 _ rfl
          have fx_1 := fun u => cells4 (heap_of (hF1 u) _ _ _ Rx_1) 1 _ rfl
          have fx_2 := fun u => cells4 (heap_of (hF1 u) _ _ _ Rx_1) 2 _ rfl
          have fx_3 := fun u => cells4 (heap_of (hF1 u) _ _ _ Rx_1) 3 _ rfl
          have TF : Box (∀ u, TabAt (F u)) := box (fun u => tabB TT.out (btr B1 (hF1 u)))
          refine wp_region_below F hF2 (by kernel_rfl) (by kernel_rfl) ?_
          repeat first | go_big_quiet_step (first | (go_at_call 90; exact quietF hF1 hF2 (zerox _)) | (go_at_call_of 220 (Value.string s); exact quietF hF1 hF2 (oddx n s true HS.out LN.out HP.out _ (TF.out _))) | (go_at_call_of 220 (Value.string t); exact quietF hF1 hF2 (oddx d t true HT.out LD.out HQ.out _ (TF.out _))) | (go_at_call 221; exact quietF hF1 hF2 (apartx n d s t true HS.out HT.out LN.out LD.out HO.out _)) | fail) | quiet_step (first | (go_at_call 90; exact quietF hF1 hF2 (zerox _)) | (go_at_call_of 220 (Value.string s); exact quietF hF1 hF2 (oddx n s true HS.out LN.out HP.out _ (TF.out _))) | (go_at_call_of 220 (Value.string t); exact quietF hF1 hF2 (oddx d t true HT.out LD.out HQ.out _ (TF.out _))) | (go_at_call 221; exact quietF hF1 hF2 (apartx n d s t true HS.out HT.out LN.out LD.out HO.out _)) | fail)
          refine wpQuiet_nil ?_
          rintro _ ⟨uW, rfl⟩
          have B2 := btr B1 (hF1 uW)
          have Rx_2 := heap_of (hF1 uW) _ _ _ Rx_1
          obtain ⟨w2, hw⟩ : ∃ V, F uW = V := ⟨_, rfl⟩
          rw [hw] at B2 Rx_2
          try rw [hw]
          clear hw hF1 hF2 B1 fx_0 fx_1 fx_2 fx_3 Rx_1 cx_1_0 cx_1_1 cx_1_2 cx_1_3
          clear TF
          clear F
          obtain ⟨cx_2_0, cx_2_1, cx_2_2, cx_2_3⟩ := cells4s Rx_2
          go_wp2
          go_ret
          exact ⟨rfl, B2⟩
      · cases o
        · obtain ⟨Rx_0, B0⟩ := opn1 w (Obj.cells #[.bool true, .string s, .string t, .int .i64 e] 41)
          go_enter Tryz.func146, Tryz.ntmps146
          go_wp2_with fail
          refine (n_check _ true H1.out _).mono ?_
          rintro r w' ⟨rfl, rfl⟩
          go_wp2_with fail
          refine (n_check t true H2.out _).mono ?_
          rintro r w' ⟨rfl, rfl⟩
          go_wp2_with fail
          refine (withinx e 1048576 true (by decide) (by decide) HG.out _).mono ?_
          rintro r w1 ⟨rfl, b1⟩
          have B1 : Below w.heap.size w w1 := btr B0 b1
          have Rx_1 := heap_of b1 _ _ _ Rx_0
          clear b1 B0 Rx_0
          obtain ⟨cx_1_0, cx_1_1, cx_1_2, cx_1_3⟩ := cells4s Rx_1
          go_wp2_with fail
          obtain ⟨F, hF1, hF2⟩ := below_fun w1
          have fx_0 := fun u => cells4 (heap_of (hF1 u) _ _ _ Rx_1) 0 _ rfl
          have fx_1 := fun u => cells4 (heap_of (hF1 u) _ _ _ Rx_1) 1 _ rfl
          have fx_2 := fun u => cells4 (heap_of (hF1 u) _ _ _ Rx_1) 2 _ rfl
          have fx_3 := fun u => cells4 (heap_of (hF1 u) _ _ _ Rx_1) 3 _ rfl
          have TF : Box (∀ u, TabAt (F u)) := box (fun u => tabB TT.out (btr B1 (hF1 u)))
          refine wp_region_below F hF2 (by kernel_rfl) (by kernel_rfl) ?_
          repeat first | go_big_quiet_step (first | (go_at_call 90; exact quietF hF1 hF2 (zerox _)) | (go_at_call_of 220 (Value.string s); exact quietF hF1 hF2 (oddx n s true HS.out LN.out HP.out _ (TF.out _))) | (go_at_call_of 220 (Value.string t); exact quietF hF1 hF2 (oddx d t true HT.out LD.out HQ.out _ (TF.out _))) | (go_at_call 221; exact quietF hF1 hF2 (apartx n d s t false HS.out HT.out LN.out LD.out HO.out _)) | fail) | quiet_step (first | (go_at_call 90; exact quietF hF1 hF2 (zerox _)) | (go_at_call_of 220 (Value.string s); exact quietF hF1 hF2 (oddx n s true HS.out LN.out HP.out _ (TF.out _))) | (go_at_call_of 220 (Value.string t); exact quietF hF1 hF2 (oddx d t true HT.out LD.out HQ.out _ (TF.out _))) | (go_at_call 221; exact quietF hF1 hF2 (apartx n d s t false HS.out HT.out LN.out LD.out HO.out _)) | fail)
          refine wpQuiet_nil ?_
          rintro _ ⟨uW, rfl⟩
          have B2 := btr B1 (hF1 uW)
          have Rx_2 := heap_of (hF1 uW) _ _ _ Rx_1
          obtain ⟨w2, hw⟩ : ∃ V, F uW = V := ⟨_, rfl⟩
          rw [hw] at B2 Rx_2
          try rw [hw]
          clear hw hF1 hF2 B1 fx_0 fx_1 fx_2 fx_3 Rx_1 cx_1_0 cx_1_1 cx_1_2 cx_1_3
          clear TF
          clear F
          obtain ⟨cx_2_0, cx_2_1, cx_2_2, cx_2_3⟩ := cells4s Rx_2
          go_wp2
          go_ret
          exact ⟨rfl, B2⟩
        · obtain ⟨Rx_0, B0⟩ := opn1 w (Obj.cells #[.bool true, .string s, .string t, .int .i64 e] 41)
          go_enter Tryz.func146, Tryz.ntmps146
          go_wp2_with fail
          refine (n_check _ true H1.out _).mono ?_
          rintro r w' ⟨rfl, rfl⟩
          go_wp2_with fail
          refine (n_check t true H2.out _).mono ?_
          rintro r w' ⟨rfl, rfl⟩
          go_wp2_with fail
          refine (withinx e 1048576 true (by decide) (by decide) HG.out _).mono ?_
          rintro r w1 ⟨rfl, b1⟩
          have B1 : Below w.heap.size w w1 := btr B0 b1
          have Rx_1 := heap_of b1 _ _ _ Rx_0
          clear b1 B0 Rx_0
          obtain ⟨cx_1_0, cx_1_1, cx_1_2, cx_1_3⟩ := cells4s Rx_1
          go_wp2_with fail
          obtain ⟨F, hF1, hF2⟩ := below_fun w1
          have fx_0 := fun u => cells4 (heap_of (hF1 u) _ _ _ Rx_1) 0 _ rfl
          have fx_1 := fun u => cells4 (heap_of (hF1 u) _ _ _ Rx_1) 1 _ rfl
          have fx_2 := fun u => cells4 (heap_of (hF1 u) _ _ _ Rx_1) 2 _ rfl
          have fx_3 := fun u => cells4 (heap_of (hF1 u) _ _ _ Rx_1) 3 _ rfl
          have TF : Box (∀ u, TabAt (F u)) := box (fun u => tabB TT.out (btr B1 (hF1 u)))
          refine wp_region_below F hF2 (by kernel_rfl) (by kernel_rfl) ?_
          repeat first | go_big_quiet_step (first | (go_at_call 90; exact quietF hF1 hF2 (zerox _)) | (go_at_call_of 220 (Value.string s); exact quietF hF1 hF2 (oddx n s true HS.out LN.out HP.out _ (TF.out _))) | (go_at_call_of 220 (Value.string t); exact quietF hF1 hF2 (oddx d t true HT.out LD.out HQ.out _ (TF.out _))) | (go_at_call 221; exact quietF hF1 hF2 (apartx n d s t true HS.out HT.out LN.out LD.out HO.out _)) | fail) | quiet_step (first | (go_at_call 90; exact quietF hF1 hF2 (zerox _)) | (go_at_call_of 220 (Value.string s); exact quietF hF1 hF2 (oddx n s true HS.out LN.out HP.out _ (TF.out _))) | (go_at_call_of 220 (Value.string t); exact quietF hF1 hF2 (oddx d t true HT.out LD.out HQ.out _ (TF.out _))) | (go_at_call 221; exact quietF hF1 hF2 (apartx n d s t true HS.out HT.out LN.out LD.out HO.out _)) | fail)
          refine wpQuiet_nil ?_
          rintro _ ⟨uW, rfl⟩
          have B2 := btr B1 (hF1 uW)
          have Rx_2 := heap_of (hF1 uW) _ _ _ Rx_1
          obtain ⟨w2, hw⟩ : ∃ V, F uW = V := ⟨_, rfl⟩
          rw [hw] at B2 Rx_2
          try rw [hw]
          clear hw hF1 hF2 B1 fx_0 fx_1 fx_2 fx_3 Rx_1 cx_1_0 cx_1_1 cx_1_2 cx_1_3
          clear TF
          clear F
          obtain ⟨cx_2_0, cx_2_1, cx_2_2, cx_2_3⟩ := cells4s Rx_2
          go_wp2
          go_ret
          exact ⟨rfl, B2⟩

end Go.Proofs.YtbmhfcppaajgbaaGreatDoor
namespace Go.Proofs.YtbmhfcppaajgbaaGreatDoor
set_option maxRecDepth 100000
open Go.RowKit WMath XMath

set_option maxRecDepth 100000 in
set_option maxHeartbeats 4000000 in
theorem xmay1 (b : Bool) (s t : ByteArray) (e : Int) (o : Bool) (hm : IsM o b s t e) (T : TypeId) (w : World) (g : Nat) (hg : w.heap.size = g) (hT : TabAt w) :
    Calls Tryz.prog 80 #[.slice (some ⟨g, 0, none⟩) 1 1] (w.alloc (.cells #[.bool b, .string s, .string t, .int .i64 e] T)) fun r w' => r = .returned (.bool o) ∧ Below w.heap.size w w' := by
  obtain ⟨W, hW⟩ : ∃ W, w.alloc (.cells #[.bool b, .string s, .string t, .int .i64 e] T) = W := ⟨_, rfl⟩
  have row : W.heap[g]? = some (.cells #[.bool b, .string s, .string t, .int .i64 e] T) := by rw [← hW, ← hg]; exact heap_alloc_last _ _
  have B0 : Below w.heap.size w W := by rw [← hW]; exact bal _ _
  have TT : Box (TabAt W) := box (tabB hT B0)
  have ho : o = true ↔ MayX b s t e := hm
  have HO := box ho
  rw [hW]
  rw [hg] at B0 ⊢
  clear hW hT ho hm
  go_enter Tryz.func80, Tryz.ntmps80
  go_wp2
  go_loopw [7] (fun iv wr => (iv = .int .i64 0 ∧ wr = W) ∨ (iv = .int .i64 1 ∧ Below g w wr ∧ o = true)) (fun iv _ => 2 - (intOf iv).toNat)
  case atStart => exact Or.inl ⟨rfl, rfl⟩
  case round =>
    rcases hrel with ⟨rfl, rfl⟩ | ⟨rfl, bw, rfl⟩
    · have c0 := cells4 row 0 _ rfl
      have c1 := cells4 row 1 _ rfl
      have c2 := cells4 row 2 _ rfl
      have c3 := cells4 row 3 _ rfl
      have TA : Box (TabAt (wr.alloc (.cells #[.bool b, .string s, .string t, .int .i64 e] 41))) := box (tabA TT.out _)
      have BA : Below g w (wr.alloc (.cells #[.bool b, .string s, .string t, .int .i64 e] 41)) := by subst hg; exact btr B0 (bal _ _)
      clear row
      cases o
      · go_wp2_with fail
        refine (xcheck b s t e false (by first | exact HO.out | simpa using HO.out) _ TA.out).mono ?_
        rintro r w1 ⟨rfl, b1⟩
        go_wp2
        go_ret
        exact ⟨rfl, by subst hg; exact btr BA b1⟩
      · go_wp2_with fail
        refine (xcheck b s t e true (by first | exact HO.out | simpa using HO.out) _ TA.out).mono ?_
        rintro r w1 ⟨rfl, b1⟩
        go_wp2
        go_roundw
        case rel => exact Or.inr ⟨by go_num, by subst hg; exact btr BA b1, by trivial⟩
        case measure => simp [intOf]
    · go_wp2
      go_ret
      exact ⟨rfl, bw⟩

theorem cut_same {G C : Prop} (h : G → C) (k : G) : C := h k
theorem tabD {w : World} (h : TabAt w) : TabAt w.drew := h
theorem xmay1d (b : Bool) (s t : ByteArray) (e : Int) (o : Bool) (hm : IsM o b s t e) (T : TypeId) (w : World) (g : Nat) (hg : w.heap.size = g) (hT : TabAt w) :
    Calls Tryz.prog 80 #[.slice (some ⟨g, 0, none⟩) 1 1] (w.alloc (.cells #[.bool b, .string s, .string t, .int .i64 e] T)).drew fun r w' => r = .returned (.bool o) ∧ Below w.heap.size w w' :=
  (xmay1 b s t e o hm T w.drew g hg (tabD hT)).mono fun _ _ ⟨h1, h2⟩ => ⟨h1, ((Below.refl w.heap.size w).drew).trans h2⟩
theorem xmayM (b : Bool) (s t : ByteArray) (e : Int) (o : Bool) (ho : IsM o b s t e) (w : World) : Calls Tryz.prog 29 #[.agg #[.bool b, .string s, .string t, .int .i64 e]] w fun r w' => r = .returned (.bool o) ∧ Below w.heap.size w w' := xmay b s t e o ho w
theorem xcheckM (b : Bool) (s t : ByteArray) (e : Int) (o : Bool) (ho : IsM o b s t e) (c : Int) (hc : (if o then 0 else 2) = c) (w : World) (hT : TabAt w) : Calls Tryz.prog 146 #[.agg #[.bool b, .string s, .string t, .int .i64 e]] w fun r w' => r = .returned (.int .i64 c) ∧ Below w.heap.size w w' := by
  subst hc
  exact xcheck b s t e o ho w hT
end Go.Proofs.YtbmhfcppaajgbaaGreatDoor
namespace Go.Proofs.YtbmhfcppaajgbaaGreatDoor
set_option maxRecDepth 100000
open Go.RowKit WMath XMath

theorem twosx (a : Nat) (s v : ByteArray) (hs : nbA a = s) (ha : nl a ≤ 16384) (hv : nbA (od a) = v) (w : World) (hT : TabAt w) : Calls Tryz.prog 246 #[.string s] w fun r w' => r = .returned (.string v) ∧ Below w.heap.size w w' := by
  obtain ⟨t, ht⟩ : ∃ t, tz a = t := ⟨_, rfl⟩
  have HL := box (tz_low a)
  rw [ht] at HL
  have t2 : t ≤ 131072 := by
    have := tz_blen a
    rw [ht] at this
    unfold nl at ha
    omega
  obtain ⟨o, ho⟩ : ∃ o, decide (a % 2 ^ (t : Int).toNat ≠ 0) = o := ⟨_, rfl⟩
  have HV : Box (nbA (a / 2 ^ (t : Int).toNat) = v) := box (by rw [Int.toNat_natCast, ← ht]; exact hv)
  have HO := box ho
  have HS := box hs
  have HA := box ha
  have TT := box hT
  clear hs ha hv ht ho hT
  have B0 : Below w.heap.size w w := (Below.refl _ _)
  go_enter Tryz.func246, Tryz.ntmps246
  go_wp2_with fail
  refine (pn_low_ok a t s HS.out HA.out HL.out _ (tabB TT.out B0)).mono ?_
  rintro r w1 ⟨rfl, b1⟩
  have B1 : Below w.heap.size w w1 := btr B0 b1
  clear b1 B0 
  go_wp2_with fail
  refine (pn_right_ok a (t : Int) s v o HS.out HA.out (by omega) (by omega) HV.out HO.out _ (tabB TT.out B1)).mono ?_
  rintro r w2 ⟨rfl, b2⟩
  have B2 : Below w.heap.size w w2 := btr B1 b2
  clear b2 B1 
  go_wp2
  go_ret
  exact ⟨rfl, B2⟩

theorem shortenx (a b : Nat) (s t u v : ByteArray) (hs : nbA a = s) (ht : nbA b = t) (ha : nl a ≤ 16384) (hb : nl b ≤ 16384) (a0 : a ≠ 0) (hu : nbA (a / Nat.gcd a b) = u) (hv : nbA (b / Nat.gcd a b) = v) (w : World) :
    Calls Tryz.prog 245 #[.string s, .string t] w fun r w' => r = .returned (.tuple #[.string u, .string v]) ∧ Below w.heap.size w w' := by
  obtain ⟨g, hg⟩ : ∃ g, Nat.gcd a b = g := ⟨_, rfl⟩
  have g0 : g ≠ 0 := by rw [← hg]; exact Nat.pos_iff_ne_zero.1 (Nat.gcd_pos_of_pos_left _ (by omega))
  have lg : nl g ≤ 16384 := Nat.le_trans (nl_mono _ _ (by rw [← hg]; exact Nat.gcd_le_left _ (by omega))) ha
  obtain ⟨x, hx⟩ : ∃ x, nbA g = x := ⟨_, rfl⟩
  obtain ⟨y, hy⟩ : ∃ x, nbA (a % g) = x := ⟨_, rfl⟩
  obtain ⟨z, hz⟩ : ∃ x, nbA (b % g) = x := ⟨_, rfl⟩
  rw [hg] at hu hv
  have HG : Box (nbA (Nat.gcd a b) = x) := box (by rw [hg]; exact hx)
  have HS := box hs
  have HT := box ht
  have HA := box ha
  have HB := box hb
  have HU := box hu
  have HV := box hv
  have HX := box hx
  have HY := box hy
  have HZ := box hz
  have LG := box lg
  clear hs ht ha hb hu hv hx hy hz lg hg a0
  have B0 : Below w.heap.size w w := (Below.refl _ _)
  go_enter Tryz.func245, Tryz.ntmps245
  go_wp2_with fail
  refine (pn_gcd_ok a b s t x HS.out HT.out HA.out HB.out HG.out _).mono ?_
  rintro r w1 ⟨rfl, b1⟩
  have B1 : Below w.heap.size w w1 := btr B0 b1
  clear b1 B0 
  go_wp2_with fail
  refine (pn_div_ok a g s x u y HS.out HX.out HA.out LG.out g0 HU.out HY.out _).mono ?_
  rintro r w2 ⟨rfl, b2⟩
  have B2 : Below w.heap.size w w2 := btr B1 b2
  clear b2 B1 
  go_wp2_with fail
  refine (pn_div_ok b g t x v z HT.out HX.out HB.out LG.out g0 HV.out HZ.out _).mono ?_
  rintro r w3 ⟨rfl, b3⟩
  have B3 : Below w.heap.size w w3 := btr B2 b3
  clear b3 B2 
  go_wp2
  go_ret2
  exact ⟨rfl, B3⟩

theorem mk_cases (neg : Bool) (n d : Nat) (e : Int) (rb : Bool) (rn rd : Nat) (re err : Int) (n0 : n ≠ 0) (hr : XMath.mk neg n d e = (⟨rb, rn, rd, re⟩, err)) :
    ((-1048576 ≤ e + (tz n : Int) - (tz d : Int) ∧ e + (tz n : Int) - (tz d : Int) ≤ 1048576) ∧ rb = neg ∧ rn = od n / Nat.gcd (od n) (od d) ∧ rd = od d / Nat.gcd (od n) (od d) ∧ re = e + (tz n : Int) - (tz d : Int) ∧ err = 0) ∨
    (¬ (-1048576 ≤ e + (tz n : Int) - (tz d : Int) ∧ e + (tz n : Int) - (tz d : Int) ≤ 1048576) ∧ rb = false ∧ rn = 0 ∧ rd = 0 ∧ re = 0 ∧ err = 4) := by
  unfold XMath.mk at hr
  rw [if_neg n0] at hr
  by_cases h : -1048576 ≤ e + (tz n : Int) - (tz d : Int) ∧ e + (tz n : Int) - (tz d : Int) ≤ 1048576
  · rw [if_pos h] at hr
    injection hr with h1 h2
    injection h1 with a b c d
    exact Or.inl ⟨h, a.symm, b.symm, c.symm, d.symm, h2.symm⟩
  · rw [if_neg h] at hr
    injection hr with h1 h2
    unfold XZ at h1
    injection h1 with a b c d
    exact Or.inr ⟨h, a.symm, b.symm, c.symm, d.symm, h2.symm⟩

set_option maxRecDepth 100000 in
set_option maxHeartbeats 4000000 in
theorem formx (neg : Bool) (n d : Nat) (e : Int) (s t : ByteArray) (rb : Bool) (rn rd : Nat) (re err : Int) (u v : ByteArray) (hs : nbA n = s) (ht : nbA d = t) (ln : nl n ≤ 16384) (ld : nl d ≤ 16384) (d0 : d ≠ 0) (he1 : -100000000 ≤ e) (he2 : e ≤ 100000000)
    (hr : XMath.mk neg n d e = (⟨rb, rn, rd, re⟩, err)) (hu : nbA rn = u) (hv : nbA rd = v) (w : World) (hT : TabAt w) :
    Calls Tryz.prog 172 #[.bool neg, .string s, .string t, .int .i64 e] w fun r w' => r = .returned (.tuple #[.agg #[.bool rb, .string u, .string v, .int .i64 re], .int .i64 err]) ∧ Below w.heap.size w w' := by
  by_cases n0 : n = 0
  · subst n0
    rw [mk_null] at hr
    injection hr with h1 h2
    unfold X0 at h1
    injection h1 with a b c d
    subst a b c d h2
    rw [nbA_zero] at hs hu
    rw [nb1] at hv
    subst hs hu hv
    clear ht ln ld
    obtain ⟨Rz_0, B0⟩ := opn1 w (Obj.cells #[.bool false, .string ⟨#[]⟩, .string ⟨#[]⟩, .int .i64 0] 41)
    go_enter Tryz.func172, Tryz.ntmps172
    go_wp2_with fail
    refine (zerox _).mono ?_
    rintro r w1 ⟨rfl, b1⟩
    have B1 : Below w.heap.size w w1 := btr B0 b1
    have Rz_1 := heap_of b1 _ _ _ Rz_0
    clear b1 B0 Rz_0
    obtain ⟨cz_1_0, cz_1_1, cz_1_2, cz_1_3⟩ := cells4s Rz_1
    have q0 := fz (k := 0) Rz_1
    have q1 := fz (k := 1) Rz_1
    have q2 := fz (k := 2) Rz_1
    have q3 := fz (k := 3) Rz_1
    obtain ⟨E0, E1, E2, E3⟩ := set4_cells Rz_1 rfl (.bool false) (.string ⟨#[]⟩) (.string ⟨#[1]⟩) (.int .i64 0)
    go_wp2
    exact bodyPost_ret (v := .tuple #[.agg #[.bool false, .string ⟨#[]⟩, .string ⟨#[1]⟩, .int .i64 0], .int .i64 0]) (by simp [results, Tryz.results172, go_sem, E0, E1, E2, E3]) rfl ⟨rfl, set4_below B1 (by first | exact Nat.le_refl _ | omega) _ _ _ _⟩
  · have e0 := eq_nil n s hs n0
    obtain ⟨x, hx⟩ : ∃ x, tz n = x := ⟨_, rfl⟩
    obtain ⟨y, hy⟩ : ∃ x, tz d = x := ⟨_, rfl⟩
    have LX := box (tz_low n)
    have LY := box (tz_low d)
    have x2 : x ≤ 131072 := by have := tz_blen n; rw [hx] at this; unfold nl at ln; omega
    have y2 : y ≤ 131072 := by have := tz_blen d; rw [hy] at this; unfold nl at ld; omega
    have hc := mk_cases neg n d e rb rn rd re err n0 hr
    rw [hx, hy] at hc
    rw [hx] at LX
    rw [hy] at LY
    have HS := box hs
    have HT := box ht
    have LN := box ln
    have LD := box ld
    have TT := box hT
    obtain ⟨E, hE⟩ : ∃ E, e + (x : Int) - (y : Int) = E := ⟨_, rfl⟩
    rw [hE] at hc
    have k1 : IntKind.i64.wrap ((x : Int) - (y : Int)) = (x : Int) - (y : Int) := wrap_i64_is _ (by omega) (by omega)
    have k2 : IntKind.i64.wrap (e + ((x : Int) - (y : Int))) = E := by rw [wrap_i64_is _ (by omega) (by omega)]; omega
    rcases hc with ⟨hc, rfl, rfl, rfl, rfl, rfl⟩ | ⟨hc, rfl, rfl, rfl, rfl, rfl⟩
    · have HG : Box ((decide (-1048576 ≤ re) && decide (re ≤ 1048576)) = true) := box (by rw [decide_eq_true hc.1, decide_eq_true hc.2]; rfl)
      obtain ⟨o1, o2⟩ := od_is n n0
      obtain ⟨o3, o4⟩ := od_is d d0
      obtain ⟨p, hp⟩ : ∃ p, nbA (od n) = p := ⟨_, rfl⟩
      obtain ⟨q, hq⟩ : ∃ p, nbA (od d) = p := ⟨_, rfl⟩
      have HP := box hp
      have HQ := box hq
      have HU := box hu
      have HV := box hv
      have L1 : Box (nl (od n) ≤ 16384) := box (Nat.le_trans (nl_mono _ _ (od_le n)) ln)
      have L2 : Box (nl (od d) ≤ 16384) := box (Nat.le_trans (nl_mono _ _ (od_le d)) ld)
      have Z : Box (od n ≠ 0) := box (by omega)
      clear hs ht ln ld hT hr hx hy hE hc o1 o2 o3 o4 hp hq hu hv n0 d0
      obtain ⟨Rz_0, B0⟩ := opn1 w (Obj.cells #[.bool false, .string ⟨#[]⟩, .string ⟨#[]⟩, .int .i64 0] 41)
      go_enter Tryz.func172, Tryz.ntmps172
      go_wp2_with fail
      refine (pn_low_ok n x s HS.out LN.out LX.out _ (tabB TT.out B0)).mono ?_
      rintro r w1 ⟨rfl, b1⟩
      have B1 : Below w.heap.size w w1 := btr B0 b1
      have Rz_1 := heap_of b1 _ _ _ Rz_0
      clear b1 B0 Rz_0
      obtain ⟨cz_1_0, cz_1_1, cz_1_2, cz_1_3⟩ := cells4s Rz_1
      go_wp2_with fail
      refine (pn_low_ok d y t HT.out LD.out LY.out _ (tabB TT.out B1)).mono ?_
      rintro r w2 ⟨rfl, b2⟩
      have B2 : Below w.heap.size w w2 := btr B1 b2
      have Rz_2 := heap_of b2 _ _ _ Rz_1
      clear b2 B1 Rz_1 cz_1_0 cz_1_1 cz_1_2 cz_1_3
      obtain ⟨cz_2_0, cz_2_1, cz_2_2, cz_2_3⟩ := cells4s Rz_2
      go_wp2_with fail
      refine (withinx re 1048576 true (by decide) (by decide) HG.out _).mono ?_
      rintro r w3 ⟨rfl, b3⟩
      have B3 : Below w.heap.size w w3 := btr B2 b3
      have Rz_3 := heap_of b3 _ _ _ Rz_2
      clear b3 B2 Rz_2 cz_2_0 cz_2_1 cz_2_2 cz_2_3
      obtain ⟨cz_3_0, cz_3_1, cz_3_2, cz_3_3⟩ := cells4s Rz_3
      go_wp2_with fail
      refine (twosx n s p HS.out LN.out HP.out _ (tabB TT.out B3)).mono ?_
      rintro r w4 ⟨rfl, b4⟩
      have B4 : Below w.heap.size w w4 := btr B3 b4
      have Rz_4 := heap_of b4 _ _ _ Rz_3
      clear b4 B3 Rz_3 cz_3_0 cz_3_1 cz_3_2 cz_3_3
      obtain ⟨cz_4_0, cz_4_1, cz_4_2, cz_4_3⟩ := cells4s Rz_4
      go_wp2_with fail
      refine (twosx d t q HT.out LD.out HQ.out _ (tabB TT.out B4)).mono ?_
      rintro r w5 ⟨rfl, b5⟩
      have B5 : Below w.heap.size w w5 := btr B4 b5
      have Rz_5 := heap_of b5 _ _ _ Rz_4
      clear b5 B4 Rz_4 cz_4_0 cz_4_1 cz_4_2 cz_4_3
      obtain ⟨cz_5_0, cz_5_1, cz_5_2, cz_5_3⟩ := cells4s Rz_5
      go_wp2_with fail
      refine (shortenx (od n) (od d) p q u v HP.out HQ.out L1.out L2.out Z.out HU.out HV.out _).mono ?_
      rintro r w6 ⟨rfl, b6⟩
      have B6 : Below w.heap.size w w6 := btr B5 b6
      have Rz_6 := heap_of b6 _ _ _ Rz_5
      clear b6 B5 Rz_5 cz_5_0 cz_5_1 cz_5_2 cz_5_3
      obtain ⟨cz_6_0, cz_6_1, cz_6_2, cz_6_3⟩ := cells4s Rz_6
      have q0 := fz (k := 0) Rz_6
      have q1 := fz (k := 1) Rz_6
      have q2 := fz (k := 2) Rz_6
      have q3 := fz (k := 3) Rz_6
      obtain ⟨E0, E1, E2, E3⟩ := set4_cells Rz_6 rfl (.bool rb) (.string u) (.string v) (.int .i64 re)
      go_wp2
      exact bodyPost_ret (v := .tuple #[.agg #[.bool rb, .string u, .string v, .int .i64 re], .int .i64 0]) (by simp [results, Tryz.results172, go_sem, E0, E1, E2, E3]) rfl ⟨rfl, set4_below B6 (by first | exact Nat.le_refl _ | omega) _ _ _ _⟩
    · have HG : Box ((decide (-1048576 ≤ E) && decide (E ≤ 1048576)) = false) := box (by
        rw [Bool.eq_false_iff]
        intro h
        exact hc (by simpa using h))
      rw [nbA_zero] at hu hv
      subst hu hv
      clear hs ht ln ld hT hr hx hy hE hc n0 d0
      obtain ⟨Rz_0, B0⟩ := opn1 w (Obj.cells #[.bool false, .string ⟨#[]⟩, .string ⟨#[]⟩, .int .i64 0] 41)
      go_enter Tryz.func172, Tryz.ntmps172
      go_wp2_with fail
      refine (pn_low_ok n x s HS.out LN.out LX.out _ (tabB TT.out B0)).mono ?_
      rintro r w1 ⟨rfl, b1⟩
      have B1 : Below w.heap.size w w1 := btr B0 b1
      have Rz_1 := heap_of b1 _ _ _ Rz_0
      clear b1 B0 Rz_0
      obtain ⟨cz_1_0, cz_1_1, cz_1_2, cz_1_3⟩ := cells4s Rz_1
      go_wp2_with fail
      refine (pn_low_ok d y t HT.out LD.out LY.out _ (tabB TT.out B1)).mono ?_
      rintro r w2 ⟨rfl, b2⟩
      have B2 : Below w.heap.size w w2 := btr B1 b2
      have Rz_2 := heap_of b2 _ _ _ Rz_1
      clear b2 B1 Rz_1 cz_1_0 cz_1_1 cz_1_2 cz_1_3
      obtain ⟨cz_2_0, cz_2_1, cz_2_2, cz_2_3⟩ := cells4s Rz_2
      go_wp2_with fail
      refine (withinx E 1048576 false (by decide) (by decide) HG.out _).mono ?_
      rintro r w3 ⟨rfl, b3⟩
      have B3 : Below w.heap.size w w3 := btr B2 b3
      have Rz_3 := heap_of b3 _ _ _ Rz_2
      clear b3 B2 Rz_2 cz_2_0 cz_2_1 cz_2_2 cz_2_3
      obtain ⟨cz_3_0, cz_3_1, cz_3_2, cz_3_3⟩ := cells4s Rz_3
      have q0 := fz (k := 0) Rz_3
      have q1 := fz (k := 1) Rz_3
      have q2 := fz (k := 2) Rz_3
      have q3 := fz (k := 3) Rz_3
      obtain ⟨E0, E1, E2, E3⟩ := set4_cells Rz_3 rfl (.bool false) (.string ⟨#[]⟩) (.string ⟨#[]⟩) (.int .i64 0)
      go_wp2
      exact bodyPost_ret (v := .tuple #[.agg #[.bool false, .string ⟨#[]⟩, .string ⟨#[]⟩, .int .i64 0], .int .i64 4]) (by simp [results, Tryz.results172, go_sem, E0, E1, E2, E3]) rfl ⟨rfl, set4_below B3 (by first | exact Nat.le_refl _ | omega) _ _ _ _⟩
end Go.Proofs.YtbmhfcppaajgbaaGreatDoor
namespace Go.Proofs.YtbmhfcppaajgbaaGreatDoor
set_option maxRecDepth 100000
open Go.RowKit WMath XMath

theorem may_yes {b : Bool} {n d : Nat} {s t : ByteArray} {e : Int} (hs : nbA n = s) (ht : nbA d = t) (hc : (XN.mk b n d e).can) : IsM true b s t e := ⟨fun _ => ⟨n, d, hs, ht, hc⟩, fun _ => rfl⟩
theorem can_null {b : Bool} {n d : Nat} {e : Int} (hc : (XN.mk b n d e).can) (h0 : n = 0) : b = false ∧ d = 1 ∧ e = 0 := by
  have h := hc.null h0
  unfold X0 at h
  injection h with h1 h2 h3 h4
  exact ⟨h1, h3, h4⟩

/-- A number that may be, and is not 0, is another one than 0, as values. -/
theorem x_cases {b : Bool} {n d : Nat} {e : Int} {s t : ByteArray} (hs : nbA n = s) (ht : nbA d = t) (hc : (XN.mk b n d e).can) : (n = 0 ∧ b = false ∧ s = ⟨#[]⟩ ∧ t = ⟨#[1]⟩ ∧ d = 1 ∧ e = 0) ∨ (n ≠ 0 ∧ (s.toList == []) = false) := by
  by_cases h0 : n = 0
  · obtain ⟨h1, h2, h3⟩ := can_null hc h0
    subst h0 h2
    exact Or.inl ⟨rfl, h1, by rw [← hs, nbA_zero], by rw [← ht, nb1], rfl, h3⟩
  · exact Or.inr ⟨h0, eq_nil n s hs h0⟩

set_option maxRecDepth 100000 in
set_option maxHeartbeats 1000000 in
theorem makex_ok (neg : Bool) (n d : Nat) (e : Int) (s t : ByteArray) (rb : Bool) (rn rd : Nat) (re err : Int) (u v : ByteArray) (hs : nbA n = s) (ht : nbA d = t) (ln : nl n ≤ 16384) (ld : nl d ≤ 16384) (d0 : d ≠ 0) (he1 : -1048576 ≤ e) (he2 : e ≤ 1048576)
    (hr : XMath.mk neg n d e = (⟨rb, rn, rd, re⟩, err)) (hu : nbA rn = u) (hv : nbA rd = v) (w : World) (hT : TabAt w) :
    Calls Tryz.prog 168 #[.bool neg, .string s, .string t, .int .i64 e] w fun r w' => r = .returned (.tuple #[.agg #[.bool rb, .string u, .string v, .int .i64 re], .int .i64 err]) ∧ Below w.heap.size w w' := by
  have e0 := eq_nil d t ht d0
  have H1 : Box (mayB s = true) := box (by rw [← hs]; exact mayB_nb n ln)
  have H2 : Box (mayB t = true) := box (by rw [← ht]; exact mayB_nb d ld)
  have HG : Box ((decide (-1048576 ≤ e) && decide (e ≤ 1048576)) = true) := box (by rw [decide_eq_true he1, decide_eq_true he2]; rfl)
  have HF := box (fun w hT => formx neg n d e s t rb rn rd re err u v hs ht ln ld d0 (by omega) (by omega) hr hu hv w hT)
  have TT := box hT
  clear hs ht ln ld d0 he1 he2 hr hu hv hT
  obtain ⟨Rz_0, B0⟩ := opn1 w (Obj.cells #[.bool false, .string ⟨#[]⟩, .string ⟨#[]⟩, .int .i64 0] 41)
  go_enter Tryz.func168, Tryz.ntmps168
  go_wp2_with fail
  refine (n_check s true H1.out _).mono ?_
  rintro r w' ⟨rfl, rfl⟩
  go_wp2_with fail
  refine (n_check t true H2.out _).mono ?_
  rintro r w' ⟨rfl, rfl⟩
  go_wp2_with fail
  refine (withinx e 1048576 true (by decide) (by decide) HG.out _).mono ?_
  rintro r w1 ⟨rfl, b1⟩
  have B1 : Below w.heap.size w w1 := btr B0 b1
  have Rz_1 := heap_of b1 _ _ _ Rz_0
  clear b1 B0 Rz_0
  obtain ⟨cz_1_0, cz_1_1, cz_1_2, cz_1_3⟩ := cells4s Rz_1
  go_wp2_with fail
  refine (HF.out _ (tabB TT.out B1)).mono ?_
  rintro r w2 ⟨rfl, b2⟩
  have B2 : Below w.heap.size w w2 := btr B1 b2
  have Rz_2 := heap_of b2 _ _ _ Rz_1
  clear b2 B1 Rz_1 cz_1_0 cz_1_1 cz_1_2 cz_1_3
  obtain ⟨cz_2_0, cz_2_1, cz_2_2, cz_2_3⟩ := cells4s Rz_2
  have q0 := fz (k := 0) Rz_2
  have q1 := fz (k := 1) Rz_2
  have q2 := fz (k := 2) Rz_2
  have q3 := fz (k := 3) Rz_2
  obtain ⟨E0, E1, E2, E3⟩ := set4_cells Rz_2 rfl (.bool rb) (.string u) (.string v) (.int .i64 re)
  go_wp2
  exact bodyPost_ret (v := .tuple #[.agg #[.bool rb, .string u, .string v, .int .i64 re], .int .i64 err]) (by simp [results, Tryz.results168, go_sem, E0, E1, E2, E3]) rfl ⟨rfl, set4_below B2 (by first | exact Nat.le_refl _ | omega) _ _ _ _⟩

theorem signx (b : Bool) (n d : Nat) (e : Int) (s t : ByteArray) (c : Int) (hs : nbA n = s) (ht : nbA d = t) (hc : (XN.mk b n d e).can) (hr : sg (XN.mk b n d e) = c) (w : World) : Calls Tryz.prog 81 #[.agg #[.bool b, .string s, .string t, .int .i64 e]] w fun r w' => r = .returned (.int .i64 c) ∧ Below w.heap.size w w' := by
  by_cases h0 : n = 0
  · obtain ⟨rfl, rfl, rfl⟩ := can_null hc h0
    subst h0
    rw [nbA_zero] at hs
    rw [nb1] at ht
    subst hs ht
    have ec : c = 0 := by rw [← hr]; rfl
    subst ec
    clear hr hc
    obtain ⟨Rx_0, B0⟩ := opn1 w (Obj.cells #[.bool false, .string ⟨#[]⟩, .string ⟨#[1]⟩, .int .i64 0] 41)
    go_enter Tryz.func81, Tryz.ntmps81
    go_wp2_with fail
    obtain ⟨F, hF1, hF2⟩ := below_fun (w.alloc (Obj.cells #[.bool false, .string ⟨#[]⟩, .string ⟨#[1]⟩, .int .i64 0] 41))
    have fx_0 := fun u => cells4 (heap_of (hF1 u) _ _ _ Rx_0) 0 _ rfl
    have fx_1 := fun u => cells4 (heap_of (hF1 u) _ _ _ Rx_0) 1 _ rfl
    have fx_2 := fun u => cells4 (heap_of (hF1 u) _ _ _ Rx_0) 2 _ rfl
    have fx_3 := fun u => cells4 (heap_of (hF1 u) _ _ _ Rx_0) 3 _ rfl
    refine wp_region_below F hF2 (by kernel_rfl) (by kernel_rfl) ?_
    repeat first | go_big_quiet_step (first | (go_at_call 90; exact quietF hF1 hF2 (zerox _)) | fail) | quiet_step (first | (go_at_call 90; exact quietF hF1 hF2 (zerox _)) | fail)
    refine wpQuiet_nil ?_
    rintro _ ⟨uW, rfl⟩
    have B1 := btr B0 (hF1 uW)
    have Rx_1 := heap_of (hF1 uW) _ _ _ Rx_0
    obtain ⟨w1, hw⟩ : ∃ V, F uW = V := ⟨_, rfl⟩
    rw [hw] at B1 Rx_1
    try rw [hw]
    clear hw hF1 hF2 B0 fx_0 fx_1 fx_2 fx_3 Rx_0
    clear F
    obtain ⟨cx_1_0, cx_1_1, cx_1_2, cx_1_3⟩ := cells4s Rx_1
    go_wp2
    go_ret
    exact ⟨rfl, B1⟩
  · have e0 := eq_nil n s hs h0
    cases b
    · have ec : c = 1 := by rw [← hr]; unfold sg; rw [if_neg h0]; rfl
      subst ec
      clear hr hc hs ht h0
      obtain ⟨Rx_0, B0⟩ := opn1 w (Obj.cells #[.bool false, .string s, .string t, .int .i64 e] 41)
      go_enter Tryz.func81, Tryz.ntmps81
      go_wp2_with fail
      obtain ⟨F, hF1, hF2⟩ := below_fun (w.alloc (Obj.cells #[.bool false, .string s, .string t, .int .i64 e] 41))
      have fx_0 := fun u => cells4 (heap_of (hF1 u) _ _ _ Rx_0) 0 _ rfl
      have fx_1 := fun u => cells4 (heap_of (hF1 u) _ _ _ Rx_0) 1 _ rfl
      have fx_2 := fun u => cells4 (heap_of (hF1 u) _ _ _ Rx_0) 2 _ rfl
      have fx_3 := fun u => cells4 (heap_of (hF1 u) _ _ _ Rx_0) 3 _ rfl
      refine wp_region_below F hF2 (by kernel_rfl) (by kernel_rfl) ?_
      repeat first | go_big_quiet_step (first | (go_at_call 90; exact quietF hF1 hF2 (zerox _)) | fail) | quiet_step (first | (go_at_call 90; exact quietF hF1 hF2 (zerox _)) | fail)
      refine wpQuiet_nil ?_
      rintro _ ⟨uW, rfl⟩
      have B1 := btr B0 (hF1 uW)
      have Rx_1 := heap_of (hF1 uW) _ _ _ Rx_0
      obtain ⟨w1, hw⟩ : ∃ V, F uW = V := ⟨_, rfl⟩
      rw [hw] at B1 Rx_1
      try rw [hw]
      clear hw hF1 hF2 B0 fx_0 fx_1 fx_2 fx_3 Rx_0
      clear F
      obtain ⟨cx_1_0, cx_1_1, cx_1_2, cx_1_3⟩ := cells4s Rx_1
      go_wp2
      go_ret
      exact ⟨rfl, B1⟩
    · have ec : c = -1 := by rw [← hr]; unfold sg; rw [if_neg h0]; rfl
      subst ec
      clear hr hc hs ht h0
      obtain ⟨Rx_0, B0⟩ := opn1 w (Obj.cells #[.bool true, .string s, .string t, .int .i64 e] 41)
      go_enter Tryz.func81, Tryz.ntmps81
      go_wp2_with fail
      obtain ⟨F, hF1, hF2⟩ := below_fun (w.alloc (Obj.cells #[.bool true, .string s, .string t, .int .i64 e] 41))
      have fx_0 := fun u => cells4 (heap_of (hF1 u) _ _ _ Rx_0) 0 _ rfl
      have fx_1 := fun u => cells4 (heap_of (hF1 u) _ _ _ Rx_0) 1 _ rfl
      have fx_2 := fun u => cells4 (heap_of (hF1 u) _ _ _ Rx_0) 2 _ rfl
      have fx_3 := fun u => cells4 (heap_of (hF1 u) _ _ _ Rx_0) 3 _ rfl
      refine wp_region_below F hF2 (by kernel_rfl) (by kernel_rfl) ?_
      repeat first | go_big_quiet_step (first | (go_at_call 90; exact quietF hF1 hF2 (zerox _)) | fail) | quiet_step (first | (go_at_call 90; exact quietF hF1 hF2 (zerox _)) | fail)
      refine wpQuiet_nil ?_
      rintro _ ⟨uW, rfl⟩
      have B1 := btr B0 (hF1 uW)
      have Rx_1 := heap_of (hF1 uW) _ _ _ Rx_0
      obtain ⟨w1, hw⟩ : ∃ V, F uW = V := ⟨_, rfl⟩
      rw [hw] at B1 Rx_1
      try rw [hw]
      clear hw hF1 hF2 B0 fx_0 fx_1 fx_2 fx_3 Rx_0
      clear F
      obtain ⟨cx_1_0, cx_1_1, cx_1_2, cx_1_3⟩ := cells4s Rx_1
      go_wp2
      go_ret
      exact ⟨rfl, B1⟩
theorem Signx_ok (b : Bool) (n d : Nat) (e : Int) (s t : ByteArray) (c : Int) (hs : nbA n = s) (ht : nbA d = t) (hc : (XN.mk b n d e).can) (hr : sg (XN.mk b n d e) = c) (w : World) (hT : TabAt w) : Calls Tryz.prog 32 #[.agg #[.bool b, .string s, .string t, .int .i64 e]] w fun r w' => r = .returned (.int .i64 c) ∧ Below w.heap.size w w' := by
  have HM := box (may_yes hs ht hc)
  have HF := box (fun w => signx b n d e s t c hs ht hc hr w)
  have TT := box hT
  clear hs ht hc hr hT
  obtain ⟨Rx_0, B0⟩ := opn1 w (Obj.cells #[.bool b, .string s, .string t, .int .i64 e] 41)
  go_enter Tryz.func32, Tryz.ntmps32
  go_wp2_with fail
  refine (xmay1 b s t e true HM.out _ (w.alloc (Obj.cells #[.bool b, .string s, .string t, .int .i64 e] 41)) _ (by simp only [size_al]) (tabB TT.out B0)).mono ?_
  rintro r w1 ⟨rfl, b1⟩
  have B1 : Below w.heap.size w w1 := btr B0 b1
  have Rx_1 := heap_of b1 _ _ _ Rx_0
  clear b1 B0 Rx_0
  obtain ⟨cx_1_0, cx_1_1, cx_1_2, cx_1_3⟩ := cells4s Rx_1
  go_wp2_with fail
  refine (HF.out _).mono ?_
  rintro r w2 ⟨rfl, b2⟩
  have B2 : Below w.heap.size w w2 := btr B1 b2
  have Rx_2 := heap_of b2 _ _ _ Rx_1
  clear b2 B1 Rx_1 cx_1_0 cx_1_1 cx_1_2 cx_1_3
  obtain ⟨cx_2_0, cx_2_1, cx_2_2, cx_2_3⟩ := cells4s Rx_2
  go_wp2
  go_ret
  exact ⟨rfl, B2⟩
end Go.Proofs.YtbmhfcppaajgbaaGreatDoor
namespace Go.Proofs.YtbmhfcppaajgbaaGreatDoor
set_option maxRecDepth 100000
open Go.RowKit WMath XMath

theorem ofWordx (neg : Bool) (x : Nat) (rb : Bool) (rn rd : Nat) (re : Int) (u v : ByteArray) (hx : x < 18446744073709551616) (hr : XMath.mk neg x 1 0 = (⟨rb, rn, rd, re⟩, 0)) (hu : nbA rn = u) (hv : nbA rd = v) (w : World) (hT : TabAt w) :
    Calls Tryz.prog 161 #[.bool neg, .int .u64 (x : Nat)] w fun r w' => r = .returned (.agg #[.bool rb, .string u, .string v, .int .i64 re]) ∧ Below w.heap.size w w' := by
  obtain ⟨s, hs⟩ : ∃ s, nbA x = s := ⟨_, rfl⟩
  have lx : nl x ≤ 16384 := Nat.le_trans (nl_le_of x 8 (by omega)) (by decide)
  have HF := box (fun w hT => formx neg x 1 0 s ⟨#[1]⟩ rb rn rd re 0 u v hs nb1 lx nl1 (by decide) (by decide) (by decide) hr hu hv w hT)
  have HS := box hs
  have TT := box hT
  clear hs hT hr hu hv lx
  obtain ⟨Rz_0, B0⟩ := opn1 w (Obj.cells #[.bool false, .string ⟨#[]⟩, .string ⟨#[]⟩, .int .i64 0] 41)
  go_enter Tryz.func161, Tryz.ntmps161
  go_wp2_with fail
  refine (pn_of x s hx HS.out _).mono ?_
  rintro r w1 ⟨rfl, b1⟩
  have B1 : Below w.heap.size w w1 := btr B0 b1
  have Rz_1 := heap_of b1 _ _ _ Rz_0
  clear b1 B0 Rz_0
  obtain ⟨cz_1_0, cz_1_1, cz_1_2, cz_1_3⟩ := cells4s Rz_1
  go_wp2_with fail
  refine (HF.out _ (tabB TT.out B1)).mono ?_
  rintro r w2 ⟨rfl, b2⟩
  have B2 : Below w.heap.size w w2 := btr B1 b2
  have Rz_2 := heap_of b2 _ _ _ Rz_1
  clear b2 B1 Rz_1 cz_1_0 cz_1_1 cz_1_2 cz_1_3
  obtain ⟨cz_2_0, cz_2_1, cz_2_2, cz_2_3⟩ := cells4s Rz_2
  have S3 := box B2.size
  have Lz_3 : Box (w.heap.size < w2.heap.size) := box (Array.getElem?_eq_some_iff.1 Rz_2).1
  have Ry_3 := heap_alloc_last w2 (Obj.cells #[.bool rb, .string u, .string v, .int .i64 re] 41)
  have B3 := btr B2 (bal w2 (Obj.cells #[.bool rb, .string u, .string v, .int .i64 re] 41))
  have Rz_3 := heap_of (bal w2 (Obj.cells #[.bool rb, .string u, .string v, .int .i64 re] 41)) _ _ _ Rz_2
  clear B2 Rz_2 cz_2_0 cz_2_1 cz_2_2 cz_2_3
  obtain ⟨cz_3_0, cz_3_1, cz_3_2, cz_3_3⟩ := cells4s Rz_3
  obtain ⟨cy_3_0, cy_3_1, cy_3_2, cy_3_3⟩ := cells4s Ry_3
  have q0 := fz (k := 0) Rz_3
  have q1 := fz (k := 1) Rz_3
  have q2 := fz (k := 2) Rz_3
  have q3 := fz (k := 3) Rz_3
  obtain ⟨E0, E1, E2, E3⟩ := set4_cells Rz_3 rfl (.bool rb) (.string u) (.string v) (.int .i64 re)
  go_wp2
  exact bodyPost_ret (v := .agg #[.bool rb, .string u, .string v, .int .i64 re]) (by simp [results, Tryz.results161, go_sem, E0, E1, E2, E3]) rfl ⟨rfl, set4_below B3 (by first | exact Nat.le_refl _ | omega) _ _ _ _⟩
theorem Wholex (x : Int) (rb : Bool) (rn rd : Nat) (re : Int) (u v : ByteArray) (h1 : -9223372036854775808 ≤ x) (h2 : x ≤ 9223372036854775807) (hr : XMath.mk (decide (x < 0)) x.natAbs 1 0 = (⟨rb, rn, rd, re⟩, 0)) (hu : nbA rn = u) (hv : nbA rd = v) (w : World) (hT : TabAt w) :
    Calls Tryz.prog 71 #[.int .i64 x] w fun r w' => r = .returned (.agg #[.bool rb, .string u, .string v, .int .i64 re]) ∧ Below w.heap.size w w' := by
  have TT := box hT
  obtain ⟨k, hk⟩ : ∃ k, x.natAbs = k := ⟨_, rfl⟩
  have k64 : k < 18446744073709551616 := by omega
  rw [hk] at hr
  by_cases h : x < 0
  · have d0 : decide (x < 0) = true := decide_eq_true h
    rw [d0] at hr
    have HF := box (fun w hT => ofWordx true k rb rn rd re u v k64 hr hu hv w hT)
    have n1 : IntKind.u64.wrap x = x + 18446744073709551616 := by rw [IntKind.wrap_u64]; omega
    have n2 : IntKind.u64.wrap (-(x + 18446744073709551616)) = (k : Int) := by rw [IntKind.wrap_u64]; omega
    have n3 : IntKind.u64.wrap (-x) = (k : Int) := by rw [IntKind.wrap_u64]; omega
    have n4 : IntKind.u64.wrap (-(IntKind.u64.wrap x)) = (k : Int) := by rw [n1, n2]
    clear hT hr hu hv
    obtain ⟨Rz_0, B0⟩ := opn1 w (Obj.cells #[.bool false, .string ⟨#[]⟩, .string ⟨#[]⟩, .int .i64 0] 41)
    go_enter Tryz.func71, Tryz.ntmps71
    go_wp2_with fail
    refine (HF.out _ (tabB TT.out B0)).mono ?_
    rintro r w1 ⟨rfl, b1⟩
    have B1 : Below w.heap.size w w1 := btr B0 b1
    have Rz_1 := heap_of b1 _ _ _ Rz_0
    clear b1 B0 Rz_0
    obtain ⟨cz_1_0, cz_1_1, cz_1_2, cz_1_3⟩ := cells4s Rz_1
    have q0 := fz (k := 0) Rz_1
    have q1 := fz (k := 1) Rz_1
    have q2 := fz (k := 2) Rz_1
    have q3 := fz (k := 3) Rz_1
    obtain ⟨E0, E1, E2, E3⟩ := set4_cells Rz_1 rfl (.bool rb) (.string u) (.string v) (.int .i64 re)
    go_wp2
    exact bodyPost_ret (v := .agg #[.bool rb, .string u, .string v, .int .i64 re]) (by simp [results, Tryz.results71, go_sem, E0, E1, E2, E3]) rfl ⟨rfl, set4_below B1 (by first | exact Nat.le_refl _ | omega) _ _ _ _⟩
  · have d0 : decide (x < 0) = false := decide_eq_false h
    rw [d0] at hr
    obtain rfl : x = (k : Int) := by omega
    have HF := box (fun w hT => ofWordx false k rb rn rd re u v k64 hr hu hv w hT)
    have n1 : IntKind.u64.wrap (k : Int) = (k : Int) := by rw [IntKind.wrap_u64]; omega
    clear hT hr hu hv hk
    obtain ⟨Rz_0, B0⟩ := opn1 w (Obj.cells #[.bool false, .string ⟨#[]⟩, .string ⟨#[]⟩, .int .i64 0] 41)
    go_enter Tryz.func71, Tryz.ntmps71
    go_wp2_with fail
    refine (HF.out _ (tabB TT.out B0)).mono ?_
    rintro r w1 ⟨rfl, b1⟩
    have B1 : Below w.heap.size w w1 := btr B0 b1
    have Rz_1 := heap_of b1 _ _ _ Rz_0
    clear b1 B0 Rz_0
    obtain ⟨cz_1_0, cz_1_1, cz_1_2, cz_1_3⟩ := cells4s Rz_1
    have q0 := fz (k := 0) Rz_1
    have q1 := fz (k := 1) Rz_1
    have q2 := fz (k := 2) Rz_1
    have q3 := fz (k := 3) Rz_1
    obtain ⟨E0, E1, E2, E3⟩ := set4_cells Rz_1 rfl (.bool rb) (.string u) (.string v) (.int .i64 re)
    go_wp2
    exact bodyPost_ret (v := .agg #[.bool rb, .string u, .string v, .int .i64 re]) (by simp [results, Tryz.results71, go_sem, E0, E1, E2, E3]) rfl ⟨rfl, set4_below B1 (by first | exact Nat.le_refl _ | omega) _ _ _ _⟩
end Go.Proofs.YtbmhfcppaajgbaaGreatDoor
namespace Go.Proofs.YtbmhfcppaajgbaaGreatDoor
set_option maxRecDepth 100000
open Go.RowKit WMath XMath

theorem lg_no (n : Nat) (h : ¬ nl n ≤ 16384) : lg n = (⟨#[]⟩, 4) := by unfold lg; rw [if_neg h]
end Go.Proofs.YtbmhfcppaajgbaaGreatDoor
