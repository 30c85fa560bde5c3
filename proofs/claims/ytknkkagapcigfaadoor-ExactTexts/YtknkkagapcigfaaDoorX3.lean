/-
  What the functions Check and mayBe of package exact return.
-/
import Derived.Test.YtknkkagapcigfaaDoorX2
namespace Go.Proofs.YtknkkagapcigfaaDoor
open Go.RowKit WMath XMath

set_option maxRecDepth 100000 in
set_option maxHeartbeats 1000000 in
theorem xcheck (b : Bool) (s t : ByteArray) (e : Int) (o : Bool) (ho : o = true ↔ MayX b s t e) (w : World) (hT : TabAt w) : Calls Tryd.prog 22 #[.agg #[.bool b, .string s, .string t, .int .i64 e]] w fun r w' => r = .returned (.int .i64 (if o then 0 else 2)) ∧ Below w.heap.size w w' := by
  have TT := box hT
  clear hT
  cases hm1 : mayB s
  · have eo : o = false := by
      cases o
      · rfl
      · have := (mayX_s b s t e (ho.1 rfl)).1
        rw [hm1] at this
        exact absurd this (by decide)
    subst eo
    have H1 := box hm1
    clear hm1 ho
    have Rx_0 : (w.alloc (Obj.cells #[.bool b, .string s, .string t, .int .i64 e] 24)).heap[w.heap.size]? = some (Obj.cells #[.bool b, .string s, .string t, .int .i64 e] 24) := by have := heap_alloc_last w (Obj.cells #[.bool b, .string s, .string t, .int .i64 e] 24); simpa only [size_al] using this
    have B0 : Below w.heap.size w (w.alloc (Obj.cells #[.bool b, .string s, .string t, .int .i64 e] 24)) := ((Below.refl _ _).alloc (by first | omega | (simp only [size_al]; omega)) _)
    go_enter Tryd.func22, Tryd.ntmps22
    go_wp2_with fail
    refine (n_check s false H1.out _).mono ?_
    rintro r w' ⟨rfl, rfl⟩
    go_wp2
    go_ret
    exact ⟨rfl, B0⟩
  cases hm2 : mayB t
  · have eo : o = false := by
      cases o
      · rfl
      · have := (mayX_s b s t e (ho.1 rfl)).2
        rw [hm2] at this
        exact absurd this (by decide)
    subst eo
    have H1 := box hm1
    have H2 := box hm2
    clear hm1 hm2 ho
    have Rx_0 : (w.alloc (Obj.cells #[.bool b, .string s, .string t, .int .i64 e] 24)).heap[w.heap.size]? = some (Obj.cells #[.bool b, .string s, .string t, .int .i64 e] 24) := by have := heap_alloc_last w (Obj.cells #[.bool b, .string s, .string t, .int .i64 e] 24); simpa only [size_al] using this
    have B0 : Below w.heap.size w (w.alloc (Obj.cells #[.bool b, .string s, .string t, .int .i64 e] 24)) := ((Below.refl _ _).alloc (by first | omega | (simp only [size_al]; omega)) _)
    go_enter Tryd.func22, Tryd.ntmps22
    go_wp2_with fail
    refine (n_check s true H1.out _).mono ?_
    rintro r w' ⟨rfl, rfl⟩
    go_wp2_with fail
    refine (n_check t false H2.out _).mono ?_
    rintro r w' ⟨rfl, rfl⟩
    go_wp2
    go_ret
    exact ⟨rfl, B0⟩
  obtain ⟨n, hs, ln⟩ := mayB_is s hm1
  obtain ⟨d, ht, ld⟩ := mayB_is t hm2
  rw [mayX_iff b n d s t e hs ht, can_parts b n d e ln ld] at ho
  have H1 := box hm1
  have H2 := box hm2
  have HS := box hs
  have HT := box ht
  have LN := box ln
  have LD := box ld
  clear hm1 hm2
  obtain ⟨g, hg⟩ : ∃ g, (decide (-1048576 ≤ e) && decide (e ≤ 1048576)) = g := ⟨_, rfl⟩
  have HG := box hg
  cases g
  · have eo : o = false := by
      cases o
      · rfl
      · have := ho.1 rfl
        rw [decide_eq_true this.1, decide_eq_true this.2.1] at hg
        exact hg
    subst eo
    clear ho hs ht ln ld hg
    have Rx_0 : (w.alloc (Obj.cells #[.bool b, .string s, .string t, .int .i64 e] 24)).heap[w.heap.size]? = some (Obj.cells #[.bool b, .string s, .string t, .int .i64 e] 24) := by have := heap_alloc_last w (Obj.cells #[.bool b, .string s, .string t, .int .i64 e] 24); simpa only [size_al] using this
    have B0 : Below w.heap.size w (w.alloc (Obj.cells #[.bool b, .string s, .string t, .int .i64 e] 24)) := ((Below.refl _ _).alloc (by first | omega | (simp only [size_al]; omega)) _)
    go_enter Tryd.func22, Tryd.ntmps22
    go_wp2_with fail
    refine (n_check s true H1.out _).mono ?_
    rintro r w' ⟨rfl, rfl⟩
    go_wp2_with fail
    refine (n_check t true H2.out _).mono ?_
    rintro r w' ⟨rfl, rfl⟩
    go_wp2_with fail
    refine (withinx e 1048576 false (by decide) (by decide) HG.out _).mono ?_
    rintro r w1 ⟨rfl, b1⟩
    have B1 : Below w.heap.size w w1 := btr B0 b1
    have Rx_1 : w1.heap[w.heap.size]? = some (Obj.cells #[.bool b, .string s, .string t, .int .i64 e] 24) := heap_of b1 _ _ _ Rx_0
    clear b1 B0 Rx_0
    have cx_1_0 := cells4 Rx_1 0 _ rfl
    have cx_1_1 := cells4 Rx_1 1 _ rfl
    have cx_1_2 := cells4 Rx_1 2 _ rfl
    have cx_1_3 := cells4 Rx_1 3 _ rfl
    go_wp2
    go_ret
    exact ⟨rfl, B1⟩
  have hr : -1048576 ≤ e ∧ e ≤ 1048576 := by simpa using hg
  clear hg
  by_cases h0 : n = 0
  · subst h0
    rw [nbA_zero] at hs
    have hs2 := hs
    clear hs
    subst hs2
    have e1 := eq_one d t ht
    have ez : (e == 0) = decide (e = 0) := by rw [Bool.eq_iff_iff, beq_iff_eq, decide_eq_true_iff]
    have ho2 : o = true ↔ (b = false ∧ d = 1 ∧ e = 0) := by rw [ho]; exact ⟨fun h => by rcases h.2.2 with h | h; exact ⟨h.1, h.2.2⟩; omega, fun h => ⟨by omega, by omega, Or.inl ⟨h.1, rfl, h.2⟩⟩⟩
    have OD : Box (decide ((0 : Nat) % 2 = 1) = false) := box rfl
    clear ho ht ln ld hr
    cases b
    · by_cases d1 : d = 1
      · rw [decide_eq_true d1] at e1
        by_cases z : e = 0
        · have eo : o = true := ho2.2 ⟨rfl, d1, z⟩
          subst eo
          rw [decide_eq_true z] at ez
          clear ho2 d1 z
          have Rx_0 : (w.alloc (Obj.cells #[.bool false, .string ⟨#[]⟩, .string t, .int .i64 e] 24)).heap[w.heap.size]? = some (Obj.cells #[.bool false, .string ⟨#[]⟩, .string t, .int .i64 e] 24) := by have := heap_alloc_last w (Obj.cells #[.bool false, .string ⟨#[]⟩, .string t, .int .i64 e] 24); simpa only [size_al] using this
          have B0 : Below w.heap.size w (w.alloc (Obj.cells #[.bool false, .string ⟨#[]⟩, .string t, .int .i64 e] 24)) := ((Below.refl _ _).alloc (by first | omega | (simp only [size_al]; omega)) _)
          go_enter Tryd.func22, Tryd.ntmps22
          go_wp2_with fail
          refine (n_check _ true H1.out _).mono ?_
          rintro r w' ⟨rfl, rfl⟩
          go_wp2_with fail
          refine (n_check t true H2.out _).mono ?_
          rintro r w' ⟨rfl, rfl⟩
          go_wp2_with fail
          refine (withinx e 1048576 true (by decide) (by decide) HG.out _).mono ?_
          rintro r w1 ⟨rfl, b1⟩
          have B1 : Below w.heap.size w w1 := btr B0 b1
          have Rx_1 : w1.heap[w.heap.size]? = some (Obj.cells #[.bool false, .string ⟨#[]⟩, .string t, .int .i64 e] 24) := heap_of b1 _ _ _ Rx_0
          clear b1 B0 Rx_0
          have cx_1_0 := cells4 Rx_1 0 _ rfl
          have cx_1_1 := cells4 Rx_1 1 _ rfl
          have cx_1_2 := cells4 Rx_1 2 _ rfl
          have cx_1_3 := cells4 Rx_1 3 _ rfl
          go_wp2_with fail
          obtain ⟨F, hF1, hF2⟩ := below_fun w1
          have fx_0 := fun u => cells4 (heap_of (hF1 u) _ _ _ Rx_1) 0 _ rfl
          have fx_1 := fun u => cells4 (heap_of (hF1 u) _ _ _ Rx_1) 1 _ rfl
          have fx_2 := fun u => cells4 (heap_of (hF1 u) _ _ _ Rx_1) 2 _ rfl
          have fx_3 := fun u => cells4 (heap_of (hF1 u) _ _ _ Rx_1) 3 _ rfl
          refine wp_region_below F hF2 (by kernel_rfl) (by kernel_rfl) ?_
          repeat first | go_big_quiet_step (first | (go_at_call 27; exact quietF hF1 hF2 (zerox _)) | fail) | quiet_step (first | (go_at_call 27; exact quietF hF1 hF2 (zerox _)) | fail)
          refine wpQuiet_nil ?_
          rintro _ ⟨uW, rfl⟩
          have B2 := btr B1 (hF1 uW)
          have Rx_2 := heap_of (hF1 uW) _ _ _ Rx_1
          obtain ⟨w2, hw⟩ : ∃ V, F uW = V := ⟨_, rfl⟩
          rw [hw] at B2 Rx_2
          try rw [hw]
          clear hw hF1 hF2 B1 fx_0 fx_1 fx_2 fx_3 Rx_1 cx_1_0 cx_1_1 cx_1_2 cx_1_3
          clear F
          have cx_2_0 := cells4 Rx_2 0 _ rfl
          have cx_2_1 := cells4 Rx_2 1 _ rfl
          have cx_2_2 := cells4 Rx_2 2 _ rfl
          have cx_2_3 := cells4 Rx_2 3 _ rfl
          go_wp2
          go_ret
          exact ⟨rfl, B2⟩
        · have eo : o = false := by cases o; rfl; exact absurd (ho2.1 rfl).2.2 z
          subst eo
          rw [decide_eq_false z] at ez
          clear ho2 d1
          have Rx_0 : (w.alloc (Obj.cells #[.bool false, .string ⟨#[]⟩, .string t, .int .i64 e] 24)).heap[w.heap.size]? = some (Obj.cells #[.bool false, .string ⟨#[]⟩, .string t, .int .i64 e] 24) := by have := heap_alloc_last w (Obj.cells #[.bool false, .string ⟨#[]⟩, .string t, .int .i64 e] 24); simpa only [size_al] using this
          have B0 : Below w.heap.size w (w.alloc (Obj.cells #[.bool false, .string ⟨#[]⟩, .string t, .int .i64 e] 24)) := ((Below.refl _ _).alloc (by first | omega | (simp only [size_al]; omega)) _)
          go_enter Tryd.func22, Tryd.ntmps22
          go_wp2_with fail
          refine (n_check _ true H1.out _).mono ?_
          rintro r w' ⟨rfl, rfl⟩
          go_wp2_with fail
          refine (n_check t true H2.out _).mono ?_
          rintro r w' ⟨rfl, rfl⟩
          go_wp2_with fail
          refine (withinx e 1048576 true (by decide) (by decide) HG.out _).mono ?_
          rintro r w1 ⟨rfl, b1⟩
          have B1 : Below w.heap.size w w1 := btr B0 b1
          have Rx_1 : w1.heap[w.heap.size]? = some (Obj.cells #[.bool false, .string ⟨#[]⟩, .string t, .int .i64 e] 24) := heap_of b1 _ _ _ Rx_0
          clear b1 B0 Rx_0
          have cx_1_0 := cells4 Rx_1 0 _ rfl
          have cx_1_1 := cells4 Rx_1 1 _ rfl
          have cx_1_2 := cells4 Rx_1 2 _ rfl
          have cx_1_3 := cells4 Rx_1 3 _ rfl
          go_wp2_with fail
          obtain ⟨F, hF1, hF2⟩ := below_fun w1
          have fx_0 := fun u => cells4 (heap_of (hF1 u) _ _ _ Rx_1) 0 _ rfl
          have fx_1 := fun u => cells4 (heap_of (hF1 u) _ _ _ Rx_1) 1 _ rfl
          have fx_2 := fun u => cells4 (heap_of (hF1 u) _ _ _ Rx_1) 2 _ rfl
          have fx_3 := fun u => cells4 (heap_of (hF1 u) _ _ _ Rx_1) 3 _ rfl
          have TF : Box (∀ u, TabAt (F u)) := box (fun u => tabB TT.out (btr B1 (hF1 u)))
          refine wp_region_below F hF2 (by kernel_rfl) (by kernel_rfl) ?_
          repeat first | go_big_quiet_step (first | (go_at_call 27; exact quietF hF1 hF2 (zerox _)) | (go_at_call 31; exact quietF hF1 hF2 (oddx 0 _ false HS.out LN.out OD.out _ (TF.out _))) | fail) | quiet_step (first | (go_at_call 27; exact quietF hF1 hF2 (zerox _)) | (go_at_call 31; exact quietF hF1 hF2 (oddx 0 _ false HS.out LN.out OD.out _ (TF.out _))) | fail)
          refine wpQuiet_nil ?_
          rintro _ ⟨uW, rfl⟩
          have B2 := btr B1 (hF1 uW)
          have Rx_2 := heap_of (hF1 uW) _ _ _ Rx_1
          obtain ⟨w2, hw⟩ : ∃ V, F uW = V := ⟨_, rfl⟩
          rw [hw] at B2 Rx_2
          try rw [hw]
          clear hw hF1 hF2 B1 fx_0 fx_1 fx_2 fx_3 Rx_1 cx_1_0 cx_1_1 cx_1_2 cx_1_3
          clear TF
          clear F
          have cx_2_0 := cells4 Rx_2 0 _ rfl
          have cx_2_1 := cells4 Rx_2 1 _ rfl
          have cx_2_2 := cells4 Rx_2 2 _ rfl
          have cx_2_3 := cells4 Rx_2 3 _ rfl
          go_wp2
          go_ret
          exact ⟨rfl, B2⟩
      · have eo : o = false := by cases o; rfl; exact absurd (ho2.1 rfl).2.1 d1
        subst eo
        rw [decide_eq_false d1] at e1
        clear ho2 d1 ez
        have Rx_0 : (w.alloc (Obj.cells #[.bool false, .string ⟨#[]⟩, .string t, .int .i64 e] 24)).heap[w.heap.size]? = some (Obj.cells #[.bool false, .string ⟨#[]⟩, .string t, .int .i64 e] 24) := by have := heap_alloc_last w (Obj.cells #[.bool false, .string ⟨#[]⟩, .string t, .int .i64 e] 24); simpa only [size_al] using this
        have B0 : Below w.heap.size w (w.alloc (Obj.cells #[.bool false, .string ⟨#[]⟩, .string t, .int .i64 e] 24)) := ((Below.refl _ _).alloc (by first | omega | (simp only [size_al]; omega)) _)
        go_enter Tryd.func22, Tryd.ntmps22
        go_wp2_with fail
        refine (n_check _ true H1.out _).mono ?_
        rintro r w' ⟨rfl, rfl⟩
        go_wp2_with fail
        refine (n_check t true H2.out _).mono ?_
        rintro r w' ⟨rfl, rfl⟩
        go_wp2_with fail
        refine (withinx e 1048576 true (by decide) (by decide) HG.out _).mono ?_
        rintro r w1 ⟨rfl, b1⟩
        have B1 : Below w.heap.size w w1 := btr B0 b1
        have Rx_1 : w1.heap[w.heap.size]? = some (Obj.cells #[.bool false, .string ⟨#[]⟩, .string t, .int .i64 e] 24) := heap_of b1 _ _ _ Rx_0
        clear b1 B0 Rx_0
        have cx_1_0 := cells4 Rx_1 0 _ rfl
        have cx_1_1 := cells4 Rx_1 1 _ rfl
        have cx_1_2 := cells4 Rx_1 2 _ rfl
        have cx_1_3 := cells4 Rx_1 3 _ rfl
        go_wp2_with fail
        obtain ⟨F, hF1, hF2⟩ := below_fun w1
        have fx_0 := fun u => cells4 (heap_of (hF1 u) _ _ _ Rx_1) 0 _ rfl
        have fx_1 := fun u => cells4 (heap_of (hF1 u) _ _ _ Rx_1) 1 _ rfl
        have fx_2 := fun u => cells4 (heap_of (hF1 u) _ _ _ Rx_1) 2 _ rfl
        have fx_3 := fun u => cells4 (heap_of (hF1 u) _ _ _ Rx_1) 3 _ rfl
        have TF : Box (∀ u, TabAt (F u)) := box (fun u => tabB TT.out (btr B1 (hF1 u)))
        refine wp_region_below F hF2 (by kernel_rfl) (by kernel_rfl) ?_
        repeat first | go_big_quiet_step (first | (go_at_call 27; exact quietF hF1 hF2 (zerox _)) | (go_at_call 31; exact quietF hF1 hF2 (oddx 0 _ false HS.out LN.out OD.out _ (TF.out _))) | fail) | quiet_step (first | (go_at_call 27; exact quietF hF1 hF2 (zerox _)) | (go_at_call 31; exact quietF hF1 hF2 (oddx 0 _ false HS.out LN.out OD.out _ (TF.out _))) | fail)
        refine wpQuiet_nil ?_
        rintro _ ⟨uW, rfl⟩
        have B2 := btr B1 (hF1 uW)
        have Rx_2 := heap_of (hF1 uW) _ _ _ Rx_1
        obtain ⟨w2, hw⟩ : ∃ V, F uW = V := ⟨_, rfl⟩
        rw [hw] at B2 Rx_2
        try rw [hw]
        clear hw hF1 hF2 B1 fx_0 fx_1 fx_2 fx_3 Rx_1 cx_1_0 cx_1_1 cx_1_2 cx_1_3
        clear TF
        clear F
        have cx_2_0 := cells4 Rx_2 0 _ rfl
        have cx_2_1 := cells4 Rx_2 1 _ rfl
        have cx_2_2 := cells4 Rx_2 2 _ rfl
        have cx_2_3 := cells4 Rx_2 3 _ rfl
        go_wp2
        go_ret
        exact ⟨rfl, B2⟩
    · have eo : o = false := by cases o; rfl; exact absurd (ho2.1 rfl).1 (by decide)
      subst eo
      clear ho2 e1 ez
      have Rx_0 : (w.alloc (Obj.cells #[.bool true, .string ⟨#[]⟩, .string t, .int .i64 e] 24)).heap[w.heap.size]? = some (Obj.cells #[.bool true, .string ⟨#[]⟩, .string t, .int .i64 e] 24) := by have := heap_alloc_last w (Obj.cells #[.bool true, .string ⟨#[]⟩, .string t, .int .i64 e] 24); simpa only [size_al] using this
      have B0 : Below w.heap.size w (w.alloc (Obj.cells #[.bool true, .string ⟨#[]⟩, .string t, .int .i64 e] 24)) := ((Below.refl _ _).alloc (by first | omega | (simp only [size_al]; omega)) _)
      go_enter Tryd.func22, Tryd.ntmps22
      go_wp2_with fail
      refine (n_check _ true H1.out _).mono ?_
      rintro r w' ⟨rfl, rfl⟩
      go_wp2_with fail
      refine (n_check t true H2.out _).mono ?_
      rintro r w' ⟨rfl, rfl⟩
      go_wp2_with fail
      refine (withinx e 1048576 true (by decide) (by decide) HG.out _).mono ?_
      rintro r w1 ⟨rfl, b1⟩
      have B1 : Below w.heap.size w w1 := btr B0 b1
      have Rx_1 : w1.heap[w.heap.size]? = some (Obj.cells #[.bool true, .string ⟨#[]⟩, .string t, .int .i64 e] 24) := heap_of b1 _ _ _ Rx_0
      clear b1 B0 Rx_0
      have cx_1_0 := cells4 Rx_1 0 _ rfl
      have cx_1_1 := cells4 Rx_1 1 _ rfl
      have cx_1_2 := cells4 Rx_1 2 _ rfl
      have cx_1_3 := cells4 Rx_1 3 _ rfl
      go_wp2_with fail
      obtain ⟨F, hF1, hF2⟩ := below_fun w1
      have fx_0 := fun u => cells4 (heap_of (hF1 u) _ _ _ Rx_1) 0 _ rfl
      have fx_1 := fun u => cells4 (heap_of (hF1 u) _ _ _ Rx_1) 1 _ rfl
      have fx_2 := fun u => cells4 (heap_of (hF1 u) _ _ _ Rx_1) 2 _ rfl
      have fx_3 := fun u => cells4 (heap_of (hF1 u) _ _ _ Rx_1) 3 _ rfl
      have TF : Box (∀ u, TabAt (F u)) := box (fun u => tabB TT.out (btr B1 (hF1 u)))
      refine wp_region_below F hF2 (by kernel_rfl) (by kernel_rfl) ?_
      repeat first | go_big_quiet_step (first | (go_at_call 27; exact quietF hF1 hF2 (zerox _)) | (go_at_call 31; exact quietF hF1 hF2 (oddx 0 _ false HS.out LN.out OD.out _ (TF.out _))) | fail) | quiet_step (first | (go_at_call 27; exact quietF hF1 hF2 (zerox _)) | (go_at_call 31; exact quietF hF1 hF2 (oddx 0 _ false HS.out LN.out OD.out _ (TF.out _))) | fail)
      refine wpQuiet_nil ?_
      rintro _ ⟨uW, rfl⟩
      have B2 := btr B1 (hF1 uW)
      have Rx_2 := heap_of (hF1 uW) _ _ _ Rx_1
      obtain ⟨w2, hw⟩ : ∃ V, F uW = V := ⟨_, rfl⟩
      rw [hw] at B2 Rx_2
      try rw [hw]
      clear hw hF1 hF2 B1 fx_0 fx_1 fx_2 fx_3 Rx_1 cx_1_0 cx_1_1 cx_1_2 cx_1_3
      clear TF
      clear F
      have cx_2_0 := cells4 Rx_2 0 _ rfl
      have cx_2_1 := cells4 Rx_2 1 _ rfl
      have cx_2_2 := cells4 Rx_2 2 _ rfl
      have cx_2_3 := cells4 Rx_2 3 _ rfl
      go_wp2
      go_ret
      exact ⟨rfl, B2⟩
  · have e0 := eq_nil n s hs h0
    have ho2 : o = true ↔ (n % 2 = 1 ∧ d % 2 = 1 ∧ Nat.gcd n d = 1) := by
      rw [ho]
      constructor
      · rintro ⟨_, _, h | h⟩
        · exact absurd h.2.1 h0
        · exact h
      · intro h
        exact ⟨hr.1, hr.2, Or.inr h⟩
    obtain ⟨p, hp⟩ : ∃ p, decide (n % 2 = 1) = p := ⟨_, rfl⟩
    obtain ⟨q, hq⟩ : ∃ p, decide (d % 2 = 1) = p := ⟨_, rfl⟩
    have HP := box hp
    have HQ := box hq
    clear ho hs ht ln ld hr h0
    cases p
    · have eo : o = false := by cases o; rfl; rw [decide_eq_true (ho2.1 rfl).1] at hp; exact hp
      subst eo
      clear ho2 hp hq
      cases b
      · have Rx_0 : (w.alloc (Obj.cells #[.bool false, .string s, .string t, .int .i64 e] 24)).heap[w.heap.size]? = some (Obj.cells #[.bool false, .string s, .string t, .int .i64 e] 24) := by have := heap_alloc_last w (Obj.cells #[.bool false, .string s, .string t, .int .i64 e] 24); simpa only [size_al] using this
        have B0 : Below w.heap.size w (w.alloc (Obj.cells #[.bool false, .string s, .string t, .int .i64 e] 24)) := ((Below.refl _ _).alloc (by first | omega | (simp only [size_al]; omega)) _)
        go_enter Tryd.func22, Tryd.ntmps22
        go_wp2_with fail
        refine (n_check _ true H1.out _).mono ?_
        rintro r w' ⟨rfl, rfl⟩
        go_wp2_with fail
        refine (n_check t true H2.out _).mono ?_
        rintro r w' ⟨rfl, rfl⟩
        go_wp2_with fail
        refine (withinx e 1048576 true (by decide) (by decide) HG.out _).mono ?_
        rintro r w1 ⟨rfl, b1⟩
        have B1 : Below w.heap.size w w1 := btr B0 b1
        have Rx_1 : w1.heap[w.heap.size]? = some (Obj.cells #[.bool false, .string s, .string t, .int .i64 e] 24) := heap_of b1 _ _ _ Rx_0
        clear b1 B0 Rx_0
        have cx_1_0 := cells4 Rx_1 0 _ rfl
        have cx_1_1 := cells4 Rx_1 1 _ rfl
        have cx_1_2 := cells4 Rx_1 2 _ rfl
        have cx_1_3 := cells4 Rx_1 3 _ rfl
        go_wp2_with fail
        obtain ⟨F, hF1, hF2⟩ := below_fun w1
        have fx_0 := fun u => cells4 (heap_of (hF1 u) _ _ _ Rx_1) 0 _ rfl
        have fx_1 := fun u => cells4 (heap_of (hF1 u) _ _ _ Rx_1) 1 _ rfl
        have fx_2 := fun u => cells4 (heap_of (hF1 u) _ _ _ Rx_1) 2 _ rfl
        have fx_3 := fun u => cells4 (heap_of (hF1 u) _ _ _ Rx_1) 3 _ rfl
        have TF : Box (∀ u, TabAt (F u)) := box (fun u => tabB TT.out (btr B1 (hF1 u)))
        refine wp_region_below F hF2 (by kernel_rfl) (by kernel_rfl) ?_
        repeat first | go_big_quiet_step (first | (go_at_call 27; exact quietF hF1 hF2 (zerox _)) | (go_at_call_of 31 (Value.string s); exact quietF hF1 hF2 (oddx n s false HS.out LN.out HP.out _ (TF.out _))) | fail) | quiet_step (first | (go_at_call 27; exact quietF hF1 hF2 (zerox _)) | (go_at_call_of 31 (Value.string s); exact quietF hF1 hF2 (oddx n s false HS.out LN.out HP.out _ (TF.out _))) | fail)
        refine wpQuiet_nil ?_
        rintro _ ⟨uW, rfl⟩
        have B2 := btr B1 (hF1 uW)
        have Rx_2 := heap_of (hF1 uW) _ _ _ Rx_1
        obtain ⟨w2, hw⟩ : ∃ V, F uW = V := ⟨_, rfl⟩
        rw [hw] at B2 Rx_2
        try rw [hw]
        clear hw hF1 hF2 B1 fx_0 fx_1 fx_2 fx_3 Rx_1 cx_1_0 cx_1_1 cx_1_2 cx_1_3
        clear TF
        clear F
        have cx_2_0 := cells4 Rx_2 0 _ rfl
        have cx_2_1 := cells4 Rx_2 1 _ rfl
        have cx_2_2 := cells4 Rx_2 2 _ rfl
        have cx_2_3 := cells4 Rx_2 3 _ rfl
        go_wp2
        go_ret
        exact ⟨rfl, B2⟩
      · have Rx_0 : (w.alloc (Obj.cells #[.bool true, .string s, .string t, .int .i64 e] 24)).heap[w.heap.size]? = some (Obj.cells #[.bool true, .string s, .string t, .int .i64 e] 24) := by have := heap_alloc_last w (Obj.cells #[.bool true, .string s, .string t, .int .i64 e] 24); simpa only [size_al] using this
        have B0 : Below w.heap.size w (w.alloc (Obj.cells #[.bool true, .string s, .string t, .int .i64 e] 24)) := ((Below.refl _ _).alloc (by first | omega | (simp only [size_al]; omega)) _)
        go_enter Tryd.func22, Tryd.ntmps22
        go_wp2_with fail
        refine (n_check _ true H1.out _).mono ?_
        rintro r w' ⟨rfl, rfl⟩
        go_wp2_with fail
        refine (n_check t true H2.out _).mono ?_
        rintro r w' ⟨rfl, rfl⟩
        go_wp2_with fail
        refine (withinx e 1048576 true (by decide) (by decide) HG.out _).mono ?_
        rintro r w1 ⟨rfl, b1⟩
        have B1 : Below w.heap.size w w1 := btr B0 b1
        have Rx_1 : w1.heap[w.heap.size]? = some (Obj.cells #[.bool true, .string s, .string t, .int .i64 e] 24) := heap_of b1 _ _ _ Rx_0
        clear b1 B0 Rx_0
        have cx_1_0 := cells4 Rx_1 0 _ rfl
        have cx_1_1 := cells4 Rx_1 1 _ rfl
        have cx_1_2 := cells4 Rx_1 2 _ rfl
        have cx_1_3 := cells4 Rx_1 3 _ rfl
        go_wp2_with fail
        obtain ⟨F, hF1, hF2⟩ := below_fun w1
        have fx_0 := fun u => cells4 (heap_of (hF1 u) _ _ _ Rx_1) 0 _ rfl
        have fx_1 := fun u => cells4 (heap_of (hF1 u) _ _ _ Rx_1) 1 _ rfl
        have fx_2 := fun u => cells4 (heap_of (hF1 u) _ _ _ Rx_1) 2 _ rfl
        have fx_3 := fun u => cells4 (heap_of (hF1 u) _ _ _ Rx_1) 3 _ rfl
        have TF : Box (∀ u, TabAt (F u)) := box (fun u => tabB TT.out (btr B1 (hF1 u)))
        refine wp_region_below F hF2 (by kernel_rfl) (by kernel_rfl) ?_
        repeat first | go_big_quiet_step (first | (go_at_call 27; exact quietF hF1 hF2 (zerox _)) | (go_at_call_of 31 (Value.string s); exact quietF hF1 hF2 (oddx n s false HS.out LN.out HP.out _ (TF.out _))) | fail) | quiet_step (first | (go_at_call 27; exact quietF hF1 hF2 (zerox _)) | (go_at_call_of 31 (Value.string s); exact quietF hF1 hF2 (oddx n s false HS.out LN.out HP.out _ (TF.out _))) | fail)
        refine wpQuiet_nil ?_
        rintro _ ⟨uW, rfl⟩
        have B2 := btr B1 (hF1 uW)
        have Rx_2 := heap_of (hF1 uW) _ _ _ Rx_1
        obtain ⟨w2, hw⟩ : ∃ V, F uW = V := ⟨_, rfl⟩
        rw [hw] at B2 Rx_2
        try rw [hw]
        clear hw hF1 hF2 B1 fx_0 fx_1 fx_2 fx_3 Rx_1 cx_1_0 cx_1_1 cx_1_2 cx_1_3
        clear TF
        clear F
        have cx_2_0 := cells4 Rx_2 0 _ rfl
        have cx_2_1 := cells4 Rx_2 1 _ rfl
        have cx_2_2 := cells4 Rx_2 2 _ rfl
        have cx_2_3 := cells4 Rx_2 3 _ rfl
        go_wp2
        go_ret
        exact ⟨rfl, B2⟩
    cases q
    · have eo : o = false := by cases o; rfl; rw [decide_eq_true (ho2.1 rfl).2.1] at hq; exact hq
      subst eo
      clear ho2 hp hq
      cases b
      · have Rx_0 : (w.alloc (Obj.cells #[.bool false, .string s, .string t, .int .i64 e] 24)).heap[w.heap.size]? = some (Obj.cells #[.bool false, .string s, .string t, .int .i64 e] 24) := by have := heap_alloc_last w (Obj.cells #[.bool false, .string s, .string t, .int .i64 e] 24); simpa only [size_al] using this
        have B0 : Below w.heap.size w (w.alloc (Obj.cells #[.bool false, .string s, .string t, .int .i64 e] 24)) := ((Below.refl _ _).alloc (by first | omega | (simp only [size_al]; omega)) _)
        go_enter Tryd.func22, Tryd.ntmps22
        go_wp2_with fail
        refine (n_check _ true H1.out _).mono ?_
        rintro r w' ⟨rfl, rfl⟩
        go_wp2_with fail
        refine (n_check t true H2.out _).mono ?_
        rintro r w' ⟨rfl, rfl⟩
        go_wp2_with fail
        refine (withinx e 1048576 true (by decide) (by decide) HG.out _).mono ?_
        rintro r w1 ⟨rfl, b1⟩
        have B1 : Below w.heap.size w w1 := btr B0 b1
        have Rx_1 : w1.heap[w.heap.size]? = some (Obj.cells #[.bool false, .string s, .string t, .int .i64 e] 24) := heap_of b1 _ _ _ Rx_0
        clear b1 B0 Rx_0
        have cx_1_0 := cells4 Rx_1 0 _ rfl
        have cx_1_1 := cells4 Rx_1 1 _ rfl
        have cx_1_2 := cells4 Rx_1 2 _ rfl
        have cx_1_3 := cells4 Rx_1 3 _ rfl
        go_wp2_with fail
        obtain ⟨F, hF1, hF2⟩ := below_fun w1
        have fx_0 := fun u => cells4 (heap_of (hF1 u) _ _ _ Rx_1) 0 _ rfl
        have fx_1 := fun u => cells4 (heap_of (hF1 u) _ _ _ Rx_1) 1 _ rfl
        have fx_2 := fun u => cells4 (heap_of (hF1 u) _ _ _ Rx_1) 2 _ rfl
        have fx_3 := fun u => cells4 (heap_of (hF1 u) _ _ _ Rx_1) 3 _ rfl
        have TF : Box (∀ u, TabAt (F u)) := box (fun u => tabB TT.out (btr B1 (hF1 u)))
        refine wp_region_below F hF2 (by kernel_rfl) (by kernel_rfl) ?_
        repeat first | go_big_quiet_step (first | (go_at_call 27; exact quietF hF1 hF2 (zerox _)) | (go_at_call_of 31 (Value.string s); exact quietF hF1 hF2 (oddx n s true HS.out LN.out HP.out _ (TF.out _))) | (go_at_call_of 31 (Value.string t); exact quietF hF1 hF2 (oddx d t false HT.out LD.out HQ.out _ (TF.out _))) | fail) | quiet_step (first | (go_at_call 27; exact quietF hF1 hF2 (zerox _)) | (go_at_call_of 31 (Value.string s); exact quietF hF1 hF2 (oddx n s true HS.out LN.out HP.out _ (TF.out _))) | (go_at_call_of 31 (Value.string t); exact quietF hF1 hF2 (oddx d t false HT.out LD.out HQ.out _ (TF.out _))) | fail)
        refine wpQuiet_nil ?_
        rintro _ ⟨uW, rfl⟩
        have B2 := btr B1 (hF1 uW)
        have Rx_2 := heap_of (hF1 uW) _ _ _ Rx_1
        obtain ⟨w2, hw⟩ : ∃ V, F uW = V := ⟨_, rfl⟩
        rw [hw] at B2 Rx_2
        try rw [hw]
        clear hw hF1 hF2 B1 fx_0 fx_1 fx_2 fx_3 Rx_1 cx_1_0 cx_1_1 cx_1_2 cx_1_3
        clear TF
        clear F
        have cx_2_0 := cells4 Rx_2 0 _ rfl
        have cx_2_1 := cells4 Rx_2 1 _ rfl
        have cx_2_2 := cells4 Rx_2 2 _ rfl
        have cx_2_3 := cells4 Rx_2 3 _ rfl
        go_wp2
        go_ret
        exact ⟨rfl, B2⟩
      · have Rx_0 : (w.alloc (Obj.cells #[.bool true, .string s, .string t, .int .i64 e] 24)).heap[w.heap.size]? = some (Obj.cells #[.bool true, .string s, .string t, .int .i64 e] 24) := by have := heap_alloc_last w (Obj.cells #[.bool true, .string s, .string t, .int .i64 e] 24); simpa only [size_al] using this
        have B0 : Below w.heap.size w (w.alloc (Obj.cells #[.bool true, .string s, .string t, .int .i64 e] 24)) := ((Below.refl _ _).alloc (by first | omega | (simp only [size_al]; omega)) _)
        go_enter Tryd.func22, Tryd.ntmps22
        go_wp2_with fail
        refine (n_check _ true H1.out _).mono ?_
        rintro r w' ⟨rfl, rfl⟩
        go_wp2_with fail
        refine (n_check t true H2.out _).mono ?_
        rintro r w' ⟨rfl, rfl⟩
        go_wp2_with fail
        refine (withinx e 1048576 true (by decide) (by decide) HG.out _).mono ?_
        rintro r w1 ⟨rfl, b1⟩
        have B1 : Below w.heap.size w w1 := btr B0 b1
        have Rx_1 : w1.heap[w.heap.size]? = some (Obj.cells #[.bool true, .string s, .string t, .int .i64 e] 24) := heap_of b1 _ _ _ Rx_0
        clear b1 B0 Rx_0
        have cx_1_0 := cells4 Rx_1 0 _ rfl
        have cx_1_1 := cells4 Rx_1 1 _ rfl
        have cx_1_2 := cells4 Rx_1 2 _ rfl
        have cx_1_3 := cells4 Rx_1 3 _ rfl
        go_wp2_with fail
        obtain ⟨F, hF1, hF2⟩ := below_fun w1
        have fx_0 := fun u => cells4 (heap_of (hF1 u) _ _ _ Rx_1) 0 _ rfl
        have fx_1 := fun u => cells4 (heap_of (hF1 u) _ _ _ Rx_1) 1 _ rfl
        have fx_2 := fun u => cells4 (heap_of (hF1 u) _ _ _ Rx_1) 2 _ rfl
        have fx_3 := fun u => cells4 (heap_of (hF1 u) _ _ _ Rx_1) 3 _ rfl
        have TF : Box (∀ u, TabAt (F u)) := box (fun u => tabB TT.out (btr B1 (hF1 u)))
        refine wp_region_below F hF2 (by kernel_rfl) (by kernel_rfl) ?_
        repeat first | go_big_quiet_step (first | (go_at_call 27; exact quietF hF1 hF2 (zerox _)) | (go_at_call_of 31 (Value.string s); exact quietF hF1 hF2 (oddx n s true HS.out LN.out HP.out _ (TF.out _))) | (go_at_call_of 31 (Value.string t); exact quietF hF1 hF2 (oddx d t false HT.out LD.out HQ.out _ (TF.out _))) | fail) | quiet_step (first | (go_at_call 27; exact quietF hF1 hF2 (zerox _)) | (go_at_call_of 31 (Value.string s); exact quietF hF1 hF2 (oddx n s true HS.out LN.out HP.out _ (TF.out _))) | (go_at_call_of 31 (Value.string t); exact quietF hF1 hF2 (oddx d t false HT.out LD.out HQ.out _ (TF.out _))) | fail)
        refine wpQuiet_nil ?_
        rintro _ ⟨uW, rfl⟩
        have B2 := btr B1 (hF1 uW)
        have Rx_2 := heap_of (hF1 uW) _ _ _ Rx_1
        obtain ⟨w2, hw⟩ : ∃ V, F uW = V := ⟨_, rfl⟩
        rw [hw] at B2 Rx_2
        try rw [hw]
        clear hw hF1 hF2 B1 fx_0 fx_1 fx_2 fx_3 Rx_1 cx_1_0 cx_1_1 cx_1_2 cx_1_3
        clear TF
        clear F
        have cx_2_0 := cells4 Rx_2 0 _ rfl
        have cx_2_1 := cells4 Rx_2 1 _ rfl
        have cx_2_2 := cells4 Rx_2 2 _ rfl
        have cx_2_3 := cells4 Rx_2 3 _ rfl
        go_wp2
        go_ret
        exact ⟨rfl, B2⟩
    · have eo : decide (Nat.gcd n d = 1) = o := by
        rw [Bool.eq_iff_iff, ho2, decide_eq_true_iff]
        exact ⟨fun h => ⟨of_decide_eq_true hp, of_decide_eq_true hq, h⟩, fun h => h.2.2⟩
      have HO := box eo
      clear ho2 hp hq eo
      cases b
      · cases o
        · have Rx_0 : (w.alloc (Obj.cells #[.bool false, .string s, .string t, .int .i64 e] 24)).heap[w.heap.size]? = some (Obj.cells #[.bool false, .string s, .string t, .int .i64 e] 24) := by have := heap_alloc_last w (Obj.cells #[.bool false, .string s, .string t, .int .i64 e] 24); simpa only [size_al] using this
          have B0 : Below w.heap.size w (w.alloc (Obj.cells #[.bool false, .string s, .string t, .int .i64 e] 24)) := ((Below.refl _ _).alloc (by first | omega | (simp only [size_al]; omega)) _)
          go_enter Tryd.func22, Tryd.ntmps22
          go_wp2_with fail
          refine (n_check _ true H1.out _).mono ?_
          rintro r w' ⟨rfl, rfl⟩
          go_wp2_with fail
          refine (n_check t true H2.out _).mono ?_
          rintro r w' ⟨rfl, rfl⟩
          go_wp2_with fail
          refine (withinx e 1048576 true (by decide) (by decide) HG.out _).mono ?_
          rintro r w1 ⟨rfl, b1⟩
          have B1 : Below w.heap.size w w1 := btr B0 b1
          have Rx_1 : w1.heap[w.heap.size]? = some (Obj.cells #[.bool false, .string s, .string t, .int .i64 e] 24) := heap_of b1 _ _ _ Rx_0
          clear b1 B0 Rx_0
          have cx_1_0 := cells4 Rx_1 0 _ rfl
          have cx_1_1 := cells4 Rx_1 1 _ rfl
          have cx_1_2 := cells4 Rx_1 2 _ rfl
          have cx_1_3 := cells4 Rx_1 3 _ rfl
          go_wp2_with fail
          obtain ⟨F, hF1, hF2⟩ := below_fun w1
          have fx_0 := fun u => cells4 (heap_of (hF1 u) _ _ _ Rx_1) 0 _ rfl
          have fx_1 := fun u => cells4 (heap_of (hF1 u) _ _ _ Rx_1) 1 _ rfl
          have fx_2 := fun u => cells4 (heap_of (hF1 u) _ _ _ Rx_1) 2 _ rfl
          have fx_3 := fun u => cells4 (heap_of (hF1 u) _ _ _ Rx_1) 3 _ rfl
          have TF : Box (∀ u, TabAt (F u)) := box (fun u => tabB TT.out (btr B1 (hF1 u)))
          refine wp_region_below F hF2 (by kernel_rfl) (by kernel_rfl) ?_
          repeat first | go_big_quiet_step (first | (go_at_call 27; exact quietF hF1 hF2 (zerox _)) | (go_at_call_of 31 (Value.string s); exact quietF hF1 hF2 (oddx n s true HS.out LN.out HP.out _ (TF.out _))) | (go_at_call_of 31 (Value.string t); exact quietF hF1 hF2 (oddx d t true HT.out LD.out HQ.out _ (TF.out _))) | (go_at_call 32; exact quietF hF1 hF2 (apartx n d s t false HS.out HT.out LN.out LD.out HO.out _)) | fail) | quiet_step (first | (go_at_call 27; exact quietF hF1 hF2 (zerox _)) | (go_at_call_of 31 (Value.string s); exact quietF hF1 hF2 (oddx n s true HS.out LN.out HP.out _ (TF.out _))) | (go_at_call_of 31 (Value.string t); exact quietF hF1 hF2 (oddx d t true HT.out LD.out HQ.out _ (TF.out _))) | (go_at_call 32; exact quietF hF1 hF2 (apartx n d s t false HS.out HT.out LN.out LD.out HO.out _)) | fail)
          refine wpQuiet_nil ?_
          rintro _ ⟨uW, rfl⟩
          have B2 := btr B1 (hF1 uW)
          have Rx_2 := heap_of (hF1 uW) _ _ _ Rx_1
          obtain ⟨w2, hw⟩ : ∃ V, F uW = V := ⟨_, rfl⟩
          rw [hw] at B2 Rx_2
          try rw [hw]
          clear hw hF1 hF2 B1 fx_0 fx_1 fx_2 fx_3 Rx_1 cx_1_0 cx_1_1 cx_1_2 cx_1_3
          clear TF
          clear F
          have cx_2_0 := cells4 Rx_2 0 _ rfl
          have cx_2_1 := cells4 Rx_2 1 _ rfl
          have cx_2_2 := cells4 Rx_2 2 _ rfl
          have cx_2_3 := cells4 Rx_2 3 _ rfl
          go_wp2
          go_ret
          exact ⟨rfl, B2⟩
        · have Rx_0 : (w.alloc (Obj.cells #[.bool false, .string s, .string t, .int .i64 e] 24)).heap[w.heap.size]? = some (Obj.cells #[.bool false, .string s, .string t, .int .i64 e] 24) := by have := heap_alloc_last w (Obj.cells #[.bool false, .string s, .string t, .int .i64 e] 24); simpa only [size_al] using this
          have B0 : Below w.heap.size w (w.alloc (Obj.cells #[.bool false, .string s, .string t, .int .i64 e] 24)) := ((Below.refl _ _).alloc (by first | omega | (simp only [size_al]; omega)) _)
          go_enter Tryd.func22, Tryd.ntmps22
          go_wp2_with fail
          refine (n_check _ true H1.out _).mono ?_
          rintro r w' ⟨rfl, rfl⟩
          go_wp2_with fail
          refine (n_check t true H2.out _).mono ?_
          rintro r w' ⟨rfl, rfl⟩
          go_wp2_with fail
          refine (withinx e 1048576 true (by decide) (by decide) HG.out _).mono ?_
          rintro r w1 ⟨rfl, b1⟩
          have B1 : Below w.heap.size w w1 := btr B0 b1
          have Rx_1 : w1.heap[w.heap.size]? = some (Obj.cells #[.bool false, .string s, .string t, .int .i64 e] 24) := heap_of b1 _ _ _ Rx_0
          clear b1 B0 Rx_0
          have cx_1_0 := cells4 Rx_1 0 _ rfl
          have cx_1_1 := cells4 Rx_1 1 _ rfl
          have cx_1_2 := cells4 Rx_1 2 _ rfl
          have cx_1_3 := cells4 Rx_1 3 _ rfl
          go_wp2_with fail
          obtain ⟨F, hF1, hF2⟩ := below_fun w1
          have fx_0 := fun u => cells4 (heap_of (hF1 u) _ _ _ Rx_1) 0 _ rfl
          have fx_1 := fun u => cells4 (heap_of (hF1 u) _ _ _ Rx_1) 1 _ rfl
          have fx_2 := fun u => cells4 (heap_of (hF1 u) _ _ _ Rx_1) 2 _ rfl
          have fx_3 := fun u => cells4 (heap_of (hF1 u) _ _ _ Rx_1) 3 _ rfl
          have TF : Box (∀ u, TabAt (F u)) := box (fun u => tabB TT.out (btr B1 (hF1 u)))
          refine wp_region_below F hF2 (by kernel_rfl) (by kernel_rfl) ?_
          repeat first | go_big_quiet_step (first | (go_at_call 27; exact quietF hF1 hF2 (zerox _)) | (go_at_call_of 31 (Value.string s); exact quietF hF1 hF2 (oddx n s true HS.out LN.out HP.out _ (TF.out _))) | (go_at_call_of 31 (Value.string t); exact quietF hF1 hF2 (oddx d t true HT.out LD.out HQ.out _ (TF.out _))) | (go_at_call 32; exact quietF hF1 hF2 (apartx n d s t true HS.out HT.out LN.out LD.out HO.out _)) | fail) | quiet_step (first | (go_at_call 27; exact quietF hF1 hF2 (zerox _)) | (go_at_call_of 31 (Value.string s); exact quietF hF1 hF2 (oddx n s true HS.out LN.out HP.out _ (TF.out _))) | (go_at_call_of 31 (Value.string t); exact quietF hF1 hF2 (oddx d t true HT.out LD.out HQ.out _ (TF.out _))) | (go_at_call 32; exact quietF hF1 hF2 (apartx n d s t true HS.out HT.out LN.out LD.out HO.out _)) | fail)
          refine wpQuiet_nil ?_
          rintro _ ⟨uW, rfl⟩
          have B2 := btr B1 (hF1 uW)
          have Rx_2 := heap_of (hF1 uW) _ _ _ Rx_1
          obtain ⟨w2, hw⟩ : ∃ V, F uW = V := ⟨_, rfl⟩
          rw [hw] at B2 Rx_2
          try rw [hw]
          clear hw hF1 hF2 B1 fx_0 fx_1 fx_2 fx_3 Rx_1 cx_1_0 cx_1_1 cx_1_2 cx_1_3
          clear TF
          clear F
          have cx_2_0 := cells4 Rx_2 0 _ rfl
          have cx_2_1 := cells4 Rx_2 1 _ rfl
          have cx_2_2 := cells4 Rx_2 2 _ rfl
          have cx_2_3 := cells4 Rx_2 3 _ rfl
          go_wp2
          go_ret
          exact ⟨rfl, B2⟩
      · cases o
        · have Rx_0 : (w.alloc (Obj.cells #[.bool true, .string s, .string t, .int .i64 e] 24)).heap[w.heap.size]? = some (Obj.cells #[.bool true, .string s, .string t, .int .i64 e] 24) := by have := heap_alloc_last w (Obj.cells #[.bool true, .string s, .string t, .int .i64 e] 24); simpa only [size_al] using this
          have B0 : Below w.heap.size w (w.alloc (Obj.cells #[.bool true, .string s, .string t, .int .i64 e] 24)) := ((Below.refl _ _).alloc (by first | omega | (simp only [size_al]; omega)) _)
          go_enter Tryd.func22, Tryd.ntmps22
          go_wp2_with fail
          refine (n_check _ true H1.out _).mono ?_
          rintro r w' ⟨rfl, rfl⟩
          go_wp2_with fail
          refine (n_check t true H2.out _).mono ?_
          rintro r w' ⟨rfl, rfl⟩
          go_wp2_with fail
          refine (withinx e 1048576 true (by decide) (by decide) HG.out _).mono ?_
          rintro r w1 ⟨rfl, b1⟩
          have B1 : Below w.heap.size w w1 := btr B0 b1
          have Rx_1 : w1.heap[w.heap.size]? = some (Obj.cells #[.bool true, .string s, .string t, .int .i64 e] 24) := heap_of b1 _ _ _ Rx_0
          clear b1 B0 Rx_0
          have cx_1_0 := cells4 Rx_1 0 _ rfl
          have cx_1_1 := cells4 Rx_1 1 _ rfl
          have cx_1_2 := cells4 Rx_1 2 _ rfl
          have cx_1_3 := cells4 Rx_1 3 _ rfl
          go_wp2_with fail
          obtain ⟨F, hF1, hF2⟩ := below_fun w1
          have fx_0 := fun u => cells4 (heap_of (hF1 u) _ _ _ Rx_1) 0 _ rfl
          have fx_1 := fun u => cells4 (heap_of (hF1 u) _ _ _ Rx_1) 1 _ rfl
          have fx_2 := fun u => cells4 (heap_of (hF1 u) _ _ _ Rx_1) 2 _ rfl
          have fx_3 := fun u => cells4 (heap_of (hF1 u) _ _ _ Rx_1) 3 _ rfl
          have TF : Box (∀ u, TabAt (F u)) := box (fun u => tabB TT.out (btr B1 (hF1 u)))
          refine wp_region_below F hF2 (by kernel_rfl) (by kernel_rfl) ?_
          repeat first | go_big_quiet_step (first | (go_at_call 27; exact quietF hF1 hF2 (zerox _)) | (go_at_call_of 31 (Value.string s); exact quietF hF1 hF2 (oddx n s true HS.out LN.out HP.out _ (TF.out _))) | (go_at_call_of 31 (Value.string t); exact quietF hF1 hF2 (oddx d t true HT.out LD.out HQ.out _ (TF.out _))) | (go_at_call 32; exact quietF hF1 hF2 (apartx n d s t false HS.out HT.out LN.out LD.out HO.out _)) | fail) | quiet_step (first | (go_at_call 27; exact quietF hF1 hF2 (zerox _)) | (go_at_call_of 31 (Value.string s); exact quietF hF1 hF2 (oddx n s true HS.out LN.out HP.out _ (TF.out _))) | (go_at_call_of 31 (Value.string t); exact quietF hF1 hF2 (oddx d t true HT.out LD.out HQ.out _ (TF.out _))) | (go_at_call 32; exact quietF hF1 hF2 (apartx n d s t false HS.out HT.out LN.out LD.out HO.out _)) | fail)
          refine wpQuiet_nil ?_
          rintro _ ⟨uW, rfl⟩
          have B2 := btr B1 (hF1 uW)
          have Rx_2 := heap_of (hF1 uW) _ _ _ Rx_1
          obtain ⟨w2, hw⟩ : ∃ V, F uW = V := ⟨_, rfl⟩
          rw [hw] at B2 Rx_2
          try rw [hw]
          clear hw hF1 hF2 B1 fx_0 fx_1 fx_2 fx_3 Rx_1 cx_1_0 cx_1_1 cx_1_2 cx_1_3
          clear TF
          clear F
          have cx_2_0 := cells4 Rx_2 0 _ rfl
          have cx_2_1 := cells4 Rx_2 1 _ rfl
          have cx_2_2 := cells4 Rx_2 2 _ rfl
          have cx_2_3 := cells4 Rx_2 3 _ rfl
          go_wp2
          go_ret
          exact ⟨rfl, B2⟩
        · have Rx_0 : (w.alloc (Obj.cells #[.bool true, .string s, .string t, .int .i64 e] 24)).heap[w.heap.size]? = some (Obj.cells #[.bool true, .string s, .string t, .int .i64 e] 24) := by have := heap_alloc_last w (Obj.cells #[.bool true, .string s, .string t, .int .i64 e] 24); simpa only [size_al] using this
          have B0 : Below w.heap.size w (w.alloc (Obj.cells #[.bool true, .string s, .string t, .int .i64 e] 24)) := ((Below.refl _ _).alloc (by first | omega | (simp only [size_al]; omega)) _)
          go_enter Tryd.func22, Tryd.ntmps22
          go_wp2_with fail
          refine (n_check _ true H1.out _).mono ?_
          rintro r w' ⟨rfl, rfl⟩
          go_wp2_with fail
          refine (n_check t true H2.out _).mono ?_
          rintro r w' ⟨rfl, rfl⟩
          go_wp2_with fail
          refine (withinx e 1048576 true (by decide) (by decide) HG.out _).mono ?_
          rintro r w1 ⟨rfl, b1⟩
          have B1 : Below w.heap.size w w1 := btr B0 b1
          have Rx_1 : w1.heap[w.heap.size]? = some (Obj.cells #[.bool true, .string s, .string t, .int .i64 e] 24) := heap_of b1 _ _ _ Rx_0
          clear b1 B0 Rx_0
          have cx_1_0 := cells4 Rx_1 0 _ rfl
          have cx_1_1 := cells4 Rx_1 1 _ rfl
          have cx_1_2 := cells4 Rx_1 2 _ rfl
          have cx_1_3 := cells4 Rx_1 3 _ rfl
          go_wp2_with fail
          obtain ⟨F, hF1, hF2⟩ := below_fun w1
          have fx_0 := fun u => cells4 (heap_of (hF1 u) _ _ _ Rx_1) 0 _ rfl
          have fx_1 := fun u => cells4 (heap_of (hF1 u) _ _ _ Rx_1) 1 _ rfl
          have fx_2 := fun u => cells4 (heap_of (hF1 u) _ _ _ Rx_1) 2 _ rfl
          have fx_3 := fun u => cells4 (heap_of (hF1 u) _ _ _ Rx_1) 3 _ rfl
          have TF : Box (∀ u, TabAt (F u)) := box (fun u => tabB TT.out (btr B1 (hF1 u)))
          refine wp_region_below F hF2 (by kernel_rfl) (by kernel_rfl) ?_
          repeat first | go_big_quiet_step (first | (go_at_call 27; exact quietF hF1 hF2 (zerox _)) | (go_at_call_of 31 (Value.string s); exact quietF hF1 hF2 (oddx n s true HS.out LN.out HP.out _ (TF.out _))) | (go_at_call_of 31 (Value.string t); exact quietF hF1 hF2 (oddx d t true HT.out LD.out HQ.out _ (TF.out _))) | (go_at_call 32; exact quietF hF1 hF2 (apartx n d s t true HS.out HT.out LN.out LD.out HO.out _)) | fail) | quiet_step (first | (go_at_call 27; exact quietF hF1 hF2 (zerox _)) | (go_at_call_of 31 (Value.string s); exact quietF hF1 hF2 (oddx n s true HS.out LN.out HP.out _ (TF.out _))) | (go_at_call_of 31 (Value.string t); exact quietF hF1 hF2 (oddx d t true HT.out LD.out HQ.out _ (TF.out _))) | (go_at_call 32; exact quietF hF1 hF2 (apartx n d s t true HS.out HT.out LN.out LD.out HO.out _)) | fail)
          refine wpQuiet_nil ?_
          rintro _ ⟨uW, rfl⟩
          have B2 := btr B1 (hF1 uW)
          have Rx_2 := heap_of (hF1 uW) _ _ _ Rx_1
          obtain ⟨w2, hw⟩ : ∃ V, F uW = V := ⟨_, rfl⟩
          rw [hw] at B2 Rx_2
          try rw [hw]
          clear hw hF1 hF2 B1 fx_0 fx_1 fx_2 fx_3 Rx_1 cx_1_0 cx_1_1 cx_1_2 cx_1_3
          clear TF
          clear F
          have cx_2_0 := cells4 Rx_2 0 _ rfl
          have cx_2_1 := cells4 Rx_2 1 _ rfl
          have cx_2_2 := cells4 Rx_2 2 _ rfl
          have cx_2_3 := cells4 Rx_2 3 _ rfl
          go_wp2
          go_ret
          exact ⟨rfl, B2⟩

end Go.Proofs.YtknkkagapcigfaaDoor
