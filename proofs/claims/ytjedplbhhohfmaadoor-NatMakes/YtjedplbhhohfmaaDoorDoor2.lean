/-
  What the functions Right and ToWide of package nat return.
-/
import Derived.Test.YtjedplbhhohfmaaDoorDoor1
namespace Go.Proofs.YtjedplbhhohfmaaDoor
open Go.RowKit WMath

theorem pn_right_no (n : Int) (s : ByteArray) (h : mayB s = false ∨ n < 0) (w : World) :
    Calls Tryd.prog 19 #[.string s, .int .i64 n] w fun r w' => r = .returned (.tuple #[.string ⟨#[]⟩, .bool false, .int .i64 2]) ∧ Below w.heap.size w w' := by
  obtain ⟨o, ho⟩ : ∃ o, mayB s = o := ⟨_, rfl⟩
  have HO := box ho
  cases o
  · clear h ho
    go_enter Tryd.func19, Tryd.ntmps19
    go_wp2_with fail
    refine (n_may1 s false HO.out _ w).mono ?_
    rintro r w0 ⟨rfl, rfl⟩
    go_wp2
    go_ret3
    exact ⟨rfl, bal _ _⟩
  · have h0 : n < 0 := by
      rcases h with h | h
      · rw [ho] at h; exact absurd h (by decide)
      · exact h
    have d0 : decide (n < 0) = true := decide_eq_true h0
    clear h ho
    go_enter Tryd.func19, Tryd.ntmps19
    go_wp2_with fail
    refine (n_may1 s true HO.out _ w).mono ?_
    rintro r w0 ⟨rfl, rfl⟩
    go_wp2
    go_ret3
    exact ⟨rfl, bal _ _⟩
set_option maxRecDepth 100000 in
theorem pn_right_ok (a : Nat) (n : Int) (s v : ByteArray) (o : Bool) (hs : nbA a = s) (ha : nl a ≤ 16384) (h0 : 0 ≤ n) (hn : n ≤ 9223372036854775807) (hv : nbA (a / 2 ^ n.toNat) = v) (ho : decide (a % 2 ^ n.toNat ≠ 0) = o) (w : World) (hT : TabAt w) :
    Calls Tryd.prog 19 #[.string s, .int .i64 n] w fun r w' => r = .returned (.tuple #[.string v, .bool o, .int .i64 0]) ∧ Below w.heap.size w w' := by
  obtain ⟨k, rfl⟩ : ∃ m : Nat, n = (m : Int) := ⟨n.toNat, by omega⟩
  rw [Int.toNat_natCast] at hv ho
  have HM : Box (mayB s = true) := box (by rw [← hs]; exact mayB_nb a ha)
  have b0 := bal w (.cells #[.string s] 25)
  have d0 : decide ((k : Int) < 0) = false := by rw [decide_eq_false_iff_not]; omega
  have d2 := eq_empty s
  obtain ⟨K, hK⟩ : ∃ K, wl a = K := ⟨_, rfl⟩
  obtain ⟨M, hM⟩ : ∃ M, wl (a / 2 ^ k) = M := ⟨_, rfl⟩
  have hK2 : K ≤ 2048 := by rw [← hK]; exact wl_of_nl a ha
  have hM2 : M ≤ 2048 := by rw [← hM]; exact Nat.le_trans (wl_mono _ a (Nat.div_le_self _ _)) (by omega)
  have k2 : k ≤ 9223372036854775807 := by omega
  have HS := box hs
  have HA := box ha
  have HK := box hK
  have HMM := box hM
  have HV := box hv
  by_cases a0 : a = 0
  · subst a0
    have eo : o = false := by rw [← ho, Nat.zero_mod]; rfl
    subst eo
    have es : s = ⟨#[]⟩ := by rw [← hs, nbA_zero]
    subst es
    clear hs ho hv hK hM d2 ha hT
    go_enter Tryd.func19, Tryd.ntmps19
    go_wp2_with fail
    refine (n_may1 _ true HM.out _ w).mono ?_
    rintro r w0 ⟨rfl, rfl⟩
    go_wp2_with fail
    refine (l_wordsOf 0 K _ HS.out (by have := HA.out; omega) HK.out _).mono ?_
    rintro r w2 ⟨p, c, rfl, s2, b2⟩
    go_wp2_with fail
    refine (l_down w2 p K c 0 k M _ s2 (Nat.le_refl _) (by omega) k2 HMM.out).mono ?_
    rintro r w3 ⟨q, d, rfl, s3, b3⟩
    go_wp2_with fail
    refine (l_natOf w3 q M d (0 / 2 ^ k) _ v s3 (Nat.le_refl _) (by omega) HV.out).mono ?_
    rintro r w4 ⟨rfl, b4⟩
    go_wp2
    go_ret3
    exact ⟨rfl, btr b0 (btr b2 (btr b3 b4))⟩
  · rw [decide_eq_false (by rw [← hs, nbA_size]; have := nl_pos a a0; omega)] at d2
    have d3 : (s.toList != []) = true := by rw [bne, d2]; rfl
    obtain ⟨t, ht⟩ := lowB_any a a0
    have hlo := lost_low a k t ht
    have e1 : decide (t < k) = o := by rw [← ho]; exact decide_eq_decide.2 hlo.symm
    have LW := box (fun w hT => pn_low_ok a t s hs ha (Or.inr ⟨a0, ht⟩) w hT)
    have TA := box (tabA hT (.cells #[.string s] 25))
    clear hs ho hv hK hM ha hT ht hlo a0
    go_enter Tryd.func19, Tryd.ntmps19
    go_wp2_with fail
    refine (n_may1 _ true HM.out _ w).mono ?_
    rintro r w0 ⟨rfl, rfl⟩
    go_wp2_with fail
    refine (LW.out _ TA.out).mono ?_
    rintro r w1 ⟨rfl, b1⟩
    go_wp2_with fail
    refine (l_wordsOf a K _ HS.out (by have := HA.out; omega) HK.out _).mono ?_
    rintro r w2 ⟨p, c, rfl, s2, b2⟩
    go_wp2_with fail
    refine (l_down w2 p K c a k M _ s2 (Nat.le_refl _) (by omega) k2 HMM.out).mono ?_
    rintro r w3 ⟨q, d, rfl, s3, b3⟩
    go_wp2_with fail
    refine (l_natOf w3 q M d (a / 2 ^ k) _ v s3 (Nat.le_refl _) (by omega) HV.out).mono ?_
    rintro r w4 ⟨rfl, b4⟩
    go_wp2
    go_ret3
    exact ⟨rfl, btr b0 (btr b1 (btr b2 (btr b3 b4)))⟩

set_option maxRecDepth 100000 in
theorem pn_towide_ok (n : Nat) (s : ByteArray) (hs : nbA n = s) (h : nl n ≤ 48) (w : World) :
    Calls Tryd.prog 5 #[.string s] w fun r w' => r = .returned (.tuple #[.agg (cw 6 n), .bool true]) ∧ Below w.heap.size w w' := by
  have HM : Box (mayB s = true) := box (by rw [← hs]; exact mayB_nb n (by omega))
  obtain ⟨l, hl⟩ : ∃ l, blen n = l := ⟨_, rfl⟩
  obtain ⟨K, hK⟩ : ∃ K, wl n = K := ⟨_, rfl⟩
  have hK2 : K ≤ 6 := by rw [← hK, wl_nl]; omega
  have l2 : l ≤ 384 := by rw [← hl]; unfold nl at h; omega
  have d1 : decide ((384 : Int) < (l : Int)) = false := decide_eq_false (by omega)
  have d1' : decide (384 < l) = false := decide_eq_false (by omega)
  have hat := cw_at 6
  have hz := cw6z
  have hf := cw6f
  have hs0 := st0
  have HS := box hs
  have HN : Box (nl n ≤ 16384) := box (by omega)
  have HL := box hl
  have HK := box hK
  clear hs h hl hK
  go_enter Tryd.func5, Tryd.ntmps5
  go_wp2_with fail
  have m1 := n_may1 s true HM.out 25 (w.alloc (.cells (cw 6 0) 24))
  rw [size_al] at m1
  refine m1.mono ?_
  rintro r w0 ⟨rfl, rfl⟩
  have b0 : Below w.heap.size w ((w.alloc (.cells (cw 6 0) 24)).alloc (.cells #[.string s] 25)) := btr (bal _ _) (bal _ _)
  have r0 : ((w.alloc (.cells (cw 6 0) 24)).alloc (.cells #[.string s] 25)).heap[w.heap.size]? = some (.cells (cw 6 0) 24) := by
    rw [heap_below _ _ _ (by rw [size_al]; omega)]; exact heap_alloc_last _ _
  go_wp2_with fail
  refine (pn_len_ok n l s HS.out HN.out HL.out _).mono ?_
  rintro r w1 ⟨rfl, b1⟩
  have r1 := heap_of b1 _ _ _ r0
  have WO := box (fun W => l_wordsOf n K s HS.out (by have := HN.out; omega) HK.out W)
  go_wp2
  go_region_with (go_at_call 24; refine (WO.out _).mono ?_; rintro r w2 ⟨p, c, rfl, s2, b2⟩; have b2' : Below w1.heap.size w1 w2 := ((Below.refl w1.heap.size w1).drew).trans b2; have r2 := heap_of b2' _ _ _ r1; have hcp := copy_row r2 p K c n _ s2 hK2 rfl 51 3)
  all_goals
    have b3 : Below w.heap.size w w2 := btr b0 (btr b1 b2')
    have r3 : (w2.setRow w.heap.size (cw 6 n)).heap[w.heap.size]? = some (.cells (cw 6 n) 24) := setRow_row r2
    have c3 := row_cell r3
    have b4 : Below w.heap.size w (w2.setRow w.heap.size (cw 6 n)) := Below.setRow b3 (Nat.le_refl _)
    have hst := st_same (w2.setRow w.heap.size (cw 6 n)) w.heap.size n r3
    clear hcp
    go_wp2
    exact bodyPost_ret (v := .tuple #[.agg (cw 6 n), .bool true]) (by simp [results, Tryd.results5, go_sem, c3, hf]) rfl ⟨rfl, b4⟩
set_option maxRecDepth 100000 in
theorem pn_towide_no (s : ByteArray) (h : mayB s = false ∨ 48 < s.size) (w : World) :
    Calls Tryd.prog 5 #[.string s] w fun r w' => r = .returned (.tuple #[.agg (cw 6 0), .bool false]) ∧ Below w.heap.size w w' := by
  obtain ⟨o, ho⟩ : ∃ o, mayB s = o := ⟨_, rfl⟩
  have HO := box ho
  have hat := cw_at 6
  have hz := cw6z
  have hf := cw6f
  have hs0 := st0
  have b0 : Below w.heap.size w ((w.alloc (.cells (cw 6 0) 24)).alloc (.cells #[.string s] 25)) := btr (bal _ _) (bal _ _)
  have r0 : ((w.alloc (.cells (cw 6 0) 24)).alloc (.cells #[.string s] 25)).heap[w.heap.size]? = some (.cells (cw 6 0) 24) := by
    rw [heap_below _ _ _ (by rw [size_al]; omega)]; exact heap_alloc_last _ _
  cases o
  · clear h ho
    go_enter Tryd.func5, Tryd.ntmps5
    go_wp2_with fail
    have m1 := n_may1 s false HO.out 25 (w.alloc (.cells (cw 6 0) 24))
    rw [size_al] at m1
    refine m1.mono ?_
    rintro r w0 ⟨rfl, rfl⟩
    obtain ⟨W, hW⟩ : ∃ W, (w.alloc (.cells (cw 6 0) 24)).alloc (.cells #[.string s] 25) = W := ⟨_, rfl⟩
    rw [hW] at b0 r0 ⊢
    have c0 := row_cell r0
    have hst := st_same W w.heap.size 0 r0
    clear hW
    go_wp2
    exact bodyPost_ret (v := .tuple #[.agg (cw 6 0), .bool false]) (by simp [results, Tryd.results5, go_sem, c0, hf]) rfl ⟨rfl, b0⟩
  · have h48 : 48 < s.size := by
      rcases h with h | h
      · rw [ho] at h; exact absurd h (by decide)
      · exact h
    obtain ⟨n, hs, hn⟩ := mayB_is s ho
    obtain ⟨l, hl⟩ : ∃ l, blen n = l := ⟨_, rfl⟩
    have l2 : 384 < l := by
      rw [← hs, nbA_size] at h48
      rw [← hl]
      unfold nl at h48
      omega
    have l3 : l ≤ 131072 := by rw [← hl]; unfold nl at hn; omega
    have d1 : decide ((384 : Int) < (l : Int)) = true := decide_eq_true (by omega)
    have d1' : decide (384 < l) = true := decide_eq_true l2
    have LE := box (fun W => pn_len_ok n l s hs hn hl W)
    clear h ho h48 hs hn hl
    go_enter Tryd.func5, Tryd.ntmps5
    go_wp2_with fail
    have m1 := n_may1 s true HO.out 25 (w.alloc (.cells (cw 6 0) 24))
    rw [size_al] at m1
    refine m1.mono ?_
    rintro r w0 ⟨rfl, rfl⟩
    go_wp2_with fail
    refine (LE.out _).mono ?_
    rintro r w1 ⟨rfl, b1⟩
    have r1 := heap_of b1 _ _ _ r0
    have c1 := row_cell r1
    have hst := st_same w1 w.heap.size 0 r1
    go_wp2
    exact bodyPost_ret (v := .tuple #[.agg (cw 6 0), .bool false]) (by simp [results, Tryd.results5, go_sem, c1, hf]) rfl ⟨rfl, btr b0 b1⟩
end Go.Proofs.YtjedplbhhohfmaaDoor
