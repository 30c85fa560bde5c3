/-
  What the functions Right and ToWide of package nat return.
-/
import Derived.Test.YtknkkagapcigfaaDoorDoor1
namespace Go.Proofs.YtknkkagapcigfaaDoor
open Go.RowKit WMath

theorem pn_right_no (n : Int) (s : ByteArray) (h : mayB s = false ∨ n < 0) (w : World) :
    Calls Tryd.prog 45 #[.string s, .int .i64 n] w fun r w' => r = .returned (.tuple #[.string ⟨#[]⟩, .bool false, .int .i64 2]) ∧ Below w.heap.size w w' := by
  obtain ⟨o, ho⟩ : ∃ o, mayB s = o := ⟨_, rfl⟩
  have HO := box ho
  cases o
  · clear h ho
    go_enter Tryd.func45, Tryd.ntmps45
    go_wp2_with fail
    refine (n_may1 s false HO.out _ w).mono ?_
    rintro r w0 ⟨rfl, rfl⟩
    go_wp2
    go_ret3
    exact ⟨rfl, bal _ _⟩
  · have h0 : n < 0 := by
      rcases h with h | h
      · rw [ho] at h; exact absurd h (by decide)
      · exact h
    have d0 : decide (n < 0) = true := decide_eq_true h0
    clear h ho
    go_enter Tryd.func45, Tryd.ntmps45
    go_wp2_with fail
    refine (n_may1 s true HO.out _ w).mono ?_
    rintro r w0 ⟨rfl, rfl⟩
    go_wp2
    go_ret3
    exact ⟨rfl, bal _ _⟩
set_option maxRecDepth 100000 in
theorem pn_right_ok (a : Nat) (n : Int) (s v : ByteArray) (o : Bool) (hs : nbA a = s) (ha : nl a ≤ 16384) (h0 : 0 ≤ n) (hn : n ≤ 9223372036854775807) (hv : nbA (a / 2 ^ n.toNat) = v) (ho : decide (a % 2 ^ n.toNat ≠ 0) = o) (w : World) (hT : TabAt w) :
    Calls Tryd.prog 45 #[.string s, .int .i64 n] w fun r w' => r = .returned (.tuple #[.string v, .bool o, .int .i64 0]) ∧ Below w.heap.size w w' := by
  obtain ⟨k, rfl⟩ : ∃ m : Nat, n = (m : Int) := ⟨n.toNat, by omega⟩
  rw [Int.toNat_natCast] at hv ho
  have HM : Box (mayB s = true) := box (by rw [← hs]; exact mayB_nb a ha)
  have b0 := bal w (.cells #[.string s] 22)
  have d0 : decide ((k : Int) < 0) = false := by rw [decide_eq_false_iff_not]; omega
  have d2 := eq_empty s
  obtain ⟨K, hK⟩ : ∃ K, wl a = K := ⟨_, rfl⟩
  obtain ⟨M, hM⟩ : ∃ M, wl (a / 2 ^ k) = M := ⟨_, rfl⟩
  have hK2 : K ≤ 2048 := by rw [← hK]; exact wl_of_nl a ha
  have hM2 : M ≤ 2048 := by rw [← hM]; exact Nat.le_trans (wl_mono _ a (Nat.div_le_self _ _)) (by omega)
  have k2 : k ≤ 9223372036854775807 := by omega
  have HS := box hs
  have HA := box ha
  have HK := box hK
  have HMM := box hM
  have HV := box hv
  by_cases a0 : a = 0
  · subst a0
    have eo : o = false := by rw [← ho, Nat.zero_mod]; rfl
    subst eo
    have es : s = ⟨#[]⟩ := by rw [← hs, nbA_zero]
    subst es
    clear hs ho hv hK hM d2 ha hT
    go_enter Tryd.func45, Tryd.ntmps45
    go_wp2_with fail
    refine (n_may1 _ true HM.out _ w).mono ?_
    rintro r w0 ⟨rfl, rfl⟩
    go_wp2_with fail
    refine (l_wordsOf 0 K _ HS.out (by have := HA.out; omega) HK.out _).mono ?_
    rintro r w2 ⟨p, c, rfl, s2, b2⟩
    go_wp2_with fail
    refine (l_down w2 p K c 0 k M _ s2 (Nat.le_refl _) (by omega) k2 HMM.out).mono ?_
    rintro r w3 ⟨q, d, rfl, s3, b3⟩
    go_wp2_with fail
    refine (l_natOf w3 q M d (0 / 2 ^ k) _ v s3 (Nat.le_refl _) (by omega) HV.out).mono ?_
    rintro r w4 ⟨rfl, b4⟩
    go_wp2
    go_ret3
    exact ⟨rfl, btr b0 (btr b2 (btr b3 b4))⟩
  · rw [decide_eq_false (by rw [← hs, nbA_size]; have := nl_pos a a0; omega)] at d2
    have d3 : (s.toList != []) = true := by rw [bne, d2]; rfl
    obtain ⟨t, ht⟩ := lowB_any a a0
    have hlo := lost_low a k t ht
    have e1 : decide (t < k) = o := by rw [← ho]; exact decide_eq_decide.2 hlo.symm
    have LW := box (fun w hT => pn_low_ok a t s hs ha (Or.inr ⟨a0, ht⟩) w hT)
    have TA := box (tabA hT (.cells #[.string s] 22))
    clear hs ho hv hK hM ha hT ht hlo a0
    go_enter Tryd.func45, Tryd.ntmps45
    go_wp2_with fail
    refine (n_may1 _ true HM.out _ w).mono ?_
    rintro r w0 ⟨rfl, rfl⟩
    go_wp2_with fail
    refine (LW.out _ TA.out).mono ?_
    rintro r w1 ⟨rfl, b1⟩
    go_wp2_with fail
    refine (l_wordsOf a K _ HS.out (by have := HA.out; omega) HK.out _).mono ?_
    rintro r w2 ⟨p, c, rfl, s2, b2⟩
    go_wp2_with fail
    refine (l_down w2 p K c a k M _ s2 (Nat.le_refl _) (by omega) k2 HMM.out).mono ?_
    rintro r w3 ⟨q, d, rfl, s3, b3⟩
    go_wp2_with fail
    refine (l_natOf w3 q M d (a / 2 ^ k) _ v s3 (Nat.le_refl _) (by omega) HV.out).mono ?_
    rintro r w4 ⟨rfl, b4⟩
    go_wp2
    go_ret3
    exact ⟨rfl, btr b0 (btr b1 (btr b2 (btr b3 b4)))⟩

end Go.Proofs.YtknkkagapcigfaaDoor
