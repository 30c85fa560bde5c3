/-
  What the functions Div and Sqrt of package nat return.
-/
import Derived.Test.YtknkkagapcigfaaDoorList14
import Derived.Test.YtknkkagapcigfaaDoorList7
namespace Go.Proofs.YtknkkagapcigfaaDoor
open Go.RowKit WMath

set_option maxRecDepth 100000 in
theorem pn_div_ok (a b : Nat) (s t qv rv : ByteArray) (hs : nbA a = s) (ht : nbA b = t) (ha : nl a ≤ 16384) (hb : nl b ≤ 16384) (hb0 : b ≠ 0) (hq : nbA (a / b) = qv) (hr : nbA (a % b) = rv) (w : World) :
    Calls Tryd.prog 44 #[.string s, .string t] w fun r w' => r = .returned (.tuple #[.string qv, .string rv, .int .i64 0]) ∧ Below w.heap.size w w' := by
  have HO := box (ok2 hs ht ha hb)
  have HS := box hs
  have HT := box ht
  have HA := box ha
  have HB := box hb
  have HB0 := box hb0
  have HQ := box hq
  have HR := box hr
  have d2 := eq_empty t
  rw [decide_eq_false (by rw [← ht, nbA_size]; have := nl_pos b hb0; omega)] at d2
  obtain ⟨K, hK⟩ : ∃ K, wl a = K := ⟨_, rfl⟩
  obtain ⟨M, hM⟩ : ∃ M, wl b = M := ⟨_, rfl⟩
  obtain ⟨K1, hK1⟩ : ∃ N, wl (a / b) = N := ⟨_, rfl⟩
  obtain ⟨K2, hK2⟩ : ∃ N, wl (a % b) = N := ⟨_, rfl⟩
  have hK2' : K ≤ 2048 := by rw [← hK]; exact wl_of_nl a ha
  have hM2 : M ≤ 2048 := by rw [← hM]; exact wl_of_nl b hb
  have k1 : K1 ≤ 2048 := by rw [← hK1]; exact Nat.le_trans (wl_mono _ a (Nat.div_le_self _ _)) (by omega)
  have k2 : K2 ≤ 2048 := by rw [← hK2]; exact Nat.le_trans (wl_mono _ a (Nat.mod_le _ _)) (by omega)
  have HK := box hK
  have HM := box hM
  have HK1 := box hK1
  have HK2 := box hK2
  have b0 := bal w (.cells #[.string s, .string t] 22)
  clear hs ht ha hb hb0 hq hr hK hM hK1 hK2
  go_enter Tryd.func44, Tryd.ntmps44
  go_wp2_with fail
  refine (n_may2 s t true HO.out _ w).mono ?_
  rintro r w0 ⟨rfl, rfl⟩
  go_wp2_with fail
  refine (l_wordsOf a K s HS.out (by have := HA.out; omega) HK.out _).mono ?_
  rintro r w1 ⟨p, c, rfl, s1, b1⟩
  go_wp2_with fail
  refine (l_wordsOf b M t HT.out (by have := HB.out; omega) HM.out _).mono ?_
  rintro r w2 ⟨q, d, rfl, s2, b2⟩
  go_wp2_with fail
  refine (l_divide w2 p q K c a M d b w2.heap.size K1 K2 ((s1.below b2 (Nat.le_refl _)).mono b2.size) s2 (Nat.le_refl _) (by omega) (by omega) HM.out HB0.out HK1.out HK2.out).mono ?_
  rintro r w3 ⟨u, e, v, f, rfl, s3, t3, b3⟩
  go_wp2_with fail
  refine (l_natOf w3 u K1 e (a / b) _ qv s3 (Nat.le_refl _) (by omega) HQ.out).mono ?_
  rintro r w4 ⟨rfl, b4⟩
  go_wp2_with fail
  refine (l_natOf w4 v K2 f (a % b) _ rv (t3.below b4 (Nat.le_refl _)) b4.size (by omega) HR.out).mono ?_
  rintro r w5 ⟨rfl, b5⟩
  go_wp2
  go_ret3
  exact ⟨rfl, btr b0 (btr b1 (btr b2 (btr b3 (btr b4 b5))))⟩
theorem pn_div_no (s t : ByteArray) (h : mayB s = false ∨ mayB t = false ∨ t.size = 0) (w : World) :
    Calls Tryd.prog 44 #[.string s, .string t] w fun r w' => r = .returned (.tuple #[.string ⟨#[]⟩, .string ⟨#[]⟩, .int .i64 2]) ∧ Below w.heap.size w w' := by
  obtain ⟨o, ho⟩ : ∃ o, (mayB s && mayB t) = o := ⟨_, rfl⟩
  have HO := box ho
  cases o
  · clear h ho
    go_enter Tryd.func44, Tryd.ntmps44
    go_wp2_with fail
    refine (n_may2 s t false HO.out _ w).mono ?_
    rintro r w0 ⟨rfl, rfl⟩
    go_wp2
    go_ret3
    exact ⟨rfl, bal _ _⟩
  · have hz : t.size = 0 := by
      rw [Bool.and_eq_true] at ho
      rcases h with h | h | h
      · rw [ho.1] at h; exact absurd h (by decide)
      · rw [ho.2] at h; exact absurd h (by decide)
      · exact h
    have d2 := eq_empty t
    rw [decide_eq_true hz] at d2
    clear h ho hz
    go_enter Tryd.func44, Tryd.ntmps44
    go_wp2_with fail
    refine (n_may2 s t true HO.out _ w).mono ?_
    rintro r w0 ⟨rfl, rfl⟩
    go_wp2
    go_ret3
    exact ⟨rfl, bal _ _⟩

end Go.Proofs.YtknkkagapcigfaaDoor
