/-
  What the functions Len, Mul and Cmp of package nat return.
-/
import Derived.Test.YtknkkagapcigfaaGreatDoorList7
namespace Go.Proofs.YtknkkagapcigfaaGreatDoor
open Go.RowKit WMath

theorem pn_len_no (s : ByteArray) (hm : mayB s = false) (w : World) :
    Calls Tryz.prog 60 #[.string s] w fun r w' => r = .returned (.int .i64 0) ∧ Below w.heap.size w w' := by
  have HO := box hm
  clear hm
  go_enter Tryz.func60, Tryz.ntmps60
  go_wp2_with fail
  refine (n_may1 s false HO.out _ w).mono ?_
  rintro r w0 ⟨rfl, rfl⟩
  go_wp2
  go_ret
  exact ⟨rfl, bal _ _⟩
theorem pn_len_ok (n l : Nat) (s : ByteArray) (hs : nbA n = s) (h : nl n ≤ 16384) (hl : blen n = l) (w : World) :
    Calls Tryz.prog 60 #[.string s] w fun r w' => r = .returned (.int .i64 (l : Nat)) ∧ Below w.heap.size w w' := by
  obtain ⟨L, hL⟩ : ∃ L, nl n = L := ⟨_, rfl⟩
  have hz : s.size = L := by rw [← hs, nbA_size, hL]
  have HM : Box (mayB s = true) := box (by rw [← hs]; exact mayB_nb n h)
  have d2 := eq_empty s
  rw [hL] at h
  by_cases h0 : n = 0
  · have e : l = 0 := by rw [← hl, h0]; rfl
    have e2 : L = 0 := by rw [← hL, h0]; exact nl_zero
    subst e
    rw [decide_eq_true (by omega)] at d2
    clear hs hl hL h0
    go_enter Tryz.func60, Tryz.ntmps60
    go_wp2_with fail
    refine (n_may1 s true HM.out _ w).mono ?_
    rintro r w0 ⟨rfl, rfl⟩
    go_wp2
    go_ret
    exact ⟨rfl, bal _ _⟩
  · have hp := nl_pos n h0
    rw [hL] at hp
    rw [decide_eq_false (by omega)] at d2
    have hp2 : 0 < s.size := by omega
    obtain ⟨x, hx⟩ : ∃ x, (s[0]'hp2).toNat = x := ⟨_, rfl⟩
    have hxd : d8 n (L - 1) = x := by
      rw [← hx]
      have e := hs
      subst e
      rw [nbA_get, hL, Nat.sub_zero]
    have hi := idx_runN s 0 0 x rfl hp2 hx
    have x256 : x < 256 := by rw [← hxd]; exact d8_lt _ _
    have e := blen_nl n L x h0 hL hxd
    rw [hl] at e
    obtain ⟨y, hy⟩ : ∃ y, Lib.bitLen x = y := ⟨_, rfl⟩
    rw [← bitLen_blen x (by omega), hy] at e
    have n4 : IntKind.u64.wrap (x : Int) = (x : Int) := by rw [IntKind.wrap_u64]; omega
    have n1 : IntKind.i64.wrap ((L : Int) - 1) = (L : Int) - 1 := wrap_i64_is _ (by omega) (by omega)
    have n2 : IntKind.i64.wrap (((L : Int) - 1) * 8) = ((L : Int) - 1) * 8 := wrap_i64_is _ (by omega) (by omega)
    have y64 : y ≤ 64 := by rw [← hy, bitLen_blen x (by omega)]; exact blen_le_of x 64 (by rw [← two64]; omega)
    have n3 : IntKind.i64.wrap (((L : Int) - 1) * 8 + (y : Int)) = (l : Int) := by rw [wrap_i64_is _ (by omega) (by omega)]; omega
    have x64 : x < 18446744073709551616 := by omega
    have HY := box hy
    clear hs hl hL h0 hx hxd hy e
    go_enter Tryz.func60, Tryz.ntmps60
    go_wp2_with fail
    refine (n_may1 s true HM.out _ w).mono ?_
    rintro r w0 ⟨rfl, rfl⟩
    go_wp2_with fail
    refine (len_any x x64 _).mono ?_
    rintro e w' ⟨rfl, rfl⟩
    rw [HY.out]
    go_wp2
    go_ret
    exact ⟨rfl, bal _ _⟩

set_option maxRecDepth 100000 in
theorem pn_mul_ok (a b : Nat) (s t v : ByteArray) (e : Int) (hs : nbA a = s) (ht : nbA b = t) (ha : nl a ≤ 16384) (hb : nl b ≤ 16384) (hr : lg (a * b) = (v, e)) (w : World) :
    Calls Tryz.prog 38 #[.string s, .string t] w fun r w' => r = .returned (.tuple #[.string v, .int .i64 e]) ∧ Below w.heap.size w w' := by
  have HO := box (ok2 hs ht ha hb)
  have HS := box hs
  have HT := box ht
  have HR := box hr
  have HA := box ha
  have HB := box hb
  obtain ⟨K, hK⟩ : ∃ K, wl a = K := ⟨_, rfl⟩
  obtain ⟨M, hM⟩ : ∃ M, wl b = M := ⟨_, rfl⟩
  obtain ⟨N, hN⟩ : ∃ N, wl (a * b) = N := ⟨_, rfl⟩
  obtain ⟨x, hx⟩ : ∃ x, blen a = x := ⟨_, rfl⟩
  obtain ⟨y, hy⟩ : ∃ y, blen b = y := ⟨_, rfl⟩
  have hK2 : K ≤ 2048 := by rw [← hK]; exact wl_of_nl a ha
  have hM2 : M ≤ 2048 := by rw [← hM]; exact wl_of_nl b hb
  have hN2 : N ≤ 4096 := by rw [← hN]; have := wl_mul_le a b; omega
  have x2 : x ≤ 131072 := by rw [← hx]; unfold nl at ha; omega
  have y2 : y ≤ 131072 := by rw [← hy]; unfold nl at hb; omega
  have n1 : IntKind.i64.wrap ((x : Int) + (y : Int)) = (x : Int) + (y : Int) := wrap_i64_is _ (by omega) (by omega)
  have n2 : IntKind.i64.wrap ((x : Int) + (y : Int) - 1) = (x : Int) + (y : Int) - 1 := wrap_i64_is _ (by omega) (by omega)
  have HK := box hK
  have HM := box hM
  have HN := box hN
  have HX := box hx
  have HY := box hy
  have b0 := bal w (.cells #[.string s, .string t] 22)
  by_cases hc : (131072 : Int) < (x : Int) + (y : Int) - 1
  · have e0 : v = ⟨#[]⟩ ∧ e = 4 := by
      unfold lg at hr
      have a0 : a ≠ 0 := fun h => by rw [h, blen_zero] at hx; omega
      have b0 : b ≠ 0 := fun h => by rw [h, blen_zero] at hy; omega
      have hg := blen_mul_ge a b a0 b0
      rw [if_neg (by unfold nl; omega)] at hr
      cases hr
      exact ⟨rfl, rfl⟩
    obtain ⟨rfl, rfl⟩ := e0
    have d1 : decide ((131072 : Int) < (x : Int) + (y : Int) - 1) = true := decide_eq_true hc
    clear hs ht ha hb hr hK hM hN hx hy
    go_enter Tryz.func38, Tryz.ntmps38
    go_wp2_with fail
    refine (n_may2 s t true HO.out _ w).mono ?_
    rintro r w0 ⟨rfl, rfl⟩
    go_wp2_with fail
    refine (pn_len_ok a x s HS.out HA.out HX.out _).mono ?_
    rintro r w1 ⟨rfl, b1⟩
    go_wp2_with fail
    refine (pn_len_ok b y t HT.out HB.out HY.out _).mono ?_
    rintro r w2 ⟨rfl, b2⟩
    go_wp2
    go_ret2
    exact ⟨rfl, btr b0 (btr b1 b2)⟩
  · have d1 : decide ((131072 : Int) < (x : Int) + (y : Int) - 1) = false := decide_eq_false hc
    clear hs ht ha hb hr hK hM hN hx hy
    go_enter Tryz.func38, Tryz.ntmps38
    go_wp2_with fail
    refine (n_may2 s t true HO.out _ w).mono ?_
    rintro r w0 ⟨rfl, rfl⟩
    go_wp2_with fail
    refine (pn_len_ok a x s HS.out HA.out HX.out _).mono ?_
    rintro r w1 ⟨rfl, b1⟩
    go_wp2_with fail
    refine (pn_len_ok b y t HT.out HB.out HY.out _).mono ?_
    rintro r w2 ⟨rfl, b2⟩
    go_wp2_with fail
    refine (l_wordsOf a K s HS.out (by have := HA.out; omega) HK.out _).mono ?_
    rintro r w3 ⟨p, c, rfl, s3, b3⟩
    go_wp2_with fail
    refine (l_wordsOf b M t HT.out (by have := HB.out; omega) HM.out _).mono ?_
    rintro r w4 ⟨q, d, rfl, s4, b4⟩
    go_wp2_with fail
    refine (l_product w4 p q K c a M d b w4.heap.size N ((s3.below b4 (Nat.le_refl _)).mono b4.size) s4 (Nat.le_refl _) (by omega) (by omega) HN.out).mono ?_
    rintro r w5 ⟨u, f, rfl, s5, b5⟩
    go_wp2_with fail
    refine (l_answer w5 u N f (a * b) _ v e s5 (Nat.le_refl _) (by omega) HN.out HR.out).mono ?_
    rintro r w6 ⟨rfl, b6⟩
    go_wp2
    go_ret2
    exact ⟨rfl, btr b0 (btr b1 (btr b2 (btr b3 (btr b4 (btr b5 b6)))))⟩

theorem nan_str (s : ByteArray) (w : World) : Calls Tryz.prog 68 #[.string s] w fun r w' => r = .returned (.bool false) ∧ w' = w := by
  have h : (s.toList != s.toList) = false := by simp
  go_enter Tryz.func68, Tryz.ntmps68
  go_wp2
  go_ret
  exact ⟨by first | rfl | simp, rfl⟩
theorem cmp_str (a b : Nat) (s t : ByteArray) (c : Int) (hs : nbA a = s) (ht : nbA b = t) (hl : nl a = nl b) (hc : cmpv a b = c) (w : World) : Calls Tryz.prog 43 #[.string s, .string t] w fun r w' => r = .returned (.int .i64 c) ∧ w' = w := by
  have h1 := bless_nb a b hl
  have h2 := bless_nb b a hl.symm
  have h3 := beq_nb a b
  rw [hs, ht] at h1 h2 h3
  have hcase : (decide (a < b) = true ∧ decide (b < a) = false ∧ decide (a = b) = false ∧ c = -1) ∨ (decide (a < b) = false ∧ decide (b < a) = true ∧ decide (a = b) = false ∧ c = 1) ∨ (decide (a < b) = false ∧ decide (b < a) = false ∧ decide (a = b) = true ∧ c = 0) := by
    rw [decide_eq_true_iff, decide_eq_true_iff, decide_eq_true_iff, decide_eq_false_iff_not, decide_eq_false_iff_not, decide_eq_false_iff_not]
    unfold cmpv at hc
    by_cases e : a = b
    · rw [if_pos e] at hc; omega
    · rw [if_neg e] at hc
      by_cases e2 : a < b
      · rw [if_pos e2] at hc; omega
      · rw [if_neg e2] at hc; omega
  clear hs ht hl hc
  rcases hcase with ⟨k1, k2, k3, rfl⟩ | ⟨k1, k2, k3, rfl⟩ | ⟨k1, k2, k3, rfl⟩
  all_goals
    rw [k1] at h1
    rw [k2] at h2
    rw [k3] at h3
    clear k1 k2 k3
    go_enter Tryz.func43, Tryz.ntmps43
    go_wp2_with fail
    refine (nan_str s _).mono ?_
    rintro e w' ⟨rfl, rfl⟩
    go_wp2_with fail
    refine (nan_str t _).mono ?_
    rintro e w' ⟨rfl, rfl⟩
    go_wp2
    go_ret
    exact ⟨rfl, rfl⟩
theorem pn_cmp_ok (a b : Nat) (s t : ByteArray) (c : Int) (hs : nbA a = s) (ht : nbA b = t) (ha : nl a ≤ 16384) (hb : nl b ≤ 16384) (hc : cmpv a b = c) (w : World) :
    Calls Tryz.prog 24 #[.string s, .string t] w fun r w' => r = .returned (.tuple #[.int .i64 c, .int .i64 0]) ∧ Below w.heap.size w w' := by
  have HO := box (ok2 hs ht ha hb)
  have hz : s.size = nl a := by rw [← hs, nbA_size]
  have hy : t.size = nl b := by rw [← ht, nbA_size]
  have b0 := bal w (.cells #[.string s, .string t] 22)
  by_cases h : nl a = nl b
  · have H := box (cmp_str a b s t c hs ht h hc)
    have d1 : ((s.size : Int) != (t.size : Int)) = false := by simp; omega
    have d2 : (s.size : Int) = (t.size : Int) := by omega
    clear hs ht ha hb hc hz hy h
    go_enter Tryz.func24, Tryz.ntmps24
    go_wp2_with fail
    refine (n_may2 s t true HO.out _ w).mono ?_
    rintro r w0 ⟨rfl, rfl⟩
    go_wp2_with fail
    refine (H.out _).mono ?_
    rintro r w1 ⟨rfl, rfl⟩
    go_wp2
    go_ret2
    exact ⟨rfl, b0⟩
  · have d1 : ((s.size : Int) != (t.size : Int)) = true := by simp; omega
    have d2 : ¬ (s.size : Int) = (t.size : Int) := by omega
    have d3 : ¬ s.size = t.size := by omega
    have e : cmpi (s.size : Int) (t.size : Int) = c := by
      rw [cmpi_nat, hz, hy, ← hc]
      by_cases h2 : nl a < nl b
      · rw [cmpv_lt _ _ h2, cmpv_lt a b (by
          by_cases e : a < b
          · exact e
          · have := nl_mono b a (by omega)
            omega)]
      · rw [cmpv_gt _ _ (show nl b < nl a by omega), cmpv_gt a b (by
          by_cases e : b < a
          · exact e
          · have := nl_mono a b (by omega)
            omega)]
    have E := box e
    clear hs ht ha hb hc hz hy h e
    go_enter Tryz.func24, Tryz.ntmps24
    go_wp2_with fail
    refine (n_may2 s t true HO.out _ w).mono ?_
    rintro r w0 ⟨rfl, rfl⟩
    go_wp2_with fail
    refine (cmp_int _ _ c E.out _).mono ?_
    rintro r w1 ⟨rfl, rfl⟩
    go_wp2
    go_ret2
    exact ⟨rfl, b0⟩
end Go.Proofs.YtknkkagapcigfaaGreatDoor
