/-
  What the functions Check, Add, Sub, Mul and Cmp of package nat return.
-/
import Derived.Test.YtknkkagapcigfaaGreatDoorList6
import Derived.Test.YtknkkagapcigfaaGreatDoorNat4
namespace Go.Proofs.YtknkkagapcigfaaGreatDoor
open Go.RowKit WMath

theorem pn_check (s : ByteArray) (e : Int) (he : (if mayB s then (0 : Int) else 2) = e) (w : World) :
    Calls Tryz.prog 32 #[.string s] w fun r w' => r = .returned (.int .i64 e) ∧ Below w.heap.size w w' := by
  subst he
  exact bel (n_check s _ rfl w)

theorem wl_of_nl (n : Nat) (h : nl n ≤ 16384) : wl n ≤ 2048 := by rw [wl_nl]; omega

set_option maxRecDepth 100000 in
theorem pn_add_ok (a b : Nat) (s t v : ByteArray) (e : Int) (hs : nbA a = s) (ht : nbA b = t) (ha : nl a ≤ 16384) (hb : nl b ≤ 16384) (hr : lg (a + b) = (v, e)) (w : World) :
    Calls Tryz.prog 64 #[.string s, .string t] w fun r w' => r = .returned (.tuple #[.string v, .int .i64 e]) ∧ Below w.heap.size w w' := by
  have HO := box (ok2 hs ht ha hb)
  have HS := box hs
  have HT := box ht
  have HR := box hr
  have HA := box ha
  have HB := box hb
  obtain ⟨K, hK⟩ : ∃ K, wl a = K := ⟨_, rfl⟩
  obtain ⟨M, hM⟩ : ∃ M, wl b = M := ⟨_, rfl⟩
  obtain ⟨N, hN⟩ : ∃ N, wl (a + b) = N := ⟨_, rfl⟩
  have hK2 : K ≤ 2048 := by rw [← hK]; exact wl_of_nl a ha
  have hM2 : M ≤ 2048 := by rw [← hM]; exact wl_of_nl b hb
  have hN2 : N ≤ 2049 := by rw [← hN]; exact wl_add_le a b 2048 (by omega) (by omega)
  have HK := box hK
  have HM := box hM
  have HN := box hN
  clear hs ht ha hb hr hK hM hN
  go_enter Tryz.func64, Tryz.ntmps64
  go_wp2_with fail
  refine (n_may2 s t true HO.out _ w).mono ?_
  rintro r w0 ⟨rfl, rfl⟩
  have b0 := bal w (.cells #[.string s, .string t] 22)
  go_wp2_with fail
  refine (l_wordsOf a K s HS.out (by have := HA.out; omega) HK.out _).mono ?_
  rintro r w1 ⟨p, c, rfl, s1, b1⟩
  go_wp2_with fail
  refine (l_wordsOf b M t HT.out (by have := HB.out; omega) HM.out _).mono ?_
  rintro r w2 ⟨q, d, rfl, s2, b2⟩
  go_wp2_with fail
  refine (l_sum w2 p q K c a M d b w2.heap.size N ((s1.below b2 (Nat.le_refl _)).mono b2.size) s2 (Nat.le_refl _) (by omega) (by omega) HN.out).mono ?_
  rintro r w3 ⟨u, f, rfl, s3, b3⟩
  go_wp2_with fail
  refine (l_answer w3 u N f (a + b) _ v e s3 (Nat.le_refl _) (by omega) HN.out HR.out).mono ?_
  rintro r w4 ⟨rfl, b4⟩
  go_wp2
  go_ret2
  exact ⟨rfl, btr b0 (btr b1 (btr b2 (btr b3 b4)))⟩
theorem pn_add_no (s t : ByteArray) (h : mayB s = false ∨ mayB t = false) (w : World) :
    Calls Tryz.prog 64 #[.string s, .string t] w fun r w' => r = .returned (.tuple #[.string ⟨#[]⟩, .int .i64 2]) ∧ Below w.heap.size w w' := by
  have HO := box (no2 h)
  clear h
  go_enter Tryz.func64, Tryz.ntmps64
  go_wp2_with fail
  refine (n_may2 s t false HO.out _ w).mono ?_
  rintro r w0 ⟨rfl, rfl⟩
  go_wp2
  go_ret2
  exact ⟨rfl, bal _ _⟩
theorem pn_sub_no (s t : ByteArray) (h : mayB s = false ∨ mayB t = false) (w : World) :
    Calls Tryz.prog 65 #[.string s, .string t] w fun r w' => r = .returned (.tuple #[.string ⟨#[]⟩, .int .i64 2]) ∧ Below w.heap.size w w' := by
  have HO := box (no2 h)
  clear h
  go_enter Tryz.func65, Tryz.ntmps65
  go_wp2_with fail
  refine (n_may2 s t false HO.out _ w).mono ?_
  rintro r w0 ⟨rfl, rfl⟩
  go_wp2
  go_ret2
  exact ⟨rfl, bal _ _⟩
set_option maxRecDepth 100000 in
theorem pn_sub_ok (a b : Nat) (s t v : ByteArray) (e : Int) (hs : nbA a = s) (ht : nbA b = t) (ha : nl a ≤ 16384) (hb : nl b ≤ 16384) (hr : sb a b = (v, e)) (w : World) :
    Calls Tryz.prog 65 #[.string s, .string t] w fun r w' => r = .returned (.tuple #[.string v, .int .i64 e]) ∧ Below w.heap.size w w' := by
  have HO := box (ok2 hs ht ha hb)
  have HS := box hs
  have HT := box ht
  have HA := box ha
  have HB := box hb
  obtain ⟨K, hK⟩ : ∃ K, wl a = K := ⟨_, rfl⟩
  obtain ⟨M, hM⟩ : ∃ M, wl b = M := ⟨_, rfl⟩
  obtain ⟨N, hN⟩ : ∃ N, wl (a - b) = N := ⟨_, rfl⟩
  have hK2 : K ≤ 2048 := by rw [← hK]; exact wl_of_nl a ha
  have hM2 : M ≤ 2048 := by rw [← hM]; exact wl_of_nl b hb
  have hN2 : N ≤ 2049 := by rw [← hN]; have := wl_mono (a - b) a (by omega); omega
  have HK := box hK
  have HM := box hM
  have HN := box hN
  clear hs ht ha hb hK hM hN
  unfold sb at hr
  by_cases hlt : a < b
  · rw [if_pos hlt] at hr
    cases hr
    have HLE := box hlt
    clear hlt
    go_enter Tryz.func65, Tryz.ntmps65
    go_wp2_with fail
    refine (n_may2 s t true HO.out _ w).mono ?_
    rintro r w0 ⟨rfl, rfl⟩
    have b0 := bal w (.cells #[.string s, .string t] 22)
    go_wp2_with fail
    refine (l_wordsOf a K s HS.out (by have := HA.out; omega) HK.out _).mono ?_
    rintro r w1 ⟨p, c, rfl, s1, b1⟩
    go_wp2_with fail
    refine (l_wordsOf b M t HT.out (by have := HB.out; omega) HM.out _).mono ?_
    rintro r w2 ⟨q, d, rfl, s2, b2⟩
    go_wp2_with fail
    refine (l_diff_no w2 p q K c a M d b w2.heap.size ((s1.below b2 (Nat.le_refl _)).mono b2.size) s2 (Nat.le_refl _) (by omega) (by omega) HLE.out).mono ?_
    rintro r w3 ⟨rfl, b3⟩
    go_wp2
    go_ret2
    exact ⟨rfl, btr b0 (btr b1 (btr b2 b3))⟩
  · rw [if_neg hlt] at hr
    obtain ⟨hv, he⟩ := Prod.mk.inj hr
    subst he
    have HV := box hv
    have HLE : Box (b ≤ a) := box (by omega)
    clear hlt hr hv
    go_enter Tryz.func65, Tryz.ntmps65
    go_wp2_with fail
    refine (n_may2 s t true HO.out _ w).mono ?_
    rintro r w0 ⟨rfl, rfl⟩
    have b0 := bal w (.cells #[.string s, .string t] 22)
    go_wp2_with fail
    refine (l_wordsOf a K s HS.out (by have := HA.out; omega) HK.out _).mono ?_
    rintro r w1 ⟨p, c, rfl, s1, b1⟩
    go_wp2_with fail
    refine (l_wordsOf b M t HT.out (by have := HB.out; omega) HM.out _).mono ?_
    rintro r w2 ⟨q, d, rfl, s2, b2⟩
    go_wp2_with fail
    refine (l_diff_ok w2 p q K c a M d b w2.heap.size N ((s1.below b2 (Nat.le_refl _)).mono b2.size) s2 (Nat.le_refl _) (by omega) (by omega) HLE.out HN.out).mono ?_
    rintro r w3 ⟨u, f, rfl, s3, b3⟩
    go_wp2_with fail
    refine (l_natOf w3 u N f (a - b) _ v s3 (Nat.le_refl _) (by omega) HV.out).mono ?_
    rintro r w4 ⟨rfl, b4⟩
    go_wp2
    go_ret2
    exact ⟨rfl, btr b0 (btr b1 (btr b2 (btr b3 b4)))⟩
theorem pn_mul_no (s t : ByteArray) (h : mayB s = false ∨ mayB t = false) (w : World) :
    Calls Tryz.prog 38 #[.string s, .string t] w fun r w' => r = .returned (.tuple #[.string ⟨#[]⟩, .int .i64 2]) ∧ Below w.heap.size w w' := by
  have HO := box (no2 h)
  clear h
  go_enter Tryz.func38, Tryz.ntmps38
  go_wp2_with fail
  refine (n_may2 s t false HO.out _ w).mono ?_
  rintro r w0 ⟨rfl, rfl⟩
  go_wp2
  go_ret2
  exact ⟨rfl, bal _ _⟩
theorem pn_cmp_no (s t : ByteArray) (h : mayB s = false ∨ mayB t = false) (w : World) :
    Calls Tryz.prog 24 #[.string s, .string t] w fun r w' => r = .returned (.tuple #[.int .i64 0, .int .i64 2]) ∧ Below w.heap.size w w' := by
  have HO := box (no2 h)
  clear h
  go_enter Tryz.func24, Tryz.ntmps24
  go_wp2_with fail
  refine (n_may2 s t false HO.out _ w).mono ?_
  rintro r w0 ⟨rfl, rfl⟩
  go_wp2
  go_ret2
  exact ⟨rfl, bal _ _⟩
end Go.Proofs.YtknkkagapcigfaaGreatDoor
