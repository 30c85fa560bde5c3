/-
  What the functions Len, Low, OfWide and ToWide of the document's answer for layer 5 return.
-/
import Derived.Test.YtknkkagapcigfaaDoorGx
import Derived.Deep.RegionWith
namespace Go.Proofs.YtknkkagapcigfaaDoor
open Go.RowKit WMath

theorem nat_Len_no (s : ByteArray) (hm : mayB s = false) (w : World) :
    Calls Tryd.prog 36 #[.string s] w fun r w' => r = .returned (.int .i64 0) ∧ w' = w := by
  go_enter Tryd.func36, Tryd.ntmps36
  go_wp2_with fail
  refine (nat_may s false hm _).mono ?_
  rintro r w' ⟨rfl, rfl⟩
  go_wp2
  go_ret
  exact ⟨rfl, rfl⟩

theorem blen_nl (n L x : Nat) (h : n ≠ 0) (hL : nl n = L) (hx : d8 n (L - 1) = x) : 8 * (L - 1) + blen x = blen n := by
  have hp := nl_pos n h
  have ht := nl_top n h
  have hl := nl_lt n
  rw [hL] at hp ht hl
  rw [hx] at ht
  obtain ⟨k, rfl⟩ : ∃ k, L = k + 1 := ⟨L - 1, by omega⟩
  rw [Nat.add_sub_cancel] at hx ⊢
  have e := mod_d8 n k
  rw [Nat.mod_eq_of_lt hl, hx] at e
  rw [e, blen_push _ _ _ (Nat.mod_lt _ (Nat.two_pow_pos _)) ht]

theorem nat_Len (n l : Nat) (s : ByteArray) (hs : nbA n = s) (h : nl n ≤ 16384) (hl : blen n = l) (w : World) :
    Calls Tryd.prog 36 #[.string s] w fun r w' => r = .returned (.int .i64 (l : Nat)) ∧ w' = w := by
  obtain ⟨L, hL⟩ : ∃ L, nl n = L := ⟨_, rfl⟩
  have hz : s.size = L := by rw [← hs, nbA_size, hL]
  have hm : mayB s = true := by rw [← hs]; exact mayB_nb n h
  have HM := box hm
  have d2 := eq_empty s
  rw [hL] at h
  by_cases h0 : n = 0
  · have e : l = 0 := by rw [← hl, h0]; rfl
    have e2 : L = 0 := by rw [← hL, h0]; exact nl_zero
    subst e
    rw [decide_eq_true (by omega)] at d2
    clear hs hl hL hm h0
    go_enter Tryd.func36, Tryd.ntmps36
    go_wp2_with fail
    refine (nat_may s true HM.out _).mono ?_
    rintro r w' ⟨rfl, rfl⟩
    go_wp2
    go_ret
    exact ⟨rfl, rfl⟩
  · have hp := nl_pos n h0
    rw [hL] at hp
    rw [decide_eq_false (by omega)] at d2
    have hp2 : 0 < s.size := by omega
    obtain ⟨x, hx⟩ : ∃ x, (s[0]'hp2).toNat = x := ⟨_, rfl⟩
    have hxd : d8 n (L - 1) = x := by
      rw [← hx]
      subst hs
      rw [nbA_get, hL]
      rfl
    have x256 : x < 256 := by rw [← hxd]; exact d8_lt _ _
    have hb := blen_nl n L x h0 hL hxd
    obtain ⟨y, hy⟩ : ∃ y, blen x = y := ⟨_, rfl⟩
    rw [hy, hl] at hb
    have y8 : y ≤ 8 := by rw [← hy]; exact blen_le_of x 8 (by rw [← two8]; exact x256)
    have HY := box hy
    have hi := idx_run s 0 0 x rfl hp2 hx
    have n1 : IntKind.i64.wrap ((L : Int) - 1) = (L : Int) - 1 := wrap_i64_is _ (by omega) (by omega)
    have n2 : IntKind.i64.wrap (8 * ((L : Int) - 1)) = 8 * ((L : Int) - 1) := wrap_i64_is _ (by omega) (by omega)
    have n3 : IntKind.i64.wrap (8 * ((L : Int) - 1) + (y : Int)) = (l : Int) := by rw [wrap_i64_is _ (by omega) (by omega)]; omega
    have n4 : IntKind.u64.wrap (x : Int) = (x : Int) := by rw [IntKind.wrap_u64]; omega
    have X64 : Box (x < 18446744073709551616) := box (by omega)
    clear hs hl hL hm h0 hxd hb hy hx
    go_enter Tryd.func36, Tryd.ntmps36
    go_wp2_with fail
    refine (nat_may s true HM.out _).mono ?_
    rintro r w' ⟨rfl, rfl⟩
    go_wp2_with fail
    refine (rlen_is x y X64.out HY.out _).mono ?_
    rintro r w' ⟨rfl, rfl⟩
    go_wp2
    go_ret
    exact ⟨rfl, rfl⟩

/-- t is the place of the lowest bit of n that is 1. -/
def LowB (n t : Nat) : Prop := n % 2 ^ t = 0 ∧ n.testBit t = true
theorem lowB_one (n s t : Nat) (h : LowB n s) (g : LowB n t) : s = t := by
  have hlt : ∀ a b, LowB n a → LowB n b → ¬ a < b := by
    intro a b ha hb hab
    have h1 := Nat.testBit_mod_two_pow n b a
    rw [hb.1, ha.2] at h1
    simp [hab] at h1
  have h1 := hlt s t h g
  have h2 := hlt t s g h
  omega
theorem lowB_ex : ∀ (k n : Nat), n ≠ 0 → n < 2 ^ k → ∃ t, t < k ∧ LowB n t
  | 0, n, h, hn => by rw [Nat.pow_zero] at hn; omega
  | k + 1, n, h, hn => by
    by_cases h2 : n % 2 = 0
    · obtain ⟨t, h3, h4, h5⟩ := lowB_ex k (n / 2) (by omega) (by rw [Nat.pow_succ] at hn; omega)
      refine ⟨t + 1, by omega, ?_, ?_⟩
      · rw [Nat.pow_succ, Nat.mul_comm, Nat.mod_mul, h2, h4]
      · rw [Nat.testBit_succ]; exact h5
    · exact ⟨0, by omega, by rw [Nat.pow_zero, Nat.mod_one], by rw [Nat.testBit_zero]; simp; omega⟩
theorem lowB_any (n : Nat) (h : n ≠ 0) : ∃ t, LowB n t := by
  obtain ⟨t, _, ht⟩ := lowB_ex _ n h (blen_lt n)
  exact ⟨t, ht⟩
theorem lowB_d8 (n i r : Nat) (h0 : n % 2 ^ (8 * i) = 0) (h : LowB (d8 n i) r) (hr : r < 8) : LowB n (8 * i + r) := by
  have hb := d8_bit n i r
  refine ⟨?_, ?_⟩
  · rw [Nat.pow_add, Nat.mod_mul, h0, Nat.zero_add]
    have h1 := h.1
    unfold d8 at h1
    rw [two8, Nat.mod_mod_of_dvd _ (Nat.pow_dvd_pow 2 (by omega : r ≤ 8))] at h1
    rw [h1, Nat.mul_zero]
  · rw [h.2, decide_eq_true hr, Bool.true_and] at hb
    exact hb.symm

/-- The place of the lowest bit, 0 of 0. -/
def LowN (n t : Nat) : Prop := (n = 0 ∧ t = 0) ∨ (n ≠ 0 ∧ LowB n t)
theorem lowN_any (n : Nat) : ∃ t, LowN n t := by
  by_cases h : n = 0
  · exact ⟨0, Or.inl ⟨h, rfl⟩⟩
  · obtain ⟨t, ht⟩ := lowB_any n h
    exact ⟨t, Or.inr ⟨h, ht⟩⟩

theorem nat_Low_no (s : ByteArray) (hm : mayB s = false) (w : World) :
    Calls Tryd.prog 52 #[.string s] w fun r w' => r = .returned (.int .i64 0) ∧ w' = w := by
  go_enter Tryd.func52, Tryd.ntmps52
  go_wp2_with fail
  refine (nat_may s false hm _).mono ?_
  rintro r w' ⟨rfl, rfl⟩
  go_wp2
  go_ret
  exact ⟨rfl, rfl⟩

theorem nat_Low (n t : Nat) (s : ByteArray) (hs : nbA n = s) (h : nl n ≤ 16384) (ht : LowN n t) (w : World) :
    Calls Tryd.prog 52 #[.string s] w fun r w' => r = .returned (.int .i64 (t : Nat)) ∧ w' = w := by
  obtain ⟨L, hL⟩ : ∃ L, nl n = L := ⟨_, rfl⟩
  have hz : s.size = L := by rw [← hs, nbA_size, hL]
  have hm : mayB s = true := by rw [← hs]; exact mayB_nb n h
  have HM := box hm
  rw [hL] at h
  have HS := box hs
  have HT := box ht
  have HL := box hL
  have NA : Box (nl n ≤ 100000) := box (by omega)
  clear hs hL hm ht
  go_enter Tryd.func52, Tryd.ntmps52
  go_wp2_with fail
  refine (nat_may s true HM.out _).mono ?_
  rintro r w' ⟨rfl, rfl⟩
  go_wp2
  go_loop [3] (fun iv => ∃ i : Nat, i ≤ L ∧ iv = .int .i64 i ∧ Box (n % 2 ^ (8 * i) = 0)) (fun iv => L - (intOf iv).toNat)
  case atStart => exact ⟨0, by omega, rfl, box (by rw [Nat.mul_zero, Nat.pow_zero, Nat.mod_one])⟩
  case round =>
    obtain ⟨i, hi, rfl, HE⟩ := hrel
    by_cases hlt : i < L
    · obtain ⟨x, hx⟩ : ∃ x, d8 n i = x := ⟨_, rfl⟩
      have x256 : x < 256 := by rw [← hx]; exact d8_lt _ _
      have dl : decide (i < L) = true := decide_eq_true hlt
      have HX := box hx
      by_cases h0 : x = 0
      · have y : ((x : Int) != 0) = false := by rw [h0]; rfl
        have NX : Box (n % 2 ^ (8 * (i + 1)) = 0) := box (by rw [mod_d8, HE.out, hx, h0, Nat.mul_zero])
        clear hx h0
        go_wp2_with fail
        refine (nat_at n i x s HS.out HX.out NA.out _).mono ?_
        rintro r w' ⟨rfl, rfl⟩
        go_wp2
        go_round
        case rel => exact ⟨i + 1, by omega, by go_num, NX⟩
        case measure => simp [intOf] <;> omega
      · have y : ((x : Int) != 0) = true := by simp; omega
        obtain ⟨r, hr8, hr⟩ := lowB_ex 8 x h0 (by rw [← two8]; exact x256)
        have LI : Box (LowIs x r) := box ⟨by omega, hr.1, hr.2⟩
        have e : 8 * i + r = t := by
          have h1 := lowB_d8 n i r HE.out (by rw [hx]; exact hr) hr8
          rcases HT.out with ⟨h2, h3⟩ | ⟨h2, h3⟩
          · exact absurd (show x = 0 by rw [← hx, h2, d8_zero]) h0
          · exact lowB_one n _ _ h1 h3
        have n2 : IntKind.i64.wrap (8 * (i : Int)) = 8 * (i : Int) := wrap_i64_is _ (by omega) (by omega)
        have n3 : IntKind.i64.wrap (8 * (i : Int) + (r : Int)) = (t : Int) := by rw [wrap_i64_is _ (by omega) (by omega)]; omega
        have n4 : IntKind.u64.wrap (x : Int) = (x : Int) := by rw [IntKind.wrap_u64]; omega
        have X64 : Box (x < 18446744073709551616) := box (by omega)
        clear hx hr e h0
        go_wp2_with fail
        refine (nat_at n i x s HS.out HX.out NA.out _).mono ?_
        rintro r w' ⟨rfl, rfl⟩
        go_wp2_with fail
        refine (nat_at n i x s HS.out HX.out NA.out _).mono ?_
        rintro r w' ⟨rfl, rfl⟩
        go_wp2_with fail
        refine (rlow_any x r X64.out LI.out _).mono ?_
        rintro r w' ⟨rfl, rfl⟩
        go_wp2
        go_ret
        exact ⟨rfl, rfl⟩
    · obtain rfl : i = L := by omega
      have e : t = 0 := by
        have h1 := HE.out
        rw [Nat.mod_eq_of_lt (by rw [← HL.out]; exact nl_lt n)] at h1
        rcases HT.out with ⟨h2, h3⟩ | ⟨h2, h3⟩
        · exact h3
        · exact absurd h1 h2
      subst e
      have dl : decide (i < i) = false := by rw [decide_eq_false_iff_not]; omega
      go_wp2
      go_ret
      exact ⟨rfl, rfl⟩

theorem d8_wd (n i q r : Nat) (hq : q = i / 8) (hr : r = 8 * (i % 8)) : wd n q / 2 ^ r % 256 = d8 n i := by
  rw [two8, field_num n q r 8 (8 * i) (by omega) (by omega)]
  unfold d8
  rw [two8]
theorem Q48 : ∃ L, L = 48 ∧ Q = 2 ^ (8 * L) := by
  obtain ⟨L, hL, hQ⟩ := Q_of
  exact ⟨8 * L, by omega, by rw [hQ]; congr 1; omega⟩

theorem toWide_step (n i q r x : Nat) (hq : q = i / 8) (hr : r = 8 * (i % 8)) (hx : d8 n i = x) : n % 2 ^ (8 * i) ||| x * 2 ^ r * 2 ^ (64 * q) = n % 2 ^ (8 * (i + 1)) := by
  rw [Nat.mul_assoc, ← Nat.pow_add, show r + 64 * q = 8 * i by omega, mod_d8, hx, Nat.mul_comm (2 ^ (8 * i)) x]
  exact (or_disj _ _ _ (Nat.mod_lt _ (Nat.two_pow_pos _))).symm

end Go.Proofs.YtknkkagapcigfaaDoor
