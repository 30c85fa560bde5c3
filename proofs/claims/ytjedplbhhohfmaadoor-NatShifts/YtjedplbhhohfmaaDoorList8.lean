/-
  What the functions Len, Mul and Cmp of package nat return.
-/
import Derived.Test.YtjedplbhhohfmaaDoorList7
namespace Go.Proofs.YtjedplbhhohfmaaDoor
open Go.RowKit WMath

theorem pn_len_no (s : ByteArray) (hm : mayB s = false) (w : World) :
    Calls Tryd.prog 13 #[.string s] w fun r w' => r = .returned (.int .i64 0) ∧ Below w.heap.size w w' := by
  have HO := box hm
  clear hm
  go_enter Tryd.func13, Tryd.ntmps13
  go_wp2_with fail
  refine (n_may1 s false HO.out _ w).mono ?_
  rintro r w0 ⟨rfl, rfl⟩
  go_wp2
  go_ret
  exact ⟨rfl, bal _ _⟩
theorem pn_len_ok (n l : Nat) (s : ByteArray) (hs : nbA n = s) (h : nl n ≤ 16384) (hl : blen n = l) (w : World) :
    Calls Tryd.prog 13 #[.string s] w fun r w' => r = .returned (.int .i64 (l : Nat)) ∧ Below w.heap.size w w' := by
  obtain ⟨L, hL⟩ : ∃ L, nl n = L := ⟨_, rfl⟩
  have hz : s.size = L := by rw [← hs, nbA_size, hL]
  have HM : Box (mayB s = true) := box (by rw [← hs]; exact mayB_nb n h)
  have d2 := eq_empty s
  rw [hL] at h
  by_cases h0 : n = 0
  · have e : l = 0 := by rw [← hl, h0]; rfl
    have e2 : L = 0 := by rw [← hL, h0]; exact nl_zero
    subst e
    rw [decide_eq_true (by omega)] at d2
    clear hs hl hL h0
    go_enter Tryd.func13, Tryd.ntmps13
    go_wp2_with fail
    refine (n_may1 s true HM.out _ w).mono ?_
    rintro r w0 ⟨rfl, rfl⟩
    go_wp2
    go_ret
    exact ⟨rfl, bal _ _⟩
  · have hp := nl_pos n h0
    rw [hL] at hp
    rw [decide_eq_false (by omega)] at d2
    have hp2 : 0 < s.size := by omega
    obtain ⟨x, hx⟩ : ∃ x, (s[0]'hp2).toNat = x := ⟨_, rfl⟩
    have hxd : d8 n (L - 1) = x := by
      rw [← hx]
      have e := hs
      subst e
      rw [nbA_get, hL, Nat.sub_zero]
    have hi := idx_runN s 0 0 x rfl hp2 hx
    have x256 : x < 256 := by rw [← hxd]; exact d8_lt _ _
    have e := blen_nl n L x h0 hL hxd
    rw [hl] at e
    obtain ⟨y, hy⟩ : ∃ y, Lib.bitLen x = y := ⟨_, rfl⟩
    rw [← bitLen_blen x (by omega), hy] at e
    have n4 : IntKind.u64.wrap (x : Int) = (x : Int) := by rw [IntKind.wrap_u64]; omega
    have n1 : IntKind.i64.wrap ((L : Int) - 1) = (L : Int) - 1 := wrap_i64_is _ (by omega) (by omega)
    have n2 : IntKind.i64.wrap (((L : Int) - 1) * 8) = ((L : Int) - 1) * 8 := wrap_i64_is _ (by omega) (by omega)
    have y64 : y ≤ 64 := by rw [← hy, bitLen_blen x (by omega)]; exact blen_le_of x 64 (by rw [← two64]; omega)
    have n3 : IntKind.i64.wrap (((L : Int) - 1) * 8 + (y : Int)) = (l : Int) := by rw [wrap_i64_is _ (by omega) (by omega)]; omega
    have x64 : x < 18446744073709551616 := by omega
    have HY := box hy
    clear hs hl hL h0 hx hxd hy e
    go_enter Tryd.func13, Tryd.ntmps13
    go_wp2_with fail
    refine (n_may1 s true HM.out _ w).mono ?_
    rintro r w0 ⟨rfl, rfl⟩
    go_wp2_with fail
    refine (len_any x x64 _).mono ?_
    rintro e w' ⟨rfl, rfl⟩
    rw [HY.out]
    go_wp2
    go_ret
    exact ⟨rfl, bal _ _⟩

end Go.Proofs.YtjedplbhhohfmaaDoor
