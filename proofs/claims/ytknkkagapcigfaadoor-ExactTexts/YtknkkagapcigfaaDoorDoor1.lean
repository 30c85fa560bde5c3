/-
  What the functions Of, OfWide, ToWide, Low, Left and Right of package nat return; Low where the library's table lies as the program's text lays it.
-/
import Derived.Test.YtknkkagapcigfaaDoorList11
import Derived.Test.YtknkkagapcigfaaDoorList8
import Derived.Test.YtknkkagapcigfaaDoorNat6
import Derived.Test.YtknkkagapcigfaaDoorBits1
namespace Go.Proofs.YtknkkagapcigfaaDoor
open Go.RowKit WMath

theorem tabB {w w' : World} (h : TabAt w) (hb : Below w.heap.size w w') : TabAt w' := fun i hi => by
  rw [hb.cell (p := ⟨1, i, none⟩) (World.block_lt_of_cell? w _ (h i hi))]
  exact h i hi
theorem tabA {w : World} (h : TabAt w) (o : Obj) : TabAt (w.alloc o) := tabB h (bal w o)

theorem cw1 (x : Nat) (h : x < 18446744073709551616) : #[Value.int .u64 (x : Nat)] = cw 1 x := by
  have e : wd x 0 = x := by unfold wd; rw [Nat.mul_zero, Nat.pow_zero, Nat.div_one, Nat.mod_eq_of_lt h]
  show _ = #[Value.int .u64 (wd x 0 : Nat)]
  rw [e]

theorem lowB8 (x r : Nat) (hx : x < 256) (h : LowB x r) : LowIs x r ∧ r < 8 := by
  have h8 : r < 8 := by
    by_cases e : r < 8
    · exact e
    · have := lt_bit (n := x) (q := 8) (by rw [← two8]; exact hx) (show 8 ≤ r by omega)
      rw [h.2] at this
      exact absurd this (by decide)
  exact ⟨⟨by omega, h.1, h.2⟩, h8⟩

theorem pn_low_no (s : ByteArray) (hm : mayB s = false) (w : World) :
    Calls Tryd.prog 28 #[.string s] w fun r w' => r = .returned (.int .i64 0) ∧ Below w.heap.size w w' := by
  have HO := box hm
  clear hm
  go_enter Tryd.func28, Tryd.ntmps28
  go_wp2_with fail
  refine (n_may1 s false HO.out _ w).mono ?_
  rintro r w0 ⟨rfl, rfl⟩
  go_wp2
  go_ret
  exact ⟨rfl, bal _ _⟩
set_option maxRecDepth 100000 in
set_option maxHeartbeats 1000000 in
theorem pn_low_ok (n t : Nat) (s : ByteArray) (hs : nbA n = s) (h : nl n ≤ 16384) (ht : LowN n t) (w : World) (hT : TabAt w) :
    Calls Tryd.prog 28 #[.string s] w fun r w' => r = .returned (.int .i64 (t : Nat)) ∧ Below w.heap.size w w' := by
  obtain ⟨L, hL⟩ : ∃ L, nl n = L := ⟨_, rfl⟩
  have hz : s.size = L := by rw [← hs, nbA_size, hL]
  have HM : Box (mayB s = true) := box (by rw [← hs]; exact mayB_nb n h)
  rw [hL] at h
  have HS := box hs
  have HT := box ht
  have HL := box hL
  have TA := box (tabA hT (.cells #[.string s] 22))
  have b0 := bal w (.cells #[.string s] 22)
  clear hs ht hL hT
  go_enter Tryd.func28, Tryd.ntmps28
  go_wp2_with fail
  refine (n_may1 s true HM.out _ w).mono ?_
  rintro r w0 ⟨rfl, rfl⟩
  go_wp2
  go_loopw [11] (fun iv wr => ∃ i : Nat, i ≤ L ∧ iv = .int .i64 i ∧ wr = w.alloc (.cells #[.string s] 22) ∧ Box (n % 2 ^ (8 * i) = 0)) (fun iv _ => L - (intOf iv).toNat)
  case atStart => exact ⟨0, by omega, rfl, rfl, box (by rw [Nat.mul_zero, Nat.pow_zero, Nat.mod_one])⟩
  case round =>
    obtain ⟨i, hi, rfl, rfl, HE⟩ := hrel
    by_cases hlt : i < L
    · obtain ⟨k, hk⟩ : ∃ k, L - 1 - i = k := ⟨_, rfl⟩
      have hk2 : k < s.size := by omega
      obtain ⟨x, hx⟩ : ∃ x, (s[k]'hk2).toNat = x := ⟨_, rfl⟩
      have hxd : d8 n i = x := by
        rw [← hx]
        have e := HS.out
        subst e
        rw [nbA_get, HL.out, ← hk, show L - 1 - (L - 1 - i) = i by omega]
      have x256 : x < 256 := by rw [← hxd]; exact d8_lt _ _
      have n1 : IntKind.i64.wrap ((L : Int) - 1) = (L : Int) - 1 := wrap_i64_is _ (by omega) (by omega)
      have n2 : IntKind.i64.wrap ((L : Int) - 1 - (i : Int)) = (k : Int) := by rw [wrap_i64_is _ (by omega) (by omega)]; omega
      have n2' : (L : Int) - 1 - (i : Int) = (k : Int) := by omega
      have n2'' : IntKind.i64.wrap (k : Int) = (k : Int) := wrap_i64_is _ (by omega) (by omega)
      have hxr := idx_runN s k (k : Int) x rfl hk2 hx
      have dl : decide (i < L) = true := decide_eq_true hlt
      by_cases hx0 : x = 0
      · have NE : Box (n % 2 ^ (8 * (i + 1)) = 0) := box (by rw [mod_d8, HE.out, hxd, hx0, Nat.mul_zero])
        have d0 : ((x : Int) != 0) = false := by simp; omega
        clear hk hx hxd HE hx0
        go_wp2
        go_roundw
        case rel => exact ⟨i + 1, by omega, by go_num, by first | rfl | trivial, NE⟩
        case measure => simp [intOf] <;> omega
      · obtain ⟨r, hr⟩ := lowB_any x hx0
        obtain ⟨hr1, r8⟩ := lowB8 x r x256 hr
        have hnl := lowB_d8 n i r HE.out (by rw [hxd]; exact hr) r8
        have et : 8 * i + r = t := by
          rcases HT.out with ⟨h1, _⟩ | ⟨_, h2⟩
          · exfalso
            rw [h1, d8_zero] at hxd
            exact hx0 hxd.symm
          · exact lowB_one n _ _ hnl h2
        have d0 : ((x : Int) != 0) = true := by simp; omega
        have LW := box (low_any x r (by omega) hr1 _ TA.out)
        have n3 : IntKind.u64.wrap (x : Int) = (x : Int) := by rw [IntKind.wrap_u64]; omega
        have n4 : IntKind.i64.wrap ((i : Int) * 8) = (i : Int) * 8 := wrap_i64_is _ (by omega) (by omega)
        have n5 : IntKind.i64.wrap ((i : Int) * 8 + (r : Int)) = (t : Int) := by rw [wrap_i64_is _ (by omega) (by omega)]; omega
        clear hk hx hxd HE hx0 hr hr1 hnl et
        go_wp2_with fail
        refine LW.out.mono ?_
        rintro e w' ⟨rfl, rfl⟩
        go_wp2
        go_ret
        exact ⟨rfl, b0⟩
    · obtain rfl : i = L := by omega
      have e := HE.out
      rw [Nat.mod_eq_of_lt (by rw [← HL.out]; exact nl_lt n)] at e
      have et : t = 0 := by
        rcases HT.out with ⟨_, h2⟩ | ⟨h1, _⟩
        · exact h2
        · exact absurd e h1
      subst et
      have dl : decide (i < i) = false := by rw [decide_eq_false_iff_not]; omega
      clear e
      go_wp2
      go_ret
      exact ⟨rfl, b0⟩

theorem blen_shl (b n : Nat) (hb : b ≠ 0) : blen (b * 2 ^ n) = blen b + n := by
  have h1 := blen_le b hb
  have h2 := blen_lt b
  have h3 := blen_pos b hb
  have e : blen b + n = blen b - 1 + n + 1 := by omega
  rw [e]
  apply blen_of
  · rw [Nat.pow_add]; exact Nat.mul_le_mul_right _ h1
  · rw [show blen b - 1 + n + 1 = blen b + n by omega, Nat.pow_add]
    exact Nat.mul_lt_mul_of_pos_right h2 (Nat.two_pow_pos _)
end Go.Proofs.YtknkkagapcigfaaDoor
