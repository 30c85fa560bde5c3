/-
  What the functions trim, bitLen, compare of package nat return.
-/
import Derived.Test.YtknkkagapcigfaaDoorList1
import Derived.Test.YtknkkagapcigfaaDoorGx
namespace Go.Proofs.YtknkkagapcigfaaDoor
open Go.RowKit WMath

theorem SL.cell {B : Nat} {w : World} {b o L c n : Nat} (h : SL B w (some ⟨b, o, none⟩) L c n) (k x : Nat) (hk : k < L) (hx : wd n k = x) : w.cell? ⟨b, o + k, none⟩ = some (.int .u64 (x : Nat)) := by
  obtain ⟨b', o', e, _, hc⟩ := h.2.2 (by omega)
  simp only [Option.some.injEq, Addr.mk.injEq] at e
  obtain ⟨rfl, rfl, _⟩ := e
  rw [hc k hk, hx]
theorem SL.ptr {B : Nat} {w : World} {p : Option Addr} {L c n : Nat} (h : SL B w p L c n) (hL : 0 < L) : ∃ b o, p = some ⟨b, o, none⟩ ∧ b < B := by
  obtain ⟨b, o, e, hb, _⟩ := h.2.2 hL
  exact ⟨b, o, e, hb⟩
/-- The list without its highest word, which is 0. -/
theorem SL.cut {B : Nat} {w : World} {p : Option Addr} {L c n : Nat} (h : SL B w p (L + 1) c n) (hz : wd n L = 0) : SL B w p L c n :=
  ⟨trim_step n L h.1 hz, by have := h.2.1; omega, fun hL => by
    obtain ⟨b, o, e, hb, hc⟩ := h.2.2 (by omega)
    exact ⟨b, o, e, hb, fun k hk => hc k (by omega)⟩⟩
theorem SL.row {w : World} {b N X c : Nat} {T : TypeId} (r : w.heap[b]? = some (.cells (cw N X) T)) (B : Nat) (hB : b < B) (hX : X < 2 ^ (64 * N)) (hc : N ≤ c) : SL B w (some ⟨b, 0, none⟩) N c X :=
  ⟨hX, hc, fun _ => ⟨b, 0, rfl, hB, fun k hk => by rw [Nat.zero_add, cell_of_row w b k _ _ _ r, cw_at N X k hk]⟩⟩

/-- How long a slice is. -/
def lenOf : Value → Nat | .slice _ k _ => k | _ => 0

set_option maxHeartbeats 1000000 in
theorem l_trim (w : World) (p : Option Addr) (L c n M B : Nat) (h : SL B w p L c n) (hL : L ≤ 100000) (hM : wl n = M) :
    Calls Tryd.prog 68 #[.slice p L c] w fun r w' => ∃ q d, r = .returned (.slice q M d) ∧ SL B w q M d n ∧ w' = w := by
  have HM := box hM
  clear hM
  go_enter Tryd.func68, Tryd.ntmps68
  go_wp2
  go_loopw [0] (fun lv wr => ∃ k, lv = .slice p k c ∧ k ≤ L ∧ SL B w p k c n ∧ wr = w) (fun lv _ => lenOf lv)
  case atStart => exact ⟨L, rfl, Nat.le_refl _, h, rfl⟩
  case round =>
    obtain ⟨k, rfl, hk, hs, rfl⟩ := hrel
    by_cases h0 : k = 0
    · subst h0
      have e : n = 0 := by have := hs.1; rw [Nat.mul_zero, Nat.pow_zero] at this; omega
      subst e
      have e2 := HM.out
      rw [wl_zero] at e2
      subst e2
      clear h
      go_wp2
      go_ret
      exact ⟨p, c, rfl, hs, rfl⟩
    · obtain ⟨b, o, rfl, hb⟩ := hs.ptr (by omega)
      obtain ⟨K, rfl⟩ : ∃ K, k = K + 1 := ⟨k - 1, by omega⟩
      obtain ⟨x, hx⟩ : ∃ x, wd n K = x := ⟨_, rfl⟩
      have x64 : x < 18446744073709551616 := by rw [← hx]; exact wd_lt _ _
      have c1 := hs.cell K x (by omega) hx
      have hc := hs.2.1
      have n1 : IntKind.i64.wrap (((K + 1 : Nat) : Int) - 1) = (K : Int) := by rw [wrap_i64_is _ (by omega) (by omega)]; omega
      have n2 : IntKind.i64.wrap ((K : Int) + 1 - 1) = (K : Int) := by rw [wrap_i64_is _ (by omega) (by omega)]; omega
      by_cases hx0 : x = 0
      · subst hx0
        have S2 := box (hs.cut hx)
        clear hx hs h
        go_wp2
        go_roundw
        case rel => exact ⟨K, rfl, by omega, S2.out, by first | rfl | trivial⟩
        case measure => simp [lenOf]
      · have e : wl n = K + 1 := wl_is n (K + 1) hs.1 (Or.inr (by rw [Nat.add_sub_cancel, hx]; exact hx0))
        rw [HM.out] at e
        subst e
        have S2 := box hs
        have d1 : decide (x = 0) = false := decide_eq_false hx0
        clear hx hs h
        go_wp2
        go_ret
        exact ⟨_, c, rfl, S2.out, rfl⟩

theorem l_bitLen (w : World) (p : Option Addr) (L c n l B : Nat) (h : SL B w p L c n) (hL : L ≤ 100000) (hM : wl n = L) (hl : blen n = l) :
    Calls Tryd.prog 67 #[.slice p L c] w fun r w' => r = .returned (.int .i64 (l : Nat)) ∧ w' = w := by
  by_cases h0 : L = 0
  · subst h0
    have e : n = 0 := wl_eq0 n hM
    subst e
    rw [blen_zero] at hl
    subst hl
    clear hM h
    go_enter Tryd.func67, Tryd.ntmps67
    go_wp2
    go_ret
    exact ⟨rfl, rfl⟩
  · obtain ⟨b, o, rfl, hb⟩ := h.ptr (by omega)
    obtain ⟨K, rfl⟩ : ∃ K, L = K + 1 := ⟨L - 1, by omega⟩
    obtain ⟨x, hx⟩ : ∃ x, wd n K = x := ⟨_, rfl⟩
    obtain ⟨y, hy⟩ : ∃ y, Lib.bitLen x = y := ⟨_, rfl⟩
    have x64 : x < 18446744073709551616 := by rw [← hx]; exact wd_lt _ _
    have c1 := h.cell K x (by omega) hx
    have hn : n ≠ 0 := fun e => by rw [e, wl_zero] at hM; omega
    have e := blen_wl n hn
    rw [hM, Nat.add_sub_cancel, hx, hl, ← bitLen_blen x x64, hy] at e
    have hy64 : y ≤ 64 := by rw [← hy, bitLen_blen x x64]; exact blen_le_of x 64 (by rw [← two64]; exact x64)
    have d1 : decide (K + 1 = 0) = false := decide_eq_false (by omega)
    have n1 : ((K + 1 : Nat) : Int) - 1 = (K : Int) := by omega
    have n2 : IntKind.i64.wrap ((K : Int) * 64) = (K : Int) * 64 := wrap_i64_is _ (by omega) (by omega)
    have n3 : IntKind.i64.wrap ((K : Int) * 64 + (y : Int)) = (l : Int) := by rw [wrap_i64_is _ (by omega) (by omega)]; omega
    have n4 : IntKind.i64.wrap (K : Int) = (K : Int) := wrap_i64_is _ (by omega) (by omega)
    have HY := box hy
    clear hM hl hx hy h e hn
    go_enter Tryd.func67, Tryd.ntmps67
    go_wp2_with fail
    refine (len_any x x64 _).mono ?_
    rintro e w' ⟨rfl, rfl⟩
    rw [HY.out]
    go_wp2
    go_ret
    exact ⟨rfl, rfl⟩
end Go.Proofs.YtknkkagapcigfaaDoor
