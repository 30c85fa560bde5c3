/-
  What the functions up and down of package nat return.
-/
import Derived.Test.YtknkkagapcigfaaDoorList10
namespace Go.Proofs.YtknkkagapcigfaaDoor
open Go.RowKit WMath

theorem l_up (w : World) (p : Option Addr) (L c n s K B : Nat) (h : SL B w p L c n) (hB : B ≤ w.heap.size) (hL : L ≤ 50000) (hs : s ≤ 1000000) (hK : wl (n * 2 ^ s) = K) :
    Calls Tryd.prog 75 #[.slice p L c, .int .i64 (s : Nat)] w fun r w' => ∃ g d, r = .returned (.slice g K d) ∧ SL w'.heap.size w' g K d (n * 2 ^ s) ∧ Below w.heap.size w w' := by
  obtain ⟨q, hq⟩ : ∃ q, s / 64 = q := ⟨_, rfl⟩
  have hlt := raise_lt n L s q h.1 (by omega)
  have HK := box hK
  have HQ := box hq
  have HL := box hlt
  have q2 : q ≤ 20000 := by omega
  clear hK hq hlt
  go_enter Tryd.func75, Tryd.ntmps75
  go_wp2_with fail
  refine (l_raise w p L c n s q B h hB (by omega) hs HQ.out).mono ?_
  rintro e w1 ⟨g, rfl, hg, r1, b1⟩
  have s1 : SL w1.heap.size w1 (some ⟨g, 0, none⟩) (L + q + 1) (L + q + 1) (n * 2 ^ s) := SL.row r1 _ (Array.getElem?_eq_some_iff.1 r1).1 HL.out (Nat.le_refl _)
  go_wp2_with fail
  refine (l_trim w1 _ _ _ _ K _ s1 (by omega) HK.out).mono ?_
  rintro e w2 ⟨u, d, rfl, s2, rfl⟩
  go_wp2
  go_ret
  exact ⟨u, d, rfl, s2, b1⟩

theorem down_lt (n L s q N : Nat) (hn : n < 2 ^ (64 * L)) (hs : 64 * q ≤ s) (hN : L - q = N) : n / 2 ^ s < 2 ^ (64 * N) := by
  apply Nat.div_lt_of_lt_mul
  rw [← Nat.pow_add]
  exact Nat.lt_of_lt_of_le hn (Nat.pow_le_pow_right (by decide) (by omega))

set_option maxRecDepth 100000 in
set_option maxHeartbeats 1000000 in
theorem l_down (w : World) (p : Option Addr) (L c n s K B : Nat) (h : SL B w p L c n) (hB : B ≤ w.heap.size) (hL : L ≤ 100000) (hs : s ≤ 9223372036854775807) (hK : wl (n / 2 ^ s) = K) :
    Calls Tryd.prog 59 #[.slice p L c, .int .i64 (s : Nat)] w fun r w' => ∃ g d, r = .returned (.slice g K d) ∧ SL w'.heap.size w' g K d (n / 2 ^ s) ∧ Below w.heap.size w w' := by
  obtain ⟨q, hq⟩ : ∃ q, s / 64 = q := ⟨_, rfl⟩
  obtain ⟨r, hr⟩ : ∃ r, s % 64 = r := ⟨_, rfl⟩
  have r64 : r < 64 := by omega
  obtain ⟨N, hN⟩ : ∃ N, L - q = N := ⟨_, rfl⟩
  have hDN := down_lt n L s q N h.1 (by omega) hN
  obtain ⟨D, hD⟩ : ∃ D, n / 2 ^ s = D := ⟨_, rfl⟩
  have q1 : (s : Int) / 64 = (q : Int) := by omega
  have q1' : (s : Int).tdiv 64 = (q : Int) := by rw [Int.tdiv_eq_ediv_of_nonneg (by omega)]; omega
  have tm : (s : Int).tmod 64 = (r : Int) := by rw [Int.tmod_eq_emod_of_nonneg (by omega)]; omega
  have tm2 : (s : Int) % 64 = (r : Int) := by omega
  have HSR : Box (s = 64 * q + r) := box (by omega)
  have q57 : q ≤ 144115188075855871 := by omega
  have w1 : IntKind.i64.wrap (q : Int) = (q : Int) := wrap_i64_is _ (by omega) (by omega)
  have n1 : IntKind.i64.wrap ((L : Int) - (q : Int)) = (L : Int) - (q : Int) := wrap_i64_is _ (by omega) (by omega)
  rw [hD] at hK hDN ⊢
  have HD := box hD
  have HDN := box hDN
  have HK := box hK
  clear hr hq hD hDN hK
  have hcase : ((L : Int) - (q : Int) = (N : Int) ∧ ((N : Int) < 0) = False) ∨ (((L : Int) - (q : Int) < 0) = True ∧ (0 : Int) = (N : Int)) := by
    by_cases hqL : q ≤ L
    · left; exact ⟨by omega, eq_false (by omega)⟩
    · right; exact ⟨eq_true (by omega), by omega⟩
  have hNL : N ≤ L := by omega
  have HNL := box hN
  obtain ⟨g, hg⟩ : ∃ g, w.heap.size = g := ⟨_, rfl⟩
  have hB2 := hB
  rw [hg] at hB2
  have r0 : (w.alloc (.cells (cw N 0) 66)).heap[g]? = some (.cells (cw N 0) 66) := by rw [← hg]; exact heap_alloc_last _ _
  have b0 : Below g w (w.alloc (.cells (cw N 0) 66)) := by rw [← hg]; exact (Below.refl _ _).alloc (Nat.le_refl _) _
  have R0 := box r0
  have B0 := box b0
  clear hN r0 b0
  rcases hcase with ⟨e1, e2⟩ | ⟨e1, e2⟩
  all_goals
    first
      | (have hmk := cw_make N (N : Int) rfl (by omega)
         have n3 : IntKind.i64.wrap (N : Int) = (N : Int) := wrap_i64_is _ (by omega) (by omega)
         have e3 : ((N : Int) < 0) = False := e2)
      | (have hmk := cw_make N (0 : Int) e2 (by omega)
         clear e2)
    go_enter Tryd.func59, Tryd.ntmps59
    go_wp2
    clear hmk
    try rw [hg]
    go_loopw [21] (fun iv wr => ∃ (i : Nat), i ≤ N ∧ iv = .int .i64 i ∧ wr.heap[g]? = some (.cells (cw N (D % 2 ^ (64 * i))) 66) ∧ Below g w wr) (fun iv _ => N - (intOf iv).toNat)
    case atStart => exact ⟨0, by omega, rfl, by rw [Nat.mul_zero, Nat.pow_zero, Nat.mod_one]; exact R0.out, B0.out⟩
    case round =>
      obtain ⟨i, hi, rfl, r1, hbw⟩ := hrel
      by_cases hlt : i < N
      · obtain ⟨bp, op, rfl, _⟩ := h.ptr (by omega)
        obtain ⟨t, ht⟩ : ∃ t, i + q = t := ⟨_, rfl⟩
        have tL : t < L := by have := HNL.out; omega
        obtain ⟨x, hx⟩ : ∃ x, wd n t = x := ⟨_, rfl⟩
        obtain ⟨t', ht'⟩ : ∃ t', t + 1 = t' := ⟨_, rfl⟩
        obtain ⟨y, hy⟩ : ∃ y, wd n t' = y := ⟨_, rfl⟩
        obtain ⟨k, hk⟩ : ∃ k, 64 - r = k := ⟨_, rfl⟩
        obtain ⟨z1, hz1⟩ : ∃ z1, x / 2 ^ r = z1 := ⟨_, rfl⟩
        obtain ⟨z2, hz2⟩ : ∃ z2, y * 2 ^ k % 18446744073709551616 = z2 := ⟨_, rfl⟩
        obtain ⟨z, hz⟩ : ∃ z, wd D i = z := ⟨_, rfl⟩
        have x64 : x < 18446744073709551616 := by rw [← hx]; exact wd_lt _ _
        have z164 : z1 < 18446744073709551616 := by rw [← hz1]; exact Nat.lt_of_le_of_lt (Nat.div_le_self _ _) x64
        have z264 : z2 < 18446744073709551616 := by rw [← hz2]; exact Nat.mod_lt _ (by decide)
        have z64 : z < 18446744073709551616 := by rw [← hz]; exact wd_lt _ _
        have e4 : z1 ||| z2 = z := by rw [← hz, ← HD.out, down_wd n s q r i HSR.out r64, ht, ht', hx, hy, hz1, hk, hz2]
        have bo : bits .or .u64 (z1 : Nat) (z2 : Nat) = (z : Int) := by rw [← e4]; exact bits_or_u64_nat _ _ z164 z264
        have s0 := h.below hbw hB2
        have c0 := s0.cell t x tL hx
        have t1 : (i : Int) + (q : Int) = (t : Int) := by omega
        have k1 : (64 : Int) - (r : Int) = (k : Int) := by omega
        have k2 : IntKind.i64.wrap (k : Int) = (k : Int) := wrap_i64_is _ (by omega) (by omega)
        have t2 : IntKind.i64.wrap (t : Int) = (t : Int) := wrap_i64_is _ (by omega) (by omega)
        have t3 : (t : Int) + 1 = (t' : Int) := by omega
        have t4 : IntKind.i64.wrap (t' : Int) = (t' : Int) := wrap_i64_is _ (by omega) (by omega)
        have tLi : (t : Int) < (L : Int) := by omega
        have c1 : wr.cell? ⟨g, i, none⟩ = some (.int .u64 (wd (D % 2 ^ (64 * i)) i : Nat)) := by rw [cell_of_row wr g i _ _ _ r1, cw_at N _ i hlt]
        have f1 := fz (k := i) r1
        have RS : Box ((wr.setCell ⟨g, i, none⟩ (.int .u64 (z : Int))).heap[g]? = some (.cells (cw N (D % 2 ^ (64 * (i + 1)))) 66)) := box (by
          rw [setCell_row r1, cw_push N _ i z _ hlt (Nat.mod_lt _ (Nat.two_pow_pos _)) z64 rfl, mod_wd, hz])
        have BS : Box (Below g w (wr.setCell ⟨g, i, none⟩ (.int .u64 (z : Int)))) := box (hbw.setCell (Nat.le_refl _) _)
        have RI := box (l_right x r z1 (by omega) hz1)
        have LE := box (l_left y k z2 (by omega) hz2)
        have HY := box hy
        have dl : decide (i < N) = true := decide_eq_true hlt
        clear hx hy ht ht' hz1 hz2 hk hz e4 h
        go_wp2_with fail
        refine (RI.out _).mono ?_
        rintro e w' ⟨rfl, rfl⟩
        go_wp2_with fail
        refine (l_at _ _ L c n t' y s0 HY.out hL).mono ?_
        rintro e w' ⟨rfl, rfl⟩
        go_wp2_with fail
        refine (LE.out _).mono ?_
        rintro e w' ⟨rfl, rfl⟩
        go_wp2
        go_roundw
        case rel => exact ⟨i + 1, by omega, by go_num, RS.out, BS.out⟩
        case measure => simp [intOf] <;> omega
      · obtain rfl : i = N := by omega
        rw [Nat.mod_eq_of_lt HDN.out] at r1
        have dl : decide (i < i) = false := by rw [decide_eq_false_iff_not]; omega
        have s1 : SL wr.heap.size wr (some ⟨g, 0, none⟩) i i D := SL.row r1 _ (Array.getElem?_eq_some_iff.1 r1).1 HDN.out (Nat.le_refl _)
        go_wp2_with fail
        refine (l_trim wr _ _ _ _ K _ s1 (by omega) HK.out).mono ?_
        rintro e w2 ⟨u, d, rfl, s2, rfl⟩
        go_wp2
        go_ret
        exact ⟨u, d, rfl, s2, by rw [hg]; exact hbw⟩
end Go.Proofs.YtknkkagapcigfaaDoor
