/-
  What the functions raise, up and down of package nat return.
-/
import Derived.Test.YtknkkagapcigfaaDoorList5
import Derived.Test.YtknkkagapcigfaaDoorGx
namespace Go.Proofs.YtknkkagapcigfaaDoor
open Go.RowKit WMath

theorem raise_lt (n L s q : Nat) (hn : n < 2 ^ (64 * L)) (hs : s < 64 * (q + 1)) : n * 2 ^ s < 2 ^ (64 * (L + q + 1)) := by
  have h1 : n * 2 ^ s < 2 ^ (64 * L) * 2 ^ s := Nat.mul_lt_mul_of_pos_right hn (Nat.two_pow_pos _)
  rw [← Nat.pow_add] at h1
  exact Nat.lt_of_lt_of_le h1 (Nat.pow_le_pow_right (by decide) (by omega))

set_option maxRecDepth 100000 in
set_option maxHeartbeats 1000000 in
theorem l_raise (w : World) (p : Option Addr) (L c n s q B : Nat) (h : SL B w p L c n) (hB : B ≤ w.heap.size) (hL : L ≤ 100000) (hs : s ≤ 1000000) (hq : s / 64 = q) :
    Calls Tryd.prog 76 #[.slice p L c, .int .i64 (s : Nat)] w fun r w' => ∃ g, r = .returned (.slice (some ⟨g, 0, none⟩) (L + q + 1) (L + q + 1)) ∧ w.heap.size ≤ g ∧ w'.heap[g]? = some (.cells (cw (L + q + 1) (n * 2 ^ s)) 66) ∧ Below w.heap.size w w' := by
  obtain ⟨r, hr⟩ : ∃ r, s % 64 = r := ⟨_, rfl⟩
  have r64 : r < 64 := by omega
  obtain ⟨N, hN⟩ : ∃ N, L + q + 1 = N := ⟨_, rfl⟩
  have q1 : (s : Int) / 64 = (q : Int) := by omega
  have tm : (s : Int).tmod 64 = (r : Int) := by rw [Int.tmod_eq_emod_of_nonneg (by omega)]; omega
  have tm2 : (s : Int) % 64 = (r : Int) := by omega
  have q2 : q ≤ 20000 := by omega
  have HSR : Box (s = 64 * q + r) := box (by omega)
  have hmk := cw_make N ((L : Int) + (q : Int) + 1) (by omega) (by omega)
  have n1 : IntKind.i64.wrap ((L : Int) + (q : Int)) = (L : Int) + (q : Int) := wrap_i64_is _ (by omega) (by omega)
  have n2 : IntKind.i64.wrap ((L : Int) + (q : Int) + 1) = (L : Int) + (q : Int) + 1 := wrap_i64_is _ (by omega) (by omega)
  have w1 : IntKind.i64.wrap (q : Int) = (q : Int) := wrap_i64_is _ (by omega) (by omega)
  have HR := box hr
  have HQ := box hq
  rw [hN]
  have HN := box hN
  clear hr hq hN
  go_enter Tryd.func76, Tryd.ntmps76
  go_wp2
  clear hmk n1 n2 w1 q1 tm tm2
  obtain ⟨g, hg⟩ : ∃ g, w.heap.size = g := ⟨_, rfl⟩
  have r0 : (w.alloc (.cells (cw N 0) 66)).heap[g]? = some (.cells (cw N 0) 66) := by rw [← hg]; exact heap_alloc_last _ _
  have b0 : Below g w (w.alloc (.cells (cw N 0) 66)) := by rw [← hg]; exact (Below.refl _ _).alloc (Nat.le_refl _) _
  rw [hg] at hB ⊢
  go_loopw [22] (fun iv wr => ∃ (i X : Nat), i ≤ L ∧ iv = .int .i64 i ∧ wr.heap[g]? = some (.cells (cw N X) 66) ∧ Below g w wr ∧ Box (X = (n % 2 ^ (64 * i)) * 2 ^ s)) (fun iv _ => L - (intOf iv).toNat)
  case atStart => exact ⟨0, 0, by omega, rfl, r0, b0, box (by simp [Nat.mod_one])⟩
  case round =>
    clear r0 b0
    obtain ⟨i, X, hi, rfl, r1, hbw, HX⟩ := hrel
    by_cases hlt : i < L
    · obtain ⟨bp, op, rfl, _⟩ := h.ptr (by omega)
      obtain ⟨x, hx⟩ : ∃ x, wd n i = x := ⟨_, rfl⟩
      obtain ⟨t, ht⟩ : ∃ t, i + q = t := ⟨_, rfl⟩
      obtain ⟨lo, hlo⟩ : ∃ lo, x * 2 ^ r % 18446744073709551616 = lo := ⟨_, rfl⟩
      obtain ⟨hj, hhj⟩ : ∃ hj, x / 2 ^ (64 - r) = hj := ⟨_, rfl⟩
      obtain ⟨k, hk⟩ : ∃ k, 64 - r = k := ⟨_, rfl⟩
      have x64 : x < 18446744073709551616 := by rw [← hx]; exact wd_lt _ _
      have lo64 : lo < 18446744073709551616 := by rw [← hlo]; exact Nat.mod_lt _ (by decide)
      have hj64 : hj < 18446744073709551616 := by rw [← hhj]; exact Nat.lt_of_le_of_lt (Nat.div_le_self _ _) x64
      have ST := raise_step n i s q r t X lo hj HSR.out r64 ht.symm HX.out (by rw [hx]; exact hlo) (by rw [hx]; exact hhj)
      have c0 := (h.below hbw (by omega)).cell i x hlt hx
      have tN : t + 1 < N := by rw [← HN.out]; omega
      have tN0 : t < N := by omega
      have t1 : (i : Int) + (q : Int) = (t : Int) := by omega
      have k1 : (64 : Int) - (r : Int) = (k : Int) := by omega
      have k2 : IntKind.i64.wrap (k : Int) = (k : Int) := wrap_i64_is _ (by omega) (by omega)
      have t2 : IntKind.i64.wrap (t : Int) = (t : Int) := wrap_i64_is _ (by omega) (by omega)
      have t3 : IntKind.i64.wrap ((t : Int) + 1) = (t : Int) + 1 := wrap_i64_is _ (by omega) (by omega)
      have tNi : (t : Int) < (N : Int) := by omega
      have tNj : (t : Int) + 1 < (N : Int) := by omega
      have c1 : wr.cell? ⟨g, t, none⟩ = some (.int .u64 (wd X t : Nat)) := by rw [cell_of_row wr g t _ _ _ r1, cw_at N X t tN0]
      have c2 : wr.cell? ⟨g, t + 1, none⟩ = some (.int .u64 (wd X (t + 1) : Nat)) := by rw [cell_of_row wr g (t + 1) _ _ _ r1, cw_at N X (t + 1) tN]
      have f1 := fz (k := t) r1
      have f2 := fz (k := t + 1) r1
      have x1 := bor X t lo lo64
      have x2 := bor X (t + 1) hj hj64
      have LO := box (l_left x r lo (by omega) hlo)
      have HJ := box (l_right x k hj (by omega) (by rw [← hk]; exact hhj))
      have dl : decide (i < L) = true := decide_eq_true hlt
      obtain ⟨X1, hX1⟩ : ∃ X1, X1 = X ||| lo * 2 ^ (64 * t) := ⟨_, rfl⟩
      have row1 : (wr.setCell ⟨g, t, none⟩ (.int .u64 ((wd X t ||| lo : Nat) : Int))).heap[g]? = some (.cells (cw N X1) 66) := by rw [setCell_row r1, cw_or N X t lo X1 tN0 lo64 hX1]
      have e1 : wd X1 (t + 1) = wd X (t + 1) := by
        rw [hX1, wd_or, wd_high (n := lo * 2 ^ (64 * t)) (q := t + 1) (by rw [pow64, Nat.mul_comm]; exact Nat.mul_lt_mul_of_pos_left lo64 (Nat.two_pow_pos _)) (Nat.le_refl _), Nat.or_zero]
      have row2 : ((wr.setCell ⟨g, t, none⟩ (.int .u64 ((wd X t ||| lo : Nat) : Int))).setCell ⟨g, t + 1, none⟩ (.int .u64 ((wd X (t + 1) ||| hj : Nat) : Int))).heap[g]? = some (.cells (cw N ((n % 2 ^ (64 * (i + 1))) * 2 ^ s)) 66) := by
        rw [setCell_row row1, ← e1, cw_or N X1 (t + 1) hj _ tN hj64 (by rw [hX1, ST])]
      have RS := box row2
      have BS : Box (Below g w ((wr.setCell ⟨g, t, none⟩ (.int .u64 ((wd X t ||| lo : Nat) : Int))).setCell ⟨g, t + 1, none⟩ (.int .u64 ((wd X (t + 1) ||| hj : Nat) : Int)))) := box ((hbw.setCell (Nat.le_refl _) _).setCell (Nat.le_refl _) _)
      clear hx ht hlo hhj hk h hX1 row1 row2 e1 ST HX
      go_wp2
      go_region_with (go_at_call 74; refine (LO.out _).mono ?_; rintro e w' ⟨rfl, rfl⟩)
      all_goals go_wp2
      all_goals go_region_with (go_at_call 69; refine (HJ.out _).mono ?_; rintro e w' ⟨rfl, rfl⟩)
      all_goals go_wp2
      all_goals exact ⟨⟨i + 1, _, by omega, by go_num, RS.out, BS.out.drew.drew, box rfl⟩, by simp [intOf]; omega⟩
    · obtain rfl : i = L := by omega
      have e := HX.out
      rw [Nat.mod_eq_of_lt h.1] at e
      subst e
      have dl : decide (i < i) = false := by rw [decide_eq_false_iff_not]; omega
      go_wp2
      go_ret
      exact ⟨g, rfl, by omega, r1, by rw [hg]; exact hbw⟩
end Go.Proofs.YtknkkagapcigfaaDoor
