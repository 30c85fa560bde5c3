/-
  What the functions that the statement reaches return: part 5 (List4, List5, List6, List7, List8, List10, List11, Door1, Door2).
-/
import Derived.Test.YtbmhfcppaajgbaaGreatDoorRf04
namespace Go.Proofs.YtbmhfcppaajgbaaGreatDoor
set_option maxRecDepth 100000
open Go.RowKit WMath

/-- Which of two numbers is the greater one. -/
def cmpi (x y : Int) : Int := if x < y then -1 else if y < x then 1 else 0
theorem cmpi_nat (a b : Nat) : cmpi a b = cmpv a b := by
  unfold cmpi cmpv
  by_cases h : a = b
  · subst h; simp
  · by_cases h2 : a < b
    · rw [if_pos (by omega), if_neg h, if_pos h2]
    · rw [if_neg (by omega), if_pos (by omega), if_neg h, if_neg h2]
theorem cmpi_case (x y : Int) (c : Int) (hc : cmpi x y = c) : (decide (x < y) = true ∧ c = -1) ∨ (decide (x < y) = false ∧ decide (y < x) = true ∧ c = 1) ∨ (decide (x < y) = false ∧ decide (y < x) = false ∧ c = 0) := by
  unfold cmpi at hc
  by_cases h : x < y
  · rw [if_pos h] at hc; exact Or.inl ⟨decide_eq_true h, hc.symm⟩
  · rw [if_neg h] at hc
    by_cases h2 : y < x
    · rw [if_pos h2] at hc; exact Or.inr (Or.inl ⟨decide_eq_false h, decide_eq_true h2, hc.symm⟩)
    · rw [if_neg h2] at hc; exact Or.inr (Or.inr ⟨decide_eq_false h, decide_eq_false h2, hc.symm⟩)

theorem nan_int (x : Int) (w : World) : Calls Tryz.prog 248 #[.int .i64 x] w fun r w' => r = .returned (.bool false) ∧ w' = w := by
  go_enter Tryz.func248, Tryz.ntmps248
  go_wp2
  go_ret
  exact ⟨rfl, rfl⟩
theorem cmp_int (x y : Int) (c : Int) (hc : cmpi x y = c) (w : World) : Calls Tryz.prog 175 #[.int .i64 x, .int .i64 y] w fun r w' => r = .returned (.int .i64 c) ∧ w' = w := by
  have hcase := cmpi_case x y c hc
  clear hc
  rcases hcase with ⟨h1, rfl⟩ | ⟨h1, h2, rfl⟩ | ⟨h1, h2, rfl⟩
  all_goals
    go_enter Tryz.func175, Tryz.ntmps175
    go_wp2_with fail
    refine (nan_int x _).mono ?_
    rintro e w' ⟨rfl, rfl⟩
    go_wp2_with fail
    refine (nan_int y _).mono ?_
    rintro e w' ⟨rfl, rfl⟩
    go_wp2
    go_ret
    exact ⟨rfl, rfl⟩
theorem nan_word (x : Int) (w : World) : Calls Tryz.prog 332 #[.int .u64 x] w fun r w' => r = .returned (.bool false) ∧ w' = w := by
  go_enter Tryz.func332, Tryz.ntmps332
  go_wp2
  go_ret
  exact ⟨rfl, rfl⟩
theorem cmp_word (x y : Int) (c : Int) (hc : cmpi x y = c) (w : World) : Calls Tryz.prog 324 #[.int .u64 x, .int .u64 y] w fun r w' => r = .returned (.int .i64 c) ∧ w' = w := by
  have hcase := cmpi_case x y c hc
  clear hc
  rcases hcase with ⟨h1, rfl⟩ | ⟨h1, h2, rfl⟩ | ⟨h1, h2, rfl⟩
  all_goals
    go_enter Tryz.func324, Tryz.ntmps324
    go_wp2_with fail
    refine (nan_word x _).mono ?_
    rintro e w' ⟨rfl, rfl⟩
    go_wp2_with fail
    refine (nan_word y _).mono ?_
    rintro e w' ⟨rfl, rfl⟩
    go_wp2
    go_ret
    exact ⟨rfl, rfl⟩

theorem div_wd (a i : Nat) : a / 2 ^ (64 * i) = 18446744073709551616 * (a / 2 ^ (64 * (i + 1))) + wd a i := by
  unfold wd
  rw [pow64, ← Nat.div_div_eq_div_mul]
  omega
theorem hi_lt (a b i : Nat) (h : a / 2 ^ (64 * (i + 1)) = b / 2 ^ (64 * (i + 1))) (hw : wd a i < wd b i) : a < b := by
  have h1 := div_wd a i
  have h2 := div_wd b i
  by_cases e : a < b
  · exact e
  · have := Nat.div_le_div_right (c := 2 ^ (64 * i)) (show b ≤ a by omega)
    omega
theorem cmpv_lt (a b : Nat) (h : a < b) : cmpv a b = -1 := by unfold cmpv; rw [if_neg (by omega), if_pos h]
theorem cmpv_gt (a b : Nat) (h : b < a) : cmpv a b = 1 := by unfold cmpv; rw [if_neg (by omega), if_neg (by omega)]
theorem cmpv_hi (a b i : Nat) (h : a / 2 ^ (64 * (i + 1)) = b / 2 ^ (64 * (i + 1))) (hw : wd a i ≠ wd b i) : cmpv (wd a i) (wd b i) = cmpv a b := by
  by_cases e : wd a i < wd b i
  · rw [cmpv_lt _ _ e, cmpv_lt a b (hi_lt a b i h e)]
  · rw [cmpv_gt _ _ (show wd b i < wd a i by omega), cmpv_gt a b (hi_lt b a i h.symm (by omega))]

set_option maxRecDepth 100000 in
set_option maxHeartbeats 1000000 in
theorem l_compare (w : World) (p q : Option Addr) (L c a M d b B B2 : Nat) (k : Int) (ha : SL B w p L c a) (hb : SL B2 w q M d b) (hL : L ≤ 50000) (hM : M ≤ 50000) (la : wl a = L) (lb : wl b = M) (hB : B ≤ w.heap.size) (hB2 : B2 ≤ w.heap.size) (hk : cmpv a b = k) :
    Calls Tryz.prog 308 #[.slice p L c, .slice q M d] w fun r w' => r = .returned (.int .i64 k) ∧ Below w.heap.size w w' := by
  by_cases h : L = M
  · subst h
    have K := box hk
    have AL := box ha.1
    have BL := box hb.1
    have dn : ((L : Int) != (L : Int)) = false := by simp
    clear hk la lb hM
    have n0 : IntKind.i64.wrap ((L : Int) - 1) = (L : Int) - 1 := wrap_i64_is _ (by omega) (by omega)
    go_enter Tryz.func308, Tryz.ntmps308
    go_wp2
    go_loopw [5] (fun iv wr => ∃ i : Nat, i ≤ L ∧ iv = .int .i64 ((i : Int) - 1) ∧ Below w.heap.size w wr ∧ Box (a / 2 ^ (64 * i) = b / 2 ^ (64 * i))) (fun iv _ => (intOf iv + 1).toNat)
    case atStart => exact ⟨L, Nat.le_refl _, rfl, Below.refl _ _, box (by rw [Nat.div_eq_of_lt AL.out, Nat.div_eq_of_lt BL.out])⟩
    case round =>
      obtain ⟨i, hi, rfl, hbw, HE⟩ := hrel
      by_cases h0 : i = 0
      · subst h0
        have e : a = b := by simpa using HE.out
        subst e
        have e2 : k = 0 := by rw [← K.out]; unfold cmpv; rw [if_pos rfl]
        subst e2
        go_wp2
        go_ret
        exact ⟨rfl, hbw⟩
      · obtain ⟨j, rfl⟩ : ∃ j, i = j + 1 := ⟨i - 1, by omega⟩
        obtain ⟨ba, oa, rfl, _⟩ := ha.ptr (by omega)
        obtain ⟨bb, ob, rfl, _⟩ := hb.ptr (by omega)
        obtain ⟨x, hx⟩ : ∃ x, wd a j = x := ⟨_, rfl⟩
        obtain ⟨y, hy⟩ : ∃ y, wd b j = y := ⟨_, rfl⟩
        have c1 := (ha.below hbw hB).cell j x (by omega) hx
        have c2 := (hb.below hbw hB2).cell j y (by omega) hy
        have ej : (((j + 1 : Nat) : Int) - 1) = (j : Int) := by omega
        rw [ej]
        have hjL : j < L := by omega
        have hji : (j : Int) < (L : Int) := by omega
        have n1 : IntKind.i64.wrap ((j : Int) - 1) = (j : Int) - 1 := wrap_i64_is _ (by omega) (by omega)
        have SA := box ha
        have SB := box hb
        by_cases hxy : x = y
        · have NE : Box (a / 2 ^ (64 * j) = b / 2 ^ (64 * j)) := box (by rw [div_wd, div_wd b, HE.out, hx, hy, hxy])
          subst hxy
          clear hx hy ha hb HE ej
          go_wp2
          go_quiet (fail)
          go_wp2
          go_roundw
          case rel => exact ⟨j, by omega, by first | rfl | go_num, below_drewN hbw _, NE⟩
          case measure => simp [intOf]
        · have E : Box (cmpi x y = k) := box (by rw [cmpi_nat, ← K.out, ← hx, ← hy]; exact cmpv_hi a b j HE.out (by rw [hx, hy]; exact hxy))
          have dn2 : ((x : Int) != (y : Int)) = true := by simp; omega
          have hxy2 : ¬ (x : Int) = (y : Int) := by omega
          clear hx hy ha hb HE ej
          go_wp2
          go_quiet (fail)
          go_wp2
          go_quiet ((go_at_call 324; exact (cmp_word _ _ k E.out _).mono (fun _ _ h => ⟨h.1, _, h.2⟩)))
          go_wp2
          go_ret
          exact ⟨rfl, below_drewN (below_drewN hbw _) _⟩
  · have hne : ((L : Int) != (M : Int)) = true := by simp; omega
    have e : cmpi (L : Int) (M : Int) = k := by
      rw [cmpi_nat, ← hk]
      by_cases h2 : L < M
      · rw [cmpv_lt _ _ h2, cmpv_lt a b (wl_lt_of a b (by omega))]
      · rw [cmpv_gt _ _ (show M < L by omega), cmpv_gt a b (wl_lt_of b a (by omega))]
    have E := box e
    clear e hk la lb ha hb
    go_enter Tryz.func308, Tryz.ntmps308
    go_wp2_with fail
    refine (cmp_int _ _ k E.out _).mono ?_
    rintro e w' ⟨rfl, rfl⟩
    go_wp2
    go_ret
    exact ⟨rfl, Below.refl _ _⟩
end Go.Proofs.YtbmhfcppaajgbaaGreatDoor
namespace Go.Proofs.YtbmhfcppaajgbaaGreatDoor
set_option maxRecDepth 100000
open Go.RowKit WMath

theorem cnt_is (k : Nat) (h : k ≤ 64) : cnt (k : Int) = k := by unfold cnt; omega
theorem l_left (x k v : Nat) (hk : k ≤ 64) (hv : x * 2 ^ k % 18446744073709551616 = v) (w : World) :
    Calls Tryz.prog 264 #[.int .u64 x, .int .i64 (k : Nat)] w fun e w' => e = .returned (.int .u64 (v : Nat)) ∧ w' = w := by
  have := left_any x (k : Int) w
  rwa [cnt_is k hk, hv] at this
theorem l_right (x k v : Nat) (hk : k ≤ 64) (hv : x / 2 ^ k = v) (w : World) :
    Calls Tryz.prog 265 #[.int .u64 x, .int .i64 (k : Nat)] w fun e w' => e = .returned (.int .u64 (v : Nat)) ∧ w' = w := by
  have := right_any x (k : Int) w
  rwa [cnt_is k hk, hv] at this
theorem idx_runN (s : ByteArray) (k : Nat) (i : Int) (d : Nat) (hi : i = (k : Int)) (hk : k < s.size) (hd : (s[k]'hk).toNat = d) (w : World) :
    (Instr.index 39 (.string s) (.int .i64 i)).run Tryz.prog w = .ok (.int .u8 (d : Nat)) w := by
  subst hi hd
  rw [run_index_string (P := Tryz.prog) w 39 s _ _ Tryz.underlying39, dif_pos ⟨by omega, by omega⟩]
  simp

/-- The bytes of n from the place p on, at their places. -/
def hiB (n p : Nat) : Nat := n / 2 ^ (8 * p) * 2 ^ (8 * p)
theorem hiB_step (n p x : Nat) (hx : d8 n p = x) : hiB n p = hiB n (p + 1) ||| x * 2 ^ (8 * (p % 8)) * 2 ^ (64 * (p / 8)) := by
  have e : n / 2 ^ (8 * p) = 256 * (n / 2 ^ (8 * (p + 1))) + x := by
    rw [← hx, pow8, ← Nat.div_div_eq_div_mul]
    unfold d8
    omega
  have x256 : x < 256 := by rw [← hx]; exact d8_lt _ _
  unfold hiB
  rw [e, Nat.mul_assoc x, ← Nat.pow_add, show 8 * (p % 8) + 64 * (p / 8) = 8 * p by omega, Nat.or_comm, ← or_disj _ _ _ (show x * 2 ^ (8 * p) < 2 ^ (8 * (p + 1)) by
    rw [pow8, Nat.mul_comm]; exact Nat.mul_lt_mul_of_pos_left x256 (Nat.two_pow_pos _)), Nat.add_mul, pow8, Nat.mul_comm (2 ^ (8 * p)) 256, ← Nat.mul_assoc, Nat.mul_comm 256]
  omega
theorem hiB_zero (n : Nat) : hiB n 0 = n := by unfold hiB; simp
theorem hiB_top (n L : Nat) (h : n < 2 ^ (8 * L)) : hiB n L = 0 := by unfold hiB; rw [Nat.div_eq_of_lt h, Nat.zero_mul]
theorem byte_sh (x r : Nat) (hx : x < 256) (hr : r < 8) : x * 2 ^ (8 * r) < 18446744073709551616 := by
  have h1 : x * 2 ^ (8 * r) < 256 * 2 ^ (8 * r) := Nat.mul_lt_mul_of_pos_right hx (Nat.two_pow_pos _)
  have h2 : 256 * 2 ^ (8 * r) = 2 ^ (8 * (r + 1)) := by rw [pow8, Nat.mul_comm]
  have h3 : 2 ^ (8 * (r + 1)) ≤ 2 ^ 64 := Nat.pow_le_pow_right (by decide) (by omega)
  rw [← two64] at h3
  omega

set_option maxRecDepth 100000 in
set_option maxHeartbeats 1000000 in
theorem l_wordsOf (n K : Nat) (s : ByteArray) (hs : nbA n = s) (hn : nl n ≤ 100000) (hK : wl n = K) (w : World) :
    Calls Tryz.prog 242 #[.string s] w fun r w' => ∃ u e, r = .returned (.slice u K e) ∧ SL w'.heap.size w' u K e n ∧ Below w.heap.size w w' := by
  obtain ⟨L, hL⟩ : ∃ L, nl n = L := ⟨_, rfl⟩
  have hz : s.size = L := by rw [← hs, nbA_size, hL]
  have hKL : K = (L + 7) / 8 := by rw [← hK, wl_nl, hL]
  rw [hL] at hn
  have n1 : IntKind.i64.wrap ((L : Int) + 8) = (L : Int) + 8 := wrap_i64_is _ (by omega) (by omega)
  have n2 : IntKind.i64.wrap ((L : Int) + 8 - 1) = (L : Int) + 8 - 1 := wrap_i64_is _ (by omega) (by omega)
  have hmk := cw_make K (((L : Int) + 8 - 1) / 8) (by omega) (by omega)
  have HS := box hs
  have HL := box hL
  have HK := box hK
  have HKL := box hKL
  clear hs hL hK hKL
  go_enter Tryz.func242, Tryz.ntmps242
  go_wp2
  clear hmk n1 n2
  obtain ⟨g, hg⟩ : ∃ g, w.heap.size = g := ⟨_, rfl⟩
  have r0 : (w.alloc (.cells (cw K 0) 23)).heap[g]? = some (.cells (cw K 0) 23) := by rw [← hg]; exact heap_alloc_last _ _
  have b0 : Below g w (w.alloc (.cells (cw K 0) 23)) := by rw [← hg]; exact (Below.refl _ _).alloc (Nat.le_refl _) _
  rw [hg]
  go_loopw [14] (fun iv wr => ∃ (i X : Nat), i ≤ L ∧ iv = .int .i64 i ∧ wr.heap[g]? = some (.cells (cw K X) 23) ∧ Below g w wr ∧ Box (X = hiB n (L - i))) (fun iv _ => L - (intOf iv).toNat)
  case atStart => exact ⟨0, 0, by omega, rfl, r0, b0, box (by rw [Nat.sub_zero, hiB_top n L (by rw [← HL.out]; exact nl_lt n)])⟩
  case round =>
    clear r0 b0
    obtain ⟨i, X, hi, rfl, r1, hbw, HX⟩ := hrel
    by_cases hlt : i < L
    · obtain ⟨pl, hpl⟩ : ∃ pl, L - 1 - i = pl := ⟨_, rfl⟩
      obtain ⟨x, hx⟩ : ∃ x, d8 n pl = x := ⟨_, rfl⟩
      obtain ⟨q, hq⟩ : ∃ q, pl / 8 = q := ⟨_, rfl⟩
      obtain ⟨r, hr⟩ : ∃ r, pl % 8 = r := ⟨_, rfl⟩
      have x256 : x < 256 := by rw [← hx]; exact d8_lt n pl
      have hxi : ∃ h : i < s.size, (s[i]'h).toNat = x := by
        have h1 : i < s.size := by omega
        refine ⟨h1, ?_⟩
        have e := HS.out
        subst e
        rw [nbA_get, HL.out, hpl, hx]
      obtain ⟨hi2, hxx⟩ := hxi
      have hxr := idx_runN s i (i : Int) x rfl hi2 hxx
      have n1 : IntKind.i64.wrap ((L : Int) - 1) = (L : Int) - 1 := wrap_i64_is _ (by omega) (by omega)
      have n2 : IntKind.i64.wrap ((L : Int) - 1 - (i : Int)) = (pl : Int) := by rw [wrap_i64_is _ (by omega) (by omega)]; omega
      have n2' : (L : Int) - 1 - (i : Int) = (pl : Int) := by omega
      have q1 : (pl : Int) / 8 = (q : Int) := by omega
      have tm : (pl : Int).tmod 8 = (r : Int) := by rw [Int.tmod_eq_emod_of_nonneg (by omega)]; omega
      have tm2 : (pl : Int) % 8 = (r : Int) := by omega
      have w1 : IntKind.i64.wrap (q : Int) = (q : Int) := wrap_i64_is _ (by omega) (by omega)
      obtain ⟨k, hk⟩ : ∃ k, 8 * r = k := ⟨_, rfl⟩
      have w2 : IntKind.i64.wrap (k : Int) = (k : Int) := wrap_i64_is _ (by omega) (by omega)
      have w3 : (r : Int) * 8 = (k : Int) := by omega
      have n4 : IntKind.u64.wrap (x : Int) = (x : Int) := by rw [IntKind.wrap_u64]; omega
      obtain ⟨y, hy⟩ : ∃ y, x * 2 ^ k = y := ⟨_, rfl⟩
      have y64 : y < 18446744073709551616 := by rw [← hy, ← hk]; exact byte_sh x r x256 (by omega)
      have hle := l_left x k y (by omega) (by rw [hy, Nat.mod_eq_of_lt y64])
      have e1 := hiB_step n pl x hx
      rw [hq, hr, hk, hy, show pl + 1 = L - i by omega, ← HX.out] at e1
      obtain ⟨Y, hY⟩ : ∃ Y, hiB n pl = Y := ⟨_, rfl⟩
      rw [hY] at e1
      have qK : q < K := by rw [HKL.out]; omega
      have qKi : (q : Int) < (K : Int) := by omega
      have x3 := bor X q y y64
      have x4 := cw_or K X q y Y qK y64 e1
      have c1 : wr.cell? ⟨g, q, none⟩ = some (.int .u64 (wd X q : Nat)) := by rw [cell_of_row wr g q _ _ _ r1, cw_at K X q qK]
      have f0 := fz (k := q) r1
      have R2 : Box ((wr.setCell ⟨g, q, none⟩ (.int .u64 ((wd X q ||| y : Nat) : Int))).heap[g]? = some (.cells (cw K Y) 23)) := box (by rw [setCell_row r1, x4])
      have B2 : Box (Below g w (wr.setCell ⟨g, q, none⟩ (.int .u64 ((wd X q ||| y : Nat) : Int)))) := box (hbw.setCell (Nat.le_refl _) _)
      have NX : Box (Y = hiB n (L - (i + 1))) := box (by rw [← hY, ← hpl, show L - (i + 1) = L - 1 - i by omega])
      have dl : decide (i < L) = true := decide_eq_true hlt
      have LE := box hle
      clear hpl hx hq hr hk hy hY e1 x4 HX hxx hle
      go_wp2
      go_region_with (go_at_call 264; refine (LE.out _).mono ?_; rintro e w' ⟨rfl, rfl⟩)
      all_goals go_wp2
      all_goals go_roundw
      all_goals first | (show (_ : Nat) < _; simp [intOf]; omega) | exact ⟨i + 1, Y, by omega, by go_num, R2.out, below_drewN B2.out _, NX⟩
    · obtain rfl : i = L := by omega
      have e := HX.out
      rw [Nat.sub_self, hiB_zero] at e
      subst e
      have s2 : SL wr.heap.size wr (some ⟨g, 0, none⟩) K K X := SL.row r1 _ (Array.getElem?_eq_some_iff.1 r1).1 (by rw [← HK.out]; exact wl_lt X) (Nat.le_refl _)
      have dl : decide (i < i) = false := by rw [decide_eq_false_iff_not]; omega
      go_wp2
      go_ret
      exact ⟨_, _, rfl, s2, by rw [hg]; exact hbw⟩
theorem ld8_wd (n p : Nat) : wd n (p / 8) / 2 ^ (8 * (p % 8)) % 256 = d8 n p := by
  apply Nat.eq_of_testBit_eq
  intro j
  rw [two8, Nat.testBit_mod_two_pow, Nat.testBit_div_two_pow, wd_bit, d8_bit]
  by_cases h : j < 8
  · rw [decide_eq_true h, Bool.true_and, decide_eq_true (show j + 8 * (p % 8) < 64 by omega), Bool.true_and, Bool.true_and]
    congr 1; omega
  · rw [decide_eq_false h, Bool.false_and, Bool.false_and]
/-- A row of bytes as a number's string. -/
theorem c8_strN {w : World} {b c L X : Nat} (v : ByteArray) (h : w.heap[b]? = some (.cells (c8 L X) 5)) (hk : v.size = L) (hv : ∀ (j : Nat) (h1 : j < v.size), (v[j]'h1).toNat = d8 X j) :
    (convert 57 39 (.slice (some ⟨b, 0, none⟩) L c)).run Tryz.prog w = .ok (.string v) w := by
  rw [run_convert_bytes_string w 57 39 5 _ _ _ Tryz.underlying57 Tryz.underlying5 Tryz.underlying39]
  have hz : v.data.toList.length = L := by rw [Array.length_toList]; exact hk
  have hl := run_loadCells_list (P := Tryz.prog) w ⟨b, 0, none⟩ (v.data.toList.map fun x => Value.int .u8 (x.toNat : Int)) (fun j u hu => by
    have hadd : (⟨b, 0, none⟩ : Addr).add j = ⟨b, j, none⟩ := by unfold Addr.add; split <;> simp_all
    have hj : j < v.data.toList.length := by
      have := (List.getElem?_eq_some_iff.1 hu).1
      rwa [List.length_map] at this
    have hj2 : j < v.size := by rw [hk]; omega
    rw [hadd, c8_cell h (by omega), ← hv j hj2, ← hu, List.getElem?_map, List.getElem?_eq_getElem hj]
    rfl)
  rw [List.length_map, hz] at hl
  rw [run_bytesToString (P := Tryz.prog) w ⟨b, 0, none⟩ L c (v.data.toList.map fun x => (x.toNat : Int)) (by rw [hl]; simp), show ByteArray.empty = ⟨#[]⟩ from rfl, fold_bytes]
  simp

set_option maxRecDepth 100000 in
set_option maxHeartbeats 1000000 in
theorem l_natOf (w : World) (p : Option Addr) (L c n B : Nat) (v : ByteArray) (h : SL B w p L c n) (hB : B ≤ w.heap.size) (hL : L ≤ 100000) (hv : nbA n = v) :
    Calls Tryz.prog 272 #[.slice p L c] w fun r w' => r = .returned (.string v) ∧ Below w.heap.size w w' := by
  obtain ⟨M, hM⟩ : ∃ M, wl n = M := ⟨_, rfl⟩
  obtain ⟨l, hl⟩ : ∃ l, blen n = l := ⟨_, rfl⟩
  obtain ⟨m, hm⟩ : ∃ m, nl n = m := ⟨_, rfl⟩
  have hml : m = (l + 7) / 8 := by rw [← hm, ← hl]; rfl
  have hMl : M = (l + 63) / 64 := by rw [← hM, ← hl]; rfl
  have hML : M ≤ L := by rw [← hM]; exact wl_le_of n L h.1
  have n1 : IntKind.i64.wrap ((l : Int) + 8) = (l : Int) + 8 := wrap_i64_is _ (by omega) (by omega)
  have n2 : IntKind.i64.wrap ((l : Int) + 8 - 1) = (l : Int) + 8 - 1 := wrap_i64_is _ (by omega) (by omega)
  have hmk := c8_makeI m (((l : Int) + 8 - 1) / 8) (by omega) (by omega)
  have hvz : v.size = m := by rw [← hv, nbA_size, hm]
  have l64 : l ≤ 6400000 := by omega
  have m64 : m ≤ 800000 := by omega
  have HM := box hM
  have HL := box hl
  have HMM := box hm
  have HML := box hml
  have HMW := box hMl
  have HV := box hv
  clear hM hl hm hv hml hMl
  go_enter Tryz.func272, Tryz.ntmps272
  go_wp2_with fail
  refine (l_trim w p L c n M B h hL HM.out).mono ?_
  rintro e w1 ⟨u, d, rfl, s1, rfl⟩
  go_wp2_with fail
  refine (l_bitLen w1 u M d n l B s1 (by omega) HM.out HL.out).mono ?_
  rintro e w2 ⟨rfl, rfl⟩
  go_wp2
  clear hmk n1 n2 l64
  obtain ⟨g, hg⟩ : ∃ g, w2.heap.size = g := ⟨_, rfl⟩
  have r0 : (w2.alloc (.cells (c8 m 0) 5)).heap[g]? = some (.cells (c8 m 0) 5) := by rw [← hg]; exact heap_alloc_last _ _
  have b0 : Below g w2 (w2.alloc (.cells (c8 m 0) 5)) := by rw [← hg]; exact (Below.refl _ _).alloc (Nat.le_refl _) _
  rw [hg]
  go_loopw [15] (fun iv wr => ∃ (i Y : Nat), i ≤ m ∧ iv = .int .i64 i ∧ wr.heap[g]? = some (.cells (c8 m Y) 5) ∧ Below g w2 wr ∧ Box (∀ j, j < i → d8 Y j = d8 n (m - 1 - j))) (fun iv _ => m - (intOf iv).toNat)
  case atStart => exact ⟨0, 0, by omega, rfl, r0, b0, box (fun j hj => absurd hj (by omega))⟩
  case round =>
    clear r0 b0
    obtain ⟨i, Y, hi, rfl, r1, hbw, HX⟩ := hrel
    by_cases hlt : i < m
    · obtain ⟨pl, hpl⟩ : ∃ pl, m - 1 - i = pl := ⟨_, rfl⟩
      obtain ⟨x, hx⟩ : ∃ x, d8 n pl = x := ⟨_, rfl⟩
      obtain ⟨q, hq⟩ : ∃ q, pl / 8 = q := ⟨_, rfl⟩
      obtain ⟨r, hr⟩ : ∃ r, pl % 8 = r := ⟨_, rfl⟩
      have hqM : q < M := by rw [HMW.out]; have := HML.out; omega
      obtain ⟨bp, op, rfl, _⟩ := h.ptr (by omega)
      have x256 : x < 256 := by rw [← hx]; exact d8_lt n pl
      have n1 : IntKind.i64.wrap ((m : Int) - 1) = (m : Int) - 1 := wrap_i64_is _ (by omega) (by omega)
      have n2 : IntKind.i64.wrap ((m : Int) - 1 - (i : Int)) = (pl : Int) := by rw [wrap_i64_is _ (by omega) (by omega)]; omega
      have n2' : (m : Int) - 1 - (i : Int) = (pl : Int) := by omega
      have q1 : (pl : Int) / 8 = (q : Int) := by omega
      have tm : (pl : Int).tmod 8 = (r : Int) := by rw [Int.tmod_eq_emod_of_nonneg (by omega)]; omega
      have tm2 : (pl : Int) % 8 = (r : Int) := by omega
      have w1 : IntKind.i64.wrap (q : Int) = (q : Int) := wrap_i64_is _ (by omega) (by omega)
      obtain ⟨k, hk⟩ : ∃ k, 8 * r = k := ⟨_, rfl⟩
      have w2' : IntKind.i64.wrap (k : Int) = (k : Int) := wrap_i64_is _ (by omega) (by omega)
      have w3 : (r : Int) * 8 = (k : Int) := by omega
      obtain ⟨z, hz⟩ : ∃ z, wd n q = z := ⟨_, rfl⟩
      obtain ⟨y, hy⟩ : ∃ y, z / 2 ^ k = y := ⟨_, rfl⟩
      have LE := box (l_right z k y (by omega) hy)
      have hyx : y % 256 = x := by rw [← hy, ← hz, ← hq, ← hk, ← hr, ld8_wd, hx]
      have n4 := wrap_u8_is y x hyx
      have qL : q < L := by omega
      have qLi : (q : Int) < (L : Int) := by omega
      have imi : (i : Int) < (m : Int) := by omega
      have c0 := (h.below hbw (by omega)).cell q z qL hz
      have c1 := c8_cell r1 hlt
      have f0 := fz (k := i) r1
      have R2 : Box ((wr.setCell ⟨g, i, none⟩ (.int .u8 (x : Int))).heap[g]? = some (.cells (c8 m (set8 Y i x)) 5)) := box (by rw [setCell_row r1, c8_seti m Y i x _ hlt x256 rfl])
      have B2 : Box (Below g w2 (wr.setCell ⟨g, i, none⟩ (.int .u8 (x : Int)))) := box (hbw.setCell (Nat.le_refl _) _)
      have NX : Box (∀ j, j < i + 1 → d8 (set8 Y i x) j = d8 n (m - 1 - j)) := box (fun j hj => by
        rw [d8_set8 _ _ _ _ x256]
        by_cases e : j = i
        · rw [if_pos e, e, hpl, hx]
        · rw [if_neg e]; exact HX.out j (by omega))
      have dl : decide (i < m) = true := decide_eq_true hlt
      clear hpl hx hq hr hk hy hz HX h hyx
      go_wp2_with fail
      refine (LE.out _).mono ?_
      rintro e w' ⟨rfl, rfl⟩
      go_wp2
      go_roundw
      case rel => exact ⟨i + 1, _, by omega, by go_num, R2.out, B2.out, NX⟩
      case measure => simp [intOf] <;> omega
    · obtain rfl : i = m := by omega
      have hst := c8_strN (c := i) v r1 hvz (fun j hj => by
        rw [HX.out j (by omega)]
        have e := HV.out
        subst e
        rw [nbA_get, HMM.out])
      have dl : decide (i < i) = false := by rw [decide_eq_false_iff_not]; omega
      go_wp2
      go_ret
      exact ⟨rfl, by rw [hg]; exact hbw⟩
end Go.Proofs.YtbmhfcppaajgbaaGreatDoor
namespace Go.Proofs.YtbmhfcppaajgbaaGreatDoor
set_option maxRecDepth 100000
open Go.RowKit WMath

theorem n_check (s : ByteArray) (o : Bool) (ho : mayB s = o) (w : World) :
    Calls Tryz.prog 218 #[.string s] w fun r w' => r = .returned (.int .i64 (if o then 0 else 2)) ∧ w' = w := by
  by_cases h1 : s.size ≤ 16384
  · have d1 : decide ((16384 : Int) < (s.size : Int)) = false := by rw [decide_eq_false_iff_not]; omega
    have d1' : decide (16384 < s.size) = false := by rw [decide_eq_false_iff_not]; omega
    by_cases h2 : s.size = 0
    · have e : o = true := by rw [← ho]; unfold mayB; rw [decide_eq_true h1, decide_eq_true h2]; rfl
      subst e
      have d2 : decide (0 < s.size) = false := decide_eq_false (by omega)
      clear h1 h2 ho
      go_enter Tryz.func218, Tryz.ntmps218
      go_wp2
      go_ret
      exact ⟨rfl, rfl⟩
    · have hp : 0 < s.size := by omega
      have d2 : decide (0 < s.size) = true := decide_eq_true hp
      obtain ⟨x, hx⟩ : ∃ x, (s[0]'hp).toNat = x := ⟨_, rfl⟩
      have e : decide (x ≠ 0) = o := by
        rw [← ho]; unfold mayB
        rw [decide_eq_true h1, decide_eq_false h2, Bool.true_and, Bool.false_or]
        rw [Bool.eq_iff_iff, decide_eq_true_iff, decide_eq_true_iff]
        exact ⟨fun h => ⟨hp, by rw [hx]; exact h⟩, fun ⟨a, b⟩ => by rw [hx] at b; exact b⟩
      have hi := idx_runN s 0 0 x rfl hp hx
      clear h1 h2 ho hx
      by_cases h0 : x = 0
      · subst h0
        have e2 : o = false := by rw [← e]; rfl
        subst e2
        clear e
        go_enter Tryz.func218, Tryz.ntmps218
        go_wp2
        go_ret
        exact ⟨rfl, rfl⟩
      · have e2 : o = true := by rw [← e]; exact decide_eq_true h0
        subst e2
        have h3 : decide (x = 0) = false := decide_eq_false h0
        clear e
        go_enter Tryz.func218, Tryz.ntmps218
        go_wp2
        go_ret
        exact ⟨rfl, rfl⟩
  · have d1 : decide ((16384 : Int) < (s.size : Int)) = true := by rw [decide_eq_true_iff]; omega
    have d1' : decide (16384 < s.size) = true := by rw [decide_eq_true_iff]; omega
    have e : o = false := by rw [← ho]; unfold mayB; rw [decide_eq_false h1]; rfl
    subst e
    clear h1 ho
    go_enter Tryz.func218, Tryz.ntmps218
    go_wp2
    go_ret
    exact ⟨rfl, rfl⟩

theorem str_cell {w : World} {g : Nat} {T : TypeId} {ss : List ByteArray} (row : w.heap[g]? = some (.cells (ss.map Value.string).toArray T)) (k : Nat) (s : ByteArray) (h : ss[k]? = some s) : w.cell? ⟨g, k, none⟩ = some (.string s) := by
  rw [cell_of_row w g k _ _ _ row]
  simp [h]

theorem n_mayBe (ss : List ByteArray) (L g : Nat) (T : TypeId) (w : World) (hl : ss.length = L) (hL : L ≤ 1000) (row : w.heap[g]? = some (.cells (ss.map Value.string).toArray T)) (o : Bool) (ho : ss.all mayB = o) :
    Calls Tryz.prog 174 #[.slice (some ⟨g, 0, none⟩) L L] w fun r w' => r = .returned (.bool o) ∧ w' = w := by
  have HO := box ho
  have HL := box hl
  clear ho hl
  go_enter Tryz.func174, Tryz.ntmps174
  go_wp2
  go_loopw [7] (fun iv wr => ∃ k : Nat, k ≤ L ∧ iv = .int .i64 k ∧ wr = w ∧ Box (∀ j s, j < k → ss[j]? = some s → mayB s = true)) (fun iv _ => L - (intOf iv).toNat)
  case atStart => exact ⟨0, by omega, rfl, rfl, box (fun j s hj => absurd hj (by omega))⟩
  case round =>
    obtain ⟨k, hk, rfl, rfl, HA⟩ := hrel
    by_cases hlt : k < L
    · obtain ⟨s, hs⟩ : ∃ s, ss[k]? = some s := ⟨_, List.getElem?_eq_getElem (by rw [HL.out]; exact hlt)⟩
      have c1 := str_cell row k s hs
      have dl : decide (k < L) = true := decide_eq_true hlt
      have HS := box hs
      obtain ⟨m, hm⟩ : ∃ m, mayB s = m := ⟨_, rfl⟩
      have HM := box hm
      clear hs hm
      cases m
      · have e : o = false := by
          rw [← HO.out, Bool.eq_false_iff]
          intro h
          rw [List.all_eq_true] at h
          have := h s (List.mem_of_getElem? HS.out)
          rw [HM.out] at this
          exact absurd this (by decide)
        subst e
        go_wp2_with fail
        refine (n_check s false HM.out _).mono ?_
        rintro e w' ⟨rfl, rfl⟩
        go_wp2
        go_ret
        exact ⟨rfl, rfl⟩
      · have NA : Box (∀ j s, j < k + 1 → ss[j]? = some s → mayB s = true) := box (fun j s2 hj h2 => by
          by_cases e : j = k
          · subst e
            rw [HS.out] at h2
            cases h2
            exact HM.out
          · exact HA.out j s2 (by omega) h2)
        go_wp2_with fail
        refine (n_check s true HM.out _).mono ?_
        rintro e w' ⟨rfl, rfl⟩
        go_wp2
        go_roundw
        case rel => exact ⟨k + 1, by omega, by go_num, by first | rfl | trivial, NA⟩
        case measure => simp [intOf] <;> omega
    · obtain rfl : k = L := by omega
      have e : o = true := by
        rw [← HO.out, List.all_eq_true]
        intro s hs
        obtain ⟨j, hj⟩ := List.mem_iff_getElem?.1 hs
        have := (List.getElem?_eq_some_iff.1 hj).1
        exact HA.out j s (by rw [← HL.out]; exact this) hj
      subst e
      have dl : decide (k < k) = false := by rw [decide_eq_false_iff_not]; omega
      go_wp2
      go_ret
      exact ⟨rfl, rfl⟩
theorem n_may1 (s : ByteArray) (o : Bool) (ho : mayB s = o) (T : TypeId) (w : World) :
    Calls Tryz.prog 174 #[.slice (some ⟨w.heap.size, 0, none⟩) 1 1] (w.alloc (.cells #[.string s] T)) fun r w' => r = .returned (.bool o) ∧ w' = w.alloc (.cells #[.string s] T) :=
  n_mayBe [s] 1 w.heap.size T _ rfl (by decide) (heap_alloc_last _ _) o (by rw [← ho]; simp)
theorem n_may2 (s t : ByteArray) (o : Bool) (ho : (mayB s && mayB t) = o) (T : TypeId) (w : World) :
    Calls Tryz.prog 174 #[.slice (some ⟨w.heap.size, 0, none⟩) 2 2] (w.alloc (.cells #[.string s, .string t] T)) fun r w' => r = .returned (.bool o) ∧ w' = w.alloc (.cells #[.string s, .string t] T) :=
  n_mayBe [s, t] 2 w.heap.size T _ rfl (by decide) (heap_alloc_last _ _) o (by rw [← ho]; simp)
theorem ok2 {a b : Nat} {s t : ByteArray} (hs : nbA a = s) (ht : nbA b = t) (ha : nl a ≤ 16384) (hb : nl b ≤ 16384) : (mayB s && mayB t) = true := by
  subst hs ht; rw [mayB_nb a ha, mayB_nb b hb]; rfl
theorem bal (w : World) (o : Obj) : Below w.heap.size w (w.alloc o) := (Below.refl _ _).alloc (Nat.le_refl _) _
theorem btr {a b c : World} (h : Below a.heap.size a b) (k : Below b.heap.size b c) : Below a.heap.size a c := h.trans (k.mono h.size)

theorem l_answer (w : World) (p : Option Addr) (L c n B : Nat) (v : ByteArray) (e : Int) (h : SL B w p L c n) (hB : B ≤ w.heap.size) (hL : L ≤ 100000) (hn : wl n = L) (hr : lg n = (v, e)) :
    Calls Tryz.prog 240 #[.slice p L c] w fun r w' => r = .returned (.tuple #[.string v, .int .i64 e]) ∧ Below w.heap.size w w' := by
  obtain ⟨l, hl⟩ : ∃ l, blen n = l := ⟨_, rfl⟩
  unfold lg at hr
  have HL := box hl
  have HN := box hn
  have hll : l ≤ 64 * L := by rw [← hl, ← hn]; unfold wl; omega
  by_cases h1 : nl n ≤ 16384
  · rw [if_pos h1] at hr
    cases hr
    have d1 : decide (131072 < l) = false := decide_eq_false (by rw [← hl]; unfold nl at h1; omega)
    have d2 : decide ((131072 : Int) < (l : Int)) = false := decide_eq_false (by rw [← hl]; unfold nl at h1; omega)
    clear hl hn h1
    go_enter Tryz.func240, Tryz.ntmps240
    go_wp2_with fail
    refine (l_bitLen w p L c n l B h hL HN.out HL.out).mono ?_
    rintro e w1 ⟨rfl, rfl⟩
    go_wp2_with fail
    refine (l_natOf w1 p L c n B _ h hB hL rfl).mono ?_
    rintro e w2 ⟨rfl, hb2⟩
    go_wp2
    go_ret2
    exact ⟨rfl, hb2⟩
  · rw [if_neg h1] at hr
    cases hr
    have d1 : decide (131072 < l) = true := decide_eq_true (by rw [← hl]; unfold nl at h1; omega)
    have d2 : decide ((131072 : Int) < (l : Int)) = true := decide_eq_true (by rw [← hl]; unfold nl at h1; omega)
    clear hl hn h1
    go_enter Tryz.func240, Tryz.ntmps240
    go_wp2_with fail
    refine (l_bitLen w p L c n l B h hL HN.out HL.out).mono ?_
    rintro e w1 ⟨rfl, rfl⟩
    go_wp2
    go_ret2
    exact ⟨rfl, Below.refl _ _⟩
end Go.Proofs.YtbmhfcppaajgbaaGreatDoor
namespace Go.Proofs.YtbmhfcppaajgbaaGreatDoor
set_option maxRecDepth 100000
open Go.RowKit WMath

theorem wl_of_nl (n : Nat) (h : nl n ≤ 16384) : wl n ≤ 2048 := by rw [wl_nl]; omega

set_option maxRecDepth 100000 in
theorem pn_add_ok (a b : Nat) (s t v : ByteArray) (e : Int) (hs : nbA a = s) (ht : nbA b = t) (ha : nl a ≤ 16384) (hb : nl b ≤ 16384) (hr : lg (a + b) = (v, e)) (w : World) :
    Calls Tryz.prog 224 #[.string s, .string t] w fun r w' => r = .returned (.tuple #[.string v, .int .i64 e]) ∧ Below w.heap.size w w' := by
  have HO := box (ok2 hs ht ha hb)
  have HS := box hs
  have HT := box ht
  have HR := box hr
  have HA := box ha
  have HB := box hb
  obtain ⟨K, hK⟩ : ∃ K, wl a = K := ⟨_, rfl⟩
  obtain ⟨M, hM⟩ : ∃ M, wl b = M := ⟨_, rfl⟩
  obtain ⟨N, hN⟩ : ∃ N, wl (a + b) = N := ⟨_, rfl⟩
  have hK2 : K ≤ 2048 := by rw [← hK]; exact wl_of_nl a ha
  have hM2 : M ≤ 2048 := by rw [← hM]; exact wl_of_nl b hb
  have hN2 : N ≤ 2049 := by rw [← hN]; exact wl_add_le a b 2048 (by omega) (by omega)
  have HK := box hK
  have HM := box hM
  have HN := box hN
  clear hs ht ha hb hr hK hM hN
  go_enter Tryz.func224, Tryz.ntmps224
  go_wp2_with fail
  refine (n_may2 s t true HO.out _ w).mono ?_
  rintro r w0 ⟨rfl, rfl⟩
  have b0 := bal w (.cells #[.string s, .string t] 39)
  go_wp2_with fail
  refine (l_wordsOf a K s HS.out (by have := HA.out; omega) HK.out _).mono ?_
  rintro r w1 ⟨p, c, rfl, s1, b1⟩
  go_wp2_with fail
  refine (l_wordsOf b M t HT.out (by have := HB.out; omega) HM.out _).mono ?_
  rintro r w2 ⟨q, d, rfl, s2, b2⟩
  go_wp2_with fail
  refine (l_sum w2 p q K c a M d b w2.heap.size N ((s1.below b2 (Nat.le_refl _)).mono b2.size) s2 (Nat.le_refl _) (by omega) (by omega) HN.out).mono ?_
  rintro r w3 ⟨u, f, rfl, s3, b3⟩
  go_wp2_with fail
  refine (l_answer w3 u N f (a + b) _ v e s3 (Nat.le_refl _) (by omega) HN.out HR.out).mono ?_
  rintro r w4 ⟨rfl, b4⟩
  go_wp2
  go_ret2
  exact ⟨rfl, btr b0 (btr b1 (btr b2 (btr b3 b4)))⟩
end Go.Proofs.YtbmhfcppaajgbaaGreatDoor
namespace Go.Proofs.YtbmhfcppaajgbaaGreatDoor
set_option maxRecDepth 100000
open Go.RowKit WMath

theorem pn_len_ok (n l : Nat) (s : ByteArray) (hs : nbA n = s) (h : nl n ≤ 16384) (hl : blen n = l) (w : World) :
    Calls Tryz.prog 225 #[.string s] w fun r w' => r = .returned (.int .i64 (l : Nat)) ∧ Below w.heap.size w w' := by
  obtain ⟨L, hL⟩ : ∃ L, nl n = L := ⟨_, rfl⟩
  have hz : s.size = L := by rw [← hs, nbA_size, hL]
  have HM : Box (mayB s = true) := box (by rw [← hs]; exact mayB_nb n h)
  have d2 := eq_empty s
  rw [hL] at h
  by_cases h0 : n = 0
  · have e : l = 0 := by rw [← hl, h0]; rfl
    have e2 : L = 0 := by rw [← hL, h0]; exact nl_zero
    subst e
    rw [decide_eq_true (by omega)] at d2
    clear hs hl hL h0
    go_enter Tryz.func225, Tryz.ntmps225
    go_wp2_with fail
    refine (n_may1 s true HM.out _ w).mono ?_
    rintro r w0 ⟨rfl, rfl⟩
    go_wp2
    go_ret
    exact ⟨rfl, bal _ _⟩
  · have hp := nl_pos n h0
    rw [hL] at hp
    rw [decide_eq_false (by omega)] at d2
    have hp2 : 0 < s.size := by omega
    obtain ⟨x, hx⟩ : ∃ x, (s[0]'hp2).toNat = x := ⟨_, rfl⟩
    have hxd : d8 n (L - 1) = x := by
      rw [← hx]
      have e := hs
      subst e
      rw [nbA_get, hL, Nat.sub_zero]
    have hi := idx_runN s 0 0 x rfl hp2 hx
    have x256 : x < 256 := by rw [← hxd]; exact d8_lt _ _
    have e := blen_nl n L x h0 hL hxd
    rw [hl] at e
    obtain ⟨y, hy⟩ : ∃ y, Lib.bitLen x = y := ⟨_, rfl⟩
    rw [← bitLen_blen x (by omega), hy] at e
    have n4 : IntKind.u64.wrap (x : Int) = (x : Int) := by rw [IntKind.wrap_u64]; omega
    have n1 : IntKind.i64.wrap ((L : Int) - 1) = (L : Int) - 1 := wrap_i64_is _ (by omega) (by omega)
    have n2 : IntKind.i64.wrap (((L : Int) - 1) * 8) = ((L : Int) - 1) * 8 := wrap_i64_is _ (by omega) (by omega)
    have y64 : y ≤ 64 := by rw [← hy, bitLen_blen x (by omega)]; exact blen_le_of x 64 (by rw [← two64]; omega)
    have n3 : IntKind.i64.wrap (((L : Int) - 1) * 8 + (y : Int)) = (l : Int) := by rw [wrap_i64_is _ (by omega) (by omega)]; omega
    have x64 : x < 18446744073709551616 := by omega
    have HY := box hy
    clear hs hl hL h0 hx hxd hy e
    go_enter Tryz.func225, Tryz.ntmps225
    go_wp2_with fail
    refine (n_may1 s true HM.out _ w).mono ?_
    rintro r w0 ⟨rfl, rfl⟩
    go_wp2_with fail
    refine (len_any x x64 _).mono ?_
    rintro e w' ⟨rfl, rfl⟩
    rw [HY.out]
    go_wp2
    go_ret
    exact ⟨rfl, bal _ _⟩

theorem nan_str (s : ByteArray) (w : World) : Calls Tryz.prog 249 #[.string s] w fun r w' => r = .returned (.bool false) ∧ w' = w := by
  have h : (s.toList != s.toList) = false := by simp
  go_enter Tryz.func249, Tryz.ntmps249
  go_wp2
  go_ret
  exact ⟨by first | rfl | simp, rfl⟩
theorem cmp_str (a b : Nat) (s t : ByteArray) (c : Int) (hs : nbA a = s) (ht : nbA b = t) (hl : nl a = nl b) (hc : cmpv a b = c) (w : World) : Calls Tryz.prog 176 #[.string s, .string t] w fun r w' => r = .returned (.int .i64 c) ∧ w' = w := by
  have h1 := bless_nb a b hl
  have h2 := bless_nb b a hl.symm
  have h3 := beq_nb a b
  rw [hs, ht] at h1 h2 h3
  have hcase : (decide (a < b) = true ∧ decide (b < a) = false ∧ decide (a = b) = false ∧ c = -1) ∨ (decide (a < b) = false ∧ decide (b < a) = true ∧ decide (a = b) = false ∧ c = 1) ∨ (decide (a < b) = false ∧ decide (b < a) = false ∧ decide (a = b) = true ∧ c = 0) := by
    rw [decide_eq_true_iff, decide_eq_true_iff, decide_eq_true_iff, decide_eq_false_iff_not, decide_eq_false_iff_not, decide_eq_false_iff_not]
    unfold cmpv at hc
    by_cases e : a = b
    · rw [if_pos e] at hc; omega
    · rw [if_neg e] at hc
      by_cases e2 : a < b
      · rw [if_pos e2] at hc; omega
      · rw [if_neg e2] at hc; omega
  clear hs ht hl hc
  rcases hcase with ⟨k1, k2, k3, rfl⟩ | ⟨k1, k2, k3, rfl⟩ | ⟨k1, k2, k3, rfl⟩
  all_goals
    rw [k1] at h1
    rw [k2] at h2
    rw [k3] at h3
    clear k1 k2 k3
    go_enter Tryz.func176, Tryz.ntmps176
    go_wp2_with fail
    refine (nan_str s _).mono ?_
    rintro e w' ⟨rfl, rfl⟩
    go_wp2_with fail
    refine (nan_str t _).mono ?_
    rintro e w' ⟨rfl, rfl⟩
    go_wp2
    go_ret
    exact ⟨rfl, rfl⟩
theorem pn_cmp_ok (a b : Nat) (s t : ByteArray) (c : Int) (hs : nbA a = s) (ht : nbA b = t) (ha : nl a ≤ 16384) (hb : nl b ≤ 16384) (hc : cmpv a b = c) (w : World) :
    Calls Tryz.prog 87 #[.string s, .string t] w fun r w' => r = .returned (.tuple #[.int .i64 c, .int .i64 0]) ∧ Below w.heap.size w w' := by
  have HO := box (ok2 hs ht ha hb)
  have hz : s.size = nl a := by rw [← hs, nbA_size]
  have hy : t.size = nl b := by rw [← ht, nbA_size]
  have b0 := bal w (.cells #[.string s, .string t] 39)
  by_cases h : nl a = nl b
  · have H := box (cmp_str a b s t c hs ht h hc)
    have d1 : ((s.size : Int) != (t.size : Int)) = false := by simp; omega
    have d2 : (s.size : Int) = (t.size : Int) := by omega
    clear hs ht ha hb hc hz hy h
    go_enter Tryz.func87, Tryz.ntmps87
    go_wp2_with fail
    refine (n_may2 s t true HO.out _ w).mono ?_
    rintro r w0 ⟨rfl, rfl⟩
    go_wp2_with fail
    refine (H.out _).mono ?_
    rintro r w1 ⟨rfl, rfl⟩
    go_wp2
    go_ret2
    exact ⟨rfl, b0⟩
  · have d1 : ((s.size : Int) != (t.size : Int)) = true := by simp; omega
    have d2 : ¬ (s.size : Int) = (t.size : Int) := by omega
    have d3 : ¬ s.size = t.size := by omega
    have e : cmpi (s.size : Int) (t.size : Int) = c := by
      rw [cmpi_nat, hz, hy, ← hc]
      by_cases h2 : nl a < nl b
      · rw [cmpv_lt _ _ h2, cmpv_lt a b (by
          by_cases e : a < b
          · exact e
          · have := nl_mono b a (by omega)
            omega)]
      · rw [cmpv_gt _ _ (show nl b < nl a by omega), cmpv_gt a b (by
          by_cases e : b < a
          · exact e
          · have := nl_mono a b (by omega)
            omega)]
    have E := box e
    clear hs ht ha hb hc hz hy h e
    go_enter Tryz.func87, Tryz.ntmps87
    go_wp2_with fail
    refine (n_may2 s t true HO.out _ w).mono ?_
    rintro r w0 ⟨rfl, rfl⟩
    go_wp2_with fail
    refine (cmp_int _ _ c E.out _).mono ?_
    rintro r w1 ⟨rfl, rfl⟩
    go_wp2
    go_ret2
    exact ⟨rfl, b0⟩
end Go.Proofs.YtbmhfcppaajgbaaGreatDoor
namespace Go.Proofs.YtbmhfcppaajgbaaGreatDoor
set_option maxRecDepth 100000
open Go.RowKit WMath

theorem raise_lt (n L s q : Nat) (hn : n < 2 ^ (64 * L)) (hs : s < 64 * (q + 1)) : n * 2 ^ s < 2 ^ (64 * (L + q + 1)) := by
  have h1 : n * 2 ^ s < 2 ^ (64 * L) * 2 ^ s := Nat.mul_lt_mul_of_pos_right hn (Nat.two_pow_pos _)
  rw [← Nat.pow_add] at h1
  exact Nat.lt_of_lt_of_le h1 (Nat.pow_le_pow_right (by decide) (by omega))

set_option maxRecDepth 100000 in
set_option maxHeartbeats 1000000 in
theorem l_raise (w : World) (p : Option Addr) (L c n s q B : Nat) (h : SL B w p L c n) (hB : B ≤ w.heap.size) (hL : L ≤ 100000) (hs : s ≤ 1000000) (hq : s / 64 = q) :
    Calls Tryz.prog 312 #[.slice p L c, .int .i64 (s : Nat)] w fun r w' => ∃ g, r = .returned (.slice (some ⟨g, 0, none⟩) (L + q + 1) (L + q + 1)) ∧ w.heap.size ≤ g ∧ w'.heap[g]? = some (.cells (cw (L + q + 1) (n * 2 ^ s)) 23) ∧ Below w.heap.size w w' := by
  obtain ⟨r, hr⟩ : ∃ r, s % 64 = r := ⟨_, rfl⟩
  have r64 : r < 64 := by omega
  obtain ⟨N, hN⟩ : ∃ N, L + q + 1 = N := ⟨_, rfl⟩
  have q1 : (s : Int) / 64 = (q : Int) := by omega
  have tm : (s : Int).tmod 64 = (r : Int) := by rw [Int.tmod_eq_emod_of_nonneg (by omega)]; omega
  have tm2 : (s : Int) % 64 = (r : Int) := by omega
  have q2 : q ≤ 20000 := by omega
  have HSR : Box (s = 64 * q + r) := box (by omega)
  have hmk := cw_make N ((L : Int) + (q : Int) + 1) (by omega) (by omega)
  have n1 : IntKind.i64.wrap ((L : Int) + (q : Int)) = (L : Int) + (q : Int) := wrap_i64_is _ (by omega) (by omega)
  have n2 : IntKind.i64.wrap ((L : Int) + (q : Int) + 1) = (L : Int) + (q : Int) + 1 := wrap_i64_is _ (by omega) (by omega)
  have w1 : IntKind.i64.wrap (q : Int) = (q : Int) := wrap_i64_is _ (by omega) (by omega)
  have HR := box hr
  have HQ := box hq
  rw [hN]
  have HN := box hN
  clear hr hq hN
  go_enter Tryz.func312, Tryz.ntmps312
  go_wp2
  clear hmk n1 n2 w1 q1 tm tm2
  obtain ⟨g, hg⟩ : ∃ g, w.heap.size = g := ⟨_, rfl⟩
  have r0 : (w.alloc (.cells (cw N 0) 23)).heap[g]? = some (.cells (cw N 0) 23) := by rw [← hg]; exact heap_alloc_last _ _
  have b0 : Below g w (w.alloc (.cells (cw N 0) 23)) := by rw [← hg]; exact (Below.refl _ _).alloc (Nat.le_refl _) _
  rw [hg] at hB ⊢
  go_loopw [22] (fun iv wr => ∃ (i X : Nat), i ≤ L ∧ iv = .int .i64 i ∧ wr.heap[g]? = some (.cells (cw N X) 23) ∧ Below g w wr ∧ Box (X = (n % 2 ^ (64 * i)) * 2 ^ s)) (fun iv _ => L - (intOf iv).toNat)
  case atStart => exact ⟨0, 0, by omega, rfl, r0, b0, box (by simp [Nat.mod_one])⟩
  case round =>
    clear r0 b0
    obtain ⟨i, X, hi, rfl, r1, hbw, HX⟩ := hrel
    by_cases hlt : i < L
    · obtain ⟨bp, op, rfl, _⟩ := h.ptr (by omega)
      obtain ⟨x, hx⟩ : ∃ x, wd n i = x := ⟨_, rfl⟩
      obtain ⟨t, ht⟩ : ∃ t, i + q = t := ⟨_, rfl⟩
      obtain ⟨lo, hlo⟩ : ∃ lo, x * 2 ^ r % 18446744073709551616 = lo := ⟨_, rfl⟩
      obtain ⟨hj, hhj⟩ : ∃ hj, x / 2 ^ (64 - r) = hj := ⟨_, rfl⟩
      obtain ⟨k, hk⟩ : ∃ k, 64 - r = k := ⟨_, rfl⟩
      have x64 : x < 18446744073709551616 := by rw [← hx]; exact wd_lt _ _
      have lo64 : lo < 18446744073709551616 := by rw [← hlo]; exact Nat.mod_lt _ (by decide)
      have hj64 : hj < 18446744073709551616 := by rw [← hhj]; exact Nat.lt_of_le_of_lt (Nat.div_le_self _ _) x64
      have ST := raise_step n i s q r t X lo hj HSR.out r64 ht.symm HX.out (by rw [hx]; exact hlo) (by rw [hx]; exact hhj)
      have c0 := (h.below hbw (by omega)).cell i x hlt hx
      have tN : t + 1 < N := by rw [← HN.out]; omega
      have tN0 : t < N := by omega
      have t1 : (i : Int) + (q : Int) = (t : Int) := by omega
      have k1 : (64 : Int) - (r : Int) = (k : Int) := by omega
      have k2 : IntKind.i64.wrap (k : Int) = (k : Int) := wrap_i64_is _ (by omega) (by omega)
      have t2 : IntKind.i64.wrap (t : Int) = (t : Int) := wrap_i64_is _ (by omega) (by omega)
      have t3 : IntKind.i64.wrap ((t : Int) + 1) = (t : Int) + 1 := wrap_i64_is _ (by omega) (by omega)
      have tNi : (t : Int) < (N : Int) := by omega
      have tNj : (t : Int) + 1 < (N : Int) := by omega
      have c1 : wr.cell? ⟨g, t, none⟩ = some (.int .u64 (wd X t : Nat)) := by rw [cell_of_row wr g t _ _ _ r1, cw_at N X t tN0]
      have c2 : wr.cell? ⟨g, t + 1, none⟩ = some (.int .u64 (wd X (t + 1) : Nat)) := by rw [cell_of_row wr g (t + 1) _ _ _ r1, cw_at N X (t + 1) tN]
      have f1 := fz (k := t) r1
      have f2 := fz (k := t + 1) r1
      have x1 := bor X t lo lo64
      have x2 := bor X (t + 1) hj hj64
      have LO := box (l_left x r lo (by omega) hlo)
      have HJ := box (l_right x k hj (by omega) (by rw [← hk]; exact hhj))
      have dl : decide (i < L) = true := decide_eq_true hlt
      obtain ⟨X1, hX1⟩ : ∃ X1, X1 = X ||| lo * 2 ^ (64 * t) := ⟨_, rfl⟩
      have row1 : (wr.setCell ⟨g, t, none⟩ (.int .u64 ((wd X t ||| lo : Nat) : Int))).heap[g]? = some (.cells (cw N X1) 23) := by rw [setCell_row r1, cw_or N X t lo X1 tN0 lo64 hX1]
      have e1 : wd X1 (t + 1) = wd X (t + 1) := by
        rw [hX1, wd_or, wd_high (n := lo * 2 ^ (64 * t)) (q := t + 1) (by rw [pow64, Nat.mul_comm]; exact Nat.mul_lt_mul_of_pos_left lo64 (Nat.two_pow_pos _)) (Nat.le_refl _), Nat.or_zero]
      have row2 : ((wr.setCell ⟨g, t, none⟩ (.int .u64 ((wd X t ||| lo : Nat) : Int))).setCell ⟨g, t + 1, none⟩ (.int .u64 ((wd X (t + 1) ||| hj : Nat) : Int))).heap[g]? = some (.cells (cw N ((n % 2 ^ (64 * (i + 1))) * 2 ^ s)) 23) := by
        rw [setCell_row row1, ← e1, cw_or N X1 (t + 1) hj _ tN hj64 (by rw [hX1, ST])]
      have RS := box row2
      have BS : Box (Below g w ((wr.setCell ⟨g, t, none⟩ (.int .u64 ((wd X t ||| lo : Nat) : Int))).setCell ⟨g, t + 1, none⟩ (.int .u64 ((wd X (t + 1) ||| hj : Nat) : Int)))) := box ((hbw.setCell (Nat.le_refl _) _).setCell (Nat.le_refl _) _)
      clear hx ht hlo hhj hk h hX1 row1 row2 e1 ST HX
      go_wp2
      go_region_with (go_at_call 264; refine (LO.out _).mono ?_; rintro e w' ⟨rfl, rfl⟩)
      all_goals go_wp2
      all_goals go_region_with (go_at_call 265; refine (HJ.out _).mono ?_; rintro e w' ⟨rfl, rfl⟩)
      all_goals go_wp2
      all_goals exact ⟨⟨i + 1, _, by omega, by go_num, RS.out, BS.out.drew.drew, box rfl⟩, by simp [intOf]; omega⟩
    · obtain rfl : i = L := by omega
      have e := HX.out
      rw [Nat.mod_eq_of_lt h.1] at e
      subst e
      have dl : decide (i < i) = false := by rw [decide_eq_false_iff_not]; omega
      go_wp2
      go_ret
      exact ⟨g, rfl, by omega, r1, by rw [hg]; exact hbw⟩
end Go.Proofs.YtbmhfcppaajgbaaGreatDoor
namespace Go.Proofs.YtbmhfcppaajgbaaGreatDoor
set_option maxRecDepth 100000
open Go.RowKit WMath

theorem l_up (w : World) (p : Option Addr) (L c n s K B : Nat) (h : SL B w p L c n) (hB : B ≤ w.heap.size) (hL : L ≤ 50000) (hs : s ≤ 1000000) (hK : wl (n * 2 ^ s) = K) :
    Calls Tryz.prog 286 #[.slice p L c, .int .i64 (s : Nat)] w fun r w' => ∃ g d, r = .returned (.slice g K d) ∧ SL w'.heap.size w' g K d (n * 2 ^ s) ∧ Below w.heap.size w w' := by
  obtain ⟨q, hq⟩ : ∃ q, s / 64 = q := ⟨_, rfl⟩
  have hlt := raise_lt n L s q h.1 (by omega)
  have HK := box hK
  have HQ := box hq
  have HL := box hlt
  have q2 : q ≤ 20000 := by omega
  clear hK hq hlt
  go_enter Tryz.func286, Tryz.ntmps286
  go_wp2_with fail
  refine (l_raise w p L c n s q B h hB (by omega) hs HQ.out).mono ?_
  rintro e w1 ⟨g, rfl, hg, r1, b1⟩
  have s1 : SL w1.heap.size w1 (some ⟨g, 0, none⟩) (L + q + 1) (L + q + 1) (n * 2 ^ s) := SL.row r1 _ (Array.getElem?_eq_some_iff.1 r1).1 HL.out (Nat.le_refl _)
  go_wp2_with fail
  refine (l_trim w1 _ _ _ _ K _ s1 (by omega) HK.out).mono ?_
  rintro e w2 ⟨u, d, rfl, s2, rfl⟩
  go_wp2
  go_ret
  exact ⟨u, d, rfl, s2, b1⟩

theorem down_lt (n L s q N : Nat) (hn : n < 2 ^ (64 * L)) (hs : 64 * q ≤ s) (hN : L - q = N) : n / 2 ^ s < 2 ^ (64 * N) := by
  apply Nat.div_lt_of_lt_mul
  rw [← Nat.pow_add]
  exact Nat.lt_of_lt_of_le hn (Nat.pow_le_pow_right (by decide) (by omega))

set_option maxRecDepth 100000 in
set_option maxHeartbeats 1000000 in
theorem l_down (w : World) (p : Option Addr) (L c n s K B : Nat) (h : SL B w p L c n) (hB : B ≤ w.heap.size) (hL : L ≤ 100000) (hs : s ≤ 9223372036854775807) (hK : wl (n / 2 ^ s) = K) :
    Calls Tryz.prog 273 #[.slice p L c, .int .i64 (s : Nat)] w fun r w' => ∃ g d, r = .returned (.slice g K d) ∧ SL w'.heap.size w' g K d (n / 2 ^ s) ∧ Below w.heap.size w w' := by
  obtain ⟨q, hq⟩ : ∃ q, s / 64 = q := ⟨_, rfl⟩
  obtain ⟨r, hr⟩ : ∃ r, s % 64 = r := ⟨_, rfl⟩
  have r64 : r < 64 := by omega
  obtain ⟨N, hN⟩ : ∃ N, L - q = N := ⟨_, rfl⟩
  have hDN := down_lt n L s q N h.1 (by omega) hN
  obtain ⟨D, hD⟩ : ∃ D, n / 2 ^ s = D := ⟨_, rfl⟩
  have q1 : (s : Int) / 64 = (q : Int) := by omega
  have q1' : (s : Int).tdiv 64 = (q : Int) := by rw [Int.tdiv_eq_ediv_of_nonneg (by omega)]; omega
  have tm : (s : Int).tmod 64 = (r : Int) := by rw [Int.tmod_eq_emod_of_nonneg (by omega)]; omega
  have tm2 : (s : Int) % 64 = (r : Int) := by omega
  have HSR : Box (s = 64 * q + r) := box (by omega)
  have q57 : q ≤ 144115188075855871 := by omega
  have w1 : IntKind.i64.wrap (q : Int) = (q : Int) := wrap_i64_is _ (by omega) (by omega)
  have n1 : IntKind.i64.wrap ((L : Int) - (q : Int)) = (L : Int) - (q : Int) := wrap_i64_is _ (by omega) (by omega)
  rw [hD] at hK hDN ⊢
  have HD := box hD
  have HDN := box hDN
  have HK := box hK
  clear hr hq hD hDN hK
  have hcase : ((L : Int) - (q : Int) = (N : Int) ∧ ((N : Int) < 0) = False) ∨ (((L : Int) - (q : Int) < 0) = True ∧ (0 : Int) = (N : Int)) := by
    by_cases hqL : q ≤ L
    · left; exact ⟨by omega, eq_false (by omega)⟩
    · right; exact ⟨eq_true (by omega), by omega⟩
  have hNL : N ≤ L := by omega
  have HNL := box hN
  obtain ⟨g, hg⟩ : ∃ g, w.heap.size = g := ⟨_, rfl⟩
  have hB2 := hB
  rw [hg] at hB2
  have r0 : (w.alloc (.cells (cw N 0) 23)).heap[g]? = some (.cells (cw N 0) 23) := by rw [← hg]; exact heap_alloc_last _ _
  have b0 : Below g w (w.alloc (.cells (cw N 0) 23)) := by rw [← hg]; exact (Below.refl _ _).alloc (Nat.le_refl _) _
  have R0 := box r0
  have B0 := box b0
  clear hN r0 b0
  rcases hcase with ⟨e1, e2⟩ | ⟨e1, e2⟩
  all_goals
    first
      | (have hmk := cw_make N (N : Int) rfl (by omega)
         have n3 : IntKind.i64.wrap (N : Int) = (N : Int) := wrap_i64_is _ (by omega) (by omega)
         have e3 : ((N : Int) < 0) = False := e2)
      | (have hmk := cw_make N (0 : Int) e2 (by omega)
         clear e2)
    go_enter Tryz.func273, Tryz.ntmps273
    go_wp2
    clear hmk
    try rw [hg]
    go_loopw [21] (fun iv wr => ∃ (i : Nat), i ≤ N ∧ iv = .int .i64 i ∧ wr.heap[g]? = some (.cells (cw N (D % 2 ^ (64 * i))) 23) ∧ Below g w wr) (fun iv _ => N - (intOf iv).toNat)
    case atStart => exact ⟨0, by omega, rfl, by rw [Nat.mul_zero, Nat.pow_zero, Nat.mod_one]; exact R0.out, B0.out⟩
    case round =>
      obtain ⟨i, hi, rfl, r1, hbw⟩ := hrel
      by_cases hlt : i < N
      · obtain ⟨bp, op, rfl, _⟩ := h.ptr (by omega)
        obtain ⟨t, ht⟩ : ∃ t, i + q = t := ⟨_, rfl⟩
        have tL : t < L := by have := HNL.out; omega
        obtain ⟨x, hx⟩ : ∃ x, wd n t = x := ⟨_, rfl⟩
        obtain ⟨t', ht'⟩ : ∃ t', t + 1 = t' := ⟨_, rfl⟩
        obtain ⟨y, hy⟩ : ∃ y, wd n t' = y := ⟨_, rfl⟩
        obtain ⟨k, hk⟩ : ∃ k, 64 - r = k := ⟨_, rfl⟩
        obtain ⟨z1, hz1⟩ : ∃ z1, x / 2 ^ r = z1 := ⟨_, rfl⟩
        obtain ⟨z2, hz2⟩ : ∃ z2, y * 2 ^ k % 18446744073709551616 = z2 := ⟨_, rfl⟩
        obtain ⟨z, hz⟩ : ∃ z, wd D i = z := ⟨_, rfl⟩
        have x64 : x < 18446744073709551616 := by rw [← hx]; exact wd_lt _ _
        have z164 : z1 < 18446744073709551616 := by rw [← hz1]; exact Nat.lt_of_le_of_lt (Nat.div_le_self _ _) x64
        have z264 : z2 < 18446744073709551616 := by rw [← hz2]; exact Nat.mod_lt _ (by decide)
        have z64 : z < 18446744073709551616 := by rw [← hz]; exact wd_lt _ _
        have e4 : z1 ||| z2 = z := by rw [← hz, ← HD.out, down_wd n s q r i HSR.out r64, ht, ht', hx, hy, hz1, hk, hz2]
        have bo : bits .or .u64 (z1 : Nat) (z2 : Nat) = (z : Int) := by rw [← e4]; exact bits_or_u64_nat _ _ z164 z264
        have s0 := h.below hbw hB2
        have c0 := s0.cell t x tL hx
        have t1 : (i : Int) + (q : Int) = (t : Int) := by omega
        have k1 : (64 : Int) - (r : Int) = (k : Int) := by omega
        have k2 : IntKind.i64.wrap (k : Int) = (k : Int) := wrap_i64_is _ (by omega) (by omega)
        have t2 : IntKind.i64.wrap (t : Int) = (t : Int) := wrap_i64_is _ (by omega) (by omega)
        have t3 : (t : Int) + 1 = (t' : Int) := by omega
        have t4 : IntKind.i64.wrap (t' : Int) = (t' : Int) := wrap_i64_is _ (by omega) (by omega)
        have tLi : (t : Int) < (L : Int) := by omega
        have c1 : wr.cell? ⟨g, i, none⟩ = some (.int .u64 (wd (D % 2 ^ (64 * i)) i : Nat)) := by rw [cell_of_row wr g i _ _ _ r1, cw_at N _ i hlt]
        have f1 := fz (k := i) r1
        have RS : Box ((wr.setCell ⟨g, i, none⟩ (.int .u64 (z : Int))).heap[g]? = some (.cells (cw N (D % 2 ^ (64 * (i + 1)))) 23)) := box (by
          rw [setCell_row r1, cw_push N _ i z _ hlt (Nat.mod_lt _ (Nat.two_pow_pos _)) z64 rfl, mod_wd, hz])
        have BS : Box (Below g w (wr.setCell ⟨g, i, none⟩ (.int .u64 (z : Int)))) := box (hbw.setCell (Nat.le_refl _) _)
        have RI := box (l_right x r z1 (by omega) hz1)
        have LE := box (l_left y k z2 (by omega) hz2)
        have HY := box hy
        have dl : decide (i < N) = true := decide_eq_true hlt
        clear hx hy ht ht' hz1 hz2 hk hz e4 h
        go_wp2_with fail
        refine (RI.out _).mono ?_
        rintro e w' ⟨rfl, rfl⟩
        go_wp2_with fail
        refine (l_at _ _ L c n t' y s0 HY.out hL).mono ?_
        rintro e w' ⟨rfl, rfl⟩
        go_wp2_with fail
        refine (LE.out _).mono ?_
        rintro e w' ⟨rfl, rfl⟩
        go_wp2
        go_roundw
        case rel => exact ⟨i + 1, by omega, by go_num, RS.out, BS.out⟩
        case measure => simp [intOf] <;> omega
      · obtain rfl : i = N := by omega
        rw [Nat.mod_eq_of_lt HDN.out] at r1
        have dl : decide (i < i) = false := by rw [decide_eq_false_iff_not]; omega
        have s1 : SL wr.heap.size wr (some ⟨g, 0, none⟩) i i D := SL.row r1 _ (Array.getElem?_eq_some_iff.1 r1).1 HDN.out (Nat.le_refl _)
        go_wp2_with fail
        refine (l_trim wr _ _ _ _ K _ s1 (by omega) HK.out).mono ?_
        rintro e w2 ⟨u, d, rfl, s2, rfl⟩
        go_wp2
        go_ret
        exact ⟨u, d, rfl, s2, by rw [hg]; exact hbw⟩
end Go.Proofs.YtbmhfcppaajgbaaGreatDoor
namespace Go.Proofs.YtbmhfcppaajgbaaGreatDoor
set_option maxRecDepth 100000
open Go.RowKit WMath

theorem tabB {w w' : World} (h : TabAt w) (hb : Below w.heap.size w w') : TabAt w' := fun i hi => by
  rw [hb.cell (p := ⟨5, i, none⟩) (World.block_lt_of_cell? w _ (h i hi))]
  exact h i hi
theorem tabA {w : World} (h : TabAt w) (o : Obj) : TabAt (w.alloc o) := tabB h (bal w o)

theorem cw1 (x : Nat) (h : x < 18446744073709551616) : #[Value.int .u64 (x : Nat)] = cw 1 x := by
  have e : wd x 0 = x := by unfold wd; rw [Nat.mul_zero, Nat.pow_zero, Nat.div_one, Nat.mod_eq_of_lt h]
  show _ = #[Value.int .u64 (wd x 0 : Nat)]
  rw [e]

theorem pn_of (x : Nat) (v : ByteArray) (hx : x < 18446744073709551616) (hv : nbA x = v) (w : World) :
    Calls Tryz.prog 237 #[.int .u64 (x : Nat)] w fun r w' => r = .returned (.string v) ∧ Below w.heap.size w w' := by
  have HV := box hv
  have b0 := bal w (.cells #[.int .u64 (x : Nat)] 23)
  have r0 : (w.alloc (.cells #[.int .u64 (x : Nat)] 23)).heap[w.heap.size]? = some (.cells (cw 1 x) 23) := by rw [← cw1 x hx]; exact heap_alloc_last _ _
  have s0 : SL (w.alloc (.cells #[.int .u64 (x : Nat)] 23)).heap.size (w.alloc (.cells #[.int .u64 (x : Nat)] 23)) (some ⟨w.heap.size, 0, none⟩) 1 1 x := SL.row r0 _ (Array.getElem?_eq_some_iff.1 r0).1 (by rw [Nat.mul_one, ← two64]; exact hx) (Nat.le_refl _)
  have S0 := box s0
  clear hv r0 s0
  go_enter Tryz.func237, Tryz.ntmps237
  go_wp2_with fail
  refine (l_natOf _ _ 1 1 x _ v S0.out (Nat.le_refl _) (by omega) HV.out).mono ?_
  rintro r w1 ⟨rfl, b1⟩
  go_wp2
  go_ret
  exact ⟨rfl, btr b0 b1⟩

theorem lowB8 (x r : Nat) (hx : x < 256) (h : LowB x r) : LowIs x r ∧ r < 8 := by
  have h8 : r < 8 := by
    by_cases e : r < 8
    · exact e
    · have := lt_bit (n := x) (q := 8) (by rw [← two8]; exact hx) (show 8 ≤ r by omega)
      rw [h.2] at this
      exact absurd this (by decide)
  exact ⟨⟨by omega, h.1, h.2⟩, h8⟩

set_option maxRecDepth 100000 in
set_option maxHeartbeats 1000000 in
theorem pn_low_ok (n t : Nat) (s : ByteArray) (hs : nbA n = s) (h : nl n ≤ 16384) (ht : LowN n t) (w : World) (hT : TabAt w) :
    Calls Tryz.prog 244 #[.string s] w fun r w' => r = .returned (.int .i64 (t : Nat)) ∧ Below w.heap.size w w' := by
  obtain ⟨L, hL⟩ : ∃ L, nl n = L := ⟨_, rfl⟩
  have hz : s.size = L := by rw [← hs, nbA_size, hL]
  have HM : Box (mayB s = true) := box (by rw [← hs]; exact mayB_nb n h)
  rw [hL] at h
  have HS := box hs
  have HT := box ht
  have HL := box hL
  have TA := box (tabA hT (.cells #[.string s] 39))
  have b0 := bal w (.cells #[.string s] 39)
  clear hs ht hL hT
  go_enter Tryz.func244, Tryz.ntmps244
  go_wp2_with fail
  refine (n_may1 s true HM.out _ w).mono ?_
  rintro r w0 ⟨rfl, rfl⟩
  go_wp2
  go_loopw [11] (fun iv wr => ∃ i : Nat, i ≤ L ∧ iv = .int .i64 i ∧ wr = w.alloc (.cells #[.string s] 39) ∧ Box (n % 2 ^ (8 * i) = 0)) (fun iv _ => L - (intOf iv).toNat)
  case atStart => exact ⟨0, by omega, rfl, rfl, box (by rw [Nat.mul_zero, Nat.pow_zero, Nat.mod_one])⟩
  case round =>
    obtain ⟨i, hi, rfl, rfl, HE⟩ := hrel
    by_cases hlt : i < L
    · obtain ⟨k, hk⟩ : ∃ k, L - 1 - i = k := ⟨_, rfl⟩
      have hk2 : k < s.size := by omega
      obtain ⟨x, hx⟩ : ∃ x, (s[k]'hk2).toNat = x := ⟨_, rfl⟩
      have hxd : d8 n i = x := by
        rw [← hx]
        have e := HS.out
        subst e
        rw [nbA_get, HL.out, ← hk, show L - 1 - (L - 1 - i) = i by omega]
      have x256 : x < 256 := by rw [← hxd]; exact d8_lt _ _
      have n1 : IntKind.i64.wrap ((L : Int) - 1) = (L : Int) - 1 := wrap_i64_is _ (by omega) (by omega)
      have n2 : IntKind.i64.wrap ((L : Int) - 1 - (i : Int)) = (k : Int) := by rw [wrap_i64_is _ (by omega) (by omega)]; omega
      have n2' : (L : Int) - 1 - (i : Int) = (k : Int) := by omega
      have n2'' : IntKind.i64.wrap (k : Int) = (k : Int) := wrap_i64_is _ (by omega) (by omega)
      have hxr := idx_runN s k (k : Int) x rfl hk2 hx
      have dl : decide (i < L) = true := decide_eq_true hlt
      by_cases hx0 : x = 0
      · have NE : Box (n % 2 ^ (8 * (i + 1)) = 0) := box (by rw [mod_d8, HE.out, hxd, hx0, Nat.mul_zero])
        have d0 : ((x : Int) != 0) = false := by simp; omega
        clear hk hx hxd HE hx0
        go_wp2
        go_roundw
        case rel => exact ⟨i + 1, by omega, by go_num, by first | rfl | trivial, NE⟩
        case measure => simp [intOf] <;> omega
      · obtain ⟨r, hr⟩ := lowB_any x hx0
        obtain ⟨hr1, r8⟩ := lowB8 x r x256 hr
        have hnl := lowB_d8 n i r HE.out (by rw [hxd]; exact hr) r8
        have et : 8 * i + r = t := by
          rcases HT.out with ⟨h1, _⟩ | ⟨_, h2⟩
          · exfalso
            rw [h1, d8_zero] at hxd
            exact hx0 hxd.symm
          · exact lowB_one n _ _ hnl h2
        have d0 : ((x : Int) != 0) = true := by simp; omega
        have LW := box (low_any x r (by omega) hr1 _ TA.out)
        have n3 : IntKind.u64.wrap (x : Int) = (x : Int) := by rw [IntKind.wrap_u64]; omega
        have n4 : IntKind.i64.wrap ((i : Int) * 8) = (i : Int) * 8 := wrap_i64_is _ (by omega) (by omega)
        have n5 : IntKind.i64.wrap ((i : Int) * 8 + (r : Int)) = (t : Int) := by rw [wrap_i64_is _ (by omega) (by omega)]; omega
        clear hk hx hxd HE hx0 hr hr1 hnl et
        go_wp2_with fail
        refine LW.out.mono ?_
        rintro e w' ⟨rfl, rfl⟩
        go_wp2
        go_ret
        exact ⟨rfl, b0⟩
    · obtain rfl : i = L := by omega
      have e := HE.out
      rw [Nat.mod_eq_of_lt (by rw [← HL.out]; exact nl_lt n)] at e
      have et : t = 0 := by
        rcases HT.out with ⟨_, h2⟩ | ⟨h1, _⟩
        · exact h2
        · exact absurd e h1
      subst et
      have dl : decide (i < i) = false := by rw [decide_eq_false_iff_not]; omega
      clear e
      go_wp2
      go_ret
      exact ⟨rfl, b0⟩

theorem blen_shl (b n : Nat) (hb : b ≠ 0) : blen (b * 2 ^ n) = blen b + n := by
  have h1 := blen_le b hb
  have h2 := blen_lt b
  have h3 := blen_pos b hb
  have e : blen b + n = blen b - 1 + n + 1 := by omega
  rw [e]
  apply blen_of
  · rw [Nat.pow_add]; exact Nat.mul_le_mul_right _ h1
  · rw [show blen b - 1 + n + 1 = blen b + n by omega, Nat.pow_add]
    exact Nat.mul_lt_mul_of_pos_right h2 (Nat.two_pow_pos _)
set_option maxRecDepth 100000 in
theorem pn_left_ok (a : Nat) (n : Int) (s v : ByteArray) (e : Int) (hs : nbA a = s) (ha : nl a ≤ 16384) (h63 : -9223372036854775808 ≤ n) (hn : n ≤ 9223372036854775807) (hr : lf a n = (v, e)) (w : World) :
    Calls Tryz.prog 247 #[.string s, .int .i64 n] w fun r w' => r = .returned (.tuple #[.string v, .int .i64 e]) ∧ Below w.heap.size w w' := by
  have HM : Box (mayB s = true) := box (by rw [← hs]; exact mayB_nb a ha)
  have b0 := bal w (.cells #[.string s] 39)
  unfold lf at hr
  by_cases h0 : n < 0
  · rw [if_pos h0] at hr
    cases hr
    have d0 : decide (n < 0) = true := decide_eq_true h0
    clear hs
    go_enter Tryz.func247, Tryz.ntmps247
    go_wp2_with fail
    refine (n_may1 s true HM.out _ w).mono ?_
    rintro r w0 ⟨rfl, rfl⟩
    go_wp2
    go_ret2
    exact ⟨rfl, b0⟩
  · rw [if_neg h0] at hr
    obtain ⟨k, rfl⟩ : ∃ k : Nat, n = (k : Int) := ⟨n.toNat, by omega⟩
    rw [Int.toNat_natCast] at hr
    have d0 : decide ((k : Int) < 0) = false := by rw [decide_eq_false_iff_not]; omega
    have d2 := eq_empty s
    by_cases a0 : a = 0
    · subst a0
      rw [nbA_zero] at hs
      subst hs
      have ez : v = ⟨#[]⟩ ∧ e = 0 := by
        unfold lg at hr
        rw [Nat.zero_mul, if_pos (by rw [nl_zero]; omega), nbA_zero] at hr
        cases hr
        exact ⟨rfl, rfl⟩
      obtain ⟨rfl, rfl⟩ := ez
      clear d2
      go_enter Tryz.func247, Tryz.ntmps247
      go_wp2_with fail
      refine (n_may1 _ true HM.out _ w).mono ?_
      rintro r w0 ⟨rfl, rfl⟩
      go_wp2
      go_ret2
      exact ⟨rfl, b0⟩
    · rw [decide_eq_false (by rw [← hs, nbA_size]; have := nl_pos a a0; omega)] at d2
      obtain ⟨l, hl⟩ : ∃ l, blen a = l := ⟨_, rfl⟩
      have l2 : l ≤ 131072 := by rw [← hl]; unfold nl at ha; omega
      have n1 : IntKind.i64.wrap (131072 - (l : Int)) = 131072 - (l : Int) := wrap_i64_is _ (by omega) (by omega)
      have hb := blen_shl a k a0
      rw [hl] at hb
      have HS := box hs
      have HA := box ha
      have HL := box hl
      by_cases hc : l + k ≤ 131072
      · have d1 : decide ((131072 : Int) - (l : Int) < (k : Int)) = false := decide_eq_false (by omega)
        have hv : nbA (a * 2 ^ k) = v ∧ e = 0 := by
          unfold lg at hr
          rw [if_pos (by unfold nl; rw [hb]; omega)] at hr
          cases hr
          exact ⟨rfl, rfl⟩
        obtain ⟨hv, rfl⟩ := hv
        obtain ⟨K, hK⟩ : ∃ K, wl a = K := ⟨_, rfl⟩
        obtain ⟨M, hM⟩ : ∃ M, wl (a * 2 ^ k) = M := ⟨_, rfl⟩
        have hK2 : K ≤ 2048 := by rw [← hK]; exact wl_of_nl a ha
        have hM2 : M ≤ 2048 := by rw [← hM]; unfold wl; rw [hb]; omega
        have k2 : k ≤ 131072 := by omega
        have HK := box hK
        have HMM := box hM
        have HV := box hv
        clear hs ha hr hl hb hv hK hM a0
        go_enter Tryz.func247, Tryz.ntmps247
        go_wp2_with fail
        refine (n_may1 s true HM.out _ w).mono ?_
        rintro r w0 ⟨rfl, rfl⟩
        go_wp2_with fail
        refine (pn_len_ok a l s HS.out HA.out HL.out _).mono ?_
        rintro r w1 ⟨rfl, b1⟩
        go_wp2_with fail
        refine (l_wordsOf a K s HS.out (by have := HA.out; omega) HK.out _).mono ?_
        rintro r w2 ⟨p, c, rfl, s2, b2⟩
        go_wp2_with fail
        refine (l_up w2 p K c a k M _ s2 (Nat.le_refl _) (by omega) (by omega) HMM.out).mono ?_
        rintro r w3 ⟨q, d, rfl, s3, b3⟩
        go_wp2_with fail
        refine (l_natOf w3 q M d (a * 2 ^ k) _ v s3 (Nat.le_refl _) (by omega) HV.out).mono ?_
        rintro r w4 ⟨rfl, b4⟩
        go_wp2
        go_ret2
        exact ⟨rfl, btr b0 (btr b1 (btr b2 (btr b3 b4)))⟩
      · have d1 : decide ((131072 : Int) - (l : Int) < (k : Int)) = true := decide_eq_true (by omega)
        have hv : v = ⟨#[]⟩ ∧ e = 4 := by
          unfold lg at hr
          rw [if_neg (by unfold nl; rw [hb]; omega)] at hr
          cases hr
          exact ⟨rfl, rfl⟩
        obtain ⟨rfl, rfl⟩ := hv
        clear hs ha hr hl hb a0
        go_enter Tryz.func247, Tryz.ntmps247
        go_wp2_with fail
        refine (n_may1 s true HM.out _ w).mono ?_
        rintro r w0 ⟨rfl, rfl⟩
        go_wp2_with fail
        refine (pn_len_ok a l s HS.out HA.out HL.out _).mono ?_
        rintro r w1 ⟨rfl, b1⟩
        go_wp2
        go_ret2
        exact ⟨rfl, btr b0 b1⟩
end Go.Proofs.YtbmhfcppaajgbaaGreatDoor
namespace Go.Proofs.YtbmhfcppaajgbaaGreatDoor
set_option maxRecDepth 100000
open Go.RowKit WMath

set_option maxRecDepth 100000 in
theorem pn_right_ok (a : Nat) (n : Int) (s v : ByteArray) (o : Bool) (hs : nbA a = s) (ha : nl a ≤ 16384) (h0 : 0 ≤ n) (hn : n ≤ 9223372036854775807) (hv : nbA (a / 2 ^ n.toNat) = v) (ho : decide (a % 2 ^ n.toNat ≠ 0) = o) (w : World) (hT : TabAt w) :
    Calls Tryz.prog 222 #[.string s, .int .i64 n] w fun r w' => r = .returned (.tuple #[.string v, .bool o, .int .i64 0]) ∧ Below w.heap.size w w' := by
  obtain ⟨k, rfl⟩ : ∃ m : Nat, n = (m : Int) := ⟨n.toNat, by omega⟩
  rw [Int.toNat_natCast] at hv ho
  have HM : Box (mayB s = true) := box (by rw [← hs]; exact mayB_nb a ha)
  have b0 := bal w (.cells #[.string s] 39)
  have d0 : decide ((k : Int) < 0) = false := by rw [decide_eq_false_iff_not]; omega
  have d2 := eq_empty s
  obtain ⟨K, hK⟩ : ∃ K, wl a = K := ⟨_, rfl⟩
  obtain ⟨M, hM⟩ : ∃ M, wl (a / 2 ^ k) = M := ⟨_, rfl⟩
  have hK2 : K ≤ 2048 := by rw [← hK]; exact wl_of_nl a ha
  have hM2 : M ≤ 2048 := by rw [← hM]; exact Nat.le_trans (wl_mono _ a (Nat.div_le_self _ _)) (by omega)
  have k2 : k ≤ 9223372036854775807 := by omega
  have HS := box hs
  have HA := box ha
  have HK := box hK
  have HMM := box hM
  have HV := box hv
  by_cases a0 : a = 0
  · subst a0
    have eo : o = false := by rw [← ho, Nat.zero_mod]; rfl
    subst eo
    have es : s = ⟨#[]⟩ := by rw [← hs, nbA_zero]
    subst es
    clear hs ho hv hK hM d2 ha hT
    go_enter Tryz.func222, Tryz.ntmps222
    go_wp2_with fail
    refine (n_may1 _ true HM.out _ w).mono ?_
    rintro r w0 ⟨rfl, rfl⟩
    go_wp2_with fail
    refine (l_wordsOf 0 K _ HS.out (by have := HA.out; omega) HK.out _).mono ?_
    rintro r w2 ⟨p, c, rfl, s2, b2⟩
    go_wp2_with fail
    refine (l_down w2 p K c 0 k M _ s2 (Nat.le_refl _) (by omega) k2 HMM.out).mono ?_
    rintro r w3 ⟨q, d, rfl, s3, b3⟩
    go_wp2_with fail
    refine (l_natOf w3 q M d (0 / 2 ^ k) _ v s3 (Nat.le_refl _) (by omega) HV.out).mono ?_
    rintro r w4 ⟨rfl, b4⟩
    go_wp2
    go_ret3
    exact ⟨rfl, btr b0 (btr b2 (btr b3 b4))⟩
  · rw [decide_eq_false (by rw [← hs, nbA_size]; have := nl_pos a a0; omega)] at d2
    have d3 : (s.toList != []) = true := by rw [bne, d2]; rfl
    obtain ⟨t, ht⟩ := lowB_any a a0
    have hlo := lost_low a k t ht
    have e1 : decide (t < k) = o := by rw [← ho]; exact decide_eq_decide.2 hlo.symm
    have LW := box (fun w hT => pn_low_ok a t s hs ha (Or.inr ⟨a0, ht⟩) w hT)
    have TA := box (tabA hT (.cells #[.string s] 39))
    clear hs ho hv hK hM ha hT ht hlo a0
    go_enter Tryz.func222, Tryz.ntmps222
    go_wp2_with fail
    refine (n_may1 _ true HM.out _ w).mono ?_
    rintro r w0 ⟨rfl, rfl⟩
    go_wp2_with fail
    refine (LW.out _ TA.out).mono ?_
    rintro r w1 ⟨rfl, b1⟩
    go_wp2_with fail
    refine (l_wordsOf a K _ HS.out (by have := HA.out; omega) HK.out _).mono ?_
    rintro r w2 ⟨p, c, rfl, s2, b2⟩
    go_wp2_with fail
    refine (l_down w2 p K c a k M _ s2 (Nat.le_refl _) (by omega) k2 HMM.out).mono ?_
    rintro r w3 ⟨q, d, rfl, s3, b3⟩
    go_wp2_with fail
    refine (l_natOf w3 q M d (a / 2 ^ k) _ v s3 (Nat.le_refl _) (by omega) HV.out).mono ?_
    rintro r w4 ⟨rfl, b4⟩
    go_wp2
    go_ret3
    exact ⟨rfl, btr b0 (btr b1 (btr b2 (btr b3 b4)))⟩

end Go.Proofs.YtbmhfcppaajgbaaGreatDoor
