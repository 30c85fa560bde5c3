/-
  What the functions wordsOf and natOf of package nat return.
-/
import Derived.Test.YtknkkagapcigfaaDoorList4
import Derived.Test.YtknkkagapcigfaaDoorGx
namespace Go.Proofs.YtknkkagapcigfaaDoor
open Go.RowKit WMath

theorem cnt_is (k : Nat) (h : k ≤ 64) : cnt (k : Int) = k := by unfold cnt; omega
theorem l_left (x k v : Nat) (hk : k ≤ 64) (hv : x * 2 ^ k % 18446744073709551616 = v) (w : World) :
    Calls Tryd.prog 74 #[.int .u64 x, .int .i64 (k : Nat)] w fun e w' => e = .returned (.int .u64 (v : Nat)) ∧ w' = w := by
  have := left_any x (k : Int) w
  rwa [cnt_is k hk, hv] at this
theorem l_right (x k v : Nat) (hk : k ≤ 64) (hv : x / 2 ^ k = v) (w : World) :
    Calls Tryd.prog 69 #[.int .u64 x, .int .i64 (k : Nat)] w fun e w' => e = .returned (.int .u64 (v : Nat)) ∧ w' = w := by
  have := right_any x (k : Int) w
  rwa [cnt_is k hk, hv] at this
theorem idx_runN (s : ByteArray) (k : Nat) (i : Int) (d : Nat) (hi : i = (k : Int)) (hk : k < s.size) (hd : (s[k]'hk).toNat = d) (w : World) :
    (Instr.index 22 (.string s) (.int .i64 i)).run Tryd.prog w = .ok (.int .u8 (d : Nat)) w := by
  subst hi hd
  rw [run_index_string (P := Tryd.prog) w 22 s _ _ Tryd.underlying22, dif_pos ⟨by omega, by omega⟩]
  simp

/-- The bytes of n from the place p on, at their places. -/
def hiB (n p : Nat) : Nat := n / 2 ^ (8 * p) * 2 ^ (8 * p)
theorem hiB_step (n p x : Nat) (hx : d8 n p = x) : hiB n p = hiB n (p + 1) ||| x * 2 ^ (8 * (p % 8)) * 2 ^ (64 * (p / 8)) := by
  have e : n / 2 ^ (8 * p) = 256 * (n / 2 ^ (8 * (p + 1))) + x := by
    rw [← hx, pow8, ← Nat.div_div_eq_div_mul]
    unfold d8
    omega
  have x256 : x < 256 := by rw [← hx]; exact d8_lt _ _
  unfold hiB
  rw [e, Nat.mul_assoc x, ← Nat.pow_add, show 8 * (p % 8) + 64 * (p / 8) = 8 * p by omega, Nat.or_comm, ← or_disj _ _ _ (show x * 2 ^ (8 * p) < 2 ^ (8 * (p + 1)) by
    rw [pow8, Nat.mul_comm]; exact Nat.mul_lt_mul_of_pos_left x256 (Nat.two_pow_pos _)), Nat.add_mul, pow8, Nat.mul_comm (2 ^ (8 * p)) 256, ← Nat.mul_assoc, Nat.mul_comm 256]
  omega
theorem hiB_zero (n : Nat) : hiB n 0 = n := by unfold hiB; simp
theorem hiB_top (n L : Nat) (h : n < 2 ^ (8 * L)) : hiB n L = 0 := by unfold hiB; rw [Nat.div_eq_of_lt h, Nat.zero_mul]
theorem byte_sh (x r : Nat) (hx : x < 256) (hr : r < 8) : x * 2 ^ (8 * r) < 18446744073709551616 := by
  have h1 : x * 2 ^ (8 * r) < 256 * 2 ^ (8 * r) := Nat.mul_lt_mul_of_pos_right hx (Nat.two_pow_pos _)
  have h2 : 256 * 2 ^ (8 * r) = 2 ^ (8 * (r + 1)) := by rw [pow8, Nat.mul_comm]
  have h3 : 2 ^ (8 * (r + 1)) ≤ 2 ^ 64 := Nat.pow_le_pow_right (by decide) (by omega)
  rw [← two64] at h3
  omega

set_option maxRecDepth 100000 in
set_option maxHeartbeats 1000000 in
theorem l_wordsOf (n K : Nat) (s : ByteArray) (hs : nbA n = s) (hn : nl n ≤ 100000) (hK : wl n = K) (w : World) :
    Calls Tryd.prog 57 #[.string s] w fun r w' => ∃ u e, r = .returned (.slice u K e) ∧ SL w'.heap.size w' u K e n ∧ Below w.heap.size w w' := by
  obtain ⟨L, hL⟩ : ∃ L, nl n = L := ⟨_, rfl⟩
  have hz : s.size = L := by rw [← hs, nbA_size, hL]
  have hKL : K = (L + 7) / 8 := by rw [← hK, wl_nl, hL]
  rw [hL] at hn
  have n1 : IntKind.i64.wrap ((L : Int) + 8) = (L : Int) + 8 := wrap_i64_is _ (by omega) (by omega)
  have n2 : IntKind.i64.wrap ((L : Int) + 8 - 1) = (L : Int) + 8 - 1 := wrap_i64_is _ (by omega) (by omega)
  have hmk := cw_make K (((L : Int) + 8 - 1) / 8) (by omega) (by omega)
  have HS := box hs
  have HL := box hL
  have HK := box hK
  have HKL := box hKL
  clear hs hL hK hKL
  go_enter Tryd.func57, Tryd.ntmps57
  go_wp2
  clear hmk n1 n2
  obtain ⟨g, hg⟩ : ∃ g, w.heap.size = g := ⟨_, rfl⟩
  have r0 : (w.alloc (.cells (cw K 0) 66)).heap[g]? = some (.cells (cw K 0) 66) := by rw [← hg]; exact heap_alloc_last _ _
  have b0 : Below g w (w.alloc (.cells (cw K 0) 66)) := by rw [← hg]; exact (Below.refl _ _).alloc (Nat.le_refl _) _
  rw [hg]
  go_loopw [14] (fun iv wr => ∃ (i X : Nat), i ≤ L ∧ iv = .int .i64 i ∧ wr.heap[g]? = some (.cells (cw K X) 66) ∧ Below g w wr ∧ Box (X = hiB n (L - i))) (fun iv _ => L - (intOf iv).toNat)
  case atStart => exact ⟨0, 0, by omega, rfl, r0, b0, box (by rw [Nat.sub_zero, hiB_top n L (by rw [← HL.out]; exact nl_lt n)])⟩
  case round =>
    clear r0 b0
    obtain ⟨i, X, hi, rfl, r1, hbw, HX⟩ := hrel
    by_cases hlt : i < L
    · obtain ⟨pl, hpl⟩ : ∃ pl, L - 1 - i = pl := ⟨_, rfl⟩
      obtain ⟨x, hx⟩ : ∃ x, d8 n pl = x := ⟨_, rfl⟩
      obtain ⟨q, hq⟩ : ∃ q, pl / 8 = q := ⟨_, rfl⟩
      obtain ⟨r, hr⟩ : ∃ r, pl % 8 = r := ⟨_, rfl⟩
      have x256 : x < 256 := by rw [← hx]; exact d8_lt n pl
      have hxi : ∃ h : i < s.size, (s[i]'h).toNat = x := by
        have h1 : i < s.size := by omega
        refine ⟨h1, ?_⟩
        have e := HS.out
        subst e
        rw [nbA_get, HL.out, hpl, hx]
      obtain ⟨hi2, hxx⟩ := hxi
      have hxr := idx_runN s i (i : Int) x rfl hi2 hxx
      have n1 : IntKind.i64.wrap ((L : Int) - 1) = (L : Int) - 1 := wrap_i64_is _ (by omega) (by omega)
      have n2 : IntKind.i64.wrap ((L : Int) - 1 - (i : Int)) = (pl : Int) := by rw [wrap_i64_is _ (by omega) (by omega)]; omega
      have n2' : (L : Int) - 1 - (i : Int) = (pl : Int) := by omega
      have q1 : (pl : Int) / 8 = (q : Int) := by omega
      have tm : (pl : Int).tmod 8 = (r : Int) := by rw [Int.tmod_eq_emod_of_nonneg (by omega)]; omega
      have tm2 : (pl : Int) % 8 = (r : Int) := by omega
      have w1 : IntKind.i64.wrap (q : Int) = (q : Int) := wrap_i64_is _ (by omega) (by omega)
      obtain ⟨k, hk⟩ : ∃ k, 8 * r = k := ⟨_, rfl⟩
      have w2 : IntKind.i64.wrap (k : Int) = (k : Int) := wrap_i64_is _ (by omega) (by omega)
      have w3 : (r : Int) * 8 = (k : Int) := by omega
      have n4 : IntKind.u64.wrap (x : Int) = (x : Int) := by rw [IntKind.wrap_u64]; omega
      obtain ⟨y, hy⟩ : ∃ y, x * 2 ^ k = y := ⟨_, rfl⟩
      have y64 : y < 18446744073709551616 := by rw [← hy, ← hk]; exact byte_sh x r x256 (by omega)
      have hle := l_left x k y (by omega) (by rw [hy, Nat.mod_eq_of_lt y64])
      have e1 := hiB_step n pl x hx
      rw [hq, hr, hk, hy, show pl + 1 = L - i by omega, ← HX.out] at e1
      obtain ⟨Y, hY⟩ : ∃ Y, hiB n pl = Y := ⟨_, rfl⟩
      rw [hY] at e1
      have qK : q < K := by rw [HKL.out]; omega
      have qKi : (q : Int) < (K : Int) := by omega
      have x3 := bor X q y y64
      have x4 := cw_or K X q y Y qK y64 e1
      have c1 : wr.cell? ⟨g, q, none⟩ = some (.int .u64 (wd X q : Nat)) := by rw [cell_of_row wr g q _ _ _ r1, cw_at K X q qK]
      have f0 := fz (k := q) r1
      have R2 : Box ((wr.setCell ⟨g, q, none⟩ (.int .u64 ((wd X q ||| y : Nat) : Int))).heap[g]? = some (.cells (cw K Y) 66)) := box (by rw [setCell_row r1, x4])
      have B2 : Box (Below g w (wr.setCell ⟨g, q, none⟩ (.int .u64 ((wd X q ||| y : Nat) : Int)))) := box (hbw.setCell (Nat.le_refl _) _)
      have NX : Box (Y = hiB n (L - (i + 1))) := box (by rw [← hY, ← hpl, show L - (i + 1) = L - 1 - i by omega])
      have dl : decide (i < L) = true := decide_eq_true hlt
      have LE := box hle
      clear hpl hx hq hr hk hy hY e1 x4 HX hxx hle
      go_wp2
      go_region_with (go_at_call 74; refine (LE.out _).mono ?_; rintro e w' ⟨rfl, rfl⟩)
      all_goals go_wp2
      all_goals go_roundw
      all_goals first | (show (_ : Nat) < _; simp [intOf]; omega) | exact ⟨i + 1, Y, by omega, by go_num, R2.out, below_drewN B2.out _, NX⟩
    · obtain rfl : i = L := by omega
      have e := HX.out
      rw [Nat.sub_self, hiB_zero] at e
      subst e
      have s2 : SL wr.heap.size wr (some ⟨g, 0, none⟩) K K X := SL.row r1 _ (Array.getElem?_eq_some_iff.1 r1).1 (by rw [← HK.out]; exact wl_lt X) (Nat.le_refl _)
      have dl : decide (i < i) = false := by rw [decide_eq_false_iff_not]; omega
      go_wp2
      go_ret
      exact ⟨_, _, rfl, s2, by rw [hg]; exact hbw⟩
theorem ld8_wd (n p : Nat) : wd n (p / 8) / 2 ^ (8 * (p % 8)) % 256 = d8 n p := by
  apply Nat.eq_of_testBit_eq
  intro j
  rw [two8, Nat.testBit_mod_two_pow, Nat.testBit_div_two_pow, wd_bit, d8_bit]
  by_cases h : j < 8
  · rw [decide_eq_true h, Bool.true_and, decide_eq_true (show j + 8 * (p % 8) < 64 by omega), Bool.true_and, Bool.true_and]
    congr 1; omega
  · rw [decide_eq_false h, Bool.false_and, Bool.false_and]
/-- A row of bytes as a number's string. -/
theorem c8_strN {w : World} {b c L X : Nat} (v : ByteArray) (h : w.heap[b]? = some (.cells (c8 L X) 5)) (hk : v.size = L) (hv : ∀ (j : Nat) (h1 : j < v.size), (v[j]'h1).toNat = d8 X j) :
    (convert 46 22 (.slice (some ⟨b, 0, none⟩) L c)).run Tryd.prog w = .ok (.string v) w := by
  rw [run_convert_bytes_string w 46 22 5 _ _ _ Tryd.underlying46 Tryd.underlying5 Tryd.underlying22]
  have hz : v.data.toList.length = L := by rw [Array.length_toList]; exact hk
  have hl := run_loadCells_list (P := Tryd.prog) w ⟨b, 0, none⟩ (v.data.toList.map fun x => Value.int .u8 (x.toNat : Int)) (fun j u hu => by
    have hadd : (⟨b, 0, none⟩ : Addr).add j = ⟨b, j, none⟩ := by unfold Addr.add; split <;> simp_all
    have hj : j < v.data.toList.length := by
      have := (List.getElem?_eq_some_iff.1 hu).1
      rwa [List.length_map] at this
    have hj2 : j < v.size := by rw [hk]; omega
    rw [hadd, c8_cell h (by omega), ← hv j hj2, ← hu, List.getElem?_map, List.getElem?_eq_getElem hj]
    rfl)
  rw [List.length_map, hz] at hl
  rw [run_bytesToString (P := Tryd.prog) w ⟨b, 0, none⟩ L c (v.data.toList.map fun x => (x.toNat : Int)) (by rw [hl]; simp), show ByteArray.empty = ⟨#[]⟩ from rfl, fold_bytes]
  simp

set_option maxRecDepth 100000 in
set_option maxHeartbeats 1000000 in
theorem l_natOf (w : World) (p : Option Addr) (L c n B : Nat) (v : ByteArray) (h : SL B w p L c n) (hB : B ≤ w.heap.size) (hL : L ≤ 100000) (hv : nbA n = v) :
    Calls Tryd.prog 55 #[.slice p L c] w fun r w' => r = .returned (.string v) ∧ Below w.heap.size w w' := by
  obtain ⟨M, hM⟩ : ∃ M, wl n = M := ⟨_, rfl⟩
  obtain ⟨l, hl⟩ : ∃ l, blen n = l := ⟨_, rfl⟩
  obtain ⟨m, hm⟩ : ∃ m, nl n = m := ⟨_, rfl⟩
  have hml : m = (l + 7) / 8 := by rw [← hm, ← hl]; rfl
  have hMl : M = (l + 63) / 64 := by rw [← hM, ← hl]; rfl
  have hML : M ≤ L := by rw [← hM]; exact wl_le_of n L h.1
  have n1 : IntKind.i64.wrap ((l : Int) + 8) = (l : Int) + 8 := wrap_i64_is _ (by omega) (by omega)
  have n2 : IntKind.i64.wrap ((l : Int) + 8 - 1) = (l : Int) + 8 - 1 := wrap_i64_is _ (by omega) (by omega)
  have hmk := c8_makeI m (((l : Int) + 8 - 1) / 8) (by omega) (by omega)
  have hvz : v.size = m := by rw [← hv, nbA_size, hm]
  have l64 : l ≤ 6400000 := by omega
  have m64 : m ≤ 800000 := by omega
  have HM := box hM
  have HL := box hl
  have HMM := box hm
  have HML := box hml
  have HMW := box hMl
  have HV := box hv
  clear hM hl hm hv hml hMl
  go_enter Tryd.func55, Tryd.ntmps55
  go_wp2_with fail
  refine (l_trim w p L c n M B h hL HM.out).mono ?_
  rintro e w1 ⟨u, d, rfl, s1, rfl⟩
  go_wp2_with fail
  refine (l_bitLen w1 u M d n l B s1 (by omega) HM.out HL.out).mono ?_
  rintro e w2 ⟨rfl, rfl⟩
  go_wp2
  clear hmk n1 n2 l64
  obtain ⟨g, hg⟩ : ∃ g, w2.heap.size = g := ⟨_, rfl⟩
  have r0 : (w2.alloc (.cells (c8 m 0) 5)).heap[g]? = some (.cells (c8 m 0) 5) := by rw [← hg]; exact heap_alloc_last _ _
  have b0 : Below g w2 (w2.alloc (.cells (c8 m 0) 5)) := by rw [← hg]; exact (Below.refl _ _).alloc (Nat.le_refl _) _
  rw [hg]
  go_loopw [15] (fun iv wr => ∃ (i Y : Nat), i ≤ m ∧ iv = .int .i64 i ∧ wr.heap[g]? = some (.cells (c8 m Y) 5) ∧ Below g w2 wr ∧ Box (∀ j, j < i → d8 Y j = d8 n (m - 1 - j))) (fun iv _ => m - (intOf iv).toNat)
  case atStart => exact ⟨0, 0, by omega, rfl, r0, b0, box (fun j hj => absurd hj (by omega))⟩
  case round =>
    clear r0 b0
    obtain ⟨i, Y, hi, rfl, r1, hbw, HX⟩ := hrel
    by_cases hlt : i < m
    · obtain ⟨pl, hpl⟩ : ∃ pl, m - 1 - i = pl := ⟨_, rfl⟩
      obtain ⟨x, hx⟩ : ∃ x, d8 n pl = x := ⟨_, rfl⟩
      obtain ⟨q, hq⟩ : ∃ q, pl / 8 = q := ⟨_, rfl⟩
      obtain ⟨r, hr⟩ : ∃ r, pl % 8 = r := ⟨_, rfl⟩
      have hqM : q < M := by rw [HMW.out]; have := HML.out; omega
      obtain ⟨bp, op, rfl, _⟩ := h.ptr (by omega)
      have x256 : x < 256 := by rw [← hx]; exact d8_lt n pl
      have n1 : IntKind.i64.wrap ((m : Int) - 1) = (m : Int) - 1 := wrap_i64_is _ (by omega) (by omega)
      have n2 : IntKind.i64.wrap ((m : Int) - 1 - (i : Int)) = (pl : Int) := by rw [wrap_i64_is _ (by omega) (by omega)]; omega
      have n2' : (m : Int) - 1 - (i : Int) = (pl : Int) := by omega
      have q1 : (pl : Int) / 8 = (q : Int) := by omega
      have tm : (pl : Int).tmod 8 = (r : Int) := by rw [Int.tmod_eq_emod_of_nonneg (by omega)]; omega
      have tm2 : (pl : Int) % 8 = (r : Int) := by omega
      have w1 : IntKind.i64.wrap (q : Int) = (q : Int) := wrap_i64_is _ (by omega) (by omega)
      obtain ⟨k, hk⟩ : ∃ k, 8 * r = k := ⟨_, rfl⟩
      have w2' : IntKind.i64.wrap (k : Int) = (k : Int) := wrap_i64_is _ (by omega) (by omega)
      have w3 : (r : Int) * 8 = (k : Int) := by omega
      obtain ⟨z, hz⟩ : ∃ z, wd n q = z := ⟨_, rfl⟩
      obtain ⟨y, hy⟩ : ∃ y, z / 2 ^ k = y := ⟨_, rfl⟩
      have LE := box (l_right z k y (by omega) hy)
      have hyx : y % 256 = x := by rw [← hy, ← hz, ← hq, ← hk, ← hr, ld8_wd, hx]
      have n4 := wrap_u8_is y x hyx
      have qL : q < L := by omega
      have qLi : (q : Int) < (L : Int) := by omega
      have imi : (i : Int) < (m : Int) := by omega
      have c0 := (h.below hbw (by omega)).cell q z qL hz
      have c1 := c8_cell r1 hlt
      have f0 := fz (k := i) r1
      have R2 : Box ((wr.setCell ⟨g, i, none⟩ (.int .u8 (x : Int))).heap[g]? = some (.cells (c8 m (set8 Y i x)) 5)) := box (by rw [setCell_row r1, c8_seti m Y i x _ hlt x256 rfl])
      have B2 : Box (Below g w2 (wr.setCell ⟨g, i, none⟩ (.int .u8 (x : Int)))) := box (hbw.setCell (Nat.le_refl _) _)
      have NX : Box (∀ j, j < i + 1 → d8 (set8 Y i x) j = d8 n (m - 1 - j)) := box (fun j hj => by
        rw [d8_set8 _ _ _ _ x256]
        by_cases e : j = i
        · rw [if_pos e, e, hpl, hx]
        · rw [if_neg e]; exact HX.out j (by omega))
      have dl : decide (i < m) = true := decide_eq_true hlt
      clear hpl hx hq hr hk hy hz HX h hyx
      go_wp2_with fail
      refine (LE.out _).mono ?_
      rintro e w' ⟨rfl, rfl⟩
      go_wp2
      go_roundw
      case rel => exact ⟨i + 1, _, by omega, by go_num, R2.out, B2.out, NX⟩
      case measure => simp [intOf] <;> omega
    · obtain rfl : i = m := by omega
      have hst := c8_strN (c := i) v r1 hvz (fun j hj => by
        rw [HX.out j (by omega)]
        have e := HV.out
        subst e
        rw [nbA_get, HMM.out])
      have dl : decide (i < i) = false := by rw [decide_eq_false_iff_not]; omega
      go_wp2
      go_ret
      exact ⟨rfl, by rw [hg]; exact hbw⟩
end Go.Proofs.YtknkkagapcigfaaDoor
