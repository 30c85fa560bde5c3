/-
  What the functions that the statement reaches return: part 5 (Nat4, List0, List1, List2, List3, List4, List5, List10).
-/
import Derived.Deep.RegionWith
import Derived.Test.YtkmlbjlaahcahaaGreatDoorVa04
namespace Go.Proofs.YtkmlbjlaahcahaaGreatDoor
set_option maxRecDepth 100000
open Go.RowKit WMath

theorem blen_nl (n L x : Nat) (h : n ≠ 0) (hL : nl n = L) (hx : d8 n (L - 1) = x) : 8 * (L - 1) + blen x = blen n := by
  have hp := nl_pos n h
  have ht := nl_top n h
  have hl := nl_lt n
  rw [hL] at hp ht hl
  rw [hx] at ht
  obtain ⟨k, rfl⟩ : ∃ k, L = k + 1 := ⟨L - 1, by omega⟩
  rw [Nat.add_sub_cancel] at hx ⊢
  have e := mod_d8 n k
  rw [Nat.mod_eq_of_lt hl, hx] at e
  rw [e, blen_push _ _ _ (Nat.mod_lt _ (Nat.two_pow_pos _)) ht]

theorem nat_Len (n l : Nat) (s : ByteArray) (hs : nbA n = s) (h : nl n ≤ 16384) (hl : blen n = l) (w : World) :
    Calls Tryz.prog 123 #[.string s] w fun r w' => r = .returned (.int .i64 (l : Nat)) ∧ w' = w := by
  obtain ⟨L, hL⟩ : ∃ L, nl n = L := ⟨_, rfl⟩
  have hz : s.size = L := by rw [← hs, nbA_size, hL]
  have hm : mayB s = true := by rw [← hs]; exact mayB_nb n h
  have HM := box hm
  have d2 := eq_empty s
  rw [hL] at h
  by_cases h0 : n = 0
  · have e : l = 0 := by rw [← hl, h0]; rfl
    have e2 : L = 0 := by rw [← hL, h0]; exact nl_zero
    subst e
    rw [decide_eq_true (by omega)] at d2
    clear hs hl hL hm h0
    go_enter Tryz.func123, Tryz.ntmps123
    go_wp2_with fail
    refine (nat_may s true HM.out _).mono ?_
    rintro r w' ⟨rfl, rfl⟩
    go_wp2
    go_ret
    exact ⟨rfl, rfl⟩
  · have hp := nl_pos n h0
    rw [hL] at hp
    rw [decide_eq_false (by omega)] at d2
    have hp2 : 0 < s.size := by omega
    obtain ⟨x, hx⟩ : ∃ x, (s[0]'hp2).toNat = x := ⟨_, rfl⟩
    have hxd : d8 n (L - 1) = x := by
      rw [← hx]
      subst hs
      rw [nbA_get, hL]
      rfl
    have x256 : x < 256 := by rw [← hxd]; exact d8_lt _ _
    have hb := blen_nl n L x h0 hL hxd
    obtain ⟨y, hy⟩ : ∃ y, blen x = y := ⟨_, rfl⟩
    rw [hy, hl] at hb
    have y8 : y ≤ 8 := by rw [← hy]; exact blen_le_of x 8 (by rw [← two8]; exact x256)
    have HY := box hy
    have hi := idx_run s 0 0 x rfl hp2 hx
    have n1 : IntKind.i64.wrap ((L : Int) - 1) = (L : Int) - 1 := wrap_i64_is _ (by omega) (by omega)
    have n2 : IntKind.i64.wrap (8 * ((L : Int) - 1)) = 8 * ((L : Int) - 1) := wrap_i64_is _ (by omega) (by omega)
    have n3 : IntKind.i64.wrap (8 * ((L : Int) - 1) + (y : Int)) = (l : Int) := by rw [wrap_i64_is _ (by omega) (by omega)]; omega
    have n4 : IntKind.u64.wrap (x : Int) = (x : Int) := by rw [IntKind.wrap_u64]; omega
    have X64 : Box (x < 18446744073709551616) := box (by omega)
    clear hs hl hL hm h0 hxd hb hy hx
    go_enter Tryz.func123, Tryz.ntmps123
    go_wp2_with fail
    refine (nat_may s true HM.out _).mono ?_
    rintro r w' ⟨rfl, rfl⟩
    go_wp2_with fail
    refine (rlen_is x y X64.out HY.out _).mono ?_
    rintro r w' ⟨rfl, rfl⟩
    go_wp2
    go_ret
    exact ⟨rfl, rfl⟩

/-- t is the place of the lowest bit of n that is 1. -/
def LowB (n t : Nat) : Prop := n % 2 ^ t = 0 ∧ n.testBit t = true
theorem lowB_one (n s t : Nat) (h : LowB n s) (g : LowB n t) : s = t := by
  have hlt : ∀ a b, LowB n a → LowB n b → ¬ a < b := by
    intro a b ha hb hab
    have h1 := Nat.testBit_mod_two_pow n b a
    rw [hb.1, ha.2] at h1
    simp [hab] at h1
  have h1 := hlt s t h g
  have h2 := hlt t s g h
  omega
theorem lowB_ex : ∀ (k n : Nat), n ≠ 0 → n < 2 ^ k → ∃ t, t < k ∧ LowB n t
  | 0, n, h, hn => by rw [Nat.pow_zero] at hn; omega
  | k + 1, n, h, hn => by
    by_cases h2 : n % 2 = 0
    · obtain ⟨t, h3, h4, h5⟩ := lowB_ex k (n / 2) (by omega) (by rw [Nat.pow_succ] at hn; omega)
      refine ⟨t + 1, by omega, ?_, ?_⟩
      · rw [Nat.pow_succ, Nat.mul_comm, Nat.mod_mul, h2, h4]
      · rw [Nat.testBit_succ]; exact h5
    · exact ⟨0, by omega, by rw [Nat.pow_zero, Nat.mod_one], by rw [Nat.testBit_zero]; simp; omega⟩
theorem lowB_any (n : Nat) (h : n ≠ 0) : ∃ t, LowB n t := by
  obtain ⟨t, _, ht⟩ := lowB_ex _ n h (blen_lt n)
  exact ⟨t, ht⟩
theorem lowB_d8 (n i r : Nat) (h0 : n % 2 ^ (8 * i) = 0) (h : LowB (d8 n i) r) (hr : r < 8) : LowB n (8 * i + r) := by
  have hb := d8_bit n i r
  refine ⟨?_, ?_⟩
  · rw [Nat.pow_add, Nat.mod_mul, h0, Nat.zero_add]
    have h1 := h.1
    unfold d8 at h1
    rw [two8, Nat.mod_mod_of_dvd _ (Nat.pow_dvd_pow 2 (by omega : r ≤ 8))] at h1
    rw [h1, Nat.mul_zero]
  · rw [h.2, decide_eq_true hr, Bool.true_and] at hb
    exact hb.symm

/-- The place of the lowest bit, 0 of 0. -/
def LowN (n t : Nat) : Prop := (n = 0 ∧ t = 0) ∨ (n ≠ 0 ∧ LowB n t)
theorem nat_Low (n t : Nat) (s : ByteArray) (hs : nbA n = s) (h : nl n ≤ 16384) (ht : LowN n t) (w : World) :
    Calls Tryz.prog 107 #[.string s] w fun r w' => r = .returned (.int .i64 (t : Nat)) ∧ w' = w := by
  obtain ⟨L, hL⟩ : ∃ L, nl n = L := ⟨_, rfl⟩
  have hz : s.size = L := by rw [← hs, nbA_size, hL]
  have hm : mayB s = true := by rw [← hs]; exact mayB_nb n h
  have HM := box hm
  rw [hL] at h
  have HS := box hs
  have HT := box ht
  have HL := box hL
  have NA : Box (nl n ≤ 100000) := box (by omega)
  clear hs hL hm ht
  go_enter Tryz.func107, Tryz.ntmps107
  go_wp2_with fail
  refine (nat_may s true HM.out _).mono ?_
  rintro r w' ⟨rfl, rfl⟩
  go_wp2
  go_loop [3] (fun iv => ∃ i : Nat, i ≤ L ∧ iv = .int .i64 i ∧ Box (n % 2 ^ (8 * i) = 0)) (fun iv => L - (intOf iv).toNat)
  case atStart => exact ⟨0, by omega, rfl, box (by rw [Nat.mul_zero, Nat.pow_zero, Nat.mod_one])⟩
  case round =>
    obtain ⟨i, hi, rfl, HE⟩ := hrel
    by_cases hlt : i < L
    · obtain ⟨x, hx⟩ : ∃ x, d8 n i = x := ⟨_, rfl⟩
      have x256 : x < 256 := by rw [← hx]; exact d8_lt _ _
      have dl : decide (i < L) = true := decide_eq_true hlt
      have HX := box hx
      by_cases h0 : x = 0
      · have y : ((x : Int) != 0) = false := by rw [h0]; rfl
        have NX : Box (n % 2 ^ (8 * (i + 1)) = 0) := box (by rw [mod_d8, HE.out, hx, h0, Nat.mul_zero])
        clear hx h0
        go_wp2_with fail
        refine (nat_at n i x s HS.out HX.out NA.out _).mono ?_
        rintro r w' ⟨rfl, rfl⟩
        go_wp2
        go_round
        case rel => exact ⟨i + 1, by omega, by go_num, NX⟩
        case measure => simp [intOf] <;> omega
      · have y : ((x : Int) != 0) = true := by simp; omega
        obtain ⟨r, hr8, hr⟩ := lowB_ex 8 x h0 (by rw [← two8]; exact x256)
        have LI : Box (LowIs x r) := box ⟨by omega, hr.1, hr.2⟩
        have e : 8 * i + r = t := by
          have h1 := lowB_d8 n i r HE.out (by rw [hx]; exact hr) hr8
          rcases HT.out with ⟨h2, h3⟩ | ⟨h2, h3⟩
          · exact absurd (show x = 0 by rw [← hx, h2, d8_zero]) h0
          · exact lowB_one n _ _ h1 h3
        have n2 : IntKind.i64.wrap (8 * (i : Int)) = 8 * (i : Int) := wrap_i64_is _ (by omega) (by omega)
        have n3 : IntKind.i64.wrap (8 * (i : Int) + (r : Int)) = (t : Int) := by rw [wrap_i64_is _ (by omega) (by omega)]; omega
        have n4 : IntKind.u64.wrap (x : Int) = (x : Int) := by rw [IntKind.wrap_u64]; omega
        have X64 : Box (x < 18446744073709551616) := box (by omega)
        clear hx hr e h0
        go_wp2_with fail
        refine (nat_at n i x s HS.out HX.out NA.out _).mono ?_
        rintro r w' ⟨rfl, rfl⟩
        go_wp2_with fail
        refine (nat_at n i x s HS.out HX.out NA.out _).mono ?_
        rintro r w' ⟨rfl, rfl⟩
        go_wp2_with fail
        refine (rlow_any x r X64.out LI.out _).mono ?_
        rintro r w' ⟨rfl, rfl⟩
        go_wp2
        go_ret
        exact ⟨rfl, rfl⟩
    · obtain rfl : i = L := by omega
      have e : t = 0 := by
        have h1 := HE.out
        rw [Nat.mod_eq_of_lt (by rw [← HL.out]; exact nl_lt n)] at h1
        rcases HT.out with ⟨h2, h3⟩ | ⟨h2, h3⟩
        · exact h3
        · exact absurd h1 h2
      subst e
      have dl : decide (i < i) = false := by rw [decide_eq_false_iff_not]; omega
      go_wp2
      go_ret
      exact ⟨rfl, rfl⟩

theorem d8_wd (n i q r : Nat) (hq : q = i / 8) (hr : r = 8 * (i % 8)) : wd n q / 2 ^ r % 256 = d8 n i := by
  rw [two8, field_num n q r 8 (8 * i) (by omega) (by omega)]
  unfold d8
  rw [two8]
theorem Q48 : ∃ L, L = 48 ∧ Q = 2 ^ (8 * L) := by
  obtain ⟨L, hL, hQ⟩ := Q_of
  exact ⟨8 * L, by omega, by rw [hQ]; congr 1; omega⟩

set_option maxHeartbeats 1000000 in
set_option maxRecDepth 100000 in
theorem nat_OfWide (n : Nat) (v : ByteArray) (hn : n < Q) (hv : nbA n = v) (w : World) :
    Calls Tryz.prog 43 #[.agg (cw 6 n)] w fun r w' => r = .returned (.string v) ∧ Below w.heap.size w w' := by
  obtain ⟨K, hK, hQ⟩ := Q48
  rw [hQ] at hn
  have hat := cw_at 6
  have hmk := c8_makeI K 48 (by omega) (by omega)
  have HV := box hv
  have HN := box hn
  have k1 : K ≤ 48 := by omega
  have k2 : 48 ≤ K := by omega
  clear hv hn hQ hK
  go_enter Tryz.func43, Tryz.ntmps43
  go_wp2
  clear hmk
  go_loopw [4] (fun iv wr => ∃ i : Nat, i ≤ K ∧ iv = .int .i64 i ∧ wr.heap[w.heap.size]? = some (.cells (cw 6 n) 53) ∧ wr.heap[w.heap.size + 1]? = some (.cells (c8 K (n % 2 ^ (8 * i))) 5) ∧ Below w.heap.size w wr) (fun iv _ => K - (intOf iv).toNat)
  case atStart =>
    refine ⟨0, by omega, rfl, ?_, ?_, ((Below.refl _ _).alloc (Nat.le_refl _) _).alloc (by simp) _⟩
    · rw [heap_below _ _ _ (by simp)]; exact heap_alloc_last _ _
    · rw [Nat.mul_zero, Nat.pow_zero, Nat.mod_one, ← size_al w (.cells (cw 6 n) 53)]; exact heap_alloc_last _ _
  case round =>
    obtain ⟨i, hi, rfl, r0, r1, hbw⟩ := hrel
    by_cases hlt : i < K
    · obtain ⟨q, hq⟩ : ∃ q, q = i / 8 := ⟨_, rfl⟩
      obtain ⟨r, hr⟩ : ∃ r, r = 8 * (i % 8) := ⟨_, rfl⟩
      obtain ⟨z, hz⟩ : ∃ z, d8 n i = z := ⟨_, rfl⟩
      have z256 : z < 256 := by rw [← hz]; exact d8_lt n i
      have q1 : (i : Int) / 8 = (q : Int) := by omega
      have r1' : 8 * ((i : Int) % 8) = (r : Int) := by omega
      have q6 : q < 6 := by omega
      have r64 : r < 64 := by omega
      have n4 : IntKind.u8.wrap ((wd n q : Int) / 2 ^ r) = (z : Int) := by
        rw [div_cast]
        exact wrap_u8_is _ z (by rw [← hz]; exact d8_wd n i q r hq hr)
      have c0 := row_cell r0 q q6
      have c1 := c8_cell r1 hlt
      have f0 := fz (k := i) r1
      have RS : Box ((wr.setCell ⟨w.heap.size + 1, i, none⟩ (.int .u8 (z : Int))).heap[w.heap.size + 1]? = some (.cells (c8 K (n % 2 ^ (8 * (i + 1)))) 5)) := box (by rw [setCell_row r1, c8_push K _ i z _ hlt (Nat.mod_lt _ (Nat.two_pow_pos _)) z256 rfl, mod_d8, hz])
      have dl : decide ((i : Int) < 48) = true := by rw [decide_eq_true_iff]; omega
      clear hr hz hq
      go_wp2
      go_roundw
      case rel => exact ⟨i + 1, by omega, by go_num, (setCell_other (w := wr) (by omega)).trans r0, RS.out, hbw.setCell (by show w.heap.size ≤ w.heap.size + 1; omega) _⟩
      case measure => simp [intOf] <;> omega
    · obtain rfl : i = K := by omega
      rw [Nat.mod_eq_of_lt HN.out] at r1
      have dl : decide ((i : Int) < 48) = false := by rw [decide_eq_false_iff_not]; omega
      go_wp2_with fail
      refine (nat_fit i n (w.heap.size + 1) i v (by omega) HN.out HV.out _ r1).mono ?_
      rintro e w' ⟨rfl, hb2⟩
      go_wp2
      go_ret
      exact ⟨rfl, hbw.trans (hb2.mono hbw.size)⟩

theorem toWide_step (n i q r x : Nat) (hq : q = i / 8) (hr : r = 8 * (i % 8)) (hx : d8 n i = x) : n % 2 ^ (8 * i) ||| x * 2 ^ r * 2 ^ (64 * q) = n % 2 ^ (8 * (i + 1)) := by
  rw [Nat.mul_assoc, ← Nat.pow_add, show r + 64 * q = 8 * i by omega, mod_d8, hx, Nat.mul_comm (2 ^ (8 * i)) x]
  exact (or_disj _ _ _ (Nat.mod_lt _ (Nat.two_pow_pos _))).symm

theorem trows2 (w : World) : RowsL w ((w.alloc (.cells (cw 6 0) 53)).alloc (.cells (cw 6 0) 53)) [0, 0] := rowsL_new (rowsL_new (rowsL_nil w) rfl 0) (by simp) 0

set_option maxHeartbeats 2000000 in
set_option maxRecDepth 100000 in
theorem nat_ToWide (n : Nat) (s : ByteArray) (hs : nbA n = s) (h : nl n ≤ 48) (w : World) :
    Calls Tryz.prog 65 #[.string s] w fun r w' => r = .returned (.tuple #[.agg (cw 6 n), .bool true]) ∧ Below w.heap.size w w' := by
  have hat := cw_at 6
  have hz := cw6z
  have hf := cw6f
  have hs0 := st0
  have hcs : ∀ x, ((cw 6 x).size = 6) = True := fun x => eq_true (cw_size 6 x)
  obtain ⟨L, hL⟩ : ∃ L, nl n = L := ⟨_, rfl⟩
  have hsz : s.size = L := by rw [← hs, nbA_size, hL]
  have hm : mayB s = true := by rw [← hs]; exact mayB_nb n (by omega)
  have HM := box hm
  have ln := nl_lt n
  rw [hL] at h ln
  have HS := box hs
  have HN := box ln
  have NA : Box (nl n ≤ 100000) := box (by omega)
  have d1 : decide ((48 : Int) < (L : Int)) = false := by rw [decide_eq_false_iff_not]; omega
  clear hs hL hm ln
  go_enter Tryz.func65, Tryz.ntmps65
  go_wp2_with fail
  refine (nat_may s true HM.out _).mono ?_
  rintro r w' ⟨rfl, hw'⟩
  have R0 := trows2 w
  rw [← hw'] at R0
  clear hw'
  go_wp2
  go_loopw [5] (fun iv wr => ∃ i : Nat, i ≤ L ∧ iv = .int .i64 i ∧ RowsL w wr [0, n % 2 ^ (8 * i)]) (fun iv _ => L - (intOf iv).toNat)
  case atStart => exact ⟨0, by omega, rfl, by rw [Nat.mul_zero, Nat.pow_zero, Nat.mod_one]; exact R0⟩
  case round =>
    clear R0
    obtain ⟨i, hi, rfl, R⟩ := hrel
    by_cases hlt : i < L
    · obtain ⟨q, hq⟩ : ∃ q, q = i / 8 := ⟨_, rfl⟩
      obtain ⟨r, hr⟩ : ∃ r, r = 8 * (i % 8) := ⟨_, rfl⟩
      obtain ⟨x, hx⟩ : ∃ x, d8 n i = x := ⟨_, rfl⟩
      have x256 : x < 256 := by rw [← hx]; exact d8_lt n i
      have q1 : (i : Int) / 8 = (q : Int) := by omega
      obtain ⟨r0, hr0⟩ : ∃ r0, i % 8 = r0 := ⟨_, rfl⟩
      have tm : (i : Int).tmod 8 = (r0 : Int) := by rw [Int.tmod_eq_emod_of_nonneg (by omega)]; omega
      have w1 : IntKind.i64.wrap (q : Int) = (q : Int) := wrap_i64_is _ (by omega) (by omega)
      have w2 : IntKind.i64.wrap (8 * (r0 : Int)) = (r : Int) := by rw [wrap_i64_is _ (by omega) (by omega)]; omega
      have w3 : IntKind.u64.wrap (r : Int) = (r : Int) := by rw [IntKind.wrap_u64]; omega
      have q6 : q < 6 := by omega
      have r64 : r < 64 := by omega
      have qi6 : (q : Int) < 6 := by omega
      have HST := box (toWide_step n i q r x hq hr hx)
      obtain ⟨y, hy⟩ : ∃ y, x * 2 ^ r = y := ⟨_, rfl⟩
      have y64 : y < 18446744073709551616 := by
        rw [← hy]
        have h1 : x * 2 ^ r < 256 * 2 ^ r := Nat.mul_lt_mul_of_pos_right x256 (Nat.two_pow_pos r)
        have h2 : 2 ^ r ≤ 2 ^ 56 := Nat.pow_le_pow_right (by decide) (by omega)
        have h3 : 256 * 2 ^ r ≤ 256 * 2 ^ 56 := Nat.mul_le_mul_left _ h2
        have h4 : 256 * 2 ^ 56 = 18446744073709551616 := by decide
        omega
      have n4 : IntKind.u64.wrap (x : Int) = (x : Int) := by rw [IntKind.wrap_u64]; omega
      have n5 : IntKind.u64.wrap ((x : Int) * 2 ^ r) = (y : Int) := by
        rw [pow_cast, ← Int.natCast_mul, hy]
        exact wrap_nat y y64
      rw [hy] at HST
      obtain ⟨X, hX⟩ : ∃ X, n % 2 ^ (8 * i) = X := ⟨_, rfl⟩
      obtain ⟨Y, hY⟩ : ∃ Y, n % 2 ^ (8 * (i + 1)) = Y := ⟨_, rfl⟩
      rw [hX] at R
      rw [hX, hY] at HST
      have x3 := bor X q y y64
      have x4 := cw_or 6 X q y Y q6 y64 HST.out.symm
      have R2 : RowsL w (wr.setCell ⟨w.heap.size + 1, q, none⟩ (.int .u64 ((wd X q ||| y : Nat) : Int))) [0, Y] := rowsL_setCell R 1 X Y _ q _ rfl rfl x4 rfl
      have HY := box hY
      have HX := box hx
      have c1 := row_cell (rows1 R) q q6
      have f0 := fz (k := q) (rows1 R)
      have dl : decide (i < L) = true := decide_eq_true hlt
      clear hr hx hq hy hX hY HST x4 hr0
      go_wp2
      go_region_with (go_at_call 127; refine (nat_at n i x s HS.out HX.out NA.out _).mono ?_; rintro r w' ⟨rfl, rfl⟩)
      all_goals go_wp2
      all_goals go_roundw
      all_goals first | (show (_ : Nat) < _; simp [intOf]; omega) | exact ⟨i + 1, by omega, by go_num, by rw [HY.out]; exact rowsL_drew R2 1⟩
    · obtain rfl : i = L := by omega
      have dl : decide (i < i) = false := by rw [decide_eq_false_iff_not]; omega
      rw [Nat.mod_eq_of_lt HN.out] at R
      have hst := st_any wr w.heap.size n 0 (rows0 R)
      have c1 := row_cell (rows1 R)
      have R2 : RowsL w (wr.setRow w.heap.size (cw 6 n)) [n, n] := rowsL_set R 0 n _ (by simp) rfl rfl
      have c2 := row_cell (rows0 R2)
      go_wp2
      exact bodyPost_ret (v := .tuple #[.agg (cw 6 n), .bool true]) (by simp [results, Tryz.results65, go_sem, c2, hf]) rfl ⟨rfl, R2.2⟩
end Go.Proofs.YtkmlbjlaahcahaaGreatDoor
namespace Go.Proofs.YtkmlbjlaahcahaaGreatDoor
set_option maxRecDepth 100000
open Go.RowKit WMath

/-- A slice of words that holds a number: L words from the place p on, in a block below B. -/
def SL (B : Nat) (w : World) (p : Option Addr) (L c n : Nat) : Prop := n < 2 ^ (64 * L) ∧ L ≤ c ∧ (0 < L → ∃ b o, p = some ⟨b, o, none⟩ ∧ b < B ∧ ∀ k, k < L → w.cell? ⟨b, o + k, none⟩ = some (.int .u64 (wd n k : Nat)))
theorem SL.mono {B B' : Nat} {w : World} {p : Option Addr} {L c n : Nat} (h : SL B w p L c n) (hB : B ≤ B') : SL B' w p L c n :=
  ⟨h.1, h.2.1, fun hL => by
    obtain ⟨b, o, hp, hlt, hc⟩ := h.2.2 hL
    exact ⟨b, o, hp, Nat.lt_of_lt_of_le hlt hB, hc⟩⟩
theorem SL.below {w w' : World} {p : Option Addr} {L c n B B' : Nat} (h : SL B w p L c n) (hb : Below B' w w') (hB : B ≤ B') : SL B w' p L c n := by
  refine ⟨h.1, h.2.1, fun hL => ?_⟩
  obtain ⟨b, o, hp, hlt, hc⟩ := h.2.2 hL
  refine ⟨b, o, hp, hlt, fun k hk => ?_⟩
  rw [hb.cell (p := ⟨b, o + k, none⟩) (show b < B' by omega)]
  exact hc k hk
theorem cell_size {w : World} {b o : Nat} {v : Value} (h : w.cell? ⟨b, o, none⟩ = some v) : b < w.heap.size := by
  by_cases e : b < w.heap.size
  · exact e
  · exfalso
    have : w.heap[b]? = none := Array.getElem?_eq_none (by omega)
    simp [World.cell?, this] at h
/-- Nothing but the block g is another. -/
def Only (g : Nat) (w w' : World) : Prop := w'.os = w.os ∧ w'.tape = w.tape ∧ w'.output = w.output ∧ w.heap.size ≤ w'.heap.size ∧ ∀ k, k < w.heap.size → k ≠ g → w'.heap[k]? = w.heap[k]?
theorem Only.refl (g : Nat) (w : World) : Only g w w := ⟨rfl, rfl, rfl, Nat.le_refl _, fun _ _ _ => rfl⟩
theorem Only.trans {g : Nat} {a b c : World} (h : Only g a b) (k : Only g b c) : Only g a c :=
  ⟨k.1.trans h.1, k.2.1.trans h.2.1, k.2.2.1.trans h.2.2.1, Nat.le_trans h.2.2.2.1 k.2.2.2.1, fun i hi hg => (k.2.2.2.2 i (Nat.lt_of_lt_of_le hi h.2.2.2.1) hg).trans (h.2.2.2.2 i hi hg)⟩
theorem Only.size {g : Nat} {a b : World} (h : Only g a b) : a.heap.size ≤ b.heap.size := h.2.2.2.1
theorem Only.ofBelow {g B : Nat} {a b : World} (h : Below B a b) (hB : a.heap.size ≤ B) : Only g a b := ⟨h.os, h.tape, h.output, h.size, fun k hk _ => h.block k (by omega)⟩
theorem Only.setCell {g o : Nat} {a w : World} (h : Only g a w) (u : Value) : Only g a (w.setCell ⟨g, o, none⟩ u) :=
  h.trans ⟨rfl, rfl, rfl, by simp [World.setCell], fun k _ hg => Below.heap_setCell _ _ _ _ hg⟩
theorem Only.drew {g : Nat} {a w : World} (h : Only g a w) : Only g a w.drew := h.trans ⟨rfl, rfl, rfl, Nat.le_refl _, fun _ _ _ => rfl⟩
theorem Only.toBelow {g B : Nat} {a w w' : World} (h : Below B a w) (k : Only g w w') (hB : B ≤ g) (hs : B ≤ w.heap.size) : Below B a w' :=
  h.trans ⟨k.1, k.2.1, k.2.2.1, k.2.2.2.1, fun i hi => k.2.2.2.2 i (by omega) (by omega)⟩
theorem Only.row {g b : Nat} {w w' : World} {c : Array Value} {t : TypeId} (k : Only g w w') (hb : b ≠ g) (h : w.heap[b]? = some (.cells c t)) : w'.heap[b]? = some (.cells c t) := by
  rw [k.2.2.2.2 b (Array.getElem?_eq_some_iff.1 h).1 hb, h]
theorem SL.only {B g : Nat} {w w' : World} {p : Option Addr} {L c n : Nat} (h : SL B w p L c n) (k : Only g w w') (hB : B ≤ g) : SL B w' p L c n := by
  refine ⟨h.1, h.2.1, fun hL => ?_⟩
  obtain ⟨b, o, hp, hlt, hc⟩ := h.2.2 hL
  refine ⟨b, o, hp, hlt, fun i hi => ?_⟩
  have h1 := hc i hi
  rw [World.cell?_of_block (w := w) (k.2.2.2.2 b (cell_size h1) (by omega))]
  exact h1

theorem l_at (w : World) (p : Option Addr) (L c n i x : Nat) {B : Nat} (h : SL B w p L c n) (hx : wd n i = x) (hL : L ≤ 100000) :
    Calls Tryz.prog 253 #[.slice p L c, .int .i64 (i : Nat)] w fun r w' => r = .returned (.int .u64 (x : Nat)) ∧ w' = w := by
  by_cases hi : L ≤ i
  · have e : x = 0 := by rw [← hx]; exact wd_high h.1 hi
    subst e
    have d1 : decide (L ≤ i) = true := decide_eq_true hi
    clear hx h
    go_enter Tryz.func253, Tryz.ntmps253
    go_wp2
    go_ret
    exact ⟨rfl, rfl⟩
  · obtain ⟨b, o, rfl, hlt, hc⟩ := h.2.2 (by omega)
    have c1 := hc i (by omega)
    have d1 : decide (L ≤ i) = false := decide_eq_false hi
    rw [hx] at c1
    clear hx h hc
    go_enter Tryz.func253, Tryz.ntmps253
    go_wp2
    go_ret
    exact ⟨rfl, rfl⟩
end Go.Proofs.YtkmlbjlaahcahaaGreatDoor
namespace Go.Proofs.YtkmlbjlaahcahaaGreatDoor
set_option maxRecDepth 100000
open Go.RowKit WMath

theorem sub_is (a b : Nat) (c : Bool) (s : Nat) (o : Bool) (ha : a < 18446744073709551616) (hb : b < 18446744073709551616) (hs : (a + 18446744073709551616 - b - c.toNat) % 18446744073709551616 = s) (ho : decide (a < b + c.toNat) = o) (w : World) :
    Calls Tryz.prog 276 #[.int .u64 a, .int .u64 b, .bool c] w fun e w' => e = .returned (.tuple #[.int .u64 (s : Nat), .bool o]) ∧ w' = w := by
  subst hs; subst ho; exact sub_any a b c ha hb w

theorem l_mulAdd (x y u lo hi : Nat) (hx : x < 18446744073709551616) (hy : y < 18446744073709551616) (hu : u < 18446744073709551616) (hlo : (x * y + u) % 18446744073709551616 = lo) (hhi : (x * y + u) / 18446744073709551616 = hi) (w : World) :
    Calls Tryz.prog 269 #[.int .u64 x, .int .u64 y, .int .u64 u] w fun e w' => e = .returned (.tuple #[.int .u64 (lo : Nat), .int .u64 (hi : Nat)]) ∧ w' = w := by
  obtain ⟨H, hH⟩ : ∃ H, x * y / 18446744073709551616 = H := ⟨_, rfl⟩
  obtain ⟨L, hL⟩ : ∃ L, x * y % 18446744073709551616 = L := ⟨_, rfl⟩
  obtain ⟨c1, hc1⟩ : ∃ c1, decide (18446744073709551616 ≤ L + u + false.toNat) = c1 := ⟨_, rfl⟩
  have bL : L < 18446744073709551616 := by rw [← hL]; exact Nat.mod_lt _ (by decide)
  have hb := mul_lt128 x y u 0 hx hy hu (by decide)
  rw [Nat.add_zero, hhi] at hb
  have hl1 : (L + u + false.toNat) % 18446744073709551616 = lo := by rw [← hlo, ← hL]; simp
  have hcase : (c1 = true ∧ H + 1 = hi) ∨ (c1 = false ∧ H = hi) := by
    simp only [Bool.toNat_false, Nat.add_zero] at hc1
    by_cases e : 18446744073709551616 ≤ L + u
    · left; exact ⟨by rw [← hc1]; exact decide_eq_true e, by omega⟩
    · right; exact ⟨by rw [← hc1]; exact decide_eq_false e, by omega⟩
  have A1 := box hH
  have A2 := box hL
  have A3 := box hl1
  have A4 := box hc1
  clear hH hL hl1 hc1 hlo hhi
  rcases hcase with ⟨rfl, rfl⟩ | ⟨rfl, rfl⟩
  all_goals
    go_enter Tryz.func269, Tryz.ntmps269
    go_wp2_with fail
    refine (mul_is x y H L hx hy A1.out A2.out _).mono ?_
    rintro e w' ⟨rfl, rfl⟩
    go_wp2_with fail
    refine (add_is L u false lo _ bL hu A3.out A4.out _).mono ?_
    rintro e w' ⟨rfl, rfl⟩
    go_wp2
    go_ret2
    exact ⟨ret_ii rfl (by first | rfl | go_num), rfl⟩

set_option maxHeartbeats 1000000 in
theorem l_addTo (w : World) (g o L c N X : Nat) (T : TypeId) (row : w.heap[g]? = some (.cells (cw N X) T)) (hN : o + L ≤ N) (q : Option Addr) (M d m B : Nat) (hb : SL B w q M d m) (hB : B ≤ g) (t : Nat) (ht : t < 18446744073709551616) (hL : L ≤ 100000) (hM : M ≤ L) (hmt : m * t < 2 ^ (64 * L)) (V S : Nat) (ov : Bool) (hV : vw X o L = V) (hS : (V + m * t) % 2 ^ (64 * L) = S) (ho : decide (2 ^ (64 * L) ≤ V + m * t) = ov) :
    Calls Tryz.prog 243 #[.slice (some ⟨g, o, none⟩) L c, .slice q M d, .int .u64 (t : Nat)] w fun r w' => r = .returned (.bool ov) ∧ w'.heap[g]? = some (.cells (cw N (putw X o L S)) T) ∧ Only g w w' := by
  have HMT := box hmt
  have HV := box hV
  have HS := box hS
  have HO := box ho
  clear hmt hV hS ho
  go_enter Tryz.func243, Tryz.ntmps243
  go_wp2
  go_loopw [6, 8, 12] (fun ovv cv iv wr => ∃ (i k S : Nat) (u : Bool), i ≤ L ∧ k < 18446744073709551616 ∧ iv = .int .i64 i ∧ cv = .int .u64 k ∧ ovv = .bool u ∧ wr.heap[g]? = some (.cells (cw N (putw X o i S)) T) ∧ Only g w wr ∧ Box (AddSt V m t i k S u)) (fun _ _ iv _ => L - (intOf iv).toNat)
  case atStart => exact ⟨0, 0, 0, false, by omega, by decide, rfl, rfl, rfl, by rw [putw_zero]; exact row, Only.refl _ _, box (addSt0 V m t)⟩
  case round =>
    obtain ⟨i, k, S', u, hi, hk, rfl, rfl, rfl, r1, ho1, HA⟩ := hrel
    by_cases hlt : i < L
    · obtain ⟨x, hx⟩ : ∃ x, wd m i = x := ⟨_, rfl⟩
      obtain ⟨v, hv⟩ : ∃ v, wd X (o + i) = v := ⟨_, rfl⟩
      obtain ⟨lo, hlo⟩ : ∃ lo, (x * t + k) % 18446744073709551616 = lo := ⟨_, rfl⟩
      obtain ⟨hi2, hhi⟩ : ∃ hi2, (x * t + k) / 18446744073709551616 = hi2 := ⟨_, rfl⟩
      obtain ⟨s, hs⟩ : ∃ s, (v + lo + u.toNat) % 18446744073709551616 = s := ⟨_, rfl⟩
      obtain ⟨u2, hu2⟩ : ∃ u2, decide (18446744073709551616 ≤ v + lo + u.toNat) = u2 := ⟨_, rfl⟩
      have x64 : x < 18446744073709551616 := by rw [← hx]; exact wd_lt _ _
      have v64 : v < 18446744073709551616 := by rw [← hv]; exact wd_lt _ _
      have lo64 : lo < 18446744073709551616 := by rw [← hlo]; exact Nat.mod_lt _ (by decide)
      have s64 : s < 18446744073709551616 := by rw [← hs]; exact Nat.mod_lt _ (by decide)
      have hi64 : hi2 < 18446744073709551616 := by
        have := mul_lt128 x t k 0 x64 ht hk (by decide)
        rwa [Nat.add_zero, hhi] at this
      have cn := carry_num v lo s u u2 v64 lo64 hs hu2
      have hvV : wd V i = v := by rw [← HV.out, wd_vw X o L i hlt, hv]
      have NA : Box (AddSt V m t (i + 1) hi2 (S' + 2 ^ (64 * i) * s) u2) := box (addSt_next HA.out x v lo hi2 s u2 hx hvV lo64 (by omega) s64 cn.1)
      have c1 : wr.cell? ⟨g, o + i, none⟩ = some (.int .u64 (v : Nat)) := by
        rw [cell_of_row wr g (o + i) _ _ _ r1, cw_at _ _ _ (by omega), wd_putw_next X o i S' HA.out.1, hv]
      have f0 := fz (k := o + i) r1
      have RS : Box ((wr.setCell ⟨g, o + i, none⟩ (.int .u64 (s : Int))).heap[g]? = some (.cells (cw N (putw X o (i + 1) (S' + 2 ^ (64 * i) * s))) T)) := box (by rw [setCell_row r1, cw_set N _ (o + i) s (by omega) s64, putw_step X o i S' s HA.out.1])
      have dl : decide (i < L) = true := decide_eq_true hlt
      have SB := hb.only ho1 hB
      have HX := box hx
      have HLO := box hlo
      have HHI := box hhi
      have HSS := box hs
      have HU := box hu2
      clear hx hv hlo hhi hs hu2 cn hvV
      go_wp2_with fail
      refine (l_at _ q M d m i x SB HX.out (by omega)).mono ?_
      rintro e w' ⟨rfl, rfl⟩
      go_wp2_with fail
      refine (l_mulAdd x t k lo hi2 x64 ht hk HLO.out HHI.out _).mono ?_
      rintro e w' ⟨rfl, rfl⟩
      go_wp2_with fail
      refine (add_is v lo u s u2 v64 lo64 HSS.out HU.out _).mono ?_
      rintro e w' ⟨rfl, rfl⟩
      go_wp2
      go_roundw
      case rel => exact ⟨i + 1, hi2, _, u2, by omega, hi64, by go_num, rfl, rfl, RS.out, ho1.setCell _, NA⟩
      case measure => simp [intOf] <;> omega
    · obtain rfl : i = L := by omega
      have VL : V < 2 ^ (64 * i) := by rw [← HV.out]; exact vw_lt _ _ _
      have ML : m < 2 ^ (64 * i) := Nat.lt_of_lt_of_le hb.1 (pow64_le _ _ hM)
      obtain ⟨e1, e2⟩ := addSt_end HA.out VL ML HMT.out
      rw [HS.out] at e1
      rw [HO.out] at e2
      subst e1 e2
      have dl : decide (i < i) = false := by rw [decide_eq_false_iff_not]; omega
      clear VL ML
      go_wp2
      go_ret
      exact ⟨rfl, r1, ho1⟩
theorem borrow_num (v lo s : Nat) (u p : Bool) (hv : v < 18446744073709551616) (hl : lo < 18446744073709551616) (hs : (v + 18446744073709551616 - lo - u.toNat) % 18446744073709551616 = s) (hp : decide (v < lo + u.toNat) = p) : s + lo + u.toNat = v + 18446744073709551616 * p.toNat := by
  have hu : u.toNat ≤ 1 := by cases u <;> decide
  by_cases e : v < lo + u.toNat
  · rw [decide_eq_true e] at hp
    subst hp
    rw [Bool.toNat_true]
    omega
  · rw [decide_eq_false e] at hp
    subst hp
    rw [Bool.toNat_false]
    omega

set_option maxHeartbeats 1000000 in
theorem l_takeFrom (w : World) (g o L c N X : Nat) (T : TypeId) (row : w.heap[g]? = some (.cells (cw N X) T)) (hN : o + L ≤ N) (q : Option Addr) (M d m B : Nat) (hb : SL B w q M d m) (hB : B ≤ g) (t : Nat) (ht : t < 18446744073709551616) (hL : L ≤ 100000) (hM : M ≤ L) (hmt : m * t < 2 ^ (64 * L)) (V S : Nat) (ov : Bool) (hV : vw X o L = V) (ho : decide (V < m * t) = ov) (hS : S + m * t = V + 2 ^ (64 * L) * ov.toNat) :
    Calls Tryz.prog 256 #[.slice (some ⟨g, o, none⟩) L c, .slice q M d, .int .u64 (t : Nat)] w fun r w' => r = .returned (.bool ov) ∧ w'.heap[g]? = some (.cells (cw N (putw X o L S)) T) ∧ Only g w w' := by
  have HMT := box hmt
  have HV := box hV
  have HS := box hS
  have HO := box ho
  clear hmt hV hS ho
  go_enter Tryz.func256, Tryz.ntmps256
  go_wp2
  go_loopw [6, 8, 12] (fun ovv cv iv wr => ∃ (i k S : Nat) (u : Bool), i ≤ L ∧ k < 18446744073709551616 ∧ iv = .int .i64 i ∧ cv = .int .u64 k ∧ ovv = .bool u ∧ wr.heap[g]? = some (.cells (cw N (putw X o i S)) T) ∧ Only g w wr ∧ Box (SubSt V m t i k S u)) (fun _ _ iv _ => L - (intOf iv).toNat)
  case atStart => exact ⟨0, 0, 0, false, by omega, by decide, rfl, rfl, rfl, by rw [putw_zero]; exact row, Only.refl _ _, box (subSt0 V m t)⟩
  case round =>
    obtain ⟨i, k, S', u, hi, hk, rfl, rfl, rfl, r1, ho1, HA⟩ := hrel
    by_cases hlt : i < L
    · obtain ⟨x, hx⟩ : ∃ x, wd m i = x := ⟨_, rfl⟩
      obtain ⟨v, hv⟩ : ∃ v, wd X (o + i) = v := ⟨_, rfl⟩
      obtain ⟨lo, hlo⟩ : ∃ lo, (x * t + k) % 18446744073709551616 = lo := ⟨_, rfl⟩
      obtain ⟨hi2, hhi⟩ : ∃ hi2, (x * t + k) / 18446744073709551616 = hi2 := ⟨_, rfl⟩
      obtain ⟨s, hs⟩ : ∃ s, (v + 18446744073709551616 - lo - u.toNat) % 18446744073709551616 = s := ⟨_, rfl⟩
      obtain ⟨u2, hu2⟩ : ∃ u2, decide (v < lo + u.toNat) = u2 := ⟨_, rfl⟩
      have x64 : x < 18446744073709551616 := by rw [← hx]; exact wd_lt _ _
      have v64 : v < 18446744073709551616 := by rw [← hv]; exact wd_lt _ _
      have lo64 : lo < 18446744073709551616 := by rw [← hlo]; exact Nat.mod_lt _ (by decide)
      have s64 : s < 18446744073709551616 := by rw [← hs]; exact Nat.mod_lt _ (by decide)
      have hi64 : hi2 < 18446744073709551616 := by
        have := mul_lt128 x t k 0 x64 ht hk (by decide)
        rwa [Nat.add_zero, hhi] at this
      have cn := borrow_num v lo s u u2 v64 lo64 hs hu2
      have hvV : wd V i = v := by rw [← HV.out, wd_vw X o L i hlt, hv]
      have NA : Box (SubSt V m t (i + 1) hi2 (S' + 2 ^ (64 * i) * s) u2) := box (subSt_next HA.out x v lo hi2 s u2 hx hvV lo64 (by omega) s64 cn)
      have c1 : wr.cell? ⟨g, o + i, none⟩ = some (.int .u64 (v : Nat)) := by
        rw [cell_of_row wr g (o + i) _ _ _ r1, cw_at _ _ _ (by omega), wd_putw_next X o i S' HA.out.1, hv]
      have f0 := fz (k := o + i) r1
      have RS : Box ((wr.setCell ⟨g, o + i, none⟩ (.int .u64 (s : Int))).heap[g]? = some (.cells (cw N (putw X o (i + 1) (S' + 2 ^ (64 * i) * s))) T)) := box (by rw [setCell_row r1, cw_set N _ (o + i) s (by omega) s64, putw_step X o i S' s HA.out.1])
      have dl : decide (i < L) = true := decide_eq_true hlt
      have SB := hb.only ho1 hB
      have HX := box hx
      have HLO := box hlo
      have HHI := box hhi
      have HSS := box hs
      have HU := box hu2
      clear hx hv hlo hhi hs hu2 cn hvV
      go_wp2_with fail
      refine (l_at _ q M d m i x SB HX.out (by omega)).mono ?_
      rintro e w' ⟨rfl, rfl⟩
      go_wp2_with fail
      refine (l_mulAdd x t k lo hi2 x64 ht hk HLO.out HHI.out _).mono ?_
      rintro e w' ⟨rfl, rfl⟩
      go_wp2_with fail
      refine (sub_is v lo u s u2 v64 lo64 HSS.out HU.out _).mono ?_
      rintro e w' ⟨rfl, rfl⟩
      go_wp2
      go_roundw
      case rel => exact ⟨i + 1, hi2, _, u2, by omega, hi64, by go_num, rfl, rfl, RS.out, ho1.setCell _, NA⟩
      case measure => simp [intOf] <;> omega
    · obtain rfl : i = L := by omega
      have VL : V < 2 ^ (64 * i) := by rw [← HV.out]; exact vw_lt _ _ _
      have ML : m < 2 ^ (64 * i) := Nat.lt_of_lt_of_le hb.1 (pow64_le _ _ hM)
      obtain ⟨e1, e2⟩ := subSt_end HA.out VL ML HMT.out
      rw [HO.out] at e2
      subst e2
      have e3 := HS.out
      have e1 : S' = S := by omega
      subst e1
      have dl : decide (i < i) = false := by rw [decide_eq_false_iff_not]; omega
      clear VL ML
      go_wp2
      go_ret
      exact ⟨rfl, r1, ho1⟩
end Go.Proofs.YtkmlbjlaahcahaaGreatDoor
namespace Go.Proofs.YtkmlbjlaahcahaaGreatDoor
set_option maxRecDepth 100000
open Go.RowKit WMath

theorem SL.cell {B : Nat} {w : World} {b o L c n : Nat} (h : SL B w (some ⟨b, o, none⟩) L c n) (k x : Nat) (hk : k < L) (hx : wd n k = x) : w.cell? ⟨b, o + k, none⟩ = some (.int .u64 (x : Nat)) := by
  obtain ⟨b', o', e, _, hc⟩ := h.2.2 (by omega)
  simp only [Option.some.injEq, Addr.mk.injEq] at e
  obtain ⟨rfl, rfl, _⟩ := e
  rw [hc k hk, hx]
theorem SL.ptr {B : Nat} {w : World} {p : Option Addr} {L c n : Nat} (h : SL B w p L c n) (hL : 0 < L) : ∃ b o, p = some ⟨b, o, none⟩ ∧ b < B := by
  obtain ⟨b, o, e, hb, _⟩ := h.2.2 hL
  exact ⟨b, o, e, hb⟩
/-- The list without its highest word, which is 0. -/
theorem SL.cut {B : Nat} {w : World} {p : Option Addr} {L c n : Nat} (h : SL B w p (L + 1) c n) (hz : wd n L = 0) : SL B w p L c n :=
  ⟨trim_step n L h.1 hz, by have := h.2.1; omega, fun hL => by
    obtain ⟨b, o, e, hb, hc⟩ := h.2.2 (by omega)
    exact ⟨b, o, e, hb, fun k hk => hc k (by omega)⟩⟩
theorem SL.row {w : World} {b N X c : Nat} {T : TypeId} (r : w.heap[b]? = some (.cells (cw N X) T)) (B : Nat) (hB : b < B) (hX : X < 2 ^ (64 * N)) (hc : N ≤ c) : SL B w (some ⟨b, 0, none⟩) N c X :=
  ⟨hX, hc, fun _ => ⟨b, 0, rfl, hB, fun k hk => by rw [Nat.zero_add, cell_of_row w b k _ _ _ r, cw_at N X k hk]⟩⟩

/-- How long a slice is. -/
def lenOf : Value → Nat | .slice _ k _ => k | _ => 0

set_option maxHeartbeats 1000000 in
theorem l_trim (w : World) (p : Option Addr) (L c n M B : Nat) (h : SL B w p L c n) (hL : L ≤ 100000) (hM : wl n = M) :
    Calls Tryz.prog 229 #[.slice p L c] w fun r w' => ∃ q d, r = .returned (.slice q M d) ∧ SL B w q M d n ∧ w' = w := by
  have HM := box hM
  clear hM
  go_enter Tryz.func229, Tryz.ntmps229
  go_wp2
  go_loopw [0] (fun lv wr => ∃ k, lv = .slice p k c ∧ k ≤ L ∧ SL B w p k c n ∧ wr = w) (fun lv _ => lenOf lv)
  case atStart => exact ⟨L, rfl, Nat.le_refl _, h, rfl⟩
  case round =>
    obtain ⟨k, rfl, hk, hs, rfl⟩ := hrel
    by_cases h0 : k = 0
    · subst h0
      have e : n = 0 := by have := hs.1; rw [Nat.mul_zero, Nat.pow_zero] at this; omega
      subst e
      have e2 := HM.out
      rw [wl_zero] at e2
      subst e2
      clear h
      go_wp2
      go_ret
      exact ⟨p, c, rfl, hs, rfl⟩
    · obtain ⟨b, o, rfl, hb⟩ := hs.ptr (by omega)
      obtain ⟨K, rfl⟩ : ∃ K, k = K + 1 := ⟨k - 1, by omega⟩
      obtain ⟨x, hx⟩ : ∃ x, wd n K = x := ⟨_, rfl⟩
      have x64 : x < 18446744073709551616 := by rw [← hx]; exact wd_lt _ _
      have c1 := hs.cell K x (by omega) hx
      have hc := hs.2.1
      have n1 : IntKind.i64.wrap (((K + 1 : Nat) : Int) - 1) = (K : Int) := by rw [wrap_i64_is _ (by omega) (by omega)]; omega
      have n2 : IntKind.i64.wrap ((K : Int) + 1 - 1) = (K : Int) := by rw [wrap_i64_is _ (by omega) (by omega)]; omega
      by_cases hx0 : x = 0
      · subst hx0
        have S2 := box (hs.cut hx)
        clear hx hs h
        go_wp2
        go_roundw
        case rel => exact ⟨K, rfl, by omega, S2.out, by first | rfl | trivial⟩
        case measure => simp [lenOf]
      · have e : wl n = K + 1 := wl_is n (K + 1) hs.1 (Or.inr (by rw [Nat.add_sub_cancel, hx]; exact hx0))
        rw [HM.out] at e
        subst e
        have S2 := box hs
        have d1 : decide (x = 0) = false := decide_eq_false hx0
        clear hx hs h
        go_wp2
        go_ret
        exact ⟨_, c, rfl, S2.out, rfl⟩

theorem l_bitLen (w : World) (p : Option Addr) (L c n l B : Nat) (h : SL B w p L c n) (hL : L ≤ 100000) (hM : wl n = L) (hl : blen n = l) :
    Calls Tryz.prog 228 #[.slice p L c] w fun r w' => r = .returned (.int .i64 (l : Nat)) ∧ w' = w := by
  by_cases h0 : L = 0
  · subst h0
    have e : n = 0 := wl_eq0 n hM
    subst e
    rw [blen_zero] at hl
    subst hl
    clear hM h
    go_enter Tryz.func228, Tryz.ntmps228
    go_wp2
    go_ret
    exact ⟨rfl, rfl⟩
  · obtain ⟨b, o, rfl, hb⟩ := h.ptr (by omega)
    obtain ⟨K, rfl⟩ : ∃ K, L = K + 1 := ⟨L - 1, by omega⟩
    obtain ⟨x, hx⟩ : ∃ x, wd n K = x := ⟨_, rfl⟩
    obtain ⟨y, hy⟩ : ∃ y, Lib.bitLen x = y := ⟨_, rfl⟩
    have x64 : x < 18446744073709551616 := by rw [← hx]; exact wd_lt _ _
    have c1 := h.cell K x (by omega) hx
    have hn : n ≠ 0 := fun e => by rw [e, wl_zero] at hM; omega
    have e := blen_wl n hn
    rw [hM, Nat.add_sub_cancel, hx, hl, ← bitLen_blen x x64, hy] at e
    have hy64 : y ≤ 64 := by rw [← hy, bitLen_blen x x64]; exact blen_le_of x 64 (by rw [← two64]; exact x64)
    have d1 : decide (K + 1 = 0) = false := decide_eq_false (by omega)
    have n1 : ((K + 1 : Nat) : Int) - 1 = (K : Int) := by omega
    have n2 : IntKind.i64.wrap ((K : Int) * 64) = (K : Int) * 64 := wrap_i64_is _ (by omega) (by omega)
    have n3 : IntKind.i64.wrap ((K : Int) * 64 + (y : Int)) = (l : Int) := by rw [wrap_i64_is _ (by omega) (by omega)]; omega
    have n4 : IntKind.i64.wrap (K : Int) = (K : Int) := wrap_i64_is _ (by omega) (by omega)
    have HY := box hy
    clear hM hl hx hy h e hn
    go_enter Tryz.func228, Tryz.ntmps228
    go_wp2_with fail
    refine (len_any x x64 _).mono ?_
    rintro e w' ⟨rfl, rfl⟩
    rw [HY.out]
    go_wp2
    go_ret
    exact ⟨rfl, rfl⟩
end Go.Proofs.YtkmlbjlaahcahaaGreatDoor
namespace Go.Proofs.YtkmlbjlaahcahaaGreatDoor
set_option maxRecDepth 100000
open Go.RowKit WMath

theorem cw_made (L : Nat) : madeCells #[.int .u64 0] L = cw L 0 := by
  apply Array.ext_getElem?
  intro i
  by_cases h : i < L
  · rw [cw_at L 0 i h, wd_zero]
    simp [madeCells, h, Nat.mod_one]
  · rw [Array.getElem?_eq_none (by rw [size_madeCells]; omega), Array.getElem?_eq_none (by rw [cw_size]; omega)]
theorem cw_make (L : Nat) (k : Int) (hk : k = (L : Int)) (h : L ≤ 1000000) (w : World) : (Instr.makeSlice 222 (.int .i64 k) (.int .i64 k)).run Tryz.prog w = .ok (.slice (some ⟨w.heap.size, 0, none⟩) L L) (w.alloc (.cells (cw L 0) 23)) := by
  subst hk
  rw [← cw_made]
  exact run_make_row' (P := Tryz.prog) 222 23 (.int .u64 0) 8 Tryz.underlying222 (by kernel_rfl) rfl .i64 .i64 L (by omega) (by omega) w

end Go.Proofs.YtkmlbjlaahcahaaGreatDoor
namespace Go.Proofs.YtkmlbjlaahcahaaGreatDoor
set_option maxRecDepth 100000
open Go.RowKit WMath

/-- Which of two numbers is the greater one. -/
def cmpi (x y : Int) : Int := if x < y then -1 else if y < x then 1 else 0
theorem cmpi_nat (a b : Nat) : cmpi a b = cmpv a b := by
  unfold cmpi cmpv
  by_cases h : a = b
  · subst h; simp
  · by_cases h2 : a < b
    · rw [if_pos (by omega), if_neg h, if_pos h2]
    · rw [if_neg (by omega), if_pos (by omega), if_neg h, if_neg h2]
theorem cmpi_case (x y : Int) (c : Int) (hc : cmpi x y = c) : (decide (x < y) = true ∧ c = -1) ∨ (decide (x < y) = false ∧ decide (y < x) = true ∧ c = 1) ∨ (decide (x < y) = false ∧ decide (y < x) = false ∧ c = 0) := by
  unfold cmpi at hc
  by_cases h : x < y
  · rw [if_pos h] at hc; exact Or.inl ⟨decide_eq_true h, hc.symm⟩
  · rw [if_neg h] at hc
    by_cases h2 : y < x
    · rw [if_pos h2] at hc; exact Or.inr (Or.inl ⟨decide_eq_false h, decide_eq_true h2, hc.symm⟩)
    · rw [if_neg h2] at hc; exact Or.inr (Or.inr ⟨decide_eq_false h, decide_eq_false h2, hc.symm⟩)

theorem nan_int (x : Int) (w : World) : Calls Tryz.prog 211 #[.int .i64 x] w fun r w' => r = .returned (.bool false) ∧ w' = w := by
  go_enter Tryz.func211, Tryz.ntmps211
  go_wp2
  go_ret
  exact ⟨rfl, rfl⟩
theorem cmp_int (x y : Int) (c : Int) (hc : cmpi x y = c) (w : World) : Calls Tryz.prog 160 #[.int .i64 x, .int .i64 y] w fun r w' => r = .returned (.int .i64 c) ∧ w' = w := by
  have hcase := cmpi_case x y c hc
  clear hc
  rcases hcase with ⟨h1, rfl⟩ | ⟨h1, h2, rfl⟩ | ⟨h1, h2, rfl⟩
  all_goals
    go_enter Tryz.func160, Tryz.ntmps160
    go_wp2_with fail
    refine (nan_int x _).mono ?_
    rintro e w' ⟨rfl, rfl⟩
    go_wp2_with fail
    refine (nan_int y _).mono ?_
    rintro e w' ⟨rfl, rfl⟩
    go_wp2
    go_ret
    exact ⟨rfl, rfl⟩
theorem nan_word (x : Int) (w : World) : Calls Tryz.prog 285 #[.int .u64 x] w fun r w' => r = .returned (.bool false) ∧ w' = w := by
  go_enter Tryz.func285, Tryz.ntmps285
  go_wp2
  go_ret
  exact ⟨rfl, rfl⟩
theorem cmp_word (x y : Int) (c : Int) (hc : cmpi x y = c) (w : World) : Calls Tryz.prog 271 #[.int .u64 x, .int .u64 y] w fun r w' => r = .returned (.int .i64 c) ∧ w' = w := by
  have hcase := cmpi_case x y c hc
  clear hc
  rcases hcase with ⟨h1, rfl⟩ | ⟨h1, h2, rfl⟩ | ⟨h1, h2, rfl⟩
  all_goals
    go_enter Tryz.func271, Tryz.ntmps271
    go_wp2_with fail
    refine (nan_word x _).mono ?_
    rintro e w' ⟨rfl, rfl⟩
    go_wp2_with fail
    refine (nan_word y _).mono ?_
    rintro e w' ⟨rfl, rfl⟩
    go_wp2
    go_ret
    exact ⟨rfl, rfl⟩

theorem div_wd (a i : Nat) : a / 2 ^ (64 * i) = 18446744073709551616 * (a / 2 ^ (64 * (i + 1))) + wd a i := by
  unfold wd
  rw [pow64, ← Nat.div_div_eq_div_mul]
  omega
theorem hi_lt (a b i : Nat) (h : a / 2 ^ (64 * (i + 1)) = b / 2 ^ (64 * (i + 1))) (hw : wd a i < wd b i) : a < b := by
  have h1 := div_wd a i
  have h2 := div_wd b i
  by_cases e : a < b
  · exact e
  · have := Nat.div_le_div_right (c := 2 ^ (64 * i)) (show b ≤ a by omega)
    omega
theorem cmpv_lt (a b : Nat) (h : a < b) : cmpv a b = -1 := by unfold cmpv; rw [if_neg (by omega), if_pos h]
theorem cmpv_gt (a b : Nat) (h : b < a) : cmpv a b = 1 := by unfold cmpv; rw [if_neg (by omega), if_neg (by omega)]
theorem cmpv_hi (a b i : Nat) (h : a / 2 ^ (64 * (i + 1)) = b / 2 ^ (64 * (i + 1))) (hw : wd a i ≠ wd b i) : cmpv (wd a i) (wd b i) = cmpv a b := by
  by_cases e : wd a i < wd b i
  · rw [cmpv_lt _ _ e, cmpv_lt a b (hi_lt a b i h e)]
  · rw [cmpv_gt _ _ (show wd b i < wd a i by omega), cmpv_gt a b (hi_lt b a i h.symm (by omega))]

set_option maxRecDepth 100000 in
set_option maxHeartbeats 1000000 in
theorem l_compare (w : World) (p q : Option Addr) (L c a M d b B B2 : Nat) (k : Int) (ha : SL B w p L c a) (hb : SL B2 w q M d b) (hL : L ≤ 50000) (hM : M ≤ 50000) (la : wl a = L) (lb : wl b = M) (hB : B ≤ w.heap.size) (hB2 : B2 ≤ w.heap.size) (hk : cmpv a b = k) :
    Calls Tryz.prog 250 #[.slice p L c, .slice q M d] w fun r w' => r = .returned (.int .i64 k) ∧ Below w.heap.size w w' := by
  by_cases h : L = M
  · subst h
    have K := box hk
    have AL := box ha.1
    have BL := box hb.1
    have dn : ((L : Int) != (L : Int)) = false := by simp
    clear hk la lb hM
    have n0 : IntKind.i64.wrap ((L : Int) - 1) = (L : Int) - 1 := wrap_i64_is _ (by omega) (by omega)
    go_enter Tryz.func250, Tryz.ntmps250
    go_wp2
    go_loopw [5] (fun iv wr => ∃ i : Nat, i ≤ L ∧ iv = .int .i64 ((i : Int) - 1) ∧ Below w.heap.size w wr ∧ Box (a / 2 ^ (64 * i) = b / 2 ^ (64 * i))) (fun iv _ => (intOf iv + 1).toNat)
    case atStart => exact ⟨L, Nat.le_refl _, rfl, Below.refl _ _, box (by rw [Nat.div_eq_of_lt AL.out, Nat.div_eq_of_lt BL.out])⟩
    case round =>
      obtain ⟨i, hi, rfl, hbw, HE⟩ := hrel
      by_cases h0 : i = 0
      · subst h0
        have e : a = b := by simpa using HE.out
        subst e
        have e2 : k = 0 := by rw [← K.out]; unfold cmpv; rw [if_pos rfl]
        subst e2
        go_wp2
        go_ret
        exact ⟨rfl, hbw⟩
      · obtain ⟨j, rfl⟩ : ∃ j, i = j + 1 := ⟨i - 1, by omega⟩
        obtain ⟨ba, oa, rfl, _⟩ := ha.ptr (by omega)
        obtain ⟨bb, ob, rfl, _⟩ := hb.ptr (by omega)
        obtain ⟨x, hx⟩ : ∃ x, wd a j = x := ⟨_, rfl⟩
        obtain ⟨y, hy⟩ : ∃ y, wd b j = y := ⟨_, rfl⟩
        have c1 := (ha.below hbw hB).cell j x (by omega) hx
        have c2 := (hb.below hbw hB2).cell j y (by omega) hy
        have ej : (((j + 1 : Nat) : Int) - 1) = (j : Int) := by omega
        rw [ej]
        have hjL : j < L := by omega
        have hji : (j : Int) < (L : Int) := by omega
        have n1 : IntKind.i64.wrap ((j : Int) - 1) = (j : Int) - 1 := wrap_i64_is _ (by omega) (by omega)
        have SA := box ha
        have SB := box hb
        by_cases hxy : x = y
        · have NE : Box (a / 2 ^ (64 * j) = b / 2 ^ (64 * j)) := box (by rw [div_wd, div_wd b, HE.out, hx, hy, hxy])
          subst hxy
          clear hx hy ha hb HE ej
          go_wp2
          go_quiet (fail)
          go_wp2
          go_roundw
          case rel => exact ⟨j, by omega, by first | rfl | go_num, below_drewN hbw _, NE⟩
          case measure => simp [intOf]
        · have E : Box (cmpi x y = k) := box (by rw [cmpi_nat, ← K.out, ← hx, ← hy]; exact cmpv_hi a b j HE.out (by rw [hx, hy]; exact hxy))
          have dn2 : ((x : Int) != (y : Int)) = true := by simp; omega
          have hxy2 : ¬ (x : Int) = (y : Int) := by omega
          clear hx hy ha hb HE ej
          go_wp2
          go_quiet (fail)
          go_wp2
          go_quiet ((go_at_call 271; exact (cmp_word _ _ k E.out _).mono (fun _ _ h => ⟨h.1, _, h.2⟩)))
          go_wp2
          go_ret
          exact ⟨rfl, below_drewN (below_drewN hbw _) _⟩
  · have hne : ((L : Int) != (M : Int)) = true := by simp; omega
    have e : cmpi (L : Int) (M : Int) = k := by
      rw [cmpi_nat, ← hk]
      by_cases h2 : L < M
      · rw [cmpv_lt _ _ h2, cmpv_lt a b (wl_lt_of a b (by omega))]
      · rw [cmpv_gt _ _ (show M < L by omega), cmpv_gt a b (wl_lt_of b a (by omega))]
    have E := box e
    clear e hk la lb ha hb
    go_enter Tryz.func250, Tryz.ntmps250
    go_wp2_with fail
    refine (cmp_int _ _ k E.out _).mono ?_
    rintro e w' ⟨rfl, rfl⟩
    go_wp2
    go_ret
    exact ⟨rfl, Below.refl _ _⟩
end Go.Proofs.YtkmlbjlaahcahaaGreatDoor
namespace Go.Proofs.YtkmlbjlaahcahaaGreatDoor
set_option maxRecDepth 100000
open Go.RowKit WMath

theorem cnt_is (k : Nat) (h : k ≤ 64) : cnt (k : Int) = k := by unfold cnt; omega
theorem l_left (x k v : Nat) (hk : k ≤ 64) (hv : x * 2 ^ k % 18446744073709551616 = v) (w : World) :
    Calls Tryz.prog 232 #[.int .u64 x, .int .i64 (k : Nat)] w fun e w' => e = .returned (.int .u64 (v : Nat)) ∧ w' = w := by
  have := left_any x (k : Int) w
  rwa [cnt_is k hk, hv] at this
theorem l_right (x k v : Nat) (hk : k ≤ 64) (hv : x / 2 ^ k = v) (w : World) :
    Calls Tryz.prog 230 #[.int .u64 x, .int .i64 (k : Nat)] w fun e w' => e = .returned (.int .u64 (v : Nat)) ∧ w' = w := by
  have := right_any x (k : Int) w
  rwa [cnt_is k hk, hv] at this
theorem idx_runN (s : ByteArray) (k : Nat) (i : Int) (d : Nat) (hi : i = (k : Int)) (hk : k < s.size) (hd : (s[k]'hk).toNat = d) (w : World) :
    (Instr.index 26 (.string s) (.int .i64 i)).run Tryz.prog w = .ok (.int .u8 (d : Nat)) w := by
  subst hi hd
  rw [run_index_string (P := Tryz.prog) w 26 s _ _ Tryz.underlying26, dif_pos ⟨by omega, by omega⟩]
  simp

/-- The bytes of n from the place p on, at their places. -/
def hiB (n p : Nat) : Nat := n / 2 ^ (8 * p) * 2 ^ (8 * p)
theorem hiB_step (n p x : Nat) (hx : d8 n p = x) : hiB n p = hiB n (p + 1) ||| x * 2 ^ (8 * (p % 8)) * 2 ^ (64 * (p / 8)) := by
  have e : n / 2 ^ (8 * p) = 256 * (n / 2 ^ (8 * (p + 1))) + x := by
    rw [← hx, pow8, ← Nat.div_div_eq_div_mul]
    unfold d8
    omega
  have x256 : x < 256 := by rw [← hx]; exact d8_lt _ _
  unfold hiB
  rw [e, Nat.mul_assoc x, ← Nat.pow_add, show 8 * (p % 8) + 64 * (p / 8) = 8 * p by omega, Nat.or_comm, ← or_disj _ _ _ (show x * 2 ^ (8 * p) < 2 ^ (8 * (p + 1)) by
    rw [pow8, Nat.mul_comm]; exact Nat.mul_lt_mul_of_pos_left x256 (Nat.two_pow_pos _)), Nat.add_mul, pow8, Nat.mul_comm (2 ^ (8 * p)) 256, ← Nat.mul_assoc, Nat.mul_comm 256]
  omega
theorem hiB_zero (n : Nat) : hiB n 0 = n := by unfold hiB; simp
theorem hiB_top (n L : Nat) (h : n < 2 ^ (8 * L)) : hiB n L = 0 := by unfold hiB; rw [Nat.div_eq_of_lt h, Nat.zero_mul]
theorem byte_sh (x r : Nat) (hx : x < 256) (hr : r < 8) : x * 2 ^ (8 * r) < 18446744073709551616 := by
  have h1 : x * 2 ^ (8 * r) < 256 * 2 ^ (8 * r) := Nat.mul_lt_mul_of_pos_right hx (Nat.two_pow_pos _)
  have h2 : 256 * 2 ^ (8 * r) = 2 ^ (8 * (r + 1)) := by rw [pow8, Nat.mul_comm]
  have h3 : 2 ^ (8 * (r + 1)) ≤ 2 ^ 64 := Nat.pow_le_pow_right (by decide) (by omega)
  rw [← two64] at h3
  omega

set_option maxRecDepth 100000 in
set_option maxHeartbeats 1000000 in
theorem l_wordsOf (n K : Nat) (s : ByteArray) (hs : nbA n = s) (hn : nl n ≤ 100000) (hK : wl n = K) (w : World) :
    Calls Tryz.prog 197 #[.string s] w fun r w' => ∃ u e, r = .returned (.slice u K e) ∧ SL w'.heap.size w' u K e n ∧ Below w.heap.size w w' := by
  obtain ⟨L, hL⟩ : ∃ L, nl n = L := ⟨_, rfl⟩
  have hz : s.size = L := by rw [← hs, nbA_size, hL]
  have hKL : K = (L + 7) / 8 := by rw [← hK, wl_nl, hL]
  rw [hL] at hn
  have n1 : IntKind.i64.wrap ((L : Int) + 8) = (L : Int) + 8 := wrap_i64_is _ (by omega) (by omega)
  have n2 : IntKind.i64.wrap ((L : Int) + 8 - 1) = (L : Int) + 8 - 1 := wrap_i64_is _ (by omega) (by omega)
  have hmk := cw_make K (((L : Int) + 8 - 1) / 8) (by omega) (by omega)
  have HS := box hs
  have HL := box hL
  have HK := box hK
  have HKL := box hKL
  clear hs hL hK hKL
  go_enter Tryz.func197, Tryz.ntmps197
  go_wp2
  clear hmk n1 n2
  obtain ⟨g, hg⟩ : ∃ g, w.heap.size = g := ⟨_, rfl⟩
  have r0 : (w.alloc (.cells (cw K 0) 23)).heap[g]? = some (.cells (cw K 0) 23) := by rw [← hg]; exact heap_alloc_last _ _
  have b0 : Below g w (w.alloc (.cells (cw K 0) 23)) := by rw [← hg]; exact (Below.refl _ _).alloc (Nat.le_refl _) _
  rw [hg]
  go_loopw [14] (fun iv wr => ∃ (i X : Nat), i ≤ L ∧ iv = .int .i64 i ∧ wr.heap[g]? = some (.cells (cw K X) 23) ∧ Below g w wr ∧ Box (X = hiB n (L - i))) (fun iv _ => L - (intOf iv).toNat)
  case atStart => exact ⟨0, 0, by omega, rfl, r0, b0, box (by rw [Nat.sub_zero, hiB_top n L (by rw [← HL.out]; exact nl_lt n)])⟩
  case round =>
    clear r0 b0
    obtain ⟨i, X, hi, rfl, r1, hbw, HX⟩ := hrel
    by_cases hlt : i < L
    · obtain ⟨pl, hpl⟩ : ∃ pl, L - 1 - i = pl := ⟨_, rfl⟩
      obtain ⟨x, hx⟩ : ∃ x, d8 n pl = x := ⟨_, rfl⟩
      obtain ⟨q, hq⟩ : ∃ q, pl / 8 = q := ⟨_, rfl⟩
      obtain ⟨r, hr⟩ : ∃ r, pl % 8 = r := ⟨_, rfl⟩
      have x256 : x < 256 := by rw [← hx]; exact d8_lt n pl
      have hxi : ∃ h : i < s.size, (s[i]'h).toNat = x := by
        have h1 : i < s.size := by omega
        refine ⟨h1, ?_⟩
        have e := HS.out
        subst e
        rw [nbA_get, HL.out, hpl, hx]
      obtain ⟨hi2, hxx⟩ := hxi
      have hxr := idx_runN s i (i : Int) x rfl hi2 hxx
      have n1 : IntKind.i64.wrap ((L : Int) - 1) = (L : Int) - 1 := wrap_i64_is _ (by omega) (by omega)
      have n2 : IntKind.i64.wrap ((L : Int) - 1 - (i : Int)) = (pl : Int) := by rw [wrap_i64_is _ (by omega) (by omega)]; omega
      have n2' : (L : Int) - 1 - (i : Int) = (pl : Int) := by omega
      have q1 : (pl : Int) / 8 = (q : Int) := by omega
      have tm : (pl : Int).tmod 8 = (r : Int) := by rw [Int.tmod_eq_emod_of_nonneg (by omega)]; omega
      have tm2 : (pl : Int) % 8 = (r : Int) := by omega
      have w1 : IntKind.i64.wrap (q : Int) = (q : Int) := wrap_i64_is _ (by omega) (by omega)
      obtain ⟨k, hk⟩ : ∃ k, 8 * r = k := ⟨_, rfl⟩
      have w2 : IntKind.i64.wrap (k : Int) = (k : Int) := wrap_i64_is _ (by omega) (by omega)
      have w3 : (r : Int) * 8 = (k : Int) := by omega
      have n4 : IntKind.u64.wrap (x : Int) = (x : Int) := by rw [IntKind.wrap_u64]; omega
      obtain ⟨y, hy⟩ : ∃ y, x * 2 ^ k = y := ⟨_, rfl⟩
      have y64 : y < 18446744073709551616 := by rw [← hy, ← hk]; exact byte_sh x r x256 (by omega)
      have hle := l_left x k y (by omega) (by rw [hy, Nat.mod_eq_of_lt y64])
      have e1 := hiB_step n pl x hx
      rw [hq, hr, hk, hy, show pl + 1 = L - i by omega, ← HX.out] at e1
      obtain ⟨Y, hY⟩ : ∃ Y, hiB n pl = Y := ⟨_, rfl⟩
      rw [hY] at e1
      have qK : q < K := by rw [HKL.out]; omega
      have qKi : (q : Int) < (K : Int) := by omega
      have x3 := bor X q y y64
      have x4 := cw_or K X q y Y qK y64 e1
      have c1 : wr.cell? ⟨g, q, none⟩ = some (.int .u64 (wd X q : Nat)) := by rw [cell_of_row wr g q _ _ _ r1, cw_at K X q qK]
      have f0 := fz (k := q) r1
      have R2 : Box ((wr.setCell ⟨g, q, none⟩ (.int .u64 ((wd X q ||| y : Nat) : Int))).heap[g]? = some (.cells (cw K Y) 23)) := box (by rw [setCell_row r1, x4])
      have B2 : Box (Below g w (wr.setCell ⟨g, q, none⟩ (.int .u64 ((wd X q ||| y : Nat) : Int)))) := box (hbw.setCell (Nat.le_refl _) _)
      have NX : Box (Y = hiB n (L - (i + 1))) := box (by rw [← hY, ← hpl, show L - (i + 1) = L - 1 - i by omega])
      have dl : decide (i < L) = true := decide_eq_true hlt
      have LE := box hle
      clear hpl hx hq hr hk hy hY e1 x4 HX hxx hle
      go_wp2
      go_region_with (go_at_call 232; refine (LE.out _).mono ?_; rintro e w' ⟨rfl, rfl⟩)
      all_goals go_wp2
      all_goals go_roundw
      all_goals first | (show (_ : Nat) < _; simp [intOf]; omega) | exact ⟨i + 1, Y, by omega, by go_num, R2.out, below_drewN B2.out _, NX⟩
    · obtain rfl : i = L := by omega
      have e := HX.out
      rw [Nat.sub_self, hiB_zero] at e
      subst e
      have s2 : SL wr.heap.size wr (some ⟨g, 0, none⟩) K K X := SL.row r1 _ (Array.getElem?_eq_some_iff.1 r1).1 (by rw [← HK.out]; exact wl_lt X) (Nat.le_refl _)
      have dl : decide (i < i) = false := by rw [decide_eq_false_iff_not]; omega
      go_wp2
      go_ret
      exact ⟨_, _, rfl, s2, by rw [hg]; exact hbw⟩
theorem ld8_wd (n p : Nat) : wd n (p / 8) / 2 ^ (8 * (p % 8)) % 256 = d8 n p := by
  apply Nat.eq_of_testBit_eq
  intro j
  rw [two8, Nat.testBit_mod_two_pow, Nat.testBit_div_two_pow, wd_bit, d8_bit]
  by_cases h : j < 8
  · rw [decide_eq_true h, Bool.true_and, decide_eq_true (show j + 8 * (p % 8) < 64 by omega), Bool.true_and, Bool.true_and]
    congr 1; omega
  · rw [decide_eq_false h, Bool.false_and, Bool.false_and]
/-- A row of bytes as a number's string. -/
theorem c8_strN {w : World} {b c L X : Nat} (v : ByteArray) (h : w.heap[b]? = some (.cells (c8 L X) 5)) (hk : v.size = L) (hv : ∀ (j : Nat) (h1 : j < v.size), (v[j]'h1).toNat = d8 X j) :
    (convert 131 26 (.slice (some ⟨b, 0, none⟩) L c)).run Tryz.prog w = .ok (.string v) w := by
  rw [run_convert_bytes_string w 131 26 5 _ _ _ Tryz.underlying131 Tryz.underlying5 Tryz.underlying26]
  have hz : v.data.toList.length = L := by rw [Array.length_toList]; exact hk
  have hl := run_loadCells_list (P := Tryz.prog) w ⟨b, 0, none⟩ (v.data.toList.map fun x => Value.int .u8 (x.toNat : Int)) (fun j u hu => by
    have hadd : (⟨b, 0, none⟩ : Addr).add j = ⟨b, j, none⟩ := by unfold Addr.add; split <;> simp_all
    have hj : j < v.data.toList.length := by
      have := (List.getElem?_eq_some_iff.1 hu).1
      rwa [List.length_map] at this
    have hj2 : j < v.size := by rw [hk]; omega
    rw [hadd, c8_cell h (by omega), ← hv j hj2, ← hu, List.getElem?_map, List.getElem?_eq_getElem hj]
    rfl)
  rw [List.length_map, hz] at hl
  rw [run_bytesToString (P := Tryz.prog) w ⟨b, 0, none⟩ L c (v.data.toList.map fun x => (x.toNat : Int)) (by rw [hl]; simp), show ByteArray.empty = ⟨#[]⟩ from rfl, fold_bytes]
  simp

set_option maxRecDepth 100000 in
set_option maxHeartbeats 1000000 in
theorem l_natOf (w : World) (p : Option Addr) (L c n B : Nat) (v : ByteArray) (h : SL B w p L c n) (hB : B ≤ w.heap.size) (hL : L ≤ 100000) (hv : nbA n = v) :
    Calls Tryz.prog 195 #[.slice p L c] w fun r w' => r = .returned (.string v) ∧ Below w.heap.size w w' := by
  obtain ⟨M, hM⟩ : ∃ M, wl n = M := ⟨_, rfl⟩
  obtain ⟨l, hl⟩ : ∃ l, blen n = l := ⟨_, rfl⟩
  obtain ⟨m, hm⟩ : ∃ m, nl n = m := ⟨_, rfl⟩
  have hml : m = (l + 7) / 8 := by rw [← hm, ← hl]; rfl
  have hMl : M = (l + 63) / 64 := by rw [← hM, ← hl]; rfl
  have hML : M ≤ L := by rw [← hM]; exact wl_le_of n L h.1
  have n1 : IntKind.i64.wrap ((l : Int) + 8) = (l : Int) + 8 := wrap_i64_is _ (by omega) (by omega)
  have n2 : IntKind.i64.wrap ((l : Int) + 8 - 1) = (l : Int) + 8 - 1 := wrap_i64_is _ (by omega) (by omega)
  have hmk := c8_makeI m (((l : Int) + 8 - 1) / 8) (by omega) (by omega)
  have hvz : v.size = m := by rw [← hv, nbA_size, hm]
  have l64 : l ≤ 6400000 := by omega
  have m64 : m ≤ 800000 := by omega
  have HM := box hM
  have HL := box hl
  have HMM := box hm
  have HML := box hml
  have HMW := box hMl
  have HV := box hv
  clear hM hl hm hv hml hMl
  go_enter Tryz.func195, Tryz.ntmps195
  go_wp2_with fail
  refine (l_trim w p L c n M B h hL HM.out).mono ?_
  rintro e w1 ⟨u, d, rfl, s1, rfl⟩
  go_wp2_with fail
  refine (l_bitLen w1 u M d n l B s1 (by omega) HM.out HL.out).mono ?_
  rintro e w2 ⟨rfl, rfl⟩
  go_wp2
  clear hmk n1 n2 l64
  obtain ⟨g, hg⟩ : ∃ g, w2.heap.size = g := ⟨_, rfl⟩
  have r0 : (w2.alloc (.cells (c8 m 0) 5)).heap[g]? = some (.cells (c8 m 0) 5) := by rw [← hg]; exact heap_alloc_last _ _
  have b0 : Below g w2 (w2.alloc (.cells (c8 m 0) 5)) := by rw [← hg]; exact (Below.refl _ _).alloc (Nat.le_refl _) _
  rw [hg]
  go_loopw [15] (fun iv wr => ∃ (i Y : Nat), i ≤ m ∧ iv = .int .i64 i ∧ wr.heap[g]? = some (.cells (c8 m Y) 5) ∧ Below g w2 wr ∧ Box (∀ j, j < i → d8 Y j = d8 n (m - 1 - j))) (fun iv _ => m - (intOf iv).toNat)
  case atStart => exact ⟨0, 0, by omega, rfl, r0, b0, box (fun j hj => absurd hj (by omega))⟩
  case round =>
    clear r0 b0
    obtain ⟨i, Y, hi, rfl, r1, hbw, HX⟩ := hrel
    by_cases hlt : i < m
    · obtain ⟨pl, hpl⟩ : ∃ pl, m - 1 - i = pl := ⟨_, rfl⟩
      obtain ⟨x, hx⟩ : ∃ x, d8 n pl = x := ⟨_, rfl⟩
      obtain ⟨q, hq⟩ : ∃ q, pl / 8 = q := ⟨_, rfl⟩
      obtain ⟨r, hr⟩ : ∃ r, pl % 8 = r := ⟨_, rfl⟩
      have hqM : q < M := by rw [HMW.out]; have := HML.out; omega
      obtain ⟨bp, op, rfl, _⟩ := h.ptr (by omega)
      have x256 : x < 256 := by rw [← hx]; exact d8_lt n pl
      have n1 : IntKind.i64.wrap ((m : Int) - 1) = (m : Int) - 1 := wrap_i64_is _ (by omega) (by omega)
      have n2 : IntKind.i64.wrap ((m : Int) - 1 - (i : Int)) = (pl : Int) := by rw [wrap_i64_is _ (by omega) (by omega)]; omega
      have n2' : (m : Int) - 1 - (i : Int) = (pl : Int) := by omega
      have q1 : (pl : Int) / 8 = (q : Int) := by omega
      have tm : (pl : Int).tmod 8 = (r : Int) := by rw [Int.tmod_eq_emod_of_nonneg (by omega)]; omega
      have tm2 : (pl : Int) % 8 = (r : Int) := by omega
      have w1 : IntKind.i64.wrap (q : Int) = (q : Int) := wrap_i64_is _ (by omega) (by omega)
      obtain ⟨k, hk⟩ : ∃ k, 8 * r = k := ⟨_, rfl⟩
      have w2' : IntKind.i64.wrap (k : Int) = (k : Int) := wrap_i64_is _ (by omega) (by omega)
      have w3 : (r : Int) * 8 = (k : Int) := by omega
      obtain ⟨z, hz⟩ : ∃ z, wd n q = z := ⟨_, rfl⟩
      obtain ⟨y, hy⟩ : ∃ y, z / 2 ^ k = y := ⟨_, rfl⟩
      have LE := box (l_right z k y (by omega) hy)
      have hyx : y % 256 = x := by rw [← hy, ← hz, ← hq, ← hk, ← hr, ld8_wd, hx]
      have n4 := wrap_u8_is y x hyx
      have qL : q < L := by omega
      have qLi : (q : Int) < (L : Int) := by omega
      have imi : (i : Int) < (m : Int) := by omega
      have c0 := (h.below hbw (by omega)).cell q z qL hz
      have c1 := c8_cell r1 hlt
      have f0 := fz (k := i) r1
      have R2 : Box ((wr.setCell ⟨g, i, none⟩ (.int .u8 (x : Int))).heap[g]? = some (.cells (c8 m (set8 Y i x)) 5)) := box (by rw [setCell_row r1, c8_seti m Y i x _ hlt x256 rfl])
      have B2 : Box (Below g w2 (wr.setCell ⟨g, i, none⟩ (.int .u8 (x : Int)))) := box (hbw.setCell (Nat.le_refl _) _)
      have NX : Box (∀ j, j < i + 1 → d8 (set8 Y i x) j = d8 n (m - 1 - j)) := box (fun j hj => by
        rw [d8_set8 _ _ _ _ x256]
        by_cases e : j = i
        · rw [if_pos e, e, hpl, hx]
        · rw [if_neg e]; exact HX.out j (by omega))
      have dl : decide (i < m) = true := decide_eq_true hlt
      clear hpl hx hq hr hk hy hz HX h hyx
      go_wp2_with fail
      refine (LE.out _).mono ?_
      rintro e w' ⟨rfl, rfl⟩
      go_wp2
      go_roundw
      case rel => exact ⟨i + 1, _, by omega, by go_num, R2.out, B2.out, NX⟩
      case measure => simp [intOf] <;> omega
    · obtain rfl : i = m := by omega
      have hst := c8_strN (c := i) v r1 hvz (fun j hj => by
        rw [HX.out j (by omega)]
        have e := HV.out
        subst e
        rw [nbA_get, HMM.out])
      have dl : decide (i < i) = false := by rw [decide_eq_false_iff_not]; omega
      go_wp2
      go_ret
      exact ⟨rfl, by rw [hg]; exact hbw⟩
end Go.Proofs.YtkmlbjlaahcahaaGreatDoor
namespace Go.Proofs.YtkmlbjlaahcahaaGreatDoor
set_option maxRecDepth 100000
open Go.RowKit WMath

theorem raise_lt (n L s q : Nat) (hn : n < 2 ^ (64 * L)) (hs : s < 64 * (q + 1)) : n * 2 ^ s < 2 ^ (64 * (L + q + 1)) := by
  have h1 : n * 2 ^ s < 2 ^ (64 * L) * 2 ^ s := Nat.mul_lt_mul_of_pos_right hn (Nat.two_pow_pos _)
  rw [← Nat.pow_add] at h1
  exact Nat.lt_of_lt_of_le h1 (Nat.pow_le_pow_right (by decide) (by omega))

set_option maxRecDepth 100000 in
set_option maxHeartbeats 1000000 in
theorem l_raise (w : World) (p : Option Addr) (L c n s q B : Nat) (h : SL B w p L c n) (hB : B ≤ w.heap.size) (hL : L ≤ 100000) (hs : s ≤ 1000000) (hq : s / 64 = q) :
    Calls Tryz.prog 231 #[.slice p L c, .int .i64 (s : Nat)] w fun r w' => ∃ g, r = .returned (.slice (some ⟨g, 0, none⟩) (L + q + 1) (L + q + 1)) ∧ w.heap.size ≤ g ∧ w'.heap[g]? = some (.cells (cw (L + q + 1) (n * 2 ^ s)) 23) ∧ Below w.heap.size w w' := by
  obtain ⟨r, hr⟩ : ∃ r, s % 64 = r := ⟨_, rfl⟩
  have r64 : r < 64 := by omega
  obtain ⟨N, hN⟩ : ∃ N, L + q + 1 = N := ⟨_, rfl⟩
  have q1 : (s : Int) / 64 = (q : Int) := by omega
  have tm : (s : Int).tmod 64 = (r : Int) := by rw [Int.tmod_eq_emod_of_nonneg (by omega)]; omega
  have tm2 : (s : Int) % 64 = (r : Int) := by omega
  have q2 : q ≤ 20000 := by omega
  have HSR : Box (s = 64 * q + r) := box (by omega)
  have hmk := cw_make N ((L : Int) + (q : Int) + 1) (by omega) (by omega)
  have n1 : IntKind.i64.wrap ((L : Int) + (q : Int)) = (L : Int) + (q : Int) := wrap_i64_is _ (by omega) (by omega)
  have n2 : IntKind.i64.wrap ((L : Int) + (q : Int) + 1) = (L : Int) + (q : Int) + 1 := wrap_i64_is _ (by omega) (by omega)
  have w1 : IntKind.i64.wrap (q : Int) = (q : Int) := wrap_i64_is _ (by omega) (by omega)
  have HR := box hr
  have HQ := box hq
  rw [hN]
  have HN := box hN
  clear hr hq hN
  go_enter Tryz.func231, Tryz.ntmps231
  go_wp2
  clear hmk n1 n2 w1 q1 tm tm2
  obtain ⟨g, hg⟩ : ∃ g, w.heap.size = g := ⟨_, rfl⟩
  have r0 : (w.alloc (.cells (cw N 0) 23)).heap[g]? = some (.cells (cw N 0) 23) := by rw [← hg]; exact heap_alloc_last _ _
  have b0 : Below g w (w.alloc (.cells (cw N 0) 23)) := by rw [← hg]; exact (Below.refl _ _).alloc (Nat.le_refl _) _
  rw [hg] at hB ⊢
  go_loopw [22] (fun iv wr => ∃ (i X : Nat), i ≤ L ∧ iv = .int .i64 i ∧ wr.heap[g]? = some (.cells (cw N X) 23) ∧ Below g w wr ∧ Box (X = (n % 2 ^ (64 * i)) * 2 ^ s)) (fun iv _ => L - (intOf iv).toNat)
  case atStart => exact ⟨0, 0, by omega, rfl, r0, b0, box (by simp [Nat.mod_one])⟩
  case round =>
    clear r0 b0
    obtain ⟨i, X, hi, rfl, r1, hbw, HX⟩ := hrel
    by_cases hlt : i < L
    · obtain ⟨bp, op, rfl, _⟩ := h.ptr (by omega)
      obtain ⟨x, hx⟩ : ∃ x, wd n i = x := ⟨_, rfl⟩
      obtain ⟨t, ht⟩ : ∃ t, i + q = t := ⟨_, rfl⟩
      obtain ⟨lo, hlo⟩ : ∃ lo, x * 2 ^ r % 18446744073709551616 = lo := ⟨_, rfl⟩
      obtain ⟨hj, hhj⟩ : ∃ hj, x / 2 ^ (64 - r) = hj := ⟨_, rfl⟩
      obtain ⟨k, hk⟩ : ∃ k, 64 - r = k := ⟨_, rfl⟩
      have x64 : x < 18446744073709551616 := by rw [← hx]; exact wd_lt _ _
      have lo64 : lo < 18446744073709551616 := by rw [← hlo]; exact Nat.mod_lt _ (by decide)
      have hj64 : hj < 18446744073709551616 := by rw [← hhj]; exact Nat.lt_of_le_of_lt (Nat.div_le_self _ _) x64
      have ST := raise_step n i s q r t X lo hj HSR.out r64 ht.symm HX.out (by rw [hx]; exact hlo) (by rw [hx]; exact hhj)
      have c0 := (h.below hbw (by omega)).cell i x hlt hx
      have tN : t + 1 < N := by rw [← HN.out]; omega
      have tN0 : t < N := by omega
      have t1 : (i : Int) + (q : Int) = (t : Int) := by omega
      have k1 : (64 : Int) - (r : Int) = (k : Int) := by omega
      have k2 : IntKind.i64.wrap (k : Int) = (k : Int) := wrap_i64_is _ (by omega) (by omega)
      have t2 : IntKind.i64.wrap (t : Int) = (t : Int) := wrap_i64_is _ (by omega) (by omega)
      have t3 : IntKind.i64.wrap ((t : Int) + 1) = (t : Int) + 1 := wrap_i64_is _ (by omega) (by omega)
      have tNi : (t : Int) < (N : Int) := by omega
      have tNj : (t : Int) + 1 < (N : Int) := by omega
      have c1 : wr.cell? ⟨g, t, none⟩ = some (.int .u64 (wd X t : Nat)) := by rw [cell_of_row wr g t _ _ _ r1, cw_at N X t tN0]
      have c2 : wr.cell? ⟨g, t + 1, none⟩ = some (.int .u64 (wd X (t + 1) : Nat)) := by rw [cell_of_row wr g (t + 1) _ _ _ r1, cw_at N X (t + 1) tN]
      have f1 := fz (k := t) r1
      have f2 := fz (k := t + 1) r1
      have x1 := bor X t lo lo64
      have x2 := bor X (t + 1) hj hj64
      have LO := box (l_left x r lo (by omega) hlo)
      have HJ := box (l_right x k hj (by omega) (by rw [← hk]; exact hhj))
      have dl : decide (i < L) = true := decide_eq_true hlt
      obtain ⟨X1, hX1⟩ : ∃ X1, X1 = X ||| lo * 2 ^ (64 * t) := ⟨_, rfl⟩
      have row1 : (wr.setCell ⟨g, t, none⟩ (.int .u64 ((wd X t ||| lo : Nat) : Int))).heap[g]? = some (.cells (cw N X1) 23) := by rw [setCell_row r1, cw_or N X t lo X1 tN0 lo64 hX1]
      have e1 : wd X1 (t + 1) = wd X (t + 1) := by
        rw [hX1, wd_or, wd_high (n := lo * 2 ^ (64 * t)) (q := t + 1) (by rw [pow64, Nat.mul_comm]; exact Nat.mul_lt_mul_of_pos_left lo64 (Nat.two_pow_pos _)) (Nat.le_refl _), Nat.or_zero]
      have row2 : ((wr.setCell ⟨g, t, none⟩ (.int .u64 ((wd X t ||| lo : Nat) : Int))).setCell ⟨g, t + 1, none⟩ (.int .u64 ((wd X (t + 1) ||| hj : Nat) : Int))).heap[g]? = some (.cells (cw N ((n % 2 ^ (64 * (i + 1))) * 2 ^ s)) 23) := by
        rw [setCell_row row1, ← e1, cw_or N X1 (t + 1) hj _ tN hj64 (by rw [hX1, ST])]
      have RS := box row2
      have BS : Box (Below g w ((wr.setCell ⟨g, t, none⟩ (.int .u64 ((wd X t ||| lo : Nat) : Int))).setCell ⟨g, t + 1, none⟩ (.int .u64 ((wd X (t + 1) ||| hj : Nat) : Int)))) := box ((hbw.setCell (Nat.le_refl _) _).setCell (Nat.le_refl _) _)
      clear hx ht hlo hhj hk h hX1 row1 row2 e1 ST HX
      go_wp2
      go_region_with (go_at_call 232; refine (LO.out _).mono ?_; rintro e w' ⟨rfl, rfl⟩)
      all_goals go_wp2
      all_goals go_region_with (go_at_call 230; refine (HJ.out _).mono ?_; rintro e w' ⟨rfl, rfl⟩)
      all_goals go_wp2
      all_goals exact ⟨⟨i + 1, _, by omega, by go_num, RS.out, BS.out.drew.drew, box rfl⟩, by simp [intOf]; omega⟩
    · obtain rfl : i = L := by omega
      have e := HX.out
      rw [Nat.mod_eq_of_lt h.1] at e
      subst e
      have dl : decide (i < i) = false := by rw [decide_eq_false_iff_not]; omega
      go_wp2
      go_ret
      exact ⟨g, rfl, by omega, r1, by rw [hg]; exact hbw⟩
end Go.Proofs.YtkmlbjlaahcahaaGreatDoor
