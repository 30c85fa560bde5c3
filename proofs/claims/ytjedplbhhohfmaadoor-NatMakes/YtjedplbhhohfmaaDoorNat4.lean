/-
  What the functions Len, Low, OfWide and ToWide of the document's answer for layer 5 return.
-/
import Derived.Test.YtjedplbhhohfmaaDoorNat3
import Derived.Test.YtjedplbhhohfmaaDoorRlow
import Derived.Test.YtjedplbhhohfmaaDoorRquot1
import Derived.Test.YtjedplbhhohfmaaDoorWide0
import Derived.Deep.RegionWith
namespace Go.Proofs.YtjedplbhhohfmaaDoor
open Go.RowKit WMath

theorem nat_Len_no (s : ByteArray) (hm : mayB s = false) (w : World) :
    Calls Tryd.prog 14 #[.string s] w fun r w' => r = .returned (.int .i64 0) ∧ w' = w := by
  go_enter Tryd.func14, Tryd.ntmps14
  go_wp2_with fail
  refine (nat_may s false hm _).mono ?_
  rintro r w' ⟨rfl, rfl⟩
  go_wp2
  go_ret
  exact ⟨rfl, rfl⟩

theorem blen_nl (n L x : Nat) (h : n ≠ 0) (hL : nl n = L) (hx : d8 n (L - 1) = x) : 8 * (L - 1) + blen x = blen n := by
  have hp := nl_pos n h
  have ht := nl_top n h
  have hl := nl_lt n
  rw [hL] at hp ht hl
  rw [hx] at ht
  obtain ⟨k, rfl⟩ : ∃ k, L = k + 1 := ⟨L - 1, by omega⟩
  rw [Nat.add_sub_cancel] at hx ⊢
  have e := mod_d8 n k
  rw [Nat.mod_eq_of_lt hl, hx] at e
  rw [e, blen_push _ _ _ (Nat.mod_lt _ (Nat.two_pow_pos _)) ht]

theorem nat_Len (n l : Nat) (s : ByteArray) (hs : nbA n = s) (h : nl n ≤ 16384) (hl : blen n = l) (w : World) :
    Calls Tryd.prog 14 #[.string s] w fun r w' => r = .returned (.int .i64 (l : Nat)) ∧ w' = w := by
  obtain ⟨L, hL⟩ : ∃ L, nl n = L := ⟨_, rfl⟩
  have hz : s.size = L := by rw [← hs, nbA_size, hL]
  have hm : mayB s = true := by rw [← hs]; exact mayB_nb n h
  have HM := box hm
  have d2 := eq_empty s
  rw [hL] at h
  by_cases h0 : n = 0
  · have e : l = 0 := by rw [← hl, h0]; rfl
    have e2 : L = 0 := by rw [← hL, h0]; exact nl_zero
    subst e
    rw [decide_eq_true (by omega)] at d2
    clear hs hl hL hm h0
    go_enter Tryd.func14, Tryd.ntmps14
    go_wp2_with fail
    refine (nat_may s true HM.out _).mono ?_
    rintro r w' ⟨rfl, rfl⟩
    go_wp2
    go_ret
    exact ⟨rfl, rfl⟩
  · have hp := nl_pos n h0
    rw [hL] at hp
    rw [decide_eq_false (by omega)] at d2
    have hp2 : 0 < s.size := by omega
    obtain ⟨x, hx⟩ : ∃ x, (s[0]'hp2).toNat = x := ⟨_, rfl⟩
    have hxd : d8 n (L - 1) = x := by
      rw [← hx]
      subst hs
      rw [nbA_get, hL]
      rfl
    have x256 : x < 256 := by rw [← hxd]; exact d8_lt _ _
    have hb := blen_nl n L x h0 hL hxd
    obtain ⟨y, hy⟩ : ∃ y, blen x = y := ⟨_, rfl⟩
    rw [hy, hl] at hb
    have y8 : y ≤ 8 := by rw [← hy]; exact blen_le_of x 8 (by rw [← two8]; exact x256)
    have HY := box hy
    have hi := idx_run s 0 0 x rfl hp2 hx
    have n1 : IntKind.i64.wrap ((L : Int) - 1) = (L : Int) - 1 := wrap_i64_is _ (by omega) (by omega)
    have n2 : IntKind.i64.wrap (8 * ((L : Int) - 1)) = 8 * ((L : Int) - 1) := wrap_i64_is _ (by omega) (by omega)
    have n3 : IntKind.i64.wrap (8 * ((L : Int) - 1) + (y : Int)) = (l : Int) := by rw [wrap_i64_is _ (by omega) (by omega)]; omega
    have n4 : IntKind.u64.wrap (x : Int) = (x : Int) := by rw [IntKind.wrap_u64]; omega
    have X64 : Box (x < 18446744073709551616) := box (by omega)
    clear hs hl hL hm h0 hxd hb hy hx
    go_enter Tryd.func14, Tryd.ntmps14
    go_wp2_with fail
    refine (nat_may s true HM.out _).mono ?_
    rintro r w' ⟨rfl, rfl⟩
    go_wp2_with fail
    refine (rlen_is x y X64.out HY.out _).mono ?_
    rintro r w' ⟨rfl, rfl⟩
    go_wp2
    go_ret
    exact ⟨rfl, rfl⟩

/-- t is the place of the lowest bit of n that is 1. -/
def LowB (n t : Nat) : Prop := n % 2 ^ t = 0 ∧ n.testBit t = true
theorem lowB_one (n s t : Nat) (h : LowB n s) (g : LowB n t) : s = t := by
  have hlt : ∀ a b, LowB n a → LowB n b → ¬ a < b := by
    intro a b ha hb hab
    have h1 := Nat.testBit_mod_two_pow n b a
    rw [hb.1, ha.2] at h1
    simp [hab] at h1
  have h1 := hlt s t h g
  have h2 := hlt t s g h
  omega
theorem lowB_ex : ∀ (k n : Nat), n ≠ 0 → n < 2 ^ k → ∃ t, t < k ∧ LowB n t
  | 0, n, h, hn => by rw [Nat.pow_zero] at hn; omega
  | k + 1, n, h, hn => by
    by_cases h2 : n % 2 = 0
    · obtain ⟨t, h3, h4, h5⟩ := lowB_ex k (n / 2) (by omega) (by rw [Nat.pow_succ] at hn; omega)
      refine ⟨t + 1, by omega, ?_, ?_⟩
      · rw [Nat.pow_succ, Nat.mul_comm, Nat.mod_mul, h2, h4]
      · rw [Nat.testBit_succ]; exact h5
    · exact ⟨0, by omega, by rw [Nat.pow_zero, Nat.mod_one], by rw [Nat.testBit_zero]; simp; omega⟩
theorem lowB_any (n : Nat) (h : n ≠ 0) : ∃ t, LowB n t := by
  obtain ⟨t, _, ht⟩ := lowB_ex _ n h (blen_lt n)
  exact ⟨t, ht⟩
theorem lowB_d8 (n i r : Nat) (h0 : n % 2 ^ (8 * i) = 0) (h : LowB (d8 n i) r) (hr : r < 8) : LowB n (8 * i + r) := by
  have hb := d8_bit n i r
  refine ⟨?_, ?_⟩
  · rw [Nat.pow_add, Nat.mod_mul, h0, Nat.zero_add]
    have h1 := h.1
    unfold d8 at h1
    rw [two8, Nat.mod_mod_of_dvd _ (Nat.pow_dvd_pow 2 (by omega : r ≤ 8))] at h1
    rw [h1, Nat.mul_zero]
  · rw [h.2, decide_eq_true hr, Bool.true_and] at hb
    exact hb.symm

/-- The place of the lowest bit, 0 of 0. -/
def LowN (n t : Nat) : Prop := (n = 0 ∧ t = 0) ∨ (n ≠ 0 ∧ LowB n t)
theorem lowN_any (n : Nat) : ∃ t, LowN n t := by
  by_cases h : n = 0
  · exact ⟨0, Or.inl ⟨h, rfl⟩⟩
  · obtain ⟨t, ht⟩ := lowB_any n h
    exact ⟨t, Or.inr ⟨h, ht⟩⟩

theorem nat_Low_no (s : ByteArray) (hm : mayB s = false) (w : World) :
    Calls Tryd.prog 16 #[.string s] w fun r w' => r = .returned (.int .i64 0) ∧ w' = w := by
  go_enter Tryd.func16, Tryd.ntmps16
  go_wp2_with fail
  refine (nat_may s false hm _).mono ?_
  rintro r w' ⟨rfl, rfl⟩
  go_wp2
  go_ret
  exact ⟨rfl, rfl⟩

theorem nat_Low (n t : Nat) (s : ByteArray) (hs : nbA n = s) (h : nl n ≤ 16384) (ht : LowN n t) (w : World) :
    Calls Tryd.prog 16 #[.string s] w fun r w' => r = .returned (.int .i64 (t : Nat)) ∧ w' = w := by
  obtain ⟨L, hL⟩ : ∃ L, nl n = L := ⟨_, rfl⟩
  have hz : s.size = L := by rw [← hs, nbA_size, hL]
  have hm : mayB s = true := by rw [← hs]; exact mayB_nb n h
  have HM := box hm
  rw [hL] at h
  have HS := box hs
  have HT := box ht
  have HL := box hL
  have NA : Box (nl n ≤ 100000) := box (by omega)
  clear hs hL hm ht
  go_enter Tryd.func16, Tryd.ntmps16
  go_wp2_with fail
  refine (nat_may s true HM.out _).mono ?_
  rintro r w' ⟨rfl, rfl⟩
  go_wp2
  go_loop [3] (fun iv => ∃ i : Nat, i ≤ L ∧ iv = .int .i64 i ∧ Box (n % 2 ^ (8 * i) = 0)) (fun iv => L - (intOf iv).toNat)
  case atStart => exact ⟨0, by omega, rfl, box (by rw [Nat.mul_zero, Nat.pow_zero, Nat.mod_one])⟩
  case round =>
    obtain ⟨i, hi, rfl, HE⟩ := hrel
    by_cases hlt : i < L
    · obtain ⟨x, hx⟩ : ∃ x, d8 n i = x := ⟨_, rfl⟩
      have x256 : x < 256 := by rw [← hx]; exact d8_lt _ _
      have dl : decide (i < L) = true := decide_eq_true hlt
      have HX := box hx
      by_cases h0 : x = 0
      · have y : ((x : Int) != 0) = false := by rw [h0]; rfl
        have NX : Box (n % 2 ^ (8 * (i + 1)) = 0) := box (by rw [mod_d8, HE.out, hx, h0, Nat.mul_zero])
        clear hx h0
        go_wp2_with fail
        refine (nat_at n i x s HS.out HX.out NA.out _).mono ?_
        rintro r w' ⟨rfl, rfl⟩
        go_wp2
        go_round
        case rel => exact ⟨i + 1, by omega, by go_num, NX⟩
        case measure => simp [intOf] <;> omega
      · have y : ((x : Int) != 0) = true := by simp; omega
        obtain ⟨r, hr8, hr⟩ := lowB_ex 8 x h0 (by rw [← two8]; exact x256)
        have LI : Box (LowIs x r) := box ⟨by omega, hr.1, hr.2⟩
        have e : 8 * i + r = t := by
          have h1 := lowB_d8 n i r HE.out (by rw [hx]; exact hr) hr8
          rcases HT.out with ⟨h2, h3⟩ | ⟨h2, h3⟩
          · exact absurd (show x = 0 by rw [← hx, h2, d8_zero]) h0
          · exact lowB_one n _ _ h1 h3
        have n2 : IntKind.i64.wrap (8 * (i : Int)) = 8 * (i : Int) := wrap_i64_is _ (by omega) (by omega)
        have n3 : IntKind.i64.wrap (8 * (i : Int) + (r : Int)) = (t : Int) := by rw [wrap_i64_is _ (by omega) (by omega)]; omega
        have n4 : IntKind.u64.wrap (x : Int) = (x : Int) := by rw [IntKind.wrap_u64]; omega
        have X64 : Box (x < 18446744073709551616) := box (by omega)
        clear hx hr e h0
        go_wp2_with fail
        refine (nat_at n i x s HS.out HX.out NA.out _).mono ?_
        rintro r w' ⟨rfl, rfl⟩
        go_wp2_with fail
        refine (nat_at n i x s HS.out HX.out NA.out _).mono ?_
        rintro r w' ⟨rfl, rfl⟩
        go_wp2_with fail
        refine (rlow_any x r X64.out LI.out _).mono ?_
        rintro r w' ⟨rfl, rfl⟩
        go_wp2
        go_ret
        exact ⟨rfl, rfl⟩
    · obtain rfl : i = L := by omega
      have e : t = 0 := by
        have h1 := HE.out
        rw [Nat.mod_eq_of_lt (by rw [← HL.out]; exact nl_lt n)] at h1
        rcases HT.out with ⟨h2, h3⟩ | ⟨h2, h3⟩
        · exact h3
        · exact absurd h1 h2
      subst e
      have dl : decide (i < i) = false := by rw [decide_eq_false_iff_not]; omega
      go_wp2
      go_ret
      exact ⟨rfl, rfl⟩

theorem d8_wd (n i q r : Nat) (hq : q = i / 8) (hr : r = 8 * (i % 8)) : wd n q / 2 ^ r % 256 = d8 n i := by
  rw [two8, field_num n q r 8 (8 * i) (by omega) (by omega)]
  unfold d8
  rw [two8]
theorem Q48 : ∃ L, L = 48 ∧ Q = 2 ^ (8 * L) := by
  obtain ⟨L, hL, hQ⟩ := Q_of
  exact ⟨8 * L, by omega, by rw [hQ]; congr 1; omega⟩

set_option maxHeartbeats 1000000 in
set_option maxRecDepth 100000 in
theorem nat_OfWide (n : Nat) (v : ByteArray) (hn : n < Q) (hv : nbA n = v) (w : World) :
    Calls Tryd.prog 12 #[.agg (cw 6 n)] w fun r w' => r = .returned (.string v) ∧ Below w.heap.size w w' := by
  obtain ⟨K, hK, hQ⟩ := Q48
  rw [hQ] at hn
  have hat := cw_at 6
  have hmk := c8_makeI K 48 (by omega) (by omega)
  have HV := box hv
  have HN := box hn
  have k1 : K ≤ 48 := by omega
  have k2 : 48 ≤ K := by omega
  clear hv hn hQ hK
  go_enter Tryd.func12, Tryd.ntmps12
  go_wp2
  clear hmk
  go_loopw [4] (fun iv wr => ∃ i : Nat, i ≤ K ∧ iv = .int .i64 i ∧ wr.heap[w.heap.size]? = some (.cells (cw 6 n) 24) ∧ wr.heap[w.heap.size + 1]? = some (.cells (c8 K (n % 2 ^ (8 * i))) 5) ∧ Below w.heap.size w wr) (fun iv _ => K - (intOf iv).toNat)
  case atStart =>
    refine ⟨0, by omega, rfl, ?_, ?_, ((Below.refl _ _).alloc (Nat.le_refl _) _).alloc (by simp) _⟩
    · rw [heap_below _ _ _ (by simp)]; exact heap_alloc_last _ _
    · rw [Nat.mul_zero, Nat.pow_zero, Nat.mod_one, ← size_al w (.cells (cw 6 n) 24)]; exact heap_alloc_last _ _
  case round =>
    obtain ⟨i, hi, rfl, r0, r1, hbw⟩ := hrel
    by_cases hlt : i < K
    · obtain ⟨q, hq⟩ : ∃ q, q = i / 8 := ⟨_, rfl⟩
      obtain ⟨r, hr⟩ : ∃ r, r = 8 * (i % 8) := ⟨_, rfl⟩
      obtain ⟨z, hz⟩ : ∃ z, d8 n i = z := ⟨_, rfl⟩
      have z256 : z < 256 := by rw [← hz]; exact d8_lt n i
      have q1 : (i : Int) / 8 = (q : Int) := by omega
      have r1' : 8 * ((i : Int) % 8) = (r : Int) := by omega
      have q6 : q < 6 := by omega
      have r64 : r < 64 := by omega
      have n4 : IntKind.u8.wrap ((wd n q : Int) / 2 ^ r) = (z : Int) := by
        rw [div_cast]
        exact wrap_u8_is _ z (by rw [← hz]; exact d8_wd n i q r hq hr)
      have c0 := row_cell r0 q q6
      have c1 := c8_cell r1 hlt
      have f0 := fz (k := i) r1
      have RS : Box ((wr.setCell ⟨w.heap.size + 1, i, none⟩ (.int .u8 (z : Int))).heap[w.heap.size + 1]? = some (.cells (c8 K (n % 2 ^ (8 * (i + 1)))) 5)) := box (by rw [setCell_row r1, c8_push K _ i z _ hlt (Nat.mod_lt _ (Nat.two_pow_pos _)) z256 rfl, mod_d8, hz])
      have dl : decide ((i : Int) < 48) = true := by rw [decide_eq_true_iff]; omega
      clear hr hz hq
      go_wp2
      go_roundw
      case rel => exact ⟨i + 1, by omega, by go_num, (setCell_other (w := wr) (by omega)).trans r0, RS.out, hbw.setCell (by show w.heap.size ≤ w.heap.size + 1; omega) _⟩
      case measure => simp [intOf] <;> omega
    · obtain rfl : i = K := by omega
      rw [Nat.mod_eq_of_lt HN.out] at r1
      have dl : decide ((i : Int) < 48) = false := by rw [decide_eq_false_iff_not]; omega
      go_wp2_with fail
      refine (nat_fit i n (w.heap.size + 1) i v (by omega) HN.out HV.out _ r1).mono ?_
      rintro e w' ⟨rfl, hb2⟩
      go_wp2
      go_ret
      exact ⟨rfl, hbw.trans (hb2.mono hbw.size)⟩

theorem toWide_step (n i q r x : Nat) (hq : q = i / 8) (hr : r = 8 * (i % 8)) (hx : d8 n i = x) : n % 2 ^ (8 * i) ||| x * 2 ^ r * 2 ^ (64 * q) = n % 2 ^ (8 * (i + 1)) := by
  rw [Nat.mul_assoc, ← Nat.pow_add, show r + 64 * q = 8 * i by omega, mod_d8, hx, Nat.mul_comm (2 ^ (8 * i)) x]
  exact (or_disj _ _ _ (Nat.mod_lt _ (Nat.two_pow_pos _))).symm

theorem trows2 (w : World) : RowsL w ((w.alloc (.cells (cw 6 0) 24)).alloc (.cells (cw 6 0) 24)) [0, 0] := rowsL_new (rowsL_new (rowsL_nil w) rfl 0) (by simp) 0

theorem nat_ToWide_no (s : ByteArray) (h : mayB s = false ∨ 48 < s.size) (w : World) :
    Calls Tryd.prog 6 #[.string s] w fun r w' => r = .returned (.tuple #[.agg (cw 6 0), .bool false]) ∧ Below w.heap.size w w' := by
  have hat := cw_at 6
  have hz := cw6z
  have hf := cw6f
  have hs0 := st0
  have hs1 := st1
  have hcs : ∀ x, ((cw 6 x).size = 6) = True := fun x => eq_true (cw_size 6 x)
  obtain ⟨o, ho⟩ : ∃ o, mayB s = o := ⟨_, rfl⟩
  have HO := box ho
  have hh : o = false ∨ (o = true ∧ decide ((48 : Int) < (s.size : Int)) = true) := by
    rw [← ho, decide_eq_true_iff]
    rcases h with h | h
    · exact Or.inl h
    · cases mayB s
      · exact Or.inl rfl
      · exact Or.inr ⟨rfl, by omega⟩
  clear h ho
  rcases hh with rfl | ⟨rfl, h1⟩
  all_goals
    go_enter Tryd.func6, Tryd.ntmps6
    go_wp2_with fail
    refine (nat_may s _ HO.out _).mono ?_
    rintro r w' ⟨rfl, rfl⟩
    have R := trows2 w
    go_wp2
    exact bodyPost_ret (v := .tuple #[.agg (cw 6 0), .bool false]) (by simp [results, Tryd.results6, go_sem, hat, hf]) rfl ⟨rfl, R.2⟩

set_option maxHeartbeats 2000000 in
set_option maxRecDepth 100000 in
theorem nat_ToWide (n : Nat) (s : ByteArray) (hs : nbA n = s) (h : nl n ≤ 48) (w : World) :
    Calls Tryd.prog 6 #[.string s] w fun r w' => r = .returned (.tuple #[.agg (cw 6 n), .bool true]) ∧ Below w.heap.size w w' := by
  have hat := cw_at 6
  have hz := cw6z
  have hf := cw6f
  have hs0 := st0
  have hcs : ∀ x, ((cw 6 x).size = 6) = True := fun x => eq_true (cw_size 6 x)
  obtain ⟨L, hL⟩ : ∃ L, nl n = L := ⟨_, rfl⟩
  have hsz : s.size = L := by rw [← hs, nbA_size, hL]
  have hm : mayB s = true := by rw [← hs]; exact mayB_nb n (by omega)
  have HM := box hm
  have ln := nl_lt n
  rw [hL] at h ln
  have HS := box hs
  have HN := box ln
  have NA : Box (nl n ≤ 100000) := box (by omega)
  have d1 : decide ((48 : Int) < (L : Int)) = false := by rw [decide_eq_false_iff_not]; omega
  clear hs hL hm ln
  go_enter Tryd.func6, Tryd.ntmps6
  go_wp2_with fail
  refine (nat_may s true HM.out _).mono ?_
  rintro r w' ⟨rfl, hw'⟩
  have R0 := trows2 w
  rw [← hw'] at R0
  clear hw'
  go_wp2
  go_loopw [5] (fun iv wr => ∃ i : Nat, i ≤ L ∧ iv = .int .i64 i ∧ RowsL w wr [0, n % 2 ^ (8 * i)]) (fun iv _ => L - (intOf iv).toNat)
  case atStart => exact ⟨0, by omega, rfl, by rw [Nat.mul_zero, Nat.pow_zero, Nat.mod_one]; exact R0⟩
  case round =>
    clear R0
    obtain ⟨i, hi, rfl, R⟩ := hrel
    by_cases hlt : i < L
    · obtain ⟨q, hq⟩ : ∃ q, q = i / 8 := ⟨_, rfl⟩
      obtain ⟨r, hr⟩ : ∃ r, r = 8 * (i % 8) := ⟨_, rfl⟩
      obtain ⟨x, hx⟩ : ∃ x, d8 n i = x := ⟨_, rfl⟩
      have x256 : x < 256 := by rw [← hx]; exact d8_lt n i
      have q1 : (i : Int) / 8 = (q : Int) := by omega
      obtain ⟨r0, hr0⟩ : ∃ r0, i % 8 = r0 := ⟨_, rfl⟩
      have tm : (i : Int).tmod 8 = (r0 : Int) := by rw [Int.tmod_eq_emod_of_nonneg (by omega)]; omega
      have w1 : IntKind.i64.wrap (q : Int) = (q : Int) := wrap_i64_is _ (by omega) (by omega)
      have w2 : IntKind.i64.wrap (8 * (r0 : Int)) = (r : Int) := by rw [wrap_i64_is _ (by omega) (by omega)]; omega
      have w3 : IntKind.u64.wrap (r : Int) = (r : Int) := by rw [IntKind.wrap_u64]; omega
      have q6 : q < 6 := by omega
      have r64 : r < 64 := by omega
      have qi6 : (q : Int) < 6 := by omega
      have HST := box (toWide_step n i q r x hq hr hx)
      obtain ⟨y, hy⟩ : ∃ y, x * 2 ^ r = y := ⟨_, rfl⟩
      have y64 : y < 18446744073709551616 := by
        rw [← hy]
        have h1 : x * 2 ^ r < 256 * 2 ^ r := Nat.mul_lt_mul_of_pos_right x256 (Nat.two_pow_pos r)
        have h2 : 2 ^ r ≤ 2 ^ 56 := Nat.pow_le_pow_right (by decide) (by omega)
        have h3 : 256 * 2 ^ r ≤ 256 * 2 ^ 56 := Nat.mul_le_mul_left _ h2
        have h4 : 256 * 2 ^ 56 = 18446744073709551616 := by decide
        omega
      have n4 : IntKind.u64.wrap (x : Int) = (x : Int) := by rw [IntKind.wrap_u64]; omega
      have n5 : IntKind.u64.wrap ((x : Int) * 2 ^ r) = (y : Int) := by
        rw [pow_cast, ← Int.natCast_mul, hy]
        exact wrap_nat y y64
      rw [hy] at HST
      obtain ⟨X, hX⟩ : ∃ X, n % 2 ^ (8 * i) = X := ⟨_, rfl⟩
      obtain ⟨Y, hY⟩ : ∃ Y, n % 2 ^ (8 * (i + 1)) = Y := ⟨_, rfl⟩
      rw [hX] at R
      rw [hX, hY] at HST
      have x3 := bor X q y y64
      have x4 := cw_or 6 X q y Y q6 y64 HST.out.symm
      have R2 : RowsL w (wr.setCell ⟨w.heap.size + 1, q, none⟩ (.int .u64 ((wd X q ||| y : Nat) : Int))) [0, Y] := rowsL_setCell R 1 X Y _ q _ rfl rfl x4 rfl
      have HY := box hY
      have HX := box hx
      have c1 := row_cell (rows1 R) q q6
      have f0 := fz (k := q) (rows1 R)
      have dl : decide (i < L) = true := decide_eq_true hlt
      clear hr hx hq hy hX hY HST x4 hr0
      go_wp2
      go_region_with (go_at_call 25; refine (nat_at n i x s HS.out HX.out NA.out _).mono ?_; rintro r w' ⟨rfl, rfl⟩)
      all_goals go_wp2
      all_goals go_roundw
      all_goals first | (show (_ : Nat) < _; simp [intOf]; omega) | exact ⟨i + 1, by omega, by go_num, by rw [HY.out]; exact rowsL_drew R2 1⟩
    · obtain rfl : i = L := by omega
      have dl : decide (i < i) = false := by rw [decide_eq_false_iff_not]; omega
      rw [Nat.mod_eq_of_lt HN.out] at R
      have hst := st_any wr w.heap.size n 0 (rows0 R)
      have c1 := row_cell (rows1 R)
      have R2 : RowsL w (wr.setRow w.heap.size (cw 6 n)) [n, n] := rowsL_set R 0 n _ (by simp) rfl rfl
      have c2 := row_cell (rows0 R2)
      go_wp2
      exact bodyPost_ret (v := .tuple #[.agg (cw 6 n), .bool true]) (by simp [results, Tryd.results6, go_sem, c2, hf]) rfl ⟨rfl, R2.2⟩
end Go.Proofs.YtjedplbhhohfmaaDoor
