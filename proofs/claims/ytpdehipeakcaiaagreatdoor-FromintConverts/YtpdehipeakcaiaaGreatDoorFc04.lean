/-
  What the functions that the statement reaches return: part 4 (Nat3, Nat4, Nat5, Nat6, Nat7, Nat8, List0, List2, List6, Door1, Dmath).
-/
import Derived.Deep.RegionWith
import Derived.Test.YtpdehipeakcaiaaGreatDoorFc03
namespace Go.Proofs.YtpdehipeakcaiaaGreatDoor
set_option maxRecDepth 100000
set_option maxHeartbeats 40000000
set_option maxRecDepth 100000
open Go.RowKit WMath
def lg (x : Nat) : ByteArray × Int := if nl x ≤ 16384 then (nbA x, 0) else (⟨#[]⟩, 4)
def sb (a b : Nat) : ByteArray × Int := if a < b then (⟨#[]⟩, 2) else (nbA (a - b), 0)

theorem nat_long (x : Nat) (s v : ByteArray) (e : Int) (hs : nbA x = s) (hr : lg x = (v, e)) (w : World) :
    Calls Tryz.prog 129 #[.string s] w fun r w' => r = .returned (.tuple #[.string v, .int .i64 e]) ∧ w' = w := by
  have hz : s.size = nl x := by rw [← hs, nbA_size]
  unfold lg at hr
  by_cases h : nl x ≤ 16384
  · rw [if_pos h] at hr
    injection hr with h1 h2
    subst h2
    rw [← h1, hs]
    exact nat_long_ok s (by omega) w
  · rw [if_neg h] at hr
    injection hr with h1 h2
    subst h2 h1
    exact nat_long_no s (by omega) w

theorem nat_Add (a b : Nat) (s t v : ByteArray) (e : Int) (hs : nbA a = s) (ht : nbA b = t) (hr : lg (a + b) = (v, e)) (ha : nl a ≤ 20000) (hb : nl b ≤ 20000) (w : World) :
    Calls Tryz.prog 111 #[.string s, .string t] w fun r w' => r = .returned (.tuple #[.string v, .int .i64 e]) ∧ Below w.heap.size w w' := by
  obtain ⟨u, hu⟩ : ∃ u, nbA (a + b) = u := ⟨_, rfl⟩
  have HU := box hu
  have HR := box hr
  clear hu hr
  go_enter Tryz.func111, Tryz.ntmps111
  go_wp2_with fail
  refine (nat_add a b s t u hs ht HU.out ha hb _).mono ?_
  rintro r w1 ⟨rfl, hb1⟩
  go_wp2_with fail
  refine (nat_long (a + b) u v e HU.out HR.out _).mono ?_
  rintro r w' ⟨rfl, rfl⟩
  go_wp2
  go_ret2
  exact ⟨rfl, hb1⟩

set_option maxHeartbeats 1000000 in
theorem nat_Of (x : Nat) (v : ByteArray) (hx : x < 18446744073709551616) (hv : nbA x = v) (w : World) :
    Calls Tryz.prog 14 #[.int .u64 (x : Nat)] w fun r w' => r = .returned (.string v) ∧ Below w.heap.size w w' := by
  have hmk := c8_makeI 8 8 rfl (by decide)
  have HV := box hv
  have HX : Box (x < 2 ^ (8 * 8)) := box hx
  clear hv
  go_enter Tryz.func14, Tryz.ntmps14
  go_wp2
  clear hmk
  go_loopw [4] (fun iv wr => ∃ i : Nat, i ≤ 8 ∧ iv = .int .i64 i ∧ wr.heap[w.heap.size]? = some (.cells (c8 8 (x % 2 ^ (8 * i))) 5) ∧ Below w.heap.size w wr) (fun iv _ => 8 - (intOf iv).toNat)
  case atStart => exact ⟨0, by omega, rfl, by rw [Nat.mul_zero, Nat.pow_zero, Nat.mod_one]; exact heap_alloc_last _ _, (Below.refl _ _).alloc (Nat.le_refl _) _⟩
  case round =>
    obtain ⟨i, hi, rfl, r0, hbw⟩ := hrel
    by_cases hlt : i < 8
    · obtain ⟨r, hr⟩ : ∃ r, 8 * i = r := ⟨_, rfl⟩
      obtain ⟨z, hz⟩ : ∃ z, d8 x i = z := ⟨_, rfl⟩
      have z256 : z < 256 := by rw [← hz]; exact d8_lt x i
      have e1 : IntKind.i64.wrap (8 * (i : Int)) = (r : Int) := by rw [wrap_i64_is _ (by omega) (by omega)]; omega
      have n4 : IntKind.u8.wrap ((x : Int) / 2 ^ r) = (z : Int) := by
        rw [div_cast]
        exact wrap_u8_is _ z (by rw [← hr]; exact hz)
      have c1 := c8_cell r0 hlt
      have f0 := fz (k := i) r0
      have RS : Box ((wr.setCell ⟨w.heap.size, i, none⟩ (.int .u8 (z : Int))).heap[w.heap.size]? = some (.cells (c8 8 (x % 2 ^ (8 * (i + 1)))) 5)) := box (by rw [setCell_row r0, c8_push 8 _ i z _ hlt (Nat.mod_lt _ (Nat.two_pow_pos _)) z256 rfl, mod_d8, hz])
      have r64 : r < 64 := by omega
      clear hr hz
      go_wp2
      go_roundw
      case rel => exact ⟨i + 1, by omega, by go_num, RS.out, hbw.setCell (Nat.le_refl _) _⟩
      case measure => simp [intOf] <;> omega
    · obtain rfl : i = 8 := by omega
      rw [Nat.mod_eq_of_lt HX.out] at r0
      go_wp2_with fail
      refine (nat_fit 8 x w.heap.size 8 v (by decide) HX.out HV.out _ r0).mono ?_
      rintro e w' ⟨rfl, hb2⟩
      go_wp2
      go_ret
      exact ⟨rfl, hbw.trans (hb2.mono hbw.size)⟩
theorem blen_nl (n L x : Nat) (h : n ≠ 0) (hL : nl n = L) (hx : d8 n (L - 1) = x) : 8 * (L - 1) + blen x = blen n := by
  have hp := nl_pos n h
  have ht := nl_top n h
  have hl := nl_lt n
  rw [hL] at hp ht hl
  rw [hx] at ht
  obtain ⟨k, rfl⟩ : ∃ k, L = k + 1 := ⟨L - 1, by omega⟩
  rw [Nat.add_sub_cancel] at hx ⊢
  have e := mod_d8 n k
  rw [Nat.mod_eq_of_lt hl, hx] at e
  rw [e, blen_push _ _ _ (Nat.mod_lt _ (Nat.two_pow_pos _)) ht]

theorem nat_Len (n l : Nat) (s : ByteArray) (hs : nbA n = s) (h : nl n ≤ 16384) (hl : blen n = l) (w : World) :
    Calls Tryz.prog 69 #[.string s] w fun r w' => r = .returned (.int .i64 (l : Nat)) ∧ w' = w := by
  obtain ⟨L, hL⟩ : ∃ L, nl n = L := ⟨_, rfl⟩
  have hz : s.size = L := by rw [← hs, nbA_size, hL]
  have hm : mayB s = true := by rw [← hs]; exact mayB_nb n h
  have HM := box hm
  have d2 := eq_empty s
  rw [hL] at h
  by_cases h0 : n = 0
  · have e : l = 0 := by rw [← hl, h0]; rfl
    have e2 : L = 0 := by rw [← hL, h0]; exact nl_zero
    subst e
    rw [decide_eq_true (by omega)] at d2
    clear hs hl hL hm h0
    go_enter Tryz.func69, Tryz.ntmps69
    go_wp2_with fail
    refine (nat_may s true HM.out _).mono ?_
    rintro r w' ⟨rfl, rfl⟩
    go_wp2
    go_ret
    exact ⟨rfl, rfl⟩
  · have hp := nl_pos n h0
    rw [hL] at hp
    rw [decide_eq_false (by omega)] at d2
    have hp2 : 0 < s.size := by omega
    obtain ⟨x, hx⟩ : ∃ x, (s[0]'hp2).toNat = x := ⟨_, rfl⟩
    have hxd : d8 n (L - 1) = x := by
      rw [← hx]
      subst hs
      rw [nbA_get, hL]
      rfl
    have x256 : x < 256 := by rw [← hxd]; exact d8_lt _ _
    have hb := blen_nl n L x h0 hL hxd
    obtain ⟨y, hy⟩ : ∃ y, blen x = y := ⟨_, rfl⟩
    rw [hy, hl] at hb
    have y8 : y ≤ 8 := by rw [← hy]; exact blen_le_of x 8 (by rw [← two8]; exact x256)
    have HY := box hy
    have hi := idx_run s 0 0 x rfl hp2 hx
    have n1 : IntKind.i64.wrap ((L : Int) - 1) = (L : Int) - 1 := wrap_i64_is _ (by omega) (by omega)
    have n2 : IntKind.i64.wrap (8 * ((L : Int) - 1)) = 8 * ((L : Int) - 1) := wrap_i64_is _ (by omega) (by omega)
    have n3 : IntKind.i64.wrap (8 * ((L : Int) - 1) + (y : Int)) = (l : Int) := by rw [wrap_i64_is _ (by omega) (by omega)]; omega
    have n4 : IntKind.u64.wrap (x : Int) = (x : Int) := by rw [IntKind.wrap_u64]; omega
    have X64 : Box (x < 18446744073709551616) := box (by omega)
    clear hs hl hL hm h0 hxd hb hy hx
    go_enter Tryz.func69, Tryz.ntmps69
    go_wp2_with fail
    refine (nat_may s true HM.out _).mono ?_
    rintro r w' ⟨rfl, rfl⟩
    go_wp2_with fail
    refine (rlen_is x y X64.out HY.out _).mono ?_
    rintro r w' ⟨rfl, rfl⟩
    go_wp2
    go_ret
    exact ⟨rfl, rfl⟩

def LowB (n t : Nat) : Prop := n % 2 ^ t = 0 ∧ n.testBit t = true
theorem lowB_one (n s t : Nat) (h : LowB n s) (g : LowB n t) : s = t := by
  have hlt : ∀ a b, LowB n a → LowB n b → ¬ a < b := by
    intro a b ha hb hab
    have h1 := Nat.testBit_mod_two_pow n b a
    rw [hb.1, ha.2] at h1
    simp [hab] at h1
  have h1 := hlt s t h g
  have h2 := hlt t s g h
  omega
theorem lowB_ex : ∀ (k n : Nat), n ≠ 0 → n < 2 ^ k → ∃ t, t < k ∧ LowB n t
  | 0, n, h, hn => by rw [Nat.pow_zero] at hn; omega
  | k + 1, n, h, hn => by
    by_cases h2 : n % 2 = 0
    · obtain ⟨t, h3, h4, h5⟩ := lowB_ex k (n / 2) (by omega) (by rw [Nat.pow_succ] at hn; omega)
      refine ⟨t + 1, by omega, ?_, ?_⟩
      · rw [Nat.pow_succ, Nat.mul_comm, Nat.mod_mul, h2, h4]
      · rw [Nat.testBit_succ]; exact h5
    · exact ⟨0, by omega, by rw [Nat.pow_zero, Nat.mod_one], by rw [Nat.testBit_zero]; simp; omega⟩
theorem lowB_any (n : Nat) (h : n ≠ 0) : ∃ t, LowB n t := by
  obtain ⟨t, _, ht⟩ := lowB_ex _ n h (blen_lt n)
  exact ⟨t, ht⟩
theorem lowB_d8 (n i r : Nat) (h0 : n % 2 ^ (8 * i) = 0) (h : LowB (d8 n i) r) (hr : r < 8) : LowB n (8 * i + r) := by
  have hb := d8_bit n i r
  refine ⟨?_, ?_⟩
  · rw [Nat.pow_add, Nat.mod_mul, h0, Nat.zero_add]
    have h1 := h.1
    unfold d8 at h1
    rw [two8, Nat.mod_mod_of_dvd _ (Nat.pow_dvd_pow 2 (by omega : r ≤ 8))] at h1
    rw [h1, Nat.mul_zero]
  · rw [h.2, decide_eq_true hr, Bool.true_and] at hb
    exact hb.symm

def LowN (n t : Nat) : Prop := (n = 0 ∧ t = 0) ∨ (n ≠ 0 ∧ LowB n t)
theorem nat_Low (n t : Nat) (s : ByteArray) (hs : nbA n = s) (h : nl n ≤ 16384) (ht : LowN n t) (w : World) :
    Calls Tryz.prog 34 #[.string s] w fun r w' => r = .returned (.int .i64 (t : Nat)) ∧ w' = w := by
  obtain ⟨L, hL⟩ : ∃ L, nl n = L := ⟨_, rfl⟩
  have hz : s.size = L := by rw [← hs, nbA_size, hL]
  have hm : mayB s = true := by rw [← hs]; exact mayB_nb n h
  have HM := box hm
  rw [hL] at h
  have HS := box hs
  have HT := box ht
  have HL := box hL
  have NA : Box (nl n ≤ 100000) := box (by omega)
  clear hs hL hm ht
  go_enter Tryz.func34, Tryz.ntmps34
  go_wp2_with fail
  refine (nat_may s true HM.out _).mono ?_
  rintro r w' ⟨rfl, rfl⟩
  go_wp2
  go_loop [3] (fun iv => ∃ i : Nat, i ≤ L ∧ iv = .int .i64 i ∧ Box (n % 2 ^ (8 * i) = 0)) (fun iv => L - (intOf iv).toNat)
  case atStart => exact ⟨0, by omega, rfl, box (by rw [Nat.mul_zero, Nat.pow_zero, Nat.mod_one])⟩
  case round =>
    obtain ⟨i, hi, rfl, HE⟩ := hrel
    by_cases hlt : i < L
    · obtain ⟨x, hx⟩ : ∃ x, d8 n i = x := ⟨_, rfl⟩
      have x256 : x < 256 := by rw [← hx]; exact d8_lt _ _
      have dl : decide (i < L) = true := decide_eq_true hlt
      have HX := box hx
      by_cases h0 : x = 0
      · have y : ((x : Int) != 0) = false := by rw [h0]; rfl
        have NX : Box (n % 2 ^ (8 * (i + 1)) = 0) := box (by rw [mod_d8, HE.out, hx, h0, Nat.mul_zero])
        clear hx h0
        go_wp2_with fail
        refine (nat_at n i x s HS.out HX.out NA.out _).mono ?_
        rintro r w' ⟨rfl, rfl⟩
        go_wp2
        go_round
        case rel => exact ⟨i + 1, by omega, by go_num, NX⟩
        case measure => simp [intOf] <;> omega
      · have y : ((x : Int) != 0) = true := by simp; omega
        obtain ⟨r, hr8, hr⟩ := lowB_ex 8 x h0 (by rw [← two8]; exact x256)
        have LI : Box (LowIs x r) := box ⟨by omega, hr.1, hr.2⟩
        have e : 8 * i + r = t := by
          have h1 := lowB_d8 n i r HE.out (by rw [hx]; exact hr) hr8
          rcases HT.out with ⟨h2, h3⟩ | ⟨h2, h3⟩
          · exact absurd (show x = 0 by rw [← hx, h2, d8_zero]) h0
          · exact lowB_one n _ _ h1 h3
        have n2 : IntKind.i64.wrap (8 * (i : Int)) = 8 * (i : Int) := wrap_i64_is _ (by omega) (by omega)
        have n3 : IntKind.i64.wrap (8 * (i : Int) + (r : Int)) = (t : Int) := by rw [wrap_i64_is _ (by omega) (by omega)]; omega
        have n4 : IntKind.u64.wrap (x : Int) = (x : Int) := by rw [IntKind.wrap_u64]; omega
        have X64 : Box (x < 18446744073709551616) := box (by omega)
        clear hx hr e h0
        go_wp2_with fail
        refine (nat_at n i x s HS.out HX.out NA.out _).mono ?_
        rintro r w' ⟨rfl, rfl⟩
        go_wp2_with fail
        refine (nat_at n i x s HS.out HX.out NA.out _).mono ?_
        rintro r w' ⟨rfl, rfl⟩
        go_wp2_with fail
        refine (rlow_any x r X64.out LI.out _).mono ?_
        rintro r w' ⟨rfl, rfl⟩
        go_wp2
        go_ret
        exact ⟨rfl, rfl⟩
    · obtain rfl : i = L := by omega
      have e : t = 0 := by
        have h1 := HE.out
        rw [Nat.mod_eq_of_lt (by rw [← HL.out]; exact nl_lt n)] at h1
        rcases HT.out with ⟨h2, h3⟩ | ⟨h2, h3⟩
        · exact h3
        · exact absurd h1 h2
      subst e
      have dl : decide (i < i) = false := by rw [decide_eq_false_iff_not]; omega
      go_wp2
      go_ret
      exact ⟨rfl, rfl⟩

theorem toWide_step (n i q r x : Nat) (hq : q = i / 8) (hr : r = 8 * (i % 8)) (hx : d8 n i = x) : n % 2 ^ (8 * i) ||| x * 2 ^ r * 2 ^ (64 * q) = n % 2 ^ (8 * (i + 1)) := by
  rw [Nat.mul_assoc, ← Nat.pow_add, show r + 64 * q = 8 * i by omega, mod_d8, hx, Nat.mul_comm (2 ^ (8 * i)) x]
  exact (or_disj _ _ _ (Nat.mod_lt _ (Nat.two_pow_pos _))).symm

theorem trows2 (w : World) : RowsL w ((w.alloc (.cells (cw 6 0) 42)).alloc (.cells (cw 6 0) 42)) [0, 0] := rowsL_new (rowsL_new (rowsL_nil w) rfl 0) (by simp) 0

set_option maxHeartbeats 2000000 in
set_option maxRecDepth 100000 in
theorem nat_ToWide (n : Nat) (s : ByteArray) (hs : nbA n = s) (h : nl n ≤ 48) (w : World) :
    Calls Tryz.prog 113 #[.string s] w fun r w' => r = .returned (.tuple #[.agg (cw 6 n), .bool true]) ∧ Below w.heap.size w w' := by
  have hat := cw_at 6
  have hz := cw6z
  have hf := cw6f
  have hs0 := st0
  have hcs : ∀ x, ((cw 6 x).size = 6) = True := fun x => eq_true (cw_size 6 x)
  obtain ⟨L, hL⟩ : ∃ L, nl n = L := ⟨_, rfl⟩
  have hsz : s.size = L := by rw [← hs, nbA_size, hL]
  have hm : mayB s = true := by rw [← hs]; exact mayB_nb n (by omega)
  have HM := box hm
  have ln := nl_lt n
  rw [hL] at h ln
  have HS := box hs
  have HN := box ln
  have NA : Box (nl n ≤ 100000) := box (by omega)
  have d1 : decide ((48 : Int) < (L : Int)) = false := by rw [decide_eq_false_iff_not]; omega
  clear hs hL hm ln
  go_enter Tryz.func113, Tryz.ntmps113
  go_wp2_with fail
  refine (nat_may s true HM.out _).mono ?_
  rintro r w' ⟨rfl, hw'⟩
  have R0 := trows2 w
  rw [← hw'] at R0
  clear hw'
  go_wp2
  go_loopw [5] (fun iv wr => ∃ i : Nat, i ≤ L ∧ iv = .int .i64 i ∧ RowsL w wr [0, n % 2 ^ (8 * i)]) (fun iv _ => L - (intOf iv).toNat)
  case atStart => exact ⟨0, by omega, rfl, by rw [Nat.mul_zero, Nat.pow_zero, Nat.mod_one]; exact R0⟩
  case round =>
    clear R0
    obtain ⟨i, hi, rfl, R⟩ := hrel
    by_cases hlt : i < L
    · obtain ⟨q, hq⟩ : ∃ q, q = i / 8 := ⟨_, rfl⟩
      obtain ⟨r, hr⟩ : ∃ r, r = 8 * (i % 8) := ⟨_, rfl⟩
      obtain ⟨x, hx⟩ : ∃ x, d8 n i = x := ⟨_, rfl⟩
      have x256 : x < 256 := by rw [← hx]; exact d8_lt n i
      have q1 : (i : Int) / 8 = (q : Int) := by omega
      obtain ⟨r0, hr0⟩ : ∃ r0, i % 8 = r0 := ⟨_, rfl⟩
      have tm : (i : Int).tmod 8 = (r0 : Int) := by rw [Int.tmod_eq_emod_of_nonneg (by omega)]; omega
      have w1 : IntKind.i64.wrap (q : Int) = (q : Int) := wrap_i64_is _ (by omega) (by omega)
      have w2 : IntKind.i64.wrap (8 * (r0 : Int)) = (r : Int) := by rw [wrap_i64_is _ (by omega) (by omega)]; omega
      have w3 : IntKind.u64.wrap (r : Int) = (r : Int) := by rw [IntKind.wrap_u64]; omega
      have q6 : q < 6 := by omega
      have r64 : r < 64 := by omega
      have qi6 : (q : Int) < 6 := by omega
      have HST := box (toWide_step n i q r x hq hr hx)
      obtain ⟨y, hy⟩ : ∃ y, x * 2 ^ r = y := ⟨_, rfl⟩
      have y64 : y < 18446744073709551616 := by
        rw [← hy]
        have h1 : x * 2 ^ r < 256 * 2 ^ r := Nat.mul_lt_mul_of_pos_right x256 (Nat.two_pow_pos r)
        have h2 : 2 ^ r ≤ 2 ^ 56 := Nat.pow_le_pow_right (by decide) (by omega)
        have h3 : 256 * 2 ^ r ≤ 256 * 2 ^ 56 := Nat.mul_le_mul_left _ h2
        have h4 : 256 * 2 ^ 56 = 18446744073709551616 := by decide
        omega
      have n4 : IntKind.u64.wrap (x : Int) = (x : Int) := by rw [IntKind.wrap_u64]; omega
      have n5 : IntKind.u64.wrap ((x : Int) * 2 ^ r) = (y : Int) := by
        rw [pow_cast, ← Int.natCast_mul, hy]
        exact wrap_nat y y64
      rw [hy] at HST
      obtain ⟨X, hX⟩ : ∃ X, n % 2 ^ (8 * i) = X := ⟨_, rfl⟩
      obtain ⟨Y, hY⟩ : ∃ Y, n % 2 ^ (8 * (i + 1)) = Y := ⟨_, rfl⟩
      rw [hX] at R
      rw [hX, hY] at HST
      have x3 := bor X q y y64
      have x4 := cw_or 6 X q y Y q6 y64 HST.out.symm
      have R2 : RowsL w (wr.setCell ⟨w.heap.size + 1, q, none⟩ (.int .u64 ((wd X q ||| y : Nat) : Int))) [0, Y] := rowsL_setCell R 1 X Y _ q _ rfl rfl x4 rfl
      have HY := box hY
      have HX := box hx
      have c1 := row_cell (rows1 R) q q6
      have f0 := fz (k := q) (rows1 R)
      have dl : decide (i < L) = true := decide_eq_true hlt
      clear hr hx hq hy hX hY HST x4 hr0
      go_wp2
      go_region_with (go_at_call 66; refine (nat_at n i x s HS.out HX.out NA.out _).mono ?_; rintro r w' ⟨rfl, rfl⟩)
      all_goals go_wp2
      all_goals go_roundw
      all_goals first | (show (_ : Nat) < _; simp [intOf]; omega) | exact ⟨i + 1, by omega, by go_num, by rw [HY.out]; exact rowsL_drew R2 1⟩
    · obtain rfl : i = L := by omega
      have dl : decide (i < i) = false := by rw [decide_eq_false_iff_not]; omega
      rw [Nat.mod_eq_of_lt HN.out] at R
      have hst := st_any wr w.heap.size n 0 (rows0 R)
      have c1 := row_cell (rows1 R)
      have R2 : RowsL w (wr.setRow w.heap.size (cw 6 n)) [n, n] := rowsL_set R 0 n _ (by simp) rfl rfl
      have c2 := row_cell (rows0 R2)
      go_wp2
      exact bodyPost_ret (v := .tuple #[.agg (cw 6 n), .bool true]) (by simp [results, Tryz.results113, go_sem, c2, hf]) rfl ⟨rfl, R2.2⟩
theorem lg_ok (n : Nat) (v : ByteArray) (h : nl n ≤ 16384) (hv : nbA n = v) : lg n = (v, 0) := by unfold lg; rw [if_pos h, hv]

def lf (a : Nat) (n : Int) : ByteArray × Int := if n < 0 then (⟨#[]⟩, 2) else lg (a * 2 ^ n.toNat)

theorem blen_pow (a n : Nat) (h : a ≠ 0) : blen (a * 2 ^ n) = blen a + n := by
  have h1 := blen_le a h
  have h2 := blen_lt a
  have h3 := blen_pos a h
  have h4 := Nat.mul_le_mul_right (2 ^ n) h1
  have h5 := Nat.mul_lt_mul_of_pos_right h2 (Nat.two_pow_pos n)
  rw [← Nat.pow_add] at h4 h5
  have := blen_of (a * 2 ^ n) (blen a - 1 + n) h4 (by rw [show blen a - 1 + n + 1 = blen a + n by omega]; exact h5)
  omega

theorem left_byte (a i n q r p x z X : Nat) (hq : q = n / 8) (hr : r = n % 8) (hp : p = i + q) (hx : d8 a i * 2 ^ r = x) (hz : x % 256 = z) (hX : X = (a % 2 ^ (8 * i)) * 2 ^ n) :
    X ||| z * 2 ^ (8 * p) = X + z * 2 ^ (8 * p) ∧ X ||| z * 2 ^ (8 * p) < 2 ^ (8 * (p + 1)) ∧ X + z * 2 ^ (8 * p) + 2 ^ (8 * (p + 1)) * (x / 256) = (a % 2 ^ (8 * (i + 1))) * 2 ^ n := by
  have r8 : r < 8 := by omega
  have e0 : 8 * p + r = 8 * i + n := by omega
  have hXl : X < 2 ^ (8 * p + r) := by
    rw [hX, e0, Nat.pow_add]
    exact Nat.mul_lt_mul_of_pos_right (Nat.mod_lt _ (Nat.two_pow_pos _)) (Nat.two_pow_pos n)
  have ez : z = (d8 a i % 2 ^ (8 - r)) * 2 ^ r := by
    rw [← hz, ← hx, ← Nat.mul_mod_mul_right, ← Nat.pow_add, show 8 - r + r = 8 by omega]
  have e1 : z * 2 ^ (8 * p) = (d8 a i % 2 ^ (8 - r)) * 2 ^ (8 * p + r) := by rw [ez, Nat.mul_assoc, ← Nat.pow_add, Nat.add_comm r]
  have e2 : X ||| z * 2 ^ (8 * p) = X + z * 2 ^ (8 * p) := by rw [e1]; exact (or_disj _ _ _ hXl).symm
  have e3 : 2 ^ (8 * p) * x = 2 ^ (8 * i) * d8 a i * 2 ^ n := by
    rw [← hx, Nat.mul_left_comm, ← Nat.pow_add, e0, Nat.pow_add, ← Nat.mul_assoc, Nat.mul_comm (d8 a i)]
  refine ⟨e2, ?_, ?_⟩
  · refine Nat.or_lt_two_pow (Nat.lt_of_lt_of_le hXl (Nat.pow_le_pow_right (by decide) (by omega))) ?_
    rw [pow8, Nat.mul_comm]
    exact Nat.mul_lt_mul_of_pos_left (by omega) (Nat.two_pow_pos _)
  · have := carry_step X (2 ^ (8 * p)) x
    rw [hz, ← pow8, Nat.mul_comm (2 ^ (8 * p)) z] at this
    rw [this, e3, hX, mod_d8, Nat.add_mul]

set_option maxHeartbeats 2000000 in
set_option maxRecDepth 100000 in
theorem nat_left_in (a n : Nat) (s v : ByteArray) (hs : nbA a = s) (h0 : a ≠ 0) (ha : nl a ≤ 16384) (hn : blen a + n ≤ 131072) (hv : nbA (a * 2 ^ n) = v) (w : World) :
    Calls Tryz.prog 127 #[.string s, .int .i64 (n : Nat)] w fun r w' => r = .returned (.tuple #[.string v, .int .i64 0]) ∧ Below w.heap.size w w' := by
  obtain ⟨L, hL⟩ : ∃ L, nl a = L := ⟨_, rfl⟩
  have hz : s.size = L := by rw [← hs, nbA_size, hL]
  have la := nl_lt a
  rw [hL] at la
  have hp := nl_pos a h0
  have d2 := eq_empty s
  rw [decide_eq_false (by omega)] at d2
  obtain ⟨q, hq⟩ : ∃ q, q = n / 8 := ⟨_, rfl⟩
  obtain ⟨r, hr⟩ : ∃ r, r = n % 8 := ⟨_, rfl⟩
  obtain ⟨N, hN⟩ : ∃ N, L + q + 1 = N := ⟨_, rfl⟩
  obtain ⟨l, hl⟩ : ∃ l, blen a = l := ⟨_, rfl⟩
  have q1 : (n : Int) / 8 = (q : Int) := by omega
  have r1 : (n : Int) % 8 = (r : Int) := by omega
  have r8 : r < 8 := by omega
  have n0 : IntKind.i64.wrap ((l : Int) + (n : Int)) = (l : Int) + (n : Int) := wrap_i64_is _ (by omega) (by omega)
  have c1 : decide ((131072 : Int) < (n : Int)) = false := by rw [decide_eq_false_iff_not]; omega
  have c2 : decide ((131072 : Int) < (l : Int) + (n : Int)) = false := by rw [decide_eq_false_iff_not]; omega
  have HL := box hl
  have HA := box ha
  have HS := box hs
  have HV := box hv
  have LA := box la
  have HQ := box hq
  have HR := box hr
  have NA : Box (nl a ≤ 100000) := box (by omega)
  have hmk := c8_makeI N ((L : Int) + (q : Int) + 1) (by omega) (by omega)
  have L2 : L ≤ 16384 := by omega
  have q2 : q ≤ 20000 := by omega
  have XB : Box (a * 2 ^ n < 2 ^ (8 * N)) := box (by
    have h1 : 2 ^ n ≤ 2 ^ (8 * (q + 1)) := Nat.pow_le_pow_right (by decide) (by omega)
    have h2 : a * 2 ^ n < 2 ^ (8 * L) * 2 ^ n := Nat.mul_lt_mul_of_pos_right la (Nat.two_pow_pos n)
    have h3 : 2 ^ (8 * L) * 2 ^ n ≤ 2 ^ (8 * L) * 2 ^ (8 * (q + 1)) := Nat.mul_le_mul_left _ h1
    rw [← Nat.pow_add 2 (8 * L) (8 * (q + 1)), show 8 * L + 8 * (q + 1) = 8 * N by omega] at h3
    omega)
  clear hs hv hL la h0 ha hl hq hr
  go_enter Tryz.func127, Tryz.ntmps127
  go_wp2_with fail
  refine (nat_Len a l s HS.out HA.out HL.out _).mono ?_
  rintro e w' ⟨rfl, hw'⟩
  subst hw'
  go_wp2
  clear hmk c1 c2 d2
  go_loopw [7] (fun iv wr => ∃ i X : Nat, i ≤ L ∧ iv = .int .i64 i ∧ wr.heap[w'.heap.size]? = some (.cells (c8 N X) 5) ∧ Below w'.heap.size w' wr ∧ Box (X = (a % 2 ^ (8 * i)) * 2 ^ n)) (fun iv _ => L - (intOf iv).toNat)
  case atStart => exact ⟨0, 0, by omega, rfl, heap_alloc_last _ _, (Below.refl _ _).alloc (Nat.le_refl _) _, box (by rw [Nat.mul_zero, Nat.pow_zero, Nat.mod_one, Nat.zero_mul])⟩
  case round =>
    obtain ⟨i, X, hi, rfl, r0, hbw, HE⟩ := hrel
    by_cases hlt : i < L
    · obtain ⟨d, hd⟩ : ∃ d, d8 a i = d := ⟨_, rfl⟩
      have d256 : d < 256 := by rw [← hd]; exact d8_lt _ _
      obtain ⟨x, hx⟩ : ∃ x, d * 2 ^ r = x := ⟨_, rfl⟩
      have x16 : x < 32768 := by
        rw [← hx]
        have h1 : 2 ^ r ≤ 2 ^ 7 := Nat.pow_le_pow_right (by decide) (by omega)
        have h2 : d * 2 ^ r ≤ 255 * 2 ^ 7 := Nat.mul_le_mul (by omega) h1
        omega
      obtain ⟨p, hp2⟩ : ∃ p, p = i + q := ⟨_, rfl⟩
      obtain ⟨z, hz2⟩ : ∃ z, x % 256 = z := ⟨_, rfl⟩
      obtain ⟨g, hg⟩ : ∃ g, x / 256 = g := ⟨_, rfl⟩
      have z256 : z < 256 := by omega
      have g256 : g < 256 := by omega
      obtain ⟨f1, f2, f3⟩ := left_byte a i n q r p x z X HQ.out HR.out hp2 (by rw [hd]; exact hx) hz2 HE.out
      rw [hg] at f3
      have pi : (i : Int) + (q : Int) = (p : Int) := by omega
      have pN : p < N := by omega
      have pN1 : p + 1 < N := by omega
      have n1 : (d : Int) * 2 ^ r = (x : Int) := by rw [pow_cast, ← Int.natCast_mul, hx]
      have n2 : IntKind.i64.wrap (x : Int) = (x : Int) := wrap_i64_is _ (by omega) (by omega)
      have n6 := wrap_u8_is x z hz2
      have n7 : (x : Int) / 256 = (g : Int) := by omega
      have n8 : IntKind.u8.wrap (g : Int) = (g : Int) := wrap_u8_is g g (by omega)
      obtain ⟨Y, hY⟩ : ∃ Y, X ||| z * 2 ^ (8 * p) = Y := ⟨_, rfl⟩
      have o8 : bits .or .u8 (d8 X p : Nat) (z : Nat) = ((d8 X p ||| z : Nat) : Int) := by
        show IntKind.u8.wrap ((BitVec.ofInt 8 (d8 X p : Int) ||| BitVec.ofInt 8 (z : Int)).toNat : Int) = _
        have h1 : (BitVec.ofInt 8 (d8 X p : Int)).toNat = d8 X p := by have := d8_lt X p; simp; omega
        have h2 : (BitVec.ofInt 8 (z : Int)).toNat = z := by simp; omega
        rw [BitVec.toNat_or, h1, h2]
        exact wrap_u8_is _ _ (Nat.mod_eq_of_lt (or_lt8 _ _ (d8_lt X p) z256))
      have k1 := c8_cell r0 pN
      have k2 := fz (k := p) r0
      obtain ⟨W1, hW1⟩ : ∃ W1, wr.setCell ⟨w'.heap.size, p, none⟩ (.int .u8 ((d8 X p ||| z : Nat) : Int)) = W1 := ⟨_, rfl⟩
      have r1' : W1.heap[w'.heap.size]? = some (.cells (c8 N Y) 5) := by rw [← hW1, setCell_row r0, c8_or N X p z Y pN z256 hY.symm]
      have b1 : Below w'.heap.size w' W1 := by rw [← hW1]; exact hbw.setCell (Nat.le_refl _) _
      have k3 := c8_cell r1' pN1
      have k4 := fz (k := p + 1) r1'
      have RS : Box ((W1.setCell ⟨w'.heap.size, p + 1, none⟩ (.int .u8 (g : Int))).heap[w'.heap.size]? = some (.cells (c8 N (X + z * 2 ^ (8 * p) + 2 ^ (8 * (p + 1)) * g)) 5)) := box (by rw [setCell_row r1', c8_push N Y (p + 1) g _ pN1 (by rw [← hY]; exact f2) g256 rfl, ← hY, f1])
      have NX := box f3
      have HD := box hd
      have dl : decide (i < L) = true := decide_eq_true hlt
      clear hd hx hp2 hz2 hg f1 f2 f3 hY
      go_wp2_with fail
      refine (nat_at a i d s HS.out HD.out NA.out _).mono ?_
      rintro e w2 ⟨rfl, rfl⟩
      go_wp2
      go_roundw
      case rel => exact ⟨i + 1, _, by omega, by go_num, RS.out, b1.setCell (Nat.le_refl _) _, NX⟩
      case measure => simp [intOf] <;> omega
    · obtain rfl : i = L := by omega
      have dl : decide (i < i) = false := by rw [decide_eq_false_iff_not]; omega
      have e2 := HE.out
      rw [Nat.mod_eq_of_lt LA.out] at e2
      subst e2
      clear HE
      go_wp2_with fail
      refine (nat_fit N (a * 2 ^ n) w'.heap.size N v (by omega) XB.out HV.out _ r0).mono ?_
      rintro e w2 ⟨rfl, hb2⟩
      go_wp2
      go_ret2
      exact ⟨rfl, hbw.trans (hb2.mono hbw.size)⟩

theorem lf_neg (a : Nat) (n : Int) (h : n < 0) : lf a n = (⟨#[]⟩, 2) := by unfold lf; rw [if_pos h]
theorem lf_long (a : Nat) (n : Int) (h : 0 ≤ n) (h0 : a ≠ 0) (hl : 131072 < (blen a : Int) + n) : lf a n = (⟨#[]⟩, 4) := by
  unfold lf lg
  have e : blen (a * 2 ^ n.toNat) = blen a + n.toNat := blen_pow a _ h0
  rw [if_neg (by omega), if_neg]
  unfold nl
  omega
theorem lf_in (a n : Nat) (h0 : a ≠ 0) (hl : blen a + n ≤ 131072) : lf a (n : Int) = (nbA (a * 2 ^ n), 0) := by
  unfold lf lg
  rw [if_neg (by omega), Int.toNat_natCast, if_pos]
  have e : blen (a * 2 ^ n) = blen a + n := blen_pow a _ h0
  unfold nl
  omega
theorem lf_zero (n : Int) (h : 0 ≤ n) : lf 0 n = (⟨#[]⟩, 0) := by
  unfold lf lg
  rw [if_neg (by omega), Nat.zero_mul, nl_zero, if_pos (by omega), nbA_zero]

theorem nat_Left (a : Nat) (n : Int) (s v : ByteArray) (e : Int) (hs : nbA a = s) (ha : nl a ≤ 16384) (hn : n ≤ 9223372036854775807) (hr : lf a n = (v, e)) (w : World) :
    Calls Tryz.prog 127 #[.string s, .int .i64 n] w fun r w' => r = .returned (.tuple #[.string v, .int .i64 e]) ∧ Below w.heap.size w w' := by
  have hz : s.size = nl a := by rw [← hs, nbA_size]
  have d2 := eq_empty s
  by_cases h1 : n < 0
  · rw [lf_neg a n h1] at hr
    injection hr with e1 e2
    subst e1 e2
    have c0 : decide (n < 0) = true := decide_eq_true h1
    clear h1 hs
    go_enter Tryz.func127, Tryz.ntmps127
    go_wp2
    go_ret2
    exact ⟨rfl, Below.refl _ _⟩
  · have c0 : decide (n < 0) = false := decide_eq_false h1
    by_cases h0 : a = 0
    · subst h0
      rw [lf_zero n (by omega)] at hr
      injection hr with e1 e2
      subst e1 e2
      rw [decide_eq_true (by rw [hz, nl_zero])] at d2
      clear h1 hs hz
      go_enter Tryz.func127, Tryz.ntmps127
      go_wp2
      go_ret2
      exact ⟨rfl, Below.refl _ _⟩
    · have hp := nl_pos a h0
      by_cases hl : 131072 < (blen a : Int) + n
      · rw [lf_long a n (by omega) h0 hl] at hr
        injection hr with e1 e2
        subst e1 e2
        rw [decide_eq_false (by omega)] at d2
        obtain ⟨l, hl2⟩ : ∃ l, blen a = l := ⟨_, rfl⟩
        rw [hl2] at hl
        have HL := box hl2
        have HS := box hs
        have HA := box ha
        by_cases hb : 131072 < n
        · have c1 : decide (131072 < n) = true := decide_eq_true hb
          clear h1 hs hz hl hl2 h0 ha hp
          go_enter Tryz.func127, Tryz.ntmps127
          go_wp2
          go_ret2
          exact ⟨rfl, Below.refl _ _⟩
        · have c1 : decide (131072 < n) = false := decide_eq_false hb
          have lb : l ≤ 131072 := by
            have := ha
            unfold nl at this
            omega
          have n0 : IntKind.i64.wrap ((l : Int) + n) = (l : Int) + n := wrap_i64_is _ (by omega) (by omega)
          have c2 : decide (131072 < (l : Int) + n) = true := decide_eq_true hl
          clear h1 hs hz hl hl2 h0 ha hp
          go_enter Tryz.func127, Tryz.ntmps127
          go_wp2_with fail
          refine (nat_Len a l s HS.out HA.out HL.out _).mono ?_
          rintro e w' ⟨rfl, rfl⟩
          go_wp2
          go_ret2
          exact ⟨rfl, Below.refl _ _⟩
      · obtain ⟨m, rfl⟩ : ∃ m : Nat, n = (m : Int) := ⟨n.toNat, by omega⟩
        rw [lf_in a m h0 (by omega)] at hr
        injection hr with e1 e2
        subst e2
        exact nat_left_in a m s v hs h0 ha (by omega) e1 w

theorem lost_low (a n t : Nat) (h : LowB a t) : (a % 2 ^ n ≠ 0) ↔ t < n := by
  constructor
  · intro h1
    rcases Nat.lt_or_ge t n with h2 | h2
    · exact h2
    · exfalso
      apply h1
      obtain ⟨d, hd⟩ := Nat.dvd_of_mod_eq_zero h.1
      apply Nat.mod_eq_zero_of_dvd
      refine Nat.dvd_trans (Nat.pow_dvd_pow 2 h2) ?_
      exact ⟨d, hd⟩
  · intro h1 h2
    have h3 := Nat.testBit_mod_two_pow a n t
    rw [h2, h.2, decide_eq_true h1, Nat.zero_testBit] at h3
    cases h3

theorem right_byte (a i n q r p x y t z : Nat) (hq : q = n / 8) (hr : r = n % 8) (hp : p = i + q) (hx : d8 a p = x) (hy : d8 a (p + 1) = y) (ht : x + 256 * y = t) (hz : t / 2 ^ r % 256 = z) : d8 (a / 2 ^ n) i = z := by
  have e1 : t = a / 2 ^ (8 * p) % 2 ^ 16 := by
    rw [← ht, ← hx, ← hy]
    unfold d8
    rw [pow8, ← Nat.div_div_eq_div_mul]
    omega
  have e2 : a / 2 ^ n / 2 ^ (8 * i) = a / 2 ^ (8 * p) / 2 ^ r := by
    rw [Nat.div_div_eq_div_mul, ← Nat.pow_add, Nat.div_div_eq_div_mul, ← Nat.pow_add]
    congr 2
    omega
  unfold d8
  rw [e2, ← hz, e1]
  generalize a / 2 ^ (8 * p) = A
  rw [two8]
  have e3 : A % 2 ^ 16 = A % 2 ^ (r + (16 - r)) := by congr 2; omega
  rw [e3, Nat.pow_add, Nat.mod_mul_right_div_self, Nat.mod_mod_of_dvd]
  exact Nat.pow_dvd_pow 2 (by omega)

set_option maxHeartbeats 2000000 in
set_option maxRecDepth 100000 in
theorem nat_Right (a : Nat) (n : Int) (s v : ByteArray) (o : Bool) (hs : nbA a = s) (ha : nl a ≤ 16384) (h0 : 0 ≤ n) (hn : n ≤ 9223372036854775807) (hv : nbA (a / 2 ^ n.toNat) = v) (ho : decide (a % 2 ^ n.toNat ≠ 0) = o) (w : World) :
    Calls Tryz.prog 35 #[.string s, .int .i64 n] w fun r w' => r = .returned (.tuple #[.string v, .bool o, .int .i64 0]) ∧ Below w.heap.size w w' := by
  obtain ⟨n, rfl⟩ : ∃ m : Nat, n = (m : Int) := ⟨n.toNat, by omega⟩
  rw [Int.toNat_natCast] at hv ho
  have c0 : decide ((n : Int) < 0) = false := by rw [decide_eq_false_iff_not]; omega
  obtain ⟨L, hL⟩ : ∃ L, nl a = L := ⟨_, rfl⟩
  have hz : s.size = L := by rw [← hs, nbA_size, hL]
  have d2 := eq_empty s
  by_cases ha0 : a = 0
  · subst ha0
    rw [Nat.zero_div, nbA_zero] at hv
    rw [Nat.zero_mod] at ho
    subst hv ho
    rw [decide_eq_true (by rw [hz, ← hL, nl_zero])] at d2
    clear hs hz hL
    go_enter Tryz.func35, Tryz.ntmps35
    go_wp2
    exact bodyPost_ret (v := .tuple #[.string ⟨#[]⟩, .bool false, .int .i64 0]) (by simp [results, Tryz.results35, go_sem]) rfl ⟨rfl, Below.refl _ _⟩
  · have hp := nl_pos a ha0
    have la := nl_lt a
    rw [hL] at hp la ha
    rw [decide_eq_false (by omega)] at d2
    obtain ⟨t, ht⟩ := lowB_any a ha0
    have hlo := lost_low a n t ht
    have hLN : LowN a t := Or.inr ⟨ha0, ht⟩
    have e1 : decide (t < n) = o := by rw [← ho]; exact decide_eq_decide.2 hlo.symm
    have HS := box hs
    have HA : Box (nl a ≤ 16384) := box (by omega)
    have HN := box hLN
    have NA : Box (nl a ≤ 100000) := box (by omega)
    have n0 : IntKind.i64.wrap (8 * (L : Int)) = 8 * (L : Int) := wrap_i64_is _ (by omega) (by omega)
    have LA := box la
    by_cases hb : 8 * L ≤ n
    · have c1 : decide (8 * (L : Int) ≤ (n : Int)) = true := by rw [decide_eq_true_iff]; omega
      have ev : v = ⟨#[]⟩ := by
        rw [← hv, Nat.div_eq_of_lt (Nat.lt_of_lt_of_le la (Nat.pow_le_pow_right (by decide) hb)), nbA_zero]
      subst ev
      clear hs hL hv ho ht hlo hLN hb la ha0
      go_enter Tryz.func35, Tryz.ntmps35
      go_wp2_with fail
      refine (nat_Low a t s HS.out HA.out HN.out _).mono ?_
      rintro e w' ⟨rfl, rfl⟩
      go_wp2
      exact bodyPost_ret (v := .tuple #[.string ⟨#[]⟩, .bool o, .int .i64 0]) (by simp [results, Tryz.results35, go_sem]) rfl ⟨rfl, Below.refl _ _⟩
    · have c1 : decide (8 * (L : Int) ≤ (n : Int)) = false := by rw [decide_eq_false_iff_not]; omega
      obtain ⟨q, hq⟩ : ∃ q, q = n / 8 := ⟨_, rfl⟩
      obtain ⟨r, hr⟩ : ∃ r, r = n % 8 := ⟨_, rfl⟩
      obtain ⟨m, hm⟩ : ∃ m, L - q = m := ⟨_, rfl⟩
      obtain ⟨b, hb2⟩ : ∃ b, a / 2 ^ n = b := ⟨_, rfl⟩
      have q1 : (n : Int) / 8 = (q : Int) := by omega
      have r1 : (n : Int) % 8 = (r : Int) := by omega
      have r8 : r < 8 := by omega
      have m1 : (L : Int) - (q : Int) = (m : Int) := by omega
      have bm : b < 2 ^ (8 * m) := by
        rw [← hb2, Nat.div_lt_iff_lt_mul (Nat.two_pow_pos _), ← Nat.pow_add]
        exact Nat.lt_of_lt_of_le la (Nat.pow_le_pow_right (by decide) (by omega))
      have HB := box hb2
      have BM := box bm
      have HQ := box hq
      have HR := box hr
      rw [hb2] at hv
      have HV := box hv
      have hmk := c8_make m (by omega)
      have m2 : m ≤ 16384 := by omega
      have q2 : q ≤ 16384 := by omega
      have qm : q + m = L := by omega
      have L2 : L ≤ 16384 := by omega
      clear hs hL hv ho ht hlo hLN hb la ha0 hq hr hm hb2 bm
      go_enter Tryz.func35, Tryz.ntmps35
      go_wp2_with fail
      refine (nat_Low a t s HS.out HA.out HN.out _).mono ?_
      rintro e w' ⟨rfl, hw'⟩
      subst hw'
      go_wp2
      clear hmk c0 c1 d2 e1
      go_loopw [10] (fun iv wr => ∃ i : Nat, i ≤ m ∧ iv = .int .i64 i ∧ wr.heap[w'.heap.size]? = some (.cells (c8 m (b % 2 ^ (8 * i))) 5) ∧ Below w'.heap.size w' wr) (fun iv _ => m - (intOf iv).toNat)
      case atStart => exact ⟨0, by omega, rfl, by rw [Nat.mul_zero, Nat.pow_zero, Nat.mod_one]; exact heap_alloc_last _ _, (Below.refl _ _).alloc (Nat.le_refl _) _⟩
      case round =>
        obtain ⟨i, hi, rfl, r0, hbw⟩ := hrel
        by_cases hlt : i < m
        · obtain ⟨p, hp2⟩ : ∃ p, p = i + q := ⟨_, rfl⟩
          obtain ⟨p1, hp1⟩ : ∃ p1, p1 = p + 1 := ⟨_, rfl⟩
          obtain ⟨x, hx⟩ : ∃ x, d8 a p = x := ⟨_, rfl⟩
          obtain ⟨y, hy⟩ : ∃ y, d8 a p1 = y := ⟨_, rfl⟩
          have x256 : x < 256 := by rw [← hx]; exact d8_lt _ _
          have y256 : y < 256 := by rw [← hy]; exact d8_lt _ _
          obtain ⟨u, hu⟩ : ∃ u, x + 256 * y = u := ⟨_, rfl⟩
          obtain ⟨z, hz2⟩ : ∃ z, u / 2 ^ r % 256 = z := ⟨_, rfl⟩
          have z256 : z < 256 := by rw [← hz2]; exact Nat.mod_lt _ (by decide)
          have e1 := right_byte a i n q r p x y u z HQ.out HR.out hp2 hx (by rw [← hp1]; exact hy) hu hz2
          rw [HB.out] at e1
          have pi : (i : Int) + (q : Int) = (p : Int) := by omega
          have pi1 : (p : Int) + 1 = (p1 : Int) := by omega
          obtain ⟨Y, hY⟩ : ∃ Y, 256 * y = Y := ⟨_, rfl⟩
          have n3 : (y : Int) * 256 = (Y : Int) := by omega
          have n4 : IntKind.i64.wrap (Y : Int) = (Y : Int) := wrap_i64_is _ (by omega) (by omega)
          have n5 : bits .or .i64 (x : Int) (Y : Int) = (u : Int) := by
            show IntKind.i64.wrap ((BitVec.ofInt 64 (x : Int) ||| BitVec.ofInt 64 (Y : Int)).toNat : Int) = _
            have h1 : (BitVec.ofInt 64 (x : Int)).toNat = x := by simp; omega
            have h2 : (BitVec.ofInt 64 (Y : Int)).toNat = Y := by simp; omega
            have h3 : x ||| Y = x + Y := by
              have := or_disj x y 8 (by rw [← two8]; exact x256)
              rw [← two8, Nat.mul_comm y, hY] at this
              exact this.symm
            rw [BitVec.toNat_or, h1, h2, h3, show x + Y = u by omega, wrap_i64_is _ (by omega) (by omega)]
          have n6 : IntKind.u8.wrap ((u : Int) / 2 ^ r) = (z : Int) := by
            rw [div_cast]
            exact wrap_u8_is _ z hz2
          have k1 := c8_cell r0 hlt
          have k2 := fz (k := i) r0
          have RS : Box ((wr.setCell ⟨w'.heap.size, i, none⟩ (.int .u8 (z : Int))).heap[w'.heap.size]? = some (.cells (c8 m (b % 2 ^ (8 * (i + 1)))) 5)) := box (by rw [setCell_row r0, c8_push m _ i z _ hlt (Nat.mod_lt _ (Nat.two_pow_pos _)) z256 rfl, mod_d8, e1])
          have HX := box hx
          have HY := box hy
          have dl : decide (i < m) = true := decide_eq_true hlt
          clear hp2 hp1 hx hy hu hz2 e1 hY
          go_wp2_with fail
          refine (nat_at a p x s HS.out HX.out NA.out _).mono ?_
          rintro e w2 ⟨rfl, rfl⟩
          go_wp2_with fail
          refine (nat_at a p1 y s HS.out HY.out NA.out _).mono ?_
          rintro e w2 ⟨rfl, rfl⟩
          go_wp2
          go_roundw
          case rel => exact ⟨i + 1, by omega, by go_num, RS.out, hbw.setCell (Nat.le_refl _) _⟩
          case measure => simp [intOf] <;> omega
        · obtain rfl : i = m := by omega
          have dl : decide (i < i) = false := by rw [decide_eq_false_iff_not]; omega
          rw [Nat.mod_eq_of_lt BM.out] at r0
          go_wp2_with fail
          refine (nat_fit i b w'.heap.size i v (by omega) BM.out HV.out _ r0).mono ?_
          rintro e w2 ⟨rfl, hb2⟩
          go_wp2
          exact bodyPost_ret (v := .tuple #[.string v, .bool o, .int .i64 0]) (by simp [results, Tryz.results35, go_sem]) rfl ⟨rfl, hbw.trans (hb2.mono hbw.size)⟩

def NdivSt (a b k q r : Nat) : Prop := a / 2 ^ k = b * (q / 2 ^ k) + r ∧ r < b ∧ q % 2 ^ k = 0
theorem ndiv_start (a b k r : Nat) (hr : a / 2 ^ k = r) (h : r < b) : NdivSt a b k 0 r := ⟨by rw [Nat.zero_div, Nat.mul_zero, Nat.zero_add]; exact hr, h, Nat.zero_mod _⟩
theorem ndiv_step (a b k q r x : Nat) (S : NdivSt a b (k + 1) q r) (hx : 2 * r + (a.testBit k).toNat = x) :
    (x < b → NdivSt a b k q x) ∧ (b ≤ x → NdivSt a b k (q ||| 2 ^ k) (x - b)) := by
  obtain ⟨h1, h2, h3⟩ := S
  have hb := bit_nat a k
  rw [h1] at hb
  have ht : (a.testBit k).toNat ≤ 1 := by cases a.testBit k <;> decide
  have hd : 2 ^ (k + 1) ∣ q := Nat.dvd_of_mod_eq_zero h3
  have e0 : q / 2 ^ k = 2 * (q / 2 ^ (k + 1)) := by
    obtain ⟨c, rfl⟩ := hd
    rw [Nat.mul_div_cancel_left _ (Nat.two_pow_pos _), Nat.pow_succ, Nat.mul_assoc, Nat.mul_div_cancel_left _ (Nat.two_pow_pos _)]
  have h4 : q % 2 ^ k = 0 := Nat.mod_eq_zero_of_dvd (Nat.dvd_trans (Nat.pow_dvd_pow 2 (by omega)) hd)
  have e1 : 2 * (b * (q / 2 ^ (k + 1)) + r) + (a.testBit k).toNat = b * (2 * (q / 2 ^ (k + 1))) + x := by
    rw [← hx, Nat.mul_add, Nat.mul_left_comm]; omega
  refine ⟨fun h => ⟨?_, h, h4⟩, fun h => ⟨?_, by omega, ?_⟩⟩
  · rw [hb, e1, e0]
  · rw [qor_pow q k hd, Nat.add_div_right _ (Nat.two_pow_pos k), e0, hb, e1, Nat.mul_succ]
    omega
  · rw [qor_pow q k hd, Nat.add_mod_right]; exact h4
theorem ndiv_end (a b q r : Nat) (S : NdivSt a b 0 q r) : q = a / b ∧ r = a % b := by
  obtain ⟨h1, h2, _⟩ := S
  rw [Nat.pow_zero, Nat.div_one, Nat.div_one] at h1
  have hb : 0 < b := by omega
  constructor
  · rw [h1, Nat.mul_add_div hb, Nat.div_eq_of_lt h2, Nat.add_zero]
  · rw [h1, Nat.mul_add_mod, Nat.mod_eq_of_lt h2]

theorem nl_twice (b x : Nat) (h : x < 2 * b) : nl x ≤ nl b + 1 := nl_le_of x _ (by
  have := nl_lt b
  rw [pow8]
  omega)
theorem one_bit8 (k q r : Nat) (hq : q = k / 8) (hr : r = k % 8) : 2 ^ r * 2 ^ (8 * q) = 2 ^ k := by
  rw [← Nat.pow_add]; congr 1; omega

set_option maxHeartbeats 4000000 in
set_option maxRecDepth 100000 in
theorem nat_div_big (a b : Nat) (s t qv rv : ByteArray) (hs : nbA a = s) (ht : nbA b = t) (ha : nl a ≤ 16384) (hb0 : b ≠ 0) (hba : b ≤ a) (hq : nbA (a / b) = qv) (hr : nbA (a % b) = rv) (w : World) :
    Calls Tryz.prog 37 #[.string s, .string t] w fun r w' => r = .returned (.tuple #[.string qv, .string rv, .int .i64 0]) ∧ Below w.heap.size w w' := by
  obtain ⟨L, hL⟩ : ∃ L, nl a = L := ⟨_, rfl⟩
  have hz : s.size = L := by rw [← hs, nbA_size, hL]
  have hbl := nl_mono b a hba
  have e2 := eq_empty t
  have hty : t.size = nl b := by rw [← ht, nbA_size]
  have hbp := nl_pos b hb0
  rw [decide_eq_false (by omega)] at e2
  obtain ⟨c, hc⟩ : ∃ c, cmpv a b = c := ⟨_, rfl⟩
  have dc : decide (c < 0) = false := by
    rw [← hc]; unfold cmpv
    by_cases e : a = b
    · rw [if_pos e]; rfl
    · rw [if_neg e, if_neg (by omega)]; rfl
  obtain ⟨n, hn⟩ : ∃ n, blen a = n := ⟨_, rfl⟩
  obtain ⟨m, hm⟩ : ∃ m, blen b = m := ⟨_, rfl⟩
  have mp : 0 < m := by rw [← hm]; exact blen_pos b hb0
  have nm : m ≤ n := by
    rw [← hm, ← hn]
    exact blen_le_of b _ (Nat.lt_of_le_of_lt hba (blen_lt a))
  have n8 : n ≤ 8 * L := by rw [← hn, ← hL]; unfold nl; omega
  obtain ⟨K, hK⟩ : ∃ K : Nat, n - (m - 1) = K := ⟨_, rfl⟩
  obtain ⟨r0, hr0⟩ : ∃ r0, a / 2 ^ K = r0 := ⟨_, rfl⟩
  have r0b : r0 < b := by
    have h1 := blen_lt a
    have h2 := blen_le b hb0
    rw [hn] at h1
    rw [hm] at h2
    have h3 : r0 < 2 ^ (m - 1) := by
      rw [← hr0, Nat.div_lt_iff_lt_mul (Nat.two_pow_pos _), ← Nat.pow_add, show m - 1 + K = n by omega]
      exact h1
    omega
  obtain ⟨R0, hR0⟩ : ∃ R0, nbA (a / 2 ^ ((K : Int).toNat)) = R0 := ⟨_, rfl⟩
  obtain ⟨o, ho⟩ : ∃ o, decide (a % 2 ^ ((K : Int).toNat) ≠ 0) = o := ⟨_, rfl⟩
  have ST0 : Box (NdivSt a b K 0 r0) := box (ndiv_start a b K r0 hr0 r0b)
  have HR0 : Box (nbA r0 = R0) := box (by rw [← hR0, Int.toNat_natCast, hr0])
  have HR1 := box hR0
  have HO := box ho
  have HC := box hc
  have HN := box hn
  have HM := box hm
  have HS := box hs
  have HT := box ht
  have HQ := box hq
  have HR := box hr
  have HA := box ha
  have HB : Box (nl b ≤ 16384) := box (by omega)
  have NA : Box (nl a ≤ 100000) := box (by omega)
  obtain ⟨N, hN⟩ : ∃ N, L + 1 = N := ⟨_, rfl⟩
  have L2 : L ≤ 16384 := by omega
  have hmk := c8_makeI N ((L : Int) + 1) (by omega) (by omega)
  have w1 : IntKind.i64.wrap ((m : Int) - 1) = (m : Int) - 1 := wrap_i64_is _ (by omega) (by omega)
  have w2 : IntKind.i64.wrap ((n : Int) - ((m : Int) - 1)) = (K : Int) := by rw [wrap_i64_is _ (by omega) (by omega)]; omega
  have KI : Box ((K : Int) ≤ 9223372036854775807) := box (by omega)
  have K8 : K ≤ 8 * L := by omega
  have QB : Box (a / b < 2 ^ (8 * N)) := box (Nat.lt_of_le_of_lt (Nat.div_le_self _ _) (Nat.lt_of_lt_of_le (nl_lt a) (pow8_le _ _ (by omega))))
  clear hs ht hq hr hL hn hm hc hr0 hR0 ho hba hbl hb0 hty ha hK mp nm n8 hbp r0b
  go_enter Tryz.func37, Tryz.ntmps37
  go_wp2_with fail
  refine (nat_cmp a b s t c HS.out HT.out HC.out _).mono ?_
  rintro e w' ⟨rfl, hw'⟩
  subst hw'
  go_wp2_with fail
  refine (nat_Len a n s HS.out HA.out HN.out _).mono ?_
  rintro e w3 ⟨rfl, hw3⟩
  subst hw3
  go_wp2_with fail
  refine (nat_Len b m t HT.out HB.out HM.out _).mono ?_
  rintro e w4 ⟨rfl, hw4⟩
  subst hw4
  go_wp2_with fail
  refine (nat_Right a (K : Int) s R0 o HS.out HA.out (by omega) KI.out HR1.out HO.out _).mono ?_
  rintro e w5 ⟨rfl, hb5⟩
  go_wp2
  clear hmk w1 w2 dc e2 HR1 HO HC HN HM KI
  obtain ⟨g, hg⟩ : ∃ g, w5.heap.size = g := ⟨_, rfl⟩
  have g5 : w4.heap.size ≤ g := by rw [← hg]; exact hb5.size
  have B5 : Below w4.heap.size w4 (w5.alloc (.cells (c8 N 0) 5)) := hb5.alloc hb5.size _
  have r5 : (w5.alloc (.cells (c8 N 0) 5)).heap[g]? = some (.cells (c8 N 0) 5) := by rw [← hg]; exact heap_alloc_last _ _
  rw [hg]
  go_loopw [9, 13] (fun rv iv wr => ∃ (k q r : Nat) (R : ByteArray), iv = .int .i64 ((k : Int) - 1) ∧ rv = .string R ∧ k ≤ K ∧ wr.heap[g]? = some (.cells (c8 N q) 5) ∧ Below w4.heap.size w4 wr ∧ Box (nbA r = R) ∧ Box (NdivSt a b k q r)) (fun _ iv _ => (intOf iv + 1).toNat)
  case atStart => exact ⟨K, 0, r0, R0, by first | rfl | go_num, rfl, by omega, r5, B5, HR0, ST0⟩
  case round =>
    clear r5 B5 HR0 ST0 hb5
    obtain ⟨k, q, r, R, rfl, rfl, hk, row, hbw, HRR, HST⟩ := hrel
    by_cases hk0 : k = 0
    · subst hk0
      obtain ⟨e1, e3⟩ := ndiv_end a b q r HST.out
      rw [e1] at row
      have eR : R = rv := by rw [← HRR.out, ← HR.out, e3]
      subst eR
      clear e1 e3 HST
      go_wp2_with fail
      refine (nat_fit N (a / b) g N qv (by omega) QB.out HQ.out _ row).mono ?_
      rintro e w6 ⟨rfl, hb6⟩
      go_wp2
      exact bodyPost_ret (v := .tuple #[.string qv, .string R, .int .i64 0]) (by simp [results, Tryz.results37, go_sem]) rfl ⟨rfl, hbw.trans (hb6.mono hbw.size)⟩
    · obtain ⟨j, rfl⟩ : ∃ j, k = j + 1 := ⟨k - 1, by omega⟩
      have ej : (((j + 1 : Nat) : Int) - 1) = (j : Int) := by omega
      rw [ej]
      obtain ⟨o1, ho1⟩ : ∃ o1, (a.testBit j).toNat = o1 := ⟨_, rfl⟩
      have o2 : o1 < 2 := by rw [← ho1]; cases a.testBit j <;> decide
      obtain ⟨x, hx⟩ : ∃ x, 2 * r + o1 = x := ⟨_, rfl⟩
      have ST := box (ndiv_step a b j q r x HST.out (by rw [ho1]; exact hx))
      have rb := HST.out.2.1
      have xb : x < 2 * b := by omega
      have HRB : Box (nl r ≤ 20000) := box (by have := nl_mono r b (by omega); have := HB.out; omega)
      have HXB : Box (nl x ≤ 20000) := box (by have := nl_twice b x xb; have := HB.out; omega)
      obtain ⟨X, hX⟩ : ∃ X, nbA x = X := ⟨_, rfl⟩
      have HX := box hX
      have HX2 : Box (nbA (2 * r + o1) = X) := box (by rw [hx]; exact hX)
      obtain ⟨c, hc⟩ : ∃ c, cmpv x b = c := ⟨_, rfl⟩
      have HC := box hc
      have HO1 := box ho1
      have jb : j ≤ 10000000 := by omega
      by_cases hlt : x < b
      · have dc : decide (0 ≤ c) = false := by rw [← hc]; unfold cmpv; rw [if_neg (by omega), if_pos hlt]; rfl
        have NS := box (ST.out.1 hlt)
        clear hx hX hc ho1 rb xb hlt hg
        go_wp2_with fail
        refine (nat_bit a j s o1 HS.out HO1.out NA.out jb _).mono ?_
        rintro e w6 ⟨rfl, hw6⟩
        subst hw6
        go_wp2_with fail
        refine (nat_double r o1 R X HRR.out o2 HX2.out HRB.out _).mono ?_
        rintro e w7 ⟨rfl, hb7⟩
        have row7 := heap_of hb7 _ _ _ row
        have B7 : Below w4.heap.size w4 w7 := hbw.trans (hb7.mono hbw.size)
        clear hb7 row hbw
        go_wp2_with fail
        refine (nat_cmp x b X t c HX.out HT.out HC.out _).mono ?_
        rintro e w8 ⟨rfl, hw8⟩
        subst hw8
        go_wp2
        go_roundw
        case rel => exact ⟨j, q, x, X, by first | rfl | go_num, rfl, by omega, row7, B7, HX, NS⟩
        case measure => simp [intOf] <;> omega
      · have dc : decide (0 ≤ c) = true := by
          rw [← hc]; unfold cmpv
          by_cases e : x = b
          · rw [if_pos e]; rfl
          · rw [if_neg e, if_neg hlt]; rfl
        have NS0 := ST.out.2 (by omega)
        obtain ⟨y, hy⟩ : ∃ y, x - b = y := ⟨_, rfl⟩
        obtain ⟨Y, hY⟩ : ∃ Y, nbA (x - b) = Y := ⟨_, rfl⟩
        have HY := box hY
        have HY2 : Box (nbA y = Y) := box (by rw [← hy]; exact hY)
        rw [hy] at NS0
        have HBX : Box (b ≤ x) := box (by omega)
        obtain ⟨qi, hqi⟩ : ∃ qi, qi = j / 8 := ⟨_, rfl⟩
        obtain ⟨ri, hri⟩ : ∃ ri, ri = j % 8 := ⟨_, rfl⟩
        have q1 : (j : Int) / 8 = (qi : Int) := by omega
        have r1 : (j : Int) % 8 = (ri : Int) := by omega
        have r8 : ri < 8 := by omega
        obtain ⟨v, hv⟩ : ∃ v, v = 2 ^ ri := ⟨_, rfl⟩
        have v256 : v < 256 := by
          rw [hv, two8]
          exact Nat.pow_lt_pow_right (by decide) r8
        have hv2 : IntKind.u8.wrap ((2 : Int) ^ ri) = (v : Int) := by rw [pow_cast, ← hv]; exact wrap_u8_is v v (Nat.mod_eq_of_lt v256)
        have hv3 : IntKind.u8.wrap (1 * (2 : Int) ^ ri) = (v : Int) := by rw [Int.one_mul]; exact hv2
        obtain ⟨Z, hZ⟩ : ∃ Z, q ||| 2 ^ j = Z := ⟨_, rfl⟩
        rw [hZ] at NS0
        have NS := box NS0
        have hZ2 : Z = q ||| v * 2 ^ (8 * qi) := by rw [hv, one_bit8 j qi ri hqi hri, hZ]
        have qN : qi < N := by omega
        have o8 : bits .or .u8 (d8 q qi : Nat) (v : Nat) = ((d8 q qi ||| v : Nat) : Int) := by
          show IntKind.u8.wrap ((BitVec.ofInt 8 (d8 q qi : Int) ||| BitVec.ofInt 8 (v : Int)).toNat : Int) = _
          have h1 : (BitVec.ofInt 8 (d8 q qi : Int)).toNat = d8 q qi := by have := d8_lt q qi; simp; omega
          have h2 : (BitVec.ofInt 8 (v : Int)).toNat = v := by simp; omega
          rw [BitVec.toNat_or, h1, h2]
          exact wrap_u8_is _ _ (Nat.mod_eq_of_lt (or_lt8 _ _ (d8_lt q qi) v256))
        have HZ := box (c8_or N q qi v Z qN v256 hZ2)
        clear hx hX hc ho1 rb xb hlt hg hy hY hqi hri hv hZ hZ2 NS0
        go_wp2_with fail
        refine (nat_bit a j s o1 HS.out HO1.out NA.out jb _).mono ?_
        rintro e w6 ⟨rfl, hw6⟩
        subst hw6
        go_wp2_with fail
        refine (nat_double r o1 R X HRR.out o2 HX2.out HRB.out _).mono ?_
        rintro e w7 ⟨rfl, hb7⟩
        have row7 := heap_of hb7 _ _ _ row
        have B7 : Below w4.heap.size w4 w7 := hbw.trans (hb7.mono hbw.size)
        clear hb7 row hbw
        go_wp2_with fail
        refine (nat_cmp x b X t c HX.out HT.out HC.out _).mono ?_
        rintro e w8 ⟨rfl, hw8⟩
        subst hw8
        go_wp2_with fail
        refine (nat_sub x b X t Y HX.out HT.out HY.out HBX.out HXB.out _).mono ?_
        rintro e w9 ⟨rfl, hb9⟩
        have row9 := heap_of hb9 _ _ _ row7
        have B9 : Below w4.heap.size w4 w9 := B7.trans (hb9.mono B7.size)
        clear hb9 row7 B7
        have k1 := c8_cell row9 qN
        have k2 := fz (k := qi) row9
        have RS : Box ((w9.setCell ⟨g, qi, none⟩ (.int .u8 ((d8 q qi ||| v : Nat) : Int))).heap[g]? = some (.cells (c8 N Z) 5)) := box (by rw [setCell_row row9, HZ.out])
        go_wp2
        go_roundw
        case rel => exact ⟨j, Z, y, Y, by first | rfl | go_num, rfl, by omega, RS.out, B9.setCell (by show w4.heap.size ≤ g; omega) _, HY2, NS⟩
        case measure => simp [intOf] <;> omega

theorem nat_Div (a b : Nat) (s t qv rv : ByteArray) (hs : nbA a = s) (ht : nbA b = t) (ha : nl a ≤ 16384) (hb0 : b ≠ 0) (hq : nbA (a / b) = qv) (hr : nbA (a % b) = rv) (w : World) :
    Calls Tryz.prog 37 #[.string s, .string t] w fun r w' => r = .returned (.tuple #[.string qv, .string rv, .int .i64 0]) ∧ Below w.heap.size w w' := by
  by_cases hba : b ≤ a
  · exact nat_div_big a b s t qv rv hs ht ha hb0 hba hq hr w
  · have e2 := eq_empty t
    have hty : t.size = nl b := by rw [← ht, nbA_size]
    have hbp := nl_pos b hb0
    rw [decide_eq_false (by omega)] at e2
    rw [Nat.div_eq_of_lt (by omega), nbA_zero] at hq
    rw [Nat.mod_eq_of_lt (by omega), hs] at hr
    subst hq hr
    have HC : Box (cmpv a b = -1) := box (by unfold cmpv; rw [if_neg (by omega), if_pos (by omega)])
    clear hba hty hbp ha hb0
    go_enter Tryz.func37, Tryz.ntmps37
    go_wp2_with fail
    refine (nat_cmp a b s t (-1) hs ht HC.out _).mono ?_
    rintro e w' ⟨rfl, rfl⟩
    go_wp2
    exact bodyPost_ret (v := .tuple #[.string ⟨#[]⟩, .string s, .int .i64 0]) (by simp [results, Tryz.results37, go_sem]) rfl ⟨rfl, Below.refl _ _⟩
def strV (v : Value) : Nat := match v with | .string s => bvl s.data.toList | _ => 0
theorem strV_nb (n : Nat) (s : ByteArray) (h : nbA n = s) : strV (.string s) = n := by
  subst h
  exact bvl_nbL n

set_option maxHeartbeats 4000000 in
theorem nat_Gcd (a b : Nat) (s t v : ByteArray) (hs : nbA a = s) (ht : nbA b = t) (ha : nl a ≤ 16384) (hb : nl b ≤ 16384) (hv : nbA (Nat.gcd a b) = v) (w : World) :
    Calls Tryz.prog 36 #[.string s, .string t] w fun e w' => e = .returned (.string v) ∧ Below w.heap.size w w' := by
  have HS := box hs
  have HT := box ht
  have HV := box hv
  have HA := box ha
  have HB := box hb
  clear hs ht hv ha hb
  go_enter Tryz.func36, Tryz.ntmps36
  go_wp2
  go_loopw [0, 1] (fun av bv wr => ∃ (x y : Nat) (X Y : ByteArray), av = .string X ∧ bv = .string Y ∧ Below w.heap.size w wr ∧ Box (nbA x = X) ∧ Box (nbA y = Y) ∧ Box (nl x ≤ 16384) ∧ Box (nl y ≤ 16384) ∧ Box (Nat.gcd x y = Nat.gcd a b)) (fun _ bv _ => strV bv)
  case atStart => exact ⟨a, b, s, t, rfl, rfl, Below.refl _ _, HS, HT, HA, HB, box rfl⟩
  case round =>
    obtain ⟨x, y, X, Y, rfl, rfl, hbw, HX, HY, LX, LY, HG⟩ := hrel
    have e2 := eq_empty Y
    have hz : Y.size = nl y := by rw [← HY.out, nbA_size]
    by_cases hy : y = 0
    · rw [decide_eq_true (by rw [hz, hy, nl_zero])] at e2
      have eX : X = v := by
        have h := HG.out
        rw [hy, Nat.gcd_zero_right] at h
        rw [← HX.out, ← HV.out, h]
      subst eX
      clear hz hy
      go_wp2
      go_ret
      exact ⟨rfl, hbw⟩
    · have hp := nl_pos y hy
      rw [decide_eq_false (by omega)] at e2
      obtain ⟨q, hq⟩ : ∃ q, nbA (x / y) = q := ⟨_, rfl⟩
      obtain ⟨r, hr⟩ : ∃ r, x % y = r := ⟨_, rfl⟩
      obtain ⟨R, hR⟩ : ∃ R, nbA (x % y) = R := ⟨_, rfl⟩
      have rl : r < y := by rw [← hr]; exact Nat.mod_lt _ (by omega)
      have HQ := box hq
      have HR := box hR
      have HR2 : Box (nbA r = R) := box (by rw [← hr]; exact hR)
      have HY0 := box hy
      have LR : Box (nl r ≤ 16384) := box (by have := nl_mono r y (by omega); have := LY.out; omega)
      have NG : Box (Nat.gcd y r = Nat.gcd a b) := box (by rw [← HG.out, ← hr, Nat.gcd_comm y, ← Nat.gcd_rec, Nat.gcd_comm])
      have M1 := box (strV_nb y Y HY.out)
      have M2 := box (strV_nb r R HR2.out)
      clear hz hy hq hr hR hp
      go_wp2_with fail
      refine (nat_Div x y X Y q R HX.out HY.out LX.out HY0.out HQ.out HR.out _).mono ?_
      rintro e w1 ⟨rfl, hb1⟩
      go_wp2
      go_roundw
      case rel => exact ⟨y, r, Y, R, rfl, rfl, hbw.trans (hb1.mono hbw.size), HY, HR2, LY, LR, NG⟩
      case measure => rw [M1.out, M2.out]; exact rl
def SL (B : Nat) (w : World) (p : Option Addr) (L c n : Nat) : Prop := n < 2 ^ (64 * L) ∧ L ≤ c ∧ (0 < L → ∃ b o, p = some ⟨b, o, none⟩ ∧ b < B ∧ ∀ k, k < L → w.cell? ⟨b, o + k, none⟩ = some (.int .u64 (wd n k : Nat)))
theorem SL.mono {B B' : Nat} {w : World} {p : Option Addr} {L c n : Nat} (h : SL B w p L c n) (hB : B ≤ B') : SL B' w p L c n :=
  ⟨h.1, h.2.1, fun hL => by
    obtain ⟨b, o, hp, hlt, hc⟩ := h.2.2 hL
    exact ⟨b, o, hp, Nat.lt_of_lt_of_le hlt hB, hc⟩⟩
theorem cell_size {w : World} {b o : Nat} {v : Value} (h : w.cell? ⟨b, o, none⟩ = some v) : b < w.heap.size := by
  by_cases e : b < w.heap.size
  · exact e
  · exfalso
    have : w.heap[b]? = none := Array.getElem?_eq_none (by omega)
    simp [World.cell?, this] at h
def Only (g : Nat) (w w' : World) : Prop := w'.os = w.os ∧ w'.tape = w.tape ∧ w'.output = w.output ∧ w.heap.size ≤ w'.heap.size ∧ ∀ k, k < w.heap.size → k ≠ g → w'.heap[k]? = w.heap[k]?
theorem Only.refl (g : Nat) (w : World) : Only g w w := ⟨rfl, rfl, rfl, Nat.le_refl _, fun _ _ _ => rfl⟩
theorem Only.trans {g : Nat} {a b c : World} (h : Only g a b) (k : Only g b c) : Only g a c :=
  ⟨k.1.trans h.1, k.2.1.trans h.2.1, k.2.2.1.trans h.2.2.1, Nat.le_trans h.2.2.2.1 k.2.2.2.1, fun i hi hg => (k.2.2.2.2 i (Nat.lt_of_lt_of_le hi h.2.2.2.1) hg).trans (h.2.2.2.2 i hi hg)⟩
theorem Only.size {g : Nat} {a b : World} (h : Only g a b) : a.heap.size ≤ b.heap.size := h.2.2.2.1
theorem Only.setCell {g o : Nat} {a w : World} (h : Only g a w) (u : Value) : Only g a (w.setCell ⟨g, o, none⟩ u) :=
  h.trans ⟨rfl, rfl, rfl, by simp [World.setCell], fun k _ hg => Below.heap_setCell _ _ _ _ hg⟩
theorem Only.drew {g : Nat} {a w : World} (h : Only g a w) : Only g a w.drew := h.trans ⟨rfl, rfl, rfl, Nat.le_refl _, fun _ _ _ => rfl⟩
theorem Only.row {g b : Nat} {w w' : World} {c : Array Value} {t : TypeId} (k : Only g w w') (hb : b ≠ g) (h : w.heap[b]? = some (.cells c t)) : w'.heap[b]? = some (.cells c t) := by
  rw [k.2.2.2.2 b (Array.getElem?_eq_some_iff.1 h).1 hb, h]
theorem SL.only {B g : Nat} {w w' : World} {p : Option Addr} {L c n : Nat} (h : SL B w p L c n) (k : Only g w w') (hB : B ≤ g) : SL B w' p L c n := by
  refine ⟨h.1, h.2.1, fun hL => ?_⟩
  obtain ⟨b, o, hp, hlt, hc⟩ := h.2.2 hL
  refine ⟨b, o, hp, hlt, fun i hi => ?_⟩
  have h1 := hc i hi
  rw [World.cell?_of_block (w := w) (k.2.2.2.2 b (cell_size h1) (by omega))]
  exact h1

theorem SL.cell {B : Nat} {w : World} {b o L c n : Nat} (h : SL B w (some ⟨b, o, none⟩) L c n) (k x : Nat) (hk : k < L) (hx : wd n k = x) : w.cell? ⟨b, o + k, none⟩ = some (.int .u64 (x : Nat)) := by
  obtain ⟨b', o', e, _, hc⟩ := h.2.2 (by omega)
  simp only [Option.some.injEq, Addr.mk.injEq] at e
  obtain ⟨rfl, rfl, _⟩ := e
  rw [hc k hk, hx]
theorem SL.row {w : World} {b N X c : Nat} {T : TypeId} (r : w.heap[b]? = some (.cells (cw N X) T)) (B : Nat) (hB : b < B) (hX : X < 2 ^ (64 * N)) (hc : N ≤ c) : SL B w (some ⟨b, 0, none⟩) N c X :=
  ⟨hX, hc, fun _ => ⟨b, 0, rfl, hB, fun k hk => by rw [Nat.zero_add, cell_of_row w b k _ _ _ r, cw_at N X k hk]⟩⟩

theorem bal (w : World) (o : Obj) : Below w.heap.size w (w.alloc o) := (Below.refl _ _).alloc (Nat.le_refl _) _
theorem btr {a b c : World} (h : Below a.heap.size a b) (k : Below b.heap.size b c) : Below a.heap.size a c := h.trans (k.mono h.size)

theorem blen_shl (b n : Nat) (hb : b ≠ 0) : blen (b * 2 ^ n) = blen b + n := by
  have h1 := blen_le b hb
  have h2 := blen_lt b
  have h3 := blen_pos b hb
  have e : blen b + n = blen b - 1 + n + 1 := by omega
  rw [e]
  apply blen_of
  · rw [Nat.pow_add]; exact Nat.mul_le_mul_right _ h1
  · rw [show blen b - 1 + n + 1 = blen b + n by omega, Nat.pow_add]
    exact Nat.mul_lt_mul_of_pos_right h2 (Nat.two_pow_pos _)
end Go.Proofs.YtpdehipeakcaiaaGreatDoor
namespace Go.Proofs.YtpdehipeakcaiaaGreatDoor.WMath
set_option maxRecDepth 100000
set_option maxHeartbeats 40000000
set_option maxRecDepth 100000
def gs (hi lo top : Nat) : Nat := if hi < top then (hi * 18446744073709551616 + lo) / top else 18446744073709551615
end Go.Proofs.YtpdehipeakcaiaaGreatDoor.WMath
