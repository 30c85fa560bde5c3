/-
  What the functions that the statement reaches return: part 6 (List19, Xmath, X1, X2).
-/
import Derived.Test.YtkmlbjlaahcahaaGreatDoorNa05
namespace Go.Proofs.YtkmlbjlaahcahaaGreatDoor
set_option maxRecDepth 100000
open Go.RowKit WMath

theorem wd0_small (y : Nat) (h : wl y ≤ 1) : wd y 0 = y := by
  have h1 := Nat.lt_of_lt_of_le (wl_lt y) (pow64_le _ 1 h)
  unfold wd
  rw [Nat.mul_zero, Nat.pow_zero, Nat.div_one, Nat.mod_eq_of_lt (by rw [Nat.mul_one, ← two64] at h1; exact h1)]

theorem cw1g (x : Nat) (h : x < 18446744073709551616) : #[Value.int .u64 (x : Nat)] = cw 1 x := by
  have e : wd x 0 = x := by unfold wd; rw [Nat.mul_zero, Nat.pow_zero, Nat.div_one, Nat.mod_eq_of_lt h]
  show _ = #[Value.int .u64 (wd x 0 : Nat)]
  rw [e]

set_option maxRecDepth 100000 in
set_option maxHeartbeats 2000000 in
theorem l_divisor (w : World) (p q : Option Addr) (L c a M d b B g : Nat) (ha : SL B w p L c a) (hb : SL B w q M d b) (hB : B ≤ w.heap.size) (hL : L ≤ 5000) (hM : M ≤ 5000) (la : wl a = L) (lb : wl b = M) (hg : Nat.gcd a b = g) :
    Calls Tryz.prog 226 #[.slice p L c, .slice q M d] w fun r w' => ∃ u K e, r = .returned (.slice u K e) ∧ SL w'.heap.size w' u K e g ∧ K ≤ 5000 ∧ Below w.heap.size w w' := by
  obtain ⟨k, hk⟩ : ∃ k, cmpv a b = k := ⟨_, rfl⟩
  obtain ⟨F, hF⟩ := num_fun
  have HF := box hF
  have HC := box (l_compare w p q L c a M d b B B k ha hb (by omega) (by omega) la lb hB hB hk)
  have LA := box la
  have LB := box lb
  have HG := box hg
  have hcase : (decide (k < 0) = true ∧ a ≤ b) ∨ (decide (k < 0) = false ∧ b ≤ a) := by
    unfold cmpv at hk
    by_cases e : a = b
    · rw [if_pos e] at hk; right; exact ⟨decide_eq_false (by omega), by omega⟩
    · rw [if_neg e] at hk
      by_cases e2 : a < b
      · rw [if_pos e2] at hk; left; exact ⟨decide_eq_true (by omega), by omega⟩
      · rw [if_neg e2] at hk; right; exact ⟨decide_eq_false (by omega), by omega⟩
  clear hk hF la lb hg
  rcases hcase with ⟨d0, hab⟩ | ⟨d0, hab⟩
  all_goals
    go_enter Tryz.func226, Tryz.ntmps226
    go_wp2_with fail
    refine HC.out.mono ?_
    rintro e w1 ⟨rfl, b1⟩
    have sa := (ha.below b1 hB).mono (Nat.le_trans hB b1.size)
    have sb := (hb.below b1 hB).mono (Nat.le_trans hB b1.size)
    go_wp2
    go_loopw [0, 1] (fun av bv wr => ∃ (p' q' : Option Addr) (L' c' M' d' : Nat), av = .slice p' L' c' ∧ bv = .slice q' M' d' ∧ L' ≤ 5000 ∧ M' ≤ 5000 ∧ Below w.heap.size w wr ∧ Box (∃ x y, SL wr.heap.size wr p' L' c' x ∧ SL wr.heap.size wr q' M' d' y ∧ wl x = L' ∧ wl y = M' ∧ y ≤ x ∧ Nat.gcd x y = g)) (fun _ bv wr => F wr bv)
    case atStart => first
      | exact ⟨p, q, L, c, M, d, rfl, rfl, hL, hM, b1, box ⟨a, b, sa, sb, LA.out, LB.out, hab, HG.out⟩⟩
      | exact ⟨q, p, M, d, L, c, rfl, rfl, hM, hL, b1, box ⟨b, a, sb, sa, LB.out, LA.out, hab, by rw [Nat.gcd_comm]; exact HG.out⟩⟩
    case round =>
      clear sa sb
      obtain ⟨p', q', L', c', M', d', rfl, rfl, hL', hM', hbw, HE⟩ := hrel
      obtain ⟨x, y, sx, sy, lx, ly, hyx, hgg⟩ := HE.out
      clear HE
      by_cases hM2 : 1 < M'
      · have d1 : decide (1 < M') = true := decide_eq_true hM2
        have FY := box (HF.out _ _ _ _ _ _ sy)
        have SH := box (l_shorten wr p' q' L' c' x M' d' y wr.heap.size sx sy (Nat.le_refl _) (by omega) lx ly hyx hM2)
        have LX := box lx
        have LY := box ly
        have GG := box hgg
        have HYX := box hyx
        clear lx ly hgg hyx sx sy
        go_wp2_with fail
        refine SH.out.mono ?_
        rintro e w2 ⟨u, v, f1, f2, X, S, K1, K2, rfl, sX, sS, lX, lS, hgX, hSX, hSy, hXy, b2⟩
        have FS := box (HF.out _ _ _ _ _ _ sS)
        have NB : Box (∃ x y, SL w2.heap.size w2 u K1 f1 x ∧ SL w2.heap.size w2 v K2 f2 y ∧ wl x = K1 ∧ wl y = K2 ∧ y ≤ x ∧ Nat.gcd x y = g) := box ⟨X, S, sX, sS, lX, lS, hSX, by rw [hgX]; exact GG.out⟩
        have k1 : K1 ≤ 5000 := by rw [← lX]; exact Nat.le_trans (wl_mono _ _ hXy) (by rw [LY.out]; exact hM')
        have k2 : K2 ≤ 5000 := by rw [← lS]; exact Nat.le_trans (wl_mono S y (by omega)) (by rw [LY.out]; exact hM')
        have c2 : Below w.heap.size w w2 := btr hbw b2
        have SY := box hSy
        clear sX sS lX lS hgX hSX hSy hXy b2
        go_wp2
        go_roundw
        case rel => exact ⟨_, _, _, _, _, _, rfl, rfl, k1, k2, c2, NB⟩
        case measure =>
          show F _ _ < F _ _
          rw [FS.out, FY.out]
          exact SY.out
      · have d1 : decide (1 < M') = false := decide_eq_false hM2
        by_cases h0 : M' = 0
        · subst h0
          have ey : y = 0 := wl_eq0 y ly
          subst ey
          rw [Nat.gcd_zero_right] at hgg
          subst hgg
          have SX := box sx
          clear lx ly hyx sx sy
          go_wp2
          go_ret
          exact ⟨_, _, _, rfl, SX.out, hL', hbw⟩
        · obtain rfl : M' = 1 := by omega
          obtain ⟨bq, oq, rfl, _⟩ := sy.ptr (by omega)
          have y0 : y ≠ 0 := fun e => by rw [e, wl_zero] at ly; omega
          have c1 := sy.cell 0 y (by omega) (wd0_small y (by omega))
          rw [Nat.add_zero] at c1
          have y64 : y < 18446744073709551616 := by rw [← wd0_small y (by omega)]; exact wd_lt _ _
          by_cases h1 : y = 1
          · subst h1
            rw [Nat.gcd_one_right] at hgg
            subst hgg
            have SY := box sy
            clear lx ly hyx sx sy
            go_wp2
            go_ret
            exact ⟨_, _, _, rfl, SY.out, by omega, hbw⟩
          · have d2 : ((y : Int) == 1) = false := by simp; omega
            obtain ⟨K1, hK1⟩ : ∃ K1, wl (x / y) = K1 := ⟨_, rfl⟩
            obtain ⟨K2, hK2⟩ : ∃ K2, wl (x % y) = K2 := ⟨_, rfl⟩
            have K2b : K2 ≤ 1 := by rw [← hK2, ← ly]; exact wl_mono _ _ (Nat.le_of_lt (Nat.mod_lt _ (Nat.pos_of_ne_zero y0)))
            have DV := box (l_divide wr p' _ L' c' x 1 d' y wr.heap.size K1 K2 sx sy (Nat.le_refl _) (by omega) (by omega) ly y0 hK1 hK2)
            obtain ⟨z, hz⟩ : ∃ z, x % y = z := ⟨_, rfl⟩
            have zy : z < y := by rw [← hz]; exact Nat.mod_lt _ (Nat.pos_of_ne_zero y0)
            have hgz : Nat.gcd y z = g := by rw [← hgg, ← hz, Nat.gcd_comm x y, Nat.gcd_rec y x, Nat.gcd_comm]
            have WD := box (fun W => l_wordDivisor y z g y64 (by omega) hgz W)
            have g64 : g < 18446744073709551616 := by
              have := Nat.gcd_le_left z (Nat.pos_of_ne_zero y0)
              rw [hgz] at this
              omega
            have HZ := box hz
            have WY : Box (wl y ≤ 1) := box (by omega)
            have G64 := box g64
            have W0 : Box (wd z 0 = z) := box (wd0_small z (by rw [← hz, hK2]; exact K2b))
            clear lx ly hyx hgg hK1 hK2 hz hgz sx
            go_wp2_with fail
            refine DV.out.mono ?_
            rintro e w2 ⟨u, f1, v, f2, rfl, _, sv, b2⟩
            rw [HZ.out] at sv
            have c2 := (sy.below b2 (Nat.le_refl _)).cell 0 y (by omega) (wd0_small y WY.out)
            rw [Nat.add_zero] at c2
            have b3 := btr hbw b2
            have AT := box (fun W (h : Below w2.heap.size w2 W) => l_at W v K2 f2 z 0 z (sv.below h (Nat.le_refl _)) W0.out (by omega))
            clear sv b2 sy c1 DV hbw HF HC LA LB HG b1 g64 y0
            go_wp2
            go_region_with (first
              | (go_at_call 253; refine (AT.out _ ?_).mono ?_; exact (Below.refl w2.heap.size w2).drew; rintro e w' ⟨rfl, rfl⟩)
              | (go_at_call 252; refine (WD.out _).mono ?_; rintro e w5 ⟨rfl, b5⟩))
            all_goals
              have b6 : Below w.heap.size w w5 := btr b3 (((Below.refl w2.heap.size w2).drew).trans b5)
              have r6 : (w5.alloc (.cells #[.int .u64 (g : Nat)] 23)).heap[w5.heap.size]? = some (.cells (cw 1 g) 23) := by rw [← cw1g g G64.out]; exact heap_alloc_last _ _
              have s6 : SL (w5.alloc (.cells #[.int .u64 (g : Nat)] 23)).heap.size (w5.alloc (.cells #[.int .u64 (g : Nat)] 23)) (some ⟨w5.heap.size, 0, none⟩) 1 1 g := SL.row r6 _ (Array.getElem?_eq_some_iff.1 r6).1 (by rw [Nat.mul_one, ← two64]; exact G64.out) (Nat.le_refl _)
              have S6 := box s6
              clear r6 s6
              go_wp2
              go_ret
              exact ⟨_, _, _, rfl, S6.out, by omega, btr b6 (bal _ _)⟩

set_option maxRecDepth 100000 in
theorem pn_gcd_ok (a b : Nat) (s t v : ByteArray) (hs : nbA a = s) (ht : nbA b = t) (ha : nl a ≤ 16384) (hb : nl b ≤ 16384) (hv : nbA (Nat.gcd a b) = v) (w : World) :
    Calls Tryz.prog 192 #[.string s, .string t] w fun r w' => r = .returned (.tuple #[.string v, .int .i64 0]) ∧ Below w.heap.size w w' := by
  have HO := box (ok2 hs ht ha hb)
  have HS := box hs
  have HT := box ht
  have HA := box ha
  have HB := box hb
  have HV := box hv
  obtain ⟨K, hK⟩ : ∃ K, wl a = K := ⟨_, rfl⟩
  obtain ⟨M, hM⟩ : ∃ M, wl b = M := ⟨_, rfl⟩
  have hK2 : K ≤ 2048 := by rw [← hK]; exact wl_of_nl a ha
  have hM2 : M ≤ 2048 := by rw [← hM]; exact wl_of_nl b hb
  have HK := box hK
  have HM := box hM
  have b0 := bal w (.cells #[.string s, .string t] 26)
  clear hs ht ha hb hv hK hM
  go_enter Tryz.func192, Tryz.ntmps192
  go_wp2_with fail
  refine (n_may2 s t true HO.out _ w).mono ?_
  rintro r w0 ⟨rfl, rfl⟩
  go_wp2_with fail
  refine (l_wordsOf a K s HS.out (by have := HA.out; omega) HK.out _).mono ?_
  rintro r w1 ⟨p, c, rfl, s1, b1⟩
  go_wp2_with fail
  refine (l_wordsOf b M t HT.out (by have := HB.out; omega) HM.out _).mono ?_
  rintro r w2 ⟨q, d, rfl, s2, b2⟩
  go_wp2_with fail
  refine (l_divisor w2 p q K c a M d b w2.heap.size _ ((s1.below b2 (Nat.le_refl _)).mono b2.size) s2 (Nat.le_refl _) (by omega) (by omega) HK.out HM.out rfl).mono ?_
  rintro r w3 ⟨u, N, f, rfl, s3, N2, b3⟩
  go_wp2_with fail
  refine (l_natOf w3 u N f (Nat.gcd a b) _ v s3 (Nat.le_refl _) (by omega) HV.out).mono ?_
  rintro r w4 ⟨rfl, b4⟩
  go_wp2
  go_ret2
  exact ⟨rfl, btr b0 (btr b1 (btr b2 (btr b3 b4)))⟩
end Go.Proofs.YtkmlbjlaahcahaaGreatDoor
namespace Go.Proofs.YtkmlbjlaahcahaaGreatDoor.XMath
set_option maxRecDepth 100000
open WMath

/-- How many twos a number has. -/
def tz (n : Nat) : Nat := if h : n = 0 ∨ n % 2 = 1 then 0 else tz (n / 2) + 1
termination_by n
decreasing_by omega
theorem tz_odd (n : Nat) (h : n % 2 = 1) : tz n = 0 := by rw [tz, dif_pos (Or.inr h)]
theorem tz_even (n : Nat) (h0 : n ≠ 0) (h : n % 2 = 0) : tz n = tz (n / 2) + 1 := by rw [tz, dif_neg (by omega)]
theorem tz_is (n : Nat) (h : n ≠ 0) : ∃ m, n = m * 2 ^ tz n ∧ m % 2 = 1 := by
  induction n using Nat.strongRecOn with
  | _ n ih =>
    by_cases h1 : n % 2 = 1
    · exact ⟨n, by rw [tz_odd n h1, Nat.pow_zero, Nat.mul_one], h1⟩
    · obtain ⟨m, hm, ho⟩ := ih (n / 2) (by omega) (by omega)
      refine ⟨m, ?_, ho⟩
      rw [tz_even n h (by omega), Nat.pow_succ, ← Nat.mul_assoc, ← hm]
      omega
/-- A number without its twos. -/
def od (n : Nat) : Nat := n / 2 ^ tz n
theorem od_is (n : Nat) (h : n ≠ 0) : n = od n * 2 ^ tz n ∧ od n % 2 = 1 := by
  obtain ⟨m, hm, ho⟩ := tz_is n h
  have e : od n = m := by
    unfold od
    generalize tz n = k at hm ⊢
    rw [hm]
    exact Nat.mul_div_cancel _ (Nat.two_pow_pos _)
  rw [e]
  exact ⟨hm, ho⟩
theorem od_odd (n : Nat) (h : n % 2 = 1) : od n = n := by unfold od; rw [tz_odd n h, Nat.pow_zero, Nat.div_one]
theorem od_le (n : Nat) : od n ≤ n := Nat.div_le_self _ _
theorem tz_low (n : Nat) : LowN n (tz n) := by
  by_cases h : n = 0
  · left
    exact ⟨h, by rw [h, tz, dif_pos (Or.inl rfl)]⟩
  · right
    obtain ⟨h1, h2⟩ := od_is n h
    refine ⟨h, ?_, ?_⟩
    · generalize tz n = k at h1
      rw [h1, Nat.mul_mod_left]
    · rw [Nat.testBit, Nat.shiftRight_eq_div_pow]
      have e : n / 2 ^ tz n = od n := rfl
      rw [e]
      simp only [Nat.one_and_eq_mod_two, bne_iff_ne, ne_eq]
      omega
theorem tz_blen (n : Nat) : tz n ≤ blen n := by
  by_cases h : n = 0
  · rw [h, tz, dif_pos (Or.inl rfl)]; omega
  · obtain ⟨h1, h2⟩ := od_is n h
    have h3 : 2 ^ tz n ≤ n := by
      generalize tz n = k at h1 ⊢
      rw [h1]
      exact Nat.le_mul_of_pos_left _ (by omega)
    have h4 := blen_lt n
    exact Nat.le_of_lt ((Nat.pow_lt_pow_iff_right (by decide : 1 < 2)).1 (Nat.lt_of_le_of_lt h3 h4))

/-- A rational number: its sign, numerator, denominator, exponent. -/
structure XN where
  b : Bool
  n : Nat
  d : Nat
  e : Int
/-- May it be? -/
def XN.can (x : XN) : Prop := nl x.n ≤ 16384 ∧ nl x.d ≤ 16384 ∧ -1048576 ≤ x.e ∧ x.e ≤ 1048576 ∧ ((x.b = false ∧ x.n = 0 ∧ x.d = 1 ∧ x.e = 0) ∨ (x.n % 2 = 1 ∧ x.d % 2 = 1 ∧ Nat.gcd x.n x.d = 1))
def sgn (b : Bool) : Rat := if b then -1 else 1
def XN.val (x : XN) : Rat := sgn x.b * ((x.n : Rat) / (x.d : Rat)) * (2 : Rat) ^ x.e
def X0 : XN := ⟨false, 0, 1, 0⟩
def XZ : XN := ⟨false, 0, 0, 0⟩
theorem XN.can.d {x : XN} (h : x.can) : x.d % 2 = 1 := by rcases h.2.2.2.2 with h | h <;> omega
theorem XN.can.d0 {x : XN} (h : x.can) : x.d ≠ 0 := by have := h.d; omega
theorem XN.can.null {x : XN} (h : x.can) (h0 : x.n = 0) : x = X0 := by
  rcases h.2.2.2.2 with h | h
  · cases x; simp_all [X0]
  · omega
theorem XN.can.odd {x : XN} (h : x.can) (h0 : x.n ≠ 0) : x.n % 2 = 1 ∧ x.d % 2 = 1 ∧ Nat.gcd x.n x.d = 1 := by
  rcases h.2.2.2.2 with h | h
  · exact absurd h.2.1 h0
  · exact h
theorem x0_can : X0.can := ⟨Nat.le_trans (nl_mono 0 1 (by decide)) (Nat.le_trans (nl_le_of 1 1 (by decide)) (by decide)), Nat.le_trans (nl_le_of 1 1 (by decide)) (by decide), by decide, by decide, Or.inl ⟨rfl, rfl, rfl, rfl⟩⟩

def mk (neg : Bool) (n d : Nat) (e : Int) : XN × Int :=
  if n = 0 then (X0, 0)
  else if -1048576 ≤ e + (tz n : Int) - (tz d : Int) ∧ e + (tz n : Int) - (tz d : Int) ≤ 1048576 then (⟨neg, od n / Nat.gcd (od n) (od d), od d / Nat.gcd (od n) (od d), e + (tz n : Int) - (tz d : Int)⟩, 0)
  else (XZ, 4)
theorem mk_null (neg : Bool) (d : Nat) (e : Int) : mk neg 0 d e = (X0, 0) := by unfold mk; rw [if_pos rfl]
theorem div_odd (a g : Nat) (h : g ∣ a) (ha : a % 2 = 1) : a / g % 2 = 1 := by
  obtain ⟨k, rfl⟩ := h
  have g0 : 0 < g := by
    rcases Nat.eq_zero_or_pos g with h | h
    · rw [h, Nat.zero_mul] at ha; omega
    · exact h
  rw [Nat.mul_div_cancel_left _ g0]
  rcases Nat.mod_two_eq_zero_or_one k with h | h
  · rw [Nat.mul_mod, h, Nat.mul_zero] at ha; omega
  · exact h
theorem mul_odd (a b : Nat) (ha : a % 2 = 1) (hb : b % 2 = 1) : a * b % 2 = 1 := by rw [Nat.mul_mod, ha, hb]
theorem mk_can (neg : Bool) (n d : Nat) (e : Int) (hn : nl n ≤ 16384) (hd : nl d ≤ 16384) (d0 : d ≠ 0) (h : (mk neg n d e).2 = 0) : (mk neg n d e).1.can := by
  unfold mk at h ⊢
  split
  · exact x0_can
  · rename_i n0
    rw [if_neg n0] at h
    split
    · rename_i hb
      obtain ⟨h1, h2⟩ := od_is n n0
      obtain ⟨h3, h4⟩ := od_is d d0
      have g1 := Nat.gcd_dvd_left (od n) (od d)
      have g2 := Nat.gcd_dvd_right (od n) (od d)
      refine ⟨Nat.le_trans (nl_mono _ _ (Nat.le_trans (Nat.div_le_self _ _) (od_le n))) hn, Nat.le_trans (nl_mono _ _ (Nat.le_trans (Nat.div_le_self _ _) (od_le d))) hd, hb.1, hb.2, Or.inr ⟨div_odd _ _ g1 h2, div_odd _ _ g2 h4, ?_⟩⟩
      show Nat.gcd (od n / Nat.gcd (od n) (od d)) (od d / Nat.gcd (od n) (od d)) = 1
      rw [Nat.gcd_div g1 g2]
      exact Nat.div_self (Nat.gcd_pos_of_pos_left _ (by omega))
    · rename_i hb
      rw [if_neg hb] at h
      exact absurd h (by decide)
theorem p2 (e : Int) : (0 : Rat) < (2 : Rat) ^ e := Rat.zpow_pos (by decide)
theorem p2ne (e : Int) : (2 : Rat) ^ e ≠ 0 := Rat.ne_of_gt (p2 e)
theorem p2add (e f : Int) : (2 : Rat) ^ (e + f) = (2 : Rat) ^ e * (2 : Rat) ^ f := Rat.zpow_add (by decide) e f
theorem p2nat (n : Nat) : (2 : Rat) ^ (n : Int) = ((2 ^ n : Nat) : Rat) := by rw [Rat.zpow_natCast, Rat.natCast_pow]; rfl
theorem p2sub (e f : Int) : (2 : Rat) ^ (e - f) * (2 : Rat) ^ f = (2 : Rat) ^ e := by rw [← p2add, Int.sub_add_cancel]
theorem mk_val (neg : Bool) (n d : Nat) (e : Int) (d0 : d ≠ 0) (h : (mk neg n d e).2 = 0) : (mk neg n d e).1.val = sgn neg * ((n : Rat) / (d : Rat)) * (2 : Rat) ^ e := by
  unfold mk at h ⊢
  split
  · rename_i n0
    rw [n0]
    show sgn false * (((0 : Nat) : Rat) / ((1 : Nat) : Rat)) * (2 : Rat) ^ (0 : Int) = sgn neg * (((0 : Nat) : Rat) / (d : Rat)) * (2 : Rat) ^ e
    have : ((0 : Nat) : Rat) = 0 := rfl
    rw [this]
    simp [Rat.div_def]
  · rename_i n0
    rw [if_neg n0] at h
    split
    · rename_i hb
      obtain ⟨h1, h2⟩ := od_is n n0
      obtain ⟨h3, h4⟩ := od_is d d0
      obtain ⟨n', e1⟩ := Nat.gcd_dvd_left (od n) (od d)
      obtain ⟨d', e2⟩ := Nat.gcd_dvd_right (od n) (od d)
      have g0 : 0 < Nat.gcd (od n) (od d) := Nat.gcd_pos_of_pos_left _ (by omega)
      show sgn neg * (((od n / Nat.gcd (od n) (od d) : Nat) : Rat) / ((od d / Nat.gcd (od n) (od d) : Nat) : Rat)) * (2 : Rat) ^ (e + (tz n : Int) - (tz d : Int)) = _
      generalize Nat.gcd (od n) (od d) = g at *
      have c1 : od n / g = n' := by rw [e1]; exact Nat.mul_div_cancel_left _ g0
      have c2 : od d / g = d' := by rw [e2]; exact Nat.mul_div_cancel_left _ g0
      rw [c1, c2]
      have d'0 : d' ≠ 0 := by
        intro hz
        rw [hz, Nat.mul_zero] at e2
        omega
      rw [e1] at h1
      rw [e2] at h3
      have k1 : (n : Rat) = (g : Rat) * (n' : Rat) * (2 : Rat) ^ (tz n : Int) := by
        rw [p2nat, ← Rat.natCast_mul, ← Rat.natCast_mul, ← h1]
      have k2 : (d : Rat) = (g : Rat) * (d' : Rat) * (2 : Rat) ^ (tz d : Int) := by
        rw [p2nat, ← Rat.natCast_mul, ← Rat.natCast_mul, ← h3]
      have k3 := p2sub (e + (tz n : Int)) (tz d : Int)
      rw [p2add e] at k3
      have z1 := p2ne (tz d : Int)
      have z2 : (g : Rat) ≠ 0 := fun h => by rw [Rat.natCast_eq_zero_iff] at h; omega
      have z3 : (d' : Rat) ≠ 0 := fun h => d'0 (Rat.natCast_eq_zero_iff.1 h)
      rw [k1, k2]
      generalize (2 : Rat) ^ (e + (tz n : Int) - (tz d : Int)) = E at *
      generalize (2 : Rat) ^ (tz d : Int) = D at *
      generalize (2 : Rat) ^ (tz n : Int) = N at *
      generalize (2 : Rat) ^ e = F at *
      grind
    · rename_i hb
      rw [if_neg hb] at h
      exact absurd h (by decide)

theorem cast_ne {n : Nat} (h : n ≠ 0) : (n : Rat) ≠ 0 := fun e => h (Rat.natCast_eq_zero_iff.1 e)
theorem cast_pos {n : Nat} (h : n ≠ 0) : (0 : Rat) < (n : Rat) := Rat.natCast_pos.2 (by omega)
theorem sgn_ne (b : Bool) : sgn b ≠ 0 := by cases b <;> decide
/-- The magnitude. -/
def XN.mag (x : XN) : Rat := ((x.n : Rat) / (x.d : Rat)) * (2 : Rat) ^ x.e
theorem val_mag (x : XN) : x.val = sgn x.b * x.mag := by unfold XN.val XN.mag; rw [Rat.mul_assoc]
theorem mag_pos (x : XN) (hn : x.n ≠ 0) (hd : x.d ≠ 0) : 0 < x.mag := by
  unfold XN.mag
  rw [Rat.div_def]
  exact Rat.mul_pos (Rat.mul_pos (cast_pos hn) (Rat.inv_pos.2 (cast_pos hd))) (p2 _)
theorem mag_zero (x : XN) (hn : x.n = 0) : x.mag = 0 := by
  unfold XN.mag
  rw [hn]
  have : ((0 : Nat) : Rat) = 0 := rfl
  rw [this, Rat.div_def, Rat.zero_mul, Rat.zero_mul]
/-- Two magnitudes, at the lesser exponent. -/
theorem mag_shift (x y : XN) (dx : x.d ≠ 0) (m : Int) (hm : m ≤ x.e) :
    x.mag * ((x.d * y.d : Nat) : Rat) = ((x.n * y.d * 2 ^ (x.e - m).toNat : Nat) : Rat) * (2 : Rat) ^ m := by
  have e1 : (2 : Rat) ^ x.e = (2 : Rat) ^ ((x.e - m).toNat : Int) * (2 : Rat) ^ m := by
    rw [← p2add]
    congr 1
    omega
  unfold XN.mag
  rw [Rat.natCast_mul, Rat.natCast_mul, Rat.natCast_mul, ← p2nat, e1]
  have z1 := cast_ne dx
  generalize (2 : Rat) ^ ((x.e - m).toNat : Int) = A at *
  generalize (2 : Rat) ^ m = B at *
  grind
theorem mag_one (x y : XN) (hx : x.n % 2 = 1 ∧ x.d % 2 = 1 ∧ Nat.gcd x.n x.d = 1) (hy : y.n % 2 = 1 ∧ y.d % 2 = 1 ∧ Nat.gcd y.n y.d = 1) (hle : x.e ≤ y.e) (h : x.mag = y.mag) : x.n = y.n ∧ x.d = y.d ∧ x.e = y.e := by
  have d1 : x.d ≠ 0 := by omega
  have d2 : y.d ≠ 0 := by omega
  have m1 := mag_shift x y d1 x.e (Int.le_refl _)
  have m2 := mag_shift y x d2 x.e hle
  rw [h, Nat.mul_comm x.d y.d, m2] at m1
  have m3 : ((y.n * x.d * 2 ^ (y.e - x.e).toNat : Nat) : Rat) = ((x.n * y.d * 2 ^ (x.e - x.e).toNat : Nat) : Rat) := by
    have z := p2ne x.e
    generalize (2 : Rat) ^ x.e = A at *
    generalize ((y.n * x.d * 2 ^ (y.e - x.e).toNat : Nat) : Rat) = B at *
    generalize ((x.n * y.d * 2 ^ (x.e - x.e).toNat : Nat) : Rat) = C at *
    grind
  rw [Rat.natCast_inj, Int.sub_self] at m3
  have m4 : y.n * x.d * 2 ^ (y.e - x.e).toNat = x.n * y.d := by rw [m3]; simp
  have e0 : (y.e - x.e).toNat = 0 := by
    by_cases hz : (y.e - x.e).toNat = 0
    · exact hz
    · exfalso
      obtain ⟨k, hk⟩ : ∃ k, (y.e - x.e).toNat = k + 1 := ⟨_, (Nat.succ_pred_eq_of_ne_zero hz).symm⟩
      rw [hk, Nat.pow_succ, ← Nat.mul_assoc] at m4
      have := mul_odd _ _ hx.1 hy.2.1
      omega
  rw [e0, Nat.pow_zero, Nat.mul_one] at m4
  have q1 : x.n ∣ y.n := by
    have : x.n ∣ y.n * x.d := ⟨y.d, m4⟩
    exact Nat.Coprime.dvd_of_dvd_mul_right hx.2.2 this
  have q2 : y.n ∣ x.n := by
    have : y.n ∣ x.n * y.d := ⟨x.d, m4.symm⟩
    exact Nat.Coprime.dvd_of_dvd_mul_right hy.2.2 this
  have q3 := Nat.dvd_antisymm q1 q2
  refine ⟨q3, ?_, by omega⟩
  rw [q3] at m4
  exact Nat.eq_of_mul_eq_mul_left (by omega) m4
/-- Reduced forms are one. -/
theorem can_inj (x y : XN) (hx : x.can) (hy : y.can) (h : x.val = y.val) : x = y := by
  rw [val_mag, val_mag] at h
  by_cases n1 : x.n = 0
  · rw [mag_zero x n1, Rat.mul_zero] at h
    by_cases n2 : y.n = 0
    · rw [hx.null n1, hy.null n2]
    · exfalso
      have p := mag_pos y n2 hy.d0
      rcases (Rat.mul_eq_zero.1 h.symm) with h | h
      · exact sgn_ne _ h
      · rw [h] at p; exact absurd p Rat.lt_irrefl
  · by_cases n2 : y.n = 0
    · exfalso
      rw [mag_zero y n2, Rat.mul_zero] at h
      have p := mag_pos x n1 hx.d0
      rcases (Rat.mul_eq_zero.1 h) with h | h
      · exact sgn_ne _ h
      · rw [h] at p; exact absurd p Rat.lt_irrefl
    · have p1 := mag_pos x n1 hx.d0
      have p2 := mag_pos y n2 hy.d0
      have hb : x.b = y.b := by
        cases e1 : x.b <;> cases e2 : y.b
        · rfl
        · exfalso
          rw [e1, e2] at h
          unfold sgn at h
          simp at h
          grind
        · exfalso
          rw [e1, e2] at h
          unfold sgn at h
          simp at h
          grind
        · rfl
      have hm : x.mag = y.mag := by
        rw [hb] at h
        have := sgn_ne y.b
        generalize sgn y.b = s at *
        grind
      have key : x.n = y.n ∧ x.d = y.d ∧ x.e = y.e := by
        by_cases hle : x.e ≤ y.e
        · exact mag_one x y (hx.odd n1) (hy.odd n2) hle hm
        · obtain ⟨a, b, c⟩ := mag_one y x (hy.odd n2) (hx.odd n1) (by omega) hm.symm
          exact ⟨a.symm, b.symm, c.symm⟩
      obtain ⟨k1, k2, k3⟩ := key
      cases x; cases y
      simp_all

/-- What the sum's formula makes of the one number: at the lesser exponent, over both denominators. -/
def sA (x y : XN) : Nat := x.n * y.d * 2 ^ (x.e - min x.e y.e).toNat
def sS (x y : XN) : Nat := if x.b = y.b then sA x y + sA y x else if sA x y < sA y x then sA y x - sA x y else sA x y - sA y x
def sN (x y : XN) : Bool := if x.b = y.b then x.b else if sA x y < sA y x then y.b else x.b
def addX (x y : XN) : XN × Int :=
  if x.n = 0 then (y, 0) else if y.n = 0 then (x, 0)
  else if nl (sA x y) ≤ 16384 ∧ nl (sA y x) ≤ 16384 ∧ nl (x.d * y.d) ≤ 16384 ∧ nl (sS x y) ≤ 16384 then mk (sN x y) (sS x y) (x.d * y.d) (min x.e y.e) else (XZ, 4)
theorem sA_mag (x y : XN) (dx : x.d ≠ 0) : x.mag * ((x.d * y.d : Nat) : Rat) = ((sA x y : Nat) : Rat) * (2 : Rat) ^ (min x.e y.e) :=
  mag_shift x y dx _ (Int.min_le_left _ _)
theorem mul_ne {a b : Nat} (ha : a ≠ 0) (hb : b ≠ 0) : a * b ≠ 0 := fun h => by rcases Nat.mul_eq_zero.1 h with h | h <;> contradiction
theorem sS_val (x y : XN) : sgn (sN x y) * ((sS x y : Nat) : Rat) = sgn x.b * ((sA x y : Nat) : Rat) + sgn y.b * ((sA y x : Nat) : Rat) := by
  unfold sS sN
  split
  · rename_i h
    rw [h, Rat.natCast_add, Rat.mul_add]
  · rename_i h
    have hs : sgn y.b = - sgn x.b := by
      cases e1 : x.b <;> cases e2 : y.b <;> rw [e1, e2] at h <;> first | exact absurd rfl h | decide
    split
    · rename_i hl
      have e : ((sA y x - sA x y : Nat) : Rat) = ((sA y x : Nat) : Rat) - ((sA x y : Nat) : Rat) := by
        have : ((sA y x - sA x y : Nat) : Rat) + ((sA x y : Nat) : Rat) = ((sA y x : Nat) : Rat) := by rw [← Rat.natCast_add, Nat.sub_add_cancel (Nat.le_of_lt hl)]
        rw [← this]
        grind
      rw [e, hs]
      grind
    · rename_i hl
      have e : ((sA x y - sA y x : Nat) : Rat) = ((sA x y : Nat) : Rat) - ((sA y x : Nat) : Rat) := by
        have : ((sA x y - sA y x : Nat) : Rat) + ((sA y x : Nat) : Rat) = ((sA x y : Nat) : Rat) := by rw [← Rat.natCast_add, Nat.sub_add_cancel (by omega)]
        rw [← this]
        grind
      rw [e, hs]
      grind
theorem add_good (x y : XN) (hx : x.can) (hy : y.can) (h : (addX x y).2 = 0) : (addX x y).1.can ∧ (addX x y).1.val = x.val + y.val := by
  unfold addX at h ⊢
  split
  · rename_i n0
    refine ⟨hy, ?_⟩
    rw [val_mag x, mag_zero x n0, Rat.mul_zero, Rat.zero_add]
  · rename_i n0
    split
    · rename_i m0
      refine ⟨hx, ?_⟩
      rw [val_mag y, mag_zero y m0, Rat.mul_zero, Rat.add_zero]
    · rename_i m0
      rw [if_neg n0, if_neg m0] at h
      split
      · rename_i hl
        rw [if_pos hl] at h
        have dz := mul_ne hx.d0 hy.d0
        refine ⟨mk_can _ _ _ _ hl.2.2.2 hl.2.2.1 dz h, ?_⟩
        rw [mk_val _ _ _ _ dz h, val_mag x, val_mag y]
        have k1 := sA_mag x y hx.d0
        have k2 := sA_mag y x hy.d0
        have k3 := sS_val x y
        rw [Nat.mul_comm y.d x.d, show min y.e x.e = min x.e y.e from Int.min_comm _ _] at k2
        have z := cast_ne dz
        generalize (2 : Rat) ^ (min x.e y.e) = P at *
        generalize ((x.d * y.d : Nat) : Rat) = D at *
        generalize ((sA x y : Nat) : Rat) = A at *
        generalize ((sA y x : Nat) : Rat) = B at *
        generalize ((sS x y : Nat) : Rat) = S at *
        generalize sgn (sN x y) = s at *
        generalize sgn x.b = s1 at *
        generalize sgn y.b = s2 at *
        generalize x.mag = u at *
        generalize y.mag = v at *
        have e1 : s * (S / D) * P = (s * S) * P / D := by grind
        rw [e1, k3]
        have e2 : (s1 * A + s2 * B) * P / D = (s1 * (A * P) + s2 * (B * P)) / D := by grind
        rw [e2, ← k1, ← k2]
        grind
      · rename_i hl
        rw [if_neg hl] at h
        exact absurd h (by decide)
def sg (x : XN) : Int := if x.n = 0 then 0 else if x.b then -1 else 1
def cmpX (x y : XN) : Int × Int :=
  if sg x < sg y then (-1, 0) else if sg y < sg x then (1, 0) else if sg x = 0 then (0, 0)
  else if nl (sA x y) ≤ 16384 ∧ nl (sA y x) ≤ 16384 then (sg x * cmpv (sA x y) (sA y x), 0) else (0, 4)
def scaleX (x : XN) (n : Int) : XN × Int :=
  if x.n = 0 then (x, 0) else if -1048576 ≤ x.e + n ∧ x.e + n ≤ 1048576 then (⟨x.b, x.n, x.d, x.e + n⟩, 0) else (XZ, 4)
def lenD (x : XN) : Int := (blen x.n : Int) - (blen x.d : Int)
def tA (x : XN) : Nat := x.n * 2 ^ (max (-lenD x) 0).toNat
def tB (x : XN) : Nat := x.d * 2 ^ (max (lenD x) 0).toNat
def topX (x : XN) : Int := (if tA x < tB x then lenD x - 1 else lenD x) + x.e
def flX (x : XN) (e : Int) : (Nat × Bool) × Int :=
  if e < -2097152 ∨ 2097152 < e then ((0, false), 2) else if x.n = 0 then ((0, true), 0)
  else if e ≤ x.e then (if nl (x.n * 2 ^ (x.e - e).toNat) ≤ 16384 then ((x.n * 2 ^ (x.e - e).toNat / x.d, decide (x.n * 2 ^ (x.e - e).toNat % x.d = 0)), 0) else ((0, false), 4))
  else if topX x < e then ((0, false), 0) else ((x.n / (x.d * 2 ^ (e - x.e).toNat), false), 0)

def cmpR (u v : Rat) : Int := if u < v then -1 else if v < u then 1 else 0
theorem cmpR_lt (u v : Rat) : cmpR u v < 0 ↔ u < v := by
  unfold cmpR
  split
  · rename_i h
    exact ⟨fun _ => h, fun _ => by decide⟩
  · rename_i h
    split
    · exact ⟨fun h => absurd h (by decide), fun h3 => absurd h3 h⟩
    · exact ⟨fun h => absurd h (by decide), fun h3 => absurd h3 h⟩
theorem cmpR_scale (u v c : Rat) (hc : 0 < c) : cmpR (u * c) (v * c) = cmpR u v := by
  unfold cmpR
  simp only [Rat.mul_lt_mul_right hc]
theorem cmpR_nat (a b : Nat) : cmpR (a : Rat) (b : Rat) = cmpv a b := by
  unfold cmpR cmpv
  simp only [Rat.natCast_lt_natCast]
  by_cases h1 : a < b
  · rw [if_pos h1]
    first | rw [if_neg (by omega), if_pos h1] | rw [if_pos h1]
  · rw [if_neg h1]
    by_cases h2 : b < a
    · rw [if_pos h2]
      first | rw [if_neg (by omega), if_neg h1] | rw [if_neg h1, if_neg (by omega)]
    · rw [if_neg h2]
      first | rw [if_pos (by omega)] | rw [if_neg h1, if_pos (by omega)]
theorem mag_cmp (x y : XN) (dx : x.d ≠ 0) (dy : y.d ≠ 0) : cmpR x.mag y.mag = cmpv (sA x y) (sA y x) := by
  have k1 := sA_mag x y dx
  have k2 := sA_mag y x dy
  rw [Nat.mul_comm y.d x.d, show min y.e x.e = min x.e y.e from Int.min_comm _ _] at k2
  rw [← cmpR_scale x.mag y.mag _ (cast_pos (mul_ne dx dy)), k1, k2, cmpR_scale _ _ _ (p2 _), cmpR_nat]
/-- Of numbers that are not below 0. -/
theorem cmp_good (x y : XN) (hx : x.can) (hy : y.can) (bx : x.b = false) (y0 : y.n ≠ 0) (yb : y.b = false) (h : (cmpX x y).2 = 0) : (cmpX x y).1 = cmpR x.mag y.mag := by
  have sy : sg y = 1 := by unfold sg; rw [if_neg y0, yb]; rfl
  unfold cmpX at h ⊢
  by_cases x0 : x.n = 0
  · have sx : sg x = 0 := by unfold sg; rw [if_pos x0]
    rw [sx, sy, if_pos (by decide), mag_zero x x0]
    unfold cmpR
    rw [if_pos (mag_pos y y0 hy.d0)]
  · have sx : sg x = 1 := by unfold sg; rw [if_neg x0, bx]; rfl
    rw [sx, sy, if_neg (by decide), if_neg (by decide), if_neg (by decide)] at h ⊢
    split
    · rw [mag_cmp x y hx.d0 hy.d0, Int.one_mul]
    · rename_i hl
      rw [if_neg hl] at h
      exact absurd h (by decide)
theorem tA_len (x : XN) (n0 : x.n ≠ 0) (d0 : x.d ≠ 0) : blen (tA x) = blen (tB x) ∧ tA x ≠ 0 ∧ tB x ≠ 0 := by
  unfold tA tB
  rw [blen_shl _ _ n0, blen_shl _ _ d0]
  refine ⟨?_, mul_ne n0 (Nat.pos_iff_ne_zero.1 (Nat.two_pow_pos _)), mul_ne d0 (Nat.pos_iff_ne_zero.1 (Nat.two_pow_pos _))⟩
  unfold lenD
  omega
theorem tA_near (x : XN) (n0 : x.n ≠ 0) (d0 : x.d ≠ 0) : tA x < 2 * tB x ∧ tB x < 2 * tA x := by
  obtain ⟨h1, h2, h3⟩ := tA_len x n0 d0
  have a1 := blen_lt (tA x)
  have a2 := blen_le (tA x) h2
  have b1 := blen_lt (tB x)
  have b2 := blen_le (tB x) h3
  have p := blen_pos (tA x) h2
  rw [← h1] at b1 b2
  obtain ⟨k, hk⟩ : ∃ k, blen (tA x) = k + 1 := ⟨_, (Nat.succ_pred_eq_of_ne_zero (Nat.pos_iff_ne_zero.1 p)).symm⟩
  rw [hk, Nat.pow_succ] at a1 b1
  rw [hk, Nat.add_sub_cancel] at a2 b2
  omega
theorem tA_mag (x : XN) (d0 : x.d ≠ 0) : x.mag * ((tB x : Nat) : Rat) = ((tA x : Nat) : Rat) * (2 : Rat) ^ (lenD x + x.e) := by
  unfold tA tB XN.mag
  rw [Rat.natCast_mul, Rat.natCast_mul, ← p2nat, ← p2nat, p2add]
  have e : (2 : Rat) ^ ((max (lenD x) 0).toNat : Int) = (2 : Rat) ^ ((max (-lenD x) 0).toNat : Int) * (2 : Rat) ^ (lenD x) := by
    rw [← p2add]
    congr 1
    omega
  rw [e]
  have z := cast_ne d0
  generalize (2 : Rat) ^ ((max (-lenD x) 0).toNat : Int) = A at *
  generalize (2 : Rat) ^ (lenD x) = B at *
  generalize (2 : Rat) ^ x.e = C at *
  grind
theorem p2succ (e : Int) : (2 : Rat) ^ (e + 1) = 2 * (2 : Rat) ^ e := by rw [p2add, Rat.zpow_one, Rat.mul_comm]
theorem top_good (x : XN) (n0 : x.n ≠ 0) (d0 : x.d ≠ 0) : (2 : Rat) ^ (topX x) ≤ x.mag ∧ x.mag < (2 : Rat) ^ (topX x + 1) := by
  obtain ⟨h1, h2⟩ := tA_near x n0 d0
  have k := tA_mag x d0
  have zB : (0 : Rat) < ((tB x : Nat) : Rat) := cast_pos (tA_len x n0 d0).2.2
  have zP := p2 (lenD x + x.e)
  have c1 : ((tA x : Nat) : Rat) < 2 * ((tB x : Nat) : Rat) := by
    have := Rat.natCast_lt_natCast.2 h1
    rwa [Rat.natCast_mul] at this
  have c2 : ((tB x : Nat) : Rat) < 2 * ((tA x : Nat) : Rat) := by
    have := Rat.natCast_lt_natCast.2 h2
    rwa [Rat.natCast_mul] at this
  unfold topX
  split
  · rename_i hl
    have c3 := Rat.natCast_lt_natCast.2 hl
    have e1 := p2succ (lenD x - 1 + x.e)
    rw [show lenD x - 1 + x.e + 1 = lenD x + x.e by omega] at e1
    rw [show lenD x - 1 + x.e + 1 = lenD x + x.e by omega]
    generalize (2 : Rat) ^ (lenD x + x.e) = P at *
    generalize (2 : Rat) ^ (lenD x - 1 + x.e) = H at *
    generalize ((tA x : Nat) : Rat) = A at *
    generalize ((tB x : Nat) : Rat) = B at *
    constructor
    · refine Rat.le_of_mul_le_mul_right (c := B) ?_ zB
      rw [k, e1]
      have : H * B ≤ H * (2 * A) := Rat.mul_le_mul_of_nonneg_left (Rat.le_of_lt c2) (by grind)
      grind
    · refine Rat.lt_of_mul_lt_mul_right (c := B) ?_ (Rat.le_of_lt zB)
      rw [k, Rat.mul_comm A P]
      exact Rat.mul_lt_mul_of_pos_left c3 zP
  · rename_i hl
    have c3 := Rat.natCast_le_natCast.2 (Nat.le_of_not_lt hl)
    have e1 := p2succ (lenD x + x.e)
    rw [e1]
    generalize (2 : Rat) ^ (lenD x + x.e) = P at *
    generalize ((tA x : Nat) : Rat) = A at *
    generalize ((tB x : Nat) : Rat) = B at *
    constructor
    · refine Rat.le_of_mul_le_mul_right (c := B) ?_ zB
      rw [k, Rat.mul_comm A P]
      exact Rat.mul_le_mul_of_nonneg_left c3 (Rat.le_of_lt zP)
    · refine Rat.lt_of_mul_lt_mul_right (c := B) ?_ (Rat.le_of_lt zB)
      rw [k]
      have : P * A < P * (2 * B) := Rat.mul_lt_mul_of_pos_left c1 zP
      grind
theorem p2mono (e f : Int) (h : e ≤ f) : (2 : Rat) ^ e ≤ (2 : Rat) ^ f := by
  obtain ⟨k, rfl⟩ : ∃ k : Nat, f = (k : Int) + e := ⟨(f - e).toNat, by omega⟩
  rw [p2add (k : Int) e, p2nat]
  have a : (1 : Rat) ≤ ((2 ^ k : Nat) : Rat) := Rat.natCast_le_natCast.2 (Nat.one_le_two_pow (n := k))
  have b := Rat.mul_le_mul_of_nonneg_right a (Rat.le_of_lt (p2 e))
  rwa [Rat.one_mul] at b
/-- How long a number may be. -/
def Bd (x : XN) (p E : Nat) : Prop := x.n < 2 ^ p ∧ x.d < 2 ^ p ∧ -(E : Int) ≤ x.e ∧ x.e ≤ E
theorem nl_pow (n p : Nat) (h : n < 2 ^ p) (hp : p ≤ 131072) : nl n ≤ 16384 := by
  have := blen_le_of n p h
  unfold nl
  omega
theorem mul_pow_lt (a b p q : Nat) (ha : a < 2 ^ p) (hb : b < 2 ^ q) : a * b < 2 ^ (p + q) := by
  rw [Nat.pow_add]
  exact Nat.mul_lt_mul'' ha hb
theorem pow_le2 (p q : Nat) (h : p ≤ q) : (2 : Nat) ^ p ≤ 2 ^ q := Nat.pow_le_pow_right (by decide) h
theorem mk_ok (neg : Bool) (n d : Nat) (e : Int) (P E F : Nat) (hn : n < 2 ^ P) (hd : d < 2 ^ P) (ho : d % 2 = 1) (he1 : -(E : Int) ≤ e) (he2 : e ≤ E) (hF : E + P = F) (h : F ≤ 1048576) : (mk neg n d e).2 = 0 ∧ Bd (mk neg n d e).1 P F := by
  have P1 : 1 < 2 ^ P := by omega
  have t0 := tz_odd d ho
  have t1 := Nat.le_trans (tz_blen n) (blen_le_of n P hn)
  unfold mk
  split
  · exact ⟨rfl, Nat.two_pow_pos _, P1, by show -(F : Int) ≤ 0; omega, by show (0 : Int) ≤ F; omega⟩
  · rw [t0, if_pos (by omega)]
    refine ⟨rfl, Nat.lt_of_le_of_lt (Nat.le_trans (Nat.div_le_self _ _) (od_le _)) hn, Nat.lt_of_le_of_lt (Nat.le_trans (Nat.div_le_self _ _) (od_le _)) hd, ?_, ?_⟩
    · show -(F : Int) ≤ e + (tz n : Int) - ((0 : Nat) : Int); omega
    · show e + (tz n : Int) - ((0 : Nat) : Int) ≤ (F : Int); omega
theorem sA_lt (x y : XN) (p q E F : Nat) (hx : Bd x p E) (hy : Bd y q F) : sA x y < 2 ^ (p + q + (E + F)) := by
  obtain ⟨a1, a2, a3, a4⟩ := hx
  obtain ⟨b1, b2, b3, b4⟩ := hy
  unfold sA
  rw [Nat.pow_add]
  have h1 := mul_pow_lt _ _ _ _ a1 b2
  have h2 : (2 : Nat) ^ (x.e - min x.e y.e).toNat ≤ 2 ^ (E + F) := pow_le2 _ _ (by omega)
  exact Nat.lt_of_lt_of_le (Nat.mul_lt_mul_of_pos_right h1 (Nat.two_pow_pos _)) (Nat.mul_le_mul_left _ h2)
theorem add_ok (x y : XN) (p q E F P G : Nat) (hx : x.can) (hy : y.can) (bx : Bd x p E) (bz : Bd y q F) (hP : p + q + (E + F) + 1 = P) (hG : E + F + P = G) (h1 : P ≤ 131072) (h2 : G ≤ 1048576) : (addX x y).2 = 0 ∧ Bd (addX x y).1 P G := by
  have s1 := sA_lt x y p q E F bx bz
  have s2 := sA_lt y x q p F E bz bx
  rw [show q + p + (F + E) = p + q + (E + F) by omega] at s2
  obtain ⟨a1, a2, a3, a4⟩ := bx
  obtain ⟨b1, b2, b3, b4⟩ := bz
  have dd : x.d * y.d < 2 ^ P := Nat.lt_of_lt_of_le (mul_pow_lt _ _ _ _ a2 b2) (pow_le2 _ _ (by omega))
  have e2 : 2 ^ P = 2 * 2 ^ (p + q + (E + F)) := by rw [← hP, Nat.pow_succ, Nat.mul_comm]
  have ss : sS x y < 2 ^ P := by
    rw [e2]
    unfold sS
    split
    · omega
    · split <;> omega
  unfold addX
  split
  · exact ⟨rfl, Nat.lt_of_lt_of_le b1 (pow_le2 _ _ (by omega)), Nat.lt_of_lt_of_le b2 (pow_le2 _ _ (by omega)), by show -(G : Int) ≤ y.e; omega, by show y.e ≤ (G : Int); omega⟩
  · split
    · exact ⟨rfl, Nat.lt_of_lt_of_le a1 (pow_le2 _ _ (by omega)), Nat.lt_of_lt_of_le a2 (pow_le2 _ _ (by omega)), by show -(G : Int) ≤ x.e; omega, by show x.e ≤ (G : Int); omega⟩
    · rw [if_pos ⟨nl_pow _ P (by omega) h1, nl_pow _ P (by omega) h1, nl_pow _ P dd h1, nl_pow _ P ss h1⟩]
      exact mk_ok _ _ _ _ P (E + F) G ss dd (mul_odd _ _ hx.d hy.d) (by omega) (by omega) hG h2
theorem cmp_ok (x y : XN) (p q E F : Nat) (bx : Bd x p E) (bz : Bd y q F) (h : p + q + (E + F) ≤ 131072) : (cmpX x y).2 = 0 := by
  have s1 := sA_lt x y p q E F bx bz
  have s2 := sA_lt y x q p F E bz bx
  rw [show q + p + (F + E) = p + q + (E + F) by omega] at s2
  unfold cmpX
  split
  · rfl
  · split
    · rfl
    · split
      · rfl
      · rw [if_pos ⟨nl_pow _ _ s1 h, nl_pow _ _ s2 h⟩]
end Go.Proofs.YtkmlbjlaahcahaaGreatDoor.XMath
namespace Go.Proofs.YtkmlbjlaahcahaaGreatDoor
set_option maxRecDepth 100000
open Go.RowKit WMath XMath

theorem nb1 : nbA 1 = ⟨#[1]⟩ := by decide +kernel
theorem nl1 : nl 1 ≤ 16384 := by decide +kernel
theorem eq_one (g : Nat) (v : ByteArray) (h : nbA g = v) : (v.toList == [1]) = decide (g = 1) := by
  rw [Bool.eq_iff_iff, beq_iff_eq, decide_eq_true_iff, ByteArray.toList_eq]
  constructor
  · intro e
    apply nbA_inj
    rw [h, nb1]
    obtain ⟨⟨l⟩⟩ := v
    show (⟨⟨l⟩⟩ : ByteArray) = ⟨#[1]⟩
    have : l = [1] := e
    rw [this]
  · intro e
    subst e
    rw [nb1] at h
    rw [← h]
theorem eq_nil (n : Nat) (s : ByteArray) (h : nbA n = s) (h0 : n ≠ 0) : (s.toList == []) = false := by
  rw [eq_empty, decide_eq_false_iff_not, ← h, nbA_size]
  have := nl_pos n h0
  omega

theorem cells4 {w : World} {g : Nat} {T : TypeId} {c : Array Value} (row : w.heap[g]? = some (.cells c T)) (k : Nat) (v : Value) (h : c[k]? = some v) : w.cell? ⟨g, k, none⟩ = some v := by
  rw [cell_of_row w g k _ _ _ row]
  exact h

theorem cells4s {w : World} {g : Nat} {T : TypeId} {a b c d : Value} (R : w.heap[g]? = some (.cells #[a, b, c, d] T)) : w.cell? ⟨g, 0, none⟩ = some a ∧ w.cell? ⟨g, 1, none⟩ = some b ∧ w.cell? ⟨g, 2, none⟩ = some c ∧ w.cell? ⟨g, 3, none⟩ = some d := ⟨cells4 R 0 _ rfl, cells4 R 1 _ rfl, cells4 R 2 _ rfl, cells4 R 3 _ rfl⟩
theorem cells2s {w : World} {g : Nat} {T : TypeId} {a b : Value} (R : w.heap[g]? = some (.cells #[a, b] T)) : w.cell? ⟨g, 0, none⟩ = some a ∧ w.cell? ⟨g, 1, none⟩ = some b := ⟨cells4 R 0 _ rfl, cells4 R 1 _ rfl⟩
theorem opn1 (w : World) (o : Obj) : (w.alloc o).heap[w.heap.size]? = some o ∧ Below w.heap.size w (w.alloc o) := ⟨heap_alloc_last _ _, (Below.refl _ _).alloc (Nat.le_refl _) _⟩
theorem opn2 (w : World) (o1 o2 : Obj) : ((w.alloc o1).alloc o2).heap[w.heap.size]? = some o1 ∧ ((w.alloc o1).alloc o2).heap[w.heap.size + 1]? = some o2 ∧ Below w.heap.size w ((w.alloc o1).alloc o2) := by
  obtain ⟨r0, b⟩ := opn1 w o1
  have z : (w.alloc o1).heap.size = w.heap.size + 1 := by simp only [size_al]
  exact ⟨by rw [heap_below _ _ _ (by omega)]; exact r0, by rw [← z]; exact heap_alloc_last _ _, b.alloc (by omega) _⟩
theorem opn3 (w : World) (o1 o2 o3 : Obj) : (((w.alloc o1).alloc o2).alloc o3).heap[w.heap.size]? = some o1 ∧ (((w.alloc o1).alloc o2).alloc o3).heap[w.heap.size + 1]? = some o2 ∧ (((w.alloc o1).alloc o2).alloc o3).heap[w.heap.size + 1 + 1]? = some o3 ∧ Below w.heap.size w (((w.alloc o1).alloc o2).alloc o3) := by
  obtain ⟨r0, r1, b⟩ := opn2 w o1 o2
  have z : ((w.alloc o1).alloc o2).heap.size = w.heap.size + 1 + 1 := by simp only [size_al]
  exact ⟨by rw [heap_below _ _ _ (by omega)]; exact r0, by rw [heap_below _ _ _ (by omega)]; exact r1, by rw [← z]; exact heap_alloc_last _ _, b.alloc (by omega) _⟩
theorem set4_below {n : Nat} {w wr : World} {b : Nat} (h : Below n w wr) (hb : n ≤ b) (v0 v1 v2 v3 : Value) : Below n w ((((wr.setCell ⟨b, 0, none⟩ v0).setCell ⟨b, 1, none⟩ v1).setCell ⟨b, 2, none⟩ v2).setCell ⟨b, 3, none⟩ v3) :=
  (((h.setCell hb _).setCell hb _).setCell hb _).setCell hb _
theorem set4_row {w : World} {b : Nat} {c : Array Value} {T : TypeId} (h : w.heap[b]? = some (.cells c T)) (hc : c.size = 4) (v0 v1 v2 v3 : Value) :
    ((((w.setCell ⟨b, 0, none⟩ v0).setCell ⟨b, 1, none⟩ v1).setCell ⟨b, 2, none⟩ v2).setCell ⟨b, 3, none⟩ v3).heap[b]? = some (.cells #[v0, v1, v2, v3] T) := by
  rw [setCell_row (setCell_row (setCell_row (setCell_row h)))]
  obtain ⟨l⟩ := c
  match l, hc with
  | [a, b, c, d], _ => rfl
theorem set4_cells {w : World} {b : Nat} {c : Array Value} {T : TypeId} (h : w.heap[b]? = some (.cells c T)) (hc : c.size = 4) (v0 v1 v2 v3 : Value) :
    ((((w.setCell ⟨b, 0, none⟩ v0).setCell ⟨b, 1, none⟩ v1).setCell ⟨b, 2, none⟩ v2).setCell ⟨b, 3, none⟩ v3).cell? ⟨b, 0, none⟩ = some v0 ∧
    ((((w.setCell ⟨b, 0, none⟩ v0).setCell ⟨b, 1, none⟩ v1).setCell ⟨b, 2, none⟩ v2).setCell ⟨b, 3, none⟩ v3).cell? ⟨b, 1, none⟩ = some v1 ∧
    ((((w.setCell ⟨b, 0, none⟩ v0).setCell ⟨b, 1, none⟩ v1).setCell ⟨b, 2, none⟩ v2).setCell ⟨b, 3, none⟩ v3).cell? ⟨b, 2, none⟩ = some v2 ∧
    ((((w.setCell ⟨b, 0, none⟩ v0).setCell ⟨b, 1, none⟩ v1).setCell ⟨b, 2, none⟩ v2).setCell ⟨b, 3, none⟩ v3).cell? ⟨b, 3, none⟩ = some v3 := by
  have r := set4_row h hc v0 v1 v2 v3
  exact ⟨cells4 r 0 _ rfl, cells4 r 1 _ rfl, cells4 r 2 _ rfl, cells4 r 3 _ rfl⟩

/-- May a number be that is told by strings? -/
def MayX (b : Bool) (s t : ByteArray) (e : Int) : Prop := ∃ n d, nbA n = s ∧ nbA d = t ∧ (XN.mk b n d e).can
/-- Does o tell whether it may be? -/
def IsM (o : Bool) (b : Bool) (s t : ByteArray) (e : Int) : Prop := o = true ↔ MayX b s t e
theorem mayX_iff (b : Bool) (n d : Nat) (s t : ByteArray) (e : Int) (hs : nbA n = s) (ht : nbA d = t) : MayX b s t e ↔ (XN.mk b n d e).can := by
  constructor
  · rintro ⟨n', d', h1, h2, h⟩
    rw [nbA_inj _ _ (h1.trans hs.symm), nbA_inj _ _ (h2.trans ht.symm)] at h
    exact h
  · intro h
    exact ⟨n, d, hs, ht, h⟩
theorem mayX_s (b : Bool) (s t : ByteArray) (e : Int) (h : MayX b s t e) : mayB s = true ∧ mayB t = true := by
  obtain ⟨n, d, rfl, rfl, h⟩ := h
  exact ⟨mayB_nb n h.1, mayB_nb d h.2.1⟩

theorem zerox (w : World) : Calls Tryz.prog 88 #[] w fun r w' => r = .returned (.agg #[.bool false, .string ⟨#[]⟩, .string ⟨#[1]⟩, .int .i64 0]) ∧ Below w.heap.size w w' := by
  go_enter Tryz.func88, Tryz.ntmps88
  go_wp2
  exact bodyPost_ret (v := .agg #[.bool false, .string ⟨#[]⟩, .string ⟨#[1]⟩, .int .i64 0]) (by simp [results, Tryz.results88, go_sem]) rfl ⟨rfl, by first | exact Below.refl _ _ | exact bal _ _⟩
theorem withinx (n b : Int) (o : Bool) (hb : 0 ≤ b) (hb2 : b ≤ 9223372036854775807) (ho : (decide (-b ≤ n) && decide (n ≤ b)) = o) (w : World) : Calls Tryz.prog 89 #[.int .i64 n, .int .i64 b] w fun r w' => r = .returned (.bool o) ∧ Below w.heap.size w w' := by
  have n1 : IntKind.i64.wrap (-b) = -b := wrap_i64_is _ (by omega) (by omega)
  by_cases h : -b ≤ n
  · have d1 : decide (-b ≤ n) = true := decide_eq_true h
    rw [d1, Bool.true_and] at ho
    have B0 : Below w.heap.size w w := (Below.refl _ _)
    go_enter Tryz.func89, Tryz.ntmps89
    go_wp2
    go_ret
    exact ⟨rfl, B0⟩
  · have d1 : decide (-b ≤ n) = false := decide_eq_false h
    rw [d1, Bool.false_and] at ho
    subst ho
    have B0 : Below w.heap.size w w := (Below.refl _ _)
    go_enter Tryz.func89, Tryz.ntmps89
    go_wp2
    go_ret
    exact ⟨rfl, B0⟩
theorem oddx (n : Nat) (s : ByteArray) (o : Bool) (hs : nbA n = s) (hl : nl n ≤ 16384) (ho : decide (n % 2 = 1) = o) (w : World) (hT : TabAt w) : Calls Tryz.prog 112 #[.string s] w fun r w' => r = .returned (.bool o) ∧ Below w.heap.size w w' := by
  by_cases h0 : n = 0
  · subst h0
    rw [nbA_zero] at hs
    subst hs
    have e : o = false := by rw [← ho]; rfl
    subst e
    clear ho hl
    have B0 : Below w.heap.size w w := (Below.refl _ _)
    go_enter Tryz.func112, Tryz.ntmps112
    go_wp2
    go_ret
    exact ⟨rfl, B0⟩
  · have d0 := eq_nil n s hs h0
    obtain ⟨t, ht⟩ : ∃ t, tz n = t := ⟨_, rfl⟩
    have HT := box (tz_low n)
    rw [ht] at HT
    have hc : ((t : Int) == 0) = o := by
      rw [← ho, ← ht, Bool.eq_iff_iff, beq_iff_eq, decide_eq_true_iff]
      constructor
      · intro h
        obtain ⟨a, b⟩ := od_is n h0
        have e : tz n = 0 := by omega
        unfold od at b
        rw [e, Nat.pow_zero, Nat.div_one] at b
        exact b
      · intro h
        rw [tz_odd n h]
        rfl
    have hc2 : decide (t = 0) = o := by
      rw [← hc, Bool.eq_iff_iff, beq_iff_eq, decide_eq_true_iff]
      omega
    have HS := box hs
    have HL := box hl
    have TT := box hT
    clear hs hl ht ho hT
    have B0 : Below w.heap.size w w := (Below.refl _ _)
    go_enter Tryz.func112, Tryz.ntmps112
    go_wp2_with fail
    refine (pn_low_ok n t s HS.out HL.out HT.out _ (tabB TT.out B0)).mono ?_
    rintro r w1 ⟨rfl, b1⟩
    have B1 : Below w.heap.size w w1 := btr B0 b1
    clear b1 B0 
    go_wp2
    go_ret
    exact ⟨rfl, B1⟩
end Go.Proofs.YtkmlbjlaahcahaaGreatDoor
namespace Go.Proofs.YtkmlbjlaahcahaaGreatDoor
set_option maxRecDepth 100000
open Go.RowKit WMath XMath

theorem apartx (a b : Nat) (s t : ByteArray) (o : Bool) (hs : nbA a = s) (ht : nbA b = t) (ha : nl a ≤ 16384) (hb : nl b ≤ 16384) (ho : decide (Nat.gcd a b = 1) = o) (w : World) : Calls Tryz.prog 113 #[.string s, .string t] w fun r w' => r = .returned (.bool o) ∧ Below w.heap.size w w' := by
  obtain ⟨v, hv⟩ : ∃ v, nbA (Nat.gcd a b) = v := ⟨_, rfl⟩
  have e1 := eq_one _ v hv
  rw [ho] at e1
  have HS := box hs
  have HT := box ht
  have HA := box ha
  have HB := box hb
  have HV := box hv
  clear hs ht ha hb ho hv
  have B0 : Below w.heap.size w w := (Below.refl _ _)
  go_enter Tryz.func113, Tryz.ntmps113
  go_wp2_with fail
  refine (pn_gcd_ok a b s t v HS.out HT.out HA.out HB.out HV.out _).mono ?_
  rintro r w1 ⟨rfl, b1⟩
  have B1 : Below w.heap.size w w1 := btr B0 b1
  clear b1 B0 
  go_wp2
  go_ret
  exact ⟨rfl, B1⟩

theorem can_parts (b : Bool) (n d : Nat) (e : Int) (hn : nl n ≤ 16384) (hd : nl d ≤ 16384) : (XN.mk b n d e).can ↔ (-1048576 ≤ e ∧ e ≤ 1048576 ∧ ((b = false ∧ n = 0 ∧ d = 1 ∧ e = 0) ∨ (n % 2 = 1 ∧ d % 2 = 1 ∧ Nat.gcd n d = 1))) := by
  unfold XN.can
  exact ⟨fun h => h.2.2, fun h => ⟨hn, hd, h⟩⟩

end Go.Proofs.YtkmlbjlaahcahaaGreatDoor
