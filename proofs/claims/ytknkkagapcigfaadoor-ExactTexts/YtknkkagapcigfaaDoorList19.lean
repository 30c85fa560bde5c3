/-
  What the functions divisor and Gcd of package nat return.
-/
import Derived.Test.YtknkkagapcigfaaDoorList18
namespace Go.Proofs.YtknkkagapcigfaaDoor
open Go.RowKit WMath

theorem wd0_small (y : Nat) (h : wl y ≤ 1) : wd y 0 = y := by
  have h1 := Nat.lt_of_lt_of_le (wl_lt y) (pow64_le _ 1 h)
  unfold wd
  rw [Nat.mul_zero, Nat.pow_zero, Nat.div_one, Nat.mod_eq_of_lt (by rw [Nat.mul_one, ← two64] at h1; exact h1)]

theorem cw1g (x : Nat) (h : x < 18446744073709551616) : #[Value.int .u64 (x : Nat)] = cw 1 x := by
  have e : wd x 0 = x := by unfold wd; rw [Nat.mul_zero, Nat.pow_zero, Nat.div_one, Nat.mod_eq_of_lt h]
  show _ = #[Value.int .u64 (wd x 0 : Nat)]
  rw [e]

set_option maxRecDepth 100000 in
set_option maxHeartbeats 2000000 in
theorem l_divisor (w : World) (p q : Option Addr) (L c a M d b B g : Nat) (ha : SL B w p L c a) (hb : SL B w q M d b) (hB : B ≤ w.heap.size) (hL : L ≤ 5000) (hM : M ≤ 5000) (la : wl a = L) (lb : wl b = M) (hg : Nat.gcd a b = g) :
    Calls Tryd.prog 56 #[.slice p L c, .slice q M d] w fun r w' => ∃ u K e, r = .returned (.slice u K e) ∧ SL w'.heap.size w' u K e g ∧ K ≤ 5000 ∧ Below w.heap.size w w' := by
  obtain ⟨k, hk⟩ : ∃ k, cmpv a b = k := ⟨_, rfl⟩
  obtain ⟨F, hF⟩ := num_fun
  have HF := box hF
  have HC := box (l_compare w p q L c a M d b B B k ha hb (by omega) (by omega) la lb hB hB hk)
  have LA := box la
  have LB := box lb
  have HG := box hg
  have hcase : (decide (k < 0) = true ∧ a ≤ b) ∨ (decide (k < 0) = false ∧ b ≤ a) := by
    unfold cmpv at hk
    by_cases e : a = b
    · rw [if_pos e] at hk; right; exact ⟨decide_eq_false (by omega), by omega⟩
    · rw [if_neg e] at hk
      by_cases e2 : a < b
      · rw [if_pos e2] at hk; left; exact ⟨decide_eq_true (by omega), by omega⟩
      · rw [if_neg e2] at hk; right; exact ⟨decide_eq_false (by omega), by omega⟩
  clear hk hF la lb hg
  rcases hcase with ⟨d0, hab⟩ | ⟨d0, hab⟩
  all_goals
    go_enter Tryd.func56, Tryd.ntmps56
    go_wp2_with fail
    refine HC.out.mono ?_
    rintro e w1 ⟨rfl, b1⟩
    have sa := (ha.below b1 hB).mono (Nat.le_trans hB b1.size)
    have sb := (hb.below b1 hB).mono (Nat.le_trans hB b1.size)
    go_wp2
    go_loopw [0, 1] (fun av bv wr => ∃ (p' q' : Option Addr) (L' c' M' d' : Nat), av = .slice p' L' c' ∧ bv = .slice q' M' d' ∧ L' ≤ 5000 ∧ M' ≤ 5000 ∧ Below w.heap.size w wr ∧ Box (∃ x y, SL wr.heap.size wr p' L' c' x ∧ SL wr.heap.size wr q' M' d' y ∧ wl x = L' ∧ wl y = M' ∧ y ≤ x ∧ Nat.gcd x y = g)) (fun _ bv wr => F wr bv)
    case atStart => first
      | exact ⟨p, q, L, c, M, d, rfl, rfl, hL, hM, b1, box ⟨a, b, sa, sb, LA.out, LB.out, hab, HG.out⟩⟩
      | exact ⟨q, p, M, d, L, c, rfl, rfl, hM, hL, b1, box ⟨b, a, sb, sa, LB.out, LA.out, hab, by rw [Nat.gcd_comm]; exact HG.out⟩⟩
    case round =>
      clear sa sb
      obtain ⟨p', q', L', c', M', d', rfl, rfl, hL', hM', hbw, HE⟩ := hrel
      obtain ⟨x, y, sx, sy, lx, ly, hyx, hgg⟩ := HE.out
      clear HE
      by_cases hM2 : 1 < M'
      · have d1 : decide (1 < M') = true := decide_eq_true hM2
        have FY := box (HF.out _ _ _ _ _ _ sy)
        have SH := box (l_shorten wr p' q' L' c' x M' d' y wr.heap.size sx sy (Nat.le_refl _) (by omega) lx ly hyx hM2)
        have LX := box lx
        have LY := box ly
        have GG := box hgg
        have HYX := box hyx
        clear lx ly hgg hyx sx sy
        go_wp2_with fail
        refine SH.out.mono ?_
        rintro e w2 ⟨u, v, f1, f2, X, S, K1, K2, rfl, sX, sS, lX, lS, hgX, hSX, hSy, hXy, b2⟩
        have FS := box (HF.out _ _ _ _ _ _ sS)
        have NB : Box (∃ x y, SL w2.heap.size w2 u K1 f1 x ∧ SL w2.heap.size w2 v K2 f2 y ∧ wl x = K1 ∧ wl y = K2 ∧ y ≤ x ∧ Nat.gcd x y = g) := box ⟨X, S, sX, sS, lX, lS, hSX, by rw [hgX]; exact GG.out⟩
        have k1 : K1 ≤ 5000 := by rw [← lX]; exact Nat.le_trans (wl_mono _ _ hXy) (by rw [LY.out]; exact hM')
        have k2 : K2 ≤ 5000 := by rw [← lS]; exact Nat.le_trans (wl_mono S y (by omega)) (by rw [LY.out]; exact hM')
        have c2 : Below w.heap.size w w2 := btr hbw b2
        have SY := box hSy
        clear sX sS lX lS hgX hSX hSy hXy b2
        go_wp2
        go_roundw
        case rel => exact ⟨_, _, _, _, _, _, rfl, rfl, k1, k2, c2, NB⟩
        case measure =>
          show F _ _ < F _ _
          rw [FS.out, FY.out]
          exact SY.out
      · have d1 : decide (1 < M') = false := decide_eq_false hM2
        by_cases h0 : M' = 0
        · subst h0
          have ey : y = 0 := wl_eq0 y ly
          subst ey
          rw [Nat.gcd_zero_right] at hgg
          subst hgg
          have SX := box sx
          clear lx ly hyx sx sy
          go_wp2
          go_ret
          exact ⟨_, _, _, rfl, SX.out, hL', hbw⟩
        · obtain rfl : M' = 1 := by omega
          obtain ⟨bq, oq, rfl, _⟩ := sy.ptr (by omega)
          have y0 : y ≠ 0 := fun e => by rw [e, wl_zero] at ly; omega
          have c1 := sy.cell 0 y (by omega) (wd0_small y (by omega))
          rw [Nat.add_zero] at c1
          have y64 : y < 18446744073709551616 := by rw [← wd0_small y (by omega)]; exact wd_lt _ _
          by_cases h1 : y = 1
          · subst h1
            rw [Nat.gcd_one_right] at hgg
            subst hgg
            have SY := box sy
            clear lx ly hyx sx sy
            go_wp2
            go_ret
            exact ⟨_, _, _, rfl, SY.out, by omega, hbw⟩
          · have d2 : ((y : Int) == 1) = false := by simp; omega
            obtain ⟨K1, hK1⟩ : ∃ K1, wl (x / y) = K1 := ⟨_, rfl⟩
            obtain ⟨K2, hK2⟩ : ∃ K2, wl (x % y) = K2 := ⟨_, rfl⟩
            have K2b : K2 ≤ 1 := by rw [← hK2, ← ly]; exact wl_mono _ _ (Nat.le_of_lt (Nat.mod_lt _ (Nat.pos_of_ne_zero y0)))
            have DV := box (l_divide wr p' _ L' c' x 1 d' y wr.heap.size K1 K2 sx sy (Nat.le_refl _) (by omega) (by omega) ly y0 hK1 hK2)
            obtain ⟨z, hz⟩ : ∃ z, x % y = z := ⟨_, rfl⟩
            have zy : z < y := by rw [← hz]; exact Nat.mod_lt _ (Nat.pos_of_ne_zero y0)
            have hgz : Nat.gcd y z = g := by rw [← hgg, ← hz, Nat.gcd_comm x y, Nat.gcd_rec y x, Nat.gcd_comm]
            have WD := box (fun W => l_wordDivisor y z g y64 (by omega) hgz W)
            have g64 : g < 18446744073709551616 := by
              have := Nat.gcd_le_left z (Nat.pos_of_ne_zero y0)
              rw [hgz] at this
              omega
            have HZ := box hz
            have WY : Box (wl y ≤ 1) := box (by omega)
            have G64 := box g64
            have W0 : Box (wd z 0 = z) := box (wd0_small z (by rw [← hz, hK2]; exact K2b))
            clear lx ly hyx hgg hK1 hK2 hz hgz sx
            go_wp2_with fail
            refine DV.out.mono ?_
            rintro e w2 ⟨u, f1, v, f2, rfl, _, sv, b2⟩
            rw [HZ.out] at sv
            have c2 := (sy.below b2 (Nat.le_refl _)).cell 0 y (by omega) (wd0_small y WY.out)
            rw [Nat.add_zero] at c2
            have b3 := btr hbw b2
            have AT := box (fun W (h : Below w2.heap.size w2 W) => l_at W v K2 f2 z 0 z (sv.below h (Nat.le_refl _)) W0.out (by omega))
            clear sv b2 sy c1 DV hbw HF HC LA LB HG b1 g64 y0
            go_wp2
            go_region_with (first
              | (go_at_call 73; refine (AT.out _ ?_).mono ?_; exact (Below.refl w2.heap.size w2).drew; rintro e w' ⟨rfl, rfl⟩)
              | (go_at_call 72; refine (WD.out _).mono ?_; rintro e w5 ⟨rfl, b5⟩))
            all_goals
              have b6 : Below w.heap.size w w5 := btr b3 (((Below.refl w2.heap.size w2).drew).trans b5)
              have r6 : (w5.alloc (.cells #[.int .u64 (g : Nat)] 66)).heap[w5.heap.size]? = some (.cells (cw 1 g) 66) := by rw [← cw1g g G64.out]; exact heap_alloc_last _ _
              have s6 : SL (w5.alloc (.cells #[.int .u64 (g : Nat)] 66)).heap.size (w5.alloc (.cells #[.int .u64 (g : Nat)] 66)) (some ⟨w5.heap.size, 0, none⟩) 1 1 g := SL.row r6 _ (Array.getElem?_eq_some_iff.1 r6).1 (by rw [Nat.mul_one, ← two64]; exact G64.out) (Nat.le_refl _)
              have S6 := box s6
              clear r6 s6
              go_wp2
              go_ret
              exact ⟨_, _, _, rfl, S6.out, by omega, btr b6 (bal _ _)⟩

set_option maxRecDepth 100000 in
theorem pn_gcd_ok (a b : Nat) (s t v : ByteArray) (hs : nbA a = s) (ht : nbA b = t) (ha : nl a ≤ 16384) (hb : nl b ≤ 16384) (hv : nbA (Nat.gcd a b) = v) (w : World) :
    Calls Tryd.prog 43 #[.string s, .string t] w fun r w' => r = .returned (.tuple #[.string v, .int .i64 0]) ∧ Below w.heap.size w w' := by
  have HO := box (ok2 hs ht ha hb)
  have HS := box hs
  have HT := box ht
  have HA := box ha
  have HB := box hb
  have HV := box hv
  obtain ⟨K, hK⟩ : ∃ K, wl a = K := ⟨_, rfl⟩
  obtain ⟨M, hM⟩ : ∃ M, wl b = M := ⟨_, rfl⟩
  have hK2 : K ≤ 2048 := by rw [← hK]; exact wl_of_nl a ha
  have hM2 : M ≤ 2048 := by rw [← hM]; exact wl_of_nl b hb
  have HK := box hK
  have HM := box hM
  have b0 := bal w (.cells #[.string s, .string t] 22)
  clear hs ht ha hb hv hK hM
  go_enter Tryd.func43, Tryd.ntmps43
  go_wp2_with fail
  refine (n_may2 s t true HO.out _ w).mono ?_
  rintro r w0 ⟨rfl, rfl⟩
  go_wp2_with fail
  refine (l_wordsOf a K s HS.out (by have := HA.out; omega) HK.out _).mono ?_
  rintro r w1 ⟨p, c, rfl, s1, b1⟩
  go_wp2_with fail
  refine (l_wordsOf b M t HT.out (by have := HB.out; omega) HM.out _).mono ?_
  rintro r w2 ⟨q, d, rfl, s2, b2⟩
  go_wp2_with fail
  refine (l_divisor w2 p q K c a M d b w2.heap.size _ ((s1.below b2 (Nat.le_refl _)).mono b2.size) s2 (Nat.le_refl _) (by omega) (by omega) HK.out HM.out rfl).mono ?_
  rintro r w3 ⟨u, N, f, rfl, s3, N2, b3⟩
  go_wp2_with fail
  refine (l_natOf w3 u N f (Nat.gcd a b) _ v s3 (Nat.le_refl _) (by omega) HV.out).mono ?_
  rintro r w4 ⟨rfl, b4⟩
  go_wp2
  go_ret2
  exact ⟨rfl, btr b0 (btr b1 (btr b2 (btr b3 b4)))⟩
end Go.Proofs.YtknkkagapcigfaaDoor
