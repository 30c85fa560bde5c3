/-
  What the functions that the statement reaches return: part 7 (List18, List19, Xmath, X1, X2).
-/
import Derived.Test.YtbmhfcppaajgbaaGreatDoorRf06
namespace Go.Proofs.YtbmhfcppaajgbaaGreatDoor
set_option maxRecDepth 100000
open Go.RowKit WMath

set_option maxRecDepth 100000 in
set_option maxHeartbeats 40000000 in
theorem l_shorten (w : World) (p q : Option Addr) (L c a M d b B : Nat) (ha : SL B w p L c a) (hb : SL B w q M d b) (hB : B ≤ w.heap.size) (hL : L ≤ 10000) (la : wl a = L) (lb : wl b = M) (hab : b ≤ a) (hM : 2 ≤ M) :
    Calls Tryz.prog 321 #[.slice p L c, .slice q M d] w fun r w' => ∃ (u v : Option Addr) (e f F S X Y : Nat), r = .returned (.tuple #[.slice u X e, .slice v Y f]) ∧ SL w'.heap.size w' u X e F ∧ SL w'.heap.size w' v Y f S ∧ wl F = X ∧ wl S = Y ∧ Nat.gcd F S = Nat.gcd a b ∧ S ≤ F ∧ S < b ∧ F ≤ b ∧ Below w.heap.size w w' := by
  have hML : M ≤ L := by rw [← la, ← lb]; exact wl_mono _ _ hab
  obtain ⟨m, rfl⟩ : ∃ m, L = m + 2 := ⟨L - 2, by omega⟩
  obtain ⟨n, hn⟩ : ∃ n, 64 * (m + 2) - blen a = n := ⟨_, rfl⟩
  obtain ⟨k, hk⟩ : ∃ k, 64 * (m + 1) - n = k := ⟨_, rfl⟩
  obtain ⟨x, hx⟩ : ∃ x, a / 2 ^ k = x := ⟨_, rfl⟩
  obtain ⟨y, hy⟩ : ∃ y, b / 2 ^ k = y := ⟨_, rfl⟩
  have a0 : a ≠ 0 := fun e => by rw [e, wl_zero] at la; omega
  have b0 : b ≠ 0 := fun e => by rw [e, wl_zero] at lb; omega
  have hx64 : x < 18446744073709551616 := by
    rw [← hx]
    apply Nat.div_lt_of_lt_mul
    rw [two64, ← Nat.pow_add]
    refine Nat.lt_of_lt_of_le (blen_lt a) (Nat.pow_le_pow_right (by decide) ?_)
    have h1 : wl a = (blen a + 63) / 64 := rfl
    omega
  have hxy : y ≤ x := by rw [← hx, ← hy]; exact Nat.div_le_div_right hab
  have ea := Nat.div_add_mod a (2 ^ k)
  have eb := Nat.div_add_mod b (2 ^ k)
  rw [hx] at ea
  rw [hy] at eb
  have HH := box (l_highest w p q m c a M d b B B x y n ha hb hB hB (by omega) (by omega) la hab hn (by rw [hk]; exact hx) (by rw [hk]; exact hy))
  have TT := box (l_turns a b x y (2 ^ k) (a % 2 ^ k) (b % 2 ^ k) hx64 hxy ea.symm eb.symm (Nat.mod_lt _ (Nat.two_pow_pos _)) (Nat.mod_lt _ (Nat.two_pow_pos _)) hab)
  have LB := box lb
  have HAB := box hab
  have B0 := box b0
  clear hn hk hx hy ea eb la lb a0 b0
  go_enter Tryz.func321, Tryz.ntmps321
  go_wp2_with fail
  refine HH.out.mono ?_
  rintro e w1 ⟨rfl, b1⟩
  go_wp2_with fail
  refine (TT.out _).mono ?_
  rintro e w2 ⟨r1, A1, B1, r2, A2, B2, F, S, sw, rfl, i1, i2, i3, i4, T, b2⟩
  unfold tn
  have T9 := box T
  clear T
  have c2 : Below w.heap.size w w2 := btr b1 b2
  obtain ⟨h, hh⟩ : ∃ h, w2.heap.size = h := ⟨_, rfl⟩
  obtain ⟨W3, hW3⟩ : ∃ W3, (w2.alloc (.cells #[.int .u64 (r1 : Nat), .int .u64 (A1 : Nat), .int .u64 (B1 : Nat)] 326)).alloc (.cells #[.int .u64 (r2 : Nat), .int .u64 (A2 : Nat), .int .u64 (B2 : Nat)] 326) = W3 := ⟨_, rfl⟩
  have c3 : Below w.heap.size w W3 := by rw [← hW3]; exact btr c2 (btr (bal _ _) (bal _ _))
  have r3 : W3.heap[h]? = some (.cells (tc r1 A1 B1) 326) := by
    rw [← hW3, heap_below _ _ _ (by rw [size_al]; omega), ← hh]; exact heap_alloc_last _ _
  have q3 : W3.heap[h + 1]? = some (.cells (tc r2 A2 B2) 326) := by
    have e : h + 1 = (w2.alloc (.cells #[.int .u64 (r1 : Nat), .int .u64 (A1 : Nat), .int .u64 (B1 : Nat)] 326)).heap.size := by rw [size_al, hh]
    rw [← hW3, e]; exact heap_alloc_last _ _
  have R3 := box r3
  have Q3 := box q3
  obtain ⟨e1, e2, e3⟩ := tc_cell r3
  obtain ⟨e4, e5, e6⟩ := tc_cell q3
  have sa3 : SL W3.heap.size W3 p (m + 2) c a ∧ SL W3.heap.size W3.drew p (m + 2) c a := ⟨(ha.below c3 hB).mono (by have := c3.size; omega), ((ha.below c3 hB).mono (by have := c3.size; omega)).below (Below.refl W3.heap.size W3).drew (Nat.le_refl _)⟩
  have sb3 : SL W3.heap.size W3 q M d b ∧ SL W3.heap.size W3.drew q M d b := ⟨(hb.below c3 hB).mono (by have := c3.size; omega), ((hb.below c3 hB).mono (by have := c3.size; omega)).below (Below.refl W3.heap.size W3).drew (Nat.le_refl _)⟩
  have GG : Box (Nat.gcd F S = Nat.gcd a b) := box T9.out.2.2.2.2.2.2.2.2.2.2.2.2.1
  clear c2 r3 q3
  by_cases hA : A2 = 0
  · have d0 : ((A2 : Int) == 0) = true := by simp; omega
    obtain ⟨K1, hK1⟩ : ∃ K1, wl (a / b) = K1 := ⟨_, rfl⟩
    obtain ⟨K2, hK2⟩ : ∃ K2, wl (a % b) = K2 := ⟨_, rfl⟩
    have H1 := box hK1
    have H2 := box hK2
    clear hA hK1 hK2
    go_wp2_with fail
    try rw [hW3]
    refine (l_divide W3 p q (m + 2) c a M d b W3.heap.size K1 K2 sa3.1 sb3.1 (Nat.le_refl _) (by omega) (by omega) LB.out B0.out H1.out H2.out).mono ?_
    rintro e w4 ⟨u, ue, v, ve, rfl, _, t4, b4⟩
    go_wp2
    go_ret2
    exact ⟨_, _, _, _, b, a % b, M, K2, rfl, (sb3.1.below b4 (Nat.le_refl _)).mono b4.size, t4, LB.out, H2.out, by rw [Nat.gcd_comm a b, Nat.gcd_rec b a, Nat.gcd_comm], Nat.le_of_lt (Nat.mod_lt _ (Nat.pos_of_ne_zero B0.out)), Nat.mod_lt _ (Nat.pos_of_ne_zero B0.out), Nat.le_refl _, btr c3 b4⟩
  · have d0 : ((A2 : Int) == 0) = false := by simp; omega
    have mv : 0 < S ∧ S < F ∧ F ≤ b := by
      rcases T9.out.2.2.2.2.2.2.2.2.2.2.2.2.2.2.1 with h | h
      · exact absurd h hA
      · exact h
    have mF := mv.2.2
    obtain ⟨X, hX⟩ : ∃ X, wl F = X := ⟨_, rfl⟩
    obtain ⟨Y, hY⟩ : ∃ Y, wl S = Y := ⟨_, rfl⟩
    have HXX := box hX
    have HYY := box hY
    have NF : ∀ k, M ≤ k → F < 2 ^ (64 * k) := fun k hk => Nat.lt_of_le_of_lt mF (Nat.lt_of_lt_of_le hb.1 (pow64_le _ _ hk))
    have NS : ∀ k, M ≤ k → S < 2 ^ (64 * k) := fun k hk => Nat.lt_of_lt_of_le (show S < b by omega) (Nat.le_of_lt (Nat.lt_of_lt_of_le hb.1 (pow64_le _ _ hk)))
    have CE : Box (∀ W, Below W3.heap.size W3 W → W.cell? ⟨h + 1, 0, none⟩ = some (.int .u64 (r2 : Nat)) ∧ W.cell? ⟨h + 1, 1, none⟩ = some (.int .u64 (A2 : Nat)) ∧ W.cell? ⟨h + 1, 2, none⟩ = some (.int .u64 (B2 : Nat))) := box (fun W hW => tc_cell (heap_of hW _ _ _ Q3.out))
    have FIN : Box (wl F = X ∧ wl S = Y ∧ Nat.gcd F S = Nat.gcd a b ∧ S ≤ F ∧ S < b ∧ F ≤ b ∧ Below w.heap.size w W3) := box ⟨hX, hY, GG.out, by omega, by omega, mF, c3⟩
    replace sa3 := sa3.1
    replace sb3 := sb3.1
    clear hX hY HH TT LB HAB B0 b1 b2 c3 R3 Q3 GG hA mv mF ha hb hB hx64 hxy
    cases sw
    · have VF : F + b * B1 = a * A1 := by
        have := T9.out.2.1
        simp at this
        omega
      have VS : S + a * A2 = b * B2 := by
        have := T9.out.2.2.1
        simp at this
        omega
      have C1 : Box (∀ W, Below W3.heap.size W3 W → Calls Tryz.prog 330 #[.slice p (m + 2) c, .int .u64 (A1 : Nat), .slice q M d, .int .u64 (B1 : Nat)] W fun r w' => ∃ y e, r = .returned (.slice y X e) ∧ (SL w'.heap.size w' y X e F ∧ Below W3.heap.size W3 w')) := box (fun W hW => (l_balance W p q (m + 2) c a A1 M d b B1 W3.heap.size F X (sa3.below hW (Nat.le_refl _)) (sb3.below hW (Nat.le_refl _)) hW.size (by omega) (by omega) i1 i2 VF (NF _ (by omega)) HXX.out).mono (fun _ _ ⟨y, e, h1, h2, h3⟩ => ⟨y, e, h1, h2, btr hW h3⟩))
      have C2 : Box (∀ W, Below W3.heap.size W3 W → Calls Tryz.prog 330 #[.slice q M d, .int .u64 (B2 : Nat), .slice p (m + 2) c, .int .u64 (A2 : Nat)] W fun r w' => ∃ y e, r = .returned (.slice y Y e) ∧ (SL w'.heap.size w' y Y e S ∧ Below W.heap.size W w')) := box (fun W hW => (l_balance W q p M d b B2 (m + 2) c a A2 W3.heap.size S Y (sb3.below hW (Nat.le_refl _)) (sa3.below hW (Nat.le_refl _)) hW.size (by omega) (by omega) i4 i3 VS (NS _ (by omega)) HYY.out).mono (fun _ _ ⟨y, e, h1, h2, h3⟩ => ⟨y, e, h1, h2, h3⟩))
      clear VF VS NF NS sa3 sb3 T9 i1 i2 i3 i4
      go_wp2
      try rw [hW3]
      clear hW3 hh
      go_region_with (first
        | (go_at_call_of 330 (Value.int IntKind.u64 (B2 : Int)); refine (C2.out _ ?_).mono ?_; exact b4; rintro e w5 ⟨y2, f2, rfl, P5⟩)
        | (go_at_call_of 330 (Value.int IntKind.u64 (B1 : Int)); refine (C1.out _ ?_).mono ?_; exact (Below.refl W3.heap.size W3).drew; rintro e w4 ⟨y1, f1, rfl, s4, b4⟩; obtain ⟨k4, k5, k6⟩ := CE.out w4 b4))
      all_goals go_wp2
      all_goals go_ret2
      all_goals exact ⟨_, _, _, _, F, S, X, Y, rfl, (s4.below P5.2 (Nat.le_refl _)).mono P5.2.size, P5.1, FIN.out.1, FIN.out.2.1, FIN.out.2.2.1, FIN.out.2.2.2.1, FIN.out.2.2.2.2.1, FIN.out.2.2.2.2.2.1, btr FIN.out.2.2.2.2.2.2 (btr b4 P5.2)⟩
    · have VF : F + a * A1 = b * B1 := by
        have := T9.out.2.1
        simp at this
        omega
      have VS : S + b * B2 = a * A2 := by
        have := T9.out.2.2.1
        simp at this
        omega
      have C1 : Box (∀ W, Below W3.heap.size W3 W → Calls Tryz.prog 330 #[.slice q M d, .int .u64 (B1 : Nat), .slice p (m + 2) c, .int .u64 (A1 : Nat)] W fun r w' => ∃ y e, r = .returned (.slice y X e) ∧ (SL w'.heap.size w' y X e F ∧ Below W3.heap.size W3 w')) := box (fun W hW => (l_balance W q p M d b B1 (m + 2) c a A1 W3.heap.size F X (sb3.below hW (Nat.le_refl _)) (sa3.below hW (Nat.le_refl _)) hW.size (by omega) (by omega) i2 i1 VF (NF _ (by omega)) HXX.out).mono (fun _ _ ⟨y, e, h1, h2, h3⟩ => ⟨y, e, h1, h2, btr hW h3⟩))
      have C2 : Box (∀ W, Below W3.heap.size W3 W → Calls Tryz.prog 330 #[.slice p (m + 2) c, .int .u64 (A2 : Nat), .slice q M d, .int .u64 (B2 : Nat)] W fun r w' => ∃ y e, r = .returned (.slice y Y e) ∧ (SL w'.heap.size w' y Y e S ∧ Below W.heap.size W w')) := box (fun W hW => (l_balance W p q (m + 2) c a A2 M d b B2 W3.heap.size S Y (sa3.below hW (Nat.le_refl _)) (sb3.below hW (Nat.le_refl _)) hW.size (by omega) (by omega) i3 i4 VS (NS _ (by omega)) HYY.out).mono (fun _ _ ⟨y, e, h1, h2, h3⟩ => ⟨y, e, h1, h2, h3⟩))
      clear VF VS NF NS sa3 sb3 T9 i1 i2 i3 i4
      go_wp2
      try rw [hW3]
      clear hW3 hh
      go_region_with (first
        | (go_at_call_of 330 (Value.int IntKind.u64 (B2 : Int)); refine (C2.out _ ?_).mono ?_; exact b4; rintro e w5 ⟨y2, f2, rfl, P5⟩)
        | (go_at_call_of 330 (Value.int IntKind.u64 (B1 : Int)); refine (C1.out _ ?_).mono ?_; exact (Below.refl W3.heap.size W3).drew; rintro e w4 ⟨y1, f1, rfl, s4, b4⟩; obtain ⟨k4, k5, k6⟩ := CE.out w4 b4))
      all_goals go_wp2
      all_goals go_ret2
      all_goals exact ⟨_, _, _, _, F, S, X, Y, rfl, (s4.below P5.2 (Nat.le_refl _)).mono P5.2.size, P5.1, FIN.out.1, FIN.out.2.1, FIN.out.2.2.1, FIN.out.2.2.2.1, FIN.out.2.2.2.2.1, FIN.out.2.2.2.2.2.1, btr FIN.out.2.2.2.2.2.2 (btr b4 P5.2)⟩
end Go.Proofs.YtbmhfcppaajgbaaGreatDoor
namespace Go.Proofs.YtbmhfcppaajgbaaGreatDoor
set_option maxRecDepth 100000
open Go.RowKit WMath

theorem wd0_small (y : Nat) (h : wl y ≤ 1) : wd y 0 = y := by
  have h1 := Nat.lt_of_lt_of_le (wl_lt y) (pow64_le _ 1 h)
  unfold wd
  rw [Nat.mul_zero, Nat.pow_zero, Nat.div_one, Nat.mod_eq_of_lt (by rw [Nat.mul_one, ← two64] at h1; exact h1)]

theorem cw1g (x : Nat) (h : x < 18446744073709551616) : #[Value.int .u64 (x : Nat)] = cw 1 x := by
  have e : wd x 0 = x := by unfold wd; rw [Nat.mul_zero, Nat.pow_zero, Nat.div_one, Nat.mod_eq_of_lt h]
  show _ = #[Value.int .u64 (wd x 0 : Nat)]
  rw [e]

set_option maxRecDepth 100000 in
set_option maxHeartbeats 2000000 in
theorem l_divisor (w : World) (p q : Option Addr) (L c a M d b B g : Nat) (ha : SL B w p L c a) (hb : SL B w q M d b) (hB : B ≤ w.heap.size) (hL : L ≤ 5000) (hM : M ≤ 5000) (la : wl a = L) (lb : wl b = M) (hg : Nat.gcd a b = g) :
    Calls Tryz.prog 305 #[.slice p L c, .slice q M d] w fun r w' => ∃ u K e, r = .returned (.slice u K e) ∧ SL w'.heap.size w' u K e g ∧ K ≤ 5000 ∧ Below w.heap.size w w' := by
  obtain ⟨k, hk⟩ : ∃ k, cmpv a b = k := ⟨_, rfl⟩
  obtain ⟨F, hF⟩ := num_fun
  have HF := box hF
  have HC := box (l_compare w p q L c a M d b B B k ha hb (by omega) (by omega) la lb hB hB hk)
  have LA := box la
  have LB := box lb
  have HG := box hg
  have hcase : (decide (k < 0) = true ∧ a ≤ b) ∨ (decide (k < 0) = false ∧ b ≤ a) := by
    unfold cmpv at hk
    by_cases e : a = b
    · rw [if_pos e] at hk; right; exact ⟨decide_eq_false (by omega), by omega⟩
    · rw [if_neg e] at hk
      by_cases e2 : a < b
      · rw [if_pos e2] at hk; left; exact ⟨decide_eq_true (by omega), by omega⟩
      · rw [if_neg e2] at hk; right; exact ⟨decide_eq_false (by omega), by omega⟩
  clear hk hF la lb hg
  rcases hcase with ⟨d0, hab⟩ | ⟨d0, hab⟩
  all_goals
    go_enter Tryz.func305, Tryz.ntmps305
    go_wp2_with fail
    refine HC.out.mono ?_
    rintro e w1 ⟨rfl, b1⟩
    have sa := (ha.below b1 hB).mono (Nat.le_trans hB b1.size)
    have sb := (hb.below b1 hB).mono (Nat.le_trans hB b1.size)
    go_wp2
    go_loopw [0, 1] (fun av bv wr => ∃ (p' q' : Option Addr) (L' c' M' d' : Nat), av = .slice p' L' c' ∧ bv = .slice q' M' d' ∧ L' ≤ 5000 ∧ M' ≤ 5000 ∧ Below w.heap.size w wr ∧ Box (∃ x y, SL wr.heap.size wr p' L' c' x ∧ SL wr.heap.size wr q' M' d' y ∧ wl x = L' ∧ wl y = M' ∧ y ≤ x ∧ Nat.gcd x y = g)) (fun _ bv wr => F wr bv)
    case atStart => first
      | exact ⟨p, q, L, c, M, d, rfl, rfl, hL, hM, b1, box ⟨a, b, sa, sb, LA.out, LB.out, hab, HG.out⟩⟩
      | exact ⟨q, p, M, d, L, c, rfl, rfl, hM, hL, b1, box ⟨b, a, sb, sa, LB.out, LA.out, hab, by rw [Nat.gcd_comm]; exact HG.out⟩⟩
    case round =>
      clear sa sb
      obtain ⟨p', q', L', c', M', d', rfl, rfl, hL', hM', hbw, HE⟩ := hrel
      obtain ⟨x, y, sx, sy, lx, ly, hyx, hgg⟩ := HE.out
      clear HE
      by_cases hM2 : 1 < M'
      · have d1 : decide (1 < M') = true := decide_eq_true hM2
        have FY := box (HF.out _ _ _ _ _ _ sy)
        have SH := box (l_shorten wr p' q' L' c' x M' d' y wr.heap.size sx sy (Nat.le_refl _) (by omega) lx ly hyx hM2)
        have LX := box lx
        have LY := box ly
        have GG := box hgg
        have HYX := box hyx
        clear lx ly hgg hyx sx sy
        go_wp2_with fail
        refine SH.out.mono ?_
        rintro e w2 ⟨u, v, f1, f2, X, S, K1, K2, rfl, sX, sS, lX, lS, hgX, hSX, hSy, hXy, b2⟩
        have FS := box (HF.out _ _ _ _ _ _ sS)
        have NB : Box (∃ x y, SL w2.heap.size w2 u K1 f1 x ∧ SL w2.heap.size w2 v K2 f2 y ∧ wl x = K1 ∧ wl y = K2 ∧ y ≤ x ∧ Nat.gcd x y = g) := box ⟨X, S, sX, sS, lX, lS, hSX, by rw [hgX]; exact GG.out⟩
        have k1 : K1 ≤ 5000 := by rw [← lX]; exact Nat.le_trans (wl_mono _ _ hXy) (by rw [LY.out]; exact hM')
        have k2 : K2 ≤ 5000 := by rw [← lS]; exact Nat.le_trans (wl_mono S y (by omega)) (by rw [LY.out]; exact hM')
        have c2 : Below w.heap.size w w2 := btr hbw b2
        have SY := box hSy
        clear sX sS lX lS hgX hSX hSy hXy b2
        go_wp2
        go_roundw
        case rel => exact ⟨_, _, _, _, _, _, rfl, rfl, k1, k2, c2, NB⟩
        case measure =>
          show F _ _ < F _ _
          rw [FS.out, FY.out]
          exact SY.out
      · have d1 : decide (1 < M') = false := decide_eq_false hM2
        by_cases h0 : M' = 0
        · subst h0
          have ey : y = 0 := wl_eq0 y ly
          subst ey
          rw [Nat.gcd_zero_right] at hgg
          subst hgg
          have SX := box sx
          clear lx ly hyx sx sy
          go_wp2
          go_ret
          exact ⟨_, _, _, rfl, SX.out, hL', hbw⟩
        · obtain rfl : M' = 1 := by omega
          obtain ⟨bq, oq, rfl, _⟩ := sy.ptr (by omega)
          have y0 : y ≠ 0 := fun e => by rw [e, wl_zero] at ly; omega
          have c1 := sy.cell 0 y (by omega) (wd0_small y (by omega))
          rw [Nat.add_zero] at c1
          have y64 : y < 18446744073709551616 := by rw [← wd0_small y (by omega)]; exact wd_lt _ _
          by_cases h1 : y = 1
          · subst h1
            rw [Nat.gcd_one_right] at hgg
            subst hgg
            have SY := box sy
            clear lx ly hyx sx sy
            go_wp2
            go_ret
            exact ⟨_, _, _, rfl, SY.out, by omega, hbw⟩
          · have d2 : ((y : Int) == 1) = false := by simp; omega
            obtain ⟨K1, hK1⟩ : ∃ K1, wl (x / y) = K1 := ⟨_, rfl⟩
            obtain ⟨K2, hK2⟩ : ∃ K2, wl (x % y) = K2 := ⟨_, rfl⟩
            have K2b : K2 ≤ 1 := by rw [← hK2, ← ly]; exact wl_mono _ _ (Nat.le_of_lt (Nat.mod_lt _ (Nat.pos_of_ne_zero y0)))
            have DV := box (l_divide wr p' _ L' c' x 1 d' y wr.heap.size K1 K2 sx sy (Nat.le_refl _) (by omega) (by omega) ly y0 hK1 hK2)
            obtain ⟨z, hz⟩ : ∃ z, x % y = z := ⟨_, rfl⟩
            have zy : z < y := by rw [← hz]; exact Nat.mod_lt _ (Nat.pos_of_ne_zero y0)
            have hgz : Nat.gcd y z = g := by rw [← hgg, ← hz, Nat.gcd_comm x y, Nat.gcd_rec y x, Nat.gcd_comm]
            have WD := box (fun W => l_wordDivisor y z g y64 (by omega) hgz W)
            have g64 : g < 18446744073709551616 := by
              have := Nat.gcd_le_left z (Nat.pos_of_ne_zero y0)
              rw [hgz] at this
              omega
            have HZ := box hz
            have WY : Box (wl y ≤ 1) := box (by omega)
            have G64 := box g64
            have W0 : Box (wd z 0 = z) := box (wd0_small z (by rw [← hz, hK2]; exact K2b))
            clear lx ly hyx hgg hK1 hK2 hz hgz sx
            go_wp2_with fail
            refine DV.out.mono ?_
            rintro e w2 ⟨u, f1, v, f2, rfl, _, sv, b2⟩
            rw [HZ.out] at sv
            have c2 := (sy.below b2 (Nat.le_refl _)).cell 0 y (by omega) (wd0_small y WY.out)
            rw [Nat.add_zero] at c2
            have b3 := btr hbw b2
            have AT := box (fun W (h : Below w2.heap.size w2 W) => l_at W v K2 f2 z 0 z (sv.below h (Nat.le_refl _)) W0.out (by omega))
            clear sv b2 sy c1 DV hbw HF HC LA LB HG b1 g64 y0
            go_wp2
            go_region_with (first
              | (go_at_call 306; refine (AT.out _ ?_).mono ?_; exact (Below.refl w2.heap.size w2).drew; rintro e w' ⟨rfl, rfl⟩)
              | (go_at_call 322; refine (WD.out _).mono ?_; rintro e w5 ⟨rfl, b5⟩))
            all_goals
              have b6 : Below w.heap.size w w5 := btr b3 (((Below.refl w2.heap.size w2).drew).trans b5)
              have r6 : (w5.alloc (.cells #[.int .u64 (g : Nat)] 23)).heap[w5.heap.size]? = some (.cells (cw 1 g) 23) := by rw [← cw1g g G64.out]; exact heap_alloc_last _ _
              have s6 : SL (w5.alloc (.cells #[.int .u64 (g : Nat)] 23)).heap.size (w5.alloc (.cells #[.int .u64 (g : Nat)] 23)) (some ⟨w5.heap.size, 0, none⟩) 1 1 g := SL.row r6 _ (Array.getElem?_eq_some_iff.1 r6).1 (by rw [Nat.mul_one, ← two64]; exact G64.out) (Nat.le_refl _)
              have S6 := box s6
              clear r6 s6
              go_wp2
              go_ret
              exact ⟨_, _, _, rfl, S6.out, by omega, btr b6 (bal _ _)⟩

set_option maxRecDepth 100000 in
theorem pn_gcd_ok (a b : Nat) (s t v : ByteArray) (hs : nbA a = s) (ht : nbA b = t) (ha : nl a ≤ 16384) (hb : nl b ≤ 16384) (hv : nbA (Nat.gcd a b) = v) (w : World) :
    Calls Tryz.prog 271 #[.string s, .string t] w fun r w' => r = .returned (.tuple #[.string v, .int .i64 0]) ∧ Below w.heap.size w w' := by
  have HO := box (ok2 hs ht ha hb)
  have HS := box hs
  have HT := box ht
  have HA := box ha
  have HB := box hb
  have HV := box hv
  obtain ⟨K, hK⟩ : ∃ K, wl a = K := ⟨_, rfl⟩
  obtain ⟨M, hM⟩ : ∃ M, wl b = M := ⟨_, rfl⟩
  have hK2 : K ≤ 2048 := by rw [← hK]; exact wl_of_nl a ha
  have hM2 : M ≤ 2048 := by rw [← hM]; exact wl_of_nl b hb
  have HK := box hK
  have HM := box hM
  have b0 := bal w (.cells #[.string s, .string t] 39)
  clear hs ht ha hb hv hK hM
  go_enter Tryz.func271, Tryz.ntmps271
  go_wp2_with fail
  refine (n_may2 s t true HO.out _ w).mono ?_
  rintro r w0 ⟨rfl, rfl⟩
  go_wp2_with fail
  refine (l_wordsOf a K s HS.out (by have := HA.out; omega) HK.out _).mono ?_
  rintro r w1 ⟨p, c, rfl, s1, b1⟩
  go_wp2_with fail
  refine (l_wordsOf b M t HT.out (by have := HB.out; omega) HM.out _).mono ?_
  rintro r w2 ⟨q, d, rfl, s2, b2⟩
  go_wp2_with fail
  refine (l_divisor w2 p q K c a M d b w2.heap.size _ ((s1.below b2 (Nat.le_refl _)).mono b2.size) s2 (Nat.le_refl _) (by omega) (by omega) HK.out HM.out rfl).mono ?_
  rintro r w3 ⟨u, N, f, rfl, s3, N2, b3⟩
  go_wp2_with fail
  refine (l_natOf w3 u N f (Nat.gcd a b) _ v s3 (Nat.le_refl _) (by omega) HV.out).mono ?_
  rintro r w4 ⟨rfl, b4⟩
  go_wp2
  go_ret2
  exact ⟨rfl, btr b0 (btr b1 (btr b2 (btr b3 b4)))⟩
end Go.Proofs.YtbmhfcppaajgbaaGreatDoor
namespace Go.Proofs.YtbmhfcppaajgbaaGreatDoor.XMath
set_option maxRecDepth 100000
open WMath

/-- How many twos a number has. -/
def tz (n : Nat) : Nat := if h : n = 0 ∨ n % 2 = 1 then 0 else tz (n / 2) + 1
termination_by n
decreasing_by omega
theorem tz_odd (n : Nat) (h : n % 2 = 1) : tz n = 0 := by rw [tz, dif_pos (Or.inr h)]
theorem tz_even (n : Nat) (h0 : n ≠ 0) (h : n % 2 = 0) : tz n = tz (n / 2) + 1 := by rw [tz, dif_neg (by omega)]
theorem tz_is (n : Nat) (h : n ≠ 0) : ∃ m, n = m * 2 ^ tz n ∧ m % 2 = 1 := by
  induction n using Nat.strongRecOn with
  | _ n ih =>
    by_cases h1 : n % 2 = 1
    · exact ⟨n, by rw [tz_odd n h1, Nat.pow_zero, Nat.mul_one], h1⟩
    · obtain ⟨m, hm, ho⟩ := ih (n / 2) (by omega) (by omega)
      refine ⟨m, ?_, ho⟩
      rw [tz_even n h (by omega), Nat.pow_succ, ← Nat.mul_assoc, ← hm]
      omega
/-- A number without its twos. -/
def od (n : Nat) : Nat := n / 2 ^ tz n
theorem od_is (n : Nat) (h : n ≠ 0) : n = od n * 2 ^ tz n ∧ od n % 2 = 1 := by
  obtain ⟨m, hm, ho⟩ := tz_is n h
  have e : od n = m := by
    unfold od
    generalize tz n = k at hm ⊢
    rw [hm]
    exact Nat.mul_div_cancel _ (Nat.two_pow_pos _)
  rw [e]
  exact ⟨hm, ho⟩
theorem od_odd (n : Nat) (h : n % 2 = 1) : od n = n := by unfold od; rw [tz_odd n h, Nat.pow_zero, Nat.div_one]
theorem od_le (n : Nat) : od n ≤ n := Nat.div_le_self _ _
theorem tz_low (n : Nat) : LowN n (tz n) := by
  by_cases h : n = 0
  · left
    exact ⟨h, by rw [h, tz, dif_pos (Or.inl rfl)]⟩
  · right
    obtain ⟨h1, h2⟩ := od_is n h
    refine ⟨h, ?_, ?_⟩
    · generalize tz n = k at h1
      rw [h1, Nat.mul_mod_left]
    · rw [Nat.testBit, Nat.shiftRight_eq_div_pow]
      have e : n / 2 ^ tz n = od n := rfl
      rw [e]
      simp only [Nat.one_and_eq_mod_two, bne_iff_ne, ne_eq]
      omega
theorem tz_blen (n : Nat) : tz n ≤ blen n := by
  by_cases h : n = 0
  · rw [h, tz, dif_pos (Or.inl rfl)]; omega
  · obtain ⟨h1, h2⟩ := od_is n h
    have h3 : 2 ^ tz n ≤ n := by
      generalize tz n = k at h1 ⊢
      rw [h1]
      exact Nat.le_mul_of_pos_left _ (by omega)
    have h4 := blen_lt n
    exact Nat.le_of_lt ((Nat.pow_lt_pow_iff_right (by decide : 1 < 2)).1 (Nat.lt_of_le_of_lt h3 h4))

/-- A rational number: its sign, numerator, denominator, exponent. -/
structure XN where
  b : Bool
  n : Nat
  d : Nat
  e : Int
/-- May it be? -/
def XN.can (x : XN) : Prop := nl x.n ≤ 16384 ∧ nl x.d ≤ 16384 ∧ -1048576 ≤ x.e ∧ x.e ≤ 1048576 ∧ ((x.b = false ∧ x.n = 0 ∧ x.d = 1 ∧ x.e = 0) ∨ (x.n % 2 = 1 ∧ x.d % 2 = 1 ∧ Nat.gcd x.n x.d = 1))
def sgn (b : Bool) : Rat := if b then -1 else 1
def XN.val (x : XN) : Rat := sgn x.b * ((x.n : Rat) / (x.d : Rat)) * (2 : Rat) ^ x.e
def X0 : XN := ⟨false, 0, 1, 0⟩
def XZ : XN := ⟨false, 0, 0, 0⟩
theorem XN.can.d {x : XN} (h : x.can) : x.d % 2 = 1 := by rcases h.2.2.2.2 with h | h <;> omega
theorem XN.can.d0 {x : XN} (h : x.can) : x.d ≠ 0 := by have := h.d; omega
theorem XN.can.null {x : XN} (h : x.can) (h0 : x.n = 0) : x = X0 := by
  rcases h.2.2.2.2 with h | h
  · cases x; simp_all [X0]
  · omega
theorem XN.can.odd {x : XN} (h : x.can) (h0 : x.n ≠ 0) : x.n % 2 = 1 ∧ x.d % 2 = 1 ∧ Nat.gcd x.n x.d = 1 := by
  rcases h.2.2.2.2 with h | h
  · exact absurd h.2.1 h0
  · exact h
theorem x0_can : X0.can := ⟨Nat.le_trans (nl_mono 0 1 (by decide)) (Nat.le_trans (nl_le_of 1 1 (by decide)) (by decide)), Nat.le_trans (nl_le_of 1 1 (by decide)) (by decide), by decide, by decide, Or.inl ⟨rfl, rfl, rfl, rfl⟩⟩

def mk (neg : Bool) (n d : Nat) (e : Int) : XN × Int :=
  if n = 0 then (X0, 0)
  else if -1048576 ≤ e + (tz n : Int) - (tz d : Int) ∧ e + (tz n : Int) - (tz d : Int) ≤ 1048576 then (⟨neg, od n / Nat.gcd (od n) (od d), od d / Nat.gcd (od n) (od d), e + (tz n : Int) - (tz d : Int)⟩, 0)
  else (XZ, 4)
theorem mk_null (neg : Bool) (d : Nat) (e : Int) : mk neg 0 d e = (X0, 0) := by unfold mk; rw [if_pos rfl]
theorem div_odd (a g : Nat) (h : g ∣ a) (ha : a % 2 = 1) : a / g % 2 = 1 := by
  obtain ⟨k, rfl⟩ := h
  have g0 : 0 < g := by
    rcases Nat.eq_zero_or_pos g with h | h
    · rw [h, Nat.zero_mul] at ha; omega
    · exact h
  rw [Nat.mul_div_cancel_left _ g0]
  rcases Nat.mod_two_eq_zero_or_one k with h | h
  · rw [Nat.mul_mod, h, Nat.mul_zero] at ha; omega
  · exact h
theorem mk_can (neg : Bool) (n d : Nat) (e : Int) (hn : nl n ≤ 16384) (hd : nl d ≤ 16384) (d0 : d ≠ 0) (h : (mk neg n d e).2 = 0) : (mk neg n d e).1.can := by
  unfold mk at h ⊢
  split
  · exact x0_can
  · rename_i n0
    rw [if_neg n0] at h
    split
    · rename_i hb
      obtain ⟨h1, h2⟩ := od_is n n0
      obtain ⟨h3, h4⟩ := od_is d d0
      have g1 := Nat.gcd_dvd_left (od n) (od d)
      have g2 := Nat.gcd_dvd_right (od n) (od d)
      refine ⟨Nat.le_trans (nl_mono _ _ (Nat.le_trans (Nat.div_le_self _ _) (od_le n))) hn, Nat.le_trans (nl_mono _ _ (Nat.le_trans (Nat.div_le_self _ _) (od_le d))) hd, hb.1, hb.2, Or.inr ⟨div_odd _ _ g1 h2, div_odd _ _ g2 h4, ?_⟩⟩
      show Nat.gcd (od n / Nat.gcd (od n) (od d)) (od d / Nat.gcd (od n) (od d)) = 1
      rw [Nat.gcd_div g1 g2]
      exact Nat.div_self (Nat.gcd_pos_of_pos_left _ (by omega))
    · rename_i hb
      rw [if_neg hb] at h
      exact absurd h (by decide)
theorem p2 (e : Int) : (0 : Rat) < (2 : Rat) ^ e := Rat.zpow_pos (by decide)
theorem p2add (e f : Int) : (2 : Rat) ^ (e + f) = (2 : Rat) ^ e * (2 : Rat) ^ f := Rat.zpow_add (by decide) e f
theorem p2nat (n : Nat) : (2 : Rat) ^ (n : Int) = ((2 ^ n : Nat) : Rat) := by rw [Rat.zpow_natCast, Rat.natCast_pow]; rfl
theorem cast_ne {n : Nat} (h : n ≠ 0) : (n : Rat) ≠ 0 := fun e => h (Rat.natCast_eq_zero_iff.1 e)
theorem cast_pos {n : Nat} (h : n ≠ 0) : (0 : Rat) < (n : Rat) := Rat.natCast_pos.2 (by omega)
/-- The magnitude. -/
def XN.mag (x : XN) : Rat := ((x.n : Rat) / (x.d : Rat)) * (2 : Rat) ^ x.e
theorem mag_pos (x : XN) (hn : x.n ≠ 0) (hd : x.d ≠ 0) : 0 < x.mag := by
  unfold XN.mag
  rw [Rat.div_def]
  exact Rat.mul_pos (Rat.mul_pos (cast_pos hn) (Rat.inv_pos.2 (cast_pos hd))) (p2 _)
/-- What the sum's formula makes of the one number: at the lesser exponent, over both denominators. -/
def sA (x y : XN) : Nat := x.n * y.d * 2 ^ (x.e - min x.e y.e).toNat
def sS (x y : XN) : Nat := if x.b = y.b then sA x y + sA y x else if sA x y < sA y x then sA y x - sA x y else sA x y - sA y x
theorem mul_ne {a b : Nat} (ha : a ≠ 0) (hb : b ≠ 0) : a * b ≠ 0 := fun h => by rcases Nat.mul_eq_zero.1 h with h | h <;> contradiction
def sg (x : XN) : Int := if x.n = 0 then 0 else if x.b then -1 else 1
def lenD (x : XN) : Int := (blen x.n : Int) - (blen x.d : Int)
def tA (x : XN) : Nat := x.n * 2 ^ (max (-lenD x) 0).toNat
def tB (x : XN) : Nat := x.d * 2 ^ (max (lenD x) 0).toNat
def topX (x : XN) : Int := (if tA x < tB x then lenD x - 1 else lenD x) + x.e
def flX (x : XN) (e : Int) : (Nat × Bool) × Int :=
  if e < -2097152 ∨ 2097152 < e then ((0, false), 2) else if x.n = 0 then ((0, true), 0)
  else if e ≤ x.e then (if nl (x.n * 2 ^ (x.e - e).toNat) ≤ 16384 then ((x.n * 2 ^ (x.e - e).toNat / x.d, decide (x.n * 2 ^ (x.e - e).toNat % x.d = 0)), 0) else ((0, false), 4))
  else if topX x < e then ((0, false), 0) else ((x.n / (x.d * 2 ^ (e - x.e).toNat), false), 0)

theorem tA_len (x : XN) (n0 : x.n ≠ 0) (d0 : x.d ≠ 0) : blen (tA x) = blen (tB x) ∧ tA x ≠ 0 ∧ tB x ≠ 0 := by
  unfold tA tB
  rw [blen_shl _ _ n0, blen_shl _ _ d0]
  refine ⟨?_, mul_ne n0 (Nat.pos_iff_ne_zero.1 (Nat.two_pow_pos _)), mul_ne d0 (Nat.pos_iff_ne_zero.1 (Nat.two_pow_pos _))⟩
  unfold lenD
  omega
theorem tA_near (x : XN) (n0 : x.n ≠ 0) (d0 : x.d ≠ 0) : tA x < 2 * tB x ∧ tB x < 2 * tA x := by
  obtain ⟨h1, h2, h3⟩ := tA_len x n0 d0
  have a1 := blen_lt (tA x)
  have a2 := blen_le (tA x) h2
  have b1 := blen_lt (tB x)
  have b2 := blen_le (tB x) h3
  have p := blen_pos (tA x) h2
  rw [← h1] at b1 b2
  obtain ⟨k, hk⟩ : ∃ k, blen (tA x) = k + 1 := ⟨_, (Nat.succ_pred_eq_of_ne_zero (Nat.pos_iff_ne_zero.1 p)).symm⟩
  rw [hk, Nat.pow_succ] at a1 b1
  rw [hk, Nat.add_sub_cancel] at a2 b2
  omega
theorem tA_mag (x : XN) (d0 : x.d ≠ 0) : x.mag * ((tB x : Nat) : Rat) = ((tA x : Nat) : Rat) * (2 : Rat) ^ (lenD x + x.e) := by
  unfold tA tB XN.mag
  rw [Rat.natCast_mul, Rat.natCast_mul, ← p2nat, ← p2nat, p2add]
  have e : (2 : Rat) ^ ((max (lenD x) 0).toNat : Int) = (2 : Rat) ^ ((max (-lenD x) 0).toNat : Int) * (2 : Rat) ^ (lenD x) := by
    rw [← p2add]
    congr 1
    omega
  rw [e]
  have z := cast_ne d0
  generalize (2 : Rat) ^ ((max (-lenD x) 0).toNat : Int) = A at *
  generalize (2 : Rat) ^ (lenD x) = B at *
  generalize (2 : Rat) ^ x.e = C at *
  grind
theorem p2succ (e : Int) : (2 : Rat) ^ (e + 1) = 2 * (2 : Rat) ^ e := by rw [p2add, Rat.zpow_one, Rat.mul_comm]
theorem top_good (x : XN) (n0 : x.n ≠ 0) (d0 : x.d ≠ 0) : (2 : Rat) ^ (topX x) ≤ x.mag ∧ x.mag < (2 : Rat) ^ (topX x + 1) := by
  obtain ⟨h1, h2⟩ := tA_near x n0 d0
  have k := tA_mag x d0
  have zB : (0 : Rat) < ((tB x : Nat) : Rat) := cast_pos (tA_len x n0 d0).2.2
  have zP := p2 (lenD x + x.e)
  have c1 : ((tA x : Nat) : Rat) < 2 * ((tB x : Nat) : Rat) := by
    have := Rat.natCast_lt_natCast.2 h1
    rwa [Rat.natCast_mul] at this
  have c2 : ((tB x : Nat) : Rat) < 2 * ((tA x : Nat) : Rat) := by
    have := Rat.natCast_lt_natCast.2 h2
    rwa [Rat.natCast_mul] at this
  unfold topX
  split
  · rename_i hl
    have c3 := Rat.natCast_lt_natCast.2 hl
    have e1 := p2succ (lenD x - 1 + x.e)
    rw [show lenD x - 1 + x.e + 1 = lenD x + x.e by omega] at e1
    rw [show lenD x - 1 + x.e + 1 = lenD x + x.e by omega]
    generalize (2 : Rat) ^ (lenD x + x.e) = P at *
    generalize (2 : Rat) ^ (lenD x - 1 + x.e) = H at *
    generalize ((tA x : Nat) : Rat) = A at *
    generalize ((tB x : Nat) : Rat) = B at *
    constructor
    · refine Rat.le_of_mul_le_mul_right (c := B) ?_ zB
      rw [k, e1]
      have : H * B ≤ H * (2 * A) := Rat.mul_le_mul_of_nonneg_left (Rat.le_of_lt c2) (by grind)
      grind
    · refine Rat.lt_of_mul_lt_mul_right (c := B) ?_ (Rat.le_of_lt zB)
      rw [k, Rat.mul_comm A P]
      exact Rat.mul_lt_mul_of_pos_left c3 zP
  · rename_i hl
    have c3 := Rat.natCast_le_natCast.2 (Nat.le_of_not_lt hl)
    have e1 := p2succ (lenD x + x.e)
    rw [e1]
    generalize (2 : Rat) ^ (lenD x + x.e) = P at *
    generalize ((tA x : Nat) : Rat) = A at *
    generalize ((tB x : Nat) : Rat) = B at *
    constructor
    · refine Rat.le_of_mul_le_mul_right (c := B) ?_ zB
      rw [k, Rat.mul_comm A P]
      exact Rat.mul_le_mul_of_nonneg_left c3 (Rat.le_of_lt zP)
    · refine Rat.lt_of_mul_lt_mul_right (c := B) ?_ (Rat.le_of_lt zB)
      rw [k]
      have : P * A < P * (2 * B) := Rat.mul_lt_mul_of_pos_left c1 zP
      grind
/-- The whole part: a number over another one, at a power of two. -/
theorem quot_good (u : Rat) (N D : Nat) (P : Rat) (hP : 0 < P) (D0 : D ≠ 0) (k : u * (D : Rat) = (N : Rat) * P) : ((N / D : Nat) : Rat) * P ≤ u ∧ u < ((N / D + 1 : Nat) : Rat) * P ∧ (N % D = 0 ↔ ((N / D : Nat) : Rat) * P = u) := by
  have zD := cast_pos D0
  have h1 : N / D * D ≤ N := Nat.div_mul_le_self N D
  have h2 : N < (N / D + 1) * D := by
    have := Nat.div_add_mod N D
    have := Nat.mod_lt N (Nat.pos_of_ne_zero D0)
    rw [Nat.add_mul, Nat.one_mul, Nat.mul_comm (N / D) D]
    omega
  have h3 : N % D = 0 ↔ N / D * D = N := by
    have := Nat.div_add_mod N D
    rw [Nat.mul_comm (N / D) D]
    omega
  have c1 := Rat.natCast_le_natCast.2 h1
  have c2 := Rat.natCast_lt_natCast.2 h2
  rw [Rat.natCast_mul] at c1 c2
  have c3 : N / D * D = N ↔ ((N / D : Nat) : Rat) * (D : Rat) = (N : Rat) := by rw [← Rat.natCast_mul, Rat.natCast_inj]
  rw [h3, c3]
  generalize ((N / D + 1 : Nat) : Rat) = M1 at *
  generalize ((N / D : Nat) : Rat) = M at *
  generalize (N : Rat) = n at *
  generalize (D : Rat) = d at *
  refine ⟨?_, ?_, ?_, ?_⟩
  · refine Rat.le_of_mul_le_mul_right (c := d) ?_ zD
    rw [k]
    have := Rat.mul_le_mul_of_nonneg_left c1 (Rat.le_of_lt hP)
    grind
  · refine Rat.lt_of_mul_lt_mul_right (c := d) ?_ (Rat.le_of_lt zD)
    rw [k]
    have := Rat.mul_lt_mul_of_pos_left c2 hP
    grind
  · intro h
    rw [← h] at k
    have : d ≠ 0 := Rat.ne_of_gt zD
    grind
  · intro h
    rw [← h] at k
    have : P ≠ 0 := Rat.ne_of_gt hP
    grind
theorem p2mono (e f : Int) (h : e ≤ f) : (2 : Rat) ^ e ≤ (2 : Rat) ^ f := by
  obtain ⟨k, rfl⟩ : ∃ k : Nat, f = (k : Int) + e := ⟨(f - e).toNat, by omega⟩
  rw [p2add (k : Int) e, p2nat]
  have a : (1 : Rat) ≤ ((2 ^ k : Nat) : Rat) := Rat.natCast_le_natCast.2 (Nat.one_le_two_pow (n := k))
  have b := Rat.mul_le_mul_of_nonneg_right a (Rat.le_of_lt (p2 e))
  rwa [Rat.one_mul] at b
theorem fl_good (x : XN) (e : Int) (hx : x.can) (n0 : x.n ≠ 0) (h : (flX x e).2 = 0) : (((flX x e).1.1 : Nat) : Rat) * (2 : Rat) ^ e ≤ x.mag ∧ x.mag < (((flX x e).1.1 + 1 : Nat) : Rat) * (2 : Rat) ^ e ∧ ((flX x e).1.2 = true ↔ (((flX x e).1.1 : Nat) : Rat) * (2 : Rat) ^ e = x.mag) := by
  have d0 := hx.d0
  unfold flX at h ⊢
  by_cases hr : e < -2097152 ∨ 2097152 < e
  · rw [if_pos hr] at h
    exact absurd h (by decide)
  rw [if_neg hr, if_neg n0] at h ⊢
  by_cases he : e ≤ x.e
  · rw [if_pos he] at h ⊢
    by_cases hl : nl (x.n * 2 ^ (x.e - e).toNat) ≤ 16384
    · rw [if_pos hl]
      have k : x.mag * (x.d : Rat) = ((x.n * 2 ^ (x.e - e).toNat : Nat) : Rat) * (2 : Rat) ^ e := by
        have e1 : (2 : Rat) ^ x.e = (2 : Rat) ^ ((x.e - e).toNat : Int) * (2 : Rat) ^ e := by rw [← p2add]; congr 1; omega
        unfold XN.mag
        rw [Rat.natCast_mul, ← p2nat, e1]
        have z := cast_ne d0
        grind
      have := quot_good _ _ _ _ (p2 e) d0 k
      simp only [decide_eq_true_eq]
      exact this
    · rw [if_neg hl] at h
      exact absurd h (by decide)
  · rw [if_neg he] at h ⊢
    have hz : ¬ x.n % (x.d * 2 ^ (e - x.e).toNat) = 0 := by
      intro hm
      obtain ⟨k, hk⟩ : ∃ k, (e - x.e).toNat = k + 1 := ⟨(e - x.e).toNat - 1, by omega⟩
      rw [hk, Nat.pow_succ, ← Nat.mul_assoc] at hm
      obtain ⟨q, hq⟩ := Nat.dvd_of_mod_eq_zero hm
      have := (hx.odd n0).1
      rw [hq, Nat.mul_assoc, Nat.mul_assoc, Nat.mul_left_comm (2 ^ k) 2, Nat.mul_left_comm x.d 2, Nat.mul_mod_right] at this
      omega
    have k : x.mag * ((x.d * 2 ^ (e - x.e).toNat : Nat) : Rat) = (x.n : Rat) * (2 : Rat) ^ e := by
      have e1 : (2 : Rat) ^ e = (2 : Rat) ^ ((e - x.e).toNat : Int) * (2 : Rat) ^ x.e := by rw [← p2add]; congr 1; omega
      unfold XN.mag
      rw [Rat.natCast_mul, ← p2nat, e1]
      have z := cast_ne d0
      grind
    have D0 : x.d * 2 ^ (e - x.e).toNat ≠ 0 := mul_ne d0 (Nat.pos_iff_ne_zero.1 (Nat.two_pow_pos _))
    have q := quot_good _ _ _ _ (p2 e) D0 k
    by_cases ht : topX x < e
    · rw [if_pos ht]
      have t2 := (top_good x n0 d0).2
      have := p2mono (topX x + 1) e (by omega)
      have up : x.mag < (2 : Rat) ^ e := by grind
      have p := mag_pos x n0 d0
      have z0 : ((0 : Nat) : Rat) = 0 := rfl
      have z1 : ((0 + 1 : Nat) : Rat) = 1 := rfl
      refine ⟨?_, ?_, ?_⟩
      · show ((0 : Nat) : Rat) * _ ≤ _
        rw [z0, Rat.zero_mul]
        exact Rat.le_of_lt p
      · show _ < ((0 + 1 : Nat) : Rat) * _
        rw [z1, Rat.one_mul]
        exact up
      · show false = true ↔ ((0 : Nat) : Rat) * _ = _
        rw [z0, Rat.zero_mul]
        exact ⟨fun h => absurd h (by decide), fun h => absurd p (by rw [← h]; exact Rat.lt_irrefl)⟩
    · rw [if_neg ht]
      refine ⟨q.1, q.2.1, ?_⟩
      exact ⟨fun h => Bool.noConfusion h, fun h => absurd (q.2.2.2 h) hz⟩

theorem nl_pow (n p : Nat) (h : n < 2 ^ p) (hp : p ≤ 131072) : nl n ≤ 16384 := by
  have := blen_le_of n p h
  unfold nl
  omega
end Go.Proofs.YtbmhfcppaajgbaaGreatDoor.XMath
namespace Go.Proofs.YtbmhfcppaajgbaaGreatDoor
set_option maxRecDepth 100000
open Go.RowKit WMath XMath

theorem nb1 : nbA 1 = ⟨#[1]⟩ := by decide +kernel
theorem nl1 : nl 1 ≤ 16384 := by decide +kernel
theorem nl0 : nl 0 ≤ 16384 := by decide +kernel
theorem eq_one (g : Nat) (v : ByteArray) (h : nbA g = v) : (v.toList == [1]) = decide (g = 1) := by
  rw [Bool.eq_iff_iff, beq_iff_eq, decide_eq_true_iff, ByteArray.toList_eq]
  constructor
  · intro e
    apply nbA_inj
    rw [h, nb1]
    obtain ⟨⟨l⟩⟩ := v
    show (⟨⟨l⟩⟩ : ByteArray) = ⟨#[1]⟩
    have : l = [1] := e
    rw [this]
  · intro e
    subst e
    rw [nb1] at h
    rw [← h]
theorem eq_nil (n : Nat) (s : ByteArray) (h : nbA n = s) (h0 : n ≠ 0) : (s.toList == []) = false := by
  rw [eq_empty, decide_eq_false_iff_not, ← h, nbA_size]
  have := nl_pos n h0
  omega

theorem quiet_world {w W : World} (b : Below w.heap.size w W) (n : Nat) : ∃ V, W.drewN n = V ∧ Below w.heap.size w V ∧ V.heap = W.heap := ⟨_, rfl, below_drewN b n, rfl⟩
theorem cells4 {w : World} {g : Nat} {T : TypeId} {c : Array Value} (row : w.heap[g]? = some (.cells c T)) (k : Nat) (v : Value) (h : c[k]? = some v) : w.cell? ⟨g, k, none⟩ = some v := by
  rw [cell_of_row w g k _ _ _ row]
  exact h

theorem cells4s {w : World} {g : Nat} {T : TypeId} {a b c d : Value} (R : w.heap[g]? = some (.cells #[a, b, c, d] T)) : w.cell? ⟨g, 0, none⟩ = some a ∧ w.cell? ⟨g, 1, none⟩ = some b ∧ w.cell? ⟨g, 2, none⟩ = some c ∧ w.cell? ⟨g, 3, none⟩ = some d := ⟨cells4 R 0 _ rfl, cells4 R 1 _ rfl, cells4 R 2 _ rfl, cells4 R 3 _ rfl⟩
theorem cells2s {w : World} {g : Nat} {T : TypeId} {a b : Value} (R : w.heap[g]? = some (.cells #[a, b] T)) : w.cell? ⟨g, 0, none⟩ = some a ∧ w.cell? ⟨g, 1, none⟩ = some b := ⟨cells4 R 0 _ rfl, cells4 R 1 _ rfl⟩
theorem opn1 (w : World) (o : Obj) : (w.alloc o).heap[w.heap.size]? = some o ∧ Below w.heap.size w (w.alloc o) := ⟨heap_alloc_last _ _, (Below.refl _ _).alloc (Nat.le_refl _) _⟩
theorem opn2 (w : World) (o1 o2 : Obj) : ((w.alloc o1).alloc o2).heap[w.heap.size]? = some o1 ∧ ((w.alloc o1).alloc o2).heap[w.heap.size + 1]? = some o2 ∧ Below w.heap.size w ((w.alloc o1).alloc o2) := by
  obtain ⟨r0, b⟩ := opn1 w o1
  have z : (w.alloc o1).heap.size = w.heap.size + 1 := by simp only [size_al]
  exact ⟨by rw [heap_below _ _ _ (by omega)]; exact r0, by rw [← z]; exact heap_alloc_last _ _, b.alloc (by omega) _⟩
theorem opn3 (w : World) (o1 o2 o3 : Obj) : (((w.alloc o1).alloc o2).alloc o3).heap[w.heap.size]? = some o1 ∧ (((w.alloc o1).alloc o2).alloc o3).heap[w.heap.size + 1]? = some o2 ∧ (((w.alloc o1).alloc o2).alloc o3).heap[w.heap.size + 1 + 1]? = some o3 ∧ Below w.heap.size w (((w.alloc o1).alloc o2).alloc o3) := by
  obtain ⟨r0, r1, b⟩ := opn2 w o1 o2
  have z : ((w.alloc o1).alloc o2).heap.size = w.heap.size + 1 + 1 := by simp only [size_al]
  exact ⟨by rw [heap_below _ _ _ (by omega)]; exact r0, by rw [heap_below _ _ _ (by omega)]; exact r1, by rw [← z]; exact heap_alloc_last _ _, b.alloc (by omega) _⟩
theorem set4_below {n : Nat} {w wr : World} {b : Nat} (h : Below n w wr) (hb : n ≤ b) (v0 v1 v2 v3 : Value) : Below n w ((((wr.setCell ⟨b, 0, none⟩ v0).setCell ⟨b, 1, none⟩ v1).setCell ⟨b, 2, none⟩ v2).setCell ⟨b, 3, none⟩ v3) :=
  (((h.setCell hb _).setCell hb _).setCell hb _).setCell hb _
theorem set4_row {w : World} {b : Nat} {c : Array Value} {T : TypeId} (h : w.heap[b]? = some (.cells c T)) (hc : c.size = 4) (v0 v1 v2 v3 : Value) :
    ((((w.setCell ⟨b, 0, none⟩ v0).setCell ⟨b, 1, none⟩ v1).setCell ⟨b, 2, none⟩ v2).setCell ⟨b, 3, none⟩ v3).heap[b]? = some (.cells #[v0, v1, v2, v3] T) := by
  rw [setCell_row (setCell_row (setCell_row (setCell_row h)))]
  obtain ⟨l⟩ := c
  match l, hc with
  | [a, b, c, d], _ => rfl
theorem set4_cells {w : World} {b : Nat} {c : Array Value} {T : TypeId} (h : w.heap[b]? = some (.cells c T)) (hc : c.size = 4) (v0 v1 v2 v3 : Value) :
    ((((w.setCell ⟨b, 0, none⟩ v0).setCell ⟨b, 1, none⟩ v1).setCell ⟨b, 2, none⟩ v2).setCell ⟨b, 3, none⟩ v3).cell? ⟨b, 0, none⟩ = some v0 ∧
    ((((w.setCell ⟨b, 0, none⟩ v0).setCell ⟨b, 1, none⟩ v1).setCell ⟨b, 2, none⟩ v2).setCell ⟨b, 3, none⟩ v3).cell? ⟨b, 1, none⟩ = some v1 ∧
    ((((w.setCell ⟨b, 0, none⟩ v0).setCell ⟨b, 1, none⟩ v1).setCell ⟨b, 2, none⟩ v2).setCell ⟨b, 3, none⟩ v3).cell? ⟨b, 2, none⟩ = some v2 ∧
    ((((w.setCell ⟨b, 0, none⟩ v0).setCell ⟨b, 1, none⟩ v1).setCell ⟨b, 2, none⟩ v2).setCell ⟨b, 3, none⟩ v3).cell? ⟨b, 3, none⟩ = some v3 := by
  have r := set4_row h hc v0 v1 v2 v3
  exact ⟨cells4 r 0 _ rfl, cells4 r 1 _ rfl, cells4 r 2 _ rfl, cells4 r 3 _ rfl⟩

/-- May a number be that is told by strings? -/
def MayX (b : Bool) (s t : ByteArray) (e : Int) : Prop := ∃ n d, nbA n = s ∧ nbA d = t ∧ (XN.mk b n d e).can
/-- Does o tell whether it may be? -/
def IsM (o : Bool) (b : Bool) (s t : ByteArray) (e : Int) : Prop := o = true ↔ MayX b s t e
theorem mayX_iff (b : Bool) (n d : Nat) (s t : ByteArray) (e : Int) (hs : nbA n = s) (ht : nbA d = t) : MayX b s t e ↔ (XN.mk b n d e).can := by
  constructor
  · rintro ⟨n', d', h1, h2, h⟩
    rw [nbA_inj _ _ (h1.trans hs.symm), nbA_inj _ _ (h2.trans ht.symm)] at h
    exact h
  · intro h
    exact ⟨n, d, hs, ht, h⟩
theorem mayX_s (b : Bool) (s t : ByteArray) (e : Int) (h : MayX b s t e) : mayB s = true ∧ mayB t = true := by
  obtain ⟨n, d, rfl, rfl, h⟩ := h
  exact ⟨mayB_nb n h.1, mayB_nb d h.2.1⟩

theorem xnull (w : World) : Calls Tryz.prog 77 #[] w fun r w' => r = .returned (.agg #[.bool false, .string ⟨#[]⟩, .string ⟨#[1]⟩, .int .i64 0]) ∧ Below w.heap.size w w' := by
  go_enter Tryz.func77, Tryz.ntmps77
  go_wp2
  exact bodyPost_ret (v := .agg #[.bool false, .string ⟨#[]⟩, .string ⟨#[1]⟩, .int .i64 0]) (by simp [results, Tryz.results77, go_sem]) rfl ⟨rfl, by first | exact Below.refl _ _ | exact bal _ _⟩
theorem zerox (w : World) : Calls Tryz.prog 90 #[] w fun r w' => r = .returned (.agg #[.bool false, .string ⟨#[]⟩, .string ⟨#[1]⟩, .int .i64 0]) ∧ Below w.heap.size w w' := by
  go_enter Tryz.func90, Tryz.ntmps90
  go_wp2
  exact bodyPost_ret (v := .agg #[.bool false, .string ⟨#[]⟩, .string ⟨#[1]⟩, .int .i64 0]) (by simp [results, Tryz.results90, go_sem]) rfl ⟨rfl, by first | exact Below.refl _ _ | exact bal _ _⟩
theorem withinx (n b : Int) (o : Bool) (hb : 0 ≤ b) (hb2 : b ≤ 9223372036854775807) (ho : (decide (-b ≤ n) && decide (n ≤ b)) = o) (w : World) : Calls Tryz.prog 219 #[.int .i64 n, .int .i64 b] w fun r w' => r = .returned (.bool o) ∧ Below w.heap.size w w' := by
  have n1 : IntKind.i64.wrap (-b) = -b := wrap_i64_is _ (by omega) (by omega)
  by_cases h : -b ≤ n
  · have d1 : decide (-b ≤ n) = true := decide_eq_true h
    rw [d1, Bool.true_and] at ho
    have B0 : Below w.heap.size w w := (Below.refl _ _)
    go_enter Tryz.func219, Tryz.ntmps219
    go_wp2
    go_ret
    exact ⟨rfl, B0⟩
  · have d1 : decide (-b ≤ n) = false := decide_eq_false h
    rw [d1, Bool.false_and] at ho
    subst ho
    have B0 : Below w.heap.size w w := (Below.refl _ _)
    go_enter Tryz.func219, Tryz.ntmps219
    go_wp2
    go_ret
    exact ⟨rfl, B0⟩
theorem and1 (x : Nat) (h : x < 256) : bits .and .u8 (x : Nat) 1 = ((x % 2 : Nat) : Int) := by
  show IntKind.u8.wrap ((BitVec.ofInt 8 (x : Int) &&& BitVec.ofInt 8 1).toNat : Int) = _
  have h1 : (BitVec.ofInt 8 1).toNat = 2 ^ 1 - 1 := by decide
  have h2 : (BitVec.ofInt 8 (x : Int)).toNat = x := by simp; omega
  rw [BitVec.toNat_and, h1, Nat.and_two_pow_sub_one_eq_mod, h2]
  exact wrap_u8_is _ _ (by omega)
theorem rodd (n : Nat) (s : ByteArray) (o : Bool) (hs : nbA n = s) (hl : nl n ≤ 16384) (ho : decide (n % 2 = 1) = o) (w : World) : Calls Tryz.prog 76 #[.string s] w fun r w' => r = .returned (.bool o) ∧ Below w.heap.size w w' := by
  by_cases h0 : n = 0
  · subst h0
    rw [nbA_zero] at hs
    subst hs
    have e : o = false := by rw [← ho]; rfl
    subst e
    clear ho hl
    have B0 : Below w.heap.size w w := (Below.refl _ _)
    go_enter Tryz.func76, Tryz.ntmps76
    go_wp2
    go_ret
    exact ⟨rfl, B0⟩
  · have d0 := eq_nil n s hs h0
    obtain ⟨L, hL⟩ : ∃ L, nl n = L := ⟨_, rfl⟩
    have hz : s.size = L := by rw [← hs, nbA_size, hL]
    have L0 : 0 < L := by rw [← hL]; exact nl_pos n h0
    have hk : L - 1 < s.size := by omega
    obtain ⟨x, hx⟩ : ∃ x, (s[L - 1]'hk).toNat = x := ⟨_, rfl⟩
    have hxd : n % 256 = x := by
      rw [← hx]
      subst hs
      rw [nbA_get, hL, show L - 1 - (L - 1) = 0 by omega]
      unfold d8
      rw [Nat.mul_zero, Nat.pow_zero, Nat.div_one]
    have x256 : x < 256 := by omega
    have hxr := idx_run s (L - 1) ((L : Int) - 1) x (by omega) hk hx
    have n1 : IntKind.i64.wrap ((L : Int) - 1) = (L : Int) - 1 := wrap_i64_is _ (by omega) (by omega)
    have ha := and1 x x256
    obtain ⟨y, hy⟩ : ∃ y, x % 2 = y := ⟨_, rfl⟩
    rw [hy] at ha
    have hc : ((y : Int) == 1) = o := by
      rw [← ho, Bool.eq_iff_iff, beq_iff_eq, decide_eq_true_iff]
      omega
    have hc2 : decide (y = 1) = o := by
      rw [← ho, Bool.eq_iff_iff, decide_eq_true_iff, decide_eq_true_iff]
      omega
    clear hs hL hx hxd hy ho
    have B0 : Below w.heap.size w w := (Below.refl _ _)
    go_enter Tryz.func76, Tryz.ntmps76
    go_wp2
    go_ret
    exact ⟨rfl, B0⟩
theorem oddx (n : Nat) (s : ByteArray) (o : Bool) (hs : nbA n = s) (hl : nl n ≤ 16384) (ho : decide (n % 2 = 1) = o) (w : World) (hT : TabAt w) : Calls Tryz.prog 220 #[.string s] w fun r w' => r = .returned (.bool o) ∧ Below w.heap.size w w' := by
  by_cases h0 : n = 0
  · subst h0
    rw [nbA_zero] at hs
    subst hs
    have e : o = false := by rw [← ho]; rfl
    subst e
    clear ho hl
    have B0 : Below w.heap.size w w := (Below.refl _ _)
    go_enter Tryz.func220, Tryz.ntmps220
    go_wp2
    go_ret
    exact ⟨rfl, B0⟩
  · have d0 := eq_nil n s hs h0
    obtain ⟨t, ht⟩ : ∃ t, tz n = t := ⟨_, rfl⟩
    have HT := box (tz_low n)
    rw [ht] at HT
    have hc : ((t : Int) == 0) = o := by
      rw [← ho, ← ht, Bool.eq_iff_iff, beq_iff_eq, decide_eq_true_iff]
      constructor
      · intro h
        obtain ⟨a, b⟩ := od_is n h0
        have e : tz n = 0 := by omega
        unfold od at b
        rw [e, Nat.pow_zero, Nat.div_one] at b
        exact b
      · intro h
        rw [tz_odd n h]
        rfl
    have hc2 : decide (t = 0) = o := by
      rw [← hc, Bool.eq_iff_iff, beq_iff_eq, decide_eq_true_iff]
      omega
    have HS := box hs
    have HL := box hl
    have TT := box hT
    clear hs hl ht ho hT
    have B0 : Below w.heap.size w w := (Below.refl _ _)
    go_enter Tryz.func220, Tryz.ntmps220
    go_wp2_with fail
    refine (pn_low_ok n t s HS.out HL.out HT.out _ (tabB TT.out B0)).mono ?_
    rintro r w1 ⟨rfl, b1⟩
    have B1 : Below w.heap.size w w1 := btr B0 b1
    clear b1 B0 
    go_wp2
    go_ret
    exact ⟨rfl, B1⟩
end Go.Proofs.YtbmhfcppaajgbaaGreatDoor
namespace Go.Proofs.YtbmhfcppaajgbaaGreatDoor
set_option maxRecDepth 100000
open Go.RowKit WMath XMath

theorem apartx (a b : Nat) (s t : ByteArray) (o : Bool) (hs : nbA a = s) (ht : nbA b = t) (ha : nl a ≤ 16384) (hb : nl b ≤ 16384) (ho : decide (Nat.gcd a b = 1) = o) (w : World) : Calls Tryz.prog 221 #[.string s, .string t] w fun r w' => r = .returned (.bool o) ∧ Below w.heap.size w w' := by
  obtain ⟨v, hv⟩ : ∃ v, nbA (Nat.gcd a b) = v := ⟨_, rfl⟩
  have e1 := eq_one _ v hv
  rw [ho] at e1
  have HS := box hs
  have HT := box ht
  have HA := box ha
  have HB := box hb
  have HV := box hv
  clear hs ht ha hb ho hv
  have B0 : Below w.heap.size w w := (Below.refl _ _)
  go_enter Tryz.func221, Tryz.ntmps221
  go_wp2_with fail
  refine (pn_gcd_ok a b s t v HS.out HT.out HA.out HB.out HV.out _).mono ?_
  rintro r w1 ⟨rfl, b1⟩
  have B1 : Below w.heap.size w w1 := btr B0 b1
  clear b1 B0 
  go_wp2
  go_ret
  exact ⟨rfl, B1⟩

theorem can_parts (b : Bool) (n d : Nat) (e : Int) (hn : nl n ≤ 16384) (hd : nl d ≤ 16384) : (XN.mk b n d e).can ↔ (-1048576 ≤ e ∧ e ≤ 1048576 ∧ ((b = false ∧ n = 0 ∧ d = 1 ∧ e = 0) ∨ (n % 2 = 1 ∧ d % 2 = 1 ∧ Nat.gcd n d = 1))) := by
  unfold XN.can
  exact ⟨fun h => h.2.2, fun h => ⟨hn, hd, h⟩⟩

set_option maxRecDepth 100000 in
theorem xmay (b : Bool) (s t : ByteArray) (e : Int) (o : Bool) (ho : o = true ↔ MayX b s t e) (w : World) : Calls Tryz.prog 29 #[.agg #[.bool b, .string s, .string t, .int .i64 e]] w fun r w' => r = .returned (.bool o) ∧ Below w.heap.size w w' := by
  cases hm1 : mayB s
  · have eo : o = false := by
      cases o
      · rfl
      · have := (mayX_s b s t e (ho.1 rfl)).1
        rw [hm1] at this
        exact absurd this (by decide)
    subst eo
    have H1 := box hm1
    clear hm1 ho
    obtain ⟨Rx_0, B0⟩ := opn1 w (Obj.cells #[.bool b, .string s, .string t, .int .i64 e] 41)
    go_enter Tryz.func29, Tryz.ntmps29
    go_wp2_with fail
    go_quiet (fail)
    obtain ⟨w1, hw, B1, hh⟩ := quiet_world B0 nq
    rw [hw]
    have Rx_1 : w1.heap[w.heap.size]? = some (Obj.cells #[.bool b, .string s, .string t, .int .i64 e] 41) := by rw [hh]; exact Rx_0
    clear hw hh B0 Rx_0
    obtain ⟨cx_1_0, cx_1_1, cx_1_2, cx_1_3⟩ := cells4s Rx_1
    go_wp2_with fail
    refine (nat_may s false H1.out _).mono ?_
    rintro r w' ⟨rfl, rfl⟩
    go_wp2
    go_ret
    exact ⟨rfl, B1⟩
  cases hm2 : mayB t
  · have eo : o = false := by
      cases o
      · rfl
      · have := (mayX_s b s t e (ho.1 rfl)).2
        rw [hm2] at this
        exact absurd this (by decide)
    subst eo
    have H1 := box hm1
    have H2 := box hm2
    clear hm1 hm2 ho
    obtain ⟨Rx_0, B0⟩ := opn1 w (Obj.cells #[.bool b, .string s, .string t, .int .i64 e] 41)
    go_enter Tryz.func29, Tryz.ntmps29
    go_wp2_with fail
    go_quiet (fail)
    obtain ⟨w1, hw, B1, hh⟩ := quiet_world B0 nq
    rw [hw]
    have Rx_1 : w1.heap[w.heap.size]? = some (Obj.cells #[.bool b, .string s, .string t, .int .i64 e] 41) := by rw [hh]; exact Rx_0
    clear hw hh B0 Rx_0
    obtain ⟨cx_1_0, cx_1_1, cx_1_2, cx_1_3⟩ := cells4s Rx_1
    go_wp2_with fail
    refine (nat_may s true H1.out _).mono ?_
    rintro r w' ⟨rfl, rfl⟩
    go_wp2_with fail
    refine (nat_may t false H2.out _).mono ?_
    rintro r w' ⟨rfl, rfl⟩
    go_wp2
    go_ret
    exact ⟨rfl, B1⟩
  obtain ⟨n, hs, ln⟩ := mayB_is s hm1
  obtain ⟨d, ht, ld⟩ := mayB_is t hm2
  rw [mayX_iff b n d s t e hs ht, can_parts b n d e ln ld] at ho
  have H1 := box hm1
  have H2 := box hm2
  have HS := box hs
  have HT := box ht
  have LN := box ln
  have LD := box ld
  clear hm1 hm2
  by_cases hd : d % 2 = 1
  · have D1 : Box (decide (d % 2 = 1) = true) := box (decide_eq_true hd)
    by_cases h1 : e < -1048576
    · have eo : o = false := by cases o; rfl; have := ho.1 rfl; omega
      subst eo
      have k1 : decide (e < -1048576) = true := decide_eq_true h1
      clear ho hs ht ln ld hd
      obtain ⟨Rx_0, B0⟩ := opn1 w (Obj.cells #[.bool b, .string s, .string t, .int .i64 e] 41)
      go_enter Tryz.func29, Tryz.ntmps29
      go_wp2_with fail
      go_quiet (fail)
      obtain ⟨w1, hw, B1, hh⟩ := quiet_world B0 nq
      rw [hw]
      have Rx_1 : w1.heap[w.heap.size]? = some (Obj.cells #[.bool b, .string s, .string t, .int .i64 e] 41) := by rw [hh]; exact Rx_0
      clear hw hh B0 Rx_0
      obtain ⟨cx_1_0, cx_1_1, cx_1_2, cx_1_3⟩ := cells4s Rx_1
      go_wp2_with fail
      refine (nat_may s true H1.out _).mono ?_
      rintro r w' ⟨rfl, rfl⟩
      go_wp2_with fail
      refine (nat_may t true H2.out _).mono ?_
      rintro r w' ⟨rfl, rfl⟩
      go_wp2_with fail
      refine (rodd d t true HT.out LD.out D1.out _).mono ?_
      rintro r w2 ⟨rfl, b2⟩
      have B2 : Below w.heap.size w w2 := btr B1 b2
      have Rx_2 := heap_of b2 _ _ _ Rx_1
      clear b2 B1 Rx_1 cx_1_0 cx_1_1 cx_1_2 cx_1_3
      obtain ⟨cx_2_0, cx_2_1, cx_2_2, cx_2_3⟩ := cells4s Rx_2
      go_wp2
      go_ret
      exact ⟨rfl, B2⟩
    have k1 : decide (e < -1048576) = false := decide_eq_false h1
    by_cases h2 : 1048576 < e
    · have eo : o = false := by cases o; rfl; have := ho.1 rfl; omega
      subst eo
      have k2 : decide (1048576 < e) = true := decide_eq_true h2
      clear ho hs ht ln ld hd
      obtain ⟨Rx_0, B0⟩ := opn1 w (Obj.cells #[.bool b, .string s, .string t, .int .i64 e] 41)
      go_enter Tryz.func29, Tryz.ntmps29
      go_wp2_with fail
      go_quiet (fail)
      obtain ⟨w1, hw, B1, hh⟩ := quiet_world B0 nq
      rw [hw]
      have Rx_1 : w1.heap[w.heap.size]? = some (Obj.cells #[.bool b, .string s, .string t, .int .i64 e] 41) := by rw [hh]; exact Rx_0
      clear hw hh B0 Rx_0
      obtain ⟨cx_1_0, cx_1_1, cx_1_2, cx_1_3⟩ := cells4s Rx_1
      go_wp2_with fail
      refine (nat_may s true H1.out _).mono ?_
      rintro r w' ⟨rfl, rfl⟩
      go_wp2_with fail
      refine (nat_may t true H2.out _).mono ?_
      rintro r w' ⟨rfl, rfl⟩
      go_wp2_with fail
      refine (rodd d t true HT.out LD.out D1.out _).mono ?_
      rintro r w2 ⟨rfl, b2⟩
      have B2 : Below w.heap.size w w2 := btr B1 b2
      have Rx_2 := heap_of b2 _ _ _ Rx_1
      clear b2 B1 Rx_1 cx_1_0 cx_1_1 cx_1_2 cx_1_3
      obtain ⟨cx_2_0, cx_2_1, cx_2_2, cx_2_3⟩ := cells4s Rx_2
      go_wp2
      go_ret
      exact ⟨rfl, B2⟩
    have k2 : decide (1048576 < e) = false := decide_eq_false h2
    by_cases h0 : n = 0
    · subst h0
      rw [nbA_zero] at hs
      have hs2 := hs
      clear hs
      subst hs2
      have e1 := eq_one d t ht
      have ez : (e == 0) = decide (e = 0) := by rw [Bool.eq_iff_iff, beq_iff_eq, decide_eq_true_iff]
      have ho2 : o = true ↔ (b = false ∧ d = 1 ∧ e = 0) := by rw [ho]; exact ⟨fun h => by rcases h.2.2 with h | h; exact ⟨h.1, h.2.2⟩; omega, fun h => ⟨by omega, by omega, Or.inl ⟨h.1, rfl, h.2⟩⟩⟩
      clear ho ht ln ld hd h1 h2
      cases b
      · by_cases d1 : d = 1
        · rw [decide_eq_true d1] at e1
          by_cases z : e = 0
          · have eo : o = true := ho2.2 ⟨rfl, d1, z⟩
            subst eo
            rw [decide_eq_true z] at ez
            clear ho2 d1
            subst z
            obtain ⟨Rx_0, B0⟩ := opn1 w (Obj.cells #[.bool false, .string ⟨#[]⟩, .string t, .int .i64 0] 41)
            go_enter Tryz.func29, Tryz.ntmps29
            go_wp2_with fail
            go_quiet (fail)
            obtain ⟨w1, hw, B1, hh⟩ := quiet_world B0 nq
            rw [hw]
            have Rx_1 : w1.heap[w.heap.size]? = some (Obj.cells #[.bool false, .string ⟨#[]⟩, .string t, .int .i64 0] 41) := by rw [hh]; exact Rx_0
            clear hw hh B0 Rx_0
            obtain ⟨cx_1_0, cx_1_1, cx_1_2, cx_1_3⟩ := cells4s Rx_1
            go_wp2_with fail
            refine (nat_may _ true H1.out _).mono ?_
            rintro r w' ⟨rfl, rfl⟩
            go_wp2_with fail
            refine (nat_may t true H2.out _).mono ?_
            rintro r w' ⟨rfl, rfl⟩
            go_wp2_with fail
            refine (rodd d t true HT.out LD.out D1.out _).mono ?_
            rintro r w2 ⟨rfl, b2⟩
            have B2 : Below w.heap.size w w2 := btr B1 b2
            have Rx_2 := heap_of b2 _ _ _ Rx_1
            clear b2 B1 Rx_1 cx_1_0 cx_1_1 cx_1_2 cx_1_3
            obtain ⟨cx_2_0, cx_2_1, cx_2_2, cx_2_3⟩ := cells4s Rx_2
            go_wp2_with fail
            obtain ⟨F, hF1, hF2⟩ := below_fun w2
            have fx_0 := fun u => cells4 (heap_of (hF1 u) _ _ _ Rx_2) 0 _ rfl
            have fx_1 := fun u => cells4 (heap_of (hF1 u) _ _ _ Rx_2) 1 _ rfl
            have fx_2 := fun u => cells4 (heap_of (hF1 u) _ _ _ Rx_2) 2 _ rfl
            have fx_3 := fun u => cells4 (heap_of (hF1 u) _ _ _ Rx_2) 3 _ rfl
            refine wp_region_below F hF2 (by kernel_rfl) (by kernel_rfl) ?_
            repeat first | go_big_quiet_step (first | (go_at_call 77; exact quietF hF1 hF2 (xnull _)) | fail) | quiet_step (first | (go_at_call 77; exact quietF hF1 hF2 (xnull _)) | fail)
            refine wpQuiet_nil ?_
            rintro _ ⟨uW, rfl⟩
            have B3 := btr B2 (hF1 uW)
            have Rx_3 := heap_of (hF1 uW) _ _ _ Rx_2
            obtain ⟨w3, hw⟩ : ∃ V, F uW = V := ⟨_, rfl⟩
            rw [hw] at B3 Rx_3
            try rw [hw]
            clear hw hF1 hF2 B2 fx_0 fx_1 fx_2 fx_3 Rx_2 cx_2_0 cx_2_1 cx_2_2 cx_2_3
            clear F
            obtain ⟨cx_3_0, cx_3_1, cx_3_2, cx_3_3⟩ := cells4s Rx_3
            go_wp2
            go_ret
            exact ⟨rfl, B3⟩
          · have eo : o = false := by cases o; rfl; exact absurd (ho2.1 rfl).2.2 z
            subst eo
            rw [decide_eq_false z] at ez
            clear ho2 d1
            obtain ⟨Rx_0, B0⟩ := opn1 w (Obj.cells #[.bool false, .string ⟨#[]⟩, .string t, .int .i64 e] 41)
            go_enter Tryz.func29, Tryz.ntmps29
            go_wp2_with fail
            go_quiet (fail)
            obtain ⟨w1, hw, B1, hh⟩ := quiet_world B0 nq
            rw [hw]
            have Rx_1 : w1.heap[w.heap.size]? = some (Obj.cells #[.bool false, .string ⟨#[]⟩, .string t, .int .i64 e] 41) := by rw [hh]; exact Rx_0
            clear hw hh B0 Rx_0
            obtain ⟨cx_1_0, cx_1_1, cx_1_2, cx_1_3⟩ := cells4s Rx_1
            go_wp2_with fail
            refine (nat_may _ true H1.out _).mono ?_
            rintro r w' ⟨rfl, rfl⟩
            go_wp2_with fail
            refine (nat_may t true H2.out _).mono ?_
            rintro r w' ⟨rfl, rfl⟩
            go_wp2_with fail
            refine (rodd d t true HT.out LD.out D1.out _).mono ?_
            rintro r w2 ⟨rfl, b2⟩
            have B2 : Below w.heap.size w w2 := btr B1 b2
            have Rx_2 := heap_of b2 _ _ _ Rx_1
            clear b2 B1 Rx_1 cx_1_0 cx_1_1 cx_1_2 cx_1_3
            obtain ⟨cx_2_0, cx_2_1, cx_2_2, cx_2_3⟩ := cells4s Rx_2
            go_wp2_with fail
            obtain ⟨F, hF1, hF2⟩ := below_fun w2
            have fx_0 := fun u => cells4 (heap_of (hF1 u) _ _ _ Rx_2) 0 _ rfl
            have fx_1 := fun u => cells4 (heap_of (hF1 u) _ _ _ Rx_2) 1 _ rfl
            have fx_2 := fun u => cells4 (heap_of (hF1 u) _ _ _ Rx_2) 2 _ rfl
            have fx_3 := fun u => cells4 (heap_of (hF1 u) _ _ _ Rx_2) 3 _ rfl
            refine wp_region_below F hF2 (by kernel_rfl) (by kernel_rfl) ?_
            repeat first | go_big_quiet_step (first | (go_at_call 77; exact quietF hF1 hF2 (xnull _)) | fail) | quiet_step (first | (go_at_call 77; exact quietF hF1 hF2 (xnull _)) | fail)
            refine wpQuiet_nil ?_
            rintro _ ⟨uW, rfl⟩
            have B3 := btr B2 (hF1 uW)
            have Rx_3 := heap_of (hF1 uW) _ _ _ Rx_2
            obtain ⟨w3, hw⟩ : ∃ V, F uW = V := ⟨_, rfl⟩
            rw [hw] at B3 Rx_3
            try rw [hw]
            clear hw hF1 hF2 B2 fx_0 fx_1 fx_2 fx_3 Rx_2 cx_2_0 cx_2_1 cx_2_2 cx_2_3
            clear F
            obtain ⟨cx_3_0, cx_3_1, cx_3_2, cx_3_3⟩ := cells4s Rx_3
            go_wp2
            go_ret
            exact ⟨rfl, B3⟩
        · have eo : o = false := by cases o; rfl; exact absurd (ho2.1 rfl).2.1 d1
          subst eo
          rw [decide_eq_false d1] at e1
          clear ho2 d1 ez
          obtain ⟨Rx_0, B0⟩ := opn1 w (Obj.cells #[.bool false, .string ⟨#[]⟩, .string t, .int .i64 e] 41)
          go_enter Tryz.func29, Tryz.ntmps29
          go_wp2_with fail
          go_quiet (fail)
          obtain ⟨w1, hw, B1, hh⟩ := quiet_world B0 nq
          rw [hw]
          have Rx_1 : w1.heap[w.heap.size]? = some (Obj.cells #[.bool false, .string ⟨#[]⟩, .string t, .int .i64 e] 41) := by rw [hh]; exact Rx_0
          clear hw hh B0 Rx_0
          obtain ⟨cx_1_0, cx_1_1, cx_1_2, cx_1_3⟩ := cells4s Rx_1
          go_wp2_with fail
          refine (nat_may _ true H1.out _).mono ?_
          rintro r w' ⟨rfl, rfl⟩
          go_wp2_with fail
          refine (nat_may t true H2.out _).mono ?_
          rintro r w' ⟨rfl, rfl⟩
          go_wp2_with fail
          refine (rodd d t true HT.out LD.out D1.out _).mono ?_
          rintro r w2 ⟨rfl, b2⟩
          have B2 : Below w.heap.size w w2 := btr B1 b2
          have Rx_2 := heap_of b2 _ _ _ Rx_1
          clear b2 B1 Rx_1 cx_1_0 cx_1_1 cx_1_2 cx_1_3
          obtain ⟨cx_2_0, cx_2_1, cx_2_2, cx_2_3⟩ := cells4s Rx_2
          go_wp2_with fail
          obtain ⟨F, hF1, hF2⟩ := below_fun w2
          have fx_0 := fun u => cells4 (heap_of (hF1 u) _ _ _ Rx_2) 0 _ rfl
          have fx_1 := fun u => cells4 (heap_of (hF1 u) _ _ _ Rx_2) 1 _ rfl
          have fx_2 := fun u => cells4 (heap_of (hF1 u) _ _ _ Rx_2) 2 _ rfl
          have fx_3 := fun u => cells4 (heap_of (hF1 u) _ _ _ Rx_2) 3 _ rfl
          refine wp_region_below F hF2 (by kernel_rfl) (by kernel_rfl) ?_
          repeat first | go_big_quiet_step (first | (go_at_call 77; exact quietF hF1 hF2 (xnull _)) | fail) | quiet_step (first | (go_at_call 77; exact quietF hF1 hF2 (xnull _)) | fail)
          refine wpQuiet_nil ?_
          rintro _ ⟨uW, rfl⟩
          have B3 := btr B2 (hF1 uW)
          have Rx_3 := heap_of (hF1 uW) _ _ _ Rx_2
          obtain ⟨w3, hw⟩ : ∃ V, F uW = V := ⟨_, rfl⟩
          rw [hw] at B3 Rx_3
          try rw [hw]
          clear hw hF1 hF2 B2 fx_0 fx_1 fx_2 fx_3 Rx_2 cx_2_0 cx_2_1 cx_2_2 cx_2_3
          clear F
          obtain ⟨cx_3_0, cx_3_1, cx_3_2, cx_3_3⟩ := cells4s Rx_3
          go_wp2
          go_ret
          exact ⟨rfl, B3⟩
      · have eo : o = false := by cases o; rfl; exact absurd (ho2.1 rfl).1 (by decide)
        subst eo
        clear ho2 e1 ez
        obtain ⟨Rx_0, B0⟩ := opn1 w (Obj.cells #[.bool true, .string ⟨#[]⟩, .string t, .int .i64 e] 41)
        go_enter Tryz.func29, Tryz.ntmps29
        go_wp2_with fail
        go_quiet (fail)
        obtain ⟨w1, hw, B1, hh⟩ := quiet_world B0 nq
        rw [hw]
        have Rx_1 : w1.heap[w.heap.size]? = some (Obj.cells #[.bool true, .string ⟨#[]⟩, .string t, .int .i64 e] 41) := by rw [hh]; exact Rx_0
        clear hw hh B0 Rx_0
        obtain ⟨cx_1_0, cx_1_1, cx_1_2, cx_1_3⟩ := cells4s Rx_1
        go_wp2_with fail
        refine (nat_may _ true H1.out _).mono ?_
        rintro r w' ⟨rfl, rfl⟩
        go_wp2_with fail
        refine (nat_may t true H2.out _).mono ?_
        rintro r w' ⟨rfl, rfl⟩
        go_wp2_with fail
        refine (rodd d t true HT.out LD.out D1.out _).mono ?_
        rintro r w2 ⟨rfl, b2⟩
        have B2 : Below w.heap.size w w2 := btr B1 b2
        have Rx_2 := heap_of b2 _ _ _ Rx_1
        clear b2 B1 Rx_1 cx_1_0 cx_1_1 cx_1_2 cx_1_3
        obtain ⟨cx_2_0, cx_2_1, cx_2_2, cx_2_3⟩ := cells4s Rx_2
        go_wp2_with fail
        obtain ⟨F, hF1, hF2⟩ := below_fun w2
        have fx_0 := fun u => cells4 (heap_of (hF1 u) _ _ _ Rx_2) 0 _ rfl
        have fx_1 := fun u => cells4 (heap_of (hF1 u) _ _ _ Rx_2) 1 _ rfl
        have fx_2 := fun u => cells4 (heap_of (hF1 u) _ _ _ Rx_2) 2 _ rfl
        have fx_3 := fun u => cells4 (heap_of (hF1 u) _ _ _ Rx_2) 3 _ rfl
        refine wp_region_below F hF2 (by kernel_rfl) (by kernel_rfl) ?_
        repeat first | go_big_quiet_step (first | (go_at_call 77; exact quietF hF1 hF2 (xnull _)) | fail) | quiet_step (first | (go_at_call 77; exact quietF hF1 hF2 (xnull _)) | fail)
        refine wpQuiet_nil ?_
        rintro _ ⟨uW, rfl⟩
        have B3 := btr B2 (hF1 uW)
        have Rx_3 := heap_of (hF1 uW) _ _ _ Rx_2
        obtain ⟨w3, hw⟩ : ∃ V, F uW = V := ⟨_, rfl⟩
        rw [hw] at B3 Rx_3
        try rw [hw]
        clear hw hF1 hF2 B2 fx_0 fx_1 fx_2 fx_3 Rx_2 cx_2_0 cx_2_1 cx_2_2 cx_2_3
        clear F
        obtain ⟨cx_3_0, cx_3_1, cx_3_2, cx_3_3⟩ := cells4s Rx_3
        go_wp2
        go_ret
        exact ⟨rfl, B3⟩
    · have e0 := eq_nil n s hs h0
      have ho2 : o = true ↔ (n % 2 = 1 ∧ Nat.gcd n d = 1) := by rw [ho]; exact ⟨fun h => by rcases h.2.2 with h | h; exact absurd h.2.1 h0; exact ⟨h.1, h.2.2⟩, fun h => ⟨by omega, by omega, Or.inr ⟨h.1, hd, h.2⟩⟩⟩
      obtain ⟨p, hp⟩ : ∃ p, decide (n % 2 = 1) = p := ⟨_, rfl⟩
      obtain ⟨v, hv⟩ : ∃ v, nbA (Nat.gcd n d) = v := ⟨_, rfl⟩
      have e1 := eq_one _ v hv
      have HP := box hp
      have HV := box hv
      clear ho hs ht ln ld hd h1 h2 h0
      cases p
      · have eo : o = false := by cases o; rfl; rw [decide_eq_true (ho2.1 rfl).1] at hp; exact hp
        subst eo
        clear ho2 hp hv e1
        obtain ⟨Rx_0, B0⟩ := opn1 w (Obj.cells #[.bool b, .string s, .string t, .int .i64 e] 41)
        go_enter Tryz.func29, Tryz.ntmps29
        go_wp2_with fail
        go_quiet (fail)
        obtain ⟨w1, hw, B1, hh⟩ := quiet_world B0 nq
        rw [hw]
        have Rx_1 : w1.heap[w.heap.size]? = some (Obj.cells #[.bool b, .string s, .string t, .int .i64 e] 41) := by rw [hh]; exact Rx_0
        clear hw hh B0 Rx_0
        obtain ⟨cx_1_0, cx_1_1, cx_1_2, cx_1_3⟩ := cells4s Rx_1
        go_wp2_with fail
        refine (nat_may _ true H1.out _).mono ?_
        rintro r w' ⟨rfl, rfl⟩
        go_wp2_with fail
        refine (nat_may t true H2.out _).mono ?_
        rintro r w' ⟨rfl, rfl⟩
        go_wp2_with fail
        refine (rodd d t true HT.out LD.out D1.out _).mono ?_
        rintro r w2 ⟨rfl, b2⟩
        have B2 : Below w.heap.size w w2 := btr B1 b2
        have Rx_2 := heap_of b2 _ _ _ Rx_1
        clear b2 B1 Rx_1 cx_1_0 cx_1_1 cx_1_2 cx_1_3
        obtain ⟨cx_2_0, cx_2_1, cx_2_2, cx_2_3⟩ := cells4s Rx_2
        go_wp2_with fail
        refine (rodd n s false HS.out LN.out HP.out _).mono ?_
        rintro r w3 ⟨rfl, b3⟩
        have B3 : Below w.heap.size w w3 := btr B2 b3
        have Rx_3 := heap_of b3 _ _ _ Rx_2
        clear b3 B2 Rx_2 cx_2_0 cx_2_1 cx_2_2 cx_2_3
        obtain ⟨cx_3_0, cx_3_1, cx_3_2, cx_3_3⟩ := cells4s Rx_3
        go_wp2
        go_ret
        exact ⟨rfl, B3⟩
      · have eo : decide (Nat.gcd n d = 1) = o := by
          rw [Bool.eq_iff_iff, ho2, decide_eq_true_iff]
          exact ⟨fun h => ⟨of_decide_eq_true hp, h⟩, fun h => h.2⟩
        rw [eo] at e1
        clear ho2 hp hv eo
        obtain ⟨Rx_0, B0⟩ := opn1 w (Obj.cells #[.bool b, .string s, .string t, .int .i64 e] 41)
        go_enter Tryz.func29, Tryz.ntmps29
        go_wp2_with fail
        go_quiet (fail)
        obtain ⟨w1, hw, B1, hh⟩ := quiet_world B0 nq
        rw [hw]
        have Rx_1 : w1.heap[w.heap.size]? = some (Obj.cells #[.bool b, .string s, .string t, .int .i64 e] 41) := by rw [hh]; exact Rx_0
        clear hw hh B0 Rx_0
        obtain ⟨cx_1_0, cx_1_1, cx_1_2, cx_1_3⟩ := cells4s Rx_1
        go_wp2_with fail
        refine (nat_may _ true H1.out _).mono ?_
        rintro r w' ⟨rfl, rfl⟩
        go_wp2_with fail
        refine (nat_may t true H2.out _).mono ?_
        rintro r w' ⟨rfl, rfl⟩
        go_wp2_with fail
        refine (rodd d t true HT.out LD.out D1.out _).mono ?_
        rintro r w2 ⟨rfl, b2⟩
        have B2 : Below w.heap.size w w2 := btr B1 b2
        have Rx_2 := heap_of b2 _ _ _ Rx_1
        clear b2 B1 Rx_1 cx_1_0 cx_1_1 cx_1_2 cx_1_3
        obtain ⟨cx_2_0, cx_2_1, cx_2_2, cx_2_3⟩ := cells4s Rx_2
        go_wp2_with fail
        refine (rodd n s true HS.out LN.out HP.out _).mono ?_
        rintro r w3 ⟨rfl, b3⟩
        have B3 : Below w.heap.size w w3 := btr B2 b3
        have Rx_3 := heap_of b3 _ _ _ Rx_2
        clear b3 B2 Rx_2 cx_2_0 cx_2_1 cx_2_2 cx_2_3
        obtain ⟨cx_3_0, cx_3_1, cx_3_2, cx_3_3⟩ := cells4s Rx_3
        go_wp2_with fail
        refine (nat_Gcd n d s t v HS.out HT.out LN.out LD.out HV.out _).mono ?_
        rintro r w4 ⟨rfl, b4⟩
        have B4 : Below w.heap.size w w4 := btr B3 b4
        have Rx_4 := heap_of b4 _ _ _ Rx_3
        clear b4 B3 Rx_3 cx_3_0 cx_3_1 cx_3_2 cx_3_3
        obtain ⟨cx_4_0, cx_4_1, cx_4_2, cx_4_3⟩ := cells4s Rx_4
        go_wp2
        go_ret
        exact ⟨rfl, B4⟩
  · have D1 : Box (decide (d % 2 = 1) = false) := box (decide_eq_false hd)
    have eo : o = false := by cases o; rfl; have := ho.1 rfl; omega
    subst eo
    clear ho hs ht ln ld hd
    obtain ⟨Rx_0, B0⟩ := opn1 w (Obj.cells #[.bool b, .string s, .string t, .int .i64 e] 41)
    go_enter Tryz.func29, Tryz.ntmps29
    go_wp2_with fail
    go_quiet (fail)
    obtain ⟨w1, hw, B1, hh⟩ := quiet_world B0 nq
    rw [hw]
    have Rx_1 : w1.heap[w.heap.size]? = some (Obj.cells #[.bool b, .string s, .string t, .int .i64 e] 41) := by rw [hh]; exact Rx_0
    clear hw hh B0 Rx_0
    obtain ⟨cx_1_0, cx_1_1, cx_1_2, cx_1_3⟩ := cells4s Rx_1
    go_wp2_with fail
    refine (nat_may s true H1.out _).mono ?_
    rintro r w' ⟨rfl, rfl⟩
    go_wp2_with fail
    refine (nat_may t true H2.out _).mono ?_
    rintro r w' ⟨rfl, rfl⟩
    go_wp2_with fail
    refine (rodd d t false HT.out LD.out D1.out _).mono ?_
    rintro r w2 ⟨rfl, b2⟩
    have B2 : Below w.heap.size w w2 := btr B1 b2
    have Rx_2 := heap_of b2 _ _ _ Rx_1
    clear b2 B1 Rx_1 cx_1_0 cx_1_1 cx_1_2 cx_1_3
    obtain ⟨cx_2_0, cx_2_1, cx_2_2, cx_2_3⟩ := cells4s Rx_2
    go_wp2
    go_ret
    exact ⟨rfl, B2⟩
end Go.Proofs.YtbmhfcppaajgbaaGreatDoor
