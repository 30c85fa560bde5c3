/-
  What the function shorten of package nat returns.
-/
import Derived.Test.YtknkkagapcigfaaDoorList16
import Derived.Test.YtknkkagapcigfaaDoorList17
namespace Go.Proofs.YtknkkagapcigfaaDoor
open Go.RowKit WMath

set_option maxRecDepth 100000 in
set_option maxHeartbeats 40000000 in
theorem l_shorten (w : World) (p q : Option Addr) (L c a M d b B : Nat) (ha : SL B w p L c a) (hb : SL B w q M d b) (hB : B ≤ w.heap.size) (hL : L ≤ 10000) (la : wl a = L) (lb : wl b = M) (hab : b ≤ a) (hM : 2 ≤ M) :
    Calls Tryd.prog 71 #[.slice p L c, .slice q M d] w fun r w' => ∃ (u v : Option Addr) (e f F S X Y : Nat), r = .returned (.tuple #[.slice u X e, .slice v Y f]) ∧ SL w'.heap.size w' u X e F ∧ SL w'.heap.size w' v Y f S ∧ wl F = X ∧ wl S = Y ∧ Nat.gcd F S = Nat.gcd a b ∧ S ≤ F ∧ S < b ∧ F ≤ b ∧ Below w.heap.size w w' := by
  have hML : M ≤ L := by rw [← la, ← lb]; exact wl_mono _ _ hab
  obtain ⟨m, rfl⟩ : ∃ m, L = m + 2 := ⟨L - 2, by omega⟩
  obtain ⟨n, hn⟩ : ∃ n, 64 * (m + 2) - blen a = n := ⟨_, rfl⟩
  obtain ⟨k, hk⟩ : ∃ k, 64 * (m + 1) - n = k := ⟨_, rfl⟩
  obtain ⟨x, hx⟩ : ∃ x, a / 2 ^ k = x := ⟨_, rfl⟩
  obtain ⟨y, hy⟩ : ∃ y, b / 2 ^ k = y := ⟨_, rfl⟩
  have a0 : a ≠ 0 := fun e => by rw [e, wl_zero] at la; omega
  have b0 : b ≠ 0 := fun e => by rw [e, wl_zero] at lb; omega
  have hx64 : x < 18446744073709551616 := by
    rw [← hx]
    apply Nat.div_lt_of_lt_mul
    rw [two64, ← Nat.pow_add]
    refine Nat.lt_of_lt_of_le (blen_lt a) (Nat.pow_le_pow_right (by decide) ?_)
    have h1 : wl a = (blen a + 63) / 64 := rfl
    omega
  have hxy : y ≤ x := by rw [← hx, ← hy]; exact Nat.div_le_div_right hab
  have ea := Nat.div_add_mod a (2 ^ k)
  have eb := Nat.div_add_mod b (2 ^ k)
  rw [hx] at ea
  rw [hy] at eb
  have HH := box (l_highest w p q m c a M d b B B x y n ha hb hB hB (by omega) (by omega) la hab hn (by rw [hk]; exact hx) (by rw [hk]; exact hy))
  have TT := box (l_turns a b x y (2 ^ k) (a % 2 ^ k) (b % 2 ^ k) hx64 hxy ea.symm eb.symm (Nat.mod_lt _ (Nat.two_pow_pos _)) (Nat.mod_lt _ (Nat.two_pow_pos _)) hab)
  have LB := box lb
  have HAB := box hab
  have B0 := box b0
  clear hn hk hx hy ea eb la lb a0 b0
  go_enter Tryd.func71, Tryd.ntmps71
  go_wp2_with fail
  refine HH.out.mono ?_
  rintro e w1 ⟨rfl, b1⟩
  go_wp2_with fail
  refine (TT.out _).mono ?_
  rintro e w2 ⟨r1, A1, B1, r2, A2, B2, F, S, sw, rfl, i1, i2, i3, i4, T, b2⟩
  unfold tn
  have T9 := box T
  clear T
  have c2 : Below w.heap.size w w2 := btr b1 b2
  obtain ⟨h, hh⟩ : ∃ h, w2.heap.size = h := ⟨_, rfl⟩
  obtain ⟨W3, hW3⟩ : ∃ W3, (w2.alloc (.cells #[.int .u64 (r1 : Nat), .int .u64 (A1 : Nat), .int .u64 (B1 : Nat)] 106)).alloc (.cells #[.int .u64 (r2 : Nat), .int .u64 (A2 : Nat), .int .u64 (B2 : Nat)] 106) = W3 := ⟨_, rfl⟩
  have c3 : Below w.heap.size w W3 := by rw [← hW3]; exact btr c2 (btr (bal _ _) (bal _ _))
  have r3 : W3.heap[h]? = some (.cells (tc r1 A1 B1) 106) := by
    rw [← hW3, heap_below _ _ _ (by rw [size_al]; omega), ← hh]; exact heap_alloc_last _ _
  have q3 : W3.heap[h + 1]? = some (.cells (tc r2 A2 B2) 106) := by
    have e : h + 1 = (w2.alloc (.cells #[.int .u64 (r1 : Nat), .int .u64 (A1 : Nat), .int .u64 (B1 : Nat)] 106)).heap.size := by rw [size_al, hh]
    rw [← hW3, e]; exact heap_alloc_last _ _
  have R3 := box r3
  have Q3 := box q3
  obtain ⟨e1, e2, e3⟩ := tc_cell r3
  obtain ⟨e4, e5, e6⟩ := tc_cell q3
  have sa3 : SL W3.heap.size W3 p (m + 2) c a ∧ SL W3.heap.size W3.drew p (m + 2) c a := ⟨(ha.below c3 hB).mono (by have := c3.size; omega), ((ha.below c3 hB).mono (by have := c3.size; omega)).below (Below.refl W3.heap.size W3).drew (Nat.le_refl _)⟩
  have sb3 : SL W3.heap.size W3 q M d b ∧ SL W3.heap.size W3.drew q M d b := ⟨(hb.below c3 hB).mono (by have := c3.size; omega), ((hb.below c3 hB).mono (by have := c3.size; omega)).below (Below.refl W3.heap.size W3).drew (Nat.le_refl _)⟩
  have GG : Box (Nat.gcd F S = Nat.gcd a b) := box T9.out.2.2.2.2.2.2.2.2.2.2.2.2.1
  clear c2 r3 q3
  by_cases hA : A2 = 0
  · have d0 : ((A2 : Int) == 0) = true := by simp; omega
    obtain ⟨K1, hK1⟩ : ∃ K1, wl (a / b) = K1 := ⟨_, rfl⟩
    obtain ⟨K2, hK2⟩ : ∃ K2, wl (a % b) = K2 := ⟨_, rfl⟩
    have H1 := box hK1
    have H2 := box hK2
    clear hA hK1 hK2
    go_wp2_with fail
    try rw [hW3]
    refine (l_divide W3 p q (m + 2) c a M d b W3.heap.size K1 K2 sa3.1 sb3.1 (Nat.le_refl _) (by omega) (by omega) LB.out B0.out H1.out H2.out).mono ?_
    rintro e w4 ⟨u, ue, v, ve, rfl, _, t4, b4⟩
    go_wp2
    go_ret2
    exact ⟨_, _, _, _, b, a % b, M, K2, rfl, (sb3.1.below b4 (Nat.le_refl _)).mono b4.size, t4, LB.out, H2.out, by rw [Nat.gcd_comm a b, Nat.gcd_rec b a, Nat.gcd_comm], Nat.le_of_lt (Nat.mod_lt _ (Nat.pos_of_ne_zero B0.out)), Nat.mod_lt _ (Nat.pos_of_ne_zero B0.out), Nat.le_refl _, btr c3 b4⟩
  · have d0 : ((A2 : Int) == 0) = false := by simp; omega
    have mv : 0 < S ∧ S < F ∧ F ≤ b := by
      rcases T9.out.2.2.2.2.2.2.2.2.2.2.2.2.2.2.1 with h | h
      · exact absurd h hA
      · exact h
    have mF := mv.2.2
    obtain ⟨X, hX⟩ : ∃ X, wl F = X := ⟨_, rfl⟩
    obtain ⟨Y, hY⟩ : ∃ Y, wl S = Y := ⟨_, rfl⟩
    have HXX := box hX
    have HYY := box hY
    have NF : ∀ k, M ≤ k → F < 2 ^ (64 * k) := fun k hk => Nat.lt_of_le_of_lt mF (Nat.lt_of_lt_of_le hb.1 (pow64_le _ _ hk))
    have NS : ∀ k, M ≤ k → S < 2 ^ (64 * k) := fun k hk => Nat.lt_of_lt_of_le (show S < b by omega) (Nat.le_of_lt (Nat.lt_of_lt_of_le hb.1 (pow64_le _ _ hk)))
    have CE : Box (∀ W, Below W3.heap.size W3 W → W.cell? ⟨h + 1, 0, none⟩ = some (.int .u64 (r2 : Nat)) ∧ W.cell? ⟨h + 1, 1, none⟩ = some (.int .u64 (A2 : Nat)) ∧ W.cell? ⟨h + 1, 2, none⟩ = some (.int .u64 (B2 : Nat))) := box (fun W hW => tc_cell (heap_of hW _ _ _ Q3.out))
    have FIN : Box (wl F = X ∧ wl S = Y ∧ Nat.gcd F S = Nat.gcd a b ∧ S ≤ F ∧ S < b ∧ F ≤ b ∧ Below w.heap.size w W3) := box ⟨hX, hY, GG.out, by omega, by omega, mF, c3⟩
    replace sa3 := sa3.1
    replace sb3 := sb3.1
    clear hX hY HH TT LB HAB B0 b1 b2 c3 R3 Q3 GG hA mv mF ha hb hB hx64 hxy
    cases sw
    · have VF : F + b * B1 = a * A1 := by
        have := T9.out.2.1
        simp at this
        omega
      have VS : S + a * A2 = b * B2 := by
        have := T9.out.2.2.1
        simp at this
        omega
      have C1 : Box (∀ W, Below W3.heap.size W3 W → Calls Tryd.prog 85 #[.slice p (m + 2) c, .int .u64 (A1 : Nat), .slice q M d, .int .u64 (B1 : Nat)] W fun r w' => ∃ y e, r = .returned (.slice y X e) ∧ (SL w'.heap.size w' y X e F ∧ Below W3.heap.size W3 w')) := box (fun W hW => (l_balance W p q (m + 2) c a A1 M d b B1 W3.heap.size F X (sa3.below hW (Nat.le_refl _)) (sb3.below hW (Nat.le_refl _)) hW.size (by omega) (by omega) i1 i2 VF (NF _ (by omega)) HXX.out).mono (fun _ _ ⟨y, e, h1, h2, h3⟩ => ⟨y, e, h1, h2, btr hW h3⟩))
      have C2 : Box (∀ W, Below W3.heap.size W3 W → Calls Tryd.prog 85 #[.slice q M d, .int .u64 (B2 : Nat), .slice p (m + 2) c, .int .u64 (A2 : Nat)] W fun r w' => ∃ y e, r = .returned (.slice y Y e) ∧ (SL w'.heap.size w' y Y e S ∧ Below W.heap.size W w')) := box (fun W hW => (l_balance W q p M d b B2 (m + 2) c a A2 W3.heap.size S Y (sb3.below hW (Nat.le_refl _)) (sa3.below hW (Nat.le_refl _)) hW.size (by omega) (by omega) i4 i3 VS (NS _ (by omega)) HYY.out).mono (fun _ _ ⟨y, e, h1, h2, h3⟩ => ⟨y, e, h1, h2, h3⟩))
      clear VF VS NF NS sa3 sb3 T9 i1 i2 i3 i4
      go_wp2
      try rw [hW3]
      clear hW3 hh
      go_region_with (first
        | (go_at_call_of 85 (Value.int IntKind.u64 (B2 : Int)); refine (C2.out _ ?_).mono ?_; exact b4; rintro e w5 ⟨y2, f2, rfl, P5⟩)
        | (go_at_call_of 85 (Value.int IntKind.u64 (B1 : Int)); refine (C1.out _ ?_).mono ?_; exact (Below.refl W3.heap.size W3).drew; rintro e w4 ⟨y1, f1, rfl, s4, b4⟩; obtain ⟨k4, k5, k6⟩ := CE.out w4 b4))
      all_goals go_wp2
      all_goals go_ret2
      all_goals exact ⟨_, _, _, _, F, S, X, Y, rfl, (s4.below P5.2 (Nat.le_refl _)).mono P5.2.size, P5.1, FIN.out.1, FIN.out.2.1, FIN.out.2.2.1, FIN.out.2.2.2.1, FIN.out.2.2.2.2.1, FIN.out.2.2.2.2.2.1, btr FIN.out.2.2.2.2.2.2 (btr b4 P5.2)⟩
    · have VF : F + a * A1 = b * B1 := by
        have := T9.out.2.1
        simp at this
        omega
      have VS : S + b * B2 = a * A2 := by
        have := T9.out.2.2.1
        simp at this
        omega
      have C1 : Box (∀ W, Below W3.heap.size W3 W → Calls Tryd.prog 85 #[.slice q M d, .int .u64 (B1 : Nat), .slice p (m + 2) c, .int .u64 (A1 : Nat)] W fun r w' => ∃ y e, r = .returned (.slice y X e) ∧ (SL w'.heap.size w' y X e F ∧ Below W3.heap.size W3 w')) := box (fun W hW => (l_balance W q p M d b B1 (m + 2) c a A1 W3.heap.size F X (sb3.below hW (Nat.le_refl _)) (sa3.below hW (Nat.le_refl _)) hW.size (by omega) (by omega) i2 i1 VF (NF _ (by omega)) HXX.out).mono (fun _ _ ⟨y, e, h1, h2, h3⟩ => ⟨y, e, h1, h2, btr hW h3⟩))
      have C2 : Box (∀ W, Below W3.heap.size W3 W → Calls Tryd.prog 85 #[.slice p (m + 2) c, .int .u64 (A2 : Nat), .slice q M d, .int .u64 (B2 : Nat)] W fun r w' => ∃ y e, r = .returned (.slice y Y e) ∧ (SL w'.heap.size w' y Y e S ∧ Below W.heap.size W w')) := box (fun W hW => (l_balance W p q (m + 2) c a A2 M d b B2 W3.heap.size S Y (sa3.below hW (Nat.le_refl _)) (sb3.below hW (Nat.le_refl _)) hW.size (by omega) (by omega) i3 i4 VS (NS _ (by omega)) HYY.out).mono (fun _ _ ⟨y, e, h1, h2, h3⟩ => ⟨y, e, h1, h2, h3⟩))
      clear VF VS NF NS sa3 sb3 T9 i1 i2 i3 i4
      go_wp2
      try rw [hW3]
      clear hW3 hh
      go_region_with (first
        | (go_at_call_of 85 (Value.int IntKind.u64 (B2 : Int)); refine (C2.out _ ?_).mono ?_; exact b4; rintro e w5 ⟨y2, f2, rfl, P5⟩)
        | (go_at_call_of 85 (Value.int IntKind.u64 (B1 : Int)); refine (C1.out _ ?_).mono ?_; exact (Below.refl W3.heap.size W3).drew; rintro e w4 ⟨y1, f1, rfl, s4, b4⟩; obtain ⟨k4, k5, k6⟩ := CE.out w4 b4))
      all_goals go_wp2
      all_goals go_ret2
      all_goals exact ⟨_, _, _, _, F, S, X, Y, rfl, (s4.below P5.2 (Nat.le_refl _)).mono P5.2.size, P5.1, FIN.out.1, FIN.out.2.1, FIN.out.2.2.1, FIN.out.2.2.2.1, FIN.out.2.2.2.2.1, FIN.out.2.2.2.2.2.1, btr FIN.out.2.2.2.2.2.2 (btr b4 P5.2)⟩
end Go.Proofs.YtknkkagapcigfaaDoor
