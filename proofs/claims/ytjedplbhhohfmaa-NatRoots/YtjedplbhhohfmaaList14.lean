/-
  What the function squareRoot of package nat returns.
-/
import Derived.Test.YtjedplbhhohfmaaList13
namespace Go.Proofs.Ytjedplbhhohfmaa
open Go.RowKit WMath

theorem amgm (s R : Nat) : (2 * s - R) * R ≤ s * s := by
  by_cases h : R ≤ s
  · obtain ⟨k, rfl⟩ : ∃ k, s = R + k := ⟨s - R, by omega⟩
    rw [show 2 * (R + k) - R = R + 2 * k by omega, Nat.add_mul, Nat.add_mul, Nat.mul_add, Nat.mul_add, Nat.mul_assoc, Nat.mul_comm k R]
    omega
  · obtain ⟨k, rfl⟩ : ∃ k, R = s + k := ⟨R - s, by omega⟩
    by_cases h2 : k ≤ s
    · obtain ⟨j, rfl⟩ : ∃ j, s = k + j := ⟨s - k, by omega⟩
      rw [show 2 * (k + j) - (k + j + k) = j by omega, Nat.mul_add, Nat.mul_add, Nat.mul_add, Nat.add_mul, Nat.add_mul, Nat.mul_comm j k]
      have := Nat.zero_le (k * k)
      omega
    · rw [show 2 * s - (s + k) = 0 by omega, Nat.zero_mul]
      exact Nat.zero_le _
theorem newton_ge (a s R : Nat) (h : s * s ≤ a) (hR : R ≠ 0) : s ≤ (R + a / R) / 2 := by
  have h1 : 2 * s - R ≤ a / R := (Nat.le_div_iff_mul_le (by omega)).2 (Nat.le_trans (amgm s R) h)
  omega
theorem newton_end (a s R : Nat) (hs : RootIs a s) (hsR : s ≤ R) (hR : R ≠ 0) (hn : R ≤ (R + a / R) / 2) : R = s := by
  have h1 : R ≤ a / R := by omega
  have h2 : R * R ≤ a := (Nat.le_div_iff_mul_le (by omega)).1 h1
  by_cases e : R = s
  · exact e
  · have h3 : (s + 1) * (s + 1) ≤ R * R := Nat.mul_le_mul (by omega) (by omega)
    have := hs.2
    omega
theorem newton_start (a s l k : Nat) (hs : RootIs a s) (hl : blen a = l) (hk : l ≤ 2 * k) : s ≤ 2 ^ k := by
  by_cases e : s ≤ 2 ^ k
  · exact e
  · have h1 : 2 ^ k * 2 ^ k ≤ s * s := Nat.mul_le_mul (by omega) (by omega)
    rw [← Nat.pow_add] at h1
    have h2 := blen_lt a
    rw [hl] at h2
    have h3 : 2 ^ l ≤ 2 ^ (k + k) := Nat.pow_le_pow_right (by decide) (by omega)
    have := hs.1
    omega
theorem root_pos (a s : Nat) (hs : RootIs a s) (ha : a ≠ 0) : s ≠ 0 := by
  intro e
  have := hs.2
  rw [e] at this
  omega

/-- The number that a slice holds, as a function of the world. -/
theorem num_fun : ∃ F : World → Value → Nat, ∀ (B : Nat) (w : World) (p : Option Addr) (L c n : Nat), SL B w p L c n → F w (.slice p L c) = n := by
  classical
  refine ⟨fun w v => if h : ∃ n B p L c, v = .slice p L c ∧ SL B w p L c n then Classical.choose h else 0, fun B w p L c n hn => ?_⟩
  have hex : ∃ n B p' L' c', Value.slice p L c = .slice p' L' c' ∧ SL B w p' L' c' n := ⟨n, B, p, L, c, rfl, hn⟩
  simp only [hex, dif_pos]
  obtain ⟨B', p', L', c', e, h'⟩ := Classical.choose_spec hex
  injection e with e1 e2 e3
  subst e1 e2 e3
  refine wd_ext h'.1 hn.1 (fun k hk => ?_)
  obtain ⟨b, o, rfl, _⟩ := hn.ptr (by omega)
  have h1 := h'.cell k _ hk rfl
  have h2 := hn.cell k _ hk rfl
  rw [h1] at h2
  simp only [Option.some.injEq, Value.int.injEq, true_and] at h2
  omega

set_option maxRecDepth 100000 in
set_option maxHeartbeats 2000000 in
theorem l_sqrt (w : World) (p : Option Addr) (L c a s B K : Nat) (h : SL B w p L c a) (hB : B ≤ w.heap.size) (hL : L ≤ 10000) (la : wl a = L) (hs : RootIs a s) (hK : wl s = K) :
    Calls Try.prog 46 #[.slice p L c] w fun r w' => ∃ u e, r = .returned (.slice u K e) ∧ SL w'.heap.size w' u K e s ∧ Below w.heap.size w w' := by
  by_cases h0 : L = 0
  · subst h0
    have e : a = 0 := wl_eq0 a la
    subst e
    have e2 : s = 0 := by
      have := hs.1
      by_cases e : s = 0
      · exact e
      · have := Nat.mul_pos (Nat.pos_of_ne_zero e) (Nat.pos_of_ne_zero e)
        omega
    subst e2
    rw [wl_zero] at hK
    subst hK
    clear h la hs
    go_enter Try.func46, Try.ntmps46
    go_wp2
    go_ret
    exact ⟨_, _, rfl, ⟨by decide, Nat.le_refl _, fun h => absurd h (by omega)⟩, Below.refl _ _⟩
  · have a0 : a ≠ 0 := fun e => by rw [e, wl_zero] at la; omega
    obtain ⟨l, hl⟩ : ∃ l, blen a = l := ⟨_, rfl⟩
    obtain ⟨k, hk⟩ : ∃ k, (l + 1) / 2 = k := ⟨_, rfl⟩
    have l2 : l ≤ 640000 := by
      have : l ≤ 64 * L := by rw [← hl]; exact blen_le_of a _ h.1
      omega
    obtain ⟨K0, hK0⟩ : ∃ K0, wl (1 * 2 ^ k) = K0 := ⟨_, rfl⟩
    have hst := newton_start a s l k hs hl (by omega)
    have hK0b : K0 ≤ L + 1 := by
      rw [← hK0]
      apply wl_le_of
      rw [Nat.one_mul]
      have : l ≤ 64 * L := by rw [← hl]; exact blen_le_of a _ h.1
      exact Nat.pow_lt_pow_right (by decide) (by omega)
    obtain ⟨F, hF⟩ := num_fun
    have n1 : IntKind.i64.wrap ((l : Int) + 1) = (l : Int) + 1 := wrap_i64_is _ (by omega) (by omega)
    have n2 : ((l : Int) + 1) / 2 = (k : Int) := by omega
    have n3 : IntKind.i64.wrap (k : Int) = (k : Int) := wrap_i64_is _ (by omega) (by omega)
    have d0 : ((L : Int) == 0) = false := by simp; omega
    have HL := box hl
    have HLA := box la
    have HS := box hs
    have HK := box hK
    have HK0 := box hK0
    have HST := box hst
    have HF := box hF
    have HA0 := box a0
    clear hl la hs hK hK0 hk hst hF a0 h0
    go_enter Try.func46, Try.ntmps46
    go_wp2_with fail
    have b0 := bal w (.cells #[.int .u64 1] 69)
    obtain ⟨g, hg⟩ : ∃ g, w.heap.size = g := ⟨_, rfl⟩
    have r0 : (w.alloc (.cells #[.int .u64 1] 69)).heap[g]? = some (.cells (cw 1 1) 69) := by rw [← hg]; exact heap_alloc_last _ _
    have s0 := h.below b0 hB
    refine (l_bitLen _ p L c a l B s0 (by omega) HLA.out HL.out).mono ?_
    rintro e w1 ⟨rfl, rfl⟩
    go_wp2_with fail
    have s1 : SL (w.alloc (.cells #[.int .u64 1] 69)).heap.size (w.alloc (.cells #[.int .u64 1] 69)) (some ⟨g, 0, none⟩) 1 1 1 := SL.row r0 _ (Array.getElem?_eq_some_iff.1 r0).1 (by decide) (Nat.le_refl _)
    try rw [hg]
    refine (l_up _ _ 1 1 1 k K0 _ s1 (Nat.le_refl _) (by omega) (by omega) HK0.out).mono ?_
    rintro e w2 ⟨u, d, rfl, s2, b2⟩
    have c2 : Below w.heap.size w w2 := btr b0 b2
    rw [Nat.one_mul] at s2
    have k2 := HK0.out
    rw [Nat.one_mul] at k2
    have START : Box (∃ R, SL w2.heap.size w2 u K0 d R ∧ wl R = K0 ∧ s ≤ R ∧ R ≠ 0) := box ⟨2 ^ k, s2, k2, HST.out, Nat.ne_of_gt (Nat.two_pow_pos _)⟩
    clear b0 r0 s0 s1 s2 b2 k2 n1 n2 n3 d0
    go_wp2
    go_loopw [3] (fun rv wr => ∃ (x : Option Addr) (y z : Nat), rv = .slice x y z ∧ y ≤ L + 1 ∧ Below w.heap.size w wr ∧ Box (∃ R, SL wr.heap.size wr x y z R ∧ wl R = y ∧ s ≤ R ∧ R ≠ 0)) (fun rv wr => F wr rv)
    case atStart => exact ⟨u, K0, d, rfl, hK0b, c2, START⟩
    case round =>
      clear START c2
      obtain ⟨x, y, z, rfl, hy, hbw, HR⟩ := hrel
      obtain ⟨R, sR, lR, hsR, hR0⟩ := HR.out
      clear HR
      obtain ⟨K1, hK1⟩ : ∃ K1, wl (a / R) = K1 := ⟨_, rfl⟩
      obtain ⟨K2, hK2⟩ : ∃ K2, wl (a % R) = K2 := ⟨_, rfl⟩
      obtain ⟨K3, hK3⟩ : ∃ K3, wl (R + a / R) = K3 := ⟨_, rfl⟩
      obtain ⟨X, hX⟩ : ∃ X, (R + a / R) / 2 ^ 1 = X := ⟨_, rfl⟩
      obtain ⟨K4, hK4⟩ : ∃ K4, wl X = K4 := ⟨_, rfl⟩
      obtain ⟨cv, hcv⟩ : ∃ cv, cmpv X R = cv := ⟨_, rfl⟩
      have K1b : K1 ≤ L := by rw [← hK1, ← HLA.out]; exact wl_mono _ _ (Nat.div_le_self _ _)
      have K3b : K3 ≤ L + 2 := by rw [← hK3]; exact wl_add_le R (a / R) (L + 1) (by omega) (by omega)
      have K4b : K4 ≤ L + 2 := by rw [← hK4, ← hX]; exact Nat.le_trans (wl_mono _ _ (Nat.div_le_self _ _)) (by rw [hK3]; exact K3b)
      have hXn : s ≤ X := by rw [← hX]; exact newton_ge a s R HS.out.1 hR0
      have hX0 : X ≠ 0 := by have := root_pos a s HS.out HA0.out; omega
      have sa := h.below hbw hB
      have hsz : B ≤ wr.heap.size := by have := hbw.size; omega
      have H1 := box hK1
      have H2 := box hK2
      have H3 := box hK3
      have H4 := box hK4
      have HX := box hX
      have HC := box hcv
      have LR := box lR
      have HSR := box hsR
      have HR0 := box hR0
      have HXN := box hXn
      have HX0 := box hX0
      clear hK1 hK2 hK3 hK4 hX hcv lR hsR hR0 hXn hX0
      have FR := box (HF.out _ _ _ _ _ _ sR)
      have hcase : (decide (0 ≤ cv) = true ∧ R ≤ X) ∨ (decide (0 ≤ cv) = false ∧ X < R) := by
        have := HC.out
        unfold cmpv at this
        by_cases e : X = R
        · rw [if_pos e] at this; left; exact ⟨decide_eq_true (by omega), by omega⟩
        · rw [if_neg e] at this
          by_cases e2 : X < R
          · rw [if_pos e2] at this; right; exact ⟨decide_eq_false (by omega), e2⟩
          · rw [if_neg e2] at this; left; exact ⟨decide_eq_true (by omega), by omega⟩
      go_wp2_with fail
      refine (l_divide wr p x L c a y z R wr.heap.size K1 K2 (sa.mono hsz) sR (Nat.le_refl _) (by omega) (by omega) LR.out HR0.out H1.out H2.out).mono ?_
      rintro e w3 ⟨q, qd, f, fd, rfl, s3, _, b3⟩
      have sR3 := (sR.below b3 (Nat.le_refl _)).mono b3.size
      go_wp2_with fail
      refine (l_sum w3 x q y z R K1 qd (a / R) w3.heap.size K3 sR3 s3 (Nat.le_refl _) (by omega) (by omega) H3.out).mono ?_
      rintro e w4 ⟨v, vd, rfl, s4, b4⟩
      have sR4 := (sR3.below b4 (Nat.le_refl _)).mono b4.size
      go_wp2_with fail
      refine (l_down w4 v K3 vd (R + a / R) 1 K4 _ s4 (Nat.le_refl _) (by omega) (by omega) (by rw [HX.out]; exact H4.out)).mono ?_
      rintro e w5 ⟨t, td, rfl, s5, b5⟩
      rw [HX.out] at s5
      have sR5 := (sR4.below b5 (Nat.le_refl _)).mono b5.size
      go_wp2_with fail
      refine (l_compare w5 t x K4 td X y z R _ _ cv s5 sR5 (by omega) (by omega) H4.out LR.out (Nat.le_refl _) (Nat.le_refl _) HC.out).mono ?_
      rintro e w6 ⟨rfl, b6⟩
      have c6 : Below w.heap.size w w6 := hbw.trans ((b3.mono hbw.size).trans ((b4.mono (Nat.le_trans hbw.size b3.size)).trans ((b5.mono (Nat.le_trans hbw.size (Nat.le_trans b3.size b4.size))).trans (b6.mono (Nat.le_trans hbw.size (Nat.le_trans b3.size (Nat.le_trans b4.size b5.size)))))))
      have sR6 := (sR5.below b6 (Nat.le_refl _)).mono b6.size
      have sX6 := (s5.below b6 (Nat.le_refl _)).mono b6.size
      rcases hcase with ⟨d1, d2⟩ | ⟨d1, d2⟩
      · have e := newton_end a s R HS.out HSR.out HR0.out (by have := HX.out; omega)
        subst e
        have e2 := HK.out
        rw [LR.out] at e2
        subst e2
        clear d2
        go_wp2
        go_ret
        exact ⟨_, _, rfl, sR6, c6⟩
      · have FX := box (HF.out _ _ _ _ _ _ sX6)
        have D2 := box d2
        have K4c : K4 ≤ L + 1 := by rw [← H4.out]; exact Nat.le_trans (wl_mono X R (by omega)) (by rw [LR.out]; exact hy)
        clear d2
        go_wp2
        go_roundw
        case rel => exact ⟨_, _, _, rfl, K4c, c6, box ⟨X, sX6, H4.out, HXN.out, HX0.out⟩⟩
        case measure =>
          show F _ _ < F _ _
          rw [FX.out, FR.out]
          exact D2.out
end Go.Proofs.Ytjedplbhhohfmaa
