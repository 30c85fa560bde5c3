/-
  What the functions up and down of package wide return.
-/
import Derived.Test.YtkmlbjlaahcahaaDoorWide2
import Derived.Test.YtkmlbjlaahcahaaDoorGx
import Derived.Deep.RegionWith
namespace Go.Proofs.YtkmlbjlaahcahaaDoor
open Go.RowKit WMath

theorem left_is (x : Nat) (n : Int) (v : Nat) (h : x * 2 ^ cnt n % 18446744073709551616 = v) (w : World) :
    Calls Tryd.prog 75 #[.int .u64 x, .int .i64 n] w fun e w' => e = .returned (.int .u64 (v : Nat)) ∧ w' = w := by
  subst h; exact left_any x n w
theorem right_is (x : Nat) (n : Int) (v : Nat) (h : x / 2 ^ cnt n = v) (w : World) :
    Calls Tryd.prog 76 #[.int .u64 x, .int .i64 n] w fun e w' => e = .returned (.int .u64 (v : Nat)) ∧ w' = w := by
  subst h; exact right_any x n w

set_option maxHeartbeats 1000000 in
theorem wup_any (n s : Nat) (hn : n < Q) (hs : s ≤ 384) (w : World) :
    Calls Tryd.prog 67 #[W n, .int .i64 s] w fun e w' => e = .returned (W (n * 2 ^ s % Q)) ∧ Below w.heap.size w w' := by
  unfold W
  have hat := cw_at 6
  have hz := cw6z
  have hf := cw6f
  have hx := ix6
  have hs0 := st0d
  have hsc := sc0d
  obtain ⟨q, hq⟩ : ∃ q, q = s / 64 := ⟨_, rfl⟩
  obtain ⟨r, hr⟩ : ∃ r, r = s % 64 := ⟨_, rfl⟩
  have hq1 : (s : Int) / 64 = (q : Int) := by omega
  have HR : Box ((s : Int) % 64 = (r : Int)) := box (by omega)
  have hr2 : r < 64 := by omega
  have hq2 : q ≤ 6 := by omega
  have HS : Box (s = 64 * q + r) := box (by omega)
  have hwr : IntKind.i64.wrap (64 - (s : Int) % 64) = 64 - (s : Int) % 64 := by rw [IntKind.wrap_i64]; omega
  clear hq hr
  go_enter Tryd.func67, Tryd.ntmps67
  go_wp2
  go_loopw [16] (fun i wr => ∃ (k X : Nat), k ≤ 6 ∧ i = .int .i64 k ∧ (∃ d, wr = ((w.alloc (.cells (cw 6 n) 28)).alloc (.cells (cw 6 X) 28)).drewN d) ∧ Box (X = (n % 2 ^ (64 * k)) * 2 ^ s % Q)) (fun i _ => 6 - (intOf i).toNat)
  case atStart => exact ⟨0, 0, by omega, rfl, ⟨0, rfl⟩, box (by simp [Nat.mod_one])⟩
  case round =>
    obtain ⟨k, X, hk, rfl, ⟨d, rfl⟩, HE⟩ := hrel
    by_cases hlt : k < 6
    · obtain ⟨t, ht⟩ : ∃ t, t = k + q := ⟨_, rfl⟩
      have ht1 : (k : Int) + (q : Int) = (t : Int) := by omega
      obtain ⟨lo, hlo⟩ : ∃ lo, wd n k * 2 ^ r % 18446744073709551616 = lo := ⟨_, rfl⟩
      obtain ⟨hi, hhi⟩ : ∃ hi, wd n k / 2 ^ (64 - r) = hi := ⟨_, rfl⟩
      have hlo2 : lo < 18446744073709551616 := by rw [← hlo]; exact Nat.mod_lt _ (by decide)
      have hhi2 : hi < 18446744073709551616 := by rw [← hhi]; exact Nat.lt_of_le_of_lt (Nat.div_le_self _ _) (wd_lt n k)
      have ST := box (up_step n k s q r t X lo hi HS.out hr2 ht HE.out hlo hhi)
      have HLO := box hlo
      have HHI := box hhi
      have HT := box ht
      clear hlo hhi ht
      have hc1 : cnt ((s : Int) % 64) = r := by rw [HR.out]; exact cnt_small r hr2
      have hc2 : cnt (64 - (s : Int) % 64) = 64 - r := by rw [HR.out]; unfold cnt; omega
      by_cases h1 : t < 6
      · obtain ⟨X1, hX1⟩ : ∃ X1, X1 = X ||| lo * 2 ^ (64 * t) := ⟨_, rfl⟩
        have hb1 := bor X t lo hlo2
        have hw1 := cw_or 6 X t lo X1 h1 hlo2 hX1
        have HX1 := box hX1
        clear hX1
        have e1 : lo * 2 ^ (64 * t) % Q = lo * 2 ^ (64 * t) := Nat.mod_eq_of_lt (sh_small lo t hlo2 h1)
        have E1 := box e1
        clear e1
        by_cases h2 : t + 1 < 6
        · obtain ⟨X2, hX2⟩ : ∃ X2, X2 = X1 ||| hi * 2 ^ (64 * (t + 1)) := ⟨_, rfl⟩
          have hb2 := bor X1 (t + 1) hi hhi2
          have hw2 := cw_or 6 X1 (t + 1) hi X2 h2 hhi2 hX2
          have HX2 := box hX2
          clear hX2
          have E2 := box (Nat.mod_eq_of_lt (sh_small hi (t + 1) hhi2 h2))
          go_wp2
          go_region_with (go_at_call 75; refine (left_is _ _ lo (by rw [hc1]; exact HLO.out) _).mono ?_; rintro e w' ⟨rfl, rfl⟩)
          all_goals go_wp2
          all_goals go_region_with (go_at_call 76; refine (right_is _ _ hi (by rw [hc2]; exact HHI.out) _).mono ?_; rintro e w' ⟨rfl, rfl⟩)
          all_goals go_wp2
          all_goals go_roundw
          all_goals first | (show (_ : Nat) < _; simp [intOf]; omega) | exact ⟨k + 1, X2, by omega, by go_num, ⟨_, rfl⟩, box (by rw [ST.out, E1.out, E2.out, HX2.out, HX1.out, Nat.or_assoc])⟩
        · have E2 := box (sh_big hi (t + 1) (by omega))
          go_wp2
          go_region_with (go_at_call 75; refine (left_is _ _ lo (by rw [hc1]; exact HLO.out) _).mono ?_; rintro e w' ⟨rfl, rfl⟩)
          all_goals go_wp2
          all_goals go_roundw
          all_goals first | (show (_ : Nat) < _; simp [intOf]; omega) | exact ⟨k + 1, X1, by omega, by go_num, ⟨_, rfl⟩, box (by rw [ST.out, E1.out, E2.out, HX1.out, Nat.or_zero])⟩
      · have E1 := box (sh_big lo t (by omega))
        have E2 := box (sh_big hi (t + 1) (by omega))
        have h3 : ¬ t + 1 < 6 := by omega
        go_wp2
        go_roundw
        case rel => exact ⟨k + 1, X, by omega, by go_num, ⟨_, rfl⟩, box (by rw [ST.out, E1.out, E2.out, Nat.or_zero, Nat.or_zero])⟩
        case measure => simp [intOf]; omega
    · go_wp2
      have e := HE.out
      rw [wlow n k hn (by omega)] at e
      subst e
      exact bodyPost_ret (v := .agg (cw 6 (n * 2 ^ s % Q))) (by simp [results, Tryd.results67, go_sem, hat, hf]) rfl ⟨rfl, below_drewN (((Below.refl _ _).alloc (Nat.le_refl _) _).alloc (by simp <;> omega) _) _⟩

set_option maxHeartbeats 1000000 in
theorem wdown_any (n s : Nat) (hn : n < Q) (hs : s ≤ 384) (w : World) :
    Calls Tryd.prog 68 #[W n, .int .i64 s] w fun e w' => e = .returned (W (n / 2 ^ s)) ∧ Below w.heap.size w w' := by
  unfold W
  have hat := cw_at 6
  have hz := cw6z
  have hf := cw6f
  have hx := ix6
  have hs0 := st0d
  have hsc := sc0d
  obtain ⟨q, hq⟩ : ∃ q, q = s / 64 := ⟨_, rfl⟩
  obtain ⟨r, hr⟩ : ∃ r, r = s % 64 := ⟨_, rfl⟩
  have hq1 : (s : Int) / 64 = (q : Int) := by omega
  have HR : Box ((s : Int) % 64 = (r : Int)) := box (by omega)
  have hr2 : r < 64 := by omega
  have hq2 : q ≤ 6 := by omega
  have HS : Box (s = 64 * q + r) := box (by omega)
  have hwr : IntKind.i64.wrap (64 - (s : Int) % 64) = 64 - (s : Int) % 64 := by rw [IntKind.wrap_i64]; omega
  clear hq hr
  go_enter Tryd.func68, Tryd.ntmps68
  go_wp2
  go_loopw [16] (fun i wr => ∃ (k X : Nat), k ≤ 6 ∧ i = .int .i64 k ∧ (∃ d, wr = ((w.alloc (.cells (cw 6 n) 28)).alloc (.cells (cw 6 X) 28)).drewN d) ∧ Box (X = (n % 2 ^ (64 * k)) / 2 ^ s)) (fun i _ => 6 - (intOf i).toNat)
  case atStart => exact ⟨0, 0, by omega, rfl, ⟨0, rfl⟩, box (by simp [Nat.mod_one])⟩
  case round =>
    obtain ⟨k, X, hk, rfl, ⟨d, rfl⟩, HE⟩ := hrel
    by_cases hlt : k < 6
    · obtain ⟨lo, hlo⟩ : ∃ lo, wd n k * 2 ^ (64 - r) % 18446744073709551616 = lo := ⟨_, rfl⟩
      obtain ⟨hi, hhi⟩ : ∃ hi, wd n k / 2 ^ r = hi := ⟨_, rfl⟩
      have hlo2 : lo < 18446744073709551616 := by rw [← hlo]; exact Nat.mod_lt _ (by decide)
      have hhi2 : hi < 18446744073709551616 := by rw [← hhi]; exact Nat.lt_of_le_of_lt (Nat.div_le_self _ _) (wd_lt n k)
      have ST := box (down_step n k s q r X lo hi HS.out hr2 HE.out hlo hhi)
      have HLO := box hlo
      have HHI := box hhi
      clear hlo hhi
      have hc1 : cnt ((s : Int) % 64) = r := by rw [HR.out]; exact cnt_small r hr2
      have hc2 : cnt (64 - (s : Int) % 64) = 64 - r := by rw [HR.out]; unfold cnt; omega
      by_cases h1 : q ≤ k
      · obtain ⟨t, ht⟩ : ∃ t, t = k - q := ⟨_, rfl⟩
        have ht1 : (k : Int) - (q : Int) = (t : Int) := by omega
        have ht6 : t < 6 := by omega
        have HT := box ht
        obtain ⟨X1, hX1⟩ : ∃ X1, X1 = X ||| hi * 2 ^ (64 * t) := ⟨_, rfl⟩
        have hb1 := bor X t hi hhi2
        have hw1 := cw_or 6 X t hi X1 ht6 hhi2 hX1
        have HX1 := box hX1
        clear hX1
        by_cases h2 : 1 ≤ t
        · obtain ⟨u, hu⟩ : ∃ u, u = t - 1 := ⟨_, rfl⟩
          have hu1 : (t : Int) - 1 = (u : Int) := by omega
          have hu6 : u < 6 := by omega
          have hu3 : (0 : Int) ≤ (u : Int) := by omega
          have E : Box (X ||| (hi * 2 ^ (64 * (k - q)) ||| lo * 2 ^ (64 * (k - q - 1))) = X1 ||| lo * 2 ^ (64 * u)) := box (by rw [HX1.out, show k - q - 1 = u by omega, show k - q = t by omega, Nat.or_assoc])
          have hqk : q < k := by omega
          clear ht hu
          obtain ⟨X2, hX2⟩ : ∃ X2, X2 = X1 ||| lo * 2 ^ (64 * u) := ⟨_, rfl⟩
          have hb2 := bor X1 u lo hlo2
          have hw2 := cw_or 6 X1 u lo X2 hu6 hlo2 hX2
          have HX2 := box hX2
          clear hX2
          go_wp2
          go_region_with (go_at_call 76; refine (right_is _ _ hi (by rw [hc1]; exact HHI.out) _).mono ?_; rintro e w' ⟨rfl, rfl⟩)
          all_goals go_wp2
          all_goals go_region_with (go_at_call 75; refine (left_is _ _ lo (by rw [hc2]; exact HLO.out) _).mono ?_; rintro e w' ⟨rfl, rfl⟩)
          all_goals go_wp2
          all_goals go_roundw
          all_goals first | (show (_ : Nat) < _; simp [intOf]; omega) | exact ⟨k + 1, X2, by omega, by go_num, ⟨_, rfl⟩, box (by rw [ST.out, if_pos hqk, E.out, HX2.out])⟩
        · obtain rfl : q = k := by omega
          obtain rfl : t = 0 := by omega
          have E : Box (X1 = X ||| hi) := box (by rw [HX1.out]; simp)
          clear ht
          go_wp2
          go_region_with (go_at_call 76; refine (right_is _ _ hi (by rw [hc1]; exact HHI.out) _).mono ?_; rintro e w' ⟨rfl, rfl⟩)
          all_goals go_wp2
          all_goals go_roundw
          all_goals first | (show (_ : Nat) < _; simp [intOf]; omega) | exact ⟨q + 1, X1, by omega, by go_num, ⟨_, rfl⟩, box (by rw [ST.out, E.out]; simp)⟩
      · have h4 : ¬ (0 : Int) ≤ (k : Int) - (q : Int) := by omega
        have h5 : ¬ (0 : Int) ≤ (k : Int) - (q : Int) - 1 := by omega
        go_wp2
        go_roundw
        case rel => exact ⟨k + 1, X, by omega, by go_num, ⟨_, rfl⟩, box (by rw [ST.out, if_neg (by omega), if_neg (by omega)])⟩
        case measure => simp [intOf]; omega
    · go_wp2
      have e := HE.out
      rw [wlow n k hn (by omega)] at e
      subst e
      exact bodyPost_ret (v := .agg (cw 6 (n / 2 ^ s))) (by simp [results, Tryd.results68, go_sem, hat, hf]) rfl ⟨rfl, below_drewN (((Below.refl _ _).alloc (Nat.le_refl _) _).alloc (by simp <;> omega) _) _⟩
end Go.Proofs.YtkmlbjlaahcahaaDoor
