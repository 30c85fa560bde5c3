/-
  What Len, Low, Bit, Mask, And, Or and Not return, by package wide and by the document's answer.
-/
import Derived.Test.YtfofonnoheijjaaDoorBits1
import Derived.Test.YtfofonnoheijjaaDoorBmath
import Derived.Test.YtfofonnoheijjaaDoorWide2
import Derived.Test.YtfofonnoheijjaaDoorWide6
import Derived.Test.YtfofonnoheijjaaDoorWide7
import Derived.Test.YtfofonnoheijjaaDoorRwide2
namespace Go.Proofs.YtfofonnoheijjaaDoor
open Go.RowKit WMath

theorem tab_size {w : World} (h : TabAt w) : 0 < w.heap.size := World.block_lt_of_cell? w _ (h 0 (by decide))
theorem tab_below {w w' : World} (h : TabAt w) (hb : Below w.heap.size w w') : TabAt w' := fun i hi => by
  rw [hb.cell (p := ⟨0, i, none⟩) (tab_size h)]; exact h i hi

theorem rlen_is (x l : Nat) (hx : x < 18446744073709551616) (hl : blen x = l) (w : World) :
    Calls Tryd.prog 20 #[.int .u64 x] w fun e w' => e = .returned (.int .i64 (l : Nat)) ∧ w' = w := by
  subst hl; rw [← bitLen_blen x hx]; exact rlen_any x hx w

theorem nzf {x : Nat} (h : x = 0) : (((x : Nat) : Int) != 0) = false := by subst h; rfl
theorem nzt {x : Nat} (h : ¬ x = 0) : (((x : Nat) : Int) != 0) = true := by simp; omega

theorem rwlen_any (n : Nat) (hn : n < Q) (w : World) :
    Calls Tryd.prog 5 #[.agg (cw 6 n)] w fun e w' => e = .returned (.int .i64 (blen n : Nat)) ∧ Below w.heap.size w w' := by
  have hat := cw_at 6
  have bz : Below w.heap.size w (w.alloc (.cells (cw 6 n) 24)) := (Below.refl _ _).alloc (Nat.le_refl _) _
  go_enter Tryd.func5, Tryd.ntmps5
  go_wp2
  go_loop [3] (fun iv => ∃ k : Nat, k ≤ 6 ∧ iv = .int .i64 ((k : Int) - 1) ∧ Box (n < 2 ^ (64 * k))) (fun iv => (intOf iv + 1).toNat)
  case atStart => exact ⟨6, by omega, rfl, box (by rw [pwQ 6 rfl]; exact hn)⟩
  case round =>
    obtain ⟨k, hk, rfl, HE⟩ := hrel
    by_cases h0 : k = 0
    · subst h0
      have e : n = 0 := by have := HE.out; rw [Nat.mul_zero, Nat.pow_zero] at this; omega
      subst e
      go_wp2
      go_ret
      exact ⟨rfl, bz⟩
    · obtain ⟨j, rfl⟩ : ∃ j, k = j + 1 := ⟨k - 1, by omega⟩
      have ej : (((j + 1 : Nat) : Int) - 1) = (j : Int) := by omega
      rw [ej]
      have hj6 : j < 6 := by omega
      have hji : (j : Int) < 6 := by omega
      have ST := box (rlen_step n j HE.out)
      by_cases hw : wd n j = 0
      · have y := nzf hw
        have NX := box (ST.out.2 hw)
        clear hw
        go_wp2
        go_round
        case rel => exact ⟨j, by omega, rfl, NX⟩
        case measure => simp [intOf] <;> omega
      · have y := nzt hw
        obtain ⟨b, hb⟩ : ∃ b, blen (wd n j) = b := ⟨_, rfl⟩
        have hb64 : b ≤ 64 := by rw [← hb]; exact blen_le_of _ 64 (by rw [← two64]; exact wd_lt n j)
        have EN : Box (blen n = 64 * j + b) := box (by rw [ST.out.1 hw, hb])
        have HB := box hb
        clear hw hb
        go_wp2_with (go_at_call 20; refine (rlen_is _ b (wd_lt n j) HB.out _).mono ?_; rintro e w' ⟨rfl, rfl⟩)
        go_ret
        exact ⟨ret_int (by rw [EN.out]; simp), bz⟩

theorem wlow_is (n j t : Nat) (hj : j < 6) (hz : ∀ i, i < j → wd n i = 0) (hw : ¬ wd n j = 0) (ht : LowIs (wd n j) t) (w : World) (hT : TabAt w) :
    Calls Tryd.prog 6 #[.agg (cw 6 n)] w fun e w' => e = .returned (.int .i64 ((64 * j + t : Nat) : Int)) ∧ Below w.heap.size w w' := by
  have hat := cw_at 6
  have hf := cw6f
  have hx := ix6
  have bz : Below w.heap.size w (w.alloc (.cells (cw 6 n) 24)) := (Below.refl _ _).alloc (Nat.le_refl _) _
  have TB := box (tab_below hT bz)
  have t64 := ht.1
  have HT := box ht
  have HZ := box hz
  have yw := nzt hw
  clear hz hw ht hT
  go_enter Tryd.func6, Tryd.ntmps6
  go_wp2
  go_loop [6] (fun iv => ∃ k : Nat, k ≤ j ∧ iv = .int .i64 k) (fun iv => 6 - (intOf iv).toNat)
  case atStart => exact ⟨0, by omega, rfl⟩
  case round =>
    obtain ⟨k, hk, rfl⟩ := hrel
    have hk6 : k < 6 := by omega
    by_cases hkj : k = j
    · subst hkj
      go_wp2_with (go_at_call 21; refine (low_any _ t (wd_lt n k) HT.out _ TB.out).mono ?_; rintro e w' ⟨rfl, rfl⟩)
      go_ret
      exact ⟨ret_int (by omega), bz⟩
    · have y := nzf (HZ.out k (by omega))
      go_wp2
      go_round
      case rel => exact ⟨k + 1, by omega, by go_num⟩
      case measure => simp [intOf] <;> omega

theorem rwlow_is (n j t : Nat) (hj : j < 6) (hz : ∀ i, i < j → wd n i = 0) (hw : ¬ wd n j = 0) (ht : LowIs (wd n j) t) (w : World) :
    Calls Tryd.prog 7 #[.agg (cw 6 n)] w fun e w' => e = .returned (.int .i64 ((64 * j + t : Nat) : Int)) ∧ Below w.heap.size w w' := by
  have hat := cw_at 6
  have bz : Below w.heap.size w (w.alloc (.cells (cw 6 n) 24)) := (Below.refl _ _).alloc (Nat.le_refl _) _
  have t64 := ht.1
  have HT := box ht
  have HZ := box hz
  have yw := nzt hw
  clear hz hw ht
  go_enter Tryd.func7, Tryd.ntmps7
  go_wp2
  go_loop [3] (fun iv => ∃ k : Nat, k ≤ j ∧ iv = .int .i64 k) (fun iv => 6 - (intOf iv).toNat)
  case atStart => exact ⟨0, by omega, rfl⟩
  case round =>
    obtain ⟨k, hk, rfl⟩ := hrel
    have hk6 : k < 6 := by omega
    by_cases hkj : k = j
    · subst hkj
      go_wp2_with (go_at_call 22; refine (rlow_any _ t (wd_lt n k) HT.out _).mono ?_; rintro e w' ⟨rfl, rfl⟩)
      go_ret
      exact ⟨ret_int (by omega), bz⟩
    · have y := nzf (HZ.out k (by omega))
      go_wp2
      go_round
      case rel => exact ⟨k + 1, by omega, by go_num⟩
      case measure => simp [intOf] <;> omega

theorem wlow_zero (n : Nat) (hz : ∀ i, i < 6 → wd n i = 0) (w : World) :
    Calls Tryd.prog 6 #[.agg (cw 6 n)] w fun e w' => e = .returned (.int .i64 384) ∧ Below w.heap.size w w' := by
  have hat := cw_at 6
  have hf := cw6f
  have hx := ix6
  have HZ := box hz
  clear hz
  go_enter Tryd.func6, Tryd.ntmps6
  go_wp2
  go_loop [6] (fun iv => ∃ k : Nat, k ≤ 6 ∧ iv = .int .i64 k) (fun iv => 6 - (intOf iv).toNat)
  case atStart => exact ⟨0, by omega, rfl⟩
  case round =>
    obtain ⟨k, hk, rfl⟩ := hrel
    by_cases hk6 : k < 6
    · have y := nzf (HZ.out k hk6)
      go_wp2
      go_round
      case rel => exact ⟨k + 1, by omega, by go_num⟩
      case measure => simp [intOf] <;> omega
    · go_wp2
      go_ret
      exact ⟨rfl, (Below.refl _ _).alloc (Nat.le_refl _) _⟩
theorem rwlow_zero (n : Nat) (hz : ∀ i, i < 6 → wd n i = 0) (w : World) :
    Calls Tryd.prog 7 #[.agg (cw 6 n)] w fun e w' => e = .returned (.int .i64 384) ∧ Below w.heap.size w w' := by
  have hat := cw_at 6
  have HZ := box hz
  clear hz
  go_enter Tryd.func7, Tryd.ntmps7
  go_wp2
  go_loop [3] (fun iv => ∃ k : Nat, k ≤ 6 ∧ iv = .int .i64 k) (fun iv => 6 - (intOf iv).toNat)
  case atStart => exact ⟨0, by omega, rfl⟩
  case round =>
    obtain ⟨k, hk, rfl⟩ := hrel
    by_cases hk6 : k < 6
    · have y := nzf (HZ.out k hk6)
      go_wp2
      go_round
      case rel => exact ⟨k + 1, by omega, by go_num⟩
      case measure => simp [intOf] <;> omega
    · go_wp2
      go_ret
      exact ⟨rfl, (Below.refl _ _).alloc (Nat.le_refl _) _⟩

/-- The lowest bit, the same by both. -/
theorem low_both (n : Nat) : ∃ t : Int, (∀ w, TabAt w → Calls Tryd.prog 6 #[.agg (cw 6 n)] w fun e w' => e = .returned (.int .i64 t) ∧ Below w.heap.size w w') ∧ (∀ w : World, Calls Tryd.prog 7 #[.agg (cw 6 n)] w fun e w' => e = .returned (.int .i64 t) ∧ Below w.heap.size w w') := by
  rcases first_word n 6 with h | ⟨j, h1, h2, h3⟩
  · exact ⟨384, fun w _ => wlow_zero n h w, fun w => rwlow_zero n h w⟩
  · have hl := ctz_low (wd n j) h2 (wd_lt n j)
    exact ⟨_, fun w hT => wlow_is n j _ h1 h3 h2 hl w hT, fun w => rwlow_is n j _ h1 h3 h2 hl w⟩

theorem wbit_in (n i : Nat) (hi : i < 384) (w : World) :
    Calls Tryd.prog 8 #[.agg (cw 6 n), .int .i64 i] w fun e w' => e = .returned (.bool (n.testBit i)) ∧ Below w.heap.size w w' := by
  have hat := cw_at 6
  have hf := cw6f
  have y1 : decide ((i : Int) < 0) = false := by simp
  have y2 : decide ((384 : Int) ≤ (i : Int)) = false := by simp; omega
  obtain ⟨d, hd⟩ : ∃ d, n / 2 ^ i % 2 ^ 1 = d := ⟨_, rfl⟩
  have BF := box (bit_field n i)
  rw [hd] at BF
  have HD := box hd
  clear hd
  have W1 : Box (∀ w : World, Calls Tryd.prog 23 #[.agg (cw 6 n), .int .i64 i, .int .i64 1] w fun e w' => e = .returned (.int .u64 (d : Nat)) ∧ Below w.heap.size w w') := box (fun w => by
    have h := wfield_any n i 1 hi (by omega) w
    rw [HD.out] at h
    exact h)
  go_enter Tryd.func8, Tryd.ntmps8
  go_wp2_with fail
  refine (W1.out _).mono ?_
  rintro e w1 ⟨rfl, hb⟩
  go_wp2
  go_ret
  refine ⟨ret_bool ?_, ((Below.refl _ _).alloc (Nat.le_refl _) _).trans (hb.mono (by simp))⟩
  rw [← BF.out, Bool.eq_iff_iff]
  simp only [beq_iff_eq]
  omega
theorem wbit_out (n : Nat) (i : Int) (hi : i < 0 ∨ 384 ≤ i) (w : World) :
    Calls Tryd.prog 8 #[.agg (cw 6 n), .int .i64 i] w fun e w' => e = .returned (.bool false) ∧ Below w.heap.size w w' := by
  by_cases h : i < 0
  · have y1 : decide (i < 0) = true := by simpa using h
    go_enter Tryd.func8, Tryd.ntmps8
    go_wp2
    go_ret
    exact ⟨rfl, (Below.refl _ _).alloc (Nat.le_refl _) _⟩
  · have y1 : decide (i < 0) = false := by simpa using h
    have y2 : decide ((384 : Int) ≤ i) = true := by simp; omega
    go_enter Tryd.func8, Tryd.ntmps8
    go_wp2
    go_ret
    exact ⟨rfl, (Below.refl _ _).alloc (Nat.le_refl _) _⟩
theorem rwbit_out (n : Nat) (i : Int) (hi : i < 0 ∨ 384 ≤ i) (w : World) :
    Calls Tryd.prog 9 #[.agg (cw 6 n), .int .i64 i] w fun e w' => e = .returned (.bool false) ∧ Below w.heap.size w w' := by
  by_cases h : i < 0
  · have y1 : decide (0 ≤ i) = false := by simp; omega
    go_enter Tryd.func9, Tryd.ntmps9
    go_wp2
    go_ret
    exact ⟨rfl, (Below.refl _ _).alloc (Nat.le_refl _) _⟩
  · have y1 : decide (0 ≤ i) = true := by simp; omega
    have y2 : decide (i < 384) = false := by simp; omega
    go_enter Tryd.func9, Tryd.ntmps9
    go_wp2
    go_ret
    exact ⟨rfl, (Below.refl _ _).alloc (Nat.le_refl _) _⟩
theorem bit_both (n : Nat) (i : Int) : ∃ b : Bool, (∀ w : World, Calls Tryd.prog 8 #[.agg (cw 6 n), .int .i64 i] w fun e w' => e = .returned (.bool b) ∧ Below w.heap.size w w') ∧ (∀ w : World, Calls Tryd.prog 9 #[.agg (cw 6 n), .int .i64 i] w fun e w' => e = .returned (.bool b) ∧ Below w.heap.size w w') := by
  by_cases h : i < 0 ∨ 384 ≤ i
  · exact ⟨_, fun w => wbit_out n i h w, fun w => rwbit_out n i h w⟩
  · obtain ⟨k, rfl⟩ := Int.eq_ofNat_of_zero_le (show 0 ≤ i by omega)
    exact ⟨_, fun w => wbit_in n k (by omega) w, fun w => rwbit_any n k (by omega) w⟩
end Go.Proofs.YtfofonnoheijjaaDoor
