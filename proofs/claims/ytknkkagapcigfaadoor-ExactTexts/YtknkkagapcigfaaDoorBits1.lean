/-
  What Ones, Low, Len and Sqrt return, by package word and by the document's answer, for every word.
-/
import Derived.Test.YtknkkagapcigfaaDoorGx
import Derived.Lib.BitFns
import Derived.Lib.TrailingZeros
namespace Go.Proofs.YtknkkagapcigfaaDoor
open Go.RowKit WMath

theorem m85 : mask8 85 8 = 6148914691236517205 := by decide
theorem m51 : mask8 51 8 = 3689348814741910323 := by decide
theorem m15 : mask8 15 8 = 1085102592571150095 := by decide

theorem and_u64_lit (a m : Nat) (ha : a < 18446744073709551616) (hm : m < 18446744073709551616) : bits .and .u64 (a : Int) (m : Int) = ((a &&& m : Nat) : Int) := bits_and_u64_nat a m ha hm
theorem and127 (z : Nat) (hz : z < 4000000000000000000) : bits .and .i64 (z : Int) 127 = ((z % 128 : Nat) : Int) := by
  show IntKind.i64.wrap ((BitVec.ofInt 64 (z : Int) &&& BitVec.ofInt 64 127).toNat : Int) = _
  have h1 : (BitVec.ofInt 64 127).toNat = 2 ^ 7 - 1 := by decide
  have h2 : (BitVec.ofInt 64 (z : Int)).toNat = z := by
    rw [BitVec.ofInt_natCast, BitVec.toNat_ofNat]; exact Nat.mod_eq_of_lt (by omega)
  rw [BitVec.toNat_and, h1, h2, Nat.and_two_pow_sub_one_eq_mod]
  simp only [IntKind.wrap, IntKind.bits, IntKind.signed]
  simp
  omega

/-- The rules of the sum in parallel, a name for each number on the way. -/
theorem ones_rules (x : Nat) (hx : x < 18446744073709551616) :
    ∃ p q u p2 q2 v v' z z1 z2 z3 : Nat,
      bits .and .u64 ((x : Int) / 2) 6148914691236517205 = (p : Int) ∧ bits .and .u64 (x : Int) 6148914691236517205 = (q : Int) ∧ (p : Int) + q = u ∧ u < 18446744073709551616 ∧
      bits .and .u64 ((u : Int) / 4) 3689348814741910323 = (p2 : Int) ∧ bits .and .u64 (u : Int) 3689348814741910323 = (q2 : Int) ∧ (p2 : Int) + q2 = v ∧ v < 18446744073709551616 ∧
      (v : Int) / 16 + v = v' ∧ v' < 18446744073709551616 ∧ bits .and .u64 (v' : Int) 1085102592571150095 = (z : Int) ∧
      (z : Int) + (z : Int) / 256 = z1 ∧ (z1 : Int) + (z1 : Int) / 65536 = z2 ∧ (z2 : Int) + (z2 : Int) / 4294967296 = z3 ∧ z < 1000000000000000000 ∧ z1 < 4000000000000000000 ∧ z2 < 4000000000000000000 ∧ z3 < 4000000000000000000 ∧
      bits .and .i64 (z3 : Int) 127 = ((popN x 64 : Nat) : Int) := by
  obtain ⟨z1, z2, z3, h1, h2, h3, h4, h5, h6⟩ := pop_end x
  have hf := fABC 8 x
  have a1 : (x / 2 &&& 6148914691236517205) ≤ 6148914691236517205 := Nat.and_le_right
  have a2 : (x &&& 6148914691236517205) ≤ 6148914691236517205 := Nat.and_le_right
  unfold fC fB fA at hf
  rw [m85, m51, m15] at hf
  obtain ⟨u, hu⟩ : ∃ u, u = (x / 2 &&& 6148914691236517205) + (x &&& 6148914691236517205) := ⟨_, rfl⟩
  rw [← hu] at hf
  have a3 : (u / 4 &&& 3689348814741910323) ≤ 3689348814741910323 := Nat.and_le_right
  have a4 : (u &&& 3689348814741910323) ≤ 3689348814741910323 := Nat.and_le_right
  obtain ⟨v, hv⟩ : ∃ v, v = (u / 4 &&& 3689348814741910323) + (u &&& 3689348814741910323) := ⟨_, rfl⟩
  rw [← hv] at hf
  have b1 := and_u64_lit (x / 2) 6148914691236517205 (by omega) (by omega)
  have b2 := and_u64_lit x 6148914691236517205 hx (by omega)
  have b3 := and_u64_lit (u / 4) 3689348814741910323 (by omega) (by omega)
  have b4 := and_u64_lit u 3689348814741910323 (by omega) (by omega)
  have b5 := and_u64_lit (v / 16 + v) 1085102592571150095 (by omega) (by omega)
  rw [hf] at b5
  have b6 := and127 z3 h5
  rw [h6] at b6
  refine ⟨_, _, u, _, _, v, v / 16 + v, popB 8 x, z1, z2, z3, b1, b2, by omega, by omega, b3, b4, by omega, by omega, by omega, by omega, b5, by omega, by omega, by omega, h4, by omega, by omega, h5, b6⟩

theorem popN_le (x : Nat) : ∀ k, popN x k ≤ k
  | 0 => Nat.le_refl _
  | k + 1 => by
    have := popN_le x k
    have h : (x.testBit k).toNat ≤ 1 := by cases x.testBit k <;> decide
    rw [popN]; omega
theorem ctz_low (x : Nat) (h0 : x ≠ 0) (hx : x < 18446744073709551616) : LowIs x (Lib.ctz 64 x) := by
  have h1 : Lib.ctz 64 x = Lib.ctzFrom 64 x := by unfold Lib.ctz; rw [if_neg h0]
  obtain ⟨m, hm, hlt⟩ := Lib.ctzFrom_spec 64 x (by omega) (by rw [← two64]; exact hx)
  rw [h1]
  generalize Lib.ctzFrom 64 x = t at *
  refine ⟨hlt, ?_, ?_⟩
  · rw [hm, Nat.mul_mod_right]
  · rw [Nat.testBit_eq_decide_div_mod_eq, hm, Nat.mul_div_cancel_left _ (Nat.two_pow_pos t)]
    simp

/-- The table of the library, as it lies in its variable. -/
def TabAt (w : World) : Prop := ∀ i, i < 64 → w.cell? ⟨1, i, none⟩ = some (.int .u8 ((Lib.deBruijn64tab.getD i 0 : Nat) : Int))

theorem low_zero (w : World) :
    Calls Tryd.prog 54 #[.int .u64 0] w fun e w' => e = .returned (.int .i64 64) ∧ w' = w := by
  go_enter Tryd.func54, Tryd.ntmps54
  go_wp2
  go_ret
  exact ⟨rfl, rfl⟩
theorem db_i (P I : Nat) (hI : I = P * 285870213051353865 % 18446744073709551616 / 288230376151711744) : IntKind.u64.wrap ((P : Int) * 285870213051353865) / 288230376151711744 = (I : Int) := by
  rw [IntKind.wrap_u64, hI]; simp
theorem tz_any (x t : Nat) (hx : x < 18446744073709551616) (ht : LowIs x t) (w : World) (hT : TabAt w) :
    Calls Tryd.prog 54 #[.int .u64 x] w fun e w' => e = .returned (.int .i64 t) ∧ w' = w := by
  have h0 : x ≠ 0 := by
    intro h; subst h
    have := ht.2.2
    rw [Nat.zero_testBit] at this
    cases this
  obtain ⟨hl, _⟩ := Lib.lowest_bit 64 x h0 (by rw [← two64]; exact hx)
  obtain ⟨d1, d2⟩ := Lib.deBruijn64_at t ht.1
  have hc : Lib.ctz 64 x = t := low_one x _ _ (ctz_low x h0 hx) ht
  rw [hc, ← two64] at hl
  have hp := pow_lt_64 t ht.1
  obtain ⟨P, hP⟩ : ∃ P, P = 2 ^ t := ⟨_, rfl⟩
  rw [← hP] at hl d1 d2 hp
  have e1 : bits .and .u64 (x : Int) (IntKind.u64.wrap (-(x : Int))) = (P : Int) := by
    have e : IntKind.u64.wrap (-(x : Int)) = ((18446744073709551616 - x : Nat) : Int) := by rw [IntKind.wrap_u64]; omega
    rw [e, bits_and_u64_nat _ _ hx (by omega), hl]
  obtain ⟨I, hI⟩ : ∃ I, I = P * 285870213051353865 % 18446744073709551616 / 288230376151711744 := ⟨_, rfl⟩
  rw [← hI] at d1 d2
  have e2 : IntKind.u64.wrap ((P : Int) * 285870213051353865) / 288230376151711744 = (I : Int) := db_i P I hI
  have hcell := hT I d1
  rw [d2] at hcell
  have hx0 : ((x : Int) == 0) = false := by rw [beq_eq_false_iff_ne]; omega
  have ht1 := ht.1
  clear hl d2 hc hp hP hI h0 ht hT
  go_enter Tryd.func54, Tryd.ntmps54
  go_wp2
  go_ret
  exact ⟨rfl, rfl⟩
theorem word_low_zero (w : World) :
    Calls Tryd.prog 42 #[.int .u64 0] w fun e w' => e = .returned (.int .i64 64) ∧ w' = w := by
  go_enter Tryd.func42, Tryd.ntmps42
  go_wp2_with (go_at_call 54; refine (low_zero _).mono ?_; rintro e w' ⟨rfl, rfl⟩)
  go_ret
  exact ⟨rfl, rfl⟩
theorem low_any (x t : Nat) (hx : x < 18446744073709551616) (ht : LowIs x t) (w : World) (hT : TabAt w) :
    Calls Tryd.prog 42 #[.int .u64 x] w fun e w' => e = .returned (.int .i64 t) ∧ w' = w := by
  have h := hide (tz_any x t hx ht w hT)
  clear ht hT
  go_enter Tryd.func42, Tryd.ntmps42
  go_wp2_with (go_at_call 54; refine h.out.mono ?_; rintro e w' ⟨rfl, rfl⟩)
  go_ret
  exact ⟨rfl, rfl⟩

/-- What one round of the document's Sqrt keeps: the root so far is a multiple of 2^k. -/
def RSq (x k r : Nat) : Prop := r % 2 ^ k = 0 ∧ r + 2 ^ k ≤ 4294967296 ∧ r * r ≤ x ∧ x < (r + 2 ^ k) * (r + 2 ^ k)
theorem rsq_start (x : Nat) (hx : x < 18446744073709551616) : RSq x 32 0 := by
  refine ⟨by decide, by decide, by omega, ?_⟩
  rw [Nat.zero_add, ← Nat.pow_add]
  exact hx
theorem rsq_step (x k r : Nat) (h : RSq x (k + 1) r) :
    r ||| 2 ^ k = r + 2 ^ k ∧ r + 2 ^ k < 4294967296 ∧ ((r + 2 ^ k) * (r + 2 ^ k) ≤ x → RSq x k (r + 2 ^ k)) ∧ (x < (r + 2 ^ k) * (r + 2 ^ k) → RSq x k r) := by
  obtain ⟨h1, h2, h3, h4⟩ := h
  have hp := Nat.two_pow_pos k
  rw [Nat.pow_succ] at h1 h2 h4
  have hd : r % 2 ^ k = 0 := by
    have := Nat.mod_mul_right_mod r (2 ^ k) 2
    rw [h1] at this
    rw [← this, Nat.zero_mod]
  refine ⟨?_, by omega, fun h => ⟨?_, by omega, h, ?_⟩, fun h => ⟨hd, by omega, h3, h⟩⟩
  · obtain ⟨m, hm⟩ : ∃ m, r = 2 ^ (k + 1) * m := ⟨r / (2 ^ k * 2), by rw [Nat.pow_succ]; exact (Nat.mul_div_cancel' (Nat.dvd_of_mod_eq_zero h1)).symm⟩
    have := Nat.two_pow_add_eq_or_of_lt (i := k + 1) (b := 2 ^ k) (by rw [Nat.pow_succ]; omega) m
    rw [← hm] at this
    exact this.symm
  · rw [Nat.add_mod_right, hd]
  · rw [show r + 2 ^ k + 2 ^ k = r + 2 ^ k * 2 by omega]; exact h4
theorem rsq_end (x r : Nat) (h : RSq x 0 r) : x = r * r + (x - r * r) ∧ x - r * r ≤ 2 * r ∧ r < 4294967296 := by
  obtain ⟨_, h2, h3, h4⟩ := h
  rw [Nat.pow_zero] at h2 h4
  rw [Nat.add_mul, Nat.mul_add] at h4
  refine ⟨by omega, by omega, by omega⟩
theorem sq_lt (t : Nat) (h : t < 4294967296) : t * t < 18446744073709551616 := by
  have : t * t ≤ 4294967295 * 4294967295 := Nat.mul_le_mul (by omega) (by omega)
  omega
theorem sq_i (t : Nat) (h : t < 4294967296) : IntKind.u64.wrap ((t : Int) * t) = ((t * t : Nat) : Int) := by
  have := sq_lt t h
  rw [← Int.natCast_mul, IntKind.wrap_u64]
  omega

end Go.Proofs.YtknkkagapcigfaaDoor
