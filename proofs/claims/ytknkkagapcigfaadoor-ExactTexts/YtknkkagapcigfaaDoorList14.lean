/-
  What the function squareRoot of package nat returns.
-/
import Derived.Test.YtknkkagapcigfaaDoorList13
namespace Go.Proofs.YtknkkagapcigfaaDoor
open Go.RowKit WMath

theorem amgm (s R : Nat) : (2 * s - R) * R ≤ s * s := by
  by_cases h : R ≤ s
  · obtain ⟨k, rfl⟩ : ∃ k, s = R + k := ⟨s - R, by omega⟩
    rw [show 2 * (R + k) - R = R + 2 * k by omega, Nat.add_mul, Nat.add_mul, Nat.mul_add, Nat.mul_add, Nat.mul_assoc, Nat.mul_comm k R]
    omega
  · obtain ⟨k, rfl⟩ : ∃ k, R = s + k := ⟨R - s, by omega⟩
    by_cases h2 : k ≤ s
    · obtain ⟨j, rfl⟩ : ∃ j, s = k + j := ⟨s - k, by omega⟩
      rw [show 2 * (k + j) - (k + j + k) = j by omega, Nat.mul_add, Nat.mul_add, Nat.mul_add, Nat.add_mul, Nat.add_mul, Nat.mul_comm j k]
      have := Nat.zero_le (k * k)
      omega
    · rw [show 2 * s - (s + k) = 0 by omega, Nat.zero_mul]
      exact Nat.zero_le _
theorem newton_ge (a s R : Nat) (h : s * s ≤ a) (hR : R ≠ 0) : s ≤ (R + a / R) / 2 := by
  have h1 : 2 * s - R ≤ a / R := (Nat.le_div_iff_mul_le (by omega)).2 (Nat.le_trans (amgm s R) h)
  omega
theorem newton_end (a s R : Nat) (hs : RootIs a s) (hsR : s ≤ R) (hR : R ≠ 0) (hn : R ≤ (R + a / R) / 2) : R = s := by
  have h1 : R ≤ a / R := by omega
  have h2 : R * R ≤ a := (Nat.le_div_iff_mul_le (by omega)).1 h1
  by_cases e : R = s
  · exact e
  · have h3 : (s + 1) * (s + 1) ≤ R * R := Nat.mul_le_mul (by omega) (by omega)
    have := hs.2
    omega
theorem newton_start (a s l k : Nat) (hs : RootIs a s) (hl : blen a = l) (hk : l ≤ 2 * k) : s ≤ 2 ^ k := by
  by_cases e : s ≤ 2 ^ k
  · exact e
  · have h1 : 2 ^ k * 2 ^ k ≤ s * s := Nat.mul_le_mul (by omega) (by omega)
    rw [← Nat.pow_add] at h1
    have h2 := blen_lt a
    rw [hl] at h2
    have h3 : 2 ^ l ≤ 2 ^ (k + k) := Nat.pow_le_pow_right (by decide) (by omega)
    have := hs.1
    omega
theorem root_pos (a s : Nat) (hs : RootIs a s) (ha : a ≠ 0) : s ≠ 0 := by
  intro e
  have := hs.2
  rw [e] at this
  omega

/-- The number that a slice holds, as a function of the world. -/
theorem num_fun : ∃ F : World → Value → Nat, ∀ (B : Nat) (w : World) (p : Option Addr) (L c n : Nat), SL B w p L c n → F w (.slice p L c) = n := by
  classical
  refine ⟨fun w v => if h : ∃ n B p L c, v = .slice p L c ∧ SL B w p L c n then Classical.choose h else 0, fun B w p L c n hn => ?_⟩
  have hex : ∃ n B p' L' c', Value.slice p L c = .slice p' L' c' ∧ SL B w p' L' c' n := ⟨n, B, p, L, c, rfl, hn⟩
  simp only [hex, dif_pos]
  obtain ⟨B', p', L', c', e, h'⟩ := Classical.choose_spec hex
  injection e with e1 e2 e3
  subst e1 e2 e3
  refine wd_ext h'.1 hn.1 (fun k hk => ?_)
  obtain ⟨b, o, rfl, _⟩ := hn.ptr (by omega)
  have h1 := h'.cell k _ hk rfl
  have h2 := hn.cell k _ hk rfl
  rw [h1] at h2
  simp only [Option.some.injEq, Value.int.injEq, true_and] at h2
  omega

end Go.Proofs.YtknkkagapcigfaaDoor
