/-
  What the functions Scale, top and Top of package exact return.
-/
import Derived.Test.YtknkkagapcigfaaGreatDoorX7
import Derived.Lib.MinMax
namespace Go.Proofs.YtknkkagapcigfaaGreatDoor
open Go.RowKit WMath XMath

theorem cmpv_neg (a b : Nat) : cmpv a b < 0 ↔ a < b := by
  unfold cmpv
  split
  · exact ⟨fun h => absurd h (by decide), fun h => by omega⟩
  · split
    · exact ⟨fun _ => by assumption, fun _ => by decide⟩
    · exact ⟨fun h => absurd h (by decide), fun h => by omega⟩
theorem lf_up (a : Nat) (k : Nat) (v : ByteArray) (h : nl (a * 2 ^ k) ≤ 16384) (hv : nbA (a * 2 ^ k) = v) : lf a (k : Int) = (v, 0) := by
  unfold lf
  rw [if_neg (by omega), Int.toNat_natCast]
  exact lg_ok _ v h hv
theorem nl_blen (a b : Nat) (h : blen a = blen b) (hb : nl b ≤ 16384) : nl a ≤ 16384 := by unfold nl at hb ⊢; rw [h]; exact hb
/-- How long both are that top compares. -/
theorem tAB_nl (x : XN) (n0 : x.n ≠ 0) (d0 : x.d ≠ 0) (ln : nl x.n ≤ 16384) (ld : nl x.d ≤ 16384) : nl (tA x) ≤ 16384 ∧ nl (tB x) ≤ 16384 := by
  obtain ⟨h1, _, _⟩ := tA_len x n0 d0
  by_cases h : 0 ≤ lenD x
  · have e : tA x = x.n := by unfold tA; rw [show (max (-lenD x) 0).toNat = 0 by omega, Nat.pow_zero, Nat.mul_one]
    have k : nl (tA x) ≤ 16384 := by rw [e]; exact ln
    exact ⟨k, nl_blen _ _ h1.symm k⟩
  · have e : tB x = x.d := by unfold tB; rw [show (max (lenD x) 0).toNat = 0 by omega, Nat.pow_zero, Nat.mul_one]
    have k : nl (tB x) ≤ 16384 := by rw [e]; exact ld
    exact ⟨nl_blen _ _ h1 k, k⟩

end Go.Proofs.YtknkkagapcigfaaGreatDoor
