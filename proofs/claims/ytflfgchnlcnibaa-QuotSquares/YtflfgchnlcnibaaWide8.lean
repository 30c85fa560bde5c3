/-
  The function alive of the statements of layer 2 answers true.
-/
import Derived.Test.YtflfgchnlcnibaaWide5
import Derived.Test.YtflfgchnlcnibaaWide7
namespace Go.Proofs.Ytflfgchnlcnibaa
open Go.RowKit WMath

theorem wadd_is (n m v : Nat) (o : Bool) (hn : n < Q) (hm : m < Q) (hv : (n + m) % Q = v) (ho : decide (Q ≤ n + m) = o) (w : World) :
    Calls Try.prog 17 #[.agg (cw 6 n), .agg (cw 6 m)] w fun e w' => e = .returned (.tuple #[.agg (cw 6 v), .bool o]) ∧ Below w.heap.size w w' := by
  subst hv; subst ho; exact wadd_any n m hn hm w
theorem wsub_is (n m v : Nat) (o : Bool) (hn : n < Q) (hm : m < Q) (hv : (n + Q - m) % Q = v) (ho : decide (n < m) = o) (w : World) :
    Calls Try.prog 37 #[.agg (cw 6 n), .agg (cw 6 m)] w fun e w' => e = .returned (.tuple #[.agg (cw 6 v), .bool o]) ∧ Below w.heap.size w w' := by
  subst hv; subst ho; exact wsub_any n m hn hm w
theorem wmul_is (n m v : Nat) (o : Bool) (hn : n < Q) (hm : m < Q) (hv : n * m % Q = v) (ho : decide (Q ≤ n * m) = o) (w : World) :
    Calls Try.prog 16 #[.agg (cw 6 n), .agg (cw 6 m)] w fun e w' => e = .returned (.tuple #[.agg (cw 6 v), .bool o]) ∧ Below w.heap.size w w' := by
  subst hv; subst ho; exact wmul_any n m hn hm w

theorem Q_big : 1000000 < Q := by
  obtain ⟨L, hL, hQ⟩ := Q_of
  rw [hQ]
  have : 2 ^ 20 ≤ 2 ^ (64 * L) := Nat.pow_le_pow_right (by decide) (by omega)
  have e : (2 : Nat) ^ 20 = 1048576 := by decide
  omega
theorem tx255 : tx 255 = [102, 102] := by
  rw [tx_big 255 (by decide), tx_small (255 / 16) (by decide)]
  decide
theorem wadd_al (w : World) : Calls Try.prog 17 #[.agg (cw 6 (Q - 1)), .agg (cw 6 1)] w fun e w' => e = .returned (.tuple #[.agg (cw 6 0), .bool true]) ∧ Below w.heap.size w w' := by
  have hQ := Q_big
  refine (wadd_any (Q - 1) 1 (by omega) (by omega) w).mono ?_
  rintro e w' ⟨rfl, h⟩
  refine ⟨?_, h⟩
  rw [show Q - 1 + 1 = Q by omega, Nat.mod_self, decide_eq_true (Nat.le_refl Q)]
  rfl
theorem wmul_al (w : World) : Calls Try.prog 16 #[.agg (cw 6 3), .agg (cw 6 5)] w fun e w' => e = .returned (.tuple #[.agg (cw 6 15), .bool false]) ∧ Below w.heap.size w w' := by
  have hQ := Q_big
  refine (wmul_any 3 5 (by omega) (by omega) w).mono ?_
  rintro e w' ⟨rfl, h⟩
  refine ⟨?_, h⟩
  rw [show 3 * 5 = 15 by decide, Nat.mod_eq_of_lt (by omega), decide_eq_false (by omega)]
  rfl
theorem wof_al (n : Nat) (hn : n < 18446744073709551616) (w : World) : Calls Try.prog 19 #[.int .u64 n] w fun e w' => e = .returned (.agg (cw 6 n)) ∧ Below w.heap.size w w' := wof_any n hn w
end Go.Proofs.Ytflfgchnlcnibaa
