/-
  The function alive of the statements of layer 2 answers true.
-/
import Derived.Test.YtkmlbjlaahcahaaDoorGx
namespace Go.Proofs.YtkmlbjlaahcahaaDoor
open Go.RowKit WMath

theorem Q_big : 1000000 < Q := by
  obtain ⟨L, hL, hQ⟩ := Q_of
  rw [hQ]
  have : 2 ^ 20 ≤ 2 ^ (64 * L) := Nat.pow_le_pow_right (by decide) (by omega)
  have e : (2 : Nat) ^ 20 = 1048576 := by decide
  omega
theorem tx255 : tx 255 = [102, 102] := by
  rw [tx_big 255 (by decide), tx_small (255 / 16) (by decide)]
  decide
theorem wof_al (n : Nat) (hn : n < 18446744073709551616) (w : World) : Calls Tryd.prog 46 #[.int .u64 n] w fun e w' => e = .returned (.agg (cw 6 n)) ∧ Below w.heap.size w w' := wof_any n hn w
end Go.Proofs.YtkmlbjlaahcahaaDoor
