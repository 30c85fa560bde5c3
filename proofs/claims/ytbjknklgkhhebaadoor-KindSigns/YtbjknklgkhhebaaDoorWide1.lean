/-
  What the functions Add and Sub of package wide return.
-/
import Derived.Test.YtbjknklgkhhebaaDoorWide0
namespace Go.Proofs.YtbjknklgkhhebaaDoor
open Go.RowKit WMath

theorem al_eq {w : World} {c c' : Array Value} {t : TypeId} (h : c = c') : w.alloc (.cells c t) = w.alloc (.cells c' t) := by rw [h]

theorem wof_any (n : Nat) (hn : n < 18446744073709551616) (w : World) :
    Calls Tryd.prog 63 #[.int .u64 n] w fun e w' => e = .returned (W n) ∧ Below w.heap.size w w' := by
  unfold W
  have hat := cw_at 6
  have hz := cw6z
  have hf := cw6f
  have hs0 := st0
  have h1 : (cw 6 0).setIfInBounds 0 (.int .u64 n) = cw 6 n := by
    rw [cw_set 6 0 0 n (by omega) hn, setw_low 0 0 n (by decide)]; simp
  have h2 : (cw 6 0).toList.set 0 (.int .u64 n) = (cw 6 n).toList := by rw [← h1]; simp
  go_enter Tryd.func63, Tryd.ntmps63
  go_wp2
  exact bodyPost_ret (v := .agg (cw 6 n)) (by simp [results, Tryd.results63, go_sem, hat, hf]) rfl ⟨rfl, (Below.refl _ _).alloc (Nat.le_refl _) _⟩

theorem not_num64 (x : Nat) (hx : x < 18446744073709551616) : bits BinOp.xor IntKind.u64 (if IntKind.u64.signed = true then -1 else IntKind.u64.max) (x : Int) = ((18446744073709551615 - x : Nat) : Int) := by
  have e : (if IntKind.u64.signed = true then -1 else IntKind.u64.max) = ((18446744073709551615 : Nat) : Int) := by decide
  rw [e, bits_xor_u64_nat _ _ (by omega) hx]
  congr 1
  apply Nat.eq_of_testBit_eq
  intro j
  rw [Nat.testBit_xor, show 18446744073709551615 - x = 2 ^ 64 - (x + 1) by rw [← two64]; omega, Nat.testBit_two_pow_sub_succ (by rw [← two64]; exact hx)]
  rw [show 18446744073709551615 = 2 ^ 64 - 1 by decide, Nat.testBit_two_pow_sub_one]
  by_cases hj : j < 64
  · rw [decide_eq_true hj]; simp
  · rw [decide_eq_false hj, lt_bit (n := x) (q := 64) (by rw [← two64]; exact hx) (by omega)]; simp

end Go.Proofs.YtbjknklgkhhebaaDoor
