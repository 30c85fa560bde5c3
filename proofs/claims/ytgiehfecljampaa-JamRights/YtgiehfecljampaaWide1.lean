/-
  What the functions Add and Sub of package wide return.
-/
import Derived.Test.YtgiehfecljampaaWide0
namespace Go.Proofs.Ytgiehfecljampaa
open Go.RowKit WMath

theorem al_eq {w : World} {c c' : Array Value} {t : TypeId} (h : c = c') : w.alloc (.cells c t) = w.alloc (.cells c' t) := by rw [h]

theorem wsub_any (n m : Nat) (hn : n < Q) (hm : m < Q) (w : World) :
    Calls Try.prog 19 #[W n, W m] w fun e w' => e = .returned (.tuple #[W ((n + Q - m) % Q), .bool (decide (n < m))]) ∧ Below w.heap.size w w' := by
  unfold W
  have hat := cw_at 6
  have hz := cw6z
  have hf := cw6f
  have hx := ix6
  have hs0 := st0
  go_enter Try.func19, Try.ntmps19
  go_wp2
  go_loopw [5, 9] (fun ov i wr => ∃ (k S : Nat) (C : Bool), k ≤ 6 ∧ i = .int .i64 k ∧ ov = .bool C ∧ wr = ((w.alloc (.cells (cw 6 n) 24)).alloc (.cells (cw 6 m) 24)).alloc (.cells (cw 6 S) 24) ∧ S < 2 ^ (64 * k) ∧ Hid (S + m % 2 ^ (64 * k) = n % 2 ^ (64 * k) + 2 ^ (64 * k) * C.toNat)) (fun _ i _ => 6 - (intOf i).toNat)
  case atStart => exact ⟨0, 0, false, by omega, rfl, rfl, rfl, by decide, hide (by simp [Nat.mod_one])⟩
  case round =>
    obtain ⟨k, S, C, hk, rfl, rfl, rfl, hS, HE⟩ := hrel
    by_cases hlt : k < 6
    · go_wp2_with (go_at_call 38; refine (sub_any _ _ _ (wd_lt _ _) (wd_lt _ _) _).mono ?_; rintro e w' ⟨rfl, rfl⟩)
      go_roundw
      case rel =>
        exact ⟨k + 1, _, _, by omega, by go_num, rfl, al_eq (cw_push 6 S k _ _ hlt hS (Nat.mod_lt _ (by decide)) (by omega)), push_lt S k _ hS (Nat.mod_lt _ (by decide)), hide (wsub_step n m S k _ C HE.out rfl)⟩
      case measure => simp [intOf]; omega
    · go_wp2
      obtain ⟨rfl, rfl⟩ := wsub_end n m S k C (by omega) hn hm hS HE.out
      exact bodyPost_ret (v := .tuple #[.agg (cw 6 ((n + Q - m) % Q)), .bool (decide (n < m))]) (by simp [results, Try.results19, go_sem, hat, hf]) rfl ⟨rfl, (((Below.refl _ _).alloc (Nat.le_refl _) _).alloc (by simp <;> omega) _).alloc (by simp <;> omega) _⟩

theorem wof_any (n : Nat) (hn : n < 18446744073709551616) (w : World) :
    Calls Try.prog 21 #[.int .u64 n] w fun e w' => e = .returned (W n) ∧ Below w.heap.size w w' := by
  unfold W
  have hat := cw_at 6
  have hz := cw6z
  have hf := cw6f
  have hs0 := st0
  have h1 : (cw 6 0).setIfInBounds 0 (.int .u64 n) = cw 6 n := by
    rw [cw_set 6 0 0 n (by omega) hn, setw_low 0 0 n (by decide)]; simp
  have h2 : (cw 6 0).toList.set 0 (.int .u64 n) = (cw 6 n).toList := by rw [← h1]; simp
  go_enter Try.func21, Try.ntmps21
  go_wp2
  exact bodyPost_ret (v := .agg (cw 6 n)) (by simp [results, Try.results21, go_sem, hat, hf]) rfl ⟨rfl, (Below.refl _ _).alloc (Nat.le_refl _) _⟩

theorem not_num64 (x : Nat) (hx : x < 18446744073709551616) : bits BinOp.xor IntKind.u64 (if IntKind.u64.signed = true then -1 else IntKind.u64.max) (x : Int) = ((18446744073709551615 - x : Nat) : Int) := by
  have e : (if IntKind.u64.signed = true then -1 else IntKind.u64.max) = ((18446744073709551615 : Nat) : Int) := by decide
  rw [e, bits_xor_u64_nat _ _ (by omega) hx]
  congr 1
  apply Nat.eq_of_testBit_eq
  intro j
  rw [Nat.testBit_xor, show 18446744073709551615 - x = 2 ^ 64 - (x + 1) by rw [← two64]; omega, Nat.testBit_two_pow_sub_succ (by rw [← two64]; exact hx)]
  rw [show 18446744073709551615 = 2 ^ 64 - 1 by decide, Nat.testBit_two_pow_sub_one]
  by_cases hj : j < 64
  · rw [decide_eq_true hj]; simp
  · rw [decide_eq_false hj, lt_bit (n := x) (q := 64) (by rw [← two64]; exact hx) (by omega)]; simp

end Go.Proofs.Ytgiehfecljampaa
