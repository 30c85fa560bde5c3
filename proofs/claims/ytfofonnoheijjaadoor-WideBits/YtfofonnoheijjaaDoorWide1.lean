/-
  What the functions Add and Sub of package wide return.
-/
import Derived.Test.YtfofonnoheijjaaDoorWide0
namespace Go.Proofs.YtfofonnoheijjaaDoor
open Go.RowKit WMath

theorem al_eq {w : World} {c c' : Array Value} {t : TypeId} (h : c = c') : w.alloc (.cells c t) = w.alloc (.cells c' t) := by rw [h]

theorem wadd_any (n m : Nat) (hn : n < Q) (hm : m < Q) (w : World) :
    Calls Tryd.prog 28 #[W n, W m] w fun e w' => e = .returned (.tuple #[W ((n + m) % Q), .bool (decide (Q ≤ n + m))]) ∧ Below w.heap.size w w' := by
  unfold W
  have hat := cw_at 6
  have hz := cw6z
  have hf := cw6f
  have hx := ix6
  have hs0 := st0
  go_enter Tryd.func28, Tryd.ntmps28
  go_wp2
  go_loopw [5, 9] (fun ov i wr => ∃ (k S : Nat) (C : Bool), k ≤ 6 ∧ i = .int .i64 k ∧ ov = .bool C ∧ wr = ((w.alloc (.cells (cw 6 n) 24)).alloc (.cells (cw 6 m) 24)).alloc (.cells (cw 6 S) 24) ∧ S < 2 ^ (64 * k) ∧ Hid (S + 2 ^ (64 * k) * C.toNat = n % 2 ^ (64 * k) + m % 2 ^ (64 * k))) (fun _ i _ => 6 - (intOf i).toNat)
  case atStart => exact ⟨0, 0, false, by omega, rfl, rfl, rfl, by decide, hide (by simp [Nat.mod_one])⟩
  case round =>
    obtain ⟨k, S, C, hk, rfl, rfl, rfl, hS, HE⟩ := hrel
    by_cases hlt : k < 6
    · go_wp2_with (go_at_call 36; refine (add_any _ _ _ (wd_lt _ _) (wd_lt _ _) _).mono ?_; rintro e w' ⟨rfl, rfl⟩)
      go_roundw
      case rel =>
        exact ⟨k + 1, _, _, by omega, by go_num, rfl, al_eq (cw_push 6 S k _ _ hlt hS (Nat.mod_lt _ (by decide)) (by omega)), push_lt S k _ hS (Nat.mod_lt _ (by decide)), hide (wadd_step n m S k _ C HE.out rfl)⟩
      case measure => simp [intOf]; omega
    · go_wp2
      obtain ⟨rfl, rfl⟩ := wadd_end n m S k C (by omega) hn hm hS HE.out
      exact bodyPost_ret (v := .tuple #[.agg (cw 6 ((n + m) % Q)), .bool (decide (Q ≤ n + m))]) (by simp [results, Tryd.results28, go_sem, hat, hf]) rfl ⟨rfl, (((Below.refl _ _).alloc (Nat.le_refl _) _).alloc (by simp <;> omega) _).alloc (by simp <;> omega) _⟩
theorem wof_any (n : Nat) (hn : n < 18446744073709551616) (w : World) :
    Calls Tryd.prog 29 #[.int .u64 n] w fun e w' => e = .returned (W n) ∧ Below w.heap.size w w' := by
  unfold W
  have hat := cw_at 6
  have hz := cw6z
  have hf := cw6f
  have hs0 := st0
  have h1 : (cw 6 0).setIfInBounds 0 (.int .u64 n) = cw 6 n := by
    rw [cw_set 6 0 0 n (by omega) hn, setw_low 0 0 n (by decide)]; simp
  have h2 : (cw 6 0).toList.set 0 (.int .u64 n) = (cw 6 n).toList := by rw [← h1]; simp
  go_enter Tryd.func29, Tryd.ntmps29
  go_wp2
  exact bodyPost_ret (v := .agg (cw 6 n)) (by simp [results, Tryd.results29, go_sem, hat, hf]) rfl ⟨rfl, (Below.refl _ _).alloc (Nat.le_refl _) _⟩

theorem not_num64 (x : Nat) (hx : x < 18446744073709551616) : bits BinOp.xor IntKind.u64 (if IntKind.u64.signed = true then -1 else IntKind.u64.max) (x : Int) = ((18446744073709551615 - x : Nat) : Int) := by
  have e : (if IntKind.u64.signed = true then -1 else IntKind.u64.max) = ((18446744073709551615 : Nat) : Int) := by decide
  rw [e, bits_xor_u64_nat _ _ (by omega) hx]
  congr 1
  apply Nat.eq_of_testBit_eq
  intro j
  rw [Nat.testBit_xor, show 18446744073709551615 - x = 2 ^ 64 - (x + 1) by rw [← two64]; omega, Nat.testBit_two_pow_sub_succ (by rw [← two64]; exact hx)]
  rw [show 18446744073709551615 = 2 ^ 64 - 1 by decide, Nat.testBit_two_pow_sub_one]
  by_cases hj : j < 64
  · rw [decide_eq_true hj]; simp
  · rw [decide_eq_false hj, lt_bit (n := x) (q := 64) (by rw [← two64]; exact hx) (by omega)]; simp

theorem wnot_any (n : Nat) (hn : n < Q) (w : World) :
    Calls Tryd.prog 16 #[W n] w fun e w' => e = .returned (W (Q - 1 - n)) ∧ Below w.heap.size w w' := by
  unfold W
  have hat := cw_at 6
  have hz := cw6z
  have hf := cw6f
  have hx := ix6
  have hs0 := st0
  go_enter Tryd.func16, Tryd.ntmps16
  go_wp2
  go_loopw [6] (fun i wr => ∃ (k X : Nat), k ≤ 6 ∧ i = .int .i64 k ∧ wr = (w.alloc (.cells (cw 6 X) 24)).alloc (.cells (cw 6 0) 24) ∧ Hid (Part X n k fun j => 18446744073709551615 - wd n j)) (fun i _ => 6 - (intOf i).toNat)
  case atStart => exact ⟨0, n, by omega, rfl, rfl, hide (part_start n _ hn)⟩
  case round =>
    obtain ⟨k, X, hk, rfl, rfl, HE⟩ := hrel
    by_cases hlt : k < 6
    · go_wp2
      go_roundw
      case rel =>
        exact ⟨k + 1, _, by omega, by go_num, by rw [cw_seti 6 X k _ _ hlt (by omega) (not_num64 (wd n k) (wd_lt _ _))], hide (part_step HE.out hlt _ (by omega) rfl)⟩
      case measure => simp [intOf]; omega
    · go_wp2
      obtain rfl := part_end HE.out (by omega) (Q - 1 - n) (by omega) (fun j hj => wd_not n j hj hn)
      exact bodyPost_ret (v := .agg (cw 6 (Q - 1 - n))) (by simp [results, Tryd.results16, go_sem, hat, hf]) rfl ⟨rfl, ((Below.refl _ _).alloc (Nat.le_refl _) _).alloc (by simp <;> omega) _⟩
end Go.Proofs.YtfofonnoheijjaaDoor
