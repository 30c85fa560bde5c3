/-
  What the functions Add and Sub of the document's answer for layer 2 return.
-/
import Derived.Test.YtkmlbjlaahcahaaDoorGx
namespace Go.Proofs.YtkmlbjlaahcahaaDoor
open Go.RowKit WMath

theorem radd_is (a b : Nat) (c : Bool) (s : Nat) (o : Bool) (ha : a < 18446744073709551616) (hb : b < 18446744073709551616) (hs : (a + b + c.toNat) % 18446744073709551616 = s) (ho : decide (18446744073709551616 ≤ a + b + c.toNat) = o) (w : World) :
    Calls Tryd.prog 54 #[.int .u64 a, .int .u64 b, .bool c] w fun e w' => e = .returned (.tuple #[.int .u64 (s : Nat), .bool o]) ∧ w' = w := by
  subst hs; subst ho; exact radd_any a b c ha hb w
theorem add_facts (n m S k : Nat) (C : Bool) (hS : S < 2 ^ (64 * k)) (hE : S + 2 ^ (64 * k) * C.toNat = n % 2 ^ (64 * k) + m % 2 ^ (64 * k)) :
    ∃ (x : Nat) (o : Bool), x < 18446744073709551616 ∧ Box ((wd n k + wd m k + C.toNat) % 18446744073709551616 = x) ∧ Box (decide (18446744073709551616 ≤ wd n k + wd m k + C.toNat) = o) ∧ Box (S + 2 ^ (64 * k) * x < 2 ^ (64 * (k + 1))) ∧ Box (S + 2 ^ (64 * k) * x + 2 ^ (64 * (k + 1)) * o.toNat = n % 2 ^ (64 * (k + 1)) + m % 2 ^ (64 * (k + 1))) :=
  ⟨_, _, Nat.mod_lt _ (by decide), box rfl, box rfl, box (push_lt S k _ hS (Nat.mod_lt _ (by decide))), box (wadd_step n m S k _ C hE rfl)⟩
theorem sub_facts (n m S k : Nat) (C : Bool) (hS : S < 2 ^ (64 * k)) (hE : S + m % 2 ^ (64 * k) = n % 2 ^ (64 * k) + 2 ^ (64 * k) * C.toNat) :
    ∃ (x : Nat) (o : Bool), x < 18446744073709551616 ∧ Box ((wd n k + 18446744073709551616 - wd m k - C.toNat) % 18446744073709551616 = x) ∧ Box (decide (wd n k < wd m k + C.toNat) = o) ∧ Box (S + 2 ^ (64 * k) * x < 2 ^ (64 * (k + 1))) ∧ Box (S + 2 ^ (64 * k) * x + m % 2 ^ (64 * (k + 1)) = n % 2 ^ (64 * (k + 1)) + 2 ^ (64 * (k + 1)) * o.toNat) :=
  ⟨_, _, Nat.mod_lt _ (by decide), box rfl, box rfl, box (push_lt S k _ hS (Nat.mod_lt _ (by decide))), box (wsub_step n m S k _ C hE rfl)⟩

set_option maxHeartbeats 1000000 in
theorem rwadd_is (n m v : Nat) (o : Bool) (hn : n < Q) (hm : m < Q) (hv : (n + m) % Q = v) (ho : decide (Q ≤ n + m) = o) (w : World) :
    Calls Tryd.prog 24 #[.agg (cw 6 n), .agg (cw 6 m)] w fun e w' => e = .returned (.tuple #[.agg (cw 6 v), .bool o]) ∧ Below w.heap.size w w' := by
  have HV := box hv
  have HW := box ho
  clear hv ho
  have hat := cw_at 6
  have hz := cw6z
  have hf := cw6f
  have hs1 := st1d
  have hsc := sc0d
  go_enter Tryd.func24, Tryd.ntmps24
  go_wp2
  go_loopw [7, 8] (fun ov i wr => ∃ (k S d : Nat) (C : Bool), k ≤ 6 ∧ i = .int .i64 k ∧ ov = .bool C ∧ wr = ((((w.alloc (.cells (cw 6 n) 28)).alloc (.cells (cw 6 m) 28)).alloc (.cells (cw 6 0) 28)).alloc (.cells (cw 6 S) 28)).drewN d ∧ S < 2 ^ (64 * k) ∧ Box (S + 2 ^ (64 * k) * C.toNat = n % 2 ^ (64 * k) + m % 2 ^ (64 * k))) (fun _ i _ => 6 - (intOf i).toNat)
  case atStart => exact ⟨0, 0, 0, false, by omega, rfl, rfl, rfl, by decide, box (by simp [Nat.mod_one])⟩
  case round =>
    obtain ⟨k, S, d, C, hk, rfl, rfl, rfl, hS, HE⟩ := hrel
    by_cases hlt : k < 6
    · have hki : (k : Int) < 6 := by omega
      obtain ⟨x, oo, bx, HX, HO, P1, ST⟩ := add_facts n m S k C hS HE.out
      have hp := cw_push 6 S k x _ hlt hS bx rfl
      go_wp2
      go_quiet ((go_at_call 54; exact (radd_is _ _ _ x oo (wd_lt _ _) (wd_lt _ _) HX.out HO.out _).mono (fun _ _ h => ⟨h.1, _, h.2⟩)))
      go_wp2
      go_roundw
      case rel => exact ⟨k + 1, _, _, oo, by omega, by go_num, rfl, rfl, P1.out, ST⟩
      case measure => simp [intOf]; omega
    · go_wp2
      obtain ⟨e1, e2⟩ := wadd_end n m S k C (by omega) hn hm hS HE.out
      rw [HV.out] at e1
      rw [HW.out] at e2
      subst e1; subst e2
      exact bodyPost_ret (v := .tuple #[.agg (cw 6 S), .bool C]) (by simp [results, Tryd.results24, go_sem, hat, hf]) rfl ⟨rfl, below_drewN ((((Below.refl _ _).alloc (Nat.le_refl _) _).alloc (by simp <;> omega) _).alloc (by simp <;> omega) _ |>.alloc (by simp <;> omega) _) _⟩
end Go.Proofs.YtkmlbjlaahcahaaDoor
