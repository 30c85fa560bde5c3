/-
  What the functions Or and count of package wide return.
-/
import Derived.Test.YtkmlbjlaahcahaaDoorGx
namespace Go.Proofs.YtkmlbjlaahcahaaDoor
open Go.RowKit WMath

theorem wor_any (n m : Nat) (hn : n < Q) (hm : m < Q) (w : World) :
    Calls Tryd.prog 48 #[W n, W m] w fun e w' => e = .returned (W (n ||| m)) ∧ Below w.heap.size w w' := by
  unfold W
  have hat := cw_at 6
  have hz := cw6z
  have hf := cw6f
  have hx := ix6
  have hs0 := st0
  go_enter Tryd.func48, Tryd.ntmps48
  go_wp2
  go_loopw [8] (fun i wr => ∃ (k X : Nat), k ≤ 6 ∧ i = .int .i64 k ∧ wr = ((w.alloc (.cells (cw 6 X) 28)).alloc (.cells (cw 6 m) 28)).alloc (.cells (cw 6 0) 28) ∧ Hid (Part X n k fun j => wd n j ||| wd m j)) (fun i _ => 6 - (intOf i).toNat)
  case atStart => exact ⟨0, n, by omega, rfl, rfl, hide (part_start n _ hn)⟩
  case round =>
    obtain ⟨k, X, hk, rfl, rfl, HE⟩ := hrel
    by_cases hlt : k < 6
    · have hw := part_wd HE.out hlt
      have ho := bits_or_u64_nat (wd n k) (wd m k) (wd_lt _ _) (wd_lt _ _)
      go_wp2
      go_roundw
      case rel =>
        exact ⟨k + 1, _, by omega, by go_num, by rw [cw_seti 6 X k _ _ hlt (or_lt64 _ _ (wd_lt n k) (wd_lt m k)) rfl], hide (part_step HE.out hlt _ (or_lt64 _ _ (wd_lt n k) (wd_lt m k)) rfl)⟩
      case measure => simp [intOf]; omega
    · go_wp2
      obtain rfl := part_end HE.out (by omega) (n ||| m) (or_ltQ n m hn hm) (fun j hj => wd_or n m j)
      exact bodyPost_ret (v := .agg (cw 6 (n ||| m))) (by simp [results, Tryd.results48, go_sem, hat, hf]) rfl ⟨rfl, (((Below.refl _ _).alloc (Nat.le_refl _) _).alloc (by simp <;> omega) _).alloc (by simp <;> omega) _⟩

def cnt6 (n : Int) : Nat := min n.toNat 384
theorem wcount_any (n : Int) (w : World) :
    Calls Tryd.prog 66 #[.int .i64 n] w fun e w' => e = .returned (.int .i64 (cnt6 n : Nat)) ∧ w' = w := by
  go_enter Tryd.func66, Tryd.ntmps66
  go_wp2
  all_goals go_ret
  all_goals
    refine ⟨ret_int ?_, rfl⟩
    unfold cnt6
    omega

end Go.Proofs.YtkmlbjlaahcahaaDoor
