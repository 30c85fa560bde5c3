/-
  What Mask, And, Or and Not return, by package wide and by the document's answer.
-/
import Derived.Test.YtjbefkceieklmaaDoorMx
import Derived.Test.YtjbefkceieklmaaDoorWide2
import Derived.Test.YtjbefkceieklmaaDoorWord2
import Derived.Test.YtjbefkceieklmaaDoorRwide2
import Derived.RegionTactic
namespace Go.Proofs.YtjbefkceieklmaaDoor
open Go.RowKit WMath

set_option maxRecDepth 100000 in
set_option maxHeartbeats 1000000 in
theorem rwmask_is (s : Int) (v : Nat) (hv : 2 ^ cnt6 s - 1 = v) (w : World) :
    Calls Tryd.prog 55 #[.int .i64 s] w fun e w' => e = .returned (.agg (cw 6 v)) ∧ Below w.heap.size w w' := by
  obtain ⟨c, hc⟩ : ∃ c, c = cnt6 s := ⟨_, rfl⟩
  have hc6 : c ≤ 384 := by rw [hc]; unfold cnt6; omega
  rw [← hc] at hv
  have HV := box hv
  have HC := box hc
  clear hv hc
  have hat := cw_at 6
  have hz := cw6z
  have hf := cw6f
  have hs1 := st1
  go_enter Tryd.func55, Tryd.ntmps55
  go_wp2_with fail
  refine (rwcount_any _ _).mono ?_
  rw [← HC.out]
  rintro e w' ⟨rfl, rfl⟩
  go_wp2
  go_loopw [4] (fun iv wr => ∃ (i X : Nat), i ≤ c ∧ iv = .int .i64 i ∧ wr = (w.alloc (.cells (cw 6 0) 55)).alloc (.cells (cw 6 X) 55) ∧ Box (X = 2 ^ i - 1)) (fun iv _ => c - (intOf iv).toNat)
  case atStart => exact ⟨0, 0, by omega, rfl, rfl, box rfl⟩
  case round =>
    obtain ⟨i, X, hi, rfl, rfl, HE⟩ := hrel
    by_cases hlt : i < c
    · obtain ⟨q, hq⟩ : ∃ q, q = i / 64 := ⟨_, rfl⟩
      obtain ⟨r, hr⟩ : ∃ r, r = i % 64 := ⟨_, rfl⟩
      have t2 : (i : Int) / 64 = (q : Int) := by omega
      have t3 : (i : Int) % 64 = (r : Int) := by omega
      have t4 : q < 6 := by omega
      have t5 : r < 64 := by omega
      obtain ⟨x, hx⟩ : ∃ x, x = 2 ^ r := ⟨_, rfl⟩
      have x1 : x < 18446744073709551616 := by rw [hx]; exact v_word r t5
      have x2 : IntKind.u64.wrap ((2 : Int) ^ r) = (x : Int) := by rw [pow_cast, wrap_nat _ (v_word r t5), hx]
      have x3 := bor X q x x1
      obtain ⟨X2, hX2⟩ : ∃ X2, X2 = X ||| x * 2 ^ (64 * q) := ⟨_, rfl⟩
      have x4 := cw_or 6 X q x X2 t4 x1 hX2
      have EX : Box (X2 = 2 ^ (i + 1) - 1) := box (by rw [hX2, hx, HE.out]; exact mask_or i q r (by omega))
      clear hX2 hx hq hr
      go_wp2
      go_roundw
      case rel => exact ⟨i + 1, X2, by omega, by go_num, rfl, EX⟩
      case measure => simp [intOf] <;> omega
    · have e := HE.out
      rw [show i = c by omega, HV.out] at e
      subst e
      go_wp2
      exact bodyPost_ret (v := .agg (cw 6 X)) (by simp [results, Tryd.results55, go_sem, hat, hf]) rfl ⟨rfl, ((Below.refl _ _).alloc (Nat.le_refl _) _).alloc (by simp <;> omega) _⟩
end Go.Proofs.YtjbefkceieklmaaDoor
