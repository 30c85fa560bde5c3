/-
  What the functions Len and field of package wide return.
-/
import Derived.Test.YtgiehfecljampaaWord2
import Derived.Test.YtgiehfecljampaaWord5
import Derived.Test.YtgiehfecljampaaTmath
import Derived.Test.YtgiehfecljampaaQuiet2
namespace Go.Proofs.Ytgiehfecljampaa
open Go.RowKit WMath

theorem len_is (x l : Nat) (hx : x < 18446744073709551616) (hl : blen x = l) (w : World) :
    Calls Try.prog 39 #[.int .u64 x] w fun e w' => e = .returned (.int .i64 (l : Nat)) ∧ w' = w := by
  subst hl; rw [← bitLen_blen x hx]; exact len_any x hx w

theorem wlen_any (n : Nat) (hn : n < Q) (w : World) :
    Calls Try.prog 20 #[W n] w fun e w' => e = .returned (.int .i64 (blen n : Nat)) ∧ Below w.heap.size w w' := by
  unfold W
  have hat := cw_at 6
  have hf := cw6f
  have hx := ix6
  go_enter Try.func20, Try.ntmps20
  go_wp2
  go_loop [3, 7] (fun r i => ∃ (k l : Nat), k ≤ 6 ∧ i = .int .i64 k ∧ r = .int .i64 l ∧ Box (l = blen (n % 2 ^ (64 * k)))) (fun _ i => 6 - (intOf i).toNat)
  case atStart => exact ⟨0, 0, by omega, rfl, rfl, box (by rw [Nat.mul_zero, Nat.pow_zero, Nat.mod_one, blen_zero])⟩
  case round =>
    obtain ⟨k, l, hk, rfl, rfl, HE⟩ := hrel
    by_cases hlt : k < 6
    · have ST := box (blen_step n k)
      obtain ⟨x, hxe⟩ : ∃ x, wd n k = x := ⟨_, rfl⟩
      have hx2 : x < 18446744073709551616 := by rw [← hxe]; exact wd_lt n k
      have hbl : blen x ≤ 64 := blen_le_of x 64 (by rw [← two64]; exact hx2)
      obtain ⟨b, hb⟩ : ∃ b, blen x = b := ⟨_, rfl⟩
      rw [hb] at hbl
      have HB := box hb
      have HX := box hxe
      clear hb
      by_cases h0 : x = 0
      · subst h0
        go_wp2
        go_round
        case rel => exact ⟨k + 1, l, by omega, by go_num, rfl, box (by rw [ST.out, HX.out, if_pos rfl]; exact HE.out)⟩
        case measure => simp [intOf]; omega
      · go_wp2_with (go_at_call 39; refine (len_is x b hx2 HB.out _).mono ?_; rintro e w' ⟨rfl, rfl⟩)
        go_round
        case rel => exact ⟨k + 1, 64 * k + b, by omega, by go_num, by go_num, box (by rw [ST.out, HX.out, if_neg h0, HB.out])⟩
        case measure => simp [intOf]; omega
    · go_wp2
      go_ret
      exact ⟨ret_int (by rw [HE.out, wlow n k hn (by omega)]), (Below.refl _ _).alloc (Nat.le_refl _) _⟩

end Go.Proofs.Ytgiehfecljampaa
