/-
  The function alive of the statements of layer 5 answers true.
-/
import Derived.Test.YtjedplbhhohfmaaList9
namespace Go.Proofs.Ytjedplbhhohfmaa
open Go.RowKit WMath

theorem nb1 : nbA 1 = ⟨#[1]⟩ := by decide +kernel
theorem nb2 : nbA 2 = ⟨#[2]⟩ := by decide +kernel
theorem nb255 : nbA 255 = ⟨#[255]⟩ := by decide +kernel
theorem nb256 : nbA 256 = ⟨#[1, 0]⟩ := by decide +kernel
theorem tx255b : (⟨(tx 255).toArray⟩ : ByteArray) = ⟨#[102, 102]⟩ := by decide +kernel

theorem nalive (w : World) : Calls Try.prog 11 #[] w fun e w' => e = .returned (.bool true) ∧ Below w.heap.size w w' := by
  have l1 : nl 1 ≤ 16384 := by decide +kernel
  have l2 : nl 2 ≤ 16384 := by decide +kernel
  have l3 : nl 255 ≤ 16384 := by decide +kernel
  have a1 : Box (lg (255 + 1) = (⟨#[1, 0]⟩, 0)) := box (by unfold lg; rw [if_pos (by decide +kernel), nb256])
  have a2 : Box (sb 1 2 = (⟨#[]⟩, 2)) := box (by unfold sb; rw [if_pos (by decide)])
  go_enter Try.func11, Try.ntmps11
  go_wp2_with fail
  refine (pn_add_ok 255 1 _ _ _ _ nb255 nb1 l3 l1 a1.out _).mono ?_
  rintro e w1 ⟨rfl, hb1⟩
  go_wp2_with fail
  refine (pn_sub_ok 1 2 _ _ _ _ nb1 nb2 l1 l2 a2.out _).mono ?_
  rintro e w2 ⟨rfl, hb2⟩
  go_wp2_with fail
  refine (pn_text_ok 255 _ _ nb255 l3 tx255b _).mono ?_
  rintro e w3 ⟨rfl, hb3⟩
  go_wp2
  go_ret
  exact ⟨rfl, hb1.trans ((hb2.trans (hb3.mono hb2.size)).mono hb1.size)⟩
end Go.Proofs.Ytjedplbhhohfmaa
