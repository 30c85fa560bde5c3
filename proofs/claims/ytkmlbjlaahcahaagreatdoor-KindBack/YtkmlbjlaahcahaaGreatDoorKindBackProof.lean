/-
  KindBack returns true for every format, whether it is one or not, and all bits: parts, values, texts and signs, there and back.
-/
import Derived.Test.YtkmlbjlaahcahaaGreatDoorRows
import Derived.Test.YtkmlbjlaahcahaaGreatDoorTie
import Derived.Test.YtkmlbjlaahcahaaGreatDoorCards
import Derived.WalkKit
import Derived.ProofKit
import Derived.OpenShut
import Derived.LaidMore
import Derived.Stop.Joined
import Derived.Lib.LaidTab
import Derived.SevenTiedAt
import Derived.Test.YtkmlbjlaahcahaaGreatDoorBa19
namespace Go.Proofs.YtkmlbjlaahcahaaGreatDoor.kindBack
open WMath
open Go.ChangeShapes Go.WideShapes Go.ChangeAt Go.RowKit
open XMath
set_option linter.unusedVariables false

theorem own : ownKnob Tryz.prog.godebug = none := by kernel_rfl

set_option maxRecDepth 100000 in
set_option maxHeartbeats 4000000 in
theorem walk (a0 : Int) (a1 : Nat × Nat) (h0 : (Lit.int .u8 a0).wf = true) (h1 : a1.1 < 18446744073709551616 ∧ a1.2 < 18446744073709551616) (w : World) (hT : TabAt w ∧ FAt w ∧ P10 w ∧ Atoiable w) :
    Calls Tryz.prog 5 #[.int .u8 a0, bitsV a1] w fun e w' => e = .returned (.bool true) ∧ Below w.heap.size w w' := by
  have TT := box hT.1
  have FF := box hT.2.1
  have PP := box hT.2.2.1
  have AA := box hT.2.2.2
  clear hT
  have b0 := bounds_u8 h0
  obtain ⟨x, y⟩ := a1
  obtain ⟨hx, hy⟩ := h1
  simp only at hx hy
  exact back_all a0 b0.1 b0.2 x y _ hx hy rfl w FF.out TT.out PP.out AA.out

set_option maxRecDepth 100000 in
theorem lifted (os : Os) (started : os.Started) (H : Type) (enc : TypeId × Value → H) :
    ReturnsInHanded {} Tryz.checked os 5 .any (fun w args => (Rows.kindBackSpec.pre enc Tryz.prog Tryz.f5 [] false w args ∧ laidMetH Tryz.prog laid9 w) ∧ sizedMet enc Tryz.prog Tryz.f5 (OpenSpec.ofChange Rows.kindBackSpec) false w args)
      (Rows.kindBackSpec.post enc Tryz.prog Tryz.f5 false true false false) := by
  refine handed9 own started (by kernel_rfl) Tryz.func5
    (ChangeSpec.witness_shaped (enc := enc) (C := Tryz.checked) (os := os) (X := fun w _ => laidMetH Tryz.prog laid9 w) false (World.doorLaid Tryz.prog 400 os) #[.int .u8 0, .agg #[.int .u64 0, .int .u64 0]] 8 rfl (World.shaped_of_RefB (by kernel_rfl) (by kernel_rfl)) (by kernel_rfl) (by kernel_rfl) (by kernel_rfl) (door_met9 os _)) ?_
  intro W base args ds gs before hval0 hW hL hsh
  have hAll : TabAt W ∧ FAt W ∧ P10 W ∧ Atoiable W := by
    obtain ⟨k1, k2, k3, k4, k5⟩ := of_laid9 hL
    exact ⟨k1, k2, k3, k4, k5, maxlen_of hsh⟩
  have hval : ∀ (j : Nat) t v, Tryz.f5.params[j]? = some t → args[j]? = some v → Value.okWide Tryz.prog W .any base t v := hval0
  have hW' := hW
  obtain ⟨p, q, hA0, hV, rfl, hfz, hnd⟩ := hW
  have hA : DataW.TrodAll enc Tryz.prog W 0 (fun _ => true) true Tryz.f5.params.toList args.toList ds p := hA0
  rw [Tryz.params5] at hA hval
  obtain ⟨v0, vs0, d0, ds0, p0, q0, hargs, rfl, rfl, k0, r0⟩ := trodAll_cons hA
  obtain ⟨v1, vs1, d1, ds1, p1, q1, rfl, rfl, rfl, k1, r1⟩ := trodAll_cons r0
  obtain ⟨rfl, rfl, rfl⟩ := trodAll_nil r1
  obtain rfl : args = #[v0, v1] := by cases args; simp_all
  obtain ⟨rfl, rfl⟩ := trodVars_none hV
  obtain ⟨a0, rfl, rfl, rfl, h0⟩ := open_int Tryz.underlying22 (hval 0 22 v0 rfl rfl) k0
  obtain ⟨a1, h1, rfl, rfl, rfl⟩ := open_bits (hval 1 25 v1 rfl rfl) k1
  clear hA0 hval0
  simp only [List.append_nil] at hW'
  refine (walk a0 a1 h0 h1 W hAll).mono fun e W' ⟨he, hg⟩ => ?_
  subst he
  exact ⟨_, rfl, post_plain hW' (fun _ _ _ => trodAll_mk1 (shut_bool Tryz.underlying4 _)) (fun sp => (trodAll_cons_mk (shut_int Tryz.underlying22 h0) (trodAll_cons_mk (shut_bits a1 h1) trodAll_mk0))) (fun _ => rfl) hg (ok_one (by kernel_rfl) rfl (okWide_bool_mk Tryz.underlying4 _))⟩

theorem over : Rows.KindBackSaid :=
  OpenClaim.holds_of_wide 5 Tryz.f5 rfl rfl rfl rfl rfl rfl rfl ⟨rfl, rfl, rfl, rfl, rfl⟩ rfl rfl rfl rfl rfl (by kernel_rfl) Tryz.func5 (by kernel_rfl)
    (of_decide_eq_true (by kernel_rfl)) (by unfold Func.isWrapper; first | (rw [if_pos (by decide +kernel)]; kernel_rfl) | (rw [if_neg (by decide +kernel)]; exact ⟨rfl, rfl⟩))
    (fun os started H enc _ => lifted os started H enc)

theorem proved : Rows.KindBackCardSaid :=
  Claim7.holds_tied_plain_at .later [] [.data, .data, .data, .sentinel, .sentinel, .data] true (true, "3a95303dbe32332eeb2ec9339e887f36374356c9f27641a682c1a91f2858f569") true
    over (fun _ h => by cases h) (by kernel_rfl) (fun _ h => by cases h) kindBack_row_tie rfl ⟨rfl, rfl⟩ (by kernel_rfl) rfl
    (fun f fn hf hfn => by
      obtain rfl : f = 5 := Option.some.inj ((show Tryz.prog.funcNamed "abacus/abacuslaw08.KindBack" = some 5 by kernel_rfl).symm.trans hf) |>.symm
      obtain rfl : fn = Tryz.f5 := (Option.some.inj (Tryz.func5.symm.trans hfn)).symm
      exact ⟨by kernel_rfl, fun j t ht => by
        rw [Tryz.params5] at ht
        have h3 : t = 22 ∨ t = 25 := by
          rcases j with _ | _ | j
          · exact (Or.inl (by simpa using ht.symm))
          · exact (Or.inr (by simpa using ht.symm))
          · simp at ht
        rcases h3 with rfl | rfl
        · exact (show Tryz.prog.wantsStandIn 22 = false by kernel_rfl)
        · exact (show Tryz.prog.wantsStandIn 25 = false by kernel_rfl)⟩)
    (by kernel_rfl)
#print axioms proved
end Go.Proofs.YtkmlbjlaahcahaaGreatDoor.kindBack
