/-
  KindTexts returns true for every format, whether it is one or not, all bits and every text (where all that is read is of bulk at most 1048576): the text of bits, and what a text says, are the document's.
-/
import Derived.Test.YtkblmpmkchkpjaaGreatDoorRows
import Derived.Test.YtkblmpmkchkpjaaGreatDoorTie
import Derived.Test.YtkblmpmkchkpjaaGreatDoorCards
import Derived.WalkKit
import Derived.ProofKit
import Derived.OpenShut
import Derived.LaidMore
import Derived.Stop.Joined
import Derived.Lib.LaidTab
import Derived.SevenTiedAt
import Derived.Deep.DeepHandedRow
import Derived.Deep.DeepWitnessRowRef
import Derived.Test.YtkblmpmkchkpjaaGreatDoorKt18
import Derived.ChangeMaps5
namespace Go.Proofs.YtkblmpmkchkpjaaGreatDoor.kindTexts
open WMath
open Go.ChangeShapes Go.WideShapes Go.ChangeAt Go.RowKit
open Go.ChangeMaps (open_string shut_string)
set_option linter.unusedVariables false

theorem own : ownKnob Tryz.prog.godebug = none := by kernel_rfl

set_option maxRecDepth 100000 in
set_option maxHeartbeats 4000000 in
theorem walk (a0 : Int) (a1 : Nat × Nat) (a2 : ByteArray) (h0 : (Lit.int .u8 a0).wf = true) (h1 : a1.1 < 18446744073709551616 ∧ a1.2 < 18446744073709551616) (h2 : a2.size ≤ maxLen) (hsz : a2.size ≤ 100000000) (w : World) (hT : TabAt w ∧ yF w ∧ P10 w ∧ z7 w) :
    Calls Tryz.prog 3 #[.int .u8 a0, xK a1, .string a2] w fun e w' => e = .returned (.bool true) ∧ Below w.heap.size w w' := by
  have TT := zK hT.1
  have FF := zK hT.2.1
  have PP := zK hT.2.2.1
  have AA := zK hT.2.2.2
  clear hT
  have b0 := bounds_u8 h0
  obtain ⟨x, y⟩ := a1
  obtain ⟨hx, hy⟩ := h1
  simp only at hx hy
  exact texts_all a0 b0.1 b0.2 x y hx hy a2 hsz w FF.out PP.out AA.out

theorem str_le {H : Type} {enc : TypeId × Value → H} {ds : List (DataW H)} (hk : Rows.uptoSmall H ds = true) : Rows.uptoBulkAll ds ≤ 1048576 := of_decide_eq_true hk
set_option maxRecDepth 100000 in
theorem reads (os : Os) {H : Type} (enc : TypeId × Value → H) : ∃ places, DataW.whole enc Tryz.prog ((World.doorLaid Tryz.prog 400 os).forCall (fun _ _ => 0) ⟨#[], #[.int .u8 0, .agg #[.int .u64 0, .int .u64 0], .string ⟨#[]⟩], []⟩).memory Tryz.f3.params.toList Rows.kindTextsSpec.vars false #[.int .u8 0, .agg #[.int .u64 0, .int .u64 0], .string ⟨#[]⟩].toList 8 = some ([.lit (.int .u8 0), .agg [.lit (.int .u64 0), .lit (.int .u64 0)], .lit (.string [])], [], places) :=
  ⟨[], by kernel_rfl⟩
set_option maxRecDepth 100000 in
theorem lifted (os : Os) (started : os.Started) (H : Type) (enc : TypeId × Value → H) (F : Stop.Interp) :
    ReturnsInHanded {} Tryz.checked os 3 .any ((Rows.OpenSpec.upto Rows.kindTextsSpec).preRow enc Tryz.prog Tryz.f3 Rows.kindTextsUptoRow.domain false Rows.kindTextsUptoRow.laid)
      (((Rows.OpenSpec.upto Rows.kindTextsSpec).at F).post enc Tryz.prog Tryz.f3 false true false false) := by
  obtain ⟨places, hx⟩ := reads os enc
  refine returnsInHanded_of_row (C := Tryz.checked) (s := Rows.OpenSpec.upto Rows.kindTextsSpec) own started (by kernel_rfl) Tryz.func3
    (witness_row_atRef (enc := enc) (C := Tryz.checked) false (World.doorLaid Tryz.prog 400 os) #[.int .u8 0, .agg #[.int .u64 0, .int .u64 0], .string ⟨#[]⟩] rfl (by kernel_rfl) (by kernel_rfl) (by kernel_rfl)
      (OpenSpec.preRow_of_cond 8 hx (by kernel_rfl) (fun k hk => by cases hk; kernel_rfl) (by kernel_rfl) (door_met9 os _))) ?_
  intro W base args ds gs before hval0 hW _ hcond _ hL hsh _
  have hAll : TabAt W ∧ yF W ∧ P10 W ∧ z7 W := by
    obtain ⟨k1, k2, k3, k4, k5⟩ := of_laid9 hL
    exact ⟨k1, k2, k3, k4, k5, maxlen_of hsh⟩
  have hk := str_le (enc := enc) (hcond _ rfl)
  clear hcond
  have hval : ∀ (j : Nat) t v, Tryz.f3.params[j]? = some t → args[j]? = some v → Value.okWide Tryz.prog W .any base t v := hval0
  have hW' := hW
  obtain ⟨p, q, hA0, hV, rfl, hfz, hnd⟩ := hW
  have hA : DataW.TrodAll enc Tryz.prog W 0 (fun _ => true) true Tryz.f3.params.toList args.toList ds p := hA0
  rw [Tryz.params3] at hA hval
  obtain ⟨v0, vs0, d0, ds0, p0, q0, hargs, rfl, rfl, k0, r0⟩ := trodAll_cons hA
  obtain ⟨v1, vs1, d1, ds1, p1, q1, rfl, rfl, rfl, k1, r1⟩ := trodAll_cons r0
  obtain ⟨v2, vs2, d2, ds2, p2, q2, rfl, rfl, rfl, k2, r2⟩ := trodAll_cons r1
  obtain ⟨rfl, rfl, rfl⟩ := trodAll_nil r2
  obtain rfl : args = #[v0, v1, v2] := by cases args; simp_all
  obtain ⟨rfl, rfl⟩ := trodVars_none hV
  obtain ⟨a0, rfl, rfl, rfl, h0⟩ := open_int Tryz.underlying22 (hval 0 22 v0 rfl rfl) k0
  obtain ⟨a1, h1, rfl, rfl, rfl⟩ := open_bits (hval 1 25 v1 rfl rfl) k1
  obtain ⟨a2, rfl, rfl, rfl, h2⟩ := open_string Tryz.underlying9 (hval 2 9 v2 rfl rfl) k2
  clear hA0 hval0
  simp only [List.append_nil] at hW'
  have hsz : a2.size ≤ 100000000 := by
    rw [List.append_nil] at hk
    simp only [Rows.uptoBulkAll, Rows.uptoBulk, Array.length_toList] at hk
    have e : a2.size = a2.data.size := rfl
    omega
  refine (walk a0 a1 a2 h0 h1 h2 hsz W hAll).mono fun e W' ⟨he, hg⟩ => ?_
  subst he
  exact ⟨_, rfl, post_plain hW' (fun _ _ _ => trodAll_mk1 (shut_bool Tryz.underlying4 _)) (fun sp => (trodAll_cons_mk (shut_int Tryz.underlying22 h0) (trodAll_cons_mk (shut_bits a1 h1) (trodAll_cons_mk (shut_string Tryz.underlying9 h2) trodAll_mk0)))) (fun _ => rfl) hg (ok_one (by kernel_rfl) rfl (okWide_bool_mk Tryz.underlying4 _))⟩

theorem over : Rows.KindTextsUptoSaid :=
  OpenClaim.holds_of_cond 3 Tryz.f3 rfl rfl rfl rfl rfl rfl rfl ⟨rfl, rfl, rfl, rfl, rfl⟩ rfl rfl rfl rfl rfl (by kernel_rfl) Tryz.func3 (by kernel_rfl)
    (of_decide_eq_true (by kernel_rfl)) (by unfold Func.isWrapper; first | (rw [if_pos (by decide +kernel)]; kernel_rfl) | (rw [if_neg (by decide +kernel)]; exact ⟨rfl, rfl⟩))
    (fun os started H enc _ F => by rw [OpenClaim.pre_eq_preRow]; exact lifted os started H enc F)

theorem proved : Rows.KindTextsUptoCardSaid :=
  Claim7.holds_tied_plain_at .later [] [.data, .data, .data, .sentinel, .sentinel, .data] true (true, "5189812f02db237da51da53b8cdef67772b1398a8830c5b22434590af2d81e8a") true
    over (fun _ h => by cases h) (by kernel_rfl) (fun _ h => by cases h) kindTextsUpto_row_tie rfl ⟨rfl, rfl⟩ (by kernel_rfl) rfl
    (fun f fn hf hfn => by
      obtain rfl : f = 3 := Option.some.inj ((show Tryz.prog.funcNamed "abacus/abacuslaw08.KindTexts" = some 3 by kernel_rfl).symm.trans hf) |>.symm
      obtain rfl : fn = Tryz.f3 := (Option.some.inj (Tryz.func3.symm.trans hfn)).symm
      exact ⟨by kernel_rfl, fun j t ht => by
        rw [Tryz.params3] at ht
        have h3 : t = 22 ∨ t = 25 ∨ t = 9 := by
          rcases j with _ | _ | _ | j
          · exact (Or.inl (by simpa using ht.symm))
          · exact (Or.inr (Or.inl (by simpa using ht.symm)))
          · exact (Or.inr (Or.inr (by simpa using ht.symm)))
          · simp at ht
        rcases h3 with rfl | rfl | rfl
        · exact (show Tryz.prog.wantsStandIn 22 = false by kernel_rfl)
        · exact (show Tryz.prog.wantsStandIn 25 = false by kernel_rfl)
        · exact (show Tryz.prog.wantsStandIn 9 = false by kernel_rfl)⟩)
    (by kernel_rfl)
#print axioms proved
end Go.Proofs.YtkblmpmkchkpjaaGreatDoor.kindTexts
