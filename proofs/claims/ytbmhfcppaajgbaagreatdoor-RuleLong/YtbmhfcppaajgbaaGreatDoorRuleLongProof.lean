/-
  RuleLong returns true for every format and every mode, whether they are one or not: numbers of the greatest length that is rounded, and of one byte more, and their roots, are delivered as the document says.
-/
import Derived.Test.YtbmhfcppaajgbaaGreatDoorRows
import Derived.Test.YtbmhfcppaajgbaaGreatDoorTie
import Derived.Test.YtbmhfcppaajgbaaGreatDoorCards
import Derived.WalkKit
import Derived.ProofKit
import Derived.OpenShut
import Derived.LaidMore
import Derived.Stop.Joined
import Derived.Lib.LaidTab
import Derived.SevenTiedAt
import Derived.Test.YtbmhfcppaajgbaaGreatDoorRd22
namespace Go.Proofs.YtbmhfcppaajgbaaGreatDoor.ruleLong
open WMath
open Go.ChangeShapes Go.WideShapes Go.ChangeAt Go.RowKit
open XMath
set_option linter.unusedVariables false

theorem own : ownKnob Tryz.prog.godebug = none := by kernel_rfl

set_option maxRecDepth 100000 in
set_option maxHeartbeats 4000000 in
theorem walk (a0 : Int) (a1 : Int) (a2 : Bool) (a3 : Bool) (h0 : (Lit.int .u8 a0).wf = true) (h1 : (Lit.int .u8 a1).wf = true)   (w : World) (hT : TabAt w ∧ FAt w) :
    Calls Tryz.prog 7 #[.int .u8 a0, .int .u8 a1, .bool a2, .bool a3] w fun e w' => e = .returned (.bool true) ∧ Below w.heap.size w w' := by
  have TT := box hT.1
  have FF := box hT.2
  clear hT
  have b0 := bounds_u8 h0
  have b1 := bounds_u8 h1
  have KA := box r9alive
  cases a2
  · cases a3
    · obtain ⟨L, hL⟩ : ∃ L : Nat, L = 8192 := ⟨_, rfl⟩
      obtain ⟨K, hK⟩ : ∃ K : Nat, K = 8191 := ⟨_, rfl⟩
      obtain ⟨v, v1, v2⟩ := bytes_any L (set8 (set8 0 0 1) K 1)
      obtain ⟨u, v', fl, c, KR, KQ, wc⟩ := both_round a0 a1 b0.1 b0.2 b1.1 false v ⟨#[1]⟩ 0
      exact r9long_f_f a0 a1 L K (set8 0 0 1) _ v u v' fl c w (by omega) (by omega) (by omega) (by omega) (c8_seti L 0 0 1 1 (by omega) (by decide) rfl) (c8_seti L _ K 1 1 (by omega) (by decide) rfl) v1 (box v2) KR KQ KA wc FF.out TT.out
    · obtain ⟨L, hL⟩ : ∃ L : Nat, L = 8192 := ⟨_, rfl⟩
      obtain ⟨K, hK⟩ : ∃ K : Nat, K = 8191 := ⟨_, rfl⟩
      obtain ⟨v, v1, v2⟩ := bytes_any L (set8 (set8 0 0 1) K 1)
      obtain ⟨u, v', fl, c, KR, KQ, wc⟩ := both_root a0 a1 b0.1 b0.2 b1.1 false v ⟨#[1]⟩ 0
      exact r9long_f_t a0 a1 L K (set8 0 0 1) _ v u v' fl c w (by omega) (by omega) (by omega) (by omega) (c8_seti L 0 0 1 1 (by omega) (by decide) rfl) (c8_seti L _ K 1 1 (by omega) (by decide) rfl) v1 (box v2) KR KQ KA wc FF.out TT.out
  · cases a3
    · obtain ⟨L, hL⟩ : ∃ L : Nat, L = 8193 := ⟨_, rfl⟩
      obtain ⟨K, hK⟩ : ∃ K : Nat, K = 8192 := ⟨_, rfl⟩
      obtain ⟨P, hP⟩ : ∃ P : Nat, P = 8192 := ⟨_, rfl⟩
      obtain ⟨v, v1, v2⟩ := bytes_any L (set8 (set8 0 0 1) K 1)
      obtain ⟨u, v', fl, c, KR, KQ, wc⟩ := both_round a0 a1 b0.1 b0.2 b1.1 false v ⟨#[1]⟩ 0
      exact r9long_t_f a0 a1 P L K (set8 0 0 1) _ v u v' fl c w (by omega) (by omega) (by omega) (by omega) (by omega) (c8_seti L 0 0 1 1 (by omega) (by decide) rfl) (c8_seti L _ K 1 1 (by omega) (by decide) rfl) v1 (box v2) KR KQ KA wc FF.out TT.out
    · obtain ⟨L, hL⟩ : ∃ L : Nat, L = 8193 := ⟨_, rfl⟩
      obtain ⟨K, hK⟩ : ∃ K : Nat, K = 8192 := ⟨_, rfl⟩
      obtain ⟨P, hP⟩ : ∃ P : Nat, P = 8192 := ⟨_, rfl⟩
      obtain ⟨v, v1, v2⟩ := bytes_any L (set8 (set8 0 0 1) K 1)
      obtain ⟨u, v', fl, c, KR, KQ, wc⟩ := both_root a0 a1 b0.1 b0.2 b1.1 false v ⟨#[1]⟩ 0
      exact r9long_t_t a0 a1 P L K (set8 0 0 1) _ v u v' fl c w (by omega) (by omega) (by omega) (by omega) (by omega) (c8_seti L 0 0 1 1 (by omega) (by decide) rfl) (c8_seti L _ K 1 1 (by omega) (by decide) rfl) v1 (box v2) KR KQ KA wc FF.out TT.out

set_option maxRecDepth 100000 in
theorem lifted (os : Os) (started : os.Started) (H : Type) (enc : TypeId × Value → H) :
    ReturnsInHanded {} Tryz.checked os 7 .any (fun w args => (Rows.ruleLongSpec.pre enc Tryz.prog Tryz.f7 [] false w args ∧ laidMetH Tryz.prog laid8 w) ∧ sizedMet enc Tryz.prog Tryz.f7 (OpenSpec.ofChange Rows.ruleLongSpec) false w args)
      (Rows.ruleLongSpec.post enc Tryz.prog Tryz.f7 false true false false) := by
  refine returnsInHanded_of_change_and (C := Tryz.checked) (X := fun w _ => laidMetH Tryz.prog laid8 w) (fun _ _ _ hh h => h.of_heap hh) own started (by kernel_rfl) Tryz.func7
    (ChangeSpec.witness_shaped (enc := enc) (C := Tryz.checked) (os := os) (X := fun w _ => laidMetH Tryz.prog laid8 w) false (World.doorLaid Tryz.prog 400 os) #[.int .u8 0, .int .u8 0, .bool false, .bool false] 8 rfl (World.shaped_of_RefB (by kernel_rfl) (by kernel_rfl)) (by kernel_rfl) (by kernel_rfl) (by kernel_rfl) (door_met8 os _)) ?_
  intro W base args ds gs before hval0 hW _ _ hL _
  have hval : ∀ (j : Nat) t v, Tryz.f7.params[j]? = some t → args[j]? = some v → Value.okWide Tryz.prog W .any base t v := hval0
  have hW' := hW
  obtain ⟨p, q, hA0, hV, rfl, hfz, hnd⟩ := hW
  have hA : DataW.TrodAll enc Tryz.prog W 0 (fun _ => true) true Tryz.f7.params.toList args.toList ds p := hA0
  rw [Tryz.params7] at hA hval
  obtain ⟨v0, vs0, d0, ds0, p0, q0, hargs, rfl, rfl, k0, r0⟩ := trodAll_cons hA
  obtain ⟨v1, vs1, d1, ds1, p1, q1, rfl, rfl, rfl, k1, r1⟩ := trodAll_cons r0
  obtain ⟨v2, vs2, d2, ds2, p2, q2, rfl, rfl, rfl, k2, r2⟩ := trodAll_cons r1
  obtain ⟨v3, vs3, d3, ds3, p3, q3, rfl, rfl, rfl, k3, r3⟩ := trodAll_cons r2
  obtain ⟨rfl, rfl, rfl⟩ := trodAll_nil r3
  obtain rfl : args = #[v0, v1, v2, v3] := by cases args; simp_all
  obtain ⟨rfl, rfl⟩ := trodVars_none hV
  obtain ⟨a0, rfl, rfl, rfl, h0⟩ := open_int Tryz.underlying22 (hval 0 22 v0 rfl rfl) k0
  obtain ⟨a1, rfl, rfl, rfl, h1⟩ := open_int Tryz.underlying38 (hval 1 38 v1 rfl rfl) k1
  obtain ⟨a2, rfl, rfl, rfl⟩ := open_bool Tryz.underlying4 (hval 2 4 v2 rfl rfl) k2
  obtain ⟨a3, rfl, rfl, rfl⟩ := open_bool Tryz.underlying4 (hval 3 4 v3 rfl rfl) k3
  clear hA0 hval0
  simp only [List.append_nil] at hW'
  refine (walk a0 a1 a2 a3 h0 h1 W (of_laid8 hL)).mono fun e W' ⟨he, hg⟩ => ?_
  subst he
  exact ⟨_, rfl, post_plain hW' (fun _ _ _ => trodAll_mk1 (shut_bool Tryz.underlying4 _)) (fun sp => (trodAll_cons_mk (shut_int Tryz.underlying22 h0) (trodAll_cons_mk (shut_int Tryz.underlying38 h1) (trodAll_cons_mk (shut_bool Tryz.underlying4 _) (trodAll_cons_mk (shut_bool Tryz.underlying4 _) trodAll_mk0))))) (fun _ => rfl) hg (ok_one (by kernel_rfl) rfl (okWide_bool_mk Tryz.underlying4 _))⟩

theorem and2 {a b : Bool} (h : a = true) (k : b = true) : (a && b) = true := by rw [h, k]; rfl
set_option maxRecDepth 100000 in
set_option maxHeartbeats 4000000 in
theorem closed : joinedFacts Tryz.prog 7 Tryz.f7 Rows.ruleLongSpec Rows.ruleLongRow = true := by
  unfold joinedFacts
  refine (and2 (and2 (and2 (and2 (and2 (and2 (and2 (and2 (and2 (and2 (and2 (and2 (and2 (and2 (and2 (and2 (and2 (and2 (and2 (and2 (and2 (and2 (and2 (and2 (and2 (and2 (and2 (and2 (and2 (and2 (and2 ?_ ?_) ?_) ?_) ?_) ?_) ?_) ?_) ?_) ?_) ?_) ?_) ?_) ?_) ?_) ?_) ?_) ?_) ?_) ?_) ?_) ?_) ?_) ?_) ?_) ?_) ?_) ?_) ?_) ?_) ?_) ?_)
  all_goals as_aux_lemma => kernel_rfl
theorem over : Rows.RuleLongSaid :=
  OpenClaim.holds_of_wide 7 Tryz.f7 rfl rfl rfl rfl rfl rfl rfl ⟨rfl, rfl, rfl, rfl, rfl⟩ rfl rfl rfl rfl rfl (by as_aux_lemma => kernel_rfl) Tryz.func7 closed
    (of_decide_eq_true (by kernel_rfl)) (by unfold Func.isWrapper; first | (rw [if_pos (by decide +kernel)]; kernel_rfl) | (rw [if_neg (by decide +kernel)]; exact ⟨rfl, rfl⟩))
    (fun os started H enc _ => lifted os started H enc)

theorem proved : Rows.RuleLongCardSaid :=
  Claim7.holds_tied_plain_at .later [] [.data, .data] true (true, "387c46458c9a13d0f5426ed38dfc7024a1e0aa1080434e1f46fed2979f269049") true
    over (fun _ h => by cases h) (by as_aux_lemma => kernel_rfl) (fun _ h => by cases h) ruleLong_row_tie rfl ⟨rfl, rfl⟩ (by as_aux_lemma => kernel_rfl) rfl
    (fun f fn hf hfn => by
      obtain rfl : f = 7 := Option.some.inj ((show Tryz.prog.funcNamed "abacus/abacuslaw09.RuleLong" = some 7 by as_aux_lemma => kernel_rfl).symm.trans hf) |>.symm
      obtain rfl : fn = Tryz.f7 := (Option.some.inj (Tryz.func7.symm.trans hfn)).symm
      exact ⟨by as_aux_lemma => kernel_rfl, fun j t ht => by
        rw [Tryz.params7] at ht
        have h3 : t = 22 ∨ t = 38 ∨ t = 4 := by
          rcases j with _ | _ | _ | _ | j
          · exact (Or.inl (by simpa using ht.symm))
          · exact (Or.inr (Or.inl (by simpa using ht.symm)))
          · exact (Or.inr (Or.inr (by simpa using ht.symm)))
          · exact (Or.inr (Or.inr (by simpa using ht.symm)))
          · simp at ht
        rcases h3 with rfl | rfl | rfl
        · exact (show Tryz.prog.wantsStandIn 22 = false by kernel_rfl)
        · exact (show Tryz.prog.wantsStandIn 38 = false by kernel_rfl)
        · exact (show Tryz.prog.wantsStandIn 4 = false by kernel_rfl)⟩)
    (by as_aux_lemma => kernel_rfl)
#print axioms proved
end Go.Proofs.YtbmhfcppaajgbaaGreatDoor.ruleLong
