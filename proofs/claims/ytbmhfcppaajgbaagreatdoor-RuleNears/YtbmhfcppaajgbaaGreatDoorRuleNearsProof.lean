/-
  RuleNears returns true for every format and every mode, whether they are one or not, and every exact number, whether it may be or not: its neighbours, and whether it is tiny, are the document's.
-/
import Derived.Test.YtbmhfcppaajgbaaGreatDoorRows
import Derived.Test.YtbmhfcppaajgbaaGreatDoorTie
import Derived.Test.YtbmhfcppaajgbaaGreatDoorCards
import Derived.WalkKit
import Derived.ProofKit
import Derived.OpenShut
import Derived.LaidMore
import Derived.Stop.Joined
import Derived.Lib.LaidTab
import Derived.SevenTiedAt
import Derived.Test.YtbmhfcppaajgbaaGreatDoorRf24
namespace Go.Proofs.YtbmhfcppaajgbaaGreatDoor.ruleNears
open WMath
open Go.ChangeShapes Go.WideShapes Go.ChangeAt Go.RowKit
open XMath
set_option linter.unusedVariables false

theorem own : ownKnob Tryz.prog.godebug = none := by kernel_rfl

set_option maxRecDepth 100000 in
set_option maxHeartbeats 4000000 in
theorem walk (a0 : Int) (a1 : Int) (vb2 : Bool) (vs2 vt2 : ByteArray) (ve2 : Int) (h0 : (Lit.int .u8 a0).wf = true) (h1 : (Lit.int .u8 a1).wf = true) (h2 : vs2.size ≤ maxLen ∧ vt2.size ≤ maxLen ∧ (Lit.int .i64 ve2).wf = true) (w : World) (hT : TabAt w ∧ FAt w) :
    Calls Tryz.prog 6 #[.int .u8 a0, .int .u8 a1, .agg #[.bool vb2, .string vs2, .string vt2, .int .i64 ve2]] w fun e w' => e = .returned (.bool true) ∧ Below w.heap.size w w' := by
  have TT := box hT.1
  have FF := box hT.2
  clear hT
  have b0 := bounds_u8 h0
  have b1 := bounds_u8 h1
  have KA := box r9alive
  obtain ⟨o1, ho1⟩ : ∃ o, (decide (vs2.size ≤ 60) && decide (vt2.size ≤ 60)) = o := ⟨_, rfl⟩
  have KS := box (fun w => r9short vb2 vs2 vt2 ve2 o1 ho1 w)
  cases o1
  case false => exact nr_s a0 a1 vb2 vs2 vt2 ve2 false 0 0 0 0 0 w KS KA FF.out TT.out
  have s60 : vs2.size ≤ 60 ∧ vt2.size ≤ 60 := by simpa using ho1
  obtain ⟨o, c, K1, K2, wc⟩ := both_tiny0 a0 a1 b0.1 b0.2 b1.1 vb2 vs2 vt2 ve2
  obtain ⟨may, hmay⟩ := may_any vb2 vs2 vt2 ve2
  obtain ⟨N1, N2⟩ := both_near a0 b0.1 b0.2 vb2 vs2 vt2 ve2 ⟨by omega, by omega⟩ may hmay
  have KM := box (fun w => xmayM vb2 vs2 vt2 ve2 may hmay w)
  by_cases c1 : a0 ≤ 3
  case neg => exact nr_f a0 a1 vb2 vs2 vt2 ve2 o c 0 0 0 0 w KS K1 K2 wc (N1 (fun h => c1 h.1)) (box (fun w => bel_same (r_right a0 _ (decide_eq_false c1) w))) KA FF.out TT.out
  have KR := box (fun w => bel_same (r_right a0 _ (decide_eq_true c1) w))
  cases may
  · exact nr_m a0 a1 vb2 vs2 vt2 ve2 o c 0 0 0 0 w KS K1 K2 wc (N1 (fun h => Bool.noConfusion h.2)) KR KM KA FF.out TT.out
  · obtain ⟨i1, j1, i2, j2, KN, KQ⟩ := N2 c1 rfl
    exact nr_y a0 a1 vb2 vs2 vt2 ve2 o c i1 j1 i2 j2 w KS K1 K2 wc KN KQ KR KM KA FF.out TT.out

set_option maxRecDepth 100000 in
theorem lifted (os : Os) (started : os.Started) (H : Type) (enc : TypeId × Value → H) :
    ReturnsInHanded {} Tryz.checked os 6 .any (fun w args => (Rows.ruleNearsSpec.pre enc Tryz.prog Tryz.f6 [] false w args ∧ laidMetH Tryz.prog laid8 w) ∧ sizedMet enc Tryz.prog Tryz.f6 (OpenSpec.ofChange Rows.ruleNearsSpec) false w args)
      (Rows.ruleNearsSpec.post enc Tryz.prog Tryz.f6 false true false false) := by
  refine returnsInHanded_of_change_and (C := Tryz.checked) (X := fun w _ => laidMetH Tryz.prog laid8 w) (fun _ _ _ hh h => h.of_heap hh) own started (by kernel_rfl) Tryz.func6
    (ChangeSpec.witness_shaped (enc := enc) (C := Tryz.checked) (os := os) (X := fun w _ => laidMetH Tryz.prog laid8 w) false (World.doorLaid Tryz.prog 400 os) #[.int .u8 0, .int .u8 0, .agg #[.bool false, .string ⟨#[]⟩, .string ⟨#[]⟩, .int .i64 0]] 8 rfl (World.shaped_of_RefB (by kernel_rfl) (by kernel_rfl)) (by kernel_rfl) (by kernel_rfl) (by kernel_rfl) (door_met8 os _)) ?_
  intro W base args ds gs before hval0 hW _ _ hL _
  have hval : ∀ (j : Nat) t v, Tryz.f6.params[j]? = some t → args[j]? = some v → Value.okWide Tryz.prog W .any base t v := hval0
  have hW' := hW
  obtain ⟨p, q, hA0, hV, rfl, hfz, hnd⟩ := hW
  have hA : DataW.TrodAll enc Tryz.prog W 0 (fun _ => true) true Tryz.f6.params.toList args.toList ds p := hA0
  rw [Tryz.params6] at hA hval
  obtain ⟨v0, vs0, d0, ds0, p0, q0, hargs, rfl, rfl, k0, r0⟩ := trodAll_cons hA
  obtain ⟨v1, vs1, d1, ds1, p1, q1, rfl, rfl, rfl, k1, r1⟩ := trodAll_cons r0
  obtain ⟨v2, vs2, d2, ds2, p2, q2, rfl, rfl, rfl, k2, r2⟩ := trodAll_cons r1
  obtain ⟨rfl, rfl, rfl⟩ := trodAll_nil r2
  obtain rfl : args = #[v0, v1, v2] := by cases args; simp_all
  obtain ⟨rfl, rfl⟩ := trodVars_none hV
  obtain ⟨a0, rfl, rfl, rfl, h0⟩ := open_int Tryz.underlying22 (hval 0 22 v0 rfl rfl) k0
  obtain ⟨a1, rfl, rfl, rfl, h1⟩ := open_int Tryz.underlying38 (hval 1 38 v1 rfl rfl) k1
  obtain ⟨vb2, vs2, vt2, ve2, rfl, rfl, rfl, h2⟩ := open_exact (hval 2 41 v2 rfl rfl) k2
  clear hA0 hval0
  simp only [List.append_nil] at hW'
  refine (walk a0 a1 vb2 vs2 vt2 ve2 h0 h1 h2 W (of_laid8 hL)).mono fun e W' ⟨he, hg⟩ => ?_
  subst he
  exact ⟨_, rfl, post_plain hW' (fun _ _ _ => trodAll_mk1 (shut_bool Tryz.underlying4 _)) (fun sp => (trodAll_cons_mk (shut_int Tryz.underlying22 h0) (trodAll_cons_mk (shut_int Tryz.underlying38 h1) (trodAll_cons_mk (shut_exact h2) trodAll_mk0)))) (fun _ => rfl) hg (ok_one (by kernel_rfl) rfl (okWide_bool_mk Tryz.underlying4 _))⟩

theorem and2 {a b : Bool} (h : a = true) (k : b = true) : (a && b) = true := by rw [h, k]; rfl
set_option maxRecDepth 100000 in
set_option maxHeartbeats 4000000 in
theorem closed : joinedFacts Tryz.prog 6 Tryz.f6 Rows.ruleNearsSpec Rows.ruleNearsRow = true := by
  unfold joinedFacts
  refine (and2 (and2 (and2 (and2 (and2 (and2 (and2 (and2 (and2 (and2 (and2 (and2 (and2 (and2 (and2 (and2 (and2 (and2 (and2 (and2 (and2 (and2 (and2 (and2 (and2 (and2 (and2 (and2 (and2 (and2 (and2 ?_ ?_) ?_) ?_) ?_) ?_) ?_) ?_) ?_) ?_) ?_) ?_) ?_) ?_) ?_) ?_) ?_) ?_) ?_) ?_) ?_) ?_) ?_) ?_) ?_) ?_) ?_) ?_) ?_) ?_) ?_) ?_)
  all_goals as_aux_lemma => kernel_rfl
theorem over : Rows.RuleNearsSaid :=
  OpenClaim.holds_of_wide 6 Tryz.f6 rfl rfl rfl rfl rfl rfl rfl ⟨rfl, rfl, rfl, rfl, rfl⟩ rfl rfl rfl rfl rfl (by as_aux_lemma => kernel_rfl) Tryz.func6 closed
    (of_decide_eq_true (by kernel_rfl)) (by unfold Func.isWrapper; first | (rw [if_pos (by decide +kernel)]; kernel_rfl) | (rw [if_neg (by decide +kernel)]; exact ⟨rfl, rfl⟩))
    (fun os started H enc _ => lifted os started H enc)

theorem proved : Rows.RuleNearsCardSaid :=
  Claim7.holds_tied_plain_at .later [] [.data, .data] true (true, "387c46458c9a13d0f5426ed38dfc7024a1e0aa1080434e1f46fed2979f269049") true
    over (fun _ h => by cases h) (by as_aux_lemma => kernel_rfl) (fun _ h => by cases h) ruleNears_row_tie rfl ⟨rfl, rfl⟩ (by as_aux_lemma => kernel_rfl) rfl
    (fun f fn hf hfn => by
      obtain rfl : f = 6 := Option.some.inj ((show Tryz.prog.funcNamed "abacus/abacuslaw09.RuleNears" = some 6 by as_aux_lemma => kernel_rfl).symm.trans hf) |>.symm
      obtain rfl : fn = Tryz.f6 := (Option.some.inj (Tryz.func6.symm.trans hfn)).symm
      exact ⟨by as_aux_lemma => kernel_rfl, fun j t ht => by
        rw [Tryz.params6] at ht
        have h3 : t = 22 ∨ t = 38 ∨ t = 41 := by
          rcases j with _ | _ | _ | j
          · exact (Or.inl (by simpa using ht.symm))
          · exact (Or.inr (Or.inl (by simpa using ht.symm)))
          · exact (Or.inr (Or.inr (by simpa using ht.symm)))
          · simp at ht
        rcases h3 with rfl | rfl | rfl
        · exact (show Tryz.prog.wantsStandIn 22 = false by kernel_rfl)
        · exact (show Tryz.prog.wantsStandIn 38 = false by kernel_rfl)
        · exact (show Tryz.prog.wantsStandIn 41 = false by kernel_rfl)⟩)
    (by as_aux_lemma => kernel_rfl)
#print axioms proved
end Go.Proofs.YtbmhfcppaajgbaaGreatDoor.ruleNears
