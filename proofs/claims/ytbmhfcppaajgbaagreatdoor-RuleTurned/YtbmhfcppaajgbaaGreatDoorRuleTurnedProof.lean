/-
  RuleTurned returns true for every format and every mode, whether they are one or not, and every exact number, whether it may be or not: with the other sign, by the mode that is turned, the other sign's is delivered, with the same flags.
-/
import Derived.Test.YtbmhfcppaajgbaaGreatDoorRows
import Derived.Test.YtbmhfcppaajgbaaGreatDoorTie
import Derived.Test.YtbmhfcppaajgbaaGreatDoorCards
import Derived.WalkKit
import Derived.ProofKit
import Derived.OpenShut
import Derived.LaidMore
import Derived.Stop.Joined
import Derived.Lib.LaidTab
import Derived.SevenTiedAt
import Derived.Test.YtbmhfcppaajgbaaGreatDoorRc15
namespace Go.Proofs.YtbmhfcppaajgbaaGreatDoor.ruleTurned
open WMath
open Go.ChangeShapes Go.WideShapes Go.ChangeAt Go.RowKit
open XMath
set_option linter.unusedVariables false

theorem own : ownKnob Tryz.prog.godebug = none := by kernel_rfl

set_option maxRecDepth 100000 in
set_option maxHeartbeats 4000000 in
theorem walk (a0 : Int) (a1 : Int) (vb2 : Bool) (vs2 vt2 : ByteArray) (ve2 : Int) (h0 : (Lit.int .u8 a0).wf = true) (h1 : (Lit.int .u8 a1).wf = true) (h2 : vs2.size ≤ maxLen ∧ vt2.size ≤ maxLen ∧ (Lit.int .i64 ve2).wf = true) (w : World) (hT : TabAt w ∧ FAt w) :
    Calls Tryz.prog 9 #[.int .u8 a0, .int .u8 a1, .agg #[.bool vb2, .string vs2, .string vt2, .int .i64 ve2]] w fun e w' => e = .returned (.bool true) ∧ Below w.heap.size w w' := by
  have TT := box hT.1
  have FF := box hT.2
  clear hT
  have b0 := bounds_u8 h0
  have b1 := bounds_u8 h1
  have KA := box r9alive
  obtain ⟨o1, ho1⟩ : ∃ o, (decide (vs2.size ≤ 60) && decide (vt2.size ≤ 60)) = o := ⟨_, rfl⟩
  have KS := box (fun w => r9short vb2 vs2 vt2 ve2 o1 ho1 w)
  obtain ⟨o2, ho2⟩ := may_any vb2 vs2 vt2 ve2
  have KM := box (fun w => xmayM vb2 vs2 vt2 ve2 o2 ho2 w)
  have KF := box (fun w => bel_same (r_right a0 _ rfl w))
  have KO := box (fun w => bel_same (r_mode a1 _ rfl w))
  cases o1
  case false => exact turn_s a0 a1 vb2 vs2 vt2 ve2 w KS KA FF.out TT.out
  cases o2
  case false => exact turn_m a0 a1 vb2 vs2 vt2 ve2 w KS KM KA FF.out TT.out
  by_cases c1 : a0 ≤ 3
  case neg => exact turn_f a0 a1 vb2 vs2 vt2 ve2 _ w KS KM KF (decide_eq_false c1) KA FF.out TT.out
  by_cases c2 : a1 ≤ 4
  case neg => exact turn_o a0 a1 vb2 vs2 vt2 ve2 _ _ w KS KM KF KO (decide_eq_true c1) (decide_eq_false c2) KA FF.out TT.out
  obtain ⟨n, d, hs, ht, hc⟩ := may_part ho2 rfl
  have sz : vs2.size = nl n := by rw [← hs, nbA_size]
  have tz : vt2.size = nl d := by rw [← ht, nbA_size]
  have s60 : vs2.size ≤ 60 ∧ vt2.size ≤ 60 := by simpa using ho1
  have hf := is4_of b0.1 c1
  have KG := box (fun w hT => Signx_ok vb2 n d ve2 vs2 vt2 _ hs ht hc rfl w hT)
  by_cases n0 : n = 0
  · exact turn_z a0 a1 vb2 vs2 vt2 ve2 _ _ _ w KS KM KF KO KG (decide_eq_true c1) (decide_eq_true c2) (by rw [beq_iff_eq]; unfold sg; rw [if_pos n0]) KA FF.out TT.out
  · obtain ⟨M, fl, r1, r2, r3, r4⟩ := rnd_turn hf a1 vb2 n d ve2 hc n0 (by omega)
    obtain ⟨i1, i2, i3⟩ := bv_lt r4 (show bv7 M = (_, _) from rfl)
    have hneg : (negX (XN.mk vb2 n d ve2)).b = !vb2 := by unfold negX; rw [if_neg n0]
    have hc2 : (XN.mk (!vb2) n d ve2).can := by
      have := (neg_good (XN.mk vb2 n d ve2) hc).1
      unfold negX at this
      rw [if_neg n0] at this
      exact this
    have hm4 : 0 ≤ tmo a1 ∧ tmo a1 ≤ 4 := by unfold tmo; split <;> (try split) <;> omega
    have K1 := box (fun w hT hT2 => kRound_is a0 a1 hf ⟨b1.1, c2⟩ vb2 n d vs2 vt2 ve2 hs ht hc (by omega) (by omega) M fl r1 _ _ rfl w hT hT2)
    have K2 := box (fun w hT => Negx_ok vb2 n d ve2 vs2 vt2 (!vb2) hs ht hc hneg w hT)
    have K3 := box (fun w hT hT2 => kRound_is a0 (tmo a1) hf hm4 (!vb2) n d vs2 vt2 ve2 hs ht hc2 (by omega) (by omega) _ fl r2 _ _ rfl w hT hT2)
    have K4 := box (fun w hT => kFlip_yes a0 hf _ _ M _ _ i1 i2 i3 r3 rfl w hT)
    have hg : (sg (XN.mk vb2 n d ve2) == 0) = false := by
      rw [beq_eq_false_iff_ne]
      unfold sg
      rw [if_neg n0]
      cases vb2
      · show (if false = true then (-1 : Int) else 1) ≠ 0
        decide
      · show (if true = true then (-1 : Int) else 1) ≠ 0
        decide
    exact turn_y a0 a1 ⟨b1.1, c2⟩ vb2 vs2 vt2 ve2 _ _ _ _ _ _ _ _ w KS KM KF KO KG (decide_eq_true c1) (decide_eq_true c2) hg K1 K2 K3 K4 KA FF.out TT.out

set_option maxRecDepth 100000 in
theorem lifted (os : Os) (started : os.Started) (H : Type) (enc : TypeId × Value → H) :
    ReturnsInHanded {} Tryz.checked os 9 .any (fun w args => (Rows.ruleTurnedSpec.pre enc Tryz.prog Tryz.f9 [] false w args ∧ laidMetH Tryz.prog laid8 w) ∧ sizedMet enc Tryz.prog Tryz.f9 (OpenSpec.ofChange Rows.ruleTurnedSpec) false w args)
      (Rows.ruleTurnedSpec.post enc Tryz.prog Tryz.f9 false true false false) := by
  refine returnsInHanded_of_change_and (C := Tryz.checked) (X := fun w _ => laidMetH Tryz.prog laid8 w) (fun _ _ _ hh h => h.of_heap hh) own started (by kernel_rfl) Tryz.func9
    (ChangeSpec.witness_shaped (enc := enc) (C := Tryz.checked) (os := os) (X := fun w _ => laidMetH Tryz.prog laid8 w) false (World.doorLaid Tryz.prog 400 os) #[.int .u8 0, .int .u8 0, .agg #[.bool false, .string ⟨#[]⟩, .string ⟨#[]⟩, .int .i64 0]] 8 rfl (World.shaped_of_RefB (by kernel_rfl) (by kernel_rfl)) (by kernel_rfl) (by kernel_rfl) (by kernel_rfl) (door_met8 os _)) ?_
  intro W base args ds gs before hval0 hW _ _ hL _
  have hval : ∀ (j : Nat) t v, Tryz.f9.params[j]? = some t → args[j]? = some v → Value.okWide Tryz.prog W .any base t v := hval0
  have hW' := hW
  obtain ⟨p, q, hA0, hV, rfl, hfz, hnd⟩ := hW
  have hA : DataW.TrodAll enc Tryz.prog W 0 (fun _ => true) true Tryz.f9.params.toList args.toList ds p := hA0
  rw [Tryz.params9] at hA hval
  obtain ⟨v0, vs0, d0, ds0, p0, q0, hargs, rfl, rfl, k0, r0⟩ := trodAll_cons hA
  obtain ⟨v1, vs1, d1, ds1, p1, q1, rfl, rfl, rfl, k1, r1⟩ := trodAll_cons r0
  obtain ⟨v2, vs2, d2, ds2, p2, q2, rfl, rfl, rfl, k2, r2⟩ := trodAll_cons r1
  obtain ⟨rfl, rfl, rfl⟩ := trodAll_nil r2
  obtain rfl : args = #[v0, v1, v2] := by cases args; simp_all
  obtain ⟨rfl, rfl⟩ := trodVars_none hV
  obtain ⟨a0, rfl, rfl, rfl, h0⟩ := open_int Tryz.underlying22 (hval 0 22 v0 rfl rfl) k0
  obtain ⟨a1, rfl, rfl, rfl, h1⟩ := open_int Tryz.underlying38 (hval 1 38 v1 rfl rfl) k1
  obtain ⟨vb2, vs2, vt2, ve2, rfl, rfl, rfl, h2⟩ := open_exact (hval 2 41 v2 rfl rfl) k2
  clear hA0 hval0
  simp only [List.append_nil] at hW'
  refine (walk a0 a1 vb2 vs2 vt2 ve2 h0 h1 h2 W (of_laid8 hL)).mono fun e W' ⟨he, hg⟩ => ?_
  subst he
  exact ⟨_, rfl, post_plain hW' (fun _ _ _ => trodAll_mk1 (shut_bool Tryz.underlying4 _)) (fun sp => (trodAll_cons_mk (shut_int Tryz.underlying22 h0) (trodAll_cons_mk (shut_int Tryz.underlying38 h1) (trodAll_cons_mk (shut_exact h2) trodAll_mk0)))) (fun _ => rfl) hg (ok_one (by kernel_rfl) rfl (okWide_bool_mk Tryz.underlying4 _))⟩

theorem and2 {a b : Bool} (h : a = true) (k : b = true) : (a && b) = true := by rw [h, k]; rfl
set_option maxRecDepth 100000 in
set_option maxHeartbeats 4000000 in
theorem closed : joinedFacts Tryz.prog 9 Tryz.f9 Rows.ruleTurnedSpec Rows.ruleTurnedRow = true := by
  unfold joinedFacts
  refine (and2 (and2 (and2 (and2 (and2 (and2 (and2 (and2 (and2 (and2 (and2 (and2 (and2 (and2 (and2 (and2 (and2 (and2 (and2 (and2 (and2 (and2 (and2 (and2 (and2 (and2 (and2 (and2 (and2 (and2 (and2 ?_ ?_) ?_) ?_) ?_) ?_) ?_) ?_) ?_) ?_) ?_) ?_) ?_) ?_) ?_) ?_) ?_) ?_) ?_) ?_) ?_) ?_) ?_) ?_) ?_) ?_) ?_) ?_) ?_) ?_) ?_) ?_)
  all_goals as_aux_lemma => kernel_rfl
theorem over : Rows.RuleTurnedSaid :=
  OpenClaim.holds_of_wide 9 Tryz.f9 rfl rfl rfl rfl rfl rfl rfl ⟨rfl, rfl, rfl, rfl, rfl⟩ rfl rfl rfl rfl rfl (by as_aux_lemma => kernel_rfl) Tryz.func9 closed
    (of_decide_eq_true (by kernel_rfl)) (by unfold Func.isWrapper; first | (rw [if_pos (by decide +kernel)]; kernel_rfl) | (rw [if_neg (by decide +kernel)]; exact ⟨rfl, rfl⟩))
    (fun os started H enc _ => lifted os started H enc)

theorem proved : Rows.RuleTurnedCardSaid :=
  Claim7.holds_tied_plain_at .later [] [.data, .data] true (true, "387c46458c9a13d0f5426ed38dfc7024a1e0aa1080434e1f46fed2979f269049") true
    over (fun _ h => by cases h) (by as_aux_lemma => kernel_rfl) (fun _ h => by cases h) ruleTurned_row_tie rfl ⟨rfl, rfl⟩ (by as_aux_lemma => kernel_rfl) rfl
    (fun f fn hf hfn => by
      obtain rfl : f = 9 := Option.some.inj ((show Tryz.prog.funcNamed "abacus/abacuslaw09.RuleTurned" = some 9 by as_aux_lemma => kernel_rfl).symm.trans hf) |>.symm
      obtain rfl : fn = Tryz.f9 := (Option.some.inj (Tryz.func9.symm.trans hfn)).symm
      exact ⟨by as_aux_lemma => kernel_rfl, fun j t ht => by
        rw [Tryz.params9] at ht
        have h3 : t = 22 ∨ t = 38 ∨ t = 41 := by
          rcases j with _ | _ | _ | j
          · exact (Or.inl (by simpa using ht.symm))
          · exact (Or.inr (Or.inl (by simpa using ht.symm)))
          · exact (Or.inr (Or.inr (by simpa using ht.symm)))
          · simp at ht
        rcases h3 with rfl | rfl | rfl
        · exact (show Tryz.prog.wantsStandIn 22 = false by kernel_rfl)
        · exact (show Tryz.prog.wantsStandIn 38 = false by kernel_rfl)
        · exact (show Tryz.prog.wantsStandIn 41 = false by kernel_rfl)⟩)
    (by as_aux_lemma => kernel_rfl)
#print axioms proved
end Go.Proofs.YtbmhfcppaajgbaaGreatDoor.ruleTurned
