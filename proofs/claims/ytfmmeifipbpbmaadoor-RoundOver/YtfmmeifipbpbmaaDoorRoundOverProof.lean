/-
  RoundOver returns true for every format and every mode, whether they are one or not, and all that may be left: what is delivered at an overflow, the flags, the error, and which neighbour is taken, are the document's.
-/
import Derived.Test.YtfmmeifipbpbmaaDoorRows
import Derived.Test.YtfmmeifipbpbmaaDoorTie
import Derived.Test.YtfmmeifipbpbmaaDoorCards
import Derived.WalkKit
import Derived.ProofKit
import Derived.OpenShut
import Derived.LaidMore
import Derived.Stop.Joined
import Derived.Lib.LaidTab
import Derived.SevenTiedAt
import Derived.Test.YtfmmeifipbpbmaaDoorOc08
namespace Go.Proofs.YtfmmeifipbpbmaaDoor.roundOver
open WMath
open Go.ChangeShapes Go.WideShapes Go.ChangeAt Go.RowKit
set_option linter.unusedVariables false

theorem own : ownKnob Tryd.prog.godebug = none := by kernel_rfl

set_option maxRecDepth 100000 in
set_option maxHeartbeats 4000000 in
theorem walk (a0 : Int) (a1 : Int) (a2 : Bool) (a3 : Bool) (a4 : Int) (a5 : Bool) (h0 : (Lit.int .u8 a0).wf = true) (h1 : (Lit.int .u8 a1).wf = true)   (h4 : (Lit.int .i64 a4).wf = true)  (w : World) (hT : FAt w) :
    Calls Tryd.prog 3 #[.int .u8 a0, .int .u8 a1, .bool a2, .bool a3, .int .i64 a4, .bool a5] w fun e w' => e = .returned (.bool true) ∧ Below w.heap.size w w' := by
  have FF := box hT
  clear hT
  have b0 := bounds_u8 h0
  have b1 := bounds_u8 h1
  have KA := box r10alive
  obtain ⟨u, v, fl, c, KR, KQ, wc⟩ := both_over a0 a1 b0.1 b0.2 b1.1 a2
  obtain ⟨o, ho⟩ : ∃ o, uP a1 a2 a3 a4 a5 = o := ⟨_, rfl⟩
  have KU := box (fun w => ro_up a1 a2 a3 a4 a5 o ho w)
  have KV := box (fun w => rh_up a1 a2 a3 a4 a5 o ho w)
  clear h0 h1 h4 b0 b1 ho
  have B0 : Below w.heap.size w w := (Below.refl _ _)
  go_enter Tryd.func3, Tryd.ntmps3
  go_wp2_with fail
  refine (KR.out _ (fatB FF.out B0)).mono ?_
  rintro r w1 ⟨rfl, b1⟩
  have B1 : Below w.heap.size w w1 := btr B0 b1
  clear b1 B0 
  have S2 := box B1.size
  have Rb_2 := heap_alloc_last w1 (Obj.cells #[.int .u64 (u : Nat), .int .u64 (v : Nat)] 26)
  have B2 := btr B1 (bal w1 (Obj.cells #[.int .u64 (u : Nat), .int .u64 (v : Nat)] 26))
  clear B1 
  obtain ⟨cb_2_0, cb_2_1⟩ := cells2s Rb_2
  go_wp2_with fail
  refine (KQ.out _).mono ?_
  rintro r w3 ⟨rfl, b3⟩
  have B3 : Below w.heap.size w w3 := btr B2 b3
  have Rb_3 := heap_of b3 _ _ _ Rb_2
  clear b3 B2 Rb_2 cb_2_0 cb_2_1
  obtain ⟨cb_3_0, cb_3_1⟩ := cells2s Rb_3
  have S4 := box B3.size
  have Lb_4 : Box (w1.heap.size < w3.heap.size) := box (Array.getElem?_eq_some_iff.1 Rb_3).1
  have Rc_4 := heap_alloc_last w3 (Obj.cells #[.int .u64 (u : Nat), .int .u64 (v : Nat)] 26)
  have B4 := btr B3 (bal w3 (Obj.cells #[.int .u64 (u : Nat), .int .u64 (v : Nat)] 26))
  have Rb_4 := heap_of (bal w3 (Obj.cells #[.int .u64 (u : Nat), .int .u64 (v : Nat)] 26)) _ _ _ Rb_3
  clear B3 Rb_3 cb_3_0 cb_3_1
  obtain ⟨cb_4_0, cb_4_1⟩ := cells2s Rb_4
  obtain ⟨cc_4_0, cc_4_1⟩ := cells2s Rc_4
  go_wp2_with fail
  refine (KU.out _).mono ?_
  rintro r w5 ⟨rfl, b5⟩
  have B5 : Below w.heap.size w w5 := btr B4 b5
  have Rb_5 := heap_of b5 _ _ _ Rb_4
  have Rc_5 := heap_of b5 _ _ _ Rc_4
  clear b5 B4 Rb_4 cb_4_0 cb_4_1 Rc_4 cc_4_0 cc_4_1
  obtain ⟨cb_5_0, cb_5_1⟩ := cells2s Rb_5
  obtain ⟨cc_5_0, cc_5_1⟩ := cells2s Rc_5
  go_wp2_with fail
  refine (KV.out _).mono ?_
  rintro r w6 ⟨rfl, b6⟩
  have B6 : Below w.heap.size w w6 := btr B5 b6
  have Rb_6 := heap_of b6 _ _ _ Rb_5
  have Rc_6 := heap_of b6 _ _ _ Rc_5
  clear b6 B5 Rb_5 cb_5_0 cb_5_1 Rc_5 cc_5_0 cc_5_1
  obtain ⟨cb_6_0, cb_6_1⟩ := cells2s Rb_6
  obtain ⟨cc_6_0, cc_6_1⟩ := cells2s Rc_6
  go_wp2_with fail
  refine (KA.out _ (fatB FF.out B6)).mono ?_
  rintro r w7 ⟨rfl, b7⟩
  have B7 : Below w.heap.size w w7 := btr B6 b7
  have Rb_7 := heap_of b7 _ _ _ Rb_6
  have Rc_7 := heap_of b7 _ _ _ Rc_6
  clear b7 B6 Rb_6 cb_6_0 cb_6_1 Rc_6 cc_6_0 cc_6_1
  obtain ⟨cb_7_0, cb_7_1⟩ := cells2s Rb_7
  obtain ⟨cc_7_0, cc_7_1⟩ := cells2s Rc_7
  go_wp2
  go_ret
  exact ⟨rfl, B7⟩

set_option maxRecDepth 100000 in
theorem lifted (os : Os) (started : os.Started) (H : Type) (enc : TypeId × Value → H) :
    ReturnsInHanded {} Tryd.checked os 3 .any (fun w args => (Rows.roundOverSpec.pre enc Tryd.prog Tryd.f3 [] false w args ∧ laidMetH Tryd.prog laid7 w) ∧ sizedMet enc Tryd.prog Tryd.f3 (OpenSpec.ofChange Rows.roundOverSpec) false w args)
      (Rows.roundOverSpec.post enc Tryd.prog Tryd.f3 false true false false) := by
  refine returnsInHanded_of_change_and (C := Tryd.checked) (X := fun w _ => laidMetH Tryd.prog laid7 w) (fun _ _ _ hh h => h.of_heap hh) own started (by kernel_rfl) Tryd.func3
    (ChangeSpec.witness_shaped (enc := enc) (C := Tryd.checked) (os := os) (X := fun w _ => laidMetH Tryd.prog laid7 w) false (World.doorLaid Tryd.prog 400 os) #[.int .u8 0, .int .u8 0, .bool false, .bool false, .int .i64 0, .bool false] 8 rfl (World.shaped_of_RefB (by kernel_rfl) (by kernel_rfl)) (by kernel_rfl) (by kernel_rfl) (by kernel_rfl) (door_met7 os _)) ?_
  intro W base args ds gs before hval0 hW _ _ hL _
  have hval : ∀ (j : Nat) t v, Tryd.f3.params[j]? = some t → args[j]? = some v → Value.okWide Tryd.prog W .any base t v := hval0
  have hW' := hW
  obtain ⟨p, q, hA0, hV, rfl, hfz, hnd⟩ := hW
  have hA : DataW.TrodAll enc Tryd.prog W 0 (fun _ => true) true Tryd.f3.params.toList args.toList ds p := hA0
  rw [Tryd.params3] at hA hval
  obtain ⟨v0, vs0, d0, ds0, p0, q0, hargs, rfl, rfl, k0, r0⟩ := trodAll_cons hA
  obtain ⟨v1, vs1, d1, ds1, p1, q1, rfl, rfl, rfl, k1, r1⟩ := trodAll_cons r0
  obtain ⟨v2, vs2, d2, ds2, p2, q2, rfl, rfl, rfl, k2, r2⟩ := trodAll_cons r1
  obtain ⟨v3, vs3, d3, ds3, p3, q3, rfl, rfl, rfl, k3, r3⟩ := trodAll_cons r2
  obtain ⟨v4, vs4, d4, ds4, p4, q4, rfl, rfl, rfl, k4, r4⟩ := trodAll_cons r3
  obtain ⟨v5, vs5, d5, ds5, p5, q5, rfl, rfl, rfl, k5, r5⟩ := trodAll_cons r4
  obtain ⟨rfl, rfl, rfl⟩ := trodAll_nil r5
  obtain rfl : args = #[v0, v1, v2, v3, v4, v5] := by cases args; simp_all
  obtain ⟨rfl, rfl⟩ := trodVars_none hV
  obtain ⟨a0, rfl, rfl, rfl, h0⟩ := open_int Tryd.underlying22 (hval 0 22 v0 rfl rfl) k0
  obtain ⟨a1, rfl, rfl, rfl, h1⟩ := open_int Tryd.underlying23 (hval 1 23 v1 rfl rfl) k1
  obtain ⟨a2, rfl, rfl, rfl⟩ := open_bool Tryd.underlying4 (hval 2 4 v2 rfl rfl) k2
  obtain ⟨a3, rfl, rfl, rfl⟩ := open_bool Tryd.underlying4 (hval 3 4 v3 rfl rfl) k3
  obtain ⟨a4, rfl, rfl, rfl, h4⟩ := open_int Tryd.underlying3 (hval 4 3 v4 rfl rfl) k4
  obtain ⟨a5, rfl, rfl, rfl⟩ := open_bool Tryd.underlying4 (hval 5 4 v5 rfl rfl) k5
  clear hA0 hval0
  simp only [List.append_nil] at hW'
  refine (walk a0 a1 a2 a3 a4 a5 h0 h1 h4 W (of_laid7 hL)).mono fun e W' ⟨he, hg⟩ => ?_
  subst he
  exact ⟨_, rfl, post_plain hW' (fun _ _ _ => trodAll_mk1 (shut_bool Tryd.underlying4 _)) (fun sp => (trodAll_cons_mk (shut_int Tryd.underlying22 h0) (trodAll_cons_mk (shut_int Tryd.underlying23 h1) (trodAll_cons_mk (shut_bool Tryd.underlying4 _) (trodAll_cons_mk (shut_bool Tryd.underlying4 _) (trodAll_cons_mk (shut_int Tryd.underlying3 h4) (trodAll_cons_mk (shut_bool Tryd.underlying4 _) trodAll_mk0))))))) (fun _ => rfl) hg (ok_one (by kernel_rfl) rfl (okWide_bool_mk Tryd.underlying4 _))⟩

theorem and2 {a b : Bool} (h : a = true) (k : b = true) : (a && b) = true := by rw [h, k]; rfl
set_option maxRecDepth 100000 in
set_option maxHeartbeats 4000000 in
theorem closed : joinedFacts Tryd.prog 3 Tryd.f3 Rows.roundOverSpec Rows.roundOverRow = true := by
  unfold joinedFacts
  refine (and2 (and2 (and2 (and2 (and2 (and2 (and2 (and2 (and2 (and2 (and2 (and2 (and2 (and2 (and2 (and2 (and2 (and2 (and2 (and2 (and2 (and2 (and2 (and2 (and2 (and2 (and2 (and2 (and2 (and2 (and2 ?_ ?_) ?_) ?_) ?_) ?_) ?_) ?_) ?_) ?_) ?_) ?_) ?_) ?_) ?_) ?_) ?_) ?_) ?_) ?_) ?_) ?_) ?_) ?_) ?_) ?_) ?_) ?_) ?_) ?_) ?_) ?_)
  all_goals as_aux_lemma => kernel_rfl
theorem over : Rows.RoundOverSaid :=
  OpenClaim.holds_of_wide 3 Tryd.f3 rfl rfl rfl rfl rfl rfl rfl ⟨rfl, rfl, rfl, rfl, rfl⟩ rfl rfl rfl rfl rfl (by as_aux_lemma => kernel_rfl) Tryd.func3 closed
    (of_decide_eq_true (by kernel_rfl)) (by unfold Func.isWrapper; first | (rw [if_pos (by decide +kernel)]; kernel_rfl) | (rw [if_neg (by decide +kernel)]; exact ⟨rfl, rfl⟩))
    (fun os started H enc _ => lifted os started H enc)

theorem proved : Rows.RoundOverCardSaid :=
  Claim7.holds_tied_plain_at .later [] [.data] true (true, "c5b4cb0a2ba6d5902435594dd51034f531c79981ca9f7771c10e5b840070a79c") false
    over (fun _ h => by cases h) (by as_aux_lemma => kernel_rfl) (fun _ h => by cases h) roundOver_row_tie rfl ⟨rfl, rfl⟩ (by as_aux_lemma => kernel_rfl) rfl
    (fun f fn hf hfn => by
      obtain rfl : f = 3 := Option.some.inj ((show Tryd.prog.funcNamed "abacus/abacuslaw10.RoundOver" = some 3 by as_aux_lemma => kernel_rfl).symm.trans hf) |>.symm
      obtain rfl : fn = Tryd.f3 := (Option.some.inj (Tryd.func3.symm.trans hfn)).symm
      exact ⟨by as_aux_lemma => kernel_rfl, fun j t ht => by
        rw [Tryd.params3] at ht
        have h3 : t = 22 ∨ t = 23 ∨ t = 4 ∨ t = 3 := by
          rcases j with _ | _ | _ | _ | _ | _ | j
          · exact (Or.inl (by simpa using ht.symm))
          · exact (Or.inr (Or.inl (by simpa using ht.symm)))
          · exact (Or.inr (Or.inr (Or.inl (by simpa using ht.symm))))
          · exact (Or.inr (Or.inr (Or.inl (by simpa using ht.symm))))
          · exact (Or.inr (Or.inr (Or.inr (by simpa using ht.symm))))
          · exact (Or.inr (Or.inr (Or.inl (by simpa using ht.symm))))
          · simp at ht
        rcases h3 with rfl | rfl | rfl | rfl
        · exact (show Tryd.prog.wantsStandIn 22 = false by kernel_rfl)
        · exact (show Tryd.prog.wantsStandIn 23 = false by kernel_rfl)
        · exact (show Tryd.prog.wantsStandIn 4 = false by kernel_rfl)
        · exact (show Tryd.prog.wantsStandIn 3 = false by kernel_rfl)⟩)
    (by as_aux_lemma => kernel_rfl)
#print axioms proved
end Go.Proofs.YtfmmeifipbpbmaaDoor.roundOver
