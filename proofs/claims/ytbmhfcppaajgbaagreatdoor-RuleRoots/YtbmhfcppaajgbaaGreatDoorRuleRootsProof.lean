/-
  RuleRoots returns true for every format and every mode, whether they are one or not, and every exact number, whether it may be or not: what is delivered of its root, the flags and the error are the document's.
-/
import Derived.Test.YtbmhfcppaajgbaaGreatDoorRows
import Derived.Test.YtbmhfcppaajgbaaGreatDoorTie
import Derived.Test.YtbmhfcppaajgbaaGreatDoorCards
import Derived.WalkKit
import Derived.ProofKit
import Derived.OpenShut
import Derived.LaidMore
import Derived.Stop.Joined
import Derived.Lib.LaidTab
import Derived.SevenTiedAt
import Derived.Test.YtbmhfcppaajgbaaGreatDoorRb21
namespace Go.Proofs.YtbmhfcppaajgbaaGreatDoor.ruleRoots
open WMath
open Go.ChangeShapes Go.WideShapes Go.ChangeAt Go.RowKit
open XMath
set_option linter.unusedVariables false

theorem own : ownKnob Tryz.prog.godebug = none := by kernel_rfl

set_option maxRecDepth 100000 in
set_option maxHeartbeats 4000000 in
theorem walk (a0 : Int) (a1 : Int) (vb2 : Bool) (vs2 vt2 : ByteArray) (ve2 : Int) (h0 : (Lit.int .u8 a0).wf = true) (h1 : (Lit.int .u8 a1).wf = true) (h2 : vs2.size ≤ maxLen ∧ vt2.size ≤ maxLen ∧ (Lit.int .i64 ve2).wf = true) (w : World) (hT : TabAt w ∧ FAt w) :
    Calls Tryz.prog 5 #[.int .u8 a0, .int .u8 a1, .agg #[.bool vb2, .string vs2, .string vt2, .int .i64 ve2]] w fun e w' => e = .returned (.bool true) ∧ Below w.heap.size w w' := by
  have TT := box hT.1
  have FF := box hT.2
  clear hT
  have b0 := bounds_u8 h0
  have b1 := bounds_u8 h1
  have KA := box r9alive
  obtain ⟨o, ho⟩ : ∃ o, (decide (vs2.size ≤ 60) && decide (vt2.size ≤ 60)) = o := ⟨_, rfl⟩
  have KS := box (fun w => r9short vb2 vs2 vt2 ve2 o ho w)
  obtain ⟨u, v, fl, c, KR, KQ, wc⟩ := both_root a0 a1 b0.1 b0.2 b1.1 vb2 vs2 vt2 ve2
  clear ho h0 h1 h2 b0 b1
  cases o
  · obtain ⟨Rx_0, B0⟩ := opn1 w (Obj.cells #[.bool vb2, .string vs2, .string vt2, .int .i64 ve2] 41)
    go_enter Tryz.func5, Tryz.ntmps5
    go_wp2_with fail
    refine (KS.out _).mono ?_
    rintro r w1 ⟨rfl, b1⟩
    have B1 : Below w.heap.size w w1 := btr B0 b1
    have Rx_1 := heap_of b1 _ _ _ Rx_0
    clear b1 B0 Rx_0
    obtain ⟨cx_1_0, cx_1_1, cx_1_2, cx_1_3⟩ := cells4s Rx_1
    go_wp2_with fail
    refine (KA.out _ (fatB FF.out B1) (tabB TT.out B1)).mono ?_
    rintro r w2 ⟨rfl, b2⟩
    have B2 : Below w.heap.size w w2 := btr B1 b2
    have Rx_2 := heap_of b2 _ _ _ Rx_1
    clear b2 B1 Rx_1 cx_1_0 cx_1_1 cx_1_2 cx_1_3
    obtain ⟨cx_2_0, cx_2_1, cx_2_2, cx_2_3⟩ := cells4s Rx_2
    go_wp2
    go_ret
    exact ⟨rfl, B2⟩
  · obtain ⟨Rx_0, B0⟩ := opn1 w (Obj.cells #[.bool vb2, .string vs2, .string vt2, .int .i64 ve2] 41)
    go_enter Tryz.func5, Tryz.ntmps5
    go_wp2_with fail
    refine (KS.out _).mono ?_
    rintro r w1 ⟨rfl, b1⟩
    have B1 : Below w.heap.size w w1 := btr B0 b1
    have Rx_1 := heap_of b1 _ _ _ Rx_0
    clear b1 B0 Rx_0
    obtain ⟨cx_1_0, cx_1_1, cx_1_2, cx_1_3⟩ := cells4s Rx_1
    go_wp2_with fail
    refine (KR.out _ (fatB FF.out B1) (tabB TT.out B1)).mono ?_
    rintro r w2 ⟨rfl, b2⟩
    have B2 : Below w.heap.size w w2 := btr B1 b2
    have Rx_2 := heap_of b2 _ _ _ Rx_1
    clear b2 B1 Rx_1 cx_1_0 cx_1_1 cx_1_2 cx_1_3
    obtain ⟨cx_2_0, cx_2_1, cx_2_2, cx_2_3⟩ := cells4s Rx_2
    have S3 := box B2.size
    have Lx_3 : Box (w.heap.size < w2.heap.size) := box (Array.getElem?_eq_some_iff.1 Rx_2).1
    have Rb_3 := heap_alloc_last w2 (Obj.cells #[.int .u64 (u : Nat), .int .u64 (v : Nat)] 25)
    have B3 := btr B2 (bal w2 (Obj.cells #[.int .u64 (u : Nat), .int .u64 (v : Nat)] 25))
    have Rx_3 := heap_of (bal w2 (Obj.cells #[.int .u64 (u : Nat), .int .u64 (v : Nat)] 25)) _ _ _ Rx_2
    clear B2 Rx_2 cx_2_0 cx_2_1 cx_2_2 cx_2_3
    obtain ⟨cx_3_0, cx_3_1, cx_3_2, cx_3_3⟩ := cells4s Rx_3
    obtain ⟨cb_3_0, cb_3_1⟩ := cells2s Rb_3
    go_wp2_with fail
    refine (KQ.out _).mono ?_
    rintro r w4 ⟨rfl, b4⟩
    have B4 : Below w.heap.size w w4 := btr B3 b4
    have Rx_4 := heap_of b4 _ _ _ Rx_3
    have Rb_4 := heap_of b4 _ _ _ Rb_3
    clear b4 B3 Rx_3 cx_3_0 cx_3_1 cx_3_2 cx_3_3 Rb_3 cb_3_0 cb_3_1
    obtain ⟨cx_4_0, cx_4_1, cx_4_2, cx_4_3⟩ := cells4s Rx_4
    obtain ⟨cb_4_0, cb_4_1⟩ := cells2s Rb_4
    have S5 := box B4.size
    have Lx_5 : Box (w.heap.size < w4.heap.size) := box (Array.getElem?_eq_some_iff.1 Rx_4).1
    have Lb_5 : Box (w2.heap.size < w4.heap.size) := box (Array.getElem?_eq_some_iff.1 Rb_4).1
    have Rc_5 := heap_alloc_last w4 (Obj.cells #[.int .u64 (u : Nat), .int .u64 (v : Nat)] 25)
    have B5 := btr B4 (bal w4 (Obj.cells #[.int .u64 (u : Nat), .int .u64 (v : Nat)] 25))
    have Rx_5 := heap_of (bal w4 (Obj.cells #[.int .u64 (u : Nat), .int .u64 (v : Nat)] 25)) _ _ _ Rx_4
    have Rb_5 := heap_of (bal w4 (Obj.cells #[.int .u64 (u : Nat), .int .u64 (v : Nat)] 25)) _ _ _ Rb_4
    clear B4 Rx_4 cx_4_0 cx_4_1 cx_4_2 cx_4_3 Rb_4 cb_4_0 cb_4_1
    obtain ⟨cx_5_0, cx_5_1, cx_5_2, cx_5_3⟩ := cells4s Rx_5
    obtain ⟨cb_5_0, cb_5_1⟩ := cells2s Rb_5
    obtain ⟨cc_5_0, cc_5_1⟩ := cells2s Rc_5
    go_wp2_with fail
    refine (KA.out _ (fatB FF.out B5) (tabB TT.out B5)).mono ?_
    rintro r w6 ⟨rfl, b6⟩
    have B6 : Below w.heap.size w w6 := btr B5 b6
    have Rx_6 := heap_of b6 _ _ _ Rx_5
    have Rb_6 := heap_of b6 _ _ _ Rb_5
    have Rc_6 := heap_of b6 _ _ _ Rc_5
    clear b6 B5 Rx_5 cx_5_0 cx_5_1 cx_5_2 cx_5_3 Rb_5 cb_5_0 cb_5_1 Rc_5 cc_5_0 cc_5_1
    obtain ⟨cx_6_0, cx_6_1, cx_6_2, cx_6_3⟩ := cells4s Rx_6
    obtain ⟨cb_6_0, cb_6_1⟩ := cells2s Rb_6
    obtain ⟨cc_6_0, cc_6_1⟩ := cells2s Rc_6
    go_wp2
    go_ret
    exact ⟨rfl, B6⟩

set_option maxRecDepth 100000 in
theorem lifted (os : Os) (started : os.Started) (H : Type) (enc : TypeId × Value → H) :
    ReturnsInHanded {} Tryz.checked os 5 .any (fun w args => (Rows.ruleRootsSpec.pre enc Tryz.prog Tryz.f5 [] false w args ∧ laidMetH Tryz.prog laid8 w) ∧ sizedMet enc Tryz.prog Tryz.f5 (OpenSpec.ofChange Rows.ruleRootsSpec) false w args)
      (Rows.ruleRootsSpec.post enc Tryz.prog Tryz.f5 false true false false) := by
  refine returnsInHanded_of_change_and (C := Tryz.checked) (X := fun w _ => laidMetH Tryz.prog laid8 w) (fun _ _ _ hh h => h.of_heap hh) own started (by kernel_rfl) Tryz.func5
    (ChangeSpec.witness_shaped (enc := enc) (C := Tryz.checked) (os := os) (X := fun w _ => laidMetH Tryz.prog laid8 w) false (World.doorLaid Tryz.prog 400 os) #[.int .u8 0, .int .u8 0, .agg #[.bool false, .string ⟨#[]⟩, .string ⟨#[]⟩, .int .i64 0]] 8 rfl (World.shaped_of_RefB (by kernel_rfl) (by kernel_rfl)) (by kernel_rfl) (by kernel_rfl) (by kernel_rfl) (door_met8 os _)) ?_
  intro W base args ds gs before hval0 hW _ _ hL _
  have hval : ∀ (j : Nat) t v, Tryz.f5.params[j]? = some t → args[j]? = some v → Value.okWide Tryz.prog W .any base t v := hval0
  have hW' := hW
  obtain ⟨p, q, hA0, hV, rfl, hfz, hnd⟩ := hW
  have hA : DataW.TrodAll enc Tryz.prog W 0 (fun _ => true) true Tryz.f5.params.toList args.toList ds p := hA0
  rw [Tryz.params5] at hA hval
  obtain ⟨v0, vs0, d0, ds0, p0, q0, hargs, rfl, rfl, k0, r0⟩ := trodAll_cons hA
  obtain ⟨v1, vs1, d1, ds1, p1, q1, rfl, rfl, rfl, k1, r1⟩ := trodAll_cons r0
  obtain ⟨v2, vs2, d2, ds2, p2, q2, rfl, rfl, rfl, k2, r2⟩ := trodAll_cons r1
  obtain ⟨rfl, rfl, rfl⟩ := trodAll_nil r2
  obtain rfl : args = #[v0, v1, v2] := by cases args; simp_all
  obtain ⟨rfl, rfl⟩ := trodVars_none hV
  obtain ⟨a0, rfl, rfl, rfl, h0⟩ := open_int Tryz.underlying22 (hval 0 22 v0 rfl rfl) k0
  obtain ⟨a1, rfl, rfl, rfl, h1⟩ := open_int Tryz.underlying38 (hval 1 38 v1 rfl rfl) k1
  obtain ⟨vb2, vs2, vt2, ve2, rfl, rfl, rfl, h2⟩ := open_exact (hval 2 41 v2 rfl rfl) k2
  clear hA0 hval0
  simp only [List.append_nil] at hW'
  refine (walk a0 a1 vb2 vs2 vt2 ve2 h0 h1 h2 W (of_laid8 hL)).mono fun e W' ⟨he, hg⟩ => ?_
  subst he
  exact ⟨_, rfl, post_plain hW' (fun _ _ _ => trodAll_mk1 (shut_bool Tryz.underlying4 _)) (fun sp => (trodAll_cons_mk (shut_int Tryz.underlying22 h0) (trodAll_cons_mk (shut_int Tryz.underlying38 h1) (trodAll_cons_mk (shut_exact h2) trodAll_mk0)))) (fun _ => rfl) hg (ok_one (by kernel_rfl) rfl (okWide_bool_mk Tryz.underlying4 _))⟩

theorem and2 {a b : Bool} (h : a = true) (k : b = true) : (a && b) = true := by rw [h, k]; rfl
set_option maxRecDepth 100000 in
set_option maxHeartbeats 4000000 in
theorem closed : joinedFacts Tryz.prog 5 Tryz.f5 Rows.ruleRootsSpec Rows.ruleRootsRow = true := by
  unfold joinedFacts
  refine (and2 (and2 (and2 (and2 (and2 (and2 (and2 (and2 (and2 (and2 (and2 (and2 (and2 (and2 (and2 (and2 (and2 (and2 (and2 (and2 (and2 (and2 (and2 (and2 (and2 (and2 (and2 (and2 (and2 (and2 (and2 ?_ ?_) ?_) ?_) ?_) ?_) ?_) ?_) ?_) ?_) ?_) ?_) ?_) ?_) ?_) ?_) ?_) ?_) ?_) ?_) ?_) ?_) ?_) ?_) ?_) ?_) ?_) ?_) ?_) ?_) ?_) ?_)
  all_goals as_aux_lemma => kernel_rfl
theorem over : Rows.RuleRootsSaid :=
  OpenClaim.holds_of_wide 5 Tryz.f5 rfl rfl rfl rfl rfl rfl rfl ⟨rfl, rfl, rfl, rfl, rfl⟩ rfl rfl rfl rfl rfl (by as_aux_lemma => kernel_rfl) Tryz.func5 closed
    (of_decide_eq_true (by kernel_rfl)) (by unfold Func.isWrapper; first | (rw [if_pos (by decide +kernel)]; kernel_rfl) | (rw [if_neg (by decide +kernel)]; exact ⟨rfl, rfl⟩))
    (fun os started H enc _ => lifted os started H enc)

theorem proved : Rows.RuleRootsCardSaid :=
  Claim7.holds_tied_plain_at .later [] [.data, .data] true (true, "387c46458c9a13d0f5426ed38dfc7024a1e0aa1080434e1f46fed2979f269049") true
    over (fun _ h => by cases h) (by as_aux_lemma => kernel_rfl) (fun _ h => by cases h) ruleRoots_row_tie rfl ⟨rfl, rfl⟩ (by as_aux_lemma => kernel_rfl) rfl
    (fun f fn hf hfn => by
      obtain rfl : f = 5 := Option.some.inj ((show Tryz.prog.funcNamed "abacus/abacuslaw09.RuleRoots" = some 5 by as_aux_lemma => kernel_rfl).symm.trans hf) |>.symm
      obtain rfl : fn = Tryz.f5 := (Option.some.inj (Tryz.func5.symm.trans hfn)).symm
      exact ⟨by as_aux_lemma => kernel_rfl, fun j t ht => by
        rw [Tryz.params5] at ht
        have h3 : t = 22 ∨ t = 38 ∨ t = 41 := by
          rcases j with _ | _ | _ | j
          · exact (Or.inl (by simpa using ht.symm))
          · exact (Or.inr (Or.inl (by simpa using ht.symm)))
          · exact (Or.inr (Or.inr (by simpa using ht.symm)))
          · simp at ht
        rcases h3 with rfl | rfl | rfl
        · exact (show Tryz.prog.wantsStandIn 22 = false by kernel_rfl)
        · exact (show Tryz.prog.wantsStandIn 38 = false by kernel_rfl)
        · exact (show Tryz.prog.wantsStandIn 41 = false by kernel_rfl)⟩)
    (by as_aux_lemma => kernel_rfl)
#print axioms proved
end Go.Proofs.YtbmhfcppaajgbaaGreatDoor.ruleRoots
