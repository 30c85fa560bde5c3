/-
  ShapeMakes returns true for every format, whether it is one or not, and both signs: the encodings that have names are the document's.
-/
import Derived.Test.YtjbefkceieklmaaDoorRows
import Derived.Test.YtjbefkceieklmaaDoorTie
import Derived.Test.YtjbefkceieklmaaDoorCards
import Derived.WalkKit
import Derived.ProofKit
import Derived.OpenShut
import Derived.LaidMore
import Derived.Stop.Joined
import Derived.Lib.LaidTab
import Derived.SevenTiedAt
import Derived.Test.YtjbefkceieklmaaDoorFrame6
import Derived.Test.YtjbefkceieklmaaDoorSL
import Derived.Test.YtjbefkceieklmaaDoorS6
import Derived.Test.YtjbefkceieklmaaDoorFrameB
namespace Go.Proofs.YtjbefkceieklmaaDoor.shapeMakes
open WMath
open Go.ChangeShapes Go.WideShapes Go.ChangeAt Go.RowKit
set_option linter.unusedVariables false

theorem own : ownKnob Tryd.prog.godebug = none := by kernel_rfl

set_option maxRecDepth 100000 in
set_option maxHeartbeats 4000000 in
theorem walk (a0 : Int) (a1 : Bool) (h0 : (Lit.int .u8 a0).wf = true)  (w : World) (hT : FAt w) :
    Calls Tryd.prog 4 #[.int .u8 a0, .bool a1] w fun e w' => e = .returned (.bool true) ∧ Below w.heap.size w w' := by
  have TT := box hT
  clear hT
  have b0 := bounds_u8 h0
  have heB := eqB
  have heg := eqgB
  by_cases h : a0 ≤ 3
  · have hf := is4_of b0.1 h
    obtain ⟨x0, y0, K0, J0⟩ : ∃ x y : Nat, Box (∀ w : World, FAt w → Calls Tryd.prog 22 #[.int .u8 a0] w fun e w' => e = .returned (.agg #[.int .u64 x, .int .u64 y]) ∧ Below w.heap.size w w') ∧ Box (∀ w : World, Calls Tryd.prog 29 #[.int .u8 a0] w fun e w' => e = .returned (.agg #[.int .u64 x, .int .u64 y]) ∧ Below w.heap.size w w') :=
      ⟨_, _, box (s_nan a0 hf _ rfl), box (r_nan a0 hf _ rfl)⟩
    obtain ⟨x1, y1, K1, J1⟩ : ∃ x y : Nat, Box (∀ w : World, FAt w → Calls Tryd.prog 23 #[.int .u8 a0, .bool a1] w fun e w' => e = .returned (.agg #[.int .u64 x, .int .u64 y]) ∧ Below w.heap.size w w') ∧ Box (∀ w : World, Calls Tryd.prog 30 #[.int .u8 a0, .bool a1] w fun e w' => e = .returned (.agg #[.int .u64 x, .int .u64 y]) ∧ Below w.heap.size w w') :=
      ⟨_, _, box (s_inf a0 a1 hf _ rfl), box (r_inf a0 a1 hf _ rfl)⟩
    obtain ⟨x2, y2, K2, J2⟩ : ∃ x y : Nat, Box (∀ w : World, FAt w → Calls Tryd.prog 24 #[.int .u8 a0, .bool a1] w fun e w' => e = .returned (.agg #[.int .u64 x, .int .u64 y]) ∧ Below w.heap.size w w') ∧ Box (∀ w : World, Calls Tryd.prog 31 #[.int .u8 a0, .bool a1] w fun e w' => e = .returned (.agg #[.int .u64 x, .int .u64 y]) ∧ Below w.heap.size w w') :=
      ⟨_, _, box (s_zero a0 a1 hf _ rfl), box (r_zero a0 a1 hf _ rfl)⟩
    obtain ⟨x3, y3, K3, J3⟩ : ∃ x y : Nat, Box (∀ w : World, FAt w → Calls Tryd.prog 25 #[.int .u8 a0, .bool a1] w fun e w' => e = .returned (.agg #[.int .u64 x, .int .u64 y]) ∧ Below w.heap.size w w') ∧ Box (∀ w : World, Calls Tryd.prog 32 #[.int .u8 a0, .bool a1] w fun e w' => e = .returned (.agg #[.int .u64 x, .int .u64 y]) ∧ Below w.heap.size w w') :=
      ⟨_, _, box (s_greatest a0 a1 hf _ rfl), box (r_greatest a0 a1 hf _ rfl)⟩
    obtain ⟨x4, y4, K4, J4⟩ : ∃ x y : Nat, Box (∀ w : World, FAt w → Calls Tryd.prog 26 #[.int .u8 a0, .bool a1] w fun e w' => e = .returned (.agg #[.int .u64 x, .int .u64 y]) ∧ Below w.heap.size w w') ∧ Box (∀ w : World, Calls Tryd.prog 33 #[.int .u8 a0, .bool a1] w fun e w' => e = .returned (.agg #[.int .u64 x, .int .u64 y]) ∧ Below w.heap.size w w') :=
      ⟨_, _, box (s_leastnormal a0 a1 hf _ rfl), box (r_leastnormal a0 a1 hf _ rfl)⟩
    obtain ⟨x5, y5, K5, J5⟩ : ∃ x y : Nat, Box (∀ w : World, FAt w → Calls Tryd.prog 27 #[.int .u8 a0, .bool a1] w fun e w' => e = .returned (.agg #[.int .u64 x, .int .u64 y]) ∧ Below w.heap.size w w') ∧ Box (∀ w : World, Calls Tryd.prog 34 #[.int .u8 a0, .bool a1] w fun e w' => e = .returned (.agg #[.int .u64 x, .int .u64 y]) ∧ Below w.heap.size w w') :=
      ⟨_, _, box (s_least a0 a1 hf _ rfl), box (r_least a0 a1 hf _ rfl)⟩
    obtain ⟨x6, y6, K6, J6⟩ : ∃ x y : Nat, Box (∀ w : World, FAt w → Calls Tryd.prog 28 #[.int .u8 a0, .bool a1] w fun e w' => e = .returned (.agg #[.int .u64 x, .int .u64 y]) ∧ Below w.heap.size w w') ∧ Box (∀ w : World, Calls Tryd.prog 35 #[.int .u8 a0, .bool a1] w fun e w' => e = .returned (.agg #[.int .u64 x, .int .u64 y]) ∧ Below w.heap.size w w') :=
      ⟨_, _, box (s_one a0 a1 hf _ rfl), box (r_one a0 a1 hf _ rfl)⟩
    have HO : Box (decide (a0 ≤ 3) = true) := box (by simp [h])
    clear hf h h0
    have B0 : Below w.heap.size w w := (Below.refl _ _)
    go_enter Tryd.func4, Tryd.ntmps4
    go_wp2_with fail
    refine (r_right a0 true HO.out _).mono ?_
    rintro r w' ⟨rfl, hw'⟩
    obtain rfl := hw'.symm
    go_wp2_with fail
    refine (K0.out _ (fatB TT.out B0)).mono ?_
    rintro r w1 ⟨rfl, b1⟩
    have B1 : Below w.heap.size w w1 := btr7 B0 b1
    clear b1 B0 
    go_wp2_with fail
    refine (J0.out _).mono ?_
    rintro r w2 ⟨rfl, b2⟩
    have B2 : Below w.heap.size w w2 := btr7 B1 b2
    clear b2 B1 
    go_wp2_with fail
    refine (K1.out _ (fatB TT.out B2)).mono ?_
    rintro r w3 ⟨rfl, b3⟩
    have B3 : Below w.heap.size w w3 := btr7 B2 b3
    clear b3 B2 
    go_wp2_with fail
    refine (J1.out _).mono ?_
    rintro r w4 ⟨rfl, b4⟩
    have B4 : Below w.heap.size w w4 := btr7 B3 b4
    clear b4 B3 
    go_wp2_with fail
    refine (K2.out _ (fatB TT.out B4)).mono ?_
    rintro r w5 ⟨rfl, b5⟩
    have B5 : Below w.heap.size w w5 := btr7 B4 b5
    clear b5 B4 
    go_wp2_with fail
    refine (J2.out _).mono ?_
    rintro r w6 ⟨rfl, b6⟩
    have B6 : Below w.heap.size w w6 := btr7 B5 b6
    clear b6 B5 
    go_wp2_with fail
    refine (K3.out _ (fatB TT.out B6)).mono ?_
    rintro r w7 ⟨rfl, b7⟩
    have B7 : Below w.heap.size w w7 := btr7 B6 b7
    clear b7 B6 
    go_wp2_with fail
    refine (J3.out _).mono ?_
    rintro r w8 ⟨rfl, b8⟩
    have B8 : Below w.heap.size w w8 := btr7 B7 b8
    clear b8 B7 
    go_wp2_with fail
    refine (K4.out _ (fatB TT.out B8)).mono ?_
    rintro r w9 ⟨rfl, b9⟩
    have B9 : Below w.heap.size w w9 := btr7 B8 b9
    clear b9 B8 
    go_wp2_with fail
    refine (J4.out _).mono ?_
    rintro r w10 ⟨rfl, b10⟩
    have B10 : Below w.heap.size w w10 := btr7 B9 b10
    clear b10 B9 
    go_wp2_with fail
    refine (K5.out _ (fatB TT.out B10)).mono ?_
    rintro r w11 ⟨rfl, b11⟩
    have B11 : Below w.heap.size w w11 := btr7 B10 b11
    clear b11 B10 
    go_wp2_with fail
    refine (J5.out _).mono ?_
    rintro r w12 ⟨rfl, b12⟩
    have B12 : Below w.heap.size w w12 := btr7 B11 b12
    clear b12 B11 
    go_wp2_with fail
    refine (K6.out _ (fatB TT.out B12)).mono ?_
    rintro r w13 ⟨rfl, b13⟩
    have B13 : Below w.heap.size w w13 := btr7 B12 b13
    clear b13 B12 
    go_wp2_with fail
    refine (J6.out _).mono ?_
    rintro r w14 ⟨rfl, b14⟩
    have B14 : Below w.heap.size w w14 := btr7 B13 b14
    clear b14 B13 
    go_wp2_with fail
    refine (s_alive _ (fatB TT.out B14)).mono ?_
    rintro r w15 ⟨rfl, b15⟩
    have B15 : Below w.heap.size w w15 := btr7 B14 b15
    clear b15 B14 
    go_wp2
    go_ret
    exact ⟨rfl, B15⟩
  · have h3 : 3 < a0 := by omega
    have K0 : Box (∀ w : World, FAt w → Calls Tryd.prog 22 #[.int .u8 a0] w fun e w' => e = .returned (.agg #[.int .u64 0, .int .u64 0]) ∧ Below w.heap.size w w') := box (fun w hw => n_nan a0 b0.1 b0.2 h3 w hw)
    have K1 : Box (∀ w : World, FAt w → Calls Tryd.prog 23 #[.int .u8 a0, .bool a1] w fun e w' => e = .returned (.agg #[.int .u64 0, .int .u64 0]) ∧ Below w.heap.size w w') := box (fun w hw => n_inf a0 a1 b0.1 b0.2 h3 w hw)
    have K2 : Box (∀ w : World, FAt w → Calls Tryd.prog 24 #[.int .u8 a0, .bool a1] w fun e w' => e = .returned (.agg #[.int .u64 0, .int .u64 0]) ∧ Below w.heap.size w w') := box (fun w hw => n_zero a0 a1 b0.1 b0.2 h3 w hw)
    have K3 : Box (∀ w : World, FAt w → Calls Tryd.prog 25 #[.int .u8 a0, .bool a1] w fun e w' => e = .returned (.agg #[.int .u64 0, .int .u64 0]) ∧ Below w.heap.size w w') := box (fun w hw => n_greatest a0 a1 b0.1 b0.2 h3 w hw)
    have K4 : Box (∀ w : World, FAt w → Calls Tryd.prog 26 #[.int .u8 a0, .bool a1] w fun e w' => e = .returned (.agg #[.int .u64 0, .int .u64 0]) ∧ Below w.heap.size w w') := box (fun w hw => n_leastnormal a0 a1 b0.1 b0.2 h3 w hw)
    have K5 : Box (∀ w : World, FAt w → Calls Tryd.prog 27 #[.int .u8 a0, .bool a1] w fun e w' => e = .returned (.agg #[.int .u64 0, .int .u64 0]) ∧ Below w.heap.size w w') := box (fun w hw => n_least a0 a1 b0.1 b0.2 h3 w hw)
    have K6 : Box (∀ w : World, FAt w → Calls Tryd.prog 28 #[.int .u8 a0, .bool a1] w fun e w' => e = .returned (.agg #[.int .u64 0, .int .u64 0]) ∧ Below w.heap.size w w') := box (fun w hw => n_one a0 a1 b0.1 b0.2 h3 w hw)
    have HO : Box (decide (a0 ≤ 3) = false) := box (by simp; omega)
    have hz0 := eqB 0 0
    clear h3 h h0
    have B0 : Below w.heap.size w w := (Below.refl _ _)
    go_enter Tryd.func4, Tryd.ntmps4
    go_wp2_with fail
    refine (r_right a0 false HO.out _).mono ?_
    rintro r w' ⟨rfl, hw'⟩
    obtain rfl := hw'.symm
    have S1 := box B0.size
    have B1 : Below w.heap.size w (w.alloc (Obj.cells #[.int .u64 0, .int .u64 0] 26)) := btr7 B0 (bal7 _ _)
    have Rnone_1 : (w.alloc (Obj.cells #[.int .u64 0, .int .u64 0] 26)).heap[w.heap.size]? = some (Obj.cells #[.int .u64 0, .int .u64 0] 26) := heap_alloc_last _ _
    clear B0 
    have cnone_1_0 := cell7 Rnone_1 0 _ rfl
    have cnone_1_1 := cell7 Rnone_1 1 _ rfl
    go_wp2_with fail
    obtain ⟨F, hF1, hF2⟩ := below_fun (w.alloc (Obj.cells #[.int .u64 0, .int .u64 0] 26))
    have fnone_0 := fun u => cell7 (heap_of (hF1 u) _ _ _ Rnone_1) 0 _ rfl
    have fnone_1 := fun u => cell7 (heap_of (hF1 u) _ _ _ Rnone_1) 1 _ rfl
    have TF : Box (∀ u, FAt (F u)) := box (fun u => fatB TT.out (btr7 B1 (hF1 u)))
    refine wp_region_below F hF2 (by kernel_rfl) (by kernel_rfl) ?_
    repeat first | go_big_quiet_step (first | (go_at_call 22; exact quietF hF1 hF2 (K0.out _ (TF.out _))) | (go_at_call 23; exact quietF hF1 hF2 (K1.out _ (TF.out _))) | (go_at_call 24; exact quietF hF1 hF2 (K2.out _ (TF.out _))) | (go_at_call 25; exact quietF hF1 hF2 (K3.out _ (TF.out _))) | (go_at_call 26; exact quietF hF1 hF2 (K4.out _ (TF.out _))) | (go_at_call 27; exact quietF hF1 hF2 (K5.out _ (TF.out _))) | (go_at_call 28; exact quietF hF1 hF2 (K6.out _ (TF.out _))) | (go_at_call 21; exact quietF hF1 hF2 (s_alive _ (TF.out _))) | fail) | quiet_step (first | (go_at_call 22; exact quietF hF1 hF2 (K0.out _ (TF.out _))) | (go_at_call 23; exact quietF hF1 hF2 (K1.out _ (TF.out _))) | (go_at_call 24; exact quietF hF1 hF2 (K2.out _ (TF.out _))) | (go_at_call 25; exact quietF hF1 hF2 (K3.out _ (TF.out _))) | (go_at_call 26; exact quietF hF1 hF2 (K4.out _ (TF.out _))) | (go_at_call 27; exact quietF hF1 hF2 (K5.out _ (TF.out _))) | (go_at_call 28; exact quietF hF1 hF2 (K6.out _ (TF.out _))) | (go_at_call 21; exact quietF hF1 hF2 (s_alive _ (TF.out _))) | fail)
    refine wpQuiet_nil ?_
    rintro _ ⟨uW, rfl⟩
    have B2 := btr7 B1 (hF1 uW)
    have Rnone_2 := heap_of (hF1 uW) _ _ _ Rnone_1
    obtain ⟨w2, hw⟩ : ∃ V, F uW = V := ⟨_, rfl⟩
    rw [hw] at B2 Rnone_2
    try rw [hw]
    clear hw hF1 hF2 B1 fnone_0 fnone_1 Rnone_1 cnone_1_0 cnone_1_1
    clear TF
    clear F
    have cnone_2_0 := cell7 Rnone_2 0 _ rfl
    have cnone_2_1 := cell7 Rnone_2 1 _ rfl
    go_wp2
    go_ret
    exact ⟨rfl, B2⟩

set_option maxRecDepth 100000 in
theorem lifted (os : Os) (started : os.Started) (H : Type) (enc : TypeId × Value → H) :
    ReturnsInHanded {} Tryd.checked os 4 .any (fun w args => (Rows.shapeMakesSpec.pre enc Tryd.prog Tryd.f4 [] false w args ∧ laidMetH Tryd.prog laid7 w) ∧ sizedMet enc Tryd.prog Tryd.f4 (OpenSpec.ofChange Rows.shapeMakesSpec) false w args)
      (Rows.shapeMakesSpec.post enc Tryd.prog Tryd.f4 false true false false) := by
  refine returnsInHanded_of_change_and (C := Tryd.checked) (X := fun w _ => laidMetH Tryd.prog laid7 w) (fun _ _ _ hh h => h.of_heap hh) own started (by kernel_rfl) Tryd.func4
    (ChangeSpec.witness_shaped (enc := enc) (C := Tryd.checked) (os := os) (X := fun w _ => laidMetH Tryd.prog laid7 w) false (World.doorLaid Tryd.prog 400 os) #[.int .u8 0, .bool false] 8 rfl (World.shaped_of_RefB (by kernel_rfl) (by kernel_rfl)) (by kernel_rfl) (by kernel_rfl) (by kernel_rfl) (door_met7 os _)) ?_
  intro W base args ds gs before hval0 hW _ _ hL _
  have hval : ∀ (j : Nat) t v, Tryd.f4.params[j]? = some t → args[j]? = some v → Value.okWide Tryd.prog W .any base t v := hval0
  have hW' := hW
  obtain ⟨p, q, hA0, hV, rfl, hfz, hnd⟩ := hW
  have hA : DataW.TrodAll enc Tryd.prog W 0 (fun _ => true) true Tryd.f4.params.toList args.toList ds p := hA0
  rw [Tryd.params4] at hA hval
  obtain ⟨v0, vs0, d0, ds0, p0, q0, hargs, rfl, rfl, k0, r0⟩ := trodAll_cons hA
  obtain ⟨v1, vs1, d1, ds1, p1, q1, rfl, rfl, rfl, k1, r1⟩ := trodAll_cons r0
  obtain ⟨rfl, rfl, rfl⟩ := trodAll_nil r1
  obtain rfl : args = #[v0, v1] := by cases args; simp_all
  obtain ⟨rfl, rfl⟩ := trodVars_none hV
  obtain ⟨a0, rfl, rfl, rfl, h0⟩ := open_int Tryd.underlying22 (hval 0 22 v0 rfl rfl) k0
  obtain ⟨a1, rfl, rfl, rfl⟩ := open_bool Tryd.underlying4 (hval 1 4 v1 rfl rfl) k1
  clear hA0 hval0
  simp only [List.append_nil] at hW'
  refine (walk a0 a1 h0 W (of_laid7 hL)).mono fun e W' ⟨he, hg⟩ => ?_
  subst he
  exact ⟨_, rfl, post_plain hW' (fun _ _ _ => trodAll_mk1 (shut_bool Tryd.underlying4 _)) (fun sp => (trodAll_cons_mk (shut_int Tryd.underlying22 h0) (trodAll_cons_mk (shut_bool Tryd.underlying4 _) trodAll_mk0))) (fun _ => rfl) hg (ok_one (by kernel_rfl) rfl (okWide_bool_mk Tryd.underlying4 _))⟩

theorem over : Rows.ShapeMakesSaid :=
  OpenClaim.holds_of_wide 4 Tryd.f4 rfl rfl rfl rfl rfl rfl rfl ⟨rfl, rfl, rfl, rfl, rfl⟩ rfl rfl rfl rfl rfl (by kernel_rfl) Tryd.func4 (by kernel_rfl)
    (of_decide_eq_true (by kernel_rfl)) (by unfold Func.isWrapper; first | (rw [if_pos (by decide +kernel)]; kernel_rfl) | (rw [if_neg (by decide +kernel)]; exact ⟨rfl, rfl⟩))
    (fun os started H enc _ => lifted os started H enc)

theorem proved : Rows.ShapeMakesCardSaid :=
  Claim7.holds_tied_plain_at .later [] [.data] true (true, "c37990678c10b719edc1d93dd120d60deda3d1b1059eb7dbc9831a082f9c81fc") false
    over (fun _ h => by cases h) (by kernel_rfl) (fun _ h => by cases h) shapeMakes_row_tie rfl ⟨rfl, rfl⟩ (by kernel_rfl) rfl
    (fun f fn hf hfn => by
      obtain rfl : f = 4 := Option.some.inj ((show Tryd.prog.funcNamed "abacus/abacuslaw07.ShapeMakes" = some 4 by kernel_rfl).symm.trans hf) |>.symm
      obtain rfl : fn = Tryd.f4 := (Option.some.inj (Tryd.func4.symm.trans hfn)).symm
      exact ⟨by kernel_rfl, fun j t ht => by
        rw [Tryd.params4] at ht
        have h3 : t = 22 ∨ t = 4 := by
          rcases j with _ | _ | j
          · exact (Or.inl (by simpa using ht.symm))
          · exact (Or.inr (by simpa using ht.symm))
          · simp at ht
        rcases h3 with rfl | rfl
        · exact (show Tryd.prog.wantsStandIn 22 = false by kernel_rfl)
        · exact (show Tryd.prog.wantsStandIn 4 = false by kernel_rfl)⟩)
    (by kernel_rfl)
#print axioms proved
end Go.Proofs.YtjbefkceieklmaaDoor.shapeMakes
