/-
  ShapeNumbers returns true for every format, mode and bits: what is a format and what a mode, the numbers of a format, and which bits fit are the document's.
-/
import Derived.Test.YtjbefkceieklmaaDoorRows
import Derived.Test.YtjbefkceieklmaaDoorTie
import Derived.Test.YtjbefkceieklmaaDoorCards
import Derived.WalkKit
import Derived.ProofKit
import Derived.OpenShut
import Derived.LaidMore
import Derived.Stop.Joined
import Derived.Lib.LaidTab
import Derived.SevenTiedAt
import Derived.Test.YtjbefkceieklmaaDoorFrame6
import Derived.Test.YtjbefkceieklmaaDoorSL
import Derived.Test.YtjbefkceieklmaaDoorS6
import Derived.Test.YtjbefkceieklmaaDoorFrameB
namespace Go.Proofs.YtjbefkceieklmaaDoor.shapeNumbers
open WMath
open Go.ChangeShapes Go.WideShapes Go.ChangeAt Go.RowKit
set_option linter.unusedVariables false

theorem own : ownKnob Tryd.prog.godebug = none := by kernel_rfl

set_option maxRecDepth 100000 in
set_option maxHeartbeats 4000000 in
theorem walk (a0 : Int) (a1 : Int) (a2 : Nat × Nat) (h0 : (Lit.int .u8 a0).wf = true) (h1 : (Lit.int .u8 a1).wf = true) (h2 : a2.1 < 18446744073709551616 ∧ a2.2 < 18446744073709551616) (w : World) (hT : FAt w) :
    Calls Tryd.prog 3 #[.int .u8 a0, .int .u8 a1, bitsV a2] w fun e w' => e = .returned (.bool true) ∧ Below w.heap.size w w' := by
  have TT := box hT
  clear hT
  have b0 := bounds_u8 h0
  have b1 := bounds_u8 h1
  obtain ⟨c, hc⟩ : ∃ c : Int, fC a0 = c := ⟨_, rfl⟩
  obtain ⟨o, ho⟩ : ∃ o : Bool, decide (a0 ≤ 3) = o := ⟨_, rfl⟩
  have co : (c == 0) = o := by
    rw [← hc, ← ho]
    unfold fC
    by_cases h : a0 ≤ 3
    · rw [if_pos (by omega)]; simp [h]
    · rw [if_neg (by omega)]; simp [h]
  obtain ⟨c2, hc2⟩ : ∃ c : Int, (if a1 ≤ 4 then 0 else 2) = c := ⟨_, rfl⟩
  obtain ⟨o2, ho2⟩ : ∃ o : Bool, decide (a1 ≤ 4) = o := ⟨_, rfl⟩
  have co2 : (c2 == 0) = o2 := by
    rw [← hc2, ← ho2]
    by_cases h : a1 ≤ 4
    · rw [if_pos h]; simp [h]
    · rw [if_neg h]; simp [h]
  have KM : Box (∀ w : World, Calls Tryd.prog 9 #[.int .u8 a1] w fun e w' => e = .returned (.int .i64 c2) ∧ w' = w) := box (fun w => by rw [← hc2]; exact s_checkMode a1 w)
  have HC := box hc
  have HO := box ho
  have HO2 := box ho2
  obtain ⟨W, hW⟩ : ∃ W : Int, fW a0 = W := ⟨_, rfl⟩
  obtain ⟨P, hP⟩ : ∃ W : Int, fP a0 = W := ⟨_, rfl⟩
  obtain ⟨E, hE⟩ : ∃ W : Int, fE a0 = W := ⟨_, rfl⟩
  obtain ⟨N, hN⟩ : ∃ W : Int, (if fC a0 = 0 then 1 - E else 0) = W := ⟨_, rfl⟩
  obtain ⟨t, ht⟩ : ∃ t : Bool, fitsB a0 a2 = t := ⟨_, rfl⟩
  have HW := box hW
  have HP := box hP
  have HE := box hE
  have HN := box hN
  have HT := box ht
  have hb := h2
  clear hc ho hc2 ho2 hW hP hE hN ht h0 h1 h2
  have eb : bitsV a2 = .agg #[.int .u64 a2.1, .int .u64 a2.2] := rfl
  rw [eb]
  have KF := fun w hT => s_fits_is a0 a2 t b0.1 b0.2 hb.1 hb.2 HT.out w hT
  have KG := r_fits_is a0 a2 t b0.1 hb.1 hb.2 HT.out
  rw [eb] at KF KG
  have KF := box KF
  have KG := box KG
  clear eb
  obtain ⟨x, y⟩ := a2
  simp only at *
  have oo : (o != o) = false := by simp
  have oo2 : (o2 != o2) = false := by simp
  have Rb_0 : (w.alloc (Obj.cells #[.int .u64 x, .int .u64 y] 26)).heap[w.heap.size]? = some (Obj.cells #[.int .u64 x, .int .u64 y] 26) := by have := heap_alloc_last w (Obj.cells #[.int .u64 x, .int .u64 y] 26); simpa only [size_al] using this
  have B0 : Below w.heap.size w (w.alloc (Obj.cells #[.int .u64 x, .int .u64 y] 26)) := ((Below.refl _ _).alloc (by first | omega | (simp only [size_al]; omega)) _)
  go_enter Tryd.func3, Tryd.ntmps3
  go_wp2_with fail
  refine (s_check_is a0 c b0.1 b0.2 HC.out _).mono ?_
  rintro r w' ⟨rfl, hw'⟩
  obtain rfl := hw'.symm
  go_wp2_with fail
  refine (r_right a0 o HO.out _).mono ?_
  rintro r w' ⟨rfl, hw'⟩
  obtain rfl := hw'.symm
  go_wp2_with fail
  refine (KM.out _).mono ?_
  rintro r w' ⟨rfl, hw'⟩
  obtain rfl := hw'.symm
  go_wp2_with fail
  refine (r_mode a1 o2 HO2.out _).mono ?_
  rintro r w' ⟨rfl, hw'⟩
  obtain rfl := hw'.symm
  go_wp2_with fail
  obtain ⟨F, hF1, hF2⟩ := below_fun (w.alloc (Obj.cells #[.int .u64 x, .int .u64 y] 26))
  have fb_0 := fun u => cell7 (heap_of (hF1 u) _ _ _ Rb_0) 0 _ rfl
  have fb_1 := fun u => cell7 (heap_of (hF1 u) _ _ _ Rb_0) 1 _ rfl
  have TF : Box (∀ u, FAt (F u)) := box (fun u => fatB TT.out (btr7 B0 (hF1 u)))
  refine wp_region_below F hF2 (by kernel_rfl) (by kernel_rfl) ?_
  repeat first | go_big_quiet_step (first | (go_at_call 11; exact quietF hF1 hF2 (sb_width a0 W b0.1 b0.2 HW.out _ (TF.out _))) | (go_at_call 12; exact quietF0 (r_width a0 W b0.1 HW.out _)) | (go_at_call 13; exact quietF hF1 hF2 (sb_precision a0 P b0.1 b0.2 HP.out _ (TF.out _))) | (go_at_call 14; exact quietF0 (r_precision a0 P b0.1 HP.out _)) | (go_at_call 15; exact quietF hF1 hF2 (sb_emax a0 E b0.1 b0.2 HE.out _ (TF.out _))) | (go_at_call 16; exact quietF0 (r_emax a0 E b0.1 HE.out _)) | (go_at_call 17; exact quietF hF1 hF2 (s_emin a0 E N b0.1 b0.2 HE.out HN.out _ (TF.out _))) | (go_at_call 18; exact quietF0 (r_emin a0 E N b0.1 HE.out HN.out _)) | (go_at_call 19; exact quietF hF1 hF2 (KF.out _ (TF.out _))) | (go_at_call 20; exact quietF hF1 hF2 (KG.out _)) | (go_at_call 21; exact quietF hF1 hF2 (s_alive _ (TF.out _))) | fail) | quiet_step (first | (go_at_call 11; exact quietF hF1 hF2 (sb_width a0 W b0.1 b0.2 HW.out _ (TF.out _))) | (go_at_call 12; exact quietF0 (r_width a0 W b0.1 HW.out _)) | (go_at_call 13; exact quietF hF1 hF2 (sb_precision a0 P b0.1 b0.2 HP.out _ (TF.out _))) | (go_at_call 14; exact quietF0 (r_precision a0 P b0.1 HP.out _)) | (go_at_call 15; exact quietF hF1 hF2 (sb_emax a0 E b0.1 b0.2 HE.out _ (TF.out _))) | (go_at_call 16; exact quietF0 (r_emax a0 E b0.1 HE.out _)) | (go_at_call 17; exact quietF hF1 hF2 (s_emin a0 E N b0.1 b0.2 HE.out HN.out _ (TF.out _))) | (go_at_call 18; exact quietF0 (r_emin a0 E N b0.1 HE.out HN.out _)) | (go_at_call 19; exact quietF hF1 hF2 (KF.out _ (TF.out _))) | (go_at_call 20; exact quietF hF1 hF2 (KG.out _)) | (go_at_call 21; exact quietF hF1 hF2 (s_alive _ (TF.out _))) | fail)
  refine wpQuiet_nil ?_
  rintro _ ⟨uW, rfl⟩
  have B1 := btr7 B0 (hF1 uW)
  have Rb_1 := heap_of (hF1 uW) _ _ _ Rb_0
  obtain ⟨w1, hw⟩ : ∃ V, F uW = V := ⟨_, rfl⟩
  rw [hw] at B1 Rb_1
  try rw [hw]
  clear hw hF1 hF2 B0 fb_0 fb_1 Rb_0
  clear TF
  clear F
  have cb_1_0 := cell7 Rb_1 0 _ rfl
  have cb_1_1 := cell7 Rb_1 1 _ rfl
  go_wp2
  go_ret
  exact ⟨rfl, B1⟩

set_option maxRecDepth 100000 in
theorem lifted (os : Os) (started : os.Started) (H : Type) (enc : TypeId × Value → H) :
    ReturnsInHanded {} Tryd.checked os 3 .any (fun w args => (Rows.shapeNumbersSpec.pre enc Tryd.prog Tryd.f3 [] false w args ∧ laidMetH Tryd.prog laid7 w) ∧ sizedMet enc Tryd.prog Tryd.f3 (OpenSpec.ofChange Rows.shapeNumbersSpec) false w args)
      (Rows.shapeNumbersSpec.post enc Tryd.prog Tryd.f3 false true false false) := by
  refine returnsInHanded_of_change_and (C := Tryd.checked) (X := fun w _ => laidMetH Tryd.prog laid7 w) (fun _ _ _ hh h => h.of_heap hh) own started (by kernel_rfl) Tryd.func3
    (ChangeSpec.witness_shaped (enc := enc) (C := Tryd.checked) (os := os) (X := fun w _ => laidMetH Tryd.prog laid7 w) false (World.doorLaid Tryd.prog 400 os) #[.int .u8 0, .int .u8 0, .agg #[.int .u64 0, .int .u64 0]] 8 rfl (World.shaped_of_RefB (by kernel_rfl) (by kernel_rfl)) (by kernel_rfl) (by kernel_rfl) (by kernel_rfl) (door_met7 os _)) ?_
  intro W base args ds gs before hval0 hW _ _ hL _
  have hval : ∀ (j : Nat) t v, Tryd.f3.params[j]? = some t → args[j]? = some v → Value.okWide Tryd.prog W .any base t v := hval0
  have hW' := hW
  obtain ⟨p, q, hA0, hV, rfl, hfz, hnd⟩ := hW
  have hA : DataW.TrodAll enc Tryd.prog W 0 (fun _ => true) true Tryd.f3.params.toList args.toList ds p := hA0
  rw [Tryd.params3] at hA hval
  obtain ⟨v0, vs0, d0, ds0, p0, q0, hargs, rfl, rfl, k0, r0⟩ := trodAll_cons hA
  obtain ⟨v1, vs1, d1, ds1, p1, q1, rfl, rfl, rfl, k1, r1⟩ := trodAll_cons r0
  obtain ⟨v2, vs2, d2, ds2, p2, q2, rfl, rfl, rfl, k2, r2⟩ := trodAll_cons r1
  obtain ⟨rfl, rfl, rfl⟩ := trodAll_nil r2
  obtain rfl : args = #[v0, v1, v2] := by cases args; simp_all
  obtain ⟨rfl, rfl⟩ := trodVars_none hV
  obtain ⟨a0, rfl, rfl, rfl, h0⟩ := open_int Tryd.underlying22 (hval 0 22 v0 rfl rfl) k0
  obtain ⟨a1, rfl, rfl, rfl, h1⟩ := open_int Tryd.underlying23 (hval 1 23 v1 rfl rfl) k1
  obtain ⟨a2, h2, rfl, rfl, rfl⟩ := open_bits (hval 2 26 v2 rfl rfl) k2
  clear hA0 hval0
  simp only [List.append_nil] at hW'
  refine (walk a0 a1 a2 h0 h1 h2 W (of_laid7 hL)).mono fun e W' ⟨he, hg⟩ => ?_
  subst he
  exact ⟨_, rfl, post_plain hW' (fun _ _ _ => trodAll_mk1 (shut_bool Tryd.underlying4 _)) (fun sp => (trodAll_cons_mk (shut_int Tryd.underlying22 h0) (trodAll_cons_mk (shut_int Tryd.underlying23 h1) (trodAll_cons_mk (shut_bits a2 h2) trodAll_mk0)))) (fun _ => rfl) hg (ok_one (by kernel_rfl) rfl (okWide_bool_mk Tryd.underlying4 _))⟩

theorem over : Rows.ShapeNumbersSaid :=
  OpenClaim.holds_of_wide 3 Tryd.f3 rfl rfl rfl rfl rfl rfl rfl ⟨rfl, rfl, rfl, rfl, rfl⟩ rfl rfl rfl rfl rfl (by kernel_rfl) Tryd.func3 (by kernel_rfl)
    (of_decide_eq_true (by kernel_rfl)) (by unfold Func.isWrapper; first | (rw [if_pos (by decide +kernel)]; kernel_rfl) | (rw [if_neg (by decide +kernel)]; exact ⟨rfl, rfl⟩))
    (fun os started H enc _ => lifted os started H enc)

theorem proved : Rows.ShapeNumbersCardSaid :=
  Claim7.holds_tied_plain_at .later [] [.data] true (true, "c37990678c10b719edc1d93dd120d60deda3d1b1059eb7dbc9831a082f9c81fc") false
    over (fun _ h => by cases h) (by kernel_rfl) (fun _ h => by cases h) shapeNumbers_row_tie rfl ⟨rfl, rfl⟩ (by kernel_rfl) rfl
    (fun f fn hf hfn => by
      obtain rfl : f = 3 := Option.some.inj ((show Tryd.prog.funcNamed "abacus/abacuslaw07.ShapeNumbers" = some 3 by kernel_rfl).symm.trans hf) |>.symm
      obtain rfl : fn = Tryd.f3 := (Option.some.inj (Tryd.func3.symm.trans hfn)).symm
      exact ⟨by kernel_rfl, fun j t ht => by
        rw [Tryd.params3] at ht
        have h3 : t = 22 ∨ t = 23 ∨ t = 26 := by
          rcases j with _ | _ | _ | j
          · exact (Or.inl (by simpa using ht.symm))
          · exact (Or.inr (Or.inl (by simpa using ht.symm)))
          · exact (Or.inr (Or.inr (by simpa using ht.symm)))
          · simp at ht
        rcases h3 with rfl | rfl | rfl
        · exact (show Tryd.prog.wantsStandIn 22 = false by kernel_rfl)
        · exact (show Tryd.prog.wantsStandIn 23 = false by kernel_rfl)
        · exact (show Tryd.prog.wantsStandIn 26 = false by kernel_rfl)⟩)
    (by kernel_rfl)
#print axioms proved
end Go.Proofs.YtjbefkceieklmaaDoor.shapeNumbers
