/-
  ExactSigns returns true for every exact number, whether it may be or not: signs, negatives and magnitudes are the document's.
-/
import Derived.Test.YthiongcednmjiaaDoorRows
import Derived.Test.YthiongcednmjiaaDoorTie
import Derived.Test.YthiongcednmjiaaDoorCards
import Derived.WalkKit
import Derived.ProofKit
import Derived.OpenShut
import Derived.LaidMore
import Derived.Stop.Joined
import Derived.Lib.LaidTab
import Derived.SevenTiedAt
import Derived.Test.YthiongcednmjiaaDoorFrame6
import Derived.Test.YthiongcednmjiaaDoorXL
import Derived.Test.YthiongcednmjiaaDoorXB
import Derived.Test.YthiongcednmjiaaDoorFrameX
namespace Go.Proofs.YthiongcednmjiaaDoor.exactSigns
open WMath
open Go.ChangeShapes Go.WideShapes Go.ChangeAt Go.RowKit
set_option linter.unusedVariables false

theorem own : ownKnob Tryd.prog.godebug = none := by kernel_rfl

set_option maxRecDepth 100000 in
set_option maxHeartbeats 4000000 in
theorem walk (b0 : Bool) (s0 t0 : ByteArray) (e0 : Int) (h0 : s0.size ≤ maxLen ∧ t0.size ≤ maxLen ∧ (Lit.int .i64 e0).wf = true) (w : World) (hT : TabAt w) :
    Calls Tryd.prog 4 #[.agg #[.bool b0, .string s0, .string t0, .int .i64 e0]] w fun e w' => e = .returned (.bool true) ∧ Below w.heap.size w w' := by
  have TT := box hT
  clear hT
  obtain ⟨o, ho⟩ : ∃ o, (decide (s0.size ≤ 80) && decide (t0.size ≤ 80)) = o := ⟨_, rfl⟩
  have HO := box ho
  obtain ⟨c, G1, G2⟩ := sign_both b0 s0 t0 e0
  obtain ⟨pb, pu, pv, pe, G3, G4⟩ := neg_both b0 s0 t0 e0
  obtain ⟨qb, qu, qv, qe, G5, G6⟩ := abs_both b0 s0 t0 e0
  have K1 := box G1
  have K2 := box G2
  have K3 := box G3
  have K4 := box G4
  have K5 := box G5
  have K6 := box G6
  clear ho h0 G1 G2 G3 G4 G5 G6
  cases o
  · have Rx_0 : (w.alloc (Obj.cells #[.bool b0, .string s0, .string t0, .int .i64 e0] 24)).heap[w.heap.size]? = some (Obj.cells #[.bool b0, .string s0, .string t0, .int .i64 e0] 24) := by have := heap_alloc_last w (Obj.cells #[.bool b0, .string s0, .string t0, .int .i64 e0] 24); simpa only [size_al] using this
    have B0 : Below w.heap.size w (w.alloc (Obj.cells #[.bool b0, .string s0, .string t0, .int .i64 e0] 24)) := ((Below.refl _ _).alloc (by first | omega | (simp only [size_al]; omega)) _)
    go_enter Tryd.func4, Tryd.ntmps4
    go_wp2_with fail
    refine (xshort b0 s0 t0 e0 80 80 false rfl HO.out _).mono ?_
    rintro r w1 ⟨rfl, b1⟩
    have B1 : Below w.heap.size w w1 := btr B0 b1
    have Rx_1 : w1.heap[w.heap.size]? = some (Obj.cells #[.bool b0, .string s0, .string t0, .int .i64 e0] 24) := heap_of b1 _ _ _ Rx_0
    clear b1 B0 Rx_0
    have cx_1_0 := cells4 Rx_1 0 _ rfl
    have cx_1_1 := cells4 Rx_1 1 _ rfl
    have cx_1_2 := cells4 Rx_1 2 _ rfl
    have cx_1_3 := cells4 Rx_1 3 _ rfl
    go_wp2_with fail
    refine (xalive _ (tabB TT.out B1)).mono ?_
    rintro r w2 ⟨rfl, b2⟩
    have B2 : Below w.heap.size w w2 := btr B1 b2
    have Rx_2 : w2.heap[w.heap.size]? = some (Obj.cells #[.bool b0, .string s0, .string t0, .int .i64 e0] 24) := heap_of b2 _ _ _ Rx_1
    clear b2 B1 Rx_1 cx_1_0 cx_1_1 cx_1_2 cx_1_3
    have cx_2_0 := cells4 Rx_2 0 _ rfl
    have cx_2_1 := cells4 Rx_2 1 _ rfl
    have cx_2_2 := cells4 Rx_2 2 _ rfl
    have cx_2_3 := cells4 Rx_2 3 _ rfl
    go_wp2
    go_ret
    exact ⟨rfl, B2⟩
  · have Rx_0 : (w.alloc (Obj.cells #[.bool b0, .string s0, .string t0, .int .i64 e0] 24)).heap[w.heap.size]? = some (Obj.cells #[.bool b0, .string s0, .string t0, .int .i64 e0] 24) := by have := heap_alloc_last w (Obj.cells #[.bool b0, .string s0, .string t0, .int .i64 e0] 24); simpa only [size_al] using this
    have B0 : Below w.heap.size w (w.alloc (Obj.cells #[.bool b0, .string s0, .string t0, .int .i64 e0] 24)) := ((Below.refl _ _).alloc (by first | omega | (simp only [size_al]; omega)) _)
    go_enter Tryd.func4, Tryd.ntmps4
    go_wp2_with fail
    refine (xshort b0 s0 t0 e0 80 80 true rfl HO.out _).mono ?_
    rintro r w1 ⟨rfl, b1⟩
    have B1 : Below w.heap.size w w1 := btr B0 b1
    have Rx_1 : w1.heap[w.heap.size]? = some (Obj.cells #[.bool b0, .string s0, .string t0, .int .i64 e0] 24) := heap_of b1 _ _ _ Rx_0
    clear b1 B0 Rx_0
    have cx_1_0 := cells4 Rx_1 0 _ rfl
    have cx_1_1 := cells4 Rx_1 1 _ rfl
    have cx_1_2 := cells4 Rx_1 2 _ rfl
    have cx_1_3 := cells4 Rx_1 3 _ rfl
    go_wp2_with fail
    obtain ⟨F, hF1, hF2⟩ := below_fun w1
    have fx_0 := fun u => cells4 (heap_of (hF1 u) _ _ _ Rx_1) 0 _ rfl
    have fx_1 := fun u => cells4 (heap_of (hF1 u) _ _ _ Rx_1) 1 _ rfl
    have fx_2 := fun u => cells4 (heap_of (hF1 u) _ _ _ Rx_1) 2 _ rfl
    have fx_3 := fun u => cells4 (heap_of (hF1 u) _ _ _ Rx_1) 3 _ rfl
    have TF : Box (∀ u, TabAt (F u)) := box (fun u => tabB TT.out (btr B1 (hF1 u)))
    refine wp_region_below F hF2 (by kernel_rfl) (by kernel_rfl) ?_
    repeat first | go_big_quiet_step (first | (go_at_call 18; exact quietF hF1 hF2 (K1.out _ (TF.out _))) | (go_at_call 19; exact quietF hF1 hF2 (K2.out _)) | (go_at_call 20; exact quietF hF1 hF2 (K3.out _ (TF.out _))) | (go_at_call 21; exact quietF hF1 hF2 (K4.out _)) | (go_at_call 22; exact quietF hF1 hF2 (K5.out _ (TF.out _))) | (go_at_call 23; exact quietF hF1 hF2 (K6.out _)) | (go_at_call 9; exact quietF hF1 hF2 (xalive _ (TF.out _))) | fail) | quiet_step (first | (go_at_call 18; exact quietF hF1 hF2 (K1.out _ (TF.out _))) | (go_at_call 19; exact quietF hF1 hF2 (K2.out _)) | (go_at_call 20; exact quietF hF1 hF2 (K3.out _ (TF.out _))) | (go_at_call 21; exact quietF hF1 hF2 (K4.out _)) | (go_at_call 22; exact quietF hF1 hF2 (K5.out _ (TF.out _))) | (go_at_call 23; exact quietF hF1 hF2 (K6.out _)) | (go_at_call 9; exact quietF hF1 hF2 (xalive _ (TF.out _))) | fail)
    refine wpQuiet_nil ?_
    rintro _ ⟨uW, rfl⟩
    have B2 := btr B1 (hF1 uW)
    have Rx_2 := heap_of (hF1 uW) _ _ _ Rx_1
    obtain ⟨w2, hw⟩ : ∃ V, F uW = V := ⟨_, rfl⟩
    rw [hw] at B2 Rx_2
    try rw [hw]
    clear hw hF1 hF2 B1 fx_0 fx_1 fx_2 fx_3 Rx_1 cx_1_0 cx_1_1 cx_1_2 cx_1_3
    clear TF
    clear F
    have cx_2_0 := cells4 Rx_2 0 _ rfl
    have cx_2_1 := cells4 Rx_2 1 _ rfl
    have cx_2_2 := cells4 Rx_2 2 _ rfl
    have cx_2_3 := cells4 Rx_2 3 _ rfl
    go_wp2
    go_ret
    exact ⟨rfl, B2⟩

def tabZ : List Int := [0, 1, 56, 2, 57, 49, 28, 3, 61, 58, 42, 50, 38, 29, 17, 4, 62, 47, 59, 36, 45, 43, 51, 22, 53, 39, 33, 30, 24, 18, 12, 5, 63, 55, 48, 27, 60, 41, 37, 16, 46, 35, 44, 21, 52, 32, 23, 11, 54, 26, 40, 15, 34, 20, 31, 10, 25, 14, 19, 9, 13, 8, 7, 6]
def laid1 : List (String × DataW Unit) := [("math/bits.deBruijn64tab", Rows.laid_math_bits_deBruijn64tab)]
theorem gTab : Tryd.prog.globalNamed "math/bits.deBruijn64tab" = some 0 := by kernel_rfl
theorem gType : (Tryd.prog.globals[0]?).map (·.type) = some 128 := by kernel_rfl
theorem cells5 : Tryd.prog.cellsOf 5 = 1 := by kernel_rfl
theorem cellsT : Tryd.prog.cellsOf 128 = 64 := by kernel_rfl
theorem tab_at : ∀ i : Fin 64, tabZ.getD i.val 0 = ((Lib.deBruijn64tab.getD i.val 0 : Nat) : Int) := by decide +kernel

theorem of_laid {W : World} (h : laidMetH Tryd.prog laid1 W) : TabAt W := by
  rw [MakeChecks.laidMetH_plain _ _ _ (by kernel_rfl)] at h
  have h' : laidMet Tryd.prog (("math/bits.deBruijn64tab", Lib.tabData .u8 tabZ) :: []) W := h
  have hT := Lib.tabIs_of_head gTab gType Tryd.underlying128 Tryd.underlying5 cells5 cellsT h'
  intro i hi
  have hc := hT.cell gTab i (show i < tabZ.length from hi)
  rw [tab_at ⟨i, hi⟩] at hc
  exact hc

theorem door_met (os : Os) (args : Array Value) : laidMetH Tryd.prog laid1 ((World.doorLaid Tryd.prog 400 os).forCall (fun _ _ => 0) ⟨#[], args, []⟩).memory :=
  laidMetH_of_parts3 (fuel := 8) (laidMet_of_run' 8 (by kernel_rfl) (by kernel_rfl)) (by kernel_rfl) (by kernel_rfl)

set_option maxRecDepth 100000 in
theorem lifted (os : Os) (started : os.Started) (H : Type) (enc : TypeId × Value → H) :
    ReturnsInHanded {} Tryd.checked os 4 .any (fun w args => (Rows.exactSignsSpec.pre enc Tryd.prog Tryd.f4 [] false w args ∧ laidMetH Tryd.prog laid1 w) ∧ sizedMet enc Tryd.prog Tryd.f4 (OpenSpec.ofChange Rows.exactSignsSpec) false w args)
      (Rows.exactSignsSpec.post enc Tryd.prog Tryd.f4 false true false false) := by
  refine returnsInHanded_of_change_and (C := Tryd.checked) (X := fun w _ => laidMetH Tryd.prog laid1 w) (fun _ _ _ hh h => h.of_heap hh) own started (by kernel_rfl) Tryd.func4
    (ChangeSpec.witness_shaped (enc := enc) (C := Tryd.checked) (os := os) (X := fun w _ => laidMetH Tryd.prog laid1 w) false (World.doorLaid Tryd.prog 400 os) #[.agg #[.bool false, .string ⟨#[]⟩, .string ⟨#[]⟩, .int .i64 0]] 8 rfl (World.shaped_of_RefB (by kernel_rfl) (by kernel_rfl)) (by kernel_rfl) (by kernel_rfl) (by kernel_rfl) (door_met os _)) ?_
  intro W base args ds gs before hval0 hW _ _ hL _
  have hval : ∀ (j : Nat) t v, Tryd.f4.params[j]? = some t → args[j]? = some v → Value.okWide Tryd.prog W .any base t v := hval0
  have hW' := hW
  obtain ⟨p, q, hA0, hV, rfl, hfz, hnd⟩ := hW
  have hA : DataW.TrodAll enc Tryd.prog W 0 (fun _ => true) true Tryd.f4.params.toList args.toList ds p := hA0
  rw [Tryd.params4] at hA hval
  obtain ⟨v0, vs0, d0, ds0, p0, q0, hargs, rfl, rfl, k0, r0⟩ := trodAll_cons hA
  obtain ⟨rfl, rfl, rfl⟩ := trodAll_nil r0
  obtain rfl : args = #[v0] := by cases args; simp_all
  obtain ⟨rfl, rfl⟩ := trodVars_none hV
  obtain ⟨b0, s0, t0, e0, rfl, rfl, rfl, h0⟩ := open_exact (hval 0 24 v0 rfl rfl) k0
  clear hA0 hval0
  simp only [List.append_nil] at hW'
  refine (walk b0 s0 t0 e0 h0 W (of_laid hL)).mono fun e W' ⟨he, hg⟩ => ?_
  subst he
  exact ⟨_, rfl, post_plain hW' (fun _ _ _ => trodAll_mk1 (shut_bool Tryd.underlying4 _)) (fun sp => (trodAll_cons_mk (shut_exact h0) trodAll_mk0)) (fun _ => rfl) hg (ok_one (by kernel_rfl) rfl (okWide_bool_mk Tryd.underlying4 _))⟩

theorem over : Rows.ExactSignsSaid :=
  OpenClaim.holds_of_wide 4 Tryd.f4 rfl rfl rfl rfl rfl rfl rfl ⟨rfl, rfl, rfl, rfl, rfl⟩ rfl rfl rfl rfl rfl (by kernel_rfl) Tryd.func4 (by kernel_rfl)
    (of_decide_eq_true (by kernel_rfl)) (by unfold Func.isWrapper; first | (rw [if_pos (by decide +kernel)]; kernel_rfl) | (rw [if_neg (by decide +kernel)]; exact ⟨rfl, rfl⟩))
    (fun os started H enc _ => lifted os started H enc)

theorem proved : Rows.ExactSignsCardSaid :=
  Claim7.holds_tied_plain_at .later [] [.data] true (true, "3e8d1fd3fa54bd73b2e4f17310d30ae8075bb6bb7b260c1ab5917f0247a466ea") false
    over (fun _ h => by cases h) (by kernel_rfl) (fun _ h => by cases h) exactSigns_row_tie rfl ⟨rfl, rfl⟩ (by kernel_rfl) rfl
    (fun f fn hf hfn => by
      obtain rfl : f = 4 := Option.some.inj ((show Tryd.prog.funcNamed "abacus/abacuslaw06.ExactSigns" = some 4 by kernel_rfl).symm.trans hf) |>.symm
      obtain rfl : fn = Tryd.f4 := (Option.some.inj (Tryd.func4.symm.trans hfn)).symm
      exact ⟨by kernel_rfl, fun j t ht => by
        rw [Tryd.params4] at ht
        have h3 : t = 24 := by
          rcases j with _ | j
          · exact (by simpa using ht.symm)
          · simp at ht
        rcases h3 with rfl
        · exact (show Tryd.prog.wantsStandIn 24 = false by kernel_rfl)⟩)
    (by kernel_rfl)
#print axioms proved
end Go.Proofs.YthiongcednmjiaaDoor.exactSigns
