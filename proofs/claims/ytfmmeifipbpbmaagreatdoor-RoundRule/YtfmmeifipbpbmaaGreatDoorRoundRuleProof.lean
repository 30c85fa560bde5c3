/-
  RoundRule returns true for every format, mode and rough number, and every part: where they may be, package round delivers what package rule delivers of the exact number, or of any one that stands above it by less than one unit of its last place.
-/
import Derived.Test.YtfmmeifipbpbmaaGreatDoorRows
import Derived.Test.YtfmmeifipbpbmaaGreatDoorTie
import Derived.Test.YtfmmeifipbpbmaaGreatDoorCards
import Derived.WalkKit
import Derived.ProofKit
import Derived.OpenShut
import Derived.LaidMore
import Derived.Stop.Joined
import Derived.Lib.LaidTab
import Derived.SevenTiedAt
import Derived.Test.YtfmmeifipbpbmaaGreatDoorOb19
namespace Go.Proofs.YtfmmeifipbpbmaaGreatDoor.roundRule
open WMath
open Go.ChangeShapes Go.WideShapes Go.ChangeAt Go.RowKit
open XMath
set_option linter.unusedVariables false

theorem own : ownKnob Tryz.prog.godebug = none := by kernel_rfl

set_option maxRecDepth 100000 in
set_option maxHeartbeats 4000000 in
theorem walk (a0 : Int) (a1 : Int) (rn2 : Bool) (rs2 : Nat) (rx2 : Int) (rm2 : Bool) (a3 : Int) (h0 : (Lit.int .u8 a0).wf = true) (h1 : (Lit.int .u8 a1).wf = true) (h2 : rs2 < Q ∧ (Lit.int .i64 rx2).wf = true) (h3 : (Lit.int .u64 a3).wf = true) (w : World) (hT : TabAt w ∧ FAt w) :
    Calls Tryz.prog 6 #[.int .u8 a0, .int .u8 a1, .agg (rg rn2 rs2 rx2 rm2), .int .u64 a3] w fun e w' => e = .returned (.bool true) ∧ Below w.heap.size w w' := by
  have TT := box hT.1
  have FF := box hT.2
  clear hT
  have b0 := bounds_u8 h0
  have b1 := bounds_u8 h1
  have KA := box r10alive
  have KR : Box (∀ w, Calls Tryz.prog 14 #[.int .u8 a0] w fun r w' => r = .returned (.bool (decide (a0 ≤ 3))) ∧ Below w.heap.size w w') := box (fun w => bel_same (r_right a0 _ rfl w))
  have KM : Box (∀ w, Calls Tryz.prog 19 #[.int .u8 a1] w fun r w' => r = .returned (.bool (decide (a1 ≤ 4))) ∧ Below w.heap.size w w') := box (fun w => bel_same (r_mode a1 _ rfl w))
  have hat := cw_at 6
  have hz := cw6z
  have hff := cw6f
  have hs0 := st0
  have hcs : ∀ x, ((cw 6 x).size = 6) = True := fun x => eq_true (cw_size 6 x)
  have heq := eq6
  have hg := eqg6
  have hQ0 := Q_pos
  have hQs : rs2 < Q := h2.1
  have hp1 := rgf
  have hp3 := rgz
  have hp5 : ∀ (c : Bool) (s : Nat) (x : Int) (r : Bool), ((rg c s x r).size = 9) = True := fun _ _ _ _ => eq_true rfl
  by_cases c1 : a0 ≤ 3
  case neg =>
    rw [decide_eq_false c1] at KR
    clear h0 h1 h2 h3 b0 b1 c1
    obtain ⟨Rx_0, B0⟩ := opn1 w (Obj.cells (rg rn2 rs2 rx2 rm2) 64)
    go_enter Tryz.func6, Tryz.ntmps6
    obtain ⟨cx_0_0, cx_0_1, cx_0_2, cx_0_3, cx_0_4, cx_0_5, cx_0_6, cx_0_7, cx_0_8⟩ := rg_cells Rx_0
    go_wp2_with fail
    refine (KR.out _).mono ?_
    rintro r w1 ⟨rfl, b1⟩
    have B1 : Below w.heap.size w w1 := btr B0 b1
    have Rx_1 := heap_of b1 _ _ _ Rx_0
    clear b1 B0 Rx_0 cx_0_0 cx_0_1 cx_0_2 cx_0_3 cx_0_4 cx_0_5 cx_0_6 cx_0_7 cx_0_8
    obtain ⟨cx_1_0, cx_1_1, cx_1_2, cx_1_3, cx_1_4, cx_1_5, cx_1_6, cx_1_7, cx_1_8⟩ := rg_cells Rx_1
    go_wp2_with fail
    refine (KA.out _ (fatB FF.out B1)).mono ?_
    rintro r w2 ⟨rfl, b2⟩
    have B2 : Below w.heap.size w w2 := btr B1 b2
    have Rx_2 := heap_of b2 _ _ _ Rx_1
    clear b2 B1 Rx_1 cx_1_0 cx_1_1 cx_1_2 cx_1_3 cx_1_4 cx_1_5 cx_1_6 cx_1_7 cx_1_8
    obtain ⟨cx_2_0, cx_2_1, cx_2_2, cx_2_3, cx_2_4, cx_2_5, cx_2_6, cx_2_7, cx_2_8⟩ := rg_cells Rx_2
    go_wp2
    go_ret
    exact ⟨rfl, B2⟩
  rw [decide_eq_true c1] at KR
  by_cases c2 : a1 ≤ 4
  case neg =>
    rw [decide_eq_false c2] at KM
    clear h0 h1 h2 h3 b0 b1 c1 c2
    obtain ⟨Rx_0, B0⟩ := opn1 w (Obj.cells (rg rn2 rs2 rx2 rm2) 64)
    go_enter Tryz.func6, Tryz.ntmps6
    obtain ⟨cx_0_0, cx_0_1, cx_0_2, cx_0_3, cx_0_4, cx_0_5, cx_0_6, cx_0_7, cx_0_8⟩ := rg_cells Rx_0
    go_wp2_with fail
    refine (KR.out _).mono ?_
    rintro r w1 ⟨rfl, b1⟩
    have B1 : Below w.heap.size w w1 := btr B0 b1
    have Rx_1 := heap_of b1 _ _ _ Rx_0
    clear b1 B0 Rx_0 cx_0_0 cx_0_1 cx_0_2 cx_0_3 cx_0_4 cx_0_5 cx_0_6 cx_0_7 cx_0_8
    obtain ⟨cx_1_0, cx_1_1, cx_1_2, cx_1_3, cx_1_4, cx_1_5, cx_1_6, cx_1_7, cx_1_8⟩ := rg_cells Rx_1
    go_wp2_with fail
    refine (KM.out _).mono ?_
    rintro r w2 ⟨rfl, b2⟩
    have B2 : Below w.heap.size w w2 := btr B1 b2
    have Rx_2 := heap_of b2 _ _ _ Rx_1
    clear b2 B1 Rx_1 cx_1_0 cx_1_1 cx_1_2 cx_1_3 cx_1_4 cx_1_5 cx_1_6 cx_1_7 cx_1_8
    obtain ⟨cx_2_0, cx_2_1, cx_2_2, cx_2_3, cx_2_4, cx_2_5, cx_2_6, cx_2_7, cx_2_8⟩ := rg_cells Rx_2
    go_wp2_with fail
    refine (KA.out _ (fatB FF.out B2)).mono ?_
    rintro r w3 ⟨rfl, b3⟩
    have B3 : Below w.heap.size w w3 := btr B2 b3
    have Rx_3 := heap_of b3 _ _ _ Rx_2
    clear b3 B2 Rx_2 cx_2_0 cx_2_1 cx_2_2 cx_2_3 cx_2_4 cx_2_5 cx_2_6 cx_2_7 cx_2_8
    obtain ⟨cx_3_0, cx_3_1, cx_3_2, cx_3_3, cx_3_4, cx_3_5, cx_3_6, cx_3_7, cx_3_8⟩ := rg_cells Rx_3
    go_wp2
    go_ret
    exact ⟨rfl, B3⟩
  rw [decide_eq_true c2] at KM
  have hf := is4_of b0.1 c1
  have hm : 0 ≤ a1 ∧ a1 ≤ 4 := ⟨b1.1, c2⟩
  by_cases c3 : -1048576 ≤ rx2 ∧ rx2 ≤ 1048576 ∧ (rm2 = true → pV a0 + 3 ≤ blen rs2)
  case neg =>
    have KY : Box (∀ w, Calls Tryz.prog 33 #[.int .u8 a0, .agg (rg rn2 rs2 rx2 rm2)] w fun r w' => r = .returned (.bool false) ∧ Below w.heap.size w w') := box (fun w => rOmay a0 hf rn2 rs2 h2.1 rx2 rm2 false (decide_eq_false c3) w)
    clear h0 h1 h2 h3 b0 b1 c1 c2 c3 hm hf
    obtain ⟨Rx_0, B0⟩ := opn1 w (Obj.cells (rg rn2 rs2 rx2 rm2) 64)
    go_enter Tryz.func6, Tryz.ntmps6
    obtain ⟨cx_0_0, cx_0_1, cx_0_2, cx_0_3, cx_0_4, cx_0_5, cx_0_6, cx_0_7, cx_0_8⟩ := rg_cells Rx_0
    go_wp2_with fail
    refine (KR.out _).mono ?_
    rintro r w1 ⟨rfl, b1⟩
    have B1 : Below w.heap.size w w1 := btr B0 b1
    have Rx_1 := heap_of b1 _ _ _ Rx_0
    clear b1 B0 Rx_0 cx_0_0 cx_0_1 cx_0_2 cx_0_3 cx_0_4 cx_0_5 cx_0_6 cx_0_7 cx_0_8
    obtain ⟨cx_1_0, cx_1_1, cx_1_2, cx_1_3, cx_1_4, cx_1_5, cx_1_6, cx_1_7, cx_1_8⟩ := rg_cells Rx_1
    go_wp2_with fail
    refine (KM.out _).mono ?_
    rintro r w2 ⟨rfl, b2⟩
    have B2 : Below w.heap.size w w2 := btr B1 b2
    have Rx_2 := heap_of b2 _ _ _ Rx_1
    clear b2 B1 Rx_1 cx_1_0 cx_1_1 cx_1_2 cx_1_3 cx_1_4 cx_1_5 cx_1_6 cx_1_7 cx_1_8
    obtain ⟨cx_2_0, cx_2_1, cx_2_2, cx_2_3, cx_2_4, cx_2_5, cx_2_6, cx_2_7, cx_2_8⟩ := rg_cells Rx_2
    go_wp2_with fail
    refine (KY.out _).mono ?_
    rintro r w3 ⟨rfl, b3⟩
    have B3 : Below w.heap.size w w3 := btr B2 b3
    have Rx_3 := heap_of b3 _ _ _ Rx_2
    clear b3 B2 Rx_2 cx_2_0 cx_2_1 cx_2_2 cx_2_3 cx_2_4 cx_2_5 cx_2_6 cx_2_7 cx_2_8
    obtain ⟨cx_3_0, cx_3_1, cx_3_2, cx_3_3, cx_3_4, cx_3_5, cx_3_6, cx_3_7, cx_3_8⟩ := rg_cells Rx_3
    go_wp2_with fail
    refine (KA.out _ (fatB FF.out B3)).mono ?_
    rintro r w4 ⟨rfl, b4⟩
    have B4 : Below w.heap.size w w4 := btr B3 b4
    have Rx_4 := heap_of b4 _ _ _ Rx_3
    clear b4 B3 Rx_3 cx_3_0 cx_3_1 cx_3_2 cx_3_3 cx_3_4 cx_3_5 cx_3_6 cx_3_7 cx_3_8
    obtain ⟨cx_4_0, cx_4_1, cx_4_2, cx_4_3, cx_4_4, cx_4_5, cx_4_6, cx_4_7, cx_4_8⟩ := rg_cells Rx_4
    go_wp2
    go_ret
    exact ⟨rfl, B4⟩
  have KY : Box (∀ w, Calls Tryz.prog 33 #[.int .u8 a0, .agg (rg rn2 rs2 rx2 rm2)] w fun r w' => r = .returned (.bool true) ∧ Below w.heap.size w w') := box (fun w => rOmay a0 hf rn2 rs2 h2.1 rx2 rm2 true (decide_eq_true c3) w)
  by_cases c4 : rs2 = 0
  case pos =>
    have hz := eq_true c4
    clear h0 h1 h2 h3 b0 b1 c1 c2 c3 c4 hm hf
    obtain ⟨Rx_0, B0⟩ := opn1 w (Obj.cells (rg rn2 rs2 rx2 rm2) 64)
    go_enter Tryz.func6, Tryz.ntmps6
    obtain ⟨cx_0_0, cx_0_1, cx_0_2, cx_0_3, cx_0_4, cx_0_5, cx_0_6, cx_0_7, cx_0_8⟩ := rg_cells Rx_0
    go_wp2_with fail
    refine (KR.out _).mono ?_
    rintro r w1 ⟨rfl, b1⟩
    have B1 : Below w.heap.size w w1 := btr B0 b1
    have Rx_1 := heap_of b1 _ _ _ Rx_0
    clear b1 B0 Rx_0 cx_0_0 cx_0_1 cx_0_2 cx_0_3 cx_0_4 cx_0_5 cx_0_6 cx_0_7 cx_0_8
    obtain ⟨cx_1_0, cx_1_1, cx_1_2, cx_1_3, cx_1_4, cx_1_5, cx_1_6, cx_1_7, cx_1_8⟩ := rg_cells Rx_1
    go_wp2_with fail
    refine (KM.out _).mono ?_
    rintro r w2 ⟨rfl, b2⟩
    have B2 : Below w.heap.size w w2 := btr B1 b2
    have Rx_2 := heap_of b2 _ _ _ Rx_1
    clear b2 B1 Rx_1 cx_1_0 cx_1_1 cx_1_2 cx_1_3 cx_1_4 cx_1_5 cx_1_6 cx_1_7 cx_1_8
    obtain ⟨cx_2_0, cx_2_1, cx_2_2, cx_2_3, cx_2_4, cx_2_5, cx_2_6, cx_2_7, cx_2_8⟩ := rg_cells Rx_2
    go_wp2_with fail
    refine (KY.out _).mono ?_
    rintro r w3 ⟨rfl, b3⟩
    have B3 : Below w.heap.size w w3 := btr B2 b3
    have Rx_3 := heap_of b3 _ _ _ Rx_2
    clear b3 B2 Rx_2 cx_2_0 cx_2_1 cx_2_2 cx_2_3 cx_2_4 cx_2_5 cx_2_6 cx_2_7 cx_2_8
    obtain ⟨cx_3_0, cx_3_1, cx_3_2, cx_3_3, cx_3_4, cx_3_5, cx_3_6, cx_3_7, cx_3_8⟩ := rg_cells Rx_3
    go_wp2_with fail
    refine (KA.out _ (fatB FF.out B3)).mono ?_
    rintro r w4 ⟨rfl, b4⟩
    have B4 : Below w.heap.size w w4 := btr B3 b4
    have Rx_4 := heap_of b4 _ _ _ Rx_3
    clear b4 B3 Rx_3 cx_3_0 cx_3_1 cx_3_2 cx_3_3 cx_3_4 cx_3_5 cx_3_6 cx_3_7 cx_3_8
    obtain ⟨cx_4_0, cx_4_1, cx_4_2, cx_4_3, cx_4_4, cx_4_5, cx_4_6, cx_4_7, cx_4_8⟩ := rg_cells Rx_4
    go_wp2
    go_ret
    exact ⟨rfl, B4⟩
  have hz := eq_false c4
  by_cases c5 : 20000 < rx2
  case pos =>
    have d1 : decide (20000 < rx2) = true := decide_eq_true c5
    clear h0 h1 h2 h3 b0 b1 c1 c2 c3 c4 c5 hm hf
    obtain ⟨Rx_0, B0⟩ := opn1 w (Obj.cells (rg rn2 rs2 rx2 rm2) 64)
    go_enter Tryz.func6, Tryz.ntmps6
    obtain ⟨cx_0_0, cx_0_1, cx_0_2, cx_0_3, cx_0_4, cx_0_5, cx_0_6, cx_0_7, cx_0_8⟩ := rg_cells Rx_0
    go_wp2_with fail
    refine (KR.out _).mono ?_
    rintro r w1 ⟨rfl, b1⟩
    have B1 : Below w.heap.size w w1 := btr B0 b1
    have Rx_1 := heap_of b1 _ _ _ Rx_0
    clear b1 B0 Rx_0 cx_0_0 cx_0_1 cx_0_2 cx_0_3 cx_0_4 cx_0_5 cx_0_6 cx_0_7 cx_0_8
    obtain ⟨cx_1_0, cx_1_1, cx_1_2, cx_1_3, cx_1_4, cx_1_5, cx_1_6, cx_1_7, cx_1_8⟩ := rg_cells Rx_1
    go_wp2_with fail
    refine (KM.out _).mono ?_
    rintro r w2 ⟨rfl, b2⟩
    have B2 : Below w.heap.size w w2 := btr B1 b2
    have Rx_2 := heap_of b2 _ _ _ Rx_1
    clear b2 B1 Rx_1 cx_1_0 cx_1_1 cx_1_2 cx_1_3 cx_1_4 cx_1_5 cx_1_6 cx_1_7 cx_1_8
    obtain ⟨cx_2_0, cx_2_1, cx_2_2, cx_2_3, cx_2_4, cx_2_5, cx_2_6, cx_2_7, cx_2_8⟩ := rg_cells Rx_2
    go_wp2_with fail
    refine (KY.out _).mono ?_
    rintro r w3 ⟨rfl, b3⟩
    have B3 : Below w.heap.size w w3 := btr B2 b3
    have Rx_3 := heap_of b3 _ _ _ Rx_2
    clear b3 B2 Rx_2 cx_2_0 cx_2_1 cx_2_2 cx_2_3 cx_2_4 cx_2_5 cx_2_6 cx_2_7 cx_2_8
    obtain ⟨cx_3_0, cx_3_1, cx_3_2, cx_3_3, cx_3_4, cx_3_5, cx_3_6, cx_3_7, cx_3_8⟩ := rg_cells Rx_3
    go_wp2_with fail
    refine (KA.out _ (fatB FF.out B3)).mono ?_
    rintro r w4 ⟨rfl, b4⟩
    have B4 : Below w.heap.size w w4 := btr B3 b4
    have Rx_4 := heap_of b4 _ _ _ Rx_3
    clear b4 B3 Rx_3 cx_3_0 cx_3_1 cx_3_2 cx_3_3 cx_3_4 cx_3_5 cx_3_6 cx_3_7 cx_3_8
    obtain ⟨cx_4_0, cx_4_1, cx_4_2, cx_4_3, cx_4_4, cx_4_5, cx_4_6, cx_4_7, cx_4_8⟩ := rg_cells Rx_4
    go_wp2
    go_ret
    exact ⟨rfl, B4⟩
  have d1 : decide (20000 < rx2) = false := decide_eq_false c5
  by_cases c6 : rx2 < -20000
  case pos =>
    have d2 : decide (rx2 < -20000) = true := decide_eq_true c6
    clear h0 h1 h2 h3 b0 b1 c1 c2 c3 c4 c5 c6 hm hf
    obtain ⟨Rx_0, B0⟩ := opn1 w (Obj.cells (rg rn2 rs2 rx2 rm2) 64)
    go_enter Tryz.func6, Tryz.ntmps6
    obtain ⟨cx_0_0, cx_0_1, cx_0_2, cx_0_3, cx_0_4, cx_0_5, cx_0_6, cx_0_7, cx_0_8⟩ := rg_cells Rx_0
    go_wp2_with fail
    refine (KR.out _).mono ?_
    rintro r w1 ⟨rfl, b1⟩
    have B1 : Below w.heap.size w w1 := btr B0 b1
    have Rx_1 := heap_of b1 _ _ _ Rx_0
    clear b1 B0 Rx_0 cx_0_0 cx_0_1 cx_0_2 cx_0_3 cx_0_4 cx_0_5 cx_0_6 cx_0_7 cx_0_8
    obtain ⟨cx_1_0, cx_1_1, cx_1_2, cx_1_3, cx_1_4, cx_1_5, cx_1_6, cx_1_7, cx_1_8⟩ := rg_cells Rx_1
    go_wp2_with fail
    refine (KM.out _).mono ?_
    rintro r w2 ⟨rfl, b2⟩
    have B2 : Below w.heap.size w w2 := btr B1 b2
    have Rx_2 := heap_of b2 _ _ _ Rx_1
    clear b2 B1 Rx_1 cx_1_0 cx_1_1 cx_1_2 cx_1_3 cx_1_4 cx_1_5 cx_1_6 cx_1_7 cx_1_8
    obtain ⟨cx_2_0, cx_2_1, cx_2_2, cx_2_3, cx_2_4, cx_2_5, cx_2_6, cx_2_7, cx_2_8⟩ := rg_cells Rx_2
    go_wp2_with fail
    refine (KY.out _).mono ?_
    rintro r w3 ⟨rfl, b3⟩
    have B3 : Below w.heap.size w w3 := btr B2 b3
    have Rx_3 := heap_of b3 _ _ _ Rx_2
    clear b3 B2 Rx_2 cx_2_0 cx_2_1 cx_2_2 cx_2_3 cx_2_4 cx_2_5 cx_2_6 cx_2_7 cx_2_8
    obtain ⟨cx_3_0, cx_3_1, cx_3_2, cx_3_3, cx_3_4, cx_3_5, cx_3_6, cx_3_7, cx_3_8⟩ := rg_cells Rx_3
    go_wp2_with fail
    refine (KA.out _ (fatB FF.out B3)).mono ?_
    rintro r w4 ⟨rfl, b4⟩
    have B4 : Below w.heap.size w w4 := btr B3 b4
    have Rx_4 := heap_of b4 _ _ _ Rx_3
    clear b4 B3 Rx_3 cx_3_0 cx_3_1 cx_3_2 cx_3_3 cx_3_4 cx_3_5 cx_3_6 cx_3_7 cx_3_8
    obtain ⟨cx_4_0, cx_4_1, cx_4_2, cx_4_3, cx_4_4, cx_4_5, cx_4_6, cx_4_7, cx_4_8⟩ := rg_cells Rx_4
    go_wp2
    go_ret
    exact ⟨rfl, B4⟩
  have d2 : decide (rx2 < -20000) = false := decide_eq_false c6
  have wr : IntKind.i64.wrap (rx2 - 60) = rx2 - 60 := wrap_i64_is _ (by omega) (by omega)
  have K1 : Box (∀ w, Calls Tryz.prog 35 #[.agg (cw 6 rs2)] w fun r w' => r = .returned (.string (nbA rs2)) ∧ Below w.heap.size w w') := box (fun w => nat_OfWide rs2 _ h2.1 rfl w)
  obtain ⟨p3, hp3n, rfl⟩ := nat_u64 h3
  obtain ⟨k, hk⟩ : ∃ k : Nat, k = 60 := ⟨_, rfl⟩
  have p60 : 2 ^ k = 1152921504606846976 := by subst hk; decide
  obtain ⟨S, hS⟩ : ∃ S, rs2 * 2 ^ k = S := ⟨_, rfl⟩
  cases rm2
  · obtain ⟨u, v, fl, a, e, KP, KN, KD, hlf, hlg, l1, l2⟩ := rule_num a0 a1 hf hm rn2 rs2 h2.1 c4 rx2 false (by omega) (by omega) c3.2.2 k hk 0 (Nat.two_pow_pos k) rfl S S hS (Nat.add_zero S)
    have K2 : Box (∀ w, Calls Tryz.prog 34 #[.string (nbA rs2), .int .i64 60] w fun r w' => r = .returned (.tuple #[.string (nbA (S)), .int .i64 0]) ∧ Below w.heap.size w w') := box (fun w => nat_Left rs2 60 _ _ 0 rfl l2 (by decide) hlf w)
    obtain ⟨n1, hn1⟩ : ∃ n1, nbA rs2 = n1 := ⟨_, rfl⟩
    obtain ⟨n2, hn2⟩ : ∃ n2, nbA (S) = n2 := ⟨_, rfl⟩
    rw [hn1] at K1 K2
    rw [hn2] at K2 KN
    clear h0 h1 h2 h3 b0 b1 c1 c2 c3 c4 c5 c6 hm hf hlf hlg l1 l2 hS hk p60 hn1 hn2 hp3n
    obtain ⟨Rx_0, B0⟩ := opn1 w (Obj.cells (rg rn2 rs2 rx2 false) 64)
    go_enter Tryz.func6, Tryz.ntmps6
    obtain ⟨cx_0_0, cx_0_1, cx_0_2, cx_0_3, cx_0_4, cx_0_5, cx_0_6, cx_0_7, cx_0_8⟩ := rg_cells Rx_0
    go_wp2_with fail
    refine (KR.out _).mono ?_
    rintro r w1 ⟨rfl, b1⟩
    have B1 : Below w.heap.size w w1 := btr B0 b1
    have Rx_1 := heap_of b1 _ _ _ Rx_0
    clear b1 B0 Rx_0 cx_0_0 cx_0_1 cx_0_2 cx_0_3 cx_0_4 cx_0_5 cx_0_6 cx_0_7 cx_0_8
    obtain ⟨cx_1_0, cx_1_1, cx_1_2, cx_1_3, cx_1_4, cx_1_5, cx_1_6, cx_1_7, cx_1_8⟩ := rg_cells Rx_1
    go_wp2_with fail
    refine (KM.out _).mono ?_
    rintro r w2 ⟨rfl, b2⟩
    have B2 : Below w.heap.size w w2 := btr B1 b2
    have Rx_2 := heap_of b2 _ _ _ Rx_1
    clear b2 B1 Rx_1 cx_1_0 cx_1_1 cx_1_2 cx_1_3 cx_1_4 cx_1_5 cx_1_6 cx_1_7 cx_1_8
    obtain ⟨cx_2_0, cx_2_1, cx_2_2, cx_2_3, cx_2_4, cx_2_5, cx_2_6, cx_2_7, cx_2_8⟩ := rg_cells Rx_2
    go_wp2_with fail
    refine (KY.out _).mono ?_
    rintro r w3 ⟨rfl, b3⟩
    have B3 : Below w.heap.size w w3 := btr B2 b3
    have Rx_3 := heap_of b3 _ _ _ Rx_2
    clear b3 B2 Rx_2 cx_2_0 cx_2_1 cx_2_2 cx_2_3 cx_2_4 cx_2_5 cx_2_6 cx_2_7 cx_2_8
    obtain ⟨cx_3_0, cx_3_1, cx_3_2, cx_3_3, cx_3_4, cx_3_5, cx_3_6, cx_3_7, cx_3_8⟩ := rg_cells Rx_3
    go_wp2_with fail
    refine (K1.out _).mono ?_
    rintro r w4 ⟨rfl, b4⟩
    have B4 : Below w.heap.size w w4 := btr B3 b4
    have Rx_4 := heap_of b4 _ _ _ Rx_3
    clear b4 B3 Rx_3 cx_3_0 cx_3_1 cx_3_2 cx_3_3 cx_3_4 cx_3_5 cx_3_6 cx_3_7 cx_3_8
    obtain ⟨cx_4_0, cx_4_1, cx_4_2, cx_4_3, cx_4_4, cx_4_5, cx_4_6, cx_4_7, cx_4_8⟩ := rg_cells Rx_4
    go_wp2_with fail
    refine (K2.out _).mono ?_
    rintro r w5 ⟨rfl, b5⟩
    have B5 : Below w.heap.size w w5 := btr B4 b5
    have Rx_5 := heap_of b5 _ _ _ Rx_4
    clear b5 B4 Rx_4 cx_4_0 cx_4_1 cx_4_2 cx_4_3 cx_4_4 cx_4_5 cx_4_6 cx_4_7 cx_4_8
    obtain ⟨cx_5_0, cx_5_1, cx_5_2, cx_5_3, cx_5_4, cx_5_5, cx_5_6, cx_5_7, cx_5_8⟩ := rg_cells Rx_5
    go_wp2_with fail
    refine (KN.out _).mono ?_
    rintro r w6 ⟨rfl, b6⟩
    have B6 : Below w.heap.size w w6 := btr B5 b6
    have Rx_6 := heap_of b6 _ _ _ Rx_5
    clear b6 B5 Rx_5 cx_5_0 cx_5_1 cx_5_2 cx_5_3 cx_5_4 cx_5_5 cx_5_6 cx_5_7 cx_5_8
    obtain ⟨cx_6_0, cx_6_1, cx_6_2, cx_6_3, cx_6_4, cx_6_5, cx_6_6, cx_6_7, cx_6_8⟩ := rg_cells Rx_6
    have S7 := box B6.size
    have Lx_7 : Box (w.heap.size < w6.heap.size) := box (Array.getElem?_eq_some_iff.1 Rx_6).1
    have Rv_7 := heap_alloc_last w6 (Obj.cells #[.bool rn2, .string a, .string ⟨#[1]⟩, .int .i64 e] 41)
    have B7 := btr B6 (bal w6 (Obj.cells #[.bool rn2, .string a, .string ⟨#[1]⟩, .int .i64 e] 41))
    have Rx_7 := heap_of (bal w6 (Obj.cells #[.bool rn2, .string a, .string ⟨#[1]⟩, .int .i64 e] 41)) _ _ _ Rx_6
    clear B6 Rx_6 cx_6_0 cx_6_1 cx_6_2 cx_6_3 cx_6_4 cx_6_5 cx_6_6 cx_6_7 cx_6_8
    obtain ⟨cx_7_0, cx_7_1, cx_7_2, cx_7_3, cx_7_4, cx_7_5, cx_7_6, cx_7_7, cx_7_8⟩ := rg_cells Rx_7
    obtain ⟨cv_7_0, cv_7_1, cv_7_2, cv_7_3⟩ := cells4s Rv_7
    go_wp2_with fail
    refine (KP.out _ (fatB FF.out B7)).mono ?_
    rintro r w8 ⟨rfl, b8⟩
    have B8 : Below w.heap.size w w8 := btr B7 b8
    have Rx_8 := heap_of b8 _ _ _ Rx_7
    have Rv_8 := heap_of b8 _ _ _ Rv_7
    clear b8 B7 Rx_7 cx_7_0 cx_7_1 cx_7_2 cx_7_3 cx_7_4 cx_7_5 cx_7_6 cx_7_7 cx_7_8 Rv_7 cv_7_0 cv_7_1 cv_7_2 cv_7_3
    obtain ⟨cx_8_0, cx_8_1, cx_8_2, cx_8_3, cx_8_4, cx_8_5, cx_8_6, cx_8_7, cx_8_8⟩ := rg_cells Rx_8
    obtain ⟨cv_8_0, cv_8_1, cv_8_2, cv_8_3⟩ := cells4s Rv_8
    have S9 := box B8.size
    have Lx_9 : Box (w.heap.size < w8.heap.size) := box (Array.getElem?_eq_some_iff.1 Rx_8).1
    have Lv_9 : Box (w6.heap.size < w8.heap.size) := box (Array.getElem?_eq_some_iff.1 Rv_8).1
    have Rb_9 := heap_alloc_last w8 (Obj.cells #[.int .u64 (u : Nat), .int .u64 (v : Nat)] 25)
    have B9 := btr B8 (bal w8 (Obj.cells #[.int .u64 (u : Nat), .int .u64 (v : Nat)] 25))
    have Rx_9 := heap_of (bal w8 (Obj.cells #[.int .u64 (u : Nat), .int .u64 (v : Nat)] 25)) _ _ _ Rx_8
    have Rv_9 := heap_of (bal w8 (Obj.cells #[.int .u64 (u : Nat), .int .u64 (v : Nat)] 25)) _ _ _ Rv_8
    clear B8 Rx_8 cx_8_0 cx_8_1 cx_8_2 cx_8_3 cx_8_4 cx_8_5 cx_8_6 cx_8_7 cx_8_8 Rv_8 cv_8_0 cv_8_1 cv_8_2 cv_8_3
    obtain ⟨cx_9_0, cx_9_1, cx_9_2, cx_9_3, cx_9_4, cx_9_5, cx_9_6, cx_9_7, cx_9_8⟩ := rg_cells Rx_9
    obtain ⟨cv_9_0, cv_9_1, cv_9_2, cv_9_3⟩ := cells4s Rv_9
    obtain ⟨cb_9_0, cb_9_1⟩ := cells2s Rb_9
    go_wp2_with fail
    refine (KD.out _ (fatB FF.out B9) (tabB TT.out B9)).mono ?_
    rintro r w10 ⟨rfl, b10⟩
    have B10 : Below w.heap.size w w10 := btr B9 b10
    have Rx_10 := heap_of b10 _ _ _ Rx_9
    have Rv_10 := heap_of b10 _ _ _ Rv_9
    have Rb_10 := heap_of b10 _ _ _ Rb_9
    clear b10 B9 Rx_9 cx_9_0 cx_9_1 cx_9_2 cx_9_3 cx_9_4 cx_9_5 cx_9_6 cx_9_7 cx_9_8 Rv_9 cv_9_0 cv_9_1 cv_9_2 cv_9_3 Rb_9 cb_9_0 cb_9_1
    obtain ⟨cx_10_0, cx_10_1, cx_10_2, cx_10_3, cx_10_4, cx_10_5, cx_10_6, cx_10_7, cx_10_8⟩ := rg_cells Rx_10
    obtain ⟨cv_10_0, cv_10_1, cv_10_2, cv_10_3⟩ := cells4s Rv_10
    obtain ⟨cb_10_0, cb_10_1⟩ := cells2s Rb_10
    have S11 := box B10.size
    have Lx_11 : Box (w.heap.size < w10.heap.size) := box (Array.getElem?_eq_some_iff.1 Rx_10).1
    have Lv_11 : Box (w6.heap.size < w10.heap.size) := box (Array.getElem?_eq_some_iff.1 Rv_10).1
    have Lb_11 : Box (w8.heap.size < w10.heap.size) := box (Array.getElem?_eq_some_iff.1 Rb_10).1
    have Rc_11 := heap_alloc_last w10 (Obj.cells #[.int .u64 (u : Nat), .int .u64 (v : Nat)] 25)
    have B11 := btr B10 (bal w10 (Obj.cells #[.int .u64 (u : Nat), .int .u64 (v : Nat)] 25))
    have Rx_11 := heap_of (bal w10 (Obj.cells #[.int .u64 (u : Nat), .int .u64 (v : Nat)] 25)) _ _ _ Rx_10
    have Rv_11 := heap_of (bal w10 (Obj.cells #[.int .u64 (u : Nat), .int .u64 (v : Nat)] 25)) _ _ _ Rv_10
    have Rb_11 := heap_of (bal w10 (Obj.cells #[.int .u64 (u : Nat), .int .u64 (v : Nat)] 25)) _ _ _ Rb_10
    clear B10 Rx_10 cx_10_0 cx_10_1 cx_10_2 cx_10_3 cx_10_4 cx_10_5 cx_10_6 cx_10_7 cx_10_8 Rv_10 cv_10_0 cv_10_1 cv_10_2 cv_10_3 Rb_10 cb_10_0 cb_10_1
    obtain ⟨cx_11_0, cx_11_1, cx_11_2, cx_11_3, cx_11_4, cx_11_5, cx_11_6, cx_11_7, cx_11_8⟩ := rg_cells Rx_11
    obtain ⟨cv_11_0, cv_11_1, cv_11_2, cv_11_3⟩ := cells4s Rv_11
    obtain ⟨cb_11_0, cb_11_1⟩ := cells2s Rb_11
    obtain ⟨cc_11_0, cc_11_1⟩ := cells2s Rc_11
    go_wp2_with fail
    refine (KA.out _ (fatB FF.out B11)).mono ?_
    rintro r w12 ⟨rfl, b12⟩
    have B12 : Below w.heap.size w w12 := btr B11 b12
    have Rx_12 := heap_of b12 _ _ _ Rx_11
    have Rv_12 := heap_of b12 _ _ _ Rv_11
    have Rb_12 := heap_of b12 _ _ _ Rb_11
    have Rc_12 := heap_of b12 _ _ _ Rc_11
    clear b12 B11 Rx_11 cx_11_0 cx_11_1 cx_11_2 cx_11_3 cx_11_4 cx_11_5 cx_11_6 cx_11_7 cx_11_8 Rv_11 cv_11_0 cv_11_1 cv_11_2 cv_11_3 Rb_11 cb_11_0 cb_11_1 Rc_11 cc_11_0 cc_11_1
    obtain ⟨cx_12_0, cx_12_1, cx_12_2, cx_12_3, cx_12_4, cx_12_5, cx_12_6, cx_12_7, cx_12_8⟩ := rg_cells Rx_12
    obtain ⟨cv_12_0, cv_12_1, cv_12_2, cv_12_3⟩ := cells4s Rv_12
    obtain ⟨cb_12_0, cb_12_1⟩ := cells2s Rb_12
    obtain ⟨cc_12_0, cc_12_1⟩ := cells2s Rc_12
    go_wp2
    go_ret
    exact ⟨rfl, B12⟩
  · obtain ⟨u, v, fl, a, e, KP, KN, KD, hlf, hlg, l1, l2⟩ := rule_num a0 a1 hf hm rn2 rs2 h2.1 c4 rx2 true (by omega) (by omega) c3.2.2 k hk (p3 % 1152921504606846975 + 1) (by omega) (decide_eq_true (by omega)) S _ hS rfl
    have K2 : Box (∀ w, Calls Tryz.prog 34 #[.string (nbA rs2), .int .i64 60] w fun r w' => r = .returned (.tuple #[.string (nbA (S)), .int .i64 0]) ∧ Below w.heap.size w w') := box (fun w => nat_Left rs2 60 _ _ 0 rfl l2 (by decide) hlf w)
    have K3 : Box (∀ w, Calls Tryz.prog 37 #[.int .u64 ((p3 % 1152921504606846975 + 1 : Nat) : Int)] w fun r w' => r = .returned (.string (nbA (p3 % 1152921504606846975 + 1))) ∧ Below w.heap.size w w') := box (fun w => nat_Of _ _ (by omega) rfl w)
    have K4 : Box (∀ w, Calls Tryz.prog 36 #[.string (nbA (S)), .string (nbA (p3 % 1152921504606846975 + 1))] w fun r w' => r = .returned (.tuple #[.string (nbA (S + (p3 % 1152921504606846975 + 1))), .int .i64 0]) ∧ Below w.heap.size w w') := box (fun w => nat_Add _ _ _ _ _ 0 rfl rfl hlg (by omega) (Nat.le_trans (nl_pow _ 64 (by omega) (by decide)) (by decide)) w)
    have wm : IntKind.u64.wrap ((p3 : Int) % 1152921504606846975 + 1) = ((p3 % 1152921504606846975 + 1 : Nat) : Int) := by rw [IntKind.wrap_u64]; omega
    have wt : Int.tmod (p3 : Int) 1152921504606846975 = (p3 : Int) % 1152921504606846975 := Int.tmod_eq_emod_of_nonneg (by omega)
    have wm2 : IntKind.u64.wrap ((p3 : Int) % 1152921504606846975) = (p3 : Int) % 1152921504606846975 := by rw [IntKind.wrap_u64]; omega
    obtain ⟨n1, hn1⟩ : ∃ n1, nbA rs2 = n1 := ⟨_, rfl⟩
    obtain ⟨n2, hn2⟩ : ∃ n2, nbA (S) = n2 := ⟨_, rfl⟩
    obtain ⟨n3, hn3⟩ : ∃ n3, nbA (p3 % 1152921504606846975 + 1) = n3 := ⟨_, rfl⟩
    obtain ⟨n4, hn4⟩ : ∃ n4, nbA (S + (p3 % 1152921504606846975 + 1)) = n4 := ⟨_, rfl⟩
    obtain ⟨q, hq⟩ : ∃ q : Nat, p3 % 1152921504606846975 + 1 = q := ⟨_, rfl⟩
    rw [hn4] at K4 KN
    rw [hn3] at K3 K4
    rw [hn1] at K1 K2
    rw [hn2] at K2 K4
    rw [hq] at K3 wm
    clear h0 h1 h2 h3 b0 b1 c1 c2 c3 c4 c5 c6 hm hf hlf hlg l1 l2 hS hk p60 hn1 hn2 hn3 hn4 hp3n hq
    obtain ⟨Rx_0, B0⟩ := opn1 w (Obj.cells (rg rn2 rs2 rx2 true) 64)
    go_enter Tryz.func6, Tryz.ntmps6
    obtain ⟨cx_0_0, cx_0_1, cx_0_2, cx_0_3, cx_0_4, cx_0_5, cx_0_6, cx_0_7, cx_0_8⟩ := rg_cells Rx_0
    go_wp2_with fail
    refine (KR.out _).mono ?_
    rintro r w1 ⟨rfl, b1⟩
    have B1 : Below w.heap.size w w1 := btr B0 b1
    have Rx_1 := heap_of b1 _ _ _ Rx_0
    clear b1 B0 Rx_0 cx_0_0 cx_0_1 cx_0_2 cx_0_3 cx_0_4 cx_0_5 cx_0_6 cx_0_7 cx_0_8
    obtain ⟨cx_1_0, cx_1_1, cx_1_2, cx_1_3, cx_1_4, cx_1_5, cx_1_6, cx_1_7, cx_1_8⟩ := rg_cells Rx_1
    go_wp2_with fail
    refine (KM.out _).mono ?_
    rintro r w2 ⟨rfl, b2⟩
    have B2 : Below w.heap.size w w2 := btr B1 b2
    have Rx_2 := heap_of b2 _ _ _ Rx_1
    clear b2 B1 Rx_1 cx_1_0 cx_1_1 cx_1_2 cx_1_3 cx_1_4 cx_1_5 cx_1_6 cx_1_7 cx_1_8
    obtain ⟨cx_2_0, cx_2_1, cx_2_2, cx_2_3, cx_2_4, cx_2_5, cx_2_6, cx_2_7, cx_2_8⟩ := rg_cells Rx_2
    go_wp2_with fail
    refine (KY.out _).mono ?_
    rintro r w3 ⟨rfl, b3⟩
    have B3 : Below w.heap.size w w3 := btr B2 b3
    have Rx_3 := heap_of b3 _ _ _ Rx_2
    clear b3 B2 Rx_2 cx_2_0 cx_2_1 cx_2_2 cx_2_3 cx_2_4 cx_2_5 cx_2_6 cx_2_7 cx_2_8
    obtain ⟨cx_3_0, cx_3_1, cx_3_2, cx_3_3, cx_3_4, cx_3_5, cx_3_6, cx_3_7, cx_3_8⟩ := rg_cells Rx_3
    go_wp2_with fail
    refine (K1.out _).mono ?_
    rintro r w4 ⟨rfl, b4⟩
    have B4 : Below w.heap.size w w4 := btr B3 b4
    have Rx_4 := heap_of b4 _ _ _ Rx_3
    clear b4 B3 Rx_3 cx_3_0 cx_3_1 cx_3_2 cx_3_3 cx_3_4 cx_3_5 cx_3_6 cx_3_7 cx_3_8
    obtain ⟨cx_4_0, cx_4_1, cx_4_2, cx_4_3, cx_4_4, cx_4_5, cx_4_6, cx_4_7, cx_4_8⟩ := rg_cells Rx_4
    go_wp2_with fail
    refine (K2.out _).mono ?_
    rintro r w5 ⟨rfl, b5⟩
    have B5 : Below w.heap.size w w5 := btr B4 b5
    have Rx_5 := heap_of b5 _ _ _ Rx_4
    clear b5 B4 Rx_4 cx_4_0 cx_4_1 cx_4_2 cx_4_3 cx_4_4 cx_4_5 cx_4_6 cx_4_7 cx_4_8
    obtain ⟨cx_5_0, cx_5_1, cx_5_2, cx_5_3, cx_5_4, cx_5_5, cx_5_6, cx_5_7, cx_5_8⟩ := rg_cells Rx_5
    go_wp2_with fail
    refine (K3.out _).mono ?_
    rintro r w6 ⟨rfl, b6⟩
    have B6 : Below w.heap.size w w6 := btr B5 b6
    have Rx_6 := heap_of b6 _ _ _ Rx_5
    clear b6 B5 Rx_5 cx_5_0 cx_5_1 cx_5_2 cx_5_3 cx_5_4 cx_5_5 cx_5_6 cx_5_7 cx_5_8
    obtain ⟨cx_6_0, cx_6_1, cx_6_2, cx_6_3, cx_6_4, cx_6_5, cx_6_6, cx_6_7, cx_6_8⟩ := rg_cells Rx_6
    go_wp2_with fail
    refine (K4.out _).mono ?_
    rintro r w7 ⟨rfl, b7⟩
    have B7 : Below w.heap.size w w7 := btr B6 b7
    have Rx_7 := heap_of b7 _ _ _ Rx_6
    clear b7 B6 Rx_6 cx_6_0 cx_6_1 cx_6_2 cx_6_3 cx_6_4 cx_6_5 cx_6_6 cx_6_7 cx_6_8
    obtain ⟨cx_7_0, cx_7_1, cx_7_2, cx_7_3, cx_7_4, cx_7_5, cx_7_6, cx_7_7, cx_7_8⟩ := rg_cells Rx_7
    go_wp2_with fail
    refine (KN.out _).mono ?_
    rintro r w8 ⟨rfl, b8⟩
    have B8 : Below w.heap.size w w8 := btr B7 b8
    have Rx_8 := heap_of b8 _ _ _ Rx_7
    clear b8 B7 Rx_7 cx_7_0 cx_7_1 cx_7_2 cx_7_3 cx_7_4 cx_7_5 cx_7_6 cx_7_7 cx_7_8
    obtain ⟨cx_8_0, cx_8_1, cx_8_2, cx_8_3, cx_8_4, cx_8_5, cx_8_6, cx_8_7, cx_8_8⟩ := rg_cells Rx_8
    have S9 := box B8.size
    have Lx_9 : Box (w.heap.size < w8.heap.size) := box (Array.getElem?_eq_some_iff.1 Rx_8).1
    have Rv_9 := heap_alloc_last w8 (Obj.cells #[.bool rn2, .string a, .string ⟨#[1]⟩, .int .i64 e] 41)
    have B9 := btr B8 (bal w8 (Obj.cells #[.bool rn2, .string a, .string ⟨#[1]⟩, .int .i64 e] 41))
    have Rx_9 := heap_of (bal w8 (Obj.cells #[.bool rn2, .string a, .string ⟨#[1]⟩, .int .i64 e] 41)) _ _ _ Rx_8
    clear B8 Rx_8 cx_8_0 cx_8_1 cx_8_2 cx_8_3 cx_8_4 cx_8_5 cx_8_6 cx_8_7 cx_8_8
    obtain ⟨cx_9_0, cx_9_1, cx_9_2, cx_9_3, cx_9_4, cx_9_5, cx_9_6, cx_9_7, cx_9_8⟩ := rg_cells Rx_9
    obtain ⟨cv_9_0, cv_9_1, cv_9_2, cv_9_3⟩ := cells4s Rv_9
    go_wp2_with fail
    refine (KP.out _ (fatB FF.out B9)).mono ?_
    rintro r w10 ⟨rfl, b10⟩
    have B10 : Below w.heap.size w w10 := btr B9 b10
    have Rx_10 := heap_of b10 _ _ _ Rx_9
    have Rv_10 := heap_of b10 _ _ _ Rv_9
    clear b10 B9 Rx_9 cx_9_0 cx_9_1 cx_9_2 cx_9_3 cx_9_4 cx_9_5 cx_9_6 cx_9_7 cx_9_8 Rv_9 cv_9_0 cv_9_1 cv_9_2 cv_9_3
    obtain ⟨cx_10_0, cx_10_1, cx_10_2, cx_10_3, cx_10_4, cx_10_5, cx_10_6, cx_10_7, cx_10_8⟩ := rg_cells Rx_10
    obtain ⟨cv_10_0, cv_10_1, cv_10_2, cv_10_3⟩ := cells4s Rv_10
    have S11 := box B10.size
    have Lx_11 : Box (w.heap.size < w10.heap.size) := box (Array.getElem?_eq_some_iff.1 Rx_10).1
    have Lv_11 : Box (w8.heap.size < w10.heap.size) := box (Array.getElem?_eq_some_iff.1 Rv_10).1
    have Rb_11 := heap_alloc_last w10 (Obj.cells #[.int .u64 (u : Nat), .int .u64 (v : Nat)] 25)
    have B11 := btr B10 (bal w10 (Obj.cells #[.int .u64 (u : Nat), .int .u64 (v : Nat)] 25))
    have Rx_11 := heap_of (bal w10 (Obj.cells #[.int .u64 (u : Nat), .int .u64 (v : Nat)] 25)) _ _ _ Rx_10
    have Rv_11 := heap_of (bal w10 (Obj.cells #[.int .u64 (u : Nat), .int .u64 (v : Nat)] 25)) _ _ _ Rv_10
    clear B10 Rx_10 cx_10_0 cx_10_1 cx_10_2 cx_10_3 cx_10_4 cx_10_5 cx_10_6 cx_10_7 cx_10_8 Rv_10 cv_10_0 cv_10_1 cv_10_2 cv_10_3
    obtain ⟨cx_11_0, cx_11_1, cx_11_2, cx_11_3, cx_11_4, cx_11_5, cx_11_6, cx_11_7, cx_11_8⟩ := rg_cells Rx_11
    obtain ⟨cv_11_0, cv_11_1, cv_11_2, cv_11_3⟩ := cells4s Rv_11
    obtain ⟨cb_11_0, cb_11_1⟩ := cells2s Rb_11
    go_wp2_with fail
    refine (KD.out _ (fatB FF.out B11) (tabB TT.out B11)).mono ?_
    rintro r w12 ⟨rfl, b12⟩
    have B12 : Below w.heap.size w w12 := btr B11 b12
    have Rx_12 := heap_of b12 _ _ _ Rx_11
    have Rv_12 := heap_of b12 _ _ _ Rv_11
    have Rb_12 := heap_of b12 _ _ _ Rb_11
    clear b12 B11 Rx_11 cx_11_0 cx_11_1 cx_11_2 cx_11_3 cx_11_4 cx_11_5 cx_11_6 cx_11_7 cx_11_8 Rv_11 cv_11_0 cv_11_1 cv_11_2 cv_11_3 Rb_11 cb_11_0 cb_11_1
    obtain ⟨cx_12_0, cx_12_1, cx_12_2, cx_12_3, cx_12_4, cx_12_5, cx_12_6, cx_12_7, cx_12_8⟩ := rg_cells Rx_12
    obtain ⟨cv_12_0, cv_12_1, cv_12_2, cv_12_3⟩ := cells4s Rv_12
    obtain ⟨cb_12_0, cb_12_1⟩ := cells2s Rb_12
    have S13 := box B12.size
    have Lx_13 : Box (w.heap.size < w12.heap.size) := box (Array.getElem?_eq_some_iff.1 Rx_12).1
    have Lv_13 : Box (w8.heap.size < w12.heap.size) := box (Array.getElem?_eq_some_iff.1 Rv_12).1
    have Lb_13 : Box (w10.heap.size < w12.heap.size) := box (Array.getElem?_eq_some_iff.1 Rb_12).1
    have Rc_13 := heap_alloc_last w12 (Obj.cells #[.int .u64 (u : Nat), .int .u64 (v : Nat)] 25)
    have B13 := btr B12 (bal w12 (Obj.cells #[.int .u64 (u : Nat), .int .u64 (v : Nat)] 25))
    have Rx_13 := heap_of (bal w12 (Obj.cells #[.int .u64 (u : Nat), .int .u64 (v : Nat)] 25)) _ _ _ Rx_12
    have Rv_13 := heap_of (bal w12 (Obj.cells #[.int .u64 (u : Nat), .int .u64 (v : Nat)] 25)) _ _ _ Rv_12
    have Rb_13 := heap_of (bal w12 (Obj.cells #[.int .u64 (u : Nat), .int .u64 (v : Nat)] 25)) _ _ _ Rb_12
    clear B12 Rx_12 cx_12_0 cx_12_1 cx_12_2 cx_12_3 cx_12_4 cx_12_5 cx_12_6 cx_12_7 cx_12_8 Rv_12 cv_12_0 cv_12_1 cv_12_2 cv_12_3 Rb_12 cb_12_0 cb_12_1
    obtain ⟨cx_13_0, cx_13_1, cx_13_2, cx_13_3, cx_13_4, cx_13_5, cx_13_6, cx_13_7, cx_13_8⟩ := rg_cells Rx_13
    obtain ⟨cv_13_0, cv_13_1, cv_13_2, cv_13_3⟩ := cells4s Rv_13
    obtain ⟨cb_13_0, cb_13_1⟩ := cells2s Rb_13
    obtain ⟨cc_13_0, cc_13_1⟩ := cells2s Rc_13
    go_wp2_with fail
    refine (KA.out _ (fatB FF.out B13)).mono ?_
    rintro r w14 ⟨rfl, b14⟩
    have B14 : Below w.heap.size w w14 := btr B13 b14
    have Rx_14 := heap_of b14 _ _ _ Rx_13
    have Rv_14 := heap_of b14 _ _ _ Rv_13
    have Rb_14 := heap_of b14 _ _ _ Rb_13
    have Rc_14 := heap_of b14 _ _ _ Rc_13
    clear b14 B13 Rx_13 cx_13_0 cx_13_1 cx_13_2 cx_13_3 cx_13_4 cx_13_5 cx_13_6 cx_13_7 cx_13_8 Rv_13 cv_13_0 cv_13_1 cv_13_2 cv_13_3 Rb_13 cb_13_0 cb_13_1 Rc_13 cc_13_0 cc_13_1
    obtain ⟨cx_14_0, cx_14_1, cx_14_2, cx_14_3, cx_14_4, cx_14_5, cx_14_6, cx_14_7, cx_14_8⟩ := rg_cells Rx_14
    obtain ⟨cv_14_0, cv_14_1, cv_14_2, cv_14_3⟩ := cells4s Rv_14
    obtain ⟨cb_14_0, cb_14_1⟩ := cells2s Rb_14
    obtain ⟨cc_14_0, cc_14_1⟩ := cells2s Rc_14
    go_wp2
    go_ret
    exact ⟨rfl, B14⟩

set_option maxRecDepth 100000 in
theorem lifted (os : Os) (started : os.Started) (H : Type) (enc : TypeId × Value → H) :
    ReturnsInHanded {} Tryz.checked os 6 .any (fun w args => (Rows.roundRuleSpec.pre enc Tryz.prog Tryz.f6 [] false w args ∧ laidMetH Tryz.prog laid8 w) ∧ sizedMet enc Tryz.prog Tryz.f6 (OpenSpec.ofChange Rows.roundRuleSpec) false w args)
      (Rows.roundRuleSpec.post enc Tryz.prog Tryz.f6 false true false false) := by
  refine returnsInHanded_of_change_and (C := Tryz.checked) (X := fun w _ => laidMetH Tryz.prog laid8 w) (fun _ _ _ hh h => h.of_heap hh) own started (by kernel_rfl) Tryz.func6
    (ChangeSpec.witness_shaped (enc := enc) (C := Tryz.checked) (os := os) (X := fun w _ => laidMetH Tryz.prog laid8 w) false (World.doorLaid Tryz.prog 400 os) #[.int .u8 0, .int .u8 0, .agg #[.bool false, .int .u64 0, .int .u64 0, .int .u64 0, .int .u64 0, .int .u64 0, .int .u64 0, .int .i64 0, .bool false], .int .u64 0] 8 rfl (World.shaped_of_RefB (by kernel_rfl) (by kernel_rfl)) (by kernel_rfl) (by kernel_rfl) (by kernel_rfl) (door_met8 os _)) ?_
  intro W base args ds gs before hval0 hW _ _ hL _
  have hval : ∀ (j : Nat) t v, Tryz.f6.params[j]? = some t → args[j]? = some v → Value.okWide Tryz.prog W .any base t v := hval0
  have hW' := hW
  obtain ⟨p, q, hA0, hV, rfl, hfz, hnd⟩ := hW
  have hA : DataW.TrodAll enc Tryz.prog W 0 (fun _ => true) true Tryz.f6.params.toList args.toList ds p := hA0
  rw [Tryz.params6] at hA hval
  obtain ⟨v0, vs0, d0, ds0, p0, q0, hargs, rfl, rfl, k0, r0⟩ := trodAll_cons hA
  obtain ⟨v1, vs1, d1, ds1, p1, q1, rfl, rfl, rfl, k1, r1⟩ := trodAll_cons r0
  obtain ⟨v2, vs2, d2, ds2, p2, q2, rfl, rfl, rfl, k2, r2⟩ := trodAll_cons r1
  obtain ⟨v3, vs3, d3, ds3, p3, q3, rfl, rfl, rfl, k3, r3⟩ := trodAll_cons r2
  obtain ⟨rfl, rfl, rfl⟩ := trodAll_nil r3
  obtain rfl : args = #[v0, v1, v2, v3] := by cases args; simp_all
  obtain ⟨rfl, rfl⟩ := trodVars_none hV
  obtain ⟨a0, rfl, rfl, rfl, h0⟩ := open_int Tryz.underlying22 (hval 0 22 v0 rfl rfl) k0
  obtain ⟨a1, rfl, rfl, rfl, h1⟩ := open_int Tryz.underlying38 (hval 1 38 v1 rfl rfl) k1
  obtain ⟨rn2, rs2, rx2, rm2, rfl, rfl, rfl, h2⟩ := open_rough (hval 2 64 v2 rfl rfl) k2
  obtain ⟨a3, rfl, rfl, rfl, h3⟩ := open_int Tryz.underlying23 (hval 3 23 v3 rfl rfl) k3
  clear hA0 hval0
  simp only [List.append_nil] at hW'
  refine (walk a0 a1 rn2 rs2 rx2 rm2 a3 h0 h1 h2 h3 W (of_laid8 hL)).mono fun e W' ⟨he, hg⟩ => ?_
  subst he
  exact ⟨_, rfl, post_plain hW' (fun _ _ _ => trodAll_mk1 (shut_bool Tryz.underlying4 _)) (fun sp => (trodAll_cons_mk (shut_int Tryz.underlying22 h0) (trodAll_cons_mk (shut_int Tryz.underlying38 h1) (trodAll_cons_mk (shut_rough h2) (trodAll_cons_mk (shut_int Tryz.underlying23 h3) trodAll_mk0))))) (fun _ => rfl) hg (ok_one (by kernel_rfl) rfl (okWide_bool_mk Tryz.underlying4 _))⟩

theorem and2 {a b : Bool} (h : a = true) (k : b = true) : (a && b) = true := by rw [h, k]; rfl
set_option maxRecDepth 100000 in
set_option maxHeartbeats 4000000 in
theorem closed : joinedFacts Tryz.prog 6 Tryz.f6 Rows.roundRuleSpec Rows.roundRuleRow = true := by
  unfold joinedFacts
  refine (and2 (and2 (and2 (and2 (and2 (and2 (and2 (and2 (and2 (and2 (and2 (and2 (and2 (and2 (and2 (and2 (and2 (and2 (and2 (and2 (and2 (and2 (and2 (and2 (and2 (and2 (and2 (and2 (and2 (and2 (and2 ?_ ?_) ?_) ?_) ?_) ?_) ?_) ?_) ?_) ?_) ?_) ?_) ?_) ?_) ?_) ?_) ?_) ?_) ?_) ?_) ?_) ?_) ?_) ?_) ?_) ?_) ?_) ?_) ?_) ?_) ?_) ?_)
  all_goals as_aux_lemma => kernel_rfl
theorem over : Rows.RoundRuleSaid :=
  OpenClaim.holds_of_wide 6 Tryz.f6 rfl rfl rfl rfl rfl rfl rfl ⟨rfl, rfl, rfl, rfl, rfl⟩ rfl rfl rfl rfl rfl (by as_aux_lemma => kernel_rfl) Tryz.func6 closed
    (of_decide_eq_true (by kernel_rfl)) (by unfold Func.isWrapper; first | (rw [if_pos (by decide +kernel)]; kernel_rfl) | (rw [if_neg (by decide +kernel)]; exact ⟨rfl, rfl⟩))
    (fun os started H enc _ => lifted os started H enc)

theorem proved : Rows.RoundRuleCardSaid :=
  Claim7.holds_tied_plain_at .later [] [.data, .data] true (true, "7baa41e3f9a0e0cbcd2ab794102ed9129cff8907ce19e6b7f0bd13a27da82cc2") true
    over (fun _ h => by cases h) (by as_aux_lemma => kernel_rfl) (fun _ h => by cases h) roundRule_row_tie rfl ⟨rfl, rfl⟩ (by as_aux_lemma => kernel_rfl) rfl
    (fun f fn hf hfn => by
      obtain rfl : f = 6 := Option.some.inj ((show Tryz.prog.funcNamed "abacus/abacuslaw10.RoundRule" = some 6 by as_aux_lemma => kernel_rfl).symm.trans hf) |>.symm
      obtain rfl : fn = Tryz.f6 := (Option.some.inj (Tryz.func6.symm.trans hfn)).symm
      exact ⟨by as_aux_lemma => kernel_rfl, fun j t ht => by
        rw [Tryz.params6] at ht
        have h3 : t = 22 ∨ t = 38 ∨ t = 64 ∨ t = 23 := by
          rcases j with _ | _ | _ | _ | j
          · exact (Or.inl (by simpa using ht.symm))
          · exact (Or.inr (Or.inl (by simpa using ht.symm)))
          · exact (Or.inr (Or.inr (Or.inl (by simpa using ht.symm))))
          · exact (Or.inr (Or.inr (Or.inr (by simpa using ht.symm))))
          · simp at ht
        rcases h3 with rfl | rfl | rfl | rfl
        · exact (show Tryz.prog.wantsStandIn 22 = false by kernel_rfl)
        · exact (show Tryz.prog.wantsStandIn 38 = false by kernel_rfl)
        · exact (show Tryz.prog.wantsStandIn 64 = false by kernel_rfl)
        · exact (show Tryz.prog.wantsStandIn 23 = false by kernel_rfl)⟩)
    (by as_aux_lemma => kernel_rfl)
#print axioms proved
end Go.Proofs.YtfmmeifipbpbmaaGreatDoor.roundRule
