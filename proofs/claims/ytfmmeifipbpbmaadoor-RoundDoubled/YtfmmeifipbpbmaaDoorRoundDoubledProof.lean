/-
  RoundDoubled returns true for every format, mode and rough number and every count: a significand that is moved to the left, with an exponent that is less by as much, is packed alike.
-/
import Derived.Test.YtfmmeifipbpbmaaDoorRows
import Derived.Test.YtfmmeifipbpbmaaDoorTie
import Derived.Test.YtfmmeifipbpbmaaDoorCards
import Derived.WalkKit
import Derived.ProofKit
import Derived.OpenShut
import Derived.LaidMore
import Derived.Stop.Joined
import Derived.Lib.LaidTab
import Derived.SevenTiedAt
import Derived.Test.YtfmmeifipbpbmaaDoorOd08
namespace Go.Proofs.YtfmmeifipbpbmaaDoor.roundDoubled
open WMath
open Go.ChangeShapes Go.WideShapes Go.ChangeAt Go.RowKit
set_option linter.unusedVariables false

theorem own : ownKnob Tryd.prog.godebug = none := by kernel_rfl

set_option maxRecDepth 100000 in
set_option maxHeartbeats 4000000 in
theorem walk (a0 : Int) (a1 : Int) (rn2 : Bool) (rs2 : Nat) (rx2 : Int) (rm2 : Bool) (a3 : Int) (h0 : (Lit.int .u8 a0).wf = true) (h1 : (Lit.int .u8 a1).wf = true) (h2 : rs2 < Q ∧ (Lit.int .i64 rx2).wf = true) (h3 : (Lit.int .i64 a3).wf = true) (w : World) (hT : FAt w) :
    Calls Tryd.prog 4 #[.int .u8 a0, .int .u8 a1, .agg (rg rn2 rs2 rx2 rm2), .int .i64 a3] w fun e w' => e = .returned (.bool true) ∧ Below w.heap.size w w' := by
  have FF := box hT
  clear hT
  have b0 := bounds_u8 h0
  have b1 := bounds_u8 h1
  have KA := box r10alive
  obtain ⟨k, hk, hand⟩ := mask63 a3
  obtain ⟨S, hS⟩ : ∃ S, rs2 * 2 ^ cnt6 (k : Int) % Q = S := ⟨_, rfl⟩
  obtain ⟨o, ho⟩ : ∃ o, decide (Q ≤ rs2 * 2 ^ cnt6 (k : Int)) = o := ⟨_, rfl⟩
  have KL : Box (∀ w, Calls Tryd.prog 11 #[.agg (cw 6 rs2), .int .i64 (k : Int)] w fun r w' => r = .returned (.tuple #[.agg (cw 6 S), .bool o]) ∧ Below w.heap.size w w') := box (fun w => rwleft_is rs2 S (k : Int) o h2.1 hS ho w)
  have hat := cw_at 6
  have hz := cw6z
  have hff := cw6f
  have hs0 := st0
  have hcs : ∀ x, ((cw 6 x).size = 6) = True := fun x => eq_true (cw_size 6 x)
  have hp1 := rgf
  have hp3 := rgz
  have hp4 := st_r0
  have hp5 : ∀ (c : Bool) (s : Nat) (x : Int) (r : Bool), ((rg c s x r).size = 9) = True := fun _ _ _ _ => eq_true rfl
  cases o
  case true =>
    clear h0 h1 h2 h3 b0 b1 hS ho hk
    obtain ⟨Rx_0, Ry_0, B0⟩ := opn2 w (Obj.cells (rg rn2 rs2 rx2 rm2) 39) (Obj.cells (rg rn2 rs2 rx2 rm2) 39)
    go_enter Tryd.func4, Tryd.ntmps4
    obtain ⟨cx_0_0, cx_0_1, cx_0_2, cx_0_3, cx_0_4, cx_0_5, cx_0_6, cx_0_7, cx_0_8⟩ := rg_cells Rx_0
    obtain ⟨cy_0_0, cy_0_1, cy_0_2, cy_0_3, cy_0_4, cy_0_5, cy_0_6, cy_0_7, cy_0_8⟩ := rg_cells Ry_0
    obtain ⟨k0, k1, k2, k3, k4, k5, k6, k7, k8⟩ := rg_cells (heap_alloc_last w (Obj.cells (rg rn2 rs2 rx2 rm2) 39))
    go_wp2_with fail
    refine (KL.out _).mono ?_
    rintro r w1 ⟨rfl, b1⟩
    have B1 : Below w.heap.size w w1 := btr B0 b1
    have Rx_1 := heap_of b1 _ _ _ Rx_0
    have Ry_1 := heap_of b1 _ _ _ Ry_0
    clear b1 B0 Rx_0 cx_0_0 cx_0_1 cx_0_2 cx_0_3 cx_0_4 cx_0_5 cx_0_6 cx_0_7 cx_0_8 Ry_0 cy_0_0 cy_0_1 cy_0_2 cy_0_3 cy_0_4 cy_0_5 cy_0_6 cy_0_7 cy_0_8
    obtain ⟨cx_1_0, cx_1_1, cx_1_2, cx_1_3, cx_1_4, cx_1_5, cx_1_6, cx_1_7, cx_1_8⟩ := rg_cells Rx_1
    obtain ⟨cy_1_0, cy_1_1, cy_1_2, cy_1_3, cy_1_4, cy_1_5, cy_1_6, cy_1_7, cy_1_8⟩ := rg_cells Ry_1
    clear k0 k1 k2 k3 k4 k5 k6 k7 k8
    have S2 := box B1.size
    have Lx_2 : Box (w.heap.size < w1.heap.size) := box (Array.getElem?_eq_some_iff.1 Rx_1).1
    have Ly_2 : Box (w.heap.size + 1 < w1.heap.size) := box (Array.getElem?_eq_some_iff.1 Ry_1).1
    have Rs_2 := heap_alloc_last w1 (Obj.cells (cw 6 S) 37)
    have B2 := btr B1 (bal w1 (Obj.cells (cw 6 S) 37))
    have Rx_2 := heap_of (bal w1 (Obj.cells (cw 6 S) 37)) _ _ _ Rx_1
    have Ry_2 := heap_of (bal w1 (Obj.cells (cw 6 S) 37)) _ _ _ Ry_1
    clear B1 Rx_1 cx_1_0 cx_1_1 cx_1_2 cx_1_3 cx_1_4 cx_1_5 cx_1_6 cx_1_7 cx_1_8 Ry_1 cy_1_0 cy_1_1 cy_1_2 cy_1_3 cy_1_4 cy_1_5 cy_1_6 cy_1_7 cy_1_8
    obtain ⟨cx_2_0, cx_2_1, cx_2_2, cx_2_3, cx_2_4, cx_2_5, cx_2_6, cx_2_7, cx_2_8⟩ := rg_cells Rx_2
    obtain ⟨cy_2_0, cy_2_1, cy_2_2, cy_2_3, cy_2_4, cy_2_5, cy_2_6, cy_2_7, cy_2_8⟩ := rg_cells Ry_2
    have cs_2_0 := row_cell Rs_2
    go_wp2_with fail
    refine (KA.out _ (fatB FF.out B2)).mono ?_
    rintro r w3 ⟨rfl, b3⟩
    have B3 : Below w.heap.size w w3 := btr B2 b3
    have Rx_3 := heap_of b3 _ _ _ Rx_2
    have Ry_3 := heap_of b3 _ _ _ Ry_2
    have Rs_3 := heap_of b3 _ _ _ Rs_2
    clear b3 B2 Rx_2 cx_2_0 cx_2_1 cx_2_2 cx_2_3 cx_2_4 cx_2_5 cx_2_6 cx_2_7 cx_2_8 Ry_2 cy_2_0 cy_2_1 cy_2_2 cy_2_3 cy_2_4 cy_2_5 cy_2_6 cy_2_7 cy_2_8 Rs_2 cs_2_0
    obtain ⟨cx_3_0, cx_3_1, cx_3_2, cx_3_3, cx_3_4, cx_3_5, cx_3_6, cx_3_7, cx_3_8⟩ := rg_cells Rx_3
    obtain ⟨cy_3_0, cy_3_1, cy_3_2, cy_3_3, cy_3_4, cy_3_5, cy_3_6, cy_3_7, cy_3_8⟩ := rg_cells Ry_3
    have cs_3_0 := row_cell Rs_3
    go_wp2
    go_ret
    exact ⟨rfl, B3⟩
  by_cases cm : rm2 = true
  case pos =>
    subst cm
    clear h0 h1 h2 h3 b0 b1 hS ho hk
    obtain ⟨Rx_0, Ry_0, B0⟩ := opn2 w (Obj.cells (rg rn2 rs2 rx2 true) 39) (Obj.cells (rg rn2 rs2 rx2 true) 39)
    go_enter Tryd.func4, Tryd.ntmps4
    obtain ⟨cx_0_0, cx_0_1, cx_0_2, cx_0_3, cx_0_4, cx_0_5, cx_0_6, cx_0_7, cx_0_8⟩ := rg_cells Rx_0
    obtain ⟨cy_0_0, cy_0_1, cy_0_2, cy_0_3, cy_0_4, cy_0_5, cy_0_6, cy_0_7, cy_0_8⟩ := rg_cells Ry_0
    obtain ⟨k0, k1, k2, k3, k4, k5, k6, k7, k8⟩ := rg_cells (heap_alloc_last w (Obj.cells (rg rn2 rs2 rx2 true) 39))
    go_wp2_with fail
    refine (KL.out _).mono ?_
    rintro r w1 ⟨rfl, b1⟩
    have B1 : Below w.heap.size w w1 := btr B0 b1
    have Rx_1 := heap_of b1 _ _ _ Rx_0
    have Ry_1 := heap_of b1 _ _ _ Ry_0
    clear b1 B0 Rx_0 cx_0_0 cx_0_1 cx_0_2 cx_0_3 cx_0_4 cx_0_5 cx_0_6 cx_0_7 cx_0_8 Ry_0 cy_0_0 cy_0_1 cy_0_2 cy_0_3 cy_0_4 cy_0_5 cy_0_6 cy_0_7 cy_0_8
    obtain ⟨cx_1_0, cx_1_1, cx_1_2, cx_1_3, cx_1_4, cx_1_5, cx_1_6, cx_1_7, cx_1_8⟩ := rg_cells Rx_1
    obtain ⟨cy_1_0, cy_1_1, cy_1_2, cy_1_3, cy_1_4, cy_1_5, cy_1_6, cy_1_7, cy_1_8⟩ := rg_cells Ry_1
    clear k0 k1 k2 k3 k4 k5 k6 k7 k8
    have S2 := box B1.size
    have Lx_2 : Box (w.heap.size < w1.heap.size) := box (Array.getElem?_eq_some_iff.1 Rx_1).1
    have Ly_2 : Box (w.heap.size + 1 < w1.heap.size) := box (Array.getElem?_eq_some_iff.1 Ry_1).1
    have Rs_2 := heap_alloc_last w1 (Obj.cells (cw 6 S) 37)
    have B2 := btr B1 (bal w1 (Obj.cells (cw 6 S) 37))
    have Rx_2 := heap_of (bal w1 (Obj.cells (cw 6 S) 37)) _ _ _ Rx_1
    have Ry_2 := heap_of (bal w1 (Obj.cells (cw 6 S) 37)) _ _ _ Ry_1
    clear B1 Rx_1 cx_1_0 cx_1_1 cx_1_2 cx_1_3 cx_1_4 cx_1_5 cx_1_6 cx_1_7 cx_1_8 Ry_1 cy_1_0 cy_1_1 cy_1_2 cy_1_3 cy_1_4 cy_1_5 cy_1_6 cy_1_7 cy_1_8
    obtain ⟨cx_2_0, cx_2_1, cx_2_2, cx_2_3, cx_2_4, cx_2_5, cx_2_6, cx_2_7, cx_2_8⟩ := rg_cells Rx_2
    obtain ⟨cy_2_0, cy_2_1, cy_2_2, cy_2_3, cy_2_4, cy_2_5, cy_2_6, cy_2_7, cy_2_8⟩ := rg_cells Ry_2
    have cs_2_0 := row_cell Rs_2
    go_wp2_with fail
    refine (KA.out _ (fatB FF.out B2)).mono ?_
    rintro r w3 ⟨rfl, b3⟩
    have B3 : Below w.heap.size w w3 := btr B2 b3
    have Rx_3 := heap_of b3 _ _ _ Rx_2
    have Ry_3 := heap_of b3 _ _ _ Ry_2
    have Rs_3 := heap_of b3 _ _ _ Rs_2
    clear b3 B2 Rx_2 cx_2_0 cx_2_1 cx_2_2 cx_2_3 cx_2_4 cx_2_5 cx_2_6 cx_2_7 cx_2_8 Ry_2 cy_2_0 cy_2_1 cy_2_2 cy_2_3 cy_2_4 cy_2_5 cy_2_6 cy_2_7 cy_2_8 Rs_2 cs_2_0
    obtain ⟨cx_3_0, cx_3_1, cx_3_2, cx_3_3, cx_3_4, cx_3_5, cx_3_6, cx_3_7, cx_3_8⟩ := rg_cells Rx_3
    obtain ⟨cy_3_0, cy_3_1, cy_3_2, cy_3_3, cy_3_4, cy_3_5, cy_3_6, cy_3_7, cy_3_8⟩ := rg_cells Ry_3
    have cs_3_0 := row_cell Rs_3
    go_wp2
    go_ret
    exact ⟨rfl, B3⟩
  rw [Bool.not_eq_true] at cm
  subst cm
  by_cases c1 : rx2 < -1048512
  case pos =>
    have d1 : decide (rx2 < -1048512) = true := decide_eq_true c1
    clear h0 h1 h2 h3 b0 b1 hS ho hk c1
    obtain ⟨Rx_0, Ry_0, B0⟩ := opn2 w (Obj.cells (rg rn2 rs2 rx2 false) 39) (Obj.cells (rg rn2 rs2 rx2 false) 39)
    go_enter Tryd.func4, Tryd.ntmps4
    obtain ⟨cx_0_0, cx_0_1, cx_0_2, cx_0_3, cx_0_4, cx_0_5, cx_0_6, cx_0_7, cx_0_8⟩ := rg_cells Rx_0
    obtain ⟨cy_0_0, cy_0_1, cy_0_2, cy_0_3, cy_0_4, cy_0_5, cy_0_6, cy_0_7, cy_0_8⟩ := rg_cells Ry_0
    obtain ⟨k0, k1, k2, k3, k4, k5, k6, k7, k8⟩ := rg_cells (heap_alloc_last w (Obj.cells (rg rn2 rs2 rx2 false) 39))
    go_wp2_with fail
    refine (KL.out _).mono ?_
    rintro r w1 ⟨rfl, b1⟩
    have B1 : Below w.heap.size w w1 := btr B0 b1
    have Rx_1 := heap_of b1 _ _ _ Rx_0
    have Ry_1 := heap_of b1 _ _ _ Ry_0
    clear b1 B0 Rx_0 cx_0_0 cx_0_1 cx_0_2 cx_0_3 cx_0_4 cx_0_5 cx_0_6 cx_0_7 cx_0_8 Ry_0 cy_0_0 cy_0_1 cy_0_2 cy_0_3 cy_0_4 cy_0_5 cy_0_6 cy_0_7 cy_0_8
    obtain ⟨cx_1_0, cx_1_1, cx_1_2, cx_1_3, cx_1_4, cx_1_5, cx_1_6, cx_1_7, cx_1_8⟩ := rg_cells Rx_1
    obtain ⟨cy_1_0, cy_1_1, cy_1_2, cy_1_3, cy_1_4, cy_1_5, cy_1_6, cy_1_7, cy_1_8⟩ := rg_cells Ry_1
    clear k0 k1 k2 k3 k4 k5 k6 k7 k8
    have S2 := box B1.size
    have Lx_2 : Box (w.heap.size < w1.heap.size) := box (Array.getElem?_eq_some_iff.1 Rx_1).1
    have Ly_2 : Box (w.heap.size + 1 < w1.heap.size) := box (Array.getElem?_eq_some_iff.1 Ry_1).1
    have Rs_2 := heap_alloc_last w1 (Obj.cells (cw 6 S) 37)
    have B2 := btr B1 (bal w1 (Obj.cells (cw 6 S) 37))
    have Rx_2 := heap_of (bal w1 (Obj.cells (cw 6 S) 37)) _ _ _ Rx_1
    have Ry_2 := heap_of (bal w1 (Obj.cells (cw 6 S) 37)) _ _ _ Ry_1
    clear B1 Rx_1 cx_1_0 cx_1_1 cx_1_2 cx_1_3 cx_1_4 cx_1_5 cx_1_6 cx_1_7 cx_1_8 Ry_1 cy_1_0 cy_1_1 cy_1_2 cy_1_3 cy_1_4 cy_1_5 cy_1_6 cy_1_7 cy_1_8
    obtain ⟨cx_2_0, cx_2_1, cx_2_2, cx_2_3, cx_2_4, cx_2_5, cx_2_6, cx_2_7, cx_2_8⟩ := rg_cells Rx_2
    obtain ⟨cy_2_0, cy_2_1, cy_2_2, cy_2_3, cy_2_4, cy_2_5, cy_2_6, cy_2_7, cy_2_8⟩ := rg_cells Ry_2
    have cs_2_0 := row_cell Rs_2
    go_wp2_with fail
    refine (KA.out _ (fatB FF.out B2)).mono ?_
    rintro r w3 ⟨rfl, b3⟩
    have B3 : Below w.heap.size w w3 := btr B2 b3
    have Rx_3 := heap_of b3 _ _ _ Rx_2
    have Ry_3 := heap_of b3 _ _ _ Ry_2
    have Rs_3 := heap_of b3 _ _ _ Rs_2
    clear b3 B2 Rx_2 cx_2_0 cx_2_1 cx_2_2 cx_2_3 cx_2_4 cx_2_5 cx_2_6 cx_2_7 cx_2_8 Ry_2 cy_2_0 cy_2_1 cy_2_2 cy_2_3 cy_2_4 cy_2_5 cy_2_6 cy_2_7 cy_2_8 Rs_2 cs_2_0
    obtain ⟨cx_3_0, cx_3_1, cx_3_2, cx_3_3, cx_3_4, cx_3_5, cx_3_6, cx_3_7, cx_3_8⟩ := rg_cells Rx_3
    obtain ⟨cy_3_0, cy_3_1, cy_3_2, cy_3_3, cy_3_4, cy_3_5, cy_3_6, cy_3_7, cy_3_8⟩ := rg_cells Ry_3
    have cs_3_0 := row_cell Rs_3
    go_wp2
    go_ret
    exact ⟨rfl, B3⟩
  have d1 : decide (rx2 < -1048512) = false := decide_eq_false c1
  by_cases c2 : 1048576 < rx2
  case pos =>
    have d2 : decide (1048576 < rx2) = true := decide_eq_true c2
    clear h0 h1 h2 h3 b0 b1 hS ho hk c1 c2
    obtain ⟨Rx_0, Ry_0, B0⟩ := opn2 w (Obj.cells (rg rn2 rs2 rx2 false) 39) (Obj.cells (rg rn2 rs2 rx2 false) 39)
    go_enter Tryd.func4, Tryd.ntmps4
    obtain ⟨cx_0_0, cx_0_1, cx_0_2, cx_0_3, cx_0_4, cx_0_5, cx_0_6, cx_0_7, cx_0_8⟩ := rg_cells Rx_0
    obtain ⟨cy_0_0, cy_0_1, cy_0_2, cy_0_3, cy_0_4, cy_0_5, cy_0_6, cy_0_7, cy_0_8⟩ := rg_cells Ry_0
    obtain ⟨k0, k1, k2, k3, k4, k5, k6, k7, k8⟩ := rg_cells (heap_alloc_last w (Obj.cells (rg rn2 rs2 rx2 false) 39))
    go_wp2_with fail
    refine (KL.out _).mono ?_
    rintro r w1 ⟨rfl, b1⟩
    have B1 : Below w.heap.size w w1 := btr B0 b1
    have Rx_1 := heap_of b1 _ _ _ Rx_0
    have Ry_1 := heap_of b1 _ _ _ Ry_0
    clear b1 B0 Rx_0 cx_0_0 cx_0_1 cx_0_2 cx_0_3 cx_0_4 cx_0_5 cx_0_6 cx_0_7 cx_0_8 Ry_0 cy_0_0 cy_0_1 cy_0_2 cy_0_3 cy_0_4 cy_0_5 cy_0_6 cy_0_7 cy_0_8
    obtain ⟨cx_1_0, cx_1_1, cx_1_2, cx_1_3, cx_1_4, cx_1_5, cx_1_6, cx_1_7, cx_1_8⟩ := rg_cells Rx_1
    obtain ⟨cy_1_0, cy_1_1, cy_1_2, cy_1_3, cy_1_4, cy_1_5, cy_1_6, cy_1_7, cy_1_8⟩ := rg_cells Ry_1
    clear k0 k1 k2 k3 k4 k5 k6 k7 k8
    have S2 := box B1.size
    have Lx_2 : Box (w.heap.size < w1.heap.size) := box (Array.getElem?_eq_some_iff.1 Rx_1).1
    have Ly_2 : Box (w.heap.size + 1 < w1.heap.size) := box (Array.getElem?_eq_some_iff.1 Ry_1).1
    have Rs_2 := heap_alloc_last w1 (Obj.cells (cw 6 S) 37)
    have B2 := btr B1 (bal w1 (Obj.cells (cw 6 S) 37))
    have Rx_2 := heap_of (bal w1 (Obj.cells (cw 6 S) 37)) _ _ _ Rx_1
    have Ry_2 := heap_of (bal w1 (Obj.cells (cw 6 S) 37)) _ _ _ Ry_1
    clear B1 Rx_1 cx_1_0 cx_1_1 cx_1_2 cx_1_3 cx_1_4 cx_1_5 cx_1_6 cx_1_7 cx_1_8 Ry_1 cy_1_0 cy_1_1 cy_1_2 cy_1_3 cy_1_4 cy_1_5 cy_1_6 cy_1_7 cy_1_8
    obtain ⟨cx_2_0, cx_2_1, cx_2_2, cx_2_3, cx_2_4, cx_2_5, cx_2_6, cx_2_7, cx_2_8⟩ := rg_cells Rx_2
    obtain ⟨cy_2_0, cy_2_1, cy_2_2, cy_2_3, cy_2_4, cy_2_5, cy_2_6, cy_2_7, cy_2_8⟩ := rg_cells Ry_2
    have cs_2_0 := row_cell Rs_2
    go_wp2_with fail
    refine (KA.out _ (fatB FF.out B2)).mono ?_
    rintro r w3 ⟨rfl, b3⟩
    have B3 : Below w.heap.size w w3 := btr B2 b3
    have Rx_3 := heap_of b3 _ _ _ Rx_2
    have Ry_3 := heap_of b3 _ _ _ Ry_2
    have Rs_3 := heap_of b3 _ _ _ Rs_2
    clear b3 B2 Rx_2 cx_2_0 cx_2_1 cx_2_2 cx_2_3 cx_2_4 cx_2_5 cx_2_6 cx_2_7 cx_2_8 Ry_2 cy_2_0 cy_2_1 cy_2_2 cy_2_3 cy_2_4 cy_2_5 cy_2_6 cy_2_7 cy_2_8 Rs_2 cs_2_0
    obtain ⟨cx_3_0, cx_3_1, cx_3_2, cx_3_3, cx_3_4, cx_3_5, cx_3_6, cx_3_7, cx_3_8⟩ := rg_cells Rx_3
    obtain ⟨cy_3_0, cy_3_1, cy_3_2, cy_3_3, cy_3_4, cy_3_5, cy_3_6, cy_3_7, cy_3_8⟩ := rg_cells Ry_3
    have cs_3_0 := row_cell Rs_3
    go_wp2
    go_ret
    exact ⟨rfl, B3⟩
  have d2 : decide (1048576 < rx2) = false := decide_eq_false c2
  have cn : cnt6 (k : Int) = k := by unfold cnt6; omega
  rw [cn] at hS ho
  rw [decide_eq_false_iff_not] at ho
  have sQ : rs2 * 2 ^ k < Q := Nat.lt_of_not_le ho
  rw [Nat.mod_eq_of_lt sQ] at hS
  obtain ⟨u, v, fl, c, KP, KQ⟩ := two_pack a0 a1 b0.1 b0.2 b1.1 rn2 rs2 rx2 k S hk hS h2.1 (by rw [← hS]; exact sQ) (by omega) (by omega)
  have wr : IntKind.i64.wrap (rx2 - (k : Int)) = rx2 - (k : Int) := wrap_i64_is _ (by omega) (by omega)
  clear h0 h1 h2 h3 b0 b1 hS ho hk c1 c2 cn sQ
  obtain ⟨Rx_0, Ry_0, B0⟩ := opn2 w (Obj.cells (rg rn2 rs2 rx2 false) 39) (Obj.cells (rg rn2 rs2 rx2 false) 39)
  go_enter Tryd.func4, Tryd.ntmps4
  obtain ⟨cx_0_0, cx_0_1, cx_0_2, cx_0_3, cx_0_4, cx_0_5, cx_0_6, cx_0_7, cx_0_8⟩ := rg_cells Rx_0
  obtain ⟨cy_0_0, cy_0_1, cy_0_2, cy_0_3, cy_0_4, cy_0_5, cy_0_6, cy_0_7, cy_0_8⟩ := rg_cells Ry_0
  obtain ⟨k0, k1, k2, k3, k4, k5, k6, k7, k8⟩ := rg_cells (heap_alloc_last w (Obj.cells (rg rn2 rs2 rx2 false) 39))
  go_wp2_with fail
  refine (KL.out _).mono ?_
  rintro r w1 ⟨rfl, b1⟩
  have B1 : Below w.heap.size w w1 := btr B0 b1
  have Rx_1 := heap_of b1 _ _ _ Rx_0
  have Ry_1 := heap_of b1 _ _ _ Ry_0
  clear b1 B0 Rx_0 cx_0_0 cx_0_1 cx_0_2 cx_0_3 cx_0_4 cx_0_5 cx_0_6 cx_0_7 cx_0_8 Ry_0 cy_0_0 cy_0_1 cy_0_2 cy_0_3 cy_0_4 cy_0_5 cy_0_6 cy_0_7 cy_0_8
  obtain ⟨cx_1_0, cx_1_1, cx_1_2, cx_1_3, cx_1_4, cx_1_5, cx_1_6, cx_1_7, cx_1_8⟩ := rg_cells Rx_1
  obtain ⟨cy_1_0, cy_1_1, cy_1_2, cy_1_3, cy_1_4, cy_1_5, cy_1_6, cy_1_7, cy_1_8⟩ := rg_cells Ry_1
  clear k0 k1 k2 k3 k4 k5 k6 k7 k8
  have S2 := box B1.size
  have Lx_2 : Box (w.heap.size < w1.heap.size) := box (Array.getElem?_eq_some_iff.1 Rx_1).1
  have Ly_2 : Box (w.heap.size + 1 < w1.heap.size) := box (Array.getElem?_eq_some_iff.1 Ry_1).1
  have Rs_2 := heap_alloc_last w1 (Obj.cells (cw 6 S) 37)
  have B2 := btr B1 (bal w1 (Obj.cells (cw 6 S) 37))
  have Rx_2 := heap_of (bal w1 (Obj.cells (cw 6 S) 37)) _ _ _ Rx_1
  have Ry_2 := heap_of (bal w1 (Obj.cells (cw 6 S) 37)) _ _ _ Ry_1
  clear B1 Rx_1 cx_1_0 cx_1_1 cx_1_2 cx_1_3 cx_1_4 cx_1_5 cx_1_6 cx_1_7 cx_1_8 Ry_1 cy_1_0 cy_1_1 cy_1_2 cy_1_3 cy_1_4 cy_1_5 cy_1_6 cy_1_7 cy_1_8
  obtain ⟨cx_2_0, cx_2_1, cx_2_2, cx_2_3, cx_2_4, cx_2_5, cx_2_6, cx_2_7, cx_2_8⟩ := rg_cells Rx_2
  obtain ⟨cy_2_0, cy_2_1, cy_2_2, cy_2_3, cy_2_4, cy_2_5, cy_2_6, cy_2_7, cy_2_8⟩ := rg_cells Ry_2
  have cs_2_0 := row_cell Rs_2
  have hst3 := st_r1 (w1.alloc (Obj.cells (cw 6 S) 37)) (w.heap.size + 1) rn2 rs2 rx2 false S Ry_2
  have B3 := bel_set (c := (rg rn2 S rx2 false)) B2 (show w.heap.size ≤ w.heap.size + 1 by first | exact Nat.le_refl _ | omega | (have := S2.out; have := Lx_2.out; have := Ly_2.out; omega))
  have Ry_3 := setRow_row (c' := (rg rn2 S rx2 false)) Ry_2
  have Rx_3 : ((w1.alloc (Obj.cells (cw 6 S) 37)).setRow (w.heap.size + 1) (rg rn2 S rx2 false)).heap[w.heap.size]? = some (Obj.cells (rg rn2 rs2 rx2 false) 39) := by rw [setRow_other (by first | omega | (have := S2.out; have := Lx_2.out; have := Ly_2.out; omega))]; exact Rx_2
  have Rs_3 : ((w1.alloc (Obj.cells (cw 6 S) 37)).setRow (w.heap.size + 1) (rg rn2 S rx2 false)).heap[w1.heap.size]? = some (Obj.cells (cw 6 S) 37) := by rw [setRow_other (by first | omega | (have := S2.out; have := Lx_2.out; have := Ly_2.out; omega))]; exact Rs_2
  obtain ⟨w3, hw3⟩ : ∃ V, (w1.alloc (Obj.cells (cw 6 S) 37)).setRow (w.heap.size + 1) (rg rn2 S rx2 false) = V := ⟨_, rfl⟩
  rw [hw3] at hst3 B3 Rx_3 Ry_3 Rs_3
  obtain ⟨cx_3_0, cx_3_1, cx_3_2, cx_3_3, cx_3_4, cx_3_5, cx_3_6, cx_3_7, cx_3_8⟩ := rg_cells Rx_3
  obtain ⟨cy_3_0, cy_3_1, cy_3_2, cy_3_3, cy_3_4, cy_3_5, cy_3_6, cy_3_7, cy_3_8⟩ := rg_cells Ry_3
  have cs_3_0 := row_cell Rs_3
  have qy_3 := fz (k := 7) Ry_3
  have B4 : Below w.heap.size w (w3.setCell ⟨w.heap.size + 1, 7, none⟩ (.int .i64 (rx2 - (k : Int)))) := B3.setCell (by first | exact Nat.le_refl _ | (have := S2.out; have := Lx_2.out; have := Ly_2.out; show w.heap.size ≤ w.heap.size + 1; omega)) _
  have Ry_4 : (w3.setCell ⟨w.heap.size + 1, 7, none⟩ (.int .i64 (rx2 - (k : Int)))).heap[w.heap.size + 1]? = some (Obj.cells (rg rn2 S (rx2 - (k : Int)) false) 39) := by rw [setCell_row Ry_3]; rfl
  have Rx_4 : (w3.setCell ⟨w.heap.size + 1, 7, none⟩ (.int .i64 (rx2 - (k : Int)))).heap[w.heap.size]? = some (Obj.cells (rg rn2 rs2 rx2 false) 39) := by rw [setCell_other (by first | omega | (have := S2.out; have := Lx_2.out; have := Ly_2.out; omega))]; exact Rx_3
  have Rs_4 : (w3.setCell ⟨w.heap.size + 1, 7, none⟩ (.int .i64 (rx2 - (k : Int)))).heap[w1.heap.size]? = some (Obj.cells (cw 6 S) 37) := by rw [setCell_other (by first | omega | (have := S2.out; have := Lx_2.out; have := Ly_2.out; omega))]; exact Rs_3
  obtain ⟨cx_4_0, cx_4_1, cx_4_2, cx_4_3, cx_4_4, cx_4_5, cx_4_6, cx_4_7, cx_4_8⟩ := rg_cells Rx_4
  obtain ⟨cy_4_0, cy_4_1, cy_4_2, cy_4_3, cy_4_4, cy_4_5, cy_4_6, cy_4_7, cy_4_8⟩ := rg_cells Ry_4
  have cs_4_0 := row_cell Rs_4
  go_wp2_with fail
  refine (KP.out _ (fatB FF.out B4)).mono ?_
  rintro r w5 ⟨rfl, b5⟩
  have B5 : Below w.heap.size w w5 := btr B4 b5
  have Rx_5 := heap_of b5 _ _ _ Rx_4
  have Ry_5 := heap_of b5 _ _ _ Ry_4
  have Rs_5 := heap_of b5 _ _ _ Rs_4
  clear b5 B4 Rx_4 cx_4_0 cx_4_1 cx_4_2 cx_4_3 cx_4_4 cx_4_5 cx_4_6 cx_4_7 cx_4_8 Ry_4 cy_4_0 cy_4_1 cy_4_2 cy_4_3 cy_4_4 cy_4_5 cy_4_6 cy_4_7 cy_4_8 Rs_4 cs_4_0
  obtain ⟨cx_5_0, cx_5_1, cx_5_2, cx_5_3, cx_5_4, cx_5_5, cx_5_6, cx_5_7, cx_5_8⟩ := rg_cells Rx_5
  obtain ⟨cy_5_0, cy_5_1, cy_5_2, cy_5_3, cy_5_4, cy_5_5, cy_5_6, cy_5_7, cy_5_8⟩ := rg_cells Ry_5
  have cs_5_0 := row_cell Rs_5
  have S6 := box B5.size
  have Lx_6 : Box (w.heap.size < w5.heap.size) := box (Array.getElem?_eq_some_iff.1 Rx_5).1
  have Ly_6 : Box (w.heap.size + 1 < w5.heap.size) := box (Array.getElem?_eq_some_iff.1 Ry_5).1
  have Ls_6 : Box (w1.heap.size < w5.heap.size) := box (Array.getElem?_eq_some_iff.1 Rs_5).1
  have Rb_6 := heap_alloc_last w5 (Obj.cells #[.int .u64 (u : Nat), .int .u64 (v : Nat)] 26)
  have B6 := btr B5 (bal w5 (Obj.cells #[.int .u64 (u : Nat), .int .u64 (v : Nat)] 26))
  have Rx_6 := heap_of (bal w5 (Obj.cells #[.int .u64 (u : Nat), .int .u64 (v : Nat)] 26)) _ _ _ Rx_5
  have Ry_6 := heap_of (bal w5 (Obj.cells #[.int .u64 (u : Nat), .int .u64 (v : Nat)] 26)) _ _ _ Ry_5
  have Rs_6 := heap_of (bal w5 (Obj.cells #[.int .u64 (u : Nat), .int .u64 (v : Nat)] 26)) _ _ _ Rs_5
  clear B5 Rx_5 cx_5_0 cx_5_1 cx_5_2 cx_5_3 cx_5_4 cx_5_5 cx_5_6 cx_5_7 cx_5_8 Ry_5 cy_5_0 cy_5_1 cy_5_2 cy_5_3 cy_5_4 cy_5_5 cy_5_6 cy_5_7 cy_5_8 Rs_5 cs_5_0
  obtain ⟨cx_6_0, cx_6_1, cx_6_2, cx_6_3, cx_6_4, cx_6_5, cx_6_6, cx_6_7, cx_6_8⟩ := rg_cells Rx_6
  obtain ⟨cy_6_0, cy_6_1, cy_6_2, cy_6_3, cy_6_4, cy_6_5, cy_6_6, cy_6_7, cy_6_8⟩ := rg_cells Ry_6
  have cs_6_0 := row_cell Rs_6
  obtain ⟨cb_6_0, cb_6_1⟩ := cells2s Rb_6
  go_wp2_with fail
  refine (KQ.out _ (fatB FF.out B6)).mono ?_
  rintro r w7 ⟨rfl, b7⟩
  have B7 : Below w.heap.size w w7 := btr B6 b7
  have Rx_7 := heap_of b7 _ _ _ Rx_6
  have Ry_7 := heap_of b7 _ _ _ Ry_6
  have Rs_7 := heap_of b7 _ _ _ Rs_6
  have Rb_7 := heap_of b7 _ _ _ Rb_6
  clear b7 B6 Rx_6 cx_6_0 cx_6_1 cx_6_2 cx_6_3 cx_6_4 cx_6_5 cx_6_6 cx_6_7 cx_6_8 Ry_6 cy_6_0 cy_6_1 cy_6_2 cy_6_3 cy_6_4 cy_6_5 cy_6_6 cy_6_7 cy_6_8 Rs_6 cs_6_0 Rb_6 cb_6_0 cb_6_1
  obtain ⟨cx_7_0, cx_7_1, cx_7_2, cx_7_3, cx_7_4, cx_7_5, cx_7_6, cx_7_7, cx_7_8⟩ := rg_cells Rx_7
  obtain ⟨cy_7_0, cy_7_1, cy_7_2, cy_7_3, cy_7_4, cy_7_5, cy_7_6, cy_7_7, cy_7_8⟩ := rg_cells Ry_7
  have cs_7_0 := row_cell Rs_7
  obtain ⟨cb_7_0, cb_7_1⟩ := cells2s Rb_7
  have S8 := box B7.size
  have Lx_8 : Box (w.heap.size < w7.heap.size) := box (Array.getElem?_eq_some_iff.1 Rx_7).1
  have Ly_8 : Box (w.heap.size + 1 < w7.heap.size) := box (Array.getElem?_eq_some_iff.1 Ry_7).1
  have Ls_8 : Box (w1.heap.size < w7.heap.size) := box (Array.getElem?_eq_some_iff.1 Rs_7).1
  have Lb_8 : Box (w5.heap.size < w7.heap.size) := box (Array.getElem?_eq_some_iff.1 Rb_7).1
  have Rc_8 := heap_alloc_last w7 (Obj.cells #[.int .u64 (u : Nat), .int .u64 (v : Nat)] 26)
  have B8 := btr B7 (bal w7 (Obj.cells #[.int .u64 (u : Nat), .int .u64 (v : Nat)] 26))
  have Rx_8 := heap_of (bal w7 (Obj.cells #[.int .u64 (u : Nat), .int .u64 (v : Nat)] 26)) _ _ _ Rx_7
  have Ry_8 := heap_of (bal w7 (Obj.cells #[.int .u64 (u : Nat), .int .u64 (v : Nat)] 26)) _ _ _ Ry_7
  have Rs_8 := heap_of (bal w7 (Obj.cells #[.int .u64 (u : Nat), .int .u64 (v : Nat)] 26)) _ _ _ Rs_7
  have Rb_8 := heap_of (bal w7 (Obj.cells #[.int .u64 (u : Nat), .int .u64 (v : Nat)] 26)) _ _ _ Rb_7
  clear B7 Rx_7 cx_7_0 cx_7_1 cx_7_2 cx_7_3 cx_7_4 cx_7_5 cx_7_6 cx_7_7 cx_7_8 Ry_7 cy_7_0 cy_7_1 cy_7_2 cy_7_3 cy_7_4 cy_7_5 cy_7_6 cy_7_7 cy_7_8 Rs_7 cs_7_0 Rb_7 cb_7_0 cb_7_1
  obtain ⟨cx_8_0, cx_8_1, cx_8_2, cx_8_3, cx_8_4, cx_8_5, cx_8_6, cx_8_7, cx_8_8⟩ := rg_cells Rx_8
  obtain ⟨cy_8_0, cy_8_1, cy_8_2, cy_8_3, cy_8_4, cy_8_5, cy_8_6, cy_8_7, cy_8_8⟩ := rg_cells Ry_8
  have cs_8_0 := row_cell Rs_8
  obtain ⟨cb_8_0, cb_8_1⟩ := cells2s Rb_8
  obtain ⟨cc_8_0, cc_8_1⟩ := cells2s Rc_8
  go_wp2_with fail
  refine (KA.out _ (fatB FF.out B8)).mono ?_
  rintro r w9 ⟨rfl, b9⟩
  have B9 : Below w.heap.size w w9 := btr B8 b9
  have Rx_9 := heap_of b9 _ _ _ Rx_8
  have Ry_9 := heap_of b9 _ _ _ Ry_8
  have Rs_9 := heap_of b9 _ _ _ Rs_8
  have Rb_9 := heap_of b9 _ _ _ Rb_8
  have Rc_9 := heap_of b9 _ _ _ Rc_8
  clear b9 B8 Rx_8 cx_8_0 cx_8_1 cx_8_2 cx_8_3 cx_8_4 cx_8_5 cx_8_6 cx_8_7 cx_8_8 Ry_8 cy_8_0 cy_8_1 cy_8_2 cy_8_3 cy_8_4 cy_8_5 cy_8_6 cy_8_7 cy_8_8 Rs_8 cs_8_0 Rb_8 cb_8_0 cb_8_1 Rc_8 cc_8_0 cc_8_1
  obtain ⟨cx_9_0, cx_9_1, cx_9_2, cx_9_3, cx_9_4, cx_9_5, cx_9_6, cx_9_7, cx_9_8⟩ := rg_cells Rx_9
  obtain ⟨cy_9_0, cy_9_1, cy_9_2, cy_9_3, cy_9_4, cy_9_5, cy_9_6, cy_9_7, cy_9_8⟩ := rg_cells Ry_9
  have cs_9_0 := row_cell Rs_9
  obtain ⟨cb_9_0, cb_9_1⟩ := cells2s Rb_9
  obtain ⟨cc_9_0, cc_9_1⟩ := cells2s Rc_9
  go_wp2
  go_ret
  exact ⟨rfl, B9⟩

set_option maxRecDepth 100000 in
theorem lifted (os : Os) (started : os.Started) (H : Type) (enc : TypeId × Value → H) :
    ReturnsInHanded {} Tryd.checked os 4 .any (fun w args => (Rows.roundDoubledSpec.pre enc Tryd.prog Tryd.f4 [] false w args ∧ laidMetH Tryd.prog laid7 w) ∧ sizedMet enc Tryd.prog Tryd.f4 (OpenSpec.ofChange Rows.roundDoubledSpec) false w args)
      (Rows.roundDoubledSpec.post enc Tryd.prog Tryd.f4 false true false false) := by
  refine returnsInHanded_of_change_and (C := Tryd.checked) (X := fun w _ => laidMetH Tryd.prog laid7 w) (fun _ _ _ hh h => h.of_heap hh) own started (by kernel_rfl) Tryd.func4
    (ChangeSpec.witness_shaped (enc := enc) (C := Tryd.checked) (os := os) (X := fun w _ => laidMetH Tryd.prog laid7 w) false (World.doorLaid Tryd.prog 400 os) #[.int .u8 0, .int .u8 0, .agg #[.bool false, .int .u64 0, .int .u64 0, .int .u64 0, .int .u64 0, .int .u64 0, .int .u64 0, .int .i64 0, .bool false], .int .i64 0] 8 rfl (World.shaped_of_RefB (by kernel_rfl) (by kernel_rfl)) (by kernel_rfl) (by kernel_rfl) (by kernel_rfl) (door_met7 os _)) ?_
  intro W base args ds gs before hval0 hW _ _ hL _
  have hval : ∀ (j : Nat) t v, Tryd.f4.params[j]? = some t → args[j]? = some v → Value.okWide Tryd.prog W .any base t v := hval0
  have hW' := hW
  obtain ⟨p, q, hA0, hV, rfl, hfz, hnd⟩ := hW
  have hA : DataW.TrodAll enc Tryd.prog W 0 (fun _ => true) true Tryd.f4.params.toList args.toList ds p := hA0
  rw [Tryd.params4] at hA hval
  obtain ⟨v0, vs0, d0, ds0, p0, q0, hargs, rfl, rfl, k0, r0⟩ := trodAll_cons hA
  obtain ⟨v1, vs1, d1, ds1, p1, q1, rfl, rfl, rfl, k1, r1⟩ := trodAll_cons r0
  obtain ⟨v2, vs2, d2, ds2, p2, q2, rfl, rfl, rfl, k2, r2⟩ := trodAll_cons r1
  obtain ⟨v3, vs3, d3, ds3, p3, q3, rfl, rfl, rfl, k3, r3⟩ := trodAll_cons r2
  obtain ⟨rfl, rfl, rfl⟩ := trodAll_nil r3
  obtain rfl : args = #[v0, v1, v2, v3] := by cases args; simp_all
  obtain ⟨rfl, rfl⟩ := trodVars_none hV
  obtain ⟨a0, rfl, rfl, rfl, h0⟩ := open_int Tryd.underlying22 (hval 0 22 v0 rfl rfl) k0
  obtain ⟨a1, rfl, rfl, rfl, h1⟩ := open_int Tryd.underlying23 (hval 1 23 v1 rfl rfl) k1
  obtain ⟨rn2, rs2, rx2, rm2, rfl, rfl, rfl, h2⟩ := open_rough (hval 2 39 v2 rfl rfl) k2
  obtain ⟨a3, rfl, rfl, rfl, h3⟩ := open_int Tryd.underlying3 (hval 3 3 v3 rfl rfl) k3
  clear hA0 hval0
  simp only [List.append_nil] at hW'
  refine (walk a0 a1 rn2 rs2 rx2 rm2 a3 h0 h1 h2 h3 W (of_laid7 hL)).mono fun e W' ⟨he, hg⟩ => ?_
  subst he
  exact ⟨_, rfl, post_plain hW' (fun _ _ _ => trodAll_mk1 (shut_bool Tryd.underlying4 _)) (fun sp => (trodAll_cons_mk (shut_int Tryd.underlying22 h0) (trodAll_cons_mk (shut_int Tryd.underlying23 h1) (trodAll_cons_mk (shut_rough h2) (trodAll_cons_mk (shut_int Tryd.underlying3 h3) trodAll_mk0))))) (fun _ => rfl) hg (ok_one (by kernel_rfl) rfl (okWide_bool_mk Tryd.underlying4 _))⟩

theorem and2 {a b : Bool} (h : a = true) (k : b = true) : (a && b) = true := by rw [h, k]; rfl
set_option maxRecDepth 100000 in
set_option maxHeartbeats 4000000 in
theorem closed : joinedFacts Tryd.prog 4 Tryd.f4 Rows.roundDoubledSpec Rows.roundDoubledRow = true := by
  unfold joinedFacts
  refine (and2 (and2 (and2 (and2 (and2 (and2 (and2 (and2 (and2 (and2 (and2 (and2 (and2 (and2 (and2 (and2 (and2 (and2 (and2 (and2 (and2 (and2 (and2 (and2 (and2 (and2 (and2 (and2 (and2 (and2 (and2 ?_ ?_) ?_) ?_) ?_) ?_) ?_) ?_) ?_) ?_) ?_) ?_) ?_) ?_) ?_) ?_) ?_) ?_) ?_) ?_) ?_) ?_) ?_) ?_) ?_) ?_) ?_) ?_) ?_) ?_) ?_) ?_)
  all_goals as_aux_lemma => kernel_rfl
theorem over : Rows.RoundDoubledSaid :=
  OpenClaim.holds_of_wide 4 Tryd.f4 rfl rfl rfl rfl rfl rfl rfl ⟨rfl, rfl, rfl, rfl, rfl⟩ rfl rfl rfl rfl rfl (by as_aux_lemma => kernel_rfl) Tryd.func4 closed
    (of_decide_eq_true (by kernel_rfl)) (by unfold Func.isWrapper; first | (rw [if_pos (by decide +kernel)]; kernel_rfl) | (rw [if_neg (by decide +kernel)]; exact ⟨rfl, rfl⟩))
    (fun os started H enc _ => lifted os started H enc)

theorem proved : Rows.RoundDoubledCardSaid :=
  Claim7.holds_tied_plain_at .later [] [.data] true (true, "c5b4cb0a2ba6d5902435594dd51034f531c79981ca9f7771c10e5b840070a79c") false
    over (fun _ h => by cases h) (by as_aux_lemma => kernel_rfl) (fun _ h => by cases h) roundDoubled_row_tie rfl ⟨rfl, rfl⟩ (by as_aux_lemma => kernel_rfl) rfl
    (fun f fn hf hfn => by
      obtain rfl : f = 4 := Option.some.inj ((show Tryd.prog.funcNamed "abacus/abacuslaw10.RoundDoubled" = some 4 by as_aux_lemma => kernel_rfl).symm.trans hf) |>.symm
      obtain rfl : fn = Tryd.f4 := (Option.some.inj (Tryd.func4.symm.trans hfn)).symm
      exact ⟨by as_aux_lemma => kernel_rfl, fun j t ht => by
        rw [Tryd.params4] at ht
        have h3 : t = 22 ∨ t = 23 ∨ t = 39 ∨ t = 3 := by
          rcases j with _ | _ | _ | _ | j
          · exact (Or.inl (by simpa using ht.symm))
          · exact (Or.inr (Or.inl (by simpa using ht.symm)))
          · exact (Or.inr (Or.inr (Or.inl (by simpa using ht.symm))))
          · exact (Or.inr (Or.inr (Or.inr (by simpa using ht.symm))))
          · simp at ht
        rcases h3 with rfl | rfl | rfl | rfl
        · exact (show Tryd.prog.wantsStandIn 22 = false by kernel_rfl)
        · exact (show Tryd.prog.wantsStandIn 23 = false by kernel_rfl)
        · exact (show Tryd.prog.wantsStandIn 39 = false by kernel_rfl)
        · exact (show Tryd.prog.wantsStandIn 3 = false by kernel_rfl)⟩)
    (by as_aux_lemma => kernel_rfl)
#print axioms proved
end Go.Proofs.YtfmmeifipbpbmaaDoor.roundDoubled
