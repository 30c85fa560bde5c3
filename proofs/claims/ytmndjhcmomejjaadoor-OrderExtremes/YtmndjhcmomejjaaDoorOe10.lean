/-
  What the functions that the statement reaches return: part 10 (P2).
-/
import Derived.Test.YtmndjhcmomejjaaDoorOe09
namespace Go.Proofs.YtmndjhcmomejjaaDoor
set_option maxRecDepth 100000
set_option maxHeartbeats 40000000
set_option maxRecDepth 100000
open Go.RowKit WMath
set_option linter.unusedSimpArgs false
set_option linter.unusedVariables false
theorem dr_cell {W : World} {a : Addr} {v : Value} (h : W.cell? a = some v) : W.drew.cell? a = some v := h
theorem two_boxes {n : Nat} {w W : World} {ga gb : Nat} {T T' : TypeId} {a0 a1 b0 b1 : Value} (hB : Below n w W) (RA : W.heap[ga]? = some (.cells #[a0, a1] T)) (RB : W.heap[gb]? = some (.cells #[b0, b1] T')) (hne : ga ≠ gb) (h1 : n ≤ ga) (h2 : n ≤ gb) (v0 v1 u0 u1 : Value) :
    ((((W.setCell ⟨ga, 0, none⟩ v0).setCell ⟨ga, 1, none⟩ v1).setCell ⟨gb, 0, none⟩ u0).setCell ⟨gb, 1, none⟩ u1).drew.cell? ⟨ga, 0, none⟩ = some v0 ∧
    ((((W.setCell ⟨ga, 0, none⟩ v0).setCell ⟨ga, 1, none⟩ v1).setCell ⟨gb, 0, none⟩ u0).setCell ⟨gb, 1, none⟩ u1).drew.cell? ⟨ga, 1, none⟩ = some v1 ∧
    ((((W.setCell ⟨ga, 0, none⟩ v0).setCell ⟨ga, 1, none⟩ v1).setCell ⟨gb, 0, none⟩ u0).setCell ⟨gb, 1, none⟩ u1).drew.cell? ⟨gb, 0, none⟩ = some u0 ∧
    ((((W.setCell ⟨ga, 0, none⟩ v0).setCell ⟨ga, 1, none⟩ v1).setCell ⟨gb, 0, none⟩ u0).setCell ⟨gb, 1, none⟩ u1).drew.cell? ⟨gb, 1, none⟩ = some u1 ∧
    Below n w ((((W.setCell ⟨ga, 0, none⟩ v0).setCell ⟨ga, 1, none⟩ v1).setCell ⟨gb, 0, none⟩ u0).setCell ⟨gb, 1, none⟩ u1).drew := by
  have r1 := set2_row RA v0 v1
  have r2 : ((W.setCell ⟨ga, 0, none⟩ v0).setCell ⟨ga, 1, none⟩ v1).heap[gb]? = some (.cells #[b0, b1] T') := by rw [setCell_other (by omega), setCell_other (by omega)]; exact RB
  have r3 := set2_row r2 u0 u1
  have r4 : ((((W.setCell ⟨ga, 0, none⟩ v0).setCell ⟨ga, 1, none⟩ v1).setCell ⟨gb, 0, none⟩ u0).setCell ⟨gb, 1, none⟩ u1).heap[ga]? = some (.cells #[v0, v1] T) := by rw [setCell_other (by omega), setCell_other (by omega)]; exact r1
  exact ⟨dr_cell (cells4 r4 0 _ rfl), dr_cell (cells4 r4 1 _ rfl), dr_cell (cells4 r3 0 _ rfl), dr_cell (cells4 r3 1 _ rfl), (set2_below (set2_below hB h1 v0 v1) h2 u0 u1).drew⟩
theorem two_boxes0 {n : Nat} {w W : World} {ga gb : Nat} {T T' : TypeId} {a0 a1 b0 b1 : Value} (hB : Below n w W) (RA : W.heap[ga]? = some (.cells #[a0, a1] T)) (RB : W.heap[gb]? = some (.cells #[b0, b1] T')) (hne : ga ≠ gb) (h1 : n ≤ ga) (h2 : n ≤ gb) (v0 v1 u0 u1 : Value) :
    ((((W.setCell ⟨ga, 0, none⟩ v0).setCell ⟨ga, 1, none⟩ v1).setCell ⟨gb, 0, none⟩ u0).setCell ⟨gb, 1, none⟩ u1).cell? ⟨ga, 0, none⟩ = some v0 ∧
    ((((W.setCell ⟨ga, 0, none⟩ v0).setCell ⟨ga, 1, none⟩ v1).setCell ⟨gb, 0, none⟩ u0).setCell ⟨gb, 1, none⟩ u1).cell? ⟨ga, 1, none⟩ = some v1 ∧
    ((((W.setCell ⟨ga, 0, none⟩ v0).setCell ⟨ga, 1, none⟩ v1).setCell ⟨gb, 0, none⟩ u0).setCell ⟨gb, 1, none⟩ u1).cell? ⟨gb, 0, none⟩ = some u0 ∧
    ((((W.setCell ⟨ga, 0, none⟩ v0).setCell ⟨ga, 1, none⟩ v1).setCell ⟨gb, 0, none⟩ u0).setCell ⟨gb, 1, none⟩ u1).cell? ⟨gb, 1, none⟩ = some u1 ∧
    Below n w ((((W.setCell ⟨ga, 0, none⟩ v0).setCell ⟨ga, 1, none⟩ v1).setCell ⟨gb, 0, none⟩ u0).setCell ⟨gb, 1, none⟩ u1) := by
  have r1 := set2_row RA v0 v1
  have r2 : ((W.setCell ⟨ga, 0, none⟩ v0).setCell ⟨ga, 1, none⟩ v1).heap[gb]? = some (.cells #[b0, b1] T') := by rw [setCell_other (by omega), setCell_other (by omega)]; exact RB
  have r3 := set2_row r2 u0 u1
  have r4 : ((((W.setCell ⟨ga, 0, none⟩ v0).setCell ⟨ga, 1, none⟩ v1).setCell ⟨gb, 0, none⟩ u0).setCell ⟨gb, 1, none⟩ u1).heap[ga]? = some (.cells #[v0, v1] T) := by rw [setCell_other (by omega), setCell_other (by omega)]; exact r1
  exact ⟨cells4 r4 0 _ rfl, cells4 r4 1 _ rfl, cells4 r3 0 _ rfl, cells4 r3 1 _ rfl, (set2_below (set2_below hB h1 v0 v1) h2 u0 u1)⟩
set_option maxRecDepth 100000 in
set_option maxHeartbeats 8000000 in
theorem od_isNaN (f : Int) (x1 y1 c : Nat) (o : Bool) (ho : (decide (c = 8) || decide (c = 9)) = o) (w : World) (KC : Box (∀ w, FAt w → Calls Tryd.prog 24 #[.int .u8 f, .agg #[.int .u64 (x1 : Nat), .int .u64 (y1 : Nat)]] w fun r w' => r = .returned (.tuple #[.int .u8 (c : Nat), .int .i64 0]) ∧ Below w.heap.size w w')) (hT : FAt w) : Calls Tryd.prog 47 #[.int .u8 f, .agg #[.int .u64 (x1 : Nat), .int .u64 (y1 : Nat)]] w fun r w' => r = .returned (.bool o) ∧ Below w.heap.size w w' := by
  have FF := box hT
  by_cases c0 : c = 8
  · rw [decide_eq_true c0, Bool.true_or] at ho
    subst ho
    have d0 : ((c : Int) == 8) = true := by rw [c0]; rfl
    clear c0 hT
    obtain ⟨Rb_0, B0⟩ := opn1 w (Obj.cells #[.int .u64 (x1 : Nat), .int .u64 (y1 : Nat)] 25)
    go_enter Tryd.func47, Tryd.ntmps47
    obtain ⟨cb_0_0, cb_0_1⟩ := cells2s Rb_0
    go_wp2_with fail
    refine (KC.out _ (fatB FF.out B0)).mono ?_
    rintro r w1 ⟨rfl, b1⟩
    have B1 : Below w.heap.size w w1 := btr B0 b1
    have Rb_1 := heap_of b1 _ _ _ Rb_0
    clear b1 B0 Rb_0 cb_0_0 cb_0_1
    obtain ⟨cb_1_0, cb_1_1⟩ := cells2s Rb_1
    go_wp2
    go_ret
    exact ⟨rfl, B1⟩
  · rw [decide_eq_false c0, Bool.false_or] at ho
    have d0 : ((c : Int) == 8) = false := by rw [beq_eq_false_iff_ne]; omega
    have d7 : ((c : Int) == 9) = o := by
      rw [← ho]
      by_cases c7 : c = 9
      · rw [decide_eq_true c7, c7]; rfl
      · rw [decide_eq_false c7, beq_eq_false_iff_ne]; omega
    clear ho c0 hT
    obtain ⟨Rb_0, B0⟩ := opn1 w (Obj.cells #[.int .u64 (x1 : Nat), .int .u64 (y1 : Nat)] 25)
    go_enter Tryd.func47, Tryd.ntmps47
    obtain ⟨cb_0_0, cb_0_1⟩ := cells2s Rb_0
    go_wp2_with fail
    refine (KC.out _ (fatB FF.out B0)).mono ?_
    rintro r w1 ⟨rfl, b1⟩
    have B1 : Below w.heap.size w w1 := btr B0 b1
    have Rb_1 := heap_of b1 _ _ _ Rb_0
    clear b1 B0 Rb_0 cb_0_0 cb_0_1
    obtain ⟨cb_1_0, cb_1_1⟩ := cells2s Rb_1
    go_wp2
    go_ret
    exact ⟨rfl, B1⟩
set_option maxRecDepth 100000 in
set_option maxHeartbeats 8000000 in
theorem od_isZero (f : Int) (x1 y1 c : Nat) (o : Bool) (ho : (decide (c = 3) || decide (c = 4)) = o) (w : World) (KC : Box (∀ w, FAt w → Calls Tryd.prog 24 #[.int .u8 f, .agg #[.int .u64 (x1 : Nat), .int .u64 (y1 : Nat)]] w fun r w' => r = .returned (.tuple #[.int .u8 (c : Nat), .int .i64 0]) ∧ Below w.heap.size w w')) (hT : FAt w) : Calls Tryd.prog 48 #[.int .u8 f, .agg #[.int .u64 (x1 : Nat), .int .u64 (y1 : Nat)]] w fun r w' => r = .returned (.bool o) ∧ Below w.heap.size w w' := by
  have FF := box hT
  by_cases c0 : c = 3
  · rw [decide_eq_true c0, Bool.true_or] at ho
    subst ho
    have d0 : ((c : Int) == 3) = true := by rw [c0]; rfl
    clear c0 hT
    obtain ⟨Rb_0, B0⟩ := opn1 w (Obj.cells #[.int .u64 (x1 : Nat), .int .u64 (y1 : Nat)] 25)
    go_enter Tryd.func48, Tryd.ntmps48
    obtain ⟨cb_0_0, cb_0_1⟩ := cells2s Rb_0
    go_wp2_with fail
    refine (KC.out _ (fatB FF.out B0)).mono ?_
    rintro r w1 ⟨rfl, b1⟩
    have B1 : Below w.heap.size w w1 := btr B0 b1
    have Rb_1 := heap_of b1 _ _ _ Rb_0
    clear b1 B0 Rb_0 cb_0_0 cb_0_1
    obtain ⟨cb_1_0, cb_1_1⟩ := cells2s Rb_1
    go_wp2
    go_ret
    exact ⟨rfl, B1⟩
  · rw [decide_eq_false c0, Bool.false_or] at ho
    have d0 : ((c : Int) == 3) = false := by rw [beq_eq_false_iff_ne]; omega
    have d7 : ((c : Int) == 4) = o := by
      rw [← ho]
      by_cases c7 : c = 4
      · rw [decide_eq_true c7, c7]; rfl
      · rw [decide_eq_false c7, beq_eq_false_iff_ne]; omega
    clear ho c0 hT
    obtain ⟨Rb_0, B0⟩ := opn1 w (Obj.cells #[.int .u64 (x1 : Nat), .int .u64 (y1 : Nat)] 25)
    go_enter Tryd.func48, Tryd.ntmps48
    obtain ⟨cb_0_0, cb_0_1⟩ := cells2s Rb_0
    go_wp2_with fail
    refine (KC.out _ (fatB FF.out B0)).mono ?_
    rintro r w1 ⟨rfl, b1⟩
    have B1 : Below w.heap.size w w1 := btr B0 b1
    have Rb_1 := heap_of b1 _ _ _ Rb_0
    clear b1 B0 Rb_0 cb_0_0 cb_0_1
    obtain ⟨cb_1_0, cb_1_1⟩ := cells2s Rb_1
    go_wp2
    go_ret
    exact ⟨rfl, B1⟩
set_option maxRecDepth 100000 in
set_option maxHeartbeats 8000000 in
theorem od_isSignaling (f : Int) (x1 y1 c : Nat) (o : Bool) (ho : decide (c = 8) = o) (w : World) (KC : Box (∀ w, FAt w → Calls Tryd.prog 24 #[.int .u8 f, .agg #[.int .u64 (x1 : Nat), .int .u64 (y1 : Nat)]] w fun r w' => r = .returned (.tuple #[.int .u8 (c : Nat), .int .i64 0]) ∧ Below w.heap.size w w')) (hT : FAt w) : Calls Tryd.prog 28 #[.int .u8 f, .agg #[.int .u64 (x1 : Nat), .int .u64 (y1 : Nat)]] w fun r w' => r = .returned (.bool o) ∧ Below w.heap.size w w' := by
  have FF := box hT
  have d7 : ((c : Int) == 8) = o := by
    rw [← ho]
    by_cases c7 : c = 8
    · rw [decide_eq_true c7, c7]; rfl
    · rw [decide_eq_false c7, beq_eq_false_iff_ne]; omega
  clear ho hT
  obtain ⟨Rb_0, B0⟩ := opn1 w (Obj.cells #[.int .u64 (x1 : Nat), .int .u64 (y1 : Nat)] 25)
  go_enter Tryd.func28, Tryd.ntmps28
  obtain ⟨cb_0_0, cb_0_1⟩ := cells2s Rb_0
  go_wp2_with fail
  refine (KC.out _ (fatB FF.out B0)).mono ?_
  rintro r w1 ⟨rfl, b1⟩
  have B1 : Below w.heap.size w w1 := btr B0 b1
  have Rb_1 := heap_of b1 _ _ _ Rb_0
  clear b1 B0 Rb_0 cb_0_0 cb_0_1
  obtain ⟨cb_1_0, cb_1_1⟩ := cells2s Rb_1
  go_wp2
  go_ret
  exact ⟨rfl, B1⟩
theorem od_invalid (o : Bool) (v : Int) (hv : (if o then 16 else 0) = v) (w : World) : Calls Tryd.prog 27 #[.bool o] w fun r w' => r = .returned (.int .u8 v) ∧ Below w.heap.size w w' := by
  subst hv
  cases o
  · have B0 : Below w.heap.size w w := (Below.refl _ _)
    go_enter Tryd.func27, Tryd.ntmps27
    go_wp2
    go_ret
    exact ⟨rfl, B0⟩
  · have B0 : Below w.heap.size w w := (Below.refl _ _)
    go_enter Tryd.func27, Tryd.ntmps27
    go_wp2
    go_ret
    exact ⟨rfl, B0⟩
set_option maxRecDepth 100000 in
set_option maxHeartbeats 8000000 in
theorem od_rel_n1 (f : Int) (x1 y1 x2 y2 : Nat) (w : World) (KN1 : Box (∀ w, FAt w → Calls Tryd.prog 47 #[.int .u8 f, .agg #[.int .u64 (x1 : Nat), .int .u64 (y1 : Nat)]] w fun r w' => r = .returned (.bool true) ∧ Below w.heap.size w w')) (hT : FAt w) : Calls Tryd.prog 26 #[.int .u8 f, .agg #[.int .u64 (x1 : Nat), .int .u64 (y1 : Nat)], .agg #[.int .u64 (x2 : Nat), .int .u64 (y2 : Nat)]] w fun r w' => r = .returned (.int .u8 0) ∧ Below w.heap.size w w' := by
  have FF := box hT
  clear hT
  obtain ⟨Ra_0, Rb_0, B0⟩ := opn2 w (Obj.cells #[.int .u64 (x1 : Nat), .int .u64 (y1 : Nat)] 25) (Obj.cells #[.int .u64 (x2 : Nat), .int .u64 (y2 : Nat)] 25)
  go_enter Tryd.func26, Tryd.ntmps26
  obtain ⟨ca_0_0, ca_0_1⟩ := cells2s Ra_0
  obtain ⟨cb_0_0, cb_0_1⟩ := cells2s Rb_0
  go_wp2_with fail
  refine (KN1.out _ (fatB FF.out B0)).mono ?_
  rintro r w1 ⟨rfl, b1⟩
  have B1 : Below w.heap.size w w1 := btr B0 b1
  have Ra_1 := heap_of b1 _ _ _ Ra_0
  have Rb_1 := heap_of b1 _ _ _ Rb_0
  clear b1 B0 Ra_0 ca_0_0 ca_0_1 Rb_0 cb_0_0 cb_0_1
  obtain ⟨ca_1_0, ca_1_1⟩ := cells2s Ra_1
  obtain ⟨cb_1_0, cb_1_1⟩ := cells2s Rb_1
  go_wp2
  go_ret
  exact ⟨rfl, B1⟩
set_option maxRecDepth 100000 in
set_option maxHeartbeats 8000000 in
theorem od_rel_n2 (f : Int) (x1 y1 x2 y2 : Nat) (w : World) (KN1 : Box (∀ w, FAt w → Calls Tryd.prog 47 #[.int .u8 f, .agg #[.int .u64 (x1 : Nat), .int .u64 (y1 : Nat)]] w fun r w' => r = .returned (.bool false) ∧ Below w.heap.size w w')) (KN2 : Box (∀ w, FAt w → Calls Tryd.prog 47 #[.int .u8 f, .agg #[.int .u64 (x2 : Nat), .int .u64 (y2 : Nat)]] w fun r w' => r = .returned (.bool true) ∧ Below w.heap.size w w')) (hT : FAt w) : Calls Tryd.prog 26 #[.int .u8 f, .agg #[.int .u64 (x1 : Nat), .int .u64 (y1 : Nat)], .agg #[.int .u64 (x2 : Nat), .int .u64 (y2 : Nat)]] w fun r w' => r = .returned (.int .u8 0) ∧ Below w.heap.size w w' := by
  have FF := box hT
  clear hT
  obtain ⟨Ra_0, Rb_0, B0⟩ := opn2 w (Obj.cells #[.int .u64 (x1 : Nat), .int .u64 (y1 : Nat)] 25) (Obj.cells #[.int .u64 (x2 : Nat), .int .u64 (y2 : Nat)] 25)
  go_enter Tryd.func26, Tryd.ntmps26
  obtain ⟨ca_0_0, ca_0_1⟩ := cells2s Ra_0
  obtain ⟨cb_0_0, cb_0_1⟩ := cells2s Rb_0
  go_wp2_with fail
  refine (KN1.out _ (fatB FF.out B0)).mono ?_
  rintro r w1 ⟨rfl, b1⟩
  have B1 : Below w.heap.size w w1 := btr B0 b1
  have Ra_1 := heap_of b1 _ _ _ Ra_0
  have Rb_1 := heap_of b1 _ _ _ Rb_0
  clear b1 B0 Ra_0 ca_0_0 ca_0_1 Rb_0 cb_0_0 cb_0_1
  obtain ⟨ca_1_0, ca_1_1⟩ := cells2s Ra_1
  obtain ⟨cb_1_0, cb_1_1⟩ := cells2s Rb_1
  go_wp2_with fail
  refine (KN2.out _ (fatB FF.out B1)).mono ?_
  rintro r w2 ⟨rfl, b2⟩
  have B2 : Below w.heap.size w w2 := btr B1 b2
  have Ra_2 := heap_of b2 _ _ _ Ra_1
  have Rb_2 := heap_of b2 _ _ _ Rb_1
  clear b2 B1 Ra_1 ca_1_0 ca_1_1 Rb_1 cb_1_0 cb_1_1
  obtain ⟨ca_2_0, ca_2_1⟩ := cells2s Ra_2
  obtain ⟨cb_2_0, cb_2_1⟩ := cells2s Rb_2
  go_wp2
  go_ret
  exact ⟨rfl, B2⟩
set_option maxRecDepth 100000 in
set_option maxHeartbeats 8000000 in
theorem od_rel_z (f : Int) (x1 y1 x2 y2 : Nat) (w : World) (KN1 : Box (∀ w, FAt w → Calls Tryd.prog 47 #[.int .u8 f, .agg #[.int .u64 (x1 : Nat), .int .u64 (y1 : Nat)]] w fun r w' => r = .returned (.bool false) ∧ Below w.heap.size w w')) (KN2 : Box (∀ w, FAt w → Calls Tryd.prog 47 #[.int .u8 f, .agg #[.int .u64 (x2 : Nat), .int .u64 (y2 : Nat)]] w fun r w' => r = .returned (.bool false) ∧ Below w.heap.size w w')) (KZ1 : Box (∀ w, FAt w → Calls Tryd.prog 48 #[.int .u8 f, .agg #[.int .u64 (x1 : Nat), .int .u64 (y1 : Nat)]] w fun r w' => r = .returned (.bool true) ∧ Below w.heap.size w w')) (KZ2 : Box (∀ w, FAt w → Calls Tryd.prog 48 #[.int .u8 f, .agg #[.int .u64 (x2 : Nat), .int .u64 (y2 : Nat)]] w fun r w' => r = .returned (.bool true) ∧ Below w.heap.size w w')) (hT : FAt w) : Calls Tryd.prog 26 #[.int .u8 f, .agg #[.int .u64 (x1 : Nat), .int .u64 (y1 : Nat)], .agg #[.int .u64 (x2 : Nat), .int .u64 (y2 : Nat)]] w fun r w' => r = .returned (.int .u8 2) ∧ Below w.heap.size w w' := by
  have FF := box hT
  clear hT
  obtain ⟨Ra_0, Rb_0, B0⟩ := opn2 w (Obj.cells #[.int .u64 (x1 : Nat), .int .u64 (y1 : Nat)] 25) (Obj.cells #[.int .u64 (x2 : Nat), .int .u64 (y2 : Nat)] 25)
  go_enter Tryd.func26, Tryd.ntmps26
  obtain ⟨ca_0_0, ca_0_1⟩ := cells2s Ra_0
  obtain ⟨cb_0_0, cb_0_1⟩ := cells2s Rb_0
  go_wp2_with fail
  refine (KN1.out _ (fatB FF.out B0)).mono ?_
  rintro r w1 ⟨rfl, b1⟩
  have B1 : Below w.heap.size w w1 := btr B0 b1
  have Ra_1 := heap_of b1 _ _ _ Ra_0
  have Rb_1 := heap_of b1 _ _ _ Rb_0
  clear b1 B0 Ra_0 ca_0_0 ca_0_1 Rb_0 cb_0_0 cb_0_1
  obtain ⟨ca_1_0, ca_1_1⟩ := cells2s Ra_1
  obtain ⟨cb_1_0, cb_1_1⟩ := cells2s Rb_1
  go_wp2_with fail
  refine (KN2.out _ (fatB FF.out B1)).mono ?_
  rintro r w2 ⟨rfl, b2⟩
  have B2 : Below w.heap.size w w2 := btr B1 b2
  have Ra_2 := heap_of b2 _ _ _ Ra_1
  have Rb_2 := heap_of b2 _ _ _ Rb_1
  clear b2 B1 Ra_1 ca_1_0 ca_1_1 Rb_1 cb_1_0 cb_1_1
  obtain ⟨ca_2_0, ca_2_1⟩ := cells2s Ra_2
  obtain ⟨cb_2_0, cb_2_1⟩ := cells2s Rb_2
  go_wp2_with fail
  refine (KZ1.out _ (fatB FF.out B2)).mono ?_
  rintro r w3 ⟨rfl, b3⟩
  have B3 : Below w.heap.size w w3 := btr B2 b3
  have Ra_3 := heap_of b3 _ _ _ Ra_2
  have Rb_3 := heap_of b3 _ _ _ Rb_2
  clear b3 B2 Ra_2 ca_2_0 ca_2_1 Rb_2 cb_2_0 cb_2_1
  obtain ⟨ca_3_0, ca_3_1⟩ := cells2s Ra_3
  obtain ⟨cb_3_0, cb_3_1⟩ := cells2s Rb_3
  go_wp2_with fail
  refine (KZ2.out _ (fatB FF.out B3)).mono ?_
  rintro r w4 ⟨rfl, b4⟩
  have B4 : Below w.heap.size w w4 := btr B3 b4
  have Ra_4 := heap_of b4 _ _ _ Ra_3
  have Rb_4 := heap_of b4 _ _ _ Rb_3
  clear b4 B3 Ra_3 ca_3_0 ca_3_1 Rb_3 cb_3_0 cb_3_1
  obtain ⟨ca_4_0, ca_4_1⟩ := cells2s Ra_4
  obtain ⟨cb_4_0, cb_4_1⟩ := cells2s Rb_4
  go_wp2
  go_ret
  exact ⟨rfl, B4⟩
set_option maxRecDepth 100000 in
set_option maxHeartbeats 8000000 in
theorem od_rel_t1 (f : Int) (x1 y1 x2 y2 : Nat) (t rl : Int) (w : World) (KN1 : Box (∀ w, FAt w → Calls Tryd.prog 47 #[.int .u8 f, .agg #[.int .u64 (x1 : Nat), .int .u64 (y1 : Nat)]] w fun r w' => r = .returned (.bool false) ∧ Below w.heap.size w w')) (KN2 : Box (∀ w, FAt w → Calls Tryd.prog 47 #[.int .u8 f, .agg #[.int .u64 (x2 : Nat), .int .u64 (y2 : Nat)]] w fun r w' => r = .returned (.bool false) ∧ Below w.heap.size w w')) (KZ1 : Box (∀ w, FAt w → Calls Tryd.prog 48 #[.int .u8 f, .agg #[.int .u64 (x1 : Nat), .int .u64 (y1 : Nat)]] w fun r w' => r = .returned (.bool false) ∧ Below w.heap.size w w')) (KT : Box (∀ w, FAt w → Calls Tryd.prog 40 #[.int .u8 f, .agg #[.int .u64 (x1 : Nat), .int .u64 (y1 : Nat)], .agg #[.int .u64 (x2 : Nat), .int .u64 (y2 : Nat)]] w fun r w' => r = .returned (.int .i64 t) ∧ Below w.heap.size w w')) (ht : Box (wrap64 (2 + t) % 256 = rl)) (hT : FAt w) : Calls Tryd.prog 26 #[.int .u8 f, .agg #[.int .u64 (x1 : Nat), .int .u64 (y1 : Nat)], .agg #[.int .u64 (x2 : Nat), .int .u64 (y2 : Nat)]] w fun r w' => r = .returned (.int .u8 rl) ∧ Below w.heap.size w w' := by
  have e := ht.out
  subst e
  have FF := box hT
  clear hT
  obtain ⟨Ra_0, Rb_0, B0⟩ := opn2 w (Obj.cells #[.int .u64 (x1 : Nat), .int .u64 (y1 : Nat)] 25) (Obj.cells #[.int .u64 (x2 : Nat), .int .u64 (y2 : Nat)] 25)
  go_enter Tryd.func26, Tryd.ntmps26
  obtain ⟨ca_0_0, ca_0_1⟩ := cells2s Ra_0
  obtain ⟨cb_0_0, cb_0_1⟩ := cells2s Rb_0
  go_wp2_with fail
  refine (KN1.out _ (fatB FF.out B0)).mono ?_
  rintro r w1 ⟨rfl, b1⟩
  have B1 : Below w.heap.size w w1 := btr B0 b1
  have Ra_1 := heap_of b1 _ _ _ Ra_0
  have Rb_1 := heap_of b1 _ _ _ Rb_0
  clear b1 B0 Ra_0 ca_0_0 ca_0_1 Rb_0 cb_0_0 cb_0_1
  obtain ⟨ca_1_0, ca_1_1⟩ := cells2s Ra_1
  obtain ⟨cb_1_0, cb_1_1⟩ := cells2s Rb_1
  go_wp2_with fail
  refine (KN2.out _ (fatB FF.out B1)).mono ?_
  rintro r w2 ⟨rfl, b2⟩
  have B2 : Below w.heap.size w w2 := btr B1 b2
  have Ra_2 := heap_of b2 _ _ _ Ra_1
  have Rb_2 := heap_of b2 _ _ _ Rb_1
  clear b2 B1 Ra_1 ca_1_0 ca_1_1 Rb_1 cb_1_0 cb_1_1
  obtain ⟨ca_2_0, ca_2_1⟩ := cells2s Ra_2
  obtain ⟨cb_2_0, cb_2_1⟩ := cells2s Rb_2
  go_wp2_with fail
  refine (KZ1.out _ (fatB FF.out B2)).mono ?_
  rintro r w3 ⟨rfl, b3⟩
  have B3 : Below w.heap.size w w3 := btr B2 b3
  have Ra_3 := heap_of b3 _ _ _ Ra_2
  have Rb_3 := heap_of b3 _ _ _ Rb_2
  clear b3 B2 Ra_2 ca_2_0 ca_2_1 Rb_2 cb_2_0 cb_2_1
  obtain ⟨ca_3_0, ca_3_1⟩ := cells2s Ra_3
  obtain ⟨cb_3_0, cb_3_1⟩ := cells2s Rb_3
  go_wp2_with fail
  refine (KT.out _ (fatB FF.out B3)).mono ?_
  rintro r w4 ⟨rfl, b4⟩
  have B4 : Below w.heap.size w w4 := btr B3 b4
  have Ra_4 := heap_of b4 _ _ _ Ra_3
  have Rb_4 := heap_of b4 _ _ _ Rb_3
  clear b4 B3 Ra_3 ca_3_0 ca_3_1 Rb_3 cb_3_0 cb_3_1
  obtain ⟨ca_4_0, ca_4_1⟩ := cells2s Ra_4
  obtain ⟨cb_4_0, cb_4_1⟩ := cells2s Rb_4
  go_wp2
  go_ret
  exact ⟨rfl, B4⟩
set_option maxRecDepth 100000 in
set_option maxHeartbeats 8000000 in
theorem od_rel_t2 (f : Int) (x1 y1 x2 y2 : Nat) (t rl : Int) (w : World) (KN1 : Box (∀ w, FAt w → Calls Tryd.prog 47 #[.int .u8 f, .agg #[.int .u64 (x1 : Nat), .int .u64 (y1 : Nat)]] w fun r w' => r = .returned (.bool false) ∧ Below w.heap.size w w')) (KN2 : Box (∀ w, FAt w → Calls Tryd.prog 47 #[.int .u8 f, .agg #[.int .u64 (x2 : Nat), .int .u64 (y2 : Nat)]] w fun r w' => r = .returned (.bool false) ∧ Below w.heap.size w w')) (KZ1 : Box (∀ w, FAt w → Calls Tryd.prog 48 #[.int .u8 f, .agg #[.int .u64 (x1 : Nat), .int .u64 (y1 : Nat)]] w fun r w' => r = .returned (.bool true) ∧ Below w.heap.size w w')) (KZ2 : Box (∀ w, FAt w → Calls Tryd.prog 48 #[.int .u8 f, .agg #[.int .u64 (x2 : Nat), .int .u64 (y2 : Nat)]] w fun r w' => r = .returned (.bool false) ∧ Below w.heap.size w w')) (KT : Box (∀ w, FAt w → Calls Tryd.prog 40 #[.int .u8 f, .agg #[.int .u64 (x1 : Nat), .int .u64 (y1 : Nat)], .agg #[.int .u64 (x2 : Nat), .int .u64 (y2 : Nat)]] w fun r w' => r = .returned (.int .i64 t) ∧ Below w.heap.size w w')) (ht : Box (wrap64 (2 + t) % 256 = rl)) (hT : FAt w) : Calls Tryd.prog 26 #[.int .u8 f, .agg #[.int .u64 (x1 : Nat), .int .u64 (y1 : Nat)], .agg #[.int .u64 (x2 : Nat), .int .u64 (y2 : Nat)]] w fun r w' => r = .returned (.int .u8 rl) ∧ Below w.heap.size w w' := by
  have e := ht.out
  subst e
  have FF := box hT
  clear hT
  obtain ⟨Ra_0, Rb_0, B0⟩ := opn2 w (Obj.cells #[.int .u64 (x1 : Nat), .int .u64 (y1 : Nat)] 25) (Obj.cells #[.int .u64 (x2 : Nat), .int .u64 (y2 : Nat)] 25)
  go_enter Tryd.func26, Tryd.ntmps26
  obtain ⟨ca_0_0, ca_0_1⟩ := cells2s Ra_0
  obtain ⟨cb_0_0, cb_0_1⟩ := cells2s Rb_0
  go_wp2_with fail
  refine (KN1.out _ (fatB FF.out B0)).mono ?_
  rintro r w1 ⟨rfl, b1⟩
  have B1 : Below w.heap.size w w1 := btr B0 b1
  have Ra_1 := heap_of b1 _ _ _ Ra_0
  have Rb_1 := heap_of b1 _ _ _ Rb_0
  clear b1 B0 Ra_0 ca_0_0 ca_0_1 Rb_0 cb_0_0 cb_0_1
  obtain ⟨ca_1_0, ca_1_1⟩ := cells2s Ra_1
  obtain ⟨cb_1_0, cb_1_1⟩ := cells2s Rb_1
  go_wp2_with fail
  refine (KN2.out _ (fatB FF.out B1)).mono ?_
  rintro r w2 ⟨rfl, b2⟩
  have B2 : Below w.heap.size w w2 := btr B1 b2
  have Ra_2 := heap_of b2 _ _ _ Ra_1
  have Rb_2 := heap_of b2 _ _ _ Rb_1
  clear b2 B1 Ra_1 ca_1_0 ca_1_1 Rb_1 cb_1_0 cb_1_1
  obtain ⟨ca_2_0, ca_2_1⟩ := cells2s Ra_2
  obtain ⟨cb_2_0, cb_2_1⟩ := cells2s Rb_2
  go_wp2_with fail
  refine (KZ1.out _ (fatB FF.out B2)).mono ?_
  rintro r w3 ⟨rfl, b3⟩
  have B3 : Below w.heap.size w w3 := btr B2 b3
  have Ra_3 := heap_of b3 _ _ _ Ra_2
  have Rb_3 := heap_of b3 _ _ _ Rb_2
  clear b3 B2 Ra_2 ca_2_0 ca_2_1 Rb_2 cb_2_0 cb_2_1
  obtain ⟨ca_3_0, ca_3_1⟩ := cells2s Ra_3
  obtain ⟨cb_3_0, cb_3_1⟩ := cells2s Rb_3
  go_wp2_with fail
  refine (KZ2.out _ (fatB FF.out B3)).mono ?_
  rintro r w4 ⟨rfl, b4⟩
  have B4 : Below w.heap.size w w4 := btr B3 b4
  have Ra_4 := heap_of b4 _ _ _ Ra_3
  have Rb_4 := heap_of b4 _ _ _ Rb_3
  clear b4 B3 Ra_3 ca_3_0 ca_3_1 Rb_3 cb_3_0 cb_3_1
  obtain ⟨ca_4_0, ca_4_1⟩ := cells2s Ra_4
  obtain ⟨cb_4_0, cb_4_1⟩ := cells2s Rb_4
  go_wp2_with fail
  refine (KT.out _ (fatB FF.out B4)).mono ?_
  rintro r w5 ⟨rfl, b5⟩
  have B5 : Below w.heap.size w w5 := btr B4 b5
  have Ra_5 := heap_of b5 _ _ _ Ra_4
  have Rb_5 := heap_of b5 _ _ _ Rb_4
  clear b5 B4 Ra_4 ca_4_0 ca_4_1 Rb_4 cb_4_0 cb_4_1
  obtain ⟨ca_5_0, ca_5_1⟩ := cells2s Ra_5
  obtain ⟨cb_5_0, cb_5_1⟩ := cells2s Rb_5
  go_wp2
  go_ret
  exact ⟨rfl, B5⟩
set_option maxRecDepth 100000 in
set_option maxHeartbeats 8000000 in
theorem od_ord_nn (f : Int) (x1 y1 x2 y2 : Nat) (u v : Nat) (w : World) (KN1 : Box (∀ w, FAt w → Calls Tryd.prog 47 #[.int .u8 f, .agg #[.int .u64 (x1 : Nat), .int .u64 (y1 : Nat)]] w fun r w' => r = .returned (.bool true) ∧ Below w.heap.size w w')) (KN2 : Box (∀ w, FAt w → Calls Tryd.prog 47 #[.int .u8 f, .agg #[.int .u64 (x2 : Nat), .int .u64 (y2 : Nat)]] w fun r w' => r = .returned (.bool true) ∧ Below w.heap.size w w')) (KF : Box (∀ w, FAt w → Calls Tryd.prog 59 #[.int .u8 f] w fun r w' => r = .returned (.agg #[.int .u64 (u : Nat), .int .u64 (v : Nat)]) ∧ Below w.heap.size w w')) (hT : FAt w) : Calls Tryd.prog 36 #[.int .u8 f, .agg #[.int .u64 (x1 : Nat), .int .u64 (y1 : Nat)], .agg #[.int .u64 (x2 : Nat), .int .u64 (y2 : Nat)]] w fun r w' => r = .returned (.tuple #[.agg #[.int .u64 (u : Nat), .int .u64 (v : Nat)], .agg #[.int .u64 (u : Nat), .int .u64 (v : Nat)]]) ∧ Below w.heap.size w w' := by
  have FF := box hT
  clear hT
  obtain ⟨Ra_0, Rb_0, Rl_0, Rh_0, B0⟩ := opn4 w (Obj.cells #[.int .u64 (x1 : Nat), .int .u64 (y1 : Nat)] 25) (Obj.cells #[.int .u64 (x2 : Nat), .int .u64 (y2 : Nat)] 25) (Obj.cells #[.int .u64 0, .int .u64 0] 25) (Obj.cells #[.int .u64 0, .int .u64 0] 25)
  go_enter Tryd.func36, Tryd.ntmps36
  obtain ⟨ca_0_0, ca_0_1⟩ := cells2s Ra_0
  obtain ⟨cb_0_0, cb_0_1⟩ := cells2s Rb_0
  go_wp2_with fail
  refine (KN1.out _ (fatB FF.out B0)).mono ?_
  rintro r w1 ⟨rfl, b1⟩
  have B1 : Below w.heap.size w w1 := btr B0 b1
  have Ra_1 := heap_of b1 _ _ _ Ra_0
  have Rb_1 := heap_of b1 _ _ _ Rb_0
  have Rl_1 := heap_of b1 _ _ _ Rl_0
  have Rh_1 := heap_of b1 _ _ _ Rh_0
  clear b1 B0 Ra_0 ca_0_0 ca_0_1 Rb_0 cb_0_0 cb_0_1 Rl_0 Rh_0
  obtain ⟨ca_1_0, ca_1_1⟩ := cells2s Ra_1
  obtain ⟨cb_1_0, cb_1_1⟩ := cells2s Rb_1
  go_wp2_with fail
  refine (KN2.out _ (fatB FF.out B1)).mono ?_
  rintro r w2 ⟨rfl, b2⟩
  have B2 : Below w.heap.size w w2 := btr B1 b2
  have Ra_2 := heap_of b2 _ _ _ Ra_1
  have Rb_2 := heap_of b2 _ _ _ Rb_1
  have Rl_2 := heap_of b2 _ _ _ Rl_1
  have Rh_2 := heap_of b2 _ _ _ Rh_1
  clear b2 B1 Ra_1 ca_1_0 ca_1_1 Rb_1 cb_1_0 cb_1_1 Rl_1 Rh_1
  obtain ⟨ca_2_0, ca_2_1⟩ := cells2s Ra_2
  obtain ⟨cb_2_0, cb_2_1⟩ := cells2s Rb_2
  go_wp2_with fail
  refine (KF.out _ (fatB FF.out B2)).mono ?_
  rintro r w3 ⟨rfl, b3⟩
  have B3 : Below w.heap.size w w3 := btr B2 b3
  have Ra_3 := heap_of b3 _ _ _ Ra_2
  have Rb_3 := heap_of b3 _ _ _ Rb_2
  have Rl_3 := heap_of b3 _ _ _ Rl_2
  have Rh_3 := heap_of b3 _ _ _ Rh_2
  clear b3 B2 Ra_2 ca_2_0 ca_2_1 Rb_2 cb_2_0 cb_2_1 Rl_2 Rh_2
  obtain ⟨ca_3_0, ca_3_1⟩ := cells2s Ra_3
  obtain ⟨cb_3_0, cb_3_1⟩ := cells2s Rb_3
  go_wp2_with fail
  refine (KF.out _ (fatB FF.out B3)).mono ?_
  rintro r w4 ⟨rfl, b4⟩
  have B4 : Below w.heap.size w w4 := btr B3 b4
  have Ra_4 := heap_of b4 _ _ _ Ra_3
  have Rb_4 := heap_of b4 _ _ _ Rb_3
  have Rl_4 := heap_of b4 _ _ _ Rl_3
  have Rh_4 := heap_of b4 _ _ _ Rh_3
  clear b4 B3 Ra_3 ca_3_0 ca_3_1 Rb_3 cb_3_0 cb_3_1 Rl_3 Rh_3
  obtain ⟨ca_4_0, ca_4_1⟩ := cells2s Ra_4
  obtain ⟨cb_4_0, cb_4_1⟩ := cells2s Rb_4
  obtain ⟨cl_4_0, cl_4_1⟩ := cells2s Rl_4
  obtain ⟨ch_4_0, ch_4_1⟩ := cells2s Rh_4
  have il0 := fz (k := 0) Rl_4
  have il1 := fz (k := 1) Rl_4
  have ih0 := fz (k := 0) Rh_4
  have ih1 := fz (k := 1) Rh_4
  obtain ⟨D0, D1, D2, D3, BV9⟩ := two_boxes0 B4 Rl_4 Rh_4 (by omega) (by omega) (by omega) (.int .u64 (u : Nat)) (.int .u64 (v : Nat)) (.int .u64 (u : Nat)) (.int .u64 (v : Nat))
  go_wp2
  exact bodyPost_ret (v := .tuple #[.agg #[.int .u64 (u : Nat), .int .u64 (v : Nat)], .agg #[.int .u64 (u : Nat), .int .u64 (v : Nat)]]) (by simp [results, Tryd.results36, go_sem, D0, D1, D2, D3]) rfl ⟨rfl, BV9⟩
set_option maxRecDepth 100000 in
set_option maxHeartbeats 8000000 in
theorem od_ord_n1 (f : Int) (x1 y1 x2 y2 : Nat) (w : World) (KN1 : Box (∀ w, FAt w → Calls Tryd.prog 47 #[.int .u8 f, .agg #[.int .u64 (x1 : Nat), .int .u64 (y1 : Nat)]] w fun r w' => r = .returned (.bool true) ∧ Below w.heap.size w w')) (KN2 : Box (∀ w, FAt w → Calls Tryd.prog 47 #[.int .u8 f, .agg #[.int .u64 (x2 : Nat), .int .u64 (y2 : Nat)]] w fun r w' => r = .returned (.bool false) ∧ Below w.heap.size w w')) (hT : FAt w) : Calls Tryd.prog 36 #[.int .u8 f, .agg #[.int .u64 (x1 : Nat), .int .u64 (y1 : Nat)], .agg #[.int .u64 (x2 : Nat), .int .u64 (y2 : Nat)]] w fun r w' => r = .returned (.tuple #[.agg #[.int .u64 (x2 : Nat), .int .u64 (y2 : Nat)], .agg #[.int .u64 (x2 : Nat), .int .u64 (y2 : Nat)]]) ∧ Below w.heap.size w w' := by
  have FF := box hT
  clear hT
  obtain ⟨Ra_0, Rb_0, Rl_0, Rh_0, B0⟩ := opn4 w (Obj.cells #[.int .u64 (x1 : Nat), .int .u64 (y1 : Nat)] 25) (Obj.cells #[.int .u64 (x2 : Nat), .int .u64 (y2 : Nat)] 25) (Obj.cells #[.int .u64 0, .int .u64 0] 25) (Obj.cells #[.int .u64 0, .int .u64 0] 25)
  go_enter Tryd.func36, Tryd.ntmps36
  obtain ⟨ca_0_0, ca_0_1⟩ := cells2s Ra_0
  obtain ⟨cb_0_0, cb_0_1⟩ := cells2s Rb_0
  go_wp2_with fail
  refine (KN1.out _ (fatB FF.out B0)).mono ?_
  rintro r w1 ⟨rfl, b1⟩
  have B1 : Below w.heap.size w w1 := btr B0 b1
  have Ra_1 := heap_of b1 _ _ _ Ra_0
  have Rb_1 := heap_of b1 _ _ _ Rb_0
  have Rl_1 := heap_of b1 _ _ _ Rl_0
  have Rh_1 := heap_of b1 _ _ _ Rh_0
  clear b1 B0 Ra_0 ca_0_0 ca_0_1 Rb_0 cb_0_0 cb_0_1 Rl_0 Rh_0
  obtain ⟨ca_1_0, ca_1_1⟩ := cells2s Ra_1
  obtain ⟨cb_1_0, cb_1_1⟩ := cells2s Rb_1
  go_wp2_with fail
  refine (KN2.out _ (fatB FF.out B1)).mono ?_
  rintro r w2 ⟨rfl, b2⟩
  have B2 : Below w.heap.size w w2 := btr B1 b2
  have Ra_2 := heap_of b2 _ _ _ Ra_1
  have Rb_2 := heap_of b2 _ _ _ Rb_1
  have Rl_2 := heap_of b2 _ _ _ Rl_1
  have Rh_2 := heap_of b2 _ _ _ Rh_1
  clear b2 B1 Ra_1 ca_1_0 ca_1_1 Rb_1 cb_1_0 cb_1_1 Rl_1 Rh_1
  obtain ⟨ca_2_0, ca_2_1⟩ := cells2s Ra_2
  obtain ⟨cb_2_0, cb_2_1⟩ := cells2s Rb_2
  go_wp2_with fail
  refine (KN1.out _ (fatB FF.out B2)).mono ?_
  rintro r w3 ⟨rfl, b3⟩
  have B3 : Below w.heap.size w w3 := btr B2 b3
  have Ra_3 := heap_of b3 _ _ _ Ra_2
  have Rb_3 := heap_of b3 _ _ _ Rb_2
  have Rl_3 := heap_of b3 _ _ _ Rl_2
  have Rh_3 := heap_of b3 _ _ _ Rh_2
  clear b3 B2 Ra_2 ca_2_0 ca_2_1 Rb_2 cb_2_0 cb_2_1 Rl_2 Rh_2
  obtain ⟨ca_3_0, ca_3_1⟩ := cells2s Ra_3
  obtain ⟨cb_3_0, cb_3_1⟩ := cells2s Rb_3
  have sS : Box (∀ W W1 : World, (Below w.heap.size w W ∧ W.heap[w.heap.size]? = some (Obj.cells #[.int .u64 (x1 : Nat), .int .u64 (y1 : Nat)] 25) ∧ W.heap[w.heap.size + 1]? = some (Obj.cells #[.int .u64 (x2 : Nat), .int .u64 (y2 : Nat)] 25) ∧ W.cell? ⟨w.heap.size, 0, none⟩ = some (.int .u64 (x1 : Nat)) ∧ W.cell? ⟨w.heap.size, 1, none⟩ = some (.int .u64 (y1 : Nat)) ∧ W.cell? ⟨w.heap.size + 1, 0, none⟩ = some (.int .u64 (x2 : Nat)) ∧ W.cell? ⟨w.heap.size + 1, 1, none⟩ = some (.int .u64 (y2 : Nat))) → Below W.heap.size W W1 → (Below w.heap.size w W1 ∧ W1.heap[w.heap.size]? = some (Obj.cells #[.int .u64 (x1 : Nat), .int .u64 (y1 : Nat)] 25) ∧ W1.heap[w.heap.size + 1]? = some (Obj.cells #[.int .u64 (x2 : Nat), .int .u64 (y2 : Nat)] 25) ∧ W1.cell? ⟨w.heap.size, 0, none⟩ = some (.int .u64 (x1 : Nat)) ∧ W1.cell? ⟨w.heap.size, 1, none⟩ = some (.int .u64 (y1 : Nat)) ∧ W1.cell? ⟨w.heap.size + 1, 0, none⟩ = some (.int .u64 (x2 : Nat)) ∧ W1.cell? ⟨w.heap.size + 1, 1, none⟩ = some (.int .u64 (y2 : Nat)))) := box (fun W W1 h b => ⟨btr h.1 b, heap_of b _ _ _ h.2.1, heap_of b _ _ _ h.2.2.1, cell7 (heap_of b _ _ _ h.2.1) 0 _ rfl, cell7 (heap_of b _ _ _ h.2.1) 1 _ rfl, cell7 (heap_of b _ _ _ h.2.2.1) 0 _ rfl, cell7 (heap_of b _ _ _ h.2.2.1) 1 _ rfl⟩)
  have sTA : Box (∀ (W : World) (xA xB : Value), (Below w.heap.size w W ∧ W.heap[w.heap.size]? = some (Obj.cells #[.int .u64 (x1 : Nat), .int .u64 (y1 : Nat)] 25) ∧ W.heap[w.heap.size + 1]? = some (Obj.cells #[.int .u64 (x2 : Nat), .int .u64 (y2 : Nat)] 25) ∧ W.cell? ⟨w.heap.size, 0, none⟩ = some (.int .u64 (x1 : Nat)) ∧ W.cell? ⟨w.heap.size, 1, none⟩ = some (.int .u64 (y1 : Nat)) ∧ W.cell? ⟨w.heap.size + 1, 0, none⟩ = some (.int .u64 (x2 : Nat)) ∧ W.cell? ⟨w.heap.size + 1, 1, none⟩ = some (.int .u64 (y2 : Nat))) → (Below w.heap.size w ((W.setCell ⟨w.heap.size + 1 + 1, 0, none⟩ xA).setCell ⟨w.heap.size + 1 + 1, 1, none⟩ xB) ∧ ((W.setCell ⟨w.heap.size + 1 + 1, 0, none⟩ xA).setCell ⟨w.heap.size + 1 + 1, 1, none⟩ xB).heap[w.heap.size]? = some (Obj.cells #[.int .u64 (x1 : Nat), .int .u64 (y1 : Nat)] 25) ∧ ((W.setCell ⟨w.heap.size + 1 + 1, 0, none⟩ xA).setCell ⟨w.heap.size + 1 + 1, 1, none⟩ xB).heap[w.heap.size + 1]? = some (Obj.cells #[.int .u64 (x2 : Nat), .int .u64 (y2 : Nat)] 25) ∧ ((W.setCell ⟨w.heap.size + 1 + 1, 0, none⟩ xA).setCell ⟨w.heap.size + 1 + 1, 1, none⟩ xB).cell? ⟨w.heap.size, 0, none⟩ = some (.int .u64 (x1 : Nat)) ∧ ((W.setCell ⟨w.heap.size + 1 + 1, 0, none⟩ xA).setCell ⟨w.heap.size + 1 + 1, 1, none⟩ xB).cell? ⟨w.heap.size, 1, none⟩ = some (.int .u64 (y1 : Nat)) ∧ ((W.setCell ⟨w.heap.size + 1 + 1, 0, none⟩ xA).setCell ⟨w.heap.size + 1 + 1, 1, none⟩ xB).cell? ⟨w.heap.size + 1, 0, none⟩ = some (.int .u64 (x2 : Nat)) ∧ ((W.setCell ⟨w.heap.size + 1 + 1, 0, none⟩ xA).setCell ⟨w.heap.size + 1 + 1, 1, none⟩ xB).cell? ⟨w.heap.size + 1, 1, none⟩ = some (.int .u64 (y2 : Nat)))) := box (fun W xA xB h => ⟨set2_below h.1 (show w.heap.size ≤ w.heap.size + 1 + 1 by first | exact Nat.le_refl _ | omega | (skip; omega)) xA xB, (setCell_other (by first | omega | (skip; omega))).trans ((setCell_other (by first | omega | (skip; omega))).trans h.2.1), (setCell_other (by first | omega | (skip; omega))).trans ((setCell_other (by first | omega | (skip; omega))).trans h.2.2.1), cell7 ((setCell_other (by first | omega | (skip; omega))).trans ((setCell_other (by first | omega | (skip; omega))).trans h.2.1)) 0 _ rfl, cell7 ((setCell_other (by first | omega | (skip; omega))).trans ((setCell_other (by first | omega | (skip; omega))).trans h.2.1)) 1 _ rfl, cell7 ((setCell_other (by first | omega | (skip; omega))).trans ((setCell_other (by first | omega | (skip; omega))).trans h.2.2.1)) 0 _ rfl, cell7 ((setCell_other (by first | omega | (skip; omega))).trans ((setCell_other (by first | omega | (skip; omega))).trans h.2.2.1)) 1 _ rfl⟩)
  have sTB : Box (∀ (W : World) (xA xB : Value), (Below w.heap.size w W ∧ W.heap[w.heap.size]? = some (Obj.cells #[.int .u64 (x1 : Nat), .int .u64 (y1 : Nat)] 25) ∧ W.heap[w.heap.size + 1]? = some (Obj.cells #[.int .u64 (x2 : Nat), .int .u64 (y2 : Nat)] 25) ∧ W.cell? ⟨w.heap.size, 0, none⟩ = some (.int .u64 (x1 : Nat)) ∧ W.cell? ⟨w.heap.size, 1, none⟩ = some (.int .u64 (y1 : Nat)) ∧ W.cell? ⟨w.heap.size + 1, 0, none⟩ = some (.int .u64 (x2 : Nat)) ∧ W.cell? ⟨w.heap.size + 1, 1, none⟩ = some (.int .u64 (y2 : Nat))) → (Below w.heap.size w ((W.setCell ⟨w.heap.size + 1 + 1 + 1, 0, none⟩ xA).setCell ⟨w.heap.size + 1 + 1 + 1, 1, none⟩ xB) ∧ ((W.setCell ⟨w.heap.size + 1 + 1 + 1, 0, none⟩ xA).setCell ⟨w.heap.size + 1 + 1 + 1, 1, none⟩ xB).heap[w.heap.size]? = some (Obj.cells #[.int .u64 (x1 : Nat), .int .u64 (y1 : Nat)] 25) ∧ ((W.setCell ⟨w.heap.size + 1 + 1 + 1, 0, none⟩ xA).setCell ⟨w.heap.size + 1 + 1 + 1, 1, none⟩ xB).heap[w.heap.size + 1]? = some (Obj.cells #[.int .u64 (x2 : Nat), .int .u64 (y2 : Nat)] 25) ∧ ((W.setCell ⟨w.heap.size + 1 + 1 + 1, 0, none⟩ xA).setCell ⟨w.heap.size + 1 + 1 + 1, 1, none⟩ xB).cell? ⟨w.heap.size, 0, none⟩ = some (.int .u64 (x1 : Nat)) ∧ ((W.setCell ⟨w.heap.size + 1 + 1 + 1, 0, none⟩ xA).setCell ⟨w.heap.size + 1 + 1 + 1, 1, none⟩ xB).cell? ⟨w.heap.size, 1, none⟩ = some (.int .u64 (y1 : Nat)) ∧ ((W.setCell ⟨w.heap.size + 1 + 1 + 1, 0, none⟩ xA).setCell ⟨w.heap.size + 1 + 1 + 1, 1, none⟩ xB).cell? ⟨w.heap.size + 1, 0, none⟩ = some (.int .u64 (x2 : Nat)) ∧ ((W.setCell ⟨w.heap.size + 1 + 1 + 1, 0, none⟩ xA).setCell ⟨w.heap.size + 1 + 1 + 1, 1, none⟩ xB).cell? ⟨w.heap.size + 1, 1, none⟩ = some (.int .u64 (y2 : Nat)))) := box (fun W xA xB h => ⟨set2_below h.1 (show w.heap.size ≤ w.heap.size + 1 + 1 + 1 by first | exact Nat.le_refl _ | omega | (skip; omega)) xA xB, (setCell_other (by first | omega | (skip; omega))).trans ((setCell_other (by first | omega | (skip; omega))).trans h.2.1), (setCell_other (by first | omega | (skip; omega))).trans ((setCell_other (by first | omega | (skip; omega))).trans h.2.2.1), cell7 ((setCell_other (by first | omega | (skip; omega))).trans ((setCell_other (by first | omega | (skip; omega))).trans h.2.1)) 0 _ rfl, cell7 ((setCell_other (by first | omega | (skip; omega))).trans ((setCell_other (by first | omega | (skip; omega))).trans h.2.1)) 1 _ rfl, cell7 ((setCell_other (by first | omega | (skip; omega))).trans ((setCell_other (by first | omega | (skip; omega))).trans h.2.2.1)) 0 _ rfl, cell7 ((setCell_other (by first | omega | (skip; omega))).trans ((setCell_other (by first | omega | (skip; omega))).trans h.2.2.1)) 1 _ rfl⟩)
  have s0 : Below w.heap.size w (w3).drew ∧ (w3).drew.heap[w.heap.size]? = some (Obj.cells #[.int .u64 (x1 : Nat), .int .u64 (y1 : Nat)] 25) ∧ (w3).drew.heap[w.heap.size + 1]? = some (Obj.cells #[.int .u64 (x2 : Nat), .int .u64 (y2 : Nat)] 25) ∧ (w3).drew.cell? ⟨w.heap.size, 0, none⟩ = some (.int .u64 (x1 : Nat)) ∧ (w3).drew.cell? ⟨w.heap.size, 1, none⟩ = some (.int .u64 (y1 : Nat)) ∧ (w3).drew.cell? ⟨w.heap.size + 1, 0, none⟩ = some (.int .u64 (x2 : Nat)) ∧ (w3).drew.cell? ⟨w.heap.size + 1, 1, none⟩ = some (.int .u64 (y2 : Nat)) := ⟨B3.drew, Ra_3, Rb_3, cell7 (Ra_3) 0 _ rfl, cell7 (Ra_3) 1 _ rfl, cell7 (Rb_3) 0 _ rfl, cell7 (Rb_3) 1 _ rfl⟩
  have rA : (w3).drew.heap[w.heap.size + 1 + 1]? = some (Obj.cells #[.int .u64 0, .int .u64 0] 25) := Rl_3
  have rB : (w3).drew.heap[w.heap.size + 1 + 1 + 1]? = some (Obj.cells #[.int .u64 0, .int .u64 0] 25) := Rh_3
  go_wp2_with fail
  have hA0 := fz (k := 0) rA
  have hA1 := fz (k := 1) rA
  have dA0 := cell7 rA 0 _ rfl
  have dA1 := cell7 rA 1 _ rfl
  have hB0 := fz (k := 0) rB
  have hB1 := fz (k := 1) rB
  have dB0 := cell7 rB 0 _ rfl
  have dB1 := cell7 rB 1 _ rfl
  have rB2 : (((w3).drew.setCell ⟨w.heap.size + 1 + 1, 0, none⟩ (.int .u64 (x2 : Nat))).setCell ⟨w.heap.size + 1 + 1, 1, none⟩ (.int .u64 (y2 : Nat))).heap[w.heap.size + 1 + 1 + 1]? = _ := (setCell_other (by first | omega | (skip; omega))).trans ((setCell_other (by first | omega | (skip; omega))).trans rB)
  have hC0 := fz (k := 0) rB2
  have hC1 := fz (k := 1) rB2
  have dC0 := cell7 rB2 0 _ rfl
  have dC1 := cell7 rB2 1 _ rfl
  have il0 := fz (k := 0) Rl_3
  have jl0 := cell7 Rl_3 0 _ rfl
  have il1 := fz (k := 1) Rl_3
  have jl1 := cell7 Rl_3 1 _ rfl
  have ih0 := fz (k := 0) Rh_3
  have jh0 := cell7 Rh_3 0 _ rfl
  have ih1 := fz (k := 1) Rh_3
  have jh1 := cell7 Rh_3 1 _ rfl
  go_region_held3 (fun W => Below w.heap.size w W ∧ W.heap[w.heap.size]? = some (Obj.cells #[.int .u64 (x1 : Nat), .int .u64 (y1 : Nat)] 25) ∧ W.heap[w.heap.size + 1]? = some (Obj.cells #[.int .u64 (x2 : Nat), .int .u64 (y2 : Nat)] 25) ∧ W.cell? ⟨w.heap.size, 0, none⟩ = some (.int .u64 (x1 : Nat)) ∧ W.cell? ⟨w.heap.size, 1, none⟩ = some (.int .u64 (y1 : Nat)) ∧ W.cell? ⟨w.heap.size + 1, 0, none⟩ = some (.int .u64 (x2 : Nat)) ∧ W.cell? ⟨w.heap.size + 1, 1, none⟩ = some (.int .u64 (y2 : Nat))) (first | exact s1 | exact s0 | exact sTA.out _ _ _ s0 | exact sTB.out _ _ _ (sTA.out _ _ _ s0))
    (fail)
  obtain ⟨D0, D1, D2, D3, BV9⟩ := two_boxes B3 Rl_3 Rh_3 (by first | omega | (skip; omega)) (show w.heap.size ≤ w.heap.size + 1 + 1 by first | exact Nat.le_refl _ | omega | (skip; omega)) (show w.heap.size ≤ w.heap.size + 1 + 1 + 1 by first | exact Nat.le_refl _ | omega | (skip; omega)) (.int .u64 (x2 : Nat)) (.int .u64 (y2 : Nat)) (.int .u64 (x2 : Nat)) (.int .u64 (y2 : Nat))
  obtain ⟨V9, hV9⟩ : ∃ V, ((((w3.setCell ⟨w.heap.size + 1 + 1, 0, none⟩ (.int .u64 (x2 : Nat))).setCell ⟨w.heap.size + 1 + 1, 1, none⟩ (.int .u64 (y2 : Nat))).setCell ⟨w.heap.size + 1 + 1 + 1, 0, none⟩ (.int .u64 (x2 : Nat))).setCell ⟨w.heap.size + 1 + 1 + 1, 1, none⟩ (.int .u64 (y2 : Nat))).drew = V := ⟨_, rfl⟩
  rw [hV9] at D0 D1 D2 D3 BV9 ⊢
  clear s0 sTA sTB rA rB rB2 hA0 hA1 hB0 hB1 dA0 dA1 dB0 dB1 hC0 hC1 dC0 dC1 hV9 il0 jl0 il1 jl1 ih0 jh0 ih1 jh1
  go_wp2
  exact bodyPost_ret (v := .tuple #[.agg #[.int .u64 (x2 : Nat), .int .u64 (y2 : Nat)], .agg #[.int .u64 (x2 : Nat), .int .u64 (y2 : Nat)]]) (by simp [results, Tryd.results36, go_sem, D0, D1, D2, D3]) rfl ⟨rfl, BV9⟩
set_option maxRecDepth 100000 in
set_option maxHeartbeats 8000000 in
theorem od_ord_n2 (f : Int) (x1 y1 x2 y2 : Nat) (w : World) (KN1 : Box (∀ w, FAt w → Calls Tryd.prog 47 #[.int .u8 f, .agg #[.int .u64 (x1 : Nat), .int .u64 (y1 : Nat)]] w fun r w' => r = .returned (.bool false) ∧ Below w.heap.size w w')) (KN2 : Box (∀ w, FAt w → Calls Tryd.prog 47 #[.int .u8 f, .agg #[.int .u64 (x2 : Nat), .int .u64 (y2 : Nat)]] w fun r w' => r = .returned (.bool true) ∧ Below w.heap.size w w')) (hT : FAt w) : Calls Tryd.prog 36 #[.int .u8 f, .agg #[.int .u64 (x1 : Nat), .int .u64 (y1 : Nat)], .agg #[.int .u64 (x2 : Nat), .int .u64 (y2 : Nat)]] w fun r w' => r = .returned (.tuple #[.agg #[.int .u64 (x1 : Nat), .int .u64 (y1 : Nat)], .agg #[.int .u64 (x1 : Nat), .int .u64 (y1 : Nat)]]) ∧ Below w.heap.size w w' := by
  have FF := box hT
  clear hT
  obtain ⟨Ra_0, Rb_0, Rl_0, Rh_0, B0⟩ := opn4 w (Obj.cells #[.int .u64 (x1 : Nat), .int .u64 (y1 : Nat)] 25) (Obj.cells #[.int .u64 (x2 : Nat), .int .u64 (y2 : Nat)] 25) (Obj.cells #[.int .u64 0, .int .u64 0] 25) (Obj.cells #[.int .u64 0, .int .u64 0] 25)
  go_enter Tryd.func36, Tryd.ntmps36
  obtain ⟨ca_0_0, ca_0_1⟩ := cells2s Ra_0
  obtain ⟨cb_0_0, cb_0_1⟩ := cells2s Rb_0
  go_wp2_with fail
  refine (KN1.out _ (fatB FF.out B0)).mono ?_
  rintro r w1 ⟨rfl, b1⟩
  have B1 : Below w.heap.size w w1 := btr B0 b1
  have Ra_1 := heap_of b1 _ _ _ Ra_0
  have Rb_1 := heap_of b1 _ _ _ Rb_0
  have Rl_1 := heap_of b1 _ _ _ Rl_0
  have Rh_1 := heap_of b1 _ _ _ Rh_0
  clear b1 B0 Ra_0 ca_0_0 ca_0_1 Rb_0 cb_0_0 cb_0_1 Rl_0 Rh_0
  obtain ⟨ca_1_0, ca_1_1⟩ := cells2s Ra_1
  obtain ⟨cb_1_0, cb_1_1⟩ := cells2s Rb_1
  go_wp2_with fail
  refine (KN1.out _ (fatB FF.out B1)).mono ?_
  rintro r w2 ⟨rfl, b2⟩
  have B2 : Below w.heap.size w w2 := btr B1 b2
  have Ra_2 := heap_of b2 _ _ _ Ra_1
  have Rb_2 := heap_of b2 _ _ _ Rb_1
  have Rl_2 := heap_of b2 _ _ _ Rl_1
  have Rh_2 := heap_of b2 _ _ _ Rh_1
  clear b2 B1 Ra_1 ca_1_0 ca_1_1 Rb_1 cb_1_0 cb_1_1 Rl_1 Rh_1
  obtain ⟨ca_2_0, ca_2_1⟩ := cells2s Ra_2
  obtain ⟨cb_2_0, cb_2_1⟩ := cells2s Rb_2
  go_wp2_with fail
  refine (KN2.out _ (fatB FF.out B2)).mono ?_
  rintro r w3 ⟨rfl, b3⟩
  have B3 : Below w.heap.size w w3 := btr B2 b3
  have Ra_3 := heap_of b3 _ _ _ Ra_2
  have Rb_3 := heap_of b3 _ _ _ Rb_2
  have Rl_3 := heap_of b3 _ _ _ Rl_2
  have Rh_3 := heap_of b3 _ _ _ Rh_2
  clear b3 B2 Ra_2 ca_2_0 ca_2_1 Rb_2 cb_2_0 cb_2_1 Rl_2 Rh_2
  obtain ⟨ca_3_0, ca_3_1⟩ := cells2s Ra_3
  obtain ⟨cb_3_0, cb_3_1⟩ := cells2s Rb_3
  have sS : Box (∀ W W1 : World, (Below w.heap.size w W ∧ W.heap[w.heap.size]? = some (Obj.cells #[.int .u64 (x1 : Nat), .int .u64 (y1 : Nat)] 25) ∧ W.heap[w.heap.size + 1]? = some (Obj.cells #[.int .u64 (x2 : Nat), .int .u64 (y2 : Nat)] 25) ∧ W.cell? ⟨w.heap.size, 0, none⟩ = some (.int .u64 (x1 : Nat)) ∧ W.cell? ⟨w.heap.size, 1, none⟩ = some (.int .u64 (y1 : Nat)) ∧ W.cell? ⟨w.heap.size + 1, 0, none⟩ = some (.int .u64 (x2 : Nat)) ∧ W.cell? ⟨w.heap.size + 1, 1, none⟩ = some (.int .u64 (y2 : Nat))) → Below W.heap.size W W1 → (Below w.heap.size w W1 ∧ W1.heap[w.heap.size]? = some (Obj.cells #[.int .u64 (x1 : Nat), .int .u64 (y1 : Nat)] 25) ∧ W1.heap[w.heap.size + 1]? = some (Obj.cells #[.int .u64 (x2 : Nat), .int .u64 (y2 : Nat)] 25) ∧ W1.cell? ⟨w.heap.size, 0, none⟩ = some (.int .u64 (x1 : Nat)) ∧ W1.cell? ⟨w.heap.size, 1, none⟩ = some (.int .u64 (y1 : Nat)) ∧ W1.cell? ⟨w.heap.size + 1, 0, none⟩ = some (.int .u64 (x2 : Nat)) ∧ W1.cell? ⟨w.heap.size + 1, 1, none⟩ = some (.int .u64 (y2 : Nat)))) := box (fun W W1 h b => ⟨btr h.1 b, heap_of b _ _ _ h.2.1, heap_of b _ _ _ h.2.2.1, cell7 (heap_of b _ _ _ h.2.1) 0 _ rfl, cell7 (heap_of b _ _ _ h.2.1) 1 _ rfl, cell7 (heap_of b _ _ _ h.2.2.1) 0 _ rfl, cell7 (heap_of b _ _ _ h.2.2.1) 1 _ rfl⟩)
  have sTA : Box (∀ (W : World) (xA xB : Value), (Below w.heap.size w W ∧ W.heap[w.heap.size]? = some (Obj.cells #[.int .u64 (x1 : Nat), .int .u64 (y1 : Nat)] 25) ∧ W.heap[w.heap.size + 1]? = some (Obj.cells #[.int .u64 (x2 : Nat), .int .u64 (y2 : Nat)] 25) ∧ W.cell? ⟨w.heap.size, 0, none⟩ = some (.int .u64 (x1 : Nat)) ∧ W.cell? ⟨w.heap.size, 1, none⟩ = some (.int .u64 (y1 : Nat)) ∧ W.cell? ⟨w.heap.size + 1, 0, none⟩ = some (.int .u64 (x2 : Nat)) ∧ W.cell? ⟨w.heap.size + 1, 1, none⟩ = some (.int .u64 (y2 : Nat))) → (Below w.heap.size w ((W.setCell ⟨w.heap.size + 1 + 1, 0, none⟩ xA).setCell ⟨w.heap.size + 1 + 1, 1, none⟩ xB) ∧ ((W.setCell ⟨w.heap.size + 1 + 1, 0, none⟩ xA).setCell ⟨w.heap.size + 1 + 1, 1, none⟩ xB).heap[w.heap.size]? = some (Obj.cells #[.int .u64 (x1 : Nat), .int .u64 (y1 : Nat)] 25) ∧ ((W.setCell ⟨w.heap.size + 1 + 1, 0, none⟩ xA).setCell ⟨w.heap.size + 1 + 1, 1, none⟩ xB).heap[w.heap.size + 1]? = some (Obj.cells #[.int .u64 (x2 : Nat), .int .u64 (y2 : Nat)] 25) ∧ ((W.setCell ⟨w.heap.size + 1 + 1, 0, none⟩ xA).setCell ⟨w.heap.size + 1 + 1, 1, none⟩ xB).cell? ⟨w.heap.size, 0, none⟩ = some (.int .u64 (x1 : Nat)) ∧ ((W.setCell ⟨w.heap.size + 1 + 1, 0, none⟩ xA).setCell ⟨w.heap.size + 1 + 1, 1, none⟩ xB).cell? ⟨w.heap.size, 1, none⟩ = some (.int .u64 (y1 : Nat)) ∧ ((W.setCell ⟨w.heap.size + 1 + 1, 0, none⟩ xA).setCell ⟨w.heap.size + 1 + 1, 1, none⟩ xB).cell? ⟨w.heap.size + 1, 0, none⟩ = some (.int .u64 (x2 : Nat)) ∧ ((W.setCell ⟨w.heap.size + 1 + 1, 0, none⟩ xA).setCell ⟨w.heap.size + 1 + 1, 1, none⟩ xB).cell? ⟨w.heap.size + 1, 1, none⟩ = some (.int .u64 (y2 : Nat)))) := box (fun W xA xB h => ⟨set2_below h.1 (show w.heap.size ≤ w.heap.size + 1 + 1 by first | exact Nat.le_refl _ | omega | (skip; omega)) xA xB, (setCell_other (by first | omega | (skip; omega))).trans ((setCell_other (by first | omega | (skip; omega))).trans h.2.1), (setCell_other (by first | omega | (skip; omega))).trans ((setCell_other (by first | omega | (skip; omega))).trans h.2.2.1), cell7 ((setCell_other (by first | omega | (skip; omega))).trans ((setCell_other (by first | omega | (skip; omega))).trans h.2.1)) 0 _ rfl, cell7 ((setCell_other (by first | omega | (skip; omega))).trans ((setCell_other (by first | omega | (skip; omega))).trans h.2.1)) 1 _ rfl, cell7 ((setCell_other (by first | omega | (skip; omega))).trans ((setCell_other (by first | omega | (skip; omega))).trans h.2.2.1)) 0 _ rfl, cell7 ((setCell_other (by first | omega | (skip; omega))).trans ((setCell_other (by first | omega | (skip; omega))).trans h.2.2.1)) 1 _ rfl⟩)
  have sTB : Box (∀ (W : World) (xA xB : Value), (Below w.heap.size w W ∧ W.heap[w.heap.size]? = some (Obj.cells #[.int .u64 (x1 : Nat), .int .u64 (y1 : Nat)] 25) ∧ W.heap[w.heap.size + 1]? = some (Obj.cells #[.int .u64 (x2 : Nat), .int .u64 (y2 : Nat)] 25) ∧ W.cell? ⟨w.heap.size, 0, none⟩ = some (.int .u64 (x1 : Nat)) ∧ W.cell? ⟨w.heap.size, 1, none⟩ = some (.int .u64 (y1 : Nat)) ∧ W.cell? ⟨w.heap.size + 1, 0, none⟩ = some (.int .u64 (x2 : Nat)) ∧ W.cell? ⟨w.heap.size + 1, 1, none⟩ = some (.int .u64 (y2 : Nat))) → (Below w.heap.size w ((W.setCell ⟨w.heap.size + 1 + 1 + 1, 0, none⟩ xA).setCell ⟨w.heap.size + 1 + 1 + 1, 1, none⟩ xB) ∧ ((W.setCell ⟨w.heap.size + 1 + 1 + 1, 0, none⟩ xA).setCell ⟨w.heap.size + 1 + 1 + 1, 1, none⟩ xB).heap[w.heap.size]? = some (Obj.cells #[.int .u64 (x1 : Nat), .int .u64 (y1 : Nat)] 25) ∧ ((W.setCell ⟨w.heap.size + 1 + 1 + 1, 0, none⟩ xA).setCell ⟨w.heap.size + 1 + 1 + 1, 1, none⟩ xB).heap[w.heap.size + 1]? = some (Obj.cells #[.int .u64 (x2 : Nat), .int .u64 (y2 : Nat)] 25) ∧ ((W.setCell ⟨w.heap.size + 1 + 1 + 1, 0, none⟩ xA).setCell ⟨w.heap.size + 1 + 1 + 1, 1, none⟩ xB).cell? ⟨w.heap.size, 0, none⟩ = some (.int .u64 (x1 : Nat)) ∧ ((W.setCell ⟨w.heap.size + 1 + 1 + 1, 0, none⟩ xA).setCell ⟨w.heap.size + 1 + 1 + 1, 1, none⟩ xB).cell? ⟨w.heap.size, 1, none⟩ = some (.int .u64 (y1 : Nat)) ∧ ((W.setCell ⟨w.heap.size + 1 + 1 + 1, 0, none⟩ xA).setCell ⟨w.heap.size + 1 + 1 + 1, 1, none⟩ xB).cell? ⟨w.heap.size + 1, 0, none⟩ = some (.int .u64 (x2 : Nat)) ∧ ((W.setCell ⟨w.heap.size + 1 + 1 + 1, 0, none⟩ xA).setCell ⟨w.heap.size + 1 + 1 + 1, 1, none⟩ xB).cell? ⟨w.heap.size + 1, 1, none⟩ = some (.int .u64 (y2 : Nat)))) := box (fun W xA xB h => ⟨set2_below h.1 (show w.heap.size ≤ w.heap.size + 1 + 1 + 1 by first | exact Nat.le_refl _ | omega | (skip; omega)) xA xB, (setCell_other (by first | omega | (skip; omega))).trans ((setCell_other (by first | omega | (skip; omega))).trans h.2.1), (setCell_other (by first | omega | (skip; omega))).trans ((setCell_other (by first | omega | (skip; omega))).trans h.2.2.1), cell7 ((setCell_other (by first | omega | (skip; omega))).trans ((setCell_other (by first | omega | (skip; omega))).trans h.2.1)) 0 _ rfl, cell7 ((setCell_other (by first | omega | (skip; omega))).trans ((setCell_other (by first | omega | (skip; omega))).trans h.2.1)) 1 _ rfl, cell7 ((setCell_other (by first | omega | (skip; omega))).trans ((setCell_other (by first | omega | (skip; omega))).trans h.2.2.1)) 0 _ rfl, cell7 ((setCell_other (by first | omega | (skip; omega))).trans ((setCell_other (by first | omega | (skip; omega))).trans h.2.2.1)) 1 _ rfl⟩)
  have s0 : Below w.heap.size w (w3).drew ∧ (w3).drew.heap[w.heap.size]? = some (Obj.cells #[.int .u64 (x1 : Nat), .int .u64 (y1 : Nat)] 25) ∧ (w3).drew.heap[w.heap.size + 1]? = some (Obj.cells #[.int .u64 (x2 : Nat), .int .u64 (y2 : Nat)] 25) ∧ (w3).drew.cell? ⟨w.heap.size, 0, none⟩ = some (.int .u64 (x1 : Nat)) ∧ (w3).drew.cell? ⟨w.heap.size, 1, none⟩ = some (.int .u64 (y1 : Nat)) ∧ (w3).drew.cell? ⟨w.heap.size + 1, 0, none⟩ = some (.int .u64 (x2 : Nat)) ∧ (w3).drew.cell? ⟨w.heap.size + 1, 1, none⟩ = some (.int .u64 (y2 : Nat)) := ⟨B3.drew, Ra_3, Rb_3, cell7 (Ra_3) 0 _ rfl, cell7 (Ra_3) 1 _ rfl, cell7 (Rb_3) 0 _ rfl, cell7 (Rb_3) 1 _ rfl⟩
  have rA : (w3).drew.heap[w.heap.size + 1 + 1]? = some (Obj.cells #[.int .u64 0, .int .u64 0] 25) := Rl_3
  have rB : (w3).drew.heap[w.heap.size + 1 + 1 + 1]? = some (Obj.cells #[.int .u64 0, .int .u64 0] 25) := Rh_3
  go_wp2_with fail
  have hA0 := fz (k := 0) rA
  have hA1 := fz (k := 1) rA
  have dA0 := cell7 rA 0 _ rfl
  have dA1 := cell7 rA 1 _ rfl
  have hB0 := fz (k := 0) rB
  have hB1 := fz (k := 1) rB
  have dB0 := cell7 rB 0 _ rfl
  have dB1 := cell7 rB 1 _ rfl
  have rB2 : (((w3).drew.setCell ⟨w.heap.size + 1 + 1, 0, none⟩ (.int .u64 (x1 : Nat))).setCell ⟨w.heap.size + 1 + 1, 1, none⟩ (.int .u64 (y1 : Nat))).heap[w.heap.size + 1 + 1 + 1]? = _ := (setCell_other (by first | omega | (skip; omega))).trans ((setCell_other (by first | omega | (skip; omega))).trans rB)
  have hC0 := fz (k := 0) rB2
  have hC1 := fz (k := 1) rB2
  have dC0 := cell7 rB2 0 _ rfl
  have dC1 := cell7 rB2 1 _ rfl
  have il0 := fz (k := 0) Rl_3
  have jl0 := cell7 Rl_3 0 _ rfl
  have il1 := fz (k := 1) Rl_3
  have jl1 := cell7 Rl_3 1 _ rfl
  have ih0 := fz (k := 0) Rh_3
  have jh0 := cell7 Rh_3 0 _ rfl
  have ih1 := fz (k := 1) Rh_3
  have jh1 := cell7 Rh_3 1 _ rfl
  go_region_held3 (fun W => Below w.heap.size w W ∧ W.heap[w.heap.size]? = some (Obj.cells #[.int .u64 (x1 : Nat), .int .u64 (y1 : Nat)] 25) ∧ W.heap[w.heap.size + 1]? = some (Obj.cells #[.int .u64 (x2 : Nat), .int .u64 (y2 : Nat)] 25) ∧ W.cell? ⟨w.heap.size, 0, none⟩ = some (.int .u64 (x1 : Nat)) ∧ W.cell? ⟨w.heap.size, 1, none⟩ = some (.int .u64 (y1 : Nat)) ∧ W.cell? ⟨w.heap.size + 1, 0, none⟩ = some (.int .u64 (x2 : Nat)) ∧ W.cell? ⟨w.heap.size + 1, 1, none⟩ = some (.int .u64 (y2 : Nat))) (first | exact s1 | exact s0 | exact sTA.out _ _ _ s0 | exact sTB.out _ _ _ (sTA.out _ _ _ s0))
    (fail)
  obtain ⟨D0, D1, D2, D3, BV9⟩ := two_boxes B3 Rl_3 Rh_3 (by first | omega | (skip; omega)) (show w.heap.size ≤ w.heap.size + 1 + 1 by first | exact Nat.le_refl _ | omega | (skip; omega)) (show w.heap.size ≤ w.heap.size + 1 + 1 + 1 by first | exact Nat.le_refl _ | omega | (skip; omega)) (.int .u64 (x1 : Nat)) (.int .u64 (y1 : Nat)) (.int .u64 (x1 : Nat)) (.int .u64 (y1 : Nat))
  obtain ⟨V9, hV9⟩ : ∃ V, ((((w3.setCell ⟨w.heap.size + 1 + 1, 0, none⟩ (.int .u64 (x1 : Nat))).setCell ⟨w.heap.size + 1 + 1, 1, none⟩ (.int .u64 (y1 : Nat))).setCell ⟨w.heap.size + 1 + 1 + 1, 0, none⟩ (.int .u64 (x1 : Nat))).setCell ⟨w.heap.size + 1 + 1 + 1, 1, none⟩ (.int .u64 (y1 : Nat))).drew = V := ⟨_, rfl⟩
  rw [hV9] at D0 D1 D2 D3 BV9 ⊢
  clear s0 sTA sTB rA rB rB2 hA0 hA1 hB0 hB1 dA0 dA1 dB0 dB1 hC0 hC1 dC0 dC1 hV9 il0 jl0 il1 jl1 ih0 jh0 ih1 jh1
  go_wp2
  exact bodyPost_ret (v := .tuple #[.agg #[.int .u64 (x1 : Nat), .int .u64 (y1 : Nat)], .agg #[.int .u64 (x1 : Nat), .int .u64 (y1 : Nat)]]) (by simp [results, Tryd.results36, go_sem, D0, D1, D2, D3]) rfl ⟨rfl, BV9⟩
set_option maxRecDepth 100000 in
set_option maxHeartbeats 8000000 in
theorem od_ord_gt (f : Int) (x1 y1 x2 y2 : Nat) (t : Int) (w : World) (KN1 : Box (∀ w, FAt w → Calls Tryd.prog 47 #[.int .u8 f, .agg #[.int .u64 (x1 : Nat), .int .u64 (y1 : Nat)]] w fun r w' => r = .returned (.bool false) ∧ Below w.heap.size w w')) (KN2 : Box (∀ w, FAt w → Calls Tryd.prog 47 #[.int .u8 f, .agg #[.int .u64 (x2 : Nat), .int .u64 (y2 : Nat)]] w fun r w' => r = .returned (.bool false) ∧ Below w.heap.size w w')) (KT : Box (∀ w, FAt w → Calls Tryd.prog 40 #[.int .u8 f, .agg #[.int .u64 (x1 : Nat), .int .u64 (y1 : Nat)], .agg #[.int .u64 (x2 : Nat), .int .u64 (y2 : Nat)]] w fun r w' => r = .returned (.int .i64 t) ∧ Below w.heap.size w w')) (ht : decide (0 < t) = true) (hT : FAt w) : Calls Tryd.prog 36 #[.int .u8 f, .agg #[.int .u64 (x1 : Nat), .int .u64 (y1 : Nat)], .agg #[.int .u64 (x2 : Nat), .int .u64 (y2 : Nat)]] w fun r w' => r = .returned (.tuple #[.agg #[.int .u64 (x2 : Nat), .int .u64 (y2 : Nat)], .agg #[.int .u64 (x1 : Nat), .int .u64 (y1 : Nat)]]) ∧ Below w.heap.size w w' := by
  have FF := box hT
  clear hT
  obtain ⟨Ra_0, Rb_0, Rl_0, Rh_0, B0⟩ := opn4 w (Obj.cells #[.int .u64 (x1 : Nat), .int .u64 (y1 : Nat)] 25) (Obj.cells #[.int .u64 (x2 : Nat), .int .u64 (y2 : Nat)] 25) (Obj.cells #[.int .u64 0, .int .u64 0] 25) (Obj.cells #[.int .u64 0, .int .u64 0] 25)
  go_enter Tryd.func36, Tryd.ntmps36
  obtain ⟨ca_0_0, ca_0_1⟩ := cells2s Ra_0
  obtain ⟨cb_0_0, cb_0_1⟩ := cells2s Rb_0
  go_wp2_with fail
  refine (KN1.out _ (fatB FF.out B0)).mono ?_
  rintro r w1 ⟨rfl, b1⟩
  have B1 : Below w.heap.size w w1 := btr B0 b1
  have Ra_1 := heap_of b1 _ _ _ Ra_0
  have Rb_1 := heap_of b1 _ _ _ Rb_0
  have Rl_1 := heap_of b1 _ _ _ Rl_0
  have Rh_1 := heap_of b1 _ _ _ Rh_0
  clear b1 B0 Ra_0 ca_0_0 ca_0_1 Rb_0 cb_0_0 cb_0_1 Rl_0 Rh_0
  obtain ⟨ca_1_0, ca_1_1⟩ := cells2s Ra_1
  obtain ⟨cb_1_0, cb_1_1⟩ := cells2s Rb_1
  go_wp2_with fail
  refine (KN1.out _ (fatB FF.out B1)).mono ?_
  rintro r w2 ⟨rfl, b2⟩
  have B2 : Below w.heap.size w w2 := btr B1 b2
  have Ra_2 := heap_of b2 _ _ _ Ra_1
  have Rb_2 := heap_of b2 _ _ _ Rb_1
  have Rl_2 := heap_of b2 _ _ _ Rl_1
  have Rh_2 := heap_of b2 _ _ _ Rh_1
  clear b2 B1 Ra_1 ca_1_0 ca_1_1 Rb_1 cb_1_0 cb_1_1 Rl_1 Rh_1
  obtain ⟨ca_2_0, ca_2_1⟩ := cells2s Ra_2
  obtain ⟨cb_2_0, cb_2_1⟩ := cells2s Rb_2
  go_wp2_with fail
  refine (KN2.out _ (fatB FF.out B2)).mono ?_
  rintro r w3 ⟨rfl, b3⟩
  have B3 : Below w.heap.size w w3 := btr B2 b3
  have Ra_3 := heap_of b3 _ _ _ Ra_2
  have Rb_3 := heap_of b3 _ _ _ Rb_2
  have Rl_3 := heap_of b3 _ _ _ Rl_2
  have Rh_3 := heap_of b3 _ _ _ Rh_2
  clear b3 B2 Ra_2 ca_2_0 ca_2_1 Rb_2 cb_2_0 cb_2_1 Rl_2 Rh_2
  obtain ⟨ca_3_0, ca_3_1⟩ := cells2s Ra_3
  obtain ⟨cb_3_0, cb_3_1⟩ := cells2s Rb_3
  go_wp2_with fail
  refine (KT.out _ (fatB FF.out B3)).mono ?_
  rintro r w4 ⟨rfl, b4⟩
  have B4 : Below w.heap.size w w4 := btr B3 b4
  have Ra_4 := heap_of b4 _ _ _ Ra_3
  have Rb_4 := heap_of b4 _ _ _ Rb_3
  have Rl_4 := heap_of b4 _ _ _ Rl_3
  have Rh_4 := heap_of b4 _ _ _ Rh_3
  clear b4 B3 Ra_3 ca_3_0 ca_3_1 Rb_3 cb_3_0 cb_3_1 Rl_3 Rh_3
  obtain ⟨ca_4_0, ca_4_1⟩ := cells2s Ra_4
  obtain ⟨cb_4_0, cb_4_1⟩ := cells2s Rb_4
  have sS : Box (∀ W W1 : World, (Below w.heap.size w W ∧ W.heap[w.heap.size]? = some (Obj.cells #[.int .u64 (x1 : Nat), .int .u64 (y1 : Nat)] 25) ∧ W.heap[w.heap.size + 1]? = some (Obj.cells #[.int .u64 (x2 : Nat), .int .u64 (y2 : Nat)] 25) ∧ W.cell? ⟨w.heap.size, 0, none⟩ = some (.int .u64 (x1 : Nat)) ∧ W.cell? ⟨w.heap.size, 1, none⟩ = some (.int .u64 (y1 : Nat)) ∧ W.cell? ⟨w.heap.size + 1, 0, none⟩ = some (.int .u64 (x2 : Nat)) ∧ W.cell? ⟨w.heap.size + 1, 1, none⟩ = some (.int .u64 (y2 : Nat))) → Below W.heap.size W W1 → (Below w.heap.size w W1 ∧ W1.heap[w.heap.size]? = some (Obj.cells #[.int .u64 (x1 : Nat), .int .u64 (y1 : Nat)] 25) ∧ W1.heap[w.heap.size + 1]? = some (Obj.cells #[.int .u64 (x2 : Nat), .int .u64 (y2 : Nat)] 25) ∧ W1.cell? ⟨w.heap.size, 0, none⟩ = some (.int .u64 (x1 : Nat)) ∧ W1.cell? ⟨w.heap.size, 1, none⟩ = some (.int .u64 (y1 : Nat)) ∧ W1.cell? ⟨w.heap.size + 1, 0, none⟩ = some (.int .u64 (x2 : Nat)) ∧ W1.cell? ⟨w.heap.size + 1, 1, none⟩ = some (.int .u64 (y2 : Nat)))) := box (fun W W1 h b => ⟨btr h.1 b, heap_of b _ _ _ h.2.1, heap_of b _ _ _ h.2.2.1, cell7 (heap_of b _ _ _ h.2.1) 0 _ rfl, cell7 (heap_of b _ _ _ h.2.1) 1 _ rfl, cell7 (heap_of b _ _ _ h.2.2.1) 0 _ rfl, cell7 (heap_of b _ _ _ h.2.2.1) 1 _ rfl⟩)
  have sTA : Box (∀ (W : World) (xA xB : Value), (Below w.heap.size w W ∧ W.heap[w.heap.size]? = some (Obj.cells #[.int .u64 (x1 : Nat), .int .u64 (y1 : Nat)] 25) ∧ W.heap[w.heap.size + 1]? = some (Obj.cells #[.int .u64 (x2 : Nat), .int .u64 (y2 : Nat)] 25) ∧ W.cell? ⟨w.heap.size, 0, none⟩ = some (.int .u64 (x1 : Nat)) ∧ W.cell? ⟨w.heap.size, 1, none⟩ = some (.int .u64 (y1 : Nat)) ∧ W.cell? ⟨w.heap.size + 1, 0, none⟩ = some (.int .u64 (x2 : Nat)) ∧ W.cell? ⟨w.heap.size + 1, 1, none⟩ = some (.int .u64 (y2 : Nat))) → (Below w.heap.size w ((W.setCell ⟨w.heap.size + 1 + 1, 0, none⟩ xA).setCell ⟨w.heap.size + 1 + 1, 1, none⟩ xB) ∧ ((W.setCell ⟨w.heap.size + 1 + 1, 0, none⟩ xA).setCell ⟨w.heap.size + 1 + 1, 1, none⟩ xB).heap[w.heap.size]? = some (Obj.cells #[.int .u64 (x1 : Nat), .int .u64 (y1 : Nat)] 25) ∧ ((W.setCell ⟨w.heap.size + 1 + 1, 0, none⟩ xA).setCell ⟨w.heap.size + 1 + 1, 1, none⟩ xB).heap[w.heap.size + 1]? = some (Obj.cells #[.int .u64 (x2 : Nat), .int .u64 (y2 : Nat)] 25) ∧ ((W.setCell ⟨w.heap.size + 1 + 1, 0, none⟩ xA).setCell ⟨w.heap.size + 1 + 1, 1, none⟩ xB).cell? ⟨w.heap.size, 0, none⟩ = some (.int .u64 (x1 : Nat)) ∧ ((W.setCell ⟨w.heap.size + 1 + 1, 0, none⟩ xA).setCell ⟨w.heap.size + 1 + 1, 1, none⟩ xB).cell? ⟨w.heap.size, 1, none⟩ = some (.int .u64 (y1 : Nat)) ∧ ((W.setCell ⟨w.heap.size + 1 + 1, 0, none⟩ xA).setCell ⟨w.heap.size + 1 + 1, 1, none⟩ xB).cell? ⟨w.heap.size + 1, 0, none⟩ = some (.int .u64 (x2 : Nat)) ∧ ((W.setCell ⟨w.heap.size + 1 + 1, 0, none⟩ xA).setCell ⟨w.heap.size + 1 + 1, 1, none⟩ xB).cell? ⟨w.heap.size + 1, 1, none⟩ = some (.int .u64 (y2 : Nat)))) := box (fun W xA xB h => ⟨set2_below h.1 (show w.heap.size ≤ w.heap.size + 1 + 1 by first | exact Nat.le_refl _ | omega | (skip; omega)) xA xB, (setCell_other (by first | omega | (skip; omega))).trans ((setCell_other (by first | omega | (skip; omega))).trans h.2.1), (setCell_other (by first | omega | (skip; omega))).trans ((setCell_other (by first | omega | (skip; omega))).trans h.2.2.1), cell7 ((setCell_other (by first | omega | (skip; omega))).trans ((setCell_other (by first | omega | (skip; omega))).trans h.2.1)) 0 _ rfl, cell7 ((setCell_other (by first | omega | (skip; omega))).trans ((setCell_other (by first | omega | (skip; omega))).trans h.2.1)) 1 _ rfl, cell7 ((setCell_other (by first | omega | (skip; omega))).trans ((setCell_other (by first | omega | (skip; omega))).trans h.2.2.1)) 0 _ rfl, cell7 ((setCell_other (by first | omega | (skip; omega))).trans ((setCell_other (by first | omega | (skip; omega))).trans h.2.2.1)) 1 _ rfl⟩)
  have sTB : Box (∀ (W : World) (xA xB : Value), (Below w.heap.size w W ∧ W.heap[w.heap.size]? = some (Obj.cells #[.int .u64 (x1 : Nat), .int .u64 (y1 : Nat)] 25) ∧ W.heap[w.heap.size + 1]? = some (Obj.cells #[.int .u64 (x2 : Nat), .int .u64 (y2 : Nat)] 25) ∧ W.cell? ⟨w.heap.size, 0, none⟩ = some (.int .u64 (x1 : Nat)) ∧ W.cell? ⟨w.heap.size, 1, none⟩ = some (.int .u64 (y1 : Nat)) ∧ W.cell? ⟨w.heap.size + 1, 0, none⟩ = some (.int .u64 (x2 : Nat)) ∧ W.cell? ⟨w.heap.size + 1, 1, none⟩ = some (.int .u64 (y2 : Nat))) → (Below w.heap.size w ((W.setCell ⟨w.heap.size + 1 + 1 + 1, 0, none⟩ xA).setCell ⟨w.heap.size + 1 + 1 + 1, 1, none⟩ xB) ∧ ((W.setCell ⟨w.heap.size + 1 + 1 + 1, 0, none⟩ xA).setCell ⟨w.heap.size + 1 + 1 + 1, 1, none⟩ xB).heap[w.heap.size]? = some (Obj.cells #[.int .u64 (x1 : Nat), .int .u64 (y1 : Nat)] 25) ∧ ((W.setCell ⟨w.heap.size + 1 + 1 + 1, 0, none⟩ xA).setCell ⟨w.heap.size + 1 + 1 + 1, 1, none⟩ xB).heap[w.heap.size + 1]? = some (Obj.cells #[.int .u64 (x2 : Nat), .int .u64 (y2 : Nat)] 25) ∧ ((W.setCell ⟨w.heap.size + 1 + 1 + 1, 0, none⟩ xA).setCell ⟨w.heap.size + 1 + 1 + 1, 1, none⟩ xB).cell? ⟨w.heap.size, 0, none⟩ = some (.int .u64 (x1 : Nat)) ∧ ((W.setCell ⟨w.heap.size + 1 + 1 + 1, 0, none⟩ xA).setCell ⟨w.heap.size + 1 + 1 + 1, 1, none⟩ xB).cell? ⟨w.heap.size, 1, none⟩ = some (.int .u64 (y1 : Nat)) ∧ ((W.setCell ⟨w.heap.size + 1 + 1 + 1, 0, none⟩ xA).setCell ⟨w.heap.size + 1 + 1 + 1, 1, none⟩ xB).cell? ⟨w.heap.size + 1, 0, none⟩ = some (.int .u64 (x2 : Nat)) ∧ ((W.setCell ⟨w.heap.size + 1 + 1 + 1, 0, none⟩ xA).setCell ⟨w.heap.size + 1 + 1 + 1, 1, none⟩ xB).cell? ⟨w.heap.size + 1, 1, none⟩ = some (.int .u64 (y2 : Nat)))) := box (fun W xA xB h => ⟨set2_below h.1 (show w.heap.size ≤ w.heap.size + 1 + 1 + 1 by first | exact Nat.le_refl _ | omega | (skip; omega)) xA xB, (setCell_other (by first | omega | (skip; omega))).trans ((setCell_other (by first | omega | (skip; omega))).trans h.2.1), (setCell_other (by first | omega | (skip; omega))).trans ((setCell_other (by first | omega | (skip; omega))).trans h.2.2.1), cell7 ((setCell_other (by first | omega | (skip; omega))).trans ((setCell_other (by first | omega | (skip; omega))).trans h.2.1)) 0 _ rfl, cell7 ((setCell_other (by first | omega | (skip; omega))).trans ((setCell_other (by first | omega | (skip; omega))).trans h.2.1)) 1 _ rfl, cell7 ((setCell_other (by first | omega | (skip; omega))).trans ((setCell_other (by first | omega | (skip; omega))).trans h.2.2.1)) 0 _ rfl, cell7 ((setCell_other (by first | omega | (skip; omega))).trans ((setCell_other (by first | omega | (skip; omega))).trans h.2.2.1)) 1 _ rfl⟩)
  have s0 : Below w.heap.size w (w4).drew ∧ (w4).drew.heap[w.heap.size]? = some (Obj.cells #[.int .u64 (x1 : Nat), .int .u64 (y1 : Nat)] 25) ∧ (w4).drew.heap[w.heap.size + 1]? = some (Obj.cells #[.int .u64 (x2 : Nat), .int .u64 (y2 : Nat)] 25) ∧ (w4).drew.cell? ⟨w.heap.size, 0, none⟩ = some (.int .u64 (x1 : Nat)) ∧ (w4).drew.cell? ⟨w.heap.size, 1, none⟩ = some (.int .u64 (y1 : Nat)) ∧ (w4).drew.cell? ⟨w.heap.size + 1, 0, none⟩ = some (.int .u64 (x2 : Nat)) ∧ (w4).drew.cell? ⟨w.heap.size + 1, 1, none⟩ = some (.int .u64 (y2 : Nat)) := ⟨B4.drew, Ra_4, Rb_4, cell7 (Ra_4) 0 _ rfl, cell7 (Ra_4) 1 _ rfl, cell7 (Rb_4) 0 _ rfl, cell7 (Rb_4) 1 _ rfl⟩
  have rA : (w4).drew.heap[w.heap.size + 1 + 1]? = some (Obj.cells #[.int .u64 0, .int .u64 0] 25) := Rl_4
  have rB : (w4).drew.heap[w.heap.size + 1 + 1 + 1]? = some (Obj.cells #[.int .u64 0, .int .u64 0] 25) := Rh_4
  go_wp2_with fail
  have hA0 := fz (k := 0) rA
  have hA1 := fz (k := 1) rA
  have dA0 := cell7 rA 0 _ rfl
  have dA1 := cell7 rA 1 _ rfl
  have hB0 := fz (k := 0) rB
  have hB1 := fz (k := 1) rB
  have dB0 := cell7 rB 0 _ rfl
  have dB1 := cell7 rB 1 _ rfl
  have rB2 : (((w4).drew.setCell ⟨w.heap.size + 1 + 1, 0, none⟩ (.int .u64 (x2 : Nat))).setCell ⟨w.heap.size + 1 + 1, 1, none⟩ (.int .u64 (y2 : Nat))).heap[w.heap.size + 1 + 1 + 1]? = _ := (setCell_other (by first | omega | (skip; omega))).trans ((setCell_other (by first | omega | (skip; omega))).trans rB)
  have hC0 := fz (k := 0) rB2
  have hC1 := fz (k := 1) rB2
  have dC0 := cell7 rB2 0 _ rfl
  have dC1 := cell7 rB2 1 _ rfl
  have il0 := fz (k := 0) Rl_4
  have jl0 := cell7 Rl_4 0 _ rfl
  have il1 := fz (k := 1) Rl_4
  have jl1 := cell7 Rl_4 1 _ rfl
  have ih0 := fz (k := 0) Rh_4
  have jh0 := cell7 Rh_4 0 _ rfl
  have ih1 := fz (k := 1) Rh_4
  have jh1 := cell7 Rh_4 1 _ rfl
  go_region_held3 (fun W => Below w.heap.size w W ∧ W.heap[w.heap.size]? = some (Obj.cells #[.int .u64 (x1 : Nat), .int .u64 (y1 : Nat)] 25) ∧ W.heap[w.heap.size + 1]? = some (Obj.cells #[.int .u64 (x2 : Nat), .int .u64 (y2 : Nat)] 25) ∧ W.cell? ⟨w.heap.size, 0, none⟩ = some (.int .u64 (x1 : Nat)) ∧ W.cell? ⟨w.heap.size, 1, none⟩ = some (.int .u64 (y1 : Nat)) ∧ W.cell? ⟨w.heap.size + 1, 0, none⟩ = some (.int .u64 (x2 : Nat)) ∧ W.cell? ⟨w.heap.size + 1, 1, none⟩ = some (.int .u64 (y2 : Nat))) (first | exact s1 | exact s0 | exact sTA.out _ _ _ s0 | exact sTB.out _ _ _ (sTA.out _ _ _ s0))
    (fail)
  obtain ⟨D0, D1, D2, D3, BV9⟩ := two_boxes B4 Rl_4 Rh_4 (by first | omega | (skip; omega)) (show w.heap.size ≤ w.heap.size + 1 + 1 by first | exact Nat.le_refl _ | omega | (skip; omega)) (show w.heap.size ≤ w.heap.size + 1 + 1 + 1 by first | exact Nat.le_refl _ | omega | (skip; omega)) (.int .u64 (x2 : Nat)) (.int .u64 (y2 : Nat)) (.int .u64 (x1 : Nat)) (.int .u64 (y1 : Nat))
  obtain ⟨V9, hV9⟩ : ∃ V, ((((w4.setCell ⟨w.heap.size + 1 + 1, 0, none⟩ (.int .u64 (x2 : Nat))).setCell ⟨w.heap.size + 1 + 1, 1, none⟩ (.int .u64 (y2 : Nat))).setCell ⟨w.heap.size + 1 + 1 + 1, 0, none⟩ (.int .u64 (x1 : Nat))).setCell ⟨w.heap.size + 1 + 1 + 1, 1, none⟩ (.int .u64 (y1 : Nat))).drew = V := ⟨_, rfl⟩
  rw [hV9] at D0 D1 D2 D3 BV9 ⊢
  clear s0 sTA sTB rA rB rB2 hA0 hA1 hB0 hB1 dA0 dA1 dB0 dB1 hC0 hC1 dC0 dC1 hV9 il0 jl0 il1 jl1 ih0 jh0 ih1 jh1
  go_wp2
  exact bodyPost_ret (v := .tuple #[.agg #[.int .u64 (x2 : Nat), .int .u64 (y2 : Nat)], .agg #[.int .u64 (x1 : Nat), .int .u64 (y1 : Nat)]]) (by simp [results, Tryd.results36, go_sem, D0, D1, D2, D3]) rfl ⟨rfl, BV9⟩
set_option maxRecDepth 100000 in
set_option maxHeartbeats 8000000 in
theorem od_ord_le (f : Int) (x1 y1 x2 y2 : Nat) (t : Int) (w : World) (KN1 : Box (∀ w, FAt w → Calls Tryd.prog 47 #[.int .u8 f, .agg #[.int .u64 (x1 : Nat), .int .u64 (y1 : Nat)]] w fun r w' => r = .returned (.bool false) ∧ Below w.heap.size w w')) (KN2 : Box (∀ w, FAt w → Calls Tryd.prog 47 #[.int .u8 f, .agg #[.int .u64 (x2 : Nat), .int .u64 (y2 : Nat)]] w fun r w' => r = .returned (.bool false) ∧ Below w.heap.size w w')) (KT : Box (∀ w, FAt w → Calls Tryd.prog 40 #[.int .u8 f, .agg #[.int .u64 (x1 : Nat), .int .u64 (y1 : Nat)], .agg #[.int .u64 (x2 : Nat), .int .u64 (y2 : Nat)]] w fun r w' => r = .returned (.int .i64 t) ∧ Below w.heap.size w w')) (ht : decide (0 < t) = false) (hT : FAt w) : Calls Tryd.prog 36 #[.int .u8 f, .agg #[.int .u64 (x1 : Nat), .int .u64 (y1 : Nat)], .agg #[.int .u64 (x2 : Nat), .int .u64 (y2 : Nat)]] w fun r w' => r = .returned (.tuple #[.agg #[.int .u64 (x1 : Nat), .int .u64 (y1 : Nat)], .agg #[.int .u64 (x2 : Nat), .int .u64 (y2 : Nat)]]) ∧ Below w.heap.size w w' := by
  have FF := box hT
  clear hT
  obtain ⟨Ra_0, Rb_0, Rl_0, Rh_0, B0⟩ := opn4 w (Obj.cells #[.int .u64 (x1 : Nat), .int .u64 (y1 : Nat)] 25) (Obj.cells #[.int .u64 (x2 : Nat), .int .u64 (y2 : Nat)] 25) (Obj.cells #[.int .u64 0, .int .u64 0] 25) (Obj.cells #[.int .u64 0, .int .u64 0] 25)
  go_enter Tryd.func36, Tryd.ntmps36
  obtain ⟨ca_0_0, ca_0_1⟩ := cells2s Ra_0
  obtain ⟨cb_0_0, cb_0_1⟩ := cells2s Rb_0
  go_wp2_with fail
  refine (KN1.out _ (fatB FF.out B0)).mono ?_
  rintro r w1 ⟨rfl, b1⟩
  have B1 : Below w.heap.size w w1 := btr B0 b1
  have Ra_1 := heap_of b1 _ _ _ Ra_0
  have Rb_1 := heap_of b1 _ _ _ Rb_0
  have Rl_1 := heap_of b1 _ _ _ Rl_0
  have Rh_1 := heap_of b1 _ _ _ Rh_0
  clear b1 B0 Ra_0 ca_0_0 ca_0_1 Rb_0 cb_0_0 cb_0_1 Rl_0 Rh_0
  obtain ⟨ca_1_0, ca_1_1⟩ := cells2s Ra_1
  obtain ⟨cb_1_0, cb_1_1⟩ := cells2s Rb_1
  go_wp2_with fail
  refine (KN1.out _ (fatB FF.out B1)).mono ?_
  rintro r w2 ⟨rfl, b2⟩
  have B2 : Below w.heap.size w w2 := btr B1 b2
  have Ra_2 := heap_of b2 _ _ _ Ra_1
  have Rb_2 := heap_of b2 _ _ _ Rb_1
  have Rl_2 := heap_of b2 _ _ _ Rl_1
  have Rh_2 := heap_of b2 _ _ _ Rh_1
  clear b2 B1 Ra_1 ca_1_0 ca_1_1 Rb_1 cb_1_0 cb_1_1 Rl_1 Rh_1
  obtain ⟨ca_2_0, ca_2_1⟩ := cells2s Ra_2
  obtain ⟨cb_2_0, cb_2_1⟩ := cells2s Rb_2
  go_wp2_with fail
  refine (KN2.out _ (fatB FF.out B2)).mono ?_
  rintro r w3 ⟨rfl, b3⟩
  have B3 : Below w.heap.size w w3 := btr B2 b3
  have Ra_3 := heap_of b3 _ _ _ Ra_2
  have Rb_3 := heap_of b3 _ _ _ Rb_2
  have Rl_3 := heap_of b3 _ _ _ Rl_2
  have Rh_3 := heap_of b3 _ _ _ Rh_2
  clear b3 B2 Ra_2 ca_2_0 ca_2_1 Rb_2 cb_2_0 cb_2_1 Rl_2 Rh_2
  obtain ⟨ca_3_0, ca_3_1⟩ := cells2s Ra_3
  obtain ⟨cb_3_0, cb_3_1⟩ := cells2s Rb_3
  go_wp2_with fail
  refine (KT.out _ (fatB FF.out B3)).mono ?_
  rintro r w4 ⟨rfl, b4⟩
  have B4 : Below w.heap.size w w4 := btr B3 b4
  have Ra_4 := heap_of b4 _ _ _ Ra_3
  have Rb_4 := heap_of b4 _ _ _ Rb_3
  have Rl_4 := heap_of b4 _ _ _ Rl_3
  have Rh_4 := heap_of b4 _ _ _ Rh_3
  clear b4 B3 Ra_3 ca_3_0 ca_3_1 Rb_3 cb_3_0 cb_3_1 Rl_3 Rh_3
  obtain ⟨ca_4_0, ca_4_1⟩ := cells2s Ra_4
  obtain ⟨cb_4_0, cb_4_1⟩ := cells2s Rb_4
  have sS : Box (∀ W W1 : World, (Below w.heap.size w W ∧ W.heap[w.heap.size]? = some (Obj.cells #[.int .u64 (x1 : Nat), .int .u64 (y1 : Nat)] 25) ∧ W.heap[w.heap.size + 1]? = some (Obj.cells #[.int .u64 (x2 : Nat), .int .u64 (y2 : Nat)] 25) ∧ W.cell? ⟨w.heap.size, 0, none⟩ = some (.int .u64 (x1 : Nat)) ∧ W.cell? ⟨w.heap.size, 1, none⟩ = some (.int .u64 (y1 : Nat)) ∧ W.cell? ⟨w.heap.size + 1, 0, none⟩ = some (.int .u64 (x2 : Nat)) ∧ W.cell? ⟨w.heap.size + 1, 1, none⟩ = some (.int .u64 (y2 : Nat))) → Below W.heap.size W W1 → (Below w.heap.size w W1 ∧ W1.heap[w.heap.size]? = some (Obj.cells #[.int .u64 (x1 : Nat), .int .u64 (y1 : Nat)] 25) ∧ W1.heap[w.heap.size + 1]? = some (Obj.cells #[.int .u64 (x2 : Nat), .int .u64 (y2 : Nat)] 25) ∧ W1.cell? ⟨w.heap.size, 0, none⟩ = some (.int .u64 (x1 : Nat)) ∧ W1.cell? ⟨w.heap.size, 1, none⟩ = some (.int .u64 (y1 : Nat)) ∧ W1.cell? ⟨w.heap.size + 1, 0, none⟩ = some (.int .u64 (x2 : Nat)) ∧ W1.cell? ⟨w.heap.size + 1, 1, none⟩ = some (.int .u64 (y2 : Nat)))) := box (fun W W1 h b => ⟨btr h.1 b, heap_of b _ _ _ h.2.1, heap_of b _ _ _ h.2.2.1, cell7 (heap_of b _ _ _ h.2.1) 0 _ rfl, cell7 (heap_of b _ _ _ h.2.1) 1 _ rfl, cell7 (heap_of b _ _ _ h.2.2.1) 0 _ rfl, cell7 (heap_of b _ _ _ h.2.2.1) 1 _ rfl⟩)
  have sTA : Box (∀ (W : World) (xA xB : Value), (Below w.heap.size w W ∧ W.heap[w.heap.size]? = some (Obj.cells #[.int .u64 (x1 : Nat), .int .u64 (y1 : Nat)] 25) ∧ W.heap[w.heap.size + 1]? = some (Obj.cells #[.int .u64 (x2 : Nat), .int .u64 (y2 : Nat)] 25) ∧ W.cell? ⟨w.heap.size, 0, none⟩ = some (.int .u64 (x1 : Nat)) ∧ W.cell? ⟨w.heap.size, 1, none⟩ = some (.int .u64 (y1 : Nat)) ∧ W.cell? ⟨w.heap.size + 1, 0, none⟩ = some (.int .u64 (x2 : Nat)) ∧ W.cell? ⟨w.heap.size + 1, 1, none⟩ = some (.int .u64 (y2 : Nat))) → (Below w.heap.size w ((W.setCell ⟨w.heap.size + 1 + 1, 0, none⟩ xA).setCell ⟨w.heap.size + 1 + 1, 1, none⟩ xB) ∧ ((W.setCell ⟨w.heap.size + 1 + 1, 0, none⟩ xA).setCell ⟨w.heap.size + 1 + 1, 1, none⟩ xB).heap[w.heap.size]? = some (Obj.cells #[.int .u64 (x1 : Nat), .int .u64 (y1 : Nat)] 25) ∧ ((W.setCell ⟨w.heap.size + 1 + 1, 0, none⟩ xA).setCell ⟨w.heap.size + 1 + 1, 1, none⟩ xB).heap[w.heap.size + 1]? = some (Obj.cells #[.int .u64 (x2 : Nat), .int .u64 (y2 : Nat)] 25) ∧ ((W.setCell ⟨w.heap.size + 1 + 1, 0, none⟩ xA).setCell ⟨w.heap.size + 1 + 1, 1, none⟩ xB).cell? ⟨w.heap.size, 0, none⟩ = some (.int .u64 (x1 : Nat)) ∧ ((W.setCell ⟨w.heap.size + 1 + 1, 0, none⟩ xA).setCell ⟨w.heap.size + 1 + 1, 1, none⟩ xB).cell? ⟨w.heap.size, 1, none⟩ = some (.int .u64 (y1 : Nat)) ∧ ((W.setCell ⟨w.heap.size + 1 + 1, 0, none⟩ xA).setCell ⟨w.heap.size + 1 + 1, 1, none⟩ xB).cell? ⟨w.heap.size + 1, 0, none⟩ = some (.int .u64 (x2 : Nat)) ∧ ((W.setCell ⟨w.heap.size + 1 + 1, 0, none⟩ xA).setCell ⟨w.heap.size + 1 + 1, 1, none⟩ xB).cell? ⟨w.heap.size + 1, 1, none⟩ = some (.int .u64 (y2 : Nat)))) := box (fun W xA xB h => ⟨set2_below h.1 (show w.heap.size ≤ w.heap.size + 1 + 1 by first | exact Nat.le_refl _ | omega | (skip; omega)) xA xB, (setCell_other (by first | omega | (skip; omega))).trans ((setCell_other (by first | omega | (skip; omega))).trans h.2.1), (setCell_other (by first | omega | (skip; omega))).trans ((setCell_other (by first | omega | (skip; omega))).trans h.2.2.1), cell7 ((setCell_other (by first | omega | (skip; omega))).trans ((setCell_other (by first | omega | (skip; omega))).trans h.2.1)) 0 _ rfl, cell7 ((setCell_other (by first | omega | (skip; omega))).trans ((setCell_other (by first | omega | (skip; omega))).trans h.2.1)) 1 _ rfl, cell7 ((setCell_other (by first | omega | (skip; omega))).trans ((setCell_other (by first | omega | (skip; omega))).trans h.2.2.1)) 0 _ rfl, cell7 ((setCell_other (by first | omega | (skip; omega))).trans ((setCell_other (by first | omega | (skip; omega))).trans h.2.2.1)) 1 _ rfl⟩)
  have sTB : Box (∀ (W : World) (xA xB : Value), (Below w.heap.size w W ∧ W.heap[w.heap.size]? = some (Obj.cells #[.int .u64 (x1 : Nat), .int .u64 (y1 : Nat)] 25) ∧ W.heap[w.heap.size + 1]? = some (Obj.cells #[.int .u64 (x2 : Nat), .int .u64 (y2 : Nat)] 25) ∧ W.cell? ⟨w.heap.size, 0, none⟩ = some (.int .u64 (x1 : Nat)) ∧ W.cell? ⟨w.heap.size, 1, none⟩ = some (.int .u64 (y1 : Nat)) ∧ W.cell? ⟨w.heap.size + 1, 0, none⟩ = some (.int .u64 (x2 : Nat)) ∧ W.cell? ⟨w.heap.size + 1, 1, none⟩ = some (.int .u64 (y2 : Nat))) → (Below w.heap.size w ((W.setCell ⟨w.heap.size + 1 + 1 + 1, 0, none⟩ xA).setCell ⟨w.heap.size + 1 + 1 + 1, 1, none⟩ xB) ∧ ((W.setCell ⟨w.heap.size + 1 + 1 + 1, 0, none⟩ xA).setCell ⟨w.heap.size + 1 + 1 + 1, 1, none⟩ xB).heap[w.heap.size]? = some (Obj.cells #[.int .u64 (x1 : Nat), .int .u64 (y1 : Nat)] 25) ∧ ((W.setCell ⟨w.heap.size + 1 + 1 + 1, 0, none⟩ xA).setCell ⟨w.heap.size + 1 + 1 + 1, 1, none⟩ xB).heap[w.heap.size + 1]? = some (Obj.cells #[.int .u64 (x2 : Nat), .int .u64 (y2 : Nat)] 25) ∧ ((W.setCell ⟨w.heap.size + 1 + 1 + 1, 0, none⟩ xA).setCell ⟨w.heap.size + 1 + 1 + 1, 1, none⟩ xB).cell? ⟨w.heap.size, 0, none⟩ = some (.int .u64 (x1 : Nat)) ∧ ((W.setCell ⟨w.heap.size + 1 + 1 + 1, 0, none⟩ xA).setCell ⟨w.heap.size + 1 + 1 + 1, 1, none⟩ xB).cell? ⟨w.heap.size, 1, none⟩ = some (.int .u64 (y1 : Nat)) ∧ ((W.setCell ⟨w.heap.size + 1 + 1 + 1, 0, none⟩ xA).setCell ⟨w.heap.size + 1 + 1 + 1, 1, none⟩ xB).cell? ⟨w.heap.size + 1, 0, none⟩ = some (.int .u64 (x2 : Nat)) ∧ ((W.setCell ⟨w.heap.size + 1 + 1 + 1, 0, none⟩ xA).setCell ⟨w.heap.size + 1 + 1 + 1, 1, none⟩ xB).cell? ⟨w.heap.size + 1, 1, none⟩ = some (.int .u64 (y2 : Nat)))) := box (fun W xA xB h => ⟨set2_below h.1 (show w.heap.size ≤ w.heap.size + 1 + 1 + 1 by first | exact Nat.le_refl _ | omega | (skip; omega)) xA xB, (setCell_other (by first | omega | (skip; omega))).trans ((setCell_other (by first | omega | (skip; omega))).trans h.2.1), (setCell_other (by first | omega | (skip; omega))).trans ((setCell_other (by first | omega | (skip; omega))).trans h.2.2.1), cell7 ((setCell_other (by first | omega | (skip; omega))).trans ((setCell_other (by first | omega | (skip; omega))).trans h.2.1)) 0 _ rfl, cell7 ((setCell_other (by first | omega | (skip; omega))).trans ((setCell_other (by first | omega | (skip; omega))).trans h.2.1)) 1 _ rfl, cell7 ((setCell_other (by first | omega | (skip; omega))).trans ((setCell_other (by first | omega | (skip; omega))).trans h.2.2.1)) 0 _ rfl, cell7 ((setCell_other (by first | omega | (skip; omega))).trans ((setCell_other (by first | omega | (skip; omega))).trans h.2.2.1)) 1 _ rfl⟩)
  have s0 : Below w.heap.size w (w4).drew ∧ (w4).drew.heap[w.heap.size]? = some (Obj.cells #[.int .u64 (x1 : Nat), .int .u64 (y1 : Nat)] 25) ∧ (w4).drew.heap[w.heap.size + 1]? = some (Obj.cells #[.int .u64 (x2 : Nat), .int .u64 (y2 : Nat)] 25) ∧ (w4).drew.cell? ⟨w.heap.size, 0, none⟩ = some (.int .u64 (x1 : Nat)) ∧ (w4).drew.cell? ⟨w.heap.size, 1, none⟩ = some (.int .u64 (y1 : Nat)) ∧ (w4).drew.cell? ⟨w.heap.size + 1, 0, none⟩ = some (.int .u64 (x2 : Nat)) ∧ (w4).drew.cell? ⟨w.heap.size + 1, 1, none⟩ = some (.int .u64 (y2 : Nat)) := ⟨B4.drew, Ra_4, Rb_4, cell7 (Ra_4) 0 _ rfl, cell7 (Ra_4) 1 _ rfl, cell7 (Rb_4) 0 _ rfl, cell7 (Rb_4) 1 _ rfl⟩
  have rA : (w4).drew.heap[w.heap.size + 1 + 1]? = some (Obj.cells #[.int .u64 0, .int .u64 0] 25) := Rl_4
  have rB : (w4).drew.heap[w.heap.size + 1 + 1 + 1]? = some (Obj.cells #[.int .u64 0, .int .u64 0] 25) := Rh_4
  go_wp2_with fail
  have hA0 := fz (k := 0) rA
  have hA1 := fz (k := 1) rA
  have dA0 := cell7 rA 0 _ rfl
  have dA1 := cell7 rA 1 _ rfl
  have hB0 := fz (k := 0) rB
  have hB1 := fz (k := 1) rB
  have dB0 := cell7 rB 0 _ rfl
  have dB1 := cell7 rB 1 _ rfl
  have rB2 : (((w4).drew.setCell ⟨w.heap.size + 1 + 1, 0, none⟩ (.int .u64 (x1 : Nat))).setCell ⟨w.heap.size + 1 + 1, 1, none⟩ (.int .u64 (y1 : Nat))).heap[w.heap.size + 1 + 1 + 1]? = _ := (setCell_other (by first | omega | (skip; omega))).trans ((setCell_other (by first | omega | (skip; omega))).trans rB)
  have hC0 := fz (k := 0) rB2
  have hC1 := fz (k := 1) rB2
  have dC0 := cell7 rB2 0 _ rfl
  have dC1 := cell7 rB2 1 _ rfl
  have il0 := fz (k := 0) Rl_4
  have jl0 := cell7 Rl_4 0 _ rfl
  have il1 := fz (k := 1) Rl_4
  have jl1 := cell7 Rl_4 1 _ rfl
  have ih0 := fz (k := 0) Rh_4
  have jh0 := cell7 Rh_4 0 _ rfl
  have ih1 := fz (k := 1) Rh_4
  have jh1 := cell7 Rh_4 1 _ rfl
  go_region_held3 (fun W => Below w.heap.size w W ∧ W.heap[w.heap.size]? = some (Obj.cells #[.int .u64 (x1 : Nat), .int .u64 (y1 : Nat)] 25) ∧ W.heap[w.heap.size + 1]? = some (Obj.cells #[.int .u64 (x2 : Nat), .int .u64 (y2 : Nat)] 25) ∧ W.cell? ⟨w.heap.size, 0, none⟩ = some (.int .u64 (x1 : Nat)) ∧ W.cell? ⟨w.heap.size, 1, none⟩ = some (.int .u64 (y1 : Nat)) ∧ W.cell? ⟨w.heap.size + 1, 0, none⟩ = some (.int .u64 (x2 : Nat)) ∧ W.cell? ⟨w.heap.size + 1, 1, none⟩ = some (.int .u64 (y2 : Nat))) (first | exact s1 | exact s0 | exact sTA.out _ _ _ s0 | exact sTB.out _ _ _ (sTA.out _ _ _ s0))
    (fail)
  obtain ⟨D0, D1, D2, D3, BV9⟩ := two_boxes B4 Rl_4 Rh_4 (by first | omega | (skip; omega)) (show w.heap.size ≤ w.heap.size + 1 + 1 by first | exact Nat.le_refl _ | omega | (skip; omega)) (show w.heap.size ≤ w.heap.size + 1 + 1 + 1 by first | exact Nat.le_refl _ | omega | (skip; omega)) (.int .u64 (x1 : Nat)) (.int .u64 (y1 : Nat)) (.int .u64 (x2 : Nat)) (.int .u64 (y2 : Nat))
  obtain ⟨V9, hV9⟩ : ∃ V, ((((w4.setCell ⟨w.heap.size + 1 + 1, 0, none⟩ (.int .u64 (x1 : Nat))).setCell ⟨w.heap.size + 1 + 1, 1, none⟩ (.int .u64 (y1 : Nat))).setCell ⟨w.heap.size + 1 + 1 + 1, 0, none⟩ (.int .u64 (x2 : Nat))).setCell ⟨w.heap.size + 1 + 1 + 1, 1, none⟩ (.int .u64 (y2 : Nat))).drew = V := ⟨_, rfl⟩
  rw [hV9] at D0 D1 D2 D3 BV9 ⊢
  clear s0 sTA sTB rA rB rB2 hA0 hA1 hB0 hB1 dA0 dA1 dB0 dB1 hC0 hC1 dC0 dC1 hV9 il0 jl0 il1 jl1 ih0 jh0 ih1 jh1
  go_wp2
  exact bodyPost_ret (v := .tuple #[.agg #[.int .u64 (x1 : Nat), .int .u64 (y1 : Nat)], .agg #[.int .u64 (x2 : Nat), .int .u64 (y2 : Nat)]]) (by simp [results, Tryd.results36, go_sem, D0, D1, D2, D3]) rfl ⟨rfl, BV9⟩
set_option maxRecDepth 100000 in
set_option maxHeartbeats 8000000 in
theorem od_Compare_yes (f : Int) (x1 y1 x2 y2 : Nat) (rl : Int) (w : World) (KM : Box (∀ (T : TypeId) (g : Nat) (w : World), w.heap.size = g → FAt w → Calls Tryd.prog 25 #[.int .u8 f, .slice (some ⟨g, 0, none⟩) 2 2] (w.alloc (.cells #[.int .u64 (x1 : Nat), .int .u64 (y1 : Nat), .int .u64 (x2 : Nat), .int .u64 (y2 : Nat)] T)) fun r w' => r = .returned (.bool true) ∧ Below w.heap.size w w')) (KR : Box (∀ w, FAt w → Calls Tryd.prog 26 #[.int .u8 f, .agg #[.int .u64 (x1 : Nat), .int .u64 (y1 : Nat)], .agg #[.int .u64 (x2 : Nat), .int .u64 (y2 : Nat)]] w fun r w' => r = .returned (.int .u8 rl) ∧ Below w.heap.size w w')) (hT : FAt w) : Calls Tryd.prog 8 #[.int .u8 f, .agg #[.int .u64 (x1 : Nat), .int .u64 (y1 : Nat)], .agg #[.int .u64 (x2 : Nat), .int .u64 (y2 : Nat)]] w fun r w' => r = .returned (.tuple #[.int .u8 rl, .int .i64 0]) ∧ Below w.heap.size w w' := by
  have FF := box hT
  clear hT
  obtain ⟨Ra_0, Rb_0, B0⟩ := opn2 w (Obj.cells #[.int .u64 (x1 : Nat), .int .u64 (y1 : Nat)] 25) (Obj.cells #[.int .u64 (x2 : Nat), .int .u64 (y2 : Nat)] 25)
  go_enter Tryd.func8, Tryd.ntmps8
  obtain ⟨ca_0_0, ca_0_1⟩ := cells2s Ra_0
  obtain ⟨cb_0_0, cb_0_1⟩ := cells2s Rb_0
  go_wp2_with fail
  refine (KM.out _ _ ((w.alloc (Obj.cells #[.int .u64 (x1 : Nat), .int .u64 (y1 : Nat)] 25)).alloc (Obj.cells #[.int .u64 (x2 : Nat), .int .u64 (y2 : Nat)] 25)) (by first | rfl | simp only [size_al]) (fatB FF.out B0)).mono ?_
  rintro r w1 ⟨rfl, b1⟩
  have B1 : Below w.heap.size w w1 := btr B0 b1
  have Ra_1 := heap_of b1 _ _ _ Ra_0
  have Rb_1 := heap_of b1 _ _ _ Rb_0
  clear b1 B0 Ra_0 ca_0_0 ca_0_1 Rb_0 cb_0_0 cb_0_1
  obtain ⟨ca_1_0, ca_1_1⟩ := cells2s Ra_1
  obtain ⟨cb_1_0, cb_1_1⟩ := cells2s Rb_1
  go_wp2_with fail
  refine (KR.out _ (fatB FF.out B1)).mono ?_
  rintro r w2 ⟨rfl, b2⟩
  have B2 : Below w.heap.size w w2 := btr B1 b2
  have Ra_2 := heap_of b2 _ _ _ Ra_1
  have Rb_2 := heap_of b2 _ _ _ Rb_1
  clear b2 B1 Ra_1 ca_1_0 ca_1_1 Rb_1 cb_1_0 cb_1_1
  obtain ⟨ca_2_0, ca_2_1⟩ := cells2s Ra_2
  obtain ⟨cb_2_0, cb_2_1⟩ := cells2s Rb_2
  go_wp2
  go_ret2
  exact ⟨rfl, B2⟩
set_option maxRecDepth 100000 in
set_option maxHeartbeats 8000000 in
theorem od_Lt_yes (f : Int) (x1 y1 x2 y2 : Nat) (rl fl : Int) (eq o : Bool) (h1 : (rl == 1) = eq) (h0 : (rl == 0) = o) (w : World) (KM : Box (∀ (T : TypeId) (g : Nat) (w : World), w.heap.size = g → FAt w → Calls Tryd.prog 25 #[.int .u8 f, .slice (some ⟨g, 0, none⟩) 2 2] (w.alloc (.cells #[.int .u64 (x1 : Nat), .int .u64 (y1 : Nat), .int .u64 (x2 : Nat), .int .u64 (y2 : Nat)] T)) fun r w' => r = .returned (.bool true) ∧ Below w.heap.size w w')) (KR : Box (∀ w, FAt w → Calls Tryd.prog 26 #[.int .u8 f, .agg #[.int .u64 (x1 : Nat), .int .u64 (y1 : Nat)], .agg #[.int .u64 (x2 : Nat), .int .u64 (y2 : Nat)]] w fun r w' => r = .returned (.int .u8 rl) ∧ Below w.heap.size w w')) (KI : Box (∀ w, Calls Tryd.prog 27 #[.bool o] w fun r w' => r = .returned (.int .u8 fl) ∧ Below w.heap.size w w')) (hT : FAt w) : Calls Tryd.prog 10 #[.int .u8 f, .agg #[.int .u64 (x1 : Nat), .int .u64 (y1 : Nat)], .agg #[.int .u64 (x2 : Nat), .int .u64 (y2 : Nat)]] w fun r w' => r = .returned (.tuple #[.bool eq, .int .u8 fl, .int .i64 0]) ∧ Below w.heap.size w w' := by
  have FF := box hT
  clear hT
  obtain ⟨Ra_0, Rb_0, B0⟩ := opn2 w (Obj.cells #[.int .u64 (x1 : Nat), .int .u64 (y1 : Nat)] 25) (Obj.cells #[.int .u64 (x2 : Nat), .int .u64 (y2 : Nat)] 25)
  go_enter Tryd.func10, Tryd.ntmps10
  obtain ⟨ca_0_0, ca_0_1⟩ := cells2s Ra_0
  obtain ⟨cb_0_0, cb_0_1⟩ := cells2s Rb_0
  go_wp2_with fail
  refine (KM.out _ _ ((w.alloc (Obj.cells #[.int .u64 (x1 : Nat), .int .u64 (y1 : Nat)] 25)).alloc (Obj.cells #[.int .u64 (x2 : Nat), .int .u64 (y2 : Nat)] 25)) (by first | rfl | simp only [size_al]) (fatB FF.out B0)).mono ?_
  rintro r w1 ⟨rfl, b1⟩
  have B1 : Below w.heap.size w w1 := btr B0 b1
  have Ra_1 := heap_of b1 _ _ _ Ra_0
  have Rb_1 := heap_of b1 _ _ _ Rb_0
  clear b1 B0 Ra_0 ca_0_0 ca_0_1 Rb_0 cb_0_0 cb_0_1
  obtain ⟨ca_1_0, ca_1_1⟩ := cells2s Ra_1
  obtain ⟨cb_1_0, cb_1_1⟩ := cells2s Rb_1
  go_wp2_with fail
  refine (KR.out _ (fatB FF.out B1)).mono ?_
  rintro r w2 ⟨rfl, b2⟩
  have B2 : Below w.heap.size w w2 := btr B1 b2
  have Ra_2 := heap_of b2 _ _ _ Ra_1
  have Rb_2 := heap_of b2 _ _ _ Rb_1
  clear b2 B1 Ra_1 ca_1_0 ca_1_1 Rb_1 cb_1_0 cb_1_1
  obtain ⟨ca_2_0, ca_2_1⟩ := cells2s Ra_2
  obtain ⟨cb_2_0, cb_2_1⟩ := cells2s Rb_2
  go_wp2_with fail
  refine (KI.out _).mono ?_
  rintro r w3 ⟨rfl, b3⟩
  have B3 : Below w.heap.size w w3 := btr B2 b3
  have Ra_3 := heap_of b3 _ _ _ Ra_2
  have Rb_3 := heap_of b3 _ _ _ Rb_2
  clear b3 B2 Ra_2 ca_2_0 ca_2_1 Rb_2 cb_2_0 cb_2_1
  obtain ⟨ca_3_0, ca_3_1⟩ := cells2s Ra_3
  obtain ⟨cb_3_0, cb_3_1⟩ := cells2s Rb_3
  go_wp2
  go_ret3
  exact ⟨rfl, B3⟩
set_option maxRecDepth 100000 in
set_option maxHeartbeats 8000000 in
theorem od_Min_no (f : Int) (x1 y1 x2 y2 : Nat) (w : World) (KM : Box (∀ (T : TypeId) (g : Nat) (w : World), w.heap.size = g → FAt w → Calls Tryd.prog 25 #[.int .u8 f, .slice (some ⟨g, 0, none⟩) 2 2] (w.alloc (.cells #[.int .u64 (x1 : Nat), .int .u64 (y1 : Nat), .int .u64 (x2 : Nat), .int .u64 (y2 : Nat)] T)) fun r w' => r = .returned (.bool false) ∧ Below w.heap.size w w')) (hT : FAt w) : Calls Tryd.prog 17 #[.int .u8 f, .agg #[.int .u64 (x1 : Nat), .int .u64 (y1 : Nat)], .agg #[.int .u64 (x2 : Nat), .int .u64 (y2 : Nat)]] w fun r w' => r = .returned (.tuple #[.agg #[.int .u64 0, .int .u64 0], .int .u8 0, .int .i64 2]) ∧ Below w.heap.size w w' := by
  have FF := box hT
  clear hT
  obtain ⟨Ra_0, Rb_0, Rz_0, B0⟩ := opn3 w (Obj.cells #[.int .u64 (x1 : Nat), .int .u64 (y1 : Nat)] 25) (Obj.cells #[.int .u64 (x2 : Nat), .int .u64 (y2 : Nat)] 25) (Obj.cells #[.int .u64 0, .int .u64 0] 25)
  go_enter Tryd.func17, Tryd.ntmps17
  obtain ⟨ca_0_0, ca_0_1⟩ := cells2s Ra_0
  obtain ⟨cb_0_0, cb_0_1⟩ := cells2s Rb_0
  go_wp2_with fail
  refine (KM.out _ _ (((w.alloc (Obj.cells #[.int .u64 (x1 : Nat), .int .u64 (y1 : Nat)] 25)).alloc (Obj.cells #[.int .u64 (x2 : Nat), .int .u64 (y2 : Nat)] 25)).alloc (Obj.cells #[.int .u64 0, .int .u64 0] 25)) (by first | rfl | simp only [size_al]) (fatB FF.out B0)).mono ?_
  rintro r w1 ⟨rfl, b1⟩
  have B1 : Below w.heap.size w w1 := btr B0 b1
  have Ra_1 := heap_of b1 _ _ _ Ra_0
  have Rb_1 := heap_of b1 _ _ _ Rb_0
  have Rz_1 := heap_of b1 _ _ _ Rz_0
  clear b1 B0 Ra_0 ca_0_0 ca_0_1 Rb_0 cb_0_0 cb_0_1 Rz_0
  obtain ⟨ca_1_0, ca_1_1⟩ := cells2s Ra_1
  obtain ⟨cb_1_0, cb_1_1⟩ := cells2s Rb_1
  obtain ⟨cz_1_0, cz_1_1⟩ := cells2s Rz_1
  have q0 := fz (k := 0) Rz_1
  have q1 := fz (k := 1) Rz_1
  obtain ⟨E0, E1⟩ := set2_cells Rz_1 (.int .u64 0) (.int .u64 0)
  go_wp2
  exact bodyPost_ret (v := .tuple #[.agg #[.int .u64 0, .int .u64 0], .int .u8 0, .int .i64 2]) (by simp [results, Tryd.results17, go_sem, E0, E1]) rfl ⟨rfl, set2_below B1 (by first | exact Nat.le_refl _ | omega | (skip; omega)) _ _⟩
set_option maxRecDepth 100000 in
set_option maxHeartbeats 8000000 in
theorem od_Min_t (f : Int) (x1 y1 x2 y2 : Nat) (u v u2 v2 : Nat) (fl : Int) (w : World) (KM : Box (∀ (T : TypeId) (g : Nat) (w : World), w.heap.size = g → FAt w → Calls Tryd.prog 25 #[.int .u8 f, .slice (some ⟨g, 0, none⟩) 2 2] (w.alloc (.cells #[.int .u64 (x1 : Nat), .int .u64 (y1 : Nat), .int .u64 (x2 : Nat), .int .u64 (y2 : Nat)] T)) fun r w' => r = .returned (.bool true) ∧ Below w.heap.size w w')) (KO : Box (∀ w, FAt w → Calls Tryd.prog 36 #[.int .u8 f, .agg #[.int .u64 (x1 : Nat), .int .u64 (y1 : Nat)], .agg #[.int .u64 (x2 : Nat), .int .u64 (y2 : Nat)]] w fun r w' => r = .returned (.tuple #[.agg #[.int .u64 (u : Nat), .int .u64 (v : Nat)], .agg #[.int .u64 (u2 : Nat), .int .u64 (v2 : Nat)]]) ∧ Below w.heap.size w w')) (KS1 : Box (∀ w, FAt w → Calls Tryd.prog 28 #[.int .u8 f, .agg #[.int .u64 (x1 : Nat), .int .u64 (y1 : Nat)]] w fun r w' => r = .returned (.bool true) ∧ Below w.heap.size w w')) (KI : Box (∀ w, Calls Tryd.prog 27 #[.bool true] w fun r w' => r = .returned (.int .u8 fl) ∧ Below w.heap.size w w')) (hT : FAt w) : Calls Tryd.prog 17 #[.int .u8 f, .agg #[.int .u64 (x1 : Nat), .int .u64 (y1 : Nat)], .agg #[.int .u64 (x2 : Nat), .int .u64 (y2 : Nat)]] w fun r w' => r = .returned (.tuple #[.agg #[.int .u64 (u : Nat), .int .u64 (v : Nat)], .int .u8 fl, .int .i64 0]) ∧ Below w.heap.size w w' := by
  have FF := box hT
  clear hT
  obtain ⟨Ra_0, Rb_0, Rz_0, B0⟩ := opn3 w (Obj.cells #[.int .u64 (x1 : Nat), .int .u64 (y1 : Nat)] 25) (Obj.cells #[.int .u64 (x2 : Nat), .int .u64 (y2 : Nat)] 25) (Obj.cells #[.int .u64 0, .int .u64 0] 25)
  go_enter Tryd.func17, Tryd.ntmps17
  obtain ⟨ca_0_0, ca_0_1⟩ := cells2s Ra_0
  obtain ⟨cb_0_0, cb_0_1⟩ := cells2s Rb_0
  go_wp2_with fail
  refine (KM.out _ _ (((w.alloc (Obj.cells #[.int .u64 (x1 : Nat), .int .u64 (y1 : Nat)] 25)).alloc (Obj.cells #[.int .u64 (x2 : Nat), .int .u64 (y2 : Nat)] 25)).alloc (Obj.cells #[.int .u64 0, .int .u64 0] 25)) (by first | rfl | simp only [size_al]) (fatB FF.out B0)).mono ?_
  rintro r w1 ⟨rfl, b1⟩
  have B1 : Below w.heap.size w w1 := btr B0 b1
  have Ra_1 := heap_of b1 _ _ _ Ra_0
  have Rb_1 := heap_of b1 _ _ _ Rb_0
  have Rz_1 := heap_of b1 _ _ _ Rz_0
  clear b1 B0 Ra_0 ca_0_0 ca_0_1 Rb_0 cb_0_0 cb_0_1 Rz_0
  obtain ⟨ca_1_0, ca_1_1⟩ := cells2s Ra_1
  obtain ⟨cb_1_0, cb_1_1⟩ := cells2s Rb_1
  go_wp2_with fail
  refine (KO.out _ (fatB FF.out B1)).mono ?_
  rintro r w2 ⟨rfl, b2⟩
  have B2 : Below w.heap.size w w2 := btr B1 b2
  have Ra_2 := heap_of b2 _ _ _ Ra_1
  have Rb_2 := heap_of b2 _ _ _ Rb_1
  have Rz_2 := heap_of b2 _ _ _ Rz_1
  clear b2 B1 Ra_1 ca_1_0 ca_1_1 Rb_1 cb_1_0 cb_1_1 Rz_1
  obtain ⟨ca_2_0, ca_2_1⟩ := cells2s Ra_2
  obtain ⟨cb_2_0, cb_2_1⟩ := cells2s Rb_2
  have S3 := box B2.size
  have La_3 : Box (w.heap.size < w2.heap.size) := box (Array.getElem?_eq_some_iff.1 Ra_2).1
  have Lb_3 : Box (w.heap.size + 1 < w2.heap.size) := box (Array.getElem?_eq_some_iff.1 Rb_2).1
  have Lz_3 : Box (w.heap.size + 1 + 1 < w2.heap.size) := box (Array.getElem?_eq_some_iff.1 Rz_2).1
  have Rr_3 := heap_alloc_last w2 (Obj.cells #[.int .u64 (u : Nat), .int .u64 (v : Nat)] 25)
  have B3 := btr B2 (bal w2 (Obj.cells #[.int .u64 (u : Nat), .int .u64 (v : Nat)] 25))
  have Ra_3 := heap_of (bal w2 (Obj.cells #[.int .u64 (u : Nat), .int .u64 (v : Nat)] 25)) _ _ _ Ra_2
  have Rb_3 := heap_of (bal w2 (Obj.cells #[.int .u64 (u : Nat), .int .u64 (v : Nat)] 25)) _ _ _ Rb_2
  have Rz_3 := heap_of (bal w2 (Obj.cells #[.int .u64 (u : Nat), .int .u64 (v : Nat)] 25)) _ _ _ Rz_2
  clear B2 Ra_2 ca_2_0 ca_2_1 Rb_2 cb_2_0 cb_2_1 Rz_2
  obtain ⟨ca_3_0, ca_3_1⟩ := cells2s Ra_3
  obtain ⟨cb_3_0, cb_3_1⟩ := cells2s Rb_3
  obtain ⟨cr_3_0, cr_3_1⟩ := cells2s Rr_3
  have S4 := box B3.size
  have La_4 : Box (w.heap.size < (w2.alloc (Obj.cells #[.int .u64 (u : Nat), .int .u64 (v : Nat)] 25)).heap.size) := box (Array.getElem?_eq_some_iff.1 Ra_3).1
  have Lb_4 : Box (w.heap.size + 1 < (w2.alloc (Obj.cells #[.int .u64 (u : Nat), .int .u64 (v : Nat)] 25)).heap.size) := box (Array.getElem?_eq_some_iff.1 Rb_3).1
  have Lz_4 : Box (w.heap.size + 1 + 1 < (w2.alloc (Obj.cells #[.int .u64 (u : Nat), .int .u64 (v : Nat)] 25)).heap.size) := box (Array.getElem?_eq_some_iff.1 Rz_3).1
  have Lr_4 : Box (w2.heap.size < (w2.alloc (Obj.cells #[.int .u64 (u : Nat), .int .u64 (v : Nat)] 25)).heap.size) := box (Array.getElem?_eq_some_iff.1 Rr_3).1
  have Z4 := box (size_al w2 (Obj.cells #[.int .u64 (u : Nat), .int .u64 (v : Nat)] 25))
  have Rr2_4 : ((w2.alloc (Obj.cells #[.int .u64 (u : Nat), .int .u64 (v : Nat)] 25)).alloc (Obj.cells #[.int .u64 (u2 : Nat), .int .u64 (v2 : Nat)] 25)).heap[w2.heap.size + 1]? = some (Obj.cells #[.int .u64 (u2 : Nat), .int .u64 (v2 : Nat)] 25) := by have := heap_alloc_last (w2.alloc (Obj.cells #[.int .u64 (u : Nat), .int .u64 (v : Nat)] 25)) (Obj.cells #[.int .u64 (u2 : Nat), .int .u64 (v2 : Nat)] 25); simpa only [size_al] using this
  have B4 := btr B3 (bal (w2.alloc (Obj.cells #[.int .u64 (u : Nat), .int .u64 (v : Nat)] 25)) (Obj.cells #[.int .u64 (u2 : Nat), .int .u64 (v2 : Nat)] 25))
  have Ra_4 := heap_of (bal (w2.alloc (Obj.cells #[.int .u64 (u : Nat), .int .u64 (v : Nat)] 25)) (Obj.cells #[.int .u64 (u2 : Nat), .int .u64 (v2 : Nat)] 25)) _ _ _ Ra_3
  have Rb_4 := heap_of (bal (w2.alloc (Obj.cells #[.int .u64 (u : Nat), .int .u64 (v : Nat)] 25)) (Obj.cells #[.int .u64 (u2 : Nat), .int .u64 (v2 : Nat)] 25)) _ _ _ Rb_3
  have Rz_4 := heap_of (bal (w2.alloc (Obj.cells #[.int .u64 (u : Nat), .int .u64 (v : Nat)] 25)) (Obj.cells #[.int .u64 (u2 : Nat), .int .u64 (v2 : Nat)] 25)) _ _ _ Rz_3
  have Rr_4 := heap_of (bal (w2.alloc (Obj.cells #[.int .u64 (u : Nat), .int .u64 (v : Nat)] 25)) (Obj.cells #[.int .u64 (u2 : Nat), .int .u64 (v2 : Nat)] 25)) _ _ _ Rr_3
  clear B3 Ra_3 ca_3_0 ca_3_1 Rb_3 cb_3_0 cb_3_1 Rz_3 Rr_3 cr_3_0 cr_3_1
  obtain ⟨ca_4_0, ca_4_1⟩ := cells2s Ra_4
  obtain ⟨cb_4_0, cb_4_1⟩ := cells2s Rb_4
  obtain ⟨cr_4_0, cr_4_1⟩ := cells2s Rr_4
  obtain ⟨cr2_4_0, cr2_4_1⟩ := cells2s Rr2_4
  have qa : (((w2.alloc (Obj.cells #[.int .u64 (u : Nat), .int .u64 (v : Nat)] 25)).alloc (Obj.cells #[.int .u64 (u2 : Nat), .int .u64 (v2 : Nat)] 25))).drew.heap[w.heap.size]? = some (Obj.cells #[.int .u64 (x1 : Nat), .int .u64 (y1 : Nat)] 25) := Ra_4
  have qb : (((w2.alloc (Obj.cells #[.int .u64 (u : Nat), .int .u64 (v : Nat)] 25)).alloc (Obj.cells #[.int .u64 (u2 : Nat), .int .u64 (v2 : Nat)] 25))).drew.heap[w.heap.size + 1]? = some (Obj.cells #[.int .u64 (x2 : Nat), .int .u64 (y2 : Nat)] 25) := Rb_4
  have qz : (((w2.alloc (Obj.cells #[.int .u64 (u : Nat), .int .u64 (v : Nat)] 25)).alloc (Obj.cells #[.int .u64 (u2 : Nat), .int .u64 (v2 : Nat)] 25))).drew.heap[w.heap.size + 1 + 1]? = some (Obj.cells #[.int .u64 0, .int .u64 0] 25) := Rz_4
  have qr : (((w2.alloc (Obj.cells #[.int .u64 (u : Nat), .int .u64 (v : Nat)] 25)).alloc (Obj.cells #[.int .u64 (u2 : Nat), .int .u64 (v2 : Nat)] 25))).drew.heap[w2.heap.size]? = some (Obj.cells #[.int .u64 (u : Nat), .int .u64 (v : Nat)] 25) := Rr_4
  have qr2 : (((w2.alloc (Obj.cells #[.int .u64 (u : Nat), .int .u64 (v : Nat)] 25)).alloc (Obj.cells #[.int .u64 (u2 : Nat), .int .u64 (v2 : Nat)] 25))).drew.heap[w2.heap.size + 1]? = some (Obj.cells #[.int .u64 (u2 : Nat), .int .u64 (v2 : Nat)] 25) := Rr2_4
  have qB := B4.drew
  have iz0 := fz (k := 0) Rz_4
  have iz1 := fz (k := 1) Rz_4
  go_wp2_with fail
  first | (go_region_with (first | (go_at_call_of 28 (Value.agg #[Value.int IntKind.u64 (x1 : Int), Value.int IntKind.u64 (y1 : Int)]); refine (KS1.out _ (fatB FF.out qB)).mono ?_; rintro r wq ⟨rfl, bq⟩; have qa := heap_of bq _ _ _ qa; have qb := heap_of bq _ _ _ qb; have qz := heap_of bq _ _ _ qz; have qr := heap_of bq _ _ _ qr; have qr2 := heap_of bq _ _ _ qr2; have qB := btr qB bq; have da0 := cell7 qa 0 (.int .u64 (x1 : Nat)) rfl; have da1 := cell7 qa 1 (.int .u64 (y1 : Nat)) rfl; have db0 := cell7 qb 0 (.int .u64 (x2 : Nat)) rfl; have db1 := cell7 qb 1 (.int .u64 (y2 : Nat)) rfl; have dz0 := cell7 qz 0 (.int .u64 0) rfl; have dz1 := cell7 qz 1 (.int .u64 0) rfl; have dr0 := cell7 qr 0 (.int .u64 (u : Nat)) rfl; have dr1 := cell7 qr 1 (.int .u64 (v : Nat)) rfl; have dr20 := cell7 qr2 0 (.int .u64 (u2 : Nat)) rfl; have dr21 := cell7 qr2 1 (.int .u64 (v2 : Nat)) rfl; have iz0 := fz (k := 0) qz; have iz1 := fz (k := 1) qz; clear bq) | (go_at_call 27; refine (KI.out _).mono ?_; rintro r wq ⟨rfl, bq⟩; have qa := heap_of bq _ _ _ qa; have qb := heap_of bq _ _ _ qb; have qz := heap_of bq _ _ _ qz; have qr := heap_of bq _ _ _ qr; have qr2 := heap_of bq _ _ _ qr2; have qB := btr qB bq; have da0 := cell7 qa 0 (.int .u64 (x1 : Nat)) rfl; have da1 := cell7 qa 1 (.int .u64 (y1 : Nat)) rfl; have db0 := cell7 qb 0 (.int .u64 (x2 : Nat)) rfl; have db1 := cell7 qb 1 (.int .u64 (y2 : Nat)) rfl; have dz0 := cell7 qz 0 (.int .u64 0) rfl; have dz1 := cell7 qz 1 (.int .u64 0) rfl; have dr0 := cell7 qr 0 (.int .u64 (u : Nat)) rfl; have dr1 := cell7 qr 1 (.int .u64 (v : Nat)) rfl; have dr20 := cell7 qr2 0 (.int .u64 (u2 : Nat)) rfl; have dr21 := cell7 qr2 1 (.int .u64 (v2 : Nat)) rfl; have iz0 := fz (k := 0) qz; have iz1 := fz (k := 1) qz; clear bq) | fail)) | fail
  all_goals
    obtain ⟨E0, E1⟩ := set2_cells qz (.int .u64 (u : Nat)) (.int .u64 (v : Nat))
    have BZ := set2_below qB (show w.heap.size ≤ w.heap.size + 1 + 1 by first | exact Nat.le_refl _ | omega | (have := S3.out; have := La_3.out; have := Lb_3.out; have := Lz_3.out; have := Z4.out; have := S4.out; have := La_4.out; have := Lb_4.out; have := Lz_4.out; have := Lr_4.out; omega)) (.int .u64 (u : Nat)) (.int .u64 (v : Nat))
    go_wp2
    exact bodyPost_ret (v := .tuple #[.agg #[.int .u64 (u : Nat), .int .u64 (v : Nat)], .int .u8 fl, .int .i64 0]) (by simp [results, Tryd.results17, go_sem, E0, E1]) rfl ⟨rfl, BZ⟩
set_option maxRecDepth 100000 in
set_option maxHeartbeats 8000000 in
theorem od_Min_f (f : Int) (x1 y1 x2 y2 : Nat) (u v u2 v2 : Nat) (fl : Int) (o : Bool) (w : World) (KM : Box (∀ (T : TypeId) (g : Nat) (w : World), w.heap.size = g → FAt w → Calls Tryd.prog 25 #[.int .u8 f, .slice (some ⟨g, 0, none⟩) 2 2] (w.alloc (.cells #[.int .u64 (x1 : Nat), .int .u64 (y1 : Nat), .int .u64 (x2 : Nat), .int .u64 (y2 : Nat)] T)) fun r w' => r = .returned (.bool true) ∧ Below w.heap.size w w')) (KO : Box (∀ w, FAt w → Calls Tryd.prog 36 #[.int .u8 f, .agg #[.int .u64 (x1 : Nat), .int .u64 (y1 : Nat)], .agg #[.int .u64 (x2 : Nat), .int .u64 (y2 : Nat)]] w fun r w' => r = .returned (.tuple #[.agg #[.int .u64 (u : Nat), .int .u64 (v : Nat)], .agg #[.int .u64 (u2 : Nat), .int .u64 (v2 : Nat)]]) ∧ Below w.heap.size w w')) (KS1 : Box (∀ w, FAt w → Calls Tryd.prog 28 #[.int .u8 f, .agg #[.int .u64 (x1 : Nat), .int .u64 (y1 : Nat)]] w fun r w' => r = .returned (.bool false) ∧ Below w.heap.size w w')) (KS2 : Box (∀ w, FAt w → Calls Tryd.prog 28 #[.int .u8 f, .agg #[.int .u64 (x2 : Nat), .int .u64 (y2 : Nat)]] w fun r w' => r = .returned (.bool o) ∧ Below w.heap.size w w')) (KI : Box (∀ w, Calls Tryd.prog 27 #[.bool o] w fun r w' => r = .returned (.int .u8 fl) ∧ Below w.heap.size w w')) (hT : FAt w) : Calls Tryd.prog 17 #[.int .u8 f, .agg #[.int .u64 (x1 : Nat), .int .u64 (y1 : Nat)], .agg #[.int .u64 (x2 : Nat), .int .u64 (y2 : Nat)]] w fun r w' => r = .returned (.tuple #[.agg #[.int .u64 (u : Nat), .int .u64 (v : Nat)], .int .u8 fl, .int .i64 0]) ∧ Below w.heap.size w w' := by
  have FF := box hT
  clear hT
  obtain ⟨Ra_0, Rb_0, Rz_0, B0⟩ := opn3 w (Obj.cells #[.int .u64 (x1 : Nat), .int .u64 (y1 : Nat)] 25) (Obj.cells #[.int .u64 (x2 : Nat), .int .u64 (y2 : Nat)] 25) (Obj.cells #[.int .u64 0, .int .u64 0] 25)
  go_enter Tryd.func17, Tryd.ntmps17
  obtain ⟨ca_0_0, ca_0_1⟩ := cells2s Ra_0
  obtain ⟨cb_0_0, cb_0_1⟩ := cells2s Rb_0
  go_wp2_with fail
  refine (KM.out _ _ (((w.alloc (Obj.cells #[.int .u64 (x1 : Nat), .int .u64 (y1 : Nat)] 25)).alloc (Obj.cells #[.int .u64 (x2 : Nat), .int .u64 (y2 : Nat)] 25)).alloc (Obj.cells #[.int .u64 0, .int .u64 0] 25)) (by first | rfl | simp only [size_al]) (fatB FF.out B0)).mono ?_
  rintro r w1 ⟨rfl, b1⟩
  have B1 : Below w.heap.size w w1 := btr B0 b1
  have Ra_1 := heap_of b1 _ _ _ Ra_0
  have Rb_1 := heap_of b1 _ _ _ Rb_0
  have Rz_1 := heap_of b1 _ _ _ Rz_0
  clear b1 B0 Ra_0 ca_0_0 ca_0_1 Rb_0 cb_0_0 cb_0_1 Rz_0
  obtain ⟨ca_1_0, ca_1_1⟩ := cells2s Ra_1
  obtain ⟨cb_1_0, cb_1_1⟩ := cells2s Rb_1
  go_wp2_with fail
  refine (KO.out _ (fatB FF.out B1)).mono ?_
  rintro r w2 ⟨rfl, b2⟩
  have B2 : Below w.heap.size w w2 := btr B1 b2
  have Ra_2 := heap_of b2 _ _ _ Ra_1
  have Rb_2 := heap_of b2 _ _ _ Rb_1
  have Rz_2 := heap_of b2 _ _ _ Rz_1
  clear b2 B1 Ra_1 ca_1_0 ca_1_1 Rb_1 cb_1_0 cb_1_1 Rz_1
  obtain ⟨ca_2_0, ca_2_1⟩ := cells2s Ra_2
  obtain ⟨cb_2_0, cb_2_1⟩ := cells2s Rb_2
  have S3 := box B2.size
  have La_3 : Box (w.heap.size < w2.heap.size) := box (Array.getElem?_eq_some_iff.1 Ra_2).1
  have Lb_3 : Box (w.heap.size + 1 < w2.heap.size) := box (Array.getElem?_eq_some_iff.1 Rb_2).1
  have Lz_3 : Box (w.heap.size + 1 + 1 < w2.heap.size) := box (Array.getElem?_eq_some_iff.1 Rz_2).1
  have Rr_3 := heap_alloc_last w2 (Obj.cells #[.int .u64 (u : Nat), .int .u64 (v : Nat)] 25)
  have B3 := btr B2 (bal w2 (Obj.cells #[.int .u64 (u : Nat), .int .u64 (v : Nat)] 25))
  have Ra_3 := heap_of (bal w2 (Obj.cells #[.int .u64 (u : Nat), .int .u64 (v : Nat)] 25)) _ _ _ Ra_2
  have Rb_3 := heap_of (bal w2 (Obj.cells #[.int .u64 (u : Nat), .int .u64 (v : Nat)] 25)) _ _ _ Rb_2
  have Rz_3 := heap_of (bal w2 (Obj.cells #[.int .u64 (u : Nat), .int .u64 (v : Nat)] 25)) _ _ _ Rz_2
  clear B2 Ra_2 ca_2_0 ca_2_1 Rb_2 cb_2_0 cb_2_1 Rz_2
  obtain ⟨ca_3_0, ca_3_1⟩ := cells2s Ra_3
  obtain ⟨cb_3_0, cb_3_1⟩ := cells2s Rb_3
  obtain ⟨cr_3_0, cr_3_1⟩ := cells2s Rr_3
  have S4 := box B3.size
  have La_4 : Box (w.heap.size < (w2.alloc (Obj.cells #[.int .u64 (u : Nat), .int .u64 (v : Nat)] 25)).heap.size) := box (Array.getElem?_eq_some_iff.1 Ra_3).1
  have Lb_4 : Box (w.heap.size + 1 < (w2.alloc (Obj.cells #[.int .u64 (u : Nat), .int .u64 (v : Nat)] 25)).heap.size) := box (Array.getElem?_eq_some_iff.1 Rb_3).1
  have Lz_4 : Box (w.heap.size + 1 + 1 < (w2.alloc (Obj.cells #[.int .u64 (u : Nat), .int .u64 (v : Nat)] 25)).heap.size) := box (Array.getElem?_eq_some_iff.1 Rz_3).1
  have Lr_4 : Box (w2.heap.size < (w2.alloc (Obj.cells #[.int .u64 (u : Nat), .int .u64 (v : Nat)] 25)).heap.size) := box (Array.getElem?_eq_some_iff.1 Rr_3).1
  have Z4 := box (size_al w2 (Obj.cells #[.int .u64 (u : Nat), .int .u64 (v : Nat)] 25))
  have Rr2_4 : ((w2.alloc (Obj.cells #[.int .u64 (u : Nat), .int .u64 (v : Nat)] 25)).alloc (Obj.cells #[.int .u64 (u2 : Nat), .int .u64 (v2 : Nat)] 25)).heap[w2.heap.size + 1]? = some (Obj.cells #[.int .u64 (u2 : Nat), .int .u64 (v2 : Nat)] 25) := by have := heap_alloc_last (w2.alloc (Obj.cells #[.int .u64 (u : Nat), .int .u64 (v : Nat)] 25)) (Obj.cells #[.int .u64 (u2 : Nat), .int .u64 (v2 : Nat)] 25); simpa only [size_al] using this
  have B4 := btr B3 (bal (w2.alloc (Obj.cells #[.int .u64 (u : Nat), .int .u64 (v : Nat)] 25)) (Obj.cells #[.int .u64 (u2 : Nat), .int .u64 (v2 : Nat)] 25))
  have Ra_4 := heap_of (bal (w2.alloc (Obj.cells #[.int .u64 (u : Nat), .int .u64 (v : Nat)] 25)) (Obj.cells #[.int .u64 (u2 : Nat), .int .u64 (v2 : Nat)] 25)) _ _ _ Ra_3
  have Rb_4 := heap_of (bal (w2.alloc (Obj.cells #[.int .u64 (u : Nat), .int .u64 (v : Nat)] 25)) (Obj.cells #[.int .u64 (u2 : Nat), .int .u64 (v2 : Nat)] 25)) _ _ _ Rb_3
  have Rz_4 := heap_of (bal (w2.alloc (Obj.cells #[.int .u64 (u : Nat), .int .u64 (v : Nat)] 25)) (Obj.cells #[.int .u64 (u2 : Nat), .int .u64 (v2 : Nat)] 25)) _ _ _ Rz_3
  have Rr_4 := heap_of (bal (w2.alloc (Obj.cells #[.int .u64 (u : Nat), .int .u64 (v : Nat)] 25)) (Obj.cells #[.int .u64 (u2 : Nat), .int .u64 (v2 : Nat)] 25)) _ _ _ Rr_3
  clear B3 Ra_3 ca_3_0 ca_3_1 Rb_3 cb_3_0 cb_3_1 Rz_3 Rr_3 cr_3_0 cr_3_1
  obtain ⟨ca_4_0, ca_4_1⟩ := cells2s Ra_4
  obtain ⟨cb_4_0, cb_4_1⟩ := cells2s Rb_4
  obtain ⟨cr_4_0, cr_4_1⟩ := cells2s Rr_4
  obtain ⟨cr2_4_0, cr2_4_1⟩ := cells2s Rr2_4
  have sS : Box (∀ W W1 : World, (Below w.heap.size w W ∧ W.heap[w.heap.size]? = some (Obj.cells #[.int .u64 (x1 : Nat), .int .u64 (y1 : Nat)] 25) ∧ W.heap[w.heap.size + 1]? = some (Obj.cells #[.int .u64 (x2 : Nat), .int .u64 (y2 : Nat)] 25) ∧ W.heap[w2.heap.size]? = some (Obj.cells #[.int .u64 (u : Nat), .int .u64 (v : Nat)] 25) ∧ W.heap[w2.heap.size + 1]? = some (Obj.cells #[.int .u64 (u2 : Nat), .int .u64 (v2 : Nat)] 25) ∧ W.cell? ⟨w.heap.size, 0, none⟩ = some (.int .u64 (x1 : Nat)) ∧ W.cell? ⟨w.heap.size, 1, none⟩ = some (.int .u64 (y1 : Nat)) ∧ W.cell? ⟨w.heap.size + 1, 0, none⟩ = some (.int .u64 (x2 : Nat)) ∧ W.cell? ⟨w.heap.size + 1, 1, none⟩ = some (.int .u64 (y2 : Nat)) ∧ W.cell? ⟨w2.heap.size, 0, none⟩ = some (.int .u64 (u : Nat)) ∧ W.cell? ⟨w2.heap.size, 1, none⟩ = some (.int .u64 (v : Nat)) ∧ W.cell? ⟨w2.heap.size + 1, 0, none⟩ = some (.int .u64 (u2 : Nat)) ∧ W.cell? ⟨w2.heap.size + 1, 1, none⟩ = some (.int .u64 (v2 : Nat))) → Below W.heap.size W W1 → (Below w.heap.size w W1 ∧ W1.heap[w.heap.size]? = some (Obj.cells #[.int .u64 (x1 : Nat), .int .u64 (y1 : Nat)] 25) ∧ W1.heap[w.heap.size + 1]? = some (Obj.cells #[.int .u64 (x2 : Nat), .int .u64 (y2 : Nat)] 25) ∧ W1.heap[w2.heap.size]? = some (Obj.cells #[.int .u64 (u : Nat), .int .u64 (v : Nat)] 25) ∧ W1.heap[w2.heap.size + 1]? = some (Obj.cells #[.int .u64 (u2 : Nat), .int .u64 (v2 : Nat)] 25) ∧ W1.cell? ⟨w.heap.size, 0, none⟩ = some (.int .u64 (x1 : Nat)) ∧ W1.cell? ⟨w.heap.size, 1, none⟩ = some (.int .u64 (y1 : Nat)) ∧ W1.cell? ⟨w.heap.size + 1, 0, none⟩ = some (.int .u64 (x2 : Nat)) ∧ W1.cell? ⟨w.heap.size + 1, 1, none⟩ = some (.int .u64 (y2 : Nat)) ∧ W1.cell? ⟨w2.heap.size, 0, none⟩ = some (.int .u64 (u : Nat)) ∧ W1.cell? ⟨w2.heap.size, 1, none⟩ = some (.int .u64 (v : Nat)) ∧ W1.cell? ⟨w2.heap.size + 1, 0, none⟩ = some (.int .u64 (u2 : Nat)) ∧ W1.cell? ⟨w2.heap.size + 1, 1, none⟩ = some (.int .u64 (v2 : Nat)))) := box (fun W W1 h b => ⟨btr h.1 b, heap_of b _ _ _ h.2.1, heap_of b _ _ _ h.2.2.1, heap_of b _ _ _ h.2.2.2.1, heap_of b _ _ _ h.2.2.2.2.1, cell7 (heap_of b _ _ _ h.2.1) 0 _ rfl, cell7 (heap_of b _ _ _ h.2.1) 1 _ rfl, cell7 (heap_of b _ _ _ h.2.2.1) 0 _ rfl, cell7 (heap_of b _ _ _ h.2.2.1) 1 _ rfl, cell7 (heap_of b _ _ _ h.2.2.2.1) 0 _ rfl, cell7 (heap_of b _ _ _ h.2.2.2.1) 1 _ rfl, cell7 (heap_of b _ _ _ h.2.2.2.2.1) 0 _ rfl, cell7 (heap_of b _ _ _ h.2.2.2.2.1) 1 _ rfl⟩)
  have sT : Box (∀ (W : World) (xA xB : Value), (Below w.heap.size w W ∧ W.heap[w.heap.size]? = some (Obj.cells #[.int .u64 (x1 : Nat), .int .u64 (y1 : Nat)] 25) ∧ W.heap[w.heap.size + 1]? = some (Obj.cells #[.int .u64 (x2 : Nat), .int .u64 (y2 : Nat)] 25) ∧ W.heap[w2.heap.size]? = some (Obj.cells #[.int .u64 (u : Nat), .int .u64 (v : Nat)] 25) ∧ W.heap[w2.heap.size + 1]? = some (Obj.cells #[.int .u64 (u2 : Nat), .int .u64 (v2 : Nat)] 25) ∧ W.cell? ⟨w.heap.size, 0, none⟩ = some (.int .u64 (x1 : Nat)) ∧ W.cell? ⟨w.heap.size, 1, none⟩ = some (.int .u64 (y1 : Nat)) ∧ W.cell? ⟨w.heap.size + 1, 0, none⟩ = some (.int .u64 (x2 : Nat)) ∧ W.cell? ⟨w.heap.size + 1, 1, none⟩ = some (.int .u64 (y2 : Nat)) ∧ W.cell? ⟨w2.heap.size, 0, none⟩ = some (.int .u64 (u : Nat)) ∧ W.cell? ⟨w2.heap.size, 1, none⟩ = some (.int .u64 (v : Nat)) ∧ W.cell? ⟨w2.heap.size + 1, 0, none⟩ = some (.int .u64 (u2 : Nat)) ∧ W.cell? ⟨w2.heap.size + 1, 1, none⟩ = some (.int .u64 (v2 : Nat))) → (Below w.heap.size w ((W.setCell ⟨w.heap.size + 1 + 1, 0, none⟩ xA).setCell ⟨w.heap.size + 1 + 1, 1, none⟩ xB) ∧ ((W.setCell ⟨w.heap.size + 1 + 1, 0, none⟩ xA).setCell ⟨w.heap.size + 1 + 1, 1, none⟩ xB).heap[w.heap.size]? = some (Obj.cells #[.int .u64 (x1 : Nat), .int .u64 (y1 : Nat)] 25) ∧ ((W.setCell ⟨w.heap.size + 1 + 1, 0, none⟩ xA).setCell ⟨w.heap.size + 1 + 1, 1, none⟩ xB).heap[w.heap.size + 1]? = some (Obj.cells #[.int .u64 (x2 : Nat), .int .u64 (y2 : Nat)] 25) ∧ ((W.setCell ⟨w.heap.size + 1 + 1, 0, none⟩ xA).setCell ⟨w.heap.size + 1 + 1, 1, none⟩ xB).heap[w2.heap.size]? = some (Obj.cells #[.int .u64 (u : Nat), .int .u64 (v : Nat)] 25) ∧ ((W.setCell ⟨w.heap.size + 1 + 1, 0, none⟩ xA).setCell ⟨w.heap.size + 1 + 1, 1, none⟩ xB).heap[w2.heap.size + 1]? = some (Obj.cells #[.int .u64 (u2 : Nat), .int .u64 (v2 : Nat)] 25) ∧ ((W.setCell ⟨w.heap.size + 1 + 1, 0, none⟩ xA).setCell ⟨w.heap.size + 1 + 1, 1, none⟩ xB).cell? ⟨w.heap.size, 0, none⟩ = some (.int .u64 (x1 : Nat)) ∧ ((W.setCell ⟨w.heap.size + 1 + 1, 0, none⟩ xA).setCell ⟨w.heap.size + 1 + 1, 1, none⟩ xB).cell? ⟨w.heap.size, 1, none⟩ = some (.int .u64 (y1 : Nat)) ∧ ((W.setCell ⟨w.heap.size + 1 + 1, 0, none⟩ xA).setCell ⟨w.heap.size + 1 + 1, 1, none⟩ xB).cell? ⟨w.heap.size + 1, 0, none⟩ = some (.int .u64 (x2 : Nat)) ∧ ((W.setCell ⟨w.heap.size + 1 + 1, 0, none⟩ xA).setCell ⟨w.heap.size + 1 + 1, 1, none⟩ xB).cell? ⟨w.heap.size + 1, 1, none⟩ = some (.int .u64 (y2 : Nat)) ∧ ((W.setCell ⟨w.heap.size + 1 + 1, 0, none⟩ xA).setCell ⟨w.heap.size + 1 + 1, 1, none⟩ xB).cell? ⟨w2.heap.size, 0, none⟩ = some (.int .u64 (u : Nat)) ∧ ((W.setCell ⟨w.heap.size + 1 + 1, 0, none⟩ xA).setCell ⟨w.heap.size + 1 + 1, 1, none⟩ xB).cell? ⟨w2.heap.size, 1, none⟩ = some (.int .u64 (v : Nat)) ∧ ((W.setCell ⟨w.heap.size + 1 + 1, 0, none⟩ xA).setCell ⟨w.heap.size + 1 + 1, 1, none⟩ xB).cell? ⟨w2.heap.size + 1, 0, none⟩ = some (.int .u64 (u2 : Nat)) ∧ ((W.setCell ⟨w.heap.size + 1 + 1, 0, none⟩ xA).setCell ⟨w.heap.size + 1 + 1, 1, none⟩ xB).cell? ⟨w2.heap.size + 1, 1, none⟩ = some (.int .u64 (v2 : Nat)))) := box (fun W xA xB h => ⟨set2_below h.1 (by first | exact Nat.le_refl _ | omega | (have := S3.out; have := La_3.out; have := Lb_3.out; have := Lz_3.out; have := Z4.out; have := S4.out; have := La_4.out; have := Lb_4.out; have := Lz_4.out; have := Lr_4.out; omega)) xA xB, ((setCell_other (by first | omega | (have := S3.out; have := La_3.out; have := Lb_3.out; have := Lz_3.out; have := Z4.out; have := S4.out; have := La_4.out; have := Lb_4.out; have := Lz_4.out; have := Lr_4.out; omega))).trans ((setCell_other (by first | omega | (have := S3.out; have := La_3.out; have := Lb_3.out; have := Lz_3.out; have := Z4.out; have := S4.out; have := La_4.out; have := Lb_4.out; have := Lz_4.out; have := Lr_4.out; omega))).trans h.2.1)), ((setCell_other (by first | omega | (have := S3.out; have := La_3.out; have := Lb_3.out; have := Lz_3.out; have := Z4.out; have := S4.out; have := La_4.out; have := Lb_4.out; have := Lz_4.out; have := Lr_4.out; omega))).trans ((setCell_other (by first | omega | (have := S3.out; have := La_3.out; have := Lb_3.out; have := Lz_3.out; have := Z4.out; have := S4.out; have := La_4.out; have := Lb_4.out; have := Lz_4.out; have := Lr_4.out; omega))).trans h.2.2.1)), ((setCell_other (by first | omega | (have := S3.out; have := La_3.out; have := Lb_3.out; have := Lz_3.out; have := Z4.out; have := S4.out; have := La_4.out; have := Lb_4.out; have := Lz_4.out; have := Lr_4.out; omega))).trans ((setCell_other (by first | omega | (have := S3.out; have := La_3.out; have := Lb_3.out; have := Lz_3.out; have := Z4.out; have := S4.out; have := La_4.out; have := Lb_4.out; have := Lz_4.out; have := Lr_4.out; omega))).trans h.2.2.2.1)), ((setCell_other (by first | omega | (have := S3.out; have := La_3.out; have := Lb_3.out; have := Lz_3.out; have := Z4.out; have := S4.out; have := La_4.out; have := Lb_4.out; have := Lz_4.out; have := Lr_4.out; omega))).trans ((setCell_other (by first | omega | (have := S3.out; have := La_3.out; have := Lb_3.out; have := Lz_3.out; have := Z4.out; have := S4.out; have := La_4.out; have := Lb_4.out; have := Lz_4.out; have := Lr_4.out; omega))).trans h.2.2.2.2.1)), cell7 (((setCell_other (by first | omega | (have := S3.out; have := La_3.out; have := Lb_3.out; have := Lz_3.out; have := Z4.out; have := S4.out; have := La_4.out; have := Lb_4.out; have := Lz_4.out; have := Lr_4.out; omega))).trans ((setCell_other (by first | omega | (have := S3.out; have := La_3.out; have := Lb_3.out; have := Lz_3.out; have := Z4.out; have := S4.out; have := La_4.out; have := Lb_4.out; have := Lz_4.out; have := Lr_4.out; omega))).trans h.2.1))) 0 _ rfl, cell7 (((setCell_other (by first | omega | (have := S3.out; have := La_3.out; have := Lb_3.out; have := Lz_3.out; have := Z4.out; have := S4.out; have := La_4.out; have := Lb_4.out; have := Lz_4.out; have := Lr_4.out; omega))).trans ((setCell_other (by first | omega | (have := S3.out; have := La_3.out; have := Lb_3.out; have := Lz_3.out; have := Z4.out; have := S4.out; have := La_4.out; have := Lb_4.out; have := Lz_4.out; have := Lr_4.out; omega))).trans h.2.1))) 1 _ rfl, cell7 (((setCell_other (by first | omega | (have := S3.out; have := La_3.out; have := Lb_3.out; have := Lz_3.out; have := Z4.out; have := S4.out; have := La_4.out; have := Lb_4.out; have := Lz_4.out; have := Lr_4.out; omega))).trans ((setCell_other (by first | omega | (have := S3.out; have := La_3.out; have := Lb_3.out; have := Lz_3.out; have := Z4.out; have := S4.out; have := La_4.out; have := Lb_4.out; have := Lz_4.out; have := Lr_4.out; omega))).trans h.2.2.1))) 0 _ rfl, cell7 (((setCell_other (by first | omega | (have := S3.out; have := La_3.out; have := Lb_3.out; have := Lz_3.out; have := Z4.out; have := S4.out; have := La_4.out; have := Lb_4.out; have := Lz_4.out; have := Lr_4.out; omega))).trans ((setCell_other (by first | omega | (have := S3.out; have := La_3.out; have := Lb_3.out; have := Lz_3.out; have := Z4.out; have := S4.out; have := La_4.out; have := Lb_4.out; have := Lz_4.out; have := Lr_4.out; omega))).trans h.2.2.1))) 1 _ rfl, cell7 (((setCell_other (by first | omega | (have := S3.out; have := La_3.out; have := Lb_3.out; have := Lz_3.out; have := Z4.out; have := S4.out; have := La_4.out; have := Lb_4.out; have := Lz_4.out; have := Lr_4.out; omega))).trans ((setCell_other (by first | omega | (have := S3.out; have := La_3.out; have := Lb_3.out; have := Lz_3.out; have := Z4.out; have := S4.out; have := La_4.out; have := Lb_4.out; have := Lz_4.out; have := Lr_4.out; omega))).trans h.2.2.2.1))) 0 _ rfl, cell7 (((setCell_other (by first | omega | (have := S3.out; have := La_3.out; have := Lb_3.out; have := Lz_3.out; have := Z4.out; have := S4.out; have := La_4.out; have := Lb_4.out; have := Lz_4.out; have := Lr_4.out; omega))).trans ((setCell_other (by first | omega | (have := S3.out; have := La_3.out; have := Lb_3.out; have := Lz_3.out; have := Z4.out; have := S4.out; have := La_4.out; have := Lb_4.out; have := Lz_4.out; have := Lr_4.out; omega))).trans h.2.2.2.1))) 1 _ rfl, cell7 (((setCell_other (by first | omega | (have := S3.out; have := La_3.out; have := Lb_3.out; have := Lz_3.out; have := Z4.out; have := S4.out; have := La_4.out; have := Lb_4.out; have := Lz_4.out; have := Lr_4.out; omega))).trans ((setCell_other (by first | omega | (have := S3.out; have := La_3.out; have := Lb_3.out; have := Lz_3.out; have := Z4.out; have := S4.out; have := La_4.out; have := Lb_4.out; have := Lz_4.out; have := Lr_4.out; omega))).trans h.2.2.2.2.1))) 0 _ rfl, cell7 (((setCell_other (by first | omega | (have := S3.out; have := La_3.out; have := Lb_3.out; have := Lz_3.out; have := Z4.out; have := S4.out; have := La_4.out; have := Lb_4.out; have := Lz_4.out; have := Lr_4.out; omega))).trans ((setCell_other (by first | omega | (have := S3.out; have := La_3.out; have := Lb_3.out; have := Lz_3.out; have := Z4.out; have := S4.out; have := La_4.out; have := Lb_4.out; have := Lz_4.out; have := Lr_4.out; omega))).trans h.2.2.2.2.1))) 1 _ rfl⟩)
  have s0 : Below w.heap.size w (((w2.alloc (Obj.cells #[.int .u64 (u : Nat), .int .u64 (v : Nat)] 25)).alloc (Obj.cells #[.int .u64 (u2 : Nat), .int .u64 (v2 : Nat)] 25))).drew ∧ (((w2.alloc (Obj.cells #[.int .u64 (u : Nat), .int .u64 (v : Nat)] 25)).alloc (Obj.cells #[.int .u64 (u2 : Nat), .int .u64 (v2 : Nat)] 25))).drew.heap[w.heap.size]? = some (Obj.cells #[.int .u64 (x1 : Nat), .int .u64 (y1 : Nat)] 25) ∧ (((w2.alloc (Obj.cells #[.int .u64 (u : Nat), .int .u64 (v : Nat)] 25)).alloc (Obj.cells #[.int .u64 (u2 : Nat), .int .u64 (v2 : Nat)] 25))).drew.heap[w.heap.size + 1]? = some (Obj.cells #[.int .u64 (x2 : Nat), .int .u64 (y2 : Nat)] 25) ∧ (((w2.alloc (Obj.cells #[.int .u64 (u : Nat), .int .u64 (v : Nat)] 25)).alloc (Obj.cells #[.int .u64 (u2 : Nat), .int .u64 (v2 : Nat)] 25))).drew.heap[w2.heap.size]? = some (Obj.cells #[.int .u64 (u : Nat), .int .u64 (v : Nat)] 25) ∧ (((w2.alloc (Obj.cells #[.int .u64 (u : Nat), .int .u64 (v : Nat)] 25)).alloc (Obj.cells #[.int .u64 (u2 : Nat), .int .u64 (v2 : Nat)] 25))).drew.heap[w2.heap.size + 1]? = some (Obj.cells #[.int .u64 (u2 : Nat), .int .u64 (v2 : Nat)] 25) ∧ (((w2.alloc (Obj.cells #[.int .u64 (u : Nat), .int .u64 (v : Nat)] 25)).alloc (Obj.cells #[.int .u64 (u2 : Nat), .int .u64 (v2 : Nat)] 25))).drew.cell? ⟨w.heap.size, 0, none⟩ = some (.int .u64 (x1 : Nat)) ∧ (((w2.alloc (Obj.cells #[.int .u64 (u : Nat), .int .u64 (v : Nat)] 25)).alloc (Obj.cells #[.int .u64 (u2 : Nat), .int .u64 (v2 : Nat)] 25))).drew.cell? ⟨w.heap.size, 1, none⟩ = some (.int .u64 (y1 : Nat)) ∧ (((w2.alloc (Obj.cells #[.int .u64 (u : Nat), .int .u64 (v : Nat)] 25)).alloc (Obj.cells #[.int .u64 (u2 : Nat), .int .u64 (v2 : Nat)] 25))).drew.cell? ⟨w.heap.size + 1, 0, none⟩ = some (.int .u64 (x2 : Nat)) ∧ (((w2.alloc (Obj.cells #[.int .u64 (u : Nat), .int .u64 (v : Nat)] 25)).alloc (Obj.cells #[.int .u64 (u2 : Nat), .int .u64 (v2 : Nat)] 25))).drew.cell? ⟨w.heap.size + 1, 1, none⟩ = some (.int .u64 (y2 : Nat)) ∧ (((w2.alloc (Obj.cells #[.int .u64 (u : Nat), .int .u64 (v : Nat)] 25)).alloc (Obj.cells #[.int .u64 (u2 : Nat), .int .u64 (v2 : Nat)] 25))).drew.cell? ⟨w2.heap.size, 0, none⟩ = some (.int .u64 (u : Nat)) ∧ (((w2.alloc (Obj.cells #[.int .u64 (u : Nat), .int .u64 (v : Nat)] 25)).alloc (Obj.cells #[.int .u64 (u2 : Nat), .int .u64 (v2 : Nat)] 25))).drew.cell? ⟨w2.heap.size, 1, none⟩ = some (.int .u64 (v : Nat)) ∧ (((w2.alloc (Obj.cells #[.int .u64 (u : Nat), .int .u64 (v : Nat)] 25)).alloc (Obj.cells #[.int .u64 (u2 : Nat), .int .u64 (v2 : Nat)] 25))).drew.cell? ⟨w2.heap.size + 1, 0, none⟩ = some (.int .u64 (u2 : Nat)) ∧ (((w2.alloc (Obj.cells #[.int .u64 (u : Nat), .int .u64 (v : Nat)] 25)).alloc (Obj.cells #[.int .u64 (u2 : Nat), .int .u64 (v2 : Nat)] 25))).drew.cell? ⟨w2.heap.size + 1, 1, none⟩ = some (.int .u64 (v2 : Nat)) := ⟨B4.drew, Ra_4, Rb_4, Rr_4, Rr2_4, cell7 (Ra_4) 0 _ rfl, cell7 (Ra_4) 1 _ rfl, cell7 (Rb_4) 0 _ rfl, cell7 (Rb_4) 1 _ rfl, cell7 (Rr_4) 0 _ rfl, cell7 (Rr_4) 1 _ rfl, cell7 (Rr2_4) 0 _ rfl, cell7 (Rr2_4) 1 _ rfl⟩
  have rz : (((w2.alloc (Obj.cells #[.int .u64 (u : Nat), .int .u64 (v : Nat)] 25)).alloc (Obj.cells #[.int .u64 (u2 : Nat), .int .u64 (v2 : Nat)] 25))).drew.heap[w.heap.size + 1 + 1]? = some (Obj.cells #[.int .u64 0, .int .u64 0] 25) := Rz_4
  have hq0 := fz (k := 0) rz
  have hq1 := fz (k := 1) rz
  have hc0 := cell7 rz 0 _ rfl
  have hc1 := cell7 rz 1 _ rfl
  go_wp2_with fail
  go_region_held3 (fun W => Below w.heap.size w W ∧ W.heap[w.heap.size]? = some (Obj.cells #[.int .u64 (x1 : Nat), .int .u64 (y1 : Nat)] 25) ∧ W.heap[w.heap.size + 1]? = some (Obj.cells #[.int .u64 (x2 : Nat), .int .u64 (y2 : Nat)] 25) ∧ W.heap[w2.heap.size]? = some (Obj.cells #[.int .u64 (u : Nat), .int .u64 (v : Nat)] 25) ∧ W.heap[w2.heap.size + 1]? = some (Obj.cells #[.int .u64 (u2 : Nat), .int .u64 (v2 : Nat)] 25) ∧ W.cell? ⟨w.heap.size, 0, none⟩ = some (.int .u64 (x1 : Nat)) ∧ W.cell? ⟨w.heap.size, 1, none⟩ = some (.int .u64 (y1 : Nat)) ∧ W.cell? ⟨w.heap.size + 1, 0, none⟩ = some (.int .u64 (x2 : Nat)) ∧ W.cell? ⟨w.heap.size + 1, 1, none⟩ = some (.int .u64 (y2 : Nat)) ∧ W.cell? ⟨w2.heap.size, 0, none⟩ = some (.int .u64 (u : Nat)) ∧ W.cell? ⟨w2.heap.size, 1, none⟩ = some (.int .u64 (v : Nat)) ∧ W.cell? ⟨w2.heap.size + 1, 0, none⟩ = some (.int .u64 (u2 : Nat)) ∧ W.cell? ⟨w2.heap.size + 1, 1, none⟩ = some (.int .u64 (v2 : Nat))) (first | exact s1 | exact s0 | exact sT.out _ _ _ s1 | exact sT.out _ _ _ s0)
    (first | (go_at_call_of 28 (Value.agg #[Value.int IntKind.u64 (x1 : Int), Value.int IntKind.u64 (y1 : Int)]); (first | refine (KS1.out _ (fatB FF.out (And.left s1))).mono ?_ | refine (KS1.out _ (fatB FF.out (And.left s0))).mono ?_); rintro r wq ⟨rfl, bq⟩; have s1 := (by first | exact sS.out _ _ s1 bq | exact sS.out _ _ s0 bq); have rz := heap_of bq _ _ _ rz; have hq0 := fz (k := 0) rz; have hc0 := cell7 rz 0 _ rfl; have hq1 := fz (k := 1) rz; have hc1 := cell7 rz 1 _ rfl; clear bq) | (go_at_call_of 28 (Value.agg #[Value.int IntKind.u64 (x2 : Int), Value.int IntKind.u64 (y2 : Int)]); (first | refine (KS2.out _ (fatB FF.out (And.left s1))).mono ?_ | refine (KS2.out _ (fatB FF.out (And.left s0))).mono ?_); rintro r wq ⟨rfl, bq⟩; have s1 := (by first | exact sS.out _ _ s1 bq | exact sS.out _ _ s0 bq); have rz := heap_of bq _ _ _ rz; have hq0 := fz (k := 0) rz; have hc0 := cell7 rz 0 _ rfl; have hq1 := fz (k := 1) rz; have hc1 := cell7 rz 1 _ rfl; clear bq) | (go_at_call 27; (first | refine (KI.out _).mono ?_ | refine (KI.out _).mono ?_); rintro r wq ⟨rfl, bq⟩; have s1 := (by first | exact sS.out _ _ s1 bq | exact sS.out _ _ s0 bq); have rz := heap_of bq _ _ _ rz; have hq0 := fz (k := 0) rz; have hc0 := cell7 rz 0 _ rfl; have hq1 := fz (k := 1) rz; have hc1 := cell7 rz 1 _ rfl; clear bq) | fail)
  obtain ⟨E0, E1⟩ := set2_cells rz (.int .u64 (u : Nat)) (.int .u64 (v : Nat))
  have BZ := (by first | exact And.left s1 | exact And.left s0 : Below w.heap.size w _)
  go_wp2
  exact bodyPost_ret (v := .tuple #[.agg #[.int .u64 (u : Nat), .int .u64 (v : Nat)], .int .u8 fl, .int .i64 0]) (by simp [results, Tryd.results17, go_sem, E0, E1]) rfl ⟨rfl, set2_below BZ (by first | exact Nat.le_refl _ | omega | (have := S3.out; have := La_3.out; have := Lb_3.out; have := Lz_3.out; have := Z4.out; have := S4.out; have := La_4.out; have := Lb_4.out; have := Lz_4.out; have := Lr_4.out; omega)) _ _⟩
set_option maxRecDepth 100000 in
set_option maxHeartbeats 8000000 in
theorem od_Max_no (f : Int) (x1 y1 x2 y2 : Nat) (w : World) (KM : Box (∀ (T : TypeId) (g : Nat) (w : World), w.heap.size = g → FAt w → Calls Tryd.prog 25 #[.int .u8 f, .slice (some ⟨g, 0, none⟩) 2 2] (w.alloc (.cells #[.int .u64 (x1 : Nat), .int .u64 (y1 : Nat), .int .u64 (x2 : Nat), .int .u64 (y2 : Nat)] T)) fun r w' => r = .returned (.bool false) ∧ Below w.heap.size w w')) (hT : FAt w) : Calls Tryd.prog 18 #[.int .u8 f, .agg #[.int .u64 (x1 : Nat), .int .u64 (y1 : Nat)], .agg #[.int .u64 (x2 : Nat), .int .u64 (y2 : Nat)]] w fun r w' => r = .returned (.tuple #[.agg #[.int .u64 0, .int .u64 0], .int .u8 0, .int .i64 2]) ∧ Below w.heap.size w w' := by
  have FF := box hT
  clear hT
  obtain ⟨Ra_0, Rb_0, Rz_0, B0⟩ := opn3 w (Obj.cells #[.int .u64 (x1 : Nat), .int .u64 (y1 : Nat)] 25) (Obj.cells #[.int .u64 (x2 : Nat), .int .u64 (y2 : Nat)] 25) (Obj.cells #[.int .u64 0, .int .u64 0] 25)
  go_enter Tryd.func18, Tryd.ntmps18
  obtain ⟨ca_0_0, ca_0_1⟩ := cells2s Ra_0
  obtain ⟨cb_0_0, cb_0_1⟩ := cells2s Rb_0
  go_wp2_with fail
  refine (KM.out _ _ (((w.alloc (Obj.cells #[.int .u64 (x1 : Nat), .int .u64 (y1 : Nat)] 25)).alloc (Obj.cells #[.int .u64 (x2 : Nat), .int .u64 (y2 : Nat)] 25)).alloc (Obj.cells #[.int .u64 0, .int .u64 0] 25)) (by first | rfl | simp only [size_al]) (fatB FF.out B0)).mono ?_
  rintro r w1 ⟨rfl, b1⟩
  have B1 : Below w.heap.size w w1 := btr B0 b1
  have Ra_1 := heap_of b1 _ _ _ Ra_0
  have Rb_1 := heap_of b1 _ _ _ Rb_0
  have Rz_1 := heap_of b1 _ _ _ Rz_0
  clear b1 B0 Ra_0 ca_0_0 ca_0_1 Rb_0 cb_0_0 cb_0_1 Rz_0
  obtain ⟨ca_1_0, ca_1_1⟩ := cells2s Ra_1
  obtain ⟨cb_1_0, cb_1_1⟩ := cells2s Rb_1
  obtain ⟨cz_1_0, cz_1_1⟩ := cells2s Rz_1
  have q0 := fz (k := 0) Rz_1
  have q1 := fz (k := 1) Rz_1
  obtain ⟨E0, E1⟩ := set2_cells Rz_1 (.int .u64 0) (.int .u64 0)
  go_wp2
  exact bodyPost_ret (v := .tuple #[.agg #[.int .u64 0, .int .u64 0], .int .u8 0, .int .i64 2]) (by simp [results, Tryd.results18, go_sem, E0, E1]) rfl ⟨rfl, set2_below B1 (by first | exact Nat.le_refl _ | omega | (skip; omega)) _ _⟩
set_option maxRecDepth 100000 in
set_option maxHeartbeats 8000000 in
theorem od_Max_t (f : Int) (x1 y1 x2 y2 : Nat) (u v u2 v2 : Nat) (fl : Int) (w : World) (KM : Box (∀ (T : TypeId) (g : Nat) (w : World), w.heap.size = g → FAt w → Calls Tryd.prog 25 #[.int .u8 f, .slice (some ⟨g, 0, none⟩) 2 2] (w.alloc (.cells #[.int .u64 (x1 : Nat), .int .u64 (y1 : Nat), .int .u64 (x2 : Nat), .int .u64 (y2 : Nat)] T)) fun r w' => r = .returned (.bool true) ∧ Below w.heap.size w w')) (KO : Box (∀ w, FAt w → Calls Tryd.prog 36 #[.int .u8 f, .agg #[.int .u64 (x1 : Nat), .int .u64 (y1 : Nat)], .agg #[.int .u64 (x2 : Nat), .int .u64 (y2 : Nat)]] w fun r w' => r = .returned (.tuple #[.agg #[.int .u64 (u : Nat), .int .u64 (v : Nat)], .agg #[.int .u64 (u2 : Nat), .int .u64 (v2 : Nat)]]) ∧ Below w.heap.size w w')) (KS1 : Box (∀ w, FAt w → Calls Tryd.prog 28 #[.int .u8 f, .agg #[.int .u64 (x1 : Nat), .int .u64 (y1 : Nat)]] w fun r w' => r = .returned (.bool true) ∧ Below w.heap.size w w')) (KI : Box (∀ w, Calls Tryd.prog 27 #[.bool true] w fun r w' => r = .returned (.int .u8 fl) ∧ Below w.heap.size w w')) (hT : FAt w) : Calls Tryd.prog 18 #[.int .u8 f, .agg #[.int .u64 (x1 : Nat), .int .u64 (y1 : Nat)], .agg #[.int .u64 (x2 : Nat), .int .u64 (y2 : Nat)]] w fun r w' => r = .returned (.tuple #[.agg #[.int .u64 (u2 : Nat), .int .u64 (v2 : Nat)], .int .u8 fl, .int .i64 0]) ∧ Below w.heap.size w w' := by
  have FF := box hT
  clear hT
  obtain ⟨Ra_0, Rb_0, Rz_0, B0⟩ := opn3 w (Obj.cells #[.int .u64 (x1 : Nat), .int .u64 (y1 : Nat)] 25) (Obj.cells #[.int .u64 (x2 : Nat), .int .u64 (y2 : Nat)] 25) (Obj.cells #[.int .u64 0, .int .u64 0] 25)
  go_enter Tryd.func18, Tryd.ntmps18
  obtain ⟨ca_0_0, ca_0_1⟩ := cells2s Ra_0
  obtain ⟨cb_0_0, cb_0_1⟩ := cells2s Rb_0
  go_wp2_with fail
  refine (KM.out _ _ (((w.alloc (Obj.cells #[.int .u64 (x1 : Nat), .int .u64 (y1 : Nat)] 25)).alloc (Obj.cells #[.int .u64 (x2 : Nat), .int .u64 (y2 : Nat)] 25)).alloc (Obj.cells #[.int .u64 0, .int .u64 0] 25)) (by first | rfl | simp only [size_al]) (fatB FF.out B0)).mono ?_
  rintro r w1 ⟨rfl, b1⟩
  have B1 : Below w.heap.size w w1 := btr B0 b1
  have Ra_1 := heap_of b1 _ _ _ Ra_0
  have Rb_1 := heap_of b1 _ _ _ Rb_0
  have Rz_1 := heap_of b1 _ _ _ Rz_0
  clear b1 B0 Ra_0 ca_0_0 ca_0_1 Rb_0 cb_0_0 cb_0_1 Rz_0
  obtain ⟨ca_1_0, ca_1_1⟩ := cells2s Ra_1
  obtain ⟨cb_1_0, cb_1_1⟩ := cells2s Rb_1
  go_wp2_with fail
  refine (KO.out _ (fatB FF.out B1)).mono ?_
  rintro r w2 ⟨rfl, b2⟩
  have B2 : Below w.heap.size w w2 := btr B1 b2
  have Ra_2 := heap_of b2 _ _ _ Ra_1
  have Rb_2 := heap_of b2 _ _ _ Rb_1
  have Rz_2 := heap_of b2 _ _ _ Rz_1
  clear b2 B1 Ra_1 ca_1_0 ca_1_1 Rb_1 cb_1_0 cb_1_1 Rz_1
  obtain ⟨ca_2_0, ca_2_1⟩ := cells2s Ra_2
  obtain ⟨cb_2_0, cb_2_1⟩ := cells2s Rb_2
  have S3 := box B2.size
  have La_3 : Box (w.heap.size < w2.heap.size) := box (Array.getElem?_eq_some_iff.1 Ra_2).1
  have Lb_3 : Box (w.heap.size + 1 < w2.heap.size) := box (Array.getElem?_eq_some_iff.1 Rb_2).1
  have Lz_3 : Box (w.heap.size + 1 + 1 < w2.heap.size) := box (Array.getElem?_eq_some_iff.1 Rz_2).1
  have Rr_3 := heap_alloc_last w2 (Obj.cells #[.int .u64 (u : Nat), .int .u64 (v : Nat)] 25)
  have B3 := btr B2 (bal w2 (Obj.cells #[.int .u64 (u : Nat), .int .u64 (v : Nat)] 25))
  have Ra_3 := heap_of (bal w2 (Obj.cells #[.int .u64 (u : Nat), .int .u64 (v : Nat)] 25)) _ _ _ Ra_2
  have Rb_3 := heap_of (bal w2 (Obj.cells #[.int .u64 (u : Nat), .int .u64 (v : Nat)] 25)) _ _ _ Rb_2
  have Rz_3 := heap_of (bal w2 (Obj.cells #[.int .u64 (u : Nat), .int .u64 (v : Nat)] 25)) _ _ _ Rz_2
  clear B2 Ra_2 ca_2_0 ca_2_1 Rb_2 cb_2_0 cb_2_1 Rz_2
  obtain ⟨ca_3_0, ca_3_1⟩ := cells2s Ra_3
  obtain ⟨cb_3_0, cb_3_1⟩ := cells2s Rb_3
  obtain ⟨cr_3_0, cr_3_1⟩ := cells2s Rr_3
  have S4 := box B3.size
  have La_4 : Box (w.heap.size < (w2.alloc (Obj.cells #[.int .u64 (u : Nat), .int .u64 (v : Nat)] 25)).heap.size) := box (Array.getElem?_eq_some_iff.1 Ra_3).1
  have Lb_4 : Box (w.heap.size + 1 < (w2.alloc (Obj.cells #[.int .u64 (u : Nat), .int .u64 (v : Nat)] 25)).heap.size) := box (Array.getElem?_eq_some_iff.1 Rb_3).1
  have Lz_4 : Box (w.heap.size + 1 + 1 < (w2.alloc (Obj.cells #[.int .u64 (u : Nat), .int .u64 (v : Nat)] 25)).heap.size) := box (Array.getElem?_eq_some_iff.1 Rz_3).1
  have Lr_4 : Box (w2.heap.size < (w2.alloc (Obj.cells #[.int .u64 (u : Nat), .int .u64 (v : Nat)] 25)).heap.size) := box (Array.getElem?_eq_some_iff.1 Rr_3).1
  have Z4 := box (size_al w2 (Obj.cells #[.int .u64 (u : Nat), .int .u64 (v : Nat)] 25))
  have Rr2_4 : ((w2.alloc (Obj.cells #[.int .u64 (u : Nat), .int .u64 (v : Nat)] 25)).alloc (Obj.cells #[.int .u64 (u2 : Nat), .int .u64 (v2 : Nat)] 25)).heap[w2.heap.size + 1]? = some (Obj.cells #[.int .u64 (u2 : Nat), .int .u64 (v2 : Nat)] 25) := by have := heap_alloc_last (w2.alloc (Obj.cells #[.int .u64 (u : Nat), .int .u64 (v : Nat)] 25)) (Obj.cells #[.int .u64 (u2 : Nat), .int .u64 (v2 : Nat)] 25); simpa only [size_al] using this
  have B4 := btr B3 (bal (w2.alloc (Obj.cells #[.int .u64 (u : Nat), .int .u64 (v : Nat)] 25)) (Obj.cells #[.int .u64 (u2 : Nat), .int .u64 (v2 : Nat)] 25))
  have Ra_4 := heap_of (bal (w2.alloc (Obj.cells #[.int .u64 (u : Nat), .int .u64 (v : Nat)] 25)) (Obj.cells #[.int .u64 (u2 : Nat), .int .u64 (v2 : Nat)] 25)) _ _ _ Ra_3
  have Rb_4 := heap_of (bal (w2.alloc (Obj.cells #[.int .u64 (u : Nat), .int .u64 (v : Nat)] 25)) (Obj.cells #[.int .u64 (u2 : Nat), .int .u64 (v2 : Nat)] 25)) _ _ _ Rb_3
  have Rz_4 := heap_of (bal (w2.alloc (Obj.cells #[.int .u64 (u : Nat), .int .u64 (v : Nat)] 25)) (Obj.cells #[.int .u64 (u2 : Nat), .int .u64 (v2 : Nat)] 25)) _ _ _ Rz_3
  have Rr_4 := heap_of (bal (w2.alloc (Obj.cells #[.int .u64 (u : Nat), .int .u64 (v : Nat)] 25)) (Obj.cells #[.int .u64 (u2 : Nat), .int .u64 (v2 : Nat)] 25)) _ _ _ Rr_3
  clear B3 Ra_3 ca_3_0 ca_3_1 Rb_3 cb_3_0 cb_3_1 Rz_3 Rr_3 cr_3_0 cr_3_1
  obtain ⟨ca_4_0, ca_4_1⟩ := cells2s Ra_4
  obtain ⟨cb_4_0, cb_4_1⟩ := cells2s Rb_4
  obtain ⟨cr_4_0, cr_4_1⟩ := cells2s Rr_4
  obtain ⟨cr2_4_0, cr2_4_1⟩ := cells2s Rr2_4
  have qa : (((w2.alloc (Obj.cells #[.int .u64 (u : Nat), .int .u64 (v : Nat)] 25)).alloc (Obj.cells #[.int .u64 (u2 : Nat), .int .u64 (v2 : Nat)] 25))).drew.heap[w.heap.size]? = some (Obj.cells #[.int .u64 (x1 : Nat), .int .u64 (y1 : Nat)] 25) := Ra_4
  have qb : (((w2.alloc (Obj.cells #[.int .u64 (u : Nat), .int .u64 (v : Nat)] 25)).alloc (Obj.cells #[.int .u64 (u2 : Nat), .int .u64 (v2 : Nat)] 25))).drew.heap[w.heap.size + 1]? = some (Obj.cells #[.int .u64 (x2 : Nat), .int .u64 (y2 : Nat)] 25) := Rb_4
  have qz : (((w2.alloc (Obj.cells #[.int .u64 (u : Nat), .int .u64 (v : Nat)] 25)).alloc (Obj.cells #[.int .u64 (u2 : Nat), .int .u64 (v2 : Nat)] 25))).drew.heap[w.heap.size + 1 + 1]? = some (Obj.cells #[.int .u64 0, .int .u64 0] 25) := Rz_4
  have qr : (((w2.alloc (Obj.cells #[.int .u64 (u : Nat), .int .u64 (v : Nat)] 25)).alloc (Obj.cells #[.int .u64 (u2 : Nat), .int .u64 (v2 : Nat)] 25))).drew.heap[w2.heap.size]? = some (Obj.cells #[.int .u64 (u : Nat), .int .u64 (v : Nat)] 25) := Rr_4
  have qr2 : (((w2.alloc (Obj.cells #[.int .u64 (u : Nat), .int .u64 (v : Nat)] 25)).alloc (Obj.cells #[.int .u64 (u2 : Nat), .int .u64 (v2 : Nat)] 25))).drew.heap[w2.heap.size + 1]? = some (Obj.cells #[.int .u64 (u2 : Nat), .int .u64 (v2 : Nat)] 25) := Rr2_4
  have qB := B4.drew
  have iz0 := fz (k := 0) Rz_4
  have iz1 := fz (k := 1) Rz_4
  go_wp2_with fail
  first | (go_region_with (first | (go_at_call_of 28 (Value.agg #[Value.int IntKind.u64 (x1 : Int), Value.int IntKind.u64 (y1 : Int)]); refine (KS1.out _ (fatB FF.out qB)).mono ?_; rintro r wq ⟨rfl, bq⟩; have qa := heap_of bq _ _ _ qa; have qb := heap_of bq _ _ _ qb; have qz := heap_of bq _ _ _ qz; have qr := heap_of bq _ _ _ qr; have qr2 := heap_of bq _ _ _ qr2; have qB := btr qB bq; have da0 := cell7 qa 0 (.int .u64 (x1 : Nat)) rfl; have da1 := cell7 qa 1 (.int .u64 (y1 : Nat)) rfl; have db0 := cell7 qb 0 (.int .u64 (x2 : Nat)) rfl; have db1 := cell7 qb 1 (.int .u64 (y2 : Nat)) rfl; have dz0 := cell7 qz 0 (.int .u64 0) rfl; have dz1 := cell7 qz 1 (.int .u64 0) rfl; have dr0 := cell7 qr 0 (.int .u64 (u : Nat)) rfl; have dr1 := cell7 qr 1 (.int .u64 (v : Nat)) rfl; have dr20 := cell7 qr2 0 (.int .u64 (u2 : Nat)) rfl; have dr21 := cell7 qr2 1 (.int .u64 (v2 : Nat)) rfl; have iz0 := fz (k := 0) qz; have iz1 := fz (k := 1) qz; clear bq) | (go_at_call 27; refine (KI.out _).mono ?_; rintro r wq ⟨rfl, bq⟩; have qa := heap_of bq _ _ _ qa; have qb := heap_of bq _ _ _ qb; have qz := heap_of bq _ _ _ qz; have qr := heap_of bq _ _ _ qr; have qr2 := heap_of bq _ _ _ qr2; have qB := btr qB bq; have da0 := cell7 qa 0 (.int .u64 (x1 : Nat)) rfl; have da1 := cell7 qa 1 (.int .u64 (y1 : Nat)) rfl; have db0 := cell7 qb 0 (.int .u64 (x2 : Nat)) rfl; have db1 := cell7 qb 1 (.int .u64 (y2 : Nat)) rfl; have dz0 := cell7 qz 0 (.int .u64 0) rfl; have dz1 := cell7 qz 1 (.int .u64 0) rfl; have dr0 := cell7 qr 0 (.int .u64 (u : Nat)) rfl; have dr1 := cell7 qr 1 (.int .u64 (v : Nat)) rfl; have dr20 := cell7 qr2 0 (.int .u64 (u2 : Nat)) rfl; have dr21 := cell7 qr2 1 (.int .u64 (v2 : Nat)) rfl; have iz0 := fz (k := 0) qz; have iz1 := fz (k := 1) qz; clear bq) | fail)) | fail
  all_goals
    obtain ⟨E0, E1⟩ := set2_cells qz (.int .u64 (u2 : Nat)) (.int .u64 (v2 : Nat))
    have BZ := set2_below qB (show w.heap.size ≤ w.heap.size + 1 + 1 by first | exact Nat.le_refl _ | omega | (have := S3.out; have := La_3.out; have := Lb_3.out; have := Lz_3.out; have := Z4.out; have := S4.out; have := La_4.out; have := Lb_4.out; have := Lz_4.out; have := Lr_4.out; omega)) (.int .u64 (u2 : Nat)) (.int .u64 (v2 : Nat))
    go_wp2
    exact bodyPost_ret (v := .tuple #[.agg #[.int .u64 (u2 : Nat), .int .u64 (v2 : Nat)], .int .u8 fl, .int .i64 0]) (by simp [results, Tryd.results18, go_sem, E0, E1]) rfl ⟨rfl, BZ⟩
set_option maxRecDepth 100000 in
set_option maxHeartbeats 8000000 in
theorem od_Max_f (f : Int) (x1 y1 x2 y2 : Nat) (u v u2 v2 : Nat) (fl : Int) (o : Bool) (w : World) (KM : Box (∀ (T : TypeId) (g : Nat) (w : World), w.heap.size = g → FAt w → Calls Tryd.prog 25 #[.int .u8 f, .slice (some ⟨g, 0, none⟩) 2 2] (w.alloc (.cells #[.int .u64 (x1 : Nat), .int .u64 (y1 : Nat), .int .u64 (x2 : Nat), .int .u64 (y2 : Nat)] T)) fun r w' => r = .returned (.bool true) ∧ Below w.heap.size w w')) (KO : Box (∀ w, FAt w → Calls Tryd.prog 36 #[.int .u8 f, .agg #[.int .u64 (x1 : Nat), .int .u64 (y1 : Nat)], .agg #[.int .u64 (x2 : Nat), .int .u64 (y2 : Nat)]] w fun r w' => r = .returned (.tuple #[.agg #[.int .u64 (u : Nat), .int .u64 (v : Nat)], .agg #[.int .u64 (u2 : Nat), .int .u64 (v2 : Nat)]]) ∧ Below w.heap.size w w')) (KS1 : Box (∀ w, FAt w → Calls Tryd.prog 28 #[.int .u8 f, .agg #[.int .u64 (x1 : Nat), .int .u64 (y1 : Nat)]] w fun r w' => r = .returned (.bool false) ∧ Below w.heap.size w w')) (KS2 : Box (∀ w, FAt w → Calls Tryd.prog 28 #[.int .u8 f, .agg #[.int .u64 (x2 : Nat), .int .u64 (y2 : Nat)]] w fun r w' => r = .returned (.bool o) ∧ Below w.heap.size w w')) (KI : Box (∀ w, Calls Tryd.prog 27 #[.bool o] w fun r w' => r = .returned (.int .u8 fl) ∧ Below w.heap.size w w')) (hT : FAt w) : Calls Tryd.prog 18 #[.int .u8 f, .agg #[.int .u64 (x1 : Nat), .int .u64 (y1 : Nat)], .agg #[.int .u64 (x2 : Nat), .int .u64 (y2 : Nat)]] w fun r w' => r = .returned (.tuple #[.agg #[.int .u64 (u2 : Nat), .int .u64 (v2 : Nat)], .int .u8 fl, .int .i64 0]) ∧ Below w.heap.size w w' := by
  have FF := box hT
  clear hT
  obtain ⟨Ra_0, Rb_0, Rz_0, B0⟩ := opn3 w (Obj.cells #[.int .u64 (x1 : Nat), .int .u64 (y1 : Nat)] 25) (Obj.cells #[.int .u64 (x2 : Nat), .int .u64 (y2 : Nat)] 25) (Obj.cells #[.int .u64 0, .int .u64 0] 25)
  go_enter Tryd.func18, Tryd.ntmps18
  obtain ⟨ca_0_0, ca_0_1⟩ := cells2s Ra_0
  obtain ⟨cb_0_0, cb_0_1⟩ := cells2s Rb_0
  go_wp2_with fail
  refine (KM.out _ _ (((w.alloc (Obj.cells #[.int .u64 (x1 : Nat), .int .u64 (y1 : Nat)] 25)).alloc (Obj.cells #[.int .u64 (x2 : Nat), .int .u64 (y2 : Nat)] 25)).alloc (Obj.cells #[.int .u64 0, .int .u64 0] 25)) (by first | rfl | simp only [size_al]) (fatB FF.out B0)).mono ?_
  rintro r w1 ⟨rfl, b1⟩
  have B1 : Below w.heap.size w w1 := btr B0 b1
  have Ra_1 := heap_of b1 _ _ _ Ra_0
  have Rb_1 := heap_of b1 _ _ _ Rb_0
  have Rz_1 := heap_of b1 _ _ _ Rz_0
  clear b1 B0 Ra_0 ca_0_0 ca_0_1 Rb_0 cb_0_0 cb_0_1 Rz_0
  obtain ⟨ca_1_0, ca_1_1⟩ := cells2s Ra_1
  obtain ⟨cb_1_0, cb_1_1⟩ := cells2s Rb_1
  go_wp2_with fail
  refine (KO.out _ (fatB FF.out B1)).mono ?_
  rintro r w2 ⟨rfl, b2⟩
  have B2 : Below w.heap.size w w2 := btr B1 b2
  have Ra_2 := heap_of b2 _ _ _ Ra_1
  have Rb_2 := heap_of b2 _ _ _ Rb_1
  have Rz_2 := heap_of b2 _ _ _ Rz_1
  clear b2 B1 Ra_1 ca_1_0 ca_1_1 Rb_1 cb_1_0 cb_1_1 Rz_1
  obtain ⟨ca_2_0, ca_2_1⟩ := cells2s Ra_2
  obtain ⟨cb_2_0, cb_2_1⟩ := cells2s Rb_2
  have S3 := box B2.size
  have La_3 : Box (w.heap.size < w2.heap.size) := box (Array.getElem?_eq_some_iff.1 Ra_2).1
  have Lb_3 : Box (w.heap.size + 1 < w2.heap.size) := box (Array.getElem?_eq_some_iff.1 Rb_2).1
  have Lz_3 : Box (w.heap.size + 1 + 1 < w2.heap.size) := box (Array.getElem?_eq_some_iff.1 Rz_2).1
  have Rr_3 := heap_alloc_last w2 (Obj.cells #[.int .u64 (u : Nat), .int .u64 (v : Nat)] 25)
  have B3 := btr B2 (bal w2 (Obj.cells #[.int .u64 (u : Nat), .int .u64 (v : Nat)] 25))
  have Ra_3 := heap_of (bal w2 (Obj.cells #[.int .u64 (u : Nat), .int .u64 (v : Nat)] 25)) _ _ _ Ra_2
  have Rb_3 := heap_of (bal w2 (Obj.cells #[.int .u64 (u : Nat), .int .u64 (v : Nat)] 25)) _ _ _ Rb_2
  have Rz_3 := heap_of (bal w2 (Obj.cells #[.int .u64 (u : Nat), .int .u64 (v : Nat)] 25)) _ _ _ Rz_2
  clear B2 Ra_2 ca_2_0 ca_2_1 Rb_2 cb_2_0 cb_2_1 Rz_2
  obtain ⟨ca_3_0, ca_3_1⟩ := cells2s Ra_3
  obtain ⟨cb_3_0, cb_3_1⟩ := cells2s Rb_3
  obtain ⟨cr_3_0, cr_3_1⟩ := cells2s Rr_3
  have S4 := box B3.size
  have La_4 : Box (w.heap.size < (w2.alloc (Obj.cells #[.int .u64 (u : Nat), .int .u64 (v : Nat)] 25)).heap.size) := box (Array.getElem?_eq_some_iff.1 Ra_3).1
  have Lb_4 : Box (w.heap.size + 1 < (w2.alloc (Obj.cells #[.int .u64 (u : Nat), .int .u64 (v : Nat)] 25)).heap.size) := box (Array.getElem?_eq_some_iff.1 Rb_3).1
  have Lz_4 : Box (w.heap.size + 1 + 1 < (w2.alloc (Obj.cells #[.int .u64 (u : Nat), .int .u64 (v : Nat)] 25)).heap.size) := box (Array.getElem?_eq_some_iff.1 Rz_3).1
  have Lr_4 : Box (w2.heap.size < (w2.alloc (Obj.cells #[.int .u64 (u : Nat), .int .u64 (v : Nat)] 25)).heap.size) := box (Array.getElem?_eq_some_iff.1 Rr_3).1
  have Z4 := box (size_al w2 (Obj.cells #[.int .u64 (u : Nat), .int .u64 (v : Nat)] 25))
  have Rr2_4 : ((w2.alloc (Obj.cells #[.int .u64 (u : Nat), .int .u64 (v : Nat)] 25)).alloc (Obj.cells #[.int .u64 (u2 : Nat), .int .u64 (v2 : Nat)] 25)).heap[w2.heap.size + 1]? = some (Obj.cells #[.int .u64 (u2 : Nat), .int .u64 (v2 : Nat)] 25) := by have := heap_alloc_last (w2.alloc (Obj.cells #[.int .u64 (u : Nat), .int .u64 (v : Nat)] 25)) (Obj.cells #[.int .u64 (u2 : Nat), .int .u64 (v2 : Nat)] 25); simpa only [size_al] using this
  have B4 := btr B3 (bal (w2.alloc (Obj.cells #[.int .u64 (u : Nat), .int .u64 (v : Nat)] 25)) (Obj.cells #[.int .u64 (u2 : Nat), .int .u64 (v2 : Nat)] 25))
  have Ra_4 := heap_of (bal (w2.alloc (Obj.cells #[.int .u64 (u : Nat), .int .u64 (v : Nat)] 25)) (Obj.cells #[.int .u64 (u2 : Nat), .int .u64 (v2 : Nat)] 25)) _ _ _ Ra_3
  have Rb_4 := heap_of (bal (w2.alloc (Obj.cells #[.int .u64 (u : Nat), .int .u64 (v : Nat)] 25)) (Obj.cells #[.int .u64 (u2 : Nat), .int .u64 (v2 : Nat)] 25)) _ _ _ Rb_3
  have Rz_4 := heap_of (bal (w2.alloc (Obj.cells #[.int .u64 (u : Nat), .int .u64 (v : Nat)] 25)) (Obj.cells #[.int .u64 (u2 : Nat), .int .u64 (v2 : Nat)] 25)) _ _ _ Rz_3
  have Rr_4 := heap_of (bal (w2.alloc (Obj.cells #[.int .u64 (u : Nat), .int .u64 (v : Nat)] 25)) (Obj.cells #[.int .u64 (u2 : Nat), .int .u64 (v2 : Nat)] 25)) _ _ _ Rr_3
  clear B3 Ra_3 ca_3_0 ca_3_1 Rb_3 cb_3_0 cb_3_1 Rz_3 Rr_3 cr_3_0 cr_3_1
  obtain ⟨ca_4_0, ca_4_1⟩ := cells2s Ra_4
  obtain ⟨cb_4_0, cb_4_1⟩ := cells2s Rb_4
  obtain ⟨cr_4_0, cr_4_1⟩ := cells2s Rr_4
  obtain ⟨cr2_4_0, cr2_4_1⟩ := cells2s Rr2_4
  have sS : Box (∀ W W1 : World, (Below w.heap.size w W ∧ W.heap[w.heap.size]? = some (Obj.cells #[.int .u64 (x1 : Nat), .int .u64 (y1 : Nat)] 25) ∧ W.heap[w.heap.size + 1]? = some (Obj.cells #[.int .u64 (x2 : Nat), .int .u64 (y2 : Nat)] 25) ∧ W.heap[w2.heap.size]? = some (Obj.cells #[.int .u64 (u : Nat), .int .u64 (v : Nat)] 25) ∧ W.heap[w2.heap.size + 1]? = some (Obj.cells #[.int .u64 (u2 : Nat), .int .u64 (v2 : Nat)] 25) ∧ W.cell? ⟨w.heap.size, 0, none⟩ = some (.int .u64 (x1 : Nat)) ∧ W.cell? ⟨w.heap.size, 1, none⟩ = some (.int .u64 (y1 : Nat)) ∧ W.cell? ⟨w.heap.size + 1, 0, none⟩ = some (.int .u64 (x2 : Nat)) ∧ W.cell? ⟨w.heap.size + 1, 1, none⟩ = some (.int .u64 (y2 : Nat)) ∧ W.cell? ⟨w2.heap.size, 0, none⟩ = some (.int .u64 (u : Nat)) ∧ W.cell? ⟨w2.heap.size, 1, none⟩ = some (.int .u64 (v : Nat)) ∧ W.cell? ⟨w2.heap.size + 1, 0, none⟩ = some (.int .u64 (u2 : Nat)) ∧ W.cell? ⟨w2.heap.size + 1, 1, none⟩ = some (.int .u64 (v2 : Nat))) → Below W.heap.size W W1 → (Below w.heap.size w W1 ∧ W1.heap[w.heap.size]? = some (Obj.cells #[.int .u64 (x1 : Nat), .int .u64 (y1 : Nat)] 25) ∧ W1.heap[w.heap.size + 1]? = some (Obj.cells #[.int .u64 (x2 : Nat), .int .u64 (y2 : Nat)] 25) ∧ W1.heap[w2.heap.size]? = some (Obj.cells #[.int .u64 (u : Nat), .int .u64 (v : Nat)] 25) ∧ W1.heap[w2.heap.size + 1]? = some (Obj.cells #[.int .u64 (u2 : Nat), .int .u64 (v2 : Nat)] 25) ∧ W1.cell? ⟨w.heap.size, 0, none⟩ = some (.int .u64 (x1 : Nat)) ∧ W1.cell? ⟨w.heap.size, 1, none⟩ = some (.int .u64 (y1 : Nat)) ∧ W1.cell? ⟨w.heap.size + 1, 0, none⟩ = some (.int .u64 (x2 : Nat)) ∧ W1.cell? ⟨w.heap.size + 1, 1, none⟩ = some (.int .u64 (y2 : Nat)) ∧ W1.cell? ⟨w2.heap.size, 0, none⟩ = some (.int .u64 (u : Nat)) ∧ W1.cell? ⟨w2.heap.size, 1, none⟩ = some (.int .u64 (v : Nat)) ∧ W1.cell? ⟨w2.heap.size + 1, 0, none⟩ = some (.int .u64 (u2 : Nat)) ∧ W1.cell? ⟨w2.heap.size + 1, 1, none⟩ = some (.int .u64 (v2 : Nat)))) := box (fun W W1 h b => ⟨btr h.1 b, heap_of b _ _ _ h.2.1, heap_of b _ _ _ h.2.2.1, heap_of b _ _ _ h.2.2.2.1, heap_of b _ _ _ h.2.2.2.2.1, cell7 (heap_of b _ _ _ h.2.1) 0 _ rfl, cell7 (heap_of b _ _ _ h.2.1) 1 _ rfl, cell7 (heap_of b _ _ _ h.2.2.1) 0 _ rfl, cell7 (heap_of b _ _ _ h.2.2.1) 1 _ rfl, cell7 (heap_of b _ _ _ h.2.2.2.1) 0 _ rfl, cell7 (heap_of b _ _ _ h.2.2.2.1) 1 _ rfl, cell7 (heap_of b _ _ _ h.2.2.2.2.1) 0 _ rfl, cell7 (heap_of b _ _ _ h.2.2.2.2.1) 1 _ rfl⟩)
  have sT : Box (∀ (W : World) (xA xB : Value), (Below w.heap.size w W ∧ W.heap[w.heap.size]? = some (Obj.cells #[.int .u64 (x1 : Nat), .int .u64 (y1 : Nat)] 25) ∧ W.heap[w.heap.size + 1]? = some (Obj.cells #[.int .u64 (x2 : Nat), .int .u64 (y2 : Nat)] 25) ∧ W.heap[w2.heap.size]? = some (Obj.cells #[.int .u64 (u : Nat), .int .u64 (v : Nat)] 25) ∧ W.heap[w2.heap.size + 1]? = some (Obj.cells #[.int .u64 (u2 : Nat), .int .u64 (v2 : Nat)] 25) ∧ W.cell? ⟨w.heap.size, 0, none⟩ = some (.int .u64 (x1 : Nat)) ∧ W.cell? ⟨w.heap.size, 1, none⟩ = some (.int .u64 (y1 : Nat)) ∧ W.cell? ⟨w.heap.size + 1, 0, none⟩ = some (.int .u64 (x2 : Nat)) ∧ W.cell? ⟨w.heap.size + 1, 1, none⟩ = some (.int .u64 (y2 : Nat)) ∧ W.cell? ⟨w2.heap.size, 0, none⟩ = some (.int .u64 (u : Nat)) ∧ W.cell? ⟨w2.heap.size, 1, none⟩ = some (.int .u64 (v : Nat)) ∧ W.cell? ⟨w2.heap.size + 1, 0, none⟩ = some (.int .u64 (u2 : Nat)) ∧ W.cell? ⟨w2.heap.size + 1, 1, none⟩ = some (.int .u64 (v2 : Nat))) → (Below w.heap.size w ((W.setCell ⟨w.heap.size + 1 + 1, 0, none⟩ xA).setCell ⟨w.heap.size + 1 + 1, 1, none⟩ xB) ∧ ((W.setCell ⟨w.heap.size + 1 + 1, 0, none⟩ xA).setCell ⟨w.heap.size + 1 + 1, 1, none⟩ xB).heap[w.heap.size]? = some (Obj.cells #[.int .u64 (x1 : Nat), .int .u64 (y1 : Nat)] 25) ∧ ((W.setCell ⟨w.heap.size + 1 + 1, 0, none⟩ xA).setCell ⟨w.heap.size + 1 + 1, 1, none⟩ xB).heap[w.heap.size + 1]? = some (Obj.cells #[.int .u64 (x2 : Nat), .int .u64 (y2 : Nat)] 25) ∧ ((W.setCell ⟨w.heap.size + 1 + 1, 0, none⟩ xA).setCell ⟨w.heap.size + 1 + 1, 1, none⟩ xB).heap[w2.heap.size]? = some (Obj.cells #[.int .u64 (u : Nat), .int .u64 (v : Nat)] 25) ∧ ((W.setCell ⟨w.heap.size + 1 + 1, 0, none⟩ xA).setCell ⟨w.heap.size + 1 + 1, 1, none⟩ xB).heap[w2.heap.size + 1]? = some (Obj.cells #[.int .u64 (u2 : Nat), .int .u64 (v2 : Nat)] 25) ∧ ((W.setCell ⟨w.heap.size + 1 + 1, 0, none⟩ xA).setCell ⟨w.heap.size + 1 + 1, 1, none⟩ xB).cell? ⟨w.heap.size, 0, none⟩ = some (.int .u64 (x1 : Nat)) ∧ ((W.setCell ⟨w.heap.size + 1 + 1, 0, none⟩ xA).setCell ⟨w.heap.size + 1 + 1, 1, none⟩ xB).cell? ⟨w.heap.size, 1, none⟩ = some (.int .u64 (y1 : Nat)) ∧ ((W.setCell ⟨w.heap.size + 1 + 1, 0, none⟩ xA).setCell ⟨w.heap.size + 1 + 1, 1, none⟩ xB).cell? ⟨w.heap.size + 1, 0, none⟩ = some (.int .u64 (x2 : Nat)) ∧ ((W.setCell ⟨w.heap.size + 1 + 1, 0, none⟩ xA).setCell ⟨w.heap.size + 1 + 1, 1, none⟩ xB).cell? ⟨w.heap.size + 1, 1, none⟩ = some (.int .u64 (y2 : Nat)) ∧ ((W.setCell ⟨w.heap.size + 1 + 1, 0, none⟩ xA).setCell ⟨w.heap.size + 1 + 1, 1, none⟩ xB).cell? ⟨w2.heap.size, 0, none⟩ = some (.int .u64 (u : Nat)) ∧ ((W.setCell ⟨w.heap.size + 1 + 1, 0, none⟩ xA).setCell ⟨w.heap.size + 1 + 1, 1, none⟩ xB).cell? ⟨w2.heap.size, 1, none⟩ = some (.int .u64 (v : Nat)) ∧ ((W.setCell ⟨w.heap.size + 1 + 1, 0, none⟩ xA).setCell ⟨w.heap.size + 1 + 1, 1, none⟩ xB).cell? ⟨w2.heap.size + 1, 0, none⟩ = some (.int .u64 (u2 : Nat)) ∧ ((W.setCell ⟨w.heap.size + 1 + 1, 0, none⟩ xA).setCell ⟨w.heap.size + 1 + 1, 1, none⟩ xB).cell? ⟨w2.heap.size + 1, 1, none⟩ = some (.int .u64 (v2 : Nat)))) := box (fun W xA xB h => ⟨set2_below h.1 (by first | exact Nat.le_refl _ | omega | (have := S3.out; have := La_3.out; have := Lb_3.out; have := Lz_3.out; have := Z4.out; have := S4.out; have := La_4.out; have := Lb_4.out; have := Lz_4.out; have := Lr_4.out; omega)) xA xB, ((setCell_other (by first | omega | (have := S3.out; have := La_3.out; have := Lb_3.out; have := Lz_3.out; have := Z4.out; have := S4.out; have := La_4.out; have := Lb_4.out; have := Lz_4.out; have := Lr_4.out; omega))).trans ((setCell_other (by first | omega | (have := S3.out; have := La_3.out; have := Lb_3.out; have := Lz_3.out; have := Z4.out; have := S4.out; have := La_4.out; have := Lb_4.out; have := Lz_4.out; have := Lr_4.out; omega))).trans h.2.1)), ((setCell_other (by first | omega | (have := S3.out; have := La_3.out; have := Lb_3.out; have := Lz_3.out; have := Z4.out; have := S4.out; have := La_4.out; have := Lb_4.out; have := Lz_4.out; have := Lr_4.out; omega))).trans ((setCell_other (by first | omega | (have := S3.out; have := La_3.out; have := Lb_3.out; have := Lz_3.out; have := Z4.out; have := S4.out; have := La_4.out; have := Lb_4.out; have := Lz_4.out; have := Lr_4.out; omega))).trans h.2.2.1)), ((setCell_other (by first | omega | (have := S3.out; have := La_3.out; have := Lb_3.out; have := Lz_3.out; have := Z4.out; have := S4.out; have := La_4.out; have := Lb_4.out; have := Lz_4.out; have := Lr_4.out; omega))).trans ((setCell_other (by first | omega | (have := S3.out; have := La_3.out; have := Lb_3.out; have := Lz_3.out; have := Z4.out; have := S4.out; have := La_4.out; have := Lb_4.out; have := Lz_4.out; have := Lr_4.out; omega))).trans h.2.2.2.1)), ((setCell_other (by first | omega | (have := S3.out; have := La_3.out; have := Lb_3.out; have := Lz_3.out; have := Z4.out; have := S4.out; have := La_4.out; have := Lb_4.out; have := Lz_4.out; have := Lr_4.out; omega))).trans ((setCell_other (by first | omega | (have := S3.out; have := La_3.out; have := Lb_3.out; have := Lz_3.out; have := Z4.out; have := S4.out; have := La_4.out; have := Lb_4.out; have := Lz_4.out; have := Lr_4.out; omega))).trans h.2.2.2.2.1)), cell7 (((setCell_other (by first | omega | (have := S3.out; have := La_3.out; have := Lb_3.out; have := Lz_3.out; have := Z4.out; have := S4.out; have := La_4.out; have := Lb_4.out; have := Lz_4.out; have := Lr_4.out; omega))).trans ((setCell_other (by first | omega | (have := S3.out; have := La_3.out; have := Lb_3.out; have := Lz_3.out; have := Z4.out; have := S4.out; have := La_4.out; have := Lb_4.out; have := Lz_4.out; have := Lr_4.out; omega))).trans h.2.1))) 0 _ rfl, cell7 (((setCell_other (by first | omega | (have := S3.out; have := La_3.out; have := Lb_3.out; have := Lz_3.out; have := Z4.out; have := S4.out; have := La_4.out; have := Lb_4.out; have := Lz_4.out; have := Lr_4.out; omega))).trans ((setCell_other (by first | omega | (have := S3.out; have := La_3.out; have := Lb_3.out; have := Lz_3.out; have := Z4.out; have := S4.out; have := La_4.out; have := Lb_4.out; have := Lz_4.out; have := Lr_4.out; omega))).trans h.2.1))) 1 _ rfl, cell7 (((setCell_other (by first | omega | (have := S3.out; have := La_3.out; have := Lb_3.out; have := Lz_3.out; have := Z4.out; have := S4.out; have := La_4.out; have := Lb_4.out; have := Lz_4.out; have := Lr_4.out; omega))).trans ((setCell_other (by first | omega | (have := S3.out; have := La_3.out; have := Lb_3.out; have := Lz_3.out; have := Z4.out; have := S4.out; have := La_4.out; have := Lb_4.out; have := Lz_4.out; have := Lr_4.out; omega))).trans h.2.2.1))) 0 _ rfl, cell7 (((setCell_other (by first | omega | (have := S3.out; have := La_3.out; have := Lb_3.out; have := Lz_3.out; have := Z4.out; have := S4.out; have := La_4.out; have := Lb_4.out; have := Lz_4.out; have := Lr_4.out; omega))).trans ((setCell_other (by first | omega | (have := S3.out; have := La_3.out; have := Lb_3.out; have := Lz_3.out; have := Z4.out; have := S4.out; have := La_4.out; have := Lb_4.out; have := Lz_4.out; have := Lr_4.out; omega))).trans h.2.2.1))) 1 _ rfl, cell7 (((setCell_other (by first | omega | (have := S3.out; have := La_3.out; have := Lb_3.out; have := Lz_3.out; have := Z4.out; have := S4.out; have := La_4.out; have := Lb_4.out; have := Lz_4.out; have := Lr_4.out; omega))).trans ((setCell_other (by first | omega | (have := S3.out; have := La_3.out; have := Lb_3.out; have := Lz_3.out; have := Z4.out; have := S4.out; have := La_4.out; have := Lb_4.out; have := Lz_4.out; have := Lr_4.out; omega))).trans h.2.2.2.1))) 0 _ rfl, cell7 (((setCell_other (by first | omega | (have := S3.out; have := La_3.out; have := Lb_3.out; have := Lz_3.out; have := Z4.out; have := S4.out; have := La_4.out; have := Lb_4.out; have := Lz_4.out; have := Lr_4.out; omega))).trans ((setCell_other (by first | omega | (have := S3.out; have := La_3.out; have := Lb_3.out; have := Lz_3.out; have := Z4.out; have := S4.out; have := La_4.out; have := Lb_4.out; have := Lz_4.out; have := Lr_4.out; omega))).trans h.2.2.2.1))) 1 _ rfl, cell7 (((setCell_other (by first | omega | (have := S3.out; have := La_3.out; have := Lb_3.out; have := Lz_3.out; have := Z4.out; have := S4.out; have := La_4.out; have := Lb_4.out; have := Lz_4.out; have := Lr_4.out; omega))).trans ((setCell_other (by first | omega | (have := S3.out; have := La_3.out; have := Lb_3.out; have := Lz_3.out; have := Z4.out; have := S4.out; have := La_4.out; have := Lb_4.out; have := Lz_4.out; have := Lr_4.out; omega))).trans h.2.2.2.2.1))) 0 _ rfl, cell7 (((setCell_other (by first | omega | (have := S3.out; have := La_3.out; have := Lb_3.out; have := Lz_3.out; have := Z4.out; have := S4.out; have := La_4.out; have := Lb_4.out; have := Lz_4.out; have := Lr_4.out; omega))).trans ((setCell_other (by first | omega | (have := S3.out; have := La_3.out; have := Lb_3.out; have := Lz_3.out; have := Z4.out; have := S4.out; have := La_4.out; have := Lb_4.out; have := Lz_4.out; have := Lr_4.out; omega))).trans h.2.2.2.2.1))) 1 _ rfl⟩)
  have s0 : Below w.heap.size w (((w2.alloc (Obj.cells #[.int .u64 (u : Nat), .int .u64 (v : Nat)] 25)).alloc (Obj.cells #[.int .u64 (u2 : Nat), .int .u64 (v2 : Nat)] 25))).drew ∧ (((w2.alloc (Obj.cells #[.int .u64 (u : Nat), .int .u64 (v : Nat)] 25)).alloc (Obj.cells #[.int .u64 (u2 : Nat), .int .u64 (v2 : Nat)] 25))).drew.heap[w.heap.size]? = some (Obj.cells #[.int .u64 (x1 : Nat), .int .u64 (y1 : Nat)] 25) ∧ (((w2.alloc (Obj.cells #[.int .u64 (u : Nat), .int .u64 (v : Nat)] 25)).alloc (Obj.cells #[.int .u64 (u2 : Nat), .int .u64 (v2 : Nat)] 25))).drew.heap[w.heap.size + 1]? = some (Obj.cells #[.int .u64 (x2 : Nat), .int .u64 (y2 : Nat)] 25) ∧ (((w2.alloc (Obj.cells #[.int .u64 (u : Nat), .int .u64 (v : Nat)] 25)).alloc (Obj.cells #[.int .u64 (u2 : Nat), .int .u64 (v2 : Nat)] 25))).drew.heap[w2.heap.size]? = some (Obj.cells #[.int .u64 (u : Nat), .int .u64 (v : Nat)] 25) ∧ (((w2.alloc (Obj.cells #[.int .u64 (u : Nat), .int .u64 (v : Nat)] 25)).alloc (Obj.cells #[.int .u64 (u2 : Nat), .int .u64 (v2 : Nat)] 25))).drew.heap[w2.heap.size + 1]? = some (Obj.cells #[.int .u64 (u2 : Nat), .int .u64 (v2 : Nat)] 25) ∧ (((w2.alloc (Obj.cells #[.int .u64 (u : Nat), .int .u64 (v : Nat)] 25)).alloc (Obj.cells #[.int .u64 (u2 : Nat), .int .u64 (v2 : Nat)] 25))).drew.cell? ⟨w.heap.size, 0, none⟩ = some (.int .u64 (x1 : Nat)) ∧ (((w2.alloc (Obj.cells #[.int .u64 (u : Nat), .int .u64 (v : Nat)] 25)).alloc (Obj.cells #[.int .u64 (u2 : Nat), .int .u64 (v2 : Nat)] 25))).drew.cell? ⟨w.heap.size, 1, none⟩ = some (.int .u64 (y1 : Nat)) ∧ (((w2.alloc (Obj.cells #[.int .u64 (u : Nat), .int .u64 (v : Nat)] 25)).alloc (Obj.cells #[.int .u64 (u2 : Nat), .int .u64 (v2 : Nat)] 25))).drew.cell? ⟨w.heap.size + 1, 0, none⟩ = some (.int .u64 (x2 : Nat)) ∧ (((w2.alloc (Obj.cells #[.int .u64 (u : Nat), .int .u64 (v : Nat)] 25)).alloc (Obj.cells #[.int .u64 (u2 : Nat), .int .u64 (v2 : Nat)] 25))).drew.cell? ⟨w.heap.size + 1, 1, none⟩ = some (.int .u64 (y2 : Nat)) ∧ (((w2.alloc (Obj.cells #[.int .u64 (u : Nat), .int .u64 (v : Nat)] 25)).alloc (Obj.cells #[.int .u64 (u2 : Nat), .int .u64 (v2 : Nat)] 25))).drew.cell? ⟨w2.heap.size, 0, none⟩ = some (.int .u64 (u : Nat)) ∧ (((w2.alloc (Obj.cells #[.int .u64 (u : Nat), .int .u64 (v : Nat)] 25)).alloc (Obj.cells #[.int .u64 (u2 : Nat), .int .u64 (v2 : Nat)] 25))).drew.cell? ⟨w2.heap.size, 1, none⟩ = some (.int .u64 (v : Nat)) ∧ (((w2.alloc (Obj.cells #[.int .u64 (u : Nat), .int .u64 (v : Nat)] 25)).alloc (Obj.cells #[.int .u64 (u2 : Nat), .int .u64 (v2 : Nat)] 25))).drew.cell? ⟨w2.heap.size + 1, 0, none⟩ = some (.int .u64 (u2 : Nat)) ∧ (((w2.alloc (Obj.cells #[.int .u64 (u : Nat), .int .u64 (v : Nat)] 25)).alloc (Obj.cells #[.int .u64 (u2 : Nat), .int .u64 (v2 : Nat)] 25))).drew.cell? ⟨w2.heap.size + 1, 1, none⟩ = some (.int .u64 (v2 : Nat)) := ⟨B4.drew, Ra_4, Rb_4, Rr_4, Rr2_4, cell7 (Ra_4) 0 _ rfl, cell7 (Ra_4) 1 _ rfl, cell7 (Rb_4) 0 _ rfl, cell7 (Rb_4) 1 _ rfl, cell7 (Rr_4) 0 _ rfl, cell7 (Rr_4) 1 _ rfl, cell7 (Rr2_4) 0 _ rfl, cell7 (Rr2_4) 1 _ rfl⟩
  have rz : (((w2.alloc (Obj.cells #[.int .u64 (u : Nat), .int .u64 (v : Nat)] 25)).alloc (Obj.cells #[.int .u64 (u2 : Nat), .int .u64 (v2 : Nat)] 25))).drew.heap[w.heap.size + 1 + 1]? = some (Obj.cells #[.int .u64 0, .int .u64 0] 25) := Rz_4
  have hq0 := fz (k := 0) rz
  have hq1 := fz (k := 1) rz
  have hc0 := cell7 rz 0 _ rfl
  have hc1 := cell7 rz 1 _ rfl
  go_wp2_with fail
  go_region_held3 (fun W => Below w.heap.size w W ∧ W.heap[w.heap.size]? = some (Obj.cells #[.int .u64 (x1 : Nat), .int .u64 (y1 : Nat)] 25) ∧ W.heap[w.heap.size + 1]? = some (Obj.cells #[.int .u64 (x2 : Nat), .int .u64 (y2 : Nat)] 25) ∧ W.heap[w2.heap.size]? = some (Obj.cells #[.int .u64 (u : Nat), .int .u64 (v : Nat)] 25) ∧ W.heap[w2.heap.size + 1]? = some (Obj.cells #[.int .u64 (u2 : Nat), .int .u64 (v2 : Nat)] 25) ∧ W.cell? ⟨w.heap.size, 0, none⟩ = some (.int .u64 (x1 : Nat)) ∧ W.cell? ⟨w.heap.size, 1, none⟩ = some (.int .u64 (y1 : Nat)) ∧ W.cell? ⟨w.heap.size + 1, 0, none⟩ = some (.int .u64 (x2 : Nat)) ∧ W.cell? ⟨w.heap.size + 1, 1, none⟩ = some (.int .u64 (y2 : Nat)) ∧ W.cell? ⟨w2.heap.size, 0, none⟩ = some (.int .u64 (u : Nat)) ∧ W.cell? ⟨w2.heap.size, 1, none⟩ = some (.int .u64 (v : Nat)) ∧ W.cell? ⟨w2.heap.size + 1, 0, none⟩ = some (.int .u64 (u2 : Nat)) ∧ W.cell? ⟨w2.heap.size + 1, 1, none⟩ = some (.int .u64 (v2 : Nat))) (first | exact s1 | exact s0 | exact sT.out _ _ _ s1 | exact sT.out _ _ _ s0)
    (first | (go_at_call_of 28 (Value.agg #[Value.int IntKind.u64 (x1 : Int), Value.int IntKind.u64 (y1 : Int)]); (first | refine (KS1.out _ (fatB FF.out (And.left s1))).mono ?_ | refine (KS1.out _ (fatB FF.out (And.left s0))).mono ?_); rintro r wq ⟨rfl, bq⟩; have s1 := (by first | exact sS.out _ _ s1 bq | exact sS.out _ _ s0 bq); have rz := heap_of bq _ _ _ rz; have hq0 := fz (k := 0) rz; have hc0 := cell7 rz 0 _ rfl; have hq1 := fz (k := 1) rz; have hc1 := cell7 rz 1 _ rfl; clear bq) | (go_at_call_of 28 (Value.agg #[Value.int IntKind.u64 (x2 : Int), Value.int IntKind.u64 (y2 : Int)]); (first | refine (KS2.out _ (fatB FF.out (And.left s1))).mono ?_ | refine (KS2.out _ (fatB FF.out (And.left s0))).mono ?_); rintro r wq ⟨rfl, bq⟩; have s1 := (by first | exact sS.out _ _ s1 bq | exact sS.out _ _ s0 bq); have rz := heap_of bq _ _ _ rz; have hq0 := fz (k := 0) rz; have hc0 := cell7 rz 0 _ rfl; have hq1 := fz (k := 1) rz; have hc1 := cell7 rz 1 _ rfl; clear bq) | (go_at_call 27; (first | refine (KI.out _).mono ?_ | refine (KI.out _).mono ?_); rintro r wq ⟨rfl, bq⟩; have s1 := (by first | exact sS.out _ _ s1 bq | exact sS.out _ _ s0 bq); have rz := heap_of bq _ _ _ rz; have hq0 := fz (k := 0) rz; have hc0 := cell7 rz 0 _ rfl; have hq1 := fz (k := 1) rz; have hc1 := cell7 rz 1 _ rfl; clear bq) | fail)
  obtain ⟨E0, E1⟩ := set2_cells rz (.int .u64 (u2 : Nat)) (.int .u64 (v2 : Nat))
  have BZ := (by first | exact And.left s1 | exact And.left s0 : Below w.heap.size w _)
  go_wp2
  exact bodyPost_ret (v := .tuple #[.agg #[.int .u64 (u2 : Nat), .int .u64 (v2 : Nat)], .int .u8 fl, .int .i64 0]) (by simp [results, Tryd.results18, go_sem, E0, E1]) rfl ⟨rfl, set2_below BZ (by first | exact Nat.le_refl _ | omega | (have := S3.out; have := La_3.out; have := Lb_3.out; have := Lz_3.out; have := Z4.out; have := S4.out; have := La_4.out; have := Lb_4.out; have := Lz_4.out; have := Lr_4.out; omega)) _ _⟩
end Go.Proofs.YtmndjhcmomejjaaDoor
