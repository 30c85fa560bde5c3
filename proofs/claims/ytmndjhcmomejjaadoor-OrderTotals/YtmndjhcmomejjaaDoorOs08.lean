/-
  What the functions that the statement reaches return: part 8 (P2, P3, P4, P5, Shelf).
-/
import Derived.Shelf.SlSortCmp.NoneTotal
import Derived.Shelf.SlGeneric
import Derived.Ground.SlsfProg
import Derived.Test.YtmndjhcmomejjaaDoorProg
import Derived.Test.YtmndjhcmomejjaaDoorOs07
namespace Go.Proofs.YtmndjhcmomejjaaDoor
set_option maxRecDepth 100000
set_option maxHeartbeats 40000000
set_option maxRecDepth 100000
open Go.RowKit WMath
set_option linter.unusedSimpArgs false
set_option linter.unusedVariables false
set_option maxRecDepth 100000 in
set_option maxHeartbeats 8000000 in
theorem od_isNaN (f : Int) (x1 y1 c : Nat) (o : Bool) (ho : (decide (c = 8) || decide (c = 9)) = o) (w : World) (KC : Box (∀ w, FAt w → Calls Tryd.prog 24 #[.int .u8 f, .agg #[.int .u64 (x1 : Nat), .int .u64 (y1 : Nat)]] w fun r w' => r = .returned (.tuple #[.int .u8 (c : Nat), .int .i64 0]) ∧ Below w.heap.size w w')) (hT : FAt w) : Calls Tryd.prog 47 #[.int .u8 f, .agg #[.int .u64 (x1 : Nat), .int .u64 (y1 : Nat)]] w fun r w' => r = .returned (.bool o) ∧ Below w.heap.size w w' := by
  have FF := box hT
  by_cases c0 : c = 8
  · rw [decide_eq_true c0, Bool.true_or] at ho
    subst ho
    have d0 : ((c : Int) == 8) = true := by rw [c0]; rfl
    clear c0 hT
    obtain ⟨Rb_0, B0⟩ := opn1 w (Obj.cells #[.int .u64 (x1 : Nat), .int .u64 (y1 : Nat)] 25)
    go_enter Tryd.func47, Tryd.ntmps47
    obtain ⟨cb_0_0, cb_0_1⟩ := cells2s Rb_0
    go_wp2_with fail
    refine (KC.out _ (fatB FF.out B0)).mono ?_
    rintro r w1 ⟨rfl, b1⟩
    have B1 : Below w.heap.size w w1 := btr B0 b1
    have Rb_1 := heap_of b1 _ _ _ Rb_0
    clear b1 B0 Rb_0 cb_0_0 cb_0_1
    obtain ⟨cb_1_0, cb_1_1⟩ := cells2s Rb_1
    go_wp2
    go_ret
    exact ⟨rfl, B1⟩
  · rw [decide_eq_false c0, Bool.false_or] at ho
    have d0 : ((c : Int) == 8) = false := by rw [beq_eq_false_iff_ne]; omega
    have d7 : ((c : Int) == 9) = o := by
      rw [← ho]
      by_cases c7 : c = 9
      · rw [decide_eq_true c7, c7]; rfl
      · rw [decide_eq_false c7, beq_eq_false_iff_ne]; omega
    clear ho c0 hT
    obtain ⟨Rb_0, B0⟩ := opn1 w (Obj.cells #[.int .u64 (x1 : Nat), .int .u64 (y1 : Nat)] 25)
    go_enter Tryd.func47, Tryd.ntmps47
    obtain ⟨cb_0_0, cb_0_1⟩ := cells2s Rb_0
    go_wp2_with fail
    refine (KC.out _ (fatB FF.out B0)).mono ?_
    rintro r w1 ⟨rfl, b1⟩
    have B1 : Below w.heap.size w w1 := btr B0 b1
    have Rb_1 := heap_of b1 _ _ _ Rb_0
    clear b1 B0 Rb_0 cb_0_0 cb_0_1
    obtain ⟨cb_1_0, cb_1_1⟩ := cells2s Rb_1
    go_wp2
    go_ret
    exact ⟨rfl, B1⟩
set_option maxRecDepth 100000 in
set_option maxHeartbeats 8000000 in
theorem od_isZero (f : Int) (x1 y1 c : Nat) (o : Bool) (ho : (decide (c = 3) || decide (c = 4)) = o) (w : World) (KC : Box (∀ w, FAt w → Calls Tryd.prog 24 #[.int .u8 f, .agg #[.int .u64 (x1 : Nat), .int .u64 (y1 : Nat)]] w fun r w' => r = .returned (.tuple #[.int .u8 (c : Nat), .int .i64 0]) ∧ Below w.heap.size w w')) (hT : FAt w) : Calls Tryd.prog 48 #[.int .u8 f, .agg #[.int .u64 (x1 : Nat), .int .u64 (y1 : Nat)]] w fun r w' => r = .returned (.bool o) ∧ Below w.heap.size w w' := by
  have FF := box hT
  by_cases c0 : c = 3
  · rw [decide_eq_true c0, Bool.true_or] at ho
    subst ho
    have d0 : ((c : Int) == 3) = true := by rw [c0]; rfl
    clear c0 hT
    obtain ⟨Rb_0, B0⟩ := opn1 w (Obj.cells #[.int .u64 (x1 : Nat), .int .u64 (y1 : Nat)] 25)
    go_enter Tryd.func48, Tryd.ntmps48
    obtain ⟨cb_0_0, cb_0_1⟩ := cells2s Rb_0
    go_wp2_with fail
    refine (KC.out _ (fatB FF.out B0)).mono ?_
    rintro r w1 ⟨rfl, b1⟩
    have B1 : Below w.heap.size w w1 := btr B0 b1
    have Rb_1 := heap_of b1 _ _ _ Rb_0
    clear b1 B0 Rb_0 cb_0_0 cb_0_1
    obtain ⟨cb_1_0, cb_1_1⟩ := cells2s Rb_1
    go_wp2
    go_ret
    exact ⟨rfl, B1⟩
  · rw [decide_eq_false c0, Bool.false_or] at ho
    have d0 : ((c : Int) == 3) = false := by rw [beq_eq_false_iff_ne]; omega
    have d7 : ((c : Int) == 4) = o := by
      rw [← ho]
      by_cases c7 : c = 4
      · rw [decide_eq_true c7, c7]; rfl
      · rw [decide_eq_false c7, beq_eq_false_iff_ne]; omega
    clear ho c0 hT
    obtain ⟨Rb_0, B0⟩ := opn1 w (Obj.cells #[.int .u64 (x1 : Nat), .int .u64 (y1 : Nat)] 25)
    go_enter Tryd.func48, Tryd.ntmps48
    obtain ⟨cb_0_0, cb_0_1⟩ := cells2s Rb_0
    go_wp2_with fail
    refine (KC.out _ (fatB FF.out B0)).mono ?_
    rintro r w1 ⟨rfl, b1⟩
    have B1 : Below w.heap.size w w1 := btr B0 b1
    have Rb_1 := heap_of b1 _ _ _ Rb_0
    clear b1 B0 Rb_0 cb_0_0 cb_0_1
    obtain ⟨cb_1_0, cb_1_1⟩ := cells2s Rb_1
    go_wp2
    go_ret
    exact ⟨rfl, B1⟩
theorem od_invalid (o : Bool) (v : Int) (hv : (if o then 16 else 0) = v) (w : World) : Calls Tryd.prog 27 #[.bool o] w fun r w' => r = .returned (.int .u8 v) ∧ Below w.heap.size w w' := by
  subst hv
  cases o
  · have B0 : Below w.heap.size w w := (Below.refl _ _)
    go_enter Tryd.func27, Tryd.ntmps27
    go_wp2
    go_ret
    exact ⟨rfl, B0⟩
  · have B0 : Below w.heap.size w w := (Below.refl _ _)
    go_enter Tryd.func27, Tryd.ntmps27
    go_wp2
    go_ret
    exact ⟨rfl, B0⟩
set_option maxRecDepth 100000 in
set_option maxHeartbeats 8000000 in
theorem od_rel_n1 (f : Int) (x1 y1 x2 y2 : Nat) (w : World) (KN1 : Box (∀ w, FAt w → Calls Tryd.prog 47 #[.int .u8 f, .agg #[.int .u64 (x1 : Nat), .int .u64 (y1 : Nat)]] w fun r w' => r = .returned (.bool true) ∧ Below w.heap.size w w')) (hT : FAt w) : Calls Tryd.prog 26 #[.int .u8 f, .agg #[.int .u64 (x1 : Nat), .int .u64 (y1 : Nat)], .agg #[.int .u64 (x2 : Nat), .int .u64 (y2 : Nat)]] w fun r w' => r = .returned (.int .u8 0) ∧ Below w.heap.size w w' := by
  have FF := box hT
  clear hT
  obtain ⟨Ra_0, Rb_0, B0⟩ := opn2 w (Obj.cells #[.int .u64 (x1 : Nat), .int .u64 (y1 : Nat)] 25) (Obj.cells #[.int .u64 (x2 : Nat), .int .u64 (y2 : Nat)] 25)
  go_enter Tryd.func26, Tryd.ntmps26
  obtain ⟨ca_0_0, ca_0_1⟩ := cells2s Ra_0
  obtain ⟨cb_0_0, cb_0_1⟩ := cells2s Rb_0
  go_wp2_with fail
  refine (KN1.out _ (fatB FF.out B0)).mono ?_
  rintro r w1 ⟨rfl, b1⟩
  have B1 : Below w.heap.size w w1 := btr B0 b1
  have Ra_1 := heap_of b1 _ _ _ Ra_0
  have Rb_1 := heap_of b1 _ _ _ Rb_0
  clear b1 B0 Ra_0 ca_0_0 ca_0_1 Rb_0 cb_0_0 cb_0_1
  obtain ⟨ca_1_0, ca_1_1⟩ := cells2s Ra_1
  obtain ⟨cb_1_0, cb_1_1⟩ := cells2s Rb_1
  go_wp2
  go_ret
  exact ⟨rfl, B1⟩
set_option maxRecDepth 100000 in
set_option maxHeartbeats 8000000 in
theorem od_rel_n2 (f : Int) (x1 y1 x2 y2 : Nat) (w : World) (KN1 : Box (∀ w, FAt w → Calls Tryd.prog 47 #[.int .u8 f, .agg #[.int .u64 (x1 : Nat), .int .u64 (y1 : Nat)]] w fun r w' => r = .returned (.bool false) ∧ Below w.heap.size w w')) (KN2 : Box (∀ w, FAt w → Calls Tryd.prog 47 #[.int .u8 f, .agg #[.int .u64 (x2 : Nat), .int .u64 (y2 : Nat)]] w fun r w' => r = .returned (.bool true) ∧ Below w.heap.size w w')) (hT : FAt w) : Calls Tryd.prog 26 #[.int .u8 f, .agg #[.int .u64 (x1 : Nat), .int .u64 (y1 : Nat)], .agg #[.int .u64 (x2 : Nat), .int .u64 (y2 : Nat)]] w fun r w' => r = .returned (.int .u8 0) ∧ Below w.heap.size w w' := by
  have FF := box hT
  clear hT
  obtain ⟨Ra_0, Rb_0, B0⟩ := opn2 w (Obj.cells #[.int .u64 (x1 : Nat), .int .u64 (y1 : Nat)] 25) (Obj.cells #[.int .u64 (x2 : Nat), .int .u64 (y2 : Nat)] 25)
  go_enter Tryd.func26, Tryd.ntmps26
  obtain ⟨ca_0_0, ca_0_1⟩ := cells2s Ra_0
  obtain ⟨cb_0_0, cb_0_1⟩ := cells2s Rb_0
  go_wp2_with fail
  refine (KN1.out _ (fatB FF.out B0)).mono ?_
  rintro r w1 ⟨rfl, b1⟩
  have B1 : Below w.heap.size w w1 := btr B0 b1
  have Ra_1 := heap_of b1 _ _ _ Ra_0
  have Rb_1 := heap_of b1 _ _ _ Rb_0
  clear b1 B0 Ra_0 ca_0_0 ca_0_1 Rb_0 cb_0_0 cb_0_1
  obtain ⟨ca_1_0, ca_1_1⟩ := cells2s Ra_1
  obtain ⟨cb_1_0, cb_1_1⟩ := cells2s Rb_1
  go_wp2_with fail
  refine (KN2.out _ (fatB FF.out B1)).mono ?_
  rintro r w2 ⟨rfl, b2⟩
  have B2 : Below w.heap.size w w2 := btr B1 b2
  have Ra_2 := heap_of b2 _ _ _ Ra_1
  have Rb_2 := heap_of b2 _ _ _ Rb_1
  clear b2 B1 Ra_1 ca_1_0 ca_1_1 Rb_1 cb_1_0 cb_1_1
  obtain ⟨ca_2_0, ca_2_1⟩ := cells2s Ra_2
  obtain ⟨cb_2_0, cb_2_1⟩ := cells2s Rb_2
  go_wp2
  go_ret
  exact ⟨rfl, B2⟩
set_option maxRecDepth 100000 in
set_option maxHeartbeats 8000000 in
theorem od_rel_z (f : Int) (x1 y1 x2 y2 : Nat) (w : World) (KN1 : Box (∀ w, FAt w → Calls Tryd.prog 47 #[.int .u8 f, .agg #[.int .u64 (x1 : Nat), .int .u64 (y1 : Nat)]] w fun r w' => r = .returned (.bool false) ∧ Below w.heap.size w w')) (KN2 : Box (∀ w, FAt w → Calls Tryd.prog 47 #[.int .u8 f, .agg #[.int .u64 (x2 : Nat), .int .u64 (y2 : Nat)]] w fun r w' => r = .returned (.bool false) ∧ Below w.heap.size w w')) (KZ1 : Box (∀ w, FAt w → Calls Tryd.prog 48 #[.int .u8 f, .agg #[.int .u64 (x1 : Nat), .int .u64 (y1 : Nat)]] w fun r w' => r = .returned (.bool true) ∧ Below w.heap.size w w')) (KZ2 : Box (∀ w, FAt w → Calls Tryd.prog 48 #[.int .u8 f, .agg #[.int .u64 (x2 : Nat), .int .u64 (y2 : Nat)]] w fun r w' => r = .returned (.bool true) ∧ Below w.heap.size w w')) (hT : FAt w) : Calls Tryd.prog 26 #[.int .u8 f, .agg #[.int .u64 (x1 : Nat), .int .u64 (y1 : Nat)], .agg #[.int .u64 (x2 : Nat), .int .u64 (y2 : Nat)]] w fun r w' => r = .returned (.int .u8 2) ∧ Below w.heap.size w w' := by
  have FF := box hT
  clear hT
  obtain ⟨Ra_0, Rb_0, B0⟩ := opn2 w (Obj.cells #[.int .u64 (x1 : Nat), .int .u64 (y1 : Nat)] 25) (Obj.cells #[.int .u64 (x2 : Nat), .int .u64 (y2 : Nat)] 25)
  go_enter Tryd.func26, Tryd.ntmps26
  obtain ⟨ca_0_0, ca_0_1⟩ := cells2s Ra_0
  obtain ⟨cb_0_0, cb_0_1⟩ := cells2s Rb_0
  go_wp2_with fail
  refine (KN1.out _ (fatB FF.out B0)).mono ?_
  rintro r w1 ⟨rfl, b1⟩
  have B1 : Below w.heap.size w w1 := btr B0 b1
  have Ra_1 := heap_of b1 _ _ _ Ra_0
  have Rb_1 := heap_of b1 _ _ _ Rb_0
  clear b1 B0 Ra_0 ca_0_0 ca_0_1 Rb_0 cb_0_0 cb_0_1
  obtain ⟨ca_1_0, ca_1_1⟩ := cells2s Ra_1
  obtain ⟨cb_1_0, cb_1_1⟩ := cells2s Rb_1
  go_wp2_with fail
  refine (KN2.out _ (fatB FF.out B1)).mono ?_
  rintro r w2 ⟨rfl, b2⟩
  have B2 : Below w.heap.size w w2 := btr B1 b2
  have Ra_2 := heap_of b2 _ _ _ Ra_1
  have Rb_2 := heap_of b2 _ _ _ Rb_1
  clear b2 B1 Ra_1 ca_1_0 ca_1_1 Rb_1 cb_1_0 cb_1_1
  obtain ⟨ca_2_0, ca_2_1⟩ := cells2s Ra_2
  obtain ⟨cb_2_0, cb_2_1⟩ := cells2s Rb_2
  go_wp2_with fail
  refine (KZ1.out _ (fatB FF.out B2)).mono ?_
  rintro r w3 ⟨rfl, b3⟩
  have B3 : Below w.heap.size w w3 := btr B2 b3
  have Ra_3 := heap_of b3 _ _ _ Ra_2
  have Rb_3 := heap_of b3 _ _ _ Rb_2
  clear b3 B2 Ra_2 ca_2_0 ca_2_1 Rb_2 cb_2_0 cb_2_1
  obtain ⟨ca_3_0, ca_3_1⟩ := cells2s Ra_3
  obtain ⟨cb_3_0, cb_3_1⟩ := cells2s Rb_3
  go_wp2_with fail
  refine (KZ2.out _ (fatB FF.out B3)).mono ?_
  rintro r w4 ⟨rfl, b4⟩
  have B4 : Below w.heap.size w w4 := btr B3 b4
  have Ra_4 := heap_of b4 _ _ _ Ra_3
  have Rb_4 := heap_of b4 _ _ _ Rb_3
  clear b4 B3 Ra_3 ca_3_0 ca_3_1 Rb_3 cb_3_0 cb_3_1
  obtain ⟨ca_4_0, ca_4_1⟩ := cells2s Ra_4
  obtain ⟨cb_4_0, cb_4_1⟩ := cells2s Rb_4
  go_wp2
  go_ret
  exact ⟨rfl, B4⟩
set_option maxRecDepth 100000 in
set_option maxHeartbeats 8000000 in
theorem od_rel_t1 (f : Int) (x1 y1 x2 y2 : Nat) (t rl : Int) (w : World) (KN1 : Box (∀ w, FAt w → Calls Tryd.prog 47 #[.int .u8 f, .agg #[.int .u64 (x1 : Nat), .int .u64 (y1 : Nat)]] w fun r w' => r = .returned (.bool false) ∧ Below w.heap.size w w')) (KN2 : Box (∀ w, FAt w → Calls Tryd.prog 47 #[.int .u8 f, .agg #[.int .u64 (x2 : Nat), .int .u64 (y2 : Nat)]] w fun r w' => r = .returned (.bool false) ∧ Below w.heap.size w w')) (KZ1 : Box (∀ w, FAt w → Calls Tryd.prog 48 #[.int .u8 f, .agg #[.int .u64 (x1 : Nat), .int .u64 (y1 : Nat)]] w fun r w' => r = .returned (.bool false) ∧ Below w.heap.size w w')) (KT : Box (∀ w, FAt w → Calls Tryd.prog 40 #[.int .u8 f, .agg #[.int .u64 (x1 : Nat), .int .u64 (y1 : Nat)], .agg #[.int .u64 (x2 : Nat), .int .u64 (y2 : Nat)]] w fun r w' => r = .returned (.int .i64 t) ∧ Below w.heap.size w w')) (ht : Box (wrap64 (2 + t) % 256 = rl)) (hT : FAt w) : Calls Tryd.prog 26 #[.int .u8 f, .agg #[.int .u64 (x1 : Nat), .int .u64 (y1 : Nat)], .agg #[.int .u64 (x2 : Nat), .int .u64 (y2 : Nat)]] w fun r w' => r = .returned (.int .u8 rl) ∧ Below w.heap.size w w' := by
  have e := ht.out
  subst e
  have FF := box hT
  clear hT
  obtain ⟨Ra_0, Rb_0, B0⟩ := opn2 w (Obj.cells #[.int .u64 (x1 : Nat), .int .u64 (y1 : Nat)] 25) (Obj.cells #[.int .u64 (x2 : Nat), .int .u64 (y2 : Nat)] 25)
  go_enter Tryd.func26, Tryd.ntmps26
  obtain ⟨ca_0_0, ca_0_1⟩ := cells2s Ra_0
  obtain ⟨cb_0_0, cb_0_1⟩ := cells2s Rb_0
  go_wp2_with fail
  refine (KN1.out _ (fatB FF.out B0)).mono ?_
  rintro r w1 ⟨rfl, b1⟩
  have B1 : Below w.heap.size w w1 := btr B0 b1
  have Ra_1 := heap_of b1 _ _ _ Ra_0
  have Rb_1 := heap_of b1 _ _ _ Rb_0
  clear b1 B0 Ra_0 ca_0_0 ca_0_1 Rb_0 cb_0_0 cb_0_1
  obtain ⟨ca_1_0, ca_1_1⟩ := cells2s Ra_1
  obtain ⟨cb_1_0, cb_1_1⟩ := cells2s Rb_1
  go_wp2_with fail
  refine (KN2.out _ (fatB FF.out B1)).mono ?_
  rintro r w2 ⟨rfl, b2⟩
  have B2 : Below w.heap.size w w2 := btr B1 b2
  have Ra_2 := heap_of b2 _ _ _ Ra_1
  have Rb_2 := heap_of b2 _ _ _ Rb_1
  clear b2 B1 Ra_1 ca_1_0 ca_1_1 Rb_1 cb_1_0 cb_1_1
  obtain ⟨ca_2_0, ca_2_1⟩ := cells2s Ra_2
  obtain ⟨cb_2_0, cb_2_1⟩ := cells2s Rb_2
  go_wp2_with fail
  refine (KZ1.out _ (fatB FF.out B2)).mono ?_
  rintro r w3 ⟨rfl, b3⟩
  have B3 : Below w.heap.size w w3 := btr B2 b3
  have Ra_3 := heap_of b3 _ _ _ Ra_2
  have Rb_3 := heap_of b3 _ _ _ Rb_2
  clear b3 B2 Ra_2 ca_2_0 ca_2_1 Rb_2 cb_2_0 cb_2_1
  obtain ⟨ca_3_0, ca_3_1⟩ := cells2s Ra_3
  obtain ⟨cb_3_0, cb_3_1⟩ := cells2s Rb_3
  go_wp2_with fail
  refine (KT.out _ (fatB FF.out B3)).mono ?_
  rintro r w4 ⟨rfl, b4⟩
  have B4 : Below w.heap.size w w4 := btr B3 b4
  have Ra_4 := heap_of b4 _ _ _ Ra_3
  have Rb_4 := heap_of b4 _ _ _ Rb_3
  clear b4 B3 Ra_3 ca_3_0 ca_3_1 Rb_3 cb_3_0 cb_3_1
  obtain ⟨ca_4_0, ca_4_1⟩ := cells2s Ra_4
  obtain ⟨cb_4_0, cb_4_1⟩ := cells2s Rb_4
  go_wp2
  go_ret
  exact ⟨rfl, B4⟩
set_option maxRecDepth 100000 in
set_option maxHeartbeats 8000000 in
theorem od_rel_t2 (f : Int) (x1 y1 x2 y2 : Nat) (t rl : Int) (w : World) (KN1 : Box (∀ w, FAt w → Calls Tryd.prog 47 #[.int .u8 f, .agg #[.int .u64 (x1 : Nat), .int .u64 (y1 : Nat)]] w fun r w' => r = .returned (.bool false) ∧ Below w.heap.size w w')) (KN2 : Box (∀ w, FAt w → Calls Tryd.prog 47 #[.int .u8 f, .agg #[.int .u64 (x2 : Nat), .int .u64 (y2 : Nat)]] w fun r w' => r = .returned (.bool false) ∧ Below w.heap.size w w')) (KZ1 : Box (∀ w, FAt w → Calls Tryd.prog 48 #[.int .u8 f, .agg #[.int .u64 (x1 : Nat), .int .u64 (y1 : Nat)]] w fun r w' => r = .returned (.bool true) ∧ Below w.heap.size w w')) (KZ2 : Box (∀ w, FAt w → Calls Tryd.prog 48 #[.int .u8 f, .agg #[.int .u64 (x2 : Nat), .int .u64 (y2 : Nat)]] w fun r w' => r = .returned (.bool false) ∧ Below w.heap.size w w')) (KT : Box (∀ w, FAt w → Calls Tryd.prog 40 #[.int .u8 f, .agg #[.int .u64 (x1 : Nat), .int .u64 (y1 : Nat)], .agg #[.int .u64 (x2 : Nat), .int .u64 (y2 : Nat)]] w fun r w' => r = .returned (.int .i64 t) ∧ Below w.heap.size w w')) (ht : Box (wrap64 (2 + t) % 256 = rl)) (hT : FAt w) : Calls Tryd.prog 26 #[.int .u8 f, .agg #[.int .u64 (x1 : Nat), .int .u64 (y1 : Nat)], .agg #[.int .u64 (x2 : Nat), .int .u64 (y2 : Nat)]] w fun r w' => r = .returned (.int .u8 rl) ∧ Below w.heap.size w w' := by
  have e := ht.out
  subst e
  have FF := box hT
  clear hT
  obtain ⟨Ra_0, Rb_0, B0⟩ := opn2 w (Obj.cells #[.int .u64 (x1 : Nat), .int .u64 (y1 : Nat)] 25) (Obj.cells #[.int .u64 (x2 : Nat), .int .u64 (y2 : Nat)] 25)
  go_enter Tryd.func26, Tryd.ntmps26
  obtain ⟨ca_0_0, ca_0_1⟩ := cells2s Ra_0
  obtain ⟨cb_0_0, cb_0_1⟩ := cells2s Rb_0
  go_wp2_with fail
  refine (KN1.out _ (fatB FF.out B0)).mono ?_
  rintro r w1 ⟨rfl, b1⟩
  have B1 : Below w.heap.size w w1 := btr B0 b1
  have Ra_1 := heap_of b1 _ _ _ Ra_0
  have Rb_1 := heap_of b1 _ _ _ Rb_0
  clear b1 B0 Ra_0 ca_0_0 ca_0_1 Rb_0 cb_0_0 cb_0_1
  obtain ⟨ca_1_0, ca_1_1⟩ := cells2s Ra_1
  obtain ⟨cb_1_0, cb_1_1⟩ := cells2s Rb_1
  go_wp2_with fail
  refine (KN2.out _ (fatB FF.out B1)).mono ?_
  rintro r w2 ⟨rfl, b2⟩
  have B2 : Below w.heap.size w w2 := btr B1 b2
  have Ra_2 := heap_of b2 _ _ _ Ra_1
  have Rb_2 := heap_of b2 _ _ _ Rb_1
  clear b2 B1 Ra_1 ca_1_0 ca_1_1 Rb_1 cb_1_0 cb_1_1
  obtain ⟨ca_2_0, ca_2_1⟩ := cells2s Ra_2
  obtain ⟨cb_2_0, cb_2_1⟩ := cells2s Rb_2
  go_wp2_with fail
  refine (KZ1.out _ (fatB FF.out B2)).mono ?_
  rintro r w3 ⟨rfl, b3⟩
  have B3 : Below w.heap.size w w3 := btr B2 b3
  have Ra_3 := heap_of b3 _ _ _ Ra_2
  have Rb_3 := heap_of b3 _ _ _ Rb_2
  clear b3 B2 Ra_2 ca_2_0 ca_2_1 Rb_2 cb_2_0 cb_2_1
  obtain ⟨ca_3_0, ca_3_1⟩ := cells2s Ra_3
  obtain ⟨cb_3_0, cb_3_1⟩ := cells2s Rb_3
  go_wp2_with fail
  refine (KZ2.out _ (fatB FF.out B3)).mono ?_
  rintro r w4 ⟨rfl, b4⟩
  have B4 : Below w.heap.size w w4 := btr B3 b4
  have Ra_4 := heap_of b4 _ _ _ Ra_3
  have Rb_4 := heap_of b4 _ _ _ Rb_3
  clear b4 B3 Ra_3 ca_3_0 ca_3_1 Rb_3 cb_3_0 cb_3_1
  obtain ⟨ca_4_0, ca_4_1⟩ := cells2s Ra_4
  obtain ⟨cb_4_0, cb_4_1⟩ := cells2s Rb_4
  go_wp2_with fail
  refine (KT.out _ (fatB FF.out B4)).mono ?_
  rintro r w5 ⟨rfl, b5⟩
  have B5 : Below w.heap.size w w5 := btr B4 b5
  have Ra_5 := heap_of b5 _ _ _ Ra_4
  have Rb_5 := heap_of b5 _ _ _ Rb_4
  clear b5 B4 Ra_4 ca_4_0 ca_4_1 Rb_4 cb_4_0 cb_4_1
  obtain ⟨ca_5_0, ca_5_1⟩ := cells2s Ra_5
  obtain ⟨cb_5_0, cb_5_1⟩ := cells2s Rb_5
  go_wp2
  go_ret
  exact ⟨rfl, B5⟩
set_option maxRecDepth 100000 in
set_option maxHeartbeats 8000000 in
theorem od_Compare_yes (f : Int) (x1 y1 x2 y2 : Nat) (rl : Int) (w : World) (KM : Box (∀ (T : TypeId) (g : Nat) (w : World), w.heap.size = g → FAt w → Calls Tryd.prog 25 #[.int .u8 f, .slice (some ⟨g, 0, none⟩) 2 2] (w.alloc (.cells #[.int .u64 (x1 : Nat), .int .u64 (y1 : Nat), .int .u64 (x2 : Nat), .int .u64 (y2 : Nat)] T)) fun r w' => r = .returned (.bool true) ∧ Below w.heap.size w w')) (KR : Box (∀ w, FAt w → Calls Tryd.prog 26 #[.int .u8 f, .agg #[.int .u64 (x1 : Nat), .int .u64 (y1 : Nat)], .agg #[.int .u64 (x2 : Nat), .int .u64 (y2 : Nat)]] w fun r w' => r = .returned (.int .u8 rl) ∧ Below w.heap.size w w')) (hT : FAt w) : Calls Tryd.prog 8 #[.int .u8 f, .agg #[.int .u64 (x1 : Nat), .int .u64 (y1 : Nat)], .agg #[.int .u64 (x2 : Nat), .int .u64 (y2 : Nat)]] w fun r w' => r = .returned (.tuple #[.int .u8 rl, .int .i64 0]) ∧ Below w.heap.size w w' := by
  have FF := box hT
  clear hT
  obtain ⟨Ra_0, Rb_0, B0⟩ := opn2 w (Obj.cells #[.int .u64 (x1 : Nat), .int .u64 (y1 : Nat)] 25) (Obj.cells #[.int .u64 (x2 : Nat), .int .u64 (y2 : Nat)] 25)
  go_enter Tryd.func8, Tryd.ntmps8
  obtain ⟨ca_0_0, ca_0_1⟩ := cells2s Ra_0
  obtain ⟨cb_0_0, cb_0_1⟩ := cells2s Rb_0
  go_wp2_with fail
  refine (KM.out _ _ ((w.alloc (Obj.cells #[.int .u64 (x1 : Nat), .int .u64 (y1 : Nat)] 25)).alloc (Obj.cells #[.int .u64 (x2 : Nat), .int .u64 (y2 : Nat)] 25)) (by first | rfl | simp only [size_al]) (fatB FF.out B0)).mono ?_
  rintro r w1 ⟨rfl, b1⟩
  have B1 : Below w.heap.size w w1 := btr B0 b1
  have Ra_1 := heap_of b1 _ _ _ Ra_0
  have Rb_1 := heap_of b1 _ _ _ Rb_0
  clear b1 B0 Ra_0 ca_0_0 ca_0_1 Rb_0 cb_0_0 cb_0_1
  obtain ⟨ca_1_0, ca_1_1⟩ := cells2s Ra_1
  obtain ⟨cb_1_0, cb_1_1⟩ := cells2s Rb_1
  go_wp2_with fail
  refine (KR.out _ (fatB FF.out B1)).mono ?_
  rintro r w2 ⟨rfl, b2⟩
  have B2 : Below w.heap.size w w2 := btr B1 b2
  have Ra_2 := heap_of b2 _ _ _ Ra_1
  have Rb_2 := heap_of b2 _ _ _ Rb_1
  clear b2 B1 Ra_1 ca_1_0 ca_1_1 Rb_1 cb_1_0 cb_1_1
  obtain ⟨ca_2_0, ca_2_1⟩ := cells2s Ra_2
  obtain ⟨cb_2_0, cb_2_1⟩ := cells2s Rb_2
  go_wp2
  go_ret2
  exact ⟨rfl, B2⟩
set_option maxRecDepth 100000 in
set_option maxHeartbeats 8000000 in
theorem od_Total_yes (f : Int) (x1 y1 x2 y2 : Nat) (t : Int) (w : World) (KM : Box (∀ (T : TypeId) (g : Nat) (w : World), w.heap.size = g → FAt w → Calls Tryd.prog 25 #[.int .u8 f, .slice (some ⟨g, 0, none⟩) 2 2] (w.alloc (.cells #[.int .u64 (x1 : Nat), .int .u64 (y1 : Nat), .int .u64 (x2 : Nat), .int .u64 (y2 : Nat)] T)) fun r w' => r = .returned (.bool true) ∧ Below w.heap.size w w')) (KT : Box (∀ w, FAt w → Calls Tryd.prog 40 #[.int .u8 f, .agg #[.int .u64 (x1 : Nat), .int .u64 (y1 : Nat)], .agg #[.int .u64 (x2 : Nat), .int .u64 (y2 : Nat)]] w fun r w' => r = .returned (.int .i64 t) ∧ Below w.heap.size w w')) (hT : FAt w) : Calls Tryd.prog 22 #[.int .u8 f, .agg #[.int .u64 (x1 : Nat), .int .u64 (y1 : Nat)], .agg #[.int .u64 (x2 : Nat), .int .u64 (y2 : Nat)]] w fun r w' => r = .returned (.tuple #[.int .i64 t, .int .i64 0]) ∧ Below w.heap.size w w' := by
  have FF := box hT
  clear hT
  obtain ⟨Ra_0, Rb_0, B0⟩ := opn2 w (Obj.cells #[.int .u64 (x1 : Nat), .int .u64 (y1 : Nat)] 25) (Obj.cells #[.int .u64 (x2 : Nat), .int .u64 (y2 : Nat)] 25)
  go_enter Tryd.func22, Tryd.ntmps22
  obtain ⟨ca_0_0, ca_0_1⟩ := cells2s Ra_0
  obtain ⟨cb_0_0, cb_0_1⟩ := cells2s Rb_0
  go_wp2_with fail
  refine (KM.out _ _ ((w.alloc (Obj.cells #[.int .u64 (x1 : Nat), .int .u64 (y1 : Nat)] 25)).alloc (Obj.cells #[.int .u64 (x2 : Nat), .int .u64 (y2 : Nat)] 25)) (by first | rfl | simp only [size_al]) (fatB FF.out B0)).mono ?_
  rintro r w1 ⟨rfl, b1⟩
  have B1 : Below w.heap.size w w1 := btr B0 b1
  have Ra_1 := heap_of b1 _ _ _ Ra_0
  have Rb_1 := heap_of b1 _ _ _ Rb_0
  clear b1 B0 Ra_0 ca_0_0 ca_0_1 Rb_0 cb_0_0 cb_0_1
  obtain ⟨ca_1_0, ca_1_1⟩ := cells2s Ra_1
  obtain ⟨cb_1_0, cb_1_1⟩ := cells2s Rb_1
  go_wp2_with fail
  refine (KT.out _ (fatB FF.out B1)).mono ?_
  rintro r w2 ⟨rfl, b2⟩
  have B2 : Below w.heap.size w w2 := btr B1 b2
  have Ra_2 := heap_of b2 _ _ _ Ra_1
  have Rb_2 := heap_of b2 _ _ _ Rb_1
  clear b2 B1 Ra_1 ca_1_0 ca_1_1 Rb_1 cb_1_0 cb_1_1
  obtain ⟨ca_2_0, ca_2_1⟩ := cells2s Ra_2
  obtain ⟨cb_2_0, cb_2_1⟩ := cells2s Rb_2
  go_wp2
  go_ret2
  exact ⟨rfl, B2⟩
set_option maxRecDepth 100000 in
set_option maxHeartbeats 8000000 in
theorem od_Lt_yes (f : Int) (x1 y1 x2 y2 : Nat) (rl fl : Int) (eq o : Bool) (h1 : (rl == 1) = eq) (h0 : (rl == 0) = o) (w : World) (KM : Box (∀ (T : TypeId) (g : Nat) (w : World), w.heap.size = g → FAt w → Calls Tryd.prog 25 #[.int .u8 f, .slice (some ⟨g, 0, none⟩) 2 2] (w.alloc (.cells #[.int .u64 (x1 : Nat), .int .u64 (y1 : Nat), .int .u64 (x2 : Nat), .int .u64 (y2 : Nat)] T)) fun r w' => r = .returned (.bool true) ∧ Below w.heap.size w w')) (KR : Box (∀ w, FAt w → Calls Tryd.prog 26 #[.int .u8 f, .agg #[.int .u64 (x1 : Nat), .int .u64 (y1 : Nat)], .agg #[.int .u64 (x2 : Nat), .int .u64 (y2 : Nat)]] w fun r w' => r = .returned (.int .u8 rl) ∧ Below w.heap.size w w')) (KI : Box (∀ w, Calls Tryd.prog 27 #[.bool o] w fun r w' => r = .returned (.int .u8 fl) ∧ Below w.heap.size w w')) (hT : FAt w) : Calls Tryd.prog 10 #[.int .u8 f, .agg #[.int .u64 (x1 : Nat), .int .u64 (y1 : Nat)], .agg #[.int .u64 (x2 : Nat), .int .u64 (y2 : Nat)]] w fun r w' => r = .returned (.tuple #[.bool eq, .int .u8 fl, .int .i64 0]) ∧ Below w.heap.size w w' := by
  have FF := box hT
  clear hT
  obtain ⟨Ra_0, Rb_0, B0⟩ := opn2 w (Obj.cells #[.int .u64 (x1 : Nat), .int .u64 (y1 : Nat)] 25) (Obj.cells #[.int .u64 (x2 : Nat), .int .u64 (y2 : Nat)] 25)
  go_enter Tryd.func10, Tryd.ntmps10
  obtain ⟨ca_0_0, ca_0_1⟩ := cells2s Ra_0
  obtain ⟨cb_0_0, cb_0_1⟩ := cells2s Rb_0
  go_wp2_with fail
  refine (KM.out _ _ ((w.alloc (Obj.cells #[.int .u64 (x1 : Nat), .int .u64 (y1 : Nat)] 25)).alloc (Obj.cells #[.int .u64 (x2 : Nat), .int .u64 (y2 : Nat)] 25)) (by first | rfl | simp only [size_al]) (fatB FF.out B0)).mono ?_
  rintro r w1 ⟨rfl, b1⟩
  have B1 : Below w.heap.size w w1 := btr B0 b1
  have Ra_1 := heap_of b1 _ _ _ Ra_0
  have Rb_1 := heap_of b1 _ _ _ Rb_0
  clear b1 B0 Ra_0 ca_0_0 ca_0_1 Rb_0 cb_0_0 cb_0_1
  obtain ⟨ca_1_0, ca_1_1⟩ := cells2s Ra_1
  obtain ⟨cb_1_0, cb_1_1⟩ := cells2s Rb_1
  go_wp2_with fail
  refine (KR.out _ (fatB FF.out B1)).mono ?_
  rintro r w2 ⟨rfl, b2⟩
  have B2 : Below w.heap.size w w2 := btr B1 b2
  have Ra_2 := heap_of b2 _ _ _ Ra_1
  have Rb_2 := heap_of b2 _ _ _ Rb_1
  clear b2 B1 Ra_1 ca_1_0 ca_1_1 Rb_1 cb_1_0 cb_1_1
  obtain ⟨ca_2_0, ca_2_1⟩ := cells2s Ra_2
  obtain ⟨cb_2_0, cb_2_1⟩ := cells2s Rb_2
  go_wp2_with fail
  refine (KI.out _).mono ?_
  rintro r w3 ⟨rfl, b3⟩
  have B3 : Below w.heap.size w w3 := btr B2 b3
  have Ra_3 := heap_of b3 _ _ _ Ra_2
  have Rb_3 := heap_of b3 _ _ _ Rb_2
  clear b3 B2 Ra_2 ca_2_0 ca_2_1 Rb_2 cb_2_0 cb_2_1
  obtain ⟨ca_3_0, ca_3_1⟩ := cells2s Ra_3
  obtain ⟨cb_3_0, cb_3_1⟩ := cells2s Rb_3
  go_wp2
  go_ret3
  exact ⟨rfl, B3⟩
theorem om_list (f : Int) (h0 : 0 ≤ f) (h1 : f ≤ 255) (l : List (Nat × Nat)) (L g z c : Nat) (w : World) (hl : l.length = L) (hL : L ≤ 1000) (hb : Box (∀ p ∈ l, p.1 < 18446744073709551616 ∧ p.2 < 18446744073709551616)) (HC : Box (∀ W, Below w.heap.size w W → ∀ k p, l[k]? = some p → W.cell? ⟨g, z + k * 2, none⟩ = some (.int .u64 (p.1 : Nat)) ∧ W.cell? ⟨g, z + k * 2 + 1, none⟩ = some (.int .u64 (p.2 : Nat))))
    (q : Bool) (e : Int) (he : (e == 0) = q) (KC : Box (∀ w : World, Calls Tryd.prog 46 #[.int .u8 f] w fun r w' => r = .returned (.int .i64 e) ∧ w' = w)) (o : Bool) (ho : (l.all (okP f) && q) = o) (hT : FAt w) : Calls Tryd.prog 25 #[.int .u8 f, .slice (some ⟨g, z, none⟩) L c] w fun r w' => r = .returned (.bool o) ∧ Below w.heap.size w w' := by
  have FF := box hT
  have HO := box ho
  have HL := box hl
  have H0 := box h0
  have H1 := box h1
  clear ho hl hT h0 h1
  go_enter Tryd.func25, Tryd.ntmps25
  go_wp2
  go_loopw [9] (fun iv wr => ∃ k : Nat, k ≤ L ∧ iv = .int .i64 k ∧ Below w.heap.size w wr ∧ Box (∀ j p, j < k → l[j]? = some p → okP f p = true)) (fun iv _ => L - (intOf iv).toNat)
  case atStart => exact ⟨0, by omega, rfl, Below.refl _ _, box (fun j s hj => absurd hj (by omega))⟩
  case round =>
    obtain ⟨k, hk, rfl, bw, HA⟩ := hrel
    by_cases hlt : k < L
    · obtain ⟨p, hs⟩ : ∃ p, l[k]? = some p := ⟨_, List.getElem?_eq_getElem (by rw [HL.out]; exact hlt)⟩
      obtain ⟨c1, c2⟩ := HC.out _ bw k p hs
      have dl : decide ((k : Int) < (L : Int)) = true := decide_eq_true (by omega)
      have HS := box hs
      obtain ⟨o1, hm⟩ : ∃ o1, okP f p = o1 := ⟨_, rfl⟩
      have HM := box hm
      have hp := hb.out p (List.mem_of_getElem? hs)
      have KF : Box (∀ w, FAt w → Calls Tryd.prog 44 #[.int .u8 f, .agg #[.int .u64 (p.1 : Nat), .int .u64 (p.2 : Nat)]] w fun r w' => r = .returned (.bool o1) ∧ Below w.heap.size w w') := box (fun w hT => sk_fits f p.1 p.2 _ o1 H0.out H1.out hp.1 hp.2 rfl hm w hT)
      have FA : Box (FAt (wr.alloc (.cells #[.int .u64 (p.1 : Nat), .int .u64 (p.2 : Nat)] 25))) := box (fatB FF.out (btr bw (bal _ _)))
      have BA := btr bw (bal wr (.cells #[.int .u64 (p.1 : Nat), .int .u64 (p.2 : Nat)] 25))
      clear hs hm hp
      cases o1
      · have e : o = false := by
          rw [← HO.out, Bool.eq_false_iff]
          intro h
          rw [Bool.and_eq_true, List.all_eq_true] at h
          have := h.1 p (List.mem_of_getElem? HS.out)
          rw [HM.out] at this
          exact absurd this (by decide)
        subst e
        go_wp2_with fail
        refine (KF.out _ FA.out).mono ?_
        rintro r w2 ⟨rfl, b2⟩
        go_wp2
        go_ret
        exact ⟨rfl, btr BA b2⟩
      · have NA : Box (∀ j p, j < k + 1 → l[j]? = some p → okP f p = true) := box (fun j p2 hj h2 => by
          by_cases e : j = k
          · subst e
            rw [HS.out] at h2
            cases h2
            exact HM.out
          · exact HA.out j p2 (by omega) h2)
        go_wp2_with fail
        refine (KF.out _ FA.out).mono ?_
        rintro r w2 ⟨rfl, b2⟩
        go_wp2
        go_roundw
        case rel => exact ⟨k + 1, by omega, by go_num, btr BA b2, NA⟩
        case measure => simp [intOf] <;> omega
    · obtain rfl : k = L := by omega
      have e : o = q := by
        rw [← HO.out, show l.all (okP f) = true from List.all_eq_true.2 (fun s hs => by
          obtain ⟨j, hj⟩ := List.mem_iff_getElem?.1 hs
          have := (List.getElem?_eq_some_iff.1 hj).1
          exact HA.out j s (by rw [← HL.out]; exact this) hj), Bool.true_and]
      subst e
      have dl : decide ((k : Int) < (k : Int)) = false := by rw [decide_eq_false_iff_not]; omega
      go_wp2_with fail
      refine (KC.out _).mono ?_
      rintro r w2 ⟨rfl, rfl⟩
      go_wp2
      go_ret
      exact ⟨rfl, bw⟩
theorem f4_check (f : Int) (h0 : 0 ≤ f) (h1 : f ≤ 255) : ∃ (q : Bool) (e : Int), (e == 0) = q ∧ q = decide (f ≤ 3) ∧ Box (∀ w : World, Calls Tryd.prog 46 #[.int .u8 f] w fun r w' => r = .returned (.int .i64 e) ∧ w' = w) := by
  refine ⟨_, fC f, rfl, ?_, box (fun w => s_check_is f _ h0 h1 rfl w)⟩
  unfold fC
  by_cases c : f ≤ 3
  · rw [decide_eq_true c, if_pos (by omega)]; rfl
  · rw [decide_eq_false c, if_neg (by omega)]; rfl
theorem om_none (f : Int) (h0 : 0 ≤ f) (h1 : f ≤ 255) (c : Nat) (pz : Option Addr) (o : Bool) (ho : decide (f ≤ 3) = o) (w : World) : Calls Tryd.prog 25 #[.int .u8 f, .slice pz 0 c] w fun r w' => r = .returned (.bool o) ∧ Below w.heap.size w w' := by
  obtain ⟨q, e, he, hq, KC⟩ := f4_check f h0 h1
  rw [← hq] at ho
  subst ho
  clear hq
  go_enter Tryd.func25, Tryd.ntmps25
  go_wp2
  refine wp_loop_rounds 1 ?_
  rw [rounds_succ]
  go_wp2_with fail
  refine (KC.out _).mono ?_
  rintro r w2 ⟨rfl, rfl⟩
  go_wp2
  go_ret
  exact ⟨rfl, Below.refl _ _⟩
theorem km2 (f : Int) (h0 : 0 ≤ f) (h1 : f ≤ 255) (x1 y1 a x2 y2 b : Nat) (hx1 : x1 < 18446744073709551616) (hy1 : y1 < 18446744073709551616) (ha : y1 + 18446744073709551616 * x1 = a) (hx2 : x2 < 18446744073709551616) (hy2 : y2 < 18446744073709551616) (hb : y2 + 18446744073709551616 * x2 = b) (o : Bool) (ho : (okB f a && okB f b) = o) :
    Box (∀ (T : TypeId) (g : Nat) (w : World), w.heap.size = g → FAt w → Calls Tryd.prog 25 #[.int .u8 f, .slice (some ⟨g, 0, none⟩) 2 2] (w.alloc (.cells #[.int .u64 (x1 : Nat), .int .u64 (y1 : Nat), .int .u64 (x2 : Nat), .int .u64 (y2 : Nat)] T)) fun r w' => r = .returned (.bool o) ∧ Below w.heap.size w w') := by
  refine box (fun T g w hg hT => ?_)
  have B := (bal w (.cells #[.int .u64 (x1 : Nat), .int .u64 (y1 : Nat), .int .u64 (x2 : Nat), .int .u64 (y2 : Nat)] T))
  have row := two_row x1 y1 x2 y2 T g w hg
  have hT2 := fatB hT B
  obtain ⟨q, e, he, hq, KC⟩ := f4_check f h0 h1
  have hq2 : (okB f a && okB f b && q) = o := by
    rw [← ho, hq]
    by_cases c : f ≤ 3
    · rw [decide_eq_true c, Bool.and_true]
    · have : okB f a = false := decide_eq_false (fun k => c k.1)
      rw [this]; rfl
  refine (om_list f h0 h1 [(x1, y1), (x2, y2)] 2 g 0 2 _ rfl (by decide) (two_lim hx1 hy1 hx2 hy2) (box (fun W b k p hk => ?_)) q e he KC o ?_ hT2).mono fun _ _ ⟨q1, q2⟩ => ⟨q1, btr B q2⟩
  · have := bls_cell (heap_of b _ _ _ row) k p hk
    rw [Nat.zero_add]
    exact this
  · show (okP f (x1, y1) && (okP f (x2, y2) && true) && q) = _
    unfold okP
    rw [ha, hb, Bool.and_true]
    exact hq2
end Go.Proofs.YtmndjhcmomejjaaDoor
namespace Go.Proofs.YtmndjhcmomejjaaDoor
set_option maxRecDepth 100000
set_option maxHeartbeats 40000000
set_option maxRecDepth 100000
open Go.RowKit WMath XMath
set_option linter.unusedSimpArgs false
set_option linter.unusedVariables false
theorem xor_ones : ∀ (k a : Nat), a < 2 ^ k → a ^^^ (2 ^ k - 1) = 2 ^ k - 1 - a
  | 0, a, h => by
    have : a = 0 := by rw [Nat.pow_zero] at h; omega
    subst this
    rfl
  | k + 1, a, h => by
    have p := Nat.two_pow_pos k
    rw [Nat.pow_succ] at h
    have ih := xor_ones k (a / 2) (by omega)
    have e : 2 ^ (k + 1) - 1 = 2 * (2 ^ k - 1) + 1 := by rw [Nat.pow_succ]; omega
    have h1 : (a ^^^ (2 ^ (k + 1) - 1)) / 2 = 2 ^ k - 1 - a / 2 := by
      rw [Nat.xor_div_two, show (2 ^ (k + 1) - 1) / 2 = 2 ^ k - 1 by rw [e]; omega, ih]
    have h2 : (a ^^^ (2 ^ (k + 1) - 1)) % 2 = (a + 1) % 2 := by rw [xor_two, e]; omega
    rw [e] at h1 h2 ⊢
    omega
def rkN (f : Int) (n : Nat) : Nat := if kN f n then n ^^^ (2 * 2 ^ wV f - 1) else n ^^^ 2 ^ wV f
theorem rkN_val {f : Int} {n : Nat} (fit : Fit f n) : (kN f n = true → rkN f n = 2 * 2 ^ wV f - 1 - n) ∧ (kN f n = false → rkN f n = n + 2 ^ wV f) := by
  obtain ⟨p1, p2⟩ := kN_pos0 fit
  unfold rkN
  refine ⟨fun h => ?_, fun h => ?_⟩
  · rw [if_pos h, show 2 * 2 ^ wV f = 2 ^ (wV f + 1) by rw [Nat.pow_succ, Nat.mul_comm]]
    exact xor_ones _ _ (by unfold Fit at fit; rw [Nat.pow_succ, Nat.mul_comm]; exact fit)
  · rw [if_neg (by rw [h]; decide), xor_bit, Nat.div_eq_of_lt (p2 h), if_neg (by decide)]
theorem rkN_tk {f : Int} {a b : Nat} (fa : Fit f a) (fb : Fit f b) : ((rkN f a < rkN f b) ↔ (tk f a < tk f b)) := by
  obtain ⟨a1, a2⟩ := kN_pos0 fa
  obtain ⟨b1, b2⟩ := kN_pos0 fb
  obtain ⟨c1, c2⟩ := rkN_val fa
  obtain ⟨d1, d2⟩ := rkN_val fb
  unfold Fit at fa fb
  unfold tk
  cases h : kN f a <;> cases k : kN f b
  · rw [c2 h, d2 k]; have := a2 h; have := b2 k; simp only [Bool.false_eq_true, if_false]; omega
  · rw [c2 h, d1 k]; have := a2 h; have := b1 k; simp only [Bool.false_eq_true, if_false, if_true]; omega
  · rw [c1 h, d2 k]; have := a1 h; have := b2 k; simp only [Bool.false_eq_true, if_false, if_true]; omega
  · rw [c1 h, d1 k]; have := a1 h; have := b1 k; simp only [if_true]; omega
theorem cmp_two {f : Int} {a b : Nat} (fa : Fit f a) (fb : Fit f b) {u1 v1 u2 v2 : Nat} (h1 : bv7 (rkN f a) = (u1, v1)) (h2 : bv7 (rkN f b) = (u2, v2)) : (if cmpi (u1 : Int) (u2 : Int) = 0 then cmpi (v1 : Int) (v2 : Int) else cmpi (u1 : Int) (u2 : Int)) = totR f a b := by
  have k1 := rkN_tk fa fb
  have k2 := rkN_tk fb fa
  unfold bv7 at h1 h2
  obtain ⟨rfl, rfl⟩ := Prod.mk.inj h1
  obtain ⟨rfl, rfl⟩ := Prod.mk.inj h2
  generalize rkN f a = x at *
  generalize rkN f b = y at *
  unfold totR sgI cmpi
  have m1 := Nat.div_add_mod x 18446744073709551616
  have m2 := Nat.div_add_mod y 18446744073709551616
  have l1 := Nat.mod_lt x (show 0 < 18446744073709551616 by decide)
  have l2 := Nat.mod_lt y (show 0 < 18446744073709551616 by decide)
  generalize x / 18446744073709551616 = p at *
  generalize x % 18446744073709551616 = q at *
  generalize y / 18446744073709551616 = r at *
  generalize y % 18446744073709551616 = s at *
  rcases Nat.lt_trichotomy p r with h | h | h
  · have : x < y := by omega
    have := k1.1 this
    rw [if_pos (show (p : Int) < (r : Int) by omega), if_neg (by decide), if_pos (by omega)]
  · subst h
    rw [if_neg (show ¬ (p : Int) < (p : Int) by omega), if_neg (show ¬ (p : Int) < (p : Int) by omega), if_pos rfl]
    rcases Nat.lt_trichotomy q s with h | h | h
    · have : x < y := by omega
      have := k1.1 this
      rw [if_pos (show (q : Int) < (s : Int) by omega), if_pos (by omega)]
    · subst h
      have n1 : ¬ x < y := by omega
      have n2 : ¬ y < x := by omega
      rw [k1] at n1
      rw [k2] at n2
      rw [if_neg (by omega), if_neg (by omega), if_neg (by omega), if_neg (by omega)]
    · have : y < x := by omega
      have := k2.1 this
      rw [if_neg (show ¬ (q : Int) < (s : Int) by omega), if_pos (show (s : Int) < (q : Int) by omega), if_neg (by omega), if_pos (by omega)]
  · have : y < x := by omega
    have := k2.1 this
    rw [if_neg (show ¬ (p : Int) < (r : Int) by omega), if_pos (show (r : Int) < (p : Int) by omega), if_neg (by decide), if_neg (by omega), if_pos (by omega)]
theorem rk_words {f : Int} (hf : Is4 f) {x y n : Nat} (hx : x < 18446744073709551616) (hy : y < 18446744073709551616) (hn : y + 18446744073709551616 * x = n) {u v z1 z2 m : Nat} (hm : bv7 m = (z1, z2)) (hl : m < 340282366920938463463374607431768211456) (hv : bv7 (n ^^^ m) = (u, v)) : bits .xor .u64 (x : Int) (z1 : Int) = (u : Int) ∧ bits .xor .u64 (y : Int) (z2 : Int) = (v : Int) := by
  rw [xor_words] at hv
  have e1 : n / 18446744073709551616 = x := by omega
  have e2 : n % 18446744073709551616 = y := by omega
  unfold bv7 at hm
  obtain ⟨rfl, rfl⟩ := Prod.mk.inj hm
  rw [e1, e2] at hv
  obtain ⟨rfl, rfl⟩ := Prod.mk.inj hv
  exact ⟨bits_xor_u64_nat _ _ hx (by omega), bits_xor_u64_nat _ _ hy (Nat.mod_lt _ (by decide))⟩
theorem wV_lim {f : Int} (hf : Is4 f) : eZero f true = 2 ^ wV f ∧ 2 ^ wV f < 340282366920938463463374607431768211456 ∧ 2 * 2 ^ wV f - 1 < 340282366920938463463374607431768211456 := by
  rcases hf with rfl | rfl | rfl | rfl <;> decide +kernel
theorem kC_kM (f : Int) (n : Nat) : (kC f n = 3 ∨ kC f n = 4) ↔ kM f n = 0 := by
  have p := Nat.two_pow_pos (pV f)
  have o : 0 < oV f := by unfold oV; omega
  have big : ∀ e, e ≠ 0 → e * 2 ^ pV f + kT f n ≠ 0 := fun e he => by
    have := Nat.mul_pos (Nat.pos_of_ne_zero he) p
    omega
  unfold kM
  rcases kC_all f n with ⟨h1, h2, h3⟩ | ⟨h1, h2, h3, h4⟩ | ⟨h1, h2, h3⟩ | ⟨h1, h2, h3⟩ | ⟨h1, h2, h3, h4⟩ | ⟨h1, h2, h3, h4⟩
  · have := big (kE f n) (by omega)
    rw [h3]
    split <;> omega
  · have := big (kE f n) (by omega)
    omega
  · have := big (kE f n) (by omega)
    omega
  · have := big (kE f n) h2
    rw [h3]
    split <;> omega
  · rw [h4]
    split <;> omega
  · rw [h4, h2, h3, Nat.zero_mul]
    split <;> omega
theorem rel_tot {f : Int} (hf : Is4 f) {a b : Nat} (fa : Fit f a) (fb : Fit f b) (na : kC f a < 8) (nb : kC f b < 8) : ((kC f a = 3 ∨ kC f a = 4) ∧ (kC f b = 3 ∨ kC f b = 4) → relR f a b = 2) ∧ (¬ ((kC f a = 3 ∨ kC f a = 4) ∧ (kC f b = 3 ∨ kC f b = 4)) → wrap64 (2 + totR f a b) % 256 = (relR f a b : Int)) := by
  have ea := kM_n hf fa
  have eb := kM_n hf fb
  have za := kC_kM f a
  have zb := kC_kM f b
  have pa := kN_pos0 fa
  have pb := kN_pos0 fb
  have p := Nat.two_pow_pos (wV f)
  unfold relR
  rw [if_neg (by omega)]
  refine ⟨fun h => ?_, fun h => ?_⟩
  · have m1 := za.1 h.1
    have m2 := zb.1 h.2
    have k1 : kv f a = 0 := by unfold kv; rw [m1]; split <;> rfl
    have k2 : kv f b = 0 := by unfold kv; rw [m2]; split <;> rfl
    rw [k1, k2, if_neg (by omega), if_pos rfl]
  · have hz : ¬ (kM f a = 0 ∧ kM f b = 0) := fun c => h ⟨za.2 c.1, zb.2 c.2⟩
    have key : (kv f a < kv f b ↔ tk f a < tk f b) ∧ (kv f a = kv f b ↔ tk f a = tk f b) := by
      unfold kv tk
      cases s1 : kN f a <;> cases s2 : kN f b <;> rw [s1] at ea <;> rw [s2] at eb <;> simp only [Bool.false_eq_true, if_false, if_true] at ea eb ⊢
      · omega
      · have := pb.1 s2
        omega
      · have := pa.1 s1
        omega
      · omega
    unfold totR sgI
    rcases Int.lt_trichotomy (tk f a) (tk f b) with c | c | c
    · rw [if_pos (key.1.2 c), if_pos (by omega)]; decide +kernel
    · rw [if_neg (fun q => absurd (key.1.1 q) (by omega)), if_pos (key.2.2 c), if_neg (by omega), if_neg (by omega)]; decide +kernel
    · rw [if_neg (fun q => absurd (key.1.1 q) (by omega)), if_neg (fun q => absurd (key.2.1 q) (by omega)), if_neg (by omega), if_pos (by omega)]; decide +kernel
theorem krank_is (f : Int) (hf : Is4 f) (x1 y1 a : Nat) (hx1 : x1 < 18446744073709551616) (hy1 : y1 < 18446744073709551616) (ha : y1 + 18446744073709551616 * x1 = a) (oa : okB f a = true) (u v : Nat) (hv : bv7 (rkN f a) = (u, v)) (w : World) (hT : FAt w) : Calls Tryd.prog 67 #[.int .u8 f, .agg #[.int .u64 (x1 : Nat), .int .u64 (y1 : Nat)]] w fun r w' => r = .returned (.agg #[.int .u64 (u : Nat), .int .u64 (v : Nat)]) ∧ Bed w.heap.size w w' := by
  obtain ⟨e0, l0, l1⟩ := wV_lim hf
  obtain ⟨z1, z2, hz⟩ : ∃ p q, bv7 (eZero f true) = (p, q) := ⟨_, _, rfl⟩
  have KZ : Box (∀ w, FAt w → Calls Tryd.prog 109 #[.int .u8 f, .bool true] w fun r w' => r = .returned (.agg #[.int .u64 (z1 : Nat), .int .u64 (z2 : Nat)]) ∧ Bed w.heap.size w w') := box (fun w hT => by have := s_zerod f true hf _ rfl w hT; rw [hz] at this; exact this)
  have KS : Box (∀ w, FAt w → Calls Tryd.prog 110 #[.int .u8 f, .agg #[.int .u64 (x1 : Nat), .int .u64 (y1 : Nat)]] w fun r w' => r = .returned (.bool (kN f a)) ∧ Bed w.heap.size w w') := box (fun w hT => kSign_yesd f hf x1 y1 a _ hx1 hy1 ha oa rfl w hT)
  unfold rkN at hv
  cases h : kN f a
  · rw [h] at hv KS
    rw [if_neg (by decide)] at hv
    obtain ⟨h1, h2⟩ := rk_words hf hx1 hy1 ha (e0 ▸ hz) l0 hv
    exact od_rank_pos f x1 y1 z1 z2 u v h1 h2 w KZ KS hT
  · rw [h] at hv KS
    rw [if_pos rfl] at hv
    obtain ⟨o1, o2, ho⟩ : ∃ p q, bv7 (2 * 2 ^ wV f - 1) = (p, q) := ⟨_, _, rfl⟩
    obtain ⟨h1, h2⟩ := rk_words hf hx1 hy1 ha ho l1 hv
    exact od_rank_neg f x1 y1 z1 z2 o1 o2 u v h1 h2 w KZ KS (box (fun w hT => od_ones f hf o1 o2 ho w hT)) hT
theorem ktotal_d (f : Int) (hf : Is4 f) (x1 y1 a x2 y2 b : Nat) (hx1 : x1 < 18446744073709551616) (hy1 : y1 < 18446744073709551616) (ha : y1 + 18446744073709551616 * x1 = a) (hx2 : x2 < 18446744073709551616) (hy2 : y2 < 18446744073709551616) (hb : y2 + 18446744073709551616 * x2 = b) (oa : okB f a = true) (ob : okB f b = true) (t : Int) (ht : totR f a b = t) (w : World) (hT : FAt w) : Calls Tryd.prog 40 #[.int .u8 f, .agg #[.int .u64 (x1 : Nat), .int .u64 (y1 : Nat)], .agg #[.int .u64 (x2 : Nat), .int .u64 (y2 : Nat)]] w fun r w' => r = .returned (.int .i64 t) ∧ Bed w.heap.size w w' := by
  have fa := (okB_yes (is4_ok hf).1 oa).2
  have fb := (okB_yes (is4_ok hf).1 ob).2
  obtain ⟨u1, v1, h1⟩ : ∃ p q, bv7 (rkN f a) = (p, q) := ⟨_, _, rfl⟩
  obtain ⟨u2, v2, h2⟩ : ∃ p q, bv7 (rkN f b) = (p, q) := ⟨_, _, rfl⟩
  exact od_total f x1 y1 x2 y2 u1 v1 u2 v2 _ _ t rfl rfl ((cmp_two fa fb h1 h2).trans ht) w (box (fun w hT => krank_is f hf x1 y1 a hx1 hy1 ha oa u1 v1 h1 w hT)) (box (fun w hT => krank_is f hf x2 y2 b hx2 hy2 hb ob u2 v2 h2 w hT)) hT
theorem ktotal_is (f : Int) (hf : Is4 f) (x1 y1 a x2 y2 b : Nat) (hx1 : x1 < 18446744073709551616) (hy1 : y1 < 18446744073709551616) (ha : y1 + 18446744073709551616 * x1 = a) (hx2 : x2 < 18446744073709551616) (hy2 : y2 < 18446744073709551616) (hb : y2 + 18446744073709551616 * x2 = b) (oa : okB f a = true) (ob : okB f b = true) (t : Int) (ht : totR f a b = t) (w : World) (hT : FAt w) : Calls Tryd.prog 40 #[.int .u8 f, .agg #[.int .u64 (x1 : Nat), .int .u64 (y1 : Nat)], .agg #[.int .u64 (x2 : Nat), .int .u64 (y2 : Nat)]] w fun r w' => r = .returned (.int .i64 t) ∧ Below w.heap.size w w' := (ktotal_d f hf x1 y1 a x2 y2 b hx1 hy1 ha hx2 hy2 hb oa ob t ht w hT).mono fun _ _ h => ⟨h.1, h.2.1⟩
theorem knan_is (f : Int) (hf : Is4 f) (x1 y1 a : Nat) (hx1 : x1 < 18446744073709551616) (hy1 : y1 < 18446744073709551616) (ha : y1 + 18446744073709551616 * x1 = a) (oa : okB f a = true) (o : Bool) (ho : decide (8 ≤ kC f a) = o) (w : World) (hT : FAt w) : Calls Tryd.prog 47 #[.int .u8 f, .agg #[.int .u64 (x1 : Nat), .int .u64 (y1 : Nat)]] w fun r w' => r = .returned (.bool o) ∧ Below w.heap.size w w' := by
  refine od_isNaN f x1 y1 (kC f a) o ?_ w (box (fun w hT => kClass_yes f hf x1 y1 a _ hx1 hy1 ha oa rfl w hT)) hT
  have := kC_lt f a
  rw [← ho, ← Bool.decide_or]
  exact decide_eq_decide.2 (by omega)
theorem kzero_is (f : Int) (hf : Is4 f) (x1 y1 a : Nat) (hx1 : x1 < 18446744073709551616) (hy1 : y1 < 18446744073709551616) (ha : y1 + 18446744073709551616 * x1 = a) (oa : okB f a = true) (o : Bool) (ho : decide (kC f a = 3 ∨ kC f a = 4) = o) (w : World) (hT : FAt w) : Calls Tryd.prog 48 #[.int .u8 f, .agg #[.int .u64 (x1 : Nat), .int .u64 (y1 : Nat)]] w fun r w' => r = .returned (.bool o) ∧ Below w.heap.size w w' :=
  od_isZero f x1 y1 (kC f a) o (by rw [← Bool.decide_or]; exact ho) w (box (fun w hT => kClass_yes f hf x1 y1 a _ hx1 hy1 ha oa rfl w hT)) hT
theorem krel_is (f : Int) (hf : Is4 f) (x1 y1 a x2 y2 b : Nat) (hx1 : x1 < 18446744073709551616) (hy1 : y1 < 18446744073709551616) (ha : y1 + 18446744073709551616 * x1 = a) (hx2 : x2 < 18446744073709551616) (hy2 : y2 < 18446744073709551616) (hb : y2 + 18446744073709551616 * x2 = b) (oa : okB f a = true) (ob : okB f b = true) (rl : Nat) (hr : relR f a b = rl) (w : World) (hT : FAt w) : Calls Tryd.prog 26 #[.int .u8 f, .agg #[.int .u64 (x1 : Nat), .int .u64 (y1 : Nat)], .agg #[.int .u64 (x2 : Nat), .int .u64 (y2 : Nat)]] w fun r w' => r = .returned (.int .u8 (rl : Nat)) ∧ Below w.heap.size w w' := by
  have fa := (okB_yes (is4_ok hf).1 oa).2
  have fb := (okB_yes (is4_ok hf).1 ob).2
  have KN1 := fun o h => box (fun w hT => knan_is f hf x1 y1 a hx1 hy1 ha oa o h w hT)
  have KN2 := fun o h => box (fun w hT => knan_is f hf x2 y2 b hx2 hy2 hb ob o h w hT)
  have KZ1 := fun o h => box (fun w hT => kzero_is f hf x1 y1 a hx1 hy1 ha oa o h w hT)
  have KZ2 := fun o h => box (fun w hT => kzero_is f hf x2 y2 b hx2 hy2 hb ob o h w hT)
  have KT := box (fun w hT => ktotal_is f hf x1 y1 a x2 y2 b hx1 hy1 ha hx2 hy2 hb oa ob _ rfl w hT)
  by_cases n1 : 8 ≤ kC f a
  · have e : rl = 0 := by rw [← hr]; unfold relR; rw [if_pos (Or.inl n1)]
    subst e
    exact od_rel_n1 f x1 y1 x2 y2 w (KN1 true (decide_eq_true n1)) hT
  by_cases n2 : 8 ≤ kC f b
  · have e : rl = 0 := by rw [← hr]; unfold relR; rw [if_pos (Or.inr n2)]
    subst e
    exact od_rel_n2 f x1 y1 x2 y2 w (KN1 false (decide_eq_false n1)) (KN2 true (decide_eq_true n2)) hT
  have KN1 := KN1 false (decide_eq_false n1)
  have KN2 := KN2 false (decide_eq_false n2)
  obtain ⟨r1, r2⟩ := rel_tot hf fa fb (by omega) (by omega)
  by_cases z1 : kC f a = 3 ∨ kC f a = 4
  · by_cases z2 : kC f b = 3 ∨ kC f b = 4
    · rw [r1 ⟨z1, z2⟩] at hr
      subst hr
      exact od_rel_z f x1 y1 x2 y2 w KN1 KN2 (KZ1 true (decide_eq_true z1)) (KZ2 true (decide_eq_true z2)) hT
    · have := r2 (fun q => z2 q.2)
      rw [hr] at this
      exact od_rel_t2 f x1 y1 x2 y2 _ _ w KN1 KN2 (KZ1 true (decide_eq_true z1)) (KZ2 false (decide_eq_false z2)) KT (box this) hT
  · have := r2 (fun q => z1 q.1)
    rw [hr] at this
    exact od_rel_t1 f x1 y1 x2 y2 _ _ w KN1 KN2 (KZ1 false (decide_eq_false z1)) KT (box this) hT
theorem so_rel (f : Int) (a b : Nat) : (if (((relR f a b : Nat) : Int) == 0) = true then (16 : Int) else 0) = soR f a b := by
  unfold soR relR
  by_cases c : 8 ≤ kC f a ∨ 8 ≤ kC f b
  · rw [if_pos c, if_pos c]
    rfl
  · rw [if_neg c, if_neg c]
    split
    · rfl
    split
    · rfl
    · rfl
theorem kCompare_is (f : Int) (hf : Is4 f) (x1 y1 a x2 y2 b : Nat) (hx1 : x1 < 18446744073709551616) (hy1 : y1 < 18446744073709551616) (ha : y1 + 18446744073709551616 * x1 = a) (hx2 : x2 < 18446744073709551616) (hy2 : y2 < 18446744073709551616) (hb : y2 + 18446744073709551616 * x2 = b) (oa : okB f a = true) (ob : okB f b = true) (rl : Nat) (hr : relR f a b = rl) (w : World) (hT : FAt w) : Calls Tryd.prog 8 #[.int .u8 f, .agg #[.int .u64 (x1 : Nat), .int .u64 (y1 : Nat)], .agg #[.int .u64 (x2 : Nat), .int .u64 (y2 : Nat)]] w fun r w' => r = .returned (.tuple #[.int .u8 (rl : Nat), .int .i64 0]) ∧ Below w.heap.size w w' := od_Compare_yes f x1 y1 x2 y2 _ w (km2 f (is4_ok hf).1 (is4_ok hf).2.1 x1 y1 a x2 y2 b hx1 hy1 ha hx2 hy2 hb true (by rw [oa, ob]; rfl)) (box (fun w hT => krel_is f hf x1 y1 a x2 y2 b hx1 hy1 ha hx2 hy2 hb oa ob rl hr w hT)) hT
theorem kTotal_is (f : Int) (hf : Is4 f) (x1 y1 a x2 y2 b : Nat) (hx1 : x1 < 18446744073709551616) (hy1 : y1 < 18446744073709551616) (ha : y1 + 18446744073709551616 * x1 = a) (hx2 : x2 < 18446744073709551616) (hy2 : y2 < 18446744073709551616) (hb : y2 + 18446744073709551616 * x2 = b) (oa : okB f a = true) (ob : okB f b = true) (t : Int) (ht : totR f a b = t) (w : World) (hT : FAt w) : Calls Tryd.prog 22 #[.int .u8 f, .agg #[.int .u64 (x1 : Nat), .int .u64 (y1 : Nat)], .agg #[.int .u64 (x2 : Nat), .int .u64 (y2 : Nat)]] w fun r w' => r = .returned (.tuple #[.int .i64 t, .int .i64 0]) ∧ Below w.heap.size w w' := od_Total_yes f x1 y1 x2 y2 t w (km2 f (is4_ok hf).1 (is4_ok hf).2.1 x1 y1 a x2 y2 b hx1 hy1 ha hx2 hy2 hb true (by rw [oa, ob]; rfl)) (box (fun w hT => ktotal_is f hf x1 y1 a x2 y2 b hx1 hy1 ha hx2 hy2 hb oa ob t ht w hT)) hT
theorem kLt_is (f : Int) (hf : Is4 f) (x1 y1 a x2 y2 b : Nat) (hx1 : x1 < 18446744073709551616) (hy1 : y1 < 18446744073709551616) (ha : y1 + 18446744073709551616 * x1 = a) (hx2 : x2 < 18446744073709551616) (hy2 : y2 < 18446744073709551616) (hb : y2 + 18446744073709551616 * x2 = b) (oa : okB f a = true) (ob : okB f b = true) (o : Bool) (fl : Int) (ho : decide (relR f a b = 1) = o) (hf2 : soR f a b = fl) (w : World) (hT : FAt w) : Calls Tryd.prog 10 #[.int .u8 f, .agg #[.int .u64 (x1 : Nat), .int .u64 (y1 : Nat)], .agg #[.int .u64 (x2 : Nat), .int .u64 (y2 : Nat)]] w fun r w' => r = .returned (.tuple #[.bool o, .int .u8 fl, .int .i64 0]) ∧ Below w.heap.size w w' := by
  refine od_Lt_yes f x1 y1 x2 y2 _ fl o _ ?_ rfl w (km2 f (is4_ok hf).1 (is4_ok hf).2.1 x1 y1 a x2 y2 b hx1 hy1 ha hx2 hy2 hb true (by rw [oa, ob]; rfl)) (box (fun w hT => krel_is f hf x1 y1 a x2 y2 b hx1 hy1 ha hx2 hy2 hb oa ob _ rfl w hT)) (box (fun w => od_invalid _ fl ?_ w)) hT
  · rw [← ho, Bool.eq_iff_iff, beq_iff_eq, decide_eq_true_iff]
    omega
  · rw [← hf2]
    exact so_rel f a b
theorem al16 : relR 2 32768 0 = 2 ∧ relR 2 32256 15360 = 0 ∧ soR 2 32256 15360 = 16 ∧ okB 2 32768 = true ∧ okB 2 0 = true ∧ okB 2 32256 = true ∧ okB 2 15360 = true := by decide +kernel
set_option maxRecDepth 100000 in
set_option maxHeartbeats 4000000 in
theorem r16alive (w : World) (hT : FAt w) : Calls Tryd.prog 13 #[] w fun r w' => r = .returned (.bool true) ∧ Below w.heap.size w w' := by
  have FF := box hT
  obtain ⟨e1, e2, e3, o1, o2, o3, o4⟩ := al16
  have h2 : Is4 2 := by unfold Is4; omega
  have K1 : Box (∀ w, FAt w → Calls Tryd.prog 8 #[.int .u8 2, .agg #[.int .u64 0, .int .u64 32768], .agg #[.int .u64 0, .int .u64 0]] w fun r w' => r = .returned (.tuple #[.int .u8 2, .int .i64 0]) ∧ Below w.heap.size w w') := box (fun w hT => kCompare_is 2 h2 0 32768 32768 0 0 0 (by decide) (by decide) rfl (by decide) (by decide) rfl o1 o2 2 e1 w hT)
  have K2 : Box (∀ w, FAt w → Calls Tryd.prog 10 #[.int .u8 2, .agg #[.int .u64 0, .int .u64 32256], .agg #[.int .u64 0, .int .u64 15360]] w fun r w' => r = .returned (.tuple #[.bool false, .int .u8 16, .int .i64 0]) ∧ Below w.heap.size w w') := box (fun w hT => kLt_is 2 h2 0 32256 32256 0 15360 15360 (by decide) (by decide) rfl (by decide) (by decide) rfl o3 o4 false 16 (by rw [e2]; rfl) e3 w hT)
  clear hT e1 e2 e3 o1 o2 o3 o4 h2
  have B0 : Below w.heap.size w w := (Below.refl _ _)
  go_enter Tryd.func13, Tryd.ntmps13
  go_wp2_with fail
  refine (K1.out _ (fatB FF.out B0)).mono ?_
  rintro r w1 ⟨rfl, b1⟩
  have B1 : Below w.heap.size w w1 := btr B0 b1
  clear b1 B0 
  go_wp2_with fail
  refine (K2.out _ (fatB FF.out B1)).mono ?_
  rintro r w2 ⟨rfl, b2⟩
  have B2 : Below w.heap.size w w2 := btr B1 b2
  clear b2 B1 
  go_wp2
  go_ret
  exact ⟨rfl, B2⟩
end Go.Proofs.YtmndjhcmomejjaaDoor
namespace Go.Proofs
open Go.Shelf
def Tryd.laysSortFunc_ren : Go.Shelf.Ren := ⟨fun | 6 => 38 | 15 => 66 | 14 => 65 | 28 => 107 | 29 => 108 | 20 => 99 | 21 => 100 | 22 => 101 | 23 => 102 | 24 => 103 | 25 => 104 | 26 => 105 | 27 => 106 | 46 => 129 | 47 => 130 | 48 => 131 | 49 => 132 | 50 => 133 | 57 => 134 | n => n, fun | 22 => 34 | 24 => 25 | 25 => 69 | 3 => 3 | 39 => 93 | 0 => 0 | 53 => 135 | 55 => 23 | 4 => 4 | 46 => 128 | 45 => 127 | 50 => 132 | 5 => 5 | 9 => 9 | 66 => 151 | 70 => 155 | 76 => 158 | 77 => 63 | n => n, fun | n => n⟩
theorem Tryd.laysSortFunc : Go.Proofs.SlLaysF0.n6 Tryd.prog Tryd.laysSortFunc_ren := {
  mixed := by kernel_rfl
  f6 := ⟨Tryd.f38.name, by decide, Tryd.func38.trans (congrArg some (by kernel_rfl))⟩
  f14 := ⟨Tryd.f65.name, by decide, Tryd.func65.trans (congrArg some (by kernel_rfl))⟩
  f15 := Tryd.func66.trans (congrArg some (by kernel_rfl))
  f20 := ⟨Tryd.f99.name, by decide, Tryd.func99.trans (congrArg some (by kernel_rfl))⟩
  f21 := ⟨Tryd.f100.name, by decide, Tryd.func100.trans (congrArg some (by kernel_rfl))⟩
  f22 := ⟨Tryd.f101.name, by decide, Tryd.func101.trans (congrArg some (by kernel_rfl))⟩
  f23 := ⟨Tryd.f102.name, by decide, Tryd.func102.trans (congrArg some (by kernel_rfl))⟩
  f24 := ⟨Tryd.f103.name, by decide, Tryd.func103.trans (congrArg some (by kernel_rfl))⟩
  f25 := ⟨Tryd.f104.name, by decide, Tryd.func104.trans (congrArg some (by kernel_rfl))⟩
  f26 := ⟨Tryd.f105.name, by decide, Tryd.func105.trans (congrArg some (by kernel_rfl))⟩
  f27 := ⟨Tryd.f106.name, by decide, Tryd.func106.trans (congrArg some (by kernel_rfl))⟩
  f28 := Tryd.func107.trans (congrArg some (by kernel_rfl))
  f29 := Tryd.func108.trans (congrArg some (by kernel_rfl))
  f46 := ⟨Tryd.f129.name, by decide, Tryd.func129.trans (congrArg some (by kernel_rfl))⟩
  f47 := Tryd.func130.trans (congrArg some (by kernel_rfl))
  f48 := Tryd.func131.trans (congrArg some (by kernel_rfl))
  f49 := ⟨Tryd.f132.name, by decide, Tryd.func132.trans (congrArg some (by kernel_rfl))⟩
  f50 := ⟨Tryd.f133.name, by decide, Tryd.func133.trans (congrArg some (by kernel_rfl))⟩
  f57 := ⟨Tryd.f134.name, by decide, Tryd.func134.trans (congrArg some (by kernel_rfl))⟩
  t0 := Tryd.underlying0
  a0 := Tryd.isAgg0
  z0 := Tryd.sizeOf0
  v0 := Tryd.zeroValue0
  t3 := Tryd.underlying3
  a3 := Tryd.isAgg3
  z3 := Tryd.sizeOf3
  v3 := Tryd.zeroValue3
  t4 := Tryd.underlying4
  a4 := Tryd.isAgg4
  z4 := Tryd.sizeOf4
  v4 := Tryd.zeroValue4
  t5 := Tryd.underlying5
  a5 := Tryd.isAgg5
  z5 := Tryd.sizeOf5
  v5 := Tryd.zeroValue5
  t9 := Tryd.underlying9
  a9 := Tryd.isAgg9
  z9 := Tryd.sizeOf9
  v9 := Tryd.zeroValue9
  t22 := Tryd.underlying34
  a22 := Tryd.isAgg34
  z22 := Tryd.sizeOf34
  v22 := Tryd.zeroValue34
  t25 := Tryd.underlying69
  a25 := Tryd.isAgg69
  z25 := Tryd.sizeOf69
  v25 := Tryd.zeroValue69
  t39 := Tryd.underlying93
  a39 := Tryd.isAgg93
  z39 := Tryd.sizeOf93
  v39 := Tryd.zeroValue93
  t45 := Tryd.underlying127
  a45 := Tryd.isAgg127
  z45 := Tryd.sizeOf127
  v45 := Tryd.zeroValue127
  t46 := Tryd.underlying128
  a46 := Tryd.isAgg128
  z46 := Tryd.sizeOf128
  v46 := Tryd.zeroValue128
  t50 := Tryd.underlying132
  a50 := Tryd.isAgg132
  z50 := Tryd.sizeOf132
  v50 := Tryd.zeroValue132
  t53 := Tryd.underlying135
  a53 := Tryd.isAgg135
  z53 := Tryd.sizeOf135
  v53 := Tryd.zeroValue135
  t55 := Tryd.underlying23
  a55 := Tryd.isAgg23
  z55 := Tryd.sizeOf23
  v55 := Tryd.zeroValue23
  t66 := Tryd.underlying151
  a66 := Tryd.isAgg151
  z66 := Tryd.sizeOf151
  v66 := Tryd.zeroValue151
  t70 := Tryd.underlying155
  a70 := Tryd.isAgg155
  z70 := Tryd.sizeOf155
  v70 := Tryd.zeroValue155
  t76 := Tryd.underlying158
  a76 := Tryd.isAgg158
  z76 := Tryd.sizeOf158
  v76 := Tryd.zeroValue158
  t77 := Tryd.underlying63
  a77 := Tryd.isAgg63
  z77 := Tryd.sizeOf63
  v77 := Tryd.zeroValue63 }
end Go.Proofs
