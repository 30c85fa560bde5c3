/-
  What the functions that the statement reaches return: part 15 (R11, SL, VL).
-/
import Derived.Test.YtbmhfcppaajgbaaGreatDoorRows
import Derived.OpenShut
import Derived.LaidMore
import Derived.Lib.LaidTab
import Derived.Stop.Joined
import Derived.Stop.LaidErr
import Derived.Test.YtbmhfcppaajgbaaGreatDoorRc14
namespace Go.Proofs.YtbmhfcppaajgbaaGreatDoor
set_option maxRecDepth 100000
open Go.RowKit WMath XMath
set_option linter.unusedSimpArgs false
set_option linter.unusedVariables false

set_option maxRecDepth 100000 in
set_option maxHeartbeats 4000000 in
theorem turn_s (f m : Int) (b : Bool) (s t : ByteArray) (e : Int)  (w : World)
    (KS : Box (∀ w, Calls Tryz.prog 20 #[.agg #[.bool b, .string s, .string t, .int .i64 e]] w fun r w' => r = .returned (.bool false) ∧ Below w.heap.size w w'))
    (KA : Box (∀ w, FAt w → TabAt w → Calls Tryz.prog 21 #[] w fun r w' => r = .returned (.bool true) ∧ Below w.heap.size w w'))
    (hT : FAt w) (hT2 : TabAt w) : Calls Tryz.prog 9 #[.int .u8 f, .int .u8 m, .agg #[.bool b, .string s, .string t, .int .i64 e]] w fun r w' => r = .returned (.bool true) ∧ Below w.heap.size w w' := by
  have FF := box hT
  have TT := box hT2
  clear hT hT2
  obtain ⟨Rx_0, B0⟩ := opn1 w (Obj.cells #[.bool b, .string s, .string t, .int .i64 e] 41)
  go_enter Tryz.func9, Tryz.ntmps9
  go_wp2_with fail
  refine (KS.out _).mono ?_
  rintro r w1 ⟨rfl, b1⟩
  have B1 : Below w.heap.size w w1 := btr B0 b1
  have Rx_1 := heap_of b1 _ _ _ Rx_0
  clear b1 B0 Rx_0
  obtain ⟨cx_1_0, cx_1_1, cx_1_2, cx_1_3⟩ := cells4s Rx_1
  go_wp2_with fail
  refine (KA.out _ (fatB FF.out B1) (tabB TT.out B1)).mono ?_
  rintro r w2 ⟨rfl, b2⟩
  have B2 : Below w.heap.size w w2 := btr B1 b2
  have Rx_2 := heap_of b2 _ _ _ Rx_1
  clear b2 B1 Rx_1 cx_1_0 cx_1_1 cx_1_2 cx_1_3
  obtain ⟨cx_2_0, cx_2_1, cx_2_2, cx_2_3⟩ := cells4s Rx_2
  go_wp2
  go_ret
  exact ⟨rfl, B2⟩
set_option maxRecDepth 100000 in
set_option maxHeartbeats 4000000 in
theorem turn_m (f m : Int) (b : Bool) (s t : ByteArray) (e : Int)  (w : World)
    (KS : Box (∀ w, Calls Tryz.prog 20 #[.agg #[.bool b, .string s, .string t, .int .i64 e]] w fun r w' => r = .returned (.bool true) ∧ Below w.heap.size w w'))
    (KM : Box (∀ w, Calls Tryz.prog 29 #[.agg #[.bool b, .string s, .string t, .int .i64 e]] w fun r w' => r = .returned (.bool false) ∧ Below w.heap.size w w'))
    (KA : Box (∀ w, FAt w → TabAt w → Calls Tryz.prog 21 #[] w fun r w' => r = .returned (.bool true) ∧ Below w.heap.size w w'))
    (hT : FAt w) (hT2 : TabAt w) : Calls Tryz.prog 9 #[.int .u8 f, .int .u8 m, .agg #[.bool b, .string s, .string t, .int .i64 e]] w fun r w' => r = .returned (.bool true) ∧ Below w.heap.size w w' := by
  have FF := box hT
  have TT := box hT2
  clear hT hT2
  obtain ⟨Rx_0, B0⟩ := opn1 w (Obj.cells #[.bool b, .string s, .string t, .int .i64 e] 41)
  go_enter Tryz.func9, Tryz.ntmps9
  go_wp2_with fail
  refine (KS.out _).mono ?_
  rintro r w1 ⟨rfl, b1⟩
  have B1 : Below w.heap.size w w1 := btr B0 b1
  have Rx_1 := heap_of b1 _ _ _ Rx_0
  clear b1 B0 Rx_0
  obtain ⟨cx_1_0, cx_1_1, cx_1_2, cx_1_3⟩ := cells4s Rx_1
  go_wp2_with fail
  refine (KM.out _).mono ?_
  rintro r w2 ⟨rfl, b2⟩
  have B2 : Below w.heap.size w w2 := btr B1 b2
  have Rx_2 := heap_of b2 _ _ _ Rx_1
  clear b2 B1 Rx_1 cx_1_0 cx_1_1 cx_1_2 cx_1_3
  obtain ⟨cx_2_0, cx_2_1, cx_2_2, cx_2_3⟩ := cells4s Rx_2
  go_wp2_with fail
  refine (KA.out _ (fatB FF.out B2) (tabB TT.out B2)).mono ?_
  rintro r w3 ⟨rfl, b3⟩
  have B3 : Below w.heap.size w w3 := btr B2 b3
  have Rx_3 := heap_of b3 _ _ _ Rx_2
  clear b3 B2 Rx_2 cx_2_0 cx_2_1 cx_2_2 cx_2_3
  obtain ⟨cx_3_0, cx_3_1, cx_3_2, cx_3_3⟩ := cells4s Rx_3
  go_wp2
  go_ret
  exact ⟨rfl, B3⟩
set_option maxRecDepth 100000 in
set_option maxHeartbeats 4000000 in
theorem turn_f (f m : Int) (b : Bool) (s t : ByteArray) (e : Int) (o3 : Bool) (w : World)
    (KS : Box (∀ w, Calls Tryz.prog 20 #[.agg #[.bool b, .string s, .string t, .int .i64 e]] w fun r w' => r = .returned (.bool true) ∧ Below w.heap.size w w'))
    (KM : Box (∀ w, Calls Tryz.prog 29 #[.agg #[.bool b, .string s, .string t, .int .i64 e]] w fun r w' => r = .returned (.bool true) ∧ Below w.heap.size w w'))
    (KF : Box (∀ w, Calls Tryz.prog 17 #[.int .u8 f] w fun r w' => r = .returned (.bool o3) ∧ Below w.heap.size w w'))
    (h3 : o3 = false)
    (KA : Box (∀ w, FAt w → TabAt w → Calls Tryz.prog 21 #[] w fun r w' => r = .returned (.bool true) ∧ Below w.heap.size w w'))
    (hT : FAt w) (hT2 : TabAt w) : Calls Tryz.prog 9 #[.int .u8 f, .int .u8 m, .agg #[.bool b, .string s, .string t, .int .i64 e]] w fun r w' => r = .returned (.bool true) ∧ Below w.heap.size w w' := by
  have FF := box hT
  have TT := box hT2
  clear hT hT2
  subst h3
  obtain ⟨Rx_0, B0⟩ := opn1 w (Obj.cells #[.bool b, .string s, .string t, .int .i64 e] 41)
  go_enter Tryz.func9, Tryz.ntmps9
  go_wp2_with fail
  refine (KS.out _).mono ?_
  rintro r w1 ⟨rfl, b1⟩
  have B1 : Below w.heap.size w w1 := btr B0 b1
  have Rx_1 := heap_of b1 _ _ _ Rx_0
  clear b1 B0 Rx_0
  obtain ⟨cx_1_0, cx_1_1, cx_1_2, cx_1_3⟩ := cells4s Rx_1
  go_wp2_with fail
  refine (KM.out _).mono ?_
  rintro r w2 ⟨rfl, b2⟩
  have B2 : Below w.heap.size w w2 := btr B1 b2
  have Rx_2 := heap_of b2 _ _ _ Rx_1
  clear b2 B1 Rx_1 cx_1_0 cx_1_1 cx_1_2 cx_1_3
  obtain ⟨cx_2_0, cx_2_1, cx_2_2, cx_2_3⟩ := cells4s Rx_2
  go_wp2_with fail
  refine (KF.out _).mono ?_
  rintro r w3 ⟨rfl, b3⟩
  have B3 : Below w.heap.size w w3 := btr B2 b3
  have Rx_3 := heap_of b3 _ _ _ Rx_2
  clear b3 B2 Rx_2 cx_2_0 cx_2_1 cx_2_2 cx_2_3
  obtain ⟨cx_3_0, cx_3_1, cx_3_2, cx_3_3⟩ := cells4s Rx_3
  go_wp2_with fail
  refine (KA.out _ (fatB FF.out B3) (tabB TT.out B3)).mono ?_
  rintro r w4 ⟨rfl, b4⟩
  have B4 : Below w.heap.size w w4 := btr B3 b4
  have Rx_4 := heap_of b4 _ _ _ Rx_3
  clear b4 B3 Rx_3 cx_3_0 cx_3_1 cx_3_2 cx_3_3
  obtain ⟨cx_4_0, cx_4_1, cx_4_2, cx_4_3⟩ := cells4s Rx_4
  go_wp2
  go_ret
  exact ⟨rfl, B4⟩
set_option maxRecDepth 100000 in
set_option maxHeartbeats 4000000 in
theorem turn_o (f m : Int) (b : Bool) (s t : ByteArray) (e : Int) (o3 o4 : Bool) (w : World)
    (KS : Box (∀ w, Calls Tryz.prog 20 #[.agg #[.bool b, .string s, .string t, .int .i64 e]] w fun r w' => r = .returned (.bool true) ∧ Below w.heap.size w w'))
    (KM : Box (∀ w, Calls Tryz.prog 29 #[.agg #[.bool b, .string s, .string t, .int .i64 e]] w fun r w' => r = .returned (.bool true) ∧ Below w.heap.size w w'))
    (KF : Box (∀ w, Calls Tryz.prog 17 #[.int .u8 f] w fun r w' => r = .returned (.bool o3) ∧ Below w.heap.size w w'))
    (KO : Box (∀ w, Calls Tryz.prog 31 #[.int .u8 m] w fun r w' => r = .returned (.bool o4) ∧ Below w.heap.size w w'))
    (h3 : o3 = true) (h4 : o4 = false)
    (KA : Box (∀ w, FAt w → TabAt w → Calls Tryz.prog 21 #[] w fun r w' => r = .returned (.bool true) ∧ Below w.heap.size w w'))
    (hT : FAt w) (hT2 : TabAt w) : Calls Tryz.prog 9 #[.int .u8 f, .int .u8 m, .agg #[.bool b, .string s, .string t, .int .i64 e]] w fun r w' => r = .returned (.bool true) ∧ Below w.heap.size w w' := by
  have FF := box hT
  have TT := box hT2
  clear hT hT2
  subst h3 h4
  obtain ⟨Rx_0, B0⟩ := opn1 w (Obj.cells #[.bool b, .string s, .string t, .int .i64 e] 41)
  go_enter Tryz.func9, Tryz.ntmps9
  go_wp2_with fail
  refine (KS.out _).mono ?_
  rintro r w1 ⟨rfl, b1⟩
  have B1 : Below w.heap.size w w1 := btr B0 b1
  have Rx_1 := heap_of b1 _ _ _ Rx_0
  clear b1 B0 Rx_0
  obtain ⟨cx_1_0, cx_1_1, cx_1_2, cx_1_3⟩ := cells4s Rx_1
  go_wp2_with fail
  refine (KM.out _).mono ?_
  rintro r w2 ⟨rfl, b2⟩
  have B2 : Below w.heap.size w w2 := btr B1 b2
  have Rx_2 := heap_of b2 _ _ _ Rx_1
  clear b2 B1 Rx_1 cx_1_0 cx_1_1 cx_1_2 cx_1_3
  obtain ⟨cx_2_0, cx_2_1, cx_2_2, cx_2_3⟩ := cells4s Rx_2
  go_wp2_with fail
  refine (KF.out _).mono ?_
  rintro r w3 ⟨rfl, b3⟩
  have B3 : Below w.heap.size w w3 := btr B2 b3
  have Rx_3 := heap_of b3 _ _ _ Rx_2
  clear b3 B2 Rx_2 cx_2_0 cx_2_1 cx_2_2 cx_2_3
  obtain ⟨cx_3_0, cx_3_1, cx_3_2, cx_3_3⟩ := cells4s Rx_3
  go_wp2_with fail
  refine (KO.out _).mono ?_
  rintro r w4 ⟨rfl, b4⟩
  have B4 : Below w.heap.size w w4 := btr B3 b4
  have Rx_4 := heap_of b4 _ _ _ Rx_3
  clear b4 B3 Rx_3 cx_3_0 cx_3_1 cx_3_2 cx_3_3
  obtain ⟨cx_4_0, cx_4_1, cx_4_2, cx_4_3⟩ := cells4s Rx_4
  go_wp2_with fail
  refine (KA.out _ (fatB FF.out B4) (tabB TT.out B4)).mono ?_
  rintro r w5 ⟨rfl, b5⟩
  have B5 : Below w.heap.size w w5 := btr B4 b5
  have Rx_5 := heap_of b5 _ _ _ Rx_4
  clear b5 B4 Rx_4 cx_4_0 cx_4_1 cx_4_2 cx_4_3
  obtain ⟨cx_5_0, cx_5_1, cx_5_2, cx_5_3⟩ := cells4s Rx_5
  go_wp2
  go_ret
  exact ⟨rfl, B5⟩
set_option maxRecDepth 100000 in
set_option maxHeartbeats 4000000 in
theorem turn_z (f m : Int) (b : Bool) (s t : ByteArray) (e : Int) (o3 o4 : Bool) (g : Int) (w : World)
    (KS : Box (∀ w, Calls Tryz.prog 20 #[.agg #[.bool b, .string s, .string t, .int .i64 e]] w fun r w' => r = .returned (.bool true) ∧ Below w.heap.size w w'))
    (KM : Box (∀ w, Calls Tryz.prog 29 #[.agg #[.bool b, .string s, .string t, .int .i64 e]] w fun r w' => r = .returned (.bool true) ∧ Below w.heap.size w w'))
    (KF : Box (∀ w, Calls Tryz.prog 17 #[.int .u8 f] w fun r w' => r = .returned (.bool o3) ∧ Below w.heap.size w w'))
    (KO : Box (∀ w, Calls Tryz.prog 31 #[.int .u8 m] w fun r w' => r = .returned (.bool o4) ∧ Below w.heap.size w w'))
    (KG : Box (∀ w, TabAt w → Calls Tryz.prog 32 #[.agg #[.bool b, .string s, .string t, .int .i64 e]] w fun r w' => r = .returned (.int .i64 g) ∧ Below w.heap.size w w'))
    (h3 : o3 = true) (h4 : o4 = true) (hg : (g == 0) = true)
    (KA : Box (∀ w, FAt w → TabAt w → Calls Tryz.prog 21 #[] w fun r w' => r = .returned (.bool true) ∧ Below w.heap.size w w'))
    (hT : FAt w) (hT2 : TabAt w) : Calls Tryz.prog 9 #[.int .u8 f, .int .u8 m, .agg #[.bool b, .string s, .string t, .int .i64 e]] w fun r w' => r = .returned (.bool true) ∧ Below w.heap.size w w' := by
  have FF := box hT
  have TT := box hT2
  clear hT hT2
  subst h3 h4
  obtain ⟨Rx_0, B0⟩ := opn1 w (Obj.cells #[.bool b, .string s, .string t, .int .i64 e] 41)
  go_enter Tryz.func9, Tryz.ntmps9
  go_wp2_with fail
  refine (KS.out _).mono ?_
  rintro r w1 ⟨rfl, b1⟩
  have B1 : Below w.heap.size w w1 := btr B0 b1
  have Rx_1 := heap_of b1 _ _ _ Rx_0
  clear b1 B0 Rx_0
  obtain ⟨cx_1_0, cx_1_1, cx_1_2, cx_1_3⟩ := cells4s Rx_1
  go_wp2_with fail
  refine (KM.out _).mono ?_
  rintro r w2 ⟨rfl, b2⟩
  have B2 : Below w.heap.size w w2 := btr B1 b2
  have Rx_2 := heap_of b2 _ _ _ Rx_1
  clear b2 B1 Rx_1 cx_1_0 cx_1_1 cx_1_2 cx_1_3
  obtain ⟨cx_2_0, cx_2_1, cx_2_2, cx_2_3⟩ := cells4s Rx_2
  go_wp2_with fail
  refine (KF.out _).mono ?_
  rintro r w3 ⟨rfl, b3⟩
  have B3 : Below w.heap.size w w3 := btr B2 b3
  have Rx_3 := heap_of b3 _ _ _ Rx_2
  clear b3 B2 Rx_2 cx_2_0 cx_2_1 cx_2_2 cx_2_3
  obtain ⟨cx_3_0, cx_3_1, cx_3_2, cx_3_3⟩ := cells4s Rx_3
  go_wp2_with fail
  refine (KO.out _).mono ?_
  rintro r w4 ⟨rfl, b4⟩
  have B4 : Below w.heap.size w w4 := btr B3 b4
  have Rx_4 := heap_of b4 _ _ _ Rx_3
  clear b4 B3 Rx_3 cx_3_0 cx_3_1 cx_3_2 cx_3_3
  obtain ⟨cx_4_0, cx_4_1, cx_4_2, cx_4_3⟩ := cells4s Rx_4
  go_wp2_with fail
  refine (KG.out _ (tabB TT.out B4)).mono ?_
  rintro r w5 ⟨rfl, b5⟩
  have B5 : Below w.heap.size w w5 := btr B4 b5
  have Rx_5 := heap_of b5 _ _ _ Rx_4
  clear b5 B4 Rx_4 cx_4_0 cx_4_1 cx_4_2 cx_4_3
  obtain ⟨cx_5_0, cx_5_1, cx_5_2, cx_5_3⟩ := cells4s Rx_5
  go_wp2_with fail
  refine (KA.out _ (fatB FF.out B5) (tabB TT.out B5)).mono ?_
  rintro r w6 ⟨rfl, b6⟩
  have B6 : Below w.heap.size w w6 := btr B5 b6
  have Rx_6 := heap_of b6 _ _ _ Rx_5
  clear b6 B5 Rx_5 cx_5_0 cx_5_1 cx_5_2 cx_5_3
  obtain ⟨cx_6_0, cx_6_1, cx_6_2, cx_6_3⟩ := cells4s Rx_6
  go_wp2
  go_ret
  exact ⟨rfl, B6⟩
set_option maxRecDepth 100000 in
set_option maxHeartbeats 4000000 in
theorem turn_y (f m : Int) (hm : 0 ≤ m ∧ m ≤ 4) (b : Bool) (s t : ByteArray) (e : Int) (o3 o4 : Bool) (g : Int) (u v i j : Nat) (fl : Int) (w : World)
    (KS : Box (∀ w, Calls Tryz.prog 20 #[.agg #[.bool b, .string s, .string t, .int .i64 e]] w fun r w' => r = .returned (.bool true) ∧ Below w.heap.size w w'))
    (KM : Box (∀ w, Calls Tryz.prog 29 #[.agg #[.bool b, .string s, .string t, .int .i64 e]] w fun r w' => r = .returned (.bool true) ∧ Below w.heap.size w w'))
    (KF : Box (∀ w, Calls Tryz.prog 17 #[.int .u8 f] w fun r w' => r = .returned (.bool o3) ∧ Below w.heap.size w w'))
    (KO : Box (∀ w, Calls Tryz.prog 31 #[.int .u8 m] w fun r w' => r = .returned (.bool o4) ∧ Below w.heap.size w w'))
    (KG : Box (∀ w, TabAt w → Calls Tryz.prog 32 #[.agg #[.bool b, .string s, .string t, .int .i64 e]] w fun r w' => r = .returned (.int .i64 g) ∧ Below w.heap.size w w'))
    (h3 : o3 = true) (h4 : o4 = true) (hg : (g == 0) = false)
    (K1 : Box (∀ w, FAt w → TabAt w → Calls Tryz.prog 22 #[.int .u8 f, .int .u8 m, .agg #[.bool b, .string s, .string t, .int .i64 e]] w fun r w' => r = .returned (.tuple #[.agg #[.int .u64 (u : Nat), .int .u64 (v : Nat)], .int .u8 fl, .int .i64 0]) ∧ Below w.heap.size w w'))
    (K2 : Box (∀ w, TabAt w → Calls Tryz.prog 39 #[.agg #[.bool b, .string s, .string t, .int .i64 e]] w fun r w' => r = .returned (.agg #[.bool (!b), .string s, .string t, .int .i64 e]) ∧ Below w.heap.size w w'))
    (K3 : Box (∀ w, FAt w → TabAt w → Calls Tryz.prog 22 #[.int .u8 f, .int .u8 (tmo m), .agg #[.bool (!b), .string s, .string t, .int .i64 e]] w fun r w' => r = .returned (.tuple #[.agg #[.int .u64 (i : Nat), .int .u64 (j : Nat)], .int .u8 fl, .int .i64 0]) ∧ Below w.heap.size w w'))
    (K4 : Box (∀ w, FAt w → Calls Tryz.prog 40 #[.int .u8 f, .agg #[.int .u64 (u : Nat), .int .u64 (v : Nat)]] w fun r w' => r = .returned (.agg #[.int .u64 (i : Nat), .int .u64 (j : Nat)]) ∧ Below w.heap.size w w'))
    (KA : Box (∀ w, FAt w → TabAt w → Calls Tryz.prog 21 #[] w fun r w' => r = .returned (.bool true) ∧ Below w.heap.size w w'))
    (hT : FAt w) (hT2 : TabAt w) : Calls Tryz.prog 9 #[.int .u8 f, .int .u8 m, .agg #[.bool b, .string s, .string t, .int .i64 e]] w fun r w' => r = .returned (.bool true) ∧ Below w.heap.size w w' := by
  have FF := box hT
  have TT := box hT2
  clear hT hT2
  subst h3 h4
  have c : m = 0 ∨ m = 1 ∨ m = 2 ∨ m = 3 ∨ m = 4 := by omega
  clear hm
  obtain ⟨nb, hnb⟩ : ∃ nb, (!b) = nb := ⟨_, rfl⟩
  rw [hnb] at K2 K3
  clear hnb
  rcases c with rfl | rfl | rfl | rfl | rfl
  · rw [show tmo 0 = 0 from rfl] at K3
    obtain ⟨Rx_0, B0⟩ := opn1 w (Obj.cells #[.bool b, .string s, .string t, .int .i64 e] 41)
    go_enter Tryz.func9, Tryz.ntmps9
    go_wp2_with fail
    refine (KS.out _).mono ?_
    rintro r w1 ⟨rfl, b1⟩
    have B1 : Below w.heap.size w w1 := btr B0 b1
    have Rx_1 := heap_of b1 _ _ _ Rx_0
    clear b1 B0 Rx_0
    obtain ⟨cx_1_0, cx_1_1, cx_1_2, cx_1_3⟩ := cells4s Rx_1
    go_wp2_with fail
    refine (KM.out _).mono ?_
    rintro r w2 ⟨rfl, b2⟩
    have B2 : Below w.heap.size w w2 := btr B1 b2
    have Rx_2 := heap_of b2 _ _ _ Rx_1
    clear b2 B1 Rx_1 cx_1_0 cx_1_1 cx_1_2 cx_1_3
    obtain ⟨cx_2_0, cx_2_1, cx_2_2, cx_2_3⟩ := cells4s Rx_2
    go_wp2_with fail
    refine (KF.out _).mono ?_
    rintro r w3 ⟨rfl, b3⟩
    have B3 : Below w.heap.size w w3 := btr B2 b3
    have Rx_3 := heap_of b3 _ _ _ Rx_2
    clear b3 B2 Rx_2 cx_2_0 cx_2_1 cx_2_2 cx_2_3
    obtain ⟨cx_3_0, cx_3_1, cx_3_2, cx_3_3⟩ := cells4s Rx_3
    go_wp2_with fail
    refine (KO.out _).mono ?_
    rintro r w4 ⟨rfl, b4⟩
    have B4 : Below w.heap.size w w4 := btr B3 b4
    have Rx_4 := heap_of b4 _ _ _ Rx_3
    clear b4 B3 Rx_3 cx_3_0 cx_3_1 cx_3_2 cx_3_3
    obtain ⟨cx_4_0, cx_4_1, cx_4_2, cx_4_3⟩ := cells4s Rx_4
    go_wp2_with fail
    refine (KG.out _ (tabB TT.out B4)).mono ?_
    rintro r w5 ⟨rfl, b5⟩
    have B5 : Below w.heap.size w w5 := btr B4 b5
    have Rx_5 := heap_of b5 _ _ _ Rx_4
    clear b5 B4 Rx_4 cx_4_0 cx_4_1 cx_4_2 cx_4_3
    obtain ⟨cx_5_0, cx_5_1, cx_5_2, cx_5_3⟩ := cells4s Rx_5
    go_wp2_with fail
    refine (K1.out _ (fatB FF.out B5) (tabB TT.out B5)).mono ?_
    rintro r w6 ⟨rfl, b6⟩
    have B6 : Below w.heap.size w w6 := btr B5 b6
    have Rx_6 := heap_of b6 _ _ _ Rx_5
    clear b6 B5 Rx_5 cx_5_0 cx_5_1 cx_5_2 cx_5_3
    obtain ⟨cx_6_0, cx_6_1, cx_6_2, cx_6_3⟩ := cells4s Rx_6
    have S7 := box B6.size
    have Lx_7 : Box (w.heap.size < w6.heap.size) := box (Array.getElem?_eq_some_iff.1 Rx_6).1
    have Rb_7 := heap_alloc_last w6 (Obj.cells #[.int .u64 (u : Nat), .int .u64 (v : Nat)] 25)
    have B7 := btr B6 (bal w6 (Obj.cells #[.int .u64 (u : Nat), .int .u64 (v : Nat)] 25))
    have Rx_7 := heap_of (bal w6 (Obj.cells #[.int .u64 (u : Nat), .int .u64 (v : Nat)] 25)) _ _ _ Rx_6
    clear B6 Rx_6 cx_6_0 cx_6_1 cx_6_2 cx_6_3
    obtain ⟨cx_7_0, cx_7_1, cx_7_2, cx_7_3⟩ := cells4s Rx_7
    obtain ⟨cb_7_0, cb_7_1⟩ := cells2s Rb_7
    go_wp2_with fail
    refine (K2.out _ (tabB TT.out B7)).mono ?_
    rintro r w8 ⟨rfl, b8⟩
    have B8 : Below w.heap.size w w8 := btr B7 b8
    have Rx_8 := heap_of b8 _ _ _ Rx_7
    have Rb_8 := heap_of b8 _ _ _ Rb_7
    clear b8 B7 Rx_7 cx_7_0 cx_7_1 cx_7_2 cx_7_3 Rb_7 cb_7_0 cb_7_1
    obtain ⟨cx_8_0, cx_8_1, cx_8_2, cx_8_3⟩ := cells4s Rx_8
    obtain ⟨cb_8_0, cb_8_1⟩ := cells2s Rb_8
    go_wp2_with fail
    refine (K3.out _ (fatB FF.out B8) (tabB TT.out B8)).mono ?_
    rintro r w9 ⟨rfl, b9⟩
    have B9 : Below w.heap.size w w9 := btr B8 b9
    have Rx_9 := heap_of b9 _ _ _ Rx_8
    have Rb_9 := heap_of b9 _ _ _ Rb_8
    clear b9 B8 Rx_8 cx_8_0 cx_8_1 cx_8_2 cx_8_3 Rb_8 cb_8_0 cb_8_1
    obtain ⟨cx_9_0, cx_9_1, cx_9_2, cx_9_3⟩ := cells4s Rx_9
    obtain ⟨cb_9_0, cb_9_1⟩ := cells2s Rb_9
    have S10 := box B9.size
    have Lx_10 : Box (w.heap.size < w9.heap.size) := box (Array.getElem?_eq_some_iff.1 Rx_9).1
    have Lb_10 : Box (w6.heap.size < w9.heap.size) := box (Array.getElem?_eq_some_iff.1 Rb_9).1
    have Rc_10 := heap_alloc_last w9 (Obj.cells #[.int .u64 (i : Nat), .int .u64 (j : Nat)] 25)
    have B10 := btr B9 (bal w9 (Obj.cells #[.int .u64 (i : Nat), .int .u64 (j : Nat)] 25))
    have Rx_10 := heap_of (bal w9 (Obj.cells #[.int .u64 (i : Nat), .int .u64 (j : Nat)] 25)) _ _ _ Rx_9
    have Rb_10 := heap_of (bal w9 (Obj.cells #[.int .u64 (i : Nat), .int .u64 (j : Nat)] 25)) _ _ _ Rb_9
    clear B9 Rx_9 cx_9_0 cx_9_1 cx_9_2 cx_9_3 Rb_9 cb_9_0 cb_9_1
    obtain ⟨cx_10_0, cx_10_1, cx_10_2, cx_10_3⟩ := cells4s Rx_10
    obtain ⟨cb_10_0, cb_10_1⟩ := cells2s Rb_10
    obtain ⟨cc_10_0, cc_10_1⟩ := cells2s Rc_10
    go_wp2_with fail
    obtain ⟨F, hF1, hF2⟩ := below_fun (w9.alloc (Obj.cells #[.int .u64 (i : Nat), .int .u64 (j : Nat)] 25))
    have fx_0 := fun u => cells4 (heap_of (hF1 u) _ _ _ Rx_10) 0 _ rfl
    have fx_1 := fun u => cells4 (heap_of (hF1 u) _ _ _ Rx_10) 1 _ rfl
    have fx_2 := fun u => cells4 (heap_of (hF1 u) _ _ _ Rx_10) 2 _ rfl
    have fx_3 := fun u => cells4 (heap_of (hF1 u) _ _ _ Rx_10) 3 _ rfl
    have fb_0 := fun u => cells4 (heap_of (hF1 u) _ _ _ Rb_10) 0 _ rfl
    have fb_1 := fun u => cells4 (heap_of (hF1 u) _ _ _ Rb_10) 1 _ rfl
    have fc_0 := fun u => cells4 (heap_of (hF1 u) _ _ _ Rc_10) 0 _ rfl
    have fc_1 := fun u => cells4 (heap_of (hF1 u) _ _ _ Rc_10) 1 _ rfl
    have FG : Box (∀ u, FAt (F u)) := box (fun u => fatB FF.out (btr B10 (hF1 u)))
    have TF : Box (∀ u, TabAt (F u)) := box (fun u => tabB TT.out (btr B10 (hF1 u)))
    refine wp_region_below F hF2 (by kernel_rfl) (by kernel_rfl) ?_
    repeat first | go_big_quiet_step (first | (go_at_call 40; exact quietF hF1 hF2 (K4.out _ (FG.out _))) | (go_at_call 21; exact quietF hF1 hF2 (KA.out _ (FG.out _) (TF.out _))) | fail) | quiet_step (first | (go_at_call 40; exact quietF hF1 hF2 (K4.out _ (FG.out _))) | (go_at_call 21; exact quietF hF1 hF2 (KA.out _ (FG.out _) (TF.out _))) | fail)
    refine wpQuiet_nil ?_
    rintro _ ⟨uW, rfl⟩
    have B11 := btr B10 (hF1 uW)
    have Rx_11 := heap_of (hF1 uW) _ _ _ Rx_10
    have Rb_11 := heap_of (hF1 uW) _ _ _ Rb_10
    have Rc_11 := heap_of (hF1 uW) _ _ _ Rc_10
    obtain ⟨w11, hw⟩ : ∃ V, F uW = V := ⟨_, rfl⟩
    rw [hw] at B11 Rx_11 Rb_11 Rc_11
    try rw [hw]
    clear hw hF1 hF2 B10 fx_0 fx_1 fx_2 fx_3 fb_0 fb_1 fc_0 fc_1 Rx_10 cx_10_0 cx_10_1 cx_10_2 cx_10_3 Rb_10 cb_10_0 cb_10_1 Rc_10 cc_10_0 cc_10_1
    clear FG
    clear TF
    clear F
    obtain ⟨cx_11_0, cx_11_1, cx_11_2, cx_11_3⟩ := cells4s Rx_11
    obtain ⟨cb_11_0, cb_11_1⟩ := cells2s Rb_11
    obtain ⟨cc_11_0, cc_11_1⟩ := cells2s Rc_11
    go_wp2
    go_ret
    exact ⟨rfl, B11⟩
  · rw [show tmo 1 = 1 from rfl] at K3
    obtain ⟨Rx_0, B0⟩ := opn1 w (Obj.cells #[.bool b, .string s, .string t, .int .i64 e] 41)
    go_enter Tryz.func9, Tryz.ntmps9
    go_wp2_with fail
    refine (KS.out _).mono ?_
    rintro r w1 ⟨rfl, b1⟩
    have B1 : Below w.heap.size w w1 := btr B0 b1
    have Rx_1 := heap_of b1 _ _ _ Rx_0
    clear b1 B0 Rx_0
    obtain ⟨cx_1_0, cx_1_1, cx_1_2, cx_1_3⟩ := cells4s Rx_1
    go_wp2_with fail
    refine (KM.out _).mono ?_
    rintro r w2 ⟨rfl, b2⟩
    have B2 : Below w.heap.size w w2 := btr B1 b2
    have Rx_2 := heap_of b2 _ _ _ Rx_1
    clear b2 B1 Rx_1 cx_1_0 cx_1_1 cx_1_2 cx_1_3
    obtain ⟨cx_2_0, cx_2_1, cx_2_2, cx_2_3⟩ := cells4s Rx_2
    go_wp2_with fail
    refine (KF.out _).mono ?_
    rintro r w3 ⟨rfl, b3⟩
    have B3 : Below w.heap.size w w3 := btr B2 b3
    have Rx_3 := heap_of b3 _ _ _ Rx_2
    clear b3 B2 Rx_2 cx_2_0 cx_2_1 cx_2_2 cx_2_3
    obtain ⟨cx_3_0, cx_3_1, cx_3_2, cx_3_3⟩ := cells4s Rx_3
    go_wp2_with fail
    refine (KO.out _).mono ?_
    rintro r w4 ⟨rfl, b4⟩
    have B4 : Below w.heap.size w w4 := btr B3 b4
    have Rx_4 := heap_of b4 _ _ _ Rx_3
    clear b4 B3 Rx_3 cx_3_0 cx_3_1 cx_3_2 cx_3_3
    obtain ⟨cx_4_0, cx_4_1, cx_4_2, cx_4_3⟩ := cells4s Rx_4
    go_wp2_with fail
    refine (KG.out _ (tabB TT.out B4)).mono ?_
    rintro r w5 ⟨rfl, b5⟩
    have B5 : Below w.heap.size w w5 := btr B4 b5
    have Rx_5 := heap_of b5 _ _ _ Rx_4
    clear b5 B4 Rx_4 cx_4_0 cx_4_1 cx_4_2 cx_4_3
    obtain ⟨cx_5_0, cx_5_1, cx_5_2, cx_5_3⟩ := cells4s Rx_5
    go_wp2_with fail
    refine (K1.out _ (fatB FF.out B5) (tabB TT.out B5)).mono ?_
    rintro r w6 ⟨rfl, b6⟩
    have B6 : Below w.heap.size w w6 := btr B5 b6
    have Rx_6 := heap_of b6 _ _ _ Rx_5
    clear b6 B5 Rx_5 cx_5_0 cx_5_1 cx_5_2 cx_5_3
    obtain ⟨cx_6_0, cx_6_1, cx_6_2, cx_6_3⟩ := cells4s Rx_6
    have S7 := box B6.size
    have Lx_7 : Box (w.heap.size < w6.heap.size) := box (Array.getElem?_eq_some_iff.1 Rx_6).1
    have Rb_7 := heap_alloc_last w6 (Obj.cells #[.int .u64 (u : Nat), .int .u64 (v : Nat)] 25)
    have B7 := btr B6 (bal w6 (Obj.cells #[.int .u64 (u : Nat), .int .u64 (v : Nat)] 25))
    have Rx_7 := heap_of (bal w6 (Obj.cells #[.int .u64 (u : Nat), .int .u64 (v : Nat)] 25)) _ _ _ Rx_6
    clear B6 Rx_6 cx_6_0 cx_6_1 cx_6_2 cx_6_3
    obtain ⟨cx_7_0, cx_7_1, cx_7_2, cx_7_3⟩ := cells4s Rx_7
    obtain ⟨cb_7_0, cb_7_1⟩ := cells2s Rb_7
    go_wp2_with fail
    refine (K2.out _ (tabB TT.out B7)).mono ?_
    rintro r w8 ⟨rfl, b8⟩
    have B8 : Below w.heap.size w w8 := btr B7 b8
    have Rx_8 := heap_of b8 _ _ _ Rx_7
    have Rb_8 := heap_of b8 _ _ _ Rb_7
    clear b8 B7 Rx_7 cx_7_0 cx_7_1 cx_7_2 cx_7_3 Rb_7 cb_7_0 cb_7_1
    obtain ⟨cx_8_0, cx_8_1, cx_8_2, cx_8_3⟩ := cells4s Rx_8
    obtain ⟨cb_8_0, cb_8_1⟩ := cells2s Rb_8
    go_wp2_with fail
    refine (K3.out _ (fatB FF.out B8) (tabB TT.out B8)).mono ?_
    rintro r w9 ⟨rfl, b9⟩
    have B9 : Below w.heap.size w w9 := btr B8 b9
    have Rx_9 := heap_of b9 _ _ _ Rx_8
    have Rb_9 := heap_of b9 _ _ _ Rb_8
    clear b9 B8 Rx_8 cx_8_0 cx_8_1 cx_8_2 cx_8_3 Rb_8 cb_8_0 cb_8_1
    obtain ⟨cx_9_0, cx_9_1, cx_9_2, cx_9_3⟩ := cells4s Rx_9
    obtain ⟨cb_9_0, cb_9_1⟩ := cells2s Rb_9
    have S10 := box B9.size
    have Lx_10 : Box (w.heap.size < w9.heap.size) := box (Array.getElem?_eq_some_iff.1 Rx_9).1
    have Lb_10 : Box (w6.heap.size < w9.heap.size) := box (Array.getElem?_eq_some_iff.1 Rb_9).1
    have Rc_10 := heap_alloc_last w9 (Obj.cells #[.int .u64 (i : Nat), .int .u64 (j : Nat)] 25)
    have B10 := btr B9 (bal w9 (Obj.cells #[.int .u64 (i : Nat), .int .u64 (j : Nat)] 25))
    have Rx_10 := heap_of (bal w9 (Obj.cells #[.int .u64 (i : Nat), .int .u64 (j : Nat)] 25)) _ _ _ Rx_9
    have Rb_10 := heap_of (bal w9 (Obj.cells #[.int .u64 (i : Nat), .int .u64 (j : Nat)] 25)) _ _ _ Rb_9
    clear B9 Rx_9 cx_9_0 cx_9_1 cx_9_2 cx_9_3 Rb_9 cb_9_0 cb_9_1
    obtain ⟨cx_10_0, cx_10_1, cx_10_2, cx_10_3⟩ := cells4s Rx_10
    obtain ⟨cb_10_0, cb_10_1⟩ := cells2s Rb_10
    obtain ⟨cc_10_0, cc_10_1⟩ := cells2s Rc_10
    go_wp2_with fail
    obtain ⟨F, hF1, hF2⟩ := below_fun (w9.alloc (Obj.cells #[.int .u64 (i : Nat), .int .u64 (j : Nat)] 25))
    have fx_0 := fun u => cells4 (heap_of (hF1 u) _ _ _ Rx_10) 0 _ rfl
    have fx_1 := fun u => cells4 (heap_of (hF1 u) _ _ _ Rx_10) 1 _ rfl
    have fx_2 := fun u => cells4 (heap_of (hF1 u) _ _ _ Rx_10) 2 _ rfl
    have fx_3 := fun u => cells4 (heap_of (hF1 u) _ _ _ Rx_10) 3 _ rfl
    have fb_0 := fun u => cells4 (heap_of (hF1 u) _ _ _ Rb_10) 0 _ rfl
    have fb_1 := fun u => cells4 (heap_of (hF1 u) _ _ _ Rb_10) 1 _ rfl
    have fc_0 := fun u => cells4 (heap_of (hF1 u) _ _ _ Rc_10) 0 _ rfl
    have fc_1 := fun u => cells4 (heap_of (hF1 u) _ _ _ Rc_10) 1 _ rfl
    have FG : Box (∀ u, FAt (F u)) := box (fun u => fatB FF.out (btr B10 (hF1 u)))
    have TF : Box (∀ u, TabAt (F u)) := box (fun u => tabB TT.out (btr B10 (hF1 u)))
    refine wp_region_below F hF2 (by kernel_rfl) (by kernel_rfl) ?_
    repeat first | go_big_quiet_step (first | (go_at_call 40; exact quietF hF1 hF2 (K4.out _ (FG.out _))) | (go_at_call 21; exact quietF hF1 hF2 (KA.out _ (FG.out _) (TF.out _))) | fail) | quiet_step (first | (go_at_call 40; exact quietF hF1 hF2 (K4.out _ (FG.out _))) | (go_at_call 21; exact quietF hF1 hF2 (KA.out _ (FG.out _) (TF.out _))) | fail)
    refine wpQuiet_nil ?_
    rintro _ ⟨uW, rfl⟩
    have B11 := btr B10 (hF1 uW)
    have Rx_11 := heap_of (hF1 uW) _ _ _ Rx_10
    have Rb_11 := heap_of (hF1 uW) _ _ _ Rb_10
    have Rc_11 := heap_of (hF1 uW) _ _ _ Rc_10
    obtain ⟨w11, hw⟩ : ∃ V, F uW = V := ⟨_, rfl⟩
    rw [hw] at B11 Rx_11 Rb_11 Rc_11
    try rw [hw]
    clear hw hF1 hF2 B10 fx_0 fx_1 fx_2 fx_3 fb_0 fb_1 fc_0 fc_1 Rx_10 cx_10_0 cx_10_1 cx_10_2 cx_10_3 Rb_10 cb_10_0 cb_10_1 Rc_10 cc_10_0 cc_10_1
    clear FG
    clear TF
    clear F
    obtain ⟨cx_11_0, cx_11_1, cx_11_2, cx_11_3⟩ := cells4s Rx_11
    obtain ⟨cb_11_0, cb_11_1⟩ := cells2s Rb_11
    obtain ⟨cc_11_0, cc_11_1⟩ := cells2s Rc_11
    go_wp2
    go_ret
    exact ⟨rfl, B11⟩
  · rw [show tmo 2 = 3 from rfl] at K3
    obtain ⟨Rx_0, B0⟩ := opn1 w (Obj.cells #[.bool b, .string s, .string t, .int .i64 e] 41)
    go_enter Tryz.func9, Tryz.ntmps9
    go_wp2_with fail
    refine (KS.out _).mono ?_
    rintro r w1 ⟨rfl, b1⟩
    have B1 : Below w.heap.size w w1 := btr B0 b1
    have Rx_1 := heap_of b1 _ _ _ Rx_0
    clear b1 B0 Rx_0
    obtain ⟨cx_1_0, cx_1_1, cx_1_2, cx_1_3⟩ := cells4s Rx_1
    go_wp2_with fail
    refine (KM.out _).mono ?_
    rintro r w2 ⟨rfl, b2⟩
    have B2 : Below w.heap.size w w2 := btr B1 b2
    have Rx_2 := heap_of b2 _ _ _ Rx_1
    clear b2 B1 Rx_1 cx_1_0 cx_1_1 cx_1_2 cx_1_3
    obtain ⟨cx_2_0, cx_2_1, cx_2_2, cx_2_3⟩ := cells4s Rx_2
    go_wp2_with fail
    refine (KF.out _).mono ?_
    rintro r w3 ⟨rfl, b3⟩
    have B3 : Below w.heap.size w w3 := btr B2 b3
    have Rx_3 := heap_of b3 _ _ _ Rx_2
    clear b3 B2 Rx_2 cx_2_0 cx_2_1 cx_2_2 cx_2_3
    obtain ⟨cx_3_0, cx_3_1, cx_3_2, cx_3_3⟩ := cells4s Rx_3
    go_wp2_with fail
    refine (KO.out _).mono ?_
    rintro r w4 ⟨rfl, b4⟩
    have B4 : Below w.heap.size w w4 := btr B3 b4
    have Rx_4 := heap_of b4 _ _ _ Rx_3
    clear b4 B3 Rx_3 cx_3_0 cx_3_1 cx_3_2 cx_3_3
    obtain ⟨cx_4_0, cx_4_1, cx_4_2, cx_4_3⟩ := cells4s Rx_4
    go_wp2_with fail
    refine (KG.out _ (tabB TT.out B4)).mono ?_
    rintro r w5 ⟨rfl, b5⟩
    have B5 : Below w.heap.size w w5 := btr B4 b5
    have Rx_5 := heap_of b5 _ _ _ Rx_4
    clear b5 B4 Rx_4 cx_4_0 cx_4_1 cx_4_2 cx_4_3
    obtain ⟨cx_5_0, cx_5_1, cx_5_2, cx_5_3⟩ := cells4s Rx_5
    go_wp2_with fail
    refine (K1.out _ (fatB FF.out B5) (tabB TT.out B5)).mono ?_
    rintro r w6 ⟨rfl, b6⟩
    have B6 : Below w.heap.size w w6 := btr B5 b6
    have Rx_6 := heap_of b6 _ _ _ Rx_5
    clear b6 B5 Rx_5 cx_5_0 cx_5_1 cx_5_2 cx_5_3
    obtain ⟨cx_6_0, cx_6_1, cx_6_2, cx_6_3⟩ := cells4s Rx_6
    have S7 := box B6.size
    have Lx_7 : Box (w.heap.size < w6.heap.size) := box (Array.getElem?_eq_some_iff.1 Rx_6).1
    have Rb_7 := heap_alloc_last w6 (Obj.cells #[.int .u64 (u : Nat), .int .u64 (v : Nat)] 25)
    have B7 := btr B6 (bal w6 (Obj.cells #[.int .u64 (u : Nat), .int .u64 (v : Nat)] 25))
    have Rx_7 := heap_of (bal w6 (Obj.cells #[.int .u64 (u : Nat), .int .u64 (v : Nat)] 25)) _ _ _ Rx_6
    clear B6 Rx_6 cx_6_0 cx_6_1 cx_6_2 cx_6_3
    obtain ⟨cx_7_0, cx_7_1, cx_7_2, cx_7_3⟩ := cells4s Rx_7
    obtain ⟨cb_7_0, cb_7_1⟩ := cells2s Rb_7
    go_wp2_with fail
    refine (K2.out _ (tabB TT.out B7)).mono ?_
    rintro r w8 ⟨rfl, b8⟩
    have B8 : Below w.heap.size w w8 := btr B7 b8
    have Rx_8 := heap_of b8 _ _ _ Rx_7
    have Rb_8 := heap_of b8 _ _ _ Rb_7
    clear b8 B7 Rx_7 cx_7_0 cx_7_1 cx_7_2 cx_7_3 Rb_7 cb_7_0 cb_7_1
    obtain ⟨cx_8_0, cx_8_1, cx_8_2, cx_8_3⟩ := cells4s Rx_8
    obtain ⟨cb_8_0, cb_8_1⟩ := cells2s Rb_8
    go_wp2_with fail
    refine (K3.out _ (fatB FF.out B8) (tabB TT.out B8)).mono ?_
    rintro r w9 ⟨rfl, b9⟩
    have B9 : Below w.heap.size w w9 := btr B8 b9
    have Rx_9 := heap_of b9 _ _ _ Rx_8
    have Rb_9 := heap_of b9 _ _ _ Rb_8
    clear b9 B8 Rx_8 cx_8_0 cx_8_1 cx_8_2 cx_8_3 Rb_8 cb_8_0 cb_8_1
    obtain ⟨cx_9_0, cx_9_1, cx_9_2, cx_9_3⟩ := cells4s Rx_9
    obtain ⟨cb_9_0, cb_9_1⟩ := cells2s Rb_9
    have S10 := box B9.size
    have Lx_10 : Box (w.heap.size < w9.heap.size) := box (Array.getElem?_eq_some_iff.1 Rx_9).1
    have Lb_10 : Box (w6.heap.size < w9.heap.size) := box (Array.getElem?_eq_some_iff.1 Rb_9).1
    have Rc_10 := heap_alloc_last w9 (Obj.cells #[.int .u64 (i : Nat), .int .u64 (j : Nat)] 25)
    have B10 := btr B9 (bal w9 (Obj.cells #[.int .u64 (i : Nat), .int .u64 (j : Nat)] 25))
    have Rx_10 := heap_of (bal w9 (Obj.cells #[.int .u64 (i : Nat), .int .u64 (j : Nat)] 25)) _ _ _ Rx_9
    have Rb_10 := heap_of (bal w9 (Obj.cells #[.int .u64 (i : Nat), .int .u64 (j : Nat)] 25)) _ _ _ Rb_9
    clear B9 Rx_9 cx_9_0 cx_9_1 cx_9_2 cx_9_3 Rb_9 cb_9_0 cb_9_1
    obtain ⟨cx_10_0, cx_10_1, cx_10_2, cx_10_3⟩ := cells4s Rx_10
    obtain ⟨cb_10_0, cb_10_1⟩ := cells2s Rb_10
    obtain ⟨cc_10_0, cc_10_1⟩ := cells2s Rc_10
    go_wp2_with fail
    obtain ⟨F, hF1, hF2⟩ := below_fun (w9.alloc (Obj.cells #[.int .u64 (i : Nat), .int .u64 (j : Nat)] 25))
    have fx_0 := fun u => cells4 (heap_of (hF1 u) _ _ _ Rx_10) 0 _ rfl
    have fx_1 := fun u => cells4 (heap_of (hF1 u) _ _ _ Rx_10) 1 _ rfl
    have fx_2 := fun u => cells4 (heap_of (hF1 u) _ _ _ Rx_10) 2 _ rfl
    have fx_3 := fun u => cells4 (heap_of (hF1 u) _ _ _ Rx_10) 3 _ rfl
    have fb_0 := fun u => cells4 (heap_of (hF1 u) _ _ _ Rb_10) 0 _ rfl
    have fb_1 := fun u => cells4 (heap_of (hF1 u) _ _ _ Rb_10) 1 _ rfl
    have fc_0 := fun u => cells4 (heap_of (hF1 u) _ _ _ Rc_10) 0 _ rfl
    have fc_1 := fun u => cells4 (heap_of (hF1 u) _ _ _ Rc_10) 1 _ rfl
    have FG : Box (∀ u, FAt (F u)) := box (fun u => fatB FF.out (btr B10 (hF1 u)))
    have TF : Box (∀ u, TabAt (F u)) := box (fun u => tabB TT.out (btr B10 (hF1 u)))
    refine wp_region_below F hF2 (by kernel_rfl) (by kernel_rfl) ?_
    repeat first | go_big_quiet_step (first | (go_at_call 40; exact quietF hF1 hF2 (K4.out _ (FG.out _))) | (go_at_call 21; exact quietF hF1 hF2 (KA.out _ (FG.out _) (TF.out _))) | fail) | quiet_step (first | (go_at_call 40; exact quietF hF1 hF2 (K4.out _ (FG.out _))) | (go_at_call 21; exact quietF hF1 hF2 (KA.out _ (FG.out _) (TF.out _))) | fail)
    refine wpQuiet_nil ?_
    rintro _ ⟨uW, rfl⟩
    have B11 := btr B10 (hF1 uW)
    have Rx_11 := heap_of (hF1 uW) _ _ _ Rx_10
    have Rb_11 := heap_of (hF1 uW) _ _ _ Rb_10
    have Rc_11 := heap_of (hF1 uW) _ _ _ Rc_10
    obtain ⟨w11, hw⟩ : ∃ V, F uW = V := ⟨_, rfl⟩
    rw [hw] at B11 Rx_11 Rb_11 Rc_11
    try rw [hw]
    clear hw hF1 hF2 B10 fx_0 fx_1 fx_2 fx_3 fb_0 fb_1 fc_0 fc_1 Rx_10 cx_10_0 cx_10_1 cx_10_2 cx_10_3 Rb_10 cb_10_0 cb_10_1 Rc_10 cc_10_0 cc_10_1
    clear FG
    clear TF
    clear F
    obtain ⟨cx_11_0, cx_11_1, cx_11_2, cx_11_3⟩ := cells4s Rx_11
    obtain ⟨cb_11_0, cb_11_1⟩ := cells2s Rb_11
    obtain ⟨cc_11_0, cc_11_1⟩ := cells2s Rc_11
    go_wp2
    go_ret
    exact ⟨rfl, B11⟩
  · rw [show tmo 3 = 2 from rfl] at K3
    obtain ⟨Rx_0, B0⟩ := opn1 w (Obj.cells #[.bool b, .string s, .string t, .int .i64 e] 41)
    go_enter Tryz.func9, Tryz.ntmps9
    go_wp2_with fail
    refine (KS.out _).mono ?_
    rintro r w1 ⟨rfl, b1⟩
    have B1 : Below w.heap.size w w1 := btr B0 b1
    have Rx_1 := heap_of b1 _ _ _ Rx_0
    clear b1 B0 Rx_0
    obtain ⟨cx_1_0, cx_1_1, cx_1_2, cx_1_3⟩ := cells4s Rx_1
    go_wp2_with fail
    refine (KM.out _).mono ?_
    rintro r w2 ⟨rfl, b2⟩
    have B2 : Below w.heap.size w w2 := btr B1 b2
    have Rx_2 := heap_of b2 _ _ _ Rx_1
    clear b2 B1 Rx_1 cx_1_0 cx_1_1 cx_1_2 cx_1_3
    obtain ⟨cx_2_0, cx_2_1, cx_2_2, cx_2_3⟩ := cells4s Rx_2
    go_wp2_with fail
    refine (KF.out _).mono ?_
    rintro r w3 ⟨rfl, b3⟩
    have B3 : Below w.heap.size w w3 := btr B2 b3
    have Rx_3 := heap_of b3 _ _ _ Rx_2
    clear b3 B2 Rx_2 cx_2_0 cx_2_1 cx_2_2 cx_2_3
    obtain ⟨cx_3_0, cx_3_1, cx_3_2, cx_3_3⟩ := cells4s Rx_3
    go_wp2_with fail
    refine (KO.out _).mono ?_
    rintro r w4 ⟨rfl, b4⟩
    have B4 : Below w.heap.size w w4 := btr B3 b4
    have Rx_4 := heap_of b4 _ _ _ Rx_3
    clear b4 B3 Rx_3 cx_3_0 cx_3_1 cx_3_2 cx_3_3
    obtain ⟨cx_4_0, cx_4_1, cx_4_2, cx_4_3⟩ := cells4s Rx_4
    go_wp2_with fail
    refine (KG.out _ (tabB TT.out B4)).mono ?_
    rintro r w5 ⟨rfl, b5⟩
    have B5 : Below w.heap.size w w5 := btr B4 b5
    have Rx_5 := heap_of b5 _ _ _ Rx_4
    clear b5 B4 Rx_4 cx_4_0 cx_4_1 cx_4_2 cx_4_3
    obtain ⟨cx_5_0, cx_5_1, cx_5_2, cx_5_3⟩ := cells4s Rx_5
    go_wp2_with fail
    refine (K1.out _ (fatB FF.out B5) (tabB TT.out B5)).mono ?_
    rintro r w6 ⟨rfl, b6⟩
    have B6 : Below w.heap.size w w6 := btr B5 b6
    have Rx_6 := heap_of b6 _ _ _ Rx_5
    clear b6 B5 Rx_5 cx_5_0 cx_5_1 cx_5_2 cx_5_3
    obtain ⟨cx_6_0, cx_6_1, cx_6_2, cx_6_3⟩ := cells4s Rx_6
    have S7 := box B6.size
    have Lx_7 : Box (w.heap.size < w6.heap.size) := box (Array.getElem?_eq_some_iff.1 Rx_6).1
    have Rb_7 := heap_alloc_last w6 (Obj.cells #[.int .u64 (u : Nat), .int .u64 (v : Nat)] 25)
    have B7 := btr B6 (bal w6 (Obj.cells #[.int .u64 (u : Nat), .int .u64 (v : Nat)] 25))
    have Rx_7 := heap_of (bal w6 (Obj.cells #[.int .u64 (u : Nat), .int .u64 (v : Nat)] 25)) _ _ _ Rx_6
    clear B6 Rx_6 cx_6_0 cx_6_1 cx_6_2 cx_6_3
    obtain ⟨cx_7_0, cx_7_1, cx_7_2, cx_7_3⟩ := cells4s Rx_7
    obtain ⟨cb_7_0, cb_7_1⟩ := cells2s Rb_7
    go_wp2_with fail
    refine (K2.out _ (tabB TT.out B7)).mono ?_
    rintro r w8 ⟨rfl, b8⟩
    have B8 : Below w.heap.size w w8 := btr B7 b8
    have Rx_8 := heap_of b8 _ _ _ Rx_7
    have Rb_8 := heap_of b8 _ _ _ Rb_7
    clear b8 B7 Rx_7 cx_7_0 cx_7_1 cx_7_2 cx_7_3 Rb_7 cb_7_0 cb_7_1
    obtain ⟨cx_8_0, cx_8_1, cx_8_2, cx_8_3⟩ := cells4s Rx_8
    obtain ⟨cb_8_0, cb_8_1⟩ := cells2s Rb_8
    go_wp2_with fail
    refine (K3.out _ (fatB FF.out B8) (tabB TT.out B8)).mono ?_
    rintro r w9 ⟨rfl, b9⟩
    have B9 : Below w.heap.size w w9 := btr B8 b9
    have Rx_9 := heap_of b9 _ _ _ Rx_8
    have Rb_9 := heap_of b9 _ _ _ Rb_8
    clear b9 B8 Rx_8 cx_8_0 cx_8_1 cx_8_2 cx_8_3 Rb_8 cb_8_0 cb_8_1
    obtain ⟨cx_9_0, cx_9_1, cx_9_2, cx_9_3⟩ := cells4s Rx_9
    obtain ⟨cb_9_0, cb_9_1⟩ := cells2s Rb_9
    have S10 := box B9.size
    have Lx_10 : Box (w.heap.size < w9.heap.size) := box (Array.getElem?_eq_some_iff.1 Rx_9).1
    have Lb_10 : Box (w6.heap.size < w9.heap.size) := box (Array.getElem?_eq_some_iff.1 Rb_9).1
    have Rc_10 := heap_alloc_last w9 (Obj.cells #[.int .u64 (i : Nat), .int .u64 (j : Nat)] 25)
    have B10 := btr B9 (bal w9 (Obj.cells #[.int .u64 (i : Nat), .int .u64 (j : Nat)] 25))
    have Rx_10 := heap_of (bal w9 (Obj.cells #[.int .u64 (i : Nat), .int .u64 (j : Nat)] 25)) _ _ _ Rx_9
    have Rb_10 := heap_of (bal w9 (Obj.cells #[.int .u64 (i : Nat), .int .u64 (j : Nat)] 25)) _ _ _ Rb_9
    clear B9 Rx_9 cx_9_0 cx_9_1 cx_9_2 cx_9_3 Rb_9 cb_9_0 cb_9_1
    obtain ⟨cx_10_0, cx_10_1, cx_10_2, cx_10_3⟩ := cells4s Rx_10
    obtain ⟨cb_10_0, cb_10_1⟩ := cells2s Rb_10
    obtain ⟨cc_10_0, cc_10_1⟩ := cells2s Rc_10
    go_wp2_with fail
    obtain ⟨F, hF1, hF2⟩ := below_fun (w9.alloc (Obj.cells #[.int .u64 (i : Nat), .int .u64 (j : Nat)] 25))
    have fx_0 := fun u => cells4 (heap_of (hF1 u) _ _ _ Rx_10) 0 _ rfl
    have fx_1 := fun u => cells4 (heap_of (hF1 u) _ _ _ Rx_10) 1 _ rfl
    have fx_2 := fun u => cells4 (heap_of (hF1 u) _ _ _ Rx_10) 2 _ rfl
    have fx_3 := fun u => cells4 (heap_of (hF1 u) _ _ _ Rx_10) 3 _ rfl
    have fb_0 := fun u => cells4 (heap_of (hF1 u) _ _ _ Rb_10) 0 _ rfl
    have fb_1 := fun u => cells4 (heap_of (hF1 u) _ _ _ Rb_10) 1 _ rfl
    have fc_0 := fun u => cells4 (heap_of (hF1 u) _ _ _ Rc_10) 0 _ rfl
    have fc_1 := fun u => cells4 (heap_of (hF1 u) _ _ _ Rc_10) 1 _ rfl
    have FG : Box (∀ u, FAt (F u)) := box (fun u => fatB FF.out (btr B10 (hF1 u)))
    have TF : Box (∀ u, TabAt (F u)) := box (fun u => tabB TT.out (btr B10 (hF1 u)))
    refine wp_region_below F hF2 (by kernel_rfl) (by kernel_rfl) ?_
    repeat first | go_big_quiet_step (first | (go_at_call 40; exact quietF hF1 hF2 (K4.out _ (FG.out _))) | (go_at_call 21; exact quietF hF1 hF2 (KA.out _ (FG.out _) (TF.out _))) | fail) | quiet_step (first | (go_at_call 40; exact quietF hF1 hF2 (K4.out _ (FG.out _))) | (go_at_call 21; exact quietF hF1 hF2 (KA.out _ (FG.out _) (TF.out _))) | fail)
    refine wpQuiet_nil ?_
    rintro _ ⟨uW, rfl⟩
    have B11 := btr B10 (hF1 uW)
    have Rx_11 := heap_of (hF1 uW) _ _ _ Rx_10
    have Rb_11 := heap_of (hF1 uW) _ _ _ Rb_10
    have Rc_11 := heap_of (hF1 uW) _ _ _ Rc_10
    obtain ⟨w11, hw⟩ : ∃ V, F uW = V := ⟨_, rfl⟩
    rw [hw] at B11 Rx_11 Rb_11 Rc_11
    try rw [hw]
    clear hw hF1 hF2 B10 fx_0 fx_1 fx_2 fx_3 fb_0 fb_1 fc_0 fc_1 Rx_10 cx_10_0 cx_10_1 cx_10_2 cx_10_3 Rb_10 cb_10_0 cb_10_1 Rc_10 cc_10_0 cc_10_1
    clear FG
    clear TF
    clear F
    obtain ⟨cx_11_0, cx_11_1, cx_11_2, cx_11_3⟩ := cells4s Rx_11
    obtain ⟨cb_11_0, cb_11_1⟩ := cells2s Rb_11
    obtain ⟨cc_11_0, cc_11_1⟩ := cells2s Rc_11
    go_wp2
    go_ret
    exact ⟨rfl, B11⟩
  · rw [show tmo 4 = 4 from rfl] at K3
    obtain ⟨Rx_0, B0⟩ := opn1 w (Obj.cells #[.bool b, .string s, .string t, .int .i64 e] 41)
    go_enter Tryz.func9, Tryz.ntmps9
    go_wp2_with fail
    refine (KS.out _).mono ?_
    rintro r w1 ⟨rfl, b1⟩
    have B1 : Below w.heap.size w w1 := btr B0 b1
    have Rx_1 := heap_of b1 _ _ _ Rx_0
    clear b1 B0 Rx_0
    obtain ⟨cx_1_0, cx_1_1, cx_1_2, cx_1_3⟩ := cells4s Rx_1
    go_wp2_with fail
    refine (KM.out _).mono ?_
    rintro r w2 ⟨rfl, b2⟩
    have B2 : Below w.heap.size w w2 := btr B1 b2
    have Rx_2 := heap_of b2 _ _ _ Rx_1
    clear b2 B1 Rx_1 cx_1_0 cx_1_1 cx_1_2 cx_1_3
    obtain ⟨cx_2_0, cx_2_1, cx_2_2, cx_2_3⟩ := cells4s Rx_2
    go_wp2_with fail
    refine (KF.out _).mono ?_
    rintro r w3 ⟨rfl, b3⟩
    have B3 : Below w.heap.size w w3 := btr B2 b3
    have Rx_3 := heap_of b3 _ _ _ Rx_2
    clear b3 B2 Rx_2 cx_2_0 cx_2_1 cx_2_2 cx_2_3
    obtain ⟨cx_3_0, cx_3_1, cx_3_2, cx_3_3⟩ := cells4s Rx_3
    go_wp2_with fail
    refine (KO.out _).mono ?_
    rintro r w4 ⟨rfl, b4⟩
    have B4 : Below w.heap.size w w4 := btr B3 b4
    have Rx_4 := heap_of b4 _ _ _ Rx_3
    clear b4 B3 Rx_3 cx_3_0 cx_3_1 cx_3_2 cx_3_3
    obtain ⟨cx_4_0, cx_4_1, cx_4_2, cx_4_3⟩ := cells4s Rx_4
    go_wp2_with fail
    refine (KG.out _ (tabB TT.out B4)).mono ?_
    rintro r w5 ⟨rfl, b5⟩
    have B5 : Below w.heap.size w w5 := btr B4 b5
    have Rx_5 := heap_of b5 _ _ _ Rx_4
    clear b5 B4 Rx_4 cx_4_0 cx_4_1 cx_4_2 cx_4_3
    obtain ⟨cx_5_0, cx_5_1, cx_5_2, cx_5_3⟩ := cells4s Rx_5
    go_wp2_with fail
    refine (K1.out _ (fatB FF.out B5) (tabB TT.out B5)).mono ?_
    rintro r w6 ⟨rfl, b6⟩
    have B6 : Below w.heap.size w w6 := btr B5 b6
    have Rx_6 := heap_of b6 _ _ _ Rx_5
    clear b6 B5 Rx_5 cx_5_0 cx_5_1 cx_5_2 cx_5_3
    obtain ⟨cx_6_0, cx_6_1, cx_6_2, cx_6_3⟩ := cells4s Rx_6
    have S7 := box B6.size
    have Lx_7 : Box (w.heap.size < w6.heap.size) := box (Array.getElem?_eq_some_iff.1 Rx_6).1
    have Rb_7 := heap_alloc_last w6 (Obj.cells #[.int .u64 (u : Nat), .int .u64 (v : Nat)] 25)
    have B7 := btr B6 (bal w6 (Obj.cells #[.int .u64 (u : Nat), .int .u64 (v : Nat)] 25))
    have Rx_7 := heap_of (bal w6 (Obj.cells #[.int .u64 (u : Nat), .int .u64 (v : Nat)] 25)) _ _ _ Rx_6
    clear B6 Rx_6 cx_6_0 cx_6_1 cx_6_2 cx_6_3
    obtain ⟨cx_7_0, cx_7_1, cx_7_2, cx_7_3⟩ := cells4s Rx_7
    obtain ⟨cb_7_0, cb_7_1⟩ := cells2s Rb_7
    go_wp2_with fail
    refine (K2.out _ (tabB TT.out B7)).mono ?_
    rintro r w8 ⟨rfl, b8⟩
    have B8 : Below w.heap.size w w8 := btr B7 b8
    have Rx_8 := heap_of b8 _ _ _ Rx_7
    have Rb_8 := heap_of b8 _ _ _ Rb_7
    clear b8 B7 Rx_7 cx_7_0 cx_7_1 cx_7_2 cx_7_3 Rb_7 cb_7_0 cb_7_1
    obtain ⟨cx_8_0, cx_8_1, cx_8_2, cx_8_3⟩ := cells4s Rx_8
    obtain ⟨cb_8_0, cb_8_1⟩ := cells2s Rb_8
    go_wp2_with fail
    refine (K3.out _ (fatB FF.out B8) (tabB TT.out B8)).mono ?_
    rintro r w9 ⟨rfl, b9⟩
    have B9 : Below w.heap.size w w9 := btr B8 b9
    have Rx_9 := heap_of b9 _ _ _ Rx_8
    have Rb_9 := heap_of b9 _ _ _ Rb_8
    clear b9 B8 Rx_8 cx_8_0 cx_8_1 cx_8_2 cx_8_3 Rb_8 cb_8_0 cb_8_1
    obtain ⟨cx_9_0, cx_9_1, cx_9_2, cx_9_3⟩ := cells4s Rx_9
    obtain ⟨cb_9_0, cb_9_1⟩ := cells2s Rb_9
    have S10 := box B9.size
    have Lx_10 : Box (w.heap.size < w9.heap.size) := box (Array.getElem?_eq_some_iff.1 Rx_9).1
    have Lb_10 : Box (w6.heap.size < w9.heap.size) := box (Array.getElem?_eq_some_iff.1 Rb_9).1
    have Rc_10 := heap_alloc_last w9 (Obj.cells #[.int .u64 (i : Nat), .int .u64 (j : Nat)] 25)
    have B10 := btr B9 (bal w9 (Obj.cells #[.int .u64 (i : Nat), .int .u64 (j : Nat)] 25))
    have Rx_10 := heap_of (bal w9 (Obj.cells #[.int .u64 (i : Nat), .int .u64 (j : Nat)] 25)) _ _ _ Rx_9
    have Rb_10 := heap_of (bal w9 (Obj.cells #[.int .u64 (i : Nat), .int .u64 (j : Nat)] 25)) _ _ _ Rb_9
    clear B9 Rx_9 cx_9_0 cx_9_1 cx_9_2 cx_9_3 Rb_9 cb_9_0 cb_9_1
    obtain ⟨cx_10_0, cx_10_1, cx_10_2, cx_10_3⟩ := cells4s Rx_10
    obtain ⟨cb_10_0, cb_10_1⟩ := cells2s Rb_10
    obtain ⟨cc_10_0, cc_10_1⟩ := cells2s Rc_10
    go_wp2_with fail
    obtain ⟨F, hF1, hF2⟩ := below_fun (w9.alloc (Obj.cells #[.int .u64 (i : Nat), .int .u64 (j : Nat)] 25))
    have fx_0 := fun u => cells4 (heap_of (hF1 u) _ _ _ Rx_10) 0 _ rfl
    have fx_1 := fun u => cells4 (heap_of (hF1 u) _ _ _ Rx_10) 1 _ rfl
    have fx_2 := fun u => cells4 (heap_of (hF1 u) _ _ _ Rx_10) 2 _ rfl
    have fx_3 := fun u => cells4 (heap_of (hF1 u) _ _ _ Rx_10) 3 _ rfl
    have fb_0 := fun u => cells4 (heap_of (hF1 u) _ _ _ Rb_10) 0 _ rfl
    have fb_1 := fun u => cells4 (heap_of (hF1 u) _ _ _ Rb_10) 1 _ rfl
    have fc_0 := fun u => cells4 (heap_of (hF1 u) _ _ _ Rc_10) 0 _ rfl
    have fc_1 := fun u => cells4 (heap_of (hF1 u) _ _ _ Rc_10) 1 _ rfl
    have FG : Box (∀ u, FAt (F u)) := box (fun u => fatB FF.out (btr B10 (hF1 u)))
    have TF : Box (∀ u, TabAt (F u)) := box (fun u => tabB TT.out (btr B10 (hF1 u)))
    refine wp_region_below F hF2 (by kernel_rfl) (by kernel_rfl) ?_
    repeat first | go_big_quiet_step (first | (go_at_call 40; exact quietF hF1 hF2 (K4.out _ (FG.out _))) | (go_at_call 21; exact quietF hF1 hF2 (KA.out _ (FG.out _) (TF.out _))) | fail) | quiet_step (first | (go_at_call 40; exact quietF hF1 hF2 (K4.out _ (FG.out _))) | (go_at_call 21; exact quietF hF1 hF2 (KA.out _ (FG.out _) (TF.out _))) | fail)
    refine wpQuiet_nil ?_
    rintro _ ⟨uW, rfl⟩
    have B11 := btr B10 (hF1 uW)
    have Rx_11 := heap_of (hF1 uW) _ _ _ Rx_10
    have Rb_11 := heap_of (hF1 uW) _ _ _ Rb_10
    have Rc_11 := heap_of (hF1 uW) _ _ _ Rc_10
    obtain ⟨w11, hw⟩ : ∃ V, F uW = V := ⟨_, rfl⟩
    rw [hw] at B11 Rx_11 Rb_11 Rc_11
    try rw [hw]
    clear hw hF1 hF2 B10 fx_0 fx_1 fx_2 fx_3 fb_0 fb_1 fc_0 fc_1 Rx_10 cx_10_0 cx_10_1 cx_10_2 cx_10_3 Rb_10 cb_10_0 cb_10_1 Rc_10 cc_10_0 cc_10_1
    clear FG
    clear TF
    clear F
    obtain ⟨cx_11_0, cx_11_1, cx_11_2, cx_11_3⟩ := cells4s Rx_11
    obtain ⟨cb_11_0, cb_11_1⟩ := cells2s Rb_11
    obtain ⟨cc_11_0, cc_11_1⟩ := cells2s Rc_11
    go_wp2
    go_ret
    exact ⟨rfl, B11⟩
end Go.Proofs.YtbmhfcppaajgbaaGreatDoor
namespace Go.Proofs.YtbmhfcppaajgbaaGreatDoor
set_option maxRecDepth 100000
open WMath
open Go.ChangeShapes Go.WideShapes Go.ChangeAt Go.RowKit

theorem trod_row4 {H : Type} {enc : TypeId × Value → H} {P : Program} {w : World} {base : Nat} {spare : Nat → Bool} {held : Bool} {t : TypeId} {f0 f1 f2 f3 : Field} {fuel : Nat} {cs : List Value} {x : DataW H × List MemPlace} (ht : P.underlying t = some (.struct #[f0, f1, f2, f3])) (h : DataW.trod enc P w base spare held fuel t cs = some x) :
    ∃ y0 y1 y2 y3 n, x = (.agg [y0.1, y1.1, y2.1, y3.1], y0.2 ++ (y1.2 ++ (y2.2 ++ y3.2))) ∧ DataW.trod enc P w base spare held n f0.type ((cs.drop f0.offset).take (P.cellsOf f0.type)) = some y0 ∧
      DataW.trod enc P w base spare held n f1.type ((cs.drop f1.offset).take (P.cellsOf f1.type)) = some y1 ∧ DataW.trod enc P w base spare held n f2.type ((cs.drop f2.offset).take (P.cellsOf f2.type)) = some y2 ∧
      DataW.trod enc P w base spare held n f3.type ((cs.drop f3.offset).take (P.cellsOf f3.type)) = some y3 := by
  obtain ⟨xs, n, _, rfl, hl, hlen, hf⟩ := DataW.trod_struct ht h
  match xs, hlen with
  | [y0, y1, y2, y3], _ => exact ⟨y0, y1, y2, y3, n, by simp, by simpa using hf 0 f0 rfl, by simpa using hf 1 f1 rfl, by simpa using hf 2 f2 rfl, by simpa using hf 3 f3 rfl⟩


theorem list4' {α : Type} (l : List α) (h : l.length = 4) : ∃ a b c d, l = [a, b, c, d] := by
  match l, h with
  | [a, b, c, d], _ => exact ⟨a, b, c, d, rfl⟩

theorem row_read {w : World} {fuel : Nat} {enc : TypeId × Value → Unit} {base : Nat} {spare : Nat → Bool} {held : Bool} {l : List Value} {a b c : Int} {s : List UInt8} {p : List MemPlace}
    (h : DataW.trod enc Tryz.prog w base spare held fuel 210 l = some (.agg [.lit (.int .i64 a), .lit (.int .i64 b), .lit (.int .i64 c), .lit (.string s)], p)) (hl : l.length = 4) :
    l = [.int .i64 a, .int .i64 b, .int .i64 c, .string ⟨⟨s⟩⟩] := by
  have h3 : Tryz.prog.cellsOf 3 = 1 := by kernel_rfl
  have h9 : Tryz.prog.cellsOf 9 = 1 := by kernel_rfl
  obtain ⟨c0, c1, c2, c3, rfl⟩ := list4' l hl
  obtain ⟨y0, y1, y2, y3, n, hx, g0, g1, g2, g3⟩ := trod_row4 Tryz.underlying210 h
  simp only [h3, h9] at g0 g1 g2 g3
  obtain ⟨x0, e0, k0, w0⟩ := DataW.trod_int Tryz.underlying3 g0
  obtain ⟨x1, e1, k1, w1⟩ := DataW.trod_int Tryz.underlying3 g1
  obtain ⟨x2, e2, k2, w2⟩ := DataW.trod_int Tryz.underlying3 g2
  obtain ⟨x3, e3, k3, w3⟩ := DataW.trod_string Tryz.underlying9 g3
  simp at e0 e1 e2 e3
  subst e0 e1 e2 e3
  rw [k0, k1, k2, k3] at hx
  simp at hx
  obtain ⟨⟨rfl, rfl, rfl, rfl⟩, _⟩ := hx
  rfl

def laid7 : List (String × DataW Unit) := [("abacus/shape.formats", Rows.laid_abacus_shape_formats)]
theorem gTab7 : Tryz.prog.globalNamed "abacus/shape.formats" = some 0 := by kernel_rfl
theorem gType7 : (Tryz.prog.globals[0]?).map (·.type) = some 265 := by kernel_rfl

theorem of_laid7 {W : World} (h : laidMetH Tryz.prog laid7 W) : FAt W := by
  have hce : Tryz.prog.cellsOf 210 = 4 := by kernel_rfl
  have hct : Tryz.prog.cellsOf 265 = 16 := by kernel_rfl
  rw [MakeChecks.laidMetH_plain _ _ _ (by kernel_rfl)] at h
  obtain ⟨ps, ⟨g', t', cs, fuel, p, q, hg', ht', hvar, hd, _, _⟩, _⟩ := h
  obtain rfl := Option.some.inj (gTab7.symm.trans hg')
  obtain rfl := Option.some.inj (gType7.symm.trans ht')
  obtain ⟨xs, m, rfl, hx, hl, hxl, hel⟩ := DataW.trod_array Tryz.underlying265 hd
  rw [hce] at hel
  rw [hct] at hl
  have hl2 : cs.size = 16 := by simpa using hl
  match xs, hxl with
  | [y0, y1, y2, y3], _ =>
    have hx1 := congrArg Prod.fst hx
    simp [Rows.laid_abacus_shape_formats] at hx1
    obtain ⟨h0, h1, h2, h3⟩ := hx1
    have q0 := hel 0 (by decide)
    have q1 := hel 1 (by decide)
    have q2 := hel 2 (by decide)
    have q3 := hel 3 (by decide)
    simp only [List.getElem?_cons_zero, List.getElem?_cons_succ] at q0 q1 q2 q3
    have z0 := row_read (p := y0.2) (by rw [q0, h0]) (by simp; omega)
    have z1 := row_read (p := y1.2) (by rw [q1, h1]) (by simp; omega)
    have z2 := row_read (p := y2.2) (by rw [q2, h2]) (by simp; omega)
    have z3 := row_read (p := y3.2) (by rw [q3, h3]) (by simp; omega)
    have hcs : ∀ i, i < 16 → cs.toList[i]? = fcells[i]? := by
      intro i hi
      have e0 : cs.toList[i]? = (cs.toList.drop (i / 4 * 4))[i % 4]? := by rw [List.getElem?_drop]; congr 1; omega
      have e1 : (cs.toList.drop (i / 4 * 4))[i % 4]? = ((cs.toList.drop (i / 4 * 4)).take 4)[i % 4]? := by rw [List.getElem?_take, if_pos (by omega)]
      rw [e0, e1]
      have : i / 4 = 0 ∨ i / 4 = 1 ∨ i / 4 = 2 ∨ i / 4 = 3 := by omega
      have hj : i % 4 = 0 ∨ i % 4 = 1 ∨ i % 4 = 2 ∨ i % 4 = 3 := by omega
      have hi2 : i = i / 4 * 4 + i % 4 := by omega
      rcases this with e | e | e | e <;> rw [e] at hi2 ⊢ <;> rcases hj with k | k | k | k <;> rw [k] at hi2 ⊢ <;> subst hi2 <;> first | (rw [z0]; rfl) | (rw [z1]; rfl) | (rw [z2]; rfl) | (rw [z3]; rfl)
    intro i hi
    rw [World.var?_cell gTab7 hvar i, ← hcs i hi]
    simp

end Go.Proofs.YtbmhfcppaajgbaaGreatDoor
namespace Go.Proofs.YtbmhfcppaajgbaaGreatDoor
set_option maxRecDepth 100000
open WMath
open Go.ChangeShapes Go.WideShapes Go.ChangeAt Go.RowKit

def tabZ8 : List Int := [0, 1, 56, 2, 57, 49, 28, 3, 61, 58, 42, 50, 38, 29, 17, 4, 62, 47, 59, 36, 45, 43, 51, 22, 53, 39, 33, 30, 24, 18, 12, 5, 63, 55, 48, 27, 60, 41, 37, 16, 46, 35, 44, 21, 52, 32, 23, 11, 54, 26, 40, 15, 34, 20, 31, 10, 25, 14, 19, 9, 13, 8, 7, 6]
def laid8 : List (String × DataW Unit) := [("math/bits.deBruijn64tab", Rows.laid_math_bits_deBruijn64tab), ("abacus/shape.formats", Rows.laid_abacus_shape_formats)]
theorem gTab8 : Tryz.prog.globalNamed "math/bits.deBruijn64tab" = some 5 := by kernel_rfl
theorem gType8 : (Tryz.prog.globals[5]?).map (·.type) = some 323 := by kernel_rfl
theorem cells58 : Tryz.prog.cellsOf 5 = 1 := by kernel_rfl
theorem cellsT8 : Tryz.prog.cellsOf 323 = 64 := by kernel_rfl
theorem tab_at8 : ∀ i : Fin 64, tabZ8.getD i.val 0 = ((Lib.deBruijn64tab.getD i.val 0 : Nat) : Int) := by decide +kernel

theorem of_laid8 {W : World} (h : laidMetH Tryz.prog laid8 W) : TabAt W ∧ FAt W := by
  rw [MakeChecks.laidMetH_plain _ _ _ (by kernel_rfl)] at h
  have ht := laidMet.tail h
  constructor
  · have h' : laidMet Tryz.prog (("math/bits.deBruijn64tab", Lib.tabData .u8 tabZ8) :: [("abacus/shape.formats", Rows.laid_abacus_shape_formats)]) W := h
    have hT := Lib.tabIs_of_head gTab8 gType8 Tryz.underlying323 Tryz.underlying5 cells58 cellsT8 h'
    intro i hi
    have hc := hT.cell gTab8 i (show i < tabZ8.length from hi)
    rw [tab_at8 ⟨i, hi⟩] at hc
    exact hc
  · refine of_laid7 ?_
    rw [MakeChecks.laidMetH_plain _ _ _ (by kernel_rfl)]
    exact ht

theorem door_met8 (os : Os) (args : Array Value) : laidMetH Tryz.prog laid8 ((World.doorLaid Tryz.prog 400 os).forCall (fun _ _ => 0) ⟨#[], args, []⟩).memory :=
  laidMetH_of_parts3 (fuel := 8) (laidMet_of_run' 8 (by kernel_rfl) (by kernel_rfl)) (by kernel_rfl) (by kernel_rfl)
end Go.Proofs.YtbmhfcppaajgbaaGreatDoor
