/-
  What the functions that the statement reaches return: part 15 (GM).
-/
import Derived.Test.YtlpelcfaakfmiaaGreatDoorTe14
namespace Go.Proofs.YtlpelcfaakfmiaaGreatDoor
set_option maxRecDepth 100000
set_option maxHeartbeats 40000000
set_option maxRecDepth 100000
open Go.RowKit WMath
set_option linter.unusedSimpArgs false
set_option linter.unusedVariables false
theorem r19_Least_0 (w : World) : Calls Tryz.prog 10 #[.int .u8 0] w fun r w' => r = .returned (.int .u64 18446744071562067968) ∧ Below w.heap.size w w' := by
  have B0 : Below w.heap.size w w := (Below.refl _ _)
  go_enter Tryz.func10, Tryz.ntmps10
  go_wp2
  go_ret
  exact ⟨rfl, B0⟩
theorem r19_Least_2 (w : World) : Calls Tryz.prog 10 #[.int .u8 2] w fun r w' => r = .returned (.int .u64 9223372036854775808) ∧ Below w.heap.size w w' := by
  have B0 : Below w.heap.size w w := (Below.refl _ _)
  go_enter Tryz.func10, Tryz.ntmps10
  go_wp2
  go_ret
  exact ⟨rfl, B0⟩
theorem r19_Least_n (k : Int) (k0 : (k == 0) = false) (k2 : (k == 2) = false) (w : World) : Calls Tryz.prog 10 #[.int .u8 k] w fun r w' => r = .returned (.int .u64 0) ∧ Below w.heap.size w w' := by
  have B0 : Below w.heap.size w w := (Below.refl _ _)
  go_enter Tryz.func10, Tryz.ntmps10
  go_wp2
  go_ret
  exact ⟨rfl, B0⟩
theorem r19_Greatest_0 (w : World) : Calls Tryz.prog 11 #[.int .u8 0] w fun r w' => r = .returned (.int .u64 2147483647) ∧ Below w.heap.size w w' := by
  have B0 : Below w.heap.size w w := (Below.refl _ _)
  go_enter Tryz.func11, Tryz.ntmps11
  go_wp2
  go_ret
  exact ⟨rfl, B0⟩
theorem r19_Greatest_2 (w : World) : Calls Tryz.prog 11 #[.int .u8 2] w fun r w' => r = .returned (.int .u64 9223372036854775807) ∧ Below w.heap.size w w' := by
  have B0 : Below w.heap.size w w := (Below.refl _ _)
  go_enter Tryz.func11, Tryz.ntmps11
  go_wp2
  go_ret
  exact ⟨rfl, B0⟩
theorem r19_Greatest_n (k : Int) (k0 : (k == 0) = false) (k2 : (k == 2) = false) (w : World) : Calls Tryz.prog 11 #[.int .u8 k] w fun r w' => r = .returned (.int .u64 18446744073709551615) ∧ Below w.heap.size w w' := by
  have B0 : Below w.heap.size w w := (Below.refl _ _)
  go_enter Tryz.func11, Tryz.ntmps11
  go_wp2
  go_ret
  exact ⟨rfl, B0⟩
set_option maxRecDepth 100000 in
set_option maxHeartbeats 8000000 in
theorem rrd_ex (f m : Int) (x1 y1 : Nat) (b3 : Bool) (n3 d3 : ByteArray) (e3 e4 g0 g1 : Int) (v0 v1 v2 : ByteArray) (w : World) (KV : Box (∀ w, Calls Tryz.prog 50 #[.int .u8 f, .agg #[.int .u64 (x1 : Nat), .int .u64 (y1 : Nat)]] w fun r w' => r = .returned (.tuple #[.agg #[.bool b3, .string n3, .string d3, .int .i64 e3], .int .i64 e4]) ∧ Below w.heap.size w w')) (KF0 : Box (∀ w, Calls Tryz.prog 51 #[.agg #[.bool b3, .string n3, .string d3, .int .i64 e3], .int .i64 0] w fun r w' => r = .returned (.tuple #[.string v0, .bool true, .int .i64 g0]) ∧ Below w.heap.size w w')) : Calls Tryz.prog 25 #[.int .u8 f, .int .u8 m, .agg #[.int .u64 (x1 : Nat), .int .u64 (y1 : Nat)]] w fun r w' => r = .returned (.tuple #[.string v0, .bool true]) ∧ Below w.heap.size w w' := by
  obtain ⟨Ra_0, B0⟩ := opn1 w (Obj.cells #[.int .u64 (x1 : Nat), .int .u64 (y1 : Nat)] 27)
  go_enter Tryz.func25, Tryz.ntmps25
  obtain ⟨ca_0_0, ca_0_1⟩ := cells2s Ra_0
  go_wp2_with fail
  refine (KV.out _).mono ?_
  rintro r w1 ⟨rfl, b1⟩
  have B1 : Below w.heap.size w w1 := btr B0 b1
  have Ra_1 := heap_of b1 _ _ _ Ra_0
  clear b1 B0 Ra_0 ca_0_0 ca_0_1
  obtain ⟨ca_1_0, ca_1_1⟩ := cells2s Ra_1
  have S2 := box B1.size
  have La_2 : Box (w.heap.size < w1.heap.size) := box (Array.getElem?_eq_some_iff.1 Ra_1).1
  have Rx_2 := heap_alloc_last w1 (Obj.cells #[.bool b3, .string n3, .string d3, .int .i64 e3] 89)
  have B2 := btr B1 (bal w1 (Obj.cells #[.bool b3, .string n3, .string d3, .int .i64 e3] 89))
  have Ra_2 := heap_of (bal w1 (Obj.cells #[.bool b3, .string n3, .string d3, .int .i64 e3] 89)) _ _ _ Ra_1
  clear B1 Ra_1 ca_1_0 ca_1_1
  obtain ⟨ca_2_0, ca_2_1⟩ := cells2s Ra_2
  obtain ⟨cx_2_0, cx_2_1, cx_2_2, cx_2_3⟩ := cells4s Rx_2
  go_wp2_with fail
  refine (KF0.out _).mono ?_
  rintro r w3 ⟨rfl, b3⟩
  have B3 : Below w.heap.size w w3 := btr B2 b3
  have Ra_3 := heap_of b3 _ _ _ Ra_2
  have Rx_3 := heap_of b3 _ _ _ Rx_2
  clear b3 B2 Ra_2 ca_2_0 ca_2_1 Rx_2 cx_2_0 cx_2_1 cx_2_2 cx_2_3
  obtain ⟨ca_3_0, ca_3_1⟩ := cells2s Ra_3
  obtain ⟨cx_3_0, cx_3_1, cx_3_2, cx_3_3⟩ := cells4s Rx_3
  go_wp2
  go_ret2
  exact ⟨rfl, B3⟩
set_option maxRecDepth 100000 in
set_option maxHeartbeats 8000000 in
theorem rrd_pet (f m : Int) (x1 y1 : Nat) (b3 : Bool) (n3 d3 : ByteArray) (e3 e4 g0 g1 : Int) (v0 v1 v2 : ByteArray) (wh od : Bool) (l0 l1 e5 : Int) (q1 : (v1.toList == []) = false)  (w : World) (KV : Box (∀ w, Calls Tryz.prog 50 #[.int .u8 f, .agg #[.int .u64 (x1 : Nat), .int .u64 (y1 : Nat)]] w fun r w' => r = .returned (.tuple #[.agg #[.bool b3, .string n3, .string d3, .int .i64 e3], .int .i64 e4]) ∧ Below w.heap.size w w')) (KF0 : Box (∀ w, Calls Tryz.prog 51 #[.agg #[.bool b3, .string n3, .string d3, .int .i64 e3], .int .i64 0] w fun r w' => r = .returned (.tuple #[.string ⟨#[]⟩, .bool false, .int .i64 g0]) ∧ Below w.heap.size w w')) (KF1 : Box (∀ w, Calls Tryz.prog 51 #[.agg #[.bool b3, .string n3, .string d3, .int .i64 e3], .int .i64 (-1)] w fun r w' => r = .returned (.tuple #[.string v1, .bool false, .int .i64 g1]) ∧ Below w.heap.size w w')) (KL1 : Box (∀ w, Calls Tryz.prog 52 #[.string v1] w fun r w' => r = .returned (.int .i64 0) ∧ Below w.heap.size w w')) (KU : Box (∀ w, Calls Tryz.prog 53 #[.int .u8 m, .bool b3, .bool false, .int .i64 (1), .bool false] w fun r w' => r = .returned (.bool true) ∧ Below w.heap.size w w')) (KP : Box (∀ w, Calls Tryz.prog 54 #[.string ⟨#[]⟩, .string ⟨#[1]⟩] w fun r w' => r = .returned (.tuple #[.string v2, .int .i64 e5]) ∧ Below w.heap.size w w')) : Calls Tryz.prog 25 #[.int .u8 f, .int .u8 m, .agg #[.int .u64 (x1 : Nat), .int .u64 (y1 : Nat)]] w fun r w' => r = .returned (.tuple #[.string v2, .bool false]) ∧ Below w.heap.size w w' := by
  obtain ⟨Ra_0, B0⟩ := opn1 w (Obj.cells #[.int .u64 (x1 : Nat), .int .u64 (y1 : Nat)] 27)
  go_enter Tryz.func25, Tryz.ntmps25
  obtain ⟨ca_0_0, ca_0_1⟩ := cells2s Ra_0
  go_wp2_with fail
  refine (KV.out _).mono ?_
  rintro r w1 ⟨rfl, b1⟩
  have B1 : Below w.heap.size w w1 := btr B0 b1
  have Ra_1 := heap_of b1 _ _ _ Ra_0
  clear b1 B0 Ra_0 ca_0_0 ca_0_1
  obtain ⟨ca_1_0, ca_1_1⟩ := cells2s Ra_1
  have S2 := box B1.size
  have La_2 : Box (w.heap.size < w1.heap.size) := box (Array.getElem?_eq_some_iff.1 Ra_1).1
  have Rx_2 := heap_alloc_last w1 (Obj.cells #[.bool b3, .string n3, .string d3, .int .i64 e3] 89)
  have B2 := btr B1 (bal w1 (Obj.cells #[.bool b3, .string n3, .string d3, .int .i64 e3] 89))
  have Ra_2 := heap_of (bal w1 (Obj.cells #[.bool b3, .string n3, .string d3, .int .i64 e3] 89)) _ _ _ Ra_1
  clear B1 Ra_1 ca_1_0 ca_1_1
  obtain ⟨ca_2_0, ca_2_1⟩ := cells2s Ra_2
  obtain ⟨cx_2_0, cx_2_1, cx_2_2, cx_2_3⟩ := cells4s Rx_2
  go_wp2_with fail
  refine (KF0.out _).mono ?_
  rintro r w3 ⟨rfl, b3⟩
  have B3 : Below w.heap.size w w3 := btr B2 b3
  have Ra_3 := heap_of b3 _ _ _ Ra_2
  have Rx_3 := heap_of b3 _ _ _ Rx_2
  clear b3 B2 Ra_2 ca_2_0 ca_2_1 Rx_2 cx_2_0 cx_2_1 cx_2_2 cx_2_3
  obtain ⟨ca_3_0, ca_3_1⟩ := cells2s Ra_3
  obtain ⟨cx_3_0, cx_3_1, cx_3_2, cx_3_3⟩ := cells4s Rx_3
  go_wp2_with fail
  refine (KF1.out _).mono ?_
  rintro r w4 ⟨rfl, b4⟩
  have B4 : Below w.heap.size w w4 := btr B3 b4
  have Ra_4 := heap_of b4 _ _ _ Ra_3
  have Rx_4 := heap_of b4 _ _ _ Rx_3
  clear b4 B3 Ra_3 ca_3_0 ca_3_1 Rx_3 cx_3_0 cx_3_1 cx_3_2 cx_3_3
  obtain ⟨ca_4_0, ca_4_1⟩ := cells2s Ra_4
  obtain ⟨cx_4_0, cx_4_1, cx_4_2, cx_4_3⟩ := cells4s Rx_4
  go_wp2_with fail
  refine (KL1.out _).mono ?_
  rintro r w5 ⟨rfl, b5⟩
  have B5 : Below w.heap.size w w5 := btr B4 b5
  have Ra_5 := heap_of b5 _ _ _ Ra_4
  have Rx_5 := heap_of b5 _ _ _ Rx_4
  clear b5 B4 Ra_4 ca_4_0 ca_4_1 Rx_4 cx_4_0 cx_4_1 cx_4_2 cx_4_3
  obtain ⟨ca_5_0, ca_5_1⟩ := cells2s Ra_5
  obtain ⟨cx_5_0, cx_5_1, cx_5_2, cx_5_3⟩ := cells4s Rx_5
  go_wp2_with fail
  refine (KU.out _).mono ?_
  rintro r w6 ⟨rfl, b6⟩
  have B6 : Below w.heap.size w w6 := btr B5 b6
  have Ra_6 := heap_of b6 _ _ _ Ra_5
  have Rx_6 := heap_of b6 _ _ _ Rx_5
  clear b6 B5 Ra_5 ca_5_0 ca_5_1 Rx_5 cx_5_0 cx_5_1 cx_5_2 cx_5_3
  obtain ⟨ca_6_0, ca_6_1⟩ := cells2s Ra_6
  obtain ⟨cx_6_0, cx_6_1, cx_6_2, cx_6_3⟩ := cells4s Rx_6
  go_wp2_with fail
  refine (KP.out _).mono ?_
  rintro r w7 ⟨rfl, b7⟩
  have B7 : Below w.heap.size w w7 := btr B6 b7
  have Ra_7 := heap_of b7 _ _ _ Ra_6
  have Rx_7 := heap_of b7 _ _ _ Rx_6
  clear b7 B6 Ra_6 ca_6_0 ca_6_1 Rx_6 cx_6_0 cx_6_1 cx_6_2 cx_6_3
  obtain ⟨ca_7_0, ca_7_1⟩ := cells2s Ra_7
  obtain ⟨cx_7_0, cx_7_1, cx_7_2, cx_7_3⟩ := cells4s Rx_7
  go_wp2
  go_ret2
  exact ⟨rfl, B7⟩
set_option maxRecDepth 100000 in
set_option maxHeartbeats 8000000 in
theorem rrd_pef (f m : Int) (x1 y1 : Nat) (b3 : Bool) (n3 d3 : ByteArray) (e3 e4 g0 g1 : Int) (v0 v1 v2 : ByteArray) (wh od : Bool) (l0 l1 e5 : Int) (q1 : (v1.toList == []) = false)  (w : World) (KV : Box (∀ w, Calls Tryz.prog 50 #[.int .u8 f, .agg #[.int .u64 (x1 : Nat), .int .u64 (y1 : Nat)]] w fun r w' => r = .returned (.tuple #[.agg #[.bool b3, .string n3, .string d3, .int .i64 e3], .int .i64 e4]) ∧ Below w.heap.size w w')) (KF0 : Box (∀ w, Calls Tryz.prog 51 #[.agg #[.bool b3, .string n3, .string d3, .int .i64 e3], .int .i64 0] w fun r w' => r = .returned (.tuple #[.string ⟨#[]⟩, .bool false, .int .i64 g0]) ∧ Below w.heap.size w w')) (KF1 : Box (∀ w, Calls Tryz.prog 51 #[.agg #[.bool b3, .string n3, .string d3, .int .i64 e3], .int .i64 (-1)] w fun r w' => r = .returned (.tuple #[.string v1, .bool false, .int .i64 g1]) ∧ Below w.heap.size w w')) (KL1 : Box (∀ w, Calls Tryz.prog 52 #[.string v1] w fun r w' => r = .returned (.int .i64 0) ∧ Below w.heap.size w w')) (KU : Box (∀ w, Calls Tryz.prog 53 #[.int .u8 m, .bool b3, .bool false, .int .i64 (1), .bool false] w fun r w' => r = .returned (.bool false) ∧ Below w.heap.size w w')) : Calls Tryz.prog 25 #[.int .u8 f, .int .u8 m, .agg #[.int .u64 (x1 : Nat), .int .u64 (y1 : Nat)]] w fun r w' => r = .returned (.tuple #[.string ⟨#[]⟩, .bool false]) ∧ Below w.heap.size w w' := by
  obtain ⟨Ra_0, B0⟩ := opn1 w (Obj.cells #[.int .u64 (x1 : Nat), .int .u64 (y1 : Nat)] 27)
  go_enter Tryz.func25, Tryz.ntmps25
  obtain ⟨ca_0_0, ca_0_1⟩ := cells2s Ra_0
  go_wp2_with fail
  refine (KV.out _).mono ?_
  rintro r w1 ⟨rfl, b1⟩
  have B1 : Below w.heap.size w w1 := btr B0 b1
  have Ra_1 := heap_of b1 _ _ _ Ra_0
  clear b1 B0 Ra_0 ca_0_0 ca_0_1
  obtain ⟨ca_1_0, ca_1_1⟩ := cells2s Ra_1
  have S2 := box B1.size
  have La_2 : Box (w.heap.size < w1.heap.size) := box (Array.getElem?_eq_some_iff.1 Ra_1).1
  have Rx_2 := heap_alloc_last w1 (Obj.cells #[.bool b3, .string n3, .string d3, .int .i64 e3] 89)
  have B2 := btr B1 (bal w1 (Obj.cells #[.bool b3, .string n3, .string d3, .int .i64 e3] 89))
  have Ra_2 := heap_of (bal w1 (Obj.cells #[.bool b3, .string n3, .string d3, .int .i64 e3] 89)) _ _ _ Ra_1
  clear B1 Ra_1 ca_1_0 ca_1_1
  obtain ⟨ca_2_0, ca_2_1⟩ := cells2s Ra_2
  obtain ⟨cx_2_0, cx_2_1, cx_2_2, cx_2_3⟩ := cells4s Rx_2
  go_wp2_with fail
  refine (KF0.out _).mono ?_
  rintro r w3 ⟨rfl, b3⟩
  have B3 : Below w.heap.size w w3 := btr B2 b3
  have Ra_3 := heap_of b3 _ _ _ Ra_2
  have Rx_3 := heap_of b3 _ _ _ Rx_2
  clear b3 B2 Ra_2 ca_2_0 ca_2_1 Rx_2 cx_2_0 cx_2_1 cx_2_2 cx_2_3
  obtain ⟨ca_3_0, ca_3_1⟩ := cells2s Ra_3
  obtain ⟨cx_3_0, cx_3_1, cx_3_2, cx_3_3⟩ := cells4s Rx_3
  go_wp2_with fail
  refine (KF1.out _).mono ?_
  rintro r w4 ⟨rfl, b4⟩
  have B4 : Below w.heap.size w w4 := btr B3 b4
  have Ra_4 := heap_of b4 _ _ _ Ra_3
  have Rx_4 := heap_of b4 _ _ _ Rx_3
  clear b4 B3 Ra_3 ca_3_0 ca_3_1 Rx_3 cx_3_0 cx_3_1 cx_3_2 cx_3_3
  obtain ⟨ca_4_0, ca_4_1⟩ := cells2s Ra_4
  obtain ⟨cx_4_0, cx_4_1, cx_4_2, cx_4_3⟩ := cells4s Rx_4
  go_wp2_with fail
  refine (KL1.out _).mono ?_
  rintro r w5 ⟨rfl, b5⟩
  have B5 : Below w.heap.size w w5 := btr B4 b5
  have Ra_5 := heap_of b5 _ _ _ Ra_4
  have Rx_5 := heap_of b5 _ _ _ Rx_4
  clear b5 B4 Ra_4 ca_4_0 ca_4_1 Rx_4 cx_4_0 cx_4_1 cx_4_2 cx_4_3
  obtain ⟨ca_5_0, ca_5_1⟩ := cells2s Ra_5
  obtain ⟨cx_5_0, cx_5_1, cx_5_2, cx_5_3⟩ := cells4s Rx_5
  go_wp2_with fail
  refine (KU.out _).mono ?_
  rintro r w6 ⟨rfl, b6⟩
  have B6 : Below w.heap.size w w6 := btr B5 b6
  have Ra_6 := heap_of b6 _ _ _ Ra_5
  have Rx_6 := heap_of b6 _ _ _ Rx_5
  clear b6 B5 Ra_5 ca_5_0 ca_5_1 Rx_5 cx_5_0 cx_5_1 cx_5_2 cx_5_3
  obtain ⟨ca_6_0, ca_6_1⟩ := cells2s Ra_6
  obtain ⟨cx_6_0, cx_6_1, cx_6_2, cx_6_3⟩ := cells4s Rx_6
  go_wp2
  go_ret2
  exact ⟨rfl, B6⟩
set_option maxRecDepth 100000 in
set_option maxHeartbeats 8000000 in
theorem rrd_pft (f m : Int) (x1 y1 : Nat) (b3 : Bool) (n3 d3 : ByteArray) (e3 e4 g0 g1 : Int) (v0 v1 v2 : ByteArray) (wh od : Bool) (l0 l1 e5 : Int) (q1 : (v1.toList == []) = false) (q0 : (v0.toList == []) = false) (p0 : (l0 == 0) = od) (w : World) (KV : Box (∀ w, Calls Tryz.prog 50 #[.int .u8 f, .agg #[.int .u64 (x1 : Nat), .int .u64 (y1 : Nat)]] w fun r w' => r = .returned (.tuple #[.agg #[.bool b3, .string n3, .string d3, .int .i64 e3], .int .i64 e4]) ∧ Below w.heap.size w w')) (KF0 : Box (∀ w, Calls Tryz.prog 51 #[.agg #[.bool b3, .string n3, .string d3, .int .i64 e3], .int .i64 0] w fun r w' => r = .returned (.tuple #[.string v0, .bool false, .int .i64 g0]) ∧ Below w.heap.size w w')) (KF1 : Box (∀ w, Calls Tryz.prog 51 #[.agg #[.bool b3, .string n3, .string d3, .int .i64 e3], .int .i64 (-1)] w fun r w' => r = .returned (.tuple #[.string v1, .bool false, .int .i64 g1]) ∧ Below w.heap.size w w')) (KL1 : Box (∀ w, Calls Tryz.prog 52 #[.string v1] w fun r w' => r = .returned (.int .i64 0) ∧ Below w.heap.size w w')) (KL0 : Box (∀ w, Calls Tryz.prog 52 #[.string v0] w fun r w' => r = .returned (.int .i64 l0) ∧ Below w.heap.size w w')) (KU : Box (∀ w, Calls Tryz.prog 53 #[.int .u8 m, .bool b3, .bool od, .int .i64 (1), .bool false] w fun r w' => r = .returned (.bool true) ∧ Below w.heap.size w w')) (KP : Box (∀ w, Calls Tryz.prog 54 #[.string v0, .string ⟨#[1]⟩] w fun r w' => r = .returned (.tuple #[.string v2, .int .i64 e5]) ∧ Below w.heap.size w w')) : Calls Tryz.prog 25 #[.int .u8 f, .int .u8 m, .agg #[.int .u64 (x1 : Nat), .int .u64 (y1 : Nat)]] w fun r w' => r = .returned (.tuple #[.string v2, .bool false]) ∧ Below w.heap.size w w' := by
  obtain ⟨Ra_0, B0⟩ := opn1 w (Obj.cells #[.int .u64 (x1 : Nat), .int .u64 (y1 : Nat)] 27)
  go_enter Tryz.func25, Tryz.ntmps25
  obtain ⟨ca_0_0, ca_0_1⟩ := cells2s Ra_0
  go_wp2_with fail
  refine (KV.out _).mono ?_
  rintro r w1 ⟨rfl, b1⟩
  have B1 : Below w.heap.size w w1 := btr B0 b1
  have Ra_1 := heap_of b1 _ _ _ Ra_0
  clear b1 B0 Ra_0 ca_0_0 ca_0_1
  obtain ⟨ca_1_0, ca_1_1⟩ := cells2s Ra_1
  have S2 := box B1.size
  have La_2 : Box (w.heap.size < w1.heap.size) := box (Array.getElem?_eq_some_iff.1 Ra_1).1
  have Rx_2 := heap_alloc_last w1 (Obj.cells #[.bool b3, .string n3, .string d3, .int .i64 e3] 89)
  have B2 := btr B1 (bal w1 (Obj.cells #[.bool b3, .string n3, .string d3, .int .i64 e3] 89))
  have Ra_2 := heap_of (bal w1 (Obj.cells #[.bool b3, .string n3, .string d3, .int .i64 e3] 89)) _ _ _ Ra_1
  clear B1 Ra_1 ca_1_0 ca_1_1
  obtain ⟨ca_2_0, ca_2_1⟩ := cells2s Ra_2
  obtain ⟨cx_2_0, cx_2_1, cx_2_2, cx_2_3⟩ := cells4s Rx_2
  go_wp2_with fail
  refine (KF0.out _).mono ?_
  rintro r w3 ⟨rfl, b3⟩
  have B3 : Below w.heap.size w w3 := btr B2 b3
  have Ra_3 := heap_of b3 _ _ _ Ra_2
  have Rx_3 := heap_of b3 _ _ _ Rx_2
  clear b3 B2 Ra_2 ca_2_0 ca_2_1 Rx_2 cx_2_0 cx_2_1 cx_2_2 cx_2_3
  obtain ⟨ca_3_0, ca_3_1⟩ := cells2s Ra_3
  obtain ⟨cx_3_0, cx_3_1, cx_3_2, cx_3_3⟩ := cells4s Rx_3
  go_wp2_with fail
  refine (KF1.out _).mono ?_
  rintro r w4 ⟨rfl, b4⟩
  have B4 : Below w.heap.size w w4 := btr B3 b4
  have Ra_4 := heap_of b4 _ _ _ Ra_3
  have Rx_4 := heap_of b4 _ _ _ Rx_3
  clear b4 B3 Ra_3 ca_3_0 ca_3_1 Rx_3 cx_3_0 cx_3_1 cx_3_2 cx_3_3
  obtain ⟨ca_4_0, ca_4_1⟩ := cells2s Ra_4
  obtain ⟨cx_4_0, cx_4_1, cx_4_2, cx_4_3⟩ := cells4s Rx_4
  go_wp2_with fail
  refine (KL1.out _).mono ?_
  rintro r w5 ⟨rfl, b5⟩
  have B5 : Below w.heap.size w w5 := btr B4 b5
  have Ra_5 := heap_of b5 _ _ _ Ra_4
  have Rx_5 := heap_of b5 _ _ _ Rx_4
  clear b5 B4 Ra_4 ca_4_0 ca_4_1 Rx_4 cx_4_0 cx_4_1 cx_4_2 cx_4_3
  obtain ⟨ca_5_0, ca_5_1⟩ := cells2s Ra_5
  obtain ⟨cx_5_0, cx_5_1, cx_5_2, cx_5_3⟩ := cells4s Rx_5
  go_wp2_with fail
  refine (KL0.out _).mono ?_
  rintro r w6 ⟨rfl, b6⟩
  have B6 : Below w.heap.size w w6 := btr B5 b6
  have Ra_6 := heap_of b6 _ _ _ Ra_5
  have Rx_6 := heap_of b6 _ _ _ Rx_5
  clear b6 B5 Ra_5 ca_5_0 ca_5_1 Rx_5 cx_5_0 cx_5_1 cx_5_2 cx_5_3
  obtain ⟨ca_6_0, ca_6_1⟩ := cells2s Ra_6
  obtain ⟨cx_6_0, cx_6_1, cx_6_2, cx_6_3⟩ := cells4s Rx_6
  go_wp2_with fail
  refine (KU.out _).mono ?_
  rintro r w7 ⟨rfl, b7⟩
  have B7 : Below w.heap.size w w7 := btr B6 b7
  have Ra_7 := heap_of b7 _ _ _ Ra_6
  have Rx_7 := heap_of b7 _ _ _ Rx_6
  clear b7 B6 Ra_6 ca_6_0 ca_6_1 Rx_6 cx_6_0 cx_6_1 cx_6_2 cx_6_3
  obtain ⟨ca_7_0, ca_7_1⟩ := cells2s Ra_7
  obtain ⟨cx_7_0, cx_7_1, cx_7_2, cx_7_3⟩ := cells4s Rx_7
  go_wp2_with fail
  refine (KP.out _).mono ?_
  rintro r w8 ⟨rfl, b8⟩
  have B8 : Below w.heap.size w w8 := btr B7 b8
  have Ra_8 := heap_of b8 _ _ _ Ra_7
  have Rx_8 := heap_of b8 _ _ _ Rx_7
  clear b8 B7 Ra_7 ca_7_0 ca_7_1 Rx_7 cx_7_0 cx_7_1 cx_7_2 cx_7_3
  obtain ⟨ca_8_0, ca_8_1⟩ := cells2s Ra_8
  obtain ⟨cx_8_0, cx_8_1, cx_8_2, cx_8_3⟩ := cells4s Rx_8
  go_wp2
  go_ret2
  exact ⟨rfl, B8⟩
set_option maxRecDepth 100000 in
set_option maxHeartbeats 8000000 in
theorem rrd_pff (f m : Int) (x1 y1 : Nat) (b3 : Bool) (n3 d3 : ByteArray) (e3 e4 g0 g1 : Int) (v0 v1 v2 : ByteArray) (wh od : Bool) (l0 l1 e5 : Int) (q1 : (v1.toList == []) = false) (q0 : (v0.toList == []) = false) (p0 : (l0 == 0) = od) (w : World) (KV : Box (∀ w, Calls Tryz.prog 50 #[.int .u8 f, .agg #[.int .u64 (x1 : Nat), .int .u64 (y1 : Nat)]] w fun r w' => r = .returned (.tuple #[.agg #[.bool b3, .string n3, .string d3, .int .i64 e3], .int .i64 e4]) ∧ Below w.heap.size w w')) (KF0 : Box (∀ w, Calls Tryz.prog 51 #[.agg #[.bool b3, .string n3, .string d3, .int .i64 e3], .int .i64 0] w fun r w' => r = .returned (.tuple #[.string v0, .bool false, .int .i64 g0]) ∧ Below w.heap.size w w')) (KF1 : Box (∀ w, Calls Tryz.prog 51 #[.agg #[.bool b3, .string n3, .string d3, .int .i64 e3], .int .i64 (-1)] w fun r w' => r = .returned (.tuple #[.string v1, .bool false, .int .i64 g1]) ∧ Below w.heap.size w w')) (KL1 : Box (∀ w, Calls Tryz.prog 52 #[.string v1] w fun r w' => r = .returned (.int .i64 0) ∧ Below w.heap.size w w')) (KL0 : Box (∀ w, Calls Tryz.prog 52 #[.string v0] w fun r w' => r = .returned (.int .i64 l0) ∧ Below w.heap.size w w')) (KU : Box (∀ w, Calls Tryz.prog 53 #[.int .u8 m, .bool b3, .bool od, .int .i64 (1), .bool false] w fun r w' => r = .returned (.bool false) ∧ Below w.heap.size w w')) : Calls Tryz.prog 25 #[.int .u8 f, .int .u8 m, .agg #[.int .u64 (x1 : Nat), .int .u64 (y1 : Nat)]] w fun r w' => r = .returned (.tuple #[.string v0, .bool false]) ∧ Below w.heap.size w w' := by
  obtain ⟨Ra_0, B0⟩ := opn1 w (Obj.cells #[.int .u64 (x1 : Nat), .int .u64 (y1 : Nat)] 27)
  go_enter Tryz.func25, Tryz.ntmps25
  obtain ⟨ca_0_0, ca_0_1⟩ := cells2s Ra_0
  go_wp2_with fail
  refine (KV.out _).mono ?_
  rintro r w1 ⟨rfl, b1⟩
  have B1 : Below w.heap.size w w1 := btr B0 b1
  have Ra_1 := heap_of b1 _ _ _ Ra_0
  clear b1 B0 Ra_0 ca_0_0 ca_0_1
  obtain ⟨ca_1_0, ca_1_1⟩ := cells2s Ra_1
  have S2 := box B1.size
  have La_2 : Box (w.heap.size < w1.heap.size) := box (Array.getElem?_eq_some_iff.1 Ra_1).1
  have Rx_2 := heap_alloc_last w1 (Obj.cells #[.bool b3, .string n3, .string d3, .int .i64 e3] 89)
  have B2 := btr B1 (bal w1 (Obj.cells #[.bool b3, .string n3, .string d3, .int .i64 e3] 89))
  have Ra_2 := heap_of (bal w1 (Obj.cells #[.bool b3, .string n3, .string d3, .int .i64 e3] 89)) _ _ _ Ra_1
  clear B1 Ra_1 ca_1_0 ca_1_1
  obtain ⟨ca_2_0, ca_2_1⟩ := cells2s Ra_2
  obtain ⟨cx_2_0, cx_2_1, cx_2_2, cx_2_3⟩ := cells4s Rx_2
  go_wp2_with fail
  refine (KF0.out _).mono ?_
  rintro r w3 ⟨rfl, b3⟩
  have B3 : Below w.heap.size w w3 := btr B2 b3
  have Ra_3 := heap_of b3 _ _ _ Ra_2
  have Rx_3 := heap_of b3 _ _ _ Rx_2
  clear b3 B2 Ra_2 ca_2_0 ca_2_1 Rx_2 cx_2_0 cx_2_1 cx_2_2 cx_2_3
  obtain ⟨ca_3_0, ca_3_1⟩ := cells2s Ra_3
  obtain ⟨cx_3_0, cx_3_1, cx_3_2, cx_3_3⟩ := cells4s Rx_3
  go_wp2_with fail
  refine (KF1.out _).mono ?_
  rintro r w4 ⟨rfl, b4⟩
  have B4 : Below w.heap.size w w4 := btr B3 b4
  have Ra_4 := heap_of b4 _ _ _ Ra_3
  have Rx_4 := heap_of b4 _ _ _ Rx_3
  clear b4 B3 Ra_3 ca_3_0 ca_3_1 Rx_3 cx_3_0 cx_3_1 cx_3_2 cx_3_3
  obtain ⟨ca_4_0, ca_4_1⟩ := cells2s Ra_4
  obtain ⟨cx_4_0, cx_4_1, cx_4_2, cx_4_3⟩ := cells4s Rx_4
  go_wp2_with fail
  refine (KL1.out _).mono ?_
  rintro r w5 ⟨rfl, b5⟩
  have B5 : Below w.heap.size w w5 := btr B4 b5
  have Ra_5 := heap_of b5 _ _ _ Ra_4
  have Rx_5 := heap_of b5 _ _ _ Rx_4
  clear b5 B4 Ra_4 ca_4_0 ca_4_1 Rx_4 cx_4_0 cx_4_1 cx_4_2 cx_4_3
  obtain ⟨ca_5_0, ca_5_1⟩ := cells2s Ra_5
  obtain ⟨cx_5_0, cx_5_1, cx_5_2, cx_5_3⟩ := cells4s Rx_5
  go_wp2_with fail
  refine (KL0.out _).mono ?_
  rintro r w6 ⟨rfl, b6⟩
  have B6 : Below w.heap.size w w6 := btr B5 b6
  have Ra_6 := heap_of b6 _ _ _ Ra_5
  have Rx_6 := heap_of b6 _ _ _ Rx_5
  clear b6 B5 Ra_5 ca_5_0 ca_5_1 Rx_5 cx_5_0 cx_5_1 cx_5_2 cx_5_3
  obtain ⟨ca_6_0, ca_6_1⟩ := cells2s Ra_6
  obtain ⟨cx_6_0, cx_6_1, cx_6_2, cx_6_3⟩ := cells4s Rx_6
  go_wp2_with fail
  refine (KU.out _).mono ?_
  rintro r w7 ⟨rfl, b7⟩
  have B7 : Below w.heap.size w w7 := btr B6 b7
  have Ra_7 := heap_of b7 _ _ _ Ra_6
  have Rx_7 := heap_of b7 _ _ _ Rx_6
  clear b7 B6 Ra_6 ca_6_0 ca_6_1 Rx_6 cx_6_0 cx_6_1 cx_6_2 cx_6_3
  obtain ⟨ca_7_0, ca_7_1⟩ := cells2s Ra_7
  obtain ⟨cx_7_0, cx_7_1, cx_7_2, cx_7_3⟩ := cells4s Rx_7
  go_wp2
  go_ret2
  exact ⟨rfl, B7⟩
set_option maxRecDepth 100000 in
set_option maxHeartbeats 8000000 in
theorem rrd_zet (f m : Int) (x1 y1 : Nat) (b3 : Bool) (n3 d3 : ByteArray) (e3 e4 g0 g1 : Int) (v0 v1 v2 : ByteArray) (wh od : Bool) (l0 l1 e5 : Int) (q1 : (v1.toList == []) = false)  (w : World) (KV : Box (∀ w, Calls Tryz.prog 50 #[.int .u8 f, .agg #[.int .u64 (x1 : Nat), .int .u64 (y1 : Nat)]] w fun r w' => r = .returned (.tuple #[.agg #[.bool b3, .string n3, .string d3, .int .i64 e3], .int .i64 e4]) ∧ Below w.heap.size w w')) (KF0 : Box (∀ w, Calls Tryz.prog 51 #[.agg #[.bool b3, .string n3, .string d3, .int .i64 e3], .int .i64 0] w fun r w' => r = .returned (.tuple #[.string ⟨#[]⟩, .bool false, .int .i64 g0]) ∧ Below w.heap.size w w')) (KF1 : Box (∀ w, Calls Tryz.prog 51 #[.agg #[.bool b3, .string n3, .string d3, .int .i64 e3], .int .i64 (-1)] w fun r w' => r = .returned (.tuple #[.string v1, .bool true, .int .i64 g1]) ∧ Below w.heap.size w w')) (KL1 : Box (∀ w, Calls Tryz.prog 52 #[.string v1] w fun r w' => r = .returned (.int .i64 0) ∧ Below w.heap.size w w')) (KU : Box (∀ w, Calls Tryz.prog 53 #[.int .u8 m, .bool b3, .bool false, .int .i64 (0), .bool false] w fun r w' => r = .returned (.bool true) ∧ Below w.heap.size w w')) (KP : Box (∀ w, Calls Tryz.prog 54 #[.string ⟨#[]⟩, .string ⟨#[1]⟩] w fun r w' => r = .returned (.tuple #[.string v2, .int .i64 e5]) ∧ Below w.heap.size w w')) : Calls Tryz.prog 25 #[.int .u8 f, .int .u8 m, .agg #[.int .u64 (x1 : Nat), .int .u64 (y1 : Nat)]] w fun r w' => r = .returned (.tuple #[.string v2, .bool false]) ∧ Below w.heap.size w w' := by
  obtain ⟨Ra_0, B0⟩ := opn1 w (Obj.cells #[.int .u64 (x1 : Nat), .int .u64 (y1 : Nat)] 27)
  go_enter Tryz.func25, Tryz.ntmps25
  obtain ⟨ca_0_0, ca_0_1⟩ := cells2s Ra_0
  go_wp2_with fail
  refine (KV.out _).mono ?_
  rintro r w1 ⟨rfl, b1⟩
  have B1 : Below w.heap.size w w1 := btr B0 b1
  have Ra_1 := heap_of b1 _ _ _ Ra_0
  clear b1 B0 Ra_0 ca_0_0 ca_0_1
  obtain ⟨ca_1_0, ca_1_1⟩ := cells2s Ra_1
  have S2 := box B1.size
  have La_2 : Box (w.heap.size < w1.heap.size) := box (Array.getElem?_eq_some_iff.1 Ra_1).1
  have Rx_2 := heap_alloc_last w1 (Obj.cells #[.bool b3, .string n3, .string d3, .int .i64 e3] 89)
  have B2 := btr B1 (bal w1 (Obj.cells #[.bool b3, .string n3, .string d3, .int .i64 e3] 89))
  have Ra_2 := heap_of (bal w1 (Obj.cells #[.bool b3, .string n3, .string d3, .int .i64 e3] 89)) _ _ _ Ra_1
  clear B1 Ra_1 ca_1_0 ca_1_1
  obtain ⟨ca_2_0, ca_2_1⟩ := cells2s Ra_2
  obtain ⟨cx_2_0, cx_2_1, cx_2_2, cx_2_3⟩ := cells4s Rx_2
  go_wp2_with fail
  refine (KF0.out _).mono ?_
  rintro r w3 ⟨rfl, b3⟩
  have B3 : Below w.heap.size w w3 := btr B2 b3
  have Ra_3 := heap_of b3 _ _ _ Ra_2
  have Rx_3 := heap_of b3 _ _ _ Rx_2
  clear b3 B2 Ra_2 ca_2_0 ca_2_1 Rx_2 cx_2_0 cx_2_1 cx_2_2 cx_2_3
  obtain ⟨ca_3_0, ca_3_1⟩ := cells2s Ra_3
  obtain ⟨cx_3_0, cx_3_1, cx_3_2, cx_3_3⟩ := cells4s Rx_3
  go_wp2_with fail
  refine (KF1.out _).mono ?_
  rintro r w4 ⟨rfl, b4⟩
  have B4 : Below w.heap.size w w4 := btr B3 b4
  have Ra_4 := heap_of b4 _ _ _ Ra_3
  have Rx_4 := heap_of b4 _ _ _ Rx_3
  clear b4 B3 Ra_3 ca_3_0 ca_3_1 Rx_3 cx_3_0 cx_3_1 cx_3_2 cx_3_3
  obtain ⟨ca_4_0, ca_4_1⟩ := cells2s Ra_4
  obtain ⟨cx_4_0, cx_4_1, cx_4_2, cx_4_3⟩ := cells4s Rx_4
  go_wp2_with fail
  refine (KL1.out _).mono ?_
  rintro r w5 ⟨rfl, b5⟩
  have B5 : Below w.heap.size w w5 := btr B4 b5
  have Ra_5 := heap_of b5 _ _ _ Ra_4
  have Rx_5 := heap_of b5 _ _ _ Rx_4
  clear b5 B4 Ra_4 ca_4_0 ca_4_1 Rx_4 cx_4_0 cx_4_1 cx_4_2 cx_4_3
  obtain ⟨ca_5_0, ca_5_1⟩ := cells2s Ra_5
  obtain ⟨cx_5_0, cx_5_1, cx_5_2, cx_5_3⟩ := cells4s Rx_5
  go_wp2_with fail
  refine (KU.out _).mono ?_
  rintro r w6 ⟨rfl, b6⟩
  have B6 : Below w.heap.size w w6 := btr B5 b6
  have Ra_6 := heap_of b6 _ _ _ Ra_5
  have Rx_6 := heap_of b6 _ _ _ Rx_5
  clear b6 B5 Ra_5 ca_5_0 ca_5_1 Rx_5 cx_5_0 cx_5_1 cx_5_2 cx_5_3
  obtain ⟨ca_6_0, ca_6_1⟩ := cells2s Ra_6
  obtain ⟨cx_6_0, cx_6_1, cx_6_2, cx_6_3⟩ := cells4s Rx_6
  go_wp2_with fail
  refine (KP.out _).mono ?_
  rintro r w7 ⟨rfl, b7⟩
  have B7 : Below w.heap.size w w7 := btr B6 b7
  have Ra_7 := heap_of b7 _ _ _ Ra_6
  have Rx_7 := heap_of b7 _ _ _ Rx_6
  clear b7 B6 Ra_6 ca_6_0 ca_6_1 Rx_6 cx_6_0 cx_6_1 cx_6_2 cx_6_3
  obtain ⟨ca_7_0, ca_7_1⟩ := cells2s Ra_7
  obtain ⟨cx_7_0, cx_7_1, cx_7_2, cx_7_3⟩ := cells4s Rx_7
  go_wp2
  go_ret2
  exact ⟨rfl, B7⟩
set_option maxRecDepth 100000 in
set_option maxHeartbeats 8000000 in
theorem rrd_zef (f m : Int) (x1 y1 : Nat) (b3 : Bool) (n3 d3 : ByteArray) (e3 e4 g0 g1 : Int) (v0 v1 v2 : ByteArray) (wh od : Bool) (l0 l1 e5 : Int) (q1 : (v1.toList == []) = false)  (w : World) (KV : Box (∀ w, Calls Tryz.prog 50 #[.int .u8 f, .agg #[.int .u64 (x1 : Nat), .int .u64 (y1 : Nat)]] w fun r w' => r = .returned (.tuple #[.agg #[.bool b3, .string n3, .string d3, .int .i64 e3], .int .i64 e4]) ∧ Below w.heap.size w w')) (KF0 : Box (∀ w, Calls Tryz.prog 51 #[.agg #[.bool b3, .string n3, .string d3, .int .i64 e3], .int .i64 0] w fun r w' => r = .returned (.tuple #[.string ⟨#[]⟩, .bool false, .int .i64 g0]) ∧ Below w.heap.size w w')) (KF1 : Box (∀ w, Calls Tryz.prog 51 #[.agg #[.bool b3, .string n3, .string d3, .int .i64 e3], .int .i64 (-1)] w fun r w' => r = .returned (.tuple #[.string v1, .bool true, .int .i64 g1]) ∧ Below w.heap.size w w')) (KL1 : Box (∀ w, Calls Tryz.prog 52 #[.string v1] w fun r w' => r = .returned (.int .i64 0) ∧ Below w.heap.size w w')) (KU : Box (∀ w, Calls Tryz.prog 53 #[.int .u8 m, .bool b3, .bool false, .int .i64 (0), .bool false] w fun r w' => r = .returned (.bool false) ∧ Below w.heap.size w w')) : Calls Tryz.prog 25 #[.int .u8 f, .int .u8 m, .agg #[.int .u64 (x1 : Nat), .int .u64 (y1 : Nat)]] w fun r w' => r = .returned (.tuple #[.string ⟨#[]⟩, .bool false]) ∧ Below w.heap.size w w' := by
  obtain ⟨Ra_0, B0⟩ := opn1 w (Obj.cells #[.int .u64 (x1 : Nat), .int .u64 (y1 : Nat)] 27)
  go_enter Tryz.func25, Tryz.ntmps25
  obtain ⟨ca_0_0, ca_0_1⟩ := cells2s Ra_0
  go_wp2_with fail
  refine (KV.out _).mono ?_
  rintro r w1 ⟨rfl, b1⟩
  have B1 : Below w.heap.size w w1 := btr B0 b1
  have Ra_1 := heap_of b1 _ _ _ Ra_0
  clear b1 B0 Ra_0 ca_0_0 ca_0_1
  obtain ⟨ca_1_0, ca_1_1⟩ := cells2s Ra_1
  have S2 := box B1.size
  have La_2 : Box (w.heap.size < w1.heap.size) := box (Array.getElem?_eq_some_iff.1 Ra_1).1
  have Rx_2 := heap_alloc_last w1 (Obj.cells #[.bool b3, .string n3, .string d3, .int .i64 e3] 89)
  have B2 := btr B1 (bal w1 (Obj.cells #[.bool b3, .string n3, .string d3, .int .i64 e3] 89))
  have Ra_2 := heap_of (bal w1 (Obj.cells #[.bool b3, .string n3, .string d3, .int .i64 e3] 89)) _ _ _ Ra_1
  clear B1 Ra_1 ca_1_0 ca_1_1
  obtain ⟨ca_2_0, ca_2_1⟩ := cells2s Ra_2
  obtain ⟨cx_2_0, cx_2_1, cx_2_2, cx_2_3⟩ := cells4s Rx_2
  go_wp2_with fail
  refine (KF0.out _).mono ?_
  rintro r w3 ⟨rfl, b3⟩
  have B3 : Below w.heap.size w w3 := btr B2 b3
  have Ra_3 := heap_of b3 _ _ _ Ra_2
  have Rx_3 := heap_of b3 _ _ _ Rx_2
  clear b3 B2 Ra_2 ca_2_0 ca_2_1 Rx_2 cx_2_0 cx_2_1 cx_2_2 cx_2_3
  obtain ⟨ca_3_0, ca_3_1⟩ := cells2s Ra_3
  obtain ⟨cx_3_0, cx_3_1, cx_3_2, cx_3_3⟩ := cells4s Rx_3
  go_wp2_with fail
  refine (KF1.out _).mono ?_
  rintro r w4 ⟨rfl, b4⟩
  have B4 : Below w.heap.size w w4 := btr B3 b4
  have Ra_4 := heap_of b4 _ _ _ Ra_3
  have Rx_4 := heap_of b4 _ _ _ Rx_3
  clear b4 B3 Ra_3 ca_3_0 ca_3_1 Rx_3 cx_3_0 cx_3_1 cx_3_2 cx_3_3
  obtain ⟨ca_4_0, ca_4_1⟩ := cells2s Ra_4
  obtain ⟨cx_4_0, cx_4_1, cx_4_2, cx_4_3⟩ := cells4s Rx_4
  go_wp2_with fail
  refine (KL1.out _).mono ?_
  rintro r w5 ⟨rfl, b5⟩
  have B5 : Below w.heap.size w w5 := btr B4 b5
  have Ra_5 := heap_of b5 _ _ _ Ra_4
  have Rx_5 := heap_of b5 _ _ _ Rx_4
  clear b5 B4 Ra_4 ca_4_0 ca_4_1 Rx_4 cx_4_0 cx_4_1 cx_4_2 cx_4_3
  obtain ⟨ca_5_0, ca_5_1⟩ := cells2s Ra_5
  obtain ⟨cx_5_0, cx_5_1, cx_5_2, cx_5_3⟩ := cells4s Rx_5
  go_wp2_with fail
  refine (KU.out _).mono ?_
  rintro r w6 ⟨rfl, b6⟩
  have B6 : Below w.heap.size w w6 := btr B5 b6
  have Ra_6 := heap_of b6 _ _ _ Ra_5
  have Rx_6 := heap_of b6 _ _ _ Rx_5
  clear b6 B5 Ra_5 ca_5_0 ca_5_1 Rx_5 cx_5_0 cx_5_1 cx_5_2 cx_5_3
  obtain ⟨ca_6_0, ca_6_1⟩ := cells2s Ra_6
  obtain ⟨cx_6_0, cx_6_1, cx_6_2, cx_6_3⟩ := cells4s Rx_6
  go_wp2
  go_ret2
  exact ⟨rfl, B6⟩
set_option maxRecDepth 100000 in
set_option maxHeartbeats 8000000 in
theorem rrd_zft (f m : Int) (x1 y1 : Nat) (b3 : Bool) (n3 d3 : ByteArray) (e3 e4 g0 g1 : Int) (v0 v1 v2 : ByteArray) (wh od : Bool) (l0 l1 e5 : Int) (q1 : (v1.toList == []) = false) (q0 : (v0.toList == []) = false) (p0 : (l0 == 0) = od) (w : World) (KV : Box (∀ w, Calls Tryz.prog 50 #[.int .u8 f, .agg #[.int .u64 (x1 : Nat), .int .u64 (y1 : Nat)]] w fun r w' => r = .returned (.tuple #[.agg #[.bool b3, .string n3, .string d3, .int .i64 e3], .int .i64 e4]) ∧ Below w.heap.size w w')) (KF0 : Box (∀ w, Calls Tryz.prog 51 #[.agg #[.bool b3, .string n3, .string d3, .int .i64 e3], .int .i64 0] w fun r w' => r = .returned (.tuple #[.string v0, .bool false, .int .i64 g0]) ∧ Below w.heap.size w w')) (KF1 : Box (∀ w, Calls Tryz.prog 51 #[.agg #[.bool b3, .string n3, .string d3, .int .i64 e3], .int .i64 (-1)] w fun r w' => r = .returned (.tuple #[.string v1, .bool true, .int .i64 g1]) ∧ Below w.heap.size w w')) (KL1 : Box (∀ w, Calls Tryz.prog 52 #[.string v1] w fun r w' => r = .returned (.int .i64 0) ∧ Below w.heap.size w w')) (KL0 : Box (∀ w, Calls Tryz.prog 52 #[.string v0] w fun r w' => r = .returned (.int .i64 l0) ∧ Below w.heap.size w w')) (KU : Box (∀ w, Calls Tryz.prog 53 #[.int .u8 m, .bool b3, .bool od, .int .i64 (0), .bool false] w fun r w' => r = .returned (.bool true) ∧ Below w.heap.size w w')) (KP : Box (∀ w, Calls Tryz.prog 54 #[.string v0, .string ⟨#[1]⟩] w fun r w' => r = .returned (.tuple #[.string v2, .int .i64 e5]) ∧ Below w.heap.size w w')) : Calls Tryz.prog 25 #[.int .u8 f, .int .u8 m, .agg #[.int .u64 (x1 : Nat), .int .u64 (y1 : Nat)]] w fun r w' => r = .returned (.tuple #[.string v2, .bool false]) ∧ Below w.heap.size w w' := by
  obtain ⟨Ra_0, B0⟩ := opn1 w (Obj.cells #[.int .u64 (x1 : Nat), .int .u64 (y1 : Nat)] 27)
  go_enter Tryz.func25, Tryz.ntmps25
  obtain ⟨ca_0_0, ca_0_1⟩ := cells2s Ra_0
  go_wp2_with fail
  refine (KV.out _).mono ?_
  rintro r w1 ⟨rfl, b1⟩
  have B1 : Below w.heap.size w w1 := btr B0 b1
  have Ra_1 := heap_of b1 _ _ _ Ra_0
  clear b1 B0 Ra_0 ca_0_0 ca_0_1
  obtain ⟨ca_1_0, ca_1_1⟩ := cells2s Ra_1
  have S2 := box B1.size
  have La_2 : Box (w.heap.size < w1.heap.size) := box (Array.getElem?_eq_some_iff.1 Ra_1).1
  have Rx_2 := heap_alloc_last w1 (Obj.cells #[.bool b3, .string n3, .string d3, .int .i64 e3] 89)
  have B2 := btr B1 (bal w1 (Obj.cells #[.bool b3, .string n3, .string d3, .int .i64 e3] 89))
  have Ra_2 := heap_of (bal w1 (Obj.cells #[.bool b3, .string n3, .string d3, .int .i64 e3] 89)) _ _ _ Ra_1
  clear B1 Ra_1 ca_1_0 ca_1_1
  obtain ⟨ca_2_0, ca_2_1⟩ := cells2s Ra_2
  obtain ⟨cx_2_0, cx_2_1, cx_2_2, cx_2_3⟩ := cells4s Rx_2
  go_wp2_with fail
  refine (KF0.out _).mono ?_
  rintro r w3 ⟨rfl, b3⟩
  have B3 : Below w.heap.size w w3 := btr B2 b3
  have Ra_3 := heap_of b3 _ _ _ Ra_2
  have Rx_3 := heap_of b3 _ _ _ Rx_2
  clear b3 B2 Ra_2 ca_2_0 ca_2_1 Rx_2 cx_2_0 cx_2_1 cx_2_2 cx_2_3
  obtain ⟨ca_3_0, ca_3_1⟩ := cells2s Ra_3
  obtain ⟨cx_3_0, cx_3_1, cx_3_2, cx_3_3⟩ := cells4s Rx_3
  go_wp2_with fail
  refine (KF1.out _).mono ?_
  rintro r w4 ⟨rfl, b4⟩
  have B4 : Below w.heap.size w w4 := btr B3 b4
  have Ra_4 := heap_of b4 _ _ _ Ra_3
  have Rx_4 := heap_of b4 _ _ _ Rx_3
  clear b4 B3 Ra_3 ca_3_0 ca_3_1 Rx_3 cx_3_0 cx_3_1 cx_3_2 cx_3_3
  obtain ⟨ca_4_0, ca_4_1⟩ := cells2s Ra_4
  obtain ⟨cx_4_0, cx_4_1, cx_4_2, cx_4_3⟩ := cells4s Rx_4
  go_wp2_with fail
  refine (KL1.out _).mono ?_
  rintro r w5 ⟨rfl, b5⟩
  have B5 : Below w.heap.size w w5 := btr B4 b5
  have Ra_5 := heap_of b5 _ _ _ Ra_4
  have Rx_5 := heap_of b5 _ _ _ Rx_4
  clear b5 B4 Ra_4 ca_4_0 ca_4_1 Rx_4 cx_4_0 cx_4_1 cx_4_2 cx_4_3
  obtain ⟨ca_5_0, ca_5_1⟩ := cells2s Ra_5
  obtain ⟨cx_5_0, cx_5_1, cx_5_2, cx_5_3⟩ := cells4s Rx_5
  go_wp2_with fail
  refine (KL0.out _).mono ?_
  rintro r w6 ⟨rfl, b6⟩
  have B6 : Below w.heap.size w w6 := btr B5 b6
  have Ra_6 := heap_of b6 _ _ _ Ra_5
  have Rx_6 := heap_of b6 _ _ _ Rx_5
  clear b6 B5 Ra_5 ca_5_0 ca_5_1 Rx_5 cx_5_0 cx_5_1 cx_5_2 cx_5_3
  obtain ⟨ca_6_0, ca_6_1⟩ := cells2s Ra_6
  obtain ⟨cx_6_0, cx_6_1, cx_6_2, cx_6_3⟩ := cells4s Rx_6
  go_wp2_with fail
  refine (KU.out _).mono ?_
  rintro r w7 ⟨rfl, b7⟩
  have B7 : Below w.heap.size w w7 := btr B6 b7
  have Ra_7 := heap_of b7 _ _ _ Ra_6
  have Rx_7 := heap_of b7 _ _ _ Rx_6
  clear b7 B6 Ra_6 ca_6_0 ca_6_1 Rx_6 cx_6_0 cx_6_1 cx_6_2 cx_6_3
  obtain ⟨ca_7_0, ca_7_1⟩ := cells2s Ra_7
  obtain ⟨cx_7_0, cx_7_1, cx_7_2, cx_7_3⟩ := cells4s Rx_7
  go_wp2_with fail
  refine (KP.out _).mono ?_
  rintro r w8 ⟨rfl, b8⟩
  have B8 : Below w.heap.size w w8 := btr B7 b8
  have Ra_8 := heap_of b8 _ _ _ Ra_7
  have Rx_8 := heap_of b8 _ _ _ Rx_7
  clear b8 B7 Ra_7 ca_7_0 ca_7_1 Rx_7 cx_7_0 cx_7_1 cx_7_2 cx_7_3
  obtain ⟨ca_8_0, ca_8_1⟩ := cells2s Ra_8
  obtain ⟨cx_8_0, cx_8_1, cx_8_2, cx_8_3⟩ := cells4s Rx_8
  go_wp2
  go_ret2
  exact ⟨rfl, B8⟩
set_option maxRecDepth 100000 in
set_option maxHeartbeats 8000000 in
theorem rrd_zff (f m : Int) (x1 y1 : Nat) (b3 : Bool) (n3 d3 : ByteArray) (e3 e4 g0 g1 : Int) (v0 v1 v2 : ByteArray) (wh od : Bool) (l0 l1 e5 : Int) (q1 : (v1.toList == []) = false) (q0 : (v0.toList == []) = false) (p0 : (l0 == 0) = od) (w : World) (KV : Box (∀ w, Calls Tryz.prog 50 #[.int .u8 f, .agg #[.int .u64 (x1 : Nat), .int .u64 (y1 : Nat)]] w fun r w' => r = .returned (.tuple #[.agg #[.bool b3, .string n3, .string d3, .int .i64 e3], .int .i64 e4]) ∧ Below w.heap.size w w')) (KF0 : Box (∀ w, Calls Tryz.prog 51 #[.agg #[.bool b3, .string n3, .string d3, .int .i64 e3], .int .i64 0] w fun r w' => r = .returned (.tuple #[.string v0, .bool false, .int .i64 g0]) ∧ Below w.heap.size w w')) (KF1 : Box (∀ w, Calls Tryz.prog 51 #[.agg #[.bool b3, .string n3, .string d3, .int .i64 e3], .int .i64 (-1)] w fun r w' => r = .returned (.tuple #[.string v1, .bool true, .int .i64 g1]) ∧ Below w.heap.size w w')) (KL1 : Box (∀ w, Calls Tryz.prog 52 #[.string v1] w fun r w' => r = .returned (.int .i64 0) ∧ Below w.heap.size w w')) (KL0 : Box (∀ w, Calls Tryz.prog 52 #[.string v0] w fun r w' => r = .returned (.int .i64 l0) ∧ Below w.heap.size w w')) (KU : Box (∀ w, Calls Tryz.prog 53 #[.int .u8 m, .bool b3, .bool od, .int .i64 (0), .bool false] w fun r w' => r = .returned (.bool false) ∧ Below w.heap.size w w')) : Calls Tryz.prog 25 #[.int .u8 f, .int .u8 m, .agg #[.int .u64 (x1 : Nat), .int .u64 (y1 : Nat)]] w fun r w' => r = .returned (.tuple #[.string v0, .bool false]) ∧ Below w.heap.size w w' := by
  obtain ⟨Ra_0, B0⟩ := opn1 w (Obj.cells #[.int .u64 (x1 : Nat), .int .u64 (y1 : Nat)] 27)
  go_enter Tryz.func25, Tryz.ntmps25
  obtain ⟨ca_0_0, ca_0_1⟩ := cells2s Ra_0
  go_wp2_with fail
  refine (KV.out _).mono ?_
  rintro r w1 ⟨rfl, b1⟩
  have B1 : Below w.heap.size w w1 := btr B0 b1
  have Ra_1 := heap_of b1 _ _ _ Ra_0
  clear b1 B0 Ra_0 ca_0_0 ca_0_1
  obtain ⟨ca_1_0, ca_1_1⟩ := cells2s Ra_1
  have S2 := box B1.size
  have La_2 : Box (w.heap.size < w1.heap.size) := box (Array.getElem?_eq_some_iff.1 Ra_1).1
  have Rx_2 := heap_alloc_last w1 (Obj.cells #[.bool b3, .string n3, .string d3, .int .i64 e3] 89)
  have B2 := btr B1 (bal w1 (Obj.cells #[.bool b3, .string n3, .string d3, .int .i64 e3] 89))
  have Ra_2 := heap_of (bal w1 (Obj.cells #[.bool b3, .string n3, .string d3, .int .i64 e3] 89)) _ _ _ Ra_1
  clear B1 Ra_1 ca_1_0 ca_1_1
  obtain ⟨ca_2_0, ca_2_1⟩ := cells2s Ra_2
  obtain ⟨cx_2_0, cx_2_1, cx_2_2, cx_2_3⟩ := cells4s Rx_2
  go_wp2_with fail
  refine (KF0.out _).mono ?_
  rintro r w3 ⟨rfl, b3⟩
  have B3 : Below w.heap.size w w3 := btr B2 b3
  have Ra_3 := heap_of b3 _ _ _ Ra_2
  have Rx_3 := heap_of b3 _ _ _ Rx_2
  clear b3 B2 Ra_2 ca_2_0 ca_2_1 Rx_2 cx_2_0 cx_2_1 cx_2_2 cx_2_3
  obtain ⟨ca_3_0, ca_3_1⟩ := cells2s Ra_3
  obtain ⟨cx_3_0, cx_3_1, cx_3_2, cx_3_3⟩ := cells4s Rx_3
  go_wp2_with fail
  refine (KF1.out _).mono ?_
  rintro r w4 ⟨rfl, b4⟩
  have B4 : Below w.heap.size w w4 := btr B3 b4
  have Ra_4 := heap_of b4 _ _ _ Ra_3
  have Rx_4 := heap_of b4 _ _ _ Rx_3
  clear b4 B3 Ra_3 ca_3_0 ca_3_1 Rx_3 cx_3_0 cx_3_1 cx_3_2 cx_3_3
  obtain ⟨ca_4_0, ca_4_1⟩ := cells2s Ra_4
  obtain ⟨cx_4_0, cx_4_1, cx_4_2, cx_4_3⟩ := cells4s Rx_4
  go_wp2_with fail
  refine (KL1.out _).mono ?_
  rintro r w5 ⟨rfl, b5⟩
  have B5 : Below w.heap.size w w5 := btr B4 b5
  have Ra_5 := heap_of b5 _ _ _ Ra_4
  have Rx_5 := heap_of b5 _ _ _ Rx_4
  clear b5 B4 Ra_4 ca_4_0 ca_4_1 Rx_4 cx_4_0 cx_4_1 cx_4_2 cx_4_3
  obtain ⟨ca_5_0, ca_5_1⟩ := cells2s Ra_5
  obtain ⟨cx_5_0, cx_5_1, cx_5_2, cx_5_3⟩ := cells4s Rx_5
  go_wp2_with fail
  refine (KL0.out _).mono ?_
  rintro r w6 ⟨rfl, b6⟩
  have B6 : Below w.heap.size w w6 := btr B5 b6
  have Ra_6 := heap_of b6 _ _ _ Ra_5
  have Rx_6 := heap_of b6 _ _ _ Rx_5
  clear b6 B5 Ra_5 ca_5_0 ca_5_1 Rx_5 cx_5_0 cx_5_1 cx_5_2 cx_5_3
  obtain ⟨ca_6_0, ca_6_1⟩ := cells2s Ra_6
  obtain ⟨cx_6_0, cx_6_1, cx_6_2, cx_6_3⟩ := cells4s Rx_6
  go_wp2_with fail
  refine (KU.out _).mono ?_
  rintro r w7 ⟨rfl, b7⟩
  have B7 : Below w.heap.size w w7 := btr B6 b7
  have Ra_7 := heap_of b7 _ _ _ Ra_6
  have Rx_7 := heap_of b7 _ _ _ Rx_6
  clear b7 B6 Ra_6 ca_6_0 ca_6_1 Rx_6 cx_6_0 cx_6_1 cx_6_2 cx_6_3
  obtain ⟨ca_7_0, ca_7_1⟩ := cells2s Ra_7
  obtain ⟨cx_7_0, cx_7_1, cx_7_2, cx_7_3⟩ := cells4s Rx_7
  go_wp2
  go_ret2
  exact ⟨rfl, B7⟩
set_option maxRecDepth 100000 in
set_option maxHeartbeats 8000000 in
theorem rrd_oet (f m : Int) (x1 y1 : Nat) (b3 : Bool) (n3 d3 : ByteArray) (e3 e4 g0 g1 : Int) (v0 v1 v2 : ByteArray) (wh od : Bool) (l0 l1 e5 : Int) (q1 : (l1 == 0) = false)  (w : World) (KV : Box (∀ w, Calls Tryz.prog 50 #[.int .u8 f, .agg #[.int .u64 (x1 : Nat), .int .u64 (y1 : Nat)]] w fun r w' => r = .returned (.tuple #[.agg #[.bool b3, .string n3, .string d3, .int .i64 e3], .int .i64 e4]) ∧ Below w.heap.size w w')) (KF0 : Box (∀ w, Calls Tryz.prog 51 #[.agg #[.bool b3, .string n3, .string d3, .int .i64 e3], .int .i64 0] w fun r w' => r = .returned (.tuple #[.string ⟨#[]⟩, .bool false, .int .i64 g0]) ∧ Below w.heap.size w w')) (KF1 : Box (∀ w, Calls Tryz.prog 51 #[.agg #[.bool b3, .string n3, .string d3, .int .i64 e3], .int .i64 (-1)] w fun r w' => r = .returned (.tuple #[.string v1, .bool wh, .int .i64 g1]) ∧ Below w.heap.size w w')) (KL1 : Box (∀ w, Calls Tryz.prog 52 #[.string v1] w fun r w' => r = .returned (.int .i64 l1) ∧ Below w.heap.size w w')) (KU : Box (∀ w, Calls Tryz.prog 53 #[.int .u8 m, .bool b3, .bool false, .int .i64 (-1), .bool false] w fun r w' => r = .returned (.bool true) ∧ Below w.heap.size w w')) (KP : Box (∀ w, Calls Tryz.prog 54 #[.string ⟨#[]⟩, .string ⟨#[1]⟩] w fun r w' => r = .returned (.tuple #[.string v2, .int .i64 e5]) ∧ Below w.heap.size w w')) : Calls Tryz.prog 25 #[.int .u8 f, .int .u8 m, .agg #[.int .u64 (x1 : Nat), .int .u64 (y1 : Nat)]] w fun r w' => r = .returned (.tuple #[.string v2, .bool false]) ∧ Below w.heap.size w w' := by
  obtain ⟨Ra_0, B0⟩ := opn1 w (Obj.cells #[.int .u64 (x1 : Nat), .int .u64 (y1 : Nat)] 27)
  go_enter Tryz.func25, Tryz.ntmps25
  obtain ⟨ca_0_0, ca_0_1⟩ := cells2s Ra_0
  go_wp2_with fail
  refine (KV.out _).mono ?_
  rintro r w1 ⟨rfl, b1⟩
  have B1 : Below w.heap.size w w1 := btr B0 b1
  have Ra_1 := heap_of b1 _ _ _ Ra_0
  clear b1 B0 Ra_0 ca_0_0 ca_0_1
  obtain ⟨ca_1_0, ca_1_1⟩ := cells2s Ra_1
  have S2 := box B1.size
  have La_2 : Box (w.heap.size < w1.heap.size) := box (Array.getElem?_eq_some_iff.1 Ra_1).1
  have Rx_2 := heap_alloc_last w1 (Obj.cells #[.bool b3, .string n3, .string d3, .int .i64 e3] 89)
  have B2 := btr B1 (bal w1 (Obj.cells #[.bool b3, .string n3, .string d3, .int .i64 e3] 89))
  have Ra_2 := heap_of (bal w1 (Obj.cells #[.bool b3, .string n3, .string d3, .int .i64 e3] 89)) _ _ _ Ra_1
  clear B1 Ra_1 ca_1_0 ca_1_1
  obtain ⟨ca_2_0, ca_2_1⟩ := cells2s Ra_2
  obtain ⟨cx_2_0, cx_2_1, cx_2_2, cx_2_3⟩ := cells4s Rx_2
  go_wp2_with fail
  refine (KF0.out _).mono ?_
  rintro r w3 ⟨rfl, b3⟩
  have B3 : Below w.heap.size w w3 := btr B2 b3
  have Ra_3 := heap_of b3 _ _ _ Ra_2
  have Rx_3 := heap_of b3 _ _ _ Rx_2
  clear b3 B2 Ra_2 ca_2_0 ca_2_1 Rx_2 cx_2_0 cx_2_1 cx_2_2 cx_2_3
  obtain ⟨ca_3_0, ca_3_1⟩ := cells2s Ra_3
  obtain ⟨cx_3_0, cx_3_1, cx_3_2, cx_3_3⟩ := cells4s Rx_3
  go_wp2_with fail
  refine (KF1.out _).mono ?_
  rintro r w4 ⟨rfl, b4⟩
  have B4 : Below w.heap.size w w4 := btr B3 b4
  have Ra_4 := heap_of b4 _ _ _ Ra_3
  have Rx_4 := heap_of b4 _ _ _ Rx_3
  clear b4 B3 Ra_3 ca_3_0 ca_3_1 Rx_3 cx_3_0 cx_3_1 cx_3_2 cx_3_3
  obtain ⟨ca_4_0, ca_4_1⟩ := cells2s Ra_4
  obtain ⟨cx_4_0, cx_4_1, cx_4_2, cx_4_3⟩ := cells4s Rx_4
  go_wp2_with fail
  refine (KL1.out _).mono ?_
  rintro r w5 ⟨rfl, b5⟩
  have B5 : Below w.heap.size w w5 := btr B4 b5
  have Ra_5 := heap_of b5 _ _ _ Ra_4
  have Rx_5 := heap_of b5 _ _ _ Rx_4
  clear b5 B4 Ra_4 ca_4_0 ca_4_1 Rx_4 cx_4_0 cx_4_1 cx_4_2 cx_4_3
  obtain ⟨ca_5_0, ca_5_1⟩ := cells2s Ra_5
  obtain ⟨cx_5_0, cx_5_1, cx_5_2, cx_5_3⟩ := cells4s Rx_5
  go_wp2_with fail
  refine (KU.out _).mono ?_
  rintro r w6 ⟨rfl, b6⟩
  have B6 : Below w.heap.size w w6 := btr B5 b6
  have Ra_6 := heap_of b6 _ _ _ Ra_5
  have Rx_6 := heap_of b6 _ _ _ Rx_5
  clear b6 B5 Ra_5 ca_5_0 ca_5_1 Rx_5 cx_5_0 cx_5_1 cx_5_2 cx_5_3
  obtain ⟨ca_6_0, ca_6_1⟩ := cells2s Ra_6
  obtain ⟨cx_6_0, cx_6_1, cx_6_2, cx_6_3⟩ := cells4s Rx_6
  go_wp2_with fail
  refine (KP.out _).mono ?_
  rintro r w7 ⟨rfl, b7⟩
  have B7 : Below w.heap.size w w7 := btr B6 b7
  have Ra_7 := heap_of b7 _ _ _ Ra_6
  have Rx_7 := heap_of b7 _ _ _ Rx_6
  clear b7 B6 Ra_6 ca_6_0 ca_6_1 Rx_6 cx_6_0 cx_6_1 cx_6_2 cx_6_3
  obtain ⟨ca_7_0, ca_7_1⟩ := cells2s Ra_7
  obtain ⟨cx_7_0, cx_7_1, cx_7_2, cx_7_3⟩ := cells4s Rx_7
  go_wp2
  go_ret2
  exact ⟨rfl, B7⟩
set_option maxRecDepth 100000 in
set_option maxHeartbeats 8000000 in
theorem rrd_oef (f m : Int) (x1 y1 : Nat) (b3 : Bool) (n3 d3 : ByteArray) (e3 e4 g0 g1 : Int) (v0 v1 v2 : ByteArray) (wh od : Bool) (l0 l1 e5 : Int) (q1 : (l1 == 0) = false)  (w : World) (KV : Box (∀ w, Calls Tryz.prog 50 #[.int .u8 f, .agg #[.int .u64 (x1 : Nat), .int .u64 (y1 : Nat)]] w fun r w' => r = .returned (.tuple #[.agg #[.bool b3, .string n3, .string d3, .int .i64 e3], .int .i64 e4]) ∧ Below w.heap.size w w')) (KF0 : Box (∀ w, Calls Tryz.prog 51 #[.agg #[.bool b3, .string n3, .string d3, .int .i64 e3], .int .i64 0] w fun r w' => r = .returned (.tuple #[.string ⟨#[]⟩, .bool false, .int .i64 g0]) ∧ Below w.heap.size w w')) (KF1 : Box (∀ w, Calls Tryz.prog 51 #[.agg #[.bool b3, .string n3, .string d3, .int .i64 e3], .int .i64 (-1)] w fun r w' => r = .returned (.tuple #[.string v1, .bool wh, .int .i64 g1]) ∧ Below w.heap.size w w')) (KL1 : Box (∀ w, Calls Tryz.prog 52 #[.string v1] w fun r w' => r = .returned (.int .i64 l1) ∧ Below w.heap.size w w')) (KU : Box (∀ w, Calls Tryz.prog 53 #[.int .u8 m, .bool b3, .bool false, .int .i64 (-1), .bool false] w fun r w' => r = .returned (.bool false) ∧ Below w.heap.size w w')) : Calls Tryz.prog 25 #[.int .u8 f, .int .u8 m, .agg #[.int .u64 (x1 : Nat), .int .u64 (y1 : Nat)]] w fun r w' => r = .returned (.tuple #[.string ⟨#[]⟩, .bool false]) ∧ Below w.heap.size w w' := by
  obtain ⟨Ra_0, B0⟩ := opn1 w (Obj.cells #[.int .u64 (x1 : Nat), .int .u64 (y1 : Nat)] 27)
  go_enter Tryz.func25, Tryz.ntmps25
  obtain ⟨ca_0_0, ca_0_1⟩ := cells2s Ra_0
  go_wp2_with fail
  refine (KV.out _).mono ?_
  rintro r w1 ⟨rfl, b1⟩
  have B1 : Below w.heap.size w w1 := btr B0 b1
  have Ra_1 := heap_of b1 _ _ _ Ra_0
  clear b1 B0 Ra_0 ca_0_0 ca_0_1
  obtain ⟨ca_1_0, ca_1_1⟩ := cells2s Ra_1
  have S2 := box B1.size
  have La_2 : Box (w.heap.size < w1.heap.size) := box (Array.getElem?_eq_some_iff.1 Ra_1).1
  have Rx_2 := heap_alloc_last w1 (Obj.cells #[.bool b3, .string n3, .string d3, .int .i64 e3] 89)
  have B2 := btr B1 (bal w1 (Obj.cells #[.bool b3, .string n3, .string d3, .int .i64 e3] 89))
  have Ra_2 := heap_of (bal w1 (Obj.cells #[.bool b3, .string n3, .string d3, .int .i64 e3] 89)) _ _ _ Ra_1
  clear B1 Ra_1 ca_1_0 ca_1_1
  obtain ⟨ca_2_0, ca_2_1⟩ := cells2s Ra_2
  obtain ⟨cx_2_0, cx_2_1, cx_2_2, cx_2_3⟩ := cells4s Rx_2
  go_wp2_with fail
  refine (KF0.out _).mono ?_
  rintro r w3 ⟨rfl, b3⟩
  have B3 : Below w.heap.size w w3 := btr B2 b3
  have Ra_3 := heap_of b3 _ _ _ Ra_2
  have Rx_3 := heap_of b3 _ _ _ Rx_2
  clear b3 B2 Ra_2 ca_2_0 ca_2_1 Rx_2 cx_2_0 cx_2_1 cx_2_2 cx_2_3
  obtain ⟨ca_3_0, ca_3_1⟩ := cells2s Ra_3
  obtain ⟨cx_3_0, cx_3_1, cx_3_2, cx_3_3⟩ := cells4s Rx_3
  go_wp2_with fail
  refine (KF1.out _).mono ?_
  rintro r w4 ⟨rfl, b4⟩
  have B4 : Below w.heap.size w w4 := btr B3 b4
  have Ra_4 := heap_of b4 _ _ _ Ra_3
  have Rx_4 := heap_of b4 _ _ _ Rx_3
  clear b4 B3 Ra_3 ca_3_0 ca_3_1 Rx_3 cx_3_0 cx_3_1 cx_3_2 cx_3_3
  obtain ⟨ca_4_0, ca_4_1⟩ := cells2s Ra_4
  obtain ⟨cx_4_0, cx_4_1, cx_4_2, cx_4_3⟩ := cells4s Rx_4
  go_wp2_with fail
  refine (KL1.out _).mono ?_
  rintro r w5 ⟨rfl, b5⟩
  have B5 : Below w.heap.size w w5 := btr B4 b5
  have Ra_5 := heap_of b5 _ _ _ Ra_4
  have Rx_5 := heap_of b5 _ _ _ Rx_4
  clear b5 B4 Ra_4 ca_4_0 ca_4_1 Rx_4 cx_4_0 cx_4_1 cx_4_2 cx_4_3
  obtain ⟨ca_5_0, ca_5_1⟩ := cells2s Ra_5
  obtain ⟨cx_5_0, cx_5_1, cx_5_2, cx_5_3⟩ := cells4s Rx_5
  go_wp2_with fail
  refine (KU.out _).mono ?_
  rintro r w6 ⟨rfl, b6⟩
  have B6 : Below w.heap.size w w6 := btr B5 b6
  have Ra_6 := heap_of b6 _ _ _ Ra_5
  have Rx_6 := heap_of b6 _ _ _ Rx_5
  clear b6 B5 Ra_5 ca_5_0 ca_5_1 Rx_5 cx_5_0 cx_5_1 cx_5_2 cx_5_3
  obtain ⟨ca_6_0, ca_6_1⟩ := cells2s Ra_6
  obtain ⟨cx_6_0, cx_6_1, cx_6_2, cx_6_3⟩ := cells4s Rx_6
  go_wp2
  go_ret2
  exact ⟨rfl, B6⟩
set_option maxRecDepth 100000 in
set_option maxHeartbeats 8000000 in
theorem rrd_oft (f m : Int) (x1 y1 : Nat) (b3 : Bool) (n3 d3 : ByteArray) (e3 e4 g0 g1 : Int) (v0 v1 v2 : ByteArray) (wh od : Bool) (l0 l1 e5 : Int) (q1 : (l1 == 0) = false) (q0 : (v0.toList == []) = false) (p0 : (l0 == 0) = od) (w : World) (KV : Box (∀ w, Calls Tryz.prog 50 #[.int .u8 f, .agg #[.int .u64 (x1 : Nat), .int .u64 (y1 : Nat)]] w fun r w' => r = .returned (.tuple #[.agg #[.bool b3, .string n3, .string d3, .int .i64 e3], .int .i64 e4]) ∧ Below w.heap.size w w')) (KF0 : Box (∀ w, Calls Tryz.prog 51 #[.agg #[.bool b3, .string n3, .string d3, .int .i64 e3], .int .i64 0] w fun r w' => r = .returned (.tuple #[.string v0, .bool false, .int .i64 g0]) ∧ Below w.heap.size w w')) (KF1 : Box (∀ w, Calls Tryz.prog 51 #[.agg #[.bool b3, .string n3, .string d3, .int .i64 e3], .int .i64 (-1)] w fun r w' => r = .returned (.tuple #[.string v1, .bool wh, .int .i64 g1]) ∧ Below w.heap.size w w')) (KL1 : Box (∀ w, Calls Tryz.prog 52 #[.string v1] w fun r w' => r = .returned (.int .i64 l1) ∧ Below w.heap.size w w')) (KL0 : Box (∀ w, Calls Tryz.prog 52 #[.string v0] w fun r w' => r = .returned (.int .i64 l0) ∧ Below w.heap.size w w')) (KU : Box (∀ w, Calls Tryz.prog 53 #[.int .u8 m, .bool b3, .bool od, .int .i64 (-1), .bool false] w fun r w' => r = .returned (.bool true) ∧ Below w.heap.size w w')) (KP : Box (∀ w, Calls Tryz.prog 54 #[.string v0, .string ⟨#[1]⟩] w fun r w' => r = .returned (.tuple #[.string v2, .int .i64 e5]) ∧ Below w.heap.size w w')) : Calls Tryz.prog 25 #[.int .u8 f, .int .u8 m, .agg #[.int .u64 (x1 : Nat), .int .u64 (y1 : Nat)]] w fun r w' => r = .returned (.tuple #[.string v2, .bool false]) ∧ Below w.heap.size w w' := by
  obtain ⟨Ra_0, B0⟩ := opn1 w (Obj.cells #[.int .u64 (x1 : Nat), .int .u64 (y1 : Nat)] 27)
  go_enter Tryz.func25, Tryz.ntmps25
  obtain ⟨ca_0_0, ca_0_1⟩ := cells2s Ra_0
  go_wp2_with fail
  refine (KV.out _).mono ?_
  rintro r w1 ⟨rfl, b1⟩
  have B1 : Below w.heap.size w w1 := btr B0 b1
  have Ra_1 := heap_of b1 _ _ _ Ra_0
  clear b1 B0 Ra_0 ca_0_0 ca_0_1
  obtain ⟨ca_1_0, ca_1_1⟩ := cells2s Ra_1
  have S2 := box B1.size
  have La_2 : Box (w.heap.size < w1.heap.size) := box (Array.getElem?_eq_some_iff.1 Ra_1).1
  have Rx_2 := heap_alloc_last w1 (Obj.cells #[.bool b3, .string n3, .string d3, .int .i64 e3] 89)
  have B2 := btr B1 (bal w1 (Obj.cells #[.bool b3, .string n3, .string d3, .int .i64 e3] 89))
  have Ra_2 := heap_of (bal w1 (Obj.cells #[.bool b3, .string n3, .string d3, .int .i64 e3] 89)) _ _ _ Ra_1
  clear B1 Ra_1 ca_1_0 ca_1_1
  obtain ⟨ca_2_0, ca_2_1⟩ := cells2s Ra_2
  obtain ⟨cx_2_0, cx_2_1, cx_2_2, cx_2_3⟩ := cells4s Rx_2
  go_wp2_with fail
  refine (KF0.out _).mono ?_
  rintro r w3 ⟨rfl, b3⟩
  have B3 : Below w.heap.size w w3 := btr B2 b3
  have Ra_3 := heap_of b3 _ _ _ Ra_2
  have Rx_3 := heap_of b3 _ _ _ Rx_2
  clear b3 B2 Ra_2 ca_2_0 ca_2_1 Rx_2 cx_2_0 cx_2_1 cx_2_2 cx_2_3
  obtain ⟨ca_3_0, ca_3_1⟩ := cells2s Ra_3
  obtain ⟨cx_3_0, cx_3_1, cx_3_2, cx_3_3⟩ := cells4s Rx_3
  go_wp2_with fail
  refine (KF1.out _).mono ?_
  rintro r w4 ⟨rfl, b4⟩
  have B4 : Below w.heap.size w w4 := btr B3 b4
  have Ra_4 := heap_of b4 _ _ _ Ra_3
  have Rx_4 := heap_of b4 _ _ _ Rx_3
  clear b4 B3 Ra_3 ca_3_0 ca_3_1 Rx_3 cx_3_0 cx_3_1 cx_3_2 cx_3_3
  obtain ⟨ca_4_0, ca_4_1⟩ := cells2s Ra_4
  obtain ⟨cx_4_0, cx_4_1, cx_4_2, cx_4_3⟩ := cells4s Rx_4
  go_wp2_with fail
  refine (KL1.out _).mono ?_
  rintro r w5 ⟨rfl, b5⟩
  have B5 : Below w.heap.size w w5 := btr B4 b5
  have Ra_5 := heap_of b5 _ _ _ Ra_4
  have Rx_5 := heap_of b5 _ _ _ Rx_4
  clear b5 B4 Ra_4 ca_4_0 ca_4_1 Rx_4 cx_4_0 cx_4_1 cx_4_2 cx_4_3
  obtain ⟨ca_5_0, ca_5_1⟩ := cells2s Ra_5
  obtain ⟨cx_5_0, cx_5_1, cx_5_2, cx_5_3⟩ := cells4s Rx_5
  go_wp2_with fail
  refine (KL0.out _).mono ?_
  rintro r w6 ⟨rfl, b6⟩
  have B6 : Below w.heap.size w w6 := btr B5 b6
  have Ra_6 := heap_of b6 _ _ _ Ra_5
  have Rx_6 := heap_of b6 _ _ _ Rx_5
  clear b6 B5 Ra_5 ca_5_0 ca_5_1 Rx_5 cx_5_0 cx_5_1 cx_5_2 cx_5_3
  obtain ⟨ca_6_0, ca_6_1⟩ := cells2s Ra_6
  obtain ⟨cx_6_0, cx_6_1, cx_6_2, cx_6_3⟩ := cells4s Rx_6
  go_wp2_with fail
  refine (KU.out _).mono ?_
  rintro r w7 ⟨rfl, b7⟩
  have B7 : Below w.heap.size w w7 := btr B6 b7
  have Ra_7 := heap_of b7 _ _ _ Ra_6
  have Rx_7 := heap_of b7 _ _ _ Rx_6
  clear b7 B6 Ra_6 ca_6_0 ca_6_1 Rx_6 cx_6_0 cx_6_1 cx_6_2 cx_6_3
  obtain ⟨ca_7_0, ca_7_1⟩ := cells2s Ra_7
  obtain ⟨cx_7_0, cx_7_1, cx_7_2, cx_7_3⟩ := cells4s Rx_7
  go_wp2_with fail
  refine (KP.out _).mono ?_
  rintro r w8 ⟨rfl, b8⟩
  have B8 : Below w.heap.size w w8 := btr B7 b8
  have Ra_8 := heap_of b8 _ _ _ Ra_7
  have Rx_8 := heap_of b8 _ _ _ Rx_7
  clear b8 B7 Ra_7 ca_7_0 ca_7_1 Rx_7 cx_7_0 cx_7_1 cx_7_2 cx_7_3
  obtain ⟨ca_8_0, ca_8_1⟩ := cells2s Ra_8
  obtain ⟨cx_8_0, cx_8_1, cx_8_2, cx_8_3⟩ := cells4s Rx_8
  go_wp2
  go_ret2
  exact ⟨rfl, B8⟩
set_option maxRecDepth 100000 in
set_option maxHeartbeats 8000000 in
theorem rrd_off (f m : Int) (x1 y1 : Nat) (b3 : Bool) (n3 d3 : ByteArray) (e3 e4 g0 g1 : Int) (v0 v1 v2 : ByteArray) (wh od : Bool) (l0 l1 e5 : Int) (q1 : (l1 == 0) = false) (q0 : (v0.toList == []) = false) (p0 : (l0 == 0) = od) (w : World) (KV : Box (∀ w, Calls Tryz.prog 50 #[.int .u8 f, .agg #[.int .u64 (x1 : Nat), .int .u64 (y1 : Nat)]] w fun r w' => r = .returned (.tuple #[.agg #[.bool b3, .string n3, .string d3, .int .i64 e3], .int .i64 e4]) ∧ Below w.heap.size w w')) (KF0 : Box (∀ w, Calls Tryz.prog 51 #[.agg #[.bool b3, .string n3, .string d3, .int .i64 e3], .int .i64 0] w fun r w' => r = .returned (.tuple #[.string v0, .bool false, .int .i64 g0]) ∧ Below w.heap.size w w')) (KF1 : Box (∀ w, Calls Tryz.prog 51 #[.agg #[.bool b3, .string n3, .string d3, .int .i64 e3], .int .i64 (-1)] w fun r w' => r = .returned (.tuple #[.string v1, .bool wh, .int .i64 g1]) ∧ Below w.heap.size w w')) (KL1 : Box (∀ w, Calls Tryz.prog 52 #[.string v1] w fun r w' => r = .returned (.int .i64 l1) ∧ Below w.heap.size w w')) (KL0 : Box (∀ w, Calls Tryz.prog 52 #[.string v0] w fun r w' => r = .returned (.int .i64 l0) ∧ Below w.heap.size w w')) (KU : Box (∀ w, Calls Tryz.prog 53 #[.int .u8 m, .bool b3, .bool od, .int .i64 (-1), .bool false] w fun r w' => r = .returned (.bool false) ∧ Below w.heap.size w w')) : Calls Tryz.prog 25 #[.int .u8 f, .int .u8 m, .agg #[.int .u64 (x1 : Nat), .int .u64 (y1 : Nat)]] w fun r w' => r = .returned (.tuple #[.string v0, .bool false]) ∧ Below w.heap.size w w' := by
  obtain ⟨Ra_0, B0⟩ := opn1 w (Obj.cells #[.int .u64 (x1 : Nat), .int .u64 (y1 : Nat)] 27)
  go_enter Tryz.func25, Tryz.ntmps25
  obtain ⟨ca_0_0, ca_0_1⟩ := cells2s Ra_0
  go_wp2_with fail
  refine (KV.out _).mono ?_
  rintro r w1 ⟨rfl, b1⟩
  have B1 : Below w.heap.size w w1 := btr B0 b1
  have Ra_1 := heap_of b1 _ _ _ Ra_0
  clear b1 B0 Ra_0 ca_0_0 ca_0_1
  obtain ⟨ca_1_0, ca_1_1⟩ := cells2s Ra_1
  have S2 := box B1.size
  have La_2 : Box (w.heap.size < w1.heap.size) := box (Array.getElem?_eq_some_iff.1 Ra_1).1
  have Rx_2 := heap_alloc_last w1 (Obj.cells #[.bool b3, .string n3, .string d3, .int .i64 e3] 89)
  have B2 := btr B1 (bal w1 (Obj.cells #[.bool b3, .string n3, .string d3, .int .i64 e3] 89))
  have Ra_2 := heap_of (bal w1 (Obj.cells #[.bool b3, .string n3, .string d3, .int .i64 e3] 89)) _ _ _ Ra_1
  clear B1 Ra_1 ca_1_0 ca_1_1
  obtain ⟨ca_2_0, ca_2_1⟩ := cells2s Ra_2
  obtain ⟨cx_2_0, cx_2_1, cx_2_2, cx_2_3⟩ := cells4s Rx_2
  go_wp2_with fail
  refine (KF0.out _).mono ?_
  rintro r w3 ⟨rfl, b3⟩
  have B3 : Below w.heap.size w w3 := btr B2 b3
  have Ra_3 := heap_of b3 _ _ _ Ra_2
  have Rx_3 := heap_of b3 _ _ _ Rx_2
  clear b3 B2 Ra_2 ca_2_0 ca_2_1 Rx_2 cx_2_0 cx_2_1 cx_2_2 cx_2_3
  obtain ⟨ca_3_0, ca_3_1⟩ := cells2s Ra_3
  obtain ⟨cx_3_0, cx_3_1, cx_3_2, cx_3_3⟩ := cells4s Rx_3
  go_wp2_with fail
  refine (KF1.out _).mono ?_
  rintro r w4 ⟨rfl, b4⟩
  have B4 : Below w.heap.size w w4 := btr B3 b4
  have Ra_4 := heap_of b4 _ _ _ Ra_3
  have Rx_4 := heap_of b4 _ _ _ Rx_3
  clear b4 B3 Ra_3 ca_3_0 ca_3_1 Rx_3 cx_3_0 cx_3_1 cx_3_2 cx_3_3
  obtain ⟨ca_4_0, ca_4_1⟩ := cells2s Ra_4
  obtain ⟨cx_4_0, cx_4_1, cx_4_2, cx_4_3⟩ := cells4s Rx_4
  go_wp2_with fail
  refine (KL1.out _).mono ?_
  rintro r w5 ⟨rfl, b5⟩
  have B5 : Below w.heap.size w w5 := btr B4 b5
  have Ra_5 := heap_of b5 _ _ _ Ra_4
  have Rx_5 := heap_of b5 _ _ _ Rx_4
  clear b5 B4 Ra_4 ca_4_0 ca_4_1 Rx_4 cx_4_0 cx_4_1 cx_4_2 cx_4_3
  obtain ⟨ca_5_0, ca_5_1⟩ := cells2s Ra_5
  obtain ⟨cx_5_0, cx_5_1, cx_5_2, cx_5_3⟩ := cells4s Rx_5
  go_wp2_with fail
  refine (KL0.out _).mono ?_
  rintro r w6 ⟨rfl, b6⟩
  have B6 : Below w.heap.size w w6 := btr B5 b6
  have Ra_6 := heap_of b6 _ _ _ Ra_5
  have Rx_6 := heap_of b6 _ _ _ Rx_5
  clear b6 B5 Ra_5 ca_5_0 ca_5_1 Rx_5 cx_5_0 cx_5_1 cx_5_2 cx_5_3
  obtain ⟨ca_6_0, ca_6_1⟩ := cells2s Ra_6
  obtain ⟨cx_6_0, cx_6_1, cx_6_2, cx_6_3⟩ := cells4s Rx_6
  go_wp2_with fail
  refine (KU.out _).mono ?_
  rintro r w7 ⟨rfl, b7⟩
  have B7 : Below w.heap.size w w7 := btr B6 b7
  have Ra_7 := heap_of b7 _ _ _ Ra_6
  have Rx_7 := heap_of b7 _ _ _ Rx_6
  clear b7 B6 Ra_6 ca_6_0 ca_6_1 Rx_6 cx_6_0 cx_6_1 cx_6_2 cx_6_3
  obtain ⟨ca_7_0, ca_7_1⟩ := cells2s Ra_7
  obtain ⟨cx_7_0, cx_7_1, cx_7_2, cx_7_3⟩ := cells4s Rx_7
  go_wp2
  go_ret2
  exact ⟨rfl, B7⟩
set_option maxRecDepth 100000 in
set_option maxHeartbeats 8000000 in
theorem rrd_eet (f m : Int) (x1 y1 : Nat) (b3 : Bool) (n3 d3 : ByteArray) (e3 e4 g0 g1 : Int) (v0 v1 v2 : ByteArray) (wh od : Bool) (l0 l1 e5 : Int)   (w : World) (KV : Box (∀ w, Calls Tryz.prog 50 #[.int .u8 f, .agg #[.int .u64 (x1 : Nat), .int .u64 (y1 : Nat)]] w fun r w' => r = .returned (.tuple #[.agg #[.bool b3, .string n3, .string d3, .int .i64 e3], .int .i64 e4]) ∧ Below w.heap.size w w')) (KF0 : Box (∀ w, Calls Tryz.prog 51 #[.agg #[.bool b3, .string n3, .string d3, .int .i64 e3], .int .i64 0] w fun r w' => r = .returned (.tuple #[.string ⟨#[]⟩, .bool false, .int .i64 g0]) ∧ Below w.heap.size w w')) (KF1 : Box (∀ w, Calls Tryz.prog 51 #[.agg #[.bool b3, .string n3, .string d3, .int .i64 e3], .int .i64 (-1)] w fun r w' => r = .returned (.tuple #[.string ⟨#[]⟩, .bool wh, .int .i64 g1]) ∧ Below w.heap.size w w')) (KL1 : Box (∀ w, Calls Tryz.prog 52 #[.string ⟨#[]⟩] w fun r w' => r = .returned (.int .i64 0) ∧ Below w.heap.size w w')) (KU : Box (∀ w, Calls Tryz.prog 53 #[.int .u8 m, .bool b3, .bool false, .int .i64 (-1), .bool false] w fun r w' => r = .returned (.bool true) ∧ Below w.heap.size w w')) (KP : Box (∀ w, Calls Tryz.prog 54 #[.string ⟨#[]⟩, .string ⟨#[1]⟩] w fun r w' => r = .returned (.tuple #[.string v2, .int .i64 e5]) ∧ Below w.heap.size w w')) : Calls Tryz.prog 25 #[.int .u8 f, .int .u8 m, .agg #[.int .u64 (x1 : Nat), .int .u64 (y1 : Nat)]] w fun r w' => r = .returned (.tuple #[.string v2, .bool false]) ∧ Below w.heap.size w w' := by
  obtain ⟨Ra_0, B0⟩ := opn1 w (Obj.cells #[.int .u64 (x1 : Nat), .int .u64 (y1 : Nat)] 27)
  go_enter Tryz.func25, Tryz.ntmps25
  obtain ⟨ca_0_0, ca_0_1⟩ := cells2s Ra_0
  go_wp2_with fail
  refine (KV.out _).mono ?_
  rintro r w1 ⟨rfl, b1⟩
  have B1 : Below w.heap.size w w1 := btr B0 b1
  have Ra_1 := heap_of b1 _ _ _ Ra_0
  clear b1 B0 Ra_0 ca_0_0 ca_0_1
  obtain ⟨ca_1_0, ca_1_1⟩ := cells2s Ra_1
  have S2 := box B1.size
  have La_2 : Box (w.heap.size < w1.heap.size) := box (Array.getElem?_eq_some_iff.1 Ra_1).1
  have Rx_2 := heap_alloc_last w1 (Obj.cells #[.bool b3, .string n3, .string d3, .int .i64 e3] 89)
  have B2 := btr B1 (bal w1 (Obj.cells #[.bool b3, .string n3, .string d3, .int .i64 e3] 89))
  have Ra_2 := heap_of (bal w1 (Obj.cells #[.bool b3, .string n3, .string d3, .int .i64 e3] 89)) _ _ _ Ra_1
  clear B1 Ra_1 ca_1_0 ca_1_1
  obtain ⟨ca_2_0, ca_2_1⟩ := cells2s Ra_2
  obtain ⟨cx_2_0, cx_2_1, cx_2_2, cx_2_3⟩ := cells4s Rx_2
  go_wp2_with fail
  refine (KF0.out _).mono ?_
  rintro r w3 ⟨rfl, b3⟩
  have B3 : Below w.heap.size w w3 := btr B2 b3
  have Ra_3 := heap_of b3 _ _ _ Ra_2
  have Rx_3 := heap_of b3 _ _ _ Rx_2
  clear b3 B2 Ra_2 ca_2_0 ca_2_1 Rx_2 cx_2_0 cx_2_1 cx_2_2 cx_2_3
  obtain ⟨ca_3_0, ca_3_1⟩ := cells2s Ra_3
  obtain ⟨cx_3_0, cx_3_1, cx_3_2, cx_3_3⟩ := cells4s Rx_3
  go_wp2_with fail
  refine (KF1.out _).mono ?_
  rintro r w4 ⟨rfl, b4⟩
  have B4 : Below w.heap.size w w4 := btr B3 b4
  have Ra_4 := heap_of b4 _ _ _ Ra_3
  have Rx_4 := heap_of b4 _ _ _ Rx_3
  clear b4 B3 Ra_3 ca_3_0 ca_3_1 Rx_3 cx_3_0 cx_3_1 cx_3_2 cx_3_3
  obtain ⟨ca_4_0, ca_4_1⟩ := cells2s Ra_4
  obtain ⟨cx_4_0, cx_4_1, cx_4_2, cx_4_3⟩ := cells4s Rx_4
  go_wp2_with fail
  refine (KL1.out _).mono ?_
  rintro r w5 ⟨rfl, b5⟩
  have B5 : Below w.heap.size w w5 := btr B4 b5
  have Ra_5 := heap_of b5 _ _ _ Ra_4
  have Rx_5 := heap_of b5 _ _ _ Rx_4
  clear b5 B4 Ra_4 ca_4_0 ca_4_1 Rx_4 cx_4_0 cx_4_1 cx_4_2 cx_4_3
  obtain ⟨ca_5_0, ca_5_1⟩ := cells2s Ra_5
  obtain ⟨cx_5_0, cx_5_1, cx_5_2, cx_5_3⟩ := cells4s Rx_5
  go_wp2_with fail
  refine (KU.out _).mono ?_
  rintro r w6 ⟨rfl, b6⟩
  have B6 : Below w.heap.size w w6 := btr B5 b6
  have Ra_6 := heap_of b6 _ _ _ Ra_5
  have Rx_6 := heap_of b6 _ _ _ Rx_5
  clear b6 B5 Ra_5 ca_5_0 ca_5_1 Rx_5 cx_5_0 cx_5_1 cx_5_2 cx_5_3
  obtain ⟨ca_6_0, ca_6_1⟩ := cells2s Ra_6
  obtain ⟨cx_6_0, cx_6_1, cx_6_2, cx_6_3⟩ := cells4s Rx_6
  go_wp2_with fail
  refine (KP.out _).mono ?_
  rintro r w7 ⟨rfl, b7⟩
  have B7 : Below w.heap.size w w7 := btr B6 b7
  have Ra_7 := heap_of b7 _ _ _ Ra_6
  have Rx_7 := heap_of b7 _ _ _ Rx_6
  clear b7 B6 Ra_6 ca_6_0 ca_6_1 Rx_6 cx_6_0 cx_6_1 cx_6_2 cx_6_3
  obtain ⟨ca_7_0, ca_7_1⟩ := cells2s Ra_7
  obtain ⟨cx_7_0, cx_7_1, cx_7_2, cx_7_3⟩ := cells4s Rx_7
  go_wp2
  go_ret2
  exact ⟨rfl, B7⟩
set_option maxRecDepth 100000 in
set_option maxHeartbeats 8000000 in
theorem rrd_eef (f m : Int) (x1 y1 : Nat) (b3 : Bool) (n3 d3 : ByteArray) (e3 e4 g0 g1 : Int) (v0 v1 v2 : ByteArray) (wh od : Bool) (l0 l1 e5 : Int)   (w : World) (KV : Box (∀ w, Calls Tryz.prog 50 #[.int .u8 f, .agg #[.int .u64 (x1 : Nat), .int .u64 (y1 : Nat)]] w fun r w' => r = .returned (.tuple #[.agg #[.bool b3, .string n3, .string d3, .int .i64 e3], .int .i64 e4]) ∧ Below w.heap.size w w')) (KF0 : Box (∀ w, Calls Tryz.prog 51 #[.agg #[.bool b3, .string n3, .string d3, .int .i64 e3], .int .i64 0] w fun r w' => r = .returned (.tuple #[.string ⟨#[]⟩, .bool false, .int .i64 g0]) ∧ Below w.heap.size w w')) (KF1 : Box (∀ w, Calls Tryz.prog 51 #[.agg #[.bool b3, .string n3, .string d3, .int .i64 e3], .int .i64 (-1)] w fun r w' => r = .returned (.tuple #[.string ⟨#[]⟩, .bool wh, .int .i64 g1]) ∧ Below w.heap.size w w')) (KL1 : Box (∀ w, Calls Tryz.prog 52 #[.string ⟨#[]⟩] w fun r w' => r = .returned (.int .i64 0) ∧ Below w.heap.size w w')) (KU : Box (∀ w, Calls Tryz.prog 53 #[.int .u8 m, .bool b3, .bool false, .int .i64 (-1), .bool false] w fun r w' => r = .returned (.bool false) ∧ Below w.heap.size w w')) : Calls Tryz.prog 25 #[.int .u8 f, .int .u8 m, .agg #[.int .u64 (x1 : Nat), .int .u64 (y1 : Nat)]] w fun r w' => r = .returned (.tuple #[.string ⟨#[]⟩, .bool false]) ∧ Below w.heap.size w w' := by
  obtain ⟨Ra_0, B0⟩ := opn1 w (Obj.cells #[.int .u64 (x1 : Nat), .int .u64 (y1 : Nat)] 27)
  go_enter Tryz.func25, Tryz.ntmps25
  obtain ⟨ca_0_0, ca_0_1⟩ := cells2s Ra_0
  go_wp2_with fail
  refine (KV.out _).mono ?_
  rintro r w1 ⟨rfl, b1⟩
  have B1 : Below w.heap.size w w1 := btr B0 b1
  have Ra_1 := heap_of b1 _ _ _ Ra_0
  clear b1 B0 Ra_0 ca_0_0 ca_0_1
  obtain ⟨ca_1_0, ca_1_1⟩ := cells2s Ra_1
  have S2 := box B1.size
  have La_2 : Box (w.heap.size < w1.heap.size) := box (Array.getElem?_eq_some_iff.1 Ra_1).1
  have Rx_2 := heap_alloc_last w1 (Obj.cells #[.bool b3, .string n3, .string d3, .int .i64 e3] 89)
  have B2 := btr B1 (bal w1 (Obj.cells #[.bool b3, .string n3, .string d3, .int .i64 e3] 89))
  have Ra_2 := heap_of (bal w1 (Obj.cells #[.bool b3, .string n3, .string d3, .int .i64 e3] 89)) _ _ _ Ra_1
  clear B1 Ra_1 ca_1_0 ca_1_1
  obtain ⟨ca_2_0, ca_2_1⟩ := cells2s Ra_2
  obtain ⟨cx_2_0, cx_2_1, cx_2_2, cx_2_3⟩ := cells4s Rx_2
  go_wp2_with fail
  refine (KF0.out _).mono ?_
  rintro r w3 ⟨rfl, b3⟩
  have B3 : Below w.heap.size w w3 := btr B2 b3
  have Ra_3 := heap_of b3 _ _ _ Ra_2
  have Rx_3 := heap_of b3 _ _ _ Rx_2
  clear b3 B2 Ra_2 ca_2_0 ca_2_1 Rx_2 cx_2_0 cx_2_1 cx_2_2 cx_2_3
  obtain ⟨ca_3_0, ca_3_1⟩ := cells2s Ra_3
  obtain ⟨cx_3_0, cx_3_1, cx_3_2, cx_3_3⟩ := cells4s Rx_3
  go_wp2_with fail
  refine (KF1.out _).mono ?_
  rintro r w4 ⟨rfl, b4⟩
  have B4 : Below w.heap.size w w4 := btr B3 b4
  have Ra_4 := heap_of b4 _ _ _ Ra_3
  have Rx_4 := heap_of b4 _ _ _ Rx_3
  clear b4 B3 Ra_3 ca_3_0 ca_3_1 Rx_3 cx_3_0 cx_3_1 cx_3_2 cx_3_3
  obtain ⟨ca_4_0, ca_4_1⟩ := cells2s Ra_4
  obtain ⟨cx_4_0, cx_4_1, cx_4_2, cx_4_3⟩ := cells4s Rx_4
  go_wp2_with fail
  refine (KL1.out _).mono ?_
  rintro r w5 ⟨rfl, b5⟩
  have B5 : Below w.heap.size w w5 := btr B4 b5
  have Ra_5 := heap_of b5 _ _ _ Ra_4
  have Rx_5 := heap_of b5 _ _ _ Rx_4
  clear b5 B4 Ra_4 ca_4_0 ca_4_1 Rx_4 cx_4_0 cx_4_1 cx_4_2 cx_4_3
  obtain ⟨ca_5_0, ca_5_1⟩ := cells2s Ra_5
  obtain ⟨cx_5_0, cx_5_1, cx_5_2, cx_5_3⟩ := cells4s Rx_5
  go_wp2_with fail
  refine (KU.out _).mono ?_
  rintro r w6 ⟨rfl, b6⟩
  have B6 : Below w.heap.size w w6 := btr B5 b6
  have Ra_6 := heap_of b6 _ _ _ Ra_5
  have Rx_6 := heap_of b6 _ _ _ Rx_5
  clear b6 B5 Ra_5 ca_5_0 ca_5_1 Rx_5 cx_5_0 cx_5_1 cx_5_2 cx_5_3
  obtain ⟨ca_6_0, ca_6_1⟩ := cells2s Ra_6
  obtain ⟨cx_6_0, cx_6_1, cx_6_2, cx_6_3⟩ := cells4s Rx_6
  go_wp2
  go_ret2
  exact ⟨rfl, B6⟩
set_option maxRecDepth 100000 in
set_option maxHeartbeats 8000000 in
theorem rrd_eft (f m : Int) (x1 y1 : Nat) (b3 : Bool) (n3 d3 : ByteArray) (e3 e4 g0 g1 : Int) (v0 v1 v2 : ByteArray) (wh od : Bool) (l0 l1 e5 : Int)  (q0 : (v0.toList == []) = false) (p0 : (l0 == 0) = od) (w : World) (KV : Box (∀ w, Calls Tryz.prog 50 #[.int .u8 f, .agg #[.int .u64 (x1 : Nat), .int .u64 (y1 : Nat)]] w fun r w' => r = .returned (.tuple #[.agg #[.bool b3, .string n3, .string d3, .int .i64 e3], .int .i64 e4]) ∧ Below w.heap.size w w')) (KF0 : Box (∀ w, Calls Tryz.prog 51 #[.agg #[.bool b3, .string n3, .string d3, .int .i64 e3], .int .i64 0] w fun r w' => r = .returned (.tuple #[.string v0, .bool false, .int .i64 g0]) ∧ Below w.heap.size w w')) (KF1 : Box (∀ w, Calls Tryz.prog 51 #[.agg #[.bool b3, .string n3, .string d3, .int .i64 e3], .int .i64 (-1)] w fun r w' => r = .returned (.tuple #[.string ⟨#[]⟩, .bool wh, .int .i64 g1]) ∧ Below w.heap.size w w')) (KL1 : Box (∀ w, Calls Tryz.prog 52 #[.string ⟨#[]⟩] w fun r w' => r = .returned (.int .i64 0) ∧ Below w.heap.size w w')) (KL0 : Box (∀ w, Calls Tryz.prog 52 #[.string v0] w fun r w' => r = .returned (.int .i64 l0) ∧ Below w.heap.size w w')) (KU : Box (∀ w, Calls Tryz.prog 53 #[.int .u8 m, .bool b3, .bool od, .int .i64 (-1), .bool false] w fun r w' => r = .returned (.bool true) ∧ Below w.heap.size w w')) (KP : Box (∀ w, Calls Tryz.prog 54 #[.string v0, .string ⟨#[1]⟩] w fun r w' => r = .returned (.tuple #[.string v2, .int .i64 e5]) ∧ Below w.heap.size w w')) : Calls Tryz.prog 25 #[.int .u8 f, .int .u8 m, .agg #[.int .u64 (x1 : Nat), .int .u64 (y1 : Nat)]] w fun r w' => r = .returned (.tuple #[.string v2, .bool false]) ∧ Below w.heap.size w w' := by
  obtain ⟨Ra_0, B0⟩ := opn1 w (Obj.cells #[.int .u64 (x1 : Nat), .int .u64 (y1 : Nat)] 27)
  go_enter Tryz.func25, Tryz.ntmps25
  obtain ⟨ca_0_0, ca_0_1⟩ := cells2s Ra_0
  go_wp2_with fail
  refine (KV.out _).mono ?_
  rintro r w1 ⟨rfl, b1⟩
  have B1 : Below w.heap.size w w1 := btr B0 b1
  have Ra_1 := heap_of b1 _ _ _ Ra_0
  clear b1 B0 Ra_0 ca_0_0 ca_0_1
  obtain ⟨ca_1_0, ca_1_1⟩ := cells2s Ra_1
  have S2 := box B1.size
  have La_2 : Box (w.heap.size < w1.heap.size) := box (Array.getElem?_eq_some_iff.1 Ra_1).1
  have Rx_2 := heap_alloc_last w1 (Obj.cells #[.bool b3, .string n3, .string d3, .int .i64 e3] 89)
  have B2 := btr B1 (bal w1 (Obj.cells #[.bool b3, .string n3, .string d3, .int .i64 e3] 89))
  have Ra_2 := heap_of (bal w1 (Obj.cells #[.bool b3, .string n3, .string d3, .int .i64 e3] 89)) _ _ _ Ra_1
  clear B1 Ra_1 ca_1_0 ca_1_1
  obtain ⟨ca_2_0, ca_2_1⟩ := cells2s Ra_2
  obtain ⟨cx_2_0, cx_2_1, cx_2_2, cx_2_3⟩ := cells4s Rx_2
  go_wp2_with fail
  refine (KF0.out _).mono ?_
  rintro r w3 ⟨rfl, b3⟩
  have B3 : Below w.heap.size w w3 := btr B2 b3
  have Ra_3 := heap_of b3 _ _ _ Ra_2
  have Rx_3 := heap_of b3 _ _ _ Rx_2
  clear b3 B2 Ra_2 ca_2_0 ca_2_1 Rx_2 cx_2_0 cx_2_1 cx_2_2 cx_2_3
  obtain ⟨ca_3_0, ca_3_1⟩ := cells2s Ra_3
  obtain ⟨cx_3_0, cx_3_1, cx_3_2, cx_3_3⟩ := cells4s Rx_3
  go_wp2_with fail
  refine (KF1.out _).mono ?_
  rintro r w4 ⟨rfl, b4⟩
  have B4 : Below w.heap.size w w4 := btr B3 b4
  have Ra_4 := heap_of b4 _ _ _ Ra_3
  have Rx_4 := heap_of b4 _ _ _ Rx_3
  clear b4 B3 Ra_3 ca_3_0 ca_3_1 Rx_3 cx_3_0 cx_3_1 cx_3_2 cx_3_3
  obtain ⟨ca_4_0, ca_4_1⟩ := cells2s Ra_4
  obtain ⟨cx_4_0, cx_4_1, cx_4_2, cx_4_3⟩ := cells4s Rx_4
  go_wp2_with fail
  refine (KL1.out _).mono ?_
  rintro r w5 ⟨rfl, b5⟩
  have B5 : Below w.heap.size w w5 := btr B4 b5
  have Ra_5 := heap_of b5 _ _ _ Ra_4
  have Rx_5 := heap_of b5 _ _ _ Rx_4
  clear b5 B4 Ra_4 ca_4_0 ca_4_1 Rx_4 cx_4_0 cx_4_1 cx_4_2 cx_4_3
  obtain ⟨ca_5_0, ca_5_1⟩ := cells2s Ra_5
  obtain ⟨cx_5_0, cx_5_1, cx_5_2, cx_5_3⟩ := cells4s Rx_5
  go_wp2_with fail
  refine (KL0.out _).mono ?_
  rintro r w6 ⟨rfl, b6⟩
  have B6 : Below w.heap.size w w6 := btr B5 b6
  have Ra_6 := heap_of b6 _ _ _ Ra_5
  have Rx_6 := heap_of b6 _ _ _ Rx_5
  clear b6 B5 Ra_5 ca_5_0 ca_5_1 Rx_5 cx_5_0 cx_5_1 cx_5_2 cx_5_3
  obtain ⟨ca_6_0, ca_6_1⟩ := cells2s Ra_6
  obtain ⟨cx_6_0, cx_6_1, cx_6_2, cx_6_3⟩ := cells4s Rx_6
  go_wp2_with fail
  refine (KU.out _).mono ?_
  rintro r w7 ⟨rfl, b7⟩
  have B7 : Below w.heap.size w w7 := btr B6 b7
  have Ra_7 := heap_of b7 _ _ _ Ra_6
  have Rx_7 := heap_of b7 _ _ _ Rx_6
  clear b7 B6 Ra_6 ca_6_0 ca_6_1 Rx_6 cx_6_0 cx_6_1 cx_6_2 cx_6_3
  obtain ⟨ca_7_0, ca_7_1⟩ := cells2s Ra_7
  obtain ⟨cx_7_0, cx_7_1, cx_7_2, cx_7_3⟩ := cells4s Rx_7
  go_wp2_with fail
  refine (KP.out _).mono ?_
  rintro r w8 ⟨rfl, b8⟩
  have B8 : Below w.heap.size w w8 := btr B7 b8
  have Ra_8 := heap_of b8 _ _ _ Ra_7
  have Rx_8 := heap_of b8 _ _ _ Rx_7
  clear b8 B7 Ra_7 ca_7_0 ca_7_1 Rx_7 cx_7_0 cx_7_1 cx_7_2 cx_7_3
  obtain ⟨ca_8_0, ca_8_1⟩ := cells2s Ra_8
  obtain ⟨cx_8_0, cx_8_1, cx_8_2, cx_8_3⟩ := cells4s Rx_8
  go_wp2
  go_ret2
  exact ⟨rfl, B8⟩
set_option maxRecDepth 100000 in
set_option maxHeartbeats 8000000 in
theorem rrd_eff (f m : Int) (x1 y1 : Nat) (b3 : Bool) (n3 d3 : ByteArray) (e3 e4 g0 g1 : Int) (v0 v1 v2 : ByteArray) (wh od : Bool) (l0 l1 e5 : Int)  (q0 : (v0.toList == []) = false) (p0 : (l0 == 0) = od) (w : World) (KV : Box (∀ w, Calls Tryz.prog 50 #[.int .u8 f, .agg #[.int .u64 (x1 : Nat), .int .u64 (y1 : Nat)]] w fun r w' => r = .returned (.tuple #[.agg #[.bool b3, .string n3, .string d3, .int .i64 e3], .int .i64 e4]) ∧ Below w.heap.size w w')) (KF0 : Box (∀ w, Calls Tryz.prog 51 #[.agg #[.bool b3, .string n3, .string d3, .int .i64 e3], .int .i64 0] w fun r w' => r = .returned (.tuple #[.string v0, .bool false, .int .i64 g0]) ∧ Below w.heap.size w w')) (KF1 : Box (∀ w, Calls Tryz.prog 51 #[.agg #[.bool b3, .string n3, .string d3, .int .i64 e3], .int .i64 (-1)] w fun r w' => r = .returned (.tuple #[.string ⟨#[]⟩, .bool wh, .int .i64 g1]) ∧ Below w.heap.size w w')) (KL1 : Box (∀ w, Calls Tryz.prog 52 #[.string ⟨#[]⟩] w fun r w' => r = .returned (.int .i64 0) ∧ Below w.heap.size w w')) (KL0 : Box (∀ w, Calls Tryz.prog 52 #[.string v0] w fun r w' => r = .returned (.int .i64 l0) ∧ Below w.heap.size w w')) (KU : Box (∀ w, Calls Tryz.prog 53 #[.int .u8 m, .bool b3, .bool od, .int .i64 (-1), .bool false] w fun r w' => r = .returned (.bool false) ∧ Below w.heap.size w w')) : Calls Tryz.prog 25 #[.int .u8 f, .int .u8 m, .agg #[.int .u64 (x1 : Nat), .int .u64 (y1 : Nat)]] w fun r w' => r = .returned (.tuple #[.string v0, .bool false]) ∧ Below w.heap.size w w' := by
  obtain ⟨Ra_0, B0⟩ := opn1 w (Obj.cells #[.int .u64 (x1 : Nat), .int .u64 (y1 : Nat)] 27)
  go_enter Tryz.func25, Tryz.ntmps25
  obtain ⟨ca_0_0, ca_0_1⟩ := cells2s Ra_0
  go_wp2_with fail
  refine (KV.out _).mono ?_
  rintro r w1 ⟨rfl, b1⟩
  have B1 : Below w.heap.size w w1 := btr B0 b1
  have Ra_1 := heap_of b1 _ _ _ Ra_0
  clear b1 B0 Ra_0 ca_0_0 ca_0_1
  obtain ⟨ca_1_0, ca_1_1⟩ := cells2s Ra_1
  have S2 := box B1.size
  have La_2 : Box (w.heap.size < w1.heap.size) := box (Array.getElem?_eq_some_iff.1 Ra_1).1
  have Rx_2 := heap_alloc_last w1 (Obj.cells #[.bool b3, .string n3, .string d3, .int .i64 e3] 89)
  have B2 := btr B1 (bal w1 (Obj.cells #[.bool b3, .string n3, .string d3, .int .i64 e3] 89))
  have Ra_2 := heap_of (bal w1 (Obj.cells #[.bool b3, .string n3, .string d3, .int .i64 e3] 89)) _ _ _ Ra_1
  clear B1 Ra_1 ca_1_0 ca_1_1
  obtain ⟨ca_2_0, ca_2_1⟩ := cells2s Ra_2
  obtain ⟨cx_2_0, cx_2_1, cx_2_2, cx_2_3⟩ := cells4s Rx_2
  go_wp2_with fail
  refine (KF0.out _).mono ?_
  rintro r w3 ⟨rfl, b3⟩
  have B3 : Below w.heap.size w w3 := btr B2 b3
  have Ra_3 := heap_of b3 _ _ _ Ra_2
  have Rx_3 := heap_of b3 _ _ _ Rx_2
  clear b3 B2 Ra_2 ca_2_0 ca_2_1 Rx_2 cx_2_0 cx_2_1 cx_2_2 cx_2_3
  obtain ⟨ca_3_0, ca_3_1⟩ := cells2s Ra_3
  obtain ⟨cx_3_0, cx_3_1, cx_3_2, cx_3_3⟩ := cells4s Rx_3
  go_wp2_with fail
  refine (KF1.out _).mono ?_
  rintro r w4 ⟨rfl, b4⟩
  have B4 : Below w.heap.size w w4 := btr B3 b4
  have Ra_4 := heap_of b4 _ _ _ Ra_3
  have Rx_4 := heap_of b4 _ _ _ Rx_3
  clear b4 B3 Ra_3 ca_3_0 ca_3_1 Rx_3 cx_3_0 cx_3_1 cx_3_2 cx_3_3
  obtain ⟨ca_4_0, ca_4_1⟩ := cells2s Ra_4
  obtain ⟨cx_4_0, cx_4_1, cx_4_2, cx_4_3⟩ := cells4s Rx_4
  go_wp2_with fail
  refine (KL1.out _).mono ?_
  rintro r w5 ⟨rfl, b5⟩
  have B5 : Below w.heap.size w w5 := btr B4 b5
  have Ra_5 := heap_of b5 _ _ _ Ra_4
  have Rx_5 := heap_of b5 _ _ _ Rx_4
  clear b5 B4 Ra_4 ca_4_0 ca_4_1 Rx_4 cx_4_0 cx_4_1 cx_4_2 cx_4_3
  obtain ⟨ca_5_0, ca_5_1⟩ := cells2s Ra_5
  obtain ⟨cx_5_0, cx_5_1, cx_5_2, cx_5_3⟩ := cells4s Rx_5
  go_wp2_with fail
  refine (KL0.out _).mono ?_
  rintro r w6 ⟨rfl, b6⟩
  have B6 : Below w.heap.size w w6 := btr B5 b6
  have Ra_6 := heap_of b6 _ _ _ Ra_5
  have Rx_6 := heap_of b6 _ _ _ Rx_5
  clear b6 B5 Ra_5 ca_5_0 ca_5_1 Rx_5 cx_5_0 cx_5_1 cx_5_2 cx_5_3
  obtain ⟨ca_6_0, ca_6_1⟩ := cells2s Ra_6
  obtain ⟨cx_6_0, cx_6_1, cx_6_2, cx_6_3⟩ := cells4s Rx_6
  go_wp2_with fail
  refine (KU.out _).mono ?_
  rintro r w7 ⟨rfl, b7⟩
  have B7 : Below w.heap.size w w7 := btr B6 b7
  have Ra_7 := heap_of b7 _ _ _ Ra_6
  have Rx_7 := heap_of b7 _ _ _ Rx_6
  clear b7 B6 Ra_6 ca_6_0 ca_6_1 Rx_6 cx_6_0 cx_6_1 cx_6_2 cx_6_3
  obtain ⟨ca_7_0, ca_7_1⟩ := cells2s Ra_7
  obtain ⟨cx_7_0, cx_7_1, cx_7_2, cx_7_3⟩ := cells4s Rx_7
  go_wp2
  go_ret2
  exact ⟨rfl, B7⟩
set_option maxRecDepth 100000 in
set_option maxHeartbeats 8000000 in
theorem rtw19_no1 (f m : Int) (x1 y1 : Nat)   (w : World) (KT : Box (∀ w, Calls Tryz.prog 20 #[.int .u8 f, .agg #[.int .u64 (x1 : Nat), .int .u64 (y1 : Nat)]] w fun r w' => r = .returned (.bool false) ∧ Below w.heap.size w w'))  : Calls Tryz.prog 13 #[.int .u8 f, .int .u8 m, .agg #[.int .u64 (x1 : Nat), .int .u64 (y1 : Nat)]] w fun r w' => r = .returned (.tuple #[.bool false, .agg (cw 6 0), .bool false, .int .i64 2]) ∧ Below w.heap.size w w' := by
  have hat := cw_at 6
  have hz := cw6z
  have hff := cw6f
  have hs0 := st0
  have hcs : ∀ x, ((cw 6 x).size = 6) = True := fun x => eq_true (cw_size 6 x)
  obtain ⟨Ra_0, Rz_0, B0⟩ := opn2 w (Obj.cells #[.int .u64 (x1 : Nat), .int .u64 (y1 : Nat)] 27) (Obj.cells (cw 6 0) 40)
  go_enter Tryz.func13, Tryz.ntmps13
  obtain ⟨ca_0_0, ca_0_1⟩ := cells2s Ra_0
  go_wp2_with fail
  refine (KT.out _).mono ?_
  rintro r w1 ⟨rfl, b1⟩
  have B1 : Below w.heap.size w w1 := btr B0 b1
  have Ra_1 := heap_of b1 _ _ _ Ra_0
  have Rz_1 := heap_of b1 _ _ _ Rz_0
  clear b1 B0 Ra_0 ca_0_0 ca_0_1 Rz_0
  obtain ⟨ca_1_0, ca_1_1⟩ := cells2s Ra_1
  have cz_1_0 := row_cell Rz_1
  have hst := st_any w1 (w.heap.size + 1) 0 0 Rz_1
  have dz := row_cell (setRow_row (c' := cw 6 0) Rz_1)
  have bz := bel_set (c := cw 6 0) B1 (show w.heap.size ≤ w.heap.size + 1 by first | exact Nat.le_refl _ | omega | (skip; omega))
  go_wp2
  exact bodyPost_ret (v := .tuple #[.bool false, .agg (cw 6 0), .bool false, .int .i64 2]) (by simp [results, Tryz.results13, go_sem, dz, hff]) rfl ⟨rfl, bz⟩
set_option maxRecDepth 100000 in
set_option maxHeartbeats 8000000 in
theorem rtw19_no2 (f m : Int) (x1 y1 : Nat)   (w : World) (KT : Box (∀ w, Calls Tryz.prog 20 #[.int .u8 f, .agg #[.int .u64 (x1 : Nat), .int .u64 (y1 : Nat)]] w fun r w' => r = .returned (.bool true) ∧ Below w.heap.size w w')) (KM : Box (∀ w, Calls Tryz.prog 21 #[.int .u8 m] w fun r w' => r = .returned (.bool false) ∧ Below w.heap.size w w'))  : Calls Tryz.prog 13 #[.int .u8 f, .int .u8 m, .agg #[.int .u64 (x1 : Nat), .int .u64 (y1 : Nat)]] w fun r w' => r = .returned (.tuple #[.bool false, .agg (cw 6 0), .bool false, .int .i64 2]) ∧ Below w.heap.size w w' := by
  have hat := cw_at 6
  have hz := cw6z
  have hff := cw6f
  have hs0 := st0
  have hcs : ∀ x, ((cw 6 x).size = 6) = True := fun x => eq_true (cw_size 6 x)
  obtain ⟨Ra_0, Rz_0, B0⟩ := opn2 w (Obj.cells #[.int .u64 (x1 : Nat), .int .u64 (y1 : Nat)] 27) (Obj.cells (cw 6 0) 40)
  go_enter Tryz.func13, Tryz.ntmps13
  obtain ⟨ca_0_0, ca_0_1⟩ := cells2s Ra_0
  go_wp2_with fail
  refine (KT.out _).mono ?_
  rintro r w1 ⟨rfl, b1⟩
  have B1 : Below w.heap.size w w1 := btr B0 b1
  have Ra_1 := heap_of b1 _ _ _ Ra_0
  have Rz_1 := heap_of b1 _ _ _ Rz_0
  clear b1 B0 Ra_0 ca_0_0 ca_0_1 Rz_0
  obtain ⟨ca_1_0, ca_1_1⟩ := cells2s Ra_1
  go_wp2_with fail
  refine (KM.out _).mono ?_
  rintro r w2 ⟨rfl, b2⟩
  have B2 : Below w.heap.size w w2 := btr B1 b2
  have Ra_2 := heap_of b2 _ _ _ Ra_1
  have Rz_2 := heap_of b2 _ _ _ Rz_1
  clear b2 B1 Ra_1 ca_1_0 ca_1_1 Rz_1
  obtain ⟨ca_2_0, ca_2_1⟩ := cells2s Ra_2
  have cz_2_0 := row_cell Rz_2
  have hst := st_any w2 (w.heap.size + 1) 0 0 Rz_2
  have dz := row_cell (setRow_row (c' := cw 6 0) Rz_2)
  have bz := bel_set (c := cw 6 0) B2 (show w.heap.size ≤ w.heap.size + 1 by first | exact Nat.le_refl _ | omega | (skip; omega))
  go_wp2
  exact bodyPost_ret (v := .tuple #[.bool false, .agg (cw 6 0), .bool false, .int .i64 2]) (by simp [results, Tryz.results13, go_sem, dz, hff]) rfl ⟨rfl, bz⟩
set_option maxRecDepth 100000 in
set_option maxHeartbeats 8000000 in
theorem rtw19_nan (f m : Int) (x1 y1 : Nat)   (w : World) (KT : Box (∀ w, Calls Tryz.prog 20 #[.int .u8 f, .agg #[.int .u64 (x1 : Nat), .int .u64 (y1 : Nat)]] w fun r w' => r = .returned (.bool true) ∧ Below w.heap.size w w')) (KM : Box (∀ w, Calls Tryz.prog 21 #[.int .u8 m] w fun r w' => r = .returned (.bool true) ∧ Below w.heap.size w w')) (KN : Box (∀ w, Calls Tryz.prog 23 #[.int .u8 f, .agg #[.int .u64 (x1 : Nat), .int .u64 (y1 : Nat)]] w fun r w' => r = .returned (.bool true) ∧ Below w.heap.size w w'))  : Calls Tryz.prog 13 #[.int .u8 f, .int .u8 m, .agg #[.int .u64 (x1 : Nat), .int .u64 (y1 : Nat)]] w fun r w' => r = .returned (.tuple #[.bool false, .agg (cw 6 0), .bool false, .int .i64 80]) ∧ Below w.heap.size w w' := by
  have hat := cw_at 6
  have hz := cw6z
  have hff := cw6f
  have hs0 := st0
  have hcs : ∀ x, ((cw 6 x).size = 6) = True := fun x => eq_true (cw_size 6 x)
  obtain ⟨Ra_0, Rz_0, B0⟩ := opn2 w (Obj.cells #[.int .u64 (x1 : Nat), .int .u64 (y1 : Nat)] 27) (Obj.cells (cw 6 0) 40)
  go_enter Tryz.func13, Tryz.ntmps13
  obtain ⟨ca_0_0, ca_0_1⟩ := cells2s Ra_0
  go_wp2_with fail
  refine (KT.out _).mono ?_
  rintro r w1 ⟨rfl, b1⟩
  have B1 : Below w.heap.size w w1 := btr B0 b1
  have Ra_1 := heap_of b1 _ _ _ Ra_0
  have Rz_1 := heap_of b1 _ _ _ Rz_0
  clear b1 B0 Ra_0 ca_0_0 ca_0_1 Rz_0
  obtain ⟨ca_1_0, ca_1_1⟩ := cells2s Ra_1
  go_wp2_with fail
  refine (KM.out _).mono ?_
  rintro r w2 ⟨rfl, b2⟩
  have B2 : Below w.heap.size w w2 := btr B1 b2
  have Ra_2 := heap_of b2 _ _ _ Ra_1
  have Rz_2 := heap_of b2 _ _ _ Rz_1
  clear b2 B1 Ra_1 ca_1_0 ca_1_1 Rz_1
  obtain ⟨ca_2_0, ca_2_1⟩ := cells2s Ra_2
  go_wp2_with fail
  refine (KN.out _).mono ?_
  rintro r w3 ⟨rfl, b3⟩
  have B3 : Below w.heap.size w w3 := btr B2 b3
  have Ra_3 := heap_of b3 _ _ _ Ra_2
  have Rz_3 := heap_of b3 _ _ _ Rz_2
  clear b3 B2 Ra_2 ca_2_0 ca_2_1 Rz_2
  obtain ⟨ca_3_0, ca_3_1⟩ := cells2s Ra_3
  have cz_3_0 := row_cell Rz_3
  have hst := st_any w3 (w.heap.size + 1) 0 0 Rz_3
  have dz := row_cell (setRow_row (c' := cw 6 0) Rz_3)
  have bz := bel_set (c := cw 6 0) B3 (show w.heap.size ≤ w.heap.size + 1 by first | exact Nat.le_refl _ | omega | (skip; omega))
  go_wp2
  exact bodyPost_ret (v := .tuple #[.bool false, .agg (cw 6 0), .bool false, .int .i64 80]) (by simp [results, Tryz.results13, go_sem, dz, hff]) rfl ⟨rfl, bz⟩
set_option maxRecDepth 100000 in
set_option maxHeartbeats 8000000 in
theorem rtw19_inf (f m : Int) (x1 y1 : Nat)   (w : World) (KT : Box (∀ w, Calls Tryz.prog 20 #[.int .u8 f, .agg #[.int .u64 (x1 : Nat), .int .u64 (y1 : Nat)]] w fun r w' => r = .returned (.bool true) ∧ Below w.heap.size w w')) (KM : Box (∀ w, Calls Tryz.prog 21 #[.int .u8 m] w fun r w' => r = .returned (.bool true) ∧ Below w.heap.size w w')) (KN : Box (∀ w, Calls Tryz.prog 23 #[.int .u8 f, .agg #[.int .u64 (x1 : Nat), .int .u64 (y1 : Nat)]] w fun r w' => r = .returned (.bool false) ∧ Below w.heap.size w w')) (KI : Box (∀ w, Calls Tryz.prog 24 #[.int .u8 f, .agg #[.int .u64 (x1 : Nat), .int .u64 (y1 : Nat)]] w fun r w' => r = .returned (.bool true) ∧ Below w.heap.size w w'))  : Calls Tryz.prog 13 #[.int .u8 f, .int .u8 m, .agg #[.int .u64 (x1 : Nat), .int .u64 (y1 : Nat)]] w fun r w' => r = .returned (.tuple #[.bool false, .agg (cw 6 0), .bool false, .int .i64 80]) ∧ Below w.heap.size w w' := by
  have hat := cw_at 6
  have hz := cw6z
  have hff := cw6f
  have hs0 := st0
  have hcs : ∀ x, ((cw 6 x).size = 6) = True := fun x => eq_true (cw_size 6 x)
  obtain ⟨Ra_0, Rz_0, B0⟩ := opn2 w (Obj.cells #[.int .u64 (x1 : Nat), .int .u64 (y1 : Nat)] 27) (Obj.cells (cw 6 0) 40)
  go_enter Tryz.func13, Tryz.ntmps13
  obtain ⟨ca_0_0, ca_0_1⟩ := cells2s Ra_0
  go_wp2_with fail
  refine (KT.out _).mono ?_
  rintro r w1 ⟨rfl, b1⟩
  have B1 : Below w.heap.size w w1 := btr B0 b1
  have Ra_1 := heap_of b1 _ _ _ Ra_0
  have Rz_1 := heap_of b1 _ _ _ Rz_0
  clear b1 B0 Ra_0 ca_0_0 ca_0_1 Rz_0
  obtain ⟨ca_1_0, ca_1_1⟩ := cells2s Ra_1
  go_wp2_with fail
  refine (KM.out _).mono ?_
  rintro r w2 ⟨rfl, b2⟩
  have B2 : Below w.heap.size w w2 := btr B1 b2
  have Ra_2 := heap_of b2 _ _ _ Ra_1
  have Rz_2 := heap_of b2 _ _ _ Rz_1
  clear b2 B1 Ra_1 ca_1_0 ca_1_1 Rz_1
  obtain ⟨ca_2_0, ca_2_1⟩ := cells2s Ra_2
  go_wp2_with fail
  refine (KN.out _).mono ?_
  rintro r w3 ⟨rfl, b3⟩
  have B3 : Below w.heap.size w w3 := btr B2 b3
  have Ra_3 := heap_of b3 _ _ _ Ra_2
  have Rz_3 := heap_of b3 _ _ _ Rz_2
  clear b3 B2 Ra_2 ca_2_0 ca_2_1 Rz_2
  obtain ⟨ca_3_0, ca_3_1⟩ := cells2s Ra_3
  go_wp2_with fail
  refine (KI.out _).mono ?_
  rintro r w4 ⟨rfl, b4⟩
  have B4 : Below w.heap.size w w4 := btr B3 b4
  have Ra_4 := heap_of b4 _ _ _ Ra_3
  have Rz_4 := heap_of b4 _ _ _ Rz_3
  clear b4 B3 Ra_3 ca_3_0 ca_3_1 Rz_3
  obtain ⟨ca_4_0, ca_4_1⟩ := cells2s Ra_4
  have cz_4_0 := row_cell Rz_4
  have hst := st_any w4 (w.heap.size + 1) 0 0 Rz_4
  have dz := row_cell (setRow_row (c' := cw 6 0) Rz_4)
  have bz := bel_set (c := cw 6 0) B4 (show w.heap.size ≤ w.heap.size + 1 by first | exact Nat.le_refl _ | omega | (skip; omega))
  go_wp2
  exact bodyPost_ret (v := .tuple #[.bool false, .agg (cw 6 0), .bool false, .int .i64 80]) (by simp [results, Tryz.results13, go_sem, dz, hff]) rfl ⟨rfl, bz⟩
set_option maxRecDepth 100000 in
set_option maxHeartbeats 8000000 in
theorem rtw19_long (f m : Int) (x1 y1 : Nat) (v0 : ByteArray) (ex : Bool) (l : Int) (hl : decide (384 < l) = true) (w : World) (KT : Box (∀ w, Calls Tryz.prog 20 #[.int .u8 f, .agg #[.int .u64 (x1 : Nat), .int .u64 (y1 : Nat)]] w fun r w' => r = .returned (.bool true) ∧ Below w.heap.size w w')) (KM : Box (∀ w, Calls Tryz.prog 21 #[.int .u8 m] w fun r w' => r = .returned (.bool true) ∧ Below w.heap.size w w')) (KN : Box (∀ w, Calls Tryz.prog 23 #[.int .u8 f, .agg #[.int .u64 (x1 : Nat), .int .u64 (y1 : Nat)]] w fun r w' => r = .returned (.bool false) ∧ Below w.heap.size w w')) (KI : Box (∀ w, Calls Tryz.prog 24 #[.int .u8 f, .agg #[.int .u64 (x1 : Nat), .int .u64 (y1 : Nat)]] w fun r w' => r = .returned (.bool false) ∧ Below w.heap.size w w')) (KR : Box (∀ w, Calls Tryz.prog 25 #[.int .u8 f, .int .u8 m, .agg #[.int .u64 (x1 : Nat), .int .u64 (y1 : Nat)]] w fun r w' => r = .returned (.tuple #[.string v0, .bool ex]) ∧ Below w.heap.size w w')) (KL : Box (∀ w, Calls Tryz.prog 41 #[.string v0] w fun r w' => r = .returned (.int .i64 l) ∧ Below w.heap.size w w')) : Calls Tryz.prog 13 #[.int .u8 f, .int .u8 m, .agg #[.int .u64 (x1 : Nat), .int .u64 (y1 : Nat)]] w fun r w' => r = .returned (.tuple #[.bool false, .agg (cw 6 0), .bool false, .int .i64 4]) ∧ Below w.heap.size w w' := by
  have hat := cw_at 6
  have hz := cw6z
  have hff := cw6f
  have hs0 := st0
  have hcs : ∀ x, ((cw 6 x).size = 6) = True := fun x => eq_true (cw_size 6 x)
  obtain ⟨Ra_0, Rz_0, B0⟩ := opn2 w (Obj.cells #[.int .u64 (x1 : Nat), .int .u64 (y1 : Nat)] 27) (Obj.cells (cw 6 0) 40)
  go_enter Tryz.func13, Tryz.ntmps13
  obtain ⟨ca_0_0, ca_0_1⟩ := cells2s Ra_0
  go_wp2_with fail
  refine (KT.out _).mono ?_
  rintro r w1 ⟨rfl, b1⟩
  have B1 : Below w.heap.size w w1 := btr B0 b1
  have Ra_1 := heap_of b1 _ _ _ Ra_0
  have Rz_1 := heap_of b1 _ _ _ Rz_0
  clear b1 B0 Ra_0 ca_0_0 ca_0_1 Rz_0
  obtain ⟨ca_1_0, ca_1_1⟩ := cells2s Ra_1
  go_wp2_with fail
  refine (KM.out _).mono ?_
  rintro r w2 ⟨rfl, b2⟩
  have B2 : Below w.heap.size w w2 := btr B1 b2
  have Ra_2 := heap_of b2 _ _ _ Ra_1
  have Rz_2 := heap_of b2 _ _ _ Rz_1
  clear b2 B1 Ra_1 ca_1_0 ca_1_1 Rz_1
  obtain ⟨ca_2_0, ca_2_1⟩ := cells2s Ra_2
  go_wp2_with fail
  refine (KN.out _).mono ?_
  rintro r w3 ⟨rfl, b3⟩
  have B3 : Below w.heap.size w w3 := btr B2 b3
  have Ra_3 := heap_of b3 _ _ _ Ra_2
  have Rz_3 := heap_of b3 _ _ _ Rz_2
  clear b3 B2 Ra_2 ca_2_0 ca_2_1 Rz_2
  obtain ⟨ca_3_0, ca_3_1⟩ := cells2s Ra_3
  go_wp2_with fail
  refine (KI.out _).mono ?_
  rintro r w4 ⟨rfl, b4⟩
  have B4 : Below w.heap.size w w4 := btr B3 b4
  have Ra_4 := heap_of b4 _ _ _ Ra_3
  have Rz_4 := heap_of b4 _ _ _ Rz_3
  clear b4 B3 Ra_3 ca_3_0 ca_3_1 Rz_3
  obtain ⟨ca_4_0, ca_4_1⟩ := cells2s Ra_4
  go_wp2_with fail
  refine (KR.out _).mono ?_
  rintro r w5 ⟨rfl, b5⟩
  have B5 : Below w.heap.size w w5 := btr B4 b5
  have Ra_5 := heap_of b5 _ _ _ Ra_4
  have Rz_5 := heap_of b5 _ _ _ Rz_4
  clear b5 B4 Ra_4 ca_4_0 ca_4_1 Rz_4
  obtain ⟨ca_5_0, ca_5_1⟩ := cells2s Ra_5
  go_wp2_with fail
  refine (KL.out _).mono ?_
  rintro r w6 ⟨rfl, b6⟩
  have B6 : Below w.heap.size w w6 := btr B5 b6
  have Ra_6 := heap_of b6 _ _ _ Ra_5
  have Rz_6 := heap_of b6 _ _ _ Rz_5
  clear b6 B5 Ra_5 ca_5_0 ca_5_1 Rz_5
  obtain ⟨ca_6_0, ca_6_1⟩ := cells2s Ra_6
  have cz_6_0 := row_cell Rz_6
  have hst := st_any w6 (w.heap.size + 1) 0 0 Rz_6
  have dz := row_cell (setRow_row (c' := cw 6 0) Rz_6)
  have bz := bel_set (c := cw 6 0) B6 (show w.heap.size ≤ w.heap.size + 1 by first | exact Nat.le_refl _ | omega | (skip; omega))
  go_wp2
  exact bodyPost_ret (v := .tuple #[.bool false, .agg (cw 6 0), .bool false, .int .i64 4]) (by simp [results, Tryz.results13, go_sem, dz, hff]) rfl ⟨rfl, bz⟩
set_option maxRecDepth 100000 in
set_option maxHeartbeats 8000000 in
theorem rtw19_pos (f m : Int) (x1 y1 : Nat) (v0 : ByteArray) (ex : Bool) (l : Int) (N : Nat) (tw : Bool) (hl : decide (384 < l) = false) (w : World) (KT : Box (∀ w, Calls Tryz.prog 20 #[.int .u8 f, .agg #[.int .u64 (x1 : Nat), .int .u64 (y1 : Nat)]] w fun r w' => r = .returned (.bool true) ∧ Below w.heap.size w w')) (KM : Box (∀ w, Calls Tryz.prog 21 #[.int .u8 m] w fun r w' => r = .returned (.bool true) ∧ Below w.heap.size w w')) (KN : Box (∀ w, Calls Tryz.prog 23 #[.int .u8 f, .agg #[.int .u64 (x1 : Nat), .int .u64 (y1 : Nat)]] w fun r w' => r = .returned (.bool false) ∧ Below w.heap.size w w')) (KI : Box (∀ w, Calls Tryz.prog 24 #[.int .u8 f, .agg #[.int .u64 (x1 : Nat), .int .u64 (y1 : Nat)]] w fun r w' => r = .returned (.bool false) ∧ Below w.heap.size w w')) (KG : Box (∀ w, Calls Tryz.prog 22 #[.int .u8 f, .agg #[.int .u64 (x1 : Nat), .int .u64 (y1 : Nat)]] w fun r w' => r = .returned (.bool false) ∧ Below w.heap.size w w')) (KR : Box (∀ w, Calls Tryz.prog 25 #[.int .u8 f, .int .u8 m, .agg #[.int .u64 (x1 : Nat), .int .u64 (y1 : Nat)]] w fun r w' => r = .returned (.tuple #[.string v0, .bool ex]) ∧ Below w.heap.size w w')) (KL : Box (∀ w, Calls Tryz.prog 41 #[.string v0] w fun r w' => r = .returned (.int .i64 l) ∧ Below w.heap.size w w')) (KW : Box (∀ w, Calls Tryz.prog 29 #[.string v0] w fun r w' => r = .returned (.tuple #[.agg (cw 6 N), .bool tw]) ∧ Below w.heap.size w w')) : Calls Tryz.prog 13 #[.int .u8 f, .int .u8 m, .agg #[.int .u64 (x1 : Nat), .int .u64 (y1 : Nat)]] w fun r w' => r = .returned (.tuple #[.bool false, .agg (cw 6 N), .bool ex, .int .i64 0]) ∧ Below w.heap.size w w' := by
  have hat := cw_at 6
  have hz := cw6z
  have hff := cw6f
  have hs0 := st0
  have hcs : ∀ x, ((cw 6 x).size = 6) = True := fun x => eq_true (cw_size 6 x)
  obtain ⟨Ra_0, Rz_0, B0⟩ := opn2 w (Obj.cells #[.int .u64 (x1 : Nat), .int .u64 (y1 : Nat)] 27) (Obj.cells (cw 6 0) 40)
  go_enter Tryz.func13, Tryz.ntmps13
  obtain ⟨ca_0_0, ca_0_1⟩ := cells2s Ra_0
  go_wp2_with fail
  refine (KT.out _).mono ?_
  rintro r w1 ⟨rfl, b1⟩
  have B1 : Below w.heap.size w w1 := btr B0 b1
  have Ra_1 := heap_of b1 _ _ _ Ra_0
  have Rz_1 := heap_of b1 _ _ _ Rz_0
  clear b1 B0 Ra_0 ca_0_0 ca_0_1 Rz_0
  obtain ⟨ca_1_0, ca_1_1⟩ := cells2s Ra_1
  go_wp2_with fail
  refine (KM.out _).mono ?_
  rintro r w2 ⟨rfl, b2⟩
  have B2 : Below w.heap.size w w2 := btr B1 b2
  have Ra_2 := heap_of b2 _ _ _ Ra_1
  have Rz_2 := heap_of b2 _ _ _ Rz_1
  clear b2 B1 Ra_1 ca_1_0 ca_1_1 Rz_1
  obtain ⟨ca_2_0, ca_2_1⟩ := cells2s Ra_2
  go_wp2_with fail
  refine (KN.out _).mono ?_
  rintro r w3 ⟨rfl, b3⟩
  have B3 : Below w.heap.size w w3 := btr B2 b3
  have Ra_3 := heap_of b3 _ _ _ Ra_2
  have Rz_3 := heap_of b3 _ _ _ Rz_2
  clear b3 B2 Ra_2 ca_2_0 ca_2_1 Rz_2
  obtain ⟨ca_3_0, ca_3_1⟩ := cells2s Ra_3
  go_wp2_with fail
  refine (KI.out _).mono ?_
  rintro r w4 ⟨rfl, b4⟩
  have B4 : Below w.heap.size w w4 := btr B3 b4
  have Ra_4 := heap_of b4 _ _ _ Ra_3
  have Rz_4 := heap_of b4 _ _ _ Rz_3
  clear b4 B3 Ra_3 ca_3_0 ca_3_1 Rz_3
  obtain ⟨ca_4_0, ca_4_1⟩ := cells2s Ra_4
  go_wp2_with fail
  refine (KR.out _).mono ?_
  rintro r w5 ⟨rfl, b5⟩
  have B5 : Below w.heap.size w w5 := btr B4 b5
  have Ra_5 := heap_of b5 _ _ _ Ra_4
  have Rz_5 := heap_of b5 _ _ _ Rz_4
  clear b5 B4 Ra_4 ca_4_0 ca_4_1 Rz_4
  obtain ⟨ca_5_0, ca_5_1⟩ := cells2s Ra_5
  go_wp2_with fail
  refine (KL.out _).mono ?_
  rintro r w6 ⟨rfl, b6⟩
  have B6 : Below w.heap.size w w6 := btr B5 b6
  have Ra_6 := heap_of b6 _ _ _ Ra_5
  have Rz_6 := heap_of b6 _ _ _ Rz_5
  clear b6 B5 Ra_5 ca_5_0 ca_5_1 Rz_5
  obtain ⟨ca_6_0, ca_6_1⟩ := cells2s Ra_6
  go_wp2_with fail
  refine (KW.out _).mono ?_
  rintro r w7 ⟨rfl, b7⟩
  have B7 : Below w.heap.size w w7 := btr B6 b7
  have Ra_7 := heap_of b7 _ _ _ Ra_6
  have Rz_7 := heap_of b7 _ _ _ Rz_6
  clear b7 B6 Ra_6 ca_6_0 ca_6_1 Rz_6
  obtain ⟨ca_7_0, ca_7_1⟩ := cells2s Ra_7
  have S8 := box B7.size
  have La_8 : Box (w.heap.size < w7.heap.size) := box (Array.getElem?_eq_some_iff.1 Ra_7).1
  have Lz_8 : Box (w.heap.size + 1 < w7.heap.size) := box (Array.getElem?_eq_some_iff.1 Rz_7).1
  have Rww_8 := heap_alloc_last w7 (Obj.cells (cw 6 N) 40)
  have B8 := btr B7 (bal w7 (Obj.cells (cw 6 N) 40))
  have Ra_8 := heap_of (bal w7 (Obj.cells (cw 6 N) 40)) _ _ _ Ra_7
  have Rz_8 := heap_of (bal w7 (Obj.cells (cw 6 N) 40)) _ _ _ Rz_7
  clear B7 Ra_7 ca_7_0 ca_7_1 Rz_7
  obtain ⟨ca_8_0, ca_8_1⟩ := cells2s Ra_8
  have cww_8_0 := row_cell Rww_8
  have cz_8_0 := row_cell Rz_8
  have qa : ((w7.alloc (Obj.cells (cw 6 N) 40))).drew.heap[w.heap.size]? = some (Obj.cells #[.int .u64 (x1 : Nat), .int .u64 (y1 : Nat)] 27) := Ra_8
  have qz : ((w7.alloc (Obj.cells (cw 6 N) 40))).drew.heap[w.heap.size + 1]? = some (Obj.cells (cw 6 0) 40) := Rz_8
  have qww : ((w7.alloc (Obj.cells (cw 6 N) 40))).drew.heap[w7.heap.size]? = some (Obj.cells (cw 6 N) 40) := Rww_8
  have qB := B8.drew
  have hst := st_any ((w7.alloc (Obj.cells (cw 6 N) 40))).drew (w.heap.size + 1) N 0 qz
  go_wp2_with fail
  first | (go_region_with (first | (go_at_call 22; refine (KG.out _).mono ?_; rintro r wq ⟨rfl, bq⟩; have qa := heap_of bq _ _ _ qa; have qz := heap_of bq _ _ _ qz; have qww := heap_of bq _ _ _ qww; have qB := btr qB bq; have da0 := cell7 qa 0 (.int .u64 (x1 : Nat)) rfl; have da1 := cell7 qa 1 (.int .u64 (y1 : Nat)) rfl; have dz := row_cell qz; have dww := row_cell qww; have hst := st_any wq (w.heap.size + 1) N 0 qz; clear bq) | fail)) | fail
  all_goals
    have dz := row_cell (setRow_row (c' := cw 6 N) qz)
    have bz := bel_set (c := cw 6 N) qB (show w.heap.size ≤ w.heap.size + 1 by first | exact Nat.le_refl _ | omega | (have := S8.out; have := La_8.out; have := Lz_8.out; omega))
    go_wp2
    exact bodyPost_ret (v := .tuple #[.bool false, .agg (cw 6 N), .bool ex, .int .i64 0]) (by simp [results, Tryz.results13, go_sem, dz, hff]) rfl ⟨rfl, bz⟩
set_option maxRecDepth 100000 in
set_option maxHeartbeats 8000000 in
theorem rtw19_neg (f m : Int) (x1 y1 : Nat) (v0 : ByteArray) (ex : Bool) (l : Int) (N : Nat) (tw : Bool) (hl : decide (384 < l) = false) (q0 : (v0.toList == []) = false) (w : World) (KT : Box (∀ w, Calls Tryz.prog 20 #[.int .u8 f, .agg #[.int .u64 (x1 : Nat), .int .u64 (y1 : Nat)]] w fun r w' => r = .returned (.bool true) ∧ Below w.heap.size w w')) (KM : Box (∀ w, Calls Tryz.prog 21 #[.int .u8 m] w fun r w' => r = .returned (.bool true) ∧ Below w.heap.size w w')) (KN : Box (∀ w, Calls Tryz.prog 23 #[.int .u8 f, .agg #[.int .u64 (x1 : Nat), .int .u64 (y1 : Nat)]] w fun r w' => r = .returned (.bool false) ∧ Below w.heap.size w w')) (KI : Box (∀ w, Calls Tryz.prog 24 #[.int .u8 f, .agg #[.int .u64 (x1 : Nat), .int .u64 (y1 : Nat)]] w fun r w' => r = .returned (.bool false) ∧ Below w.heap.size w w')) (KG : Box (∀ w, Calls Tryz.prog 22 #[.int .u8 f, .agg #[.int .u64 (x1 : Nat), .int .u64 (y1 : Nat)]] w fun r w' => r = .returned (.bool true) ∧ Below w.heap.size w w')) (KR : Box (∀ w, Calls Tryz.prog 25 #[.int .u8 f, .int .u8 m, .agg #[.int .u64 (x1 : Nat), .int .u64 (y1 : Nat)]] w fun r w' => r = .returned (.tuple #[.string v0, .bool ex]) ∧ Below w.heap.size w w')) (KL : Box (∀ w, Calls Tryz.prog 41 #[.string v0] w fun r w' => r = .returned (.int .i64 l) ∧ Below w.heap.size w w')) (KW : Box (∀ w, Calls Tryz.prog 29 #[.string v0] w fun r w' => r = .returned (.tuple #[.agg (cw 6 N), .bool tw]) ∧ Below w.heap.size w w')) : Calls Tryz.prog 13 #[.int .u8 f, .int .u8 m, .agg #[.int .u64 (x1 : Nat), .int .u64 (y1 : Nat)]] w fun r w' => r = .returned (.tuple #[.bool true, .agg (cw 6 N), .bool ex, .int .i64 0]) ∧ Below w.heap.size w w' := by
  have hat := cw_at 6
  have hz := cw6z
  have hff := cw6f
  have hs0 := st0
  have hcs : ∀ x, ((cw 6 x).size = 6) = True := fun x => eq_true (cw_size 6 x)
  obtain ⟨Ra_0, Rz_0, B0⟩ := opn2 w (Obj.cells #[.int .u64 (x1 : Nat), .int .u64 (y1 : Nat)] 27) (Obj.cells (cw 6 0) 40)
  go_enter Tryz.func13, Tryz.ntmps13
  obtain ⟨ca_0_0, ca_0_1⟩ := cells2s Ra_0
  go_wp2_with fail
  refine (KT.out _).mono ?_
  rintro r w1 ⟨rfl, b1⟩
  have B1 : Below w.heap.size w w1 := btr B0 b1
  have Ra_1 := heap_of b1 _ _ _ Ra_0
  have Rz_1 := heap_of b1 _ _ _ Rz_0
  clear b1 B0 Ra_0 ca_0_0 ca_0_1 Rz_0
  obtain ⟨ca_1_0, ca_1_1⟩ := cells2s Ra_1
  go_wp2_with fail
  refine (KM.out _).mono ?_
  rintro r w2 ⟨rfl, b2⟩
  have B2 : Below w.heap.size w w2 := btr B1 b2
  have Ra_2 := heap_of b2 _ _ _ Ra_1
  have Rz_2 := heap_of b2 _ _ _ Rz_1
  clear b2 B1 Ra_1 ca_1_0 ca_1_1 Rz_1
  obtain ⟨ca_2_0, ca_2_1⟩ := cells2s Ra_2
  go_wp2_with fail
  refine (KN.out _).mono ?_
  rintro r w3 ⟨rfl, b3⟩
  have B3 : Below w.heap.size w w3 := btr B2 b3
  have Ra_3 := heap_of b3 _ _ _ Ra_2
  have Rz_3 := heap_of b3 _ _ _ Rz_2
  clear b3 B2 Ra_2 ca_2_0 ca_2_1 Rz_2
  obtain ⟨ca_3_0, ca_3_1⟩ := cells2s Ra_3
  go_wp2_with fail
  refine (KI.out _).mono ?_
  rintro r w4 ⟨rfl, b4⟩
  have B4 : Below w.heap.size w w4 := btr B3 b4
  have Ra_4 := heap_of b4 _ _ _ Ra_3
  have Rz_4 := heap_of b4 _ _ _ Rz_3
  clear b4 B3 Ra_3 ca_3_0 ca_3_1 Rz_3
  obtain ⟨ca_4_0, ca_4_1⟩ := cells2s Ra_4
  go_wp2_with fail
  refine (KR.out _).mono ?_
  rintro r w5 ⟨rfl, b5⟩
  have B5 : Below w.heap.size w w5 := btr B4 b5
  have Ra_5 := heap_of b5 _ _ _ Ra_4
  have Rz_5 := heap_of b5 _ _ _ Rz_4
  clear b5 B4 Ra_4 ca_4_0 ca_4_1 Rz_4
  obtain ⟨ca_5_0, ca_5_1⟩ := cells2s Ra_5
  go_wp2_with fail
  refine (KL.out _).mono ?_
  rintro r w6 ⟨rfl, b6⟩
  have B6 : Below w.heap.size w w6 := btr B5 b6
  have Ra_6 := heap_of b6 _ _ _ Ra_5
  have Rz_6 := heap_of b6 _ _ _ Rz_5
  clear b6 B5 Ra_5 ca_5_0 ca_5_1 Rz_5
  obtain ⟨ca_6_0, ca_6_1⟩ := cells2s Ra_6
  go_wp2_with fail
  refine (KW.out _).mono ?_
  rintro r w7 ⟨rfl, b7⟩
  have B7 : Below w.heap.size w w7 := btr B6 b7
  have Ra_7 := heap_of b7 _ _ _ Ra_6
  have Rz_7 := heap_of b7 _ _ _ Rz_6
  clear b7 B6 Ra_6 ca_6_0 ca_6_1 Rz_6
  obtain ⟨ca_7_0, ca_7_1⟩ := cells2s Ra_7
  have S8 := box B7.size
  have La_8 : Box (w.heap.size < w7.heap.size) := box (Array.getElem?_eq_some_iff.1 Ra_7).1
  have Lz_8 : Box (w.heap.size + 1 < w7.heap.size) := box (Array.getElem?_eq_some_iff.1 Rz_7).1
  have Rww_8 := heap_alloc_last w7 (Obj.cells (cw 6 N) 40)
  have B8 := btr B7 (bal w7 (Obj.cells (cw 6 N) 40))
  have Ra_8 := heap_of (bal w7 (Obj.cells (cw 6 N) 40)) _ _ _ Ra_7
  have Rz_8 := heap_of (bal w7 (Obj.cells (cw 6 N) 40)) _ _ _ Rz_7
  clear B7 Ra_7 ca_7_0 ca_7_1 Rz_7
  obtain ⟨ca_8_0, ca_8_1⟩ := cells2s Ra_8
  have cww_8_0 := row_cell Rww_8
  have cz_8_0 := row_cell Rz_8
  have qa : ((w7.alloc (Obj.cells (cw 6 N) 40))).drew.heap[w.heap.size]? = some (Obj.cells #[.int .u64 (x1 : Nat), .int .u64 (y1 : Nat)] 27) := Ra_8
  have qz : ((w7.alloc (Obj.cells (cw 6 N) 40))).drew.heap[w.heap.size + 1]? = some (Obj.cells (cw 6 0) 40) := Rz_8
  have qww : ((w7.alloc (Obj.cells (cw 6 N) 40))).drew.heap[w7.heap.size]? = some (Obj.cells (cw 6 N) 40) := Rww_8
  have qB := B8.drew
  have hst := st_any ((w7.alloc (Obj.cells (cw 6 N) 40))).drew (w.heap.size + 1) N 0 qz
  go_wp2_with fail
  first | (go_region_with (first | (go_at_call 22; refine (KG.out _).mono ?_; rintro r wq ⟨rfl, bq⟩; have qa := heap_of bq _ _ _ qa; have qz := heap_of bq _ _ _ qz; have qww := heap_of bq _ _ _ qww; have qB := btr qB bq; have da0 := cell7 qa 0 (.int .u64 (x1 : Nat)) rfl; have da1 := cell7 qa 1 (.int .u64 (y1 : Nat)) rfl; have dz := row_cell qz; have dww := row_cell qww; have hst := st_any wq (w.heap.size + 1) N 0 qz; clear bq) | fail)) | fail
  all_goals
    have dz := row_cell (setRow_row (c' := cw 6 N) qz)
    have bz := bel_set (c := cw 6 N) qB (show w.heap.size ≤ w.heap.size + 1 by first | exact Nat.le_refl _ | omega | (have := S8.out; have := La_8.out; have := Lz_8.out; omega))
    go_wp2
    exact bodyPost_ret (v := .tuple #[.bool true, .agg (cw 6 N), .bool ex, .int .i64 0]) (by simp [results, Tryz.results13, go_sem, dz, hff]) rfl ⟨rfl, bz⟩
set_option maxRecDepth 100000 in
set_option maxHeartbeats 8000000 in
theorem rtw19_nil (f m : Int) (x1 y1 : Nat) (v0 : ByteArray) (ex : Bool) (l : Int) (N : Nat) (tw : Bool) (hl : decide (384 < l) = false) (w : World) (KT : Box (∀ w, Calls Tryz.prog 20 #[.int .u8 f, .agg #[.int .u64 (x1 : Nat), .int .u64 (y1 : Nat)]] w fun r w' => r = .returned (.bool true) ∧ Below w.heap.size w w')) (KM : Box (∀ w, Calls Tryz.prog 21 #[.int .u8 m] w fun r w' => r = .returned (.bool true) ∧ Below w.heap.size w w')) (KN : Box (∀ w, Calls Tryz.prog 23 #[.int .u8 f, .agg #[.int .u64 (x1 : Nat), .int .u64 (y1 : Nat)]] w fun r w' => r = .returned (.bool false) ∧ Below w.heap.size w w')) (KI : Box (∀ w, Calls Tryz.prog 24 #[.int .u8 f, .agg #[.int .u64 (x1 : Nat), .int .u64 (y1 : Nat)]] w fun r w' => r = .returned (.bool false) ∧ Below w.heap.size w w')) (KG : Box (∀ w, Calls Tryz.prog 22 #[.int .u8 f, .agg #[.int .u64 (x1 : Nat), .int .u64 (y1 : Nat)]] w fun r w' => r = .returned (.bool true) ∧ Below w.heap.size w w')) (KR : Box (∀ w, Calls Tryz.prog 25 #[.int .u8 f, .int .u8 m, .agg #[.int .u64 (x1 : Nat), .int .u64 (y1 : Nat)]] w fun r w' => r = .returned (.tuple #[.string ⟨#[]⟩, .bool ex]) ∧ Below w.heap.size w w')) (KL : Box (∀ w, Calls Tryz.prog 41 #[.string ⟨#[]⟩] w fun r w' => r = .returned (.int .i64 l) ∧ Below w.heap.size w w')) (KW : Box (∀ w, Calls Tryz.prog 29 #[.string ⟨#[]⟩] w fun r w' => r = .returned (.tuple #[.agg (cw 6 N), .bool tw]) ∧ Below w.heap.size w w')) : Calls Tryz.prog 13 #[.int .u8 f, .int .u8 m, .agg #[.int .u64 (x1 : Nat), .int .u64 (y1 : Nat)]] w fun r w' => r = .returned (.tuple #[.bool false, .agg (cw 6 N), .bool ex, .int .i64 0]) ∧ Below w.heap.size w w' := by
  have hat := cw_at 6
  have hz := cw6z
  have hff := cw6f
  have hs0 := st0
  have hcs : ∀ x, ((cw 6 x).size = 6) = True := fun x => eq_true (cw_size 6 x)
  obtain ⟨Ra_0, Rz_0, B0⟩ := opn2 w (Obj.cells #[.int .u64 (x1 : Nat), .int .u64 (y1 : Nat)] 27) (Obj.cells (cw 6 0) 40)
  go_enter Tryz.func13, Tryz.ntmps13
  obtain ⟨ca_0_0, ca_0_1⟩ := cells2s Ra_0
  go_wp2_with fail
  refine (KT.out _).mono ?_
  rintro r w1 ⟨rfl, b1⟩
  have B1 : Below w.heap.size w w1 := btr B0 b1
  have Ra_1 := heap_of b1 _ _ _ Ra_0
  have Rz_1 := heap_of b1 _ _ _ Rz_0
  clear b1 B0 Ra_0 ca_0_0 ca_0_1 Rz_0
  obtain ⟨ca_1_0, ca_1_1⟩ := cells2s Ra_1
  go_wp2_with fail
  refine (KM.out _).mono ?_
  rintro r w2 ⟨rfl, b2⟩
  have B2 : Below w.heap.size w w2 := btr B1 b2
  have Ra_2 := heap_of b2 _ _ _ Ra_1
  have Rz_2 := heap_of b2 _ _ _ Rz_1
  clear b2 B1 Ra_1 ca_1_0 ca_1_1 Rz_1
  obtain ⟨ca_2_0, ca_2_1⟩ := cells2s Ra_2
  go_wp2_with fail
  refine (KN.out _).mono ?_
  rintro r w3 ⟨rfl, b3⟩
  have B3 : Below w.heap.size w w3 := btr B2 b3
  have Ra_3 := heap_of b3 _ _ _ Ra_2
  have Rz_3 := heap_of b3 _ _ _ Rz_2
  clear b3 B2 Ra_2 ca_2_0 ca_2_1 Rz_2
  obtain ⟨ca_3_0, ca_3_1⟩ := cells2s Ra_3
  go_wp2_with fail
  refine (KI.out _).mono ?_
  rintro r w4 ⟨rfl, b4⟩
  have B4 : Below w.heap.size w w4 := btr B3 b4
  have Ra_4 := heap_of b4 _ _ _ Ra_3
  have Rz_4 := heap_of b4 _ _ _ Rz_3
  clear b4 B3 Ra_3 ca_3_0 ca_3_1 Rz_3
  obtain ⟨ca_4_0, ca_4_1⟩ := cells2s Ra_4
  go_wp2_with fail
  refine (KR.out _).mono ?_
  rintro r w5 ⟨rfl, b5⟩
  have B5 : Below w.heap.size w w5 := btr B4 b5
  have Ra_5 := heap_of b5 _ _ _ Ra_4
  have Rz_5 := heap_of b5 _ _ _ Rz_4
  clear b5 B4 Ra_4 ca_4_0 ca_4_1 Rz_4
  obtain ⟨ca_5_0, ca_5_1⟩ := cells2s Ra_5
  go_wp2_with fail
  refine (KL.out _).mono ?_
  rintro r w6 ⟨rfl, b6⟩
  have B6 : Below w.heap.size w w6 := btr B5 b6
  have Ra_6 := heap_of b6 _ _ _ Ra_5
  have Rz_6 := heap_of b6 _ _ _ Rz_5
  clear b6 B5 Ra_5 ca_5_0 ca_5_1 Rz_5
  obtain ⟨ca_6_0, ca_6_1⟩ := cells2s Ra_6
  go_wp2_with fail
  refine (KW.out _).mono ?_
  rintro r w7 ⟨rfl, b7⟩
  have B7 : Below w.heap.size w w7 := btr B6 b7
  have Ra_7 := heap_of b7 _ _ _ Ra_6
  have Rz_7 := heap_of b7 _ _ _ Rz_6
  clear b7 B6 Ra_6 ca_6_0 ca_6_1 Rz_6
  obtain ⟨ca_7_0, ca_7_1⟩ := cells2s Ra_7
  have S8 := box B7.size
  have La_8 : Box (w.heap.size < w7.heap.size) := box (Array.getElem?_eq_some_iff.1 Ra_7).1
  have Lz_8 : Box (w.heap.size + 1 < w7.heap.size) := box (Array.getElem?_eq_some_iff.1 Rz_7).1
  have Rww_8 := heap_alloc_last w7 (Obj.cells (cw 6 N) 40)
  have B8 := btr B7 (bal w7 (Obj.cells (cw 6 N) 40))
  have Ra_8 := heap_of (bal w7 (Obj.cells (cw 6 N) 40)) _ _ _ Ra_7
  have Rz_8 := heap_of (bal w7 (Obj.cells (cw 6 N) 40)) _ _ _ Rz_7
  clear B7 Ra_7 ca_7_0 ca_7_1 Rz_7
  obtain ⟨ca_8_0, ca_8_1⟩ := cells2s Ra_8
  have cww_8_0 := row_cell Rww_8
  have cz_8_0 := row_cell Rz_8
  have qa : ((w7.alloc (Obj.cells (cw 6 N) 40))).drew.heap[w.heap.size]? = some (Obj.cells #[.int .u64 (x1 : Nat), .int .u64 (y1 : Nat)] 27) := Ra_8
  have qz : ((w7.alloc (Obj.cells (cw 6 N) 40))).drew.heap[w.heap.size + 1]? = some (Obj.cells (cw 6 0) 40) := Rz_8
  have qww : ((w7.alloc (Obj.cells (cw 6 N) 40))).drew.heap[w7.heap.size]? = some (Obj.cells (cw 6 N) 40) := Rww_8
  have qB := B8.drew
  have hst := st_any ((w7.alloc (Obj.cells (cw 6 N) 40))).drew (w.heap.size + 1) N 0 qz
  go_wp2_with fail
  first | (go_region_with (first | (go_at_call 22; refine (KG.out _).mono ?_; rintro r wq ⟨rfl, bq⟩; have qa := heap_of bq _ _ _ qa; have qz := heap_of bq _ _ _ qz; have qww := heap_of bq _ _ _ qww; have qB := btr qB bq; have da0 := cell7 qa 0 (.int .u64 (x1 : Nat)) rfl; have da1 := cell7 qa 1 (.int .u64 (y1 : Nat)) rfl; have dz := row_cell qz; have dww := row_cell qww; have hst := st_any wq (w.heap.size + 1) N 0 qz; clear bq) | fail)) | fail
  all_goals
    have dz := row_cell (setRow_row (c' := cw 6 N) qz)
    have bz := bel_set (c := cw 6 N) qB (show w.heap.size ≤ w.heap.size + 1 by first | exact Nat.le_refl _ | omega | (have := S8.out; have := La_8.out; have := Lz_8.out; omega))
    go_wp2
    exact bodyPost_ret (v := .tuple #[.bool false, .agg (cw 6 N), .bool ex, .int .i64 0]) (by simp [results, Tryz.results13, go_sem, dz, hff]) rfl ⟨rfl, bz⟩
end Go.Proofs.YtlpelcfaakfmiaaGreatDoor
