/-
  What the functions that the statement reaches return: part 6 (GI, GJ, GK, SL).
-/
import Derived.Test.YtaengojkjfgppaaDoorRows
import Derived.OpenShut
import Derived.LaidMore
import Derived.Lib.LaidTab
import Derived.Stop.Joined
import Derived.Test.YtaengojkjfgppaaDoorSw05
namespace Go.Proofs.YtaengojkjfgppaaDoor
set_option maxRecDepth 100000
set_option maxHeartbeats 40000000
set_option maxRecDepth 100000
open Go.RowKit WMath
set_option linter.unusedSimpArgs false
set_option linter.unusedVariables false
theorem pg_Copy1 (p q o : Bool) (h : (q) = o) (w : World) : Calls Tryd.prog 21 #[.bool p, .bool q] w fun r w' => r = .returned (.bool o) ∧ Below w.heap.size w w' := by
  subst h
  have B0 : Below w.heap.size w w := (Below.refl _ _)
  go_enter Tryd.func21, Tryd.ntmps21
  go_wp2
  go_ret
  exact ⟨rfl, B0⟩
set_option maxRecDepth 100000 in
set_option maxHeartbeats 8000000 in
theorem pg_Copy_st_t (f : Int) (x1 y1 x2 y2 u v : Nat) (q : Bool)  (w : World) (KF1 : Box (∀ w, FAt w → Calls Tryd.prog 33 #[.int .u8 f, .agg #[.int .u64 (x1 : Nat), .int .u64 (y1 : Nat)]] w fun r w' => r = .returned (.bool true) ∧ Below w.heap.size w w')) (KF2 : Box (∀ w, FAt w → Calls Tryd.prog 33 #[.int .u8 f, .agg #[.int .u64 (x2 : Nat), .int .u64 (y2 : Nat)]] w fun r w' => r = .returned (.bool true) ∧ Below w.heap.size w w')) (KS1 : Box (∀ w, FAt w → Calls Tryd.prog 41 #[.int .u8 f, .agg #[.int .u64 (x1 : Nat), .int .u64 (y1 : Nat)]] w fun r w' => r = .returned (.bool true) ∧ Below w.heap.size w w')) (KS2 : Box (∀ w, FAt w → Calls Tryd.prog 41 #[.int .u8 f, .agg #[.int .u64 (x2 : Nat), .int .u64 (y2 : Nat)]] w fun r w' => r = .returned (.bool q) ∧ Below w.heap.size w w')) (KT : Box (∀ w, Calls Tryd.prog 21 #[.bool true, .bool q] w fun r w' => r = .returned (.bool true) ∧ Below w.heap.size w w')) (hT : FAt w) : Calls Tryd.prog 20 #[.int .u8 f, .agg #[.int .u64 (x1 : Nat), .int .u64 (y1 : Nat)], .agg #[.int .u64 (x2 : Nat), .int .u64 (y2 : Nat)], .func (.func 21) #[] #[]] w fun r w' => r = .returned (.tuple #[.agg #[.int .u64 (x1 : Nat), .int .u64 (y1 : Nat)], .int .i64 0]) ∧ Below w.heap.size w w' := by
  have FF := box hT
  clear hT
  obtain ⟨Ra_0, Rb_0, Rz_0, B0⟩ := opn3 w (Obj.cells #[.int .u64 (x1 : Nat), .int .u64 (y1 : Nat)] 25) (Obj.cells #[.int .u64 (x2 : Nat), .int .u64 (y2 : Nat)] 25) (Obj.cells #[.int .u64 0, .int .u64 0] 25)
  go_enter Tryd.func20, Tryd.ntmps20
  obtain ⟨ca_0_0, ca_0_1⟩ := cells2s Ra_0
  obtain ⟨cb_0_0, cb_0_1⟩ := cells2s Rb_0
  go_wp2_with fail
  refine (KF1.out _ (fatB FF.out B0)).mono ?_
  rintro r w1 ⟨rfl, b1⟩
  have B1 : Below w.heap.size w w1 := btr B0 b1
  have Ra_1 := heap_of b1 _ _ _ Ra_0
  have Rb_1 := heap_of b1 _ _ _ Rb_0
  have Rz_1 := heap_of b1 _ _ _ Rz_0
  clear b1 B0 Ra_0 ca_0_0 ca_0_1 Rb_0 cb_0_0 cb_0_1 Rz_0
  obtain ⟨ca_1_0, ca_1_1⟩ := cells2s Ra_1
  obtain ⟨cb_1_0, cb_1_1⟩ := cells2s Rb_1
  go_wp2_with fail
  refine (KF2.out _ (fatB FF.out B1)).mono ?_
  rintro r w2 ⟨rfl, b2⟩
  have B2 : Below w.heap.size w w2 := btr B1 b2
  have Ra_2 := heap_of b2 _ _ _ Ra_1
  have Rb_2 := heap_of b2 _ _ _ Rb_1
  have Rz_2 := heap_of b2 _ _ _ Rz_1
  clear b2 B1 Ra_1 ca_1_0 ca_1_1 Rb_1 cb_1_0 cb_1_1 Rz_1
  obtain ⟨ca_2_0, ca_2_1⟩ := cells2s Ra_2
  obtain ⟨cb_2_0, cb_2_1⟩ := cells2s Rb_2
  go_wp2_with fail
  refine (KS1.out _ (fatB FF.out B2)).mono ?_
  rintro r w3 ⟨rfl, b3⟩
  have B3 : Below w.heap.size w w3 := btr B2 b3
  have Ra_3 := heap_of b3 _ _ _ Ra_2
  have Rb_3 := heap_of b3 _ _ _ Rb_2
  have Rz_3 := heap_of b3 _ _ _ Rz_2
  clear b3 B2 Ra_2 ca_2_0 ca_2_1 Rb_2 cb_2_0 cb_2_1 Rz_2
  obtain ⟨ca_3_0, ca_3_1⟩ := cells2s Ra_3
  obtain ⟨cb_3_0, cb_3_1⟩ := cells2s Rb_3
  go_wp2_with fail
  refine (KS2.out _ (fatB FF.out B3)).mono ?_
  rintro r w4 ⟨rfl, b4⟩
  have B4 : Below w.heap.size w w4 := btr B3 b4
  have Ra_4 := heap_of b4 _ _ _ Ra_3
  have Rb_4 := heap_of b4 _ _ _ Rb_3
  have Rz_4 := heap_of b4 _ _ _ Rz_3
  clear b4 B3 Ra_3 ca_3_0 ca_3_1 Rb_3 cb_3_0 cb_3_1 Rz_3
  obtain ⟨ca_4_0, ca_4_1⟩ := cells2s Ra_4
  obtain ⟨cb_4_0, cb_4_1⟩ := cells2s Rb_4
  go_wp2_with fail
  refine (KT.out _).mono ?_
  rintro r w5 ⟨rfl, b5⟩
  have B5 : Below w.heap.size w w5 := btr B4 b5
  have Ra_5 := heap_of b5 _ _ _ Ra_4
  have Rb_5 := heap_of b5 _ _ _ Rb_4
  have Rz_5 := heap_of b5 _ _ _ Rz_4
  clear b5 B4 Ra_4 ca_4_0 ca_4_1 Rb_4 cb_4_0 cb_4_1 Rz_4
  obtain ⟨ca_5_0, ca_5_1⟩ := cells2s Ra_5
  obtain ⟨cb_5_0, cb_5_1⟩ := cells2s Rb_5
  obtain ⟨cz_5_0, cz_5_1⟩ := cells2s Rz_5
  have q0 := fz (k := 0) Rz_5
  have q1 := fz (k := 1) Rz_5
  obtain ⟨E0, E1⟩ := set2_cells Rz_5 (.int .u64 (x1 : Nat)) (.int .u64 (y1 : Nat))
  go_wp2
  exact bodyPost_ret (v := .tuple #[.agg #[.int .u64 (x1 : Nat), .int .u64 (y1 : Nat)], .int .i64 0]) (by simp [results, Tryd.results20, go_sem, E0, E1]) rfl ⟨rfl, set2_below B5 (by first | exact Nat.le_refl _ | omega | (skip; omega)) _ _⟩
set_option maxRecDepth 100000 in
set_option maxHeartbeats 8000000 in
theorem pg_Copy_sw_tf (f : Int) (x1 y1 x2 y2 u v : Nat) (q : Bool)  (w : World) (KF1 : Box (∀ w, FAt w → Calls Tryd.prog 33 #[.int .u8 f, .agg #[.int .u64 (x1 : Nat), .int .u64 (y1 : Nat)]] w fun r w' => r = .returned (.bool true) ∧ Below w.heap.size w w')) (KF2 : Box (∀ w, FAt w → Calls Tryd.prog 33 #[.int .u8 f, .agg #[.int .u64 (x2 : Nat), .int .u64 (y2 : Nat)]] w fun r w' => r = .returned (.bool true) ∧ Below w.heap.size w w')) (KS1 : Box (∀ w, FAt w → Calls Tryd.prog 41 #[.int .u8 f, .agg #[.int .u64 (x1 : Nat), .int .u64 (y1 : Nat)]] w fun r w' => r = .returned (.bool true) ∧ Below w.heap.size w w')) (KS2 : Box (∀ w, FAt w → Calls Tryd.prog 41 #[.int .u8 f, .agg #[.int .u64 (x2 : Nat), .int .u64 (y2 : Nat)]] w fun r w' => r = .returned (.bool q) ∧ Below w.heap.size w w')) (KT : Box (∀ w, Calls Tryd.prog 21 #[.bool true, .bool q] w fun r w' => r = .returned (.bool false) ∧ Below w.heap.size w w')) (KL : Box (∀ w, FAt w → Calls Tryd.prog 19 #[.int .u8 f, .agg #[.int .u64 (x1 : Nat), .int .u64 (y1 : Nat)]] w fun r w' => r = .returned (.agg #[.int .u64 (u : Nat), .int .u64 (v : Nat)]) ∧ Below w.heap.size w w')) (hT : FAt w) : Calls Tryd.prog 20 #[.int .u8 f, .agg #[.int .u64 (x1 : Nat), .int .u64 (y1 : Nat)], .agg #[.int .u64 (x2 : Nat), .int .u64 (y2 : Nat)], .func (.func 21) #[] #[]] w fun r w' => r = .returned (.tuple #[.agg #[.int .u64 (u : Nat), .int .u64 (v : Nat)], .int .i64 0]) ∧ Below w.heap.size w w' := by
  have FF := box hT
  clear hT
  obtain ⟨Ra_0, Rb_0, Rz_0, B0⟩ := opn3 w (Obj.cells #[.int .u64 (x1 : Nat), .int .u64 (y1 : Nat)] 25) (Obj.cells #[.int .u64 (x2 : Nat), .int .u64 (y2 : Nat)] 25) (Obj.cells #[.int .u64 0, .int .u64 0] 25)
  go_enter Tryd.func20, Tryd.ntmps20
  obtain ⟨ca_0_0, ca_0_1⟩ := cells2s Ra_0
  obtain ⟨cb_0_0, cb_0_1⟩ := cells2s Rb_0
  go_wp2_with fail
  refine (KF1.out _ (fatB FF.out B0)).mono ?_
  rintro r w1 ⟨rfl, b1⟩
  have B1 : Below w.heap.size w w1 := btr B0 b1
  have Ra_1 := heap_of b1 _ _ _ Ra_0
  have Rb_1 := heap_of b1 _ _ _ Rb_0
  have Rz_1 := heap_of b1 _ _ _ Rz_0
  clear b1 B0 Ra_0 ca_0_0 ca_0_1 Rb_0 cb_0_0 cb_0_1 Rz_0
  obtain ⟨ca_1_0, ca_1_1⟩ := cells2s Ra_1
  obtain ⟨cb_1_0, cb_1_1⟩ := cells2s Rb_1
  go_wp2_with fail
  refine (KF2.out _ (fatB FF.out B1)).mono ?_
  rintro r w2 ⟨rfl, b2⟩
  have B2 : Below w.heap.size w w2 := btr B1 b2
  have Ra_2 := heap_of b2 _ _ _ Ra_1
  have Rb_2 := heap_of b2 _ _ _ Rb_1
  have Rz_2 := heap_of b2 _ _ _ Rz_1
  clear b2 B1 Ra_1 ca_1_0 ca_1_1 Rb_1 cb_1_0 cb_1_1 Rz_1
  obtain ⟨ca_2_0, ca_2_1⟩ := cells2s Ra_2
  obtain ⟨cb_2_0, cb_2_1⟩ := cells2s Rb_2
  go_wp2_with fail
  refine (KS1.out _ (fatB FF.out B2)).mono ?_
  rintro r w3 ⟨rfl, b3⟩
  have B3 : Below w.heap.size w w3 := btr B2 b3
  have Ra_3 := heap_of b3 _ _ _ Ra_2
  have Rb_3 := heap_of b3 _ _ _ Rb_2
  have Rz_3 := heap_of b3 _ _ _ Rz_2
  clear b3 B2 Ra_2 ca_2_0 ca_2_1 Rb_2 cb_2_0 cb_2_1 Rz_2
  obtain ⟨ca_3_0, ca_3_1⟩ := cells2s Ra_3
  obtain ⟨cb_3_0, cb_3_1⟩ := cells2s Rb_3
  go_wp2_with fail
  refine (KS2.out _ (fatB FF.out B3)).mono ?_
  rintro r w4 ⟨rfl, b4⟩
  have B4 : Below w.heap.size w w4 := btr B3 b4
  have Ra_4 := heap_of b4 _ _ _ Ra_3
  have Rb_4 := heap_of b4 _ _ _ Rb_3
  have Rz_4 := heap_of b4 _ _ _ Rz_3
  clear b4 B3 Ra_3 ca_3_0 ca_3_1 Rb_3 cb_3_0 cb_3_1 Rz_3
  obtain ⟨ca_4_0, ca_4_1⟩ := cells2s Ra_4
  obtain ⟨cb_4_0, cb_4_1⟩ := cells2s Rb_4
  go_wp2_with fail
  refine (KT.out _).mono ?_
  rintro r w5 ⟨rfl, b5⟩
  have B5 : Below w.heap.size w w5 := btr B4 b5
  have Ra_5 := heap_of b5 _ _ _ Ra_4
  have Rb_5 := heap_of b5 _ _ _ Rb_4
  have Rz_5 := heap_of b5 _ _ _ Rz_4
  clear b5 B4 Ra_4 ca_4_0 ca_4_1 Rb_4 cb_4_0 cb_4_1 Rz_4
  obtain ⟨ca_5_0, ca_5_1⟩ := cells2s Ra_5
  obtain ⟨cb_5_0, cb_5_1⟩ := cells2s Rb_5
  go_wp2_with fail
  refine (KL.out _ (fatB FF.out B5)).mono ?_
  rintro r w6 ⟨rfl, b6⟩
  have B6 : Below w.heap.size w w6 := btr B5 b6
  have Ra_6 := heap_of b6 _ _ _ Ra_5
  have Rb_6 := heap_of b6 _ _ _ Rb_5
  have Rz_6 := heap_of b6 _ _ _ Rz_5
  clear b6 B5 Ra_5 ca_5_0 ca_5_1 Rb_5 cb_5_0 cb_5_1 Rz_5
  obtain ⟨ca_6_0, ca_6_1⟩ := cells2s Ra_6
  obtain ⟨cb_6_0, cb_6_1⟩ := cells2s Rb_6
  obtain ⟨cz_6_0, cz_6_1⟩ := cells2s Rz_6
  have q0 := fz (k := 0) Rz_6
  have q1 := fz (k := 1) Rz_6
  obtain ⟨E0, E1⟩ := set2_cells Rz_6 (.int .u64 (u : Nat)) (.int .u64 (v : Nat))
  go_wp2
  exact bodyPost_ret (v := .tuple #[.agg #[.int .u64 (u : Nat), .int .u64 (v : Nat)], .int .i64 0]) (by simp [results, Tryd.results20, go_sem, E0, E1]) rfl ⟨rfl, set2_below B6 (by first | exact Nat.le_refl _ | omega | (skip; omega)) _ _⟩
set_option maxRecDepth 100000 in
set_option maxHeartbeats 8000000 in
theorem pg_Copy_sw_ft (f : Int) (x1 y1 x2 y2 u v : Nat) (q : Bool)  (w : World) (KF1 : Box (∀ w, FAt w → Calls Tryd.prog 33 #[.int .u8 f, .agg #[.int .u64 (x1 : Nat), .int .u64 (y1 : Nat)]] w fun r w' => r = .returned (.bool true) ∧ Below w.heap.size w w')) (KF2 : Box (∀ w, FAt w → Calls Tryd.prog 33 #[.int .u8 f, .agg #[.int .u64 (x2 : Nat), .int .u64 (y2 : Nat)]] w fun r w' => r = .returned (.bool true) ∧ Below w.heap.size w w')) (KS1 : Box (∀ w, FAt w → Calls Tryd.prog 41 #[.int .u8 f, .agg #[.int .u64 (x1 : Nat), .int .u64 (y1 : Nat)]] w fun r w' => r = .returned (.bool false) ∧ Below w.heap.size w w')) (KS2 : Box (∀ w, FAt w → Calls Tryd.prog 41 #[.int .u8 f, .agg #[.int .u64 (x2 : Nat), .int .u64 (y2 : Nat)]] w fun r w' => r = .returned (.bool q) ∧ Below w.heap.size w w')) (KT : Box (∀ w, Calls Tryd.prog 21 #[.bool false, .bool q] w fun r w' => r = .returned (.bool true) ∧ Below w.heap.size w w')) (KL : Box (∀ w, FAt w → Calls Tryd.prog 19 #[.int .u8 f, .agg #[.int .u64 (x1 : Nat), .int .u64 (y1 : Nat)]] w fun r w' => r = .returned (.agg #[.int .u64 (u : Nat), .int .u64 (v : Nat)]) ∧ Below w.heap.size w w')) (hT : FAt w) : Calls Tryd.prog 20 #[.int .u8 f, .agg #[.int .u64 (x1 : Nat), .int .u64 (y1 : Nat)], .agg #[.int .u64 (x2 : Nat), .int .u64 (y2 : Nat)], .func (.func 21) #[] #[]] w fun r w' => r = .returned (.tuple #[.agg #[.int .u64 (u : Nat), .int .u64 (v : Nat)], .int .i64 0]) ∧ Below w.heap.size w w' := by
  have FF := box hT
  clear hT
  obtain ⟨Ra_0, Rb_0, Rz_0, B0⟩ := opn3 w (Obj.cells #[.int .u64 (x1 : Nat), .int .u64 (y1 : Nat)] 25) (Obj.cells #[.int .u64 (x2 : Nat), .int .u64 (y2 : Nat)] 25) (Obj.cells #[.int .u64 0, .int .u64 0] 25)
  go_enter Tryd.func20, Tryd.ntmps20
  obtain ⟨ca_0_0, ca_0_1⟩ := cells2s Ra_0
  obtain ⟨cb_0_0, cb_0_1⟩ := cells2s Rb_0
  go_wp2_with fail
  refine (KF1.out _ (fatB FF.out B0)).mono ?_
  rintro r w1 ⟨rfl, b1⟩
  have B1 : Below w.heap.size w w1 := btr B0 b1
  have Ra_1 := heap_of b1 _ _ _ Ra_0
  have Rb_1 := heap_of b1 _ _ _ Rb_0
  have Rz_1 := heap_of b1 _ _ _ Rz_0
  clear b1 B0 Ra_0 ca_0_0 ca_0_1 Rb_0 cb_0_0 cb_0_1 Rz_0
  obtain ⟨ca_1_0, ca_1_1⟩ := cells2s Ra_1
  obtain ⟨cb_1_0, cb_1_1⟩ := cells2s Rb_1
  go_wp2_with fail
  refine (KF2.out _ (fatB FF.out B1)).mono ?_
  rintro r w2 ⟨rfl, b2⟩
  have B2 : Below w.heap.size w w2 := btr B1 b2
  have Ra_2 := heap_of b2 _ _ _ Ra_1
  have Rb_2 := heap_of b2 _ _ _ Rb_1
  have Rz_2 := heap_of b2 _ _ _ Rz_1
  clear b2 B1 Ra_1 ca_1_0 ca_1_1 Rb_1 cb_1_0 cb_1_1 Rz_1
  obtain ⟨ca_2_0, ca_2_1⟩ := cells2s Ra_2
  obtain ⟨cb_2_0, cb_2_1⟩ := cells2s Rb_2
  go_wp2_with fail
  refine (KS1.out _ (fatB FF.out B2)).mono ?_
  rintro r w3 ⟨rfl, b3⟩
  have B3 : Below w.heap.size w w3 := btr B2 b3
  have Ra_3 := heap_of b3 _ _ _ Ra_2
  have Rb_3 := heap_of b3 _ _ _ Rb_2
  have Rz_3 := heap_of b3 _ _ _ Rz_2
  clear b3 B2 Ra_2 ca_2_0 ca_2_1 Rb_2 cb_2_0 cb_2_1 Rz_2
  obtain ⟨ca_3_0, ca_3_1⟩ := cells2s Ra_3
  obtain ⟨cb_3_0, cb_3_1⟩ := cells2s Rb_3
  go_wp2_with fail
  refine (KS2.out _ (fatB FF.out B3)).mono ?_
  rintro r w4 ⟨rfl, b4⟩
  have B4 : Below w.heap.size w w4 := btr B3 b4
  have Ra_4 := heap_of b4 _ _ _ Ra_3
  have Rb_4 := heap_of b4 _ _ _ Rb_3
  have Rz_4 := heap_of b4 _ _ _ Rz_3
  clear b4 B3 Ra_3 ca_3_0 ca_3_1 Rb_3 cb_3_0 cb_3_1 Rz_3
  obtain ⟨ca_4_0, ca_4_1⟩ := cells2s Ra_4
  obtain ⟨cb_4_0, cb_4_1⟩ := cells2s Rb_4
  go_wp2_with fail
  refine (KT.out _).mono ?_
  rintro r w5 ⟨rfl, b5⟩
  have B5 : Below w.heap.size w w5 := btr B4 b5
  have Ra_5 := heap_of b5 _ _ _ Ra_4
  have Rb_5 := heap_of b5 _ _ _ Rb_4
  have Rz_5 := heap_of b5 _ _ _ Rz_4
  clear b5 B4 Ra_4 ca_4_0 ca_4_1 Rb_4 cb_4_0 cb_4_1 Rz_4
  obtain ⟨ca_5_0, ca_5_1⟩ := cells2s Ra_5
  obtain ⟨cb_5_0, cb_5_1⟩ := cells2s Rb_5
  go_wp2_with fail
  refine (KL.out _ (fatB FF.out B5)).mono ?_
  rintro r w6 ⟨rfl, b6⟩
  have B6 : Below w.heap.size w w6 := btr B5 b6
  have Ra_6 := heap_of b6 _ _ _ Ra_5
  have Rb_6 := heap_of b6 _ _ _ Rb_5
  have Rz_6 := heap_of b6 _ _ _ Rz_5
  clear b6 B5 Ra_5 ca_5_0 ca_5_1 Rb_5 cb_5_0 cb_5_1 Rz_5
  obtain ⟨ca_6_0, ca_6_1⟩ := cells2s Ra_6
  obtain ⟨cb_6_0, cb_6_1⟩ := cells2s Rb_6
  obtain ⟨cz_6_0, cz_6_1⟩ := cells2s Rz_6
  have q0 := fz (k := 0) Rz_6
  have q1 := fz (k := 1) Rz_6
  obtain ⟨E0, E1⟩ := set2_cells Rz_6 (.int .u64 (u : Nat)) (.int .u64 (v : Nat))
  go_wp2
  exact bodyPost_ret (v := .tuple #[.agg #[.int .u64 (u : Nat), .int .u64 (v : Nat)], .int .i64 0]) (by simp [results, Tryd.results20, go_sem, E0, E1]) rfl ⟨rfl, set2_below B6 (by first | exact Nat.le_refl _ | omega | (skip; omega)) _ _⟩
set_option maxRecDepth 100000 in
set_option maxHeartbeats 8000000 in
theorem pg_Copy_st_f (f : Int) (x1 y1 x2 y2 u v : Nat) (q : Bool)  (w : World) (KF1 : Box (∀ w, FAt w → Calls Tryd.prog 33 #[.int .u8 f, .agg #[.int .u64 (x1 : Nat), .int .u64 (y1 : Nat)]] w fun r w' => r = .returned (.bool true) ∧ Below w.heap.size w w')) (KF2 : Box (∀ w, FAt w → Calls Tryd.prog 33 #[.int .u8 f, .agg #[.int .u64 (x2 : Nat), .int .u64 (y2 : Nat)]] w fun r w' => r = .returned (.bool true) ∧ Below w.heap.size w w')) (KS1 : Box (∀ w, FAt w → Calls Tryd.prog 41 #[.int .u8 f, .agg #[.int .u64 (x1 : Nat), .int .u64 (y1 : Nat)]] w fun r w' => r = .returned (.bool false) ∧ Below w.heap.size w w')) (KS2 : Box (∀ w, FAt w → Calls Tryd.prog 41 #[.int .u8 f, .agg #[.int .u64 (x2 : Nat), .int .u64 (y2 : Nat)]] w fun r w' => r = .returned (.bool q) ∧ Below w.heap.size w w')) (KT : Box (∀ w, Calls Tryd.prog 21 #[.bool false, .bool q] w fun r w' => r = .returned (.bool false) ∧ Below w.heap.size w w')) (hT : FAt w) : Calls Tryd.prog 20 #[.int .u8 f, .agg #[.int .u64 (x1 : Nat), .int .u64 (y1 : Nat)], .agg #[.int .u64 (x2 : Nat), .int .u64 (y2 : Nat)], .func (.func 21) #[] #[]] w fun r w' => r = .returned (.tuple #[.agg #[.int .u64 (x1 : Nat), .int .u64 (y1 : Nat)], .int .i64 0]) ∧ Below w.heap.size w w' := by
  have FF := box hT
  clear hT
  obtain ⟨Ra_0, Rb_0, Rz_0, B0⟩ := opn3 w (Obj.cells #[.int .u64 (x1 : Nat), .int .u64 (y1 : Nat)] 25) (Obj.cells #[.int .u64 (x2 : Nat), .int .u64 (y2 : Nat)] 25) (Obj.cells #[.int .u64 0, .int .u64 0] 25)
  go_enter Tryd.func20, Tryd.ntmps20
  obtain ⟨ca_0_0, ca_0_1⟩ := cells2s Ra_0
  obtain ⟨cb_0_0, cb_0_1⟩ := cells2s Rb_0
  go_wp2_with fail
  refine (KF1.out _ (fatB FF.out B0)).mono ?_
  rintro r w1 ⟨rfl, b1⟩
  have B1 : Below w.heap.size w w1 := btr B0 b1
  have Ra_1 := heap_of b1 _ _ _ Ra_0
  have Rb_1 := heap_of b1 _ _ _ Rb_0
  have Rz_1 := heap_of b1 _ _ _ Rz_0
  clear b1 B0 Ra_0 ca_0_0 ca_0_1 Rb_0 cb_0_0 cb_0_1 Rz_0
  obtain ⟨ca_1_0, ca_1_1⟩ := cells2s Ra_1
  obtain ⟨cb_1_0, cb_1_1⟩ := cells2s Rb_1
  go_wp2_with fail
  refine (KF2.out _ (fatB FF.out B1)).mono ?_
  rintro r w2 ⟨rfl, b2⟩
  have B2 : Below w.heap.size w w2 := btr B1 b2
  have Ra_2 := heap_of b2 _ _ _ Ra_1
  have Rb_2 := heap_of b2 _ _ _ Rb_1
  have Rz_2 := heap_of b2 _ _ _ Rz_1
  clear b2 B1 Ra_1 ca_1_0 ca_1_1 Rb_1 cb_1_0 cb_1_1 Rz_1
  obtain ⟨ca_2_0, ca_2_1⟩ := cells2s Ra_2
  obtain ⟨cb_2_0, cb_2_1⟩ := cells2s Rb_2
  go_wp2_with fail
  refine (KS1.out _ (fatB FF.out B2)).mono ?_
  rintro r w3 ⟨rfl, b3⟩
  have B3 : Below w.heap.size w w3 := btr B2 b3
  have Ra_3 := heap_of b3 _ _ _ Ra_2
  have Rb_3 := heap_of b3 _ _ _ Rb_2
  have Rz_3 := heap_of b3 _ _ _ Rz_2
  clear b3 B2 Ra_2 ca_2_0 ca_2_1 Rb_2 cb_2_0 cb_2_1 Rz_2
  obtain ⟨ca_3_0, ca_3_1⟩ := cells2s Ra_3
  obtain ⟨cb_3_0, cb_3_1⟩ := cells2s Rb_3
  go_wp2_with fail
  refine (KS2.out _ (fatB FF.out B3)).mono ?_
  rintro r w4 ⟨rfl, b4⟩
  have B4 : Below w.heap.size w w4 := btr B3 b4
  have Ra_4 := heap_of b4 _ _ _ Ra_3
  have Rb_4 := heap_of b4 _ _ _ Rb_3
  have Rz_4 := heap_of b4 _ _ _ Rz_3
  clear b4 B3 Ra_3 ca_3_0 ca_3_1 Rb_3 cb_3_0 cb_3_1 Rz_3
  obtain ⟨ca_4_0, ca_4_1⟩ := cells2s Ra_4
  obtain ⟨cb_4_0, cb_4_1⟩ := cells2s Rb_4
  go_wp2_with fail
  refine (KT.out _).mono ?_
  rintro r w5 ⟨rfl, b5⟩
  have B5 : Below w.heap.size w w5 := btr B4 b5
  have Ra_5 := heap_of b5 _ _ _ Ra_4
  have Rb_5 := heap_of b5 _ _ _ Rb_4
  have Rz_5 := heap_of b5 _ _ _ Rz_4
  clear b5 B4 Ra_4 ca_4_0 ca_4_1 Rb_4 cb_4_0 cb_4_1 Rz_4
  obtain ⟨ca_5_0, ca_5_1⟩ := cells2s Ra_5
  obtain ⟨cb_5_0, cb_5_1⟩ := cells2s Rb_5
  obtain ⟨cz_5_0, cz_5_1⟩ := cells2s Rz_5
  have q0 := fz (k := 0) Rz_5
  have q1 := fz (k := 1) Rz_5
  obtain ⟨E0, E1⟩ := set2_cells Rz_5 (.int .u64 (x1 : Nat)) (.int .u64 (y1 : Nat))
  go_wp2
  exact bodyPost_ret (v := .tuple #[.agg #[.int .u64 (x1 : Nat), .int .u64 (y1 : Nat)], .int .i64 0]) (by simp [results, Tryd.results20, go_sem, E0, E1]) rfl ⟨rfl, set2_below B5 (by first | exact Nat.le_refl _ | omega | (skip; omega)) _ _⟩
set_option maxRecDepth 100000 in
set_option maxHeartbeats 8000000 in
theorem pg_Copy (f : Int) (x1 y1 x2 y2 u v : Nat) (e : Int) (w : World) (K : Box (∀ w, FAt w → Calls Tryd.prog 20 #[.int .u8 f, .agg #[.int .u64 (x1 : Nat), .int .u64 (y1 : Nat)], .agg #[.int .u64 (x2 : Nat), .int .u64 (y2 : Nat)], .func (.func 21) #[] #[]] w fun r w' => r = .returned (.tuple #[.agg #[.int .u64 (u : Nat), .int .u64 (v : Nat)], .int .i64 e]) ∧ Below w.heap.size w w')) (hT : FAt w) : Calls Tryd.prog 6 #[.int .u8 f, .agg #[.int .u64 (x1 : Nat), .int .u64 (y1 : Nat)], .agg #[.int .u64 (x2 : Nat), .int .u64 (y2 : Nat)]] w fun r w' => r = .returned (.tuple #[.agg #[.int .u64 (u : Nat), .int .u64 (v : Nat)], .int .i64 e]) ∧ Below w.heap.size w w' := by
  have FF := box hT
  clear hT
  have hmf : ∀ (fn : Fn) (first cap : Array Value) (w : World), (Instr.makeFunc fn first cap).run Tryd.prog w = .ok (.func fn first cap) w := fun _ _ _ _ => rfl
  obtain ⟨Ra_0, Rb_0, Rz_0, B0⟩ := opn3 w (Obj.cells #[.int .u64 (x1 : Nat), .int .u64 (y1 : Nat)] 25) (Obj.cells #[.int .u64 (x2 : Nat), .int .u64 (y2 : Nat)] 25) (Obj.cells #[.int .u64 0, .int .u64 0] 25)
  go_enter Tryd.func6, Tryd.ntmps6
  obtain ⟨ca_0_0, ca_0_1⟩ := cells2s Ra_0
  obtain ⟨cb_0_0, cb_0_1⟩ := cells2s Rb_0
  go_wp2_with fail
  refine (K.out _ (fatB FF.out B0)).mono ?_
  rintro r w1 ⟨rfl, b1⟩
  have B1 : Below w.heap.size w w1 := btr B0 b1
  have Ra_1 := heap_of b1 _ _ _ Ra_0
  have Rb_1 := heap_of b1 _ _ _ Rb_0
  have Rz_1 := heap_of b1 _ _ _ Rz_0
  clear b1 B0 Ra_0 ca_0_0 ca_0_1 Rb_0 cb_0_0 cb_0_1 Rz_0
  obtain ⟨ca_1_0, ca_1_1⟩ := cells2s Ra_1
  obtain ⟨cb_1_0, cb_1_1⟩ := cells2s Rb_1
  obtain ⟨cz_1_0, cz_1_1⟩ := cells2s Rz_1
  have q0 := fz (k := 0) Rz_1
  have q1 := fz (k := 1) Rz_1
  obtain ⟨E0, E1⟩ := set2_cells Rz_1 (.int .u64 (u : Nat)) (.int .u64 (v : Nat))
  go_wp2
  exact bodyPost_ret (v := .tuple #[.agg #[.int .u64 (u : Nat), .int .u64 (v : Nat)], .int .i64 e]) (by simp [results, Tryd.results6, go_sem, E0, E1]) rfl ⟨rfl, set2_below B1 (by first | exact Nat.le_refl _ | omega | (skip; omega)) _ _⟩
set_option maxRecDepth 100000 in
set_option maxHeartbeats 8000000 in
theorem pg_cl_no (f : Int) (x1 y1 : Nat) (w : World) (KC : Box (∀ w, FAt w → Calls Tryd.prog 30 #[.int .u8 f, .agg #[.int .u64 (x1 : Nat), .int .u64 (y1 : Nat)]] w fun r w' => r = .returned (.tuple #[.int .u8 0, .int .i64 2]) ∧ Below w.heap.size w w')) (hT : FAt w) : Calls Tryd.prog 13 #[.int .u8 f, .agg #[.int .u64 (x1 : Nat), .int .u64 (y1 : Nat)]] w fun r w' => r = .returned (.tuple #[.int .u64 0, .int .i64 2]) ∧ Below w.heap.size w w' := by
  have FF := box hT
  clear hT
  obtain ⟨Ra_0, B0⟩ := opn1 w (Obj.cells #[.int .u64 (x1 : Nat), .int .u64 (y1 : Nat)] 25)
  go_enter Tryd.func13, Tryd.ntmps13
  obtain ⟨ca_0_0, ca_0_1⟩ := cells2s Ra_0
  go_wp2_with fail
  refine (KC.out _ (fatB FF.out B0)).mono ?_
  rintro r w1 ⟨rfl, b1⟩
  have B1 : Below w.heap.size w w1 := btr B0 b1
  have Ra_1 := heap_of b1 _ _ _ Ra_0
  clear b1 B0 Ra_0 ca_0_0 ca_0_1
  obtain ⟨ca_1_0, ca_1_1⟩ := cells2s Ra_1
  go_wp2
  go_ret2
  exact ⟨rfl, B1⟩
set_option maxRecDepth 100000 in
set_option maxHeartbeats 8000000 in
theorem pg_cl_0 (f : Int) (x1 y1 : Nat) (w : World) (KC : Box (∀ w, FAt w → Calls Tryd.prog 30 #[.int .u8 f, .agg #[.int .u64 (x1 : Nat), .int .u64 (y1 : Nat)]] w fun r w' => r = .returned (.tuple #[.int .u8 0, .int .i64 0]) ∧ Below w.heap.size w w')) (hT : FAt w) : Calls Tryd.prog 13 #[.int .u8 f, .agg #[.int .u64 (x1 : Nat), .int .u64 (y1 : Nat)]] w fun r w' => r = .returned (.tuple #[.int .u64 1, .int .i64 0]) ∧ Below w.heap.size w w' := by
  have FF := box hT
  clear hT
  obtain ⟨Ra_0, B0⟩ := opn1 w (Obj.cells #[.int .u64 (x1 : Nat), .int .u64 (y1 : Nat)] 25)
  go_enter Tryd.func13, Tryd.ntmps13
  obtain ⟨ca_0_0, ca_0_1⟩ := cells2s Ra_0
  go_wp2_with fail
  refine (KC.out _ (fatB FF.out B0)).mono ?_
  rintro r w1 ⟨rfl, b1⟩
  have B1 : Below w.heap.size w w1 := btr B0 b1
  have Ra_1 := heap_of b1 _ _ _ Ra_0
  clear b1 B0 Ra_0 ca_0_0 ca_0_1
  obtain ⟨ca_1_0, ca_1_1⟩ := cells2s Ra_1
  go_wp2
  go_ret2
  exact ⟨rfl, B1⟩
set_option maxRecDepth 100000 in
set_option maxHeartbeats 8000000 in
theorem pg_cl_1 (f : Int) (x1 y1 : Nat) (w : World) (KC : Box (∀ w, FAt w → Calls Tryd.prog 30 #[.int .u8 f, .agg #[.int .u64 (x1 : Nat), .int .u64 (y1 : Nat)]] w fun r w' => r = .returned (.tuple #[.int .u8 1, .int .i64 0]) ∧ Below w.heap.size w w')) (hT : FAt w) : Calls Tryd.prog 13 #[.int .u8 f, .agg #[.int .u64 (x1 : Nat), .int .u64 (y1 : Nat)]] w fun r w' => r = .returned (.tuple #[.int .u64 2, .int .i64 0]) ∧ Below w.heap.size w w' := by
  have FF := box hT
  clear hT
  obtain ⟨Ra_0, B0⟩ := opn1 w (Obj.cells #[.int .u64 (x1 : Nat), .int .u64 (y1 : Nat)] 25)
  go_enter Tryd.func13, Tryd.ntmps13
  obtain ⟨ca_0_0, ca_0_1⟩ := cells2s Ra_0
  go_wp2_with fail
  refine (KC.out _ (fatB FF.out B0)).mono ?_
  rintro r w1 ⟨rfl, b1⟩
  have B1 : Below w.heap.size w w1 := btr B0 b1
  have Ra_1 := heap_of b1 _ _ _ Ra_0
  clear b1 B0 Ra_0 ca_0_0 ca_0_1
  obtain ⟨ca_1_0, ca_1_1⟩ := cells2s Ra_1
  go_wp2
  go_ret2
  exact ⟨rfl, B1⟩
set_option maxRecDepth 100000 in
set_option maxHeartbeats 8000000 in
theorem pg_cl_2 (f : Int) (x1 y1 : Nat) (w : World) (KC : Box (∀ w, FAt w → Calls Tryd.prog 30 #[.int .u8 f, .agg #[.int .u64 (x1 : Nat), .int .u64 (y1 : Nat)]] w fun r w' => r = .returned (.tuple #[.int .u8 2, .int .i64 0]) ∧ Below w.heap.size w w')) (hT : FAt w) : Calls Tryd.prog 13 #[.int .u8 f, .agg #[.int .u64 (x1 : Nat), .int .u64 (y1 : Nat)]] w fun r w' => r = .returned (.tuple #[.int .u64 4, .int .i64 0]) ∧ Below w.heap.size w w' := by
  have FF := box hT
  clear hT
  obtain ⟨Ra_0, B0⟩ := opn1 w (Obj.cells #[.int .u64 (x1 : Nat), .int .u64 (y1 : Nat)] 25)
  go_enter Tryd.func13, Tryd.ntmps13
  obtain ⟨ca_0_0, ca_0_1⟩ := cells2s Ra_0
  go_wp2_with fail
  refine (KC.out _ (fatB FF.out B0)).mono ?_
  rintro r w1 ⟨rfl, b1⟩
  have B1 : Below w.heap.size w w1 := btr B0 b1
  have Ra_1 := heap_of b1 _ _ _ Ra_0
  clear b1 B0 Ra_0 ca_0_0 ca_0_1
  obtain ⟨ca_1_0, ca_1_1⟩ := cells2s Ra_1
  go_wp2
  go_ret2
  exact ⟨rfl, B1⟩
set_option maxRecDepth 100000 in
set_option maxHeartbeats 8000000 in
theorem pg_cl_3 (f : Int) (x1 y1 : Nat) (w : World) (KC : Box (∀ w, FAt w → Calls Tryd.prog 30 #[.int .u8 f, .agg #[.int .u64 (x1 : Nat), .int .u64 (y1 : Nat)]] w fun r w' => r = .returned (.tuple #[.int .u8 3, .int .i64 0]) ∧ Below w.heap.size w w')) (hT : FAt w) : Calls Tryd.prog 13 #[.int .u8 f, .agg #[.int .u64 (x1 : Nat), .int .u64 (y1 : Nat)]] w fun r w' => r = .returned (.tuple #[.int .u64 8, .int .i64 0]) ∧ Below w.heap.size w w' := by
  have FF := box hT
  clear hT
  obtain ⟨Ra_0, B0⟩ := opn1 w (Obj.cells #[.int .u64 (x1 : Nat), .int .u64 (y1 : Nat)] 25)
  go_enter Tryd.func13, Tryd.ntmps13
  obtain ⟨ca_0_0, ca_0_1⟩ := cells2s Ra_0
  go_wp2_with fail
  refine (KC.out _ (fatB FF.out B0)).mono ?_
  rintro r w1 ⟨rfl, b1⟩
  have B1 : Below w.heap.size w w1 := btr B0 b1
  have Ra_1 := heap_of b1 _ _ _ Ra_0
  clear b1 B0 Ra_0 ca_0_0 ca_0_1
  obtain ⟨ca_1_0, ca_1_1⟩ := cells2s Ra_1
  go_wp2
  go_ret2
  exact ⟨rfl, B1⟩
set_option maxRecDepth 100000 in
set_option maxHeartbeats 8000000 in
theorem pg_cl_4 (f : Int) (x1 y1 : Nat) (w : World) (KC : Box (∀ w, FAt w → Calls Tryd.prog 30 #[.int .u8 f, .agg #[.int .u64 (x1 : Nat), .int .u64 (y1 : Nat)]] w fun r w' => r = .returned (.tuple #[.int .u8 4, .int .i64 0]) ∧ Below w.heap.size w w')) (hT : FAt w) : Calls Tryd.prog 13 #[.int .u8 f, .agg #[.int .u64 (x1 : Nat), .int .u64 (y1 : Nat)]] w fun r w' => r = .returned (.tuple #[.int .u64 16, .int .i64 0]) ∧ Below w.heap.size w w' := by
  have FF := box hT
  clear hT
  obtain ⟨Ra_0, B0⟩ := opn1 w (Obj.cells #[.int .u64 (x1 : Nat), .int .u64 (y1 : Nat)] 25)
  go_enter Tryd.func13, Tryd.ntmps13
  obtain ⟨ca_0_0, ca_0_1⟩ := cells2s Ra_0
  go_wp2_with fail
  refine (KC.out _ (fatB FF.out B0)).mono ?_
  rintro r w1 ⟨rfl, b1⟩
  have B1 : Below w.heap.size w w1 := btr B0 b1
  have Ra_1 := heap_of b1 _ _ _ Ra_0
  clear b1 B0 Ra_0 ca_0_0 ca_0_1
  obtain ⟨ca_1_0, ca_1_1⟩ := cells2s Ra_1
  go_wp2
  go_ret2
  exact ⟨rfl, B1⟩
set_option maxRecDepth 100000 in
set_option maxHeartbeats 8000000 in
theorem pg_cl_5 (f : Int) (x1 y1 : Nat) (w : World) (KC : Box (∀ w, FAt w → Calls Tryd.prog 30 #[.int .u8 f, .agg #[.int .u64 (x1 : Nat), .int .u64 (y1 : Nat)]] w fun r w' => r = .returned (.tuple #[.int .u8 5, .int .i64 0]) ∧ Below w.heap.size w w')) (hT : FAt w) : Calls Tryd.prog 13 #[.int .u8 f, .agg #[.int .u64 (x1 : Nat), .int .u64 (y1 : Nat)]] w fun r w' => r = .returned (.tuple #[.int .u64 32, .int .i64 0]) ∧ Below w.heap.size w w' := by
  have FF := box hT
  clear hT
  obtain ⟨Ra_0, B0⟩ := opn1 w (Obj.cells #[.int .u64 (x1 : Nat), .int .u64 (y1 : Nat)] 25)
  go_enter Tryd.func13, Tryd.ntmps13
  obtain ⟨ca_0_0, ca_0_1⟩ := cells2s Ra_0
  go_wp2_with fail
  refine (KC.out _ (fatB FF.out B0)).mono ?_
  rintro r w1 ⟨rfl, b1⟩
  have B1 : Below w.heap.size w w1 := btr B0 b1
  have Ra_1 := heap_of b1 _ _ _ Ra_0
  clear b1 B0 Ra_0 ca_0_0 ca_0_1
  obtain ⟨ca_1_0, ca_1_1⟩ := cells2s Ra_1
  go_wp2
  go_ret2
  exact ⟨rfl, B1⟩
set_option maxRecDepth 100000 in
set_option maxHeartbeats 8000000 in
theorem pg_cl_6 (f : Int) (x1 y1 : Nat) (w : World) (KC : Box (∀ w, FAt w → Calls Tryd.prog 30 #[.int .u8 f, .agg #[.int .u64 (x1 : Nat), .int .u64 (y1 : Nat)]] w fun r w' => r = .returned (.tuple #[.int .u8 6, .int .i64 0]) ∧ Below w.heap.size w w')) (hT : FAt w) : Calls Tryd.prog 13 #[.int .u8 f, .agg #[.int .u64 (x1 : Nat), .int .u64 (y1 : Nat)]] w fun r w' => r = .returned (.tuple #[.int .u64 64, .int .i64 0]) ∧ Below w.heap.size w w' := by
  have FF := box hT
  clear hT
  obtain ⟨Ra_0, B0⟩ := opn1 w (Obj.cells #[.int .u64 (x1 : Nat), .int .u64 (y1 : Nat)] 25)
  go_enter Tryd.func13, Tryd.ntmps13
  obtain ⟨ca_0_0, ca_0_1⟩ := cells2s Ra_0
  go_wp2_with fail
  refine (KC.out _ (fatB FF.out B0)).mono ?_
  rintro r w1 ⟨rfl, b1⟩
  have B1 : Below w.heap.size w w1 := btr B0 b1
  have Ra_1 := heap_of b1 _ _ _ Ra_0
  clear b1 B0 Ra_0 ca_0_0 ca_0_1
  obtain ⟨ca_1_0, ca_1_1⟩ := cells2s Ra_1
  go_wp2
  go_ret2
  exact ⟨rfl, B1⟩
set_option maxRecDepth 100000 in
set_option maxHeartbeats 8000000 in
theorem pg_cl_7 (f : Int) (x1 y1 : Nat) (w : World) (KC : Box (∀ w, FAt w → Calls Tryd.prog 30 #[.int .u8 f, .agg #[.int .u64 (x1 : Nat), .int .u64 (y1 : Nat)]] w fun r w' => r = .returned (.tuple #[.int .u8 7, .int .i64 0]) ∧ Below w.heap.size w w')) (hT : FAt w) : Calls Tryd.prog 13 #[.int .u8 f, .agg #[.int .u64 (x1 : Nat), .int .u64 (y1 : Nat)]] w fun r w' => r = .returned (.tuple #[.int .u64 128, .int .i64 0]) ∧ Below w.heap.size w w' := by
  have FF := box hT
  clear hT
  obtain ⟨Ra_0, B0⟩ := opn1 w (Obj.cells #[.int .u64 (x1 : Nat), .int .u64 (y1 : Nat)] 25)
  go_enter Tryd.func13, Tryd.ntmps13
  obtain ⟨ca_0_0, ca_0_1⟩ := cells2s Ra_0
  go_wp2_with fail
  refine (KC.out _ (fatB FF.out B0)).mono ?_
  rintro r w1 ⟨rfl, b1⟩
  have B1 : Below w.heap.size w w1 := btr B0 b1
  have Ra_1 := heap_of b1 _ _ _ Ra_0
  clear b1 B0 Ra_0 ca_0_0 ca_0_1
  obtain ⟨ca_1_0, ca_1_1⟩ := cells2s Ra_1
  go_wp2
  go_ret2
  exact ⟨rfl, B1⟩
set_option maxRecDepth 100000 in
set_option maxHeartbeats 8000000 in
theorem pg_cl_8 (f : Int) (x1 y1 : Nat) (w : World) (KC : Box (∀ w, FAt w → Calls Tryd.prog 30 #[.int .u8 f, .agg #[.int .u64 (x1 : Nat), .int .u64 (y1 : Nat)]] w fun r w' => r = .returned (.tuple #[.int .u8 8, .int .i64 0]) ∧ Below w.heap.size w w')) (hT : FAt w) : Calls Tryd.prog 13 #[.int .u8 f, .agg #[.int .u64 (x1 : Nat), .int .u64 (y1 : Nat)]] w fun r w' => r = .returned (.tuple #[.int .u64 256, .int .i64 0]) ∧ Below w.heap.size w w' := by
  have FF := box hT
  clear hT
  obtain ⟨Ra_0, B0⟩ := opn1 w (Obj.cells #[.int .u64 (x1 : Nat), .int .u64 (y1 : Nat)] 25)
  go_enter Tryd.func13, Tryd.ntmps13
  obtain ⟨ca_0_0, ca_0_1⟩ := cells2s Ra_0
  go_wp2_with fail
  refine (KC.out _ (fatB FF.out B0)).mono ?_
  rintro r w1 ⟨rfl, b1⟩
  have B1 : Below w.heap.size w w1 := btr B0 b1
  have Ra_1 := heap_of b1 _ _ _ Ra_0
  clear b1 B0 Ra_0 ca_0_0 ca_0_1
  obtain ⟨ca_1_0, ca_1_1⟩ := cells2s Ra_1
  go_wp2
  go_ret2
  exact ⟨rfl, B1⟩
set_option maxRecDepth 100000 in
set_option maxHeartbeats 8000000 in
theorem pg_cl_9 (f : Int) (x1 y1 : Nat) (w : World) (KC : Box (∀ w, FAt w → Calls Tryd.prog 30 #[.int .u8 f, .agg #[.int .u64 (x1 : Nat), .int .u64 (y1 : Nat)]] w fun r w' => r = .returned (.tuple #[.int .u8 9, .int .i64 0]) ∧ Below w.heap.size w w')) (hT : FAt w) : Calls Tryd.prog 13 #[.int .u8 f, .agg #[.int .u64 (x1 : Nat), .int .u64 (y1 : Nat)]] w fun r w' => r = .returned (.tuple #[.int .u64 512, .int .i64 0]) ∧ Below w.heap.size w w' := by
  have FF := box hT
  clear hT
  obtain ⟨Ra_0, B0⟩ := opn1 w (Obj.cells #[.int .u64 (x1 : Nat), .int .u64 (y1 : Nat)] 25)
  go_enter Tryd.func13, Tryd.ntmps13
  obtain ⟨ca_0_0, ca_0_1⟩ := cells2s Ra_0
  go_wp2_with fail
  refine (KC.out _ (fatB FF.out B0)).mono ?_
  rintro r w1 ⟨rfl, b1⟩
  have B1 : Below w.heap.size w w1 := btr B0 b1
  have Ra_1 := heap_of b1 _ _ _ Ra_0
  clear b1 B0 Ra_0 ca_0_0 ca_0_1
  obtain ⟨ca_1_0, ca_1_1⟩ := cells2s Ra_1
  go_wp2
  go_ret2
  exact ⟨rfl, B1⟩
set_option maxRecDepth 100000 in
set_option maxHeartbeats 8000000 in
theorem pg_iw_no (f : Int) (w : World) (KH : Box (∀ w, Calls Tryd.prog 49 #[.int .u8 f] w fun r w' => r = .returned (.int .i64 2) ∧ Below w.heap.size w w')) (hT : FAt w) : Calls Tryd.prog 32 #[.int .u8 f] w fun r w' => r = .returned (.bool false) ∧ Below w.heap.size w w' := by
  have FF := box hT
  clear hT
  have B0 : Below w.heap.size w w := (Below.refl _ _)
  go_enter Tryd.func32, Tryd.ntmps32
  go_wp2_with fail
  refine (KH.out _).mono ?_
  rintro r w1 ⟨rfl, b1⟩
  have B1 : Below w.heap.size w w1 := btr B0 b1
  clear b1 B0 
  go_wp2
  go_ret
  exact ⟨rfl, B1⟩
set_option maxRecDepth 100000 in
set_option maxHeartbeats 8000000 in
theorem pg_iw (f W : Int) (o : Bool) (ho : decide (W ≤ 64) = o) (w : World) (KH : Box (∀ w, Calls Tryd.prog 49 #[.int .u8 f] w fun r w' => r = .returned (.int .i64 0) ∧ Below w.heap.size w w')) (KW : Box (∀ w, FAt w → Calls Tryd.prog 50 #[.int .u8 f] w fun r w' => r = .returned (.int .i64 W) ∧ Below w.heap.size w w')) (hT : FAt w) : Calls Tryd.prog 32 #[.int .u8 f] w fun r w' => r = .returned (.bool o) ∧ Below w.heap.size w w' := by
  have FF := box hT
  clear hT
  have B0 : Below w.heap.size w w := (Below.refl _ _)
  go_enter Tryd.func32, Tryd.ntmps32
  go_wp2_with fail
  refine (KH.out _).mono ?_
  rintro r w1 ⟨rfl, b1⟩
  have B1 : Below w.heap.size w w1 := btr B0 b1
  clear b1 B0 
  go_wp2_with fail
  refine (KW.out _ (fatB FF.out B1)).mono ?_
  rintro r w2 ⟨rfl, b2⟩
  have B2 : Below w.heap.size w w2 := btr B1 b2
  clear b2 B1 
  go_wp2
  go_ret
  exact ⟨rfl, B2⟩
set_option maxRecDepth 100000 in
set_option maxHeartbeats 8000000 in
theorem pg_sp_16 (f : Int) (w : World) (KW : Box (∀ w, FAt w → Calls Tryd.prog 50 #[.int .u8 f] w fun r w' => r = .returned (.int .i64 16) ∧ Below w.heap.size w w')) (hT : FAt w) : Calls Tryd.prog 34 #[.int .u8 f] w fun r w' => r = .returned (.int .u64 48) ∧ Below w.heap.size w w' := by
  have FF := box hT
  clear hT
  have B0 : Below w.heap.size w w := (Below.refl _ _)
  go_enter Tryd.func34, Tryd.ntmps34
  go_wp2_with fail
  refine (KW.out _ (fatB FF.out B0)).mono ?_
  rintro r w1 ⟨rfl, b1⟩
  have B1 : Below w.heap.size w w1 := btr B0 b1
  clear b1 B0 
  go_wp2
  go_ret
  exact ⟨rfl, B1⟩
set_option maxRecDepth 100000 in
set_option maxHeartbeats 8000000 in
theorem pg_sp_32 (f : Int) (w : World) (KW : Box (∀ w, FAt w → Calls Tryd.prog 50 #[.int .u8 f] w fun r w' => r = .returned (.int .i64 32) ∧ Below w.heap.size w w')) (hT : FAt w) : Calls Tryd.prog 34 #[.int .u8 f] w fun r w' => r = .returned (.int .u64 32) ∧ Below w.heap.size w w' := by
  have FF := box hT
  clear hT
  have B0 : Below w.heap.size w w := (Below.refl _ _)
  go_enter Tryd.func34, Tryd.ntmps34
  go_wp2_with fail
  refine (KW.out _ (fatB FF.out B0)).mono ?_
  rintro r w1 ⟨rfl, b1⟩
  have B1 : Below w.heap.size w w1 := btr B0 b1
  clear b1 B0 
  go_wp2
  go_ret
  exact ⟨rfl, B1⟩
set_option maxRecDepth 100000 in
set_option maxHeartbeats 8000000 in
theorem pg_sp_64 (f : Int) (w : World) (KW : Box (∀ w, FAt w → Calls Tryd.prog 50 #[.int .u8 f] w fun r w' => r = .returned (.int .i64 64) ∧ Below w.heap.size w w')) (hT : FAt w) : Calls Tryd.prog 34 #[.int .u8 f] w fun r w' => r = .returned (.int .u64 0) ∧ Below w.heap.size w w' := by
  have FF := box hT
  clear hT
  have B0 : Below w.heap.size w w := (Below.refl _ _)
  go_enter Tryd.func34, Tryd.ntmps34
  go_wp2_with fail
  refine (KW.out _ (fatB FF.out B0)).mono ?_
  rintro r w1 ⟨rfl, b1⟩
  have B1 : Below w.heap.size w w1 := btr B0 b1
  clear b1 B0 
  go_wp2
  go_ret
  exact ⟨rfl, B1⟩
set_option maxRecDepth 100000 in
set_option maxHeartbeats 8000000 in
theorem pg_tw_n1 (f : Int) (x1 y1 t : Nat)  (w : World) (KI : Box (∀ w, FAt w → Calls Tryd.prog 32 #[.int .u8 f] w fun r w' => r = .returned (.bool false) ∧ Below w.heap.size w w')) (hT : FAt w) : Calls Tryd.prog 15 #[.int .u8 f, .agg #[.int .u64 (x1 : Nat), .int .u64 (y1 : Nat)]] w fun r w' => r = .returned (.tuple #[.int .u64 0, .int .i64 2]) ∧ Below w.heap.size w w' := by
  have FF := box hT
  clear hT
  obtain ⟨Ra_0, B0⟩ := opn1 w (Obj.cells #[.int .u64 (x1 : Nat), .int .u64 (y1 : Nat)] 25)
  go_enter Tryd.func15, Tryd.ntmps15
  obtain ⟨ca_0_0, ca_0_1⟩ := cells2s Ra_0
  go_wp2_with fail
  refine (KI.out _ (fatB FF.out B0)).mono ?_
  rintro r w1 ⟨rfl, b1⟩
  have B1 : Below w.heap.size w w1 := btr B0 b1
  have Ra_1 := heap_of b1 _ _ _ Ra_0
  clear b1 B0 Ra_0 ca_0_0 ca_0_1
  obtain ⟨ca_1_0, ca_1_1⟩ := cells2s Ra_1
  go_wp2
  go_ret2
  exact ⟨rfl, B1⟩
set_option maxRecDepth 100000 in
set_option maxHeartbeats 8000000 in
theorem pg_tw_n2 (f : Int) (x1 y1 t : Nat)  (w : World) (KI : Box (∀ w, FAt w → Calls Tryd.prog 32 #[.int .u8 f] w fun r w' => r = .returned (.bool true) ∧ Below w.heap.size w w')) (KF1 : Box (∀ w, FAt w → Calls Tryd.prog 33 #[.int .u8 f, .agg #[.int .u64 (x1 : Nat), .int .u64 (y1 : Nat)]] w fun r w' => r = .returned (.bool false) ∧ Below w.heap.size w w')) (hT : FAt w) : Calls Tryd.prog 15 #[.int .u8 f, .agg #[.int .u64 (x1 : Nat), .int .u64 (y1 : Nat)]] w fun r w' => r = .returned (.tuple #[.int .u64 0, .int .i64 2]) ∧ Below w.heap.size w w' := by
  have FF := box hT
  clear hT
  obtain ⟨Ra_0, B0⟩ := opn1 w (Obj.cells #[.int .u64 (x1 : Nat), .int .u64 (y1 : Nat)] 25)
  go_enter Tryd.func15, Tryd.ntmps15
  obtain ⟨ca_0_0, ca_0_1⟩ := cells2s Ra_0
  go_wp2_with fail
  refine (KI.out _ (fatB FF.out B0)).mono ?_
  rintro r w1 ⟨rfl, b1⟩
  have B1 : Below w.heap.size w w1 := btr B0 b1
  have Ra_1 := heap_of b1 _ _ _ Ra_0
  clear b1 B0 Ra_0 ca_0_0 ca_0_1
  obtain ⟨ca_1_0, ca_1_1⟩ := cells2s Ra_1
  go_wp2_with fail
  refine (KF1.out _ (fatB FF.out B1)).mono ?_
  rintro r w2 ⟨rfl, b2⟩
  have B2 : Below w.heap.size w w2 := btr B1 b2
  have Ra_2 := heap_of b2 _ _ _ Ra_1
  clear b2 B1 Ra_1 ca_1_0 ca_1_1
  obtain ⟨ca_2_0, ca_2_1⟩ := cells2s Ra_2
  go_wp2
  go_ret2
  exact ⟨rfl, B2⟩
set_option maxRecDepth 100000 in
set_option maxHeartbeats 8000000 in
theorem pg_tw_48 (f : Int) (x1 y1 t : Nat)  (w : World) (KI : Box (∀ w, FAt w → Calls Tryd.prog 32 #[.int .u8 f] w fun r w' => r = .returned (.bool true) ∧ Below w.heap.size w w')) (KF1 : Box (∀ w, FAt w → Calls Tryd.prog 33 #[.int .u8 f, .agg #[.int .u64 (x1 : Nat), .int .u64 (y1 : Nat)]] w fun r w' => r = .returned (.bool true) ∧ Below w.heap.size w w')) (KP : Box (∀ w, FAt w → Calls Tryd.prog 34 #[.int .u8 f] w fun r w' => r = .returned (.int .u64 48) ∧ Below w.heap.size w w')) (hT : FAt w) : Calls Tryd.prog 15 #[.int .u8 f, .agg #[.int .u64 (x1 : Nat), .int .u64 (y1 : Nat)]] w fun r w' => r = .returned (.tuple #[.int .u64 (IntKind.u64.wrap (wrap64 (IntKind.u64.wrap ((y1 : Int) * 281474976710656)) / 281474976710656)), .int .i64 0]) ∧ Below w.heap.size w w' := by
  have FF := box hT
  clear hT
  obtain ⟨Ra_0, B0⟩ := opn1 w (Obj.cells #[.int .u64 (x1 : Nat), .int .u64 (y1 : Nat)] 25)
  go_enter Tryd.func15, Tryd.ntmps15
  obtain ⟨ca_0_0, ca_0_1⟩ := cells2s Ra_0
  go_wp2_with fail
  refine (KI.out _ (fatB FF.out B0)).mono ?_
  rintro r w1 ⟨rfl, b1⟩
  have B1 : Below w.heap.size w w1 := btr B0 b1
  have Ra_1 := heap_of b1 _ _ _ Ra_0
  clear b1 B0 Ra_0 ca_0_0 ca_0_1
  obtain ⟨ca_1_0, ca_1_1⟩ := cells2s Ra_1
  go_wp2_with fail
  refine (KF1.out _ (fatB FF.out B1)).mono ?_
  rintro r w2 ⟨rfl, b2⟩
  have B2 : Below w.heap.size w w2 := btr B1 b2
  have Ra_2 := heap_of b2 _ _ _ Ra_1
  clear b2 B1 Ra_1 ca_1_0 ca_1_1
  obtain ⟨ca_2_0, ca_2_1⟩ := cells2s Ra_2
  go_wp2_with fail
  refine (KP.out _ (fatB FF.out B2)).mono ?_
  rintro r w3 ⟨rfl, b3⟩
  have B3 : Below w.heap.size w w3 := btr B2 b3
  have Ra_3 := heap_of b3 _ _ _ Ra_2
  clear b3 B2 Ra_2 ca_2_0 ca_2_1
  obtain ⟨ca_3_0, ca_3_1⟩ := cells2s Ra_3
  go_wp2
  go_ret2
  exact ⟨rfl, B3⟩
set_option maxRecDepth 100000 in
set_option maxHeartbeats 8000000 in
theorem pg_tw_32 (f : Int) (x1 y1 t : Nat)  (w : World) (KI : Box (∀ w, FAt w → Calls Tryd.prog 32 #[.int .u8 f] w fun r w' => r = .returned (.bool true) ∧ Below w.heap.size w w')) (KF1 : Box (∀ w, FAt w → Calls Tryd.prog 33 #[.int .u8 f, .agg #[.int .u64 (x1 : Nat), .int .u64 (y1 : Nat)]] w fun r w' => r = .returned (.bool true) ∧ Below w.heap.size w w')) (KP : Box (∀ w, FAt w → Calls Tryd.prog 34 #[.int .u8 f] w fun r w' => r = .returned (.int .u64 32) ∧ Below w.heap.size w w')) (hT : FAt w) : Calls Tryd.prog 15 #[.int .u8 f, .agg #[.int .u64 (x1 : Nat), .int .u64 (y1 : Nat)]] w fun r w' => r = .returned (.tuple #[.int .u64 (IntKind.u64.wrap (wrap64 (IntKind.u64.wrap ((y1 : Int) * 4294967296)) / 4294967296)), .int .i64 0]) ∧ Below w.heap.size w w' := by
  have FF := box hT
  clear hT
  obtain ⟨Ra_0, B0⟩ := opn1 w (Obj.cells #[.int .u64 (x1 : Nat), .int .u64 (y1 : Nat)] 25)
  go_enter Tryd.func15, Tryd.ntmps15
  obtain ⟨ca_0_0, ca_0_1⟩ := cells2s Ra_0
  go_wp2_with fail
  refine (KI.out _ (fatB FF.out B0)).mono ?_
  rintro r w1 ⟨rfl, b1⟩
  have B1 : Below w.heap.size w w1 := btr B0 b1
  have Ra_1 := heap_of b1 _ _ _ Ra_0
  clear b1 B0 Ra_0 ca_0_0 ca_0_1
  obtain ⟨ca_1_0, ca_1_1⟩ := cells2s Ra_1
  go_wp2_with fail
  refine (KF1.out _ (fatB FF.out B1)).mono ?_
  rintro r w2 ⟨rfl, b2⟩
  have B2 : Below w.heap.size w w2 := btr B1 b2
  have Ra_2 := heap_of b2 _ _ _ Ra_1
  clear b2 B1 Ra_1 ca_1_0 ca_1_1
  obtain ⟨ca_2_0, ca_2_1⟩ := cells2s Ra_2
  go_wp2_with fail
  refine (KP.out _ (fatB FF.out B2)).mono ?_
  rintro r w3 ⟨rfl, b3⟩
  have B3 : Below w.heap.size w w3 := btr B2 b3
  have Ra_3 := heap_of b3 _ _ _ Ra_2
  clear b3 B2 Ra_2 ca_2_0 ca_2_1
  obtain ⟨ca_3_0, ca_3_1⟩ := cells2s Ra_3
  go_wp2
  go_ret2
  exact ⟨rfl, B3⟩
set_option maxRecDepth 100000 in
set_option maxHeartbeats 8000000 in
theorem pg_tw_0 (f : Int) (x1 y1 t : Nat)  (w : World) (KI : Box (∀ w, FAt w → Calls Tryd.prog 32 #[.int .u8 f] w fun r w' => r = .returned (.bool true) ∧ Below w.heap.size w w')) (KF1 : Box (∀ w, FAt w → Calls Tryd.prog 33 #[.int .u8 f, .agg #[.int .u64 (x1 : Nat), .int .u64 (y1 : Nat)]] w fun r w' => r = .returned (.bool true) ∧ Below w.heap.size w w')) (KP : Box (∀ w, FAt w → Calls Tryd.prog 34 #[.int .u8 f] w fun r w' => r = .returned (.int .u64 0) ∧ Below w.heap.size w w')) (hT : FAt w) : Calls Tryd.prog 15 #[.int .u8 f, .agg #[.int .u64 (x1 : Nat), .int .u64 (y1 : Nat)]] w fun r w' => r = .returned (.tuple #[.int .u64 (IntKind.u64.wrap (wrap64 (IntKind.u64.wrap (y1 : Int)))), .int .i64 0]) ∧ Below w.heap.size w w' := by
  have FF := box hT
  clear hT
  obtain ⟨Ra_0, B0⟩ := opn1 w (Obj.cells #[.int .u64 (x1 : Nat), .int .u64 (y1 : Nat)] 25)
  go_enter Tryd.func15, Tryd.ntmps15
  obtain ⟨ca_0_0, ca_0_1⟩ := cells2s Ra_0
  go_wp2_with fail
  refine (KI.out _ (fatB FF.out B0)).mono ?_
  rintro r w1 ⟨rfl, b1⟩
  have B1 : Below w.heap.size w w1 := btr B0 b1
  have Ra_1 := heap_of b1 _ _ _ Ra_0
  clear b1 B0 Ra_0 ca_0_0 ca_0_1
  obtain ⟨ca_1_0, ca_1_1⟩ := cells2s Ra_1
  go_wp2_with fail
  refine (KF1.out _ (fatB FF.out B1)).mono ?_
  rintro r w2 ⟨rfl, b2⟩
  have B2 : Below w.heap.size w w2 := btr B1 b2
  have Ra_2 := heap_of b2 _ _ _ Ra_1
  clear b2 B1 Ra_1 ca_1_0 ca_1_1
  obtain ⟨ca_2_0, ca_2_1⟩ := cells2s Ra_2
  go_wp2_with fail
  refine (KP.out _ (fatB FF.out B2)).mono ?_
  rintro r w3 ⟨rfl, b3⟩
  have B3 : Below w.heap.size w w3 := btr B2 b3
  have Ra_3 := heap_of b3 _ _ _ Ra_2
  clear b3 B2 Ra_2 ca_2_0 ca_2_1
  obtain ⟨ca_3_0, ca_3_1⟩ := cells2s Ra_3
  go_wp2
  go_ret2
  exact ⟨rfl, B3⟩
set_option maxRecDepth 100000 in
set_option maxHeartbeats 8000000 in
theorem pg_ow_no (f : Int) (x t : Nat)  (w : World) (KI : Box (∀ w, FAt w → Calls Tryd.prog 32 #[.int .u8 f] w fun r w' => r = .returned (.bool false) ∧ Below w.heap.size w w')) (hT : FAt w) : Calls Tryd.prog 17 #[.int .u8 f, .int .u64 (x : Nat)] w fun r w' => r = .returned (.tuple #[.agg #[.int .u64 0, .int .u64 0], .int .i64 2]) ∧ Below w.heap.size w w' := by
  have FF := box hT
  clear hT
  obtain ⟨Rz_0, B0⟩ := opn1 w (Obj.cells #[.int .u64 0, .int .u64 0] 25)
  go_enter Tryd.func17, Tryd.ntmps17
  go_wp2_with fail
  refine (KI.out _ (fatB FF.out B0)).mono ?_
  rintro r w1 ⟨rfl, b1⟩
  have B1 : Below w.heap.size w w1 := btr B0 b1
  have Rz_1 := heap_of b1 _ _ _ Rz_0
  clear b1 B0 Rz_0
  obtain ⟨cz_1_0, cz_1_1⟩ := cells2s Rz_1
  have q0 := fz (k := 0) Rz_1
  have q1 := fz (k := 1) Rz_1
  obtain ⟨E0, E1⟩ := set2_cells Rz_1 (.int .u64 0) (.int .u64 0)
  go_wp2
  exact bodyPost_ret (v := .tuple #[.agg #[.int .u64 0, .int .u64 0], .int .i64 2]) (by simp [results, Tryd.results17, go_sem, E0, E1]) rfl ⟨rfl, set2_below B1 (by first | exact Nat.le_refl _ | omega | (skip; omega)) _ _⟩
set_option maxRecDepth 100000 in
set_option maxHeartbeats 8000000 in
theorem pg_ow_48 (f : Int) (x t : Nat)  (w : World) (KI : Box (∀ w, FAt w → Calls Tryd.prog 32 #[.int .u8 f] w fun r w' => r = .returned (.bool true) ∧ Below w.heap.size w w')) (KP : Box (∀ w, FAt w → Calls Tryd.prog 34 #[.int .u8 f] w fun r w' => r = .returned (.int .u64 48) ∧ Below w.heap.size w w')) (hT : FAt w) : Calls Tryd.prog 17 #[.int .u8 f, .int .u64 (x : Nat)] w fun r w' => r = .returned (.tuple #[.agg #[.int .u64 0, .int .u64 (IntKind.u64.wrap ((x : Int) * 281474976710656) / 281474976710656)], .int .i64 0]) ∧ Below w.heap.size w w' := by
  have FF := box hT
  clear hT
  obtain ⟨Rz_0, B0⟩ := opn1 w (Obj.cells #[.int .u64 0, .int .u64 0] 25)
  go_enter Tryd.func17, Tryd.ntmps17
  go_wp2_with fail
  refine (KI.out _ (fatB FF.out B0)).mono ?_
  rintro r w1 ⟨rfl, b1⟩
  have B1 : Below w.heap.size w w1 := btr B0 b1
  have Rz_1 := heap_of b1 _ _ _ Rz_0
  clear b1 B0 Rz_0
  go_wp2_with fail
  refine (KP.out _ (fatB FF.out B1)).mono ?_
  rintro r w2 ⟨rfl, b2⟩
  have B2 : Below w.heap.size w w2 := btr B1 b2
  have Rz_2 := heap_of b2 _ _ _ Rz_1
  clear b2 B1 Rz_1
  obtain ⟨cz_2_0, cz_2_1⟩ := cells2s Rz_2
  have q0 := fz (k := 0) Rz_2
  have q1 := fz (k := 1) Rz_2
  obtain ⟨E0, E1⟩ := set2_cells Rz_2 (.int .u64 0) (.int .u64 (IntKind.u64.wrap ((x : Int) * 281474976710656) / 281474976710656))
  go_wp2
  exact bodyPost_ret (v := .tuple #[.agg #[.int .u64 0, .int .u64 (IntKind.u64.wrap ((x : Int) * 281474976710656) / 281474976710656)], .int .i64 0]) (by simp [results, Tryd.results17, go_sem, E0, E1]) rfl ⟨rfl, set2_below B2 (by first | exact Nat.le_refl _ | omega | (skip; omega)) _ _⟩
set_option maxRecDepth 100000 in
set_option maxHeartbeats 8000000 in
theorem pg_ow_32 (f : Int) (x t : Nat)  (w : World) (KI : Box (∀ w, FAt w → Calls Tryd.prog 32 #[.int .u8 f] w fun r w' => r = .returned (.bool true) ∧ Below w.heap.size w w')) (KP : Box (∀ w, FAt w → Calls Tryd.prog 34 #[.int .u8 f] w fun r w' => r = .returned (.int .u64 32) ∧ Below w.heap.size w w')) (hT : FAt w) : Calls Tryd.prog 17 #[.int .u8 f, .int .u64 (x : Nat)] w fun r w' => r = .returned (.tuple #[.agg #[.int .u64 0, .int .u64 (IntKind.u64.wrap ((x : Int) * 4294967296) / 4294967296)], .int .i64 0]) ∧ Below w.heap.size w w' := by
  have FF := box hT
  clear hT
  obtain ⟨Rz_0, B0⟩ := opn1 w (Obj.cells #[.int .u64 0, .int .u64 0] 25)
  go_enter Tryd.func17, Tryd.ntmps17
  go_wp2_with fail
  refine (KI.out _ (fatB FF.out B0)).mono ?_
  rintro r w1 ⟨rfl, b1⟩
  have B1 : Below w.heap.size w w1 := btr B0 b1
  have Rz_1 := heap_of b1 _ _ _ Rz_0
  clear b1 B0 Rz_0
  go_wp2_with fail
  refine (KP.out _ (fatB FF.out B1)).mono ?_
  rintro r w2 ⟨rfl, b2⟩
  have B2 : Below w.heap.size w w2 := btr B1 b2
  have Rz_2 := heap_of b2 _ _ _ Rz_1
  clear b2 B1 Rz_1
  obtain ⟨cz_2_0, cz_2_1⟩ := cells2s Rz_2
  have q0 := fz (k := 0) Rz_2
  have q1 := fz (k := 1) Rz_2
  obtain ⟨E0, E1⟩ := set2_cells Rz_2 (.int .u64 0) (.int .u64 (IntKind.u64.wrap ((x : Int) * 4294967296) / 4294967296))
  go_wp2
  exact bodyPost_ret (v := .tuple #[.agg #[.int .u64 0, .int .u64 (IntKind.u64.wrap ((x : Int) * 4294967296) / 4294967296)], .int .i64 0]) (by simp [results, Tryd.results17, go_sem, E0, E1]) rfl ⟨rfl, set2_below B2 (by first | exact Nat.le_refl _ | omega | (skip; omega)) _ _⟩
set_option maxRecDepth 100000 in
set_option maxHeartbeats 8000000 in
theorem pg_ow_0 (f : Int) (x t : Nat)  (w : World) (KI : Box (∀ w, FAt w → Calls Tryd.prog 32 #[.int .u8 f] w fun r w' => r = .returned (.bool true) ∧ Below w.heap.size w w')) (KP : Box (∀ w, FAt w → Calls Tryd.prog 34 #[.int .u8 f] w fun r w' => r = .returned (.int .u64 0) ∧ Below w.heap.size w w')) (hT : FAt w) : Calls Tryd.prog 17 #[.int .u8 f, .int .u64 (x : Nat)] w fun r w' => r = .returned (.tuple #[.agg #[.int .u64 0, .int .u64 (IntKind.u64.wrap (x : Int))], .int .i64 0]) ∧ Below w.heap.size w w' := by
  have FF := box hT
  clear hT
  obtain ⟨Rz_0, B0⟩ := opn1 w (Obj.cells #[.int .u64 0, .int .u64 0] 25)
  go_enter Tryd.func17, Tryd.ntmps17
  go_wp2_with fail
  refine (KI.out _ (fatB FF.out B0)).mono ?_
  rintro r w1 ⟨rfl, b1⟩
  have B1 : Below w.heap.size w w1 := btr B0 b1
  have Rz_1 := heap_of b1 _ _ _ Rz_0
  clear b1 B0 Rz_0
  go_wp2_with fail
  refine (KP.out _ (fatB FF.out B1)).mono ?_
  rintro r w2 ⟨rfl, b2⟩
  have B2 : Below w.heap.size w w2 := btr B1 b2
  have Rz_2 := heap_of b2 _ _ _ Rz_1
  clear b2 B1 Rz_1
  obtain ⟨cz_2_0, cz_2_1⟩ := cells2s Rz_2
  have q0 := fz (k := 0) Rz_2
  have q1 := fz (k := 1) Rz_2
  obtain ⟨E0, E1⟩ := set2_cells Rz_2 (.int .u64 0) (.int .u64 (IntKind.u64.wrap (x : Int)))
  go_wp2
  exact bodyPost_ret (v := .tuple #[.agg #[.int .u64 0, .int .u64 (IntKind.u64.wrap (x : Int))], .int .i64 0]) (by simp [results, Tryd.results17, go_sem, E0, E1]) rfl ⟨rfl, set2_below B2 (by first | exact Nat.le_refl _ | omega | (skip; omega)) _ _⟩
theorem bel_sn {P : Program} {k : FuncId} {a : Array Value} {w : World} {v : Value} (h : Calls P k a w fun r w' => r = .returned v ∧ w' = w) : Calls P k a w fun r w' => r = .returned v ∧ Below w.heap.size w w' := h.mono fun _ _ q => ⟨q.1, by rw [q.2]; exact Below.refl _ _⟩
theorem tw_half (n t : Nat) (h : n < 65536) (ht : toW 2 n = t) : IntKind.u64.wrap (wrap64 (IntKind.u64.wrap ((n : Int) * 281474976710656)) / 281474976710656) = ((t : Nat) : Int) := by
  have e : toW 2 n = if n / 32768 % 2 = 1 then n + 18446744073709486080 else n := by
    unfold toW kN
    rw [show (2 : Nat) ^ wV 2 = 32768 by decide +kernel]
    simp
  rw [e] at ht
  subst ht
  rw [show ∀ x : Int, IntKind.u64.wrap x = x % 18446744073709551616 from fun _ => rfl, show ∀ x : Int, IntKind.u64.wrap x = x % 18446744073709551616 from fun _ => rfl]
  unfold wrap64
  split <;> omega
theorem tw_single (n t : Nat) (h : n < 4294967296) (ht : toW 0 n = t) : IntKind.u64.wrap (wrap64 (IntKind.u64.wrap ((n : Int) * 4294967296)) / 4294967296) = ((t : Nat) : Int) := by
  have e : toW 0 n = if n / 2147483648 % 2 = 1 then n + 18446744069414584320 else n := by
    unfold toW kN
    rw [show (2 : Nat) ^ wV 0 = 2147483648 by decide +kernel]
    simp
  rw [e] at ht
  subst ht
  rw [show ∀ x : Int, IntKind.u64.wrap x = x % 18446744073709551616 from fun _ => rfl, show ∀ x : Int, IntKind.u64.wrap x = x % 18446744073709551616 from fun _ => rfl]
  unfold wrap64
  split <;> omega
theorem tw_double (n t : Nat) (h : n < 18446744073709551616) (ht : toW 1 n = t) : IntKind.u64.wrap (wrap64 (IntKind.u64.wrap (n : Int))) = ((t : Nat) : Int) := by
  have e : toW 1 n = n := by
    unfold toW
    rw [show 18446744073709551616 - 2 * 2 ^ wV 1 = 0 by decide +kernel]
    simp
  rw [e] at ht
  subst ht
  rw [show ∀ x : Int, IntKind.u64.wrap x = x % 18446744073709551616 from fun _ => rfl, show ∀ x : Int, IntKind.u64.wrap x = x % 18446744073709551616 from fun _ => rfl]
  unfold wrap64
  omega
theorem ow_half (n t : Nat) (h : n < 18446744073709551616) (ht : ofW 2 n = t) : IntKind.u64.wrap ((n : Int) * 281474976710656) / 281474976710656 = ((t : Nat) : Int) := by
  have e : ofW 2 n = n % 65536 := by
    unfold ofW
    rw [show 2 * 2 ^ wV 2 = 65536 by decide +kernel]
  rw [e] at ht
  subst ht
  rw [show ∀ x : Int, IntKind.u64.wrap x = x % 18446744073709551616 from fun _ => rfl]
  omega
theorem ow_single (n t : Nat) (h : n < 18446744073709551616) (ht : ofW 0 n = t) : IntKind.u64.wrap ((n : Int) * 4294967296) / 4294967296 = ((t : Nat) : Int) := by
  have e : ofW 0 n = n % 4294967296 := by
    unfold ofW
    rw [show 2 * 2 ^ wV 0 = 4294967296 by decide +kernel]
  rw [e] at ht
  subst ht
  rw [show ∀ x : Int, IntKind.u64.wrap x = x % 18446744073709551616 from fun _ => rfl]
  omega
theorem ow_double (n t : Nat) (h : n < 18446744073709551616) (ht : ofW 1 n = t) : IntKind.u64.wrap (n : Int) = ((t : Nat) : Int) := by
  have e : ofW 1 n = n % 18446744073709551616 := by
    unfold ofW
    rw [show 2 * 2 ^ wV 1 = 18446744073709551616 by decide +kernel]
  rw [e] at ht
  subst ht
  rw [show ∀ x : Int, IntKind.u64.wrap x = x % 18446744073709551616 from fun _ => rfl]
  omega
theorem kS_Copy (f : Int) (h0 : 0 ≤ f) (x1 y1 a x2 y2 b : Nat) (hx1 : x1 < 18446744073709551616) (hy1 : y1 < 18446744073709551616) (ha : y1 + 18446744073709551616 * x1 = a) (hx2 : x2 < 18446744073709551616) (hy2 : y2 < 18446744073709551616) (hb : y2 + 18446744073709551616 * x2 = b) (oa : okB f a = true) (ob : okB f b = true) (u v : Nat) (hu : bv7 (wiB f a (kN f b)) = (u, v)) (w : World) (hT : FAt w) : Calls Tryd.prog 6 #[.int .u8 f, .agg #[.int .u64 (x1 : Nat), .int .u64 (y1 : Nat)], .agg #[.int .u64 (x2 : Nat), .int .u64 (y2 : Nat)]] w fun r w' => r = .returned (.tuple #[.agg #[.int .u64 (u : Nat), .int .u64 (v : Nat)], .int .i64 0]) ∧ Below w.heap.size w w' := by
  have hf := (okB_yes h0 oa).1
  have f4 := is4_ok hf
  have F1 := box (fun w => sk_fits f x1 y1 a true f4.1 f4.2.1 hx1 hy1 ha oa w)
  have F2 := box (fun w => sk_fits f x2 y2 b true f4.1 f4.2.1 hx2 hy2 hb ob w)
  have S1 : ∀ o, kN f a = o → Box (∀ w, FAt w → Calls Tryd.prog 41 #[.int .u8 f, .agg #[.int .u64 (x1 : Nat), .int .u64 (y1 : Nat)]] w fun r w' => r = .returned (.bool o) ∧ Below w.heap.size w w') := fun o h => box (fun w hT => kSign_yes f hf x1 y1 a o hx1 hy1 ha oa h w hT)
  have S2 : ∀ o, kN f b = o → Box (∀ w, FAt w → Calls Tryd.prog 41 #[.int .u8 f, .agg #[.int .u64 (x2 : Nat), .int .u64 (y2 : Nat)]] w fun r w' => r = .returned (.bool o) ∧ Below w.heap.size w w') := fun o h => box (fun w hT => kSign_yes f hf x2 y2 b o hx2 hy2 hb ob h w hT)
  have L : ∀ u v, bv7 (sgB f a true) = (u, v) → Box (∀ w, FAt w → Calls Tryd.prog 19 #[.int .u8 f, .agg #[.int .u64 (x1 : Nat), .int .u64 (y1 : Nat)]] w fun r w' => r = .returned (.agg #[.int .u64 (u : Nat), .int .u64 (v : Nat)]) ∧ Below w.heap.size w w') := fun u v h => box (fun w hT => kFlip_yes f hf x1 y1 a u v hx1 hy1 ha oa h w hT)
  have T : ∀ p q o, (q) = o → Box (∀ w, Calls Tryd.prog 21 #[.bool p, .bool q] w fun r w' => r = .returned (.bool o) ∧ Below w.heap.size w w') := fun p q o h => box (fun w => pg_Copy1 p q o h w)
  have e : bv7 a = (x1, y1) := by
    unfold bv7
    rw [show a / 18446744073709551616 = x1 by omega, show a % 18446744073709551616 = y1 by omega]
  refine pg_Copy f x1 y1 x2 y2 u v 0 w (box (fun w hT => ?_)) hT
  unfold wiB at hu
  cases p : kN f a <;> cases q : kN f b <;> (try rw [p] at hu) <;> (try rw [q] at hu)
  · have hu : bv7 a = (u, v) := hu
    rw [e] at hu
    cases hu
    exact pg_Copy_st_f f x1 y1 x2 y2 0 0 false w F1 F2 (S1 false p) (S2 false q) (T false false false rfl) hT
  · exact pg_Copy_sw_ft f x1 y1 x2 y2 u v true w F1 F2 (S1 false p) (S2 true q) (T false true true rfl) (L u v hu) hT
  · exact pg_Copy_sw_tf f x1 y1 x2 y2 u v false w F1 F2 (S1 true p) (S2 false q) (T true false false rfl) (L u v hu) hT
  · have hu : bv7 a = (u, v) := hu
    rw [e] at hu
    cases hu
    exact pg_Copy_st_t f x1 y1 x2 y2 0 0 true w F1 F2 (S1 true p) (S2 true q) (T true true true rfl) hT
theorem kS_cl (f : Int) (h0 : 0 ≤ f) (h1 : f ≤ 255) (x1 y1 a : Nat) (hx1 : x1 < 18446744073709551616) (hy1 : y1 < 18446744073709551616) (ha : y1 + 18446744073709551616 * x1 = a) (oa : okB f a = true) (w : World) (hT : FAt w) : Calls Tryd.prog 13 #[.int .u8 f, .agg #[.int .u64 (x1 : Nat), .int .u64 (y1 : Nat)]] w fun r w' => r = .returned (.tuple #[.int .u64 ((2 ^ kC f a : Nat) : Int), .int .i64 0]) ∧ Below w.heap.size w w' := by
  have K : ∀ c : Nat, kC f a = c → Box (∀ w, FAt w → Calls Tryd.prog 30 #[.int .u8 f, .agg #[.int .u64 (x1 : Nat), .int .u64 (y1 : Nat)]] w fun r w' => r = .returned (.tuple #[.int .u8 (c : Nat), .int .i64 0]) ∧ Below w.heap.size w w') := fun c h => box (fun w hT => kClass_yes f (okB_yes h0 oa).1 x1 y1 a c hx1 hy1 ha oa h w hT)
  have l := kC_lt f a
  rcases (by omega : kC f a = 0 ∨ kC f a = 1 ∨ kC f a = 2 ∨ kC f a = 3 ∨ kC f a = 4 ∨ kC f a = 5 ∨ kC f a = 6 ∨ kC f a = 7 ∨ kC f a = 8 ∨ kC f a = 9) with h | h | h | h | h | h | h | h | h | h
  · rw [h]; exact pg_cl_0 f x1 y1 w (K 0 h) hT
  · rw [h]; exact pg_cl_1 f x1 y1 w (K 1 h) hT
  · rw [h]; exact pg_cl_2 f x1 y1 w (K 2 h) hT
  · rw [h]; exact pg_cl_3 f x1 y1 w (K 3 h) hT
  · rw [h]; exact pg_cl_4 f x1 y1 w (K 4 h) hT
  · rw [h]; exact pg_cl_5 f x1 y1 w (K 5 h) hT
  · rw [h]; exact pg_cl_6 f x1 y1 w (K 6 h) hT
  · rw [h]; exact pg_cl_7 f x1 y1 w (K 7 h) hT
  · rw [h]; exact pg_cl_8 f x1 y1 w (K 8 h) hT
  · rw [h]; exact pg_cl_9 f x1 y1 w (K 9 h) hT
theorem kS_cl_no (f : Int) (h0 : 0 ≤ f) (h1 : f ≤ 255) (x1 y1 a : Nat) (hx1 : x1 < 18446744073709551616) (hy1 : y1 < 18446744073709551616) (ha : y1 + 18446744073709551616 * x1 = a) (oa : okB f a = false) (w : World) (hT : FAt w) : Calls Tryd.prog 13 #[.int .u8 f, .agg #[.int .u64 (x1 : Nat), .int .u64 (y1 : Nat)]] w fun r w' => r = .returned (.tuple #[.int .u64 ((0 : Nat) : Int), .int .i64 2]) ∧ Below w.heap.size w w' :=
  pg_cl_no f x1 y1 w (box (fun w hT => kClass_no f h0 h1 x1 y1 a hx1 hy1 ha oa w hT)) hT
theorem kS_iw (f : Int) (h0 : 0 ≤ f) (h1 : f ≤ 255) (o : Bool) (ho : decide (f ≤ 2) = o) (w : World) (hT : FAt w) : Calls Tryd.prog 32 #[.int .u8 f] w fun r w' => r = .returned (.bool o) ∧ Below w.heap.size w w' := by
  subst ho
  by_cases l : f ≤ 3
  · have c : fC f = 0 := (is4_ok (is4_of h0 l)).2.2.1
    refine pg_iw f (fW f) _ ?_ w (box (fun w => bel_sn (s_check_is f 0 h0 h1 c w))) (box (fun w hT => sb_width f _ h0 h1 rfl w hT)) hT
    rcases is4_of h0 l with rfl | rfl | rfl | rfl <;> decide
  · have c : fC f = 2 := by unfold fC; rw [if_neg (by omega)]
    rw [decide_eq_false (by omega)]
    exact pg_iw_no f w (box (fun w => bel_sn (s_check_is f 2 h0 h1 c w))) hT
theorem kS_tw (f : Int) (h0 : 0 ≤ f) (h1 : f ≤ 255) (x1 y1 a : Nat) (hx1 : x1 < 18446744073709551616) (hy1 : y1 < 18446744073709551616) (ha : y1 + 18446744073709551616 * x1 = a) (oa : okB f a = true) (h3 : f ≠ 3) (w : World) (hT : FAt w) : Calls Tryd.prog 15 #[.int .u8 f, .agg #[.int .u64 (x1 : Nat), .int .u64 (y1 : Nat)]] w fun r w' => r = .returned (.tuple #[.int .u64 ((toW f a : Nat) : Int), .int .i64 0]) ∧ Below w.heap.size w w' := by
  obtain ⟨hf, fit⟩ := okB_yes h0 oa
  have lim := (w64_lim hf h3).1
  have F1 := box (fun w => sk_fits f x1 y1 a true h0 h1 hx1 hy1 ha oa w)
  have I := box (fun w => kS_iw f h0 h1 true (decide_eq_true (by rcases hf with rfl | rfl | rfl | rfl <;> omega)) w)
  have f1 : a < 2 * 2 ^ wV f := fit
  have az : y1 = a := by omega
  rcases hf with rfl | rfl | rfl | rfl
  · have P := box (fun w => pg_sp_32 0 w (box (fun w hT => sb_width 0 32 h0 h1 (by decide) w hT)))
    have q := pg_tw_32 0 x1 y1 0 w I F1 P hT
    rw [tw_single y1 _ (by rw [az]; exact Nat.lt_of_lt_of_le f1 (by decide +kernel)) rfl, az] at q
    rw [az]
    exact q
  · have P := box (fun w => pg_sp_64 1 w (box (fun w hT => sb_width 1 64 h0 h1 (by decide) w hT)))
    have q := pg_tw_0 1 x1 y1 0 w I F1 P hT
    rw [tw_double y1 _ hy1 rfl, az] at q
    rw [az]
    exact q
  · have P := box (fun w => pg_sp_16 2 w (box (fun w hT => sb_width 2 16 h0 h1 (by decide) w hT)))
    have q := pg_tw_48 2 x1 y1 0 w I F1 P hT
    rw [tw_half y1 _ (by rw [az]; exact Nat.lt_of_lt_of_le f1 (by decide +kernel)) rfl, az] at q
    rw [az]
    exact q
  · exact absurd rfl h3
theorem kS_tw_no (f : Int) (h0 : 0 ≤ f) (h1 : f ≤ 255) (x1 y1 a : Nat) (hx1 : x1 < 18446744073709551616) (hy1 : y1 < 18446744073709551616) (ha : y1 + 18446744073709551616 * x1 = a) (no : f = 3 ∨ okB f a = false) (w : World) (hT : FAt w) : Calls Tryd.prog 15 #[.int .u8 f, .agg #[.int .u64 (x1 : Nat), .int .u64 (y1 : Nat)]] w fun r w' => r = .returned (.tuple #[.int .u64 ((0 : Nat) : Int), .int .i64 2]) ∧ Below w.heap.size w w' := by
  cases d : decide (f ≤ 2)
  · exact pg_tw_n1 f x1 y1 0 w (box (fun w => kS_iw f h0 h1 false d w)) hT
  · have l := of_decide_eq_true d
    have oa : okB f a = false := by
      rcases no with h | h
      · omega
      · exact h
    exact pg_tw_n2 f x1 y1 0 w (box (fun w => kS_iw f h0 h1 true d w)) (box (fun w => sk_fits f x1 y1 a false h0 h1 hx1 hy1 ha oa w)) hT
theorem kS_ow (f : Int) (hf : Is4 f) (h3 : f ≠ 3) (x : Nat) (hx : x < 18446744073709551616) (w : World) (hT : FAt w) : Calls Tryd.prog 17 #[.int .u8 f, .int .u64 (x : Nat)] w fun r w' => r = .returned (.tuple #[.agg #[.int .u64 ((0 : Nat) : Int), .int .u64 ((ofW f x : Nat) : Int)], .int .i64 0]) ∧ Below w.heap.size w w' := by
  obtain ⟨h0, h1, _⟩ := is4_ok hf
  have I := box (fun w => kS_iw f h0 h1 true (decide_eq_true (by rcases hf with rfl | rfl | rfl | rfl <;> omega)) w)
  rcases hf with rfl | rfl | rfl | rfl
  · have q := pg_ow_32 0 x 0 w I (box (fun w => pg_sp_32 0 w (box (fun w hT => sb_width 0 32 h0 h1 (by decide) w hT)))) hT
    rw [ow_single x _ hx rfl] at q
    exact q
  · have q := pg_ow_0 1 x 0 w I (box (fun w => pg_sp_64 1 w (box (fun w hT => sb_width 1 64 h0 h1 (by decide) w hT)))) hT
    rw [ow_double x _ hx rfl] at q
    exact q
  · have q := pg_ow_48 2 x 0 w I (box (fun w => pg_sp_16 2 w (box (fun w hT => sb_width 2 16 h0 h1 (by decide) w hT)))) hT
    rw [ow_half x _ hx rfl] at q
    exact q
  · exact absurd rfl h3
theorem kS_ow_no (f : Int) (h0 : 0 ≤ f) (h1 : f ≤ 255) (no : f = 3 ∨ ¬ Is4 f) (x : Nat) (w : World) (hT : FAt w) : Calls Tryd.prog 17 #[.int .u8 f, .int .u64 (x : Nat)] w fun r w' => r = .returned (.tuple #[.agg #[.int .u64 ((0 : Nat) : Int), .int .u64 ((0 : Nat) : Int)], .int .i64 2]) ∧ Below w.heap.size w w' := by
  refine pg_ow_no f x 0 w (box (fun w => kS_iw f h0 h1 false (decide_eq_false (fun l => ?_)) w)) hT
  rcases no with h | h
  · omega
  · exact h (is4_of h0 (by omega))
theorem r17alive (w : World) (hT : FAt w) : Calls Tryd.prog 10 #[] w fun r w' => r = .returned (.bool true) ∧ Below w.heap.size w w' := by
  obtain ⟨e1, e2, o1, o2, o3⟩ := al17
  have K := fun w => kS_cl 2 (by decide) (by decide) 0 32256 32256 (by decide) (by decide) (by decide) o3 w
  rw [e2] at K
  exact r17alive0 (box (fun w hT => kS_Copy 2 (by decide) 0 15360 15360 0 32768 32768 (by decide) (by decide) (by decide) (by decide) (by decide) (by decide) o1 o2 0 48128 (by rw [e1]; decide) w hT)) (box K) w hT
theorem words_fin (f : Int) (h0 : 0 ≤ f) (h1 : f ≤ 255) (x1 y1 a : Nat) (hx1 : x1 < 18446744073709551616) (hy1 : y1 < 18446744073709551616) (ha : y1 + 18446744073709551616 * x1 = a) (x : Nat) (hx : x < 18446744073709551616) (w : World) (hT : FAt w) : Calls Tryd.prog 4 #[.int .u8 f, .agg #[.int .u64 (x1 : Nat), .int .u64 (y1 : Nat)], .int .u64 (x : Nat)] w fun r w' => r = .returned (.bool true) ∧ Below w.heap.size w w' :=
  words_all f h0 x1 y1 a hx1 hy1 ha x hx
    (fun oa => box (fun w hT => kS_cl f h0 h1 x1 y1 a hx1 hy1 ha oa w hT)) (fun oa => box (fun w hT => kS_cl_no f h0 h1 x1 y1 a hx1 hy1 ha oa w hT))
    (fun oa h3 => box (fun w hT => kS_tw f h0 h1 x1 y1 a hx1 hy1 ha oa h3 w hT)) (fun no => box (fun w hT => kS_tw_no f h0 h1 x1 y1 a hx1 hy1 ha no w hT))
    (fun hf h3 => box (fun w hT => kS_ow f hf h3 x hx w hT)) (fun no => box (fun w hT => kS_ow_no f h0 h1 no x w hT))
    (box (fun w hT => r17alive w hT)) w hT
end Go.Proofs.YtaengojkjfgppaaDoor
namespace Go.Proofs.YtaengojkjfgppaaDoor
set_option maxRecDepth 100000
set_option maxHeartbeats 40000000
set_option maxRecDepth 100000
open WMath
open Go.ChangeShapes Go.WideShapes Go.ChangeAt Go.RowKit
theorem trod_row4 {H : Type} {enc : TypeId × Value → H} {P : Program} {w : World} {base : Nat} {spare : Nat → Bool} {held : Bool} {t : TypeId} {f0 f1 f2 f3 : Field} {fuel : Nat} {cs : List Value} {x : DataW H × List MemPlace} (ht : P.underlying t = some (.struct #[f0, f1, f2, f3])) (h : DataW.trod enc P w base spare held fuel t cs = some x) :
    ∃ y0 y1 y2 y3 n, x = (.agg [y0.1, y1.1, y2.1, y3.1], y0.2 ++ (y1.2 ++ (y2.2 ++ y3.2))) ∧ DataW.trod enc P w base spare held n f0.type ((cs.drop f0.offset).take (P.cellsOf f0.type)) = some y0 ∧
      DataW.trod enc P w base spare held n f1.type ((cs.drop f1.offset).take (P.cellsOf f1.type)) = some y1 ∧ DataW.trod enc P w base spare held n f2.type ((cs.drop f2.offset).take (P.cellsOf f2.type)) = some y2 ∧
      DataW.trod enc P w base spare held n f3.type ((cs.drop f3.offset).take (P.cellsOf f3.type)) = some y3 := by
  obtain ⟨xs, n, _, rfl, hl, hlen, hf⟩ := DataW.trod_struct ht h
  match xs, hlen with
  | [y0, y1, y2, y3], _ => exact ⟨y0, y1, y2, y3, n, by simp, by simpa using hf 0 f0 rfl, by simpa using hf 1 f1 rfl, by simpa using hf 2 f2 rfl, by simpa using hf 3 f3 rfl⟩


theorem list4' {α : Type} (l : List α) (h : l.length = 4) : ∃ a b c d, l = [a, b, c, d] := by
  match l, h with
  | [a, b, c, d], _ => exact ⟨a, b, c, d, rfl⟩

theorem row_read {w : World} {fuel : Nat} {enc : TypeId × Value → Unit} {base : Nat} {spare : Nat → Bool} {held : Bool} {l : List Value} {a b c : Int} {s : List UInt8} {p : List MemPlace}
    (h : DataW.trod enc Tryd.prog w base spare held fuel 79 l = some (.agg [.lit (.int .i64 a), .lit (.int .i64 b), .lit (.int .i64 c), .lit (.string s)], p)) (hl : l.length = 4) :
    l = [.int .i64 a, .int .i64 b, .int .i64 c, .string ⟨⟨s⟩⟩] := by
  have h3 : Tryd.prog.cellsOf 3 = 1 := by kernel_rfl
  have h9 : Tryd.prog.cellsOf 9 = 1 := by kernel_rfl
  obtain ⟨c0, c1, c2, c3, rfl⟩ := list4' l hl
  obtain ⟨y0, y1, y2, y3, n, hx, g0, g1, g2, g3⟩ := trod_row4 Tryd.underlying79 h
  simp only [h3, h9] at g0 g1 g2 g3
  obtain ⟨x0, e0, k0, w0⟩ := DataW.trod_int Tryd.underlying3 g0
  obtain ⟨x1, e1, k1, w1⟩ := DataW.trod_int Tryd.underlying3 g1
  obtain ⟨x2, e2, k2, w2⟩ := DataW.trod_int Tryd.underlying3 g2
  obtain ⟨x3, e3, k3, w3⟩ := DataW.trod_string Tryd.underlying9 g3
  simp at e0 e1 e2 e3
  subst e0 e1 e2 e3
  rw [k0, k1, k2, k3] at hx
  simp at hx
  obtain ⟨⟨rfl, rfl, rfl, rfl⟩, _⟩ := hx
  rfl

def laid7 : List (String × DataW Unit) := [("abacus/shape.formats", Rows.laid_abacus_shape_formats)]
theorem gTab7 : Tryd.prog.globalNamed "abacus/shape.formats" = some 0 := by kernel_rfl
theorem gType7 : (Tryd.prog.globals[0]?).map (·.type) = some 87 := by kernel_rfl

theorem of_laid7 {W : World} (h : laidMetH Tryd.prog laid7 W) : FAt W := by
  have hce : Tryd.prog.cellsOf 79 = 4 := by kernel_rfl
  have hct : Tryd.prog.cellsOf 87 = 16 := by kernel_rfl
  rw [MakeChecks.laidMetH_plain _ _ _ (by kernel_rfl)] at h
  obtain ⟨ps, ⟨g', t', cs, fuel, p, q, hg', ht', hvar, hd, _, _⟩, _⟩ := h
  obtain rfl := Option.some.inj (gTab7.symm.trans hg')
  obtain rfl := Option.some.inj (gType7.symm.trans ht')
  obtain ⟨xs, m, rfl, hx, hl, hxl, hel⟩ := DataW.trod_array Tryd.underlying87 hd
  rw [hce] at hel
  rw [hct] at hl
  have hl2 : cs.size = 16 := by simpa using hl
  match xs, hxl with
  | [y0, y1, y2, y3], _ =>
    have hx1 := congrArg Prod.fst hx
    simp [Rows.laid_abacus_shape_formats] at hx1
    obtain ⟨h0, h1, h2, h3⟩ := hx1
    have q0 := hel 0 (by decide)
    have q1 := hel 1 (by decide)
    have q2 := hel 2 (by decide)
    have q3 := hel 3 (by decide)
    simp only [List.getElem?_cons_zero, List.getElem?_cons_succ] at q0 q1 q2 q3
    have z0 := row_read (p := y0.2) (by rw [q0, h0]) (by simp; omega)
    have z1 := row_read (p := y1.2) (by rw [q1, h1]) (by simp; omega)
    have z2 := row_read (p := y2.2) (by rw [q2, h2]) (by simp; omega)
    have z3 := row_read (p := y3.2) (by rw [q3, h3]) (by simp; omega)
    have hcs : ∀ i, i < 16 → cs.toList[i]? = fcells[i]? := by
      intro i hi
      have e0 : cs.toList[i]? = (cs.toList.drop (i / 4 * 4))[i % 4]? := by rw [List.getElem?_drop]; congr 1; omega
      have e1 : (cs.toList.drop (i / 4 * 4))[i % 4]? = ((cs.toList.drop (i / 4 * 4)).take 4)[i % 4]? := by rw [List.getElem?_take, if_pos (by omega)]
      rw [e0, e1]
      have : i / 4 = 0 ∨ i / 4 = 1 ∨ i / 4 = 2 ∨ i / 4 = 3 := by omega
      have hj : i % 4 = 0 ∨ i % 4 = 1 ∨ i % 4 = 2 ∨ i % 4 = 3 := by omega
      have hi2 : i = i / 4 * 4 + i % 4 := by omega
      rcases this with e | e | e | e <;> rw [e] at hi2 ⊢ <;> rcases hj with k | k | k | k <;> rw [k] at hi2 ⊢ <;> subst hi2 <;> first | (rw [z0]; rfl) | (rw [z1]; rfl) | (rw [z2]; rfl) | (rw [z3]; rfl)
    intro i hi
    rw [World.var?_cell gTab7 hvar i, ← hcs i hi]
    simp

theorem door_met7 (os : Os) (args : Array Value) : laidMetH Tryd.prog laid7 ((World.doorLaid Tryd.prog 400 os).forCall (fun _ _ => 0) ⟨#[], args, []⟩).memory :=
  laidMetH_of_parts3 (fuel := 8) (laidMet_of_run' 8 (by kernel_rfl) (by kernel_rfl)) (by kernel_rfl) (by kernel_rfl)
end Go.Proofs.YtaengojkjfgppaaDoor
