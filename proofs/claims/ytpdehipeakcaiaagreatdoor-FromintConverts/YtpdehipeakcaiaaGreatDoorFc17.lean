/-
  What the functions that the statement reaches return: part 17 (ND, NE, GX, SL).
-/
import Derived.Laws.EntriesVeiled
import Derived.Test.YtpdehipeakcaiaaGreatDoorRows
import Derived.OpenShut
import Derived.LaidMore
import Derived.Lib.LaidTab
import Derived.Stop.Joined
import Derived.Test.YtpdehipeakcaiaaGreatDoorFc16
namespace Go.Proofs.YtpdehipeakcaiaaGreatDoor
set_option maxRecDepth 100000
set_option maxHeartbeats 40000000
set_option maxRecDepth 100000
open Go.RowKit WMath
set_option linter.unusedSimpArgs false
set_option linter.unusedVariables false
theorem pf_low (x : Nat) (v : Int) (hv : ((x : Nat) : Int) % 4294967296 = v) (hw : IntKind.u64.wrap v = v) (w : World) : Calls Tryz.prog 43 #[.int .u64 (x : Nat)] w fun r w' => r = .returned (.int .u64 v) ∧ Below w.heap.size w w' := by
  have B0 : Below w.heap.size w w := (Below.refl _ _)
  go_enter Tryz.func43, Tryz.ntmps43
  go_wp2
  go_ret
  exact ⟨rfl, B0⟩
theorem pf_lowS (x : Nat) (v : Int) (hv : IntKind.u64.wrap (wrap32 ((x : Nat) : Int)) = v) (w : World) : Calls Tryz.prog 41 #[.int .u64 (x : Nat)] w fun r w' => r = .returned (.int .u64 v) ∧ Below w.heap.size w w' := by
  have B0 : Below w.heap.size w w := (Below.refl _ _)
  go_enter Tryz.func41, Tryz.ntmps41
  go_wp2
  go_ret
  exact ⟨rfl, B0⟩
theorem pf_whole (x : Nat) (w : World) : Calls Tryz.prog 45 #[.int .u64 (x : Nat)] w fun r w' => r = .returned (.int .u64 (x : Nat)) ∧ Below w.heap.size w w' := by
  have B0 : Below w.heap.size w w := (Below.refl _ _)
  go_enter Tryz.func45, Tryz.ntmps45
  go_wp2
  go_ret
  exact ⟨rfl, B0⟩
theorem pf_below (x : Nat) (o : Bool) (ho : decide (wrap64 ((x : Nat) : Int) < 0) = o) (w : World) : Calls Tryz.prog 42 #[.int .u64 (x : Nat)] w fun r w' => r = .returned (.bool o) ∧ Below w.heap.size w w' := by
  have B0 : Below w.heap.size w w := (Below.refl _ _)
  go_enter Tryz.func42, Tryz.ntmps42
  go_wp2
  go_ret
  exact ⟨rfl, B0⟩
theorem pf_never (x : Nat) (w : World) : Calls Tryz.prog 44 #[.int .u64 (x : Nat)] w fun r w' => r = .returned (.bool false) ∧ Below w.heap.size w w' := by
  have B0 : Below w.heap.size w w := (Below.refl _ _)
  go_enter Tryz.func44, Tryz.ntmps44
  go_wp2
  go_ret
  exact ⟨rfl, B0⟩
theorem pf_turned (x : Nat) (y v : Int) (hy : bits BinOp.xor IntKind.u64 IntKind.u64.max ((x : Nat) : Int) = y) (hv : IntKind.u64.wrap (y + 1) = v) (w : World) : Calls Tryz.prog 17 #[.int .u64 (x : Nat)] w fun r w' => r = .returned (.int .u64 v) ∧ Below w.heap.size w w' := by
  have B0 : Below w.heap.size w w := (Below.refl _ _)
  go_enter Tryz.func17, Tryz.ntmps17
  go_wp2
  go_ret
  exact ⟨rfl, B0⟩
set_option maxRecDepth 100000 in
set_option maxHeartbeats 8000000 in
theorem pf_readings (w : World) : Calls Tryz.prog 16 #[] w fun r w' => r = .returned (.agg #[.func (.func 41) #[] #[], .func (.func 42) #[] #[], .func (.func 43) #[] #[], .func (.func 44) #[] #[], .func (.func 45) #[] #[], .func (.func 42) #[] #[], .func (.func 45) #[] #[], .func (.func 44) #[] #[]]) ∧ Below w.heap.size w w' := by
  have hmf : ∀ (fn : Fn) (first cap : Array Value) (w : World), (Instr.makeFunc fn first cap).run Tryz.prog w = .ok (.func fn first cap) w := fun _ _ _ _ => rfl
  obtain ⟨Rz_0, B0⟩ := opn1 w (Obj.cells #[.nilFunc, .nilFunc, .nilFunc, .nilFunc, .nilFunc, .nilFunc, .nilFunc, .nilFunc] 59)
  go_enter Tryz.func16, Tryz.ntmps16
  clear B0 Rz_0
  go_wp2
  exact bodyPost_ret (v := .agg #[.func (.func 41) #[] #[], .func (.func 42) #[] #[], .func (.func 43) #[] #[], .func (.func 44) #[] #[], .func (.func 45) #[] #[], .func (.func 42) #[] #[], .func (.func 45) #[] #[], .func (.func 44) #[] #[]]) (by simp [results, Tryz.results16, go_sem]) rfl ⟨rfl, bal w _⟩
set_option maxRecDepth 100000 in
set_option maxHeartbeats 8000000 in
theorem pf_nu_0t (x y N : Nat) (w : World) (KR : Box (∀ w, Calls Tryz.prog 16 #[] w fun r w' => r = .returned (.agg #[.func (.func 41) #[] #[], .func (.func 42) #[] #[], .func (.func 43) #[] #[], .func (.func 44) #[] #[], .func (.func 45) #[] #[], .func (.func 42) #[] #[], .func (.func 45) #[] #[], .func (.func 44) #[] #[]]) ∧ Below w.heap.size w w')) (KW : Box (∀ w, Calls Tryz.prog 41 #[.int .u64 (x : Nat)] w fun r w' => r = .returned (.int .u64 (y : Nat)) ∧ Below w.heap.size w w')) (KB : Box (∀ w, Calls Tryz.prog 42 #[.int .u64 (y : Nat)] w fun r w' => r = .returned (.bool true) ∧ Below w.heap.size w w')) (KT : Box (∀ w, Calls Tryz.prog 17 #[.int .u64 (y : Nat)] w fun r w' => r = .returned (.int .u64 (N : Nat)) ∧ Below w.heap.size w w')) : Calls Tryz.prog 6 #[.int .u8 0, .int .u64 (x : Nat)] w fun r w' => r = .returned (.tuple #[.bool true, .int .u64 (N : Nat), .int .i64 0]) ∧ Below w.heap.size w w' := by
  have B0 : Below w.heap.size w w := (Below.refl _ _)
  go_enter Tryz.func6, Tryz.ntmps6
  go_wp2_with fail
  refine (KR.out _).mono ?_
  rintro r w1 ⟨rfl, b1⟩
  have B1 : Below w.heap.size w w1 := btr B0 b1
  clear b1 B0 
  have S2 := box B1.size
  have Rl_2 := heap_alloc_last w1 (Obj.cells #[.func (.func 41) #[] #[], .func (.func 42) #[] #[], .func (.func 43) #[] #[], .func (.func 44) #[] #[], .func (.func 45) #[] #[], .func (.func 42) #[] #[], .func (.func 45) #[] #[], .func (.func 44) #[] #[]] 59)
  have B2 := btr B1 (bal w1 (Obj.cells #[.func (.func 41) #[] #[], .func (.func 42) #[] #[], .func (.func 43) #[] #[], .func (.func 44) #[] #[], .func (.func 45) #[] #[], .func (.func 42) #[] #[], .func (.func 45) #[] #[], .func (.func 44) #[] #[]] 59))
  clear B1 
  have d0 := cells4 Rl_2 0 _ rfl
  have d1 := cells4 Rl_2 1 _ rfl
  go_wp2_with fail
  refine (KW.out _).mono ?_
  rintro r w3 ⟨rfl, b3⟩
  have B3 : Below w.heap.size w w3 := btr B2 b3
  have Rl_3 := heap_of b3 _ _ _ Rl_2
  clear b3 B2 Rl_2
  have d0 := cells4 Rl_3 0 _ rfl
  have d1 := cells4 Rl_3 1 _ rfl
  go_wp2_with fail
  refine (KB.out _).mono ?_
  rintro r w4 ⟨rfl, b4⟩
  have B4 : Below w.heap.size w w4 := btr B3 b4
  have Rl_4 := heap_of b4 _ _ _ Rl_3
  clear b4 B3 Rl_3
  go_wp2_with fail
  refine (KT.out _).mono ?_
  rintro r w5 ⟨rfl, b5⟩
  have B5 : Below w.heap.size w w5 := btr B4 b5
  have Rl_5 := heap_of b5 _ _ _ Rl_4
  clear b5 B4 Rl_4
  go_wp2
  go_ret3
  exact ⟨rfl, B5⟩
set_option maxRecDepth 100000 in
set_option maxHeartbeats 8000000 in
theorem pf_nu_0f (x y N : Nat) (w : World) (KR : Box (∀ w, Calls Tryz.prog 16 #[] w fun r w' => r = .returned (.agg #[.func (.func 41) #[] #[], .func (.func 42) #[] #[], .func (.func 43) #[] #[], .func (.func 44) #[] #[], .func (.func 45) #[] #[], .func (.func 42) #[] #[], .func (.func 45) #[] #[], .func (.func 44) #[] #[]]) ∧ Below w.heap.size w w')) (KW : Box (∀ w, Calls Tryz.prog 41 #[.int .u64 (x : Nat)] w fun r w' => r = .returned (.int .u64 (y : Nat)) ∧ Below w.heap.size w w')) (KB : Box (∀ w, Calls Tryz.prog 42 #[.int .u64 (y : Nat)] w fun r w' => r = .returned (.bool false) ∧ Below w.heap.size w w')) : Calls Tryz.prog 6 #[.int .u8 0, .int .u64 (x : Nat)] w fun r w' => r = .returned (.tuple #[.bool false, .int .u64 (y : Nat), .int .i64 0]) ∧ Below w.heap.size w w' := by
  have B0 : Below w.heap.size w w := (Below.refl _ _)
  go_enter Tryz.func6, Tryz.ntmps6
  go_wp2_with fail
  refine (KR.out _).mono ?_
  rintro r w1 ⟨rfl, b1⟩
  have B1 : Below w.heap.size w w1 := btr B0 b1
  clear b1 B0 
  have S2 := box B1.size
  have Rl_2 := heap_alloc_last w1 (Obj.cells #[.func (.func 41) #[] #[], .func (.func 42) #[] #[], .func (.func 43) #[] #[], .func (.func 44) #[] #[], .func (.func 45) #[] #[], .func (.func 42) #[] #[], .func (.func 45) #[] #[], .func (.func 44) #[] #[]] 59)
  have B2 := btr B1 (bal w1 (Obj.cells #[.func (.func 41) #[] #[], .func (.func 42) #[] #[], .func (.func 43) #[] #[], .func (.func 44) #[] #[], .func (.func 45) #[] #[], .func (.func 42) #[] #[], .func (.func 45) #[] #[], .func (.func 44) #[] #[]] 59))
  clear B1 
  have d0 := cells4 Rl_2 0 _ rfl
  have d1 := cells4 Rl_2 1 _ rfl
  go_wp2_with fail
  refine (KW.out _).mono ?_
  rintro r w3 ⟨rfl, b3⟩
  have B3 : Below w.heap.size w w3 := btr B2 b3
  have Rl_3 := heap_of b3 _ _ _ Rl_2
  clear b3 B2 Rl_2
  have d0 := cells4 Rl_3 0 _ rfl
  have d1 := cells4 Rl_3 1 _ rfl
  go_wp2_with fail
  refine (KB.out _).mono ?_
  rintro r w4 ⟨rfl, b4⟩
  have B4 : Below w.heap.size w w4 := btr B3 b4
  have Rl_4 := heap_of b4 _ _ _ Rl_3
  clear b4 B3 Rl_3
  go_wp2
  go_ret3
  exact ⟨rfl, B4⟩
set_option maxRecDepth 100000 in
set_option maxHeartbeats 8000000 in
theorem pf_nu_1f (x y N : Nat) (w : World) (KR : Box (∀ w, Calls Tryz.prog 16 #[] w fun r w' => r = .returned (.agg #[.func (.func 41) #[] #[], .func (.func 42) #[] #[], .func (.func 43) #[] #[], .func (.func 44) #[] #[], .func (.func 45) #[] #[], .func (.func 42) #[] #[], .func (.func 45) #[] #[], .func (.func 44) #[] #[]]) ∧ Below w.heap.size w w')) (KW : Box (∀ w, Calls Tryz.prog 43 #[.int .u64 (x : Nat)] w fun r w' => r = .returned (.int .u64 (y : Nat)) ∧ Below w.heap.size w w')) (KB : Box (∀ w, Calls Tryz.prog 44 #[.int .u64 (y : Nat)] w fun r w' => r = .returned (.bool false) ∧ Below w.heap.size w w')) : Calls Tryz.prog 6 #[.int .u8 1, .int .u64 (x : Nat)] w fun r w' => r = .returned (.tuple #[.bool false, .int .u64 (y : Nat), .int .i64 0]) ∧ Below w.heap.size w w' := by
  have B0 : Below w.heap.size w w := (Below.refl _ _)
  go_enter Tryz.func6, Tryz.ntmps6
  go_wp2_with fail
  refine (KR.out _).mono ?_
  rintro r w1 ⟨rfl, b1⟩
  have B1 : Below w.heap.size w w1 := btr B0 b1
  clear b1 B0 
  have S2 := box B1.size
  have Rl_2 := heap_alloc_last w1 (Obj.cells #[.func (.func 41) #[] #[], .func (.func 42) #[] #[], .func (.func 43) #[] #[], .func (.func 44) #[] #[], .func (.func 45) #[] #[], .func (.func 42) #[] #[], .func (.func 45) #[] #[], .func (.func 44) #[] #[]] 59)
  have B2 := btr B1 (bal w1 (Obj.cells #[.func (.func 41) #[] #[], .func (.func 42) #[] #[], .func (.func 43) #[] #[], .func (.func 44) #[] #[], .func (.func 45) #[] #[], .func (.func 42) #[] #[], .func (.func 45) #[] #[], .func (.func 44) #[] #[]] 59))
  clear B1 
  have d0 := cells4 Rl_2 2 _ rfl
  have d1 := cells4 Rl_2 3 _ rfl
  go_wp2_with fail
  refine (KW.out _).mono ?_
  rintro r w3 ⟨rfl, b3⟩
  have B3 : Below w.heap.size w w3 := btr B2 b3
  have Rl_3 := heap_of b3 _ _ _ Rl_2
  clear b3 B2 Rl_2
  have d0 := cells4 Rl_3 2 _ rfl
  have d1 := cells4 Rl_3 3 _ rfl
  go_wp2_with fail
  refine (KB.out _).mono ?_
  rintro r w4 ⟨rfl, b4⟩
  have B4 : Below w.heap.size w w4 := btr B3 b4
  have Rl_4 := heap_of b4 _ _ _ Rl_3
  clear b4 B3 Rl_3
  go_wp2
  go_ret3
  exact ⟨rfl, B4⟩
set_option maxRecDepth 100000 in
set_option maxHeartbeats 8000000 in
theorem pf_nu_2t (x y N : Nat) (w : World) (KR : Box (∀ w, Calls Tryz.prog 16 #[] w fun r w' => r = .returned (.agg #[.func (.func 41) #[] #[], .func (.func 42) #[] #[], .func (.func 43) #[] #[], .func (.func 44) #[] #[], .func (.func 45) #[] #[], .func (.func 42) #[] #[], .func (.func 45) #[] #[], .func (.func 44) #[] #[]]) ∧ Below w.heap.size w w')) (KW : Box (∀ w, Calls Tryz.prog 45 #[.int .u64 (x : Nat)] w fun r w' => r = .returned (.int .u64 (y : Nat)) ∧ Below w.heap.size w w')) (KB : Box (∀ w, Calls Tryz.prog 42 #[.int .u64 (y : Nat)] w fun r w' => r = .returned (.bool true) ∧ Below w.heap.size w w')) (KT : Box (∀ w, Calls Tryz.prog 17 #[.int .u64 (y : Nat)] w fun r w' => r = .returned (.int .u64 (N : Nat)) ∧ Below w.heap.size w w')) : Calls Tryz.prog 6 #[.int .u8 2, .int .u64 (x : Nat)] w fun r w' => r = .returned (.tuple #[.bool true, .int .u64 (N : Nat), .int .i64 0]) ∧ Below w.heap.size w w' := by
  have B0 : Below w.heap.size w w := (Below.refl _ _)
  go_enter Tryz.func6, Tryz.ntmps6
  go_wp2_with fail
  refine (KR.out _).mono ?_
  rintro r w1 ⟨rfl, b1⟩
  have B1 : Below w.heap.size w w1 := btr B0 b1
  clear b1 B0 
  have S2 := box B1.size
  have Rl_2 := heap_alloc_last w1 (Obj.cells #[.func (.func 41) #[] #[], .func (.func 42) #[] #[], .func (.func 43) #[] #[], .func (.func 44) #[] #[], .func (.func 45) #[] #[], .func (.func 42) #[] #[], .func (.func 45) #[] #[], .func (.func 44) #[] #[]] 59)
  have B2 := btr B1 (bal w1 (Obj.cells #[.func (.func 41) #[] #[], .func (.func 42) #[] #[], .func (.func 43) #[] #[], .func (.func 44) #[] #[], .func (.func 45) #[] #[], .func (.func 42) #[] #[], .func (.func 45) #[] #[], .func (.func 44) #[] #[]] 59))
  clear B1 
  have d0 := cells4 Rl_2 4 _ rfl
  have d1 := cells4 Rl_2 5 _ rfl
  go_wp2_with fail
  refine (KW.out _).mono ?_
  rintro r w3 ⟨rfl, b3⟩
  have B3 : Below w.heap.size w w3 := btr B2 b3
  have Rl_3 := heap_of b3 _ _ _ Rl_2
  clear b3 B2 Rl_2
  have d0 := cells4 Rl_3 4 _ rfl
  have d1 := cells4 Rl_3 5 _ rfl
  go_wp2_with fail
  refine (KB.out _).mono ?_
  rintro r w4 ⟨rfl, b4⟩
  have B4 : Below w.heap.size w w4 := btr B3 b4
  have Rl_4 := heap_of b4 _ _ _ Rl_3
  clear b4 B3 Rl_3
  go_wp2_with fail
  refine (KT.out _).mono ?_
  rintro r w5 ⟨rfl, b5⟩
  have B5 : Below w.heap.size w w5 := btr B4 b5
  have Rl_5 := heap_of b5 _ _ _ Rl_4
  clear b5 B4 Rl_4
  go_wp2
  go_ret3
  exact ⟨rfl, B5⟩
set_option maxRecDepth 100000 in
set_option maxHeartbeats 8000000 in
theorem pf_nu_2f (x y N : Nat) (w : World) (KR : Box (∀ w, Calls Tryz.prog 16 #[] w fun r w' => r = .returned (.agg #[.func (.func 41) #[] #[], .func (.func 42) #[] #[], .func (.func 43) #[] #[], .func (.func 44) #[] #[], .func (.func 45) #[] #[], .func (.func 42) #[] #[], .func (.func 45) #[] #[], .func (.func 44) #[] #[]]) ∧ Below w.heap.size w w')) (KW : Box (∀ w, Calls Tryz.prog 45 #[.int .u64 (x : Nat)] w fun r w' => r = .returned (.int .u64 (y : Nat)) ∧ Below w.heap.size w w')) (KB : Box (∀ w, Calls Tryz.prog 42 #[.int .u64 (y : Nat)] w fun r w' => r = .returned (.bool false) ∧ Below w.heap.size w w')) : Calls Tryz.prog 6 #[.int .u8 2, .int .u64 (x : Nat)] w fun r w' => r = .returned (.tuple #[.bool false, .int .u64 (y : Nat), .int .i64 0]) ∧ Below w.heap.size w w' := by
  have B0 : Below w.heap.size w w := (Below.refl _ _)
  go_enter Tryz.func6, Tryz.ntmps6
  go_wp2_with fail
  refine (KR.out _).mono ?_
  rintro r w1 ⟨rfl, b1⟩
  have B1 : Below w.heap.size w w1 := btr B0 b1
  clear b1 B0 
  have S2 := box B1.size
  have Rl_2 := heap_alloc_last w1 (Obj.cells #[.func (.func 41) #[] #[], .func (.func 42) #[] #[], .func (.func 43) #[] #[], .func (.func 44) #[] #[], .func (.func 45) #[] #[], .func (.func 42) #[] #[], .func (.func 45) #[] #[], .func (.func 44) #[] #[]] 59)
  have B2 := btr B1 (bal w1 (Obj.cells #[.func (.func 41) #[] #[], .func (.func 42) #[] #[], .func (.func 43) #[] #[], .func (.func 44) #[] #[], .func (.func 45) #[] #[], .func (.func 42) #[] #[], .func (.func 45) #[] #[], .func (.func 44) #[] #[]] 59))
  clear B1 
  have d0 := cells4 Rl_2 4 _ rfl
  have d1 := cells4 Rl_2 5 _ rfl
  go_wp2_with fail
  refine (KW.out _).mono ?_
  rintro r w3 ⟨rfl, b3⟩
  have B3 : Below w.heap.size w w3 := btr B2 b3
  have Rl_3 := heap_of b3 _ _ _ Rl_2
  clear b3 B2 Rl_2
  have d0 := cells4 Rl_3 4 _ rfl
  have d1 := cells4 Rl_3 5 _ rfl
  go_wp2_with fail
  refine (KB.out _).mono ?_
  rintro r w4 ⟨rfl, b4⟩
  have B4 : Below w.heap.size w w4 := btr B3 b4
  have Rl_4 := heap_of b4 _ _ _ Rl_3
  clear b4 B3 Rl_3
  go_wp2
  go_ret3
  exact ⟨rfl, B4⟩
set_option maxRecDepth 100000 in
set_option maxHeartbeats 8000000 in
theorem pf_nu_3f (x y N : Nat) (w : World) (KR : Box (∀ w, Calls Tryz.prog 16 #[] w fun r w' => r = .returned (.agg #[.func (.func 41) #[] #[], .func (.func 42) #[] #[], .func (.func 43) #[] #[], .func (.func 44) #[] #[], .func (.func 45) #[] #[], .func (.func 42) #[] #[], .func (.func 45) #[] #[], .func (.func 44) #[] #[]]) ∧ Below w.heap.size w w')) (KW : Box (∀ w, Calls Tryz.prog 45 #[.int .u64 (x : Nat)] w fun r w' => r = .returned (.int .u64 (y : Nat)) ∧ Below w.heap.size w w')) (KB : Box (∀ w, Calls Tryz.prog 44 #[.int .u64 (y : Nat)] w fun r w' => r = .returned (.bool false) ∧ Below w.heap.size w w')) : Calls Tryz.prog 6 #[.int .u8 3, .int .u64 (x : Nat)] w fun r w' => r = .returned (.tuple #[.bool false, .int .u64 (y : Nat), .int .i64 0]) ∧ Below w.heap.size w w' := by
  have B0 : Below w.heap.size w w := (Below.refl _ _)
  go_enter Tryz.func6, Tryz.ntmps6
  go_wp2_with fail
  refine (KR.out _).mono ?_
  rintro r w1 ⟨rfl, b1⟩
  have B1 : Below w.heap.size w w1 := btr B0 b1
  clear b1 B0 
  have S2 := box B1.size
  have Rl_2 := heap_alloc_last w1 (Obj.cells #[.func (.func 41) #[] #[], .func (.func 42) #[] #[], .func (.func 43) #[] #[], .func (.func 44) #[] #[], .func (.func 45) #[] #[], .func (.func 42) #[] #[], .func (.func 45) #[] #[], .func (.func 44) #[] #[]] 59)
  have B2 := btr B1 (bal w1 (Obj.cells #[.func (.func 41) #[] #[], .func (.func 42) #[] #[], .func (.func 43) #[] #[], .func (.func 44) #[] #[], .func (.func 45) #[] #[], .func (.func 42) #[] #[], .func (.func 45) #[] #[], .func (.func 44) #[] #[]] 59))
  clear B1 
  have d0 := cells4 Rl_2 6 _ rfl
  have d1 := cells4 Rl_2 7 _ rfl
  go_wp2_with fail
  refine (KW.out _).mono ?_
  rintro r w3 ⟨rfl, b3⟩
  have B3 : Below w.heap.size w w3 := btr B2 b3
  have Rl_3 := heap_of b3 _ _ _ Rl_2
  clear b3 B2 Rl_2
  have d0 := cells4 Rl_3 6 _ rfl
  have d1 := cells4 Rl_3 7 _ rfl
  go_wp2_with fail
  refine (KB.out _).mono ?_
  rintro r w4 ⟨rfl, b4⟩
  have B4 : Below w.heap.size w w4 := btr B3 b4
  have Rl_4 := heap_of b4 _ _ _ Rl_3
  clear b4 B3 Rl_3
  go_wp2
  go_ret3
  exact ⟨rfl, B4⟩
set_option maxRecDepth 100000 in
set_option maxHeartbeats 8000000 in
theorem pf_nu_no (k : Int) (hk : IntKind.i64.wrap k = k) (x : Nat) (ho : decide (4 ≤ k) = true) (w : World) (KR : Box (∀ w, Calls Tryz.prog 16 #[] w fun r w' => r = .returned (.agg #[.func (.func 41) #[] #[], .func (.func 42) #[] #[], .func (.func 43) #[] #[], .func (.func 44) #[] #[], .func (.func 45) #[] #[], .func (.func 42) #[] #[], .func (.func 45) #[] #[], .func (.func 44) #[] #[]]) ∧ Below w.heap.size w w')) : Calls Tryz.prog 6 #[.int .u8 k, .int .u64 (x : Nat)] w fun r w' => r = .returned (.tuple #[.bool false, .int .u64 0, .int .i64 2]) ∧ Below w.heap.size w w' := by
  have B0 : Below w.heap.size w w := (Below.refl _ _)
  go_enter Tryz.func6, Tryz.ntmps6
  go_wp2_with fail
  refine (KR.out _).mono ?_
  rintro r w1 ⟨rfl, b1⟩
  have B1 : Below w.heap.size w w1 := btr B0 b1
  clear b1 B0 
  have S2 := box B1.size
  have Rl_2 := heap_alloc_last w1 (Obj.cells #[.func (.func 41) #[] #[], .func (.func 42) #[] #[], .func (.func 43) #[] #[], .func (.func 44) #[] #[], .func (.func 45) #[] #[], .func (.func 42) #[] #[], .func (.func 45) #[] #[], .func (.func 44) #[] #[]] 59)
  have B2 := btr B1 (bal w1 (Obj.cells #[.func (.func 41) #[] #[], .func (.func 42) #[] #[], .func (.func 43) #[] #[], .func (.func 44) #[] #[], .func (.func 45) #[] #[], .func (.func 42) #[] #[], .func (.func 45) #[] #[], .func (.func 44) #[] #[]] 59))
  clear B1 
  go_wp2
  go_ret3
  exact ⟨rfl, B2⟩
set_option maxRecDepth 100000 in
set_option maxHeartbeats 8000000 in
theorem pf_cv_no (f k m : Int) (x : Nat) (w : World) (KN : Box (∀ w, Calls Tryz.prog 6 #[.int .u8 k, .int .u64 (x : Nat)] w fun r w' => r = .returned (.tuple #[.bool false, .int .u64 0, .int .i64 2]) ∧ Below w.heap.size w w')) : Calls Tryz.prog 4 #[.int .u8 f, .int .u8 k, .int .u8 m, .int .u64 (x : Nat)] w fun r w' => r = .returned (.tuple #[.agg #[.int .u64 0, .int .u64 0], .int .u8 0, .int .i64 2]) ∧ Below w.heap.size w w' := by
  obtain ⟨Rz_0, B0⟩ := opn1 w (Obj.cells #[.int .u64 0, .int .u64 0] 27)
  go_enter Tryz.func4, Tryz.ntmps4
  go_wp2_with fail
  refine (KN.out _).mono ?_
  rintro r w1 ⟨rfl, b1⟩
  have B1 : Below w.heap.size w w1 := btr B0 b1
  have Rz_1 := heap_of b1 _ _ _ Rz_0
  clear b1 B0 Rz_0
  obtain ⟨cz_1_0, cz_1_1⟩ := cells2s Rz_1
  have q0 := fz (k := 0) Rz_1
  have q1 := fz (k := 1) Rz_1
  obtain ⟨E0, E1⟩ := set2_cells Rz_1 (.int .u64 0) (.int .u64 0)
  go_wp2
  exact bodyPost_ret (v := .tuple #[.agg #[.int .u64 0, .int .u64 0], .int .u8 0, .int .i64 2]) (by simp [results, Tryz.results4, go_sem, E0, E1]) rfl ⟨rfl, set2_below B1 (by first | exact Nat.le_refl _ | omega | (skip; omega)) _ _⟩
set_option maxRecDepth 100000 in
set_option maxHeartbeats 8000000 in
theorem pf_cv (f k m : Int) (x N u v : Nat) (neg : Bool) (fl e : Int) (w : World) (KN : Box (∀ w, Calls Tryz.prog 6 #[.int .u8 k, .int .u64 (x : Nat)] w fun r w' => r = .returned (.tuple #[.bool neg, .int .u64 (N : Nat), .int .i64 0]) ∧ Below w.heap.size w w')) (KO : Box (∀ w, Calls Tryz.prog 10 #[.int .u64 (N : Nat)] w fun r w' => r = .returned (.agg (cw 6 N)) ∧ Below w.heap.size w w')) (KP : Box (∀ w, FAt w → Calls Tryz.prog 9 #[.int .u8 f, .int .u8 m, .agg (rg neg N 0 false)] w fun r w' => r = .returned (.tuple #[.agg #[.int .u64 (u : Nat), .int .u64 (v : Nat)], .int .u8 fl, .int .i64 e]) ∧ Below w.heap.size w w')) (hT : FAt w) : Calls Tryz.prog 4 #[.int .u8 f, .int .u8 k, .int .u8 m, .int .u64 (x : Nat)] w fun r w' => r = .returned (.tuple #[.agg #[.int .u64 (u : Nat), .int .u64 (v : Nat)], .int .u8 fl, .int .i64 e]) ∧ Below w.heap.size w w' := by
  have FF := box hT
  clear hT
  have hat := cw_at 6
  have hz := cw6z
  have hff := cw6f
  have hs0 := st0
  have hcs : ∀ x, ((cw 6 x).size = 6) = True := fun x => eq_true (cw_size 6 x)
  have hp1 := rgf
  have hp3 := rgz
  have hzi := cw_zip
  have hls := rg_sets
  have hp5 : ∀ (c : Bool) (s : Nat) (x : Int) (r : Bool), ((rg c s x r).size = 9) = True := fun _ _ _ _ => eq_true rfl
  obtain ⟨Rz_0, B0⟩ := opn1 w (Obj.cells #[.int .u64 0, .int .u64 0] 27)
  go_enter Tryz.func4, Tryz.ntmps4
  go_wp2_with fail
  refine (KN.out _).mono ?_
  rintro r w1 ⟨rfl, b1⟩
  have B1 : Below w.heap.size w w1 := btr B0 b1
  have Rz_1 := heap_of b1 _ _ _ Rz_0
  clear b1 B0 Rz_0
  go_wp2_with fail
  refine (KO.out _).mono ?_
  rintro r w2 ⟨rfl, b2⟩
  have B2 : Below w.heap.size w w2 := btr B1 b2
  have Rz_2 := heap_of b2 _ _ _ Rz_1
  clear b2 B1 Rz_1
  go_wp2_with fail
  refine (KP.out _ (fatB FF.out B2)).mono ?_
  rintro r w3 ⟨rfl, b3⟩
  have B3 : Below w.heap.size w w3 := btr B2 b3
  have Rz_3 := heap_of b3 _ _ _ Rz_2
  clear b3 B2 Rz_2
  obtain ⟨cz_3_0, cz_3_1⟩ := cells2s Rz_3
  have q0 := fz (k := 0) Rz_3
  have q1 := fz (k := 1) Rz_3
  obtain ⟨E0, E1⟩ := set2_cells Rz_3 (.int .u64 (u : Nat)) (.int .u64 (v : Nat))
  go_wp2
  exact bodyPost_ret (v := .tuple #[.agg #[.int .u64 (u : Nat), .int .u64 (v : Nat)], .int .u8 fl, .int .i64 e]) (by simp [results, Tryz.results4, go_sem, E0, E1]) rfl ⟨rfl, set2_below B3 (by first | exact Nat.le_refl _ | omega | (skip; omega)) _ _⟩
end Go.Proofs.YtpdehipeakcaiaaGreatDoor
namespace Go.Proofs.YtpdehipeakcaiaaGreatDoor
set_option maxRecDepth 100000
set_option maxHeartbeats 40000000
set_option maxRecDepth 100000
open Go.RowKit WMath XMath
set_option linter.unusedSimpArgs false
set_option linter.unusedVariables false
theorem klow_s (x : Nat) : IntKind.u64.wrap (wrap32 ((x : Nat) : Int)) = ((sx x 32 : Nat) : Int) := by
  rw [sx_is, show ∀ y : Int, IntKind.u64.wrap y = y % 18446744073709551616 from fun _ => rfl]
  unfold wrap32
  split <;> omega
theorem kbelow (x : Nat) (hx : x < 18446744073709551616) (o : Bool) (ho : decide (9223372036854775808 ≤ x) = o) (w : World) : Calls Tryz.prog 42 #[.int .u64 (x : Nat)] w fun r w' => r = .returned (.bool o) ∧ Below w.heap.size w w' := by
  refine pf_below x o ?_ w
  rw [← ho]
  unfold wrap64
  exact decide_eq_decide.2 (by omega)
theorem kturned (x : Nat) (hx : x < 18446744073709551616) (h : 9223372036854775808 ≤ x) (w : World) : Calls Tryz.prog 17 #[.int .u64 (x : Nat)] w fun r w' => r = .returned (.int .u64 ((18446744073709551616 - x : Nat) : Int)) ∧ Below w.heap.size w w' := by
  refine pf_turned x _ _ (not_num64 x hx) ?_ w
  rw [show ∀ y : Int, IntKind.u64.wrap y = y % 18446744073709551616 from fun _ => rfl]
  omega
theorem kNu_is (k : Int) (k0 : 0 ≤ k) (k3 : k ≤ 3) (x : Nat) (hx : x < 18446744073709551616) (neg : Bool) (N : Nat) (h : nuX k x = (neg, N)) (w : World) : Calls Tryz.prog 6 #[.int .u8 k, .int .u64 (x : Nat)] w fun r w' => r = .returned (.tuple #[.bool neg, .int .u64 (N : Nat), .int .i64 0]) ∧ Below w.heap.size w w' := by
  have KR := box (fun w => pf_readings w)
  have sl : sx x 32 < 18446744073709551616 := by have := sx_is x; split at this <;> omega
  have KW := box (fun w => pf_whole x w)
  rcases (by omega : k = 0 ∨ k = 1 ∨ k = 2 ∨ k = 3) with rfl | rfl | rfl | rfl
  · have e : nuX 0 x = if 9223372036854775808 ≤ sx x 32 then (true, 18446744073709551616 - sx x 32) else (false, sx x 32) := rfl
    rw [e] at h
    have KL := box (fun w => pf_lowS x _ (klow_s x) w)
    by_cases c : 9223372036854775808 ≤ sx x 32
    · rw [if_pos c] at h
      cases h
      exact pf_nu_0t x _ _ w KR KL (box (fun w => kbelow _ sl true (decide_eq_true c) w)) (box (fun w => kturned _ sl c w))
    · rw [if_neg c] at h
      cases h
      exact pf_nu_0f x _ 0 w KR KL (box (fun w => kbelow _ sl false (decide_eq_false c) w))
  · have e : nuX 1 x = (false, x % 4294967296) := rfl
    rw [e] at h
    cases h
    exact pf_nu_1f x _ 0 w KR (box (fun w => pf_low x ((x % 4294967296 : Nat) : Int) (by omega) (by rw [show ∀ y : Int, IntKind.u64.wrap y = y % 18446744073709551616 from fun _ => rfl]; omega) w)) (box (fun w => pf_never _ w))
  · have e : nuX 2 x = if 9223372036854775808 ≤ x then (true, 18446744073709551616 - x) else (false, x) := rfl
    rw [e] at h
    by_cases c : 9223372036854775808 ≤ x
    · rw [if_pos c] at h
      cases h
      exact pf_nu_2t x _ _ w KR KW (box (fun w => kbelow _ hx true (decide_eq_true c) w)) (box (fun w => kturned _ hx c w))
    · rw [if_neg c] at h
      cases h
      exact pf_nu_2f _ _ 0 w KR KW (box (fun w => kbelow _ hx false (decide_eq_false c) w))
  · have e : nuX 3 x = (false, x) := rfl
    rw [e] at h
    cases h
    exact pf_nu_3f _ _ 0 w KR KW (box (fun w => pf_never _ w))
theorem kNu_no (k : Int) (k0 : 0 ≤ k) (k1 : k ≤ 255) (no : ¬ k ≤ 3) (x : Nat) (w : World) : Calls Tryz.prog 6 #[.int .u8 k, .int .u64 (x : Nat)] w fun r w' => r = .returned (.tuple #[.bool false, .int .u64 0, .int .i64 2]) ∧ Below w.heap.size w w' :=
  pf_nu_no k (wrap_i64_is _ (by omega) (by omega)) x (decide_eq_true (by omega)) w (box (fun w => pf_readings w))
theorem kFi_no (f k m : Int) (h0 : 0 ≤ f) (h1 : f ≤ 255) (k0 : 0 ≤ k) (k1 : k ≤ 255) (x : Nat) (hx : x < 18446744073709551616) (no : ¬ (f ≤ 3 ∧ k ≤ 3 ∧ m ≤ 4)) (w : World) (hT : FAt w) : Calls Tryz.prog 4 #[.int .u8 f, .int .u8 k, .int .u8 m, .int .u64 (x : Nat)] w fun r w' => r = .returned (.tuple #[.agg #[.int .u64 ((0 : Nat) : Int), .int .u64 ((0 : Nat) : Int)], .int .u8 0, .int .i64 2]) ∧ Below w.heap.size w w' := by
  by_cases ck : k ≤ 3
  · obtain ⟨neg, N, hN⟩ : ∃ a b, nuX k x = (a, b) := ⟨_, _, rfl⟩
    obtain ⟨n1, _⟩ := nu_lim k x k0 ck hx
    rw [hN] at n1
    have hQ : N < Q := Nat.lt_trans n1 (by obtain ⟨Z, hZ, eQ⟩ := Qq384; rw [eQ, hZ]; decide +kernel)
    exact pf_cv f k m x N 0 0 neg 0 2 w (box (fun w => kNu_is k k0 ck x hx neg N hN w)) (box (fun w => wof_al N n1 w)) (box (fun w hT => kPack_no f m h0 h1 neg N hQ 0 false (fun q => no ⟨q.1, ck, q.2.1⟩) w hT)) hT
  · exact pf_cv_no f k m x w (box (fun w => kNu_no k k0 k1 ck x w))
theorem kFi_is (f k m : Int) (hf : Is4 f) (k0 : 0 ≤ k) (k3 : k ≤ 3) (m0 : 0 ≤ m) (m4 : m ≤ 4) (x : Nat) (hx : x < 18446744073709551616) (M : Nat) (fl : Int) (h : fiR f k m x = (M, fl)) (u v : Nat) (hv : bv7 M = (u, v)) (w : World) (hT : FAt w) : Calls Tryz.prog 4 #[.int .u8 f, .int .u8 k, .int .u8 m, .int .u64 (x : Nat)] w fun r w' => r = .returned (.tuple #[.agg #[.int .u64 (u : Nat), .int .u64 (v : Nat)], .int .u8 fl, .int .i64 0]) ∧ Below w.heap.size w w' := by
  obtain ⟨neg, N, hN⟩ : ∃ a b, nuX k x = (a, b) := ⟨_, _, rfl⟩
  obtain ⟨n1, n2, _⟩ := nu_lim k x k0 k3 hx
  rw [hN] at n1 n2
  unfold fiR at h
  rw [hN] at h
  dsimp only at h n1 n2
  have hQ : N < Q := Nat.lt_trans n1 (by obtain ⟨Z, hZ, eQ⟩ := Qq384; rw [eQ, hZ]; decide +kernel)
  refine pf_cv f k m x N u v neg fl 0 w (box (fun w => kNu_is k k0 k3 x hx neg N hN w)) (box (fun w => wof_al N n1 w)) ?_ hT
  by_cases z : N = 0
  · obtain rfl : neg = false := by
      cases neg
      · rfl
      · exact absurd z (n2 rfl).1
    subst z
    rw [mk_null] at h
    have h' : (0, (0 : Int)) = (M, fl) := h
    cases h'
    exact box (fun w hT => kPack_zero f m hf ⟨m0, m4⟩ false 0 (by decide) (by decide) u v (by rw [← hv]; congr 1; rcases hf with rfl | rfl | rfl | rfl <;> decide +kernel) w hT)
  · have bl := (blen_iff N 64).2 n1
    obtain ⟨w1, w2, w3, w4, w5, w6, w7⟩ := x_whole hf neg N 0 z (by omega) (by decide) (by decide)
    rw [w1] at h
    dsimp only at h
    unfold rnd at h
    rw [if_neg w3, w5, w6, w7] at h
    exact box (fun w hT => kPack_is f m hf ⟨m0, m4⟩ neg N hQ z 0 false (by decide) (by decide) (fun h => absurd h (by decide)) M fl h u v hv w hT)
theorem r20alive (w : World) (hT : FAt w) : Calls Tryz.prog 7 #[] w fun r w' => r = .returned (.bool true) ∧ Below w.heap.size w w' :=
  r20alive0 (box (fun w hT => kFi_is 2 0 0 (Or.inr (Or.inr (Or.inl rfl))) (by decide) (by decide) (by decide) (by decide) 18446744073709551615 (by decide) _ _ al20 0 48128 rfl w hT)) w hT
theorem fromintConverts_fin (f : Int) (h0f : 0 ≤ f) (h1f : f ≤ 255) (k : Int) (h0k : 0 ≤ k) (h1k : k ≤ 255) (m : Int) (h0m : 0 ≤ m) (h1m : m ≤ 255) (x : Nat) (hx : x < 18446744073709551616) (w : World) (hT : FAt w) : Calls Tryz.prog 3 #[.int .u8 f, .int .u8 k, .int .u8 m, .int .u64 (x : Nat)] w fun r w' => r = .returned (.bool true) ∧ Below w.heap.size w w' :=
  froms_all f k m h0f h0k h0m x hx (fun f3 k3 m4 M fl h u v hv => box (fun w hT => kFi_is f k m (is4_of h0f f3) h0k k3 h0m m4 x hx M fl h u v hv w hT)) (fun no => box (fun w hT => kFi_no f k m h0f h1f h0k h1k x hx no w hT)) (fun k3 neg N h => box (fun w hT => kNu_is k h0k k3 x hx neg N h w)) (fun no => box (fun w hT => kNu_no k h0k h1k no x w)) (box (fun w hT => r20alive w hT)) w hT
end Go.Proofs.YtpdehipeakcaiaaGreatDoor
namespace Go.Proofs.YtpdehipeakcaiaaGreatDoor
set_option maxRecDepth 100000
set_option maxHeartbeats 40000000
set_option maxRecDepth 100000
open WMath
open Go.ChangeShapes Go.WideShapes Go.ChangeAt Go.RowKit
theorem trod_row4 {H : Type} {enc : TypeId × Value → H} {P : Program} {w : World} {base : Nat} {spare : Nat → Bool} {held : Bool} {t : TypeId} {f0 f1 f2 f3 : Field} {fuel : Nat} {cs : List Value} {x : DataW H × List MemPlace} (ht : P.underlying t = some (.struct #[f0, f1, f2, f3])) (h : DataW.trod enc P w base spare held fuel t cs = some x) :
    ∃ y0 y1 y2 y3 n, x = (.agg [y0.1, y1.1, y2.1, y3.1], y0.2 ++ (y1.2 ++ (y2.2 ++ y3.2))) ∧ DataW.trod enc P w base spare held n f0.type ((cs.drop f0.offset).take (P.cellsOf f0.type)) = some y0 ∧
      DataW.trod enc P w base spare held n f1.type ((cs.drop f1.offset).take (P.cellsOf f1.type)) = some y1 ∧ DataW.trod enc P w base spare held n f2.type ((cs.drop f2.offset).take (P.cellsOf f2.type)) = some y2 ∧
      DataW.trod enc P w base spare held n f3.type ((cs.drop f3.offset).take (P.cellsOf f3.type)) = some y3 := by
  obtain ⟨xs, n, _, rfl, hl, hlen, hf⟩ := DataW.trod_struct ht h
  match xs, hlen with
  | [y0, y1, y2, y3], _ => exact ⟨y0, y1, y2, y3, n, by simp, by simpa using hf 0 f0 rfl, by simpa using hf 1 f1 rfl, by simpa using hf 2 f2 rfl, by simpa using hf 3 f3 rfl⟩


theorem list4' {α : Type} (l : List α) (h : l.length = 4) : ∃ a b c d, l = [a, b, c, d] := by
  match l, h with
  | [a, b, c, d], _ => exact ⟨a, b, c, d, rfl⟩

theorem row_read {w : World} {fuel : Nat} {enc : TypeId × Value → Unit} {base : Nat} {spare : Nat → Bool} {held : Bool} {l : List Value} {a b c : Int} {s : List UInt8} {p : List MemPlace}
    (h : DataW.trod enc Tryz.prog w base spare held fuel 104 l = some (.agg [.lit (.int .i64 a), .lit (.int .i64 b), .lit (.int .i64 c), .lit (.string s)], p)) (hl : l.length = 4) :
    l = [.int .i64 a, .int .i64 b, .int .i64 c, .string ⟨⟨s⟩⟩] := by
  have h3 : Tryz.prog.cellsOf 3 = 1 := by kernel_rfl
  have h9 : Tryz.prog.cellsOf 9 = 1 := by kernel_rfl
  obtain ⟨c0, c1, c2, c3, rfl⟩ := list4' l hl
  obtain ⟨y0, y1, y2, y3, n, hx, g0, g1, g2, g3⟩ := trod_row4 Tryz.underlying104 h
  simp only [h3, h9] at g0 g1 g2 g3
  obtain ⟨x0, e0, k0, w0⟩ := DataW.trod_int Tryz.underlying3 g0
  obtain ⟨x1, e1, k1, w1⟩ := DataW.trod_int Tryz.underlying3 g1
  obtain ⟨x2, e2, k2, w2⟩ := DataW.trod_int Tryz.underlying3 g2
  obtain ⟨x3, e3, k3, w3⟩ := DataW.trod_string Tryz.underlying9 g3
  simp at e0 e1 e2 e3
  subst e0 e1 e2 e3
  rw [k0, k1, k2, k3] at hx
  simp at hx
  obtain ⟨⟨rfl, rfl, rfl, rfl⟩, _⟩ := hx
  rfl

def laid7 : List (String × DataW Unit) := [("abacus/shape.formats", Rows.laid_abacus_shape_formats)]
theorem gTab7 : Tryz.prog.globalNamed "abacus/shape.formats" = some 0 := by kernel_rfl
theorem gType7 : (Tryz.prog.globals[0]?).map (·.type) = some 133 := by kernel_rfl

theorem of_laid7 {W : World} (h : laidMetH Tryz.prog laid7 W) : FAt W := by
  have hce : Tryz.prog.cellsOf 104 = 4 := by kernel_rfl
  have hct : Tryz.prog.cellsOf 133 = 16 := by kernel_rfl
  rw [MakeChecks.laidMetH_plain _ _ _ (by kernel_rfl)] at h
  obtain ⟨ps, ⟨g', t', cs, fuel, p, q, hg', ht', hvar, hd, _, _⟩, _⟩ := h
  obtain rfl := Option.some.inj (gTab7.symm.trans hg')
  obtain rfl := Option.some.inj (gType7.symm.trans ht')
  obtain ⟨xs, m, rfl, hx, hl, hxl, hel⟩ := DataW.trod_array Tryz.underlying133 hd
  rw [hce] at hel
  rw [hct] at hl
  have hl2 : cs.size = 16 := by simpa using hl
  match xs, hxl with
  | [y0, y1, y2, y3], _ =>
    have hx1 := congrArg Prod.fst hx
    simp [Rows.laid_abacus_shape_formats] at hx1
    obtain ⟨h0, h1, h2, h3⟩ := hx1
    have q0 := hel 0 (by decide)
    have q1 := hel 1 (by decide)
    have q2 := hel 2 (by decide)
    have q3 := hel 3 (by decide)
    simp only [List.getElem?_cons_zero, List.getElem?_cons_succ] at q0 q1 q2 q3
    have z0 := row_read (p := y0.2) (by rw [q0, h0]) (by simp; omega)
    have z1 := row_read (p := y1.2) (by rw [q1, h1]) (by simp; omega)
    have z2 := row_read (p := y2.2) (by rw [q2, h2]) (by simp; omega)
    have z3 := row_read (p := y3.2) (by rw [q3, h3]) (by simp; omega)
    have hcs : ∀ i, i < 16 → cs.toList[i]? = fcells[i]? := by
      intro i hi
      have e0 : cs.toList[i]? = (cs.toList.drop (i / 4 * 4))[i % 4]? := by rw [List.getElem?_drop]; congr 1; omega
      have e1 : (cs.toList.drop (i / 4 * 4))[i % 4]? = ((cs.toList.drop (i / 4 * 4)).take 4)[i % 4]? := by rw [List.getElem?_take, if_pos (by omega)]
      rw [e0, e1]
      have : i / 4 = 0 ∨ i / 4 = 1 ∨ i / 4 = 2 ∨ i / 4 = 3 := by omega
      have hj : i % 4 = 0 ∨ i % 4 = 1 ∨ i % 4 = 2 ∨ i % 4 = 3 := by omega
      have hi2 : i = i / 4 * 4 + i % 4 := by omega
      rcases this with e | e | e | e <;> rw [e] at hi2 ⊢ <;> rcases hj with k | k | k | k <;> rw [k] at hi2 ⊢ <;> subst hi2 <;> first | (rw [z0]; rfl) | (rw [z1]; rfl) | (rw [z2]; rfl) | (rw [z3]; rfl)
    refine ⟨?_, fun p hp => by cases hp⟩
    intro i hi
    rw [World.var?_cell gTab7 hvar i, ← hcs i hi]
    simp

theorem door_met7 (os : Os) (args : Array Value) : laidMetH Tryz.prog laid7 ((World.doorLaid Tryz.prog 400 os).forCall (fun _ _ => 0) ⟨#[], args, []⟩).memory :=
  laidMetH_of_parts3 (fuel := 8) (laidMet_of_run' 8 (by kernel_rfl) (by kernel_rfl)) (by kernel_rfl) (by kernel_rfl)
end Go.Proofs.YtpdehipeakcaiaaGreatDoor
