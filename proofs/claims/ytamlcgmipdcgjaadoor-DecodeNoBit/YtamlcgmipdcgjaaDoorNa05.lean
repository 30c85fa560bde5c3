/-
  What the functions that the statement reaches return: part 5 (YK, YM, ZA).
-/
import Derived.Laws.AppendOwn
import Derived.RangeFuncNested
import Derived.RangeFuncBound
import Derived.RangeFuncCalls
import Derived.RangeFuncLeaves
import Derived.RangeFuncFrom
import Derived.Shelf.Abstract
import Derived.Shelf.RegionOpen
import Derived.WalkKit
import Derived.OwnWalkIn
import Derived.TacticsInMore
import Derived.LoopNIn
import Derived.LoopIn
import Derived.LoopN
import Derived.Sort.QuietIn
import Derived.Deep.RegionHeld3
import Derived.ChangeMaps5
import Derived.OpenShut
import Derived.Carry
import Derived.Test.YtamlcgmipdcgjaaDoorNa04
namespace Go.Proofs.YtamlcgmipdcgjaaDoor
set_option maxRecDepth 100000
set_option maxHeartbeats 40000000
set_option maxRecDepth 100000
open Go.RowKit WMath
set_option linter.unusedSimpArgs false
set_option linter.unusedVariables false
set_option maxRecDepth 100000 in
set_option maxHeartbeats 8000000 in
theorem dc_nob_nn {T : World → Prop} (FB : Box (∀ {w w' : World}, T w → Below w.heap.size w w' → T w')) (v t x : Nat) (hx : bits .xor .u32 (v : Nat) (t : Nat) = (x : Nat)) (a b : In) (ha : inCE a inZ = true) (hb : inCE b inZ = true) (K1 : Box (∀ w, T w → Calls Tryd.prog 9 #[.int .u32 (v : Nat)] w fun r w' => r = .returned (.tuple #[.agg (inC a), .int .i64 250]) ∧ Below w.heap.size w w')) (K2 : Box (∀ w, T w → Calls Tryd.prog 9 #[.int .u32 (x : Nat)] w fun r w' => r = .returned (.tuple #[.agg (inC b), .int .i64 250]) ∧ Below w.heap.size w w')) (KL : Box (∀ w, T w → Calls Tryd.prog 13 #[] w fun r w' => r = .returned (.bool true) ∧ Below w.heap.size w w')) (w : World) (hT : T w) : Calls Tryd.prog 7 #[.int .u32 (v : Nat), .int .u32 (t : Nat)] w fun r w' => r = .returned (.bool true) ∧ Below w.heap.size w w' := by
  have FF := box hT
  clear hT
  have hin := inC_new
  have he := eqin
  have hif := inC_fold
  have hz0 : #[Value.int .u8 0, .int .u8 0, .int .u8 0, .int .u8 0, .int .u8 0, .int .u8 0, .int .u8 0, .int .u8 0, .int .u8 0, .int .i16 0, .int .u8 0] = inC inZ := rfl
  have hin2 : ∀ (w : World) (b : Nat) (x : In), b = w.heap.size → (storeCells ⟨b, 0, none⟩ (inC x).toList 0).run Tryd.prog (w.alloc (.cells (inC inZ) 28)) = .ok () (w.alloc (.cells (inC x) 28)) := inC_new
  have B0 : Below w.heap.size w w := (Below.refl _ _)
  go_enter Tryd.func7, Tryd.ntmps7
  go_wp2_with fail
  refine (K1.out _ (FB.out FF.out B0)).mono ?_
  rintro r w1 ⟨rfl, b1⟩
  have B1 : Below w.heap.size w w1 := btr B0 b1
  clear b1 B0 
  have S2 := box B1.size
  have Ra_2 := heap_alloc_last w1 (Obj.cells (inC a) 28)
  have B2 := btr B1 (bal w1 (Obj.cells (inC a) 28))
  clear B1 
  obtain ⟨ca_2_0, ca_2_1, ca_2_2, ca_2_3, ca_2_4, ca_2_5, ca_2_6, ca_2_7, ca_2_8, ca_2_9, ca_2_10⟩ := inC_cells Ra_2
  go_wp2_with fail
  refine (K2.out _ (FB.out FF.out B2)).mono ?_
  rintro r w3 ⟨rfl, b3⟩
  have B3 : Below w.heap.size w w3 := btr B2 b3
  have Ra_3 := heap_of b3 _ _ _ Ra_2
  clear b3 B2 Ra_2 ca_2_0 ca_2_1 ca_2_2 ca_2_3 ca_2_4 ca_2_5 ca_2_6 ca_2_7 ca_2_8 ca_2_9 ca_2_10
  obtain ⟨ca_3_0, ca_3_1, ca_3_2, ca_3_3, ca_3_4, ca_3_5, ca_3_6, ca_3_7, ca_3_8, ca_3_9, ca_3_10⟩ := inC_cells Ra_3
  have S4 := box B3.size
  have La_4 : Box (w1.heap.size < w3.heap.size) := box (Array.getElem?_eq_some_iff.1 Ra_3).1
  have Rb_4 := heap_alloc_last w3 (Obj.cells (inC b) 28)
  have B4 := btr B3 (bal w3 (Obj.cells (inC b) 28))
  have Ra_4 := heap_of (bal w3 (Obj.cells (inC b) 28)) _ _ _ Ra_3
  clear B3 Ra_3 ca_3_0 ca_3_1 ca_3_2 ca_3_3 ca_3_4 ca_3_5 ca_3_6 ca_3_7 ca_3_8 ca_3_9 ca_3_10
  obtain ⟨ca_4_0, ca_4_1, ca_4_2, ca_4_3, ca_4_4, ca_4_5, ca_4_6, ca_4_7, ca_4_8, ca_4_9, ca_4_10⟩ := inC_cells Ra_4
  obtain ⟨cb_4_0, cb_4_1, cb_4_2, cb_4_3, cb_4_4, cb_4_5, cb_4_6, cb_4_7, cb_4_8, cb_4_9, cb_4_10⟩ := inC_cells Rb_4
  go_wp2_with fail
  refine (KL.out _ (FB.out FF.out B4)).mono ?_
  rintro r w5 ⟨rfl, b5⟩
  have B5 : Below w.heap.size w w5 := btr B4 b5
  have Ra_5 := heap_of b5 _ _ _ Ra_4
  have Rb_5 := heap_of b5 _ _ _ Rb_4
  clear b5 B4 Ra_4 ca_4_0 ca_4_1 ca_4_2 ca_4_3 ca_4_4 ca_4_5 ca_4_6 ca_4_7 ca_4_8 ca_4_9 ca_4_10 Rb_4 cb_4_0 cb_4_1 cb_4_2 cb_4_3 cb_4_4 cb_4_5 cb_4_6 cb_4_7 cb_4_8 cb_4_9 cb_4_10
  obtain ⟨ca_5_0, ca_5_1, ca_5_2, ca_5_3, ca_5_4, ca_5_5, ca_5_6, ca_5_7, ca_5_8, ca_5_9, ca_5_10⟩ := inC_cells Ra_5
  obtain ⟨cb_5_0, cb_5_1, cb_5_2, cb_5_3, cb_5_4, cb_5_5, cb_5_6, cb_5_7, cb_5_8, cb_5_9, cb_5_10⟩ := inC_cells Rb_5
  go_wp2
  go_ret
  exact ⟨rfl, B5⟩
set_option maxRecDepth 100000 in
set_option maxHeartbeats 8000000 in
theorem dc_nob_ny {T : World → Prop} (FB : Box (∀ {w w' : World}, T w → Below w.heap.size w w' → T w')) (v t x : Nat) (hx : bits .xor .u32 (v : Nat) (t : Nat) = (x : Nat)) (a b : In) (ha : inCE a inZ = true) (K1 : Box (∀ w, T w → Calls Tryd.prog 9 #[.int .u32 (v : Nat)] w fun r w' => r = .returned (.tuple #[.agg (inC a), .int .i64 250]) ∧ Below w.heap.size w w')) (K2 : Box (∀ w, T w → Calls Tryd.prog 9 #[.int .u32 (x : Nat)] w fun r w' => r = .returned (.tuple #[.agg (inC b), .int .i64 0]) ∧ Below w.heap.size w w')) (KL : Box (∀ w, T w → Calls Tryd.prog 13 #[] w fun r w' => r = .returned (.bool true) ∧ Below w.heap.size w w')) (w : World) (hT : T w) : Calls Tryd.prog 7 #[.int .u32 (v : Nat), .int .u32 (t : Nat)] w fun r w' => r = .returned (.bool true) ∧ Below w.heap.size w w' := by
  have FF := box hT
  clear hT
  have hin := inC_new
  have he := eqin
  have hif := inC_fold
  have hz0 : #[Value.int .u8 0, .int .u8 0, .int .u8 0, .int .u8 0, .int .u8 0, .int .u8 0, .int .u8 0, .int .u8 0, .int .u8 0, .int .i16 0, .int .u8 0] = inC inZ := rfl
  have hin2 : ∀ (w : World) (b : Nat) (x : In), b = w.heap.size → (storeCells ⟨b, 0, none⟩ (inC x).toList 0).run Tryd.prog (w.alloc (.cells (inC inZ) 28)) = .ok () (w.alloc (.cells (inC x) 28)) := inC_new
  have B0 : Below w.heap.size w w := (Below.refl _ _)
  go_enter Tryd.func7, Tryd.ntmps7
  go_wp2_with fail
  refine (K1.out _ (FB.out FF.out B0)).mono ?_
  rintro r w1 ⟨rfl, b1⟩
  have B1 : Below w.heap.size w w1 := btr B0 b1
  clear b1 B0 
  have S2 := box B1.size
  have Ra_2 := heap_alloc_last w1 (Obj.cells (inC a) 28)
  have B2 := btr B1 (bal w1 (Obj.cells (inC a) 28))
  clear B1 
  obtain ⟨ca_2_0, ca_2_1, ca_2_2, ca_2_3, ca_2_4, ca_2_5, ca_2_6, ca_2_7, ca_2_8, ca_2_9, ca_2_10⟩ := inC_cells Ra_2
  go_wp2_with fail
  refine (K2.out _ (FB.out FF.out B2)).mono ?_
  rintro r w3 ⟨rfl, b3⟩
  have B3 : Below w.heap.size w w3 := btr B2 b3
  have Ra_3 := heap_of b3 _ _ _ Ra_2
  clear b3 B2 Ra_2 ca_2_0 ca_2_1 ca_2_2 ca_2_3 ca_2_4 ca_2_5 ca_2_6 ca_2_7 ca_2_8 ca_2_9 ca_2_10
  obtain ⟨ca_3_0, ca_3_1, ca_3_2, ca_3_3, ca_3_4, ca_3_5, ca_3_6, ca_3_7, ca_3_8, ca_3_9, ca_3_10⟩ := inC_cells Ra_3
  have S4 := box B3.size
  have La_4 : Box (w1.heap.size < w3.heap.size) := box (Array.getElem?_eq_some_iff.1 Ra_3).1
  have Rb_4 := heap_alloc_last w3 (Obj.cells (inC b) 28)
  have B4 := btr B3 (bal w3 (Obj.cells (inC b) 28))
  have Ra_4 := heap_of (bal w3 (Obj.cells (inC b) 28)) _ _ _ Ra_3
  clear B3 Ra_3 ca_3_0 ca_3_1 ca_3_2 ca_3_3 ca_3_4 ca_3_5 ca_3_6 ca_3_7 ca_3_8 ca_3_9 ca_3_10
  obtain ⟨ca_4_0, ca_4_1, ca_4_2, ca_4_3, ca_4_4, ca_4_5, ca_4_6, ca_4_7, ca_4_8, ca_4_9, ca_4_10⟩ := inC_cells Ra_4
  obtain ⟨cb_4_0, cb_4_1, cb_4_2, cb_4_3, cb_4_4, cb_4_5, cb_4_6, cb_4_7, cb_4_8, cb_4_9, cb_4_10⟩ := inC_cells Rb_4
  go_wp2_with fail
  refine (KL.out _ (FB.out FF.out B4)).mono ?_
  rintro r w5 ⟨rfl, b5⟩
  have B5 : Below w.heap.size w w5 := btr B4 b5
  have Ra_5 := heap_of b5 _ _ _ Ra_4
  have Rb_5 := heap_of b5 _ _ _ Rb_4
  clear b5 B4 Ra_4 ca_4_0 ca_4_1 ca_4_2 ca_4_3 ca_4_4 ca_4_5 ca_4_6 ca_4_7 ca_4_8 ca_4_9 ca_4_10 Rb_4 cb_4_0 cb_4_1 cb_4_2 cb_4_3 cb_4_4 cb_4_5 cb_4_6 cb_4_7 cb_4_8 cb_4_9 cb_4_10
  obtain ⟨ca_5_0, ca_5_1, ca_5_2, ca_5_3, ca_5_4, ca_5_5, ca_5_6, ca_5_7, ca_5_8, ca_5_9, ca_5_10⟩ := inC_cells Ra_5
  obtain ⟨cb_5_0, cb_5_1, cb_5_2, cb_5_3, cb_5_4, cb_5_5, cb_5_6, cb_5_7, cb_5_8, cb_5_9, cb_5_10⟩ := inC_cells Rb_5
  go_wp2
  go_ret
  exact ⟨rfl, B5⟩
set_option maxRecDepth 100000 in
set_option maxHeartbeats 8000000 in
theorem dc_nob_yn {T : World → Prop} (FB : Box (∀ {w w' : World}, T w → Below w.heap.size w w' → T w')) (v t x : Nat) (hx : bits .xor .u32 (v : Nat) (t : Nat) = (x : Nat)) (a b : In) (hb : inCE b inZ = true) (K1 : Box (∀ w, T w → Calls Tryd.prog 9 #[.int .u32 (v : Nat)] w fun r w' => r = .returned (.tuple #[.agg (inC a), .int .i64 0]) ∧ Below w.heap.size w w')) (K2 : Box (∀ w, T w → Calls Tryd.prog 9 #[.int .u32 (x : Nat)] w fun r w' => r = .returned (.tuple #[.agg (inC b), .int .i64 250]) ∧ Below w.heap.size w w')) (KL : Box (∀ w, T w → Calls Tryd.prog 13 #[] w fun r w' => r = .returned (.bool true) ∧ Below w.heap.size w w')) (w : World) (hT : T w) : Calls Tryd.prog 7 #[.int .u32 (v : Nat), .int .u32 (t : Nat)] w fun r w' => r = .returned (.bool true) ∧ Below w.heap.size w w' := by
  have FF := box hT
  clear hT
  have hin := inC_new
  have he := eqin
  have hif := inC_fold
  have hz0 : #[Value.int .u8 0, .int .u8 0, .int .u8 0, .int .u8 0, .int .u8 0, .int .u8 0, .int .u8 0, .int .u8 0, .int .u8 0, .int .i16 0, .int .u8 0] = inC inZ := rfl
  have hin2 : ∀ (w : World) (b : Nat) (x : In), b = w.heap.size → (storeCells ⟨b, 0, none⟩ (inC x).toList 0).run Tryd.prog (w.alloc (.cells (inC inZ) 28)) = .ok () (w.alloc (.cells (inC x) 28)) := inC_new
  have B0 : Below w.heap.size w w := (Below.refl _ _)
  go_enter Tryd.func7, Tryd.ntmps7
  go_wp2_with fail
  refine (K1.out _ (FB.out FF.out B0)).mono ?_
  rintro r w1 ⟨rfl, b1⟩
  have B1 : Below w.heap.size w w1 := btr B0 b1
  clear b1 B0 
  have S2 := box B1.size
  have Ra_2 := heap_alloc_last w1 (Obj.cells (inC a) 28)
  have B2 := btr B1 (bal w1 (Obj.cells (inC a) 28))
  clear B1 
  obtain ⟨ca_2_0, ca_2_1, ca_2_2, ca_2_3, ca_2_4, ca_2_5, ca_2_6, ca_2_7, ca_2_8, ca_2_9, ca_2_10⟩ := inC_cells Ra_2
  go_wp2_with fail
  refine (K2.out _ (FB.out FF.out B2)).mono ?_
  rintro r w3 ⟨rfl, b3⟩
  have B3 : Below w.heap.size w w3 := btr B2 b3
  have Ra_3 := heap_of b3 _ _ _ Ra_2
  clear b3 B2 Ra_2 ca_2_0 ca_2_1 ca_2_2 ca_2_3 ca_2_4 ca_2_5 ca_2_6 ca_2_7 ca_2_8 ca_2_9 ca_2_10
  obtain ⟨ca_3_0, ca_3_1, ca_3_2, ca_3_3, ca_3_4, ca_3_5, ca_3_6, ca_3_7, ca_3_8, ca_3_9, ca_3_10⟩ := inC_cells Ra_3
  have S4 := box B3.size
  have La_4 : Box (w1.heap.size < w3.heap.size) := box (Array.getElem?_eq_some_iff.1 Ra_3).1
  have Rb_4 := heap_alloc_last w3 (Obj.cells (inC b) 28)
  have B4 := btr B3 (bal w3 (Obj.cells (inC b) 28))
  have Ra_4 := heap_of (bal w3 (Obj.cells (inC b) 28)) _ _ _ Ra_3
  clear B3 Ra_3 ca_3_0 ca_3_1 ca_3_2 ca_3_3 ca_3_4 ca_3_5 ca_3_6 ca_3_7 ca_3_8 ca_3_9 ca_3_10
  obtain ⟨ca_4_0, ca_4_1, ca_4_2, ca_4_3, ca_4_4, ca_4_5, ca_4_6, ca_4_7, ca_4_8, ca_4_9, ca_4_10⟩ := inC_cells Ra_4
  obtain ⟨cb_4_0, cb_4_1, cb_4_2, cb_4_3, cb_4_4, cb_4_5, cb_4_6, cb_4_7, cb_4_8, cb_4_9, cb_4_10⟩ := inC_cells Rb_4
  go_wp2_with fail
  refine (KL.out _ (FB.out FF.out B4)).mono ?_
  rintro r w5 ⟨rfl, b5⟩
  have B5 : Below w.heap.size w w5 := btr B4 b5
  have Ra_5 := heap_of b5 _ _ _ Ra_4
  have Rb_5 := heap_of b5 _ _ _ Rb_4
  clear b5 B4 Ra_4 ca_4_0 ca_4_1 ca_4_2 ca_4_3 ca_4_4 ca_4_5 ca_4_6 ca_4_7 ca_4_8 ca_4_9 ca_4_10 Rb_4 cb_4_0 cb_4_1 cb_4_2 cb_4_3 cb_4_4 cb_4_5 cb_4_6 cb_4_7 cb_4_8 cb_4_9 cb_4_10
  obtain ⟨ca_5_0, ca_5_1, ca_5_2, ca_5_3, ca_5_4, ca_5_5, ca_5_6, ca_5_7, ca_5_8, ca_5_9, ca_5_10⟩ := inC_cells Ra_5
  obtain ⟨cb_5_0, cb_5_1, cb_5_2, cb_5_3, cb_5_4, cb_5_5, cb_5_6, cb_5_7, cb_5_8, cb_5_9, cb_5_10⟩ := inC_cells Rb_5
  go_wp2
  go_ret
  exact ⟨rfl, B5⟩
set_option maxRecDepth 100000 in
set_option maxHeartbeats 8000000 in
theorem dc_nob_yy {T : World → Prop} (FB : Box (∀ {w w' : World}, T w → Below w.heap.size w w' → T w')) (v t x : Nat) (hv : v < 4294967296) (hx : bits .xor .u32 (v : Nat) (t : Nat) = (x : Nat)) (hxl : x < 4294967296) (a b : In) (o : Bool) (hab : inCE a b = o) (hvx : (((v : Nat) : Int) == ((x : Nat) : Int)) = o) (HK : Box (∀ k, k < 32 → (dcR (v ^^^ 2 ^ k)).2 = 250 ∨ ((dcR (v ^^^ 2 ^ k)).2 = 0 ∧ inCE (dcR (v ^^^ 2 ^ k)).1 a = false))) (K1 : Box (∀ w, T w → Calls Tryd.prog 9 #[.int .u32 (v : Nat)] w fun r w' => r = .returned (.tuple #[.agg (inC a), .int .i64 0]) ∧ Below w.heap.size w w')) (K2 : Box (∀ w, T w → Calls Tryd.prog 9 #[.int .u32 (x : Nat)] w fun r w' => r = .returned (.tuple #[.agg (inC b), .int .i64 0]) ∧ Below w.heap.size w w')) (KL : Box (∀ w, T w → Calls Tryd.prog 13 #[] w fun r w' => r = .returned (.bool true) ∧ Below w.heap.size w w')) (CD : Box (∀ x, x < 4294967296 → ∀ w, T w → Calls Tryd.prog 9 #[.int .u32 (x : Nat)] w fun r w' => r = .returned (.tuple #[.agg (inC (dcR x).1), .int .i64 (dcR x).2]) ∧ Below w.heap.size w w')) (w : World) (hT : T w) : Calls Tryd.prog 7 #[.int .u32 (v : Nat), .int .u32 (t : Nat)] w fun r w' => r = .returned (.bool true) ∧ Below w.heap.size w w' := by
  have FF := box hT
  clear hT
  have hin := inC_new
  have he := eqin
  have hif := inC_fold
  have hoo : (o == o) = true := by simp
  have B0 : Below w.heap.size w w := (Below.refl _ _)
  go_enter Tryd.func7, Tryd.ntmps7
  go_wp2_with fail
  refine (K1.out _ (FB.out FF.out B0)).mono ?_
  rintro r w1 ⟨rfl, b1⟩
  have B1 : Below w.heap.size w w1 := btr B0 b1
  clear b1 B0 
  have S2 := box B1.size
  have Ra_2 := heap_alloc_last w1 (Obj.cells (inC a) 28)
  have B2 := btr B1 (bal w1 (Obj.cells (inC a) 28))
  clear B1 
  obtain ⟨ca_2_0, ca_2_1, ca_2_2, ca_2_3, ca_2_4, ca_2_5, ca_2_6, ca_2_7, ca_2_8, ca_2_9, ca_2_10⟩ := inC_cells Ra_2
  go_wp2_with fail
  refine (K2.out _ (FB.out FF.out B2)).mono ?_
  rintro r w3 ⟨rfl, b3⟩
  have B3 : Below w.heap.size w w3 := btr B2 b3
  have Ra_3 := heap_of b3 _ _ _ Ra_2
  clear b3 B2 Ra_2 ca_2_0 ca_2_1 ca_2_2 ca_2_3 ca_2_4 ca_2_5 ca_2_6 ca_2_7 ca_2_8 ca_2_9 ca_2_10
  obtain ⟨ca_3_0, ca_3_1, ca_3_2, ca_3_3, ca_3_4, ca_3_5, ca_3_6, ca_3_7, ca_3_8, ca_3_9, ca_3_10⟩ := inC_cells Ra_3
  have S4 := box B3.size
  have La_4 : Box (w1.heap.size < w3.heap.size) := box (Array.getElem?_eq_some_iff.1 Ra_3).1
  have Rb_4 := heap_alloc_last w3 (Obj.cells (inC b) 28)
  have B4 := btr B3 (bal w3 (Obj.cells (inC b) 28))
  have Ra_4 := heap_of (bal w3 (Obj.cells (inC b) 28)) _ _ _ Ra_3
  clear B3 Ra_3 ca_3_0 ca_3_1 ca_3_2 ca_3_3 ca_3_4 ca_3_5 ca_3_6 ca_3_7 ca_3_8 ca_3_9 ca_3_10
  obtain ⟨ca_4_0, ca_4_1, ca_4_2, ca_4_3, ca_4_4, ca_4_5, ca_4_6, ca_4_7, ca_4_8, ca_4_9, ca_4_10⟩ := inC_cells Ra_4
  obtain ⟨cb_4_0, cb_4_1, cb_4_2, cb_4_3, cb_4_4, cb_4_5, cb_4_6, cb_4_7, cb_4_8, cb_4_9, cb_4_10⟩ := inC_cells Rb_4
  go_wp2_with fail
  go_loopw [10] (fun kv wr => ∃ k : Nat, k ≤ 32 ∧ kv = .int .i64 (k : Int) ∧ Below w.heap.size w wr ∧ wr.heap[w1.heap.size]? = some (.cells (inC a) 28) ∧ wr.heap[w3.heap.size]? = some (.cells (inC b) 28)) (fun kv _ => 32 - (intOf kv).toNat)
  case atStart => exact ⟨0, Nat.zero_le _, rfl, B4, Ra_4, Rb_4⟩
  case round =>
    obtain ⟨k, hk, rfl, B20, Ra_20, Rb_20⟩ := hrel
    obtain ⟨w20, hw⟩ : ∃ w20, w20 = wr := ⟨_, rfl⟩
    subst hw
    clear Ra_4 Rb_4 B4
    by_cases hlt : k < 32
    · have d1 : decide ((k : Int) < 32) = true := decide_eq_true (by omega)
      have e3 : decide ((k : Int) < 0) = false := decide_eq_false (by omega)
      have hwk : IntKind.i64.wrap ((k : Int) + 1) = ((k + 1 : Nat) : Int) := by rw [IntKind.wrap_i64]; omega
      obtain ⟨p2, l2⟩ := two32 k hlt
      have ex := xor32 v (2 ^ k) hv l2
      have xl : v ^^^ 2 ^ k < 4294967296 := Nat.xor_lt_two_pow (n := 32) hv l2
      have KC := box (CD.out (v ^^^ 2 ^ k) xl)
      have HC := HK.out k hlt
      obtain ⟨y, hy⟩ : ∃ y, v ^^^ 2 ^ k = y := ⟨_, rfl⟩
      rw [hy] at ex KC HC
      obtain ⟨Y, hY⟩ : ∃ Y, 2 ^ k = Y := ⟨_, rfl⟩
      rw [hY] at p2 ex
      have p3 : (2 : Int) ^ k % 4294967296 = (Y : Nat) := by rw [show min k 32 = k by omega] at p2; exact p2
      obtain ⟨⟨c, g⟩, hc⟩ : ∃ p, dcR y = p := ⟨_, rfl⟩
      rw [hc] at KC HC
      simp only at KC HC
      clear hy hY hc l2 xl
      obtain ⟨ca_20_0, ca_20_1, ca_20_2, ca_20_3, ca_20_4, ca_20_5, ca_20_6, ca_20_7, ca_20_8, ca_20_9, ca_20_10⟩ := inC_cells Ra_20
      obtain ⟨cb_20_0, cb_20_1, cb_20_2, cb_20_3, cb_20_4, cb_20_5, cb_20_6, cb_20_7, cb_20_8, cb_20_9, cb_20_10⟩ := inC_cells Rb_20
      rcases HC with rfl | ⟨rfl, hne⟩
      · have hq0 : True := trivial
        go_wp2_with fail
        refine (KC.out _ (FB.out FF.out B20)).mono ?_
        rintro r w21 ⟨rfl, b21⟩
        have B21 : Below w.heap.size w w21 := btr B20 b21
        have Ra_21 := heap_of b21 _ _ _ Ra_20
        have Rb_21 := heap_of b21 _ _ _ Rb_20
        clear b21 B20 Ra_20 ca_20_0 ca_20_1 ca_20_2 ca_20_3 ca_20_4 ca_20_5 ca_20_6 ca_20_7 ca_20_8 ca_20_9 ca_20_10 Rb_20 cb_20_0 cb_20_1 cb_20_2 cb_20_3 cb_20_4 cb_20_5 cb_20_6 cb_20_7 cb_20_8 cb_20_9 cb_20_10
        obtain ⟨ca_21_0, ca_21_1, ca_21_2, ca_21_3, ca_21_4, ca_21_5, ca_21_6, ca_21_7, ca_21_8, ca_21_9, ca_21_10⟩ := inC_cells Ra_21
        obtain ⟨cb_21_0, cb_21_1, cb_21_2, cb_21_3, cb_21_4, cb_21_5, cb_21_6, cb_21_7, cb_21_8, cb_21_9, cb_21_10⟩ := inC_cells Rb_21
        have S22 := box B21.size
        have La_22 : Box (w1.heap.size < w21.heap.size) := box (Array.getElem?_eq_some_iff.1 Ra_21).1
        have Lb_22 : Box (w3.heap.size < w21.heap.size) := box (Array.getElem?_eq_some_iff.1 Rb_21).1
        have Rc_22 := heap_alloc_last w21 (Obj.cells (inC c) 28)
        have B22 := btr B21 (bal w21 (Obj.cells (inC c) 28))
        have Ra_22 := heap_of (bal w21 (Obj.cells (inC c) 28)) _ _ _ Ra_21
        have Rb_22 := heap_of (bal w21 (Obj.cells (inC c) 28)) _ _ _ Rb_21
        clear B21 Ra_21 ca_21_0 ca_21_1 ca_21_2 ca_21_3 ca_21_4 ca_21_5 ca_21_6 ca_21_7 ca_21_8 ca_21_9 ca_21_10 Rb_21 cb_21_0 cb_21_1 cb_21_2 cb_21_3 cb_21_4 cb_21_5 cb_21_6 cb_21_7 cb_21_8 cb_21_9 cb_21_10
        obtain ⟨ca_22_0, ca_22_1, ca_22_2, ca_22_3, ca_22_4, ca_22_5, ca_22_6, ca_22_7, ca_22_8, ca_22_9, ca_22_10⟩ := inC_cells Ra_22
        obtain ⟨cb_22_0, cb_22_1, cb_22_2, cb_22_3, cb_22_4, cb_22_5, cb_22_6, cb_22_7, cb_22_8, cb_22_9, cb_22_10⟩ := inC_cells Rb_22
        obtain ⟨cc_22_0, cc_22_1, cc_22_2, cc_22_3, cc_22_4, cc_22_5, cc_22_6, cc_22_7, cc_22_8, cc_22_9, cc_22_10⟩ := inC_cells Rc_22
        go_wp2
        go_roundw
        case rel => exact ⟨k + 1, by omega, by first | rfl | simp, B22, Ra_22, Rb_22⟩
        case measure => simp [intOf]; omega
      · have hne2 := hne
        go_wp2_with fail
        refine (KC.out _ (FB.out FF.out B20)).mono ?_
        rintro r w21 ⟨rfl, b21⟩
        have B21 : Below w.heap.size w w21 := btr B20 b21
        have Ra_21 := heap_of b21 _ _ _ Ra_20
        have Rb_21 := heap_of b21 _ _ _ Rb_20
        clear b21 B20 Ra_20 ca_20_0 ca_20_1 ca_20_2 ca_20_3 ca_20_4 ca_20_5 ca_20_6 ca_20_7 ca_20_8 ca_20_9 ca_20_10 Rb_20 cb_20_0 cb_20_1 cb_20_2 cb_20_3 cb_20_4 cb_20_5 cb_20_6 cb_20_7 cb_20_8 cb_20_9 cb_20_10
        obtain ⟨ca_21_0, ca_21_1, ca_21_2, ca_21_3, ca_21_4, ca_21_5, ca_21_6, ca_21_7, ca_21_8, ca_21_9, ca_21_10⟩ := inC_cells Ra_21
        obtain ⟨cb_21_0, cb_21_1, cb_21_2, cb_21_3, cb_21_4, cb_21_5, cb_21_6, cb_21_7, cb_21_8, cb_21_9, cb_21_10⟩ := inC_cells Rb_21
        have S22 := box B21.size
        have La_22 : Box (w1.heap.size < w21.heap.size) := box (Array.getElem?_eq_some_iff.1 Ra_21).1
        have Lb_22 : Box (w3.heap.size < w21.heap.size) := box (Array.getElem?_eq_some_iff.1 Rb_21).1
        have Rc_22 := heap_alloc_last w21 (Obj.cells (inC c) 28)
        have B22 := btr B21 (bal w21 (Obj.cells (inC c) 28))
        have Ra_22 := heap_of (bal w21 (Obj.cells (inC c) 28)) _ _ _ Ra_21
        have Rb_22 := heap_of (bal w21 (Obj.cells (inC c) 28)) _ _ _ Rb_21
        clear B21 Ra_21 ca_21_0 ca_21_1 ca_21_2 ca_21_3 ca_21_4 ca_21_5 ca_21_6 ca_21_7 ca_21_8 ca_21_9 ca_21_10 Rb_21 cb_21_0 cb_21_1 cb_21_2 cb_21_3 cb_21_4 cb_21_5 cb_21_6 cb_21_7 cb_21_8 cb_21_9 cb_21_10
        obtain ⟨ca_22_0, ca_22_1, ca_22_2, ca_22_3, ca_22_4, ca_22_5, ca_22_6, ca_22_7, ca_22_8, ca_22_9, ca_22_10⟩ := inC_cells Ra_22
        obtain ⟨cb_22_0, cb_22_1, cb_22_2, cb_22_3, cb_22_4, cb_22_5, cb_22_6, cb_22_7, cb_22_8, cb_22_9, cb_22_10⟩ := inC_cells Rb_22
        obtain ⟨cc_22_0, cc_22_1, cc_22_2, cc_22_3, cc_22_4, cc_22_5, cc_22_6, cc_22_7, cc_22_8, cc_22_9, cc_22_10⟩ := inC_cells Rc_22
        go_wp2
        go_roundw
        case rel => exact ⟨k + 1, by omega, by first | rfl | simp, B22, Ra_22, Rb_22⟩
        case measure => simp [intOf]; omega
    · have k32 : k = 32 := by omega
      subst k32
      obtain ⟨ca_20_0, ca_20_1, ca_20_2, ca_20_3, ca_20_4, ca_20_5, ca_20_6, ca_20_7, ca_20_8, ca_20_9, ca_20_10⟩ := inC_cells Ra_20
      obtain ⟨cb_20_0, cb_20_1, cb_20_2, cb_20_3, cb_20_4, cb_20_5, cb_20_6, cb_20_7, cb_20_8, cb_20_9, cb_20_10⟩ := inC_cells Rb_20
      go_wp2_with fail
      refine (KL.out _ (FB.out FF.out B20)).mono ?_
      rintro r w21 ⟨rfl, b21⟩
      have B21 : Below w.heap.size w w21 := btr B20 b21
      have Ra_21 := heap_of b21 _ _ _ Ra_20
      have Rb_21 := heap_of b21 _ _ _ Rb_20
      clear b21 B20 Ra_20 ca_20_0 ca_20_1 ca_20_2 ca_20_3 ca_20_4 ca_20_5 ca_20_6 ca_20_7 ca_20_8 ca_20_9 ca_20_10 Rb_20 cb_20_0 cb_20_1 cb_20_2 cb_20_3 cb_20_4 cb_20_5 cb_20_6 cb_20_7 cb_20_8 cb_20_9 cb_20_10
      obtain ⟨ca_21_0, ca_21_1, ca_21_2, ca_21_3, ca_21_4, ca_21_5, ca_21_6, ca_21_7, ca_21_8, ca_21_9, ca_21_10⟩ := inC_cells Ra_21
      obtain ⟨cb_21_0, cb_21_1, cb_21_2, cb_21_3, cb_21_4, cb_21_5, cb_21_6, cb_21_7, cb_21_8, cb_21_9, cb_21_10⟩ := inC_cells Rb_21
      go_wp2
      go_ret
      exact ⟨rfl, B21⟩
end Go.Proofs.YtamlcgmipdcgjaaDoor
namespace Go.Proofs.YtamlcgmipdcgjaaDoor
set_option maxRecDepth 100000
set_option maxHeartbeats 40000000
set_option maxRecDepth 100000
open Go.RowKit WMath
set_option linter.unusedSimpArgs false
set_option linter.unusedVariables false
def usZ : Us := ⟨0, 0, 0, 0⟩
def usR (x : Nat) : Us := match fdL x with | some p => usI (dcI p.1 x) | none => usZ
theorem dcR_some {x : Nat} {p : Nm} (h : fdL x = some p) : dcR x = (dcI p.1 x, 0) := by unfold dcR; rw [h]
theorem dcR_none {x : Nat} (h : fdL x = none) : dcR x = (inZ, 250) := by unfold dcR; rw [h]
theorem usR_some {x : Nat} {p : Nm} (h : fdL x = some p) : usR x = usI (dcI p.1 x) := by unfold usR; rw [h]
theorem usR_none {x : Nat} (h : fdL x = none) : usR x = usZ := by unfold usR; rw [h]
theorem lv25a : dcR 3211475 = (⟨7, 0, 0, 0, 1, 2, 3, 0, 0, 0, 0⟩, 0) := by decide +kernel
theorem lv25b : dcR 4262538791 = (⟨2, 0, 0, 0, 0, 2, 1, 0, 0, (-4), 0⟩, 0) := by decide +kernel
theorem lv25c : dcR 0 = (inZ, 250) := by decide +kernel
theorem lv25d : (usR 2216179).rx = 0 ∧ (usR 2216179).rf = 0 ∧ (usR 2216179).wx = 2 ∧ (usR 2216179).wf = 0 ∧ (dcR 2216179).2 = 0 := by decide +kernel
theorem us_ext {a b : Us} (h1 : a.rx = b.rx) (h2 : a.rf = b.rf) (h3 : a.wx = b.wx) (h4 : a.wf = b.wf) : a = b := by
  cases a; cases b; simp_all
theorem lives25 {T : World → Prop} (FB : Box (∀ {w w' : World}, T w → Below w.heap.size w w' → T w')) (CD : ∀ x : Nat, x < 4294967296 → Box (∀ w, T w → Calls Tryd.prog 9 #[.int .u32 (x : Nat)] w fun r w' => r = .returned (.tuple #[.agg (inC (dcR x).1), .int .i64 (dcR x).2]) ∧ Below w.heap.size w w')) (CU : ∀ x : Nat, x < 4294967296 → Box (∀ w, T w → Calls Tryd.prog 11 #[.int .u32 (x : Nat)] w fun r w' => r = .returned (.tuple #[.agg (usC (usR x)), .int .i64 (dcR x).2]) ∧ Below w.heap.size w w')) (w : World) (hT : T w) : Calls Tryd.prog 13 #[] w fun r w' => r = .returned (.bool true) ∧ Below w.heap.size w w' := by
  have F1 := CD 3211475 (by decide)
  have F2 := CD 4262538791 (by decide)
  have F3 := CD 0 (by decide)
  have F4 := CU 2216179 (by decide)
  obtain ⟨d1, d2, d3, d4, d5⟩ := lv25d
  have du : usR 2216179 = ⟨0, 0, 2, 0⟩ := us_ext d1 d2 d3 d4
  rw [lv25a] at F1
  rw [lv25b] at F2
  rw [lv25c] at F3
  rw [du, d5] at F4
  exact dc_lives FB F1 F2 inZ F3 F4 w hT
theorem sg_bnd {a : Nat} (h : a < 4096) : -2048 ≤ sg12 a ∧ sg12 a ≤ 2047 := by
  unfold sg12
  split <;> omega
theorem in_bnd {x : Nat} (hx : x < 4294967296) {p : Nm} (h : fdL x = some p) : ∃ i, dcI p.1 x = i ∧ 1 ≤ i.op ∧ i.op ≤ 31 ∧ i.form < 4 ∧ i.frm < 4 ∧ i.kind < 4 ∧ i.rd < 32 ∧ i.rs1 < 32 ∧ i.rs2 < 32 ∧ i.rs3 < 32 ∧ i.rm < 8 ∧ i.rm ≠ 5 ∧ i.rm ≠ 6 ∧ -2048 ≤ i.imm ∧ i.imm ≤ 2047 ∧ i.csr ≤ 3 := by
  obtain ⟨hm, hf⟩ := fd_mem h
  obtain ⟨l1, l9, o1, o31, f4, g4, k4⟩ := lay24 hm
  refine ⟨_, rfl, o1, o31, f4, g4, k4, ?_⟩
  unfold fitsL at hf
  simp only [Bool.and_eq_true, Bool.not_eq_true', Bool.or_eq_true, decide_eq_true_eq, Bool.and_eq_false_iff, decide_eq_false_iff_not] at hf
  obtain ⟨⟨_, hr⟩, hc⟩ := hf
  have a1 : fld x 7 5 < 32 := fld_lt x 7 5
  have a2 : fld x 15 5 < 32 := fld_lt x 15 5
  have a3 : fld x 20 5 < 32 := fld_lt x 20 5
  have a4 : fld x 27 5 < 32 := fld_lt x 27 5
  have a5 : fld x 12 3 = x / 4096 % 8 := rfl
  have a6 : fld x 20 12 = x / 1048576 % 4096 := rfl
  have a7 : fld x 25 7 < 128 := fld_lt x 25 7
  have a8 : fld x 20 12 < 4096 := fld_lt x 20 12
  have s1 := sg_bnd a8
  have s2 : -2048 ≤ sg12 (32 * fld x 25 7 + fld x 7 5) ∧ sg12 (32 * fld x 25 7 + fld x 7 5) ≤ 2047 := sg_bnd (by omega)
  unfold dcI
  dsimp only
  refine ⟨?_, a2, ?_, ?_, ?_, ?_, ?_, ?_, ?_, ?_⟩
  · split <;> omega
  · split <;> omega
  · split <;> omega
  · split <;> omega
  · split <;> omega
  · split <;> omega
  · split
    · exact s1.1
    · split
      · exact s2.1
      · decide
  · split
    · exact s1.2
    · split
      · exact s2.2
      · decide
  · split <;> omega
theorem xor32u (a b : Nat) (ha : a < 4294967296) (hb : b < 4294967296) : bits .xor .u32 (a : Int) (b : Int) = ((a ^^^ b : Nat) : Int) ∧ a ^^^ b < 4294967296 := by
  have hx : a ^^^ b < 4294967296 := Nat.xor_lt_two_pow (n := 32) ha hb
  have h1 : (BitVec.ofInt 32 (a : Int)).toNat = a := by
    rw [BitVec.ofInt_natCast, BitVec.toNat_ofNat]; exact Nat.mod_eq_of_lt ha
  have h2 : (BitVec.ofInt 32 (b : Int)).toNat = b := by
    rw [BitVec.ofInt_natCast, BitVec.toNat_ofNat]; exact Nat.mod_eq_of_lt hb
  refine ⟨?_, hx⟩
  show IntKind.u32.wrap ((BitVec.ofInt 32 (a : Int) ^^^ BitVec.ofInt 32 (b : Int)).toNat : Int) = _
  rw [BitVec.toNat_xor, h1, h2, show ∀ y : Int, IntKind.u32.wrap y = y % 4294967296 from fun _ => rfl]
  omega

theorem nobit25 {T : World → Prop} (FB : Box (∀ {w w' : World}, T w → Below w.heap.size w w' → T w')) (CD : ∀ x : Nat, x < 4294967296 → Box (∀ w, T w → Calls Tryd.prog 9 #[.int .u32 (x : Nat)] w fun r w' => r = .returned (.tuple #[.agg (inC (dcR x).1), .int .i64 (dcR x).2]) ∧ Below w.heap.size w w')) (KL : Box (∀ w, T w → Calls Tryd.prog 13 #[] w fun r w' => r = .returned (.bool true) ∧ Below w.heap.size w w')) (v t : Nat) (hv : v < 4294967296) (ht : t < 4294967296) (w : World) (hT : T w) : Calls Tryd.prog 7 #[.int .u32 (v : Nat), .int .u32 (t : Nat)] w fun r w' => r = .returned (.bool true) ∧ Below w.heap.size w w' := by
  obtain ⟨hx, hxl⟩ := xor32u v t hv ht
  generalize v ^^^ t = x at hx hxl
  have F1 := CD v hv
  have F2 := CD x hxl
  have z : inCE inZ inZ = true := by decide
  cases h : fdL v with
  | none =>
    rw [dcR_none h] at F1
    cases g : fdL x with
    | none =>
      rw [dcR_none g] at F2
      exact dc_nob_nn FB v t x hx inZ inZ z z F1 F2 KL w hT
    | some q =>
      rw [dcR_some g] at F2
      exact dc_nob_ny FB v t x hx inZ _ z F1 F2 KL w hT
  | some p =>
    rw [dcR_some h] at F1
    cases g : fdL x with
    | none =>
      rw [dcR_none g] at F2
      exact dc_nob_yn FB v t x hx _ inZ z F1 F2 KL w hT
    | some q =>
      rw [dcR_some g] at F2
      refine dc_nob_yy FB v t x hv hx hxl _ _ (decide (v = x)) ?_ ?_ (box ?_) F1 F2 KL (box (fun y hy => (CD y hy).out)) w hT
      · rw [inCE_is, Bool.eq_iff_iff, decide_eq_true_iff, decide_eq_true_iff]
        constructor
        · intro e
          exact no_bit hv hxl h g e
        · intro e
          subst e
          rw [h] at g
          cases g
          rfl
      · rw [Bool.eq_iff_iff, beq_iff_eq, decide_eq_true_iff]
        omega
      · intro k hk
        have hl : v ^^^ 2 ^ k < 4294967296 := Nat.xor_lt_two_pow (n := 32) hv (Nat.pow_lt_pow_right (by decide) hk)
        cases c : fdL (v ^^^ 2 ^ k) with
        | none => exact .inl (by rw [dcR_none c])
        | some r =>
          refine .inr ⟨by rw [dcR_some c], ?_⟩
          rw [dcR_some c, inCE_is]
          refine decide_eq_false (fun e => ?_)
          have e2 := no_bit hl hv c h e
          have e3 : (v ^^^ 2 ^ k).testBit k = v.testBit k := by rw [e2]
          rw [Nat.testBit_xor, Nat.testBit_two_pow_self] at e3
          cases hb : v.testBit k <;> rw [hb] at e3 <;> cases e3
theorem and_low5 (y : Nat) (hy : y < 4294967296) : bits .and .u32 ((y : Nat) : Int) 31 = ((y % 32 : Nat) : Int) := by
  have q := and32t y 31 hy (by decide)
  rw [Nat.and_two_pow_sub_one_eq_mod y 5] at q
  exact q
theorem and_low3 (y : Nat) (hy : y < 4294967296) : bits .and .u32 ((y : Nat) : Int) 7 = ((y % 8 : Nat) : Int) := by
  have q := and32t y 7 hy (by decide)
  rw [Nat.and_two_pow_sub_one_eq_mod y 3] at q
  exact q
theorem five_is (x n : Nat) (hx : x < 4294967296) (k : Nat) (hn : n = 2 ^ k) (m : Int) (hm : m = (n : Int)) : bits .and .u32 ((x : Int) / m) 31 % 256 = ((fld x k 5 : Nat) : Int) := by
  subst hm
  have e : (x : Int) / (n : Int) = ((x / n : Nat) : Int) := (Int.natCast_ediv x n).symm
  rw [e, and_low5 _ (Nat.lt_of_le_of_lt (Nat.div_le_self _ _) hx), hn]
  unfold fld
  have : x / 2 ^ k % 32 < 32 := Nat.mod_lt _ (by decide)
  show ((x / 2 ^ k % 32 : Nat) : Int) % 256 = ((x / 2 ^ k % 32 : Nat) : Int)
  omega
theorem mode_is (x : Nat) (hx : x < 4294967296) : bits .and .u32 ((x : Int) / 4096) 7 % 256 = ((fld x 12 3 : Nat) : Int) := by
  have e : (x : Int) / 4096 = ((x / 4096 : Nat) : Int) := rfl
  rw [e, and_low3 _ (by omega)]
  unfold fld
  show ((x / 4096 % 8 : Nat) : Int) % 256 = ((x / 4096 % 8 : Nat) : Int)
  omega
def sg7 (h : Nat) : Int := if 64 ≤ h then (h : Int) - 128 else (h : Int)
theorem w32_is (x : Nat) (hx : x < 4294967296) : wrap32 (x : Int) = if 2147483648 ≤ x then (x : Int) - 4294967296 else (x : Int) := by
  unfold wrap32
  split <;> omega
theorem wrapi16 (y : Int) (h : -32768 ≤ y ∧ y < 32768) : IntKind.i16.wrap y = y := by
  simp [IntKind.wrap, IntKind.bits, IntKind.signed]
  omega
theorem sg20_is (x : Nat) (hx : x < 4294967296) : IntKind.i16.wrap (wrap32 (x : Int) / 1048576) = sg12 (fld x 20 12) := by
  have e : fld x 20 12 = x / 1048576 % 4096 := rfl
  rw [w32_is x hx, e]
  unfold sg12
  rw [wrapi16]
  · split <;> split <;> omega
  · split <;> omega
theorem sg25_is (x : Nat) (hx : x < 4294967296) : IntKind.i16.wrap (wrap32 (x : Int) / 33554432) = sg7 (fld x 25 7) := by
  have e : fld x 25 7 = x / 33554432 % 128 := rfl
  rw [w32_is x hx, e]
  unfold sg7
  rw [wrapi16]
  · split <;> split <;> omega
  · split <;> omega
theorem st_all : ((List.range 128).all fun h => (List.range 32).all fun d => decide (bits .or .i16 (IntKind.i16.wrap (sg7 h * 32)) (d : Int) = sg12 (32 * h + d))) = true := by decide +kernel
theorem st_is (h d : Nat) (hh : h < 128) (hd : d < 32) : bits .or .i16 (IntKind.i16.wrap (sg7 h * 32)) (d : Int) = sg12 (32 * h + d) :=
  of_decide_eq_true (List.all_eq_true.1 (List.all_eq_true.1 st_all h (List.mem_range.2 hh)) d (List.mem_range.2 hd))
set_option maxRecDepth 100000 in
set_option maxHeartbeats 8000000 in
theorem t_five7 (x : Nat) (hx : x < 4294967296) (w : World) : Calls Tryd.prog 42 #[.int .u32 (x : Nat), .int .i64 7] w fun r w' => r = .returned (.int .u8 (fld x 7 5 : Nat)) ∧ w' = w := by
  have h := five_is x 128 hx 7 (by decide) 128 rfl
  go_enter Tryd.func42, Tryd.ntmps42
  go_wp2
  rw [h]
  go_ret
  exact ⟨rfl, rfl⟩
set_option maxRecDepth 100000 in
set_option maxHeartbeats 8000000 in
theorem t_five15 (x : Nat) (hx : x < 4294967296) (w : World) : Calls Tryd.prog 42 #[.int .u32 (x : Nat), .int .i64 15] w fun r w' => r = .returned (.int .u8 (fld x 15 5 : Nat)) ∧ w' = w := by
  have h := five_is x 32768 hx 15 (by decide) 32768 rfl
  go_enter Tryd.func42, Tryd.ntmps42
  go_wp2
  rw [h]
  go_ret
  exact ⟨rfl, rfl⟩
set_option maxRecDepth 100000 in
set_option maxHeartbeats 8000000 in
theorem t_five20 (x : Nat) (hx : x < 4294967296) (w : World) : Calls Tryd.prog 42 #[.int .u32 (x : Nat), .int .i64 20] w fun r w' => r = .returned (.int .u8 (fld x 20 5 : Nat)) ∧ w' = w := by
  have h := five_is x 1048576 hx 20 (by decide) 1048576 rfl
  go_enter Tryd.func42, Tryd.ntmps42
  go_wp2
  rw [h]
  go_ret
  exact ⟨rfl, rfl⟩
set_option maxRecDepth 100000 in
set_option maxHeartbeats 8000000 in
theorem t_five27 (x : Nat) (hx : x < 4294967296) (w : World) : Calls Tryd.prog 42 #[.int .u32 (x : Nat), .int .i64 27] w fun r w' => r = .returned (.int .u8 (fld x 27 5 : Nat)) ∧ w' = w := by
  have h := five_is x 134217728 hx 27 (by decide) 134217728 rfl
  go_enter Tryd.func42, Tryd.ntmps42
  go_wp2
  rw [h]
  go_ret
  exact ⟨rfl, rfl⟩
set_option maxRecDepth 100000 in
set_option maxHeartbeats 8000000 in
theorem t_mode (x : Nat) (hx : x < 4294967296) (w : World) : Calls Tryd.prog 46 #[.int .u32 (x : Nat)] w fun r w' => r = .returned (.int .u8 (fld x 12 3 : Nat)) ∧ w' = w := by
  have h := mode_is x hx
  go_enter Tryd.func46, Tryd.ntmps46
  go_wp2
  rw [h]
  go_ret
  exact ⟨rfl, rfl⟩
set_option maxRecDepth 100000 in
set_option maxHeartbeats 8000000 in
theorem t_signed20 (x : Nat) (hx : x < 4294967296) (w : World) : Calls Tryd.prog 43 #[.int .u32 (x : Nat), .int .i64 20] w fun r w' => r = .returned (.int .i16 (sg12 (fld x 20 12))) ∧ w' = w := by
  have h := sg20_is x hx
  go_enter Tryd.func43, Tryd.ntmps43
  go_wp2
  go_ret
  exact ⟨rfl, rfl⟩
set_option maxRecDepth 100000 in
set_option maxHeartbeats 8000000 in
theorem t_signed25 (x : Nat) (hx : x < 4294967296) (w : World) : Calls Tryd.prog 43 #[.int .u32 (x : Nat), .int .i64 25] w fun r w' => r = .returned (.int .i16 (sg7 (fld x 25 7))) ∧ w' = w := by
  have h := sg25_is x hx
  go_enter Tryd.func43, Tryd.ntmps43
  go_wp2
  go_ret
  exact ⟨rfl, rfl⟩
def Rd (b : Nat) (T : TypeId) (j : In) (w : World) (r : Ending) (w' : World) : Prop := (∃ v, r = .returned v) ∧ w'.heap[b]? = some (.cells (inC j) T) ∧ ∀ n, n ≤ b → Below n w w'
set_option maxRecDepth 100000 in
set_option maxHeartbeats 8000000 in
theorem t_rd1 (x : Nat) (hx : x < 4294967296) (i : In) (b : Nat) (T : TypeId) (w : World) (h0 : w.heap[b]? = some (.cells (inC i) T)) : Calls Tryd.prog 41 #[.int .u32 (x : Nat), .pointer (some ⟨b, 0, none⟩)] w (Rd b T ⟨i.op, i.form, i.frm, i.kind, fld x 7 5, fld x 15 5, i.rs2, i.rs3, i.rm, sg12 (fld x 20 12), i.csr⟩ w) := by
  go_enter Tryd.func41, Tryd.ntmps41
  go_wp2_with fail
  refine (t_five7 x hx _).mono ?_
  rintro r w1 ⟨rfl, hw1⟩
  rw [hw1]
  clear hw1 w1
  go_wp2_with fail
  refine (t_five15 x hx _).mono ?_
  rintro r w1 ⟨rfl, hw1⟩
  rw [hw1]
  clear hw1 w1
  have f0 := fz (k := 4) h0
  have c0 := cell7 h0 4 _ rfl
  have h1 : (w.setCell ⟨b, 4, none⟩ (.int .u8 (fld x 7 5 : Nat))).heap[b]? = some (.cells (inC ⟨i.op, i.form, i.frm, i.kind, fld x 7 5, i.rs1, i.rs2, i.rs3, i.rm, i.imm, i.csr⟩) T) := by rw [setCell_row h0]; rfl
  have f1 := fz (k := 5) h1
  have c1 := cell7 h1 5 _ rfl
  have h2 : ((w.setCell ⟨b, 4, none⟩ (.int .u8 (fld x 7 5 : Nat))).setCell ⟨b, 5, none⟩ (.int .u8 (fld x 15 5 : Nat))).heap[b]? = some (.cells (inC ⟨i.op, i.form, i.frm, i.kind, fld x 7 5, fld x 15 5, i.rs2, i.rs3, i.rm, i.imm, i.csr⟩) T) := by rw [setCell_row h1]; rfl
  go_wp2_with fail
  refine (t_signed20 x hx _).mono ?_
  rintro r w1 ⟨rfl, hw1⟩
  rw [hw1]
  clear hw1 w1
  have f2 := fz (k := 9) h2
  have c2 := cell7 h2 9 _ rfl
  have h3 : (((w.setCell ⟨b, 4, none⟩ (.int .u8 (fld x 7 5 : Nat))).setCell ⟨b, 5, none⟩ (.int .u8 (fld x 15 5 : Nat))).setCell ⟨b, 9, none⟩ (.int .i16 (sg12 (fld x 20 12)))).heap[b]? = some (.cells (inC ⟨i.op, i.form, i.frm, i.kind, fld x 7 5, fld x 15 5, i.rs2, i.rs3, i.rm, sg12 (fld x 20 12), i.csr⟩) T) := by rw [setCell_row h2]; rfl
  go_wp2
  first | go_end0 | go_ret
  exact ⟨⟨_, rfl⟩, h3, fun n hn => (((Below.refl _ w).setCell (by exact hn) _).setCell (by exact hn) _).setCell (by exact hn) _⟩
set_option maxRecDepth 100000 in
set_option maxHeartbeats 8000000 in
theorem t_rd2 (x : Nat) (hx : x < 4294967296) (i : In) (b : Nat) (T : TypeId) (w : World) (h0 : w.heap[b]? = some (.cells (inC i) T)) : Calls Tryd.prog 44 #[.int .u32 (x : Nat), .pointer (some ⟨b, 0, none⟩)] w (Rd b T ⟨i.op, i.form, i.frm, i.kind, i.rd, fld x 15 5, fld x 20 5, i.rs3, i.rm, sg12 (32 * fld x 25 7 + fld x 7 5), i.csr⟩ w) := by
  have hst : bits .or .i16 (IntKind.i16.wrap (sg7 (fld x 25 7) * 32)) ((fld x 7 5 : Nat) : Int) = sg12 (32 * fld x 25 7 + fld x 7 5) := st_is _ _ (fld_lt x 25 7) (fld_lt x 7 5)
  have hm7 : IntKind.i16.wrap ((fld x 7 5 : Nat) : Int) = ((fld x 7 5 : Nat) : Int) := by have : fld x 7 5 < 32 := fld_lt x 7 5; exact wrapi16 _ (by omega)
  go_enter Tryd.func44, Tryd.ntmps44
  go_wp2_with fail
  refine (t_five15 x hx _).mono ?_
  rintro r w1 ⟨rfl, hw1⟩
  rw [hw1]
  clear hw1 w1
  go_wp2_with fail
  refine (t_five20 x hx _).mono ?_
  rintro r w1 ⟨rfl, hw1⟩
  rw [hw1]
  clear hw1 w1
  have f0 := fz (k := 5) h0
  have c0 := cell7 h0 5 _ rfl
  have h1 : (w.setCell ⟨b, 5, none⟩ (.int .u8 (fld x 15 5 : Nat))).heap[b]? = some (.cells (inC ⟨i.op, i.form, i.frm, i.kind, i.rd, fld x 15 5, i.rs2, i.rs3, i.rm, i.imm, i.csr⟩) T) := by rw [setCell_row h0]; rfl
  have f1 := fz (k := 6) h1
  have c1 := cell7 h1 6 _ rfl
  have h2 : ((w.setCell ⟨b, 5, none⟩ (.int .u8 (fld x 15 5 : Nat))).setCell ⟨b, 6, none⟩ (.int .u8 (fld x 20 5 : Nat))).heap[b]? = some (.cells (inC ⟨i.op, i.form, i.frm, i.kind, i.rd, fld x 15 5, fld x 20 5, i.rs3, i.rm, i.imm, i.csr⟩) T) := by rw [setCell_row h1]; rfl
  go_wp2_with fail
  refine (t_signed25 x hx _).mono ?_
  rintro r w1 ⟨rfl, hw1⟩
  rw [hw1]
  clear hw1 w1
  go_wp2_with fail
  refine (t_five7 x hx _).mono ?_
  rintro r w1 ⟨rfl, hw1⟩
  rw [hw1]
  clear hw1 w1
  have f2 := fz (k := 9) h2
  have c2 := cell7 h2 9 _ rfl
  have h3 : (((w.setCell ⟨b, 5, none⟩ (.int .u8 (fld x 15 5 : Nat))).setCell ⟨b, 6, none⟩ (.int .u8 (fld x 20 5 : Nat))).setCell ⟨b, 9, none⟩ (.int .i16 (sg12 (32 * fld x 25 7 + fld x 7 5)))).heap[b]? = some (.cells (inC ⟨i.op, i.form, i.frm, i.kind, i.rd, fld x 15 5, fld x 20 5, i.rs3, i.rm, sg12 (32 * fld x 25 7 + fld x 7 5), i.csr⟩) T) := by rw [setCell_row h2]; rfl
  go_wp2
  first | go_end0 | go_ret
  exact ⟨⟨_, rfl⟩, h3, fun n hn => (((Below.refl _ w).setCell (by exact hn) _).setCell (by exact hn) _).setCell (by exact hn) _⟩
set_option maxRecDepth 100000 in
set_option maxHeartbeats 8000000 in
theorem t_rd3 (x : Nat) (hx : x < 4294967296) (i : In) (b : Nat) (T : TypeId) (w : World) (h0 : w.heap[b]? = some (.cells (inC i) T)) : Calls Tryd.prog 45 #[.int .u32 (x : Nat), .pointer (some ⟨b, 0, none⟩)] w (Rd b T ⟨i.op, i.form, i.frm, i.kind, fld x 7 5, fld x 15 5, fld x 20 5, fld x 27 5, fld x 12 3, i.imm, i.csr⟩ w) := by
  go_enter Tryd.func45, Tryd.ntmps45
  go_wp2_with fail
  refine (t_five7 x hx _).mono ?_
  rintro r w1 ⟨rfl, hw1⟩
  rw [hw1]
  clear hw1 w1
  go_wp2_with fail
  refine (t_five15 x hx _).mono ?_
  rintro r w1 ⟨rfl, hw1⟩
  rw [hw1]
  clear hw1 w1
  go_wp2_with fail
  refine (t_five20 x hx _).mono ?_
  rintro r w1 ⟨rfl, hw1⟩
  rw [hw1]
  clear hw1 w1
  go_wp2_with fail
  refine (t_five27 x hx _).mono ?_
  rintro r w1 ⟨rfl, hw1⟩
  rw [hw1]
  clear hw1 w1
  have f0 := fz (k := 4) h0
  have c0 := cell7 h0 4 _ rfl
  have h1 : (w.setCell ⟨b, 4, none⟩ (.int .u8 (fld x 7 5 : Nat))).heap[b]? = some (.cells (inC ⟨i.op, i.form, i.frm, i.kind, fld x 7 5, i.rs1, i.rs2, i.rs3, i.rm, i.imm, i.csr⟩) T) := by rw [setCell_row h0]; rfl
  have f1 := fz (k := 5) h1
  have c1 := cell7 h1 5 _ rfl
  have h2 : ((w.setCell ⟨b, 4, none⟩ (.int .u8 (fld x 7 5 : Nat))).setCell ⟨b, 5, none⟩ (.int .u8 (fld x 15 5 : Nat))).heap[b]? = some (.cells (inC ⟨i.op, i.form, i.frm, i.kind, fld x 7 5, fld x 15 5, i.rs2, i.rs3, i.rm, i.imm, i.csr⟩) T) := by rw [setCell_row h1]; rfl
  have f2 := fz (k := 6) h2
  have c2 := cell7 h2 6 _ rfl
  have h3 : (((w.setCell ⟨b, 4, none⟩ (.int .u8 (fld x 7 5 : Nat))).setCell ⟨b, 5, none⟩ (.int .u8 (fld x 15 5 : Nat))).setCell ⟨b, 6, none⟩ (.int .u8 (fld x 20 5 : Nat))).heap[b]? = some (.cells (inC ⟨i.op, i.form, i.frm, i.kind, fld x 7 5, fld x 15 5, fld x 20 5, i.rs3, i.rm, i.imm, i.csr⟩) T) := by rw [setCell_row h2]; rfl
  have f3 := fz (k := 7) h3
  have c3 := cell7 h3 7 _ rfl
  have h4 : ((((w.setCell ⟨b, 4, none⟩ (.int .u8 (fld x 7 5 : Nat))).setCell ⟨b, 5, none⟩ (.int .u8 (fld x 15 5 : Nat))).setCell ⟨b, 6, none⟩ (.int .u8 (fld x 20 5 : Nat))).setCell ⟨b, 7, none⟩ (.int .u8 (fld x 27 5 : Nat))).heap[b]? = some (.cells (inC ⟨i.op, i.form, i.frm, i.kind, fld x 7 5, fld x 15 5, fld x 20 5, fld x 27 5, i.rm, i.imm, i.csr⟩) T) := by rw [setCell_row h3]; rfl
  go_wp2_with fail
  refine (t_mode x hx _).mono ?_
  rintro r w1 ⟨rfl, hw1⟩
  rw [hw1]
  clear hw1 w1
  have f4 := fz (k := 8) h4
  have c4 := cell7 h4 8 _ rfl
  have h5 : (((((w.setCell ⟨b, 4, none⟩ (.int .u8 (fld x 7 5 : Nat))).setCell ⟨b, 5, none⟩ (.int .u8 (fld x 15 5 : Nat))).setCell ⟨b, 6, none⟩ (.int .u8 (fld x 20 5 : Nat))).setCell ⟨b, 7, none⟩ (.int .u8 (fld x 27 5 : Nat))).setCell ⟨b, 8, none⟩ (.int .u8 (fld x 12 3 : Nat))).heap[b]? = some (.cells (inC ⟨i.op, i.form, i.frm, i.kind, fld x 7 5, fld x 15 5, fld x 20 5, fld x 27 5, fld x 12 3, i.imm, i.csr⟩) T) := by rw [setCell_row h4]; rfl
  go_wp2
  first | go_end0 | go_ret
  exact ⟨⟨_, rfl⟩, h5, fun n hn => (((((Below.refl _ w).setCell (by exact hn) _).setCell (by exact hn) _).setCell (by exact hn) _).setCell (by exact hn) _).setCell (by exact hn) _⟩
set_option maxRecDepth 100000 in
set_option maxHeartbeats 8000000 in
theorem t_rd4 (x : Nat) (hx : x < 4294967296) (i : In) (b : Nat) (T : TypeId) (w : World) (h0 : w.heap[b]? = some (.cells (inC i) T)) : Calls Tryd.prog 47 #[.int .u32 (x : Nat), .pointer (some ⟨b, 0, none⟩)] w (Rd b T ⟨i.op, i.form, i.frm, i.kind, fld x 7 5, fld x 15 5, fld x 20 5, i.rs3, fld x 12 3, i.imm, i.csr⟩ w) := by
  go_enter Tryd.func47, Tryd.ntmps47
  go_wp2_with fail
  refine (t_five7 x hx _).mono ?_
  rintro r w1 ⟨rfl, hw1⟩
  rw [hw1]
  clear hw1 w1
  go_wp2_with fail
  refine (t_five15 x hx _).mono ?_
  rintro r w1 ⟨rfl, hw1⟩
  rw [hw1]
  clear hw1 w1
  go_wp2_with fail
  refine (t_five20 x hx _).mono ?_
  rintro r w1 ⟨rfl, hw1⟩
  rw [hw1]
  clear hw1 w1
  have f0 := fz (k := 4) h0
  have c0 := cell7 h0 4 _ rfl
  have h1 : (w.setCell ⟨b, 4, none⟩ (.int .u8 (fld x 7 5 : Nat))).heap[b]? = some (.cells (inC ⟨i.op, i.form, i.frm, i.kind, fld x 7 5, i.rs1, i.rs2, i.rs3, i.rm, i.imm, i.csr⟩) T) := by rw [setCell_row h0]; rfl
  have f1 := fz (k := 5) h1
  have c1 := cell7 h1 5 _ rfl
  have h2 : ((w.setCell ⟨b, 4, none⟩ (.int .u8 (fld x 7 5 : Nat))).setCell ⟨b, 5, none⟩ (.int .u8 (fld x 15 5 : Nat))).heap[b]? = some (.cells (inC ⟨i.op, i.form, i.frm, i.kind, fld x 7 5, fld x 15 5, i.rs2, i.rs3, i.rm, i.imm, i.csr⟩) T) := by rw [setCell_row h1]; rfl
  have f2 := fz (k := 6) h2
  have c2 := cell7 h2 6 _ rfl
  have h3 : (((w.setCell ⟨b, 4, none⟩ (.int .u8 (fld x 7 5 : Nat))).setCell ⟨b, 5, none⟩ (.int .u8 (fld x 15 5 : Nat))).setCell ⟨b, 6, none⟩ (.int .u8 (fld x 20 5 : Nat))).heap[b]? = some (.cells (inC ⟨i.op, i.form, i.frm, i.kind, fld x 7 5, fld x 15 5, fld x 20 5, i.rs3, i.rm, i.imm, i.csr⟩) T) := by rw [setCell_row h2]; rfl
  go_wp2_with fail
  refine (t_mode x hx _).mono ?_
  rintro r w1 ⟨rfl, hw1⟩
  rw [hw1]
  clear hw1 w1
  have f3 := fz (k := 8) h3
  have c3 := cell7 h3 8 _ rfl
  have h4 : ((((w.setCell ⟨b, 4, none⟩ (.int .u8 (fld x 7 5 : Nat))).setCell ⟨b, 5, none⟩ (.int .u8 (fld x 15 5 : Nat))).setCell ⟨b, 6, none⟩ (.int .u8 (fld x 20 5 : Nat))).setCell ⟨b, 8, none⟩ (.int .u8 (fld x 12 3 : Nat))).heap[b]? = some (.cells (inC ⟨i.op, i.form, i.frm, i.kind, fld x 7 5, fld x 15 5, fld x 20 5, i.rs3, fld x 12 3, i.imm, i.csr⟩) T) := by rw [setCell_row h3]; rfl
  go_wp2
  first | go_end0 | go_ret
  exact ⟨⟨_, rfl⟩, h4, fun n hn => ((((Below.refl _ w).setCell (by exact hn) _).setCell (by exact hn) _).setCell (by exact hn) _).setCell (by exact hn) _⟩
set_option maxRecDepth 100000 in
set_option maxHeartbeats 8000000 in
theorem t_rd5 (x : Nat) (hx : x < 4294967296) (i : In) (b : Nat) (T : TypeId) (w : World) (h0 : w.heap[b]? = some (.cells (inC i) T)) : Calls Tryd.prog 48 #[.int .u32 (x : Nat), .pointer (some ⟨b, 0, none⟩)] w (Rd b T ⟨i.op, i.form, i.frm, i.kind, fld x 7 5, fld x 15 5, fld x 20 5, i.rs3, i.rm, i.imm, i.csr⟩ w) := by
  go_enter Tryd.func48, Tryd.ntmps48
  go_wp2_with fail
  refine (t_five7 x hx _).mono ?_
  rintro r w1 ⟨rfl, hw1⟩
  rw [hw1]
  clear hw1 w1
  go_wp2_with fail
  refine (t_five15 x hx _).mono ?_
  rintro r w1 ⟨rfl, hw1⟩
  rw [hw1]
  clear hw1 w1
  go_wp2_with fail
  refine (t_five20 x hx _).mono ?_
  rintro r w1 ⟨rfl, hw1⟩
  rw [hw1]
  clear hw1 w1
  have f0 := fz (k := 4) h0
  have c0 := cell7 h0 4 _ rfl
  have h1 : (w.setCell ⟨b, 4, none⟩ (.int .u8 (fld x 7 5 : Nat))).heap[b]? = some (.cells (inC ⟨i.op, i.form, i.frm, i.kind, fld x 7 5, i.rs1, i.rs2, i.rs3, i.rm, i.imm, i.csr⟩) T) := by rw [setCell_row h0]; rfl
  have f1 := fz (k := 5) h1
  have c1 := cell7 h1 5 _ rfl
  have h2 : ((w.setCell ⟨b, 4, none⟩ (.int .u8 (fld x 7 5 : Nat))).setCell ⟨b, 5, none⟩ (.int .u8 (fld x 15 5 : Nat))).heap[b]? = some (.cells (inC ⟨i.op, i.form, i.frm, i.kind, fld x 7 5, fld x 15 5, i.rs2, i.rs3, i.rm, i.imm, i.csr⟩) T) := by rw [setCell_row h1]; rfl
  have f2 := fz (k := 6) h2
  have c2 := cell7 h2 6 _ rfl
  have h3 : (((w.setCell ⟨b, 4, none⟩ (.int .u8 (fld x 7 5 : Nat))).setCell ⟨b, 5, none⟩ (.int .u8 (fld x 15 5 : Nat))).setCell ⟨b, 6, none⟩ (.int .u8 (fld x 20 5 : Nat))).heap[b]? = some (.cells (inC ⟨i.op, i.form, i.frm, i.kind, fld x 7 5, fld x 15 5, fld x 20 5, i.rs3, i.rm, i.imm, i.csr⟩) T) := by rw [setCell_row h2]; rfl
  go_wp2
  first | go_end0 | go_ret
  exact ⟨⟨_, rfl⟩, h3, fun n hn => (((Below.refl _ w).setCell (by exact hn) _).setCell (by exact hn) _).setCell (by exact hn) _⟩
set_option maxRecDepth 100000 in
set_option maxHeartbeats 8000000 in
theorem t_rd6 (x : Nat) (hx : x < 4294967296) (i : In) (b : Nat) (T : TypeId) (w : World) (h0 : w.heap[b]? = some (.cells (inC i) T)) : Calls Tryd.prog 49 #[.int .u32 (x : Nat), .pointer (some ⟨b, 0, none⟩)] w (Rd b T ⟨i.op, i.form, i.frm, i.kind, fld x 7 5, fld x 15 5, i.rs2, i.rs3, fld x 12 3, i.imm, i.csr⟩ w) := by
  go_enter Tryd.func49, Tryd.ntmps49
  go_wp2_with fail
  refine (t_five7 x hx _).mono ?_
  rintro r w1 ⟨rfl, hw1⟩
  rw [hw1]
  clear hw1 w1
  go_wp2_with fail
  refine (t_five15 x hx _).mono ?_
  rintro r w1 ⟨rfl, hw1⟩
  rw [hw1]
  clear hw1 w1
  have f0 := fz (k := 4) h0
  have c0 := cell7 h0 4 _ rfl
  have h1 : (w.setCell ⟨b, 4, none⟩ (.int .u8 (fld x 7 5 : Nat))).heap[b]? = some (.cells (inC ⟨i.op, i.form, i.frm, i.kind, fld x 7 5, i.rs1, i.rs2, i.rs3, i.rm, i.imm, i.csr⟩) T) := by rw [setCell_row h0]; rfl
  have f1 := fz (k := 5) h1
  have c1 := cell7 h1 5 _ rfl
  have h2 : ((w.setCell ⟨b, 4, none⟩ (.int .u8 (fld x 7 5 : Nat))).setCell ⟨b, 5, none⟩ (.int .u8 (fld x 15 5 : Nat))).heap[b]? = some (.cells (inC ⟨i.op, i.form, i.frm, i.kind, fld x 7 5, fld x 15 5, i.rs2, i.rs3, i.rm, i.imm, i.csr⟩) T) := by rw [setCell_row h1]; rfl
  go_wp2_with fail
  refine (t_mode x hx _).mono ?_
  rintro r w1 ⟨rfl, hw1⟩
  rw [hw1]
  clear hw1 w1
  have f2 := fz (k := 8) h2
  have c2 := cell7 h2 8 _ rfl
  have h3 : (((w.setCell ⟨b, 4, none⟩ (.int .u8 (fld x 7 5 : Nat))).setCell ⟨b, 5, none⟩ (.int .u8 (fld x 15 5 : Nat))).setCell ⟨b, 8, none⟩ (.int .u8 (fld x 12 3 : Nat))).heap[b]? = some (.cells (inC ⟨i.op, i.form, i.frm, i.kind, fld x 7 5, fld x 15 5, i.rs2, i.rs3, fld x 12 3, i.imm, i.csr⟩) T) := by rw [setCell_row h2]; rfl
  go_wp2
  first | go_end0 | go_ret
  exact ⟨⟨_, rfl⟩, h3, fun n hn => (((Below.refl _ w).setCell (by exact hn) _).setCell (by exact hn) _).setCell (by exact hn) _⟩
set_option maxRecDepth 100000 in
set_option maxHeartbeats 8000000 in
theorem t_rd7 (x : Nat) (hx : x < 4294967296) (i : In) (b : Nat) (T : TypeId) (w : World) (h0 : w.heap[b]? = some (.cells (inC i) T)) : Calls Tryd.prog 50 #[.int .u32 (x : Nat), .pointer (some ⟨b, 0, none⟩)] w (Rd b T ⟨i.op, i.form, i.frm, i.kind, fld x 7 5, fld x 15 5, i.rs2, i.rs3, i.rm, i.imm, i.csr⟩ w) := by
  go_enter Tryd.func50, Tryd.ntmps50
  go_wp2_with fail
  refine (t_five7 x hx _).mono ?_
  rintro r w1 ⟨rfl, hw1⟩
  rw [hw1]
  clear hw1 w1
  go_wp2_with fail
  refine (t_five15 x hx _).mono ?_
  rintro r w1 ⟨rfl, hw1⟩
  rw [hw1]
  clear hw1 w1
  have f0 := fz (k := 4) h0
  have c0 := cell7 h0 4 _ rfl
  have h1 : (w.setCell ⟨b, 4, none⟩ (.int .u8 (fld x 7 5 : Nat))).heap[b]? = some (.cells (inC ⟨i.op, i.form, i.frm, i.kind, fld x 7 5, i.rs1, i.rs2, i.rs3, i.rm, i.imm, i.csr⟩) T) := by rw [setCell_row h0]; rfl
  have f1 := fz (k := 5) h1
  have c1 := cell7 h1 5 _ rfl
  have h2 : ((w.setCell ⟨b, 4, none⟩ (.int .u8 (fld x 7 5 : Nat))).setCell ⟨b, 5, none⟩ (.int .u8 (fld x 15 5 : Nat))).heap[b]? = some (.cells (inC ⟨i.op, i.form, i.frm, i.kind, fld x 7 5, fld x 15 5, i.rs2, i.rs3, i.rm, i.imm, i.csr⟩) T) := by rw [setCell_row h1]; rfl
  go_wp2
  first | go_end0 | go_ret
  exact ⟨⟨_, rfl⟩, h2, fun n hn => ((Below.refl _ w).setCell (by exact hn) _).setCell (by exact hn) _⟩
set_option maxRecDepth 100000 in
set_option maxHeartbeats 8000000 in
theorem t_rd8 (x : Nat) (hx : x < 4294967296) (hc3 : fld x 20 12 ≤ 3) (i : In) (b : Nat) (T : TypeId) (w : World) (h0 : w.heap[b]? = some (.cells (inC i) T)) : Calls Tryd.prog 51 #[.int .u32 (x : Nat), .pointer (some ⟨b, 0, none⟩)] w (Rd b T ⟨i.op, i.form, i.frm, i.kind, fld x 7 5, fld x 15 5, i.rs2, i.rs3, i.rm, i.imm, fld x 20 12⟩ w) := by
  have hcs : (x : Int) / 1048576 % 256 = ((fld x 20 12 : Nat) : Int) := by
    have e : fld x 20 12 = x / 1048576 % 4096 := rfl
    omega
  go_enter Tryd.func51, Tryd.ntmps51
  go_wp2_with fail
  refine (t_five7 x hx _).mono ?_
  rintro r w1 ⟨rfl, hw1⟩
  rw [hw1]
  clear hw1 w1
  go_wp2_with fail
  refine (t_five15 x hx _).mono ?_
  rintro r w1 ⟨rfl, hw1⟩
  rw [hw1]
  clear hw1 w1
  have f0 := fz (k := 4) h0
  have c0 := cell7 h0 4 _ rfl
  have h1 : (w.setCell ⟨b, 4, none⟩ (.int .u8 (fld x 7 5 : Nat))).heap[b]? = some (.cells (inC ⟨i.op, i.form, i.frm, i.kind, fld x 7 5, i.rs1, i.rs2, i.rs3, i.rm, i.imm, i.csr⟩) T) := by rw [setCell_row h0]; rfl
  have f1 := fz (k := 5) h1
  have c1 := cell7 h1 5 _ rfl
  have h2 : ((w.setCell ⟨b, 4, none⟩ (.int .u8 (fld x 7 5 : Nat))).setCell ⟨b, 5, none⟩ (.int .u8 (fld x 15 5 : Nat))).heap[b]? = some (.cells (inC ⟨i.op, i.form, i.frm, i.kind, fld x 7 5, fld x 15 5, i.rs2, i.rs3, i.rm, i.imm, i.csr⟩) T) := by rw [setCell_row h1]; rfl
  have f2 := fz (k := 10) h2
  have c2 := cell7 h2 10 _ rfl
  have h3 : (((w.setCell ⟨b, 4, none⟩ (.int .u8 (fld x 7 5 : Nat))).setCell ⟨b, 5, none⟩ (.int .u8 (fld x 15 5 : Nat))).setCell ⟨b, 10, none⟩ (.int .u8 (fld x 20 12 : Nat))).heap[b]? = some (.cells (inC ⟨i.op, i.form, i.frm, i.kind, fld x 7 5, fld x 15 5, i.rs2, i.rs3, i.rm, i.imm, fld x 20 12⟩) T) := by rw [setCell_row h2]; rfl
  go_wp2
  first | go_end0 | go_ret
  exact ⟨⟨_, rfl⟩, h3, fun n hn => (((Below.refl _ w).setCell (by exact hn) _).setCell (by exact hn) _).setCell (by exact hn) _⟩
def rdrs : Array Value := #[.func (.func 40) #[] #[], .func (.func 41) #[] #[], .func (.func 44) #[] #[], .func (.func 45) #[] #[], .func (.func 47) #[] #[], .func (.func 48) #[] #[], .func (.func 49) #[] #[], .func (.func 50) #[] #[], .func (.func 51) #[] #[], .func (.func 51) #[] #[]]
theorem rdrs_fold : #[Value.func (.func 40) #[] #[], .func (.func 41) #[] #[], .func (.func 44) #[] #[], .func (.func 45) #[] #[], .func (.func 47) #[] #[], .func (.func 48) #[] #[], .func (.func 49) #[] #[], .func (.func 50) #[] #[], .func (.func 51) #[] #[], .func (.func 51) #[] #[]] = rdrs := rfl
theorem rdrs_store {w : World} {b : Nat} {c : Array Value} {T : TypeId} (h : w.heap[b]? = some (.cells c T)) (hc : c.size = 10) : (storeCells ⟨b, 0, none⟩ rdrs.toList 0).run Tryd.prog w = .ok () (w.setRow b rdrs) := by
  have := run_storeCells_from (P := Tryd.prog) b T rdrs.toList 0 c w h (by simp [rdrs, hc]) (fun v hv => by
    simp [rdrs] at hv
    rcases hv with rfl | rfl | rfl | rfl | rfl | rfl | rfl | rfl | rfl <;> rfl)
  have e : List.drop 10 c.toList = [] := List.drop_eq_nil_of_le (by rw [Array.length_toList, hc]; exact Nat.le_refl _)
  simpa [rdrs, e] using this
theorem rdrs_lv {w : World} {b : Nat} {T : TypeId} (h : w.heap[b]? = some (.cells rdrs T)) : (loadVar 71 ⟨b, 0, none⟩).run Tryd.prog w = .ok (.agg rdrs) w := by
  have ha : (isAgg 71).run Tryd.prog w = .ok true w := by kernel_rfl
  have hs : (sizeOf 71).run Tryd.prog w = .ok 10 w := by kernel_rfl
  have q := run_loadCells_list (P := Tryd.prog) w ⟨b, 0, none⟩ rdrs.toList (fun j v hv => by
    have hadd : (⟨b, 0, none⟩ : Addr).add j = ⟨b, j, none⟩ := by unfold Addr.add; split <;> simp_all
    rw [hadd]
    exact cell7 h j v (by simpa using hv))
  rw [Array.length_toList, show rdrs.size = 10 from rfl] at q
  simp only [Sem.run_bind, Sem.run_pure, Result.andThen, loadVar, ha, hs, if_true, q]
theorem res_rdrs {fn : Func} {z : Tmp} (h : fn.results = #[.cell z 71]) {tmps : Array Value} {w : World} {b : Nat} {T : TypeId} (hz : tmps.getD z undef = .pointer (some ⟨b, 0, none⟩)) (hr : w.heap[b]? = some (.cells rdrs T)) : (results fn tmps).run Tryd.prog w = .ok (.agg rdrs) w := by
  have q := rdrs_lv hr
  have hz2 : tmps[z]?.getD undef = .pointer (some ⟨b, 0, none⟩) := by rw [← Array.getD_eq_getD_getElem?]; exact hz
  simp [results, h, hz2, asAddr, q, Result.andThen]
set_option maxRecDepth 100000 in
set_option maxHeartbeats 8000000 in
theorem t_readers (w : World) : Calls Tryd.prog 24 #[] w fun r w' => r = .returned (.agg rdrs) ∧ Below w.heap.size w w' := by
  have hf := rdrs_fold
  obtain ⟨Rz_0, B0⟩ := opn1 w (Obj.cells #[.nilFunc, .nilFunc, .nilFunc, .nilFunc, .nilFunc, .nilFunc, .nilFunc, .nilFunc, .nilFunc, .nilFunc] 71)
  go_enter Tryd.func24, Tryd.ntmps24
  have hst := rdrs_store Rz_0 rfl
  have rz := setRow_row (c' := rdrs) Rz_0
  have bz : Below w.heap.size w ((w.alloc (Obj.cells #[.nilFunc, .nilFunc, .nilFunc, .nilFunc, .nilFunc, .nilFunc, .nilFunc, .nilFunc, .nilFunc, .nilFunc] 71)).setRow w.heap.size rdrs) := Below.setRow B0 (Nat.le_refl _)
  obtain ⟨wz, hwz⟩ : ∃ V, (w.alloc (Obj.cells #[.nilFunc, .nilFunc, .nilFunc, .nilFunc, .nilFunc, .nilFunc, .nilFunc, .nilFunc, .nilFunc, .nilFunc] 71)).setRow w.heap.size rdrs = V := ⟨_, rfl⟩
  rw [hwz] at hst rz bz
  clear hwz
  go_wp2
  exact bodyPost_ret (v := .agg rdrs) (res_rdrs Tryd.results24 rfl rz) rfl ⟨rfl, bz⟩
end Go.Proofs.YtamlcgmipdcgjaaDoor
