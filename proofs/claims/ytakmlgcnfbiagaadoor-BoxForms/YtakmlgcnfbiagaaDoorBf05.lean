/-
  What the functions that the statement reaches return: part 5 (JK, JL, SL22).
-/
import Derived.Deep.RegionHeld3
import Derived.Test.YtakmlgcnfbiagaaDoorRows
import Derived.OpenShut
import Derived.LaidMore
import Derived.Lib.LaidTab
import Derived.Stop.Joined
import Derived.Stop.LaidErr
import Derived.Test.YtakmlgcnfbiagaaDoorBf04
namespace Go.Proofs.YtakmlgcnfbiagaaDoor
set_option maxRecDepth 100000
set_option maxHeartbeats 40000000
set_option maxRecDepth 100000
open Go.RowKit WMath
set_option linter.unusedSimpArgs false
set_option linter.unusedVariables false
theorem bx_join (a b c d H L : Int) (hH : bits .or .u64 a c = H) (hL : bits .or .u64 b d = L) (w : World) : Calls Tryd.prog 28 #[.agg #[.int .u64 a, .int .u64 b], .agg #[.int .u64 c, .int .u64 d]] w fun r w' => r = .returned (.agg #[.int .u64 H, .int .u64 L]) ∧ Below w.heap.size w w' := by
  go_enter Tryd.func28, Tryd.ntmps28
  go_wp2
  exact bodyPost_ret (v := .agg #[.int .u64 H, .int .u64 L]) (by simp [results, Tryd.results28, go_sem]) rfl ⟨rfl, ((bal7 _ _).alloc (by simp only [size_al]; omega) _).alloc (by simp only [size_al]; omega) _⟩
set_option maxRecDepth 100000 in
set_option maxHeartbeats 8000000 in
theorem bx_above0 (w : World) (hT : FAt w) : Calls Tryd.prog 8 #[.int .u8 0] w fun r w' => r = .returned (.tuple #[.agg #[.int .u64 18446744073709551615, .int .u64 18446744069414584320], .int .i64 0]) ∧ Below w.heap.size w w' := by
  obtain ⟨Rz_0, B0⟩ := opn1 w (Obj.cells #[.int .u64 0, .int .u64 0] 25)
  go_enter Tryd.func8, Tryd.ntmps8
  have T2 := fatB hT B0
  have g0 := fat_x T2 0 0 0 (.int .u64 18446744073709551615) rfl
  have g1 := fat_x T2 1 0 1 (.int .u64 18446744069414584320) rfl
  clear T2 hT
  go_wp2_with fail
  refine (s_check_is 0 0 (by decide) (by decide) (by decide) _).mono ?_
  rintro r w' ⟨rfl, rfl⟩
  obtain ⟨cz_0_0, cz_0_1⟩ := cells2s Rz_0
  clear B0 Rz_0
  go_wp2
  exact bodyPost_ret (v := .tuple #[.agg #[.int .u64 18446744073709551615, .int .u64 18446744069414584320], .int .i64 0]) (by simp [results, Tryd.results8, go_sem]) rfl ⟨rfl, ((Below.refl _ _).alloc (by first | omega | (simp only [size_al]; omega)) _)⟩
set_option maxRecDepth 100000 in
set_option maxHeartbeats 8000000 in
theorem bx_above1 (w : World) (hT : FAt w) : Calls Tryd.prog 8 #[.int .u8 1] w fun r w' => r = .returned (.tuple #[.agg #[.int .u64 18446744073709551615, .int .u64 0], .int .i64 0]) ∧ Below w.heap.size w w' := by
  obtain ⟨Rz_0, B0⟩ := opn1 w (Obj.cells #[.int .u64 0, .int .u64 0] 25)
  go_enter Tryd.func8, Tryd.ntmps8
  have T2 := fatB hT B0
  have g0 := fat_x T2 2 0 2 (.int .u64 18446744073709551615) rfl
  have g1 := fat_x T2 3 0 3 (.int .u64 0) rfl
  clear T2 hT
  go_wp2_with fail
  refine (s_check_is 1 0 (by decide) (by decide) (by decide) _).mono ?_
  rintro r w' ⟨rfl, rfl⟩
  obtain ⟨cz_0_0, cz_0_1⟩ := cells2s Rz_0
  clear B0 Rz_0
  go_wp2
  exact bodyPost_ret (v := .tuple #[.agg #[.int .u64 18446744073709551615, .int .u64 0], .int .i64 0]) (by simp [results, Tryd.results8, go_sem]) rfl ⟨rfl, ((Below.refl _ _).alloc (by first | omega | (simp only [size_al]; omega)) _)⟩
set_option maxRecDepth 100000 in
set_option maxHeartbeats 8000000 in
theorem bx_above2 (w : World) (hT : FAt w) : Calls Tryd.prog 8 #[.int .u8 2] w fun r w' => r = .returned (.tuple #[.agg #[.int .u64 18446744073709551615, .int .u64 18446744073709486080], .int .i64 0]) ∧ Below w.heap.size w w' := by
  obtain ⟨Rz_0, B0⟩ := opn1 w (Obj.cells #[.int .u64 0, .int .u64 0] 25)
  go_enter Tryd.func8, Tryd.ntmps8
  have T2 := fatB hT B0
  have g0 := fat_x T2 4 0 4 (.int .u64 18446744073709551615) rfl
  have g1 := fat_x T2 5 0 5 (.int .u64 18446744073709486080) rfl
  clear T2 hT
  go_wp2_with fail
  refine (s_check_is 2 0 (by decide) (by decide) (by decide) _).mono ?_
  rintro r w' ⟨rfl, rfl⟩
  obtain ⟨cz_0_0, cz_0_1⟩ := cells2s Rz_0
  clear B0 Rz_0
  go_wp2
  exact bodyPost_ret (v := .tuple #[.agg #[.int .u64 18446744073709551615, .int .u64 18446744073709486080], .int .i64 0]) (by simp [results, Tryd.results8, go_sem]) rfl ⟨rfl, ((Below.refl _ _).alloc (by first | omega | (simp only [size_al]; omega)) _)⟩
set_option maxRecDepth 100000 in
set_option maxHeartbeats 8000000 in
theorem bx_above3 (w : World) (hT : FAt w) : Calls Tryd.prog 8 #[.int .u8 3] w fun r w' => r = .returned (.tuple #[.agg #[.int .u64 0, .int .u64 0], .int .i64 0]) ∧ Below w.heap.size w w' := by
  obtain ⟨Rz_0, B0⟩ := opn1 w (Obj.cells #[.int .u64 0, .int .u64 0] 25)
  go_enter Tryd.func8, Tryd.ntmps8
  have T2 := fatB hT B0
  have g0 := fat_x T2 6 0 6 (.int .u64 0) rfl
  have g1 := fat_x T2 7 0 7 (.int .u64 0) rfl
  clear T2 hT
  go_wp2_with fail
  refine (s_check_is 3 0 (by decide) (by decide) (by decide) _).mono ?_
  rintro r w' ⟨rfl, rfl⟩
  obtain ⟨cz_0_0, cz_0_1⟩ := cells2s Rz_0
  clear B0 Rz_0
  go_wp2
  exact bodyPost_ret (v := .tuple #[.agg #[.int .u64 0, .int .u64 0], .int .i64 0]) (by simp [results, Tryd.results8, go_sem]) rfl ⟨rfl, ((Below.refl _ _).alloc (by first | omega | (simp only [size_al]; omega)) _)⟩
set_option maxRecDepth 100000 in
set_option maxHeartbeats 8000000 in
theorem bx_aboveN (f : Int) (h0 : 0 ≤ f) (h1 : f ≤ 255) (hc : fC f = 2) (w : World) : Calls Tryd.prog 8 #[.int .u8 f] w fun r w' => r = .returned (.tuple #[.agg #[.int .u64 0, .int .u64 0], .int .i64 2]) ∧ Below w.heap.size w w' := by
  obtain ⟨Rz_0, B0⟩ := opn1 w (Obj.cells #[.int .u64 0, .int .u64 0] 25)
  go_enter Tryd.func8, Tryd.ntmps8
  go_wp2_with fail
  refine (s_check_is f 2 h0 h1 hc _).mono ?_
  rintro r w' ⟨rfl, rfl⟩
  obtain ⟨cz_0_0, cz_0_1⟩ := cells2s Rz_0
  clear B0 Rz_0
  go_wp2
  exact bodyPost_ret (v := .tuple #[.agg #[.int .u64 0, .int .u64 0], .int .i64 2]) (by simp [results, Tryd.results8, go_sem]) rfl ⟨rfl, ((Below.refl _ _).alloc (by first | omega | (simp only [size_al]; omega)) _)⟩
set_option maxRecDepth 100000 in
set_option maxHeartbeats 8000000 in
theorem bx_isN (f : Int) (x y U V : Nat) (w : World) (KA : Box (∀ w, FAt w → Calls Tryd.prog 8 #[.int .u8 f] w fun r w' => r = .returned (.tuple #[.agg #[.int .u64 (U : Nat), .int .u64 (V : Nat)], .int .i64 2]) ∧ Below w.heap.size w w')) (hT : FAt w) : Calls Tryd.prog 12 #[.int .u8 f, .agg #[.int .u64 (x : Nat), .int .u64 (y : Nat)]] w fun r w' => r = .returned (.bool false) ∧ Below w.heap.size w w' := by
  have FF := box hT
  clear hT
  obtain ⟨Rr_0, B0⟩ := opn1 w (Obj.cells #[.int .u64 (x : Nat), .int .u64 (y : Nat)] 25)
  go_enter Tryd.func12, Tryd.ntmps12
  obtain ⟨cr_0_0, cr_0_1⟩ := cells2s Rr_0
  go_wp2_with fail
  refine (KA.out _ (fatB FF.out B0)).mono ?_
  rintro r w1 ⟨rfl, b1⟩
  have B1 : Below w.heap.size w w1 := btr B0 b1
  have Rr_1 := heap_of b1 _ _ _ Rr_0
  clear b1 B0 Rr_0 cr_0_0 cr_0_1
  obtain ⟨cr_1_0, cr_1_1⟩ := cells2s Rr_1
  have S2 := box B1.size
  have Lr_2 : Box (w.heap.size < w1.heap.size) := box (Array.getElem?_eq_some_iff.1 Rr_1).1
  have Ro_2 := heap_alloc_last w1 (Obj.cells #[.int .u64 (U : Nat), .int .u64 (V : Nat)] 25)
  have B2 := btr B1 (bal w1 (Obj.cells #[.int .u64 (U : Nat), .int .u64 (V : Nat)] 25))
  have Rr_2 := heap_of (bal w1 (Obj.cells #[.int .u64 (U : Nat), .int .u64 (V : Nat)] 25)) _ _ _ Rr_1
  clear B1 Rr_1 cr_1_0 cr_1_1
  obtain ⟨cr_2_0, cr_2_1⟩ := cells2s Rr_2
  obtain ⟨co_2_0, co_2_1⟩ := cells2s Ro_2
  go_wp2_with fail
  obtain ⟨F, hF1, hF2⟩ := below_fun (w1.alloc (Obj.cells #[.int .u64 (U : Nat), .int .u64 (V : Nat)] 25))
  have fr_0 := fun u => cells4 (heap_of (hF1 u) _ _ _ Rr_2) 0 _ rfl
  have fr_1 := fun u => cells4 (heap_of (hF1 u) _ _ _ Rr_2) 1 _ rfl
  have fo_0 := fun u => cells4 (heap_of (hF1 u) _ _ _ Ro_2) 0 _ rfl
  have fo_1 := fun u => cells4 (heap_of (hF1 u) _ _ _ Ro_2) 1 _ rfl
  refine wp_region_below F hF2 (by kernel_rfl) (by kernel_rfl) ?_
  repeat first | go_big_quiet_step (first  | fail) | quiet_step (first  | fail)
  refine wpQuiet_nil ?_
  rintro _ ⟨uW, rfl⟩
  have B3 := btr B2 (hF1 uW)
  have Rr_3 := heap_of (hF1 uW) _ _ _ Rr_2
  have Ro_3 := heap_of (hF1 uW) _ _ _ Ro_2
  obtain ⟨w3, hw⟩ : ∃ V, F uW = V := ⟨_, rfl⟩
  rw [hw] at B3 Rr_3 Ro_3
  try rw [hw]
  clear hw hF1 hF2 B2 fr_0 fr_1 fo_0 fo_1 Rr_2 cr_2_0 cr_2_1 Ro_2 co_2_0 co_2_1
  clear F
  obtain ⟨cr_3_0, cr_3_1⟩ := cells2s Rr_3
  obtain ⟨co_3_0, co_3_1⟩ := cells2s Ro_3
  go_wp2
  go_ret
  exact ⟨rfl, B3⟩
set_option maxRecDepth 100000 in
set_option maxHeartbeats 8000000 in
theorem bx_isY (f : Int) (x y U V H L : Nat) (o : Bool) (ho : ebb (H : Nat) (L : Nat) (x : Nat) (y : Nat) = o) (w : World) (KA : Box (∀ w, FAt w → Calls Tryd.prog 8 #[.int .u8 f] w fun r w' => r = .returned (.tuple #[.agg #[.int .u64 (U : Nat), .int .u64 (V : Nat)], .int .i64 0]) ∧ Below w.heap.size w w')) (KJ : Box (∀ w, Calls Tryd.prog 28 #[.agg #[.int .u64 (x : Nat), .int .u64 (y : Nat)], .agg #[.int .u64 (U : Nat), .int .u64 (V : Nat)]] w fun r w' => r = .returned (.agg #[.int .u64 (H : Nat), .int .u64 (L : Nat)]) ∧ Below w.heap.size w w')) (hT : FAt w) : Calls Tryd.prog 12 #[.int .u8 f, .agg #[.int .u64 (x : Nat), .int .u64 (y : Nat)]] w fun r w' => r = .returned (.bool o) ∧ Below w.heap.size w w' := by
  have FF := box hT
  clear hT
  subst ho
  have hE := eqb
  obtain ⟨Rr_0, B0⟩ := opn1 w (Obj.cells #[.int .u64 (x : Nat), .int .u64 (y : Nat)] 25)
  go_enter Tryd.func12, Tryd.ntmps12
  obtain ⟨cr_0_0, cr_0_1⟩ := cells2s Rr_0
  go_wp2_with fail
  refine (KA.out _ (fatB FF.out B0)).mono ?_
  rintro r w1 ⟨rfl, b1⟩
  have B1 : Below w.heap.size w w1 := btr B0 b1
  have Rr_1 := heap_of b1 _ _ _ Rr_0
  clear b1 B0 Rr_0 cr_0_0 cr_0_1
  obtain ⟨cr_1_0, cr_1_1⟩ := cells2s Rr_1
  have S2 := box B1.size
  have Lr_2 : Box (w.heap.size < w1.heap.size) := box (Array.getElem?_eq_some_iff.1 Rr_1).1
  have Ro_2 := heap_alloc_last w1 (Obj.cells #[.int .u64 (U : Nat), .int .u64 (V : Nat)] 25)
  have B2 := btr B1 (bal w1 (Obj.cells #[.int .u64 (U : Nat), .int .u64 (V : Nat)] 25))
  have Rr_2 := heap_of (bal w1 (Obj.cells #[.int .u64 (U : Nat), .int .u64 (V : Nat)] 25)) _ _ _ Rr_1
  clear B1 Rr_1 cr_1_0 cr_1_1
  obtain ⟨cr_2_0, cr_2_1⟩ := cells2s Rr_2
  obtain ⟨co_2_0, co_2_1⟩ := cells2s Ro_2
  go_wp2_with fail
  obtain ⟨F, hF1, hF2⟩ := below_fun (w1.alloc (Obj.cells #[.int .u64 (U : Nat), .int .u64 (V : Nat)] 25))
  have fr_0 := fun u => cells4 (heap_of (hF1 u) _ _ _ Rr_2) 0 _ rfl
  have fr_1 := fun u => cells4 (heap_of (hF1 u) _ _ _ Rr_2) 1 _ rfl
  have fo_0 := fun u => cells4 (heap_of (hF1 u) _ _ _ Ro_2) 0 _ rfl
  have fo_1 := fun u => cells4 (heap_of (hF1 u) _ _ _ Ro_2) 1 _ rfl
  refine wp_region_below F hF2 (by kernel_rfl) (by kernel_rfl) ?_
  repeat first | go_big_quiet_step (first | (go_at_call 28; exact quietF hF1 hF2 (KJ.out _)) | fail) | quiet_step (first | (go_at_call 28; exact quietF hF1 hF2 (KJ.out _)) | fail)
  refine wpQuiet_nil ?_
  rintro _ ⟨uW, rfl⟩
  have B3 := btr B2 (hF1 uW)
  have Rr_3 := heap_of (hF1 uW) _ _ _ Rr_2
  have Ro_3 := heap_of (hF1 uW) _ _ _ Ro_2
  obtain ⟨w3, hw⟩ : ∃ V, F uW = V := ⟨_, rfl⟩
  rw [hw] at B3 Rr_3 Ro_3
  try rw [hw]
  clear hw hF1 hF2 B2 fr_0 fr_1 fo_0 fo_1 Rr_2 cr_2_0 cr_2_1 Ro_2 co_2_0 co_2_1
  clear F
  obtain ⟨cr_3_0, cr_3_1⟩ := cells2s Rr_3
  obtain ⟨co_3_0, co_3_1⟩ := cells2s Ro_3
  go_wp2
  go_ret
  exact ⟨rfl, B3⟩
set_option maxRecDepth 100000 in
set_option maxHeartbeats 8000000 in
theorem bx_boxN (f : Int) (x y : Nat) (w : World) (KF : Box (∀ w, FAt w → Calls Tryd.prog 27 #[.int .u8 f, .agg #[.int .u64 (x : Nat), .int .u64 (y : Nat)]] w fun r w' => r = .returned (.bool false) ∧ Below w.heap.size w w')) (hT : FAt w) : Calls Tryd.prog 11 #[.int .u8 f, .agg #[.int .u64 (x : Nat), .int .u64 (y : Nat)]] w fun r w' => r = .returned (.tuple #[.agg #[.int .u64 0, .int .u64 0], .int .i64 2]) ∧ Below w.heap.size w w' := by
  have FF := box hT
  clear hT
  obtain ⟨Rb_0, Rz_0, B0⟩ := opn2 w (Obj.cells #[.int .u64 (x : Nat), .int .u64 (y : Nat)] 25) (Obj.cells #[.int .u64 0, .int .u64 0] 25)
  go_enter Tryd.func11, Tryd.ntmps11
  obtain ⟨cb_0_0, cb_0_1⟩ := cells2s Rb_0
  obtain ⟨cz_0_0, cz_0_1⟩ := cells2s Rz_0
  go_wp2_with fail
  refine (KF.out _ (fatB FF.out B0)).mono ?_
  rintro r w1 ⟨rfl, b1⟩
  have B1 : Below w.heap.size w w1 := btr B0 b1
  have Rb_1 := heap_of b1 _ _ _ Rb_0
  have Rz_1 := heap_of b1 _ _ _ Rz_0
  clear b1 B0 Rb_0 cb_0_0 cb_0_1 Rz_0 cz_0_0 cz_0_1
  obtain ⟨cb_1_0, cb_1_1⟩ := cells2s Rb_1
  obtain ⟨cz_1_0, cz_1_1⟩ := cells2s Rz_1
  have q0 := fz (k := 0) Rz_1
  have q1 := fz (k := 1) Rz_1
  obtain ⟨E0, E1⟩ := set2_cells Rz_1 (.int .u64 0) (.int .u64 0)
  go_wp2
  exact bodyPost_ret (v := .tuple #[.agg #[.int .u64 0, .int .u64 0], .int .i64 2]) (by simp [results, Tryd.results11, go_sem, E0, E1]) rfl ⟨rfl, set2_below B1 (by first | exact Nat.le_refl _ | omega | (skip; omega)) _ _⟩
set_option maxRecDepth 100000 in
set_option maxHeartbeats 8000000 in
theorem bx_box0 (x y H L : Nat) (w : World) (KF : Box (∀ w, FAt w → Calls Tryd.prog 27 #[.int .u8 0, .agg #[.int .u64 (x : Nat), .int .u64 (y : Nat)]] w fun r w' => r = .returned (.bool true) ∧ Below w.heap.size w w')) (KJ : Box (∀ w, Calls Tryd.prog 28 #[.agg #[.int .u64 (x : Nat), .int .u64 (y : Nat)], .agg #[.int .u64 18446744073709551615, .int .u64 18446744069414584320]] w fun r w' => r = .returned (.agg #[.int .u64 (H : Nat), .int .u64 (L : Nat)]) ∧ Below w.heap.size w w')) (hT : FAt w) : Calls Tryd.prog 11 #[.int .u8 0, .agg #[.int .u64 (x : Nat), .int .u64 (y : Nat)]] w fun r w' => r = .returned (.tuple #[.agg #[.int .u64 (H : Nat), .int .u64 (L : Nat)], .int .i64 0]) ∧ Below w.heap.size w w' := by
  have FF := box hT
  clear hT
  obtain ⟨Rb_0, Rz_0, B0⟩ := opn2 w (Obj.cells #[.int .u64 (x : Nat), .int .u64 (y : Nat)] 25) (Obj.cells #[.int .u64 0, .int .u64 0] 25)
  go_enter Tryd.func11, Tryd.ntmps11
  obtain ⟨cb_0_0, cb_0_1⟩ := cells2s Rb_0
  obtain ⟨cz_0_0, cz_0_1⟩ := cells2s Rz_0
  go_wp2_with fail
  refine (KF.out _ (fatB FF.out B0)).mono ?_
  rintro r w1 ⟨rfl, b1⟩
  have B1 : Below w.heap.size w w1 := btr B0 b1
  have Rb_1 := heap_of b1 _ _ _ Rb_0
  have Rz_1 := heap_of b1 _ _ _ Rz_0
  clear b1 B0 Rb_0 cb_0_0 cb_0_1 Rz_0 cz_0_0 cz_0_1
  obtain ⟨cb_1_0, cb_1_1⟩ := cells2s Rb_1
  obtain ⟨cz_1_0, cz_1_1⟩ := cells2s Rz_1
  have T2 := fatB FF.out B1
  have g0 := fat_x T2 0 0 0 (.int .u64 18446744073709551615) rfl
  have g1 := fat_x T2 1 0 1 (.int .u64 18446744069414584320) rfl
  clear T2
  have qb : (w1).drew.heap[w.heap.size]? = some (Obj.cells #[.int .u64 (x : Nat), .int .u64 (y : Nat)] 25) := Rb_1
  have qz : (w1).drew.heap[w.heap.size + 1]? = some (Obj.cells #[.int .u64 0, .int .u64 0] 25) := Rz_1
  have qB := B1.drew
  have iz0 := fz (k := 0) Rz_1
  have iz1 := fz (k := 1) Rz_1
  go_wp2_with fail
  first | (go_region_with (first | (go_at_call 28; refine (KJ.out _).mono ?_; rintro r wq ⟨rfl, bq⟩; have qb := heap_of bq _ _ _ qb; have qz := heap_of bq _ _ _ qz; have qB := btr qB bq; have db0 := cell7 qb 0 (.int .u64 (x : Nat)) rfl; have db1 := cell7 qb 1 (.int .u64 (y : Nat)) rfl; have dz0 := cell7 qz 0 (.int .u64 0) rfl; have dz1 := cell7 qz 1 (.int .u64 0) rfl; have iz0 := fz (k := 0) qz; have iz1 := fz (k := 1) qz; clear bq) | fail)) | fail
  all_goals
    obtain ⟨E0, E1⟩ := set2_cells qz (.int .u64 (H : Nat)) (.int .u64 (L : Nat))
    have BZ := set2_below qB (show w.heap.size ≤ w.heap.size + 1 by first | exact Nat.le_refl _ | omega | (skip; omega)) (.int .u64 (H : Nat)) (.int .u64 (L : Nat))
    go_wp2
    exact bodyPost_ret (v := .tuple #[.agg #[.int .u64 (H : Nat), .int .u64 (L : Nat)], .int .i64 0]) (by simp [results, Tryd.results11, go_sem, E0, E1]) rfl ⟨rfl, BZ⟩
set_option maxRecDepth 100000 in
set_option maxHeartbeats 8000000 in
theorem bx_box1 (x y H L : Nat) (w : World) (KF : Box (∀ w, FAt w → Calls Tryd.prog 27 #[.int .u8 1, .agg #[.int .u64 (x : Nat), .int .u64 (y : Nat)]] w fun r w' => r = .returned (.bool true) ∧ Below w.heap.size w w')) (KJ : Box (∀ w, Calls Tryd.prog 28 #[.agg #[.int .u64 (x : Nat), .int .u64 (y : Nat)], .agg #[.int .u64 18446744073709551615, .int .u64 0]] w fun r w' => r = .returned (.agg #[.int .u64 (H : Nat), .int .u64 (L : Nat)]) ∧ Below w.heap.size w w')) (hT : FAt w) : Calls Tryd.prog 11 #[.int .u8 1, .agg #[.int .u64 (x : Nat), .int .u64 (y : Nat)]] w fun r w' => r = .returned (.tuple #[.agg #[.int .u64 (H : Nat), .int .u64 (L : Nat)], .int .i64 0]) ∧ Below w.heap.size w w' := by
  have FF := box hT
  clear hT
  obtain ⟨Rb_0, Rz_0, B0⟩ := opn2 w (Obj.cells #[.int .u64 (x : Nat), .int .u64 (y : Nat)] 25) (Obj.cells #[.int .u64 0, .int .u64 0] 25)
  go_enter Tryd.func11, Tryd.ntmps11
  obtain ⟨cb_0_0, cb_0_1⟩ := cells2s Rb_0
  obtain ⟨cz_0_0, cz_0_1⟩ := cells2s Rz_0
  go_wp2_with fail
  refine (KF.out _ (fatB FF.out B0)).mono ?_
  rintro r w1 ⟨rfl, b1⟩
  have B1 : Below w.heap.size w w1 := btr B0 b1
  have Rb_1 := heap_of b1 _ _ _ Rb_0
  have Rz_1 := heap_of b1 _ _ _ Rz_0
  clear b1 B0 Rb_0 cb_0_0 cb_0_1 Rz_0 cz_0_0 cz_0_1
  obtain ⟨cb_1_0, cb_1_1⟩ := cells2s Rb_1
  obtain ⟨cz_1_0, cz_1_1⟩ := cells2s Rz_1
  have T2 := fatB FF.out B1
  have g0 := fat_x T2 2 0 2 (.int .u64 18446744073709551615) rfl
  have g1 := fat_x T2 3 0 3 (.int .u64 0) rfl
  clear T2
  have qb : (w1).drew.heap[w.heap.size]? = some (Obj.cells #[.int .u64 (x : Nat), .int .u64 (y : Nat)] 25) := Rb_1
  have qz : (w1).drew.heap[w.heap.size + 1]? = some (Obj.cells #[.int .u64 0, .int .u64 0] 25) := Rz_1
  have qB := B1.drew
  have iz0 := fz (k := 0) Rz_1
  have iz1 := fz (k := 1) Rz_1
  go_wp2_with fail
  first | (go_region_with (first | (go_at_call 28; refine (KJ.out _).mono ?_; rintro r wq ⟨rfl, bq⟩; have qb := heap_of bq _ _ _ qb; have qz := heap_of bq _ _ _ qz; have qB := btr qB bq; have db0 := cell7 qb 0 (.int .u64 (x : Nat)) rfl; have db1 := cell7 qb 1 (.int .u64 (y : Nat)) rfl; have dz0 := cell7 qz 0 (.int .u64 0) rfl; have dz1 := cell7 qz 1 (.int .u64 0) rfl; have iz0 := fz (k := 0) qz; have iz1 := fz (k := 1) qz; clear bq) | fail)) | fail
  all_goals
    obtain ⟨E0, E1⟩ := set2_cells qz (.int .u64 (H : Nat)) (.int .u64 (L : Nat))
    have BZ := set2_below qB (show w.heap.size ≤ w.heap.size + 1 by first | exact Nat.le_refl _ | omega | (skip; omega)) (.int .u64 (H : Nat)) (.int .u64 (L : Nat))
    go_wp2
    exact bodyPost_ret (v := .tuple #[.agg #[.int .u64 (H : Nat), .int .u64 (L : Nat)], .int .i64 0]) (by simp [results, Tryd.results11, go_sem, E0, E1]) rfl ⟨rfl, BZ⟩
set_option maxRecDepth 100000 in
set_option maxHeartbeats 8000000 in
theorem bx_box2 (x y H L : Nat) (w : World) (KF : Box (∀ w, FAt w → Calls Tryd.prog 27 #[.int .u8 2, .agg #[.int .u64 (x : Nat), .int .u64 (y : Nat)]] w fun r w' => r = .returned (.bool true) ∧ Below w.heap.size w w')) (KJ : Box (∀ w, Calls Tryd.prog 28 #[.agg #[.int .u64 (x : Nat), .int .u64 (y : Nat)], .agg #[.int .u64 18446744073709551615, .int .u64 18446744073709486080]] w fun r w' => r = .returned (.agg #[.int .u64 (H : Nat), .int .u64 (L : Nat)]) ∧ Below w.heap.size w w')) (hT : FAt w) : Calls Tryd.prog 11 #[.int .u8 2, .agg #[.int .u64 (x : Nat), .int .u64 (y : Nat)]] w fun r w' => r = .returned (.tuple #[.agg #[.int .u64 (H : Nat), .int .u64 (L : Nat)], .int .i64 0]) ∧ Below w.heap.size w w' := by
  have FF := box hT
  clear hT
  obtain ⟨Rb_0, Rz_0, B0⟩ := opn2 w (Obj.cells #[.int .u64 (x : Nat), .int .u64 (y : Nat)] 25) (Obj.cells #[.int .u64 0, .int .u64 0] 25)
  go_enter Tryd.func11, Tryd.ntmps11
  obtain ⟨cb_0_0, cb_0_1⟩ := cells2s Rb_0
  obtain ⟨cz_0_0, cz_0_1⟩ := cells2s Rz_0
  go_wp2_with fail
  refine (KF.out _ (fatB FF.out B0)).mono ?_
  rintro r w1 ⟨rfl, b1⟩
  have B1 : Below w.heap.size w w1 := btr B0 b1
  have Rb_1 := heap_of b1 _ _ _ Rb_0
  have Rz_1 := heap_of b1 _ _ _ Rz_0
  clear b1 B0 Rb_0 cb_0_0 cb_0_1 Rz_0 cz_0_0 cz_0_1
  obtain ⟨cb_1_0, cb_1_1⟩ := cells2s Rb_1
  obtain ⟨cz_1_0, cz_1_1⟩ := cells2s Rz_1
  have T2 := fatB FF.out B1
  have g0 := fat_x T2 4 0 4 (.int .u64 18446744073709551615) rfl
  have g1 := fat_x T2 5 0 5 (.int .u64 18446744073709486080) rfl
  clear T2
  have qb : (w1).drew.heap[w.heap.size]? = some (Obj.cells #[.int .u64 (x : Nat), .int .u64 (y : Nat)] 25) := Rb_1
  have qz : (w1).drew.heap[w.heap.size + 1]? = some (Obj.cells #[.int .u64 0, .int .u64 0] 25) := Rz_1
  have qB := B1.drew
  have iz0 := fz (k := 0) Rz_1
  have iz1 := fz (k := 1) Rz_1
  go_wp2_with fail
  first | (go_region_with (first | (go_at_call 28; refine (KJ.out _).mono ?_; rintro r wq ⟨rfl, bq⟩; have qb := heap_of bq _ _ _ qb; have qz := heap_of bq _ _ _ qz; have qB := btr qB bq; have db0 := cell7 qb 0 (.int .u64 (x : Nat)) rfl; have db1 := cell7 qb 1 (.int .u64 (y : Nat)) rfl; have dz0 := cell7 qz 0 (.int .u64 0) rfl; have dz1 := cell7 qz 1 (.int .u64 0) rfl; have iz0 := fz (k := 0) qz; have iz1 := fz (k := 1) qz; clear bq) | fail)) | fail
  all_goals
    obtain ⟨E0, E1⟩ := set2_cells qz (.int .u64 (H : Nat)) (.int .u64 (L : Nat))
    have BZ := set2_below qB (show w.heap.size ≤ w.heap.size + 1 by first | exact Nat.le_refl _ | omega | (skip; omega)) (.int .u64 (H : Nat)) (.int .u64 (L : Nat))
    go_wp2
    exact bodyPost_ret (v := .tuple #[.agg #[.int .u64 (H : Nat), .int .u64 (L : Nat)], .int .i64 0]) (by simp [results, Tryd.results11, go_sem, E0, E1]) rfl ⟨rfl, BZ⟩
set_option maxRecDepth 100000 in
set_option maxHeartbeats 8000000 in
theorem bx_box3 (x y H L : Nat) (w : World) (KF : Box (∀ w, FAt w → Calls Tryd.prog 27 #[.int .u8 3, .agg #[.int .u64 (x : Nat), .int .u64 (y : Nat)]] w fun r w' => r = .returned (.bool true) ∧ Below w.heap.size w w')) (KJ : Box (∀ w, Calls Tryd.prog 28 #[.agg #[.int .u64 (x : Nat), .int .u64 (y : Nat)], .agg #[.int .u64 0, .int .u64 0]] w fun r w' => r = .returned (.agg #[.int .u64 (H : Nat), .int .u64 (L : Nat)]) ∧ Below w.heap.size w w')) (hT : FAt w) : Calls Tryd.prog 11 #[.int .u8 3, .agg #[.int .u64 (x : Nat), .int .u64 (y : Nat)]] w fun r w' => r = .returned (.tuple #[.agg #[.int .u64 (H : Nat), .int .u64 (L : Nat)], .int .i64 0]) ∧ Below w.heap.size w w' := by
  have FF := box hT
  clear hT
  obtain ⟨Rb_0, Rz_0, B0⟩ := opn2 w (Obj.cells #[.int .u64 (x : Nat), .int .u64 (y : Nat)] 25) (Obj.cells #[.int .u64 0, .int .u64 0] 25)
  go_enter Tryd.func11, Tryd.ntmps11
  obtain ⟨cb_0_0, cb_0_1⟩ := cells2s Rb_0
  obtain ⟨cz_0_0, cz_0_1⟩ := cells2s Rz_0
  go_wp2_with fail
  refine (KF.out _ (fatB FF.out B0)).mono ?_
  rintro r w1 ⟨rfl, b1⟩
  have B1 : Below w.heap.size w w1 := btr B0 b1
  have Rb_1 := heap_of b1 _ _ _ Rb_0
  have Rz_1 := heap_of b1 _ _ _ Rz_0
  clear b1 B0 Rb_0 cb_0_0 cb_0_1 Rz_0 cz_0_0 cz_0_1
  obtain ⟨cb_1_0, cb_1_1⟩ := cells2s Rb_1
  obtain ⟨cz_1_0, cz_1_1⟩ := cells2s Rz_1
  have T2 := fatB FF.out B1
  have g0 := fat_x T2 6 0 6 (.int .u64 0) rfl
  have g1 := fat_x T2 7 0 7 (.int .u64 0) rfl
  clear T2
  have qb : (w1).drew.heap[w.heap.size]? = some (Obj.cells #[.int .u64 (x : Nat), .int .u64 (y : Nat)] 25) := Rb_1
  have qz : (w1).drew.heap[w.heap.size + 1]? = some (Obj.cells #[.int .u64 0, .int .u64 0] 25) := Rz_1
  have qB := B1.drew
  have iz0 := fz (k := 0) Rz_1
  have iz1 := fz (k := 1) Rz_1
  go_wp2_with fail
  first | (go_region_with (first | (go_at_call 28; refine (KJ.out _).mono ?_; rintro r wq ⟨rfl, bq⟩; have qb := heap_of bq _ _ _ qb; have qz := heap_of bq _ _ _ qz; have qB := btr qB bq; have db0 := cell7 qb 0 (.int .u64 (x : Nat)) rfl; have db1 := cell7 qb 1 (.int .u64 (y : Nat)) rfl; have dz0 := cell7 qz 0 (.int .u64 0) rfl; have dz1 := cell7 qz 1 (.int .u64 0) rfl; have iz0 := fz (k := 0) qz; have iz1 := fz (k := 1) qz; clear bq) | fail)) | fail
  all_goals
    obtain ⟨E0, E1⟩ := set2_cells qz (.int .u64 (H : Nat)) (.int .u64 (L : Nat))
    have BZ := set2_below qB (show w.heap.size ≤ w.heap.size + 1 by first | exact Nat.le_refl _ | omega | (skip; omega)) (.int .u64 (H : Nat)) (.int .u64 (L : Nat))
    go_wp2
    exact bodyPost_ret (v := .tuple #[.agg #[.int .u64 (H : Nat), .int .u64 (L : Nat)], .int .i64 0]) (by simp [results, Tryd.results11, go_sem, E0, E1]) rfl ⟨rfl, BZ⟩
set_option maxRecDepth 100000 in
set_option maxHeartbeats 8000000 in
theorem bx_lowY (f : Int) (x y U V H L : Nat) (hH : bits .andNot .u64 (x : Int) (U : Int) = (H : Int)) (hL : bits .andNot .u64 (y : Int) (V : Int) = (L : Int)) (w : World) (KA : Box (∀ w, FAt w → Calls Tryd.prog 8 #[.int .u8 f] w fun r w' => r = .returned (.tuple #[.agg #[.int .u64 (U : Nat), .int .u64 (V : Nat)], .int .i64 0]) ∧ Below w.heap.size w w')) (hT : FAt w) : Calls Tryd.prog 10 #[.int .u8 f, .agg #[.int .u64 (x : Nat), .int .u64 (y : Nat)]] w fun r w' => r = .returned (.tuple #[.agg #[.int .u64 (H : Nat), .int .u64 (L : Nat)], .int .i64 0]) ∧ Below w.heap.size w w' := by
  have FF := box hT
  clear hT
  obtain ⟨Rr_0, Rz_0, B0⟩ := opn2 w (Obj.cells #[.int .u64 (x : Nat), .int .u64 (y : Nat)] 25) (Obj.cells #[.int .u64 0, .int .u64 0] 25)
  go_enter Tryd.func10, Tryd.ntmps10
  obtain ⟨cr_0_0, cr_0_1⟩ := cells2s Rr_0
  obtain ⟨cz_0_0, cz_0_1⟩ := cells2s Rz_0
  go_wp2_with fail
  refine (KA.out _ (fatB FF.out B0)).mono ?_
  rintro r w1 ⟨rfl, b1⟩
  have B1 : Below w.heap.size w w1 := btr B0 b1
  have Rr_1 := heap_of b1 _ _ _ Rr_0
  have Rz_1 := heap_of b1 _ _ _ Rz_0
  clear b1 B0 Rr_0 cr_0_0 cr_0_1 Rz_0 cz_0_0 cz_0_1
  obtain ⟨cr_1_0, cr_1_1⟩ := cells2s Rr_1
  obtain ⟨cz_1_0, cz_1_1⟩ := cells2s Rz_1
  have S2 := box B1.size
  have Lr_2 : Box (w.heap.size < w1.heap.size) := box (Array.getElem?_eq_some_iff.1 Rr_1).1
  have Lz_2 : Box (w.heap.size + 1 < w1.heap.size) := box (Array.getElem?_eq_some_iff.1 Rz_1).1
  have Ro_2 := heap_alloc_last w1 (Obj.cells #[.int .u64 (U : Nat), .int .u64 (V : Nat)] 25)
  have B2 := btr B1 (bal w1 (Obj.cells #[.int .u64 (U : Nat), .int .u64 (V : Nat)] 25))
  have Rr_2 := heap_of (bal w1 (Obj.cells #[.int .u64 (U : Nat), .int .u64 (V : Nat)] 25)) _ _ _ Rr_1
  have Rz_2 := heap_of (bal w1 (Obj.cells #[.int .u64 (U : Nat), .int .u64 (V : Nat)] 25)) _ _ _ Rz_1
  clear B1 Rr_1 cr_1_0 cr_1_1 Rz_1 cz_1_0 cz_1_1
  obtain ⟨cr_2_0, cr_2_1⟩ := cells2s Rr_2
  obtain ⟨cz_2_0, cz_2_1⟩ := cells2s Rz_2
  obtain ⟨co_2_0, co_2_1⟩ := cells2s Ro_2
  have q0 := fz (k := 0) Rz_2
  have q1 := fz (k := 1) Rz_2
  obtain ⟨E0, E1⟩ := set2_cells Rz_2 (.int .u64 (H : Nat)) (.int .u64 (L : Nat))
  go_wp2
  exact bodyPost_ret (v := .tuple #[.agg #[.int .u64 (H : Nat), .int .u64 (L : Nat)], .int .i64 0]) (by simp [results, Tryd.results10, go_sem, E0, E1]) rfl ⟨rfl, set2_below B2 (by first | exact Nat.le_refl _ | omega | (have := S2.out; have := Lr_2.out; have := Lz_2.out; omega)) _ _⟩
set_option maxRecDepth 100000 in
set_option maxHeartbeats 8000000 in
theorem bx_unF (f : Int) (x y u v : Nat) (e : Int) (w : World) (KI : Box (∀ w, FAt w → Calls Tryd.prog 12 #[.int .u8 f, .agg #[.int .u64 (x : Nat), .int .u64 (y : Nat)]] w fun r w' => r = .returned (.bool false) ∧ Below w.heap.size w w')) (KN : Box (∀ w, FAt w → Calls Tryd.prog 26 #[.int .u8 f] w fun r w' => r = .returned (.agg #[.int .u64 (u : Nat), .int .u64 (v : Nat)]) ∧ Below w.heap.size w w')) (KC : Box (∀ w, Calls Tryd.prog 25 #[.int .u8 f] w fun r w' => r = .returned (.int .i64 e) ∧ Below w.heap.size w w')) (hT : FAt w) : Calls Tryd.prog 9 #[.int .u8 f, .agg #[.int .u64 (x : Nat), .int .u64 (y : Nat)]] w fun r w' => r = .returned (.tuple #[.agg #[.int .u64 (u : Nat), .int .u64 (v : Nat)], .int .i64 e]) ∧ Below w.heap.size w w' := by
  have FF := box hT
  clear hT
  obtain ⟨Rr_0, Rz_0, B0⟩ := opn2 w (Obj.cells #[.int .u64 (x : Nat), .int .u64 (y : Nat)] 25) (Obj.cells #[.int .u64 0, .int .u64 0] 25)
  go_enter Tryd.func9, Tryd.ntmps9
  obtain ⟨cr_0_0, cr_0_1⟩ := cells2s Rr_0
  obtain ⟨cz_0_0, cz_0_1⟩ := cells2s Rz_0
  go_wp2_with fail
  refine (KI.out _ (fatB FF.out B0)).mono ?_
  rintro r w1 ⟨rfl, b1⟩
  have B1 : Below w.heap.size w w1 := btr B0 b1
  have Rr_1 := heap_of b1 _ _ _ Rr_0
  have Rz_1 := heap_of b1 _ _ _ Rz_0
  clear b1 B0 Rr_0 cr_0_0 cr_0_1 Rz_0 cz_0_0 cz_0_1
  obtain ⟨cr_1_0, cr_1_1⟩ := cells2s Rr_1
  obtain ⟨cz_1_0, cz_1_1⟩ := cells2s Rz_1
  go_wp2_with fail
  refine (KN.out _ (fatB FF.out B1)).mono ?_
  rintro r w2 ⟨rfl, b2⟩
  have B2 : Below w.heap.size w w2 := btr B1 b2
  have Rr_2 := heap_of b2 _ _ _ Rr_1
  have Rz_2 := heap_of b2 _ _ _ Rz_1
  clear b2 B1 Rr_1 cr_1_0 cr_1_1 Rz_1 cz_1_0 cz_1_1
  obtain ⟨cr_2_0, cr_2_1⟩ := cells2s Rr_2
  obtain ⟨cz_2_0, cz_2_1⟩ := cells2s Rz_2
  go_wp2_with fail
  refine (KC.out _).mono ?_
  rintro r w3 ⟨rfl, b3⟩
  have B3 : Below w.heap.size w w3 := btr B2 b3
  have Rr_3 := heap_of b3 _ _ _ Rr_2
  have Rz_3 := heap_of b3 _ _ _ Rz_2
  clear b3 B2 Rr_2 cr_2_0 cr_2_1 Rz_2 cz_2_0 cz_2_1
  obtain ⟨cr_3_0, cr_3_1⟩ := cells2s Rr_3
  obtain ⟨cz_3_0, cz_3_1⟩ := cells2s Rz_3
  have q0 := fz (k := 0) Rz_3
  have q1 := fz (k := 1) Rz_3
  obtain ⟨E0, E1⟩ := set2_cells Rz_3 (.int .u64 (u : Nat)) (.int .u64 (v : Nat))
  go_wp2
  exact bodyPost_ret (v := .tuple #[.agg #[.int .u64 (u : Nat), .int .u64 (v : Nat)], .int .i64 e]) (by simp [results, Tryd.results9, go_sem, E0, E1]) rfl ⟨rfl, set2_below B3 (by first | exact Nat.le_refl _ | omega | (skip; omega)) _ _⟩
set_option maxRecDepth 100000 in
set_option maxHeartbeats 8000000 in
theorem bx_unT (f : Int) (x y u v : Nat) (e : Int) (w : World) (KI : Box (∀ w, FAt w → Calls Tryd.prog 12 #[.int .u8 f, .agg #[.int .u64 (x : Nat), .int .u64 (y : Nat)]] w fun r w' => r = .returned (.bool true) ∧ Below w.heap.size w w')) (KL : Box (∀ w, FAt w → Calls Tryd.prog 10 #[.int .u8 f, .agg #[.int .u64 (x : Nat), .int .u64 (y : Nat)]] w fun r w' => r = .returned (.tuple #[.agg #[.int .u64 (u : Nat), .int .u64 (v : Nat)], .int .i64 e]) ∧ Below w.heap.size w w')) (hT : FAt w) : Calls Tryd.prog 9 #[.int .u8 f, .agg #[.int .u64 (x : Nat), .int .u64 (y : Nat)]] w fun r w' => r = .returned (.tuple #[.agg #[.int .u64 (u : Nat), .int .u64 (v : Nat)], .int .i64 e]) ∧ Below w.heap.size w w' := by
  have FF := box hT
  clear hT
  obtain ⟨Rr_0, Rz_0, B0⟩ := opn2 w (Obj.cells #[.int .u64 (x : Nat), .int .u64 (y : Nat)] 25) (Obj.cells #[.int .u64 0, .int .u64 0] 25)
  go_enter Tryd.func9, Tryd.ntmps9
  obtain ⟨cr_0_0, cr_0_1⟩ := cells2s Rr_0
  obtain ⟨cz_0_0, cz_0_1⟩ := cells2s Rz_0
  go_wp2_with fail
  refine (KI.out _ (fatB FF.out B0)).mono ?_
  rintro r w1 ⟨rfl, b1⟩
  have B1 : Below w.heap.size w w1 := btr B0 b1
  have Rr_1 := heap_of b1 _ _ _ Rr_0
  have Rz_1 := heap_of b1 _ _ _ Rz_0
  clear b1 B0 Rr_0 cr_0_0 cr_0_1 Rz_0 cz_0_0 cz_0_1
  obtain ⟨cr_1_0, cr_1_1⟩ := cells2s Rr_1
  obtain ⟨cz_1_0, cz_1_1⟩ := cells2s Rz_1
  go_wp2_with fail
  refine (KL.out _ (fatB FF.out B1)).mono ?_
  rintro r w2 ⟨rfl, b2⟩
  have B2 : Below w.heap.size w w2 := btr B1 b2
  have Rr_2 := heap_of b2 _ _ _ Rr_1
  have Rz_2 := heap_of b2 _ _ _ Rz_1
  clear b2 B1 Rr_1 cr_1_0 cr_1_1 Rz_1 cz_1_0 cz_1_1
  obtain ⟨cr_2_0, cr_2_1⟩ := cells2s Rr_2
  obtain ⟨cz_2_0, cz_2_1⟩ := cells2s Rz_2
  have q0 := fz (k := 0) Rz_2
  have q1 := fz (k := 1) Rz_2
  obtain ⟨E0, E1⟩ := set2_cells Rz_2 (.int .u64 (u : Nat)) (.int .u64 (v : Nat))
  go_wp2
  exact bodyPost_ret (v := .tuple #[.agg #[.int .u64 (u : Nat), .int .u64 (v : Nat)], .int .i64 e]) (by simp [results, Tryd.results9, go_sem, E0, E1]) rfl ⟨rfl, set2_below B2 (by first | exact Nat.le_refl _ | omega | (skip; omega)) _ _⟩
set_option maxRecDepth 100000 in
set_option maxHeartbeats 8000000 in
theorem bx_wiN (f g : Int) (x y a b : Nat) (w : World) (KU : Box (∀ w, FAt w → Calls Tryd.prog 9 #[.int .u8 f, .agg #[.int .u64 (x : Nat), .int .u64 (y : Nat)]] w fun r w' => r = .returned (.tuple #[.agg #[.int .u64 (a : Nat), .int .u64 (b : Nat)], .int .i64 2]) ∧ Below w.heap.size w w')) (hT : FAt w) : Calls Tryd.prog 22 #[.int .u8 f, .agg #[.int .u64 (x : Nat), .int .u64 (y : Nat)], .int .u8 g] w fun r w' => r = .returned (.tuple #[.agg #[.int .u64 0, .int .u64 0], .int .i64 2]) ∧ Below w.heap.size w w' := by
  have FF := box hT
  clear hT
  obtain ⟨Rr_0, Rz_0, B0⟩ := opn2 w (Obj.cells #[.int .u64 (x : Nat), .int .u64 (y : Nat)] 25) (Obj.cells #[.int .u64 0, .int .u64 0] 25)
  go_enter Tryd.func22, Tryd.ntmps22
  obtain ⟨cr_0_0, cr_0_1⟩ := cells2s Rr_0
  obtain ⟨cz_0_0, cz_0_1⟩ := cells2s Rz_0
  go_wp2_with fail
  refine (KU.out _ (fatB FF.out B0)).mono ?_
  rintro r w1 ⟨rfl, b1⟩
  have B1 : Below w.heap.size w w1 := btr B0 b1
  have Rr_1 := heap_of b1 _ _ _ Rr_0
  have Rz_1 := heap_of b1 _ _ _ Rz_0
  clear b1 B0 Rr_0 cr_0_0 cr_0_1 Rz_0 cz_0_0 cz_0_1
  obtain ⟨cr_1_0, cr_1_1⟩ := cells2s Rr_1
  obtain ⟨cz_1_0, cz_1_1⟩ := cells2s Rz_1
  have S2 := box B1.size
  have Lr_2 : Box (w.heap.size < w1.heap.size) := box (Array.getElem?_eq_some_iff.1 Rr_1).1
  have Lz_2 : Box (w.heap.size + 1 < w1.heap.size) := box (Array.getElem?_eq_some_iff.1 Rz_1).1
  have Rb_2 := heap_alloc_last w1 (Obj.cells #[.int .u64 (a : Nat), .int .u64 (b : Nat)] 25)
  have B2 := btr B1 (bal w1 (Obj.cells #[.int .u64 (a : Nat), .int .u64 (b : Nat)] 25))
  have Rr_2 := heap_of (bal w1 (Obj.cells #[.int .u64 (a : Nat), .int .u64 (b : Nat)] 25)) _ _ _ Rr_1
  have Rz_2 := heap_of (bal w1 (Obj.cells #[.int .u64 (a : Nat), .int .u64 (b : Nat)] 25)) _ _ _ Rz_1
  clear B1 Rr_1 cr_1_0 cr_1_1 Rz_1 cz_1_0 cz_1_1
  obtain ⟨cr_2_0, cr_2_1⟩ := cells2s Rr_2
  obtain ⟨cz_2_0, cz_2_1⟩ := cells2s Rz_2
  obtain ⟨cb_2_0, cb_2_1⟩ := cells2s Rb_2
  have q0 := fz (k := 0) Rz_2
  have q1 := fz (k := 1) Rz_2
  obtain ⟨E0, E1⟩ := set2_cells Rz_2 (.int .u64 0) (.int .u64 0)
  go_wp2
  exact bodyPost_ret (v := .tuple #[.agg #[.int .u64 0, .int .u64 0], .int .i64 2]) (by simp [results, Tryd.results22, go_sem, E0, E1]) rfl ⟨rfl, set2_below B2 (by first | exact Nat.le_refl _ | omega | (have := S2.out; have := Lr_2.out; have := Lz_2.out; omega)) _ _⟩
set_option maxRecDepth 100000 in
set_option maxHeartbeats 8000000 in
theorem bx_wiY (f g : Int) (x y a b c d u v : Nat) (e e1 : Int) (w : World) (KU : Box (∀ w, FAt w → Calls Tryd.prog 9 #[.int .u8 f, .agg #[.int .u64 (x : Nat), .int .u64 (y : Nat)]] w fun r w' => r = .returned (.tuple #[.agg #[.int .u64 (a : Nat), .int .u64 (b : Nat)], .int .i64 0]) ∧ Below w.heap.size w w')) (KB : Box (∀ w, FAt w → Calls Tryd.prog 11 #[.int .u8 f, .agg #[.int .u64 (a : Nat), .int .u64 (b : Nat)]] w fun r w' => r = .returned (.tuple #[.agg #[.int .u64 (c : Nat), .int .u64 (d : Nat)], .int .i64 e1]) ∧ Below w.heap.size w w')) (KV : Box (∀ w, FAt w → Calls Tryd.prog 9 #[.int .u8 g, .agg #[.int .u64 (c : Nat), .int .u64 (d : Nat)]] w fun r w' => r = .returned (.tuple #[.agg #[.int .u64 (u : Nat), .int .u64 (v : Nat)], .int .i64 e]) ∧ Below w.heap.size w w')) (hT : FAt w) : Calls Tryd.prog 22 #[.int .u8 f, .agg #[.int .u64 (x : Nat), .int .u64 (y : Nat)], .int .u8 g] w fun r w' => r = .returned (.tuple #[.agg #[.int .u64 (u : Nat), .int .u64 (v : Nat)], .int .i64 e]) ∧ Below w.heap.size w w' := by
  have FF := box hT
  clear hT
  obtain ⟨Rr_0, Rz_0, B0⟩ := opn2 w (Obj.cells #[.int .u64 (x : Nat), .int .u64 (y : Nat)] 25) (Obj.cells #[.int .u64 0, .int .u64 0] 25)
  go_enter Tryd.func22, Tryd.ntmps22
  obtain ⟨cr_0_0, cr_0_1⟩ := cells2s Rr_0
  obtain ⟨cz_0_0, cz_0_1⟩ := cells2s Rz_0
  go_wp2_with fail
  refine (KU.out _ (fatB FF.out B0)).mono ?_
  rintro r w1 ⟨rfl, b1⟩
  have B1 : Below w.heap.size w w1 := btr B0 b1
  have Rr_1 := heap_of b1 _ _ _ Rr_0
  have Rz_1 := heap_of b1 _ _ _ Rz_0
  clear b1 B0 Rr_0 cr_0_0 cr_0_1 Rz_0 cz_0_0 cz_0_1
  obtain ⟨cr_1_0, cr_1_1⟩ := cells2s Rr_1
  obtain ⟨cz_1_0, cz_1_1⟩ := cells2s Rz_1
  have S2 := box B1.size
  have Lr_2 : Box (w.heap.size < w1.heap.size) := box (Array.getElem?_eq_some_iff.1 Rr_1).1
  have Lz_2 : Box (w.heap.size + 1 < w1.heap.size) := box (Array.getElem?_eq_some_iff.1 Rz_1).1
  have Rb_2 := heap_alloc_last w1 (Obj.cells #[.int .u64 (a : Nat), .int .u64 (b : Nat)] 25)
  have B2 := btr B1 (bal w1 (Obj.cells #[.int .u64 (a : Nat), .int .u64 (b : Nat)] 25))
  have Rr_2 := heap_of (bal w1 (Obj.cells #[.int .u64 (a : Nat), .int .u64 (b : Nat)] 25)) _ _ _ Rr_1
  have Rz_2 := heap_of (bal w1 (Obj.cells #[.int .u64 (a : Nat), .int .u64 (b : Nat)] 25)) _ _ _ Rz_1
  clear B1 Rr_1 cr_1_0 cr_1_1 Rz_1 cz_1_0 cz_1_1
  obtain ⟨cr_2_0, cr_2_1⟩ := cells2s Rr_2
  obtain ⟨cz_2_0, cz_2_1⟩ := cells2s Rz_2
  obtain ⟨cb_2_0, cb_2_1⟩ := cells2s Rb_2
  go_wp2_with fail
  refine (KB.out _ (fatB FF.out B2)).mono ?_
  rintro r w3 ⟨rfl, b3⟩
  have B3 : Below w.heap.size w w3 := btr B2 b3
  have Rr_3 := heap_of b3 _ _ _ Rr_2
  have Rz_3 := heap_of b3 _ _ _ Rz_2
  have Rb_3 := heap_of b3 _ _ _ Rb_2
  clear b3 B2 Rr_2 cr_2_0 cr_2_1 Rz_2 cz_2_0 cz_2_1 Rb_2 cb_2_0 cb_2_1
  obtain ⟨cr_3_0, cr_3_1⟩ := cells2s Rr_3
  obtain ⟨cz_3_0, cz_3_1⟩ := cells2s Rz_3
  obtain ⟨cb_3_0, cb_3_1⟩ := cells2s Rb_3
  have S4 := box B3.size
  have Lr_4 : Box (w.heap.size < w3.heap.size) := box (Array.getElem?_eq_some_iff.1 Rr_3).1
  have Lz_4 : Box (w.heap.size + 1 < w3.heap.size) := box (Array.getElem?_eq_some_iff.1 Rz_3).1
  have Lb_4 : Box (w1.heap.size < w3.heap.size) := box (Array.getElem?_eq_some_iff.1 Rb_3).1
  have Rt_4 := heap_alloc_last w3 (Obj.cells #[.int .u64 (c : Nat), .int .u64 (d : Nat)] 25)
  have B4 := btr B3 (bal w3 (Obj.cells #[.int .u64 (c : Nat), .int .u64 (d : Nat)] 25))
  have Rr_4 := heap_of (bal w3 (Obj.cells #[.int .u64 (c : Nat), .int .u64 (d : Nat)] 25)) _ _ _ Rr_3
  have Rz_4 := heap_of (bal w3 (Obj.cells #[.int .u64 (c : Nat), .int .u64 (d : Nat)] 25)) _ _ _ Rz_3
  have Rb_4 := heap_of (bal w3 (Obj.cells #[.int .u64 (c : Nat), .int .u64 (d : Nat)] 25)) _ _ _ Rb_3
  clear B3 Rr_3 cr_3_0 cr_3_1 Rz_3 cz_3_0 cz_3_1 Rb_3 cb_3_0 cb_3_1
  obtain ⟨cr_4_0, cr_4_1⟩ := cells2s Rr_4
  obtain ⟨cz_4_0, cz_4_1⟩ := cells2s Rz_4
  obtain ⟨cb_4_0, cb_4_1⟩ := cells2s Rb_4
  obtain ⟨ct_4_0, ct_4_1⟩ := cells2s Rt_4
  go_wp2_with fail
  refine (KV.out _ (fatB FF.out B4)).mono ?_
  rintro r w5 ⟨rfl, b5⟩
  have B5 : Below w.heap.size w w5 := btr B4 b5
  have Rr_5 := heap_of b5 _ _ _ Rr_4
  have Rz_5 := heap_of b5 _ _ _ Rz_4
  have Rb_5 := heap_of b5 _ _ _ Rb_4
  have Rt_5 := heap_of b5 _ _ _ Rt_4
  clear b5 B4 Rr_4 cr_4_0 cr_4_1 Rz_4 cz_4_0 cz_4_1 Rb_4 cb_4_0 cb_4_1 Rt_4 ct_4_0 ct_4_1
  obtain ⟨cr_5_0, cr_5_1⟩ := cells2s Rr_5
  obtain ⟨cz_5_0, cz_5_1⟩ := cells2s Rz_5
  obtain ⟨cb_5_0, cb_5_1⟩ := cells2s Rb_5
  obtain ⟨ct_5_0, ct_5_1⟩ := cells2s Rt_5
  have q0 := fz (k := 0) Rz_5
  have q1 := fz (k := 1) Rz_5
  obtain ⟨E0, E1⟩ := set2_cells Rz_5 (.int .u64 (u : Nat)) (.int .u64 (v : Nat))
  go_wp2
  exact bodyPost_ret (v := .tuple #[.agg #[.int .u64 (u : Nat), .int .u64 (v : Nat)], .int .i64 e]) (by simp [results, Tryd.results22, go_sem, E0, E1]) rfl ⟨rfl, set2_below B5 (by first | exact Nat.le_refl _ | omega | (have := S2.out; have := Lr_2.out; have := Lz_2.out; have := S4.out; have := Lr_4.out; have := Lz_4.out; have := Lb_4.out; omega)) _ _⟩
theorem top_bit (c i : Nat) (hc : c ≤ 64) : (18446744073709551616 - 2 ^ c).testBit i = (decide (c ≤ i) && decide (i < 64)) := by
  have e : 18446744073709551616 - 2 ^ c = 2 ^ c * (2 ^ (64 - c) - 1) + 0 := by
    rw [Nat.mul_sub, ← Nat.pow_add, show c + (64 - c) = 64 by omega, Nat.mul_one, Nat.add_zero]
  rw [e, Nat.testBit_two_pow_mul_add _ (Nat.two_pow_pos c)]
  by_cases h : i < c
  · rw [if_pos h, Nat.zero_testBit, decide_eq_false (by omega : ¬ c ≤ i), Bool.false_and]
  · rw [if_neg h, Nat.testBit_two_pow_sub_one, decide_eq_true (by omega : c ≤ i), Bool.true_and]
    exact decide_eq_decide.2 (by omega)
theorem top_lt (c : Nat) : 18446744073709551616 - 2 ^ c < 18446744073709551616 := by have := Nat.two_pow_pos c; omega
theorem or_top (x c : Nat) (hx : x < 18446744073709551616) (hc : c ≤ 64) : bits .or .u64 (x : Int) ((18446744073709551616 - 2 ^ c : Nat) : Int) = ((x % 2 ^ c + (18446744073709551616 - 2 ^ c) : Nat) : Int) := by
  rw [bits_or_u64_nat _ _ hx (top_lt c)]
  congr 1
  apply Nat.eq_of_testBit_eq
  intro i
  have e : x % 2 ^ c + (18446744073709551616 - 2 ^ c) = 2 ^ c * (2 ^ (64 - c) - 1) + x % 2 ^ c := by
    rw [Nat.mul_sub, ← Nat.pow_add, show c + (64 - c) = 64 by omega, Nat.mul_one, Nat.add_comm]
  rw [Nat.testBit_or, top_bit c i hc, e, Nat.testBit_two_pow_mul_add _ (Nat.mod_lt _ (Nat.two_pow_pos c)), Nat.testBit_mod_two_pow, Nat.testBit_two_pow_sub_one]
  by_cases h : i < c
  · rw [if_pos h, decide_eq_false (by omega : ¬ c ≤ i), decide_eq_true h]
    simp
  · rw [if_neg h, decide_eq_true (by omega : c ≤ i), Bool.true_and]
    by_cases k : i < 64
    · rw [decide_eq_true k, decide_eq_true (by omega : i - c < 64 - c), Bool.or_true]
    · rw [decide_eq_false k, decide_eq_false (by omega : ¬ i - c < 64 - c), Bool.or_false]
      exact Nat.testBit_lt_two_pow (Nat.lt_of_lt_of_le hx (by rw [show 18446744073709551616 = 2 ^ 64 by decide]; exact Nat.pow_le_pow_right (by decide) (by omega)))
theorem an_top (x c : Nat) (hx : x < 18446744073709551616) (hc : c ≤ 64) : bits .andNot .u64 (x : Int) ((18446744073709551616 - 2 ^ c : Nat) : Int) = ((x % 2 ^ c : Nat) : Int) := by
  have hm := top_lt c
  have tb := fun i => top_bit c i hc
  generalize 18446744073709551616 - 2 ^ c = m at hm tb
  have e : bits .andNot .u64 (x : Int) (m : Int) = (((BitVec.ofNat 64 x &&& ~~~ BitVec.ofNat 64 m).toNat : Nat) : Int) := by
    show IntKind.u64.wrap ((BitVec.ofInt 64 (x : Int) &&& ~~~ BitVec.ofInt 64 (m : Int)).toNat : Int) = _
    rw [BitVec.ofInt_natCast, BitVec.ofInt_natCast, IntKind.wrap_u64]
    have := (BitVec.ofNat 64 x &&& ~~~ BitVec.ofNat 64 m).isLt
    generalize (BitVec.ofNat 64 x &&& ~~~ BitVec.ofNat 64 m).toNat = t at *
    omega
  rw [e]
  congr 1
  apply Nat.eq_of_testBit_eq
  intro i
  rw [BitVec.testBit_toNat, BitVec.getLsbD_and, BitVec.getLsbD_not, BitVec.getLsbD_ofNat, BitVec.getLsbD_ofNat, tb i, Nat.testBit_mod_two_pow]
  by_cases h6 : i < 64
  · by_cases h : i < c
    · simp [h, h6, (by omega : ¬ c ≤ i)]
    · simp [h, h6, (by omega : c ≤ i)]
  · simp [h6]
    intro h
    omega
def hcN (f : Int) : Nat := if f = 3 then 64 else 0
def lcN (f : Int) : Nat := if f = 0 then 32 else if f = 2 then 16 else 64
theorem hc_le (f : Int) : hcN f ≤ 64 := by unfold hcN; split <;> omega
theorem lc_le (f : Int) : lcN f ≤ 64 := by unfold lcN; (repeat' split) <;> omega
def upN (f : Int) : Nat := 18446744073709551616 - 2 ^ hcN f
def loN (f : Int) : Nat := 18446744073709551616 - 2 ^ lcN f
theorem four {f : Int} (h0 : 0 ≤ f) (h3 : f ≤ 3) : f = 0 ∨ f = 1 ∨ f = 2 ∨ f = 3 := by omega
theorem kAbv (f : Int) (h0 : 0 ≤ f) (h3 : f ≤ 3) (w : World) (hT : FAt w) : Calls Tryd.prog 8 #[.int .u8 f] w fun r w' => r = .returned (.tuple #[.agg #[.int .u64 (upN f : Nat), .int .u64 (loN f : Nat)], .int .i64 0]) ∧ Below w.heap.size w w' := by
  rcases four h0 h3 with rfl | rfl | rfl | rfl
  · exact bx_above0 w hT
  · exact bx_above1 w hT
  · exact bx_above2 w hT
  · exact bx_above3 w hT
theorem fC_no {f : Int} (h : 3 < f) : fC f = 2 := by unfold fC; rw [if_neg (by omega)]
theorem kAbv_no (f : Int) (h : 3 < f) (h1 : f ≤ 255) : Box (∀ w, FAt w → Calls Tryd.prog 8 #[.int .u8 f] w fun r w' => r = .returned (.tuple #[.agg #[.int .u64 0, .int .u64 0], .int .i64 2]) ∧ Below w.heap.size w w') := box (fun w _ => bx_aboveN f (by omega) h1 (fC_no h) w)
theorem kJoin (f : Int) (x y : Nat) (hx : x < 18446744073709551616) (hy : y < 18446744073709551616) (w : World) : Calls Tryd.prog 28 #[.agg #[.int .u64 (x : Nat), .int .u64 (y : Nat)], .agg #[.int .u64 (upN f : Nat), .int .u64 (loN f : Nat)]] w fun r w' => r = .returned (.agg #[.int .u64 ((x % 2 ^ hcN f + upN f : Nat) : Int), .int .u64 ((y % 2 ^ lcN f + loN f : Nat) : Int)]) ∧ Below w.heap.size w w' :=
  bx_join _ _ _ _ _ _ (or_top x (hcN f) hx (hc_le f)) (or_top y (lcN f) hy (lc_le f)) w
theorem boxed_iff (f : Int) (h0 : 0 ≤ f) (h3 : f ≤ 3) (x y N : Nat) (hx : x < 18446744073709551616) (hy : y < 18446744073709551616) (hN : y + 18446744073709551616 * x = N) : decide (x % 2 ^ hcN f + upN f = x ∧ y % 2 ^ lcN f + loN f = y) = isN f N := by
  subst hN
  unfold isN
  refine decide_eq_decide.2 ?_
  rcases four h0 h3 with rfl | rfl | rfl | rfl
  · have a : hcN 0 = 0 := rfl
    have b : lcN 0 = 32 := rfl
    have c : wdF 0 = 32 := rfl
    unfold upN loN
    rw [a, b, c]
    simp only [Nat.reducePow, Nat.reduceSub]
    omega
  · have a : hcN 1 = 0 := rfl
    have b : lcN 1 = 64 := rfl
    have c : wdF 1 = 64 := rfl
    unfold upN loN
    rw [a, b, c]
    simp only [Nat.reducePow, Nat.reduceSub]
    omega
  · have a : hcN 2 = 0 := rfl
    have b : lcN 2 = 16 := rfl
    have c : wdF 2 = 16 := rfl
    unfold upN loN
    rw [a, b, c]
    simp only [Nat.reducePow, Nat.reduceSub]
    omega
  · have a : hcN 3 = 64 := rfl
    have b : lcN 3 = 64 := rfl
    have c : wdF 3 = 128 := rfl
    unfold upN loN
    rw [a, b, c]
    simp only [Nat.reducePow, Nat.reduceSub]
    omega
theorem kIsb (f : Int) (x y N : Nat) (h0 : 0 ≤ f) (h1 : f ≤ 255) (hx : x < 18446744073709551616) (hy : y < 18446744073709551616) (hN : y + 18446744073709551616 * x = N) : Box (∀ w, FAt w → Calls Tryd.prog 12 #[.int .u8 f, .agg #[.int .u64 (x : Nat), .int .u64 (y : Nat)]] w fun r w' => r = .returned (.bool (isN f N)) ∧ Below w.heap.size w w') := by
  by_cases c : f ≤ 3
  · exact box (fun w hT => bx_isY f x y (upN f) (loN f) _ _ (isN f N) (by rw [ebb_is]; exact boxed_iff f h0 c x y N hx hy hN) w (box (fun w hT => kAbv f h0 c w hT)) (box (fun w => kJoin f x y hx hy w)) hT)
  · have z : isN f N = false := by unfold isN; rw [wdF_none c]; exact decide_eq_false (fun k => absurd k.1 (by decide))
    rw [z]
    exact box (fun w hT => bx_isN f x y 0 0 w (kAbv_no f (by omega) h1) hT)
theorem kFits (f : Int) (x y N : Nat) (h0 : 0 ≤ f) (h1 : f ≤ 255) (hx : x < 18446744073709551616) (hy : y < 18446744073709551616) (hN : y + 18446744073709551616 * x = N) : Box (∀ w, FAt w → Calls Tryd.prog 27 #[.int .u8 f, .agg #[.int .u64 (x : Nat), .int .u64 (y : Nat)]] w fun r w' => r = .returned (.bool (fitN f N)) ∧ Below w.heap.size w w') := by
  refine box (fun w hT => s_fits_is f (x, y) (fitN f N) h0 h1 hx hy ?_ w hT)
  unfold fitsB fitN
  simp only
  rw [hN, ← Bool.decide_and]
  refine decide_eq_decide.2 ?_
  by_cases c : f ≤ 3
  · have e : fW f = ((wdF f : Nat) : Int) := by rcases four h0 c with rfl | rfl | rfl | rfl <;> rfl
    have p := wdF_pos h0 c
    have q : blen N ≤ wdF f ↔ N < 2 ^ wdF f := blen_iff N (wdF f)
    rw [e]
    omega
  · rw [wdF_none c]
    omega
theorem kBox_no (f : Int) (x y N : Nat) (h0 : 0 ≤ f) (h1 : f ≤ 255) (hx : x < 18446744073709551616) (hy : y < 18446744073709551616) (hN : y + 18446744073709551616 * x = N) (q : fitN f N = false) : Box (∀ w, FAt w → Calls Tryd.prog 11 #[.int .u8 f, .agg #[.int .u64 (x : Nat), .int .u64 (y : Nat)]] w fun r w' => r = .returned (.tuple #[.agg #[.int .u64 0, .int .u64 0], .int .i64 2]) ∧ Below w.heap.size w w') := by
  have K := kFits f x y N h0 h1 hx hy hN
  rw [q] at K
  exact box (fun w hT => bx_boxN f x y w K hT)
theorem low_split (f : Int) (h0 : 0 ≤ f) (h3 : f ≤ 3) (x y N : Nat) (hx : x < 18446744073709551616) (hy : y < 18446744073709551616) (hN : y + 18446744073709551616 * x = N) : y % 2 ^ lcN f + 18446744073709551616 * (x % 2 ^ hcN f) = N % 2 ^ wdF f := by
  subst hN
  rcases four h0 h3 with rfl | rfl | rfl | rfl
  · have a : hcN 0 = 0 := rfl
    have b : lcN 0 = 32 := rfl
    have c : wdF 0 = 32 := rfl
    rw [a, b, c]
    simp only [Nat.reducePow]
    omega
  · have a : hcN 1 = 0 := rfl
    have b : lcN 1 = 64 := rfl
    have c : wdF 1 = 64 := rfl
    rw [a, b, c]
    simp only [Nat.reducePow]
    omega
  · have a : hcN 2 = 0 := rfl
    have b : lcN 2 = 16 := rfl
    have c : wdF 2 = 16 := rfl
    rw [a, b, c]
    simp only [Nat.reducePow]
    omega
  · have a : hcN 3 = 64 := rfl
    have b : lcN 3 = 64 := rfl
    have c : wdF 3 = 128 := rfl
    rw [a, b, c]
    simp only [Nat.reducePow]
    omega
theorem up_lo (f : Int) (h0 : 0 ≤ f) (h3 : f ≤ 3) : loN f + 18446744073709551616 * upN f = abN f := by
  rcases four h0 h3 with rfl | rfl | rfl | rfl <;> decide +kernel
theorem mod_top (x c : Nat) : x % 2 ^ c + (18446744073709551616 - 2 ^ c) < 18446744073709551616 ∨ 64 < c := by
  by_cases h : 64 < c
  · exact Or.inr h
  · have := Nat.mod_lt x (Nat.two_pow_pos c)
    have : 2 ^ c ≤ 2 ^ 64 := Nat.pow_le_pow_right (by decide) (by omega)
    rw [show (2 : Nat) ^ 64 = 18446744073709551616 from rfl] at this
    exact Or.inl (by omega)
theorem kBox_is (f : Int) (x y N : Nat) (h0 : 0 ≤ f) (h3 : f ≤ 3) (hx : x < 18446744073709551616) (hy : y < 18446744073709551616) (hN : y + 18446744073709551616 * x = N) (fit : N < 2 ^ wdF f) (u v : Nat) (h : bv7 (N + abN f) = (u, v)) : Box (∀ w, FAt w → Calls Tryd.prog 11 #[.int .u8 f, .agg #[.int .u64 (x : Nat), .int .u64 (y : Nat)]] w fun r w' => r = .returned (.tuple #[.agg #[.int .u64 (u : Nat), .int .u64 (v : Nat)], .int .i64 0]) ∧ Below w.heap.size w w') := by
  have K := kFits f x y N h0 (by omega) hx hy hN
  have q : fitN f N = true := decide_eq_true ⟨by have := wdF_pos h0 h3; omega, fit⟩
  rw [q] at K
  have l := low_split f h0 h3 x y N hx hy hN
  rw [Nat.mod_eq_of_lt fit] at l
  have ul := up_lo f h0 h3
  have ly : y % 2 ^ lcN f + loN f < 18446744073709551616 := (mod_top y (lcN f)).resolve_right (by have := lc_le f; omega)
  have e : bv7 (N + abN f) = (x % 2 ^ hcN f + upN f, y % 2 ^ lcN f + loN f) := bv_to ly (by omega)
  rw [e] at h
  cases h
  have J := box (fun w => kJoin f x y hx hy w)
  refine box (fun w hT => ?_)
  clear e ly ul l q fit
  rcases four h0 h3 with rfl | rfl | rfl | rfl
  · exact bx_box0 x y _ _ w K J hT
  · exact bx_box1 x y _ _ w K J hT
  · exact bx_box2 x y _ _ w K J hT
  · exact bx_box3 x y _ _ w K J hT
theorem kLow_is (f : Int) (x y N : Nat) (h0 : 0 ≤ f) (h3 : f ≤ 3) (hx : x < 18446744073709551616) (hy : y < 18446744073709551616) (hN : y + 18446744073709551616 * x = N) (u v : Nat) (h : bv7 (N % 2 ^ wdF f) = (u, v)) : Box (∀ w, FAt w → Calls Tryd.prog 10 #[.int .u8 f, .agg #[.int .u64 (x : Nat), .int .u64 (y : Nat)]] w fun r w' => r = .returned (.tuple #[.agg #[.int .u64 (u : Nat), .int .u64 (v : Nat)], .int .i64 0]) ∧ Below w.heap.size w w') := by
  rw [bv_to (show y % 2 ^ lcN f < 18446744073709551616 from Nat.lt_of_le_of_lt (Nat.mod_le _ _) hy) (low_split f h0 h3 x y N hx hy hN)] at h
  cases h
  exact box (fun w hT => bx_lowY f x y (upN f) (loN f) _ _ (an_top x (hcN f) hx (hc_le f)) (an_top y (lcN f) hy (lc_le f)) w (box (fun w hT => kAbv f h0 h3 w hT)) hT)
theorem kUbx_no (f : Int) (x y N : Nat) (h : 3 < f) (h1 : f ≤ 255) (hx : x < 18446744073709551616) (hy : y < 18446744073709551616) (hN : y + 18446744073709551616 * x = N) : Box (∀ w, FAt w → Calls Tryd.prog 9 #[.int .u8 f, .agg #[.int .u64 (x : Nat), .int .u64 (y : Nat)]] w fun r w' => r = .returned (.tuple #[.agg #[.int .u64 0, .int .u64 0], .int .i64 2]) ∧ Below w.heap.size w w') := by
  have K := kIsb f x y N (by omega) h1 hx hy hN
  have z : isN f N = false := by unfold isN; rw [wdF_none (by omega)]; exact decide_eq_false (fun k => absurd k.1 (by decide))
  rw [z] at K
  exact box (fun w hT => bx_unF f x y 0 0 2 w K (box (fun w hT => n_nan f (by omega) h1 h w hT)) (box (fun w => bel_st (s_check_is f 2 (by omega) h1 (fC_no h) w))) hT)
theorem nan_words {f : Int} (h0 : 0 ≤ f) (h3 : f ≤ 3) : eNaN f = nanN f := by
  rcases four h0 h3 with rfl | rfl | rfl | rfl <;> decide +kernel
theorem kUbx_is (f : Int) (x y N : Nat) (h0 : 0 ≤ f) (h3 : f ≤ 3) (hx : x < 18446744073709551616) (hy : y < 18446744073709551616) (hN : y + 18446744073709551616 * x = N) (u v : Nat) (h : bv7 (ubN f N) = (u, v)) : Box (∀ w, FAt w → Calls Tryd.prog 9 #[.int .u8 f, .agg #[.int .u64 (x : Nat), .int .u64 (y : Nat)]] w fun r w' => r = .returned (.tuple #[.agg #[.int .u64 (u : Nat), .int .u64 (v : Nat)], .int .i64 0]) ∧ Below w.heap.size w w') := by
  have K := kIsb f x y N h0 (by omega) hx hy hN
  unfold ubN at h
  cases q : isN f N
  · rw [q] at K h
    have KN : Box (∀ w, FAt w → Calls Tryd.prog 26 #[.int .u8 f] w fun r w' => r = .returned (.agg #[.int .u64 (u : Nat), .int .u64 (v : Nat)]) ∧ Below w.heap.size w w') := box (fun w hT => by
      have := s_nan f (four h0 h3) (nanN f) (nan_words h0 h3) w hT
      rw [show bv7 (nanN f) = (u, v) from h] at this
      exact this)
    exact box (fun w hT => bx_unF f x y u v 0 w K KN (box (fun w => bel_st (s_check_is f 0 h0 (by omega) (by unfold fC; rw [if_pos (four h0 h3)]) w))) hT)
  · rw [q] at K h
    exact box (fun w hT => bx_unT f x y u v 0 w K (kLow_is f x y N h0 h3 hx hy hN u v h) hT)
theorem kWit_is (f : Int) (x y N : Nat) (g : Int) (h0 : 0 ≤ f) (h3 : f ≤ 3) (g0 : 0 ≤ g) (g3 : g ≤ 3) (hx : x < 18446744073709551616) (hy : y < 18446744073709551616) (hN : y + 18446744073709551616 * x = N) (u v : Nat) (h : bv7 (ubN g (ubN f N + abN f)) = (u, v)) : Box (∀ w, FAt w → Calls Tryd.prog 22 #[.int .u8 f, .agg #[.int .u64 (x : Nat), .int .u64 (y : Nat)], .int .u8 g] w fun r w' => r = .returned (.tuple #[.agg #[.int .u64 (u : Nat), .int .u64 (v : Nat)], .int .i64 0]) ∧ Below w.heap.size w w') := by
  have uf := ub_fit h0 h3 N
  obtain ⟨r1, _, _, _⟩ := box_isN h0 h3 uf
  obtain ⟨a, b, e⟩ : ∃ u v, bv7 (ubN f N) = (u, v) := ⟨_, _, rfl⟩
  obtain ⟨c, d, e2⟩ : ∃ u v, bv7 (ubN f N + abN f) = (u, v) := ⟨_, _, rfl⟩
  obtain ⟨l1, l2, l3⟩ := bv_of e (fit128 uf)
  obtain ⟨m1, m2, m3⟩ := bv_of e2 (by rw [← p128]; exact r1)
  exact box (fun w hT => bx_wiY f g x y a b c d u v 0 0 w (kUbx_is f x y N h0 h3 hx hy hN a b e) (kBox_is f a b _ h0 h3 l1 l2 l3 uf c d e2) (kUbx_is g c d _ g0 g3 m1 m2 m3 u v h) hT)
theorem kWit_no1 (f g : Int) (x y N : Nat) (h : 3 < f) (h1 : f ≤ 255) (hx : x < 18446744073709551616) (hy : y < 18446744073709551616) (hN : y + 18446744073709551616 * x = N) : Box (∀ w, FAt w → Calls Tryd.prog 22 #[.int .u8 f, .agg #[.int .u64 (x : Nat), .int .u64 (y : Nat)], .int .u8 g] w fun r w' => r = .returned (.tuple #[.agg #[.int .u64 0, .int .u64 0], .int .i64 2]) ∧ Below w.heap.size w w') :=
  box (fun w hT => bx_wiN f g x y 0 0 w (kUbx_no f x y N h h1 hx hy hN) hT)
theorem kWit_no2 (f g : Int) (x y N : Nat) (h0 : 0 ≤ f) (h3 : f ≤ 3) (k : 3 < g) (k1 : g ≤ 255) (hx : x < 18446744073709551616) (hy : y < 18446744073709551616) (hN : y + 18446744073709551616 * x = N) : Box (∀ w, FAt w → Calls Tryd.prog 22 #[.int .u8 f, .agg #[.int .u64 (x : Nat), .int .u64 (y : Nat)], .int .u8 g] w fun r w' => r = .returned (.tuple #[.agg #[.int .u64 0, .int .u64 0], .int .i64 2]) ∧ Below w.heap.size w w') := by
  have uf := ub_fit h0 h3 N
  obtain ⟨r1, _, _, _⟩ := box_isN h0 h3 uf
  obtain ⟨a, b, e⟩ : ∃ u v, bv7 (ubN f N) = (u, v) := ⟨_, _, rfl⟩
  obtain ⟨c, d, e2⟩ : ∃ u v, bv7 (ubN f N + abN f) = (u, v) := ⟨_, _, rfl⟩
  obtain ⟨l1, l2, l3⟩ := bv_of e (fit128 uf)
  obtain ⟨m1, m2, m3⟩ := bv_of e2 (by rw [← p128]; exact r1)
  exact box (fun w hT => bx_wiY f g x y a b c d 0 0 2 0 w (kUbx_is f x y N h0 h3 hx hy hN a b e) (kBox_is f a b _ h0 h3 l1 l2 l3 uf c d e2) (kUbx_no g c d _ k k1 m1 m2 m3) hT)
theorem lives22 (w : World) (hT : FAt w) : Calls Tryd.prog 14 #[] w fun r w' => r = .returned (.bool true) ∧ Below w.heap.size w w' :=
  lives22_all (fun f x y N h0 h3 hx hy hN u v e => kUbx_is f x y N h0 h3 hx hy hN u v e) (fun f x y N h h1 hx hy hN => kUbx_no f x y N h h1 hx hy hN) (fun f x y N h0 h3 hx hy hN fit u v e => kBox_is f x y N h0 h3 hx hy hN fit u v e) (fun f x y N h0 h1 hx hy hN q => kBox_no f x y N h0 h1 hx hy hN q) w hT
end Go.Proofs.YtakmlgcnfbiagaaDoor
namespace Go.Proofs.YtakmlgcnfbiagaaDoor
set_option maxRecDepth 100000
set_option maxHeartbeats 40000000
set_option maxRecDepth 100000
open WMath
open Go.ChangeShapes Go.WideShapes Go.ChangeAt Go.RowKit
theorem trod_row4 {H : Type} {enc : TypeId × Value → H} {P : Program} {w : World} {base : Nat} {spare : Nat → Bool} {held : Bool} {t : TypeId} {f0 f1 f2 f3 : Field} {fuel : Nat} {cs : List Value} {x : DataW H × List MemPlace} (ht : P.underlying t = some (.struct #[f0, f1, f2, f3])) (h : DataW.trod enc P w base spare held fuel t cs = some x) :
    ∃ y0 y1 y2 y3 n, x = (.agg [y0.1, y1.1, y2.1, y3.1], y0.2 ++ (y1.2 ++ (y2.2 ++ y3.2))) ∧ DataW.trod enc P w base spare held n f0.type ((cs.drop f0.offset).take (P.cellsOf f0.type)) = some y0 ∧
      DataW.trod enc P w base spare held n f1.type ((cs.drop f1.offset).take (P.cellsOf f1.type)) = some y1 ∧ DataW.trod enc P w base spare held n f2.type ((cs.drop f2.offset).take (P.cellsOf f2.type)) = some y2 ∧
      DataW.trod enc P w base spare held n f3.type ((cs.drop f3.offset).take (P.cellsOf f3.type)) = some y3 := by
  obtain ⟨xs, n, _, rfl, hl, hlen, hf⟩ := DataW.trod_struct ht h
  match xs, hlen with
  | [y0, y1, y2, y3], _ => exact ⟨y0, y1, y2, y3, n, by simp, by simpa using hf 0 f0 rfl, by simpa using hf 1 f1 rfl, by simpa using hf 2 f2 rfl, by simpa using hf 3 f3 rfl⟩


theorem list4' {α : Type} (l : List α) (h : l.length = 4) : ∃ a b c d, l = [a, b, c, d] := by
  match l, h with
  | [a, b, c, d], _ => exact ⟨a, b, c, d, rfl⟩

theorem row_read {w : World} {fuel : Nat} {enc : TypeId × Value → Unit} {base : Nat} {spare : Nat → Bool} {held : Bool} {l : List Value} {a b c : Int} {s : List UInt8} {p : List MemPlace}
    (h : DataW.trod enc Tryd.prog w base spare held fuel 60 l = some (.agg [.lit (.int .i64 a), .lit (.int .i64 b), .lit (.int .i64 c), .lit (.string s)], p)) (hl : l.length = 4) :
    l = [.int .i64 a, .int .i64 b, .int .i64 c, .string ⟨⟨s⟩⟩] := by
  have h3 : Tryd.prog.cellsOf 3 = 1 := by kernel_rfl
  have h9 : Tryd.prog.cellsOf 9 = 1 := by kernel_rfl
  obtain ⟨c0, c1, c2, c3, rfl⟩ := list4' l hl
  obtain ⟨y0, y1, y2, y3, n, hx, g0, g1, g2, g3⟩ := trod_row4 Tryd.underlying60 h
  simp only [h3, h9] at g0 g1 g2 g3
  obtain ⟨x0, e0, k0, w0⟩ := DataW.trod_int Tryd.underlying3 g0
  obtain ⟨x1, e1, k1, w1⟩ := DataW.trod_int Tryd.underlying3 g1
  obtain ⟨x2, e2, k2, w2⟩ := DataW.trod_int Tryd.underlying3 g2
  obtain ⟨x3, e3, k3, w3⟩ := DataW.trod_string Tryd.underlying9 g3
  simp at e0 e1 e2 e3
  subst e0 e1 e2 e3
  rw [k0, k1, k2, k3] at hx
  simp at hx
  obtain ⟨⟨rfl, rfl, rfl, rfl⟩, _⟩ := hx
  rfl

theorem list2x {α : Type} (l : List α) (h : l.length = 2) : ∃ a b, l = [a, b] := by
  match l, h with
  | [a, b], _ => exact ⟨a, b, rfl⟩
theorem trod_row2 {H : Type} {enc : TypeId × Value → H} {P : Program} {w : World} {base : Nat} {spare : Nat → Bool} {held : Bool} {t : TypeId} {f0 f1 : Field} {fuel : Nat} {cs : List Value} {x : DataW H × List MemPlace} (ht : P.underlying t = some (.struct #[f0, f1])) (h : DataW.trod enc P w base spare held fuel t cs = some x) :
    ∃ y0 y1 n, x = (.agg [y0.1, y1.1], y0.2 ++ y1.2) ∧ DataW.trod enc P w base spare held n f0.type ((cs.drop f0.offset).take (P.cellsOf f0.type)) = some y0 ∧ DataW.trod enc P w base spare held n f1.type ((cs.drop f1.offset).take (P.cellsOf f1.type)) = some y1 := by
  obtain ⟨xs, n, _, rfl, hl, hlen, hf⟩ := DataW.trod_struct ht h
  match xs, hlen with
  | [y0, y1], _ => exact ⟨y0, y1, n, by simp, by simpa using hf 0 f0 rfl, by simpa using hf 1 f1 rfl⟩
theorem bits_read {w : World} {fuel : Nat} {enc : TypeId × Value → Unit} {base : Nat} {spare : Nat → Bool} {held : Bool} {l : List Value} {a b : Int} {p : List MemPlace}
    (h : DataW.trod enc Tryd.prog w base spare held fuel 25 l = some (.agg [.lit (.int .u64 a), .lit (.int .u64 b)], p)) (hl0 : l.length = 2) :
    l = [.int .u64 a, .int .u64 b] := by
  have hce : Tryd.prog.cellsOf 23 = 1 := by kernel_rfl
  obtain ⟨c0, c1, rfl⟩ := list2x l hl0
  obtain ⟨y0, y1, n, hx, g0, g1⟩ := trod_row2 Tryd.underlying25 h
  simp only [hce] at g0 g1
  obtain ⟨x0, e0, k0, w0⟩ := DataW.trod_int Tryd.underlying23 g0
  obtain ⟨x1, e1, k1, w1⟩ := DataW.trod_int Tryd.underlying23 g1
  simp at e0 e1
  subst e0 e1
  rw [k0, k1] at hx
  simp at hx
  obtain ⟨⟨rfl, rfl⟩, _⟩ := hx
  rfl
def laid7 : List (String × DataW Unit) := [("abacus/shape.formats", Rows.laid_abacus_shape_formats), ("abacus/box.above", Rows.laid_abacus_box_above)]
theorem gTab7 : Tryd.prog.globalNamed "abacus/shape.formats" = some 1 := by kernel_rfl
theorem gType7 : (Tryd.prog.globals[1]?).map (·.type) = some 62 := by kernel_rfl
theorem gTab_ab : Tryd.prog.globalNamed "abacus/box.above" = some 0 := by kernel_rfl
theorem gType_ab : (Tryd.prog.globals[0]?).map (·.type) = some 46 := by kernel_rfl
def cells_ab : Array Value := #[.int .u64 18446744073709551615, .int .u64 18446744069414584320, .int .u64 18446744073709551615, .int .u64 0, .int .u64 18446744073709551615, .int .u64 18446744073709486080, .int .u64 0, .int .u64 0]
theorem of_ab {W : World} {rest : List (String × DataW Unit)} (h : laidMet Tryd.prog (("abacus/box.above", Rows.laid_abacus_box_above) :: rest) W) : ∀ i, i < 8 → W.cell? ⟨0, i, none⟩ = cells_ab[i]? := by
  have hce : Tryd.prog.cellsOf 25 = 2 := by kernel_rfl
  have hct : Tryd.prog.cellsOf 46 = 8 := by kernel_rfl
  obtain ⟨ps, ⟨g', t', cs, fuel, p, q, hg', ht', hvar, hd, _, _⟩, _⟩ := h
  obtain rfl := Option.some.inj (gTab_ab.symm.trans hg')
  obtain rfl := Option.some.inj (gType_ab.symm.trans ht')
  obtain ⟨xs, m, rfl, hx, hl, hxl, hel⟩ := DataW.trod_array Tryd.underlying46 hd
  rw [hce] at hel
  rw [hct] at hl
  have hl2 : cs.size = 8 := by simpa using hl
  match xs, hxl with
  | [y0, y1, y2, y3], _ =>
    have hx1 := congrArg Prod.fst hx
    simp [Rows.laid_abacus_box_above] at hx1
    obtain ⟨h0, h1, h2, h3⟩ := hx1
    have q0 := hel 0 (by decide)
    have q1 := hel 1 (by decide)
    have q2 := hel 2 (by decide)
    have q3 := hel 3 (by decide)
    simp only [List.getElem?_cons_zero, List.getElem?_cons_succ] at q0 q1 q2 q3
    have z0 := bits_read (p := y0.2) (by rw [q0, h0]) (by simp; omega)
    have z1 := bits_read (p := y1.2) (by rw [q1, h1]) (by simp; omega)
    have z2 := bits_read (p := y2.2) (by rw [q2, h2]) (by simp; omega)
    have z3 := bits_read (p := y3.2) (by rw [q3, h3]) (by simp; omega)
    have hcs : ∀ i, i < 8 → cs.toList[i]? = cells_ab[i]? := by
      intro i hi
      have e0 : cs.toList[i]? = (cs.toList.drop (i / 2 * 2))[i % 2]? := by rw [List.getElem?_drop]; congr 1; omega
      have e1 : (cs.toList.drop (i / 2 * 2))[i % 2]? = ((cs.toList.drop (i / 2 * 2)).take 2)[i % 2]? := by rw [List.getElem?_take, if_pos (by omega)]
      rw [e0, e1]
      have : i / 2 = 0 ∨ i / 2 = 1 ∨ i / 2 = 2 ∨ i / 2 = 3 := by omega
      have hj : i % 2 = 0 ∨ i % 2 = 1 := by omega
      have hi2 : i = i / 2 * 2 + i % 2 := by omega
      rcases this with e | e | e | e <;> rw [e] at hi2 ⊢ <;> rcases hj with k | k <;> rw [k] at hi2 ⊢ <;> subst hi2 <;> first | (rw [z0]; rfl) | (rw [z1]; rfl) | (rw [z2]; rfl) | (rw [z3]; rfl)
    intro i hi
    rw [World.var?_cell gTab_ab hvar i, ← hcs i hi]
    simp
theorem of_laid7 {W : World} (h : laidMetH Tryd.prog laid7 W) : FAt W := by
  have hce : Tryd.prog.cellsOf 60 = 4 := by kernel_rfl
  have hct : Tryd.prog.cellsOf 62 = 16 := by kernel_rfl
  rw [MakeChecks.laidMetH_plain _ _ _ (by kernel_rfl)] at h
  have u1 := of_ab (laidMet.tail h)
  obtain ⟨ps, ⟨g', t', cs, fuel, p, q, hg', ht', hvar, hd, _, _⟩, _⟩ := h
  obtain rfl := Option.some.inj (gTab7.symm.trans hg')
  obtain rfl := Option.some.inj (gType7.symm.trans ht')
  obtain ⟨xs, m, rfl, hx, hl, hxl, hel⟩ := DataW.trod_array Tryd.underlying62 hd
  rw [hce] at hel
  rw [hct] at hl
  have hl2 : cs.size = 16 := by simpa using hl
  match xs, hxl with
  | [y0, y1, y2, y3], _ =>
    have hx1 := congrArg Prod.fst hx
    simp [Rows.laid_abacus_shape_formats] at hx1
    obtain ⟨h0, h1, h2, h3⟩ := hx1
    have q0 := hel 0 (by decide)
    have q1 := hel 1 (by decide)
    have q2 := hel 2 (by decide)
    have q3 := hel 3 (by decide)
    simp only [List.getElem?_cons_zero, List.getElem?_cons_succ] at q0 q1 q2 q3
    have z0 := row_read (p := y0.2) (by rw [q0, h0]) (by simp; omega)
    have z1 := row_read (p := y1.2) (by rw [q1, h1]) (by simp; omega)
    have z2 := row_read (p := y2.2) (by rw [q2, h2]) (by simp; omega)
    have z3 := row_read (p := y3.2) (by rw [q3, h3]) (by simp; omega)
    have hcs : ∀ i, i < 16 → cs.toList[i]? = fcells[i]? := by
      intro i hi
      have e0 : cs.toList[i]? = (cs.toList.drop (i / 4 * 4))[i % 4]? := by rw [List.getElem?_drop]; congr 1; omega
      have e1 : (cs.toList.drop (i / 4 * 4))[i % 4]? = ((cs.toList.drop (i / 4 * 4)).take 4)[i % 4]? := by rw [List.getElem?_take, if_pos (by omega)]
      rw [e0, e1]
      have : i / 4 = 0 ∨ i / 4 = 1 ∨ i / 4 = 2 ∨ i / 4 = 3 := by omega
      have hj : i % 4 = 0 ∨ i % 4 = 1 ∨ i % 4 = 2 ∨ i % 4 = 3 := by omega
      have hi2 : i = i / 4 * 4 + i % 4 := by omega
      rcases this with e | e | e | e <;> rw [e] at hi2 ⊢ <;> rcases hj with k | k | k | k <;> rw [k] at hi2 ⊢ <;> subst hi2 <;> first | (rw [z0]; rfl) | (rw [z1]; rfl) | (rw [z2]; rfl) | (rw [z3]; rfl)
    refine ⟨?_, List.forall_mem_cons.2 ⟨u1 0 (by decide), List.forall_mem_cons.2 ⟨u1 1 (by decide), List.forall_mem_cons.2 ⟨u1 2 (by decide), List.forall_mem_cons.2 ⟨u1 3 (by decide), List.forall_mem_cons.2 ⟨u1 4 (by decide), List.forall_mem_cons.2 ⟨u1 5 (by decide), List.forall_mem_cons.2 ⟨u1 6 (by decide), List.forall_mem_cons.2 ⟨u1 7 (by decide), List.forall_mem_nil _⟩⟩⟩⟩⟩⟩⟩⟩⟩
    intro i hi
    rw [World.var?_cell gTab7 hvar i, ← hcs i hi]
    simp

theorem door_met7 (os : Os) (args : Array Value) : laidMetH Tryd.prog laid7 ((World.doorLaid Tryd.prog 400 os).forCall (fun _ _ => 0) ⟨#[], args, []⟩).memory :=
  laidMetH_of_parts3 (fuel := 8) (laidMet_of_run' 8 (by kernel_rfl) (by kernel_rfl)) (by kernel_rfl) (by kernel_rfl)
end Go.Proofs.YtakmlgcnfbiagaaDoor
