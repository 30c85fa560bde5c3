/-
  What the functions that the statement reaches return: part 4 (JK, JL, C1, C1b, C2).
-/
import Derived.Deep.RegionHeld3
import Derived.Deep.WholeRow
import Derived.Laws.CopyRow
import Derived.Test.YtjbnifhpbdjonaaDoorRp03
namespace Go.Proofs.YtjbnifhpbdjonaaDoor
set_option maxRecDepth 100000
set_option maxHeartbeats 40000000
set_option maxRecDepth 100000
open Go.RowKit WMath
set_option linter.unusedSimpArgs false
set_option linter.unusedVariables false
theorem bx_join (a b c d H L : Int) (hH : bits .or .u64 a c = H) (hL : bits .or .u64 b d = L) (w : World) : Calls Tryd.prog 68 #[.agg #[.int .u64 a, .int .u64 b], .agg #[.int .u64 c, .int .u64 d]] w fun r w' => r = .returned (.agg #[.int .u64 H, .int .u64 L]) ∧ Below w.heap.size w w' := by
  go_enter Tryd.func68, Tryd.ntmps68
  go_wp2
  exact bodyPost_ret (v := .agg #[.int .u64 H, .int .u64 L]) (by simp [results, Tryd.results68, go_sem]) rfl ⟨rfl, ((bal7 _ _).alloc (by simp only [size_al]; omega) _).alloc (by simp only [size_al]; omega) _⟩
set_option maxRecDepth 100000 in
set_option maxHeartbeats 8000000 in
theorem bx_above0 (w : World) (hT : FAt w) : Calls Tryd.prog 66 #[.int .u8 0] w fun r w' => r = .returned (.tuple #[.agg #[.int .u64 18446744073709551615, .int .u64 18446744069414584320], .int .i64 0]) ∧ Below w.heap.size w w' := by
  obtain ⟨Rz_0, B0⟩ := opn1 w (Obj.cells #[.int .u64 0, .int .u64 0] 25)
  go_enter Tryd.func66, Tryd.ntmps66
  have T2 := fatB hT B0
  have g0 := fat_x T2 0 0 0 (.int .u64 18446744073709551615) rfl
  have g1 := fat_x T2 1 0 1 (.int .u64 18446744069414584320) rfl
  clear T2 hT
  go_wp2_with fail
  refine (s_check_is 0 0 (by decide) (by decide) (by decide) _).mono ?_
  rintro r w' ⟨rfl, rfl⟩
  obtain ⟨cz_0_0, cz_0_1⟩ := cells2s Rz_0
  clear B0 Rz_0
  go_wp2
  exact bodyPost_ret (v := .tuple #[.agg #[.int .u64 18446744073709551615, .int .u64 18446744069414584320], .int .i64 0]) (by simp [results, Tryd.results66, go_sem]) rfl ⟨rfl, ((Below.refl _ _).alloc (by first | omega | (simp only [size_al]; omega)) _)⟩
set_option maxRecDepth 100000 in
set_option maxHeartbeats 8000000 in
theorem bx_above1 (w : World) (hT : FAt w) : Calls Tryd.prog 66 #[.int .u8 1] w fun r w' => r = .returned (.tuple #[.agg #[.int .u64 18446744073709551615, .int .u64 0], .int .i64 0]) ∧ Below w.heap.size w w' := by
  obtain ⟨Rz_0, B0⟩ := opn1 w (Obj.cells #[.int .u64 0, .int .u64 0] 25)
  go_enter Tryd.func66, Tryd.ntmps66
  have T2 := fatB hT B0
  have g0 := fat_x T2 2 0 2 (.int .u64 18446744073709551615) rfl
  have g1 := fat_x T2 3 0 3 (.int .u64 0) rfl
  clear T2 hT
  go_wp2_with fail
  refine (s_check_is 1 0 (by decide) (by decide) (by decide) _).mono ?_
  rintro r w' ⟨rfl, rfl⟩
  obtain ⟨cz_0_0, cz_0_1⟩ := cells2s Rz_0
  clear B0 Rz_0
  go_wp2
  exact bodyPost_ret (v := .tuple #[.agg #[.int .u64 18446744073709551615, .int .u64 0], .int .i64 0]) (by simp [results, Tryd.results66, go_sem]) rfl ⟨rfl, ((Below.refl _ _).alloc (by first | omega | (simp only [size_al]; omega)) _)⟩
set_option maxRecDepth 100000 in
set_option maxHeartbeats 8000000 in
theorem bx_above2 (w : World) (hT : FAt w) : Calls Tryd.prog 66 #[.int .u8 2] w fun r w' => r = .returned (.tuple #[.agg #[.int .u64 18446744073709551615, .int .u64 18446744073709486080], .int .i64 0]) ∧ Below w.heap.size w w' := by
  obtain ⟨Rz_0, B0⟩ := opn1 w (Obj.cells #[.int .u64 0, .int .u64 0] 25)
  go_enter Tryd.func66, Tryd.ntmps66
  have T2 := fatB hT B0
  have g0 := fat_x T2 4 0 4 (.int .u64 18446744073709551615) rfl
  have g1 := fat_x T2 5 0 5 (.int .u64 18446744073709486080) rfl
  clear T2 hT
  go_wp2_with fail
  refine (s_check_is 2 0 (by decide) (by decide) (by decide) _).mono ?_
  rintro r w' ⟨rfl, rfl⟩
  obtain ⟨cz_0_0, cz_0_1⟩ := cells2s Rz_0
  clear B0 Rz_0
  go_wp2
  exact bodyPost_ret (v := .tuple #[.agg #[.int .u64 18446744073709551615, .int .u64 18446744073709486080], .int .i64 0]) (by simp [results, Tryd.results66, go_sem]) rfl ⟨rfl, ((Below.refl _ _).alloc (by first | omega | (simp only [size_al]; omega)) _)⟩
set_option maxRecDepth 100000 in
set_option maxHeartbeats 8000000 in
theorem bx_above3 (w : World) (hT : FAt w) : Calls Tryd.prog 66 #[.int .u8 3] w fun r w' => r = .returned (.tuple #[.agg #[.int .u64 0, .int .u64 0], .int .i64 0]) ∧ Below w.heap.size w w' := by
  obtain ⟨Rz_0, B0⟩ := opn1 w (Obj.cells #[.int .u64 0, .int .u64 0] 25)
  go_enter Tryd.func66, Tryd.ntmps66
  have T2 := fatB hT B0
  have g0 := fat_x T2 6 0 6 (.int .u64 0) rfl
  have g1 := fat_x T2 7 0 7 (.int .u64 0) rfl
  clear T2 hT
  go_wp2_with fail
  refine (s_check_is 3 0 (by decide) (by decide) (by decide) _).mono ?_
  rintro r w' ⟨rfl, rfl⟩
  obtain ⟨cz_0_0, cz_0_1⟩ := cells2s Rz_0
  clear B0 Rz_0
  go_wp2
  exact bodyPost_ret (v := .tuple #[.agg #[.int .u64 0, .int .u64 0], .int .i64 0]) (by simp [results, Tryd.results66, go_sem]) rfl ⟨rfl, ((Below.refl _ _).alloc (by first | omega | (simp only [size_al]; omega)) _)⟩
set_option maxRecDepth 100000 in
set_option maxHeartbeats 8000000 in
theorem bx_aboveN (f : Int) (h0 : 0 ≤ f) (h1 : f ≤ 255) (hc : fC f = 2) (w : World) : Calls Tryd.prog 66 #[.int .u8 f] w fun r w' => r = .returned (.tuple #[.agg #[.int .u64 0, .int .u64 0], .int .i64 2]) ∧ Below w.heap.size w w' := by
  obtain ⟨Rz_0, B0⟩ := opn1 w (Obj.cells #[.int .u64 0, .int .u64 0] 25)
  go_enter Tryd.func66, Tryd.ntmps66
  go_wp2_with fail
  refine (s_check_is f 2 h0 h1 hc _).mono ?_
  rintro r w' ⟨rfl, rfl⟩
  obtain ⟨cz_0_0, cz_0_1⟩ := cells2s Rz_0
  clear B0 Rz_0
  go_wp2
  exact bodyPost_ret (v := .tuple #[.agg #[.int .u64 0, .int .u64 0], .int .i64 2]) (by simp [results, Tryd.results66, go_sem]) rfl ⟨rfl, ((Below.refl _ _).alloc (by first | omega | (simp only [size_al]; omega)) _)⟩
set_option maxRecDepth 100000 in
set_option maxHeartbeats 8000000 in
theorem bx_isN (f : Int) (x y U V : Nat) (w : World) (KA : Box (∀ w, FAt w → Calls Tryd.prog 66 #[.int .u8 f] w fun r w' => r = .returned (.tuple #[.agg #[.int .u64 (U : Nat), .int .u64 (V : Nat)], .int .i64 2]) ∧ Below w.heap.size w w')) (hT : FAt w) : Calls Tryd.prog 63 #[.int .u8 f, .agg #[.int .u64 (x : Nat), .int .u64 (y : Nat)]] w fun r w' => r = .returned (.bool false) ∧ Below w.heap.size w w' := by
  have FF := box hT
  clear hT
  obtain ⟨Rr_0, B0⟩ := opn1 w (Obj.cells #[.int .u64 (x : Nat), .int .u64 (y : Nat)] 25)
  go_enter Tryd.func63, Tryd.ntmps63
  obtain ⟨cr_0_0, cr_0_1⟩ := cells2s Rr_0
  go_wp2_with fail
  refine (KA.out _ (fatB FF.out B0)).mono ?_
  rintro r w1 ⟨rfl, b1⟩
  have B1 : Below w.heap.size w w1 := btr B0 b1
  have Rr_1 := heap_of b1 _ _ _ Rr_0
  clear b1 B0 Rr_0 cr_0_0 cr_0_1
  obtain ⟨cr_1_0, cr_1_1⟩ := cells2s Rr_1
  have S2 := box B1.size
  have Lr_2 : Box (w.heap.size < w1.heap.size) := box (Array.getElem?_eq_some_iff.1 Rr_1).1
  have Ro_2 := heap_alloc_last w1 (Obj.cells #[.int .u64 (U : Nat), .int .u64 (V : Nat)] 25)
  have B2 := btr B1 (bal w1 (Obj.cells #[.int .u64 (U : Nat), .int .u64 (V : Nat)] 25))
  have Rr_2 := heap_of (bal w1 (Obj.cells #[.int .u64 (U : Nat), .int .u64 (V : Nat)] 25)) _ _ _ Rr_1
  clear B1 Rr_1 cr_1_0 cr_1_1
  obtain ⟨cr_2_0, cr_2_1⟩ := cells2s Rr_2
  obtain ⟨co_2_0, co_2_1⟩ := cells2s Ro_2
  go_wp2_with fail
  obtain ⟨F, hF1, hF2⟩ := below_fun (w1.alloc (Obj.cells #[.int .u64 (U : Nat), .int .u64 (V : Nat)] 25))
  have fr_0 := fun u => cells4 (heap_of (hF1 u) _ _ _ Rr_2) 0 _ rfl
  have fr_1 := fun u => cells4 (heap_of (hF1 u) _ _ _ Rr_2) 1 _ rfl
  have fo_0 := fun u => cells4 (heap_of (hF1 u) _ _ _ Ro_2) 0 _ rfl
  have fo_1 := fun u => cells4 (heap_of (hF1 u) _ _ _ Ro_2) 1 _ rfl
  refine wp_region_below F hF2 (by kernel_rfl) (by kernel_rfl) ?_
  repeat first | go_big_quiet_step (first  | fail) | quiet_step (first  | fail)
  refine wpQuiet_nil ?_
  rintro _ ⟨uW, rfl⟩
  have B3 := btr B2 (hF1 uW)
  have Rr_3 := heap_of (hF1 uW) _ _ _ Rr_2
  have Ro_3 := heap_of (hF1 uW) _ _ _ Ro_2
  obtain ⟨w3, hw⟩ : ∃ V, F uW = V := ⟨_, rfl⟩
  rw [hw] at B3 Rr_3 Ro_3
  try rw [hw]
  clear hw hF1 hF2 B2 fr_0 fr_1 fo_0 fo_1 Rr_2 cr_2_0 cr_2_1 Ro_2 co_2_0 co_2_1
  clear F
  obtain ⟨cr_3_0, cr_3_1⟩ := cells2s Rr_3
  obtain ⟨co_3_0, co_3_1⟩ := cells2s Ro_3
  go_wp2
  go_ret
  exact ⟨rfl, B3⟩
set_option maxRecDepth 100000 in
set_option maxHeartbeats 8000000 in
theorem bx_isY (f : Int) (x y U V H L : Nat) (o : Bool) (ho : ebb (H : Nat) (L : Nat) (x : Nat) (y : Nat) = o) (w : World) (KA : Box (∀ w, FAt w → Calls Tryd.prog 66 #[.int .u8 f] w fun r w' => r = .returned (.tuple #[.agg #[.int .u64 (U : Nat), .int .u64 (V : Nat)], .int .i64 0]) ∧ Below w.heap.size w w')) (KJ : Box (∀ w, Calls Tryd.prog 68 #[.agg #[.int .u64 (x : Nat), .int .u64 (y : Nat)], .agg #[.int .u64 (U : Nat), .int .u64 (V : Nat)]] w fun r w' => r = .returned (.agg #[.int .u64 (H : Nat), .int .u64 (L : Nat)]) ∧ Below w.heap.size w w')) (hT : FAt w) : Calls Tryd.prog 63 #[.int .u8 f, .agg #[.int .u64 (x : Nat), .int .u64 (y : Nat)]] w fun r w' => r = .returned (.bool o) ∧ Below w.heap.size w w' := by
  have FF := box hT
  clear hT
  subst ho
  have hE := eqb
  obtain ⟨Rr_0, B0⟩ := opn1 w (Obj.cells #[.int .u64 (x : Nat), .int .u64 (y : Nat)] 25)
  go_enter Tryd.func63, Tryd.ntmps63
  obtain ⟨cr_0_0, cr_0_1⟩ := cells2s Rr_0
  go_wp2_with fail
  refine (KA.out _ (fatB FF.out B0)).mono ?_
  rintro r w1 ⟨rfl, b1⟩
  have B1 : Below w.heap.size w w1 := btr B0 b1
  have Rr_1 := heap_of b1 _ _ _ Rr_0
  clear b1 B0 Rr_0 cr_0_0 cr_0_1
  obtain ⟨cr_1_0, cr_1_1⟩ := cells2s Rr_1
  have S2 := box B1.size
  have Lr_2 : Box (w.heap.size < w1.heap.size) := box (Array.getElem?_eq_some_iff.1 Rr_1).1
  have Ro_2 := heap_alloc_last w1 (Obj.cells #[.int .u64 (U : Nat), .int .u64 (V : Nat)] 25)
  have B2 := btr B1 (bal w1 (Obj.cells #[.int .u64 (U : Nat), .int .u64 (V : Nat)] 25))
  have Rr_2 := heap_of (bal w1 (Obj.cells #[.int .u64 (U : Nat), .int .u64 (V : Nat)] 25)) _ _ _ Rr_1
  clear B1 Rr_1 cr_1_0 cr_1_1
  obtain ⟨cr_2_0, cr_2_1⟩ := cells2s Rr_2
  obtain ⟨co_2_0, co_2_1⟩ := cells2s Ro_2
  go_wp2_with fail
  obtain ⟨F, hF1, hF2⟩ := below_fun (w1.alloc (Obj.cells #[.int .u64 (U : Nat), .int .u64 (V : Nat)] 25))
  have fr_0 := fun u => cells4 (heap_of (hF1 u) _ _ _ Rr_2) 0 _ rfl
  have fr_1 := fun u => cells4 (heap_of (hF1 u) _ _ _ Rr_2) 1 _ rfl
  have fo_0 := fun u => cells4 (heap_of (hF1 u) _ _ _ Ro_2) 0 _ rfl
  have fo_1 := fun u => cells4 (heap_of (hF1 u) _ _ _ Ro_2) 1 _ rfl
  refine wp_region_below F hF2 (by kernel_rfl) (by kernel_rfl) ?_
  repeat first | go_big_quiet_step (first | (go_at_call 68; exact quietF hF1 hF2 (KJ.out _)) | fail) | quiet_step (first | (go_at_call 68; exact quietF hF1 hF2 (KJ.out _)) | fail)
  refine wpQuiet_nil ?_
  rintro _ ⟨uW, rfl⟩
  have B3 := btr B2 (hF1 uW)
  have Rr_3 := heap_of (hF1 uW) _ _ _ Rr_2
  have Ro_3 := heap_of (hF1 uW) _ _ _ Ro_2
  obtain ⟨w3, hw⟩ : ∃ V, F uW = V := ⟨_, rfl⟩
  rw [hw] at B3 Rr_3 Ro_3
  try rw [hw]
  clear hw hF1 hF2 B2 fr_0 fr_1 fo_0 fo_1 Rr_2 cr_2_0 cr_2_1 Ro_2 co_2_0 co_2_1
  clear F
  obtain ⟨cr_3_0, cr_3_1⟩ := cells2s Rr_3
  obtain ⟨co_3_0, co_3_1⟩ := cells2s Ro_3
  go_wp2
  go_ret
  exact ⟨rfl, B3⟩
set_option maxRecDepth 100000 in
set_option maxHeartbeats 8000000 in
theorem bx_boxN (f : Int) (x y : Nat) (w : World) (KF : Box (∀ w, FAt w → Calls Tryd.prog 67 #[.int .u8 f, .agg #[.int .u64 (x : Nat), .int .u64 (y : Nat)]] w fun r w' => r = .returned (.bool false) ∧ Below w.heap.size w w')) (hT : FAt w) : Calls Tryd.prog 50 #[.int .u8 f, .agg #[.int .u64 (x : Nat), .int .u64 (y : Nat)]] w fun r w' => r = .returned (.tuple #[.agg #[.int .u64 0, .int .u64 0], .int .i64 2]) ∧ Below w.heap.size w w' := by
  have FF := box hT
  clear hT
  obtain ⟨Rb_0, Rz_0, B0⟩ := opn2 w (Obj.cells #[.int .u64 (x : Nat), .int .u64 (y : Nat)] 25) (Obj.cells #[.int .u64 0, .int .u64 0] 25)
  go_enter Tryd.func50, Tryd.ntmps50
  obtain ⟨cb_0_0, cb_0_1⟩ := cells2s Rb_0
  obtain ⟨cz_0_0, cz_0_1⟩ := cells2s Rz_0
  go_wp2_with fail
  refine (KF.out _ (fatB FF.out B0)).mono ?_
  rintro r w1 ⟨rfl, b1⟩
  have B1 : Below w.heap.size w w1 := btr B0 b1
  have Rb_1 := heap_of b1 _ _ _ Rb_0
  have Rz_1 := heap_of b1 _ _ _ Rz_0
  clear b1 B0 Rb_0 cb_0_0 cb_0_1 Rz_0 cz_0_0 cz_0_1
  obtain ⟨cb_1_0, cb_1_1⟩ := cells2s Rb_1
  obtain ⟨cz_1_0, cz_1_1⟩ := cells2s Rz_1
  have q0 := fz (k := 0) Rz_1
  have q1 := fz (k := 1) Rz_1
  obtain ⟨E0, E1⟩ := set2_cells Rz_1 (.int .u64 0) (.int .u64 0)
  go_wp2
  exact bodyPost_ret (v := .tuple #[.agg #[.int .u64 0, .int .u64 0], .int .i64 2]) (by simp [results, Tryd.results50, go_sem, E0, E1]) rfl ⟨rfl, set2_below B1 (by first | exact Nat.le_refl _ | omega | (skip; omega)) _ _⟩
set_option maxRecDepth 100000 in
set_option maxHeartbeats 8000000 in
theorem bx_box0 (x y H L : Nat) (w : World) (KF : Box (∀ w, FAt w → Calls Tryd.prog 67 #[.int .u8 0, .agg #[.int .u64 (x : Nat), .int .u64 (y : Nat)]] w fun r w' => r = .returned (.bool true) ∧ Below w.heap.size w w')) (KJ : Box (∀ w, Calls Tryd.prog 68 #[.agg #[.int .u64 (x : Nat), .int .u64 (y : Nat)], .agg #[.int .u64 18446744073709551615, .int .u64 18446744069414584320]] w fun r w' => r = .returned (.agg #[.int .u64 (H : Nat), .int .u64 (L : Nat)]) ∧ Below w.heap.size w w')) (hT : FAt w) : Calls Tryd.prog 50 #[.int .u8 0, .agg #[.int .u64 (x : Nat), .int .u64 (y : Nat)]] w fun r w' => r = .returned (.tuple #[.agg #[.int .u64 (H : Nat), .int .u64 (L : Nat)], .int .i64 0]) ∧ Below w.heap.size w w' := by
  have FF := box hT
  clear hT
  obtain ⟨Rb_0, Rz_0, B0⟩ := opn2 w (Obj.cells #[.int .u64 (x : Nat), .int .u64 (y : Nat)] 25) (Obj.cells #[.int .u64 0, .int .u64 0] 25)
  go_enter Tryd.func50, Tryd.ntmps50
  obtain ⟨cb_0_0, cb_0_1⟩ := cells2s Rb_0
  obtain ⟨cz_0_0, cz_0_1⟩ := cells2s Rz_0
  go_wp2_with fail
  refine (KF.out _ (fatB FF.out B0)).mono ?_
  rintro r w1 ⟨rfl, b1⟩
  have B1 : Below w.heap.size w w1 := btr B0 b1
  have Rb_1 := heap_of b1 _ _ _ Rb_0
  have Rz_1 := heap_of b1 _ _ _ Rz_0
  clear b1 B0 Rb_0 cb_0_0 cb_0_1 Rz_0 cz_0_0 cz_0_1
  obtain ⟨cb_1_0, cb_1_1⟩ := cells2s Rb_1
  obtain ⟨cz_1_0, cz_1_1⟩ := cells2s Rz_1
  have T2 := fatB FF.out B1
  have g0 := fat_x T2 0 0 0 (.int .u64 18446744073709551615) rfl
  have g1 := fat_x T2 1 0 1 (.int .u64 18446744069414584320) rfl
  clear T2
  have qb : (w1).drew.heap[w.heap.size]? = some (Obj.cells #[.int .u64 (x : Nat), .int .u64 (y : Nat)] 25) := Rb_1
  have qz : (w1).drew.heap[w.heap.size + 1]? = some (Obj.cells #[.int .u64 0, .int .u64 0] 25) := Rz_1
  have qB := B1.drew
  have iz0 := fz (k := 0) Rz_1
  have iz1 := fz (k := 1) Rz_1
  go_wp2_with fail
  first | (go_region_with (first | (go_at_call 68; refine (KJ.out _).mono ?_; rintro r wq ⟨rfl, bq⟩; have qb := heap_of bq _ _ _ qb; have qz := heap_of bq _ _ _ qz; have qB := btr qB bq; have db0 := cell7 qb 0 (.int .u64 (x : Nat)) rfl; have db1 := cell7 qb 1 (.int .u64 (y : Nat)) rfl; have dz0 := cell7 qz 0 (.int .u64 0) rfl; have dz1 := cell7 qz 1 (.int .u64 0) rfl; have iz0 := fz (k := 0) qz; have iz1 := fz (k := 1) qz; clear bq) | fail)) | fail
  all_goals
    obtain ⟨E0, E1⟩ := set2_cells qz (.int .u64 (H : Nat)) (.int .u64 (L : Nat))
    have BZ := set2_below qB (show w.heap.size ≤ w.heap.size + 1 by first | exact Nat.le_refl _ | omega | (skip; omega)) (.int .u64 (H : Nat)) (.int .u64 (L : Nat))
    go_wp2
    exact bodyPost_ret (v := .tuple #[.agg #[.int .u64 (H : Nat), .int .u64 (L : Nat)], .int .i64 0]) (by simp [results, Tryd.results50, go_sem, E0, E1]) rfl ⟨rfl, BZ⟩
set_option maxRecDepth 100000 in
set_option maxHeartbeats 8000000 in
theorem bx_box1 (x y H L : Nat) (w : World) (KF : Box (∀ w, FAt w → Calls Tryd.prog 67 #[.int .u8 1, .agg #[.int .u64 (x : Nat), .int .u64 (y : Nat)]] w fun r w' => r = .returned (.bool true) ∧ Below w.heap.size w w')) (KJ : Box (∀ w, Calls Tryd.prog 68 #[.agg #[.int .u64 (x : Nat), .int .u64 (y : Nat)], .agg #[.int .u64 18446744073709551615, .int .u64 0]] w fun r w' => r = .returned (.agg #[.int .u64 (H : Nat), .int .u64 (L : Nat)]) ∧ Below w.heap.size w w')) (hT : FAt w) : Calls Tryd.prog 50 #[.int .u8 1, .agg #[.int .u64 (x : Nat), .int .u64 (y : Nat)]] w fun r w' => r = .returned (.tuple #[.agg #[.int .u64 (H : Nat), .int .u64 (L : Nat)], .int .i64 0]) ∧ Below w.heap.size w w' := by
  have FF := box hT
  clear hT
  obtain ⟨Rb_0, Rz_0, B0⟩ := opn2 w (Obj.cells #[.int .u64 (x : Nat), .int .u64 (y : Nat)] 25) (Obj.cells #[.int .u64 0, .int .u64 0] 25)
  go_enter Tryd.func50, Tryd.ntmps50
  obtain ⟨cb_0_0, cb_0_1⟩ := cells2s Rb_0
  obtain ⟨cz_0_0, cz_0_1⟩ := cells2s Rz_0
  go_wp2_with fail
  refine (KF.out _ (fatB FF.out B0)).mono ?_
  rintro r w1 ⟨rfl, b1⟩
  have B1 : Below w.heap.size w w1 := btr B0 b1
  have Rb_1 := heap_of b1 _ _ _ Rb_0
  have Rz_1 := heap_of b1 _ _ _ Rz_0
  clear b1 B0 Rb_0 cb_0_0 cb_0_1 Rz_0 cz_0_0 cz_0_1
  obtain ⟨cb_1_0, cb_1_1⟩ := cells2s Rb_1
  obtain ⟨cz_1_0, cz_1_1⟩ := cells2s Rz_1
  have T2 := fatB FF.out B1
  have g0 := fat_x T2 2 0 2 (.int .u64 18446744073709551615) rfl
  have g1 := fat_x T2 3 0 3 (.int .u64 0) rfl
  clear T2
  have qb : (w1).drew.heap[w.heap.size]? = some (Obj.cells #[.int .u64 (x : Nat), .int .u64 (y : Nat)] 25) := Rb_1
  have qz : (w1).drew.heap[w.heap.size + 1]? = some (Obj.cells #[.int .u64 0, .int .u64 0] 25) := Rz_1
  have qB := B1.drew
  have iz0 := fz (k := 0) Rz_1
  have iz1 := fz (k := 1) Rz_1
  go_wp2_with fail
  first | (go_region_with (first | (go_at_call 68; refine (KJ.out _).mono ?_; rintro r wq ⟨rfl, bq⟩; have qb := heap_of bq _ _ _ qb; have qz := heap_of bq _ _ _ qz; have qB := btr qB bq; have db0 := cell7 qb 0 (.int .u64 (x : Nat)) rfl; have db1 := cell7 qb 1 (.int .u64 (y : Nat)) rfl; have dz0 := cell7 qz 0 (.int .u64 0) rfl; have dz1 := cell7 qz 1 (.int .u64 0) rfl; have iz0 := fz (k := 0) qz; have iz1 := fz (k := 1) qz; clear bq) | fail)) | fail
  all_goals
    obtain ⟨E0, E1⟩ := set2_cells qz (.int .u64 (H : Nat)) (.int .u64 (L : Nat))
    have BZ := set2_below qB (show w.heap.size ≤ w.heap.size + 1 by first | exact Nat.le_refl _ | omega | (skip; omega)) (.int .u64 (H : Nat)) (.int .u64 (L : Nat))
    go_wp2
    exact bodyPost_ret (v := .tuple #[.agg #[.int .u64 (H : Nat), .int .u64 (L : Nat)], .int .i64 0]) (by simp [results, Tryd.results50, go_sem, E0, E1]) rfl ⟨rfl, BZ⟩
set_option maxRecDepth 100000 in
set_option maxHeartbeats 8000000 in
theorem bx_box2 (x y H L : Nat) (w : World) (KF : Box (∀ w, FAt w → Calls Tryd.prog 67 #[.int .u8 2, .agg #[.int .u64 (x : Nat), .int .u64 (y : Nat)]] w fun r w' => r = .returned (.bool true) ∧ Below w.heap.size w w')) (KJ : Box (∀ w, Calls Tryd.prog 68 #[.agg #[.int .u64 (x : Nat), .int .u64 (y : Nat)], .agg #[.int .u64 18446744073709551615, .int .u64 18446744073709486080]] w fun r w' => r = .returned (.agg #[.int .u64 (H : Nat), .int .u64 (L : Nat)]) ∧ Below w.heap.size w w')) (hT : FAt w) : Calls Tryd.prog 50 #[.int .u8 2, .agg #[.int .u64 (x : Nat), .int .u64 (y : Nat)]] w fun r w' => r = .returned (.tuple #[.agg #[.int .u64 (H : Nat), .int .u64 (L : Nat)], .int .i64 0]) ∧ Below w.heap.size w w' := by
  have FF := box hT
  clear hT
  obtain ⟨Rb_0, Rz_0, B0⟩ := opn2 w (Obj.cells #[.int .u64 (x : Nat), .int .u64 (y : Nat)] 25) (Obj.cells #[.int .u64 0, .int .u64 0] 25)
  go_enter Tryd.func50, Tryd.ntmps50
  obtain ⟨cb_0_0, cb_0_1⟩ := cells2s Rb_0
  obtain ⟨cz_0_0, cz_0_1⟩ := cells2s Rz_0
  go_wp2_with fail
  refine (KF.out _ (fatB FF.out B0)).mono ?_
  rintro r w1 ⟨rfl, b1⟩
  have B1 : Below w.heap.size w w1 := btr B0 b1
  have Rb_1 := heap_of b1 _ _ _ Rb_0
  have Rz_1 := heap_of b1 _ _ _ Rz_0
  clear b1 B0 Rb_0 cb_0_0 cb_0_1 Rz_0 cz_0_0 cz_0_1
  obtain ⟨cb_1_0, cb_1_1⟩ := cells2s Rb_1
  obtain ⟨cz_1_0, cz_1_1⟩ := cells2s Rz_1
  have T2 := fatB FF.out B1
  have g0 := fat_x T2 4 0 4 (.int .u64 18446744073709551615) rfl
  have g1 := fat_x T2 5 0 5 (.int .u64 18446744073709486080) rfl
  clear T2
  have qb : (w1).drew.heap[w.heap.size]? = some (Obj.cells #[.int .u64 (x : Nat), .int .u64 (y : Nat)] 25) := Rb_1
  have qz : (w1).drew.heap[w.heap.size + 1]? = some (Obj.cells #[.int .u64 0, .int .u64 0] 25) := Rz_1
  have qB := B1.drew
  have iz0 := fz (k := 0) Rz_1
  have iz1 := fz (k := 1) Rz_1
  go_wp2_with fail
  first | (go_region_with (first | (go_at_call 68; refine (KJ.out _).mono ?_; rintro r wq ⟨rfl, bq⟩; have qb := heap_of bq _ _ _ qb; have qz := heap_of bq _ _ _ qz; have qB := btr qB bq; have db0 := cell7 qb 0 (.int .u64 (x : Nat)) rfl; have db1 := cell7 qb 1 (.int .u64 (y : Nat)) rfl; have dz0 := cell7 qz 0 (.int .u64 0) rfl; have dz1 := cell7 qz 1 (.int .u64 0) rfl; have iz0 := fz (k := 0) qz; have iz1 := fz (k := 1) qz; clear bq) | fail)) | fail
  all_goals
    obtain ⟨E0, E1⟩ := set2_cells qz (.int .u64 (H : Nat)) (.int .u64 (L : Nat))
    have BZ := set2_below qB (show w.heap.size ≤ w.heap.size + 1 by first | exact Nat.le_refl _ | omega | (skip; omega)) (.int .u64 (H : Nat)) (.int .u64 (L : Nat))
    go_wp2
    exact bodyPost_ret (v := .tuple #[.agg #[.int .u64 (H : Nat), .int .u64 (L : Nat)], .int .i64 0]) (by simp [results, Tryd.results50, go_sem, E0, E1]) rfl ⟨rfl, BZ⟩
set_option maxRecDepth 100000 in
set_option maxHeartbeats 8000000 in
theorem bx_box3 (x y H L : Nat) (w : World) (KF : Box (∀ w, FAt w → Calls Tryd.prog 67 #[.int .u8 3, .agg #[.int .u64 (x : Nat), .int .u64 (y : Nat)]] w fun r w' => r = .returned (.bool true) ∧ Below w.heap.size w w')) (KJ : Box (∀ w, Calls Tryd.prog 68 #[.agg #[.int .u64 (x : Nat), .int .u64 (y : Nat)], .agg #[.int .u64 0, .int .u64 0]] w fun r w' => r = .returned (.agg #[.int .u64 (H : Nat), .int .u64 (L : Nat)]) ∧ Below w.heap.size w w')) (hT : FAt w) : Calls Tryd.prog 50 #[.int .u8 3, .agg #[.int .u64 (x : Nat), .int .u64 (y : Nat)]] w fun r w' => r = .returned (.tuple #[.agg #[.int .u64 (H : Nat), .int .u64 (L : Nat)], .int .i64 0]) ∧ Below w.heap.size w w' := by
  have FF := box hT
  clear hT
  obtain ⟨Rb_0, Rz_0, B0⟩ := opn2 w (Obj.cells #[.int .u64 (x : Nat), .int .u64 (y : Nat)] 25) (Obj.cells #[.int .u64 0, .int .u64 0] 25)
  go_enter Tryd.func50, Tryd.ntmps50
  obtain ⟨cb_0_0, cb_0_1⟩ := cells2s Rb_0
  obtain ⟨cz_0_0, cz_0_1⟩ := cells2s Rz_0
  go_wp2_with fail
  refine (KF.out _ (fatB FF.out B0)).mono ?_
  rintro r w1 ⟨rfl, b1⟩
  have B1 : Below w.heap.size w w1 := btr B0 b1
  have Rb_1 := heap_of b1 _ _ _ Rb_0
  have Rz_1 := heap_of b1 _ _ _ Rz_0
  clear b1 B0 Rb_0 cb_0_0 cb_0_1 Rz_0 cz_0_0 cz_0_1
  obtain ⟨cb_1_0, cb_1_1⟩ := cells2s Rb_1
  obtain ⟨cz_1_0, cz_1_1⟩ := cells2s Rz_1
  have T2 := fatB FF.out B1
  have g0 := fat_x T2 6 0 6 (.int .u64 0) rfl
  have g1 := fat_x T2 7 0 7 (.int .u64 0) rfl
  clear T2
  have qb : (w1).drew.heap[w.heap.size]? = some (Obj.cells #[.int .u64 (x : Nat), .int .u64 (y : Nat)] 25) := Rb_1
  have qz : (w1).drew.heap[w.heap.size + 1]? = some (Obj.cells #[.int .u64 0, .int .u64 0] 25) := Rz_1
  have qB := B1.drew
  have iz0 := fz (k := 0) Rz_1
  have iz1 := fz (k := 1) Rz_1
  go_wp2_with fail
  first | (go_region_with (first | (go_at_call 68; refine (KJ.out _).mono ?_; rintro r wq ⟨rfl, bq⟩; have qb := heap_of bq _ _ _ qb; have qz := heap_of bq _ _ _ qz; have qB := btr qB bq; have db0 := cell7 qb 0 (.int .u64 (x : Nat)) rfl; have db1 := cell7 qb 1 (.int .u64 (y : Nat)) rfl; have dz0 := cell7 qz 0 (.int .u64 0) rfl; have dz1 := cell7 qz 1 (.int .u64 0) rfl; have iz0 := fz (k := 0) qz; have iz1 := fz (k := 1) qz; clear bq) | fail)) | fail
  all_goals
    obtain ⟨E0, E1⟩ := set2_cells qz (.int .u64 (H : Nat)) (.int .u64 (L : Nat))
    have BZ := set2_below qB (show w.heap.size ≤ w.heap.size + 1 by first | exact Nat.le_refl _ | omega | (skip; omega)) (.int .u64 (H : Nat)) (.int .u64 (L : Nat))
    go_wp2
    exact bodyPost_ret (v := .tuple #[.agg #[.int .u64 (H : Nat), .int .u64 (L : Nat)], .int .i64 0]) (by simp [results, Tryd.results50, go_sem, E0, E1]) rfl ⟨rfl, BZ⟩
set_option maxRecDepth 100000 in
set_option maxHeartbeats 8000000 in
theorem bx_lowN (f : Int) (x y U V : Nat) (w : World) (KA : Box (∀ w, FAt w → Calls Tryd.prog 66 #[.int .u8 f] w fun r w' => r = .returned (.tuple #[.agg #[.int .u64 (U : Nat), .int .u64 (V : Nat)], .int .i64 2]) ∧ Below w.heap.size w w')) (hT : FAt w) : Calls Tryd.prog 49 #[.int .u8 f, .agg #[.int .u64 (x : Nat), .int .u64 (y : Nat)]] w fun r w' => r = .returned (.tuple #[.agg #[.int .u64 0, .int .u64 0], .int .i64 2]) ∧ Below w.heap.size w w' := by
  have FF := box hT
  clear hT
  obtain ⟨Rr_0, Rz_0, B0⟩ := opn2 w (Obj.cells #[.int .u64 (x : Nat), .int .u64 (y : Nat)] 25) (Obj.cells #[.int .u64 0, .int .u64 0] 25)
  go_enter Tryd.func49, Tryd.ntmps49
  obtain ⟨cr_0_0, cr_0_1⟩ := cells2s Rr_0
  obtain ⟨cz_0_0, cz_0_1⟩ := cells2s Rz_0
  go_wp2_with fail
  refine (KA.out _ (fatB FF.out B0)).mono ?_
  rintro r w1 ⟨rfl, b1⟩
  have B1 : Below w.heap.size w w1 := btr B0 b1
  have Rr_1 := heap_of b1 _ _ _ Rr_0
  have Rz_1 := heap_of b1 _ _ _ Rz_0
  clear b1 B0 Rr_0 cr_0_0 cr_0_1 Rz_0 cz_0_0 cz_0_1
  obtain ⟨cr_1_0, cr_1_1⟩ := cells2s Rr_1
  obtain ⟨cz_1_0, cz_1_1⟩ := cells2s Rz_1
  have S2 := box B1.size
  have Lr_2 : Box (w.heap.size < w1.heap.size) := box (Array.getElem?_eq_some_iff.1 Rr_1).1
  have Lz_2 : Box (w.heap.size + 1 < w1.heap.size) := box (Array.getElem?_eq_some_iff.1 Rz_1).1
  have Ro_2 := heap_alloc_last w1 (Obj.cells #[.int .u64 (U : Nat), .int .u64 (V : Nat)] 25)
  have B2 := btr B1 (bal w1 (Obj.cells #[.int .u64 (U : Nat), .int .u64 (V : Nat)] 25))
  have Rr_2 := heap_of (bal w1 (Obj.cells #[.int .u64 (U : Nat), .int .u64 (V : Nat)] 25)) _ _ _ Rr_1
  have Rz_2 := heap_of (bal w1 (Obj.cells #[.int .u64 (U : Nat), .int .u64 (V : Nat)] 25)) _ _ _ Rz_1
  clear B1 Rr_1 cr_1_0 cr_1_1 Rz_1 cz_1_0 cz_1_1
  obtain ⟨cr_2_0, cr_2_1⟩ := cells2s Rr_2
  obtain ⟨cz_2_0, cz_2_1⟩ := cells2s Rz_2
  obtain ⟨co_2_0, co_2_1⟩ := cells2s Ro_2
  have q0 := fz (k := 0) Rz_2
  have q1 := fz (k := 1) Rz_2
  obtain ⟨E0, E1⟩ := set2_cells Rz_2 (.int .u64 0) (.int .u64 0)
  go_wp2
  exact bodyPost_ret (v := .tuple #[.agg #[.int .u64 0, .int .u64 0], .int .i64 2]) (by simp [results, Tryd.results49, go_sem, E0, E1]) rfl ⟨rfl, set2_below B2 (by first | exact Nat.le_refl _ | omega | (have := S2.out; have := Lr_2.out; have := Lz_2.out; omega)) _ _⟩
set_option maxRecDepth 100000 in
set_option maxHeartbeats 8000000 in
theorem bx_lowY (f : Int) (x y U V H L : Nat) (hH : bits .andNot .u64 (x : Int) (U : Int) = (H : Int)) (hL : bits .andNot .u64 (y : Int) (V : Int) = (L : Int)) (w : World) (KA : Box (∀ w, FAt w → Calls Tryd.prog 66 #[.int .u8 f] w fun r w' => r = .returned (.tuple #[.agg #[.int .u64 (U : Nat), .int .u64 (V : Nat)], .int .i64 0]) ∧ Below w.heap.size w w')) (hT : FAt w) : Calls Tryd.prog 49 #[.int .u8 f, .agg #[.int .u64 (x : Nat), .int .u64 (y : Nat)]] w fun r w' => r = .returned (.tuple #[.agg #[.int .u64 (H : Nat), .int .u64 (L : Nat)], .int .i64 0]) ∧ Below w.heap.size w w' := by
  have FF := box hT
  clear hT
  obtain ⟨Rr_0, Rz_0, B0⟩ := opn2 w (Obj.cells #[.int .u64 (x : Nat), .int .u64 (y : Nat)] 25) (Obj.cells #[.int .u64 0, .int .u64 0] 25)
  go_enter Tryd.func49, Tryd.ntmps49
  obtain ⟨cr_0_0, cr_0_1⟩ := cells2s Rr_0
  obtain ⟨cz_0_0, cz_0_1⟩ := cells2s Rz_0
  go_wp2_with fail
  refine (KA.out _ (fatB FF.out B0)).mono ?_
  rintro r w1 ⟨rfl, b1⟩
  have B1 : Below w.heap.size w w1 := btr B0 b1
  have Rr_1 := heap_of b1 _ _ _ Rr_0
  have Rz_1 := heap_of b1 _ _ _ Rz_0
  clear b1 B0 Rr_0 cr_0_0 cr_0_1 Rz_0 cz_0_0 cz_0_1
  obtain ⟨cr_1_0, cr_1_1⟩ := cells2s Rr_1
  obtain ⟨cz_1_0, cz_1_1⟩ := cells2s Rz_1
  have S2 := box B1.size
  have Lr_2 : Box (w.heap.size < w1.heap.size) := box (Array.getElem?_eq_some_iff.1 Rr_1).1
  have Lz_2 : Box (w.heap.size + 1 < w1.heap.size) := box (Array.getElem?_eq_some_iff.1 Rz_1).1
  have Ro_2 := heap_alloc_last w1 (Obj.cells #[.int .u64 (U : Nat), .int .u64 (V : Nat)] 25)
  have B2 := btr B1 (bal w1 (Obj.cells #[.int .u64 (U : Nat), .int .u64 (V : Nat)] 25))
  have Rr_2 := heap_of (bal w1 (Obj.cells #[.int .u64 (U : Nat), .int .u64 (V : Nat)] 25)) _ _ _ Rr_1
  have Rz_2 := heap_of (bal w1 (Obj.cells #[.int .u64 (U : Nat), .int .u64 (V : Nat)] 25)) _ _ _ Rz_1
  clear B1 Rr_1 cr_1_0 cr_1_1 Rz_1 cz_1_0 cz_1_1
  obtain ⟨cr_2_0, cr_2_1⟩ := cells2s Rr_2
  obtain ⟨cz_2_0, cz_2_1⟩ := cells2s Rz_2
  obtain ⟨co_2_0, co_2_1⟩ := cells2s Ro_2
  have q0 := fz (k := 0) Rz_2
  have q1 := fz (k := 1) Rz_2
  obtain ⟨E0, E1⟩ := set2_cells Rz_2 (.int .u64 (H : Nat)) (.int .u64 (L : Nat))
  go_wp2
  exact bodyPost_ret (v := .tuple #[.agg #[.int .u64 (H : Nat), .int .u64 (L : Nat)], .int .i64 0]) (by simp [results, Tryd.results49, go_sem, E0, E1]) rfl ⟨rfl, set2_below B2 (by first | exact Nat.le_refl _ | omega | (have := S2.out; have := Lr_2.out; have := Lz_2.out; omega)) _ _⟩
set_option maxRecDepth 100000 in
set_option maxHeartbeats 8000000 in
theorem bx_unF (f : Int) (x y u v : Nat) (e : Int) (w : World) (KI : Box (∀ w, FAt w → Calls Tryd.prog 63 #[.int .u8 f, .agg #[.int .u64 (x : Nat), .int .u64 (y : Nat)]] w fun r w' => r = .returned (.bool false) ∧ Below w.heap.size w w')) (KN : Box (∀ w, FAt w → Calls Tryd.prog 64 #[.int .u8 f] w fun r w' => r = .returned (.agg #[.int .u64 (u : Nat), .int .u64 (v : Nat)]) ∧ Below w.heap.size w w')) (KC : Box (∀ w, Calls Tryd.prog 65 #[.int .u8 f] w fun r w' => r = .returned (.int .i64 e) ∧ Below w.heap.size w w')) (hT : FAt w) : Calls Tryd.prog 48 #[.int .u8 f, .agg #[.int .u64 (x : Nat), .int .u64 (y : Nat)]] w fun r w' => r = .returned (.tuple #[.agg #[.int .u64 (u : Nat), .int .u64 (v : Nat)], .int .i64 e]) ∧ Below w.heap.size w w' := by
  have FF := box hT
  clear hT
  obtain ⟨Rr_0, Rz_0, B0⟩ := opn2 w (Obj.cells #[.int .u64 (x : Nat), .int .u64 (y : Nat)] 25) (Obj.cells #[.int .u64 0, .int .u64 0] 25)
  go_enter Tryd.func48, Tryd.ntmps48
  obtain ⟨cr_0_0, cr_0_1⟩ := cells2s Rr_0
  obtain ⟨cz_0_0, cz_0_1⟩ := cells2s Rz_0
  go_wp2_with fail
  refine (KI.out _ (fatB FF.out B0)).mono ?_
  rintro r w1 ⟨rfl, b1⟩
  have B1 : Below w.heap.size w w1 := btr B0 b1
  have Rr_1 := heap_of b1 _ _ _ Rr_0
  have Rz_1 := heap_of b1 _ _ _ Rz_0
  clear b1 B0 Rr_0 cr_0_0 cr_0_1 Rz_0 cz_0_0 cz_0_1
  obtain ⟨cr_1_0, cr_1_1⟩ := cells2s Rr_1
  obtain ⟨cz_1_0, cz_1_1⟩ := cells2s Rz_1
  go_wp2_with fail
  refine (KN.out _ (fatB FF.out B1)).mono ?_
  rintro r w2 ⟨rfl, b2⟩
  have B2 : Below w.heap.size w w2 := btr B1 b2
  have Rr_2 := heap_of b2 _ _ _ Rr_1
  have Rz_2 := heap_of b2 _ _ _ Rz_1
  clear b2 B1 Rr_1 cr_1_0 cr_1_1 Rz_1 cz_1_0 cz_1_1
  obtain ⟨cr_2_0, cr_2_1⟩ := cells2s Rr_2
  obtain ⟨cz_2_0, cz_2_1⟩ := cells2s Rz_2
  go_wp2_with fail
  refine (KC.out _).mono ?_
  rintro r w3 ⟨rfl, b3⟩
  have B3 : Below w.heap.size w w3 := btr B2 b3
  have Rr_3 := heap_of b3 _ _ _ Rr_2
  have Rz_3 := heap_of b3 _ _ _ Rz_2
  clear b3 B2 Rr_2 cr_2_0 cr_2_1 Rz_2 cz_2_0 cz_2_1
  obtain ⟨cr_3_0, cr_3_1⟩ := cells2s Rr_3
  obtain ⟨cz_3_0, cz_3_1⟩ := cells2s Rz_3
  have q0 := fz (k := 0) Rz_3
  have q1 := fz (k := 1) Rz_3
  obtain ⟨E0, E1⟩ := set2_cells Rz_3 (.int .u64 (u : Nat)) (.int .u64 (v : Nat))
  go_wp2
  exact bodyPost_ret (v := .tuple #[.agg #[.int .u64 (u : Nat), .int .u64 (v : Nat)], .int .i64 e]) (by simp [results, Tryd.results48, go_sem, E0, E1]) rfl ⟨rfl, set2_below B3 (by first | exact Nat.le_refl _ | omega | (skip; omega)) _ _⟩
set_option maxRecDepth 100000 in
set_option maxHeartbeats 8000000 in
theorem bx_unT (f : Int) (x y u v : Nat) (e : Int) (w : World) (KI : Box (∀ w, FAt w → Calls Tryd.prog 63 #[.int .u8 f, .agg #[.int .u64 (x : Nat), .int .u64 (y : Nat)]] w fun r w' => r = .returned (.bool true) ∧ Below w.heap.size w w')) (KL : Box (∀ w, FAt w → Calls Tryd.prog 49 #[.int .u8 f, .agg #[.int .u64 (x : Nat), .int .u64 (y : Nat)]] w fun r w' => r = .returned (.tuple #[.agg #[.int .u64 (u : Nat), .int .u64 (v : Nat)], .int .i64 e]) ∧ Below w.heap.size w w')) (hT : FAt w) : Calls Tryd.prog 48 #[.int .u8 f, .agg #[.int .u64 (x : Nat), .int .u64 (y : Nat)]] w fun r w' => r = .returned (.tuple #[.agg #[.int .u64 (u : Nat), .int .u64 (v : Nat)], .int .i64 e]) ∧ Below w.heap.size w w' := by
  have FF := box hT
  clear hT
  obtain ⟨Rr_0, Rz_0, B0⟩ := opn2 w (Obj.cells #[.int .u64 (x : Nat), .int .u64 (y : Nat)] 25) (Obj.cells #[.int .u64 0, .int .u64 0] 25)
  go_enter Tryd.func48, Tryd.ntmps48
  obtain ⟨cr_0_0, cr_0_1⟩ := cells2s Rr_0
  obtain ⟨cz_0_0, cz_0_1⟩ := cells2s Rz_0
  go_wp2_with fail
  refine (KI.out _ (fatB FF.out B0)).mono ?_
  rintro r w1 ⟨rfl, b1⟩
  have B1 : Below w.heap.size w w1 := btr B0 b1
  have Rr_1 := heap_of b1 _ _ _ Rr_0
  have Rz_1 := heap_of b1 _ _ _ Rz_0
  clear b1 B0 Rr_0 cr_0_0 cr_0_1 Rz_0 cz_0_0 cz_0_1
  obtain ⟨cr_1_0, cr_1_1⟩ := cells2s Rr_1
  obtain ⟨cz_1_0, cz_1_1⟩ := cells2s Rz_1
  go_wp2_with fail
  refine (KL.out _ (fatB FF.out B1)).mono ?_
  rintro r w2 ⟨rfl, b2⟩
  have B2 : Below w.heap.size w w2 := btr B1 b2
  have Rr_2 := heap_of b2 _ _ _ Rr_1
  have Rz_2 := heap_of b2 _ _ _ Rz_1
  clear b2 B1 Rr_1 cr_1_0 cr_1_1 Rz_1 cz_1_0 cz_1_1
  obtain ⟨cr_2_0, cr_2_1⟩ := cells2s Rr_2
  obtain ⟨cz_2_0, cz_2_1⟩ := cells2s Rz_2
  have q0 := fz (k := 0) Rz_2
  have q1 := fz (k := 1) Rz_2
  obtain ⟨E0, E1⟩ := set2_cells Rz_2 (.int .u64 (u : Nat)) (.int .u64 (v : Nat))
  go_wp2
  exact bodyPost_ret (v := .tuple #[.agg #[.int .u64 (u : Nat), .int .u64 (v : Nat)], .int .i64 e]) (by simp [results, Tryd.results48, go_sem, E0, E1]) rfl ⟨rfl, set2_below B2 (by first | exact Nat.le_refl _ | omega | (skip; omega)) _ _⟩
theorem top_bit (c i : Nat) (hc : c ≤ 64) : (18446744073709551616 - 2 ^ c).testBit i = (decide (c ≤ i) && decide (i < 64)) := by
  have e : 18446744073709551616 - 2 ^ c = 2 ^ c * (2 ^ (64 - c) - 1) + 0 := by
    rw [Nat.mul_sub, ← Nat.pow_add, show c + (64 - c) = 64 by omega, Nat.mul_one, Nat.add_zero]
  rw [e, Nat.testBit_two_pow_mul_add _ (Nat.two_pow_pos c)]
  by_cases h : i < c
  · rw [if_pos h, Nat.zero_testBit, decide_eq_false (by omega : ¬ c ≤ i), Bool.false_and]
  · rw [if_neg h, Nat.testBit_two_pow_sub_one, decide_eq_true (by omega : c ≤ i), Bool.true_and]
    exact decide_eq_decide.2 (by omega)
theorem top_lt (c : Nat) : 18446744073709551616 - 2 ^ c < 18446744073709551616 := by have := Nat.two_pow_pos c; omega
theorem or_top (x c : Nat) (hx : x < 18446744073709551616) (hc : c ≤ 64) : bits .or .u64 (x : Int) ((18446744073709551616 - 2 ^ c : Nat) : Int) = ((x % 2 ^ c + (18446744073709551616 - 2 ^ c) : Nat) : Int) := by
  rw [bits_or_u64_nat _ _ hx (top_lt c)]
  congr 1
  apply Nat.eq_of_testBit_eq
  intro i
  have e : x % 2 ^ c + (18446744073709551616 - 2 ^ c) = 2 ^ c * (2 ^ (64 - c) - 1) + x % 2 ^ c := by
    rw [Nat.mul_sub, ← Nat.pow_add, show c + (64 - c) = 64 by omega, Nat.mul_one, Nat.add_comm]
  rw [Nat.testBit_or, top_bit c i hc, e, Nat.testBit_two_pow_mul_add _ (Nat.mod_lt _ (Nat.two_pow_pos c)), Nat.testBit_mod_two_pow, Nat.testBit_two_pow_sub_one]
  by_cases h : i < c
  · rw [if_pos h, decide_eq_false (by omega : ¬ c ≤ i), decide_eq_true h]
    simp
  · rw [if_neg h, decide_eq_true (by omega : c ≤ i), Bool.true_and]
    by_cases k : i < 64
    · rw [decide_eq_true k, decide_eq_true (by omega : i - c < 64 - c), Bool.or_true]
    · rw [decide_eq_false k, decide_eq_false (by omega : ¬ i - c < 64 - c), Bool.or_false]
      exact Nat.testBit_lt_two_pow (Nat.lt_of_lt_of_le hx (by rw [show 18446744073709551616 = 2 ^ 64 by decide]; exact Nat.pow_le_pow_right (by decide) (by omega)))
theorem an_top (x c : Nat) (hx : x < 18446744073709551616) (hc : c ≤ 64) : bits .andNot .u64 (x : Int) ((18446744073709551616 - 2 ^ c : Nat) : Int) = ((x % 2 ^ c : Nat) : Int) := by
  have hm := top_lt c
  have tb := fun i => top_bit c i hc
  generalize 18446744073709551616 - 2 ^ c = m at hm tb
  have e : bits .andNot .u64 (x : Int) (m : Int) = (((BitVec.ofNat 64 x &&& ~~~ BitVec.ofNat 64 m).toNat : Nat) : Int) := by
    show IntKind.u64.wrap ((BitVec.ofInt 64 (x : Int) &&& ~~~ BitVec.ofInt 64 (m : Int)).toNat : Int) = _
    rw [BitVec.ofInt_natCast, BitVec.ofInt_natCast, IntKind.wrap_u64]
    have := (BitVec.ofNat 64 x &&& ~~~ BitVec.ofNat 64 m).isLt
    generalize (BitVec.ofNat 64 x &&& ~~~ BitVec.ofNat 64 m).toNat = t at *
    omega
  rw [e]
  congr 1
  apply Nat.eq_of_testBit_eq
  intro i
  rw [BitVec.testBit_toNat, BitVec.getLsbD_and, BitVec.getLsbD_not, BitVec.getLsbD_ofNat, BitVec.getLsbD_ofNat, tb i, Nat.testBit_mod_two_pow]
  by_cases h6 : i < 64
  · by_cases h : i < c
    · simp [h, h6, (by omega : ¬ c ≤ i)]
    · simp [h, h6, (by omega : c ≤ i)]
  · simp [h6]
    intro h
    omega
def hcN (f : Int) : Nat := if f = 3 then 64 else 0
def lcN (f : Int) : Nat := if f = 0 then 32 else if f = 2 then 16 else 64
theorem hc_le (f : Int) : hcN f ≤ 64 := by unfold hcN; split <;> omega
theorem lc_le (f : Int) : lcN f ≤ 64 := by unfold lcN; (repeat' split) <;> omega
def upN (f : Int) : Nat := 18446744073709551616 - 2 ^ hcN f
def loN (f : Int) : Nat := 18446744073709551616 - 2 ^ lcN f
theorem four {f : Int} (h0 : 0 ≤ f) (h3 : f ≤ 3) : f = 0 ∨ f = 1 ∨ f = 2 ∨ f = 3 := by omega
theorem kAbv (f : Int) (h0 : 0 ≤ f) (h3 : f ≤ 3) (w : World) (hT : FAt w) : Calls Tryd.prog 66 #[.int .u8 f] w fun r w' => r = .returned (.tuple #[.agg #[.int .u64 (upN f : Nat), .int .u64 (loN f : Nat)], .int .i64 0]) ∧ Below w.heap.size w w' := by
  rcases four h0 h3 with rfl | rfl | rfl | rfl
  · exact bx_above0 w hT
  · exact bx_above1 w hT
  · exact bx_above2 w hT
  · exact bx_above3 w hT
theorem fC_no {f : Int} (h : 3 < f) : fC f = 2 := by unfold fC; rw [if_neg (by omega)]
theorem kAbv_no (f : Int) (h : 3 < f) (h1 : f ≤ 255) : Box (∀ w, FAt w → Calls Tryd.prog 66 #[.int .u8 f] w fun r w' => r = .returned (.tuple #[.agg #[.int .u64 0, .int .u64 0], .int .i64 2]) ∧ Below w.heap.size w w') := box (fun w _ => bx_aboveN f (by omega) h1 (fC_no h) w)
theorem kJoin (f : Int) (x y : Nat) (hx : x < 18446744073709551616) (hy : y < 18446744073709551616) (w : World) : Calls Tryd.prog 68 #[.agg #[.int .u64 (x : Nat), .int .u64 (y : Nat)], .agg #[.int .u64 (upN f : Nat), .int .u64 (loN f : Nat)]] w fun r w' => r = .returned (.agg #[.int .u64 ((x % 2 ^ hcN f + upN f : Nat) : Int), .int .u64 ((y % 2 ^ lcN f + loN f : Nat) : Int)]) ∧ Below w.heap.size w w' :=
  bx_join _ _ _ _ _ _ (or_top x (hcN f) hx (hc_le f)) (or_top y (lcN f) hy (lc_le f)) w
theorem boxed_iff (f : Int) (h0 : 0 ≤ f) (h3 : f ≤ 3) (x y N : Nat) (hx : x < 18446744073709551616) (hy : y < 18446744073709551616) (hN : y + 18446744073709551616 * x = N) : decide (x % 2 ^ hcN f + upN f = x ∧ y % 2 ^ lcN f + loN f = y) = isN f N := by
  subst hN
  unfold isN
  refine decide_eq_decide.2 ?_
  rcases four h0 h3 with rfl | rfl | rfl | rfl
  · have a : hcN 0 = 0 := rfl
    have b : lcN 0 = 32 := rfl
    have c : wdF 0 = 32 := rfl
    unfold upN loN
    rw [a, b, c]
    simp only [Nat.reducePow, Nat.reduceSub]
    omega
  · have a : hcN 1 = 0 := rfl
    have b : lcN 1 = 64 := rfl
    have c : wdF 1 = 64 := rfl
    unfold upN loN
    rw [a, b, c]
    simp only [Nat.reducePow, Nat.reduceSub]
    omega
  · have a : hcN 2 = 0 := rfl
    have b : lcN 2 = 16 := rfl
    have c : wdF 2 = 16 := rfl
    unfold upN loN
    rw [a, b, c]
    simp only [Nat.reducePow, Nat.reduceSub]
    omega
  · have a : hcN 3 = 64 := rfl
    have b : lcN 3 = 64 := rfl
    have c : wdF 3 = 128 := rfl
    unfold upN loN
    rw [a, b, c]
    simp only [Nat.reducePow, Nat.reduceSub]
    omega
theorem kIsb (f : Int) (x y N : Nat) (h0 : 0 ≤ f) (h1 : f ≤ 255) (hx : x < 18446744073709551616) (hy : y < 18446744073709551616) (hN : y + 18446744073709551616 * x = N) : Box (∀ w, FAt w → Calls Tryd.prog 63 #[.int .u8 f, .agg #[.int .u64 (x : Nat), .int .u64 (y : Nat)]] w fun r w' => r = .returned (.bool (isN f N)) ∧ Below w.heap.size w w') := by
  by_cases c : f ≤ 3
  · exact box (fun w hT => bx_isY f x y (upN f) (loN f) _ _ (isN f N) (by rw [ebb_is]; exact boxed_iff f h0 c x y N hx hy hN) w (box (fun w hT => kAbv f h0 c w hT)) (box (fun w => kJoin f x y hx hy w)) hT)
  · have z : isN f N = false := by unfold isN; rw [wdF_none c]; exact decide_eq_false (fun k => absurd k.1 (by decide))
    rw [z]
    exact box (fun w hT => bx_isN f x y 0 0 w (kAbv_no f (by omega) h1) hT)
theorem kFits (f : Int) (x y N : Nat) (h0 : 0 ≤ f) (h1 : f ≤ 255) (hx : x < 18446744073709551616) (hy : y < 18446744073709551616) (hN : y + 18446744073709551616 * x = N) : Box (∀ w, FAt w → Calls Tryd.prog 67 #[.int .u8 f, .agg #[.int .u64 (x : Nat), .int .u64 (y : Nat)]] w fun r w' => r = .returned (.bool (fitN f N)) ∧ Below w.heap.size w w') := by
  refine box (fun w hT => s_fits_is f (x, y) (fitN f N) h0 h1 hx hy ?_ w hT)
  unfold fitsB fitN
  simp only
  rw [hN, ← Bool.decide_and]
  refine decide_eq_decide.2 ?_
  by_cases c : f ≤ 3
  · have e : fW f = ((wdF f : Nat) : Int) := by rcases four h0 c with rfl | rfl | rfl | rfl <;> rfl
    have p := wdF_pos h0 c
    have q : blen N ≤ wdF f ↔ N < 2 ^ wdF f := blen_iff N (wdF f)
    rw [e]
    omega
  · rw [wdF_none c]
    omega
theorem kBox_no (f : Int) (x y N : Nat) (h0 : 0 ≤ f) (h1 : f ≤ 255) (hx : x < 18446744073709551616) (hy : y < 18446744073709551616) (hN : y + 18446744073709551616 * x = N) (q : fitN f N = false) : Box (∀ w, FAt w → Calls Tryd.prog 50 #[.int .u8 f, .agg #[.int .u64 (x : Nat), .int .u64 (y : Nat)]] w fun r w' => r = .returned (.tuple #[.agg #[.int .u64 0, .int .u64 0], .int .i64 2]) ∧ Below w.heap.size w w') := by
  have K := kFits f x y N h0 h1 hx hy hN
  rw [q] at K
  exact box (fun w hT => bx_boxN f x y w K hT)
theorem low_split (f : Int) (h0 : 0 ≤ f) (h3 : f ≤ 3) (x y N : Nat) (hx : x < 18446744073709551616) (hy : y < 18446744073709551616) (hN : y + 18446744073709551616 * x = N) : y % 2 ^ lcN f + 18446744073709551616 * (x % 2 ^ hcN f) = N % 2 ^ wdF f := by
  subst hN
  rcases four h0 h3 with rfl | rfl | rfl | rfl
  · have a : hcN 0 = 0 := rfl
    have b : lcN 0 = 32 := rfl
    have c : wdF 0 = 32 := rfl
    rw [a, b, c]
    simp only [Nat.reducePow]
    omega
  · have a : hcN 1 = 0 := rfl
    have b : lcN 1 = 64 := rfl
    have c : wdF 1 = 64 := rfl
    rw [a, b, c]
    simp only [Nat.reducePow]
    omega
  · have a : hcN 2 = 0 := rfl
    have b : lcN 2 = 16 := rfl
    have c : wdF 2 = 16 := rfl
    rw [a, b, c]
    simp only [Nat.reducePow]
    omega
  · have a : hcN 3 = 64 := rfl
    have b : lcN 3 = 64 := rfl
    have c : wdF 3 = 128 := rfl
    rw [a, b, c]
    simp only [Nat.reducePow]
    omega
theorem up_lo (f : Int) (h0 : 0 ≤ f) (h3 : f ≤ 3) : loN f + 18446744073709551616 * upN f = abN f := by
  rcases four h0 h3 with rfl | rfl | rfl | rfl <;> decide +kernel
theorem mod_top (x c : Nat) : x % 2 ^ c + (18446744073709551616 - 2 ^ c) < 18446744073709551616 ∨ 64 < c := by
  by_cases h : 64 < c
  · exact Or.inr h
  · have := Nat.mod_lt x (Nat.two_pow_pos c)
    have : 2 ^ c ≤ 2 ^ 64 := Nat.pow_le_pow_right (by decide) (by omega)
    rw [show (2 : Nat) ^ 64 = 18446744073709551616 from rfl] at this
    exact Or.inl (by omega)
theorem kBox_is (f : Int) (x y N : Nat) (h0 : 0 ≤ f) (h3 : f ≤ 3) (hx : x < 18446744073709551616) (hy : y < 18446744073709551616) (hN : y + 18446744073709551616 * x = N) (fit : N < 2 ^ wdF f) (u v : Nat) (h : bv7 (N + abN f) = (u, v)) : Box (∀ w, FAt w → Calls Tryd.prog 50 #[.int .u8 f, .agg #[.int .u64 (x : Nat), .int .u64 (y : Nat)]] w fun r w' => r = .returned (.tuple #[.agg #[.int .u64 (u : Nat), .int .u64 (v : Nat)], .int .i64 0]) ∧ Below w.heap.size w w') := by
  have K := kFits f x y N h0 (by omega) hx hy hN
  have q : fitN f N = true := decide_eq_true ⟨by have := wdF_pos h0 h3; omega, fit⟩
  rw [q] at K
  have l := low_split f h0 h3 x y N hx hy hN
  rw [Nat.mod_eq_of_lt fit] at l
  have ul := up_lo f h0 h3
  have ly : y % 2 ^ lcN f + loN f < 18446744073709551616 := (mod_top y (lcN f)).resolve_right (by have := lc_le f; omega)
  have e : bv7 (N + abN f) = (x % 2 ^ hcN f + upN f, y % 2 ^ lcN f + loN f) := bv_to ly (by omega)
  rw [e] at h
  cases h
  have J := box (fun w => kJoin f x y hx hy w)
  refine box (fun w hT => ?_)
  clear e ly ul l q fit
  rcases four h0 h3 with rfl | rfl | rfl | rfl
  · exact bx_box0 x y _ _ w K J hT
  · exact bx_box1 x y _ _ w K J hT
  · exact bx_box2 x y _ _ w K J hT
  · exact bx_box3 x y _ _ w K J hT
theorem kLow_is (f : Int) (x y N : Nat) (h0 : 0 ≤ f) (h3 : f ≤ 3) (hx : x < 18446744073709551616) (hy : y < 18446744073709551616) (hN : y + 18446744073709551616 * x = N) (u v : Nat) (h : bv7 (N % 2 ^ wdF f) = (u, v)) : Box (∀ w, FAt w → Calls Tryd.prog 49 #[.int .u8 f, .agg #[.int .u64 (x : Nat), .int .u64 (y : Nat)]] w fun r w' => r = .returned (.tuple #[.agg #[.int .u64 (u : Nat), .int .u64 (v : Nat)], .int .i64 0]) ∧ Below w.heap.size w w') := by
  rw [bv_to (show y % 2 ^ lcN f < 18446744073709551616 from Nat.lt_of_le_of_lt (Nat.mod_le _ _) hy) (low_split f h0 h3 x y N hx hy hN)] at h
  cases h
  exact box (fun w hT => bx_lowY f x y (upN f) (loN f) _ _ (an_top x (hcN f) hx (hc_le f)) (an_top y (lcN f) hy (lc_le f)) w (box (fun w hT => kAbv f h0 h3 w hT)) hT)
theorem kLow_no (f : Int) (x y N : Nat) (h : 3 < f) (h1 : f ≤ 255) (hx : x < 18446744073709551616) (hy : y < 18446744073709551616) (hN : y + 18446744073709551616 * x = N) : Box (∀ w, FAt w → Calls Tryd.prog 49 #[.int .u8 f, .agg #[.int .u64 (x : Nat), .int .u64 (y : Nat)]] w fun r w' => r = .returned (.tuple #[.agg #[.int .u64 0, .int .u64 0], .int .i64 2]) ∧ Below w.heap.size w w') := box (fun w hT => bx_lowN f x y 0 0 w (kAbv_no f h h1) hT)
theorem kUbx_no (f : Int) (x y N : Nat) (h : 3 < f) (h1 : f ≤ 255) (hx : x < 18446744073709551616) (hy : y < 18446744073709551616) (hN : y + 18446744073709551616 * x = N) : Box (∀ w, FAt w → Calls Tryd.prog 48 #[.int .u8 f, .agg #[.int .u64 (x : Nat), .int .u64 (y : Nat)]] w fun r w' => r = .returned (.tuple #[.agg #[.int .u64 0, .int .u64 0], .int .i64 2]) ∧ Below w.heap.size w w') := by
  have K := kIsb f x y N (by omega) h1 hx hy hN
  have z : isN f N = false := by unfold isN; rw [wdF_none (by omega)]; exact decide_eq_false (fun k => absurd k.1 (by decide))
  rw [z] at K
  exact box (fun w hT => bx_unF f x y 0 0 2 w K (box (fun w hT => n_nan f (by omega) h1 h w hT)) (box (fun w => bel_st (s_check_is f 2 (by omega) h1 (fC_no h) w))) hT)
theorem nan_words {f : Int} (h0 : 0 ≤ f) (h3 : f ≤ 3) : eNaN f = nanN f := by
  rcases four h0 h3 with rfl | rfl | rfl | rfl <;> decide +kernel
theorem kUbx_is (f : Int) (x y N : Nat) (h0 : 0 ≤ f) (h3 : f ≤ 3) (hx : x < 18446744073709551616) (hy : y < 18446744073709551616) (hN : y + 18446744073709551616 * x = N) (u v : Nat) (h : bv7 (ubN f N) = (u, v)) : Box (∀ w, FAt w → Calls Tryd.prog 48 #[.int .u8 f, .agg #[.int .u64 (x : Nat), .int .u64 (y : Nat)]] w fun r w' => r = .returned (.tuple #[.agg #[.int .u64 (u : Nat), .int .u64 (v : Nat)], .int .i64 0]) ∧ Below w.heap.size w w') := by
  have K := kIsb f x y N h0 (by omega) hx hy hN
  unfold ubN at h
  cases q : isN f N
  · rw [q] at K h
    have KN : Box (∀ w, FAt w → Calls Tryd.prog 64 #[.int .u8 f] w fun r w' => r = .returned (.agg #[.int .u64 (u : Nat), .int .u64 (v : Nat)]) ∧ Below w.heap.size w w') := box (fun w hT => by
      have := s_nan f (four h0 h3) (nanN f) (nan_words h0 h3) w hT
      rw [show bv7 (nanN f) = (u, v) from h] at this
      exact this)
    exact box (fun w hT => bx_unF f x y u v 0 w K KN (box (fun w => bel_st (s_check_is f 0 h0 (by omega) (by unfold fC; rw [if_pos (four h0 h3)]) w))) hT)
  · rw [q] at K h
    exact box (fun w hT => bx_unT f x y u v 0 w K (kLow_is f x y N h0 h3 hx hy hN u v h) hT)
def rf (R : Nat → Nat) : Array Value := ((List.range 96).map fun k => Value.int .u64 (R k : Nat)).toArray
theorem rf_size (R : Nat → Nat) : (rf R).size = 96 := by simp [rf]
theorem rf_at (R : Nat → Nat) (k : Nat) (h : k < 96) : (rf R)[k]? = some (.int .u64 (R k : Nat)) := by simp [rf, h]
def up (R : Nat → Nat) (k v : Nat) : Nat → Nat := fun j => if j = k then v else R j
theorem up_lt {R : Nat → Nat} (h : ∀ k, R k < 18446744073709551616) {k v : Nat} (hv : v < 18446744073709551616) : ∀ j, up R k v j < 18446744073709551616 := fun j => by
  unfold up
  split
  · exact hv
  · exact h j
theorem rf_same {R S : Nat → Nat} (h : ∀ k, k < 96 → R k = S k) : rf R = rf S := by
  unfold rf
  congr 1
  apply List.map_congr_left
  intro k hk
  rw [h k (List.mem_range.1 hk)]
theorem rf_set (R : Nat → Nat) (k v : Nat) (hk : k < 96) : (rf R).setIfInBounds k (.int .u64 (v : Nat)) = rf (up R k v) := by
  apply Array.ext_getElem?
  intro j
  rw [Array.getElem?_setIfInBounds, rf_size]
  by_cases e : k = j
  · subst e
    rw [if_pos rfl, if_pos hk, rf_at _ _ hk]
    unfold up
    rw [if_pos rfl]
  · rw [if_neg e]
    by_cases hj : j < 96
    · rw [rf_at _ _ hj, rf_at _ _ hj]
      unfold up
      rw [if_neg (fun q => e q.symm)]
    · rw [Array.getElem?_eq_none (by rw [rf_size]; omega), Array.getElem?_eq_none (by rw [rf_size]; omega)]
theorem rf_one (R : Nat → Nat) : (rf R).all (·.oneCell') = true := by
  rw [Array.all_eq_true_iff_forall_mem]
  intro v hv
  simp only [rf, List.mem_toArray, List.mem_map] at hv
  obtain ⟨k, _, rfl⟩ := hv
  rfl
theorem rf_cell {w : World} {b : Nat} {R : Nat → Nat} {T : TypeId} (h : w.heap[b]? = some (.cells (rf R) T)) (o : Nat) (ho : o < 96) : w.cell? ⟨b, o, none⟩ = some (.int .u64 (R o : Nat)) := cell7 h o _ (rf_at R o ho)
theorem rf_load {w : World} {b : Nat} {R : Nat → Nat} {T : TypeId} (h : w.heap[b]? = some (.cells (rf R) T)) : (loadCellsFrom ⟨b, 0, none⟩ 0 96 #[]).run Tryd.prog w = .ok (rf R) w := by
  have := run_loadCells_list (P := Tryd.prog) w ⟨b, 0, none⟩ (rf R).toList (fun j v hv => by
    have hadd : (⟨b, 0, none⟩ : Addr).add j = ⟨b, j, none⟩ := by unfold Addr.add; split <;> simp_all
    rw [hadd]
    exact cell7 h j v (by simpa using hv))
  rw [Array.length_toList, rf_size] at this
  simpa [loadCells] using this
theorem rf_store {w : World} {b : Nat} {R S : Nat → Nat} {T : TypeId} (h : w.heap[b]? = some (.cells (rf S) T)) : (storeCells ⟨b, 0, none⟩ (rf R).toList 0).run Tryd.prog w = .ok () (w.setRow b (rf R)) := by
  have := run_storeCells_from (P := Tryd.prog) b T (rf R).toList 0 (rf S) w h (by simp [rf_size]) (fun v hv => (Array.all_eq_true_iff_forall_mem.1 (rf_one R)) v (by simpa using hv))
  simpa using this
theorem rf_zero (w : World) : (zeroValue 28).run Tryd.prog w = .ok (.agg (rf fun _ => 0)) w := (zero_of_info (v := .agg (rf fun _ => 0)) (n := 96) (by kernel_rfl)).1 w
theorem rf_st2 (w : World) (x y : Nat → Nat) (o : Obj) : (storeCells ⟨w.heap.size + 1, 0, none⟩ (rf x).toList 0).run Tryd.prog ((w.alloc o).alloc (.cells (rf y) 28)) = .ok () ((w.alloc o).alloc (.cells (rf x) 28)) := by
  have e : (w.alloc o).heap.size = w.heap.size + 1 := by simp only [size_al]
  have := run_storeCells_new (P := Tryd.prog) (w.alloc o) 28 (rf y) (rf x) (by rw [rf_size]; kernel_rfl) (by rw [rf_size, rf_size]) (rf_one x)
  rw [e] at this
  exact this
theorem rf_st3 (w : World) (x y : Nat → Nat) (o q : Obj) : (storeCells ⟨w.heap.size + 1 + 1, 0, none⟩ (rf x).toList 0).run Tryd.prog (((w.alloc o).alloc q).alloc (.cells (rf y) 28)) = .ok () (((w.alloc o).alloc q).alloc (.cells (rf x) 28)) := by
  have e : ((w.alloc o).alloc q).heap.size = w.heap.size + 1 + 1 := by simp only [size_al]
  have := run_storeCells_new (P := Tryd.prog) ((w.alloc o).alloc q) 28 (rf y) (rf x) (by rw [rf_size]; kernel_rfl) (by rw [rf_size, rf_size]) (rf_one x)
  rw [e] at this
  exact this
theorem rf_set0 (R : Nat → Nat) (k : Nat) (hk : k < 96) : (rf R).setIfInBounds k (.int .u64 0) = rf (up R k 0) := rf_set R k 0 hk
theorem rf_agg (w : World) : (isAgg 28).run Tryd.prog w = .ok true w := by kernel_rfl
theorem rf_sz (w : World) : (sizeOf 28).run Tryd.prog w = .ok 96 w := by kernel_rfl
theorem rf_lv {w : World} {b : Nat} {R : Nat → Nat} {T : TypeId} (h : w.heap[b]? = some (.cells (rf R) T)) : (loadVar 28 ⟨b, 0, none⟩).run Tryd.prog w = .ok (.agg (rf R)) w := by
  simp only [Sem.run_bind, Sem.run_pure, Result.andThen, loadVar, rf_agg, rf_sz, if_true]
  have q := rf_load h
  simp only [loadCells, Sem.run_map, q, Result.andThen]
theorem rf_la {w : World} {b : Nat} {R : Nat → Nat} {T : TypeId} (h : w.heap[b]? = some (.cells (rf R) T)) : (Instr.loadAt 28 (.pointer (some ⟨b, 0, none⟩))).run Tryd.prog w = .ok (.agg (rf R)) w := by
  simp only [Instr.loadAt, Instr.sureAddr, Sem.run_bind, Sem.run_pure, Result.andThen]
  exact rf_lv h
theorem res_rf1 {fn : Func} {z : Tmp} (h : fn.results = #[.cell z 28]) {tmps : Array Value} {w : World} {b : Nat} {R : Nat → Nat} {T : TypeId} (hz : tmps.getD z undef = .pointer (some ⟨b, 0, none⟩)) (hr : w.heap[b]? = some (.cells (rf R) T)) : (results fn tmps).run Tryd.prog w = .ok (.agg (rf R)) w := by
  have q := rf_lv hr
  have hz2 : tmps[z]?.getD undef = .pointer (some ⟨b, 0, none⟩) := by rw [← Array.getD_eq_getD_getElem?]; exact hz
  simp [results, h, hz2, asAddr, q, Result.andThen]
theorem res_rf2 {fn : Func} {z t : Tmp} (h : fn.results = #[.cell z 28, .tmp t]) {tmps : Array Value} {w : World} {b : Nat} {R : Nat → Nat} {T : TypeId} (hz : tmps.getD z undef = .pointer (some ⟨b, 0, none⟩)) (hr : w.heap[b]? = some (.cells (rf R) T)) : (results fn tmps).run Tryd.prog w = .ok (.tuple #[.agg (rf R), tmps.getD t undef]) w := by
  have q := rf_lv hr
  have hz2 : tmps[z]?.getD undef = .pointer (some ⟨b, 0, none⟩) := by rw [← Array.getD_eq_getD_getElem?]; exact hz
  simp [results, h, hz2, asAddr, q, Result.andThen]
theorem wp_rf {w : World} {o : Oper} {a : Act} {K : Act → World → Prop} {Q : Exit → Act → World → Prop} (x : Operand) (hop : o.op = Op.load 28 x) {b : Nat} {R : Nat → Nat} {T : TypeId} (hx : a.eval x = .pointer (some ⟨b, 0, none⟩)) (hr : w.heap[b]? = some (.cells (rf R) T)) (hK : K (a.put o.dst (.agg (rf R))) w) : o.wp Tryd.prog a w K Q := by
  have q := rf_la hr
  unfold Oper.wp
  simp [execOp, hop, hx, q, Result.andThen]
  exact hK
theorem wpl_rf {w : World} {ops : Array Oper} {rest : List Oper} {o : Oper} {a : Act} {Q : Exit → Act → World → Prop} (hg : o.guard = none) (x : Operand) (hop : o.op = Op.load 28 x) {b : Nat} {R : Nat → Nat} {T : TypeId} (hx : a.eval x = .pointer (some ⟨b, 0, none⟩)) (hr : w.heap[b]? = some (.cells (rf R) T)) (hK : wpList Tryd.prog ops Q rest (a.put o.dst (.agg (rf R))) w) : wpList Tryd.prog ops Q (o :: rest) a w :=
  wpList_plain hg fun K hK' => wp_rf x hop hx hr (hK' _ _ hK)
theorem r23_is (n : Int) (o : Bool) (ho : (decide (0 ≤ n) && decide (n < 32)) = o) (w : World) : Calls Tryd.prog 40 #[.int .i64 n] w fun r w' => r = .returned (.bool o) ∧ w' = w := by
  subst ho
  by_cases h : 0 ≤ n
  · by_cases h2 : n < 32
    · have d1 : decide (0 ≤ n) = true := decide_eq_true h
      have d2 : decide (n < 32) = true := decide_eq_true h2
      go_enter Tryd.func40, Tryd.ntmps40
      go_wp2
      go_ret
      first | exact ⟨rfl, rfl⟩ | exact ⟨by rw [d1, d2]; rfl, rfl⟩
    · have d1 : decide (0 ≤ n) = true := decide_eq_true h
      have d2 : decide (n < 32) = false := decide_eq_false h2
      go_enter Tryd.func40, Tryd.ntmps40
      go_wp2
      go_ret
      first | exact ⟨rfl, rfl⟩ | exact ⟨by rw [d1, d2]; rfl, rfl⟩
  · have d1 : decide (0 ≤ n) = false := decide_eq_false h
    go_enter Tryd.func40, Tryd.ntmps40
    go_wp2
    go_ret
    first | exact ⟨rfl, rfl⟩ | exact ⟨by rw [d1]; rfl, rfl⟩
end Go.Proofs.YtjbnifhpbdjonaaDoor
namespace Go.Proofs.YtjbnifhpbdjonaaDoor
set_option maxRecDepth 100000
set_option maxHeartbeats 40000000
set_option maxRecDepth 100000
open Go.RowKit WMath
set_option linter.unusedSimpArgs false
set_option linter.unusedVariables false
set_option maxRecDepth 100000 in
set_option maxHeartbeats 4000000 in
theorem r23_from (R : Nat → Nat) (w : World) : Calls Tryd.prog 8 #[.agg (rf R)] w fun r w' => r = .returned (.agg (rf (up R 0 0))) ∧ Below w.heap.size w w' := by
  have hrz := rf_zero
  have hrs : ∀ R, ((rf R).size = 96) = True := fun R => eq_true (rf_size R)
  have hra := rf_at
  have hr0 := rf_set0 R 0 (by decide)
  have hs2 := rf_st2
  obtain ⟨Rx_0, Rz_0, B0⟩ := opn2 w (Obj.cells (rf R) 28) (Obj.cells (rf fun _ => 0) 28)
  go_enter Tryd.func8, Tryd.ntmps8
  go_wp2_with (first | ((with_reducible (refine wpl_rf rfl _ rfl ?_ (row_al (last7 _ _) _) ?_)); rfl) | ((with_reducible (refine wp_rf _ rfl ?_ (row_al (last7 _ _) _) ?_)); rfl))
  exact bodyPost_ret (v := .agg (rf (up R 0 0))) (res_rf1 Tryd.results8 (T := 28) rfl (row_last (by simp only [size_al]))) rfl ⟨rfl, bel_al (bal7 _ _) _⟩
set_option maxRecDepth 100000 in
set_option maxHeartbeats 4000000 in
theorem r23_x_no (R : Nat → Nat) (n : Int) (hi : (decide (0 ≤ n) && decide (n < 32)) = false) (w : World) : Calls Tryd.prog 33 #[.agg (rf R), .int .i64 n] w fun r w' => r = .returned (.tuple #[.int .u64 0, .int .i64 2]) ∧ Below w.heap.size w w' := by
  have hrz := rf_zero
  have hrs : ∀ R, ((rf R).size = 96) = True := fun R => eq_true (rf_size R)
  have hra := rf_at
  obtain ⟨Rx_0, B0⟩ := opn1 w (Obj.cells (rf R) 28)
  go_enter Tryd.func33, Tryd.ntmps33
  go_wp2_with (go_at_call 40; refine (r23_is _ _ hi _).mono ?_; rintro r w' ⟨rfl, rfl⟩)
  go_ret2
  exact ⟨rfl, bal7 _ _⟩
set_option maxRecDepth 100000 in
set_option maxHeartbeats 4000000 in
theorem r23_x (R : Nat → Nat) (n : Nat) (h : n < 32) (w : World) : Calls Tryd.prog 33 #[.agg (rf R), .int .i64 (n : Nat)] w fun r w' => r = .returned (.tuple #[.int .u64 (R n : Nat), .int .i64 0]) ∧ Below w.heap.size w w' := by
  have hrz := rf_zero
  have hrs : ∀ R, ((rf R).size = 96) = True := fun R => eq_true (rf_size R)
  have hra := rf_at
  have hi : (decide (0 ≤ (n : Int)) && decide ((n : Int) < 32)) = true := by rw [decide_eq_true (by omega), decide_eq_true (by omega)]; rfl
  obtain ⟨Rx_0, B0⟩ := opn1 w (Obj.cells (rf R) 28)
  go_enter Tryd.func33, Tryd.ntmps33
  have cx := rf_cell Rx_0 n (by omega)
  go_wp2_with (go_at_call 40; refine (r23_is _ _ hi _).mono ?_; rintro r w' ⟨rfl, rfl⟩)
  go_ret2
  exact ⟨rfl, bal7 _ _⟩
set_option maxRecDepth 100000 in
set_option maxHeartbeats 4000000 in
theorem r23_f_no (R : Nat → Nat) (n : Int) (hi : (decide (0 ≤ n) && decide (n < 32)) = false) (w : World) : Calls Tryd.prog 34 #[.agg (rf R), .int .i64 n] w fun r w' => r = .returned (.tuple #[.agg #[.int .u64 0, .int .u64 0], .int .i64 2]) ∧ Below w.heap.size w w' := by
  have hrz := rf_zero
  have hrs : ∀ R, ((rf R).size = 96) = True := fun R => eq_true (rf_size R)
  have hra := rf_at
  obtain ⟨Rx_0, Rz_0, B0⟩ := opn2 w (Obj.cells (rf R) 28) (Obj.cells #[.int .u64 0, .int .u64 0] 25)
  go_enter Tryd.func34, Tryd.ntmps34
  obtain ⟨cz_0_0, cz_0_1⟩ := cells2s Rz_0
  go_wp2_with (go_at_call 40; refine (r23_is _ _ hi _).mono ?_; rintro r w' ⟨rfl, rfl⟩)
  exact bodyPost_ret (v := .tuple #[.agg #[.int .u64 0, .int .u64 0], .int .i64 2]) (by simp [results, Tryd.results34, go_sem]) rfl ⟨rfl, bel_al (bal7 _ _) _⟩
set_option maxRecDepth 100000 in
set_option maxHeartbeats 4000000 in
theorem r23_f (R : Nat → Nat) (n : Nat) (h : n < 32) (w : World) : Calls Tryd.prog 34 #[.agg (rf R), .int .i64 (n : Nat)] w fun r w' => r = .returned (.tuple #[.agg #[.int .u64 (R (32 + n * 2) : Nat), .int .u64 (R (32 + n * 2 + 1) : Nat)], .int .i64 0]) ∧ Below w.heap.size w w' := by
  have hrz := rf_zero
  have hrs : ∀ R, ((rf R).size = 96) = True := fun R => eq_true (rf_size R)
  have hra := rf_at
  have hi : (decide (0 ≤ (n : Int)) && decide ((n : Int) < 32)) = true := by rw [decide_eq_true (by omega), decide_eq_true (by omega)]; rfl
  obtain ⟨Rx_0, Rz_0, B0⟩ := opn2 w (Obj.cells (rf R) 28) (Obj.cells #[.int .u64 0, .int .u64 0] 25)
  go_enter Tryd.func34, Tryd.ntmps34
  have cx := rf_cell Rx_0 (32 + n * 2) (by omega)
  have cx2 := rf_cell Rx_0 (32 + n * 2 + 1) (by omega)
  go_wp2_with (go_at_call 40; refine (r23_is _ _ hi _).mono ?_; rintro r w' ⟨rfl, rfl⟩)
  exact bodyPost_ret (v := .tuple #[.agg #[.int .u64 (R (32 + n * 2) : Nat), .int .u64 (R (32 + n * 2 + 1) : Nat)], .int .i64 0]) (by simp [results, Tryd.results34, go_sem]) rfl ⟨rfl, bel_al (bal7 _ _) _⟩
set_option maxRecDepth 100000 in
set_option maxHeartbeats 4000000 in
theorem r23_setx_no (R : Nat → Nat) (n : Int) (v : Nat) (hi : (decide (0 ≤ n) && decide (n < 32)) = false) (w : World) : Calls Tryd.prog 30 #[.agg (rf R), .int .i64 n, .int .u64 (v : Nat)] w fun r w' => r = .returned (.tuple #[.agg (rf R), .int .i64 2]) ∧ Below w.heap.size w w' := by
  have hrz := rf_zero
  have hrs : ∀ R, ((rf R).size = 96) = True := fun R => eq_true (rf_size R)
  have hra := rf_at
  have hs2 := rf_st2
  obtain ⟨Rx_0, Rz_0, B0⟩ := opn2 w (Obj.cells (rf R) 28) (Obj.cells (rf fun _ => 0) 28)
  go_enter Tryd.func30, Tryd.ntmps30
  go_wp2_with (first | (go_at_call 40; refine (r23_is _ _ hi _).mono ?_; rintro r w' ⟨rfl, rfl⟩) | (first | ((with_reducible (refine wpl_rf rfl _ rfl ?_ (row_al (last7 _ _) _) ?_)); rfl) | ((with_reducible (refine wp_rf _ rfl ?_ (row_al (last7 _ _) _) ?_)); rfl)))
  exact bodyPost_ret (v := .tuple #[.agg (rf R), .int .i64 2]) (res_rf2 Tryd.results30 (T := 28) rfl (row_last (by simp only [size_al]))) rfl ⟨rfl, bel_al (bal7 _ _) _⟩
set_option maxRecDepth 100000 in
set_option maxHeartbeats 4000000 in
theorem r23_setx (R : Nat → Nat) (n v : Nat) (h : n < 32) (h0 : 0 < n) (w : World) : Calls Tryd.prog 30 #[.agg (rf R), .int .i64 (n : Nat), .int .u64 (v : Nat)] w fun r w' => r = .returned (.tuple #[.agg (rf (up R n v)), .int .i64 0]) ∧ Below w.heap.size w w' := by
  have hrz := rf_zero
  have hrs : ∀ R, ((rf R).size = 96) = True := fun R => eq_true (rf_size R)
  have hra := rf_at
  have hi : (decide (0 ≤ (n : Int)) && decide ((n : Int) < 32)) = true := by rw [decide_eq_true (by omega), decide_eq_true (by omega)]; rfl
  have hs2 := rf_st2
  have hr0 := rf_set R n v (by omega)
  obtain ⟨Rx_0, Rz_0, B0⟩ := opn2 w (Obj.cells (rf R) 28) (Obj.cells (rf fun _ => 0) 28)
  go_enter Tryd.func30, Tryd.ntmps30
  have cx := rf_cell Rx_0 n (by omega)
  have qx := fz (k := n) Rx_0
  go_wp2_with (first | (go_at_call 40; refine (r23_is _ _ hi _).mono ?_; rintro r w' ⟨rfl, rfl⟩) | (first | ((with_reducible (refine wpl_rf rfl _ rfl ?_ (row_al (last7 _ _) _) ?_)); rfl) | ((with_reducible (refine wp_rf _ rfl ?_ (row_al (last7 _ _) _) ?_)); rfl)))
  exact bodyPost_ret (v := .tuple #[.agg (rf (up R n v)), .int .i64 0]) (res_rf2 Tryd.results30 (T := 28) rfl (row_last (by simp only [size_al]))) rfl ⟨rfl, bel_al (bal7 _ _) _⟩
set_option maxRecDepth 100000 in
set_option maxHeartbeats 4000000 in
theorem r23_setx0 (R : Nat → Nat) (v : Nat) (w : World) : Calls Tryd.prog 30 #[.agg (rf R), .int .i64 0, .int .u64 (v : Nat)] w fun r w' => r = .returned (.tuple #[.agg (rf R), .int .i64 0]) ∧ Below w.heap.size w w' := by
  have hrz := rf_zero
  have hrs : ∀ R, ((rf R).size = 96) = True := fun R => eq_true (rf_size R)
  have hra := rf_at
  have hi : (decide (0 ≤ (0 : Int)) && decide ((0 : Int) < 32)) = true := by decide
  have hs2 := rf_st2
  obtain ⟨Rx_0, Rz_0, B0⟩ := opn2 w (Obj.cells (rf R) 28) (Obj.cells (rf fun _ => 0) 28)
  go_enter Tryd.func30, Tryd.ntmps30
  go_wp2_with (first | (go_at_call 40; refine (r23_is _ _ hi _).mono ?_; rintro r w' ⟨rfl, rfl⟩) | (first | ((with_reducible (refine wpl_rf rfl _ rfl ?_ (row_al (last7 _ _) _) ?_)); rfl) | ((with_reducible (refine wp_rf _ rfl ?_ (row_al (last7 _ _) _) ?_)); rfl)))
  exact bodyPost_ret (v := .tuple #[.agg (rf R), .int .i64 0]) (res_rf2 Tryd.results30 (T := 28) rfl (row_last (by simp only [size_al]))) rfl ⟨rfl, bel_al (bal7 _ _) _⟩
set_option maxRecDepth 100000 in
set_option maxHeartbeats 4000000 in
theorem r23_setf_no (R : Nat → Nat) (n : Int) (u v : Nat) (hi : (decide (0 ≤ n) && decide (n < 32)) = false) (w : World) : Calls Tryd.prog 31 #[.agg (rf R), .int .i64 n, .agg #[.int .u64 (u : Nat), .int .u64 (v : Nat)]] w fun r w' => r = .returned (.tuple #[.agg (rf R), .int .i64 2]) ∧ Below w.heap.size w w' := by
  have hrz := rf_zero
  have hrs : ∀ R, ((rf R).size = 96) = True := fun R => eq_true (rf_size R)
  have hra := rf_at
  have hs2 := rf_st3
  obtain ⟨Rx_0, Rb_0, Rz_0, B0⟩ := opn3 w (Obj.cells (rf R) 28) (Obj.cells #[.int .u64 (u : Nat), .int .u64 (v : Nat)] 25) (Obj.cells (rf fun _ => 0) 28)
  go_enter Tryd.func31, Tryd.ntmps31
  go_wp2_with (first | (go_at_call 40; refine (r23_is _ _ hi _).mono ?_; rintro r w' ⟨rfl, rfl⟩) | (first | ((with_reducible (refine wpl_rf rfl _ rfl ?_ (row_al (row_al (last7 _ _) _) _) ?_)); rfl) | ((with_reducible (refine wp_rf _ rfl ?_ (row_al (row_al (last7 _ _) _) _) ?_)); rfl)))
  exact bodyPost_ret (v := .tuple #[.agg (rf R), .int .i64 2]) (res_rf2 Tryd.results31 (T := 28) rfl (row_last (by simp only [size_al]))) rfl ⟨rfl, bel_al (bel_al (bal7 _ _) _) _⟩
set_option maxRecDepth 100000 in
set_option maxHeartbeats 4000000 in
theorem r23_setf (R : Nat → Nat) (n u v : Nat) (h : n < 32) (w : World) : Calls Tryd.prog 31 #[.agg (rf R), .int .i64 (n : Nat), .agg #[.int .u64 (u : Nat), .int .u64 (v : Nat)]] w fun r w' => r = .returned (.tuple #[.agg (rf (up (up R (32 + n * 2) u) (32 + n * 2 + 1) v)), .int .i64 0]) ∧ Below w.heap.size w w' := by
  have hrz := rf_zero
  have hrs : ∀ R, ((rf R).size = 96) = True := fun R => eq_true (rf_size R)
  have hra := rf_at
  have hi : (decide (0 ≤ (n : Int)) && decide ((n : Int) < 32)) = true := by rw [decide_eq_true (by omega), decide_eq_true (by omega)]; rfl
  have hs2 := rf_st3
  have hr0 := rf_set R (32 + n * 2) u (by omega)
  have hr1 := rf_set (up R (32 + n * 2) u) (32 + n * 2 + 1) v (by omega)
  have cg := fun (S : Nat → Nat) (o q : Obj) => rf_cell (T := 28) (row_al (row_al (last7 w (.cells (rf S) 28)) o) q) (32 + n * 2) (by omega)
  have qg := fun (S : Nat → Nat) (o q : Obj) => fz (k := 32 + n * 2) (row_al (row_al (last7 w (.cells (rf S) 28)) o) q)
  have cg2 := fun (S : Nat → Nat) (o q : Obj) => rf_cell (T := 28) (row_al (row_al (last7 w (.cells (rf S) 28)) o) q) (32 + n * 2 + 1) (by omega)
  have qg2 := fun (S : Nat → Nat) (o q : Obj) => fz (k := 32 + n * 2 + 1) (row_al (row_al (last7 w (.cells (rf S) 28)) o) q)
  obtain ⟨Rx_0, Rb_0, Rz_0, B0⟩ := opn3 w (Obj.cells (rf R) 28) (Obj.cells #[.int .u64 (u : Nat), .int .u64 (v : Nat)] 25) (Obj.cells (rf fun _ => 0) 28)
  go_enter Tryd.func31, Tryd.ntmps31
  obtain ⟨cb_0_0, cb_0_1⟩ := cells2s Rb_0
  go_wp2_with (first | (go_at_call 40; refine (r23_is _ _ hi _).mono ?_; rintro r w' ⟨rfl, rfl⟩) | (first | ((with_reducible (refine wpl_rf rfl _ rfl ?_ (row_al (row_al (last7 _ _) _) _) ?_)); rfl) | ((with_reducible (refine wp_rf _ rfl ?_ (row_al (row_al (last7 _ _) _) _) ?_)); rfl)))
  exact bodyPost_ret (v := .tuple #[.agg (rf (up (up R (32 + n * 2) u) (32 + n * 2 + 1) v)), .int .i64 0]) (res_rf2 Tryd.results31 (T := 28) rfl (row_last (by simp only [size_al]))) rfl ⟨rfl, bel_al (bel_al (bal7 _ _) _) _⟩
end Go.Proofs.YtjbnifhpbdjonaaDoor
