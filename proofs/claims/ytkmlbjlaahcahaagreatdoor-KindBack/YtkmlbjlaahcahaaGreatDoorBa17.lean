/-
  What the functions that the statement reaches return: part 17 (TB, TC, TD, TE, TF, TG, TH).
-/
import Derived.Deep.RegionHeld3
import Derived.Lib.AtoiTie
import Derived.Test.YtkmlbjlaahcahaaGreatDoorBa16
namespace Go.Proofs.YtkmlbjlaahcahaaGreatDoor
set_option maxRecDepth 100000
open Go.RowKit WMath
set_option linter.unusedSimpArgs false
set_option linter.unusedVariables false

set_option maxRecDepth 100000 in
set_option maxHeartbeats 2000000 in
theorem kmag_nan (s rr : Nat) (X : Int) (t v : ByteArray) (w : World)
    (KT : Box (∀ w, Calls Tryz.prog 131 #[.agg (cw 6 rr)] w fun r w' => r = .returned (.string t) ∧ Below w.heap.size w w'))
    (hv : (⟨#[110, 97, 110, 58]⟩ : ByteArray) ++ t = v) (hl : ¬ 9223372036854775807 < 4 + t.size) : Calls Tryz.prog 70 #[.agg (pt 9 s X rr)] w fun r w' => r = .returned (.string v) ∧ Below w.heap.size w w' := by
  have hat := cw_at 6
  have hz := cw6z
  have hff := cw6f
  have hs0 := st0
  have hcs : ∀ x, ((cw 6 x).size = 6) = True := fun x => eq_true (cw_size 6 x)
  have hp1 := ptf
  have hp3 := ptz
  have hp4 := st_p0
  have hp5 : ∀ (c s : Nat) (x : Int) (r : Nat), ((pt c s x r).size = 14) = True := fun _ _ _ _ => eq_true rfl
  obtain ⟨Rp_0, B0⟩ := opn1 w (Obj.cells (pt 9 s X rr) 55)
  go_enter Tryz.func70, Tryz.ntmps70
  obtain ⟨cp_0_0, cp_0_1, cp_0_2, cp_0_3, cp_0_4, cp_0_5, cp_0_6, cp_0_7, cp_0_8, cp_0_9, cp_0_10, cp_0_11, cp_0_12, cp_0_13⟩ := pt_cells Rp_0
  go_wp2_with fail
  refine (KT.out _).mono ?_
  rintro r w1 ⟨rfl, b1⟩
  have B1 : Below w.heap.size w w1 := btr B0 b1
  have Rp_1 := heap_of b1 _ _ _ Rp_0
  clear b1 B0 Rp_0 cp_0_0 cp_0_1 cp_0_2 cp_0_3 cp_0_4 cp_0_5 cp_0_6 cp_0_7 cp_0_8 cp_0_9 cp_0_10 cp_0_11 cp_0_12 cp_0_13
  obtain ⟨cp_1_0, cp_1_1, cp_1_2, cp_1_3, cp_1_4, cp_1_5, cp_1_6, cp_1_7, cp_1_8, cp_1_9, cp_1_10, cp_1_11, cp_1_12, cp_1_13⟩ := pt_cells Rp_1
  go_wp2
  go_ret
  exact ⟨rfl, B1⟩
set_option maxRecDepth 100000 in
set_option maxHeartbeats 2000000 in
theorem kmag_snan (s rr : Nat) (X : Int) (t v : ByteArray) (w : World)
    (KT : Box (∀ w, Calls Tryz.prog 131 #[.agg (cw 6 rr)] w fun r w' => r = .returned (.string t) ∧ Below w.heap.size w w'))
    (hv : (⟨#[115, 110, 97, 110, 58]⟩ : ByteArray) ++ t = v) (hl : ¬ 9223372036854775807 < 5 + t.size) : Calls Tryz.prog 70 #[.agg (pt 8 s X rr)] w fun r w' => r = .returned (.string v) ∧ Below w.heap.size w w' := by
  have hat := cw_at 6
  have hz := cw6z
  have hff := cw6f
  have hs0 := st0
  have hcs : ∀ x, ((cw 6 x).size = 6) = True := fun x => eq_true (cw_size 6 x)
  have hp1 := ptf
  have hp3 := ptz
  have hp4 := st_p0
  have hp5 : ∀ (c s : Nat) (x : Int) (r : Nat), ((pt c s x r).size = 14) = True := fun _ _ _ _ => eq_true rfl
  obtain ⟨Rp_0, B0⟩ := opn1 w (Obj.cells (pt 8 s X rr) 55)
  go_enter Tryz.func70, Tryz.ntmps70
  obtain ⟨cp_0_0, cp_0_1, cp_0_2, cp_0_3, cp_0_4, cp_0_5, cp_0_6, cp_0_7, cp_0_8, cp_0_9, cp_0_10, cp_0_11, cp_0_12, cp_0_13⟩ := pt_cells Rp_0
  go_wp2_with fail
  refine (KT.out _).mono ?_
  rintro r w1 ⟨rfl, b1⟩
  have B1 : Below w.heap.size w w1 := btr B0 b1
  have Rp_1 := heap_of b1 _ _ _ Rp_0
  clear b1 B0 Rp_0 cp_0_0 cp_0_1 cp_0_2 cp_0_3 cp_0_4 cp_0_5 cp_0_6 cp_0_7 cp_0_8 cp_0_9 cp_0_10 cp_0_11 cp_0_12 cp_0_13
  obtain ⟨cp_1_0, cp_1_1, cp_1_2, cp_1_3, cp_1_4, cp_1_5, cp_1_6, cp_1_7, cp_1_8, cp_1_9, cp_1_10, cp_1_11, cp_1_12, cp_1_13⟩ := pt_cells Rp_1
  go_wp2
  go_ret
  exact ⟨rfl, B1⟩
set_option maxRecDepth 100000 in
set_option maxHeartbeats 2000000 in
theorem kmag_inf0 (s rr : Nat) (X : Int) (w : World) : Calls Tryz.prog 70 #[.agg (pt 0 s X rr)] w fun r w' => r = .returned (.string ⟨#[105, 110, 102]⟩) ∧ Below w.heap.size w w' := by
  have hat := cw_at 6
  have hz := cw6z
  have hff := cw6f
  have hs0 := st0
  have hcs : ∀ x, ((cw 6 x).size = 6) = True := fun x => eq_true (cw_size 6 x)
  have hp1 := ptf
  have hp3 := ptz
  have hp4 := st_p0
  have hp5 : ∀ (c s : Nat) (x : Int) (r : Nat), ((pt c s x r).size = 14) = True := fun _ _ _ _ => eq_true rfl
  obtain ⟨Rp_0, B0⟩ := opn1 w (Obj.cells (pt 0 s X rr) 55)
  go_enter Tryz.func70, Tryz.ntmps70
  obtain ⟨cp_0_0, cp_0_1, cp_0_2, cp_0_3, cp_0_4, cp_0_5, cp_0_6, cp_0_7, cp_0_8, cp_0_9, cp_0_10, cp_0_11, cp_0_12, cp_0_13⟩ := pt_cells Rp_0
  go_wp2
  go_ret
  exact ⟨rfl, B0⟩
set_option maxRecDepth 100000 in
set_option maxHeartbeats 2000000 in
theorem kmag_inf7 (s rr : Nat) (X : Int) (w : World) : Calls Tryz.prog 70 #[.agg (pt 7 s X rr)] w fun r w' => r = .returned (.string ⟨#[105, 110, 102]⟩) ∧ Below w.heap.size w w' := by
  have hat := cw_at 6
  have hz := cw6z
  have hff := cw6f
  have hs0 := st0
  have hcs : ∀ x, ((cw 6 x).size = 6) = True := fun x => eq_true (cw_size 6 x)
  have hp1 := ptf
  have hp3 := ptz
  have hp4 := st_p0
  have hp5 : ∀ (c s : Nat) (x : Int) (r : Nat), ((pt c s x r).size = 14) = True := fun _ _ _ _ => eq_true rfl
  obtain ⟨Rp_0, B0⟩ := opn1 w (Obj.cells (pt 7 s X rr) 55)
  go_enter Tryz.func70, Tryz.ntmps70
  obtain ⟨cp_0_0, cp_0_1, cp_0_2, cp_0_3, cp_0_4, cp_0_5, cp_0_6, cp_0_7, cp_0_8, cp_0_9, cp_0_10, cp_0_11, cp_0_12, cp_0_13⟩ := pt_cells Rp_0
  go_wp2
  go_ret
  exact ⟨rfl, B0⟩
set_option maxRecDepth 100000 in
set_option maxHeartbeats 2000000 in
theorem kmag_zero3 (s rr : Nat) (X : Int) (w : World) : Calls Tryz.prog 70 #[.agg (pt 3 s X rr)] w fun r w' => r = .returned (.string ⟨#[48]⟩) ∧ Below w.heap.size w w' := by
  have hat := cw_at 6
  have hz := cw6z
  have hff := cw6f
  have hs0 := st0
  have hcs : ∀ x, ((cw 6 x).size = 6) = True := fun x => eq_true (cw_size 6 x)
  have hp1 := ptf
  have hp3 := ptz
  have hp4 := st_p0
  have hp5 : ∀ (c s : Nat) (x : Int) (r : Nat), ((pt c s x r).size = 14) = True := fun _ _ _ _ => eq_true rfl
  obtain ⟨Rp_0, B0⟩ := opn1 w (Obj.cells (pt 3 s X rr) 55)
  go_enter Tryz.func70, Tryz.ntmps70
  obtain ⟨cp_0_0, cp_0_1, cp_0_2, cp_0_3, cp_0_4, cp_0_5, cp_0_6, cp_0_7, cp_0_8, cp_0_9, cp_0_10, cp_0_11, cp_0_12, cp_0_13⟩ := pt_cells Rp_0
  go_wp2
  go_ret
  exact ⟨rfl, B0⟩
set_option maxRecDepth 100000 in
set_option maxHeartbeats 2000000 in
theorem kmag_zero4 (s rr : Nat) (X : Int) (w : World) : Calls Tryz.prog 70 #[.agg (pt 4 s X rr)] w fun r w' => r = .returned (.string ⟨#[48]⟩) ∧ Below w.heap.size w w' := by
  have hat := cw_at 6
  have hz := cw6z
  have hff := cw6f
  have hs0 := st0
  have hcs : ∀ x, ((cw 6 x).size = 6) = True := fun x => eq_true (cw_size 6 x)
  have hp1 := ptf
  have hp3 := ptz
  have hp4 := st_p0
  have hp5 : ∀ (c s : Nat) (x : Int) (r : Nat), ((pt c s x r).size = 14) = True := fun _ _ _ _ => eq_true rfl
  obtain ⟨Rp_0, B0⟩ := opn1 w (Obj.cells (pt 4 s X rr) 55)
  go_enter Tryz.func70, Tryz.ntmps70
  obtain ⟨cp_0_0, cp_0_1, cp_0_2, cp_0_3, cp_0_4, cp_0_5, cp_0_6, cp_0_7, cp_0_8, cp_0_9, cp_0_10, cp_0_11, cp_0_12, cp_0_13⟩ := pt_cells Rp_0
  go_wp2
  go_ret
  exact ⟨rfl, B0⟩
set_option maxRecDepth 100000 in
set_option maxHeartbeats 2000000 in
theorem kmag_num (c s rr : Nat) (X : Int) (t i v1 v : ByteArray) (w : World)
    (KT : Box (∀ w, Calls Tryz.prog 131 #[.agg (cw 6 s)] w fun r w' => r = .returned (.string t) ∧ Below w.heap.size w w'))
    (KI : Box (∀ w, P10 w → Calls Tryz.prog 132 #[.int .i64 X] w fun r w' => r = .returned (.string i) ∧ Below w.heap.size w w'))
    (h1 : t ++ (⟨#[112]⟩ : ByteArray) = v1) (h2 : v1 ++ i = v) (l1 : ¬ 9223372036854775807 < t.size + 1) (l2 : ¬ 9223372036854775807 < v1.size + i.size)
    (c9 : ((c : Int) == 9) = false) (c8 : ((c : Int) == 8) = false) (c0 : ((c : Int) == 0) = false) (c7 : ((c : Int) == 7) = false) (c3 : ((c : Int) == 3) = false) (c4 : ((c : Int) == 4) = false) (hP : P10 w) : Calls Tryz.prog 70 #[.agg (pt c s X rr)] w fun r w' => r = .returned (.string v) ∧ Below w.heap.size w w' := by
  have hat := cw_at 6
  have hz := cw6z
  have hff := cw6f
  have hs0 := st0
  have hcs : ∀ x, ((cw 6 x).size = 6) = True := fun x => eq_true (cw_size 6 x)
  have hp1 := ptf
  have hp3 := ptz
  have hp4 := st_p0
  have hp5 : ∀ (c s : Nat) (x : Int) (r : Nat), ((pt c s x r).size = 14) = True := fun _ _ _ _ => eq_true rfl
  have PP := box hP
  clear hP
  obtain ⟨Rp_0, B0⟩ := opn1 w (Obj.cells (pt c s X rr) 55)
  go_enter Tryz.func70, Tryz.ntmps70
  obtain ⟨cp_0_0, cp_0_1, cp_0_2, cp_0_3, cp_0_4, cp_0_5, cp_0_6, cp_0_7, cp_0_8, cp_0_9, cp_0_10, cp_0_11, cp_0_12, cp_0_13⟩ := pt_cells Rp_0
  go_wp2_with fail
  obtain ⟨F, hF1, hF2⟩ := below_fun (w.alloc (Obj.cells (pt c s X rr) 55))
  have fp_0 := fun u => cells4 (heap_of (hF1 u) _ _ _ Rp_0) 0 _ rfl
  have fp_1 := fun u => cells4 (heap_of (hF1 u) _ _ _ Rp_0) 1 _ rfl
  have fp_2 := fun u => cells4 (heap_of (hF1 u) _ _ _ Rp_0) 2 _ rfl
  have fp_3 := fun u => cells4 (heap_of (hF1 u) _ _ _ Rp_0) 3 _ rfl
  have fp_4 := fun u => cells4 (heap_of (hF1 u) _ _ _ Rp_0) 4 _ rfl
  have fp_5 := fun u => cells4 (heap_of (hF1 u) _ _ _ Rp_0) 5 _ rfl
  have fp_6 := fun u => cells4 (heap_of (hF1 u) _ _ _ Rp_0) 6 _ rfl
  have fp_7 := fun u => cells4 (heap_of (hF1 u) _ _ _ Rp_0) 7 _ rfl
  have fp_8 := fun u => cells4 (heap_of (hF1 u) _ _ _ Rp_0) 8 _ rfl
  have fp_9 := fun u => cells4 (heap_of (hF1 u) _ _ _ Rp_0) 9 _ rfl
  have fp_10 := fun u => cells4 (heap_of (hF1 u) _ _ _ Rp_0) 10 _ rfl
  have fp_11 := fun u => cells4 (heap_of (hF1 u) _ _ _ Rp_0) 11 _ rfl
  have fp_12 := fun u => cells4 (heap_of (hF1 u) _ _ _ Rp_0) 12 _ rfl
  have fp_13 := fun u => cells4 (heap_of (hF1 u) _ _ _ Rp_0) 13 _ rfl
  have PF : Box (∀ u, P10 (F u)) := box (fun u => p10B PP.out (btr B0 (hF1 u)))
  refine wp_region_below F hF2 (by kernel_rfl) (by kernel_rfl) ?_
  repeat first | go_big_quiet_step (first | (go_at_call 131; exact quietF hF1 hF2 (KT.out _)) | (go_at_call 132; exact quietF hF1 hF2 (KI.out _ (PF.out _))) | fail) | quiet_step (first | (go_at_call 131; exact quietF hF1 hF2 (KT.out _)) | (go_at_call 132; exact quietF hF1 hF2 (KI.out _ (PF.out _))) | fail)
  refine wpQuiet_nil ?_
  rintro _ ⟨uW, rfl⟩
  have B1 := btr B0 (hF1 uW)
  have Rp_1 := heap_of (hF1 uW) _ _ _ Rp_0
  obtain ⟨w1, hw⟩ : ∃ V, F uW = V := ⟨_, rfl⟩
  rw [hw] at B1 Rp_1
  try rw [hw]
  clear hw hF1 hF2 B0 fp_0 fp_1 fp_2 fp_3 fp_4 fp_5 fp_6 fp_7 fp_8 fp_9 fp_10 fp_11 fp_12 fp_13 Rp_0 cp_0_0 cp_0_1 cp_0_2 cp_0_3 cp_0_4 cp_0_5 cp_0_6 cp_0_7 cp_0_8 cp_0_9 cp_0_10 cp_0_11 cp_0_12 cp_0_13
  clear PF
  clear F
  obtain ⟨cp_1_0, cp_1_1, cp_1_2, cp_1_3, cp_1_4, cp_1_5, cp_1_6, cp_1_7, cp_1_8, cp_1_9, cp_1_10, cp_1_11, cp_1_12, cp_1_13⟩ := pt_cells Rp_1
  go_wp2
  go_ret
  exact ⟨rfl, B1⟩
set_option maxRecDepth 100000 in
set_option maxHeartbeats 2000000 in
theorem ktext_pos (f : Int) (x y c s rr : Nat) (X : Int) (m : ByteArray) (w : World)
    (KU : Box (∀ w, FAt w → Calls Tryz.prog 20 #[.int .u8 f, .agg #[.int .u64 (x : Nat), .int .u64 (y : Nat)]] w fun r w' => r = .returned (.tuple #[.agg (pt c s X rr), .int .i64 0]) ∧ Below w.heap.size w w'))
    (KS : Box (∀ w, FAt w → Calls Tryz.prog 37 #[.int .u8 f, .agg #[.int .u64 (x : Nat), .int .u64 (y : Nat)]] w fun r w' => r = .returned (.bool false) ∧ Below w.heap.size w w'))
    (KM : Box (∀ w, P10 w → Calls Tryz.prog 70 #[.agg (pt c s X rr)] w fun r w' => r = .returned (.string m) ∧ Below w.heap.size w w'))
    (hT : FAt w) (hP : P10 w) : Calls Tryz.prog 16 #[.int .u8 f, .agg #[.int .u64 (x : Nat), .int .u64 (y : Nat)]] w fun r w' => r = .returned (.tuple #[.string m, .int .i64 0]) ∧ Below w.heap.size w w' := by
  have hat := cw_at 6
  have hz := cw6z
  have hff := cw6f
  have hs0 := st0
  have hcs : ∀ x, ((cw 6 x).size = 6) = True := fun x => eq_true (cw_size 6 x)
  have hp1 := ptf
  have hp3 := ptz
  have hp4 := st_p0
  have hp5 : ∀ (c s : Nat) (x : Int) (r : Nat), ((pt c s x r).size = 14) = True := fun _ _ _ _ => eq_true rfl
  have FF := box hT
  have PP := box hP
  clear hT hP
  obtain ⟨Rb_0, B0⟩ := opn1 w (Obj.cells #[.int .u64 (x : Nat), .int .u64 (y : Nat)] 25)
  go_enter Tryz.func16, Tryz.ntmps16
  go_wp2_with fail
  refine (KU.out _ (fatB FF.out B0)).mono ?_
  rintro r w1 ⟨rfl, b1⟩
  have B1 : Below w.heap.size w w1 := btr B0 b1
  have Rb_1 := heap_of b1 _ _ _ Rb_0
  clear b1 B0 Rb_0
  obtain ⟨cb_1_0, cb_1_1⟩ := cells2s Rb_1
  have S2 := box B1.size
  have Lb_2 : Box (w.heap.size < w1.heap.size) := box (Array.getElem?_eq_some_iff.1 Rb_1).1
  have Rp_2 := heap_alloc_last w1 (Obj.cells (pt c s X rr) 55)
  have B2 := btr B1 (bal w1 (Obj.cells (pt c s X rr) 55))
  have Rb_2 := heap_of (bal w1 (Obj.cells (pt c s X rr) 55)) _ _ _ Rb_1
  clear B1 Rb_1 cb_1_0 cb_1_1
  obtain ⟨cb_2_0, cb_2_1⟩ := cells2s Rb_2
  obtain ⟨cp_2_0, cp_2_1, cp_2_2, cp_2_3, cp_2_4, cp_2_5, cp_2_6, cp_2_7, cp_2_8, cp_2_9, cp_2_10, cp_2_11, cp_2_12, cp_2_13⟩ := pt_cells Rp_2
  go_wp2_with fail
  refine (KS.out _ (fatB FF.out B2)).mono ?_
  rintro r w3 ⟨rfl, b3⟩
  have B3 : Below w.heap.size w w3 := btr B2 b3
  have Rb_3 := heap_of b3 _ _ _ Rb_2
  have Rp_3 := heap_of b3 _ _ _ Rp_2
  clear b3 B2 Rb_2 cb_2_0 cb_2_1 Rp_2 cp_2_0 cp_2_1 cp_2_2 cp_2_3 cp_2_4 cp_2_5 cp_2_6 cp_2_7 cp_2_8 cp_2_9 cp_2_10 cp_2_11 cp_2_12 cp_2_13
  obtain ⟨cb_3_0, cb_3_1⟩ := cells2s Rb_3
  obtain ⟨cp_3_0, cp_3_1, cp_3_2, cp_3_3, cp_3_4, cp_3_5, cp_3_6, cp_3_7, cp_3_8, cp_3_9, cp_3_10, cp_3_11, cp_3_12, cp_3_13⟩ := pt_cells Rp_3
  go_wp2_with fail
  refine (KM.out _ (p10B PP.out B3)).mono ?_
  rintro r w4 ⟨rfl, b4⟩
  have B4 : Below w.heap.size w w4 := btr B3 b4
  have Rb_4 := heap_of b4 _ _ _ Rb_3
  have Rp_4 := heap_of b4 _ _ _ Rp_3
  clear b4 B3 Rb_3 cb_3_0 cb_3_1 Rp_3 cp_3_0 cp_3_1 cp_3_2 cp_3_3 cp_3_4 cp_3_5 cp_3_6 cp_3_7 cp_3_8 cp_3_9 cp_3_10 cp_3_11 cp_3_12 cp_3_13
  obtain ⟨cb_4_0, cb_4_1⟩ := cells2s Rb_4
  obtain ⟨cp_4_0, cp_4_1, cp_4_2, cp_4_3, cp_4_4, cp_4_5, cp_4_6, cp_4_7, cp_4_8, cp_4_9, cp_4_10, cp_4_11, cp_4_12, cp_4_13⟩ := pt_cells Rp_4
  go_wp2
  go_ret2
  exact ⟨rfl, B4⟩
set_option maxRecDepth 100000 in
set_option maxHeartbeats 2000000 in
theorem ktext_neg (f : Int) (x y c s rr : Nat) (X : Int) (m v : ByteArray) (w : World)
    (KU : Box (∀ w, FAt w → Calls Tryz.prog 20 #[.int .u8 f, .agg #[.int .u64 (x : Nat), .int .u64 (y : Nat)]] w fun r w' => r = .returned (.tuple #[.agg (pt c s X rr), .int .i64 0]) ∧ Below w.heap.size w w'))
    (KS : Box (∀ w, FAt w → Calls Tryz.prog 37 #[.int .u8 f, .agg #[.int .u64 (x : Nat), .int .u64 (y : Nat)]] w fun r w' => r = .returned (.bool true) ∧ Below w.heap.size w w'))
    (KM : Box (∀ w, P10 w → Calls Tryz.prog 70 #[.agg (pt c s X rr)] w fun r w' => r = .returned (.string m) ∧ Below w.heap.size w w'))
    (hv : (⟨#[45]⟩ : ByteArray) ++ m = v) (hl : ¬ 9223372036854775807 < 1 + m.size)
    (hT : FAt w) (hP : P10 w) : Calls Tryz.prog 16 #[.int .u8 f, .agg #[.int .u64 (x : Nat), .int .u64 (y : Nat)]] w fun r w' => r = .returned (.tuple #[.string v, .int .i64 0]) ∧ Below w.heap.size w w' := by
  have hat := cw_at 6
  have hz := cw6z
  have hff := cw6f
  have hs0 := st0
  have hcs : ∀ x, ((cw 6 x).size = 6) = True := fun x => eq_true (cw_size 6 x)
  have hp1 := ptf
  have hp3 := ptz
  have hp4 := st_p0
  have hp5 : ∀ (c s : Nat) (x : Int) (r : Nat), ((pt c s x r).size = 14) = True := fun _ _ _ _ => eq_true rfl
  have FF := box hT
  have PP := box hP
  clear hT hP
  obtain ⟨Rb_0, B0⟩ := opn1 w (Obj.cells #[.int .u64 (x : Nat), .int .u64 (y : Nat)] 25)
  go_enter Tryz.func16, Tryz.ntmps16
  go_wp2_with fail
  refine (KU.out _ (fatB FF.out B0)).mono ?_
  rintro r w1 ⟨rfl, b1⟩
  have B1 : Below w.heap.size w w1 := btr B0 b1
  have Rb_1 := heap_of b1 _ _ _ Rb_0
  clear b1 B0 Rb_0
  obtain ⟨cb_1_0, cb_1_1⟩ := cells2s Rb_1
  have S2 := box B1.size
  have Lb_2 : Box (w.heap.size < w1.heap.size) := box (Array.getElem?_eq_some_iff.1 Rb_1).1
  have Rp_2 := heap_alloc_last w1 (Obj.cells (pt c s X rr) 55)
  have B2 := btr B1 (bal w1 (Obj.cells (pt c s X rr) 55))
  have Rb_2 := heap_of (bal w1 (Obj.cells (pt c s X rr) 55)) _ _ _ Rb_1
  clear B1 Rb_1 cb_1_0 cb_1_1
  obtain ⟨cb_2_0, cb_2_1⟩ := cells2s Rb_2
  obtain ⟨cp_2_0, cp_2_1, cp_2_2, cp_2_3, cp_2_4, cp_2_5, cp_2_6, cp_2_7, cp_2_8, cp_2_9, cp_2_10, cp_2_11, cp_2_12, cp_2_13⟩ := pt_cells Rp_2
  go_wp2_with fail
  refine (KS.out _ (fatB FF.out B2)).mono ?_
  rintro r w3 ⟨rfl, b3⟩
  have B3 : Below w.heap.size w w3 := btr B2 b3
  have Rb_3 := heap_of b3 _ _ _ Rb_2
  have Rp_3 := heap_of b3 _ _ _ Rp_2
  clear b3 B2 Rb_2 cb_2_0 cb_2_1 Rp_2 cp_2_0 cp_2_1 cp_2_2 cp_2_3 cp_2_4 cp_2_5 cp_2_6 cp_2_7 cp_2_8 cp_2_9 cp_2_10 cp_2_11 cp_2_12 cp_2_13
  obtain ⟨cb_3_0, cb_3_1⟩ := cells2s Rb_3
  obtain ⟨cp_3_0, cp_3_1, cp_3_2, cp_3_3, cp_3_4, cp_3_5, cp_3_6, cp_3_7, cp_3_8, cp_3_9, cp_3_10, cp_3_11, cp_3_12, cp_3_13⟩ := pt_cells Rp_3
  go_wp2_with fail
  refine (KM.out _ (p10B PP.out B3)).mono ?_
  rintro r w4 ⟨rfl, b4⟩
  have B4 : Below w.heap.size w w4 := btr B3 b4
  have Rb_4 := heap_of b4 _ _ _ Rb_3
  have Rp_4 := heap_of b4 _ _ _ Rp_3
  clear b4 B3 Rb_3 cb_3_0 cb_3_1 Rp_3 cp_3_0 cp_3_1 cp_3_2 cp_3_3 cp_3_4 cp_3_5 cp_3_6 cp_3_7 cp_3_8 cp_3_9 cp_3_10 cp_3_11 cp_3_12 cp_3_13
  obtain ⟨cb_4_0, cb_4_1⟩ := cells2s Rb_4
  obtain ⟨cp_4_0, cp_4_1, cp_4_2, cp_4_3, cp_4_4, cp_4_5, cp_4_6, cp_4_7, cp_4_8, cp_4_9, cp_4_10, cp_4_11, cp_4_12, cp_4_13⟩ := pt_cells Rp_4
  go_wp2
  go_ret2
  exact ⟨rfl, B4⟩
end Go.Proofs.YtkmlbjlaahcahaaGreatDoor
namespace Go.Proofs.YtkmlbjlaahcahaaGreatDoor
set_option maxRecDepth 100000
open Go.RowKit WMath
set_option linter.unusedSimpArgs false
set_option linter.unusedVariables false

theorem ba_app (a b : List UInt8) : (⟨a.toArray⟩ : ByteArray) ++ (⟨b.toArray⟩ : ByteArray) = ⟨(a ++ b).toArray⟩ := by
  apply ByteArray.ext
  simp [ByteArray.data_append]
/-- The text of a magnitude. -/
def mTx (c s : Nat) (X : Int) (r : Nat) : List UInt8 :=
  if c = 9 then [110, 97, 110, 58] ++ tx r else if c = 8 then [115, 110, 97, 110, 58] ++ tx r
  else if c = 0 ∨ c = 7 then [105, 110, 102] else if c = 3 ∨ c = 4 then [48] else tx s ++ [112] ++ Lib.itoa X
def sTx (neg : Bool) (l : List UInt8) : List UInt8 := if neg then 45 :: l else l
/-- The text of bits. -/
def kTx (f : Int) (n : Nat) : List UInt8 := sTx (kN f n) (mTx (kC f n) (kS f n) (kX f n) (kF f n))
theorem dec_le : ∀ (k u : Nat), 1 ≤ k → u < 10 ^ k → Lib.nDigits u ≤ k := by
  intro k
  induction k with
  | zero => intro u h; omega
  | succ k ih =>
    intro u _ hu
    rw [Lib.nDigits]
    by_cases h : u < 10
    · rw [dif_pos h]; omega
    · rw [dif_neg h]
      by_cases hk : k = 0
      · subst hk; omega
      · have := ih (u / 10) (by omega) (by rw [Nat.pow_succ] at hu; omega)
        omega
theorem itoa_len8 (e : Int) (h0 : -20000 ≤ e) (h1 : e ≤ 20000) : (Lib.itoa e).length ≤ 30 := by
  by_cases hn : 0 ≤ e
  · obtain ⟨n, rfl⟩ := Int.eq_ofNat_of_zero_le hn
    rw [Lib.itoa_nonneg, Lib.decDigits_length]
    have := dec_le 20 n (by decide) (by omega)
    omega
  · obtain ⟨n, rfl⟩ : ∃ n : Nat, e = -(n : Int) := ⟨e.natAbs, by omega⟩
    rw [Lib.itoa_neg n (by omega), List.length_cons, Lib.decDigits_length]
    have := dec_le 20 n (by decide) (by omega)
    omega
theorem mTx_len (f : Int) (hf : Is4 f) (n : Nat) : (mTx (kC f n) (kS f n) (kX f n) (kF f n)).length ≤ 200 ∧ (tx (kS f n)).length ≤ 96 ∧ (tx (kF f n)).length ≤ 96 ∧ (Lib.itoa (kX f n)).length ≤ 30 := by
  obtain ⟨s1, s2, s3⟩ := kS_lim hf n
  have r1 : kF f n < 340282366920938463463374607431768211456 := by
    obtain ⟨g1, g2, g3, g4, g5, g6, g7⟩ := fm hf
    have tl := kT_lt (f := f) n
    unfold kF
    rw [g1, Nat.add_mul] at g7
    split <;> omega
  have a := tx_len _ (lt_Q7 s1)
  have b := tx_len _ (lt_Q7 r1)
  have c := itoa_len8 _ s2 s3
  refine ⟨?_, a, b, c⟩
  unfold mTx
  repeat' split
  all_goals simp only [List.length_append, List.length_cons, List.length_nil]
  all_goals omega
theorem size_l (l : List UInt8) : (⟨l.toArray⟩ : ByteArray).size = l.length := rfl
theorem kMag_is (f : Int) (hf : Is4 f) (n : Nat) (w : World) (hP : P10 w) : Calls Tryz.prog 70 #[.agg (pt (kC f n) (kS f n) (kX f n) (kF f n))] w fun r w' => r = .returned (.string ⟨(mTx (kC f n) (kS f n) (kX f n) (kF f n)).toArray⟩) ∧ Below w.heap.size w w' := by
  obtain ⟨s1, s2, s3⟩ := kS_lim hf n
  obtain ⟨_, l1, l2, l3⟩ := mTx_len f hf n
  have r1 : kF f n < 340282366920938463463374607431768211456 := by
    obtain ⟨g1, g2, g3, g4, g5, g6, g7⟩ := fm hf
    have tl := kT_lt (f := f) n
    unfold kF
    rw [g1, Nat.add_mul] at g7
    split <;> omega
  have cl := kC_lt f n
  generalize kS f n = s at *
  generalize kX f n = X at *
  generalize kF f n = r at *
  generalize kC f n = c at *
  unfold mTx
  by_cases c9 : c = 9
  · subst c9
    rw [if_pos rfl]
    exact kmag_nan s r X _ _ w (box (fun w => wtext_is r _ (lt_Q7 r1) rfl w)) (ba_app _ _) (by rw [size_l]; omega)
  rw [if_neg c9]
  by_cases c8 : c = 8
  · subst c8
    rw [if_pos rfl]
    exact kmag_snan s r X _ _ w (box (fun w => wtext_is r _ (lt_Q7 r1) rfl w)) (ba_app _ _) (by rw [size_l]; omega)
  rw [if_neg c8]
  by_cases c0 : c = 0 ∨ c = 7
  · rw [if_pos c0]
    rcases c0 with rfl | rfl
    · exact kmag_inf0 s r X w
    · exact kmag_inf7 s r X w
  rw [if_neg c0]
  by_cases c3 : c = 3 ∨ c = 4
  · rw [if_pos c3]
    rcases c3 with rfl | rfl
    · exact kmag_zero3 s r X w
    · exact kmag_zero4 s r X w
  rw [if_neg c3]
  have ne : ∀ k : Nat, c ≠ k → ((c : Int) == (k : Int)) = false := fun k hk => by rw [beq_eq_false_iff_ne]; omega
  exact kmag_num c s r X _ _ _ _ w (box (fun w => wtext_is s _ (lt_Q7 s1) rfl w)) (box (fun w hP => t_itoa X _ (by omega) (by omega) rfl w hP)) (ba_app _ [112]) (ba_app _ _) (by rw [size_l]; omega) (by rw [size_l, size_l, List.length_append, List.length_cons, List.length_nil]; omega) (ne 9 (by omega)) (ne 8 (by omega)) (ne 0 (by omega)) (ne 7 (by omega)) (ne 3 (by omega)) (ne 4 (by omega)) hP
theorem kText_is (f : Int) (hf : Is4 f) (x y n : Nat) (v : ByteArray) (hx : x < 18446744073709551616) (hy : y < 18446744073709551616) (hn : y + 18446744073709551616 * x = n) (ho : okB f n = true) (hv : (⟨(kTx f n).toArray⟩ : ByteArray) = v) (w : World) (hT : FAt w) (hP : P10 w) : Calls Tryz.prog 16 #[.int .u8 f, .agg #[.int .u64 (x : Nat), .int .u64 (y : Nat)]] w fun r w' => r = .returned (.tuple #[.string v, .int .i64 0]) ∧ Below w.heap.size w w' := by
  subst hv
  have KU : Box (∀ w, FAt w → Calls Tryz.prog 20 #[.int .u8 f, .agg #[.int .u64 (x : Nat), .int .u64 (y : Nat)]] w fun r w' => r = .returned (.tuple #[.agg (pt (kC f n) (kS f n) (kX f n) (kF f n)), .int .i64 0]) ∧ Below w.heap.size w w') := box (fun w hT => kUnpack_yes f hf x y n _ _ _ _ hx hy hn ho rfl w hT)
  have KM : Box (∀ w, P10 w → Calls Tryz.prog 70 #[.agg (pt (kC f n) (kS f n) (kX f n) (kF f n))] w fun r w' => r = .returned (.string ⟨(mTx (kC f n) (kS f n) (kX f n) (kF f n)).toArray⟩) ∧ Below w.heap.size w w') := box (fun w hP => kMag_is f hf n w hP)
  have ml := (mTx_len f hf n).1
  obtain ⟨neg, hneg⟩ : ∃ o, kN f n = o := ⟨_, rfl⟩
  have KS : Box (∀ w, FAt w → Calls Tryz.prog 37 #[.int .u8 f, .agg #[.int .u64 (x : Nat), .int .u64 (y : Nat)]] w fun r w' => r = .returned (.bool neg) ∧ Below w.heap.size w w') := box (fun w hT => ksign_is f hf x y n _ hx hy hn hneg w hT)
  unfold kTx sTx
  rw [hneg]
  cases neg
  · exact ktext_pos f x y _ _ _ _ _ w KU KS KM hT hP
  · exact ktext_neg f x y _ _ _ _ _ _ w KU KS KM (ba_app [45] _) (by rw [size_l]; omega) hT hP
end Go.Proofs.YtkmlbjlaahcahaaGreatDoor
namespace Go.Proofs.YtkmlbjlaahcahaaGreatDoor
set_option maxRecDepth 100000
open Go.RowKit WMath
set_option linter.unusedSimpArgs false
set_option linter.unusedVariables false

/-- The library's two sentinels lie in their variables. -/
def Atoiable (w : World) : Prop := (∃ t p, w.var? Tryz.prog "strconv.ErrSyntax" = some #[.iface t p]) ∧ (∃ t p, w.var? Tryz.prog "strconv.ErrRange" = some #[.iface t p]) ∧ ∃ m, w.cell? ⟨1, 0, none⟩ = some (.int .i64 m)
theorem varB {w w' : World} {n : String} {g : Nat} {cs : Array Value} (hg : Tryz.prog.globalNamed n = some g) (h : w.var? Tryz.prog n = some cs) (hb : Below w.heap.size w w') : w'.var? Tryz.prog n = some cs := by
  unfold World.var? at h ⊢
  rw [hg] at h ⊢
  simp only [Option.bind_some] at h ⊢
  have h0 : g < w.heap.size := by
    rcases Nat.lt_or_ge g w.heap.size with e | e
    · exact e
    · have : w.heap[g]? = none := Array.getElem?_eq_none e
      rw [this] at h
      cases h
  rw [hb.block g h0]
  exact h
theorem gSyn : Tryz.prog.globalNamed "strconv.ErrSyntax" = some 2 := by kernel_rfl
theorem gRng : Tryz.prog.globalNamed "strconv.ErrRange" = some 3 := by kernel_rfl
theorem atB {w w' : World} (h : Atoiable w) (hb : Below w.heap.size w w') : Atoiable w' := by
  obtain ⟨⟨t, p, h1⟩, ⟨t2, p2, h2⟩, m, h3⟩ := h
  exact ⟨⟨t, p, varB gSyn h1 hb⟩, ⟨t2, p2, varB gRng h2 hb⟩, m, by rw [hb.cell (p := ⟨1, 0, none⟩) (World.block_lt_of_cell? w _ h3)]; exact h3⟩
set_option maxRecDepth 100000 in
set_option maxHeartbeats 2000000 in
theorem kmr_zero (f : Int) (w : World)
    (hT : FAt w) : Calls Tryz.prog 74 #[.int .u8 f, .string ⟨#[48]⟩] w fun r w' => r = .returned (.agg #[.int .u64 0, .int .u64 0]) ∧ Below w.heap.size w w' := by
  have hat := cw_at 6
  have hz := cw6z
  have hff := cw6f
  have hs0 := st0
  have hcs : ∀ x, ((cw 6 x).size = 6) = True := fun x => eq_true (cw_size 6 x)
  have FF := box hT
  clear hT
  obtain ⟨Rz_0, B0⟩ := opn1 w (Obj.cells #[.int .u64 0, .int .u64 0] 25)
  go_enter Tryz.func74, Tryz.ntmps74
  clear B0 Rz_0
  go_wp2
  exact bodyPost_ret (v := .agg #[.int .u64 0, .int .u64 0]) (by simp [results, Tryz.results74, go_sem]) rfl ⟨rfl, ((Below.refl _ _).alloc (by first | omega | (simp only [size_al]; omega)) _)⟩
set_option maxRecDepth 100000 in
set_option maxHeartbeats 2000000 in
theorem kmr_inf (f : Int) (u v : Nat) (w : World)
    (KI : Box (∀ w, FAt w → Calls Tryz.prog 25 #[.int .u8 f, .bool false] w fun r w' => r = .returned (.agg #[.int .u64 (u : Nat), .int .u64 (v : Nat)]) ∧ Below w.heap.size w w'))
    (hT : FAt w) : Calls Tryz.prog 74 #[.int .u8 f, .string ⟨#[105, 110, 102]⟩] w fun r w' => r = .returned (.agg #[.int .u64 (u : Nat), .int .u64 (v : Nat)]) ∧ Below w.heap.size w w' := by
  have hat := cw_at 6
  have hz := cw6z
  have hff := cw6f
  have hs0 := st0
  have hcs : ∀ x, ((cw 6 x).size = 6) = True := fun x => eq_true (cw_size 6 x)
  have FF := box hT
  clear hT
  obtain ⟨Rz_0, B0⟩ := opn1 w (Obj.cells #[.int .u64 0, .int .u64 0] 25)
  go_enter Tryz.func74, Tryz.ntmps74
  go_wp2_with fail
  refine (KI.out _ (fatB FF.out B0)).mono ?_
  rintro r w1 ⟨rfl, b1⟩
  have B1 : Below w.heap.size w w1 := btr B0 b1
  have Rz_1 := heap_of b1 _ _ _ Rz_0
  clear b1 B0 Rz_0
  obtain ⟨cz_1_0, cz_1_1⟩ := cells2s Rz_1
  have q0 := fz (k := 0) Rz_1
  have q1 := fz (k := 1) Rz_1
  obtain ⟨E0, E1⟩ := set2_cells Rz_1 (.int .u64 (u : Nat)) (.int .u64 (v : Nat))
  go_wp2
  exact bodyPost_ret (v := .agg #[.int .u64 (u : Nat), .int .u64 (v : Nat)]) (by simp [results, Tryz.results74, go_sem, E0, E1]) rfl ⟨rfl, set2_below B1 (by first | exact Nat.le_refl _ | omega | (skip; omega)) _ _⟩
set_option maxRecDepth 100000 in
set_option maxHeartbeats 2000000 in
theorem kmr_nan (f : Int) (s d0 d1 : ByteArray) (V u v : Nat) (E : Int) (w : World)
    (n0 : (s.toList == [48]) = false) (n1 : (s.toList == [105, 110, 102]) = false)
    (KC : Box (∀ w, Atoiable w → Calls Tryz.prog 136 #[.string s, .string ⟨#[110, 97, 110, 58]⟩] w fun r w' => r = .returned (.tuple #[.string d0, .string d1, .bool true]) ∧ Below w.heap.size w w'))
    (KR : Box (∀ w, Calls Tryz.prog 137 #[.string d1] w fun r w' => r = .returned (.tuple #[.agg (cw 6 V), .int .i64 E]) ∧ Below w.heap.size w w'))
    (KE : Box (∀ w, FAt w → Calls Tryz.prog 138 #[.int .u8 f, .agg (cw 6 V)] w fun r w' => r = .returned (.agg #[.int .u64 (u : Nat), .int .u64 (v : Nat)]) ∧ Below w.heap.size w w')) (hA : Atoiable w)
    (hT : FAt w) : Calls Tryz.prog 74 #[.int .u8 f, .string s] w fun r w' => r = .returned (.agg #[.int .u64 (u : Nat), .int .u64 (v : Nat)]) ∧ Below w.heap.size w w' := by
  have hat := cw_at 6
  have hz := cw6z
  have hff := cw6f
  have hs0 := st0
  have hcs : ∀ x, ((cw 6 x).size = 6) = True := fun x => eq_true (cw_size 6 x)
  have FF := box hT
  clear hT
  have AA := box hA
  clear hA
  obtain ⟨Rz_0, B0⟩ := opn1 w (Obj.cells #[.int .u64 0, .int .u64 0] 25)
  go_enter Tryz.func74, Tryz.ntmps74
  go_wp2_with fail
  refine (KC.out _ (atB AA.out B0)).mono ?_
  rintro r w1 ⟨rfl, b1⟩
  have B1 : Below w.heap.size w w1 := btr B0 b1
  have Rz_1 := heap_of b1 _ _ _ Rz_0
  clear b1 B0 Rz_0
  obtain ⟨cz_1_0, cz_1_1⟩ := cells2s Rz_1
  go_wp2_with fail
  refine (KR.out _).mono ?_
  rintro r w2 ⟨rfl, b2⟩
  have B2 : Below w.heap.size w w2 := btr B1 b2
  have Rz_2 := heap_of b2 _ _ _ Rz_1
  clear b2 B1 Rz_1 cz_1_0 cz_1_1
  obtain ⟨cz_2_0, cz_2_1⟩ := cells2s Rz_2
  have S3 := box B2.size
  have Lz_3 : Box (w.heap.size < w2.heap.size) := box (Array.getElem?_eq_some_iff.1 Rz_2).1
  have Rq_3 := heap_alloc_last w2 (Obj.cells (cw 6 V) 53)
  have B3 := btr B2 (bal w2 (Obj.cells (cw 6 V) 53))
  have Rz_3 := heap_of (bal w2 (Obj.cells (cw 6 V) 53)) _ _ _ Rz_2
  clear B2 Rz_2 cz_2_0 cz_2_1
  obtain ⟨cz_3_0, cz_3_1⟩ := cells2s Rz_3
  have cq_3_0 := row_cell Rq_3
  go_wp2_with fail
  refine (KE.out _ (fatB FF.out B3)).mono ?_
  rintro r w4 ⟨rfl, b4⟩
  have B4 : Below w.heap.size w w4 := btr B3 b4
  have Rz_4 := heap_of b4 _ _ _ Rz_3
  have Rq_4 := heap_of b4 _ _ _ Rq_3
  clear b4 B3 Rz_3 cz_3_0 cz_3_1 Rq_3 cq_3_0
  obtain ⟨cz_4_0, cz_4_1⟩ := cells2s Rz_4
  have cq_4_0 := row_cell Rq_4
  have q0 := fz (k := 0) Rz_4
  have q1 := fz (k := 1) Rz_4
  obtain ⟨E0, E1⟩ := set2_cells Rz_4 (.int .u64 (u : Nat)) (.int .u64 (v : Nat))
  go_wp2
  exact bodyPost_ret (v := .agg #[.int .u64 (u : Nat), .int .u64 (v : Nat)]) (by simp [results, Tryz.results74, go_sem, E0, E1]) rfl ⟨rfl, set2_below B4 (by first | exact Nat.le_refl _ | omega | (have := S3.out; have := Lz_3.out; omega)) _ _⟩
set_option maxRecDepth 100000 in
set_option maxHeartbeats 2000000 in
theorem kmr_num (f : Int) (s d0 d1 c0 c1 : ByteArray) (is : Bool) (V u v : Nat) (E X : Int) (w : World)
    (n0 : (s.toList == [48]) = false) (n1 : (s.toList == [105, 110, 102]) = false)
    (KC : Box (∀ w, Atoiable w → Calls Tryz.prog 136 #[.string s, .string ⟨#[110, 97, 110, 58]⟩] w fun r w' => r = .returned (.tuple #[.string d0, .string d1, .bool false]) ∧ Below w.heap.size w w'))
    (KD : Box (∀ w, Atoiable w → Calls Tryz.prog 136 #[.string s, .string ⟨#[112]⟩] w fun r w' => r = .returned (.tuple #[.string c0, .string c1, .bool is]) ∧ Below w.heap.size w w'))
    (KR : Box (∀ w, Calls Tryz.prog 137 #[.string c0] w fun r w' => r = .returned (.tuple #[.agg (cw 6 V), .int .i64 E]) ∧ Below w.heap.size w w'))
    (KA : Box (∀ w, Atoiable w → Calls Tryz.prog 139 #[.string c1] w fun r w' => ∃ ev, r = .returned (.tuple #[.int .i64 X, ev]) ∧ Below w.heap.size w w'))
    (KE : Box (∀ w, FAt w → Calls Tryz.prog 54 #[.int .u8 f, .agg (cw 6 V), .int .i64 X] w fun r w' => r = .returned (.agg #[.int .u64 (u : Nat), .int .u64 (v : Nat)]) ∧ Below w.heap.size w w')) (hA : Atoiable w)
    (hT : FAt w) : Calls Tryz.prog 74 #[.int .u8 f, .string s] w fun r w' => r = .returned (.agg #[.int .u64 (u : Nat), .int .u64 (v : Nat)]) ∧ Below w.heap.size w w' := by
  have hat := cw_at 6
  have hz := cw6z
  have hff := cw6f
  have hs0 := st0
  have hcs : ∀ x, ((cw 6 x).size = 6) = True := fun x => eq_true (cw_size 6 x)
  have FF := box hT
  clear hT
  have AA := box hA
  clear hA
  obtain ⟨Rz_0, B0⟩ := opn1 w (Obj.cells #[.int .u64 0, .int .u64 0] 25)
  go_enter Tryz.func74, Tryz.ntmps74
  go_wp2_with fail
  refine (KC.out _ (atB AA.out B0)).mono ?_
  rintro r w1 ⟨rfl, b1⟩
  have B1 : Below w.heap.size w w1 := btr B0 b1
  have Rz_1 := heap_of b1 _ _ _ Rz_0
  clear b1 B0 Rz_0
  obtain ⟨cz_1_0, cz_1_1⟩ := cells2s Rz_1
  go_wp2_with fail
  refine (KD.out _ (atB AA.out B1)).mono ?_
  rintro r w2 ⟨rfl, b2⟩
  have B2 : Below w.heap.size w w2 := btr B1 b2
  have Rz_2 := heap_of b2 _ _ _ Rz_1
  clear b2 B1 Rz_1 cz_1_0 cz_1_1
  obtain ⟨cz_2_0, cz_2_1⟩ := cells2s Rz_2
  go_wp2_with fail
  refine (KR.out _).mono ?_
  rintro r w3 ⟨rfl, b3⟩
  have B3 : Below w.heap.size w w3 := btr B2 b3
  have Rz_3 := heap_of b3 _ _ _ Rz_2
  clear b3 B2 Rz_2 cz_2_0 cz_2_1
  obtain ⟨cz_3_0, cz_3_1⟩ := cells2s Rz_3
  have S4 := box B3.size
  have Lz_4 : Box (w.heap.size < w3.heap.size) := box (Array.getElem?_eq_some_iff.1 Rz_3).1
  have Rq_4 := heap_alloc_last w3 (Obj.cells (cw 6 V) 53)
  have B4 := btr B3 (bal w3 (Obj.cells (cw 6 V) 53))
  have Rz_4 := heap_of (bal w3 (Obj.cells (cw 6 V) 53)) _ _ _ Rz_3
  clear B3 Rz_3 cz_3_0 cz_3_1
  obtain ⟨cz_4_0, cz_4_1⟩ := cells2s Rz_4
  have cq_4_0 := row_cell Rq_4
  go_wp2_with fail
  refine (KA.out _ (atB AA.out B4)).mono ?_
  rintro r w5 ⟨ev, rfl, b5⟩
  have B5 : Below w.heap.size w w5 := btr B4 b5
  have Rz_5 := heap_of b5 _ _ _ Rz_4
  have Rq_5 := heap_of b5 _ _ _ Rq_4
  clear b5 B4 Rz_4 cz_4_0 cz_4_1 Rq_4 cq_4_0
  obtain ⟨cz_5_0, cz_5_1⟩ := cells2s Rz_5
  have cq_5_0 := row_cell Rq_5
  go_wp2_with fail
  refine (KE.out _ (fatB FF.out B5)).mono ?_
  rintro r w6 ⟨rfl, b6⟩
  have B6 : Below w.heap.size w w6 := btr B5 b6
  have Rz_6 := heap_of b6 _ _ _ Rz_5
  have Rq_6 := heap_of b6 _ _ _ Rq_5
  clear b6 B5 Rz_5 cz_5_0 cz_5_1 Rq_5 cq_5_0
  obtain ⟨cz_6_0, cz_6_1⟩ := cells2s Rz_6
  have cq_6_0 := row_cell Rq_6
  have q0 := fz (k := 0) Rz_6
  have q1 := fz (k := 1) Rz_6
  obtain ⟨E0, E1⟩ := set2_cells Rz_6 (.int .u64 (u : Nat)) (.int .u64 (v : Nat))
  go_wp2
  exact bodyPost_ret (v := .agg #[.int .u64 (u : Nat), .int .u64 (v : Nat)]) (by simp [results, Tryz.results74, go_sem, E0, E1]) rfl ⟨rfl, set2_below B6 (by first | exact Nat.le_refl _ | omega | (have := S4.out; have := Lz_4.out; omega)) _ _⟩
end Go.Proofs.YtkmlbjlaahcahaaGreatDoor
namespace Go.Proofs.YtkmlbjlaahcahaaGreatDoor
set_option maxRecDepth 100000
open Go.RowKit WMath
set_option linter.unusedSimpArgs false
set_option linter.unusedVariables false

set_option maxRecDepth 100000 in
set_option maxHeartbeats 2000000 in
theorem kread_yes (f : Int) (s : ByteArray) (m : ByteArray) (neg : Bool) (i j x y : Nat) (w : World)
    (K0 : Box (∀ w, Calls Tryz.prog 45 #[.int .u8 f] w fun r w' => r = .returned (.int .i64 0) ∧ Below w.heap.size w w'))
    (KP : Box (∀ w, Calls Tryz.prog 73 #[.string s, .string ⟨#[45]⟩] w fun r w' => r = .returned (.tuple #[.string m, .bool neg]) ∧ Below w.heap.size w w'))
    (KM : Box (∀ w, FAt w → Atoiable w → Calls Tryz.prog 74 #[.int .u8 f, .string m] w fun r w' => r = .returned (.agg #[.int .u64 (i : Nat), .int .u64 (j : Nat)]) ∧ Below w.heap.size w w'))
    (KS : Box (∀ w, FAt w → Calls Tryz.prog 53 #[.int .u8 f, .agg #[.int .u64 (i : Nat), .int .u64 (j : Nat)], .bool neg] w fun r w' => r = .returned (.agg #[.int .u64 (x : Nat), .int .u64 (y : Nat)]) ∧ Below w.heap.size w w'))
    (KT : Box (∀ w, FAt w → P10 w → Calls Tryz.prog 16 #[.int .u8 f, .agg #[.int .u64 (x : Nat), .int .u64 (y : Nat)]] w fun r w' => r = .returned (.tuple #[.string s, .int .i64 0]) ∧ Below w.heap.size w w'))
    (hT : FAt w) (hP : P10 w) (hA : Atoiable w) : Calls Tryz.prog 18 #[.int .u8 f, .string s] w fun r w' => r = .returned (.tuple #[.agg #[.int .u64 (x : Nat), .int .u64 (y : Nat)], .int .i64 0]) ∧ Below w.heap.size w w' := by
  have hat := cw_at 6
  have hz := cw6z
  have hff := cw6f
  have hs0 := st0
  have hcs : ∀ x, ((cw 6 x).size = 6) = True := fun x => eq_true (cw_size 6 x)
  have FF := box hT
  have PP := box hP
  have AA := box hA
  clear hT hP hA
  obtain ⟨Rz_0, B0⟩ := opn1 w (Obj.cells #[.int .u64 0, .int .u64 0] 25)
  go_enter Tryz.func18, Tryz.ntmps18
  go_wp2_with fail
  refine (K0.out _).mono ?_
  rintro r w1 ⟨rfl, b1⟩
  have B1 : Below w.heap.size w w1 := btr B0 b1
  have Rz_1 := heap_of b1 _ _ _ Rz_0
  clear b1 B0 Rz_0
  obtain ⟨cz_1_0, cz_1_1⟩ := cells2s Rz_1
  go_wp2_with fail
  refine (KP.out _).mono ?_
  rintro r w2 ⟨rfl, b2⟩
  have B2 : Below w.heap.size w w2 := btr B1 b2
  have Rz_2 := heap_of b2 _ _ _ Rz_1
  clear b2 B1 Rz_1 cz_1_0 cz_1_1
  obtain ⟨cz_2_0, cz_2_1⟩ := cells2s Rz_2
  go_wp2_with fail
  refine (KM.out _ (fatB FF.out B2) (atB AA.out B2)).mono ?_
  rintro r w3 ⟨rfl, b3⟩
  have B3 : Below w.heap.size w w3 := btr B2 b3
  have Rz_3 := heap_of b3 _ _ _ Rz_2
  clear b3 B2 Rz_2 cz_2_0 cz_2_1
  obtain ⟨cz_3_0, cz_3_1⟩ := cells2s Rz_3
  go_wp2_with fail
  refine (KS.out _ (fatB FF.out B3)).mono ?_
  rintro r w4 ⟨rfl, b4⟩
  have B4 : Below w.heap.size w w4 := btr B3 b4
  have Rz_4 := heap_of b4 _ _ _ Rz_3
  clear b4 B3 Rz_3 cz_3_0 cz_3_1
  obtain ⟨cz_4_0, cz_4_1⟩ := cells2s Rz_4
  have S5 := box B4.size
  have Lz_5 : Box (w.heap.size < w4.heap.size) := box (Array.getElem?_eq_some_iff.1 Rz_4).1
  have Rb_5 := heap_alloc_last w4 (Obj.cells #[.int .u64 (x : Nat), .int .u64 (y : Nat)] 25)
  have B5 := btr B4 (bal w4 (Obj.cells #[.int .u64 (x : Nat), .int .u64 (y : Nat)] 25))
  have Rz_5 := heap_of (bal w4 (Obj.cells #[.int .u64 (x : Nat), .int .u64 (y : Nat)] 25)) _ _ _ Rz_4
  clear B4 Rz_4 cz_4_0 cz_4_1
  obtain ⟨cz_5_0, cz_5_1⟩ := cells2s Rz_5
  obtain ⟨cb_5_0, cb_5_1⟩ := cells2s Rb_5
  go_wp2_with fail
  refine (KT.out _ (fatB FF.out B5) (p10B PP.out B5)).mono ?_
  rintro r w6 ⟨rfl, b6⟩
  have B6 : Below w.heap.size w w6 := btr B5 b6
  have Rz_6 := heap_of b6 _ _ _ Rz_5
  have Rb_6 := heap_of b6 _ _ _ Rb_5
  clear b6 B5 Rz_5 cz_5_0 cz_5_1 Rb_5 cb_5_0 cb_5_1
  obtain ⟨cz_6_0, cz_6_1⟩ := cells2s Rz_6
  obtain ⟨cb_6_0, cb_6_1⟩ := cells2s Rb_6
  have q0 := fz (k := 0) Rz_6
  have q1 := fz (k := 1) Rz_6
  obtain ⟨E0, E1⟩ := set2_cells Rz_6 (.int .u64 (x : Nat)) (.int .u64 (y : Nat))
  go_wp2
  exact bodyPost_ret (v := .tuple #[.agg #[.int .u64 (x : Nat), .int .u64 (y : Nat)], .int .i64 0]) (by simp [results, Tryz.results18, go_sem, E0, E1]) rfl ⟨rfl, set2_below B6 (by first | exact Nat.le_refl _ | omega | (have := S5.out; have := Lz_5.out; omega)) _ _⟩
end Go.Proofs.YtkmlbjlaahcahaaGreatDoor
namespace Go.Proofs.YtkmlbjlaahcahaaGreatDoor
set_option maxRecDepth 100000
open Go.RowKit WMath
set_option linter.unusedSimpArgs false
set_option linter.unusedVariables false

theorem dg_byte (d : Nat) : dg d ≠ 110 ∧ dg d ≠ 112 ∧ dg d ≠ 45 ∧ dg d ≠ 105 ∧ dg d ≠ 115 := by
  by_cases h : d < 16
  · have key : ∀ d : Fin 16, dg d.val ≠ 110 ∧ dg d.val ≠ 112 ∧ dg d.val ≠ 45 ∧ dg d.val ≠ 105 ∧ dg d.val ≠ 115 := by decide +kernel
    exact key ⟨d, h⟩
  · have : dg d = 0 := by
      unfold dg
      rw [List.getD_eq_getElem?_getD, List.getElem?_eq_none (by show 16 ≤ d; omega)]
      rfl
    rw [this]
    decide
theorem tx_byte (n : Nat) (b : UInt8) (h : b ∈ tx n) : b ≠ 110 ∧ b ≠ 112 ∧ b ≠ 45 ∧ b ≠ 105 ∧ b ≠ 115 := by
  unfold tx hxs at h
  rw [List.mem_map] at h
  obtain ⟨i, _, rfl⟩ := h
  exact dg_byte _
theorem dec_byte (n : Nat) (b : UInt8) (h : b ∈ Lib.decDigits n) : b ≠ 110 ∧ b ≠ 112 ∧ b ≠ 45 ∧ b ≠ 43 := by
  rw [Lib.decDigits] at h
  have key : ∀ d : Fin 10, UInt8.ofNat (48 + d.val) ≠ 110 ∧ UInt8.ofNat (48 + d.val) ≠ 112 ∧ UInt8.ofNat (48 + d.val) ≠ 45 ∧ UInt8.ofNat (48 + d.val) ≠ 43 := by decide +kernel
  split at h
  · rename_i hn
    rw [List.mem_singleton] at h
    subst h
    exact key ⟨n, hn⟩
  · rename_i hn
    rw [List.mem_append, List.mem_singleton] at h
    rcases h with h | h
    · have : n / 10 < n := by omega
      exact dec_byte (n / 10) b h
    · subst h
      exact key ⟨n % 10, by omega⟩
termination_by n
decreasing_by omega
theorem itoa_byte (X : Int) (b : UInt8) (h : b ∈ Lib.itoa X) : b ≠ 110 ∧ b ≠ 112 := by
  unfold Lib.itoa at h
  split at h
  · rw [List.mem_cons] at h
    rcases h with h | h
    · subst h; decide
    · exact ⟨(dec_byte _ b h).1, (dec_byte _ b h).2.1⟩
  · exact ⟨(dec_byte _ b h).1, (dec_byte _ b h).2.1⟩
theorem index_first (c : UInt8) (p b : List UInt8) : ∀ a : List UInt8, c ∉ a → Lib.index (a ++ (c :: p) ++ b) (c :: p) = a.length
  | [], _ => by
    show Lib.index (c :: (p ++ b)) (c :: p) = 0
    rw [Lib.index, if_pos]
    show (c :: p).isPrefixOf (c :: (p ++ b)) = true
    simp
  | x :: a, h => by
    have hx : c ≠ x := fun e => h (by rw [e]; exact List.mem_cons_self ..)
    have ih := index_first c p b a (fun k => h (List.mem_cons_of_mem _ k))
    show Lib.index (x :: (a ++ (c :: p) ++ b)) (c :: p) = _
    rw [Lib.index, if_neg (by
      show ¬ ((c :: p).isPrefixOf (x :: (a ++ (c :: p) ++ b)) = true)
      simp [List.isPrefixOf, hx]), ih, if_neg (by simp)]
    simp
theorem index_none (c : UInt8) (p : List UInt8) : ∀ a : List UInt8, c ∉ a → Lib.index a (c :: p) = -1
  | [], _ => by rw [Lib.index]; simp
  | x :: a, h => by
    have hx : c ≠ x := fun e => h (by rw [e]; exact List.mem_cons_self ..)
    have ih := index_none c p a (fun k => h (List.mem_cons_of_mem _ k))
    rw [Lib.index, if_neg (by simp [List.isPrefixOf, hx]), ih, if_pos (by decide)]
theorem cut_first (c : UInt8) (p a b : List UInt8) (h : c ∉ a) : Lib.cut (a ++ (c :: p) ++ b) (c :: p) = (a, b, true) := by
  have e := index_first c p b a h
  unfold Lib.cut
  rw [e, if_pos (by omega), Int.toNat_natCast]
  congr 1
  · simp
  · congr 1
    rw [List.append_assoc, show a.length + (c :: p).length = (a ++ (c :: p)).length by simp, ← List.append_assoc, List.drop_left]
theorem cut_none (c : UInt8) (p a : List UInt8) (h : c ∉ a) : Lib.cut a (c :: p) = (a, [], false) := by
  unfold Lib.cut
  rw [index_none c p a h, if_neg (by decide)]
theorem digitVal_of (r : Nat) (h : r < 10) : Lib.digitVal (UInt8.ofNat (48 + r)) = some r := by
  have key : ∀ d : Fin 10, Lib.digitVal (UInt8.ofNat (48 + d.val)) = some d.val := by decide +kernel
  exact key ⟨r, h⟩
theorem decFrom_snoc (b : UInt8) (d : Nat) (hb : Lib.digitVal b = some d) : ∀ (l : List UInt8) (acc n : Nat), Lib.decFrom acc l = some n → Lib.decFrom acc (l ++ [b]) = some (n * 10 + d)
  | [], acc, n, h => by
    rw [Lib.decFrom] at h
    injection h with h
    subst h
    show Lib.decFrom acc [b] = _
    rw [Lib.decFrom, hb]
    rfl
  | c :: l, acc, n, h => by
    rw [Lib.decFrom] at h
    show Lib.decFrom acc (c :: (l ++ [b])) = _
    rw [Lib.decFrom]
    cases hc : Lib.digitVal c with
    | none => rw [hc] at h; exact absurd h (by simp)
    | some e =>
      rw [hc] at h
      exact decFrom_snoc b d hb l _ n h
theorem dec_val (u : Nat) : Lib.decFrom 0 (Lib.decDigits u) = some u := by
  rw [Lib.decDigits]
  split
  · rename_i h
    rw [Lib.decFrom, digitVal_of u h]
    show Lib.decFrom (0 * 10 + u) [] = some u
    rw [Lib.decFrom]
    simp
  · rename_i h
    have ih := dec_val (u / 10)
    rw [decFrom_snoc _ (u % 10) (digitVal_of _ (by omega)) _ _ _ ih]
    congr 1
    omega
termination_by u
decreasing_by omega
theorem dec_ne (u : Nat) : Lib.decDigits u ≠ [] := by
  intro h
  have := Lib.decDigits_length u
  rw [h, Lib.nDigits] at this
  split at this <;> simp at this
theorem decNat_dec (u : Nat) : Lib.decNat (Lib.decDigits u) = some u := by
  unfold Lib.decNat
  rw [if_neg (by rw [List.isEmpty_iff]; exact dec_ne u), dec_val]
theorem atoi_itoa (X : Int) : Lib.atoi (Lib.itoa X) = some X := by
  by_cases h : X < 0
  · have e : Lib.itoa X = 45 :: Lib.decDigits X.natAbs := by unfold Lib.itoa; rw [if_pos h]
    rw [e, Lib.atoi, if_pos (by decide), decNat_dec]
    show some (-(X.natAbs : Int)) = some X
    congr 1
    omega
  · have e : Lib.itoa X = Lib.decDigits X.toNat := by unfold Lib.itoa; rw [if_neg h]
    rw [e]
    have hb := fun b hb => dec_byte X.toNat b hb
    have hv := decNat_dec X.toNat
    cases hl : Lib.decDigits X.toNat with
    | nil => exact absurd hl (dec_ne _)
    | cons b r =>
      rw [hl] at hb hv
      obtain ⟨_, _, h45, h43⟩ := hb b (List.mem_cons_self ..)
      rw [Lib.atoi, if_neg (by simpa using h45), if_neg (by simpa using h43), hv]
      show some ((X.toNat : Nat) : Int) = some X
      congr 1
      omega
theorem atoiAll_itoa (X : Int) (hl : (Lib.itoa X).length ≤ 18) : Lib.atoiAll (Lib.itoa X) = .ok X := by
  rw [Lib.atoiAll_short _ hl, atoi_itoa]
  rfl
theorem itoa_18 (e : Int) (h0 : -20000 ≤ e) (h1 : e ≤ 20000) : (Lib.itoa e).length ≤ 18 := by
  by_cases hn : 0 ≤ e
  · obtain ⟨n, rfl⟩ := Int.eq_ofNat_of_zero_le hn
    rw [Lib.itoa_nonneg, Lib.decDigits_length]
    have := dec_le 10 n (by decide) (by omega)
    omega
  · obtain ⟨n, rfl⟩ : ∃ n : Nat, e = -(n : Int) := ⟨e.natAbs, by omega⟩
    rw [Lib.itoa_neg n (by omega), List.length_cons, Lib.decDigits_length]
    have := dec_le 10 n (by decide) (by omega)
    omega
/-- The sign is cut off. -/
theorem m_head (c s : Nat) (X : Int) (r : Nat) : Lib.hasPrefix (mTx c s X r) [45] = false := by
  have ht : ∀ (n : Nat) (t : List UInt8), Lib.hasPrefix (tx n ++ t) [45] = false := fun n t => by
    have hb := fun b hb => tx_byte n b hb
    cases hl : tx n with
    | nil => exact absurd hl (tx_ne n)
    | cons b l =>
      rw [hl] at hb
      have := (hb b (List.mem_cons_self ..)).2.2.1
      unfold Lib.hasPrefix
      show List.isPrefixOf [45] (b :: (l ++ t)) = false
      simp [List.isPrefixOf, Ne.symm this]
  unfold mTx
  (repeat' split) <;> first | (rw [List.append_assoc]; exact ht _ _) | rfl
theorem cut_sign (neg : Bool) (l : List UInt8) (h : Lib.hasPrefix l [45] = false) : Lib.trimPrefix (sTx neg l) [45] = l ∧ Lib.hasPrefix (sTx neg l) [45] = neg := by
  unfold sTx
  cases neg
  · exact ⟨by unfold Lib.trimPrefix; rw [if_neg Bool.false_ne_true, if_neg (by rw [h]; decide)], by rw [if_neg Bool.false_ne_true]; exact h⟩
  · have : Lib.hasPrefix (45 :: l) [45] = true := by unfold Lib.hasPrefix; simp [List.isPrefixOf]
    rw [if_pos rfl]
    exact ⟨by unfold Lib.trimPrefix; rw [if_pos this]; rfl, this⟩
theorem sig_back {f : Int} (hf : Is4 f) {n : Nat} (hn : Fit f n) : sgB f (mg f (kC f n) (kS f n) (kX f n) (kF f n)) (kN f n) = n := by
  have h := gP_kp hf (kN f n) (kE f n) (kT f n) (kE_le n) (kT_lt n)
  rw [k_enc hf hn] at h
  unfold gP kp at h
  simp only [] at h
  have hC := kC_cases hf (kN f n) (kE f n) (kT f n) (kE_le n) (kT_lt n)
  rw [k_enc hf hn] at hC
  by_cases h8 : 8 ≤ kC f n
  · rw [if_pos h8, decide_eq_false (by omega)] at h
    unfold sgB at h
    rw [if_neg Bool.false_ne_true] at h
    rw [h]
    unfold sgB
    cases hb : kN f n
    · rw [if_neg Bool.false_ne_true, ← hb, k_enc hf hn]
    · rw [if_pos rfl, flip_enc hf false (kE_le n) (kT_lt n)]
      show enc7 f true _ _ = n
      rw [← hb, k_enc hf hn]
  · rw [if_neg h8] at h
    have hd : decide (kC f n ≤ 3) = kN f n := by
      rw [hC] at h8 ⊢
      cases kN f n <;> (repeat' split) <;> simp_all
    rw [hd] at h
    exact h
end Go.Proofs.YtkmlbjlaahcahaaGreatDoor
namespace Go.Proofs.YtkmlbjlaahcahaaGreatDoor
set_option maxRecDepth 100000
open Go.RowKit WMath
set_option linter.unusedSimpArgs false
set_option linter.unusedVariables false

theorem t_cut (s p l0 l1 : List UInt8) (o : Bool) (hs : s.length < 4294967281) (h : Lib.cut s p = (l0, l1, o)) (w : World) (hA : Atoiable w) : Calls Tryz.prog 136 #[.string ⟨s.toArray⟩, .string ⟨p.toArray⟩] w fun r w' => r = .returned (.tuple #[.string ⟨l0.toArray⟩, .string ⟨l1.toArray⟩, .bool o]) ∧ Below w.heap.size w w' := by
  obtain ⟨_, _, m, hm⟩ := hA
  have k := Any.strings_Cut Tryz.laysCut ⟨s.toArray⟩ ⟨p.toArray⟩ m w hs hm
  refine k.mono ?_
  rintro r w' ⟨rfl, n, rfl⟩
  refine ⟨?_, below_drewN (Below.refl _ _) n⟩
  show Ending.returned (.tuple #[.string ⟨(Lib.cut s p).1.toArray⟩, .string ⟨(Lib.cut s p).2.1.toArray⟩, .bool (Lib.cut s p).2.2]) = _
  rw [h]
theorem t_cutPrefix (s p l : List UInt8) (o : Bool) (h1 : Lib.trimPrefix s p = l) (h2 : Lib.hasPrefix s p = o) (w : World) : Calls Tryz.prog 73 #[.string ⟨s.toArray⟩, .string ⟨p.toArray⟩] w fun r w' => r = .returned (.tuple #[.string ⟨l.toArray⟩, .bool o]) ∧ Below w.heap.size w w' := by
  have k := Any.strings_CutPrefix Tryz.laysCutPrefix ⟨s.toArray⟩ ⟨p.toArray⟩ w
  refine k.mono ?_
  rintro r w' ⟨rfl, rfl⟩
  refine ⟨?_, Below.refl _ _⟩
  show Ending.returned (.tuple #[.string ⟨(Lib.trimPrefix s p).toArray⟩, .bool (Lib.hasPrefix s p)]) = _
  rw [h1, h2]



theorem t_atoi (s : List UInt8) (hl : s.length ≤ 281474976710656) : ∃ X : Int, (-9223372036854775808 ≤ X ∧ X ≤ 9223372036854775807) ∧ (∀ v, Lib.atoiAll s = .ok v → X = v) ∧ ∀ w, Atoiable w → Calls Tryz.prog 139 #[.string ⟨s.toArray⟩] w fun r w' => ∃ ev, r = .returned (.tuple #[.int .i64 X, ev]) ∧ Below w.heap.size w w' := by
  cases h : Lib.atoiAll s with
  | ok v =>
    refine ⟨v, Lib.atoiAll_bounds h, fun u hu => by injection hu, fun w hA => ?_⟩
    refine (Any.strconv_Atoi_ok Tryz.laysAtoi ⟨s.toArray⟩ (by show s.length ≤ 9223372036854775806; omega) v h w).mono ?_
    rintro r w' ⟨rfl, hw⟩
    refine ⟨_, rfl, ?_⟩
    rcases hw with rfl | ⟨t, rfl⟩
    · exact Below.refl _ _
    · exact Lib.bytesWorld_below _ _ _
  | «syntax» =>
    refine ⟨0, by omega, fun u hu => by injection hu, fun w hA => ?_⟩
    obtain ⟨⟨t, p, h1⟩, _⟩ := hA
    refine (Any.strconv_Atoi_syntax_var Tryz.laysAtoi ⟨s.toArray⟩ hl h t p w h1).mono ?_
    rintro r w' ⟨N, rfl, _, _, b⟩
    exact ⟨_, rfl, b⟩
  | range =>
    refine ⟨Lib.atoiSat s, by unfold Lib.atoiSat; split <;> omega, fun u hu => by injection hu, fun w hA => ?_⟩
    obtain ⟨_, ⟨t, p, h1⟩, _⟩ := hA
    refine (Any.strconv_Atoi_range_var Tryz.laysAtoi ⟨s.toArray⟩ hl h t p w h1).mono ?_
    rintro r w' ⟨N, rfl, _, _, b⟩
    exact ⟨_, rfl, b⟩
theorem ne_lit (l k : List UInt8) (h : l ≠ k) : ((⟨l.toArray⟩ : ByteArray).toList == k) = false := by
  rw [beq_eq_false_iff_ne, ByteArray.toList_eq]
  exact h
theorem rd_tx (n : Nat) (hn : n < Q) : rd (tx n) = (n, 0) := rd_good _ n (tx_len n hn) (vals_tx n) rfl
end Go.Proofs.YtkmlbjlaahcahaaGreatDoor
namespace Go.Proofs.YtkmlbjlaahcahaaGreatDoor
set_option maxRecDepth 100000
open Go.RowKit WMath
set_option linter.unusedSimpArgs false
set_option linter.unusedVariables false

theorem kF_lim {f : Int} (hf : Is4 f) (n : Nat) : kF f n < 340282366920938463463374607431768211456 := by
  obtain ⟨g1, g2, g3, g4, g5, g6, g7⟩ := fm hf
  have tl := kT_lt (f := f) n
  unfold kF
  rw [g1, Nat.add_mul] at g7
  split <;> omega
theorem mg_lim {f : Int} (hf : Is4 f) (c s : Nat) (X : Int) (r : Nat) : mg f c s X r < 340282366920938463463374607431768211456 := by
  unfold mg fb eb
  (repeat' split) <;> first | decide | exact Nat.mod_lt _ (by decide)
set_option maxHeartbeats 1000000 in
theorem kMR_back (f : Int) (hf : Is4 f) (n i j : Nat) (hv : bv7 (mg f (kC f n) (kS f n) (kX f n) (kF f n)) = (i, j)) (w : World) (hT : FAt w) (hA : Atoiable w) : Calls Tryz.prog 74 #[.int .u8 f, .string ⟨(mTx (kC f n) (kS f n) (kX f n) (kF f n)).toArray⟩] w fun r w' => r = .returned (.agg #[.int .u64 (i : Nat), .int .u64 (j : Nat)]) ∧ Below w.heap.size w w' := by
  obtain ⟨s1, s2, s3⟩ := kS_lim hf n
  have r1 := kF_lim hf n
  obtain ⟨_, l1, l2, l3⟩ := mTx_len f hf n
  have z0 : (kC f n = 0 ∨ kC f n = 7) → kF f n = 0 := fun h => by unfold kF; rw [if_neg (by omega)]
  have cl := kC_lt f n
  generalize kS f n = s at *
  generalize kX f n = X at *
  generalize kF f n = r at *
  generalize kC f n = c at *
  unfold mTx
  unfold mg at hv
  by_cases c9 : c = 9
  · subst c9
    rw [if_pos rfl]
    rw [if_neg (by omega), if_neg (by omega)] at hv
    refine kmr_nan f _ ⟨([] : List UInt8).toArray⟩ ⟨(tx r).toArray⟩ r i j 0 w (ne_lit _ _ (by simp)) (ne_lit _ _ (by simp)) (box (fun w hA => t_cut _ [110, 97, 110, 58] [] (tx r) true (by rw [List.length_append]; show 4 + _ < _; omega) ?_ w hA)) (box (fun w => wread_is _ (tx r) r 0 (by rw [size_l]; omega) rfl (rd_tx r (lt_Q7 r1)) w)) (box (fun w hT => kendless_is f hf r i j (lt_Q7 r1) hv w hT)) hA hT
    have := cut_first 110 [97, 110, 58] [] (tx r) (by simp)
    simpa using this
  rw [if_neg c9]
  by_cases c8 : c = 8
  · subst c8
    rw [if_pos rfl]
    rw [if_neg (by omega), if_neg (by omega)] at hv
    refine kmr_nan f _ ⟨([115] : List UInt8).toArray⟩ ⟨(tx r).toArray⟩ r i j 0 w (ne_lit _ _ (by simp)) (ne_lit _ _ (by simp)) (box (fun w hA => t_cut _ [110, 97, 110, 58] [115] (tx r) true (by rw [List.length_append]; show 5 + _ < _; omega) ?_ w hA)) (box (fun w => wread_is _ (tx r) r 0 (by rw [size_l]; omega) rfl (rd_tx r (lt_Q7 r1)) w)) (box (fun w hT => kendless_is f hf r i j (lt_Q7 r1) hv w hT)) hA hT
    have := cut_first 110 [97, 110, 58] [115] (tx r) (by decide)
    simpa using this
  rw [if_neg c8]
  by_cases c0 : c = 0 ∨ c = 7
  · rw [if_pos c0]
    rw [if_neg (by omega), if_neg (by omega), z0 c0] at hv
    refine kmr_inf f i j w (box (fun w hT => sk_inf f false hf i j ?_ w hT)) hT
    rw [← hv]
    congr 1
    rw [eb_is hf 0 (Nat.two_pow_pos _)]
    unfold eInf enc7
    simp
  rw [if_neg c0]
  by_cases c3 : c = 3 ∨ c = 4
  · rw [if_pos c3]
    rw [if_pos c3] at hv
    injection hv with q1 q2
    subst q1 q2
    exact kmr_zero f w hT
  rw [if_neg c3]
  rw [if_neg c3, if_pos (by omega)] at hv
  have ht : tx s ≠ [] := tx_ne s
  have hn1 : (110 : UInt8) ∉ tx s ++ [112] ++ Lib.itoa X := by
    intro h
    rw [List.mem_append, List.mem_append, List.mem_singleton] at h
    rcases h with (h | h) | h
    · exact (tx_byte s _ h).1 rfl
    · exact absurd h (by decide)
    · exact (itoa_byte X _ h).1 rfl
  have hn2 : (112 : UInt8) ∉ tx s := fun h => (tx_byte s _ h).2.1 rfl
  have q1 : tx s ++ [112] ++ Lib.itoa X ≠ [48] := by
    intro h
    have : (112 : UInt8) ∈ [48] := by rw [← h]; simp
    exact absurd this (by decide)
  have q2 : tx s ++ [112] ++ Lib.itoa X ≠ [105, 110, 102] := by
    intro h
    have : (112 : UInt8) ∈ [105, 110, 102] := by rw [← h]; simp
    exact absurd this (by decide)
  have ll : (tx s ++ [112] ++ Lib.itoa X).length < 4294967281 := by rw [List.length_append, List.length_append]; show _ + 1 + _ < _; omega
  obtain ⟨X', _, hX, KA⟩ := t_atoi (Lib.itoa X) (by omega)
  have hXX := hX X (atoiAll_itoa X (itoa_18 X s2 s3))
  subst hXX
  exact kmr_num f _ _ _ ⟨(tx s).toArray⟩ ⟨(Lib.itoa X').toArray⟩ true s i j 0 X' w (ne_lit _ _ q1) (ne_lit _ _ q2) (box (fun w hA => t_cut _ [110, 97, 110, 58] _ _ false ll (cut_none 110 _ _ hn1) w hA)) (box (fun w hA => t_cut _ [112] (tx s) (Lib.itoa X') true ll (cut_first 112 [] (tx s) (Lib.itoa X') hn2) w hA)) (box (fun w => wread_is _ (tx s) s 0 (by rw [size_l]; omega) rfl (rd_tx s (lt_Q7 s1)) w)) (box KA) (box (fun w hT => kfinite_is f hf s i j X' (lt_Q7 s1) (by omega) (by omega) hv w hT)) hA hT
theorem kRead_back (f : Int) (hf : Is4 f) (x y n : Nat) (v : ByteArray) (hx : x < 18446744073709551616) (hy : y < 18446744073709551616) (hn : y + 18446744073709551616 * x = n) (ho : okB f n = true) (hv : (⟨(kTx f n).toArray⟩ : ByteArray) = v) (w : World) (hT : FAt w) (hP : P10 w) (hA : Atoiable w) : Calls Tryz.prog 18 #[.int .u8 f, .string v] w fun r w' => r = .returned (.tuple #[.agg #[.int .u64 (x : Nat), .int .u64 (y : Nat)], .int .i64 0]) ∧ Below w.heap.size w w' := by
  have f4 := is4_ok hf
  have fit := (okB_yes f4.1 ho).2
  obtain ⟨c1, c2⟩ := cut_sign (kN f n) _ (m_head (kC f n) (kS f n) (kX f n) (kF f n))
  obtain ⟨i, j, hij⟩ : ∃ i j, bv7 (mg f (kC f n) (kS f n) (kX f n) (kF f n)) = (i, j) := ⟨_, _, rfl⟩
  obtain ⟨i1, j1, ij⟩ := bv_lt (mg_lim hf _ _ _ _) hij
  have bn : bv7 n = (x, y) := by
    unfold bv7
    rw [← hn]
    congr 1 <;> omega
  have KT := fun w hT hP => kText_is f hf x y n v hx hy hn ho hv w hT hP
  refine kread_yes f v ⟨(mTx (kC f n) (kS f n) (kX f n) (kF f n)).toArray⟩ (kN f n) i j x y w (box (fun w => bel_same (s_check_is f 0 f4.1 f4.2.1 (fC_yes hf) w))) (box (fun w => ?_)) (box (fun w hT hA => kMR_back f hf n i j hij w hT hA)) (box (fun w hT => ksigned_is f hf i j _ x y (kN f n) i1 j1 ij (by rw [sig_back hf fit]; exact bn) w hT)) (box KT) hT hP hA
  rw [← hv]
  exact t_cutPrefix (kTx f n) [45] _ _ c1 c2 w
end Go.Proofs.YtkmlbjlaahcahaaGreatDoor
