/-
  What the functions that the statement reaches return: part 18 (TI).
-/
import Derived.Deep.RegionHeld3
import Derived.Test.YtkmlbjlaahcahaaGreatDoorBa17
namespace Go.Proofs.YtkmlbjlaahcahaaGreatDoor
set_option maxRecDepth 100000
open Go.RowKit WMath XMath
set_option linter.unusedSimpArgs false
set_option linter.unusedVariables false

set_option maxRecDepth 100000 in
set_option maxHeartbeats 8000000 in
theorem back_r0 (f : Int) (x y : Nat) (w : World)
    (KU : Box (∀ w, FAt w → Calls Tryz.prog 20 #[.int .u8 f, .agg #[.int .u64 (x : Nat), .int .u64 (y : Nat)]] w fun r w' => r = .returned (.tuple #[.agg (pt 0 0 0 0), .int .i64 2]) ∧ Below w.heap.size w w'))
    (K3 : Box (∀ w, Calls Tryz.prog 9 #[.int .u8 f, .agg #[.int .u64 (x : Nat), .int .u64 (y : Nat)]] w fun r w' => r = .returned (.bool false) ∧ Below w.heap.size w w'))
    (hT : FAt w) (hT2 : TabAt w) (hP : P10 w) (hA : Atoiable w) : Calls Tryz.prog 5 #[.int .u8 f, .agg #[.int .u64 (x : Nat), .int .u64 (y : Nat)]] w fun r w' => r = .returned (.bool true) ∧ Below w.heap.size w w' := by
  have FF := box hT
  have TT := box hT2
  have PP := box hP
  have AA := box hA
  have KA := box kalive
  clear hT hT2 hP hA
  have hat := cw_at 6
  have hz := cw6z
  have hff := cw6f
  have hs0 := st0
  have hcs : ∀ x, ((cw 6 x).size = 6) = True := fun x => eq_true (cw_size 6 x)
  have hp1 := ptf
  have hp3 := ptz
  have hp4 := st_p0
  have hp5 : ∀ (c s : Nat) (x : Int) (r : Nat), ((pt c s x r).size = 14) = True := fun _ _ _ _ => eq_true rfl
  obtain ⟨Rb_0, B0⟩ := opn1 w (Obj.cells #[.int .u64 (x : Nat), .int .u64 (y : Nat)] 25)
  go_enter Tryz.func5, Tryz.ntmps5
  go_wp2_with fail
  refine (KU.out _ (fatB FF.out B0)).mono ?_
  rintro r w1 ⟨rfl, b1⟩
  have B1 : Below w.heap.size w w1 := btr B0 b1
  have Rb_1 := heap_of b1 _ _ _ Rb_0
  clear b1 B0 Rb_0
  obtain ⟨cb_1_0, cb_1_1⟩ := cells2s Rb_1
  have S2 := box B1.size
  have Lb_2 : Box (w.heap.size < w1.heap.size) := box (Array.getElem?_eq_some_iff.1 Rb_1).1
  have Rp_2 := heap_alloc_last w1 (Obj.cells (pt 0 0 0 0) 55)
  have B2 := btr B1 (bal w1 (Obj.cells (pt 0 0 0 0) 55))
  have Rb_2 := heap_of (bal w1 (Obj.cells (pt 0 0 0 0) 55)) _ _ _ Rb_1
  clear B1 Rb_1 cb_1_0 cb_1_1
  obtain ⟨cb_2_0, cb_2_1⟩ := cells2s Rb_2
  obtain ⟨cp_2_0, cp_2_1, cp_2_2, cp_2_3, cp_2_4, cp_2_5, cp_2_6, cp_2_7, cp_2_8, cp_2_9, cp_2_10, cp_2_11, cp_2_12, cp_2_13⟩ := pt_cells Rp_2
  go_wp2_with fail
  refine (K3.out _).mono ?_
  rintro r w3 ⟨rfl, b3⟩
  have B3 : Below w.heap.size w w3 := btr B2 b3
  have Rb_3 := heap_of b3 _ _ _ Rb_2
  have Rp_3 := heap_of b3 _ _ _ Rp_2
  clear b3 B2 Rb_2 cb_2_0 cb_2_1 Rp_2 cp_2_0 cp_2_1 cp_2_2 cp_2_3 cp_2_4 cp_2_5 cp_2_6 cp_2_7 cp_2_8 cp_2_9 cp_2_10 cp_2_11 cp_2_12 cp_2_13
  obtain ⟨cb_3_0, cb_3_1⟩ := cells2s Rb_3
  obtain ⟨cp_3_0, cp_3_1, cp_3_2, cp_3_3, cp_3_4, cp_3_5, cp_3_6, cp_3_7, cp_3_8, cp_3_9, cp_3_10, cp_3_11, cp_3_12, cp_3_13⟩ := pt_cells Rp_3
  go_wp2_with fail
  refine (KA.out _ (fatB FF.out B3)).mono ?_
  rintro r w4 ⟨rfl, b4⟩
  have B4 : Below w.heap.size w w4 := btr B3 b4
  have Rb_4 := heap_of b4 _ _ _ Rb_3
  have Rp_4 := heap_of b4 _ _ _ Rp_3
  clear b4 B3 Rb_3 cb_3_0 cb_3_1 Rp_3 cp_3_0 cp_3_1 cp_3_2 cp_3_3 cp_3_4 cp_3_5 cp_3_6 cp_3_7 cp_3_8 cp_3_9 cp_3_10 cp_3_11 cp_3_12 cp_3_13
  obtain ⟨cb_4_0, cb_4_1⟩ := cells2s Rb_4
  obtain ⟨cp_4_0, cp_4_1, cp_4_2, cp_4_3, cp_4_4, cp_4_5, cp_4_6, cp_4_7, cp_4_8, cp_4_9, cp_4_10, cp_4_11, cp_4_12, cp_4_13⟩ := pt_cells Rp_4
  go_wp2
  go_ret
  exact ⟨rfl, B4⟩
set_option maxRecDepth 100000 in
set_option maxHeartbeats 8000000 in
theorem back_r1 (f : Int) (x y : Nat) (c s rr : Nat) (X : Int) (t : ByteArray) (p q : Nat) (b1 : Bool) (s1 t1 : ByteArray) (e1 : Int) (w : World)
    (KU : Box (∀ w, FAt w → Calls Tryz.prog 20 #[.int .u8 f, .agg #[.int .u64 (x : Nat), .int .u64 (y : Nat)]] w fun r w' => r = .returned (.tuple #[.agg (pt c s X rr), .int .i64 0]) ∧ Below w.heap.size w w'))
    (KQ : Box (∀ w, FAt w → Calls Tryz.prog 21 #[.int .u8 f, .agg (pt c s X rr)] w fun r w' => r = .returned (.tuple #[.agg #[.int .u64 (x : Nat), .int .u64 (y : Nat)], .int .i64 0]) ∧ Below w.heap.size w w'))
    (KT : Box (∀ w, FAt w → P10 w → Calls Tryz.prog 16 #[.int .u8 f, .agg #[.int .u64 (x : Nat), .int .u64 (y : Nat)]] w fun r w' => r = .returned (.tuple #[.string t, .int .i64 0]) ∧ Below w.heap.size w w'))
    (KR : Box (∀ w, FAt w → P10 w → Atoiable w → Calls Tryz.prog 18 #[.int .u8 f, .string t] w fun r w' => r = .returned (.tuple #[.agg #[.int .u64 (x : Nat), .int .u64 (y : Nat)], .int .i64 0]) ∧ Below w.heap.size w w'))
    (KF : Box (∀ w, FAt w → Calls Tryz.prog 22 #[.int .u8 f, .agg #[.int .u64 (x : Nat), .int .u64 (y : Nat)]] w fun r w' => r = .returned (.agg #[.int .u64 (p : Nat), .int .u64 (q : Nat)]) ∧ Below w.heap.size w w'))
    (KG : Box (∀ w, FAt w → Calls Tryz.prog 22 #[.int .u8 f, .agg #[.int .u64 (p : Nat), .int .u64 (q : Nat)]] w fun r w' => r = .returned (.agg #[.int .u64 (x : Nat), .int .u64 (y : Nat)]) ∧ Below w.heap.size w w'))
    (KV : Box (∀ w, FAt w → TabAt w → Calls Tryz.prog 8 #[.int .u8 f, .agg #[.int .u64 (x : Nat), .int .u64 (y : Nat)]] w fun r w' => r = .returned (.tuple #[.agg #[.bool b1, .string s1, .string t1, .int .i64 e1], .int .i64 80]) ∧ Below w.heap.size w w'))
    (n8 : decide ((8 : Int) ≤ (c : Int)) = true)
    (hT : FAt w) (hT2 : TabAt w) (hP : P10 w) (hA : Atoiable w) : Calls Tryz.prog 5 #[.int .u8 f, .agg #[.int .u64 (x : Nat), .int .u64 (y : Nat)]] w fun r w' => r = .returned (.bool true) ∧ Below w.heap.size w w' := by
  have FF := box hT
  have TT := box hT2
  have PP := box hP
  have AA := box hA
  have KA := box kalive
  clear hT hT2 hP hA
  have hat := cw_at 6
  have hz := cw6z
  have hff := cw6f
  have hs0 := st0
  have hcs : ∀ x, ((cw 6 x).size = 6) = True := fun x => eq_true (cw_size 6 x)
  have hp1 := ptf
  have hp3 := ptz
  have hp4 := st_p0
  have hp5 : ∀ (c s : Nat) (x : Int) (r : Nat), ((pt c s x r).size = 14) = True := fun _ _ _ _ => eq_true rfl
  obtain ⟨Rb_0, B0⟩ := opn1 w (Obj.cells #[.int .u64 (x : Nat), .int .u64 (y : Nat)] 25)
  go_enter Tryz.func5, Tryz.ntmps5
  go_wp2_with fail
  refine (KU.out _ (fatB FF.out B0)).mono ?_
  rintro r w1 ⟨rfl, b1⟩
  have B1 : Below w.heap.size w w1 := btr B0 b1
  have Rb_1 := heap_of b1 _ _ _ Rb_0
  clear b1 B0 Rb_0
  obtain ⟨cb_1_0, cb_1_1⟩ := cells2s Rb_1
  have S2 := box B1.size
  have Lb_2 : Box (w.heap.size < w1.heap.size) := box (Array.getElem?_eq_some_iff.1 Rb_1).1
  have Rp_2 := heap_alloc_last w1 (Obj.cells (pt c s X rr) 55)
  have B2 := btr B1 (bal w1 (Obj.cells (pt c s X rr) 55))
  have Rb_2 := heap_of (bal w1 (Obj.cells (pt c s X rr) 55)) _ _ _ Rb_1
  clear B1 Rb_1 cb_1_0 cb_1_1
  obtain ⟨cb_2_0, cb_2_1⟩ := cells2s Rb_2
  obtain ⟨cp_2_0, cp_2_1, cp_2_2, cp_2_3, cp_2_4, cp_2_5, cp_2_6, cp_2_7, cp_2_8, cp_2_9, cp_2_10, cp_2_11, cp_2_12, cp_2_13⟩ := pt_cells Rp_2
  go_wp2_with fail
  refine (KQ.out _ (fatB FF.out B2)).mono ?_
  rintro r w3 ⟨rfl, b3⟩
  have B3 : Below w.heap.size w w3 := btr B2 b3
  have Rb_3 := heap_of b3 _ _ _ Rb_2
  have Rp_3 := heap_of b3 _ _ _ Rp_2
  clear b3 B2 Rb_2 cb_2_0 cb_2_1 Rp_2 cp_2_0 cp_2_1 cp_2_2 cp_2_3 cp_2_4 cp_2_5 cp_2_6 cp_2_7 cp_2_8 cp_2_9 cp_2_10 cp_2_11 cp_2_12 cp_2_13
  obtain ⟨cb_3_0, cb_3_1⟩ := cells2s Rb_3
  obtain ⟨cp_3_0, cp_3_1, cp_3_2, cp_3_3, cp_3_4, cp_3_5, cp_3_6, cp_3_7, cp_3_8, cp_3_9, cp_3_10, cp_3_11, cp_3_12, cp_3_13⟩ := pt_cells Rp_3
  have S4 := box B3.size
  have Lb_4 : Box (w.heap.size < w3.heap.size) := box (Array.getElem?_eq_some_iff.1 Rb_3).1
  have Lp_4 : Box (w1.heap.size < w3.heap.size) := box (Array.getElem?_eq_some_iff.1 Rp_3).1
  have Rc_4 := heap_alloc_last w3 (Obj.cells #[.int .u64 (x : Nat), .int .u64 (y : Nat)] 25)
  have B4 := btr B3 (bal w3 (Obj.cells #[.int .u64 (x : Nat), .int .u64 (y : Nat)] 25))
  have Rb_4 := heap_of (bal w3 (Obj.cells #[.int .u64 (x : Nat), .int .u64 (y : Nat)] 25)) _ _ _ Rb_3
  have Rp_4 := heap_of (bal w3 (Obj.cells #[.int .u64 (x : Nat), .int .u64 (y : Nat)] 25)) _ _ _ Rp_3
  clear B3 Rb_3 cb_3_0 cb_3_1 Rp_3 cp_3_0 cp_3_1 cp_3_2 cp_3_3 cp_3_4 cp_3_5 cp_3_6 cp_3_7 cp_3_8 cp_3_9 cp_3_10 cp_3_11 cp_3_12 cp_3_13
  obtain ⟨cb_4_0, cb_4_1⟩ := cells2s Rb_4
  obtain ⟨cp_4_0, cp_4_1, cp_4_2, cp_4_3, cp_4_4, cp_4_5, cp_4_6, cp_4_7, cp_4_8, cp_4_9, cp_4_10, cp_4_11, cp_4_12, cp_4_13⟩ := pt_cells Rp_4
  obtain ⟨cc_4_0, cc_4_1⟩ := cells2s Rc_4
  go_wp2_with fail
  obtain ⟨F, hF1, hF2⟩ := below_fun (w3.alloc (Obj.cells #[.int .u64 (x : Nat), .int .u64 (y : Nat)] 25))
  have fb_0 := fun u => cells4 (heap_of (hF1 u) _ _ _ Rb_4) 0 _ rfl
  have fb_1 := fun u => cells4 (heap_of (hF1 u) _ _ _ Rb_4) 1 _ rfl
  have fp_0 := fun u => (pt_cells (heap_of (hF1 u) _ _ _ Rp_4)).1
  have fp_1 := fun u => (pt_cells (heap_of (hF1 u) _ _ _ Rp_4)).2.1
  have fp_2 := fun u => (pt_cells (heap_of (hF1 u) _ _ _ Rp_4)).2.2.1
  have fp_3 := fun u => (pt_cells (heap_of (hF1 u) _ _ _ Rp_4)).2.2.2.1
  have fp_4 := fun u => (pt_cells (heap_of (hF1 u) _ _ _ Rp_4)).2.2.2.2.1
  have fp_5 := fun u => (pt_cells (heap_of (hF1 u) _ _ _ Rp_4)).2.2.2.2.2.1
  have fp_6 := fun u => (pt_cells (heap_of (hF1 u) _ _ _ Rp_4)).2.2.2.2.2.2.1
  have fp_7 := fun u => (pt_cells (heap_of (hF1 u) _ _ _ Rp_4)).2.2.2.2.2.2.2.1
  have fp_8 := fun u => (pt_cells (heap_of (hF1 u) _ _ _ Rp_4)).2.2.2.2.2.2.2.2.1
  have fp_9 := fun u => (pt_cells (heap_of (hF1 u) _ _ _ Rp_4)).2.2.2.2.2.2.2.2.2.1
  have fp_10 := fun u => (pt_cells (heap_of (hF1 u) _ _ _ Rp_4)).2.2.2.2.2.2.2.2.2.2.1
  have fp_11 := fun u => (pt_cells (heap_of (hF1 u) _ _ _ Rp_4)).2.2.2.2.2.2.2.2.2.2.2.1
  have fp_12 := fun u => (pt_cells (heap_of (hF1 u) _ _ _ Rp_4)).2.2.2.2.2.2.2.2.2.2.2.2.1
  have fp_13 := fun u => (pt_cells (heap_of (hF1 u) _ _ _ Rp_4)).2.2.2.2.2.2.2.2.2.2.2.2.2
  have fc_0 := fun u => cells4 (heap_of (hF1 u) _ _ _ Rc_4) 0 _ rfl
  have fc_1 := fun u => cells4 (heap_of (hF1 u) _ _ _ Rc_4) 1 _ rfl
  refine wp_region_below F hF2 (by kernel_rfl) (by kernel_rfl) ?_
  repeat first | go_big_quiet_step (first  | fail) | quiet_step (first  | fail)
  refine wpQuiet_nil ?_
  rintro _ ⟨uW, rfl⟩
  have B5 := btr B4 (hF1 uW)
  have Rb_5 := heap_of (hF1 uW) _ _ _ Rb_4
  have Rp_5 := heap_of (hF1 uW) _ _ _ Rp_4
  have Rc_5 := heap_of (hF1 uW) _ _ _ Rc_4
  obtain ⟨w5, hw⟩ : ∃ V, F uW = V := ⟨_, rfl⟩
  rw [hw] at B5 Rb_5 Rp_5 Rc_5
  try rw [hw]
  clear hw hF1 hF2 B4 fb_0 fb_1 fp_0 fp_1 fp_2 fp_3 fp_4 fp_5 fp_6 fp_7 fp_8 fp_9 fp_10 fp_11 fp_12 fp_13 fc_0 fc_1 Rb_4 cb_4_0 cb_4_1 Rp_4 cp_4_0 cp_4_1 cp_4_2 cp_4_3 cp_4_4 cp_4_5 cp_4_6 cp_4_7 cp_4_8 cp_4_9 cp_4_10 cp_4_11 cp_4_12 cp_4_13 Rc_4 cc_4_0 cc_4_1
  clear F
  obtain ⟨cb_5_0, cb_5_1⟩ := cells2s Rb_5
  obtain ⟨cp_5_0, cp_5_1, cp_5_2, cp_5_3, cp_5_4, cp_5_5, cp_5_6, cp_5_7, cp_5_8, cp_5_9, cp_5_10, cp_5_11, cp_5_12, cp_5_13⟩ := pt_cells Rp_5
  obtain ⟨cc_5_0, cc_5_1⟩ := cells2s Rc_5
  go_wp2_with fail
  refine (KT.out _ (fatB FF.out B5) (p10B PP.out B5)).mono ?_
  rintro r w6 ⟨rfl, b6⟩
  have B6 : Below w.heap.size w w6 := btr B5 b6
  have Rb_6 := heap_of b6 _ _ _ Rb_5
  have Rp_6 := heap_of b6 _ _ _ Rp_5
  have Rc_6 := heap_of b6 _ _ _ Rc_5
  clear b6 B5 Rb_5 cb_5_0 cb_5_1 Rp_5 cp_5_0 cp_5_1 cp_5_2 cp_5_3 cp_5_4 cp_5_5 cp_5_6 cp_5_7 cp_5_8 cp_5_9 cp_5_10 cp_5_11 cp_5_12 cp_5_13 Rc_5 cc_5_0 cc_5_1
  obtain ⟨cb_6_0, cb_6_1⟩ := cells2s Rb_6
  obtain ⟨cp_6_0, cp_6_1, cp_6_2, cp_6_3, cp_6_4, cp_6_5, cp_6_6, cp_6_7, cp_6_8, cp_6_9, cp_6_10, cp_6_11, cp_6_12, cp_6_13⟩ := pt_cells Rp_6
  obtain ⟨cc_6_0, cc_6_1⟩ := cells2s Rc_6
  go_wp2_with fail
  refine (KR.out _ (fatB FF.out B6) (p10B PP.out B6) (atB AA.out B6)).mono ?_
  rintro r w7 ⟨rfl, b7⟩
  have B7 : Below w.heap.size w w7 := btr B6 b7
  have Rb_7 := heap_of b7 _ _ _ Rb_6
  have Rp_7 := heap_of b7 _ _ _ Rp_6
  have Rc_7 := heap_of b7 _ _ _ Rc_6
  clear b7 B6 Rb_6 cb_6_0 cb_6_1 Rp_6 cp_6_0 cp_6_1 cp_6_2 cp_6_3 cp_6_4 cp_6_5 cp_6_6 cp_6_7 cp_6_8 cp_6_9 cp_6_10 cp_6_11 cp_6_12 cp_6_13 Rc_6 cc_6_0 cc_6_1
  obtain ⟨cb_7_0, cb_7_1⟩ := cells2s Rb_7
  obtain ⟨cp_7_0, cp_7_1, cp_7_2, cp_7_3, cp_7_4, cp_7_5, cp_7_6, cp_7_7, cp_7_8, cp_7_9, cp_7_10, cp_7_11, cp_7_12, cp_7_13⟩ := pt_cells Rp_7
  obtain ⟨cc_7_0, cc_7_1⟩ := cells2s Rc_7
  have S8 := box B7.size
  have Lb_8 : Box (w.heap.size < w7.heap.size) := box (Array.getElem?_eq_some_iff.1 Rb_7).1
  have Lp_8 : Box (w1.heap.size < w7.heap.size) := box (Array.getElem?_eq_some_iff.1 Rp_7).1
  have Lc_8 : Box (w3.heap.size < w7.heap.size) := box (Array.getElem?_eq_some_iff.1 Rc_7).1
  have Rd_8 := heap_alloc_last w7 (Obj.cells #[.int .u64 (x : Nat), .int .u64 (y : Nat)] 25)
  have B8 := btr B7 (bal w7 (Obj.cells #[.int .u64 (x : Nat), .int .u64 (y : Nat)] 25))
  have Rb_8 := heap_of (bal w7 (Obj.cells #[.int .u64 (x : Nat), .int .u64 (y : Nat)] 25)) _ _ _ Rb_7
  have Rp_8 := heap_of (bal w7 (Obj.cells #[.int .u64 (x : Nat), .int .u64 (y : Nat)] 25)) _ _ _ Rp_7
  have Rc_8 := heap_of (bal w7 (Obj.cells #[.int .u64 (x : Nat), .int .u64 (y : Nat)] 25)) _ _ _ Rc_7
  clear B7 Rb_7 cb_7_0 cb_7_1 Rp_7 cp_7_0 cp_7_1 cp_7_2 cp_7_3 cp_7_4 cp_7_5 cp_7_6 cp_7_7 cp_7_8 cp_7_9 cp_7_10 cp_7_11 cp_7_12 cp_7_13 Rc_7 cc_7_0 cc_7_1
  obtain ⟨cb_8_0, cb_8_1⟩ := cells2s Rb_8
  obtain ⟨cp_8_0, cp_8_1, cp_8_2, cp_8_3, cp_8_4, cp_8_5, cp_8_6, cp_8_7, cp_8_8, cp_8_9, cp_8_10, cp_8_11, cp_8_12, cp_8_13⟩ := pt_cells Rp_8
  obtain ⟨cc_8_0, cc_8_1⟩ := cells2s Rc_8
  obtain ⟨cd_8_0, cd_8_1⟩ := cells2s Rd_8
  go_wp2_with fail
  obtain ⟨F, hF1, hF2⟩ := below_fun (w7.alloc (Obj.cells #[.int .u64 (x : Nat), .int .u64 (y : Nat)] 25))
  have fb_0 := fun u => cells4 (heap_of (hF1 u) _ _ _ Rb_8) 0 _ rfl
  have fb_1 := fun u => cells4 (heap_of (hF1 u) _ _ _ Rb_8) 1 _ rfl
  have fp_0 := fun u => (pt_cells (heap_of (hF1 u) _ _ _ Rp_8)).1
  have fp_1 := fun u => (pt_cells (heap_of (hF1 u) _ _ _ Rp_8)).2.1
  have fp_2 := fun u => (pt_cells (heap_of (hF1 u) _ _ _ Rp_8)).2.2.1
  have fp_3 := fun u => (pt_cells (heap_of (hF1 u) _ _ _ Rp_8)).2.2.2.1
  have fp_4 := fun u => (pt_cells (heap_of (hF1 u) _ _ _ Rp_8)).2.2.2.2.1
  have fp_5 := fun u => (pt_cells (heap_of (hF1 u) _ _ _ Rp_8)).2.2.2.2.2.1
  have fp_6 := fun u => (pt_cells (heap_of (hF1 u) _ _ _ Rp_8)).2.2.2.2.2.2.1
  have fp_7 := fun u => (pt_cells (heap_of (hF1 u) _ _ _ Rp_8)).2.2.2.2.2.2.2.1
  have fp_8 := fun u => (pt_cells (heap_of (hF1 u) _ _ _ Rp_8)).2.2.2.2.2.2.2.2.1
  have fp_9 := fun u => (pt_cells (heap_of (hF1 u) _ _ _ Rp_8)).2.2.2.2.2.2.2.2.2.1
  have fp_10 := fun u => (pt_cells (heap_of (hF1 u) _ _ _ Rp_8)).2.2.2.2.2.2.2.2.2.2.1
  have fp_11 := fun u => (pt_cells (heap_of (hF1 u) _ _ _ Rp_8)).2.2.2.2.2.2.2.2.2.2.2.1
  have fp_12 := fun u => (pt_cells (heap_of (hF1 u) _ _ _ Rp_8)).2.2.2.2.2.2.2.2.2.2.2.2.1
  have fp_13 := fun u => (pt_cells (heap_of (hF1 u) _ _ _ Rp_8)).2.2.2.2.2.2.2.2.2.2.2.2.2
  have fc_0 := fun u => cells4 (heap_of (hF1 u) _ _ _ Rc_8) 0 _ rfl
  have fc_1 := fun u => cells4 (heap_of (hF1 u) _ _ _ Rc_8) 1 _ rfl
  have fd_0 := fun u => cells4 (heap_of (hF1 u) _ _ _ Rd_8) 0 _ rfl
  have fd_1 := fun u => cells4 (heap_of (hF1 u) _ _ _ Rd_8) 1 _ rfl
  have FG : Box (∀ u, FAt (F u)) := box (fun u => fatB FF.out (btr B8 (hF1 u)))
  refine wp_region_below F hF2 (by kernel_rfl) (by kernel_rfl) ?_
  repeat first | go_big_quiet_step (first | (go_at_call_of 22 (Value.agg #[.int .u64 (x : Nat), .int .u64 (y : Nat)]); exact quietF hF1 hF2 (KF.out _ (FG.out _))) | (go_at_call_of 22 (Value.agg #[.int .u64 (p : Nat), .int .u64 (q : Nat)]); exact quietF hF1 hF2 (KG.out _ (FG.out _))) | fail) | quiet_step (first | (go_at_call_of 22 (Value.agg #[.int .u64 (x : Nat), .int .u64 (y : Nat)]); exact quietF hF1 hF2 (KF.out _ (FG.out _))) | (go_at_call_of 22 (Value.agg #[.int .u64 (p : Nat), .int .u64 (q : Nat)]); exact quietF hF1 hF2 (KG.out _ (FG.out _))) | fail)
  refine wpQuiet_nil ?_
  rintro _ ⟨uW, rfl⟩
  have B9 := btr B8 (hF1 uW)
  have Rb_9 := heap_of (hF1 uW) _ _ _ Rb_8
  have Rp_9 := heap_of (hF1 uW) _ _ _ Rp_8
  have Rc_9 := heap_of (hF1 uW) _ _ _ Rc_8
  have Rd_9 := heap_of (hF1 uW) _ _ _ Rd_8
  obtain ⟨w9, hw⟩ : ∃ V, F uW = V := ⟨_, rfl⟩
  rw [hw] at B9 Rb_9 Rp_9 Rc_9 Rd_9
  try rw [hw]
  clear hw hF1 hF2 B8 fb_0 fb_1 fp_0 fp_1 fp_2 fp_3 fp_4 fp_5 fp_6 fp_7 fp_8 fp_9 fp_10 fp_11 fp_12 fp_13 fc_0 fc_1 fd_0 fd_1 Rb_8 cb_8_0 cb_8_1 Rp_8 cp_8_0 cp_8_1 cp_8_2 cp_8_3 cp_8_4 cp_8_5 cp_8_6 cp_8_7 cp_8_8 cp_8_9 cp_8_10 cp_8_11 cp_8_12 cp_8_13 Rc_8 cc_8_0 cc_8_1 Rd_8 cd_8_0 cd_8_1
  clear FG
  clear F
  obtain ⟨cb_9_0, cb_9_1⟩ := cells2s Rb_9
  obtain ⟨cp_9_0, cp_9_1, cp_9_2, cp_9_3, cp_9_4, cp_9_5, cp_9_6, cp_9_7, cp_9_8, cp_9_9, cp_9_10, cp_9_11, cp_9_12, cp_9_13⟩ := pt_cells Rp_9
  obtain ⟨cc_9_0, cc_9_1⟩ := cells2s Rc_9
  obtain ⟨cd_9_0, cd_9_1⟩ := cells2s Rd_9
  go_wp2_with fail
  refine (KV.out _ (fatB FF.out B9) (tabB TT.out B9)).mono ?_
  rintro r w10 ⟨rfl, b10⟩
  have B10 : Below w.heap.size w w10 := btr B9 b10
  have Rb_10 := heap_of b10 _ _ _ Rb_9
  have Rp_10 := heap_of b10 _ _ _ Rp_9
  have Rc_10 := heap_of b10 _ _ _ Rc_9
  have Rd_10 := heap_of b10 _ _ _ Rd_9
  clear b10 B9 Rb_9 cb_9_0 cb_9_1 Rp_9 cp_9_0 cp_9_1 cp_9_2 cp_9_3 cp_9_4 cp_9_5 cp_9_6 cp_9_7 cp_9_8 cp_9_9 cp_9_10 cp_9_11 cp_9_12 cp_9_13 Rc_9 cc_9_0 cc_9_1 Rd_9 cd_9_0 cd_9_1
  obtain ⟨cb_10_0, cb_10_1⟩ := cells2s Rb_10
  obtain ⟨cp_10_0, cp_10_1, cp_10_2, cp_10_3, cp_10_4, cp_10_5, cp_10_6, cp_10_7, cp_10_8, cp_10_9, cp_10_10, cp_10_11, cp_10_12, cp_10_13⟩ := pt_cells Rp_10
  obtain ⟨cc_10_0, cc_10_1⟩ := cells2s Rc_10
  obtain ⟨cd_10_0, cd_10_1⟩ := cells2s Rd_10
  have S11 := box B10.size
  have Lb_11 : Box (w.heap.size < w10.heap.size) := box (Array.getElem?_eq_some_iff.1 Rb_10).1
  have Lp_11 : Box (w1.heap.size < w10.heap.size) := box (Array.getElem?_eq_some_iff.1 Rp_10).1
  have Lc_11 : Box (w3.heap.size < w10.heap.size) := box (Array.getElem?_eq_some_iff.1 Rc_10).1
  have Ld_11 : Box (w7.heap.size < w10.heap.size) := box (Array.getElem?_eq_some_iff.1 Rd_10).1
  have Rv_11 := heap_alloc_last w10 (Obj.cells #[.bool b1, .string s1, .string t1, .int .i64 e1] 28)
  have B11 := btr B10 (bal w10 (Obj.cells #[.bool b1, .string s1, .string t1, .int .i64 e1] 28))
  have Rb_11 := heap_of (bal w10 (Obj.cells #[.bool b1, .string s1, .string t1, .int .i64 e1] 28)) _ _ _ Rb_10
  have Rp_11 := heap_of (bal w10 (Obj.cells #[.bool b1, .string s1, .string t1, .int .i64 e1] 28)) _ _ _ Rp_10
  have Rc_11 := heap_of (bal w10 (Obj.cells #[.bool b1, .string s1, .string t1, .int .i64 e1] 28)) _ _ _ Rc_10
  have Rd_11 := heap_of (bal w10 (Obj.cells #[.bool b1, .string s1, .string t1, .int .i64 e1] 28)) _ _ _ Rd_10
  clear B10 Rb_10 cb_10_0 cb_10_1 Rp_10 cp_10_0 cp_10_1 cp_10_2 cp_10_3 cp_10_4 cp_10_5 cp_10_6 cp_10_7 cp_10_8 cp_10_9 cp_10_10 cp_10_11 cp_10_12 cp_10_13 Rc_10 cc_10_0 cc_10_1 Rd_10 cd_10_0 cd_10_1
  obtain ⟨cb_11_0, cb_11_1⟩ := cells2s Rb_11
  obtain ⟨cp_11_0, cp_11_1, cp_11_2, cp_11_3, cp_11_4, cp_11_5, cp_11_6, cp_11_7, cp_11_8, cp_11_9, cp_11_10, cp_11_11, cp_11_12, cp_11_13⟩ := pt_cells Rp_11
  obtain ⟨cc_11_0, cc_11_1⟩ := cells2s Rc_11
  obtain ⟨cd_11_0, cd_11_1⟩ := cells2s Rd_11
  obtain ⟨cv_11_0, cv_11_1, cv_11_2, cv_11_3⟩ := cells4s Rv_11
  go_wp2_with fail
  refine (KA.out _ (fatB FF.out B11)).mono ?_
  rintro r w12 ⟨rfl, b12⟩
  have B12 : Below w.heap.size w w12 := btr B11 b12
  have Rb_12 := heap_of b12 _ _ _ Rb_11
  have Rp_12 := heap_of b12 _ _ _ Rp_11
  have Rc_12 := heap_of b12 _ _ _ Rc_11
  have Rd_12 := heap_of b12 _ _ _ Rd_11
  have Rv_12 := heap_of b12 _ _ _ Rv_11
  clear b12 B11 Rb_11 cb_11_0 cb_11_1 Rp_11 cp_11_0 cp_11_1 cp_11_2 cp_11_3 cp_11_4 cp_11_5 cp_11_6 cp_11_7 cp_11_8 cp_11_9 cp_11_10 cp_11_11 cp_11_12 cp_11_13 Rc_11 cc_11_0 cc_11_1 Rd_11 cd_11_0 cd_11_1 Rv_11 cv_11_0 cv_11_1 cv_11_2 cv_11_3
  obtain ⟨cb_12_0, cb_12_1⟩ := cells2s Rb_12
  obtain ⟨cp_12_0, cp_12_1, cp_12_2, cp_12_3, cp_12_4, cp_12_5, cp_12_6, cp_12_7, cp_12_8, cp_12_9, cp_12_10, cp_12_11, cp_12_12, cp_12_13⟩ := pt_cells Rp_12
  obtain ⟨cc_12_0, cc_12_1⟩ := cells2s Rc_12
  obtain ⟨cd_12_0, cd_12_1⟩ := cells2s Rd_12
  obtain ⟨cv_12_0, cv_12_1, cv_12_2, cv_12_3⟩ := cells4s Rv_12
  go_wp2
  go_ret
  exact ⟨rfl, B12⟩
set_option maxRecDepth 100000 in
set_option maxHeartbeats 8000000 in
theorem back_r2 (f : Int) (x y : Nat) (c s rr : Nat) (X : Int) (t : ByteArray) (p q : Nat) (b1 : Bool) (s1 t1 : ByteArray) (e1 : Int) (w : World)
    (KU : Box (∀ w, FAt w → Calls Tryz.prog 20 #[.int .u8 f, .agg #[.int .u64 (x : Nat), .int .u64 (y : Nat)]] w fun r w' => r = .returned (.tuple #[.agg (pt c s X rr), .int .i64 0]) ∧ Below w.heap.size w w'))
    (KQ : Box (∀ w, FAt w → Calls Tryz.prog 21 #[.int .u8 f, .agg (pt c s X rr)] w fun r w' => r = .returned (.tuple #[.agg #[.int .u64 (p : Nat), .int .u64 (q : Nat)], .int .i64 0]) ∧ Below w.heap.size w w'))
    (KT : Box (∀ w, FAt w → P10 w → Calls Tryz.prog 16 #[.int .u8 f, .agg #[.int .u64 (x : Nat), .int .u64 (y : Nat)]] w fun r w' => r = .returned (.tuple #[.string t, .int .i64 0]) ∧ Below w.heap.size w w'))
    (KR : Box (∀ w, FAt w → P10 w → Atoiable w → Calls Tryz.prog 18 #[.int .u8 f, .string t] w fun r w' => r = .returned (.tuple #[.agg #[.int .u64 (x : Nat), .int .u64 (y : Nat)], .int .i64 0]) ∧ Below w.heap.size w w'))
    (KF : Box (∀ w, FAt w → Calls Tryz.prog 22 #[.int .u8 f, .agg #[.int .u64 (x : Nat), .int .u64 (y : Nat)]] w fun r w' => r = .returned (.agg #[.int .u64 (p : Nat), .int .u64 (q : Nat)]) ∧ Below w.heap.size w w'))
    (KG : Box (∀ w, FAt w → Calls Tryz.prog 22 #[.int .u8 f, .agg #[.int .u64 (p : Nat), .int .u64 (q : Nat)]] w fun r w' => r = .returned (.agg #[.int .u64 (x : Nat), .int .u64 (y : Nat)]) ∧ Below w.heap.size w w'))
    (KV : Box (∀ w, FAt w → TabAt w → Calls Tryz.prog 8 #[.int .u8 f, .agg #[.int .u64 (x : Nat), .int .u64 (y : Nat)]] w fun r w' => r = .returned (.tuple #[.agg #[.bool b1, .string s1, .string t1, .int .i64 e1], .int .i64 80]) ∧ Below w.heap.size w w'))
    (n8 : decide ((8 : Int) ≤ (c : Int)) = true)
    (ne : NE p q x y)
    (KS : Box (∀ w, FAt w → Calls Tryz.prog 23 #[.int .u8 f, .agg #[.int .u64 (x : Nat), .int .u64 (y : Nat)]] w fun r w' => r = .returned (.bool true) ∧ Below w.heap.size w w'))
    (hT : FAt w) (hT2 : TabAt w) (hP : P10 w) (hA : Atoiable w) : Calls Tryz.prog 5 #[.int .u8 f, .agg #[.int .u64 (x : Nat), .int .u64 (y : Nat)]] w fun r w' => r = .returned (.bool true) ∧ Below w.heap.size w w' := by
  have FF := box hT
  have TT := box hT2
  have PP := box hP
  have AA := box hA
  have KA := box kalive
  clear hT hT2 hP hA
  have hat := cw_at 6
  have hz := cw6z
  have hff := cw6f
  have hs0 := st0
  have hcs : ∀ x, ((cw 6 x).size = 6) = True := fun x => eq_true (cw_size 6 x)
  have hp1 := ptf
  have hp3 := ptz
  have hp4 := st_p0
  have hp5 : ∀ (c s : Nat) (x : Int) (r : Nat), ((pt c s x r).size = 14) = True := fun _ _ _ _ => eq_true rfl
  rcases ne with ne | ⟨ne1, ne⟩
  all_goals
    obtain ⟨Rb_0, B0⟩ := opn1 w (Obj.cells #[.int .u64 (x : Nat), .int .u64 (y : Nat)] 25)
    go_enter Tryz.func5, Tryz.ntmps5
    go_wp2_with fail
    refine (KU.out _ (fatB FF.out B0)).mono ?_
    rintro r w1 ⟨rfl, b1⟩
    have B1 : Below w.heap.size w w1 := btr B0 b1
    have Rb_1 := heap_of b1 _ _ _ Rb_0
    clear b1 B0 Rb_0
    obtain ⟨cb_1_0, cb_1_1⟩ := cells2s Rb_1
    have S2 := box B1.size
    have Lb_2 : Box (w.heap.size < w1.heap.size) := box (Array.getElem?_eq_some_iff.1 Rb_1).1
    have Rp_2 := heap_alloc_last w1 (Obj.cells (pt c s X rr) 55)
    have B2 := btr B1 (bal w1 (Obj.cells (pt c s X rr) 55))
    have Rb_2 := heap_of (bal w1 (Obj.cells (pt c s X rr) 55)) _ _ _ Rb_1
    clear B1 Rb_1 cb_1_0 cb_1_1
    obtain ⟨cb_2_0, cb_2_1⟩ := cells2s Rb_2
    obtain ⟨cp_2_0, cp_2_1, cp_2_2, cp_2_3, cp_2_4, cp_2_5, cp_2_6, cp_2_7, cp_2_8, cp_2_9, cp_2_10, cp_2_11, cp_2_12, cp_2_13⟩ := pt_cells Rp_2
    go_wp2_with fail
    refine (KQ.out _ (fatB FF.out B2)).mono ?_
    rintro r w3 ⟨rfl, b3⟩
    have B3 : Below w.heap.size w w3 := btr B2 b3
    have Rb_3 := heap_of b3 _ _ _ Rb_2
    have Rp_3 := heap_of b3 _ _ _ Rp_2
    clear b3 B2 Rb_2 cb_2_0 cb_2_1 Rp_2 cp_2_0 cp_2_1 cp_2_2 cp_2_3 cp_2_4 cp_2_5 cp_2_6 cp_2_7 cp_2_8 cp_2_9 cp_2_10 cp_2_11 cp_2_12 cp_2_13
    obtain ⟨cb_3_0, cb_3_1⟩ := cells2s Rb_3
    obtain ⟨cp_3_0, cp_3_1, cp_3_2, cp_3_3, cp_3_4, cp_3_5, cp_3_6, cp_3_7, cp_3_8, cp_3_9, cp_3_10, cp_3_11, cp_3_12, cp_3_13⟩ := pt_cells Rp_3
    have S4 := box B3.size
    have Lb_4 : Box (w.heap.size < w3.heap.size) := box (Array.getElem?_eq_some_iff.1 Rb_3).1
    have Lp_4 : Box (w1.heap.size < w3.heap.size) := box (Array.getElem?_eq_some_iff.1 Rp_3).1
    have Rc_4 := heap_alloc_last w3 (Obj.cells #[.int .u64 (p : Nat), .int .u64 (q : Nat)] 25)
    have B4 := btr B3 (bal w3 (Obj.cells #[.int .u64 (p : Nat), .int .u64 (q : Nat)] 25))
    have Rb_4 := heap_of (bal w3 (Obj.cells #[.int .u64 (p : Nat), .int .u64 (q : Nat)] 25)) _ _ _ Rb_3
    have Rp_4 := heap_of (bal w3 (Obj.cells #[.int .u64 (p : Nat), .int .u64 (q : Nat)] 25)) _ _ _ Rp_3
    clear B3 Rb_3 cb_3_0 cb_3_1 Rp_3 cp_3_0 cp_3_1 cp_3_2 cp_3_3 cp_3_4 cp_3_5 cp_3_6 cp_3_7 cp_3_8 cp_3_9 cp_3_10 cp_3_11 cp_3_12 cp_3_13
    obtain ⟨cb_4_0, cb_4_1⟩ := cells2s Rb_4
    obtain ⟨cp_4_0, cp_4_1, cp_4_2, cp_4_3, cp_4_4, cp_4_5, cp_4_6, cp_4_7, cp_4_8, cp_4_9, cp_4_10, cp_4_11, cp_4_12, cp_4_13⟩ := pt_cells Rp_4
    obtain ⟨cc_4_0, cc_4_1⟩ := cells2s Rc_4
    go_wp2_with fail
    obtain ⟨F, hF1, hF2⟩ := below_fun (w3.alloc (Obj.cells #[.int .u64 (p : Nat), .int .u64 (q : Nat)] 25))
    have fb_0 := fun u => cells4 (heap_of (hF1 u) _ _ _ Rb_4) 0 _ rfl
    have fb_1 := fun u => cells4 (heap_of (hF1 u) _ _ _ Rb_4) 1 _ rfl
    have fp_0 := fun u => (pt_cells (heap_of (hF1 u) _ _ _ Rp_4)).1
    have fp_1 := fun u => (pt_cells (heap_of (hF1 u) _ _ _ Rp_4)).2.1
    have fp_2 := fun u => (pt_cells (heap_of (hF1 u) _ _ _ Rp_4)).2.2.1
    have fp_3 := fun u => (pt_cells (heap_of (hF1 u) _ _ _ Rp_4)).2.2.2.1
    have fp_4 := fun u => (pt_cells (heap_of (hF1 u) _ _ _ Rp_4)).2.2.2.2.1
    have fp_5 := fun u => (pt_cells (heap_of (hF1 u) _ _ _ Rp_4)).2.2.2.2.2.1
    have fp_6 := fun u => (pt_cells (heap_of (hF1 u) _ _ _ Rp_4)).2.2.2.2.2.2.1
    have fp_7 := fun u => (pt_cells (heap_of (hF1 u) _ _ _ Rp_4)).2.2.2.2.2.2.2.1
    have fp_8 := fun u => (pt_cells (heap_of (hF1 u) _ _ _ Rp_4)).2.2.2.2.2.2.2.2.1
    have fp_9 := fun u => (pt_cells (heap_of (hF1 u) _ _ _ Rp_4)).2.2.2.2.2.2.2.2.2.1
    have fp_10 := fun u => (pt_cells (heap_of (hF1 u) _ _ _ Rp_4)).2.2.2.2.2.2.2.2.2.2.1
    have fp_11 := fun u => (pt_cells (heap_of (hF1 u) _ _ _ Rp_4)).2.2.2.2.2.2.2.2.2.2.2.1
    have fp_12 := fun u => (pt_cells (heap_of (hF1 u) _ _ _ Rp_4)).2.2.2.2.2.2.2.2.2.2.2.2.1
    have fp_13 := fun u => (pt_cells (heap_of (hF1 u) _ _ _ Rp_4)).2.2.2.2.2.2.2.2.2.2.2.2.2
    have fc_0 := fun u => cells4 (heap_of (hF1 u) _ _ _ Rc_4) 0 _ rfl
    have fc_1 := fun u => cells4 (heap_of (hF1 u) _ _ _ Rc_4) 1 _ rfl
    have FG : Box (∀ u, FAt (F u)) := box (fun u => fatB FF.out (btr B4 (hF1 u)))
    refine wp_region_below F hF2 (by kernel_rfl) (by kernel_rfl) ?_
    repeat first | go_big_quiet_step (first | (go_at_call 22; exact quietF hF1 hF2 (KF.out _ (FG.out _))) | (go_at_call 23; exact quietF hF1 hF2 (KS.out _ (FG.out _))) | fail) | quiet_step (first | (go_at_call 22; exact quietF hF1 hF2 (KF.out _ (FG.out _))) | (go_at_call 23; exact quietF hF1 hF2 (KS.out _ (FG.out _))) | fail)
    refine wpQuiet_nil ?_
    rintro _ ⟨uW, rfl⟩
    have B5 := btr B4 (hF1 uW)
    have Rb_5 := heap_of (hF1 uW) _ _ _ Rb_4
    have Rp_5 := heap_of (hF1 uW) _ _ _ Rp_4
    have Rc_5 := heap_of (hF1 uW) _ _ _ Rc_4
    obtain ⟨w5, hw⟩ : ∃ V, F uW = V := ⟨_, rfl⟩
    rw [hw] at B5 Rb_5 Rp_5 Rc_5
    try rw [hw]
    clear hw hF1 hF2 B4 fb_0 fb_1 fp_0 fp_1 fp_2 fp_3 fp_4 fp_5 fp_6 fp_7 fp_8 fp_9 fp_10 fp_11 fp_12 fp_13 fc_0 fc_1 Rb_4 cb_4_0 cb_4_1 Rp_4 cp_4_0 cp_4_1 cp_4_2 cp_4_3 cp_4_4 cp_4_5 cp_4_6 cp_4_7 cp_4_8 cp_4_9 cp_4_10 cp_4_11 cp_4_12 cp_4_13 Rc_4 cc_4_0 cc_4_1
    clear FG
    clear F
    obtain ⟨cb_5_0, cb_5_1⟩ := cells2s Rb_5
    obtain ⟨cp_5_0, cp_5_1, cp_5_2, cp_5_3, cp_5_4, cp_5_5, cp_5_6, cp_5_7, cp_5_8, cp_5_9, cp_5_10, cp_5_11, cp_5_12, cp_5_13⟩ := pt_cells Rp_5
    obtain ⟨cc_5_0, cc_5_1⟩ := cells2s Rc_5
    go_wp2_with fail
    refine (KT.out _ (fatB FF.out B5) (p10B PP.out B5)).mono ?_
    rintro r w6 ⟨rfl, b6⟩
    have B6 : Below w.heap.size w w6 := btr B5 b6
    have Rb_6 := heap_of b6 _ _ _ Rb_5
    have Rp_6 := heap_of b6 _ _ _ Rp_5
    have Rc_6 := heap_of b6 _ _ _ Rc_5
    clear b6 B5 Rb_5 cb_5_0 cb_5_1 Rp_5 cp_5_0 cp_5_1 cp_5_2 cp_5_3 cp_5_4 cp_5_5 cp_5_6 cp_5_7 cp_5_8 cp_5_9 cp_5_10 cp_5_11 cp_5_12 cp_5_13 Rc_5 cc_5_0 cc_5_1
    obtain ⟨cb_6_0, cb_6_1⟩ := cells2s Rb_6
    obtain ⟨cp_6_0, cp_6_1, cp_6_2, cp_6_3, cp_6_4, cp_6_5, cp_6_6, cp_6_7, cp_6_8, cp_6_9, cp_6_10, cp_6_11, cp_6_12, cp_6_13⟩ := pt_cells Rp_6
    obtain ⟨cc_6_0, cc_6_1⟩ := cells2s Rc_6
    go_wp2_with fail
    refine (KR.out _ (fatB FF.out B6) (p10B PP.out B6) (atB AA.out B6)).mono ?_
    rintro r w7 ⟨rfl, b7⟩
    have B7 : Below w.heap.size w w7 := btr B6 b7
    have Rb_7 := heap_of b7 _ _ _ Rb_6
    have Rp_7 := heap_of b7 _ _ _ Rp_6
    have Rc_7 := heap_of b7 _ _ _ Rc_6
    clear b7 B6 Rb_6 cb_6_0 cb_6_1 Rp_6 cp_6_0 cp_6_1 cp_6_2 cp_6_3 cp_6_4 cp_6_5 cp_6_6 cp_6_7 cp_6_8 cp_6_9 cp_6_10 cp_6_11 cp_6_12 cp_6_13 Rc_6 cc_6_0 cc_6_1
    obtain ⟨cb_7_0, cb_7_1⟩ := cells2s Rb_7
    obtain ⟨cp_7_0, cp_7_1, cp_7_2, cp_7_3, cp_7_4, cp_7_5, cp_7_6, cp_7_7, cp_7_8, cp_7_9, cp_7_10, cp_7_11, cp_7_12, cp_7_13⟩ := pt_cells Rp_7
    obtain ⟨cc_7_0, cc_7_1⟩ := cells2s Rc_7
    have S8 := box B7.size
    have Lb_8 : Box (w.heap.size < w7.heap.size) := box (Array.getElem?_eq_some_iff.1 Rb_7).1
    have Lp_8 : Box (w1.heap.size < w7.heap.size) := box (Array.getElem?_eq_some_iff.1 Rp_7).1
    have Lc_8 : Box (w3.heap.size < w7.heap.size) := box (Array.getElem?_eq_some_iff.1 Rc_7).1
    have Rd_8 := heap_alloc_last w7 (Obj.cells #[.int .u64 (x : Nat), .int .u64 (y : Nat)] 25)
    have B8 := btr B7 (bal w7 (Obj.cells #[.int .u64 (x : Nat), .int .u64 (y : Nat)] 25))
    have Rb_8 := heap_of (bal w7 (Obj.cells #[.int .u64 (x : Nat), .int .u64 (y : Nat)] 25)) _ _ _ Rb_7
    have Rp_8 := heap_of (bal w7 (Obj.cells #[.int .u64 (x : Nat), .int .u64 (y : Nat)] 25)) _ _ _ Rp_7
    have Rc_8 := heap_of (bal w7 (Obj.cells #[.int .u64 (x : Nat), .int .u64 (y : Nat)] 25)) _ _ _ Rc_7
    clear B7 Rb_7 cb_7_0 cb_7_1 Rp_7 cp_7_0 cp_7_1 cp_7_2 cp_7_3 cp_7_4 cp_7_5 cp_7_6 cp_7_7 cp_7_8 cp_7_9 cp_7_10 cp_7_11 cp_7_12 cp_7_13 Rc_7 cc_7_0 cc_7_1
    obtain ⟨cb_8_0, cb_8_1⟩ := cells2s Rb_8
    obtain ⟨cp_8_0, cp_8_1, cp_8_2, cp_8_3, cp_8_4, cp_8_5, cp_8_6, cp_8_7, cp_8_8, cp_8_9, cp_8_10, cp_8_11, cp_8_12, cp_8_13⟩ := pt_cells Rp_8
    obtain ⟨cc_8_0, cc_8_1⟩ := cells2s Rc_8
    obtain ⟨cd_8_0, cd_8_1⟩ := cells2s Rd_8
    go_wp2_with fail
    obtain ⟨F, hF1, hF2⟩ := below_fun (w7.alloc (Obj.cells #[.int .u64 (x : Nat), .int .u64 (y : Nat)] 25))
    have fb_0 := fun u => cells4 (heap_of (hF1 u) _ _ _ Rb_8) 0 _ rfl
    have fb_1 := fun u => cells4 (heap_of (hF1 u) _ _ _ Rb_8) 1 _ rfl
    have fp_0 := fun u => (pt_cells (heap_of (hF1 u) _ _ _ Rp_8)).1
    have fp_1 := fun u => (pt_cells (heap_of (hF1 u) _ _ _ Rp_8)).2.1
    have fp_2 := fun u => (pt_cells (heap_of (hF1 u) _ _ _ Rp_8)).2.2.1
    have fp_3 := fun u => (pt_cells (heap_of (hF1 u) _ _ _ Rp_8)).2.2.2.1
    have fp_4 := fun u => (pt_cells (heap_of (hF1 u) _ _ _ Rp_8)).2.2.2.2.1
    have fp_5 := fun u => (pt_cells (heap_of (hF1 u) _ _ _ Rp_8)).2.2.2.2.2.1
    have fp_6 := fun u => (pt_cells (heap_of (hF1 u) _ _ _ Rp_8)).2.2.2.2.2.2.1
    have fp_7 := fun u => (pt_cells (heap_of (hF1 u) _ _ _ Rp_8)).2.2.2.2.2.2.2.1
    have fp_8 := fun u => (pt_cells (heap_of (hF1 u) _ _ _ Rp_8)).2.2.2.2.2.2.2.2.1
    have fp_9 := fun u => (pt_cells (heap_of (hF1 u) _ _ _ Rp_8)).2.2.2.2.2.2.2.2.2.1
    have fp_10 := fun u => (pt_cells (heap_of (hF1 u) _ _ _ Rp_8)).2.2.2.2.2.2.2.2.2.2.1
    have fp_11 := fun u => (pt_cells (heap_of (hF1 u) _ _ _ Rp_8)).2.2.2.2.2.2.2.2.2.2.2.1
    have fp_12 := fun u => (pt_cells (heap_of (hF1 u) _ _ _ Rp_8)).2.2.2.2.2.2.2.2.2.2.2.2.1
    have fp_13 := fun u => (pt_cells (heap_of (hF1 u) _ _ _ Rp_8)).2.2.2.2.2.2.2.2.2.2.2.2.2
    have fc_0 := fun u => cells4 (heap_of (hF1 u) _ _ _ Rc_8) 0 _ rfl
    have fc_1 := fun u => cells4 (heap_of (hF1 u) _ _ _ Rc_8) 1 _ rfl
    have fd_0 := fun u => cells4 (heap_of (hF1 u) _ _ _ Rd_8) 0 _ rfl
    have fd_1 := fun u => cells4 (heap_of (hF1 u) _ _ _ Rd_8) 1 _ rfl
    have FG : Box (∀ u, FAt (F u)) := box (fun u => fatB FF.out (btr B8 (hF1 u)))
    refine wp_region_below F hF2 (by kernel_rfl) (by kernel_rfl) ?_
    repeat first | go_big_quiet_step (first | (go_at_call_of 22 (Value.agg #[.int .u64 (x : Nat), .int .u64 (y : Nat)]); exact quietF hF1 hF2 (KF.out _ (FG.out _))) | (go_at_call_of 22 (Value.agg #[.int .u64 (p : Nat), .int .u64 (q : Nat)]); exact quietF hF1 hF2 (KG.out _ (FG.out _))) | fail) | quiet_step (first | (go_at_call_of 22 (Value.agg #[.int .u64 (x : Nat), .int .u64 (y : Nat)]); exact quietF hF1 hF2 (KF.out _ (FG.out _))) | (go_at_call_of 22 (Value.agg #[.int .u64 (p : Nat), .int .u64 (q : Nat)]); exact quietF hF1 hF2 (KG.out _ (FG.out _))) | fail)
    refine wpQuiet_nil ?_
    rintro _ ⟨uW, rfl⟩
    have B9 := btr B8 (hF1 uW)
    have Rb_9 := heap_of (hF1 uW) _ _ _ Rb_8
    have Rp_9 := heap_of (hF1 uW) _ _ _ Rp_8
    have Rc_9 := heap_of (hF1 uW) _ _ _ Rc_8
    have Rd_9 := heap_of (hF1 uW) _ _ _ Rd_8
    obtain ⟨w9, hw⟩ : ∃ V, F uW = V := ⟨_, rfl⟩
    rw [hw] at B9 Rb_9 Rp_9 Rc_9 Rd_9
    try rw [hw]
    clear hw hF1 hF2 B8 fb_0 fb_1 fp_0 fp_1 fp_2 fp_3 fp_4 fp_5 fp_6 fp_7 fp_8 fp_9 fp_10 fp_11 fp_12 fp_13 fc_0 fc_1 fd_0 fd_1 Rb_8 cb_8_0 cb_8_1 Rp_8 cp_8_0 cp_8_1 cp_8_2 cp_8_3 cp_8_4 cp_8_5 cp_8_6 cp_8_7 cp_8_8 cp_8_9 cp_8_10 cp_8_11 cp_8_12 cp_8_13 Rc_8 cc_8_0 cc_8_1 Rd_8 cd_8_0 cd_8_1
    clear FG
    clear F
    obtain ⟨cb_9_0, cb_9_1⟩ := cells2s Rb_9
    obtain ⟨cp_9_0, cp_9_1, cp_9_2, cp_9_3, cp_9_4, cp_9_5, cp_9_6, cp_9_7, cp_9_8, cp_9_9, cp_9_10, cp_9_11, cp_9_12, cp_9_13⟩ := pt_cells Rp_9
    obtain ⟨cc_9_0, cc_9_1⟩ := cells2s Rc_9
    obtain ⟨cd_9_0, cd_9_1⟩ := cells2s Rd_9
    go_wp2_with fail
    refine (KV.out _ (fatB FF.out B9) (tabB TT.out B9)).mono ?_
    rintro r w10 ⟨rfl, b10⟩
    have B10 : Below w.heap.size w w10 := btr B9 b10
    have Rb_10 := heap_of b10 _ _ _ Rb_9
    have Rp_10 := heap_of b10 _ _ _ Rp_9
    have Rc_10 := heap_of b10 _ _ _ Rc_9
    have Rd_10 := heap_of b10 _ _ _ Rd_9
    clear b10 B9 Rb_9 cb_9_0 cb_9_1 Rp_9 cp_9_0 cp_9_1 cp_9_2 cp_9_3 cp_9_4 cp_9_5 cp_9_6 cp_9_7 cp_9_8 cp_9_9 cp_9_10 cp_9_11 cp_9_12 cp_9_13 Rc_9 cc_9_0 cc_9_1 Rd_9 cd_9_0 cd_9_1
    obtain ⟨cb_10_0, cb_10_1⟩ := cells2s Rb_10
    obtain ⟨cp_10_0, cp_10_1, cp_10_2, cp_10_3, cp_10_4, cp_10_5, cp_10_6, cp_10_7, cp_10_8, cp_10_9, cp_10_10, cp_10_11, cp_10_12, cp_10_13⟩ := pt_cells Rp_10
    obtain ⟨cc_10_0, cc_10_1⟩ := cells2s Rc_10
    obtain ⟨cd_10_0, cd_10_1⟩ := cells2s Rd_10
    have S11 := box B10.size
    have Lb_11 : Box (w.heap.size < w10.heap.size) := box (Array.getElem?_eq_some_iff.1 Rb_10).1
    have Lp_11 : Box (w1.heap.size < w10.heap.size) := box (Array.getElem?_eq_some_iff.1 Rp_10).1
    have Lc_11 : Box (w3.heap.size < w10.heap.size) := box (Array.getElem?_eq_some_iff.1 Rc_10).1
    have Ld_11 : Box (w7.heap.size < w10.heap.size) := box (Array.getElem?_eq_some_iff.1 Rd_10).1
    have Rv_11 := heap_alloc_last w10 (Obj.cells #[.bool b1, .string s1, .string t1, .int .i64 e1] 28)
    have B11 := btr B10 (bal w10 (Obj.cells #[.bool b1, .string s1, .string t1, .int .i64 e1] 28))
    have Rb_11 := heap_of (bal w10 (Obj.cells #[.bool b1, .string s1, .string t1, .int .i64 e1] 28)) _ _ _ Rb_10
    have Rp_11 := heap_of (bal w10 (Obj.cells #[.bool b1, .string s1, .string t1, .int .i64 e1] 28)) _ _ _ Rp_10
    have Rc_11 := heap_of (bal w10 (Obj.cells #[.bool b1, .string s1, .string t1, .int .i64 e1] 28)) _ _ _ Rc_10
    have Rd_11 := heap_of (bal w10 (Obj.cells #[.bool b1, .string s1, .string t1, .int .i64 e1] 28)) _ _ _ Rd_10
    clear B10 Rb_10 cb_10_0 cb_10_1 Rp_10 cp_10_0 cp_10_1 cp_10_2 cp_10_3 cp_10_4 cp_10_5 cp_10_6 cp_10_7 cp_10_8 cp_10_9 cp_10_10 cp_10_11 cp_10_12 cp_10_13 Rc_10 cc_10_0 cc_10_1 Rd_10 cd_10_0 cd_10_1
    obtain ⟨cb_11_0, cb_11_1⟩ := cells2s Rb_11
    obtain ⟨cp_11_0, cp_11_1, cp_11_2, cp_11_3, cp_11_4, cp_11_5, cp_11_6, cp_11_7, cp_11_8, cp_11_9, cp_11_10, cp_11_11, cp_11_12, cp_11_13⟩ := pt_cells Rp_11
    obtain ⟨cc_11_0, cc_11_1⟩ := cells2s Rc_11
    obtain ⟨cd_11_0, cd_11_1⟩ := cells2s Rd_11
    obtain ⟨cv_11_0, cv_11_1, cv_11_2, cv_11_3⟩ := cells4s Rv_11
    go_wp2_with fail
    refine (KA.out _ (fatB FF.out B11)).mono ?_
    rintro r w12 ⟨rfl, b12⟩
    have B12 : Below w.heap.size w w12 := btr B11 b12
    have Rb_12 := heap_of b12 _ _ _ Rb_11
    have Rp_12 := heap_of b12 _ _ _ Rp_11
    have Rc_12 := heap_of b12 _ _ _ Rc_11
    have Rd_12 := heap_of b12 _ _ _ Rd_11
    have Rv_12 := heap_of b12 _ _ _ Rv_11
    clear b12 B11 Rb_11 cb_11_0 cb_11_1 Rp_11 cp_11_0 cp_11_1 cp_11_2 cp_11_3 cp_11_4 cp_11_5 cp_11_6 cp_11_7 cp_11_8 cp_11_9 cp_11_10 cp_11_11 cp_11_12 cp_11_13 Rc_11 cc_11_0 cc_11_1 Rd_11 cd_11_0 cd_11_1 Rv_11 cv_11_0 cv_11_1 cv_11_2 cv_11_3
    obtain ⟨cb_12_0, cb_12_1⟩ := cells2s Rb_12
    obtain ⟨cp_12_0, cp_12_1, cp_12_2, cp_12_3, cp_12_4, cp_12_5, cp_12_6, cp_12_7, cp_12_8, cp_12_9, cp_12_10, cp_12_11, cp_12_12, cp_12_13⟩ := pt_cells Rp_12
    obtain ⟨cc_12_0, cc_12_1⟩ := cells2s Rc_12
    obtain ⟨cd_12_0, cd_12_1⟩ := cells2s Rd_12
    obtain ⟨cv_12_0, cv_12_1, cv_12_2, cv_12_3⟩ := cells4s Rv_12
    go_wp2
    go_ret
    exact ⟨rfl, B12⟩
set_option maxRecDepth 100000 in
set_option maxHeartbeats 8000000 in
theorem back_r3 (f : Int) (x y : Nat) (c s rr : Nat) (X : Int) (t : ByteArray) (p q : Nat) (b1 : Bool) (s1 t1 : ByteArray) (e1 : Int) (w : World)
    (KU : Box (∀ w, FAt w → Calls Tryz.prog 20 #[.int .u8 f, .agg #[.int .u64 (x : Nat), .int .u64 (y : Nat)]] w fun r w' => r = .returned (.tuple #[.agg (pt c s X rr), .int .i64 0]) ∧ Below w.heap.size w w'))
    (KQ : Box (∀ w, FAt w → Calls Tryz.prog 21 #[.int .u8 f, .agg (pt c s X rr)] w fun r w' => r = .returned (.tuple #[.agg #[.int .u64 (x : Nat), .int .u64 (y : Nat)], .int .i64 0]) ∧ Below w.heap.size w w'))
    (KT : Box (∀ w, FAt w → P10 w → Calls Tryz.prog 16 #[.int .u8 f, .agg #[.int .u64 (x : Nat), .int .u64 (y : Nat)]] w fun r w' => r = .returned (.tuple #[.string t, .int .i64 0]) ∧ Below w.heap.size w w'))
    (KR : Box (∀ w, FAt w → P10 w → Atoiable w → Calls Tryz.prog 18 #[.int .u8 f, .string t] w fun r w' => r = .returned (.tuple #[.agg #[.int .u64 (x : Nat), .int .u64 (y : Nat)], .int .i64 0]) ∧ Below w.heap.size w w'))
    (KF : Box (∀ w, FAt w → Calls Tryz.prog 22 #[.int .u8 f, .agg #[.int .u64 (x : Nat), .int .u64 (y : Nat)]] w fun r w' => r = .returned (.agg #[.int .u64 (p : Nat), .int .u64 (q : Nat)]) ∧ Below w.heap.size w w'))
    (KG : Box (∀ w, FAt w → Calls Tryz.prog 22 #[.int .u8 f, .agg #[.int .u64 (p : Nat), .int .u64 (q : Nat)]] w fun r w' => r = .returned (.agg #[.int .u64 (x : Nat), .int .u64 (y : Nat)]) ∧ Below w.heap.size w w'))
    (KV : Box (∀ w, FAt w → TabAt w → Calls Tryz.prog 8 #[.int .u8 f, .agg #[.int .u64 (x : Nat), .int .u64 (y : Nat)]] w fun r w' => r = .returned (.tuple #[.agg #[.bool b1, .string s1, .string t1, .int .i64 e1], .int .i64 80]) ∧ Below w.heap.size w w'))
    (n8 : decide ((8 : Int) ≤ (c : Int)) = false)
    (e0 : ((c : Int) == 0) = true ∨ (((c : Int) == 0) = false ∧ ((c : Int) == 7) = true))
    (hT : FAt w) (hT2 : TabAt w) (hP : P10 w) (hA : Atoiable w) : Calls Tryz.prog 5 #[.int .u8 f, .agg #[.int .u64 (x : Nat), .int .u64 (y : Nat)]] w fun r w' => r = .returned (.bool true) ∧ Below w.heap.size w w' := by
  have FF := box hT
  have TT := box hT2
  have PP := box hP
  have AA := box hA
  have KA := box kalive
  clear hT hT2 hP hA
  have hat := cw_at 6
  have hz := cw6z
  have hff := cw6f
  have hs0 := st0
  have hcs : ∀ x, ((cw 6 x).size = 6) = True := fun x => eq_true (cw_size 6 x)
  have hp1 := ptf
  have hp3 := ptz
  have hp4 := st_p0
  have hp5 : ∀ (c s : Nat) (x : Int) (r : Nat), ((pt c s x r).size = 14) = True := fun _ _ _ _ => eq_true rfl
  rcases e0 with e0 | ⟨e0, e7⟩
  all_goals
    obtain ⟨Rb_0, B0⟩ := opn1 w (Obj.cells #[.int .u64 (x : Nat), .int .u64 (y : Nat)] 25)
    go_enter Tryz.func5, Tryz.ntmps5
    go_wp2_with fail
    refine (KU.out _ (fatB FF.out B0)).mono ?_
    rintro r w1 ⟨rfl, b1⟩
    have B1 : Below w.heap.size w w1 := btr B0 b1
    have Rb_1 := heap_of b1 _ _ _ Rb_0
    clear b1 B0 Rb_0
    obtain ⟨cb_1_0, cb_1_1⟩ := cells2s Rb_1
    have S2 := box B1.size
    have Lb_2 : Box (w.heap.size < w1.heap.size) := box (Array.getElem?_eq_some_iff.1 Rb_1).1
    have Rp_2 := heap_alloc_last w1 (Obj.cells (pt c s X rr) 55)
    have B2 := btr B1 (bal w1 (Obj.cells (pt c s X rr) 55))
    have Rb_2 := heap_of (bal w1 (Obj.cells (pt c s X rr) 55)) _ _ _ Rb_1
    clear B1 Rb_1 cb_1_0 cb_1_1
    obtain ⟨cb_2_0, cb_2_1⟩ := cells2s Rb_2
    obtain ⟨cp_2_0, cp_2_1, cp_2_2, cp_2_3, cp_2_4, cp_2_5, cp_2_6, cp_2_7, cp_2_8, cp_2_9, cp_2_10, cp_2_11, cp_2_12, cp_2_13⟩ := pt_cells Rp_2
    go_wp2_with fail
    refine (KQ.out _ (fatB FF.out B2)).mono ?_
    rintro r w3 ⟨rfl, b3⟩
    have B3 : Below w.heap.size w w3 := btr B2 b3
    have Rb_3 := heap_of b3 _ _ _ Rb_2
    have Rp_3 := heap_of b3 _ _ _ Rp_2
    clear b3 B2 Rb_2 cb_2_0 cb_2_1 Rp_2 cp_2_0 cp_2_1 cp_2_2 cp_2_3 cp_2_4 cp_2_5 cp_2_6 cp_2_7 cp_2_8 cp_2_9 cp_2_10 cp_2_11 cp_2_12 cp_2_13
    obtain ⟨cb_3_0, cb_3_1⟩ := cells2s Rb_3
    obtain ⟨cp_3_0, cp_3_1, cp_3_2, cp_3_3, cp_3_4, cp_3_5, cp_3_6, cp_3_7, cp_3_8, cp_3_9, cp_3_10, cp_3_11, cp_3_12, cp_3_13⟩ := pt_cells Rp_3
    have S4 := box B3.size
    have Lb_4 : Box (w.heap.size < w3.heap.size) := box (Array.getElem?_eq_some_iff.1 Rb_3).1
    have Lp_4 : Box (w1.heap.size < w3.heap.size) := box (Array.getElem?_eq_some_iff.1 Rp_3).1
    have Rc_4 := heap_alloc_last w3 (Obj.cells #[.int .u64 (x : Nat), .int .u64 (y : Nat)] 25)
    have B4 := btr B3 (bal w3 (Obj.cells #[.int .u64 (x : Nat), .int .u64 (y : Nat)] 25))
    have Rb_4 := heap_of (bal w3 (Obj.cells #[.int .u64 (x : Nat), .int .u64 (y : Nat)] 25)) _ _ _ Rb_3
    have Rp_4 := heap_of (bal w3 (Obj.cells #[.int .u64 (x : Nat), .int .u64 (y : Nat)] 25)) _ _ _ Rp_3
    clear B3 Rb_3 cb_3_0 cb_3_1 Rp_3 cp_3_0 cp_3_1 cp_3_2 cp_3_3 cp_3_4 cp_3_5 cp_3_6 cp_3_7 cp_3_8 cp_3_9 cp_3_10 cp_3_11 cp_3_12 cp_3_13
    obtain ⟨cb_4_0, cb_4_1⟩ := cells2s Rb_4
    obtain ⟨cp_4_0, cp_4_1, cp_4_2, cp_4_3, cp_4_4, cp_4_5, cp_4_6, cp_4_7, cp_4_8, cp_4_9, cp_4_10, cp_4_11, cp_4_12, cp_4_13⟩ := pt_cells Rp_4
    obtain ⟨cc_4_0, cc_4_1⟩ := cells2s Rc_4
    go_wp2_with fail
    obtain ⟨F, hF1, hF2⟩ := below_fun (w3.alloc (Obj.cells #[.int .u64 (x : Nat), .int .u64 (y : Nat)] 25))
    have fb_0 := fun u => cells4 (heap_of (hF1 u) _ _ _ Rb_4) 0 _ rfl
    have fb_1 := fun u => cells4 (heap_of (hF1 u) _ _ _ Rb_4) 1 _ rfl
    have fp_0 := fun u => (pt_cells (heap_of (hF1 u) _ _ _ Rp_4)).1
    have fp_1 := fun u => (pt_cells (heap_of (hF1 u) _ _ _ Rp_4)).2.1
    have fp_2 := fun u => (pt_cells (heap_of (hF1 u) _ _ _ Rp_4)).2.2.1
    have fp_3 := fun u => (pt_cells (heap_of (hF1 u) _ _ _ Rp_4)).2.2.2.1
    have fp_4 := fun u => (pt_cells (heap_of (hF1 u) _ _ _ Rp_4)).2.2.2.2.1
    have fp_5 := fun u => (pt_cells (heap_of (hF1 u) _ _ _ Rp_4)).2.2.2.2.2.1
    have fp_6 := fun u => (pt_cells (heap_of (hF1 u) _ _ _ Rp_4)).2.2.2.2.2.2.1
    have fp_7 := fun u => (pt_cells (heap_of (hF1 u) _ _ _ Rp_4)).2.2.2.2.2.2.2.1
    have fp_8 := fun u => (pt_cells (heap_of (hF1 u) _ _ _ Rp_4)).2.2.2.2.2.2.2.2.1
    have fp_9 := fun u => (pt_cells (heap_of (hF1 u) _ _ _ Rp_4)).2.2.2.2.2.2.2.2.2.1
    have fp_10 := fun u => (pt_cells (heap_of (hF1 u) _ _ _ Rp_4)).2.2.2.2.2.2.2.2.2.2.1
    have fp_11 := fun u => (pt_cells (heap_of (hF1 u) _ _ _ Rp_4)).2.2.2.2.2.2.2.2.2.2.2.1
    have fp_12 := fun u => (pt_cells (heap_of (hF1 u) _ _ _ Rp_4)).2.2.2.2.2.2.2.2.2.2.2.2.1
    have fp_13 := fun u => (pt_cells (heap_of (hF1 u) _ _ _ Rp_4)).2.2.2.2.2.2.2.2.2.2.2.2.2
    have fc_0 := fun u => cells4 (heap_of (hF1 u) _ _ _ Rc_4) 0 _ rfl
    have fc_1 := fun u => cells4 (heap_of (hF1 u) _ _ _ Rc_4) 1 _ rfl
    refine wp_region_below F hF2 (by kernel_rfl) (by kernel_rfl) ?_
    repeat first | go_big_quiet_step (first  | fail) | quiet_step (first  | fail)
    refine wpQuiet_nil ?_
    rintro _ ⟨uW, rfl⟩
    have B5 := btr B4 (hF1 uW)
    have Rb_5 := heap_of (hF1 uW) _ _ _ Rb_4
    have Rp_5 := heap_of (hF1 uW) _ _ _ Rp_4
    have Rc_5 := heap_of (hF1 uW) _ _ _ Rc_4
    obtain ⟨w5, hw⟩ : ∃ V, F uW = V := ⟨_, rfl⟩
    rw [hw] at B5 Rb_5 Rp_5 Rc_5
    try rw [hw]
    clear hw hF1 hF2 B4 fb_0 fb_1 fp_0 fp_1 fp_2 fp_3 fp_4 fp_5 fp_6 fp_7 fp_8 fp_9 fp_10 fp_11 fp_12 fp_13 fc_0 fc_1 Rb_4 cb_4_0 cb_4_1 Rp_4 cp_4_0 cp_4_1 cp_4_2 cp_4_3 cp_4_4 cp_4_5 cp_4_6 cp_4_7 cp_4_8 cp_4_9 cp_4_10 cp_4_11 cp_4_12 cp_4_13 Rc_4 cc_4_0 cc_4_1
    clear F
    obtain ⟨cb_5_0, cb_5_1⟩ := cells2s Rb_5
    obtain ⟨cp_5_0, cp_5_1, cp_5_2, cp_5_3, cp_5_4, cp_5_5, cp_5_6, cp_5_7, cp_5_8, cp_5_9, cp_5_10, cp_5_11, cp_5_12, cp_5_13⟩ := pt_cells Rp_5
    obtain ⟨cc_5_0, cc_5_1⟩ := cells2s Rc_5
    go_wp2_with fail
    refine (KT.out _ (fatB FF.out B5) (p10B PP.out B5)).mono ?_
    rintro r w6 ⟨rfl, b6⟩
    have B6 : Below w.heap.size w w6 := btr B5 b6
    have Rb_6 := heap_of b6 _ _ _ Rb_5
    have Rp_6 := heap_of b6 _ _ _ Rp_5
    have Rc_6 := heap_of b6 _ _ _ Rc_5
    clear b6 B5 Rb_5 cb_5_0 cb_5_1 Rp_5 cp_5_0 cp_5_1 cp_5_2 cp_5_3 cp_5_4 cp_5_5 cp_5_6 cp_5_7 cp_5_8 cp_5_9 cp_5_10 cp_5_11 cp_5_12 cp_5_13 Rc_5 cc_5_0 cc_5_1
    obtain ⟨cb_6_0, cb_6_1⟩ := cells2s Rb_6
    obtain ⟨cp_6_0, cp_6_1, cp_6_2, cp_6_3, cp_6_4, cp_6_5, cp_6_6, cp_6_7, cp_6_8, cp_6_9, cp_6_10, cp_6_11, cp_6_12, cp_6_13⟩ := pt_cells Rp_6
    obtain ⟨cc_6_0, cc_6_1⟩ := cells2s Rc_6
    go_wp2_with fail
    refine (KR.out _ (fatB FF.out B6) (p10B PP.out B6) (atB AA.out B6)).mono ?_
    rintro r w7 ⟨rfl, b7⟩
    have B7 : Below w.heap.size w w7 := btr B6 b7
    have Rb_7 := heap_of b7 _ _ _ Rb_6
    have Rp_7 := heap_of b7 _ _ _ Rp_6
    have Rc_7 := heap_of b7 _ _ _ Rc_6
    clear b7 B6 Rb_6 cb_6_0 cb_6_1 Rp_6 cp_6_0 cp_6_1 cp_6_2 cp_6_3 cp_6_4 cp_6_5 cp_6_6 cp_6_7 cp_6_8 cp_6_9 cp_6_10 cp_6_11 cp_6_12 cp_6_13 Rc_6 cc_6_0 cc_6_1
    obtain ⟨cb_7_0, cb_7_1⟩ := cells2s Rb_7
    obtain ⟨cp_7_0, cp_7_1, cp_7_2, cp_7_3, cp_7_4, cp_7_5, cp_7_6, cp_7_7, cp_7_8, cp_7_9, cp_7_10, cp_7_11, cp_7_12, cp_7_13⟩ := pt_cells Rp_7
    obtain ⟨cc_7_0, cc_7_1⟩ := cells2s Rc_7
    have S8 := box B7.size
    have Lb_8 : Box (w.heap.size < w7.heap.size) := box (Array.getElem?_eq_some_iff.1 Rb_7).1
    have Lp_8 : Box (w1.heap.size < w7.heap.size) := box (Array.getElem?_eq_some_iff.1 Rp_7).1
    have Lc_8 : Box (w3.heap.size < w7.heap.size) := box (Array.getElem?_eq_some_iff.1 Rc_7).1
    have Rd_8 := heap_alloc_last w7 (Obj.cells #[.int .u64 (x : Nat), .int .u64 (y : Nat)] 25)
    have B8 := btr B7 (bal w7 (Obj.cells #[.int .u64 (x : Nat), .int .u64 (y : Nat)] 25))
    have Rb_8 := heap_of (bal w7 (Obj.cells #[.int .u64 (x : Nat), .int .u64 (y : Nat)] 25)) _ _ _ Rb_7
    have Rp_8 := heap_of (bal w7 (Obj.cells #[.int .u64 (x : Nat), .int .u64 (y : Nat)] 25)) _ _ _ Rp_7
    have Rc_8 := heap_of (bal w7 (Obj.cells #[.int .u64 (x : Nat), .int .u64 (y : Nat)] 25)) _ _ _ Rc_7
    clear B7 Rb_7 cb_7_0 cb_7_1 Rp_7 cp_7_0 cp_7_1 cp_7_2 cp_7_3 cp_7_4 cp_7_5 cp_7_6 cp_7_7 cp_7_8 cp_7_9 cp_7_10 cp_7_11 cp_7_12 cp_7_13 Rc_7 cc_7_0 cc_7_1
    obtain ⟨cb_8_0, cb_8_1⟩ := cells2s Rb_8
    obtain ⟨cp_8_0, cp_8_1, cp_8_2, cp_8_3, cp_8_4, cp_8_5, cp_8_6, cp_8_7, cp_8_8, cp_8_9, cp_8_10, cp_8_11, cp_8_12, cp_8_13⟩ := pt_cells Rp_8
    obtain ⟨cc_8_0, cc_8_1⟩ := cells2s Rc_8
    obtain ⟨cd_8_0, cd_8_1⟩ := cells2s Rd_8
    go_wp2_with fail
    obtain ⟨F, hF1, hF2⟩ := below_fun (w7.alloc (Obj.cells #[.int .u64 (x : Nat), .int .u64 (y : Nat)] 25))
    have fb_0 := fun u => cells4 (heap_of (hF1 u) _ _ _ Rb_8) 0 _ rfl
    have fb_1 := fun u => cells4 (heap_of (hF1 u) _ _ _ Rb_8) 1 _ rfl
    have fp_0 := fun u => (pt_cells (heap_of (hF1 u) _ _ _ Rp_8)).1
    have fp_1 := fun u => (pt_cells (heap_of (hF1 u) _ _ _ Rp_8)).2.1
    have fp_2 := fun u => (pt_cells (heap_of (hF1 u) _ _ _ Rp_8)).2.2.1
    have fp_3 := fun u => (pt_cells (heap_of (hF1 u) _ _ _ Rp_8)).2.2.2.1
    have fp_4 := fun u => (pt_cells (heap_of (hF1 u) _ _ _ Rp_8)).2.2.2.2.1
    have fp_5 := fun u => (pt_cells (heap_of (hF1 u) _ _ _ Rp_8)).2.2.2.2.2.1
    have fp_6 := fun u => (pt_cells (heap_of (hF1 u) _ _ _ Rp_8)).2.2.2.2.2.2.1
    have fp_7 := fun u => (pt_cells (heap_of (hF1 u) _ _ _ Rp_8)).2.2.2.2.2.2.2.1
    have fp_8 := fun u => (pt_cells (heap_of (hF1 u) _ _ _ Rp_8)).2.2.2.2.2.2.2.2.1
    have fp_9 := fun u => (pt_cells (heap_of (hF1 u) _ _ _ Rp_8)).2.2.2.2.2.2.2.2.2.1
    have fp_10 := fun u => (pt_cells (heap_of (hF1 u) _ _ _ Rp_8)).2.2.2.2.2.2.2.2.2.2.1
    have fp_11 := fun u => (pt_cells (heap_of (hF1 u) _ _ _ Rp_8)).2.2.2.2.2.2.2.2.2.2.2.1
    have fp_12 := fun u => (pt_cells (heap_of (hF1 u) _ _ _ Rp_8)).2.2.2.2.2.2.2.2.2.2.2.2.1
    have fp_13 := fun u => (pt_cells (heap_of (hF1 u) _ _ _ Rp_8)).2.2.2.2.2.2.2.2.2.2.2.2.2
    have fc_0 := fun u => cells4 (heap_of (hF1 u) _ _ _ Rc_8) 0 _ rfl
    have fc_1 := fun u => cells4 (heap_of (hF1 u) _ _ _ Rc_8) 1 _ rfl
    have fd_0 := fun u => cells4 (heap_of (hF1 u) _ _ _ Rd_8) 0 _ rfl
    have fd_1 := fun u => cells4 (heap_of (hF1 u) _ _ _ Rd_8) 1 _ rfl
    have FG : Box (∀ u, FAt (F u)) := box (fun u => fatB FF.out (btr B8 (hF1 u)))
    refine wp_region_below F hF2 (by kernel_rfl) (by kernel_rfl) ?_
    repeat first | go_big_quiet_step (first | (go_at_call_of 22 (Value.agg #[.int .u64 (x : Nat), .int .u64 (y : Nat)]); exact quietF hF1 hF2 (KF.out _ (FG.out _))) | (go_at_call_of 22 (Value.agg #[.int .u64 (p : Nat), .int .u64 (q : Nat)]); exact quietF hF1 hF2 (KG.out _ (FG.out _))) | fail) | quiet_step (first | (go_at_call_of 22 (Value.agg #[.int .u64 (x : Nat), .int .u64 (y : Nat)]); exact quietF hF1 hF2 (KF.out _ (FG.out _))) | (go_at_call_of 22 (Value.agg #[.int .u64 (p : Nat), .int .u64 (q : Nat)]); exact quietF hF1 hF2 (KG.out _ (FG.out _))) | fail)
    refine wpQuiet_nil ?_
    rintro _ ⟨uW, rfl⟩
    have B9 := btr B8 (hF1 uW)
    have Rb_9 := heap_of (hF1 uW) _ _ _ Rb_8
    have Rp_9 := heap_of (hF1 uW) _ _ _ Rp_8
    have Rc_9 := heap_of (hF1 uW) _ _ _ Rc_8
    have Rd_9 := heap_of (hF1 uW) _ _ _ Rd_8
    obtain ⟨w9, hw⟩ : ∃ V, F uW = V := ⟨_, rfl⟩
    rw [hw] at B9 Rb_9 Rp_9 Rc_9 Rd_9
    try rw [hw]
    clear hw hF1 hF2 B8 fb_0 fb_1 fp_0 fp_1 fp_2 fp_3 fp_4 fp_5 fp_6 fp_7 fp_8 fp_9 fp_10 fp_11 fp_12 fp_13 fc_0 fc_1 fd_0 fd_1 Rb_8 cb_8_0 cb_8_1 Rp_8 cp_8_0 cp_8_1 cp_8_2 cp_8_3 cp_8_4 cp_8_5 cp_8_6 cp_8_7 cp_8_8 cp_8_9 cp_8_10 cp_8_11 cp_8_12 cp_8_13 Rc_8 cc_8_0 cc_8_1 Rd_8 cd_8_0 cd_8_1
    clear FG
    clear F
    obtain ⟨cb_9_0, cb_9_1⟩ := cells2s Rb_9
    obtain ⟨cp_9_0, cp_9_1, cp_9_2, cp_9_3, cp_9_4, cp_9_5, cp_9_6, cp_9_7, cp_9_8, cp_9_9, cp_9_10, cp_9_11, cp_9_12, cp_9_13⟩ := pt_cells Rp_9
    obtain ⟨cc_9_0, cc_9_1⟩ := cells2s Rc_9
    obtain ⟨cd_9_0, cd_9_1⟩ := cells2s Rd_9
    go_wp2_with fail
    refine (KV.out _ (fatB FF.out B9) (tabB TT.out B9)).mono ?_
    rintro r w10 ⟨rfl, b10⟩
    have B10 : Below w.heap.size w w10 := btr B9 b10
    have Rb_10 := heap_of b10 _ _ _ Rb_9
    have Rp_10 := heap_of b10 _ _ _ Rp_9
    have Rc_10 := heap_of b10 _ _ _ Rc_9
    have Rd_10 := heap_of b10 _ _ _ Rd_9
    clear b10 B9 Rb_9 cb_9_0 cb_9_1 Rp_9 cp_9_0 cp_9_1 cp_9_2 cp_9_3 cp_9_4 cp_9_5 cp_9_6 cp_9_7 cp_9_8 cp_9_9 cp_9_10 cp_9_11 cp_9_12 cp_9_13 Rc_9 cc_9_0 cc_9_1 Rd_9 cd_9_0 cd_9_1
    obtain ⟨cb_10_0, cb_10_1⟩ := cells2s Rb_10
    obtain ⟨cp_10_0, cp_10_1, cp_10_2, cp_10_3, cp_10_4, cp_10_5, cp_10_6, cp_10_7, cp_10_8, cp_10_9, cp_10_10, cp_10_11, cp_10_12, cp_10_13⟩ := pt_cells Rp_10
    obtain ⟨cc_10_0, cc_10_1⟩ := cells2s Rc_10
    obtain ⟨cd_10_0, cd_10_1⟩ := cells2s Rd_10
    have S11 := box B10.size
    have Lb_11 : Box (w.heap.size < w10.heap.size) := box (Array.getElem?_eq_some_iff.1 Rb_10).1
    have Lp_11 : Box (w1.heap.size < w10.heap.size) := box (Array.getElem?_eq_some_iff.1 Rp_10).1
    have Lc_11 : Box (w3.heap.size < w10.heap.size) := box (Array.getElem?_eq_some_iff.1 Rc_10).1
    have Ld_11 : Box (w7.heap.size < w10.heap.size) := box (Array.getElem?_eq_some_iff.1 Rd_10).1
    have Rv_11 := heap_alloc_last w10 (Obj.cells #[.bool b1, .string s1, .string t1, .int .i64 e1] 28)
    have B11 := btr B10 (bal w10 (Obj.cells #[.bool b1, .string s1, .string t1, .int .i64 e1] 28))
    have Rb_11 := heap_of (bal w10 (Obj.cells #[.bool b1, .string s1, .string t1, .int .i64 e1] 28)) _ _ _ Rb_10
    have Rp_11 := heap_of (bal w10 (Obj.cells #[.bool b1, .string s1, .string t1, .int .i64 e1] 28)) _ _ _ Rp_10
    have Rc_11 := heap_of (bal w10 (Obj.cells #[.bool b1, .string s1, .string t1, .int .i64 e1] 28)) _ _ _ Rc_10
    have Rd_11 := heap_of (bal w10 (Obj.cells #[.bool b1, .string s1, .string t1, .int .i64 e1] 28)) _ _ _ Rd_10
    clear B10 Rb_10 cb_10_0 cb_10_1 Rp_10 cp_10_0 cp_10_1 cp_10_2 cp_10_3 cp_10_4 cp_10_5 cp_10_6 cp_10_7 cp_10_8 cp_10_9 cp_10_10 cp_10_11 cp_10_12 cp_10_13 Rc_10 cc_10_0 cc_10_1 Rd_10 cd_10_0 cd_10_1
    obtain ⟨cb_11_0, cb_11_1⟩ := cells2s Rb_11
    obtain ⟨cp_11_0, cp_11_1, cp_11_2, cp_11_3, cp_11_4, cp_11_5, cp_11_6, cp_11_7, cp_11_8, cp_11_9, cp_11_10, cp_11_11, cp_11_12, cp_11_13⟩ := pt_cells Rp_11
    obtain ⟨cc_11_0, cc_11_1⟩ := cells2s Rc_11
    obtain ⟨cd_11_0, cd_11_1⟩ := cells2s Rd_11
    obtain ⟨cv_11_0, cv_11_1, cv_11_2, cv_11_3⟩ := cells4s Rv_11
    go_wp2_with fail
    refine (KA.out _ (fatB FF.out B11)).mono ?_
    rintro r w12 ⟨rfl, b12⟩
    have B12 : Below w.heap.size w w12 := btr B11 b12
    have Rb_12 := heap_of b12 _ _ _ Rb_11
    have Rp_12 := heap_of b12 _ _ _ Rp_11
    have Rc_12 := heap_of b12 _ _ _ Rc_11
    have Rd_12 := heap_of b12 _ _ _ Rd_11
    have Rv_12 := heap_of b12 _ _ _ Rv_11
    clear b12 B11 Rb_11 cb_11_0 cb_11_1 Rp_11 cp_11_0 cp_11_1 cp_11_2 cp_11_3 cp_11_4 cp_11_5 cp_11_6 cp_11_7 cp_11_8 cp_11_9 cp_11_10 cp_11_11 cp_11_12 cp_11_13 Rc_11 cc_11_0 cc_11_1 Rd_11 cd_11_0 cd_11_1 Rv_11 cv_11_0 cv_11_1 cv_11_2 cv_11_3
    obtain ⟨cb_12_0, cb_12_1⟩ := cells2s Rb_12
    obtain ⟨cp_12_0, cp_12_1, cp_12_2, cp_12_3, cp_12_4, cp_12_5, cp_12_6, cp_12_7, cp_12_8, cp_12_9, cp_12_10, cp_12_11, cp_12_12, cp_12_13⟩ := pt_cells Rp_12
    obtain ⟨cc_12_0, cc_12_1⟩ := cells2s Rc_12
    obtain ⟨cd_12_0, cd_12_1⟩ := cells2s Rd_12
    obtain ⟨cv_12_0, cv_12_1, cv_12_2, cv_12_3⟩ := cells4s Rv_12
    go_wp2
    go_ret
    exact ⟨rfl, B12⟩
set_option maxRecDepth 100000 in
set_option maxHeartbeats 8000000 in
theorem back_r4 (f : Int) (x y : Nat) (c s rr : Nat) (X : Int) (t : ByteArray) (p q : Nat) (b1 : Bool) (s1 t1 : ByteArray) (e1 : Int) (w : World)
    (KU : Box (∀ w, FAt w → Calls Tryz.prog 20 #[.int .u8 f, .agg #[.int .u64 (x : Nat), .int .u64 (y : Nat)]] w fun r w' => r = .returned (.tuple #[.agg (pt c s X rr), .int .i64 0]) ∧ Below w.heap.size w w'))
    (KQ : Box (∀ w, FAt w → Calls Tryz.prog 21 #[.int .u8 f, .agg (pt c s X rr)] w fun r w' => r = .returned (.tuple #[.agg #[.int .u64 (x : Nat), .int .u64 (y : Nat)], .int .i64 0]) ∧ Below w.heap.size w w'))
    (KT : Box (∀ w, FAt w → P10 w → Calls Tryz.prog 16 #[.int .u8 f, .agg #[.int .u64 (x : Nat), .int .u64 (y : Nat)]] w fun r w' => r = .returned (.tuple #[.string t, .int .i64 0]) ∧ Below w.heap.size w w'))
    (KR : Box (∀ w, FAt w → P10 w → Atoiable w → Calls Tryz.prog 18 #[.int .u8 f, .string t] w fun r w' => r = .returned (.tuple #[.agg #[.int .u64 (x : Nat), .int .u64 (y : Nat)], .int .i64 0]) ∧ Below w.heap.size w w'))
    (KF : Box (∀ w, FAt w → Calls Tryz.prog 22 #[.int .u8 f, .agg #[.int .u64 (x : Nat), .int .u64 (y : Nat)]] w fun r w' => r = .returned (.agg #[.int .u64 (p : Nat), .int .u64 (q : Nat)]) ∧ Below w.heap.size w w'))
    (KG : Box (∀ w, FAt w → Calls Tryz.prog 22 #[.int .u8 f, .agg #[.int .u64 (p : Nat), .int .u64 (q : Nat)]] w fun r w' => r = .returned (.agg #[.int .u64 (x : Nat), .int .u64 (y : Nat)]) ∧ Below w.heap.size w w'))
    (KV : Box (∀ w, FAt w → TabAt w → Calls Tryz.prog 8 #[.int .u8 f, .agg #[.int .u64 (x : Nat), .int .u64 (y : Nat)]] w fun r w' => r = .returned (.tuple #[.agg #[.bool b1, .string s1, .string t1, .int .i64 e1], .int .i64 0]) ∧ Below w.heap.size w w'))
    (n8 : decide ((8 : Int) ≤ (c : Int)) = false)
    (KO : Box (∀ w, FAt w → TabAt w → Calls Tryz.prog 12 #[.int .u8 f, .agg #[.bool b1, .string s1, .string t1, .int .i64 e1]] w fun r w' => r = .returned (.tuple #[.agg #[.int .u64 (x : Nat), .int .u64 (y : Nat)], .bool true, .int .i64 0]) ∧ Below w.heap.size w w'))
    (hT : FAt w) (hT2 : TabAt w) (hP : P10 w) (hA : Atoiable w) : Calls Tryz.prog 5 #[.int .u8 f, .agg #[.int .u64 (x : Nat), .int .u64 (y : Nat)]] w fun r w' => r = .returned (.bool true) ∧ Below w.heap.size w w' := by
  have FF := box hT
  have TT := box hT2
  have PP := box hP
  have AA := box hA
  have KA := box kalive
  clear hT hT2 hP hA
  have hat := cw_at 6
  have hz := cw6z
  have hff := cw6f
  have hs0 := st0
  have hcs : ∀ x, ((cw 6 x).size = 6) = True := fun x => eq_true (cw_size 6 x)
  have hp1 := ptf
  have hp3 := ptz
  have hp4 := st_p0
  have hp5 : ∀ (c s : Nat) (x : Int) (r : Nat), ((pt c s x r).size = 14) = True := fun _ _ _ _ => eq_true rfl
  obtain ⟨Rb_0, B0⟩ := opn1 w (Obj.cells #[.int .u64 (x : Nat), .int .u64 (y : Nat)] 25)
  go_enter Tryz.func5, Tryz.ntmps5
  go_wp2_with fail
  refine (KU.out _ (fatB FF.out B0)).mono ?_
  rintro r w1 ⟨rfl, b1⟩
  have B1 : Below w.heap.size w w1 := btr B0 b1
  have Rb_1 := heap_of b1 _ _ _ Rb_0
  clear b1 B0 Rb_0
  obtain ⟨cb_1_0, cb_1_1⟩ := cells2s Rb_1
  have S2 := box B1.size
  have Lb_2 : Box (w.heap.size < w1.heap.size) := box (Array.getElem?_eq_some_iff.1 Rb_1).1
  have Rp_2 := heap_alloc_last w1 (Obj.cells (pt c s X rr) 55)
  have B2 := btr B1 (bal w1 (Obj.cells (pt c s X rr) 55))
  have Rb_2 := heap_of (bal w1 (Obj.cells (pt c s X rr) 55)) _ _ _ Rb_1
  clear B1 Rb_1 cb_1_0 cb_1_1
  obtain ⟨cb_2_0, cb_2_1⟩ := cells2s Rb_2
  obtain ⟨cp_2_0, cp_2_1, cp_2_2, cp_2_3, cp_2_4, cp_2_5, cp_2_6, cp_2_7, cp_2_8, cp_2_9, cp_2_10, cp_2_11, cp_2_12, cp_2_13⟩ := pt_cells Rp_2
  go_wp2_with fail
  refine (KQ.out _ (fatB FF.out B2)).mono ?_
  rintro r w3 ⟨rfl, b3⟩
  have B3 : Below w.heap.size w w3 := btr B2 b3
  have Rb_3 := heap_of b3 _ _ _ Rb_2
  have Rp_3 := heap_of b3 _ _ _ Rp_2
  clear b3 B2 Rb_2 cb_2_0 cb_2_1 Rp_2 cp_2_0 cp_2_1 cp_2_2 cp_2_3 cp_2_4 cp_2_5 cp_2_6 cp_2_7 cp_2_8 cp_2_9 cp_2_10 cp_2_11 cp_2_12 cp_2_13
  obtain ⟨cb_3_0, cb_3_1⟩ := cells2s Rb_3
  obtain ⟨cp_3_0, cp_3_1, cp_3_2, cp_3_3, cp_3_4, cp_3_5, cp_3_6, cp_3_7, cp_3_8, cp_3_9, cp_3_10, cp_3_11, cp_3_12, cp_3_13⟩ := pt_cells Rp_3
  have S4 := box B3.size
  have Lb_4 : Box (w.heap.size < w3.heap.size) := box (Array.getElem?_eq_some_iff.1 Rb_3).1
  have Lp_4 : Box (w1.heap.size < w3.heap.size) := box (Array.getElem?_eq_some_iff.1 Rp_3).1
  have Rc_4 := heap_alloc_last w3 (Obj.cells #[.int .u64 (x : Nat), .int .u64 (y : Nat)] 25)
  have B4 := btr B3 (bal w3 (Obj.cells #[.int .u64 (x : Nat), .int .u64 (y : Nat)] 25))
  have Rb_4 := heap_of (bal w3 (Obj.cells #[.int .u64 (x : Nat), .int .u64 (y : Nat)] 25)) _ _ _ Rb_3
  have Rp_4 := heap_of (bal w3 (Obj.cells #[.int .u64 (x : Nat), .int .u64 (y : Nat)] 25)) _ _ _ Rp_3
  clear B3 Rb_3 cb_3_0 cb_3_1 Rp_3 cp_3_0 cp_3_1 cp_3_2 cp_3_3 cp_3_4 cp_3_5 cp_3_6 cp_3_7 cp_3_8 cp_3_9 cp_3_10 cp_3_11 cp_3_12 cp_3_13
  obtain ⟨cb_4_0, cb_4_1⟩ := cells2s Rb_4
  obtain ⟨cp_4_0, cp_4_1, cp_4_2, cp_4_3, cp_4_4, cp_4_5, cp_4_6, cp_4_7, cp_4_8, cp_4_9, cp_4_10, cp_4_11, cp_4_12, cp_4_13⟩ := pt_cells Rp_4
  obtain ⟨cc_4_0, cc_4_1⟩ := cells2s Rc_4
  go_wp2_with fail
  obtain ⟨F, hF1, hF2⟩ := below_fun (w3.alloc (Obj.cells #[.int .u64 (x : Nat), .int .u64 (y : Nat)] 25))
  have fb_0 := fun u => cells4 (heap_of (hF1 u) _ _ _ Rb_4) 0 _ rfl
  have fb_1 := fun u => cells4 (heap_of (hF1 u) _ _ _ Rb_4) 1 _ rfl
  have fp_0 := fun u => (pt_cells (heap_of (hF1 u) _ _ _ Rp_4)).1
  have fp_1 := fun u => (pt_cells (heap_of (hF1 u) _ _ _ Rp_4)).2.1
  have fp_2 := fun u => (pt_cells (heap_of (hF1 u) _ _ _ Rp_4)).2.2.1
  have fp_3 := fun u => (pt_cells (heap_of (hF1 u) _ _ _ Rp_4)).2.2.2.1
  have fp_4 := fun u => (pt_cells (heap_of (hF1 u) _ _ _ Rp_4)).2.2.2.2.1
  have fp_5 := fun u => (pt_cells (heap_of (hF1 u) _ _ _ Rp_4)).2.2.2.2.2.1
  have fp_6 := fun u => (pt_cells (heap_of (hF1 u) _ _ _ Rp_4)).2.2.2.2.2.2.1
  have fp_7 := fun u => (pt_cells (heap_of (hF1 u) _ _ _ Rp_4)).2.2.2.2.2.2.2.1
  have fp_8 := fun u => (pt_cells (heap_of (hF1 u) _ _ _ Rp_4)).2.2.2.2.2.2.2.2.1
  have fp_9 := fun u => (pt_cells (heap_of (hF1 u) _ _ _ Rp_4)).2.2.2.2.2.2.2.2.2.1
  have fp_10 := fun u => (pt_cells (heap_of (hF1 u) _ _ _ Rp_4)).2.2.2.2.2.2.2.2.2.2.1
  have fp_11 := fun u => (pt_cells (heap_of (hF1 u) _ _ _ Rp_4)).2.2.2.2.2.2.2.2.2.2.2.1
  have fp_12 := fun u => (pt_cells (heap_of (hF1 u) _ _ _ Rp_4)).2.2.2.2.2.2.2.2.2.2.2.2.1
  have fp_13 := fun u => (pt_cells (heap_of (hF1 u) _ _ _ Rp_4)).2.2.2.2.2.2.2.2.2.2.2.2.2
  have fc_0 := fun u => cells4 (heap_of (hF1 u) _ _ _ Rc_4) 0 _ rfl
  have fc_1 := fun u => cells4 (heap_of (hF1 u) _ _ _ Rc_4) 1 _ rfl
  refine wp_region_below F hF2 (by kernel_rfl) (by kernel_rfl) ?_
  repeat first | go_big_quiet_step (first  | fail) | quiet_step (first  | fail)
  refine wpQuiet_nil ?_
  rintro _ ⟨uW, rfl⟩
  have B5 := btr B4 (hF1 uW)
  have Rb_5 := heap_of (hF1 uW) _ _ _ Rb_4
  have Rp_5 := heap_of (hF1 uW) _ _ _ Rp_4
  have Rc_5 := heap_of (hF1 uW) _ _ _ Rc_4
  obtain ⟨w5, hw⟩ : ∃ V, F uW = V := ⟨_, rfl⟩
  rw [hw] at B5 Rb_5 Rp_5 Rc_5
  try rw [hw]
  clear hw hF1 hF2 B4 fb_0 fb_1 fp_0 fp_1 fp_2 fp_3 fp_4 fp_5 fp_6 fp_7 fp_8 fp_9 fp_10 fp_11 fp_12 fp_13 fc_0 fc_1 Rb_4 cb_4_0 cb_4_1 Rp_4 cp_4_0 cp_4_1 cp_4_2 cp_4_3 cp_4_4 cp_4_5 cp_4_6 cp_4_7 cp_4_8 cp_4_9 cp_4_10 cp_4_11 cp_4_12 cp_4_13 Rc_4 cc_4_0 cc_4_1
  clear F
  obtain ⟨cb_5_0, cb_5_1⟩ := cells2s Rb_5
  obtain ⟨cp_5_0, cp_5_1, cp_5_2, cp_5_3, cp_5_4, cp_5_5, cp_5_6, cp_5_7, cp_5_8, cp_5_9, cp_5_10, cp_5_11, cp_5_12, cp_5_13⟩ := pt_cells Rp_5
  obtain ⟨cc_5_0, cc_5_1⟩ := cells2s Rc_5
  go_wp2_with fail
  refine (KT.out _ (fatB FF.out B5) (p10B PP.out B5)).mono ?_
  rintro r w6 ⟨rfl, b6⟩
  have B6 : Below w.heap.size w w6 := btr B5 b6
  have Rb_6 := heap_of b6 _ _ _ Rb_5
  have Rp_6 := heap_of b6 _ _ _ Rp_5
  have Rc_6 := heap_of b6 _ _ _ Rc_5
  clear b6 B5 Rb_5 cb_5_0 cb_5_1 Rp_5 cp_5_0 cp_5_1 cp_5_2 cp_5_3 cp_5_4 cp_5_5 cp_5_6 cp_5_7 cp_5_8 cp_5_9 cp_5_10 cp_5_11 cp_5_12 cp_5_13 Rc_5 cc_5_0 cc_5_1
  obtain ⟨cb_6_0, cb_6_1⟩ := cells2s Rb_6
  obtain ⟨cp_6_0, cp_6_1, cp_6_2, cp_6_3, cp_6_4, cp_6_5, cp_6_6, cp_6_7, cp_6_8, cp_6_9, cp_6_10, cp_6_11, cp_6_12, cp_6_13⟩ := pt_cells Rp_6
  obtain ⟨cc_6_0, cc_6_1⟩ := cells2s Rc_6
  go_wp2_with fail
  refine (KR.out _ (fatB FF.out B6) (p10B PP.out B6) (atB AA.out B6)).mono ?_
  rintro r w7 ⟨rfl, b7⟩
  have B7 : Below w.heap.size w w7 := btr B6 b7
  have Rb_7 := heap_of b7 _ _ _ Rb_6
  have Rp_7 := heap_of b7 _ _ _ Rp_6
  have Rc_7 := heap_of b7 _ _ _ Rc_6
  clear b7 B6 Rb_6 cb_6_0 cb_6_1 Rp_6 cp_6_0 cp_6_1 cp_6_2 cp_6_3 cp_6_4 cp_6_5 cp_6_6 cp_6_7 cp_6_8 cp_6_9 cp_6_10 cp_6_11 cp_6_12 cp_6_13 Rc_6 cc_6_0 cc_6_1
  obtain ⟨cb_7_0, cb_7_1⟩ := cells2s Rb_7
  obtain ⟨cp_7_0, cp_7_1, cp_7_2, cp_7_3, cp_7_4, cp_7_5, cp_7_6, cp_7_7, cp_7_8, cp_7_9, cp_7_10, cp_7_11, cp_7_12, cp_7_13⟩ := pt_cells Rp_7
  obtain ⟨cc_7_0, cc_7_1⟩ := cells2s Rc_7
  have S8 := box B7.size
  have Lb_8 : Box (w.heap.size < w7.heap.size) := box (Array.getElem?_eq_some_iff.1 Rb_7).1
  have Lp_8 : Box (w1.heap.size < w7.heap.size) := box (Array.getElem?_eq_some_iff.1 Rp_7).1
  have Lc_8 : Box (w3.heap.size < w7.heap.size) := box (Array.getElem?_eq_some_iff.1 Rc_7).1
  have Rd_8 := heap_alloc_last w7 (Obj.cells #[.int .u64 (x : Nat), .int .u64 (y : Nat)] 25)
  have B8 := btr B7 (bal w7 (Obj.cells #[.int .u64 (x : Nat), .int .u64 (y : Nat)] 25))
  have Rb_8 := heap_of (bal w7 (Obj.cells #[.int .u64 (x : Nat), .int .u64 (y : Nat)] 25)) _ _ _ Rb_7
  have Rp_8 := heap_of (bal w7 (Obj.cells #[.int .u64 (x : Nat), .int .u64 (y : Nat)] 25)) _ _ _ Rp_7
  have Rc_8 := heap_of (bal w7 (Obj.cells #[.int .u64 (x : Nat), .int .u64 (y : Nat)] 25)) _ _ _ Rc_7
  clear B7 Rb_7 cb_7_0 cb_7_1 Rp_7 cp_7_0 cp_7_1 cp_7_2 cp_7_3 cp_7_4 cp_7_5 cp_7_6 cp_7_7 cp_7_8 cp_7_9 cp_7_10 cp_7_11 cp_7_12 cp_7_13 Rc_7 cc_7_0 cc_7_1
  obtain ⟨cb_8_0, cb_8_1⟩ := cells2s Rb_8
  obtain ⟨cp_8_0, cp_8_1, cp_8_2, cp_8_3, cp_8_4, cp_8_5, cp_8_6, cp_8_7, cp_8_8, cp_8_9, cp_8_10, cp_8_11, cp_8_12, cp_8_13⟩ := pt_cells Rp_8
  obtain ⟨cc_8_0, cc_8_1⟩ := cells2s Rc_8
  obtain ⟨cd_8_0, cd_8_1⟩ := cells2s Rd_8
  go_wp2_with fail
  obtain ⟨F, hF1, hF2⟩ := below_fun (w7.alloc (Obj.cells #[.int .u64 (x : Nat), .int .u64 (y : Nat)] 25))
  have fb_0 := fun u => cells4 (heap_of (hF1 u) _ _ _ Rb_8) 0 _ rfl
  have fb_1 := fun u => cells4 (heap_of (hF1 u) _ _ _ Rb_8) 1 _ rfl
  have fp_0 := fun u => (pt_cells (heap_of (hF1 u) _ _ _ Rp_8)).1
  have fp_1 := fun u => (pt_cells (heap_of (hF1 u) _ _ _ Rp_8)).2.1
  have fp_2 := fun u => (pt_cells (heap_of (hF1 u) _ _ _ Rp_8)).2.2.1
  have fp_3 := fun u => (pt_cells (heap_of (hF1 u) _ _ _ Rp_8)).2.2.2.1
  have fp_4 := fun u => (pt_cells (heap_of (hF1 u) _ _ _ Rp_8)).2.2.2.2.1
  have fp_5 := fun u => (pt_cells (heap_of (hF1 u) _ _ _ Rp_8)).2.2.2.2.2.1
  have fp_6 := fun u => (pt_cells (heap_of (hF1 u) _ _ _ Rp_8)).2.2.2.2.2.2.1
  have fp_7 := fun u => (pt_cells (heap_of (hF1 u) _ _ _ Rp_8)).2.2.2.2.2.2.2.1
  have fp_8 := fun u => (pt_cells (heap_of (hF1 u) _ _ _ Rp_8)).2.2.2.2.2.2.2.2.1
  have fp_9 := fun u => (pt_cells (heap_of (hF1 u) _ _ _ Rp_8)).2.2.2.2.2.2.2.2.2.1
  have fp_10 := fun u => (pt_cells (heap_of (hF1 u) _ _ _ Rp_8)).2.2.2.2.2.2.2.2.2.2.1
  have fp_11 := fun u => (pt_cells (heap_of (hF1 u) _ _ _ Rp_8)).2.2.2.2.2.2.2.2.2.2.2.1
  have fp_12 := fun u => (pt_cells (heap_of (hF1 u) _ _ _ Rp_8)).2.2.2.2.2.2.2.2.2.2.2.2.1
  have fp_13 := fun u => (pt_cells (heap_of (hF1 u) _ _ _ Rp_8)).2.2.2.2.2.2.2.2.2.2.2.2.2
  have fc_0 := fun u => cells4 (heap_of (hF1 u) _ _ _ Rc_8) 0 _ rfl
  have fc_1 := fun u => cells4 (heap_of (hF1 u) _ _ _ Rc_8) 1 _ rfl
  have fd_0 := fun u => cells4 (heap_of (hF1 u) _ _ _ Rd_8) 0 _ rfl
  have fd_1 := fun u => cells4 (heap_of (hF1 u) _ _ _ Rd_8) 1 _ rfl
  have FG : Box (∀ u, FAt (F u)) := box (fun u => fatB FF.out (btr B8 (hF1 u)))
  refine wp_region_below F hF2 (by kernel_rfl) (by kernel_rfl) ?_
  repeat first | go_big_quiet_step (first | (go_at_call_of 22 (Value.agg #[.int .u64 (x : Nat), .int .u64 (y : Nat)]); exact quietF hF1 hF2 (KF.out _ (FG.out _))) | (go_at_call_of 22 (Value.agg #[.int .u64 (p : Nat), .int .u64 (q : Nat)]); exact quietF hF1 hF2 (KG.out _ (FG.out _))) | fail) | quiet_step (first | (go_at_call_of 22 (Value.agg #[.int .u64 (x : Nat), .int .u64 (y : Nat)]); exact quietF hF1 hF2 (KF.out _ (FG.out _))) | (go_at_call_of 22 (Value.agg #[.int .u64 (p : Nat), .int .u64 (q : Nat)]); exact quietF hF1 hF2 (KG.out _ (FG.out _))) | fail)
  refine wpQuiet_nil ?_
  rintro _ ⟨uW, rfl⟩
  have B9 := btr B8 (hF1 uW)
  have Rb_9 := heap_of (hF1 uW) _ _ _ Rb_8
  have Rp_9 := heap_of (hF1 uW) _ _ _ Rp_8
  have Rc_9 := heap_of (hF1 uW) _ _ _ Rc_8
  have Rd_9 := heap_of (hF1 uW) _ _ _ Rd_8
  obtain ⟨w9, hw⟩ : ∃ V, F uW = V := ⟨_, rfl⟩
  rw [hw] at B9 Rb_9 Rp_9 Rc_9 Rd_9
  try rw [hw]
  clear hw hF1 hF2 B8 fb_0 fb_1 fp_0 fp_1 fp_2 fp_3 fp_4 fp_5 fp_6 fp_7 fp_8 fp_9 fp_10 fp_11 fp_12 fp_13 fc_0 fc_1 fd_0 fd_1 Rb_8 cb_8_0 cb_8_1 Rp_8 cp_8_0 cp_8_1 cp_8_2 cp_8_3 cp_8_4 cp_8_5 cp_8_6 cp_8_7 cp_8_8 cp_8_9 cp_8_10 cp_8_11 cp_8_12 cp_8_13 Rc_8 cc_8_0 cc_8_1 Rd_8 cd_8_0 cd_8_1
  clear FG
  clear F
  obtain ⟨cb_9_0, cb_9_1⟩ := cells2s Rb_9
  obtain ⟨cp_9_0, cp_9_1, cp_9_2, cp_9_3, cp_9_4, cp_9_5, cp_9_6, cp_9_7, cp_9_8, cp_9_9, cp_9_10, cp_9_11, cp_9_12, cp_9_13⟩ := pt_cells Rp_9
  obtain ⟨cc_9_0, cc_9_1⟩ := cells2s Rc_9
  obtain ⟨cd_9_0, cd_9_1⟩ := cells2s Rd_9
  go_wp2_with fail
  refine (KV.out _ (fatB FF.out B9) (tabB TT.out B9)).mono ?_
  rintro r w10 ⟨rfl, b10⟩
  have B10 : Below w.heap.size w w10 := btr B9 b10
  have Rb_10 := heap_of b10 _ _ _ Rb_9
  have Rp_10 := heap_of b10 _ _ _ Rp_9
  have Rc_10 := heap_of b10 _ _ _ Rc_9
  have Rd_10 := heap_of b10 _ _ _ Rd_9
  clear b10 B9 Rb_9 cb_9_0 cb_9_1 Rp_9 cp_9_0 cp_9_1 cp_9_2 cp_9_3 cp_9_4 cp_9_5 cp_9_6 cp_9_7 cp_9_8 cp_9_9 cp_9_10 cp_9_11 cp_9_12 cp_9_13 Rc_9 cc_9_0 cc_9_1 Rd_9 cd_9_0 cd_9_1
  obtain ⟨cb_10_0, cb_10_1⟩ := cells2s Rb_10
  obtain ⟨cp_10_0, cp_10_1, cp_10_2, cp_10_3, cp_10_4, cp_10_5, cp_10_6, cp_10_7, cp_10_8, cp_10_9, cp_10_10, cp_10_11, cp_10_12, cp_10_13⟩ := pt_cells Rp_10
  obtain ⟨cc_10_0, cc_10_1⟩ := cells2s Rc_10
  obtain ⟨cd_10_0, cd_10_1⟩ := cells2s Rd_10
  have S11 := box B10.size
  have Lb_11 : Box (w.heap.size < w10.heap.size) := box (Array.getElem?_eq_some_iff.1 Rb_10).1
  have Lp_11 : Box (w1.heap.size < w10.heap.size) := box (Array.getElem?_eq_some_iff.1 Rp_10).1
  have Lc_11 : Box (w3.heap.size < w10.heap.size) := box (Array.getElem?_eq_some_iff.1 Rc_10).1
  have Ld_11 : Box (w7.heap.size < w10.heap.size) := box (Array.getElem?_eq_some_iff.1 Rd_10).1
  have Rv_11 := heap_alloc_last w10 (Obj.cells #[.bool b1, .string s1, .string t1, .int .i64 e1] 28)
  have B11 := btr B10 (bal w10 (Obj.cells #[.bool b1, .string s1, .string t1, .int .i64 e1] 28))
  have Rb_11 := heap_of (bal w10 (Obj.cells #[.bool b1, .string s1, .string t1, .int .i64 e1] 28)) _ _ _ Rb_10
  have Rp_11 := heap_of (bal w10 (Obj.cells #[.bool b1, .string s1, .string t1, .int .i64 e1] 28)) _ _ _ Rp_10
  have Rc_11 := heap_of (bal w10 (Obj.cells #[.bool b1, .string s1, .string t1, .int .i64 e1] 28)) _ _ _ Rc_10
  have Rd_11 := heap_of (bal w10 (Obj.cells #[.bool b1, .string s1, .string t1, .int .i64 e1] 28)) _ _ _ Rd_10
  clear B10 Rb_10 cb_10_0 cb_10_1 Rp_10 cp_10_0 cp_10_1 cp_10_2 cp_10_3 cp_10_4 cp_10_5 cp_10_6 cp_10_7 cp_10_8 cp_10_9 cp_10_10 cp_10_11 cp_10_12 cp_10_13 Rc_10 cc_10_0 cc_10_1 Rd_10 cd_10_0 cd_10_1
  obtain ⟨cb_11_0, cb_11_1⟩ := cells2s Rb_11
  obtain ⟨cp_11_0, cp_11_1, cp_11_2, cp_11_3, cp_11_4, cp_11_5, cp_11_6, cp_11_7, cp_11_8, cp_11_9, cp_11_10, cp_11_11, cp_11_12, cp_11_13⟩ := pt_cells Rp_11
  obtain ⟨cc_11_0, cc_11_1⟩ := cells2s Rc_11
  obtain ⟨cd_11_0, cd_11_1⟩ := cells2s Rd_11
  obtain ⟨cv_11_0, cv_11_1, cv_11_2, cv_11_3⟩ := cells4s Rv_11
  go_wp2_with fail
  refine (KO.out _ (fatB FF.out B11) (tabB TT.out B11)).mono ?_
  rintro r w12 ⟨rfl, b12⟩
  have B12 : Below w.heap.size w w12 := btr B11 b12
  have Rb_12 := heap_of b12 _ _ _ Rb_11
  have Rp_12 := heap_of b12 _ _ _ Rp_11
  have Rc_12 := heap_of b12 _ _ _ Rc_11
  have Rd_12 := heap_of b12 _ _ _ Rd_11
  have Rv_12 := heap_of b12 _ _ _ Rv_11
  clear b12 B11 Rb_11 cb_11_0 cb_11_1 Rp_11 cp_11_0 cp_11_1 cp_11_2 cp_11_3 cp_11_4 cp_11_5 cp_11_6 cp_11_7 cp_11_8 cp_11_9 cp_11_10 cp_11_11 cp_11_12 cp_11_13 Rc_11 cc_11_0 cc_11_1 Rd_11 cd_11_0 cd_11_1 Rv_11 cv_11_0 cv_11_1 cv_11_2 cv_11_3
  obtain ⟨cb_12_0, cb_12_1⟩ := cells2s Rb_12
  obtain ⟨cp_12_0, cp_12_1, cp_12_2, cp_12_3, cp_12_4, cp_12_5, cp_12_6, cp_12_7, cp_12_8, cp_12_9, cp_12_10, cp_12_11, cp_12_12, cp_12_13⟩ := pt_cells Rp_12
  obtain ⟨cc_12_0, cc_12_1⟩ := cells2s Rc_12
  obtain ⟨cd_12_0, cd_12_1⟩ := cells2s Rd_12
  obtain ⟨cv_12_0, cv_12_1, cv_12_2, cv_12_3⟩ := cells4s Rv_12
  have S13 := box B12.size
  have Lb_13 : Box (w.heap.size < w12.heap.size) := box (Array.getElem?_eq_some_iff.1 Rb_12).1
  have Lp_13 : Box (w1.heap.size < w12.heap.size) := box (Array.getElem?_eq_some_iff.1 Rp_12).1
  have Lc_13 : Box (w3.heap.size < w12.heap.size) := box (Array.getElem?_eq_some_iff.1 Rc_12).1
  have Ld_13 : Box (w7.heap.size < w12.heap.size) := box (Array.getElem?_eq_some_iff.1 Rd_12).1
  have Lv_13 : Box (w10.heap.size < w12.heap.size) := box (Array.getElem?_eq_some_iff.1 Rv_12).1
  have Ro_13 := heap_alloc_last w12 (Obj.cells #[.int .u64 (x : Nat), .int .u64 (y : Nat)] 25)
  have B13 := btr B12 (bal w12 (Obj.cells #[.int .u64 (x : Nat), .int .u64 (y : Nat)] 25))
  have Rb_13 := heap_of (bal w12 (Obj.cells #[.int .u64 (x : Nat), .int .u64 (y : Nat)] 25)) _ _ _ Rb_12
  have Rp_13 := heap_of (bal w12 (Obj.cells #[.int .u64 (x : Nat), .int .u64 (y : Nat)] 25)) _ _ _ Rp_12
  have Rc_13 := heap_of (bal w12 (Obj.cells #[.int .u64 (x : Nat), .int .u64 (y : Nat)] 25)) _ _ _ Rc_12
  have Rd_13 := heap_of (bal w12 (Obj.cells #[.int .u64 (x : Nat), .int .u64 (y : Nat)] 25)) _ _ _ Rd_12
  have Rv_13 := heap_of (bal w12 (Obj.cells #[.int .u64 (x : Nat), .int .u64 (y : Nat)] 25)) _ _ _ Rv_12
  clear B12 Rb_12 cb_12_0 cb_12_1 Rp_12 cp_12_0 cp_12_1 cp_12_2 cp_12_3 cp_12_4 cp_12_5 cp_12_6 cp_12_7 cp_12_8 cp_12_9 cp_12_10 cp_12_11 cp_12_12 cp_12_13 Rc_12 cc_12_0 cc_12_1 Rd_12 cd_12_0 cd_12_1 Rv_12 cv_12_0 cv_12_1 cv_12_2 cv_12_3
  obtain ⟨cb_13_0, cb_13_1⟩ := cells2s Rb_13
  obtain ⟨cp_13_0, cp_13_1, cp_13_2, cp_13_3, cp_13_4, cp_13_5, cp_13_6, cp_13_7, cp_13_8, cp_13_9, cp_13_10, cp_13_11, cp_13_12, cp_13_13⟩ := pt_cells Rp_13
  obtain ⟨cc_13_0, cc_13_1⟩ := cells2s Rc_13
  obtain ⟨cd_13_0, cd_13_1⟩ := cells2s Rd_13
  obtain ⟨cv_13_0, cv_13_1, cv_13_2, cv_13_3⟩ := cells4s Rv_13
  obtain ⟨co_13_0, co_13_1⟩ := cells2s Ro_13
  go_wp2_with fail
  obtain ⟨F, hF1, hF2⟩ := below_fun (w12.alloc (Obj.cells #[.int .u64 (x : Nat), .int .u64 (y : Nat)] 25))
  have fb_0 := fun u => cells4 (heap_of (hF1 u) _ _ _ Rb_13) 0 _ rfl
  have fb_1 := fun u => cells4 (heap_of (hF1 u) _ _ _ Rb_13) 1 _ rfl
  have fp_0 := fun u => (pt_cells (heap_of (hF1 u) _ _ _ Rp_13)).1
  have fp_1 := fun u => (pt_cells (heap_of (hF1 u) _ _ _ Rp_13)).2.1
  have fp_2 := fun u => (pt_cells (heap_of (hF1 u) _ _ _ Rp_13)).2.2.1
  have fp_3 := fun u => (pt_cells (heap_of (hF1 u) _ _ _ Rp_13)).2.2.2.1
  have fp_4 := fun u => (pt_cells (heap_of (hF1 u) _ _ _ Rp_13)).2.2.2.2.1
  have fp_5 := fun u => (pt_cells (heap_of (hF1 u) _ _ _ Rp_13)).2.2.2.2.2.1
  have fp_6 := fun u => (pt_cells (heap_of (hF1 u) _ _ _ Rp_13)).2.2.2.2.2.2.1
  have fp_7 := fun u => (pt_cells (heap_of (hF1 u) _ _ _ Rp_13)).2.2.2.2.2.2.2.1
  have fp_8 := fun u => (pt_cells (heap_of (hF1 u) _ _ _ Rp_13)).2.2.2.2.2.2.2.2.1
  have fp_9 := fun u => (pt_cells (heap_of (hF1 u) _ _ _ Rp_13)).2.2.2.2.2.2.2.2.2.1
  have fp_10 := fun u => (pt_cells (heap_of (hF1 u) _ _ _ Rp_13)).2.2.2.2.2.2.2.2.2.2.1
  have fp_11 := fun u => (pt_cells (heap_of (hF1 u) _ _ _ Rp_13)).2.2.2.2.2.2.2.2.2.2.2.1
  have fp_12 := fun u => (pt_cells (heap_of (hF1 u) _ _ _ Rp_13)).2.2.2.2.2.2.2.2.2.2.2.2.1
  have fp_13 := fun u => (pt_cells (heap_of (hF1 u) _ _ _ Rp_13)).2.2.2.2.2.2.2.2.2.2.2.2.2
  have fc_0 := fun u => cells4 (heap_of (hF1 u) _ _ _ Rc_13) 0 _ rfl
  have fc_1 := fun u => cells4 (heap_of (hF1 u) _ _ _ Rc_13) 1 _ rfl
  have fd_0 := fun u => cells4 (heap_of (hF1 u) _ _ _ Rd_13) 0 _ rfl
  have fd_1 := fun u => cells4 (heap_of (hF1 u) _ _ _ Rd_13) 1 _ rfl
  have fv_0 := fun u => cells4 (heap_of (hF1 u) _ _ _ Rv_13) 0 _ rfl
  have fv_1 := fun u => cells4 (heap_of (hF1 u) _ _ _ Rv_13) 1 _ rfl
  have fv_2 := fun u => cells4 (heap_of (hF1 u) _ _ _ Rv_13) 2 _ rfl
  have fv_3 := fun u => cells4 (heap_of (hF1 u) _ _ _ Rv_13) 3 _ rfl
  have fo_0 := fun u => cells4 (heap_of (hF1 u) _ _ _ Ro_13) 0 _ rfl
  have fo_1 := fun u => cells4 (heap_of (hF1 u) _ _ _ Ro_13) 1 _ rfl
  have FG : Box (∀ u, FAt (F u)) := box (fun u => fatB FF.out (btr B13 (hF1 u)))
  refine wp_region_below F hF2 (by kernel_rfl) (by kernel_rfl) ?_
  repeat first | go_big_quiet_step (first | (go_at_call 11; exact quietF hF1 hF2 (KA.out _ (FG.out _))) | fail) | quiet_step (first | (go_at_call 11; exact quietF hF1 hF2 (KA.out _ (FG.out _))) | fail)
  refine wpQuiet_nil ?_
  rintro _ ⟨uW, rfl⟩
  have B14 := btr B13 (hF1 uW)
  have Rb_14 := heap_of (hF1 uW) _ _ _ Rb_13
  have Rp_14 := heap_of (hF1 uW) _ _ _ Rp_13
  have Rc_14 := heap_of (hF1 uW) _ _ _ Rc_13
  have Rd_14 := heap_of (hF1 uW) _ _ _ Rd_13
  have Rv_14 := heap_of (hF1 uW) _ _ _ Rv_13
  have Ro_14 := heap_of (hF1 uW) _ _ _ Ro_13
  obtain ⟨w14, hw⟩ : ∃ V, F uW = V := ⟨_, rfl⟩
  rw [hw] at B14 Rb_14 Rp_14 Rc_14 Rd_14 Rv_14 Ro_14
  try rw [hw]
  clear hw hF1 hF2 B13 fb_0 fb_1 fp_0 fp_1 fp_2 fp_3 fp_4 fp_5 fp_6 fp_7 fp_8 fp_9 fp_10 fp_11 fp_12 fp_13 fc_0 fc_1 fd_0 fd_1 fv_0 fv_1 fv_2 fv_3 fo_0 fo_1 Rb_13 cb_13_0 cb_13_1 Rp_13 cp_13_0 cp_13_1 cp_13_2 cp_13_3 cp_13_4 cp_13_5 cp_13_6 cp_13_7 cp_13_8 cp_13_9 cp_13_10 cp_13_11 cp_13_12 cp_13_13 Rc_13 cc_13_0 cc_13_1 Rd_13 cd_13_0 cd_13_1 Rv_13 cv_13_0 cv_13_1 cv_13_2 cv_13_3 Ro_13 co_13_0 co_13_1
  clear FG
  clear F
  obtain ⟨cb_14_0, cb_14_1⟩ := cells2s Rb_14
  obtain ⟨cp_14_0, cp_14_1, cp_14_2, cp_14_3, cp_14_4, cp_14_5, cp_14_6, cp_14_7, cp_14_8, cp_14_9, cp_14_10, cp_14_11, cp_14_12, cp_14_13⟩ := pt_cells Rp_14
  obtain ⟨cc_14_0, cc_14_1⟩ := cells2s Rc_14
  obtain ⟨cd_14_0, cd_14_1⟩ := cells2s Rd_14
  obtain ⟨cv_14_0, cv_14_1, cv_14_2, cv_14_3⟩ := cells4s Rv_14
  obtain ⟨co_14_0, co_14_1⟩ := cells2s Ro_14
  go_wp2
  go_ret
  exact ⟨rfl, B14⟩
set_option maxRecDepth 100000 in
set_option maxHeartbeats 8000000 in
theorem back_r5 (f : Int) (x y : Nat) (s rr : Nat) (X : Int) (t : ByteArray) (p q : Nat) (b1 : Bool) (s1 t1 : ByteArray) (e1 : Int) (w : World)
    (KU : Box (∀ w, FAt w → Calls Tryz.prog 20 #[.int .u8 f, .agg #[.int .u64 (x : Nat), .int .u64 (y : Nat)]] w fun r w' => r = .returned (.tuple #[.agg (pt 3 s X rr), .int .i64 0]) ∧ Below w.heap.size w w'))
    (KQ : Box (∀ w, FAt w → Calls Tryz.prog 21 #[.int .u8 f, .agg (pt 3 s X rr)] w fun r w' => r = .returned (.tuple #[.agg #[.int .u64 (x : Nat), .int .u64 (y : Nat)], .int .i64 0]) ∧ Below w.heap.size w w'))
    (KT : Box (∀ w, FAt w → P10 w → Calls Tryz.prog 16 #[.int .u8 f, .agg #[.int .u64 (x : Nat), .int .u64 (y : Nat)]] w fun r w' => r = .returned (.tuple #[.string t, .int .i64 0]) ∧ Below w.heap.size w w'))
    (KR : Box (∀ w, FAt w → P10 w → Atoiable w → Calls Tryz.prog 18 #[.int .u8 f, .string t] w fun r w' => r = .returned (.tuple #[.agg #[.int .u64 (x : Nat), .int .u64 (y : Nat)], .int .i64 0]) ∧ Below w.heap.size w w'))
    (KF : Box (∀ w, FAt w → Calls Tryz.prog 22 #[.int .u8 f, .agg #[.int .u64 (x : Nat), .int .u64 (y : Nat)]] w fun r w' => r = .returned (.agg #[.int .u64 (p : Nat), .int .u64 (q : Nat)]) ∧ Below w.heap.size w w'))
    (KG : Box (∀ w, FAt w → Calls Tryz.prog 22 #[.int .u8 f, .agg #[.int .u64 (p : Nat), .int .u64 (q : Nat)]] w fun r w' => r = .returned (.agg #[.int .u64 (x : Nat), .int .u64 (y : Nat)]) ∧ Below w.heap.size w w'))
    (KV : Box (∀ w, FAt w → TabAt w → Calls Tryz.prog 8 #[.int .u8 f, .agg #[.int .u64 (x : Nat), .int .u64 (y : Nat)]] w fun r w' => r = .returned (.tuple #[.agg #[.bool b1, .string s1, .string t1, .int .i64 e1], .int .i64 0]) ∧ Below w.heap.size w w'))
    (KO : Box (∀ w, FAt w → TabAt w → Calls Tryz.prog 12 #[.int .u8 f, .agg #[.bool b1, .string s1, .string t1, .int .i64 e1]] w fun r w' => r = .returned (.tuple #[.agg #[.int .u64 (p : Nat), .int .u64 (q : Nat)], .bool true, .int .i64 0]) ∧ Below w.heap.size w w'))
    (ne : NE p q x y)
    (hT : FAt w) (hT2 : TabAt w) (hP : P10 w) (hA : Atoiable w) : Calls Tryz.prog 5 #[.int .u8 f, .agg #[.int .u64 (x : Nat), .int .u64 (y : Nat)]] w fun r w' => r = .returned (.bool true) ∧ Below w.heap.size w w' := by
  have FF := box hT
  have TT := box hT2
  have PP := box hP
  have AA := box hA
  have KA := box kalive
  clear hT hT2 hP hA
  have hat := cw_at 6
  have hz := cw6z
  have hff := cw6f
  have hs0 := st0
  have hcs : ∀ x, ((cw 6 x).size = 6) = True := fun x => eq_true (cw_size 6 x)
  have hp1 := ptf
  have hp3 := ptz
  have hp4 := st_p0
  have hp5 : ∀ (c s : Nat) (x : Int) (r : Nat), ((pt 3 s x r).size = 14) = True := fun _ _ _ _ => eq_true rfl
  rcases ne with ne | ⟨ne1, ne⟩
  all_goals
    obtain ⟨Rb_0, B0⟩ := opn1 w (Obj.cells #[.int .u64 (x : Nat), .int .u64 (y : Nat)] 25)
    go_enter Tryz.func5, Tryz.ntmps5
    go_wp2_with fail
    refine (KU.out _ (fatB FF.out B0)).mono ?_
    rintro r w1 ⟨rfl, b1⟩
    have B1 : Below w.heap.size w w1 := btr B0 b1
    have Rb_1 := heap_of b1 _ _ _ Rb_0
    clear b1 B0 Rb_0
    obtain ⟨cb_1_0, cb_1_1⟩ := cells2s Rb_1
    have S2 := box B1.size
    have Lb_2 : Box (w.heap.size < w1.heap.size) := box (Array.getElem?_eq_some_iff.1 Rb_1).1
    have Rp_2 := heap_alloc_last w1 (Obj.cells (pt 3 s X rr) 55)
    have B2 := btr B1 (bal w1 (Obj.cells (pt 3 s X rr) 55))
    have Rb_2 := heap_of (bal w1 (Obj.cells (pt 3 s X rr) 55)) _ _ _ Rb_1
    clear B1 Rb_1 cb_1_0 cb_1_1
    obtain ⟨cb_2_0, cb_2_1⟩ := cells2s Rb_2
    obtain ⟨cp_2_0, cp_2_1, cp_2_2, cp_2_3, cp_2_4, cp_2_5, cp_2_6, cp_2_7, cp_2_8, cp_2_9, cp_2_10, cp_2_11, cp_2_12, cp_2_13⟩ := pt_cells Rp_2
    go_wp2_with fail
    refine (KQ.out _ (fatB FF.out B2)).mono ?_
    rintro r w3 ⟨rfl, b3⟩
    have B3 : Below w.heap.size w w3 := btr B2 b3
    have Rb_3 := heap_of b3 _ _ _ Rb_2
    have Rp_3 := heap_of b3 _ _ _ Rp_2
    clear b3 B2 Rb_2 cb_2_0 cb_2_1 Rp_2 cp_2_0 cp_2_1 cp_2_2 cp_2_3 cp_2_4 cp_2_5 cp_2_6 cp_2_7 cp_2_8 cp_2_9 cp_2_10 cp_2_11 cp_2_12 cp_2_13
    obtain ⟨cb_3_0, cb_3_1⟩ := cells2s Rb_3
    obtain ⟨cp_3_0, cp_3_1, cp_3_2, cp_3_3, cp_3_4, cp_3_5, cp_3_6, cp_3_7, cp_3_8, cp_3_9, cp_3_10, cp_3_11, cp_3_12, cp_3_13⟩ := pt_cells Rp_3
    have S4 := box B3.size
    have Lb_4 : Box (w.heap.size < w3.heap.size) := box (Array.getElem?_eq_some_iff.1 Rb_3).1
    have Lp_4 : Box (w1.heap.size < w3.heap.size) := box (Array.getElem?_eq_some_iff.1 Rp_3).1
    have Rc_4 := heap_alloc_last w3 (Obj.cells #[.int .u64 (x : Nat), .int .u64 (y : Nat)] 25)
    have B4 := btr B3 (bal w3 (Obj.cells #[.int .u64 (x : Nat), .int .u64 (y : Nat)] 25))
    have Rb_4 := heap_of (bal w3 (Obj.cells #[.int .u64 (x : Nat), .int .u64 (y : Nat)] 25)) _ _ _ Rb_3
    have Rp_4 := heap_of (bal w3 (Obj.cells #[.int .u64 (x : Nat), .int .u64 (y : Nat)] 25)) _ _ _ Rp_3
    clear B3 Rb_3 cb_3_0 cb_3_1 Rp_3 cp_3_0 cp_3_1 cp_3_2 cp_3_3 cp_3_4 cp_3_5 cp_3_6 cp_3_7 cp_3_8 cp_3_9 cp_3_10 cp_3_11 cp_3_12 cp_3_13
    obtain ⟨cb_4_0, cb_4_1⟩ := cells2s Rb_4
    obtain ⟨cp_4_0, cp_4_1, cp_4_2, cp_4_3, cp_4_4, cp_4_5, cp_4_6, cp_4_7, cp_4_8, cp_4_9, cp_4_10, cp_4_11, cp_4_12, cp_4_13⟩ := pt_cells Rp_4
    obtain ⟨cc_4_0, cc_4_1⟩ := cells2s Rc_4
    go_wp2_with fail
    obtain ⟨F, hF1, hF2⟩ := below_fun (w3.alloc (Obj.cells #[.int .u64 (x : Nat), .int .u64 (y : Nat)] 25))
    have fb_0 := fun u => cells4 (heap_of (hF1 u) _ _ _ Rb_4) 0 _ rfl
    have fb_1 := fun u => cells4 (heap_of (hF1 u) _ _ _ Rb_4) 1 _ rfl
    have fp_0 := fun u => (pt_cells (heap_of (hF1 u) _ _ _ Rp_4)).1
    have fp_1 := fun u => (pt_cells (heap_of (hF1 u) _ _ _ Rp_4)).2.1
    have fp_2 := fun u => (pt_cells (heap_of (hF1 u) _ _ _ Rp_4)).2.2.1
    have fp_3 := fun u => (pt_cells (heap_of (hF1 u) _ _ _ Rp_4)).2.2.2.1
    have fp_4 := fun u => (pt_cells (heap_of (hF1 u) _ _ _ Rp_4)).2.2.2.2.1
    have fp_5 := fun u => (pt_cells (heap_of (hF1 u) _ _ _ Rp_4)).2.2.2.2.2.1
    have fp_6 := fun u => (pt_cells (heap_of (hF1 u) _ _ _ Rp_4)).2.2.2.2.2.2.1
    have fp_7 := fun u => (pt_cells (heap_of (hF1 u) _ _ _ Rp_4)).2.2.2.2.2.2.2.1
    have fp_8 := fun u => (pt_cells (heap_of (hF1 u) _ _ _ Rp_4)).2.2.2.2.2.2.2.2.1
    have fp_9 := fun u => (pt_cells (heap_of (hF1 u) _ _ _ Rp_4)).2.2.2.2.2.2.2.2.2.1
    have fp_10 := fun u => (pt_cells (heap_of (hF1 u) _ _ _ Rp_4)).2.2.2.2.2.2.2.2.2.2.1
    have fp_11 := fun u => (pt_cells (heap_of (hF1 u) _ _ _ Rp_4)).2.2.2.2.2.2.2.2.2.2.2.1
    have fp_12 := fun u => (pt_cells (heap_of (hF1 u) _ _ _ Rp_4)).2.2.2.2.2.2.2.2.2.2.2.2.1
    have fp_13 := fun u => (pt_cells (heap_of (hF1 u) _ _ _ Rp_4)).2.2.2.2.2.2.2.2.2.2.2.2.2
    have fc_0 := fun u => cells4 (heap_of (hF1 u) _ _ _ Rc_4) 0 _ rfl
    have fc_1 := fun u => cells4 (heap_of (hF1 u) _ _ _ Rc_4) 1 _ rfl
    refine wp_region_below F hF2 (by kernel_rfl) (by kernel_rfl) ?_
    repeat first | go_big_quiet_step (first  | fail) | quiet_step (first  | fail)
    refine wpQuiet_nil ?_
    rintro _ ⟨uW, rfl⟩
    have B5 := btr B4 (hF1 uW)
    have Rb_5 := heap_of (hF1 uW) _ _ _ Rb_4
    have Rp_5 := heap_of (hF1 uW) _ _ _ Rp_4
    have Rc_5 := heap_of (hF1 uW) _ _ _ Rc_4
    obtain ⟨w5, hw⟩ : ∃ V, F uW = V := ⟨_, rfl⟩
    rw [hw] at B5 Rb_5 Rp_5 Rc_5
    try rw [hw]
    clear hw hF1 hF2 B4 fb_0 fb_1 fp_0 fp_1 fp_2 fp_3 fp_4 fp_5 fp_6 fp_7 fp_8 fp_9 fp_10 fp_11 fp_12 fp_13 fc_0 fc_1 Rb_4 cb_4_0 cb_4_1 Rp_4 cp_4_0 cp_4_1 cp_4_2 cp_4_3 cp_4_4 cp_4_5 cp_4_6 cp_4_7 cp_4_8 cp_4_9 cp_4_10 cp_4_11 cp_4_12 cp_4_13 Rc_4 cc_4_0 cc_4_1
    clear F
    obtain ⟨cb_5_0, cb_5_1⟩ := cells2s Rb_5
    obtain ⟨cp_5_0, cp_5_1, cp_5_2, cp_5_3, cp_5_4, cp_5_5, cp_5_6, cp_5_7, cp_5_8, cp_5_9, cp_5_10, cp_5_11, cp_5_12, cp_5_13⟩ := pt_cells Rp_5
    obtain ⟨cc_5_0, cc_5_1⟩ := cells2s Rc_5
    go_wp2_with fail
    refine (KT.out _ (fatB FF.out B5) (p10B PP.out B5)).mono ?_
    rintro r w6 ⟨rfl, b6⟩
    have B6 : Below w.heap.size w w6 := btr B5 b6
    have Rb_6 := heap_of b6 _ _ _ Rb_5
    have Rp_6 := heap_of b6 _ _ _ Rp_5
    have Rc_6 := heap_of b6 _ _ _ Rc_5
    clear b6 B5 Rb_5 cb_5_0 cb_5_1 Rp_5 cp_5_0 cp_5_1 cp_5_2 cp_5_3 cp_5_4 cp_5_5 cp_5_6 cp_5_7 cp_5_8 cp_5_9 cp_5_10 cp_5_11 cp_5_12 cp_5_13 Rc_5 cc_5_0 cc_5_1
    obtain ⟨cb_6_0, cb_6_1⟩ := cells2s Rb_6
    obtain ⟨cp_6_0, cp_6_1, cp_6_2, cp_6_3, cp_6_4, cp_6_5, cp_6_6, cp_6_7, cp_6_8, cp_6_9, cp_6_10, cp_6_11, cp_6_12, cp_6_13⟩ := pt_cells Rp_6
    obtain ⟨cc_6_0, cc_6_1⟩ := cells2s Rc_6
    go_wp2_with fail
    refine (KR.out _ (fatB FF.out B6) (p10B PP.out B6) (atB AA.out B6)).mono ?_
    rintro r w7 ⟨rfl, b7⟩
    have B7 : Below w.heap.size w w7 := btr B6 b7
    have Rb_7 := heap_of b7 _ _ _ Rb_6
    have Rp_7 := heap_of b7 _ _ _ Rp_6
    have Rc_7 := heap_of b7 _ _ _ Rc_6
    clear b7 B6 Rb_6 cb_6_0 cb_6_1 Rp_6 cp_6_0 cp_6_1 cp_6_2 cp_6_3 cp_6_4 cp_6_5 cp_6_6 cp_6_7 cp_6_8 cp_6_9 cp_6_10 cp_6_11 cp_6_12 cp_6_13 Rc_6 cc_6_0 cc_6_1
    obtain ⟨cb_7_0, cb_7_1⟩ := cells2s Rb_7
    obtain ⟨cp_7_0, cp_7_1, cp_7_2, cp_7_3, cp_7_4, cp_7_5, cp_7_6, cp_7_7, cp_7_8, cp_7_9, cp_7_10, cp_7_11, cp_7_12, cp_7_13⟩ := pt_cells Rp_7
    obtain ⟨cc_7_0, cc_7_1⟩ := cells2s Rc_7
    have S8 := box B7.size
    have Lb_8 : Box (w.heap.size < w7.heap.size) := box (Array.getElem?_eq_some_iff.1 Rb_7).1
    have Lp_8 : Box (w1.heap.size < w7.heap.size) := box (Array.getElem?_eq_some_iff.1 Rp_7).1
    have Lc_8 : Box (w3.heap.size < w7.heap.size) := box (Array.getElem?_eq_some_iff.1 Rc_7).1
    have Rd_8 := heap_alloc_last w7 (Obj.cells #[.int .u64 (x : Nat), .int .u64 (y : Nat)] 25)
    have B8 := btr B7 (bal w7 (Obj.cells #[.int .u64 (x : Nat), .int .u64 (y : Nat)] 25))
    have Rb_8 := heap_of (bal w7 (Obj.cells #[.int .u64 (x : Nat), .int .u64 (y : Nat)] 25)) _ _ _ Rb_7
    have Rp_8 := heap_of (bal w7 (Obj.cells #[.int .u64 (x : Nat), .int .u64 (y : Nat)] 25)) _ _ _ Rp_7
    have Rc_8 := heap_of (bal w7 (Obj.cells #[.int .u64 (x : Nat), .int .u64 (y : Nat)] 25)) _ _ _ Rc_7
    clear B7 Rb_7 cb_7_0 cb_7_1 Rp_7 cp_7_0 cp_7_1 cp_7_2 cp_7_3 cp_7_4 cp_7_5 cp_7_6 cp_7_7 cp_7_8 cp_7_9 cp_7_10 cp_7_11 cp_7_12 cp_7_13 Rc_7 cc_7_0 cc_7_1
    obtain ⟨cb_8_0, cb_8_1⟩ := cells2s Rb_8
    obtain ⟨cp_8_0, cp_8_1, cp_8_2, cp_8_3, cp_8_4, cp_8_5, cp_8_6, cp_8_7, cp_8_8, cp_8_9, cp_8_10, cp_8_11, cp_8_12, cp_8_13⟩ := pt_cells Rp_8
    obtain ⟨cc_8_0, cc_8_1⟩ := cells2s Rc_8
    obtain ⟨cd_8_0, cd_8_1⟩ := cells2s Rd_8
    go_wp2_with fail
    obtain ⟨F, hF1, hF2⟩ := below_fun (w7.alloc (Obj.cells #[.int .u64 (x : Nat), .int .u64 (y : Nat)] 25))
    have fb_0 := fun u => cells4 (heap_of (hF1 u) _ _ _ Rb_8) 0 _ rfl
    have fb_1 := fun u => cells4 (heap_of (hF1 u) _ _ _ Rb_8) 1 _ rfl
    have fp_0 := fun u => (pt_cells (heap_of (hF1 u) _ _ _ Rp_8)).1
    have fp_1 := fun u => (pt_cells (heap_of (hF1 u) _ _ _ Rp_8)).2.1
    have fp_2 := fun u => (pt_cells (heap_of (hF1 u) _ _ _ Rp_8)).2.2.1
    have fp_3 := fun u => (pt_cells (heap_of (hF1 u) _ _ _ Rp_8)).2.2.2.1
    have fp_4 := fun u => (pt_cells (heap_of (hF1 u) _ _ _ Rp_8)).2.2.2.2.1
    have fp_5 := fun u => (pt_cells (heap_of (hF1 u) _ _ _ Rp_8)).2.2.2.2.2.1
    have fp_6 := fun u => (pt_cells (heap_of (hF1 u) _ _ _ Rp_8)).2.2.2.2.2.2.1
    have fp_7 := fun u => (pt_cells (heap_of (hF1 u) _ _ _ Rp_8)).2.2.2.2.2.2.2.1
    have fp_8 := fun u => (pt_cells (heap_of (hF1 u) _ _ _ Rp_8)).2.2.2.2.2.2.2.2.1
    have fp_9 := fun u => (pt_cells (heap_of (hF1 u) _ _ _ Rp_8)).2.2.2.2.2.2.2.2.2.1
    have fp_10 := fun u => (pt_cells (heap_of (hF1 u) _ _ _ Rp_8)).2.2.2.2.2.2.2.2.2.2.1
    have fp_11 := fun u => (pt_cells (heap_of (hF1 u) _ _ _ Rp_8)).2.2.2.2.2.2.2.2.2.2.2.1
    have fp_12 := fun u => (pt_cells (heap_of (hF1 u) _ _ _ Rp_8)).2.2.2.2.2.2.2.2.2.2.2.2.1
    have fp_13 := fun u => (pt_cells (heap_of (hF1 u) _ _ _ Rp_8)).2.2.2.2.2.2.2.2.2.2.2.2.2
    have fc_0 := fun u => cells4 (heap_of (hF1 u) _ _ _ Rc_8) 0 _ rfl
    have fc_1 := fun u => cells4 (heap_of (hF1 u) _ _ _ Rc_8) 1 _ rfl
    have fd_0 := fun u => cells4 (heap_of (hF1 u) _ _ _ Rd_8) 0 _ rfl
    have fd_1 := fun u => cells4 (heap_of (hF1 u) _ _ _ Rd_8) 1 _ rfl
    have FG : Box (∀ u, FAt (F u)) := box (fun u => fatB FF.out (btr B8 (hF1 u)))
    refine wp_region_below F hF2 (by kernel_rfl) (by kernel_rfl) ?_
    repeat first | go_big_quiet_step (first | (go_at_call_of 22 (Value.agg #[.int .u64 (x : Nat), .int .u64 (y : Nat)]); exact quietF hF1 hF2 (KF.out _ (FG.out _))) | (go_at_call_of 22 (Value.agg #[.int .u64 (p : Nat), .int .u64 (q : Nat)]); exact quietF hF1 hF2 (KG.out _ (FG.out _))) | fail) | quiet_step (first | (go_at_call_of 22 (Value.agg #[.int .u64 (x : Nat), .int .u64 (y : Nat)]); exact quietF hF1 hF2 (KF.out _ (FG.out _))) | (go_at_call_of 22 (Value.agg #[.int .u64 (p : Nat), .int .u64 (q : Nat)]); exact quietF hF1 hF2 (KG.out _ (FG.out _))) | fail)
    refine wpQuiet_nil ?_
    rintro _ ⟨uW, rfl⟩
    have B9 := btr B8 (hF1 uW)
    have Rb_9 := heap_of (hF1 uW) _ _ _ Rb_8
    have Rp_9 := heap_of (hF1 uW) _ _ _ Rp_8
    have Rc_9 := heap_of (hF1 uW) _ _ _ Rc_8
    have Rd_9 := heap_of (hF1 uW) _ _ _ Rd_8
    obtain ⟨w9, hw⟩ : ∃ V, F uW = V := ⟨_, rfl⟩
    rw [hw] at B9 Rb_9 Rp_9 Rc_9 Rd_9
    try rw [hw]
    clear hw hF1 hF2 B8 fb_0 fb_1 fp_0 fp_1 fp_2 fp_3 fp_4 fp_5 fp_6 fp_7 fp_8 fp_9 fp_10 fp_11 fp_12 fp_13 fc_0 fc_1 fd_0 fd_1 Rb_8 cb_8_0 cb_8_1 Rp_8 cp_8_0 cp_8_1 cp_8_2 cp_8_3 cp_8_4 cp_8_5 cp_8_6 cp_8_7 cp_8_8 cp_8_9 cp_8_10 cp_8_11 cp_8_12 cp_8_13 Rc_8 cc_8_0 cc_8_1 Rd_8 cd_8_0 cd_8_1
    clear FG
    clear F
    obtain ⟨cb_9_0, cb_9_1⟩ := cells2s Rb_9
    obtain ⟨cp_9_0, cp_9_1, cp_9_2, cp_9_3, cp_9_4, cp_9_5, cp_9_6, cp_9_7, cp_9_8, cp_9_9, cp_9_10, cp_9_11, cp_9_12, cp_9_13⟩ := pt_cells Rp_9
    obtain ⟨cc_9_0, cc_9_1⟩ := cells2s Rc_9
    obtain ⟨cd_9_0, cd_9_1⟩ := cells2s Rd_9
    go_wp2_with fail
    refine (KV.out _ (fatB FF.out B9) (tabB TT.out B9)).mono ?_
    rintro r w10 ⟨rfl, b10⟩
    have B10 : Below w.heap.size w w10 := btr B9 b10
    have Rb_10 := heap_of b10 _ _ _ Rb_9
    have Rp_10 := heap_of b10 _ _ _ Rp_9
    have Rc_10 := heap_of b10 _ _ _ Rc_9
    have Rd_10 := heap_of b10 _ _ _ Rd_9
    clear b10 B9 Rb_9 cb_9_0 cb_9_1 Rp_9 cp_9_0 cp_9_1 cp_9_2 cp_9_3 cp_9_4 cp_9_5 cp_9_6 cp_9_7 cp_9_8 cp_9_9 cp_9_10 cp_9_11 cp_9_12 cp_9_13 Rc_9 cc_9_0 cc_9_1 Rd_9 cd_9_0 cd_9_1
    obtain ⟨cb_10_0, cb_10_1⟩ := cells2s Rb_10
    obtain ⟨cp_10_0, cp_10_1, cp_10_2, cp_10_3, cp_10_4, cp_10_5, cp_10_6, cp_10_7, cp_10_8, cp_10_9, cp_10_10, cp_10_11, cp_10_12, cp_10_13⟩ := pt_cells Rp_10
    obtain ⟨cc_10_0, cc_10_1⟩ := cells2s Rc_10
    obtain ⟨cd_10_0, cd_10_1⟩ := cells2s Rd_10
    have S11 := box B10.size
    have Lb_11 : Box (w.heap.size < w10.heap.size) := box (Array.getElem?_eq_some_iff.1 Rb_10).1
    have Lp_11 : Box (w1.heap.size < w10.heap.size) := box (Array.getElem?_eq_some_iff.1 Rp_10).1
    have Lc_11 : Box (w3.heap.size < w10.heap.size) := box (Array.getElem?_eq_some_iff.1 Rc_10).1
    have Ld_11 : Box (w7.heap.size < w10.heap.size) := box (Array.getElem?_eq_some_iff.1 Rd_10).1
    have Rv_11 := heap_alloc_last w10 (Obj.cells #[.bool b1, .string s1, .string t1, .int .i64 e1] 28)
    have B11 := btr B10 (bal w10 (Obj.cells #[.bool b1, .string s1, .string t1, .int .i64 e1] 28))
    have Rb_11 := heap_of (bal w10 (Obj.cells #[.bool b1, .string s1, .string t1, .int .i64 e1] 28)) _ _ _ Rb_10
    have Rp_11 := heap_of (bal w10 (Obj.cells #[.bool b1, .string s1, .string t1, .int .i64 e1] 28)) _ _ _ Rp_10
    have Rc_11 := heap_of (bal w10 (Obj.cells #[.bool b1, .string s1, .string t1, .int .i64 e1] 28)) _ _ _ Rc_10
    have Rd_11 := heap_of (bal w10 (Obj.cells #[.bool b1, .string s1, .string t1, .int .i64 e1] 28)) _ _ _ Rd_10
    clear B10 Rb_10 cb_10_0 cb_10_1 Rp_10 cp_10_0 cp_10_1 cp_10_2 cp_10_3 cp_10_4 cp_10_5 cp_10_6 cp_10_7 cp_10_8 cp_10_9 cp_10_10 cp_10_11 cp_10_12 cp_10_13 Rc_10 cc_10_0 cc_10_1 Rd_10 cd_10_0 cd_10_1
    obtain ⟨cb_11_0, cb_11_1⟩ := cells2s Rb_11
    obtain ⟨cp_11_0, cp_11_1, cp_11_2, cp_11_3, cp_11_4, cp_11_5, cp_11_6, cp_11_7, cp_11_8, cp_11_9, cp_11_10, cp_11_11, cp_11_12, cp_11_13⟩ := pt_cells Rp_11
    obtain ⟨cc_11_0, cc_11_1⟩ := cells2s Rc_11
    obtain ⟨cd_11_0, cd_11_1⟩ := cells2s Rd_11
    obtain ⟨cv_11_0, cv_11_1, cv_11_2, cv_11_3⟩ := cells4s Rv_11
    go_wp2_with fail
    refine (KO.out _ (fatB FF.out B11) (tabB TT.out B11)).mono ?_
    rintro r w12 ⟨rfl, b12⟩
    have B12 : Below w.heap.size w w12 := btr B11 b12
    have Rb_12 := heap_of b12 _ _ _ Rb_11
    have Rp_12 := heap_of b12 _ _ _ Rp_11
    have Rc_12 := heap_of b12 _ _ _ Rc_11
    have Rd_12 := heap_of b12 _ _ _ Rd_11
    have Rv_12 := heap_of b12 _ _ _ Rv_11
    clear b12 B11 Rb_11 cb_11_0 cb_11_1 Rp_11 cp_11_0 cp_11_1 cp_11_2 cp_11_3 cp_11_4 cp_11_5 cp_11_6 cp_11_7 cp_11_8 cp_11_9 cp_11_10 cp_11_11 cp_11_12 cp_11_13 Rc_11 cc_11_0 cc_11_1 Rd_11 cd_11_0 cd_11_1 Rv_11 cv_11_0 cv_11_1 cv_11_2 cv_11_3
    obtain ⟨cb_12_0, cb_12_1⟩ := cells2s Rb_12
    obtain ⟨cp_12_0, cp_12_1, cp_12_2, cp_12_3, cp_12_4, cp_12_5, cp_12_6, cp_12_7, cp_12_8, cp_12_9, cp_12_10, cp_12_11, cp_12_12, cp_12_13⟩ := pt_cells Rp_12
    obtain ⟨cc_12_0, cc_12_1⟩ := cells2s Rc_12
    obtain ⟨cd_12_0, cd_12_1⟩ := cells2s Rd_12
    obtain ⟨cv_12_0, cv_12_1, cv_12_2, cv_12_3⟩ := cells4s Rv_12
    have S13 := box B12.size
    have Lb_13 : Box (w.heap.size < w12.heap.size) := box (Array.getElem?_eq_some_iff.1 Rb_12).1
    have Lp_13 : Box (w1.heap.size < w12.heap.size) := box (Array.getElem?_eq_some_iff.1 Rp_12).1
    have Lc_13 : Box (w3.heap.size < w12.heap.size) := box (Array.getElem?_eq_some_iff.1 Rc_12).1
    have Ld_13 : Box (w7.heap.size < w12.heap.size) := box (Array.getElem?_eq_some_iff.1 Rd_12).1
    have Lv_13 : Box (w10.heap.size < w12.heap.size) := box (Array.getElem?_eq_some_iff.1 Rv_12).1
    have Ro_13 := heap_alloc_last w12 (Obj.cells #[.int .u64 (p : Nat), .int .u64 (q : Nat)] 25)
    have B13 := btr B12 (bal w12 (Obj.cells #[.int .u64 (p : Nat), .int .u64 (q : Nat)] 25))
    have Rb_13 := heap_of (bal w12 (Obj.cells #[.int .u64 (p : Nat), .int .u64 (q : Nat)] 25)) _ _ _ Rb_12
    have Rp_13 := heap_of (bal w12 (Obj.cells #[.int .u64 (p : Nat), .int .u64 (q : Nat)] 25)) _ _ _ Rp_12
    have Rc_13 := heap_of (bal w12 (Obj.cells #[.int .u64 (p : Nat), .int .u64 (q : Nat)] 25)) _ _ _ Rc_12
    have Rd_13 := heap_of (bal w12 (Obj.cells #[.int .u64 (p : Nat), .int .u64 (q : Nat)] 25)) _ _ _ Rd_12
    have Rv_13 := heap_of (bal w12 (Obj.cells #[.int .u64 (p : Nat), .int .u64 (q : Nat)] 25)) _ _ _ Rv_12
    clear B12 Rb_12 cb_12_0 cb_12_1 Rp_12 cp_12_0 cp_12_1 cp_12_2 cp_12_3 cp_12_4 cp_12_5 cp_12_6 cp_12_7 cp_12_8 cp_12_9 cp_12_10 cp_12_11 cp_12_12 cp_12_13 Rc_12 cc_12_0 cc_12_1 Rd_12 cd_12_0 cd_12_1 Rv_12 cv_12_0 cv_12_1 cv_12_2 cv_12_3
    obtain ⟨cb_13_0, cb_13_1⟩ := cells2s Rb_13
    obtain ⟨cp_13_0, cp_13_1, cp_13_2, cp_13_3, cp_13_4, cp_13_5, cp_13_6, cp_13_7, cp_13_8, cp_13_9, cp_13_10, cp_13_11, cp_13_12, cp_13_13⟩ := pt_cells Rp_13
    obtain ⟨cc_13_0, cc_13_1⟩ := cells2s Rc_13
    obtain ⟨cd_13_0, cd_13_1⟩ := cells2s Rd_13
    obtain ⟨cv_13_0, cv_13_1, cv_13_2, cv_13_3⟩ := cells4s Rv_13
    obtain ⟨co_13_0, co_13_1⟩ := cells2s Ro_13
    go_wp2_with fail
    obtain ⟨F, hF1, hF2⟩ := below_fun (w12.alloc (Obj.cells #[.int .u64 (p : Nat), .int .u64 (q : Nat)] 25))
    have fb_0 := fun u => cells4 (heap_of (hF1 u) _ _ _ Rb_13) 0 _ rfl
    have fb_1 := fun u => cells4 (heap_of (hF1 u) _ _ _ Rb_13) 1 _ rfl
    have fp_0 := fun u => (pt_cells (heap_of (hF1 u) _ _ _ Rp_13)).1
    have fp_1 := fun u => (pt_cells (heap_of (hF1 u) _ _ _ Rp_13)).2.1
    have fp_2 := fun u => (pt_cells (heap_of (hF1 u) _ _ _ Rp_13)).2.2.1
    have fp_3 := fun u => (pt_cells (heap_of (hF1 u) _ _ _ Rp_13)).2.2.2.1
    have fp_4 := fun u => (pt_cells (heap_of (hF1 u) _ _ _ Rp_13)).2.2.2.2.1
    have fp_5 := fun u => (pt_cells (heap_of (hF1 u) _ _ _ Rp_13)).2.2.2.2.2.1
    have fp_6 := fun u => (pt_cells (heap_of (hF1 u) _ _ _ Rp_13)).2.2.2.2.2.2.1
    have fp_7 := fun u => (pt_cells (heap_of (hF1 u) _ _ _ Rp_13)).2.2.2.2.2.2.2.1
    have fp_8 := fun u => (pt_cells (heap_of (hF1 u) _ _ _ Rp_13)).2.2.2.2.2.2.2.2.1
    have fp_9 := fun u => (pt_cells (heap_of (hF1 u) _ _ _ Rp_13)).2.2.2.2.2.2.2.2.2.1
    have fp_10 := fun u => (pt_cells (heap_of (hF1 u) _ _ _ Rp_13)).2.2.2.2.2.2.2.2.2.2.1
    have fp_11 := fun u => (pt_cells (heap_of (hF1 u) _ _ _ Rp_13)).2.2.2.2.2.2.2.2.2.2.2.1
    have fp_12 := fun u => (pt_cells (heap_of (hF1 u) _ _ _ Rp_13)).2.2.2.2.2.2.2.2.2.2.2.2.1
    have fp_13 := fun u => (pt_cells (heap_of (hF1 u) _ _ _ Rp_13)).2.2.2.2.2.2.2.2.2.2.2.2.2
    have fc_0 := fun u => cells4 (heap_of (hF1 u) _ _ _ Rc_13) 0 _ rfl
    have fc_1 := fun u => cells4 (heap_of (hF1 u) _ _ _ Rc_13) 1 _ rfl
    have fd_0 := fun u => cells4 (heap_of (hF1 u) _ _ _ Rd_13) 0 _ rfl
    have fd_1 := fun u => cells4 (heap_of (hF1 u) _ _ _ Rd_13) 1 _ rfl
    have fv_0 := fun u => cells4 (heap_of (hF1 u) _ _ _ Rv_13) 0 _ rfl
    have fv_1 := fun u => cells4 (heap_of (hF1 u) _ _ _ Rv_13) 1 _ rfl
    have fv_2 := fun u => cells4 (heap_of (hF1 u) _ _ _ Rv_13) 2 _ rfl
    have fv_3 := fun u => cells4 (heap_of (hF1 u) _ _ _ Rv_13) 3 _ rfl
    have fo_0 := fun u => cells4 (heap_of (hF1 u) _ _ _ Ro_13) 0 _ rfl
    have fo_1 := fun u => cells4 (heap_of (hF1 u) _ _ _ Ro_13) 1 _ rfl
    have FG : Box (∀ u, FAt (F u)) := box (fun u => fatB FF.out (btr B13 (hF1 u)))
    refine wp_region_below F hF2 (by kernel_rfl) (by kernel_rfl) ?_
    repeat first | go_big_quiet_step (first | (go_at_call 22; exact quietF hF1 hF2 (KF.out _ (FG.out _))) | (go_at_call 11; exact quietF hF1 hF2 (KA.out _ (FG.out _))) | fail) | quiet_step (first | (go_at_call 22; exact quietF hF1 hF2 (KF.out _ (FG.out _))) | (go_at_call 11; exact quietF hF1 hF2 (KA.out _ (FG.out _))) | fail)
    refine wpQuiet_nil ?_
    rintro _ ⟨uW, rfl⟩
    have B14 := btr B13 (hF1 uW)
    have Rb_14 := heap_of (hF1 uW) _ _ _ Rb_13
    have Rp_14 := heap_of (hF1 uW) _ _ _ Rp_13
    have Rc_14 := heap_of (hF1 uW) _ _ _ Rc_13
    have Rd_14 := heap_of (hF1 uW) _ _ _ Rd_13
    have Rv_14 := heap_of (hF1 uW) _ _ _ Rv_13
    have Ro_14 := heap_of (hF1 uW) _ _ _ Ro_13
    obtain ⟨w14, hw⟩ : ∃ V, F uW = V := ⟨_, rfl⟩
    rw [hw] at B14 Rb_14 Rp_14 Rc_14 Rd_14 Rv_14 Ro_14
    try rw [hw]
    clear hw hF1 hF2 B13 fb_0 fb_1 fp_0 fp_1 fp_2 fp_3 fp_4 fp_5 fp_6 fp_7 fp_8 fp_9 fp_10 fp_11 fp_12 fp_13 fc_0 fc_1 fd_0 fd_1 fv_0 fv_1 fv_2 fv_3 fo_0 fo_1 Rb_13 cb_13_0 cb_13_1 Rp_13 cp_13_0 cp_13_1 cp_13_2 cp_13_3 cp_13_4 cp_13_5 cp_13_6 cp_13_7 cp_13_8 cp_13_9 cp_13_10 cp_13_11 cp_13_12 cp_13_13 Rc_13 cc_13_0 cc_13_1 Rd_13 cd_13_0 cd_13_1 Rv_13 cv_13_0 cv_13_1 cv_13_2 cv_13_3 Ro_13 co_13_0 co_13_1
    clear FG
    clear F
    obtain ⟨cb_14_0, cb_14_1⟩ := cells2s Rb_14
    obtain ⟨cp_14_0, cp_14_1, cp_14_2, cp_14_3, cp_14_4, cp_14_5, cp_14_6, cp_14_7, cp_14_8, cp_14_9, cp_14_10, cp_14_11, cp_14_12, cp_14_13⟩ := pt_cells Rp_14
    obtain ⟨cc_14_0, cc_14_1⟩ := cells2s Rc_14
    obtain ⟨cd_14_0, cd_14_1⟩ := cells2s Rd_14
    obtain ⟨cv_14_0, cv_14_1, cv_14_2, cv_14_3⟩ := cells4s Rv_14
    obtain ⟨co_14_0, co_14_1⟩ := cells2s Ro_14
    go_wp2
    go_ret
    exact ⟨rfl, B14⟩
end Go.Proofs.YtkmlbjlaahcahaaGreatDoor
