/-
  What the functions that the statement reaches return: part 3 (JD).
-/
import Derived.Test.YtakmlgcnfbiagaaDoorBb02
namespace Go.Proofs.YtakmlgcnfbiagaaDoor
set_option maxRecDepth 100000
set_option maxHeartbeats 40000000
set_option maxRecDepth 100000
open Go.RowKit WMath
set_option linter.unusedSimpArgs false
set_option linter.unusedVariables false
theorem ebb_sj (a b : Int) : ebb a b a b = true := by unfold ebb; simp
set_option maxRecDepth 100000 in
set_option maxHeartbeats 8000000 in
theorem r22lives (a5 b5 : Nat) (w : World) (K1 : Box (∀ w, FAt w → Calls Tryd.prog 11 #[.int .u8 2, .agg #[.int .u64 0, .int .u64 15360]] w fun r w' => r = .returned (.tuple #[.agg #[.int .u64 18446744073709551615, .int .u64 18446744073709501440], .int .i64 0]) ∧ Below w.heap.size w w')) (K2 : Box (∀ w, FAt w → Calls Tryd.prog 9 #[.int .u8 2, .agg #[.int .u64 18446744073709551615, .int .u64 18446744073709501440]] w fun r w' => r = .returned (.tuple #[.agg #[.int .u64 0, .int .u64 15360], .int .i64 0]) ∧ Below w.heap.size w w')) (K3 : Box (∀ w, FAt w → Calls Tryd.prog 9 #[.int .u8 0, .agg #[.int .u64 18446744073709551615, .int .u64 18446744073709501440]] w fun r w' => r = .returned (.tuple #[.agg #[.int .u64 0, .int .u64 4294917120], .int .i64 0]) ∧ Below w.heap.size w w')) (K4 : Box (∀ w, FAt w → Calls Tryd.prog 9 #[.int .u8 2, .agg #[.int .u64 0, .int .u64 15360]] w fun r w' => r = .returned (.tuple #[.agg #[.int .u64 0, .int .u64 32256], .int .i64 0]) ∧ Below w.heap.size w w')) (K5 : Box (∀ w, FAt w → Calls Tryd.prog 11 #[.int .u8 2, .agg #[.int .u64 0, .int .u64 65536]] w fun r w' => r = .returned (.tuple #[.agg #[.int .u64 (a5 : Nat), .int .u64 (b5 : Nat)], .int .i64 2]) ∧ Below w.heap.size w w')) (hT : FAt w) : Calls Tryd.prog 14 #[] w fun r w' => r = .returned (.bool true) ∧ Below w.heap.size w w' := by
  have FF := box hT
  clear hT
  have hE := eqb
  have B0 : Below w.heap.size w w := (Below.refl _ _)
  go_enter Tryd.func14, Tryd.ntmps14
  go_wp2_with fail
  refine (K1.out _ (fatB FF.out B0)).mono ?_
  rintro r w1 ⟨rfl, b1⟩
  have B1 : Below w.heap.size w w1 := btr B0 b1
  clear b1 B0 
  have S2 := box B1.size
  have Ra_2 := heap_alloc_last w1 (Obj.cells #[.int .u64 18446744073709551615, .int .u64 18446744073709501440] 25)
  have B2 := btr B1 (bal w1 (Obj.cells #[.int .u64 18446744073709551615, .int .u64 18446744073709501440] 25))
  clear B1 
  obtain ⟨ca_2_0, ca_2_1⟩ := cells2s Ra_2
  go_wp2_with fail
  refine (K2.out _ (fatB FF.out B2)).mono ?_
  rintro r w3 ⟨rfl, b3⟩
  have B3 : Below w.heap.size w w3 := btr B2 b3
  have Ra_3 := heap_of b3 _ _ _ Ra_2
  clear b3 B2 Ra_2 ca_2_0 ca_2_1
  obtain ⟨ca_3_0, ca_3_1⟩ := cells2s Ra_3
  have S4 := box B3.size
  have La_4 : Box (w1.heap.size < w3.heap.size) := box (Array.getElem?_eq_some_iff.1 Ra_3).1
  have Rb_4 := heap_alloc_last w3 (Obj.cells #[.int .u64 0, .int .u64 15360] 25)
  have B4 := btr B3 (bal w3 (Obj.cells #[.int .u64 0, .int .u64 15360] 25))
  have Ra_4 := heap_of (bal w3 (Obj.cells #[.int .u64 0, .int .u64 15360] 25)) _ _ _ Ra_3
  clear B3 Ra_3 ca_3_0 ca_3_1
  obtain ⟨ca_4_0, ca_4_1⟩ := cells2s Ra_4
  obtain ⟨cb_4_0, cb_4_1⟩ := cells2s Rb_4
  go_wp2_with fail
  refine (K3.out _ (fatB FF.out B4)).mono ?_
  rintro r w5 ⟨rfl, b5⟩
  have B5 : Below w.heap.size w w5 := btr B4 b5
  have Ra_5 := heap_of b5 _ _ _ Ra_4
  have Rb_5 := heap_of b5 _ _ _ Rb_4
  clear b5 B4 Ra_4 ca_4_0 ca_4_1 Rb_4 cb_4_0 cb_4_1
  obtain ⟨ca_5_0, ca_5_1⟩ := cells2s Ra_5
  obtain ⟨cb_5_0, cb_5_1⟩ := cells2s Rb_5
  have S6 := box B5.size
  have La_6 : Box (w1.heap.size < w5.heap.size) := box (Array.getElem?_eq_some_iff.1 Ra_5).1
  have Lb_6 : Box (w3.heap.size < w5.heap.size) := box (Array.getElem?_eq_some_iff.1 Rb_5).1
  have Rc_6 := heap_alloc_last w5 (Obj.cells #[.int .u64 0, .int .u64 4294917120] 25)
  have B6 := btr B5 (bal w5 (Obj.cells #[.int .u64 0, .int .u64 4294917120] 25))
  have Ra_6 := heap_of (bal w5 (Obj.cells #[.int .u64 0, .int .u64 4294917120] 25)) _ _ _ Ra_5
  have Rb_6 := heap_of (bal w5 (Obj.cells #[.int .u64 0, .int .u64 4294917120] 25)) _ _ _ Rb_5
  clear B5 Ra_5 ca_5_0 ca_5_1 Rb_5 cb_5_0 cb_5_1
  obtain ⟨ca_6_0, ca_6_1⟩ := cells2s Ra_6
  obtain ⟨cb_6_0, cb_6_1⟩ := cells2s Rb_6
  obtain ⟨cc_6_0, cc_6_1⟩ := cells2s Rc_6
  go_wp2_with fail
  refine (K4.out _ (fatB FF.out B6)).mono ?_
  rintro r w7 ⟨rfl, b7⟩
  have B7 : Below w.heap.size w w7 := btr B6 b7
  have Ra_7 := heap_of b7 _ _ _ Ra_6
  have Rb_7 := heap_of b7 _ _ _ Rb_6
  have Rc_7 := heap_of b7 _ _ _ Rc_6
  clear b7 B6 Ra_6 ca_6_0 ca_6_1 Rb_6 cb_6_0 cb_6_1 Rc_6 cc_6_0 cc_6_1
  obtain ⟨ca_7_0, ca_7_1⟩ := cells2s Ra_7
  obtain ⟨cb_7_0, cb_7_1⟩ := cells2s Rb_7
  obtain ⟨cc_7_0, cc_7_1⟩ := cells2s Rc_7
  have S8 := box B7.size
  have La_8 : Box (w1.heap.size < w7.heap.size) := box (Array.getElem?_eq_some_iff.1 Ra_7).1
  have Lb_8 : Box (w3.heap.size < w7.heap.size) := box (Array.getElem?_eq_some_iff.1 Rb_7).1
  have Lc_8 : Box (w5.heap.size < w7.heap.size) := box (Array.getElem?_eq_some_iff.1 Rc_7).1
  have Rd_8 := heap_alloc_last w7 (Obj.cells #[.int .u64 0, .int .u64 32256] 25)
  have B8 := btr B7 (bal w7 (Obj.cells #[.int .u64 0, .int .u64 32256] 25))
  have Ra_8 := heap_of (bal w7 (Obj.cells #[.int .u64 0, .int .u64 32256] 25)) _ _ _ Ra_7
  have Rb_8 := heap_of (bal w7 (Obj.cells #[.int .u64 0, .int .u64 32256] 25)) _ _ _ Rb_7
  have Rc_8 := heap_of (bal w7 (Obj.cells #[.int .u64 0, .int .u64 32256] 25)) _ _ _ Rc_7
  clear B7 Ra_7 ca_7_0 ca_7_1 Rb_7 cb_7_0 cb_7_1 Rc_7 cc_7_0 cc_7_1
  obtain ⟨ca_8_0, ca_8_1⟩ := cells2s Ra_8
  obtain ⟨cb_8_0, cb_8_1⟩ := cells2s Rb_8
  obtain ⟨cc_8_0, cc_8_1⟩ := cells2s Rc_8
  obtain ⟨cd_8_0, cd_8_1⟩ := cells2s Rd_8
  go_wp2_with fail
  refine (K5.out _ (fatB FF.out B8)).mono ?_
  rintro r w9 ⟨rfl, b9⟩
  have B9 : Below w.heap.size w w9 := btr B8 b9
  have Ra_9 := heap_of b9 _ _ _ Ra_8
  have Rb_9 := heap_of b9 _ _ _ Rb_8
  have Rc_9 := heap_of b9 _ _ _ Rc_8
  have Rd_9 := heap_of b9 _ _ _ Rd_8
  clear b9 B8 Ra_8 ca_8_0 ca_8_1 Rb_8 cb_8_0 cb_8_1 Rc_8 cc_8_0 cc_8_1 Rd_8 cd_8_0 cd_8_1
  obtain ⟨ca_9_0, ca_9_1⟩ := cells2s Ra_9
  obtain ⟨cb_9_0, cb_9_1⟩ := cells2s Rb_9
  obtain ⟨cc_9_0, cc_9_1⟩ := cells2s Rc_9
  obtain ⟨cd_9_0, cd_9_1⟩ := cells2s Rd_9
  have S10 := box B9.size
  have La_10 : Box (w1.heap.size < w9.heap.size) := box (Array.getElem?_eq_some_iff.1 Ra_9).1
  have Lb_10 : Box (w3.heap.size < w9.heap.size) := box (Array.getElem?_eq_some_iff.1 Rb_9).1
  have Lc_10 : Box (w5.heap.size < w9.heap.size) := box (Array.getElem?_eq_some_iff.1 Rc_9).1
  have Ld_10 : Box (w7.heap.size < w9.heap.size) := box (Array.getElem?_eq_some_iff.1 Rd_9).1
  have Rq_10 := heap_alloc_last w9 (Obj.cells #[.int .u64 (a5 : Nat), .int .u64 (b5 : Nat)] 25)
  have B10 := btr B9 (bal w9 (Obj.cells #[.int .u64 (a5 : Nat), .int .u64 (b5 : Nat)] 25))
  have Ra_10 := heap_of (bal w9 (Obj.cells #[.int .u64 (a5 : Nat), .int .u64 (b5 : Nat)] 25)) _ _ _ Ra_9
  have Rb_10 := heap_of (bal w9 (Obj.cells #[.int .u64 (a5 : Nat), .int .u64 (b5 : Nat)] 25)) _ _ _ Rb_9
  have Rc_10 := heap_of (bal w9 (Obj.cells #[.int .u64 (a5 : Nat), .int .u64 (b5 : Nat)] 25)) _ _ _ Rc_9
  have Rd_10 := heap_of (bal w9 (Obj.cells #[.int .u64 (a5 : Nat), .int .u64 (b5 : Nat)] 25)) _ _ _ Rd_9
  clear B9 Ra_9 ca_9_0 ca_9_1 Rb_9 cb_9_0 cb_9_1 Rc_9 cc_9_0 cc_9_1 Rd_9 cd_9_0 cd_9_1
  obtain ⟨ca_10_0, ca_10_1⟩ := cells2s Ra_10
  obtain ⟨cb_10_0, cb_10_1⟩ := cells2s Rb_10
  obtain ⟨cc_10_0, cc_10_1⟩ := cells2s Rc_10
  obtain ⟨cd_10_0, cd_10_1⟩ := cells2s Rd_10
  obtain ⟨cq_10_0, cq_10_1⟩ := cells2s Rq_10
  go_wp2
  go_ret
  exact ⟨rfl, B10⟩
set_option maxRecDepth 100000 in
set_option maxHeartbeats 8000000 in
theorem bb_tn (f g p q wp wq : Int) (x y ul vl ur vr uu vu ua va uv vv : Nat) (hf : f.tmod 4 = p) (hg : g.tmod 4 = q) (ht : ebb (ua : Nat) (va : Nat) (x : Nat) (y : Nat) = true) (hl : decide (wp < wq) = false) (w : World) (K1 : Box (∀ w, FAt w → Calls Tryd.prog 10 #[.int .u8 p, .agg #[.int .u64 (x : Nat), .int .u64 (y : Nat)]] w fun r w' => r = .returned (.tuple #[.agg #[.int .u64 (ul : Nat), .int .u64 (vl : Nat)], .int .i64 0]) ∧ Below w.heap.size w w')) (K2 : Box (∀ w, FAt w → Calls Tryd.prog 11 #[.int .u8 p, .agg #[.int .u64 (ul : Nat), .int .u64 (vl : Nat)]] w fun r w' => r = .returned (.tuple #[.agg #[.int .u64 (ur : Nat), .int .u64 (vr : Nat)], .int .i64 0]) ∧ Below w.heap.size w w')) (K3 : Box (∀ w, FAt w → Calls Tryd.prog 9 #[.int .u8 p, .agg #[.int .u64 (ur : Nat), .int .u64 (vr : Nat)]] w fun r w' => r = .returned (.tuple #[.agg #[.int .u64 (ul : Nat), .int .u64 (vl : Nat)], .int .i64 0]) ∧ Below w.heap.size w w')) (K4 : Box (∀ w, FAt w → Calls Tryd.prog 10 #[.int .u8 p, .agg #[.int .u64 (ur : Nat), .int .u64 (vr : Nat)]] w fun r w' => r = .returned (.tuple #[.agg #[.int .u64 (ul : Nat), .int .u64 (vl : Nat)], .int .i64 0]) ∧ Below w.heap.size w w')) (KB1 : Box (∀ w, FAt w → Calls Tryd.prog 12 #[.int .u8 p, .agg #[.int .u64 (ur : Nat), .int .u64 (vr : Nat)]] w fun r w' => r = .returned (.bool true) ∧ Below w.heap.size w w')) (K5 : Box (∀ w, FAt w → Calls Tryd.prog 9 #[.int .u8 p, .agg #[.int .u64 (x : Nat), .int .u64 (y : Nat)]] w fun r w' => r = .returned (.tuple #[.agg #[.int .u64 (uu : Nat), .int .u64 (vu : Nat)], .int .i64 0]) ∧ Below w.heap.size w w')) (K6 : Box (∀ w, FAt w → Calls Tryd.prog 11 #[.int .u8 p, .agg #[.int .u64 (uu : Nat), .int .u64 (vu : Nat)]] w fun r w' => r = .returned (.tuple #[.agg #[.int .u64 (ua : Nat), .int .u64 (va : Nat)], .int .i64 0]) ∧ Below w.heap.size w w')) (KB2 : Box (∀ w, FAt w → Calls Tryd.prog 12 #[.int .u8 p, .agg #[.int .u64 (x : Nat), .int .u64 (y : Nat)]] w fun r w' => r = .returned (.bool true) ∧ Below w.heap.size w w')) (KD1 : Box (∀ w, Calls Tryd.prog 23 #[.int .u8 p] w fun r w' => r = .returned (.int .i64 wp) ∧ Below w.heap.size w w')) (KD2 : Box (∀ w, Calls Tryd.prog 23 #[.int .u8 q] w fun r w' => r = .returned (.int .i64 wq) ∧ Below w.heap.size w w')) (KV : Box (∀ w, FAt w → Calls Tryd.prog 14 #[] w fun r w' => r = .returned (.bool true) ∧ Below w.heap.size w w')) (hT : FAt w) : Calls Tryd.prog 5 #[.int .u8 f, .int .u8 g, .agg #[.int .u64 (x : Nat), .int .u64 (y : Nat)]] w fun r w' => r = .returned (.bool true) ∧ Below w.heap.size w w' := by
  have FF := box hT
  clear hT
  have hE := eqb
  have e1 := ebb_sj (ul : Nat) (vl : Nat)
  obtain ⟨Rr0_0, B0⟩ := opn1 w (Obj.cells #[.int .u64 (x : Nat), .int .u64 (y : Nat)] 25)
  go_enter Tryd.func5, Tryd.ntmps5
  obtain ⟨cr0_0_0, cr0_0_1⟩ := cells2s Rr0_0
  go_wp2_with fail
  refine (K1.out _ (fatB FF.out B0)).mono ?_
  rintro r w1 ⟨rfl, b1⟩
  have B1 : Below w.heap.size w w1 := btr B0 b1
  have Rr0_1 := heap_of b1 _ _ _ Rr0_0
  clear b1 B0 Rr0_0 cr0_0_0 cr0_0_1
  obtain ⟨cr0_1_0, cr0_1_1⟩ := cells2s Rr0_1
  have S2 := box B1.size
  have Lr0_2 : Box (w.heap.size < w1.heap.size) := box (Array.getElem?_eq_some_iff.1 Rr0_1).1
  have Rlo_2 := heap_alloc_last w1 (Obj.cells #[.int .u64 (ul : Nat), .int .u64 (vl : Nat)] 25)
  have B2 := btr B1 (bal w1 (Obj.cells #[.int .u64 (ul : Nat), .int .u64 (vl : Nat)] 25))
  have Rr0_2 := heap_of (bal w1 (Obj.cells #[.int .u64 (ul : Nat), .int .u64 (vl : Nat)] 25)) _ _ _ Rr0_1
  clear B1 Rr0_1 cr0_1_0 cr0_1_1
  obtain ⟨cr0_2_0, cr0_2_1⟩ := cells2s Rr0_2
  obtain ⟨clo_2_0, clo_2_1⟩ := cells2s Rlo_2
  go_wp2_with fail
  refine (K2.out _ (fatB FF.out B2)).mono ?_
  rintro r w3 ⟨rfl, b3⟩
  have B3 : Below w.heap.size w w3 := btr B2 b3
  have Rr0_3 := heap_of b3 _ _ _ Rr0_2
  have Rlo_3 := heap_of b3 _ _ _ Rlo_2
  clear b3 B2 Rr0_2 cr0_2_0 cr0_2_1 Rlo_2 clo_2_0 clo_2_1
  obtain ⟨cr0_3_0, cr0_3_1⟩ := cells2s Rr0_3
  obtain ⟨clo_3_0, clo_3_1⟩ := cells2s Rlo_3
  have S4 := box B3.size
  have Lr0_4 : Box (w.heap.size < w3.heap.size) := box (Array.getElem?_eq_some_iff.1 Rr0_3).1
  have Llo_4 : Box (w1.heap.size < w3.heap.size) := box (Array.getElem?_eq_some_iff.1 Rlo_3).1
  have Rr_4 := heap_alloc_last w3 (Obj.cells #[.int .u64 (ur : Nat), .int .u64 (vr : Nat)] 25)
  have B4 := btr B3 (bal w3 (Obj.cells #[.int .u64 (ur : Nat), .int .u64 (vr : Nat)] 25))
  have Rr0_4 := heap_of (bal w3 (Obj.cells #[.int .u64 (ur : Nat), .int .u64 (vr : Nat)] 25)) _ _ _ Rr0_3
  have Rlo_4 := heap_of (bal w3 (Obj.cells #[.int .u64 (ur : Nat), .int .u64 (vr : Nat)] 25)) _ _ _ Rlo_3
  clear B3 Rr0_3 cr0_3_0 cr0_3_1 Rlo_3 clo_3_0 clo_3_1
  obtain ⟨cr0_4_0, cr0_4_1⟩ := cells2s Rr0_4
  obtain ⟨clo_4_0, clo_4_1⟩ := cells2s Rlo_4
  obtain ⟨cr_4_0, cr_4_1⟩ := cells2s Rr_4
  go_wp2_with fail
  refine (K3.out _ (fatB FF.out B4)).mono ?_
  rintro r w5 ⟨rfl, b5⟩
  have B5 : Below w.heap.size w w5 := btr B4 b5
  have Rr0_5 := heap_of b5 _ _ _ Rr0_4
  have Rlo_5 := heap_of b5 _ _ _ Rlo_4
  have Rr_5 := heap_of b5 _ _ _ Rr_4
  clear b5 B4 Rr0_4 cr0_4_0 cr0_4_1 Rlo_4 clo_4_0 clo_4_1 Rr_4 cr_4_0 cr_4_1
  obtain ⟨cr0_5_0, cr0_5_1⟩ := cells2s Rr0_5
  obtain ⟨clo_5_0, clo_5_1⟩ := cells2s Rlo_5
  obtain ⟨cr_5_0, cr_5_1⟩ := cells2s Rr_5
  have S6 := box B5.size
  have Lr0_6 : Box (w.heap.size < w5.heap.size) := box (Array.getElem?_eq_some_iff.1 Rr0_5).1
  have Llo_6 : Box (w1.heap.size < w5.heap.size) := box (Array.getElem?_eq_some_iff.1 Rlo_5).1
  have Lr_6 : Box (w3.heap.size < w5.heap.size) := box (Array.getElem?_eq_some_iff.1 Rr_5).1
  have Rxx_6 := heap_alloc_last w5 (Obj.cells #[.int .u64 (ul : Nat), .int .u64 (vl : Nat)] 25)
  have B6 := btr B5 (bal w5 (Obj.cells #[.int .u64 (ul : Nat), .int .u64 (vl : Nat)] 25))
  have Rr0_6 := heap_of (bal w5 (Obj.cells #[.int .u64 (ul : Nat), .int .u64 (vl : Nat)] 25)) _ _ _ Rr0_5
  have Rlo_6 := heap_of (bal w5 (Obj.cells #[.int .u64 (ul : Nat), .int .u64 (vl : Nat)] 25)) _ _ _ Rlo_5
  have Rr_6 := heap_of (bal w5 (Obj.cells #[.int .u64 (ul : Nat), .int .u64 (vl : Nat)] 25)) _ _ _ Rr_5
  clear B5 Rr0_5 cr0_5_0 cr0_5_1 Rlo_5 clo_5_0 clo_5_1 Rr_5 cr_5_0 cr_5_1
  obtain ⟨cr0_6_0, cr0_6_1⟩ := cells2s Rr0_6
  obtain ⟨clo_6_0, clo_6_1⟩ := cells2s Rlo_6
  obtain ⟨cr_6_0, cr_6_1⟩ := cells2s Rr_6
  obtain ⟨cxx_6_0, cxx_6_1⟩ := cells2s Rxx_6
  go_wp2_with fail
  refine (K4.out _ (fatB FF.out B6)).mono ?_
  rintro r w7 ⟨rfl, b7⟩
  have B7 : Below w.heap.size w w7 := btr B6 b7
  have Rr0_7 := heap_of b7 _ _ _ Rr0_6
  have Rlo_7 := heap_of b7 _ _ _ Rlo_6
  have Rr_7 := heap_of b7 _ _ _ Rr_6
  have Rxx_7 := heap_of b7 _ _ _ Rxx_6
  clear b7 B6 Rr0_6 cr0_6_0 cr0_6_1 Rlo_6 clo_6_0 clo_6_1 Rr_6 cr_6_0 cr_6_1 Rxx_6 cxx_6_0 cxx_6_1
  obtain ⟨cr0_7_0, cr0_7_1⟩ := cells2s Rr0_7
  obtain ⟨clo_7_0, clo_7_1⟩ := cells2s Rlo_7
  obtain ⟨cr_7_0, cr_7_1⟩ := cells2s Rr_7
  obtain ⟨cxx_7_0, cxx_7_1⟩ := cells2s Rxx_7
  have S8 := box B7.size
  have Lr0_8 : Box (w.heap.size < w7.heap.size) := box (Array.getElem?_eq_some_iff.1 Rr0_7).1
  have Llo_8 : Box (w1.heap.size < w7.heap.size) := box (Array.getElem?_eq_some_iff.1 Rlo_7).1
  have Lr_8 : Box (w3.heap.size < w7.heap.size) := box (Array.getElem?_eq_some_iff.1 Rr_7).1
  have Lxx_8 : Box (w5.heap.size < w7.heap.size) := box (Array.getElem?_eq_some_iff.1 Rxx_7).1
  have Ryy_8 := heap_alloc_last w7 (Obj.cells #[.int .u64 (ul : Nat), .int .u64 (vl : Nat)] 25)
  have B8 := btr B7 (bal w7 (Obj.cells #[.int .u64 (ul : Nat), .int .u64 (vl : Nat)] 25))
  have Rr0_8 := heap_of (bal w7 (Obj.cells #[.int .u64 (ul : Nat), .int .u64 (vl : Nat)] 25)) _ _ _ Rr0_7
  have Rlo_8 := heap_of (bal w7 (Obj.cells #[.int .u64 (ul : Nat), .int .u64 (vl : Nat)] 25)) _ _ _ Rlo_7
  have Rr_8 := heap_of (bal w7 (Obj.cells #[.int .u64 (ul : Nat), .int .u64 (vl : Nat)] 25)) _ _ _ Rr_7
  have Rxx_8 := heap_of (bal w7 (Obj.cells #[.int .u64 (ul : Nat), .int .u64 (vl : Nat)] 25)) _ _ _ Rxx_7
  clear B7 Rr0_7 cr0_7_0 cr0_7_1 Rlo_7 clo_7_0 clo_7_1 Rr_7 cr_7_0 cr_7_1 Rxx_7 cxx_7_0 cxx_7_1
  obtain ⟨cr0_8_0, cr0_8_1⟩ := cells2s Rr0_8
  obtain ⟨clo_8_0, clo_8_1⟩ := cells2s Rlo_8
  obtain ⟨cr_8_0, cr_8_1⟩ := cells2s Rr_8
  obtain ⟨cxx_8_0, cxx_8_1⟩ := cells2s Rxx_8
  obtain ⟨cyy_8_0, cyy_8_1⟩ := cells2s Ryy_8
  go_wp2_with fail
  refine (KB1.out _ (fatB FF.out B8)).mono ?_
  rintro r w9 ⟨rfl, b9⟩
  have B9 : Below w.heap.size w w9 := btr B8 b9
  have Rr0_9 := heap_of b9 _ _ _ Rr0_8
  have Rlo_9 := heap_of b9 _ _ _ Rlo_8
  have Rr_9 := heap_of b9 _ _ _ Rr_8
  have Rxx_9 := heap_of b9 _ _ _ Rxx_8
  have Ryy_9 := heap_of b9 _ _ _ Ryy_8
  clear b9 B8 Rr0_8 cr0_8_0 cr0_8_1 Rlo_8 clo_8_0 clo_8_1 Rr_8 cr_8_0 cr_8_1 Rxx_8 cxx_8_0 cxx_8_1 Ryy_8 cyy_8_0 cyy_8_1
  obtain ⟨cr0_9_0, cr0_9_1⟩ := cells2s Rr0_9
  obtain ⟨clo_9_0, clo_9_1⟩ := cells2s Rlo_9
  obtain ⟨cr_9_0, cr_9_1⟩ := cells2s Rr_9
  obtain ⟨cxx_9_0, cxx_9_1⟩ := cells2s Rxx_9
  obtain ⟨cyy_9_0, cyy_9_1⟩ := cells2s Ryy_9
  go_wp2_with fail
  refine (K5.out _ (fatB FF.out B9)).mono ?_
  rintro r w10 ⟨rfl, b10⟩
  have B10 : Below w.heap.size w w10 := btr B9 b10
  have Rr0_10 := heap_of b10 _ _ _ Rr0_9
  have Rlo_10 := heap_of b10 _ _ _ Rlo_9
  have Rr_10 := heap_of b10 _ _ _ Rr_9
  have Rxx_10 := heap_of b10 _ _ _ Rxx_9
  have Ryy_10 := heap_of b10 _ _ _ Ryy_9
  clear b10 B9 Rr0_9 cr0_9_0 cr0_9_1 Rlo_9 clo_9_0 clo_9_1 Rr_9 cr_9_0 cr_9_1 Rxx_9 cxx_9_0 cxx_9_1 Ryy_9 cyy_9_0 cyy_9_1
  obtain ⟨cr0_10_0, cr0_10_1⟩ := cells2s Rr0_10
  obtain ⟨clo_10_0, clo_10_1⟩ := cells2s Rlo_10
  obtain ⟨cr_10_0, cr_10_1⟩ := cells2s Rr_10
  obtain ⟨cxx_10_0, cxx_10_1⟩ := cells2s Rxx_10
  obtain ⟨cyy_10_0, cyy_10_1⟩ := cells2s Ryy_10
  have S11 := box B10.size
  have Lr0_11 : Box (w.heap.size < w10.heap.size) := box (Array.getElem?_eq_some_iff.1 Rr0_10).1
  have Llo_11 : Box (w1.heap.size < w10.heap.size) := box (Array.getElem?_eq_some_iff.1 Rlo_10).1
  have Lr_11 : Box (w3.heap.size < w10.heap.size) := box (Array.getElem?_eq_some_iff.1 Rr_10).1
  have Lxx_11 : Box (w5.heap.size < w10.heap.size) := box (Array.getElem?_eq_some_iff.1 Rxx_10).1
  have Lyy_11 : Box (w7.heap.size < w10.heap.size) := box (Array.getElem?_eq_some_iff.1 Ryy_10).1
  have Ruu_11 := heap_alloc_last w10 (Obj.cells #[.int .u64 (uu : Nat), .int .u64 (vu : Nat)] 25)
  have B11 := btr B10 (bal w10 (Obj.cells #[.int .u64 (uu : Nat), .int .u64 (vu : Nat)] 25))
  have Rr0_11 := heap_of (bal w10 (Obj.cells #[.int .u64 (uu : Nat), .int .u64 (vu : Nat)] 25)) _ _ _ Rr0_10
  have Rlo_11 := heap_of (bal w10 (Obj.cells #[.int .u64 (uu : Nat), .int .u64 (vu : Nat)] 25)) _ _ _ Rlo_10
  have Rr_11 := heap_of (bal w10 (Obj.cells #[.int .u64 (uu : Nat), .int .u64 (vu : Nat)] 25)) _ _ _ Rr_10
  have Rxx_11 := heap_of (bal w10 (Obj.cells #[.int .u64 (uu : Nat), .int .u64 (vu : Nat)] 25)) _ _ _ Rxx_10
  have Ryy_11 := heap_of (bal w10 (Obj.cells #[.int .u64 (uu : Nat), .int .u64 (vu : Nat)] 25)) _ _ _ Ryy_10
  clear B10 Rr0_10 cr0_10_0 cr0_10_1 Rlo_10 clo_10_0 clo_10_1 Rr_10 cr_10_0 cr_10_1 Rxx_10 cxx_10_0 cxx_10_1 Ryy_10 cyy_10_0 cyy_10_1
  obtain ⟨cr0_11_0, cr0_11_1⟩ := cells2s Rr0_11
  obtain ⟨clo_11_0, clo_11_1⟩ := cells2s Rlo_11
  obtain ⟨cr_11_0, cr_11_1⟩ := cells2s Rr_11
  obtain ⟨cxx_11_0, cxx_11_1⟩ := cells2s Rxx_11
  obtain ⟨cyy_11_0, cyy_11_1⟩ := cells2s Ryy_11
  obtain ⟨cuu_11_0, cuu_11_1⟩ := cells2s Ruu_11
  go_wp2_with fail
  refine (K6.out _ (fatB FF.out B11)).mono ?_
  rintro r w12 ⟨rfl, b12⟩
  have B12 : Below w.heap.size w w12 := btr B11 b12
  have Rr0_12 := heap_of b12 _ _ _ Rr0_11
  have Rlo_12 := heap_of b12 _ _ _ Rlo_11
  have Rr_12 := heap_of b12 _ _ _ Rr_11
  have Rxx_12 := heap_of b12 _ _ _ Rxx_11
  have Ryy_12 := heap_of b12 _ _ _ Ryy_11
  have Ruu_12 := heap_of b12 _ _ _ Ruu_11
  clear b12 B11 Rr0_11 cr0_11_0 cr0_11_1 Rlo_11 clo_11_0 clo_11_1 Rr_11 cr_11_0 cr_11_1 Rxx_11 cxx_11_0 cxx_11_1 Ryy_11 cyy_11_0 cyy_11_1 Ruu_11 cuu_11_0 cuu_11_1
  obtain ⟨cr0_12_0, cr0_12_1⟩ := cells2s Rr0_12
  obtain ⟨clo_12_0, clo_12_1⟩ := cells2s Rlo_12
  obtain ⟨cr_12_0, cr_12_1⟩ := cells2s Rr_12
  obtain ⟨cxx_12_0, cxx_12_1⟩ := cells2s Rxx_12
  obtain ⟨cyy_12_0, cyy_12_1⟩ := cells2s Ryy_12
  obtain ⟨cuu_12_0, cuu_12_1⟩ := cells2s Ruu_12
  have S13 := box B12.size
  have Lr0_13 : Box (w.heap.size < w12.heap.size) := box (Array.getElem?_eq_some_iff.1 Rr0_12).1
  have Llo_13 : Box (w1.heap.size < w12.heap.size) := box (Array.getElem?_eq_some_iff.1 Rlo_12).1
  have Lr_13 : Box (w3.heap.size < w12.heap.size) := box (Array.getElem?_eq_some_iff.1 Rr_12).1
  have Lxx_13 : Box (w5.heap.size < w12.heap.size) := box (Array.getElem?_eq_some_iff.1 Rxx_12).1
  have Lyy_13 : Box (w7.heap.size < w12.heap.size) := box (Array.getElem?_eq_some_iff.1 Ryy_12).1
  have Luu_13 : Box (w10.heap.size < w12.heap.size) := box (Array.getElem?_eq_some_iff.1 Ruu_12).1
  have Rag_13 := heap_alloc_last w12 (Obj.cells #[.int .u64 (ua : Nat), .int .u64 (va : Nat)] 25)
  have B13 := btr B12 (bal w12 (Obj.cells #[.int .u64 (ua : Nat), .int .u64 (va : Nat)] 25))
  have Rr0_13 := heap_of (bal w12 (Obj.cells #[.int .u64 (ua : Nat), .int .u64 (va : Nat)] 25)) _ _ _ Rr0_12
  have Rlo_13 := heap_of (bal w12 (Obj.cells #[.int .u64 (ua : Nat), .int .u64 (va : Nat)] 25)) _ _ _ Rlo_12
  have Rr_13 := heap_of (bal w12 (Obj.cells #[.int .u64 (ua : Nat), .int .u64 (va : Nat)] 25)) _ _ _ Rr_12
  have Rxx_13 := heap_of (bal w12 (Obj.cells #[.int .u64 (ua : Nat), .int .u64 (va : Nat)] 25)) _ _ _ Rxx_12
  have Ryy_13 := heap_of (bal w12 (Obj.cells #[.int .u64 (ua : Nat), .int .u64 (va : Nat)] 25)) _ _ _ Ryy_12
  have Ruu_13 := heap_of (bal w12 (Obj.cells #[.int .u64 (ua : Nat), .int .u64 (va : Nat)] 25)) _ _ _ Ruu_12
  clear B12 Rr0_12 cr0_12_0 cr0_12_1 Rlo_12 clo_12_0 clo_12_1 Rr_12 cr_12_0 cr_12_1 Rxx_12 cxx_12_0 cxx_12_1 Ryy_12 cyy_12_0 cyy_12_1 Ruu_12 cuu_12_0 cuu_12_1
  obtain ⟨cr0_13_0, cr0_13_1⟩ := cells2s Rr0_13
  obtain ⟨clo_13_0, clo_13_1⟩ := cells2s Rlo_13
  obtain ⟨cr_13_0, cr_13_1⟩ := cells2s Rr_13
  obtain ⟨cxx_13_0, cxx_13_1⟩ := cells2s Rxx_13
  obtain ⟨cyy_13_0, cyy_13_1⟩ := cells2s Ryy_13
  obtain ⟨cuu_13_0, cuu_13_1⟩ := cells2s Ruu_13
  obtain ⟨cag_13_0, cag_13_1⟩ := cells2s Rag_13
  go_wp2_with fail
  obtain ⟨F, hF1, hF2⟩ := below_fun (w12.alloc (Obj.cells #[.int .u64 (ua : Nat), .int .u64 (va : Nat)] 25))
  have fr0_0 := fun u => cells4 (heap_of (hF1 u) _ _ _ Rr0_13) 0 _ rfl
  have fr0_1 := fun u => cells4 (heap_of (hF1 u) _ _ _ Rr0_13) 1 _ rfl
  have flo_0 := fun u => cells4 (heap_of (hF1 u) _ _ _ Rlo_13) 0 _ rfl
  have flo_1 := fun u => cells4 (heap_of (hF1 u) _ _ _ Rlo_13) 1 _ rfl
  have fr_0 := fun u => cells4 (heap_of (hF1 u) _ _ _ Rr_13) 0 _ rfl
  have fr_1 := fun u => cells4 (heap_of (hF1 u) _ _ _ Rr_13) 1 _ rfl
  have fxx_0 := fun u => cells4 (heap_of (hF1 u) _ _ _ Rxx_13) 0 _ rfl
  have fxx_1 := fun u => cells4 (heap_of (hF1 u) _ _ _ Rxx_13) 1 _ rfl
  have fyy_0 := fun u => cells4 (heap_of (hF1 u) _ _ _ Ryy_13) 0 _ rfl
  have fyy_1 := fun u => cells4 (heap_of (hF1 u) _ _ _ Ryy_13) 1 _ rfl
  have fuu_0 := fun u => cells4 (heap_of (hF1 u) _ _ _ Ruu_13) 0 _ rfl
  have fuu_1 := fun u => cells4 (heap_of (hF1 u) _ _ _ Ruu_13) 1 _ rfl
  have fag_0 := fun u => cells4 (heap_of (hF1 u) _ _ _ Rag_13) 0 _ rfl
  have fag_1 := fun u => cells4 (heap_of (hF1 u) _ _ _ Rag_13) 1 _ rfl
  have FG : Box (∀ u, FAt (F u)) := box (fun u => fatB FF.out (btr B13 (hF1 u)))
  refine wp_region_below F hF2 (by kernel_rfl) (by kernel_rfl) ?_
  repeat first | go_big_quiet_step (first | (go_at_call 12; exact quietF hF1 hF2 (KB2.out _ (FG.out _))) | fail) | quiet_step (first | (go_at_call 12; exact quietF hF1 hF2 (KB2.out _ (FG.out _))) | fail)
  refine wpQuiet_nil ?_
  rintro _ ⟨uW, rfl⟩
  have B14 := btr B13 (hF1 uW)
  have Rr0_14 := heap_of (hF1 uW) _ _ _ Rr0_13
  have Rlo_14 := heap_of (hF1 uW) _ _ _ Rlo_13
  have Rr_14 := heap_of (hF1 uW) _ _ _ Rr_13
  have Rxx_14 := heap_of (hF1 uW) _ _ _ Rxx_13
  have Ryy_14 := heap_of (hF1 uW) _ _ _ Ryy_13
  have Ruu_14 := heap_of (hF1 uW) _ _ _ Ruu_13
  have Rag_14 := heap_of (hF1 uW) _ _ _ Rag_13
  obtain ⟨w14, hw⟩ : ∃ V, F uW = V := ⟨_, rfl⟩
  rw [hw] at B14 Rr0_14 Rlo_14 Rr_14 Rxx_14 Ryy_14 Ruu_14 Rag_14
  try rw [hw]
  clear hw hF1 hF2 B13 fr0_0 fr0_1 flo_0 flo_1 fr_0 fr_1 fxx_0 fxx_1 fyy_0 fyy_1 fuu_0 fuu_1 fag_0 fag_1 Rr0_13 cr0_13_0 cr0_13_1 Rlo_13 clo_13_0 clo_13_1 Rr_13 cr_13_0 cr_13_1 Rxx_13 cxx_13_0 cxx_13_1 Ryy_13 cyy_13_0 cyy_13_1 Ruu_13 cuu_13_0 cuu_13_1 Rag_13 cag_13_0 cag_13_1
  clear FG
  clear F
  obtain ⟨cr0_14_0, cr0_14_1⟩ := cells2s Rr0_14
  obtain ⟨clo_14_0, clo_14_1⟩ := cells2s Rlo_14
  obtain ⟨cr_14_0, cr_14_1⟩ := cells2s Rr_14
  obtain ⟨cxx_14_0, cxx_14_1⟩ := cells2s Rxx_14
  obtain ⟨cyy_14_0, cyy_14_1⟩ := cells2s Ryy_14
  obtain ⟨cuu_14_0, cuu_14_1⟩ := cells2s Ruu_14
  obtain ⟨cag_14_0, cag_14_1⟩ := cells2s Rag_14
  go_wp2_with fail
  refine (KD1.out _).mono ?_
  rintro r w15 ⟨rfl, b15⟩
  have B15 : Below w.heap.size w w15 := btr B14 b15
  have Rr0_15 := heap_of b15 _ _ _ Rr0_14
  have Rlo_15 := heap_of b15 _ _ _ Rlo_14
  have Rr_15 := heap_of b15 _ _ _ Rr_14
  have Rxx_15 := heap_of b15 _ _ _ Rxx_14
  have Ryy_15 := heap_of b15 _ _ _ Ryy_14
  have Ruu_15 := heap_of b15 _ _ _ Ruu_14
  have Rag_15 := heap_of b15 _ _ _ Rag_14
  clear b15 B14 Rr0_14 cr0_14_0 cr0_14_1 Rlo_14 clo_14_0 clo_14_1 Rr_14 cr_14_0 cr_14_1 Rxx_14 cxx_14_0 cxx_14_1 Ryy_14 cyy_14_0 cyy_14_1 Ruu_14 cuu_14_0 cuu_14_1 Rag_14 cag_14_0 cag_14_1
  obtain ⟨cr0_15_0, cr0_15_1⟩ := cells2s Rr0_15
  obtain ⟨clo_15_0, clo_15_1⟩ := cells2s Rlo_15
  obtain ⟨cr_15_0, cr_15_1⟩ := cells2s Rr_15
  obtain ⟨cxx_15_0, cxx_15_1⟩ := cells2s Rxx_15
  obtain ⟨cyy_15_0, cyy_15_1⟩ := cells2s Ryy_15
  obtain ⟨cuu_15_0, cuu_15_1⟩ := cells2s Ruu_15
  obtain ⟨cag_15_0, cag_15_1⟩ := cells2s Rag_15
  go_wp2_with fail
  refine (KD2.out _).mono ?_
  rintro r w16 ⟨rfl, b16⟩
  have B16 : Below w.heap.size w w16 := btr B15 b16
  have Rr0_16 := heap_of b16 _ _ _ Rr0_15
  have Rlo_16 := heap_of b16 _ _ _ Rlo_15
  have Rr_16 := heap_of b16 _ _ _ Rr_15
  have Rxx_16 := heap_of b16 _ _ _ Rxx_15
  have Ryy_16 := heap_of b16 _ _ _ Ryy_15
  have Ruu_16 := heap_of b16 _ _ _ Ruu_15
  have Rag_16 := heap_of b16 _ _ _ Rag_15
  clear b16 B15 Rr0_15 cr0_15_0 cr0_15_1 Rlo_15 clo_15_0 clo_15_1 Rr_15 cr_15_0 cr_15_1 Rxx_15 cxx_15_0 cxx_15_1 Ryy_15 cyy_15_0 cyy_15_1 Ruu_15 cuu_15_0 cuu_15_1 Rag_15 cag_15_0 cag_15_1
  obtain ⟨cr0_16_0, cr0_16_1⟩ := cells2s Rr0_16
  obtain ⟨clo_16_0, clo_16_1⟩ := cells2s Rlo_16
  obtain ⟨cr_16_0, cr_16_1⟩ := cells2s Rr_16
  obtain ⟨cxx_16_0, cxx_16_1⟩ := cells2s Rxx_16
  obtain ⟨cyy_16_0, cyy_16_1⟩ := cells2s Ryy_16
  obtain ⟨cuu_16_0, cuu_16_1⟩ := cells2s Ruu_16
  obtain ⟨cag_16_0, cag_16_1⟩ := cells2s Rag_16
  go_wp2_with fail
  refine (KV.out _ (fatB FF.out B16)).mono ?_
  rintro r w17 ⟨rfl, b17⟩
  have B17 : Below w.heap.size w w17 := btr B16 b17
  have Rr0_17 := heap_of b17 _ _ _ Rr0_16
  have Rlo_17 := heap_of b17 _ _ _ Rlo_16
  have Rr_17 := heap_of b17 _ _ _ Rr_16
  have Rxx_17 := heap_of b17 _ _ _ Rxx_16
  have Ryy_17 := heap_of b17 _ _ _ Ryy_16
  have Ruu_17 := heap_of b17 _ _ _ Ruu_16
  have Rag_17 := heap_of b17 _ _ _ Rag_16
  clear b17 B16 Rr0_16 cr0_16_0 cr0_16_1 Rlo_16 clo_16_0 clo_16_1 Rr_16 cr_16_0 cr_16_1 Rxx_16 cxx_16_0 cxx_16_1 Ryy_16 cyy_16_0 cyy_16_1 Ruu_16 cuu_16_0 cuu_16_1 Rag_16 cag_16_0 cag_16_1
  obtain ⟨cr0_17_0, cr0_17_1⟩ := cells2s Rr0_17
  obtain ⟨clo_17_0, clo_17_1⟩ := cells2s Rlo_17
  obtain ⟨cr_17_0, cr_17_1⟩ := cells2s Rr_17
  obtain ⟨cxx_17_0, cxx_17_1⟩ := cells2s Rxx_17
  obtain ⟨cyy_17_0, cyy_17_1⟩ := cells2s Ryy_17
  obtain ⟨cuu_17_0, cuu_17_1⟩ := cells2s Ruu_17
  obtain ⟨cag_17_0, cag_17_1⟩ := cells2s Rag_17
  go_wp2
  go_ret
  exact ⟨rfl, B17⟩
set_option maxRecDepth 100000 in
set_option maxHeartbeats 8000000 in
theorem bb_fn (f g p q wp wq : Int) (x y ul vl ur vr uu vu ua va uv vv : Nat) (hf : f.tmod 4 = p) (hg : g.tmod 4 = q) (ht : ebb (ua : Nat) (va : Nat) (x : Nat) (y : Nat) = false) (hl : decide (wp < wq) = false) (w : World) (K1 : Box (∀ w, FAt w → Calls Tryd.prog 10 #[.int .u8 p, .agg #[.int .u64 (x : Nat), .int .u64 (y : Nat)]] w fun r w' => r = .returned (.tuple #[.agg #[.int .u64 (ul : Nat), .int .u64 (vl : Nat)], .int .i64 0]) ∧ Below w.heap.size w w')) (K2 : Box (∀ w, FAt w → Calls Tryd.prog 11 #[.int .u8 p, .agg #[.int .u64 (ul : Nat), .int .u64 (vl : Nat)]] w fun r w' => r = .returned (.tuple #[.agg #[.int .u64 (ur : Nat), .int .u64 (vr : Nat)], .int .i64 0]) ∧ Below w.heap.size w w')) (K3 : Box (∀ w, FAt w → Calls Tryd.prog 9 #[.int .u8 p, .agg #[.int .u64 (ur : Nat), .int .u64 (vr : Nat)]] w fun r w' => r = .returned (.tuple #[.agg #[.int .u64 (ul : Nat), .int .u64 (vl : Nat)], .int .i64 0]) ∧ Below w.heap.size w w')) (K4 : Box (∀ w, FAt w → Calls Tryd.prog 10 #[.int .u8 p, .agg #[.int .u64 (ur : Nat), .int .u64 (vr : Nat)]] w fun r w' => r = .returned (.tuple #[.agg #[.int .u64 (ul : Nat), .int .u64 (vl : Nat)], .int .i64 0]) ∧ Below w.heap.size w w')) (KB1 : Box (∀ w, FAt w → Calls Tryd.prog 12 #[.int .u8 p, .agg #[.int .u64 (ur : Nat), .int .u64 (vr : Nat)]] w fun r w' => r = .returned (.bool true) ∧ Below w.heap.size w w')) (K5 : Box (∀ w, FAt w → Calls Tryd.prog 9 #[.int .u8 p, .agg #[.int .u64 (x : Nat), .int .u64 (y : Nat)]] w fun r w' => r = .returned (.tuple #[.agg #[.int .u64 (uu : Nat), .int .u64 (vu : Nat)], .int .i64 0]) ∧ Below w.heap.size w w')) (K6 : Box (∀ w, FAt w → Calls Tryd.prog 11 #[.int .u8 p, .agg #[.int .u64 (uu : Nat), .int .u64 (vu : Nat)]] w fun r w' => r = .returned (.tuple #[.agg #[.int .u64 (ua : Nat), .int .u64 (va : Nat)], .int .i64 0]) ∧ Below w.heap.size w w')) (KB2 : Box (∀ w, FAt w → Calls Tryd.prog 12 #[.int .u8 p, .agg #[.int .u64 (x : Nat), .int .u64 (y : Nat)]] w fun r w' => r = .returned (.bool false) ∧ Below w.heap.size w w')) (KD1 : Box (∀ w, Calls Tryd.prog 23 #[.int .u8 p] w fun r w' => r = .returned (.int .i64 wp) ∧ Below w.heap.size w w')) (KD2 : Box (∀ w, Calls Tryd.prog 23 #[.int .u8 q] w fun r w' => r = .returned (.int .i64 wq) ∧ Below w.heap.size w w')) (KV : Box (∀ w, FAt w → Calls Tryd.prog 14 #[] w fun r w' => r = .returned (.bool true) ∧ Below w.heap.size w w')) (hT : FAt w) : Calls Tryd.prog 5 #[.int .u8 f, .int .u8 g, .agg #[.int .u64 (x : Nat), .int .u64 (y : Nat)]] w fun r w' => r = .returned (.bool true) ∧ Below w.heap.size w w' := by
  have FF := box hT
  clear hT
  have hE := eqb
  have e1 := ebb_sj (ul : Nat) (vl : Nat)
  obtain ⟨Rr0_0, B0⟩ := opn1 w (Obj.cells #[.int .u64 (x : Nat), .int .u64 (y : Nat)] 25)
  go_enter Tryd.func5, Tryd.ntmps5
  obtain ⟨cr0_0_0, cr0_0_1⟩ := cells2s Rr0_0
  go_wp2_with fail
  refine (K1.out _ (fatB FF.out B0)).mono ?_
  rintro r w1 ⟨rfl, b1⟩
  have B1 : Below w.heap.size w w1 := btr B0 b1
  have Rr0_1 := heap_of b1 _ _ _ Rr0_0
  clear b1 B0 Rr0_0 cr0_0_0 cr0_0_1
  obtain ⟨cr0_1_0, cr0_1_1⟩ := cells2s Rr0_1
  have S2 := box B1.size
  have Lr0_2 : Box (w.heap.size < w1.heap.size) := box (Array.getElem?_eq_some_iff.1 Rr0_1).1
  have Rlo_2 := heap_alloc_last w1 (Obj.cells #[.int .u64 (ul : Nat), .int .u64 (vl : Nat)] 25)
  have B2 := btr B1 (bal w1 (Obj.cells #[.int .u64 (ul : Nat), .int .u64 (vl : Nat)] 25))
  have Rr0_2 := heap_of (bal w1 (Obj.cells #[.int .u64 (ul : Nat), .int .u64 (vl : Nat)] 25)) _ _ _ Rr0_1
  clear B1 Rr0_1 cr0_1_0 cr0_1_1
  obtain ⟨cr0_2_0, cr0_2_1⟩ := cells2s Rr0_2
  obtain ⟨clo_2_0, clo_2_1⟩ := cells2s Rlo_2
  go_wp2_with fail
  refine (K2.out _ (fatB FF.out B2)).mono ?_
  rintro r w3 ⟨rfl, b3⟩
  have B3 : Below w.heap.size w w3 := btr B2 b3
  have Rr0_3 := heap_of b3 _ _ _ Rr0_2
  have Rlo_3 := heap_of b3 _ _ _ Rlo_2
  clear b3 B2 Rr0_2 cr0_2_0 cr0_2_1 Rlo_2 clo_2_0 clo_2_1
  obtain ⟨cr0_3_0, cr0_3_1⟩ := cells2s Rr0_3
  obtain ⟨clo_3_0, clo_3_1⟩ := cells2s Rlo_3
  have S4 := box B3.size
  have Lr0_4 : Box (w.heap.size < w3.heap.size) := box (Array.getElem?_eq_some_iff.1 Rr0_3).1
  have Llo_4 : Box (w1.heap.size < w3.heap.size) := box (Array.getElem?_eq_some_iff.1 Rlo_3).1
  have Rr_4 := heap_alloc_last w3 (Obj.cells #[.int .u64 (ur : Nat), .int .u64 (vr : Nat)] 25)
  have B4 := btr B3 (bal w3 (Obj.cells #[.int .u64 (ur : Nat), .int .u64 (vr : Nat)] 25))
  have Rr0_4 := heap_of (bal w3 (Obj.cells #[.int .u64 (ur : Nat), .int .u64 (vr : Nat)] 25)) _ _ _ Rr0_3
  have Rlo_4 := heap_of (bal w3 (Obj.cells #[.int .u64 (ur : Nat), .int .u64 (vr : Nat)] 25)) _ _ _ Rlo_3
  clear B3 Rr0_3 cr0_3_0 cr0_3_1 Rlo_3 clo_3_0 clo_3_1
  obtain ⟨cr0_4_0, cr0_4_1⟩ := cells2s Rr0_4
  obtain ⟨clo_4_0, clo_4_1⟩ := cells2s Rlo_4
  obtain ⟨cr_4_0, cr_4_1⟩ := cells2s Rr_4
  go_wp2_with fail
  refine (K3.out _ (fatB FF.out B4)).mono ?_
  rintro r w5 ⟨rfl, b5⟩
  have B5 : Below w.heap.size w w5 := btr B4 b5
  have Rr0_5 := heap_of b5 _ _ _ Rr0_4
  have Rlo_5 := heap_of b5 _ _ _ Rlo_4
  have Rr_5 := heap_of b5 _ _ _ Rr_4
  clear b5 B4 Rr0_4 cr0_4_0 cr0_4_1 Rlo_4 clo_4_0 clo_4_1 Rr_4 cr_4_0 cr_4_1
  obtain ⟨cr0_5_0, cr0_5_1⟩ := cells2s Rr0_5
  obtain ⟨clo_5_0, clo_5_1⟩ := cells2s Rlo_5
  obtain ⟨cr_5_0, cr_5_1⟩ := cells2s Rr_5
  have S6 := box B5.size
  have Lr0_6 : Box (w.heap.size < w5.heap.size) := box (Array.getElem?_eq_some_iff.1 Rr0_5).1
  have Llo_6 : Box (w1.heap.size < w5.heap.size) := box (Array.getElem?_eq_some_iff.1 Rlo_5).1
  have Lr_6 : Box (w3.heap.size < w5.heap.size) := box (Array.getElem?_eq_some_iff.1 Rr_5).1
  have Rxx_6 := heap_alloc_last w5 (Obj.cells #[.int .u64 (ul : Nat), .int .u64 (vl : Nat)] 25)
  have B6 := btr B5 (bal w5 (Obj.cells #[.int .u64 (ul : Nat), .int .u64 (vl : Nat)] 25))
  have Rr0_6 := heap_of (bal w5 (Obj.cells #[.int .u64 (ul : Nat), .int .u64 (vl : Nat)] 25)) _ _ _ Rr0_5
  have Rlo_6 := heap_of (bal w5 (Obj.cells #[.int .u64 (ul : Nat), .int .u64 (vl : Nat)] 25)) _ _ _ Rlo_5
  have Rr_6 := heap_of (bal w5 (Obj.cells #[.int .u64 (ul : Nat), .int .u64 (vl : Nat)] 25)) _ _ _ Rr_5
  clear B5 Rr0_5 cr0_5_0 cr0_5_1 Rlo_5 clo_5_0 clo_5_1 Rr_5 cr_5_0 cr_5_1
  obtain ⟨cr0_6_0, cr0_6_1⟩ := cells2s Rr0_6
  obtain ⟨clo_6_0, clo_6_1⟩ := cells2s Rlo_6
  obtain ⟨cr_6_0, cr_6_1⟩ := cells2s Rr_6
  obtain ⟨cxx_6_0, cxx_6_1⟩ := cells2s Rxx_6
  go_wp2_with fail
  refine (K4.out _ (fatB FF.out B6)).mono ?_
  rintro r w7 ⟨rfl, b7⟩
  have B7 : Below w.heap.size w w7 := btr B6 b7
  have Rr0_7 := heap_of b7 _ _ _ Rr0_6
  have Rlo_7 := heap_of b7 _ _ _ Rlo_6
  have Rr_7 := heap_of b7 _ _ _ Rr_6
  have Rxx_7 := heap_of b7 _ _ _ Rxx_6
  clear b7 B6 Rr0_6 cr0_6_0 cr0_6_1 Rlo_6 clo_6_0 clo_6_1 Rr_6 cr_6_0 cr_6_1 Rxx_6 cxx_6_0 cxx_6_1
  obtain ⟨cr0_7_0, cr0_7_1⟩ := cells2s Rr0_7
  obtain ⟨clo_7_0, clo_7_1⟩ := cells2s Rlo_7
  obtain ⟨cr_7_0, cr_7_1⟩ := cells2s Rr_7
  obtain ⟨cxx_7_0, cxx_7_1⟩ := cells2s Rxx_7
  have S8 := box B7.size
  have Lr0_8 : Box (w.heap.size < w7.heap.size) := box (Array.getElem?_eq_some_iff.1 Rr0_7).1
  have Llo_8 : Box (w1.heap.size < w7.heap.size) := box (Array.getElem?_eq_some_iff.1 Rlo_7).1
  have Lr_8 : Box (w3.heap.size < w7.heap.size) := box (Array.getElem?_eq_some_iff.1 Rr_7).1
  have Lxx_8 : Box (w5.heap.size < w7.heap.size) := box (Array.getElem?_eq_some_iff.1 Rxx_7).1
  have Ryy_8 := heap_alloc_last w7 (Obj.cells #[.int .u64 (ul : Nat), .int .u64 (vl : Nat)] 25)
  have B8 := btr B7 (bal w7 (Obj.cells #[.int .u64 (ul : Nat), .int .u64 (vl : Nat)] 25))
  have Rr0_8 := heap_of (bal w7 (Obj.cells #[.int .u64 (ul : Nat), .int .u64 (vl : Nat)] 25)) _ _ _ Rr0_7
  have Rlo_8 := heap_of (bal w7 (Obj.cells #[.int .u64 (ul : Nat), .int .u64 (vl : Nat)] 25)) _ _ _ Rlo_7
  have Rr_8 := heap_of (bal w7 (Obj.cells #[.int .u64 (ul : Nat), .int .u64 (vl : Nat)] 25)) _ _ _ Rr_7
  have Rxx_8 := heap_of (bal w7 (Obj.cells #[.int .u64 (ul : Nat), .int .u64 (vl : Nat)] 25)) _ _ _ Rxx_7
  clear B7 Rr0_7 cr0_7_0 cr0_7_1 Rlo_7 clo_7_0 clo_7_1 Rr_7 cr_7_0 cr_7_1 Rxx_7 cxx_7_0 cxx_7_1
  obtain ⟨cr0_8_0, cr0_8_1⟩ := cells2s Rr0_8
  obtain ⟨clo_8_0, clo_8_1⟩ := cells2s Rlo_8
  obtain ⟨cr_8_0, cr_8_1⟩ := cells2s Rr_8
  obtain ⟨cxx_8_0, cxx_8_1⟩ := cells2s Rxx_8
  obtain ⟨cyy_8_0, cyy_8_1⟩ := cells2s Ryy_8
  go_wp2_with fail
  refine (KB1.out _ (fatB FF.out B8)).mono ?_
  rintro r w9 ⟨rfl, b9⟩
  have B9 : Below w.heap.size w w9 := btr B8 b9
  have Rr0_9 := heap_of b9 _ _ _ Rr0_8
  have Rlo_9 := heap_of b9 _ _ _ Rlo_8
  have Rr_9 := heap_of b9 _ _ _ Rr_8
  have Rxx_9 := heap_of b9 _ _ _ Rxx_8
  have Ryy_9 := heap_of b9 _ _ _ Ryy_8
  clear b9 B8 Rr0_8 cr0_8_0 cr0_8_1 Rlo_8 clo_8_0 clo_8_1 Rr_8 cr_8_0 cr_8_1 Rxx_8 cxx_8_0 cxx_8_1 Ryy_8 cyy_8_0 cyy_8_1
  obtain ⟨cr0_9_0, cr0_9_1⟩ := cells2s Rr0_9
  obtain ⟨clo_9_0, clo_9_1⟩ := cells2s Rlo_9
  obtain ⟨cr_9_0, cr_9_1⟩ := cells2s Rr_9
  obtain ⟨cxx_9_0, cxx_9_1⟩ := cells2s Rxx_9
  obtain ⟨cyy_9_0, cyy_9_1⟩ := cells2s Ryy_9
  go_wp2_with fail
  refine (K5.out _ (fatB FF.out B9)).mono ?_
  rintro r w10 ⟨rfl, b10⟩
  have B10 : Below w.heap.size w w10 := btr B9 b10
  have Rr0_10 := heap_of b10 _ _ _ Rr0_9
  have Rlo_10 := heap_of b10 _ _ _ Rlo_9
  have Rr_10 := heap_of b10 _ _ _ Rr_9
  have Rxx_10 := heap_of b10 _ _ _ Rxx_9
  have Ryy_10 := heap_of b10 _ _ _ Ryy_9
  clear b10 B9 Rr0_9 cr0_9_0 cr0_9_1 Rlo_9 clo_9_0 clo_9_1 Rr_9 cr_9_0 cr_9_1 Rxx_9 cxx_9_0 cxx_9_1 Ryy_9 cyy_9_0 cyy_9_1
  obtain ⟨cr0_10_0, cr0_10_1⟩ := cells2s Rr0_10
  obtain ⟨clo_10_0, clo_10_1⟩ := cells2s Rlo_10
  obtain ⟨cr_10_0, cr_10_1⟩ := cells2s Rr_10
  obtain ⟨cxx_10_0, cxx_10_1⟩ := cells2s Rxx_10
  obtain ⟨cyy_10_0, cyy_10_1⟩ := cells2s Ryy_10
  have S11 := box B10.size
  have Lr0_11 : Box (w.heap.size < w10.heap.size) := box (Array.getElem?_eq_some_iff.1 Rr0_10).1
  have Llo_11 : Box (w1.heap.size < w10.heap.size) := box (Array.getElem?_eq_some_iff.1 Rlo_10).1
  have Lr_11 : Box (w3.heap.size < w10.heap.size) := box (Array.getElem?_eq_some_iff.1 Rr_10).1
  have Lxx_11 : Box (w5.heap.size < w10.heap.size) := box (Array.getElem?_eq_some_iff.1 Rxx_10).1
  have Lyy_11 : Box (w7.heap.size < w10.heap.size) := box (Array.getElem?_eq_some_iff.1 Ryy_10).1
  have Ruu_11 := heap_alloc_last w10 (Obj.cells #[.int .u64 (uu : Nat), .int .u64 (vu : Nat)] 25)
  have B11 := btr B10 (bal w10 (Obj.cells #[.int .u64 (uu : Nat), .int .u64 (vu : Nat)] 25))
  have Rr0_11 := heap_of (bal w10 (Obj.cells #[.int .u64 (uu : Nat), .int .u64 (vu : Nat)] 25)) _ _ _ Rr0_10
  have Rlo_11 := heap_of (bal w10 (Obj.cells #[.int .u64 (uu : Nat), .int .u64 (vu : Nat)] 25)) _ _ _ Rlo_10
  have Rr_11 := heap_of (bal w10 (Obj.cells #[.int .u64 (uu : Nat), .int .u64 (vu : Nat)] 25)) _ _ _ Rr_10
  have Rxx_11 := heap_of (bal w10 (Obj.cells #[.int .u64 (uu : Nat), .int .u64 (vu : Nat)] 25)) _ _ _ Rxx_10
  have Ryy_11 := heap_of (bal w10 (Obj.cells #[.int .u64 (uu : Nat), .int .u64 (vu : Nat)] 25)) _ _ _ Ryy_10
  clear B10 Rr0_10 cr0_10_0 cr0_10_1 Rlo_10 clo_10_0 clo_10_1 Rr_10 cr_10_0 cr_10_1 Rxx_10 cxx_10_0 cxx_10_1 Ryy_10 cyy_10_0 cyy_10_1
  obtain ⟨cr0_11_0, cr0_11_1⟩ := cells2s Rr0_11
  obtain ⟨clo_11_0, clo_11_1⟩ := cells2s Rlo_11
  obtain ⟨cr_11_0, cr_11_1⟩ := cells2s Rr_11
  obtain ⟨cxx_11_0, cxx_11_1⟩ := cells2s Rxx_11
  obtain ⟨cyy_11_0, cyy_11_1⟩ := cells2s Ryy_11
  obtain ⟨cuu_11_0, cuu_11_1⟩ := cells2s Ruu_11
  go_wp2_with fail
  refine (K6.out _ (fatB FF.out B11)).mono ?_
  rintro r w12 ⟨rfl, b12⟩
  have B12 : Below w.heap.size w w12 := btr B11 b12
  have Rr0_12 := heap_of b12 _ _ _ Rr0_11
  have Rlo_12 := heap_of b12 _ _ _ Rlo_11
  have Rr_12 := heap_of b12 _ _ _ Rr_11
  have Rxx_12 := heap_of b12 _ _ _ Rxx_11
  have Ryy_12 := heap_of b12 _ _ _ Ryy_11
  have Ruu_12 := heap_of b12 _ _ _ Ruu_11
  clear b12 B11 Rr0_11 cr0_11_0 cr0_11_1 Rlo_11 clo_11_0 clo_11_1 Rr_11 cr_11_0 cr_11_1 Rxx_11 cxx_11_0 cxx_11_1 Ryy_11 cyy_11_0 cyy_11_1 Ruu_11 cuu_11_0 cuu_11_1
  obtain ⟨cr0_12_0, cr0_12_1⟩ := cells2s Rr0_12
  obtain ⟨clo_12_0, clo_12_1⟩ := cells2s Rlo_12
  obtain ⟨cr_12_0, cr_12_1⟩ := cells2s Rr_12
  obtain ⟨cxx_12_0, cxx_12_1⟩ := cells2s Rxx_12
  obtain ⟨cyy_12_0, cyy_12_1⟩ := cells2s Ryy_12
  obtain ⟨cuu_12_0, cuu_12_1⟩ := cells2s Ruu_12
  have S13 := box B12.size
  have Lr0_13 : Box (w.heap.size < w12.heap.size) := box (Array.getElem?_eq_some_iff.1 Rr0_12).1
  have Llo_13 : Box (w1.heap.size < w12.heap.size) := box (Array.getElem?_eq_some_iff.1 Rlo_12).1
  have Lr_13 : Box (w3.heap.size < w12.heap.size) := box (Array.getElem?_eq_some_iff.1 Rr_12).1
  have Lxx_13 : Box (w5.heap.size < w12.heap.size) := box (Array.getElem?_eq_some_iff.1 Rxx_12).1
  have Lyy_13 : Box (w7.heap.size < w12.heap.size) := box (Array.getElem?_eq_some_iff.1 Ryy_12).1
  have Luu_13 : Box (w10.heap.size < w12.heap.size) := box (Array.getElem?_eq_some_iff.1 Ruu_12).1
  have Rag_13 := heap_alloc_last w12 (Obj.cells #[.int .u64 (ua : Nat), .int .u64 (va : Nat)] 25)
  have B13 := btr B12 (bal w12 (Obj.cells #[.int .u64 (ua : Nat), .int .u64 (va : Nat)] 25))
  have Rr0_13 := heap_of (bal w12 (Obj.cells #[.int .u64 (ua : Nat), .int .u64 (va : Nat)] 25)) _ _ _ Rr0_12
  have Rlo_13 := heap_of (bal w12 (Obj.cells #[.int .u64 (ua : Nat), .int .u64 (va : Nat)] 25)) _ _ _ Rlo_12
  have Rr_13 := heap_of (bal w12 (Obj.cells #[.int .u64 (ua : Nat), .int .u64 (va : Nat)] 25)) _ _ _ Rr_12
  have Rxx_13 := heap_of (bal w12 (Obj.cells #[.int .u64 (ua : Nat), .int .u64 (va : Nat)] 25)) _ _ _ Rxx_12
  have Ryy_13 := heap_of (bal w12 (Obj.cells #[.int .u64 (ua : Nat), .int .u64 (va : Nat)] 25)) _ _ _ Ryy_12
  have Ruu_13 := heap_of (bal w12 (Obj.cells #[.int .u64 (ua : Nat), .int .u64 (va : Nat)] 25)) _ _ _ Ruu_12
  clear B12 Rr0_12 cr0_12_0 cr0_12_1 Rlo_12 clo_12_0 clo_12_1 Rr_12 cr_12_0 cr_12_1 Rxx_12 cxx_12_0 cxx_12_1 Ryy_12 cyy_12_0 cyy_12_1 Ruu_12 cuu_12_0 cuu_12_1
  obtain ⟨cr0_13_0, cr0_13_1⟩ := cells2s Rr0_13
  obtain ⟨clo_13_0, clo_13_1⟩ := cells2s Rlo_13
  obtain ⟨cr_13_0, cr_13_1⟩ := cells2s Rr_13
  obtain ⟨cxx_13_0, cxx_13_1⟩ := cells2s Rxx_13
  obtain ⟨cyy_13_0, cyy_13_1⟩ := cells2s Ryy_13
  obtain ⟨cuu_13_0, cuu_13_1⟩ := cells2s Ruu_13
  obtain ⟨cag_13_0, cag_13_1⟩ := cells2s Rag_13
  go_wp2_with fail
  obtain ⟨F, hF1, hF2⟩ := below_fun (w12.alloc (Obj.cells #[.int .u64 (ua : Nat), .int .u64 (va : Nat)] 25))
  have fr0_0 := fun u => cells4 (heap_of (hF1 u) _ _ _ Rr0_13) 0 _ rfl
  have fr0_1 := fun u => cells4 (heap_of (hF1 u) _ _ _ Rr0_13) 1 _ rfl
  have flo_0 := fun u => cells4 (heap_of (hF1 u) _ _ _ Rlo_13) 0 _ rfl
  have flo_1 := fun u => cells4 (heap_of (hF1 u) _ _ _ Rlo_13) 1 _ rfl
  have fr_0 := fun u => cells4 (heap_of (hF1 u) _ _ _ Rr_13) 0 _ rfl
  have fr_1 := fun u => cells4 (heap_of (hF1 u) _ _ _ Rr_13) 1 _ rfl
  have fxx_0 := fun u => cells4 (heap_of (hF1 u) _ _ _ Rxx_13) 0 _ rfl
  have fxx_1 := fun u => cells4 (heap_of (hF1 u) _ _ _ Rxx_13) 1 _ rfl
  have fyy_0 := fun u => cells4 (heap_of (hF1 u) _ _ _ Ryy_13) 0 _ rfl
  have fyy_1 := fun u => cells4 (heap_of (hF1 u) _ _ _ Ryy_13) 1 _ rfl
  have fuu_0 := fun u => cells4 (heap_of (hF1 u) _ _ _ Ruu_13) 0 _ rfl
  have fuu_1 := fun u => cells4 (heap_of (hF1 u) _ _ _ Ruu_13) 1 _ rfl
  have fag_0 := fun u => cells4 (heap_of (hF1 u) _ _ _ Rag_13) 0 _ rfl
  have fag_1 := fun u => cells4 (heap_of (hF1 u) _ _ _ Rag_13) 1 _ rfl
  have FG : Box (∀ u, FAt (F u)) := box (fun u => fatB FF.out (btr B13 (hF1 u)))
  refine wp_region_below F hF2 (by kernel_rfl) (by kernel_rfl) ?_
  repeat first | go_big_quiet_step (first | (go_at_call 12; exact quietF hF1 hF2 (KB2.out _ (FG.out _))) | fail) | quiet_step (first | (go_at_call 12; exact quietF hF1 hF2 (KB2.out _ (FG.out _))) | fail)
  refine wpQuiet_nil ?_
  rintro _ ⟨uW, rfl⟩
  have B14 := btr B13 (hF1 uW)
  have Rr0_14 := heap_of (hF1 uW) _ _ _ Rr0_13
  have Rlo_14 := heap_of (hF1 uW) _ _ _ Rlo_13
  have Rr_14 := heap_of (hF1 uW) _ _ _ Rr_13
  have Rxx_14 := heap_of (hF1 uW) _ _ _ Rxx_13
  have Ryy_14 := heap_of (hF1 uW) _ _ _ Ryy_13
  have Ruu_14 := heap_of (hF1 uW) _ _ _ Ruu_13
  have Rag_14 := heap_of (hF1 uW) _ _ _ Rag_13
  obtain ⟨w14, hw⟩ : ∃ V, F uW = V := ⟨_, rfl⟩
  rw [hw] at B14 Rr0_14 Rlo_14 Rr_14 Rxx_14 Ryy_14 Ruu_14 Rag_14
  try rw [hw]
  clear hw hF1 hF2 B13 fr0_0 fr0_1 flo_0 flo_1 fr_0 fr_1 fxx_0 fxx_1 fyy_0 fyy_1 fuu_0 fuu_1 fag_0 fag_1 Rr0_13 cr0_13_0 cr0_13_1 Rlo_13 clo_13_0 clo_13_1 Rr_13 cr_13_0 cr_13_1 Rxx_13 cxx_13_0 cxx_13_1 Ryy_13 cyy_13_0 cyy_13_1 Ruu_13 cuu_13_0 cuu_13_1 Rag_13 cag_13_0 cag_13_1
  clear FG
  clear F
  obtain ⟨cr0_14_0, cr0_14_1⟩ := cells2s Rr0_14
  obtain ⟨clo_14_0, clo_14_1⟩ := cells2s Rlo_14
  obtain ⟨cr_14_0, cr_14_1⟩ := cells2s Rr_14
  obtain ⟨cxx_14_0, cxx_14_1⟩ := cells2s Rxx_14
  obtain ⟨cyy_14_0, cyy_14_1⟩ := cells2s Ryy_14
  obtain ⟨cuu_14_0, cuu_14_1⟩ := cells2s Ruu_14
  obtain ⟨cag_14_0, cag_14_1⟩ := cells2s Rag_14
  go_wp2_with fail
  refine (KD1.out _).mono ?_
  rintro r w15 ⟨rfl, b15⟩
  have B15 : Below w.heap.size w w15 := btr B14 b15
  have Rr0_15 := heap_of b15 _ _ _ Rr0_14
  have Rlo_15 := heap_of b15 _ _ _ Rlo_14
  have Rr_15 := heap_of b15 _ _ _ Rr_14
  have Rxx_15 := heap_of b15 _ _ _ Rxx_14
  have Ryy_15 := heap_of b15 _ _ _ Ryy_14
  have Ruu_15 := heap_of b15 _ _ _ Ruu_14
  have Rag_15 := heap_of b15 _ _ _ Rag_14
  clear b15 B14 Rr0_14 cr0_14_0 cr0_14_1 Rlo_14 clo_14_0 clo_14_1 Rr_14 cr_14_0 cr_14_1 Rxx_14 cxx_14_0 cxx_14_1 Ryy_14 cyy_14_0 cyy_14_1 Ruu_14 cuu_14_0 cuu_14_1 Rag_14 cag_14_0 cag_14_1
  obtain ⟨cr0_15_0, cr0_15_1⟩ := cells2s Rr0_15
  obtain ⟨clo_15_0, clo_15_1⟩ := cells2s Rlo_15
  obtain ⟨cr_15_0, cr_15_1⟩ := cells2s Rr_15
  obtain ⟨cxx_15_0, cxx_15_1⟩ := cells2s Rxx_15
  obtain ⟨cyy_15_0, cyy_15_1⟩ := cells2s Ryy_15
  obtain ⟨cuu_15_0, cuu_15_1⟩ := cells2s Ruu_15
  obtain ⟨cag_15_0, cag_15_1⟩ := cells2s Rag_15
  go_wp2_with fail
  refine (KD2.out _).mono ?_
  rintro r w16 ⟨rfl, b16⟩
  have B16 : Below w.heap.size w w16 := btr B15 b16
  have Rr0_16 := heap_of b16 _ _ _ Rr0_15
  have Rlo_16 := heap_of b16 _ _ _ Rlo_15
  have Rr_16 := heap_of b16 _ _ _ Rr_15
  have Rxx_16 := heap_of b16 _ _ _ Rxx_15
  have Ryy_16 := heap_of b16 _ _ _ Ryy_15
  have Ruu_16 := heap_of b16 _ _ _ Ruu_15
  have Rag_16 := heap_of b16 _ _ _ Rag_15
  clear b16 B15 Rr0_15 cr0_15_0 cr0_15_1 Rlo_15 clo_15_0 clo_15_1 Rr_15 cr_15_0 cr_15_1 Rxx_15 cxx_15_0 cxx_15_1 Ryy_15 cyy_15_0 cyy_15_1 Ruu_15 cuu_15_0 cuu_15_1 Rag_15 cag_15_0 cag_15_1
  obtain ⟨cr0_16_0, cr0_16_1⟩ := cells2s Rr0_16
  obtain ⟨clo_16_0, clo_16_1⟩ := cells2s Rlo_16
  obtain ⟨cr_16_0, cr_16_1⟩ := cells2s Rr_16
  obtain ⟨cxx_16_0, cxx_16_1⟩ := cells2s Rxx_16
  obtain ⟨cyy_16_0, cyy_16_1⟩ := cells2s Ryy_16
  obtain ⟨cuu_16_0, cuu_16_1⟩ := cells2s Ruu_16
  obtain ⟨cag_16_0, cag_16_1⟩ := cells2s Rag_16
  go_wp2_with fail
  refine (KV.out _ (fatB FF.out B16)).mono ?_
  rintro r w17 ⟨rfl, b17⟩
  have B17 : Below w.heap.size w w17 := btr B16 b17
  have Rr0_17 := heap_of b17 _ _ _ Rr0_16
  have Rlo_17 := heap_of b17 _ _ _ Rlo_16
  have Rr_17 := heap_of b17 _ _ _ Rr_16
  have Rxx_17 := heap_of b17 _ _ _ Rxx_16
  have Ryy_17 := heap_of b17 _ _ _ Ryy_16
  have Ruu_17 := heap_of b17 _ _ _ Ruu_16
  have Rag_17 := heap_of b17 _ _ _ Rag_16
  clear b17 B16 Rr0_16 cr0_16_0 cr0_16_1 Rlo_16 clo_16_0 clo_16_1 Rr_16 cr_16_0 cr_16_1 Rxx_16 cxx_16_0 cxx_16_1 Ryy_16 cyy_16_0 cyy_16_1 Ruu_16 cuu_16_0 cuu_16_1 Rag_16 cag_16_0 cag_16_1
  obtain ⟨cr0_17_0, cr0_17_1⟩ := cells2s Rr0_17
  obtain ⟨clo_17_0, clo_17_1⟩ := cells2s Rlo_17
  obtain ⟨cr_17_0, cr_17_1⟩ := cells2s Rr_17
  obtain ⟨cxx_17_0, cxx_17_1⟩ := cells2s Rxx_17
  obtain ⟨cyy_17_0, cyy_17_1⟩ := cells2s Ryy_17
  obtain ⟨cuu_17_0, cuu_17_1⟩ := cells2s Ruu_17
  obtain ⟨cag_17_0, cag_17_1⟩ := cells2s Rag_17
  go_wp2
  go_ret
  exact ⟨rfl, B17⟩
set_option maxRecDepth 100000 in
set_option maxHeartbeats 8000000 in
theorem bb_tw (f g p q wp wq : Int) (x y ul vl ur vr uu vu ua va uv vv : Nat) (hf : f.tmod 4 = p) (hg : g.tmod 4 = q) (ht : ebb (ua : Nat) (va : Nat) (x : Nat) (y : Nat) = true) (hl : decide (wp < wq) = true) (w : World) (K1 : Box (∀ w, FAt w → Calls Tryd.prog 10 #[.int .u8 p, .agg #[.int .u64 (x : Nat), .int .u64 (y : Nat)]] w fun r w' => r = .returned (.tuple #[.agg #[.int .u64 (ul : Nat), .int .u64 (vl : Nat)], .int .i64 0]) ∧ Below w.heap.size w w')) (K2 : Box (∀ w, FAt w → Calls Tryd.prog 11 #[.int .u8 p, .agg #[.int .u64 (ul : Nat), .int .u64 (vl : Nat)]] w fun r w' => r = .returned (.tuple #[.agg #[.int .u64 (ur : Nat), .int .u64 (vr : Nat)], .int .i64 0]) ∧ Below w.heap.size w w')) (K3 : Box (∀ w, FAt w → Calls Tryd.prog 9 #[.int .u8 p, .agg #[.int .u64 (ur : Nat), .int .u64 (vr : Nat)]] w fun r w' => r = .returned (.tuple #[.agg #[.int .u64 (ul : Nat), .int .u64 (vl : Nat)], .int .i64 0]) ∧ Below w.heap.size w w')) (K4 : Box (∀ w, FAt w → Calls Tryd.prog 10 #[.int .u8 p, .agg #[.int .u64 (ur : Nat), .int .u64 (vr : Nat)]] w fun r w' => r = .returned (.tuple #[.agg #[.int .u64 (ul : Nat), .int .u64 (vl : Nat)], .int .i64 0]) ∧ Below w.heap.size w w')) (KB1 : Box (∀ w, FAt w → Calls Tryd.prog 12 #[.int .u8 p, .agg #[.int .u64 (ur : Nat), .int .u64 (vr : Nat)]] w fun r w' => r = .returned (.bool true) ∧ Below w.heap.size w w')) (K5 : Box (∀ w, FAt w → Calls Tryd.prog 9 #[.int .u8 p, .agg #[.int .u64 (x : Nat), .int .u64 (y : Nat)]] w fun r w' => r = .returned (.tuple #[.agg #[.int .u64 (uu : Nat), .int .u64 (vu : Nat)], .int .i64 0]) ∧ Below w.heap.size w w')) (K6 : Box (∀ w, FAt w → Calls Tryd.prog 11 #[.int .u8 p, .agg #[.int .u64 (uu : Nat), .int .u64 (vu : Nat)]] w fun r w' => r = .returned (.tuple #[.agg #[.int .u64 (ua : Nat), .int .u64 (va : Nat)], .int .i64 0]) ∧ Below w.heap.size w w')) (KB2 : Box (∀ w, FAt w → Calls Tryd.prog 12 #[.int .u8 p, .agg #[.int .u64 (x : Nat), .int .u64 (y : Nat)]] w fun r w' => r = .returned (.bool true) ∧ Below w.heap.size w w')) (KD1 : Box (∀ w, Calls Tryd.prog 23 #[.int .u8 p] w fun r w' => r = .returned (.int .i64 wp) ∧ Below w.heap.size w w')) (KD2 : Box (∀ w, Calls Tryd.prog 23 #[.int .u8 q] w fun r w' => r = .returned (.int .i64 wq) ∧ Below w.heap.size w w')) (KB3 : Box (∀ w, FAt w → Calls Tryd.prog 12 #[.int .u8 q, .agg #[.int .u64 (ur : Nat), .int .u64 (vr : Nat)]] w fun r w' => r = .returned (.bool true) ∧ Below w.heap.size w w')) (K7 : Box (∀ w, FAt w → Calls Tryd.prog 9 #[.int .u8 q, .agg #[.int .u64 (ur : Nat), .int .u64 (vr : Nat)]] w fun r w' => r = .returned (.tuple #[.agg #[.int .u64 (uv : Nat), .int .u64 (vv : Nat)], .int .i64 0]) ∧ Below w.heap.size w w')) (KT : Box (∀ k : Int, wp ≤ k → k < wq → ∀ w, Calls Tryd.prog 24 #[.agg #[.int .u64 (uv : Nat), .int .u64 (vv : Nat)], .int .i64 k] w fun r w' => r = .returned (.bool true) ∧ Below w.heap.size w w')) (hw : Box (0 ≤ wp ∧ wp < wq ∧ wq ≤ 128)) (KV : Box (∀ w, FAt w → Calls Tryd.prog 14 #[] w fun r w' => r = .returned (.bool true) ∧ Below w.heap.size w w')) (hT : FAt w) : Calls Tryd.prog 5 #[.int .u8 f, .int .u8 g, .agg #[.int .u64 (x : Nat), .int .u64 (y : Nat)]] w fun r w' => r = .returned (.bool true) ∧ Below w.heap.size w w' := by
  have FF := box hT
  clear hT
  have hE := eqb
  have e1 := ebb_sj (ul : Nat) (vl : Nat)
  obtain ⟨Rr0_0, B0⟩ := opn1 w (Obj.cells #[.int .u64 (x : Nat), .int .u64 (y : Nat)] 25)
  go_enter Tryd.func5, Tryd.ntmps5
  obtain ⟨cr0_0_0, cr0_0_1⟩ := cells2s Rr0_0
  go_wp2_with fail
  refine (K1.out _ (fatB FF.out B0)).mono ?_
  rintro r w1 ⟨rfl, b1⟩
  have B1 : Below w.heap.size w w1 := btr B0 b1
  have Rr0_1 := heap_of b1 _ _ _ Rr0_0
  clear b1 B0 Rr0_0 cr0_0_0 cr0_0_1
  obtain ⟨cr0_1_0, cr0_1_1⟩ := cells2s Rr0_1
  have S2 := box B1.size
  have Lr0_2 : Box (w.heap.size < w1.heap.size) := box (Array.getElem?_eq_some_iff.1 Rr0_1).1
  have Rlo_2 := heap_alloc_last w1 (Obj.cells #[.int .u64 (ul : Nat), .int .u64 (vl : Nat)] 25)
  have B2 := btr B1 (bal w1 (Obj.cells #[.int .u64 (ul : Nat), .int .u64 (vl : Nat)] 25))
  have Rr0_2 := heap_of (bal w1 (Obj.cells #[.int .u64 (ul : Nat), .int .u64 (vl : Nat)] 25)) _ _ _ Rr0_1
  clear B1 Rr0_1 cr0_1_0 cr0_1_1
  obtain ⟨cr0_2_0, cr0_2_1⟩ := cells2s Rr0_2
  obtain ⟨clo_2_0, clo_2_1⟩ := cells2s Rlo_2
  go_wp2_with fail
  refine (K2.out _ (fatB FF.out B2)).mono ?_
  rintro r w3 ⟨rfl, b3⟩
  have B3 : Below w.heap.size w w3 := btr B2 b3
  have Rr0_3 := heap_of b3 _ _ _ Rr0_2
  have Rlo_3 := heap_of b3 _ _ _ Rlo_2
  clear b3 B2 Rr0_2 cr0_2_0 cr0_2_1 Rlo_2 clo_2_0 clo_2_1
  obtain ⟨cr0_3_0, cr0_3_1⟩ := cells2s Rr0_3
  obtain ⟨clo_3_0, clo_3_1⟩ := cells2s Rlo_3
  have S4 := box B3.size
  have Lr0_4 : Box (w.heap.size < w3.heap.size) := box (Array.getElem?_eq_some_iff.1 Rr0_3).1
  have Llo_4 : Box (w1.heap.size < w3.heap.size) := box (Array.getElem?_eq_some_iff.1 Rlo_3).1
  have Rr_4 := heap_alloc_last w3 (Obj.cells #[.int .u64 (ur : Nat), .int .u64 (vr : Nat)] 25)
  have B4 := btr B3 (bal w3 (Obj.cells #[.int .u64 (ur : Nat), .int .u64 (vr : Nat)] 25))
  have Rr0_4 := heap_of (bal w3 (Obj.cells #[.int .u64 (ur : Nat), .int .u64 (vr : Nat)] 25)) _ _ _ Rr0_3
  have Rlo_4 := heap_of (bal w3 (Obj.cells #[.int .u64 (ur : Nat), .int .u64 (vr : Nat)] 25)) _ _ _ Rlo_3
  clear B3 Rr0_3 cr0_3_0 cr0_3_1 Rlo_3 clo_3_0 clo_3_1
  obtain ⟨cr0_4_0, cr0_4_1⟩ := cells2s Rr0_4
  obtain ⟨clo_4_0, clo_4_1⟩ := cells2s Rlo_4
  obtain ⟨cr_4_0, cr_4_1⟩ := cells2s Rr_4
  go_wp2_with fail
  refine (K3.out _ (fatB FF.out B4)).mono ?_
  rintro r w5 ⟨rfl, b5⟩
  have B5 : Below w.heap.size w w5 := btr B4 b5
  have Rr0_5 := heap_of b5 _ _ _ Rr0_4
  have Rlo_5 := heap_of b5 _ _ _ Rlo_4
  have Rr_5 := heap_of b5 _ _ _ Rr_4
  clear b5 B4 Rr0_4 cr0_4_0 cr0_4_1 Rlo_4 clo_4_0 clo_4_1 Rr_4 cr_4_0 cr_4_1
  obtain ⟨cr0_5_0, cr0_5_1⟩ := cells2s Rr0_5
  obtain ⟨clo_5_0, clo_5_1⟩ := cells2s Rlo_5
  obtain ⟨cr_5_0, cr_5_1⟩ := cells2s Rr_5
  have S6 := box B5.size
  have Lr0_6 : Box (w.heap.size < w5.heap.size) := box (Array.getElem?_eq_some_iff.1 Rr0_5).1
  have Llo_6 : Box (w1.heap.size < w5.heap.size) := box (Array.getElem?_eq_some_iff.1 Rlo_5).1
  have Lr_6 : Box (w3.heap.size < w5.heap.size) := box (Array.getElem?_eq_some_iff.1 Rr_5).1
  have Rxx_6 := heap_alloc_last w5 (Obj.cells #[.int .u64 (ul : Nat), .int .u64 (vl : Nat)] 25)
  have B6 := btr B5 (bal w5 (Obj.cells #[.int .u64 (ul : Nat), .int .u64 (vl : Nat)] 25))
  have Rr0_6 := heap_of (bal w5 (Obj.cells #[.int .u64 (ul : Nat), .int .u64 (vl : Nat)] 25)) _ _ _ Rr0_5
  have Rlo_6 := heap_of (bal w5 (Obj.cells #[.int .u64 (ul : Nat), .int .u64 (vl : Nat)] 25)) _ _ _ Rlo_5
  have Rr_6 := heap_of (bal w5 (Obj.cells #[.int .u64 (ul : Nat), .int .u64 (vl : Nat)] 25)) _ _ _ Rr_5
  clear B5 Rr0_5 cr0_5_0 cr0_5_1 Rlo_5 clo_5_0 clo_5_1 Rr_5 cr_5_0 cr_5_1
  obtain ⟨cr0_6_0, cr0_6_1⟩ := cells2s Rr0_6
  obtain ⟨clo_6_0, clo_6_1⟩ := cells2s Rlo_6
  obtain ⟨cr_6_0, cr_6_1⟩ := cells2s Rr_6
  obtain ⟨cxx_6_0, cxx_6_1⟩ := cells2s Rxx_6
  go_wp2_with fail
  refine (K4.out _ (fatB FF.out B6)).mono ?_
  rintro r w7 ⟨rfl, b7⟩
  have B7 : Below w.heap.size w w7 := btr B6 b7
  have Rr0_7 := heap_of b7 _ _ _ Rr0_6
  have Rlo_7 := heap_of b7 _ _ _ Rlo_6
  have Rr_7 := heap_of b7 _ _ _ Rr_6
  have Rxx_7 := heap_of b7 _ _ _ Rxx_6
  clear b7 B6 Rr0_6 cr0_6_0 cr0_6_1 Rlo_6 clo_6_0 clo_6_1 Rr_6 cr_6_0 cr_6_1 Rxx_6 cxx_6_0 cxx_6_1
  obtain ⟨cr0_7_0, cr0_7_1⟩ := cells2s Rr0_7
  obtain ⟨clo_7_0, clo_7_1⟩ := cells2s Rlo_7
  obtain ⟨cr_7_0, cr_7_1⟩ := cells2s Rr_7
  obtain ⟨cxx_7_0, cxx_7_1⟩ := cells2s Rxx_7
  have S8 := box B7.size
  have Lr0_8 : Box (w.heap.size < w7.heap.size) := box (Array.getElem?_eq_some_iff.1 Rr0_7).1
  have Llo_8 : Box (w1.heap.size < w7.heap.size) := box (Array.getElem?_eq_some_iff.1 Rlo_7).1
  have Lr_8 : Box (w3.heap.size < w7.heap.size) := box (Array.getElem?_eq_some_iff.1 Rr_7).1
  have Lxx_8 : Box (w5.heap.size < w7.heap.size) := box (Array.getElem?_eq_some_iff.1 Rxx_7).1
  have Ryy_8 := heap_alloc_last w7 (Obj.cells #[.int .u64 (ul : Nat), .int .u64 (vl : Nat)] 25)
  have B8 := btr B7 (bal w7 (Obj.cells #[.int .u64 (ul : Nat), .int .u64 (vl : Nat)] 25))
  have Rr0_8 := heap_of (bal w7 (Obj.cells #[.int .u64 (ul : Nat), .int .u64 (vl : Nat)] 25)) _ _ _ Rr0_7
  have Rlo_8 := heap_of (bal w7 (Obj.cells #[.int .u64 (ul : Nat), .int .u64 (vl : Nat)] 25)) _ _ _ Rlo_7
  have Rr_8 := heap_of (bal w7 (Obj.cells #[.int .u64 (ul : Nat), .int .u64 (vl : Nat)] 25)) _ _ _ Rr_7
  have Rxx_8 := heap_of (bal w7 (Obj.cells #[.int .u64 (ul : Nat), .int .u64 (vl : Nat)] 25)) _ _ _ Rxx_7
  clear B7 Rr0_7 cr0_7_0 cr0_7_1 Rlo_7 clo_7_0 clo_7_1 Rr_7 cr_7_0 cr_7_1 Rxx_7 cxx_7_0 cxx_7_1
  obtain ⟨cr0_8_0, cr0_8_1⟩ := cells2s Rr0_8
  obtain ⟨clo_8_0, clo_8_1⟩ := cells2s Rlo_8
  obtain ⟨cr_8_0, cr_8_1⟩ := cells2s Rr_8
  obtain ⟨cxx_8_0, cxx_8_1⟩ := cells2s Rxx_8
  obtain ⟨cyy_8_0, cyy_8_1⟩ := cells2s Ryy_8
  go_wp2_with fail
  refine (KB1.out _ (fatB FF.out B8)).mono ?_
  rintro r w9 ⟨rfl, b9⟩
  have B9 : Below w.heap.size w w9 := btr B8 b9
  have Rr0_9 := heap_of b9 _ _ _ Rr0_8
  have Rlo_9 := heap_of b9 _ _ _ Rlo_8
  have Rr_9 := heap_of b9 _ _ _ Rr_8
  have Rxx_9 := heap_of b9 _ _ _ Rxx_8
  have Ryy_9 := heap_of b9 _ _ _ Ryy_8
  clear b9 B8 Rr0_8 cr0_8_0 cr0_8_1 Rlo_8 clo_8_0 clo_8_1 Rr_8 cr_8_0 cr_8_1 Rxx_8 cxx_8_0 cxx_8_1 Ryy_8 cyy_8_0 cyy_8_1
  obtain ⟨cr0_9_0, cr0_9_1⟩ := cells2s Rr0_9
  obtain ⟨clo_9_0, clo_9_1⟩ := cells2s Rlo_9
  obtain ⟨cr_9_0, cr_9_1⟩ := cells2s Rr_9
  obtain ⟨cxx_9_0, cxx_9_1⟩ := cells2s Rxx_9
  obtain ⟨cyy_9_0, cyy_9_1⟩ := cells2s Ryy_9
  go_wp2_with fail
  refine (K5.out _ (fatB FF.out B9)).mono ?_
  rintro r w10 ⟨rfl, b10⟩
  have B10 : Below w.heap.size w w10 := btr B9 b10
  have Rr0_10 := heap_of b10 _ _ _ Rr0_9
  have Rlo_10 := heap_of b10 _ _ _ Rlo_9
  have Rr_10 := heap_of b10 _ _ _ Rr_9
  have Rxx_10 := heap_of b10 _ _ _ Rxx_9
  have Ryy_10 := heap_of b10 _ _ _ Ryy_9
  clear b10 B9 Rr0_9 cr0_9_0 cr0_9_1 Rlo_9 clo_9_0 clo_9_1 Rr_9 cr_9_0 cr_9_1 Rxx_9 cxx_9_0 cxx_9_1 Ryy_9 cyy_9_0 cyy_9_1
  obtain ⟨cr0_10_0, cr0_10_1⟩ := cells2s Rr0_10
  obtain ⟨clo_10_0, clo_10_1⟩ := cells2s Rlo_10
  obtain ⟨cr_10_0, cr_10_1⟩ := cells2s Rr_10
  obtain ⟨cxx_10_0, cxx_10_1⟩ := cells2s Rxx_10
  obtain ⟨cyy_10_0, cyy_10_1⟩ := cells2s Ryy_10
  have S11 := box B10.size
  have Lr0_11 : Box (w.heap.size < w10.heap.size) := box (Array.getElem?_eq_some_iff.1 Rr0_10).1
  have Llo_11 : Box (w1.heap.size < w10.heap.size) := box (Array.getElem?_eq_some_iff.1 Rlo_10).1
  have Lr_11 : Box (w3.heap.size < w10.heap.size) := box (Array.getElem?_eq_some_iff.1 Rr_10).1
  have Lxx_11 : Box (w5.heap.size < w10.heap.size) := box (Array.getElem?_eq_some_iff.1 Rxx_10).1
  have Lyy_11 : Box (w7.heap.size < w10.heap.size) := box (Array.getElem?_eq_some_iff.1 Ryy_10).1
  have Ruu_11 := heap_alloc_last w10 (Obj.cells #[.int .u64 (uu : Nat), .int .u64 (vu : Nat)] 25)
  have B11 := btr B10 (bal w10 (Obj.cells #[.int .u64 (uu : Nat), .int .u64 (vu : Nat)] 25))
  have Rr0_11 := heap_of (bal w10 (Obj.cells #[.int .u64 (uu : Nat), .int .u64 (vu : Nat)] 25)) _ _ _ Rr0_10
  have Rlo_11 := heap_of (bal w10 (Obj.cells #[.int .u64 (uu : Nat), .int .u64 (vu : Nat)] 25)) _ _ _ Rlo_10
  have Rr_11 := heap_of (bal w10 (Obj.cells #[.int .u64 (uu : Nat), .int .u64 (vu : Nat)] 25)) _ _ _ Rr_10
  have Rxx_11 := heap_of (bal w10 (Obj.cells #[.int .u64 (uu : Nat), .int .u64 (vu : Nat)] 25)) _ _ _ Rxx_10
  have Ryy_11 := heap_of (bal w10 (Obj.cells #[.int .u64 (uu : Nat), .int .u64 (vu : Nat)] 25)) _ _ _ Ryy_10
  clear B10 Rr0_10 cr0_10_0 cr0_10_1 Rlo_10 clo_10_0 clo_10_1 Rr_10 cr_10_0 cr_10_1 Rxx_10 cxx_10_0 cxx_10_1 Ryy_10 cyy_10_0 cyy_10_1
  obtain ⟨cr0_11_0, cr0_11_1⟩ := cells2s Rr0_11
  obtain ⟨clo_11_0, clo_11_1⟩ := cells2s Rlo_11
  obtain ⟨cr_11_0, cr_11_1⟩ := cells2s Rr_11
  obtain ⟨cxx_11_0, cxx_11_1⟩ := cells2s Rxx_11
  obtain ⟨cyy_11_0, cyy_11_1⟩ := cells2s Ryy_11
  obtain ⟨cuu_11_0, cuu_11_1⟩ := cells2s Ruu_11
  go_wp2_with fail
  refine (K6.out _ (fatB FF.out B11)).mono ?_
  rintro r w12 ⟨rfl, b12⟩
  have B12 : Below w.heap.size w w12 := btr B11 b12
  have Rr0_12 := heap_of b12 _ _ _ Rr0_11
  have Rlo_12 := heap_of b12 _ _ _ Rlo_11
  have Rr_12 := heap_of b12 _ _ _ Rr_11
  have Rxx_12 := heap_of b12 _ _ _ Rxx_11
  have Ryy_12 := heap_of b12 _ _ _ Ryy_11
  have Ruu_12 := heap_of b12 _ _ _ Ruu_11
  clear b12 B11 Rr0_11 cr0_11_0 cr0_11_1 Rlo_11 clo_11_0 clo_11_1 Rr_11 cr_11_0 cr_11_1 Rxx_11 cxx_11_0 cxx_11_1 Ryy_11 cyy_11_0 cyy_11_1 Ruu_11 cuu_11_0 cuu_11_1
  obtain ⟨cr0_12_0, cr0_12_1⟩ := cells2s Rr0_12
  obtain ⟨clo_12_0, clo_12_1⟩ := cells2s Rlo_12
  obtain ⟨cr_12_0, cr_12_1⟩ := cells2s Rr_12
  obtain ⟨cxx_12_0, cxx_12_1⟩ := cells2s Rxx_12
  obtain ⟨cyy_12_0, cyy_12_1⟩ := cells2s Ryy_12
  obtain ⟨cuu_12_0, cuu_12_1⟩ := cells2s Ruu_12
  have S13 := box B12.size
  have Lr0_13 : Box (w.heap.size < w12.heap.size) := box (Array.getElem?_eq_some_iff.1 Rr0_12).1
  have Llo_13 : Box (w1.heap.size < w12.heap.size) := box (Array.getElem?_eq_some_iff.1 Rlo_12).1
  have Lr_13 : Box (w3.heap.size < w12.heap.size) := box (Array.getElem?_eq_some_iff.1 Rr_12).1
  have Lxx_13 : Box (w5.heap.size < w12.heap.size) := box (Array.getElem?_eq_some_iff.1 Rxx_12).1
  have Lyy_13 : Box (w7.heap.size < w12.heap.size) := box (Array.getElem?_eq_some_iff.1 Ryy_12).1
  have Luu_13 : Box (w10.heap.size < w12.heap.size) := box (Array.getElem?_eq_some_iff.1 Ruu_12).1
  have Rag_13 := heap_alloc_last w12 (Obj.cells #[.int .u64 (ua : Nat), .int .u64 (va : Nat)] 25)
  have B13 := btr B12 (bal w12 (Obj.cells #[.int .u64 (ua : Nat), .int .u64 (va : Nat)] 25))
  have Rr0_13 := heap_of (bal w12 (Obj.cells #[.int .u64 (ua : Nat), .int .u64 (va : Nat)] 25)) _ _ _ Rr0_12
  have Rlo_13 := heap_of (bal w12 (Obj.cells #[.int .u64 (ua : Nat), .int .u64 (va : Nat)] 25)) _ _ _ Rlo_12
  have Rr_13 := heap_of (bal w12 (Obj.cells #[.int .u64 (ua : Nat), .int .u64 (va : Nat)] 25)) _ _ _ Rr_12
  have Rxx_13 := heap_of (bal w12 (Obj.cells #[.int .u64 (ua : Nat), .int .u64 (va : Nat)] 25)) _ _ _ Rxx_12
  have Ryy_13 := heap_of (bal w12 (Obj.cells #[.int .u64 (ua : Nat), .int .u64 (va : Nat)] 25)) _ _ _ Ryy_12
  have Ruu_13 := heap_of (bal w12 (Obj.cells #[.int .u64 (ua : Nat), .int .u64 (va : Nat)] 25)) _ _ _ Ruu_12
  clear B12 Rr0_12 cr0_12_0 cr0_12_1 Rlo_12 clo_12_0 clo_12_1 Rr_12 cr_12_0 cr_12_1 Rxx_12 cxx_12_0 cxx_12_1 Ryy_12 cyy_12_0 cyy_12_1 Ruu_12 cuu_12_0 cuu_12_1
  obtain ⟨cr0_13_0, cr0_13_1⟩ := cells2s Rr0_13
  obtain ⟨clo_13_0, clo_13_1⟩ := cells2s Rlo_13
  obtain ⟨cr_13_0, cr_13_1⟩ := cells2s Rr_13
  obtain ⟨cxx_13_0, cxx_13_1⟩ := cells2s Rxx_13
  obtain ⟨cyy_13_0, cyy_13_1⟩ := cells2s Ryy_13
  obtain ⟨cuu_13_0, cuu_13_1⟩ := cells2s Ruu_13
  obtain ⟨cag_13_0, cag_13_1⟩ := cells2s Rag_13
  go_wp2_with fail
  obtain ⟨F, hF1, hF2⟩ := below_fun (w12.alloc (Obj.cells #[.int .u64 (ua : Nat), .int .u64 (va : Nat)] 25))
  have fr0_0 := fun u => cells4 (heap_of (hF1 u) _ _ _ Rr0_13) 0 _ rfl
  have fr0_1 := fun u => cells4 (heap_of (hF1 u) _ _ _ Rr0_13) 1 _ rfl
  have flo_0 := fun u => cells4 (heap_of (hF1 u) _ _ _ Rlo_13) 0 _ rfl
  have flo_1 := fun u => cells4 (heap_of (hF1 u) _ _ _ Rlo_13) 1 _ rfl
  have fr_0 := fun u => cells4 (heap_of (hF1 u) _ _ _ Rr_13) 0 _ rfl
  have fr_1 := fun u => cells4 (heap_of (hF1 u) _ _ _ Rr_13) 1 _ rfl
  have fxx_0 := fun u => cells4 (heap_of (hF1 u) _ _ _ Rxx_13) 0 _ rfl
  have fxx_1 := fun u => cells4 (heap_of (hF1 u) _ _ _ Rxx_13) 1 _ rfl
  have fyy_0 := fun u => cells4 (heap_of (hF1 u) _ _ _ Ryy_13) 0 _ rfl
  have fyy_1 := fun u => cells4 (heap_of (hF1 u) _ _ _ Ryy_13) 1 _ rfl
  have fuu_0 := fun u => cells4 (heap_of (hF1 u) _ _ _ Ruu_13) 0 _ rfl
  have fuu_1 := fun u => cells4 (heap_of (hF1 u) _ _ _ Ruu_13) 1 _ rfl
  have fag_0 := fun u => cells4 (heap_of (hF1 u) _ _ _ Rag_13) 0 _ rfl
  have fag_1 := fun u => cells4 (heap_of (hF1 u) _ _ _ Rag_13) 1 _ rfl
  have FG : Box (∀ u, FAt (F u)) := box (fun u => fatB FF.out (btr B13 (hF1 u)))
  refine wp_region_below F hF2 (by kernel_rfl) (by kernel_rfl) ?_
  repeat first | go_big_quiet_step (first | (go_at_call 12; exact quietF hF1 hF2 (KB2.out _ (FG.out _))) | fail) | quiet_step (first | (go_at_call 12; exact quietF hF1 hF2 (KB2.out _ (FG.out _))) | fail)
  refine wpQuiet_nil ?_
  rintro _ ⟨uW, rfl⟩
  have B14 := btr B13 (hF1 uW)
  have Rr0_14 := heap_of (hF1 uW) _ _ _ Rr0_13
  have Rlo_14 := heap_of (hF1 uW) _ _ _ Rlo_13
  have Rr_14 := heap_of (hF1 uW) _ _ _ Rr_13
  have Rxx_14 := heap_of (hF1 uW) _ _ _ Rxx_13
  have Ryy_14 := heap_of (hF1 uW) _ _ _ Ryy_13
  have Ruu_14 := heap_of (hF1 uW) _ _ _ Ruu_13
  have Rag_14 := heap_of (hF1 uW) _ _ _ Rag_13
  obtain ⟨w14, hw⟩ : ∃ V, F uW = V := ⟨_, rfl⟩
  rw [hw] at B14 Rr0_14 Rlo_14 Rr_14 Rxx_14 Ryy_14 Ruu_14 Rag_14
  try rw [hw]
  clear hw hF1 hF2 B13 fr0_0 fr0_1 flo_0 flo_1 fr_0 fr_1 fxx_0 fxx_1 fyy_0 fyy_1 fuu_0 fuu_1 fag_0 fag_1 Rr0_13 cr0_13_0 cr0_13_1 Rlo_13 clo_13_0 clo_13_1 Rr_13 cr_13_0 cr_13_1 Rxx_13 cxx_13_0 cxx_13_1 Ryy_13 cyy_13_0 cyy_13_1 Ruu_13 cuu_13_0 cuu_13_1 Rag_13 cag_13_0 cag_13_1
  clear FG
  clear F
  obtain ⟨cr0_14_0, cr0_14_1⟩ := cells2s Rr0_14
  obtain ⟨clo_14_0, clo_14_1⟩ := cells2s Rlo_14
  obtain ⟨cr_14_0, cr_14_1⟩ := cells2s Rr_14
  obtain ⟨cxx_14_0, cxx_14_1⟩ := cells2s Rxx_14
  obtain ⟨cyy_14_0, cyy_14_1⟩ := cells2s Ryy_14
  obtain ⟨cuu_14_0, cuu_14_1⟩ := cells2s Ruu_14
  obtain ⟨cag_14_0, cag_14_1⟩ := cells2s Rag_14
  go_wp2_with fail
  refine (KD1.out _).mono ?_
  rintro r w15 ⟨rfl, b15⟩
  have B15 : Below w.heap.size w w15 := btr B14 b15
  have Rr0_15 := heap_of b15 _ _ _ Rr0_14
  have Rlo_15 := heap_of b15 _ _ _ Rlo_14
  have Rr_15 := heap_of b15 _ _ _ Rr_14
  have Rxx_15 := heap_of b15 _ _ _ Rxx_14
  have Ryy_15 := heap_of b15 _ _ _ Ryy_14
  have Ruu_15 := heap_of b15 _ _ _ Ruu_14
  have Rag_15 := heap_of b15 _ _ _ Rag_14
  clear b15 B14 Rr0_14 cr0_14_0 cr0_14_1 Rlo_14 clo_14_0 clo_14_1 Rr_14 cr_14_0 cr_14_1 Rxx_14 cxx_14_0 cxx_14_1 Ryy_14 cyy_14_0 cyy_14_1 Ruu_14 cuu_14_0 cuu_14_1 Rag_14 cag_14_0 cag_14_1
  obtain ⟨cr0_15_0, cr0_15_1⟩ := cells2s Rr0_15
  obtain ⟨clo_15_0, clo_15_1⟩ := cells2s Rlo_15
  obtain ⟨cr_15_0, cr_15_1⟩ := cells2s Rr_15
  obtain ⟨cxx_15_0, cxx_15_1⟩ := cells2s Rxx_15
  obtain ⟨cyy_15_0, cyy_15_1⟩ := cells2s Ryy_15
  obtain ⟨cuu_15_0, cuu_15_1⟩ := cells2s Ruu_15
  obtain ⟨cag_15_0, cag_15_1⟩ := cells2s Rag_15
  go_wp2_with fail
  refine (KD2.out _).mono ?_
  rintro r w16 ⟨rfl, b16⟩
  have B16 : Below w.heap.size w w16 := btr B15 b16
  have Rr0_16 := heap_of b16 _ _ _ Rr0_15
  have Rlo_16 := heap_of b16 _ _ _ Rlo_15
  have Rr_16 := heap_of b16 _ _ _ Rr_15
  have Rxx_16 := heap_of b16 _ _ _ Rxx_15
  have Ryy_16 := heap_of b16 _ _ _ Ryy_15
  have Ruu_16 := heap_of b16 _ _ _ Ruu_15
  have Rag_16 := heap_of b16 _ _ _ Rag_15
  clear b16 B15 Rr0_15 cr0_15_0 cr0_15_1 Rlo_15 clo_15_0 clo_15_1 Rr_15 cr_15_0 cr_15_1 Rxx_15 cxx_15_0 cxx_15_1 Ryy_15 cyy_15_0 cyy_15_1 Ruu_15 cuu_15_0 cuu_15_1 Rag_15 cag_15_0 cag_15_1
  obtain ⟨cr0_16_0, cr0_16_1⟩ := cells2s Rr0_16
  obtain ⟨clo_16_0, clo_16_1⟩ := cells2s Rlo_16
  obtain ⟨cr_16_0, cr_16_1⟩ := cells2s Rr_16
  obtain ⟨cxx_16_0, cxx_16_1⟩ := cells2s Rxx_16
  obtain ⟨cyy_16_0, cyy_16_1⟩ := cells2s Ryy_16
  obtain ⟨cuu_16_0, cuu_16_1⟩ := cells2s Ruu_16
  obtain ⟨cag_16_0, cag_16_1⟩ := cells2s Rag_16
  go_wp2_with fail
  refine (KB3.out _ (fatB FF.out B16)).mono ?_
  rintro r w17 ⟨rfl, b17⟩
  have B17 : Below w.heap.size w w17 := btr B16 b17
  have Rr0_17 := heap_of b17 _ _ _ Rr0_16
  have Rlo_17 := heap_of b17 _ _ _ Rlo_16
  have Rr_17 := heap_of b17 _ _ _ Rr_16
  have Rxx_17 := heap_of b17 _ _ _ Rxx_16
  have Ryy_17 := heap_of b17 _ _ _ Ryy_16
  have Ruu_17 := heap_of b17 _ _ _ Ruu_16
  have Rag_17 := heap_of b17 _ _ _ Rag_16
  clear b17 B16 Rr0_16 cr0_16_0 cr0_16_1 Rlo_16 clo_16_0 clo_16_1 Rr_16 cr_16_0 cr_16_1 Rxx_16 cxx_16_0 cxx_16_1 Ryy_16 cyy_16_0 cyy_16_1 Ruu_16 cuu_16_0 cuu_16_1 Rag_16 cag_16_0 cag_16_1
  obtain ⟨cr0_17_0, cr0_17_1⟩ := cells2s Rr0_17
  obtain ⟨clo_17_0, clo_17_1⟩ := cells2s Rlo_17
  obtain ⟨cr_17_0, cr_17_1⟩ := cells2s Rr_17
  obtain ⟨cxx_17_0, cxx_17_1⟩ := cells2s Rxx_17
  obtain ⟨cyy_17_0, cyy_17_1⟩ := cells2s Ryy_17
  obtain ⟨cuu_17_0, cuu_17_1⟩ := cells2s Ruu_17
  obtain ⟨cag_17_0, cag_17_1⟩ := cells2s Rag_17
  go_wp2_with fail
  refine (K7.out _ (fatB FF.out B17)).mono ?_
  rintro r w18 ⟨rfl, b18⟩
  have B18 : Below w.heap.size w w18 := btr B17 b18
  have Rr0_18 := heap_of b18 _ _ _ Rr0_17
  have Rlo_18 := heap_of b18 _ _ _ Rlo_17
  have Rr_18 := heap_of b18 _ _ _ Rr_17
  have Rxx_18 := heap_of b18 _ _ _ Rxx_17
  have Ryy_18 := heap_of b18 _ _ _ Ryy_17
  have Ruu_18 := heap_of b18 _ _ _ Ruu_17
  have Rag_18 := heap_of b18 _ _ _ Rag_17
  clear b18 B17 Rr0_17 cr0_17_0 cr0_17_1 Rlo_17 clo_17_0 clo_17_1 Rr_17 cr_17_0 cr_17_1 Rxx_17 cxx_17_0 cxx_17_1 Ryy_17 cyy_17_0 cyy_17_1 Ruu_17 cuu_17_0 cuu_17_1 Rag_17 cag_17_0 cag_17_1
  obtain ⟨cr0_18_0, cr0_18_1⟩ := cells2s Rr0_18
  obtain ⟨clo_18_0, clo_18_1⟩ := cells2s Rlo_18
  obtain ⟨cr_18_0, cr_18_1⟩ := cells2s Rr_18
  obtain ⟨cxx_18_0, cxx_18_1⟩ := cells2s Rxx_18
  obtain ⟨cyy_18_0, cyy_18_1⟩ := cells2s Ryy_18
  obtain ⟨cuu_18_0, cuu_18_1⟩ := cells2s Ruu_18
  obtain ⟨cag_18_0, cag_18_1⟩ := cells2s Rag_18
  have S19 := box B18.size
  have Lr0_19 : Box (w.heap.size < w18.heap.size) := box (Array.getElem?_eq_some_iff.1 Rr0_18).1
  have Llo_19 : Box (w1.heap.size < w18.heap.size) := box (Array.getElem?_eq_some_iff.1 Rlo_18).1
  have Lr_19 : Box (w3.heap.size < w18.heap.size) := box (Array.getElem?_eq_some_iff.1 Rr_18).1
  have Lxx_19 : Box (w5.heap.size < w18.heap.size) := box (Array.getElem?_eq_some_iff.1 Rxx_18).1
  have Lyy_19 : Box (w7.heap.size < w18.heap.size) := box (Array.getElem?_eq_some_iff.1 Ryy_18).1
  have Luu_19 : Box (w10.heap.size < w18.heap.size) := box (Array.getElem?_eq_some_iff.1 Ruu_18).1
  have Lag_19 : Box (w12.heap.size < w18.heap.size) := box (Array.getElem?_eq_some_iff.1 Rag_18).1
  have Rtv_19 := heap_alloc_last w18 (Obj.cells #[.int .u64 (uv : Nat), .int .u64 (vv : Nat)] 25)
  have B19 := btr B18 (bal w18 (Obj.cells #[.int .u64 (uv : Nat), .int .u64 (vv : Nat)] 25))
  have Rr0_19 := heap_of (bal w18 (Obj.cells #[.int .u64 (uv : Nat), .int .u64 (vv : Nat)] 25)) _ _ _ Rr0_18
  have Rlo_19 := heap_of (bal w18 (Obj.cells #[.int .u64 (uv : Nat), .int .u64 (vv : Nat)] 25)) _ _ _ Rlo_18
  have Rr_19 := heap_of (bal w18 (Obj.cells #[.int .u64 (uv : Nat), .int .u64 (vv : Nat)] 25)) _ _ _ Rr_18
  have Rxx_19 := heap_of (bal w18 (Obj.cells #[.int .u64 (uv : Nat), .int .u64 (vv : Nat)] 25)) _ _ _ Rxx_18
  have Ryy_19 := heap_of (bal w18 (Obj.cells #[.int .u64 (uv : Nat), .int .u64 (vv : Nat)] 25)) _ _ _ Ryy_18
  have Ruu_19 := heap_of (bal w18 (Obj.cells #[.int .u64 (uv : Nat), .int .u64 (vv : Nat)] 25)) _ _ _ Ruu_18
  have Rag_19 := heap_of (bal w18 (Obj.cells #[.int .u64 (uv : Nat), .int .u64 (vv : Nat)] 25)) _ _ _ Rag_18
  clear B18 Rr0_18 cr0_18_0 cr0_18_1 Rlo_18 clo_18_0 clo_18_1 Rr_18 cr_18_0 cr_18_1 Rxx_18 cxx_18_0 cxx_18_1 Ryy_18 cyy_18_0 cyy_18_1 Ruu_18 cuu_18_0 cuu_18_1 Rag_18 cag_18_0 cag_18_1
  obtain ⟨cr0_19_0, cr0_19_1⟩ := cells2s Rr0_19
  obtain ⟨clo_19_0, clo_19_1⟩ := cells2s Rlo_19
  obtain ⟨cr_19_0, cr_19_1⟩ := cells2s Rr_19
  obtain ⟨cxx_19_0, cxx_19_1⟩ := cells2s Rxx_19
  obtain ⟨cyy_19_0, cyy_19_1⟩ := cells2s Ryy_19
  obtain ⟨cuu_19_0, cuu_19_1⟩ := cells2s Ruu_19
  obtain ⟨cag_19_0, cag_19_1⟩ := cells2s Rag_19
  obtain ⟨ctv_19_0, ctv_19_1⟩ := cells2s Rtv_19
  clear Rr0_19 cr0_19_0 cr0_19_1
  clear Rlo_19 clo_19_0 clo_19_1
  clear Rr_19 cr_19_0 cr_19_1
  clear Rxx_19 cxx_19_0 cxx_19_1
  clear Ryy_19 cyy_19_0 cyy_19_1
  clear Ruu_19 cuu_19_0 cuu_19_1
  clear Rag_19 cag_19_0 cag_19_1
  go_wp2_with fail
  obtain ⟨gb, hgb⟩ : ∃ b, w18.heap.size = b := ⟨_, rfl⟩
  obtain ⟨V, hV⟩ : ∃ V, w18.alloc (.cells #[.int .u64 (uv : Nat), .int .u64 (vv : Nat)] 25) = V := ⟨_, rfl⟩
  rw [hV] at B19 Rtv_19 ⊢
  rw [hgb] at Rtv_19 ⊢
  go_loopw [23, 24] (fun tv iv wr => ∃ k : Int, wp ≤ k ∧ k ≤ wq ∧ iv = .int .i64 k ∧ tv = .int .i64 (k - wp) ∧ Below w.heap.size w wr ∧ wr.heap[gb]? = some (.cells #[.int .u64 (uv : Nat), .int .u64 (vv : Nat)] 25)) (fun _ iv _ => (128 - intOf iv).toNat)
  case atStart => exact ⟨wp, by omega, by have := hw.out; omega, rfl, by rw [Int.sub_self], B19, Rtv_19⟩
  case round =>
    obtain ⟨k, k1, k2, rfl, rfl, B20, Rtv_20⟩ := hrel
    obtain ⟨w20, hw20⟩ : ∃ w20, w20 = wr := ⟨_, rfl⟩
    subst hw20
    clear B19 Rtv_19
    by_cases hlt : k < wq
    · have dl : decide (k < wq) = true := decide_eq_true hlt
      have KX := box (KT.out k k1 hlt)
      have e5 : wrap64 (k - wp + 1) = k + 1 - wp := by have := hw.out; unfold wrap64; omega
      have e6 : wrap64 (k + 1) = k + 1 := by have := hw.out; unfold wrap64; omega
      obtain ⟨ctv_20_0, ctv_20_1⟩ := cells2s Rtv_20
      go_wp2_with fail
      refine (KX.out _).mono ?_
      rintro r w21 ⟨rfl, b21⟩
      have B21 : Below w.heap.size w w21 := btr B20 b21
      have Rtv_21 := heap_of b21 _ _ _ Rtv_20
      clear b21 B20 Rtv_20 ctv_20_0 ctv_20_1
      obtain ⟨ctv_21_0, ctv_21_1⟩ := cells2s Rtv_21
      go_wp2
      go_roundw
      case rel => exact ⟨k + 1, by omega, by omega, by first | rfl | rw [e6], by first | rw [e5] | rfl, B21, Rtv_21⟩
      case measure => have := hw.out; simp [intOf] <;> omega
    · obtain rfl : k = wq := by omega
      have dl : decide (k < k) = false := decide_eq_false (by omega)
      have e5 : wrap64 (k - wp) = k - wp := by have := hw.out; unfold wrap64; omega
      obtain ⟨ctv_20_0, ctv_20_1⟩ := cells2s Rtv_20
      go_wp2_with fail
      refine (KV.out _ (fatB FF.out B20)).mono ?_
      rintro r w21 ⟨rfl, b21⟩
      have B21 : Below w.heap.size w w21 := btr B20 b21
      have Rtv_21 := heap_of b21 _ _ _ Rtv_20
      clear b21 B20 Rtv_20 ctv_20_0 ctv_20_1
      obtain ⟨ctv_21_0, ctv_21_1⟩ := cells2s Rtv_21
      go_wp2
      go_ret
      exact ⟨rfl, B21⟩
set_option maxRecDepth 100000 in
set_option maxHeartbeats 8000000 in
theorem bb_fw (f g p q wp wq : Int) (x y ul vl ur vr uu vu ua va uv vv : Nat) (hf : f.tmod 4 = p) (hg : g.tmod 4 = q) (ht : ebb (ua : Nat) (va : Nat) (x : Nat) (y : Nat) = false) (hl : decide (wp < wq) = true) (w : World) (K1 : Box (∀ w, FAt w → Calls Tryd.prog 10 #[.int .u8 p, .agg #[.int .u64 (x : Nat), .int .u64 (y : Nat)]] w fun r w' => r = .returned (.tuple #[.agg #[.int .u64 (ul : Nat), .int .u64 (vl : Nat)], .int .i64 0]) ∧ Below w.heap.size w w')) (K2 : Box (∀ w, FAt w → Calls Tryd.prog 11 #[.int .u8 p, .agg #[.int .u64 (ul : Nat), .int .u64 (vl : Nat)]] w fun r w' => r = .returned (.tuple #[.agg #[.int .u64 (ur : Nat), .int .u64 (vr : Nat)], .int .i64 0]) ∧ Below w.heap.size w w')) (K3 : Box (∀ w, FAt w → Calls Tryd.prog 9 #[.int .u8 p, .agg #[.int .u64 (ur : Nat), .int .u64 (vr : Nat)]] w fun r w' => r = .returned (.tuple #[.agg #[.int .u64 (ul : Nat), .int .u64 (vl : Nat)], .int .i64 0]) ∧ Below w.heap.size w w')) (K4 : Box (∀ w, FAt w → Calls Tryd.prog 10 #[.int .u8 p, .agg #[.int .u64 (ur : Nat), .int .u64 (vr : Nat)]] w fun r w' => r = .returned (.tuple #[.agg #[.int .u64 (ul : Nat), .int .u64 (vl : Nat)], .int .i64 0]) ∧ Below w.heap.size w w')) (KB1 : Box (∀ w, FAt w → Calls Tryd.prog 12 #[.int .u8 p, .agg #[.int .u64 (ur : Nat), .int .u64 (vr : Nat)]] w fun r w' => r = .returned (.bool true) ∧ Below w.heap.size w w')) (K5 : Box (∀ w, FAt w → Calls Tryd.prog 9 #[.int .u8 p, .agg #[.int .u64 (x : Nat), .int .u64 (y : Nat)]] w fun r w' => r = .returned (.tuple #[.agg #[.int .u64 (uu : Nat), .int .u64 (vu : Nat)], .int .i64 0]) ∧ Below w.heap.size w w')) (K6 : Box (∀ w, FAt w → Calls Tryd.prog 11 #[.int .u8 p, .agg #[.int .u64 (uu : Nat), .int .u64 (vu : Nat)]] w fun r w' => r = .returned (.tuple #[.agg #[.int .u64 (ua : Nat), .int .u64 (va : Nat)], .int .i64 0]) ∧ Below w.heap.size w w')) (KB2 : Box (∀ w, FAt w → Calls Tryd.prog 12 #[.int .u8 p, .agg #[.int .u64 (x : Nat), .int .u64 (y : Nat)]] w fun r w' => r = .returned (.bool false) ∧ Below w.heap.size w w')) (KD1 : Box (∀ w, Calls Tryd.prog 23 #[.int .u8 p] w fun r w' => r = .returned (.int .i64 wp) ∧ Below w.heap.size w w')) (KD2 : Box (∀ w, Calls Tryd.prog 23 #[.int .u8 q] w fun r w' => r = .returned (.int .i64 wq) ∧ Below w.heap.size w w')) (KB3 : Box (∀ w, FAt w → Calls Tryd.prog 12 #[.int .u8 q, .agg #[.int .u64 (ur : Nat), .int .u64 (vr : Nat)]] w fun r w' => r = .returned (.bool true) ∧ Below w.heap.size w w')) (K7 : Box (∀ w, FAt w → Calls Tryd.prog 9 #[.int .u8 q, .agg #[.int .u64 (ur : Nat), .int .u64 (vr : Nat)]] w fun r w' => r = .returned (.tuple #[.agg #[.int .u64 (uv : Nat), .int .u64 (vv : Nat)], .int .i64 0]) ∧ Below w.heap.size w w')) (KT : Box (∀ k : Int, wp ≤ k → k < wq → ∀ w, Calls Tryd.prog 24 #[.agg #[.int .u64 (uv : Nat), .int .u64 (vv : Nat)], .int .i64 k] w fun r w' => r = .returned (.bool true) ∧ Below w.heap.size w w')) (hw : Box (0 ≤ wp ∧ wp < wq ∧ wq ≤ 128)) (KV : Box (∀ w, FAt w → Calls Tryd.prog 14 #[] w fun r w' => r = .returned (.bool true) ∧ Below w.heap.size w w')) (hT : FAt w) : Calls Tryd.prog 5 #[.int .u8 f, .int .u8 g, .agg #[.int .u64 (x : Nat), .int .u64 (y : Nat)]] w fun r w' => r = .returned (.bool true) ∧ Below w.heap.size w w' := by
  have FF := box hT
  clear hT
  have hE := eqb
  have e1 := ebb_sj (ul : Nat) (vl : Nat)
  obtain ⟨Rr0_0, B0⟩ := opn1 w (Obj.cells #[.int .u64 (x : Nat), .int .u64 (y : Nat)] 25)
  go_enter Tryd.func5, Tryd.ntmps5
  obtain ⟨cr0_0_0, cr0_0_1⟩ := cells2s Rr0_0
  go_wp2_with fail
  refine (K1.out _ (fatB FF.out B0)).mono ?_
  rintro r w1 ⟨rfl, b1⟩
  have B1 : Below w.heap.size w w1 := btr B0 b1
  have Rr0_1 := heap_of b1 _ _ _ Rr0_0
  clear b1 B0 Rr0_0 cr0_0_0 cr0_0_1
  obtain ⟨cr0_1_0, cr0_1_1⟩ := cells2s Rr0_1
  have S2 := box B1.size
  have Lr0_2 : Box (w.heap.size < w1.heap.size) := box (Array.getElem?_eq_some_iff.1 Rr0_1).1
  have Rlo_2 := heap_alloc_last w1 (Obj.cells #[.int .u64 (ul : Nat), .int .u64 (vl : Nat)] 25)
  have B2 := btr B1 (bal w1 (Obj.cells #[.int .u64 (ul : Nat), .int .u64 (vl : Nat)] 25))
  have Rr0_2 := heap_of (bal w1 (Obj.cells #[.int .u64 (ul : Nat), .int .u64 (vl : Nat)] 25)) _ _ _ Rr0_1
  clear B1 Rr0_1 cr0_1_0 cr0_1_1
  obtain ⟨cr0_2_0, cr0_2_1⟩ := cells2s Rr0_2
  obtain ⟨clo_2_0, clo_2_1⟩ := cells2s Rlo_2
  go_wp2_with fail
  refine (K2.out _ (fatB FF.out B2)).mono ?_
  rintro r w3 ⟨rfl, b3⟩
  have B3 : Below w.heap.size w w3 := btr B2 b3
  have Rr0_3 := heap_of b3 _ _ _ Rr0_2
  have Rlo_3 := heap_of b3 _ _ _ Rlo_2
  clear b3 B2 Rr0_2 cr0_2_0 cr0_2_1 Rlo_2 clo_2_0 clo_2_1
  obtain ⟨cr0_3_0, cr0_3_1⟩ := cells2s Rr0_3
  obtain ⟨clo_3_0, clo_3_1⟩ := cells2s Rlo_3
  have S4 := box B3.size
  have Lr0_4 : Box (w.heap.size < w3.heap.size) := box (Array.getElem?_eq_some_iff.1 Rr0_3).1
  have Llo_4 : Box (w1.heap.size < w3.heap.size) := box (Array.getElem?_eq_some_iff.1 Rlo_3).1
  have Rr_4 := heap_alloc_last w3 (Obj.cells #[.int .u64 (ur : Nat), .int .u64 (vr : Nat)] 25)
  have B4 := btr B3 (bal w3 (Obj.cells #[.int .u64 (ur : Nat), .int .u64 (vr : Nat)] 25))
  have Rr0_4 := heap_of (bal w3 (Obj.cells #[.int .u64 (ur : Nat), .int .u64 (vr : Nat)] 25)) _ _ _ Rr0_3
  have Rlo_4 := heap_of (bal w3 (Obj.cells #[.int .u64 (ur : Nat), .int .u64 (vr : Nat)] 25)) _ _ _ Rlo_3
  clear B3 Rr0_3 cr0_3_0 cr0_3_1 Rlo_3 clo_3_0 clo_3_1
  obtain ⟨cr0_4_0, cr0_4_1⟩ := cells2s Rr0_4
  obtain ⟨clo_4_0, clo_4_1⟩ := cells2s Rlo_4
  obtain ⟨cr_4_0, cr_4_1⟩ := cells2s Rr_4
  go_wp2_with fail
  refine (K3.out _ (fatB FF.out B4)).mono ?_
  rintro r w5 ⟨rfl, b5⟩
  have B5 : Below w.heap.size w w5 := btr B4 b5
  have Rr0_5 := heap_of b5 _ _ _ Rr0_4
  have Rlo_5 := heap_of b5 _ _ _ Rlo_4
  have Rr_5 := heap_of b5 _ _ _ Rr_4
  clear b5 B4 Rr0_4 cr0_4_0 cr0_4_1 Rlo_4 clo_4_0 clo_4_1 Rr_4 cr_4_0 cr_4_1
  obtain ⟨cr0_5_0, cr0_5_1⟩ := cells2s Rr0_5
  obtain ⟨clo_5_0, clo_5_1⟩ := cells2s Rlo_5
  obtain ⟨cr_5_0, cr_5_1⟩ := cells2s Rr_5
  have S6 := box B5.size
  have Lr0_6 : Box (w.heap.size < w5.heap.size) := box (Array.getElem?_eq_some_iff.1 Rr0_5).1
  have Llo_6 : Box (w1.heap.size < w5.heap.size) := box (Array.getElem?_eq_some_iff.1 Rlo_5).1
  have Lr_6 : Box (w3.heap.size < w5.heap.size) := box (Array.getElem?_eq_some_iff.1 Rr_5).1
  have Rxx_6 := heap_alloc_last w5 (Obj.cells #[.int .u64 (ul : Nat), .int .u64 (vl : Nat)] 25)
  have B6 := btr B5 (bal w5 (Obj.cells #[.int .u64 (ul : Nat), .int .u64 (vl : Nat)] 25))
  have Rr0_6 := heap_of (bal w5 (Obj.cells #[.int .u64 (ul : Nat), .int .u64 (vl : Nat)] 25)) _ _ _ Rr0_5
  have Rlo_6 := heap_of (bal w5 (Obj.cells #[.int .u64 (ul : Nat), .int .u64 (vl : Nat)] 25)) _ _ _ Rlo_5
  have Rr_6 := heap_of (bal w5 (Obj.cells #[.int .u64 (ul : Nat), .int .u64 (vl : Nat)] 25)) _ _ _ Rr_5
  clear B5 Rr0_5 cr0_5_0 cr0_5_1 Rlo_5 clo_5_0 clo_5_1 Rr_5 cr_5_0 cr_5_1
  obtain ⟨cr0_6_0, cr0_6_1⟩ := cells2s Rr0_6
  obtain ⟨clo_6_0, clo_6_1⟩ := cells2s Rlo_6
  obtain ⟨cr_6_0, cr_6_1⟩ := cells2s Rr_6
  obtain ⟨cxx_6_0, cxx_6_1⟩ := cells2s Rxx_6
  go_wp2_with fail
  refine (K4.out _ (fatB FF.out B6)).mono ?_
  rintro r w7 ⟨rfl, b7⟩
  have B7 : Below w.heap.size w w7 := btr B6 b7
  have Rr0_7 := heap_of b7 _ _ _ Rr0_6
  have Rlo_7 := heap_of b7 _ _ _ Rlo_6
  have Rr_7 := heap_of b7 _ _ _ Rr_6
  have Rxx_7 := heap_of b7 _ _ _ Rxx_6
  clear b7 B6 Rr0_6 cr0_6_0 cr0_6_1 Rlo_6 clo_6_0 clo_6_1 Rr_6 cr_6_0 cr_6_1 Rxx_6 cxx_6_0 cxx_6_1
  obtain ⟨cr0_7_0, cr0_7_1⟩ := cells2s Rr0_7
  obtain ⟨clo_7_0, clo_7_1⟩ := cells2s Rlo_7
  obtain ⟨cr_7_0, cr_7_1⟩ := cells2s Rr_7
  obtain ⟨cxx_7_0, cxx_7_1⟩ := cells2s Rxx_7
  have S8 := box B7.size
  have Lr0_8 : Box (w.heap.size < w7.heap.size) := box (Array.getElem?_eq_some_iff.1 Rr0_7).1
  have Llo_8 : Box (w1.heap.size < w7.heap.size) := box (Array.getElem?_eq_some_iff.1 Rlo_7).1
  have Lr_8 : Box (w3.heap.size < w7.heap.size) := box (Array.getElem?_eq_some_iff.1 Rr_7).1
  have Lxx_8 : Box (w5.heap.size < w7.heap.size) := box (Array.getElem?_eq_some_iff.1 Rxx_7).1
  have Ryy_8 := heap_alloc_last w7 (Obj.cells #[.int .u64 (ul : Nat), .int .u64 (vl : Nat)] 25)
  have B8 := btr B7 (bal w7 (Obj.cells #[.int .u64 (ul : Nat), .int .u64 (vl : Nat)] 25))
  have Rr0_8 := heap_of (bal w7 (Obj.cells #[.int .u64 (ul : Nat), .int .u64 (vl : Nat)] 25)) _ _ _ Rr0_7
  have Rlo_8 := heap_of (bal w7 (Obj.cells #[.int .u64 (ul : Nat), .int .u64 (vl : Nat)] 25)) _ _ _ Rlo_7
  have Rr_8 := heap_of (bal w7 (Obj.cells #[.int .u64 (ul : Nat), .int .u64 (vl : Nat)] 25)) _ _ _ Rr_7
  have Rxx_8 := heap_of (bal w7 (Obj.cells #[.int .u64 (ul : Nat), .int .u64 (vl : Nat)] 25)) _ _ _ Rxx_7
  clear B7 Rr0_7 cr0_7_0 cr0_7_1 Rlo_7 clo_7_0 clo_7_1 Rr_7 cr_7_0 cr_7_1 Rxx_7 cxx_7_0 cxx_7_1
  obtain ⟨cr0_8_0, cr0_8_1⟩ := cells2s Rr0_8
  obtain ⟨clo_8_0, clo_8_1⟩ := cells2s Rlo_8
  obtain ⟨cr_8_0, cr_8_1⟩ := cells2s Rr_8
  obtain ⟨cxx_8_0, cxx_8_1⟩ := cells2s Rxx_8
  obtain ⟨cyy_8_0, cyy_8_1⟩ := cells2s Ryy_8
  go_wp2_with fail
  refine (KB1.out _ (fatB FF.out B8)).mono ?_
  rintro r w9 ⟨rfl, b9⟩
  have B9 : Below w.heap.size w w9 := btr B8 b9
  have Rr0_9 := heap_of b9 _ _ _ Rr0_8
  have Rlo_9 := heap_of b9 _ _ _ Rlo_8
  have Rr_9 := heap_of b9 _ _ _ Rr_8
  have Rxx_9 := heap_of b9 _ _ _ Rxx_8
  have Ryy_9 := heap_of b9 _ _ _ Ryy_8
  clear b9 B8 Rr0_8 cr0_8_0 cr0_8_1 Rlo_8 clo_8_0 clo_8_1 Rr_8 cr_8_0 cr_8_1 Rxx_8 cxx_8_0 cxx_8_1 Ryy_8 cyy_8_0 cyy_8_1
  obtain ⟨cr0_9_0, cr0_9_1⟩ := cells2s Rr0_9
  obtain ⟨clo_9_0, clo_9_1⟩ := cells2s Rlo_9
  obtain ⟨cr_9_0, cr_9_1⟩ := cells2s Rr_9
  obtain ⟨cxx_9_0, cxx_9_1⟩ := cells2s Rxx_9
  obtain ⟨cyy_9_0, cyy_9_1⟩ := cells2s Ryy_9
  go_wp2_with fail
  refine (K5.out _ (fatB FF.out B9)).mono ?_
  rintro r w10 ⟨rfl, b10⟩
  have B10 : Below w.heap.size w w10 := btr B9 b10
  have Rr0_10 := heap_of b10 _ _ _ Rr0_9
  have Rlo_10 := heap_of b10 _ _ _ Rlo_9
  have Rr_10 := heap_of b10 _ _ _ Rr_9
  have Rxx_10 := heap_of b10 _ _ _ Rxx_9
  have Ryy_10 := heap_of b10 _ _ _ Ryy_9
  clear b10 B9 Rr0_9 cr0_9_0 cr0_9_1 Rlo_9 clo_9_0 clo_9_1 Rr_9 cr_9_0 cr_9_1 Rxx_9 cxx_9_0 cxx_9_1 Ryy_9 cyy_9_0 cyy_9_1
  obtain ⟨cr0_10_0, cr0_10_1⟩ := cells2s Rr0_10
  obtain ⟨clo_10_0, clo_10_1⟩ := cells2s Rlo_10
  obtain ⟨cr_10_0, cr_10_1⟩ := cells2s Rr_10
  obtain ⟨cxx_10_0, cxx_10_1⟩ := cells2s Rxx_10
  obtain ⟨cyy_10_0, cyy_10_1⟩ := cells2s Ryy_10
  have S11 := box B10.size
  have Lr0_11 : Box (w.heap.size < w10.heap.size) := box (Array.getElem?_eq_some_iff.1 Rr0_10).1
  have Llo_11 : Box (w1.heap.size < w10.heap.size) := box (Array.getElem?_eq_some_iff.1 Rlo_10).1
  have Lr_11 : Box (w3.heap.size < w10.heap.size) := box (Array.getElem?_eq_some_iff.1 Rr_10).1
  have Lxx_11 : Box (w5.heap.size < w10.heap.size) := box (Array.getElem?_eq_some_iff.1 Rxx_10).1
  have Lyy_11 : Box (w7.heap.size < w10.heap.size) := box (Array.getElem?_eq_some_iff.1 Ryy_10).1
  have Ruu_11 := heap_alloc_last w10 (Obj.cells #[.int .u64 (uu : Nat), .int .u64 (vu : Nat)] 25)
  have B11 := btr B10 (bal w10 (Obj.cells #[.int .u64 (uu : Nat), .int .u64 (vu : Nat)] 25))
  have Rr0_11 := heap_of (bal w10 (Obj.cells #[.int .u64 (uu : Nat), .int .u64 (vu : Nat)] 25)) _ _ _ Rr0_10
  have Rlo_11 := heap_of (bal w10 (Obj.cells #[.int .u64 (uu : Nat), .int .u64 (vu : Nat)] 25)) _ _ _ Rlo_10
  have Rr_11 := heap_of (bal w10 (Obj.cells #[.int .u64 (uu : Nat), .int .u64 (vu : Nat)] 25)) _ _ _ Rr_10
  have Rxx_11 := heap_of (bal w10 (Obj.cells #[.int .u64 (uu : Nat), .int .u64 (vu : Nat)] 25)) _ _ _ Rxx_10
  have Ryy_11 := heap_of (bal w10 (Obj.cells #[.int .u64 (uu : Nat), .int .u64 (vu : Nat)] 25)) _ _ _ Ryy_10
  clear B10 Rr0_10 cr0_10_0 cr0_10_1 Rlo_10 clo_10_0 clo_10_1 Rr_10 cr_10_0 cr_10_1 Rxx_10 cxx_10_0 cxx_10_1 Ryy_10 cyy_10_0 cyy_10_1
  obtain ⟨cr0_11_0, cr0_11_1⟩ := cells2s Rr0_11
  obtain ⟨clo_11_0, clo_11_1⟩ := cells2s Rlo_11
  obtain ⟨cr_11_0, cr_11_1⟩ := cells2s Rr_11
  obtain ⟨cxx_11_0, cxx_11_1⟩ := cells2s Rxx_11
  obtain ⟨cyy_11_0, cyy_11_1⟩ := cells2s Ryy_11
  obtain ⟨cuu_11_0, cuu_11_1⟩ := cells2s Ruu_11
  go_wp2_with fail
  refine (K6.out _ (fatB FF.out B11)).mono ?_
  rintro r w12 ⟨rfl, b12⟩
  have B12 : Below w.heap.size w w12 := btr B11 b12
  have Rr0_12 := heap_of b12 _ _ _ Rr0_11
  have Rlo_12 := heap_of b12 _ _ _ Rlo_11
  have Rr_12 := heap_of b12 _ _ _ Rr_11
  have Rxx_12 := heap_of b12 _ _ _ Rxx_11
  have Ryy_12 := heap_of b12 _ _ _ Ryy_11
  have Ruu_12 := heap_of b12 _ _ _ Ruu_11
  clear b12 B11 Rr0_11 cr0_11_0 cr0_11_1 Rlo_11 clo_11_0 clo_11_1 Rr_11 cr_11_0 cr_11_1 Rxx_11 cxx_11_0 cxx_11_1 Ryy_11 cyy_11_0 cyy_11_1 Ruu_11 cuu_11_0 cuu_11_1
  obtain ⟨cr0_12_0, cr0_12_1⟩ := cells2s Rr0_12
  obtain ⟨clo_12_0, clo_12_1⟩ := cells2s Rlo_12
  obtain ⟨cr_12_0, cr_12_1⟩ := cells2s Rr_12
  obtain ⟨cxx_12_0, cxx_12_1⟩ := cells2s Rxx_12
  obtain ⟨cyy_12_0, cyy_12_1⟩ := cells2s Ryy_12
  obtain ⟨cuu_12_0, cuu_12_1⟩ := cells2s Ruu_12
  have S13 := box B12.size
  have Lr0_13 : Box (w.heap.size < w12.heap.size) := box (Array.getElem?_eq_some_iff.1 Rr0_12).1
  have Llo_13 : Box (w1.heap.size < w12.heap.size) := box (Array.getElem?_eq_some_iff.1 Rlo_12).1
  have Lr_13 : Box (w3.heap.size < w12.heap.size) := box (Array.getElem?_eq_some_iff.1 Rr_12).1
  have Lxx_13 : Box (w5.heap.size < w12.heap.size) := box (Array.getElem?_eq_some_iff.1 Rxx_12).1
  have Lyy_13 : Box (w7.heap.size < w12.heap.size) := box (Array.getElem?_eq_some_iff.1 Ryy_12).1
  have Luu_13 : Box (w10.heap.size < w12.heap.size) := box (Array.getElem?_eq_some_iff.1 Ruu_12).1
  have Rag_13 := heap_alloc_last w12 (Obj.cells #[.int .u64 (ua : Nat), .int .u64 (va : Nat)] 25)
  have B13 := btr B12 (bal w12 (Obj.cells #[.int .u64 (ua : Nat), .int .u64 (va : Nat)] 25))
  have Rr0_13 := heap_of (bal w12 (Obj.cells #[.int .u64 (ua : Nat), .int .u64 (va : Nat)] 25)) _ _ _ Rr0_12
  have Rlo_13 := heap_of (bal w12 (Obj.cells #[.int .u64 (ua : Nat), .int .u64 (va : Nat)] 25)) _ _ _ Rlo_12
  have Rr_13 := heap_of (bal w12 (Obj.cells #[.int .u64 (ua : Nat), .int .u64 (va : Nat)] 25)) _ _ _ Rr_12
  have Rxx_13 := heap_of (bal w12 (Obj.cells #[.int .u64 (ua : Nat), .int .u64 (va : Nat)] 25)) _ _ _ Rxx_12
  have Ryy_13 := heap_of (bal w12 (Obj.cells #[.int .u64 (ua : Nat), .int .u64 (va : Nat)] 25)) _ _ _ Ryy_12
  have Ruu_13 := heap_of (bal w12 (Obj.cells #[.int .u64 (ua : Nat), .int .u64 (va : Nat)] 25)) _ _ _ Ruu_12
  clear B12 Rr0_12 cr0_12_0 cr0_12_1 Rlo_12 clo_12_0 clo_12_1 Rr_12 cr_12_0 cr_12_1 Rxx_12 cxx_12_0 cxx_12_1 Ryy_12 cyy_12_0 cyy_12_1 Ruu_12 cuu_12_0 cuu_12_1
  obtain ⟨cr0_13_0, cr0_13_1⟩ := cells2s Rr0_13
  obtain ⟨clo_13_0, clo_13_1⟩ := cells2s Rlo_13
  obtain ⟨cr_13_0, cr_13_1⟩ := cells2s Rr_13
  obtain ⟨cxx_13_0, cxx_13_1⟩ := cells2s Rxx_13
  obtain ⟨cyy_13_0, cyy_13_1⟩ := cells2s Ryy_13
  obtain ⟨cuu_13_0, cuu_13_1⟩ := cells2s Ruu_13
  obtain ⟨cag_13_0, cag_13_1⟩ := cells2s Rag_13
  go_wp2_with fail
  obtain ⟨F, hF1, hF2⟩ := below_fun (w12.alloc (Obj.cells #[.int .u64 (ua : Nat), .int .u64 (va : Nat)] 25))
  have fr0_0 := fun u => cells4 (heap_of (hF1 u) _ _ _ Rr0_13) 0 _ rfl
  have fr0_1 := fun u => cells4 (heap_of (hF1 u) _ _ _ Rr0_13) 1 _ rfl
  have flo_0 := fun u => cells4 (heap_of (hF1 u) _ _ _ Rlo_13) 0 _ rfl
  have flo_1 := fun u => cells4 (heap_of (hF1 u) _ _ _ Rlo_13) 1 _ rfl
  have fr_0 := fun u => cells4 (heap_of (hF1 u) _ _ _ Rr_13) 0 _ rfl
  have fr_1 := fun u => cells4 (heap_of (hF1 u) _ _ _ Rr_13) 1 _ rfl
  have fxx_0 := fun u => cells4 (heap_of (hF1 u) _ _ _ Rxx_13) 0 _ rfl
  have fxx_1 := fun u => cells4 (heap_of (hF1 u) _ _ _ Rxx_13) 1 _ rfl
  have fyy_0 := fun u => cells4 (heap_of (hF1 u) _ _ _ Ryy_13) 0 _ rfl
  have fyy_1 := fun u => cells4 (heap_of (hF1 u) _ _ _ Ryy_13) 1 _ rfl
  have fuu_0 := fun u => cells4 (heap_of (hF1 u) _ _ _ Ruu_13) 0 _ rfl
  have fuu_1 := fun u => cells4 (heap_of (hF1 u) _ _ _ Ruu_13) 1 _ rfl
  have fag_0 := fun u => cells4 (heap_of (hF1 u) _ _ _ Rag_13) 0 _ rfl
  have fag_1 := fun u => cells4 (heap_of (hF1 u) _ _ _ Rag_13) 1 _ rfl
  have FG : Box (∀ u, FAt (F u)) := box (fun u => fatB FF.out (btr B13 (hF1 u)))
  refine wp_region_below F hF2 (by kernel_rfl) (by kernel_rfl) ?_
  repeat first | go_big_quiet_step (first | (go_at_call 12; exact quietF hF1 hF2 (KB2.out _ (FG.out _))) | fail) | quiet_step (first | (go_at_call 12; exact quietF hF1 hF2 (KB2.out _ (FG.out _))) | fail)
  refine wpQuiet_nil ?_
  rintro _ ⟨uW, rfl⟩
  have B14 := btr B13 (hF1 uW)
  have Rr0_14 := heap_of (hF1 uW) _ _ _ Rr0_13
  have Rlo_14 := heap_of (hF1 uW) _ _ _ Rlo_13
  have Rr_14 := heap_of (hF1 uW) _ _ _ Rr_13
  have Rxx_14 := heap_of (hF1 uW) _ _ _ Rxx_13
  have Ryy_14 := heap_of (hF1 uW) _ _ _ Ryy_13
  have Ruu_14 := heap_of (hF1 uW) _ _ _ Ruu_13
  have Rag_14 := heap_of (hF1 uW) _ _ _ Rag_13
  obtain ⟨w14, hw⟩ : ∃ V, F uW = V := ⟨_, rfl⟩
  rw [hw] at B14 Rr0_14 Rlo_14 Rr_14 Rxx_14 Ryy_14 Ruu_14 Rag_14
  try rw [hw]
  clear hw hF1 hF2 B13 fr0_0 fr0_1 flo_0 flo_1 fr_0 fr_1 fxx_0 fxx_1 fyy_0 fyy_1 fuu_0 fuu_1 fag_0 fag_1 Rr0_13 cr0_13_0 cr0_13_1 Rlo_13 clo_13_0 clo_13_1 Rr_13 cr_13_0 cr_13_1 Rxx_13 cxx_13_0 cxx_13_1 Ryy_13 cyy_13_0 cyy_13_1 Ruu_13 cuu_13_0 cuu_13_1 Rag_13 cag_13_0 cag_13_1
  clear FG
  clear F
  obtain ⟨cr0_14_0, cr0_14_1⟩ := cells2s Rr0_14
  obtain ⟨clo_14_0, clo_14_1⟩ := cells2s Rlo_14
  obtain ⟨cr_14_0, cr_14_1⟩ := cells2s Rr_14
  obtain ⟨cxx_14_0, cxx_14_1⟩ := cells2s Rxx_14
  obtain ⟨cyy_14_0, cyy_14_1⟩ := cells2s Ryy_14
  obtain ⟨cuu_14_0, cuu_14_1⟩ := cells2s Ruu_14
  obtain ⟨cag_14_0, cag_14_1⟩ := cells2s Rag_14
  go_wp2_with fail
  refine (KD1.out _).mono ?_
  rintro r w15 ⟨rfl, b15⟩
  have B15 : Below w.heap.size w w15 := btr B14 b15
  have Rr0_15 := heap_of b15 _ _ _ Rr0_14
  have Rlo_15 := heap_of b15 _ _ _ Rlo_14
  have Rr_15 := heap_of b15 _ _ _ Rr_14
  have Rxx_15 := heap_of b15 _ _ _ Rxx_14
  have Ryy_15 := heap_of b15 _ _ _ Ryy_14
  have Ruu_15 := heap_of b15 _ _ _ Ruu_14
  have Rag_15 := heap_of b15 _ _ _ Rag_14
  clear b15 B14 Rr0_14 cr0_14_0 cr0_14_1 Rlo_14 clo_14_0 clo_14_1 Rr_14 cr_14_0 cr_14_1 Rxx_14 cxx_14_0 cxx_14_1 Ryy_14 cyy_14_0 cyy_14_1 Ruu_14 cuu_14_0 cuu_14_1 Rag_14 cag_14_0 cag_14_1
  obtain ⟨cr0_15_0, cr0_15_1⟩ := cells2s Rr0_15
  obtain ⟨clo_15_0, clo_15_1⟩ := cells2s Rlo_15
  obtain ⟨cr_15_0, cr_15_1⟩ := cells2s Rr_15
  obtain ⟨cxx_15_0, cxx_15_1⟩ := cells2s Rxx_15
  obtain ⟨cyy_15_0, cyy_15_1⟩ := cells2s Ryy_15
  obtain ⟨cuu_15_0, cuu_15_1⟩ := cells2s Ruu_15
  obtain ⟨cag_15_0, cag_15_1⟩ := cells2s Rag_15
  go_wp2_with fail
  refine (KD2.out _).mono ?_
  rintro r w16 ⟨rfl, b16⟩
  have B16 : Below w.heap.size w w16 := btr B15 b16
  have Rr0_16 := heap_of b16 _ _ _ Rr0_15
  have Rlo_16 := heap_of b16 _ _ _ Rlo_15
  have Rr_16 := heap_of b16 _ _ _ Rr_15
  have Rxx_16 := heap_of b16 _ _ _ Rxx_15
  have Ryy_16 := heap_of b16 _ _ _ Ryy_15
  have Ruu_16 := heap_of b16 _ _ _ Ruu_15
  have Rag_16 := heap_of b16 _ _ _ Rag_15
  clear b16 B15 Rr0_15 cr0_15_0 cr0_15_1 Rlo_15 clo_15_0 clo_15_1 Rr_15 cr_15_0 cr_15_1 Rxx_15 cxx_15_0 cxx_15_1 Ryy_15 cyy_15_0 cyy_15_1 Ruu_15 cuu_15_0 cuu_15_1 Rag_15 cag_15_0 cag_15_1
  obtain ⟨cr0_16_0, cr0_16_1⟩ := cells2s Rr0_16
  obtain ⟨clo_16_0, clo_16_1⟩ := cells2s Rlo_16
  obtain ⟨cr_16_0, cr_16_1⟩ := cells2s Rr_16
  obtain ⟨cxx_16_0, cxx_16_1⟩ := cells2s Rxx_16
  obtain ⟨cyy_16_0, cyy_16_1⟩ := cells2s Ryy_16
  obtain ⟨cuu_16_0, cuu_16_1⟩ := cells2s Ruu_16
  obtain ⟨cag_16_0, cag_16_1⟩ := cells2s Rag_16
  go_wp2_with fail
  refine (KB3.out _ (fatB FF.out B16)).mono ?_
  rintro r w17 ⟨rfl, b17⟩
  have B17 : Below w.heap.size w w17 := btr B16 b17
  have Rr0_17 := heap_of b17 _ _ _ Rr0_16
  have Rlo_17 := heap_of b17 _ _ _ Rlo_16
  have Rr_17 := heap_of b17 _ _ _ Rr_16
  have Rxx_17 := heap_of b17 _ _ _ Rxx_16
  have Ryy_17 := heap_of b17 _ _ _ Ryy_16
  have Ruu_17 := heap_of b17 _ _ _ Ruu_16
  have Rag_17 := heap_of b17 _ _ _ Rag_16
  clear b17 B16 Rr0_16 cr0_16_0 cr0_16_1 Rlo_16 clo_16_0 clo_16_1 Rr_16 cr_16_0 cr_16_1 Rxx_16 cxx_16_0 cxx_16_1 Ryy_16 cyy_16_0 cyy_16_1 Ruu_16 cuu_16_0 cuu_16_1 Rag_16 cag_16_0 cag_16_1
  obtain ⟨cr0_17_0, cr0_17_1⟩ := cells2s Rr0_17
  obtain ⟨clo_17_0, clo_17_1⟩ := cells2s Rlo_17
  obtain ⟨cr_17_0, cr_17_1⟩ := cells2s Rr_17
  obtain ⟨cxx_17_0, cxx_17_1⟩ := cells2s Rxx_17
  obtain ⟨cyy_17_0, cyy_17_1⟩ := cells2s Ryy_17
  obtain ⟨cuu_17_0, cuu_17_1⟩ := cells2s Ruu_17
  obtain ⟨cag_17_0, cag_17_1⟩ := cells2s Rag_17
  go_wp2_with fail
  refine (K7.out _ (fatB FF.out B17)).mono ?_
  rintro r w18 ⟨rfl, b18⟩
  have B18 : Below w.heap.size w w18 := btr B17 b18
  have Rr0_18 := heap_of b18 _ _ _ Rr0_17
  have Rlo_18 := heap_of b18 _ _ _ Rlo_17
  have Rr_18 := heap_of b18 _ _ _ Rr_17
  have Rxx_18 := heap_of b18 _ _ _ Rxx_17
  have Ryy_18 := heap_of b18 _ _ _ Ryy_17
  have Ruu_18 := heap_of b18 _ _ _ Ruu_17
  have Rag_18 := heap_of b18 _ _ _ Rag_17
  clear b18 B17 Rr0_17 cr0_17_0 cr0_17_1 Rlo_17 clo_17_0 clo_17_1 Rr_17 cr_17_0 cr_17_1 Rxx_17 cxx_17_0 cxx_17_1 Ryy_17 cyy_17_0 cyy_17_1 Ruu_17 cuu_17_0 cuu_17_1 Rag_17 cag_17_0 cag_17_1
  obtain ⟨cr0_18_0, cr0_18_1⟩ := cells2s Rr0_18
  obtain ⟨clo_18_0, clo_18_1⟩ := cells2s Rlo_18
  obtain ⟨cr_18_0, cr_18_1⟩ := cells2s Rr_18
  obtain ⟨cxx_18_0, cxx_18_1⟩ := cells2s Rxx_18
  obtain ⟨cyy_18_0, cyy_18_1⟩ := cells2s Ryy_18
  obtain ⟨cuu_18_0, cuu_18_1⟩ := cells2s Ruu_18
  obtain ⟨cag_18_0, cag_18_1⟩ := cells2s Rag_18
  have S19 := box B18.size
  have Lr0_19 : Box (w.heap.size < w18.heap.size) := box (Array.getElem?_eq_some_iff.1 Rr0_18).1
  have Llo_19 : Box (w1.heap.size < w18.heap.size) := box (Array.getElem?_eq_some_iff.1 Rlo_18).1
  have Lr_19 : Box (w3.heap.size < w18.heap.size) := box (Array.getElem?_eq_some_iff.1 Rr_18).1
  have Lxx_19 : Box (w5.heap.size < w18.heap.size) := box (Array.getElem?_eq_some_iff.1 Rxx_18).1
  have Lyy_19 : Box (w7.heap.size < w18.heap.size) := box (Array.getElem?_eq_some_iff.1 Ryy_18).1
  have Luu_19 : Box (w10.heap.size < w18.heap.size) := box (Array.getElem?_eq_some_iff.1 Ruu_18).1
  have Lag_19 : Box (w12.heap.size < w18.heap.size) := box (Array.getElem?_eq_some_iff.1 Rag_18).1
  have Rtv_19 := heap_alloc_last w18 (Obj.cells #[.int .u64 (uv : Nat), .int .u64 (vv : Nat)] 25)
  have B19 := btr B18 (bal w18 (Obj.cells #[.int .u64 (uv : Nat), .int .u64 (vv : Nat)] 25))
  have Rr0_19 := heap_of (bal w18 (Obj.cells #[.int .u64 (uv : Nat), .int .u64 (vv : Nat)] 25)) _ _ _ Rr0_18
  have Rlo_19 := heap_of (bal w18 (Obj.cells #[.int .u64 (uv : Nat), .int .u64 (vv : Nat)] 25)) _ _ _ Rlo_18
  have Rr_19 := heap_of (bal w18 (Obj.cells #[.int .u64 (uv : Nat), .int .u64 (vv : Nat)] 25)) _ _ _ Rr_18
  have Rxx_19 := heap_of (bal w18 (Obj.cells #[.int .u64 (uv : Nat), .int .u64 (vv : Nat)] 25)) _ _ _ Rxx_18
  have Ryy_19 := heap_of (bal w18 (Obj.cells #[.int .u64 (uv : Nat), .int .u64 (vv : Nat)] 25)) _ _ _ Ryy_18
  have Ruu_19 := heap_of (bal w18 (Obj.cells #[.int .u64 (uv : Nat), .int .u64 (vv : Nat)] 25)) _ _ _ Ruu_18
  have Rag_19 := heap_of (bal w18 (Obj.cells #[.int .u64 (uv : Nat), .int .u64 (vv : Nat)] 25)) _ _ _ Rag_18
  clear B18 Rr0_18 cr0_18_0 cr0_18_1 Rlo_18 clo_18_0 clo_18_1 Rr_18 cr_18_0 cr_18_1 Rxx_18 cxx_18_0 cxx_18_1 Ryy_18 cyy_18_0 cyy_18_1 Ruu_18 cuu_18_0 cuu_18_1 Rag_18 cag_18_0 cag_18_1
  obtain ⟨cr0_19_0, cr0_19_1⟩ := cells2s Rr0_19
  obtain ⟨clo_19_0, clo_19_1⟩ := cells2s Rlo_19
  obtain ⟨cr_19_0, cr_19_1⟩ := cells2s Rr_19
  obtain ⟨cxx_19_0, cxx_19_1⟩ := cells2s Rxx_19
  obtain ⟨cyy_19_0, cyy_19_1⟩ := cells2s Ryy_19
  obtain ⟨cuu_19_0, cuu_19_1⟩ := cells2s Ruu_19
  obtain ⟨cag_19_0, cag_19_1⟩ := cells2s Rag_19
  obtain ⟨ctv_19_0, ctv_19_1⟩ := cells2s Rtv_19
  clear Rr0_19 cr0_19_0 cr0_19_1
  clear Rlo_19 clo_19_0 clo_19_1
  clear Rr_19 cr_19_0 cr_19_1
  clear Rxx_19 cxx_19_0 cxx_19_1
  clear Ryy_19 cyy_19_0 cyy_19_1
  clear Ruu_19 cuu_19_0 cuu_19_1
  clear Rag_19 cag_19_0 cag_19_1
  go_wp2_with fail
  obtain ⟨gb, hgb⟩ : ∃ b, w18.heap.size = b := ⟨_, rfl⟩
  obtain ⟨V, hV⟩ : ∃ V, w18.alloc (.cells #[.int .u64 (uv : Nat), .int .u64 (vv : Nat)] 25) = V := ⟨_, rfl⟩
  rw [hV] at B19 Rtv_19 ⊢
  rw [hgb] at Rtv_19 ⊢
  go_loopw [23, 24] (fun tv iv wr => ∃ k : Int, wp ≤ k ∧ k ≤ wq ∧ iv = .int .i64 k ∧ tv = .int .i64 (k - wp) ∧ Below w.heap.size w wr ∧ wr.heap[gb]? = some (.cells #[.int .u64 (uv : Nat), .int .u64 (vv : Nat)] 25)) (fun _ iv _ => (128 - intOf iv).toNat)
  case atStart => exact ⟨wp, by omega, by have := hw.out; omega, rfl, by rw [Int.sub_self], B19, Rtv_19⟩
  case round =>
    obtain ⟨k, k1, k2, rfl, rfl, B20, Rtv_20⟩ := hrel
    obtain ⟨w20, hw20⟩ : ∃ w20, w20 = wr := ⟨_, rfl⟩
    subst hw20
    clear B19 Rtv_19
    by_cases hlt : k < wq
    · have dl : decide (k < wq) = true := decide_eq_true hlt
      have KX := box (KT.out k k1 hlt)
      have e5 : wrap64 (k - wp + 1) = k + 1 - wp := by have := hw.out; unfold wrap64; omega
      have e6 : wrap64 (k + 1) = k + 1 := by have := hw.out; unfold wrap64; omega
      obtain ⟨ctv_20_0, ctv_20_1⟩ := cells2s Rtv_20
      go_wp2_with fail
      refine (KX.out _).mono ?_
      rintro r w21 ⟨rfl, b21⟩
      have B21 : Below w.heap.size w w21 := btr B20 b21
      have Rtv_21 := heap_of b21 _ _ _ Rtv_20
      clear b21 B20 Rtv_20 ctv_20_0 ctv_20_1
      obtain ⟨ctv_21_0, ctv_21_1⟩ := cells2s Rtv_21
      go_wp2
      go_roundw
      case rel => exact ⟨k + 1, by omega, by omega, by first | rfl | rw [e6], by first | rw [e5] | rfl, B21, Rtv_21⟩
      case measure => have := hw.out; simp [intOf] <;> omega
    · obtain rfl : k = wq := by omega
      have dl : decide (k < k) = false := decide_eq_false (by omega)
      have e5 : wrap64 (k - wp) = k - wp := by have := hw.out; unfold wrap64; omega
      obtain ⟨ctv_20_0, ctv_20_1⟩ := cells2s Rtv_20
      go_wp2_with fail
      refine (KV.out _ (fatB FF.out B20)).mono ?_
      rintro r w21 ⟨rfl, b21⟩
      have B21 : Below w.heap.size w w21 := btr B20 b21
      have Rtv_21 := heap_of b21 _ _ _ Rtv_20
      clear b21 B20 Rtv_20 ctv_20_0 ctv_20_1
      obtain ⟨ctv_21_0, ctv_21_1⟩ := cells2s Rtv_21
      go_wp2
      go_ret
      exact ⟨rfl, B21⟩
end Go.Proofs.YtakmlgcnfbiagaaDoor
