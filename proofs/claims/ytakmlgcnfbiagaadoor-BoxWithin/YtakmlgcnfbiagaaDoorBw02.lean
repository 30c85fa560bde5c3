/-
  What the functions that the statement reaches return: part 2 (JD, JE, JH).
-/
import Derived.Test.YtakmlgcnfbiagaaDoorBw01
namespace Go.Proofs.YtakmlgcnfbiagaaDoor
set_option maxRecDepth 100000
set_option maxHeartbeats 40000000
set_option maxRecDepth 100000
open Go.RowKit WMath
set_option linter.unusedSimpArgs false
set_option linter.unusedVariables false
theorem ebb_sj (a b : Int) : ebb a b a b = true := by unfold ebb; simp
set_option maxRecDepth 100000 in
set_option maxHeartbeats 8000000 in
theorem r22lives (a5 b5 : Nat) (w : World) (K1 : Box (∀ w, FAt w → Calls Tryd.prog 11 #[.int .u8 2, .agg #[.int .u64 0, .int .u64 15360]] w fun r w' => r = .returned (.tuple #[.agg #[.int .u64 18446744073709551615, .int .u64 18446744073709501440], .int .i64 0]) ∧ Below w.heap.size w w')) (K2 : Box (∀ w, FAt w → Calls Tryd.prog 9 #[.int .u8 2, .agg #[.int .u64 18446744073709551615, .int .u64 18446744073709501440]] w fun r w' => r = .returned (.tuple #[.agg #[.int .u64 0, .int .u64 15360], .int .i64 0]) ∧ Below w.heap.size w w')) (K3 : Box (∀ w, FAt w → Calls Tryd.prog 9 #[.int .u8 0, .agg #[.int .u64 18446744073709551615, .int .u64 18446744073709501440]] w fun r w' => r = .returned (.tuple #[.agg #[.int .u64 0, .int .u64 4294917120], .int .i64 0]) ∧ Below w.heap.size w w')) (K4 : Box (∀ w, FAt w → Calls Tryd.prog 9 #[.int .u8 2, .agg #[.int .u64 0, .int .u64 15360]] w fun r w' => r = .returned (.tuple #[.agg #[.int .u64 0, .int .u64 32256], .int .i64 0]) ∧ Below w.heap.size w w')) (K5 : Box (∀ w, FAt w → Calls Tryd.prog 11 #[.int .u8 2, .agg #[.int .u64 0, .int .u64 65536]] w fun r w' => r = .returned (.tuple #[.agg #[.int .u64 (a5 : Nat), .int .u64 (b5 : Nat)], .int .i64 2]) ∧ Below w.heap.size w w')) (hT : FAt w) : Calls Tryd.prog 14 #[] w fun r w' => r = .returned (.bool true) ∧ Below w.heap.size w w' := by
  have FF := box hT
  clear hT
  have hE := eqb
  have B0 : Below w.heap.size w w := (Below.refl _ _)
  go_enter Tryd.func14, Tryd.ntmps14
  go_wp2_with fail
  refine (K1.out _ (fatB FF.out B0)).mono ?_
  rintro r w1 ⟨rfl, b1⟩
  have B1 : Below w.heap.size w w1 := btr B0 b1
  clear b1 B0 
  have S2 := box B1.size
  have Ra_2 := heap_alloc_last w1 (Obj.cells #[.int .u64 18446744073709551615, .int .u64 18446744073709501440] 25)
  have B2 := btr B1 (bal w1 (Obj.cells #[.int .u64 18446744073709551615, .int .u64 18446744073709501440] 25))
  clear B1 
  obtain ⟨ca_2_0, ca_2_1⟩ := cells2s Ra_2
  go_wp2_with fail
  refine (K2.out _ (fatB FF.out B2)).mono ?_
  rintro r w3 ⟨rfl, b3⟩
  have B3 : Below w.heap.size w w3 := btr B2 b3
  have Ra_3 := heap_of b3 _ _ _ Ra_2
  clear b3 B2 Ra_2 ca_2_0 ca_2_1
  obtain ⟨ca_3_0, ca_3_1⟩ := cells2s Ra_3
  have S4 := box B3.size
  have La_4 : Box (w1.heap.size < w3.heap.size) := box (Array.getElem?_eq_some_iff.1 Ra_3).1
  have Rb_4 := heap_alloc_last w3 (Obj.cells #[.int .u64 0, .int .u64 15360] 25)
  have B4 := btr B3 (bal w3 (Obj.cells #[.int .u64 0, .int .u64 15360] 25))
  have Ra_4 := heap_of (bal w3 (Obj.cells #[.int .u64 0, .int .u64 15360] 25)) _ _ _ Ra_3
  clear B3 Ra_3 ca_3_0 ca_3_1
  obtain ⟨ca_4_0, ca_4_1⟩ := cells2s Ra_4
  obtain ⟨cb_4_0, cb_4_1⟩ := cells2s Rb_4
  go_wp2_with fail
  refine (K3.out _ (fatB FF.out B4)).mono ?_
  rintro r w5 ⟨rfl, b5⟩
  have B5 : Below w.heap.size w w5 := btr B4 b5
  have Ra_5 := heap_of b5 _ _ _ Ra_4
  have Rb_5 := heap_of b5 _ _ _ Rb_4
  clear b5 B4 Ra_4 ca_4_0 ca_4_1 Rb_4 cb_4_0 cb_4_1
  obtain ⟨ca_5_0, ca_5_1⟩ := cells2s Ra_5
  obtain ⟨cb_5_0, cb_5_1⟩ := cells2s Rb_5
  have S6 := box B5.size
  have La_6 : Box (w1.heap.size < w5.heap.size) := box (Array.getElem?_eq_some_iff.1 Ra_5).1
  have Lb_6 : Box (w3.heap.size < w5.heap.size) := box (Array.getElem?_eq_some_iff.1 Rb_5).1
  have Rc_6 := heap_alloc_last w5 (Obj.cells #[.int .u64 0, .int .u64 4294917120] 25)
  have B6 := btr B5 (bal w5 (Obj.cells #[.int .u64 0, .int .u64 4294917120] 25))
  have Ra_6 := heap_of (bal w5 (Obj.cells #[.int .u64 0, .int .u64 4294917120] 25)) _ _ _ Ra_5
  have Rb_6 := heap_of (bal w5 (Obj.cells #[.int .u64 0, .int .u64 4294917120] 25)) _ _ _ Rb_5
  clear B5 Ra_5 ca_5_0 ca_5_1 Rb_5 cb_5_0 cb_5_1
  obtain ⟨ca_6_0, ca_6_1⟩ := cells2s Ra_6
  obtain ⟨cb_6_0, cb_6_1⟩ := cells2s Rb_6
  obtain ⟨cc_6_0, cc_6_1⟩ := cells2s Rc_6
  go_wp2_with fail
  refine (K4.out _ (fatB FF.out B6)).mono ?_
  rintro r w7 ⟨rfl, b7⟩
  have B7 : Below w.heap.size w w7 := btr B6 b7
  have Ra_7 := heap_of b7 _ _ _ Ra_6
  have Rb_7 := heap_of b7 _ _ _ Rb_6
  have Rc_7 := heap_of b7 _ _ _ Rc_6
  clear b7 B6 Ra_6 ca_6_0 ca_6_1 Rb_6 cb_6_0 cb_6_1 Rc_6 cc_6_0 cc_6_1
  obtain ⟨ca_7_0, ca_7_1⟩ := cells2s Ra_7
  obtain ⟨cb_7_0, cb_7_1⟩ := cells2s Rb_7
  obtain ⟨cc_7_0, cc_7_1⟩ := cells2s Rc_7
  have S8 := box B7.size
  have La_8 : Box (w1.heap.size < w7.heap.size) := box (Array.getElem?_eq_some_iff.1 Ra_7).1
  have Lb_8 : Box (w3.heap.size < w7.heap.size) := box (Array.getElem?_eq_some_iff.1 Rb_7).1
  have Lc_8 : Box (w5.heap.size < w7.heap.size) := box (Array.getElem?_eq_some_iff.1 Rc_7).1
  have Rd_8 := heap_alloc_last w7 (Obj.cells #[.int .u64 0, .int .u64 32256] 25)
  have B8 := btr B7 (bal w7 (Obj.cells #[.int .u64 0, .int .u64 32256] 25))
  have Ra_8 := heap_of (bal w7 (Obj.cells #[.int .u64 0, .int .u64 32256] 25)) _ _ _ Ra_7
  have Rb_8 := heap_of (bal w7 (Obj.cells #[.int .u64 0, .int .u64 32256] 25)) _ _ _ Rb_7
  have Rc_8 := heap_of (bal w7 (Obj.cells #[.int .u64 0, .int .u64 32256] 25)) _ _ _ Rc_7
  clear B7 Ra_7 ca_7_0 ca_7_1 Rb_7 cb_7_0 cb_7_1 Rc_7 cc_7_0 cc_7_1
  obtain ⟨ca_8_0, ca_8_1⟩ := cells2s Ra_8
  obtain ⟨cb_8_0, cb_8_1⟩ := cells2s Rb_8
  obtain ⟨cc_8_0, cc_8_1⟩ := cells2s Rc_8
  obtain ⟨cd_8_0, cd_8_1⟩ := cells2s Rd_8
  go_wp2_with fail
  refine (K5.out _ (fatB FF.out B8)).mono ?_
  rintro r w9 ⟨rfl, b9⟩
  have B9 : Below w.heap.size w w9 := btr B8 b9
  have Ra_9 := heap_of b9 _ _ _ Ra_8
  have Rb_9 := heap_of b9 _ _ _ Rb_8
  have Rc_9 := heap_of b9 _ _ _ Rc_8
  have Rd_9 := heap_of b9 _ _ _ Rd_8
  clear b9 B8 Ra_8 ca_8_0 ca_8_1 Rb_8 cb_8_0 cb_8_1 Rc_8 cc_8_0 cc_8_1 Rd_8 cd_8_0 cd_8_1
  obtain ⟨ca_9_0, ca_9_1⟩ := cells2s Ra_9
  obtain ⟨cb_9_0, cb_9_1⟩ := cells2s Rb_9
  obtain ⟨cc_9_0, cc_9_1⟩ := cells2s Rc_9
  obtain ⟨cd_9_0, cd_9_1⟩ := cells2s Rd_9
  have S10 := box B9.size
  have La_10 : Box (w1.heap.size < w9.heap.size) := box (Array.getElem?_eq_some_iff.1 Ra_9).1
  have Lb_10 : Box (w3.heap.size < w9.heap.size) := box (Array.getElem?_eq_some_iff.1 Rb_9).1
  have Lc_10 : Box (w5.heap.size < w9.heap.size) := box (Array.getElem?_eq_some_iff.1 Rc_9).1
  have Ld_10 : Box (w7.heap.size < w9.heap.size) := box (Array.getElem?_eq_some_iff.1 Rd_9).1
  have Rq_10 := heap_alloc_last w9 (Obj.cells #[.int .u64 (a5 : Nat), .int .u64 (b5 : Nat)] 25)
  have B10 := btr B9 (bal w9 (Obj.cells #[.int .u64 (a5 : Nat), .int .u64 (b5 : Nat)] 25))
  have Ra_10 := heap_of (bal w9 (Obj.cells #[.int .u64 (a5 : Nat), .int .u64 (b5 : Nat)] 25)) _ _ _ Ra_9
  have Rb_10 := heap_of (bal w9 (Obj.cells #[.int .u64 (a5 : Nat), .int .u64 (b5 : Nat)] 25)) _ _ _ Rb_9
  have Rc_10 := heap_of (bal w9 (Obj.cells #[.int .u64 (a5 : Nat), .int .u64 (b5 : Nat)] 25)) _ _ _ Rc_9
  have Rd_10 := heap_of (bal w9 (Obj.cells #[.int .u64 (a5 : Nat), .int .u64 (b5 : Nat)] 25)) _ _ _ Rd_9
  clear B9 Ra_9 ca_9_0 ca_9_1 Rb_9 cb_9_0 cb_9_1 Rc_9 cc_9_0 cc_9_1 Rd_9 cd_9_0 cd_9_1
  obtain ⟨ca_10_0, ca_10_1⟩ := cells2s Ra_10
  obtain ⟨cb_10_0, cb_10_1⟩ := cells2s Rb_10
  obtain ⟨cc_10_0, cc_10_1⟩ := cells2s Rc_10
  obtain ⟨cd_10_0, cd_10_1⟩ := cells2s Rd_10
  obtain ⟨cq_10_0, cq_10_1⟩ := cells2s Rq_10
  go_wp2
  go_ret
  exact ⟨rfl, B10⟩
set_option maxRecDepth 100000 in
set_option maxHeartbeats 8000000 in
theorem bw_lt (f g p q wp wq : Int) (hf : f.tmod 4 = p) (hg : g.tmod 4 = q) (hl : decide (wq < wp) = true) (x y u v : Nat) (w : World) (K1 : Box (∀ w, FAt w → Calls Tryd.prog 22 #[.int .u8 p, .agg #[.int .u64 (x : Nat), .int .u64 (y : Nat)], .int .u8 p] w fun r w' => r = .returned (.tuple #[.agg #[.int .u64 (u : Nat), .int .u64 (v : Nat)], .int .i64 0]) ∧ Below w.heap.size w w')) (K2 : Box (∀ w, FAt w → Calls Tryd.prog 9 #[.int .u8 p, .agg #[.int .u64 (x : Nat), .int .u64 (y : Nat)]] w fun r w' => r = .returned (.tuple #[.agg #[.int .u64 (u : Nat), .int .u64 (v : Nat)], .int .i64 0]) ∧ Below w.heap.size w w')) (KD1 : Box (∀ w, Calls Tryd.prog 23 #[.int .u8 q] w fun r w' => r = .returned (.int .i64 wq) ∧ Below w.heap.size w w')) (KD2 : Box (∀ w, Calls Tryd.prog 23 #[.int .u8 p] w fun r w' => r = .returned (.int .i64 wp) ∧ Below w.heap.size w w'))  (KV : Box (∀ w, FAt w → Calls Tryd.prog 14 #[] w fun r w' => r = .returned (.bool true) ∧ Below w.heap.size w w')) (hT : FAt w) : Calls Tryd.prog 6 #[.int .u8 f, .int .u8 g, .agg #[.int .u64 (x : Nat), .int .u64 (y : Nat)]] w fun r w' => r = .returned (.bool true) ∧ Below w.heap.size w w' := by
  have FF := box hT
  clear hT
  have hE := eqb
  have e1 := ebb_sj (u : Nat) (v : Nat)
  obtain ⟨Rr_0, B0⟩ := opn1 w (Obj.cells #[.int .u64 (x : Nat), .int .u64 (y : Nat)] 25)
  go_enter Tryd.func6, Tryd.ntmps6
  obtain ⟨cr_0_0, cr_0_1⟩ := cells2s Rr_0
  go_wp2_with fail
  refine (K1.out _ (fatB FF.out B0)).mono ?_
  rintro r w1 ⟨rfl, b1⟩
  have B1 : Below w.heap.size w w1 := btr B0 b1
  have Rr_1 := heap_of b1 _ _ _ Rr_0
  clear b1 B0 Rr_0 cr_0_0 cr_0_1
  obtain ⟨cr_1_0, cr_1_1⟩ := cells2s Rr_1
  have S2 := box B1.size
  have Lr_2 : Box (w.heap.size < w1.heap.size) := box (Array.getElem?_eq_some_iff.1 Rr_1).1
  have Ra_2 := heap_alloc_last w1 (Obj.cells #[.int .u64 (u : Nat), .int .u64 (v : Nat)] 25)
  have B2 := btr B1 (bal w1 (Obj.cells #[.int .u64 (u : Nat), .int .u64 (v : Nat)] 25))
  have Rr_2 := heap_of (bal w1 (Obj.cells #[.int .u64 (u : Nat), .int .u64 (v : Nat)] 25)) _ _ _ Rr_1
  clear B1 Rr_1 cr_1_0 cr_1_1
  obtain ⟨cr_2_0, cr_2_1⟩ := cells2s Rr_2
  obtain ⟨ca_2_0, ca_2_1⟩ := cells2s Ra_2
  go_wp2_with fail
  refine (K2.out _ (fatB FF.out B2)).mono ?_
  rintro r w3 ⟨rfl, b3⟩
  have B3 : Below w.heap.size w w3 := btr B2 b3
  have Rr_3 := heap_of b3 _ _ _ Rr_2
  have Ra_3 := heap_of b3 _ _ _ Ra_2
  clear b3 B2 Rr_2 cr_2_0 cr_2_1 Ra_2 ca_2_0 ca_2_1
  obtain ⟨cr_3_0, cr_3_1⟩ := cells2s Rr_3
  obtain ⟨ca_3_0, ca_3_1⟩ := cells2s Ra_3
  have S4 := box B3.size
  have Lr_4 : Box (w.heap.size < w3.heap.size) := box (Array.getElem?_eq_some_iff.1 Rr_3).1
  have La_4 : Box (w1.heap.size < w3.heap.size) := box (Array.getElem?_eq_some_iff.1 Ra_3).1
  have Rc_4 := heap_alloc_last w3 (Obj.cells #[.int .u64 (u : Nat), .int .u64 (v : Nat)] 25)
  have B4 := btr B3 (bal w3 (Obj.cells #[.int .u64 (u : Nat), .int .u64 (v : Nat)] 25))
  have Rr_4 := heap_of (bal w3 (Obj.cells #[.int .u64 (u : Nat), .int .u64 (v : Nat)] 25)) _ _ _ Rr_3
  have Ra_4 := heap_of (bal w3 (Obj.cells #[.int .u64 (u : Nat), .int .u64 (v : Nat)] 25)) _ _ _ Ra_3
  clear B3 Rr_3 cr_3_0 cr_3_1 Ra_3 ca_3_0 ca_3_1
  obtain ⟨cr_4_0, cr_4_1⟩ := cells2s Rr_4
  obtain ⟨ca_4_0, ca_4_1⟩ := cells2s Ra_4
  obtain ⟨cc_4_0, cc_4_1⟩ := cells2s Rc_4
  go_wp2_with fail
  refine (KD1.out _).mono ?_
  rintro r w5 ⟨rfl, b5⟩
  have B5 : Below w.heap.size w w5 := btr B4 b5
  have Rr_5 := heap_of b5 _ _ _ Rr_4
  have Ra_5 := heap_of b5 _ _ _ Ra_4
  have Rc_5 := heap_of b5 _ _ _ Rc_4
  clear b5 B4 Rr_4 cr_4_0 cr_4_1 Ra_4 ca_4_0 ca_4_1 Rc_4 cc_4_0 cc_4_1
  obtain ⟨cr_5_0, cr_5_1⟩ := cells2s Rr_5
  obtain ⟨ca_5_0, ca_5_1⟩ := cells2s Ra_5
  obtain ⟨cc_5_0, cc_5_1⟩ := cells2s Rc_5
  go_wp2_with fail
  refine (KD2.out _).mono ?_
  rintro r w6 ⟨rfl, b6⟩
  have B6 : Below w.heap.size w w6 := btr B5 b6
  have Rr_6 := heap_of b6 _ _ _ Rr_5
  have Ra_6 := heap_of b6 _ _ _ Ra_5
  have Rc_6 := heap_of b6 _ _ _ Rc_5
  clear b6 B5 Rr_5 cr_5_0 cr_5_1 Ra_5 ca_5_0 ca_5_1 Rc_5 cc_5_0 cc_5_1
  obtain ⟨cr_6_0, cr_6_1⟩ := cells2s Rr_6
  obtain ⟨ca_6_0, ca_6_1⟩ := cells2s Ra_6
  obtain ⟨cc_6_0, cc_6_1⟩ := cells2s Rc_6
  go_wp2_with fail
  refine (KV.out _ (fatB FF.out B6)).mono ?_
  rintro r w7 ⟨rfl, b7⟩
  have B7 : Below w.heap.size w w7 := btr B6 b7
  have Rr_7 := heap_of b7 _ _ _ Rr_6
  have Ra_7 := heap_of b7 _ _ _ Ra_6
  have Rc_7 := heap_of b7 _ _ _ Rc_6
  clear b7 B6 Rr_6 cr_6_0 cr_6_1 Ra_6 ca_6_0 ca_6_1 Rc_6 cc_6_0 cc_6_1
  obtain ⟨cr_7_0, cr_7_1⟩ := cells2s Rr_7
  obtain ⟨ca_7_0, ca_7_1⟩ := cells2s Ra_7
  obtain ⟨cc_7_0, cc_7_1⟩ := cells2s Rc_7
  go_wp2
  go_ret
  exact ⟨rfl, B7⟩
set_option maxRecDepth 100000 in
set_option maxHeartbeats 8000000 in
theorem bw_nb (f g p q wp wq : Int) (hf : f.tmod 4 = p) (hg : g.tmod 4 = q) (hl : decide (wq < wp) = false) (x y u v : Nat) (w : World) (K1 : Box (∀ w, FAt w → Calls Tryd.prog 22 #[.int .u8 p, .agg #[.int .u64 (x : Nat), .int .u64 (y : Nat)], .int .u8 p] w fun r w' => r = .returned (.tuple #[.agg #[.int .u64 (u : Nat), .int .u64 (v : Nat)], .int .i64 0]) ∧ Below w.heap.size w w')) (K2 : Box (∀ w, FAt w → Calls Tryd.prog 9 #[.int .u8 p, .agg #[.int .u64 (x : Nat), .int .u64 (y : Nat)]] w fun r w' => r = .returned (.tuple #[.agg #[.int .u64 (u : Nat), .int .u64 (v : Nat)], .int .i64 0]) ∧ Below w.heap.size w w')) (KD1 : Box (∀ w, Calls Tryd.prog 23 #[.int .u8 q] w fun r w' => r = .returned (.int .i64 wq) ∧ Below w.heap.size w w')) (KD2 : Box (∀ w, Calls Tryd.prog 23 #[.int .u8 p] w fun r w' => r = .returned (.int .i64 wp) ∧ Below w.heap.size w w')) (KB : Box (∀ w, FAt w → Calls Tryd.prog 12 #[.int .u8 p, .agg #[.int .u64 (x : Nat), .int .u64 (y : Nat)]] w fun r w' => r = .returned (.bool false) ∧ Below w.heap.size w w')) (KV : Box (∀ w, FAt w → Calls Tryd.prog 14 #[] w fun r w' => r = .returned (.bool true) ∧ Below w.heap.size w w')) (hT : FAt w) : Calls Tryd.prog 6 #[.int .u8 f, .int .u8 g, .agg #[.int .u64 (x : Nat), .int .u64 (y : Nat)]] w fun r w' => r = .returned (.bool true) ∧ Below w.heap.size w w' := by
  have FF := box hT
  clear hT
  have hE := eqb
  have e1 := ebb_sj (u : Nat) (v : Nat)
  obtain ⟨Rr_0, B0⟩ := opn1 w (Obj.cells #[.int .u64 (x : Nat), .int .u64 (y : Nat)] 25)
  go_enter Tryd.func6, Tryd.ntmps6
  obtain ⟨cr_0_0, cr_0_1⟩ := cells2s Rr_0
  go_wp2_with fail
  refine (K1.out _ (fatB FF.out B0)).mono ?_
  rintro r w1 ⟨rfl, b1⟩
  have B1 : Below w.heap.size w w1 := btr B0 b1
  have Rr_1 := heap_of b1 _ _ _ Rr_0
  clear b1 B0 Rr_0 cr_0_0 cr_0_1
  obtain ⟨cr_1_0, cr_1_1⟩ := cells2s Rr_1
  have S2 := box B1.size
  have Lr_2 : Box (w.heap.size < w1.heap.size) := box (Array.getElem?_eq_some_iff.1 Rr_1).1
  have Ra_2 := heap_alloc_last w1 (Obj.cells #[.int .u64 (u : Nat), .int .u64 (v : Nat)] 25)
  have B2 := btr B1 (bal w1 (Obj.cells #[.int .u64 (u : Nat), .int .u64 (v : Nat)] 25))
  have Rr_2 := heap_of (bal w1 (Obj.cells #[.int .u64 (u : Nat), .int .u64 (v : Nat)] 25)) _ _ _ Rr_1
  clear B1 Rr_1 cr_1_0 cr_1_1
  obtain ⟨cr_2_0, cr_2_1⟩ := cells2s Rr_2
  obtain ⟨ca_2_0, ca_2_1⟩ := cells2s Ra_2
  go_wp2_with fail
  refine (K2.out _ (fatB FF.out B2)).mono ?_
  rintro r w3 ⟨rfl, b3⟩
  have B3 : Below w.heap.size w w3 := btr B2 b3
  have Rr_3 := heap_of b3 _ _ _ Rr_2
  have Ra_3 := heap_of b3 _ _ _ Ra_2
  clear b3 B2 Rr_2 cr_2_0 cr_2_1 Ra_2 ca_2_0 ca_2_1
  obtain ⟨cr_3_0, cr_3_1⟩ := cells2s Rr_3
  obtain ⟨ca_3_0, ca_3_1⟩ := cells2s Ra_3
  have S4 := box B3.size
  have Lr_4 : Box (w.heap.size < w3.heap.size) := box (Array.getElem?_eq_some_iff.1 Rr_3).1
  have La_4 : Box (w1.heap.size < w3.heap.size) := box (Array.getElem?_eq_some_iff.1 Ra_3).1
  have Rc_4 := heap_alloc_last w3 (Obj.cells #[.int .u64 (u : Nat), .int .u64 (v : Nat)] 25)
  have B4 := btr B3 (bal w3 (Obj.cells #[.int .u64 (u : Nat), .int .u64 (v : Nat)] 25))
  have Rr_4 := heap_of (bal w3 (Obj.cells #[.int .u64 (u : Nat), .int .u64 (v : Nat)] 25)) _ _ _ Rr_3
  have Ra_4 := heap_of (bal w3 (Obj.cells #[.int .u64 (u : Nat), .int .u64 (v : Nat)] 25)) _ _ _ Ra_3
  clear B3 Rr_3 cr_3_0 cr_3_1 Ra_3 ca_3_0 ca_3_1
  obtain ⟨cr_4_0, cr_4_1⟩ := cells2s Rr_4
  obtain ⟨ca_4_0, ca_4_1⟩ := cells2s Ra_4
  obtain ⟨cc_4_0, cc_4_1⟩ := cells2s Rc_4
  go_wp2_with fail
  refine (KD1.out _).mono ?_
  rintro r w5 ⟨rfl, b5⟩
  have B5 : Below w.heap.size w w5 := btr B4 b5
  have Rr_5 := heap_of b5 _ _ _ Rr_4
  have Ra_5 := heap_of b5 _ _ _ Ra_4
  have Rc_5 := heap_of b5 _ _ _ Rc_4
  clear b5 B4 Rr_4 cr_4_0 cr_4_1 Ra_4 ca_4_0 ca_4_1 Rc_4 cc_4_0 cc_4_1
  obtain ⟨cr_5_0, cr_5_1⟩ := cells2s Rr_5
  obtain ⟨ca_5_0, ca_5_1⟩ := cells2s Ra_5
  obtain ⟨cc_5_0, cc_5_1⟩ := cells2s Rc_5
  go_wp2_with fail
  refine (KD2.out _).mono ?_
  rintro r w6 ⟨rfl, b6⟩
  have B6 : Below w.heap.size w w6 := btr B5 b6
  have Rr_6 := heap_of b6 _ _ _ Rr_5
  have Ra_6 := heap_of b6 _ _ _ Ra_5
  have Rc_6 := heap_of b6 _ _ _ Rc_5
  clear b6 B5 Rr_5 cr_5_0 cr_5_1 Ra_5 ca_5_0 ca_5_1 Rc_5 cc_5_0 cc_5_1
  obtain ⟨cr_6_0, cr_6_1⟩ := cells2s Rr_6
  obtain ⟨ca_6_0, ca_6_1⟩ := cells2s Ra_6
  obtain ⟨cc_6_0, cc_6_1⟩ := cells2s Rc_6
  go_wp2_with fail
  refine (KB.out _ (fatB FF.out B6)).mono ?_
  rintro r w7 ⟨rfl, b7⟩
  have B7 : Below w.heap.size w w7 := btr B6 b7
  have Rr_7 := heap_of b7 _ _ _ Rr_6
  have Ra_7 := heap_of b7 _ _ _ Ra_6
  have Rc_7 := heap_of b7 _ _ _ Rc_6
  clear b7 B6 Rr_6 cr_6_0 cr_6_1 Ra_6 ca_6_0 ca_6_1 Rc_6 cc_6_0 cc_6_1
  obtain ⟨cr_7_0, cr_7_1⟩ := cells2s Rr_7
  obtain ⟨ca_7_0, ca_7_1⟩ := cells2s Ra_7
  obtain ⟨cc_7_0, cc_7_1⟩ := cells2s Rc_7
  go_wp2_with fail
  refine (KV.out _ (fatB FF.out B7)).mono ?_
  rintro r w8 ⟨rfl, b8⟩
  have B8 : Below w.heap.size w w8 := btr B7 b8
  have Rr_8 := heap_of b8 _ _ _ Rr_7
  have Ra_8 := heap_of b8 _ _ _ Ra_7
  have Rc_8 := heap_of b8 _ _ _ Rc_7
  clear b8 B7 Rr_7 cr_7_0 cr_7_1 Ra_7 ca_7_0 ca_7_1 Rc_7 cc_7_0 cc_7_1
  obtain ⟨cr_8_0, cr_8_1⟩ := cells2s Rr_8
  obtain ⟨ca_8_0, ca_8_1⟩ := cells2s Ra_8
  obtain ⟨cc_8_0, cc_8_1⟩ := cells2s Rc_8
  go_wp2
  go_ret
  exact ⟨rfl, B8⟩
set_option maxRecDepth 100000 in
set_option maxHeartbeats 8000000 in
theorem bw_y (f g p q wp wq : Int) (hf : f.tmod 4 = p) (hg : g.tmod 4 = q) (hl : decide (wq < wp) = false) (x y u v : Nat) (w : World) (K1 : Box (∀ w, FAt w → Calls Tryd.prog 22 #[.int .u8 p, .agg #[.int .u64 (x : Nat), .int .u64 (y : Nat)], .int .u8 p] w fun r w' => r = .returned (.tuple #[.agg #[.int .u64 (u : Nat), .int .u64 (v : Nat)], .int .i64 0]) ∧ Below w.heap.size w w')) (K2 : Box (∀ w, FAt w → Calls Tryd.prog 9 #[.int .u8 p, .agg #[.int .u64 (x : Nat), .int .u64 (y : Nat)]] w fun r w' => r = .returned (.tuple #[.agg #[.int .u64 (u : Nat), .int .u64 (v : Nat)], .int .i64 0]) ∧ Below w.heap.size w w')) (KD1 : Box (∀ w, Calls Tryd.prog 23 #[.int .u8 q] w fun r w' => r = .returned (.int .i64 wq) ∧ Below w.heap.size w w')) (KD2 : Box (∀ w, Calls Tryd.prog 23 #[.int .u8 p] w fun r w' => r = .returned (.int .i64 wp) ∧ Below w.heap.size w w')) (KB : Box (∀ w, FAt w → Calls Tryd.prog 12 #[.int .u8 p, .agg #[.int .u64 (x : Nat), .int .u64 (y : Nat)]] w fun r w' => r = .returned (.bool true) ∧ Below w.heap.size w w')) (K3 : Box (∀ w, FAt w → Calls Tryd.prog 22 #[.int .u8 q, .agg #[.int .u64 (x : Nat), .int .u64 (y : Nat)], .int .u8 p] w fun r w' => r = .returned (.tuple #[.agg #[.int .u64 (u : Nat), .int .u64 (v : Nat)], .int .i64 0]) ∧ Below w.heap.size w w')) (KV : Box (∀ w, FAt w → Calls Tryd.prog 14 #[] w fun r w' => r = .returned (.bool true) ∧ Below w.heap.size w w')) (hT : FAt w) : Calls Tryd.prog 6 #[.int .u8 f, .int .u8 g, .agg #[.int .u64 (x : Nat), .int .u64 (y : Nat)]] w fun r w' => r = .returned (.bool true) ∧ Below w.heap.size w w' := by
  have FF := box hT
  clear hT
  have hE := eqb
  have e1 := ebb_sj (u : Nat) (v : Nat)
  obtain ⟨Rr_0, B0⟩ := opn1 w (Obj.cells #[.int .u64 (x : Nat), .int .u64 (y : Nat)] 25)
  go_enter Tryd.func6, Tryd.ntmps6
  obtain ⟨cr_0_0, cr_0_1⟩ := cells2s Rr_0
  go_wp2_with fail
  refine (K1.out _ (fatB FF.out B0)).mono ?_
  rintro r w1 ⟨rfl, b1⟩
  have B1 : Below w.heap.size w w1 := btr B0 b1
  have Rr_1 := heap_of b1 _ _ _ Rr_0
  clear b1 B0 Rr_0 cr_0_0 cr_0_1
  obtain ⟨cr_1_0, cr_1_1⟩ := cells2s Rr_1
  have S2 := box B1.size
  have Lr_2 : Box (w.heap.size < w1.heap.size) := box (Array.getElem?_eq_some_iff.1 Rr_1).1
  have Ra_2 := heap_alloc_last w1 (Obj.cells #[.int .u64 (u : Nat), .int .u64 (v : Nat)] 25)
  have B2 := btr B1 (bal w1 (Obj.cells #[.int .u64 (u : Nat), .int .u64 (v : Nat)] 25))
  have Rr_2 := heap_of (bal w1 (Obj.cells #[.int .u64 (u : Nat), .int .u64 (v : Nat)] 25)) _ _ _ Rr_1
  clear B1 Rr_1 cr_1_0 cr_1_1
  obtain ⟨cr_2_0, cr_2_1⟩ := cells2s Rr_2
  obtain ⟨ca_2_0, ca_2_1⟩ := cells2s Ra_2
  go_wp2_with fail
  refine (K2.out _ (fatB FF.out B2)).mono ?_
  rintro r w3 ⟨rfl, b3⟩
  have B3 : Below w.heap.size w w3 := btr B2 b3
  have Rr_3 := heap_of b3 _ _ _ Rr_2
  have Ra_3 := heap_of b3 _ _ _ Ra_2
  clear b3 B2 Rr_2 cr_2_0 cr_2_1 Ra_2 ca_2_0 ca_2_1
  obtain ⟨cr_3_0, cr_3_1⟩ := cells2s Rr_3
  obtain ⟨ca_3_0, ca_3_1⟩ := cells2s Ra_3
  have S4 := box B3.size
  have Lr_4 : Box (w.heap.size < w3.heap.size) := box (Array.getElem?_eq_some_iff.1 Rr_3).1
  have La_4 : Box (w1.heap.size < w3.heap.size) := box (Array.getElem?_eq_some_iff.1 Ra_3).1
  have Rc_4 := heap_alloc_last w3 (Obj.cells #[.int .u64 (u : Nat), .int .u64 (v : Nat)] 25)
  have B4 := btr B3 (bal w3 (Obj.cells #[.int .u64 (u : Nat), .int .u64 (v : Nat)] 25))
  have Rr_4 := heap_of (bal w3 (Obj.cells #[.int .u64 (u : Nat), .int .u64 (v : Nat)] 25)) _ _ _ Rr_3
  have Ra_4 := heap_of (bal w3 (Obj.cells #[.int .u64 (u : Nat), .int .u64 (v : Nat)] 25)) _ _ _ Ra_3
  clear B3 Rr_3 cr_3_0 cr_3_1 Ra_3 ca_3_0 ca_3_1
  obtain ⟨cr_4_0, cr_4_1⟩ := cells2s Rr_4
  obtain ⟨ca_4_0, ca_4_1⟩ := cells2s Ra_4
  obtain ⟨cc_4_0, cc_4_1⟩ := cells2s Rc_4
  go_wp2_with fail
  refine (KD1.out _).mono ?_
  rintro r w5 ⟨rfl, b5⟩
  have B5 : Below w.heap.size w w5 := btr B4 b5
  have Rr_5 := heap_of b5 _ _ _ Rr_4
  have Ra_5 := heap_of b5 _ _ _ Ra_4
  have Rc_5 := heap_of b5 _ _ _ Rc_4
  clear b5 B4 Rr_4 cr_4_0 cr_4_1 Ra_4 ca_4_0 ca_4_1 Rc_4 cc_4_0 cc_4_1
  obtain ⟨cr_5_0, cr_5_1⟩ := cells2s Rr_5
  obtain ⟨ca_5_0, ca_5_1⟩ := cells2s Ra_5
  obtain ⟨cc_5_0, cc_5_1⟩ := cells2s Rc_5
  go_wp2_with fail
  refine (KD2.out _).mono ?_
  rintro r w6 ⟨rfl, b6⟩
  have B6 : Below w.heap.size w w6 := btr B5 b6
  have Rr_6 := heap_of b6 _ _ _ Rr_5
  have Ra_6 := heap_of b6 _ _ _ Ra_5
  have Rc_6 := heap_of b6 _ _ _ Rc_5
  clear b6 B5 Rr_5 cr_5_0 cr_5_1 Ra_5 ca_5_0 ca_5_1 Rc_5 cc_5_0 cc_5_1
  obtain ⟨cr_6_0, cr_6_1⟩ := cells2s Rr_6
  obtain ⟨ca_6_0, ca_6_1⟩ := cells2s Ra_6
  obtain ⟨cc_6_0, cc_6_1⟩ := cells2s Rc_6
  go_wp2_with fail
  refine (KB.out _ (fatB FF.out B6)).mono ?_
  rintro r w7 ⟨rfl, b7⟩
  have B7 : Below w.heap.size w w7 := btr B6 b7
  have Rr_7 := heap_of b7 _ _ _ Rr_6
  have Ra_7 := heap_of b7 _ _ _ Ra_6
  have Rc_7 := heap_of b7 _ _ _ Rc_6
  clear b7 B6 Rr_6 cr_6_0 cr_6_1 Ra_6 ca_6_0 ca_6_1 Rc_6 cc_6_0 cc_6_1
  obtain ⟨cr_7_0, cr_7_1⟩ := cells2s Rr_7
  obtain ⟨ca_7_0, ca_7_1⟩ := cells2s Ra_7
  obtain ⟨cc_7_0, cc_7_1⟩ := cells2s Rc_7
  go_wp2_with fail
  refine (K3.out _ (fatB FF.out B7)).mono ?_
  rintro r w8 ⟨rfl, b8⟩
  have B8 : Below w.heap.size w w8 := btr B7 b8
  have Rr_8 := heap_of b8 _ _ _ Rr_7
  have Ra_8 := heap_of b8 _ _ _ Ra_7
  have Rc_8 := heap_of b8 _ _ _ Rc_7
  clear b8 B7 Rr_7 cr_7_0 cr_7_1 Ra_7 ca_7_0 ca_7_1 Rc_7 cc_7_0 cc_7_1
  obtain ⟨cr_8_0, cr_8_1⟩ := cells2s Rr_8
  obtain ⟨ca_8_0, ca_8_1⟩ := cells2s Ra_8
  obtain ⟨cc_8_0, cc_8_1⟩ := cells2s Rc_8
  have S9 := box B8.size
  have Lr_9 : Box (w.heap.size < w8.heap.size) := box (Array.getElem?_eq_some_iff.1 Rr_8).1
  have La_9 : Box (w1.heap.size < w8.heap.size) := box (Array.getElem?_eq_some_iff.1 Ra_8).1
  have Lc_9 : Box (w3.heap.size < w8.heap.size) := box (Array.getElem?_eq_some_iff.1 Rc_8).1
  have Rd_9 := heap_alloc_last w8 (Obj.cells #[.int .u64 (u : Nat), .int .u64 (v : Nat)] 25)
  have B9 := btr B8 (bal w8 (Obj.cells #[.int .u64 (u : Nat), .int .u64 (v : Nat)] 25))
  have Rr_9 := heap_of (bal w8 (Obj.cells #[.int .u64 (u : Nat), .int .u64 (v : Nat)] 25)) _ _ _ Rr_8
  have Ra_9 := heap_of (bal w8 (Obj.cells #[.int .u64 (u : Nat), .int .u64 (v : Nat)] 25)) _ _ _ Ra_8
  have Rc_9 := heap_of (bal w8 (Obj.cells #[.int .u64 (u : Nat), .int .u64 (v : Nat)] 25)) _ _ _ Rc_8
  clear B8 Rr_8 cr_8_0 cr_8_1 Ra_8 ca_8_0 ca_8_1 Rc_8 cc_8_0 cc_8_1
  obtain ⟨cr_9_0, cr_9_1⟩ := cells2s Rr_9
  obtain ⟨ca_9_0, ca_9_1⟩ := cells2s Ra_9
  obtain ⟨cc_9_0, cc_9_1⟩ := cells2s Rc_9
  obtain ⟨cd_9_0, cd_9_1⟩ := cells2s Rd_9
  go_wp2_with fail
  refine (KV.out _ (fatB FF.out B9)).mono ?_
  rintro r w10 ⟨rfl, b10⟩
  have B10 : Below w.heap.size w w10 := btr B9 b10
  have Rr_10 := heap_of b10 _ _ _ Rr_9
  have Ra_10 := heap_of b10 _ _ _ Ra_9
  have Rc_10 := heap_of b10 _ _ _ Rc_9
  have Rd_10 := heap_of b10 _ _ _ Rd_9
  clear b10 B9 Rr_9 cr_9_0 cr_9_1 Ra_9 ca_9_0 ca_9_1 Rc_9 cc_9_0 cc_9_1 Rd_9 cd_9_0 cd_9_1
  obtain ⟨cr_10_0, cr_10_1⟩ := cells2s Rr_10
  obtain ⟨ca_10_0, ca_10_1⟩ := cells2s Ra_10
  obtain ⟨cc_10_0, cc_10_1⟩ := cells2s Rc_10
  obtain ⟨cd_10_0, cd_10_1⟩ := cells2s Rd_10
  go_wp2
  go_ret
  exact ⟨rfl, B10⟩
end Go.Proofs.YtakmlgcnfbiagaaDoor
namespace Go.Proofs.YtakmlgcnfbiagaaDoor
set_option maxRecDepth 100000
set_option maxHeartbeats 40000000
set_option maxRecDepth 100000
open Go.RowKit WMath
set_option linter.unusedSimpArgs false
set_option linter.unusedVariables false
set_option maxRecDepth 100000 in
set_option maxHeartbeats 8000000 in
theorem l22_w_0 (w : World) : Calls Tryd.prog 23 #[.int .u8 0] w fun r w' => r = .returned (.int .i64 32) ∧ Below w.heap.size w w' := by
  go_enter Tryd.func23, Tryd.ntmps23
  go_wp2
  go_ret
  exact ⟨rfl, (Below.refl _ _).alloc (Nat.le_refl _) _⟩
set_option maxRecDepth 100000 in
set_option maxHeartbeats 8000000 in
theorem l22_w_1 (w : World) : Calls Tryd.prog 23 #[.int .u8 1] w fun r w' => r = .returned (.int .i64 64) ∧ Below w.heap.size w w' := by
  go_enter Tryd.func23, Tryd.ntmps23
  go_wp2
  go_ret
  exact ⟨rfl, (Below.refl _ _).alloc (Nat.le_refl _) _⟩
set_option maxRecDepth 100000 in
set_option maxHeartbeats 8000000 in
theorem l22_w_2 (w : World) : Calls Tryd.prog 23 #[.int .u8 2] w fun r w' => r = .returned (.int .i64 16) ∧ Below w.heap.size w w' := by
  go_enter Tryd.func23, Tryd.ntmps23
  go_wp2
  go_ret
  exact ⟨rfl, (Below.refl _ _).alloc (Nat.le_refl _) _⟩
set_option maxRecDepth 100000 in
set_option maxHeartbeats 8000000 in
theorem l22_w_3 (w : World) : Calls Tryd.prog 23 #[.int .u8 3] w fun r w' => r = .returned (.int .i64 128) ∧ Below w.heap.size w w' := by
  go_enter Tryd.func23, Tryd.ntmps23
  go_wp2
  go_ret
  exact ⟨rfl, (Below.refl _ _).alloc (Nat.le_refl _) _⟩
theorem l22_w (f : Int) (h0 : 0 ≤ f) (h3 : f ≤ 3) (w : World) : Calls Tryd.prog 23 #[.int .u8 f] w fun r w' => r = .returned (.int .i64 ((wdF f : Nat) : Int)) ∧ Below w.heap.size w w' := by
  rcases (by omega : f = 0 ∨ f = 1 ∨ f = 2 ∨ f = 3) with rfl | rfl | rfl | rfl
  · exact l22_w_0 w
  · exact l22_w_1 w
  · exact l22_w_2 w
  · exact l22_w_3 w
theorem box_isN {f : Int} (h0 : 0 ≤ f) (h3 : f ≤ 3) {B : Nat} (hB : B < 2 ^ wdF f) : B + abN f < 2 ^ 128 ∧ (B + abN f) / 2 ^ wdF f = 2 ^ (128 - wdF f) - 1 ∧ (B + abN f) % 2 ^ wdF f = B ∧ isN f (B + abN f) = true := by
  have W := wdF_le f
  have p := Nat.two_pow_pos (wdF f)
  have e : (2 : Nat) ^ 128 = 2 ^ wdF f * 2 ^ (128 - wdF f) := by rw [← Nat.pow_add, show wdF f + (128 - wdF f) = 128 by omega]
  have q := Nat.two_pow_pos (128 - wdF f)
  have a : abN f = 2 ^ wdF f * (2 ^ (128 - wdF f) - 1) := by unfold abN; rw [e, Nat.mul_sub, Nat.mul_one]
  have d : (B + abN f) / 2 ^ wdF f = 2 ^ (128 - wdF f) - 1 := by rw [a, Nat.add_mul_div_left _ _ p, Nat.div_eq_of_lt hB, Nat.zero_add]
  refine ⟨?_, d, ?_, ?_⟩
  · have : 2 ^ wdF f ≤ 2 ^ 128 := Nat.pow_le_pow_right (by decide) W
    unfold abN
    omega
  · rw [a, Nat.add_mul_mod_self_left, Nat.mod_eq_of_lt hB]
  · unfold isN
    exact decide_eq_true ⟨by have := wdF_pos h0 h3; omega, d⟩
theorem is_back {f : Int} (h0 : 0 ≤ f) (h3 : f ≤ 3) {N : Nat} (h : isN f N = true) : N % 2 ^ wdF f + abN f = N := by
  have W := wdF_le f
  have q := (of_decide_eq_true h).2
  have e : (2 : Nat) ^ 128 = 2 ^ wdF f * 2 ^ (128 - wdF f) := by rw [← Nat.pow_add, show wdF f + (128 - wdF f) = 128 by omega]
  have a : abN f = 2 ^ wdF f * (2 ^ (128 - wdF f) - 1) := by unfold abN; rw [e, Nat.mul_sub, Nat.mul_one]
  rw [a, ← q, Nat.add_comm]
  exact Nat.div_add_mod N (2 ^ wdF f)
theorem nan_fit {f : Int} (h0 : 0 ≤ f) (h3 : f ≤ 3) : nanN f < 2 ^ wdF f := by
  rcases (by omega : f = 0 ∨ f = 1 ∨ f = 2 ∨ f = 3) with rfl | rfl | rfl | rfl <;> decide +kernel
theorem ub_fit {f : Int} (h0 : 0 ≤ f) (h3 : f ≤ 3) (N : Nat) : ubN f N < 2 ^ wdF f := by
  unfold ubN
  split
  · exact Nat.mod_lt _ (Nat.two_pow_pos _)
  · exact nan_fit h0 h3
theorem p128 : (2 : Nat) ^ 128 = 340282366920938463463374607431768211456 := rfl
theorem fit128 {f : Int} {n : Nat} (h : n < 2 ^ wdF f) : n < 340282366920938463463374607431768211456 := low_128 h (wdF_le f)
theorem u8_mod {f : Int} (h0 : 0 ≤ f) (h1 : f ≤ 255) : 0 ≤ f.tmod 4 ∧ f.tmod 4 ≤ 3 := by
  rw [Int.tmod_eq_emod_of_nonneg h0]
  omega
theorem wider {f g : Int} (h0 : 0 ≤ f) (h3 : f ≤ 3) (g0 : 0 ≤ g) (g3 : g ≤ 3) (hw : wdF f ≤ wdF g) {N : Nat} (hN : N < 2 ^ 128) (h : isN f N = true) : isN g N = true := by
  have b := (ones_iff hN (wdF_le f)).2 (of_decide_eq_true h).2
  unfold isN
  exact decide_eq_true ⟨by have := wdF_pos g0 g3; omega, (ones_iff hN (wdF_le g)).1 (fun k k1 k2 => b k (by omega) k2)⟩
theorem within_own {f : Int} (h0 : 0 ≤ f) (h3 : f ≤ 3) (N : Nat) : ubN f (ubN f N + abN f) = ubN f N := by
  obtain ⟨_, _, b, c⟩ := box_isN h0 h3 (ub_fit h0 h3 N)
  have : ubN f (ubN f N + abN f) = (ubN f N + abN f) % 2 ^ wdF f := by
    show (if isN f (ubN f N + abN f) = true then _ else _) = _
    rw [if_pos c]
  rw [this, b]
theorem within_wide {f g : Int} (h0 : 0 ≤ f) (h3 : f ≤ 3) (g0 : 0 ≤ g) (g3 : g ≤ 3) (hw : wdF f ≤ wdF g) {N : Nat} (hN : N < 2 ^ 128) (h : isN f N = true) : ubN f (ubN g N + abN g) = ubN f N := by
  have i := wider h0 h3 g0 g3 hw hN h
  have : ubN g N = N % 2 ^ wdF g := by unfold ubN; rw [if_pos i]
  rw [this, is_back g0 g3 i]
theorem boxwithin_all (f g : Int) (h0 : 0 ≤ f) (h1 : f ≤ 255) (g0 : 0 ≤ g) (g1 : g ≤ 255) (x y N : Nat) (hx : x < 18446744073709551616) (hy : y < 18446744073709551616) (hN : y + 18446744073709551616 * x = N) (CU : ∀ (f : Int) (x y N : Nat), 0 ≤ f → f ≤ 3 → x < 18446744073709551616 → y < 18446744073709551616 → y + 18446744073709551616 * x = N → ∀ u v, bv7 (ubN f N) = (u, v) → Box (∀ w, FAt w → Calls Tryd.prog 9 #[.int .u8 f, .agg #[.int .u64 (x : Nat), .int .u64 (y : Nat)]] w fun r w' => r = .returned (.tuple #[.agg #[.int .u64 (u : Nat), .int .u64 (v : Nat)], .int .i64 0]) ∧ Below w.heap.size w w')) (CU0 : ∀ (f : Int) (x y N : Nat), 3 < f → f ≤ 255 → x < 18446744073709551616 → y < 18446744073709551616 → y + 18446744073709551616 * x = N → Box (∀ w, FAt w → Calls Tryd.prog 9 #[.int .u8 f, .agg #[.int .u64 (x : Nat), .int .u64 (y : Nat)]] w fun r w' => r = .returned (.tuple #[.agg #[.int .u64 0, .int .u64 0], .int .i64 2]) ∧ Below w.heap.size w w')) (WI : ∀ (f : Int) (x y N : Nat) (g : Int), 0 ≤ f → f ≤ 3 → 0 ≤ g → g ≤ 3 → x < 18446744073709551616 → y < 18446744073709551616 → y + 18446744073709551616 * x = N → ∀ u v, bv7 (ubN g (ubN f N + abN f)) = (u, v) → Box (∀ w, FAt w → Calls Tryd.prog 22 #[.int .u8 f, .agg #[.int .u64 (x : Nat), .int .u64 (y : Nat)], .int .u8 g] w fun r w' => r = .returned (.tuple #[.agg #[.int .u64 (u : Nat), .int .u64 (v : Nat)], .int .i64 0]) ∧ Below w.heap.size w w')) (CI : ∀ (f : Int) (x y N : Nat), 0 ≤ f → f ≤ 255 → x < 18446744073709551616 → y < 18446744073709551616 → y + 18446744073709551616 * x = N → Box (∀ w, FAt w → Calls Tryd.prog 12 #[.int .u8 f, .agg #[.int .u64 (x : Nat), .int .u64 (y : Nat)]] w fun r w' => r = .returned (.bool (isN f N)) ∧ Below w.heap.size w w')) (KV : Box (∀ w, FAt w → Calls Tryd.prog 14 #[] w fun r w' => r = .returned (.bool true) ∧ Below w.heap.size w w')) (w : World) (hT : FAt w) : Calls Tryd.prog 6 #[.int .u8 f, .int .u8 g, .agg #[.int .u64 (x : Nat), .int .u64 (y : Nat)]] w fun r w' => r = .returned (.bool true) ∧ Below w.heap.size w w' := by
  obtain ⟨p0, p3⟩ := u8_mod h0 h1
  obtain ⟨q0, q3⟩ := u8_mod g0 g1
  have lN := n128 hx hy hN
  obtain ⟨u, v, e⟩ : ∃ u v, bv7 (ubN (f.tmod 4) N) = (u, v) := ⟨_, _, rfl⟩
  have K1 := WI (f.tmod 4) x y N (f.tmod 4) p0 p3 p0 p3 hx hy hN u v (by rw [within_own p0 p3]; exact e)
  have K2 := CU (f.tmod 4) x y N p0 p3 hx hy hN u v e
  have D1 := box (fun w => l22_w (g.tmod 4) q0 q3 w)
  have D2 := box (fun w => l22_w (f.tmod 4) p0 p3 w)
  by_cases c : ((wdF (g.tmod 4) : Nat) : Int) < ((wdF (f.tmod 4) : Nat) : Int)
  · exact bw_lt f g _ _ _ _ rfl rfl (decide_eq_true c) x y u v w K1 K2 D1 D2 KV hT
  · have B := CI (f.tmod 4) x y N p0 (by omega) hx hy hN
    cases o : isN (f.tmod 4) N
    · rw [o] at B
      exact bw_nb f g _ _ _ _ rfl rfl (decide_eq_false c) x y u v w K1 K2 D1 D2 B KV hT
    · rw [o] at B
      exact bw_y f g _ _ _ _ rfl rfl (decide_eq_false c) x y u v w K1 K2 D1 D2 B (WI (g.tmod 4) x y N (f.tmod 4) q0 q3 p0 p3 hx hy hN u v (by rw [within_wide p0 p3 q0 q3 (by omega) lN o]; exact e)) KV hT
theorem ebb_is (a b c d : Nat) : ebb (a : Nat) (b : Nat) (c : Nat) (d : Nat) = decide (a = c ∧ b = d) := by
  unfold ebb
  rw [Bool.eq_iff_iff]
  simp
  omega
end Go.Proofs.YtakmlgcnfbiagaaDoor
namespace Go.Proofs.YtakmlgcnfbiagaaDoor
set_option maxRecDepth 100000
set_option maxHeartbeats 40000000
set_option maxRecDepth 100000
open Go.RowKit WMath
set_option linter.unusedSimpArgs false
set_option linter.unusedVariables false
theorem lives22_all (CU : ∀ (f : Int) (x y N : Nat), 0 ≤ f → f ≤ 3 → x < 18446744073709551616 → y < 18446744073709551616 → y + 18446744073709551616 * x = N → ∀ u v, bv7 (ubN f N) = (u, v) → Box (∀ w, FAt w → Calls Tryd.prog 9 #[.int .u8 f, .agg #[.int .u64 (x : Nat), .int .u64 (y : Nat)]] w fun r w' => r = .returned (.tuple #[.agg #[.int .u64 (u : Nat), .int .u64 (v : Nat)], .int .i64 0]) ∧ Below w.heap.size w w')) (CU0 : ∀ (f : Int) (x y N : Nat), 3 < f → f ≤ 255 → x < 18446744073709551616 → y < 18446744073709551616 → y + 18446744073709551616 * x = N → Box (∀ w, FAt w → Calls Tryd.prog 9 #[.int .u8 f, .agg #[.int .u64 (x : Nat), .int .u64 (y : Nat)]] w fun r w' => r = .returned (.tuple #[.agg #[.int .u64 0, .int .u64 0], .int .i64 2]) ∧ Below w.heap.size w w')) (CB : ∀ (f : Int) (x y N : Nat), 0 ≤ f → f ≤ 3 → x < 18446744073709551616 → y < 18446744073709551616 → y + 18446744073709551616 * x = N → N < 2 ^ wdF f → ∀ u v, bv7 (N + abN f) = (u, v) → Box (∀ w, FAt w → Calls Tryd.prog 11 #[.int .u8 f, .agg #[.int .u64 (x : Nat), .int .u64 (y : Nat)]] w fun r w' => r = .returned (.tuple #[.agg #[.int .u64 (u : Nat), .int .u64 (v : Nat)], .int .i64 0]) ∧ Below w.heap.size w w')) (CB0 : ∀ (f : Int) (x y N : Nat), 0 ≤ f → f ≤ 255 → x < 18446744073709551616 → y < 18446744073709551616 → y + 18446744073709551616 * x = N → fitN f N = false → Box (∀ w, FAt w → Calls Tryd.prog 11 #[.int .u8 f, .agg #[.int .u64 (x : Nat), .int .u64 (y : Nat)]] w fun r w' => r = .returned (.tuple #[.agg #[.int .u64 0, .int .u64 0], .int .i64 2]) ∧ Below w.heap.size w w')) (w : World) (hT : FAt w) : Calls Tryd.prog 14 #[] w fun r w' => r = .returned (.bool true) ∧ Below w.heap.size w w' := by
  have K1 := CB 2 0 15360 15360 (by decide) (by decide) (by decide) (by decide) (by decide) (by decide +kernel) 18446744073709551615 18446744073709501440 (by decide +kernel)
  have K2 := CU 2 18446744073709551615 18446744073709501440 340282366920938463463374607431768161280 (by decide) (by decide) (by decide) (by decide) (by decide) 0 15360 (by decide +kernel)
  have K3 := CU 0 18446744073709551615 18446744073709501440 340282366920938463463374607431768161280 (by decide) (by decide) (by decide) (by decide) (by decide) 0 4294917120 (by decide +kernel)
  have K4 := CU 2 0 15360 15360 (by decide) (by decide) (by decide) (by decide) (by decide) 0 32256 (by decide +kernel)
  have K5 := CB0 2 0 65536 65536 (by decide) (by decide) (by decide) (by decide) (by decide) (by decide +kernel)
  exact r22lives 0 0 w K1 K2 K3 K4 K5 hT
end Go.Proofs.YtakmlgcnfbiagaaDoor
