/-
  What the functions that the statement reaches return: part 22 (R15, SL, VL).
-/
import Derived.Test.YtbmhfcppaajgbaaGreatDoorRows
import Derived.OpenShut
import Derived.LaidMore
import Derived.Lib.LaidTab
import Derived.Stop.Joined
import Derived.Stop.LaidErr
import Derived.Test.YtbmhfcppaajgbaaGreatDoorRd21
namespace Go.Proofs.YtbmhfcppaajgbaaGreatDoor
set_option maxRecDepth 100000
open Go.RowKit WMath XMath
set_option linter.unusedSimpArgs false
set_option linter.unusedVariables false

theorem bytes_any (L X : Nat) : ∃ v : ByteArray, v.size = L ∧ ∀ (j : Nat) (h : j < v.size), (v[j]'h).toNat = d8 X j := by
  refine ⟨⟨Array.ofFn (fun j : Fin L => UInt8.ofNat (d8 X j))⟩, Array.size_ofFn, fun j h => ?_⟩
  show ((Array.ofFn (fun j : Fin L => UInt8.ofNat (d8 X j)))[j]'h).toNat = d8 X j
  rw [Array.getElem_ofFn]
  have := d8_lt X j
  simp [UInt8.toNat_ofNat']
  omega
set_option maxRecDepth 100000 in
set_option maxHeartbeats 4000000 in
theorem r9long_f_f (f m : Int) (L K Y0 Y1 : Nat) (v : ByteArray) (i j : Nat) (fl c : Int) (w : World) (hL : L = K + 1) (hI : (8192 : Int) = (L : Int)) (L0 : K ≠ 0) (L9 : L ≤ 100000)
    (hs1 : (c8 L 0).setIfInBounds 0 (.int .u8 1) = c8 L Y0) (hs2 : (c8 L Y0).setIfInBounds K (.int .u8 1) = c8 L Y1) (hv1 : v.size = L) (hv2 : Box (∀ (j : Nat) (h : j < v.size), (v[j]'h).toNat = d8 Y1 j))
    (KR : Box (∀ w, FAt w → TabAt w → Calls Tryz.prog 22 #[.int .u8 f, .int .u8 m, .agg #[.bool false, .string v, .string ⟨#[1]⟩, .int .i64 0]] w fun r w' => r = .returned (.tuple #[.agg #[.int .u64 (i : Nat), .int .u64 (j : Nat)], .int .u8 fl, .int .i64 c]) ∧ Below w.heap.size w w'))
    (KQ : Box (∀ w, Calls Tryz.prog 23 #[.int .u8 f, .int .u8 m, .agg #[.bool false, .string v, .string ⟨#[1]⟩, .int .i64 0]] w fun r w' => r = .returned (.tuple #[.agg #[.int .u64 (i : Nat), .int .u64 (j : Nat)], .int .u8 fl, .int .i64 c]) ∧ Below w.heap.size w w'))
    (KA : Box (∀ w, FAt w → TabAt w → Calls Tryz.prog 21 #[] w fun r w' => r = .returned (.bool true) ∧ Below w.heap.size w w')) (wc : IntKind.i64.wrap c = c)
    (hT : FAt w) (hT2 : TabAt w) : Calls Tryz.prog 7 #[.int .u8 f, .int .u8 m, .bool false, .bool false] w fun r w' => r = .returned (.bool true) ∧ Below w.heap.size w w' := by
  have FF := box hT
  have TT := box hT2
  clear hT hT2
  have hmk := fun w => c8_makeI L 8192 hI (by omega) w
  have kw : IntKind.i64.wrap ((L : Int) - 1) = (K : Int) := by rw [wrap_i64_is _ (by omega) (by omega)]; omega
  have kw2 : (L : Int) - 1 = (K : Int) := by omega
  have kw3 : wrap64 (K : Int) = (K : Int) := by unfold wrap64; omega
  have kl : K < L := by omega
  have l0 : 0 < L := by omega
  clear hL hI L0 L9
  obtain ⟨Rn_0, Rx_0, B0⟩ := opn2 w (Obj.cells (c8 L Y1) 5) (Obj.cells #[.bool false, .string v, .string ⟨#[1]⟩, .int .i64 0] 41)
  go_enter Tryz.func7, Tryz.ntmps7
  have r0 := heap_alloc_last w (Obj.cells (c8 L 0) 5)
  have r1 := heap_alloc_last w (Obj.cells (c8 L Y0) 5)
  have r2 := heap_alloc_last w (Obj.cells (c8 L Y1) 5)
  have q0 := c8_cell r0 l0
  have f0 := fz (k := 0) r0
  have q1 := c8_cell r1 kl
  have f1 := fz (k := K) r1
  have hst := c8_strN (c := L) v r2 hv1 hv2.out
  clear r0 r1 r2
  go_wp2_with fail
  refine (KR.out _ (fatB FF.out B0) (tabB TT.out B0)).mono ?_
  rintro r w1 ⟨rfl, b1⟩
  have B1 : Below w.heap.size w w1 := btr B0 b1
  have Rn_1 := heap_of b1 _ _ _ Rn_0
  have Rx_1 := heap_of b1 _ _ _ Rx_0
  clear b1 B0 Rn_0 Rx_0
  obtain ⟨cx_1_0, cx_1_1, cx_1_2, cx_1_3⟩ := cells4s Rx_1
  have S2 := box B1.size
  have Ln_2 : Box (w.heap.size < w1.heap.size) := box (Array.getElem?_eq_some_iff.1 Rn_1).1
  have Lx_2 : Box (w.heap.size + 1 < w1.heap.size) := box (Array.getElem?_eq_some_iff.1 Rx_1).1
  have Rb_2 := heap_alloc_last w1 (Obj.cells #[.int .u64 (i : Nat), .int .u64 (j : Nat)] 25)
  have B2 := btr B1 (bal w1 (Obj.cells #[.int .u64 (i : Nat), .int .u64 (j : Nat)] 25))
  have Rn_2 := heap_of (bal w1 (Obj.cells #[.int .u64 (i : Nat), .int .u64 (j : Nat)] 25)) _ _ _ Rn_1
  have Rx_2 := heap_of (bal w1 (Obj.cells #[.int .u64 (i : Nat), .int .u64 (j : Nat)] 25)) _ _ _ Rx_1
  clear B1 Rn_1 Rx_1 cx_1_0 cx_1_1 cx_1_2 cx_1_3
  obtain ⟨cx_2_0, cx_2_1, cx_2_2, cx_2_3⟩ := cells4s Rx_2
  obtain ⟨cb_2_0, cb_2_1⟩ := cells2s Rb_2
  go_wp2_with fail
  refine (KQ.out _).mono ?_
  rintro r w3 ⟨rfl, b3⟩
  have B3 : Below w.heap.size w w3 := btr B2 b3
  have Rn_3 := heap_of b3 _ _ _ Rn_2
  have Rx_3 := heap_of b3 _ _ _ Rx_2
  have Rb_3 := heap_of b3 _ _ _ Rb_2
  clear b3 B2 Rn_2 Rx_2 cx_2_0 cx_2_1 cx_2_2 cx_2_3 Rb_2 cb_2_0 cb_2_1
  obtain ⟨cx_3_0, cx_3_1, cx_3_2, cx_3_3⟩ := cells4s Rx_3
  obtain ⟨cb_3_0, cb_3_1⟩ := cells2s Rb_3
  have S4 := box B3.size
  have Ln_4 : Box (w.heap.size < w3.heap.size) := box (Array.getElem?_eq_some_iff.1 Rn_3).1
  have Lx_4 : Box (w.heap.size + 1 < w3.heap.size) := box (Array.getElem?_eq_some_iff.1 Rx_3).1
  have Lb_4 : Box (w1.heap.size < w3.heap.size) := box (Array.getElem?_eq_some_iff.1 Rb_3).1
  have Rc_4 := heap_alloc_last w3 (Obj.cells #[.int .u64 (i : Nat), .int .u64 (j : Nat)] 25)
  have B4 := btr B3 (bal w3 (Obj.cells #[.int .u64 (i : Nat), .int .u64 (j : Nat)] 25))
  have Rn_4 := heap_of (bal w3 (Obj.cells #[.int .u64 (i : Nat), .int .u64 (j : Nat)] 25)) _ _ _ Rn_3
  have Rx_4 := heap_of (bal w3 (Obj.cells #[.int .u64 (i : Nat), .int .u64 (j : Nat)] 25)) _ _ _ Rx_3
  have Rb_4 := heap_of (bal w3 (Obj.cells #[.int .u64 (i : Nat), .int .u64 (j : Nat)] 25)) _ _ _ Rb_3
  clear B3 Rn_3 Rx_3 cx_3_0 cx_3_1 cx_3_2 cx_3_3 Rb_3 cb_3_0 cb_3_1
  obtain ⟨cx_4_0, cx_4_1, cx_4_2, cx_4_3⟩ := cells4s Rx_4
  obtain ⟨cb_4_0, cb_4_1⟩ := cells2s Rb_4
  obtain ⟨cc_4_0, cc_4_1⟩ := cells2s Rc_4
  go_wp2_with fail
  refine (KA.out _ (fatB FF.out B4) (tabB TT.out B4)).mono ?_
  rintro r w5 ⟨rfl, b5⟩
  have B5 : Below w.heap.size w w5 := btr B4 b5
  have Rn_5 := heap_of b5 _ _ _ Rn_4
  have Rx_5 := heap_of b5 _ _ _ Rx_4
  have Rb_5 := heap_of b5 _ _ _ Rb_4
  have Rc_5 := heap_of b5 _ _ _ Rc_4
  clear b5 B4 Rn_4 Rx_4 cx_4_0 cx_4_1 cx_4_2 cx_4_3 Rb_4 cb_4_0 cb_4_1 Rc_4 cc_4_0 cc_4_1
  obtain ⟨cx_5_0, cx_5_1, cx_5_2, cx_5_3⟩ := cells4s Rx_5
  obtain ⟨cb_5_0, cb_5_1⟩ := cells2s Rb_5
  obtain ⟨cc_5_0, cc_5_1⟩ := cells2s Rc_5
  go_wp2
  go_ret
  exact ⟨rfl, B5⟩
set_option maxRecDepth 100000 in
set_option maxHeartbeats 4000000 in
theorem r9long_f_t (f m : Int) (L K Y0 Y1 : Nat) (v : ByteArray) (i j : Nat) (fl c : Int) (w : World) (hL : L = K + 1) (hI : (8192 : Int) = (L : Int)) (L0 : K ≠ 0) (L9 : L ≤ 100000)
    (hs1 : (c8 L 0).setIfInBounds 0 (.int .u8 1) = c8 L Y0) (hs2 : (c8 L Y0).setIfInBounds K (.int .u8 1) = c8 L Y1) (hv1 : v.size = L) (hv2 : Box (∀ (j : Nat) (h : j < v.size), (v[j]'h).toNat = d8 Y1 j))
    (KR : Box (∀ w, FAt w → TabAt w → Calls Tryz.prog 24 #[.int .u8 f, .int .u8 m, .agg #[.bool false, .string v, .string ⟨#[1]⟩, .int .i64 0]] w fun r w' => r = .returned (.tuple #[.agg #[.int .u64 (i : Nat), .int .u64 (j : Nat)], .int .u8 fl, .int .i64 c]) ∧ Below w.heap.size w w'))
    (KQ : Box (∀ w, Calls Tryz.prog 25 #[.int .u8 f, .int .u8 m, .agg #[.bool false, .string v, .string ⟨#[1]⟩, .int .i64 0]] w fun r w' => r = .returned (.tuple #[.agg #[.int .u64 (i : Nat), .int .u64 (j : Nat)], .int .u8 fl, .int .i64 c]) ∧ Below w.heap.size w w'))
    (KA : Box (∀ w, FAt w → TabAt w → Calls Tryz.prog 21 #[] w fun r w' => r = .returned (.bool true) ∧ Below w.heap.size w w')) (wc : IntKind.i64.wrap c = c)
    (hT : FAt w) (hT2 : TabAt w) : Calls Tryz.prog 7 #[.int .u8 f, .int .u8 m, .bool false, .bool true] w fun r w' => r = .returned (.bool true) ∧ Below w.heap.size w w' := by
  have FF := box hT
  have TT := box hT2
  clear hT hT2
  have hmk := fun w => c8_makeI L 8192 hI (by omega) w
  have kw : IntKind.i64.wrap ((L : Int) - 1) = (K : Int) := by rw [wrap_i64_is _ (by omega) (by omega)]; omega
  have kw2 : (L : Int) - 1 = (K : Int) := by omega
  have kw3 : wrap64 (K : Int) = (K : Int) := by unfold wrap64; omega
  have kl : K < L := by omega
  have l0 : 0 < L := by omega
  clear hL hI L0 L9
  obtain ⟨Rn_0, Rx_0, B0⟩ := opn2 w (Obj.cells (c8 L Y1) 5) (Obj.cells #[.bool false, .string v, .string ⟨#[1]⟩, .int .i64 0] 41)
  go_enter Tryz.func7, Tryz.ntmps7
  have r0 := heap_alloc_last w (Obj.cells (c8 L 0) 5)
  have r1 := heap_alloc_last w (Obj.cells (c8 L Y0) 5)
  have r2 := heap_alloc_last w (Obj.cells (c8 L Y1) 5)
  have q0 := c8_cell r0 l0
  have f0 := fz (k := 0) r0
  have q1 := c8_cell r1 kl
  have f1 := fz (k := K) r1
  have hst := c8_strN (c := L) v r2 hv1 hv2.out
  clear r0 r1 r2
  go_wp2_with fail
  refine (KR.out _ (fatB FF.out B0) (tabB TT.out B0)).mono ?_
  rintro r w1 ⟨rfl, b1⟩
  have B1 : Below w.heap.size w w1 := btr B0 b1
  have Rn_1 := heap_of b1 _ _ _ Rn_0
  have Rx_1 := heap_of b1 _ _ _ Rx_0
  clear b1 B0 Rn_0 Rx_0
  obtain ⟨cx_1_0, cx_1_1, cx_1_2, cx_1_3⟩ := cells4s Rx_1
  have S2 := box B1.size
  have Ln_2 : Box (w.heap.size < w1.heap.size) := box (Array.getElem?_eq_some_iff.1 Rn_1).1
  have Lx_2 : Box (w.heap.size + 1 < w1.heap.size) := box (Array.getElem?_eq_some_iff.1 Rx_1).1
  have Rb_2 := heap_alloc_last w1 (Obj.cells #[.int .u64 (i : Nat), .int .u64 (j : Nat)] 25)
  have B2 := btr B1 (bal w1 (Obj.cells #[.int .u64 (i : Nat), .int .u64 (j : Nat)] 25))
  have Rn_2 := heap_of (bal w1 (Obj.cells #[.int .u64 (i : Nat), .int .u64 (j : Nat)] 25)) _ _ _ Rn_1
  have Rx_2 := heap_of (bal w1 (Obj.cells #[.int .u64 (i : Nat), .int .u64 (j : Nat)] 25)) _ _ _ Rx_1
  clear B1 Rn_1 Rx_1 cx_1_0 cx_1_1 cx_1_2 cx_1_3
  obtain ⟨cx_2_0, cx_2_1, cx_2_2, cx_2_3⟩ := cells4s Rx_2
  obtain ⟨cb_2_0, cb_2_1⟩ := cells2s Rb_2
  go_wp2_with fail
  refine (KQ.out _).mono ?_
  rintro r w3 ⟨rfl, b3⟩
  have B3 : Below w.heap.size w w3 := btr B2 b3
  have Rn_3 := heap_of b3 _ _ _ Rn_2
  have Rx_3 := heap_of b3 _ _ _ Rx_2
  have Rb_3 := heap_of b3 _ _ _ Rb_2
  clear b3 B2 Rn_2 Rx_2 cx_2_0 cx_2_1 cx_2_2 cx_2_3 Rb_2 cb_2_0 cb_2_1
  obtain ⟨cx_3_0, cx_3_1, cx_3_2, cx_3_3⟩ := cells4s Rx_3
  obtain ⟨cb_3_0, cb_3_1⟩ := cells2s Rb_3
  have S4 := box B3.size
  have Ln_4 : Box (w.heap.size < w3.heap.size) := box (Array.getElem?_eq_some_iff.1 Rn_3).1
  have Lx_4 : Box (w.heap.size + 1 < w3.heap.size) := box (Array.getElem?_eq_some_iff.1 Rx_3).1
  have Lb_4 : Box (w1.heap.size < w3.heap.size) := box (Array.getElem?_eq_some_iff.1 Rb_3).1
  have Rc_4 := heap_alloc_last w3 (Obj.cells #[.int .u64 (i : Nat), .int .u64 (j : Nat)] 25)
  have B4 := btr B3 (bal w3 (Obj.cells #[.int .u64 (i : Nat), .int .u64 (j : Nat)] 25))
  have Rn_4 := heap_of (bal w3 (Obj.cells #[.int .u64 (i : Nat), .int .u64 (j : Nat)] 25)) _ _ _ Rn_3
  have Rx_4 := heap_of (bal w3 (Obj.cells #[.int .u64 (i : Nat), .int .u64 (j : Nat)] 25)) _ _ _ Rx_3
  have Rb_4 := heap_of (bal w3 (Obj.cells #[.int .u64 (i : Nat), .int .u64 (j : Nat)] 25)) _ _ _ Rb_3
  clear B3 Rn_3 Rx_3 cx_3_0 cx_3_1 cx_3_2 cx_3_3 Rb_3 cb_3_0 cb_3_1
  obtain ⟨cx_4_0, cx_4_1, cx_4_2, cx_4_3⟩ := cells4s Rx_4
  obtain ⟨cb_4_0, cb_4_1⟩ := cells2s Rb_4
  obtain ⟨cc_4_0, cc_4_1⟩ := cells2s Rc_4
  go_wp2_with fail
  refine (KA.out _ (fatB FF.out B4) (tabB TT.out B4)).mono ?_
  rintro r w5 ⟨rfl, b5⟩
  have B5 : Below w.heap.size w w5 := btr B4 b5
  have Rn_5 := heap_of b5 _ _ _ Rn_4
  have Rx_5 := heap_of b5 _ _ _ Rx_4
  have Rb_5 := heap_of b5 _ _ _ Rb_4
  have Rc_5 := heap_of b5 _ _ _ Rc_4
  clear b5 B4 Rn_4 Rx_4 cx_4_0 cx_4_1 cx_4_2 cx_4_3 Rb_4 cb_4_0 cb_4_1 Rc_4 cc_4_0 cc_4_1
  obtain ⟨cx_5_0, cx_5_1, cx_5_2, cx_5_3⟩ := cells4s Rx_5
  obtain ⟨cb_5_0, cb_5_1⟩ := cells2s Rb_5
  obtain ⟨cc_5_0, cc_5_1⟩ := cells2s Rc_5
  go_wp2
  go_ret
  exact ⟨rfl, B5⟩
set_option maxRecDepth 100000 in
set_option maxHeartbeats 4000000 in
theorem r9long_t_f (f m : Int) (P L K Y0 Y1 : Nat) (v : ByteArray) (i j : Nat) (fl c : Int) (w : World) (hL : L = K + 1) (hP : (8192 : Int) = (P : Int)) (hI : (8193 : Int) = (L : Int)) (L0 : K ≠ 0) (L9 : L ≤ 100000)
    (hs1 : (c8 L 0).setIfInBounds 0 (.int .u8 1) = c8 L Y0) (hs2 : (c8 L Y0).setIfInBounds K (.int .u8 1) = c8 L Y1) (hv1 : v.size = L) (hv2 : Box (∀ (j : Nat) (h : j < v.size), (v[j]'h).toNat = d8 Y1 j))
    (KR : Box (∀ w, FAt w → TabAt w → Calls Tryz.prog 22 #[.int .u8 f, .int .u8 m, .agg #[.bool false, .string v, .string ⟨#[1]⟩, .int .i64 0]] w fun r w' => r = .returned (.tuple #[.agg #[.int .u64 (i : Nat), .int .u64 (j : Nat)], .int .u8 fl, .int .i64 c]) ∧ Below w.heap.size w w'))
    (KQ : Box (∀ w, Calls Tryz.prog 23 #[.int .u8 f, .int .u8 m, .agg #[.bool false, .string v, .string ⟨#[1]⟩, .int .i64 0]] w fun r w' => r = .returned (.tuple #[.agg #[.int .u64 (i : Nat), .int .u64 (j : Nat)], .int .u8 fl, .int .i64 c]) ∧ Below w.heap.size w w'))
    (KA : Box (∀ w, FAt w → TabAt w → Calls Tryz.prog 21 #[] w fun r w' => r = .returned (.bool true) ∧ Below w.heap.size w w')) (wc : IntKind.i64.wrap c = c)
    (hT : FAt w) (hT2 : TabAt w) : Calls Tryz.prog 7 #[.int .u8 f, .int .u8 m, .bool true, .bool false] w fun r w' => r = .returned (.bool true) ∧ Below w.heap.size w w' := by
  have FF := box hT
  have TT := box hT2
  clear hT hT2
  have hmp := fun w => c8_makeI P 8192 hP (by omega) w
  have hmk := fun w => c8_makeI L 8193 hI (by omega) w
  have kw : IntKind.i64.wrap ((L : Int) - 1) = (K : Int) := by rw [wrap_i64_is _ (by omega) (by omega)]; omega
  have kw2 : (L : Int) - 1 = (K : Int) := by omega
  have kw3 : wrap64 (K : Int) = (K : Int) := by unfold wrap64; omega
  have kl : K < L := by omega
  have l0 : 0 < L := by omega
  clear hL hI L0 L9 hP
  obtain ⟨Rp_0, Rn_0, Rx_0, B0⟩ := opn3 w (Obj.cells (c8 P 0) 5) (Obj.cells (c8 L Y1) 5) (Obj.cells #[.bool false, .string v, .string ⟨#[1]⟩, .int .i64 0] 41)
  go_enter Tryz.func7, Tryz.ntmps7
  have r0 := heap_alloc_last (w.alloc (Obj.cells (c8 P 0) 5)) (Obj.cells (c8 L 0) 5)
  have r1 := heap_alloc_last (w.alloc (Obj.cells (c8 P 0) 5)) (Obj.cells (c8 L Y0) 5)
  have r2 := heap_alloc_last (w.alloc (Obj.cells (c8 P 0) 5)) (Obj.cells (c8 L Y1) 5)
  simp only [size_al] at r0 r1 r2
  have q0 := c8_cell r0 l0
  have f0 := fz (k := 0) r0
  have q1 := c8_cell r1 kl
  have f1 := fz (k := K) r1
  have hst := c8_strN (c := L) v r2 hv1 hv2.out
  clear r0 r1 r2
  go_wp2_with fail
  refine (KR.out _ (fatB FF.out B0) (tabB TT.out B0)).mono ?_
  rintro r w1 ⟨rfl, b1⟩
  have B1 : Below w.heap.size w w1 := btr B0 b1
  have Rp_1 := heap_of b1 _ _ _ Rp_0
  have Rn_1 := heap_of b1 _ _ _ Rn_0
  have Rx_1 := heap_of b1 _ _ _ Rx_0
  clear b1 B0 Rp_0 Rn_0 Rx_0
  obtain ⟨cx_1_0, cx_1_1, cx_1_2, cx_1_3⟩ := cells4s Rx_1
  have S2 := box B1.size
  have Lp_2 : Box (w.heap.size < w1.heap.size) := box (Array.getElem?_eq_some_iff.1 Rp_1).1
  have Ln_2 : Box (w.heap.size + 1 < w1.heap.size) := box (Array.getElem?_eq_some_iff.1 Rn_1).1
  have Lx_2 : Box (w.heap.size + 1 + 1 < w1.heap.size) := box (Array.getElem?_eq_some_iff.1 Rx_1).1
  have Rb_2 := heap_alloc_last w1 (Obj.cells #[.int .u64 (i : Nat), .int .u64 (j : Nat)] 25)
  have B2 := btr B1 (bal w1 (Obj.cells #[.int .u64 (i : Nat), .int .u64 (j : Nat)] 25))
  have Rp_2 := heap_of (bal w1 (Obj.cells #[.int .u64 (i : Nat), .int .u64 (j : Nat)] 25)) _ _ _ Rp_1
  have Rn_2 := heap_of (bal w1 (Obj.cells #[.int .u64 (i : Nat), .int .u64 (j : Nat)] 25)) _ _ _ Rn_1
  have Rx_2 := heap_of (bal w1 (Obj.cells #[.int .u64 (i : Nat), .int .u64 (j : Nat)] 25)) _ _ _ Rx_1
  clear B1 Rp_1 Rn_1 Rx_1 cx_1_0 cx_1_1 cx_1_2 cx_1_3
  obtain ⟨cx_2_0, cx_2_1, cx_2_2, cx_2_3⟩ := cells4s Rx_2
  obtain ⟨cb_2_0, cb_2_1⟩ := cells2s Rb_2
  go_wp2_with fail
  refine (KQ.out _).mono ?_
  rintro r w3 ⟨rfl, b3⟩
  have B3 : Below w.heap.size w w3 := btr B2 b3
  have Rp_3 := heap_of b3 _ _ _ Rp_2
  have Rn_3 := heap_of b3 _ _ _ Rn_2
  have Rx_3 := heap_of b3 _ _ _ Rx_2
  have Rb_3 := heap_of b3 _ _ _ Rb_2
  clear b3 B2 Rp_2 Rn_2 Rx_2 cx_2_0 cx_2_1 cx_2_2 cx_2_3 Rb_2 cb_2_0 cb_2_1
  obtain ⟨cx_3_0, cx_3_1, cx_3_2, cx_3_3⟩ := cells4s Rx_3
  obtain ⟨cb_3_0, cb_3_1⟩ := cells2s Rb_3
  have S4 := box B3.size
  have Lp_4 : Box (w.heap.size < w3.heap.size) := box (Array.getElem?_eq_some_iff.1 Rp_3).1
  have Ln_4 : Box (w.heap.size + 1 < w3.heap.size) := box (Array.getElem?_eq_some_iff.1 Rn_3).1
  have Lx_4 : Box (w.heap.size + 1 + 1 < w3.heap.size) := box (Array.getElem?_eq_some_iff.1 Rx_3).1
  have Lb_4 : Box (w1.heap.size < w3.heap.size) := box (Array.getElem?_eq_some_iff.1 Rb_3).1
  have Rc_4 := heap_alloc_last w3 (Obj.cells #[.int .u64 (i : Nat), .int .u64 (j : Nat)] 25)
  have B4 := btr B3 (bal w3 (Obj.cells #[.int .u64 (i : Nat), .int .u64 (j : Nat)] 25))
  have Rp_4 := heap_of (bal w3 (Obj.cells #[.int .u64 (i : Nat), .int .u64 (j : Nat)] 25)) _ _ _ Rp_3
  have Rn_4 := heap_of (bal w3 (Obj.cells #[.int .u64 (i : Nat), .int .u64 (j : Nat)] 25)) _ _ _ Rn_3
  have Rx_4 := heap_of (bal w3 (Obj.cells #[.int .u64 (i : Nat), .int .u64 (j : Nat)] 25)) _ _ _ Rx_3
  have Rb_4 := heap_of (bal w3 (Obj.cells #[.int .u64 (i : Nat), .int .u64 (j : Nat)] 25)) _ _ _ Rb_3
  clear B3 Rp_3 Rn_3 Rx_3 cx_3_0 cx_3_1 cx_3_2 cx_3_3 Rb_3 cb_3_0 cb_3_1
  obtain ⟨cx_4_0, cx_4_1, cx_4_2, cx_4_3⟩ := cells4s Rx_4
  obtain ⟨cb_4_0, cb_4_1⟩ := cells2s Rb_4
  obtain ⟨cc_4_0, cc_4_1⟩ := cells2s Rc_4
  go_wp2_with fail
  refine (KA.out _ (fatB FF.out B4) (tabB TT.out B4)).mono ?_
  rintro r w5 ⟨rfl, b5⟩
  have B5 : Below w.heap.size w w5 := btr B4 b5
  have Rp_5 := heap_of b5 _ _ _ Rp_4
  have Rn_5 := heap_of b5 _ _ _ Rn_4
  have Rx_5 := heap_of b5 _ _ _ Rx_4
  have Rb_5 := heap_of b5 _ _ _ Rb_4
  have Rc_5 := heap_of b5 _ _ _ Rc_4
  clear b5 B4 Rp_4 Rn_4 Rx_4 cx_4_0 cx_4_1 cx_4_2 cx_4_3 Rb_4 cb_4_0 cb_4_1 Rc_4 cc_4_0 cc_4_1
  obtain ⟨cx_5_0, cx_5_1, cx_5_2, cx_5_3⟩ := cells4s Rx_5
  obtain ⟨cb_5_0, cb_5_1⟩ := cells2s Rb_5
  obtain ⟨cc_5_0, cc_5_1⟩ := cells2s Rc_5
  go_wp2
  go_ret
  exact ⟨rfl, B5⟩
set_option maxRecDepth 100000 in
set_option maxHeartbeats 4000000 in
theorem r9long_t_t (f m : Int) (P L K Y0 Y1 : Nat) (v : ByteArray) (i j : Nat) (fl c : Int) (w : World) (hL : L = K + 1) (hP : (8192 : Int) = (P : Int)) (hI : (8193 : Int) = (L : Int)) (L0 : K ≠ 0) (L9 : L ≤ 100000)
    (hs1 : (c8 L 0).setIfInBounds 0 (.int .u8 1) = c8 L Y0) (hs2 : (c8 L Y0).setIfInBounds K (.int .u8 1) = c8 L Y1) (hv1 : v.size = L) (hv2 : Box (∀ (j : Nat) (h : j < v.size), (v[j]'h).toNat = d8 Y1 j))
    (KR : Box (∀ w, FAt w → TabAt w → Calls Tryz.prog 24 #[.int .u8 f, .int .u8 m, .agg #[.bool false, .string v, .string ⟨#[1]⟩, .int .i64 0]] w fun r w' => r = .returned (.tuple #[.agg #[.int .u64 (i : Nat), .int .u64 (j : Nat)], .int .u8 fl, .int .i64 c]) ∧ Below w.heap.size w w'))
    (KQ : Box (∀ w, Calls Tryz.prog 25 #[.int .u8 f, .int .u8 m, .agg #[.bool false, .string v, .string ⟨#[1]⟩, .int .i64 0]] w fun r w' => r = .returned (.tuple #[.agg #[.int .u64 (i : Nat), .int .u64 (j : Nat)], .int .u8 fl, .int .i64 c]) ∧ Below w.heap.size w w'))
    (KA : Box (∀ w, FAt w → TabAt w → Calls Tryz.prog 21 #[] w fun r w' => r = .returned (.bool true) ∧ Below w.heap.size w w')) (wc : IntKind.i64.wrap c = c)
    (hT : FAt w) (hT2 : TabAt w) : Calls Tryz.prog 7 #[.int .u8 f, .int .u8 m, .bool true, .bool true] w fun r w' => r = .returned (.bool true) ∧ Below w.heap.size w w' := by
  have FF := box hT
  have TT := box hT2
  clear hT hT2
  have hmp := fun w => c8_makeI P 8192 hP (by omega) w
  have hmk := fun w => c8_makeI L 8193 hI (by omega) w
  have kw : IntKind.i64.wrap ((L : Int) - 1) = (K : Int) := by rw [wrap_i64_is _ (by omega) (by omega)]; omega
  have kw2 : (L : Int) - 1 = (K : Int) := by omega
  have kw3 : wrap64 (K : Int) = (K : Int) := by unfold wrap64; omega
  have kl : K < L := by omega
  have l0 : 0 < L := by omega
  clear hL hI L0 L9 hP
  obtain ⟨Rp_0, Rn_0, Rx_0, B0⟩ := opn3 w (Obj.cells (c8 P 0) 5) (Obj.cells (c8 L Y1) 5) (Obj.cells #[.bool false, .string v, .string ⟨#[1]⟩, .int .i64 0] 41)
  go_enter Tryz.func7, Tryz.ntmps7
  have r0 := heap_alloc_last (w.alloc (Obj.cells (c8 P 0) 5)) (Obj.cells (c8 L 0) 5)
  have r1 := heap_alloc_last (w.alloc (Obj.cells (c8 P 0) 5)) (Obj.cells (c8 L Y0) 5)
  have r2 := heap_alloc_last (w.alloc (Obj.cells (c8 P 0) 5)) (Obj.cells (c8 L Y1) 5)
  simp only [size_al] at r0 r1 r2
  have q0 := c8_cell r0 l0
  have f0 := fz (k := 0) r0
  have q1 := c8_cell r1 kl
  have f1 := fz (k := K) r1
  have hst := c8_strN (c := L) v r2 hv1 hv2.out
  clear r0 r1 r2
  go_wp2_with fail
  refine (KR.out _ (fatB FF.out B0) (tabB TT.out B0)).mono ?_
  rintro r w1 ⟨rfl, b1⟩
  have B1 : Below w.heap.size w w1 := btr B0 b1
  have Rp_1 := heap_of b1 _ _ _ Rp_0
  have Rn_1 := heap_of b1 _ _ _ Rn_0
  have Rx_1 := heap_of b1 _ _ _ Rx_0
  clear b1 B0 Rp_0 Rn_0 Rx_0
  obtain ⟨cx_1_0, cx_1_1, cx_1_2, cx_1_3⟩ := cells4s Rx_1
  have S2 := box B1.size
  have Lp_2 : Box (w.heap.size < w1.heap.size) := box (Array.getElem?_eq_some_iff.1 Rp_1).1
  have Ln_2 : Box (w.heap.size + 1 < w1.heap.size) := box (Array.getElem?_eq_some_iff.1 Rn_1).1
  have Lx_2 : Box (w.heap.size + 1 + 1 < w1.heap.size) := box (Array.getElem?_eq_some_iff.1 Rx_1).1
  have Rb_2 := heap_alloc_last w1 (Obj.cells #[.int .u64 (i : Nat), .int .u64 (j : Nat)] 25)
  have B2 := btr B1 (bal w1 (Obj.cells #[.int .u64 (i : Nat), .int .u64 (j : Nat)] 25))
  have Rp_2 := heap_of (bal w1 (Obj.cells #[.int .u64 (i : Nat), .int .u64 (j : Nat)] 25)) _ _ _ Rp_1
  have Rn_2 := heap_of (bal w1 (Obj.cells #[.int .u64 (i : Nat), .int .u64 (j : Nat)] 25)) _ _ _ Rn_1
  have Rx_2 := heap_of (bal w1 (Obj.cells #[.int .u64 (i : Nat), .int .u64 (j : Nat)] 25)) _ _ _ Rx_1
  clear B1 Rp_1 Rn_1 Rx_1 cx_1_0 cx_1_1 cx_1_2 cx_1_3
  obtain ⟨cx_2_0, cx_2_1, cx_2_2, cx_2_3⟩ := cells4s Rx_2
  obtain ⟨cb_2_0, cb_2_1⟩ := cells2s Rb_2
  go_wp2_with fail
  refine (KQ.out _).mono ?_
  rintro r w3 ⟨rfl, b3⟩
  have B3 : Below w.heap.size w w3 := btr B2 b3
  have Rp_3 := heap_of b3 _ _ _ Rp_2
  have Rn_3 := heap_of b3 _ _ _ Rn_2
  have Rx_3 := heap_of b3 _ _ _ Rx_2
  have Rb_3 := heap_of b3 _ _ _ Rb_2
  clear b3 B2 Rp_2 Rn_2 Rx_2 cx_2_0 cx_2_1 cx_2_2 cx_2_3 Rb_2 cb_2_0 cb_2_1
  obtain ⟨cx_3_0, cx_3_1, cx_3_2, cx_3_3⟩ := cells4s Rx_3
  obtain ⟨cb_3_0, cb_3_1⟩ := cells2s Rb_3
  have S4 := box B3.size
  have Lp_4 : Box (w.heap.size < w3.heap.size) := box (Array.getElem?_eq_some_iff.1 Rp_3).1
  have Ln_4 : Box (w.heap.size + 1 < w3.heap.size) := box (Array.getElem?_eq_some_iff.1 Rn_3).1
  have Lx_4 : Box (w.heap.size + 1 + 1 < w3.heap.size) := box (Array.getElem?_eq_some_iff.1 Rx_3).1
  have Lb_4 : Box (w1.heap.size < w3.heap.size) := box (Array.getElem?_eq_some_iff.1 Rb_3).1
  have Rc_4 := heap_alloc_last w3 (Obj.cells #[.int .u64 (i : Nat), .int .u64 (j : Nat)] 25)
  have B4 := btr B3 (bal w3 (Obj.cells #[.int .u64 (i : Nat), .int .u64 (j : Nat)] 25))
  have Rp_4 := heap_of (bal w3 (Obj.cells #[.int .u64 (i : Nat), .int .u64 (j : Nat)] 25)) _ _ _ Rp_3
  have Rn_4 := heap_of (bal w3 (Obj.cells #[.int .u64 (i : Nat), .int .u64 (j : Nat)] 25)) _ _ _ Rn_3
  have Rx_4 := heap_of (bal w3 (Obj.cells #[.int .u64 (i : Nat), .int .u64 (j : Nat)] 25)) _ _ _ Rx_3
  have Rb_4 := heap_of (bal w3 (Obj.cells #[.int .u64 (i : Nat), .int .u64 (j : Nat)] 25)) _ _ _ Rb_3
  clear B3 Rp_3 Rn_3 Rx_3 cx_3_0 cx_3_1 cx_3_2 cx_3_3 Rb_3 cb_3_0 cb_3_1
  obtain ⟨cx_4_0, cx_4_1, cx_4_2, cx_4_3⟩ := cells4s Rx_4
  obtain ⟨cb_4_0, cb_4_1⟩ := cells2s Rb_4
  obtain ⟨cc_4_0, cc_4_1⟩ := cells2s Rc_4
  go_wp2_with fail
  refine (KA.out _ (fatB FF.out B4) (tabB TT.out B4)).mono ?_
  rintro r w5 ⟨rfl, b5⟩
  have B5 : Below w.heap.size w w5 := btr B4 b5
  have Rp_5 := heap_of b5 _ _ _ Rp_4
  have Rn_5 := heap_of b5 _ _ _ Rn_4
  have Rx_5 := heap_of b5 _ _ _ Rx_4
  have Rb_5 := heap_of b5 _ _ _ Rb_4
  have Rc_5 := heap_of b5 _ _ _ Rc_4
  clear b5 B4 Rp_4 Rn_4 Rx_4 cx_4_0 cx_4_1 cx_4_2 cx_4_3 Rb_4 cb_4_0 cb_4_1 Rc_4 cc_4_0 cc_4_1
  obtain ⟨cx_5_0, cx_5_1, cx_5_2, cx_5_3⟩ := cells4s Rx_5
  obtain ⟨cb_5_0, cb_5_1⟩ := cells2s Rb_5
  obtain ⟨cc_5_0, cc_5_1⟩ := cells2s Rc_5
  go_wp2
  go_ret
  exact ⟨rfl, B5⟩
end Go.Proofs.YtbmhfcppaajgbaaGreatDoor
namespace Go.Proofs.YtbmhfcppaajgbaaGreatDoor
set_option maxRecDepth 100000
open WMath
open Go.ChangeShapes Go.WideShapes Go.ChangeAt Go.RowKit

theorem trod_row4 {H : Type} {enc : TypeId × Value → H} {P : Program} {w : World} {base : Nat} {spare : Nat → Bool} {held : Bool} {t : TypeId} {f0 f1 f2 f3 : Field} {fuel : Nat} {cs : List Value} {x : DataW H × List MemPlace} (ht : P.underlying t = some (.struct #[f0, f1, f2, f3])) (h : DataW.trod enc P w base spare held fuel t cs = some x) :
    ∃ y0 y1 y2 y3 n, x = (.agg [y0.1, y1.1, y2.1, y3.1], y0.2 ++ (y1.2 ++ (y2.2 ++ y3.2))) ∧ DataW.trod enc P w base spare held n f0.type ((cs.drop f0.offset).take (P.cellsOf f0.type)) = some y0 ∧
      DataW.trod enc P w base spare held n f1.type ((cs.drop f1.offset).take (P.cellsOf f1.type)) = some y1 ∧ DataW.trod enc P w base spare held n f2.type ((cs.drop f2.offset).take (P.cellsOf f2.type)) = some y2 ∧
      DataW.trod enc P w base spare held n f3.type ((cs.drop f3.offset).take (P.cellsOf f3.type)) = some y3 := by
  obtain ⟨xs, n, _, rfl, hl, hlen, hf⟩ := DataW.trod_struct ht h
  match xs, hlen with
  | [y0, y1, y2, y3], _ => exact ⟨y0, y1, y2, y3, n, by simp, by simpa using hf 0 f0 rfl, by simpa using hf 1 f1 rfl, by simpa using hf 2 f2 rfl, by simpa using hf 3 f3 rfl⟩


theorem list4' {α : Type} (l : List α) (h : l.length = 4) : ∃ a b c d, l = [a, b, c, d] := by
  match l, h with
  | [a, b, c, d], _ => exact ⟨a, b, c, d, rfl⟩

theorem row_read {w : World} {fuel : Nat} {enc : TypeId × Value → Unit} {base : Nat} {spare : Nat → Bool} {held : Bool} {l : List Value} {a b c : Int} {s : List UInt8} {p : List MemPlace}
    (h : DataW.trod enc Tryz.prog w base spare held fuel 210 l = some (.agg [.lit (.int .i64 a), .lit (.int .i64 b), .lit (.int .i64 c), .lit (.string s)], p)) (hl : l.length = 4) :
    l = [.int .i64 a, .int .i64 b, .int .i64 c, .string ⟨⟨s⟩⟩] := by
  have h3 : Tryz.prog.cellsOf 3 = 1 := by kernel_rfl
  have h9 : Tryz.prog.cellsOf 9 = 1 := by kernel_rfl
  obtain ⟨c0, c1, c2, c3, rfl⟩ := list4' l hl
  obtain ⟨y0, y1, y2, y3, n, hx, g0, g1, g2, g3⟩ := trod_row4 Tryz.underlying210 h
  simp only [h3, h9] at g0 g1 g2 g3
  obtain ⟨x0, e0, k0, w0⟩ := DataW.trod_int Tryz.underlying3 g0
  obtain ⟨x1, e1, k1, w1⟩ := DataW.trod_int Tryz.underlying3 g1
  obtain ⟨x2, e2, k2, w2⟩ := DataW.trod_int Tryz.underlying3 g2
  obtain ⟨x3, e3, k3, w3⟩ := DataW.trod_string Tryz.underlying9 g3
  simp at e0 e1 e2 e3
  subst e0 e1 e2 e3
  rw [k0, k1, k2, k3] at hx
  simp at hx
  obtain ⟨⟨rfl, rfl, rfl, rfl⟩, _⟩ := hx
  rfl

def laid7 : List (String × DataW Unit) := [("abacus/shape.formats", Rows.laid_abacus_shape_formats)]
theorem gTab7 : Tryz.prog.globalNamed "abacus/shape.formats" = some 0 := by kernel_rfl
theorem gType7 : (Tryz.prog.globals[0]?).map (·.type) = some 265 := by kernel_rfl

theorem of_laid7 {W : World} (h : laidMetH Tryz.prog laid7 W) : FAt W := by
  have hce : Tryz.prog.cellsOf 210 = 4 := by kernel_rfl
  have hct : Tryz.prog.cellsOf 265 = 16 := by kernel_rfl
  rw [MakeChecks.laidMetH_plain _ _ _ (by kernel_rfl)] at h
  obtain ⟨ps, ⟨g', t', cs, fuel, p, q, hg', ht', hvar, hd, _, _⟩, _⟩ := h
  obtain rfl := Option.some.inj (gTab7.symm.trans hg')
  obtain rfl := Option.some.inj (gType7.symm.trans ht')
  obtain ⟨xs, m, rfl, hx, hl, hxl, hel⟩ := DataW.trod_array Tryz.underlying265 hd
  rw [hce] at hel
  rw [hct] at hl
  have hl2 : cs.size = 16 := by simpa using hl
  match xs, hxl with
  | [y0, y1, y2, y3], _ =>
    have hx1 := congrArg Prod.fst hx
    simp [Rows.laid_abacus_shape_formats] at hx1
    obtain ⟨h0, h1, h2, h3⟩ := hx1
    have q0 := hel 0 (by decide)
    have q1 := hel 1 (by decide)
    have q2 := hel 2 (by decide)
    have q3 := hel 3 (by decide)
    simp only [List.getElem?_cons_zero, List.getElem?_cons_succ] at q0 q1 q2 q3
    have z0 := row_read (p := y0.2) (by rw [q0, h0]) (by simp; omega)
    have z1 := row_read (p := y1.2) (by rw [q1, h1]) (by simp; omega)
    have z2 := row_read (p := y2.2) (by rw [q2, h2]) (by simp; omega)
    have z3 := row_read (p := y3.2) (by rw [q3, h3]) (by simp; omega)
    have hcs : ∀ i, i < 16 → cs.toList[i]? = fcells[i]? := by
      intro i hi
      have e0 : cs.toList[i]? = (cs.toList.drop (i / 4 * 4))[i % 4]? := by rw [List.getElem?_drop]; congr 1; omega
      have e1 : (cs.toList.drop (i / 4 * 4))[i % 4]? = ((cs.toList.drop (i / 4 * 4)).take 4)[i % 4]? := by rw [List.getElem?_take, if_pos (by omega)]
      rw [e0, e1]
      have : i / 4 = 0 ∨ i / 4 = 1 ∨ i / 4 = 2 ∨ i / 4 = 3 := by omega
      have hj : i % 4 = 0 ∨ i % 4 = 1 ∨ i % 4 = 2 ∨ i % 4 = 3 := by omega
      have hi2 : i = i / 4 * 4 + i % 4 := by omega
      rcases this with e | e | e | e <;> rw [e] at hi2 ⊢ <;> rcases hj with k | k | k | k <;> rw [k] at hi2 ⊢ <;> subst hi2 <;> first | (rw [z0]; rfl) | (rw [z1]; rfl) | (rw [z2]; rfl) | (rw [z3]; rfl)
    intro i hi
    rw [World.var?_cell gTab7 hvar i, ← hcs i hi]
    simp

end Go.Proofs.YtbmhfcppaajgbaaGreatDoor
namespace Go.Proofs.YtbmhfcppaajgbaaGreatDoor
set_option maxRecDepth 100000
open WMath
open Go.ChangeShapes Go.WideShapes Go.ChangeAt Go.RowKit

def tabZ8 : List Int := [0, 1, 56, 2, 57, 49, 28, 3, 61, 58, 42, 50, 38, 29, 17, 4, 62, 47, 59, 36, 45, 43, 51, 22, 53, 39, 33, 30, 24, 18, 12, 5, 63, 55, 48, 27, 60, 41, 37, 16, 46, 35, 44, 21, 52, 32, 23, 11, 54, 26, 40, 15, 34, 20, 31, 10, 25, 14, 19, 9, 13, 8, 7, 6]
def laid8 : List (String × DataW Unit) := [("math/bits.deBruijn64tab", Rows.laid_math_bits_deBruijn64tab), ("abacus/shape.formats", Rows.laid_abacus_shape_formats)]
theorem gTab8 : Tryz.prog.globalNamed "math/bits.deBruijn64tab" = some 5 := by kernel_rfl
theorem gType8 : (Tryz.prog.globals[5]?).map (·.type) = some 323 := by kernel_rfl
theorem cells58 : Tryz.prog.cellsOf 5 = 1 := by kernel_rfl
theorem cellsT8 : Tryz.prog.cellsOf 323 = 64 := by kernel_rfl
theorem tab_at8 : ∀ i : Fin 64, tabZ8.getD i.val 0 = ((Lib.deBruijn64tab.getD i.val 0 : Nat) : Int) := by decide +kernel

theorem of_laid8 {W : World} (h : laidMetH Tryz.prog laid8 W) : TabAt W ∧ FAt W := by
  rw [MakeChecks.laidMetH_plain _ _ _ (by kernel_rfl)] at h
  have ht := laidMet.tail h
  constructor
  · have h' : laidMet Tryz.prog (("math/bits.deBruijn64tab", Lib.tabData .u8 tabZ8) :: [("abacus/shape.formats", Rows.laid_abacus_shape_formats)]) W := h
    have hT := Lib.tabIs_of_head gTab8 gType8 Tryz.underlying323 Tryz.underlying5 cells58 cellsT8 h'
    intro i hi
    have hc := hT.cell gTab8 i (show i < tabZ8.length from hi)
    rw [tab_at8 ⟨i, hi⟩] at hc
    exact hc
  · refine of_laid7 ?_
    rw [MakeChecks.laidMetH_plain _ _ _ (by kernel_rfl)]
    exact ht

theorem door_met8 (os : Os) (args : Array Value) : laidMetH Tryz.prog laid8 ((World.doorLaid Tryz.prog 400 os).forCall (fun _ _ => 0) ⟨#[], args, []⟩).memory :=
  laidMetH_of_parts3 (fuel := 8) (laidMet_of_run' 8 (by kernel_rfl) (by kernel_rfl)) (by kernel_rfl) (by kernel_rfl)
end Go.Proofs.YtbmhfcppaajgbaaGreatDoor
