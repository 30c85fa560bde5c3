/-
  KindParts returns true for every format, whether it is one or not, all bits and all parts: class and parts of bits, and what is put together of parts, are the document's.
-/
import Derived.Test.YtkmlbjlaahcahaaDoorRows
import Derived.Test.YtkmlbjlaahcahaaDoorTie
import Derived.Test.YtkmlbjlaahcahaaDoorCards
import Derived.WalkKit
import Derived.ProofKit
import Derived.OpenShut
import Derived.LaidMore
import Derived.Stop.Joined
import Derived.Lib.LaidTab
import Derived.SevenTiedAt
import Derived.Test.YtkmlbjlaahcahaaDoorFrame6
import Derived.Test.YtkmlbjlaahcahaaDoorSL
import Derived.Test.YtkmlbjlaahcahaaDoorFrameP
import Derived.Test.YtkmlbjlaahcahaaDoorFrameB
namespace Go.Proofs.YtkmlbjlaahcahaaDoor.kindParts
open WMath
open Go.ChangeShapes Go.WideShapes Go.ChangeAt Go.RowKit
set_option linter.unusedVariables false

theorem own : ownKnob Tryd.prog.godebug = none := by kernel_rfl

set_option maxRecDepth 100000 in
set_option maxHeartbeats 4000000 in
theorem walk (a0 : Int) (a1 : Nat × Nat) (pc2 ps2 : Nat) (px2 : Int) (pr2 : Nat) (h0 : (Lit.int .u8 a0).wf = true) (h1 : a1.1 < 18446744073709551616 ∧ a1.2 < 18446744073709551616) (h2 : pc2 < 256 ∧ ps2 < Q ∧ pr2 < Q ∧ (Lit.int .i64 px2).wf = true) (w : World) (hT : FAt w) :
    Calls Tryd.prog 3 #[.int .u8 a0, bitsV a1, .agg (pt pc2 ps2 px2 pr2)] w fun e w' => e = .returned (.bool true) ∧ Below w.heap.size w w' := by
  have TT := box hT
  clear hT
  have b0 := bounds_u8 h0
  obtain ⟨x, y⟩ := a1
  obtain ⟨hx, hy⟩ := h1
  simp only at hx hy
  obtain ⟨lc, ls, lr, lx2⟩ := h2
  have bx := bounds_i64 lx2
  show Calls Tryd.prog 3 #[.int .u8 a0, .agg #[.int .u64 (x : Nat), .int .u64 (y : Nat)], .agg (pt pc2 ps2 px2 pr2)] w fun r w' => r = .returned (.bool true) ∧ Below w.heap.size w w'
  obtain ⟨n, hn⟩ : ∃ n, y + 18446744073709551616 * x = n := ⟨_, rfl⟩
  have KA := box kalive
  have hat := cw_at 6
  have hz := cw6z
  have hff := cw6f
  have hs0 := st0
  have hcs : ∀ x, ((cw 6 x).size = 6) = True := fun x => eq_true (cw_size 6 x)
  have hp1 := ptf
  have hp3 := ptz
  have hp9 : ∀ (s : Nat) (x : Int) (r : Nat), #[Value.int .u8 0, .int .u64 (wd s 0 : Nat), .int .u64 (wd s 1 : Nat), .int .u64 (wd s 2 : Nat), .int .u64 (wd s 3 : Nat), .int .u64 (wd s 4 : Nat), .int .u64 (wd s 5 : Nat), .int .i64 x, .int .u64 (wd r 0 : Nat), .int .u64 (wd r 1 : Nat), .int .u64 (wd r 2 : Nat), .int .u64 (wd r 3 : Nat), .int .u64 (wd r 4 : Nat), .int .u64 (wd r 5 : Nat)] = pt 0 s x r := fun _ _ _ => rfl
  have hp4 := st_p0
  have hp5 : ∀ (c s : Nat) (x : Int) (r : Nat), ((pt c s x r).size = 14) = True := fun _ _ _ _ => eq_true rfl
  have heq := eqp
  have hg := eqgp
  have hQ := Q_pos
  have ha0 := pt_at0
  have ha1 := pt_at1
  have ha2 := pt_at2
  have ha3 := pt_at3
  have ha4 := pt_at4
  have ha5 := pt_at5
  have ha6 := pt_at6
  have ha7 := pt_at7
  have ha8 := pt_at8
  have ha9 := pt_at9
  have ha10 := pt_at10
  have ha11 := pt_at11
  have ha12 := pt_at12
  have ha13 := pt_at13
  cases ho : okB a0 n
  · have K1 := box (kClass_no a0 b0.1 b0.2 x y n hx hy hn ho)
    have K2 := box (kUnpack_no a0 b0.1 b0.2 x y n hx hy hn ho)
    have K3 := box (kfits_law a0 x y n false b0.1 hx hy hn ho)
    by_cases h3 : a0 ≤ 3
    · have hf := is4_of b0.1 h3
      have KR := box (r_right a0 true (by simp [h3]))
      obtain ⟨m, e, hme⟩ : ∃ m e, pk a0 (pc2, ps2, px2, pr2) = (m, e) := ⟨_, _, rfl⟩
      obtain ⟨u, v, huv⟩ : ∃ u v, bv7 m = (u, v) := ⟨_, _, rfl⟩
      have KR0 := box (fun w hT => kPack_is a0 hf pc2 ps2 pr2 u v m px2 e ls lr bx.1 bx.2 hme huv w hT)
      have KS := box (fun w => rPack_is a0 hf pc2 ps2 pr2 u v m px2 e ls lr bx.1 bx.2 hme huv w)
      have we : IntKind.i64.wrap e = e := by
        unfold pk at hme
        rw [IntKind.wrap_i64]
        split at hme <;> (injection hme with _ q2; omega)
      clear hx hy hn ho h0 lc ls lr lx2 bx hme huv hf h3
      obtain ⟨Rb_0, Rp_0, B0⟩ := kopn2 w (Obj.cells #[.int .u64 (x : Nat), .int .u64 (y : Nat)] 25) (Obj.cells (pt pc2 ps2 px2 pr2) 30)
      go_enter Tryd.func3, Tryd.ntmps3
      go_wp2_with fail
      refine (K1.out _ (fatB TT.out B0)).mono ?_
      rintro r w1 ⟨rfl, b1⟩
      have B1 : Below w.heap.size w w1 := btr7 B0 b1
      have Rb_1 := heap_of b1 _ _ _ Rb_0
      have Rp_1 := heap_of b1 _ _ _ Rp_0
      clear b1 B0 Rb_0 Rp_0
      obtain ⟨cb_1_0, cb_1_1⟩ := cell7t Rb_1
      obtain ⟨cp_1_0, cp_1_1, cp_1_2, cp_1_3, cp_1_4, cp_1_5, cp_1_6, cp_1_7, cp_1_8, cp_1_9, cp_1_10, cp_1_11, cp_1_12, cp_1_13⟩ := pt_cells Rp_1
      go_wp2_with fail
      refine (K2.out _ (fatB TT.out B1)).mono ?_
      rintro r w2 ⟨rfl, b2⟩
      have B2 : Below w.heap.size w w2 := btr7 B1 b2
      have Rb_2 := heap_of b2 _ _ _ Rb_1
      have Rp_2 := heap_of b2 _ _ _ Rp_1
      clear b2 B1 Rb_1 cb_1_0 cb_1_1 Rp_1 cp_1_0 cp_1_1 cp_1_2 cp_1_3 cp_1_4 cp_1_5 cp_1_6 cp_1_7 cp_1_8 cp_1_9 cp_1_10 cp_1_11 cp_1_12 cp_1_13
      obtain ⟨cb_2_0, cb_2_1⟩ := cell7t Rb_2
      obtain ⟨cp_2_0, cp_2_1, cp_2_2, cp_2_3, cp_2_4, cp_2_5, cp_2_6, cp_2_7, cp_2_8, cp_2_9, cp_2_10, cp_2_11, cp_2_12, cp_2_13⟩ := pt_cells Rp_2
      have S3 := box B2.size
      have Lb_3 : Box (w.heap.size < w2.heap.size) := box (Array.getElem?_eq_some_iff.1 Rb_2).1
      have Lp_3 : Box (w.heap.size + 1 < w2.heap.size) := box (Array.getElem?_eq_some_iff.1 Rp_2).1
      have Rq_3 := heap_alloc_last w2 (Obj.cells (pt 0 0 0 0) 30)
      have B3 := btr7 B2 (bal7 w2 (Obj.cells (pt 0 0 0 0) 30))
      have Rb_3 := heap_of (bal7 w2 (Obj.cells (pt 0 0 0 0) 30)) _ _ _ Rb_2
      have Rp_3 := heap_of (bal7 w2 (Obj.cells (pt 0 0 0 0) 30)) _ _ _ Rp_2
      clear B2 Rb_2 cb_2_0 cb_2_1 Rp_2 cp_2_0 cp_2_1 cp_2_2 cp_2_3 cp_2_4 cp_2_5 cp_2_6 cp_2_7 cp_2_8 cp_2_9 cp_2_10 cp_2_11 cp_2_12 cp_2_13
      obtain ⟨cb_3_0, cb_3_1⟩ := cell7t Rb_3
      obtain ⟨cp_3_0, cp_3_1, cp_3_2, cp_3_3, cp_3_4, cp_3_5, cp_3_6, cp_3_7, cp_3_8, cp_3_9, cp_3_10, cp_3_11, cp_3_12, cp_3_13⟩ := pt_cells Rp_3
      obtain ⟨cq_3_0, cq_3_1, cq_3_2, cq_3_3, cq_3_4, cq_3_5, cq_3_6, cq_3_7, cq_3_8, cq_3_9, cq_3_10, cq_3_11, cq_3_12, cq_3_13⟩ := pt_cells Rq_3
      go_wp2_with fail
      refine (K3.out _).mono ?_
      rintro r w4 ⟨rfl, b4⟩
      have B4 : Below w.heap.size w w4 := btr7 B3 b4
      have Rb_4 := heap_of b4 _ _ _ Rb_3
      have Rp_4 := heap_of b4 _ _ _ Rp_3
      have Rq_4 := heap_of b4 _ _ _ Rq_3
      clear b4 B3 Rb_3 cb_3_0 cb_3_1 Rp_3 cp_3_0 cp_3_1 cp_3_2 cp_3_3 cp_3_4 cp_3_5 cp_3_6 cp_3_7 cp_3_8 cp_3_9 cp_3_10 cp_3_11 cp_3_12 cp_3_13 Rq_3 cq_3_0 cq_3_1 cq_3_2 cq_3_3 cq_3_4 cq_3_5 cq_3_6 cq_3_7 cq_3_8 cq_3_9 cq_3_10 cq_3_11 cq_3_12 cq_3_13
      obtain ⟨cb_4_0, cb_4_1⟩ := cell7t Rb_4
      obtain ⟨cp_4_0, cp_4_1, cp_4_2, cp_4_3, cp_4_4, cp_4_5, cp_4_6, cp_4_7, cp_4_8, cp_4_9, cp_4_10, cp_4_11, cp_4_12, cp_4_13⟩ := pt_cells Rp_4
      obtain ⟨cq_4_0, cq_4_1, cq_4_2, cq_4_3, cq_4_4, cq_4_5, cq_4_6, cq_4_7, cq_4_8, cq_4_9, cq_4_10, cq_4_11, cq_4_12, cq_4_13⟩ := pt_cells Rq_4
      go_wp2_with fail
      refine (KR0.out _ (fatB TT.out B4)).mono ?_
      rintro r w5 ⟨rfl, b5⟩
      have B5 : Below w.heap.size w w5 := btr7 B4 b5
      have Rb_5 := heap_of b5 _ _ _ Rb_4
      have Rp_5 := heap_of b5 _ _ _ Rp_4
      have Rq_5 := heap_of b5 _ _ _ Rq_4
      clear b5 B4 Rb_4 cb_4_0 cb_4_1 Rp_4 cp_4_0 cp_4_1 cp_4_2 cp_4_3 cp_4_4 cp_4_5 cp_4_6 cp_4_7 cp_4_8 cp_4_9 cp_4_10 cp_4_11 cp_4_12 cp_4_13 Rq_4 cq_4_0 cq_4_1 cq_4_2 cq_4_3 cq_4_4 cq_4_5 cq_4_6 cq_4_7 cq_4_8 cq_4_9 cq_4_10 cq_4_11 cq_4_12 cq_4_13
      obtain ⟨cb_5_0, cb_5_1⟩ := cell7t Rb_5
      obtain ⟨cp_5_0, cp_5_1, cp_5_2, cp_5_3, cp_5_4, cp_5_5, cp_5_6, cp_5_7, cp_5_8, cp_5_9, cp_5_10, cp_5_11, cp_5_12, cp_5_13⟩ := pt_cells Rp_5
      obtain ⟨cq_5_0, cq_5_1, cq_5_2, cq_5_3, cq_5_4, cq_5_5, cq_5_6, cq_5_7, cq_5_8, cq_5_9, cq_5_10, cq_5_11, cq_5_12, cq_5_13⟩ := pt_cells Rq_5
      have S6 := box B5.size
      have Lb_6 : Box (w.heap.size < w5.heap.size) := box (Array.getElem?_eq_some_iff.1 Rb_5).1
      have Lp_6 : Box (w.heap.size + 1 < w5.heap.size) := box (Array.getElem?_eq_some_iff.1 Rp_5).1
      have Lq_6 : Box (w2.heap.size < w5.heap.size) := box (Array.getElem?_eq_some_iff.1 Rq_5).1
      have Rd_6 := heap_alloc_last w5 (Obj.cells #[.int .u64 (u : Nat), .int .u64 (v : Nat)] 25)
      have B6 := btr7 B5 (bal7 w5 (Obj.cells #[.int .u64 (u : Nat), .int .u64 (v : Nat)] 25))
      have Rb_6 := heap_of (bal7 w5 (Obj.cells #[.int .u64 (u : Nat), .int .u64 (v : Nat)] 25)) _ _ _ Rb_5
      have Rp_6 := heap_of (bal7 w5 (Obj.cells #[.int .u64 (u : Nat), .int .u64 (v : Nat)] 25)) _ _ _ Rp_5
      have Rq_6 := heap_of (bal7 w5 (Obj.cells #[.int .u64 (u : Nat), .int .u64 (v : Nat)] 25)) _ _ _ Rq_5
      clear B5 Rb_5 cb_5_0 cb_5_1 Rp_5 cp_5_0 cp_5_1 cp_5_2 cp_5_3 cp_5_4 cp_5_5 cp_5_6 cp_5_7 cp_5_8 cp_5_9 cp_5_10 cp_5_11 cp_5_12 cp_5_13 Rq_5 cq_5_0 cq_5_1 cq_5_2 cq_5_3 cq_5_4 cq_5_5 cq_5_6 cq_5_7 cq_5_8 cq_5_9 cq_5_10 cq_5_11 cq_5_12 cq_5_13
      obtain ⟨cb_6_0, cb_6_1⟩ := cell7t Rb_6
      obtain ⟨cp_6_0, cp_6_1, cp_6_2, cp_6_3, cp_6_4, cp_6_5, cp_6_6, cp_6_7, cp_6_8, cp_6_9, cp_6_10, cp_6_11, cp_6_12, cp_6_13⟩ := pt_cells Rp_6
      obtain ⟨cq_6_0, cq_6_1, cq_6_2, cq_6_3, cq_6_4, cq_6_5, cq_6_6, cq_6_7, cq_6_8, cq_6_9, cq_6_10, cq_6_11, cq_6_12, cq_6_13⟩ := pt_cells Rq_6
      obtain ⟨cd_6_0, cd_6_1⟩ := cell7t Rd_6
      go_wp2_with fail
      refine (KR.out _).mono ?_
      rintro r w' ⟨rfl, hw'⟩
      obtain rfl := hw'.symm
      go_wp2_with fail
      refine (KS.out _).mono ?_
      rintro r w7 ⟨rfl, b7⟩
      have B7 : Below w.heap.size w w7 := btr7 B6 b7
      have Rb_7 := heap_of b7 _ _ _ Rb_6
      have Rp_7 := heap_of b7 _ _ _ Rp_6
      have Rq_7 := heap_of b7 _ _ _ Rq_6
      have Rd_7 := heap_of b7 _ _ _ Rd_6
      clear b7 B6 Rb_6 cb_6_0 cb_6_1 Rp_6 cp_6_0 cp_6_1 cp_6_2 cp_6_3 cp_6_4 cp_6_5 cp_6_6 cp_6_7 cp_6_8 cp_6_9 cp_6_10 cp_6_11 cp_6_12 cp_6_13 Rq_6 cq_6_0 cq_6_1 cq_6_2 cq_6_3 cq_6_4 cq_6_5 cq_6_6 cq_6_7 cq_6_8 cq_6_9 cq_6_10 cq_6_11 cq_6_12 cq_6_13 Rd_6 cd_6_0 cd_6_1
      obtain ⟨cb_7_0, cb_7_1⟩ := cell7t Rb_7
      obtain ⟨cp_7_0, cp_7_1, cp_7_2, cp_7_3, cp_7_4, cp_7_5, cp_7_6, cp_7_7, cp_7_8, cp_7_9, cp_7_10, cp_7_11, cp_7_12, cp_7_13⟩ := pt_cells Rp_7
      obtain ⟨cq_7_0, cq_7_1, cq_7_2, cq_7_3, cq_7_4, cq_7_5, cq_7_6, cq_7_7, cq_7_8, cq_7_9, cq_7_10, cq_7_11, cq_7_12, cq_7_13⟩ := pt_cells Rq_7
      obtain ⟨cd_7_0, cd_7_1⟩ := cell7t Rd_7
      have S8 := box B7.size
      have Lb_8 : Box (w.heap.size < w7.heap.size) := box (Array.getElem?_eq_some_iff.1 Rb_7).1
      have Lp_8 : Box (w.heap.size + 1 < w7.heap.size) := box (Array.getElem?_eq_some_iff.1 Rp_7).1
      have Lq_8 : Box (w2.heap.size < w7.heap.size) := box (Array.getElem?_eq_some_iff.1 Rq_7).1
      have Ld_8 : Box (w5.heap.size < w7.heap.size) := box (Array.getElem?_eq_some_iff.1 Rd_7).1
      have Rx_8 := heap_alloc_last w7 (Obj.cells #[.int .u64 (u : Nat), .int .u64 (v : Nat)] 25)
      have B8 := btr7 B7 (bal7 w7 (Obj.cells #[.int .u64 (u : Nat), .int .u64 (v : Nat)] 25))
      have Rb_8 := heap_of (bal7 w7 (Obj.cells #[.int .u64 (u : Nat), .int .u64 (v : Nat)] 25)) _ _ _ Rb_7
      have Rp_8 := heap_of (bal7 w7 (Obj.cells #[.int .u64 (u : Nat), .int .u64 (v : Nat)] 25)) _ _ _ Rp_7
      have Rq_8 := heap_of (bal7 w7 (Obj.cells #[.int .u64 (u : Nat), .int .u64 (v : Nat)] 25)) _ _ _ Rq_7
      have Rd_8 := heap_of (bal7 w7 (Obj.cells #[.int .u64 (u : Nat), .int .u64 (v : Nat)] 25)) _ _ _ Rd_7
      clear B7 Rb_7 cb_7_0 cb_7_1 Rp_7 cp_7_0 cp_7_1 cp_7_2 cp_7_3 cp_7_4 cp_7_5 cp_7_6 cp_7_7 cp_7_8 cp_7_9 cp_7_10 cp_7_11 cp_7_12 cp_7_13 Rq_7 cq_7_0 cq_7_1 cq_7_2 cq_7_3 cq_7_4 cq_7_5 cq_7_6 cq_7_7 cq_7_8 cq_7_9 cq_7_10 cq_7_11 cq_7_12 cq_7_13 Rd_7 cd_7_0 cd_7_1
      obtain ⟨cb_8_0, cb_8_1⟩ := cell7t Rb_8
      obtain ⟨cp_8_0, cp_8_1, cp_8_2, cp_8_3, cp_8_4, cp_8_5, cp_8_6, cp_8_7, cp_8_8, cp_8_9, cp_8_10, cp_8_11, cp_8_12, cp_8_13⟩ := pt_cells Rp_8
      obtain ⟨cq_8_0, cq_8_1, cq_8_2, cq_8_3, cq_8_4, cq_8_5, cq_8_6, cq_8_7, cq_8_8, cq_8_9, cq_8_10, cq_8_11, cq_8_12, cq_8_13⟩ := pt_cells Rq_8
      obtain ⟨cd_8_0, cd_8_1⟩ := cell7t Rd_8
      obtain ⟨cx_8_0, cx_8_1⟩ := cell7t Rx_8
      go_wp2_with fail
      refine (KA.out _ (fatB TT.out B8)).mono ?_
      rintro r w9 ⟨rfl, b9⟩
      have B9 : Below w.heap.size w w9 := btr7 B8 b9
      have Rb_9 := heap_of b9 _ _ _ Rb_8
      have Rp_9 := heap_of b9 _ _ _ Rp_8
      have Rq_9 := heap_of b9 _ _ _ Rq_8
      have Rd_9 := heap_of b9 _ _ _ Rd_8
      have Rx_9 := heap_of b9 _ _ _ Rx_8
      clear b9 B8 Rb_8 cb_8_0 cb_8_1 Rp_8 cp_8_0 cp_8_1 cp_8_2 cp_8_3 cp_8_4 cp_8_5 cp_8_6 cp_8_7 cp_8_8 cp_8_9 cp_8_10 cp_8_11 cp_8_12 cp_8_13 Rq_8 cq_8_0 cq_8_1 cq_8_2 cq_8_3 cq_8_4 cq_8_5 cq_8_6 cq_8_7 cq_8_8 cq_8_9 cq_8_10 cq_8_11 cq_8_12 cq_8_13 Rd_8 cd_8_0 cd_8_1 Rx_8 cx_8_0 cx_8_1
      obtain ⟨cb_9_0, cb_9_1⟩ := cell7t Rb_9
      obtain ⟨cp_9_0, cp_9_1, cp_9_2, cp_9_3, cp_9_4, cp_9_5, cp_9_6, cp_9_7, cp_9_8, cp_9_9, cp_9_10, cp_9_11, cp_9_12, cp_9_13⟩ := pt_cells Rp_9
      obtain ⟨cq_9_0, cq_9_1, cq_9_2, cq_9_3, cq_9_4, cq_9_5, cq_9_6, cq_9_7, cq_9_8, cq_9_9, cq_9_10, cq_9_11, cq_9_12, cq_9_13⟩ := pt_cells Rq_9
      obtain ⟨cd_9_0, cd_9_1⟩ := cell7t Rd_9
      obtain ⟨cx_9_0, cx_9_1⟩ := cell7t Rx_9
      go_wp2
      go_ret
      exact ⟨rfl, B9⟩
    · have KR := box (r_right a0 false (by simp [h3]))
      have KR0 := box (fun w hT => kPack_no a0 b0.1 b0.2 (by omega) pc2 ps2 pr2 px2 w hT)
      clear hx hy hn ho h0 lc ls lr lx2 bx h3
      obtain ⟨Rb_0, Rp_0, B0⟩ := kopn2 w (Obj.cells #[.int .u64 (x : Nat), .int .u64 (y : Nat)] 25) (Obj.cells (pt pc2 ps2 px2 pr2) 30)
      go_enter Tryd.func3, Tryd.ntmps3
      go_wp2_with fail
      refine (K1.out _ (fatB TT.out B0)).mono ?_
      rintro r w1 ⟨rfl, b1⟩
      have B1 : Below w.heap.size w w1 := btr7 B0 b1
      have Rb_1 := heap_of b1 _ _ _ Rb_0
      have Rp_1 := heap_of b1 _ _ _ Rp_0
      clear b1 B0 Rb_0 Rp_0
      obtain ⟨cb_1_0, cb_1_1⟩ := cell7t Rb_1
      obtain ⟨cp_1_0, cp_1_1, cp_1_2, cp_1_3, cp_1_4, cp_1_5, cp_1_6, cp_1_7, cp_1_8, cp_1_9, cp_1_10, cp_1_11, cp_1_12, cp_1_13⟩ := pt_cells Rp_1
      go_wp2_with fail
      refine (K2.out _ (fatB TT.out B1)).mono ?_
      rintro r w2 ⟨rfl, b2⟩
      have B2 : Below w.heap.size w w2 := btr7 B1 b2
      have Rb_2 := heap_of b2 _ _ _ Rb_1
      have Rp_2 := heap_of b2 _ _ _ Rp_1
      clear b2 B1 Rb_1 cb_1_0 cb_1_1 Rp_1 cp_1_0 cp_1_1 cp_1_2 cp_1_3 cp_1_4 cp_1_5 cp_1_6 cp_1_7 cp_1_8 cp_1_9 cp_1_10 cp_1_11 cp_1_12 cp_1_13
      obtain ⟨cb_2_0, cb_2_1⟩ := cell7t Rb_2
      obtain ⟨cp_2_0, cp_2_1, cp_2_2, cp_2_3, cp_2_4, cp_2_5, cp_2_6, cp_2_7, cp_2_8, cp_2_9, cp_2_10, cp_2_11, cp_2_12, cp_2_13⟩ := pt_cells Rp_2
      have S3 := box B2.size
      have Lb_3 : Box (w.heap.size < w2.heap.size) := box (Array.getElem?_eq_some_iff.1 Rb_2).1
      have Lp_3 : Box (w.heap.size + 1 < w2.heap.size) := box (Array.getElem?_eq_some_iff.1 Rp_2).1
      have Rq_3 := heap_alloc_last w2 (Obj.cells (pt 0 0 0 0) 30)
      have B3 := btr7 B2 (bal7 w2 (Obj.cells (pt 0 0 0 0) 30))
      have Rb_3 := heap_of (bal7 w2 (Obj.cells (pt 0 0 0 0) 30)) _ _ _ Rb_2
      have Rp_3 := heap_of (bal7 w2 (Obj.cells (pt 0 0 0 0) 30)) _ _ _ Rp_2
      clear B2 Rb_2 cb_2_0 cb_2_1 Rp_2 cp_2_0 cp_2_1 cp_2_2 cp_2_3 cp_2_4 cp_2_5 cp_2_6 cp_2_7 cp_2_8 cp_2_9 cp_2_10 cp_2_11 cp_2_12 cp_2_13
      obtain ⟨cb_3_0, cb_3_1⟩ := cell7t Rb_3
      obtain ⟨cp_3_0, cp_3_1, cp_3_2, cp_3_3, cp_3_4, cp_3_5, cp_3_6, cp_3_7, cp_3_8, cp_3_9, cp_3_10, cp_3_11, cp_3_12, cp_3_13⟩ := pt_cells Rp_3
      obtain ⟨cq_3_0, cq_3_1, cq_3_2, cq_3_3, cq_3_4, cq_3_5, cq_3_6, cq_3_7, cq_3_8, cq_3_9, cq_3_10, cq_3_11, cq_3_12, cq_3_13⟩ := pt_cells Rq_3
      go_wp2_with fail
      refine (K3.out _).mono ?_
      rintro r w4 ⟨rfl, b4⟩
      have B4 : Below w.heap.size w w4 := btr7 B3 b4
      have Rb_4 := heap_of b4 _ _ _ Rb_3
      have Rp_4 := heap_of b4 _ _ _ Rp_3
      have Rq_4 := heap_of b4 _ _ _ Rq_3
      clear b4 B3 Rb_3 cb_3_0 cb_3_1 Rp_3 cp_3_0 cp_3_1 cp_3_2 cp_3_3 cp_3_4 cp_3_5 cp_3_6 cp_3_7 cp_3_8 cp_3_9 cp_3_10 cp_3_11 cp_3_12 cp_3_13 Rq_3 cq_3_0 cq_3_1 cq_3_2 cq_3_3 cq_3_4 cq_3_5 cq_3_6 cq_3_7 cq_3_8 cq_3_9 cq_3_10 cq_3_11 cq_3_12 cq_3_13
      obtain ⟨cb_4_0, cb_4_1⟩ := cell7t Rb_4
      obtain ⟨cp_4_0, cp_4_1, cp_4_2, cp_4_3, cp_4_4, cp_4_5, cp_4_6, cp_4_7, cp_4_8, cp_4_9, cp_4_10, cp_4_11, cp_4_12, cp_4_13⟩ := pt_cells Rp_4
      obtain ⟨cq_4_0, cq_4_1, cq_4_2, cq_4_3, cq_4_4, cq_4_5, cq_4_6, cq_4_7, cq_4_8, cq_4_9, cq_4_10, cq_4_11, cq_4_12, cq_4_13⟩ := pt_cells Rq_4
      go_wp2_with fail
      refine (KR0.out _ (fatB TT.out B4)).mono ?_
      rintro r w5 ⟨rfl, b5⟩
      have B5 : Below w.heap.size w w5 := btr7 B4 b5
      have Rb_5 := heap_of b5 _ _ _ Rb_4
      have Rp_5 := heap_of b5 _ _ _ Rp_4
      have Rq_5 := heap_of b5 _ _ _ Rq_4
      clear b5 B4 Rb_4 cb_4_0 cb_4_1 Rp_4 cp_4_0 cp_4_1 cp_4_2 cp_4_3 cp_4_4 cp_4_5 cp_4_6 cp_4_7 cp_4_8 cp_4_9 cp_4_10 cp_4_11 cp_4_12 cp_4_13 Rq_4 cq_4_0 cq_4_1 cq_4_2 cq_4_3 cq_4_4 cq_4_5 cq_4_6 cq_4_7 cq_4_8 cq_4_9 cq_4_10 cq_4_11 cq_4_12 cq_4_13
      obtain ⟨cb_5_0, cb_5_1⟩ := cell7t Rb_5
      obtain ⟨cp_5_0, cp_5_1, cp_5_2, cp_5_3, cp_5_4, cp_5_5, cp_5_6, cp_5_7, cp_5_8, cp_5_9, cp_5_10, cp_5_11, cp_5_12, cp_5_13⟩ := pt_cells Rp_5
      obtain ⟨cq_5_0, cq_5_1, cq_5_2, cq_5_3, cq_5_4, cq_5_5, cq_5_6, cq_5_7, cq_5_8, cq_5_9, cq_5_10, cq_5_11, cq_5_12, cq_5_13⟩ := pt_cells Rq_5
      have S6 := box B5.size
      have Lb_6 : Box (w.heap.size < w5.heap.size) := box (Array.getElem?_eq_some_iff.1 Rb_5).1
      have Lp_6 : Box (w.heap.size + 1 < w5.heap.size) := box (Array.getElem?_eq_some_iff.1 Rp_5).1
      have Lq_6 : Box (w2.heap.size < w5.heap.size) := box (Array.getElem?_eq_some_iff.1 Rq_5).1
      have Rd_6 := heap_alloc_last w5 (Obj.cells #[.int .u64 0, .int .u64 0] 25)
      have B6 := btr7 B5 (bal7 w5 (Obj.cells #[.int .u64 0, .int .u64 0] 25))
      have Rb_6 := heap_of (bal7 w5 (Obj.cells #[.int .u64 0, .int .u64 0] 25)) _ _ _ Rb_5
      have Rp_6 := heap_of (bal7 w5 (Obj.cells #[.int .u64 0, .int .u64 0] 25)) _ _ _ Rp_5
      have Rq_6 := heap_of (bal7 w5 (Obj.cells #[.int .u64 0, .int .u64 0] 25)) _ _ _ Rq_5
      clear B5 Rb_5 cb_5_0 cb_5_1 Rp_5 cp_5_0 cp_5_1 cp_5_2 cp_5_3 cp_5_4 cp_5_5 cp_5_6 cp_5_7 cp_5_8 cp_5_9 cp_5_10 cp_5_11 cp_5_12 cp_5_13 Rq_5 cq_5_0 cq_5_1 cq_5_2 cq_5_3 cq_5_4 cq_5_5 cq_5_6 cq_5_7 cq_5_8 cq_5_9 cq_5_10 cq_5_11 cq_5_12 cq_5_13
      obtain ⟨cb_6_0, cb_6_1⟩ := cell7t Rb_6
      obtain ⟨cp_6_0, cp_6_1, cp_6_2, cp_6_3, cp_6_4, cp_6_5, cp_6_6, cp_6_7, cp_6_8, cp_6_9, cp_6_10, cp_6_11, cp_6_12, cp_6_13⟩ := pt_cells Rp_6
      obtain ⟨cq_6_0, cq_6_1, cq_6_2, cq_6_3, cq_6_4, cq_6_5, cq_6_6, cq_6_7, cq_6_8, cq_6_9, cq_6_10, cq_6_11, cq_6_12, cq_6_13⟩ := pt_cells Rq_6
      obtain ⟨cd_6_0, cd_6_1⟩ := cell7t Rd_6
      go_wp2_with fail
      refine (KR.out _).mono ?_
      rintro r w' ⟨rfl, hw'⟩
      obtain rfl := hw'.symm
      go_wp2_with fail
      refine (KA.out _ (fatB TT.out B6)).mono ?_
      rintro r w7 ⟨rfl, b7⟩
      have B7 : Below w.heap.size w w7 := btr7 B6 b7
      have Rb_7 := heap_of b7 _ _ _ Rb_6
      have Rp_7 := heap_of b7 _ _ _ Rp_6
      have Rq_7 := heap_of b7 _ _ _ Rq_6
      have Rd_7 := heap_of b7 _ _ _ Rd_6
      clear b7 B6 Rb_6 cb_6_0 cb_6_1 Rp_6 cp_6_0 cp_6_1 cp_6_2 cp_6_3 cp_6_4 cp_6_5 cp_6_6 cp_6_7 cp_6_8 cp_6_9 cp_6_10 cp_6_11 cp_6_12 cp_6_13 Rq_6 cq_6_0 cq_6_1 cq_6_2 cq_6_3 cq_6_4 cq_6_5 cq_6_6 cq_6_7 cq_6_8 cq_6_9 cq_6_10 cq_6_11 cq_6_12 cq_6_13 Rd_6 cd_6_0 cd_6_1
      obtain ⟨cb_7_0, cb_7_1⟩ := cell7t Rb_7
      obtain ⟨cp_7_0, cp_7_1, cp_7_2, cp_7_3, cp_7_4, cp_7_5, cp_7_6, cp_7_7, cp_7_8, cp_7_9, cp_7_10, cp_7_11, cp_7_12, cp_7_13⟩ := pt_cells Rp_7
      obtain ⟨cq_7_0, cq_7_1, cq_7_2, cq_7_3, cq_7_4, cq_7_5, cq_7_6, cq_7_7, cq_7_8, cq_7_9, cq_7_10, cq_7_11, cq_7_12, cq_7_13⟩ := pt_cells Rq_7
      obtain ⟨cd_7_0, cd_7_1⟩ := cell7t Rd_7
      go_wp2
      go_ret
      exact ⟨rfl, B7⟩
  · obtain ⟨hf, fit⟩ := okB_yes b0.1 ho
    have h3 : a0 ≤ 3 := (of_decide_eq_true ho).1
    obtain ⟨C, hC⟩ : ∃ q, kC a0 n = q := ⟨_, rfl⟩
    obtain ⟨S, hS⟩ : ∃ q, kS a0 n = q := ⟨_, rfl⟩
    obtain ⟨X, hX⟩ : ∃ q, kX a0 n = q := ⟨_, rfl⟩
    obtain ⟨R, hR⟩ : ∃ q, kF a0 n = q := ⟨_, rfl⟩
    have K1 := box (kClass_yes a0 hf x y n C hx hy hn ho hC)
    have K2 := box (kUnpack_yes a0 hf x y n C S R X hx hy hn ho (by unfold kp; rw [hC, hS, hX, hR]))
    have K3 := box (kfits_law a0 x y n true b0.1 hx hy hn ho)
    have K4 := box (rk_class a0 hf x y n C hx hy hn fit hC)
    have K5 := box (fun w => rUnpack_is a0 hf x y n hx hy hn fit w)
    rw [hC, hS, hX, hR] at K5
    have QS := kS_lt hf n
    rw [hS, hR] at QS
    obtain ⟨q1, q2⟩ := QS
    have KR := box (r_right a0 true (by simp [h3]))
    obtain ⟨m, e, hme⟩ : ∃ m e, pk a0 (pc2, ps2, px2, pr2) = (m, e) := ⟨_, _, rfl⟩
    obtain ⟨u, v, huv⟩ : ∃ u v, bv7 m = (u, v) := ⟨_, _, rfl⟩
    have KR0 := box (fun w hT => kPack_is a0 hf pc2 ps2 pr2 u v m px2 e ls lr bx.1 bx.2 hme huv w hT)
    have KS := box (fun w => rPack_is a0 hf pc2 ps2 pr2 u v m px2 e ls lr bx.1 bx.2 hme huv w)
    have we : IntKind.i64.wrap e = e := by
      unfold pk at hme
      rw [IntKind.wrap_i64]
      split at hme <;> (injection hme with _ q2; omega)
    clear hx hy hn ho h0 lc ls lr lx2 bx hme huv hf h3 fit hC hS hX hR
    · obtain ⟨Rb_0, Rp_0, B0⟩ := kopn2 w (Obj.cells #[.int .u64 (x : Nat), .int .u64 (y : Nat)] 25) (Obj.cells (pt pc2 ps2 px2 pr2) 30)
      go_enter Tryd.func3, Tryd.ntmps3
      go_wp2_with fail
      refine (K1.out _ (fatB TT.out B0)).mono ?_
      rintro r w1 ⟨rfl, b1⟩
      have B1 : Below w.heap.size w w1 := btr7 B0 b1
      have Rb_1 := heap_of b1 _ _ _ Rb_0
      have Rp_1 := heap_of b1 _ _ _ Rp_0
      clear b1 B0 Rb_0 Rp_0
      obtain ⟨cb_1_0, cb_1_1⟩ := cell7t Rb_1
      obtain ⟨cp_1_0, cp_1_1, cp_1_2, cp_1_3, cp_1_4, cp_1_5, cp_1_6, cp_1_7, cp_1_8, cp_1_9, cp_1_10, cp_1_11, cp_1_12, cp_1_13⟩ := pt_cells Rp_1
      go_wp2_with fail
      refine (K2.out _ (fatB TT.out B1)).mono ?_
      rintro r w2 ⟨rfl, b2⟩
      have B2 : Below w.heap.size w w2 := btr7 B1 b2
      have Rb_2 := heap_of b2 _ _ _ Rb_1
      have Rp_2 := heap_of b2 _ _ _ Rp_1
      clear b2 B1 Rb_1 cb_1_0 cb_1_1 Rp_1 cp_1_0 cp_1_1 cp_1_2 cp_1_3 cp_1_4 cp_1_5 cp_1_6 cp_1_7 cp_1_8 cp_1_9 cp_1_10 cp_1_11 cp_1_12 cp_1_13
      obtain ⟨cb_2_0, cb_2_1⟩ := cell7t Rb_2
      obtain ⟨cp_2_0, cp_2_1, cp_2_2, cp_2_3, cp_2_4, cp_2_5, cp_2_6, cp_2_7, cp_2_8, cp_2_9, cp_2_10, cp_2_11, cp_2_12, cp_2_13⟩ := pt_cells Rp_2
      have S3 := box B2.size
      have Lb_3 : Box (w.heap.size < w2.heap.size) := box (Array.getElem?_eq_some_iff.1 Rb_2).1
      have Lp_3 : Box (w.heap.size + 1 < w2.heap.size) := box (Array.getElem?_eq_some_iff.1 Rp_2).1
      have Rq_3 := heap_alloc_last w2 (Obj.cells (pt C S X R) 30)
      have B3 := btr7 B2 (bal7 w2 (Obj.cells (pt C S X R) 30))
      have Rb_3 := heap_of (bal7 w2 (Obj.cells (pt C S X R) 30)) _ _ _ Rb_2
      have Rp_3 := heap_of (bal7 w2 (Obj.cells (pt C S X R) 30)) _ _ _ Rp_2
      clear B2 Rb_2 cb_2_0 cb_2_1 Rp_2 cp_2_0 cp_2_1 cp_2_2 cp_2_3 cp_2_4 cp_2_5 cp_2_6 cp_2_7 cp_2_8 cp_2_9 cp_2_10 cp_2_11 cp_2_12 cp_2_13
      obtain ⟨cb_3_0, cb_3_1⟩ := cell7t Rb_3
      obtain ⟨cp_3_0, cp_3_1, cp_3_2, cp_3_3, cp_3_4, cp_3_5, cp_3_6, cp_3_7, cp_3_8, cp_3_9, cp_3_10, cp_3_11, cp_3_12, cp_3_13⟩ := pt_cells Rp_3
      obtain ⟨cq_3_0, cq_3_1, cq_3_2, cq_3_3, cq_3_4, cq_3_5, cq_3_6, cq_3_7, cq_3_8, cq_3_9, cq_3_10, cq_3_11, cq_3_12, cq_3_13⟩ := pt_cells Rq_3
      go_wp2_with fail
      refine (K3.out _).mono ?_
      rintro r w4 ⟨rfl, b4⟩
      have B4 : Below w.heap.size w w4 := btr7 B3 b4
      have Rb_4 := heap_of b4 _ _ _ Rb_3
      have Rp_4 := heap_of b4 _ _ _ Rp_3
      have Rq_4 := heap_of b4 _ _ _ Rq_3
      clear b4 B3 Rb_3 cb_3_0 cb_3_1 Rp_3 cp_3_0 cp_3_1 cp_3_2 cp_3_3 cp_3_4 cp_3_5 cp_3_6 cp_3_7 cp_3_8 cp_3_9 cp_3_10 cp_3_11 cp_3_12 cp_3_13 Rq_3 cq_3_0 cq_3_1 cq_3_2 cq_3_3 cq_3_4 cq_3_5 cq_3_6 cq_3_7 cq_3_8 cq_3_9 cq_3_10 cq_3_11 cq_3_12 cq_3_13
      obtain ⟨cb_4_0, cb_4_1⟩ := cell7t Rb_4
      obtain ⟨cp_4_0, cp_4_1, cp_4_2, cp_4_3, cp_4_4, cp_4_5, cp_4_6, cp_4_7, cp_4_8, cp_4_9, cp_4_10, cp_4_11, cp_4_12, cp_4_13⟩ := pt_cells Rp_4
      obtain ⟨cq_4_0, cq_4_1, cq_4_2, cq_4_3, cq_4_4, cq_4_5, cq_4_6, cq_4_7, cq_4_8, cq_4_9, cq_4_10, cq_4_11, cq_4_12, cq_4_13⟩ := pt_cells Rq_4
      go_wp2_with fail
      obtain ⟨F, hF1, hF2⟩ := below_fun w4
      have fb_0 := fun u => cell7 (heap_of (hF1 u) _ _ _ Rb_4) 0 _ rfl
      have fb_1 := fun u => cell7 (heap_of (hF1 u) _ _ _ Rb_4) 1 _ rfl
      have fp_0 := fun u => cell7 (heap_of (hF1 u) _ _ _ Rp_4) 0 _ rfl
      have fp_1 := fun u => cell7 (heap_of (hF1 u) _ _ _ Rp_4) 1 _ rfl
      have fp_2 := fun u => cell7 (heap_of (hF1 u) _ _ _ Rp_4) 2 _ rfl
      have fp_3 := fun u => cell7 (heap_of (hF1 u) _ _ _ Rp_4) 3 _ rfl
      have fp_4 := fun u => cell7 (heap_of (hF1 u) _ _ _ Rp_4) 4 _ rfl
      have fp_5 := fun u => cell7 (heap_of (hF1 u) _ _ _ Rp_4) 5 _ rfl
      have fp_6 := fun u => cell7 (heap_of (hF1 u) _ _ _ Rp_4) 6 _ rfl
      have fp_7 := fun u => cell7 (heap_of (hF1 u) _ _ _ Rp_4) 7 _ rfl
      have fp_8 := fun u => cell7 (heap_of (hF1 u) _ _ _ Rp_4) 8 _ rfl
      have fp_9 := fun u => cell7 (heap_of (hF1 u) _ _ _ Rp_4) 9 _ rfl
      have fp_10 := fun u => cell7 (heap_of (hF1 u) _ _ _ Rp_4) 10 _ rfl
      have fp_11 := fun u => cell7 (heap_of (hF1 u) _ _ _ Rp_4) 11 _ rfl
      have fp_12 := fun u => cell7 (heap_of (hF1 u) _ _ _ Rp_4) 12 _ rfl
      have fp_13 := fun u => cell7 (heap_of (hF1 u) _ _ _ Rp_4) 13 _ rfl
      have fq_0 := fun u => cell7 (heap_of (hF1 u) _ _ _ Rq_4) 0 _ rfl
      have fq_1 := fun u => cell7 (heap_of (hF1 u) _ _ _ Rq_4) 1 _ rfl
      have fq_2 := fun u => cell7 (heap_of (hF1 u) _ _ _ Rq_4) 2 _ rfl
      have fq_3 := fun u => cell7 (heap_of (hF1 u) _ _ _ Rq_4) 3 _ rfl
      have fq_4 := fun u => cell7 (heap_of (hF1 u) _ _ _ Rq_4) 4 _ rfl
      have fq_5 := fun u => cell7 (heap_of (hF1 u) _ _ _ Rq_4) 5 _ rfl
      have fq_6 := fun u => cell7 (heap_of (hF1 u) _ _ _ Rq_4) 6 _ rfl
      have fq_7 := fun u => cell7 (heap_of (hF1 u) _ _ _ Rq_4) 7 _ rfl
      have fq_8 := fun u => cell7 (heap_of (hF1 u) _ _ _ Rq_4) 8 _ rfl
      have fq_9 := fun u => cell7 (heap_of (hF1 u) _ _ _ Rq_4) 9 _ rfl
      have fq_10 := fun u => cell7 (heap_of (hF1 u) _ _ _ Rq_4) 10 _ rfl
      have fq_11 := fun u => cell7 (heap_of (hF1 u) _ _ _ Rq_4) 11 _ rfl
      have fq_12 := fun u => cell7 (heap_of (hF1 u) _ _ _ Rq_4) 12 _ rfl
      have fq_13 := fun u => cell7 (heap_of (hF1 u) _ _ _ Rq_4) 13 _ rfl
      refine wp_region_below F hF2 (by kernel_rfl) (by kernel_rfl) ?_
      repeat first | go_big_quiet_step (first | (go_at_call 7; exact quietF hF1 hF2 (K4.out _)) | (go_at_call 8; exact quietF hF1 hF2 (K5.out _)) | fail) | quiet_step (first | (go_at_call 7; exact quietF hF1 hF2 (K4.out _)) | (go_at_call 8; exact quietF hF1 hF2 (K5.out _)) | fail)
      refine wpQuiet_nil ?_
      rintro _ ⟨uW, rfl⟩
      have B5 := btr7 B4 (hF1 uW)
      have Rb_5 := heap_of (hF1 uW) _ _ _ Rb_4
      have Rp_5 := heap_of (hF1 uW) _ _ _ Rp_4
      have Rq_5 := heap_of (hF1 uW) _ _ _ Rq_4
      obtain ⟨w5, hw⟩ : ∃ V, F uW = V := ⟨_, rfl⟩
      rw [hw] at B5 Rb_5 Rp_5 Rq_5
      try rw [hw]
      clear hw hF1 hF2 B4 fb_0 fb_1 fp_0 fp_1 fp_2 fp_3 fp_4 fp_5 fp_6 fp_7 fp_8 fp_9 fp_10 fp_11 fp_12 fp_13 fq_0 fq_1 fq_2 fq_3 fq_4 fq_5 fq_6 fq_7 fq_8 fq_9 fq_10 fq_11 fq_12 fq_13 Rb_4 cb_4_0 cb_4_1 Rp_4 cp_4_0 cp_4_1 cp_4_2 cp_4_3 cp_4_4 cp_4_5 cp_4_6 cp_4_7 cp_4_8 cp_4_9 cp_4_10 cp_4_11 cp_4_12 cp_4_13 Rq_4 cq_4_0 cq_4_1 cq_4_2 cq_4_3 cq_4_4 cq_4_5 cq_4_6 cq_4_7 cq_4_8 cq_4_9 cq_4_10 cq_4_11 cq_4_12 cq_4_13
      clear F
      obtain ⟨cb_5_0, cb_5_1⟩ := cell7t Rb_5
      obtain ⟨cp_5_0, cp_5_1, cp_5_2, cp_5_3, cp_5_4, cp_5_5, cp_5_6, cp_5_7, cp_5_8, cp_5_9, cp_5_10, cp_5_11, cp_5_12, cp_5_13⟩ := pt_cells Rp_5
      obtain ⟨cq_5_0, cq_5_1, cq_5_2, cq_5_3, cq_5_4, cq_5_5, cq_5_6, cq_5_7, cq_5_8, cq_5_9, cq_5_10, cq_5_11, cq_5_12, cq_5_13⟩ := pt_cells Rq_5
      go_wp2_with fail
      refine (KR0.out _ (fatB TT.out B5)).mono ?_
      rintro r w6 ⟨rfl, b6⟩
      have B6 : Below w.heap.size w w6 := btr7 B5 b6
      have Rb_6 := heap_of b6 _ _ _ Rb_5
      have Rp_6 := heap_of b6 _ _ _ Rp_5
      have Rq_6 := heap_of b6 _ _ _ Rq_5
      clear b6 B5 Rb_5 cb_5_0 cb_5_1 Rp_5 cp_5_0 cp_5_1 cp_5_2 cp_5_3 cp_5_4 cp_5_5 cp_5_6 cp_5_7 cp_5_8 cp_5_9 cp_5_10 cp_5_11 cp_5_12 cp_5_13 Rq_5 cq_5_0 cq_5_1 cq_5_2 cq_5_3 cq_5_4 cq_5_5 cq_5_6 cq_5_7 cq_5_8 cq_5_9 cq_5_10 cq_5_11 cq_5_12 cq_5_13
      obtain ⟨cb_6_0, cb_6_1⟩ := cell7t Rb_6
      obtain ⟨cp_6_0, cp_6_1, cp_6_2, cp_6_3, cp_6_4, cp_6_5, cp_6_6, cp_6_7, cp_6_8, cp_6_9, cp_6_10, cp_6_11, cp_6_12, cp_6_13⟩ := pt_cells Rp_6
      obtain ⟨cq_6_0, cq_6_1, cq_6_2, cq_6_3, cq_6_4, cq_6_5, cq_6_6, cq_6_7, cq_6_8, cq_6_9, cq_6_10, cq_6_11, cq_6_12, cq_6_13⟩ := pt_cells Rq_6
      have S7 := box B6.size
      have Lb_7 : Box (w.heap.size < w6.heap.size) := box (Array.getElem?_eq_some_iff.1 Rb_6).1
      have Lp_7 : Box (w.heap.size + 1 < w6.heap.size) := box (Array.getElem?_eq_some_iff.1 Rp_6).1
      have Lq_7 : Box (w2.heap.size < w6.heap.size) := box (Array.getElem?_eq_some_iff.1 Rq_6).1
      have Rd_7 := heap_alloc_last w6 (Obj.cells #[.int .u64 (u : Nat), .int .u64 (v : Nat)] 25)
      have B7 := btr7 B6 (bal7 w6 (Obj.cells #[.int .u64 (u : Nat), .int .u64 (v : Nat)] 25))
      have Rb_7 := heap_of (bal7 w6 (Obj.cells #[.int .u64 (u : Nat), .int .u64 (v : Nat)] 25)) _ _ _ Rb_6
      have Rp_7 := heap_of (bal7 w6 (Obj.cells #[.int .u64 (u : Nat), .int .u64 (v : Nat)] 25)) _ _ _ Rp_6
      have Rq_7 := heap_of (bal7 w6 (Obj.cells #[.int .u64 (u : Nat), .int .u64 (v : Nat)] 25)) _ _ _ Rq_6
      clear B6 Rb_6 cb_6_0 cb_6_1 Rp_6 cp_6_0 cp_6_1 cp_6_2 cp_6_3 cp_6_4 cp_6_5 cp_6_6 cp_6_7 cp_6_8 cp_6_9 cp_6_10 cp_6_11 cp_6_12 cp_6_13 Rq_6 cq_6_0 cq_6_1 cq_6_2 cq_6_3 cq_6_4 cq_6_5 cq_6_6 cq_6_7 cq_6_8 cq_6_9 cq_6_10 cq_6_11 cq_6_12 cq_6_13
      obtain ⟨cb_7_0, cb_7_1⟩ := cell7t Rb_7
      obtain ⟨cp_7_0, cp_7_1, cp_7_2, cp_7_3, cp_7_4, cp_7_5, cp_7_6, cp_7_7, cp_7_8, cp_7_9, cp_7_10, cp_7_11, cp_7_12, cp_7_13⟩ := pt_cells Rp_7
      obtain ⟨cq_7_0, cq_7_1, cq_7_2, cq_7_3, cq_7_4, cq_7_5, cq_7_6, cq_7_7, cq_7_8, cq_7_9, cq_7_10, cq_7_11, cq_7_12, cq_7_13⟩ := pt_cells Rq_7
      obtain ⟨cd_7_0, cd_7_1⟩ := cell7t Rd_7
      go_wp2_with fail
      refine (KR.out _).mono ?_
      rintro r w' ⟨rfl, hw'⟩
      obtain rfl := hw'.symm
      go_wp2_with fail
      refine (KS.out _).mono ?_
      rintro r w8 ⟨rfl, b8⟩
      have B8 : Below w.heap.size w w8 := btr7 B7 b8
      have Rb_8 := heap_of b8 _ _ _ Rb_7
      have Rp_8 := heap_of b8 _ _ _ Rp_7
      have Rq_8 := heap_of b8 _ _ _ Rq_7
      have Rd_8 := heap_of b8 _ _ _ Rd_7
      clear b8 B7 Rb_7 cb_7_0 cb_7_1 Rp_7 cp_7_0 cp_7_1 cp_7_2 cp_7_3 cp_7_4 cp_7_5 cp_7_6 cp_7_7 cp_7_8 cp_7_9 cp_7_10 cp_7_11 cp_7_12 cp_7_13 Rq_7 cq_7_0 cq_7_1 cq_7_2 cq_7_3 cq_7_4 cq_7_5 cq_7_6 cq_7_7 cq_7_8 cq_7_9 cq_7_10 cq_7_11 cq_7_12 cq_7_13 Rd_7 cd_7_0 cd_7_1
      obtain ⟨cb_8_0, cb_8_1⟩ := cell7t Rb_8
      obtain ⟨cp_8_0, cp_8_1, cp_8_2, cp_8_3, cp_8_4, cp_8_5, cp_8_6, cp_8_7, cp_8_8, cp_8_9, cp_8_10, cp_8_11, cp_8_12, cp_8_13⟩ := pt_cells Rp_8
      obtain ⟨cq_8_0, cq_8_1, cq_8_2, cq_8_3, cq_8_4, cq_8_5, cq_8_6, cq_8_7, cq_8_8, cq_8_9, cq_8_10, cq_8_11, cq_8_12, cq_8_13⟩ := pt_cells Rq_8
      obtain ⟨cd_8_0, cd_8_1⟩ := cell7t Rd_8
      have S9 := box B8.size
      have Lb_9 : Box (w.heap.size < w8.heap.size) := box (Array.getElem?_eq_some_iff.1 Rb_8).1
      have Lp_9 : Box (w.heap.size + 1 < w8.heap.size) := box (Array.getElem?_eq_some_iff.1 Rp_8).1
      have Lq_9 : Box (w2.heap.size < w8.heap.size) := box (Array.getElem?_eq_some_iff.1 Rq_8).1
      have Ld_9 : Box (w6.heap.size < w8.heap.size) := box (Array.getElem?_eq_some_iff.1 Rd_8).1
      have Rx_9 := heap_alloc_last w8 (Obj.cells #[.int .u64 (u : Nat), .int .u64 (v : Nat)] 25)
      have B9 := btr7 B8 (bal7 w8 (Obj.cells #[.int .u64 (u : Nat), .int .u64 (v : Nat)] 25))
      have Rb_9 := heap_of (bal7 w8 (Obj.cells #[.int .u64 (u : Nat), .int .u64 (v : Nat)] 25)) _ _ _ Rb_8
      have Rp_9 := heap_of (bal7 w8 (Obj.cells #[.int .u64 (u : Nat), .int .u64 (v : Nat)] 25)) _ _ _ Rp_8
      have Rq_9 := heap_of (bal7 w8 (Obj.cells #[.int .u64 (u : Nat), .int .u64 (v : Nat)] 25)) _ _ _ Rq_8
      have Rd_9 := heap_of (bal7 w8 (Obj.cells #[.int .u64 (u : Nat), .int .u64 (v : Nat)] 25)) _ _ _ Rd_8
      clear B8 Rb_8 cb_8_0 cb_8_1 Rp_8 cp_8_0 cp_8_1 cp_8_2 cp_8_3 cp_8_4 cp_8_5 cp_8_6 cp_8_7 cp_8_8 cp_8_9 cp_8_10 cp_8_11 cp_8_12 cp_8_13 Rq_8 cq_8_0 cq_8_1 cq_8_2 cq_8_3 cq_8_4 cq_8_5 cq_8_6 cq_8_7 cq_8_8 cq_8_9 cq_8_10 cq_8_11 cq_8_12 cq_8_13 Rd_8 cd_8_0 cd_8_1
      obtain ⟨cb_9_0, cb_9_1⟩ := cell7t Rb_9
      obtain ⟨cp_9_0, cp_9_1, cp_9_2, cp_9_3, cp_9_4, cp_9_5, cp_9_6, cp_9_7, cp_9_8, cp_9_9, cp_9_10, cp_9_11, cp_9_12, cp_9_13⟩ := pt_cells Rp_9
      obtain ⟨cq_9_0, cq_9_1, cq_9_2, cq_9_3, cq_9_4, cq_9_5, cq_9_6, cq_9_7, cq_9_8, cq_9_9, cq_9_10, cq_9_11, cq_9_12, cq_9_13⟩ := pt_cells Rq_9
      obtain ⟨cd_9_0, cd_9_1⟩ := cell7t Rd_9
      obtain ⟨cx_9_0, cx_9_1⟩ := cell7t Rx_9
      go_wp2_with fail
      refine (KA.out _ (fatB TT.out B9)).mono ?_
      rintro r w10 ⟨rfl, b10⟩
      have B10 : Below w.heap.size w w10 := btr7 B9 b10
      have Rb_10 := heap_of b10 _ _ _ Rb_9
      have Rp_10 := heap_of b10 _ _ _ Rp_9
      have Rq_10 := heap_of b10 _ _ _ Rq_9
      have Rd_10 := heap_of b10 _ _ _ Rd_9
      have Rx_10 := heap_of b10 _ _ _ Rx_9
      clear b10 B9 Rb_9 cb_9_0 cb_9_1 Rp_9 cp_9_0 cp_9_1 cp_9_2 cp_9_3 cp_9_4 cp_9_5 cp_9_6 cp_9_7 cp_9_8 cp_9_9 cp_9_10 cp_9_11 cp_9_12 cp_9_13 Rq_9 cq_9_0 cq_9_1 cq_9_2 cq_9_3 cq_9_4 cq_9_5 cq_9_6 cq_9_7 cq_9_8 cq_9_9 cq_9_10 cq_9_11 cq_9_12 cq_9_13 Rd_9 cd_9_0 cd_9_1 Rx_9 cx_9_0 cx_9_1
      obtain ⟨cb_10_0, cb_10_1⟩ := cell7t Rb_10
      obtain ⟨cp_10_0, cp_10_1, cp_10_2, cp_10_3, cp_10_4, cp_10_5, cp_10_6, cp_10_7, cp_10_8, cp_10_9, cp_10_10, cp_10_11, cp_10_12, cp_10_13⟩ := pt_cells Rp_10
      obtain ⟨cq_10_0, cq_10_1, cq_10_2, cq_10_3, cq_10_4, cq_10_5, cq_10_6, cq_10_7, cq_10_8, cq_10_9, cq_10_10, cq_10_11, cq_10_12, cq_10_13⟩ := pt_cells Rq_10
      obtain ⟨cd_10_0, cd_10_1⟩ := cell7t Rd_10
      obtain ⟨cx_10_0, cx_10_1⟩ := cell7t Rx_10
      go_wp2
      go_ret
      exact ⟨rfl, B10⟩
set_option maxRecDepth 100000 in
theorem lifted (os : Os) (started : os.Started) (H : Type) (enc : TypeId × Value → H) :
    ReturnsInHanded {} Tryd.checked os 3 .any (fun w args => (Rows.kindPartsSpec.pre enc Tryd.prog Tryd.f3 [] false w args ∧ laidMetH Tryd.prog laid7 w) ∧ sizedMet enc Tryd.prog Tryd.f3 (OpenSpec.ofChange Rows.kindPartsSpec) false w args)
      (Rows.kindPartsSpec.post enc Tryd.prog Tryd.f3 false true false false) := by
  refine returnsInHanded_of_change_and (C := Tryd.checked) (X := fun w _ => laidMetH Tryd.prog laid7 w) (fun _ _ _ hh h => h.of_heap hh) own started (by kernel_rfl) Tryd.func3
    (ChangeSpec.witness_shaped (enc := enc) (C := Tryd.checked) (os := os) (X := fun w _ => laidMetH Tryd.prog laid7 w) false (World.doorLaid Tryd.prog 400 os) #[.int .u8 0, .agg #[.int .u64 0, .int .u64 0], .agg #[.int .u8 0, .int .u64 0, .int .u64 0, .int .u64 0, .int .u64 0, .int .u64 0, .int .u64 0, .int .i64 0, .int .u64 0, .int .u64 0, .int .u64 0, .int .u64 0, .int .u64 0, .int .u64 0]] 8 rfl (World.shaped_of_RefB (by kernel_rfl) (by kernel_rfl)) (by kernel_rfl) (by kernel_rfl) (by kernel_rfl) (door_met7 os _)) ?_
  intro W base args ds gs before hval0 hW _ _ hL _
  have hval : ∀ (j : Nat) t v, Tryd.f3.params[j]? = some t → args[j]? = some v → Value.okWide Tryd.prog W .any base t v := hval0
  have hW' := hW
  obtain ⟨p, q, hA0, hV, rfl, hfz, hnd⟩ := hW
  have hA : DataW.TrodAll enc Tryd.prog W 0 (fun _ => true) true Tryd.f3.params.toList args.toList ds p := hA0
  rw [Tryd.params3] at hA hval
  obtain ⟨v0, vs0, d0, ds0, p0, q0, hargs, rfl, rfl, k0, r0⟩ := trodAll_cons hA
  obtain ⟨v1, vs1, d1, ds1, p1, q1, rfl, rfl, rfl, k1, r1⟩ := trodAll_cons r0
  obtain ⟨v2, vs2, d2, ds2, p2, q2, rfl, rfl, rfl, k2, r2⟩ := trodAll_cons r1
  obtain ⟨rfl, rfl, rfl⟩ := trodAll_nil r2
  obtain rfl : args = #[v0, v1, v2] := by cases args; simp_all
  obtain ⟨rfl, rfl⟩ := trodVars_none hV
  obtain ⟨a0, rfl, rfl, rfl, h0⟩ := open_int Tryd.underlying22 (hval 0 22 v0 rfl rfl) k0
  obtain ⟨a1, h1, rfl, rfl, rfl⟩ := open_bits (hval 1 25 v1 rfl rfl) k1
  obtain ⟨pc2, ps2, px2, pr2, rfl, rfl, rfl, h2⟩ := open_parts (hval 2 30 v2 rfl rfl) k2
  clear hA0 hval0
  simp only [List.append_nil] at hW'
  refine (walk a0 a1 pc2 ps2 px2 pr2 h0 h1 h2 W (of_laid7 hL)).mono fun e W' ⟨he, hg⟩ => ?_
  subst he
  exact ⟨_, rfl, post_plain hW' (fun _ _ _ => trodAll_mk1 (shut_bool Tryd.underlying4 _)) (fun sp => (trodAll_cons_mk (shut_int Tryd.underlying22 h0) (trodAll_cons_mk (shut_bits a1 h1) (trodAll_cons_mk (shut_parts h2) trodAll_mk0)))) (fun _ => rfl) hg (ok_one (by kernel_rfl) rfl (okWide_bool_mk Tryd.underlying4 _))⟩

theorem over : Rows.KindPartsSaid :=
  OpenClaim.holds_of_wide 3 Tryd.f3 rfl rfl rfl rfl rfl rfl rfl ⟨rfl, rfl, rfl, rfl, rfl⟩ rfl rfl rfl rfl rfl (by kernel_rfl) Tryd.func3 (by kernel_rfl)
    (of_decide_eq_true (by kernel_rfl)) (by unfold Func.isWrapper; first | (rw [if_pos (by decide +kernel)]; kernel_rfl) | (rw [if_neg (by decide +kernel)]; exact ⟨rfl, rfl⟩))
    (fun os started H enc _ => lifted os started H enc)

theorem proved : Rows.KindPartsCardSaid :=
  Claim7.holds_tied_plain_at .later [] [.data] true (true, "b3763ecff62b5508ca25bdc35a6d8dc1946121937a484472dc011c08d97104b9") false
    over (fun _ h => by cases h) (by kernel_rfl) (fun _ h => by cases h) kindParts_row_tie rfl ⟨rfl, rfl⟩ (by kernel_rfl) rfl
    (fun f fn hf hfn => by
      obtain rfl : f = 3 := Option.some.inj ((show Tryd.prog.funcNamed "abacus/abacuslaw08.KindParts" = some 3 by kernel_rfl).symm.trans hf) |>.symm
      obtain rfl : fn = Tryd.f3 := (Option.some.inj (Tryd.func3.symm.trans hfn)).symm
      exact ⟨by kernel_rfl, fun j t ht => by
        rw [Tryd.params3] at ht
        have h3 : t = 22 ∨ t = 25 ∨ t = 30 := by
          rcases j with _ | _ | _ | j
          · exact (Or.inl (by simpa using ht.symm))
          · exact (Or.inr (Or.inl (by simpa using ht.symm)))
          · exact (Or.inr (Or.inr (by simpa using ht.symm)))
          · simp at ht
        rcases h3 with rfl | rfl | rfl
        · exact (show Tryd.prog.wantsStandIn 22 = false by kernel_rfl)
        · exact (show Tryd.prog.wantsStandIn 25 = false by kernel_rfl)
        · exact (show Tryd.prog.wantsStandIn 30 = false by kernel_rfl)⟩)
    (by kernel_rfl)
#print axioms proved
end Go.Proofs.YtkmlbjlaahcahaaDoor.kindParts
