/-
  KindValues returns true for every format, whether it is one or not, all bits and every exact number, whether it may be or not: values of bits, and exact numbers as bits, are the document's.
-/
import Derived.Test.YtkmlbjlaahcahaaGreatDoorRows
import Derived.Test.YtkmlbjlaahcahaaGreatDoorTie
import Derived.Test.YtkmlbjlaahcahaaGreatDoorCards
import Derived.WalkKit
import Derived.ProofKit
import Derived.OpenShut
import Derived.LaidMore
import Derived.Stop.Joined
import Derived.Lib.LaidTab
import Derived.SevenTiedAt
import Derived.Test.YtkmlbjlaahcahaaGreatDoorVa22
namespace Go.Proofs.YtkmlbjlaahcahaaGreatDoor.kindValues
open WMath
open Go.ChangeShapes Go.WideShapes Go.ChangeAt Go.RowKit
open XMath
set_option linter.unusedVariables false

theorem own : ownKnob Tryz.prog.godebug = none := by kernel_rfl

set_option maxRecDepth 100000 in
set_option maxHeartbeats 4000000 in
theorem walk (a0 : Int) (a1 : Nat × Nat) (vb2 : Bool) (vs2 vt2 : ByteArray) (ve2 : Int) (h0 : (Lit.int .u8 a0).wf = true) (h1 : a1.1 < 18446744073709551616 ∧ a1.2 < 18446744073709551616) (h2 : vs2.size ≤ maxLen ∧ vt2.size ≤ maxLen ∧ (Lit.int .i64 ve2).wf = true) (w : World) (hT : TabAt w ∧ FAt w) :
    Calls Tryz.prog 3 #[.int .u8 a0, bitsV a1, .agg #[.bool vb2, .string vs2, .string vt2, .int .i64 ve2]] w fun e w' => e = .returned (.bool true) ∧ Below w.heap.size w w' := by
  have TT := box hT.1
  have FF := box hT.2
  clear hT
  have b0 := bounds_u8 h0
  obtain ⟨x, y⟩ := a1
  obtain ⟨hx, hy⟩ := h1
  simp only at hx hy
  show Calls Tryz.prog 3 #[.int .u8 a0, .agg #[.int .u64 (x : Nat), .int .u64 (y : Nat)], .agg #[.bool vb2, .string vs2, .string vt2, .int .i64 ve2]] w fun r w' => r = .returned (.bool true) ∧ Below w.heap.size w w'
  obtain ⟨n, hn⟩ : ∃ n, y + 18446744073709551616 * x = n := ⟨_, rfl⟩
  have KA := box kalive
  have Q1 : (Box (∀ w, FAt w → Calls Tryz.prog 8 #[.int .u8 a0, .agg #[.int .u64 (x : Nat), .int .u64 (y : Nat)]] w fun r w' => r = .returned (.tuple #[.agg #[.bool false, .string ⟨#[]⟩, .string ⟨#[]⟩, .int .i64 0], .int .i64 2]) ∧ Below w.heap.size w w') ∧ Box (∀ w, Calls Tryz.prog 9 #[.int .u8 a0, .agg #[.int .u64 (x : Nat), .int .u64 (y : Nat)]] w fun r w' => r = .returned (.bool false) ∧ Below w.heap.size w w')) ∨ (∃ (rb : Bool) (u v : ByteArray) (re er : Int), Box (∀ w, FAt w → TabAt w → Calls Tryz.prog 8 #[.int .u8 a0, .agg #[.int .u64 (x : Nat), .int .u64 (y : Nat)]] w fun r w' => r = .returned (.tuple #[.agg #[.bool rb, .string u, .string v, .int .i64 re], .int .i64 er]) ∧ Below w.heap.size w w') ∧ Box (∀ w, Calls Tryz.prog 9 #[.int .u8 a0, .agg #[.int .u64 (x : Nat), .int .u64 (y : Nat)]] w fun r w' => r = .returned (.bool true) ∧ Below w.heap.size w w') ∧ Box (∀ w, Calls Tryz.prog 10 #[.int .u8 a0, .agg #[.int .u64 (x : Nat), .int .u64 (y : Nat)]] w fun r w' => r = .returned (.tuple #[.agg #[.bool rb, .string u, .string v, .int .i64 re], .int .i64 er]) ∧ Below w.heap.size w w') ∧ IntKind.i64.wrap er = er) := by
    cases ho : okB a0 n
    · exact Or.inl ⟨box (fun w hT => kValue_no a0 b0.1 b0.2 x y n hx hy hn ho w hT), box (fun w => kfits_law a0 x y n false b0.1 hx hy hn ho w)⟩
    · obtain ⟨hf, fit⟩ := okB_yes b0.1 ho
      refine Or.inr ?_
      by_cases hc : 0 < kC a0 n ∧ kC a0 n < 7
      · obtain ⟨⟨rb, rn, rd, re⟩, hv⟩ : ∃ q, vX a0 n = q := ⟨_, rfl⟩
        exact ⟨rb, _, _, re, 0, box (fun w hT hT2 => kValue_yes a0 hf x y n hx hy hn ho hc rb rn rd re _ _ hv rfl rfl w hT hT2), box (fun w => kfits_law a0 x y n true b0.1 hx hy hn ho w), box (fun w => rValue_yes a0 hf x y n hx hy hn ho fit hc rb rn rd re _ _ hv rfl rfl w), by decide⟩
      · exact ⟨false, ⟨#[]⟩, ⟨#[]⟩, 0, 80, box (fun w hT _ => kValue_inf a0 hf x y n hx hy hn ho hc w hT), box (fun w => kfits_law a0 x y n true b0.1 hx hy hn ho w), box (fun w => rValue_inf a0 hf x y n hx hy hn fit hc w), by decide⟩
  have Q2 : (decide ((80 : Int) < (vs2.size : Int)) = true) ∨ (decide ((80 : Int) < (vs2.size : Int)) = false ∧ decide ((80 : Int) < (vt2.size : Int)) = true) ∨
      (decide ((80 : Int) < (vs2.size : Int)) = false ∧ decide ((80 : Int) < (vt2.size : Int)) = false ∧ Box (∀ w, FAt w → TabAt w → Calls Tryz.prog 12 #[.int .u8 a0, .agg #[.bool vb2, .string vs2, .string vt2, .int .i64 ve2]] w fun r w' => r = .returned (.tuple #[.agg #[.int .u64 0, .int .u64 0], .bool false, .int .i64 2]) ∧ Below w.heap.size w w') ∧ Box (∀ w, Calls Tryz.prog 13 #[.int .u8 a0] w fun r w' => r = .returned (.bool false) ∧ Below w.heap.size w w')) ∨
      (decide ((80 : Int) < (vs2.size : Int)) = false ∧ decide ((80 : Int) < (vt2.size : Int)) = false ∧ Box (∀ w, FAt w → TabAt w → Calls Tryz.prog 12 #[.int .u8 a0, .agg #[.bool vb2, .string vs2, .string vt2, .int .i64 ve2]] w fun r w' => r = .returned (.tuple #[.agg #[.int .u64 0, .int .u64 0], .bool false, .int .i64 2]) ∧ Below w.heap.size w w') ∧ Box (∀ w, Calls Tryz.prog 13 #[.int .u8 a0] w fun r w' => r = .returned (.bool true) ∧ Below w.heap.size w w') ∧ Box (∀ w, Calls Tryz.prog 14 #[.agg #[.bool vb2, .string vs2, .string vt2, .int .i64 ve2]] w fun r w' => r = .returned (.bool false) ∧ Below w.heap.size w w')) ∨
      (∃ (i j : Nat) (is : Bool), decide ((80 : Int) < (vs2.size : Int)) = false ∧ decide ((80 : Int) < (vt2.size : Int)) = false ∧ Box (∀ w, FAt w → TabAt w → Calls Tryz.prog 12 #[.int .u8 a0, .agg #[.bool vb2, .string vs2, .string vt2, .int .i64 ve2]] w fun r w' => r = .returned (.tuple #[.agg #[.int .u64 (i : Nat), .int .u64 (j : Nat)], .bool is, .int .i64 0]) ∧ Below w.heap.size w w') ∧ Box (∀ w, Calls Tryz.prog 13 #[.int .u8 a0] w fun r w' => r = .returned (.bool true) ∧ Below w.heap.size w w') ∧ Box (∀ w, Calls Tryz.prog 14 #[.agg #[.bool vb2, .string vs2, .string vt2, .int .i64 ve2]] w fun r w' => r = .returned (.bool true) ∧ Below w.heap.size w w') ∧ Box (∀ w, Calls Tryz.prog 15 #[.int .u8 a0, .agg #[.bool vb2, .string vs2, .string vt2, .int .i64 ve2]] w fun r w' => r = .returned (.tuple #[.agg #[.int .u64 (i : Nat), .int .u64 (j : Nat)], .bool is]) ∧ Below w.heap.size w w')) := by
    cases c1 : decide ((80 : Int) < (vs2.size : Int))
    case true => exact Or.inl rfl
    cases c2 : decide ((80 : Int) < (vt2.size : Int))
    case true => exact Or.inr (Or.inl ⟨rfl, rfl⟩)
    refine Or.inr (Or.inr ?_)
    by_cases h3 : a0 ≤ 3
    · have hf := is4_of b0.1 h3
      have KR : Box (∀ w, Calls Tryz.prog 13 #[.int .u8 a0] w fun r w' => r = .returned (.bool true) ∧ Below w.heap.size w w') := box (fun w => bel_same (r_right a0 true (by simp [h3]) w))
      by_cases hm : MayX vb2 vs2 vt2 ve2
      · have M1 : IsM true vb2 vs2 vt2 ve2 := ⟨fun _ => hm, fun _ => rfl⟩
        obtain ⟨nn, d, hs, ht, hc⟩ := hm
        obtain ⟨M, is, hr⟩ : ∃ M is, ofX a0 ⟨vb2, nn, d, ve2⟩ = (M, is) := ⟨_, _, rfl⟩
        exact Or.inr (Or.inr ⟨_, _, is, rfl, rfl, box (fun w hT hT2 => kOf_is a0 hf vb2 nn d vs2 vt2 ve2 hs ht hc M is _ _ hr rfl w hT hT2), KR, box (fun w => xmayM vb2 vs2 vt2 ve2 true M1 w), box (fun w => rOf_is a0 hf vb2 nn d vs2 vt2 ve2 hs ht hc M is _ _ hr rfl w)⟩)
      · exact Or.inr (Or.inl ⟨rfl, rfl, box (fun w hT hT2 => kOf_no a0 hf vb2 vs2 vt2 ve2 hm w hT hT2), KR, box (fun w => xmayM vb2 vs2 vt2 ve2 false (may_no hm) w)⟩)
    · exact Or.inl ⟨rfl, rfl, box (fun w hT hT2 => kOf_none a0 b0.1 b0.2 (by unfold Is4; omega) vb2 vs2 vt2 ve2 w hT hT2), box (fun w => bel_same (r_right a0 false (by simp [h3]) w))⟩
  clear hx hy hn h0 h2
  rcases Q1 with ⟨KV, K3⟩ | ⟨rb, u, v, re, er, KV, K3, KW, we⟩
  · rcases Q2 with c1 | ⟨c1, c2⟩ | ⟨c1, c2, KO, KR⟩ | ⟨c1, c2, KO, KR, KM⟩ | ⟨i, j, is, c1, c2, KO, KR, KM, KD⟩
    · obtain ⟨Rb_0, Rx_0, B0⟩ := opn2 w (Obj.cells #[.int .u64 (x : Nat), .int .u64 (y : Nat)] 25) (Obj.cells #[.bool vb2, .string vs2, .string vt2, .int .i64 ve2] 28)
      go_enter Tryz.func3, Tryz.ntmps3
      go_wp2_with fail
      refine (KV.out _ (fatB FF.out B0)).mono ?_
      rintro r w1 ⟨rfl, b1⟩
      have B1 : Below w.heap.size w w1 := btr B0 b1
      have Rb_1 := heap_of b1 _ _ _ Rb_0
      have Rx_1 := heap_of b1 _ _ _ Rx_0
      clear b1 B0 Rb_0 Rx_0
      obtain ⟨cb_1_0, cb_1_1⟩ := cells2s Rb_1
      obtain ⟨cx_1_0, cx_1_1, cx_1_2, cx_1_3⟩ := cells4s Rx_1
      have S2 := box B1.size
      have Lb_2 : Box (w.heap.size < w1.heap.size) := box (Array.getElem?_eq_some_iff.1 Rb_1).1
      have Lx_2 : Box (w.heap.size + 1 < w1.heap.size) := box (Array.getElem?_eq_some_iff.1 Rx_1).1
      have Rv_2 := heap_alloc_last w1 (Obj.cells #[.bool false, .string ⟨#[]⟩, .string ⟨#[]⟩, .int .i64 0] 28)
      have B2 := btr B1 (bal w1 (Obj.cells #[.bool false, .string ⟨#[]⟩, .string ⟨#[]⟩, .int .i64 0] 28))
      have Rb_2 := heap_of (bal w1 (Obj.cells #[.bool false, .string ⟨#[]⟩, .string ⟨#[]⟩, .int .i64 0] 28)) _ _ _ Rb_1
      have Rx_2 := heap_of (bal w1 (Obj.cells #[.bool false, .string ⟨#[]⟩, .string ⟨#[]⟩, .int .i64 0] 28)) _ _ _ Rx_1
      clear B1 Rb_1 cb_1_0 cb_1_1 Rx_1 cx_1_0 cx_1_1 cx_1_2 cx_1_3
      obtain ⟨cb_2_0, cb_2_1⟩ := cells2s Rb_2
      obtain ⟨cx_2_0, cx_2_1, cx_2_2, cx_2_3⟩ := cells4s Rx_2
      obtain ⟨cv_2_0, cv_2_1, cv_2_2, cv_2_3⟩ := cells4s Rv_2
      go_wp2_with fail
      refine (K3.out _).mono ?_
      rintro r w3 ⟨rfl, b3⟩
      have B3 : Below w.heap.size w w3 := btr B2 b3
      have Rb_3 := heap_of b3 _ _ _ Rb_2
      have Rx_3 := heap_of b3 _ _ _ Rx_2
      have Rv_3 := heap_of b3 _ _ _ Rv_2
      clear b3 B2 Rb_2 cb_2_0 cb_2_1 Rx_2 cx_2_0 cx_2_1 cx_2_2 cx_2_3 Rv_2 cv_2_0 cv_2_1 cv_2_2 cv_2_3
      obtain ⟨cb_3_0, cb_3_1⟩ := cells2s Rb_3
      obtain ⟨cx_3_0, cx_3_1, cx_3_2, cx_3_3⟩ := cells4s Rx_3
      obtain ⟨cv_3_0, cv_3_1, cv_3_2, cv_3_3⟩ := cells4s Rv_3
      go_wp2_with fail
      refine (KA.out _ (fatB FF.out B3)).mono ?_
      rintro r w4 ⟨rfl, b4⟩
      have B4 : Below w.heap.size w w4 := btr B3 b4
      have Rb_4 := heap_of b4 _ _ _ Rb_3
      have Rx_4 := heap_of b4 _ _ _ Rx_3
      have Rv_4 := heap_of b4 _ _ _ Rv_3
      clear b4 B3 Rb_3 cb_3_0 cb_3_1 Rx_3 cx_3_0 cx_3_1 cx_3_2 cx_3_3 Rv_3 cv_3_0 cv_3_1 cv_3_2 cv_3_3
      obtain ⟨cb_4_0, cb_4_1⟩ := cells2s Rb_4
      obtain ⟨cx_4_0, cx_4_1, cx_4_2, cx_4_3⟩ := cells4s Rx_4
      obtain ⟨cv_4_0, cv_4_1, cv_4_2, cv_4_3⟩ := cells4s Rv_4
      go_wp2
      go_ret
      exact ⟨rfl, B4⟩
    · obtain ⟨Rb_0, Rx_0, B0⟩ := opn2 w (Obj.cells #[.int .u64 (x : Nat), .int .u64 (y : Nat)] 25) (Obj.cells #[.bool vb2, .string vs2, .string vt2, .int .i64 ve2] 28)
      go_enter Tryz.func3, Tryz.ntmps3
      go_wp2_with fail
      refine (KV.out _ (fatB FF.out B0)).mono ?_
      rintro r w1 ⟨rfl, b1⟩
      have B1 : Below w.heap.size w w1 := btr B0 b1
      have Rb_1 := heap_of b1 _ _ _ Rb_0
      have Rx_1 := heap_of b1 _ _ _ Rx_0
      clear b1 B0 Rb_0 Rx_0
      obtain ⟨cb_1_0, cb_1_1⟩ := cells2s Rb_1
      obtain ⟨cx_1_0, cx_1_1, cx_1_2, cx_1_3⟩ := cells4s Rx_1
      have S2 := box B1.size
      have Lb_2 : Box (w.heap.size < w1.heap.size) := box (Array.getElem?_eq_some_iff.1 Rb_1).1
      have Lx_2 : Box (w.heap.size + 1 < w1.heap.size) := box (Array.getElem?_eq_some_iff.1 Rx_1).1
      have Rv_2 := heap_alloc_last w1 (Obj.cells #[.bool false, .string ⟨#[]⟩, .string ⟨#[]⟩, .int .i64 0] 28)
      have B2 := btr B1 (bal w1 (Obj.cells #[.bool false, .string ⟨#[]⟩, .string ⟨#[]⟩, .int .i64 0] 28))
      have Rb_2 := heap_of (bal w1 (Obj.cells #[.bool false, .string ⟨#[]⟩, .string ⟨#[]⟩, .int .i64 0] 28)) _ _ _ Rb_1
      have Rx_2 := heap_of (bal w1 (Obj.cells #[.bool false, .string ⟨#[]⟩, .string ⟨#[]⟩, .int .i64 0] 28)) _ _ _ Rx_1
      clear B1 Rb_1 cb_1_0 cb_1_1 Rx_1 cx_1_0 cx_1_1 cx_1_2 cx_1_3
      obtain ⟨cb_2_0, cb_2_1⟩ := cells2s Rb_2
      obtain ⟨cx_2_0, cx_2_1, cx_2_2, cx_2_3⟩ := cells4s Rx_2
      obtain ⟨cv_2_0, cv_2_1, cv_2_2, cv_2_3⟩ := cells4s Rv_2
      go_wp2_with fail
      refine (K3.out _).mono ?_
      rintro r w3 ⟨rfl, b3⟩
      have B3 : Below w.heap.size w w3 := btr B2 b3
      have Rb_3 := heap_of b3 _ _ _ Rb_2
      have Rx_3 := heap_of b3 _ _ _ Rx_2
      have Rv_3 := heap_of b3 _ _ _ Rv_2
      clear b3 B2 Rb_2 cb_2_0 cb_2_1 Rx_2 cx_2_0 cx_2_1 cx_2_2 cx_2_3 Rv_2 cv_2_0 cv_2_1 cv_2_2 cv_2_3
      obtain ⟨cb_3_0, cb_3_1⟩ := cells2s Rb_3
      obtain ⟨cx_3_0, cx_3_1, cx_3_2, cx_3_3⟩ := cells4s Rx_3
      obtain ⟨cv_3_0, cv_3_1, cv_3_2, cv_3_3⟩ := cells4s Rv_3
      go_wp2_with fail
      refine (KA.out _ (fatB FF.out B3)).mono ?_
      rintro r w4 ⟨rfl, b4⟩
      have B4 : Below w.heap.size w w4 := btr B3 b4
      have Rb_4 := heap_of b4 _ _ _ Rb_3
      have Rx_4 := heap_of b4 _ _ _ Rx_3
      have Rv_4 := heap_of b4 _ _ _ Rv_3
      clear b4 B3 Rb_3 cb_3_0 cb_3_1 Rx_3 cx_3_0 cx_3_1 cx_3_2 cx_3_3 Rv_3 cv_3_0 cv_3_1 cv_3_2 cv_3_3
      obtain ⟨cb_4_0, cb_4_1⟩ := cells2s Rb_4
      obtain ⟨cx_4_0, cx_4_1, cx_4_2, cx_4_3⟩ := cells4s Rx_4
      obtain ⟨cv_4_0, cv_4_1, cv_4_2, cv_4_3⟩ := cells4s Rv_4
      go_wp2
      go_ret
      exact ⟨rfl, B4⟩
    · obtain ⟨Rb_0, Rx_0, B0⟩ := opn2 w (Obj.cells #[.int .u64 (x : Nat), .int .u64 (y : Nat)] 25) (Obj.cells #[.bool vb2, .string vs2, .string vt2, .int .i64 ve2] 28)
      go_enter Tryz.func3, Tryz.ntmps3
      go_wp2_with fail
      refine (KV.out _ (fatB FF.out B0)).mono ?_
      rintro r w1 ⟨rfl, b1⟩
      have B1 : Below w.heap.size w w1 := btr B0 b1
      have Rb_1 := heap_of b1 _ _ _ Rb_0
      have Rx_1 := heap_of b1 _ _ _ Rx_0
      clear b1 B0 Rb_0 Rx_0
      obtain ⟨cb_1_0, cb_1_1⟩ := cells2s Rb_1
      obtain ⟨cx_1_0, cx_1_1, cx_1_2, cx_1_3⟩ := cells4s Rx_1
      have S2 := box B1.size
      have Lb_2 : Box (w.heap.size < w1.heap.size) := box (Array.getElem?_eq_some_iff.1 Rb_1).1
      have Lx_2 : Box (w.heap.size + 1 < w1.heap.size) := box (Array.getElem?_eq_some_iff.1 Rx_1).1
      have Rv_2 := heap_alloc_last w1 (Obj.cells #[.bool false, .string ⟨#[]⟩, .string ⟨#[]⟩, .int .i64 0] 28)
      have B2 := btr B1 (bal w1 (Obj.cells #[.bool false, .string ⟨#[]⟩, .string ⟨#[]⟩, .int .i64 0] 28))
      have Rb_2 := heap_of (bal w1 (Obj.cells #[.bool false, .string ⟨#[]⟩, .string ⟨#[]⟩, .int .i64 0] 28)) _ _ _ Rb_1
      have Rx_2 := heap_of (bal w1 (Obj.cells #[.bool false, .string ⟨#[]⟩, .string ⟨#[]⟩, .int .i64 0] 28)) _ _ _ Rx_1
      clear B1 Rb_1 cb_1_0 cb_1_1 Rx_1 cx_1_0 cx_1_1 cx_1_2 cx_1_3
      obtain ⟨cb_2_0, cb_2_1⟩ := cells2s Rb_2
      obtain ⟨cx_2_0, cx_2_1, cx_2_2, cx_2_3⟩ := cells4s Rx_2
      obtain ⟨cv_2_0, cv_2_1, cv_2_2, cv_2_3⟩ := cells4s Rv_2
      go_wp2_with fail
      refine (K3.out _).mono ?_
      rintro r w3 ⟨rfl, b3⟩
      have B3 : Below w.heap.size w w3 := btr B2 b3
      have Rb_3 := heap_of b3 _ _ _ Rb_2
      have Rx_3 := heap_of b3 _ _ _ Rx_2
      have Rv_3 := heap_of b3 _ _ _ Rv_2
      clear b3 B2 Rb_2 cb_2_0 cb_2_1 Rx_2 cx_2_0 cx_2_1 cx_2_2 cx_2_3 Rv_2 cv_2_0 cv_2_1 cv_2_2 cv_2_3
      obtain ⟨cb_3_0, cb_3_1⟩ := cells2s Rb_3
      obtain ⟨cx_3_0, cx_3_1, cx_3_2, cx_3_3⟩ := cells4s Rx_3
      obtain ⟨cv_3_0, cv_3_1, cv_3_2, cv_3_3⟩ := cells4s Rv_3
      go_wp2_with fail
      refine (KO.out _ (fatB FF.out B3) (tabB TT.out B3)).mono ?_
      rintro r w4 ⟨rfl, b4⟩
      have B4 : Below w.heap.size w w4 := btr B3 b4
      have Rb_4 := heap_of b4 _ _ _ Rb_3
      have Rx_4 := heap_of b4 _ _ _ Rx_3
      have Rv_4 := heap_of b4 _ _ _ Rv_3
      clear b4 B3 Rb_3 cb_3_0 cb_3_1 Rx_3 cx_3_0 cx_3_1 cx_3_2 cx_3_3 Rv_3 cv_3_0 cv_3_1 cv_3_2 cv_3_3
      obtain ⟨cb_4_0, cb_4_1⟩ := cells2s Rb_4
      obtain ⟨cx_4_0, cx_4_1, cx_4_2, cx_4_3⟩ := cells4s Rx_4
      obtain ⟨cv_4_0, cv_4_1, cv_4_2, cv_4_3⟩ := cells4s Rv_4
      have S5 := box B4.size
      have Lb_5 : Box (w.heap.size < w4.heap.size) := box (Array.getElem?_eq_some_iff.1 Rb_4).1
      have Lx_5 : Box (w.heap.size + 1 < w4.heap.size) := box (Array.getElem?_eq_some_iff.1 Rx_4).1
      have Lv_5 : Box (w1.heap.size < w4.heap.size) := box (Array.getElem?_eq_some_iff.1 Rv_4).1
      have Rc_5 := heap_alloc_last w4 (Obj.cells #[.int .u64 0, .int .u64 0] 25)
      have B5 := btr B4 (bal w4 (Obj.cells #[.int .u64 0, .int .u64 0] 25))
      have Rb_5 := heap_of (bal w4 (Obj.cells #[.int .u64 0, .int .u64 0] 25)) _ _ _ Rb_4
      have Rx_5 := heap_of (bal w4 (Obj.cells #[.int .u64 0, .int .u64 0] 25)) _ _ _ Rx_4
      have Rv_5 := heap_of (bal w4 (Obj.cells #[.int .u64 0, .int .u64 0] 25)) _ _ _ Rv_4
      clear B4 Rb_4 cb_4_0 cb_4_1 Rx_4 cx_4_0 cx_4_1 cx_4_2 cx_4_3 Rv_4 cv_4_0 cv_4_1 cv_4_2 cv_4_3
      obtain ⟨cb_5_0, cb_5_1⟩ := cells2s Rb_5
      obtain ⟨cx_5_0, cx_5_1, cx_5_2, cx_5_3⟩ := cells4s Rx_5
      obtain ⟨cv_5_0, cv_5_1, cv_5_2, cv_5_3⟩ := cells4s Rv_5
      obtain ⟨cc_5_0, cc_5_1⟩ := cells2s Rc_5
      go_wp2_with fail
      refine (KR.out _).mono ?_
      rintro r w6 ⟨rfl, b6⟩
      have B6 : Below w.heap.size w w6 := btr B5 b6
      have Rb_6 := heap_of b6 _ _ _ Rb_5
      have Rx_6 := heap_of b6 _ _ _ Rx_5
      have Rv_6 := heap_of b6 _ _ _ Rv_5
      have Rc_6 := heap_of b6 _ _ _ Rc_5
      clear b6 B5 Rb_5 cb_5_0 cb_5_1 Rx_5 cx_5_0 cx_5_1 cx_5_2 cx_5_3 Rv_5 cv_5_0 cv_5_1 cv_5_2 cv_5_3 Rc_5 cc_5_0 cc_5_1
      obtain ⟨cb_6_0, cb_6_1⟩ := cells2s Rb_6
      obtain ⟨cx_6_0, cx_6_1, cx_6_2, cx_6_3⟩ := cells4s Rx_6
      obtain ⟨cv_6_0, cv_6_1, cv_6_2, cv_6_3⟩ := cells4s Rv_6
      obtain ⟨cc_6_0, cc_6_1⟩ := cells2s Rc_6
      go_wp2_with fail
      refine (KA.out _ (fatB FF.out B6)).mono ?_
      rintro r w7 ⟨rfl, b7⟩
      have B7 : Below w.heap.size w w7 := btr B6 b7
      have Rb_7 := heap_of b7 _ _ _ Rb_6
      have Rx_7 := heap_of b7 _ _ _ Rx_6
      have Rv_7 := heap_of b7 _ _ _ Rv_6
      have Rc_7 := heap_of b7 _ _ _ Rc_6
      clear b7 B6 Rb_6 cb_6_0 cb_6_1 Rx_6 cx_6_0 cx_6_1 cx_6_2 cx_6_3 Rv_6 cv_6_0 cv_6_1 cv_6_2 cv_6_3 Rc_6 cc_6_0 cc_6_1
      obtain ⟨cb_7_0, cb_7_1⟩ := cells2s Rb_7
      obtain ⟨cx_7_0, cx_7_1, cx_7_2, cx_7_3⟩ := cells4s Rx_7
      obtain ⟨cv_7_0, cv_7_1, cv_7_2, cv_7_3⟩ := cells4s Rv_7
      obtain ⟨cc_7_0, cc_7_1⟩ := cells2s Rc_7
      go_wp2
      go_ret
      exact ⟨rfl, B7⟩
    · obtain ⟨Rb_0, Rx_0, B0⟩ := opn2 w (Obj.cells #[.int .u64 (x : Nat), .int .u64 (y : Nat)] 25) (Obj.cells #[.bool vb2, .string vs2, .string vt2, .int .i64 ve2] 28)
      go_enter Tryz.func3, Tryz.ntmps3
      go_wp2_with fail
      refine (KV.out _ (fatB FF.out B0)).mono ?_
      rintro r w1 ⟨rfl, b1⟩
      have B1 : Below w.heap.size w w1 := btr B0 b1
      have Rb_1 := heap_of b1 _ _ _ Rb_0
      have Rx_1 := heap_of b1 _ _ _ Rx_0
      clear b1 B0 Rb_0 Rx_0
      obtain ⟨cb_1_0, cb_1_1⟩ := cells2s Rb_1
      obtain ⟨cx_1_0, cx_1_1, cx_1_2, cx_1_3⟩ := cells4s Rx_1
      have S2 := box B1.size
      have Lb_2 : Box (w.heap.size < w1.heap.size) := box (Array.getElem?_eq_some_iff.1 Rb_1).1
      have Lx_2 : Box (w.heap.size + 1 < w1.heap.size) := box (Array.getElem?_eq_some_iff.1 Rx_1).1
      have Rv_2 := heap_alloc_last w1 (Obj.cells #[.bool false, .string ⟨#[]⟩, .string ⟨#[]⟩, .int .i64 0] 28)
      have B2 := btr B1 (bal w1 (Obj.cells #[.bool false, .string ⟨#[]⟩, .string ⟨#[]⟩, .int .i64 0] 28))
      have Rb_2 := heap_of (bal w1 (Obj.cells #[.bool false, .string ⟨#[]⟩, .string ⟨#[]⟩, .int .i64 0] 28)) _ _ _ Rb_1
      have Rx_2 := heap_of (bal w1 (Obj.cells #[.bool false, .string ⟨#[]⟩, .string ⟨#[]⟩, .int .i64 0] 28)) _ _ _ Rx_1
      clear B1 Rb_1 cb_1_0 cb_1_1 Rx_1 cx_1_0 cx_1_1 cx_1_2 cx_1_3
      obtain ⟨cb_2_0, cb_2_1⟩ := cells2s Rb_2
      obtain ⟨cx_2_0, cx_2_1, cx_2_2, cx_2_3⟩ := cells4s Rx_2
      obtain ⟨cv_2_0, cv_2_1, cv_2_2, cv_2_3⟩ := cells4s Rv_2
      go_wp2_with fail
      refine (K3.out _).mono ?_
      rintro r w3 ⟨rfl, b3⟩
      have B3 : Below w.heap.size w w3 := btr B2 b3
      have Rb_3 := heap_of b3 _ _ _ Rb_2
      have Rx_3 := heap_of b3 _ _ _ Rx_2
      have Rv_3 := heap_of b3 _ _ _ Rv_2
      clear b3 B2 Rb_2 cb_2_0 cb_2_1 Rx_2 cx_2_0 cx_2_1 cx_2_2 cx_2_3 Rv_2 cv_2_0 cv_2_1 cv_2_2 cv_2_3
      obtain ⟨cb_3_0, cb_3_1⟩ := cells2s Rb_3
      obtain ⟨cx_3_0, cx_3_1, cx_3_2, cx_3_3⟩ := cells4s Rx_3
      obtain ⟨cv_3_0, cv_3_1, cv_3_2, cv_3_3⟩ := cells4s Rv_3
      go_wp2_with fail
      refine (KO.out _ (fatB FF.out B3) (tabB TT.out B3)).mono ?_
      rintro r w4 ⟨rfl, b4⟩
      have B4 : Below w.heap.size w w4 := btr B3 b4
      have Rb_4 := heap_of b4 _ _ _ Rb_3
      have Rx_4 := heap_of b4 _ _ _ Rx_3
      have Rv_4 := heap_of b4 _ _ _ Rv_3
      clear b4 B3 Rb_3 cb_3_0 cb_3_1 Rx_3 cx_3_0 cx_3_1 cx_3_2 cx_3_3 Rv_3 cv_3_0 cv_3_1 cv_3_2 cv_3_3
      obtain ⟨cb_4_0, cb_4_1⟩ := cells2s Rb_4
      obtain ⟨cx_4_0, cx_4_1, cx_4_2, cx_4_3⟩ := cells4s Rx_4
      obtain ⟨cv_4_0, cv_4_1, cv_4_2, cv_4_3⟩ := cells4s Rv_4
      have S5 := box B4.size
      have Lb_5 : Box (w.heap.size < w4.heap.size) := box (Array.getElem?_eq_some_iff.1 Rb_4).1
      have Lx_5 : Box (w.heap.size + 1 < w4.heap.size) := box (Array.getElem?_eq_some_iff.1 Rx_4).1
      have Lv_5 : Box (w1.heap.size < w4.heap.size) := box (Array.getElem?_eq_some_iff.1 Rv_4).1
      have Rc_5 := heap_alloc_last w4 (Obj.cells #[.int .u64 0, .int .u64 0] 25)
      have B5 := btr B4 (bal w4 (Obj.cells #[.int .u64 0, .int .u64 0] 25))
      have Rb_5 := heap_of (bal w4 (Obj.cells #[.int .u64 0, .int .u64 0] 25)) _ _ _ Rb_4
      have Rx_5 := heap_of (bal w4 (Obj.cells #[.int .u64 0, .int .u64 0] 25)) _ _ _ Rx_4
      have Rv_5 := heap_of (bal w4 (Obj.cells #[.int .u64 0, .int .u64 0] 25)) _ _ _ Rv_4
      clear B4 Rb_4 cb_4_0 cb_4_1 Rx_4 cx_4_0 cx_4_1 cx_4_2 cx_4_3 Rv_4 cv_4_0 cv_4_1 cv_4_2 cv_4_3
      obtain ⟨cb_5_0, cb_5_1⟩ := cells2s Rb_5
      obtain ⟨cx_5_0, cx_5_1, cx_5_2, cx_5_3⟩ := cells4s Rx_5
      obtain ⟨cv_5_0, cv_5_1, cv_5_2, cv_5_3⟩ := cells4s Rv_5
      obtain ⟨cc_5_0, cc_5_1⟩ := cells2s Rc_5
      go_wp2_with fail
      refine (KR.out _).mono ?_
      rintro r w6 ⟨rfl, b6⟩
      have B6 : Below w.heap.size w w6 := btr B5 b6
      have Rb_6 := heap_of b6 _ _ _ Rb_5
      have Rx_6 := heap_of b6 _ _ _ Rx_5
      have Rv_6 := heap_of b6 _ _ _ Rv_5
      have Rc_6 := heap_of b6 _ _ _ Rc_5
      clear b6 B5 Rb_5 cb_5_0 cb_5_1 Rx_5 cx_5_0 cx_5_1 cx_5_2 cx_5_3 Rv_5 cv_5_0 cv_5_1 cv_5_2 cv_5_3 Rc_5 cc_5_0 cc_5_1
      obtain ⟨cb_6_0, cb_6_1⟩ := cells2s Rb_6
      obtain ⟨cx_6_0, cx_6_1, cx_6_2, cx_6_3⟩ := cells4s Rx_6
      obtain ⟨cv_6_0, cv_6_1, cv_6_2, cv_6_3⟩ := cells4s Rv_6
      obtain ⟨cc_6_0, cc_6_1⟩ := cells2s Rc_6
      go_wp2_with fail
      refine (KM.out _).mono ?_
      rintro r w7 ⟨rfl, b7⟩
      have B7 : Below w.heap.size w w7 := btr B6 b7
      have Rb_7 := heap_of b7 _ _ _ Rb_6
      have Rx_7 := heap_of b7 _ _ _ Rx_6
      have Rv_7 := heap_of b7 _ _ _ Rv_6
      have Rc_7 := heap_of b7 _ _ _ Rc_6
      clear b7 B6 Rb_6 cb_6_0 cb_6_1 Rx_6 cx_6_0 cx_6_1 cx_6_2 cx_6_3 Rv_6 cv_6_0 cv_6_1 cv_6_2 cv_6_3 Rc_6 cc_6_0 cc_6_1
      obtain ⟨cb_7_0, cb_7_1⟩ := cells2s Rb_7
      obtain ⟨cx_7_0, cx_7_1, cx_7_2, cx_7_3⟩ := cells4s Rx_7
      obtain ⟨cv_7_0, cv_7_1, cv_7_2, cv_7_3⟩ := cells4s Rv_7
      obtain ⟨cc_7_0, cc_7_1⟩ := cells2s Rc_7
      go_wp2_with fail
      refine (KA.out _ (fatB FF.out B7)).mono ?_
      rintro r w8 ⟨rfl, b8⟩
      have B8 : Below w.heap.size w w8 := btr B7 b8
      have Rb_8 := heap_of b8 _ _ _ Rb_7
      have Rx_8 := heap_of b8 _ _ _ Rx_7
      have Rv_8 := heap_of b8 _ _ _ Rv_7
      have Rc_8 := heap_of b8 _ _ _ Rc_7
      clear b8 B7 Rb_7 cb_7_0 cb_7_1 Rx_7 cx_7_0 cx_7_1 cx_7_2 cx_7_3 Rv_7 cv_7_0 cv_7_1 cv_7_2 cv_7_3 Rc_7 cc_7_0 cc_7_1
      obtain ⟨cb_8_0, cb_8_1⟩ := cells2s Rb_8
      obtain ⟨cx_8_0, cx_8_1, cx_8_2, cx_8_3⟩ := cells4s Rx_8
      obtain ⟨cv_8_0, cv_8_1, cv_8_2, cv_8_3⟩ := cells4s Rv_8
      obtain ⟨cc_8_0, cc_8_1⟩ := cells2s Rc_8
      go_wp2
      go_ret
      exact ⟨rfl, B8⟩
    · obtain ⟨Rb_0, Rx_0, B0⟩ := opn2 w (Obj.cells #[.int .u64 (x : Nat), .int .u64 (y : Nat)] 25) (Obj.cells #[.bool vb2, .string vs2, .string vt2, .int .i64 ve2] 28)
      go_enter Tryz.func3, Tryz.ntmps3
      go_wp2_with fail
      refine (KV.out _ (fatB FF.out B0)).mono ?_
      rintro r w1 ⟨rfl, b1⟩
      have B1 : Below w.heap.size w w1 := btr B0 b1
      have Rb_1 := heap_of b1 _ _ _ Rb_0
      have Rx_1 := heap_of b1 _ _ _ Rx_0
      clear b1 B0 Rb_0 Rx_0
      obtain ⟨cb_1_0, cb_1_1⟩ := cells2s Rb_1
      obtain ⟨cx_1_0, cx_1_1, cx_1_2, cx_1_3⟩ := cells4s Rx_1
      have S2 := box B1.size
      have Lb_2 : Box (w.heap.size < w1.heap.size) := box (Array.getElem?_eq_some_iff.1 Rb_1).1
      have Lx_2 : Box (w.heap.size + 1 < w1.heap.size) := box (Array.getElem?_eq_some_iff.1 Rx_1).1
      have Rv_2 := heap_alloc_last w1 (Obj.cells #[.bool false, .string ⟨#[]⟩, .string ⟨#[]⟩, .int .i64 0] 28)
      have B2 := btr B1 (bal w1 (Obj.cells #[.bool false, .string ⟨#[]⟩, .string ⟨#[]⟩, .int .i64 0] 28))
      have Rb_2 := heap_of (bal w1 (Obj.cells #[.bool false, .string ⟨#[]⟩, .string ⟨#[]⟩, .int .i64 0] 28)) _ _ _ Rb_1
      have Rx_2 := heap_of (bal w1 (Obj.cells #[.bool false, .string ⟨#[]⟩, .string ⟨#[]⟩, .int .i64 0] 28)) _ _ _ Rx_1
      clear B1 Rb_1 cb_1_0 cb_1_1 Rx_1 cx_1_0 cx_1_1 cx_1_2 cx_1_3
      obtain ⟨cb_2_0, cb_2_1⟩ := cells2s Rb_2
      obtain ⟨cx_2_0, cx_2_1, cx_2_2, cx_2_3⟩ := cells4s Rx_2
      obtain ⟨cv_2_0, cv_2_1, cv_2_2, cv_2_3⟩ := cells4s Rv_2
      go_wp2_with fail
      refine (K3.out _).mono ?_
      rintro r w3 ⟨rfl, b3⟩
      have B3 : Below w.heap.size w w3 := btr B2 b3
      have Rb_3 := heap_of b3 _ _ _ Rb_2
      have Rx_3 := heap_of b3 _ _ _ Rx_2
      have Rv_3 := heap_of b3 _ _ _ Rv_2
      clear b3 B2 Rb_2 cb_2_0 cb_2_1 Rx_2 cx_2_0 cx_2_1 cx_2_2 cx_2_3 Rv_2 cv_2_0 cv_2_1 cv_2_2 cv_2_3
      obtain ⟨cb_3_0, cb_3_1⟩ := cells2s Rb_3
      obtain ⟨cx_3_0, cx_3_1, cx_3_2, cx_3_3⟩ := cells4s Rx_3
      obtain ⟨cv_3_0, cv_3_1, cv_3_2, cv_3_3⟩ := cells4s Rv_3
      go_wp2_with fail
      refine (KO.out _ (fatB FF.out B3) (tabB TT.out B3)).mono ?_
      rintro r w4 ⟨rfl, b4⟩
      have B4 : Below w.heap.size w w4 := btr B3 b4
      have Rb_4 := heap_of b4 _ _ _ Rb_3
      have Rx_4 := heap_of b4 _ _ _ Rx_3
      have Rv_4 := heap_of b4 _ _ _ Rv_3
      clear b4 B3 Rb_3 cb_3_0 cb_3_1 Rx_3 cx_3_0 cx_3_1 cx_3_2 cx_3_3 Rv_3 cv_3_0 cv_3_1 cv_3_2 cv_3_3
      obtain ⟨cb_4_0, cb_4_1⟩ := cells2s Rb_4
      obtain ⟨cx_4_0, cx_4_1, cx_4_2, cx_4_3⟩ := cells4s Rx_4
      obtain ⟨cv_4_0, cv_4_1, cv_4_2, cv_4_3⟩ := cells4s Rv_4
      have S5 := box B4.size
      have Lb_5 : Box (w.heap.size < w4.heap.size) := box (Array.getElem?_eq_some_iff.1 Rb_4).1
      have Lx_5 : Box (w.heap.size + 1 < w4.heap.size) := box (Array.getElem?_eq_some_iff.1 Rx_4).1
      have Lv_5 : Box (w1.heap.size < w4.heap.size) := box (Array.getElem?_eq_some_iff.1 Rv_4).1
      have Rc_5 := heap_alloc_last w4 (Obj.cells #[.int .u64 (i : Nat), .int .u64 (j : Nat)] 25)
      have B5 := btr B4 (bal w4 (Obj.cells #[.int .u64 (i : Nat), .int .u64 (j : Nat)] 25))
      have Rb_5 := heap_of (bal w4 (Obj.cells #[.int .u64 (i : Nat), .int .u64 (j : Nat)] 25)) _ _ _ Rb_4
      have Rx_5 := heap_of (bal w4 (Obj.cells #[.int .u64 (i : Nat), .int .u64 (j : Nat)] 25)) _ _ _ Rx_4
      have Rv_5 := heap_of (bal w4 (Obj.cells #[.int .u64 (i : Nat), .int .u64 (j : Nat)] 25)) _ _ _ Rv_4
      clear B4 Rb_4 cb_4_0 cb_4_1 Rx_4 cx_4_0 cx_4_1 cx_4_2 cx_4_3 Rv_4 cv_4_0 cv_4_1 cv_4_2 cv_4_3
      obtain ⟨cb_5_0, cb_5_1⟩ := cells2s Rb_5
      obtain ⟨cx_5_0, cx_5_1, cx_5_2, cx_5_3⟩ := cells4s Rx_5
      obtain ⟨cv_5_0, cv_5_1, cv_5_2, cv_5_3⟩ := cells4s Rv_5
      obtain ⟨cc_5_0, cc_5_1⟩ := cells2s Rc_5
      go_wp2_with fail
      refine (KR.out _).mono ?_
      rintro r w6 ⟨rfl, b6⟩
      have B6 : Below w.heap.size w w6 := btr B5 b6
      have Rb_6 := heap_of b6 _ _ _ Rb_5
      have Rx_6 := heap_of b6 _ _ _ Rx_5
      have Rv_6 := heap_of b6 _ _ _ Rv_5
      have Rc_6 := heap_of b6 _ _ _ Rc_5
      clear b6 B5 Rb_5 cb_5_0 cb_5_1 Rx_5 cx_5_0 cx_5_1 cx_5_2 cx_5_3 Rv_5 cv_5_0 cv_5_1 cv_5_2 cv_5_3 Rc_5 cc_5_0 cc_5_1
      obtain ⟨cb_6_0, cb_6_1⟩ := cells2s Rb_6
      obtain ⟨cx_6_0, cx_6_1, cx_6_2, cx_6_3⟩ := cells4s Rx_6
      obtain ⟨cv_6_0, cv_6_1, cv_6_2, cv_6_3⟩ := cells4s Rv_6
      obtain ⟨cc_6_0, cc_6_1⟩ := cells2s Rc_6
      go_wp2_with fail
      refine (KM.out _).mono ?_
      rintro r w7 ⟨rfl, b7⟩
      have B7 : Below w.heap.size w w7 := btr B6 b7
      have Rb_7 := heap_of b7 _ _ _ Rb_6
      have Rx_7 := heap_of b7 _ _ _ Rx_6
      have Rv_7 := heap_of b7 _ _ _ Rv_6
      have Rc_7 := heap_of b7 _ _ _ Rc_6
      clear b7 B6 Rb_6 cb_6_0 cb_6_1 Rx_6 cx_6_0 cx_6_1 cx_6_2 cx_6_3 Rv_6 cv_6_0 cv_6_1 cv_6_2 cv_6_3 Rc_6 cc_6_0 cc_6_1
      obtain ⟨cb_7_0, cb_7_1⟩ := cells2s Rb_7
      obtain ⟨cx_7_0, cx_7_1, cx_7_2, cx_7_3⟩ := cells4s Rx_7
      obtain ⟨cv_7_0, cv_7_1, cv_7_2, cv_7_3⟩ := cells4s Rv_7
      obtain ⟨cc_7_0, cc_7_1⟩ := cells2s Rc_7
      go_wp2_with fail
      refine (KD.out _).mono ?_
      rintro r w8 ⟨rfl, b8⟩
      have B8 : Below w.heap.size w w8 := btr B7 b8
      have Rb_8 := heap_of b8 _ _ _ Rb_7
      have Rx_8 := heap_of b8 _ _ _ Rx_7
      have Rv_8 := heap_of b8 _ _ _ Rv_7
      have Rc_8 := heap_of b8 _ _ _ Rc_7
      clear b8 B7 Rb_7 cb_7_0 cb_7_1 Rx_7 cx_7_0 cx_7_1 cx_7_2 cx_7_3 Rv_7 cv_7_0 cv_7_1 cv_7_2 cv_7_3 Rc_7 cc_7_0 cc_7_1
      obtain ⟨cb_8_0, cb_8_1⟩ := cells2s Rb_8
      obtain ⟨cx_8_0, cx_8_1, cx_8_2, cx_8_3⟩ := cells4s Rx_8
      obtain ⟨cv_8_0, cv_8_1, cv_8_2, cv_8_3⟩ := cells4s Rv_8
      obtain ⟨cc_8_0, cc_8_1⟩ := cells2s Rc_8
      have S9 := box B8.size
      have Lb_9 : Box (w.heap.size < w8.heap.size) := box (Array.getElem?_eq_some_iff.1 Rb_8).1
      have Lx_9 : Box (w.heap.size + 1 < w8.heap.size) := box (Array.getElem?_eq_some_iff.1 Rx_8).1
      have Lv_9 : Box (w1.heap.size < w8.heap.size) := box (Array.getElem?_eq_some_iff.1 Rv_8).1
      have Lc_9 : Box (w4.heap.size < w8.heap.size) := box (Array.getElem?_eq_some_iff.1 Rc_8).1
      have Rd_9 := heap_alloc_last w8 (Obj.cells #[.int .u64 (i : Nat), .int .u64 (j : Nat)] 25)
      have B9 := btr B8 (bal w8 (Obj.cells #[.int .u64 (i : Nat), .int .u64 (j : Nat)] 25))
      have Rb_9 := heap_of (bal w8 (Obj.cells #[.int .u64 (i : Nat), .int .u64 (j : Nat)] 25)) _ _ _ Rb_8
      have Rx_9 := heap_of (bal w8 (Obj.cells #[.int .u64 (i : Nat), .int .u64 (j : Nat)] 25)) _ _ _ Rx_8
      have Rv_9 := heap_of (bal w8 (Obj.cells #[.int .u64 (i : Nat), .int .u64 (j : Nat)] 25)) _ _ _ Rv_8
      have Rc_9 := heap_of (bal w8 (Obj.cells #[.int .u64 (i : Nat), .int .u64 (j : Nat)] 25)) _ _ _ Rc_8
      clear B8 Rb_8 cb_8_0 cb_8_1 Rx_8 cx_8_0 cx_8_1 cx_8_2 cx_8_3 Rv_8 cv_8_0 cv_8_1 cv_8_2 cv_8_3 Rc_8 cc_8_0 cc_8_1
      obtain ⟨cb_9_0, cb_9_1⟩ := cells2s Rb_9
      obtain ⟨cx_9_0, cx_9_1, cx_9_2, cx_9_3⟩ := cells4s Rx_9
      obtain ⟨cv_9_0, cv_9_1, cv_9_2, cv_9_3⟩ := cells4s Rv_9
      obtain ⟨cc_9_0, cc_9_1⟩ := cells2s Rc_9
      obtain ⟨cd_9_0, cd_9_1⟩ := cells2s Rd_9
      go_wp2_with fail
      refine (KA.out _ (fatB FF.out B9)).mono ?_
      rintro r w10 ⟨rfl, b10⟩
      have B10 : Below w.heap.size w w10 := btr B9 b10
      have Rb_10 := heap_of b10 _ _ _ Rb_9
      have Rx_10 := heap_of b10 _ _ _ Rx_9
      have Rv_10 := heap_of b10 _ _ _ Rv_9
      have Rc_10 := heap_of b10 _ _ _ Rc_9
      have Rd_10 := heap_of b10 _ _ _ Rd_9
      clear b10 B9 Rb_9 cb_9_0 cb_9_1 Rx_9 cx_9_0 cx_9_1 cx_9_2 cx_9_3 Rv_9 cv_9_0 cv_9_1 cv_9_2 cv_9_3 Rc_9 cc_9_0 cc_9_1 Rd_9 cd_9_0 cd_9_1
      obtain ⟨cb_10_0, cb_10_1⟩ := cells2s Rb_10
      obtain ⟨cx_10_0, cx_10_1, cx_10_2, cx_10_3⟩ := cells4s Rx_10
      obtain ⟨cv_10_0, cv_10_1, cv_10_2, cv_10_3⟩ := cells4s Rv_10
      obtain ⟨cc_10_0, cc_10_1⟩ := cells2s Rc_10
      obtain ⟨cd_10_0, cd_10_1⟩ := cells2s Rd_10
      go_wp2
      go_ret
      exact ⟨rfl, B10⟩
  · rcases Q2 with c1 | ⟨c1, c2⟩ | ⟨c1, c2, KO, KR⟩ | ⟨c1, c2, KO, KR, KM⟩ | ⟨i, j, is, c1, c2, KO, KR, KM, KD⟩
    · obtain ⟨Rb_0, Rx_0, B0⟩ := opn2 w (Obj.cells #[.int .u64 (x : Nat), .int .u64 (y : Nat)] 25) (Obj.cells #[.bool vb2, .string vs2, .string vt2, .int .i64 ve2] 28)
      go_enter Tryz.func3, Tryz.ntmps3
      go_wp2_with fail
      refine (KV.out _ (fatB FF.out B0) (tabB TT.out B0)).mono ?_
      rintro r w1 ⟨rfl, b1⟩
      have B1 : Below w.heap.size w w1 := btr B0 b1
      have Rb_1 := heap_of b1 _ _ _ Rb_0
      have Rx_1 := heap_of b1 _ _ _ Rx_0
      clear b1 B0 Rb_0 Rx_0
      obtain ⟨cb_1_0, cb_1_1⟩ := cells2s Rb_1
      obtain ⟨cx_1_0, cx_1_1, cx_1_2, cx_1_3⟩ := cells4s Rx_1
      have S2 := box B1.size
      have Lb_2 : Box (w.heap.size < w1.heap.size) := box (Array.getElem?_eq_some_iff.1 Rb_1).1
      have Lx_2 : Box (w.heap.size + 1 < w1.heap.size) := box (Array.getElem?_eq_some_iff.1 Rx_1).1
      have Rv_2 := heap_alloc_last w1 (Obj.cells #[.bool rb, .string u, .string v, .int .i64 re] 28)
      have B2 := btr B1 (bal w1 (Obj.cells #[.bool rb, .string u, .string v, .int .i64 re] 28))
      have Rb_2 := heap_of (bal w1 (Obj.cells #[.bool rb, .string u, .string v, .int .i64 re] 28)) _ _ _ Rb_1
      have Rx_2 := heap_of (bal w1 (Obj.cells #[.bool rb, .string u, .string v, .int .i64 re] 28)) _ _ _ Rx_1
      clear B1 Rb_1 cb_1_0 cb_1_1 Rx_1 cx_1_0 cx_1_1 cx_1_2 cx_1_3
      obtain ⟨cb_2_0, cb_2_1⟩ := cells2s Rb_2
      obtain ⟨cx_2_0, cx_2_1, cx_2_2, cx_2_3⟩ := cells4s Rx_2
      obtain ⟨cv_2_0, cv_2_1, cv_2_2, cv_2_3⟩ := cells4s Rv_2
      go_wp2_with fail
      refine (K3.out _).mono ?_
      rintro r w3 ⟨rfl, b3⟩
      have B3 : Below w.heap.size w w3 := btr B2 b3
      have Rb_3 := heap_of b3 _ _ _ Rb_2
      have Rx_3 := heap_of b3 _ _ _ Rx_2
      have Rv_3 := heap_of b3 _ _ _ Rv_2
      clear b3 B2 Rb_2 cb_2_0 cb_2_1 Rx_2 cx_2_0 cx_2_1 cx_2_2 cx_2_3 Rv_2 cv_2_0 cv_2_1 cv_2_2 cv_2_3
      obtain ⟨cb_3_0, cb_3_1⟩ := cells2s Rb_3
      obtain ⟨cx_3_0, cx_3_1, cx_3_2, cx_3_3⟩ := cells4s Rx_3
      obtain ⟨cv_3_0, cv_3_1, cv_3_2, cv_3_3⟩ := cells4s Rv_3
      go_wp2_with fail
      refine (KW.out _).mono ?_
      rintro r w4 ⟨rfl, b4⟩
      have B4 : Below w.heap.size w w4 := btr B3 b4
      have Rb_4 := heap_of b4 _ _ _ Rb_3
      have Rx_4 := heap_of b4 _ _ _ Rx_3
      have Rv_4 := heap_of b4 _ _ _ Rv_3
      clear b4 B3 Rb_3 cb_3_0 cb_3_1 Rx_3 cx_3_0 cx_3_1 cx_3_2 cx_3_3 Rv_3 cv_3_0 cv_3_1 cv_3_2 cv_3_3
      obtain ⟨cb_4_0, cb_4_1⟩ := cells2s Rb_4
      obtain ⟨cx_4_0, cx_4_1, cx_4_2, cx_4_3⟩ := cells4s Rx_4
      obtain ⟨cv_4_0, cv_4_1, cv_4_2, cv_4_3⟩ := cells4s Rv_4
      have S5 := box B4.size
      have Lb_5 : Box (w.heap.size < w4.heap.size) := box (Array.getElem?_eq_some_iff.1 Rb_4).1
      have Lx_5 : Box (w.heap.size + 1 < w4.heap.size) := box (Array.getElem?_eq_some_iff.1 Rx_4).1
      have Lv_5 : Box (w1.heap.size < w4.heap.size) := box (Array.getElem?_eq_some_iff.1 Rv_4).1
      have Rw_5 := heap_alloc_last w4 (Obj.cells #[.bool rb, .string u, .string v, .int .i64 re] 28)
      have B5 := btr B4 (bal w4 (Obj.cells #[.bool rb, .string u, .string v, .int .i64 re] 28))
      have Rb_5 := heap_of (bal w4 (Obj.cells #[.bool rb, .string u, .string v, .int .i64 re] 28)) _ _ _ Rb_4
      have Rx_5 := heap_of (bal w4 (Obj.cells #[.bool rb, .string u, .string v, .int .i64 re] 28)) _ _ _ Rx_4
      have Rv_5 := heap_of (bal w4 (Obj.cells #[.bool rb, .string u, .string v, .int .i64 re] 28)) _ _ _ Rv_4
      clear B4 Rb_4 cb_4_0 cb_4_1 Rx_4 cx_4_0 cx_4_1 cx_4_2 cx_4_3 Rv_4 cv_4_0 cv_4_1 cv_4_2 cv_4_3
      obtain ⟨cb_5_0, cb_5_1⟩ := cells2s Rb_5
      obtain ⟨cx_5_0, cx_5_1, cx_5_2, cx_5_3⟩ := cells4s Rx_5
      obtain ⟨cv_5_0, cv_5_1, cv_5_2, cv_5_3⟩ := cells4s Rv_5
      obtain ⟨cw_5_0, cw_5_1, cw_5_2, cw_5_3⟩ := cells4s Rw_5
      go_wp2_with fail
      refine (KA.out _ (fatB FF.out B5)).mono ?_
      rintro r w6 ⟨rfl, b6⟩
      have B6 : Below w.heap.size w w6 := btr B5 b6
      have Rb_6 := heap_of b6 _ _ _ Rb_5
      have Rx_6 := heap_of b6 _ _ _ Rx_5
      have Rv_6 := heap_of b6 _ _ _ Rv_5
      have Rw_6 := heap_of b6 _ _ _ Rw_5
      clear b6 B5 Rb_5 cb_5_0 cb_5_1 Rx_5 cx_5_0 cx_5_1 cx_5_2 cx_5_3 Rv_5 cv_5_0 cv_5_1 cv_5_2 cv_5_3 Rw_5 cw_5_0 cw_5_1 cw_5_2 cw_5_3
      obtain ⟨cb_6_0, cb_6_1⟩ := cells2s Rb_6
      obtain ⟨cx_6_0, cx_6_1, cx_6_2, cx_6_3⟩ := cells4s Rx_6
      obtain ⟨cv_6_0, cv_6_1, cv_6_2, cv_6_3⟩ := cells4s Rv_6
      obtain ⟨cw_6_0, cw_6_1, cw_6_2, cw_6_3⟩ := cells4s Rw_6
      go_wp2
      go_ret
      exact ⟨rfl, B6⟩
    · obtain ⟨Rb_0, Rx_0, B0⟩ := opn2 w (Obj.cells #[.int .u64 (x : Nat), .int .u64 (y : Nat)] 25) (Obj.cells #[.bool vb2, .string vs2, .string vt2, .int .i64 ve2] 28)
      go_enter Tryz.func3, Tryz.ntmps3
      go_wp2_with fail
      refine (KV.out _ (fatB FF.out B0) (tabB TT.out B0)).mono ?_
      rintro r w1 ⟨rfl, b1⟩
      have B1 : Below w.heap.size w w1 := btr B0 b1
      have Rb_1 := heap_of b1 _ _ _ Rb_0
      have Rx_1 := heap_of b1 _ _ _ Rx_0
      clear b1 B0 Rb_0 Rx_0
      obtain ⟨cb_1_0, cb_1_1⟩ := cells2s Rb_1
      obtain ⟨cx_1_0, cx_1_1, cx_1_2, cx_1_3⟩ := cells4s Rx_1
      have S2 := box B1.size
      have Lb_2 : Box (w.heap.size < w1.heap.size) := box (Array.getElem?_eq_some_iff.1 Rb_1).1
      have Lx_2 : Box (w.heap.size + 1 < w1.heap.size) := box (Array.getElem?_eq_some_iff.1 Rx_1).1
      have Rv_2 := heap_alloc_last w1 (Obj.cells #[.bool rb, .string u, .string v, .int .i64 re] 28)
      have B2 := btr B1 (bal w1 (Obj.cells #[.bool rb, .string u, .string v, .int .i64 re] 28))
      have Rb_2 := heap_of (bal w1 (Obj.cells #[.bool rb, .string u, .string v, .int .i64 re] 28)) _ _ _ Rb_1
      have Rx_2 := heap_of (bal w1 (Obj.cells #[.bool rb, .string u, .string v, .int .i64 re] 28)) _ _ _ Rx_1
      clear B1 Rb_1 cb_1_0 cb_1_1 Rx_1 cx_1_0 cx_1_1 cx_1_2 cx_1_3
      obtain ⟨cb_2_0, cb_2_1⟩ := cells2s Rb_2
      obtain ⟨cx_2_0, cx_2_1, cx_2_2, cx_2_3⟩ := cells4s Rx_2
      obtain ⟨cv_2_0, cv_2_1, cv_2_2, cv_2_3⟩ := cells4s Rv_2
      go_wp2_with fail
      refine (K3.out _).mono ?_
      rintro r w3 ⟨rfl, b3⟩
      have B3 : Below w.heap.size w w3 := btr B2 b3
      have Rb_3 := heap_of b3 _ _ _ Rb_2
      have Rx_3 := heap_of b3 _ _ _ Rx_2
      have Rv_3 := heap_of b3 _ _ _ Rv_2
      clear b3 B2 Rb_2 cb_2_0 cb_2_1 Rx_2 cx_2_0 cx_2_1 cx_2_2 cx_2_3 Rv_2 cv_2_0 cv_2_1 cv_2_2 cv_2_3
      obtain ⟨cb_3_0, cb_3_1⟩ := cells2s Rb_3
      obtain ⟨cx_3_0, cx_3_1, cx_3_2, cx_3_3⟩ := cells4s Rx_3
      obtain ⟨cv_3_0, cv_3_1, cv_3_2, cv_3_3⟩ := cells4s Rv_3
      go_wp2_with fail
      refine (KW.out _).mono ?_
      rintro r w4 ⟨rfl, b4⟩
      have B4 : Below w.heap.size w w4 := btr B3 b4
      have Rb_4 := heap_of b4 _ _ _ Rb_3
      have Rx_4 := heap_of b4 _ _ _ Rx_3
      have Rv_4 := heap_of b4 _ _ _ Rv_3
      clear b4 B3 Rb_3 cb_3_0 cb_3_1 Rx_3 cx_3_0 cx_3_1 cx_3_2 cx_3_3 Rv_3 cv_3_0 cv_3_1 cv_3_2 cv_3_3
      obtain ⟨cb_4_0, cb_4_1⟩ := cells2s Rb_4
      obtain ⟨cx_4_0, cx_4_1, cx_4_2, cx_4_3⟩ := cells4s Rx_4
      obtain ⟨cv_4_0, cv_4_1, cv_4_2, cv_4_3⟩ := cells4s Rv_4
      have S5 := box B4.size
      have Lb_5 : Box (w.heap.size < w4.heap.size) := box (Array.getElem?_eq_some_iff.1 Rb_4).1
      have Lx_5 : Box (w.heap.size + 1 < w4.heap.size) := box (Array.getElem?_eq_some_iff.1 Rx_4).1
      have Lv_5 : Box (w1.heap.size < w4.heap.size) := box (Array.getElem?_eq_some_iff.1 Rv_4).1
      have Rw_5 := heap_alloc_last w4 (Obj.cells #[.bool rb, .string u, .string v, .int .i64 re] 28)
      have B5 := btr B4 (bal w4 (Obj.cells #[.bool rb, .string u, .string v, .int .i64 re] 28))
      have Rb_5 := heap_of (bal w4 (Obj.cells #[.bool rb, .string u, .string v, .int .i64 re] 28)) _ _ _ Rb_4
      have Rx_5 := heap_of (bal w4 (Obj.cells #[.bool rb, .string u, .string v, .int .i64 re] 28)) _ _ _ Rx_4
      have Rv_5 := heap_of (bal w4 (Obj.cells #[.bool rb, .string u, .string v, .int .i64 re] 28)) _ _ _ Rv_4
      clear B4 Rb_4 cb_4_0 cb_4_1 Rx_4 cx_4_0 cx_4_1 cx_4_2 cx_4_3 Rv_4 cv_4_0 cv_4_1 cv_4_2 cv_4_3
      obtain ⟨cb_5_0, cb_5_1⟩ := cells2s Rb_5
      obtain ⟨cx_5_0, cx_5_1, cx_5_2, cx_5_3⟩ := cells4s Rx_5
      obtain ⟨cv_5_0, cv_5_1, cv_5_2, cv_5_3⟩ := cells4s Rv_5
      obtain ⟨cw_5_0, cw_5_1, cw_5_2, cw_5_3⟩ := cells4s Rw_5
      go_wp2_with fail
      refine (KA.out _ (fatB FF.out B5)).mono ?_
      rintro r w6 ⟨rfl, b6⟩
      have B6 : Below w.heap.size w w6 := btr B5 b6
      have Rb_6 := heap_of b6 _ _ _ Rb_5
      have Rx_6 := heap_of b6 _ _ _ Rx_5
      have Rv_6 := heap_of b6 _ _ _ Rv_5
      have Rw_6 := heap_of b6 _ _ _ Rw_5
      clear b6 B5 Rb_5 cb_5_0 cb_5_1 Rx_5 cx_5_0 cx_5_1 cx_5_2 cx_5_3 Rv_5 cv_5_0 cv_5_1 cv_5_2 cv_5_3 Rw_5 cw_5_0 cw_5_1 cw_5_2 cw_5_3
      obtain ⟨cb_6_0, cb_6_1⟩ := cells2s Rb_6
      obtain ⟨cx_6_0, cx_6_1, cx_6_2, cx_6_3⟩ := cells4s Rx_6
      obtain ⟨cv_6_0, cv_6_1, cv_6_2, cv_6_3⟩ := cells4s Rv_6
      obtain ⟨cw_6_0, cw_6_1, cw_6_2, cw_6_3⟩ := cells4s Rw_6
      go_wp2
      go_ret
      exact ⟨rfl, B6⟩
    · obtain ⟨Rb_0, Rx_0, B0⟩ := opn2 w (Obj.cells #[.int .u64 (x : Nat), .int .u64 (y : Nat)] 25) (Obj.cells #[.bool vb2, .string vs2, .string vt2, .int .i64 ve2] 28)
      go_enter Tryz.func3, Tryz.ntmps3
      go_wp2_with fail
      refine (KV.out _ (fatB FF.out B0) (tabB TT.out B0)).mono ?_
      rintro r w1 ⟨rfl, b1⟩
      have B1 : Below w.heap.size w w1 := btr B0 b1
      have Rb_1 := heap_of b1 _ _ _ Rb_0
      have Rx_1 := heap_of b1 _ _ _ Rx_0
      clear b1 B0 Rb_0 Rx_0
      obtain ⟨cb_1_0, cb_1_1⟩ := cells2s Rb_1
      obtain ⟨cx_1_0, cx_1_1, cx_1_2, cx_1_3⟩ := cells4s Rx_1
      have S2 := box B1.size
      have Lb_2 : Box (w.heap.size < w1.heap.size) := box (Array.getElem?_eq_some_iff.1 Rb_1).1
      have Lx_2 : Box (w.heap.size + 1 < w1.heap.size) := box (Array.getElem?_eq_some_iff.1 Rx_1).1
      have Rv_2 := heap_alloc_last w1 (Obj.cells #[.bool rb, .string u, .string v, .int .i64 re] 28)
      have B2 := btr B1 (bal w1 (Obj.cells #[.bool rb, .string u, .string v, .int .i64 re] 28))
      have Rb_2 := heap_of (bal w1 (Obj.cells #[.bool rb, .string u, .string v, .int .i64 re] 28)) _ _ _ Rb_1
      have Rx_2 := heap_of (bal w1 (Obj.cells #[.bool rb, .string u, .string v, .int .i64 re] 28)) _ _ _ Rx_1
      clear B1 Rb_1 cb_1_0 cb_1_1 Rx_1 cx_1_0 cx_1_1 cx_1_2 cx_1_3
      obtain ⟨cb_2_0, cb_2_1⟩ := cells2s Rb_2
      obtain ⟨cx_2_0, cx_2_1, cx_2_2, cx_2_3⟩ := cells4s Rx_2
      obtain ⟨cv_2_0, cv_2_1, cv_2_2, cv_2_3⟩ := cells4s Rv_2
      go_wp2_with fail
      refine (K3.out _).mono ?_
      rintro r w3 ⟨rfl, b3⟩
      have B3 : Below w.heap.size w w3 := btr B2 b3
      have Rb_3 := heap_of b3 _ _ _ Rb_2
      have Rx_3 := heap_of b3 _ _ _ Rx_2
      have Rv_3 := heap_of b3 _ _ _ Rv_2
      clear b3 B2 Rb_2 cb_2_0 cb_2_1 Rx_2 cx_2_0 cx_2_1 cx_2_2 cx_2_3 Rv_2 cv_2_0 cv_2_1 cv_2_2 cv_2_3
      obtain ⟨cb_3_0, cb_3_1⟩ := cells2s Rb_3
      obtain ⟨cx_3_0, cx_3_1, cx_3_2, cx_3_3⟩ := cells4s Rx_3
      obtain ⟨cv_3_0, cv_3_1, cv_3_2, cv_3_3⟩ := cells4s Rv_3
      go_wp2_with fail
      refine (KW.out _).mono ?_
      rintro r w4 ⟨rfl, b4⟩
      have B4 : Below w.heap.size w w4 := btr B3 b4
      have Rb_4 := heap_of b4 _ _ _ Rb_3
      have Rx_4 := heap_of b4 _ _ _ Rx_3
      have Rv_4 := heap_of b4 _ _ _ Rv_3
      clear b4 B3 Rb_3 cb_3_0 cb_3_1 Rx_3 cx_3_0 cx_3_1 cx_3_2 cx_3_3 Rv_3 cv_3_0 cv_3_1 cv_3_2 cv_3_3
      obtain ⟨cb_4_0, cb_4_1⟩ := cells2s Rb_4
      obtain ⟨cx_4_0, cx_4_1, cx_4_2, cx_4_3⟩ := cells4s Rx_4
      obtain ⟨cv_4_0, cv_4_1, cv_4_2, cv_4_3⟩ := cells4s Rv_4
      have S5 := box B4.size
      have Lb_5 : Box (w.heap.size < w4.heap.size) := box (Array.getElem?_eq_some_iff.1 Rb_4).1
      have Lx_5 : Box (w.heap.size + 1 < w4.heap.size) := box (Array.getElem?_eq_some_iff.1 Rx_4).1
      have Lv_5 : Box (w1.heap.size < w4.heap.size) := box (Array.getElem?_eq_some_iff.1 Rv_4).1
      have Rw_5 := heap_alloc_last w4 (Obj.cells #[.bool rb, .string u, .string v, .int .i64 re] 28)
      have B5 := btr B4 (bal w4 (Obj.cells #[.bool rb, .string u, .string v, .int .i64 re] 28))
      have Rb_5 := heap_of (bal w4 (Obj.cells #[.bool rb, .string u, .string v, .int .i64 re] 28)) _ _ _ Rb_4
      have Rx_5 := heap_of (bal w4 (Obj.cells #[.bool rb, .string u, .string v, .int .i64 re] 28)) _ _ _ Rx_4
      have Rv_5 := heap_of (bal w4 (Obj.cells #[.bool rb, .string u, .string v, .int .i64 re] 28)) _ _ _ Rv_4
      clear B4 Rb_4 cb_4_0 cb_4_1 Rx_4 cx_4_0 cx_4_1 cx_4_2 cx_4_3 Rv_4 cv_4_0 cv_4_1 cv_4_2 cv_4_3
      obtain ⟨cb_5_0, cb_5_1⟩ := cells2s Rb_5
      obtain ⟨cx_5_0, cx_5_1, cx_5_2, cx_5_3⟩ := cells4s Rx_5
      obtain ⟨cv_5_0, cv_5_1, cv_5_2, cv_5_3⟩ := cells4s Rv_5
      obtain ⟨cw_5_0, cw_5_1, cw_5_2, cw_5_3⟩ := cells4s Rw_5
      go_wp2_with fail
      refine (KO.out _ (fatB FF.out B5) (tabB TT.out B5)).mono ?_
      rintro r w6 ⟨rfl, b6⟩
      have B6 : Below w.heap.size w w6 := btr B5 b6
      have Rb_6 := heap_of b6 _ _ _ Rb_5
      have Rx_6 := heap_of b6 _ _ _ Rx_5
      have Rv_6 := heap_of b6 _ _ _ Rv_5
      have Rw_6 := heap_of b6 _ _ _ Rw_5
      clear b6 B5 Rb_5 cb_5_0 cb_5_1 Rx_5 cx_5_0 cx_5_1 cx_5_2 cx_5_3 Rv_5 cv_5_0 cv_5_1 cv_5_2 cv_5_3 Rw_5 cw_5_0 cw_5_1 cw_5_2 cw_5_3
      obtain ⟨cb_6_0, cb_6_1⟩ := cells2s Rb_6
      obtain ⟨cx_6_0, cx_6_1, cx_6_2, cx_6_3⟩ := cells4s Rx_6
      obtain ⟨cv_6_0, cv_6_1, cv_6_2, cv_6_3⟩ := cells4s Rv_6
      obtain ⟨cw_6_0, cw_6_1, cw_6_2, cw_6_3⟩ := cells4s Rw_6
      have S7 := box B6.size
      have Lb_7 : Box (w.heap.size < w6.heap.size) := box (Array.getElem?_eq_some_iff.1 Rb_6).1
      have Lx_7 : Box (w.heap.size + 1 < w6.heap.size) := box (Array.getElem?_eq_some_iff.1 Rx_6).1
      have Lv_7 : Box (w1.heap.size < w6.heap.size) := box (Array.getElem?_eq_some_iff.1 Rv_6).1
      have Lw_7 : Box (w4.heap.size < w6.heap.size) := box (Array.getElem?_eq_some_iff.1 Rw_6).1
      have Rc_7 := heap_alloc_last w6 (Obj.cells #[.int .u64 0, .int .u64 0] 25)
      have B7 := btr B6 (bal w6 (Obj.cells #[.int .u64 0, .int .u64 0] 25))
      have Rb_7 := heap_of (bal w6 (Obj.cells #[.int .u64 0, .int .u64 0] 25)) _ _ _ Rb_6
      have Rx_7 := heap_of (bal w6 (Obj.cells #[.int .u64 0, .int .u64 0] 25)) _ _ _ Rx_6
      have Rv_7 := heap_of (bal w6 (Obj.cells #[.int .u64 0, .int .u64 0] 25)) _ _ _ Rv_6
      have Rw_7 := heap_of (bal w6 (Obj.cells #[.int .u64 0, .int .u64 0] 25)) _ _ _ Rw_6
      clear B6 Rb_6 cb_6_0 cb_6_1 Rx_6 cx_6_0 cx_6_1 cx_6_2 cx_6_3 Rv_6 cv_6_0 cv_6_1 cv_6_2 cv_6_3 Rw_6 cw_6_0 cw_6_1 cw_6_2 cw_6_3
      obtain ⟨cb_7_0, cb_7_1⟩ := cells2s Rb_7
      obtain ⟨cx_7_0, cx_7_1, cx_7_2, cx_7_3⟩ := cells4s Rx_7
      obtain ⟨cv_7_0, cv_7_1, cv_7_2, cv_7_3⟩ := cells4s Rv_7
      obtain ⟨cw_7_0, cw_7_1, cw_7_2, cw_7_3⟩ := cells4s Rw_7
      obtain ⟨cc_7_0, cc_7_1⟩ := cells2s Rc_7
      go_wp2_with fail
      refine (KR.out _).mono ?_
      rintro r w8 ⟨rfl, b8⟩
      have B8 : Below w.heap.size w w8 := btr B7 b8
      have Rb_8 := heap_of b8 _ _ _ Rb_7
      have Rx_8 := heap_of b8 _ _ _ Rx_7
      have Rv_8 := heap_of b8 _ _ _ Rv_7
      have Rw_8 := heap_of b8 _ _ _ Rw_7
      have Rc_8 := heap_of b8 _ _ _ Rc_7
      clear b8 B7 Rb_7 cb_7_0 cb_7_1 Rx_7 cx_7_0 cx_7_1 cx_7_2 cx_7_3 Rv_7 cv_7_0 cv_7_1 cv_7_2 cv_7_3 Rw_7 cw_7_0 cw_7_1 cw_7_2 cw_7_3 Rc_7 cc_7_0 cc_7_1
      obtain ⟨cb_8_0, cb_8_1⟩ := cells2s Rb_8
      obtain ⟨cx_8_0, cx_8_1, cx_8_2, cx_8_3⟩ := cells4s Rx_8
      obtain ⟨cv_8_0, cv_8_1, cv_8_2, cv_8_3⟩ := cells4s Rv_8
      obtain ⟨cw_8_0, cw_8_1, cw_8_2, cw_8_3⟩ := cells4s Rw_8
      obtain ⟨cc_8_0, cc_8_1⟩ := cells2s Rc_8
      go_wp2_with fail
      refine (KA.out _ (fatB FF.out B8)).mono ?_
      rintro r w9 ⟨rfl, b9⟩
      have B9 : Below w.heap.size w w9 := btr B8 b9
      have Rb_9 := heap_of b9 _ _ _ Rb_8
      have Rx_9 := heap_of b9 _ _ _ Rx_8
      have Rv_9 := heap_of b9 _ _ _ Rv_8
      have Rw_9 := heap_of b9 _ _ _ Rw_8
      have Rc_9 := heap_of b9 _ _ _ Rc_8
      clear b9 B8 Rb_8 cb_8_0 cb_8_1 Rx_8 cx_8_0 cx_8_1 cx_8_2 cx_8_3 Rv_8 cv_8_0 cv_8_1 cv_8_2 cv_8_3 Rw_8 cw_8_0 cw_8_1 cw_8_2 cw_8_3 Rc_8 cc_8_0 cc_8_1
      obtain ⟨cb_9_0, cb_9_1⟩ := cells2s Rb_9
      obtain ⟨cx_9_0, cx_9_1, cx_9_2, cx_9_3⟩ := cells4s Rx_9
      obtain ⟨cv_9_0, cv_9_1, cv_9_2, cv_9_3⟩ := cells4s Rv_9
      obtain ⟨cw_9_0, cw_9_1, cw_9_2, cw_9_3⟩ := cells4s Rw_9
      obtain ⟨cc_9_0, cc_9_1⟩ := cells2s Rc_9
      go_wp2
      go_ret
      exact ⟨rfl, B9⟩
    · obtain ⟨Rb_0, Rx_0, B0⟩ := opn2 w (Obj.cells #[.int .u64 (x : Nat), .int .u64 (y : Nat)] 25) (Obj.cells #[.bool vb2, .string vs2, .string vt2, .int .i64 ve2] 28)
      go_enter Tryz.func3, Tryz.ntmps3
      go_wp2_with fail
      refine (KV.out _ (fatB FF.out B0) (tabB TT.out B0)).mono ?_
      rintro r w1 ⟨rfl, b1⟩
      have B1 : Below w.heap.size w w1 := btr B0 b1
      have Rb_1 := heap_of b1 _ _ _ Rb_0
      have Rx_1 := heap_of b1 _ _ _ Rx_0
      clear b1 B0 Rb_0 Rx_0
      obtain ⟨cb_1_0, cb_1_1⟩ := cells2s Rb_1
      obtain ⟨cx_1_0, cx_1_1, cx_1_2, cx_1_3⟩ := cells4s Rx_1
      have S2 := box B1.size
      have Lb_2 : Box (w.heap.size < w1.heap.size) := box (Array.getElem?_eq_some_iff.1 Rb_1).1
      have Lx_2 : Box (w.heap.size + 1 < w1.heap.size) := box (Array.getElem?_eq_some_iff.1 Rx_1).1
      have Rv_2 := heap_alloc_last w1 (Obj.cells #[.bool rb, .string u, .string v, .int .i64 re] 28)
      have B2 := btr B1 (bal w1 (Obj.cells #[.bool rb, .string u, .string v, .int .i64 re] 28))
      have Rb_2 := heap_of (bal w1 (Obj.cells #[.bool rb, .string u, .string v, .int .i64 re] 28)) _ _ _ Rb_1
      have Rx_2 := heap_of (bal w1 (Obj.cells #[.bool rb, .string u, .string v, .int .i64 re] 28)) _ _ _ Rx_1
      clear B1 Rb_1 cb_1_0 cb_1_1 Rx_1 cx_1_0 cx_1_1 cx_1_2 cx_1_3
      obtain ⟨cb_2_0, cb_2_1⟩ := cells2s Rb_2
      obtain ⟨cx_2_0, cx_2_1, cx_2_2, cx_2_3⟩ := cells4s Rx_2
      obtain ⟨cv_2_0, cv_2_1, cv_2_2, cv_2_3⟩ := cells4s Rv_2
      go_wp2_with fail
      refine (K3.out _).mono ?_
      rintro r w3 ⟨rfl, b3⟩
      have B3 : Below w.heap.size w w3 := btr B2 b3
      have Rb_3 := heap_of b3 _ _ _ Rb_2
      have Rx_3 := heap_of b3 _ _ _ Rx_2
      have Rv_3 := heap_of b3 _ _ _ Rv_2
      clear b3 B2 Rb_2 cb_2_0 cb_2_1 Rx_2 cx_2_0 cx_2_1 cx_2_2 cx_2_3 Rv_2 cv_2_0 cv_2_1 cv_2_2 cv_2_3
      obtain ⟨cb_3_0, cb_3_1⟩ := cells2s Rb_3
      obtain ⟨cx_3_0, cx_3_1, cx_3_2, cx_3_3⟩ := cells4s Rx_3
      obtain ⟨cv_3_0, cv_3_1, cv_3_2, cv_3_3⟩ := cells4s Rv_3
      go_wp2_with fail
      refine (KW.out _).mono ?_
      rintro r w4 ⟨rfl, b4⟩
      have B4 : Below w.heap.size w w4 := btr B3 b4
      have Rb_4 := heap_of b4 _ _ _ Rb_3
      have Rx_4 := heap_of b4 _ _ _ Rx_3
      have Rv_4 := heap_of b4 _ _ _ Rv_3
      clear b4 B3 Rb_3 cb_3_0 cb_3_1 Rx_3 cx_3_0 cx_3_1 cx_3_2 cx_3_3 Rv_3 cv_3_0 cv_3_1 cv_3_2 cv_3_3
      obtain ⟨cb_4_0, cb_4_1⟩ := cells2s Rb_4
      obtain ⟨cx_4_0, cx_4_1, cx_4_2, cx_4_3⟩ := cells4s Rx_4
      obtain ⟨cv_4_0, cv_4_1, cv_4_2, cv_4_3⟩ := cells4s Rv_4
      have S5 := box B4.size
      have Lb_5 : Box (w.heap.size < w4.heap.size) := box (Array.getElem?_eq_some_iff.1 Rb_4).1
      have Lx_5 : Box (w.heap.size + 1 < w4.heap.size) := box (Array.getElem?_eq_some_iff.1 Rx_4).1
      have Lv_5 : Box (w1.heap.size < w4.heap.size) := box (Array.getElem?_eq_some_iff.1 Rv_4).1
      have Rw_5 := heap_alloc_last w4 (Obj.cells #[.bool rb, .string u, .string v, .int .i64 re] 28)
      have B5 := btr B4 (bal w4 (Obj.cells #[.bool rb, .string u, .string v, .int .i64 re] 28))
      have Rb_5 := heap_of (bal w4 (Obj.cells #[.bool rb, .string u, .string v, .int .i64 re] 28)) _ _ _ Rb_4
      have Rx_5 := heap_of (bal w4 (Obj.cells #[.bool rb, .string u, .string v, .int .i64 re] 28)) _ _ _ Rx_4
      have Rv_5 := heap_of (bal w4 (Obj.cells #[.bool rb, .string u, .string v, .int .i64 re] 28)) _ _ _ Rv_4
      clear B4 Rb_4 cb_4_0 cb_4_1 Rx_4 cx_4_0 cx_4_1 cx_4_2 cx_4_3 Rv_4 cv_4_0 cv_4_1 cv_4_2 cv_4_3
      obtain ⟨cb_5_0, cb_5_1⟩ := cells2s Rb_5
      obtain ⟨cx_5_0, cx_5_1, cx_5_2, cx_5_3⟩ := cells4s Rx_5
      obtain ⟨cv_5_0, cv_5_1, cv_5_2, cv_5_3⟩ := cells4s Rv_5
      obtain ⟨cw_5_0, cw_5_1, cw_5_2, cw_5_3⟩ := cells4s Rw_5
      go_wp2_with fail
      refine (KO.out _ (fatB FF.out B5) (tabB TT.out B5)).mono ?_
      rintro r w6 ⟨rfl, b6⟩
      have B6 : Below w.heap.size w w6 := btr B5 b6
      have Rb_6 := heap_of b6 _ _ _ Rb_5
      have Rx_6 := heap_of b6 _ _ _ Rx_5
      have Rv_6 := heap_of b6 _ _ _ Rv_5
      have Rw_6 := heap_of b6 _ _ _ Rw_5
      clear b6 B5 Rb_5 cb_5_0 cb_5_1 Rx_5 cx_5_0 cx_5_1 cx_5_2 cx_5_3 Rv_5 cv_5_0 cv_5_1 cv_5_2 cv_5_3 Rw_5 cw_5_0 cw_5_1 cw_5_2 cw_5_3
      obtain ⟨cb_6_0, cb_6_1⟩ := cells2s Rb_6
      obtain ⟨cx_6_0, cx_6_1, cx_6_2, cx_6_3⟩ := cells4s Rx_6
      obtain ⟨cv_6_0, cv_6_1, cv_6_2, cv_6_3⟩ := cells4s Rv_6
      obtain ⟨cw_6_0, cw_6_1, cw_6_2, cw_6_3⟩ := cells4s Rw_6
      have S7 := box B6.size
      have Lb_7 : Box (w.heap.size < w6.heap.size) := box (Array.getElem?_eq_some_iff.1 Rb_6).1
      have Lx_7 : Box (w.heap.size + 1 < w6.heap.size) := box (Array.getElem?_eq_some_iff.1 Rx_6).1
      have Lv_7 : Box (w1.heap.size < w6.heap.size) := box (Array.getElem?_eq_some_iff.1 Rv_6).1
      have Lw_7 : Box (w4.heap.size < w6.heap.size) := box (Array.getElem?_eq_some_iff.1 Rw_6).1
      have Rc_7 := heap_alloc_last w6 (Obj.cells #[.int .u64 0, .int .u64 0] 25)
      have B7 := btr B6 (bal w6 (Obj.cells #[.int .u64 0, .int .u64 0] 25))
      have Rb_7 := heap_of (bal w6 (Obj.cells #[.int .u64 0, .int .u64 0] 25)) _ _ _ Rb_6
      have Rx_7 := heap_of (bal w6 (Obj.cells #[.int .u64 0, .int .u64 0] 25)) _ _ _ Rx_6
      have Rv_7 := heap_of (bal w6 (Obj.cells #[.int .u64 0, .int .u64 0] 25)) _ _ _ Rv_6
      have Rw_7 := heap_of (bal w6 (Obj.cells #[.int .u64 0, .int .u64 0] 25)) _ _ _ Rw_6
      clear B6 Rb_6 cb_6_0 cb_6_1 Rx_6 cx_6_0 cx_6_1 cx_6_2 cx_6_3 Rv_6 cv_6_0 cv_6_1 cv_6_2 cv_6_3 Rw_6 cw_6_0 cw_6_1 cw_6_2 cw_6_3
      obtain ⟨cb_7_0, cb_7_1⟩ := cells2s Rb_7
      obtain ⟨cx_7_0, cx_7_1, cx_7_2, cx_7_3⟩ := cells4s Rx_7
      obtain ⟨cv_7_0, cv_7_1, cv_7_2, cv_7_3⟩ := cells4s Rv_7
      obtain ⟨cw_7_0, cw_7_1, cw_7_2, cw_7_3⟩ := cells4s Rw_7
      obtain ⟨cc_7_0, cc_7_1⟩ := cells2s Rc_7
      go_wp2_with fail
      refine (KR.out _).mono ?_
      rintro r w8 ⟨rfl, b8⟩
      have B8 : Below w.heap.size w w8 := btr B7 b8
      have Rb_8 := heap_of b8 _ _ _ Rb_7
      have Rx_8 := heap_of b8 _ _ _ Rx_7
      have Rv_8 := heap_of b8 _ _ _ Rv_7
      have Rw_8 := heap_of b8 _ _ _ Rw_7
      have Rc_8 := heap_of b8 _ _ _ Rc_7
      clear b8 B7 Rb_7 cb_7_0 cb_7_1 Rx_7 cx_7_0 cx_7_1 cx_7_2 cx_7_3 Rv_7 cv_7_0 cv_7_1 cv_7_2 cv_7_3 Rw_7 cw_7_0 cw_7_1 cw_7_2 cw_7_3 Rc_7 cc_7_0 cc_7_1
      obtain ⟨cb_8_0, cb_8_1⟩ := cells2s Rb_8
      obtain ⟨cx_8_0, cx_8_1, cx_8_2, cx_8_3⟩ := cells4s Rx_8
      obtain ⟨cv_8_0, cv_8_1, cv_8_2, cv_8_3⟩ := cells4s Rv_8
      obtain ⟨cw_8_0, cw_8_1, cw_8_2, cw_8_3⟩ := cells4s Rw_8
      obtain ⟨cc_8_0, cc_8_1⟩ := cells2s Rc_8
      go_wp2_with fail
      refine (KM.out _).mono ?_
      rintro r w9 ⟨rfl, b9⟩
      have B9 : Below w.heap.size w w9 := btr B8 b9
      have Rb_9 := heap_of b9 _ _ _ Rb_8
      have Rx_9 := heap_of b9 _ _ _ Rx_8
      have Rv_9 := heap_of b9 _ _ _ Rv_8
      have Rw_9 := heap_of b9 _ _ _ Rw_8
      have Rc_9 := heap_of b9 _ _ _ Rc_8
      clear b9 B8 Rb_8 cb_8_0 cb_8_1 Rx_8 cx_8_0 cx_8_1 cx_8_2 cx_8_3 Rv_8 cv_8_0 cv_8_1 cv_8_2 cv_8_3 Rw_8 cw_8_0 cw_8_1 cw_8_2 cw_8_3 Rc_8 cc_8_0 cc_8_1
      obtain ⟨cb_9_0, cb_9_1⟩ := cells2s Rb_9
      obtain ⟨cx_9_0, cx_9_1, cx_9_2, cx_9_3⟩ := cells4s Rx_9
      obtain ⟨cv_9_0, cv_9_1, cv_9_2, cv_9_3⟩ := cells4s Rv_9
      obtain ⟨cw_9_0, cw_9_1, cw_9_2, cw_9_3⟩ := cells4s Rw_9
      obtain ⟨cc_9_0, cc_9_1⟩ := cells2s Rc_9
      go_wp2_with fail
      refine (KA.out _ (fatB FF.out B9)).mono ?_
      rintro r w10 ⟨rfl, b10⟩
      have B10 : Below w.heap.size w w10 := btr B9 b10
      have Rb_10 := heap_of b10 _ _ _ Rb_9
      have Rx_10 := heap_of b10 _ _ _ Rx_9
      have Rv_10 := heap_of b10 _ _ _ Rv_9
      have Rw_10 := heap_of b10 _ _ _ Rw_9
      have Rc_10 := heap_of b10 _ _ _ Rc_9
      clear b10 B9 Rb_9 cb_9_0 cb_9_1 Rx_9 cx_9_0 cx_9_1 cx_9_2 cx_9_3 Rv_9 cv_9_0 cv_9_1 cv_9_2 cv_9_3 Rw_9 cw_9_0 cw_9_1 cw_9_2 cw_9_3 Rc_9 cc_9_0 cc_9_1
      obtain ⟨cb_10_0, cb_10_1⟩ := cells2s Rb_10
      obtain ⟨cx_10_0, cx_10_1, cx_10_2, cx_10_3⟩ := cells4s Rx_10
      obtain ⟨cv_10_0, cv_10_1, cv_10_2, cv_10_3⟩ := cells4s Rv_10
      obtain ⟨cw_10_0, cw_10_1, cw_10_2, cw_10_3⟩ := cells4s Rw_10
      obtain ⟨cc_10_0, cc_10_1⟩ := cells2s Rc_10
      go_wp2
      go_ret
      exact ⟨rfl, B10⟩
    · obtain ⟨Rb_0, Rx_0, B0⟩ := opn2 w (Obj.cells #[.int .u64 (x : Nat), .int .u64 (y : Nat)] 25) (Obj.cells #[.bool vb2, .string vs2, .string vt2, .int .i64 ve2] 28)
      go_enter Tryz.func3, Tryz.ntmps3
      go_wp2_with fail
      refine (KV.out _ (fatB FF.out B0) (tabB TT.out B0)).mono ?_
      rintro r w1 ⟨rfl, b1⟩
      have B1 : Below w.heap.size w w1 := btr B0 b1
      have Rb_1 := heap_of b1 _ _ _ Rb_0
      have Rx_1 := heap_of b1 _ _ _ Rx_0
      clear b1 B0 Rb_0 Rx_0
      obtain ⟨cb_1_0, cb_1_1⟩ := cells2s Rb_1
      obtain ⟨cx_1_0, cx_1_1, cx_1_2, cx_1_3⟩ := cells4s Rx_1
      have S2 := box B1.size
      have Lb_2 : Box (w.heap.size < w1.heap.size) := box (Array.getElem?_eq_some_iff.1 Rb_1).1
      have Lx_2 : Box (w.heap.size + 1 < w1.heap.size) := box (Array.getElem?_eq_some_iff.1 Rx_1).1
      have Rv_2 := heap_alloc_last w1 (Obj.cells #[.bool rb, .string u, .string v, .int .i64 re] 28)
      have B2 := btr B1 (bal w1 (Obj.cells #[.bool rb, .string u, .string v, .int .i64 re] 28))
      have Rb_2 := heap_of (bal w1 (Obj.cells #[.bool rb, .string u, .string v, .int .i64 re] 28)) _ _ _ Rb_1
      have Rx_2 := heap_of (bal w1 (Obj.cells #[.bool rb, .string u, .string v, .int .i64 re] 28)) _ _ _ Rx_1
      clear B1 Rb_1 cb_1_0 cb_1_1 Rx_1 cx_1_0 cx_1_1 cx_1_2 cx_1_3
      obtain ⟨cb_2_0, cb_2_1⟩ := cells2s Rb_2
      obtain ⟨cx_2_0, cx_2_1, cx_2_2, cx_2_3⟩ := cells4s Rx_2
      obtain ⟨cv_2_0, cv_2_1, cv_2_2, cv_2_3⟩ := cells4s Rv_2
      go_wp2_with fail
      refine (K3.out _).mono ?_
      rintro r w3 ⟨rfl, b3⟩
      have B3 : Below w.heap.size w w3 := btr B2 b3
      have Rb_3 := heap_of b3 _ _ _ Rb_2
      have Rx_3 := heap_of b3 _ _ _ Rx_2
      have Rv_3 := heap_of b3 _ _ _ Rv_2
      clear b3 B2 Rb_2 cb_2_0 cb_2_1 Rx_2 cx_2_0 cx_2_1 cx_2_2 cx_2_3 Rv_2 cv_2_0 cv_2_1 cv_2_2 cv_2_3
      obtain ⟨cb_3_0, cb_3_1⟩ := cells2s Rb_3
      obtain ⟨cx_3_0, cx_3_1, cx_3_2, cx_3_3⟩ := cells4s Rx_3
      obtain ⟨cv_3_0, cv_3_1, cv_3_2, cv_3_3⟩ := cells4s Rv_3
      go_wp2_with fail
      refine (KW.out _).mono ?_
      rintro r w4 ⟨rfl, b4⟩
      have B4 : Below w.heap.size w w4 := btr B3 b4
      have Rb_4 := heap_of b4 _ _ _ Rb_3
      have Rx_4 := heap_of b4 _ _ _ Rx_3
      have Rv_4 := heap_of b4 _ _ _ Rv_3
      clear b4 B3 Rb_3 cb_3_0 cb_3_1 Rx_3 cx_3_0 cx_3_1 cx_3_2 cx_3_3 Rv_3 cv_3_0 cv_3_1 cv_3_2 cv_3_3
      obtain ⟨cb_4_0, cb_4_1⟩ := cells2s Rb_4
      obtain ⟨cx_4_0, cx_4_1, cx_4_2, cx_4_3⟩ := cells4s Rx_4
      obtain ⟨cv_4_0, cv_4_1, cv_4_2, cv_4_3⟩ := cells4s Rv_4
      have S5 := box B4.size
      have Lb_5 : Box (w.heap.size < w4.heap.size) := box (Array.getElem?_eq_some_iff.1 Rb_4).1
      have Lx_5 : Box (w.heap.size + 1 < w4.heap.size) := box (Array.getElem?_eq_some_iff.1 Rx_4).1
      have Lv_5 : Box (w1.heap.size < w4.heap.size) := box (Array.getElem?_eq_some_iff.1 Rv_4).1
      have Rw_5 := heap_alloc_last w4 (Obj.cells #[.bool rb, .string u, .string v, .int .i64 re] 28)
      have B5 := btr B4 (bal w4 (Obj.cells #[.bool rb, .string u, .string v, .int .i64 re] 28))
      have Rb_5 := heap_of (bal w4 (Obj.cells #[.bool rb, .string u, .string v, .int .i64 re] 28)) _ _ _ Rb_4
      have Rx_5 := heap_of (bal w4 (Obj.cells #[.bool rb, .string u, .string v, .int .i64 re] 28)) _ _ _ Rx_4
      have Rv_5 := heap_of (bal w4 (Obj.cells #[.bool rb, .string u, .string v, .int .i64 re] 28)) _ _ _ Rv_4
      clear B4 Rb_4 cb_4_0 cb_4_1 Rx_4 cx_4_0 cx_4_1 cx_4_2 cx_4_3 Rv_4 cv_4_0 cv_4_1 cv_4_2 cv_4_3
      obtain ⟨cb_5_0, cb_5_1⟩ := cells2s Rb_5
      obtain ⟨cx_5_0, cx_5_1, cx_5_2, cx_5_3⟩ := cells4s Rx_5
      obtain ⟨cv_5_0, cv_5_1, cv_5_2, cv_5_3⟩ := cells4s Rv_5
      obtain ⟨cw_5_0, cw_5_1, cw_5_2, cw_5_3⟩ := cells4s Rw_5
      go_wp2_with fail
      refine (KO.out _ (fatB FF.out B5) (tabB TT.out B5)).mono ?_
      rintro r w6 ⟨rfl, b6⟩
      have B6 : Below w.heap.size w w6 := btr B5 b6
      have Rb_6 := heap_of b6 _ _ _ Rb_5
      have Rx_6 := heap_of b6 _ _ _ Rx_5
      have Rv_6 := heap_of b6 _ _ _ Rv_5
      have Rw_6 := heap_of b6 _ _ _ Rw_5
      clear b6 B5 Rb_5 cb_5_0 cb_5_1 Rx_5 cx_5_0 cx_5_1 cx_5_2 cx_5_3 Rv_5 cv_5_0 cv_5_1 cv_5_2 cv_5_3 Rw_5 cw_5_0 cw_5_1 cw_5_2 cw_5_3
      obtain ⟨cb_6_0, cb_6_1⟩ := cells2s Rb_6
      obtain ⟨cx_6_0, cx_6_1, cx_6_2, cx_6_3⟩ := cells4s Rx_6
      obtain ⟨cv_6_0, cv_6_1, cv_6_2, cv_6_3⟩ := cells4s Rv_6
      obtain ⟨cw_6_0, cw_6_1, cw_6_2, cw_6_3⟩ := cells4s Rw_6
      have S7 := box B6.size
      have Lb_7 : Box (w.heap.size < w6.heap.size) := box (Array.getElem?_eq_some_iff.1 Rb_6).1
      have Lx_7 : Box (w.heap.size + 1 < w6.heap.size) := box (Array.getElem?_eq_some_iff.1 Rx_6).1
      have Lv_7 : Box (w1.heap.size < w6.heap.size) := box (Array.getElem?_eq_some_iff.1 Rv_6).1
      have Lw_7 : Box (w4.heap.size < w6.heap.size) := box (Array.getElem?_eq_some_iff.1 Rw_6).1
      have Rc_7 := heap_alloc_last w6 (Obj.cells #[.int .u64 (i : Nat), .int .u64 (j : Nat)] 25)
      have B7 := btr B6 (bal w6 (Obj.cells #[.int .u64 (i : Nat), .int .u64 (j : Nat)] 25))
      have Rb_7 := heap_of (bal w6 (Obj.cells #[.int .u64 (i : Nat), .int .u64 (j : Nat)] 25)) _ _ _ Rb_6
      have Rx_7 := heap_of (bal w6 (Obj.cells #[.int .u64 (i : Nat), .int .u64 (j : Nat)] 25)) _ _ _ Rx_6
      have Rv_7 := heap_of (bal w6 (Obj.cells #[.int .u64 (i : Nat), .int .u64 (j : Nat)] 25)) _ _ _ Rv_6
      have Rw_7 := heap_of (bal w6 (Obj.cells #[.int .u64 (i : Nat), .int .u64 (j : Nat)] 25)) _ _ _ Rw_6
      clear B6 Rb_6 cb_6_0 cb_6_1 Rx_6 cx_6_0 cx_6_1 cx_6_2 cx_6_3 Rv_6 cv_6_0 cv_6_1 cv_6_2 cv_6_3 Rw_6 cw_6_0 cw_6_1 cw_6_2 cw_6_3
      obtain ⟨cb_7_0, cb_7_1⟩ := cells2s Rb_7
      obtain ⟨cx_7_0, cx_7_1, cx_7_2, cx_7_3⟩ := cells4s Rx_7
      obtain ⟨cv_7_0, cv_7_1, cv_7_2, cv_7_3⟩ := cells4s Rv_7
      obtain ⟨cw_7_0, cw_7_1, cw_7_2, cw_7_3⟩ := cells4s Rw_7
      obtain ⟨cc_7_0, cc_7_1⟩ := cells2s Rc_7
      go_wp2_with fail
      refine (KR.out _).mono ?_
      rintro r w8 ⟨rfl, b8⟩
      have B8 : Below w.heap.size w w8 := btr B7 b8
      have Rb_8 := heap_of b8 _ _ _ Rb_7
      have Rx_8 := heap_of b8 _ _ _ Rx_7
      have Rv_8 := heap_of b8 _ _ _ Rv_7
      have Rw_8 := heap_of b8 _ _ _ Rw_7
      have Rc_8 := heap_of b8 _ _ _ Rc_7
      clear b8 B7 Rb_7 cb_7_0 cb_7_1 Rx_7 cx_7_0 cx_7_1 cx_7_2 cx_7_3 Rv_7 cv_7_0 cv_7_1 cv_7_2 cv_7_3 Rw_7 cw_7_0 cw_7_1 cw_7_2 cw_7_3 Rc_7 cc_7_0 cc_7_1
      obtain ⟨cb_8_0, cb_8_1⟩ := cells2s Rb_8
      obtain ⟨cx_8_0, cx_8_1, cx_8_2, cx_8_3⟩ := cells4s Rx_8
      obtain ⟨cv_8_0, cv_8_1, cv_8_2, cv_8_3⟩ := cells4s Rv_8
      obtain ⟨cw_8_0, cw_8_1, cw_8_2, cw_8_3⟩ := cells4s Rw_8
      obtain ⟨cc_8_0, cc_8_1⟩ := cells2s Rc_8
      go_wp2_with fail
      refine (KM.out _).mono ?_
      rintro r w9 ⟨rfl, b9⟩
      have B9 : Below w.heap.size w w9 := btr B8 b9
      have Rb_9 := heap_of b9 _ _ _ Rb_8
      have Rx_9 := heap_of b9 _ _ _ Rx_8
      have Rv_9 := heap_of b9 _ _ _ Rv_8
      have Rw_9 := heap_of b9 _ _ _ Rw_8
      have Rc_9 := heap_of b9 _ _ _ Rc_8
      clear b9 B8 Rb_8 cb_8_0 cb_8_1 Rx_8 cx_8_0 cx_8_1 cx_8_2 cx_8_3 Rv_8 cv_8_0 cv_8_1 cv_8_2 cv_8_3 Rw_8 cw_8_0 cw_8_1 cw_8_2 cw_8_3 Rc_8 cc_8_0 cc_8_1
      obtain ⟨cb_9_0, cb_9_1⟩ := cells2s Rb_9
      obtain ⟨cx_9_0, cx_9_1, cx_9_2, cx_9_3⟩ := cells4s Rx_9
      obtain ⟨cv_9_0, cv_9_1, cv_9_2, cv_9_3⟩ := cells4s Rv_9
      obtain ⟨cw_9_0, cw_9_1, cw_9_2, cw_9_3⟩ := cells4s Rw_9
      obtain ⟨cc_9_0, cc_9_1⟩ := cells2s Rc_9
      go_wp2_with fail
      refine (KD.out _).mono ?_
      rintro r w10 ⟨rfl, b10⟩
      have B10 : Below w.heap.size w w10 := btr B9 b10
      have Rb_10 := heap_of b10 _ _ _ Rb_9
      have Rx_10 := heap_of b10 _ _ _ Rx_9
      have Rv_10 := heap_of b10 _ _ _ Rv_9
      have Rw_10 := heap_of b10 _ _ _ Rw_9
      have Rc_10 := heap_of b10 _ _ _ Rc_9
      clear b10 B9 Rb_9 cb_9_0 cb_9_1 Rx_9 cx_9_0 cx_9_1 cx_9_2 cx_9_3 Rv_9 cv_9_0 cv_9_1 cv_9_2 cv_9_3 Rw_9 cw_9_0 cw_9_1 cw_9_2 cw_9_3 Rc_9 cc_9_0 cc_9_1
      obtain ⟨cb_10_0, cb_10_1⟩ := cells2s Rb_10
      obtain ⟨cx_10_0, cx_10_1, cx_10_2, cx_10_3⟩ := cells4s Rx_10
      obtain ⟨cv_10_0, cv_10_1, cv_10_2, cv_10_3⟩ := cells4s Rv_10
      obtain ⟨cw_10_0, cw_10_1, cw_10_2, cw_10_3⟩ := cells4s Rw_10
      obtain ⟨cc_10_0, cc_10_1⟩ := cells2s Rc_10
      have S11 := box B10.size
      have Lb_11 : Box (w.heap.size < w10.heap.size) := box (Array.getElem?_eq_some_iff.1 Rb_10).1
      have Lx_11 : Box (w.heap.size + 1 < w10.heap.size) := box (Array.getElem?_eq_some_iff.1 Rx_10).1
      have Lv_11 : Box (w1.heap.size < w10.heap.size) := box (Array.getElem?_eq_some_iff.1 Rv_10).1
      have Lw_11 : Box (w4.heap.size < w10.heap.size) := box (Array.getElem?_eq_some_iff.1 Rw_10).1
      have Lc_11 : Box (w6.heap.size < w10.heap.size) := box (Array.getElem?_eq_some_iff.1 Rc_10).1
      have Rd_11 := heap_alloc_last w10 (Obj.cells #[.int .u64 (i : Nat), .int .u64 (j : Nat)] 25)
      have B11 := btr B10 (bal w10 (Obj.cells #[.int .u64 (i : Nat), .int .u64 (j : Nat)] 25))
      have Rb_11 := heap_of (bal w10 (Obj.cells #[.int .u64 (i : Nat), .int .u64 (j : Nat)] 25)) _ _ _ Rb_10
      have Rx_11 := heap_of (bal w10 (Obj.cells #[.int .u64 (i : Nat), .int .u64 (j : Nat)] 25)) _ _ _ Rx_10
      have Rv_11 := heap_of (bal w10 (Obj.cells #[.int .u64 (i : Nat), .int .u64 (j : Nat)] 25)) _ _ _ Rv_10
      have Rw_11 := heap_of (bal w10 (Obj.cells #[.int .u64 (i : Nat), .int .u64 (j : Nat)] 25)) _ _ _ Rw_10
      have Rc_11 := heap_of (bal w10 (Obj.cells #[.int .u64 (i : Nat), .int .u64 (j : Nat)] 25)) _ _ _ Rc_10
      clear B10 Rb_10 cb_10_0 cb_10_1 Rx_10 cx_10_0 cx_10_1 cx_10_2 cx_10_3 Rv_10 cv_10_0 cv_10_1 cv_10_2 cv_10_3 Rw_10 cw_10_0 cw_10_1 cw_10_2 cw_10_3 Rc_10 cc_10_0 cc_10_1
      obtain ⟨cb_11_0, cb_11_1⟩ := cells2s Rb_11
      obtain ⟨cx_11_0, cx_11_1, cx_11_2, cx_11_3⟩ := cells4s Rx_11
      obtain ⟨cv_11_0, cv_11_1, cv_11_2, cv_11_3⟩ := cells4s Rv_11
      obtain ⟨cw_11_0, cw_11_1, cw_11_2, cw_11_3⟩ := cells4s Rw_11
      obtain ⟨cc_11_0, cc_11_1⟩ := cells2s Rc_11
      obtain ⟨cd_11_0, cd_11_1⟩ := cells2s Rd_11
      go_wp2_with fail
      refine (KA.out _ (fatB FF.out B11)).mono ?_
      rintro r w12 ⟨rfl, b12⟩
      have B12 : Below w.heap.size w w12 := btr B11 b12
      have Rb_12 := heap_of b12 _ _ _ Rb_11
      have Rx_12 := heap_of b12 _ _ _ Rx_11
      have Rv_12 := heap_of b12 _ _ _ Rv_11
      have Rw_12 := heap_of b12 _ _ _ Rw_11
      have Rc_12 := heap_of b12 _ _ _ Rc_11
      have Rd_12 := heap_of b12 _ _ _ Rd_11
      clear b12 B11 Rb_11 cb_11_0 cb_11_1 Rx_11 cx_11_0 cx_11_1 cx_11_2 cx_11_3 Rv_11 cv_11_0 cv_11_1 cv_11_2 cv_11_3 Rw_11 cw_11_0 cw_11_1 cw_11_2 cw_11_3 Rc_11 cc_11_0 cc_11_1 Rd_11 cd_11_0 cd_11_1
      obtain ⟨cb_12_0, cb_12_1⟩ := cells2s Rb_12
      obtain ⟨cx_12_0, cx_12_1, cx_12_2, cx_12_3⟩ := cells4s Rx_12
      obtain ⟨cv_12_0, cv_12_1, cv_12_2, cv_12_3⟩ := cells4s Rv_12
      obtain ⟨cw_12_0, cw_12_1, cw_12_2, cw_12_3⟩ := cells4s Rw_12
      obtain ⟨cc_12_0, cc_12_1⟩ := cells2s Rc_12
      obtain ⟨cd_12_0, cd_12_1⟩ := cells2s Rd_12
      go_wp2
      go_ret
      exact ⟨rfl, B12⟩

set_option maxRecDepth 100000 in
theorem lifted (os : Os) (started : os.Started) (H : Type) (enc : TypeId × Value → H) :
    ReturnsInHanded {} Tryz.checked os 3 .any (fun w args => (Rows.kindValuesSpec.pre enc Tryz.prog Tryz.f3 [] false w args ∧ laidMetH Tryz.prog laid8 w) ∧ sizedMet enc Tryz.prog Tryz.f3 (OpenSpec.ofChange Rows.kindValuesSpec) false w args)
      (Rows.kindValuesSpec.post enc Tryz.prog Tryz.f3 false true false false) := by
  refine returnsInHanded_of_change_and (C := Tryz.checked) (X := fun w _ => laidMetH Tryz.prog laid8 w) (fun _ _ _ hh h => h.of_heap hh) own started (by kernel_rfl) Tryz.func3
    (ChangeSpec.witness_shaped (enc := enc) (C := Tryz.checked) (os := os) (X := fun w _ => laidMetH Tryz.prog laid8 w) false (World.doorLaid Tryz.prog 400 os) #[.int .u8 0, .agg #[.int .u64 0, .int .u64 0], .agg #[.bool false, .string ⟨#[]⟩, .string ⟨#[]⟩, .int .i64 0]] 8 rfl (World.shaped_of_RefB (by kernel_rfl) (by kernel_rfl)) (by kernel_rfl) (by kernel_rfl) (by kernel_rfl) (door_met8 os _)) ?_
  intro W base args ds gs before hval0 hW _ _ hL _
  have hval : ∀ (j : Nat) t v, Tryz.f3.params[j]? = some t → args[j]? = some v → Value.okWide Tryz.prog W .any base t v := hval0
  have hW' := hW
  obtain ⟨p, q, hA0, hV, rfl, hfz, hnd⟩ := hW
  have hA : DataW.TrodAll enc Tryz.prog W 0 (fun _ => true) true Tryz.f3.params.toList args.toList ds p := hA0
  rw [Tryz.params3] at hA hval
  obtain ⟨v0, vs0, d0, ds0, p0, q0, hargs, rfl, rfl, k0, r0⟩ := trodAll_cons hA
  obtain ⟨v1, vs1, d1, ds1, p1, q1, rfl, rfl, rfl, k1, r1⟩ := trodAll_cons r0
  obtain ⟨v2, vs2, d2, ds2, p2, q2, rfl, rfl, rfl, k2, r2⟩ := trodAll_cons r1
  obtain ⟨rfl, rfl, rfl⟩ := trodAll_nil r2
  obtain rfl : args = #[v0, v1, v2] := by cases args; simp_all
  obtain ⟨rfl, rfl⟩ := trodVars_none hV
  obtain ⟨a0, rfl, rfl, rfl, h0⟩ := open_int Tryz.underlying22 (hval 0 22 v0 rfl rfl) k0
  obtain ⟨a1, h1, rfl, rfl, rfl⟩ := open_bits (hval 1 25 v1 rfl rfl) k1
  obtain ⟨vb2, vs2, vt2, ve2, rfl, rfl, rfl, h2⟩ := open_exact (hval 2 28 v2 rfl rfl) k2
  clear hA0 hval0
  simp only [List.append_nil] at hW'
  refine (walk a0 a1 vb2 vs2 vt2 ve2 h0 h1 h2 W (of_laid8 hL)).mono fun e W' ⟨he, hg⟩ => ?_
  subst he
  exact ⟨_, rfl, post_plain hW' (fun _ _ _ => trodAll_mk1 (shut_bool Tryz.underlying4 _)) (fun sp => (trodAll_cons_mk (shut_int Tryz.underlying22 h0) (trodAll_cons_mk (shut_bits a1 h1) (trodAll_cons_mk (shut_exact h2) trodAll_mk0)))) (fun _ => rfl) hg (ok_one (by kernel_rfl) rfl (okWide_bool_mk Tryz.underlying4 _))⟩

theorem over : Rows.KindValuesSaid :=
  OpenClaim.holds_of_wide 3 Tryz.f3 rfl rfl rfl rfl rfl rfl rfl ⟨rfl, rfl, rfl, rfl, rfl⟩ rfl rfl rfl rfl rfl (by kernel_rfl) Tryz.func3 (by kernel_rfl)
    (of_decide_eq_true (by kernel_rfl)) (by unfold Func.isWrapper; first | (rw [if_pos (by decide +kernel)]; kernel_rfl) | (rw [if_neg (by decide +kernel)]; exact ⟨rfl, rfl⟩))
    (fun os started H enc _ => lifted os started H enc)

theorem proved : Rows.KindValuesCardSaid :=
  Claim7.holds_tied_plain_at .later [] [.data, .data] true (true, "3a95303dbe32332eeb2ec9339e887f36374356c9f27641a682c1a91f2858f569") true
    over (fun _ h => by cases h) (by kernel_rfl) (fun _ h => by cases h) kindValues_row_tie rfl ⟨rfl, rfl⟩ (by kernel_rfl) rfl
    (fun f fn hf hfn => by
      obtain rfl : f = 3 := Option.some.inj ((show Tryz.prog.funcNamed "abacus/abacuslaw08.KindValues" = some 3 by kernel_rfl).symm.trans hf) |>.symm
      obtain rfl : fn = Tryz.f3 := (Option.some.inj (Tryz.func3.symm.trans hfn)).symm
      exact ⟨by kernel_rfl, fun j t ht => by
        rw [Tryz.params3] at ht
        have h3 : t = 22 ∨ t = 25 ∨ t = 28 := by
          rcases j with _ | _ | _ | j
          · exact (Or.inl (by simpa using ht.symm))
          · exact (Or.inr (Or.inl (by simpa using ht.symm)))
          · exact (Or.inr (Or.inr (by simpa using ht.symm)))
          · simp at ht
        rcases h3 with rfl | rfl | rfl
        · exact (show Tryz.prog.wantsStandIn 22 = false by kernel_rfl)
        · exact (show Tryz.prog.wantsStandIn 25 = false by kernel_rfl)
        · exact (show Tryz.prog.wantsStandIn 28 = false by kernel_rfl)⟩)
    (by kernel_rfl)
#print axioms proved
end Go.Proofs.YtkmlbjlaahcahaaGreatDoor.kindValues
