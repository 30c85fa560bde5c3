/-
  What the functions that the statement reaches return: part 19 (VD, SL, VL).
-/
import Derived.Deep.RegionHeld3
import Derived.Test.YtkmlbjlaahcahaaGreatDoorRows
import Derived.OpenShut
import Derived.LaidMore
import Derived.Lib.LaidTab
import Derived.Stop.Joined
import Derived.Stop.LaidErr
import Derived.Test.YtkmlbjlaahcahaaGreatDoorNa18
namespace Go.Proofs.YtkmlbjlaahcahaaGreatDoor
set_option maxRecDepth 100000
open Go.RowKit WMath XMath
set_option linter.unusedSimpArgs false
set_option linter.unusedVariables false

set_option maxRecDepth 100000 in
set_option maxHeartbeats 8000000 in
theorem next_r0 (f : Int) (x y u v : Nat) (e : Int) (w : World)
    (KN : Box (∀ w, FAt w → Calls Tryz.prog 24 #[.int .u8 f, .agg #[.int .u64 (x : Nat), .int .u64 (y : Nat)]] w fun r w' => r = .returned (.tuple #[.agg #[.int .u64 (u : Nat), .int .u64 (v : Nat)], .int .i64 e]) ∧ Below w.heap.size w w'))
    (he : (e != 0) = true)
    (hT : FAt w) (hT2 : TabAt w) : Calls Tryz.prog 6 #[.int .u8 f, .agg #[.int .u64 (x : Nat), .int .u64 (y : Nat)]] w fun r w' => r = .returned (.bool true) ∧ Below w.heap.size w w' := by
  have FF := box hT
  have TT := box hT2
  have KA := box kalive
  clear hT hT2
  obtain ⟨Rb_0, B0⟩ := opn1 w (Obj.cells #[.int .u64 (x : Nat), .int .u64 (y : Nat)] 25)
  go_enter Tryz.func6, Tryz.ntmps6
  go_wp2_with fail
  refine (KN.out _ (fatB FF.out B0)).mono ?_
  rintro r w1 ⟨rfl, b1⟩
  have B1 : Below w.heap.size w w1 := btr B0 b1
  have Rb_1 := heap_of b1 _ _ _ Rb_0
  clear b1 B0 Rb_0
  obtain ⟨cb_1_0, cb_1_1⟩ := cells2s Rb_1
  have S2 := box B1.size
  have Lb_2 : Box (w.heap.size < w1.heap.size) := box (Array.getElem?_eq_some_iff.1 Rb_1).1
  have Rn_2 := heap_alloc_last w1 (Obj.cells #[.int .u64 (u : Nat), .int .u64 (v : Nat)] 25)
  have B2 := btr B1 (bal w1 (Obj.cells #[.int .u64 (u : Nat), .int .u64 (v : Nat)] 25))
  have Rb_2 := heap_of (bal w1 (Obj.cells #[.int .u64 (u : Nat), .int .u64 (v : Nat)] 25)) _ _ _ Rb_1
  clear B1 Rb_1 cb_1_0 cb_1_1
  obtain ⟨cb_2_0, cb_2_1⟩ := cells2s Rb_2
  obtain ⟨cn_2_0, cn_2_1⟩ := cells2s Rn_2
  go_wp2_with fail
  refine (KA.out _ (fatB FF.out B2)).mono ?_
  rintro r w3 ⟨rfl, b3⟩
  have B3 : Below w.heap.size w w3 := btr B2 b3
  have Rb_3 := heap_of b3 _ _ _ Rb_2
  have Rn_3 := heap_of b3 _ _ _ Rn_2
  clear b3 B2 Rb_2 cb_2_0 cb_2_1 Rn_2 cn_2_0 cn_2_1
  obtain ⟨cb_3_0, cb_3_1⟩ := cells2s Rb_3
  obtain ⟨cn_3_0, cn_3_1⟩ := cells2s Rn_3
  go_wp2
  go_ret
  exact ⟨rfl, B3⟩
set_option maxRecDepth 100000 in
set_option maxHeartbeats 8000000 in
theorem next_r1 (f : Int) (x y u v : Nat) (b1 : Bool) (s1 t1 : ByteArray) (e1 : Int) (b2 : Bool) (s2 t2 : ByteArray) (e2 : Int) (h : Int) (w : World)
    (KN : Box (∀ w, FAt w → Calls Tryz.prog 24 #[.int .u8 f, .agg #[.int .u64 (x : Nat), .int .u64 (y : Nat)]] w fun r w' => r = .returned (.tuple #[.agg #[.int .u64 (u : Nat), .int .u64 (v : Nat)], .int .i64 0]) ∧ Below w.heap.size w w'))
    (KV : Box (∀ w, FAt w → TabAt w → Calls Tryz.prog 8 #[.int .u8 f, .agg #[.int .u64 (x : Nat), .int .u64 (y : Nat)]] w fun r w' => r = .returned (.tuple #[.agg #[.bool b1, .string s1, .string t1, .int .i64 e1], .int .i64 80]) ∧ Below w.heap.size w w'))
    (KW : Box (∀ w, FAt w → TabAt w → Calls Tryz.prog 8 #[.int .u8 f, .agg #[.int .u64 (u : Nat), .int .u64 (v : Nat)]] w fun r w' => r = .returned (.tuple #[.agg #[.bool b2, .string s2, .string t2, .int .i64 e2], .int .i64 h]) ∧ Below w.heap.size w w'))
    (KI : Box (∀ w, FAt w → Calls Tryz.prog 25 #[.int .u8 f, .bool true] w fun r w' => r = .returned (.agg #[.int .u64 (x : Nat), .int .u64 (y : Nat)]) ∧ Below w.heap.size w w'))
    (hT : FAt w) (hT2 : TabAt w) : Calls Tryz.prog 6 #[.int .u8 f, .agg #[.int .u64 (x : Nat), .int .u64 (y : Nat)]] w fun r w' => r = .returned (.bool true) ∧ Below w.heap.size w w' := by
  have FF := box hT
  have TT := box hT2
  have KA := box kalive
  clear hT hT2
  obtain ⟨Rb_0, B0⟩ := opn1 w (Obj.cells #[.int .u64 (x : Nat), .int .u64 (y : Nat)] 25)
  go_enter Tryz.func6, Tryz.ntmps6
  go_wp2_with fail
  refine (KN.out _ (fatB FF.out B0)).mono ?_
  rintro r w1 ⟨rfl, b1⟩
  have B1 : Below w.heap.size w w1 := btr B0 b1
  have Rb_1 := heap_of b1 _ _ _ Rb_0
  clear b1 B0 Rb_0
  obtain ⟨cb_1_0, cb_1_1⟩ := cells2s Rb_1
  have S2 := box B1.size
  have Lb_2 : Box (w.heap.size < w1.heap.size) := box (Array.getElem?_eq_some_iff.1 Rb_1).1
  have Rn_2 := heap_alloc_last w1 (Obj.cells #[.int .u64 (u : Nat), .int .u64 (v : Nat)] 25)
  have B2 := btr B1 (bal w1 (Obj.cells #[.int .u64 (u : Nat), .int .u64 (v : Nat)] 25))
  have Rb_2 := heap_of (bal w1 (Obj.cells #[.int .u64 (u : Nat), .int .u64 (v : Nat)] 25)) _ _ _ Rb_1
  clear B1 Rb_1 cb_1_0 cb_1_1
  obtain ⟨cb_2_0, cb_2_1⟩ := cells2s Rb_2
  obtain ⟨cn_2_0, cn_2_1⟩ := cells2s Rn_2
  go_wp2_with fail
  refine (KV.out _ (fatB FF.out B2) (tabB TT.out B2)).mono ?_
  rintro r w3 ⟨rfl, b3⟩
  have B3 : Below w.heap.size w w3 := btr B2 b3
  have Rb_3 := heap_of b3 _ _ _ Rb_2
  have Rn_3 := heap_of b3 _ _ _ Rn_2
  clear b3 B2 Rb_2 cb_2_0 cb_2_1 Rn_2 cn_2_0 cn_2_1
  obtain ⟨cb_3_0, cb_3_1⟩ := cells2s Rb_3
  obtain ⟨cn_3_0, cn_3_1⟩ := cells2s Rn_3
  have S4 := box B3.size
  have Lb_4 : Box (w.heap.size < w3.heap.size) := box (Array.getElem?_eq_some_iff.1 Rb_3).1
  have Ln_4 : Box (w1.heap.size < w3.heap.size) := box (Array.getElem?_eq_some_iff.1 Rn_3).1
  have Rv_4 := heap_alloc_last w3 (Obj.cells #[.bool b1, .string s1, .string t1, .int .i64 e1] 28)
  have B4 := btr B3 (bal w3 (Obj.cells #[.bool b1, .string s1, .string t1, .int .i64 e1] 28))
  have Rb_4 := heap_of (bal w3 (Obj.cells #[.bool b1, .string s1, .string t1, .int .i64 e1] 28)) _ _ _ Rb_3
  have Rn_4 := heap_of (bal w3 (Obj.cells #[.bool b1, .string s1, .string t1, .int .i64 e1] 28)) _ _ _ Rn_3
  clear B3 Rb_3 cb_3_0 cb_3_1 Rn_3 cn_3_0 cn_3_1
  obtain ⟨cb_4_0, cb_4_1⟩ := cells2s Rb_4
  obtain ⟨cn_4_0, cn_4_1⟩ := cells2s Rn_4
  obtain ⟨cv_4_0, cv_4_1, cv_4_2, cv_4_3⟩ := cells4s Rv_4
  go_wp2_with fail
  refine (KW.out _ (fatB FF.out B4) (tabB TT.out B4)).mono ?_
  rintro r w5 ⟨rfl, b5⟩
  have B5 : Below w.heap.size w w5 := btr B4 b5
  have Rb_5 := heap_of b5 _ _ _ Rb_4
  have Rn_5 := heap_of b5 _ _ _ Rn_4
  have Rv_5 := heap_of b5 _ _ _ Rv_4
  clear b5 B4 Rb_4 cb_4_0 cb_4_1 Rn_4 cn_4_0 cn_4_1 Rv_4 cv_4_0 cv_4_1 cv_4_2 cv_4_3
  obtain ⟨cb_5_0, cb_5_1⟩ := cells2s Rb_5
  obtain ⟨cn_5_0, cn_5_1⟩ := cells2s Rn_5
  obtain ⟨cv_5_0, cv_5_1, cv_5_2, cv_5_3⟩ := cells4s Rv_5
  have S6 := box B5.size
  have Lb_6 : Box (w.heap.size < w5.heap.size) := box (Array.getElem?_eq_some_iff.1 Rb_5).1
  have Ln_6 : Box (w1.heap.size < w5.heap.size) := box (Array.getElem?_eq_some_iff.1 Rn_5).1
  have Lv_6 : Box (w3.heap.size < w5.heap.size) := box (Array.getElem?_eq_some_iff.1 Rv_5).1
  have Rw_6 := heap_alloc_last w5 (Obj.cells #[.bool b2, .string s2, .string t2, .int .i64 e2] 28)
  have B6 := btr B5 (bal w5 (Obj.cells #[.bool b2, .string s2, .string t2, .int .i64 e2] 28))
  have Rb_6 := heap_of (bal w5 (Obj.cells #[.bool b2, .string s2, .string t2, .int .i64 e2] 28)) _ _ _ Rb_5
  have Rn_6 := heap_of (bal w5 (Obj.cells #[.bool b2, .string s2, .string t2, .int .i64 e2] 28)) _ _ _ Rn_5
  have Rv_6 := heap_of (bal w5 (Obj.cells #[.bool b2, .string s2, .string t2, .int .i64 e2] 28)) _ _ _ Rv_5
  clear B5 Rb_5 cb_5_0 cb_5_1 Rn_5 cn_5_0 cn_5_1 Rv_5 cv_5_0 cv_5_1 cv_5_2 cv_5_3
  obtain ⟨cb_6_0, cb_6_1⟩ := cells2s Rb_6
  obtain ⟨cn_6_0, cn_6_1⟩ := cells2s Rn_6
  obtain ⟨cv_6_0, cv_6_1, cv_6_2, cv_6_3⟩ := cells4s Rv_6
  obtain ⟨cw_6_0, cw_6_1, cw_6_2, cw_6_3⟩ := cells4s Rw_6
  go_wp2_with fail
  obtain ⟨F, hF1, hF2⟩ := below_fun (w5.alloc (Obj.cells #[.bool b2, .string s2, .string t2, .int .i64 e2] 28))
  have fb_0 := fun u => cells4 (heap_of (hF1 u) _ _ _ Rb_6) 0 _ rfl
  have fb_1 := fun u => cells4 (heap_of (hF1 u) _ _ _ Rb_6) 1 _ rfl
  have fn_0 := fun u => cells4 (heap_of (hF1 u) _ _ _ Rn_6) 0 _ rfl
  have fn_1 := fun u => cells4 (heap_of (hF1 u) _ _ _ Rn_6) 1 _ rfl
  have fv_0 := fun u => cells4 (heap_of (hF1 u) _ _ _ Rv_6) 0 _ rfl
  have fv_1 := fun u => cells4 (heap_of (hF1 u) _ _ _ Rv_6) 1 _ rfl
  have fv_2 := fun u => cells4 (heap_of (hF1 u) _ _ _ Rv_6) 2 _ rfl
  have fv_3 := fun u => cells4 (heap_of (hF1 u) _ _ _ Rv_6) 3 _ rfl
  have fw_0 := fun u => cells4 (heap_of (hF1 u) _ _ _ Rw_6) 0 _ rfl
  have fw_1 := fun u => cells4 (heap_of (hF1 u) _ _ _ Rw_6) 1 _ rfl
  have fw_2 := fun u => cells4 (heap_of (hF1 u) _ _ _ Rw_6) 2 _ rfl
  have fw_3 := fun u => cells4 (heap_of (hF1 u) _ _ _ Rw_6) 3 _ rfl
  have FG : Box (∀ u, FAt (F u)) := box (fun u => fatB FF.out (btr B6 (hF1 u)))
  refine wp_region_below F hF2 (by kernel_rfl) (by kernel_rfl) ?_
  repeat first | go_big_quiet_step (first | (go_at_call 25; exact quietF hF1 hF2 (KI.out _ (FG.out _))) | (go_at_call 11; exact quietF hF1 hF2 (KA.out _ (FG.out _))) | fail) | quiet_step (first | (go_at_call 25; exact quietF hF1 hF2 (KI.out _ (FG.out _))) | (go_at_call 11; exact quietF hF1 hF2 (KA.out _ (FG.out _))) | fail)
  refine wpQuiet_nil ?_
  rintro _ ⟨uW, rfl⟩
  have B7 := btr B6 (hF1 uW)
  have Rb_7 := heap_of (hF1 uW) _ _ _ Rb_6
  have Rn_7 := heap_of (hF1 uW) _ _ _ Rn_6
  have Rv_7 := heap_of (hF1 uW) _ _ _ Rv_6
  have Rw_7 := heap_of (hF1 uW) _ _ _ Rw_6
  obtain ⟨w7, hw⟩ : ∃ V, F uW = V := ⟨_, rfl⟩
  rw [hw] at B7 Rb_7 Rn_7 Rv_7 Rw_7
  try rw [hw]
  clear hw hF1 hF2 B6 fb_0 fb_1 fn_0 fn_1 fv_0 fv_1 fv_2 fv_3 fw_0 fw_1 fw_2 fw_3 Rb_6 cb_6_0 cb_6_1 Rn_6 cn_6_0 cn_6_1 Rv_6 cv_6_0 cv_6_1 cv_6_2 cv_6_3 Rw_6 cw_6_0 cw_6_1 cw_6_2 cw_6_3
  clear FG
  clear F
  obtain ⟨cb_7_0, cb_7_1⟩ := cells2s Rb_7
  obtain ⟨cn_7_0, cn_7_1⟩ := cells2s Rn_7
  obtain ⟨cv_7_0, cv_7_1, cv_7_2, cv_7_3⟩ := cells4s Rv_7
  obtain ⟨cw_7_0, cw_7_1, cw_7_2, cw_7_3⟩ := cells4s Rw_7
  go_wp2
  go_ret
  exact ⟨rfl, B7⟩
set_option maxRecDepth 100000 in
set_option maxHeartbeats 8000000 in
theorem next_r2 (f : Int) (x y u v : Nat) (b1 : Bool) (s1 t1 : ByteArray) (e1 : Int) (b2 : Bool) (s2 t2 : ByteArray) (e2 : Int) (i j : Nat) (w : World)
    (KN : Box (∀ w, FAt w → Calls Tryz.prog 24 #[.int .u8 f, .agg #[.int .u64 (x : Nat), .int .u64 (y : Nat)]] w fun r w' => r = .returned (.tuple #[.agg #[.int .u64 (u : Nat), .int .u64 (v : Nat)], .int .i64 0]) ∧ Below w.heap.size w w'))
    (KV : Box (∀ w, FAt w → TabAt w → Calls Tryz.prog 8 #[.int .u8 f, .agg #[.int .u64 (x : Nat), .int .u64 (y : Nat)]] w fun r w' => r = .returned (.tuple #[.agg #[.bool b1, .string s1, .string t1, .int .i64 e1], .int .i64 0]) ∧ Below w.heap.size w w'))
    (KW : Box (∀ w, FAt w → TabAt w → Calls Tryz.prog 8 #[.int .u8 f, .agg #[.int .u64 (u : Nat), .int .u64 (v : Nat)]] w fun r w' => r = .returned (.tuple #[.agg #[.bool b2, .string s2, .string t2, .int .i64 e2], .int .i64 80]) ∧ Below w.heap.size w w'))
    (KI : Box (∀ w, FAt w → Calls Tryz.prog 25 #[.int .u8 f, .bool true] w fun r w' => r = .returned (.agg #[.int .u64 (i : Nat), .int .u64 (j : Nat)]) ∧ Below w.heap.size w w'))
    (KJ : Box (∀ w, FAt w → Calls Tryz.prog 25 #[.int .u8 f, .bool false] w fun r w' => r = .returned (.agg #[.int .u64 (u : Nat), .int .u64 (v : Nat)]) ∧ Below w.heap.size w w'))
    (ne : NE x y i j)
    (hT : FAt w) (hT2 : TabAt w) : Calls Tryz.prog 6 #[.int .u8 f, .agg #[.int .u64 (x : Nat), .int .u64 (y : Nat)]] w fun r w' => r = .returned (.bool true) ∧ Below w.heap.size w w' := by
  have FF := box hT
  have TT := box hT2
  have KA := box kalive
  clear hT hT2
  rcases ne with ne | ⟨ne1, ne⟩
  all_goals
    obtain ⟨Rb_0, B0⟩ := opn1 w (Obj.cells #[.int .u64 (x : Nat), .int .u64 (y : Nat)] 25)
    go_enter Tryz.func6, Tryz.ntmps6
    go_wp2_with fail
    refine (KN.out _ (fatB FF.out B0)).mono ?_
    rintro r w1 ⟨rfl, b1⟩
    have B1 : Below w.heap.size w w1 := btr B0 b1
    have Rb_1 := heap_of b1 _ _ _ Rb_0
    clear b1 B0 Rb_0
    obtain ⟨cb_1_0, cb_1_1⟩ := cells2s Rb_1
    have S2 := box B1.size
    have Lb_2 : Box (w.heap.size < w1.heap.size) := box (Array.getElem?_eq_some_iff.1 Rb_1).1
    have Rn_2 := heap_alloc_last w1 (Obj.cells #[.int .u64 (u : Nat), .int .u64 (v : Nat)] 25)
    have B2 := btr B1 (bal w1 (Obj.cells #[.int .u64 (u : Nat), .int .u64 (v : Nat)] 25))
    have Rb_2 := heap_of (bal w1 (Obj.cells #[.int .u64 (u : Nat), .int .u64 (v : Nat)] 25)) _ _ _ Rb_1
    clear B1 Rb_1 cb_1_0 cb_1_1
    obtain ⟨cb_2_0, cb_2_1⟩ := cells2s Rb_2
    obtain ⟨cn_2_0, cn_2_1⟩ := cells2s Rn_2
    go_wp2_with fail
    refine (KV.out _ (fatB FF.out B2) (tabB TT.out B2)).mono ?_
    rintro r w3 ⟨rfl, b3⟩
    have B3 : Below w.heap.size w w3 := btr B2 b3
    have Rb_3 := heap_of b3 _ _ _ Rb_2
    have Rn_3 := heap_of b3 _ _ _ Rn_2
    clear b3 B2 Rb_2 cb_2_0 cb_2_1 Rn_2 cn_2_0 cn_2_1
    obtain ⟨cb_3_0, cb_3_1⟩ := cells2s Rb_3
    obtain ⟨cn_3_0, cn_3_1⟩ := cells2s Rn_3
    have S4 := box B3.size
    have Lb_4 : Box (w.heap.size < w3.heap.size) := box (Array.getElem?_eq_some_iff.1 Rb_3).1
    have Ln_4 : Box (w1.heap.size < w3.heap.size) := box (Array.getElem?_eq_some_iff.1 Rn_3).1
    have Rv_4 := heap_alloc_last w3 (Obj.cells #[.bool b1, .string s1, .string t1, .int .i64 e1] 28)
    have B4 := btr B3 (bal w3 (Obj.cells #[.bool b1, .string s1, .string t1, .int .i64 e1] 28))
    have Rb_4 := heap_of (bal w3 (Obj.cells #[.bool b1, .string s1, .string t1, .int .i64 e1] 28)) _ _ _ Rb_3
    have Rn_4 := heap_of (bal w3 (Obj.cells #[.bool b1, .string s1, .string t1, .int .i64 e1] 28)) _ _ _ Rn_3
    clear B3 Rb_3 cb_3_0 cb_3_1 Rn_3 cn_3_0 cn_3_1
    obtain ⟨cb_4_0, cb_4_1⟩ := cells2s Rb_4
    obtain ⟨cn_4_0, cn_4_1⟩ := cells2s Rn_4
    obtain ⟨cv_4_0, cv_4_1, cv_4_2, cv_4_3⟩ := cells4s Rv_4
    go_wp2_with fail
    refine (KW.out _ (fatB FF.out B4) (tabB TT.out B4)).mono ?_
    rintro r w5 ⟨rfl, b5⟩
    have B5 : Below w.heap.size w w5 := btr B4 b5
    have Rb_5 := heap_of b5 _ _ _ Rb_4
    have Rn_5 := heap_of b5 _ _ _ Rn_4
    have Rv_5 := heap_of b5 _ _ _ Rv_4
    clear b5 B4 Rb_4 cb_4_0 cb_4_1 Rn_4 cn_4_0 cn_4_1 Rv_4 cv_4_0 cv_4_1 cv_4_2 cv_4_3
    obtain ⟨cb_5_0, cb_5_1⟩ := cells2s Rb_5
    obtain ⟨cn_5_0, cn_5_1⟩ := cells2s Rn_5
    obtain ⟨cv_5_0, cv_5_1, cv_5_2, cv_5_3⟩ := cells4s Rv_5
    have S6 := box B5.size
    have Lb_6 : Box (w.heap.size < w5.heap.size) := box (Array.getElem?_eq_some_iff.1 Rb_5).1
    have Ln_6 : Box (w1.heap.size < w5.heap.size) := box (Array.getElem?_eq_some_iff.1 Rn_5).1
    have Lv_6 : Box (w3.heap.size < w5.heap.size) := box (Array.getElem?_eq_some_iff.1 Rv_5).1
    have Rw_6 := heap_alloc_last w5 (Obj.cells #[.bool b2, .string s2, .string t2, .int .i64 e2] 28)
    have B6 := btr B5 (bal w5 (Obj.cells #[.bool b2, .string s2, .string t2, .int .i64 e2] 28))
    have Rb_6 := heap_of (bal w5 (Obj.cells #[.bool b2, .string s2, .string t2, .int .i64 e2] 28)) _ _ _ Rb_5
    have Rn_6 := heap_of (bal w5 (Obj.cells #[.bool b2, .string s2, .string t2, .int .i64 e2] 28)) _ _ _ Rn_5
    have Rv_6 := heap_of (bal w5 (Obj.cells #[.bool b2, .string s2, .string t2, .int .i64 e2] 28)) _ _ _ Rv_5
    clear B5 Rb_5 cb_5_0 cb_5_1 Rn_5 cn_5_0 cn_5_1 Rv_5 cv_5_0 cv_5_1 cv_5_2 cv_5_3
    obtain ⟨cb_6_0, cb_6_1⟩ := cells2s Rb_6
    obtain ⟨cn_6_0, cn_6_1⟩ := cells2s Rn_6
    obtain ⟨cv_6_0, cv_6_1, cv_6_2, cv_6_3⟩ := cells4s Rv_6
    obtain ⟨cw_6_0, cw_6_1, cw_6_2, cw_6_3⟩ := cells4s Rw_6
    go_wp2_with fail
    obtain ⟨F, hF1, hF2⟩ := below_fun (w5.alloc (Obj.cells #[.bool b2, .string s2, .string t2, .int .i64 e2] 28))
    have fb_0 := fun u => cells4 (heap_of (hF1 u) _ _ _ Rb_6) 0 _ rfl
    have fb_1 := fun u => cells4 (heap_of (hF1 u) _ _ _ Rb_6) 1 _ rfl
    have fn_0 := fun u => cells4 (heap_of (hF1 u) _ _ _ Rn_6) 0 _ rfl
    have fn_1 := fun u => cells4 (heap_of (hF1 u) _ _ _ Rn_6) 1 _ rfl
    have fv_0 := fun u => cells4 (heap_of (hF1 u) _ _ _ Rv_6) 0 _ rfl
    have fv_1 := fun u => cells4 (heap_of (hF1 u) _ _ _ Rv_6) 1 _ rfl
    have fv_2 := fun u => cells4 (heap_of (hF1 u) _ _ _ Rv_6) 2 _ rfl
    have fv_3 := fun u => cells4 (heap_of (hF1 u) _ _ _ Rv_6) 3 _ rfl
    have fw_0 := fun u => cells4 (heap_of (hF1 u) _ _ _ Rw_6) 0 _ rfl
    have fw_1 := fun u => cells4 (heap_of (hF1 u) _ _ _ Rw_6) 1 _ rfl
    have fw_2 := fun u => cells4 (heap_of (hF1 u) _ _ _ Rw_6) 2 _ rfl
    have fw_3 := fun u => cells4 (heap_of (hF1 u) _ _ _ Rw_6) 3 _ rfl
    have FG : Box (∀ u, FAt (F u)) := box (fun u => fatB FF.out (btr B6 (hF1 u)))
    refine wp_region_below F hF2 (by kernel_rfl) (by kernel_rfl) ?_
    repeat first | go_big_quiet_step (first | (go_at_call_of 25 (Value.bool true); exact quietF hF1 hF2 (KI.out _ (FG.out _))) | (go_at_call_of 25 (Value.bool false); exact quietF hF1 hF2 (KJ.out _ (FG.out _))) | (go_at_call 11; exact quietF hF1 hF2 (KA.out _ (FG.out _))) | fail) | quiet_step (first | (go_at_call_of 25 (Value.bool true); exact quietF hF1 hF2 (KI.out _ (FG.out _))) | (go_at_call_of 25 (Value.bool false); exact quietF hF1 hF2 (KJ.out _ (FG.out _))) | (go_at_call 11; exact quietF hF1 hF2 (KA.out _ (FG.out _))) | fail)
    refine wpQuiet_nil ?_
    rintro _ ⟨uW, rfl⟩
    have B7 := btr B6 (hF1 uW)
    have Rb_7 := heap_of (hF1 uW) _ _ _ Rb_6
    have Rn_7 := heap_of (hF1 uW) _ _ _ Rn_6
    have Rv_7 := heap_of (hF1 uW) _ _ _ Rv_6
    have Rw_7 := heap_of (hF1 uW) _ _ _ Rw_6
    obtain ⟨w7, hw⟩ : ∃ V, F uW = V := ⟨_, rfl⟩
    rw [hw] at B7 Rb_7 Rn_7 Rv_7 Rw_7
    try rw [hw]
    clear hw hF1 hF2 B6 fb_0 fb_1 fn_0 fn_1 fv_0 fv_1 fv_2 fv_3 fw_0 fw_1 fw_2 fw_3 Rb_6 cb_6_0 cb_6_1 Rn_6 cn_6_0 cn_6_1 Rv_6 cv_6_0 cv_6_1 cv_6_2 cv_6_3 Rw_6 cw_6_0 cw_6_1 cw_6_2 cw_6_3
    clear FG
    clear F
    obtain ⟨cb_7_0, cb_7_1⟩ := cells2s Rb_7
    obtain ⟨cn_7_0, cn_7_1⟩ := cells2s Rn_7
    obtain ⟨cv_7_0, cv_7_1, cv_7_2, cv_7_3⟩ := cells4s Rv_7
    obtain ⟨cw_7_0, cw_7_1, cw_7_2, cw_7_3⟩ := cells4s Rw_7
    go_wp2
    go_ret
    exact ⟨rfl, B7⟩
set_option maxRecDepth 100000 in
set_option maxHeartbeats 8000000 in
theorem next_r3 (f : Int) (x y u v : Nat) (b1 : Bool) (s1 t1 : ByteArray) (e1 : Int) (b2 : Bool) (s2 t2 : ByteArray) (e2 : Int) (c : Int) (w : World)
    (KN : Box (∀ w, FAt w → Calls Tryz.prog 24 #[.int .u8 f, .agg #[.int .u64 (x : Nat), .int .u64 (y : Nat)]] w fun r w' => r = .returned (.tuple #[.agg #[.int .u64 (u : Nat), .int .u64 (v : Nat)], .int .i64 0]) ∧ Below w.heap.size w w'))
    (KV : Box (∀ w, FAt w → TabAt w → Calls Tryz.prog 8 #[.int .u8 f, .agg #[.int .u64 (x : Nat), .int .u64 (y : Nat)]] w fun r w' => r = .returned (.tuple #[.agg #[.bool b1, .string s1, .string t1, .int .i64 e1], .int .i64 0]) ∧ Below w.heap.size w w'))
    (KW : Box (∀ w, FAt w → TabAt w → Calls Tryz.prog 8 #[.int .u8 f, .agg #[.int .u64 (u : Nat), .int .u64 (v : Nat)]] w fun r w' => r = .returned (.tuple #[.agg #[.bool b2, .string s2, .string t2, .int .i64 e2], .int .i64 0]) ∧ Below w.heap.size w w'))
    (KC : Box (∀ w, TabAt w → Calls Tryz.prog 26 #[.agg #[.bool b1, .string s1, .string t1, .int .i64 e1], .agg #[.bool b2, .string s2, .string t2, .int .i64 e2]] w fun r w' => r = .returned (.tuple #[.int .i64 c, .int .i64 0]) ∧ Below w.heap.size w w')) (hc : decide (c < 0) = true) (hc2 : decide (0 ≤ c) = false)
    (KL : Box (∀ w, FAt w → Calls Tryz.prog 27 #[.int .u8 f, .bool true] w fun r w' => r = .returned (.agg #[.int .u64 (x : Nat), .int .u64 (y : Nat)]) ∧ Below w.heap.size w w'))
    (KZ : Box (∀ w, FAt w → Calls Tryz.prog 28 #[.int .u8 f, .bool true] w fun r w' => r = .returned (.agg #[.int .u64 (u : Nat), .int .u64 (v : Nat)]) ∧ Below w.heap.size w w'))
    (hT : FAt w) (hT2 : TabAt w) : Calls Tryz.prog 6 #[.int .u8 f, .agg #[.int .u64 (x : Nat), .int .u64 (y : Nat)]] w fun r w' => r = .returned (.bool true) ∧ Below w.heap.size w w' := by
  have FF := box hT
  have TT := box hT2
  have KA := box kalive
  clear hT hT2
  obtain ⟨Rb_0, B0⟩ := opn1 w (Obj.cells #[.int .u64 (x : Nat), .int .u64 (y : Nat)] 25)
  go_enter Tryz.func6, Tryz.ntmps6
  go_wp2_with fail
  refine (KN.out _ (fatB FF.out B0)).mono ?_
  rintro r w1 ⟨rfl, b1⟩
  have B1 : Below w.heap.size w w1 := btr B0 b1
  have Rb_1 := heap_of b1 _ _ _ Rb_0
  clear b1 B0 Rb_0
  obtain ⟨cb_1_0, cb_1_1⟩ := cells2s Rb_1
  have S2 := box B1.size
  have Lb_2 : Box (w.heap.size < w1.heap.size) := box (Array.getElem?_eq_some_iff.1 Rb_1).1
  have Rn_2 := heap_alloc_last w1 (Obj.cells #[.int .u64 (u : Nat), .int .u64 (v : Nat)] 25)
  have B2 := btr B1 (bal w1 (Obj.cells #[.int .u64 (u : Nat), .int .u64 (v : Nat)] 25))
  have Rb_2 := heap_of (bal w1 (Obj.cells #[.int .u64 (u : Nat), .int .u64 (v : Nat)] 25)) _ _ _ Rb_1
  clear B1 Rb_1 cb_1_0 cb_1_1
  obtain ⟨cb_2_0, cb_2_1⟩ := cells2s Rb_2
  obtain ⟨cn_2_0, cn_2_1⟩ := cells2s Rn_2
  go_wp2_with fail
  refine (KV.out _ (fatB FF.out B2) (tabB TT.out B2)).mono ?_
  rintro r w3 ⟨rfl, b3⟩
  have B3 : Below w.heap.size w w3 := btr B2 b3
  have Rb_3 := heap_of b3 _ _ _ Rb_2
  have Rn_3 := heap_of b3 _ _ _ Rn_2
  clear b3 B2 Rb_2 cb_2_0 cb_2_1 Rn_2 cn_2_0 cn_2_1
  obtain ⟨cb_3_0, cb_3_1⟩ := cells2s Rb_3
  obtain ⟨cn_3_0, cn_3_1⟩ := cells2s Rn_3
  have S4 := box B3.size
  have Lb_4 : Box (w.heap.size < w3.heap.size) := box (Array.getElem?_eq_some_iff.1 Rb_3).1
  have Ln_4 : Box (w1.heap.size < w3.heap.size) := box (Array.getElem?_eq_some_iff.1 Rn_3).1
  have Rv_4 := heap_alloc_last w3 (Obj.cells #[.bool b1, .string s1, .string t1, .int .i64 e1] 28)
  have B4 := btr B3 (bal w3 (Obj.cells #[.bool b1, .string s1, .string t1, .int .i64 e1] 28))
  have Rb_4 := heap_of (bal w3 (Obj.cells #[.bool b1, .string s1, .string t1, .int .i64 e1] 28)) _ _ _ Rb_3
  have Rn_4 := heap_of (bal w3 (Obj.cells #[.bool b1, .string s1, .string t1, .int .i64 e1] 28)) _ _ _ Rn_3
  clear B3 Rb_3 cb_3_0 cb_3_1 Rn_3 cn_3_0 cn_3_1
  obtain ⟨cb_4_0, cb_4_1⟩ := cells2s Rb_4
  obtain ⟨cn_4_0, cn_4_1⟩ := cells2s Rn_4
  obtain ⟨cv_4_0, cv_4_1, cv_4_2, cv_4_3⟩ := cells4s Rv_4
  go_wp2_with fail
  refine (KW.out _ (fatB FF.out B4) (tabB TT.out B4)).mono ?_
  rintro r w5 ⟨rfl, b5⟩
  have B5 : Below w.heap.size w w5 := btr B4 b5
  have Rb_5 := heap_of b5 _ _ _ Rb_4
  have Rn_5 := heap_of b5 _ _ _ Rn_4
  have Rv_5 := heap_of b5 _ _ _ Rv_4
  clear b5 B4 Rb_4 cb_4_0 cb_4_1 Rn_4 cn_4_0 cn_4_1 Rv_4 cv_4_0 cv_4_1 cv_4_2 cv_4_3
  obtain ⟨cb_5_0, cb_5_1⟩ := cells2s Rb_5
  obtain ⟨cn_5_0, cn_5_1⟩ := cells2s Rn_5
  obtain ⟨cv_5_0, cv_5_1, cv_5_2, cv_5_3⟩ := cells4s Rv_5
  have S6 := box B5.size
  have Lb_6 : Box (w.heap.size < w5.heap.size) := box (Array.getElem?_eq_some_iff.1 Rb_5).1
  have Ln_6 : Box (w1.heap.size < w5.heap.size) := box (Array.getElem?_eq_some_iff.1 Rn_5).1
  have Lv_6 : Box (w3.heap.size < w5.heap.size) := box (Array.getElem?_eq_some_iff.1 Rv_5).1
  have Rw_6 := heap_alloc_last w5 (Obj.cells #[.bool b2, .string s2, .string t2, .int .i64 e2] 28)
  have B6 := btr B5 (bal w5 (Obj.cells #[.bool b2, .string s2, .string t2, .int .i64 e2] 28))
  have Rb_6 := heap_of (bal w5 (Obj.cells #[.bool b2, .string s2, .string t2, .int .i64 e2] 28)) _ _ _ Rb_5
  have Rn_6 := heap_of (bal w5 (Obj.cells #[.bool b2, .string s2, .string t2, .int .i64 e2] 28)) _ _ _ Rn_5
  have Rv_6 := heap_of (bal w5 (Obj.cells #[.bool b2, .string s2, .string t2, .int .i64 e2] 28)) _ _ _ Rv_5
  clear B5 Rb_5 cb_5_0 cb_5_1 Rn_5 cn_5_0 cn_5_1 Rv_5 cv_5_0 cv_5_1 cv_5_2 cv_5_3
  obtain ⟨cb_6_0, cb_6_1⟩ := cells2s Rb_6
  obtain ⟨cn_6_0, cn_6_1⟩ := cells2s Rn_6
  obtain ⟨cv_6_0, cv_6_1, cv_6_2, cv_6_3⟩ := cells4s Rv_6
  obtain ⟨cw_6_0, cw_6_1, cw_6_2, cw_6_3⟩ := cells4s Rw_6
  go_wp2_with fail
  refine (KC.out _ (tabB TT.out B6)).mono ?_
  rintro r w7 ⟨rfl, b7⟩
  have B7 : Below w.heap.size w w7 := btr B6 b7
  have Rb_7 := heap_of b7 _ _ _ Rb_6
  have Rn_7 := heap_of b7 _ _ _ Rn_6
  have Rv_7 := heap_of b7 _ _ _ Rv_6
  have Rw_7 := heap_of b7 _ _ _ Rw_6
  clear b7 B6 Rb_6 cb_6_0 cb_6_1 Rn_6 cn_6_0 cn_6_1 Rv_6 cv_6_0 cv_6_1 cv_6_2 cv_6_3 Rw_6 cw_6_0 cw_6_1 cw_6_2 cw_6_3
  obtain ⟨cb_7_0, cb_7_1⟩ := cells2s Rb_7
  obtain ⟨cn_7_0, cn_7_1⟩ := cells2s Rn_7
  obtain ⟨cv_7_0, cv_7_1, cv_7_2, cv_7_3⟩ := cells4s Rv_7
  obtain ⟨cw_7_0, cw_7_1, cw_7_2, cw_7_3⟩ := cells4s Rw_7
  go_wp2_with fail
  obtain ⟨F, hF1, hF2⟩ := below_fun w7
  have fb_0 := fun u => cells4 (heap_of (hF1 u) _ _ _ Rb_7) 0 _ rfl
  have fb_1 := fun u => cells4 (heap_of (hF1 u) _ _ _ Rb_7) 1 _ rfl
  have fn_0 := fun u => cells4 (heap_of (hF1 u) _ _ _ Rn_7) 0 _ rfl
  have fn_1 := fun u => cells4 (heap_of (hF1 u) _ _ _ Rn_7) 1 _ rfl
  have fv_0 := fun u => cells4 (heap_of (hF1 u) _ _ _ Rv_7) 0 _ rfl
  have fv_1 := fun u => cells4 (heap_of (hF1 u) _ _ _ Rv_7) 1 _ rfl
  have fv_2 := fun u => cells4 (heap_of (hF1 u) _ _ _ Rv_7) 2 _ rfl
  have fv_3 := fun u => cells4 (heap_of (hF1 u) _ _ _ Rv_7) 3 _ rfl
  have fw_0 := fun u => cells4 (heap_of (hF1 u) _ _ _ Rw_7) 0 _ rfl
  have fw_1 := fun u => cells4 (heap_of (hF1 u) _ _ _ Rw_7) 1 _ rfl
  have fw_2 := fun u => cells4 (heap_of (hF1 u) _ _ _ Rw_7) 2 _ rfl
  have fw_3 := fun u => cells4 (heap_of (hF1 u) _ _ _ Rw_7) 3 _ rfl
  have FG : Box (∀ u, FAt (F u)) := box (fun u => fatB FF.out (btr B7 (hF1 u)))
  refine wp_region_below F hF2 (by kernel_rfl) (by kernel_rfl) ?_
  repeat first | go_big_quiet_step (first | (go_at_call 27; exact quietF hF1 hF2 (KL.out _ (FG.out _))) | fail) | quiet_step (first | (go_at_call 27; exact quietF hF1 hF2 (KL.out _ (FG.out _))) | fail)
  refine wpQuiet_nil ?_
  rintro _ ⟨uW, rfl⟩
  have B8 := btr B7 (hF1 uW)
  have Rb_8 := heap_of (hF1 uW) _ _ _ Rb_7
  have Rn_8 := heap_of (hF1 uW) _ _ _ Rn_7
  have Rv_8 := heap_of (hF1 uW) _ _ _ Rv_7
  have Rw_8 := heap_of (hF1 uW) _ _ _ Rw_7
  obtain ⟨w8, hw⟩ : ∃ V, F uW = V := ⟨_, rfl⟩
  rw [hw] at B8 Rb_8 Rn_8 Rv_8 Rw_8
  try rw [hw]
  clear hw hF1 hF2 B7 fb_0 fb_1 fn_0 fn_1 fv_0 fv_1 fv_2 fv_3 fw_0 fw_1 fw_2 fw_3 Rb_7 cb_7_0 cb_7_1 Rn_7 cn_7_0 cn_7_1 Rv_7 cv_7_0 cv_7_1 cv_7_2 cv_7_3 Rw_7 cw_7_0 cw_7_1 cw_7_2 cw_7_3
  clear FG
  clear F
  obtain ⟨cb_8_0, cb_8_1⟩ := cells2s Rb_8
  obtain ⟨cn_8_0, cn_8_1⟩ := cells2s Rn_8
  obtain ⟨cv_8_0, cv_8_1, cv_8_2, cv_8_3⟩ := cells4s Rv_8
  obtain ⟨cw_8_0, cw_8_1, cw_8_2, cw_8_3⟩ := cells4s Rw_8
  go_wp2_with fail
  obtain ⟨F, hF1, hF2⟩ := below_fun w8
  have fb_0 := fun u => cells4 (heap_of (hF1 u) _ _ _ Rb_8) 0 _ rfl
  have fb_1 := fun u => cells4 (heap_of (hF1 u) _ _ _ Rb_8) 1 _ rfl
  have fn_0 := fun u => cells4 (heap_of (hF1 u) _ _ _ Rn_8) 0 _ rfl
  have fn_1 := fun u => cells4 (heap_of (hF1 u) _ _ _ Rn_8) 1 _ rfl
  have fv_0 := fun u => cells4 (heap_of (hF1 u) _ _ _ Rv_8) 0 _ rfl
  have fv_1 := fun u => cells4 (heap_of (hF1 u) _ _ _ Rv_8) 1 _ rfl
  have fv_2 := fun u => cells4 (heap_of (hF1 u) _ _ _ Rv_8) 2 _ rfl
  have fv_3 := fun u => cells4 (heap_of (hF1 u) _ _ _ Rv_8) 3 _ rfl
  have fw_0 := fun u => cells4 (heap_of (hF1 u) _ _ _ Rw_8) 0 _ rfl
  have fw_1 := fun u => cells4 (heap_of (hF1 u) _ _ _ Rw_8) 1 _ rfl
  have fw_2 := fun u => cells4 (heap_of (hF1 u) _ _ _ Rw_8) 2 _ rfl
  have fw_3 := fun u => cells4 (heap_of (hF1 u) _ _ _ Rw_8) 3 _ rfl
  have FG : Box (∀ u, FAt (F u)) := box (fun u => fatB FF.out (btr B8 (hF1 u)))
  refine wp_region_below F hF2 (by kernel_rfl) (by kernel_rfl) ?_
  repeat first | go_big_quiet_step (first | (go_at_call 28; exact quietF hF1 hF2 (KZ.out _ (FG.out _))) | (go_at_call 11; exact quietF hF1 hF2 (KA.out _ (FG.out _))) | fail) | quiet_step (first | (go_at_call 28; exact quietF hF1 hF2 (KZ.out _ (FG.out _))) | (go_at_call 11; exact quietF hF1 hF2 (KA.out _ (FG.out _))) | fail)
  refine wpQuiet_nil ?_
  rintro _ ⟨uW, rfl⟩
  have B9 := btr B8 (hF1 uW)
  have Rb_9 := heap_of (hF1 uW) _ _ _ Rb_8
  have Rn_9 := heap_of (hF1 uW) _ _ _ Rn_8
  have Rv_9 := heap_of (hF1 uW) _ _ _ Rv_8
  have Rw_9 := heap_of (hF1 uW) _ _ _ Rw_8
  obtain ⟨w9, hw⟩ : ∃ V, F uW = V := ⟨_, rfl⟩
  rw [hw] at B9 Rb_9 Rn_9 Rv_9 Rw_9
  try rw [hw]
  clear hw hF1 hF2 B8 fb_0 fb_1 fn_0 fn_1 fv_0 fv_1 fv_2 fv_3 fw_0 fw_1 fw_2 fw_3 Rb_8 cb_8_0 cb_8_1 Rn_8 cn_8_0 cn_8_1 Rv_8 cv_8_0 cv_8_1 cv_8_2 cv_8_3 Rw_8 cw_8_0 cw_8_1 cw_8_2 cw_8_3
  clear FG
  clear F
  obtain ⟨cb_9_0, cb_9_1⟩ := cells2s Rb_9
  obtain ⟨cn_9_0, cn_9_1⟩ := cells2s Rn_9
  obtain ⟨cv_9_0, cv_9_1, cv_9_2, cv_9_3⟩ := cells4s Rv_9
  obtain ⟨cw_9_0, cw_9_1, cw_9_2, cw_9_3⟩ := cells4s Rw_9
  go_wp2
  go_ret
  exact ⟨rfl, B9⟩
set_option maxRecDepth 100000 in
set_option maxHeartbeats 8000000 in
theorem next_r4 (f : Int) (x y u v : Nat) (b1 : Bool) (s1 t1 : ByteArray) (e1 : Int) (b2 : Bool) (s2 t2 : ByteArray) (e2 : Int) (c : Int) (i j : Nat) (b3 : Bool) (s3 t3 : ByteArray) (e3 : Int) (b4 : Bool) (s4 t4 : ByteArray) (e4 : Int) (w : World)
    (KN : Box (∀ w, FAt w → Calls Tryz.prog 24 #[.int .u8 f, .agg #[.int .u64 (x : Nat), .int .u64 (y : Nat)]] w fun r w' => r = .returned (.tuple #[.agg #[.int .u64 (u : Nat), .int .u64 (v : Nat)], .int .i64 0]) ∧ Below w.heap.size w w'))
    (KV : Box (∀ w, FAt w → TabAt w → Calls Tryz.prog 8 #[.int .u8 f, .agg #[.int .u64 (x : Nat), .int .u64 (y : Nat)]] w fun r w' => r = .returned (.tuple #[.agg #[.bool b1, .string s1, .string t1, .int .i64 e1], .int .i64 0]) ∧ Below w.heap.size w w'))
    (KW : Box (∀ w, FAt w → TabAt w → Calls Tryz.prog 8 #[.int .u8 f, .agg #[.int .u64 (u : Nat), .int .u64 (v : Nat)]] w fun r w' => r = .returned (.tuple #[.agg #[.bool b2, .string s2, .string t2, .int .i64 e2], .int .i64 0]) ∧ Below w.heap.size w w'))
    (KC : Box (∀ w, TabAt w → Calls Tryz.prog 26 #[.agg #[.bool b1, .string s1, .string t1, .int .i64 e1], .agg #[.bool b2, .string s2, .string t2, .int .i64 e2]] w fun r w' => r = .returned (.tuple #[.int .i64 c, .int .i64 0]) ∧ Below w.heap.size w w')) (hc : decide (c < 0) = true) (hc2 : decide (0 ≤ c) = false)
    (KL : Box (∀ w, FAt w → Calls Tryz.prog 27 #[.int .u8 f, .bool true] w fun r w' => r = .returned (.agg #[.int .u64 (i : Nat), .int .u64 (j : Nat)]) ∧ Below w.heap.size w w'))
    (ne : NE x y i j)
    (KD : Box (∀ w, TabAt w → Calls Tryz.prog 29 #[.agg #[.bool b1, .string s1, .string t1, .int .i64 e1], .agg #[.bool b2, .string s2, .string t2, .int .i64 e2]] w fun r w' => r = .returned (.tuple #[.agg #[.bool b3, .string s3, .string t3, .int .i64 e3], .int .i64 0]) ∧ Below w.heap.size w w'))
    (KS : Box (∀ w, TabAt w → Calls Tryz.prog 30 #[.agg #[.bool b3, .string s3, .string t3, .int .i64 e3], .int .i64 (-1)] w fun r w' => r = .returned (.tuple #[.agg #[.bool b4, .string s4, .string t4, .int .i64 e4], .int .i64 0]) ∧ Below w.heap.size w w'))
    (KO : Box (∀ w, FAt w → TabAt w → Calls Tryz.prog 12 #[.int .u8 f, .agg #[.bool b4, .string s4, .string t4, .int .i64 e4]] w fun r w' => r = .returned (.tuple #[.agg #[.int .u64 0, .int .u64 0], .bool false, .int .i64 0]) ∧ Below w.heap.size w w'))
    (hT : FAt w) (hT2 : TabAt w) : Calls Tryz.prog 6 #[.int .u8 f, .agg #[.int .u64 (x : Nat), .int .u64 (y : Nat)]] w fun r w' => r = .returned (.bool true) ∧ Below w.heap.size w w' := by
  have FF := box hT
  have TT := box hT2
  have KA := box kalive
  clear hT hT2
  rcases ne with ne | ⟨ne1, ne⟩
  all_goals
    obtain ⟨Rb_0, B0⟩ := opn1 w (Obj.cells #[.int .u64 (x : Nat), .int .u64 (y : Nat)] 25)
    go_enter Tryz.func6, Tryz.ntmps6
    go_wp2_with fail
    refine (KN.out _ (fatB FF.out B0)).mono ?_
    rintro r w1 ⟨rfl, b1⟩
    have B1 : Below w.heap.size w w1 := btr B0 b1
    have Rb_1 := heap_of b1 _ _ _ Rb_0
    clear b1 B0 Rb_0
    obtain ⟨cb_1_0, cb_1_1⟩ := cells2s Rb_1
    have S2 := box B1.size
    have Lb_2 : Box (w.heap.size < w1.heap.size) := box (Array.getElem?_eq_some_iff.1 Rb_1).1
    have Rn_2 := heap_alloc_last w1 (Obj.cells #[.int .u64 (u : Nat), .int .u64 (v : Nat)] 25)
    have B2 := btr B1 (bal w1 (Obj.cells #[.int .u64 (u : Nat), .int .u64 (v : Nat)] 25))
    have Rb_2 := heap_of (bal w1 (Obj.cells #[.int .u64 (u : Nat), .int .u64 (v : Nat)] 25)) _ _ _ Rb_1
    clear B1 Rb_1 cb_1_0 cb_1_1
    obtain ⟨cb_2_0, cb_2_1⟩ := cells2s Rb_2
    obtain ⟨cn_2_0, cn_2_1⟩ := cells2s Rn_2
    go_wp2_with fail
    refine (KV.out _ (fatB FF.out B2) (tabB TT.out B2)).mono ?_
    rintro r w3 ⟨rfl, b3⟩
    have B3 : Below w.heap.size w w3 := btr B2 b3
    have Rb_3 := heap_of b3 _ _ _ Rb_2
    have Rn_3 := heap_of b3 _ _ _ Rn_2
    clear b3 B2 Rb_2 cb_2_0 cb_2_1 Rn_2 cn_2_0 cn_2_1
    obtain ⟨cb_3_0, cb_3_1⟩ := cells2s Rb_3
    obtain ⟨cn_3_0, cn_3_1⟩ := cells2s Rn_3
    have S4 := box B3.size
    have Lb_4 : Box (w.heap.size < w3.heap.size) := box (Array.getElem?_eq_some_iff.1 Rb_3).1
    have Ln_4 : Box (w1.heap.size < w3.heap.size) := box (Array.getElem?_eq_some_iff.1 Rn_3).1
    have Rv_4 := heap_alloc_last w3 (Obj.cells #[.bool b1, .string s1, .string t1, .int .i64 e1] 28)
    have B4 := btr B3 (bal w3 (Obj.cells #[.bool b1, .string s1, .string t1, .int .i64 e1] 28))
    have Rb_4 := heap_of (bal w3 (Obj.cells #[.bool b1, .string s1, .string t1, .int .i64 e1] 28)) _ _ _ Rb_3
    have Rn_4 := heap_of (bal w3 (Obj.cells #[.bool b1, .string s1, .string t1, .int .i64 e1] 28)) _ _ _ Rn_3
    clear B3 Rb_3 cb_3_0 cb_3_1 Rn_3 cn_3_0 cn_3_1
    obtain ⟨cb_4_0, cb_4_1⟩ := cells2s Rb_4
    obtain ⟨cn_4_0, cn_4_1⟩ := cells2s Rn_4
    obtain ⟨cv_4_0, cv_4_1, cv_4_2, cv_4_3⟩ := cells4s Rv_4
    go_wp2_with fail
    refine (KW.out _ (fatB FF.out B4) (tabB TT.out B4)).mono ?_
    rintro r w5 ⟨rfl, b5⟩
    have B5 : Below w.heap.size w w5 := btr B4 b5
    have Rb_5 := heap_of b5 _ _ _ Rb_4
    have Rn_5 := heap_of b5 _ _ _ Rn_4
    have Rv_5 := heap_of b5 _ _ _ Rv_4
    clear b5 B4 Rb_4 cb_4_0 cb_4_1 Rn_4 cn_4_0 cn_4_1 Rv_4 cv_4_0 cv_4_1 cv_4_2 cv_4_3
    obtain ⟨cb_5_0, cb_5_1⟩ := cells2s Rb_5
    obtain ⟨cn_5_0, cn_5_1⟩ := cells2s Rn_5
    obtain ⟨cv_5_0, cv_5_1, cv_5_2, cv_5_3⟩ := cells4s Rv_5
    have S6 := box B5.size
    have Lb_6 : Box (w.heap.size < w5.heap.size) := box (Array.getElem?_eq_some_iff.1 Rb_5).1
    have Ln_6 : Box (w1.heap.size < w5.heap.size) := box (Array.getElem?_eq_some_iff.1 Rn_5).1
    have Lv_6 : Box (w3.heap.size < w5.heap.size) := box (Array.getElem?_eq_some_iff.1 Rv_5).1
    have Rw_6 := heap_alloc_last w5 (Obj.cells #[.bool b2, .string s2, .string t2, .int .i64 e2] 28)
    have B6 := btr B5 (bal w5 (Obj.cells #[.bool b2, .string s2, .string t2, .int .i64 e2] 28))
    have Rb_6 := heap_of (bal w5 (Obj.cells #[.bool b2, .string s2, .string t2, .int .i64 e2] 28)) _ _ _ Rb_5
    have Rn_6 := heap_of (bal w5 (Obj.cells #[.bool b2, .string s2, .string t2, .int .i64 e2] 28)) _ _ _ Rn_5
    have Rv_6 := heap_of (bal w5 (Obj.cells #[.bool b2, .string s2, .string t2, .int .i64 e2] 28)) _ _ _ Rv_5
    clear B5 Rb_5 cb_5_0 cb_5_1 Rn_5 cn_5_0 cn_5_1 Rv_5 cv_5_0 cv_5_1 cv_5_2 cv_5_3
    obtain ⟨cb_6_0, cb_6_1⟩ := cells2s Rb_6
    obtain ⟨cn_6_0, cn_6_1⟩ := cells2s Rn_6
    obtain ⟨cv_6_0, cv_6_1, cv_6_2, cv_6_3⟩ := cells4s Rv_6
    obtain ⟨cw_6_0, cw_6_1, cw_6_2, cw_6_3⟩ := cells4s Rw_6
    go_wp2_with fail
    refine (KC.out _ (tabB TT.out B6)).mono ?_
    rintro r w7 ⟨rfl, b7⟩
    have B7 : Below w.heap.size w w7 := btr B6 b7
    have Rb_7 := heap_of b7 _ _ _ Rb_6
    have Rn_7 := heap_of b7 _ _ _ Rn_6
    have Rv_7 := heap_of b7 _ _ _ Rv_6
    have Rw_7 := heap_of b7 _ _ _ Rw_6
    clear b7 B6 Rb_6 cb_6_0 cb_6_1 Rn_6 cn_6_0 cn_6_1 Rv_6 cv_6_0 cv_6_1 cv_6_2 cv_6_3 Rw_6 cw_6_0 cw_6_1 cw_6_2 cw_6_3
    obtain ⟨cb_7_0, cb_7_1⟩ := cells2s Rb_7
    obtain ⟨cn_7_0, cn_7_1⟩ := cells2s Rn_7
    obtain ⟨cv_7_0, cv_7_1, cv_7_2, cv_7_3⟩ := cells4s Rv_7
    obtain ⟨cw_7_0, cw_7_1, cw_7_2, cw_7_3⟩ := cells4s Rw_7
    go_wp2_with fail
    obtain ⟨F, hF1, hF2⟩ := below_fun w7
    have fb_0 := fun u => cells4 (heap_of (hF1 u) _ _ _ Rb_7) 0 _ rfl
    have fb_1 := fun u => cells4 (heap_of (hF1 u) _ _ _ Rb_7) 1 _ rfl
    have fn_0 := fun u => cells4 (heap_of (hF1 u) _ _ _ Rn_7) 0 _ rfl
    have fn_1 := fun u => cells4 (heap_of (hF1 u) _ _ _ Rn_7) 1 _ rfl
    have fv_0 := fun u => cells4 (heap_of (hF1 u) _ _ _ Rv_7) 0 _ rfl
    have fv_1 := fun u => cells4 (heap_of (hF1 u) _ _ _ Rv_7) 1 _ rfl
    have fv_2 := fun u => cells4 (heap_of (hF1 u) _ _ _ Rv_7) 2 _ rfl
    have fv_3 := fun u => cells4 (heap_of (hF1 u) _ _ _ Rv_7) 3 _ rfl
    have fw_0 := fun u => cells4 (heap_of (hF1 u) _ _ _ Rw_7) 0 _ rfl
    have fw_1 := fun u => cells4 (heap_of (hF1 u) _ _ _ Rw_7) 1 _ rfl
    have fw_2 := fun u => cells4 (heap_of (hF1 u) _ _ _ Rw_7) 2 _ rfl
    have fw_3 := fun u => cells4 (heap_of (hF1 u) _ _ _ Rw_7) 3 _ rfl
    have FG : Box (∀ u, FAt (F u)) := box (fun u => fatB FF.out (btr B7 (hF1 u)))
    refine wp_region_below F hF2 (by kernel_rfl) (by kernel_rfl) ?_
    repeat first | go_big_quiet_step (first | (go_at_call 27; exact quietF hF1 hF2 (KL.out _ (FG.out _))) | fail) | quiet_step (first | (go_at_call 27; exact quietF hF1 hF2 (KL.out _ (FG.out _))) | fail)
    refine wpQuiet_nil ?_
    rintro _ ⟨uW, rfl⟩
    have B8 := btr B7 (hF1 uW)
    have Rb_8 := heap_of (hF1 uW) _ _ _ Rb_7
    have Rn_8 := heap_of (hF1 uW) _ _ _ Rn_7
    have Rv_8 := heap_of (hF1 uW) _ _ _ Rv_7
    have Rw_8 := heap_of (hF1 uW) _ _ _ Rw_7
    obtain ⟨w8, hw⟩ : ∃ V, F uW = V := ⟨_, rfl⟩
    rw [hw] at B8 Rb_8 Rn_8 Rv_8 Rw_8
    try rw [hw]
    clear hw hF1 hF2 B7 fb_0 fb_1 fn_0 fn_1 fv_0 fv_1 fv_2 fv_3 fw_0 fw_1 fw_2 fw_3 Rb_7 cb_7_0 cb_7_1 Rn_7 cn_7_0 cn_7_1 Rv_7 cv_7_0 cv_7_1 cv_7_2 cv_7_3 Rw_7 cw_7_0 cw_7_1 cw_7_2 cw_7_3
    clear FG
    clear F
    obtain ⟨cb_8_0, cb_8_1⟩ := cells2s Rb_8
    obtain ⟨cn_8_0, cn_8_1⟩ := cells2s Rn_8
    obtain ⟨cv_8_0, cv_8_1, cv_8_2, cv_8_3⟩ := cells4s Rv_8
    obtain ⟨cw_8_0, cw_8_1, cw_8_2, cw_8_3⟩ := cells4s Rw_8
    go_wp2_with fail
    refine (KD.out _ (tabB TT.out B8)).mono ?_
    rintro r w9 ⟨rfl, b9⟩
    have B9 : Below w.heap.size w w9 := btr B8 b9
    have Rb_9 := heap_of b9 _ _ _ Rb_8
    have Rn_9 := heap_of b9 _ _ _ Rn_8
    have Rv_9 := heap_of b9 _ _ _ Rv_8
    have Rw_9 := heap_of b9 _ _ _ Rw_8
    clear b9 B8 Rb_8 cb_8_0 cb_8_1 Rn_8 cn_8_0 cn_8_1 Rv_8 cv_8_0 cv_8_1 cv_8_2 cv_8_3 Rw_8 cw_8_0 cw_8_1 cw_8_2 cw_8_3
    obtain ⟨cb_9_0, cb_9_1⟩ := cells2s Rb_9
    obtain ⟨cn_9_0, cn_9_1⟩ := cells2s Rn_9
    obtain ⟨cv_9_0, cv_9_1, cv_9_2, cv_9_3⟩ := cells4s Rv_9
    obtain ⟨cw_9_0, cw_9_1, cw_9_2, cw_9_3⟩ := cells4s Rw_9
    have S10 := box B9.size
    have Lb_10 : Box (w.heap.size < w9.heap.size) := box (Array.getElem?_eq_some_iff.1 Rb_9).1
    have Ln_10 : Box (w1.heap.size < w9.heap.size) := box (Array.getElem?_eq_some_iff.1 Rn_9).1
    have Lv_10 : Box (w3.heap.size < w9.heap.size) := box (Array.getElem?_eq_some_iff.1 Rv_9).1
    have Lw_10 : Box (w5.heap.size < w9.heap.size) := box (Array.getElem?_eq_some_iff.1 Rw_9).1
    have Rs_10 := heap_alloc_last w9 (Obj.cells #[.bool b3, .string s3, .string t3, .int .i64 e3] 28)
    have B10 := btr B9 (bal w9 (Obj.cells #[.bool b3, .string s3, .string t3, .int .i64 e3] 28))
    have Rb_10 := heap_of (bal w9 (Obj.cells #[.bool b3, .string s3, .string t3, .int .i64 e3] 28)) _ _ _ Rb_9
    have Rn_10 := heap_of (bal w9 (Obj.cells #[.bool b3, .string s3, .string t3, .int .i64 e3] 28)) _ _ _ Rn_9
    have Rv_10 := heap_of (bal w9 (Obj.cells #[.bool b3, .string s3, .string t3, .int .i64 e3] 28)) _ _ _ Rv_9
    have Rw_10 := heap_of (bal w9 (Obj.cells #[.bool b3, .string s3, .string t3, .int .i64 e3] 28)) _ _ _ Rw_9
    clear B9 Rb_9 cb_9_0 cb_9_1 Rn_9 cn_9_0 cn_9_1 Rv_9 cv_9_0 cv_9_1 cv_9_2 cv_9_3 Rw_9 cw_9_0 cw_9_1 cw_9_2 cw_9_3
    obtain ⟨cb_10_0, cb_10_1⟩ := cells2s Rb_10
    obtain ⟨cn_10_0, cn_10_1⟩ := cells2s Rn_10
    obtain ⟨cv_10_0, cv_10_1, cv_10_2, cv_10_3⟩ := cells4s Rv_10
    obtain ⟨cw_10_0, cw_10_1, cw_10_2, cw_10_3⟩ := cells4s Rw_10
    obtain ⟨cs_10_0, cs_10_1, cs_10_2, cs_10_3⟩ := cells4s Rs_10
    go_wp2_with fail
    refine (KS.out _ (tabB TT.out B10)).mono ?_
    rintro r w11 ⟨rfl, b11⟩
    have B11 : Below w.heap.size w w11 := btr B10 b11
    have Rb_11 := heap_of b11 _ _ _ Rb_10
    have Rn_11 := heap_of b11 _ _ _ Rn_10
    have Rv_11 := heap_of b11 _ _ _ Rv_10
    have Rw_11 := heap_of b11 _ _ _ Rw_10
    have Rs_11 := heap_of b11 _ _ _ Rs_10
    clear b11 B10 Rb_10 cb_10_0 cb_10_1 Rn_10 cn_10_0 cn_10_1 Rv_10 cv_10_0 cv_10_1 cv_10_2 cv_10_3 Rw_10 cw_10_0 cw_10_1 cw_10_2 cw_10_3 Rs_10 cs_10_0 cs_10_1 cs_10_2 cs_10_3
    obtain ⟨cb_11_0, cb_11_1⟩ := cells2s Rb_11
    obtain ⟨cn_11_0, cn_11_1⟩ := cells2s Rn_11
    obtain ⟨cv_11_0, cv_11_1, cv_11_2, cv_11_3⟩ := cells4s Rv_11
    obtain ⟨cw_11_0, cw_11_1, cw_11_2, cw_11_3⟩ := cells4s Rw_11
    obtain ⟨cs_11_0, cs_11_1, cs_11_2, cs_11_3⟩ := cells4s Rs_11
    have S12 := box B11.size
    have Lb_12 : Box (w.heap.size < w11.heap.size) := box (Array.getElem?_eq_some_iff.1 Rb_11).1
    have Ln_12 : Box (w1.heap.size < w11.heap.size) := box (Array.getElem?_eq_some_iff.1 Rn_11).1
    have Lv_12 : Box (w3.heap.size < w11.heap.size) := box (Array.getElem?_eq_some_iff.1 Rv_11).1
    have Lw_12 : Box (w5.heap.size < w11.heap.size) := box (Array.getElem?_eq_some_iff.1 Rw_11).1
    have Ls_12 : Box (w9.heap.size < w11.heap.size) := box (Array.getElem?_eq_some_iff.1 Rs_11).1
    have Rm_12 := heap_alloc_last w11 (Obj.cells #[.bool b4, .string s4, .string t4, .int .i64 e4] 28)
    have B12 := btr B11 (bal w11 (Obj.cells #[.bool b4, .string s4, .string t4, .int .i64 e4] 28))
    have Rb_12 := heap_of (bal w11 (Obj.cells #[.bool b4, .string s4, .string t4, .int .i64 e4] 28)) _ _ _ Rb_11
    have Rn_12 := heap_of (bal w11 (Obj.cells #[.bool b4, .string s4, .string t4, .int .i64 e4] 28)) _ _ _ Rn_11
    have Rv_12 := heap_of (bal w11 (Obj.cells #[.bool b4, .string s4, .string t4, .int .i64 e4] 28)) _ _ _ Rv_11
    have Rw_12 := heap_of (bal w11 (Obj.cells #[.bool b4, .string s4, .string t4, .int .i64 e4] 28)) _ _ _ Rw_11
    have Rs_12 := heap_of (bal w11 (Obj.cells #[.bool b4, .string s4, .string t4, .int .i64 e4] 28)) _ _ _ Rs_11
    clear B11 Rb_11 cb_11_0 cb_11_1 Rn_11 cn_11_0 cn_11_1 Rv_11 cv_11_0 cv_11_1 cv_11_2 cv_11_3 Rw_11 cw_11_0 cw_11_1 cw_11_2 cw_11_3 Rs_11 cs_11_0 cs_11_1 cs_11_2 cs_11_3
    obtain ⟨cb_12_0, cb_12_1⟩ := cells2s Rb_12
    obtain ⟨cn_12_0, cn_12_1⟩ := cells2s Rn_12
    obtain ⟨cv_12_0, cv_12_1, cv_12_2, cv_12_3⟩ := cells4s Rv_12
    obtain ⟨cw_12_0, cw_12_1, cw_12_2, cw_12_3⟩ := cells4s Rw_12
    obtain ⟨cs_12_0, cs_12_1, cs_12_2, cs_12_3⟩ := cells4s Rs_12
    obtain ⟨cm_12_0, cm_12_1, cm_12_2, cm_12_3⟩ := cells4s Rm_12
    go_wp2_with fail
    refine (KO.out _ (fatB FF.out B12) (tabB TT.out B12)).mono ?_
    rintro r w13 ⟨rfl, b13⟩
    have B13 : Below w.heap.size w w13 := btr B12 b13
    have Rb_13 := heap_of b13 _ _ _ Rb_12
    have Rn_13 := heap_of b13 _ _ _ Rn_12
    have Rv_13 := heap_of b13 _ _ _ Rv_12
    have Rw_13 := heap_of b13 _ _ _ Rw_12
    have Rs_13 := heap_of b13 _ _ _ Rs_12
    have Rm_13 := heap_of b13 _ _ _ Rm_12
    clear b13 B12 Rb_12 cb_12_0 cb_12_1 Rn_12 cn_12_0 cn_12_1 Rv_12 cv_12_0 cv_12_1 cv_12_2 cv_12_3 Rw_12 cw_12_0 cw_12_1 cw_12_2 cw_12_3 Rs_12 cs_12_0 cs_12_1 cs_12_2 cs_12_3 Rm_12 cm_12_0 cm_12_1 cm_12_2 cm_12_3
    obtain ⟨cb_13_0, cb_13_1⟩ := cells2s Rb_13
    obtain ⟨cn_13_0, cn_13_1⟩ := cells2s Rn_13
    obtain ⟨cv_13_0, cv_13_1, cv_13_2, cv_13_3⟩ := cells4s Rv_13
    obtain ⟨cw_13_0, cw_13_1, cw_13_2, cw_13_3⟩ := cells4s Rw_13
    obtain ⟨cs_13_0, cs_13_1, cs_13_2, cs_13_3⟩ := cells4s Rs_13
    obtain ⟨cm_13_0, cm_13_1, cm_13_2, cm_13_3⟩ := cells4s Rm_13
    have S14 := box B13.size
    have Lb_14 : Box (w.heap.size < w13.heap.size) := box (Array.getElem?_eq_some_iff.1 Rb_13).1
    have Ln_14 : Box (w1.heap.size < w13.heap.size) := box (Array.getElem?_eq_some_iff.1 Rn_13).1
    have Lv_14 : Box (w3.heap.size < w13.heap.size) := box (Array.getElem?_eq_some_iff.1 Rv_13).1
    have Lw_14 : Box (w5.heap.size < w13.heap.size) := box (Array.getElem?_eq_some_iff.1 Rw_13).1
    have Ls_14 : Box (w9.heap.size < w13.heap.size) := box (Array.getElem?_eq_some_iff.1 Rs_13).1
    have Lm_14 : Box (w11.heap.size < w13.heap.size) := box (Array.getElem?_eq_some_iff.1 Rm_13).1
    have Ro_14 := heap_alloc_last w13 (Obj.cells #[.int .u64 0, .int .u64 0] 25)
    have B14 := btr B13 (bal w13 (Obj.cells #[.int .u64 0, .int .u64 0] 25))
    have Rb_14 := heap_of (bal w13 (Obj.cells #[.int .u64 0, .int .u64 0] 25)) _ _ _ Rb_13
    have Rn_14 := heap_of (bal w13 (Obj.cells #[.int .u64 0, .int .u64 0] 25)) _ _ _ Rn_13
    have Rv_14 := heap_of (bal w13 (Obj.cells #[.int .u64 0, .int .u64 0] 25)) _ _ _ Rv_13
    have Rw_14 := heap_of (bal w13 (Obj.cells #[.int .u64 0, .int .u64 0] 25)) _ _ _ Rw_13
    have Rs_14 := heap_of (bal w13 (Obj.cells #[.int .u64 0, .int .u64 0] 25)) _ _ _ Rs_13
    have Rm_14 := heap_of (bal w13 (Obj.cells #[.int .u64 0, .int .u64 0] 25)) _ _ _ Rm_13
    clear B13 Rb_13 cb_13_0 cb_13_1 Rn_13 cn_13_0 cn_13_1 Rv_13 cv_13_0 cv_13_1 cv_13_2 cv_13_3 Rw_13 cw_13_0 cw_13_1 cw_13_2 cw_13_3 Rs_13 cs_13_0 cs_13_1 cs_13_2 cs_13_3 Rm_13 cm_13_0 cm_13_1 cm_13_2 cm_13_3
    obtain ⟨cb_14_0, cb_14_1⟩ := cells2s Rb_14
    obtain ⟨cn_14_0, cn_14_1⟩ := cells2s Rn_14
    obtain ⟨cv_14_0, cv_14_1, cv_14_2, cv_14_3⟩ := cells4s Rv_14
    obtain ⟨cw_14_0, cw_14_1, cw_14_2, cw_14_3⟩ := cells4s Rw_14
    obtain ⟨cs_14_0, cs_14_1, cs_14_2, cs_14_3⟩ := cells4s Rs_14
    obtain ⟨cm_14_0, cm_14_1, cm_14_2, cm_14_3⟩ := cells4s Rm_14
    obtain ⟨co_14_0, co_14_1⟩ := cells2s Ro_14
    go_wp2_with fail
    refine (KA.out _ (fatB FF.out B14)).mono ?_
    rintro r w15 ⟨rfl, b15⟩
    have B15 : Below w.heap.size w w15 := btr B14 b15
    have Rb_15 := heap_of b15 _ _ _ Rb_14
    have Rn_15 := heap_of b15 _ _ _ Rn_14
    have Rv_15 := heap_of b15 _ _ _ Rv_14
    have Rw_15 := heap_of b15 _ _ _ Rw_14
    have Rs_15 := heap_of b15 _ _ _ Rs_14
    have Rm_15 := heap_of b15 _ _ _ Rm_14
    have Ro_15 := heap_of b15 _ _ _ Ro_14
    clear b15 B14 Rb_14 cb_14_0 cb_14_1 Rn_14 cn_14_0 cn_14_1 Rv_14 cv_14_0 cv_14_1 cv_14_2 cv_14_3 Rw_14 cw_14_0 cw_14_1 cw_14_2 cw_14_3 Rs_14 cs_14_0 cs_14_1 cs_14_2 cs_14_3 Rm_14 cm_14_0 cm_14_1 cm_14_2 cm_14_3 Ro_14 co_14_0 co_14_1
    obtain ⟨cb_15_0, cb_15_1⟩ := cells2s Rb_15
    obtain ⟨cn_15_0, cn_15_1⟩ := cells2s Rn_15
    obtain ⟨cv_15_0, cv_15_1, cv_15_2, cv_15_3⟩ := cells4s Rv_15
    obtain ⟨cw_15_0, cw_15_1, cw_15_2, cw_15_3⟩ := cells4s Rw_15
    obtain ⟨cs_15_0, cs_15_1, cs_15_2, cs_15_3⟩ := cells4s Rs_15
    obtain ⟨cm_15_0, cm_15_1, cm_15_2, cm_15_3⟩ := cells4s Rm_15
    obtain ⟨co_15_0, co_15_1⟩ := cells2s Ro_15
    go_wp2
    go_ret
    exact ⟨rfl, B15⟩
end Go.Proofs.YtkmlbjlaahcahaaGreatDoor
namespace Go.Proofs.YtkmlbjlaahcahaaGreatDoor
set_option maxRecDepth 100000
open WMath
open Go.ChangeShapes Go.WideShapes Go.ChangeAt Go.RowKit

theorem trod_row4 {H : Type} {enc : TypeId × Value → H} {P : Program} {w : World} {base : Nat} {spare : Nat → Bool} {held : Bool} {t : TypeId} {f0 f1 f2 f3 : Field} {fuel : Nat} {cs : List Value} {x : DataW H × List MemPlace} (ht : P.underlying t = some (.struct #[f0, f1, f2, f3])) (h : DataW.trod enc P w base spare held fuel t cs = some x) :
    ∃ y0 y1 y2 y3 n, x = (.agg [y0.1, y1.1, y2.1, y3.1], y0.2 ++ (y1.2 ++ (y2.2 ++ y3.2))) ∧ DataW.trod enc P w base spare held n f0.type ((cs.drop f0.offset).take (P.cellsOf f0.type)) = some y0 ∧
      DataW.trod enc P w base spare held n f1.type ((cs.drop f1.offset).take (P.cellsOf f1.type)) = some y1 ∧ DataW.trod enc P w base spare held n f2.type ((cs.drop f2.offset).take (P.cellsOf f2.type)) = some y2 ∧
      DataW.trod enc P w base spare held n f3.type ((cs.drop f3.offset).take (P.cellsOf f3.type)) = some y3 := by
  obtain ⟨xs, n, _, rfl, hl, hlen, hf⟩ := DataW.trod_struct ht h
  match xs, hlen with
  | [y0, y1, y2, y3], _ => exact ⟨y0, y1, y2, y3, n, by simp, by simpa using hf 0 f0 rfl, by simpa using hf 1 f1 rfl, by simpa using hf 2 f2 rfl, by simpa using hf 3 f3 rfl⟩


theorem list4' {α : Type} (l : List α) (h : l.length = 4) : ∃ a b c d, l = [a, b, c, d] := by
  match l, h with
  | [a, b, c, d], _ => exact ⟨a, b, c, d, rfl⟩

theorem row_read {w : World} {fuel : Nat} {enc : TypeId × Value → Unit} {base : Nat} {spare : Nat → Bool} {held : Bool} {l : List Value} {a b c : Int} {s : List UInt8} {p : List MemPlace}
    (h : DataW.trod enc Tryz.prog w base spare held fuel 147 l = some (.agg [.lit (.int .i64 a), .lit (.int .i64 b), .lit (.int .i64 c), .lit (.string s)], p)) (hl : l.length = 4) :
    l = [.int .i64 a, .int .i64 b, .int .i64 c, .string ⟨⟨s⟩⟩] := by
  have h3 : Tryz.prog.cellsOf 3 = 1 := by kernel_rfl
  have h9 : Tryz.prog.cellsOf 9 = 1 := by kernel_rfl
  obtain ⟨c0, c1, c2, c3, rfl⟩ := list4' l hl
  obtain ⟨y0, y1, y2, y3, n, hx, g0, g1, g2, g3⟩ := trod_row4 Tryz.underlying147 h
  simp only [h3, h9] at g0 g1 g2 g3
  obtain ⟨x0, e0, k0, w0⟩ := DataW.trod_int Tryz.underlying3 g0
  obtain ⟨x1, e1, k1, w1⟩ := DataW.trod_int Tryz.underlying3 g1
  obtain ⟨x2, e2, k2, w2⟩ := DataW.trod_int Tryz.underlying3 g2
  obtain ⟨x3, e3, k3, w3⟩ := DataW.trod_string Tryz.underlying9 g3
  simp at e0 e1 e2 e3
  subst e0 e1 e2 e3
  rw [k0, k1, k2, k3] at hx
  simp at hx
  obtain ⟨⟨rfl, rfl, rfl, rfl⟩, _⟩ := hx
  rfl

def laid7 : List (String × DataW Unit) := [("abacus/shape.formats", Rows.laid_abacus_shape_formats)]
theorem gTab7 : Tryz.prog.globalNamed "abacus/shape.formats" = some 0 := by kernel_rfl
theorem gType7 : (Tryz.prog.globals[0]?).map (·.type) = some 219 := by kernel_rfl

theorem of_laid7 {W : World} (h : laidMetH Tryz.prog laid7 W) : FAt W := by
  have hce : Tryz.prog.cellsOf 147 = 4 := by kernel_rfl
  have hct : Tryz.prog.cellsOf 219 = 16 := by kernel_rfl
  rw [MakeChecks.laidMetH_plain _ _ _ (by kernel_rfl)] at h
  obtain ⟨ps, ⟨g', t', cs, fuel, p, q, hg', ht', hvar, hd, _, _⟩, _⟩ := h
  obtain rfl := Option.some.inj (gTab7.symm.trans hg')
  obtain rfl := Option.some.inj (gType7.symm.trans ht')
  obtain ⟨xs, m, rfl, hx, hl, hxl, hel⟩ := DataW.trod_array Tryz.underlying219 hd
  rw [hce] at hel
  rw [hct] at hl
  have hl2 : cs.size = 16 := by simpa using hl
  match xs, hxl with
  | [y0, y1, y2, y3], _ =>
    have hx1 := congrArg Prod.fst hx
    simp [Rows.laid_abacus_shape_formats] at hx1
    obtain ⟨h0, h1, h2, h3⟩ := hx1
    have q0 := hel 0 (by decide)
    have q1 := hel 1 (by decide)
    have q2 := hel 2 (by decide)
    have q3 := hel 3 (by decide)
    simp only [List.getElem?_cons_zero, List.getElem?_cons_succ] at q0 q1 q2 q3
    have z0 := row_read (p := y0.2) (by rw [q0, h0]) (by simp; omega)
    have z1 := row_read (p := y1.2) (by rw [q1, h1]) (by simp; omega)
    have z2 := row_read (p := y2.2) (by rw [q2, h2]) (by simp; omega)
    have z3 := row_read (p := y3.2) (by rw [q3, h3]) (by simp; omega)
    have hcs : ∀ i, i < 16 → cs.toList[i]? = fcells[i]? := by
      intro i hi
      have e0 : cs.toList[i]? = (cs.toList.drop (i / 4 * 4))[i % 4]? := by rw [List.getElem?_drop]; congr 1; omega
      have e1 : (cs.toList.drop (i / 4 * 4))[i % 4]? = ((cs.toList.drop (i / 4 * 4)).take 4)[i % 4]? := by rw [List.getElem?_take, if_pos (by omega)]
      rw [e0, e1]
      have : i / 4 = 0 ∨ i / 4 = 1 ∨ i / 4 = 2 ∨ i / 4 = 3 := by omega
      have hj : i % 4 = 0 ∨ i % 4 = 1 ∨ i % 4 = 2 ∨ i % 4 = 3 := by omega
      have hi2 : i = i / 4 * 4 + i % 4 := by omega
      rcases this with e | e | e | e <;> rw [e] at hi2 ⊢ <;> rcases hj with k | k | k | k <;> rw [k] at hi2 ⊢ <;> subst hi2 <;> first | (rw [z0]; rfl) | (rw [z1]; rfl) | (rw [z2]; rfl) | (rw [z3]; rfl)
    intro i hi
    rw [World.var?_cell gTab7 hvar i, ← hcs i hi]
    simp

end Go.Proofs.YtkmlbjlaahcahaaGreatDoor
namespace Go.Proofs.YtkmlbjlaahcahaaGreatDoor
set_option maxRecDepth 100000
open WMath
open Go.ChangeShapes Go.WideShapes Go.ChangeAt Go.RowKit

def tabZ8 : List Int := [0, 1, 56, 2, 57, 49, 28, 3, 61, 58, 42, 50, 38, 29, 17, 4, 62, 47, 59, 36, 45, 43, 51, 22, 53, 39, 33, 30, 24, 18, 12, 5, 63, 55, 48, 27, 60, 41, 37, 16, 46, 35, 44, 21, 52, 32, 23, 11, 54, 26, 40, 15, 34, 20, 31, 10, 25, 14, 19, 9, 13, 8, 7, 6]
def laid8 : List (String × DataW Unit) := [("math/bits.deBruijn64tab", Rows.laid_math_bits_deBruijn64tab), ("abacus/shape.formats", Rows.laid_abacus_shape_formats)]
theorem gTab8 : Tryz.prog.globalNamed "math/bits.deBruijn64tab" = some 4 := by kernel_rfl
theorem gType8 : (Tryz.prog.globals[4]?).map (·.type) = some 277 := by kernel_rfl
theorem cells58 : Tryz.prog.cellsOf 5 = 1 := by kernel_rfl
theorem cellsT8 : Tryz.prog.cellsOf 277 = 64 := by kernel_rfl
theorem tab_at8 : ∀ i : Fin 64, tabZ8.getD i.val 0 = ((Lib.deBruijn64tab.getD i.val 0 : Nat) : Int) := by decide +kernel

theorem of_laid8 {W : World} (h : laidMetH Tryz.prog laid8 W) : TabAt W ∧ FAt W := by
  rw [MakeChecks.laidMetH_plain _ _ _ (by kernel_rfl)] at h
  have ht := laidMet.tail h
  constructor
  · have h' : laidMet Tryz.prog (("math/bits.deBruijn64tab", Lib.tabData .u8 tabZ8) :: [("abacus/shape.formats", Rows.laid_abacus_shape_formats)]) W := h
    have hT := Lib.tabIs_of_head gTab8 gType8 Tryz.underlying277 Tryz.underlying5 cells58 cellsT8 h'
    intro i hi
    have hc := hT.cell gTab8 i (show i < tabZ8.length from hi)
    rw [tab_at8 ⟨i, hi⟩] at hc
    exact hc
  · refine of_laid7 ?_
    rw [MakeChecks.laidMetH_plain _ _ _ (by kernel_rfl)]
    exact ht

theorem door_met8 (os : Os) (args : Array Value) : laidMetH Tryz.prog laid8 ((World.doorLaid Tryz.prog 400 os).forCall (fun _ _ => 0) ⟨#[], args, []⟩).memory :=
  laidMetH_of_parts3 (fuel := 8) (laidMet_of_run' 8 (by kernel_rfl) (by kernel_rfl)) (by kernel_rfl) (by kernel_rfl)
end Go.Proofs.YtkmlbjlaahcahaaGreatDoor
