/-
  What the functions that the statement reaches return: part 21 (R17).
-/
import Derived.Test.YtbmhfcppaajgbaaGreatDoorRe20
namespace Go.Proofs.YtbmhfcppaajgbaaGreatDoor
set_option maxRecDepth 100000
open Go.RowKit WMath XMath
set_option linter.unusedSimpArgs false
set_option linter.unusedVariables false

set_option maxRecDepth 100000 in
set_option maxHeartbeats 4000000 in
theorem r9valued (f : Int) (x y : Nat) (rb : Bool) (u v : ByteArray) (re er : Int) (o : Bool) (w : World)
    (KV : Box (∀ w, FAt w → TabAt w → Calls Tryz.prog 83 #[.int .u8 f, .agg #[.int .u64 (x : Nat), .int .u64 (y : Nat)]] w fun r w' => r = .returned (.tuple #[.agg #[.bool rb, .string u, .string v, .int .i64 re], .int .i64 er]) ∧ Below w.heap.size w w'))
    (ho : (er == 0) = o) (hT : FAt w) (hT2 : TabAt w) : Calls Tryz.prog 35 #[.int .u8 f, .agg #[.int .u64 (x : Nat), .int .u64 (y : Nat)]] w fun r w' => r = .returned (.tuple #[.agg #[.bool rb, .string u, .string v, .int .i64 re], .bool o]) ∧ Below w.heap.size w w' := by
  have FF := box hT
  have TT := box hT2
  clear hT hT2
  obtain ⟨Rb_0, Rz_0, B0⟩ := opn2 w (Obj.cells #[.int .u64 (x : Nat), .int .u64 (y : Nat)] 25) (Obj.cells #[.bool false, .string ⟨#[]⟩, .string ⟨#[]⟩, .int .i64 0] 41)
  go_enter Tryz.func35, Tryz.ntmps35
  go_wp2_with fail
  refine (KV.out _ (fatB FF.out B0) (tabB TT.out B0)).mono ?_
  rintro r w1 ⟨rfl, b1⟩
  have B1 : Below w.heap.size w w1 := btr B0 b1
  have Rb_1 := heap_of b1 _ _ _ Rb_0
  have Rz_1 := heap_of b1 _ _ _ Rz_0
  clear b1 B0 Rb_0 Rz_0
  obtain ⟨cb_1_0, cb_1_1⟩ := cells2s Rb_1
  obtain ⟨cz_1_0, cz_1_1, cz_1_2, cz_1_3⟩ := cells4s Rz_1
  have S2 := box B1.size
  have Lb_2 : Box (w.heap.size < w1.heap.size) := box (Array.getElem?_eq_some_iff.1 Rb_1).1
  have Lz_2 : Box (w.heap.size + 1 < w1.heap.size) := box (Array.getElem?_eq_some_iff.1 Rz_1).1
  have Rx_2 := heap_alloc_last w1 (Obj.cells #[.bool rb, .string u, .string v, .int .i64 re] 41)
  have B2 := btr B1 (bal w1 (Obj.cells #[.bool rb, .string u, .string v, .int .i64 re] 41))
  have Rb_2 := heap_of (bal w1 (Obj.cells #[.bool rb, .string u, .string v, .int .i64 re] 41)) _ _ _ Rb_1
  have Rz_2 := heap_of (bal w1 (Obj.cells #[.bool rb, .string u, .string v, .int .i64 re] 41)) _ _ _ Rz_1
  clear B1 Rb_1 cb_1_0 cb_1_1 Rz_1 cz_1_0 cz_1_1 cz_1_2 cz_1_3
  obtain ⟨cb_2_0, cb_2_1⟩ := cells2s Rb_2
  obtain ⟨cz_2_0, cz_2_1, cz_2_2, cz_2_3⟩ := cells4s Rz_2
  obtain ⟨cx_2_0, cx_2_1, cx_2_2, cx_2_3⟩ := cells4s Rx_2
  have q0 := fz (k := 0) Rz_2
  have q1 := fz (k := 1) Rz_2
  have q2 := fz (k := 2) Rz_2
  have q3 := fz (k := 3) Rz_2
  obtain ⟨E0, E1, E2, E3⟩ := set4_cells Rz_2 rfl (.bool rb) (.string u) (.string v) (.int .i64 re)
  go_wp2
  exact bodyPost_ret (v := .tuple #[.agg #[.bool rb, .string u, .string v, .int .i64 re], .bool o]) (by simp [results, Tryz.results35, go_sem, E0, E1, E2, E3]) rfl ⟨rfl, set4_below B2 (by first | exact Nat.le_refl _ | omega | (have := S2.out; have := Lb_2.out; have := Lz_2.out; omega)) _ _ _ _⟩
set_option maxRecDepth 100000 in
set_option maxHeartbeats 4000000 in
theorem ex_n1 (f m : Int) (x y : Nat) (b : Bool) (s t : ByteArray) (e : Int) (rb : Bool) (u v : ByteArray) (re : Int) (sb : Bool) (ss st : ByteArray) (se : Int) (i j : Nat) (fl : Int) (w : World)
    (KO : Box (∀ w, Calls Tryz.prog 31 #[.int .u8 m] w fun r w' => r = .returned (.bool false) ∧ Below w.heap.size w w'))
    (KA : Box (∀ w, FAt w → TabAt w → Calls Tryz.prog 21 #[] w fun r w' => r = .returned (.bool true) ∧ Below w.heap.size w w'))
    (hT : FAt w) (hT2 : TabAt w) : Calls Tryz.prog 10 #[.int .u8 f, .int .u8 m, .agg #[.int .u64 (x : Nat), .int .u64 (y : Nat)], .agg #[.bool b, .string s, .string t, .int .i64 e]] w fun r w' => r = .returned (.bool true) ∧ Below w.heap.size w w' := by
  have FF := box hT
  have TT := box hT2
  clear hT hT2
  obtain ⟨Rb_0, Rx_0, B0⟩ := opn2 w (Obj.cells #[.int .u64 (x : Nat), .int .u64 (y : Nat)] 25) (Obj.cells #[.bool b, .string s, .string t, .int .i64 e] 41)
  go_enter Tryz.func10, Tryz.ntmps10
  go_wp2_with fail
  refine (KO.out _).mono ?_
  rintro r w1 ⟨rfl, b1⟩
  have B1 : Below w.heap.size w w1 := btr B0 b1
  have Rb_1 := heap_of b1 _ _ _ Rb_0
  have Rx_1 := heap_of b1 _ _ _ Rx_0
  clear b1 B0 Rb_0 Rx_0
  obtain ⟨cb_1_0, cb_1_1⟩ := cells2s Rb_1
  obtain ⟨cx_1_0, cx_1_1, cx_1_2, cx_1_3⟩ := cells4s Rx_1
  go_wp2_with fail
  refine (KA.out _ (fatB FF.out B1) (tabB TT.out B1)).mono ?_
  rintro r w2 ⟨rfl, b2⟩
  have B2 : Below w.heap.size w w2 := btr B1 b2
  have Rb_2 := heap_of b2 _ _ _ Rb_1
  have Rx_2 := heap_of b2 _ _ _ Rx_1
  clear b2 B1 Rb_1 cb_1_0 cb_1_1 Rx_1 cx_1_0 cx_1_1 cx_1_2 cx_1_3
  obtain ⟨cb_2_0, cb_2_1⟩ := cells2s Rb_2
  obtain ⟨cx_2_0, cx_2_1, cx_2_2, cx_2_3⟩ := cells4s Rx_2
  go_wp2
  go_ret
  exact ⟨rfl, B2⟩
set_option maxRecDepth 100000 in
set_option maxHeartbeats 4000000 in
theorem ex_n2 (f m : Int) (x y : Nat) (b : Bool) (s t : ByteArray) (e : Int) (rb : Bool) (u v : ByteArray) (re : Int) (sb : Bool) (ss st : ByteArray) (se : Int) (i j : Nat) (fl : Int) (w : World)
    (KO : Box (∀ w, Calls Tryz.prog 31 #[.int .u8 m] w fun r w' => r = .returned (.bool true) ∧ Below w.heap.size w w'))
    (KF : Box (∀ w, FAt w → Calls Tryz.prog 41 #[.int .u8 f, .agg #[.int .u64 (x : Nat), .int .u64 (y : Nat)]] w fun r w' => r = .returned (.bool false) ∧ Below w.heap.size w w'))
    (KA : Box (∀ w, FAt w → TabAt w → Calls Tryz.prog 21 #[] w fun r w' => r = .returned (.bool true) ∧ Below w.heap.size w w'))
    (hT : FAt w) (hT2 : TabAt w) : Calls Tryz.prog 10 #[.int .u8 f, .int .u8 m, .agg #[.int .u64 (x : Nat), .int .u64 (y : Nat)], .agg #[.bool b, .string s, .string t, .int .i64 e]] w fun r w' => r = .returned (.bool true) ∧ Below w.heap.size w w' := by
  have FF := box hT
  have TT := box hT2
  clear hT hT2
  obtain ⟨Rb_0, Rx_0, B0⟩ := opn2 w (Obj.cells #[.int .u64 (x : Nat), .int .u64 (y : Nat)] 25) (Obj.cells #[.bool b, .string s, .string t, .int .i64 e] 41)
  go_enter Tryz.func10, Tryz.ntmps10
  go_wp2_with fail
  refine (KO.out _).mono ?_
  rintro r w1 ⟨rfl, b1⟩
  have B1 : Below w.heap.size w w1 := btr B0 b1
  have Rb_1 := heap_of b1 _ _ _ Rb_0
  have Rx_1 := heap_of b1 _ _ _ Rx_0
  clear b1 B0 Rb_0 Rx_0
  obtain ⟨cb_1_0, cb_1_1⟩ := cells2s Rb_1
  obtain ⟨cx_1_0, cx_1_1, cx_1_2, cx_1_3⟩ := cells4s Rx_1
  go_wp2_with fail
  refine (KF.out _ (fatB FF.out B1)).mono ?_
  rintro r w2 ⟨rfl, b2⟩
  have B2 : Below w.heap.size w w2 := btr B1 b2
  have Rb_2 := heap_of b2 _ _ _ Rb_1
  have Rx_2 := heap_of b2 _ _ _ Rx_1
  clear b2 B1 Rb_1 cb_1_0 cb_1_1 Rx_1 cx_1_0 cx_1_1 cx_1_2 cx_1_3
  obtain ⟨cb_2_0, cb_2_1⟩ := cells2s Rb_2
  obtain ⟨cx_2_0, cx_2_1, cx_2_2, cx_2_3⟩ := cells4s Rx_2
  go_wp2_with fail
  refine (KA.out _ (fatB FF.out B2) (tabB TT.out B2)).mono ?_
  rintro r w3 ⟨rfl, b3⟩
  have B3 : Below w.heap.size w w3 := btr B2 b3
  have Rb_3 := heap_of b3 _ _ _ Rb_2
  have Rx_3 := heap_of b3 _ _ _ Rx_2
  clear b3 B2 Rb_2 cb_2_0 cb_2_1 Rx_2 cx_2_0 cx_2_1 cx_2_2 cx_2_3
  obtain ⟨cb_3_0, cb_3_1⟩ := cells2s Rb_3
  obtain ⟨cx_3_0, cx_3_1, cx_3_2, cx_3_3⟩ := cells4s Rx_3
  go_wp2
  go_ret
  exact ⟨rfl, B3⟩
set_option maxRecDepth 100000 in
set_option maxHeartbeats 4000000 in
theorem ex_Aa (f m : Int) (x y : Nat) (b : Bool) (s t : ByteArray) (e : Int) (rb : Bool) (u v : ByteArray) (re : Int) (sb : Bool) (ss st : ByteArray) (se : Int) (i j : Nat) (fl : Int) (w : World)
    (KO : Box (∀ w, Calls Tryz.prog 31 #[.int .u8 m] w fun r w' => r = .returned (.bool true) ∧ Below w.heap.size w w'))
    (KF : Box (∀ w, FAt w → Calls Tryz.prog 41 #[.int .u8 f, .agg #[.int .u64 (x : Nat), .int .u64 (y : Nat)]] w fun r w' => r = .returned (.bool true) ∧ Below w.heap.size w w'))
    (KV : Box (∀ w, FAt w → TabAt w → Calls Tryz.prog 35 #[.int .u8 f, .agg #[.int .u64 (x : Nat), .int .u64 (y : Nat)]] w fun r w' => r = .returned (.tuple #[.agg #[.bool rb, .string u, .string v, .int .i64 re], .bool false]) ∧ Below w.heap.size w w'))
    (h1 : decide ((25 : Int) < (s.size : Int)) = true)
    (KA : Box (∀ w, FAt w → TabAt w → Calls Tryz.prog 21 #[] w fun r w' => r = .returned (.bool true) ∧ Below w.heap.size w w'))
    (hT : FAt w) (hT2 : TabAt w) : Calls Tryz.prog 10 #[.int .u8 f, .int .u8 m, .agg #[.int .u64 (x : Nat), .int .u64 (y : Nat)], .agg #[.bool b, .string s, .string t, .int .i64 e]] w fun r w' => r = .returned (.bool true) ∧ Below w.heap.size w w' := by
  have FF := box hT
  have TT := box hT2
  clear hT hT2
  obtain ⟨Rb_0, Rx_0, B0⟩ := opn2 w (Obj.cells #[.int .u64 (x : Nat), .int .u64 (y : Nat)] 25) (Obj.cells #[.bool b, .string s, .string t, .int .i64 e] 41)
  go_enter Tryz.func10, Tryz.ntmps10
  go_wp2_with fail
  refine (KO.out _).mono ?_
  rintro r w1 ⟨rfl, b1⟩
  have B1 : Below w.heap.size w w1 := btr B0 b1
  have Rb_1 := heap_of b1 _ _ _ Rb_0
  have Rx_1 := heap_of b1 _ _ _ Rx_0
  clear b1 B0 Rb_0 Rx_0
  obtain ⟨cb_1_0, cb_1_1⟩ := cells2s Rb_1
  obtain ⟨cx_1_0, cx_1_1, cx_1_2, cx_1_3⟩ := cells4s Rx_1
  go_wp2_with fail
  refine (KF.out _ (fatB FF.out B1)).mono ?_
  rintro r w2 ⟨rfl, b2⟩
  have B2 : Below w.heap.size w w2 := btr B1 b2
  have Rb_2 := heap_of b2 _ _ _ Rb_1
  have Rx_2 := heap_of b2 _ _ _ Rx_1
  clear b2 B1 Rb_1 cb_1_0 cb_1_1 Rx_1 cx_1_0 cx_1_1 cx_1_2 cx_1_3
  obtain ⟨cb_2_0, cb_2_1⟩ := cells2s Rb_2
  obtain ⟨cx_2_0, cx_2_1, cx_2_2, cx_2_3⟩ := cells4s Rx_2
  go_wp2_with fail
  refine (KV.out _ (fatB FF.out B2) (tabB TT.out B2)).mono ?_
  rintro r w3 ⟨rfl, b3⟩
  have B3 : Below w.heap.size w w3 := btr B2 b3
  have Rb_3 := heap_of b3 _ _ _ Rb_2
  have Rx_3 := heap_of b3 _ _ _ Rx_2
  clear b3 B2 Rb_2 cb_2_0 cb_2_1 Rx_2 cx_2_0 cx_2_1 cx_2_2 cx_2_3
  obtain ⟨cb_3_0, cb_3_1⟩ := cells2s Rb_3
  obtain ⟨cx_3_0, cx_3_1, cx_3_2, cx_3_3⟩ := cells4s Rx_3
  have S4 := box B3.size
  have Lb_4 : Box (w.heap.size < w3.heap.size) := box (Array.getElem?_eq_some_iff.1 Rb_3).1
  have Lx_4 : Box (w.heap.size + 1 < w3.heap.size) := box (Array.getElem?_eq_some_iff.1 Rx_3).1
  have Rv_4 := heap_alloc_last w3 (Obj.cells #[.bool rb, .string u, .string v, .int .i64 re] 41)
  have B4 := btr B3 (bal w3 (Obj.cells #[.bool rb, .string u, .string v, .int .i64 re] 41))
  have Rb_4 := heap_of (bal w3 (Obj.cells #[.bool rb, .string u, .string v, .int .i64 re] 41)) _ _ _ Rb_3
  have Rx_4 := heap_of (bal w3 (Obj.cells #[.bool rb, .string u, .string v, .int .i64 re] 41)) _ _ _ Rx_3
  clear B3 Rb_3 cb_3_0 cb_3_1 Rx_3 cx_3_0 cx_3_1 cx_3_2 cx_3_3
  obtain ⟨cb_4_0, cb_4_1⟩ := cells2s Rb_4
  obtain ⟨cx_4_0, cx_4_1, cx_4_2, cx_4_3⟩ := cells4s Rx_4
  obtain ⟨cv_4_0, cv_4_1, cv_4_2, cv_4_3⟩ := cells4s Rv_4
  go_wp2_with fail
  refine (KA.out _ (fatB FF.out B4) (tabB TT.out B4)).mono ?_
  rintro r w5 ⟨rfl, b5⟩
  have B5 : Below w.heap.size w w5 := btr B4 b5
  have Rb_5 := heap_of b5 _ _ _ Rb_4
  have Rx_5 := heap_of b5 _ _ _ Rx_4
  have Rv_5 := heap_of b5 _ _ _ Rv_4
  clear b5 B4 Rb_4 cb_4_0 cb_4_1 Rx_4 cx_4_0 cx_4_1 cx_4_2 cx_4_3 Rv_4 cv_4_0 cv_4_1 cv_4_2 cv_4_3
  obtain ⟨cb_5_0, cb_5_1⟩ := cells2s Rb_5
  obtain ⟨cx_5_0, cx_5_1, cx_5_2, cx_5_3⟩ := cells4s Rx_5
  obtain ⟨cv_5_0, cv_5_1, cv_5_2, cv_5_3⟩ := cells4s Rv_5
  go_wp2
  go_ret
  exact ⟨rfl, B5⟩
set_option maxRecDepth 100000 in
set_option maxHeartbeats 4000000 in
theorem ex_Ab (f m : Int) (x y : Nat) (b : Bool) (s t : ByteArray) (e : Int) (rb : Bool) (u v : ByteArray) (re : Int) (sb : Bool) (ss st : ByteArray) (se : Int) (i j : Nat) (fl : Int) (w : World)
    (KO : Box (∀ w, Calls Tryz.prog 31 #[.int .u8 m] w fun r w' => r = .returned (.bool true) ∧ Below w.heap.size w w'))
    (KF : Box (∀ w, FAt w → Calls Tryz.prog 41 #[.int .u8 f, .agg #[.int .u64 (x : Nat), .int .u64 (y : Nat)]] w fun r w' => r = .returned (.bool true) ∧ Below w.heap.size w w'))
    (KV : Box (∀ w, FAt w → TabAt w → Calls Tryz.prog 35 #[.int .u8 f, .agg #[.int .u64 (x : Nat), .int .u64 (y : Nat)]] w fun r w' => r = .returned (.tuple #[.agg #[.bool rb, .string u, .string v, .int .i64 re], .bool false]) ∧ Below w.heap.size w w'))
    (h1 : decide ((25 : Int) < (s.size : Int)) = false) (h2 : decide ((25 : Int) < (t.size : Int)) = true)
    (KA : Box (∀ w, FAt w → TabAt w → Calls Tryz.prog 21 #[] w fun r w' => r = .returned (.bool true) ∧ Below w.heap.size w w'))
    (hT : FAt w) (hT2 : TabAt w) : Calls Tryz.prog 10 #[.int .u8 f, .int .u8 m, .agg #[.int .u64 (x : Nat), .int .u64 (y : Nat)], .agg #[.bool b, .string s, .string t, .int .i64 e]] w fun r w' => r = .returned (.bool true) ∧ Below w.heap.size w w' := by
  have FF := box hT
  have TT := box hT2
  clear hT hT2
  obtain ⟨Rb_0, Rx_0, B0⟩ := opn2 w (Obj.cells #[.int .u64 (x : Nat), .int .u64 (y : Nat)] 25) (Obj.cells #[.bool b, .string s, .string t, .int .i64 e] 41)
  go_enter Tryz.func10, Tryz.ntmps10
  go_wp2_with fail
  refine (KO.out _).mono ?_
  rintro r w1 ⟨rfl, b1⟩
  have B1 : Below w.heap.size w w1 := btr B0 b1
  have Rb_1 := heap_of b1 _ _ _ Rb_0
  have Rx_1 := heap_of b1 _ _ _ Rx_0
  clear b1 B0 Rb_0 Rx_0
  obtain ⟨cb_1_0, cb_1_1⟩ := cells2s Rb_1
  obtain ⟨cx_1_0, cx_1_1, cx_1_2, cx_1_3⟩ := cells4s Rx_1
  go_wp2_with fail
  refine (KF.out _ (fatB FF.out B1)).mono ?_
  rintro r w2 ⟨rfl, b2⟩
  have B2 : Below w.heap.size w w2 := btr B1 b2
  have Rb_2 := heap_of b2 _ _ _ Rb_1
  have Rx_2 := heap_of b2 _ _ _ Rx_1
  clear b2 B1 Rb_1 cb_1_0 cb_1_1 Rx_1 cx_1_0 cx_1_1 cx_1_2 cx_1_3
  obtain ⟨cb_2_0, cb_2_1⟩ := cells2s Rb_2
  obtain ⟨cx_2_0, cx_2_1, cx_2_2, cx_2_3⟩ := cells4s Rx_2
  go_wp2_with fail
  refine (KV.out _ (fatB FF.out B2) (tabB TT.out B2)).mono ?_
  rintro r w3 ⟨rfl, b3⟩
  have B3 : Below w.heap.size w w3 := btr B2 b3
  have Rb_3 := heap_of b3 _ _ _ Rb_2
  have Rx_3 := heap_of b3 _ _ _ Rx_2
  clear b3 B2 Rb_2 cb_2_0 cb_2_1 Rx_2 cx_2_0 cx_2_1 cx_2_2 cx_2_3
  obtain ⟨cb_3_0, cb_3_1⟩ := cells2s Rb_3
  obtain ⟨cx_3_0, cx_3_1, cx_3_2, cx_3_3⟩ := cells4s Rx_3
  have S4 := box B3.size
  have Lb_4 : Box (w.heap.size < w3.heap.size) := box (Array.getElem?_eq_some_iff.1 Rb_3).1
  have Lx_4 : Box (w.heap.size + 1 < w3.heap.size) := box (Array.getElem?_eq_some_iff.1 Rx_3).1
  have Rv_4 := heap_alloc_last w3 (Obj.cells #[.bool rb, .string u, .string v, .int .i64 re] 41)
  have B4 := btr B3 (bal w3 (Obj.cells #[.bool rb, .string u, .string v, .int .i64 re] 41))
  have Rb_4 := heap_of (bal w3 (Obj.cells #[.bool rb, .string u, .string v, .int .i64 re] 41)) _ _ _ Rb_3
  have Rx_4 := heap_of (bal w3 (Obj.cells #[.bool rb, .string u, .string v, .int .i64 re] 41)) _ _ _ Rx_3
  clear B3 Rb_3 cb_3_0 cb_3_1 Rx_3 cx_3_0 cx_3_1 cx_3_2 cx_3_3
  obtain ⟨cb_4_0, cb_4_1⟩ := cells2s Rb_4
  obtain ⟨cx_4_0, cx_4_1, cx_4_2, cx_4_3⟩ := cells4s Rx_4
  obtain ⟨cv_4_0, cv_4_1, cv_4_2, cv_4_3⟩ := cells4s Rv_4
  go_wp2_with fail
  refine (KA.out _ (fatB FF.out B4) (tabB TT.out B4)).mono ?_
  rintro r w5 ⟨rfl, b5⟩
  have B5 : Below w.heap.size w w5 := btr B4 b5
  have Rb_5 := heap_of b5 _ _ _ Rb_4
  have Rx_5 := heap_of b5 _ _ _ Rx_4
  have Rv_5 := heap_of b5 _ _ _ Rv_4
  clear b5 B4 Rb_4 cb_4_0 cb_4_1 Rx_4 cx_4_0 cx_4_1 cx_4_2 cx_4_3 Rv_4 cv_4_0 cv_4_1 cv_4_2 cv_4_3
  obtain ⟨cb_5_0, cb_5_1⟩ := cells2s Rb_5
  obtain ⟨cx_5_0, cx_5_1, cx_5_2, cx_5_3⟩ := cells4s Rx_5
  obtain ⟨cv_5_0, cv_5_1, cv_5_2, cv_5_3⟩ := cells4s Rv_5
  go_wp2
  go_ret
  exact ⟨rfl, B5⟩
set_option maxRecDepth 100000 in
set_option maxHeartbeats 4000000 in
theorem ex_Ac (f m : Int) (x y : Nat) (b : Bool) (s t : ByteArray) (e : Int) (rb : Bool) (u v : ByteArray) (re : Int) (sb : Bool) (ss st : ByteArray) (se : Int) (i j : Nat) (fl : Int) (w : World)
    (KO : Box (∀ w, Calls Tryz.prog 31 #[.int .u8 m] w fun r w' => r = .returned (.bool true) ∧ Below w.heap.size w w'))
    (KF : Box (∀ w, FAt w → Calls Tryz.prog 41 #[.int .u8 f, .agg #[.int .u64 (x : Nat), .int .u64 (y : Nat)]] w fun r w' => r = .returned (.bool true) ∧ Below w.heap.size w w'))
    (KV : Box (∀ w, FAt w → TabAt w → Calls Tryz.prog 35 #[.int .u8 f, .agg #[.int .u64 (x : Nat), .int .u64 (y : Nat)]] w fun r w' => r = .returned (.tuple #[.agg #[.bool rb, .string u, .string v, .int .i64 re], .bool false]) ∧ Below w.heap.size w w'))
    (h1 : decide ((25 : Int) < (s.size : Int)) = false) (h2 : decide ((25 : Int) < (t.size : Int)) = false)
    (KM : Box (∀ w, Calls Tryz.prog 29 #[.agg #[.bool b, .string s, .string t, .int .i64 e]] w fun r w' => r = .returned (.bool false) ∧ Below w.heap.size w w'))
    (KA : Box (∀ w, FAt w → TabAt w → Calls Tryz.prog 21 #[] w fun r w' => r = .returned (.bool true) ∧ Below w.heap.size w w'))
    (hT : FAt w) (hT2 : TabAt w) : Calls Tryz.prog 10 #[.int .u8 f, .int .u8 m, .agg #[.int .u64 (x : Nat), .int .u64 (y : Nat)], .agg #[.bool b, .string s, .string t, .int .i64 e]] w fun r w' => r = .returned (.bool true) ∧ Below w.heap.size w w' := by
  have FF := box hT
  have TT := box hT2
  clear hT hT2
  obtain ⟨Rb_0, Rx_0, B0⟩ := opn2 w (Obj.cells #[.int .u64 (x : Nat), .int .u64 (y : Nat)] 25) (Obj.cells #[.bool b, .string s, .string t, .int .i64 e] 41)
  go_enter Tryz.func10, Tryz.ntmps10
  go_wp2_with fail
  refine (KO.out _).mono ?_
  rintro r w1 ⟨rfl, b1⟩
  have B1 : Below w.heap.size w w1 := btr B0 b1
  have Rb_1 := heap_of b1 _ _ _ Rb_0
  have Rx_1 := heap_of b1 _ _ _ Rx_0
  clear b1 B0 Rb_0 Rx_0
  obtain ⟨cb_1_0, cb_1_1⟩ := cells2s Rb_1
  obtain ⟨cx_1_0, cx_1_1, cx_1_2, cx_1_3⟩ := cells4s Rx_1
  go_wp2_with fail
  refine (KF.out _ (fatB FF.out B1)).mono ?_
  rintro r w2 ⟨rfl, b2⟩
  have B2 : Below w.heap.size w w2 := btr B1 b2
  have Rb_2 := heap_of b2 _ _ _ Rb_1
  have Rx_2 := heap_of b2 _ _ _ Rx_1
  clear b2 B1 Rb_1 cb_1_0 cb_1_1 Rx_1 cx_1_0 cx_1_1 cx_1_2 cx_1_3
  obtain ⟨cb_2_0, cb_2_1⟩ := cells2s Rb_2
  obtain ⟨cx_2_0, cx_2_1, cx_2_2, cx_2_3⟩ := cells4s Rx_2
  go_wp2_with fail
  refine (KV.out _ (fatB FF.out B2) (tabB TT.out B2)).mono ?_
  rintro r w3 ⟨rfl, b3⟩
  have B3 : Below w.heap.size w w3 := btr B2 b3
  have Rb_3 := heap_of b3 _ _ _ Rb_2
  have Rx_3 := heap_of b3 _ _ _ Rx_2
  clear b3 B2 Rb_2 cb_2_0 cb_2_1 Rx_2 cx_2_0 cx_2_1 cx_2_2 cx_2_3
  obtain ⟨cb_3_0, cb_3_1⟩ := cells2s Rb_3
  obtain ⟨cx_3_0, cx_3_1, cx_3_2, cx_3_3⟩ := cells4s Rx_3
  have S4 := box B3.size
  have Lb_4 : Box (w.heap.size < w3.heap.size) := box (Array.getElem?_eq_some_iff.1 Rb_3).1
  have Lx_4 : Box (w.heap.size + 1 < w3.heap.size) := box (Array.getElem?_eq_some_iff.1 Rx_3).1
  have Rv_4 := heap_alloc_last w3 (Obj.cells #[.bool rb, .string u, .string v, .int .i64 re] 41)
  have B4 := btr B3 (bal w3 (Obj.cells #[.bool rb, .string u, .string v, .int .i64 re] 41))
  have Rb_4 := heap_of (bal w3 (Obj.cells #[.bool rb, .string u, .string v, .int .i64 re] 41)) _ _ _ Rb_3
  have Rx_4 := heap_of (bal w3 (Obj.cells #[.bool rb, .string u, .string v, .int .i64 re] 41)) _ _ _ Rx_3
  clear B3 Rb_3 cb_3_0 cb_3_1 Rx_3 cx_3_0 cx_3_1 cx_3_2 cx_3_3
  obtain ⟨cb_4_0, cb_4_1⟩ := cells2s Rb_4
  obtain ⟨cx_4_0, cx_4_1, cx_4_2, cx_4_3⟩ := cells4s Rx_4
  obtain ⟨cv_4_0, cv_4_1, cv_4_2, cv_4_3⟩ := cells4s Rv_4
  go_wp2_with fail
  refine (KM.out _).mono ?_
  rintro r w5 ⟨rfl, b5⟩
  have B5 : Below w.heap.size w w5 := btr B4 b5
  have Rb_5 := heap_of b5 _ _ _ Rb_4
  have Rx_5 := heap_of b5 _ _ _ Rx_4
  have Rv_5 := heap_of b5 _ _ _ Rv_4
  clear b5 B4 Rb_4 cb_4_0 cb_4_1 Rx_4 cx_4_0 cx_4_1 cx_4_2 cx_4_3 Rv_4 cv_4_0 cv_4_1 cv_4_2 cv_4_3
  obtain ⟨cb_5_0, cb_5_1⟩ := cells2s Rb_5
  obtain ⟨cx_5_0, cx_5_1, cx_5_2, cx_5_3⟩ := cells4s Rx_5
  obtain ⟨cv_5_0, cv_5_1, cv_5_2, cv_5_3⟩ := cells4s Rv_5
  go_wp2_with fail
  refine (KA.out _ (fatB FF.out B5) (tabB TT.out B5)).mono ?_
  rintro r w6 ⟨rfl, b6⟩
  have B6 : Below w.heap.size w w6 := btr B5 b6
  have Rb_6 := heap_of b6 _ _ _ Rb_5
  have Rx_6 := heap_of b6 _ _ _ Rx_5
  have Rv_6 := heap_of b6 _ _ _ Rv_5
  clear b6 B5 Rb_5 cb_5_0 cb_5_1 Rx_5 cx_5_0 cx_5_1 cx_5_2 cx_5_3 Rv_5 cv_5_0 cv_5_1 cv_5_2 cv_5_3
  obtain ⟨cb_6_0, cb_6_1⟩ := cells2s Rb_6
  obtain ⟨cx_6_0, cx_6_1, cx_6_2, cx_6_3⟩ := cells4s Rx_6
  obtain ⟨cv_6_0, cv_6_1, cv_6_2, cv_6_3⟩ := cells4s Rv_6
  go_wp2
  go_ret
  exact ⟨rfl, B6⟩
set_option maxRecDepth 100000 in
set_option maxHeartbeats 4000000 in
theorem ex_Ad (f m : Int) (x y : Nat) (b : Bool) (s t : ByteArray) (e : Int) (rb : Bool) (u v : ByteArray) (re : Int) (sb : Bool) (ss st : ByteArray) (se : Int) (i j : Nat) (fl : Int) (w : World)
    (KO : Box (∀ w, Calls Tryz.prog 31 #[.int .u8 m] w fun r w' => r = .returned (.bool true) ∧ Below w.heap.size w w'))
    (KF : Box (∀ w, FAt w → Calls Tryz.prog 41 #[.int .u8 f, .agg #[.int .u64 (x : Nat), .int .u64 (y : Nat)]] w fun r w' => r = .returned (.bool true) ∧ Below w.heap.size w w'))
    (KV : Box (∀ w, FAt w → TabAt w → Calls Tryz.prog 35 #[.int .u8 f, .agg #[.int .u64 (x : Nat), .int .u64 (y : Nat)]] w fun r w' => r = .returned (.tuple #[.agg #[.bool rb, .string u, .string v, .int .i64 re], .bool false]) ∧ Below w.heap.size w w'))
    (h1 : decide ((25 : Int) < (s.size : Int)) = false) (h2 : decide ((25 : Int) < (t.size : Int)) = false) (h3 : decide ((400000 : Int) < e) = true)
    (KM : Box (∀ w, Calls Tryz.prog 29 #[.agg #[.bool b, .string s, .string t, .int .i64 e]] w fun r w' => r = .returned (.bool true) ∧ Below w.heap.size w w'))
    (KA : Box (∀ w, FAt w → TabAt w → Calls Tryz.prog 21 #[] w fun r w' => r = .returned (.bool true) ∧ Below w.heap.size w w'))
    (hT : FAt w) (hT2 : TabAt w) : Calls Tryz.prog 10 #[.int .u8 f, .int .u8 m, .agg #[.int .u64 (x : Nat), .int .u64 (y : Nat)], .agg #[.bool b, .string s, .string t, .int .i64 e]] w fun r w' => r = .returned (.bool true) ∧ Below w.heap.size w w' := by
  have FF := box hT
  have TT := box hT2
  clear hT hT2
  obtain ⟨Rb_0, Rx_0, B0⟩ := opn2 w (Obj.cells #[.int .u64 (x : Nat), .int .u64 (y : Nat)] 25) (Obj.cells #[.bool b, .string s, .string t, .int .i64 e] 41)
  go_enter Tryz.func10, Tryz.ntmps10
  go_wp2_with fail
  refine (KO.out _).mono ?_
  rintro r w1 ⟨rfl, b1⟩
  have B1 : Below w.heap.size w w1 := btr B0 b1
  have Rb_1 := heap_of b1 _ _ _ Rb_0
  have Rx_1 := heap_of b1 _ _ _ Rx_0
  clear b1 B0 Rb_0 Rx_0
  obtain ⟨cb_1_0, cb_1_1⟩ := cells2s Rb_1
  obtain ⟨cx_1_0, cx_1_1, cx_1_2, cx_1_3⟩ := cells4s Rx_1
  go_wp2_with fail
  refine (KF.out _ (fatB FF.out B1)).mono ?_
  rintro r w2 ⟨rfl, b2⟩
  have B2 : Below w.heap.size w w2 := btr B1 b2
  have Rb_2 := heap_of b2 _ _ _ Rb_1
  have Rx_2 := heap_of b2 _ _ _ Rx_1
  clear b2 B1 Rb_1 cb_1_0 cb_1_1 Rx_1 cx_1_0 cx_1_1 cx_1_2 cx_1_3
  obtain ⟨cb_2_0, cb_2_1⟩ := cells2s Rb_2
  obtain ⟨cx_2_0, cx_2_1, cx_2_2, cx_2_3⟩ := cells4s Rx_2
  go_wp2_with fail
  refine (KV.out _ (fatB FF.out B2) (tabB TT.out B2)).mono ?_
  rintro r w3 ⟨rfl, b3⟩
  have B3 : Below w.heap.size w w3 := btr B2 b3
  have Rb_3 := heap_of b3 _ _ _ Rb_2
  have Rx_3 := heap_of b3 _ _ _ Rx_2
  clear b3 B2 Rb_2 cb_2_0 cb_2_1 Rx_2 cx_2_0 cx_2_1 cx_2_2 cx_2_3
  obtain ⟨cb_3_0, cb_3_1⟩ := cells2s Rb_3
  obtain ⟨cx_3_0, cx_3_1, cx_3_2, cx_3_3⟩ := cells4s Rx_3
  have S4 := box B3.size
  have Lb_4 : Box (w.heap.size < w3.heap.size) := box (Array.getElem?_eq_some_iff.1 Rb_3).1
  have Lx_4 : Box (w.heap.size + 1 < w3.heap.size) := box (Array.getElem?_eq_some_iff.1 Rx_3).1
  have Rv_4 := heap_alloc_last w3 (Obj.cells #[.bool rb, .string u, .string v, .int .i64 re] 41)
  have B4 := btr B3 (bal w3 (Obj.cells #[.bool rb, .string u, .string v, .int .i64 re] 41))
  have Rb_4 := heap_of (bal w3 (Obj.cells #[.bool rb, .string u, .string v, .int .i64 re] 41)) _ _ _ Rb_3
  have Rx_4 := heap_of (bal w3 (Obj.cells #[.bool rb, .string u, .string v, .int .i64 re] 41)) _ _ _ Rx_3
  clear B3 Rb_3 cb_3_0 cb_3_1 Rx_3 cx_3_0 cx_3_1 cx_3_2 cx_3_3
  obtain ⟨cb_4_0, cb_4_1⟩ := cells2s Rb_4
  obtain ⟨cx_4_0, cx_4_1, cx_4_2, cx_4_3⟩ := cells4s Rx_4
  obtain ⟨cv_4_0, cv_4_1, cv_4_2, cv_4_3⟩ := cells4s Rv_4
  go_wp2_with fail
  refine (KM.out _).mono ?_
  rintro r w5 ⟨rfl, b5⟩
  have B5 : Below w.heap.size w w5 := btr B4 b5
  have Rb_5 := heap_of b5 _ _ _ Rb_4
  have Rx_5 := heap_of b5 _ _ _ Rx_4
  have Rv_5 := heap_of b5 _ _ _ Rv_4
  clear b5 B4 Rb_4 cb_4_0 cb_4_1 Rx_4 cx_4_0 cx_4_1 cx_4_2 cx_4_3 Rv_4 cv_4_0 cv_4_1 cv_4_2 cv_4_3
  obtain ⟨cb_5_0, cb_5_1⟩ := cells2s Rb_5
  obtain ⟨cx_5_0, cx_5_1, cx_5_2, cx_5_3⟩ := cells4s Rx_5
  obtain ⟨cv_5_0, cv_5_1, cv_5_2, cv_5_3⟩ := cells4s Rv_5
  go_wp2_with fail
  refine (KA.out _ (fatB FF.out B5) (tabB TT.out B5)).mono ?_
  rintro r w6 ⟨rfl, b6⟩
  have B6 : Below w.heap.size w w6 := btr B5 b6
  have Rb_6 := heap_of b6 _ _ _ Rb_5
  have Rx_6 := heap_of b6 _ _ _ Rx_5
  have Rv_6 := heap_of b6 _ _ _ Rv_5
  clear b6 B5 Rb_5 cb_5_0 cb_5_1 Rx_5 cx_5_0 cx_5_1 cx_5_2 cx_5_3 Rv_5 cv_5_0 cv_5_1 cv_5_2 cv_5_3
  obtain ⟨cb_6_0, cb_6_1⟩ := cells2s Rb_6
  obtain ⟨cx_6_0, cx_6_1, cx_6_2, cx_6_3⟩ := cells4s Rx_6
  obtain ⟨cv_6_0, cv_6_1, cv_6_2, cv_6_3⟩ := cells4s Rv_6
  go_wp2
  go_ret
  exact ⟨rfl, B6⟩
set_option maxRecDepth 100000 in
set_option maxHeartbeats 4000000 in
theorem ex_Ae (f m : Int) (x y : Nat) (b : Bool) (s t : ByteArray) (e : Int) (rb : Bool) (u v : ByteArray) (re : Int) (sb : Bool) (ss st : ByteArray) (se : Int) (i j : Nat) (fl : Int) (w : World)
    (KO : Box (∀ w, Calls Tryz.prog 31 #[.int .u8 m] w fun r w' => r = .returned (.bool true) ∧ Below w.heap.size w w'))
    (KF : Box (∀ w, FAt w → Calls Tryz.prog 41 #[.int .u8 f, .agg #[.int .u64 (x : Nat), .int .u64 (y : Nat)]] w fun r w' => r = .returned (.bool true) ∧ Below w.heap.size w w'))
    (KV : Box (∀ w, FAt w → TabAt w → Calls Tryz.prog 35 #[.int .u8 f, .agg #[.int .u64 (x : Nat), .int .u64 (y : Nat)]] w fun r w' => r = .returned (.tuple #[.agg #[.bool rb, .string u, .string v, .int .i64 re], .bool false]) ∧ Below w.heap.size w w'))
    (h1 : decide ((25 : Int) < (s.size : Int)) = false) (h2 : decide ((25 : Int) < (t.size : Int)) = false) (h3 : decide ((400000 : Int) < e) = false) (h4 : decide (e < -400000) = true)
    (KM : Box (∀ w, Calls Tryz.prog 29 #[.agg #[.bool b, .string s, .string t, .int .i64 e]] w fun r w' => r = .returned (.bool true) ∧ Below w.heap.size w w'))
    (KA : Box (∀ w, FAt w → TabAt w → Calls Tryz.prog 21 #[] w fun r w' => r = .returned (.bool true) ∧ Below w.heap.size w w'))
    (hT : FAt w) (hT2 : TabAt w) : Calls Tryz.prog 10 #[.int .u8 f, .int .u8 m, .agg #[.int .u64 (x : Nat), .int .u64 (y : Nat)], .agg #[.bool b, .string s, .string t, .int .i64 e]] w fun r w' => r = .returned (.bool true) ∧ Below w.heap.size w w' := by
  have FF := box hT
  have TT := box hT2
  clear hT hT2
  obtain ⟨Rb_0, Rx_0, B0⟩ := opn2 w (Obj.cells #[.int .u64 (x : Nat), .int .u64 (y : Nat)] 25) (Obj.cells #[.bool b, .string s, .string t, .int .i64 e] 41)
  go_enter Tryz.func10, Tryz.ntmps10
  go_wp2_with fail
  refine (KO.out _).mono ?_
  rintro r w1 ⟨rfl, b1⟩
  have B1 : Below w.heap.size w w1 := btr B0 b1
  have Rb_1 := heap_of b1 _ _ _ Rb_0
  have Rx_1 := heap_of b1 _ _ _ Rx_0
  clear b1 B0 Rb_0 Rx_0
  obtain ⟨cb_1_0, cb_1_1⟩ := cells2s Rb_1
  obtain ⟨cx_1_0, cx_1_1, cx_1_2, cx_1_3⟩ := cells4s Rx_1
  go_wp2_with fail
  refine (KF.out _ (fatB FF.out B1)).mono ?_
  rintro r w2 ⟨rfl, b2⟩
  have B2 : Below w.heap.size w w2 := btr B1 b2
  have Rb_2 := heap_of b2 _ _ _ Rb_1
  have Rx_2 := heap_of b2 _ _ _ Rx_1
  clear b2 B1 Rb_1 cb_1_0 cb_1_1 Rx_1 cx_1_0 cx_1_1 cx_1_2 cx_1_3
  obtain ⟨cb_2_0, cb_2_1⟩ := cells2s Rb_2
  obtain ⟨cx_2_0, cx_2_1, cx_2_2, cx_2_3⟩ := cells4s Rx_2
  go_wp2_with fail
  refine (KV.out _ (fatB FF.out B2) (tabB TT.out B2)).mono ?_
  rintro r w3 ⟨rfl, b3⟩
  have B3 : Below w.heap.size w w3 := btr B2 b3
  have Rb_3 := heap_of b3 _ _ _ Rb_2
  have Rx_3 := heap_of b3 _ _ _ Rx_2
  clear b3 B2 Rb_2 cb_2_0 cb_2_1 Rx_2 cx_2_0 cx_2_1 cx_2_2 cx_2_3
  obtain ⟨cb_3_0, cb_3_1⟩ := cells2s Rb_3
  obtain ⟨cx_3_0, cx_3_1, cx_3_2, cx_3_3⟩ := cells4s Rx_3
  have S4 := box B3.size
  have Lb_4 : Box (w.heap.size < w3.heap.size) := box (Array.getElem?_eq_some_iff.1 Rb_3).1
  have Lx_4 : Box (w.heap.size + 1 < w3.heap.size) := box (Array.getElem?_eq_some_iff.1 Rx_3).1
  have Rv_4 := heap_alloc_last w3 (Obj.cells #[.bool rb, .string u, .string v, .int .i64 re] 41)
  have B4 := btr B3 (bal w3 (Obj.cells #[.bool rb, .string u, .string v, .int .i64 re] 41))
  have Rb_4 := heap_of (bal w3 (Obj.cells #[.bool rb, .string u, .string v, .int .i64 re] 41)) _ _ _ Rb_3
  have Rx_4 := heap_of (bal w3 (Obj.cells #[.bool rb, .string u, .string v, .int .i64 re] 41)) _ _ _ Rx_3
  clear B3 Rb_3 cb_3_0 cb_3_1 Rx_3 cx_3_0 cx_3_1 cx_3_2 cx_3_3
  obtain ⟨cb_4_0, cb_4_1⟩ := cells2s Rb_4
  obtain ⟨cx_4_0, cx_4_1, cx_4_2, cx_4_3⟩ := cells4s Rx_4
  obtain ⟨cv_4_0, cv_4_1, cv_4_2, cv_4_3⟩ := cells4s Rv_4
  go_wp2_with fail
  refine (KM.out _).mono ?_
  rintro r w5 ⟨rfl, b5⟩
  have B5 : Below w.heap.size w w5 := btr B4 b5
  have Rb_5 := heap_of b5 _ _ _ Rb_4
  have Rx_5 := heap_of b5 _ _ _ Rx_4
  have Rv_5 := heap_of b5 _ _ _ Rv_4
  clear b5 B4 Rb_4 cb_4_0 cb_4_1 Rx_4 cx_4_0 cx_4_1 cx_4_2 cx_4_3 Rv_4 cv_4_0 cv_4_1 cv_4_2 cv_4_3
  obtain ⟨cb_5_0, cb_5_1⟩ := cells2s Rb_5
  obtain ⟨cx_5_0, cx_5_1, cx_5_2, cx_5_3⟩ := cells4s Rx_5
  obtain ⟨cv_5_0, cv_5_1, cv_5_2, cv_5_3⟩ := cells4s Rv_5
  go_wp2_with fail
  refine (KA.out _ (fatB FF.out B5) (tabB TT.out B5)).mono ?_
  rintro r w6 ⟨rfl, b6⟩
  have B6 : Below w.heap.size w w6 := btr B5 b6
  have Rb_6 := heap_of b6 _ _ _ Rb_5
  have Rx_6 := heap_of b6 _ _ _ Rx_5
  have Rv_6 := heap_of b6 _ _ _ Rv_5
  clear b6 B5 Rb_5 cb_5_0 cb_5_1 Rx_5 cx_5_0 cx_5_1 cx_5_2 cx_5_3 Rv_5 cv_5_0 cv_5_1 cv_5_2 cv_5_3
  obtain ⟨cb_6_0, cb_6_1⟩ := cells2s Rb_6
  obtain ⟨cx_6_0, cx_6_1, cx_6_2, cx_6_3⟩ := cells4s Rx_6
  obtain ⟨cv_6_0, cv_6_1, cv_6_2, cv_6_3⟩ := cells4s Rv_6
  go_wp2
  go_ret
  exact ⟨rfl, B6⟩
set_option maxRecDepth 100000 in
set_option maxHeartbeats 4000000 in
theorem ex_Af (f m : Int) (x y : Nat) (b : Bool) (s t : ByteArray) (e : Int) (rb : Bool) (u v : ByteArray) (re : Int) (sb : Bool) (ss st : ByteArray) (se : Int) (i j : Nat) (fl : Int) (w : World)
    (KO : Box (∀ w, Calls Tryz.prog 31 #[.int .u8 m] w fun r w' => r = .returned (.bool true) ∧ Below w.heap.size w w'))
    (KF : Box (∀ w, FAt w → Calls Tryz.prog 41 #[.int .u8 f, .agg #[.int .u64 (x : Nat), .int .u64 (y : Nat)]] w fun r w' => r = .returned (.bool true) ∧ Below w.heap.size w w'))
    (KV : Box (∀ w, FAt w → TabAt w → Calls Tryz.prog 35 #[.int .u8 f, .agg #[.int .u64 (x : Nat), .int .u64 (y : Nat)]] w fun r w' => r = .returned (.tuple #[.agg #[.bool rb, .string u, .string v, .int .i64 re], .bool false]) ∧ Below w.heap.size w w'))
    (h1 : decide ((25 : Int) < (s.size : Int)) = false) (h2 : decide ((25 : Int) < (t.size : Int)) = false) (h3 : decide ((400000 : Int) < e) = false) (h4 : decide (e < -400000) = false)
    (KM : Box (∀ w, Calls Tryz.prog 29 #[.agg #[.bool b, .string s, .string t, .int .i64 e]] w fun r w' => r = .returned (.bool true) ∧ Below w.heap.size w w'))
    (KX : Box (∀ w, TabAt w → Calls Tryz.prog 42 #[.agg #[.bool b, .string s, .string t, .int .i64 e], .agg #[.bool b, .string s, .string t, .int .i64 e]] w fun r w' => r = .returned (.tuple #[.agg #[.bool sb, .string ss, .string st, .int .i64 se], .int .i64 0]) ∧ Below w.heap.size w w'))
    (KQ : Box (∀ w, FAt w → TabAt w → Calls Tryz.prog 24 #[.int .u8 f, .int .u8 m, .agg #[.bool sb, .string ss, .string st, .int .i64 se]] w fun r w' => r = .returned (.tuple #[.agg #[.int .u64 (i : Nat), .int .u64 (j : Nat)], .int .u8 fl, .int .i64 0]) ∧ Below w.heap.size w w'))
    (KB : Box (∀ w, TabAt w → Calls Tryz.prog 38 #[.agg #[.bool b, .string s, .string t, .int .i64 e]] w fun r w' => r = .returned (.agg #[.bool false, .string s, .string t, .int .i64 e]) ∧ Below w.heap.size w w'))
    (KD : Box (∀ w, FAt w → TabAt w → Calls Tryz.prog 22 #[.int .u8 f, .int .u8 m, .agg #[.bool false, .string s, .string t, .int .i64 e]] w fun r w' => r = .returned (.tuple #[.agg #[.int .u64 (i : Nat), .int .u64 (j : Nat)], .int .u8 fl, .int .i64 0]) ∧ Below w.heap.size w w'))
    (KA : Box (∀ w, FAt w → TabAt w → Calls Tryz.prog 21 #[] w fun r w' => r = .returned (.bool true) ∧ Below w.heap.size w w'))
    (hT : FAt w) (hT2 : TabAt w) : Calls Tryz.prog 10 #[.int .u8 f, .int .u8 m, .agg #[.int .u64 (x : Nat), .int .u64 (y : Nat)], .agg #[.bool b, .string s, .string t, .int .i64 e]] w fun r w' => r = .returned (.bool true) ∧ Below w.heap.size w w' := by
  have FF := box hT
  have TT := box hT2
  clear hT hT2
  obtain ⟨Rb_0, Rx_0, B0⟩ := opn2 w (Obj.cells #[.int .u64 (x : Nat), .int .u64 (y : Nat)] 25) (Obj.cells #[.bool b, .string s, .string t, .int .i64 e] 41)
  go_enter Tryz.func10, Tryz.ntmps10
  go_wp2_with fail
  refine (KO.out _).mono ?_
  rintro r w1 ⟨rfl, b1⟩
  have B1 : Below w.heap.size w w1 := btr B0 b1
  have Rb_1 := heap_of b1 _ _ _ Rb_0
  have Rx_1 := heap_of b1 _ _ _ Rx_0
  clear b1 B0 Rb_0 Rx_0
  obtain ⟨cb_1_0, cb_1_1⟩ := cells2s Rb_1
  obtain ⟨cx_1_0, cx_1_1, cx_1_2, cx_1_3⟩ := cells4s Rx_1
  go_wp2_with fail
  refine (KF.out _ (fatB FF.out B1)).mono ?_
  rintro r w2 ⟨rfl, b2⟩
  have B2 : Below w.heap.size w w2 := btr B1 b2
  have Rb_2 := heap_of b2 _ _ _ Rb_1
  have Rx_2 := heap_of b2 _ _ _ Rx_1
  clear b2 B1 Rb_1 cb_1_0 cb_1_1 Rx_1 cx_1_0 cx_1_1 cx_1_2 cx_1_3
  obtain ⟨cb_2_0, cb_2_1⟩ := cells2s Rb_2
  obtain ⟨cx_2_0, cx_2_1, cx_2_2, cx_2_3⟩ := cells4s Rx_2
  go_wp2_with fail
  refine (KV.out _ (fatB FF.out B2) (tabB TT.out B2)).mono ?_
  rintro r w3 ⟨rfl, b3⟩
  have B3 : Below w.heap.size w w3 := btr B2 b3
  have Rb_3 := heap_of b3 _ _ _ Rb_2
  have Rx_3 := heap_of b3 _ _ _ Rx_2
  clear b3 B2 Rb_2 cb_2_0 cb_2_1 Rx_2 cx_2_0 cx_2_1 cx_2_2 cx_2_3
  obtain ⟨cb_3_0, cb_3_1⟩ := cells2s Rb_3
  obtain ⟨cx_3_0, cx_3_1, cx_3_2, cx_3_3⟩ := cells4s Rx_3
  have S4 := box B3.size
  have Lb_4 : Box (w.heap.size < w3.heap.size) := box (Array.getElem?_eq_some_iff.1 Rb_3).1
  have Lx_4 : Box (w.heap.size + 1 < w3.heap.size) := box (Array.getElem?_eq_some_iff.1 Rx_3).1
  have Rv_4 := heap_alloc_last w3 (Obj.cells #[.bool rb, .string u, .string v, .int .i64 re] 41)
  have B4 := btr B3 (bal w3 (Obj.cells #[.bool rb, .string u, .string v, .int .i64 re] 41))
  have Rb_4 := heap_of (bal w3 (Obj.cells #[.bool rb, .string u, .string v, .int .i64 re] 41)) _ _ _ Rb_3
  have Rx_4 := heap_of (bal w3 (Obj.cells #[.bool rb, .string u, .string v, .int .i64 re] 41)) _ _ _ Rx_3
  clear B3 Rb_3 cb_3_0 cb_3_1 Rx_3 cx_3_0 cx_3_1 cx_3_2 cx_3_3
  obtain ⟨cb_4_0, cb_4_1⟩ := cells2s Rb_4
  obtain ⟨cx_4_0, cx_4_1, cx_4_2, cx_4_3⟩ := cells4s Rx_4
  obtain ⟨cv_4_0, cv_4_1, cv_4_2, cv_4_3⟩ := cells4s Rv_4
  go_wp2_with fail
  refine (KM.out _).mono ?_
  rintro r w5 ⟨rfl, b5⟩
  have B5 : Below w.heap.size w w5 := btr B4 b5
  have Rb_5 := heap_of b5 _ _ _ Rb_4
  have Rx_5 := heap_of b5 _ _ _ Rx_4
  have Rv_5 := heap_of b5 _ _ _ Rv_4
  clear b5 B4 Rb_4 cb_4_0 cb_4_1 Rx_4 cx_4_0 cx_4_1 cx_4_2 cx_4_3 Rv_4 cv_4_0 cv_4_1 cv_4_2 cv_4_3
  obtain ⟨cb_5_0, cb_5_1⟩ := cells2s Rb_5
  obtain ⟨cx_5_0, cx_5_1, cx_5_2, cx_5_3⟩ := cells4s Rx_5
  obtain ⟨cv_5_0, cv_5_1, cv_5_2, cv_5_3⟩ := cells4s Rv_5
  go_wp2_with fail
  refine (KX.out _ (tabB TT.out B5)).mono ?_
  rintro r w6 ⟨rfl, b6⟩
  have B6 : Below w.heap.size w w6 := btr B5 b6
  have Rb_6 := heap_of b6 _ _ _ Rb_5
  have Rx_6 := heap_of b6 _ _ _ Rx_5
  have Rv_6 := heap_of b6 _ _ _ Rv_5
  clear b6 B5 Rb_5 cb_5_0 cb_5_1 Rx_5 cx_5_0 cx_5_1 cx_5_2 cx_5_3 Rv_5 cv_5_0 cv_5_1 cv_5_2 cv_5_3
  obtain ⟨cb_6_0, cb_6_1⟩ := cells2s Rb_6
  obtain ⟨cx_6_0, cx_6_1, cx_6_2, cx_6_3⟩ := cells4s Rx_6
  obtain ⟨cv_6_0, cv_6_1, cv_6_2, cv_6_3⟩ := cells4s Rv_6
  have S7 := box B6.size
  have Lb_7 : Box (w.heap.size < w6.heap.size) := box (Array.getElem?_eq_some_iff.1 Rb_6).1
  have Lx_7 : Box (w.heap.size + 1 < w6.heap.size) := box (Array.getElem?_eq_some_iff.1 Rx_6).1
  have Lv_7 : Box (w3.heap.size < w6.heap.size) := box (Array.getElem?_eq_some_iff.1 Rv_6).1
  have Rs_7 := heap_alloc_last w6 (Obj.cells #[.bool sb, .string ss, .string st, .int .i64 se] 41)
  have B7 := btr B6 (bal w6 (Obj.cells #[.bool sb, .string ss, .string st, .int .i64 se] 41))
  have Rb_7 := heap_of (bal w6 (Obj.cells #[.bool sb, .string ss, .string st, .int .i64 se] 41)) _ _ _ Rb_6
  have Rx_7 := heap_of (bal w6 (Obj.cells #[.bool sb, .string ss, .string st, .int .i64 se] 41)) _ _ _ Rx_6
  have Rv_7 := heap_of (bal w6 (Obj.cells #[.bool sb, .string ss, .string st, .int .i64 se] 41)) _ _ _ Rv_6
  clear B6 Rb_6 cb_6_0 cb_6_1 Rx_6 cx_6_0 cx_6_1 cx_6_2 cx_6_3 Rv_6 cv_6_0 cv_6_1 cv_6_2 cv_6_3
  obtain ⟨cb_7_0, cb_7_1⟩ := cells2s Rb_7
  obtain ⟨cx_7_0, cx_7_1, cx_7_2, cx_7_3⟩ := cells4s Rx_7
  obtain ⟨cv_7_0, cv_7_1, cv_7_2, cv_7_3⟩ := cells4s Rv_7
  obtain ⟨cs_7_0, cs_7_1, cs_7_2, cs_7_3⟩ := cells4s Rs_7
  go_wp2_with fail
  refine (KQ.out _ (fatB FF.out B7) (tabB TT.out B7)).mono ?_
  rintro r w8 ⟨rfl, b8⟩
  have B8 : Below w.heap.size w w8 := btr B7 b8
  have Rb_8 := heap_of b8 _ _ _ Rb_7
  have Rx_8 := heap_of b8 _ _ _ Rx_7
  have Rv_8 := heap_of b8 _ _ _ Rv_7
  have Rs_8 := heap_of b8 _ _ _ Rs_7
  clear b8 B7 Rb_7 cb_7_0 cb_7_1 Rx_7 cx_7_0 cx_7_1 cx_7_2 cx_7_3 Rv_7 cv_7_0 cv_7_1 cv_7_2 cv_7_3 Rs_7 cs_7_0 cs_7_1 cs_7_2 cs_7_3
  obtain ⟨cb_8_0, cb_8_1⟩ := cells2s Rb_8
  obtain ⟨cx_8_0, cx_8_1, cx_8_2, cx_8_3⟩ := cells4s Rx_8
  obtain ⟨cv_8_0, cv_8_1, cv_8_2, cv_8_3⟩ := cells4s Rv_8
  obtain ⟨cs_8_0, cs_8_1, cs_8_2, cs_8_3⟩ := cells4s Rs_8
  have S9 := box B8.size
  have Lb_9 : Box (w.heap.size < w8.heap.size) := box (Array.getElem?_eq_some_iff.1 Rb_8).1
  have Lx_9 : Box (w.heap.size + 1 < w8.heap.size) := box (Array.getElem?_eq_some_iff.1 Rx_8).1
  have Lv_9 : Box (w3.heap.size < w8.heap.size) := box (Array.getElem?_eq_some_iff.1 Rv_8).1
  have Ls_9 : Box (w6.heap.size < w8.heap.size) := box (Array.getElem?_eq_some_iff.1 Rs_8).1
  have Rg_9 := heap_alloc_last w8 (Obj.cells #[.int .u64 (i : Nat), .int .u64 (j : Nat)] 25)
  have B9 := btr B8 (bal w8 (Obj.cells #[.int .u64 (i : Nat), .int .u64 (j : Nat)] 25))
  have Rb_9 := heap_of (bal w8 (Obj.cells #[.int .u64 (i : Nat), .int .u64 (j : Nat)] 25)) _ _ _ Rb_8
  have Rx_9 := heap_of (bal w8 (Obj.cells #[.int .u64 (i : Nat), .int .u64 (j : Nat)] 25)) _ _ _ Rx_8
  have Rv_9 := heap_of (bal w8 (Obj.cells #[.int .u64 (i : Nat), .int .u64 (j : Nat)] 25)) _ _ _ Rv_8
  have Rs_9 := heap_of (bal w8 (Obj.cells #[.int .u64 (i : Nat), .int .u64 (j : Nat)] 25)) _ _ _ Rs_8
  clear B8 Rb_8 cb_8_0 cb_8_1 Rx_8 cx_8_0 cx_8_1 cx_8_2 cx_8_3 Rv_8 cv_8_0 cv_8_1 cv_8_2 cv_8_3 Rs_8 cs_8_0 cs_8_1 cs_8_2 cs_8_3
  obtain ⟨cb_9_0, cb_9_1⟩ := cells2s Rb_9
  obtain ⟨cx_9_0, cx_9_1, cx_9_2, cx_9_3⟩ := cells4s Rx_9
  obtain ⟨cv_9_0, cv_9_1, cv_9_2, cv_9_3⟩ := cells4s Rv_9
  obtain ⟨cs_9_0, cs_9_1, cs_9_2, cs_9_3⟩ := cells4s Rs_9
  obtain ⟨cg_9_0, cg_9_1⟩ := cells2s Rg_9
  go_wp2_with fail
  refine (KB.out _ (tabB TT.out B9)).mono ?_
  rintro r w10 ⟨rfl, b10⟩
  have B10 : Below w.heap.size w w10 := btr B9 b10
  have Rb_10 := heap_of b10 _ _ _ Rb_9
  have Rx_10 := heap_of b10 _ _ _ Rx_9
  have Rv_10 := heap_of b10 _ _ _ Rv_9
  have Rs_10 := heap_of b10 _ _ _ Rs_9
  have Rg_10 := heap_of b10 _ _ _ Rg_9
  clear b10 B9 Rb_9 cb_9_0 cb_9_1 Rx_9 cx_9_0 cx_9_1 cx_9_2 cx_9_3 Rv_9 cv_9_0 cv_9_1 cv_9_2 cv_9_3 Rs_9 cs_9_0 cs_9_1 cs_9_2 cs_9_3 Rg_9 cg_9_0 cg_9_1
  obtain ⟨cb_10_0, cb_10_1⟩ := cells2s Rb_10
  obtain ⟨cx_10_0, cx_10_1, cx_10_2, cx_10_3⟩ := cells4s Rx_10
  obtain ⟨cv_10_0, cv_10_1, cv_10_2, cv_10_3⟩ := cells4s Rv_10
  obtain ⟨cs_10_0, cs_10_1, cs_10_2, cs_10_3⟩ := cells4s Rs_10
  obtain ⟨cg_10_0, cg_10_1⟩ := cells2s Rg_10
  go_wp2_with fail
  refine (KD.out _ (fatB FF.out B10) (tabB TT.out B10)).mono ?_
  rintro r w11 ⟨rfl, b11⟩
  have B11 : Below w.heap.size w w11 := btr B10 b11
  have Rb_11 := heap_of b11 _ _ _ Rb_10
  have Rx_11 := heap_of b11 _ _ _ Rx_10
  have Rv_11 := heap_of b11 _ _ _ Rv_10
  have Rs_11 := heap_of b11 _ _ _ Rs_10
  have Rg_11 := heap_of b11 _ _ _ Rg_10
  clear b11 B10 Rb_10 cb_10_0 cb_10_1 Rx_10 cx_10_0 cx_10_1 cx_10_2 cx_10_3 Rv_10 cv_10_0 cv_10_1 cv_10_2 cv_10_3 Rs_10 cs_10_0 cs_10_1 cs_10_2 cs_10_3 Rg_10 cg_10_0 cg_10_1
  obtain ⟨cb_11_0, cb_11_1⟩ := cells2s Rb_11
  obtain ⟨cx_11_0, cx_11_1, cx_11_2, cx_11_3⟩ := cells4s Rx_11
  obtain ⟨cv_11_0, cv_11_1, cv_11_2, cv_11_3⟩ := cells4s Rv_11
  obtain ⟨cs_11_0, cs_11_1, cs_11_2, cs_11_3⟩ := cells4s Rs_11
  obtain ⟨cg_11_0, cg_11_1⟩ := cells2s Rg_11
  have S12 := box B11.size
  have Lb_12 : Box (w.heap.size < w11.heap.size) := box (Array.getElem?_eq_some_iff.1 Rb_11).1
  have Lx_12 : Box (w.heap.size + 1 < w11.heap.size) := box (Array.getElem?_eq_some_iff.1 Rx_11).1
  have Lv_12 : Box (w3.heap.size < w11.heap.size) := box (Array.getElem?_eq_some_iff.1 Rv_11).1
  have Ls_12 : Box (w6.heap.size < w11.heap.size) := box (Array.getElem?_eq_some_iff.1 Rs_11).1
  have Lg_12 : Box (w8.heap.size < w11.heap.size) := box (Array.getElem?_eq_some_iff.1 Rg_11).1
  have Rd_12 := heap_alloc_last w11 (Obj.cells #[.int .u64 (i : Nat), .int .u64 (j : Nat)] 25)
  have B12 := btr B11 (bal w11 (Obj.cells #[.int .u64 (i : Nat), .int .u64 (j : Nat)] 25))
  have Rb_12 := heap_of (bal w11 (Obj.cells #[.int .u64 (i : Nat), .int .u64 (j : Nat)] 25)) _ _ _ Rb_11
  have Rx_12 := heap_of (bal w11 (Obj.cells #[.int .u64 (i : Nat), .int .u64 (j : Nat)] 25)) _ _ _ Rx_11
  have Rv_12 := heap_of (bal w11 (Obj.cells #[.int .u64 (i : Nat), .int .u64 (j : Nat)] 25)) _ _ _ Rv_11
  have Rs_12 := heap_of (bal w11 (Obj.cells #[.int .u64 (i : Nat), .int .u64 (j : Nat)] 25)) _ _ _ Rs_11
  have Rg_12 := heap_of (bal w11 (Obj.cells #[.int .u64 (i : Nat), .int .u64 (j : Nat)] 25)) _ _ _ Rg_11
  clear B11 Rb_11 cb_11_0 cb_11_1 Rx_11 cx_11_0 cx_11_1 cx_11_2 cx_11_3 Rv_11 cv_11_0 cv_11_1 cv_11_2 cv_11_3 Rs_11 cs_11_0 cs_11_1 cs_11_2 cs_11_3 Rg_11 cg_11_0 cg_11_1
  obtain ⟨cb_12_0, cb_12_1⟩ := cells2s Rb_12
  obtain ⟨cx_12_0, cx_12_1, cx_12_2, cx_12_3⟩ := cells4s Rx_12
  obtain ⟨cv_12_0, cv_12_1, cv_12_2, cv_12_3⟩ := cells4s Rv_12
  obtain ⟨cs_12_0, cs_12_1, cs_12_2, cs_12_3⟩ := cells4s Rs_12
  obtain ⟨cg_12_0, cg_12_1⟩ := cells2s Rg_12
  obtain ⟨cd_12_0, cd_12_1⟩ := cells2s Rd_12
  go_wp2_with fail
  refine (KA.out _ (fatB FF.out B12) (tabB TT.out B12)).mono ?_
  rintro r w13 ⟨rfl, b13⟩
  have B13 : Below w.heap.size w w13 := btr B12 b13
  have Rb_13 := heap_of b13 _ _ _ Rb_12
  have Rx_13 := heap_of b13 _ _ _ Rx_12
  have Rv_13 := heap_of b13 _ _ _ Rv_12
  have Rs_13 := heap_of b13 _ _ _ Rs_12
  have Rg_13 := heap_of b13 _ _ _ Rg_12
  have Rd_13 := heap_of b13 _ _ _ Rd_12
  clear b13 B12 Rb_12 cb_12_0 cb_12_1 Rx_12 cx_12_0 cx_12_1 cx_12_2 cx_12_3 Rv_12 cv_12_0 cv_12_1 cv_12_2 cv_12_3 Rs_12 cs_12_0 cs_12_1 cs_12_2 cs_12_3 Rg_12 cg_12_0 cg_12_1 Rd_12 cd_12_0 cd_12_1
  obtain ⟨cb_13_0, cb_13_1⟩ := cells2s Rb_13
  obtain ⟨cx_13_0, cx_13_1, cx_13_2, cx_13_3⟩ := cells4s Rx_13
  obtain ⟨cv_13_0, cv_13_1, cv_13_2, cv_13_3⟩ := cells4s Rv_13
  obtain ⟨cs_13_0, cs_13_1, cs_13_2, cs_13_3⟩ := cells4s Rs_13
  obtain ⟨cg_13_0, cg_13_1⟩ := cells2s Rg_13
  obtain ⟨cd_13_0, cd_13_1⟩ := cells2s Rd_13
  go_wp2
  go_ret
  exact ⟨rfl, B13⟩
set_option maxRecDepth 100000 in
set_option maxHeartbeats 4000000 in
theorem ex_Ba (f m : Int) (x y : Nat) (b : Bool) (s t : ByteArray) (e : Int) (rb : Bool) (u v : ByteArray) (re : Int) (sb : Bool) (ss st : ByteArray) (se : Int) (i j : Nat) (fl : Int) (w : World)
    (KO : Box (∀ w, Calls Tryz.prog 31 #[.int .u8 m] w fun r w' => r = .returned (.bool true) ∧ Below w.heap.size w w'))
    (KF : Box (∀ w, FAt w → Calls Tryz.prog 41 #[.int .u8 f, .agg #[.int .u64 (x : Nat), .int .u64 (y : Nat)]] w fun r w' => r = .returned (.bool true) ∧ Below w.heap.size w w'))
    (KV : Box (∀ w, FAt w → TabAt w → Calls Tryz.prog 35 #[.int .u8 f, .agg #[.int .u64 (x : Nat), .int .u64 (y : Nat)]] w fun r w' => r = .returned (.tuple #[.agg #[.bool rb, .string u, .string v, .int .i64 re], .bool true]) ∧ Below w.heap.size w w'))
    (KR : Box (∀ w, FAt w → TabAt w → Calls Tryz.prog 22 #[.int .u8 f, .int .u8 m, .agg #[.bool rb, .string u, .string v, .int .i64 re]] w fun r w' => r = .returned (.tuple #[.agg #[.int .u64 (x : Nat), .int .u64 (y : Nat)], .int .u8 0, .int .i64 0]) ∧ Below w.heap.size w w'))
    (h1 : decide ((25 : Int) < (s.size : Int)) = true)
    (KA : Box (∀ w, FAt w → TabAt w → Calls Tryz.prog 21 #[] w fun r w' => r = .returned (.bool true) ∧ Below w.heap.size w w'))
    (hT : FAt w) (hT2 : TabAt w) : Calls Tryz.prog 10 #[.int .u8 f, .int .u8 m, .agg #[.int .u64 (x : Nat), .int .u64 (y : Nat)], .agg #[.bool b, .string s, .string t, .int .i64 e]] w fun r w' => r = .returned (.bool true) ∧ Below w.heap.size w w' := by
  have FF := box hT
  have TT := box hT2
  clear hT hT2
  obtain ⟨Rb_0, Rx_0, B0⟩ := opn2 w (Obj.cells #[.int .u64 (x : Nat), .int .u64 (y : Nat)] 25) (Obj.cells #[.bool b, .string s, .string t, .int .i64 e] 41)
  go_enter Tryz.func10, Tryz.ntmps10
  go_wp2_with fail
  refine (KO.out _).mono ?_
  rintro r w1 ⟨rfl, b1⟩
  have B1 : Below w.heap.size w w1 := btr B0 b1
  have Rb_1 := heap_of b1 _ _ _ Rb_0
  have Rx_1 := heap_of b1 _ _ _ Rx_0
  clear b1 B0 Rb_0 Rx_0
  obtain ⟨cb_1_0, cb_1_1⟩ := cells2s Rb_1
  obtain ⟨cx_1_0, cx_1_1, cx_1_2, cx_1_3⟩ := cells4s Rx_1
  go_wp2_with fail
  refine (KF.out _ (fatB FF.out B1)).mono ?_
  rintro r w2 ⟨rfl, b2⟩
  have B2 : Below w.heap.size w w2 := btr B1 b2
  have Rb_2 := heap_of b2 _ _ _ Rb_1
  have Rx_2 := heap_of b2 _ _ _ Rx_1
  clear b2 B1 Rb_1 cb_1_0 cb_1_1 Rx_1 cx_1_0 cx_1_1 cx_1_2 cx_1_3
  obtain ⟨cb_2_0, cb_2_1⟩ := cells2s Rb_2
  obtain ⟨cx_2_0, cx_2_1, cx_2_2, cx_2_3⟩ := cells4s Rx_2
  go_wp2_with fail
  refine (KV.out _ (fatB FF.out B2) (tabB TT.out B2)).mono ?_
  rintro r w3 ⟨rfl, b3⟩
  have B3 : Below w.heap.size w w3 := btr B2 b3
  have Rb_3 := heap_of b3 _ _ _ Rb_2
  have Rx_3 := heap_of b3 _ _ _ Rx_2
  clear b3 B2 Rb_2 cb_2_0 cb_2_1 Rx_2 cx_2_0 cx_2_1 cx_2_2 cx_2_3
  obtain ⟨cb_3_0, cb_3_1⟩ := cells2s Rb_3
  obtain ⟨cx_3_0, cx_3_1, cx_3_2, cx_3_3⟩ := cells4s Rx_3
  have S4 := box B3.size
  have Lb_4 : Box (w.heap.size < w3.heap.size) := box (Array.getElem?_eq_some_iff.1 Rb_3).1
  have Lx_4 : Box (w.heap.size + 1 < w3.heap.size) := box (Array.getElem?_eq_some_iff.1 Rx_3).1
  have Rv_4 := heap_alloc_last w3 (Obj.cells #[.bool rb, .string u, .string v, .int .i64 re] 41)
  have B4 := btr B3 (bal w3 (Obj.cells #[.bool rb, .string u, .string v, .int .i64 re] 41))
  have Rb_4 := heap_of (bal w3 (Obj.cells #[.bool rb, .string u, .string v, .int .i64 re] 41)) _ _ _ Rb_3
  have Rx_4 := heap_of (bal w3 (Obj.cells #[.bool rb, .string u, .string v, .int .i64 re] 41)) _ _ _ Rx_3
  clear B3 Rb_3 cb_3_0 cb_3_1 Rx_3 cx_3_0 cx_3_1 cx_3_2 cx_3_3
  obtain ⟨cb_4_0, cb_4_1⟩ := cells2s Rb_4
  obtain ⟨cx_4_0, cx_4_1, cx_4_2, cx_4_3⟩ := cells4s Rx_4
  obtain ⟨cv_4_0, cv_4_1, cv_4_2, cv_4_3⟩ := cells4s Rv_4
  go_wp2_with fail
  refine (KR.out _ (fatB FF.out B4) (tabB TT.out B4)).mono ?_
  rintro r w5 ⟨rfl, b5⟩
  have B5 : Below w.heap.size w w5 := btr B4 b5
  have Rb_5 := heap_of b5 _ _ _ Rb_4
  have Rx_5 := heap_of b5 _ _ _ Rx_4
  have Rv_5 := heap_of b5 _ _ _ Rv_4
  clear b5 B4 Rb_4 cb_4_0 cb_4_1 Rx_4 cx_4_0 cx_4_1 cx_4_2 cx_4_3 Rv_4 cv_4_0 cv_4_1 cv_4_2 cv_4_3
  obtain ⟨cb_5_0, cb_5_1⟩ := cells2s Rb_5
  obtain ⟨cx_5_0, cx_5_1, cx_5_2, cx_5_3⟩ := cells4s Rx_5
  obtain ⟨cv_5_0, cv_5_1, cv_5_2, cv_5_3⟩ := cells4s Rv_5
  have S6 := box B5.size
  have Lb_6 : Box (w.heap.size < w5.heap.size) := box (Array.getElem?_eq_some_iff.1 Rb_5).1
  have Lx_6 : Box (w.heap.size + 1 < w5.heap.size) := box (Array.getElem?_eq_some_iff.1 Rx_5).1
  have Lv_6 : Box (w3.heap.size < w5.heap.size) := box (Array.getElem?_eq_some_iff.1 Rv_5).1
  have Rc_6 := heap_alloc_last w5 (Obj.cells #[.int .u64 (x : Nat), .int .u64 (y : Nat)] 25)
  have B6 := btr B5 (bal w5 (Obj.cells #[.int .u64 (x : Nat), .int .u64 (y : Nat)] 25))
  have Rb_6 := heap_of (bal w5 (Obj.cells #[.int .u64 (x : Nat), .int .u64 (y : Nat)] 25)) _ _ _ Rb_5
  have Rx_6 := heap_of (bal w5 (Obj.cells #[.int .u64 (x : Nat), .int .u64 (y : Nat)] 25)) _ _ _ Rx_5
  have Rv_6 := heap_of (bal w5 (Obj.cells #[.int .u64 (x : Nat), .int .u64 (y : Nat)] 25)) _ _ _ Rv_5
  clear B5 Rb_5 cb_5_0 cb_5_1 Rx_5 cx_5_0 cx_5_1 cx_5_2 cx_5_3 Rv_5 cv_5_0 cv_5_1 cv_5_2 cv_5_3
  obtain ⟨cb_6_0, cb_6_1⟩ := cells2s Rb_6
  obtain ⟨cx_6_0, cx_6_1, cx_6_2, cx_6_3⟩ := cells4s Rx_6
  obtain ⟨cv_6_0, cv_6_1, cv_6_2, cv_6_3⟩ := cells4s Rv_6
  obtain ⟨cc_6_0, cc_6_1⟩ := cells2s Rc_6
  go_wp2_with fail
  refine (KA.out _ (fatB FF.out B6) (tabB TT.out B6)).mono ?_
  rintro r w7 ⟨rfl, b7⟩
  have B7 : Below w.heap.size w w7 := btr B6 b7
  have Rb_7 := heap_of b7 _ _ _ Rb_6
  have Rx_7 := heap_of b7 _ _ _ Rx_6
  have Rv_7 := heap_of b7 _ _ _ Rv_6
  have Rc_7 := heap_of b7 _ _ _ Rc_6
  clear b7 B6 Rb_6 cb_6_0 cb_6_1 Rx_6 cx_6_0 cx_6_1 cx_6_2 cx_6_3 Rv_6 cv_6_0 cv_6_1 cv_6_2 cv_6_3 Rc_6 cc_6_0 cc_6_1
  obtain ⟨cb_7_0, cb_7_1⟩ := cells2s Rb_7
  obtain ⟨cx_7_0, cx_7_1, cx_7_2, cx_7_3⟩ := cells4s Rx_7
  obtain ⟨cv_7_0, cv_7_1, cv_7_2, cv_7_3⟩ := cells4s Rv_7
  obtain ⟨cc_7_0, cc_7_1⟩ := cells2s Rc_7
  go_wp2
  go_ret
  exact ⟨rfl, B7⟩
set_option maxRecDepth 100000 in
set_option maxHeartbeats 4000000 in
theorem ex_Bb (f m : Int) (x y : Nat) (b : Bool) (s t : ByteArray) (e : Int) (rb : Bool) (u v : ByteArray) (re : Int) (sb : Bool) (ss st : ByteArray) (se : Int) (i j : Nat) (fl : Int) (w : World)
    (KO : Box (∀ w, Calls Tryz.prog 31 #[.int .u8 m] w fun r w' => r = .returned (.bool true) ∧ Below w.heap.size w w'))
    (KF : Box (∀ w, FAt w → Calls Tryz.prog 41 #[.int .u8 f, .agg #[.int .u64 (x : Nat), .int .u64 (y : Nat)]] w fun r w' => r = .returned (.bool true) ∧ Below w.heap.size w w'))
    (KV : Box (∀ w, FAt w → TabAt w → Calls Tryz.prog 35 #[.int .u8 f, .agg #[.int .u64 (x : Nat), .int .u64 (y : Nat)]] w fun r w' => r = .returned (.tuple #[.agg #[.bool rb, .string u, .string v, .int .i64 re], .bool true]) ∧ Below w.heap.size w w'))
    (KR : Box (∀ w, FAt w → TabAt w → Calls Tryz.prog 22 #[.int .u8 f, .int .u8 m, .agg #[.bool rb, .string u, .string v, .int .i64 re]] w fun r w' => r = .returned (.tuple #[.agg #[.int .u64 (x : Nat), .int .u64 (y : Nat)], .int .u8 0, .int .i64 0]) ∧ Below w.heap.size w w'))
    (h1 : decide ((25 : Int) < (s.size : Int)) = false) (h2 : decide ((25 : Int) < (t.size : Int)) = true)
    (KA : Box (∀ w, FAt w → TabAt w → Calls Tryz.prog 21 #[] w fun r w' => r = .returned (.bool true) ∧ Below w.heap.size w w'))
    (hT : FAt w) (hT2 : TabAt w) : Calls Tryz.prog 10 #[.int .u8 f, .int .u8 m, .agg #[.int .u64 (x : Nat), .int .u64 (y : Nat)], .agg #[.bool b, .string s, .string t, .int .i64 e]] w fun r w' => r = .returned (.bool true) ∧ Below w.heap.size w w' := by
  have FF := box hT
  have TT := box hT2
  clear hT hT2
  obtain ⟨Rb_0, Rx_0, B0⟩ := opn2 w (Obj.cells #[.int .u64 (x : Nat), .int .u64 (y : Nat)] 25) (Obj.cells #[.bool b, .string s, .string t, .int .i64 e] 41)
  go_enter Tryz.func10, Tryz.ntmps10
  go_wp2_with fail
  refine (KO.out _).mono ?_
  rintro r w1 ⟨rfl, b1⟩
  have B1 : Below w.heap.size w w1 := btr B0 b1
  have Rb_1 := heap_of b1 _ _ _ Rb_0
  have Rx_1 := heap_of b1 _ _ _ Rx_0
  clear b1 B0 Rb_0 Rx_0
  obtain ⟨cb_1_0, cb_1_1⟩ := cells2s Rb_1
  obtain ⟨cx_1_0, cx_1_1, cx_1_2, cx_1_3⟩ := cells4s Rx_1
  go_wp2_with fail
  refine (KF.out _ (fatB FF.out B1)).mono ?_
  rintro r w2 ⟨rfl, b2⟩
  have B2 : Below w.heap.size w w2 := btr B1 b2
  have Rb_2 := heap_of b2 _ _ _ Rb_1
  have Rx_2 := heap_of b2 _ _ _ Rx_1
  clear b2 B1 Rb_1 cb_1_0 cb_1_1 Rx_1 cx_1_0 cx_1_1 cx_1_2 cx_1_3
  obtain ⟨cb_2_0, cb_2_1⟩ := cells2s Rb_2
  obtain ⟨cx_2_0, cx_2_1, cx_2_2, cx_2_3⟩ := cells4s Rx_2
  go_wp2_with fail
  refine (KV.out _ (fatB FF.out B2) (tabB TT.out B2)).mono ?_
  rintro r w3 ⟨rfl, b3⟩
  have B3 : Below w.heap.size w w3 := btr B2 b3
  have Rb_3 := heap_of b3 _ _ _ Rb_2
  have Rx_3 := heap_of b3 _ _ _ Rx_2
  clear b3 B2 Rb_2 cb_2_0 cb_2_1 Rx_2 cx_2_0 cx_2_1 cx_2_2 cx_2_3
  obtain ⟨cb_3_0, cb_3_1⟩ := cells2s Rb_3
  obtain ⟨cx_3_0, cx_3_1, cx_3_2, cx_3_3⟩ := cells4s Rx_3
  have S4 := box B3.size
  have Lb_4 : Box (w.heap.size < w3.heap.size) := box (Array.getElem?_eq_some_iff.1 Rb_3).1
  have Lx_4 : Box (w.heap.size + 1 < w3.heap.size) := box (Array.getElem?_eq_some_iff.1 Rx_3).1
  have Rv_4 := heap_alloc_last w3 (Obj.cells #[.bool rb, .string u, .string v, .int .i64 re] 41)
  have B4 := btr B3 (bal w3 (Obj.cells #[.bool rb, .string u, .string v, .int .i64 re] 41))
  have Rb_4 := heap_of (bal w3 (Obj.cells #[.bool rb, .string u, .string v, .int .i64 re] 41)) _ _ _ Rb_3
  have Rx_4 := heap_of (bal w3 (Obj.cells #[.bool rb, .string u, .string v, .int .i64 re] 41)) _ _ _ Rx_3
  clear B3 Rb_3 cb_3_0 cb_3_1 Rx_3 cx_3_0 cx_3_1 cx_3_2 cx_3_3
  obtain ⟨cb_4_0, cb_4_1⟩ := cells2s Rb_4
  obtain ⟨cx_4_0, cx_4_1, cx_4_2, cx_4_3⟩ := cells4s Rx_4
  obtain ⟨cv_4_0, cv_4_1, cv_4_2, cv_4_3⟩ := cells4s Rv_4
  go_wp2_with fail
  refine (KR.out _ (fatB FF.out B4) (tabB TT.out B4)).mono ?_
  rintro r w5 ⟨rfl, b5⟩
  have B5 : Below w.heap.size w w5 := btr B4 b5
  have Rb_5 := heap_of b5 _ _ _ Rb_4
  have Rx_5 := heap_of b5 _ _ _ Rx_4
  have Rv_5 := heap_of b5 _ _ _ Rv_4
  clear b5 B4 Rb_4 cb_4_0 cb_4_1 Rx_4 cx_4_0 cx_4_1 cx_4_2 cx_4_3 Rv_4 cv_4_0 cv_4_1 cv_4_2 cv_4_3
  obtain ⟨cb_5_0, cb_5_1⟩ := cells2s Rb_5
  obtain ⟨cx_5_0, cx_5_1, cx_5_2, cx_5_3⟩ := cells4s Rx_5
  obtain ⟨cv_5_0, cv_5_1, cv_5_2, cv_5_3⟩ := cells4s Rv_5
  have S6 := box B5.size
  have Lb_6 : Box (w.heap.size < w5.heap.size) := box (Array.getElem?_eq_some_iff.1 Rb_5).1
  have Lx_6 : Box (w.heap.size + 1 < w5.heap.size) := box (Array.getElem?_eq_some_iff.1 Rx_5).1
  have Lv_6 : Box (w3.heap.size < w5.heap.size) := box (Array.getElem?_eq_some_iff.1 Rv_5).1
  have Rc_6 := heap_alloc_last w5 (Obj.cells #[.int .u64 (x : Nat), .int .u64 (y : Nat)] 25)
  have B6 := btr B5 (bal w5 (Obj.cells #[.int .u64 (x : Nat), .int .u64 (y : Nat)] 25))
  have Rb_6 := heap_of (bal w5 (Obj.cells #[.int .u64 (x : Nat), .int .u64 (y : Nat)] 25)) _ _ _ Rb_5
  have Rx_6 := heap_of (bal w5 (Obj.cells #[.int .u64 (x : Nat), .int .u64 (y : Nat)] 25)) _ _ _ Rx_5
  have Rv_6 := heap_of (bal w5 (Obj.cells #[.int .u64 (x : Nat), .int .u64 (y : Nat)] 25)) _ _ _ Rv_5
  clear B5 Rb_5 cb_5_0 cb_5_1 Rx_5 cx_5_0 cx_5_1 cx_5_2 cx_5_3 Rv_5 cv_5_0 cv_5_1 cv_5_2 cv_5_3
  obtain ⟨cb_6_0, cb_6_1⟩ := cells2s Rb_6
  obtain ⟨cx_6_0, cx_6_1, cx_6_2, cx_6_3⟩ := cells4s Rx_6
  obtain ⟨cv_6_0, cv_6_1, cv_6_2, cv_6_3⟩ := cells4s Rv_6
  obtain ⟨cc_6_0, cc_6_1⟩ := cells2s Rc_6
  go_wp2_with fail
  refine (KA.out _ (fatB FF.out B6) (tabB TT.out B6)).mono ?_
  rintro r w7 ⟨rfl, b7⟩
  have B7 : Below w.heap.size w w7 := btr B6 b7
  have Rb_7 := heap_of b7 _ _ _ Rb_6
  have Rx_7 := heap_of b7 _ _ _ Rx_6
  have Rv_7 := heap_of b7 _ _ _ Rv_6
  have Rc_7 := heap_of b7 _ _ _ Rc_6
  clear b7 B6 Rb_6 cb_6_0 cb_6_1 Rx_6 cx_6_0 cx_6_1 cx_6_2 cx_6_3 Rv_6 cv_6_0 cv_6_1 cv_6_2 cv_6_3 Rc_6 cc_6_0 cc_6_1
  obtain ⟨cb_7_0, cb_7_1⟩ := cells2s Rb_7
  obtain ⟨cx_7_0, cx_7_1, cx_7_2, cx_7_3⟩ := cells4s Rx_7
  obtain ⟨cv_7_0, cv_7_1, cv_7_2, cv_7_3⟩ := cells4s Rv_7
  obtain ⟨cc_7_0, cc_7_1⟩ := cells2s Rc_7
  go_wp2
  go_ret
  exact ⟨rfl, B7⟩
set_option maxRecDepth 100000 in
set_option maxHeartbeats 4000000 in
theorem ex_Bc (f m : Int) (x y : Nat) (b : Bool) (s t : ByteArray) (e : Int) (rb : Bool) (u v : ByteArray) (re : Int) (sb : Bool) (ss st : ByteArray) (se : Int) (i j : Nat) (fl : Int) (w : World)
    (KO : Box (∀ w, Calls Tryz.prog 31 #[.int .u8 m] w fun r w' => r = .returned (.bool true) ∧ Below w.heap.size w w'))
    (KF : Box (∀ w, FAt w → Calls Tryz.prog 41 #[.int .u8 f, .agg #[.int .u64 (x : Nat), .int .u64 (y : Nat)]] w fun r w' => r = .returned (.bool true) ∧ Below w.heap.size w w'))
    (KV : Box (∀ w, FAt w → TabAt w → Calls Tryz.prog 35 #[.int .u8 f, .agg #[.int .u64 (x : Nat), .int .u64 (y : Nat)]] w fun r w' => r = .returned (.tuple #[.agg #[.bool rb, .string u, .string v, .int .i64 re], .bool true]) ∧ Below w.heap.size w w'))
    (KR : Box (∀ w, FAt w → TabAt w → Calls Tryz.prog 22 #[.int .u8 f, .int .u8 m, .agg #[.bool rb, .string u, .string v, .int .i64 re]] w fun r w' => r = .returned (.tuple #[.agg #[.int .u64 (x : Nat), .int .u64 (y : Nat)], .int .u8 0, .int .i64 0]) ∧ Below w.heap.size w w'))
    (h1 : decide ((25 : Int) < (s.size : Int)) = false) (h2 : decide ((25 : Int) < (t.size : Int)) = false)
    (KM : Box (∀ w, Calls Tryz.prog 29 #[.agg #[.bool b, .string s, .string t, .int .i64 e]] w fun r w' => r = .returned (.bool false) ∧ Below w.heap.size w w'))
    (KA : Box (∀ w, FAt w → TabAt w → Calls Tryz.prog 21 #[] w fun r w' => r = .returned (.bool true) ∧ Below w.heap.size w w'))
    (hT : FAt w) (hT2 : TabAt w) : Calls Tryz.prog 10 #[.int .u8 f, .int .u8 m, .agg #[.int .u64 (x : Nat), .int .u64 (y : Nat)], .agg #[.bool b, .string s, .string t, .int .i64 e]] w fun r w' => r = .returned (.bool true) ∧ Below w.heap.size w w' := by
  have FF := box hT
  have TT := box hT2
  clear hT hT2
  obtain ⟨Rb_0, Rx_0, B0⟩ := opn2 w (Obj.cells #[.int .u64 (x : Nat), .int .u64 (y : Nat)] 25) (Obj.cells #[.bool b, .string s, .string t, .int .i64 e] 41)
  go_enter Tryz.func10, Tryz.ntmps10
  go_wp2_with fail
  refine (KO.out _).mono ?_
  rintro r w1 ⟨rfl, b1⟩
  have B1 : Below w.heap.size w w1 := btr B0 b1
  have Rb_1 := heap_of b1 _ _ _ Rb_0
  have Rx_1 := heap_of b1 _ _ _ Rx_0
  clear b1 B0 Rb_0 Rx_0
  obtain ⟨cb_1_0, cb_1_1⟩ := cells2s Rb_1
  obtain ⟨cx_1_0, cx_1_1, cx_1_2, cx_1_3⟩ := cells4s Rx_1
  go_wp2_with fail
  refine (KF.out _ (fatB FF.out B1)).mono ?_
  rintro r w2 ⟨rfl, b2⟩
  have B2 : Below w.heap.size w w2 := btr B1 b2
  have Rb_2 := heap_of b2 _ _ _ Rb_1
  have Rx_2 := heap_of b2 _ _ _ Rx_1
  clear b2 B1 Rb_1 cb_1_0 cb_1_1 Rx_1 cx_1_0 cx_1_1 cx_1_2 cx_1_3
  obtain ⟨cb_2_0, cb_2_1⟩ := cells2s Rb_2
  obtain ⟨cx_2_0, cx_2_1, cx_2_2, cx_2_3⟩ := cells4s Rx_2
  go_wp2_with fail
  refine (KV.out _ (fatB FF.out B2) (tabB TT.out B2)).mono ?_
  rintro r w3 ⟨rfl, b3⟩
  have B3 : Below w.heap.size w w3 := btr B2 b3
  have Rb_3 := heap_of b3 _ _ _ Rb_2
  have Rx_3 := heap_of b3 _ _ _ Rx_2
  clear b3 B2 Rb_2 cb_2_0 cb_2_1 Rx_2 cx_2_0 cx_2_1 cx_2_2 cx_2_3
  obtain ⟨cb_3_0, cb_3_1⟩ := cells2s Rb_3
  obtain ⟨cx_3_0, cx_3_1, cx_3_2, cx_3_3⟩ := cells4s Rx_3
  have S4 := box B3.size
  have Lb_4 : Box (w.heap.size < w3.heap.size) := box (Array.getElem?_eq_some_iff.1 Rb_3).1
  have Lx_4 : Box (w.heap.size + 1 < w3.heap.size) := box (Array.getElem?_eq_some_iff.1 Rx_3).1
  have Rv_4 := heap_alloc_last w3 (Obj.cells #[.bool rb, .string u, .string v, .int .i64 re] 41)
  have B4 := btr B3 (bal w3 (Obj.cells #[.bool rb, .string u, .string v, .int .i64 re] 41))
  have Rb_4 := heap_of (bal w3 (Obj.cells #[.bool rb, .string u, .string v, .int .i64 re] 41)) _ _ _ Rb_3
  have Rx_4 := heap_of (bal w3 (Obj.cells #[.bool rb, .string u, .string v, .int .i64 re] 41)) _ _ _ Rx_3
  clear B3 Rb_3 cb_3_0 cb_3_1 Rx_3 cx_3_0 cx_3_1 cx_3_2 cx_3_3
  obtain ⟨cb_4_0, cb_4_1⟩ := cells2s Rb_4
  obtain ⟨cx_4_0, cx_4_1, cx_4_2, cx_4_3⟩ := cells4s Rx_4
  obtain ⟨cv_4_0, cv_4_1, cv_4_2, cv_4_3⟩ := cells4s Rv_4
  go_wp2_with fail
  refine (KR.out _ (fatB FF.out B4) (tabB TT.out B4)).mono ?_
  rintro r w5 ⟨rfl, b5⟩
  have B5 : Below w.heap.size w w5 := btr B4 b5
  have Rb_5 := heap_of b5 _ _ _ Rb_4
  have Rx_5 := heap_of b5 _ _ _ Rx_4
  have Rv_5 := heap_of b5 _ _ _ Rv_4
  clear b5 B4 Rb_4 cb_4_0 cb_4_1 Rx_4 cx_4_0 cx_4_1 cx_4_2 cx_4_3 Rv_4 cv_4_0 cv_4_1 cv_4_2 cv_4_3
  obtain ⟨cb_5_0, cb_5_1⟩ := cells2s Rb_5
  obtain ⟨cx_5_0, cx_5_1, cx_5_2, cx_5_3⟩ := cells4s Rx_5
  obtain ⟨cv_5_0, cv_5_1, cv_5_2, cv_5_3⟩ := cells4s Rv_5
  have S6 := box B5.size
  have Lb_6 : Box (w.heap.size < w5.heap.size) := box (Array.getElem?_eq_some_iff.1 Rb_5).1
  have Lx_6 : Box (w.heap.size + 1 < w5.heap.size) := box (Array.getElem?_eq_some_iff.1 Rx_5).1
  have Lv_6 : Box (w3.heap.size < w5.heap.size) := box (Array.getElem?_eq_some_iff.1 Rv_5).1
  have Rc_6 := heap_alloc_last w5 (Obj.cells #[.int .u64 (x : Nat), .int .u64 (y : Nat)] 25)
  have B6 := btr B5 (bal w5 (Obj.cells #[.int .u64 (x : Nat), .int .u64 (y : Nat)] 25))
  have Rb_6 := heap_of (bal w5 (Obj.cells #[.int .u64 (x : Nat), .int .u64 (y : Nat)] 25)) _ _ _ Rb_5
  have Rx_6 := heap_of (bal w5 (Obj.cells #[.int .u64 (x : Nat), .int .u64 (y : Nat)] 25)) _ _ _ Rx_5
  have Rv_6 := heap_of (bal w5 (Obj.cells #[.int .u64 (x : Nat), .int .u64 (y : Nat)] 25)) _ _ _ Rv_5
  clear B5 Rb_5 cb_5_0 cb_5_1 Rx_5 cx_5_0 cx_5_1 cx_5_2 cx_5_3 Rv_5 cv_5_0 cv_5_1 cv_5_2 cv_5_3
  obtain ⟨cb_6_0, cb_6_1⟩ := cells2s Rb_6
  obtain ⟨cx_6_0, cx_6_1, cx_6_2, cx_6_3⟩ := cells4s Rx_6
  obtain ⟨cv_6_0, cv_6_1, cv_6_2, cv_6_3⟩ := cells4s Rv_6
  obtain ⟨cc_6_0, cc_6_1⟩ := cells2s Rc_6
  go_wp2_with fail
  refine (KM.out _).mono ?_
  rintro r w7 ⟨rfl, b7⟩
  have B7 : Below w.heap.size w w7 := btr B6 b7
  have Rb_7 := heap_of b7 _ _ _ Rb_6
  have Rx_7 := heap_of b7 _ _ _ Rx_6
  have Rv_7 := heap_of b7 _ _ _ Rv_6
  have Rc_7 := heap_of b7 _ _ _ Rc_6
  clear b7 B6 Rb_6 cb_6_0 cb_6_1 Rx_6 cx_6_0 cx_6_1 cx_6_2 cx_6_3 Rv_6 cv_6_0 cv_6_1 cv_6_2 cv_6_3 Rc_6 cc_6_0 cc_6_1
  obtain ⟨cb_7_0, cb_7_1⟩ := cells2s Rb_7
  obtain ⟨cx_7_0, cx_7_1, cx_7_2, cx_7_3⟩ := cells4s Rx_7
  obtain ⟨cv_7_0, cv_7_1, cv_7_2, cv_7_3⟩ := cells4s Rv_7
  obtain ⟨cc_7_0, cc_7_1⟩ := cells2s Rc_7
  go_wp2_with fail
  refine (KA.out _ (fatB FF.out B7) (tabB TT.out B7)).mono ?_
  rintro r w8 ⟨rfl, b8⟩
  have B8 : Below w.heap.size w w8 := btr B7 b8
  have Rb_8 := heap_of b8 _ _ _ Rb_7
  have Rx_8 := heap_of b8 _ _ _ Rx_7
  have Rv_8 := heap_of b8 _ _ _ Rv_7
  have Rc_8 := heap_of b8 _ _ _ Rc_7
  clear b8 B7 Rb_7 cb_7_0 cb_7_1 Rx_7 cx_7_0 cx_7_1 cx_7_2 cx_7_3 Rv_7 cv_7_0 cv_7_1 cv_7_2 cv_7_3 Rc_7 cc_7_0 cc_7_1
  obtain ⟨cb_8_0, cb_8_1⟩ := cells2s Rb_8
  obtain ⟨cx_8_0, cx_8_1, cx_8_2, cx_8_3⟩ := cells4s Rx_8
  obtain ⟨cv_8_0, cv_8_1, cv_8_2, cv_8_3⟩ := cells4s Rv_8
  obtain ⟨cc_8_0, cc_8_1⟩ := cells2s Rc_8
  go_wp2
  go_ret
  exact ⟨rfl, B8⟩
set_option maxRecDepth 100000 in
set_option maxHeartbeats 4000000 in
theorem ex_Bd (f m : Int) (x y : Nat) (b : Bool) (s t : ByteArray) (e : Int) (rb : Bool) (u v : ByteArray) (re : Int) (sb : Bool) (ss st : ByteArray) (se : Int) (i j : Nat) (fl : Int) (w : World)
    (KO : Box (∀ w, Calls Tryz.prog 31 #[.int .u8 m] w fun r w' => r = .returned (.bool true) ∧ Below w.heap.size w w'))
    (KF : Box (∀ w, FAt w → Calls Tryz.prog 41 #[.int .u8 f, .agg #[.int .u64 (x : Nat), .int .u64 (y : Nat)]] w fun r w' => r = .returned (.bool true) ∧ Below w.heap.size w w'))
    (KV : Box (∀ w, FAt w → TabAt w → Calls Tryz.prog 35 #[.int .u8 f, .agg #[.int .u64 (x : Nat), .int .u64 (y : Nat)]] w fun r w' => r = .returned (.tuple #[.agg #[.bool rb, .string u, .string v, .int .i64 re], .bool true]) ∧ Below w.heap.size w w'))
    (KR : Box (∀ w, FAt w → TabAt w → Calls Tryz.prog 22 #[.int .u8 f, .int .u8 m, .agg #[.bool rb, .string u, .string v, .int .i64 re]] w fun r w' => r = .returned (.tuple #[.agg #[.int .u64 (x : Nat), .int .u64 (y : Nat)], .int .u8 0, .int .i64 0]) ∧ Below w.heap.size w w'))
    (h1 : decide ((25 : Int) < (s.size : Int)) = false) (h2 : decide ((25 : Int) < (t.size : Int)) = false) (h3 : decide ((400000 : Int) < e) = true)
    (KM : Box (∀ w, Calls Tryz.prog 29 #[.agg #[.bool b, .string s, .string t, .int .i64 e]] w fun r w' => r = .returned (.bool true) ∧ Below w.heap.size w w'))
    (KA : Box (∀ w, FAt w → TabAt w → Calls Tryz.prog 21 #[] w fun r w' => r = .returned (.bool true) ∧ Below w.heap.size w w'))
    (hT : FAt w) (hT2 : TabAt w) : Calls Tryz.prog 10 #[.int .u8 f, .int .u8 m, .agg #[.int .u64 (x : Nat), .int .u64 (y : Nat)], .agg #[.bool b, .string s, .string t, .int .i64 e]] w fun r w' => r = .returned (.bool true) ∧ Below w.heap.size w w' := by
  have FF := box hT
  have TT := box hT2
  clear hT hT2
  obtain ⟨Rb_0, Rx_0, B0⟩ := opn2 w (Obj.cells #[.int .u64 (x : Nat), .int .u64 (y : Nat)] 25) (Obj.cells #[.bool b, .string s, .string t, .int .i64 e] 41)
  go_enter Tryz.func10, Tryz.ntmps10
  go_wp2_with fail
  refine (KO.out _).mono ?_
  rintro r w1 ⟨rfl, b1⟩
  have B1 : Below w.heap.size w w1 := btr B0 b1
  have Rb_1 := heap_of b1 _ _ _ Rb_0
  have Rx_1 := heap_of b1 _ _ _ Rx_0
  clear b1 B0 Rb_0 Rx_0
  obtain ⟨cb_1_0, cb_1_1⟩ := cells2s Rb_1
  obtain ⟨cx_1_0, cx_1_1, cx_1_2, cx_1_3⟩ := cells4s Rx_1
  go_wp2_with fail
  refine (KF.out _ (fatB FF.out B1)).mono ?_
  rintro r w2 ⟨rfl, b2⟩
  have B2 : Below w.heap.size w w2 := btr B1 b2
  have Rb_2 := heap_of b2 _ _ _ Rb_1
  have Rx_2 := heap_of b2 _ _ _ Rx_1
  clear b2 B1 Rb_1 cb_1_0 cb_1_1 Rx_1 cx_1_0 cx_1_1 cx_1_2 cx_1_3
  obtain ⟨cb_2_0, cb_2_1⟩ := cells2s Rb_2
  obtain ⟨cx_2_0, cx_2_1, cx_2_2, cx_2_3⟩ := cells4s Rx_2
  go_wp2_with fail
  refine (KV.out _ (fatB FF.out B2) (tabB TT.out B2)).mono ?_
  rintro r w3 ⟨rfl, b3⟩
  have B3 : Below w.heap.size w w3 := btr B2 b3
  have Rb_3 := heap_of b3 _ _ _ Rb_2
  have Rx_3 := heap_of b3 _ _ _ Rx_2
  clear b3 B2 Rb_2 cb_2_0 cb_2_1 Rx_2 cx_2_0 cx_2_1 cx_2_2 cx_2_3
  obtain ⟨cb_3_0, cb_3_1⟩ := cells2s Rb_3
  obtain ⟨cx_3_0, cx_3_1, cx_3_2, cx_3_3⟩ := cells4s Rx_3
  have S4 := box B3.size
  have Lb_4 : Box (w.heap.size < w3.heap.size) := box (Array.getElem?_eq_some_iff.1 Rb_3).1
  have Lx_4 : Box (w.heap.size + 1 < w3.heap.size) := box (Array.getElem?_eq_some_iff.1 Rx_3).1
  have Rv_4 := heap_alloc_last w3 (Obj.cells #[.bool rb, .string u, .string v, .int .i64 re] 41)
  have B4 := btr B3 (bal w3 (Obj.cells #[.bool rb, .string u, .string v, .int .i64 re] 41))
  have Rb_4 := heap_of (bal w3 (Obj.cells #[.bool rb, .string u, .string v, .int .i64 re] 41)) _ _ _ Rb_3
  have Rx_4 := heap_of (bal w3 (Obj.cells #[.bool rb, .string u, .string v, .int .i64 re] 41)) _ _ _ Rx_3
  clear B3 Rb_3 cb_3_0 cb_3_1 Rx_3 cx_3_0 cx_3_1 cx_3_2 cx_3_3
  obtain ⟨cb_4_0, cb_4_1⟩ := cells2s Rb_4
  obtain ⟨cx_4_0, cx_4_1, cx_4_2, cx_4_3⟩ := cells4s Rx_4
  obtain ⟨cv_4_0, cv_4_1, cv_4_2, cv_4_3⟩ := cells4s Rv_4
  go_wp2_with fail
  refine (KR.out _ (fatB FF.out B4) (tabB TT.out B4)).mono ?_
  rintro r w5 ⟨rfl, b5⟩
  have B5 : Below w.heap.size w w5 := btr B4 b5
  have Rb_5 := heap_of b5 _ _ _ Rb_4
  have Rx_5 := heap_of b5 _ _ _ Rx_4
  have Rv_5 := heap_of b5 _ _ _ Rv_4
  clear b5 B4 Rb_4 cb_4_0 cb_4_1 Rx_4 cx_4_0 cx_4_1 cx_4_2 cx_4_3 Rv_4 cv_4_0 cv_4_1 cv_4_2 cv_4_3
  obtain ⟨cb_5_0, cb_5_1⟩ := cells2s Rb_5
  obtain ⟨cx_5_0, cx_5_1, cx_5_2, cx_5_3⟩ := cells4s Rx_5
  obtain ⟨cv_5_0, cv_5_1, cv_5_2, cv_5_3⟩ := cells4s Rv_5
  have S6 := box B5.size
  have Lb_6 : Box (w.heap.size < w5.heap.size) := box (Array.getElem?_eq_some_iff.1 Rb_5).1
  have Lx_6 : Box (w.heap.size + 1 < w5.heap.size) := box (Array.getElem?_eq_some_iff.1 Rx_5).1
  have Lv_6 : Box (w3.heap.size < w5.heap.size) := box (Array.getElem?_eq_some_iff.1 Rv_5).1
  have Rc_6 := heap_alloc_last w5 (Obj.cells #[.int .u64 (x : Nat), .int .u64 (y : Nat)] 25)
  have B6 := btr B5 (bal w5 (Obj.cells #[.int .u64 (x : Nat), .int .u64 (y : Nat)] 25))
  have Rb_6 := heap_of (bal w5 (Obj.cells #[.int .u64 (x : Nat), .int .u64 (y : Nat)] 25)) _ _ _ Rb_5
  have Rx_6 := heap_of (bal w5 (Obj.cells #[.int .u64 (x : Nat), .int .u64 (y : Nat)] 25)) _ _ _ Rx_5
  have Rv_6 := heap_of (bal w5 (Obj.cells #[.int .u64 (x : Nat), .int .u64 (y : Nat)] 25)) _ _ _ Rv_5
  clear B5 Rb_5 cb_5_0 cb_5_1 Rx_5 cx_5_0 cx_5_1 cx_5_2 cx_5_3 Rv_5 cv_5_0 cv_5_1 cv_5_2 cv_5_3
  obtain ⟨cb_6_0, cb_6_1⟩ := cells2s Rb_6
  obtain ⟨cx_6_0, cx_6_1, cx_6_2, cx_6_3⟩ := cells4s Rx_6
  obtain ⟨cv_6_0, cv_6_1, cv_6_2, cv_6_3⟩ := cells4s Rv_6
  obtain ⟨cc_6_0, cc_6_1⟩ := cells2s Rc_6
  go_wp2_with fail
  refine (KM.out _).mono ?_
  rintro r w7 ⟨rfl, b7⟩
  have B7 : Below w.heap.size w w7 := btr B6 b7
  have Rb_7 := heap_of b7 _ _ _ Rb_6
  have Rx_7 := heap_of b7 _ _ _ Rx_6
  have Rv_7 := heap_of b7 _ _ _ Rv_6
  have Rc_7 := heap_of b7 _ _ _ Rc_6
  clear b7 B6 Rb_6 cb_6_0 cb_6_1 Rx_6 cx_6_0 cx_6_1 cx_6_2 cx_6_3 Rv_6 cv_6_0 cv_6_1 cv_6_2 cv_6_3 Rc_6 cc_6_0 cc_6_1
  obtain ⟨cb_7_0, cb_7_1⟩ := cells2s Rb_7
  obtain ⟨cx_7_0, cx_7_1, cx_7_2, cx_7_3⟩ := cells4s Rx_7
  obtain ⟨cv_7_0, cv_7_1, cv_7_2, cv_7_3⟩ := cells4s Rv_7
  obtain ⟨cc_7_0, cc_7_1⟩ := cells2s Rc_7
  go_wp2_with fail
  refine (KA.out _ (fatB FF.out B7) (tabB TT.out B7)).mono ?_
  rintro r w8 ⟨rfl, b8⟩
  have B8 : Below w.heap.size w w8 := btr B7 b8
  have Rb_8 := heap_of b8 _ _ _ Rb_7
  have Rx_8 := heap_of b8 _ _ _ Rx_7
  have Rv_8 := heap_of b8 _ _ _ Rv_7
  have Rc_8 := heap_of b8 _ _ _ Rc_7
  clear b8 B7 Rb_7 cb_7_0 cb_7_1 Rx_7 cx_7_0 cx_7_1 cx_7_2 cx_7_3 Rv_7 cv_7_0 cv_7_1 cv_7_2 cv_7_3 Rc_7 cc_7_0 cc_7_1
  obtain ⟨cb_8_0, cb_8_1⟩ := cells2s Rb_8
  obtain ⟨cx_8_0, cx_8_1, cx_8_2, cx_8_3⟩ := cells4s Rx_8
  obtain ⟨cv_8_0, cv_8_1, cv_8_2, cv_8_3⟩ := cells4s Rv_8
  obtain ⟨cc_8_0, cc_8_1⟩ := cells2s Rc_8
  go_wp2
  go_ret
  exact ⟨rfl, B8⟩
set_option maxRecDepth 100000 in
set_option maxHeartbeats 4000000 in
theorem ex_Be (f m : Int) (x y : Nat) (b : Bool) (s t : ByteArray) (e : Int) (rb : Bool) (u v : ByteArray) (re : Int) (sb : Bool) (ss st : ByteArray) (se : Int) (i j : Nat) (fl : Int) (w : World)
    (KO : Box (∀ w, Calls Tryz.prog 31 #[.int .u8 m] w fun r w' => r = .returned (.bool true) ∧ Below w.heap.size w w'))
    (KF : Box (∀ w, FAt w → Calls Tryz.prog 41 #[.int .u8 f, .agg #[.int .u64 (x : Nat), .int .u64 (y : Nat)]] w fun r w' => r = .returned (.bool true) ∧ Below w.heap.size w w'))
    (KV : Box (∀ w, FAt w → TabAt w → Calls Tryz.prog 35 #[.int .u8 f, .agg #[.int .u64 (x : Nat), .int .u64 (y : Nat)]] w fun r w' => r = .returned (.tuple #[.agg #[.bool rb, .string u, .string v, .int .i64 re], .bool true]) ∧ Below w.heap.size w w'))
    (KR : Box (∀ w, FAt w → TabAt w → Calls Tryz.prog 22 #[.int .u8 f, .int .u8 m, .agg #[.bool rb, .string u, .string v, .int .i64 re]] w fun r w' => r = .returned (.tuple #[.agg #[.int .u64 (x : Nat), .int .u64 (y : Nat)], .int .u8 0, .int .i64 0]) ∧ Below w.heap.size w w'))
    (h1 : decide ((25 : Int) < (s.size : Int)) = false) (h2 : decide ((25 : Int) < (t.size : Int)) = false) (h3 : decide ((400000 : Int) < e) = false) (h4 : decide (e < -400000) = true)
    (KM : Box (∀ w, Calls Tryz.prog 29 #[.agg #[.bool b, .string s, .string t, .int .i64 e]] w fun r w' => r = .returned (.bool true) ∧ Below w.heap.size w w'))
    (KA : Box (∀ w, FAt w → TabAt w → Calls Tryz.prog 21 #[] w fun r w' => r = .returned (.bool true) ∧ Below w.heap.size w w'))
    (hT : FAt w) (hT2 : TabAt w) : Calls Tryz.prog 10 #[.int .u8 f, .int .u8 m, .agg #[.int .u64 (x : Nat), .int .u64 (y : Nat)], .agg #[.bool b, .string s, .string t, .int .i64 e]] w fun r w' => r = .returned (.bool true) ∧ Below w.heap.size w w' := by
  have FF := box hT
  have TT := box hT2
  clear hT hT2
  obtain ⟨Rb_0, Rx_0, B0⟩ := opn2 w (Obj.cells #[.int .u64 (x : Nat), .int .u64 (y : Nat)] 25) (Obj.cells #[.bool b, .string s, .string t, .int .i64 e] 41)
  go_enter Tryz.func10, Tryz.ntmps10
  go_wp2_with fail
  refine (KO.out _).mono ?_
  rintro r w1 ⟨rfl, b1⟩
  have B1 : Below w.heap.size w w1 := btr B0 b1
  have Rb_1 := heap_of b1 _ _ _ Rb_0
  have Rx_1 := heap_of b1 _ _ _ Rx_0
  clear b1 B0 Rb_0 Rx_0
  obtain ⟨cb_1_0, cb_1_1⟩ := cells2s Rb_1
  obtain ⟨cx_1_0, cx_1_1, cx_1_2, cx_1_3⟩ := cells4s Rx_1
  go_wp2_with fail
  refine (KF.out _ (fatB FF.out B1)).mono ?_
  rintro r w2 ⟨rfl, b2⟩
  have B2 : Below w.heap.size w w2 := btr B1 b2
  have Rb_2 := heap_of b2 _ _ _ Rb_1
  have Rx_2 := heap_of b2 _ _ _ Rx_1
  clear b2 B1 Rb_1 cb_1_0 cb_1_1 Rx_1 cx_1_0 cx_1_1 cx_1_2 cx_1_3
  obtain ⟨cb_2_0, cb_2_1⟩ := cells2s Rb_2
  obtain ⟨cx_2_0, cx_2_1, cx_2_2, cx_2_3⟩ := cells4s Rx_2
  go_wp2_with fail
  refine (KV.out _ (fatB FF.out B2) (tabB TT.out B2)).mono ?_
  rintro r w3 ⟨rfl, b3⟩
  have B3 : Below w.heap.size w w3 := btr B2 b3
  have Rb_3 := heap_of b3 _ _ _ Rb_2
  have Rx_3 := heap_of b3 _ _ _ Rx_2
  clear b3 B2 Rb_2 cb_2_0 cb_2_1 Rx_2 cx_2_0 cx_2_1 cx_2_2 cx_2_3
  obtain ⟨cb_3_0, cb_3_1⟩ := cells2s Rb_3
  obtain ⟨cx_3_0, cx_3_1, cx_3_2, cx_3_3⟩ := cells4s Rx_3
  have S4 := box B3.size
  have Lb_4 : Box (w.heap.size < w3.heap.size) := box (Array.getElem?_eq_some_iff.1 Rb_3).1
  have Lx_4 : Box (w.heap.size + 1 < w3.heap.size) := box (Array.getElem?_eq_some_iff.1 Rx_3).1
  have Rv_4 := heap_alloc_last w3 (Obj.cells #[.bool rb, .string u, .string v, .int .i64 re] 41)
  have B4 := btr B3 (bal w3 (Obj.cells #[.bool rb, .string u, .string v, .int .i64 re] 41))
  have Rb_4 := heap_of (bal w3 (Obj.cells #[.bool rb, .string u, .string v, .int .i64 re] 41)) _ _ _ Rb_3
  have Rx_4 := heap_of (bal w3 (Obj.cells #[.bool rb, .string u, .string v, .int .i64 re] 41)) _ _ _ Rx_3
  clear B3 Rb_3 cb_3_0 cb_3_1 Rx_3 cx_3_0 cx_3_1 cx_3_2 cx_3_3
  obtain ⟨cb_4_0, cb_4_1⟩ := cells2s Rb_4
  obtain ⟨cx_4_0, cx_4_1, cx_4_2, cx_4_3⟩ := cells4s Rx_4
  obtain ⟨cv_4_0, cv_4_1, cv_4_2, cv_4_3⟩ := cells4s Rv_4
  go_wp2_with fail
  refine (KR.out _ (fatB FF.out B4) (tabB TT.out B4)).mono ?_
  rintro r w5 ⟨rfl, b5⟩
  have B5 : Below w.heap.size w w5 := btr B4 b5
  have Rb_5 := heap_of b5 _ _ _ Rb_4
  have Rx_5 := heap_of b5 _ _ _ Rx_4
  have Rv_5 := heap_of b5 _ _ _ Rv_4
  clear b5 B4 Rb_4 cb_4_0 cb_4_1 Rx_4 cx_4_0 cx_4_1 cx_4_2 cx_4_3 Rv_4 cv_4_0 cv_4_1 cv_4_2 cv_4_3
  obtain ⟨cb_5_0, cb_5_1⟩ := cells2s Rb_5
  obtain ⟨cx_5_0, cx_5_1, cx_5_2, cx_5_3⟩ := cells4s Rx_5
  obtain ⟨cv_5_0, cv_5_1, cv_5_2, cv_5_3⟩ := cells4s Rv_5
  have S6 := box B5.size
  have Lb_6 : Box (w.heap.size < w5.heap.size) := box (Array.getElem?_eq_some_iff.1 Rb_5).1
  have Lx_6 : Box (w.heap.size + 1 < w5.heap.size) := box (Array.getElem?_eq_some_iff.1 Rx_5).1
  have Lv_6 : Box (w3.heap.size < w5.heap.size) := box (Array.getElem?_eq_some_iff.1 Rv_5).1
  have Rc_6 := heap_alloc_last w5 (Obj.cells #[.int .u64 (x : Nat), .int .u64 (y : Nat)] 25)
  have B6 := btr B5 (bal w5 (Obj.cells #[.int .u64 (x : Nat), .int .u64 (y : Nat)] 25))
  have Rb_6 := heap_of (bal w5 (Obj.cells #[.int .u64 (x : Nat), .int .u64 (y : Nat)] 25)) _ _ _ Rb_5
  have Rx_6 := heap_of (bal w5 (Obj.cells #[.int .u64 (x : Nat), .int .u64 (y : Nat)] 25)) _ _ _ Rx_5
  have Rv_6 := heap_of (bal w5 (Obj.cells #[.int .u64 (x : Nat), .int .u64 (y : Nat)] 25)) _ _ _ Rv_5
  clear B5 Rb_5 cb_5_0 cb_5_1 Rx_5 cx_5_0 cx_5_1 cx_5_2 cx_5_3 Rv_5 cv_5_0 cv_5_1 cv_5_2 cv_5_3
  obtain ⟨cb_6_0, cb_6_1⟩ := cells2s Rb_6
  obtain ⟨cx_6_0, cx_6_1, cx_6_2, cx_6_3⟩ := cells4s Rx_6
  obtain ⟨cv_6_0, cv_6_1, cv_6_2, cv_6_3⟩ := cells4s Rv_6
  obtain ⟨cc_6_0, cc_6_1⟩ := cells2s Rc_6
  go_wp2_with fail
  refine (KM.out _).mono ?_
  rintro r w7 ⟨rfl, b7⟩
  have B7 : Below w.heap.size w w7 := btr B6 b7
  have Rb_7 := heap_of b7 _ _ _ Rb_6
  have Rx_7 := heap_of b7 _ _ _ Rx_6
  have Rv_7 := heap_of b7 _ _ _ Rv_6
  have Rc_7 := heap_of b7 _ _ _ Rc_6
  clear b7 B6 Rb_6 cb_6_0 cb_6_1 Rx_6 cx_6_0 cx_6_1 cx_6_2 cx_6_3 Rv_6 cv_6_0 cv_6_1 cv_6_2 cv_6_3 Rc_6 cc_6_0 cc_6_1
  obtain ⟨cb_7_0, cb_7_1⟩ := cells2s Rb_7
  obtain ⟨cx_7_0, cx_7_1, cx_7_2, cx_7_3⟩ := cells4s Rx_7
  obtain ⟨cv_7_0, cv_7_1, cv_7_2, cv_7_3⟩ := cells4s Rv_7
  obtain ⟨cc_7_0, cc_7_1⟩ := cells2s Rc_7
  go_wp2_with fail
  refine (KA.out _ (fatB FF.out B7) (tabB TT.out B7)).mono ?_
  rintro r w8 ⟨rfl, b8⟩
  have B8 : Below w.heap.size w w8 := btr B7 b8
  have Rb_8 := heap_of b8 _ _ _ Rb_7
  have Rx_8 := heap_of b8 _ _ _ Rx_7
  have Rv_8 := heap_of b8 _ _ _ Rv_7
  have Rc_8 := heap_of b8 _ _ _ Rc_7
  clear b8 B7 Rb_7 cb_7_0 cb_7_1 Rx_7 cx_7_0 cx_7_1 cx_7_2 cx_7_3 Rv_7 cv_7_0 cv_7_1 cv_7_2 cv_7_3 Rc_7 cc_7_0 cc_7_1
  obtain ⟨cb_8_0, cb_8_1⟩ := cells2s Rb_8
  obtain ⟨cx_8_0, cx_8_1, cx_8_2, cx_8_3⟩ := cells4s Rx_8
  obtain ⟨cv_8_0, cv_8_1, cv_8_2, cv_8_3⟩ := cells4s Rv_8
  obtain ⟨cc_8_0, cc_8_1⟩ := cells2s Rc_8
  go_wp2
  go_ret
  exact ⟨rfl, B8⟩
set_option maxRecDepth 100000 in
set_option maxHeartbeats 4000000 in
theorem ex_Bf (f m : Int) (x y : Nat) (b : Bool) (s t : ByteArray) (e : Int) (rb : Bool) (u v : ByteArray) (re : Int) (sb : Bool) (ss st : ByteArray) (se : Int) (i j : Nat) (fl : Int) (w : World)
    (KO : Box (∀ w, Calls Tryz.prog 31 #[.int .u8 m] w fun r w' => r = .returned (.bool true) ∧ Below w.heap.size w w'))
    (KF : Box (∀ w, FAt w → Calls Tryz.prog 41 #[.int .u8 f, .agg #[.int .u64 (x : Nat), .int .u64 (y : Nat)]] w fun r w' => r = .returned (.bool true) ∧ Below w.heap.size w w'))
    (KV : Box (∀ w, FAt w → TabAt w → Calls Tryz.prog 35 #[.int .u8 f, .agg #[.int .u64 (x : Nat), .int .u64 (y : Nat)]] w fun r w' => r = .returned (.tuple #[.agg #[.bool rb, .string u, .string v, .int .i64 re], .bool true]) ∧ Below w.heap.size w w'))
    (KR : Box (∀ w, FAt w → TabAt w → Calls Tryz.prog 22 #[.int .u8 f, .int .u8 m, .agg #[.bool rb, .string u, .string v, .int .i64 re]] w fun r w' => r = .returned (.tuple #[.agg #[.int .u64 (x : Nat), .int .u64 (y : Nat)], .int .u8 0, .int .i64 0]) ∧ Below w.heap.size w w'))
    (h1 : decide ((25 : Int) < (s.size : Int)) = false) (h2 : decide ((25 : Int) < (t.size : Int)) = false) (h3 : decide ((400000 : Int) < e) = false) (h4 : decide (e < -400000) = false)
    (KM : Box (∀ w, Calls Tryz.prog 29 #[.agg #[.bool b, .string s, .string t, .int .i64 e]] w fun r w' => r = .returned (.bool true) ∧ Below w.heap.size w w'))
    (KX : Box (∀ w, TabAt w → Calls Tryz.prog 42 #[.agg #[.bool b, .string s, .string t, .int .i64 e], .agg #[.bool b, .string s, .string t, .int .i64 e]] w fun r w' => r = .returned (.tuple #[.agg #[.bool sb, .string ss, .string st, .int .i64 se], .int .i64 0]) ∧ Below w.heap.size w w'))
    (KQ : Box (∀ w, FAt w → TabAt w → Calls Tryz.prog 24 #[.int .u8 f, .int .u8 m, .agg #[.bool sb, .string ss, .string st, .int .i64 se]] w fun r w' => r = .returned (.tuple #[.agg #[.int .u64 (i : Nat), .int .u64 (j : Nat)], .int .u8 fl, .int .i64 0]) ∧ Below w.heap.size w w'))
    (KB : Box (∀ w, TabAt w → Calls Tryz.prog 38 #[.agg #[.bool b, .string s, .string t, .int .i64 e]] w fun r w' => r = .returned (.agg #[.bool false, .string s, .string t, .int .i64 e]) ∧ Below w.heap.size w w'))
    (KD : Box (∀ w, FAt w → TabAt w → Calls Tryz.prog 22 #[.int .u8 f, .int .u8 m, .agg #[.bool false, .string s, .string t, .int .i64 e]] w fun r w' => r = .returned (.tuple #[.agg #[.int .u64 (i : Nat), .int .u64 (j : Nat)], .int .u8 fl, .int .i64 0]) ∧ Below w.heap.size w w'))
    (KA : Box (∀ w, FAt w → TabAt w → Calls Tryz.prog 21 #[] w fun r w' => r = .returned (.bool true) ∧ Below w.heap.size w w'))
    (hT : FAt w) (hT2 : TabAt w) : Calls Tryz.prog 10 #[.int .u8 f, .int .u8 m, .agg #[.int .u64 (x : Nat), .int .u64 (y : Nat)], .agg #[.bool b, .string s, .string t, .int .i64 e]] w fun r w' => r = .returned (.bool true) ∧ Below w.heap.size w w' := by
  have FF := box hT
  have TT := box hT2
  clear hT hT2
  obtain ⟨Rb_0, Rx_0, B0⟩ := opn2 w (Obj.cells #[.int .u64 (x : Nat), .int .u64 (y : Nat)] 25) (Obj.cells #[.bool b, .string s, .string t, .int .i64 e] 41)
  go_enter Tryz.func10, Tryz.ntmps10
  go_wp2_with fail
  refine (KO.out _).mono ?_
  rintro r w1 ⟨rfl, b1⟩
  have B1 : Below w.heap.size w w1 := btr B0 b1
  have Rb_1 := heap_of b1 _ _ _ Rb_0
  have Rx_1 := heap_of b1 _ _ _ Rx_0
  clear b1 B0 Rb_0 Rx_0
  obtain ⟨cb_1_0, cb_1_1⟩ := cells2s Rb_1
  obtain ⟨cx_1_0, cx_1_1, cx_1_2, cx_1_3⟩ := cells4s Rx_1
  go_wp2_with fail
  refine (KF.out _ (fatB FF.out B1)).mono ?_
  rintro r w2 ⟨rfl, b2⟩
  have B2 : Below w.heap.size w w2 := btr B1 b2
  have Rb_2 := heap_of b2 _ _ _ Rb_1
  have Rx_2 := heap_of b2 _ _ _ Rx_1
  clear b2 B1 Rb_1 cb_1_0 cb_1_1 Rx_1 cx_1_0 cx_1_1 cx_1_2 cx_1_3
  obtain ⟨cb_2_0, cb_2_1⟩ := cells2s Rb_2
  obtain ⟨cx_2_0, cx_2_1, cx_2_2, cx_2_3⟩ := cells4s Rx_2
  go_wp2_with fail
  refine (KV.out _ (fatB FF.out B2) (tabB TT.out B2)).mono ?_
  rintro r w3 ⟨rfl, b3⟩
  have B3 : Below w.heap.size w w3 := btr B2 b3
  have Rb_3 := heap_of b3 _ _ _ Rb_2
  have Rx_3 := heap_of b3 _ _ _ Rx_2
  clear b3 B2 Rb_2 cb_2_0 cb_2_1 Rx_2 cx_2_0 cx_2_1 cx_2_2 cx_2_3
  obtain ⟨cb_3_0, cb_3_1⟩ := cells2s Rb_3
  obtain ⟨cx_3_0, cx_3_1, cx_3_2, cx_3_3⟩ := cells4s Rx_3
  have S4 := box B3.size
  have Lb_4 : Box (w.heap.size < w3.heap.size) := box (Array.getElem?_eq_some_iff.1 Rb_3).1
  have Lx_4 : Box (w.heap.size + 1 < w3.heap.size) := box (Array.getElem?_eq_some_iff.1 Rx_3).1
  have Rv_4 := heap_alloc_last w3 (Obj.cells #[.bool rb, .string u, .string v, .int .i64 re] 41)
  have B4 := btr B3 (bal w3 (Obj.cells #[.bool rb, .string u, .string v, .int .i64 re] 41))
  have Rb_4 := heap_of (bal w3 (Obj.cells #[.bool rb, .string u, .string v, .int .i64 re] 41)) _ _ _ Rb_3
  have Rx_4 := heap_of (bal w3 (Obj.cells #[.bool rb, .string u, .string v, .int .i64 re] 41)) _ _ _ Rx_3
  clear B3 Rb_3 cb_3_0 cb_3_1 Rx_3 cx_3_0 cx_3_1 cx_3_2 cx_3_3
  obtain ⟨cb_4_0, cb_4_1⟩ := cells2s Rb_4
  obtain ⟨cx_4_0, cx_4_1, cx_4_2, cx_4_3⟩ := cells4s Rx_4
  obtain ⟨cv_4_0, cv_4_1, cv_4_2, cv_4_3⟩ := cells4s Rv_4
  go_wp2_with fail
  refine (KR.out _ (fatB FF.out B4) (tabB TT.out B4)).mono ?_
  rintro r w5 ⟨rfl, b5⟩
  have B5 : Below w.heap.size w w5 := btr B4 b5
  have Rb_5 := heap_of b5 _ _ _ Rb_4
  have Rx_5 := heap_of b5 _ _ _ Rx_4
  have Rv_5 := heap_of b5 _ _ _ Rv_4
  clear b5 B4 Rb_4 cb_4_0 cb_4_1 Rx_4 cx_4_0 cx_4_1 cx_4_2 cx_4_3 Rv_4 cv_4_0 cv_4_1 cv_4_2 cv_4_3
  obtain ⟨cb_5_0, cb_5_1⟩ := cells2s Rb_5
  obtain ⟨cx_5_0, cx_5_1, cx_5_2, cx_5_3⟩ := cells4s Rx_5
  obtain ⟨cv_5_0, cv_5_1, cv_5_2, cv_5_3⟩ := cells4s Rv_5
  have S6 := box B5.size
  have Lb_6 : Box (w.heap.size < w5.heap.size) := box (Array.getElem?_eq_some_iff.1 Rb_5).1
  have Lx_6 : Box (w.heap.size + 1 < w5.heap.size) := box (Array.getElem?_eq_some_iff.1 Rx_5).1
  have Lv_6 : Box (w3.heap.size < w5.heap.size) := box (Array.getElem?_eq_some_iff.1 Rv_5).1
  have Rc_6 := heap_alloc_last w5 (Obj.cells #[.int .u64 (x : Nat), .int .u64 (y : Nat)] 25)
  have B6 := btr B5 (bal w5 (Obj.cells #[.int .u64 (x : Nat), .int .u64 (y : Nat)] 25))
  have Rb_6 := heap_of (bal w5 (Obj.cells #[.int .u64 (x : Nat), .int .u64 (y : Nat)] 25)) _ _ _ Rb_5
  have Rx_6 := heap_of (bal w5 (Obj.cells #[.int .u64 (x : Nat), .int .u64 (y : Nat)] 25)) _ _ _ Rx_5
  have Rv_6 := heap_of (bal w5 (Obj.cells #[.int .u64 (x : Nat), .int .u64 (y : Nat)] 25)) _ _ _ Rv_5
  clear B5 Rb_5 cb_5_0 cb_5_1 Rx_5 cx_5_0 cx_5_1 cx_5_2 cx_5_3 Rv_5 cv_5_0 cv_5_1 cv_5_2 cv_5_3
  obtain ⟨cb_6_0, cb_6_1⟩ := cells2s Rb_6
  obtain ⟨cx_6_0, cx_6_1, cx_6_2, cx_6_3⟩ := cells4s Rx_6
  obtain ⟨cv_6_0, cv_6_1, cv_6_2, cv_6_3⟩ := cells4s Rv_6
  obtain ⟨cc_6_0, cc_6_1⟩ := cells2s Rc_6
  go_wp2_with fail
  refine (KM.out _).mono ?_
  rintro r w7 ⟨rfl, b7⟩
  have B7 : Below w.heap.size w w7 := btr B6 b7
  have Rb_7 := heap_of b7 _ _ _ Rb_6
  have Rx_7 := heap_of b7 _ _ _ Rx_6
  have Rv_7 := heap_of b7 _ _ _ Rv_6
  have Rc_7 := heap_of b7 _ _ _ Rc_6
  clear b7 B6 Rb_6 cb_6_0 cb_6_1 Rx_6 cx_6_0 cx_6_1 cx_6_2 cx_6_3 Rv_6 cv_6_0 cv_6_1 cv_6_2 cv_6_3 Rc_6 cc_6_0 cc_6_1
  obtain ⟨cb_7_0, cb_7_1⟩ := cells2s Rb_7
  obtain ⟨cx_7_0, cx_7_1, cx_7_2, cx_7_3⟩ := cells4s Rx_7
  obtain ⟨cv_7_0, cv_7_1, cv_7_2, cv_7_3⟩ := cells4s Rv_7
  obtain ⟨cc_7_0, cc_7_1⟩ := cells2s Rc_7
  go_wp2_with fail
  refine (KX.out _ (tabB TT.out B7)).mono ?_
  rintro r w8 ⟨rfl, b8⟩
  have B8 : Below w.heap.size w w8 := btr B7 b8
  have Rb_8 := heap_of b8 _ _ _ Rb_7
  have Rx_8 := heap_of b8 _ _ _ Rx_7
  have Rv_8 := heap_of b8 _ _ _ Rv_7
  have Rc_8 := heap_of b8 _ _ _ Rc_7
  clear b8 B7 Rb_7 cb_7_0 cb_7_1 Rx_7 cx_7_0 cx_7_1 cx_7_2 cx_7_3 Rv_7 cv_7_0 cv_7_1 cv_7_2 cv_7_3 Rc_7 cc_7_0 cc_7_1
  obtain ⟨cb_8_0, cb_8_1⟩ := cells2s Rb_8
  obtain ⟨cx_8_0, cx_8_1, cx_8_2, cx_8_3⟩ := cells4s Rx_8
  obtain ⟨cv_8_0, cv_8_1, cv_8_2, cv_8_3⟩ := cells4s Rv_8
  obtain ⟨cc_8_0, cc_8_1⟩ := cells2s Rc_8
  have S9 := box B8.size
  have Lb_9 : Box (w.heap.size < w8.heap.size) := box (Array.getElem?_eq_some_iff.1 Rb_8).1
  have Lx_9 : Box (w.heap.size + 1 < w8.heap.size) := box (Array.getElem?_eq_some_iff.1 Rx_8).1
  have Lv_9 : Box (w3.heap.size < w8.heap.size) := box (Array.getElem?_eq_some_iff.1 Rv_8).1
  have Lc_9 : Box (w5.heap.size < w8.heap.size) := box (Array.getElem?_eq_some_iff.1 Rc_8).1
  have Rs_9 := heap_alloc_last w8 (Obj.cells #[.bool sb, .string ss, .string st, .int .i64 se] 41)
  have B9 := btr B8 (bal w8 (Obj.cells #[.bool sb, .string ss, .string st, .int .i64 se] 41))
  have Rb_9 := heap_of (bal w8 (Obj.cells #[.bool sb, .string ss, .string st, .int .i64 se] 41)) _ _ _ Rb_8
  have Rx_9 := heap_of (bal w8 (Obj.cells #[.bool sb, .string ss, .string st, .int .i64 se] 41)) _ _ _ Rx_8
  have Rv_9 := heap_of (bal w8 (Obj.cells #[.bool sb, .string ss, .string st, .int .i64 se] 41)) _ _ _ Rv_8
  have Rc_9 := heap_of (bal w8 (Obj.cells #[.bool sb, .string ss, .string st, .int .i64 se] 41)) _ _ _ Rc_8
  clear B8 Rb_8 cb_8_0 cb_8_1 Rx_8 cx_8_0 cx_8_1 cx_8_2 cx_8_3 Rv_8 cv_8_0 cv_8_1 cv_8_2 cv_8_3 Rc_8 cc_8_0 cc_8_1
  obtain ⟨cb_9_0, cb_9_1⟩ := cells2s Rb_9
  obtain ⟨cx_9_0, cx_9_1, cx_9_2, cx_9_3⟩ := cells4s Rx_9
  obtain ⟨cv_9_0, cv_9_1, cv_9_2, cv_9_3⟩ := cells4s Rv_9
  obtain ⟨cc_9_0, cc_9_1⟩ := cells2s Rc_9
  obtain ⟨cs_9_0, cs_9_1, cs_9_2, cs_9_3⟩ := cells4s Rs_9
  go_wp2_with fail
  refine (KQ.out _ (fatB FF.out B9) (tabB TT.out B9)).mono ?_
  rintro r w10 ⟨rfl, b10⟩
  have B10 : Below w.heap.size w w10 := btr B9 b10
  have Rb_10 := heap_of b10 _ _ _ Rb_9
  have Rx_10 := heap_of b10 _ _ _ Rx_9
  have Rv_10 := heap_of b10 _ _ _ Rv_9
  have Rc_10 := heap_of b10 _ _ _ Rc_9
  have Rs_10 := heap_of b10 _ _ _ Rs_9
  clear b10 B9 Rb_9 cb_9_0 cb_9_1 Rx_9 cx_9_0 cx_9_1 cx_9_2 cx_9_3 Rv_9 cv_9_0 cv_9_1 cv_9_2 cv_9_3 Rc_9 cc_9_0 cc_9_1 Rs_9 cs_9_0 cs_9_1 cs_9_2 cs_9_3
  obtain ⟨cb_10_0, cb_10_1⟩ := cells2s Rb_10
  obtain ⟨cx_10_0, cx_10_1, cx_10_2, cx_10_3⟩ := cells4s Rx_10
  obtain ⟨cv_10_0, cv_10_1, cv_10_2, cv_10_3⟩ := cells4s Rv_10
  obtain ⟨cc_10_0, cc_10_1⟩ := cells2s Rc_10
  obtain ⟨cs_10_0, cs_10_1, cs_10_2, cs_10_3⟩ := cells4s Rs_10
  have S11 := box B10.size
  have Lb_11 : Box (w.heap.size < w10.heap.size) := box (Array.getElem?_eq_some_iff.1 Rb_10).1
  have Lx_11 : Box (w.heap.size + 1 < w10.heap.size) := box (Array.getElem?_eq_some_iff.1 Rx_10).1
  have Lv_11 : Box (w3.heap.size < w10.heap.size) := box (Array.getElem?_eq_some_iff.1 Rv_10).1
  have Lc_11 : Box (w5.heap.size < w10.heap.size) := box (Array.getElem?_eq_some_iff.1 Rc_10).1
  have Ls_11 : Box (w8.heap.size < w10.heap.size) := box (Array.getElem?_eq_some_iff.1 Rs_10).1
  have Rg_11 := heap_alloc_last w10 (Obj.cells #[.int .u64 (i : Nat), .int .u64 (j : Nat)] 25)
  have B11 := btr B10 (bal w10 (Obj.cells #[.int .u64 (i : Nat), .int .u64 (j : Nat)] 25))
  have Rb_11 := heap_of (bal w10 (Obj.cells #[.int .u64 (i : Nat), .int .u64 (j : Nat)] 25)) _ _ _ Rb_10
  have Rx_11 := heap_of (bal w10 (Obj.cells #[.int .u64 (i : Nat), .int .u64 (j : Nat)] 25)) _ _ _ Rx_10
  have Rv_11 := heap_of (bal w10 (Obj.cells #[.int .u64 (i : Nat), .int .u64 (j : Nat)] 25)) _ _ _ Rv_10
  have Rc_11 := heap_of (bal w10 (Obj.cells #[.int .u64 (i : Nat), .int .u64 (j : Nat)] 25)) _ _ _ Rc_10
  have Rs_11 := heap_of (bal w10 (Obj.cells #[.int .u64 (i : Nat), .int .u64 (j : Nat)] 25)) _ _ _ Rs_10
  clear B10 Rb_10 cb_10_0 cb_10_1 Rx_10 cx_10_0 cx_10_1 cx_10_2 cx_10_3 Rv_10 cv_10_0 cv_10_1 cv_10_2 cv_10_3 Rc_10 cc_10_0 cc_10_1 Rs_10 cs_10_0 cs_10_1 cs_10_2 cs_10_3
  obtain ⟨cb_11_0, cb_11_1⟩ := cells2s Rb_11
  obtain ⟨cx_11_0, cx_11_1, cx_11_2, cx_11_3⟩ := cells4s Rx_11
  obtain ⟨cv_11_0, cv_11_1, cv_11_2, cv_11_3⟩ := cells4s Rv_11
  obtain ⟨cc_11_0, cc_11_1⟩ := cells2s Rc_11
  obtain ⟨cs_11_0, cs_11_1, cs_11_2, cs_11_3⟩ := cells4s Rs_11
  obtain ⟨cg_11_0, cg_11_1⟩ := cells2s Rg_11
  go_wp2_with fail
  refine (KB.out _ (tabB TT.out B11)).mono ?_
  rintro r w12 ⟨rfl, b12⟩
  have B12 : Below w.heap.size w w12 := btr B11 b12
  have Rb_12 := heap_of b12 _ _ _ Rb_11
  have Rx_12 := heap_of b12 _ _ _ Rx_11
  have Rv_12 := heap_of b12 _ _ _ Rv_11
  have Rc_12 := heap_of b12 _ _ _ Rc_11
  have Rs_12 := heap_of b12 _ _ _ Rs_11
  have Rg_12 := heap_of b12 _ _ _ Rg_11
  clear b12 B11 Rb_11 cb_11_0 cb_11_1 Rx_11 cx_11_0 cx_11_1 cx_11_2 cx_11_3 Rv_11 cv_11_0 cv_11_1 cv_11_2 cv_11_3 Rc_11 cc_11_0 cc_11_1 Rs_11 cs_11_0 cs_11_1 cs_11_2 cs_11_3 Rg_11 cg_11_0 cg_11_1
  obtain ⟨cb_12_0, cb_12_1⟩ := cells2s Rb_12
  obtain ⟨cx_12_0, cx_12_1, cx_12_2, cx_12_3⟩ := cells4s Rx_12
  obtain ⟨cv_12_0, cv_12_1, cv_12_2, cv_12_3⟩ := cells4s Rv_12
  obtain ⟨cc_12_0, cc_12_1⟩ := cells2s Rc_12
  obtain ⟨cs_12_0, cs_12_1, cs_12_2, cs_12_3⟩ := cells4s Rs_12
  obtain ⟨cg_12_0, cg_12_1⟩ := cells2s Rg_12
  go_wp2_with fail
  refine (KD.out _ (fatB FF.out B12) (tabB TT.out B12)).mono ?_
  rintro r w13 ⟨rfl, b13⟩
  have B13 : Below w.heap.size w w13 := btr B12 b13
  have Rb_13 := heap_of b13 _ _ _ Rb_12
  have Rx_13 := heap_of b13 _ _ _ Rx_12
  have Rv_13 := heap_of b13 _ _ _ Rv_12
  have Rc_13 := heap_of b13 _ _ _ Rc_12
  have Rs_13 := heap_of b13 _ _ _ Rs_12
  have Rg_13 := heap_of b13 _ _ _ Rg_12
  clear b13 B12 Rb_12 cb_12_0 cb_12_1 Rx_12 cx_12_0 cx_12_1 cx_12_2 cx_12_3 Rv_12 cv_12_0 cv_12_1 cv_12_2 cv_12_3 Rc_12 cc_12_0 cc_12_1 Rs_12 cs_12_0 cs_12_1 cs_12_2 cs_12_3 Rg_12 cg_12_0 cg_12_1
  obtain ⟨cb_13_0, cb_13_1⟩ := cells2s Rb_13
  obtain ⟨cx_13_0, cx_13_1, cx_13_2, cx_13_3⟩ := cells4s Rx_13
  obtain ⟨cv_13_0, cv_13_1, cv_13_2, cv_13_3⟩ := cells4s Rv_13
  obtain ⟨cc_13_0, cc_13_1⟩ := cells2s Rc_13
  obtain ⟨cs_13_0, cs_13_1, cs_13_2, cs_13_3⟩ := cells4s Rs_13
  obtain ⟨cg_13_0, cg_13_1⟩ := cells2s Rg_13
  have S14 := box B13.size
  have Lb_14 : Box (w.heap.size < w13.heap.size) := box (Array.getElem?_eq_some_iff.1 Rb_13).1
  have Lx_14 : Box (w.heap.size + 1 < w13.heap.size) := box (Array.getElem?_eq_some_iff.1 Rx_13).1
  have Lv_14 : Box (w3.heap.size < w13.heap.size) := box (Array.getElem?_eq_some_iff.1 Rv_13).1
  have Lc_14 : Box (w5.heap.size < w13.heap.size) := box (Array.getElem?_eq_some_iff.1 Rc_13).1
  have Ls_14 : Box (w8.heap.size < w13.heap.size) := box (Array.getElem?_eq_some_iff.1 Rs_13).1
  have Lg_14 : Box (w10.heap.size < w13.heap.size) := box (Array.getElem?_eq_some_iff.1 Rg_13).1
  have Rd_14 := heap_alloc_last w13 (Obj.cells #[.int .u64 (i : Nat), .int .u64 (j : Nat)] 25)
  have B14 := btr B13 (bal w13 (Obj.cells #[.int .u64 (i : Nat), .int .u64 (j : Nat)] 25))
  have Rb_14 := heap_of (bal w13 (Obj.cells #[.int .u64 (i : Nat), .int .u64 (j : Nat)] 25)) _ _ _ Rb_13
  have Rx_14 := heap_of (bal w13 (Obj.cells #[.int .u64 (i : Nat), .int .u64 (j : Nat)] 25)) _ _ _ Rx_13
  have Rv_14 := heap_of (bal w13 (Obj.cells #[.int .u64 (i : Nat), .int .u64 (j : Nat)] 25)) _ _ _ Rv_13
  have Rc_14 := heap_of (bal w13 (Obj.cells #[.int .u64 (i : Nat), .int .u64 (j : Nat)] 25)) _ _ _ Rc_13
  have Rs_14 := heap_of (bal w13 (Obj.cells #[.int .u64 (i : Nat), .int .u64 (j : Nat)] 25)) _ _ _ Rs_13
  have Rg_14 := heap_of (bal w13 (Obj.cells #[.int .u64 (i : Nat), .int .u64 (j : Nat)] 25)) _ _ _ Rg_13
  clear B13 Rb_13 cb_13_0 cb_13_1 Rx_13 cx_13_0 cx_13_1 cx_13_2 cx_13_3 Rv_13 cv_13_0 cv_13_1 cv_13_2 cv_13_3 Rc_13 cc_13_0 cc_13_1 Rs_13 cs_13_0 cs_13_1 cs_13_2 cs_13_3 Rg_13 cg_13_0 cg_13_1
  obtain ⟨cb_14_0, cb_14_1⟩ := cells2s Rb_14
  obtain ⟨cx_14_0, cx_14_1, cx_14_2, cx_14_3⟩ := cells4s Rx_14
  obtain ⟨cv_14_0, cv_14_1, cv_14_2, cv_14_3⟩ := cells4s Rv_14
  obtain ⟨cc_14_0, cc_14_1⟩ := cells2s Rc_14
  obtain ⟨cs_14_0, cs_14_1, cs_14_2, cs_14_3⟩ := cells4s Rs_14
  obtain ⟨cg_14_0, cg_14_1⟩ := cells2s Rg_14
  obtain ⟨cd_14_0, cd_14_1⟩ := cells2s Rd_14
  go_wp2_with fail
  refine (KA.out _ (fatB FF.out B14) (tabB TT.out B14)).mono ?_
  rintro r w15 ⟨rfl, b15⟩
  have B15 : Below w.heap.size w w15 := btr B14 b15
  have Rb_15 := heap_of b15 _ _ _ Rb_14
  have Rx_15 := heap_of b15 _ _ _ Rx_14
  have Rv_15 := heap_of b15 _ _ _ Rv_14
  have Rc_15 := heap_of b15 _ _ _ Rc_14
  have Rs_15 := heap_of b15 _ _ _ Rs_14
  have Rg_15 := heap_of b15 _ _ _ Rg_14
  have Rd_15 := heap_of b15 _ _ _ Rd_14
  clear b15 B14 Rb_14 cb_14_0 cb_14_1 Rx_14 cx_14_0 cx_14_1 cx_14_2 cx_14_3 Rv_14 cv_14_0 cv_14_1 cv_14_2 cv_14_3 Rc_14 cc_14_0 cc_14_1 Rs_14 cs_14_0 cs_14_1 cs_14_2 cs_14_3 Rg_14 cg_14_0 cg_14_1 Rd_14 cd_14_0 cd_14_1
  obtain ⟨cb_15_0, cb_15_1⟩ := cells2s Rb_15
  obtain ⟨cx_15_0, cx_15_1, cx_15_2, cx_15_3⟩ := cells4s Rx_15
  obtain ⟨cv_15_0, cv_15_1, cv_15_2, cv_15_3⟩ := cells4s Rv_15
  obtain ⟨cc_15_0, cc_15_1⟩ := cells2s Rc_15
  obtain ⟨cs_15_0, cs_15_1, cs_15_2, cs_15_3⟩ := cells4s Rs_15
  obtain ⟨cg_15_0, cg_15_1⟩ := cells2s Rg_15
  obtain ⟨cd_15_0, cd_15_1⟩ := cells2s Rd_15
  go_wp2
  go_ret
  exact ⟨rfl, B15⟩
set_option maxRecDepth 100000 in
set_option maxHeartbeats 4000000 in
theorem ex_Ca (f m : Int) (x y : Nat) (b : Bool) (s t : ByteArray) (e : Int) (rb : Bool) (u v : ByteArray) (re : Int) (sb : Bool) (ss st : ByteArray) (se : Int) (i j : Nat) (fl : Int) (w : World)
    (KO : Box (∀ w, Calls Tryz.prog 31 #[.int .u8 m] w fun r w' => r = .returned (.bool true) ∧ Below w.heap.size w w'))
    (KF : Box (∀ w, FAt w → Calls Tryz.prog 41 #[.int .u8 f, .agg #[.int .u64 (x : Nat), .int .u64 (y : Nat)]] w fun r w' => r = .returned (.bool true) ∧ Below w.heap.size w w'))
    (KV : Box (∀ w, FAt w → TabAt w → Calls Tryz.prog 35 #[.int .u8 f, .agg #[.int .u64 (x : Nat), .int .u64 (y : Nat)]] w fun r w' => r = .returned (.tuple #[.agg #[.bool rb, .string u, .string v, .int .i64 re], .bool true]) ∧ Below w.heap.size w w'))
    (KR : Box (∀ w, FAt w → TabAt w → Calls Tryz.prog 22 #[.int .u8 f, .int .u8 m, .agg #[.bool rb, .string u, .string v, .int .i64 re]] w fun r w' => r = .returned (.tuple #[.agg #[.int .u64 0, .int .u64 0], .int .u8 0, .int .i64 0]) ∧ Below w.heap.size w w'))
    (KG : Box (∀ w, TabAt w → Calls Tryz.prog 32 #[.agg #[.bool rb, .string u, .string v, .int .i64 re]] w fun r w' => r = .returned (.int .i64 0) ∧ Below w.heap.size w w'))
    (hx : (((0 : Int) == ((x : Nat) : Int)) = false ∧ decide (0 = x) = false) ∨ (x = 0 ∧ ((0 : Int) == ((y : Nat) : Int)) = false ∧ decide (0 = y) = false))
    (h1 : decide ((25 : Int) < (s.size : Int)) = true)
    (KA : Box (∀ w, FAt w → TabAt w → Calls Tryz.prog 21 #[] w fun r w' => r = .returned (.bool true) ∧ Below w.heap.size w w'))
    (hT : FAt w) (hT2 : TabAt w) : Calls Tryz.prog 10 #[.int .u8 f, .int .u8 m, .agg #[.int .u64 (x : Nat), .int .u64 (y : Nat)], .agg #[.bool b, .string s, .string t, .int .i64 e]] w fun r w' => r = .returned (.bool true) ∧ Below w.heap.size w w' := by
  have FF := box hT
  have TT := box hT2
  clear hT hT2
  rcases hx with ⟨x1, x2⟩ | ⟨rfl, x1, x2⟩
  · obtain ⟨Rb_0, Rx_0, B0⟩ := opn2 w (Obj.cells #[.int .u64 (x : Nat), .int .u64 (y : Nat)] 25) (Obj.cells #[.bool b, .string s, .string t, .int .i64 e] 41)
    go_enter Tryz.func10, Tryz.ntmps10
    go_wp2_with fail
    refine (KO.out _).mono ?_
    rintro r w1 ⟨rfl, b1⟩
    have B1 : Below w.heap.size w w1 := btr B0 b1
    have Rb_1 := heap_of b1 _ _ _ Rb_0
    have Rx_1 := heap_of b1 _ _ _ Rx_0
    clear b1 B0 Rb_0 Rx_0
    obtain ⟨cb_1_0, cb_1_1⟩ := cells2s Rb_1
    obtain ⟨cx_1_0, cx_1_1, cx_1_2, cx_1_3⟩ := cells4s Rx_1
    go_wp2_with fail
    refine (KF.out _ (fatB FF.out B1)).mono ?_
    rintro r w2 ⟨rfl, b2⟩
    have B2 : Below w.heap.size w w2 := btr B1 b2
    have Rb_2 := heap_of b2 _ _ _ Rb_1
    have Rx_2 := heap_of b2 _ _ _ Rx_1
    clear b2 B1 Rb_1 cb_1_0 cb_1_1 Rx_1 cx_1_0 cx_1_1 cx_1_2 cx_1_3
    obtain ⟨cb_2_0, cb_2_1⟩ := cells2s Rb_2
    obtain ⟨cx_2_0, cx_2_1, cx_2_2, cx_2_3⟩ := cells4s Rx_2
    go_wp2_with fail
    refine (KV.out _ (fatB FF.out B2) (tabB TT.out B2)).mono ?_
    rintro r w3 ⟨rfl, b3⟩
    have B3 : Below w.heap.size w w3 := btr B2 b3
    have Rb_3 := heap_of b3 _ _ _ Rb_2
    have Rx_3 := heap_of b3 _ _ _ Rx_2
    clear b3 B2 Rb_2 cb_2_0 cb_2_1 Rx_2 cx_2_0 cx_2_1 cx_2_2 cx_2_3
    obtain ⟨cb_3_0, cb_3_1⟩ := cells2s Rb_3
    obtain ⟨cx_3_0, cx_3_1, cx_3_2, cx_3_3⟩ := cells4s Rx_3
    have S4 := box B3.size
    have Lb_4 : Box (w.heap.size < w3.heap.size) := box (Array.getElem?_eq_some_iff.1 Rb_3).1
    have Lx_4 : Box (w.heap.size + 1 < w3.heap.size) := box (Array.getElem?_eq_some_iff.1 Rx_3).1
    have Rv_4 := heap_alloc_last w3 (Obj.cells #[.bool rb, .string u, .string v, .int .i64 re] 41)
    have B4 := btr B3 (bal w3 (Obj.cells #[.bool rb, .string u, .string v, .int .i64 re] 41))
    have Rb_4 := heap_of (bal w3 (Obj.cells #[.bool rb, .string u, .string v, .int .i64 re] 41)) _ _ _ Rb_3
    have Rx_4 := heap_of (bal w3 (Obj.cells #[.bool rb, .string u, .string v, .int .i64 re] 41)) _ _ _ Rx_3
    clear B3 Rb_3 cb_3_0 cb_3_1 Rx_3 cx_3_0 cx_3_1 cx_3_2 cx_3_3
    obtain ⟨cb_4_0, cb_4_1⟩ := cells2s Rb_4
    obtain ⟨cx_4_0, cx_4_1, cx_4_2, cx_4_3⟩ := cells4s Rx_4
    obtain ⟨cv_4_0, cv_4_1, cv_4_2, cv_4_3⟩ := cells4s Rv_4
    go_wp2_with fail
    refine (KR.out _ (fatB FF.out B4) (tabB TT.out B4)).mono ?_
    rintro r w5 ⟨rfl, b5⟩
    have B5 : Below w.heap.size w w5 := btr B4 b5
    have Rb_5 := heap_of b5 _ _ _ Rb_4
    have Rx_5 := heap_of b5 _ _ _ Rx_4
    have Rv_5 := heap_of b5 _ _ _ Rv_4
    clear b5 B4 Rb_4 cb_4_0 cb_4_1 Rx_4 cx_4_0 cx_4_1 cx_4_2 cx_4_3 Rv_4 cv_4_0 cv_4_1 cv_4_2 cv_4_3
    obtain ⟨cb_5_0, cb_5_1⟩ := cells2s Rb_5
    obtain ⟨cx_5_0, cx_5_1, cx_5_2, cx_5_3⟩ := cells4s Rx_5
    obtain ⟨cv_5_0, cv_5_1, cv_5_2, cv_5_3⟩ := cells4s Rv_5
    have S6 := box B5.size
    have Lb_6 : Box (w.heap.size < w5.heap.size) := box (Array.getElem?_eq_some_iff.1 Rb_5).1
    have Lx_6 : Box (w.heap.size + 1 < w5.heap.size) := box (Array.getElem?_eq_some_iff.1 Rx_5).1
    have Lv_6 : Box (w3.heap.size < w5.heap.size) := box (Array.getElem?_eq_some_iff.1 Rv_5).1
    have Rc_6 := heap_alloc_last w5 (Obj.cells #[.int .u64 0, .int .u64 0] 25)
    have B6 := btr B5 (bal w5 (Obj.cells #[.int .u64 0, .int .u64 0] 25))
    have Rb_6 := heap_of (bal w5 (Obj.cells #[.int .u64 0, .int .u64 0] 25)) _ _ _ Rb_5
    have Rx_6 := heap_of (bal w5 (Obj.cells #[.int .u64 0, .int .u64 0] 25)) _ _ _ Rx_5
    have Rv_6 := heap_of (bal w5 (Obj.cells #[.int .u64 0, .int .u64 0] 25)) _ _ _ Rv_5
    clear B5 Rb_5 cb_5_0 cb_5_1 Rx_5 cx_5_0 cx_5_1 cx_5_2 cx_5_3 Rv_5 cv_5_0 cv_5_1 cv_5_2 cv_5_3
    obtain ⟨cb_6_0, cb_6_1⟩ := cells2s Rb_6
    obtain ⟨cx_6_0, cx_6_1, cx_6_2, cx_6_3⟩ := cells4s Rx_6
    obtain ⟨cv_6_0, cv_6_1, cv_6_2, cv_6_3⟩ := cells4s Rv_6
    obtain ⟨cc_6_0, cc_6_1⟩ := cells2s Rc_6
    go_wp2_with fail
    refine (KG.out _ (tabB TT.out B6)).mono ?_
    rintro r w7 ⟨rfl, b7⟩
    have B7 : Below w.heap.size w w7 := btr B6 b7
    have Rb_7 := heap_of b7 _ _ _ Rb_6
    have Rx_7 := heap_of b7 _ _ _ Rx_6
    have Rv_7 := heap_of b7 _ _ _ Rv_6
    have Rc_7 := heap_of b7 _ _ _ Rc_6
    clear b7 B6 Rb_6 cb_6_0 cb_6_1 Rx_6 cx_6_0 cx_6_1 cx_6_2 cx_6_3 Rv_6 cv_6_0 cv_6_1 cv_6_2 cv_6_3 Rc_6 cc_6_0 cc_6_1
    obtain ⟨cb_7_0, cb_7_1⟩ := cells2s Rb_7
    obtain ⟨cx_7_0, cx_7_1, cx_7_2, cx_7_3⟩ := cells4s Rx_7
    obtain ⟨cv_7_0, cv_7_1, cv_7_2, cv_7_3⟩ := cells4s Rv_7
    obtain ⟨cc_7_0, cc_7_1⟩ := cells2s Rc_7
    go_wp2_with fail
    refine (KA.out _ (fatB FF.out B7) (tabB TT.out B7)).mono ?_
    rintro r w8 ⟨rfl, b8⟩
    have B8 : Below w.heap.size w w8 := btr B7 b8
    have Rb_8 := heap_of b8 _ _ _ Rb_7
    have Rx_8 := heap_of b8 _ _ _ Rx_7
    have Rv_8 := heap_of b8 _ _ _ Rv_7
    have Rc_8 := heap_of b8 _ _ _ Rc_7
    clear b8 B7 Rb_7 cb_7_0 cb_7_1 Rx_7 cx_7_0 cx_7_1 cx_7_2 cx_7_3 Rv_7 cv_7_0 cv_7_1 cv_7_2 cv_7_3 Rc_7 cc_7_0 cc_7_1
    obtain ⟨cb_8_0, cb_8_1⟩ := cells2s Rb_8
    obtain ⟨cx_8_0, cx_8_1, cx_8_2, cx_8_3⟩ := cells4s Rx_8
    obtain ⟨cv_8_0, cv_8_1, cv_8_2, cv_8_3⟩ := cells4s Rv_8
    obtain ⟨cc_8_0, cc_8_1⟩ := cells2s Rc_8
    go_wp2
    go_ret
    exact ⟨rfl, B8⟩
  · obtain ⟨Rb_0, Rx_0, B0⟩ := opn2 w (Obj.cells #[.int .u64 0, .int .u64 (y : Nat)] 25) (Obj.cells #[.bool b, .string s, .string t, .int .i64 e] 41)
    go_enter Tryz.func10, Tryz.ntmps10
    go_wp2_with fail
    refine (KO.out _).mono ?_
    rintro r w1 ⟨rfl, b1⟩
    have B1 : Below w.heap.size w w1 := btr B0 b1
    have Rb_1 := heap_of b1 _ _ _ Rb_0
    have Rx_1 := heap_of b1 _ _ _ Rx_0
    clear b1 B0 Rb_0 Rx_0
    obtain ⟨cb_1_0, cb_1_1⟩ := cells2s Rb_1
    obtain ⟨cx_1_0, cx_1_1, cx_1_2, cx_1_3⟩ := cells4s Rx_1
    go_wp2_with fail
    refine (KF.out _ (fatB FF.out B1)).mono ?_
    rintro r w2 ⟨rfl, b2⟩
    have B2 : Below w.heap.size w w2 := btr B1 b2
    have Rb_2 := heap_of b2 _ _ _ Rb_1
    have Rx_2 := heap_of b2 _ _ _ Rx_1
    clear b2 B1 Rb_1 cb_1_0 cb_1_1 Rx_1 cx_1_0 cx_1_1 cx_1_2 cx_1_3
    obtain ⟨cb_2_0, cb_2_1⟩ := cells2s Rb_2
    obtain ⟨cx_2_0, cx_2_1, cx_2_2, cx_2_3⟩ := cells4s Rx_2
    go_wp2_with fail
    refine (KV.out _ (fatB FF.out B2) (tabB TT.out B2)).mono ?_
    rintro r w3 ⟨rfl, b3⟩
    have B3 : Below w.heap.size w w3 := btr B2 b3
    have Rb_3 := heap_of b3 _ _ _ Rb_2
    have Rx_3 := heap_of b3 _ _ _ Rx_2
    clear b3 B2 Rb_2 cb_2_0 cb_2_1 Rx_2 cx_2_0 cx_2_1 cx_2_2 cx_2_3
    obtain ⟨cb_3_0, cb_3_1⟩ := cells2s Rb_3
    obtain ⟨cx_3_0, cx_3_1, cx_3_2, cx_3_3⟩ := cells4s Rx_3
    have S4 := box B3.size
    have Lb_4 : Box (w.heap.size < w3.heap.size) := box (Array.getElem?_eq_some_iff.1 Rb_3).1
    have Lx_4 : Box (w.heap.size + 1 < w3.heap.size) := box (Array.getElem?_eq_some_iff.1 Rx_3).1
    have Rv_4 := heap_alloc_last w3 (Obj.cells #[.bool rb, .string u, .string v, .int .i64 re] 41)
    have B4 := btr B3 (bal w3 (Obj.cells #[.bool rb, .string u, .string v, .int .i64 re] 41))
    have Rb_4 := heap_of (bal w3 (Obj.cells #[.bool rb, .string u, .string v, .int .i64 re] 41)) _ _ _ Rb_3
    have Rx_4 := heap_of (bal w3 (Obj.cells #[.bool rb, .string u, .string v, .int .i64 re] 41)) _ _ _ Rx_3
    clear B3 Rb_3 cb_3_0 cb_3_1 Rx_3 cx_3_0 cx_3_1 cx_3_2 cx_3_3
    obtain ⟨cb_4_0, cb_4_1⟩ := cells2s Rb_4
    obtain ⟨cx_4_0, cx_4_1, cx_4_2, cx_4_3⟩ := cells4s Rx_4
    obtain ⟨cv_4_0, cv_4_1, cv_4_2, cv_4_3⟩ := cells4s Rv_4
    go_wp2_with fail
    refine (KR.out _ (fatB FF.out B4) (tabB TT.out B4)).mono ?_
    rintro r w5 ⟨rfl, b5⟩
    have B5 : Below w.heap.size w w5 := btr B4 b5
    have Rb_5 := heap_of b5 _ _ _ Rb_4
    have Rx_5 := heap_of b5 _ _ _ Rx_4
    have Rv_5 := heap_of b5 _ _ _ Rv_4
    clear b5 B4 Rb_4 cb_4_0 cb_4_1 Rx_4 cx_4_0 cx_4_1 cx_4_2 cx_4_3 Rv_4 cv_4_0 cv_4_1 cv_4_2 cv_4_3
    obtain ⟨cb_5_0, cb_5_1⟩ := cells2s Rb_5
    obtain ⟨cx_5_0, cx_5_1, cx_5_2, cx_5_3⟩ := cells4s Rx_5
    obtain ⟨cv_5_0, cv_5_1, cv_5_2, cv_5_3⟩ := cells4s Rv_5
    have S6 := box B5.size
    have Lb_6 : Box (w.heap.size < w5.heap.size) := box (Array.getElem?_eq_some_iff.1 Rb_5).1
    have Lx_6 : Box (w.heap.size + 1 < w5.heap.size) := box (Array.getElem?_eq_some_iff.1 Rx_5).1
    have Lv_6 : Box (w3.heap.size < w5.heap.size) := box (Array.getElem?_eq_some_iff.1 Rv_5).1
    have Rc_6 := heap_alloc_last w5 (Obj.cells #[.int .u64 0, .int .u64 0] 25)
    have B6 := btr B5 (bal w5 (Obj.cells #[.int .u64 0, .int .u64 0] 25))
    have Rb_6 := heap_of (bal w5 (Obj.cells #[.int .u64 0, .int .u64 0] 25)) _ _ _ Rb_5
    have Rx_6 := heap_of (bal w5 (Obj.cells #[.int .u64 0, .int .u64 0] 25)) _ _ _ Rx_5
    have Rv_6 := heap_of (bal w5 (Obj.cells #[.int .u64 0, .int .u64 0] 25)) _ _ _ Rv_5
    clear B5 Rb_5 cb_5_0 cb_5_1 Rx_5 cx_5_0 cx_5_1 cx_5_2 cx_5_3 Rv_5 cv_5_0 cv_5_1 cv_5_2 cv_5_3
    obtain ⟨cb_6_0, cb_6_1⟩ := cells2s Rb_6
    obtain ⟨cx_6_0, cx_6_1, cx_6_2, cx_6_3⟩ := cells4s Rx_6
    obtain ⟨cv_6_0, cv_6_1, cv_6_2, cv_6_3⟩ := cells4s Rv_6
    obtain ⟨cc_6_0, cc_6_1⟩ := cells2s Rc_6
    go_wp2_with fail
    refine (KG.out _ (tabB TT.out B6)).mono ?_
    rintro r w7 ⟨rfl, b7⟩
    have B7 : Below w.heap.size w w7 := btr B6 b7
    have Rb_7 := heap_of b7 _ _ _ Rb_6
    have Rx_7 := heap_of b7 _ _ _ Rx_6
    have Rv_7 := heap_of b7 _ _ _ Rv_6
    have Rc_7 := heap_of b7 _ _ _ Rc_6
    clear b7 B6 Rb_6 cb_6_0 cb_6_1 Rx_6 cx_6_0 cx_6_1 cx_6_2 cx_6_3 Rv_6 cv_6_0 cv_6_1 cv_6_2 cv_6_3 Rc_6 cc_6_0 cc_6_1
    obtain ⟨cb_7_0, cb_7_1⟩ := cells2s Rb_7
    obtain ⟨cx_7_0, cx_7_1, cx_7_2, cx_7_3⟩ := cells4s Rx_7
    obtain ⟨cv_7_0, cv_7_1, cv_7_2, cv_7_3⟩ := cells4s Rv_7
    obtain ⟨cc_7_0, cc_7_1⟩ := cells2s Rc_7
    go_wp2_with fail
    refine (KA.out _ (fatB FF.out B7) (tabB TT.out B7)).mono ?_
    rintro r w8 ⟨rfl, b8⟩
    have B8 : Below w.heap.size w w8 := btr B7 b8
    have Rb_8 := heap_of b8 _ _ _ Rb_7
    have Rx_8 := heap_of b8 _ _ _ Rx_7
    have Rv_8 := heap_of b8 _ _ _ Rv_7
    have Rc_8 := heap_of b8 _ _ _ Rc_7
    clear b8 B7 Rb_7 cb_7_0 cb_7_1 Rx_7 cx_7_0 cx_7_1 cx_7_2 cx_7_3 Rv_7 cv_7_0 cv_7_1 cv_7_2 cv_7_3 Rc_7 cc_7_0 cc_7_1
    obtain ⟨cb_8_0, cb_8_1⟩ := cells2s Rb_8
    obtain ⟨cx_8_0, cx_8_1, cx_8_2, cx_8_3⟩ := cells4s Rx_8
    obtain ⟨cv_8_0, cv_8_1, cv_8_2, cv_8_3⟩ := cells4s Rv_8
    obtain ⟨cc_8_0, cc_8_1⟩ := cells2s Rc_8
    go_wp2
    go_ret
    exact ⟨rfl, B8⟩
set_option maxRecDepth 100000 in
set_option maxHeartbeats 4000000 in
theorem ex_Cb (f m : Int) (x y : Nat) (b : Bool) (s t : ByteArray) (e : Int) (rb : Bool) (u v : ByteArray) (re : Int) (sb : Bool) (ss st : ByteArray) (se : Int) (i j : Nat) (fl : Int) (w : World)
    (KO : Box (∀ w, Calls Tryz.prog 31 #[.int .u8 m] w fun r w' => r = .returned (.bool true) ∧ Below w.heap.size w w'))
    (KF : Box (∀ w, FAt w → Calls Tryz.prog 41 #[.int .u8 f, .agg #[.int .u64 (x : Nat), .int .u64 (y : Nat)]] w fun r w' => r = .returned (.bool true) ∧ Below w.heap.size w w'))
    (KV : Box (∀ w, FAt w → TabAt w → Calls Tryz.prog 35 #[.int .u8 f, .agg #[.int .u64 (x : Nat), .int .u64 (y : Nat)]] w fun r w' => r = .returned (.tuple #[.agg #[.bool rb, .string u, .string v, .int .i64 re], .bool true]) ∧ Below w.heap.size w w'))
    (KR : Box (∀ w, FAt w → TabAt w → Calls Tryz.prog 22 #[.int .u8 f, .int .u8 m, .agg #[.bool rb, .string u, .string v, .int .i64 re]] w fun r w' => r = .returned (.tuple #[.agg #[.int .u64 0, .int .u64 0], .int .u8 0, .int .i64 0]) ∧ Below w.heap.size w w'))
    (KG : Box (∀ w, TabAt w → Calls Tryz.prog 32 #[.agg #[.bool rb, .string u, .string v, .int .i64 re]] w fun r w' => r = .returned (.int .i64 0) ∧ Below w.heap.size w w'))
    (hx : (((0 : Int) == ((x : Nat) : Int)) = false ∧ decide (0 = x) = false) ∨ (x = 0 ∧ ((0 : Int) == ((y : Nat) : Int)) = false ∧ decide (0 = y) = false))
    (h1 : decide ((25 : Int) < (s.size : Int)) = false) (h2 : decide ((25 : Int) < (t.size : Int)) = true)
    (KA : Box (∀ w, FAt w → TabAt w → Calls Tryz.prog 21 #[] w fun r w' => r = .returned (.bool true) ∧ Below w.heap.size w w'))
    (hT : FAt w) (hT2 : TabAt w) : Calls Tryz.prog 10 #[.int .u8 f, .int .u8 m, .agg #[.int .u64 (x : Nat), .int .u64 (y : Nat)], .agg #[.bool b, .string s, .string t, .int .i64 e]] w fun r w' => r = .returned (.bool true) ∧ Below w.heap.size w w' := by
  have FF := box hT
  have TT := box hT2
  clear hT hT2
  rcases hx with ⟨x1, x2⟩ | ⟨rfl, x1, x2⟩
  · obtain ⟨Rb_0, Rx_0, B0⟩ := opn2 w (Obj.cells #[.int .u64 (x : Nat), .int .u64 (y : Nat)] 25) (Obj.cells #[.bool b, .string s, .string t, .int .i64 e] 41)
    go_enter Tryz.func10, Tryz.ntmps10
    go_wp2_with fail
    refine (KO.out _).mono ?_
    rintro r w1 ⟨rfl, b1⟩
    have B1 : Below w.heap.size w w1 := btr B0 b1
    have Rb_1 := heap_of b1 _ _ _ Rb_0
    have Rx_1 := heap_of b1 _ _ _ Rx_0
    clear b1 B0 Rb_0 Rx_0
    obtain ⟨cb_1_0, cb_1_1⟩ := cells2s Rb_1
    obtain ⟨cx_1_0, cx_1_1, cx_1_2, cx_1_3⟩ := cells4s Rx_1
    go_wp2_with fail
    refine (KF.out _ (fatB FF.out B1)).mono ?_
    rintro r w2 ⟨rfl, b2⟩
    have B2 : Below w.heap.size w w2 := btr B1 b2
    have Rb_2 := heap_of b2 _ _ _ Rb_1
    have Rx_2 := heap_of b2 _ _ _ Rx_1
    clear b2 B1 Rb_1 cb_1_0 cb_1_1 Rx_1 cx_1_0 cx_1_1 cx_1_2 cx_1_3
    obtain ⟨cb_2_0, cb_2_1⟩ := cells2s Rb_2
    obtain ⟨cx_2_0, cx_2_1, cx_2_2, cx_2_3⟩ := cells4s Rx_2
    go_wp2_with fail
    refine (KV.out _ (fatB FF.out B2) (tabB TT.out B2)).mono ?_
    rintro r w3 ⟨rfl, b3⟩
    have B3 : Below w.heap.size w w3 := btr B2 b3
    have Rb_3 := heap_of b3 _ _ _ Rb_2
    have Rx_3 := heap_of b3 _ _ _ Rx_2
    clear b3 B2 Rb_2 cb_2_0 cb_2_1 Rx_2 cx_2_0 cx_2_1 cx_2_2 cx_2_3
    obtain ⟨cb_3_0, cb_3_1⟩ := cells2s Rb_3
    obtain ⟨cx_3_0, cx_3_1, cx_3_2, cx_3_3⟩ := cells4s Rx_3
    have S4 := box B3.size
    have Lb_4 : Box (w.heap.size < w3.heap.size) := box (Array.getElem?_eq_some_iff.1 Rb_3).1
    have Lx_4 : Box (w.heap.size + 1 < w3.heap.size) := box (Array.getElem?_eq_some_iff.1 Rx_3).1
    have Rv_4 := heap_alloc_last w3 (Obj.cells #[.bool rb, .string u, .string v, .int .i64 re] 41)
    have B4 := btr B3 (bal w3 (Obj.cells #[.bool rb, .string u, .string v, .int .i64 re] 41))
    have Rb_4 := heap_of (bal w3 (Obj.cells #[.bool rb, .string u, .string v, .int .i64 re] 41)) _ _ _ Rb_3
    have Rx_4 := heap_of (bal w3 (Obj.cells #[.bool rb, .string u, .string v, .int .i64 re] 41)) _ _ _ Rx_3
    clear B3 Rb_3 cb_3_0 cb_3_1 Rx_3 cx_3_0 cx_3_1 cx_3_2 cx_3_3
    obtain ⟨cb_4_0, cb_4_1⟩ := cells2s Rb_4
    obtain ⟨cx_4_0, cx_4_1, cx_4_2, cx_4_3⟩ := cells4s Rx_4
    obtain ⟨cv_4_0, cv_4_1, cv_4_2, cv_4_3⟩ := cells4s Rv_4
    go_wp2_with fail
    refine (KR.out _ (fatB FF.out B4) (tabB TT.out B4)).mono ?_
    rintro r w5 ⟨rfl, b5⟩
    have B5 : Below w.heap.size w w5 := btr B4 b5
    have Rb_5 := heap_of b5 _ _ _ Rb_4
    have Rx_5 := heap_of b5 _ _ _ Rx_4
    have Rv_5 := heap_of b5 _ _ _ Rv_4
    clear b5 B4 Rb_4 cb_4_0 cb_4_1 Rx_4 cx_4_0 cx_4_1 cx_4_2 cx_4_3 Rv_4 cv_4_0 cv_4_1 cv_4_2 cv_4_3
    obtain ⟨cb_5_0, cb_5_1⟩ := cells2s Rb_5
    obtain ⟨cx_5_0, cx_5_1, cx_5_2, cx_5_3⟩ := cells4s Rx_5
    obtain ⟨cv_5_0, cv_5_1, cv_5_2, cv_5_3⟩ := cells4s Rv_5
    have S6 := box B5.size
    have Lb_6 : Box (w.heap.size < w5.heap.size) := box (Array.getElem?_eq_some_iff.1 Rb_5).1
    have Lx_6 : Box (w.heap.size + 1 < w5.heap.size) := box (Array.getElem?_eq_some_iff.1 Rx_5).1
    have Lv_6 : Box (w3.heap.size < w5.heap.size) := box (Array.getElem?_eq_some_iff.1 Rv_5).1
    have Rc_6 := heap_alloc_last w5 (Obj.cells #[.int .u64 0, .int .u64 0] 25)
    have B6 := btr B5 (bal w5 (Obj.cells #[.int .u64 0, .int .u64 0] 25))
    have Rb_6 := heap_of (bal w5 (Obj.cells #[.int .u64 0, .int .u64 0] 25)) _ _ _ Rb_5
    have Rx_6 := heap_of (bal w5 (Obj.cells #[.int .u64 0, .int .u64 0] 25)) _ _ _ Rx_5
    have Rv_6 := heap_of (bal w5 (Obj.cells #[.int .u64 0, .int .u64 0] 25)) _ _ _ Rv_5
    clear B5 Rb_5 cb_5_0 cb_5_1 Rx_5 cx_5_0 cx_5_1 cx_5_2 cx_5_3 Rv_5 cv_5_0 cv_5_1 cv_5_2 cv_5_3
    obtain ⟨cb_6_0, cb_6_1⟩ := cells2s Rb_6
    obtain ⟨cx_6_0, cx_6_1, cx_6_2, cx_6_3⟩ := cells4s Rx_6
    obtain ⟨cv_6_0, cv_6_1, cv_6_2, cv_6_3⟩ := cells4s Rv_6
    obtain ⟨cc_6_0, cc_6_1⟩ := cells2s Rc_6
    go_wp2_with fail
    refine (KG.out _ (tabB TT.out B6)).mono ?_
    rintro r w7 ⟨rfl, b7⟩
    have B7 : Below w.heap.size w w7 := btr B6 b7
    have Rb_7 := heap_of b7 _ _ _ Rb_6
    have Rx_7 := heap_of b7 _ _ _ Rx_6
    have Rv_7 := heap_of b7 _ _ _ Rv_6
    have Rc_7 := heap_of b7 _ _ _ Rc_6
    clear b7 B6 Rb_6 cb_6_0 cb_6_1 Rx_6 cx_6_0 cx_6_1 cx_6_2 cx_6_3 Rv_6 cv_6_0 cv_6_1 cv_6_2 cv_6_3 Rc_6 cc_6_0 cc_6_1
    obtain ⟨cb_7_0, cb_7_1⟩ := cells2s Rb_7
    obtain ⟨cx_7_0, cx_7_1, cx_7_2, cx_7_3⟩ := cells4s Rx_7
    obtain ⟨cv_7_0, cv_7_1, cv_7_2, cv_7_3⟩ := cells4s Rv_7
    obtain ⟨cc_7_0, cc_7_1⟩ := cells2s Rc_7
    go_wp2_with fail
    refine (KA.out _ (fatB FF.out B7) (tabB TT.out B7)).mono ?_
    rintro r w8 ⟨rfl, b8⟩
    have B8 : Below w.heap.size w w8 := btr B7 b8
    have Rb_8 := heap_of b8 _ _ _ Rb_7
    have Rx_8 := heap_of b8 _ _ _ Rx_7
    have Rv_8 := heap_of b8 _ _ _ Rv_7
    have Rc_8 := heap_of b8 _ _ _ Rc_7
    clear b8 B7 Rb_7 cb_7_0 cb_7_1 Rx_7 cx_7_0 cx_7_1 cx_7_2 cx_7_3 Rv_7 cv_7_0 cv_7_1 cv_7_2 cv_7_3 Rc_7 cc_7_0 cc_7_1
    obtain ⟨cb_8_0, cb_8_1⟩ := cells2s Rb_8
    obtain ⟨cx_8_0, cx_8_1, cx_8_2, cx_8_3⟩ := cells4s Rx_8
    obtain ⟨cv_8_0, cv_8_1, cv_8_2, cv_8_3⟩ := cells4s Rv_8
    obtain ⟨cc_8_0, cc_8_1⟩ := cells2s Rc_8
    go_wp2
    go_ret
    exact ⟨rfl, B8⟩
  · obtain ⟨Rb_0, Rx_0, B0⟩ := opn2 w (Obj.cells #[.int .u64 0, .int .u64 (y : Nat)] 25) (Obj.cells #[.bool b, .string s, .string t, .int .i64 e] 41)
    go_enter Tryz.func10, Tryz.ntmps10
    go_wp2_with fail
    refine (KO.out _).mono ?_
    rintro r w1 ⟨rfl, b1⟩
    have B1 : Below w.heap.size w w1 := btr B0 b1
    have Rb_1 := heap_of b1 _ _ _ Rb_0
    have Rx_1 := heap_of b1 _ _ _ Rx_0
    clear b1 B0 Rb_0 Rx_0
    obtain ⟨cb_1_0, cb_1_1⟩ := cells2s Rb_1
    obtain ⟨cx_1_0, cx_1_1, cx_1_2, cx_1_3⟩ := cells4s Rx_1
    go_wp2_with fail
    refine (KF.out _ (fatB FF.out B1)).mono ?_
    rintro r w2 ⟨rfl, b2⟩
    have B2 : Below w.heap.size w w2 := btr B1 b2
    have Rb_2 := heap_of b2 _ _ _ Rb_1
    have Rx_2 := heap_of b2 _ _ _ Rx_1
    clear b2 B1 Rb_1 cb_1_0 cb_1_1 Rx_1 cx_1_0 cx_1_1 cx_1_2 cx_1_3
    obtain ⟨cb_2_0, cb_2_1⟩ := cells2s Rb_2
    obtain ⟨cx_2_0, cx_2_1, cx_2_2, cx_2_3⟩ := cells4s Rx_2
    go_wp2_with fail
    refine (KV.out _ (fatB FF.out B2) (tabB TT.out B2)).mono ?_
    rintro r w3 ⟨rfl, b3⟩
    have B3 : Below w.heap.size w w3 := btr B2 b3
    have Rb_3 := heap_of b3 _ _ _ Rb_2
    have Rx_3 := heap_of b3 _ _ _ Rx_2
    clear b3 B2 Rb_2 cb_2_0 cb_2_1 Rx_2 cx_2_0 cx_2_1 cx_2_2 cx_2_3
    obtain ⟨cb_3_0, cb_3_1⟩ := cells2s Rb_3
    obtain ⟨cx_3_0, cx_3_1, cx_3_2, cx_3_3⟩ := cells4s Rx_3
    have S4 := box B3.size
    have Lb_4 : Box (w.heap.size < w3.heap.size) := box (Array.getElem?_eq_some_iff.1 Rb_3).1
    have Lx_4 : Box (w.heap.size + 1 < w3.heap.size) := box (Array.getElem?_eq_some_iff.1 Rx_3).1
    have Rv_4 := heap_alloc_last w3 (Obj.cells #[.bool rb, .string u, .string v, .int .i64 re] 41)
    have B4 := btr B3 (bal w3 (Obj.cells #[.bool rb, .string u, .string v, .int .i64 re] 41))
    have Rb_4 := heap_of (bal w3 (Obj.cells #[.bool rb, .string u, .string v, .int .i64 re] 41)) _ _ _ Rb_3
    have Rx_4 := heap_of (bal w3 (Obj.cells #[.bool rb, .string u, .string v, .int .i64 re] 41)) _ _ _ Rx_3
    clear B3 Rb_3 cb_3_0 cb_3_1 Rx_3 cx_3_0 cx_3_1 cx_3_2 cx_3_3
    obtain ⟨cb_4_0, cb_4_1⟩ := cells2s Rb_4
    obtain ⟨cx_4_0, cx_4_1, cx_4_2, cx_4_3⟩ := cells4s Rx_4
    obtain ⟨cv_4_0, cv_4_1, cv_4_2, cv_4_3⟩ := cells4s Rv_4
    go_wp2_with fail
    refine (KR.out _ (fatB FF.out B4) (tabB TT.out B4)).mono ?_
    rintro r w5 ⟨rfl, b5⟩
    have B5 : Below w.heap.size w w5 := btr B4 b5
    have Rb_5 := heap_of b5 _ _ _ Rb_4
    have Rx_5 := heap_of b5 _ _ _ Rx_4
    have Rv_5 := heap_of b5 _ _ _ Rv_4
    clear b5 B4 Rb_4 cb_4_0 cb_4_1 Rx_4 cx_4_0 cx_4_1 cx_4_2 cx_4_3 Rv_4 cv_4_0 cv_4_1 cv_4_2 cv_4_3
    obtain ⟨cb_5_0, cb_5_1⟩ := cells2s Rb_5
    obtain ⟨cx_5_0, cx_5_1, cx_5_2, cx_5_3⟩ := cells4s Rx_5
    obtain ⟨cv_5_0, cv_5_1, cv_5_2, cv_5_3⟩ := cells4s Rv_5
    have S6 := box B5.size
    have Lb_6 : Box (w.heap.size < w5.heap.size) := box (Array.getElem?_eq_some_iff.1 Rb_5).1
    have Lx_6 : Box (w.heap.size + 1 < w5.heap.size) := box (Array.getElem?_eq_some_iff.1 Rx_5).1
    have Lv_6 : Box (w3.heap.size < w5.heap.size) := box (Array.getElem?_eq_some_iff.1 Rv_5).1
    have Rc_6 := heap_alloc_last w5 (Obj.cells #[.int .u64 0, .int .u64 0] 25)
    have B6 := btr B5 (bal w5 (Obj.cells #[.int .u64 0, .int .u64 0] 25))
    have Rb_6 := heap_of (bal w5 (Obj.cells #[.int .u64 0, .int .u64 0] 25)) _ _ _ Rb_5
    have Rx_6 := heap_of (bal w5 (Obj.cells #[.int .u64 0, .int .u64 0] 25)) _ _ _ Rx_5
    have Rv_6 := heap_of (bal w5 (Obj.cells #[.int .u64 0, .int .u64 0] 25)) _ _ _ Rv_5
    clear B5 Rb_5 cb_5_0 cb_5_1 Rx_5 cx_5_0 cx_5_1 cx_5_2 cx_5_3 Rv_5 cv_5_0 cv_5_1 cv_5_2 cv_5_3
    obtain ⟨cb_6_0, cb_6_1⟩ := cells2s Rb_6
    obtain ⟨cx_6_0, cx_6_1, cx_6_2, cx_6_3⟩ := cells4s Rx_6
    obtain ⟨cv_6_0, cv_6_1, cv_6_2, cv_6_3⟩ := cells4s Rv_6
    obtain ⟨cc_6_0, cc_6_1⟩ := cells2s Rc_6
    go_wp2_with fail
    refine (KG.out _ (tabB TT.out B6)).mono ?_
    rintro r w7 ⟨rfl, b7⟩
    have B7 : Below w.heap.size w w7 := btr B6 b7
    have Rb_7 := heap_of b7 _ _ _ Rb_6
    have Rx_7 := heap_of b7 _ _ _ Rx_6
    have Rv_7 := heap_of b7 _ _ _ Rv_6
    have Rc_7 := heap_of b7 _ _ _ Rc_6
    clear b7 B6 Rb_6 cb_6_0 cb_6_1 Rx_6 cx_6_0 cx_6_1 cx_6_2 cx_6_3 Rv_6 cv_6_0 cv_6_1 cv_6_2 cv_6_3 Rc_6 cc_6_0 cc_6_1
    obtain ⟨cb_7_0, cb_7_1⟩ := cells2s Rb_7
    obtain ⟨cx_7_0, cx_7_1, cx_7_2, cx_7_3⟩ := cells4s Rx_7
    obtain ⟨cv_7_0, cv_7_1, cv_7_2, cv_7_3⟩ := cells4s Rv_7
    obtain ⟨cc_7_0, cc_7_1⟩ := cells2s Rc_7
    go_wp2_with fail
    refine (KA.out _ (fatB FF.out B7) (tabB TT.out B7)).mono ?_
    rintro r w8 ⟨rfl, b8⟩
    have B8 : Below w.heap.size w w8 := btr B7 b8
    have Rb_8 := heap_of b8 _ _ _ Rb_7
    have Rx_8 := heap_of b8 _ _ _ Rx_7
    have Rv_8 := heap_of b8 _ _ _ Rv_7
    have Rc_8 := heap_of b8 _ _ _ Rc_7
    clear b8 B7 Rb_7 cb_7_0 cb_7_1 Rx_7 cx_7_0 cx_7_1 cx_7_2 cx_7_3 Rv_7 cv_7_0 cv_7_1 cv_7_2 cv_7_3 Rc_7 cc_7_0 cc_7_1
    obtain ⟨cb_8_0, cb_8_1⟩ := cells2s Rb_8
    obtain ⟨cx_8_0, cx_8_1, cx_8_2, cx_8_3⟩ := cells4s Rx_8
    obtain ⟨cv_8_0, cv_8_1, cv_8_2, cv_8_3⟩ := cells4s Rv_8
    obtain ⟨cc_8_0, cc_8_1⟩ := cells2s Rc_8
    go_wp2
    go_ret
    exact ⟨rfl, B8⟩
set_option maxRecDepth 100000 in
set_option maxHeartbeats 4000000 in
theorem ex_Cc (f m : Int) (x y : Nat) (b : Bool) (s t : ByteArray) (e : Int) (rb : Bool) (u v : ByteArray) (re : Int) (sb : Bool) (ss st : ByteArray) (se : Int) (i j : Nat) (fl : Int) (w : World)
    (KO : Box (∀ w, Calls Tryz.prog 31 #[.int .u8 m] w fun r w' => r = .returned (.bool true) ∧ Below w.heap.size w w'))
    (KF : Box (∀ w, FAt w → Calls Tryz.prog 41 #[.int .u8 f, .agg #[.int .u64 (x : Nat), .int .u64 (y : Nat)]] w fun r w' => r = .returned (.bool true) ∧ Below w.heap.size w w'))
    (KV : Box (∀ w, FAt w → TabAt w → Calls Tryz.prog 35 #[.int .u8 f, .agg #[.int .u64 (x : Nat), .int .u64 (y : Nat)]] w fun r w' => r = .returned (.tuple #[.agg #[.bool rb, .string u, .string v, .int .i64 re], .bool true]) ∧ Below w.heap.size w w'))
    (KR : Box (∀ w, FAt w → TabAt w → Calls Tryz.prog 22 #[.int .u8 f, .int .u8 m, .agg #[.bool rb, .string u, .string v, .int .i64 re]] w fun r w' => r = .returned (.tuple #[.agg #[.int .u64 0, .int .u64 0], .int .u8 0, .int .i64 0]) ∧ Below w.heap.size w w'))
    (KG : Box (∀ w, TabAt w → Calls Tryz.prog 32 #[.agg #[.bool rb, .string u, .string v, .int .i64 re]] w fun r w' => r = .returned (.int .i64 0) ∧ Below w.heap.size w w'))
    (hx : (((0 : Int) == ((x : Nat) : Int)) = false ∧ decide (0 = x) = false) ∨ (x = 0 ∧ ((0 : Int) == ((y : Nat) : Int)) = false ∧ decide (0 = y) = false))
    (h1 : decide ((25 : Int) < (s.size : Int)) = false) (h2 : decide ((25 : Int) < (t.size : Int)) = false)
    (KM : Box (∀ w, Calls Tryz.prog 29 #[.agg #[.bool b, .string s, .string t, .int .i64 e]] w fun r w' => r = .returned (.bool false) ∧ Below w.heap.size w w'))
    (KA : Box (∀ w, FAt w → TabAt w → Calls Tryz.prog 21 #[] w fun r w' => r = .returned (.bool true) ∧ Below w.heap.size w w'))
    (hT : FAt w) (hT2 : TabAt w) : Calls Tryz.prog 10 #[.int .u8 f, .int .u8 m, .agg #[.int .u64 (x : Nat), .int .u64 (y : Nat)], .agg #[.bool b, .string s, .string t, .int .i64 e]] w fun r w' => r = .returned (.bool true) ∧ Below w.heap.size w w' := by
  have FF := box hT
  have TT := box hT2
  clear hT hT2
  rcases hx with ⟨x1, x2⟩ | ⟨rfl, x1, x2⟩
  · obtain ⟨Rb_0, Rx_0, B0⟩ := opn2 w (Obj.cells #[.int .u64 (x : Nat), .int .u64 (y : Nat)] 25) (Obj.cells #[.bool b, .string s, .string t, .int .i64 e] 41)
    go_enter Tryz.func10, Tryz.ntmps10
    go_wp2_with fail
    refine (KO.out _).mono ?_
    rintro r w1 ⟨rfl, b1⟩
    have B1 : Below w.heap.size w w1 := btr B0 b1
    have Rb_1 := heap_of b1 _ _ _ Rb_0
    have Rx_1 := heap_of b1 _ _ _ Rx_0
    clear b1 B0 Rb_0 Rx_0
    obtain ⟨cb_1_0, cb_1_1⟩ := cells2s Rb_1
    obtain ⟨cx_1_0, cx_1_1, cx_1_2, cx_1_3⟩ := cells4s Rx_1
    go_wp2_with fail
    refine (KF.out _ (fatB FF.out B1)).mono ?_
    rintro r w2 ⟨rfl, b2⟩
    have B2 : Below w.heap.size w w2 := btr B1 b2
    have Rb_2 := heap_of b2 _ _ _ Rb_1
    have Rx_2 := heap_of b2 _ _ _ Rx_1
    clear b2 B1 Rb_1 cb_1_0 cb_1_1 Rx_1 cx_1_0 cx_1_1 cx_1_2 cx_1_3
    obtain ⟨cb_2_0, cb_2_1⟩ := cells2s Rb_2
    obtain ⟨cx_2_0, cx_2_1, cx_2_2, cx_2_3⟩ := cells4s Rx_2
    go_wp2_with fail
    refine (KV.out _ (fatB FF.out B2) (tabB TT.out B2)).mono ?_
    rintro r w3 ⟨rfl, b3⟩
    have B3 : Below w.heap.size w w3 := btr B2 b3
    have Rb_3 := heap_of b3 _ _ _ Rb_2
    have Rx_3 := heap_of b3 _ _ _ Rx_2
    clear b3 B2 Rb_2 cb_2_0 cb_2_1 Rx_2 cx_2_0 cx_2_1 cx_2_2 cx_2_3
    obtain ⟨cb_3_0, cb_3_1⟩ := cells2s Rb_3
    obtain ⟨cx_3_0, cx_3_1, cx_3_2, cx_3_3⟩ := cells4s Rx_3
    have S4 := box B3.size
    have Lb_4 : Box (w.heap.size < w3.heap.size) := box (Array.getElem?_eq_some_iff.1 Rb_3).1
    have Lx_4 : Box (w.heap.size + 1 < w3.heap.size) := box (Array.getElem?_eq_some_iff.1 Rx_3).1
    have Rv_4 := heap_alloc_last w3 (Obj.cells #[.bool rb, .string u, .string v, .int .i64 re] 41)
    have B4 := btr B3 (bal w3 (Obj.cells #[.bool rb, .string u, .string v, .int .i64 re] 41))
    have Rb_4 := heap_of (bal w3 (Obj.cells #[.bool rb, .string u, .string v, .int .i64 re] 41)) _ _ _ Rb_3
    have Rx_4 := heap_of (bal w3 (Obj.cells #[.bool rb, .string u, .string v, .int .i64 re] 41)) _ _ _ Rx_3
    clear B3 Rb_3 cb_3_0 cb_3_1 Rx_3 cx_3_0 cx_3_1 cx_3_2 cx_3_3
    obtain ⟨cb_4_0, cb_4_1⟩ := cells2s Rb_4
    obtain ⟨cx_4_0, cx_4_1, cx_4_2, cx_4_3⟩ := cells4s Rx_4
    obtain ⟨cv_4_0, cv_4_1, cv_4_2, cv_4_3⟩ := cells4s Rv_4
    go_wp2_with fail
    refine (KR.out _ (fatB FF.out B4) (tabB TT.out B4)).mono ?_
    rintro r w5 ⟨rfl, b5⟩
    have B5 : Below w.heap.size w w5 := btr B4 b5
    have Rb_5 := heap_of b5 _ _ _ Rb_4
    have Rx_5 := heap_of b5 _ _ _ Rx_4
    have Rv_5 := heap_of b5 _ _ _ Rv_4
    clear b5 B4 Rb_4 cb_4_0 cb_4_1 Rx_4 cx_4_0 cx_4_1 cx_4_2 cx_4_3 Rv_4 cv_4_0 cv_4_1 cv_4_2 cv_4_3
    obtain ⟨cb_5_0, cb_5_1⟩ := cells2s Rb_5
    obtain ⟨cx_5_0, cx_5_1, cx_5_2, cx_5_3⟩ := cells4s Rx_5
    obtain ⟨cv_5_0, cv_5_1, cv_5_2, cv_5_3⟩ := cells4s Rv_5
    have S6 := box B5.size
    have Lb_6 : Box (w.heap.size < w5.heap.size) := box (Array.getElem?_eq_some_iff.1 Rb_5).1
    have Lx_6 : Box (w.heap.size + 1 < w5.heap.size) := box (Array.getElem?_eq_some_iff.1 Rx_5).1
    have Lv_6 : Box (w3.heap.size < w5.heap.size) := box (Array.getElem?_eq_some_iff.1 Rv_5).1
    have Rc_6 := heap_alloc_last w5 (Obj.cells #[.int .u64 0, .int .u64 0] 25)
    have B6 := btr B5 (bal w5 (Obj.cells #[.int .u64 0, .int .u64 0] 25))
    have Rb_6 := heap_of (bal w5 (Obj.cells #[.int .u64 0, .int .u64 0] 25)) _ _ _ Rb_5
    have Rx_6 := heap_of (bal w5 (Obj.cells #[.int .u64 0, .int .u64 0] 25)) _ _ _ Rx_5
    have Rv_6 := heap_of (bal w5 (Obj.cells #[.int .u64 0, .int .u64 0] 25)) _ _ _ Rv_5
    clear B5 Rb_5 cb_5_0 cb_5_1 Rx_5 cx_5_0 cx_5_1 cx_5_2 cx_5_3 Rv_5 cv_5_0 cv_5_1 cv_5_2 cv_5_3
    obtain ⟨cb_6_0, cb_6_1⟩ := cells2s Rb_6
    obtain ⟨cx_6_0, cx_6_1, cx_6_2, cx_6_3⟩ := cells4s Rx_6
    obtain ⟨cv_6_0, cv_6_1, cv_6_2, cv_6_3⟩ := cells4s Rv_6
    obtain ⟨cc_6_0, cc_6_1⟩ := cells2s Rc_6
    go_wp2_with fail
    refine (KG.out _ (tabB TT.out B6)).mono ?_
    rintro r w7 ⟨rfl, b7⟩
    have B7 : Below w.heap.size w w7 := btr B6 b7
    have Rb_7 := heap_of b7 _ _ _ Rb_6
    have Rx_7 := heap_of b7 _ _ _ Rx_6
    have Rv_7 := heap_of b7 _ _ _ Rv_6
    have Rc_7 := heap_of b7 _ _ _ Rc_6
    clear b7 B6 Rb_6 cb_6_0 cb_6_1 Rx_6 cx_6_0 cx_6_1 cx_6_2 cx_6_3 Rv_6 cv_6_0 cv_6_1 cv_6_2 cv_6_3 Rc_6 cc_6_0 cc_6_1
    obtain ⟨cb_7_0, cb_7_1⟩ := cells2s Rb_7
    obtain ⟨cx_7_0, cx_7_1, cx_7_2, cx_7_3⟩ := cells4s Rx_7
    obtain ⟨cv_7_0, cv_7_1, cv_7_2, cv_7_3⟩ := cells4s Rv_7
    obtain ⟨cc_7_0, cc_7_1⟩ := cells2s Rc_7
    go_wp2_with fail
    refine (KM.out _).mono ?_
    rintro r w8 ⟨rfl, b8⟩
    have B8 : Below w.heap.size w w8 := btr B7 b8
    have Rb_8 := heap_of b8 _ _ _ Rb_7
    have Rx_8 := heap_of b8 _ _ _ Rx_7
    have Rv_8 := heap_of b8 _ _ _ Rv_7
    have Rc_8 := heap_of b8 _ _ _ Rc_7
    clear b8 B7 Rb_7 cb_7_0 cb_7_1 Rx_7 cx_7_0 cx_7_1 cx_7_2 cx_7_3 Rv_7 cv_7_0 cv_7_1 cv_7_2 cv_7_3 Rc_7 cc_7_0 cc_7_1
    obtain ⟨cb_8_0, cb_8_1⟩ := cells2s Rb_8
    obtain ⟨cx_8_0, cx_8_1, cx_8_2, cx_8_3⟩ := cells4s Rx_8
    obtain ⟨cv_8_0, cv_8_1, cv_8_2, cv_8_3⟩ := cells4s Rv_8
    obtain ⟨cc_8_0, cc_8_1⟩ := cells2s Rc_8
    go_wp2_with fail
    refine (KA.out _ (fatB FF.out B8) (tabB TT.out B8)).mono ?_
    rintro r w9 ⟨rfl, b9⟩
    have B9 : Below w.heap.size w w9 := btr B8 b9
    have Rb_9 := heap_of b9 _ _ _ Rb_8
    have Rx_9 := heap_of b9 _ _ _ Rx_8
    have Rv_9 := heap_of b9 _ _ _ Rv_8
    have Rc_9 := heap_of b9 _ _ _ Rc_8
    clear b9 B8 Rb_8 cb_8_0 cb_8_1 Rx_8 cx_8_0 cx_8_1 cx_8_2 cx_8_3 Rv_8 cv_8_0 cv_8_1 cv_8_2 cv_8_3 Rc_8 cc_8_0 cc_8_1
    obtain ⟨cb_9_0, cb_9_1⟩ := cells2s Rb_9
    obtain ⟨cx_9_0, cx_9_1, cx_9_2, cx_9_3⟩ := cells4s Rx_9
    obtain ⟨cv_9_0, cv_9_1, cv_9_2, cv_9_3⟩ := cells4s Rv_9
    obtain ⟨cc_9_0, cc_9_1⟩ := cells2s Rc_9
    go_wp2
    go_ret
    exact ⟨rfl, B9⟩
  · obtain ⟨Rb_0, Rx_0, B0⟩ := opn2 w (Obj.cells #[.int .u64 0, .int .u64 (y : Nat)] 25) (Obj.cells #[.bool b, .string s, .string t, .int .i64 e] 41)
    go_enter Tryz.func10, Tryz.ntmps10
    go_wp2_with fail
    refine (KO.out _).mono ?_
    rintro r w1 ⟨rfl, b1⟩
    have B1 : Below w.heap.size w w1 := btr B0 b1
    have Rb_1 := heap_of b1 _ _ _ Rb_0
    have Rx_1 := heap_of b1 _ _ _ Rx_0
    clear b1 B0 Rb_0 Rx_0
    obtain ⟨cb_1_0, cb_1_1⟩ := cells2s Rb_1
    obtain ⟨cx_1_0, cx_1_1, cx_1_2, cx_1_3⟩ := cells4s Rx_1
    go_wp2_with fail
    refine (KF.out _ (fatB FF.out B1)).mono ?_
    rintro r w2 ⟨rfl, b2⟩
    have B2 : Below w.heap.size w w2 := btr B1 b2
    have Rb_2 := heap_of b2 _ _ _ Rb_1
    have Rx_2 := heap_of b2 _ _ _ Rx_1
    clear b2 B1 Rb_1 cb_1_0 cb_1_1 Rx_1 cx_1_0 cx_1_1 cx_1_2 cx_1_3
    obtain ⟨cb_2_0, cb_2_1⟩ := cells2s Rb_2
    obtain ⟨cx_2_0, cx_2_1, cx_2_2, cx_2_3⟩ := cells4s Rx_2
    go_wp2_with fail
    refine (KV.out _ (fatB FF.out B2) (tabB TT.out B2)).mono ?_
    rintro r w3 ⟨rfl, b3⟩
    have B3 : Below w.heap.size w w3 := btr B2 b3
    have Rb_3 := heap_of b3 _ _ _ Rb_2
    have Rx_3 := heap_of b3 _ _ _ Rx_2
    clear b3 B2 Rb_2 cb_2_0 cb_2_1 Rx_2 cx_2_0 cx_2_1 cx_2_2 cx_2_3
    obtain ⟨cb_3_0, cb_3_1⟩ := cells2s Rb_3
    obtain ⟨cx_3_0, cx_3_1, cx_3_2, cx_3_3⟩ := cells4s Rx_3
    have S4 := box B3.size
    have Lb_4 : Box (w.heap.size < w3.heap.size) := box (Array.getElem?_eq_some_iff.1 Rb_3).1
    have Lx_4 : Box (w.heap.size + 1 < w3.heap.size) := box (Array.getElem?_eq_some_iff.1 Rx_3).1
    have Rv_4 := heap_alloc_last w3 (Obj.cells #[.bool rb, .string u, .string v, .int .i64 re] 41)
    have B4 := btr B3 (bal w3 (Obj.cells #[.bool rb, .string u, .string v, .int .i64 re] 41))
    have Rb_4 := heap_of (bal w3 (Obj.cells #[.bool rb, .string u, .string v, .int .i64 re] 41)) _ _ _ Rb_3
    have Rx_4 := heap_of (bal w3 (Obj.cells #[.bool rb, .string u, .string v, .int .i64 re] 41)) _ _ _ Rx_3
    clear B3 Rb_3 cb_3_0 cb_3_1 Rx_3 cx_3_0 cx_3_1 cx_3_2 cx_3_3
    obtain ⟨cb_4_0, cb_4_1⟩ := cells2s Rb_4
    obtain ⟨cx_4_0, cx_4_1, cx_4_2, cx_4_3⟩ := cells4s Rx_4
    obtain ⟨cv_4_0, cv_4_1, cv_4_2, cv_4_3⟩ := cells4s Rv_4
    go_wp2_with fail
    refine (KR.out _ (fatB FF.out B4) (tabB TT.out B4)).mono ?_
    rintro r w5 ⟨rfl, b5⟩
    have B5 : Below w.heap.size w w5 := btr B4 b5
    have Rb_5 := heap_of b5 _ _ _ Rb_4
    have Rx_5 := heap_of b5 _ _ _ Rx_4
    have Rv_5 := heap_of b5 _ _ _ Rv_4
    clear b5 B4 Rb_4 cb_4_0 cb_4_1 Rx_4 cx_4_0 cx_4_1 cx_4_2 cx_4_3 Rv_4 cv_4_0 cv_4_1 cv_4_2 cv_4_3
    obtain ⟨cb_5_0, cb_5_1⟩ := cells2s Rb_5
    obtain ⟨cx_5_0, cx_5_1, cx_5_2, cx_5_3⟩ := cells4s Rx_5
    obtain ⟨cv_5_0, cv_5_1, cv_5_2, cv_5_3⟩ := cells4s Rv_5
    have S6 := box B5.size
    have Lb_6 : Box (w.heap.size < w5.heap.size) := box (Array.getElem?_eq_some_iff.1 Rb_5).1
    have Lx_6 : Box (w.heap.size + 1 < w5.heap.size) := box (Array.getElem?_eq_some_iff.1 Rx_5).1
    have Lv_6 : Box (w3.heap.size < w5.heap.size) := box (Array.getElem?_eq_some_iff.1 Rv_5).1
    have Rc_6 := heap_alloc_last w5 (Obj.cells #[.int .u64 0, .int .u64 0] 25)
    have B6 := btr B5 (bal w5 (Obj.cells #[.int .u64 0, .int .u64 0] 25))
    have Rb_6 := heap_of (bal w5 (Obj.cells #[.int .u64 0, .int .u64 0] 25)) _ _ _ Rb_5
    have Rx_6 := heap_of (bal w5 (Obj.cells #[.int .u64 0, .int .u64 0] 25)) _ _ _ Rx_5
    have Rv_6 := heap_of (bal w5 (Obj.cells #[.int .u64 0, .int .u64 0] 25)) _ _ _ Rv_5
    clear B5 Rb_5 cb_5_0 cb_5_1 Rx_5 cx_5_0 cx_5_1 cx_5_2 cx_5_3 Rv_5 cv_5_0 cv_5_1 cv_5_2 cv_5_3
    obtain ⟨cb_6_0, cb_6_1⟩ := cells2s Rb_6
    obtain ⟨cx_6_0, cx_6_1, cx_6_2, cx_6_3⟩ := cells4s Rx_6
    obtain ⟨cv_6_0, cv_6_1, cv_6_2, cv_6_3⟩ := cells4s Rv_6
    obtain ⟨cc_6_0, cc_6_1⟩ := cells2s Rc_6
    go_wp2_with fail
    refine (KG.out _ (tabB TT.out B6)).mono ?_
    rintro r w7 ⟨rfl, b7⟩
    have B7 : Below w.heap.size w w7 := btr B6 b7
    have Rb_7 := heap_of b7 _ _ _ Rb_6
    have Rx_7 := heap_of b7 _ _ _ Rx_6
    have Rv_7 := heap_of b7 _ _ _ Rv_6
    have Rc_7 := heap_of b7 _ _ _ Rc_6
    clear b7 B6 Rb_6 cb_6_0 cb_6_1 Rx_6 cx_6_0 cx_6_1 cx_6_2 cx_6_3 Rv_6 cv_6_0 cv_6_1 cv_6_2 cv_6_3 Rc_6 cc_6_0 cc_6_1
    obtain ⟨cb_7_0, cb_7_1⟩ := cells2s Rb_7
    obtain ⟨cx_7_0, cx_7_1, cx_7_2, cx_7_3⟩ := cells4s Rx_7
    obtain ⟨cv_7_0, cv_7_1, cv_7_2, cv_7_3⟩ := cells4s Rv_7
    obtain ⟨cc_7_0, cc_7_1⟩ := cells2s Rc_7
    go_wp2_with fail
    refine (KM.out _).mono ?_
    rintro r w8 ⟨rfl, b8⟩
    have B8 : Below w.heap.size w w8 := btr B7 b8
    have Rb_8 := heap_of b8 _ _ _ Rb_7
    have Rx_8 := heap_of b8 _ _ _ Rx_7
    have Rv_8 := heap_of b8 _ _ _ Rv_7
    have Rc_8 := heap_of b8 _ _ _ Rc_7
    clear b8 B7 Rb_7 cb_7_0 cb_7_1 Rx_7 cx_7_0 cx_7_1 cx_7_2 cx_7_3 Rv_7 cv_7_0 cv_7_1 cv_7_2 cv_7_3 Rc_7 cc_7_0 cc_7_1
    obtain ⟨cb_8_0, cb_8_1⟩ := cells2s Rb_8
    obtain ⟨cx_8_0, cx_8_1, cx_8_2, cx_8_3⟩ := cells4s Rx_8
    obtain ⟨cv_8_0, cv_8_1, cv_8_2, cv_8_3⟩ := cells4s Rv_8
    obtain ⟨cc_8_0, cc_8_1⟩ := cells2s Rc_8
    go_wp2_with fail
    refine (KA.out _ (fatB FF.out B8) (tabB TT.out B8)).mono ?_
    rintro r w9 ⟨rfl, b9⟩
    have B9 : Below w.heap.size w w9 := btr B8 b9
    have Rb_9 := heap_of b9 _ _ _ Rb_8
    have Rx_9 := heap_of b9 _ _ _ Rx_8
    have Rv_9 := heap_of b9 _ _ _ Rv_8
    have Rc_9 := heap_of b9 _ _ _ Rc_8
    clear b9 B8 Rb_8 cb_8_0 cb_8_1 Rx_8 cx_8_0 cx_8_1 cx_8_2 cx_8_3 Rv_8 cv_8_0 cv_8_1 cv_8_2 cv_8_3 Rc_8 cc_8_0 cc_8_1
    obtain ⟨cb_9_0, cb_9_1⟩ := cells2s Rb_9
    obtain ⟨cx_9_0, cx_9_1, cx_9_2, cx_9_3⟩ := cells4s Rx_9
    obtain ⟨cv_9_0, cv_9_1, cv_9_2, cv_9_3⟩ := cells4s Rv_9
    obtain ⟨cc_9_0, cc_9_1⟩ := cells2s Rc_9
    go_wp2
    go_ret
    exact ⟨rfl, B9⟩
set_option maxRecDepth 100000 in
set_option maxHeartbeats 4000000 in
theorem ex_Cd (f m : Int) (x y : Nat) (b : Bool) (s t : ByteArray) (e : Int) (rb : Bool) (u v : ByteArray) (re : Int) (sb : Bool) (ss st : ByteArray) (se : Int) (i j : Nat) (fl : Int) (w : World)
    (KO : Box (∀ w, Calls Tryz.prog 31 #[.int .u8 m] w fun r w' => r = .returned (.bool true) ∧ Below w.heap.size w w'))
    (KF : Box (∀ w, FAt w → Calls Tryz.prog 41 #[.int .u8 f, .agg #[.int .u64 (x : Nat), .int .u64 (y : Nat)]] w fun r w' => r = .returned (.bool true) ∧ Below w.heap.size w w'))
    (KV : Box (∀ w, FAt w → TabAt w → Calls Tryz.prog 35 #[.int .u8 f, .agg #[.int .u64 (x : Nat), .int .u64 (y : Nat)]] w fun r w' => r = .returned (.tuple #[.agg #[.bool rb, .string u, .string v, .int .i64 re], .bool true]) ∧ Below w.heap.size w w'))
    (KR : Box (∀ w, FAt w → TabAt w → Calls Tryz.prog 22 #[.int .u8 f, .int .u8 m, .agg #[.bool rb, .string u, .string v, .int .i64 re]] w fun r w' => r = .returned (.tuple #[.agg #[.int .u64 0, .int .u64 0], .int .u8 0, .int .i64 0]) ∧ Below w.heap.size w w'))
    (KG : Box (∀ w, TabAt w → Calls Tryz.prog 32 #[.agg #[.bool rb, .string u, .string v, .int .i64 re]] w fun r w' => r = .returned (.int .i64 0) ∧ Below w.heap.size w w'))
    (hx : (((0 : Int) == ((x : Nat) : Int)) = false ∧ decide (0 = x) = false) ∨ (x = 0 ∧ ((0 : Int) == ((y : Nat) : Int)) = false ∧ decide (0 = y) = false))
    (h1 : decide ((25 : Int) < (s.size : Int)) = false) (h2 : decide ((25 : Int) < (t.size : Int)) = false) (h3 : decide ((400000 : Int) < e) = true)
    (KM : Box (∀ w, Calls Tryz.prog 29 #[.agg #[.bool b, .string s, .string t, .int .i64 e]] w fun r w' => r = .returned (.bool true) ∧ Below w.heap.size w w'))
    (KA : Box (∀ w, FAt w → TabAt w → Calls Tryz.prog 21 #[] w fun r w' => r = .returned (.bool true) ∧ Below w.heap.size w w'))
    (hT : FAt w) (hT2 : TabAt w) : Calls Tryz.prog 10 #[.int .u8 f, .int .u8 m, .agg #[.int .u64 (x : Nat), .int .u64 (y : Nat)], .agg #[.bool b, .string s, .string t, .int .i64 e]] w fun r w' => r = .returned (.bool true) ∧ Below w.heap.size w w' := by
  have FF := box hT
  have TT := box hT2
  clear hT hT2
  rcases hx with ⟨x1, x2⟩ | ⟨rfl, x1, x2⟩
  · obtain ⟨Rb_0, Rx_0, B0⟩ := opn2 w (Obj.cells #[.int .u64 (x : Nat), .int .u64 (y : Nat)] 25) (Obj.cells #[.bool b, .string s, .string t, .int .i64 e] 41)
    go_enter Tryz.func10, Tryz.ntmps10
    go_wp2_with fail
    refine (KO.out _).mono ?_
    rintro r w1 ⟨rfl, b1⟩
    have B1 : Below w.heap.size w w1 := btr B0 b1
    have Rb_1 := heap_of b1 _ _ _ Rb_0
    have Rx_1 := heap_of b1 _ _ _ Rx_0
    clear b1 B0 Rb_0 Rx_0
    obtain ⟨cb_1_0, cb_1_1⟩ := cells2s Rb_1
    obtain ⟨cx_1_0, cx_1_1, cx_1_2, cx_1_3⟩ := cells4s Rx_1
    go_wp2_with fail
    refine (KF.out _ (fatB FF.out B1)).mono ?_
    rintro r w2 ⟨rfl, b2⟩
    have B2 : Below w.heap.size w w2 := btr B1 b2
    have Rb_2 := heap_of b2 _ _ _ Rb_1
    have Rx_2 := heap_of b2 _ _ _ Rx_1
    clear b2 B1 Rb_1 cb_1_0 cb_1_1 Rx_1 cx_1_0 cx_1_1 cx_1_2 cx_1_3
    obtain ⟨cb_2_0, cb_2_1⟩ := cells2s Rb_2
    obtain ⟨cx_2_0, cx_2_1, cx_2_2, cx_2_3⟩ := cells4s Rx_2
    go_wp2_with fail
    refine (KV.out _ (fatB FF.out B2) (tabB TT.out B2)).mono ?_
    rintro r w3 ⟨rfl, b3⟩
    have B3 : Below w.heap.size w w3 := btr B2 b3
    have Rb_3 := heap_of b3 _ _ _ Rb_2
    have Rx_3 := heap_of b3 _ _ _ Rx_2
    clear b3 B2 Rb_2 cb_2_0 cb_2_1 Rx_2 cx_2_0 cx_2_1 cx_2_2 cx_2_3
    obtain ⟨cb_3_0, cb_3_1⟩ := cells2s Rb_3
    obtain ⟨cx_3_0, cx_3_1, cx_3_2, cx_3_3⟩ := cells4s Rx_3
    have S4 := box B3.size
    have Lb_4 : Box (w.heap.size < w3.heap.size) := box (Array.getElem?_eq_some_iff.1 Rb_3).1
    have Lx_4 : Box (w.heap.size + 1 < w3.heap.size) := box (Array.getElem?_eq_some_iff.1 Rx_3).1
    have Rv_4 := heap_alloc_last w3 (Obj.cells #[.bool rb, .string u, .string v, .int .i64 re] 41)
    have B4 := btr B3 (bal w3 (Obj.cells #[.bool rb, .string u, .string v, .int .i64 re] 41))
    have Rb_4 := heap_of (bal w3 (Obj.cells #[.bool rb, .string u, .string v, .int .i64 re] 41)) _ _ _ Rb_3
    have Rx_4 := heap_of (bal w3 (Obj.cells #[.bool rb, .string u, .string v, .int .i64 re] 41)) _ _ _ Rx_3
    clear B3 Rb_3 cb_3_0 cb_3_1 Rx_3 cx_3_0 cx_3_1 cx_3_2 cx_3_3
    obtain ⟨cb_4_0, cb_4_1⟩ := cells2s Rb_4
    obtain ⟨cx_4_0, cx_4_1, cx_4_2, cx_4_3⟩ := cells4s Rx_4
    obtain ⟨cv_4_0, cv_4_1, cv_4_2, cv_4_3⟩ := cells4s Rv_4
    go_wp2_with fail
    refine (KR.out _ (fatB FF.out B4) (tabB TT.out B4)).mono ?_
    rintro r w5 ⟨rfl, b5⟩
    have B5 : Below w.heap.size w w5 := btr B4 b5
    have Rb_5 := heap_of b5 _ _ _ Rb_4
    have Rx_5 := heap_of b5 _ _ _ Rx_4
    have Rv_5 := heap_of b5 _ _ _ Rv_4
    clear b5 B4 Rb_4 cb_4_0 cb_4_1 Rx_4 cx_4_0 cx_4_1 cx_4_2 cx_4_3 Rv_4 cv_4_0 cv_4_1 cv_4_2 cv_4_3
    obtain ⟨cb_5_0, cb_5_1⟩ := cells2s Rb_5
    obtain ⟨cx_5_0, cx_5_1, cx_5_2, cx_5_3⟩ := cells4s Rx_5
    obtain ⟨cv_5_0, cv_5_1, cv_5_2, cv_5_3⟩ := cells4s Rv_5
    have S6 := box B5.size
    have Lb_6 : Box (w.heap.size < w5.heap.size) := box (Array.getElem?_eq_some_iff.1 Rb_5).1
    have Lx_6 : Box (w.heap.size + 1 < w5.heap.size) := box (Array.getElem?_eq_some_iff.1 Rx_5).1
    have Lv_6 : Box (w3.heap.size < w5.heap.size) := box (Array.getElem?_eq_some_iff.1 Rv_5).1
    have Rc_6 := heap_alloc_last w5 (Obj.cells #[.int .u64 0, .int .u64 0] 25)
    have B6 := btr B5 (bal w5 (Obj.cells #[.int .u64 0, .int .u64 0] 25))
    have Rb_6 := heap_of (bal w5 (Obj.cells #[.int .u64 0, .int .u64 0] 25)) _ _ _ Rb_5
    have Rx_6 := heap_of (bal w5 (Obj.cells #[.int .u64 0, .int .u64 0] 25)) _ _ _ Rx_5
    have Rv_6 := heap_of (bal w5 (Obj.cells #[.int .u64 0, .int .u64 0] 25)) _ _ _ Rv_5
    clear B5 Rb_5 cb_5_0 cb_5_1 Rx_5 cx_5_0 cx_5_1 cx_5_2 cx_5_3 Rv_5 cv_5_0 cv_5_1 cv_5_2 cv_5_3
    obtain ⟨cb_6_0, cb_6_1⟩ := cells2s Rb_6
    obtain ⟨cx_6_0, cx_6_1, cx_6_2, cx_6_3⟩ := cells4s Rx_6
    obtain ⟨cv_6_0, cv_6_1, cv_6_2, cv_6_3⟩ := cells4s Rv_6
    obtain ⟨cc_6_0, cc_6_1⟩ := cells2s Rc_6
    go_wp2_with fail
    refine (KG.out _ (tabB TT.out B6)).mono ?_
    rintro r w7 ⟨rfl, b7⟩
    have B7 : Below w.heap.size w w7 := btr B6 b7
    have Rb_7 := heap_of b7 _ _ _ Rb_6
    have Rx_7 := heap_of b7 _ _ _ Rx_6
    have Rv_7 := heap_of b7 _ _ _ Rv_6
    have Rc_7 := heap_of b7 _ _ _ Rc_6
    clear b7 B6 Rb_6 cb_6_0 cb_6_1 Rx_6 cx_6_0 cx_6_1 cx_6_2 cx_6_3 Rv_6 cv_6_0 cv_6_1 cv_6_2 cv_6_3 Rc_6 cc_6_0 cc_6_1
    obtain ⟨cb_7_0, cb_7_1⟩ := cells2s Rb_7
    obtain ⟨cx_7_0, cx_7_1, cx_7_2, cx_7_3⟩ := cells4s Rx_7
    obtain ⟨cv_7_0, cv_7_1, cv_7_2, cv_7_3⟩ := cells4s Rv_7
    obtain ⟨cc_7_0, cc_7_1⟩ := cells2s Rc_7
    go_wp2_with fail
    refine (KM.out _).mono ?_
    rintro r w8 ⟨rfl, b8⟩
    have B8 : Below w.heap.size w w8 := btr B7 b8
    have Rb_8 := heap_of b8 _ _ _ Rb_7
    have Rx_8 := heap_of b8 _ _ _ Rx_7
    have Rv_8 := heap_of b8 _ _ _ Rv_7
    have Rc_8 := heap_of b8 _ _ _ Rc_7
    clear b8 B7 Rb_7 cb_7_0 cb_7_1 Rx_7 cx_7_0 cx_7_1 cx_7_2 cx_7_3 Rv_7 cv_7_0 cv_7_1 cv_7_2 cv_7_3 Rc_7 cc_7_0 cc_7_1
    obtain ⟨cb_8_0, cb_8_1⟩ := cells2s Rb_8
    obtain ⟨cx_8_0, cx_8_1, cx_8_2, cx_8_3⟩ := cells4s Rx_8
    obtain ⟨cv_8_0, cv_8_1, cv_8_2, cv_8_3⟩ := cells4s Rv_8
    obtain ⟨cc_8_0, cc_8_1⟩ := cells2s Rc_8
    go_wp2_with fail
    refine (KA.out _ (fatB FF.out B8) (tabB TT.out B8)).mono ?_
    rintro r w9 ⟨rfl, b9⟩
    have B9 : Below w.heap.size w w9 := btr B8 b9
    have Rb_9 := heap_of b9 _ _ _ Rb_8
    have Rx_9 := heap_of b9 _ _ _ Rx_8
    have Rv_9 := heap_of b9 _ _ _ Rv_8
    have Rc_9 := heap_of b9 _ _ _ Rc_8
    clear b9 B8 Rb_8 cb_8_0 cb_8_1 Rx_8 cx_8_0 cx_8_1 cx_8_2 cx_8_3 Rv_8 cv_8_0 cv_8_1 cv_8_2 cv_8_3 Rc_8 cc_8_0 cc_8_1
    obtain ⟨cb_9_0, cb_9_1⟩ := cells2s Rb_9
    obtain ⟨cx_9_0, cx_9_1, cx_9_2, cx_9_3⟩ := cells4s Rx_9
    obtain ⟨cv_9_0, cv_9_1, cv_9_2, cv_9_3⟩ := cells4s Rv_9
    obtain ⟨cc_9_0, cc_9_1⟩ := cells2s Rc_9
    go_wp2
    go_ret
    exact ⟨rfl, B9⟩
  · obtain ⟨Rb_0, Rx_0, B0⟩ := opn2 w (Obj.cells #[.int .u64 0, .int .u64 (y : Nat)] 25) (Obj.cells #[.bool b, .string s, .string t, .int .i64 e] 41)
    go_enter Tryz.func10, Tryz.ntmps10
    go_wp2_with fail
    refine (KO.out _).mono ?_
    rintro r w1 ⟨rfl, b1⟩
    have B1 : Below w.heap.size w w1 := btr B0 b1
    have Rb_1 := heap_of b1 _ _ _ Rb_0
    have Rx_1 := heap_of b1 _ _ _ Rx_0
    clear b1 B0 Rb_0 Rx_0
    obtain ⟨cb_1_0, cb_1_1⟩ := cells2s Rb_1
    obtain ⟨cx_1_0, cx_1_1, cx_1_2, cx_1_3⟩ := cells4s Rx_1
    go_wp2_with fail
    refine (KF.out _ (fatB FF.out B1)).mono ?_
    rintro r w2 ⟨rfl, b2⟩
    have B2 : Below w.heap.size w w2 := btr B1 b2
    have Rb_2 := heap_of b2 _ _ _ Rb_1
    have Rx_2 := heap_of b2 _ _ _ Rx_1
    clear b2 B1 Rb_1 cb_1_0 cb_1_1 Rx_1 cx_1_0 cx_1_1 cx_1_2 cx_1_3
    obtain ⟨cb_2_0, cb_2_1⟩ := cells2s Rb_2
    obtain ⟨cx_2_0, cx_2_1, cx_2_2, cx_2_3⟩ := cells4s Rx_2
    go_wp2_with fail
    refine (KV.out _ (fatB FF.out B2) (tabB TT.out B2)).mono ?_
    rintro r w3 ⟨rfl, b3⟩
    have B3 : Below w.heap.size w w3 := btr B2 b3
    have Rb_3 := heap_of b3 _ _ _ Rb_2
    have Rx_3 := heap_of b3 _ _ _ Rx_2
    clear b3 B2 Rb_2 cb_2_0 cb_2_1 Rx_2 cx_2_0 cx_2_1 cx_2_2 cx_2_3
    obtain ⟨cb_3_0, cb_3_1⟩ := cells2s Rb_3
    obtain ⟨cx_3_0, cx_3_1, cx_3_2, cx_3_3⟩ := cells4s Rx_3
    have S4 := box B3.size
    have Lb_4 : Box (w.heap.size < w3.heap.size) := box (Array.getElem?_eq_some_iff.1 Rb_3).1
    have Lx_4 : Box (w.heap.size + 1 < w3.heap.size) := box (Array.getElem?_eq_some_iff.1 Rx_3).1
    have Rv_4 := heap_alloc_last w3 (Obj.cells #[.bool rb, .string u, .string v, .int .i64 re] 41)
    have B4 := btr B3 (bal w3 (Obj.cells #[.bool rb, .string u, .string v, .int .i64 re] 41))
    have Rb_4 := heap_of (bal w3 (Obj.cells #[.bool rb, .string u, .string v, .int .i64 re] 41)) _ _ _ Rb_3
    have Rx_4 := heap_of (bal w3 (Obj.cells #[.bool rb, .string u, .string v, .int .i64 re] 41)) _ _ _ Rx_3
    clear B3 Rb_3 cb_3_0 cb_3_1 Rx_3 cx_3_0 cx_3_1 cx_3_2 cx_3_3
    obtain ⟨cb_4_0, cb_4_1⟩ := cells2s Rb_4
    obtain ⟨cx_4_0, cx_4_1, cx_4_2, cx_4_3⟩ := cells4s Rx_4
    obtain ⟨cv_4_0, cv_4_1, cv_4_2, cv_4_3⟩ := cells4s Rv_4
    go_wp2_with fail
    refine (KR.out _ (fatB FF.out B4) (tabB TT.out B4)).mono ?_
    rintro r w5 ⟨rfl, b5⟩
    have B5 : Below w.heap.size w w5 := btr B4 b5
    have Rb_5 := heap_of b5 _ _ _ Rb_4
    have Rx_5 := heap_of b5 _ _ _ Rx_4
    have Rv_5 := heap_of b5 _ _ _ Rv_4
    clear b5 B4 Rb_4 cb_4_0 cb_4_1 Rx_4 cx_4_0 cx_4_1 cx_4_2 cx_4_3 Rv_4 cv_4_0 cv_4_1 cv_4_2 cv_4_3
    obtain ⟨cb_5_0, cb_5_1⟩ := cells2s Rb_5
    obtain ⟨cx_5_0, cx_5_1, cx_5_2, cx_5_3⟩ := cells4s Rx_5
    obtain ⟨cv_5_0, cv_5_1, cv_5_2, cv_5_3⟩ := cells4s Rv_5
    have S6 := box B5.size
    have Lb_6 : Box (w.heap.size < w5.heap.size) := box (Array.getElem?_eq_some_iff.1 Rb_5).1
    have Lx_6 : Box (w.heap.size + 1 < w5.heap.size) := box (Array.getElem?_eq_some_iff.1 Rx_5).1
    have Lv_6 : Box (w3.heap.size < w5.heap.size) := box (Array.getElem?_eq_some_iff.1 Rv_5).1
    have Rc_6 := heap_alloc_last w5 (Obj.cells #[.int .u64 0, .int .u64 0] 25)
    have B6 := btr B5 (bal w5 (Obj.cells #[.int .u64 0, .int .u64 0] 25))
    have Rb_6 := heap_of (bal w5 (Obj.cells #[.int .u64 0, .int .u64 0] 25)) _ _ _ Rb_5
    have Rx_6 := heap_of (bal w5 (Obj.cells #[.int .u64 0, .int .u64 0] 25)) _ _ _ Rx_5
    have Rv_6 := heap_of (bal w5 (Obj.cells #[.int .u64 0, .int .u64 0] 25)) _ _ _ Rv_5
    clear B5 Rb_5 cb_5_0 cb_5_1 Rx_5 cx_5_0 cx_5_1 cx_5_2 cx_5_3 Rv_5 cv_5_0 cv_5_1 cv_5_2 cv_5_3
    obtain ⟨cb_6_0, cb_6_1⟩ := cells2s Rb_6
    obtain ⟨cx_6_0, cx_6_1, cx_6_2, cx_6_3⟩ := cells4s Rx_6
    obtain ⟨cv_6_0, cv_6_1, cv_6_2, cv_6_3⟩ := cells4s Rv_6
    obtain ⟨cc_6_0, cc_6_1⟩ := cells2s Rc_6
    go_wp2_with fail
    refine (KG.out _ (tabB TT.out B6)).mono ?_
    rintro r w7 ⟨rfl, b7⟩
    have B7 : Below w.heap.size w w7 := btr B6 b7
    have Rb_7 := heap_of b7 _ _ _ Rb_6
    have Rx_7 := heap_of b7 _ _ _ Rx_6
    have Rv_7 := heap_of b7 _ _ _ Rv_6
    have Rc_7 := heap_of b7 _ _ _ Rc_6
    clear b7 B6 Rb_6 cb_6_0 cb_6_1 Rx_6 cx_6_0 cx_6_1 cx_6_2 cx_6_3 Rv_6 cv_6_0 cv_6_1 cv_6_2 cv_6_3 Rc_6 cc_6_0 cc_6_1
    obtain ⟨cb_7_0, cb_7_1⟩ := cells2s Rb_7
    obtain ⟨cx_7_0, cx_7_1, cx_7_2, cx_7_3⟩ := cells4s Rx_7
    obtain ⟨cv_7_0, cv_7_1, cv_7_2, cv_7_3⟩ := cells4s Rv_7
    obtain ⟨cc_7_0, cc_7_1⟩ := cells2s Rc_7
    go_wp2_with fail
    refine (KM.out _).mono ?_
    rintro r w8 ⟨rfl, b8⟩
    have B8 : Below w.heap.size w w8 := btr B7 b8
    have Rb_8 := heap_of b8 _ _ _ Rb_7
    have Rx_8 := heap_of b8 _ _ _ Rx_7
    have Rv_8 := heap_of b8 _ _ _ Rv_7
    have Rc_8 := heap_of b8 _ _ _ Rc_7
    clear b8 B7 Rb_7 cb_7_0 cb_7_1 Rx_7 cx_7_0 cx_7_1 cx_7_2 cx_7_3 Rv_7 cv_7_0 cv_7_1 cv_7_2 cv_7_3 Rc_7 cc_7_0 cc_7_1
    obtain ⟨cb_8_0, cb_8_1⟩ := cells2s Rb_8
    obtain ⟨cx_8_0, cx_8_1, cx_8_2, cx_8_3⟩ := cells4s Rx_8
    obtain ⟨cv_8_0, cv_8_1, cv_8_2, cv_8_3⟩ := cells4s Rv_8
    obtain ⟨cc_8_0, cc_8_1⟩ := cells2s Rc_8
    go_wp2_with fail
    refine (KA.out _ (fatB FF.out B8) (tabB TT.out B8)).mono ?_
    rintro r w9 ⟨rfl, b9⟩
    have B9 : Below w.heap.size w w9 := btr B8 b9
    have Rb_9 := heap_of b9 _ _ _ Rb_8
    have Rx_9 := heap_of b9 _ _ _ Rx_8
    have Rv_9 := heap_of b9 _ _ _ Rv_8
    have Rc_9 := heap_of b9 _ _ _ Rc_8
    clear b9 B8 Rb_8 cb_8_0 cb_8_1 Rx_8 cx_8_0 cx_8_1 cx_8_2 cx_8_3 Rv_8 cv_8_0 cv_8_1 cv_8_2 cv_8_3 Rc_8 cc_8_0 cc_8_1
    obtain ⟨cb_9_0, cb_9_1⟩ := cells2s Rb_9
    obtain ⟨cx_9_0, cx_9_1, cx_9_2, cx_9_3⟩ := cells4s Rx_9
    obtain ⟨cv_9_0, cv_9_1, cv_9_2, cv_9_3⟩ := cells4s Rv_9
    obtain ⟨cc_9_0, cc_9_1⟩ := cells2s Rc_9
    go_wp2
    go_ret
    exact ⟨rfl, B9⟩
set_option maxRecDepth 100000 in
set_option maxHeartbeats 4000000 in
theorem ex_Ce (f m : Int) (x y : Nat) (b : Bool) (s t : ByteArray) (e : Int) (rb : Bool) (u v : ByteArray) (re : Int) (sb : Bool) (ss st : ByteArray) (se : Int) (i j : Nat) (fl : Int) (w : World)
    (KO : Box (∀ w, Calls Tryz.prog 31 #[.int .u8 m] w fun r w' => r = .returned (.bool true) ∧ Below w.heap.size w w'))
    (KF : Box (∀ w, FAt w → Calls Tryz.prog 41 #[.int .u8 f, .agg #[.int .u64 (x : Nat), .int .u64 (y : Nat)]] w fun r w' => r = .returned (.bool true) ∧ Below w.heap.size w w'))
    (KV : Box (∀ w, FAt w → TabAt w → Calls Tryz.prog 35 #[.int .u8 f, .agg #[.int .u64 (x : Nat), .int .u64 (y : Nat)]] w fun r w' => r = .returned (.tuple #[.agg #[.bool rb, .string u, .string v, .int .i64 re], .bool true]) ∧ Below w.heap.size w w'))
    (KR : Box (∀ w, FAt w → TabAt w → Calls Tryz.prog 22 #[.int .u8 f, .int .u8 m, .agg #[.bool rb, .string u, .string v, .int .i64 re]] w fun r w' => r = .returned (.tuple #[.agg #[.int .u64 0, .int .u64 0], .int .u8 0, .int .i64 0]) ∧ Below w.heap.size w w'))
    (KG : Box (∀ w, TabAt w → Calls Tryz.prog 32 #[.agg #[.bool rb, .string u, .string v, .int .i64 re]] w fun r w' => r = .returned (.int .i64 0) ∧ Below w.heap.size w w'))
    (hx : (((0 : Int) == ((x : Nat) : Int)) = false ∧ decide (0 = x) = false) ∨ (x = 0 ∧ ((0 : Int) == ((y : Nat) : Int)) = false ∧ decide (0 = y) = false))
    (h1 : decide ((25 : Int) < (s.size : Int)) = false) (h2 : decide ((25 : Int) < (t.size : Int)) = false) (h3 : decide ((400000 : Int) < e) = false) (h4 : decide (e < -400000) = true)
    (KM : Box (∀ w, Calls Tryz.prog 29 #[.agg #[.bool b, .string s, .string t, .int .i64 e]] w fun r w' => r = .returned (.bool true) ∧ Below w.heap.size w w'))
    (KA : Box (∀ w, FAt w → TabAt w → Calls Tryz.prog 21 #[] w fun r w' => r = .returned (.bool true) ∧ Below w.heap.size w w'))
    (hT : FAt w) (hT2 : TabAt w) : Calls Tryz.prog 10 #[.int .u8 f, .int .u8 m, .agg #[.int .u64 (x : Nat), .int .u64 (y : Nat)], .agg #[.bool b, .string s, .string t, .int .i64 e]] w fun r w' => r = .returned (.bool true) ∧ Below w.heap.size w w' := by
  have FF := box hT
  have TT := box hT2
  clear hT hT2
  rcases hx with ⟨x1, x2⟩ | ⟨rfl, x1, x2⟩
  · obtain ⟨Rb_0, Rx_0, B0⟩ := opn2 w (Obj.cells #[.int .u64 (x : Nat), .int .u64 (y : Nat)] 25) (Obj.cells #[.bool b, .string s, .string t, .int .i64 e] 41)
    go_enter Tryz.func10, Tryz.ntmps10
    go_wp2_with fail
    refine (KO.out _).mono ?_
    rintro r w1 ⟨rfl, b1⟩
    have B1 : Below w.heap.size w w1 := btr B0 b1
    have Rb_1 := heap_of b1 _ _ _ Rb_0
    have Rx_1 := heap_of b1 _ _ _ Rx_0
    clear b1 B0 Rb_0 Rx_0
    obtain ⟨cb_1_0, cb_1_1⟩ := cells2s Rb_1
    obtain ⟨cx_1_0, cx_1_1, cx_1_2, cx_1_3⟩ := cells4s Rx_1
    go_wp2_with fail
    refine (KF.out _ (fatB FF.out B1)).mono ?_
    rintro r w2 ⟨rfl, b2⟩
    have B2 : Below w.heap.size w w2 := btr B1 b2
    have Rb_2 := heap_of b2 _ _ _ Rb_1
    have Rx_2 := heap_of b2 _ _ _ Rx_1
    clear b2 B1 Rb_1 cb_1_0 cb_1_1 Rx_1 cx_1_0 cx_1_1 cx_1_2 cx_1_3
    obtain ⟨cb_2_0, cb_2_1⟩ := cells2s Rb_2
    obtain ⟨cx_2_0, cx_2_1, cx_2_2, cx_2_3⟩ := cells4s Rx_2
    go_wp2_with fail
    refine (KV.out _ (fatB FF.out B2) (tabB TT.out B2)).mono ?_
    rintro r w3 ⟨rfl, b3⟩
    have B3 : Below w.heap.size w w3 := btr B2 b3
    have Rb_3 := heap_of b3 _ _ _ Rb_2
    have Rx_3 := heap_of b3 _ _ _ Rx_2
    clear b3 B2 Rb_2 cb_2_0 cb_2_1 Rx_2 cx_2_0 cx_2_1 cx_2_2 cx_2_3
    obtain ⟨cb_3_0, cb_3_1⟩ := cells2s Rb_3
    obtain ⟨cx_3_0, cx_3_1, cx_3_2, cx_3_3⟩ := cells4s Rx_3
    have S4 := box B3.size
    have Lb_4 : Box (w.heap.size < w3.heap.size) := box (Array.getElem?_eq_some_iff.1 Rb_3).1
    have Lx_4 : Box (w.heap.size + 1 < w3.heap.size) := box (Array.getElem?_eq_some_iff.1 Rx_3).1
    have Rv_4 := heap_alloc_last w3 (Obj.cells #[.bool rb, .string u, .string v, .int .i64 re] 41)
    have B4 := btr B3 (bal w3 (Obj.cells #[.bool rb, .string u, .string v, .int .i64 re] 41))
    have Rb_4 := heap_of (bal w3 (Obj.cells #[.bool rb, .string u, .string v, .int .i64 re] 41)) _ _ _ Rb_3
    have Rx_4 := heap_of (bal w3 (Obj.cells #[.bool rb, .string u, .string v, .int .i64 re] 41)) _ _ _ Rx_3
    clear B3 Rb_3 cb_3_0 cb_3_1 Rx_3 cx_3_0 cx_3_1 cx_3_2 cx_3_3
    obtain ⟨cb_4_0, cb_4_1⟩ := cells2s Rb_4
    obtain ⟨cx_4_0, cx_4_1, cx_4_2, cx_4_3⟩ := cells4s Rx_4
    obtain ⟨cv_4_0, cv_4_1, cv_4_2, cv_4_3⟩ := cells4s Rv_4
    go_wp2_with fail
    refine (KR.out _ (fatB FF.out B4) (tabB TT.out B4)).mono ?_
    rintro r w5 ⟨rfl, b5⟩
    have B5 : Below w.heap.size w w5 := btr B4 b5
    have Rb_5 := heap_of b5 _ _ _ Rb_4
    have Rx_5 := heap_of b5 _ _ _ Rx_4
    have Rv_5 := heap_of b5 _ _ _ Rv_4
    clear b5 B4 Rb_4 cb_4_0 cb_4_1 Rx_4 cx_4_0 cx_4_1 cx_4_2 cx_4_3 Rv_4 cv_4_0 cv_4_1 cv_4_2 cv_4_3
    obtain ⟨cb_5_0, cb_5_1⟩ := cells2s Rb_5
    obtain ⟨cx_5_0, cx_5_1, cx_5_2, cx_5_3⟩ := cells4s Rx_5
    obtain ⟨cv_5_0, cv_5_1, cv_5_2, cv_5_3⟩ := cells4s Rv_5
    have S6 := box B5.size
    have Lb_6 : Box (w.heap.size < w5.heap.size) := box (Array.getElem?_eq_some_iff.1 Rb_5).1
    have Lx_6 : Box (w.heap.size + 1 < w5.heap.size) := box (Array.getElem?_eq_some_iff.1 Rx_5).1
    have Lv_6 : Box (w3.heap.size < w5.heap.size) := box (Array.getElem?_eq_some_iff.1 Rv_5).1
    have Rc_6 := heap_alloc_last w5 (Obj.cells #[.int .u64 0, .int .u64 0] 25)
    have B6 := btr B5 (bal w5 (Obj.cells #[.int .u64 0, .int .u64 0] 25))
    have Rb_6 := heap_of (bal w5 (Obj.cells #[.int .u64 0, .int .u64 0] 25)) _ _ _ Rb_5
    have Rx_6 := heap_of (bal w5 (Obj.cells #[.int .u64 0, .int .u64 0] 25)) _ _ _ Rx_5
    have Rv_6 := heap_of (bal w5 (Obj.cells #[.int .u64 0, .int .u64 0] 25)) _ _ _ Rv_5
    clear B5 Rb_5 cb_5_0 cb_5_1 Rx_5 cx_5_0 cx_5_1 cx_5_2 cx_5_3 Rv_5 cv_5_0 cv_5_1 cv_5_2 cv_5_3
    obtain ⟨cb_6_0, cb_6_1⟩ := cells2s Rb_6
    obtain ⟨cx_6_0, cx_6_1, cx_6_2, cx_6_3⟩ := cells4s Rx_6
    obtain ⟨cv_6_0, cv_6_1, cv_6_2, cv_6_3⟩ := cells4s Rv_6
    obtain ⟨cc_6_0, cc_6_1⟩ := cells2s Rc_6
    go_wp2_with fail
    refine (KG.out _ (tabB TT.out B6)).mono ?_
    rintro r w7 ⟨rfl, b7⟩
    have B7 : Below w.heap.size w w7 := btr B6 b7
    have Rb_7 := heap_of b7 _ _ _ Rb_6
    have Rx_7 := heap_of b7 _ _ _ Rx_6
    have Rv_7 := heap_of b7 _ _ _ Rv_6
    have Rc_7 := heap_of b7 _ _ _ Rc_6
    clear b7 B6 Rb_6 cb_6_0 cb_6_1 Rx_6 cx_6_0 cx_6_1 cx_6_2 cx_6_3 Rv_6 cv_6_0 cv_6_1 cv_6_2 cv_6_3 Rc_6 cc_6_0 cc_6_1
    obtain ⟨cb_7_0, cb_7_1⟩ := cells2s Rb_7
    obtain ⟨cx_7_0, cx_7_1, cx_7_2, cx_7_3⟩ := cells4s Rx_7
    obtain ⟨cv_7_0, cv_7_1, cv_7_2, cv_7_3⟩ := cells4s Rv_7
    obtain ⟨cc_7_0, cc_7_1⟩ := cells2s Rc_7
    go_wp2_with fail
    refine (KM.out _).mono ?_
    rintro r w8 ⟨rfl, b8⟩
    have B8 : Below w.heap.size w w8 := btr B7 b8
    have Rb_8 := heap_of b8 _ _ _ Rb_7
    have Rx_8 := heap_of b8 _ _ _ Rx_7
    have Rv_8 := heap_of b8 _ _ _ Rv_7
    have Rc_8 := heap_of b8 _ _ _ Rc_7
    clear b8 B7 Rb_7 cb_7_0 cb_7_1 Rx_7 cx_7_0 cx_7_1 cx_7_2 cx_7_3 Rv_7 cv_7_0 cv_7_1 cv_7_2 cv_7_3 Rc_7 cc_7_0 cc_7_1
    obtain ⟨cb_8_0, cb_8_1⟩ := cells2s Rb_8
    obtain ⟨cx_8_0, cx_8_1, cx_8_2, cx_8_3⟩ := cells4s Rx_8
    obtain ⟨cv_8_0, cv_8_1, cv_8_2, cv_8_3⟩ := cells4s Rv_8
    obtain ⟨cc_8_0, cc_8_1⟩ := cells2s Rc_8
    go_wp2_with fail
    refine (KA.out _ (fatB FF.out B8) (tabB TT.out B8)).mono ?_
    rintro r w9 ⟨rfl, b9⟩
    have B9 : Below w.heap.size w w9 := btr B8 b9
    have Rb_9 := heap_of b9 _ _ _ Rb_8
    have Rx_9 := heap_of b9 _ _ _ Rx_8
    have Rv_9 := heap_of b9 _ _ _ Rv_8
    have Rc_9 := heap_of b9 _ _ _ Rc_8
    clear b9 B8 Rb_8 cb_8_0 cb_8_1 Rx_8 cx_8_0 cx_8_1 cx_8_2 cx_8_3 Rv_8 cv_8_0 cv_8_1 cv_8_2 cv_8_3 Rc_8 cc_8_0 cc_8_1
    obtain ⟨cb_9_0, cb_9_1⟩ := cells2s Rb_9
    obtain ⟨cx_9_0, cx_9_1, cx_9_2, cx_9_3⟩ := cells4s Rx_9
    obtain ⟨cv_9_0, cv_9_1, cv_9_2, cv_9_3⟩ := cells4s Rv_9
    obtain ⟨cc_9_0, cc_9_1⟩ := cells2s Rc_9
    go_wp2
    go_ret
    exact ⟨rfl, B9⟩
  · obtain ⟨Rb_0, Rx_0, B0⟩ := opn2 w (Obj.cells #[.int .u64 0, .int .u64 (y : Nat)] 25) (Obj.cells #[.bool b, .string s, .string t, .int .i64 e] 41)
    go_enter Tryz.func10, Tryz.ntmps10
    go_wp2_with fail
    refine (KO.out _).mono ?_
    rintro r w1 ⟨rfl, b1⟩
    have B1 : Below w.heap.size w w1 := btr B0 b1
    have Rb_1 := heap_of b1 _ _ _ Rb_0
    have Rx_1 := heap_of b1 _ _ _ Rx_0
    clear b1 B0 Rb_0 Rx_0
    obtain ⟨cb_1_0, cb_1_1⟩ := cells2s Rb_1
    obtain ⟨cx_1_0, cx_1_1, cx_1_2, cx_1_3⟩ := cells4s Rx_1
    go_wp2_with fail
    refine (KF.out _ (fatB FF.out B1)).mono ?_
    rintro r w2 ⟨rfl, b2⟩
    have B2 : Below w.heap.size w w2 := btr B1 b2
    have Rb_2 := heap_of b2 _ _ _ Rb_1
    have Rx_2 := heap_of b2 _ _ _ Rx_1
    clear b2 B1 Rb_1 cb_1_0 cb_1_1 Rx_1 cx_1_0 cx_1_1 cx_1_2 cx_1_3
    obtain ⟨cb_2_0, cb_2_1⟩ := cells2s Rb_2
    obtain ⟨cx_2_0, cx_2_1, cx_2_2, cx_2_3⟩ := cells4s Rx_2
    go_wp2_with fail
    refine (KV.out _ (fatB FF.out B2) (tabB TT.out B2)).mono ?_
    rintro r w3 ⟨rfl, b3⟩
    have B3 : Below w.heap.size w w3 := btr B2 b3
    have Rb_3 := heap_of b3 _ _ _ Rb_2
    have Rx_3 := heap_of b3 _ _ _ Rx_2
    clear b3 B2 Rb_2 cb_2_0 cb_2_1 Rx_2 cx_2_0 cx_2_1 cx_2_2 cx_2_3
    obtain ⟨cb_3_0, cb_3_1⟩ := cells2s Rb_3
    obtain ⟨cx_3_0, cx_3_1, cx_3_2, cx_3_3⟩ := cells4s Rx_3
    have S4 := box B3.size
    have Lb_4 : Box (w.heap.size < w3.heap.size) := box (Array.getElem?_eq_some_iff.1 Rb_3).1
    have Lx_4 : Box (w.heap.size + 1 < w3.heap.size) := box (Array.getElem?_eq_some_iff.1 Rx_3).1
    have Rv_4 := heap_alloc_last w3 (Obj.cells #[.bool rb, .string u, .string v, .int .i64 re] 41)
    have B4 := btr B3 (bal w3 (Obj.cells #[.bool rb, .string u, .string v, .int .i64 re] 41))
    have Rb_4 := heap_of (bal w3 (Obj.cells #[.bool rb, .string u, .string v, .int .i64 re] 41)) _ _ _ Rb_3
    have Rx_4 := heap_of (bal w3 (Obj.cells #[.bool rb, .string u, .string v, .int .i64 re] 41)) _ _ _ Rx_3
    clear B3 Rb_3 cb_3_0 cb_3_1 Rx_3 cx_3_0 cx_3_1 cx_3_2 cx_3_3
    obtain ⟨cb_4_0, cb_4_1⟩ := cells2s Rb_4
    obtain ⟨cx_4_0, cx_4_1, cx_4_2, cx_4_3⟩ := cells4s Rx_4
    obtain ⟨cv_4_0, cv_4_1, cv_4_2, cv_4_3⟩ := cells4s Rv_4
    go_wp2_with fail
    refine (KR.out _ (fatB FF.out B4) (tabB TT.out B4)).mono ?_
    rintro r w5 ⟨rfl, b5⟩
    have B5 : Below w.heap.size w w5 := btr B4 b5
    have Rb_5 := heap_of b5 _ _ _ Rb_4
    have Rx_5 := heap_of b5 _ _ _ Rx_4
    have Rv_5 := heap_of b5 _ _ _ Rv_4
    clear b5 B4 Rb_4 cb_4_0 cb_4_1 Rx_4 cx_4_0 cx_4_1 cx_4_2 cx_4_3 Rv_4 cv_4_0 cv_4_1 cv_4_2 cv_4_3
    obtain ⟨cb_5_0, cb_5_1⟩ := cells2s Rb_5
    obtain ⟨cx_5_0, cx_5_1, cx_5_2, cx_5_3⟩ := cells4s Rx_5
    obtain ⟨cv_5_0, cv_5_1, cv_5_2, cv_5_3⟩ := cells4s Rv_5
    have S6 := box B5.size
    have Lb_6 : Box (w.heap.size < w5.heap.size) := box (Array.getElem?_eq_some_iff.1 Rb_5).1
    have Lx_6 : Box (w.heap.size + 1 < w5.heap.size) := box (Array.getElem?_eq_some_iff.1 Rx_5).1
    have Lv_6 : Box (w3.heap.size < w5.heap.size) := box (Array.getElem?_eq_some_iff.1 Rv_5).1
    have Rc_6 := heap_alloc_last w5 (Obj.cells #[.int .u64 0, .int .u64 0] 25)
    have B6 := btr B5 (bal w5 (Obj.cells #[.int .u64 0, .int .u64 0] 25))
    have Rb_6 := heap_of (bal w5 (Obj.cells #[.int .u64 0, .int .u64 0] 25)) _ _ _ Rb_5
    have Rx_6 := heap_of (bal w5 (Obj.cells #[.int .u64 0, .int .u64 0] 25)) _ _ _ Rx_5
    have Rv_6 := heap_of (bal w5 (Obj.cells #[.int .u64 0, .int .u64 0] 25)) _ _ _ Rv_5
    clear B5 Rb_5 cb_5_0 cb_5_1 Rx_5 cx_5_0 cx_5_1 cx_5_2 cx_5_3 Rv_5 cv_5_0 cv_5_1 cv_5_2 cv_5_3
    obtain ⟨cb_6_0, cb_6_1⟩ := cells2s Rb_6
    obtain ⟨cx_6_0, cx_6_1, cx_6_2, cx_6_3⟩ := cells4s Rx_6
    obtain ⟨cv_6_0, cv_6_1, cv_6_2, cv_6_3⟩ := cells4s Rv_6
    obtain ⟨cc_6_0, cc_6_1⟩ := cells2s Rc_6
    go_wp2_with fail
    refine (KG.out _ (tabB TT.out B6)).mono ?_
    rintro r w7 ⟨rfl, b7⟩
    have B7 : Below w.heap.size w w7 := btr B6 b7
    have Rb_7 := heap_of b7 _ _ _ Rb_6
    have Rx_7 := heap_of b7 _ _ _ Rx_6
    have Rv_7 := heap_of b7 _ _ _ Rv_6
    have Rc_7 := heap_of b7 _ _ _ Rc_6
    clear b7 B6 Rb_6 cb_6_0 cb_6_1 Rx_6 cx_6_0 cx_6_1 cx_6_2 cx_6_3 Rv_6 cv_6_0 cv_6_1 cv_6_2 cv_6_3 Rc_6 cc_6_0 cc_6_1
    obtain ⟨cb_7_0, cb_7_1⟩ := cells2s Rb_7
    obtain ⟨cx_7_0, cx_7_1, cx_7_2, cx_7_3⟩ := cells4s Rx_7
    obtain ⟨cv_7_0, cv_7_1, cv_7_2, cv_7_3⟩ := cells4s Rv_7
    obtain ⟨cc_7_0, cc_7_1⟩ := cells2s Rc_7
    go_wp2_with fail
    refine (KM.out _).mono ?_
    rintro r w8 ⟨rfl, b8⟩
    have B8 : Below w.heap.size w w8 := btr B7 b8
    have Rb_8 := heap_of b8 _ _ _ Rb_7
    have Rx_8 := heap_of b8 _ _ _ Rx_7
    have Rv_8 := heap_of b8 _ _ _ Rv_7
    have Rc_8 := heap_of b8 _ _ _ Rc_7
    clear b8 B7 Rb_7 cb_7_0 cb_7_1 Rx_7 cx_7_0 cx_7_1 cx_7_2 cx_7_3 Rv_7 cv_7_0 cv_7_1 cv_7_2 cv_7_3 Rc_7 cc_7_0 cc_7_1
    obtain ⟨cb_8_0, cb_8_1⟩ := cells2s Rb_8
    obtain ⟨cx_8_0, cx_8_1, cx_8_2, cx_8_3⟩ := cells4s Rx_8
    obtain ⟨cv_8_0, cv_8_1, cv_8_2, cv_8_3⟩ := cells4s Rv_8
    obtain ⟨cc_8_0, cc_8_1⟩ := cells2s Rc_8
    go_wp2_with fail
    refine (KA.out _ (fatB FF.out B8) (tabB TT.out B8)).mono ?_
    rintro r w9 ⟨rfl, b9⟩
    have B9 : Below w.heap.size w w9 := btr B8 b9
    have Rb_9 := heap_of b9 _ _ _ Rb_8
    have Rx_9 := heap_of b9 _ _ _ Rx_8
    have Rv_9 := heap_of b9 _ _ _ Rv_8
    have Rc_9 := heap_of b9 _ _ _ Rc_8
    clear b9 B8 Rb_8 cb_8_0 cb_8_1 Rx_8 cx_8_0 cx_8_1 cx_8_2 cx_8_3 Rv_8 cv_8_0 cv_8_1 cv_8_2 cv_8_3 Rc_8 cc_8_0 cc_8_1
    obtain ⟨cb_9_0, cb_9_1⟩ := cells2s Rb_9
    obtain ⟨cx_9_0, cx_9_1, cx_9_2, cx_9_3⟩ := cells4s Rx_9
    obtain ⟨cv_9_0, cv_9_1, cv_9_2, cv_9_3⟩ := cells4s Rv_9
    obtain ⟨cc_9_0, cc_9_1⟩ := cells2s Rc_9
    go_wp2
    go_ret
    exact ⟨rfl, B9⟩
set_option maxRecDepth 100000 in
set_option maxHeartbeats 4000000 in
theorem ex_Cf (f m : Int) (x y : Nat) (b : Bool) (s t : ByteArray) (e : Int) (rb : Bool) (u v : ByteArray) (re : Int) (sb : Bool) (ss st : ByteArray) (se : Int) (i j : Nat) (fl : Int) (w : World)
    (KO : Box (∀ w, Calls Tryz.prog 31 #[.int .u8 m] w fun r w' => r = .returned (.bool true) ∧ Below w.heap.size w w'))
    (KF : Box (∀ w, FAt w → Calls Tryz.prog 41 #[.int .u8 f, .agg #[.int .u64 (x : Nat), .int .u64 (y : Nat)]] w fun r w' => r = .returned (.bool true) ∧ Below w.heap.size w w'))
    (KV : Box (∀ w, FAt w → TabAt w → Calls Tryz.prog 35 #[.int .u8 f, .agg #[.int .u64 (x : Nat), .int .u64 (y : Nat)]] w fun r w' => r = .returned (.tuple #[.agg #[.bool rb, .string u, .string v, .int .i64 re], .bool true]) ∧ Below w.heap.size w w'))
    (KR : Box (∀ w, FAt w → TabAt w → Calls Tryz.prog 22 #[.int .u8 f, .int .u8 m, .agg #[.bool rb, .string u, .string v, .int .i64 re]] w fun r w' => r = .returned (.tuple #[.agg #[.int .u64 0, .int .u64 0], .int .u8 0, .int .i64 0]) ∧ Below w.heap.size w w'))
    (KG : Box (∀ w, TabAt w → Calls Tryz.prog 32 #[.agg #[.bool rb, .string u, .string v, .int .i64 re]] w fun r w' => r = .returned (.int .i64 0) ∧ Below w.heap.size w w'))
    (hx : (((0 : Int) == ((x : Nat) : Int)) = false ∧ decide (0 = x) = false) ∨ (x = 0 ∧ ((0 : Int) == ((y : Nat) : Int)) = false ∧ decide (0 = y) = false))
    (h1 : decide ((25 : Int) < (s.size : Int)) = false) (h2 : decide ((25 : Int) < (t.size : Int)) = false) (h3 : decide ((400000 : Int) < e) = false) (h4 : decide (e < -400000) = false)
    (KM : Box (∀ w, Calls Tryz.prog 29 #[.agg #[.bool b, .string s, .string t, .int .i64 e]] w fun r w' => r = .returned (.bool true) ∧ Below w.heap.size w w'))
    (KX : Box (∀ w, TabAt w → Calls Tryz.prog 42 #[.agg #[.bool b, .string s, .string t, .int .i64 e], .agg #[.bool b, .string s, .string t, .int .i64 e]] w fun r w' => r = .returned (.tuple #[.agg #[.bool sb, .string ss, .string st, .int .i64 se], .int .i64 0]) ∧ Below w.heap.size w w'))
    (KQ : Box (∀ w, FAt w → TabAt w → Calls Tryz.prog 24 #[.int .u8 f, .int .u8 m, .agg #[.bool sb, .string ss, .string st, .int .i64 se]] w fun r w' => r = .returned (.tuple #[.agg #[.int .u64 (i : Nat), .int .u64 (j : Nat)], .int .u8 fl, .int .i64 0]) ∧ Below w.heap.size w w'))
    (KB : Box (∀ w, TabAt w → Calls Tryz.prog 38 #[.agg #[.bool b, .string s, .string t, .int .i64 e]] w fun r w' => r = .returned (.agg #[.bool false, .string s, .string t, .int .i64 e]) ∧ Below w.heap.size w w'))
    (KD : Box (∀ w, FAt w → TabAt w → Calls Tryz.prog 22 #[.int .u8 f, .int .u8 m, .agg #[.bool false, .string s, .string t, .int .i64 e]] w fun r w' => r = .returned (.tuple #[.agg #[.int .u64 (i : Nat), .int .u64 (j : Nat)], .int .u8 fl, .int .i64 0]) ∧ Below w.heap.size w w'))
    (KA : Box (∀ w, FAt w → TabAt w → Calls Tryz.prog 21 #[] w fun r w' => r = .returned (.bool true) ∧ Below w.heap.size w w'))
    (hT : FAt w) (hT2 : TabAt w) : Calls Tryz.prog 10 #[.int .u8 f, .int .u8 m, .agg #[.int .u64 (x : Nat), .int .u64 (y : Nat)], .agg #[.bool b, .string s, .string t, .int .i64 e]] w fun r w' => r = .returned (.bool true) ∧ Below w.heap.size w w' := by
  have FF := box hT
  have TT := box hT2
  clear hT hT2
  rcases hx with ⟨x1, x2⟩ | ⟨rfl, x1, x2⟩
  · obtain ⟨Rb_0, Rx_0, B0⟩ := opn2 w (Obj.cells #[.int .u64 (x : Nat), .int .u64 (y : Nat)] 25) (Obj.cells #[.bool b, .string s, .string t, .int .i64 e] 41)
    go_enter Tryz.func10, Tryz.ntmps10
    go_wp2_with fail
    refine (KO.out _).mono ?_
    rintro r w1 ⟨rfl, b1⟩
    have B1 : Below w.heap.size w w1 := btr B0 b1
    have Rb_1 := heap_of b1 _ _ _ Rb_0
    have Rx_1 := heap_of b1 _ _ _ Rx_0
    clear b1 B0 Rb_0 Rx_0
    obtain ⟨cb_1_0, cb_1_1⟩ := cells2s Rb_1
    obtain ⟨cx_1_0, cx_1_1, cx_1_2, cx_1_3⟩ := cells4s Rx_1
    go_wp2_with fail
    refine (KF.out _ (fatB FF.out B1)).mono ?_
    rintro r w2 ⟨rfl, b2⟩
    have B2 : Below w.heap.size w w2 := btr B1 b2
    have Rb_2 := heap_of b2 _ _ _ Rb_1
    have Rx_2 := heap_of b2 _ _ _ Rx_1
    clear b2 B1 Rb_1 cb_1_0 cb_1_1 Rx_1 cx_1_0 cx_1_1 cx_1_2 cx_1_3
    obtain ⟨cb_2_0, cb_2_1⟩ := cells2s Rb_2
    obtain ⟨cx_2_0, cx_2_1, cx_2_2, cx_2_3⟩ := cells4s Rx_2
    go_wp2_with fail
    refine (KV.out _ (fatB FF.out B2) (tabB TT.out B2)).mono ?_
    rintro r w3 ⟨rfl, b3⟩
    have B3 : Below w.heap.size w w3 := btr B2 b3
    have Rb_3 := heap_of b3 _ _ _ Rb_2
    have Rx_3 := heap_of b3 _ _ _ Rx_2
    clear b3 B2 Rb_2 cb_2_0 cb_2_1 Rx_2 cx_2_0 cx_2_1 cx_2_2 cx_2_3
    obtain ⟨cb_3_0, cb_3_1⟩ := cells2s Rb_3
    obtain ⟨cx_3_0, cx_3_1, cx_3_2, cx_3_3⟩ := cells4s Rx_3
    have S4 := box B3.size
    have Lb_4 : Box (w.heap.size < w3.heap.size) := box (Array.getElem?_eq_some_iff.1 Rb_3).1
    have Lx_4 : Box (w.heap.size + 1 < w3.heap.size) := box (Array.getElem?_eq_some_iff.1 Rx_3).1
    have Rv_4 := heap_alloc_last w3 (Obj.cells #[.bool rb, .string u, .string v, .int .i64 re] 41)
    have B4 := btr B3 (bal w3 (Obj.cells #[.bool rb, .string u, .string v, .int .i64 re] 41))
    have Rb_4 := heap_of (bal w3 (Obj.cells #[.bool rb, .string u, .string v, .int .i64 re] 41)) _ _ _ Rb_3
    have Rx_4 := heap_of (bal w3 (Obj.cells #[.bool rb, .string u, .string v, .int .i64 re] 41)) _ _ _ Rx_3
    clear B3 Rb_3 cb_3_0 cb_3_1 Rx_3 cx_3_0 cx_3_1 cx_3_2 cx_3_3
    obtain ⟨cb_4_0, cb_4_1⟩ := cells2s Rb_4
    obtain ⟨cx_4_0, cx_4_1, cx_4_2, cx_4_3⟩ := cells4s Rx_4
    obtain ⟨cv_4_0, cv_4_1, cv_4_2, cv_4_3⟩ := cells4s Rv_4
    go_wp2_with fail
    refine (KR.out _ (fatB FF.out B4) (tabB TT.out B4)).mono ?_
    rintro r w5 ⟨rfl, b5⟩
    have B5 : Below w.heap.size w w5 := btr B4 b5
    have Rb_5 := heap_of b5 _ _ _ Rb_4
    have Rx_5 := heap_of b5 _ _ _ Rx_4
    have Rv_5 := heap_of b5 _ _ _ Rv_4
    clear b5 B4 Rb_4 cb_4_0 cb_4_1 Rx_4 cx_4_0 cx_4_1 cx_4_2 cx_4_3 Rv_4 cv_4_0 cv_4_1 cv_4_2 cv_4_3
    obtain ⟨cb_5_0, cb_5_1⟩ := cells2s Rb_5
    obtain ⟨cx_5_0, cx_5_1, cx_5_2, cx_5_3⟩ := cells4s Rx_5
    obtain ⟨cv_5_0, cv_5_1, cv_5_2, cv_5_3⟩ := cells4s Rv_5
    have S6 := box B5.size
    have Lb_6 : Box (w.heap.size < w5.heap.size) := box (Array.getElem?_eq_some_iff.1 Rb_5).1
    have Lx_6 : Box (w.heap.size + 1 < w5.heap.size) := box (Array.getElem?_eq_some_iff.1 Rx_5).1
    have Lv_6 : Box (w3.heap.size < w5.heap.size) := box (Array.getElem?_eq_some_iff.1 Rv_5).1
    have Rc_6 := heap_alloc_last w5 (Obj.cells #[.int .u64 0, .int .u64 0] 25)
    have B6 := btr B5 (bal w5 (Obj.cells #[.int .u64 0, .int .u64 0] 25))
    have Rb_6 := heap_of (bal w5 (Obj.cells #[.int .u64 0, .int .u64 0] 25)) _ _ _ Rb_5
    have Rx_6 := heap_of (bal w5 (Obj.cells #[.int .u64 0, .int .u64 0] 25)) _ _ _ Rx_5
    have Rv_6 := heap_of (bal w5 (Obj.cells #[.int .u64 0, .int .u64 0] 25)) _ _ _ Rv_5
    clear B5 Rb_5 cb_5_0 cb_5_1 Rx_5 cx_5_0 cx_5_1 cx_5_2 cx_5_3 Rv_5 cv_5_0 cv_5_1 cv_5_2 cv_5_3
    obtain ⟨cb_6_0, cb_6_1⟩ := cells2s Rb_6
    obtain ⟨cx_6_0, cx_6_1, cx_6_2, cx_6_3⟩ := cells4s Rx_6
    obtain ⟨cv_6_0, cv_6_1, cv_6_2, cv_6_3⟩ := cells4s Rv_6
    obtain ⟨cc_6_0, cc_6_1⟩ := cells2s Rc_6
    go_wp2_with fail
    refine (KG.out _ (tabB TT.out B6)).mono ?_
    rintro r w7 ⟨rfl, b7⟩
    have B7 : Below w.heap.size w w7 := btr B6 b7
    have Rb_7 := heap_of b7 _ _ _ Rb_6
    have Rx_7 := heap_of b7 _ _ _ Rx_6
    have Rv_7 := heap_of b7 _ _ _ Rv_6
    have Rc_7 := heap_of b7 _ _ _ Rc_6
    clear b7 B6 Rb_6 cb_6_0 cb_6_1 Rx_6 cx_6_0 cx_6_1 cx_6_2 cx_6_3 Rv_6 cv_6_0 cv_6_1 cv_6_2 cv_6_3 Rc_6 cc_6_0 cc_6_1
    obtain ⟨cb_7_0, cb_7_1⟩ := cells2s Rb_7
    obtain ⟨cx_7_0, cx_7_1, cx_7_2, cx_7_3⟩ := cells4s Rx_7
    obtain ⟨cv_7_0, cv_7_1, cv_7_2, cv_7_3⟩ := cells4s Rv_7
    obtain ⟨cc_7_0, cc_7_1⟩ := cells2s Rc_7
    go_wp2_with fail
    refine (KM.out _).mono ?_
    rintro r w8 ⟨rfl, b8⟩
    have B8 : Below w.heap.size w w8 := btr B7 b8
    have Rb_8 := heap_of b8 _ _ _ Rb_7
    have Rx_8 := heap_of b8 _ _ _ Rx_7
    have Rv_8 := heap_of b8 _ _ _ Rv_7
    have Rc_8 := heap_of b8 _ _ _ Rc_7
    clear b8 B7 Rb_7 cb_7_0 cb_7_1 Rx_7 cx_7_0 cx_7_1 cx_7_2 cx_7_3 Rv_7 cv_7_0 cv_7_1 cv_7_2 cv_7_3 Rc_7 cc_7_0 cc_7_1
    obtain ⟨cb_8_0, cb_8_1⟩ := cells2s Rb_8
    obtain ⟨cx_8_0, cx_8_1, cx_8_2, cx_8_3⟩ := cells4s Rx_8
    obtain ⟨cv_8_0, cv_8_1, cv_8_2, cv_8_3⟩ := cells4s Rv_8
    obtain ⟨cc_8_0, cc_8_1⟩ := cells2s Rc_8
    go_wp2_with fail
    refine (KX.out _ (tabB TT.out B8)).mono ?_
    rintro r w9 ⟨rfl, b9⟩
    have B9 : Below w.heap.size w w9 := btr B8 b9
    have Rb_9 := heap_of b9 _ _ _ Rb_8
    have Rx_9 := heap_of b9 _ _ _ Rx_8
    have Rv_9 := heap_of b9 _ _ _ Rv_8
    have Rc_9 := heap_of b9 _ _ _ Rc_8
    clear b9 B8 Rb_8 cb_8_0 cb_8_1 Rx_8 cx_8_0 cx_8_1 cx_8_2 cx_8_3 Rv_8 cv_8_0 cv_8_1 cv_8_2 cv_8_3 Rc_8 cc_8_0 cc_8_1
    obtain ⟨cb_9_0, cb_9_1⟩ := cells2s Rb_9
    obtain ⟨cx_9_0, cx_9_1, cx_9_2, cx_9_3⟩ := cells4s Rx_9
    obtain ⟨cv_9_0, cv_9_1, cv_9_2, cv_9_3⟩ := cells4s Rv_9
    obtain ⟨cc_9_0, cc_9_1⟩ := cells2s Rc_9
    have S10 := box B9.size
    have Lb_10 : Box (w.heap.size < w9.heap.size) := box (Array.getElem?_eq_some_iff.1 Rb_9).1
    have Lx_10 : Box (w.heap.size + 1 < w9.heap.size) := box (Array.getElem?_eq_some_iff.1 Rx_9).1
    have Lv_10 : Box (w3.heap.size < w9.heap.size) := box (Array.getElem?_eq_some_iff.1 Rv_9).1
    have Lc_10 : Box (w5.heap.size < w9.heap.size) := box (Array.getElem?_eq_some_iff.1 Rc_9).1
    have Rs_10 := heap_alloc_last w9 (Obj.cells #[.bool sb, .string ss, .string st, .int .i64 se] 41)
    have B10 := btr B9 (bal w9 (Obj.cells #[.bool sb, .string ss, .string st, .int .i64 se] 41))
    have Rb_10 := heap_of (bal w9 (Obj.cells #[.bool sb, .string ss, .string st, .int .i64 se] 41)) _ _ _ Rb_9
    have Rx_10 := heap_of (bal w9 (Obj.cells #[.bool sb, .string ss, .string st, .int .i64 se] 41)) _ _ _ Rx_9
    have Rv_10 := heap_of (bal w9 (Obj.cells #[.bool sb, .string ss, .string st, .int .i64 se] 41)) _ _ _ Rv_9
    have Rc_10 := heap_of (bal w9 (Obj.cells #[.bool sb, .string ss, .string st, .int .i64 se] 41)) _ _ _ Rc_9
    clear B9 Rb_9 cb_9_0 cb_9_1 Rx_9 cx_9_0 cx_9_1 cx_9_2 cx_9_3 Rv_9 cv_9_0 cv_9_1 cv_9_2 cv_9_3 Rc_9 cc_9_0 cc_9_1
    obtain ⟨cb_10_0, cb_10_1⟩ := cells2s Rb_10
    obtain ⟨cx_10_0, cx_10_1, cx_10_2, cx_10_3⟩ := cells4s Rx_10
    obtain ⟨cv_10_0, cv_10_1, cv_10_2, cv_10_3⟩ := cells4s Rv_10
    obtain ⟨cc_10_0, cc_10_1⟩ := cells2s Rc_10
    obtain ⟨cs_10_0, cs_10_1, cs_10_2, cs_10_3⟩ := cells4s Rs_10
    go_wp2_with fail
    refine (KQ.out _ (fatB FF.out B10) (tabB TT.out B10)).mono ?_
    rintro r w11 ⟨rfl, b11⟩
    have B11 : Below w.heap.size w w11 := btr B10 b11
    have Rb_11 := heap_of b11 _ _ _ Rb_10
    have Rx_11 := heap_of b11 _ _ _ Rx_10
    have Rv_11 := heap_of b11 _ _ _ Rv_10
    have Rc_11 := heap_of b11 _ _ _ Rc_10
    have Rs_11 := heap_of b11 _ _ _ Rs_10
    clear b11 B10 Rb_10 cb_10_0 cb_10_1 Rx_10 cx_10_0 cx_10_1 cx_10_2 cx_10_3 Rv_10 cv_10_0 cv_10_1 cv_10_2 cv_10_3 Rc_10 cc_10_0 cc_10_1 Rs_10 cs_10_0 cs_10_1 cs_10_2 cs_10_3
    obtain ⟨cb_11_0, cb_11_1⟩ := cells2s Rb_11
    obtain ⟨cx_11_0, cx_11_1, cx_11_2, cx_11_3⟩ := cells4s Rx_11
    obtain ⟨cv_11_0, cv_11_1, cv_11_2, cv_11_3⟩ := cells4s Rv_11
    obtain ⟨cc_11_0, cc_11_1⟩ := cells2s Rc_11
    obtain ⟨cs_11_0, cs_11_1, cs_11_2, cs_11_3⟩ := cells4s Rs_11
    have S12 := box B11.size
    have Lb_12 : Box (w.heap.size < w11.heap.size) := box (Array.getElem?_eq_some_iff.1 Rb_11).1
    have Lx_12 : Box (w.heap.size + 1 < w11.heap.size) := box (Array.getElem?_eq_some_iff.1 Rx_11).1
    have Lv_12 : Box (w3.heap.size < w11.heap.size) := box (Array.getElem?_eq_some_iff.1 Rv_11).1
    have Lc_12 : Box (w5.heap.size < w11.heap.size) := box (Array.getElem?_eq_some_iff.1 Rc_11).1
    have Ls_12 : Box (w9.heap.size < w11.heap.size) := box (Array.getElem?_eq_some_iff.1 Rs_11).1
    have Rg_12 := heap_alloc_last w11 (Obj.cells #[.int .u64 (i : Nat), .int .u64 (j : Nat)] 25)
    have B12 := btr B11 (bal w11 (Obj.cells #[.int .u64 (i : Nat), .int .u64 (j : Nat)] 25))
    have Rb_12 := heap_of (bal w11 (Obj.cells #[.int .u64 (i : Nat), .int .u64 (j : Nat)] 25)) _ _ _ Rb_11
    have Rx_12 := heap_of (bal w11 (Obj.cells #[.int .u64 (i : Nat), .int .u64 (j : Nat)] 25)) _ _ _ Rx_11
    have Rv_12 := heap_of (bal w11 (Obj.cells #[.int .u64 (i : Nat), .int .u64 (j : Nat)] 25)) _ _ _ Rv_11
    have Rc_12 := heap_of (bal w11 (Obj.cells #[.int .u64 (i : Nat), .int .u64 (j : Nat)] 25)) _ _ _ Rc_11
    have Rs_12 := heap_of (bal w11 (Obj.cells #[.int .u64 (i : Nat), .int .u64 (j : Nat)] 25)) _ _ _ Rs_11
    clear B11 Rb_11 cb_11_0 cb_11_1 Rx_11 cx_11_0 cx_11_1 cx_11_2 cx_11_3 Rv_11 cv_11_0 cv_11_1 cv_11_2 cv_11_3 Rc_11 cc_11_0 cc_11_1 Rs_11 cs_11_0 cs_11_1 cs_11_2 cs_11_3
    obtain ⟨cb_12_0, cb_12_1⟩ := cells2s Rb_12
    obtain ⟨cx_12_0, cx_12_1, cx_12_2, cx_12_3⟩ := cells4s Rx_12
    obtain ⟨cv_12_0, cv_12_1, cv_12_2, cv_12_3⟩ := cells4s Rv_12
    obtain ⟨cc_12_0, cc_12_1⟩ := cells2s Rc_12
    obtain ⟨cs_12_0, cs_12_1, cs_12_2, cs_12_3⟩ := cells4s Rs_12
    obtain ⟨cg_12_0, cg_12_1⟩ := cells2s Rg_12
    go_wp2_with fail
    refine (KB.out _ (tabB TT.out B12)).mono ?_
    rintro r w13 ⟨rfl, b13⟩
    have B13 : Below w.heap.size w w13 := btr B12 b13
    have Rb_13 := heap_of b13 _ _ _ Rb_12
    have Rx_13 := heap_of b13 _ _ _ Rx_12
    have Rv_13 := heap_of b13 _ _ _ Rv_12
    have Rc_13 := heap_of b13 _ _ _ Rc_12
    have Rs_13 := heap_of b13 _ _ _ Rs_12
    have Rg_13 := heap_of b13 _ _ _ Rg_12
    clear b13 B12 Rb_12 cb_12_0 cb_12_1 Rx_12 cx_12_0 cx_12_1 cx_12_2 cx_12_3 Rv_12 cv_12_0 cv_12_1 cv_12_2 cv_12_3 Rc_12 cc_12_0 cc_12_1 Rs_12 cs_12_0 cs_12_1 cs_12_2 cs_12_3 Rg_12 cg_12_0 cg_12_1
    obtain ⟨cb_13_0, cb_13_1⟩ := cells2s Rb_13
    obtain ⟨cx_13_0, cx_13_1, cx_13_2, cx_13_3⟩ := cells4s Rx_13
    obtain ⟨cv_13_0, cv_13_1, cv_13_2, cv_13_3⟩ := cells4s Rv_13
    obtain ⟨cc_13_0, cc_13_1⟩ := cells2s Rc_13
    obtain ⟨cs_13_0, cs_13_1, cs_13_2, cs_13_3⟩ := cells4s Rs_13
    obtain ⟨cg_13_0, cg_13_1⟩ := cells2s Rg_13
    go_wp2_with fail
    refine (KD.out _ (fatB FF.out B13) (tabB TT.out B13)).mono ?_
    rintro r w14 ⟨rfl, b14⟩
    have B14 : Below w.heap.size w w14 := btr B13 b14
    have Rb_14 := heap_of b14 _ _ _ Rb_13
    have Rx_14 := heap_of b14 _ _ _ Rx_13
    have Rv_14 := heap_of b14 _ _ _ Rv_13
    have Rc_14 := heap_of b14 _ _ _ Rc_13
    have Rs_14 := heap_of b14 _ _ _ Rs_13
    have Rg_14 := heap_of b14 _ _ _ Rg_13
    clear b14 B13 Rb_13 cb_13_0 cb_13_1 Rx_13 cx_13_0 cx_13_1 cx_13_2 cx_13_3 Rv_13 cv_13_0 cv_13_1 cv_13_2 cv_13_3 Rc_13 cc_13_0 cc_13_1 Rs_13 cs_13_0 cs_13_1 cs_13_2 cs_13_3 Rg_13 cg_13_0 cg_13_1
    obtain ⟨cb_14_0, cb_14_1⟩ := cells2s Rb_14
    obtain ⟨cx_14_0, cx_14_1, cx_14_2, cx_14_3⟩ := cells4s Rx_14
    obtain ⟨cv_14_0, cv_14_1, cv_14_2, cv_14_3⟩ := cells4s Rv_14
    obtain ⟨cc_14_0, cc_14_1⟩ := cells2s Rc_14
    obtain ⟨cs_14_0, cs_14_1, cs_14_2, cs_14_3⟩ := cells4s Rs_14
    obtain ⟨cg_14_0, cg_14_1⟩ := cells2s Rg_14
    have S15 := box B14.size
    have Lb_15 : Box (w.heap.size < w14.heap.size) := box (Array.getElem?_eq_some_iff.1 Rb_14).1
    have Lx_15 : Box (w.heap.size + 1 < w14.heap.size) := box (Array.getElem?_eq_some_iff.1 Rx_14).1
    have Lv_15 : Box (w3.heap.size < w14.heap.size) := box (Array.getElem?_eq_some_iff.1 Rv_14).1
    have Lc_15 : Box (w5.heap.size < w14.heap.size) := box (Array.getElem?_eq_some_iff.1 Rc_14).1
    have Ls_15 : Box (w9.heap.size < w14.heap.size) := box (Array.getElem?_eq_some_iff.1 Rs_14).1
    have Lg_15 : Box (w11.heap.size < w14.heap.size) := box (Array.getElem?_eq_some_iff.1 Rg_14).1
    have Rd_15 := heap_alloc_last w14 (Obj.cells #[.int .u64 (i : Nat), .int .u64 (j : Nat)] 25)
    have B15 := btr B14 (bal w14 (Obj.cells #[.int .u64 (i : Nat), .int .u64 (j : Nat)] 25))
    have Rb_15 := heap_of (bal w14 (Obj.cells #[.int .u64 (i : Nat), .int .u64 (j : Nat)] 25)) _ _ _ Rb_14
    have Rx_15 := heap_of (bal w14 (Obj.cells #[.int .u64 (i : Nat), .int .u64 (j : Nat)] 25)) _ _ _ Rx_14
    have Rv_15 := heap_of (bal w14 (Obj.cells #[.int .u64 (i : Nat), .int .u64 (j : Nat)] 25)) _ _ _ Rv_14
    have Rc_15 := heap_of (bal w14 (Obj.cells #[.int .u64 (i : Nat), .int .u64 (j : Nat)] 25)) _ _ _ Rc_14
    have Rs_15 := heap_of (bal w14 (Obj.cells #[.int .u64 (i : Nat), .int .u64 (j : Nat)] 25)) _ _ _ Rs_14
    have Rg_15 := heap_of (bal w14 (Obj.cells #[.int .u64 (i : Nat), .int .u64 (j : Nat)] 25)) _ _ _ Rg_14
    clear B14 Rb_14 cb_14_0 cb_14_1 Rx_14 cx_14_0 cx_14_1 cx_14_2 cx_14_3 Rv_14 cv_14_0 cv_14_1 cv_14_2 cv_14_3 Rc_14 cc_14_0 cc_14_1 Rs_14 cs_14_0 cs_14_1 cs_14_2 cs_14_3 Rg_14 cg_14_0 cg_14_1
    obtain ⟨cb_15_0, cb_15_1⟩ := cells2s Rb_15
    obtain ⟨cx_15_0, cx_15_1, cx_15_2, cx_15_3⟩ := cells4s Rx_15
    obtain ⟨cv_15_0, cv_15_1, cv_15_2, cv_15_3⟩ := cells4s Rv_15
    obtain ⟨cc_15_0, cc_15_1⟩ := cells2s Rc_15
    obtain ⟨cs_15_0, cs_15_1, cs_15_2, cs_15_3⟩ := cells4s Rs_15
    obtain ⟨cg_15_0, cg_15_1⟩ := cells2s Rg_15
    obtain ⟨cd_15_0, cd_15_1⟩ := cells2s Rd_15
    go_wp2_with fail
    refine (KA.out _ (fatB FF.out B15) (tabB TT.out B15)).mono ?_
    rintro r w16 ⟨rfl, b16⟩
    have B16 : Below w.heap.size w w16 := btr B15 b16
    have Rb_16 := heap_of b16 _ _ _ Rb_15
    have Rx_16 := heap_of b16 _ _ _ Rx_15
    have Rv_16 := heap_of b16 _ _ _ Rv_15
    have Rc_16 := heap_of b16 _ _ _ Rc_15
    have Rs_16 := heap_of b16 _ _ _ Rs_15
    have Rg_16 := heap_of b16 _ _ _ Rg_15
    have Rd_16 := heap_of b16 _ _ _ Rd_15
    clear b16 B15 Rb_15 cb_15_0 cb_15_1 Rx_15 cx_15_0 cx_15_1 cx_15_2 cx_15_3 Rv_15 cv_15_0 cv_15_1 cv_15_2 cv_15_3 Rc_15 cc_15_0 cc_15_1 Rs_15 cs_15_0 cs_15_1 cs_15_2 cs_15_3 Rg_15 cg_15_0 cg_15_1 Rd_15 cd_15_0 cd_15_1
    obtain ⟨cb_16_0, cb_16_1⟩ := cells2s Rb_16
    obtain ⟨cx_16_0, cx_16_1, cx_16_2, cx_16_3⟩ := cells4s Rx_16
    obtain ⟨cv_16_0, cv_16_1, cv_16_2, cv_16_3⟩ := cells4s Rv_16
    obtain ⟨cc_16_0, cc_16_1⟩ := cells2s Rc_16
    obtain ⟨cs_16_0, cs_16_1, cs_16_2, cs_16_3⟩ := cells4s Rs_16
    obtain ⟨cg_16_0, cg_16_1⟩ := cells2s Rg_16
    obtain ⟨cd_16_0, cd_16_1⟩ := cells2s Rd_16
    go_wp2
    go_ret
    exact ⟨rfl, B16⟩
  · obtain ⟨Rb_0, Rx_0, B0⟩ := opn2 w (Obj.cells #[.int .u64 0, .int .u64 (y : Nat)] 25) (Obj.cells #[.bool b, .string s, .string t, .int .i64 e] 41)
    go_enter Tryz.func10, Tryz.ntmps10
    go_wp2_with fail
    refine (KO.out _).mono ?_
    rintro r w1 ⟨rfl, b1⟩
    have B1 : Below w.heap.size w w1 := btr B0 b1
    have Rb_1 := heap_of b1 _ _ _ Rb_0
    have Rx_1 := heap_of b1 _ _ _ Rx_0
    clear b1 B0 Rb_0 Rx_0
    obtain ⟨cb_1_0, cb_1_1⟩ := cells2s Rb_1
    obtain ⟨cx_1_0, cx_1_1, cx_1_2, cx_1_3⟩ := cells4s Rx_1
    go_wp2_with fail
    refine (KF.out _ (fatB FF.out B1)).mono ?_
    rintro r w2 ⟨rfl, b2⟩
    have B2 : Below w.heap.size w w2 := btr B1 b2
    have Rb_2 := heap_of b2 _ _ _ Rb_1
    have Rx_2 := heap_of b2 _ _ _ Rx_1
    clear b2 B1 Rb_1 cb_1_0 cb_1_1 Rx_1 cx_1_0 cx_1_1 cx_1_2 cx_1_3
    obtain ⟨cb_2_0, cb_2_1⟩ := cells2s Rb_2
    obtain ⟨cx_2_0, cx_2_1, cx_2_2, cx_2_3⟩ := cells4s Rx_2
    go_wp2_with fail
    refine (KV.out _ (fatB FF.out B2) (tabB TT.out B2)).mono ?_
    rintro r w3 ⟨rfl, b3⟩
    have B3 : Below w.heap.size w w3 := btr B2 b3
    have Rb_3 := heap_of b3 _ _ _ Rb_2
    have Rx_3 := heap_of b3 _ _ _ Rx_2
    clear b3 B2 Rb_2 cb_2_0 cb_2_1 Rx_2 cx_2_0 cx_2_1 cx_2_2 cx_2_3
    obtain ⟨cb_3_0, cb_3_1⟩ := cells2s Rb_3
    obtain ⟨cx_3_0, cx_3_1, cx_3_2, cx_3_3⟩ := cells4s Rx_3
    have S4 := box B3.size
    have Lb_4 : Box (w.heap.size < w3.heap.size) := box (Array.getElem?_eq_some_iff.1 Rb_3).1
    have Lx_4 : Box (w.heap.size + 1 < w3.heap.size) := box (Array.getElem?_eq_some_iff.1 Rx_3).1
    have Rv_4 := heap_alloc_last w3 (Obj.cells #[.bool rb, .string u, .string v, .int .i64 re] 41)
    have B4 := btr B3 (bal w3 (Obj.cells #[.bool rb, .string u, .string v, .int .i64 re] 41))
    have Rb_4 := heap_of (bal w3 (Obj.cells #[.bool rb, .string u, .string v, .int .i64 re] 41)) _ _ _ Rb_3
    have Rx_4 := heap_of (bal w3 (Obj.cells #[.bool rb, .string u, .string v, .int .i64 re] 41)) _ _ _ Rx_3
    clear B3 Rb_3 cb_3_0 cb_3_1 Rx_3 cx_3_0 cx_3_1 cx_3_2 cx_3_3
    obtain ⟨cb_4_0, cb_4_1⟩ := cells2s Rb_4
    obtain ⟨cx_4_0, cx_4_1, cx_4_2, cx_4_3⟩ := cells4s Rx_4
    obtain ⟨cv_4_0, cv_4_1, cv_4_2, cv_4_3⟩ := cells4s Rv_4
    go_wp2_with fail
    refine (KR.out _ (fatB FF.out B4) (tabB TT.out B4)).mono ?_
    rintro r w5 ⟨rfl, b5⟩
    have B5 : Below w.heap.size w w5 := btr B4 b5
    have Rb_5 := heap_of b5 _ _ _ Rb_4
    have Rx_5 := heap_of b5 _ _ _ Rx_4
    have Rv_5 := heap_of b5 _ _ _ Rv_4
    clear b5 B4 Rb_4 cb_4_0 cb_4_1 Rx_4 cx_4_0 cx_4_1 cx_4_2 cx_4_3 Rv_4 cv_4_0 cv_4_1 cv_4_2 cv_4_3
    obtain ⟨cb_5_0, cb_5_1⟩ := cells2s Rb_5
    obtain ⟨cx_5_0, cx_5_1, cx_5_2, cx_5_3⟩ := cells4s Rx_5
    obtain ⟨cv_5_0, cv_5_1, cv_5_2, cv_5_3⟩ := cells4s Rv_5
    have S6 := box B5.size
    have Lb_6 : Box (w.heap.size < w5.heap.size) := box (Array.getElem?_eq_some_iff.1 Rb_5).1
    have Lx_6 : Box (w.heap.size + 1 < w5.heap.size) := box (Array.getElem?_eq_some_iff.1 Rx_5).1
    have Lv_6 : Box (w3.heap.size < w5.heap.size) := box (Array.getElem?_eq_some_iff.1 Rv_5).1
    have Rc_6 := heap_alloc_last w5 (Obj.cells #[.int .u64 0, .int .u64 0] 25)
    have B6 := btr B5 (bal w5 (Obj.cells #[.int .u64 0, .int .u64 0] 25))
    have Rb_6 := heap_of (bal w5 (Obj.cells #[.int .u64 0, .int .u64 0] 25)) _ _ _ Rb_5
    have Rx_6 := heap_of (bal w5 (Obj.cells #[.int .u64 0, .int .u64 0] 25)) _ _ _ Rx_5
    have Rv_6 := heap_of (bal w5 (Obj.cells #[.int .u64 0, .int .u64 0] 25)) _ _ _ Rv_5
    clear B5 Rb_5 cb_5_0 cb_5_1 Rx_5 cx_5_0 cx_5_1 cx_5_2 cx_5_3 Rv_5 cv_5_0 cv_5_1 cv_5_2 cv_5_3
    obtain ⟨cb_6_0, cb_6_1⟩ := cells2s Rb_6
    obtain ⟨cx_6_0, cx_6_1, cx_6_2, cx_6_3⟩ := cells4s Rx_6
    obtain ⟨cv_6_0, cv_6_1, cv_6_2, cv_6_3⟩ := cells4s Rv_6
    obtain ⟨cc_6_0, cc_6_1⟩ := cells2s Rc_6
    go_wp2_with fail
    refine (KG.out _ (tabB TT.out B6)).mono ?_
    rintro r w7 ⟨rfl, b7⟩
    have B7 : Below w.heap.size w w7 := btr B6 b7
    have Rb_7 := heap_of b7 _ _ _ Rb_6
    have Rx_7 := heap_of b7 _ _ _ Rx_6
    have Rv_7 := heap_of b7 _ _ _ Rv_6
    have Rc_7 := heap_of b7 _ _ _ Rc_6
    clear b7 B6 Rb_6 cb_6_0 cb_6_1 Rx_6 cx_6_0 cx_6_1 cx_6_2 cx_6_3 Rv_6 cv_6_0 cv_6_1 cv_6_2 cv_6_3 Rc_6 cc_6_0 cc_6_1
    obtain ⟨cb_7_0, cb_7_1⟩ := cells2s Rb_7
    obtain ⟨cx_7_0, cx_7_1, cx_7_2, cx_7_3⟩ := cells4s Rx_7
    obtain ⟨cv_7_0, cv_7_1, cv_7_2, cv_7_3⟩ := cells4s Rv_7
    obtain ⟨cc_7_0, cc_7_1⟩ := cells2s Rc_7
    go_wp2_with fail
    refine (KM.out _).mono ?_
    rintro r w8 ⟨rfl, b8⟩
    have B8 : Below w.heap.size w w8 := btr B7 b8
    have Rb_8 := heap_of b8 _ _ _ Rb_7
    have Rx_8 := heap_of b8 _ _ _ Rx_7
    have Rv_8 := heap_of b8 _ _ _ Rv_7
    have Rc_8 := heap_of b8 _ _ _ Rc_7
    clear b8 B7 Rb_7 cb_7_0 cb_7_1 Rx_7 cx_7_0 cx_7_1 cx_7_2 cx_7_3 Rv_7 cv_7_0 cv_7_1 cv_7_2 cv_7_3 Rc_7 cc_7_0 cc_7_1
    obtain ⟨cb_8_0, cb_8_1⟩ := cells2s Rb_8
    obtain ⟨cx_8_0, cx_8_1, cx_8_2, cx_8_3⟩ := cells4s Rx_8
    obtain ⟨cv_8_0, cv_8_1, cv_8_2, cv_8_3⟩ := cells4s Rv_8
    obtain ⟨cc_8_0, cc_8_1⟩ := cells2s Rc_8
    go_wp2_with fail
    refine (KX.out _ (tabB TT.out B8)).mono ?_
    rintro r w9 ⟨rfl, b9⟩
    have B9 : Below w.heap.size w w9 := btr B8 b9
    have Rb_9 := heap_of b9 _ _ _ Rb_8
    have Rx_9 := heap_of b9 _ _ _ Rx_8
    have Rv_9 := heap_of b9 _ _ _ Rv_8
    have Rc_9 := heap_of b9 _ _ _ Rc_8
    clear b9 B8 Rb_8 cb_8_0 cb_8_1 Rx_8 cx_8_0 cx_8_1 cx_8_2 cx_8_3 Rv_8 cv_8_0 cv_8_1 cv_8_2 cv_8_3 Rc_8 cc_8_0 cc_8_1
    obtain ⟨cb_9_0, cb_9_1⟩ := cells2s Rb_9
    obtain ⟨cx_9_0, cx_9_1, cx_9_2, cx_9_3⟩ := cells4s Rx_9
    obtain ⟨cv_9_0, cv_9_1, cv_9_2, cv_9_3⟩ := cells4s Rv_9
    obtain ⟨cc_9_0, cc_9_1⟩ := cells2s Rc_9
    have S10 := box B9.size
    have Lb_10 : Box (w.heap.size < w9.heap.size) := box (Array.getElem?_eq_some_iff.1 Rb_9).1
    have Lx_10 : Box (w.heap.size + 1 < w9.heap.size) := box (Array.getElem?_eq_some_iff.1 Rx_9).1
    have Lv_10 : Box (w3.heap.size < w9.heap.size) := box (Array.getElem?_eq_some_iff.1 Rv_9).1
    have Lc_10 : Box (w5.heap.size < w9.heap.size) := box (Array.getElem?_eq_some_iff.1 Rc_9).1
    have Rs_10 := heap_alloc_last w9 (Obj.cells #[.bool sb, .string ss, .string st, .int .i64 se] 41)
    have B10 := btr B9 (bal w9 (Obj.cells #[.bool sb, .string ss, .string st, .int .i64 se] 41))
    have Rb_10 := heap_of (bal w9 (Obj.cells #[.bool sb, .string ss, .string st, .int .i64 se] 41)) _ _ _ Rb_9
    have Rx_10 := heap_of (bal w9 (Obj.cells #[.bool sb, .string ss, .string st, .int .i64 se] 41)) _ _ _ Rx_9
    have Rv_10 := heap_of (bal w9 (Obj.cells #[.bool sb, .string ss, .string st, .int .i64 se] 41)) _ _ _ Rv_9
    have Rc_10 := heap_of (bal w9 (Obj.cells #[.bool sb, .string ss, .string st, .int .i64 se] 41)) _ _ _ Rc_9
    clear B9 Rb_9 cb_9_0 cb_9_1 Rx_9 cx_9_0 cx_9_1 cx_9_2 cx_9_3 Rv_9 cv_9_0 cv_9_1 cv_9_2 cv_9_3 Rc_9 cc_9_0 cc_9_1
    obtain ⟨cb_10_0, cb_10_1⟩ := cells2s Rb_10
    obtain ⟨cx_10_0, cx_10_1, cx_10_2, cx_10_3⟩ := cells4s Rx_10
    obtain ⟨cv_10_0, cv_10_1, cv_10_2, cv_10_3⟩ := cells4s Rv_10
    obtain ⟨cc_10_0, cc_10_1⟩ := cells2s Rc_10
    obtain ⟨cs_10_0, cs_10_1, cs_10_2, cs_10_3⟩ := cells4s Rs_10
    go_wp2_with fail
    refine (KQ.out _ (fatB FF.out B10) (tabB TT.out B10)).mono ?_
    rintro r w11 ⟨rfl, b11⟩
    have B11 : Below w.heap.size w w11 := btr B10 b11
    have Rb_11 := heap_of b11 _ _ _ Rb_10
    have Rx_11 := heap_of b11 _ _ _ Rx_10
    have Rv_11 := heap_of b11 _ _ _ Rv_10
    have Rc_11 := heap_of b11 _ _ _ Rc_10
    have Rs_11 := heap_of b11 _ _ _ Rs_10
    clear b11 B10 Rb_10 cb_10_0 cb_10_1 Rx_10 cx_10_0 cx_10_1 cx_10_2 cx_10_3 Rv_10 cv_10_0 cv_10_1 cv_10_2 cv_10_3 Rc_10 cc_10_0 cc_10_1 Rs_10 cs_10_0 cs_10_1 cs_10_2 cs_10_3
    obtain ⟨cb_11_0, cb_11_1⟩ := cells2s Rb_11
    obtain ⟨cx_11_0, cx_11_1, cx_11_2, cx_11_3⟩ := cells4s Rx_11
    obtain ⟨cv_11_0, cv_11_1, cv_11_2, cv_11_3⟩ := cells4s Rv_11
    obtain ⟨cc_11_0, cc_11_1⟩ := cells2s Rc_11
    obtain ⟨cs_11_0, cs_11_1, cs_11_2, cs_11_3⟩ := cells4s Rs_11
    have S12 := box B11.size
    have Lb_12 : Box (w.heap.size < w11.heap.size) := box (Array.getElem?_eq_some_iff.1 Rb_11).1
    have Lx_12 : Box (w.heap.size + 1 < w11.heap.size) := box (Array.getElem?_eq_some_iff.1 Rx_11).1
    have Lv_12 : Box (w3.heap.size < w11.heap.size) := box (Array.getElem?_eq_some_iff.1 Rv_11).1
    have Lc_12 : Box (w5.heap.size < w11.heap.size) := box (Array.getElem?_eq_some_iff.1 Rc_11).1
    have Ls_12 : Box (w9.heap.size < w11.heap.size) := box (Array.getElem?_eq_some_iff.1 Rs_11).1
    have Rg_12 := heap_alloc_last w11 (Obj.cells #[.int .u64 (i : Nat), .int .u64 (j : Nat)] 25)
    have B12 := btr B11 (bal w11 (Obj.cells #[.int .u64 (i : Nat), .int .u64 (j : Nat)] 25))
    have Rb_12 := heap_of (bal w11 (Obj.cells #[.int .u64 (i : Nat), .int .u64 (j : Nat)] 25)) _ _ _ Rb_11
    have Rx_12 := heap_of (bal w11 (Obj.cells #[.int .u64 (i : Nat), .int .u64 (j : Nat)] 25)) _ _ _ Rx_11
    have Rv_12 := heap_of (bal w11 (Obj.cells #[.int .u64 (i : Nat), .int .u64 (j : Nat)] 25)) _ _ _ Rv_11
    have Rc_12 := heap_of (bal w11 (Obj.cells #[.int .u64 (i : Nat), .int .u64 (j : Nat)] 25)) _ _ _ Rc_11
    have Rs_12 := heap_of (bal w11 (Obj.cells #[.int .u64 (i : Nat), .int .u64 (j : Nat)] 25)) _ _ _ Rs_11
    clear B11 Rb_11 cb_11_0 cb_11_1 Rx_11 cx_11_0 cx_11_1 cx_11_2 cx_11_3 Rv_11 cv_11_0 cv_11_1 cv_11_2 cv_11_3 Rc_11 cc_11_0 cc_11_1 Rs_11 cs_11_0 cs_11_1 cs_11_2 cs_11_3
    obtain ⟨cb_12_0, cb_12_1⟩ := cells2s Rb_12
    obtain ⟨cx_12_0, cx_12_1, cx_12_2, cx_12_3⟩ := cells4s Rx_12
    obtain ⟨cv_12_0, cv_12_1, cv_12_2, cv_12_3⟩ := cells4s Rv_12
    obtain ⟨cc_12_0, cc_12_1⟩ := cells2s Rc_12
    obtain ⟨cs_12_0, cs_12_1, cs_12_2, cs_12_3⟩ := cells4s Rs_12
    obtain ⟨cg_12_0, cg_12_1⟩ := cells2s Rg_12
    go_wp2_with fail
    refine (KB.out _ (tabB TT.out B12)).mono ?_
    rintro r w13 ⟨rfl, b13⟩
    have B13 : Below w.heap.size w w13 := btr B12 b13
    have Rb_13 := heap_of b13 _ _ _ Rb_12
    have Rx_13 := heap_of b13 _ _ _ Rx_12
    have Rv_13 := heap_of b13 _ _ _ Rv_12
    have Rc_13 := heap_of b13 _ _ _ Rc_12
    have Rs_13 := heap_of b13 _ _ _ Rs_12
    have Rg_13 := heap_of b13 _ _ _ Rg_12
    clear b13 B12 Rb_12 cb_12_0 cb_12_1 Rx_12 cx_12_0 cx_12_1 cx_12_2 cx_12_3 Rv_12 cv_12_0 cv_12_1 cv_12_2 cv_12_3 Rc_12 cc_12_0 cc_12_1 Rs_12 cs_12_0 cs_12_1 cs_12_2 cs_12_3 Rg_12 cg_12_0 cg_12_1
    obtain ⟨cb_13_0, cb_13_1⟩ := cells2s Rb_13
    obtain ⟨cx_13_0, cx_13_1, cx_13_2, cx_13_3⟩ := cells4s Rx_13
    obtain ⟨cv_13_0, cv_13_1, cv_13_2, cv_13_3⟩ := cells4s Rv_13
    obtain ⟨cc_13_0, cc_13_1⟩ := cells2s Rc_13
    obtain ⟨cs_13_0, cs_13_1, cs_13_2, cs_13_3⟩ := cells4s Rs_13
    obtain ⟨cg_13_0, cg_13_1⟩ := cells2s Rg_13
    go_wp2_with fail
    refine (KD.out _ (fatB FF.out B13) (tabB TT.out B13)).mono ?_
    rintro r w14 ⟨rfl, b14⟩
    have B14 : Below w.heap.size w w14 := btr B13 b14
    have Rb_14 := heap_of b14 _ _ _ Rb_13
    have Rx_14 := heap_of b14 _ _ _ Rx_13
    have Rv_14 := heap_of b14 _ _ _ Rv_13
    have Rc_14 := heap_of b14 _ _ _ Rc_13
    have Rs_14 := heap_of b14 _ _ _ Rs_13
    have Rg_14 := heap_of b14 _ _ _ Rg_13
    clear b14 B13 Rb_13 cb_13_0 cb_13_1 Rx_13 cx_13_0 cx_13_1 cx_13_2 cx_13_3 Rv_13 cv_13_0 cv_13_1 cv_13_2 cv_13_3 Rc_13 cc_13_0 cc_13_1 Rs_13 cs_13_0 cs_13_1 cs_13_2 cs_13_3 Rg_13 cg_13_0 cg_13_1
    obtain ⟨cb_14_0, cb_14_1⟩ := cells2s Rb_14
    obtain ⟨cx_14_0, cx_14_1, cx_14_2, cx_14_3⟩ := cells4s Rx_14
    obtain ⟨cv_14_0, cv_14_1, cv_14_2, cv_14_3⟩ := cells4s Rv_14
    obtain ⟨cc_14_0, cc_14_1⟩ := cells2s Rc_14
    obtain ⟨cs_14_0, cs_14_1, cs_14_2, cs_14_3⟩ := cells4s Rs_14
    obtain ⟨cg_14_0, cg_14_1⟩ := cells2s Rg_14
    have S15 := box B14.size
    have Lb_15 : Box (w.heap.size < w14.heap.size) := box (Array.getElem?_eq_some_iff.1 Rb_14).1
    have Lx_15 : Box (w.heap.size + 1 < w14.heap.size) := box (Array.getElem?_eq_some_iff.1 Rx_14).1
    have Lv_15 : Box (w3.heap.size < w14.heap.size) := box (Array.getElem?_eq_some_iff.1 Rv_14).1
    have Lc_15 : Box (w5.heap.size < w14.heap.size) := box (Array.getElem?_eq_some_iff.1 Rc_14).1
    have Ls_15 : Box (w9.heap.size < w14.heap.size) := box (Array.getElem?_eq_some_iff.1 Rs_14).1
    have Lg_15 : Box (w11.heap.size < w14.heap.size) := box (Array.getElem?_eq_some_iff.1 Rg_14).1
    have Rd_15 := heap_alloc_last w14 (Obj.cells #[.int .u64 (i : Nat), .int .u64 (j : Nat)] 25)
    have B15 := btr B14 (bal w14 (Obj.cells #[.int .u64 (i : Nat), .int .u64 (j : Nat)] 25))
    have Rb_15 := heap_of (bal w14 (Obj.cells #[.int .u64 (i : Nat), .int .u64 (j : Nat)] 25)) _ _ _ Rb_14
    have Rx_15 := heap_of (bal w14 (Obj.cells #[.int .u64 (i : Nat), .int .u64 (j : Nat)] 25)) _ _ _ Rx_14
    have Rv_15 := heap_of (bal w14 (Obj.cells #[.int .u64 (i : Nat), .int .u64 (j : Nat)] 25)) _ _ _ Rv_14
    have Rc_15 := heap_of (bal w14 (Obj.cells #[.int .u64 (i : Nat), .int .u64 (j : Nat)] 25)) _ _ _ Rc_14
    have Rs_15 := heap_of (bal w14 (Obj.cells #[.int .u64 (i : Nat), .int .u64 (j : Nat)] 25)) _ _ _ Rs_14
    have Rg_15 := heap_of (bal w14 (Obj.cells #[.int .u64 (i : Nat), .int .u64 (j : Nat)] 25)) _ _ _ Rg_14
    clear B14 Rb_14 cb_14_0 cb_14_1 Rx_14 cx_14_0 cx_14_1 cx_14_2 cx_14_3 Rv_14 cv_14_0 cv_14_1 cv_14_2 cv_14_3 Rc_14 cc_14_0 cc_14_1 Rs_14 cs_14_0 cs_14_1 cs_14_2 cs_14_3 Rg_14 cg_14_0 cg_14_1
    obtain ⟨cb_15_0, cb_15_1⟩ := cells2s Rb_15
    obtain ⟨cx_15_0, cx_15_1, cx_15_2, cx_15_3⟩ := cells4s Rx_15
    obtain ⟨cv_15_0, cv_15_1, cv_15_2, cv_15_3⟩ := cells4s Rv_15
    obtain ⟨cc_15_0, cc_15_1⟩ := cells2s Rc_15
    obtain ⟨cs_15_0, cs_15_1, cs_15_2, cs_15_3⟩ := cells4s Rs_15
    obtain ⟨cg_15_0, cg_15_1⟩ := cells2s Rg_15
    obtain ⟨cd_15_0, cd_15_1⟩ := cells2s Rd_15
    go_wp2_with fail
    refine (KA.out _ (fatB FF.out B15) (tabB TT.out B15)).mono ?_
    rintro r w16 ⟨rfl, b16⟩
    have B16 : Below w.heap.size w w16 := btr B15 b16
    have Rb_16 := heap_of b16 _ _ _ Rb_15
    have Rx_16 := heap_of b16 _ _ _ Rx_15
    have Rv_16 := heap_of b16 _ _ _ Rv_15
    have Rc_16 := heap_of b16 _ _ _ Rc_15
    have Rs_16 := heap_of b16 _ _ _ Rs_15
    have Rg_16 := heap_of b16 _ _ _ Rg_15
    have Rd_16 := heap_of b16 _ _ _ Rd_15
    clear b16 B15 Rb_15 cb_15_0 cb_15_1 Rx_15 cx_15_0 cx_15_1 cx_15_2 cx_15_3 Rv_15 cv_15_0 cv_15_1 cv_15_2 cv_15_3 Rc_15 cc_15_0 cc_15_1 Rs_15 cs_15_0 cs_15_1 cs_15_2 cs_15_3 Rg_15 cg_15_0 cg_15_1 Rd_15 cd_15_0 cd_15_1
    obtain ⟨cb_16_0, cb_16_1⟩ := cells2s Rb_16
    obtain ⟨cx_16_0, cx_16_1, cx_16_2, cx_16_3⟩ := cells4s Rx_16
    obtain ⟨cv_16_0, cv_16_1, cv_16_2, cv_16_3⟩ := cells4s Rv_16
    obtain ⟨cc_16_0, cc_16_1⟩ := cells2s Rc_16
    obtain ⟨cs_16_0, cs_16_1, cs_16_2, cs_16_3⟩ := cells4s Rs_16
    obtain ⟨cg_16_0, cg_16_1⟩ := cells2s Rg_16
    obtain ⟨cd_16_0, cd_16_1⟩ := cells2s Rd_16
    go_wp2
    go_ret
    exact ⟨rfl, B16⟩
end Go.Proofs.YtbmhfcppaajgbaaGreatDoor
