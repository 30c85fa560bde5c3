/-
  What the functions that the statement reaches return: part 21 (RD, RE, RF, RG).
-/
import Derived.Test.YtbmhfcppaajgbaaGreatDoorRd20
namespace Go.Proofs.YtbmhfcppaajgbaaGreatDoor
set_option maxRecDepth 100000
open Go.RowKit WMath
set_option linter.unusedSimpArgs false
set_option linter.unusedVariables false

set_option maxRecDepth 100000 in
set_option maxHeartbeats 4000000 in
theorem ru_Round_err (f m : Int) (b : Bool) (s t : ByteArray) (e : Int) (c : Int) (w : World)
    (KC : Box (∀ w, TabAt w → Calls Tryz.prog 65 #[.int .u8 f, .int .u8 m, .agg #[.bool b, .string s, .string t, .int .i64 e]] w fun r w' => r = .returned (.int .i64 c) ∧ Below w.heap.size w w'))
    (hc : (c != 0) = true)
    (hT : FAt w) (hT2 : TabAt w) : Calls Tryz.prog 22 #[.int .u8 f, .int .u8 m, .agg #[.bool b, .string s, .string t, .int .i64 e]] w fun r w' => r = .returned (.tuple #[.agg #[.int .u64 0, .int .u64 0], .int .u8 0, .int .i64 c]) ∧ Below w.heap.size w w' := by
  have FF := box hT
  have TT := box hT2
  clear hT hT2
  obtain ⟨Rx_0, Rz_0, B0⟩ := opn2 w (Obj.cells #[.bool b, .string s, .string t, .int .i64 e] 41) (Obj.cells #[.int .u64 0, .int .u64 0] 25)
  go_enter Tryz.func22, Tryz.ntmps22
  go_wp2_with fail
  refine (KC.out _ (tabB TT.out B0)).mono ?_
  rintro r w1 ⟨rfl, b1⟩
  have B1 : Below w.heap.size w w1 := btr B0 b1
  have Rx_1 := heap_of b1 _ _ _ Rx_0
  have Rz_1 := heap_of b1 _ _ _ Rz_0
  clear b1 B0 Rx_0 Rz_0
  obtain ⟨cx_1_0, cx_1_1, cx_1_2, cx_1_3⟩ := cells4s Rx_1
  obtain ⟨cz_1_0, cz_1_1⟩ := cells2s Rz_1
  have q0 := fz (k := 0) Rz_1
  have q1 := fz (k := 1) Rz_1
  obtain ⟨E0, E1⟩ := set2_cells Rz_1 (.int .u64 0) (.int .u64 0)
  go_wp2
  exact bodyPost_ret (v := .tuple #[.agg #[.int .u64 0, .int .u64 0], .int .u8 0, .int .i64 c]) (by simp [results, Tryz.results22, go_sem, E0, E1]) rfl ⟨rfl, set2_below B1 (by first | exact Nat.le_refl _ | omega | (skip; omega)) _ _⟩
set_option maxRecDepth 100000 in
set_option maxHeartbeats 4000000 in
theorem ru_Round_ok (f m : Int) (b : Bool) (s t : ByteArray) (e : Int) (nb : Bool) (T La : Int) (ws : ByteArray) (more : Bool) (u v : Nat) (fl : Int) (w : World)
    (KC : Box (∀ w, TabAt w → Calls Tryz.prog 65 #[.int .u8 f, .int .u8 m, .agg #[.bool b, .string s, .string t, .int .i64 e]] w fun r w' => r = .returned (.int .i64 0) ∧ Below w.heap.size w w'))
    (KX : Box (∀ w, FAt w → TabAt w → Calls Tryz.prog 67 #[.int .u8 f, .agg #[.bool b, .string s, .string t, .int .i64 e]] w fun r w' => r = .returned (.agg #[.bool nb, .int .i64 T, .int .i64 La, .string ws, .bool more]) ∧ Below w.heap.size w w'))
    (KD : Box (∀ w, FAt w → TabAt w → Calls Tryz.prog 66 #[.int .u8 f, .int .u8 m, .agg #[.bool nb, .int .i64 T, .int .i64 La, .string ws, .bool more]] w fun r w' => r = .returned (.tuple #[.agg #[.int .u64 (u : Nat), .int .u64 (v : Nat)], .int .u8 fl]) ∧ Below w.heap.size w w'))
    (hT : FAt w) (hT2 : TabAt w) : Calls Tryz.prog 22 #[.int .u8 f, .int .u8 m, .agg #[.bool b, .string s, .string t, .int .i64 e]] w fun r w' => r = .returned (.tuple #[.agg #[.int .u64 (u : Nat), .int .u64 (v : Nat)], .int .u8 fl, .int .i64 0]) ∧ Below w.heap.size w w' := by
  have FF := box hT
  have TT := box hT2
  clear hT hT2
  obtain ⟨Rx_0, Rz_0, B0⟩ := opn2 w (Obj.cells #[.bool b, .string s, .string t, .int .i64 e] 41) (Obj.cells #[.int .u64 0, .int .u64 0] 25)
  go_enter Tryz.func22, Tryz.ntmps22
  go_wp2_with fail
  refine (KC.out _ (tabB TT.out B0)).mono ?_
  rintro r w1 ⟨rfl, b1⟩
  have B1 : Below w.heap.size w w1 := btr B0 b1
  have Rx_1 := heap_of b1 _ _ _ Rx_0
  have Rz_1 := heap_of b1 _ _ _ Rz_0
  clear b1 B0 Rx_0 Rz_0
  obtain ⟨cx_1_0, cx_1_1, cx_1_2, cx_1_3⟩ := cells4s Rx_1
  obtain ⟨cz_1_0, cz_1_1⟩ := cells2s Rz_1
  go_wp2_with fail
  refine (KX.out _ (fatB FF.out B1) (tabB TT.out B1)).mono ?_
  rintro r w2 ⟨rfl, b2⟩
  have B2 : Below w.heap.size w w2 := btr B1 b2
  have Rx_2 := heap_of b2 _ _ _ Rx_1
  have Rz_2 := heap_of b2 _ _ _ Rz_1
  clear b2 B1 Rx_1 cx_1_0 cx_1_1 cx_1_2 cx_1_3 Rz_1 cz_1_0 cz_1_1
  obtain ⟨cx_2_0, cx_2_1, cx_2_2, cx_2_3⟩ := cells4s Rx_2
  obtain ⟨cz_2_0, cz_2_1⟩ := cells2s Rz_2
  go_wp2_with fail
  refine (KD.out _ (fatB FF.out B2) (tabB TT.out B2)).mono ?_
  rintro r w3 ⟨rfl, b3⟩
  have B3 : Below w.heap.size w w3 := btr B2 b3
  have Rx_3 := heap_of b3 _ _ _ Rx_2
  have Rz_3 := heap_of b3 _ _ _ Rz_2
  clear b3 B2 Rx_2 cx_2_0 cx_2_1 cx_2_2 cx_2_3 Rz_2 cz_2_0 cz_2_1
  obtain ⟨cx_3_0, cx_3_1, cx_3_2, cx_3_3⟩ := cells4s Rx_3
  obtain ⟨cz_3_0, cz_3_1⟩ := cells2s Rz_3
  have S4 := box B3.size
  have Lx_4 : Box (w.heap.size < w3.heap.size) := box (Array.getElem?_eq_some_iff.1 Rx_3).1
  have Lz_4 : Box (w.heap.size + 1 < w3.heap.size) := box (Array.getElem?_eq_some_iff.1 Rz_3).1
  have Rb_4 := heap_alloc_last w3 (Obj.cells #[.int .u64 (u : Nat), .int .u64 (v : Nat)] 25)
  have B4 := btr B3 (bal w3 (Obj.cells #[.int .u64 (u : Nat), .int .u64 (v : Nat)] 25))
  have Rx_4 := heap_of (bal w3 (Obj.cells #[.int .u64 (u : Nat), .int .u64 (v : Nat)] 25)) _ _ _ Rx_3
  have Rz_4 := heap_of (bal w3 (Obj.cells #[.int .u64 (u : Nat), .int .u64 (v : Nat)] 25)) _ _ _ Rz_3
  clear B3 Rx_3 cx_3_0 cx_3_1 cx_3_2 cx_3_3 Rz_3 cz_3_0 cz_3_1
  obtain ⟨cx_4_0, cx_4_1, cx_4_2, cx_4_3⟩ := cells4s Rx_4
  obtain ⟨cz_4_0, cz_4_1⟩ := cells2s Rz_4
  obtain ⟨cb_4_0, cb_4_1⟩ := cells2s Rb_4
  have q0 := fz (k := 0) Rz_4
  have q1 := fz (k := 1) Rz_4
  obtain ⟨E0, E1⟩ := set2_cells Rz_4 (.int .u64 (u : Nat)) (.int .u64 (v : Nat))
  go_wp2
  exact bodyPost_ret (v := .tuple #[.agg #[.int .u64 (u : Nat), .int .u64 (v : Nat)], .int .u8 fl, .int .i64 0]) (by simp [results, Tryz.results22, go_sem, E0, E1]) rfl ⟨rfl, set2_below B4 (by first | exact Nat.le_refl _ | omega | (have := S4.out; have := Lx_4.out; have := Lz_4.out; omega)) _ _⟩
set_option maxRecDepth 100000 in
set_option maxHeartbeats 4000000 in
theorem ru_Root_err (f m : Int) (b : Bool) (s t : ByteArray) (e : Int) (c : Int) (w : World)
    (KC : Box (∀ w, TabAt w → Calls Tryz.prog 65 #[.int .u8 f, .int .u8 m, .agg #[.bool b, .string s, .string t, .int .i64 e]] w fun r w' => r = .returned (.int .i64 c) ∧ Below w.heap.size w w'))
    (hc : (c != 0) = true) (hb : b = false)
    (hT : FAt w) (hT2 : TabAt w) : Calls Tryz.prog 24 #[.int .u8 f, .int .u8 m, .agg #[.bool b, .string s, .string t, .int .i64 e]] w fun r w' => r = .returned (.tuple #[.agg #[.int .u64 0, .int .u64 0], .int .u8 0, .int .i64 c]) ∧ Below w.heap.size w w' := by
  have FF := box hT
  have TT := box hT2
  clear hT hT2
  subst hb
  obtain ⟨Rx_0, Rz_0, B0⟩ := opn2 w (Obj.cells #[.bool false, .string s, .string t, .int .i64 e] 41) (Obj.cells #[.int .u64 0, .int .u64 0] 25)
  go_enter Tryz.func24, Tryz.ntmps24
  go_wp2_with fail
  refine (KC.out _ (tabB TT.out B0)).mono ?_
  rintro r w1 ⟨rfl, b1⟩
  have B1 : Below w.heap.size w w1 := btr B0 b1
  have Rx_1 := heap_of b1 _ _ _ Rx_0
  have Rz_1 := heap_of b1 _ _ _ Rz_0
  clear b1 B0 Rx_0 Rz_0
  obtain ⟨cx_1_0, cx_1_1, cx_1_2, cx_1_3⟩ := cells4s Rx_1
  obtain ⟨cz_1_0, cz_1_1⟩ := cells2s Rz_1
  have q0 := fz (k := 0) Rz_1
  have q1 := fz (k := 1) Rz_1
  obtain ⟨E0, E1⟩ := set2_cells Rz_1 (.int .u64 0) (.int .u64 0)
  go_wp2
  exact bodyPost_ret (v := .tuple #[.agg #[.int .u64 0, .int .u64 0], .int .u8 0, .int .i64 c]) (by simp [results, Tryz.results24, go_sem, E0, E1]) rfl ⟨rfl, set2_below B1 (by first | exact Nat.le_refl _ | omega | (skip; omega)) _ _⟩
set_option maxRecDepth 100000 in
set_option maxHeartbeats 4000000 in
theorem ru_Root_ok (f m : Int) (b : Bool) (s t : ByteArray) (e : Int) (nb : Bool) (T La : Int) (ws : ByteArray) (more : Bool) (u v : Nat) (fl : Int) (w : World)
    (KC : Box (∀ w, TabAt w → Calls Tryz.prog 65 #[.int .u8 f, .int .u8 m, .agg #[.bool b, .string s, .string t, .int .i64 e]] w fun r w' => r = .returned (.int .i64 0) ∧ Below w.heap.size w w'))
    (KX : Box (∀ w, FAt w → TabAt w → Calls Tryz.prog 70 #[.int .u8 f, .agg #[.bool b, .string s, .string t, .int .i64 e]] w fun r w' => r = .returned (.agg #[.bool nb, .int .i64 T, .int .i64 La, .string ws, .bool more]) ∧ Below w.heap.size w w'))
    (KD : Box (∀ w, FAt w → TabAt w → Calls Tryz.prog 66 #[.int .u8 f, .int .u8 m, .agg #[.bool nb, .int .i64 T, .int .i64 La, .string ws, .bool more]] w fun r w' => r = .returned (.tuple #[.agg #[.int .u64 (u : Nat), .int .u64 (v : Nat)], .int .u8 fl]) ∧ Below w.heap.size w w')) (hb : b = false)
    (hT : FAt w) (hT2 : TabAt w) : Calls Tryz.prog 24 #[.int .u8 f, .int .u8 m, .agg #[.bool b, .string s, .string t, .int .i64 e]] w fun r w' => r = .returned (.tuple #[.agg #[.int .u64 (u : Nat), .int .u64 (v : Nat)], .int .u8 fl, .int .i64 0]) ∧ Below w.heap.size w w' := by
  have FF := box hT
  have TT := box hT2
  clear hT hT2
  subst hb
  obtain ⟨Rx_0, Rz_0, B0⟩ := opn2 w (Obj.cells #[.bool false, .string s, .string t, .int .i64 e] 41) (Obj.cells #[.int .u64 0, .int .u64 0] 25)
  go_enter Tryz.func24, Tryz.ntmps24
  go_wp2_with fail
  refine (KC.out _ (tabB TT.out B0)).mono ?_
  rintro r w1 ⟨rfl, b1⟩
  have B1 : Below w.heap.size w w1 := btr B0 b1
  have Rx_1 := heap_of b1 _ _ _ Rx_0
  have Rz_1 := heap_of b1 _ _ _ Rz_0
  clear b1 B0 Rx_0 Rz_0
  obtain ⟨cx_1_0, cx_1_1, cx_1_2, cx_1_3⟩ := cells4s Rx_1
  obtain ⟨cz_1_0, cz_1_1⟩ := cells2s Rz_1
  go_wp2_with fail
  refine (KX.out _ (fatB FF.out B1) (tabB TT.out B1)).mono ?_
  rintro r w2 ⟨rfl, b2⟩
  have B2 : Below w.heap.size w w2 := btr B1 b2
  have Rx_2 := heap_of b2 _ _ _ Rx_1
  have Rz_2 := heap_of b2 _ _ _ Rz_1
  clear b2 B1 Rx_1 cx_1_0 cx_1_1 cx_1_2 cx_1_3 Rz_1 cz_1_0 cz_1_1
  obtain ⟨cx_2_0, cx_2_1, cx_2_2, cx_2_3⟩ := cells4s Rx_2
  obtain ⟨cz_2_0, cz_2_1⟩ := cells2s Rz_2
  go_wp2_with fail
  refine (KD.out _ (fatB FF.out B2) (tabB TT.out B2)).mono ?_
  rintro r w3 ⟨rfl, b3⟩
  have B3 : Below w.heap.size w w3 := btr B2 b3
  have Rx_3 := heap_of b3 _ _ _ Rx_2
  have Rz_3 := heap_of b3 _ _ _ Rz_2
  clear b3 B2 Rx_2 cx_2_0 cx_2_1 cx_2_2 cx_2_3 Rz_2 cz_2_0 cz_2_1
  obtain ⟨cx_3_0, cx_3_1, cx_3_2, cx_3_3⟩ := cells4s Rx_3
  obtain ⟨cz_3_0, cz_3_1⟩ := cells2s Rz_3
  have S4 := box B3.size
  have Lx_4 : Box (w.heap.size < w3.heap.size) := box (Array.getElem?_eq_some_iff.1 Rx_3).1
  have Lz_4 : Box (w.heap.size + 1 < w3.heap.size) := box (Array.getElem?_eq_some_iff.1 Rz_3).1
  have Rb_4 := heap_alloc_last w3 (Obj.cells #[.int .u64 (u : Nat), .int .u64 (v : Nat)] 25)
  have B4 := btr B3 (bal w3 (Obj.cells #[.int .u64 (u : Nat), .int .u64 (v : Nat)] 25))
  have Rx_4 := heap_of (bal w3 (Obj.cells #[.int .u64 (u : Nat), .int .u64 (v : Nat)] 25)) _ _ _ Rx_3
  have Rz_4 := heap_of (bal w3 (Obj.cells #[.int .u64 (u : Nat), .int .u64 (v : Nat)] 25)) _ _ _ Rz_3
  clear B3 Rx_3 cx_3_0 cx_3_1 cx_3_2 cx_3_3 Rz_3 cz_3_0 cz_3_1
  obtain ⟨cx_4_0, cx_4_1, cx_4_2, cx_4_3⟩ := cells4s Rx_4
  obtain ⟨cz_4_0, cz_4_1⟩ := cells2s Rz_4
  obtain ⟨cb_4_0, cb_4_1⟩ := cells2s Rb_4
  have q0 := fz (k := 0) Rz_4
  have q1 := fz (k := 1) Rz_4
  obtain ⟨E0, E1⟩ := set2_cells Rz_4 (.int .u64 (u : Nat)) (.int .u64 (v : Nat))
  go_wp2
  exact bodyPost_ret (v := .tuple #[.agg #[.int .u64 (u : Nat), .int .u64 (v : Nat)], .int .u8 fl, .int .i64 0]) (by simp [results, Tryz.results24, go_sem, E0, E1]) rfl ⟨rfl, set2_below B4 (by first | exact Nat.le_refl _ | omega | (have := S4.out; have := Lx_4.out; have := Lz_4.out; omega)) _ _⟩
set_option maxRecDepth 100000 in
set_option maxHeartbeats 4000000 in
theorem ru_Root_neg (f m : Int) (s t : ByteArray) (e : Int) (w : World) : Calls Tryz.prog 24 #[.int .u8 f, .int .u8 m, .agg #[.bool true, .string s, .string t, .int .i64 e]] w fun r w' => r = .returned (.tuple #[.agg #[.int .u64 0, .int .u64 0], .int .u8 0, .int .i64 2]) ∧ Below w.heap.size w w' := by
  obtain ⟨Rx_0, Rz_0, B0⟩ := opn2 w (Obj.cells #[.bool true, .string s, .string t, .int .i64 e] 41) (Obj.cells #[.int .u64 0, .int .u64 0] 25)
  go_enter Tryz.func24, Tryz.ntmps24
  clear B0 Rx_0 Rz_0
  go_wp2
  exact bodyPost_ret (v := .tuple #[.agg #[.int .u64 0, .int .u64 0], .int .u8 0, .int .i64 2]) (by simp [results, Tryz.results24, go_sem]) rfl ⟨rfl, (((Below.refl _ _).alloc (by first | omega | (simp only [size_al]; omega)) _).alloc (by first | omega | (simp only [size_al]; omega)) _)⟩
set_option maxRecDepth 100000 in
set_option maxHeartbeats 4000000 in
theorem rf_fault_a (f m : Int) (b : Bool) (s t : ByteArray) (e : Int) (o1 o2 o3 : Bool) (w : World)
    (K1 : Box (∀ w, Calls Tryz.prog 17 #[.int .u8 f] w fun r w' => r = .returned (.bool o1) ∧ Below w.heap.size w w'))
    (K2 : Box (∀ w, Calls Tryz.prog 31 #[.int .u8 m] w fun r w' => r = .returned (.bool o2) ∧ Below w.heap.size w w'))
    (K3 : Box (∀ w, Calls Tryz.prog 29 #[.agg #[.bool b, .string s, .string t, .int .i64 e]] w fun r w' => r = .returned (.bool o3) ∧ Below w.heap.size w w'))
    (h1 : o1 = false)
    : Calls Tryz.prog 68 #[.int .u8 f, .int .u8 m, .agg #[.bool b, .string s, .string t, .int .i64 e]] w fun r w' => r = .returned (.int .i64 2) ∧ Below w.heap.size w w' := by
  subst h1
  obtain ⟨Rx_0, B0⟩ := opn1 w (Obj.cells #[.bool b, .string s, .string t, .int .i64 e] 41)
  go_enter Tryz.func68, Tryz.ntmps68
  go_wp2_with fail
  refine (K1.out _).mono ?_
  rintro r w1 ⟨rfl, b1⟩
  have B1 : Below w.heap.size w w1 := btr B0 b1
  have Rx_1 := heap_of b1 _ _ _ Rx_0
  clear b1 B0 Rx_0
  obtain ⟨cx_1_0, cx_1_1, cx_1_2, cx_1_3⟩ := cells4s Rx_1
  go_wp2
  go_ret
  exact ⟨rfl, B1⟩
set_option maxRecDepth 100000 in
set_option maxHeartbeats 4000000 in
theorem rf_fault_b (f m : Int) (b : Bool) (s t : ByteArray) (e : Int) (o1 o2 o3 : Bool) (w : World)
    (K1 : Box (∀ w, Calls Tryz.prog 17 #[.int .u8 f] w fun r w' => r = .returned (.bool o1) ∧ Below w.heap.size w w'))
    (K2 : Box (∀ w, Calls Tryz.prog 31 #[.int .u8 m] w fun r w' => r = .returned (.bool o2) ∧ Below w.heap.size w w'))
    (K3 : Box (∀ w, Calls Tryz.prog 29 #[.agg #[.bool b, .string s, .string t, .int .i64 e]] w fun r w' => r = .returned (.bool o3) ∧ Below w.heap.size w w'))
    (h1 : o1 = true) (h2 : o2 = false)
    : Calls Tryz.prog 68 #[.int .u8 f, .int .u8 m, .agg #[.bool b, .string s, .string t, .int .i64 e]] w fun r w' => r = .returned (.int .i64 2) ∧ Below w.heap.size w w' := by
  subst h1 h2
  obtain ⟨Rx_0, B0⟩ := opn1 w (Obj.cells #[.bool b, .string s, .string t, .int .i64 e] 41)
  go_enter Tryz.func68, Tryz.ntmps68
  go_wp2_with fail
  refine (K1.out _).mono ?_
  rintro r w1 ⟨rfl, b1⟩
  have B1 : Below w.heap.size w w1 := btr B0 b1
  have Rx_1 := heap_of b1 _ _ _ Rx_0
  clear b1 B0 Rx_0
  obtain ⟨cx_1_0, cx_1_1, cx_1_2, cx_1_3⟩ := cells4s Rx_1
  go_wp2_with fail
  refine (K2.out _).mono ?_
  rintro r w2 ⟨rfl, b2⟩
  have B2 : Below w.heap.size w w2 := btr B1 b2
  have Rx_2 := heap_of b2 _ _ _ Rx_1
  clear b2 B1 Rx_1 cx_1_0 cx_1_1 cx_1_2 cx_1_3
  obtain ⟨cx_2_0, cx_2_1, cx_2_2, cx_2_3⟩ := cells4s Rx_2
  go_wp2
  go_ret
  exact ⟨rfl, B2⟩
set_option maxRecDepth 100000 in
set_option maxHeartbeats 4000000 in
theorem rf_fault_c (f m : Int) (b : Bool) (s t : ByteArray) (e : Int) (o1 o2 o3 : Bool) (w : World)
    (K1 : Box (∀ w, Calls Tryz.prog 17 #[.int .u8 f] w fun r w' => r = .returned (.bool o1) ∧ Below w.heap.size w w'))
    (K2 : Box (∀ w, Calls Tryz.prog 31 #[.int .u8 m] w fun r w' => r = .returned (.bool o2) ∧ Below w.heap.size w w'))
    (K3 : Box (∀ w, Calls Tryz.prog 29 #[.agg #[.bool b, .string s, .string t, .int .i64 e]] w fun r w' => r = .returned (.bool o3) ∧ Below w.heap.size w w'))
    (h1 : o1 = true) (h2 : o2 = true) (h3 : o3 = false)
    : Calls Tryz.prog 68 #[.int .u8 f, .int .u8 m, .agg #[.bool b, .string s, .string t, .int .i64 e]] w fun r w' => r = .returned (.int .i64 2) ∧ Below w.heap.size w w' := by
  subst h1 h2 h3
  obtain ⟨Rx_0, B0⟩ := opn1 w (Obj.cells #[.bool b, .string s, .string t, .int .i64 e] 41)
  go_enter Tryz.func68, Tryz.ntmps68
  go_wp2_with fail
  refine (K1.out _).mono ?_
  rintro r w1 ⟨rfl, b1⟩
  have B1 : Below w.heap.size w w1 := btr B0 b1
  have Rx_1 := heap_of b1 _ _ _ Rx_0
  clear b1 B0 Rx_0
  obtain ⟨cx_1_0, cx_1_1, cx_1_2, cx_1_3⟩ := cells4s Rx_1
  go_wp2_with fail
  refine (K2.out _).mono ?_
  rintro r w2 ⟨rfl, b2⟩
  have B2 : Below w.heap.size w w2 := btr B1 b2
  have Rx_2 := heap_of b2 _ _ _ Rx_1
  clear b2 B1 Rx_1 cx_1_0 cx_1_1 cx_1_2 cx_1_3
  obtain ⟨cx_2_0, cx_2_1, cx_2_2, cx_2_3⟩ := cells4s Rx_2
  go_wp2_with fail
  refine (K3.out _).mono ?_
  rintro r w3 ⟨rfl, b3⟩
  have B3 : Below w.heap.size w w3 := btr B2 b3
  have Rx_3 := heap_of b3 _ _ _ Rx_2
  clear b3 B2 Rx_2 cx_2_0 cx_2_1 cx_2_2 cx_2_3
  obtain ⟨cx_3_0, cx_3_1, cx_3_2, cx_3_3⟩ := cells4s Rx_3
  go_wp2
  go_ret
  exact ⟨rfl, B3⟩
set_option maxRecDepth 100000 in
set_option maxHeartbeats 4000000 in
theorem rf_fault_d (f m : Int) (b : Bool) (s t : ByteArray) (e : Int) (o1 o2 o3 : Bool) (w : World)
    (K1 : Box (∀ w, Calls Tryz.prog 17 #[.int .u8 f] w fun r w' => r = .returned (.bool o1) ∧ Below w.heap.size w w'))
    (K2 : Box (∀ w, Calls Tryz.prog 31 #[.int .u8 m] w fun r w' => r = .returned (.bool o2) ∧ Below w.heap.size w w'))
    (K3 : Box (∀ w, Calls Tryz.prog 29 #[.agg #[.bool b, .string s, .string t, .int .i64 e]] w fun r w' => r = .returned (.bool o3) ∧ Below w.heap.size w w'))
    (h1 : o1 = true) (h2 : o2 = true) (h3 : o3 = true) (h4 : decide ((8192 : Int) < (s.size : Int)) = true)
    : Calls Tryz.prog 68 #[.int .u8 f, .int .u8 m, .agg #[.bool b, .string s, .string t, .int .i64 e]] w fun r w' => r = .returned (.int .i64 4) ∧ Below w.heap.size w w' := by
  subst h1 h2 h3
  obtain ⟨Rx_0, B0⟩ := opn1 w (Obj.cells #[.bool b, .string s, .string t, .int .i64 e] 41)
  go_enter Tryz.func68, Tryz.ntmps68
  go_wp2_with fail
  refine (K1.out _).mono ?_
  rintro r w1 ⟨rfl, b1⟩
  have B1 : Below w.heap.size w w1 := btr B0 b1
  have Rx_1 := heap_of b1 _ _ _ Rx_0
  clear b1 B0 Rx_0
  obtain ⟨cx_1_0, cx_1_1, cx_1_2, cx_1_3⟩ := cells4s Rx_1
  go_wp2_with fail
  refine (K2.out _).mono ?_
  rintro r w2 ⟨rfl, b2⟩
  have B2 : Below w.heap.size w w2 := btr B1 b2
  have Rx_2 := heap_of b2 _ _ _ Rx_1
  clear b2 B1 Rx_1 cx_1_0 cx_1_1 cx_1_2 cx_1_3
  obtain ⟨cx_2_0, cx_2_1, cx_2_2, cx_2_3⟩ := cells4s Rx_2
  go_wp2_with fail
  refine (K3.out _).mono ?_
  rintro r w3 ⟨rfl, b3⟩
  have B3 : Below w.heap.size w w3 := btr B2 b3
  have Rx_3 := heap_of b3 _ _ _ Rx_2
  clear b3 B2 Rx_2 cx_2_0 cx_2_1 cx_2_2 cx_2_3
  obtain ⟨cx_3_0, cx_3_1, cx_3_2, cx_3_3⟩ := cells4s Rx_3
  go_wp2
  go_ret
  exact ⟨rfl, B3⟩
set_option maxRecDepth 100000 in
set_option maxHeartbeats 4000000 in
theorem rf_fault_e (f m : Int) (b : Bool) (s t : ByteArray) (e : Int) (o1 o2 o3 : Bool) (w : World)
    (K1 : Box (∀ w, Calls Tryz.prog 17 #[.int .u8 f] w fun r w' => r = .returned (.bool o1) ∧ Below w.heap.size w w'))
    (K2 : Box (∀ w, Calls Tryz.prog 31 #[.int .u8 m] w fun r w' => r = .returned (.bool o2) ∧ Below w.heap.size w w'))
    (K3 : Box (∀ w, Calls Tryz.prog 29 #[.agg #[.bool b, .string s, .string t, .int .i64 e]] w fun r w' => r = .returned (.bool o3) ∧ Below w.heap.size w w'))
    (h1 : o1 = true) (h2 : o2 = true) (h3 : o3 = true) (h4 : decide ((8192 : Int) < (s.size : Int)) = false) (h5 : decide ((8192 : Int) < (t.size : Int)) = true)
    : Calls Tryz.prog 68 #[.int .u8 f, .int .u8 m, .agg #[.bool b, .string s, .string t, .int .i64 e]] w fun r w' => r = .returned (.int .i64 4) ∧ Below w.heap.size w w' := by
  subst h1 h2 h3
  obtain ⟨Rx_0, B0⟩ := opn1 w (Obj.cells #[.bool b, .string s, .string t, .int .i64 e] 41)
  go_enter Tryz.func68, Tryz.ntmps68
  go_wp2_with fail
  refine (K1.out _).mono ?_
  rintro r w1 ⟨rfl, b1⟩
  have B1 : Below w.heap.size w w1 := btr B0 b1
  have Rx_1 := heap_of b1 _ _ _ Rx_0
  clear b1 B0 Rx_0
  obtain ⟨cx_1_0, cx_1_1, cx_1_2, cx_1_3⟩ := cells4s Rx_1
  go_wp2_with fail
  refine (K2.out _).mono ?_
  rintro r w2 ⟨rfl, b2⟩
  have B2 : Below w.heap.size w w2 := btr B1 b2
  have Rx_2 := heap_of b2 _ _ _ Rx_1
  clear b2 B1 Rx_1 cx_1_0 cx_1_1 cx_1_2 cx_1_3
  obtain ⟨cx_2_0, cx_2_1, cx_2_2, cx_2_3⟩ := cells4s Rx_2
  go_wp2_with fail
  refine (K3.out _).mono ?_
  rintro r w3 ⟨rfl, b3⟩
  have B3 : Below w.heap.size w w3 := btr B2 b3
  have Rx_3 := heap_of b3 _ _ _ Rx_2
  clear b3 B2 Rx_2 cx_2_0 cx_2_1 cx_2_2 cx_2_3
  obtain ⟨cx_3_0, cx_3_1, cx_3_2, cx_3_3⟩ := cells4s Rx_3
  go_wp2
  go_ret
  exact ⟨rfl, B3⟩
set_option maxRecDepth 100000 in
set_option maxHeartbeats 4000000 in
theorem rf_fault_f (f m : Int) (b : Bool) (s t : ByteArray) (e : Int) (o1 o2 o3 : Bool) (w : World)
    (K1 : Box (∀ w, Calls Tryz.prog 17 #[.int .u8 f] w fun r w' => r = .returned (.bool o1) ∧ Below w.heap.size w w'))
    (K2 : Box (∀ w, Calls Tryz.prog 31 #[.int .u8 m] w fun r w' => r = .returned (.bool o2) ∧ Below w.heap.size w w'))
    (K3 : Box (∀ w, Calls Tryz.prog 29 #[.agg #[.bool b, .string s, .string t, .int .i64 e]] w fun r w' => r = .returned (.bool o3) ∧ Below w.heap.size w w'))
    (h1 : o1 = true) (h2 : o2 = true) (h3 : o3 = true) (h4 : decide ((8192 : Int) < (s.size : Int)) = false) (h5 : decide ((8192 : Int) < (t.size : Int)) = false)
    : Calls Tryz.prog 68 #[.int .u8 f, .int .u8 m, .agg #[.bool b, .string s, .string t, .int .i64 e]] w fun r w' => r = .returned (.int .i64 0) ∧ Below w.heap.size w w' := by
  subst h1 h2 h3
  obtain ⟨Rx_0, B0⟩ := opn1 w (Obj.cells #[.bool b, .string s, .string t, .int .i64 e] 41)
  go_enter Tryz.func68, Tryz.ntmps68
  go_wp2_with fail
  refine (K1.out _).mono ?_
  rintro r w1 ⟨rfl, b1⟩
  have B1 : Below w.heap.size w w1 := btr B0 b1
  have Rx_1 := heap_of b1 _ _ _ Rx_0
  clear b1 B0 Rx_0
  obtain ⟨cx_1_0, cx_1_1, cx_1_2, cx_1_3⟩ := cells4s Rx_1
  go_wp2_with fail
  refine (K2.out _).mono ?_
  rintro r w2 ⟨rfl, b2⟩
  have B2 : Below w.heap.size w w2 := btr B1 b2
  have Rx_2 := heap_of b2 _ _ _ Rx_1
  clear b2 B1 Rx_1 cx_1_0 cx_1_1 cx_1_2 cx_1_3
  obtain ⟨cx_2_0, cx_2_1, cx_2_2, cx_2_3⟩ := cells4s Rx_2
  go_wp2_with fail
  refine (K3.out _).mono ?_
  rintro r w3 ⟨rfl, b3⟩
  have B3 : Below w.heap.size w w3 := btr B2 b3
  have Rx_3 := heap_of b3 _ _ _ Rx_2
  clear b3 B2 Rx_2 cx_2_0 cx_2_1 cx_2_2 cx_2_3
  obtain ⟨cx_3_0, cx_3_1, cx_3_2, cx_3_3⟩ := cells4s Rx_3
  go_wp2
  go_ret
  exact ⟨rfl, B3⟩
set_option maxRecDepth 100000 in
set_option maxHeartbeats 4000000 in
theorem rf_Round_err (f m : Int) (b : Bool) (s t : ByteArray) (e : Int) (c : Int) (w : World)
    (KF : Box (∀ w, Calls Tryz.prog 68 #[.int .u8 f, .int .u8 m, .agg #[.bool b, .string s, .string t, .int .i64 e]] w fun r w' => r = .returned (.int .i64 c) ∧ Below w.heap.size w w'))
    (hc : (c != 0) = true) : Calls Tryz.prog 23 #[.int .u8 f, .int .u8 m, .agg #[.bool b, .string s, .string t, .int .i64 e]] w fun r w' => r = .returned (.tuple #[.agg #[.int .u64 0, .int .u64 0], .int .u8 0, .int .i64 c]) ∧ Below w.heap.size w w' := by
  obtain ⟨Rx_0, Rz_0, B0⟩ := opn2 w (Obj.cells #[.bool b, .string s, .string t, .int .i64 e] 41) (Obj.cells #[.int .u64 0, .int .u64 0] 25)
  go_enter Tryz.func23, Tryz.ntmps23
  go_wp2_with fail
  refine (KF.out _).mono ?_
  rintro r w1 ⟨rfl, b1⟩
  have B1 : Below w.heap.size w w1 := btr B0 b1
  have Rx_1 := heap_of b1 _ _ _ Rx_0
  have Rz_1 := heap_of b1 _ _ _ Rz_0
  clear b1 B0 Rx_0 Rz_0
  obtain ⟨cx_1_0, cx_1_1, cx_1_2, cx_1_3⟩ := cells4s Rx_1
  obtain ⟨cz_1_0, cz_1_1⟩ := cells2s Rz_1
  have q0 := fz (k := 0) Rz_1
  have q1 := fz (k := 1) Rz_1
  obtain ⟨E0, E1⟩ := set2_cells Rz_1 (.int .u64 0) (.int .u64 0)
  go_wp2
  exact bodyPost_ret (v := .tuple #[.agg #[.int .u64 0, .int .u64 0], .int .u8 0, .int .i64 c]) (by simp [results, Tryz.results23, go_sem, E0, E1]) rfl ⟨rfl, set2_below B1 (by first | exact Nat.le_refl _ | omega | (skip; omega)) _ _⟩
set_option maxRecDepth 100000 in
set_option maxHeartbeats 4000000 in
theorem rf_Round_null (f m : Int) (w : World)
    (KF : Box (∀ w, Calls Tryz.prog 68 #[.int .u8 f, .int .u8 m, .agg #[.bool false, .string ⟨#[]⟩, .string ⟨#[1]⟩, .int .i64 0]] w fun r w' => r = .returned (.int .i64 0) ∧ Below w.heap.size w w'))
    : Calls Tryz.prog 23 #[.int .u8 f, .int .u8 m, .agg #[.bool false, .string ⟨#[]⟩, .string ⟨#[1]⟩, .int .i64 0]] w fun r w' => r = .returned (.tuple #[.agg #[.int .u64 0, .int .u64 0], .int .u8 0, .int .i64 0]) ∧ Below w.heap.size w w' := by
  obtain ⟨Rx_0, Rz_0, B0⟩ := opn2 w (Obj.cells #[.bool false, .string ⟨#[]⟩, .string ⟨#[1]⟩, .int .i64 0] 41) (Obj.cells #[.int .u64 0, .int .u64 0] 25)
  go_enter Tryz.func23, Tryz.ntmps23
  go_wp2_with fail
  refine (KF.out _).mono ?_
  rintro r w1 ⟨rfl, b1⟩
  have B1 : Below w.heap.size w w1 := btr B0 b1
  have Rx_1 := heap_of b1 _ _ _ Rx_0
  have Rz_1 := heap_of b1 _ _ _ Rz_0
  clear b1 B0 Rx_0 Rz_0
  obtain ⟨cx_1_0, cx_1_1, cx_1_2, cx_1_3⟩ := cells4s Rx_1
  obtain ⟨cz_1_0, cz_1_1⟩ := cells2s Rz_1
  have q0 := fz (k := 0) Rz_1
  have q1 := fz (k := 1) Rz_1
  obtain ⟨E0, E1⟩ := set2_cells Rz_1 (.int .u64 0) (.int .u64 0)
  go_wp2
  exact bodyPost_ret (v := .tuple #[.agg #[.int .u64 0, .int .u64 0], .int .u8 0, .int .i64 0]) (by simp [results, Tryz.results23, go_sem, E0, E1]) rfl ⟨rfl, set2_below B1 (by first | exact Nat.le_refl _ | omega | (skip; omega)) _ _⟩
set_option maxRecDepth 100000 in
set_option maxHeartbeats 4000000 in
theorem rf_Round_ok (f m : Int) (b : Bool) (s t : ByteArray) (e : Int) (u v : Nat) (fl : Int) (w : World)
    (KF : Box (∀ w, Calls Tryz.prog 68 #[.int .u8 f, .int .u8 m, .agg #[.bool b, .string s, .string t, .int .i64 e]] w fun r w' => r = .returned (.int .i64 0) ∧ Below w.heap.size w w'))
    (KD : Box (∀ w, Calls Tryz.prog 69 #[.int .u8 f, .int .u8 m, .agg #[.bool b, .string s, .string t, .int .i64 e], .bool false] w fun r w' => r = .returned (.tuple #[.agg #[.int .u64 (u : Nat), .int .u64 (v : Nat)], .int .u8 fl]) ∧ Below w.heap.size w w'))
    (hs : (s.toList == []) = false) : Calls Tryz.prog 23 #[.int .u8 f, .int .u8 m, .agg #[.bool b, .string s, .string t, .int .i64 e]] w fun r w' => r = .returned (.tuple #[.agg #[.int .u64 (u : Nat), .int .u64 (v : Nat)], .int .u8 fl, .int .i64 0]) ∧ Below w.heap.size w w' := by
  obtain ⟨Rx_0, Rz_0, B0⟩ := opn2 w (Obj.cells #[.bool b, .string s, .string t, .int .i64 e] 41) (Obj.cells #[.int .u64 0, .int .u64 0] 25)
  go_enter Tryz.func23, Tryz.ntmps23
  go_wp2_with fail
  refine (KF.out _).mono ?_
  rintro r w1 ⟨rfl, b1⟩
  have B1 : Below w.heap.size w w1 := btr B0 b1
  have Rx_1 := heap_of b1 _ _ _ Rx_0
  have Rz_1 := heap_of b1 _ _ _ Rz_0
  clear b1 B0 Rx_0 Rz_0
  obtain ⟨cx_1_0, cx_1_1, cx_1_2, cx_1_3⟩ := cells4s Rx_1
  obtain ⟨cz_1_0, cz_1_1⟩ := cells2s Rz_1
  go_wp2_with fail
  refine (KD.out _).mono ?_
  rintro r w2 ⟨rfl, b2⟩
  have B2 : Below w.heap.size w w2 := btr B1 b2
  have Rx_2 := heap_of b2 _ _ _ Rx_1
  have Rz_2 := heap_of b2 _ _ _ Rz_1
  clear b2 B1 Rx_1 cx_1_0 cx_1_1 cx_1_2 cx_1_3 Rz_1 cz_1_0 cz_1_1
  obtain ⟨cx_2_0, cx_2_1, cx_2_2, cx_2_3⟩ := cells4s Rx_2
  obtain ⟨cz_2_0, cz_2_1⟩ := cells2s Rz_2
  have S3 := box B2.size
  have Lx_3 : Box (w.heap.size < w2.heap.size) := box (Array.getElem?_eq_some_iff.1 Rx_2).1
  have Lz_3 : Box (w.heap.size + 1 < w2.heap.size) := box (Array.getElem?_eq_some_iff.1 Rz_2).1
  have Rb_3 := heap_alloc_last w2 (Obj.cells #[.int .u64 (u : Nat), .int .u64 (v : Nat)] 25)
  have B3 := btr B2 (bal w2 (Obj.cells #[.int .u64 (u : Nat), .int .u64 (v : Nat)] 25))
  have Rx_3 := heap_of (bal w2 (Obj.cells #[.int .u64 (u : Nat), .int .u64 (v : Nat)] 25)) _ _ _ Rx_2
  have Rz_3 := heap_of (bal w2 (Obj.cells #[.int .u64 (u : Nat), .int .u64 (v : Nat)] 25)) _ _ _ Rz_2
  clear B2 Rx_2 cx_2_0 cx_2_1 cx_2_2 cx_2_3 Rz_2 cz_2_0 cz_2_1
  obtain ⟨cx_3_0, cx_3_1, cx_3_2, cx_3_3⟩ := cells4s Rx_3
  obtain ⟨cz_3_0, cz_3_1⟩ := cells2s Rz_3
  obtain ⟨cb_3_0, cb_3_1⟩ := cells2s Rb_3
  have q0 := fz (k := 0) Rz_3
  have q1 := fz (k := 1) Rz_3
  obtain ⟨E0, E1⟩ := set2_cells Rz_3 (.int .u64 (u : Nat)) (.int .u64 (v : Nat))
  go_wp2
  exact bodyPost_ret (v := .tuple #[.agg #[.int .u64 (u : Nat), .int .u64 (v : Nat)], .int .u8 fl, .int .i64 0]) (by simp [results, Tryz.results23, go_sem, E0, E1]) rfl ⟨rfl, set2_below B3 (by first | exact Nat.le_refl _ | omega | (have := S3.out; have := Lx_3.out; have := Lz_3.out; omega)) _ _⟩
set_option maxRecDepth 100000 in
set_option maxHeartbeats 4000000 in
theorem rf_Root_err (f m : Int) (b : Bool) (s t : ByteArray) (e : Int) (c : Int) (w : World)
    (KF : Box (∀ w, Calls Tryz.prog 68 #[.int .u8 f, .int .u8 m, .agg #[.bool b, .string s, .string t, .int .i64 e]] w fun r w' => r = .returned (.int .i64 c) ∧ Below w.heap.size w w'))
    (hc : (c != 0) = true) (hb : b = false) : Calls Tryz.prog 25 #[.int .u8 f, .int .u8 m, .agg #[.bool b, .string s, .string t, .int .i64 e]] w fun r w' => r = .returned (.tuple #[.agg #[.int .u64 0, .int .u64 0], .int .u8 0, .int .i64 c]) ∧ Below w.heap.size w w' := by
  subst hb
  obtain ⟨Rx_0, Rz_0, B0⟩ := opn2 w (Obj.cells #[.bool false, .string s, .string t, .int .i64 e] 41) (Obj.cells #[.int .u64 0, .int .u64 0] 25)
  go_enter Tryz.func25, Tryz.ntmps25
  go_wp2_with fail
  refine (KF.out _).mono ?_
  rintro r w1 ⟨rfl, b1⟩
  have B1 : Below w.heap.size w w1 := btr B0 b1
  have Rx_1 := heap_of b1 _ _ _ Rx_0
  have Rz_1 := heap_of b1 _ _ _ Rz_0
  clear b1 B0 Rx_0 Rz_0
  obtain ⟨cx_1_0, cx_1_1, cx_1_2, cx_1_3⟩ := cells4s Rx_1
  obtain ⟨cz_1_0, cz_1_1⟩ := cells2s Rz_1
  have q0 := fz (k := 0) Rz_1
  have q1 := fz (k := 1) Rz_1
  obtain ⟨E0, E1⟩ := set2_cells Rz_1 (.int .u64 0) (.int .u64 0)
  go_wp2
  exact bodyPost_ret (v := .tuple #[.agg #[.int .u64 0, .int .u64 0], .int .u8 0, .int .i64 c]) (by simp [results, Tryz.results25, go_sem, E0, E1]) rfl ⟨rfl, set2_below B1 (by first | exact Nat.le_refl _ | omega | (skip; omega)) _ _⟩
set_option maxRecDepth 100000 in
set_option maxHeartbeats 4000000 in
theorem rf_Root_null (f m : Int) (w : World)
    (KF : Box (∀ w, Calls Tryz.prog 68 #[.int .u8 f, .int .u8 m, .agg #[.bool false, .string ⟨#[]⟩, .string ⟨#[1]⟩, .int .i64 0]] w fun r w' => r = .returned (.int .i64 0) ∧ Below w.heap.size w w'))
    : Calls Tryz.prog 25 #[.int .u8 f, .int .u8 m, .agg #[.bool false, .string ⟨#[]⟩, .string ⟨#[1]⟩, .int .i64 0]] w fun r w' => r = .returned (.tuple #[.agg #[.int .u64 0, .int .u64 0], .int .u8 0, .int .i64 0]) ∧ Below w.heap.size w w' := by
  obtain ⟨Rx_0, Rz_0, B0⟩ := opn2 w (Obj.cells #[.bool false, .string ⟨#[]⟩, .string ⟨#[1]⟩, .int .i64 0] 41) (Obj.cells #[.int .u64 0, .int .u64 0] 25)
  go_enter Tryz.func25, Tryz.ntmps25
  go_wp2_with fail
  refine (KF.out _).mono ?_
  rintro r w1 ⟨rfl, b1⟩
  have B1 : Below w.heap.size w w1 := btr B0 b1
  have Rx_1 := heap_of b1 _ _ _ Rx_0
  have Rz_1 := heap_of b1 _ _ _ Rz_0
  clear b1 B0 Rx_0 Rz_0
  obtain ⟨cx_1_0, cx_1_1, cx_1_2, cx_1_3⟩ := cells4s Rx_1
  obtain ⟨cz_1_0, cz_1_1⟩ := cells2s Rz_1
  have q0 := fz (k := 0) Rz_1
  have q1 := fz (k := 1) Rz_1
  obtain ⟨E0, E1⟩ := set2_cells Rz_1 (.int .u64 0) (.int .u64 0)
  go_wp2
  exact bodyPost_ret (v := .tuple #[.agg #[.int .u64 0, .int .u64 0], .int .u8 0, .int .i64 0]) (by simp [results, Tryz.results25, go_sem, E0, E1]) rfl ⟨rfl, set2_below B1 (by first | exact Nat.le_refl _ | omega | (skip; omega)) _ _⟩
set_option maxRecDepth 100000 in
set_option maxHeartbeats 4000000 in
theorem rf_Root_ok (f m : Int) (b : Bool) (s t : ByteArray) (e : Int) (u v : Nat) (fl : Int) (w : World)
    (KF : Box (∀ w, Calls Tryz.prog 68 #[.int .u8 f, .int .u8 m, .agg #[.bool b, .string s, .string t, .int .i64 e]] w fun r w' => r = .returned (.int .i64 0) ∧ Below w.heap.size w w'))
    (KD : Box (∀ w, Calls Tryz.prog 69 #[.int .u8 f, .int .u8 m, .agg #[.bool b, .string s, .string t, .int .i64 e], .bool true] w fun r w' => r = .returned (.tuple #[.agg #[.int .u64 (u : Nat), .int .u64 (v : Nat)], .int .u8 fl]) ∧ Below w.heap.size w w'))
    (hs : (s.toList == []) = false) (hb : b = false) : Calls Tryz.prog 25 #[.int .u8 f, .int .u8 m, .agg #[.bool b, .string s, .string t, .int .i64 e]] w fun r w' => r = .returned (.tuple #[.agg #[.int .u64 (u : Nat), .int .u64 (v : Nat)], .int .u8 fl, .int .i64 0]) ∧ Below w.heap.size w w' := by
  subst hb
  obtain ⟨Rx_0, Rz_0, B0⟩ := opn2 w (Obj.cells #[.bool false, .string s, .string t, .int .i64 e] 41) (Obj.cells #[.int .u64 0, .int .u64 0] 25)
  go_enter Tryz.func25, Tryz.ntmps25
  go_wp2_with fail
  refine (KF.out _).mono ?_
  rintro r w1 ⟨rfl, b1⟩
  have B1 : Below w.heap.size w w1 := btr B0 b1
  have Rx_1 := heap_of b1 _ _ _ Rx_0
  have Rz_1 := heap_of b1 _ _ _ Rz_0
  clear b1 B0 Rx_0 Rz_0
  obtain ⟨cx_1_0, cx_1_1, cx_1_2, cx_1_3⟩ := cells4s Rx_1
  obtain ⟨cz_1_0, cz_1_1⟩ := cells2s Rz_1
  go_wp2_with fail
  refine (KD.out _).mono ?_
  rintro r w2 ⟨rfl, b2⟩
  have B2 : Below w.heap.size w w2 := btr B1 b2
  have Rx_2 := heap_of b2 _ _ _ Rx_1
  have Rz_2 := heap_of b2 _ _ _ Rz_1
  clear b2 B1 Rx_1 cx_1_0 cx_1_1 cx_1_2 cx_1_3 Rz_1 cz_1_0 cz_1_1
  obtain ⟨cx_2_0, cx_2_1, cx_2_2, cx_2_3⟩ := cells4s Rx_2
  obtain ⟨cz_2_0, cz_2_1⟩ := cells2s Rz_2
  have S3 := box B2.size
  have Lx_3 : Box (w.heap.size < w2.heap.size) := box (Array.getElem?_eq_some_iff.1 Rx_2).1
  have Lz_3 : Box (w.heap.size + 1 < w2.heap.size) := box (Array.getElem?_eq_some_iff.1 Rz_2).1
  have Rb_3 := heap_alloc_last w2 (Obj.cells #[.int .u64 (u : Nat), .int .u64 (v : Nat)] 25)
  have B3 := btr B2 (bal w2 (Obj.cells #[.int .u64 (u : Nat), .int .u64 (v : Nat)] 25))
  have Rx_3 := heap_of (bal w2 (Obj.cells #[.int .u64 (u : Nat), .int .u64 (v : Nat)] 25)) _ _ _ Rx_2
  have Rz_3 := heap_of (bal w2 (Obj.cells #[.int .u64 (u : Nat), .int .u64 (v : Nat)] 25)) _ _ _ Rz_2
  clear B2 Rx_2 cx_2_0 cx_2_1 cx_2_2 cx_2_3 Rz_2 cz_2_0 cz_2_1
  obtain ⟨cx_3_0, cx_3_1, cx_3_2, cx_3_3⟩ := cells4s Rx_3
  obtain ⟨cz_3_0, cz_3_1⟩ := cells2s Rz_3
  obtain ⟨cb_3_0, cb_3_1⟩ := cells2s Rb_3
  have q0 := fz (k := 0) Rz_3
  have q1 := fz (k := 1) Rz_3
  obtain ⟨E0, E1⟩ := set2_cells Rz_3 (.int .u64 (u : Nat)) (.int .u64 (v : Nat))
  go_wp2
  exact bodyPost_ret (v := .tuple #[.agg #[.int .u64 (u : Nat), .int .u64 (v : Nat)], .int .u8 fl, .int .i64 0]) (by simp [results, Tryz.results25, go_sem, E0, E1]) rfl ⟨rfl, set2_below B3 (by first | exact Nat.le_refl _ | omega | (have := S3.out; have := Lx_3.out; have := Lz_3.out; omega)) _ _⟩
set_option maxRecDepth 100000 in
set_option maxHeartbeats 4000000 in
theorem rf_Root_neg4 (f m : Int) (s t : ByteArray) (e : Int) (w : World)
    (KF : Box (∀ w, Calls Tryz.prog 68 #[.int .u8 f, .int .u8 m, .agg #[.bool true, .string s, .string t, .int .i64 e]] w fun r w' => r = .returned (.int .i64 4) ∧ Below w.heap.size w w'))
    : Calls Tryz.prog 25 #[.int .u8 f, .int .u8 m, .agg #[.bool true, .string s, .string t, .int .i64 e]] w fun r w' => r = .returned (.tuple #[.agg #[.int .u64 0, .int .u64 0], .int .u8 0, .int .i64 2]) ∧ Below w.heap.size w w' := by
  obtain ⟨Rx_0, Rz_0, B0⟩ := opn2 w (Obj.cells #[.bool true, .string s, .string t, .int .i64 e] 41) (Obj.cells #[.int .u64 0, .int .u64 0] 25)
  go_enter Tryz.func25, Tryz.ntmps25
  go_wp2_with fail
  refine (KF.out _).mono ?_
  rintro r w1 ⟨rfl, b1⟩
  have B1 : Below w.heap.size w w1 := btr B0 b1
  have Rx_1 := heap_of b1 _ _ _ Rx_0
  have Rz_1 := heap_of b1 _ _ _ Rz_0
  clear b1 B0 Rx_0 Rz_0
  obtain ⟨cx_1_0, cx_1_1, cx_1_2, cx_1_3⟩ := cells4s Rx_1
  obtain ⟨cz_1_0, cz_1_1⟩ := cells2s Rz_1
  have q0 := fz (k := 0) Rz_1
  have q1 := fz (k := 1) Rz_1
  obtain ⟨E0, E1⟩ := set2_cells Rz_1 (.int .u64 0) (.int .u64 0)
  go_wp2
  exact bodyPost_ret (v := .tuple #[.agg #[.int .u64 0, .int .u64 0], .int .u8 0, .int .i64 2]) (by simp [results, Tryz.results25, go_sem, E0, E1]) rfl ⟨rfl, set2_below B1 (by first | exact Nat.le_refl _ | omega | (skip; omega)) _ _⟩
set_option maxRecDepth 100000 in
set_option maxHeartbeats 4000000 in
theorem rf_Root_neg2 (f m : Int) (s t : ByteArray) (e : Int) (w : World)
    (KF : Box (∀ w, Calls Tryz.prog 68 #[.int .u8 f, .int .u8 m, .agg #[.bool true, .string s, .string t, .int .i64 e]] w fun r w' => r = .returned (.int .i64 2) ∧ Below w.heap.size w w'))
    : Calls Tryz.prog 25 #[.int .u8 f, .int .u8 m, .agg #[.bool true, .string s, .string t, .int .i64 e]] w fun r w' => r = .returned (.tuple #[.agg #[.int .u64 0, .int .u64 0], .int .u8 0, .int .i64 2]) ∧ Below w.heap.size w w' := by
  obtain ⟨Rx_0, Rz_0, B0⟩ := opn2 w (Obj.cells #[.bool true, .string s, .string t, .int .i64 e] 41) (Obj.cells #[.int .u64 0, .int .u64 0] 25)
  go_enter Tryz.func25, Tryz.ntmps25
  go_wp2_with fail
  refine (KF.out _).mono ?_
  rintro r w1 ⟨rfl, b1⟩
  have B1 : Below w.heap.size w w1 := btr B0 b1
  have Rx_1 := heap_of b1 _ _ _ Rx_0
  have Rz_1 := heap_of b1 _ _ _ Rz_0
  clear b1 B0 Rx_0 Rz_0
  obtain ⟨cx_1_0, cx_1_1, cx_1_2, cx_1_3⟩ := cells4s Rx_1
  obtain ⟨cz_1_0, cz_1_1⟩ := cells2s Rz_1
  have q0 := fz (k := 0) Rz_1
  have q1 := fz (k := 1) Rz_1
  obtain ⟨E0, E1⟩ := set2_cells Rz_1 (.int .u64 0) (.int .u64 0)
  go_wp2
  exact bodyPost_ret (v := .tuple #[.agg #[.int .u64 0, .int .u64 0], .int .u8 0, .int .i64 2]) (by simp [results, Tryz.results25, go_sem, E0, E1]) rfl ⟨rfl, set2_below B1 (by first | exact Nat.le_refl _ | omega | (skip; omega)) _ _⟩
set_option maxRecDepth 100000 in
set_option maxHeartbeats 4000000 in
theorem rf_Root_neg0 (f m : Int) (s t : ByteArray) (e : Int) (w : World)
    (KF : Box (∀ w, Calls Tryz.prog 68 #[.int .u8 f, .int .u8 m, .agg #[.bool true, .string s, .string t, .int .i64 e]] w fun r w' => r = .returned (.int .i64 0) ∧ Below w.heap.size w w'))
    (hs : (s.toList == []) = false) : Calls Tryz.prog 25 #[.int .u8 f, .int .u8 m, .agg #[.bool true, .string s, .string t, .int .i64 e]] w fun r w' => r = .returned (.tuple #[.agg #[.int .u64 0, .int .u64 0], .int .u8 0, .int .i64 2]) ∧ Below w.heap.size w w' := by
  obtain ⟨Rx_0, Rz_0, B0⟩ := opn2 w (Obj.cells #[.bool true, .string s, .string t, .int .i64 e] 41) (Obj.cells #[.int .u64 0, .int .u64 0] 25)
  go_enter Tryz.func25, Tryz.ntmps25
  go_wp2_with fail
  refine (KF.out _).mono ?_
  rintro r w1 ⟨rfl, b1⟩
  have B1 : Below w.heap.size w w1 := btr B0 b1
  have Rx_1 := heap_of b1 _ _ _ Rx_0
  have Rz_1 := heap_of b1 _ _ _ Rz_0
  clear b1 B0 Rx_0 Rz_0
  obtain ⟨cx_1_0, cx_1_1, cx_1_2, cx_1_3⟩ := cells4s Rx_1
  obtain ⟨cz_1_0, cz_1_1⟩ := cells2s Rz_1
  have q0 := fz (k := 0) Rz_1
  have q1 := fz (k := 1) Rz_1
  obtain ⟨E0, E1⟩ := set2_cells Rz_1 (.int .u64 0) (.int .u64 0)
  go_wp2
  exact bodyPost_ret (v := .tuple #[.agg #[.int .u64 0, .int .u64 0], .int .u8 0, .int .i64 2]) (by simp [results, Tryz.results25, go_sem, E0, E1]) rfl ⟨rfl, set2_below B1 (by first | exact Nat.le_refl _ | omega | (skip; omega)) _ _⟩
end Go.Proofs.YtbmhfcppaajgbaaGreatDoor
namespace Go.Proofs.YtbmhfcppaajgbaaGreatDoor
set_option maxRecDepth 100000
open Go.RowKit WMath XMath
set_option linter.unusedSimpArgs false
set_option linter.unusedVariables false

/-- The first error of a format, a mode, a number. -/
def flt (f m : Int) (may : Bool) (s t : ByteArray) : Int := if f ≤ 3 ∧ m ≤ 4 ∧ may = true then (if 8192 < s.size ∨ 8192 < t.size then 4 else 0) else 2
theorem k_mode (m c : Int) (hc : (if m ≤ 4 then (0 : Int) else 2) = c) (w : World) : Calls Tryz.prog 145 #[.int .u8 m] w fun r w' => r = .returned (.int .i64 c) ∧ Below w.heap.size w w' := by
  subst hc
  exact bel_same (s_checkMode m w)
theorem k_form (f : Int) (h0 : 0 ≤ f) (h1 : f ≤ 255) (c : Int) (hc : (if f ≤ 3 then (0 : Int) else 2) = c) (w : World) : Calls Tryz.prog 60 #[.int .u8 f] w fun r w' => r = .returned (.int .i64 c) ∧ Below w.heap.size w w' := by
  refine bel_same (s_check_is f c h0 h1 ?_ w)
  rw [← hc]
  by_cases h : f ≤ 3
  · rw [if_pos h]; exact fC_yes (is4_of h0 h)
  · rw [if_neg h]; exact fC_no h0 (by unfold Is4; omega)
theorem kcheck (f m : Int) (h0 : 0 ≤ f) (h1 : f ≤ 255) (b : Bool) (s t : ByteArray) (e : Int) (may : Bool) (hm : IsM may b s t e) (c : Int) (hc : flt f m may s t = c) (w : World) (hT2 : TabAt w) : Calls Tryz.prog 65 #[.int .u8 f, .int .u8 m, .agg #[.bool b, .string s, .string t, .int .i64 e]] w fun r w' => r = .returned (.int .i64 c) ∧ Below w.heap.size w w' := by
  have K1 : Box (∀ w, Calls Tryz.prog 60 #[.int .u8 f] w fun r w' => r = .returned (.int .i64 (if f ≤ 3 then (0 : Int) else 2)) ∧ Below w.heap.size w w') := box (fun w => k_form f h0 h1 _ rfl w)
  have K2 : Box (∀ w, Calls Tryz.prog 145 #[.int .u8 m] w fun r w' => r = .returned (.int .i64 (if m ≤ 4 then (0 : Int) else 2)) ∧ Below w.heap.size w w') := box (fun w => k_mode m _ rfl w)
  have K3 : Box (∀ w, TabAt w → Calls Tryz.prog 146 #[.agg #[.bool b, .string s, .string t, .int .i64 e]] w fun r w' => r = .returned (.int .i64 (if may then (0 : Int) else 2)) ∧ Below w.heap.size w w') := box (fun w hT => xcheckM b s t e may hm _ rfl w hT)
  unfold flt at hc
  by_cases c1 : f ≤ 3
  · rw [if_pos c1] at K1
    by_cases c2 : m ≤ 4
    · rw [if_pos c2] at K2
      cases may
      · rw [if_neg (by simp)] at hc
        subst hc
        exact ru_check_c f m b s t e 0 0 2 w K1 K2 K3 (by decide) (by decide) (by decide) hT2
      · rw [if_pos ⟨c1, c2, rfl⟩] at hc
        by_cases c4 : 8192 < s.size
        · rw [if_pos (Or.inl c4)] at hc
          subst hc
          exact ru_check_d f m b s t e 0 0 0 w K1 K2 K3 (by decide) (by decide) (by decide) (decide_eq_true (by omega)) hT2
        · by_cases c5 : 8192 < t.size
          · rw [if_pos (Or.inr c5)] at hc
            subst hc
            exact ru_check_e f m b s t e 0 0 0 w K1 K2 K3 (by decide) (by decide) (by decide) (decide_eq_false (by omega)) (decide_eq_true (by omega)) hT2
          · rw [if_neg (by omega)] at hc
            subst hc
            exact ru_check_f f m b s t e 0 0 0 w K1 K2 K3 (by decide) (by decide) (by decide) (decide_eq_false (by omega)) (decide_eq_false (by omega)) hT2
    · rw [if_neg c2] at K2
      rw [if_neg (by omega)] at hc
      subst hc
      exact ru_check_b f m b s t e 0 2 _ w K1 K2 K3 (by decide) (by decide) hT2
  · rw [if_neg c1] at K1
    rw [if_neg (by omega)] at hc
    subst hc
    exact ru_check_a f m b s t e 2 _ _ w K1 K2 K3 (by decide) hT2
theorem rfault (f m : Int) (b : Bool) (s t : ByteArray) (e : Int) (may : Bool) (hm : IsM may b s t e) (c : Int) (hc : flt f m may s t = c) (w : World) : Calls Tryz.prog 68 #[.int .u8 f, .int .u8 m, .agg #[.bool b, .string s, .string t, .int .i64 e]] w fun r w' => r = .returned (.int .i64 c) ∧ Below w.heap.size w w' := by
  have K1 : Box (∀ w, Calls Tryz.prog 17 #[.int .u8 f] w fun r w' => r = .returned (.bool (decide (f ≤ 3))) ∧ Below w.heap.size w w') := box (fun w => bel_same (r_right f _ rfl w))
  have K2 : Box (∀ w, Calls Tryz.prog 31 #[.int .u8 m] w fun r w' => r = .returned (.bool (decide (m ≤ 4))) ∧ Below w.heap.size w w') := box (fun w => bel_same (r_mode m _ rfl w))
  have K3 : Box (∀ w, Calls Tryz.prog 29 #[.agg #[.bool b, .string s, .string t, .int .i64 e]] w fun r w' => r = .returned (.bool may) ∧ Below w.heap.size w w') := box (fun w => xmayM b s t e may hm w)
  unfold flt at hc
  by_cases c1 : f ≤ 3
  · by_cases c2 : m ≤ 4
    · cases may
      · rw [if_neg (by simp)] at hc
        subst hc
        exact rf_fault_c f m b s t e _ _ false w K1 K2 K3 (decide_eq_true c1) (decide_eq_true c2) rfl
      · rw [if_pos ⟨c1, c2, rfl⟩] at hc
        by_cases c4 : 8192 < s.size
        · rw [if_pos (Or.inl c4)] at hc
          subst hc
          exact rf_fault_d f m b s t e _ _ _ w K1 K2 K3 (decide_eq_true c1) (decide_eq_true c2) rfl (decide_eq_true (by omega))
        · by_cases c5 : 8192 < t.size
          · rw [if_pos (Or.inr c5)] at hc
            subst hc
            exact rf_fault_e f m b s t e _ _ _ w K1 K2 K3 (decide_eq_true c1) (decide_eq_true c2) rfl (decide_eq_false (by omega)) (decide_eq_true (by omega))
          · rw [if_neg (by omega)] at hc
            subst hc
            exact rf_fault_f f m b s t e _ _ _ w K1 K2 K3 (decide_eq_true c1) (decide_eq_true c2) rfl (decide_eq_false (by omega)) (decide_eq_false (by omega))
    · rw [if_neg (by omega)] at hc
      subst hc
      exact rf_fault_b f m b s t e _ _ _ w K1 K2 K3 (decide_eq_true c1) (decide_eq_false c2)
  · rw [if_neg (by omega)] at hc
    subst hc
    exact rf_fault_a f m b s t e _ _ _ w K1 K2 K3 (decide_eq_false c1)
theorem flt_ok {f m : Int} (hf : Is4 f) (hm : 0 ≤ m ∧ m ≤ 4) {n d : Nat} {s t : ByteArray} (hs : nbA n = s) (ht : nbA d = t) (ln : nl n ≤ 8192) (ld : nl d ≤ 8192) : flt f m true s t = 0 := by
  have a : s.size = nl n := by rw [← hs, nbA_size]
  have c : t.size = nl d := by rw [← ht, nbA_size]
  have f3 : f ≤ 3 := by rcases hf with rfl | rfl | rfl | rfl <;> decide
  unfold flt
  rw [if_pos ⟨f3, hm.2, rfl⟩, if_neg (by omega)]
/-- What is delivered of an exact number, and the flags. -/
def rnd (f m : Int) (x : XN) : Nat × Int := if x.n = 0 then (0, 0) else dlv f m x.b (topX x) (xW f x) (xM f x)
theorem fnd_x {f : Int} (hf : Is4 f) {x : XN} (hx : x.can) (n0 : x.n ≠ 0) (hd : nl x.d ≤ 8192) : Wok f (xW f x) ∧ Fnd f x false (topX x) (xW f x) (xM f x) := by
  obtain ⟨t1, t2⟩ := top_lim hx
  obtain ⟨a, b⟩ := x_num hf x hx n0 hd t1 t2
  refine ⟨a, ?_⟩
  unfold Fnd
  rw [if_neg (by decide)]
  exact ⟨rfl, b⟩
theorem kRound_is (f m : Int) (hf : Is4 f) (hm : 0 ≤ m ∧ m ≤ 4) (b : Bool) (n d : Nat) (s t : ByteArray) (e : Int) (hs : nbA n = s) (ht : nbA d = t) (hc : (XN.mk b n d e).can) (ln : nl n ≤ 8192) (ld : nl d ≤ 8192) (M : Nat) (fl : Int) (hd : rnd f m ⟨b, n, d, e⟩ = (M, fl)) (u v : Nat) (hv : bv7 M = (u, v)) (w : World) (hT : FAt w) (hT2 : TabAt w) :
    Calls Tryz.prog 22 #[.int .u8 f, .int .u8 m, .agg #[.bool b, .string s, .string t, .int .i64 e]] w fun r w' => r = .returned (.tuple #[.agg #[.int .u64 (u : Nat), .int .u64 (v : Nat)], .int .u8 fl, .int .i64 0]) ∧ Below w.heap.size w w' := by
  have f4 := is4_ok hf
  have KC : Box (∀ w, TabAt w → Calls Tryz.prog 65 #[.int .u8 f, .int .u8 m, .agg #[.bool b, .string s, .string t, .int .i64 e]] w fun r w' => r = .returned (.int .i64 0) ∧ Below w.heap.size w w') := box (fun w hT => kcheck f m f4.1 f4.2.1 b s t e true (may_yes hs ht hc) 0 (flt_ok hf hm hs ht ln ld) w hT)
  unfold rnd at hd
  rcases x_cases hs ht hc with ⟨n0, rfl, rfl, rfl, rfl, rfl⟩ | ⟨n0, e0⟩
  · rw [if_pos n0] at hd
    injection hd with h1 h2
    subst h1 h2
    injection hv with h3 h4
    subst h3 h4
    exact ru_Round_ok f m _ _ _ _ _ _ _ _ _ 0 0 0 w KC (box (fun w hT hT2 => kofExact0 f hf _ rfl w hT hT2)) (box (fun w hT hT2 => kdelivered0 f m hf hm _ rfl w hT hT2)) hT hT2
  · rw [if_neg n0] at hd
    obtain ⟨t1, t2⟩ := top_lim hc
    exact ru_Round_ok f m b s t e _ _ _ _ _ u v fl w KC (box (fun w hT hT2 => kofExact f hf b n d s t e hs ht hc n0 ld _ _ rfl rfl _ _ _ rfl rfl rfl w hT hT2))
      (box (fun w hT hT2 => kdelivered f m hf hm b _ (by omega) (by omega) _ _ (fnd_x hf hc n0 ld).1 _ rfl _ rfl M fl hd u v hv w hT hT2)) hT hT2
theorem rRound_is (f m : Int) (hf : Is4 f) (hm : 0 ≤ m ∧ m ≤ 4) (b : Bool) (n d : Nat) (s t : ByteArray) (e : Int) (hs : nbA n = s) (ht : nbA d = t) (hc : (XN.mk b n d e).can) (ln : nl n ≤ 8192) (ld : nl d ≤ 8192) (M : Nat) (fl : Int) (hd : rnd f m ⟨b, n, d, e⟩ = (M, fl)) (u v : Nat) (hv : bv7 M = (u, v)) (w : World) :
    Calls Tryz.prog 23 #[.int .u8 f, .int .u8 m, .agg #[.bool b, .string s, .string t, .int .i64 e]] w fun r w' => r = .returned (.tuple #[.agg #[.int .u64 (u : Nat), .int .u64 (v : Nat)], .int .u8 fl, .int .i64 0]) ∧ Below w.heap.size w w' := by
  have KF : Box (∀ w, Calls Tryz.prog 68 #[.int .u8 f, .int .u8 m, .agg #[.bool b, .string s, .string t, .int .i64 e]] w fun r w' => r = .returned (.int .i64 0) ∧ Below w.heap.size w w') := box (fun w => rfault f m b s t e true (may_yes hs ht hc) 0 (flt_ok hf hm hs ht ln ld) w)
  unfold rnd at hd
  rcases x_cases hs ht hc with ⟨n0, rfl, rfl, rfl, rfl, rfl⟩ | ⟨n0, e0⟩
  · rw [if_pos n0] at hd
    injection hd with h1 h2
    subst h1 h2
    injection hv with h3 h4
    subst h3 h4
    exact rf_Round_null f m w KF
  · rw [if_neg n0] at hd
    obtain ⟨t1, t2⟩ := top_lim hc
    obtain ⟨q1, q2⟩ := fnd_x hf hc n0 ld
    exact rf_Round_ok f m b s t e u v fl w KF (box (fun w => rdeliver f m hf hm b n d s t e hs ht hc n0 false _ (by omega) (by omega) _ _ q1 q2 M fl hd u v hv w)) (eq_nil n s hs n0)
theorem fl_some (f m : Int) (x : XN) : ∃ M fl u v, rnd f m x = (M, fl) ∧ bv7 M = (u, v) := ⟨_, _, _, _, rfl, rfl⟩
theorem may_part {may : Bool} {b : Bool} {s t : ByteArray} {e : Int} (hm : IsM may b s t e) (h : may = true) : ∃ n d, nbA n = s ∧ nbA d = t ∧ (XN.mk b n d e).can := hm.1 h
theorem may_any (b : Bool) (s t : ByteArray) (e : Int) : ∃ may, IsM may b s t e := by
  by_cases h : MayX b s t e
  · exact ⟨true, fun _ => h, fun _ => rfl⟩
  · exact ⟨false, fun q => Bool.noConfusion q, fun q => absurd q h⟩
theorem both_round (f m : Int) (h0 : 0 ≤ f) (h1 : f ≤ 255) (m0 : 0 ≤ m) (b : Bool) (s t : ByteArray) (e : Int) : ∃ (u v : Nat) (fl c : Int), Box (∀ w, FAt w → TabAt w → Calls Tryz.prog 22 #[.int .u8 f, .int .u8 m, .agg #[.bool b, .string s, .string t, .int .i64 e]] w fun r w' => r = .returned (.tuple #[.agg #[.int .u64 (u : Nat), .int .u64 (v : Nat)], .int .u8 fl, .int .i64 c]) ∧ Below w.heap.size w w') ∧ Box (∀ w, Calls Tryz.prog 23 #[.int .u8 f, .int .u8 m, .agg #[.bool b, .string s, .string t, .int .i64 e]] w fun r w' => r = .returned (.tuple #[.agg #[.int .u64 (u : Nat), .int .u64 (v : Nat)], .int .u8 fl, .int .i64 c]) ∧ Below w.heap.size w w') ∧ IntKind.i64.wrap c = c := by
  obtain ⟨may, hm⟩ := may_any b s t e
  obtain ⟨c, hc⟩ : ∃ c, flt f m may s t = c := ⟨_, rfl⟩
  by_cases ok : c = 0
  · subst ok
    unfold flt at hc
    split at hc
    · rename_i q
      split at hc
      · exact absurd hc (by decide)
      · rename_i q2
        obtain ⟨n, d, hs, ht, hcan⟩ := may_part hm q.2.2
        obtain ⟨M, fl, u, v, hd, hv⟩ := fl_some f m ⟨b, n, d, e⟩
        have a : s.size = nl n := by rw [← hs, nbA_size]
        have g : t.size = nl d := by rw [← ht, nbA_size]
        have hf := is4_of h0 q.1
        exact ⟨u, v, fl, 0, box (fun w hT hT2 => kRound_is f m hf ⟨m0, q.2.1⟩ b n d s t e hs ht hcan (by omega) (by omega) M fl hd u v hv w hT hT2), box (fun w => rRound_is f m hf ⟨m0, q.2.1⟩ b n d s t e hs ht hcan (by omega) (by omega) M fl hd u v hv w), by decide⟩
    · exact absurd hc (by decide)
  · have hcn : (c != 0) = true := by simpa using ok
    have hw : IntKind.i64.wrap c = c := by
      unfold flt at hc
      refine wrap_i64_is _ ?_ ?_ <;> (split at hc <;> (try split at hc) <;> omega)
    exact ⟨0, 0, 0, c, box (fun w hT hT2 => ru_Round_err f m b s t e c w (box (fun w hT => kcheck f m h0 h1 b s t e may hm c hc w hT)) hcn hT hT2), box (fun w => rf_Round_err f m b s t e c w (box (fun w => rfault f m b s t e may hm c hc w)) hcn), hw⟩
end Go.Proofs.YtbmhfcppaajgbaaGreatDoor
namespace Go.Proofs.YtbmhfcppaajgbaaGreatDoor
set_option maxRecDepth 100000
open Go.RowKit WMath XMath
set_option linter.unusedSimpArgs false
set_option linter.unusedVariables false

theorem third_can : (XN.mk false 1 3 0).can := ⟨nl1, by decide +kernel, by decide, by decide, Or.inr ⟨rfl, rfl, by decide⟩⟩
theorem nb3 : nbA 3 = ⟨#[3]⟩ := by decide +kernel
theorem third_ev : rnd 2 0 ⟨false, 1, 3, 0⟩ = (13653, 1) := by decide +kernel
theorem third_up : rnd 2 3 ⟨false, 1, 3, 0⟩ = (13654, 1) := by decide +kernel
set_option maxRecDepth 100000 in
set_option maxHeartbeats 4000000 in
theorem r9alive (w : World) (hT : FAt w) (hT2 : TabAt w) : Calls Tryz.prog 21 #[] w fun r w' => r = .returned (.bool true) ∧ Below w.heap.size w w' := by
  have FF := box hT
  have TT := box hT2
  have K1 : Box (∀ w, FAt w → TabAt w → Calls Tryz.prog 22 #[.int .u8 2, .int .u8 0, .agg #[.bool false, .string ⟨#[1]⟩, .string ⟨#[3]⟩, .int .i64 0]] w fun r w' => r = .returned (.tuple #[.agg #[.int .u64 0, .int .u64 13653], .int .u8 1, .int .i64 0]) ∧ Below w.heap.size w w') := box (fun w hT hT2 => kRound_is 2 0 (by unfold Is4; omega) (by decide) false 1 3 _ _ 0 nb1 nb3 third_can (by decide +kernel) (by decide +kernel) _ _ third_ev 0 13653 rfl w hT hT2)
  have K2 : Box (∀ w, FAt w → TabAt w → Calls Tryz.prog 22 #[.int .u8 2, .int .u8 3, .agg #[.bool false, .string ⟨#[1]⟩, .string ⟨#[3]⟩, .int .i64 0]] w fun r w' => r = .returned (.tuple #[.agg #[.int .u64 0, .int .u64 13654], .int .u8 1, .int .i64 0]) ∧ Below w.heap.size w w') := box (fun w hT hT2 => kRound_is 2 3 (by unfold Is4; omega) (by decide) false 1 3 _ _ 0 nb1 nb3 third_can (by decide +kernel) (by decide +kernel) _ _ third_up 0 13654 rfl w hT hT2)
  clear hT hT2
  have B0 : Below w.heap.size w w := (Below.refl _ _)
  go_enter Tryz.func21, Tryz.ntmps21
  have S1 := box B0.size
  have Rt_1 := heap_alloc_last w (Obj.cells #[.bool false, .string ⟨#[1]⟩, .string ⟨#[3]⟩, .int .i64 0] 41)
  have B1 := btr B0 (bal w (Obj.cells #[.bool false, .string ⟨#[1]⟩, .string ⟨#[3]⟩, .int .i64 0] 41))
  clear B0 
  obtain ⟨ct_1_0, ct_1_1, ct_1_2, ct_1_3⟩ := cells4s Rt_1
  go_wp2_with fail
  refine (K1.out _ (fatB FF.out B1) (tabB TT.out B1)).mono ?_
  rintro r w2 ⟨rfl, b2⟩
  have B2 : Below w.heap.size w w2 := btr B1 b2
  have Rt_2 := heap_of b2 _ _ _ Rt_1
  clear b2 B1 Rt_1 ct_1_0 ct_1_1 ct_1_2 ct_1_3
  obtain ⟨ct_2_0, ct_2_1, ct_2_2, ct_2_3⟩ := cells4s Rt_2
  have S3 := box B2.size
  have Lt_3 : Box (w.heap.size < w2.heap.size) := box (Array.getElem?_eq_some_iff.1 Rt_2).1
  have Rb_3 := heap_alloc_last w2 (Obj.cells #[.int .u64 0, .int .u64 13653] 25)
  have B3 := btr B2 (bal w2 (Obj.cells #[.int .u64 0, .int .u64 13653] 25))
  have Rt_3 := heap_of (bal w2 (Obj.cells #[.int .u64 0, .int .u64 13653] 25)) _ _ _ Rt_2
  clear B2 Rt_2 ct_2_0 ct_2_1 ct_2_2 ct_2_3
  obtain ⟨ct_3_0, ct_3_1, ct_3_2, ct_3_3⟩ := cells4s Rt_3
  obtain ⟨cb_3_0, cb_3_1⟩ := cells2s Rb_3
  go_wp2_with fail
  refine (K2.out _ (fatB FF.out B3) (tabB TT.out B3)).mono ?_
  rintro r w4 ⟨rfl, b4⟩
  have B4 : Below w.heap.size w w4 := btr B3 b4
  have Rt_4 := heap_of b4 _ _ _ Rt_3
  have Rb_4 := heap_of b4 _ _ _ Rb_3
  clear b4 B3 Rt_3 ct_3_0 ct_3_1 ct_3_2 ct_3_3 Rb_3 cb_3_0 cb_3_1
  obtain ⟨ct_4_0, ct_4_1, ct_4_2, ct_4_3⟩ := cells4s Rt_4
  obtain ⟨cb_4_0, cb_4_1⟩ := cells2s Rb_4
  have S5 := box B4.size
  have Lt_5 : Box (w.heap.size < w4.heap.size) := box (Array.getElem?_eq_some_iff.1 Rt_4).1
  have Lb_5 : Box (w2.heap.size < w4.heap.size) := box (Array.getElem?_eq_some_iff.1 Rb_4).1
  have Rc_5 := heap_alloc_last w4 (Obj.cells #[.int .u64 0, .int .u64 13654] 25)
  have B5 := btr B4 (bal w4 (Obj.cells #[.int .u64 0, .int .u64 13654] 25))
  have Rt_5 := heap_of (bal w4 (Obj.cells #[.int .u64 0, .int .u64 13654] 25)) _ _ _ Rt_4
  have Rb_5 := heap_of (bal w4 (Obj.cells #[.int .u64 0, .int .u64 13654] 25)) _ _ _ Rb_4
  clear B4 Rt_4 ct_4_0 ct_4_1 ct_4_2 ct_4_3 Rb_4 cb_4_0 cb_4_1
  obtain ⟨ct_5_0, ct_5_1, ct_5_2, ct_5_3⟩ := cells4s Rt_5
  obtain ⟨cb_5_0, cb_5_1⟩ := cells2s Rb_5
  obtain ⟨cc_5_0, cc_5_1⟩ := cells2s Rc_5
  go_wp2
  go_ret
  exact ⟨rfl, B5⟩
end Go.Proofs.YtbmhfcppaajgbaaGreatDoor
namespace Go.Proofs.YtbmhfcppaajgbaaGreatDoor
set_option maxRecDepth 100000
open Go.RowKit WMath XMath
set_option linter.unusedSimpArgs false
set_option linter.unusedVariables false

theorem fnd_r {f : Int} (hf : Is4 f) {x : XN} (hx : x.can) (n0 : x.n ≠ 0) (hd : nl x.d ≤ 8192) : ∃ W more, Wok f W ∧ RtN f x W more ∧ Fnd f x true (topX x / 2) W more := by
  obtain ⟨t1, t2⟩ := top_lim hx
  obtain ⟨W, more, a, b⟩ := r_num hf x hx n0 hd t1 t2
  refine ⟨W, more, a, b, ?_⟩
  unfold Fnd
  rw [if_pos rfl]
  exact ⟨rfl, b⟩
/-- What is delivered of the root of a number. -/
def Rts (f m : Int) (x : XN) (M : Nat) (fl : Int) : Prop := if x.n = 0 then M = 0 ∧ fl = 0 else ∃ W more, Wok f W ∧ RtN f x W more ∧ dlv f m false (topX x / 2) W more = (M, fl)
theorem rts_some {f : Int} (hf : Is4 f) (m : Int) {x : XN} (hx : x.can) (hd : nl x.d ≤ 8192) : ∃ M fl, Rts f m x M fl := by
  unfold Rts
  by_cases n0 : x.n = 0
  · exact ⟨0, 0, by rw [if_pos n0]; exact ⟨rfl, rfl⟩⟩
  · obtain ⟨W, more, a, b, c⟩ := fnd_r hf hx n0 hd
    exact ⟨_, _, by rw [if_neg n0]; exact ⟨W, more, a, b, rfl⟩⟩
theorem kRoot_is (f m : Int) (hf : Is4 f) (hm : 0 ≤ m ∧ m ≤ 4) (n d : Nat) (s t : ByteArray) (e : Int) (hs : nbA n = s) (ht : nbA d = t) (hc : (XN.mk false n d e).can) (ln : nl n ≤ 8192) (ld : nl d ≤ 8192) (M : Nat) (fl : Int) (hd : Rts f m ⟨false, n, d, e⟩ M fl) (u v : Nat) (hv : bv7 M = (u, v)) (w : World) (hT : FAt w) (hT2 : TabAt w) :
    Calls Tryz.prog 24 #[.int .u8 f, .int .u8 m, .agg #[.bool false, .string s, .string t, .int .i64 e]] w fun r w' => r = .returned (.tuple #[.agg #[.int .u64 (u : Nat), .int .u64 (v : Nat)], .int .u8 fl, .int .i64 0]) ∧ Below w.heap.size w w' := by
  have f4 := is4_ok hf
  have KC : Box (∀ w, TabAt w → Calls Tryz.prog 65 #[.int .u8 f, .int .u8 m, .agg #[.bool false, .string s, .string t, .int .i64 e]] w fun r w' => r = .returned (.int .i64 0) ∧ Below w.heap.size w w') := box (fun w hT => kcheck f m f4.1 f4.2.1 false s t e true (may_yes hs ht hc) 0 (flt_ok hf hm hs ht ln ld) w hT)
  unfold Rts at hd
  rcases x_cases hs ht hc with ⟨n0, _, rfl, rfl, rfl, rfl⟩ | ⟨n0, e0⟩
  · rw [if_pos n0] at hd
    obtain ⟨rfl, rfl⟩ := hd
    injection hv with h3 h4
    subst h3 h4
    exact ru_Root_ok f m _ _ _ _ _ _ _ _ _ 0 0 0 w KC (box (fun w hT hT2 => kofRoot0 f hf _ rfl w hT hT2)) (box (fun w hT hT2 => kdelivered0 f m hf hm _ rfl w hT hT2)) rfl hT hT2
  · rw [if_neg n0] at hd
    obtain ⟨W, more, a, b, c⟩ := hd
    obtain ⟨t1, t2⟩ := top_lim hc
    exact ru_Root_ok f m false s t e _ _ _ _ _ u v fl w KC (box (fun w hT hT2 => kofRoot f hf false n d s t e hs ht hc n0 _ _ rfl rfl W _ more b rfl w hT hT2))
      (box (fun w hT hT2 => kdelivered f m hf hm false _ (by omega) (by omega) W more a _ rfl _ rfl M fl c u v hv w hT hT2)) rfl hT hT2
theorem rRoot_is (f m : Int) (hf : Is4 f) (hm : 0 ≤ m ∧ m ≤ 4) (n d : Nat) (s t : ByteArray) (e : Int) (hs : nbA n = s) (ht : nbA d = t) (hc : (XN.mk false n d e).can) (ln : nl n ≤ 8192) (ld : nl d ≤ 8192) (M : Nat) (fl : Int) (hd : Rts f m ⟨false, n, d, e⟩ M fl) (u v : Nat) (hv : bv7 M = (u, v)) (w : World) :
    Calls Tryz.prog 25 #[.int .u8 f, .int .u8 m, .agg #[.bool false, .string s, .string t, .int .i64 e]] w fun r w' => r = .returned (.tuple #[.agg #[.int .u64 (u : Nat), .int .u64 (v : Nat)], .int .u8 fl, .int .i64 0]) ∧ Below w.heap.size w w' := by
  have KF : Box (∀ w, Calls Tryz.prog 68 #[.int .u8 f, .int .u8 m, .agg #[.bool false, .string s, .string t, .int .i64 e]] w fun r w' => r = .returned (.int .i64 0) ∧ Below w.heap.size w w') := box (fun w => rfault f m false s t e true (may_yes hs ht hc) 0 (flt_ok hf hm hs ht ln ld) w)
  unfold Rts at hd
  rcases x_cases hs ht hc with ⟨n0, _, rfl, rfl, rfl, rfl⟩ | ⟨n0, e0⟩
  · rw [if_pos n0] at hd
    obtain ⟨rfl, rfl⟩ := hd
    injection hv with h3 h4
    subst h3 h4
    exact rf_Root_null f m w KF
  · rw [if_neg n0] at hd
    obtain ⟨W, more, a, b, c⟩ := hd
    obtain ⟨t1, t2⟩ := top_lim hc
    exact rf_Root_ok f m false s t e u v fl w KF (box (fun w => rdeliver f m hf hm false n d s t e hs ht hc n0 true _ (by omega) (by omega) W more a (by unfold Fnd; rw [if_pos rfl]; exact ⟨rfl, b⟩) M fl c u v hv w)) (eq_nil n s hs n0) rfl
theorem flt_two (f m : Int) (may : Bool) (s t : ByteArray) : flt f m may s t = 0 ∨ flt f m may s t = 2 ∨ flt f m may s t = 4 := by
  unfold flt
  split
  · split <;> simp
  · simp
theorem both_root (f m : Int) (h0 : 0 ≤ f) (h1 : f ≤ 255) (m0 : 0 ≤ m) (b : Bool) (s t : ByteArray) (e : Int) : ∃ (u v : Nat) (fl c : Int), Box (∀ w, FAt w → TabAt w → Calls Tryz.prog 24 #[.int .u8 f, .int .u8 m, .agg #[.bool b, .string s, .string t, .int .i64 e]] w fun r w' => r = .returned (.tuple #[.agg #[.int .u64 (u : Nat), .int .u64 (v : Nat)], .int .u8 fl, .int .i64 c]) ∧ Below w.heap.size w w') ∧ Box (∀ w, Calls Tryz.prog 25 #[.int .u8 f, .int .u8 m, .agg #[.bool b, .string s, .string t, .int .i64 e]] w fun r w' => r = .returned (.tuple #[.agg #[.int .u64 (u : Nat), .int .u64 (v : Nat)], .int .u8 fl, .int .i64 c]) ∧ Below w.heap.size w w') ∧ IntKind.i64.wrap c = c := by
  obtain ⟨may, hm⟩ := may_any b s t e
  obtain ⟨c, hc⟩ : ∃ c, flt f m may s t = c := ⟨_, rfl⟩
  have h3 := flt_two f m may s t
  rw [hc] at h3
  cases b
  · by_cases ok : c = 0
    · subst ok
      unfold flt at hc
      split at hc
      · rename_i q
        split at hc
        · exact absurd hc (by decide)
        · rename_i q2
          obtain ⟨n, d, hs, ht, hcan⟩ := may_part hm q.2.2
          have a : s.size = nl n := by rw [← hs, nbA_size]
          have g : t.size = nl d := by rw [← ht, nbA_size]
          have hf := is4_of h0 q.1
          obtain ⟨M, fl, hd⟩ := rts_some hf m hcan (by show nl d ≤ 8192; omega)
          exact ⟨_, _, fl, 0, box (fun w hT hT2 => kRoot_is f m hf ⟨m0, q.2.1⟩ n d s t e hs ht hcan (by omega) (by omega) M fl hd _ _ rfl w hT hT2), box (fun w => rRoot_is f m hf ⟨m0, q.2.1⟩ n d s t e hs ht hcan (by omega) (by omega) M fl hd _ _ rfl w), by decide⟩
      · exact absurd hc (by decide)
    · have hcn : (c != 0) = true := by simpa using ok
      exact ⟨0, 0, 0, c, box (fun w hT hT2 => ru_Root_err f m false s t e c w (box (fun w hT => kcheck f m h0 h1 false s t e may hm c hc w hT)) hcn rfl hT hT2), box (fun w => rf_Root_err f m false s t e c w (box (fun w => rfault f m false s t e may hm c hc w)) hcn rfl), wrap_i64_is _ (by omega) (by omega)⟩
  · refine ⟨0, 0, 0, 2, box (fun w hT hT2 => ru_Root_neg f m s t e w), ?_, by decide⟩
    have KF := box (fun w => rfault f m true s t e may hm c hc w)
    rcases h3 with rfl | rfl | rfl
    · unfold flt at hc
      split at hc
      · rename_i q
        obtain ⟨n, d, hs, ht, hcan⟩ := may_part hm q.2.2
        have n0 : n ≠ 0 := fun h => by
          rcases hcan.2.2.2.2 with ⟨q1, _⟩ | ⟨q1, _⟩
          · exact Bool.noConfusion (show true = false from q1)
          · have : n % 2 = 1 := q1
            omega
        exact box (fun w => rf_Root_neg0 f m s t e w KF (eq_nil n s hs n0))
      · exact absurd hc (by decide)
    · exact box (fun w => rf_Root_neg2 f m s t e w KF)
    · exact box (fun w => rf_Root_neg4 f m s t e w KF)
end Go.Proofs.YtbmhfcppaajgbaaGreatDoor
