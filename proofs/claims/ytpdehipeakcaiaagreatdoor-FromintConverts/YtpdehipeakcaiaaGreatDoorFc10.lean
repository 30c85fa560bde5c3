/-
  What the functions that the statement reaches return: part 10 (R8).
-/
import Derived.Deep.RegionHeld3
import Derived.Test.YtpdehipeakcaiaaGreatDoorFc09
namespace Go.Proofs.YtpdehipeakcaiaaGreatDoor
set_option maxRecDepth 100000
set_option maxHeartbeats 40000000
set_option maxRecDepth 100000
open Go.RowKit WMath XMath
set_option linter.unusedSimpArgs false
set_option linter.unusedVariables false
theorem rf_last (n : Nat) (s : ByteArray) (o : Bool) (hs : nbA n = s) (hl : nl n ≤ 16384) (ho : decide (n % 2 = 1) = o) (w : World) : Calls Tryz.prog 108 #[.string s] w fun r w' => r = .returned (.bool o) ∧ Below w.heap.size w w' := by
  by_cases h0 : n = 0
  · subst h0
    rw [nbA_zero] at hs
    subst hs
    have e : o = false := by rw [← ho]; rfl
    subst e
    clear ho hl
    have B0 : Below w.heap.size w w := (Below.refl _ _)
    go_enter Tryz.func108, Tryz.ntmps108
    go_wp2
    go_ret
    exact ⟨rfl, B0⟩
  · have d0 := eq_nil n s hs h0
    obtain ⟨L, hL⟩ : ∃ L, nl n = L := ⟨_, rfl⟩
    have hz : s.size = L := by rw [← hs, nbA_size, hL]
    have L0 : 0 < L := by rw [← hL]; exact nl_pos n h0
    have hk : L - 1 < s.size := by omega
    obtain ⟨x, hx⟩ : ∃ x, (s[L - 1]'hk).toNat = x := ⟨_, rfl⟩
    have hxd : n % 256 = x := by
      rw [← hx]
      subst hs
      rw [nbA_get, hL, show L - 1 - (L - 1) = 0 by omega]
      unfold d8
      rw [Nat.mul_zero, Nat.pow_zero, Nat.div_one]
    have x256 : x < 256 := by omega
    have hxr := idx_run s (L - 1) ((L : Int) - 1) x (by omega) hk hx
    have n1 : IntKind.i64.wrap ((L : Int) - 1) = (L : Int) - 1 := wrap_i64_is _ (by omega) (by omega)
    have ha := and1 x x256
    obtain ⟨y, hy⟩ : ∃ y, x % 2 = y := ⟨_, rfl⟩
    rw [hy] at ha
    have hc : ((y : Int) == 1) = o := by
      rw [← ho, Bool.eq_iff_iff, beq_iff_eq, decide_eq_true_iff]
      omega
    have hc2 : decide (y = 1) = o := by
      rw [← ho, Bool.eq_iff_iff, decide_eq_true_iff, decide_eq_true_iff]
      omega
    clear hs hL hx hxd hy ho
    have B0 : Below w.heap.size w w := (Below.refl _ _)
    go_enter Tryz.func108, Tryz.ntmps108
    go_wp2
    go_ret
    exact ⟨rfl, B0⟩
set_option maxRecDepth 100000 in
set_option maxHeartbeats 4000000 in
theorem rf_find_ex (b : Bool) (s t : ByteArray) (e A A2 A3 e1 e2 : Int) (n1 m fi n2 q1 q2 : ByteArray) (w : World)
    (K1 : Box (∀ w, Calls Tryz.prog 107 #[.agg #[.bool b, .string s, .string t, .int .i64 e], .int .i64 A] w fun r w' => r = .returned (.tuple #[.string m, .bool true, .int .i64 e1]) ∧ Below w.heap.size w w'))
    : Calls Tryz.prog 79 #[.agg #[.bool b, .string s, .string t, .int .i64 e], .bool false, .int .i64 A] w fun r w' => r = .returned (.agg #[.string m, .int .i64 A, .int .i64 (-1), .bool true]) ∧ Below w.heap.size w w' := by
  obtain ⟨Rx_0, Rz_0, Ro_0, B0⟩ := opn3 w (Obj.cells #[.bool b, .string s, .string t, .int .i64 e] 50) (Obj.cells #[.string ⟨#[]⟩, .int .i64 0, .int .i64 0, .bool false] 118) (Obj.cells #[.string ⟨#[]⟩, .int .i64 A, .int .i64 (-1), .bool false] 118)
  go_enter Tryz.func79, Tryz.ntmps79
  go_wp2_with fail
  refine (K1.out _).mono ?_
  rintro r w1 ⟨rfl, b1⟩
  have B1 : Below w.heap.size w w1 := btr B0 b1
  have Rx_1 := heap_of b1 _ _ _ Rx_0
  have Rz_1 := heap_of b1 _ _ _ Rz_0
  have Ro_1 := heap_of b1 _ _ _ Ro_0
  clear b1 B0 Rx_0 Rz_0 Ro_0
  obtain ⟨cx_1_0, cx_1_1, cx_1_2, cx_1_3⟩ := cells4s Rx_1
  obtain ⟨cz_1_0, cz_1_1, cz_1_2, cz_1_3⟩ := cells4s Rz_1
  obtain ⟨co_1_0, co_1_1, co_1_2, co_1_3⟩ := cells4s Ro_1
  have qo_1 := fz (k := 0) Ro_1
  have B2 : Below w.heap.size w (w1.setCell ⟨w.heap.size + 1 + 1, 0, none⟩ (.string m)) := B1.setCell (by first | exact Nat.le_refl _ | (skip; show w.heap.size ≤ w.heap.size + 1 + 1; omega)) _
  have Ro_2 : (w1.setCell ⟨w.heap.size + 1 + 1, 0, none⟩ (.string m)).heap[w.heap.size + 1 + 1]? = some (Obj.cells #[.string m, .int .i64 A, .int .i64 (-1), .bool false] 118) := by rw [setCell_row Ro_1]; rfl
  have Rx_2 : (w1.setCell ⟨w.heap.size + 1 + 1, 0, none⟩ (.string m)).heap[w.heap.size]? = some (Obj.cells #[.bool b, .string s, .string t, .int .i64 e] 50) := by rw [setCell_other (by first | omega | (skip; omega))]; exact Rx_1
  have Rz_2 : (w1.setCell ⟨w.heap.size + 1 + 1, 0, none⟩ (.string m)).heap[w.heap.size + 1]? = some (Obj.cells #[.string ⟨#[]⟩, .int .i64 0, .int .i64 0, .bool false] 118) := by rw [setCell_other (by first | omega | (skip; omega))]; exact Rz_1
  obtain ⟨cx_2_0, cx_2_1, cx_2_2, cx_2_3⟩ := cells4s Rx_2
  obtain ⟨cz_2_0, cz_2_1, cz_2_2, cz_2_3⟩ := cells4s Rz_2
  obtain ⟨co_2_0, co_2_1, co_2_2, co_2_3⟩ := cells4s Ro_2
  have qo_2 := fz (k := 3) Ro_2
  have B3 : Below w.heap.size w ((w1.setCell ⟨w.heap.size + 1 + 1, 0, none⟩ (.string m)).setCell ⟨w.heap.size + 1 + 1, 3, none⟩ (.bool true)) := B2.setCell (by first | exact Nat.le_refl _ | (skip; show w.heap.size ≤ w.heap.size + 1 + 1; omega)) _
  have Ro_3 : ((w1.setCell ⟨w.heap.size + 1 + 1, 0, none⟩ (.string m)).setCell ⟨w.heap.size + 1 + 1, 3, none⟩ (.bool true)).heap[w.heap.size + 1 + 1]? = some (Obj.cells #[.string m, .int .i64 A, .int .i64 (-1), .bool true] 118) := by rw [setCell_row Ro_2]; rfl
  have Rx_3 : ((w1.setCell ⟨w.heap.size + 1 + 1, 0, none⟩ (.string m)).setCell ⟨w.heap.size + 1 + 1, 3, none⟩ (.bool true)).heap[w.heap.size]? = some (Obj.cells #[.bool b, .string s, .string t, .int .i64 e] 50) := by rw [setCell_other (by first | omega | (skip; omega))]; exact Rx_2
  have Rz_3 : ((w1.setCell ⟨w.heap.size + 1 + 1, 0, none⟩ (.string m)).setCell ⟨w.heap.size + 1 + 1, 3, none⟩ (.bool true)).heap[w.heap.size + 1]? = some (Obj.cells #[.string ⟨#[]⟩, .int .i64 0, .int .i64 0, .bool false] 118) := by rw [setCell_other (by first | omega | (skip; omega))]; exact Rz_2
  obtain ⟨cx_3_0, cx_3_1, cx_3_2, cx_3_3⟩ := cells4s Rx_3
  obtain ⟨cz_3_0, cz_3_1, cz_3_2, cz_3_3⟩ := cells4s Rz_3
  obtain ⟨co_3_0, co_3_1, co_3_2, co_3_3⟩ := cells4s Ro_3
  have q0 := fz (k := 0) Rz_3
  have q1 := fz (k := 1) Rz_3
  have q2 := fz (k := 2) Rz_3
  have q3 := fz (k := 3) Rz_3
  obtain ⟨E0, E1, E2, E3⟩ := set4_cells Rz_3 rfl (.string m) (.int .i64 A) (.int .i64 (-1)) (.bool true)
  go_wp2
  exact bodyPost_ret (v := .agg #[.string m, .int .i64 A, .int .i64 (-1), .bool true]) (by simp [results, Tryz.results79, go_sem, E0, E1, E2, E3]) rfl ⟨rfl, set4_below B3 (by first | exact Nat.le_refl _ | omega | (skip; omega)) _ _ _ _⟩
set_option maxRecDepth 100000 in
set_option maxHeartbeats 4000000 in
theorem rf_find_lo1 (b : Bool) (s t : ByteArray) (e A A2 A3 e1 e2 : Int) (n1 m fi n2 q1 q2 : ByteArray) (w : World)
    (K1 : Box (∀ w, Calls Tryz.prog 107 #[.agg #[.bool b, .string s, .string t, .int .i64 e], .int .i64 A] w fun r w' => r = .returned (.tuple #[.string m, .bool false, .int .i64 e1]) ∧ Below w.heap.size w w'))
    (K2 : Box (∀ w, Calls Tryz.prog 107 #[.agg #[.bool b, .string s, .string t, .int .i64 e], .int .i64 A2] w fun r w' => r = .returned (.tuple #[.string fi, .bool false, .int .i64 e2]) ∧ Below w.heap.size w w'))
    (KL : Box (∀ w, Calls Tryz.prog 108 #[.string fi] w fun r w' => r = .returned (.bool false) ∧ Below w.heap.size w w'))
    (h1 : IntKind.i64.wrap (A - 1) = A2)
    : Calls Tryz.prog 79 #[.agg #[.bool b, .string s, .string t, .int .i64 e], .bool false, .int .i64 A] w fun r w' => r = .returned (.agg #[.string m, .int .i64 A, .int .i64 (-1), .bool false]) ∧ Below w.heap.size w w' := by
  obtain ⟨Rx_0, Rz_0, Ro_0, B0⟩ := opn3 w (Obj.cells #[.bool b, .string s, .string t, .int .i64 e] 50) (Obj.cells #[.string ⟨#[]⟩, .int .i64 0, .int .i64 0, .bool false] 118) (Obj.cells #[.string ⟨#[]⟩, .int .i64 A, .int .i64 (-1), .bool false] 118)
  go_enter Tryz.func79, Tryz.ntmps79
  go_wp2_with fail
  refine (K1.out _).mono ?_
  rintro r w1 ⟨rfl, b1⟩
  have B1 : Below w.heap.size w w1 := btr B0 b1
  have Rx_1 := heap_of b1 _ _ _ Rx_0
  have Rz_1 := heap_of b1 _ _ _ Rz_0
  have Ro_1 := heap_of b1 _ _ _ Ro_0
  clear b1 B0 Rx_0 Rz_0 Ro_0
  obtain ⟨cx_1_0, cx_1_1, cx_1_2, cx_1_3⟩ := cells4s Rx_1
  obtain ⟨cz_1_0, cz_1_1, cz_1_2, cz_1_3⟩ := cells4s Rz_1
  obtain ⟨co_1_0, co_1_1, co_1_2, co_1_3⟩ := cells4s Ro_1
  have qo_1 := fz (k := 0) Ro_1
  have B2 : Below w.heap.size w (w1.setCell ⟨w.heap.size + 1 + 1, 0, none⟩ (.string m)) := B1.setCell (by first | exact Nat.le_refl _ | (skip; show w.heap.size ≤ w.heap.size + 1 + 1; omega)) _
  have Ro_2 : (w1.setCell ⟨w.heap.size + 1 + 1, 0, none⟩ (.string m)).heap[w.heap.size + 1 + 1]? = some (Obj.cells #[.string m, .int .i64 A, .int .i64 (-1), .bool false] 118) := by rw [setCell_row Ro_1]; rfl
  have Rx_2 : (w1.setCell ⟨w.heap.size + 1 + 1, 0, none⟩ (.string m)).heap[w.heap.size]? = some (Obj.cells #[.bool b, .string s, .string t, .int .i64 e] 50) := by rw [setCell_other (by first | omega | (skip; omega))]; exact Rx_1
  have Rz_2 : (w1.setCell ⟨w.heap.size + 1 + 1, 0, none⟩ (.string m)).heap[w.heap.size + 1]? = some (Obj.cells #[.string ⟨#[]⟩, .int .i64 0, .int .i64 0, .bool false] 118) := by rw [setCell_other (by first | omega | (skip; omega))]; exact Rz_1
  obtain ⟨cx_2_0, cx_2_1, cx_2_2, cx_2_3⟩ := cells4s Rx_2
  obtain ⟨cz_2_0, cz_2_1, cz_2_2, cz_2_3⟩ := cells4s Rz_2
  obtain ⟨co_2_0, co_2_1, co_2_2, co_2_3⟩ := cells4s Ro_2
  have qo_2 := fz (k := 3) Ro_2
  have B3 : Below w.heap.size w ((w1.setCell ⟨w.heap.size + 1 + 1, 0, none⟩ (.string m)).setCell ⟨w.heap.size + 1 + 1, 3, none⟩ (.bool false)) := B2.setCell (by first | exact Nat.le_refl _ | (skip; show w.heap.size ≤ w.heap.size + 1 + 1; omega)) _
  have Ro_3 : ((w1.setCell ⟨w.heap.size + 1 + 1, 0, none⟩ (.string m)).setCell ⟨w.heap.size + 1 + 1, 3, none⟩ (.bool false)).heap[w.heap.size + 1 + 1]? = some (Obj.cells #[.string m, .int .i64 A, .int .i64 (-1), .bool false] 118) := by rw [setCell_row Ro_2]; rfl
  have Rx_3 : ((w1.setCell ⟨w.heap.size + 1 + 1, 0, none⟩ (.string m)).setCell ⟨w.heap.size + 1 + 1, 3, none⟩ (.bool false)).heap[w.heap.size]? = some (Obj.cells #[.bool b, .string s, .string t, .int .i64 e] 50) := by rw [setCell_other (by first | omega | (skip; omega))]; exact Rx_2
  have Rz_3 : ((w1.setCell ⟨w.heap.size + 1 + 1, 0, none⟩ (.string m)).setCell ⟨w.heap.size + 1 + 1, 3, none⟩ (.bool false)).heap[w.heap.size + 1]? = some (Obj.cells #[.string ⟨#[]⟩, .int .i64 0, .int .i64 0, .bool false] 118) := by rw [setCell_other (by first | omega | (skip; omega))]; exact Rz_2
  obtain ⟨cx_3_0, cx_3_1, cx_3_2, cx_3_3⟩ := cells4s Rx_3
  obtain ⟨cz_3_0, cz_3_1, cz_3_2, cz_3_3⟩ := cells4s Rz_3
  obtain ⟨co_3_0, co_3_1, co_3_2, co_3_3⟩ := cells4s Ro_3
  go_wp2_with fail
  refine (K2.out _).mono ?_
  rintro r w4 ⟨rfl, b4⟩
  have B4 : Below w.heap.size w w4 := btr B3 b4
  have Rx_4 := heap_of b4 _ _ _ Rx_3
  have Rz_4 := heap_of b4 _ _ _ Rz_3
  have Ro_4 := heap_of b4 _ _ _ Ro_3
  clear b4 B3 Rx_3 cx_3_0 cx_3_1 cx_3_2 cx_3_3 Rz_3 cz_3_0 cz_3_1 cz_3_2 cz_3_3 Ro_3 co_3_0 co_3_1 co_3_2 co_3_3
  obtain ⟨cx_4_0, cx_4_1, cx_4_2, cx_4_3⟩ := cells4s Rx_4
  obtain ⟨cz_4_0, cz_4_1, cz_4_2, cz_4_3⟩ := cells4s Rz_4
  obtain ⟨co_4_0, co_4_1, co_4_2, co_4_3⟩ := cells4s Ro_4
  go_wp2_with fail
  refine (KL.out _).mono ?_
  rintro r w5 ⟨rfl, b5⟩
  have B5 : Below w.heap.size w w5 := btr B4 b5
  have Rx_5 := heap_of b5 _ _ _ Rx_4
  have Rz_5 := heap_of b5 _ _ _ Rz_4
  have Ro_5 := heap_of b5 _ _ _ Ro_4
  clear b5 B4 Rx_4 cx_4_0 cx_4_1 cx_4_2 cx_4_3 Rz_4 cz_4_0 cz_4_1 cz_4_2 cz_4_3 Ro_4 co_4_0 co_4_1 co_4_2 co_4_3
  obtain ⟨cx_5_0, cx_5_1, cx_5_2, cx_5_3⟩ := cells4s Rx_5
  obtain ⟨cz_5_0, cz_5_1, cz_5_2, cz_5_3⟩ := cells4s Rz_5
  obtain ⟨co_5_0, co_5_1, co_5_2, co_5_3⟩ := cells4s Ro_5
  have q0 := fz (k := 0) Rz_5
  have q1 := fz (k := 1) Rz_5
  have q2 := fz (k := 2) Rz_5
  have q3 := fz (k := 3) Rz_5
  obtain ⟨E0, E1, E2, E3⟩ := set4_cells Rz_5 rfl (.string m) (.int .i64 A) (.int .i64 (-1)) (.bool false)
  go_wp2
  exact bodyPost_ret (v := .agg #[.string m, .int .i64 A, .int .i64 (-1), .bool false]) (by simp [results, Tryz.results79, go_sem, E0, E1, E2, E3]) rfl ⟨rfl, set4_below B5 (by first | exact Nat.le_refl _ | omega | (skip; omega)) _ _ _ _⟩
set_option maxRecDepth 100000 in
set_option maxHeartbeats 4000000 in
theorem rf_find_half (b : Bool) (s t : ByteArray) (e A A2 A3 e1 e2 : Int) (n1 m fi n2 q1 q2 : ByteArray) (w : World)
    (K1 : Box (∀ w, Calls Tryz.prog 107 #[.agg #[.bool b, .string s, .string t, .int .i64 e], .int .i64 A] w fun r w' => r = .returned (.tuple #[.string m, .bool false, .int .i64 e1]) ∧ Below w.heap.size w w'))
    (K2 : Box (∀ w, Calls Tryz.prog 107 #[.agg #[.bool b, .string s, .string t, .int .i64 e], .int .i64 A2] w fun r w' => r = .returned (.tuple #[.string fi, .bool true, .int .i64 e2]) ∧ Below w.heap.size w w'))
    (KL : Box (∀ w, Calls Tryz.prog 108 #[.string fi] w fun r w' => r = .returned (.bool true) ∧ Below w.heap.size w w'))
    (h1 : IntKind.i64.wrap (A - 1) = A2)
    : Calls Tryz.prog 79 #[.agg #[.bool b, .string s, .string t, .int .i64 e], .bool false, .int .i64 A] w fun r w' => r = .returned (.agg #[.string m, .int .i64 A, .int .i64 0, .bool false]) ∧ Below w.heap.size w w' := by
  obtain ⟨Rx_0, Rz_0, Ro_0, B0⟩ := opn3 w (Obj.cells #[.bool b, .string s, .string t, .int .i64 e] 50) (Obj.cells #[.string ⟨#[]⟩, .int .i64 0, .int .i64 0, .bool false] 118) (Obj.cells #[.string ⟨#[]⟩, .int .i64 A, .int .i64 (-1), .bool false] 118)
  go_enter Tryz.func79, Tryz.ntmps79
  go_wp2_with fail
  refine (K1.out _).mono ?_
  rintro r w1 ⟨rfl, b1⟩
  have B1 : Below w.heap.size w w1 := btr B0 b1
  have Rx_1 := heap_of b1 _ _ _ Rx_0
  have Rz_1 := heap_of b1 _ _ _ Rz_0
  have Ro_1 := heap_of b1 _ _ _ Ro_0
  clear b1 B0 Rx_0 Rz_0 Ro_0
  obtain ⟨cx_1_0, cx_1_1, cx_1_2, cx_1_3⟩ := cells4s Rx_1
  obtain ⟨cz_1_0, cz_1_1, cz_1_2, cz_1_3⟩ := cells4s Rz_1
  obtain ⟨co_1_0, co_1_1, co_1_2, co_1_3⟩ := cells4s Ro_1
  have qo_1 := fz (k := 0) Ro_1
  have B2 : Below w.heap.size w (w1.setCell ⟨w.heap.size + 1 + 1, 0, none⟩ (.string m)) := B1.setCell (by first | exact Nat.le_refl _ | (skip; show w.heap.size ≤ w.heap.size + 1 + 1; omega)) _
  have Ro_2 : (w1.setCell ⟨w.heap.size + 1 + 1, 0, none⟩ (.string m)).heap[w.heap.size + 1 + 1]? = some (Obj.cells #[.string m, .int .i64 A, .int .i64 (-1), .bool false] 118) := by rw [setCell_row Ro_1]; rfl
  have Rx_2 : (w1.setCell ⟨w.heap.size + 1 + 1, 0, none⟩ (.string m)).heap[w.heap.size]? = some (Obj.cells #[.bool b, .string s, .string t, .int .i64 e] 50) := by rw [setCell_other (by first | omega | (skip; omega))]; exact Rx_1
  have Rz_2 : (w1.setCell ⟨w.heap.size + 1 + 1, 0, none⟩ (.string m)).heap[w.heap.size + 1]? = some (Obj.cells #[.string ⟨#[]⟩, .int .i64 0, .int .i64 0, .bool false] 118) := by rw [setCell_other (by first | omega | (skip; omega))]; exact Rz_1
  obtain ⟨cx_2_0, cx_2_1, cx_2_2, cx_2_3⟩ := cells4s Rx_2
  obtain ⟨cz_2_0, cz_2_1, cz_2_2, cz_2_3⟩ := cells4s Rz_2
  obtain ⟨co_2_0, co_2_1, co_2_2, co_2_3⟩ := cells4s Ro_2
  have qo_2 := fz (k := 3) Ro_2
  have B3 : Below w.heap.size w ((w1.setCell ⟨w.heap.size + 1 + 1, 0, none⟩ (.string m)).setCell ⟨w.heap.size + 1 + 1, 3, none⟩ (.bool false)) := B2.setCell (by first | exact Nat.le_refl _ | (skip; show w.heap.size ≤ w.heap.size + 1 + 1; omega)) _
  have Ro_3 : ((w1.setCell ⟨w.heap.size + 1 + 1, 0, none⟩ (.string m)).setCell ⟨w.heap.size + 1 + 1, 3, none⟩ (.bool false)).heap[w.heap.size + 1 + 1]? = some (Obj.cells #[.string m, .int .i64 A, .int .i64 (-1), .bool false] 118) := by rw [setCell_row Ro_2]; rfl
  have Rx_3 : ((w1.setCell ⟨w.heap.size + 1 + 1, 0, none⟩ (.string m)).setCell ⟨w.heap.size + 1 + 1, 3, none⟩ (.bool false)).heap[w.heap.size]? = some (Obj.cells #[.bool b, .string s, .string t, .int .i64 e] 50) := by rw [setCell_other (by first | omega | (skip; omega))]; exact Rx_2
  have Rz_3 : ((w1.setCell ⟨w.heap.size + 1 + 1, 0, none⟩ (.string m)).setCell ⟨w.heap.size + 1 + 1, 3, none⟩ (.bool false)).heap[w.heap.size + 1]? = some (Obj.cells #[.string ⟨#[]⟩, .int .i64 0, .int .i64 0, .bool false] 118) := by rw [setCell_other (by first | omega | (skip; omega))]; exact Rz_2
  obtain ⟨cx_3_0, cx_3_1, cx_3_2, cx_3_3⟩ := cells4s Rx_3
  obtain ⟨cz_3_0, cz_3_1, cz_3_2, cz_3_3⟩ := cells4s Rz_3
  obtain ⟨co_3_0, co_3_1, co_3_2, co_3_3⟩ := cells4s Ro_3
  go_wp2_with fail
  refine (K2.out _).mono ?_
  rintro r w4 ⟨rfl, b4⟩
  have B4 : Below w.heap.size w w4 := btr B3 b4
  have Rx_4 := heap_of b4 _ _ _ Rx_3
  have Rz_4 := heap_of b4 _ _ _ Rz_3
  have Ro_4 := heap_of b4 _ _ _ Ro_3
  clear b4 B3 Rx_3 cx_3_0 cx_3_1 cx_3_2 cx_3_3 Rz_3 cz_3_0 cz_3_1 cz_3_2 cz_3_3 Ro_3 co_3_0 co_3_1 co_3_2 co_3_3
  obtain ⟨cx_4_0, cx_4_1, cx_4_2, cx_4_3⟩ := cells4s Rx_4
  obtain ⟨cz_4_0, cz_4_1, cz_4_2, cz_4_3⟩ := cells4s Rz_4
  obtain ⟨co_4_0, co_4_1, co_4_2, co_4_3⟩ := cells4s Ro_4
  go_wp2_with fail
  refine (KL.out _).mono ?_
  rintro r w5 ⟨rfl, b5⟩
  have B5 : Below w.heap.size w w5 := btr B4 b5
  have Rx_5 := heap_of b5 _ _ _ Rx_4
  have Rz_5 := heap_of b5 _ _ _ Rz_4
  have Ro_5 := heap_of b5 _ _ _ Ro_4
  clear b5 B4 Rx_4 cx_4_0 cx_4_1 cx_4_2 cx_4_3 Rz_4 cz_4_0 cz_4_1 cz_4_2 cz_4_3 Ro_4 co_4_0 co_4_1 co_4_2 co_4_3
  obtain ⟨cx_5_0, cx_5_1, cx_5_2, cx_5_3⟩ := cells4s Rx_5
  obtain ⟨cz_5_0, cz_5_1, cz_5_2, cz_5_3⟩ := cells4s Rz_5
  obtain ⟨co_5_0, co_5_1, co_5_2, co_5_3⟩ := cells4s Ro_5
  have qo_5 := fz (k := 2) Ro_5
  have B6 : Below w.heap.size w (w5.setCell ⟨w.heap.size + 1 + 1, 2, none⟩ (.int .i64 1)) := B5.setCell (by first | exact Nat.le_refl _ | (skip; show w.heap.size ≤ w.heap.size + 1 + 1; omega)) _
  have Ro_6 : (w5.setCell ⟨w.heap.size + 1 + 1, 2, none⟩ (.int .i64 1)).heap[w.heap.size + 1 + 1]? = some (Obj.cells #[.string m, .int .i64 A, .int .i64 1, .bool false] 118) := by rw [setCell_row Ro_5]; rfl
  have Rx_6 : (w5.setCell ⟨w.heap.size + 1 + 1, 2, none⟩ (.int .i64 1)).heap[w.heap.size]? = some (Obj.cells #[.bool b, .string s, .string t, .int .i64 e] 50) := by rw [setCell_other (by first | omega | (skip; omega))]; exact Rx_5
  have Rz_6 : (w5.setCell ⟨w.heap.size + 1 + 1, 2, none⟩ (.int .i64 1)).heap[w.heap.size + 1]? = some (Obj.cells #[.string ⟨#[]⟩, .int .i64 0, .int .i64 0, .bool false] 118) := by rw [setCell_other (by first | omega | (skip; omega))]; exact Rz_5
  obtain ⟨cx_6_0, cx_6_1, cx_6_2, cx_6_3⟩ := cells4s Rx_6
  obtain ⟨cz_6_0, cz_6_1, cz_6_2, cz_6_3⟩ := cells4s Rz_6
  obtain ⟨co_6_0, co_6_1, co_6_2, co_6_3⟩ := cells4s Ro_6
  have qo_6 := fz (k := 2) Ro_6
  have B7 : Below w.heap.size w ((w5.setCell ⟨w.heap.size + 1 + 1, 2, none⟩ (.int .i64 1)).setCell ⟨w.heap.size + 1 + 1, 2, none⟩ (.int .i64 0)) := B6.setCell (by first | exact Nat.le_refl _ | (skip; show w.heap.size ≤ w.heap.size + 1 + 1; omega)) _
  have Ro_7 : ((w5.setCell ⟨w.heap.size + 1 + 1, 2, none⟩ (.int .i64 1)).setCell ⟨w.heap.size + 1 + 1, 2, none⟩ (.int .i64 0)).heap[w.heap.size + 1 + 1]? = some (Obj.cells #[.string m, .int .i64 A, .int .i64 0, .bool false] 118) := by rw [setCell_row Ro_6]; rfl
  have Rx_7 : ((w5.setCell ⟨w.heap.size + 1 + 1, 2, none⟩ (.int .i64 1)).setCell ⟨w.heap.size + 1 + 1, 2, none⟩ (.int .i64 0)).heap[w.heap.size]? = some (Obj.cells #[.bool b, .string s, .string t, .int .i64 e] 50) := by rw [setCell_other (by first | omega | (skip; omega))]; exact Rx_6
  have Rz_7 : ((w5.setCell ⟨w.heap.size + 1 + 1, 2, none⟩ (.int .i64 1)).setCell ⟨w.heap.size + 1 + 1, 2, none⟩ (.int .i64 0)).heap[w.heap.size + 1]? = some (Obj.cells #[.string ⟨#[]⟩, .int .i64 0, .int .i64 0, .bool false] 118) := by rw [setCell_other (by first | omega | (skip; omega))]; exact Rz_6
  obtain ⟨cx_7_0, cx_7_1, cx_7_2, cx_7_3⟩ := cells4s Rx_7
  obtain ⟨cz_7_0, cz_7_1, cz_7_2, cz_7_3⟩ := cells4s Rz_7
  obtain ⟨co_7_0, co_7_1, co_7_2, co_7_3⟩ := cells4s Ro_7
  have q0 := fz (k := 0) Rz_7
  have q1 := fz (k := 1) Rz_7
  have q2 := fz (k := 2) Rz_7
  have q3 := fz (k := 3) Rz_7
  obtain ⟨E0, E1, E2, E3⟩ := set4_cells Rz_7 rfl (.string m) (.int .i64 A) (.int .i64 0) (.bool false)
  go_wp2
  exact bodyPost_ret (v := .agg #[.string m, .int .i64 A, .int .i64 0, .bool false]) (by simp [results, Tryz.results79, go_sem, E0, E1, E2, E3]) rfl ⟨rfl, set4_below B7 (by first | exact Nat.le_refl _ | omega | (skip; omega)) _ _ _ _⟩
set_option maxRecDepth 100000 in
set_option maxHeartbeats 4000000 in
theorem rf_find_hi (b : Bool) (s t : ByteArray) (e A A2 A3 e1 e2 : Int) (n1 m fi n2 q1 q2 : ByteArray) (w : World)
    (K1 : Box (∀ w, Calls Tryz.prog 107 #[.agg #[.bool b, .string s, .string t, .int .i64 e], .int .i64 A] w fun r w' => r = .returned (.tuple #[.string m, .bool false, .int .i64 e1]) ∧ Below w.heap.size w w'))
    (K2 : Box (∀ w, Calls Tryz.prog 107 #[.agg #[.bool b, .string s, .string t, .int .i64 e], .int .i64 A2] w fun r w' => r = .returned (.tuple #[.string fi, .bool false, .int .i64 e2]) ∧ Below w.heap.size w w'))
    (KL : Box (∀ w, Calls Tryz.prog 108 #[.string fi] w fun r w' => r = .returned (.bool true) ∧ Below w.heap.size w w'))
    (h1 : IntKind.i64.wrap (A - 1) = A2)
    : Calls Tryz.prog 79 #[.agg #[.bool b, .string s, .string t, .int .i64 e], .bool false, .int .i64 A] w fun r w' => r = .returned (.agg #[.string m, .int .i64 A, .int .i64 1, .bool false]) ∧ Below w.heap.size w w' := by
  obtain ⟨Rx_0, Rz_0, Ro_0, B0⟩ := opn3 w (Obj.cells #[.bool b, .string s, .string t, .int .i64 e] 50) (Obj.cells #[.string ⟨#[]⟩, .int .i64 0, .int .i64 0, .bool false] 118) (Obj.cells #[.string ⟨#[]⟩, .int .i64 A, .int .i64 (-1), .bool false] 118)
  go_enter Tryz.func79, Tryz.ntmps79
  go_wp2_with fail
  refine (K1.out _).mono ?_
  rintro r w1 ⟨rfl, b1⟩
  have B1 : Below w.heap.size w w1 := btr B0 b1
  have Rx_1 := heap_of b1 _ _ _ Rx_0
  have Rz_1 := heap_of b1 _ _ _ Rz_0
  have Ro_1 := heap_of b1 _ _ _ Ro_0
  clear b1 B0 Rx_0 Rz_0 Ro_0
  obtain ⟨cx_1_0, cx_1_1, cx_1_2, cx_1_3⟩ := cells4s Rx_1
  obtain ⟨cz_1_0, cz_1_1, cz_1_2, cz_1_3⟩ := cells4s Rz_1
  obtain ⟨co_1_0, co_1_1, co_1_2, co_1_3⟩ := cells4s Ro_1
  have qo_1 := fz (k := 0) Ro_1
  have B2 : Below w.heap.size w (w1.setCell ⟨w.heap.size + 1 + 1, 0, none⟩ (.string m)) := B1.setCell (by first | exact Nat.le_refl _ | (skip; show w.heap.size ≤ w.heap.size + 1 + 1; omega)) _
  have Ro_2 : (w1.setCell ⟨w.heap.size + 1 + 1, 0, none⟩ (.string m)).heap[w.heap.size + 1 + 1]? = some (Obj.cells #[.string m, .int .i64 A, .int .i64 (-1), .bool false] 118) := by rw [setCell_row Ro_1]; rfl
  have Rx_2 : (w1.setCell ⟨w.heap.size + 1 + 1, 0, none⟩ (.string m)).heap[w.heap.size]? = some (Obj.cells #[.bool b, .string s, .string t, .int .i64 e] 50) := by rw [setCell_other (by first | omega | (skip; omega))]; exact Rx_1
  have Rz_2 : (w1.setCell ⟨w.heap.size + 1 + 1, 0, none⟩ (.string m)).heap[w.heap.size + 1]? = some (Obj.cells #[.string ⟨#[]⟩, .int .i64 0, .int .i64 0, .bool false] 118) := by rw [setCell_other (by first | omega | (skip; omega))]; exact Rz_1
  obtain ⟨cx_2_0, cx_2_1, cx_2_2, cx_2_3⟩ := cells4s Rx_2
  obtain ⟨cz_2_0, cz_2_1, cz_2_2, cz_2_3⟩ := cells4s Rz_2
  obtain ⟨co_2_0, co_2_1, co_2_2, co_2_3⟩ := cells4s Ro_2
  have qo_2 := fz (k := 3) Ro_2
  have B3 : Below w.heap.size w ((w1.setCell ⟨w.heap.size + 1 + 1, 0, none⟩ (.string m)).setCell ⟨w.heap.size + 1 + 1, 3, none⟩ (.bool false)) := B2.setCell (by first | exact Nat.le_refl _ | (skip; show w.heap.size ≤ w.heap.size + 1 + 1; omega)) _
  have Ro_3 : ((w1.setCell ⟨w.heap.size + 1 + 1, 0, none⟩ (.string m)).setCell ⟨w.heap.size + 1 + 1, 3, none⟩ (.bool false)).heap[w.heap.size + 1 + 1]? = some (Obj.cells #[.string m, .int .i64 A, .int .i64 (-1), .bool false] 118) := by rw [setCell_row Ro_2]; rfl
  have Rx_3 : ((w1.setCell ⟨w.heap.size + 1 + 1, 0, none⟩ (.string m)).setCell ⟨w.heap.size + 1 + 1, 3, none⟩ (.bool false)).heap[w.heap.size]? = some (Obj.cells #[.bool b, .string s, .string t, .int .i64 e] 50) := by rw [setCell_other (by first | omega | (skip; omega))]; exact Rx_2
  have Rz_3 : ((w1.setCell ⟨w.heap.size + 1 + 1, 0, none⟩ (.string m)).setCell ⟨w.heap.size + 1 + 1, 3, none⟩ (.bool false)).heap[w.heap.size + 1]? = some (Obj.cells #[.string ⟨#[]⟩, .int .i64 0, .int .i64 0, .bool false] 118) := by rw [setCell_other (by first | omega | (skip; omega))]; exact Rz_2
  obtain ⟨cx_3_0, cx_3_1, cx_3_2, cx_3_3⟩ := cells4s Rx_3
  obtain ⟨cz_3_0, cz_3_1, cz_3_2, cz_3_3⟩ := cells4s Rz_3
  obtain ⟨co_3_0, co_3_1, co_3_2, co_3_3⟩ := cells4s Ro_3
  go_wp2_with fail
  refine (K2.out _).mono ?_
  rintro r w4 ⟨rfl, b4⟩
  have B4 : Below w.heap.size w w4 := btr B3 b4
  have Rx_4 := heap_of b4 _ _ _ Rx_3
  have Rz_4 := heap_of b4 _ _ _ Rz_3
  have Ro_4 := heap_of b4 _ _ _ Ro_3
  clear b4 B3 Rx_3 cx_3_0 cx_3_1 cx_3_2 cx_3_3 Rz_3 cz_3_0 cz_3_1 cz_3_2 cz_3_3 Ro_3 co_3_0 co_3_1 co_3_2 co_3_3
  obtain ⟨cx_4_0, cx_4_1, cx_4_2, cx_4_3⟩ := cells4s Rx_4
  obtain ⟨cz_4_0, cz_4_1, cz_4_2, cz_4_3⟩ := cells4s Rz_4
  obtain ⟨co_4_0, co_4_1, co_4_2, co_4_3⟩ := cells4s Ro_4
  go_wp2_with fail
  refine (KL.out _).mono ?_
  rintro r w5 ⟨rfl, b5⟩
  have B5 : Below w.heap.size w w5 := btr B4 b5
  have Rx_5 := heap_of b5 _ _ _ Rx_4
  have Rz_5 := heap_of b5 _ _ _ Rz_4
  have Ro_5 := heap_of b5 _ _ _ Ro_4
  clear b5 B4 Rx_4 cx_4_0 cx_4_1 cx_4_2 cx_4_3 Rz_4 cz_4_0 cz_4_1 cz_4_2 cz_4_3 Ro_4 co_4_0 co_4_1 co_4_2 co_4_3
  obtain ⟨cx_5_0, cx_5_1, cx_5_2, cx_5_3⟩ := cells4s Rx_5
  obtain ⟨cz_5_0, cz_5_1, cz_5_2, cz_5_3⟩ := cells4s Rz_5
  obtain ⟨co_5_0, co_5_1, co_5_2, co_5_3⟩ := cells4s Ro_5
  have qo_5 := fz (k := 2) Ro_5
  have B6 : Below w.heap.size w (w5.setCell ⟨w.heap.size + 1 + 1, 2, none⟩ (.int .i64 1)) := B5.setCell (by first | exact Nat.le_refl _ | (skip; show w.heap.size ≤ w.heap.size + 1 + 1; omega)) _
  have Ro_6 : (w5.setCell ⟨w.heap.size + 1 + 1, 2, none⟩ (.int .i64 1)).heap[w.heap.size + 1 + 1]? = some (Obj.cells #[.string m, .int .i64 A, .int .i64 1, .bool false] 118) := by rw [setCell_row Ro_5]; rfl
  have Rx_6 : (w5.setCell ⟨w.heap.size + 1 + 1, 2, none⟩ (.int .i64 1)).heap[w.heap.size]? = some (Obj.cells #[.bool b, .string s, .string t, .int .i64 e] 50) := by rw [setCell_other (by first | omega | (skip; omega))]; exact Rx_5
  have Rz_6 : (w5.setCell ⟨w.heap.size + 1 + 1, 2, none⟩ (.int .i64 1)).heap[w.heap.size + 1]? = some (Obj.cells #[.string ⟨#[]⟩, .int .i64 0, .int .i64 0, .bool false] 118) := by rw [setCell_other (by first | omega | (skip; omega))]; exact Rz_5
  obtain ⟨cx_6_0, cx_6_1, cx_6_2, cx_6_3⟩ := cells4s Rx_6
  obtain ⟨cz_6_0, cz_6_1, cz_6_2, cz_6_3⟩ := cells4s Rz_6
  obtain ⟨co_6_0, co_6_1, co_6_2, co_6_3⟩ := cells4s Ro_6
  have q0 := fz (k := 0) Rz_6
  have q1 := fz (k := 1) Rz_6
  have q2 := fz (k := 2) Rz_6
  have q3 := fz (k := 3) Rz_6
  obtain ⟨E0, E1, E2, E3⟩ := set4_cells Rz_6 rfl (.string m) (.int .i64 A) (.int .i64 1) (.bool false)
  go_wp2
  exact bodyPost_ret (v := .agg #[.string m, .int .i64 A, .int .i64 1, .bool false]) (by simp [results, Tryz.results79, go_sem, E0, E1, E2, E3]) rfl ⟨rfl, set4_below B6 (by first | exact Nat.le_refl _ | omega | (skip; omega)) _ _ _ _⟩
set_option maxRecDepth 100000 in
set_option maxHeartbeats 4000000 in
theorem rf_up (m : Int) (hm : 0 ≤ m ∧ m ≤ 4) (neg odd half more o : Bool) (M : ByteArray) (A H : Int) (ex : Bool) (hH : hfV half more = H) (hx : (!(half || more)) = ex) (ho : gO m neg odd half more = o) (w : World)
    (KL : Box (∀ w, Calls Tryz.prog 108 #[.string M] w fun r w' => r = .returned (.bool odd) ∧ Below w.heap.size w w')) : Calls Tryz.prog 110 #[.int .u8 m, .bool neg, .agg #[.string M, .int .i64 A, .int .i64 H, .bool ex]] w fun r w' => r = .returned (.bool o) ∧ Below w.heap.size w w' := by
  subst hH hx ho
  have c : m = 0 ∨ m = 1 ∨ m = 2 ∨ m = 3 ∨ m = 4 := by omega
  clear hm
  cases half <;> cases more
  · clear KL
    have e0 : gO m neg odd false false = false := by rcases c with rfl | rfl | rfl | rfl | rfl <;> rfl
    rw [e0]
    show Calls Tryz.prog 110 #[.int .u8 m, .bool neg, .agg #[.string M, .int .i64 A, .int .i64 (-1), .bool true]] w fun r w' => r = .returned (.bool false) ∧ Below w.heap.size w w'
    obtain ⟨Rd_0, B0⟩ := opn1 w (Obj.cells #[.string M, .int .i64 A, .int .i64 (-1), .bool true] 118)
    go_enter Tryz.func110, Tryz.ntmps110
    go_wp2
    go_ret
    exact ⟨rfl, B0⟩
  · rcases c with rfl | rfl | rfl | rfl | rfl
    · show Calls Tryz.prog 110 #[.int .u8 0, .bool neg, .agg #[.string M, .int .i64 A, .int .i64 (-1), .bool false]] w fun r w' => r = .returned (.bool false) ∧ Below w.heap.size w w'
      obtain ⟨Rd_0, B0⟩ := opn1 w (Obj.cells #[.string M, .int .i64 A, .int .i64 (-1), .bool false] 118)
      go_enter Tryz.func110, Tryz.ntmps110
      go_wp2
      go_ret
      exact ⟨rfl, B0⟩
    · show Calls Tryz.prog 110 #[.int .u8 1, .bool neg, .agg #[.string M, .int .i64 A, .int .i64 (-1), .bool false]] w fun r w' => r = .returned (.bool false) ∧ Below w.heap.size w w'
      obtain ⟨Rd_0, B0⟩ := opn1 w (Obj.cells #[.string M, .int .i64 A, .int .i64 (-1), .bool false] 118)
      go_enter Tryz.func110, Tryz.ntmps110
      go_wp2
      go_ret
      exact ⟨rfl, B0⟩
    · show Calls Tryz.prog 110 #[.int .u8 2, .bool neg, .agg #[.string M, .int .i64 A, .int .i64 (-1), .bool false]] w fun r w' => r = .returned (.bool neg) ∧ Below w.heap.size w w'
      obtain ⟨Rd_0, B0⟩ := opn1 w (Obj.cells #[.string M, .int .i64 A, .int .i64 (-1), .bool false] 118)
      go_enter Tryz.func110, Tryz.ntmps110
      go_wp2
      go_ret
      exact ⟨rfl, B0⟩
    · show Calls Tryz.prog 110 #[.int .u8 3, .bool neg, .agg #[.string M, .int .i64 A, .int .i64 (-1), .bool false]] w fun r w' => r = .returned (.bool (!neg)) ∧ Below w.heap.size w w'
      obtain ⟨Rd_0, B0⟩ := opn1 w (Obj.cells #[.string M, .int .i64 A, .int .i64 (-1), .bool false] 118)
      go_enter Tryz.func110, Tryz.ntmps110
      go_wp2
      go_ret
      exact ⟨rfl, B0⟩
    · show Calls Tryz.prog 110 #[.int .u8 4, .bool neg, .agg #[.string M, .int .i64 A, .int .i64 (-1), .bool false]] w fun r w' => r = .returned (.bool false) ∧ Below w.heap.size w w'
      obtain ⟨Rd_0, B0⟩ := opn1 w (Obj.cells #[.string M, .int .i64 A, .int .i64 (-1), .bool false] 118)
      go_enter Tryz.func110, Tryz.ntmps110
      go_wp2
      go_ret
      exact ⟨rfl, B0⟩
  · rcases c with rfl | rfl | rfl | rfl | rfl
    · show Calls Tryz.prog 110 #[.int .u8 0, .bool neg, .agg #[.string M, .int .i64 A, .int .i64 0, .bool false]] w fun r w' => r = .returned (.bool odd) ∧ Below w.heap.size w w'
      obtain ⟨Rd_0, B0⟩ := opn1 w (Obj.cells #[.string M, .int .i64 A, .int .i64 0, .bool false] 118)
      go_enter Tryz.func110, Tryz.ntmps110
      go_wp2_with fail
      refine (KL.out _).mono ?_
      rintro r w1 ⟨rfl, b1⟩
      have B1 : Below w.heap.size w w1 := btr B0 b1
      have Rd_1 := heap_of b1 _ _ _ Rd_0
      clear b1 B0 Rd_0
      obtain ⟨cd_1_0, cd_1_1, cd_1_2, cd_1_3⟩ := cells4s Rd_1
      go_wp2
      go_ret
      exact ⟨rfl, B1⟩
    · show Calls Tryz.prog 110 #[.int .u8 1, .bool neg, .agg #[.string M, .int .i64 A, .int .i64 0, .bool false]] w fun r w' => r = .returned (.bool false) ∧ Below w.heap.size w w'
      obtain ⟨Rd_0, B0⟩ := opn1 w (Obj.cells #[.string M, .int .i64 A, .int .i64 0, .bool false] 118)
      go_enter Tryz.func110, Tryz.ntmps110
      go_wp2
      go_ret
      exact ⟨rfl, B0⟩
    · show Calls Tryz.prog 110 #[.int .u8 2, .bool neg, .agg #[.string M, .int .i64 A, .int .i64 0, .bool false]] w fun r w' => r = .returned (.bool neg) ∧ Below w.heap.size w w'
      obtain ⟨Rd_0, B0⟩ := opn1 w (Obj.cells #[.string M, .int .i64 A, .int .i64 0, .bool false] 118)
      go_enter Tryz.func110, Tryz.ntmps110
      go_wp2
      go_ret
      exact ⟨rfl, B0⟩
    · show Calls Tryz.prog 110 #[.int .u8 3, .bool neg, .agg #[.string M, .int .i64 A, .int .i64 0, .bool false]] w fun r w' => r = .returned (.bool (!neg)) ∧ Below w.heap.size w w'
      obtain ⟨Rd_0, B0⟩ := opn1 w (Obj.cells #[.string M, .int .i64 A, .int .i64 0, .bool false] 118)
      go_enter Tryz.func110, Tryz.ntmps110
      go_wp2
      go_ret
      exact ⟨rfl, B0⟩
    · show Calls Tryz.prog 110 #[.int .u8 4, .bool neg, .agg #[.string M, .int .i64 A, .int .i64 0, .bool false]] w fun r w' => r = .returned (.bool true) ∧ Below w.heap.size w w'
      obtain ⟨Rd_0, B0⟩ := opn1 w (Obj.cells #[.string M, .int .i64 A, .int .i64 0, .bool false] 118)
      go_enter Tryz.func110, Tryz.ntmps110
      go_wp2
      go_ret
      exact ⟨rfl, B0⟩
  · rcases c with rfl | rfl | rfl | rfl | rfl
    · show Calls Tryz.prog 110 #[.int .u8 0, .bool neg, .agg #[.string M, .int .i64 A, .int .i64 1, .bool false]] w fun r w' => r = .returned (.bool true) ∧ Below w.heap.size w w'
      obtain ⟨Rd_0, B0⟩ := opn1 w (Obj.cells #[.string M, .int .i64 A, .int .i64 1, .bool false] 118)
      go_enter Tryz.func110, Tryz.ntmps110
      go_wp2
      go_ret
      exact ⟨rfl, B0⟩
    · show Calls Tryz.prog 110 #[.int .u8 1, .bool neg, .agg #[.string M, .int .i64 A, .int .i64 1, .bool false]] w fun r w' => r = .returned (.bool false) ∧ Below w.heap.size w w'
      obtain ⟨Rd_0, B0⟩ := opn1 w (Obj.cells #[.string M, .int .i64 A, .int .i64 1, .bool false] 118)
      go_enter Tryz.func110, Tryz.ntmps110
      go_wp2
      go_ret
      exact ⟨rfl, B0⟩
    · show Calls Tryz.prog 110 #[.int .u8 2, .bool neg, .agg #[.string M, .int .i64 A, .int .i64 1, .bool false]] w fun r w' => r = .returned (.bool neg) ∧ Below w.heap.size w w'
      obtain ⟨Rd_0, B0⟩ := opn1 w (Obj.cells #[.string M, .int .i64 A, .int .i64 1, .bool false] 118)
      go_enter Tryz.func110, Tryz.ntmps110
      go_wp2
      go_ret
      exact ⟨rfl, B0⟩
    · show Calls Tryz.prog 110 #[.int .u8 3, .bool neg, .agg #[.string M, .int .i64 A, .int .i64 1, .bool false]] w fun r w' => r = .returned (.bool (!neg)) ∧ Below w.heap.size w w'
      obtain ⟨Rd_0, B0⟩ := opn1 w (Obj.cells #[.string M, .int .i64 A, .int .i64 1, .bool false] 118)
      go_enter Tryz.func110, Tryz.ntmps110
      go_wp2
      go_ret
      exact ⟨rfl, B0⟩
    · show Calls Tryz.prog 110 #[.int .u8 4, .bool neg, .agg #[.string M, .int .i64 A, .int .i64 1, .bool false]] w fun r w' => r = .returned (.bool true) ∧ Below w.heap.size w w'
      obtain ⟨Rd_0, B0⟩ := opn1 w (Obj.cells #[.string M, .int .i64 A, .int .i64 1, .bool false] 118)
      go_enter Tryz.func110, Tryz.ntmps110
      go_wp2
      go_ret
      exact ⟨rfl, B0⟩
set_option maxRecDepth 100000 in
set_option maxHeartbeats 4000000 in
theorem rf_taken (m : Int) (neg o : Bool) (M M' rs : ByteArray) (A H e1 : Int) (ex : Bool) (w : World)
    (KU : Box (∀ w, Calls Tryz.prog 110 #[.int .u8 m, .bool neg, .agg #[.string M, .int .i64 A, .int .i64 H, .bool ex]] w fun r w' => r = .returned (.bool o) ∧ Below w.heap.size w w'))
    (KA : Box (o = true → ∀ w, Calls Tryz.prog 111 #[.string M, .string ⟨#[1]⟩] w fun r w' => r = .returned (.tuple #[.string M', .int .i64 e1]) ∧ Below w.heap.size w w'))
    (hr : (if o = true then M' else M) = rs) : Calls Tryz.prog 80 #[.int .u8 m, .bool neg, .agg #[.string M, .int .i64 A, .int .i64 H, .bool ex]] w fun r w' => r = .returned (.string rs) ∧ Below w.heap.size w w' := by
  cases o
  · rw [if_neg (by decide)] at hr
    subst hr
    clear KA
    obtain ⟨Rd_0, B0⟩ := opn1 w (Obj.cells #[.string M, .int .i64 A, .int .i64 H, .bool ex] 118)
    go_enter Tryz.func80, Tryz.ntmps80
    go_wp2_with fail
    refine (KU.out _).mono ?_
    rintro r w1 ⟨rfl, b1⟩
    have B1 : Below w.heap.size w w1 := btr B0 b1
    have Rd_1 := heap_of b1 _ _ _ Rd_0
    clear b1 B0 Rd_0
    obtain ⟨cd_1_0, cd_1_1, cd_1_2, cd_1_3⟩ := cells4s Rd_1
    go_wp2
    go_ret
    exact ⟨rfl, B1⟩
  · rw [if_pos rfl] at hr
    subst hr
    have K5 := box (KA.out rfl)
    clear KA
    obtain ⟨Rd_0, B0⟩ := opn1 w (Obj.cells #[.string M, .int .i64 A, .int .i64 H, .bool ex] 118)
    go_enter Tryz.func80, Tryz.ntmps80
    go_wp2_with fail
    refine (KU.out _).mono ?_
    rintro r w1 ⟨rfl, b1⟩
    have B1 : Below w.heap.size w w1 := btr B0 b1
    have Rd_1 := heap_of b1 _ _ _ Rd_0
    clear b1 B0 Rd_0
    obtain ⟨cd_1_0, cd_1_1, cd_1_2, cd_1_3⟩ := cells4s Rd_1
    go_wp2_with fail
    refine (K5.out _).mono ?_
    rintro r w2 ⟨rfl, b2⟩
    have B2 : Below w.heap.size w w2 := btr B1 b2
    have Rd_2 := heap_of b2 _ _ _ Rd_1
    clear b2 B1 Rd_1 cd_1_0 cd_1_1 cd_1_2 cd_1_3
    obtain ⟨cd_2_0, cd_2_1, cd_2_2, cd_2_3⟩ := cells4s Rd_2
    go_wp2
    go_ret
    exact ⟨rfl, B2⟩
set_option maxRecDepth 100000 in
set_option maxHeartbeats 4000000 in
theorem rf_top (b : Bool) (s t : ByteArray) (e T err : Int) (w : World)
    (KT : Box (∀ w, Calls Tryz.prog 104 #[.agg #[.bool b, .string s, .string t, .int .i64 e]] w fun r w' => r = .returned (.tuple #[.int .i64 T, .int .i64 err]) ∧ Below w.heap.size w w')) : Calls Tryz.prog 74 #[.agg #[.bool b, .string s, .string t, .int .i64 e], .bool false] w fun r w' => r = .returned (.int .i64 T) ∧ Below w.heap.size w w' := by
  obtain ⟨Rx_0, B0⟩ := opn1 w (Obj.cells #[.bool b, .string s, .string t, .int .i64 e] 50)
  go_enter Tryz.func74, Tryz.ntmps74
  go_wp2_with fail
  refine (KT.out _).mono ?_
  rintro r w1 ⟨rfl, b1⟩
  have B1 : Below w.heap.size w w1 := btr B0 b1
  have Rx_1 := heap_of b1 _ _ _ Rx_0
  clear b1 B0 Rx_0
  obtain ⟨cx_1_0, cx_1_1, cx_1_2, cx_1_3⟩ := cells4s Rx_1
  go_wp2
  go_ret
  exact ⟨rfl, B1⟩
set_option maxRecDepth 100000 in
set_option maxHeartbeats 4000000 in
theorem rf_over (f m : Int) (hm : 0 ≤ m ∧ m ≤ 4) (neg : Bool) (u v : Nat) (w : World)
    (KI : Box (gO m neg false true true = true → ∀ w, Calls Tryz.prog 106 #[.int .u8 f, .bool neg] w fun r w' => r = .returned (.agg #[.int .u64 (u : Nat), .int .u64 (v : Nat)]) ∧ Below w.heap.size w w'))
    (KG : Box (gO m neg false true true = false → ∀ w, Calls Tryz.prog 105 #[.int .u8 f, .bool neg] w fun r w' => r = .returned (.agg #[.int .u64 (u : Nat), .int .u64 (v : Nat)]) ∧ Below w.heap.size w w'))
    : Calls Tryz.prog 77 #[.int .u8 f, .int .u8 m, .bool neg] w fun r w' => r = .returned (.agg #[.int .u64 (u : Nat), .int .u64 (v : Nat)]) ∧ Below w.heap.size w w' := by
  have c : m = 0 ∨ m = 1 ∨ m = 2 ∨ m = 3 ∨ m = 4 := by omega
  clear hm
  rcases c with rfl | rfl | rfl | rfl | rfl <;> cases neg
  · have K5 := box (KI.out rfl)
    clear KI KG
    obtain ⟨Rz_0, B0⟩ := opn1 w (Obj.cells #[.int .u64 0, .int .u64 0] 27)
    go_enter Tryz.func77, Tryz.ntmps77
    go_wp2_with fail
    refine (K5.out _).mono ?_
    rintro r w1 ⟨rfl, b1⟩
    have B1 : Below w.heap.size w w1 := btr B0 b1
    have Rz_1 := heap_of b1 _ _ _ Rz_0
    clear b1 B0 Rz_0
    obtain ⟨cz_1_0, cz_1_1⟩ := cells2s Rz_1
    have q0 := fz (k := 0) Rz_1
    have q1 := fz (k := 1) Rz_1
    obtain ⟨E0, E1⟩ := set2_cells Rz_1 (.int .u64 (u : Nat)) (.int .u64 (v : Nat))
    go_wp2
    exact bodyPost_ret (v := .agg #[.int .u64 (u : Nat), .int .u64 (v : Nat)]) (by simp [results, Tryz.results77, go_sem, E0, E1]) rfl ⟨rfl, set2_below B1 (by first | exact Nat.le_refl _ | omega | (skip; omega)) _ _⟩
  · have K5 := box (KI.out rfl)
    clear KI KG
    obtain ⟨Rz_0, B0⟩ := opn1 w (Obj.cells #[.int .u64 0, .int .u64 0] 27)
    go_enter Tryz.func77, Tryz.ntmps77
    go_wp2_with fail
    refine (K5.out _).mono ?_
    rintro r w1 ⟨rfl, b1⟩
    have B1 : Below w.heap.size w w1 := btr B0 b1
    have Rz_1 := heap_of b1 _ _ _ Rz_0
    clear b1 B0 Rz_0
    obtain ⟨cz_1_0, cz_1_1⟩ := cells2s Rz_1
    have q0 := fz (k := 0) Rz_1
    have q1 := fz (k := 1) Rz_1
    obtain ⟨E0, E1⟩ := set2_cells Rz_1 (.int .u64 (u : Nat)) (.int .u64 (v : Nat))
    go_wp2
    exact bodyPost_ret (v := .agg #[.int .u64 (u : Nat), .int .u64 (v : Nat)]) (by simp [results, Tryz.results77, go_sem, E0, E1]) rfl ⟨rfl, set2_below B1 (by first | exact Nat.le_refl _ | omega | (skip; omega)) _ _⟩
  · have K5 := box (KG.out rfl)
    clear KI KG
    obtain ⟨Rz_0, B0⟩ := opn1 w (Obj.cells #[.int .u64 0, .int .u64 0] 27)
    go_enter Tryz.func77, Tryz.ntmps77
    go_wp2_with fail
    refine (K5.out _).mono ?_
    rintro r w1 ⟨rfl, b1⟩
    have B1 : Below w.heap.size w w1 := btr B0 b1
    have Rz_1 := heap_of b1 _ _ _ Rz_0
    clear b1 B0 Rz_0
    obtain ⟨cz_1_0, cz_1_1⟩ := cells2s Rz_1
    have q0 := fz (k := 0) Rz_1
    have q1 := fz (k := 1) Rz_1
    obtain ⟨E0, E1⟩ := set2_cells Rz_1 (.int .u64 (u : Nat)) (.int .u64 (v : Nat))
    go_wp2
    exact bodyPost_ret (v := .agg #[.int .u64 (u : Nat), .int .u64 (v : Nat)]) (by simp [results, Tryz.results77, go_sem, E0, E1]) rfl ⟨rfl, set2_below B1 (by first | exact Nat.le_refl _ | omega | (skip; omega)) _ _⟩
  · have K5 := box (KG.out rfl)
    clear KI KG
    obtain ⟨Rz_0, B0⟩ := opn1 w (Obj.cells #[.int .u64 0, .int .u64 0] 27)
    go_enter Tryz.func77, Tryz.ntmps77
    go_wp2_with fail
    refine (K5.out _).mono ?_
    rintro r w1 ⟨rfl, b1⟩
    have B1 : Below w.heap.size w w1 := btr B0 b1
    have Rz_1 := heap_of b1 _ _ _ Rz_0
    clear b1 B0 Rz_0
    obtain ⟨cz_1_0, cz_1_1⟩ := cells2s Rz_1
    have q0 := fz (k := 0) Rz_1
    have q1 := fz (k := 1) Rz_1
    obtain ⟨E0, E1⟩ := set2_cells Rz_1 (.int .u64 (u : Nat)) (.int .u64 (v : Nat))
    go_wp2
    exact bodyPost_ret (v := .agg #[.int .u64 (u : Nat), .int .u64 (v : Nat)]) (by simp [results, Tryz.results77, go_sem, E0, E1]) rfl ⟨rfl, set2_below B1 (by first | exact Nat.le_refl _ | omega | (skip; omega)) _ _⟩
  · have K5 := box (KG.out rfl)
    clear KI KG
    obtain ⟨Rz_0, B0⟩ := opn1 w (Obj.cells #[.int .u64 0, .int .u64 0] 27)
    go_enter Tryz.func77, Tryz.ntmps77
    go_wp2_with fail
    refine (K5.out _).mono ?_
    rintro r w1 ⟨rfl, b1⟩
    have B1 : Below w.heap.size w w1 := btr B0 b1
    have Rz_1 := heap_of b1 _ _ _ Rz_0
    clear b1 B0 Rz_0
    obtain ⟨cz_1_0, cz_1_1⟩ := cells2s Rz_1
    have q0 := fz (k := 0) Rz_1
    have q1 := fz (k := 1) Rz_1
    obtain ⟨E0, E1⟩ := set2_cells Rz_1 (.int .u64 (u : Nat)) (.int .u64 (v : Nat))
    go_wp2
    exact bodyPost_ret (v := .agg #[.int .u64 (u : Nat), .int .u64 (v : Nat)]) (by simp [results, Tryz.results77, go_sem, E0, E1]) rfl ⟨rfl, set2_below B1 (by first | exact Nat.le_refl _ | omega | (skip; omega)) _ _⟩
  · have K5 := box (KI.out rfl)
    clear KI KG
    obtain ⟨Rz_0, B0⟩ := opn1 w (Obj.cells #[.int .u64 0, .int .u64 0] 27)
    go_enter Tryz.func77, Tryz.ntmps77
    go_wp2_with fail
    refine (K5.out _).mono ?_
    rintro r w1 ⟨rfl, b1⟩
    have B1 : Below w.heap.size w w1 := btr B0 b1
    have Rz_1 := heap_of b1 _ _ _ Rz_0
    clear b1 B0 Rz_0
    obtain ⟨cz_1_0, cz_1_1⟩ := cells2s Rz_1
    have q0 := fz (k := 0) Rz_1
    have q1 := fz (k := 1) Rz_1
    obtain ⟨E0, E1⟩ := set2_cells Rz_1 (.int .u64 (u : Nat)) (.int .u64 (v : Nat))
    go_wp2
    exact bodyPost_ret (v := .agg #[.int .u64 (u : Nat), .int .u64 (v : Nat)]) (by simp [results, Tryz.results77, go_sem, E0, E1]) rfl ⟨rfl, set2_below B1 (by first | exact Nat.le_refl _ | omega | (skip; omega)) _ _⟩
  · have K5 := box (KI.out rfl)
    clear KI KG
    obtain ⟨Rz_0, B0⟩ := opn1 w (Obj.cells #[.int .u64 0, .int .u64 0] 27)
    go_enter Tryz.func77, Tryz.ntmps77
    go_wp2_with fail
    refine (K5.out _).mono ?_
    rintro r w1 ⟨rfl, b1⟩
    have B1 : Below w.heap.size w w1 := btr B0 b1
    have Rz_1 := heap_of b1 _ _ _ Rz_0
    clear b1 B0 Rz_0
    obtain ⟨cz_1_0, cz_1_1⟩ := cells2s Rz_1
    have q0 := fz (k := 0) Rz_1
    have q1 := fz (k := 1) Rz_1
    obtain ⟨E0, E1⟩ := set2_cells Rz_1 (.int .u64 (u : Nat)) (.int .u64 (v : Nat))
    go_wp2
    exact bodyPost_ret (v := .agg #[.int .u64 (u : Nat), .int .u64 (v : Nat)]) (by simp [results, Tryz.results77, go_sem, E0, E1]) rfl ⟨rfl, set2_below B1 (by first | exact Nat.le_refl _ | omega | (skip; omega)) _ _⟩
  · have K5 := box (KG.out rfl)
    clear KI KG
    obtain ⟨Rz_0, B0⟩ := opn1 w (Obj.cells #[.int .u64 0, .int .u64 0] 27)
    go_enter Tryz.func77, Tryz.ntmps77
    go_wp2_with fail
    refine (K5.out _).mono ?_
    rintro r w1 ⟨rfl, b1⟩
    have B1 : Below w.heap.size w w1 := btr B0 b1
    have Rz_1 := heap_of b1 _ _ _ Rz_0
    clear b1 B0 Rz_0
    obtain ⟨cz_1_0, cz_1_1⟩ := cells2s Rz_1
    have q0 := fz (k := 0) Rz_1
    have q1 := fz (k := 1) Rz_1
    obtain ⟨E0, E1⟩ := set2_cells Rz_1 (.int .u64 (u : Nat)) (.int .u64 (v : Nat))
    go_wp2
    exact bodyPost_ret (v := .agg #[.int .u64 (u : Nat), .int .u64 (v : Nat)]) (by simp [results, Tryz.results77, go_sem, E0, E1]) rfl ⟨rfl, set2_below B1 (by first | exact Nat.le_refl _ | omega | (skip; omega)) _ _⟩
  · have K5 := box (KI.out rfl)
    clear KI KG
    obtain ⟨Rz_0, B0⟩ := opn1 w (Obj.cells #[.int .u64 0, .int .u64 0] 27)
    go_enter Tryz.func77, Tryz.ntmps77
    go_wp2_with fail
    refine (K5.out _).mono ?_
    rintro r w1 ⟨rfl, b1⟩
    have B1 : Below w.heap.size w w1 := btr B0 b1
    have Rz_1 := heap_of b1 _ _ _ Rz_0
    clear b1 B0 Rz_0
    obtain ⟨cz_1_0, cz_1_1⟩ := cells2s Rz_1
    have q0 := fz (k := 0) Rz_1
    have q1 := fz (k := 1) Rz_1
    obtain ⟨E0, E1⟩ := set2_cells Rz_1 (.int .u64 (u : Nat)) (.int .u64 (v : Nat))
    go_wp2
    exact bodyPost_ret (v := .agg #[.int .u64 (u : Nat), .int .u64 (v : Nat)]) (by simp [results, Tryz.results77, go_sem, E0, E1]) rfl ⟨rfl, set2_below B1 (by first | exact Nat.le_refl _ | omega | (skip; omega)) _ _⟩
  · have K5 := box (KI.out rfl)
    clear KI KG
    obtain ⟨Rz_0, B0⟩ := opn1 w (Obj.cells #[.int .u64 0, .int .u64 0] 27)
    go_enter Tryz.func77, Tryz.ntmps77
    go_wp2_with fail
    refine (K5.out _).mono ?_
    rintro r w1 ⟨rfl, b1⟩
    have B1 : Below w.heap.size w w1 := btr B0 b1
    have Rz_1 := heap_of b1 _ _ _ Rz_0
    clear b1 B0 Rz_0
    obtain ⟨cz_1_0, cz_1_1⟩ := cells2s Rz_1
    have q0 := fz (k := 0) Rz_1
    have q1 := fz (k := 1) Rz_1
    obtain ⟨E0, E1⟩ := set2_cells Rz_1 (.int .u64 (u : Nat)) (.int .u64 (v : Nat))
    go_wp2
    exact bodyPost_ret (v := .agg #[.int .u64 (u : Nat), .int .u64 (v : Nat)]) (by simp [results, Tryz.results77, go_sem, E0, E1]) rfl ⟨rfl, set2_below B1 (by first | exact Nat.le_refl _ | omega | (skip; omega)) _ _⟩
end Go.Proofs.YtpdehipeakcaiaaGreatDoor
