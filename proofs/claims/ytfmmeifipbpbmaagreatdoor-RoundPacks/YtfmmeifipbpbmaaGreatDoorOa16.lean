/-
  What the functions that the statement reaches return: part 16 (R33, R34).
-/
import Derived.Test.YtfmmeifipbpbmaaGreatDoorOa15
namespace Go.Proofs.YtfmmeifipbpbmaaGreatDoor
set_option maxRecDepth 100000
open Go.RowKit WMath
set_option linter.unusedSimpArgs false
set_option linter.unusedVariables false

theorem rg_set7 (neg : Bool) (s : Nat) (x y : Int) (more : Bool) : (rg neg s x more).setIfInBounds 7 (.int .i64 y) = rg neg s y more := rfl
set_option maxRecDepth 100000 in
set_option maxHeartbeats 4000000 in
theorem rh_may_lo (f : Int) (neg : Bool) (s : Nat) (x : Int) (more : Bool) (w : World) (h : decide (-1048576 ≤ x) = false) : Calls Tryz.prog 33 #[.int .u8 f, .agg (rg neg s x more)] w fun r w' => r = .returned (.bool false) ∧ Below w.heap.size w w' := by
  have hat := cw_at 6
  have hz := cw6z
  have hff := cw6f
  have hs0 := st0
  have hcs : ∀ x, ((cw 6 x).size = 6) = True := fun x => eq_true (cw_size 6 x)
  have hp1 := rgf
  have hp3 := rgz
  have hp5 : ∀ (c : Bool) (s : Nat) (x : Int) (r : Bool), ((rg c s x r).size = 9) = True := fun _ _ _ _ => eq_true rfl
  obtain ⟨Rx_0, B0⟩ := opn1 w (Obj.cells (rg neg s x more) 64)
  go_enter Tryz.func33, Tryz.ntmps33
  obtain ⟨cx_0_0, cx_0_1, cx_0_2, cx_0_3, cx_0_4, cx_0_5, cx_0_6, cx_0_7, cx_0_8⟩ := rg_cells Rx_0
  go_wp2
  go_ret
  exact ⟨rfl, B0⟩
set_option maxRecDepth 100000 in
set_option maxHeartbeats 4000000 in
theorem rh_may_hi (f : Int) (neg : Bool) (s : Nat) (x : Int) (more : Bool) (w : World) (h : decide (-1048576 ≤ x) = true) (h2 : decide (x ≤ 1048576) = false) : Calls Tryz.prog 33 #[.int .u8 f, .agg (rg neg s x more)] w fun r w' => r = .returned (.bool false) ∧ Below w.heap.size w w' := by
  have hat := cw_at 6
  have hz := cw6z
  have hff := cw6f
  have hs0 := st0
  have hcs : ∀ x, ((cw 6 x).size = 6) = True := fun x => eq_true (cw_size 6 x)
  have hp1 := rgf
  have hp3 := rgz
  have hp5 : ∀ (c : Bool) (s : Nat) (x : Int) (r : Bool), ((rg c s x r).size = 9) = True := fun _ _ _ _ => eq_true rfl
  obtain ⟨Rx_0, B0⟩ := opn1 w (Obj.cells (rg neg s x more) 64)
  go_enter Tryz.func33, Tryz.ntmps33
  obtain ⟨cx_0_0, cx_0_1, cx_0_2, cx_0_3, cx_0_4, cx_0_5, cx_0_6, cx_0_7, cx_0_8⟩ := rg_cells Rx_0
  go_wp2
  go_ret
  exact ⟨rfl, B0⟩
set_option maxRecDepth 100000 in
set_option maxHeartbeats 4000000 in
theorem rh_may_no (f : Int) (neg : Bool) (s : Nat) (x : Int) (w : World) (h : decide (-1048576 ≤ x) = true) (h2 : decide (x ≤ 1048576) = true) : Calls Tryz.prog 33 #[.int .u8 f, .agg (rg neg s x false)] w fun r w' => r = .returned (.bool true) ∧ Below w.heap.size w w' := by
  have hat := cw_at 6
  have hz := cw6z
  have hff := cw6f
  have hs0 := st0
  have hcs : ∀ x, ((cw 6 x).size = 6) = True := fun x => eq_true (cw_size 6 x)
  have hp1 := rgf
  have hp3 := rgz
  have hp5 : ∀ (c : Bool) (s : Nat) (x : Int) (r : Bool), ((rg c s x r).size = 9) = True := fun _ _ _ _ => eq_true rfl
  obtain ⟨Rx_0, B0⟩ := opn1 w (Obj.cells (rg neg s x false) 64)
  go_enter Tryz.func33, Tryz.ntmps33
  obtain ⟨cx_0_0, cx_0_1, cx_0_2, cx_0_3, cx_0_4, cx_0_5, cx_0_6, cx_0_7, cx_0_8⟩ := rg_cells Rx_0
  go_wp2
  go_ret
  exact ⟨rfl, B0⟩
set_option maxRecDepth 100000 in
set_option maxHeartbeats 4000000 in
theorem rh_may_more (f : Int) (neg : Bool) (s : Nat) (x : Int) (l P A1 : Int) (o : Bool) (w : World)
    (KL : Box (∀ w, Calls Tryz.prog 93 #[.agg (cw 6 s)] w fun r w' => r = .returned (.int .i64 l) ∧ Below w.heap.size w w'))
    (KP : Box (∀ w, Calls Tryz.prog 94 #[.int .u8 f] w fun r w' => r = .returned (.int .i64 P) ∧ Below w.heap.size w w'))
    (h : decide (-1048576 ≤ x) = true) (h2 : decide (x ≤ 1048576) = true) (h3 : IntKind.i64.wrap (P + 2) = A1) (ho : decide (A1 ≤ l) = o) : Calls Tryz.prog 33 #[.int .u8 f, .agg (rg neg s x true)] w fun r w' => r = .returned (.bool o) ∧ Below w.heap.size w w' := by
  have hat := cw_at 6
  have hz := cw6z
  have hff := cw6f
  have hs0 := st0
  have hcs : ∀ x, ((cw 6 x).size = 6) = True := fun x => eq_true (cw_size 6 x)
  have hp1 := rgf
  have hp3 := rgz
  have hp5 : ∀ (c : Bool) (s : Nat) (x : Int) (r : Bool), ((rg c s x r).size = 9) = True := fun _ _ _ _ => eq_true rfl
  obtain ⟨Rx_0, B0⟩ := opn1 w (Obj.cells (rg neg s x true) 64)
  go_enter Tryz.func33, Tryz.ntmps33
  obtain ⟨cx_0_0, cx_0_1, cx_0_2, cx_0_3, cx_0_4, cx_0_5, cx_0_6, cx_0_7, cx_0_8⟩ := rg_cells Rx_0
  go_wp2_with fail
  refine (KL.out _).mono ?_
  rintro r w1 ⟨rfl, b1⟩
  have B1 : Below w.heap.size w w1 := btr B0 b1
  have Rx_1 := heap_of b1 _ _ _ Rx_0
  clear b1 B0 Rx_0 cx_0_0 cx_0_1 cx_0_2 cx_0_3 cx_0_4 cx_0_5 cx_0_6 cx_0_7 cx_0_8
  obtain ⟨cx_1_0, cx_1_1, cx_1_2, cx_1_3, cx_1_4, cx_1_5, cx_1_6, cx_1_7, cx_1_8⟩ := rg_cells Rx_1
  go_wp2_with fail
  refine (KP.out _).mono ?_
  rintro r w2 ⟨rfl, b2⟩
  have B2 : Below w.heap.size w w2 := btr B1 b2
  have Rx_2 := heap_of b2 _ _ _ Rx_1
  clear b2 B1 Rx_1 cx_1_0 cx_1_1 cx_1_2 cx_1_3 cx_1_4 cx_1_5 cx_1_6 cx_1_7 cx_1_8
  obtain ⟨cx_2_0, cx_2_1, cx_2_2, cx_2_3, cx_2_4, cx_2_5, cx_2_6, cx_2_7, cx_2_8⟩ := rg_cells Rx_2
  go_wp2
  go_ret
  exact ⟨rfl, B2⟩
set_option maxRecDepth 100000 in
set_option maxHeartbeats 4000000 in
theorem rh_value_no (neg : Bool) (s : Nat) (x : Int) (ns : ByteArray) (rb : Bool) (u v : ByteArray) (re : Int) (w : World)
    (K1 : Box (∀ w, Calls Tryz.prog 35 #[.agg (cw 6 s)] w fun r w' => r = .returned (.string ns) ∧ Below w.heap.size w w'))
    (K2 : Box (∀ w, Calls Tryz.prog 38 #[.bool neg, .string ns, .string ⟨#[1]⟩, .int .i64 x] w fun r w' => r = .returned (.tuple #[.agg #[.bool rb, .string u, .string v, .int .i64 re], .int .i64 0]) ∧ Below w.heap.size w w')) : Calls Tryz.prog 91 #[.agg (rg neg s x false)] w fun r w' => r = .returned (.tuple #[.agg #[.bool rb, .string u, .string v, .int .i64 re], .bool true]) ∧ Below w.heap.size w w' := by
  have hat := cw_at 6
  have hz := cw6z
  have hff := cw6f
  have hs0 := st0
  have hcs : ∀ x, ((cw 6 x).size = 6) = True := fun x => eq_true (cw_size 6 x)
  have hp1 := rgf
  have hp3 := rgz
  have hp5 : ∀ (c : Bool) (s : Nat) (x : Int) (r : Bool), ((rg c s x r).size = 9) = True := fun _ _ _ _ => eq_true rfl
  obtain ⟨Rx_0, Rz_0, B0⟩ := opn2 w (Obj.cells (rg neg s x false) 64) (Obj.cells #[.bool false, .string ⟨#[]⟩, .string ⟨#[]⟩, .int .i64 0] 41)
  go_enter Tryz.func91, Tryz.ntmps91
  obtain ⟨cx_0_0, cx_0_1, cx_0_2, cx_0_3, cx_0_4, cx_0_5, cx_0_6, cx_0_7, cx_0_8⟩ := rg_cells Rx_0
  obtain ⟨cz_0_0, cz_0_1, cz_0_2, cz_0_3⟩ := cells4s Rz_0
  go_wp2_with fail
  refine (K1.out _).mono ?_
  rintro r w1 ⟨rfl, b1⟩
  have B1 : Below w.heap.size w w1 := btr B0 b1
  have Rx_1 := heap_of b1 _ _ _ Rx_0
  have Rz_1 := heap_of b1 _ _ _ Rz_0
  clear b1 B0 Rx_0 cx_0_0 cx_0_1 cx_0_2 cx_0_3 cx_0_4 cx_0_5 cx_0_6 cx_0_7 cx_0_8 Rz_0 cz_0_0 cz_0_1 cz_0_2 cz_0_3
  obtain ⟨cx_1_0, cx_1_1, cx_1_2, cx_1_3, cx_1_4, cx_1_5, cx_1_6, cx_1_7, cx_1_8⟩ := rg_cells Rx_1
  obtain ⟨cz_1_0, cz_1_1, cz_1_2, cz_1_3⟩ := cells4s Rz_1
  go_wp2_with fail
  refine (K2.out _).mono ?_
  rintro r w2 ⟨rfl, b2⟩
  have B2 : Below w.heap.size w w2 := btr B1 b2
  have Rx_2 := heap_of b2 _ _ _ Rx_1
  have Rz_2 := heap_of b2 _ _ _ Rz_1
  clear b2 B1 Rx_1 cx_1_0 cx_1_1 cx_1_2 cx_1_3 cx_1_4 cx_1_5 cx_1_6 cx_1_7 cx_1_8 Rz_1 cz_1_0 cz_1_1 cz_1_2 cz_1_3
  obtain ⟨cx_2_0, cx_2_1, cx_2_2, cx_2_3, cx_2_4, cx_2_5, cx_2_6, cx_2_7, cx_2_8⟩ := rg_cells Rx_2
  obtain ⟨cz_2_0, cz_2_1, cz_2_2, cz_2_3⟩ := cells4s Rz_2
  have S3 := box B2.size
  have Lx_3 : Box (w.heap.size < w2.heap.size) := box (Array.getElem?_eq_some_iff.1 Rx_2).1
  have Lz_3 : Box (w.heap.size + 1 < w2.heap.size) := box (Array.getElem?_eq_some_iff.1 Rz_2).1
  have Rv_3 := heap_alloc_last w2 (Obj.cells #[.bool rb, .string u, .string v, .int .i64 re] 41)
  have B3 := btr B2 (bal w2 (Obj.cells #[.bool rb, .string u, .string v, .int .i64 re] 41))
  have Rx_3 := heap_of (bal w2 (Obj.cells #[.bool rb, .string u, .string v, .int .i64 re] 41)) _ _ _ Rx_2
  have Rz_3 := heap_of (bal w2 (Obj.cells #[.bool rb, .string u, .string v, .int .i64 re] 41)) _ _ _ Rz_2
  clear B2 Rx_2 cx_2_0 cx_2_1 cx_2_2 cx_2_3 cx_2_4 cx_2_5 cx_2_6 cx_2_7 cx_2_8 Rz_2 cz_2_0 cz_2_1 cz_2_2 cz_2_3
  obtain ⟨cx_3_0, cx_3_1, cx_3_2, cx_3_3, cx_3_4, cx_3_5, cx_3_6, cx_3_7, cx_3_8⟩ := rg_cells Rx_3
  obtain ⟨cz_3_0, cz_3_1, cz_3_2, cz_3_3⟩ := cells4s Rz_3
  obtain ⟨cv_3_0, cv_3_1, cv_3_2, cv_3_3⟩ := cells4s Rv_3
  have q0 := fz (k := 0) Rz_3
  have q1 := fz (k := 1) Rz_3
  have q2 := fz (k := 2) Rz_3
  have q3 := fz (k := 3) Rz_3
  obtain ⟨E0, E1, E2, E3⟩ := set4_cells Rz_3 rfl (.bool rb) (.string u) (.string v) (.int .i64 re)
  go_wp2
  exact bodyPost_ret (v := .tuple #[.agg #[.bool rb, .string u, .string v, .int .i64 re], .bool true]) (by simp [results, Tryz.results91, go_sem, E0, E1, E2, E3]) rfl ⟨rfl, set4_below B3 (by first | exact Nat.le_refl _ | omega | (have := S3.out; have := Lx_3.out; have := Lz_3.out; omega)) _ _ _ _⟩
set_option maxRecDepth 100000 in
set_option maxHeartbeats 4000000 in
theorem rh_value_more (neg : Bool) (s : Nat) (x : Int) (ns ds es : ByteArray) (c1 c2 : Int) (rb : Bool) (u v : ByteArray) (re : Int) (w : World)
    (K1 : Box (∀ w, Calls Tryz.prog 35 #[.agg (cw 6 s)] w fun r w' => r = .returned (.string ns) ∧ Below w.heap.size w w'))
    (K3 : Box (∀ w, Calls Tryz.prog 34 #[.string ns, .int .i64 1] w fun r w' => r = .returned (.tuple #[.string ds, .int .i64 c1]) ∧ Below w.heap.size w w'))
    (K4 : Box (∀ w, Calls Tryz.prog 36 #[.string ds, .string ⟨#[1]⟩] w fun r w' => r = .returned (.tuple #[.string es, .int .i64 c2]) ∧ Below w.heap.size w w'))
    (K2 : Box (∀ w, Calls Tryz.prog 38 #[.bool neg, .string es, .string ⟨#[2]⟩, .int .i64 x] w fun r w' => r = .returned (.tuple #[.agg #[.bool rb, .string u, .string v, .int .i64 re], .int .i64 0]) ∧ Below w.heap.size w w')) : Calls Tryz.prog 91 #[.agg (rg neg s x true)] w fun r w' => r = .returned (.tuple #[.agg #[.bool rb, .string u, .string v, .int .i64 re], .bool true]) ∧ Below w.heap.size w w' := by
  have hat := cw_at 6
  have hz := cw6z
  have hff := cw6f
  have hs0 := st0
  have hcs : ∀ x, ((cw 6 x).size = 6) = True := fun x => eq_true (cw_size 6 x)
  have hp1 := rgf
  have hp3 := rgz
  have hp5 : ∀ (c : Bool) (s : Nat) (x : Int) (r : Bool), ((rg c s x r).size = 9) = True := fun _ _ _ _ => eq_true rfl
  obtain ⟨Rx_0, Rz_0, B0⟩ := opn2 w (Obj.cells (rg neg s x true) 64) (Obj.cells #[.bool false, .string ⟨#[]⟩, .string ⟨#[]⟩, .int .i64 0] 41)
  go_enter Tryz.func91, Tryz.ntmps91
  obtain ⟨cx_0_0, cx_0_1, cx_0_2, cx_0_3, cx_0_4, cx_0_5, cx_0_6, cx_0_7, cx_0_8⟩ := rg_cells Rx_0
  obtain ⟨cz_0_0, cz_0_1, cz_0_2, cz_0_3⟩ := cells4s Rz_0
  go_wp2_with fail
  refine (K1.out _).mono ?_
  rintro r w1 ⟨rfl, b1⟩
  have B1 : Below w.heap.size w w1 := btr B0 b1
  have Rx_1 := heap_of b1 _ _ _ Rx_0
  have Rz_1 := heap_of b1 _ _ _ Rz_0
  clear b1 B0 Rx_0 cx_0_0 cx_0_1 cx_0_2 cx_0_3 cx_0_4 cx_0_5 cx_0_6 cx_0_7 cx_0_8 Rz_0 cz_0_0 cz_0_1 cz_0_2 cz_0_3
  obtain ⟨cx_1_0, cx_1_1, cx_1_2, cx_1_3, cx_1_4, cx_1_5, cx_1_6, cx_1_7, cx_1_8⟩ := rg_cells Rx_1
  obtain ⟨cz_1_0, cz_1_1, cz_1_2, cz_1_3⟩ := cells4s Rz_1
  go_wp2_with fail
  refine (K3.out _).mono ?_
  rintro r w2 ⟨rfl, b2⟩
  have B2 : Below w.heap.size w w2 := btr B1 b2
  have Rx_2 := heap_of b2 _ _ _ Rx_1
  have Rz_2 := heap_of b2 _ _ _ Rz_1
  clear b2 B1 Rx_1 cx_1_0 cx_1_1 cx_1_2 cx_1_3 cx_1_4 cx_1_5 cx_1_6 cx_1_7 cx_1_8 Rz_1 cz_1_0 cz_1_1 cz_1_2 cz_1_3
  obtain ⟨cx_2_0, cx_2_1, cx_2_2, cx_2_3, cx_2_4, cx_2_5, cx_2_6, cx_2_7, cx_2_8⟩ := rg_cells Rx_2
  obtain ⟨cz_2_0, cz_2_1, cz_2_2, cz_2_3⟩ := cells4s Rz_2
  go_wp2_with fail
  refine (K4.out _).mono ?_
  rintro r w3 ⟨rfl, b3⟩
  have B3 : Below w.heap.size w w3 := btr B2 b3
  have Rx_3 := heap_of b3 _ _ _ Rx_2
  have Rz_3 := heap_of b3 _ _ _ Rz_2
  clear b3 B2 Rx_2 cx_2_0 cx_2_1 cx_2_2 cx_2_3 cx_2_4 cx_2_5 cx_2_6 cx_2_7 cx_2_8 Rz_2 cz_2_0 cz_2_1 cz_2_2 cz_2_3
  obtain ⟨cx_3_0, cx_3_1, cx_3_2, cx_3_3, cx_3_4, cx_3_5, cx_3_6, cx_3_7, cx_3_8⟩ := rg_cells Rx_3
  obtain ⟨cz_3_0, cz_3_1, cz_3_2, cz_3_3⟩ := cells4s Rz_3
  go_wp2_with fail
  refine (K2.out _).mono ?_
  rintro r w4 ⟨rfl, b4⟩
  have B4 : Below w.heap.size w w4 := btr B3 b4
  have Rx_4 := heap_of b4 _ _ _ Rx_3
  have Rz_4 := heap_of b4 _ _ _ Rz_3
  clear b4 B3 Rx_3 cx_3_0 cx_3_1 cx_3_2 cx_3_3 cx_3_4 cx_3_5 cx_3_6 cx_3_7 cx_3_8 Rz_3 cz_3_0 cz_3_1 cz_3_2 cz_3_3
  obtain ⟨cx_4_0, cx_4_1, cx_4_2, cx_4_3, cx_4_4, cx_4_5, cx_4_6, cx_4_7, cx_4_8⟩ := rg_cells Rx_4
  obtain ⟨cz_4_0, cz_4_1, cz_4_2, cz_4_3⟩ := cells4s Rz_4
  have S5 := box B4.size
  have Lx_5 : Box (w.heap.size < w4.heap.size) := box (Array.getElem?_eq_some_iff.1 Rx_4).1
  have Lz_5 : Box (w.heap.size + 1 < w4.heap.size) := box (Array.getElem?_eq_some_iff.1 Rz_4).1
  have Rv_5 := heap_alloc_last w4 (Obj.cells #[.bool rb, .string u, .string v, .int .i64 re] 41)
  have B5 := btr B4 (bal w4 (Obj.cells #[.bool rb, .string u, .string v, .int .i64 re] 41))
  have Rx_5 := heap_of (bal w4 (Obj.cells #[.bool rb, .string u, .string v, .int .i64 re] 41)) _ _ _ Rx_4
  have Rz_5 := heap_of (bal w4 (Obj.cells #[.bool rb, .string u, .string v, .int .i64 re] 41)) _ _ _ Rz_4
  clear B4 Rx_4 cx_4_0 cx_4_1 cx_4_2 cx_4_3 cx_4_4 cx_4_5 cx_4_6 cx_4_7 cx_4_8 Rz_4 cz_4_0 cz_4_1 cz_4_2 cz_4_3
  obtain ⟨cx_5_0, cx_5_1, cx_5_2, cx_5_3, cx_5_4, cx_5_5, cx_5_6, cx_5_7, cx_5_8⟩ := rg_cells Rx_5
  obtain ⟨cz_5_0, cz_5_1, cz_5_2, cz_5_3⟩ := cells4s Rz_5
  obtain ⟨cv_5_0, cv_5_1, cv_5_2, cv_5_3⟩ := cells4s Rv_5
  have q0 := fz (k := 0) Rz_5
  have q1 := fz (k := 1) Rz_5
  have q2 := fz (k := 2) Rz_5
  have q3 := fz (k := 3) Rz_5
  obtain ⟨E0, E1, E2, E3⟩ := set4_cells Rz_5 rfl (.bool rb) (.string u) (.string v) (.int .i64 re)
  go_wp2
  exact bodyPost_ret (v := .tuple #[.agg #[.bool rb, .string u, .string v, .int .i64 re], .bool true]) (by simp [results, Tryz.results91, go_sem, E0, E1, E2, E3]) rfl ⟨rfl, set4_below B5 (by first | exact Nat.le_refl _ | omega | (have := S5.out; have := Lx_5.out; have := Lz_5.out; omega)) _ _ _ _⟩
set_option maxRecDepth 100000 in
set_option maxHeartbeats 4000000 in
theorem rh_pack_a (f m : Int) (neg : Bool) (s : Nat) (x : Int) (more : Bool) (w : World)
    (KR : Box (∀ w, Calls Tryz.prog 14 #[.int .u8 f] w fun r w' => r = .returned (.bool false) ∧ Below w.heap.size w w'))
    : Calls Tryz.prog 31 #[.int .u8 f, .int .u8 m, .agg (rg neg s x more)] w fun r w' => r = .returned (.tuple #[.agg #[.int .u64 0, .int .u64 0], .int .u8 0, .int .i64 2]) ∧ Below w.heap.size w w' := by
  have hat := cw_at 6
  have hz := cw6z
  have hff := cw6f
  have hs0 := st0
  have hcs : ∀ x, ((cw 6 x).size = 6) = True := fun x => eq_true (cw_size 6 x)
  have hp1 := rgf
  have hp3 := rgz
  have hp5 : ∀ (c : Bool) (s : Nat) (x : Int) (r : Bool), ((rg c s x r).size = 9) = True := fun _ _ _ _ => eq_true rfl
  obtain ⟨Rx_0, Rz_0, B0⟩ := opn2 w (Obj.cells (rg neg s x more) 64) (Obj.cells #[.int .u64 0, .int .u64 0] 25)
  go_enter Tryz.func31, Tryz.ntmps31
  obtain ⟨cx_0_0, cx_0_1, cx_0_2, cx_0_3, cx_0_4, cx_0_5, cx_0_6, cx_0_7, cx_0_8⟩ := rg_cells Rx_0
  obtain ⟨cz_0_0, cz_0_1⟩ := cells2s Rz_0
  go_wp2_with fail
  refine (KR.out _).mono ?_
  rintro r w1 ⟨rfl, b1⟩
  have B1 : Below w.heap.size w w1 := btr B0 b1
  have Rx_1 := heap_of b1 _ _ _ Rx_0
  have Rz_1 := heap_of b1 _ _ _ Rz_0
  clear b1 B0 Rx_0 cx_0_0 cx_0_1 cx_0_2 cx_0_3 cx_0_4 cx_0_5 cx_0_6 cx_0_7 cx_0_8 Rz_0 cz_0_0 cz_0_1
  obtain ⟨cx_1_0, cx_1_1, cx_1_2, cx_1_3, cx_1_4, cx_1_5, cx_1_6, cx_1_7, cx_1_8⟩ := rg_cells Rx_1
  obtain ⟨cz_1_0, cz_1_1⟩ := cells2s Rz_1
  have q0 := fz (k := 0) Rz_1
  have q1 := fz (k := 1) Rz_1
  obtain ⟨E0, E1⟩ := set2_cells Rz_1 (.int .u64 0) (.int .u64 0)
  go_wp2
  exact bodyPost_ret (v := .tuple #[.agg #[.int .u64 0, .int .u64 0], .int .u8 0, .int .i64 2]) (by simp [results, Tryz.results31, go_sem, E0, E1]) rfl ⟨rfl, set2_below B1 (by first | exact Nat.le_refl _ | omega | (skip; omega)) _ _⟩
set_option maxRecDepth 100000 in
set_option maxHeartbeats 4000000 in
theorem rh_pack_b (f m : Int) (neg : Bool) (s : Nat) (x : Int) (more : Bool) (w : World)
    (KR : Box (∀ w, Calls Tryz.prog 14 #[.int .u8 f] w fun r w' => r = .returned (.bool true) ∧ Below w.heap.size w w'))
    (KM : Box (∀ w, Calls Tryz.prog 19 #[.int .u8 m] w fun r w' => r = .returned (.bool false) ∧ Below w.heap.size w w'))
    : Calls Tryz.prog 31 #[.int .u8 f, .int .u8 m, .agg (rg neg s x more)] w fun r w' => r = .returned (.tuple #[.agg #[.int .u64 0, .int .u64 0], .int .u8 0, .int .i64 2]) ∧ Below w.heap.size w w' := by
  have hat := cw_at 6
  have hz := cw6z
  have hff := cw6f
  have hs0 := st0
  have hcs : ∀ x, ((cw 6 x).size = 6) = True := fun x => eq_true (cw_size 6 x)
  have hp1 := rgf
  have hp3 := rgz
  have hp5 : ∀ (c : Bool) (s : Nat) (x : Int) (r : Bool), ((rg c s x r).size = 9) = True := fun _ _ _ _ => eq_true rfl
  obtain ⟨Rx_0, Rz_0, B0⟩ := opn2 w (Obj.cells (rg neg s x more) 64) (Obj.cells #[.int .u64 0, .int .u64 0] 25)
  go_enter Tryz.func31, Tryz.ntmps31
  obtain ⟨cx_0_0, cx_0_1, cx_0_2, cx_0_3, cx_0_4, cx_0_5, cx_0_6, cx_0_7, cx_0_8⟩ := rg_cells Rx_0
  obtain ⟨cz_0_0, cz_0_1⟩ := cells2s Rz_0
  go_wp2_with fail
  refine (KR.out _).mono ?_
  rintro r w1 ⟨rfl, b1⟩
  have B1 : Below w.heap.size w w1 := btr B0 b1
  have Rx_1 := heap_of b1 _ _ _ Rx_0
  have Rz_1 := heap_of b1 _ _ _ Rz_0
  clear b1 B0 Rx_0 cx_0_0 cx_0_1 cx_0_2 cx_0_3 cx_0_4 cx_0_5 cx_0_6 cx_0_7 cx_0_8 Rz_0 cz_0_0 cz_0_1
  obtain ⟨cx_1_0, cx_1_1, cx_1_2, cx_1_3, cx_1_4, cx_1_5, cx_1_6, cx_1_7, cx_1_8⟩ := rg_cells Rx_1
  obtain ⟨cz_1_0, cz_1_1⟩ := cells2s Rz_1
  go_wp2_with fail
  refine (KM.out _).mono ?_
  rintro r w2 ⟨rfl, b2⟩
  have B2 : Below w.heap.size w w2 := btr B1 b2
  have Rx_2 := heap_of b2 _ _ _ Rx_1
  have Rz_2 := heap_of b2 _ _ _ Rz_1
  clear b2 B1 Rx_1 cx_1_0 cx_1_1 cx_1_2 cx_1_3 cx_1_4 cx_1_5 cx_1_6 cx_1_7 cx_1_8 Rz_1 cz_1_0 cz_1_1
  obtain ⟨cx_2_0, cx_2_1, cx_2_2, cx_2_3, cx_2_4, cx_2_5, cx_2_6, cx_2_7, cx_2_8⟩ := rg_cells Rx_2
  obtain ⟨cz_2_0, cz_2_1⟩ := cells2s Rz_2
  have q0 := fz (k := 0) Rz_2
  have q1 := fz (k := 1) Rz_2
  obtain ⟨E0, E1⟩ := set2_cells Rz_2 (.int .u64 0) (.int .u64 0)
  go_wp2
  exact bodyPost_ret (v := .tuple #[.agg #[.int .u64 0, .int .u64 0], .int .u8 0, .int .i64 2]) (by simp [results, Tryz.results31, go_sem, E0, E1]) rfl ⟨rfl, set2_below B2 (by first | exact Nat.le_refl _ | omega | (skip; omega)) _ _⟩
set_option maxRecDepth 100000 in
set_option maxHeartbeats 4000000 in
theorem rh_pack_c (f m : Int) (neg : Bool) (s : Nat) (x : Int) (more : Bool) (w : World)
    (KR : Box (∀ w, Calls Tryz.prog 14 #[.int .u8 f] w fun r w' => r = .returned (.bool true) ∧ Below w.heap.size w w'))
    (KM : Box (∀ w, Calls Tryz.prog 19 #[.int .u8 m] w fun r w' => r = .returned (.bool true) ∧ Below w.heap.size w w'))
    (KY : Box (∀ w, Calls Tryz.prog 33 #[.int .u8 f, .agg (rg neg s x more)] w fun r w' => r = .returned (.bool false) ∧ Below w.heap.size w w'))
    : Calls Tryz.prog 31 #[.int .u8 f, .int .u8 m, .agg (rg neg s x more)] w fun r w' => r = .returned (.tuple #[.agg #[.int .u64 0, .int .u64 0], .int .u8 0, .int .i64 2]) ∧ Below w.heap.size w w' := by
  have hat := cw_at 6
  have hz := cw6z
  have hff := cw6f
  have hs0 := st0
  have hcs : ∀ x, ((cw 6 x).size = 6) = True := fun x => eq_true (cw_size 6 x)
  have hp1 := rgf
  have hp3 := rgz
  have hp5 : ∀ (c : Bool) (s : Nat) (x : Int) (r : Bool), ((rg c s x r).size = 9) = True := fun _ _ _ _ => eq_true rfl
  obtain ⟨Rx_0, Rz_0, B0⟩ := opn2 w (Obj.cells (rg neg s x more) 64) (Obj.cells #[.int .u64 0, .int .u64 0] 25)
  go_enter Tryz.func31, Tryz.ntmps31
  obtain ⟨cx_0_0, cx_0_1, cx_0_2, cx_0_3, cx_0_4, cx_0_5, cx_0_6, cx_0_7, cx_0_8⟩ := rg_cells Rx_0
  obtain ⟨cz_0_0, cz_0_1⟩ := cells2s Rz_0
  go_wp2_with fail
  refine (KR.out _).mono ?_
  rintro r w1 ⟨rfl, b1⟩
  have B1 : Below w.heap.size w w1 := btr B0 b1
  have Rx_1 := heap_of b1 _ _ _ Rx_0
  have Rz_1 := heap_of b1 _ _ _ Rz_0
  clear b1 B0 Rx_0 cx_0_0 cx_0_1 cx_0_2 cx_0_3 cx_0_4 cx_0_5 cx_0_6 cx_0_7 cx_0_8 Rz_0 cz_0_0 cz_0_1
  obtain ⟨cx_1_0, cx_1_1, cx_1_2, cx_1_3, cx_1_4, cx_1_5, cx_1_6, cx_1_7, cx_1_8⟩ := rg_cells Rx_1
  obtain ⟨cz_1_0, cz_1_1⟩ := cells2s Rz_1
  go_wp2_with fail
  refine (KM.out _).mono ?_
  rintro r w2 ⟨rfl, b2⟩
  have B2 : Below w.heap.size w w2 := btr B1 b2
  have Rx_2 := heap_of b2 _ _ _ Rx_1
  have Rz_2 := heap_of b2 _ _ _ Rz_1
  clear b2 B1 Rx_1 cx_1_0 cx_1_1 cx_1_2 cx_1_3 cx_1_4 cx_1_5 cx_1_6 cx_1_7 cx_1_8 Rz_1 cz_1_0 cz_1_1
  obtain ⟨cx_2_0, cx_2_1, cx_2_2, cx_2_3, cx_2_4, cx_2_5, cx_2_6, cx_2_7, cx_2_8⟩ := rg_cells Rx_2
  obtain ⟨cz_2_0, cz_2_1⟩ := cells2s Rz_2
  go_wp2_with fail
  refine (KY.out _).mono ?_
  rintro r w3 ⟨rfl, b3⟩
  have B3 : Below w.heap.size w w3 := btr B2 b3
  have Rx_3 := heap_of b3 _ _ _ Rx_2
  have Rz_3 := heap_of b3 _ _ _ Rz_2
  clear b3 B2 Rx_2 cx_2_0 cx_2_1 cx_2_2 cx_2_3 cx_2_4 cx_2_5 cx_2_6 cx_2_7 cx_2_8 Rz_2 cz_2_0 cz_2_1
  obtain ⟨cx_3_0, cx_3_1, cx_3_2, cx_3_3, cx_3_4, cx_3_5, cx_3_6, cx_3_7, cx_3_8⟩ := rg_cells Rx_3
  obtain ⟨cz_3_0, cz_3_1⟩ := cells2s Rz_3
  have q0 := fz (k := 0) Rz_3
  have q1 := fz (k := 1) Rz_3
  obtain ⟨E0, E1⟩ := set2_cells Rz_3 (.int .u64 0) (.int .u64 0)
  go_wp2
  exact bodyPost_ret (v := .tuple #[.agg #[.int .u64 0, .int .u64 0], .int .u8 0, .int .i64 2]) (by simp [results, Tryz.results31, go_sem, E0, E1]) rfl ⟨rfl, set2_below B3 (by first | exact Nat.le_refl _ | omega | (skip; omega)) _ _⟩
set_option maxRecDepth 100000 in
set_option maxHeartbeats 4000000 in
theorem rh_pack_zero (f m : Int) (neg : Bool) (s : Nat) (x : Int) (more : Bool) (u v : Nat) (w : World) (hz : (s = 0) = True) (hQ : s < Q) (hQ0 : 0 < Q)
    (KR : Box (∀ w, Calls Tryz.prog 14 #[.int .u8 f] w fun r w' => r = .returned (.bool true) ∧ Below w.heap.size w w'))
    (KM : Box (∀ w, Calls Tryz.prog 19 #[.int .u8 m] w fun r w' => r = .returned (.bool true) ∧ Below w.heap.size w w'))
    (KY : Box (∀ w, Calls Tryz.prog 33 #[.int .u8 f, .agg (rg neg s x more)] w fun r w' => r = .returned (.bool true) ∧ Below w.heap.size w w'))
    (KZ : Box (∀ w, Calls Tryz.prog 90 #[.int .u8 f, .bool neg] w fun r w' => r = .returned (.agg #[.int .u64 (u : Nat), .int .u64 (v : Nat)]) ∧ Below w.heap.size w w'))
    : Calls Tryz.prog 31 #[.int .u8 f, .int .u8 m, .agg (rg neg s x more)] w fun r w' => r = .returned (.tuple #[.agg #[.int .u64 (u : Nat), .int .u64 (v : Nat)], .int .u8 0, .int .i64 0]) ∧ Below w.heap.size w w' := by
  have hat := cw_at 6
  have hz := cw6z
  have hff := cw6f
  have hs0 := st0
  have hcs : ∀ x, ((cw 6 x).size = 6) = True := fun x => eq_true (cw_size 6 x)
  have hp1 := rgf
  have hp3 := rgz
  have hp5 : ∀ (c : Bool) (s : Nat) (x : Int) (r : Bool), ((rg c s x r).size = 9) = True := fun _ _ _ _ => eq_true rfl
  have heq := eq6
  have hg := eqg6
  obtain ⟨Rx_0, Rz_0, B0⟩ := opn2 w (Obj.cells (rg neg s x more) 64) (Obj.cells #[.int .u64 0, .int .u64 0] 25)
  go_enter Tryz.func31, Tryz.ntmps31
  obtain ⟨cx_0_0, cx_0_1, cx_0_2, cx_0_3, cx_0_4, cx_0_5, cx_0_6, cx_0_7, cx_0_8⟩ := rg_cells Rx_0
  obtain ⟨cz_0_0, cz_0_1⟩ := cells2s Rz_0
  go_wp2_with fail
  refine (KR.out _).mono ?_
  rintro r w1 ⟨rfl, b1⟩
  have B1 : Below w.heap.size w w1 := btr B0 b1
  have Rx_1 := heap_of b1 _ _ _ Rx_0
  have Rz_1 := heap_of b1 _ _ _ Rz_0
  clear b1 B0 Rx_0 cx_0_0 cx_0_1 cx_0_2 cx_0_3 cx_0_4 cx_0_5 cx_0_6 cx_0_7 cx_0_8 Rz_0 cz_0_0 cz_0_1
  obtain ⟨cx_1_0, cx_1_1, cx_1_2, cx_1_3, cx_1_4, cx_1_5, cx_1_6, cx_1_7, cx_1_8⟩ := rg_cells Rx_1
  obtain ⟨cz_1_0, cz_1_1⟩ := cells2s Rz_1
  go_wp2_with fail
  refine (KM.out _).mono ?_
  rintro r w2 ⟨rfl, b2⟩
  have B2 : Below w.heap.size w w2 := btr B1 b2
  have Rx_2 := heap_of b2 _ _ _ Rx_1
  have Rz_2 := heap_of b2 _ _ _ Rz_1
  clear b2 B1 Rx_1 cx_1_0 cx_1_1 cx_1_2 cx_1_3 cx_1_4 cx_1_5 cx_1_6 cx_1_7 cx_1_8 Rz_1 cz_1_0 cz_1_1
  obtain ⟨cx_2_0, cx_2_1, cx_2_2, cx_2_3, cx_2_4, cx_2_5, cx_2_6, cx_2_7, cx_2_8⟩ := rg_cells Rx_2
  obtain ⟨cz_2_0, cz_2_1⟩ := cells2s Rz_2
  go_wp2_with fail
  refine (KY.out _).mono ?_
  rintro r w3 ⟨rfl, b3⟩
  have B3 : Below w.heap.size w w3 := btr B2 b3
  have Rx_3 := heap_of b3 _ _ _ Rx_2
  have Rz_3 := heap_of b3 _ _ _ Rz_2
  clear b3 B2 Rx_2 cx_2_0 cx_2_1 cx_2_2 cx_2_3 cx_2_4 cx_2_5 cx_2_6 cx_2_7 cx_2_8 Rz_2 cz_2_0 cz_2_1
  obtain ⟨cx_3_0, cx_3_1, cx_3_2, cx_3_3, cx_3_4, cx_3_5, cx_3_6, cx_3_7, cx_3_8⟩ := rg_cells Rx_3
  obtain ⟨cz_3_0, cz_3_1⟩ := cells2s Rz_3
  go_wp2_with fail
  refine (KZ.out _).mono ?_
  rintro r w4 ⟨rfl, b4⟩
  have B4 : Below w.heap.size w w4 := btr B3 b4
  have Rx_4 := heap_of b4 _ _ _ Rx_3
  have Rz_4 := heap_of b4 _ _ _ Rz_3
  clear b4 B3 Rx_3 cx_3_0 cx_3_1 cx_3_2 cx_3_3 cx_3_4 cx_3_5 cx_3_6 cx_3_7 cx_3_8 Rz_3 cz_3_0 cz_3_1
  obtain ⟨cx_4_0, cx_4_1, cx_4_2, cx_4_3, cx_4_4, cx_4_5, cx_4_6, cx_4_7, cx_4_8⟩ := rg_cells Rx_4
  obtain ⟨cz_4_0, cz_4_1⟩ := cells2s Rz_4
  have q0 := fz (k := 0) Rz_4
  have q1 := fz (k := 1) Rz_4
  obtain ⟨E0, E1⟩ := set2_cells Rz_4 (.int .u64 (u : Nat)) (.int .u64 (v : Nat))
  go_wp2
  exact bodyPost_ret (v := .tuple #[.agg #[.int .u64 (u : Nat), .int .u64 (v : Nat)], .int .u8 0, .int .i64 0]) (by simp [results, Tryz.results31, go_sem, E0, E1]) rfl ⟨rfl, set2_below B4 (by first | exact Nat.le_refl _ | omega | (skip; omega)) _ _⟩
set_option maxRecDepth 100000 in
set_option maxHeartbeats 4000000 in
theorem rh_pack_mid (f m : Int) (neg : Bool) (s : Nat) (x : Int) (more : Bool) (rb : Bool) (a c : ByteArray) (re fl : Int) (u v : Nat) (w : World) (hz : (s = 0) = False) (hQ : s < Q) (hQ0 : 0 < Q) (h1 : decide (20000 < x) = false) (h2 : decide (x < -20000) = false)
    (KR : Box (∀ w, Calls Tryz.prog 14 #[.int .u8 f] w fun r w' => r = .returned (.bool true) ∧ Below w.heap.size w w'))
    (KM : Box (∀ w, Calls Tryz.prog 19 #[.int .u8 m] w fun r w' => r = .returned (.bool true) ∧ Below w.heap.size w w'))
    (KY : Box (∀ w, Calls Tryz.prog 33 #[.int .u8 f, .agg (rg neg s x more)] w fun r w' => r = .returned (.bool true) ∧ Below w.heap.size w w'))
    (KV : Box (∀ w, Calls Tryz.prog 91 #[.agg (rg neg s x more)] w fun r w' => r = .returned (.tuple #[.agg #[.bool rb, .string a, .string c, .int .i64 re], .bool true]) ∧ Below w.heap.size w w'))
    (KD : Box (∀ w, Calls Tryz.prog 92 #[.int .u8 f, .int .u8 m, .agg #[.bool rb, .string a, .string c, .int .i64 re]] w fun r w' => r = .returned (.tuple #[.agg #[.int .u64 (u : Nat), .int .u64 (v : Nat)], .int .u8 fl, .int .i64 0]) ∧ Below w.heap.size w w'))
    : Calls Tryz.prog 31 #[.int .u8 f, .int .u8 m, .agg (rg neg s x more)] w fun r w' => r = .returned (.tuple #[.agg #[.int .u64 (u : Nat), .int .u64 (v : Nat)], .int .u8 fl, .int .i64 0]) ∧ Below w.heap.size w w' := by
  have hat := cw_at 6
  have hz := cw6z
  have hff := cw6f
  have hs0 := st0
  have hcs : ∀ x, ((cw 6 x).size = 6) = True := fun x => eq_true (cw_size 6 x)
  have hp1 := rgf
  have hp3 := rgz
  have hp5 : ∀ (c : Bool) (s : Nat) (x : Int) (r : Bool), ((rg c s x r).size = 9) = True := fun _ _ _ _ => eq_true rfl
  have heq := eq6
  have hg := eqg6
  obtain ⟨Rx_0, Rz_0, B0⟩ := opn2 w (Obj.cells (rg neg s x more) 64) (Obj.cells #[.int .u64 0, .int .u64 0] 25)
  go_enter Tryz.func31, Tryz.ntmps31
  obtain ⟨cx_0_0, cx_0_1, cx_0_2, cx_0_3, cx_0_4, cx_0_5, cx_0_6, cx_0_7, cx_0_8⟩ := rg_cells Rx_0
  obtain ⟨cz_0_0, cz_0_1⟩ := cells2s Rz_0
  go_wp2_with fail
  refine (KR.out _).mono ?_
  rintro r w1 ⟨rfl, b1⟩
  have B1 : Below w.heap.size w w1 := btr B0 b1
  have Rx_1 := heap_of b1 _ _ _ Rx_0
  have Rz_1 := heap_of b1 _ _ _ Rz_0
  clear b1 B0 Rx_0 cx_0_0 cx_0_1 cx_0_2 cx_0_3 cx_0_4 cx_0_5 cx_0_6 cx_0_7 cx_0_8 Rz_0 cz_0_0 cz_0_1
  obtain ⟨cx_1_0, cx_1_1, cx_1_2, cx_1_3, cx_1_4, cx_1_5, cx_1_6, cx_1_7, cx_1_8⟩ := rg_cells Rx_1
  obtain ⟨cz_1_0, cz_1_1⟩ := cells2s Rz_1
  go_wp2_with fail
  refine (KM.out _).mono ?_
  rintro r w2 ⟨rfl, b2⟩
  have B2 : Below w.heap.size w w2 := btr B1 b2
  have Rx_2 := heap_of b2 _ _ _ Rx_1
  have Rz_2 := heap_of b2 _ _ _ Rz_1
  clear b2 B1 Rx_1 cx_1_0 cx_1_1 cx_1_2 cx_1_3 cx_1_4 cx_1_5 cx_1_6 cx_1_7 cx_1_8 Rz_1 cz_1_0 cz_1_1
  obtain ⟨cx_2_0, cx_2_1, cx_2_2, cx_2_3, cx_2_4, cx_2_5, cx_2_6, cx_2_7, cx_2_8⟩ := rg_cells Rx_2
  obtain ⟨cz_2_0, cz_2_1⟩ := cells2s Rz_2
  go_wp2_with fail
  refine (KY.out _).mono ?_
  rintro r w3 ⟨rfl, b3⟩
  have B3 : Below w.heap.size w w3 := btr B2 b3
  have Rx_3 := heap_of b3 _ _ _ Rx_2
  have Rz_3 := heap_of b3 _ _ _ Rz_2
  clear b3 B2 Rx_2 cx_2_0 cx_2_1 cx_2_2 cx_2_3 cx_2_4 cx_2_5 cx_2_6 cx_2_7 cx_2_8 Rz_2 cz_2_0 cz_2_1
  obtain ⟨cx_3_0, cx_3_1, cx_3_2, cx_3_3, cx_3_4, cx_3_5, cx_3_6, cx_3_7, cx_3_8⟩ := rg_cells Rx_3
  obtain ⟨cz_3_0, cz_3_1⟩ := cells2s Rz_3
  go_wp2_with fail
  refine (KV.out _).mono ?_
  rintro r w4 ⟨rfl, b4⟩
  have B4 : Below w.heap.size w w4 := btr B3 b4
  have Rx_4 := heap_of b4 _ _ _ Rx_3
  have Rz_4 := heap_of b4 _ _ _ Rz_3
  clear b4 B3 Rx_3 cx_3_0 cx_3_1 cx_3_2 cx_3_3 cx_3_4 cx_3_5 cx_3_6 cx_3_7 cx_3_8 Rz_3 cz_3_0 cz_3_1
  obtain ⟨cx_4_0, cx_4_1, cx_4_2, cx_4_3, cx_4_4, cx_4_5, cx_4_6, cx_4_7, cx_4_8⟩ := rg_cells Rx_4
  obtain ⟨cz_4_0, cz_4_1⟩ := cells2s Rz_4
  have S5 := box B4.size
  have Lx_5 : Box (w.heap.size < w4.heap.size) := box (Array.getElem?_eq_some_iff.1 Rx_4).1
  have Lz_5 : Box (w.heap.size + 1 < w4.heap.size) := box (Array.getElem?_eq_some_iff.1 Rz_4).1
  have Rv_5 := heap_alloc_last w4 (Obj.cells #[.bool rb, .string a, .string c, .int .i64 re] 41)
  have B5 := btr B4 (bal w4 (Obj.cells #[.bool rb, .string a, .string c, .int .i64 re] 41))
  have Rx_5 := heap_of (bal w4 (Obj.cells #[.bool rb, .string a, .string c, .int .i64 re] 41)) _ _ _ Rx_4
  have Rz_5 := heap_of (bal w4 (Obj.cells #[.bool rb, .string a, .string c, .int .i64 re] 41)) _ _ _ Rz_4
  clear B4 Rx_4 cx_4_0 cx_4_1 cx_4_2 cx_4_3 cx_4_4 cx_4_5 cx_4_6 cx_4_7 cx_4_8 Rz_4 cz_4_0 cz_4_1
  obtain ⟨cx_5_0, cx_5_1, cx_5_2, cx_5_3, cx_5_4, cx_5_5, cx_5_6, cx_5_7, cx_5_8⟩ := rg_cells Rx_5
  obtain ⟨cz_5_0, cz_5_1⟩ := cells2s Rz_5
  obtain ⟨cv_5_0, cv_5_1, cv_5_2, cv_5_3⟩ := cells4s Rv_5
  go_wp2_with fail
  refine (KD.out _).mono ?_
  rintro r w6 ⟨rfl, b6⟩
  have B6 : Below w.heap.size w w6 := btr B5 b6
  have Rx_6 := heap_of b6 _ _ _ Rx_5
  have Rz_6 := heap_of b6 _ _ _ Rz_5
  have Rv_6 := heap_of b6 _ _ _ Rv_5
  clear b6 B5 Rx_5 cx_5_0 cx_5_1 cx_5_2 cx_5_3 cx_5_4 cx_5_5 cx_5_6 cx_5_7 cx_5_8 Rz_5 cz_5_0 cz_5_1 Rv_5 cv_5_0 cv_5_1 cv_5_2 cv_5_3
  obtain ⟨cx_6_0, cx_6_1, cx_6_2, cx_6_3, cx_6_4, cx_6_5, cx_6_6, cx_6_7, cx_6_8⟩ := rg_cells Rx_6
  obtain ⟨cz_6_0, cz_6_1⟩ := cells2s Rz_6
  obtain ⟨cv_6_0, cv_6_1, cv_6_2, cv_6_3⟩ := cells4s Rv_6
  have q0 := fz (k := 0) Rz_6
  have q1 := fz (k := 1) Rz_6
  obtain ⟨E0, E1⟩ := set2_cells Rz_6 (.int .u64 (u : Nat)) (.int .u64 (v : Nat))
  go_wp2
  exact bodyPost_ret (v := .tuple #[.agg #[.int .u64 (u : Nat), .int .u64 (v : Nat)], .int .u8 fl, .int .i64 0]) (by simp [results, Tryz.results31, go_sem, E0, E1]) rfl ⟨rfl, set2_below B6 (by first | exact Nat.le_refl _ | omega | (have := S5.out; have := Lx_5.out; have := Lz_5.out; omega)) _ _⟩
set_option maxRecDepth 100000 in
set_option maxHeartbeats 4000000 in
theorem rh_pack_hi (f m : Int) (neg : Bool) (s : Nat) (x : Int) (more : Bool) (rb : Bool) (a c : ByteArray) (re fl : Int) (u v : Nat) (w : World) (hz : (s = 0) = False) (hQ : s < Q) (hQ0 : 0 < Q) (h1 : decide (20000 < x) = true)
    (KR : Box (∀ w, Calls Tryz.prog 14 #[.int .u8 f] w fun r w' => r = .returned (.bool true) ∧ Below w.heap.size w w'))
    (KM : Box (∀ w, Calls Tryz.prog 19 #[.int .u8 m] w fun r w' => r = .returned (.bool true) ∧ Below w.heap.size w w'))
    (KY : Box (∀ w, Calls Tryz.prog 33 #[.int .u8 f, .agg (rg neg s x more)] w fun r w' => r = .returned (.bool true) ∧ Below w.heap.size w w'))
    (KV : Box (∀ w, Calls Tryz.prog 91 #[.agg (rg neg s 20000 more)] w fun r w' => r = .returned (.tuple #[.agg #[.bool rb, .string a, .string c, .int .i64 re], .bool true]) ∧ Below w.heap.size w w'))
    (KD : Box (∀ w, Calls Tryz.prog 92 #[.int .u8 f, .int .u8 m, .agg #[.bool rb, .string a, .string c, .int .i64 re]] w fun r w' => r = .returned (.tuple #[.agg #[.int .u64 (u : Nat), .int .u64 (v : Nat)], .int .u8 fl, .int .i64 0]) ∧ Below w.heap.size w w'))
    : Calls Tryz.prog 31 #[.int .u8 f, .int .u8 m, .agg (rg neg s x more)] w fun r w' => r = .returned (.tuple #[.agg #[.int .u64 (u : Nat), .int .u64 (v : Nat)], .int .u8 fl, .int .i64 0]) ∧ Below w.heap.size w w' := by
  have hat := cw_at 6
  have hz := cw6z
  have hff := cw6f
  have hs0 := st0
  have hcs : ∀ x, ((cw 6 x).size = 6) = True := fun x => eq_true (cw_size 6 x)
  have hp1 := rgf
  have hp3 := rgz
  have hp5 : ∀ (c : Bool) (s : Nat) (x : Int) (r : Bool), ((rg c s x r).size = 9) = True := fun _ _ _ _ => eq_true rfl
  have heq := eq6
  have hg := eqg6
  obtain ⟨Rx_0, Rz_0, B0⟩ := opn2 w (Obj.cells (rg neg s x more) 64) (Obj.cells #[.int .u64 0, .int .u64 0] 25)
  go_enter Tryz.func31, Tryz.ntmps31
  obtain ⟨cx_0_0, cx_0_1, cx_0_2, cx_0_3, cx_0_4, cx_0_5, cx_0_6, cx_0_7, cx_0_8⟩ := rg_cells Rx_0
  obtain ⟨cz_0_0, cz_0_1⟩ := cells2s Rz_0
  go_wp2_with fail
  refine (KR.out _).mono ?_
  rintro r w1 ⟨rfl, b1⟩
  have B1 : Below w.heap.size w w1 := btr B0 b1
  have Rx_1 := heap_of b1 _ _ _ Rx_0
  have Rz_1 := heap_of b1 _ _ _ Rz_0
  clear b1 B0 Rx_0 cx_0_0 cx_0_1 cx_0_2 cx_0_3 cx_0_4 cx_0_5 cx_0_6 cx_0_7 cx_0_8 Rz_0 cz_0_0 cz_0_1
  obtain ⟨cx_1_0, cx_1_1, cx_1_2, cx_1_3, cx_1_4, cx_1_5, cx_1_6, cx_1_7, cx_1_8⟩ := rg_cells Rx_1
  obtain ⟨cz_1_0, cz_1_1⟩ := cells2s Rz_1
  go_wp2_with fail
  refine (KM.out _).mono ?_
  rintro r w2 ⟨rfl, b2⟩
  have B2 : Below w.heap.size w w2 := btr B1 b2
  have Rx_2 := heap_of b2 _ _ _ Rx_1
  have Rz_2 := heap_of b2 _ _ _ Rz_1
  clear b2 B1 Rx_1 cx_1_0 cx_1_1 cx_1_2 cx_1_3 cx_1_4 cx_1_5 cx_1_6 cx_1_7 cx_1_8 Rz_1 cz_1_0 cz_1_1
  obtain ⟨cx_2_0, cx_2_1, cx_2_2, cx_2_3, cx_2_4, cx_2_5, cx_2_6, cx_2_7, cx_2_8⟩ := rg_cells Rx_2
  obtain ⟨cz_2_0, cz_2_1⟩ := cells2s Rz_2
  go_wp2_with fail
  refine (KY.out _).mono ?_
  rintro r w3 ⟨rfl, b3⟩
  have B3 : Below w.heap.size w w3 := btr B2 b3
  have Rx_3 := heap_of b3 _ _ _ Rx_2
  have Rz_3 := heap_of b3 _ _ _ Rz_2
  clear b3 B2 Rx_2 cx_2_0 cx_2_1 cx_2_2 cx_2_3 cx_2_4 cx_2_5 cx_2_6 cx_2_7 cx_2_8 Rz_2 cz_2_0 cz_2_1
  obtain ⟨cx_3_0, cx_3_1, cx_3_2, cx_3_3, cx_3_4, cx_3_5, cx_3_6, cx_3_7, cx_3_8⟩ := rg_cells Rx_3
  obtain ⟨cz_3_0, cz_3_1⟩ := cells2s Rz_3
  have qx_3 := fz (k := 7) Rx_3
  have B4 : Below w.heap.size w (w3.setCell ⟨w.heap.size, 7, none⟩ (.int .i64 20000)) := B3.setCell (by first | exact Nat.le_refl _ | (skip; show w.heap.size ≤ w.heap.size; omega)) _
  have Rx_4 : (w3.setCell ⟨w.heap.size, 7, none⟩ (.int .i64 20000)).heap[w.heap.size]? = some (Obj.cells (rg neg s 20000 more) 64) := by rw [setCell_row Rx_3]; rw [rg_set7]
  have Rz_4 : (w3.setCell ⟨w.heap.size, 7, none⟩ (.int .i64 20000)).heap[w.heap.size + 1]? = some (Obj.cells #[.int .u64 0, .int .u64 0] 25) := by rw [setCell_other (by first | omega | (skip; omega))]; exact Rz_3
  obtain ⟨cx_4_0, cx_4_1, cx_4_2, cx_4_3, cx_4_4, cx_4_5, cx_4_6, cx_4_7, cx_4_8⟩ := rg_cells Rx_4
  obtain ⟨cz_4_0, cz_4_1⟩ := cells2s Rz_4
  go_wp2_with fail
  refine (KV.out _).mono ?_
  rintro r w5 ⟨rfl, b5⟩
  have B5 : Below w.heap.size w w5 := btr B4 b5
  have Rx_5 := heap_of b5 _ _ _ Rx_4
  have Rz_5 := heap_of b5 _ _ _ Rz_4
  clear b5 B4 Rx_4 cx_4_0 cx_4_1 cx_4_2 cx_4_3 cx_4_4 cx_4_5 cx_4_6 cx_4_7 cx_4_8 Rz_4 cz_4_0 cz_4_1
  obtain ⟨cx_5_0, cx_5_1, cx_5_2, cx_5_3, cx_5_4, cx_5_5, cx_5_6, cx_5_7, cx_5_8⟩ := rg_cells Rx_5
  obtain ⟨cz_5_0, cz_5_1⟩ := cells2s Rz_5
  have S6 := box B5.size
  have Lx_6 : Box (w.heap.size < w5.heap.size) := box (Array.getElem?_eq_some_iff.1 Rx_5).1
  have Lz_6 : Box (w.heap.size + 1 < w5.heap.size) := box (Array.getElem?_eq_some_iff.1 Rz_5).1
  have Rv_6 := heap_alloc_last w5 (Obj.cells #[.bool rb, .string a, .string c, .int .i64 re] 41)
  have B6 := btr B5 (bal w5 (Obj.cells #[.bool rb, .string a, .string c, .int .i64 re] 41))
  have Rx_6 := heap_of (bal w5 (Obj.cells #[.bool rb, .string a, .string c, .int .i64 re] 41)) _ _ _ Rx_5
  have Rz_6 := heap_of (bal w5 (Obj.cells #[.bool rb, .string a, .string c, .int .i64 re] 41)) _ _ _ Rz_5
  clear B5 Rx_5 cx_5_0 cx_5_1 cx_5_2 cx_5_3 cx_5_4 cx_5_5 cx_5_6 cx_5_7 cx_5_8 Rz_5 cz_5_0 cz_5_1
  obtain ⟨cx_6_0, cx_6_1, cx_6_2, cx_6_3, cx_6_4, cx_6_5, cx_6_6, cx_6_7, cx_6_8⟩ := rg_cells Rx_6
  obtain ⟨cz_6_0, cz_6_1⟩ := cells2s Rz_6
  obtain ⟨cv_6_0, cv_6_1, cv_6_2, cv_6_3⟩ := cells4s Rv_6
  go_wp2_with fail
  refine (KD.out _).mono ?_
  rintro r w7 ⟨rfl, b7⟩
  have B7 : Below w.heap.size w w7 := btr B6 b7
  have Rx_7 := heap_of b7 _ _ _ Rx_6
  have Rz_7 := heap_of b7 _ _ _ Rz_6
  have Rv_7 := heap_of b7 _ _ _ Rv_6
  clear b7 B6 Rx_6 cx_6_0 cx_6_1 cx_6_2 cx_6_3 cx_6_4 cx_6_5 cx_6_6 cx_6_7 cx_6_8 Rz_6 cz_6_0 cz_6_1 Rv_6 cv_6_0 cv_6_1 cv_6_2 cv_6_3
  obtain ⟨cx_7_0, cx_7_1, cx_7_2, cx_7_3, cx_7_4, cx_7_5, cx_7_6, cx_7_7, cx_7_8⟩ := rg_cells Rx_7
  obtain ⟨cz_7_0, cz_7_1⟩ := cells2s Rz_7
  obtain ⟨cv_7_0, cv_7_1, cv_7_2, cv_7_3⟩ := cells4s Rv_7
  have q0 := fz (k := 0) Rz_7
  have q1 := fz (k := 1) Rz_7
  obtain ⟨E0, E1⟩ := set2_cells Rz_7 (.int .u64 (u : Nat)) (.int .u64 (v : Nat))
  go_wp2
  exact bodyPost_ret (v := .tuple #[.agg #[.int .u64 (u : Nat), .int .u64 (v : Nat)], .int .u8 fl, .int .i64 0]) (by simp [results, Tryz.results31, go_sem, E0, E1]) rfl ⟨rfl, set2_below B7 (by first | exact Nat.le_refl _ | omega | (have := S6.out; have := Lx_6.out; have := Lz_6.out; omega)) _ _⟩
set_option maxRecDepth 100000 in
set_option maxHeartbeats 4000000 in
theorem rh_pack_lo (f m : Int) (neg : Bool) (s : Nat) (x : Int) (more : Bool) (rb : Bool) (a c : ByteArray) (re fl : Int) (u v : Nat) (w : World) (hz : (s = 0) = False) (hQ : s < Q) (hQ0 : 0 < Q) (h1 : decide (20000 < x) = false) (h2 : decide (x < -20000) = true)
    (KR : Box (∀ w, Calls Tryz.prog 14 #[.int .u8 f] w fun r w' => r = .returned (.bool true) ∧ Below w.heap.size w w'))
    (KM : Box (∀ w, Calls Tryz.prog 19 #[.int .u8 m] w fun r w' => r = .returned (.bool true) ∧ Below w.heap.size w w'))
    (KY : Box (∀ w, Calls Tryz.prog 33 #[.int .u8 f, .agg (rg neg s x more)] w fun r w' => r = .returned (.bool true) ∧ Below w.heap.size w w'))
    (KV : Box (∀ w, Calls Tryz.prog 91 #[.agg (rg neg s (-20000) more)] w fun r w' => r = .returned (.tuple #[.agg #[.bool rb, .string a, .string c, .int .i64 re], .bool true]) ∧ Below w.heap.size w w'))
    (KD : Box (∀ w, Calls Tryz.prog 92 #[.int .u8 f, .int .u8 m, .agg #[.bool rb, .string a, .string c, .int .i64 re]] w fun r w' => r = .returned (.tuple #[.agg #[.int .u64 (u : Nat), .int .u64 (v : Nat)], .int .u8 fl, .int .i64 0]) ∧ Below w.heap.size w w'))
    : Calls Tryz.prog 31 #[.int .u8 f, .int .u8 m, .agg (rg neg s x more)] w fun r w' => r = .returned (.tuple #[.agg #[.int .u64 (u : Nat), .int .u64 (v : Nat)], .int .u8 fl, .int .i64 0]) ∧ Below w.heap.size w w' := by
  have hat := cw_at 6
  have hz := cw6z
  have hff := cw6f
  have hs0 := st0
  have hcs : ∀ x, ((cw 6 x).size = 6) = True := fun x => eq_true (cw_size 6 x)
  have hp1 := rgf
  have hp3 := rgz
  have hp5 : ∀ (c : Bool) (s : Nat) (x : Int) (r : Bool), ((rg c s x r).size = 9) = True := fun _ _ _ _ => eq_true rfl
  have heq := eq6
  have hg := eqg6
  obtain ⟨Rx_0, Rz_0, B0⟩ := opn2 w (Obj.cells (rg neg s x more) 64) (Obj.cells #[.int .u64 0, .int .u64 0] 25)
  go_enter Tryz.func31, Tryz.ntmps31
  obtain ⟨cx_0_0, cx_0_1, cx_0_2, cx_0_3, cx_0_4, cx_0_5, cx_0_6, cx_0_7, cx_0_8⟩ := rg_cells Rx_0
  obtain ⟨cz_0_0, cz_0_1⟩ := cells2s Rz_0
  go_wp2_with fail
  refine (KR.out _).mono ?_
  rintro r w1 ⟨rfl, b1⟩
  have B1 : Below w.heap.size w w1 := btr B0 b1
  have Rx_1 := heap_of b1 _ _ _ Rx_0
  have Rz_1 := heap_of b1 _ _ _ Rz_0
  clear b1 B0 Rx_0 cx_0_0 cx_0_1 cx_0_2 cx_0_3 cx_0_4 cx_0_5 cx_0_6 cx_0_7 cx_0_8 Rz_0 cz_0_0 cz_0_1
  obtain ⟨cx_1_0, cx_1_1, cx_1_2, cx_1_3, cx_1_4, cx_1_5, cx_1_6, cx_1_7, cx_1_8⟩ := rg_cells Rx_1
  obtain ⟨cz_1_0, cz_1_1⟩ := cells2s Rz_1
  go_wp2_with fail
  refine (KM.out _).mono ?_
  rintro r w2 ⟨rfl, b2⟩
  have B2 : Below w.heap.size w w2 := btr B1 b2
  have Rx_2 := heap_of b2 _ _ _ Rx_1
  have Rz_2 := heap_of b2 _ _ _ Rz_1
  clear b2 B1 Rx_1 cx_1_0 cx_1_1 cx_1_2 cx_1_3 cx_1_4 cx_1_5 cx_1_6 cx_1_7 cx_1_8 Rz_1 cz_1_0 cz_1_1
  obtain ⟨cx_2_0, cx_2_1, cx_2_2, cx_2_3, cx_2_4, cx_2_5, cx_2_6, cx_2_7, cx_2_8⟩ := rg_cells Rx_2
  obtain ⟨cz_2_0, cz_2_1⟩ := cells2s Rz_2
  go_wp2_with fail
  refine (KY.out _).mono ?_
  rintro r w3 ⟨rfl, b3⟩
  have B3 : Below w.heap.size w w3 := btr B2 b3
  have Rx_3 := heap_of b3 _ _ _ Rx_2
  have Rz_3 := heap_of b3 _ _ _ Rz_2
  clear b3 B2 Rx_2 cx_2_0 cx_2_1 cx_2_2 cx_2_3 cx_2_4 cx_2_5 cx_2_6 cx_2_7 cx_2_8 Rz_2 cz_2_0 cz_2_1
  obtain ⟨cx_3_0, cx_3_1, cx_3_2, cx_3_3, cx_3_4, cx_3_5, cx_3_6, cx_3_7, cx_3_8⟩ := rg_cells Rx_3
  obtain ⟨cz_3_0, cz_3_1⟩ := cells2s Rz_3
  have qx_3 := fz (k := 7) Rx_3
  have B4 : Below w.heap.size w (w3.setCell ⟨w.heap.size, 7, none⟩ (.int .i64 (-20000))) := B3.setCell (by first | exact Nat.le_refl _ | (skip; show w.heap.size ≤ w.heap.size; omega)) _
  have Rx_4 : (w3.setCell ⟨w.heap.size, 7, none⟩ (.int .i64 (-20000))).heap[w.heap.size]? = some (Obj.cells (rg neg s (-20000) more) 64) := by rw [setCell_row Rx_3]; rw [rg_set7]
  have Rz_4 : (w3.setCell ⟨w.heap.size, 7, none⟩ (.int .i64 (-20000))).heap[w.heap.size + 1]? = some (Obj.cells #[.int .u64 0, .int .u64 0] 25) := by rw [setCell_other (by first | omega | (skip; omega))]; exact Rz_3
  obtain ⟨cx_4_0, cx_4_1, cx_4_2, cx_4_3, cx_4_4, cx_4_5, cx_4_6, cx_4_7, cx_4_8⟩ := rg_cells Rx_4
  obtain ⟨cz_4_0, cz_4_1⟩ := cells2s Rz_4
  go_wp2_with fail
  refine (KV.out _).mono ?_
  rintro r w5 ⟨rfl, b5⟩
  have B5 : Below w.heap.size w w5 := btr B4 b5
  have Rx_5 := heap_of b5 _ _ _ Rx_4
  have Rz_5 := heap_of b5 _ _ _ Rz_4
  clear b5 B4 Rx_4 cx_4_0 cx_4_1 cx_4_2 cx_4_3 cx_4_4 cx_4_5 cx_4_6 cx_4_7 cx_4_8 Rz_4 cz_4_0 cz_4_1
  obtain ⟨cx_5_0, cx_5_1, cx_5_2, cx_5_3, cx_5_4, cx_5_5, cx_5_6, cx_5_7, cx_5_8⟩ := rg_cells Rx_5
  obtain ⟨cz_5_0, cz_5_1⟩ := cells2s Rz_5
  have S6 := box B5.size
  have Lx_6 : Box (w.heap.size < w5.heap.size) := box (Array.getElem?_eq_some_iff.1 Rx_5).1
  have Lz_6 : Box (w.heap.size + 1 < w5.heap.size) := box (Array.getElem?_eq_some_iff.1 Rz_5).1
  have Rv_6 := heap_alloc_last w5 (Obj.cells #[.bool rb, .string a, .string c, .int .i64 re] 41)
  have B6 := btr B5 (bal w5 (Obj.cells #[.bool rb, .string a, .string c, .int .i64 re] 41))
  have Rx_6 := heap_of (bal w5 (Obj.cells #[.bool rb, .string a, .string c, .int .i64 re] 41)) _ _ _ Rx_5
  have Rz_6 := heap_of (bal w5 (Obj.cells #[.bool rb, .string a, .string c, .int .i64 re] 41)) _ _ _ Rz_5
  clear B5 Rx_5 cx_5_0 cx_5_1 cx_5_2 cx_5_3 cx_5_4 cx_5_5 cx_5_6 cx_5_7 cx_5_8 Rz_5 cz_5_0 cz_5_1
  obtain ⟨cx_6_0, cx_6_1, cx_6_2, cx_6_3, cx_6_4, cx_6_5, cx_6_6, cx_6_7, cx_6_8⟩ := rg_cells Rx_6
  obtain ⟨cz_6_0, cz_6_1⟩ := cells2s Rz_6
  obtain ⟨cv_6_0, cv_6_1, cv_6_2, cv_6_3⟩ := cells4s Rv_6
  go_wp2_with fail
  refine (KD.out _).mono ?_
  rintro r w7 ⟨rfl, b7⟩
  have B7 : Below w.heap.size w w7 := btr B6 b7
  have Rx_7 := heap_of b7 _ _ _ Rx_6
  have Rz_7 := heap_of b7 _ _ _ Rz_6
  have Rv_7 := heap_of b7 _ _ _ Rv_6
  clear b7 B6 Rx_6 cx_6_0 cx_6_1 cx_6_2 cx_6_3 cx_6_4 cx_6_5 cx_6_6 cx_6_7 cx_6_8 Rz_6 cz_6_0 cz_6_1 Rv_6 cv_6_0 cv_6_1 cv_6_2 cv_6_3
  obtain ⟨cx_7_0, cx_7_1, cx_7_2, cx_7_3, cx_7_4, cx_7_5, cx_7_6, cx_7_7, cx_7_8⟩ := rg_cells Rx_7
  obtain ⟨cz_7_0, cz_7_1⟩ := cells2s Rz_7
  obtain ⟨cv_7_0, cv_7_1, cv_7_2, cv_7_3⟩ := cells4s Rv_7
  have q0 := fz (k := 0) Rz_7
  have q1 := fz (k := 1) Rz_7
  obtain ⟨E0, E1⟩ := set2_cells Rz_7 (.int .u64 (u : Nat)) (.int .u64 (v : Nat))
  go_wp2
  exact bodyPost_ret (v := .tuple #[.agg #[.int .u64 (u : Nat), .int .u64 (v : Nat)], .int .u8 fl, .int .i64 0]) (by simp [results, Tryz.results31, go_sem, E0, E1]) rfl ⟨rfl, set2_below B7 (by first | exact Nat.le_refl _ | omega | (have := S6.out; have := Lx_6.out; have := Lz_6.out; omega)) _ _⟩
end Go.Proofs.YtfmmeifipbpbmaaGreatDoor
namespace Go.Proofs.YtfmmeifipbpbmaaGreatDoor
set_option maxRecDepth 100000
open Go.RowKit WMath
set_option linter.unusedSimpArgs false
set_option linter.unusedVariables false

theorem wbit0 (n : Nat) (o : Bool) (ho : decide (n % 2 = 1) = o) (w : World) : Calls Tryz.prog 176 #[.agg (cw 6 n), .int .i64 0] w fun r w' => r = .returned (.bool o) ∧ Below w.heap.size w w' := by
  have hat := cw_at 6
  have hf := cw6f
  obtain ⟨d, hd⟩ : ∃ d, n / 2 ^ 0 % 2 ^ 1 = d := ⟨_, rfl⟩
  have e : ((d : Int) == 1) = o := by
    subst hd ho
    rw [Nat.pow_zero, Nat.div_one, Nat.pow_one, Bool.eq_iff_iff, decide_eq_true_iff, beq_iff_eq]
    omega
  have HD := box hd
  clear hd ho
  have W1 : Box (∀ w : World, Calls Tryz.prog 204 #[.agg (cw 6 n), .int .i64 0, .int .i64 1] w fun r w' => r = .returned (.int .u64 (d : Nat)) ∧ Below w.heap.size w w') := box (fun w => by
    have h := wfield_any n 0 1 (by decide) (by decide) w
    rw [HD.out] at h
    exact h)
  go_enter Tryz.func176, Tryz.ntmps176
  go_wp2_with fail
  refine (W1.out _).mono ?_
  rintro e w1 ⟨rfl, hb⟩
  go_wp2
  go_ret
  exact ⟨rfl, ((Below.refl _ _).alloc (Nat.le_refl _) _).trans (hb.mono (by simp))⟩
theorem not_no {b : Bool} (h : (!b) = false) : b = true := by cases b <;> simp_all
theorem r1_lt {f : Int} (hf : Is4 f) {x : Nat} (h : x ≤ 2 * 2 ^ pV f) : x < Q ∧ x + 1 < Q ∧ blen x ≤ pV f + 2 := by
  obtain ⟨g1, g2, g3, g4, g5, g6, g7⟩ := fm hf
  have p := Nat.two_pow_pos (pV f)
  have k1 : (oV f + 1) * 2 ^ pV f ≥ 4 * 2 ^ pV f := Nat.mul_le_mul_right _ (by omega)
  refine ⟨lt_Q7 (by omega), lt_Q7 (by omega), (blen_iff x _).2 (by rw [Nat.pow_succ, Nat.pow_succ]; omega)⟩
theorem kgrid (f m : Int) (hf : Is4 f) (hm : 0 ≤ m ∧ m ≤ 4) (neg : Bool) (s : Nat) (s0 : s ≠ 0) (hs : s < Q) (x st : Int) (more : Bool) (k : Nat) (x1 : -1100000 ≤ x) (x2 : x ≤ 1100000) (k2 : k ≤ 3000000) (hst : st = x + (blen s : Int) - ((pV f + 1 : Nat) : Int) + (k : Int))
    (K : Nat) (hK : rG m neg (qW (pV f + 1) s) k (qM (pV f + 1) s false) = K) (ex : Bool) (hex : (!(rH (qW (pV f + 1) s) k || rM (qW (pV f + 1) s) k (qM (pV f + 1) s false))) = ex) (w : World) :
    Calls Tryz.prog 82 #[.int .u8 m, .agg (rg neg s x more), .int .i64 st] w fun r w' => r = .returned (.tuple #[.agg (rg neg K st false), .bool ex]) ∧ Below w.heap.size w w' := by
  obtain ⟨n1, n2, n3, n4, n5, n6⟩ := nm8 hf
  obtain ⟨c1, c2, c3, c4⟩ := cut_is (pV f + 1) s x st k s0 hs (by omega) hst
  have lim := rS_lim (q_ok (f := f) s s0) k
  obtain ⟨Z, hZ, eQ⟩ := Qq384
  have bQ : blen s ≤ Z := blen_le_of s Z (by rw [← eQ]; exact hs)
  obtain ⟨R, hR⟩ : ∃ R, s * 2 ^ cnt6 (x - st) = R := ⟨_, rfl⟩
  rw [hR] at c1 c2 c3 c4
  obtain ⟨h, hh⟩ : ∃ h, halfv R (cnt5 (st - x)) = h := ⟨_, rfl⟩
  obtain ⟨lo, hlo⟩ : ∃ lo, decide (Q ≤ s * 2 ^ cnt6 (x - st)) = lo := ⟨_, rfl⟩
  obtain ⟨od, hod⟩ : ∃ od, decide (rS (qW (pV f + 1) s) k % 2 = 1) = od := ⟨_, rfl⟩
  obtain ⟨q1, q2, q3⟩ := r1_lt hf (x := rS (qW (pV f + 1) s) k) (by omega)
  have up : uP m neg od h ex = gO m neg (rO (qW (pV f + 1) s) k) (rH (qW (pV f + 1) s) k) (rM (qW (pV f + 1) s) k (qM (pV f + 1) s false)) := by
    rw [← uP_gO, show rO (qW (pV f + 1) s) k = od from hod, hex]
    cases ex
    · rw [← hh, c4 (not_no hex)]
    · rfl
  rw [hex] at c3
  have K1 : Box (∀ w, Calls Tryz.prog 173 #[.agg (cw 6 s), .int .i64 (x - st)] w fun r w' => r = .returned (.tuple #[.agg (cw 6 R), .bool lo]) ∧ Below w.heap.size w w') := box (fun w => wleft_is s R (x - st) lo hs (by rw [hR, Nat.mod_eq_of_lt c1]) hlo w)
  have K2 : Box (∀ w, Calls Tryz.prog 174 #[.agg (cw 6 R), .int .i64 (st - x)] w fun r w' => r = .returned (.tuple #[.agg (cw 6 (rS (qW (pV f + 1) s) k)), .int .i64 h, .bool ex]) ∧ Below w.heap.size w w') := box (fun w => jcut_is R _ (st - x) h ex c1 c2 hh c3 w)
  have K3 : Box (∀ w, Calls Tryz.prog 176 #[.agg (cw 6 (rS (qW (pV f + 1) s) k)), .int .i64 0] w fun r w' => r = .returned (.bool od) ∧ Below w.heap.size w w') := box (fun w => wbit0 _ _ hod w)
  have w1 : IntKind.i64.wrap (x - st) = x - st := wrap_i64_is _ (by omega) (by omega)
  have w2 : IntKind.i64.wrap (st - x) = st - x := wrap_i64_is _ (by omega) (by omega)
  unfold rG at hK
  by_cases g : gO m neg (rO (qW (pV f + 1) s) k) (rH (qW (pV f + 1) s) k) (rM (qW (pV f + 1) s) k (qM (pV f + 1) s false)) = true
  · rw [if_pos g] at hK
    subst hK
    rw [g] at up
    exact ro_grid_up m st neg s x more R _ _ lo false (x - st) (st - x) h ex od w K1 K2 K3 (box (fun w => ro_up m neg od h ex true up w)) (box (fun w => wof_any 1 (by decide) w)) (box (fun w => wadd_is _ 1 _ false q1 (by have := q2; omega) (Nat.mod_eq_of_lt q2) (decide_eq_false (by omega)) w)) w1 w2
  · rw [if_neg g] at hK
    subst hK
    rw [Bool.not_eq_true] at g
    rw [g] at up
    exact ro_grid_no m st neg s x more R _ lo (x - st) (st - x) h ex od w (box ⟨c1, q1⟩) K1 K2 K3 (box (fun w => ro_up m neg od h ex false up w)) w1 w2
theorem kotop (neg : Bool) (s : Nat) (hs : s < Q) (x : Int) (more : Bool) (x1 : -3000000 ≤ x) (x2 : x ≤ 3000000) (v : Int) (hv : x + (blen s : Int) - 1 = v) (w : World) : Calls Tryz.prog 84 #[.agg (rg neg s x more)] w fun r w' => r = .returned (.int .i64 v) ∧ Below w.heap.size w w' := by
  obtain ⟨Z, hZ, eQ⟩ := Qq384
  have bQ : blen s ≤ Z := blen_le_of s Z (by rw [← eQ]; exact hs)
  exact ro_top neg s x more (blen s : Int) (x + (blen s : Int)) v w (box (fun w => wlen_is s _ hs rfl w)) (wrap_i64_is _ (by omega) (by omega)) (by rw [wrap_i64_is _ (by omega) (by omega)]; exact hv)
theorem kprec (f : Int) (hf : Is4 f) (w : World) (hT : FAt w) : Calls Tryz.prog 172 #[.int .u8 f] w fun r w' => r = .returned (.int .i64 (fP f)) ∧ Below w.heap.size w w' := by
  have f4 := is4_ok hf
  refine (s_precision f _ f4.1 f4.2.1 rfl w hT).mono ?_
  rintro r w' ⟨rfl, rfl⟩
  exact ⟨rfl, bal7 _ _⟩
theorem kemax (f : Int) (hf : Is4 f) (w : World) (hT : FAt w) : Calls Tryz.prog 86 #[.int .u8 f] w fun r w' => r = .returned (.int .i64 (fE f)) ∧ Below w.heap.size w w' := by
  have f4 := is4_ok hf
  refine (s_emax f _ f4.1 f4.2.1 rfl w hT).mono ?_
  rintro r w' ⟨rfl, rfl⟩
  exact ⟨rfl, bal7 _ _⟩
theorem kostep (f : Int) (hf : Is4 f) (T : Int) (h1 : -3000000 ≤ T) (h2 : T ≤ 3000000) (v : Int) (hv : T - fP f + 1 = v) (w : World) (hT : FAt w) : Calls Tryz.prog 83 #[.int .u8 f, .int .i64 T] w fun r w' => r = .returned (.int .i64 v) ∧ Below w.heap.size w w' := by
  have := fP_lim (f := f) rfl
  exact ro_stepAt f T (fP f) (T - fP f) v w (box (fun w hT => kprec f hf w hT)) (wrap_i64_is _ (by omega) (by omega)) (by rw [wrap_i64_is _ (by omega) (by omega)]; exact hv) hT
theorem kocheck (f m : Int) (h0 : 0 ≤ f) (h1 : f ≤ 255) (c : Int) (hc : (if f ≤ 3 ∧ m ≤ 4 then (0 : Int) else 2) = c) (w : World) : Calls Tryz.prog 79 #[.int .u8 f, .int .u8 m] w fun r w' => r = .returned (.int .i64 c) ∧ Below w.heap.size w w' := by
  have K1 : ∀ c, (if f ≤ 3 then (0 : Int) else 2) = c → Box (∀ w, Calls Tryz.prog 57 #[.int .u8 f] w fun r w' => r = .returned (.int .i64 c) ∧ Below w.heap.size w w') := fun c hc => box (fun w => by
    refine bel_same (s_check_is f c h0 h1 ?_ w)
    rw [← hc]
    by_cases h : f ≤ 3
    · rw [if_pos h]; exact fC_yes (is4_of h0 h)
    · rw [if_neg h]; exact fC_no h0 (by unfold Is4; omega))
  have K2 : ∀ c, (if m ≤ 4 then (0 : Int) else 2) = c → Box (∀ w, Calls Tryz.prog 48 #[.int .u8 m] w fun r w' => r = .returned (.int .i64 c) ∧ Below w.heap.size w w') := fun c hc => box (fun w => by
    subst hc
    exact bel_same (s_checkMode m w))
  by_cases c1 : f ≤ 3
  · by_cases c2 : m ≤ 4
    · rw [if_pos ⟨c1, c2⟩] at hc
      subst hc
      exact ro_check_c f m 0 0 w (K1 0 (if_pos c1)) (K2 0 (if_pos c2)) (by decide) (by decide)
    · rw [if_neg (by omega)] at hc
      subst hc
      exact ro_check_b f m 0 2 w (K1 0 (if_pos c1)) (K2 2 (if_neg c2)) (by decide) (by decide)
  · rw [if_neg (by omega)] at hc
    subst hc
    exact ro_check_a f m 2 w (K1 2 (if_neg c1)) (by decide)
theorem is4_le {f : Int} (hf : Is4 f) : f ≤ 3 := by rcases hf with rfl | rfl | rfl | rfl <;> decide
theorem kover (f m : Int) (hf : Is4 f) (hm : 0 ≤ m ∧ m ≤ 4) (neg : Bool) (u v : Nat) (hv : bv7 (ovB f m neg) = (u, v)) (w : World) (hT : FAt w) : Calls Tryz.prog 87 #[.int .u8 f, .int .u8 m, .bool neg] w fun r w' => r = .returned (.tuple #[.agg #[.int .u64 (u : Nat), .int .u64 (v : Nat)], .int .u8 5, .int .i64 0]) ∧ Below w.heap.size w w' := by
  have f4 := is4_ok hf
  have KC : Box (∀ w, Calls Tryz.prog 79 #[.int .u8 f, .int .u8 m] w fun r w' => r = .returned (.int .i64 0) ∧ Below w.heap.size w w') := box (fun w => kocheck f m f4.1 f4.2.1 0 (if_pos ⟨is4_le hf, hm.2⟩) w)
  have up := uP_gO m neg false true true
  obtain ⟨i, j, hij⟩ : ∃ i j, bv7 (eGreatest f neg) = (i, j) := ⟨_, _, rfl⟩
  have KG : Box (∀ w, FAt w → Calls Tryz.prog 180 #[.int .u8 f, .bool neg] w fun r w' => r = .returned (.agg #[.int .u64 (i : Nat), .int .u64 (j : Nat)]) ∧ Below w.heap.size w w') := box (fun w hT => by
    have := s_greatest f neg hf _ rfl w hT
    rw [hij] at this
    exact this)
  unfold ovB at hv
  by_cases g : gO m neg false true true = true
  · rw [if_pos g] at hv
    rw [g] at up
    exact ro_over_inf f m neg i j u v w KC KG (box (fun w => ro_up m neg false 1 false true up w)) (box (fun w hT => sk_inf f neg hf u v hv w hT)) hT
  · rw [if_neg g, hij] at hv
    injection hv with e1 e2
    subst e1 e2
    rw [Bool.not_eq_true] at g
    rw [g] at up
    exact ro_over_gr f m neg i j w KC KG (box (fun w => ro_up m neg false 1 false false up w)) hT
theorem kotiny (f m : Int) (hf : Is4 f) (hm : 0 ≤ m ∧ m ≤ 4) (neg : Bool) (s : Nat) (s0 : s ≠ 0) (hs : s < Q) (x : Int) (more : Bool) (x1 : -1100000 ≤ x) (x2 : x ≤ 1100000) (o : Bool) (ho : tnB f m neg (x + (blen s : Int) - 1) (qW (pV f + 1) s) (qM (pV f + 1) s false) = o) (w : World) (hT : FAt w) :
    Calls Tryz.prog 88 #[.int .u8 f, .int .u8 m, .agg (rg neg s x more)] w fun r w' => r = .returned (.bool o) ∧ Below w.heap.size w w' := by
  obtain ⟨Z, hZ, eQ⟩ := Qq384
  have bQ : blen s ≤ Z := blen_le_of s Z (by rw [← eQ]; exact hs)
  have hp := fp8 hf
  obtain ⟨n1, n2, n3, n4, n5, n6⟩ := nm8 hf
  obtain ⟨K, hK⟩ : ∃ K, rG m neg (qW (pV f + 1) s) 0 (qM (pV f + 1) s false) = K := ⟨_, rfl⟩
  have lim := rG_lim (q_ok (f := f) s s0) m neg 0 (qM (pV f + 1) s false)
  rw [hK] at lim
  obtain ⟨q1, q2, q3⟩ := r1_lt hf lim.1
  unfold tnB at ho
  rw [hK] at ho
  refine ro_tiny f m neg s x more (x + (blen s : Int) - 1) (x + (blen s : Int) - 1 - fP f + 1) (x + (blen s : Int) - 1 - fP f + 1 + (blen K : Int) - 1) (1 - fE f) K _ o w (box (fun w => kotop neg s hs x more (by omega) (by omega) _ rfl w)) (box (fun w hT => kostep f hf _ (by omega) (by omega) _ rfl w hT))
    (box (fun w => kgrid f m hf hm neg s s0 hs x _ more 0 x1 x2 (by omega) (by omega) K hK _ rfl w)) (box (fun w => kotop neg K q1 _ false (by omega) (by omega) _ rfl w)) (box (fun w hT => k_emin f hf w hT)) ?_ hT
  rw [← ho, decide_eq_decide]
  omega
end Go.Proofs.YtfmmeifipbpbmaaGreatDoor
